import Derived.Test.YtgpphkdoanciiaaGreatDoorWAA
import Derived.Conc.WgGenN3
import Derived.Conc.MuWords
import Derived.Conc.CompanyDraw
import Derived.Test.YtgpphkdoanciiaaGreatDoorRows
import Derived.Conc.WgLib
set_option linter.all false
set_option maxRecDepth 1000000
set_option maxHeartbeats 8000000
open Or renaming inl->À,inr->Á
open Go renaming undef->Â,Goroutine->Ä,deafBehind->Ï,World->Ð,execOp->ß,Trace->ä,Value->è,stepG->é,Frame->ù,MemOp->Ă,mem_ready->Ċ,Addr->Č,Event->Ē,getD_set_true->ě,Program->Ĝ,yielded->ģ,TypeId->ĵ,FuncId->Ķ,Oper->ĸ,resolve->ľ,goexitEntry->ŗ,Act->Ř,runT->ř,invoke->ť,callFunc->Ŧ,callDeferred->ų,Item->ŵ,Deferred->ŷ,Operand->ž,unwind->Ξ,Mark->ε,runNT->ν,Code->ρ,Loc->ψ
open Option renaming some->Ã,none->Í,map_eq_some_iff->Ú,isSome_iff_exists->þ,getD_some->Ĉ
open Go.GoStatus renaming running->Å,blocked->Ý,finished->ç
open Nat renaming le_refl->Æ,lt_of_lt_of_le->Ê,le_of_eq->Õ,le_trans->Ù,le_mul_of_pos_right->ã,mul_le_mul_left->ï,lt_of_not_le->ñ,zero_le->ò,add_zero->ó,le_of_not_lt->ą,and_two_pow_sub_one_eq_mod->Ć,mul_le_mul_right->č,strongRecOn->ď,add_mul_mod_self_right->ē,lt_or_ge->Ģ,mod_eq_of_lt->Ń,mul_add->ō,mod_lt->Γ
open Go.Item renaming inRegion->Ç,code->ķ,inBlock->Ś,inLoop->θ
open Option.some renaming inj->È,injEq->ĺ
open Bool renaming false->É,true->Î,and_eq_true->ŋ
open Go.MemAct renaming ofEvent->Ë,touch?->ċ,mark->ę,start->ĳ,go->ae
open Go.Conc.Goes renaming stop->Ì
open Go.ConcN renaming sumTo->Ñ,wraps_u64_63->ö,sumTo_congr->Ō
open Go.Region renaming ready->Ò,Mode->Þ,wanted->â,binds->Ŵ
open Go.IntKind renaming u64->Ó,u32->å,i64->ŀ
open Go.Operand renaming tmp->Ô,const->ì,func->Ľ
open Array renaming getElem?_eq_some_iff->Ö,append_empty->Û,getElem?_eq_getElem->ê,replicate->ë,getElem?_setIfInBounds_ne->í,mem_toList_iff->į
open Go.Conc renaming mem_ofEvents->Ø,crowd->ð,semEvents->õ,woken->Ā,stepG_markAt->ă,stepG_load_atomic->Ą,seen_none->ć,stepG_mark0->Ď,stepG_semacquire_wait->Ī,Goes->Ĵ,deafBehind_still->Ł,parked->ł,stepG_semrelease->ņ,stepG_add_atomic->Ň,stepG_semacquire->ň,stepG_value->Ŏ,rcase->ŝ,stepG_none->ş,goes_go->Ű,stepG_enter->Ż,QuitsD->ſ,touch_mute->Α,stepG_oper->Ν,mem_listed->Ρ,Knows->Υ,listed->π,Deaf->σ
open Go.MemOp renaming ofEvents->Ü
open Go.Ground renaming data->à,phase->Ĥ
open Go.ConcR renaming DC0->á
open Go.Value renaming int->æ,pointer->ø,nilIface->ā,tuple->ń,bool->Δ
open Go.Mark renaming enable->î,disable->ô,releaseMerge->Ĳ,acquire->Ĺ,write->κ
open Go.FrameMode renaming returning->ú
open Go.Act renaming eval->û,put->ś
open Go.Loc renaming cell->ü,mark->Ŷ
open Go.Region.linearise renaming go->ý
open Ne renaming symm->ÿ
open Go.Deferred renaming ofValue->ĉ
open Go.Goroutine renaming again->Đ
open Go.CallKind renaming early->đ,deferred->ŉ
open Go.ConcR.Gen renaming x_semrelease_b->Ĕ,x_semacquire_n->ĕ,x_semacquire_b->Ė,x_semacquire_x->ė,x_semacquire_f->Ę,x_enable_n->ĥ,x_enable_b->Ħ,x_enable_x->ħ,x_enable_f->Ĩ,x_loadU64_n->ī,x_loadU64_b->Ĭ,x_loadU64_x->ĭ,x_loadU64_f->Į,x_disable_n->ŏ,x_disable_b->Ő,x_disable_x->ő,x_disable_f->Œ,x_acquire_n->œ,x_acquire_b->Ŕ,x_acquire_x->ŕ,x_acquire_f->Ŗ,x_semrelease_n->š,x_semrelease_x->Ţ,x_semrelease_f->ţ,nm_uLoad->Ť,mayWake_entry->ū,body_wait->Ů,x_addU64_n->Ε,x_addU64_b->Ζ,x_addU64_x->Η,x_addU64_f->Θ,x_casU64_n->Ι,x_casU64_b->Κ,x_casU64_x->Λ,x_casU64_f->Μ
open Go.GStep renaming after->Ě,go->ũ
open Go.Stepped renaming next->ĝ
open Go.Callee renaming value->ğ
open List renaming all_eq_true->Ġ,any_eq_true->Ŋ,mem_range->Ũ,mem_cons->Ŭ,range->Τ
open Go.Code renaming region->ġ,cond->ι,block->ο,skip->χ
open Go.Frame renaming finish_at->ĩ,enter->ż
open Go.Proofs.Tryz renaming prog->İ,underlying20->Ŀ,func64->Ž
open Go.Op renaming move->ļ,call->Š,fieldAddr->ű,nilCheck->Ÿ,binOp->Ź,equalIn->Ο,assign->η
open Go.Conc.Lib renaming WgLink->Ņ,WgLib->ŭ,uLoadFn->Ų
variable{i n j b k m J j9 j7 j6:Nat}{w u W jX:Ð}{v x z jQ:è}{g:Ä}{a p:Č}{h c:Int}{e t T:ĵ}{d q:Array è}{P:Ĝ}{y:Ř}{B:ByteArray}{X:Nat->Prop}{O:Option Č}{l:List è}{yQ:Bool}{K H:Ř->Ð->Prop}{o:ĸ}{D:Nat->Nat}{E:Array Ä}{L:List ŵ}{jJ:List Nat}{qX:List ù}{qQ:ž}{qJ:ä}{zX:ψ->Prop}{zQ:List Int}{zJ:Go.TypeInfo}{xX:ž->è}{xQ:Go.Tape}{xJ:Nat×Nat}{wX:ρ}{wQ:Ă}{wJ:Array Bool}{vX:List ByteArray}{vQ:è->Ð->Prop}{vJ:Go.Exit->Ř->Ð->Prop}{yX:Þ}{Q:Array ĸ}{f:ù}{V:Array Ē}{F:Ķ}{s:Go.Func}
namespace Go.Proofs.Y.fq
open Go Go.Conc Go.Proofs.Y.Lift
open Go.ConcN (sumTo)
section
variable{F:Ph}{E:fT F}{S:Nat->Jd}{tr:Nat->gq}{c:Nat->iz}{lot:Nat->e9}{gs:Array Ä}{w':Ð}{t u:ä}{sz:Nat}
def xc(h:F.M b):F.G (fL b)/\F.G (gR b):=⟨⟨b,h,À U⟩,⟨b,h,Á U⟩⟩
def xd(h:F.G a):E.Y a.block:=by obtain⟨b,c,rfl|rfl⟩:=h<;>exact À c
def iG.Y(L:iG F E lot sz w)(ok:F.Ok)(f:F.G a):∀i,i<sz->¬(lot i).C a:=by
 intro i g h;let⟨b,c,d⟩:=f;rcases L.gT i g a h with⟨k,_,e⟩|⟨p,_,e⟩
 .rcases d with rfl|rfl<;>simp[fL,gR,jg]at e
 .rcases d with rfl|rfl
  .simp only[fL,jo]at e;injection e with e1 _ _;exact ok.C<|e1▸c
  .simp only[gR,jo]at e;injection e with e1 _ _;exact ok.C<|e1▸c
def iG.sW(L:iG F E lot sz w)(c:Ps F E)(d:j+2<=E.r):∀i,i<sz->∀a:Č,a.block=E.I j->¬(lot i).C a:=by
 intro i f a b g;let⟨h,l,_⟩:=c.o j d;rcases L.gT i f a g with⟨k,m,e⟩|⟨p,_,e⟩
 .exact h<|by rw[<-b,e];exact Á ⟨k,m,U⟩
 .exact l<|by rw[<-b,e];rfl
def iG.agX(L:iG F E lot sz w):∀i,i<sz->∀a,(lot i).C a->a.spot=Í:=by intro i b a c;rcases L.gT i b a c with⟨k,_,rfl⟩|⟨p,_,rfl⟩<;>rfl
def iG.Qp(L:iG F E lot sz w)(ok:F.Ok):∀i,i<sz->¬(lot i).r (jo F F.f):=by
 intro i a h;rcases L.gT i a _ (À h)with⟨k,b,e⟩|⟨p,c,e⟩
 .have:F.Y=F.I k:=by injection e
  exact ok.C<|by rw[this];exact Á ⟨k,b,U⟩
 .have:F.f=p:=by injection e
  exact c this.symm
structure Hu(F:Ph)(E:fT F)(lot:Nat->e9)(sz:Nat)(w w':Ð):Prop where
 EF:w.heap.size<=w'.heap.size
 C:∀b,b<w.heap.size->¬E.Y b->(∀i,i<sz->¬(lot i).O b)->w'.heap[b]?=w.heap[b]?
 r:∀a:Č,((∃k,k<=F.m/\a=jg F.toFx k)\/∃p,a=jo F p)->(∀i,i<sz->¬(lot i).r a)->w'.cell? a=w.cell? a
 I:kV w' F.Y=kV w F.Y
 M:w'.os=w.os/\w'.output=w.output
def Wd.Lh(W:Wd F E w)(H:gS F)(L:iG F E lot sz w)(a:Hu F E lot sz w w')(f:E.S.md<=F.m){d:GS}{e:Nat->GS}(g:ia w' F.C d)(h:∀k,k<=F.m->ia w' (F.I k) (e k))(i:∀j,j+2<=E.r->w'.heap[E.I j]?=w.heap[E.I j]?):Wd F {E with b:=d,a:=e} w' where
 C:=g;I:=h;jI j hj:=by have:=W.jI j hj;rwa[<-i j hj]at this
 M k hk:=⟨(W.M k hk).1,H.S _ _ _ _ _ (W.M k hk).2 (λb c=>a.C b (L.I k hk b c).1 (L.I k hk b c).2.1 (L.I k hk b c).2.2) (a.r _ (À ⟨k,Ù hk f,U⟩)<|L.N k hk) (a.r _ (Á ⟨_,U⟩)<|L.Qp H.C) a.I a.M⟩;S k h1 h2:=(a.r _ (Á ⟨_,U⟩)<|L.g k h1 h2).trans<|W.S k h1 h2;N j hj r hr hd:=(a.r _ (Á ⟨_,U⟩)<|L.d j hj r hr hd).trans<|W.N j hj r hr hd
def Li(a:Ps F E):E.S.md<=F.m:=by
 cases h:E.S with
 |kN k=>exact(a.I k).1 h
 |mk k=>have:=((a.I k).2.1 h).2;simp only[jz.md];omega
 |dn k p=>exact((a.I k).2.2 p h).2
def Lj(a:Ps F E):E.S.rl<=E.S.md:=by
 cases h:E.S with
 |dn k p=>cases p<;>simp only[jz.rl,jz.md]<;>omega
 |_=>exact Æ _
def Qq(a:jz):a.od<=a.rl:=by
 cases a with
 |dn k p=>cases p<;>simp only[jz.rl,jz.od]<;>omega
 |_=>exact Æ _
def XO{x:Nat}(h:E.iw x):E.ow x:=by let⟨e,a,b⟩:=h;exact⟨e,a,by cases e<;>first|exact b|trivial⟩
def Ll{l a:e9}(h:l=kC l)(b:mE l a w w' V):a=kC a:=by
 have j:l.q:=by rw[h];trivial
 have c:a.O=λ_=>False:=by rw[(b.h j).2.2,h];rfl
 have e:a.I=λ_=>False:=by rw[b.rd,h];rfl
 have f:a.r=λ_=>False:=by rw[b.r,h];rfl
 have g:a.N=λ_=>False:=by rw[b.I,h];rfl
 have i:a.q=True:=by rw[b.q,h];rfl
 obtain⟨O,k,m,n,d,q,o⟩:=a;simp only at c e f g i;subst c e f g i;rfl
theorem iG.fj(L:iG F E lot gs.size w)(C:iQ F.S (λi=>i<gs.size) E.Y lot w t){m:e9}(J:i<gs.size)(d:mE (lot i) m w w' V):iG F E (gp lot i m) gs.size w':=by
 have K:∀x,E.ow x->i=F.L+x->m=kC m:=λx p e=>Ll (e▸L.S x p) d;have M:=λc l=>Ll (L.c i c l) d;have B:∀k a,(gp lot i m k).C a↔(lot k).C a:=λk a=>by
  by_cases e:k=i
  .subst e;rw[gU];unfold e9.C;rw[d.r,d.I]
  .rw[gF lot _ e]
 have n:∀k,(gp lot i m k).r=(lot k).r:=λk=>by
  by_cases e:k=i
  .subst e;rw[gU,d.r]
  .rw[gF lot _ e]
 have s:∀k,(gp lot i m k).N=(lot k).N:=λk=>by
  by_cases e:k=i
  .subst e;rw[gU,d.I]
  .rw[gF lot _ e]
 have u:∀k,(gp lot i m k).I=(lot k).I:=λk=>by
  by_cases e:k=i
  .subst e;rw[gU,d.rd]
  .rw[gF lot _ e]
 refine⟨λk f a v=>L.gT k f a<|(B k a).1 v,λx c l a v=>by rw[n];exact L.o x c l a v,λh=>by rw[s,u];exact L.lU h,λh k c l=>by rw[n];exact L.e h k c l,λh o=>by rw[s,u];exact L.f h o,λj g o r y c=>by rw[n];exact L.h j g o r y c,λj g o=>by rw[s,u];exact L.l j g o,λx p=> ?_,λk f=> ?_,λk c l=> ?_,λk f b D=> ?_,λk f j g=>by rw[n];exact L.N k f j g,λk c l j g=>by rw[n];exact L.g k c l j g,λj g r y G k f=>by rw[n];exact L.d j g r y G k f⟩
 .by_cases e:F.L+x=i
  .grind [gU]
  .rw[gF lot _ e];exact L.S x p
 .by_cases e:k=i
  .subst e;rw[gU,d.q];exact L.M k f
  .rw[gF lot _ e];exact L.M k f
 .by_cases e:k=i
  .grind [gU]
  .rw[gF lot _ e];exact L.c k c l
 .let⟨H,I,N⟩:=L.I k f b D;refine⟨Ê H d.C,I,λj g=> ?_⟩;by_cases e:j=i
  .subst e;rw[gU];intro q;rcases d.N b q with z|z;all_goals grind
  .grind [gF]
def agY(C:iQ F.S (λi=>i<gs.size) E.Y lot w t){h:e9}(d:i<gs.size)(c:mE (lot i) h w w' V):Hu F E lot gs.size w w':= ⟨c.C,λb j e f=>c.jT b j (f i d) λa g q=>e<|g▸C.e i d a (À q),λa g f=>by
   have e:E.Y a.block:=by
    rcases g with⟨k,l,rfl⟩|⟨p,rfl⟩
    .exact À<|Á ⟨k,l,U⟩
    .exact Á<|À U
   exact c.M a (C.N _ e) (λq=>C.I i d _ (À q) e)<|f i d,
  c.S (jo F 0) (C.N _ (Á (À U))) λq=>C.I i d _ (À q) (Á (À U)),c.c,c.f⟩
def XP(L:iG F E lot gs.size w)(ok:F.Ok)(C:iQ F.S (λi=>i<gs.size) E.Y lot w t){g:e9}(e:i<gs.size)(c:mE (lot i) g w w' V)(f:F.M b){G:GS}(h:ia w b G):ia w' b G:=by have a:E.Y b:=À f;have d:=λq=>C.I i e _ (À q) a;exact h.vt (c.M (fL b) (C.N _ a) d λq=>(L.Y ok (xc f).1 i e)<|À q) (c.M (gR b) (C.N _ a) d λq=>(L.Y ok (xc f).2 i e)<|À q) (K2<|c.S (fL b) (C.N _ a) d)<|K2<|c.S (gR b) (C.N _ a) d
def agZ(L:iG F E lot gs.size w)(e:Ps F E)(C:iQ F.S (λi=>i<gs.size) E.Y lot w t){f:e9}(b:i<gs.size)(g:mE (lot i) f w w' V)(c:j+2<=E.r):w'.heap[E.I j]?=w.heap[E.I j]?:=by have d:E.Y (E.I j):=Á<|Á ⟨j,c,U⟩;exact g.jT _ (C.N _ d) (λq=>C.I i b _ (À q) d) λa h q=>L.sW e c i b a h<|À q
theorem ag0(L:iG F E lot gs.size w)(H:Ps F E)(ok:F.Ok)(C:iQ F.S (λi=>i<gs.size) E.Y lot w t)(P:gs.size=F.L+E.r){m:e9}{p:Array Ē}{u:Ķ}{B:String}(o:i<gs.size)(g:mE (lot i) m w w' p): Lf F.toFx E.r (E.S.rl) E.V E.d E.iw t (Ü i u B p) i:=by
 have J:∀x,E.iw x->i=F.L+x->m=kC m:=λx l e=>Ll (e▸L.S x (XO l)) g;have D:∀c∈Ü i u B p,∀a,c.act.touch?=Ã a->∃y:Č,a.loc=ü y/\(m.O y.block\/m.r y\/((m.I y.block\/m.N y)/\a.write=É)):=λc d a n=>by obtain⟨e,r,rfl⟩:=Ø d;exact Xu (g.b e r) n
 have I:m=kC m->∀c∈Ü i u B p,c.act.touch?=Í:=λe c d=>by
  cases h:c.act.touch? with
  |none=>rfl
  |some a=>
   let⟨y,_,q⟩:=D c d a h;rw[e]at q;rcases q with q|q|⟨q|q,_⟩<;>exact q.elim
 refine⟨λc d _ _=>ov c d,?_,λc d a x n G l=> ?_,λc d a y n Q G k h s=> ?_,λc d b _ e=> ?_,λx l K=> ?_⟩
 .by_cases j:i=0
  .exact À j
  .by_cases f:i<F.L
   .exact Á<|Á<|I<|(λh s=>Ll (L.c i h s) g) Z f
   .exact Á<|À ⟨i-F.L,Z,Z⟩
 .exfalso;let⟨y,j,q⟩:=D c d a n;rw[G]at j;injection j with j;subst j;have f:=xd (E:=E) l;have v:=L.Y ok l i o;rcases q with q|q|⟨q|q,_⟩
  .rcases g.N _ q with z|z
   .exact C.I i o _ (À z) f
   .have:=C.N _ f;omega
  .exact v<|À<|by rwa[<-g.r]
  .exact C.I i o _ (Á<|by rwa[<-g.rd]) f
  .exact v<|Á<|by rwa[<-g.I]
 .have j:=Ù s<|Lj H;let⟨x,l,q⟩:=D c d a n;rw[G]at l;injection l with l;subst l;rcases q with q|q|⟨_,q⟩
  .refine⟨λv=> ?_,λe=> ?_⟩
   .let⟨M,_,N⟩:=L.I k j _ v;rcases g.N _ q with z|z;all_goals grind
   .have f:E.Y y.block:=by rw[e];exact À<|Á ⟨k,Ù j<|Li H,U⟩
    rcases g.N _ q with z|z
    .exact C.I i o _ (À z) f
    .have:=C.N _ f;omega
  .refine⟨λv=>((L.I k j _ v).2.1<|C.e i o y<|À<|by rwa[<-g.r]),λe=>(L.N k j i o<|by rwa[<-g.r,<-e])⟩
  .grind
 .obtain⟨j,r,rfl⟩:=Ø d;have v:=g.b j r;let⟨M,N,S⟩:=j;simp only[Ë]at e;rcases v with⟨a,h,_⟩|h|⟨f,h⟩|h|h|⟨a,_,h|h|h|h⟩<;>(simp only at h;subst h;simp at e)
 .by_cases e:F.L+x=i
  .have v:=I<|J x K e.symm;refine⟨λr f=>f.app λj S T M=> ?_,λ_ c d a n=>by rw[v c d]at n;cases n⟩;let⟨z,N,_⟩:=M;rcases mS (show touchAt (t++_) j=Ã z from N)with⟨q,_⟩|⟨_,c,h,s,_⟩;all_goals grind
  .exact⟨λr f=>f.appOther ov<|ÿ e,λj=>absurd j e⟩
end
abbrev tZ:=Nat×Nat×gq
def yM(x y:tZ):Prop:=x.1<y.1\/(x.1=y.1/\(x.2.1<y.2.1\/(x.2.1=y.2.1/\Xx x.2.2 y.2.2)))
def XQ:WellFounded yM:=by
 refine⟨λx=> ?_⟩;let⟨a,b,c⟩:=x
 induction a using ď generalizing b c with
 |_ a j=>
  induction b using ď generalizing c with
  |_ b k=>
   induction Xy.apply c with
   |intro c _ l=>
    refine⟨_,λy h=> ?_⟩;let⟨m,f,e⟩:=y;rcases h with h|⟨d,h|⟨g,i⟩⟩
    .exact j m h f e
    .simp only at d h;subst d;exact k f h e
    .simp only at d g i;subst d g;exact l e i
def ag1(x:tZ):¬yM x x:=by
 intro h
 induction XQ.apply x with
 |intro x _ a=>exact a x h h
def Ef(n:Nat)(f g:Nat->tZ):Prop:=∃i,i<n/\yM (f i) (g i)/\∀j,j<n->j≠i->f j=g j\/yM (f j) (g j)
def XR:∀(n:Nat) (g:Nat->tZ),Acc (Ef n) g
 |0,g=>⟨_,λf ⟨i,h,_⟩=>absurd h Z⟩
 |n+1,g=>by
  have k:∀(x:tZ) (h:Nat->tZ),∀g:Nat->tZ,g n=x->(∀j,j<n->g j=h j)->Acc (Ef<|n+1) g:=by
   intro x
   induction XQ.apply x with
   |intro x _ l=>
    intro h
    induction XR n h with
    |intro h _ m=>
     intro g b c;refine⟨_,λf ⟨i,r,a,d⟩=> ?_⟩;by_cases e:f n=g n
     .have s:i≠n:=by
       intro q;subst q;rw[e]at a;exact ag1 _ a
      refine m f ⟨i,Z,by rwa[<-c i Z],λj o p=> ?_⟩ f (e.trans b) λ_ _=>rfl;rw[<-c j o];exact d j Z p
     .have:yM (f n) x:=by
       rw[<-b];by_cases q:n=i
       .rwa[q]
       .exact(d n Z q).resolve_left e
      exact l _ this f f U λ_ _=>rfl
  exact k (g n) g g U λ_ _=>rfl
abbrev Mu:=(Nat->tZ)×Nat
def pC(n:Nat)(x y:Mu):Prop:=Ef n x.1 y.1\/((∀j,j<n->x.1 j=y.1 j)/\x.2<y.2)
def ag2(n:Nat):WellFounded (pC n):=by
 have e:∀h:Nat->tZ,∀k:Nat,∀g:Nat->tZ,(∀j,j<n->g j=h j)->Acc (pC n) (g,k):=by
  intro h
  induction XR n h with
  |intro h _ l=>
   intro k
   induction k using ď with
   |_ k m=>
    intro g a;refine⟨_,λy q=> ?_⟩;let⟨f,b⟩:=y;rcases q with⟨i,c,o,x⟩|⟨p,r⟩
    .exact l f ⟨i,c,by rwa[<-a i c],λj d s=>by rw[<-a j d];exact x j d s⟩ b f λ_ _=>rfl
    .exact m b r f λj x=>(p j x).trans<|a j x
 exact⟨λx=>e x.1 x.2 x.1 λ_ _=>rfl⟩
section
variable(F:Ph)
def jH.rk(n:Nat):jH->Nat
 |.jF=>n+1011
 |.iE=>n+1010
 |.gy W=>min W (n+1000)+4
 |.jc W=>min W (n+1000)+3
 |.iA r=>min r (n+1000)+2
def jv.rk:jv->Nat
 |.iX=>7
 |.mb _=>6
 |.wr=>5
 |.kB=>4
 |.gy=>3
 |.lj=>2
def fV.rk(F:Ph):fV->Nat
 |.iE j=>F.q+F.n+20+4*(F.n-j)+7
 |.rd j=>F.q+F.n+20+4*(F.n-j)+6
 |.lF j=>F.q+F.n+20+4*(F.n-j)+5
 |.go j=>F.q+F.n+20+4*(F.n-j)+4
 |.iI r=>r+F.n+11
 |.kX r=>r+10
 |.fx p=>p.rk+2
 |.fZ=>0
def jz.rk(F:Ph):jz->Nat
 |.kN k=>(F.n+3000)*(F.m+2-k)+2900
 |.mk k=>(F.n+3000)*(F.m+3-k)+2800
 |.dn k p=>(F.n+3000)*(F.m+2-k)+2901+p.rk F.n
def gO.rk(F:Ph):gO->Nat
 |.nA r=>(F.n+3000)*(F.q+3-r)
 |.fx r p=>(F.n+3000)*(F.q+3-r)-20+p.rk
 |.jK r=>(F.n+3000)*(F.q+3-r)-30
 |.oO r=>(F.n+3000)*(F.q+3-r)-40
def ij.rk(F:Ph):ij->Nat×Nat
 |.oQ=>(F.n+2900,0)
 |.fZ p=>(p.rk F.n,0)
 |.ju N=>(0,N)
end
def SP.rk(B:Nat)(st:Int):SP->Nat
 |.fY k=>B+2+k
 |.ld v k=>if st=v then k+1 else 2*B+3+k
def jv.ly(B:Nat)(st:Int):jv->Nat
 |.mb p=>p.rk B st
 |_=>0
section
variable{F:Ph}
def fT.iR(E:fT F)(tr:Nat->gq)(i:Nat):tZ:=
 if i=0 then(E.M.rk F,0,tr 0)
 else if i<F.L then(0,E.h i,.fy)
 else match E.N (i-F.L)with
  |some e=>((e.rk F).1,(e.rk F).2,tr i)
  |none=>if i=F.L then(E.S.rk F,0,tr i)else((E.C<|i-F.L-1).rk F,0,tr i)
def fT.ly(E:fT F)(i:Nat):Nat:=
 if i=0 then(match E.M with|.fx p=>p.ly F.B E.b.st|_=>0)
 else if i<=F.L then 0
 else match E.C (i-F.L-1)with|.fx r p=>p.ly F.B (E.a<|F.r<|i-F.L-1+r*F.n).st|_=>0
def gi(gs:Array Ä)(i:Nat):Nat:=if(gs[i]?).any (·.status==.running)then 1 else 0
def Ph.N(F:Ph):Nat:=F.L+F.n+1
def fT.mu(E:fT F)(a:Nat->gq)(b:Array Ä):Mu:=(E.iR a,Ñ F.N λi=>(F.N+1)*E.ly i+gi b i)
end
theorem Hv{b x:Ä}(h:(Ā P g b w x).status=Ý):Ā P g b w x=x/\x.status=Ý:=by
 unfold Ā at h|-;split at h
 .rename_i c;rw[if_pos c];unfold Đ at h|-;grind
 .grind
section
variable{F:Ph}{E:fT F}{S:Nat->Jd}{tr:Nat->gq}{d:Nat->iz}{lot:Nat->e9}{gs gs':Array Ä}{w':Ð}{t u:ä}{sl:Option (Nat×Nat)}
def ff.Hn(h:ff F E gs w)(o:gs'[i]?=Ã g)(p:g.status≠Ý)(t:∀k,k≠i->∃a f:Ä,gs'[k]?=gs[k]?.map (Ā F.P a f w'))(u:∀j,j+2<=E.r->w'.heap[E.I j]?=w.heap[E.I j]?):ff F E gs' w':=by
 intro k x b l;by_cases e:k=i
 .subst e;rw[o]at b;obtain rfl:=È b;exact absurd l p
 .let⟨a,f,q⟩:=t k e;rw[q]at b;obtain⟨y,v,rfl⟩:=Ú.1 b;let⟨_,z⟩:=Hv l;rcases h k y v z with h1|⟨j,c,m,n,d|⟨r,B,s,C,d,D⟩⟩
  .exact À h1
  .exact Á ⟨j,c,m,n,À d⟩
  .exact Á ⟨j,c,m,n,Á ⟨r,B,s,C,d,by rwa[u j c]⟩⟩
def lG{J:Jd}(a:∀l g,J l g->g.status=Å\/g.status=ç){l:e9}(h:fg P yQ J l g):g.status=Å\/g.status=ç:=by
 cases h with
 |fy h=>exact a _ _<|h _<|fF.fU _ _
 |jM _ _ _ _ b=>exact À b
def ag3(H:gS F)(p:PI F m zX E S tr d lot gs w t){i:Nat}(hi:i<gs.size):∀l g,S i l g->g.status=Å\/g.status=ç:=by
 have dn:∀(main:Bool) (b:Nat) (J:Jd),(∀l g,J l g->g.status=Å\/g.status=ç)->∀(p:jH) l g,EB F.P main b J p l g->g.status=Å\/g.status=ç:=by
  intro main b J hJ p l g h;cases p with
  |jF=>exact À h.2.1
  |iE=>exact À h.2.1
  |gy W=>exact À h.2.1
  |jc W=>exact À h.2.1
  |iA r=>cases r with
   |zero=>exact hJ l g h
   |succ r=>exact À h.2.1
 have wt:∀(main:Bool) (b:Nat) (J:Jd) (p:jv) l g,qW F.P main F.B b J p l g->g.status=Å:=by
  intro main b J p l g h;cases p with
  |iX=>let⟨k,_,_,T,h1,h2⟩:=h;exact(h2 _ _ h1).1
  |mb p=>let⟨_,T,h1,h2⟩:=h;exact(h2 _ _ h1).1
  |wr=>exact h.2.1
  |kB=>exact h.2.1
  |gy=>exact h.2.1
  |lj=>exact h.2.1
 intro l g h;by_cases e0:i=0
 .subst e0;rw[p.h.1]at h;cases hm:E.M with
  |go j=>rw[hm]at h;exact À<|H.I _ _ _ _ h
  |lF j=>rw[hm]at h;let⟨c,h⟩:=h;exact À<|H.I _ _ _ _ h
  |rd j=>rw[hm]at h;exact À h.2.1
  |iE j=>rw[hm]at h;exact À h.2.1
  |iI r=>
   rw[hm]at h;have cl:∀r l g,AP F E.I r l g->g.status=Å:=λr l g h=>by
    cases r with
    |zero=>exact wt _ _ _ .iX _ _ h
    |succ r=>exact h.1
   cases r with
   |zero=>exact À<|cl _ _ _ h
   |succ r=>exact À h.1
  |kX r=>
   rw[hm]at h;cases r with
   |zero=>exact À<|wt _ _ _ .iX _ _ h
   |succ r=>exact À h.1
  |fx p=>rw[hm]at h;exact À<|wt _ _ _ _ _ _ h
  |fZ=>rw[hm]at h;exact À<|H.M _ _ _ h
 by_cases e1:i<F.L
 .rw[(p.l i Z e1).1]at h;exact QuitsD.status h
 have ji:=p.b;obtain⟨x,rfl⟩:∃x,i=F.L+x:=⟨i-F.L,Z⟩;cases he:E.N x with
 |some e=>
  rw[(p.k x e Z he).1]at h;cases e with
  |oQ=>exact À h.2.1
  |fZ p=>exact dn _ _ _ (λl g ⟨N,h⟩=>h.status) _ _ _ h
  |ju N=>exact QuitsD.status h
 |none=>
  cases x with
  |zero=>
   rw[ó,(p.m Z he).1]at h;cases hm:E.S with
   |kN k=>rw[hm]at h;exact À<|H.N _ _ _ h
   |mk k=>rw[hm]at h;let⟨s',V,_,_,_,_,h⟩:=h;exact À h.2.1
   |dn k p=>rw[hm]at h;exact dn _ _ _ (λl g h=>lG (λl g h=>À<|H.N _ _ _ h) h) _ _ _ h
  |succ j=>
   rw[show F.L+(j+1)=F.L+1+j by omega,(p.g j Z he).1]at h;cases hm:E.C j with
   |nA r=>rw[hm]at h;exact À h.1
   |fx r p=>rw[hm]at h;exact À<|wt _ _ _ _ _ _ h
   |jK r=>rw[hm]at h;exact À<|H.Y _ _ _ _ h
   |oO r=>rw[hm]at h;exact À h.2.1
theorem ag4{T:gq}(h:k≠i):E.iR (fw tr i T) k=E.iR tr k:=by unfold fT.iR;grind [fG]
theorem ag5{k:Ð->gq}(a:tr i=.jM k)(b:¬(0<i/\i<F.L)):yM (E.iR (fw tr i<|k w) i) (E.iR tr i):=by
 unfold fT.iR;split
 .rename_i e;subst e;rw[gC,a];exact Á ⟨U,Á ⟨U,w,U⟩⟩
 .split
  .grind
  .rw[gC,a];split
   .exact Á ⟨U,Á ⟨U,w,U⟩⟩
   .split<;>exact Á ⟨U,Á ⟨U,w,U⟩⟩
theorem PI.fj(H:gS F)(p:PI F m zX E S tr d lot gs w t){k:Ð->gq}(y:gs[i]?=Ã g)(o:tr i=.jM k): ∃gs' w' u e q,ř F.P (ð gs w sl) i=(ĝ<|ð gs' w' sl,u)/\gs'.size=gs.size/\PI F m zX E S e d q gs' w' (t++u)/\pC F.N (E.mu e gs') (E.mu tr gs):=by
 have c:=(Ö.1 y).1;let⟨gs',w',W,X,D,z,⟨Y,G,I⟩,J,f,K⟩:=p.I.fj (sl:=sl) y o<|ag3 H p c;have M:¬(0<i/\i<F.L):=λ⟨a,b⟩=>by rw[(p.l i a b).2.1]at o;cases o
 have C:=p.I.r;have B:∀j,j+2<=E.r->w'.heap[E.I j]?=w.heap[E.I j]?:=λj v=>agZ p.a p.C C c f v;have O:i<F.N:=by
  have:=p.b;have:E.r<=F.n+1:=by
   unfold fT.r;cases e:E.M with
   |go j=>have:=p.C.C j<|À e;simp only[fV.sp];omega
   |lF j=>have:=p.C.C j<|Á<|À e;simp only[fV.sp];omega
   |rd j=>have:=p.C.C j<|Á<|Á<|À e;simp only[fV.sp];omega
   |iE j=>have:=p.C.C j<|Á<|Á<|Á e;simp only[fV.sp];omega
   |_=>simp only[fV.sp];omega
  unfold Ph.N;omega
 refine⟨gs',w',_,_,_,D,z,⟨z.trans p.b,K,p.h,p.m,p.g,λx e h l=> ?_,λs h l=> ?_,?_,p.M.Lh H p.a (agY (E:=E) C c f) (Li p.C) (XP p.a H.C C c f (À U) p.M.C) (λs q=>XP p.a H.C C c f (Á ⟨s,q,U⟩)<|p.M.I s q) B,p.C,p.d.C<|ag0 p.a p.C H.C C p.b c f,p.c.Hn G (by rcases I with q|q<;>rw[q]<;>simp) J B,λj r h l q=>(p.f j r h l q).app _⟩,À ⟨i,O,ag5 o M,λj _ v=>À<|ag4 v⟩⟩
 .let⟨Q,T,V⟩:=p.k x e h l;grind [fG]
 .let⟨Q,T,V⟩:=p.l s h l;grind [fG]
 .have:=p.a.fj C c f;grind
end
end Go.Proofs.Y.fq
namespace Go.Proofs.Y.fq
open Go Go.Conc Go.Proofs.Y.Lift
open Go.ConcN (sumTo sumTo_congr)
def ag6{J b:Jd}(c:∀l g,J l g->b l g):∀{T:gq} {l:e9} {g:Ä},lh P yQ J T l g->lh P yQ b T l g:=by
 intro T
 induction T with
 |fy=>exact λh a r=>c _ _<|h a r
 |jM k d=>
  intro l g h;refine⟨h.1,λa r=> ?_⟩;let⟨e,f,i,j,m,n,o⟩:=h.2 a r;exact⟨e,f,i,j,m,n,d a o⟩
section
variable{F:Ph}{E E':fT F}{S:Nat->Jd}{tr d:Nat->gq}{kp:Nat->iz}{c:Nat->e9}{gs gs':Array Ä}{u:ä}{sl:Option (Nat×Nat)}
theorem gN.kN{Y:Nat->Prop}(a:gN P n Y S tr kp c gs w qJ){J:Jd}(h:∀l g,S i l g->J l g):gN P n Y (fw S i J) tr kp c gs w qJ:=by
 refine⟨a.r,λk x b=> ?_,a.I⟩;let⟨g0,d,f⟩:=a.C k x b;by_cases e:k=i
 .subst e;rw[gC];exact⟨g0,ag6 h d,f⟩
 .grind [fG]
def EG:E.iR tr 0=(E.M.rk F,0,tr 0):=by simp[fT.iR]
theorem Lm(ok:F.Ok){x:Nat}{e:ij}(a:E.N x=Ã e):E.iR tr (F.L+x)=((e.rk F).1,(e.rk F).2,tr<|F.L+x):=by have:=ok.r;unfold fT.iR;grind
theorem XS(ok:F.Ok)(a:E.N 0=Í):E.iR tr F.L=(E.S.rk F,0,tr F.L):=by have:=ok.r;unfold fT.iR;grind
theorem ua(ok:F.Ok)(a:E.N (j+1)=Í):E.iR tr (F.L+1+j)=((E.C j).rk F,0,tr<|F.L+1+j):=by have:=ok.r;unfold fT.iR;grind
theorem yN(a:k=0->E'.M.rk F=E.M.rk F)(b:0<k->k<F.L->E'.h k=E.h k)(c:F.L<=k->E'.N (k-F.L)=E.N (k-F.L))(e:k=F.L->E.N 0=Í->E'.S.rk F=E.S.rk F)(f:F.L<k->E.N (k-F.L)=Í->(E'.C<|k-F.L-1).rk F=(E.C<|k-F.L-1).rk F)(g:d k=tr k):E'.iR d k=E.iR tr k:=by unfold fT.iR;grind
def Hw(a:i<F.N)(h:yM (E'.iR d i) (E.iR tr i))(b:∀k,k≠i->E'.iR d k=E.iR tr k):pC F.N (E'.mu d gs') (E.mu tr gs):= À ⟨i,a,h,λj _ c=>À<|b j c⟩
def EH(a:Ps F E):E.r<=F.n+1:=by
 unfold fT.r;cases b:E.M with
 |go j=>have:=a.C j<|À b;simp only[fV.sp];omega
 |lF j=>have:=a.C j<|Á<|À b;simp only[fV.sp];omega
 |rd j=>have:=a.C j<|Á<|Á<|À b;simp only[fV.sp];omega
 |iE j=>have:=a.C j<|Á<|Á<|Á b;simp only[fV.sp];omega
 |_=>simp only[fV.sp];omega
def PI.G(p:PI F b zX E S tr kp c gs w qJ)(h:i<gs.size):i<F.N:=by have:=p.b;have:=EH p.C;unfold Ph.N;omega
def gP(E:fT F)(j:Nat)(x:gO):fT F:={E with C:=fw E.C j x}
theorem jN(j:Nat)(x:gO):(gP E j x).C j=x:=gC _ _ _
theorem iN(x:gO)(h:i≠j):(gP E j x).C i=E.C i:=fG _ _ h
theorem XT{x:gO}(h:∀k,x.gB F j k=(E.C j).gB F j k)(k:Nat):(Ñ F.n λi=>((gP E j x).C i).gB F i k)=Ñ F.n λi=>(E.C i).gB F i k:=by grind [jN,iN]
def EI(ok:F.Ok){x:gO}{T:gq}(b:F.L+1+j<F.N)(a:E.N (j+1)=Í)(h:x.rk F<(E.C j).rk F):pC F.N ((gP E j x).mu (fw tr (F.L+1+j) T) gs') (E.mu tr gs):=by
 refine Hw b (À ?_) λk c=>yN (λ_=>rfl) (λ_ _=>rfl) (λ_=>rfl) (λ_ _=>rfl) (λd _=> ?_)<|fG tr _ c
 .rwa[ua ok (E:=gP E j x) (show(gP E j x).N (j+1)=Í from a),ua ok a,jN]
 .rw[iN x Z]
def Ps.G(h:Ps F E){x:gO}(m:j+2<=E.r)(d:E.N (j+1)=Í)(c:∀k,x.gB F j k=(E.C j).gB F j k)(f:∀r,((∃p,x=.fx r p)\/x=.jK r\/x=.oO r)->j+r*F.n<F.q) (g:∀r,(x=.fx r .gy\/x=.fx r .lj\/x=.jK r)->F.r (j+r*F.n)<=E.S.od) (i:∀r,x=.fx r .gy->∃a b,E.a (F.r<|j+r*F.n)=.gW a b) (l:∀r,x=.fx r .wr->E.d (F.r<|j+r*F.n)=Ã j):Ps F (gP E j x) where
 v:=h.v;C:=h.C;K:=h.K;L:=h.L;J:=h.J;I:=h.I;z j' oR:=by have:E.r<j'+2:=oR;rw[iN x Z];exact h.z j' oR
 d j' r oR hx:=by
  by_cases e:j'=j
  .subst e;rw[jN]at hx;exact f r hx
  .rw[iN x e]at hx;exact h.d j' r oR hx
 l j' oR hx:=by
  have e:j'≠j:=λe=>by subst e;exact hx d
  rw[iN x e];exact h.l j' oR hx
 f:=h.f;h:=h.h;M:=h.M;o:=h.o;t:=h.t;g:=h.g;u:=h.u;N:=h.N;B:=h.B;e k h1 h2 h3:=by rw[XT c];exact h.e k h1 h2 h3
 Y k h1 h2:=by rw[XT c];exact h.Y k h1 h2
 w j' r oR hx:=by
  by_cases e:j'=j
  .subst e;rw[jN]at hx;exact g r hx
  .rw[iN x e]at hx;exact h.w j' r oR hx
 H j' r oR hx:=by
  by_cases e:j'=j
  .subst e;rw[jN]at hx;exact i r hx
  .rw[iN x e]at hx;exact h.H j' r oR hx
 O:=h.O;S:=h.S;y:=h.y;D j' r oR hx:=by
  by_cases e:j'=j
  .subst e;rw[jN]at hx;exact l r hx
  .rw[iN x e]at hx;exact h.D j' r oR hx
def vv(E:fT F)(j:Nat)(x:gO)(k:Nat)(G:GS)(a:Nat->Option Nat):fT F:={gP E j x with a:=fw E.a k G,d:=a}
theorem Ps.XU(h:Ps F E){x:gO}{G:GS}{l:Nat->Option Nat}(Q:j+2<=E.r)(C:E.N (j+1)=Í)(D:∀c,c≠k->x.gB F j c=(E.C j).gB F j c) (H:1<=k->E.S.od<k->G=.cl 1 (Ñ F.n λi=>((fq.gP E j x).C i).gB F i k)) (I:k<=E.S.od->(∃W,(E.S=.dn k (.gy W)\/E.S=.dn k (.jc W))/\G=.jG W/\W=Ñ F.n λi=>((fq.gP E j x).C i).gB F i k)\/(∃r s,E.S=.dn k (.iA r)/\0<r/\G=.gW r s/\r+s=Ñ F.n λi=>((fq.gP E j x).C i).gB F i k)\/((∀p,E.S≠ .dn k p)/\((G=.cl 0 0/\(Ñ F.n λi=>((fq.gP E j x).C i).gB F i k)=0)\/∃s,G=.gW 0 s/\s=Ñ F.n λi=>((fq.gP E j x).C i).gB F i k))) (J:(∃a b,E.a k=.gW a b)->∃a b,G=.gW a b) (K:G=.cl 1 0->l k=Í) (L:∀c,c≠k->l c=E.d c) (S:∀y,E.d k=Ã y->l k=Ã y) (T:∀r,((∃p,x=.fx r p)\/x=.jK r\/x=.oO r)->j+r*F.n<F.q) (M:∀r,(x=.fx r .gy\/x=.fx r .lj\/x=.jK r)->F.r (j+r*F.n)<=E.S.od) (N:∀r,x=.fx r .gy->∃a b,fw E.a k G (F.r<|j+r*F.n)=.gW a b) (O:∀r,x=.fx r .wr->l (F.r<|j+r*F.n)=Ã j):Ps F (vv E j x k G l):=by
 have z:∀c,c≠k->(Ñ F.n λi=>((vv E j x k G l).C i).gB F i c)=Ñ F.n λi=>(E.C i).gB F i c:=λc u=>by
  refine Ō λi _=> ?_;by_cases e:i=j
  .subst e;show((fq.gP E i x).C i).gB F i c=_;rw[jN,D c u]
  .show((fq.gP E j x).C i).gB F i c=_;rw[iN x e]
 have v:∀c,c≠k->(vv E j x k G l).a c=E.a c:=λc u=>fG _ _ u;have gs:(vv E j x k G l).a k=G:=gC _ _ _;have w:(vv E j x k G l).C j=x:=jN _ _;have o:∀d,d≠j->(vv E j x k G l).C d=E.C d:=λd g=>iN x g;refine⟨h.v,h.C,h.K,h.L,h.J,h.I,λd g=> ?_,λd r g f=> ?_,λd g f=> ?_,h.f,h.h,h.M,h.o,h.t,h.g,h.u,h.N,h.B,λc t m B=> ?_,λc t m=> ?_,λd r g f=> ?_,λd r g f=> ?_,h.O,h.S,λc t m=> ?_,λd r g f=> ?_⟩
 .have:E.r<d+2:=g;rw[o d Z];exact h.z d g
 .by_cases e:d=j
  .simp_all
  .rw[o d e]at f;exact h.d d r g f
 .rw[o d (λe=>by subst e;exact f C)];exact h.l d g f
 .by_cases e:c=k
  .subst e;rw[gs];exact H t B
  .rw[v c e,z c e];exact h.e c t m B
 .by_cases e:c=k
  .subst e;rw[gs];exact I m
  .rw[v c e,z c e];exact h.Y c t m
 .by_cases e:d=j
  .subst e;rw[w]at f;exact M r f
  .rw[o d e]at f;exact h.w d r g f
 .by_cases e:d=j
  .subst e;rw[w]at f;exact N r f
  .rw[o d e]at f;have:=h.H d r g f;by_cases P:F.r (d+r*F.n)=k
   .rw[P]at this|-;rw[gs];exact J this
   .grind
 .by_cases e:c=k
  .subst e;rw[gs]at m;exact K m
  .rw[v c e]at m;show l c=Í;rw[L c e];exact h.y c t m
 .by_cases e:d=j
  .subst e;rw[w]at f;exact O r f
  .rw[o d e]at f;have:=h.D d r g f;show l _=Ã d;grind
theorem iG.r(h:iG F E c n w){x:gO}(i:x.kD=(E.C j).kD):iG F (gP E j x) c n w:=by
 have f:∀a,((fq.gP E j x).C a).kD=(E.C a).kD:=λa=>by grind [jN,iN]
 exact⟨h.gT,h.o,h.lU,h.e,h.f,λa b d r e g=>h.h a b d r e (by rwa[<-f]),h.l,h.S,h.M,h.c,h.I,h.N,h.g,λa b r d e=>h.d a b r d<|by rwa[<-f]⟩
theorem Wd.Y(h:Wd F E w){x:gO}(g:x.kD=(E.C j).kD)(i:x.iM=(E.C j).iM):Wd F (gP E j x) w:=by
 have c:∀a,((fq.gP E j x).C a).kD=(E.C a).kD:=λa=>by grind [jN,iN]
 have d:∀a,((fq.gP E j x).C a).iM=(E.C a).iM:=λa=>by grind [jN,iN]
 exact⟨h.C,h.I,λa b=>by rw[d];exact h.jI a b,h.M,h.S,λa b r e f=>h.N a b r e<|by rwa[<-c]⟩
structure qY(F:Ph)(E:fT F)(S:Nat->Jd)(tr:Nat->gq)(kp:Nat->iz):Prop where
 M:S 0=JM F E.I E.M/\kp 0=kM E.M
 Y:0<E.r->E.N 0=Í->S F.L=JI F E.c E.S/\kp F.L=.no
 I:∀j,j+2<=E.r->E.N (j+1)=Í->S (F.L+1+j)=JW F (E.I j) j (E.C j)/\kp (F.L+1+j)=kW F (E.I j) (E.C j)
 C:∀x e,x<E.r->E.N x=Ã e->S (F.L+x)=JE F e/\kp (F.L+x)=.no/\((∃N,e=.ju N)->tr (F.L+x)=.fy)
 r:∀i,0<i->i<F.L->S i=pB F.P (E.h i)/\tr i=.fy/\kp i=.no
def PI.N(p:PI F b zX E S tr kp c gs w qJ):qY F E S tr kp:=⟨p.h,p.m,p.g,p.k,p.l⟩
def PI.r(a:qY F E S tr kp)(d:gs.size=F.L+E.r)(e:gN F.P F.S E.Y S tr kp c gs w qJ)(f:iG F E c gs.size w)(g:Wd F E w)(h:Ps F E)(i:TI F.toFx b zX E.r E.S.rl E.V E.e E.d E.iw E.f qJ)(k:ff F E gs w) (l:∀j r,j+2<=E.r->E.C j=.jK r->1<=F.r (j+r*F.n)->Υ qJ (F.L+1+j) (E.e<|F.r<|j+r*F.n)):PI F b zX E S tr kp c gs w qJ:=⟨d,e,a.M,a.Y,a.I,a.C,a.r,f,g,h,i,k,l⟩
def qY.N(h:qY F E S tr kp)(ok:F.Ok){x:gO}{T:gq}(k:j+2<=E.r)(f:E.N (j+1)=Í):qY F (gP E j x) (fw S (F.L+1+j)<|JW F (E.I j) j x) (fw tr (F.L+1+j) T) (fw kp (F.L+1+j)<|kW F (E.I j) x):=by
 have:=ok.r;refine⟨by rw[fG S _ Z,fG kp _ Z];exact h.M,λb a=>by rw[fG S _ Z,fG kp _ Z];exact h.Y b a,λd b a=> ?_,λy e b a=> ?_,λi b a=>by rw[fG S _ Z,fG kp _ Z,fG tr _ Z];exact h.r i b a⟩
 .by_cases e:d=j
  .subst e;rw[gC,gC,jN];exact⟨U,U⟩
  .rw[fG S _ Z,fG kp _ Z,iN x e];exact h.I d b a
 .have c:F.L+y≠F.L+1+j:=λe=>by
   have g:y=j+1:=Z
   subst g;have:E.N (j+1)=Ã _:=a;rw[f]at this;cases this
  rw[fG S _ c,fG kp _ c,fG tr _ c];exact h.C y e b a
end
def uf(F:Fx)(e:Ē):Prop:=(∃(x:Č) (a:Bool),F.G x/\e=⟨ü x,a,Î⟩)\/e.loc=Ŷ ô\/e.loc=Ŷ î
theorem Hx{F:Fx}{e:Ē}(h:uf F e){b:Touch}(c:(Ë e).touch?=Ã b):∃x,F.G x/\b.loc=ü x/\b.kind=.atomic:=by
 let⟨f,a,g⟩:=e;rcases h with⟨x,i,j,d⟩|h|h
 .injection d with e1 e2 e3;subst e1 e2 e3;have:(Ë ⟨ü x,a,Î⟩).touch?=Ã ⟨ü x,a,.atomic⟩:=by cases a<;>rfl
  grind
 .simp only at h;subst h;simp[Ë,ċ]at c
 .simp only at h;subst h;simp[Ë,ċ]at c
section
variable{F:Ph}{E E':fT F}{S:Nat->Jd}{tr l:Nat->gq}{f:Nat->iz}{c:Nat->e9}{gs gs':Array Ä}{u:ä}{m:Option (Nat×Nat)}
def yO(E:fT F)(i:Nat):Prop:=i=0\/∃x,x<E.r/\i=F.L+x
theorem gN.N{Y:Nat->Prop}(e:gN P n Y S tr f c gs w qJ)(h:gs[i]?=Ã g)(k:g.status=Å)(j:tr i=.fy)(a:f i=.no\/f i=.iA):∀b,fF (c i) (c i).w b->S i {c i with w:=b} g:=by
 let⟨g0,hF,d,_,_⟩:=e.C i g h;rw[j]at hF;have:g=g0:=by rcases a with a|a<;>rw[a]at d<;>cases d;all_goals grind
 subst this;exact hF
theorem XV(b:TI F.toFx j zX E.r E.S.rl E.V E.e E.d E.iw E.f qJ)(c:yO E i)(d:n<j)(a:qJ.g? n=Ã 0):Υ qJ i n:=by
 rcases c with rfl|⟨x,e,rfl⟩
 .let⟨g,f,h⟩:=Ú.1 a;have:=knows_own f;grind
 .exact b.AN x e n d a
theorem ag7(f:∀c,¬Race c qJ)(g:TI F.toFx j zX E.r E.S.rl E.V E.e E.d E.iw E.f qJ)(v:yO E i){d:Array Ē}{h:Ķ}{k:String}(l:∀e∈d,uf F.toFx e):∀c,¬Race c (qJ++Ü i h k d):=by refine P0 f ov λw m b n=> ?_;obtain⟨e,o,rfl⟩:=Ø m;let⟨x,r,s,t⟩:=Hx (l e o) n;refine Á (Á ⟨t,λp a u q y=> ?_⟩);rcases g.M p a x u (q.trans s) r with⟨y,z⟩|q|⟨q,_⟩;all_goals grind [XV]
def ag8(L:iG F E c gs.size w)(ok:F.Ok)(C:iQ F.S (λi=>i<gs.size) E.Y c w qJ)(f:∀e∈V,uf F.toFx e):∀e∈V,(∀b,(Ë e).touch?=Ã b->Hl (λi=>i<gs.size) E.Y c b)/\(Ë e).low w.heap.size:=by
 intro e g;refine⟨λb j=> ?_,?_⟩
 .let⟨x,a,d,_⟩:=Hx (f e g) j;exact À ⟨x,d,xd a,λk h=>L.Y ok a k h⟩
 .rcases f e g with⟨x,k,a,d⟩|h|h
  .subst d;have:=C.N _<|xd (E:=E) a;cases k<;>exact this
  .let⟨l,k,m⟩:=e;simp only at h;subst h;trivial
  .let⟨l,k,m⟩:=e;simp only at h;subst h;trivial
def AQ(d:Nat)(a:Array Ē):Prop:=∀(j:Nat) (e:Ē),a[j]?=Ã e->(Ë e).touch?=Í\/((∃b c,e=⟨ü b,c,Î⟩)/\0<Ï d (a.extract 0 j))
theorem ag9(L:iG F E c gs.size w)(s:Ps F E)(C:iQ F.S (λi=>i<gs.size) E.Y c w qJ)(t:yO E i){f:Array Ē}{n:Ķ}{o:String}(p:∀e∈f,uf F.toFx e) (u:∀x,E.iw x->i=F.L+x->(∀e∈f,∀b,(Ë e).touch?=Ã b->∃y:Č,b.loc=ü y/\y.block=F.C)/\AQ (σ qJ i) f):Lf F.toFx E.r E.S.rl E.V E.d E.iw qJ (Ü i n o f) i:=by
 refine⟨λg d _ _=>ov g d,t.imp id À,λg d a x l _ _=> ?_,λg d a y l _ z k B m=> ?_,λg d b _ e=> ?_,λx H D=> ?_⟩
 .obtain⟨e,j,rfl⟩:=Ø d;grind [Hx]
 .obtain⟨e,j,rfl⟩:=Ø d;let⟨x,r,h,_⟩:=Hx (p e j) l;rw[z]at h;injection h with h;subst h;refine⟨λv=>(L.I k (Ù m<|Lj s) _ v).2.1<|xd r,λe=> ?_⟩;obtain⟨b,_,q|q⟩:=r<;>(rw[q]at e;simp[fL,gR,jg]at e)
 .obtain⟨r,j,rfl⟩:=Ø d;simp only at e;rcases p r j with⟨x,v,_,rfl⟩|h|h
  .cases v<;>simp[Ë]at e
  .let⟨q,v,G⟩:=r;simp only at h;subst h;simp[Ë]at e
  .let⟨q,v,G⟩:=r;simp only at h;subst h;simp[Ë]at e
 .by_cases e:F.L+x=i
  .let⟨B,m⟩:=u x D e.symm;subst e;refine⟨λr h=>h.appOwn n o f m,λ_ g d a l=> ?_⟩;obtain⟨e,j,rfl⟩:=Ø d;grind [Hx]
  .exact⟨λr h=>h.appOther ov<|ÿ e,λq=>absurd q e⟩
theorem yP(a:F.M b):∀e∈#[kA<|fL b],uf F.toFx e:=by
 intro e c;have:e=kA (fL b):=by simpa using c
 subst this;exact À ⟨_,É,(xc a).1,U⟩
def XW(a:F.M b):∀e∈#[mU<|fL b],uf F.toFx e:=by
 intro e c;have:e=mU (fL b):=by simpa using c
 subst this;exact À ⟨_,Î,(xc a).1,U⟩
def AR(a:F.M b):∀e∈#[kA<|fL b,mU<|fL b],uf F.toFx e:=by
 intro e c;simp at c;rcases c with rfl|rfl
 .exact À ⟨_,É,(xc a).1,U⟩
 .exact À ⟨_,Î,(xc a).1,U⟩
def Hz(a:F.M b):∀e∈õ (gR b),uf F.toFx e:=by
 intro e c;simp[õ]at c;rcases c with rfl|rfl|rfl|rfl
 .exact Á<|À U
 .exact À ⟨_,É,(xc a).2,U⟩
 .exact À ⟨_,Î,(xc a).2,U⟩
 .exact Á<|Á U
def HA(d:Nat):Ï d #[kA a,mU a]=d/\Ï d #[kA a]=d/\Ï d #[mU a]=d/\Ï d (õ a)=d:=by refine⟨U,U,U,?_⟩;simp[Ï,õ]
def Ln:AQ 1 #[kA a,mU a]/\AQ 1 #[kA a]/\AQ 1 #[mU a]/\AQ 1 (õ a):=by
 refine⟨λj e b=> ?_,λj e b=> ?_,λj e b=> ?_,λj e b=> ?_⟩
 .match j,b with
  |0,b=>obtain rfl:=È b;exact Á ⟨⟨a,É,U⟩,by simp[Ï]⟩
  |1,b=>obtain rfl:=È b;exact Á ⟨⟨a,Î,U⟩,by simp[Ï,kA]⟩
  |j+2,b=>simp at b
 .match j,b with
  |0,b=>obtain rfl:=È b;exact Á ⟨⟨a,É,U⟩,by simp[Ï]⟩
  |j+1,b=>simp at b
 .match j,b with
  |0,b=>obtain rfl:=È b;exact Á ⟨⟨a,Î,U⟩,by simp[Ï]⟩
  |j+1,b=>simp at b
 .match j,b with
  |0,b=>obtain rfl:=È b;exact À U
  |1,b=>obtain rfl:=È b;exact Á ⟨⟨a,É,U⟩,by simp[Ï,õ]⟩
  |2,b=>obtain rfl:=È b;exact Á ⟨⟨a,Î,U⟩,by simp[Ï,õ]⟩
  |3,b=>obtain rfl:=È b;exact À U
  |j+4,b=>simp[õ]at b
def aha(ok:F.Ok)(g:F.G a)(v:è):Hu F E c gs.size w (w.setCell a v):=by
 refine⟨Õ j1.symm,λb _ f _=>lu λe=>f<|e▸(xd (E:=E) g),λd i _=>yI ?_,Qf,U,U⟩;let⟨b,f,h⟩:=g;rcases i with⟨k,_,rfl⟩|⟨p,rfl⟩
 .right;rcases h with rfl|rfl<;>simp[fL,gR,jg]
 .left;rcases h with rfl|rfl<;>exact λe=>ok.C (by have j:b=F.Y:=e;rwa[<-j])
def ahb(L:iG F E c gs.size w)(ok:F.Ok)(d:F.G a)(v:è):p8 (λi=>i<gs.size) E.Y c w (w.setCell a v):= agM (xd d) (by obtain⟨b,_,rfl|rfl⟩:=d<;>rfl) (λk i=>L.Y ok d k i) λk i b e=>L.agX k i b e
def ahc(c:Ps F E)(d:F.G a)(v:è)(f:j+2<=E.r):(w.setCell a v).heap[E.I j]?=w.heap[E.I j]?:= lu λe=>(c.o j f).1 (by obtain⟨b,g,rfl|rfl⟩:=d<;>(rwa[e]))
def ahd(h:a=fL b\/a=gR b):a.block=b:=by rcases h with rfl|rfl<;>rfl
theorem iG.C(L:iG F E c n w){d:Nat}{w0:Ð}(y:w.heap.size<=W.heap.size):iG F E (gp c i {c i with d:=d,w:=w0}) n W:=by
 have e:∀k,(gp c i {c i with d:=d,w:=w0} k).O=(c k).O/\(gp c i {c i with d:=d,w:=w0} k).I=(c k).I/\(gp c i {c i with d:=d,w:=w0} k).r=(c k).r/\(gp c i {c i with d:=d,w:=w0} k).N=(c k).N/\(gp c i {c i with d:=d,w:=w0} k).q=(c k).q:=λk=>by grind [gU,gF]
 have t:∀k,c k=kC (c k)->gp c i {c i with d:=d,w:=w0} k=kC (gp c i {c i with d:=d,w:=w0} k):=λk f=>by
  by_cases h:k=i
  .subst h;rw[gU];have a:(c k).O=λ_=>False:=by rw[f];rfl
   have b:(c k).I=λ_=>False:=by rw[f];rfl
   have g:(c k).r=λ_=>False:=by rw[f];rfl
   have j:(c k).N=λ_=>False:=by rw[f];rfl
   have l:(c k).q=True:=by rw[f];rfl
   simp only[kC,a,b,g,j,l]
  .grind [gF]
 refine⟨λk f a o=>L.gT k f a (by unfold e9.C at o|-;rwa[(e k).2.2.1,(e k).2.2.2.1]at o),λx g m a o=>by rw[(e 0).2.2.1];exact L.o x g m a o,λh=>by rw[(e 0).2.2.2.1,(e 0).2.1];exact L.lU h,λh k g m=>by rw[(e _).2.2.1];exact L.e h k g m,λh p=>by rw[(e _).2.2.2.1,(e _).2.1];exact L.f h p,λj l p r s g=>by rw[(e _).2.2.1];exact L.h j l p r s g,λj l p=>by rw[(e _).2.2.2.1,(e _).2.1];exact L.l j l p,λx u=>t _<|L.S x u,λk f=>by rw[(e k).2.2.2.2];exact L.M k f,λk g m=>t _<|L.c k g m,λk f b v=> ?_,λk f j l=>by rw[(e j).2.2.1];exact L.N k f j l,λk g m j l=>by rw[(e j).2.2.1];exact L.g k g m j l,λj l r s g k f=>by rw[(e k).2.2.1];exact L.d j l r s g k f⟩;let⟨z,B,D⟩:=L.I k f b v;grind
end
section
variable{F:Ph}{E E':fT F}{S:Nat->Jd}{tr c:Nat->gq}{a:Nat->iz}{lot:Nat->e9}{gs gs':Array Ä}{u:ä}{sl:Option (Nat×Nat)}
def kE(b:Nat)(w W:Ð):Prop:=W=w\/∃x v,(x=fL b\/x=gR b)/\W=w.setCell x v
def kE.EF(h:kE b w W):W.heap.size=w.heap.size:=by rcases h with rfl|⟨x,v,_,rfl⟩;all_goals simp_all
def kE.Lh(h:kE b w W)(ok:F.Ok)(a:F.M b):Hu F E lot gs.size w W:=by
 rcases h with rfl|⟨x,v,c,rfl⟩
 .exact⟨Æ _,λ_ _ _ _=>rfl,λ_ _ _=>rfl,U,U,U⟩
 .exact aha ok ⟨b,a,c⟩ v
def kE.r(h:kE b w W)(L:iG F E lot gs.size w)(ok:F.Ok)(a:F.M b):p8 (λi=>i<gs.size) E.Y lot w W:=by
 rcases h with rfl|⟨x,v,i,rfl⟩
 .exact p8.fU _ _ _ _
 .exact ahb L ok ⟨b,a,i⟩ v
def kE.C(h:kE b w W)(a:Ps F E)(c:F.M b)(d:j+2<=E.r):W.heap[E.I j]?=w.heap[E.I j]?:=by
 rcases h with rfl|⟨x,v,e,rfl⟩
 .rfl
 .exact ahc a ⟨b,c,e⟩ v d
def kE.M(h:kE b w W)(c:i≠b){G:GS}(a:ia w i G):ia W i G:=by
 rcases h with rfl|⟨x,v,d,rfl⟩
 .exact a
 .exact a.iR<|by rw[ahd d];exact ÿ c
def kE.I(h:kE b w W)(H:gS F)(L:iG F E lot gs.size w)(d:Ps F E)(a:Wd F E w)(f:F.M b){Ga:GS}{Gg:Nat->GS}(g:(b=F.C->ia W F.C Ga)/\(b≠F.C->Ga=E.b))(i:∀k,k<=F.m->(b=F.I k->ia W (F.I k) (Gg k))/\(b≠F.I k->Gg k=E.a k)):Wd F {E with b:=Ga,a:=Gg} W:=by
 refine a.Lh H L (h.Lh H.C f) (Li d) ?_ (λk c=> ?_) λj e=>h.C d f e
 .by_cases e:b=F.C
  .exact g.1 e
  .rw[g.2 e];exact h.M (ÿ e) a.C
 .by_cases e:b=F.I k
  .exact(i k c).1 e
  .rw[(i k c).2 e];exact h.M (ÿ e)<|a.I k c
def PI.Y(H:gS F)(p:PI F b zX E S tr a lot gs w qJ){c:Ä}{f:Array Ē}{J:Jd}{T:gq}(K:iz)(q:gs[i]?=Ã g)(j:yO E i)(r:F.M n)(s:é F.P (i==0) g w=ũ c W f)(l:kE n w W)(h:∀e∈f,uf F.toFx e)(m:Ï (lot i).d f=(lot i).d) (t:∀x,E.iw x->i=F.L+x->(∀e∈f,∀n,(Ë e).touch?=Ã n->∃y:Č,n.loc=ü y/\y.block=F.C)/\AQ (σ qJ i) f) (hF:lh F.P (i==0) J T {lot i with w:=W} c) (v:c.status=Å\/c.status=ç): ∃gs' u,ř F.P (ð gs w sl) i=(ĝ<|ð gs' W sl,u)/\gs'.size=gs.size/\gs'[i]?=Ã c/\(∀k,k≠i->gs'[k]?=gs[k]?.map (Ā F.P g c W))/\ gN F.P F.S E.Y (fw S i J) (fw tr i T) (fw a i K) (gp lot i {lot i with w:=W}) gs' W (qJ++u)/\TI F.toFx b zX E.r E.S.rl E.V E.e E.d E.iw E.f (qJ++u)/\iG F E (gp lot i {lot i with w:=W}) gs'.size W:=by have C:=p.I.r;obtain⟨gs',z,k,B,D,o⟩:=p.I.qU q s (l.r p.a H.C r) (by rwa[m]) v (ag8 p.a H.C C h)<|ag7 C.l p.d j h;rw[m]at o;refine⟨gs',_,z,k,B,D,o,p.d.C<|ag9 p.a p.C C j h t,?_⟩;rw[k];exact p.a.C<|Õ l.EF.symm
theorem ff.qU(B:ff F E gs w){a:Ä}(p:gs'[i]?=Ã a)(q:a.status≠Ý)(d:∀k,k≠i->gs'[k]?=gs[k]?.map (Ā F.P g a W))(t:∀j,j+2<=E.r->W.heap[E.I j]?=w.heap[E.I j]?) (u:E'.r=E.r) (v:E'.I=E.I) (z:∀x,F.L+x≠i->E'.N x=E.N x) (C:i≠0->E'.M=E.M) (D:∀j,F.L+1+j≠i->E'.C j=E.C j) (G:i≠0->E.M=.fx .kB->E.b.sm=0->E'.b.sm=0\/∀x,gs'[0]?=Ã x->x.status≠Ý) (H:∀j r,F.L+1+j≠i->E.C j=.fx r .kB->(E.a<|F.r<|j+r*F.n).sm=0->(E'.a<|F.r<|j+r*F.n).sm=0\/∀x,gs'[F.L+1+j]?=Ã x->x.status≠Ý):ff F E' gs' W:=by
 intro k x b f;by_cases e:k=i
 .grind
 .have I:=b;rw[d k e]at b;obtain⟨y,h,rfl⟩:=Ú.1 b;let⟨_,l⟩:=Hv f;rcases B k y h l with⟨J,m,c⟩|⟨j,K,M,m,⟨r,c,o⟩|⟨r,N,s,O,c,o⟩⟩;all_goals grind
def EJ(a:j+2<=E.r):yO E (F.L+1+j):=Á ⟨j+1,Z,Z⟩
def Lp(b:E.N (j+1)=Í):∀x,E.iw x->F.L+1+j=F.L+x->False:=λx ⟨e,a,_⟩ h2=>by
 have:x=j+1:=Z
 subst this;rw[b]at a;cases a
def HB(ok:F.Ok)(h:i<F.q):F.M (F.I<|F.r i):=Á ⟨F.r i,ok.I i h,U⟩
def iO(a:gs[i]?=Ã g):i<gs.size:=(Ö.1 a).1
end
theorem xe{f f':Nat->Nat}:∀{n:Nat},j<n->(∀i,i≠j->f' i=f i)->Ñ n f'+f j=Ñ n f+f' j
 |n+1,h,hf=>by
  simp only[Ñ];rcases Ģ j n with gI|a
  .have:=xe (n:=n) gI hf;rw[hf n Z];omega
  .obtain rfl:j=n:=Z
   rw[Ō λi b=>hf i Z];omega
def HC{f:Nat->Nat}:∀{n:Nat},(∀i,f i<=1)->Ñ n f<=n
 |0,_=>Æ _
 |n+1,h=>by simp only[Ñ];have:=HC (n:=n) h;have:=h n;omega
def Qr{f:Nat->Nat}:∀{n:Nat},j<n->f j<=Ñ n f
 |n+1,h=>by
  simp only[Ñ];rcases Ģ j n with gI|a
  .have:=Qr (f:=f) (n:=n) gI;omega
  .obtain rfl:j=n:=Z
   omega
def HF{f:Nat->Nat}:∀n:Nat,(Ñ n λi=>f i+D i)=Ñ n f+Ñ n D
 |0=>rfl
 |n+1=>by simp only[Ñ];rw[HF n];omega
def Qs{f:Nat->Nat}(c:Nat):∀n:Nat,(Ñ n λi=>c*f i)=c*Ñ n f
 |0=>by simp[Ñ]
 |n+1=>by simp only[Ñ];rw[Qs c n,ō]
section
variable{F:Ph}{E E':fT F}{S:Nat->Jd}{tr z:Nat->gq}{C:Nat->iz}{o:Nat->e9}{gs gs':Array Ä}{u:ä}{sl:Option (Nat×Nat)}
def j5(F:Ph)(b:Nat)(zX:ψ->Prop)(E:fT F)(tr:Nat->gq)(gs:Array Ä)(w:Ð)(qJ:ä)(sl:Option (Nat×Nat))(i:Nat):Prop:=
 ∃(E':fT F) (a:Nat->Jd) (z:Nat->gq) (c:Nat->iz) (d:Nat->e9) (gs':Array Ä) (W:Ð) (u:ä),ř F.P (ð gs w sl) i=(ĝ<|ð gs' W sl,u)/\gs'.size=gs.size/\(E'.M=.fZ->E.M=.fZ)/\PI F b zX E' a z c d gs' W (qJ++u)/\pC F.N (E'.mu z gs') (E.mu tr gs)
def rQ(F:Ph)(b:Nat)(zX:ψ->Prop)(E:fT F)(tr:Nat->gq)(gs:Array Ä)(w:Ð)(qJ:ä):Prop:=
 ∃(E':fT F) (a:Nat->Jd) (z:Nat->gq) (c:Nat->iz) (d:Nat->e9),(E'.M=.fZ->E.M=.fZ)/\PI F b zX E' a z c d gs w qJ/\pC F.N (E'.mu z gs) (E.mu tr gs)
def ahe(i:Nat):gi gs i<=1:=by unfold gi;split<;>omega
theorem XX(a:∀k,k<F.N->E'.iR z k=E.iR tr k)(b:i<F.N)(e:E'.ly i<E.ly i)(c:∀k,k≠i->E'.ly k=E.ly k):pC F.N (E'.mu z gs') (E.mu tr gs):=by
 refine Á ⟨a,?_⟩;show(Ñ F.N λi=>(F.N+1)*E'.ly i+gi gs' i)<Ñ F.N λi=>(F.N+1)*E.ly i+gi gs i;rw[HF,HF,Qs,Qs];have g:=xe b c;have h:=HC (f:=gi gs') (n:=F.N) ahe;have d:Ñ F.N E'.ly+1<=Ñ F.N E.ly:=Z
 have j:(F.N+1)*(Ñ F.N E'.ly+1)<=(F.N+1)*Ñ F.N E.ly:=ï _ d;grind
theorem Qt(a:∀k,k<F.N->E.iR z k=E.iR tr k)(b:i<F.N)(c:gi gs i=1)(d:gi gs' i=0)(e:∀k,k≠i->gi gs' k=gi gs k):pC F.N (E.mu z gs') (E.mu tr gs):=by refine Á ⟨a,?_⟩;show(Ñ F.N λi=>(F.N+1)*E.ly i+gi gs' i)<Ñ F.N λi=>(F.N+1)*E.ly i+gi gs i;rw[HF,HF];grind [xe]
theorem XY(ok:F.Ok)(j:Nat):E.ly (F.L+1+j)=match E.C j with|.fx r p=>p.ly F.B (E.a<|F.r<|j+r*F.n).st|_=>0:=by have:=ok.r;unfold fT.ly;grind
def ahf{x:gO}(a:k≠F.L+1+j):(gP E j x).ly k=E.ly k:=by
 unfold fT.ly;split
 .rfl
 .split
  .rfl
  .rw[iN x Z];rfl
def ahg(ok:F.Ok){r:Nat}{p a:SP}{T:gq}(d:F.L+1+j<F.N)(b:E.N (j+1)=Í)(c:E.C j=.fx r (.mb p))(f:tr (F.L+1+j)=.fy)(g:T=.fy)(h:a.rk F.B (E.a<|F.r<|j+r*F.n).st<p.rk F.B (E.a<|F.r<|j+r*F.n).st): pC F.N ((gP E j<|.fx r (.mb a)).mu (fw tr (F.L+1+j) T) gs') (E.mu tr gs):=by
 refine XX (λk _=> ?_) d ?_ λk e=>ahf e
 .by_cases e:k=F.L+1+j
  .subst e;rw[ua ok (E:=gP E j _) (show(gP E j _).N (j+1)=Í from b),ua ok b,jN,gC,c,f,g];rfl
  .refine yN (λ_=>rfl) (λ_ _=>rfl) (λ_=>rfl) (λ_ _=>rfl) (λi _=> ?_)<|fG tr _ e;rw[iN _ Z]
 .rwa[XY ok,XY ok,jN,c]
def PI.EK(H:gS F)(p:PI F b zX E S tr C o gs w qJ){v:jv}(d:j+2<=E.r)(e:E.N (j+1)=Í)(f:gs[F.L+1+j]?=Ã g)(h:g.status=Å)(k:tr (F.L+1+j)=.fy)(l:E.C j=.fx i v): ∀w₁,fF (o<|F.L+1+j) (o<|F.L+1+j).w w₁->qW F.P É F.B (F.I<|F.r<|j+i*F.n) (F.e (E.I j)<|j+i*F.n) v {o (F.L+1+j)with w:=w₁} g:=by
 let⟨a,c⟩:=p.g j d e;rw[l]at a c;have m:C (F.L+1+j)=.no\/C (F.L+1+j)=.iA:=by rw[c];cases v<;>first|exact À U|exact Á U
 intro w₁ i;have:=p.I.N f h k m w₁ i;rwa[a]at this
def yR(ok:F.Ok)(j:Nat):(F.L+1+j==0)=É:=by have:=ok.r;simp
theorem PI.Qu(H:gS F)(p:PI F b zX E S tr C o gs w qJ){x:gO}{l:e9}{T:gq}(u:j+2<=E.r)(m:E.N (j+1)=Í)(n:gs[F.L+1+j]?=Ã g)(v:g.status=Å\/g.status=ç) (z:iQ F.S (λi=>i<gs.size) E.Y (gp o (F.L+1+j) l) w qJ) (hF:lh F.P É (JW F (E.I j) j x) T l g) (B:iG F (gP E j x) (gp o (F.L+1+j) l) gs.size w) (D:Wd F (gP E j x) w) (G:Ps F (gP E j x)) (I:x.rk F<(E.C j).rk F) (V:∀r,x≠ .jK r):rQ F b zX E tr gs w qJ:=by
 refine⟨gP E j x,_,_,_,_,λh=>h,.r (p.N.N H.C u m) p.b (p.I.M (K:=kW F (E.I j) x) n v z<|by rwa[yR H.C]) B D G p.d (λk y J M=> ?_) λa r f c d=> ?_,EI H.C (p.G<|iO n) m I⟩
 .by_cases e:k=F.L+1+j
  .grind
  .rcases p.c k y J M with f|⟨a,q,t,c,d|⟨r,N,s,O,d,Q⟩⟩
   .exact À f
   .exact Á ⟨a,q,t,c,À<|by rwa[iN x Z]⟩
   .exact Á ⟨a,q,t,c,Á ⟨r,N,s,O,by rwa[iN x Z],Q⟩⟩
 .by_cases e:a=j
  .grind [jN]
  .rw[iN x e]at c;exact p.f a r f c d
theorem PI.ahh(H:gS F)(p:PI F b zX E S tr C o gs w qJ){r:Nat}(e:j+2<=E.r)(l:E.N (j+1)=Í)(m:gs[F.L+1+j]?=Ã g)(n:g.status=Å)(s:tr (F.L+1+j)=.fy)(c:E.C j=.fx r .iX):rQ F b zX E tr gs w qJ:=by
 have f:=iO m;let⟨k,y,t,u⟩:=(p.EK H e l m n s c) w<|p.I.r.r _ f;have v:iQ F.S (λi=>i<gs.size) E.Y (gp o (F.L+1+j) {o (F.L+1+j)with w:=w}) w qJ:=p.I.r.C f (λ_ q=>q) (λa q=>À<|Á q) (λ_ q=>q) (λa q=>À<|Á q) U U U (p.I.r.m _ f)<|p.I.r.g _ f;refine p.Qu H (x:=.fx r (.mb (.fY k))) (T:=.fy) e l m (À n) v (λh a=>⟨t,K4 u a⟩) ?_ (p.M.Y (by rw[c];rfl)<|by rw[c];rfl) (p.C.G e l (λk=>by rw[c];rfl) (λa h=> ?_) (λa h=> ?_) (λa h=>by cases h) λa h=>by cases h) (by rw[c];simp only[gO.rk,jv.rk];omega) λa h=>by cases h
 .have:=(p.a.r (x:=.fx r (.mb (.fY k)))<|by rw[c];rfl).C (i:=F.L+1+j) (d:=(o<|F.L+1+j).d) (w0:=w)<|Æ _;exact this
 .rcases h with⟨_,h⟩|h|h<;>cases h;exact p.C.d j r e<|À ⟨_,c⟩
 .grind
def XZ{y z:Int->Jd}{p:SP}{l:e9}{G:GS}(h:Ez P yQ (fL b) i y z p l g)(j:ia w b G):g.status=Å/\ ((∃f a e,é P yQ g w=ũ a w e/\(e=#[]\/e=#[kA<|fL b])/\Ez P yQ (fL b) i y z f l a/\f.rk i G.st<p.rk i G.st)\/ (∃a,é P yQ g w=ũ a w #[kA<|fL b]/\(∀c q,G=.cl c q->c=0)/\fg P yQ (y G.st) l a)\/ (∃a c q,G=.cl c q/\0<c/\é P yQ g w=ũ a (w.setCell (fL b)<|æ Ó<|Ó.wrap<|G.st+1) #[kA<|fL b,mU<|fL b]/\fg P yQ (z G.st) l a)):=by
 let⟨T,C,x⟩:=h;let⟨J,d⟩:=x p g C;refine⟨J,?_⟩;have D:∀u,T u g->(∀n,u≠ .fY (n+1))->(∀v n,u≠ .ld v (n+1))->u.rk i G.st<=p.rk i G.st->((∃f a e,é P yQ g w=ũ a w e/\(e=#[]\/e=#[kA<|fL b])/\Ez P yQ (fL b) i y z f l a/\f.rk i G.st<p.rk i G.st)\/ (∃a,é P yQ g w=ũ a w #[kA<|fL b]/\(∀c q,G=.cl c q->c=0)/\fg P yQ (y G.st) l a)\/ (∃a c q,G=.cl c q/\0<c/\é P yQ g w=ũ a (w.setCell (fL b)<|æ Ó<|Ó.wrap<|G.st+1) #[kA<|fL b,mU<|fL b]/\fg P yQ (z G.st) l a)):=by
  intro u C K L F;have d:=(x u g C).2;match u,d with
  |.fY (n+1),_=>exact absurd U<|K n
  |.ld v (n+1),_=>exact absurd U<|L v n
  |.fY 0,d=>
   let⟨a,o,k⟩:=d G.st;by_cases f:0<=G.st/\G.st<fX
   .rw[if_pos f]at k;have e:G.st<1000000:=by
     have t:=j.r;cases G with
     |cl c q=>
      let⟨H,I,m⟩:=t;simp only[GS.st,fX]at f|-;have:c=0:=Z
      have:=m this;omega
     |jG q=>simp only[GS.ok]at t;simp only[GS.st];omega
     |gW r s=>simp only[GS.st];omega
    exact Á<|À ⟨a,o w j.C,j.agQ.1 f,k e⟩
   .rw[if_neg f]at k;have e:fX<=G.st/\G.st<fX*2147483648/\G.st%fX<1000000:=by
     have t:=j.r;cases G with
     |cl c q=>
      let⟨H,I,_⟩:=t;simp only[GS.st,fX]at f|-;omega
     |jG q=>simp only[GS.ok]at t;simp only[GS.st,fX]at f;omega
     |gW r s=>simp only[GS.st,fX]at f;omega
    let⟨m,M,E⟩:=k e;exact À ⟨.ld G.st m,a,_,o w j.C,Á U,⟨T,E,x⟩,Ê (by simp only[SP.rk,if_true];omega) F⟩
  |.ld v 0,⟨f,⟨a,o,k⟩,g'',E,n,hn,h4⟩=>
   by_cases e:G.st=v
   .subst e;have:∃c q,G=.cl c q/\0<c:=by
     have t:=j.r;cases G with
     |cl c q=>
      refine⟨c,q,U,?_⟩;let⟨H,I,_⟩:=t;simp only[GS.st,fX]at f;omega
     |jG q=>simp only[GS.ok]at t;simp only[GS.st,fX]at f;omega
     |gW r s=>simp only[GS.st,fX]at f;omega
    let⟨c,q,r,s⟩:=this;exact Á<|Á ⟨a,c,q,r,s,o w j.C j.I,k⟩
   .exact À ⟨.fY n,g'',_,E w G.st e j.C j.I,Á U,⟨T,h4,x⟩,Ê (by simp only[SP.rk,if_neg e];omega) F⟩
 match p,d with
 |.fY (n+1),⟨hn,d⟩=>
  rcases d with d|d
  .exact D (.fY 0) d (λn q=>by cases q) (λv n q=>by cases q)<|by simp only[SP.rk];omega
  .let⟨a,o,k⟩:=d w;exact À ⟨.fY n,a,#[],o,À U,⟨T,k,x⟩,by simp only[SP.rk];omega⟩
 |.fY 0,_=>exact D (.fY 0) C (λn q=>by cases q) (λv n q=>by cases q)<|Æ _
 |.ld v (m+1),⟨_,M,d⟩=>
  rcases d with d|d
  .exact D (.ld v 0) d (λn q=>by cases q) (λv n q=>by cases q)<|by simp only[SP.rk];split<;>omega
  .let⟨a,o,k⟩:=d w;exact À ⟨.ld v m,a,#[],o,À U,⟨T,k,x⟩,by simp only[SP.rk];split<;>omega⟩
 |.ld v 0,_=>exact D (.ld v 0) C (λn q=>by cases q) (λv n q=>by cases q)<|Æ _
def PI.ahi(H:gS F)(p:PI F b zX E S tr C o gs w qJ){r:Nat}{v:SP}(G:j+2<=E.r)(s:E.N (j+1)=Í)(hi:gs[F.L+1+j]?=Ã g)(iH:g.status=Å)(ht:tr (F.L+1+j)=.fy)(m:E.C j=.fx r (.mb v)):j5 F b zX E tr gs w qJ sl (F.L+1+j):=by
 have gI:=iO hi;have oS:=p.C.d j r G<|À ⟨_,m⟩;have N:=HB H.C oS;have X:=H.C.I _ oS;have hG:=p.M.I _ X;obtain⟨hd,oP⟩:=(p.EK H G s hi iH ht m) w<|p.I.r.r _ gI;have vw:j<F.n:=by have:=EH p.C;omega
 have ns:=Lp (E:=E) s;have mw:=yR H.C j;have xf:=p.G gI;obtain⟨_,oP⟩:=XZ oP hG;rcases oP with⟨p',g',es,h1,I,h3,h4⟩|⟨g',h1,I,h3⟩|⟨g',c,K,Q,ug,h1,I⟩
 .have hes:∀e∈es,uf F.toFx e:=by
   rcases I with rfl|rfl
   .intro e s;simp at s
   .exact yP N
  obtain⟨T',Qv,AS⟩:=h3;obtain⟨gs',u,q1,V,q3,q4,q5,q6,q7⟩:=p.Y (J:=JW F (E.I j) j<|.fx r (.mb p')) (T:=.fy) H (kW F (E.I j)<|.fx r (.mb p')) hi (EJ G) N (by rwa[mw]) (À U) hes (by rcases I with rfl|rfl<;>rfl) (λx hs e=>(ns x hs e).elim) (by rw[mw];exact λw₁ kg=>⟨hd,K4 ⟨T',Qv,AS⟩ kg⟩)<|À (AS _ _ Qv).1;refine⟨gP E j<|.fx r (.mb p'),_,_,_,_,gs',w,u,q1,V,λh=>h,.r (p.N.N H.C G s) (V.trans p.b) q5 (q7.r<|by rw[m];rfl) (p.M.Y (by rw[m];rfl)<|by rw[m];rfl) (p.C.G G s (λk=>by rw[m];rfl) (λf h=> ?_) (λf h=> ?_) (λf h=>by cases h) λf h=>by cases h) q6 (p.c.qU (E':=gP E j _) q3 (by rw[(AS _ _ Qv).1];simp) q4 (λ_ _=>rfl) U U (λ_ _=>rfl) (λ_=>rfl) (λt e=>iN _ Z) (λ_ _ h=>À h) λ_ _ _ _ h=>À h) λt f O z Y=> ?_,ahg H.C xf s m ht U h4⟩
  .rcases h with⟨_,h⟩|h|h<;>cases h;exact oS
  .rcases h with h|h|h<;>cases h
  .rw[iN _ (λe=>by subst e;rw[jN]at z;cases z)]at z;exact(p.f t f O z Y).app u
 .obtain⟨T,hT⟩:=jl h3;have ny:=lG (λl g h=>À h.2.1) h3;obtain⟨gs',u,q1,V,q3,q4,q5,q6,q7⟩:=p.Y H (kW F (E.I j)<|.fx r .lj) hi (EJ G) N (by rwa[mw]) (À U) (yP N) U (λx hs e=>(ns x hs e).elim) (by rwa[mw]) ny;refine⟨gP E j<|.fx r .lj,_,_,_,_,gs',w,u,q1,V,λh=>h,.r (p.N.N H.C G s) (V.trans p.b) q5 (q7.r<|by rw[m];rfl) (p.M.Y (by rw[m];rfl)<|by rw[m];rfl) (p.C.G G s (λk=>by rw[m];rfl) (λf h=> ?_) (λf h=> ?_) (λf h=>by cases h) λf h=>by cases h) q6 (p.c.qU (E':=gP E j _) q3 (by rcases ny with q|q<;>rw[q]<;>simp) q4 (λ_ _=>rfl) U U (λ_ _=>rfl) (λ_=>rfl) (λt e=>iN _ Z) (λ_ _ h=>À h) λ_ _ _ _ h=>À h) λt f O z Y=> ?_,EI H.C xf s<|by rw[m];simp only[gO.rk,jv.rk];omega⟩
  .rcases h with⟨_,h⟩|h|h<;>cases h;exact oS
  .have:f=r:=by rcases h with h|h|h<;>cases h;rfl
   subst this;refine ą λAT=> ?_;have:=I _ _<|p.C.e _ Z X AT;omega
  .rw[iN _ (λe=>by subst e;rw[jN]at z;cases z)]at z;exact(p.f t f O z Y).app u
 .have hcd:E.S.od<F.r (j+r*F.n):=by
   refine ñ λhle=> ?_;rcases p.C.Y _ X hle with⟨W,_,q,_⟩|⟨_,_,_,_,q,_⟩|⟨_,⟨q,_⟩|⟨_,q,_⟩⟩<;>(rw[Q]at q;cases q);omega
  have AU:=p.C.e _ Z X hcd;have e0:=Q.symm.trans AU;injection e0 with e1 e2;subst e1;have X0:K<=F.n:=by rw[e2];exact HC λi=>by cases E.C i<;>simp only[gO.gB]<;>first|omega|(split<;>first|omega|(rename_i q _;cases q<;>simp[jv.sY]))
  have HJ:=H.C.gd;have HL:=(Q▸hG:ia w (F.I<|F.r<|j+r*F.n) (.cl 1 K)).XH Z Z;obtain⟨hv,HL⟩:=HL;obtain⟨x,EL,AV,X1,Lq,hx4⟩:∃(x:jv) (EL:Nat->Option Nat),(x=.wr\/x=.kB)/\fg F.P É (qW F.P É F.B (F.I<|F.r<|j+r*F.n) (F.e (E.I j)<|j+r*F.n) x) {o (F.L+1+j)with w:=w} g'/\((∀M,M≠F.r (j+r*F.n)->EL M=E.d M)/\∀y,E.d (F.r<|j+r*F.n)=Ã y->EL (F.r<|j+r*F.n)=Ã y)/\(x=.wr->EL (F.r<|j+r*F.n)=Ã j):=by
   by_cases hz:K=0
   .subst hz;refine⟨.wr,fw E.d (F.r<|j+r*F.n)<|Ã j,À U,?_,⟨λM tX=>fG _ _ tX,λy hy=> ?_⟩,λ_=>gC _ _ _⟩
    .have:E.a (F.r<|j+r*F.n)=.cl 1 0:=Q;rw[this]at I;have e:(GS.cl 1 0).st%fX=0:=A
     simp only[e,if_true]at I;exact I
    .rw[p.C.y _ X Q]at hy;cases hy
   .refine⟨.kB,E.d,Á U,?_,⟨λ_ _=>rfl,λ_ h=>h⟩,λh=>by cases h⟩;have:E.a (F.r<|j+r*F.n)=.cl 1 K:=Q;rw[this]at I;have e:¬(GS.cl 1 K).st%fX=0:=by simp only[GS.st,fX];omega
    simp only[e,if_false]at I;exact I
  have hxw:x.sY=1:=by rcases AV with rfl|rfl<;>rfl
  have EM:=X1.j4 (w₁:=w.setCell (fL<|F.I<|F.r<|j+r*F.n)<|æ Ó<|Ó.wrap<|(GS.cl 1 K).st+1) (by have D:=(kE.r (Á ⟨fL<|F.I<|F.r<|j+r*F.n,_,À U,U⟩:kE (F.I<|F.r<|j+r*F.n) w (w.setCell (fL<|F.I<|F.r<|j+r*F.n)<|æ Ó<|Ó.wrap<|(GS.cl 1 K).st+1)) p.a H.C N);exact⟨Õ D.r.symm,λd lk=>D.jT d<|p.I.r.I _ gI d lk,λa ha=>D.M _ gI a ha,λa ha=>D.N _ gI a ha,λa _=>D.I a⟩);obtain⟨T,hT⟩:=jl EM;have X2:=lG (λl g h=>by rcases AV with rfl|rfl<;>exact À h.2.1) X1;have Qw:kE (F.I<|F.r<|j+r*F.n) w (w.setCell (fL<|F.I<|F.r<|j+r*F.n)<|æ Ó<|Ó.wrap<|(GS.cl 1 K).st+1):=Á ⟨_,_,À U,U⟩;obtain⟨gs',u,q1,V,q3,q4,q5,q6,q7⟩:=p.Y H (kW F (E.I j)<|.fx r x) hi (EJ G) N (by rw[mw];exact(Q▸h1)) Qw (AR N) U (λx hs e=>(ns x hs e).elim) (by rwa[mw]) X2;have sZ:=xe (f':=λi=>((gP E j<|.fx r x).C i).gB F i<|F.r<|j+r*F.n) vw (λi lz=>by rw[iN _ lz]);simp only[jN,m]at sZ;have uh:gO.gB F j (F.r<|j+r*F.n) (.fx r x)=1:=by simp only[gO.gB,if_true,hxw]
  have s5:gO.gB F j (F.r<|j+r*F.n) (.fx r (.mb v))=0:=by simp only[gO.gB,if_true];rfl
  rw[uh,s5]at sZ;refine⟨vv E j (.fx r x) (F.r<|j+r*F.n) (.cl 1 (K+1)) EL,_,_,_,_,gs',_,u,q1,V,λh=>h,.r ?_ (V.trans p.b) q5 ?_ ?_ (p.C.XU G s (λM tX=> ?_) (λ_ _=> ?_) (λh=>by omega) (λ⟨a,d,h⟩=> ?_) (λh=>by injection h with _ h;omega) Lq.1 Lq.2 (λf h=> ?_) (λf h=> ?_) (λf h=> ?_) λf h=> ?_) (q6.agT λM y hy=> ?_) ?_ λt f O z Y=> ?_,?_⟩
  .have:=p.N.N (x:=.fx r x) (T:=T) H.C G s;exact⟨this.M,this.Y,this.I,this.C,this.r⟩
  .have:=q7.r (x:=.fx r x) (by rw[m];rfl);exact⟨this.gT,this.o,this.lU,this.e,this.f,this.h,this.l,this.S,this.M,this.c,this.I,this.N,this.g,this.d⟩
  .have W1:=Qw.I H p.a p.C p.M N (Gg:=fw E.a (F.r<|j+r*F.n)<|.cl 1 (K+1)) ⟨λe=>absurd e<|H.C.M _ X,λ_=>rfl⟩ λM tX=>⟨λe=> ?_,λe=>fG _ _ λe'=>e<|by rw[e']⟩
   .have W2:=W1.Y (x:=.fx r x) (by show _=(E.C j).kD;rw[m];rfl) (by show _=(E.C j).iM;rw[m];rfl);exact⟨W2.C,W2.I,W2.jI,W2.M,W2.S,W2.N⟩
   .rwa[<-(H.C.S _ _ X tX e),gC]
  .rw[m];simp only[gO.gB,if_neg<|ÿ tX]
  .congr 1;rw[<-e2]at sZ;omega
  .rw[Q]at h;cases h
  .rcases h with⟨_,h⟩|h|h<;>cases h;exact oS
  .rcases h with h|h|h<;>cases h<;>(rcases AV with h|h<;>cases h)
  .cases h;rcases AV with h|h<;>cases h
  .cases h;exact hx4 U
  .by_cases e:M=F.r (j+r*F.n)
   .subst e;exact Lq.2 y hy
   .show EL M=Ã y;rwa[Lq.1 M e]
  .refine p.c.qU (E':=vv E j _ _ _ _) q3 (by rcases X2 with q|q<;>rw[q]<;>simp) q4 (λt oR=>Qw.C p.C N oR) U U (λ_ _=>rfl) (λ_=>rfl) (λt e=>iN _ Z) (λ_ _ h=>À h) λt f _ _ h=>À ?_;by_cases e:F.r (t+f*F.n)=F.r (j+r*F.n)
   .show(fw E.a _ _ _).sm=0;rw[e,gC];rfl
   .show(fw E.a _ _ _).sm=0;rwa[fG _ _ e]
  .have e:t≠j:=λe=>by
    subst e;have:(gP E t<|.fx r x).C t=.jK f:=z;rw[jN]at this;cases this
   have AW:(gP E j<|.fx r x).C t=.jK f:=z;rw[iN _ e]at AW;exact(p.f t f O AW Y).app u
  .have:=EI (E:=E) (tr:=tr) (gs:=gs) (gs':=gs') (x:=.fx r x) (T:=T) H.C xf s (by rw[m];rcases AV with rfl|rfl<;>simp only[gO.rk,jv.rk]<;>omega);rcases this with⟨i,O,z,Y⟩|⟨O,_⟩
   .exact À ⟨i,O,z,Y⟩
   .exfalso;have:=O _ xf;change(gP E j<|.fx r x).iR (fw tr (F.L+1+j) T) (F.L+1+j)=E.iR tr (F.L+1+j)at this;rw[ua H.C (E:=gP E j _) (show(gP E j _).N (j+1)=Í from s),ua H.C s,jN,m]at this;injection this with e _;rcases AV with rfl|rfl<;>simp only[gO.rk,jv.rk]at e<;>omega
end
section
variable{F:Ph}{E E':fT F}{S:Nat->Jd}{s D:Nat->gq}{B:Nat->iz}{f:Nat->e9}{c o:Array Ä}{u:ä}{sl:Option (Nat×Nat)}
def PI.Qx(H:gS F)(p:PI F j zX E S s B f c w qJ){x:gO}{a:Ä}{T:gq}(y:i+2<=E.r)(d:E.N (i+1)=Í)(z:c[F.L+1+i]?=Ã g)(C:ř F.P (ð c w sl) (F.L+1+i)=(ĝ<|ð o w sl,u))(l:o.size=c.size)(D:o[F.L+1+i]?=Ã a)(G:a.status=Å\/a.status=ç)(I:∀k,k≠F.L+1+i->o[k]?=c[k]?.map (Ā F.P g a w)) (J:gN F.P F.S E.Y (fw S (F.L+1+i)<|JW F (E.I i) i x) (fw s (F.L+1+i) T) (fw B (F.L+1+i)<|kW F (E.I i) x) (gp f (F.L+1+i) {f (F.L+1+i)with w:=w}) o w (qJ++u)) (K:TI F.toFx j zX E.r E.S.rl E.V E.e E.d E.iw E.f (qJ++u)) (M:iG F E (gp f (F.L+1+i) {f (F.L+1+i)with w:=w}) o.size w) (m:x.kD=(E.C i).kD) (N:x.iM=(E.C i).iM) (O:Ps F (gP E i x)) (Q:x.rk F<(E.C i).rk F) (W:∀r,x=.jK r->1<=F.r (i+r*F.n)->Υ (qJ++u) (F.L+1+i) (E.e<|F.r<|i+r*F.n)):j5 F j zX E s c w qJ sl (F.L+1+i):=by
 refine⟨gP E i x,_,_,_,_,o,w,u,C,l,λh=>h,.r (p.N.N H.C y d) (l.trans p.b) J (M.r m) (p.M.Y m N) O K (p.c.qU (E':=gP E i _) D (by rcases G with q|q<;>rw[q]<;>simp) I (λ_ _=>rfl) U U (λ_ _=>rfl) (λ_=>rfl) (λb e=>iN _ Z) (λ_ _ h=>À h) λ_ _ _ _ h=>À h) λb t X q v=> ?_,EI H.C (p.G<|iO z) d Q⟩
 .by_cases e:b=i
  .subst e;rw[jN]at q;exact W t q v
  .rw[iN _ e]at q;exact(p.f b t X q v).app u
def Qy{r:Nat}{v:jv}(h:v.sY=0):gO.gB F j k (.fx r v)=0:=by simp only[gO.gB,h];split<;>rfl
def xg{a:Ă}(h:a∈#[wQ]):a=wQ:=by simpa using h
def ahj{i:Nat}{fn:Ķ}{pos:String}{m:ε}:∃y:Ă,Ü i fn pos #[jy m]=#[y]/\y.g=i/\y.act=ę m:=⟨{g:=i,fn,pos,act:=ę m},by simp[Ü,jy,Ë],U,U⟩
def PI.AX(H:gS F)(p:PI F j zX E S s B f c w qJ){a:Ä}{m:ε}{J:Jd}{T:gq}(K:iz)(v:c[i]?=Ã g)(x:é F.P (i==0) g w=ũ a w #[jy m])(z:m≠ô)(C:m≠î) (D:∀y:Ă,y.act=ę m->(∀b,y.act.touch?=Ã b->Hl (λi=>i<c.size) E.Y f b)/\y.act.low w.heap.size) (G:∀y:Ă,y.g=i->y.act=ę m->∀I,¬Race I (qJ++#[y])) (hF:lh F.P (i==0) J T {f i with w:=w} a) (L:a.status=Å\/a.status=ç): ∃o y,y.g=i/\y.act=ę m/\ř F.P (ð c w sl) i=(ĝ<|ð o w sl,#[y])/\o.size=c.size/\o[i]?=Ã a/\(∀k,k≠i->o[k]?=c[k]?.map (Ā F.P g a w))/\ gN F.P F.S E.Y (fw S i J) (fw s i T) (fw B i K) (gp f i {f i with w:=w}) o w (qJ++#[y])/\iG F E (gp f i {f i with w:=w}) o.size w:=by
 obtain⟨y,l,n,h⟩:=ahj;have r:Ï (f i).d #[jy m]=(f i).d:=Ł (λe k=>by
  have:e=jy m:=by simpa using k
  subst this;exact⟨λq=>z (by injection q),λq=>C (by injection q)⟩) _
 have M:∀e∈#[jy m],Ë e=y.act:=λe k=>by
  have:e=jy m:=by simpa using k
  subst this;rw[h];rfl
 obtain⟨o,q,t,N,O,u⟩:=p.I.qU v x (p8.fU _ _ _ _) (by rwa[r]) L (λe k=>by rw[M e k];exact D y h) (by rw[l];exact G y n h);rw[r,l]at u;rw[l]at q;refine⟨o,y,n,h,q,t,N,O,u,?_⟩;rw[t];exact p.a.C<|Æ _
def Qz(H:gS F)(p:PI F j zX E S s B f c w qJ)(hb:F.M b)(D:yO E i){m:ε}(N:m=.read (gR b)\/m=κ (gR b))(T:F.Qk E.d (gR b) (Ã i))(W:∀x,E.iw x->i≠F.L+x): (∀y:Ă,y.act=ę m->(∀b,y.act.touch?=Ã b->Hl (λi=>i<c.size) E.Y f b)/\y.act.low w.heap.size)/\(∀y:Ă,y.g=i->y.act=ę m->∀O,¬Race O (qJ++#[y]))/\∀y:Ă,y.g=i->y.act=ę m->TI F.toFx j zX E.r E.S.rl E.V E.e E.d E.iw E.f (qJ++#[y]):=by
 have C:=p.I.r;have G:∀y:Ă,y.act=ę m->∀a,y.act.touch?=Ã a->a.loc=ü (gR b)/\a.kind=.said:=λy t a l=>by rw[t]at l;rcases N with rfl|rfl<;>simp[ċ]at l<;>subst l<;>exact⟨U,U⟩
 have u:=(xc hb).2;refine⟨λy t=>⟨λa l=>À ⟨_,(G y t a l).1,xd u,λk D=>p.a.Y H.C u k D⟩,?_⟩,λy I t=>λO=> ?_,λy I t=> ?_⟩
 .have:=C.N _<|xd (E:=E) u;rw[t];rcases N with rfl|rfl<;>exact this
 .refine noRace_append (C.l O) (λd h=>by rw[xg h,I]) λq a l d h z hz X=> ?_;have:d=y:=by simpa using h
  subst this;let⟨n,P⟩:=G d t z hz;rcases p.d.M q a _ l (X.1.trans n) u with⟨J,o⟩|r|⟨_,r⟩
  .exact XV p.d D J o
  .let⟨_,_,_,v⟩:=X;rw[r,P]at v;rcases v with v|v|⟨_,v,_⟩<;>cases v
  .have e:qJ.g? q=Ã i:=by
    rcases T with⟨K,M⟩|⟨k,v,K,M,s3,s4⟩
    .rcases r with⟨_,o⟩|⟨k,v,Q,o,_,_⟩
     .rw[o,M]
     .rw[K]at o;exact absurd (by injection o with o _ _;exact o.symm)<|H.C.M k Q
    .rcases r with⟨J,_⟩|⟨k',j',Q,o,r3,r4⟩
     .rw[M]at J;exact absurd (by injection J)<|H.C.M k K
     .rw[M]at o;have:k=k':=H.C.S _ _ K Q (by injection o);subst this;rw[s3]at r3;obtain rfl:=È r3;rw[r4,s4]
   let⟨M,v,K⟩:=Ú.1 e;have:=knows_own v;rwa[K]at this
 .refine p.d.C ⟨λd h a _=>by rw[xg h,I],D.imp id À,λd h a x l o K=> ?_,λd h a z l Q o k X J=> ?_,λd h b' _ e=> ?_,λx K q=>⟨λr M=>M.appOther (λd h=>by rw[xg h,I])<|W x q,λe=>absurd e.symm<|W x q⟩⟩
  .have:d=y:=by simpa using h
   subst this;let⟨n,P⟩:=G d t a l;rw[o]at n;injection n with n;subst n;exact Á ⟨P,T⟩
  .have:d=y:=by simpa using h
   subst this;let⟨n,_⟩:=G d t a l;rw[o]at n;injection n with n;subst n;exact⟨λv=>(p.a.I k (Ù J<|Lj p.C) _ v).2.1<|xd u,λe=>by simp[gR,jg]at e⟩
  .have:d=y:=by simpa using h
   subst this;rw[t]at e;rcases N with rfl|rfl<;>simp at e
theorem PI.ahk(H:gS F)(p:PI F j zX E S s B f c w qJ){r:Nat}(b:i+2<=E.r)(d:E.N (i+1)=Í)(q:c[F.L+1+i]?=Ã g)(z:g.status=Å)(C:s (F.L+1+i)=.fy)(a:E.C i=.fx r .wr):j5 F j zX E s c w qJ sl (F.L+1+i):=by let⟨Y,_,g',D,t⟩:=p.EK H b d q z C a w<|p.I.r.r _<|iO q;have u:=p.C.d i r b<|À ⟨_,a⟩;have v:=yR H.C i;let⟨G,I,K⟩:=Qz H p (HB H.C u) (EJ b) (m:=κ<|gR<|F.I<|F.r<|i+r*F.n) (Á U) (Á ⟨_,i,H.C.I _ u,U,p.C.D i r b a,U⟩) λx h e=>(Lp (E:=E) d) x h e;let⟨T,M⟩:=jl t;have x:=lG (λl g h=>À h.2.1) t;obtain⟨o,y,l,N,O,P,Q,V,W,X⟩:=p.AX (J:=JW F (E.I i) i<|.fx r .kB) H (kW F (E.I i)<|.fx r .kB) q (by rw[v];exact D w) fi fi G I (by rwa[v]) x;refine p.Qx H b d q O P Q x V W (K y l N) X (by rw[a];rfl) (by rw[a];rfl) (p.C.G b d (λk=>by rw[a];rfl) (λe h=> ?_) (λe h=> ?_) (λe h=>by cases h) λe h=>by cases h) (by rw[a];simp only[gO.rk,jv.rk];omega) (λe h=>by cases h);all_goals grind
theorem PI.ahl(H:gS F)(p:PI F j zX E S s B f c w qJ){r:Nat}(m:i+2<=E.r)(n:E.N (i+1)=Í)(q:c[F.L+1+i]?=Ã g)(G:g.status=Å)(I:s (F.L+1+i)=.fy)(d:E.C i=.fx r .gy):j5 F j zX E s c w qJ sl (F.L+1+i):=by
 let⟨hd,_,K⟩:=p.EK H m n q G I d w<|p.I.r.r _<|iO q;have v:=p.C.d i r m<|À ⟨_,d⟩;have y:=HB H.C v;have z:=yR H.C i;let⟨a,b,M⟩:=p.C.H i r m d;have C:=p.M.I _<|H.C.I _ v;rw[M]at C;let⟨g',N,t⟩:=K 0;simp only[if_true]at t;let⟨T,O⟩:=jl t;have D:=lG (λl g h=>À h.2.1) t;obtain⟨o,u,l,P,Q,V,W,X,Y⟩:=p.Y (J:=JW F (E.I i) i<|.fx r .lj) H (kW F (E.I i)<|.fx r .lj) q (EJ m) y (by rw[z];exact N w C.C) (À U) (yP y) U (λx k e=>(Lp n x k e).elim) (by rwa[z]) D;refine p.Qx H m n q l P Q D V W X Y (by rw[d];rfl) (by rw[d];rfl) (p.C.G m n (λk=>by rw[d];rfl) (λe h=> ?_) (λe h=> ?_) (λe h=>by cases h) λe h=>by cases h) (by rw[d];simp only[gO.rk,jv.rk];omega) λe h=>by cases h
 .grind
 .rcases h with h|h|h<;>cases h;exact p.C.w i r m<|À d
theorem PI.ahm(H:gS F)(p:PI F j zX E S s B f c w qJ){r:Nat}(d:i+2<=E.r)(t:E.N (i+1)=Í)(q:c[F.L+1+i]?=Ã g)(I:g.status=Å)(K:s (F.L+1+i)=.fy)(a:E.C i=.fx r .lj):j5 F j zX E s c w qJ sl (F.L+1+i):=by
 have v:=iO q;let⟨M,_,g',N,x⟩:=p.EK H d t q I K a w<|p.I.r.r _ v;have O:=p.C.d i r d<|À ⟨_,a⟩;have C:=HB H.C O;have D:=yR H.C i;have u:∀y:Ă,y.act=ę (Ĺ<|fL<|F.I<|F.r<|i+r*F.n)->y.act.touch?=Í:=λy m=>by rw[m];rfl
 let⟨T,P⟩:=jl x;have G:=lG (λl g h=>À<|H.Y _ _ _ _ h) x;obtain⟨o,y,Q,l,V,W,X,Y,q5,q7⟩:=p.AX (J:=JW F (E.I i) i<|.jK r) H (kW F (E.I i)<|.jK r) q (by rw[D];exact N w) fi fi (λy m=>⟨λz k=>(by rw[u y m]at k;cases k),by rw[m];exact p.I.r.N _<|À C⟩) (λy _ m=>AH p.I.r.l λz k=>by rw[xg k];exact u y m) (by rwa[D]) G;have EN:=p.d.C (yL (λz k=>by rw[xg k];exact u y l) λz k b _ e=>by grind);refine p.Qx H d t q V W X G Y q5 EN q7 (by rw[a];rfl) (by rw[a];rfl) (p.C.G d t (λk=>by rw[a,Qy U];rfl) (λk h=> ?_) (λk h=> ?_) (λk h=>by cases h) λk h=>by cases h) (by rw[a];simp only[gO.rk,jv.rk];omega) λk h z=> ?_
 .grind
 .rcases h with h|h|h<;>cases h;exact p.C.w i r d<|Á<|À a
 .cases h;let⟨k,b,e⟩:=p.d.Y _ z<|Ù (p.C.w i r d<|Á<|À a)<|Qq _;exact XL k b e (p.d.c _ C) Q l<|(p.I.r.f _ v).trans M
end
section
variable{F:Ph}{E E':fT F}{S:Nat->Jd}{tr o:Nat->gq}{f:Nat->iz}{d:Nat->e9}{gs gs':Array Ä}{u:ä}{sl:Option (Nat×Nat)}
def X3{G:GS}(h:G.sm≠0):∃a s,G=.gW a (s+1):=by
 cases G with
 |cl c b=>exact absurd U h
 |jG b=>exact absurd U h
 |gW a s=>cases s with
  |zero=>exact absurd U h
  |succ s=>exact⟨a,s,U⟩
def EO(h:gs[i]?=Ã g):gi gs i=if g.status=Å then 1 else 0:=by unfold gi;rw[h];simp
def QA(h:gs'[i]?=gs[i]?):gi gs' i=gi gs i:=by unfold gi;rw[h]
theorem PI.ahn(H:gS F)(p:PI F n zX E S tr f d gs w qJ){j r:Nat}{g:Ä}(t:j+2<=E.r)(m:E.N (j+1)=Í)(v:gs[F.L+1+j]?=Ã g)(z:g.status=Å)(ht:tr (F.L+1+j)=.fy)(c:E.C j=.fx r .kB):j5 F n zX E tr gs w qJ sl (F.L+1+j):=by
 have B:=iO v;obtain⟨hd,_,ho,QB,g',h1,h2⟩:=(p.EK H t m v z ht c) w<|p.I.r.r _ B;have Q:=p.C.d j r t<|À ⟨_,c⟩;have C:=HB H.C Q;have G:=H.C.I _ Q;have V:=yR H.C j;have X:=p.G B;have vw:j<F.n:=by have:=EH p.C;omega
 have hG:=p.M.I _ G;by_cases K:(E.a<|F.r<|j+r*F.n).sm=0
 .have q:=hG.M;rw[K]at q;obtain⟨uh,I⟩:=p.g j t m;rw[c]at uh I;obtain⟨gs',q1,o,M,q4⟩:=P7 v (by rw[V];exact(QB w q));have s:∀x,Ā F.P g {g with status:=Ý} w x=x:=by
   intro x;unfold Ā;rw[if_neg fi]
  have b:∀k,k≠F.L+1+j->gs'[k]?=gs[k]?:=by
   intro k a;rw[q4 k a];cases gs[k]? with
   |none=>rfl
   |some x=>simp[s]
  have D:gN F.P F.S E.Y S tr f d gs' w (qJ++#[]):=by
   rw[Û];obtain⟨g0,J,l,W,O⟩:=p.I.C _ g v;have N:g=g0:=by
    rw[I]at l;cases l with
    |gi=>rfl
    |nZ h ho=>cases z
   subst N;refine⟨?_,λk y a=> ?_,λk a=>p.I.I k<|by rwa[<-o]⟩
   .rw[show(λi=>i<gs'.size)=(λi=>i<gs.size) by rw[o]];exact p.I.r
   .by_cases e:k=F.L+1+j
    .subst e;rw[M]at a;obtain rfl:=È a;refine⟨g,J,?_,À z,Á ht⟩;rw[I];exact .nZ z ho
    .rw[b k e]at a;exact p.I.C k y a
  refine⟨E,S,tr,f,d,gs',w,#[],q1,o,λh=>h,.r p.N (o.trans p.b) D (by rw[o];exact p.a) p.M p.C (by rw[Û];exact p.d) (λk y a l=> ?_) (by rw[Û];exact p.f),Qt (λ_ _=>rfl) X (by rw[EO v,if_pos z]) (by rw[EO M,if_neg fi]) λk a=>QA<|b k a⟩;by_cases e:k=F.L+1+j
  .subst e;exact Á ⟨j,t,m,U,À ⟨r,c,K⟩⟩
  .rw[b k e]at a;exact p.c k y a l
 .obtain⟨a,s,y⟩:=X3 K;have QC:=y▸hG;have EP:=h1 w _ (by simp only[GS.sm];omega) QC.M QC.N;have N:kE (F.I<|F.r<|j+r*F.n) w (w.setCell (gR<|F.I<|F.r<|j+r*F.n)<|æ å<|(GS.gW a<|s+1).sm-1):=Á ⟨_,_,Á U,U⟩;have D:=N.r p.a H.C C;obtain⟨T,hT⟩:=jl (h2.j4 (w₁:=w.setCell (gR<|F.I<|F.r<|j+r*F.n)<|æ å<|(GS.gW a<|s+1).sm-1) ⟨Õ D.r.symm,λb l=>D.jT b<|p.I.r.I _ B b l,λa k=>D.M _ B a k,λa k=>D.N _ B a k,λa _=>D.I a⟩);have ny:=lG (λl g h=>À h.2.1) h2;obtain⟨gs',u,q1,o,M,q4,q5,q6,q7⟩:=p.Y H (kW F (E.I j)<|.fx r .gy) v (EJ t) C (by rwa[V]) N (Hz C) (HA _).2.2.2 (λx l e=>(Lp m x l e).elim) (by rwa[V]) ny;have hle:F.r (j+r*F.n)<=E.S.od:=by
   refine ą λl=> ?_;have:=p.C.e _ Z G l;rw[y]at this;cases this
  have sZ:=xe (f':=λi=>((gP E j<|.fx r .gy).C i).gB F i<|F.r<|j+r*F.n) vw (λi l=>by rw[iN _ l]);simp only[jN,c]at sZ;have uh:gO.gB F j (F.r<|j+r*F.n) (.fx r .gy)=0:=by simp only[gO.gB,if_true];rfl
  have I:gO.gB F j (F.r<|j+r*F.n) (.fx r .kB)=1:=by simp only[gO.gB,if_true];rfl
  rw[uh,I]at sZ;refine⟨vv E j (.fx r .gy) (F.r<|j+r*F.n) (.gW a s) E.d,_,_,_,_,gs',_,u,q1,o,λh=>h,.r ?_ (o.trans p.b) q5 ?_ ?_ (p.C.XU t m (λl q=> ?_) (λ_ h=>by omega) (λ_=> ?_) (λ_=>⟨a,s,U⟩) (λh=>by cases h) (λ_ _=>rfl) (λ_ h=>h) (λb h=> ?_) (λb h=> ?_) (λb h=> ?_) λb h=>by cases h) q6 ?_ λk b J O a3=> ?_,?_⟩
  .have:=p.N.N (x:=.fx r .gy) (T:=T) H.C t m;exact⟨this.M,this.Y,this.I,this.C,this.r⟩
  .have:=q7.r (x:=.fx r .gy) (by rw[c];rfl);exact⟨this.gT,this.o,this.lU,this.e,this.f,this.h,this.l,this.S,this.M,this.c,this.I,this.N,this.g,this.d⟩
  .have W:=N.I H p.a p.C p.M C (Gg:=fw E.a (F.r<|j+r*F.n)<|.gW a s) ⟨λe=>absurd e<|H.C.M _ G,λ_=>rfl⟩ λl q=>⟨λe=> ?_,λe=>fG _ _ λe'=>e<|by rw[e']⟩
   .have l:=W.Y (x:=.fx r .gy) (by show _=(E.C j).kD;rw[c];rfl) (by show _=(E.C j).iM;rw[c];rfl);exact⟨l.C,l.I,l.jI,l.M,l.S,l.N⟩
   .rw[<-(H.C.S _ _ G q e),gC];exact QC.kB
  .rw[c];simp only[gO.gB,if_neg<|ÿ q]
  .rcases p.C.Y _ G hle with⟨W,_,q,_⟩|⟨r1,s1,l,z2,q,z3⟩|⟨l,⟨q,_⟩|⟨s1,q,z3⟩⟩
   .rw[y]at q;cases q
   .rw[y]at q;injection q with e1 e2;subst e1 e2;exact Á<|À ⟨a,s,l,z2,U,Z⟩
   .rw[y]at q;cases q
   .rw[y]at q;injection q with e1 e2;subst e1 e2;exact Á<|Á ⟨l,Á ⟨s,U,Z⟩⟩
  .rcases h with⟨_,h⟩|h|h<;>cases h;exact Q
  .rcases h with h|h|h<;>cases h;exact hle
  .cases h;exact⟨a,s,gC _ _ _⟩
  .refine p.c.qU (E':=vv E j _ _ _ _) M (by rcases ny with q|q<;>rw[q]<;>simp) q4 (λk l=>N.C p.C C l) U U (λ_ _=>rfl) (λ_=>rfl) (λk e=>iN _ Z) (λ_ _ h=>À h) λk b _ _ h=>À ?_;by_cases e:F.r (k+b*F.n)=F.r (j+r*F.n)
   .rw[e]at h;exact absurd h K
   .show(fw E.a _ _ _).sm=0;rwa[fG _ _ e]
  .have e:k≠j:=λe=>by
    subst e;have:(gP E k<|.fx r .gy).C k=.jK b:=O;rw[jN]at this;cases this
   have l:(gP E j<|.fx r .gy).C k=.jK b:=O;rw[iN _ e]at l;exact(p.f k b J l a3).app u
  .have:=EI (E:=E) (tr:=tr) (gs:=gs) (gs':=gs') (x:=.fx r .gy) (T:=T) H.C X m (by rw[c];simp only[gO.rk,jv.rk];omega);rcases this with⟨i,J,O,a3⟩|⟨J,_⟩
   .exact À ⟨i,J,O,a3⟩
   .exfalso;have:=J _ X;change(gP E j<|.fx r .gy).iR (fw tr (F.L+1+j) T) (F.L+1+j)=E.iR tr (F.L+1+j)at this;rw[ua H.C (E:=gP E j _) (show(gP E j _).N (j+1)=Í from m),ua H.C m,jN,c]at this;injection this with e _;simp only[gO.rk,jv.rk]at e;omega
theorem iG.aho(L:iG F E d i w){l:e9}(H:∀b,l.O b->(d n).O b)(I:∀b,(d n).I b->l.I b)(J:∀a,l.r a->(d n).r a)(K:∀a,(d n).r a->l.r a)(M:∀a,(d n).N a->l.N a)(N:∀a,l.C a->(∃k,k<=F.m/\a=jg F.toFx k)\/∃p,p≠F.f/\a=jo F p)(P:l.q=(d n).q)(s:¬l.q):iG F E (gp d n l) i w:=by
 have D:∀k,d k=kC (d k)->k≠n:=λk f e=>by
  subst e;have:(d k).q:=by rw[f];trivial
  grind
 have Q:∀k b,(gp d n l k).O b->(d k).O b:=λk b h=>by grind [gU,gF]
 have t:∀k a,(gp d n l k).r a↔(d k).r a:=λk a=>by grind [gU,gF]
 have y:∀k b,(d k).I b->(gp d n l k).I b:=λk b h=>by grind [gU,gF]
 have z:∀k a,(d k).N a->(gp d n l k).N a:=λk a h=>by grind [gU,gF]
 refine⟨λk f a v=> ?_,λx c o a v=>(t _ _).2<|L.o x c o a v,λh=>⟨z _ _ (L.lU h).1,λb s=>y _ _<|(L.lU h).2 b s⟩,λh k c o=>⟨(t _ _).2 (L.e h k c o).1,(t _ _).2 (L.e h k c o).2⟩,λh u=>⟨z _ _ (L.f h u).1,λb s=>y _ _<|(L.f h u).2 b s⟩,λj g u r B c=>(t _ _).2<|L.h j g u r B c,λj g u=>⟨z _ _ (L.l j g u).1,λb s=>y _ _<|(L.l j g u).2 b s⟩,λx G=> ?_,λk f=> ?_,λk c o=> ?_,λk f b s=> ?_,λk f j g h=>L.N k f j g<|(t _ _).1 h,λk c o j g h=>L.g k c o j g<|(t _ _).1 h,λj g r B c k f h=>L.d j g r B c k f<|(t _ _).1 h⟩
 .by_cases e:k=n
  .grind [gU]
  .rw[gF d _ e]at v;exact L.gT k f a v
 .rw[gF d _<|D _<|L.S x G];exact L.S x G
 .by_cases e:k=n
  .grind [gU]
  .rw[gF d _ e];exact L.M k f
 .rw[gF d _<|D _<|L.c k c o];exact L.c k c o
 .let⟨S,T,V⟩:=L.I k f b s;grind
theorem PI.ahp(H:gS F)(p:PI F n zX E S tr f d gs w qJ){r:Nat}(o:j+2<=E.r)(s:E.N (j+1)=Í)(u:gs[F.L+1+j]?=Ã g)(x:g.status=Å)(I:tr (F.L+1+j)=.fy)(m:E.C j=.jK r):rQ F n zX E tr gs w qJ:=by
 have c:=iO u;have C:=p.I.r;obtain⟨y,z⟩:=p.g j o s;rw[m]at y z;have B:=p.I.N u x I (À z) w<|C.r _ c;rw[y]at B;have v:=p.C.d j r o<|Á<|À m;have J:=H.C.I _ v;have D:=p.C.w j r o<|Á<|Á m;have t:=Ù D<|Ù (Qq _)<|Lj p.C;obtain⟨K,M⟩:=p.M.M _ t;have N:=λa l=>by
  by_cases e:1<=F.r (j+r*F.n)
  .exact(p.d.I _ e (Ù D<|Qq _) a l).agR<|p.f j r o m e
  .have h:F.r (j+r*F.n)=0:=Z
   obtain⟨i,b⟩:=p.a.l j o s;rw[h]at l;rcases l with l|rfl
   .rw[p.C.v]at l;exact(C.S _ c).rd a<|b _ l
   .exact(C.S _ c).r _ i
 have G:iQ F.S (λi=>i<gs.size) E.Y (gp d (F.L+1+j) {d (F.L+1+j)with I:=λb=>(d<|F.L+1+j).I b\/E.V (F.r<|j+r*F.n) b,N:=λa=>(d<|F.L+1+j).N a\/a=jg F.toFx (F.r<|j+r*F.n),w:=w}) w qJ:=by
  refine C.C c (λ_ q=>q) (λb q=> ?_) (λ_ q=>q) (λa q=> ?_) U U U (λb h q=> ?_) λa l q=> ?_
  .rcases q with q|q
   .exact À<|Á q
   .obtain⟨i,k,O⟩:=p.a.I _ t b q;grind
  .rcases q with q|rfl
   .exact À<|Á q
   .exact Á ⟨À<|Á ⟨_,J,U⟩,λk e=>p.a.N _ t k e,N _<|Á U⟩
  .rcases q with q|q
   .exact C.m _ c b h q
   .exact(p.a.I _ t b q).2.2 _ c h
  .rcases q with q|rfl
   .exact C.g _ c a l q
   .exact p.a.N _ t _ c l
 have i:=G.M c;rw[gU]at i;obtain⟨T,O⟩:=jl (H.e (E.I j) j r _ _ _ g v B {d (F.L+1+j)with I:=λb=>(d<|F.L+1+j).I b\/E.V (F.r<|j+r*F.n) b,N:=λa=>(d<|F.L+1+j).N a\/a=jg F.toFx (F.r<|j+r*F.n),w:=w} i U (λb q=>q) U U U U U K M (Á U)<|p.a.h j o s r v<|by rw[m];exact Æ _);refine p.Qu H o s u (À x) G O ?_ (p.M.Y (by rw[m];rfl)<|by rw[m];rfl) (p.C.G o s (λk=>by rw[m];rfl) (λe h=> ?_) (λe h=> ?_) (λe h=>by cases h) λe h=>by cases h) ?_ λe h=>by cases h
 .refine(p.a.r<|by rw[m];rfl).aho (λ_ q=>q) (λ_ q=>À q) (λ_ q=>q) (λ_ q=>q) (λ_ q=>À q) (λa l=> ?_) U (p.a.M (F.L+1+j)<|Á ⟨j+1,Z,Z,λ⟨e,h,_⟩=>by rw[s]at h;cases h⟩);rcases l with q|q|rfl
  .exact p.a.gT _ c a<|À q
  .exact p.a.gT _ c a<|Á q
  .grind
 .grind
 .grind
 .rw[m];simp only[gO.rk];have h:F.n+3000<=(F.n+3000)*(F.q+3-r):=ã _ (by
   have:r<=F.q:=by have:r*1<=r*F.n:=ï _ H.C.N;omega
   omega)
  omega
def PI.ahq(H:gS F)(p:PI F n zX E S tr f d gs w qJ){r:Nat}(G:j+2<=E.r)(I:E.N (j+1)=Í)(V:gs[F.L+1+j]?=Ã g)(iH:g.status=Å)(ht:tr (F.L+1+j)=.fy)(u:E.C j=.oO r):rQ F n zX E tr gs w qJ:=by
 have D:=iO V;have C:=p.I.r;let⟨uh,s5⟩:=p.g j G I;rw[u]at uh s5;have hJ:=p.I.N V iH ht<|À s5;rw[uh]at hJ;let⟨hcell,hrecv⟩:=hJ w<|C.r _ D;have oS:=p.C.d j r G<|Á<|Á u;have Lr:=p.a.h j G I r oS (by rw[u];exact Æ _);have Ls:r<=F.q:=by have:r*1<=r*F.n:=ï _ H.C.N;omega
 have s6:iQ F.S (λi=>i<gs.size) E.Y (gp d (F.L+1+j)<|vu F {d (F.L+1+j)with w:=w}<|j+r*F.n) w qJ:=by
  refine C.C D (λ_ q=>q) (λb q=>À<|Á q) (λ_ q=>q.1) (λa q=> ?_) U U U (λb t q=>C.m _ D b t q) λa s q=> ?_
  .rcases q with q|rfl
   .exact À<|Á q
   .exact À<|À Lr
  .rcases q with q|q
   .exact C.g _ D a s.1 q
   .exact s.2 q
 have hF:lh F.P É (JW F (E.I j) j<|.nA (r+1)) .fy (vu F {d (F.L+1+j)with w:=w}<|j+r*F.n) g:=λw₁ kg=>by let⟨Q,W,c,e⟩:=hrecv;exact⟨Q,W,c,λx=>(e x).j4 kg⟩
 refine p.Qu H G I V (À iH) s6 hF ?_ ?_ (p.C.G G I (λk=>by rw[u];rfl) (λm h=> ?_) (λm h=> ?_) (λm h=>by cases h) λm h=>by cases h) ?_ λm h=>by cases h
 .have L:=p.a;have J:∀k a,(gp d (F.L+1+j) (vu F {d (F.L+1+j)with w:=w}<|j+r*F.n) k).r a->(d k).r a:=λk a h=>by
   by_cases e:k=F.L+1+j
   .subst e;rw[gU]at h;exact h.1
   .rwa[gF d _ e]at h
  have K:∀k a,(d k).r a->a≠jo F (F.a<|j+r*F.n)->(gp d (F.L+1+j) (vu F {d (F.L+1+j)with w:=w}<|j+r*F.n) k).r a:=λk a h lr=>by
   by_cases e:k=F.L+1+j
   .subst e;rw[gU];exact⟨h,lr⟩
   .rwa[gF d _ e]
  have X:∀k a,(d k).N a->(gp d (F.L+1+j) (vu F {d (F.L+1+j)with w:=w}<|j+r*F.n) k).N a:=λk a h=>by
   by_cases e:k=F.L+1+j
   .subst e;rw[gU];exact À h
   .rwa[gF d _ e]
  have M:∀k,(gp d (F.L+1+j) (vu F {d (F.L+1+j)with w:=w}<|j+r*F.n) k).I=(d k).I/\(gp d (F.L+1+j) (vu F {d (F.L+1+j)with w:=w}<|j+r*F.n) k).O=(d k).O/\(gp d (F.L+1+j) (vu F {d (F.L+1+j)with w:=w}<|j+r*F.n) k).q=(d k).q:=λk=>by
   by_cases e:k=F.L+1+j
   .subst e;rw[gU];exact⟨U,U,U⟩
   .rw[gF d _ e];exact⟨U,U,U⟩
  have nb:∀k,d k=kC (d k)->k≠F.L+1+j:=λk W e=>by
   subst e;have:(d<|F.L+1+j).q:=by rw[W];trivial
   exact(p.a.M (F.L+1+j)<|Á ⟨j+1,Z,Z,λ⟨e,c,_⟩=>by rw[I]at c;cases c⟩) this
  have N:∀k,k≠F.L+1+j->k<gs.size->∀a,(d k).r a->a≠jo F (F.a<|j+r*F.n):=λk W HM a s e=>C.h _ _ HM D W a s (by rw[e];exact À Lr);refine⟨λk W a s=> ?_,λx c v a s=>K _ _ (L.o x c v a s) (N 0 (by have:=H.C.r;omega) (by have:=p.b;have:=H.C.r;omega) a<|L.o x c v a s),λh=>⟨X _ _ (L.lU h).1,λb t=>by rw[(M 0).1];exact(L.lU h).2 b t⟩,λh k c v=> ?_,λh B=>⟨X _ _ (L.f h B).1,λb t=>by rw[(M _).1];exact(L.f h B).2 b t⟩,λl o B m y c=> ?_,λl o B=>⟨X _ _ (L.l l o B).1,λb t=>by rw[(M _).1];exact(L.l l o B).2 b t⟩,λx AY=>by rw[gF d _<|nb _<|L.S x AY];exact L.S x AY,λk W=>by rw[(M k).2.2];exact L.M k W,λk c v=>by rw[gF d _<|nb _<|L.c k c v];exact L.c k c v,λk W b t=>⟨(L.I k W b t).1,(L.I k W b t).2.1,λi z=>by rw[(M i).2.1];exact(L.I k W b t).2.2 i z⟩,λk W i z h=>L.N k W i z<|J _ _ h,λk c v i z h=>L.g k c v i z<|J _ _ h,λl o m y c i z h=> ?_⟩
  .by_cases e:k=F.L+1+j
   .subst e;rw[gU]at s;rcases s with q|q|q
    .exact L.gT _ D a<|À q.1
    .exact L.gT _ D a<|Á q
    .exact Á ⟨_,H.C.Y.2 _ (by assumption),q⟩
   .rw[gF d _ e]at s;exact L.gT k W a s
  .have Q:F.L<gs.size:=by have:=p.b;have:0<E.r:=h;omega
   have:=L.e h k c v;exact⟨K _ _ this.1<|N _ Z Q _ this.1,K _ _ this.2<|N _ Z Q _ this.2⟩
  .by_cases e:l=j
   .subst e;rw[jN]at c;simp only[gO.kD]at c;refine K _ _ (L.h l o B m y<|by rw[u];simp only[gO.kD];omega) λq=> ?_;have Q:=H.C.a _ _ y oS (by injection q);have T:m*F.n=r*F.n:=Z
    have:=Nat.eq_of_mul_eq_mul_right H.C.N T;omega
   .rw[iN _ e]at c;have q:=L.h l o B m y c;have xh:l+2<=E.r:=o;exact K _ _ q<|N _ Z (by have:=p.b;omega) _ q
  .by_cases e:l=j
   .subst e;rw[jN]at c;simp only[gO.kD]at c;by_cases Q:m=r
    .subst Q;by_cases T:i=F.L+1+l
     .subst T;rw[gU]at h;exact h.2 U
     .exact N i T z _ (J _ _ h) U
    .exact L.d l o m y (by rw[u];simp only[gO.kD];omega) i z<|J _ _ h
   .rw[iN _ e]at c;exact L.d l o m y c i z<|J _ _ h
 .have W:=p.M;refine⟨W.C,W.I,λl o=> ?_,W.M,W.S,λl o m y c=> ?_⟩
  .by_cases e:l=j
   .subst e;have:=W.jI l o;rw[u]at this;rw[jN];exact this
   .rw[iN _ e];exact W.jI l o
  .by_cases e:l=j
   .subst e;rw[jN]at c;simp only[gO.kD]at c;by_cases Q:m=r
    .subst Q;exact hcell
    .exact W.N l o m y<|by rw[u];simp only[gO.kD];omega
   .rw[iN _ e]at c;exact W.N l o m y c
 .rcases h with⟨_,h⟩|h|h<;>cases h
 .rcases h with h|h|h<;>cases h
 .rw[u];simp only[gO.rk];have e:F.q+3-r=(F.q+3-(r+1))+1:=Z
  rw[e,ō];omega
end
def ahr{α:Type}(f:Nat->α)(i:Nat)(x y:α):fw (fw f i x) i y=fw f i y:=by funext k;unfold fw;split<;>rfl
section
variable{F:Ph}{E E':fT F}{S:Nat->Jd}{tr o:Nat->gq}{d:Nat->iz}{lot:Nat->e9}{gs gs':Array Ä}{u:ä}{sl:Option (Nat×Nat)}{sz:Nat}
def qa{r:Nat}{a:Bool}(h:b≠i):(w.setChan i n q yQ j r a).heap[b]?=w.heap[b]?:=by unfold World.setChan;exact í<|ÿ h
def Lt{r:Nat}{a:Bool}(h:i<w.heap.size):(w.setChan i n q yQ j r a).heap[i]?=Ã (.chan n q yQ j r a):=by unfold World.setChan;simp[h]
def HN{r:Nat}{a:Bool}:(w.setChan i n q yQ j r a).heap.size=w.heap.size:=by unfold World.setChan;simp
def ahs(f:Ps F E)(c:j+2<=E.r){cap s r:Nat}{buf:Array è}{cl tm:Bool}:Hu F E lot sz w (w.setChan (E.I j) cap buf cl s r tm):=by
 let⟨g,d,_⟩:=f.o j c;refine⟨Õ HN.symm,λb _ h _=>qa λe=>h<|Á<|Á ⟨j,c,e⟩,λa i _=>gM (qa λe=> ?_),wY (qa λe=>d e.symm),U,U⟩;rcases i with⟨k,l,rfl⟩|⟨p,rfl⟩
 .exact g<|Á ⟨k,l,e.symm⟩
 .exact d e.symm
def X4(a:Ps F E)(c:j+2<=E.r){cap s r:Nat}{buf:Array è}{cl tm:Bool}(d:F.M b){G:GS}(h:ia w b G):ia (w.setChan (E.I j) cap buf cl s r tm) b G:=by have e:b≠E.I j:=λe=>(a.o j c).1<|e▸d;exact h.vt (gM<|qa e) (gM<|qa e) (wZ<|qa e)<|wZ<|qa e
def Wd.G(W:Wd F E w)(H:gS F)(L:iG F E lot sz w)(g:Ps F E)(h:j+2<=E.r){cap s r:Nat}{buf:Array è}{cl tm:Bool}: (∀k,k<=E.S.md->nD F k (E.c k)/\F.d k (E.c k) (E.V k) (w.setChan (E.I j) cap buf cl s r tm))/\(∀k,1<=k->k<=E.S.md->(w.setChan (E.I j) cap buf cl s r tm).cell? (jo F (F.b k))=Ã (.string (F.o k)))/\(∀c,c+2<=E.r->∀d,c+d*F.n<F.q->d<(E.C c).kD->(w.setChan (E.I j) cap buf cl s r tm).cell? (jo F (F.a (c+d*F.n)))=Ã (.string (F.k (c+d*F.n))))/\ia (w.setChan (E.I j) cap buf cl s r tm) F.C E.b/\(∀k,k<=F.m->ia (w.setChan (E.I j) cap buf cl s r tm) (F.I k) (E.a k)):=by have e:=ahs (lot:=lot) (sz:=sz) (w:=w) g h (cap:=cap) (s:=s) (r:=r) (buf:=buf) (cl:=cl) (tm:=tm);refine⟨λk a=>⟨(W.M k a).1,H.S _ _ _ _ _ (W.M k a).2 (λb f=>e.C b (L.I k a b f).1 (L.I k a b f).2.1 (L.I k a b f).2.2) (e.r _ (À ⟨k,Ù a (Li g),U⟩) (L.N k a)) (e.r _ (Á ⟨_,U⟩) (L.Qp H.C)) e.I e.M⟩,λk b f=>(e.r _ (Á ⟨_,U⟩) (L.g k b f)).trans (W.S k b f),λc b d f i=>(e.r _ (Á ⟨_,U⟩) (L.d c b d f i)).trans (W.N c b d f i),X4 g h (À U) W.C,λk a=>X4 g h (Á ⟨k,a,U⟩) (W.I k a)⟩
def iG.ER(L:iG F E lot sz w)(h:w.heap.size<=W.heap.size):iG F E lot sz W:= ⟨L.gT,L.o,L.lU,L.e,L.f,L.h,L.l,L.S,L.M,L.c,λk a b c=>⟨Ê (L.I k a b c).1 h,(L.I k a b c).2⟩,L.N,L.g,L.d⟩
def Lu(c:TI F.toFx i zX E.r E.S.rl E.V E.e E.d E.iw E.f qJ)(h:xb u):TI F.toFx i zX E.r E.S.rl E.V E.e E.d E.iw E.f (qJ++u):= c.C<|yL (λa b=>(h a b).1) λa b _ _=>(h a b).2 _
def gV(E:fT F)(x:Nat)(e:ij):fT F:={E with N:=fw E.N x (Ã e)}
theorem qY.G(h:qY F E S tr d)(ok:F.Ok){x:Nat}{e:ij}{T:gq}(m:(∃N,e=.ju N)->T=.fy):qY F (fq.gV E x e) (fw S (F.L+x)<|JE F e) (fw tr (F.L+x) T) (fw d (F.L+x) .no):=by
 have:=ok.r;have c:∀y,y≠x->(fq.gV E x e).N y=E.N y:=λy k=>fG _ _ k;have g:(fq.gV E x e).N x=Ã e:=gC _ _ _;refine⟨by rw[fG S _ Z,fG d _ Z];exact h.M,λb a=> ?_,λj b a=> ?_,λy l b a=> ?_,λi b a=>by rw[fG S _ Z,fG d _ Z,fG tr _ Z];exact h.r i b a⟩
 .have f:x≠0:=λq=>by subst q;rw[g]at a;cases a
  rw[c 0<|ÿ f]at a;rw[fG S _ Z,fG d _ Z];exact h.Y b a
 .have f:x≠j+1:=λq=>by subst q;rw[g]at a;cases a
  rw[c _<|ÿ f]at a;rw[fG S _ Z,fG d _ Z];exact h.I j b a
 .by_cases q:y=x
  .grind [gC]
  .rw[c y q]at a;rw[fG S _ Z,fG d _ Z,fG tr _ Z];exact h.C y l b a
def rR(F:Ph)(E:fT F)(x:Nat):Nat×Nat:=match E.N x with
 |some e=>e.rk F
 |none=>if x=0 then(E.S.rk F,0)else((E.C<|x-1).rk F,0)
def aht(ok:F.Ok)(x:Nat):E.iR tr (F.L+x)=((rR F E x).1,(rR F E x).2,tr<|F.L+x):=by
 have:=ok.r;unfold rR;cases a:E.N x with
 |some e=>rw[Lm ok a]
 |none=>
  cases x with
  |zero=>rw[ó,XS ok a];simp
  |succ j=>rw[show F.L+(j+1)=F.L+1+j by omega,ua ok a];simp
def ES(ok:F.Ok){x:Nat}{e:ij}{T:gq}(b:F.L+x<F.N)(h:(e.rk F).1<(rR F E x).1\/((e.rk F).1=(rR F E x).1/\(e.rk F).2<(rR F E x).2)):pC F.N ((fq.gV E x e).mu (fw tr (F.L+x) T) gs') (E.mu tr gs):=by
 refine Hw b ?_ λk c=>yN (λ_=>rfl) (λ_ _=>rfl) (λa=>fG _ _ Z) (λ_ _=>rfl) (λ_ _=>rfl)<|fG tr _ c;rw[Lm ok (E:=fq.gV E x e)<|gC _ _ _,aht ok];rcases h with h|⟨a,d⟩
 .exact À h
 .exact Á ⟨a,À d⟩
def ahu{e:ij}(h:e.kO=me (E.N i))(y:Nat):(fq.gV E i e).G y=E.G y:=by
 unfold fT.G;by_cases q:y=i
 .subst q;show(if y<E.M.ad F.n then me (fw E.N y (Ã e) y)else 0)=_;rw[gC];show(if y<E.M.ad F.n then e.kO else 0)=_;rw[h]
 .show(if y<E.M.ad F.n then me (fw E.N i (Ã e) y)else 0)=_;rw[fG _ _ q]
def ahv{e:ij}(h:e.kO=me (E.N i)):Ñ (F.n+1) (fq.gV E i e).G=Ñ (F.n+1) E.G:=Ō λy _=>ahu h y
theorem Ps.gV(h:Ps F E){x:Nat}{e:ij}(J:x<E.r)(v:e.kO=me (E.N x))(w:∀p,E.N x=Ã (.fZ p)->∀W,p≠ .gy W/\p≠ .jc W/\p≠ .iA W)(K:∀p,e=.fZ p->∀W,p≠ .gy W/\p≠ .jc W/\p≠ .iA W) (z:∀j,x=j+1->j<E.M.jf F.n/\∃r,E.C j=.nA r/\∀i,j+i*F.n<F.q->i<r) (B:x=0->E.S=.kN F.m):Ps F (fq.gV E x e):=by
 have b:∀y,y≠x->(fq.gV E x e).N y=E.N y:=λy a=>fG _ _ a;have L:(fq.gV E x e).N x=Ã e:=gC _ _ _;have g:=ahv (E:=E) v;refine⟨h.v,h.C,h.K,h.L,h.J,h.I,h.z,h.d,λj C d=> ?_,λd=> ?_,λy a=> ?_,h.M,h.o,λc k f=>by rw[g];exact h.t c k f,λk f=> ?_,λr s f=> ?_,λy p a=> ?_,λD=>by rw[g];exact h.B D,h.e,h.Y,h.w,h.H,h.O,h.S,h.y,h.D⟩
 .by_cases q:j+1=x
  .exact z j q.symm
  .rw[b _ q]at d;exact h.l j C d
 .by_cases q:0=x
  .exact B q.symm
  .rw[b _ q]at d;exact h.f d
 .have:E.r<=y:=a;rw[b y Z];exact h.h y a
 .rw[g];let⟨l,o,y,t,u,G⟩:=h.g k f;refine⟨l,o,y,t,u,?_⟩;grind
 .rw[g];let⟨l,o,t⟩:=h.u r s f;refine⟨l,o,λG=> ?_⟩;let⟨y,H,I,u⟩:=t G;have:y≠x:=λq=>by subst q;exact(w _ u r).2.2 U
  exact⟨y,H,I,by rwa[b y this]⟩
 .by_cases q:y=x
  .grind
  .rw[b y q]at a;exact h.N y p a
theorem X5{x:Nat}{e:ij}(h:i≠x):(fq.gV E x e).iw i↔E.iw i:=by unfold fT.iw;show(∃a,fw E.N x (Ã e) i=Ã a/\a.iw)↔_;rw[fG _ _ h]
theorem ahw{e:ij}:(fq.gV E i e).iw i↔e.iw:=by unfold fT.iw;show(∃a,fw E.N i (Ã e) i=Ã a/\a.iw)↔_;rw[gC];grind
theorem ahx{e:ij}(h:e.iw↔E.iw i)(y:Nat):(fq.gV E i e).iw y↔E.iw y:=by grind [ahw,X5]
theorem X6{e:ij}(h:e.ow↔E.ow i)(y:Nat):(fq.gV E i e).ow y↔E.ow y:=by unfold fT.ow at h|-;show(∃a,fw E.N i (Ã e) y=Ã a/\a.ow)↔_;grind [gC,fG]
theorem iG.gV(L:iG F E lot sz w){x:Nat}{e:ij}(h:e.ow↔E.ow x):iG F (fq.gV E x e) lot sz w:=by
 have d:∀y,(fq.gV E x e).N y=Í->E.N y=Í:=λy c=>by
  by_cases q:y=x
  .subst q;have:fw E.N y (Ã e) y=Í:=c;grind [gC]
  .have:fw E.N x (Ã e) y=Í:=c;grind [fG]
 exact⟨L.gT,L.o,L.lU,L.e,λa b=>L.f a<|d _ b,λj a b=>L.h j a<|d _ b,λj a b=>L.l j a<|d _ b,λy c=>L.S y<|(X6 h y).1 c,λi f=>L.M i (f.imp id λ⟨y,a,b,g⟩=>⟨y,a,b,λq=>g<|(X6 h y).2 q⟩),L.c,L.I,L.N,L.g,L.d⟩
def Wd.gV(W:Wd F E w){x:Nat}{e:ij}:Wd F (fq.gV E x e) w:=⟨W.C,W.I,W.jI,W.M,W.S,W.N⟩
def TI.G(a:TI F.toFx i zX E.r E.S.rl E.V E.e E.d E.iw E.f qJ){x:Nat}{e:ij}(h:e.iw↔E.iw x):TI F.toFx i zX (fq.gV E x e).r (fq.gV E x e).S.rl (fq.gV E x e).V (fq.gV E x e).e (fq.gV E x e).d (fq.gV E x e).iw (fq.gV E x e).f qJ:= {a with r:=λy b c=>a.r y b ((ahx h y).1 c)}
def PI.ahy(H:gS F)(p:PI F i zX E S tr d lot gs w qJ){r:Nat}(t:j+2<=E.r)(o:E.N (j+1)=Í)(M:gs[F.L+1+j]?=Ã g)(iH:g.status=Å)(ht:tr (F.L+1+j)=.fy)(C:E.C j=.nA r):j5 F i zX E tr gs w qJ sl (F.L+1+j):=by
 have xf:=p.G<|iO M;obtain⟨uh,s5⟩:=p.g j t o;rw[C]at uh s5;have QD:S (F.L+1+j)=w7 F.P (F.L+1+j==0) (E.I j) F.z λx=>match x with
  |some v=>λl g=>v=F.c (j+r*F.n)->qW F.P É F.B (F.I<|F.r<|j+r*F.n) (F.e (E.I j)<|j+r*F.n) .iX l g
  |none=>AO F:=by rwa[yR H.C j]
 have hY:E.Y (E.I j):=Á<|Á ⟨j,t,U⟩;obtain⟨buf,s,D,ui,X7,yS,yT⟩:=p.M.jI j t;rw[C]at D X7 yS yT;simp only[gO.iM]at D X7 yS yT;have EU:=(p.I.r).N _ hY;by_cases AT:r<s
 .have Lv:=yT 0 Z;rw[ó]at Lv;have oS:j+r*F.n<F.q:=by
   have:=(ui r).1 AT;have:E.M.mF F.q<=F.q:=by cases E.M<;>simp only[fV.mF]<;>omega
   omega
  obtain⟨gs',u,T,g',O,f,Q,V,I,W,q7⟩:=p.I.nA M iH s5 ht QD hY D Lv<|kW F (E.I j)<|.fx r .iX;have q8:=q7.kN (λl g h=>by rw[gC]at h;exact h U);rw[ahr]at q8;obtain⟨z1,z2,z3,z4,z5⟩:=p.M.G H p.a p.C t;refine⟨gP E j<|.fx r .iX,_,_,_,_,gs',_,u,O,f,λh=>h,.r (p.N.N H.C t o) (f.trans p.b) q8 ?_ ⟨z4,z5,λv m=> ?_,z1,z2,λv m c pj a=> ?_⟩ (p.C.G t o (λk=>by rw[C,Qy U];rfl) (λc h=> ?_) (λc h=> ?_) (λc h=>by cases h) λc h=>by cases h) (Lu p.d W) (λk y b G=> ?_) λv c a1 J a3=> ?_,EI H.C xf o ?_⟩
  .rw[f];exact((p.a.r<|by rw[C];rfl).ER<|Õ HN.symm)
  .by_cases e:v=j
   .subst e;rw[jN];refine⟨buf.extract 1 buf.size,s,Lt EU,ui,AT,by rw[Array.size_extract];simp only[gO.iM];omega,λl lz=> ?_⟩;simp only[gO.iM]at lz|-;rw[Array.getElem?_extract];rw[if_pos Z];have:=yT (1+l) Z;rw[this,show r+(1+l)=r+1+l by omega]
   .rw[iN _ e];obtain⟨K,X,y1,y2⟩:=p.M.jI v m;refine⟨K,X,?_,y2⟩;show(w.setChan (E.I j) _ _ _ _ _ _).heap[E.I v]?=_;rwa[qa λq=>e<|p.C.M _ _ m t q]
  .by_cases e:v=j
   .subst e;rw[jN]at a;exact z3 v m c pj<|by rwa[C]
   .rw[iN _ e]at a;exact z3 v m c pj a
  .rcases h with⟨_,h⟩|h|h<;>cases h;exact oS
  .rcases h with h|h|h<;>cases h
  .by_cases e:k=F.L+1+j
   .subst e;rw[Q]at b;obtain rfl:=È b;rw[V]at G;cases G
   .rw[I k e]at b;rcases p.c k y b G with a|⟨v,m,yU,K,X|⟨r1,cap,s1,c,X,h4⟩⟩
    .exact À a
    .exact Á ⟨v,m,yU,K,À<|by rwa[iN _ Z]⟩
    .have e2:v≠j:=Z
     exact Á ⟨v,m,yU,K,Á ⟨r1,cap,s1,c,by rwa[iN _ e2],by show(w.setChan (E.I j) _ _ _ _ _ _).heap[E.I v]?=_;rwa[qa λq=>e2<|p.C.M _ _ m t q]⟩⟩
  .rw[iN _ (λe=>by subst e;rw[jN]at J;cases J)]at J;exact(p.f v c a1 J a3).app u
  .rw[C];simp only[gO.rk,jv.rk];have hm:F.n+3000<=(F.n+3000)*(F.q+3-r):=ã _ (by
    have:r*1<=r*F.n:=ï _ H.C.N;omega)
   omega
 .have QF:buf=#[]:=Array.size_eq_zero_iff.1 Z;subst QF;have ahz:r=s:=Z
  by_cases p7:j<E.M.jf F.n
  .rw[show decide (j<E.M.jf F.n)=Î by simpa using p7]at D;obtain⟨gs',u,T,g',O,f,Q,V,I,W,q7⟩:=p.I.jf (sl:=sl) M iH s5 ht QD hY D .no;have X8:F.L+1+j=F.L+(j+1):=Z
   have HO:E.M.mF F.q=F.q:=by revert p7;cases E.M<;>simp only[fV.jf,fV.mF]<;>intro h<;>first|trivial|omega
   have QG:¬E.iw (j+1):=λ⟨e,a,_⟩=>by rw[o]at a;cases a
   have QH:ij.iw .oQ↔E.iw (j+1):=⟨λh=>h.elim,λh=>(QG h).elim⟩;refine⟨fq.gV E (j+1) .oQ,_,_,_,_,gs',w,u,O,f,λh=>h,.r (p.N.G H.C λ⟨N,h⟩=>by cases h) (f.trans p.b) (by rwa[<-X8]) (by rw[f];exact p.a.gV ⟨λh=>h.elim,λ⟨e,a,_⟩=>by rw[o]at a;cases a⟩) p.M.gV (p.C.gV Z (by rw[o];rfl) (λp' h=>by rw[o]at h;cases h) (λp' h=>by cases h) (λv h=> ?_) λh=>by omega) ((Lu p.d W).G QH) (λk y b G=> ?_) λv c a1 J a3=>(p.f v c a1 J a3).app u,ES H.C (by rwa[<-X8])<|À ?_⟩
   .have:v=j:=Z
    subst this;exact⟨p7,r,C,λl lz=>by rw[ahz];exact(ui l).2<|by rwa[HO]⟩
   .by_cases e:k=F.L+1+j
    .subst e;rw[Q]at b;obtain rfl:=È b;rw[V]at G;cases G
    .rw[I k e]at b;have l:∀v,F.L+1+v=k->(fq.gV E (j+1) .oQ).N (v+1)=E.N (v+1):=λv h=>fG _ _ Z;rcases p.c k y b G with a|⟨v,m,yU,K,X⟩
     .exact À a
     .exact Á ⟨v,m,by rwa[l v K.symm],K,X⟩
   .unfold rR;rw[o];simp only[ij.rk];rw[if_neg Z,Nat.add_sub_cancel,C];simp only[gO.rk];have hm:F.n+3000<=(F.n+3000)*(F.q+3-r):=ã _ (by
     have a:=H.C.N;rcases Nat.eq_zero_or_pos r with l|l
     .omega
     .have K:=(ui (r-1)).1 Z;have:(r-1)*1<=(r-1)*F.n:=ï _ a;omega)
    omega
  .rw[show decide (j<E.M.jf F.n)=É by simpa using p7]at D;obtain⟨gs',g',O,f,Q,V,I,W⟩:=p.I.agK M iH s5 ht QD D;refine⟨E,S,tr,d,lot,gs',w,#[],O,f,λh=>h,.r p.N (f.trans p.b) (by rwa[Û]) (by rw[f];exact p.a) p.M p.C (by rw[Û];exact p.d) (λk y b l=> ?_) (by rw[Û];exact p.f),Qt (λ_ _=>rfl) xf (by rw[EO M,if_pos iH]) (by rw[EO Q,if_neg (by rw[V];simp)]) λk b=>QA<|I k b⟩;by_cases e:k=F.L+1+j
   .subst e;exact Á ⟨j,t,o,U,Á ⟨r,F.q,s,r,C,D⟩⟩
   .rw[I k e]at b;exact p.c k y b l
end
section
variable{F:Ph}{E E':fT F}{S:Nat->Jd}{tr v:Nat->gq}{m:Nat->iz}{f:Nat->e9}{gs gs':Array Ä}{u:ä}{o:Option (Nat×Nat)}
def AZ(ok:F.Ok)(x:Nat):(F.L+x==0)=É:=by have:=ok.r;simp;omega
def HQ(a:i<E.r):yO E (F.L+i):=Á ⟨i,a,U⟩
def PI.A0(p:PI F n zX E S tr m f gs w qJ){x:Nat}{e:ij}(b:x<E.r)(c:E.N x=Ã e)(d:gs[F.L+x]?=Ã g)(h:g.status=Å)(i:tr (F.L+x)=.fy):∀a,fF (f<|F.L+x) (f<|F.L+x).w a->JE F e {f (F.L+x)with w:=a} g:=by let⟨k,j,_⟩:=p.k x e b c;intro a r;have:=p.I.N d h i (À j) a r;simp_all
theorem QI(B:ff F E gs w){x:Nat}{e:ij}(c:∀k y,gs[k]?=Ã y->y.status=Ý->k≠F.L+x):ff F (fq.gV E x e) gs w:=by
 intro k y a b;have h:=c k y a b;rcases B k y a b with h1|⟨j,d,i,f,g⟩
 .exact À h1
 .refine Á ⟨j,d,?_,f,g⟩;show fw E.N x (Ã e) (j+1)=Í;grind [fG]
theorem PI.ahA(H:gS F)(p:PI F n zX E S tr m f gs w qJ)(V:J<E.r)(s:E.N J=Ã .oQ)(D:gs[F.L+J]?=Ã g)(X:g.status=Å)(ht:tr (F.L+J)=.fy):rQ F n zX E tr gs w qJ:=by
 have G:=iO D;have C:=p.I.r;have QG:¬E.iw J:=λ⟨e,c,d⟩=>by rw[s]at c;cases c;exact d
 have QH:ij.iw (.fZ .jF)↔E.iw J:=⟨λh=>h.elim,λh=>(QG h).elim⟩;have s6:iQ F.S (λi=>i<gs.size) E.Y (gp f (F.L+J)<|kC {f (F.L+J)with w:=w}) w qJ:= C.C G (λ_ q=>q.elim) (λ_ q=>q.elim) (λ_ q=>q.elim) (λ_ q=>q.elim) U U U (λ_ q=>q.elim) λ_ q=>q.elim;have hF:lh F.P (F.L+J==0) (JE F<|.fZ .jF) .fy (kC {f (F.L+J)with w:=w}) g:=by rw[AZ H.C J];intro l T;let⟨W,a,b,j,k⟩:=p.A0 V s D X ht w<|C.r _ G;exact⟨W,a,b,j,k.j4 T⟩
 refine⟨fq.gV E J<|.fZ .jF,_,_,_,_,λh=>h,.r (p.N.G H.C λ⟨N,h⟩=>by cases h) p.b (p.I.M (K:=.no) D (À X) s6 hF) ?_ p.M.gV (p.C.gV V (by rw[s];rfl) (λT h=>by rw[s]at h;cases h) (λT h W=>by cases h;exact⟨fi,fi,fi⟩) (λj h=> ?_) λh=>(p.C.f<|by rw[<-h,s];simp)) (p.d.G QH) (QI p.c λk y W z e=> ?_) p.f,ES H.C (p.G G)<|À ?_⟩
 .have L:=p.a;have B:(gp f (F.L+J)<|kC {f (F.L+J)with w:=w}) (F.L+J)=kC {f (F.L+J)with w:=w}:=gU _ _ _;have l:∀k,k≠F.L+J->(gp f (F.L+J)<|kC {f (F.L+J)with w:=w}) k=f k:=λk W=>gF f _ W;have h0:(0:Nat)≠F.L+J:=by have:=H.C.r;omega
  have I:∀k a,(gp f (F.L+J) (kC {f (F.L+J)with w:=w}) k).r a->(f k).r a:=λk a h=>by
   by_cases q:k=F.L+J
   .subst q;rw[B]at h;exact h.elim
   .grind
  have sO:∀k a,(gp f (F.L+J) (kC {f (F.L+J)with w:=w}) k).O a->(f k).O a:=λk a h=>by
   by_cases q:k=F.L+J
   .subst q;rw[B]at h;exact h.elim
   .grind
  have ee:(fq.gV E J<|.fZ .jF).N J=Ã (.fZ .jF):=gC _ _ _;have v:∀y,y≠J->(fq.gV E J<|.fZ .jF).N y=E.N y:=λy M=>fG _ _ M;refine⟨λk W a u=> ?_,λy c d a u=>by rw[l 0 h0];exact L.o y c d a u,λh=>by rw[l 0 h0];exact L.lU h,λh k c d=> ?_,λc d=> ?_,λj c d r t Q=> ?_,λj c d=> ?_,λy M=> ?_,λi o=> ?_,λk c d=>by rw[l k Z];exact L.c k c d,λk W b z=>⟨(L.I k W b z).1,(L.I k W b z).2.1,λi o h=>(L.I k W b z).2.2 i o<|sO _ _ h⟩,λk W i o h=>L.N k W i o<|I _ _ h,λk c d i o h=>L.g k c d i o<|I _ _ h,λj c r d t i o h=>L.d j c r d t i o<|I _ _ h⟩
  .by_cases q:k=F.L+J
   .subst q;rw[B]at u;rcases u with h|h<;>exact h.elim
   .rw[l k q]at u;exact L.gT k W a u
  .by_cases q:F.L=F.L+J
   .have X9:J=0:=Z
    subst X9;have:=p.C.f (by rw[s];simp);have T:E.S.md<k:=c;rw[this]at T;simp only[jz.md]at T;omega
   .rw[l _ q];exact L.e h k c d
  .by_cases q:F.L=F.L+J
   .grind
   .rw[l _ q];exact L.f c<|by rwa[<-v 0 Z]
  .by_cases q:F.L+1+j=F.L+J
   .grind
   .rw[l _ q];exact L.h j c (by rwa[<-v (j+1) Z]) r t Q
  .by_cases q:F.L+1+j=F.L+J
   .grind
   .rw[l _ q];exact L.l j c<|by rwa[<-v (j+1) Z]
  .by_cases q:F.L+y=F.L+J
   .rw[q,B];rfl
   .rw[l _ q];exact L.S y (by let⟨T,c,d⟩:=M;exact⟨T,by rwa[<-v y Z],d⟩)
  .by_cases q:i=F.L+J
   .subst q;rcases o with q|⟨y,c,d,t⟩
    .grind
    .have:y=J:=Z
     subst this;exact absurd ⟨_,ee,trivial⟩ t
   .rw[l _ q];refine L.M i<|o.imp id λ⟨y,c,d,t⟩=>⟨y,c,d,λ⟨T,Q,h5⟩=>t ⟨T,by rwa[v y Z],h5⟩⟩
 .have:=p.C.l j Z (by rw[<-h,s];simp);exact this
 .grind
 .unfold rR;rw[s];simp only[ij.rk,jH.rk];omega
def A1(E:fT F)(x:Nat)(e:ij)(G:GS)(a:Option Nat):fT F:={fq.gV E x e with b:=G,g:=a}
theorem Ps.HR(h:Ps F E){e:ij}{G:GS}{la:Option Nat}(v:i<E.r)(D:∃w,E.N i=Ã w)(O:∀y,y≠i->∀p,E.N y=Ã (.fZ p)->∀W,p≠ .gy W/\p≠ .jc W/\p≠ .iA W) (H:∀c d,G=.cl c d->c=Ñ (F.n+1) (fq.gV E i e).G/\d=E.M.gB) (I:∀d,G=.jG d->Ñ (F.n+1) (fq.gV E i e).G=0/\d=E.M.gB/\la=Ã i/\(e=.fZ (.gy d)\/e=.fZ (.jc d))) (J:∀r s,G=.gW r s->Ñ (F.n+1) (fq.gV E i e).G=0/\r+s=E.M.gB/\(0<r->la=Ã i/\e=.fZ (.iA r))) (K:∀p,e=.fZ p->(∀W,p=.gy W\/p=.jc W->la=Ã i/\G=.jG W)/\(∀r,p=.iA r->0<r/\la=Ã i/\∃s,G=.gW r s)) (L:E.M=.fx .gy\/E.M=.fx .lj\/E.M=.fZ->Ñ (F.n+1) (fq.gV E i e).G=0) (M:E.M=.fx .gy->∃a b,G=.gW a b) (N:(∀p,E.M≠ .fx p)->E.M≠ .fZ->∃c,G=.cl c 0):Ps F (A1 E i e G la):=by
 have l:∀y,y≠i->(A1 E i e G la).N y=E.N y:=λy f=>fG _ _ f;have m:(A1 E i e G la).N i=Ã e:=gC _ _ _;let⟨w,z⟩:=D;refine⟨h.v,h.C,h.K,h.L,h.J,h.I,h.z,h.d,λj B g=> ?_,λg=> ?_,λy f=> ?_,h.M,h.o,H,λd o=> ?_,λr s o=> ?_,λy p f=> ?_,L,h.e,h.Y,h.w,h.H,M,N,h.y,h.D⟩
 .by_cases q:j+1=i
  .exact h.l j B<|by rw[q,z];simp
  .rw[l _ q]at g;exact h.l j B g
 .by_cases q:0=i
  .exact h.f<|by rw[q,z];simp
  .rw[l _ q]at g;exact h.f g
 .have:E.r<=y:=f;rw[l y Z];exact h.h y f
 .let⟨t,u,k,C⟩:=I d o;exact⟨t,u,i,v,k,by rw[m];exact C.imp (λq=>by rw[q]) λq=>by rw[q]⟩
 .let⟨t,u,k⟩:=J r s o;exact⟨t,u,λC=>⟨i,v,(k C).1,by rw[m,(k C).2]⟩⟩
 .by_cases q:y=i
  .subst q;rw[m]at f;exact K p<|È f
  .grind
def ahB{G:GS}(a:ia W F.C G)(h:Wd F {E with b:=G,a:=E.a} W){x:Nat}{e:ij}{b:Option Nat}:Wd F (A1 E x e G b) W:=⟨a,h.I,h.jI,h.M,h.S,h.N⟩
theorem PI.HS(H:gS F)(p:PI F n zX E S tr m f gs w qJ){x:Nat}{a e:ij}{G:GS}{la:Option Nat}{c:Ä}{T:gq}(hx:x<E.r)(d:E.N x=Ã a)(t:a.iw)(I:e.iw)(J:e.ow)(v:gs[F.L+x]?=Ã g)(z:kE F.C w W)(B:ia W F.C G)(K:ř F.P (ð gs w o) (F.L+x)=(ĝ<|ð gs' W o,u))(C:gs'.size=gs.size)(M:gs'[F.L+x]?=Ã c)(O:c.status=Å\/c.status=ç)(Q:∀k,k≠F.L+x->gs'[k]?=gs[k]?.map (Ā F.P g c W)) (X:gN F.P F.S E.Y (fw S (F.L+x)<|JE F e) (fw tr (F.L+x) T) (fw m (F.L+x) .no) (gp f (F.L+x) {f (F.L+x)with w:=W}) gs' W (qJ++u)) (q6:TI F.toFx n zX E.r E.S.rl E.V E.e E.d E.iw E.f (qJ++u)) (q7:iG F E (gp f (F.L+x) {f (F.L+x)with w:=W}) gs'.size W) (hT:(∃N,e=.ju N)->T=.fy) (hP:Ps F (A1 E x e G la)) (Ya:(e.rk F).1<(a.rk F).1\/((e.rk F).1=(a.rk F).1/\(e.rk F).2<(a.rk F).2)) (HJ:E.M=.fx .kB->E.b.sm=0->G.sm=0\/∀y,gs'[0]?=Ã y->y.status≠Ý):j5 F n zX E tr gs w qJ o (F.L+x):=by
 have D:F.M F.C:=À U;refine⟨A1 E x e G la,_,_,_,_,gs',W,u,K,C,λh=>h,.r ?_ (C.trans p.b) X ?_ (ahB B<|z.I H p.a p.C p.M D ⟨λ_=>B,λq=>absurd U q⟩ λk b=>⟨λq=>absurd q.symm<|H.C.M k b,λ_=>rfl⟩) hP (q6.G<|⟨λ_=>⟨a,d,t⟩,λ_=>I⟩) ?_ λj r b l s=>(p.f j r b l s).app u,?_⟩
 .have:=p.N.G (x:=x) H.C hT;exact⟨this.M,this.Y,this.I,this.C,this.r⟩
 .have:=q7.gV (⟨λ_=>XO ⟨a,d,t⟩,λ_=>J⟩);exact⟨this.gT,this.o,this.lU,this.e,this.f,this.h,this.l,this.S,this.M,this.c,this.I,this.N,this.g,this.d⟩
 .refine p.c.qU (E':=A1 E x e G la) M (by rcases O with q|q<;>rw[q]<;>simp) Q (λj i=>z.C p.C D i) U U (λy i=>fG _ _ Z) (λ_=>rfl) (λ_ _=>rfl) (λ_ i j=>HJ i j) λ_ _ _ _ h=>À h
 .have j:rR F E x=a.rk F:=by unfold rR;rw[d]
  have:=ES (E:=E) (tr:=tr) (gs:=gs) (gs':=gs') (T:=T) H.C (p.G<|iO v) (by rwa[j]);rcases this with⟨i,b,l,s⟩|⟨b,_⟩
  .exact À ⟨i,b,l,s⟩
  .exfalso;have:=b _<|p.G<|iO v;change(fq.gV E x e).iR (fw tr (F.L+x) T) (F.L+x)=E.iR tr (F.L+x)at this;rw[Lm H.C (E:=fq.gV E x e)<|gC _ _ _,Lm H.C d]at this;grind
theorem ahC(h:V=#[kA<|fL F.C,mU<|fL F.C]\/V=#[kA<|fL F.C]\/V=#[mU<|fL F.C]\/V=õ (gR F.C)):∀e∈V,∀b,(Ë e).touch?=Ã b->∃y:Č,b.loc=ü y/\y.block=F.C:=by
 intro e c b g;have:∃x:Č,x.block=F.C/\(e.loc=ü x\/e.loc=Ŷ ô\/e.loc=Ŷ î):=by
  rcases h with rfl|rfl|rfl|rfl
  .simp at c;rcases c with rfl|rfl<;>exact⟨fL F.C,U,À U⟩
  .simp at c;subst c;exact⟨fL F.C,U,À U⟩
  .simp at c;subst c;exact⟨fL F.C,U,À U⟩
  .simp[õ]at c;rcases c with rfl|rfl|rfl|rfl
   .exact⟨gR F.C,U,Á<|À U⟩
   .exact⟨gR F.C,U,À U⟩
   .exact⟨gR F.C,U,À U⟩
   .exact⟨gR F.C,U,Á<|Á U⟩
 let⟨x,i,a⟩:=this;let⟨j,d,f⟩:=e;rcases a with a|a|a
 .simp only at a;subst a;have:(Ë ⟨ü x,d,f⟩).touch?=Ã ⟨ü x,d,if f then .atomic else .plain⟩:=by cases d<;>cases f<;>rfl
  grind
 .simp only at a;subst a;simp[Ë,ċ]at g
 .simp only at a;subst a;simp[Ë,ċ]at g
def HU(p:PI F n zX E S tr m f gs w qJ)(a:F.L+i<gs.size)(c:(f<|F.L+i).d=1)(h:V=#[kA<|fL F.C,mU<|fL F.C]\/V=#[kA<|fL F.C]\/V=#[mU<|fL F.C]\/V=õ (gR F.C)): ∀y,E.iw y->F.L+i=F.L+y->(∀e∈V,∀b,(Ë e).touch?=Ã b->∃y:Č,b.loc=ü y/\y.block=F.C)/\AQ (σ qJ<|F.L+i) V:=by
 intro y _ _;refine⟨ahC h,?_⟩;rw[p.I.r.f _ a,c];rcases h with rfl|rfl|rfl|rfl
 .exact Ln.1
 .exact Ln.2.1
 .exact Ln.2.2.1
 .exact Ln.2.2.2
def PI.ahD(H:gS F)(p:PI F n zX E S tr m f gs w qJ){x:Nat}(i:x<E.r)(a:E.N x=Ã (.fZ .jF))(k:gs[F.L+x]?=Ã g)(G:g.status=Å)(I:tr (F.L+x)=.fy):j5 F n zX E tr gs w qJ o (F.L+x):=by
 have s:=iO k;have C:=p.I.r;let⟨J,_,g',c,d⟩:=p.A0 i a k G I w<|C.r _ s;have t:=AZ H.C x;have u:∀y:Ă,y.act=ę (Ĳ<|fL F.C)->y.act.touch?=Í:=λy b=>by rw[b];rfl
 let⟨T,K⟩:=jl d;have v:=lG (λl g h=>À h.2.1) d;obtain⟨gs',y,M,O,P,B,Q,V,X,Y⟩:=p.AX H .no k (by rw[t];exact c w) fi fi (λy b=>⟨λz l=>(by rw[u y b]at l;cases l),by rw[b];exact C.N _<|À<|À U⟩) (λy _ b=>AH C.l λq j=>by rw[xg j];exact u y b) (by rwa[t]) v;have D:=p.d.agW i M O ((C.f _ s).trans J) (λ⟨e,c,d⟩=>by rw[a]at c;cases c;exact d);refine⟨{fq.gV E x (.fZ .iE)with f:=fw E.f x qJ.size},_,_,_,_,gs',w,#[y],P,B,λh=>h,.r ?_ (B.trans p.b) X ?_ (⟨p.M.C,p.M.I,p.M.jI,p.M.M,p.M.S,p.M.N⟩) ?_ ?_ ?_ λj r q W a3=>(p.f j r q W a3).app _,ES H.C (p.G s)<|À ?_⟩
 .have:=p.N.G (x:=x) (e:=.fZ .iE) (T:=T) H.C (λ⟨N,h⟩=>by cases h);exact⟨this.M,this.Y,this.I,this.C,this.r⟩
 .have:=Y.gV (x:=x) (e:=.fZ .iE) (⟨λ_=>⟨_,a,trivial⟩,λ_=>trivial⟩);exact⟨this.gT,this.o,this.lU,this.e,this.f,this.h,this.l,this.S,this.M,this.c,this.I,this.N,this.g,this.d⟩
 .have h:=p.C.gV (x:=x) (e:=.fZ .iE) i (by rw[a];rfl) (λq h W=>by rw[a]at h;cases h;exact⟨fi,fi,fi⟩) (λq h W=>by cases h;exact⟨fi,fi,fi⟩) (λj h=>p.C.l j Z<|by rw[<-h,a];simp) (λh=>p.C.f<|by rw[<-h,a];simp);exact⟨h.v,h.C,h.K,h.L,h.J,h.I,h.z,h.d,h.l,h.f,h.h,h.M,h.o,h.t,h.g,h.u,h.N,h.B,h.e,h.Y,h.w,h.H,h.O,h.S,h.y,h.D⟩
 .refine{D with r:=λz l j=>D.r z l ?_};by_cases q:z=x
  .exact Á q
  .exact À<|(X5 q).1 j
 .refine p.c.qU (E':={fq.gV E x (.fZ .iE)with f:=fw E.f x qJ.size}) Q (by rcases v with q|q<;>rw[q]<;>simp) V (λ_ _=>rfl) U U (λy b=>fG _ _ Z) (λ_=>rfl) (λ_ _=>rfl) (λ_ _ h=>À h) λ_ _ _ _ h=>À h
 .unfold rR;rw[a];simp only[ij.rk,jH.rk];omega
end
section
variable{F:Ph}{E K:fT F}{S:Nat->Jd}{o M:Nat->gq}{G:Nat->iz}{B:Nat->e9}{m J:Array Ä}{u:ä}{I:Option (Nat×Nat)}
def Yb{N:Nat}{l:e9}(h:ſ P N l.d g):lh P É (pB P N) .fy l g:=λ_ _=>h
def Yc(a:Ps F E):E.r<=E.M.ad F.n:=by unfold fT.r;cases E.M<;>simp only[fV.sp,fV.ad]<;>omega
theorem HY(b:Ps F E){e:ij}(d:i<E.r):Ñ (F.n+1) (fq.gV E i e).G+me (E.N i)=Ñ (F.n+1) E.G+e.kO:=by
 have g:=Yc b;have h:=EH b;have:=xe (f:=E.G) (f':=(fq.gV E i e).G) (j:=i) (n:=F.n+1) Z (λa c=>by unfold fT.G;show(if a<E.M.ad F.n then me (fw E.N i (Ã e) a)else 0)=_;rw[fG _ _ c]);have a:E.G i=me (E.N i):=by unfold fT.G;rw[if_pos Z]
 have c:(fq.gV E i e).G i=e.kO:=by unfold fT.G;show(if i<E.M.ad F.n then me (fw E.N i (Ã e) i)else 0)=_;rw[if_pos Z,gC];rfl
 grind
theorem Yd(a:Ps F E)(h:E.b=.cl i n):∀y p,E.N y=Ã (.fZ p)->∀W,p≠ .gy W/\p≠ .jc W/\p≠ .iA W:=by intro y p b W;let⟨d,e⟩:=a.N y p b;grind
theorem QJ(a:Ps F E)(h:E.g=Ã i):∀y,y≠i->∀p,E.N y=Ã (.fZ p)->∀W,p≠ .gy W/\p≠ .jc W/\p≠ .iA W:=by intro y c p b W;let⟨d,e⟩:=a.N y p b;grind
def PI.ahE(p:PI F n zX E S o G B m w qJ)(e:i<E.r)(d:E.N i=Ã (.fZ .iE)):∃c a,E.b=.cl (c+1) a/\c+1=Ñ (F.n+1) E.G/\a=E.M.gB/\¬(E.M=.fx .gy\/E.M=.fx .lj\/E.M=.fZ):=by
 have g:1<=Ñ (F.n+1) E.G:=by
  have q:=Yc p.C;have r:=EH p.C;have:=Qr (f:=E.G) (j:=i) (n:=F.n+1) Z;have s:E.G i=1:=by unfold fT.G;rw[if_pos Z,d];rfl
  omega
 obtain⟨c,a,b⟩:∃c a,E.b=.cl (c+1) a:=by
  cases q:E.b with
  |cl c a=>
   have:=(p.C.t c a q).1;exact⟨c-1,a,by congr 1;omega⟩
  |jG a=>have:=(p.C.g a q).1;omega
  |gW r s=>have:=(p.C.u r s q).1;omega
 let⟨r,s⟩:=p.C.t _ _ b;exact⟨c,a,b,r,s,λq=>by have:=p.C.B q;omega⟩
theorem PI.ahF(H:gS F)(p:PI F n zX E S o G B m w qJ)(f:i<E.r)(v:E.N i=Ã (.fZ .iE))(z:m[F.L+i]?=Ã g)(iH:g.status=Å)(ht:o (F.L+i)=.fy)(hc:E.b=.cl (j+1) k)(HZ:j+1=Ñ (F.n+1) E.G)(Ye:k=E.M.gB)(H0:¬(E.M=.fx .gy\/E.M=.fx .lj\/E.M=.fZ))(hl:j=0/\0<k):j5 F n zX E o m w qJ I (F.L+i):=by
 have t:=iO z;have C:=p.I.r;let⟨hd,_,uj⟩:=p.A0 f v z iH ht w<|C.r _ t;have mc:=AZ H.C i;have Q:F.M F.C:=À U;have K:=hc▸p.M.C;let⟨ev,V⟩:=K.jL;have X:=uj (GS.cl (j+1) k).st;rw[ev]at X V;obtain⟨d,M⟩:∃d,(GS.jL<|.cl (j+1) k).st=d:=⟨_,U⟩;rw[M]at X;let⟨g',h1,h2⟩:=X;have Y:=h1 w K.C K.I;rw[<-M]at Y;let⟨k1,k2,k3⟩:=K.r;have O:kE F.C w (w.setCell (fL F.C)<|æ Ó (GS.jL<|.cl (j+1) k).st):=Á ⟨_,_,À U,U⟩;have D:=O.r p.a H.C Q;have xi:fF {B (F.L+i)with w:=w} w (w.setCell (fL F.C)<|æ Ó (GS.jL<|.cl (j+1) k).st):=⟨Õ D.r.symm,λb lk=>D.jT b<|C.I _ t b lk,λa ha=>D.M _ t a ha,λa ha=>D.N _ t a ha,λa _=>D.I a⟩;have ed:GS.jL (.cl (j+1) k)=.jG k:=by simp only[GS.jL,if_pos hl]
 rw[ed]at Y V O D xi M;have hW:fg F.P É (Lc F.P É F.C (Hr F) k) {B (F.L+i)with w:=w} g':=by
  have r:d=(k:Int):=M.symm;have l:¬(d=0\/(fX<=d/\d<1000000*fX/\d%fX<1000000)):=by simp only[fX];omega
  grind
 let⟨T,hT⟩:=jl<|hW.j4 xi;have ny:=lG (λl g h=>À h.2.1) hW;obtain⟨J,u,l,q2,q3,q4,q5,q6,q7⟩:=p.Y H .no z (HQ f) Q (by rwa[mc]) O (AR Q) U (HU p t hd<|À U) (by rwa[mc]) ny;have yV:=HY p.C (e:=.fZ (.gy k)) f;rw[v]at yV;refine p.HS H (e:=.fZ (.gy k)) (la:=Ã i) f v trivial trivial trivial z O V l q2 q3 ny q4 q5 q6 q7 (λ⟨N,h⟩=>by cases h) (p.C.HR f ⟨_,v⟩ (λy _ q r W=>Yd p.C hc y q r W) (λy r h=>by cases h) (λr h=> ?_) (λr s h=>by cases h) (λq h=> ?_) (λq=>absurd q H0) (λq=>absurd (À q) H0) λl q2=> ?_) (À ?_) λ_ _=>À rfl
 .injection h with h;subst h;exact⟨(by simp only[me,ij.kO,jH.kO]at yV;omega),Ye,U,À U⟩
 .grind
 .let⟨y,r⟩:=p.C.S l q2;grind
 .simp only[ij.rk,jH.rk];grind
theorem PI.ahG(H:gS F)(p:PI F n zX E S o G B m w qJ)(f:i<E.r)(t:E.N i=Ã (.fZ .iE))(v:m[F.L+i]?=Ã g)(iH:g.status=Å)(ht:o (F.L+i)=.fy)(hc:E.b=.cl (j+1) k)(HZ:j+1=Ñ (F.n+1) E.G)(Ye:k=E.M.gB)(H0:¬(E.M=.fx .gy\/E.M=.fx .lj\/E.M=.fZ))(hl:¬(j=0/\0<k)):j5 F n zX E o m w qJ I (F.L+i):=by
 have l:=iO v;have C:=p.I.r;let⟨hd,_,uj⟩:=p.A0 f t v iH ht w<|C.r _ l;have mc:=AZ H.C i;have O:F.M F.C:=À U;have z:=hc▸p.M.C;let⟨ev,P⟩:=z.jL;have Q:=uj (GS.cl (j+1) k).st;rw[ev]at Q P;obtain⟨d,K⟩:∃d,(GS.jL<|.cl (j+1) k).st=d:=⟨_,U⟩;rw[K]at Q;let⟨g',h1,h2⟩:=Q;have T:=h1 w z.C z.I;rw[<-K]at T;let⟨k1,k2,k3⟩:=z.r;have M:kE F.C w (w.setCell (fL F.C)<|æ Ó (GS.jL<|.cl (j+1) k).st):=Á ⟨_,_,À U,U⟩;have D:=M.r p.a H.C O;have xi:fF {B (F.L+i)with w:=w} w (w.setCell (fL F.C)<|æ Ó (GS.jL<|.cl (j+1) k).st):=⟨Õ D.r.symm,λb lk=>D.jT b<|C.I _ l b lk,λa V=>D.M _ l a V,λa V=>D.N _ l a V,λa _=>D.I a⟩;have ed:GS.jL (.cl (j+1) k)=.cl j k:=by simp only[GS.jL,if_neg hl]
 rw[ed]at T P M D xi K;obtain⟨N,hN⟩:Hr F {B (F.L+i)with w:=w} g':=by
  have q:d=(j:Int)*fX+(k:Int):=K.symm;have h:d=0\/(fX<=d/\d<1000000*fX/\d%fX<1000000):=by simp only[fX]at q|-;omega
  grind
 have ny:=hN.status;obtain⟨J,u,X,Y,q3,q4,q5,q6,q7⟩:=p.Y H .no v (HQ f) O (by rwa[mc]) M (AR O) U (HU p l hd<|À U) (by rw[mc];exact Yb hN) ny;have yV:=HY p.C (e:=.ju N) f;rw[t]at yV;have hz:Ñ (F.n+1) (fq.gV E i<|.ju N).G=j:=by simp only[me,ij.kO,jH.kO]at yV;omega
 refine p.HS H (e:=.ju N) (la:=E.g) f t trivial trivial trivial v M P X Y q3 ny q4 q5 q6 q7 (λ_=>rfl) (p.C.HR f ⟨_,t⟩ (λy _ q h W=>Yd p.C hc y q h W) (λy r h=> ?_) (λr h=>by cases h) (λr s h=>by cases h) (λq h=>by cases h) (λq=>absurd q H0) (λq=>absurd (À q) H0) λX Y=> ?_) (À ?_) λ_ _=>À rfl
 .grind
 .let⟨y,h⟩:=p.C.S X Y;grind
 .simp only[ij.rk,jH.rk];omega
def PI.ahH(H:gS F)(p:PI F n zX E S o G B m w qJ)(a:i<E.r)(b:E.N i=Ã (.fZ .iE))(d:m[F.L+i]?=Ã g)(e:g.status=Å)(f:o (F.L+i)=.fy):j5 F n zX E o m w qJ I (F.L+i):=by
 let⟨c,r,h,j,k,l⟩:=p.ahE a b;by_cases q:c=0/\0<r
 .exact p.ahF H a b d e f h j k l q
 .exact p.ahG H a b d e f h j k l q
theorem PI.ahI(H:gS F)(p:PI F n zX E S o G B m w qJ)(c:i<E.r)(d:E.N i=Ã (.fZ (.gy j)))(f:m[F.L+i]?=Ã g)(O:g.status=Å)(P:o (F.L+i)=.fy):j5 F n zX E o m w qJ I (F.L+i):=by
 have y:=iO f;let⟨Q,_,V⟩:=p.A0 c d f O P w<|(p.I.r).r _ y;have z:=AZ H.C i;have C:F.M F.C:=À U;let⟨X,k⟩:=(p.C.N i _ d).1 j<|À U;have D:=k▸p.M.C;let⟨g',Y,t⟩:=V (j:Int);simp only[if_true]at t;let⟨T,hT⟩:=jl t;have K:=lG (λl g h=>À h.2.1) t;obtain⟨J,u,l,v,q3,q4,q5,q6,q7⟩:=p.Y H .no f (HQ c) C (by rw[z];exact Y w D.C) (À U) (yP C) U (HU p y Q<|Á<|À U) (by rwa[z]) K;have M:=HY p.C (e:=.fZ (.jc j)) c;rw[d]at M;let⟨b1,b2,_⟩:=p.C.g j k;have hz:Ñ (F.n+1) (fq.gV E i<|.fZ (.jc j)).G=0:=by simp only[me,ij.kO,jH.kO]at M;omega
 refine p.HS H (e:=.fZ (.jc j)) (la:=E.g) c d trivial trivial trivial f (À U) D l v q3 K q4 q5 q6 q7 (λ⟨N,h⟩=>by cases h) (p.C.HR c ⟨_,d⟩ (QJ p.C X) (λc' a h=>by cases h) (λa h=> ?_) (λr s h=>by cases h) (λa h=> ?_) (λ_=>hz) (λq=> ?_) λl v=> ?_) (À ?_) λ_ h=>À rfl
 .grind
 .grind
 .let⟨a,b,h⟩:=p.C.O q;rw[k]at h;cases h
 .let⟨c',a⟩:=p.C.S l v;grind
 .simp only[ij.rk,jH.rk];omega
theorem PI.ahJ(H:gS F)(p:PI F n zX E S o G B m w qJ)(c:i<E.r)(d:E.N i=Ã (.fZ (.jc j)))(k:m[F.L+i]?=Ã g)(P:g.status=Å)(Q:o (F.L+i)=.fy):j5 F n zX E o m w qJ I (F.L+i):=by
 have f:=iO k;have C:=p.I.r;let⟨V,_,g',X,z⟩:=p.A0 c d k P Q w<|C.r _ f;have K:=AZ H.C i;have v:F.M F.C:=À U;let⟨Y,M⟩:=(p.C.N i _ d).1 j<|Á U;have t:=M▸p.M.C;have QK:=t.r.1;have y:kE F.C w (w.setCell (fL F.C)<|æ Ó 0):=Á ⟨_,_,À U,U⟩;have D:=y.r p.a H.C v;let⟨T,hT⟩:=jl (z.j4 ⟨Õ D.r.symm,λb l=>D.jT b<|C.I _ f b l,λa h=>D.M _ f a h,λa h=>D.N _ f a h,λa _=>D.I a⟩);have O:=lG (λl g h=>by
  cases j with
  |zero=>omega
  |succ j=>exact À h.2.1) z
 obtain⟨J,u,a,b,q3,q4,q5,q6,q7⟩:=p.Y H .no k (HQ c) v (by rw[K];exact X w _ t.C t.I) y (XW v) U (HU p f V<|Á<|Á<|À U) (by rwa[K]) O;have l:=HY p.C (e:=.fZ (.iA j)) c;rw[d]at l;let⟨b1,b2,_⟩:=p.C.g j M;have hz:Ñ (F.n+1) (fq.gV E i<|.fZ (.iA j)).G=0:=by simp only[me,ij.kO,jH.kO]at l;omega
 refine p.HS H (e:=.fZ (.iA j)) (la:=E.g) c d trivial trivial trivial k y t.XJ a b q3 O q4 q5 q6 q7 (λ⟨N,h⟩=>by cases h) (p.C.HR c ⟨_,d⟩ (QJ p.C Y) (λc' q h=>by cases h) (λq h=>by cases h) (λr s h=> ?_) (λq h=> ?_) (λ_=>hz) (λq=>⟨j,0,rfl⟩) λa b=> ?_) (À ?_) λ_ h=>À rfl
 .grind
 .cases h;simp_all
 .let⟨c',q⟩:=p.C.S a b;grind
 .simp only[ij.rk,jH.rk];omega
def Yf(p:PI F n zX E S o G B m w qJ){a y:Ä}(d:mayWake F.P g=Î)(f:a.status=Å)(i:m[k]?=Ã y)(j:G k=.iA):(Ā F.P g a W y).status≠Ý:=by
 intro h;let⟨e,l⟩:=Hv h;let⟨g0,_,b,c,_⟩:=p.I.C k y i;rw[j]at b;cases b with
 |gi=>rw[l]at c;rcases c with q|q<;>cases q
 |nZ r q=>
  unfold Ā at h;rw[if_pos (by simp[d,f])]at h;unfold Đ at h;simp only[q]at h;cases h
def PI.ahK(H:gS F)(p:PI F n zX E S o G B m w qJ)(c:i<E.r)(d:E.N i=Ã (.fZ (.iA j)))(k:m[F.L+i]?=Ã g)(iH:g.status=Å)(ht:o (F.L+i)=.fy):j5 F n zX E o m w qJ I (F.L+i):=by
 have f:=iO k;have C:=p.I.r;let⟨hr0,K,s,M⟩:=(p.C.N i _ d).2 j U;obtain⟨j,rfl⟩:∃O,j=O+1:=⟨j-1,Z⟩;let⟨hd,_,QL,g',Q,h1,h2⟩:=p.A0 c d k iH ht w<|C.r _ f;have mc:=AZ H.C i;have V:F.M F.C:=À U;have W:=M▸p.M.C;have X:kE F.C w (w.setCell (gR F.C)<|æ å<|å.wrap<|(GS.gW (j+1) s).sm+1):=Á ⟨_,_,Á U,U⟩;have D:=X.r p.a H.C V;let⟨b1,b2,_⟩:=p.C.u _ _ M;obtain⟨e,T,hF,Y,yW,he3,Yg⟩:∃(e:ij) (T:gq),lh F.P É (JE F e) T {B (F.L+i)with w:=w.setCell (gR F.C) (æ å<|å.wrap<|(GS.gW (j+1) s).sm+1)} g'/\(e.iw/\e.ow/\e.kO=0)/\((∃N,e=.ju N)->T=.fy)/\((e.rk F).1<((ij.fZ<|.iA (j+1)).rk F).1)/\((j=0/\∃N,e=.ju N)\/(0<j/\e=.fZ (.iA j))):=by
  cases j with
  |zero=>
   obtain⟨N,hN⟩:Hr F {B (F.L+i)with w:=w} g':=h2;exact⟨.ju N,.fy,Yb hN,⟨trivial,trivial,U⟩,λ_=>rfl,by simp only[ij.rk,jH.rk];omega,À ⟨U,N,U⟩⟩
  |succ j=>
   let⟨T,hT⟩:=jl (h2.j4 ⟨Õ D.r.symm,λb lk=>D.jT b<|C.I _ f b lk,λa ha=>D.M _ f a ha,λa ha=>D.N _ f a ha,λa _=>D.I a⟩);have X0:j+1+1+s<=1:=by rw[b2];cases E.M<;>simp only[fV.gB]<;>first|omega|(rename_i v;cases v<;>simp[jv.sY])
   omega
 obtain⟨J,u,q1,q2,q3,q4,q5,q6,q7⟩:=p.Y H .no k (HQ c) V (by rw[mc];exact h1 w _ W.M W.N) X (Hz V) (HA _).2.2.2 (HU p f hd<|Á<|Á<|Á U) (by rwa[mc])<|À Q;have yV:=HY p.C (e:=e) c;rw[d,Y.2.2]at yV;have hz:Ñ (F.n+1) (fq.gV E i e).G=0:=by simp only[me,ij.kO,jH.kO]at yV;omega
 refine p.HS H (la:=E.g) c d trivial Y.1 Y.2.1 k X W.jF q1 q2 q3 (À Q) q4 q5 q6 q7 yW (p.C.HR c ⟨_,d⟩ (QJ p.C K) (λc' ahL h=>by cases h) (λahL h=>by cases h) (λO s' h=> ?_) (λp' h=> ?_) (λ_=>hz) (λq=>⟨j,s+1,rfl⟩) λq1 q2=> ?_) (À he3) λhm _=>Á λy hy=> ?_
 .injection h with h l;subst h l;refine⟨hz,Z,λhr=>⟨K,?_⟩⟩;rcases Yg with⟨q,_⟩|⟨_,q⟩
  .omega
  .exact q
 .subst h;rcases Yg with⟨_,N,q⟩|⟨hr,q⟩
  .cases q
  .cases q;exact⟨λW' t=>(by rcases t with t|t<;>cases t),λO pj=>by cases pj;exact⟨hr,K,s+1,U⟩⟩
 .let⟨c',l⟩:=p.C.S q1 q2;rw[M]at l;cases l
 .have h0:(0:Nat)≠F.L+i:=by have:=H.C.r;omega
  rw[q4 0 h0]at hy;obtain⟨z,H2,rfl⟩:=Ú.1 hy;exact Yf p QL Q H2<|by rw[p.h.2,hm];rfl
end
section
variable{F:Ph}{E E':fT F}{S:Nat->Jd}{f D:Nat->gq}{o:Nat->iz}{v:Nat->e9}{l z:Array Ä}{u:ä}{I:Option (Nat×Nat)}
def A2(ok:F.Ok):(F.L==0)=É:=by have:=ok.r;simp;omega
def EV(h:0<E.r):yO E F.L:=Á ⟨0,h,U⟩
def EW(b:E.N 0=Í):∀x,E.iw x->F.L=F.L+x->False:=λx ⟨e,a,_⟩ h2=>by
 have:x=0:=Z
 subst this;rw[b]at a;cases a
def PI.A3(p:PI F n zX E S f o v l w qJ)(b:0<E.r)(c:E.N 0=Í)(d:l[F.L]?=Ã g)(e:g.status=Å)(h:f F.L=.fy):∀a,fF (v F.L) (v F.L).w a->JI F E.c E.S {v F.L with w:=a} g:=by let⟨j,i⟩:=p.m b c;intro a r;have:=p.I.N d e h (À i) a r;simp_all
theorem qY.Lw(h:qY F E S f o)(ok:F.Ok){ip:jz}{sg:Nat->F.γ}{T:gq}(c:E.N 0=Í):qY F {E with S:=ip,c:=sg} (fw S F.L<|JI F sg ip) (fw f F.L T) (fw o F.L .no):=by
 have:=ok.r;refine⟨by rw[fG S _ Z,fG o _ Z];exact h.M,λa b=>by rw[gC,gC];exact⟨U,U⟩,λj a b=>by rw[fG S _ Z,fG o _ Z];exact h.I j a b,λy e a b=> ?_,λi a b=>by rw[fG S _ Z,fG o _ Z,fG f _ Z];exact h.r i a b⟩;have d:y≠0:=λq=>by grind
 rw[fG S _ Z,fG o _ Z,fG f _ Z];exact h.C y e a b
theorem Lx(ok:F.Ok){T:gq}(b:F.L<F.N)(i:E.N 0=Í)(c:E'.N=E.N)(d:E'.M=E.M)(e:E'.h=E.h)(g:E'.C=E.C)(h:E'.S.rk F<E.S.rk F):pC F.N (E'.mu (fw f F.L T) z) (E.mu f l):=by refine Hw b (À ?_) λk a=>yN (λ_=>by rw[d]) (λ_ _=>by rw[e]) (λ_=>by rw[c]) (λq=>absurd q a) (λ_ _=>by rw[g])<|fG f _ a;grind [XS]
theorem QM(B:ff F E l w)(i:E'.M=E.M)(b:E'.r=E.r)(c:E'.N=E.N)(m:E'.C=E.C)(n:E'.I=E.I)(o:E'.b=E.b)(p:E'.a=E.a):ff F E' l w:=by
 intro k y d e;rcases B k y d e with⟨q,a,f⟩|⟨j,g,h,a,f⟩
 .grind
 .refine Á ⟨j,by rwa[b],by rwa[c],a,?_⟩;grind
theorem Ps.Ly(h:Ps F E){ip:jz}{G:GS}(i:E.N 0=Í)(x:0<E.r)(l:∀c,(ip=.kN c->c<=F.m)/\(ip=.mk c->1<=c/\c<=F.m)/\∀p,ip=.dn c p->1<=c/\c<=F.m) (o:∀c,1<=c->c<=F.m->ip.od<c->fw E.a k G c=.cl 1 (Ñ F.n λj=>(E.C j).gB F j c)) (t:∀c,c<=F.m->c<=ip.od->(∃W,(ip=.dn c (.gy W)\/ip=.dn c (.jc W))/\fw E.a k G c=.jG W/\W=Ñ F.n λj=>(E.C j).gB F j c)\/(∃r s,ip=.dn c (.iA r)/\0<r/\fw E.a k G c=.gW r s/\r+s=Ñ F.n λj=>(E.C j).gB F j c)\/((∀p,ip≠ .dn c p)/\((fw E.a k G c=.cl 0 0/\(Ñ F.n λj=>(E.C j).gB F j c)=0)\/∃s,fw E.a k G c=.gW 0 s/\s=Ñ F.n λj=>(E.C j).gB F j c))) (u:E.S.od<=ip.od) (v:(∃a b,E.a k=.gW a b)->∃a b,G=.gW a b) (y:G=.cl 1 0->E.d k=Í) {sg:Nat->F.γ} {V:Nat->Nat->Prop} (w:V 0=F.i) {pk:Nat->Nat}:Ps F {E with S:=ip,a:=fw E.a k G,c:=sg,V:=V,e:=pk}:=by
 refine⟨w,h.C,h.K,h.L,λq=> ?_,l,h.z,h.d,h.l,λq=>absurd i q,h.h,h.M,h.o,h.t,h.g,h.u,h.N,h.B,o,t,λj r d f=>Ù (h.w j r d f) u,λj r d f=> ?_,h.O,h.S,λc d f=> ?_,h.D⟩
 .have:E.r=0:=q;omega
 .have:=h.H j r d f;show∃a b,fw E.a k G _=_;by_cases e:F.r (j+r*F.n)=k
  .rw[e]at this|-;rw[gC];exact v this
  .grind [fG]
 .have g:fw E.a k G c=.cl 1 0:=f;by_cases e:c=k
  .grind [gC]
  .rw[fG _ _ e]at g;exact h.y c d g
def PI.ahM(H:gS F)(p:PI F n zX E S f o v l w qJ)(D:0<E.r)(u:E.N 0=Í)(I:l[F.L]?=Ã g)(M:g.status=Å)(ht:f F.L=.fy)(t:E.S=.kN k):rQ F n zX E f l w qJ:=by
 have B:=iO I;have C:=p.I.r;have O:=p.A3 D u I M ht w<|C.r _ B;rw[t]at O;have Yh:=(p.C.I k).1 t;have X:=A2 H.C;have s6:iQ F.S (λi=>i<l.size) E.Y (gp v F.L {v F.L with w:=w}) w qJ:=C.C B (λ_ q=>q) (λb q=>À<|Á q) (λ_ q=>q) (λa q=>À<|Á q) U U U (C.m _ B)<|C.g _ B;have Yi:=p.a.C (i:=F.L) (d:=(v F.L).d) (w0:=w)<|Æ _;have z:E.S.md=k:=by rw[t];rfl
 by_cases AT:k<F.m
 .let⟨H3,A4⟩:=p.M.M k (by rw[z];exact Æ _);let⟨r1,r2⟩:=p.a.f D u;rw[z]at r1 r2;let⟨o1,o2⟩:=p.a.e D (k+1) (by rw[z];omega) AT;let⟨T,P⟩:=jl<|H.f k _ _ _ g AT O (C.M B) H3 A4 r2 r1 o1 o2 E.c U;have Q:=p.I.M (J:=JI F E.c<|.mk (k+1)) (T:=T) (K:=.no) I (À M) s6 (by rwa[X]);have y:fw E.a 0 (E.a 0)=E.a:=by funext j;unfold fw;split<;>simp[*]
  refine⟨{E with S:=.mk (k+1)},_,_,_,_,λh=>h,.r (p.N.Lw H.C (sg:=E.c) u) p.b Q ?_ ?_ ?_ ?_ (QM p.c U U U U U U U) p.f,Lx H.C (p.G B) u U U U U ?_⟩
  .have L:=Yi;exact⟨L.gT,L.o,L.lU,λa e b c=>L.e a e (by rwa[z]) c,λa b=>by have:=L.f a b;rwa[z]at this,L.h,L.l,L.S,L.M,L.c,λe b=>L.I e (by rwa[z]),λe b=>L.N e (by rwa[z]),λe a b=>L.g e a (by rwa[z]),L.d⟩
  .have W:=p.M;exact⟨W.C,W.I,W.jI,λe b=>W.M e (by rwa[z]),λe a b=>W.S e a (by rwa[z]),W.N⟩
  .have:=p.C.Ly (k:=0) (ip:=.mk (k+1)) (G:=E.a 0) (sg:=E.c) (V:=E.V) (pk:=E.e) u D (λe=>⟨λq=>(by cases q),λq=>(by cases q;exact⟨Z,Z⟩),λp q=>by cases q⟩) (λe a b c=> ?_) (λe a b=> ?_) (by rw[t];exact Æ _) id (λq=>p.C.y 0 (ò _) q) p.C.v
   .rwa[y]at this
   .rw[y];exact p.C.e e a b<|by rwa[t]
   .rw[y];rcases p.C.Y e a (by rwa[t])with⟨W,q,_⟩|⟨r,s,q,_⟩|q
    .rw[t]at q;rcases q with q|q<;>cases q
    .rw[t]at q;cases q
    .exact Á<|Á ⟨λp q=>(by cases q),q.2⟩
  .have:E.S.rl=(jz.mk<|k+1).rl:=by rw[t];rfl
   have a:=p.d;rwa[this]at a
  .rw[t];simp only[jz.rk];have:F.m+3-(k+1)=F.m+2-k:=Z
   rw[this];omega
 .have q:k=F.m:=Z
  subst q;let⟨T,P⟩:=jl<|H.h _ g O<|C.M B;have Q:=p.I.M (J:=JE F .oQ) (T:=T) (K:=.no) I (À M) s6 (by rwa[X]);have s:¬E.iw 0:=λ⟨e,a,_⟩=>by rw[u]at a;cases a
  have W:¬E.ow 0:=λ⟨e,a,_⟩=>by rw[u]at a;cases a
  refine⟨fq.gV E 0 .oQ,_,_,_,_,λh=>h,.r (p.N.G (x:=0) H.C λ⟨N,h⟩=>by cases h) p.b Q (Yi.gV ⟨λh=>h.elim,λh=>(W h).elim⟩) p.M.gV (p.C.gV D (by rw[u];rfl) (λb h=>by rw[u]at h;cases h) (λb h=>by cases h) (λj h=>by omega) λ_=>t) (p.d.G ⟨λh=>h.elim,λh=>(s h).elim⟩) (QI p.c λk y b c e=> ?_) p.f,ES H.C (p.G B)<|À ?_⟩
  .subst e;rw[ó,I]at b;obtain rfl:=È b;rw[M]at c;cases c
  .unfold rR;rw[u];simp only[ij.rk,if_true,t,jz.rk];have:F.m+2-F.m=2:=Z
   rw[this];omega
end
section
variable{F:Ph}{E E':fT F}{S:Nat->Jd}{o G:Nat->gq}{v:Nat->iz}{d:Nat->e9}{f B:Array Ä}{u:ä}{D:Option (Nat×Nat)}
def Yj(ok:F.Ok)(a:k<=F.m):jg F.toFx k≠jo F i:=λe=>ok.C (by
 have:F.I k=F.Y:=by injection e
 rw[<-this];exact Á ⟨k,a,U⟩)
def ahN(ok:F.Ok)(a:k<=F.m)(b:i<=F.m)(h:jg F.toFx k=jg F.toFx i):k=i:=ok.S k i a b<|by injection h
def ahO(h:jo F i=jo F n):i=n:=by injection h
theorem PI.ahP(H:gS F)(p:PI F n zX E S o v d f w qJ)(h0:0<E.r)(he:E.N 0=Í)(hi:f[F.L]?=Ã g)(iH:g.status=Å)(ht:o F.L=.fy)(B:E.S=.mk k):rQ F n zX E o f w qJ:=by
 have y:=iO hi;have C:=p.I.r;have hJ:=p.A3 h0 he hi iH ht w<|C.r _ y;rw[B]at hJ;let⟨k1,N⟩:=(p.C.I k).2.1 B;have D:E.S.md=k-1:=by rw[B];rfl
 let⟨M,z,hn,A4,Yk,hcell,hdone⟩:=hJ;let⟨o1,o2⟩:=p.a.e h0 k (by rw[D];omega) N;have s6:iQ F.S (λi=>i<f.size) E.Y (gp d F.L<|p9 F {d F.L with w:=w} k) w qJ:=by
  refine C.C y (λ_ q=>q.elim) (λb q=>À q) (λ_ q=>q.1) (λa q=> ?_) U U U (λ_ q=>q.elim) λa c q=> ?_
  .rcases q with q|rfl|rfl
   .exact À<|Á q
   .exact À<|À o2
   .exact À<|À o1
  .rcases q with q|q|q
   .exact C.g _ y a c.1 q
   .exact c.2.1 q
   .exact c.2.2 q
 have hF:lh F.P (F.L==0) (JI F (fw E.c k M)<|.dn k .jF) .fy (p9 F {d F.L with w:=w} k) g:=by rw[A2 H.C];intro J s;let⟨Q,X,W,a3,e⟩:=hdone;exact⟨Q,X,W,a3,e.j4 s⟩
 have hG:fw E.a 0 (E.a 0)=E.a:=by funext j;unfold fw;split<;>simp[*]
 have Vn:∀l,l≠k->fw E.V k z l=E.V l:=λl h=>fG _ _ h;have Vs:fw E.V k z k=z:=gC _ _ _;refine⟨{E with S:=.dn k .jF,c:=fw E.c k M,V:=fw E.V k z},_,_,_,_,λh=>h,.r ?_ p.b (p.I.M (K:=.no) hi (À iH) s6 hF) ?_ ?_ ?_ ?_ (QM p.c U U U U U U U) p.f,Lx H.C (p.G y) he U U U U ?_⟩
 .have:=p.N.Lw (ip:=.dn k .jF) (sg:=fw E.c k M) (T:=.fy) H.C he;exact⟨this.M,this.Y,this.I,this.C,this.r⟩
 .have L:=p.a;have G:(gp d F.L<|p9 F {d F.L with w:=w} k) F.L=p9 F {d F.L with w:=w} k:=gU _ _ _;have W:∀i,i≠F.L->(gp d F.L<|p9 F {d F.L with w:=w} k) i=d i:=λi h=>gF d _ h;have Yl:(0:Nat)≠F.L:=by have:=H.C.r;omega
  have QO:∀i a,(gp d F.L (p9 F {d F.L with w:=w} k) i).r a->(d i).r a:=λi a h=>by
   by_cases q:i=F.L
   .subst q;rw[G]at h;exact h.1
   .grind
  have sO:∀i b,(gp d F.L (p9 F {d F.L with w:=w} k) i).O b->(d i).O b/\i≠F.L:=λi b h=>by
   by_cases q:i=F.L
   .subst q;rw[G]at h;exact h.elim
   .grind
  have nOc:∀i,i<f.size->∀a,(a=jo F (F.b k)\/a=jg F.toFx k)->¬(gp d F.L (p9 F {d F.L with w:=w} k) i).r a:=λi s a c h=>by
   by_cases q:i=F.L
   .subst q;rw[G]at h;rcases c with c|c
    .exact h.2.1 c
    .exact h.2.2 c
   .rw[W i q]at h;refine C.h i F.L s y q a h<|À ?_;grind
  refine⟨λi s a c=> ?_,λx t u a c=>by rw[W 0 Yl];exact L.o x t u a c,λh=>by rw[W 0 Yl];exact L.lU h,λh l t u=> ?_,λh yU=> ?_,λj hj yU r hr t=>by rw[W _ Z];exact L.h j hj yU r hr t,λj hj yU=>by rw[W _ Z];exact L.l j hj yU,λx AY=> ?_,λi s=> ?_,λi t u=>by rw[W i Z];exact L.c i t u,λl I b hb=> ?_,λl I i s h=> ?_,λl t u i s h=> ?_,λj hj r hr t i s h=>L.d j hj r hr t i s<|QO _ _ h⟩
  .by_cases q:i=F.L
   .subst q;rw[G]at c;rcases c with q|q|q|q
    .exact L.gT _ y a<|À q.1
    .exact L.gT _ y a<|Á q
    .exact Á ⟨_,H.C.Y.1 _ Z Z,q⟩
    .grind
   .rw[W i q]at c;exact L.gT i s a c
  .rw[G];have A5:k<l:=t;let⟨J,q2⟩:=L.e h l (by rw[D];omega) u;exact⟨⟨J,Yj H.C u,λe=>by have:=ahN H.C u N e;omega⟩,⟨q2,λe=>by have:=H.C.pi l k Z u k1 N<|ahO e;omega,λe=>Yj H.C N e.symm⟩⟩
  .rw[G];show(p9 F _ k).N (jg F.toFx k)/\∀b,fw E.V k z k b->(p9 F _ k).I b;rw[Vs];exact⟨Á<|Á U,Yk⟩
  .have:F.L+x≠F.L:=λq=>by
    have J:x=0:=Z
    subst J;let⟨e,t,_⟩:=AY;grind
   rw[W _ this];exact L.S x AY
  .by_cases q:i=F.L
   .subst q;rw[G];exact L.M _ s
   .rw[W _ q];exact L.M i s
  .have uk:l<=k:=I;by_cases q:l=k
   .subst q;have J:fw E.V l z l b:=hb;rw[Vs]at J;have hM:=Yk b J;refine⟨C.fv _ y b hM,C.I _ y b hM,λi s h=> ?_⟩;let⟨Q,X⟩:=sO i b h;exact C.o i F.L s y X b Q hM
   .have J:fw E.V k z l b:=hb;rw[Vn l q]at J;let⟨Q,X,a3⟩:=L.I l (by rw[D];omega) b J;exact⟨Q,X,λi s h=>a3 i s (sO i b h).1⟩
  .have uk:l<=k:=I;by_cases q:l=k
   .grind
   .exact L.N l (by rw[D];omega) i s<|QO _ _ h
  .have uk:l<=k:=u;by_cases q:l=k
   .grind
   .exact L.g l t (by rw[D];omega) i s<|QO _ _ h
 .have W:=p.M;refine⟨W.C,W.I,W.jI,λl I=> ?_,λl t I=> ?_,W.N⟩
  .have uk:l<=k:=I;show nD F l (fw E.c k M l)/\F.d l (fw E.c k M l) (fw E.V k z l) w;by_cases q:l=k
   .subst q;rw[gC,gC];refine⟨?_,A4⟩;have:=(W.M (l-1)<|by rw[D];exact Æ _).1;have u:=nD.ED this hn;grind
   .rw[fG _ _ q,fG _ _ q];exact W.M l<|by rw[D];omega
  .have uk:l<=k:=I;by_cases q:l=k
   .subst q;exact hcell
   .exact W.S l t<|by rw[D];omega
 .have:=p.C.Ly (ip:=.dn k .jF) (sg:=fw E.c k M) (V:=fw E.V k z) (pk:=E.e) he h0 (λl=>⟨λq=>(by cases q),λq=>(by cases q),λp q=>by cases q;exact⟨k1,N⟩⟩) (λl a b c=> ?_) (λl a b=> ?_) (by rw[B];exact Æ _) id (λq=>p.C.y 0 (ò _) q)<|by rw[Vn 0 Z];exact p.C.v
  .grind
  .rw[hG];exact p.C.e l a b<|by rwa[B]
  .rw[hG];have J:l<=k-1:=b;rcases p.C.Y l a (by rwa[B])with⟨W,q,_⟩|⟨r,s,q,_⟩|q;all_goals grind
 .have c:=p.d;have e:E.S.rl=k-1:=by rw[B];rfl
  rw[e]at c;refine{c with I:=λl a b x AY=> ?_};have J:l<=k-1:=b;refine c.I l a b x (AY.imp (λq=> ?_) id);rwa[<-Vn l Z]
 .rw[B];simp only[jz.rk,jH.rk];have:F.m+3-k=(F.m+2-k)+1:=Z
  grind [ō]
theorem PI.ahQ(H:gS F)(p:PI F n zX E S o v d f w qJ)(x:0<E.r)(m:E.N 0=Í)(G:f[F.L]?=Ã g)(iH:g.status=Å)(ht:o F.L=.fy)(e:E.S=.dn k .jF):j5 F n zX E o f w qJ D F.L:=by
 have t:=iO G;have C:=p.I.r;have J:=p.A3 x m G iH ht w<|C.r _ t;rw[e]at J;let⟨k1,K⟩:=(p.C.I k).2.2 _ e;have M:=A2 H.C;let⟨hd,_,g',h1,N⟩:=J;have O:∀y:Ă,y.act=ę (Ĳ<|fL<|F.I k)->y.act.touch?=Í:=λy i=>by rw[i];rfl
 let⟨T,hT⟩:=jl N;have P:=lG (λl g h=>À h.2.1) N;obtain⟨B,y,y1,y2,q1,Q,q3,q4,q5,q7⟩:=p.AX H .no G (by rw[M];exact h1 w) fi fi (λy i=>⟨λz l=>(by rw[O y i]at l;cases l),by rw[i];exact C.N _<|À<|Á ⟨k,K,U⟩⟩) (λy _ i=>AH C.l λl u=>by rw[xg u];exact O y i) (by rwa[M]) P;have z:E.S.md=k:=by rw[e];rfl
 have QP:E.S.rl=k-1:=by rw[e];rfl
 let⟨V,X⟩:=p.a.f x m;rw[z]at V X;have Y:=p.d;rw[QP]at Y;have I:k-1+1=k:=Z
 have EN:=Y.agV y1 (by rwa[I]) ((C.f _ t).trans hd) (by
  rw[I];intro a l;rcases l with l|rfl
  .exact(C.S _ t).rd a<|X _ l
  .exact(C.S _ t).r _ V)
 rw[I]at EN;have hG:fw E.a 0 (E.a 0)=E.a:=by funext j;unfold fw;split<;>simp[*]
 refine⟨{E with S:=.dn k .iE,e:=fw E.e k qJ.size},_,_,_,_,B,w,#[y],q1,Q,λh=>h,.r ?_ (Q.trans p.b) q5 ?_ ?_ ?_ EN (p.c.qU (E':={E with S:=.dn k .iE,e:=fw E.e k qJ.size}) q3 (by rcases P with q|q<;>rw[q]<;>simp) q4 (λ_ _=>rfl) U U (λ_ _=>rfl) (λ_=>rfl) (λ_ _=>rfl) (λ_ _ h=>À h) λ_ _ _ _ h=>À h) λj r a1 a2 a3=> ?_,Lx H.C (p.G t) m U U U U ?_⟩
 .have:=p.N.Lw (ip:=.dn k .iE) (sg:=E.c) (T:=T) H.C m;exact⟨this.M,this.Y,this.I,this.C,this.r⟩
 .have L:=q7;exact⟨L.gT,L.o,L.lU,λa l b c=>L.e a l (by rwa[z]) c,λa b=>by have:=L.f a b;rwa[z]at this,L.h,L.l,L.S,L.M,L.c,λl b=>L.I l (by rwa[z]),λl b=>L.N l (by rwa[z]),λl a b=>L.g l a (by rwa[z]),L.d⟩
 .have W:=p.M;exact⟨W.C,W.I,W.jI,λl b=>W.M l (by rwa[z]),λl a b=>W.S l a (by rwa[z]),W.N⟩
 .have:=p.C.Ly (ip:=.dn k .iE) (sg:=E.c) (pk:=fw E.e k qJ.size) m x (λl=>⟨λq=>(by cases q),λq=>(by cases q),λp q=>by cases q;exact⟨k1,K⟩⟩) (λl a b c=> ?_) (λl a b=> ?_) (by rw[e];exact Æ _) id (λq=>p.C.y 0 (ò _) q) p.C.v
  .grind
  .rw[hG];exact p.C.e l a b<|by rwa[e]
  .rw[hG];have c:l<=k-1:=b;rcases p.C.Y l a (by rwa[e])with⟨W,q,_⟩|⟨r,s,q,_⟩|q;all_goals grind
 .have u:=p.C.w j r a1<|Á<|Á a2;rw[e]at u;simp only[jz.od]at u;show Υ _ _ (fw E.e k qJ.size _);rw[fG _ _ Z];exact(p.f j r a1 a2 a3).app _
 .rw[e];simp only[jz.rk,jH.rk];omega
end
section
variable{F:Ph}{E E':fT F}{S:Nat->Jd}{v M:Nat->gq}{I:Nat->iz}{B:Nat->e9}{o f:Array Ä}{u:ä}{K:Option (Nat×Nat)}
def A6(E:fT F)(ip:jz)(k:Nat)(G:GS):fT F:={E with S:=ip,a:=fw E.a k G}
theorem PI.EX(H:gS F)(p:PI F j zX E S v I B o w qJ){d:jH}{ip:jz}{G:GS}{s:Ä}{T:gq}(h0:0<E.r)(C:E.N 0=Í)(t:E.S=.dn k d)(O:d≠ .jF)(Q:o[F.L]?=Ã g)(D:kE (F.I k) w W)(X:ia W (F.I k) G)(q1:ř F.P (ð o w K) F.L=(ĝ<|ð f W K,u))(J:f.size=o.size)(q3:f[F.L]?=Ã s)(ny:s.status=Å\/s.status=ç)(q4:∀k,k≠F.L->f[k]?=o[k]?.map (Ā F.P g s W)) (q5:gN F.P F.S E.Y (fw S F.L<|JI F E.c ip) (fw v F.L T) (fw I F.L .no) (gp B F.L {B F.L with w:=W}) f W (qJ++u)) (q6:TI F.toFx j zX E.r E.S.rl E.V E.e E.d E.iw E.f (qJ++u)) (q7:iG F E (gp B F.L {B F.L with w:=W}) f.size W) (x:ip.md=k/\ip.rl=k) (hP:Ps F (A6 E ip k G)) (Ya:ip.rk F<E.S.rk F) (HJ:∀i r,E.C i=.fx r .kB->F.r (i+r*F.n)=k->(E.a k).sm=0->G.sm=0\/∀y,f[F.L+1+i]?=Ã y->y.status≠Ý):j5 F j zX E v o w qJ K F.L:=by
 let⟨k1,z⟩:=(p.C.I k).2.2 _ t;have M:F.M (F.I k):=Á ⟨k,z,U⟩;have N:E.S.md=k:=by rw[t];rfl
 have QP:E.S.rl=k:=by rw[t];cases d<;>first|rfl|exact absurd U O
 have m:=D.I H p.a p.C p.M M ⟨λq=>absurd q<|H.C.M k z,λ_=>rfl⟩ (λl a=>⟨λq=>by rwa[<-H.C.S _ _ z a q,gC],λq=>fG _ _ λe=>q<|by rw[e]⟩);refine⟨A6 E ip k G,_,_,_,_,f,W,u,q1,J,λh=>h,.r ?_ (J.trans p.b) q5 ?_ ?_ hP ?_ ?_ λi r a b c=>(p.f i r a b c).app u,Lx H.C (p.G<|iO Q) C U U U U Ya⟩
 .have:=p.N.Lw (ip:=ip) (sg:=E.c) (T:=T) H.C C;exact⟨this.M,this.Y,this.I,this.C,this.r⟩
 .have L:=q7;have e:(A6 E ip k G).S.md=E.S.md:=by rw[N];exact x.1
  exact⟨L.gT,L.o,L.lU,λa l b c=>L.e a l (by rwa[<-e]) c,λa b=>by have:=L.f a b;rwa[<-e]at this,L.h,L.l,L.S,L.M,L.c,λl b=>L.I l (by rwa[<-e]),λl b=>L.N l (by rwa[<-e]),λl a b=>L.g l a (by rwa[<-e]),L.d⟩
 .have e:(A6 E ip k G).S.md=E.S.md:=by rw[N];exact x.1
  exact⟨m.C,m.I,m.jI,λl b=>m.M l (by show l<=E.S.md;rwa[<-e]),λl a b=>m.S l a (by show l<=E.S.md;rwa[<-e]),m.N⟩
 .have e:(A6 E ip k G).S.rl=E.S.rl:=by rw[QP];exact x.2
  rwa[e]
 .refine p.c.qU (E':=A6 E ip k G) q3 (by rcases ny with q|q<;>rw[q]<;>simp) q4 (λi a=>D.C p.C M a) U U (λ_ _=>rfl) (λ_=>rfl) (λ_ _=>rfl) (λ_ _ h=>À h) λi r _ a b=> ?_;show(fw E.a k G _).sm=0\/_;grind [gC,fG]
theorem PI.EY(p:PI F j zX E S v I B o w qJ){d:jH}{f:jz}{G:GS}(m:0<E.r)(t:E.N 0=Í)(l:E.S=.dn k d)(D:f=.kN k\/∃u,f=.dn k u)(i:f.od=k)(H:(∃W,(f=.dn k (.gy W)\/f=.dn k (.jc W))/\G=.jG W/\W=Ñ F.n λe=>(E.C e).gB F e k)\/(∃r s,f=.dn k (.iA r)/\0<r/\G=.gW r s/\r+s=Ñ F.n λe=>(E.C e).gB F e k)\/((∀p,f≠ .dn k p)/\((G=.cl 0 0/\(Ñ F.n λe=>(E.C e).gB F e k)=0)\/∃s,G=.gW 0 s/\s=Ñ F.n λe=>(E.C e).gB F e k))) (x:(∃a b,E.a k=.gW a b)->∃a b,G=.gW a b) (y:G≠ .cl 1 0):Ps F (A6 E f k G):=by
 let⟨J,K⟩:=(p.C.I k).2.2 _ l;have C:k-1<=E.S.od/\E.S.od<=k:=by rw[l];cases d<;>simp only[jz.od]<;>omega
 have:=p.C.Ly (sg:=E.c) (pk:=E.e) t m (λg=> ?_) (λg a b c=> ?_) (λg a b=> ?_) (by rw[i];exact C.2) x (λq=>absurd q y) p.C.v
 .exact this
 .grind
 .rw[i]at c;rw[fG _ _ Z];exact p.C.e g a b Z
 .by_cases q:g=k
  .grind [gC]
  .rw[fG _ _ q];rw[i]at b;refine Á<|Á ⟨λc h=> ?_,?_⟩
   .grind
   .rcases p.C.Y g a Z with⟨W,z,_⟩|⟨r,s,z,_⟩|z;all_goals grind
theorem PI.ahR(H:gS F)(p:PI F j zX E S v I B o w qJ)(d:0<E.r)(i:E.N 0=Í)(s:o[F.L]?=Ã g)(iH:g.status=Å)(ht:v F.L=.fy)(c:E.S=.dn k .iE):j5 F j zX E v o w qJ K F.L:=by
 have O:=iO s;have C:=p.I.r;have hJ:=p.A3 d i s iH ht w<|C.r _ O;rw[c]at hJ;obtain⟨k1,Y⟩:=(p.C.I k).2.2 _ c;have Q:=A2 H.C;have y:F.M (F.I k):=Á ⟨k,Y,U⟩;obtain⟨hd,_,uj⟩:=hJ;have hc:=p.C.e k k1 Y (by rw[c];simp only[jz.od];omega);obtain⟨W,hW⟩:∃W,(Ñ F.n λa=>(E.C a).gB F a k)=W:=⟨_,U⟩;rw[hW]at hc;have V:=hc▸p.M.I k Y;obtain⟨ev,z⟩:=V.jL;have key:=uj (GS.cl (0+1) W).st;rw[ev]at key z;obtain⟨m,t⟩:∃m,(GS.jL<|.cl (0+1) W).st=m:=⟨_,U⟩;rw[t]at key;obtain⟨g',h1,h2⟩:=key;have G:=h1 w V.C V.I;rw[<-t]at G;obtain⟨k1',k2,k3⟩:=V.r;have r:kE (F.I k) w (w.setCell (fL<|F.I k)<|æ Ó (GS.jL<|.cl (0+1) W).st):=Á ⟨_,_,À U,U⟩;have D:=r.r p.a H.C y;have X:fF {B F.L with w:=w} w (w.setCell (fL<|F.I k)<|æ Ó (GS.jL<|.cl (0+1) W).st):=⟨Õ D.r.symm,λb lk=>D.jT b<|C.I _ O b lk,λa ha=>D.M _ O a ha,λa ha=>D.N _ O a ha,λa _=>D.I a⟩;have Ym:¬∃a b,E.a k=.gW a b:=λ⟨a,b,q⟩=>by rw[hc]at q;cases q
 by_cases hl:0<W
 .have ed:GS.jL (.cl (0+1) W)=.jG W:=by simp only[GS.jL];rw[if_pos ⟨trivial,hl⟩]
  rw[ed]at G z r D X t;have M:fg F.P É (Lc F.P É (F.I k) (fg F.P É<|F.h k) W) {B F.L with w:=w} g':=by
   have e:m=(W:Int):=t.symm;have h:¬(m=0\/(fX<=m/\m<1000000*fX/\m%fX<1000000)):=by simp only[fX];omega
   grind
  obtain⟨T,hT⟩:=jl<|M.j4 X;have N:=lG (λl g h=>À h.2.1) M;obtain⟨f,u,q1,q2,q3,q4,q5,q6,q7⟩:=p.Y (J:=JI F E.c<|.dn k (.gy W)) H .no s (EV d) y (by rwa[Q]) r (AR y) U (λx hs e=>(EW i x hs e).elim) (by rwa[Q]) N;refine p.EX H d i c fi s r z q1 q2 q3 N q4 q5 q6 q7 ⟨U,U⟩ (p.EY d i c (Á ⟨_,U⟩) U (À ⟨W,À U,U,hW.symm⟩) (λq=>absurd q Ym) fi) ?_ λ_ _ _ _ _=>À U;rw[c];simp only[jz.rk,jH.rk];omega
 .have QK:W=0:=Z
  subst QK;have ed:GS.jL (.cl (0+1) 0)=.cl 0 0:=U;rw[ed]at G z r D X t;have M:fg F.P É (F.h k) {B F.L with w:=w} g':=by simp only[t.symm,true_or,if_true]at h2;exact h2
  obtain⟨T,hT⟩:=jl<|M.j4 X;have N:=lG (λl g h=>À<|H.N _ _ _ h) M;obtain⟨f,u,q1,q2,q3,q4,q5,q6,q7⟩:=p.Y (J:=JI F E.c<|.kN k) H .no s (EV d) y (by rwa[Q]) r (AR y) U (λx hs e=>(EW i x hs e).elim) (by rwa[Q]) N;refine p.EX H d i c fi s r z q1 q2 q3 N q4 q5 q6 q7 ⟨U,U⟩ (p.EY d i c (À U) U (Á<|Á ⟨λp q=>(by cases q),À ⟨rfl,hW⟩⟩) (λq=>absurd q Ym) fi) ?_ λ_ _ _ _ _=>À rfl;rw[c];simp only[jz.rk,jH.rk];omega
theorem PI.Yn(p:PI F j zX E S v I B o w qJ)(b:E.S=.dn k (.gy i)\/E.S=.dn k (.jc i)):E.a k=.jG i/\i=Ñ F.n λa=>(E.C a).gB F a k:=by
 have c:k<=F.m:=by rcases b with b|b<;>exact((p.C.I k).2.2 _ b).2
 rcases p.C.Y k c (by rcases b with b|b<;>(rw[b];exact Æ _))with⟨d,z,e,f⟩|⟨r,s,z,_⟩|⟨z,_⟩;all_goals grind
def PI.ahS(H:gS F)(p:PI F j zX E S v I B o w qJ)(d:0<E.r)(m:E.N 0=Í)(n:o[F.L]?=Ã g)(M:g.status=Å)(N:v F.L=.fy)(c:E.S=.dn k (.gy i)):j5 F j zX E v o w qJ K F.L:=by have s:=p.A3 d m n M N w<|(p.I.r).r _<|iO n;rw[c]at s;let⟨k1,t⟩:=(p.C.I k).2.2 _ c;have y:=A2 H.C;have z:F.M (F.I k):=Á ⟨k,t,U⟩;let⟨hd,_,O⟩:=s;let⟨C,P⟩:=p.Yn<|À c;have D:=C▸p.M.I k t;let⟨g',Q,r⟩:=O (i:Int);simp only[if_true]at r;let⟨T,V⟩:=jl r;have G:=lG (λl g h=>À h.2.1) r;obtain⟨f,u,h,l,X,Y,q5,q6,q7⟩:=p.Y (J:=JI F E.c<|.dn k (.jc i)) H .no n (EV d) z (by rw[y];exact Q w D.C) (À U) (yP z) U (λx a e=>(EW m x a e).elim) (by rwa[y]) G;refine p.EX H d m c fi n (À U) D h l X G Y q5 q6 q7 ⟨U,U⟩ (p.EY d m c (Á ⟨_,U⟩) U (À ⟨i,Á U,U,P⟩) (λ⟨a,b,q⟩=>by rw[C]at q;cases q) fi) ?_ λ_ _ _ _ _=>À rfl;rw[c];simp only[jz.rk,jH.rk];omega
def PI.ahT(H:gS F)(p:PI F j zX E S v I B o w qJ)(d:0<E.r)(m:E.N 0=Í)(n:o[F.L]?=Ã g)(N:g.status=Å)(O:v F.L=.fy)(c:E.S=.dn k (.jc i)):j5 F j zX E v o w qJ K F.L:=by
 have q:=iO n;have C:=p.I.r;have y:=p.A3 d m n N O w<|C.r _ q;rw[c]at y;let⟨k1,z⟩:=(p.C.I k).2.2 _ c;have G:=A2 H.C;have s:F.M (F.I k):=Á ⟨k,z,U⟩;let⟨hd,_,g',P,M⟩:=y;let⟨Q,V⟩:=p.Yn<|Á c;have r:=Q▸p.M.I k z;have X:=r.r.1;have t:kE (F.I k) w (w.setCell (fL<|F.I k)<|æ Ó 0):=Á ⟨_,_,À U,U⟩;have D:=t.r p.a H.C s;let⟨T,Y⟩:=jl (M.j4 ⟨Õ D.r.symm,λb h=>D.jT b<|C.I _ q b h,λa e=>D.M _ q a e,λa e=>D.N _ q a e,λa _=>D.I a⟩);have a:=lG (λl g h=>by
  cases i with
  |zero=>omega
  |succ i=>exact À h.2.1) M
 obtain⟨f,u,h,b,l,q4,q5,q6,q7⟩:=p.Y (J:=JI F E.c<|.dn k (.iA i)) H .no n (EV d) s (by rw[G];exact P w _ r.C r.I) t (XW s) U (λx hs e=>(EW m x hs e).elim) (by rwa[G]) a;refine p.EX H d m c fi n t r.XJ h b l a q4 q5 q6 q7 ⟨U,U⟩ (p.EY d m c (Á ⟨_,U⟩) U (Á<|À ⟨i,0,U,X,U,by rwa[ó]⟩) (λ_=>⟨i,0,U⟩) fi) ?_ λ_ _ _ _ _=>À U;rw[c];simp only[jz.rk,jH.rk];omega
theorem PI.ahU(H:gS F)(p:PI F j zX E S v I B o w qJ)(l:0<E.r)(t:E.N 0=Í)(G:o[F.L]?=Ã g)(iH:g.status=Å)(ht:v F.L=.fy)(h:E.S=.dn k (.iA j9)):j5 F j zX E v o w qJ K F.L:=by
 have W:=iO G;have C:=p.I.r;have hJ:=p.A3 l t G iH ht w<|C.r _ W;rw[h]at hJ;obtain⟨k1,Y⟩:=(p.C.I k).2.2 _ h;have X:=A2 H.C;have O:F.M (F.I k):=Á ⟨k,Y,U⟩;obtain⟨s,hr0,hc,sZ⟩:∃s,0<j9/\E.a k=.gW j9 s/\j9+s=Ñ F.n λc=>(E.C c).gB F c k:=by rcases p.C.Y k Y (by rw[h];exact Æ _)with⟨W',z,z1,z2⟩|⟨M,s,z,z1,z2,z3⟩|⟨z,_⟩;all_goals grind
 obtain⟨j9,rfl⟩:∃M,j9=M+1:=⟨j9-1,Z⟩;obtain⟨hd,_,QL,g',Q,h1,h2⟩:=hJ;have N:=hc▸p.M.I k Y;have V:kE (F.I k) w (w.setCell (gR<|F.I k)<|æ å<|å.wrap<|(GS.gW (j9+1) s).sm+1):=Á ⟨_,_,Á U,U⟩;have D:=V.r p.a H.C O;have xi:fF {B F.L with w:=w} w (w.setCell (gR<|F.I k)<|æ å<|å.wrap<|(GS.gW (j9+1) s).sm+1):=⟨Õ D.r.symm,λb lk=>D.jT b<|C.I _ W b lk,λa ha=>D.M _ W a ha,λa ha=>D.N _ W a ha,λa _=>D.I a⟩;have wake:∀f:Array Ä,(∀k,k≠F.L->f[k]?=o[k]?.map (Ā F.P g g'<|w.setCell (gR<|F.I k)<|æ å<|å.wrap<|(GS.gW (j9+1) s).sm+1))\/(∀m,m≠F.L->f[m]?=o[m]?.map (Ā F.P g g'<|w.setCell (gR<|F.I k)<|æ å<|å.wrap<|(GS.gW (j9+1) s).sm+1))->∀c M,E.C c=.fx M .kB->F.r (c+M*F.n)=k->(E.a k).sm=0->(GS.gW j9<|s+1).sm=0\/∀y,f[F.L+1+c]?=Ã y->y.status≠Ý:=by
  intro f d c M hj _ _;refine Á λy hy=> ?_;by_cases Yo:c+2<=E.r
  .by_cases Lz:E.N (c+1)=Í
   .obtain⟨_,hk⟩:=p.g c Yo Lz;rw[hj]at hk;rcases d with d|d<;>
    .rw[d _ Z]at hy;obtain⟨z,H2,rfl⟩:=Ú.1 hy;exact Yf p QL Q H2 hk
   .obtain⟨_,r0,q,_⟩:=p.C.l c Yo Lz;grind
  .have:=p.C.z c Z;grind
 cases j9 with
 |zero=>
  obtain⟨T,hT⟩:=jl<|h2.j4 xi;obtain⟨f,u,q1,q2,q3,d,q5,q6,q7⟩:=p.Y (J:=JI F E.c<|.kN k) H .no G (EV l) O (by rw[X];exact h1 w _ N.M N.N) V (Hz O) (HA _).2.2.2 (λx hs e=>(EW t x hs e).elim) (by rwa[X])<|À Q;refine p.EX H l t h fi G V N.jF q1 q2 q3 (À Q) d q5 q6 q7 ⟨U,U⟩ (p.EY l t h (À U) U (Á<|Á ⟨λp q=>(by cases q),Á ⟨s+1,rfl,Z⟩⟩) (λ_=>⟨0,s+1,rfl⟩) fi) ?_<|wake f<|Á d;rw[h];simp only[jz.rk,jH.rk];omega
 |succ j9=>
  obtain⟨T,hT⟩:=jl<|h2.j4 xi;obtain⟨f,u,q1,q2,q3,d,q5,q6,q7⟩:=p.Y (J:=JI F E.c<|.dn k (.iA (j9+1))) H .no G (EV l) O (by rw[X];exact h1 w _ N.M N.N) V (Hz O) (HA _).2.2.2 (λx hs e=>(EW t x hs e).elim) (by rwa[X])<|À Q;refine p.EX H l t h fi G V N.jF q1 q2 q3 (À Q) d q5 q6 q7 ⟨U,U⟩ (p.EY l t h (Á ⟨_,U⟩) U (Á<|À ⟨j9+1,s+1,U,Z,U,Z⟩) (λ_=>⟨j9+1,s+1,U⟩) fi) ?_<|wake f<|Á d;rw[h];simp only[jz.rk,jH.rk];have:Ñ F.n (λc=>(E.C c).gB F c k)<=F.n:=HC λi=>by cases E.C i<;>simp only[gO.gB]<;>first|omega|(split<;>first|omega|(rename_i q _;cases q<;>simp[jv.sY]))
  omega
theorem PI.ahV(H:gS F)(p:PI F j zX E S v I B o w qJ){N:Nat}(s:i<E.r)(a:E.N i=Ã (.ju N))(t:o[F.L+i]?=Ã g)(J:g.status=Å):j5 F j zX E v o w qJ K (F.L+i):=by
 let⟨M,n,O⟩:=p.k i _ s a;have hL:=H.C.r;obtain⟨f,P,Q,hn,T,l,V,u,z⟩:=p.I.P8 t Z J n (O ⟨N,U⟩) M;have C:=iO t;have D:∀c∈Ü (F.L+i) g.frame.fn g.frame.place P,c.act.touch?=Í/\∀b,F.M b->c.act≠ę (.release<|fL b):=λc d=>by obtain⟨e,h,rfl⟩:=Ø d;refine⟨Α<|u e h,λb _ q=> ?_⟩;have:=u e h;let⟨k,y,m⟩:=e;cases k<;>simp_all[Event.mute,Ë]
 obtain⟨m,G⟩:∃m,f[F.L+i]?=Ã m:=⟨f[F.L+i]'(by rwa[l]),ê _⟩;have W:m.status≠Ý:=by
  let⟨g0,y,h,k,r⟩:=z.C _ m G;rw[n]at h;cases h with
  |gi=>rcases k with q|q<;>rw[q]<;>simp
 have X:fw v (F.L+i) .fy=v:=by funext q;unfold fw;split<;>simp[*]
 have Y:fw I (F.L+i) .no=I:=by funext q;unfold fw;split<;>simp[*]
 refine⟨fq.gV E i<|.ju Q,_,_,_,_,f,w,_,T,l,λh=>h,.r (p.N.G H.C λ_=>rfl) (l.trans p.b) (by rwa[X,Y]) (by rw[l];exact(p.a.C<|Æ _).gV<|⟨λ_=>⟨_,a,trivial⟩,λ_=>trivial⟩) p.M.gV (p.C.gV s (by rw[a];rfl) (λk h=>by rw[a]at h;cases h) (λk h=>by cases h) (λq h=>p.C.l q Z<|by rw[<-h,a];simp) λh=>p.C.f<|by rw[<-h,a];simp) ((p.d.C<|yL (λc d=>(D c d).1) λc d=>(D c d).2).G<|⟨λ_=>⟨_,a,trivial⟩,λ_=>trivial⟩) (QI (p.c.Hn G W V λ_ _=>rfl) λk y n r e=> ?_) λq r k e y=>(p.f q r k e y).app _,ES H.C (p.G C)<|Á ?_⟩
 .grind
 .unfold rR;rw[a];simp only[ij.rk];grind
theorem PI.ahW(H:gS F)(p:PI F j zX E S v I B o w qJ)(N:0<i)(t:i<F.L)(u:o[i]?=Ã g)(O:g.status=Å):j5 F j zX E v o w qJ K i:=by
 let⟨Q,T,m⟩:=p.l i N t;obtain⟨f,x,z,Y,V,n,W,C,D⟩:=p.I.P8 u Z O m T Q;have G:=iO u;have J:∀c∈Ü i g.frame.fn g.frame.place x,c.act.touch?=Í/\∀b,F.M b->c.act≠ę (.release<|fL b):=λc l=>by obtain⟨e,a,rfl⟩:=Ø l;refine⟨Α<|C e a,λb _ q=> ?_⟩;have:=C e a;let⟨h,k,y⟩:=e;cases h<;>simp_all[Event.mute,Ë]
 obtain⟨s,M⟩:∃s,f[i]?=Ã s:=⟨f[i]'(by rwa[n]),ê _⟩;have X:s.status≠Ý:=by
  let⟨g0,k,a,h,y⟩:=D.C _ s M;rw[m]at a;cases a with
  |gi=>rcases h with q|q<;>rw[q]<;>simp
 refine⟨{E with h:=fw E.h i z},_,_,_,_,f,w,_,V,n,λh=>h,.r ?_ (n.trans p.b) D ?_ ⟨p.M.C,p.M.I,p.M.jI,p.M.M,p.M.S,p.M.N⟩ ?_ (p.d.C<|yL (λc l=>(J c l).1) λc l=>(J c l).2) (QM (p.c.Hn M X W λ_ _=>rfl) U U U U U U U) λq r a k y=>(p.f q r a k y).app _,Hw (p.G G) ?_ λk m=>yN (λ_=>rfl) (λ_ _=>fG _ _ m) (λ_=>rfl) (λ_ _=>rfl) (λ_ _=>rfl) U⟩
 .have h:=p.N;refine⟨by rw[fG S _ Z];exact h.M,λa b=>by rw[fG S _ Z];exact h.Y a b,λq a b=>by rw[fG S _ Z];exact h.I q a b,λy e a b=>by rw[fG S _ Z];exact h.C y e a b,λq a b=> ?_⟩;by_cases e:q=i
  .grind [gC]
  .rw[fG S _ e];refine⟨?_,(h.r q a b).2⟩;show _=pB F.P (fw E.h i z q);rw[fG _ _ e];exact(h.r q a b).1
 .rw[n];have L:=p.a.C (i:=i) (d:=Ï (B i).d x) (w0:=w)<|Æ _;exact⟨L.gT,L.o,L.lU,L.e,L.f,L.h,L.l,L.S,L.M,L.c,L.I,L.N,L.g,L.d⟩
 .have h:=p.C;exact⟨h.v,h.C,h.K,h.L,h.J,h.I,h.z,h.d,h.l,h.f,h.h,h.M,h.o,h.t,h.g,h.u,h.N,h.B,h.e,h.Y,h.w,h.H,h.O,h.S,h.y,h.D⟩
 .unfold fT.iR;rw[if_neg Z,if_pos t,if_neg Z,if_pos t];refine Á ⟨U,À ?_⟩;grind [gC]
end
section
variable{F:Ph}{E J:fT F}{S:Nat->Jd}{d M:Nat->gq}{o:Nat->iz}{m:Nat->e9}{f D:Array Ä}{u:ä}{I:Option (Nat×Nat)}
def iy(E:fT F)(x:fV)(G:GS)(dk:Nat->Nat):fT F:={E with M:=x,b:=G,I:=dk}
structure iW(E:fT F)(x:fV)(C:Nat->Nat):Prop where
 r:x.sp F.n=E.r
 C:∀j,j+2<=E.r->C j=E.I j
def A7{x:fV}{G:GS}{d:Nat->Nat}(a:iW E x d):(iy E x G d).Y=E.Y:=by have e:(iy E x G d).r=E.r:=a.r;funext b;unfold fT.Y;rw[e];refine propext<|or_congr Iff.rfl<|or_congr Iff.rfl ⟨λ⟨j,c,f⟩=>⟨j,c,f.trans<|a.C j c⟩,λ⟨j,c,f⟩=>⟨j,c,f.trans (a.C j c).symm⟩⟩
def iG.G(L:iG F E m i w){x:fV}{G:GS}{d:Nat->Nat}(a:iW E x d):iG F (iy E x G d) m i w:=by have e:(fq.iy E x G d).r=E.r:=a.r;exact⟨L.gT,λy f=>L.o y Z,λh=>L.lU Z,λh=>L.e Z,λh=>L.f Z,λj h=>L.h j Z,λj h=>L.l j Z,L.S,λc g=>L.M c (g.imp id λ⟨y,f,b⟩=>⟨y,Z,b⟩),L.c,λk l b n=>by rw[A7 a];exact L.I k l b n,L.N,L.g,λj h=>L.d j Z⟩
def Wd.r{G:GS}(W:Wd F {E with b:=G,a:=E.a} w){x:fV}{dk:Nat->Nat}(a:iW E x dk)(c:x.mF F.q=E.M.mF F.q)(d:x.jf F.n=E.M.jf F.n):Wd F (iy E x G dk) w:=by
 have e:(fq.iy E x G dk).r=E.r:=a.r;refine⟨W.C,W.I,λj f=> ?_,W.M,W.S,λj f=>W.N j<|show j+2<=E.r by omega⟩;have b:j+2<=E.r:=Z
 have:=W.jI j b;show∃g s,w.heap[dk j]?=Ã (.chan F.q g (decide<|j<x.jf F.n) s (E.C j).iM É)/\tY F.n j (x.mF F.q) s/\_;rw[a.C j b,c,d];exact this
def QR{x:fV}{G:GS}{dk:Nat->Nat}(h:x.ad F.n=E.M.ad F.n):(iy E x G dk).G=E.G:=by
 funext y;show(if y<x.ad F.n then _ else _)=if y<E.M.ad F.n then _ else _
 rw[h];rfl
def Ps.iy(h:Ps F E){x:fV}{G:GS}{dk:Nat->Nat}(d:iW E x dk)(o:E.M.jf F.n<=x.jf F.n)(t:∀j,x=.go j\/x=.lF j\/x=.rd j\/x=.iE j->j<=F.n)(u:∀j,x=.lF j\/x=.rd j\/x=.iE j->1<=j)(v:∀r,(x=.iI r->r<=F.q)/\(x=.kX r->r<=F.n)) (w:∀c f,G=.cl c f->c=Ñ (F.n+1) (fq.iy E x G dk).G/\f=x.gB) (z:∀f,G=.jG f->Ñ (F.n+1) (fq.iy E x G dk).G=0/\f=x.gB/\∃y,y<E.r/\E.g=Ã y/\(E.N y=Ã (.fZ (.gy f))\/E.N y=Ã (.fZ (.jc f)))) (B:∀r s,G=.gW r s->Ñ (F.n+1) (fq.iy E x G dk).G=0/\r+s=x.gB/\(0<r->∃y,y<E.r/\E.g=Ã y/\E.N y=Ã (.fZ (.iA r)))) (C:∀y p,E.N y=Ã (.fZ p)->(∀W,p=.gy W\/p=.jc W->E.g=Ã y/\G=.jG W)/\(∀r,p=.iA r->0<r/\E.g=Ã y/\∃s,G=.gW r s)) (D:x=.fx .gy\/x=.fx .lj\/x=.fZ->Ñ (F.n+1) (fq.iy E x G dk).G=0) (H:x=.fx .gy->∃a b,G=.gW a b) (I:(∀p,x≠ .fx p)->x≠ .fZ->∃c,G=.cl c 0):Ps F (fq.iy E x G dk):=by
 have e:(fq.iy E x G dk).r=E.r:=d.r;refine⟨h.v,t,u,v,λq=>h.J Z,h.I,λj q=>h.z j Z,λj r q=>h.d j r Z,λj q J=> ?_,h.f,λy q=>h.h y Z,λj g N O K=> ?_,λj q=> ?_,w,λf i=> ?_,λr s i=> ?_,C,D,h.e,h.Y,λj r q=>h.w j r Z,λj r q=>h.H j r Z,H,I,h.y,λj r q=>h.D j r Z⟩
 .let⟨a,b⟩:=h.l j Z J;exact⟨Ê a o,b⟩
 .have k:dk j=dk g:=K;rw[d.C j Z,d.C g Z]at k;exact h.M j g Z Z k
 .show¬F.M (dk j)/\dk j≠F.Y/\F.S<=dk j;rw[d.C j Z];exact h.o j Z
 .let⟨k,l,y,m,L⟩:=z f i;exact⟨k,l,y,Z,L⟩
 .let⟨k,l,m⟩:=B r s i;refine⟨k,l,λL=> ?_⟩;let⟨y,P,M⟩:=m L;exact⟨y,Z,M⟩
def Ps.r(h:Ps F E){x:fV}{dk:Nat->Nat}(d:iW E x dk)(g:E.M.jf F.n<=x.jf F.n)(i:x.ad F.n=E.M.ad F.n)(f:x.gB=E.M.gB)(k:∀j,x=.go j\/x=.lF j\/x=.rd j\/x=.iE j->j<=F.n)(l:∀j,x=.lF j\/x=.rd j\/x=.iE j->1<=j)(m:∀r,(x=.iI r->r<=F.q)/\(x=.kX r->r<=F.n)) (o:x=.fx .gy\/x=.fx .lj\/x=.fZ->Ñ (F.n+1) E.G=0) (s:x=.fx .gy->∃a b,E.b=.gW a b) (t:(∀p,x≠ .fx p)->x≠ .fZ->∃c,E.b=.cl c 0):Ps F (fq.iy E x E.b dk):=by
 have e:=QR (E:=E) (G:=E.b) (dk:=dk) i;refine h.iy d g k l m ?_ ?_ ?_ h.N ?_ s t
 .rw[e,f];exact h.t
 .rw[e,f];exact h.g
 .rw[e,f];exact h.u
 .rwa[e]
def qY.iy(h:qY F E S d o)(ok:F.Ok){x:fV}{G:GS}{dk:Nat->Nat}{T:gq}(a:iW E x dk):qY F (fq.iy E x G dk) (fw S 0<|JM F dk x) (fw d 0 T) (fw o 0<|kM x):=by have:=ok.r;have e:(fq.iy E x G dk).r=E.r:=a.r;refine⟨by rw[gC,gC];exact⟨U,U⟩,λc b=>by rw[fG S _ Z,fG o _ Z];exact h.Y Z b,λj c b=> ?_,λy f c b=>by rw[fG S _ Z,fG o _ Z,fG d _ Z];exact h.C y f Z b,λi c b=>by rw[fG S _ Z,fG o _ Z,fG d _ Z];exact h.r i c b⟩;rw[fG S _ Z,fG o _ Z];show _=JW F (dk j) j (E.C j)/\_=kW F (dk j) (E.C j);rw[a.C j Z];exact h.I j Z b
def rS{x:fV}{G:GS}{dk:Nat->Nat}{T:gq}(h:x.rk F<E.M.rk F):pC F.N ((iy E x G dk).mu (fw d 0 T) D) (E.mu d f):=by refine Hw (by unfold Ph.N;omega) (À ?_) λk a=>yN (λh=>absurd h a) (λ_ _=>rfl) (λ_=>rfl) (λ_ _=>rfl) (λ_ _=>rfl)<|fG d _ a;rwa[EG,EG]
theorem Yp:E.ly 0=match E.M with|.fx p=>p.ly F.B E.b.st|_=>0:=by unfold fT.ly;grind
def ahX{p a:SP}(b:E.M=.fx (.mb p))(g:d 0=.fy)(h:a.rk F.B E.b.st<p.rk F.B E.b.st):pC F.N ((iy E (.fx (.mb a)) E.b E.I).mu (fw d 0 .fy) D) (E.mu d f):=by
 refine XX (i:=0) (λk _=> ?_) (by unfold Ph.N;omega) ?_ λk c=> ?_
 .by_cases e:k=0
  .subst e;rw[EG,EG,gC,b,g];rfl
  .exact yN (λh=>absurd h e) (λ_ _=>rfl) (λ_=>rfl) (λ_ _=>rfl) (λ_ _=>rfl)<|fG d _ e
 .rwa[Yp,Yp,b]
 .unfold fT.ly;rw[if_neg c,if_neg c];rfl
def PI.s7(p:PI F b zX E S d o m f w qJ)(c:f[0]?=Ã g)(e:g.status=Å)(h:d 0=.fy):∀a,fF (m 0) (m 0).w a->JM F E.I E.M {m 0 with w:=a} g:=by
 let⟨k,i⟩:=p.h;have j:o 0=.no\/o 0=.iA:=by
  rw[i];cases E.M with
  |fx v=>cases v<;>first|exact À U|exact Á U
  |_=>exact À U
 intro a r;have:=p.I.N c e h j a r;simp_all
def yY(ok:F.Ok):∀x,E.iw x->0=F.L+x->False:=λx _ e=>by have:=ok.r;omega
theorem PI.yZ(H:gS F)(p:PI F b zX E S d o m f w qJ){x:fV}{G:GS}{dk:Nat->Nat}{c:Ä}{T:gq}(a:iW E x dk)(C:ř F.P (ð f w I) 0=(ĝ<|ð D W I,u))(l:D.size=f.size)(q3:D[0]?=Ã c)(ny:c.status=Å\/c.status=ç)(J:∀k,k≠0->D[k]?=f[k]?.map (Ā F.P g c W))(K:∀j,j+2<=E.r->W.heap[E.I j]?=w.heap[E.I j]?) (L:gN F.P F.S E.Y (fw S 0<|JM F dk x) (fw d 0 T) (fw o 0<|kM x) (gp m 0 {m 0 with w:=W}) D W (qJ++u)) (M:TI F.toFx b zX E.r E.S.rl E.V E.e E.d E.iw E.f (qJ++u)) (O:iG F E (gp m 0 {m 0 with w:=W}) D.size W) (Q:Wd F (iy E x G dk) W) (X:Ps F (iy E x G dk)) (xf:pC F.N ((iy E x G dk).mu (fw d 0 T) D) (E.mu d f)) (hxf:x=.fZ->E.M=.fZ):j5 F b zX E d f w qJ I 0:=by
 have e:(iy E x G dk).r=E.r:=a.r;refine⟨iy E x G dk,_,_,_,_,D,W,u,C,l,hxf,.r (p.N.iy H.C a) (by rw[e];exact l.trans p.b) (by rwa[A7 a]) (O.G a) Q X (by rwa[e]) ?_ λi h s n q=>(p.f i h Z n q).app u,xf⟩;intro k y n hb;by_cases q:k=0
 .grind
 .rw[J k q]at n;obtain⟨z,hz,rfl⟩:=Ú.1 n;let⟨_,hzb⟩:=Hv hb;rcases p.c k z hz hzb with⟨h1,_⟩|⟨j,t,v,B,i|⟨r,cap,s,h,i,h4⟩⟩
  .exact absurd h1 q
  .exact Á ⟨j,Z,v,B,À i⟩
  .refine Á ⟨j,Z,v,B,Á ⟨r,cap,s,h,i,?_⟩⟩;show W.heap[dk j]?=_;rwa[a.C j t,K j t]
theorem PI.LA(H:gS F)(p:PI F b zX E S d o m f w qJ){x:fV}{h:Nat->Nat}{T:gq}(c:iW E x h)(v:f[0]?=Ã g)(B:g.status=Å)(hF:lh F.P Î (JM F h x) T {m 0 with w:=w} g)(t:x.mF F.q=E.M.mF F.q)(l:x.jf F.n=E.M.jf F.n)(D:Ps F (iy E x E.b h))(G:pC F.N ((iy E x E.b h).mu (fw d 0 T) f) (E.mu d f))(I:x=.fZ->E.M=.fZ):rQ F b zX E d f w qJ:=by
 have u:=iO v;have C:=p.I.r;have e:(iy E x E.b h).r=E.r:=c.r;have J:iQ F.S (λi=>i<f.size) E.Y (gp m 0 {m 0 with w:=w}) w qJ:=C.C u (λ_ q=>q) (λa q=>À<|Á q) (λ_ q=>q) (λa q=>À<|Á q) U U U (C.m _ u)<|C.g _ u;have L:=p.I.M (K:=kM x) v (À B) J hF;refine⟨iy E x E.b h,_,_,_,_,I,.r (p.N.iy H.C c) (by rw[e];exact p.b) (by rwa[A7 c]) ((p.a.C<|Æ _).G c) (Wd.r p.M c t l) D (by rw[e];exact p.d) (λk y M O=> ?_) λi a z j s=>p.f i a Z j s,G⟩;by_cases Q:k=0
 .grind
 .rcases p.c k y M O with⟨t,_⟩|⟨j,V,z,l,i|⟨r,W,s,a,i,X⟩⟩
  .exact absurd t Q
  .exact Á ⟨j,Z,z,l,À i⟩
  .refine Á ⟨j,Z,z,l,Á ⟨r,W,s,a,i,?_⟩⟩;show w.heap[h j]?=_;rwa[c.C j V]
def mQ{x:fV}(h:x.sp F.n=E.M.sp F.n):iW E x E.I:=⟨h,λ_ _=>rfl⟩
theorem nF:F.M F.C:=À U
theorem PI.ahY(H:gS F)(p:PI F b zX E S d o m f w qJ)(k:f[0]?=Ã g)(l:g.status=Å)(s:d 0=.fy)(e:E.M=.lF j):rQ F b zX E d f w qJ:=by
 have i:=p.s7 k l s w<|p.I.r.r _<|iO k;rw[e]at i;let⟨c,i⟩:=i;have t:E.r=j:=by unfold fT.r;rw[e];rfl
 have a:iW E (.go j) (fw E.I (j-1) c):=⟨t.symm,λn h=>fG _ _ Z⟩;refine p.LA H (T:=.fy) a k l (λr q=>H.Ht _ _ _ _ _ i q) (by rw[e];rfl) (by rw[e];rfl) (p.C.r a (by rw[e];exact Æ _) (by rw[e];rfl) (by rw[e];rfl) (λn h=> ?_) (λn h=> ?_) (λr=>⟨λh=>(by cases h),λh=>(by cases h)⟩) (λh=>by rcases h with h|h|h<;>cases h) (λh=>by cases h) λ_ _=>p.C.S (λv q=>by rw[e]at q;cases q) λq=>by rw[e]at q;cases q) (rS<|by rw[e];simp only[fV.rk];omega) λh=>by cases h
 .rcases h with h|h|h|h<;>cases h;exact p.C.C j<|Á<|À e
 .grind
def PI.ahZ(H:gS F)(p:PI F b zX E S d o m f w qJ)(k:f[0]?=Ã g)(t:g.status=Å)(u:d 0=.fy)(i:E.M=.rd j):j5 F b zX E d f w qJ I 0:=by
 have n:=p.s7 k t u w<|p.I.r.r _<|iO k;rw[i]at n;let⟨Q,_,V,z,s⟩:=n;have B:E.r=j:=by unfold fT.r;rw[i];rfl
 have a:iW E (.lF j) E.I:=⟨B.symm,λ_ _=>rfl⟩;let⟨C,G,J⟩:=Qz H p nF (À U) (À U) (À ⟨U,U⟩) λx c e=>yY H.C x c e;let⟨T,x⟩:=jl s;have e:=lG (λl g ⟨c,h⟩=>À<|H.I _ _ _ _ h) s;obtain⟨D,y,c,l,K,L,M,N,O,P⟩:=p.AX H (kM<|.lF j) k (z w) fi fi C G x e;refine p.yZ H a K L M e N (λ_ _=>rfl) O (J y c l) P (Wd.r p.M a (by rw[i];rfl)<|by rw[i];rfl) (p.C.r a (by rw[i];exact Æ _) (by rw[i];rfl) (by rw[i];rfl) (λq h=> ?_) (λq h=> ?_) (λr=>⟨λh=>(by cases h),λh=>(by cases h)⟩) (λh=>by rcases h with h|h|h<;>cases h) (λh=>by cases h) λ_ _=>p.C.S (λv q=>by rw[i]at q;cases q) λq=>by rw[i]at q;cases q) (rS<|by rw[i];simp only[fV.rk];omega) λh=>by cases h
 .rcases h with h|h|h|h<;>cases h;exact p.C.C j<|Á<|Á<|À i
 .rcases h with h|h|h<;>cases h;exact p.C.K j<|Á<|À i
end
section
variable{F:Ph}{E I:fT F}{S:Nat->Jd}{m K:Nat->gq}{z:Nat->iz}{o:Nat->e9}{d B:Array Ä}{u:ä}{C:Option (Nat×Nat)}
def ah0(y:Nat):E.G y<=1:=by
 unfold fT.G;split
 .cases E.N y with
  |none=>exact Æ _
  |some e=>cases e with
   |oQ=>exact Æ _
   |fZ p=>cases p<;>simp[me,ij.kO,jH.kO]
   |ju N=>simp[me,ij.kO]
 .omega
def Yq(v:Int):kE F.C w (w.setCell (fL F.C)<|æ Ó v):=Á ⟨_,_,À U,U⟩
def QS(H:gS F)(p:PI F n zX E S m z o d w qJ)(h:kE F.C w W){G:GS}(a:ia W F.C G):Wd F {E with b:=G,a:=E.a} W:= h.I H p.a p.C p.M nF (Ga:=G) (Gg:=E.a) ⟨λ_=>a,λe=>absurd U e⟩ λb c=>⟨λe=>absurd e.symm<|H.C.M b c,λ_=>rfl⟩
def QU(H:gS F)(p:PI F n zX E S m z o d w qJ)(h:kE F.C w W)(c:i<d.size):fF {o i with w:=w} w W:=by have D:=h.r p.a H.C nF;exact⟨Õ D.r.symm,λb f=>D.jT b<|p.I.r.I _ c b f,λa e=>D.M _ c a e,λa e=>D.N _ c a e,λa _=>D.I a⟩
def za{l:e9}{b:Ð}(r:fF {l with w:=W} jX b):fF l jX b:=⟨r.r,r.I,r.N,r.Y,r.S⟩
def PI.ah1(H:gS F)(p:PI F n zX E S m z o d w qJ)(D:d[0]?=Ã g)(iH:g.status=Å)(ht:m 0=.fy)(a:E.M=.iE j):j5 F n zX E m d w qJ C 0:=by
 have O:=iO D;have Q:=p.s7 D iH ht w<|p.I.r.r _ O;rw[a]at Q;let⟨hd,_,hA⟩:=Q;have hj:=p.C.C j<|Á<|Á<|Á a;have hj1:=p.C.K j<|Á<|Á a;have oP:E.r=j:=by unfold fT.r;rw[a];rfl
 have HJ:=H.C.gd;let⟨c,G⟩:=p.C.S (λv q=>by rw[a]at q;cases q) (λq=>by rw[a]at q;cases q);let⟨HZ,_⟩:=p.C.t c 0 G;have hcn:c<=F.n+1:=by rw[HZ];exact HC ah0
 have I:=G▸p.M.C;let⟨hv,J⟩:=I.agP Z;have K:=hA (GS.cl c 0).st;rw[hv]at K J;obtain⟨b,V⟩:∃b,(GS.cl (c+1) 0).st=b:=⟨_,U⟩;rw[V]at K J;let⟨L,h1,k⟩:=K;have EP:=h1 w I.C I.I;have t:=Yq (F:=F) (w:=w) b;have xi:=QU H p t O;have M:b=(c+1:Int)*fX:=by rw[<-V];simp only[GS.st,fX];omega
 obtain⟨x,v,N⟩:∃x:fV,(x=.rd j\/x=.lF j)/\fg F.P Î (JM F E.I x) {o 0 with w:=w} L:=by
  by_cases l:c=0
  .have e:b=fX:=by rw[M,l];simp[fX]
   simp only[if_pos e]at k;exact⟨.rd j,À U,k⟩
  .have r:¬b=fX:=by simp only[fX]at M|-;omega
   have s:fX<b/\b<1000000*fX/\b%fX=0:=by simp only[fX]at M|-;omega
   simp only[if_neg r,if_pos s]at k;exact⟨.lF j,Á U,k⟩
 let⟨T,hT⟩:=jl<|N.j4 xi;have X:L.status=Å\/L.status=ç:=by
  rcases v with rfl|rfl
  .exact lG (λl g h=>À h.2.1) N
  .exact lG (λl g ⟨c,h⟩=>À<|H.I _ _ _ _ h) N
 obtain⟨B,u,q1,q2,q3,q4,q5,q6,q7⟩:=p.Y H (kM x) D (À U) nF EP t (AR nF) U (λx l e=>(yY H.C x l e).elim) hT X;have l:x.ad F.n=j+1:=by rcases v with rfl|rfl<;>rfl
 have Y:E.M.ad F.n=j:=by rw[a];rfl
 have um:x.sp F.n=j:=by rcases v with rfl|rfl<;>rfl
 have hxr:x.gB=0:=by rcases v with rfl|rfl<;>rfl
 have e:iW E x E.I:=⟨um.trans oP.symm,λ_ _=>rfl⟩;have sZ:Ñ (F.n+1) (iy E x (.cl (c+1) 0) E.I).G=c+1:=by
  have h:=xe (f:=E.G) (f':=(iy E x (.cl (c+1) 0) E.I).G) (j:=j) (n:=F.n+1) Z (λi y=>by
   show(if i<x.ad F.n then me (E.N i)else 0)=if i<E.M.ad F.n then me (E.N i)else 0
   rw[l,Y];by_cases q:i<j
   .rw[if_pos q,if_pos Z]
   .rw[if_neg q,if_neg Z])
  have r:E.G j=0:=by unfold fT.G;rw[Y,if_neg Z]
  have s:(iy E x (.cl (c+1) 0) E.I).G j=1:=by show(if j<x.ad F.n then me (E.N j)else 0)=1;rw[l,if_pos Z,p.C.h j Z];rfl
  rw[r,s]at h;omega
 refine p.yZ H e q1 q2 q3 X q4 (λr s=>t.C p.C nF s) q5 q6 q7 (Wd.r (QS H p t J) e (by rw[a];rcases v with rfl|rfl<;>rfl) (by rw[a];rcases v with rfl|rfl<;>rfl)) (p.C.iy e (by rw[a];exact ò _) (λr h=> ?_) (λr h=> ?_) (λr=>⟨λh=> ?_,λh=> ?_⟩) (λi s h=> ?_) (λs h=>by cases h) (λr s h=>by cases h) (λy i h=> ?_) (λh=> ?_) (λh=> ?_) λ_ _=>⟨_,rfl⟩) (rS (by rw[a];rcases v with rfl|rfl<;>simp only[fV.rk]<;>omega)) (λh=>by rcases v with rfl|rfl<;>cases h)
 .rcases v with rfl|rfl<;>rcases h with h|h|h|h<;>cases h<;>exact hj
 .rcases v with rfl|rfl<;>rcases h with h|h|h<;>cases h<;>exact hj1
 .rcases v with rfl|rfl<;>cases h
 .rcases v with rfl|rfl<;>cases h
 .cases h;exact⟨sZ.symm,hxr.symm⟩
 .have:=p.C.N y i h;rw[G]at this;exact⟨λW q=>(by have:=(this.1 W q).2;cases this),λr hr=>(by let⟨_,_,s,h⟩:=this.2 r hr;cases h)⟩
 .rcases v with rfl|rfl<;>rcases h with h|h|h<;>cases h
 .rcases v with rfl|rfl<;>cases h
theorem PI.ah2(H:gS F)(p:PI F n zX E S m z o d w qJ)(c:d[0]?=Ã g)(e:g.status=Å)(i:m 0=.fy)(b:E.M=.iI 0):rQ F n zX E m d w qJ:=by have f:=p.s7 c e i;rw[b]at f;have a:iW E (.kX F.n) E.I:=mQ (by rw[b];rfl);refine p.LA H (T:=.fy) a c e (λh q=>f h<|(p.I.r.r _<|iO c).fe<|za q) (by rw[b];simp[fV.mF]) (by rw[b];simp[fV.jf]) (p.C.r a (by rw[b];exact ò _) (by rw[b];rfl) (by rw[b];rfl) (λq h=> ?_) (λq h=> ?_) (λr=>⟨λh=>(by cases h),λh=> ?_⟩) (λh=>by rcases h with h|h|h<;>cases h) (λh=>by cases h) λ_ _=>p.C.S (λv q=>by rw[b]at q;cases q) λq=>by rw[b]at q;cases q) (rS<|by rw[b];simp only[fV.rk];omega) (λh=>by cases h);all_goals grind
theorem PI.ah3(H:gS F)(p:PI F n zX E S m z o d w qJ)(c:d[0]?=Ã g)(e:g.status=Å)(i:m 0=.fy)(b:E.M=.kX 0):rQ F n zX E m d w qJ:=by have f:=p.s7 c e i;rw[b]at f;have a:iW E (.fx .iX) E.I:=mQ (by rw[b];rfl);refine p.LA H (T:=.fy) a c e (λh r=>f h<|(p.I.r.r _<|iO c).fe<|za r) (by rw[b];rfl) (by rw[b];simp[fV.jf]) (p.C.r a (by rw[b];simp[fV.jf]) (by rw[b];rfl) (by rw[b];rfl) (λr h=> ?_) (λr h=> ?_) (λr=>⟨λh=>(by cases h),λh=>(by cases h)⟩) (λh=>by rcases h with h|h|h<;>cases h) (λh=>by cases h) λh _=>absurd rfl<|h _) (rS<|by rw[b];simp only[fV.rk,jv.rk];omega) (λh=>by cases h);all_goals grind
def A8{v:jv}:∀j,(fV.fx v=.go j\/fV.fx v=.lF j\/fV.fx v=.rd j\/fV.fx v=.iE j)->j<=F.n:=λj h=>by rcases h with h|h|h|h<;>cases h
def A9{v:jv}:∀j,(fV.fx v=.lF j\/fV.fx v=.rd j\/fV.fx v=.iE j)->1<=j:=λj h=>by rcases h with h|h|h<;>cases h
def Ba{v:jv}:∀r,(fV.fx v=.iI r->r<=F.q)/\(fV.fx v=.kX r->r<=F.n):=λr=>⟨λh=>(by cases h),λh=>(by cases h)⟩
def PI.ah4(H:gS F)(p:PI F n zX E S m z o d w qJ)(c:d[0]?=Ã g)(e:g.status=Å)(i:m 0=.fy)(b:E.M=.fx .iX):rQ F n zX E m d w qJ:=by have f:=p.s7 c e i w<|p.I.r.r _<|iO c;rw[b]at f;let⟨k,q,j,l⟩:=f;have a:iW E (.fx (.mb (.fY k))) E.I:=mQ (by rw[b];rfl);exact p.LA H (T:=.fy) a c e (λr h=>⟨j,K4 l h⟩) (by rw[b];rfl) (by rw[b];rfl) (p.C.r a (by rw[b];exact Æ _) (by rw[b];rfl) (by rw[b];rfl) A8 A9 Ba (λh=>by rcases h with h|h|h<;>cases h) (λh=>by cases h) λh _=>absurd rfl<|h _) (rS<|by rw[b];simp only[fV.rk,jv.rk];omega) λh=>by cases h
theorem PI.ah5(H:gS F)(p:PI F n zX E S m z o d w qJ){v:SP}(k:d[0]?=Ã g)(iH:g.status=Å)(ht:m 0=.fy)(b:E.M=.fx (.mb v)):j5 F n zX E m d w qJ C 0:=by
 have gI:=iO k;have hJ:=p.s7 k iH ht w<|p.I.r.r _ gI;rw[b]at hJ;obtain⟨hd,X⟩:=hJ;have hG:=p.M.C;obtain⟨_,X⟩:=XZ X hG;have Y:E.M.jf F.n<=F.n:=by rw[b];exact Æ _
 rcases X with⟨q,g',es,j,i,P,h4⟩|⟨g',j,i,P⟩|⟨g',c,f,Q,ug,j,i⟩
 .have r:∀e∈es,uf F.toFx e:=by
   grind [yP,nF]
  obtain⟨s,V,l⟩:=P;obtain⟨B,u,t,D,I,K,L,M,N⟩:=p.Y (J:=JM F E.I<|.fx (.mb q)) (T:=.fy) H (kM<|.fx (.mb q)) k (À U) nF j (À U) r (by rcases i with rfl|rfl<;>rfl) (λx y e=>(yY H.C x y e).elim) (λh a=>⟨hd,K4 ⟨s,V,l⟩ a⟩)<|À (l _ _ V).1;have a:iW E (.fx (.mb q)) E.I:=mQ (by rw[b];rfl);exact p.yZ H a t D I (À (l _ _ V).1) K (λ_ _=>rfl) L M N (Wd.r p.M a (by rw[b];rfl)<|by rw[b];rfl) (p.C.r a Y (by rw[b];rfl) (by rw[b];rfl) A8 A9 Ba (λh=>by rcases h with h|h|h<;>cases h) (λh=>by cases h) λh _=>absurd rfl<|h _) (ahX b ht h4) λh=>by cases h
 .obtain⟨T,hT⟩:=jl P;have O:=lG (λl g h=>À h.2.1) P;obtain⟨B,u,t,D,I,K,L,M,N⟩:=p.Y H (kM<|.fx .lj) k (À U) nF j (À U) (yP nF) U (λx y e=>(yY H.C x y e).elim) hT O;have a:iW E (.fx .lj) E.I:=mQ (by rw[b];rfl);refine p.yZ H a t D I O K (λ_ _=>rfl) L M N (Wd.r p.M a (by rw[b];rfl)<|by rw[b];rfl) (p.C.r a Y (by rw[b];rfl) (by rw[b];rfl) A8 A9 Ba (λ_=> ?_) (λh=>by cases h) λh _=>absurd rfl<|h _) (rS<|by rw[b];simp only[fV.rk,jv.rk];omega) (λh=>by cases h);cases V:E.b with
  |cl c f=>have:=i c f V;have:=(p.C.t c f V).1;omega
  |jG f=>exact(p.C.g f V).1
  |gW r s=>exact(p.C.u r s V).1
 .obtain⟨e1,V⟩:=p.C.t c f Q;rw[b]at V;have V:f=0:=V;subst V;obtain⟨hv,HL⟩:=(Q▸hG).XH ug Z;rw[Q,hv]at j;rw[hv]at HL;rw[Q]at i;have e:(GS.cl c 0).st%fX=0:=by simp only[GS.st,fX];omega
  simp only[e,if_true]at i;have W:=Yq (F:=F) (w:=w) (GS.cl c<|0+1).st;obtain⟨T,hT⟩:=jl<|i.j4<|QU H p W gI;have O:=lG (λl g h=>À h.2.1) i;obtain⟨B,u,t,D,I,K,L,M,N⟩:=p.Y H (kM<|.fx .wr) k (À U) nF j W (AR nF) U (λx y e=>(yY H.C x y e).elim) hT O;have a:iW E (.fx .wr) E.I:=mQ (by rw[b];rfl);refine p.yZ H a t D I O K (λy l=>W.C p.C nF l) L M N (Wd.r (QS H p W HL) a (by rw[b];rfl)<|by rw[b];rfl) (p.C.iy a Y A8 A9 Ba (λl f h=> ?_) (λf h=>by cases h) (λr s h=>by cases h) (λy q h=> ?_) (λh=>by rcases h with h|h|h<;>cases h) (λh=>by cases h) λh _=>absurd rfl<|h _) (rS<|by rw[b];simp only[fV.rk,jv.rk];omega) λh=>by cases h
  .rw[(QR (E:=E) (x:=.fx .wr) (G:=.cl c (0+1)) (dk:=E.I)<|by rw[b];rfl)];cases h;exact⟨e1,U⟩
  .have:=p.C.N y q h;grind
def PI.ah6(H:gS F)(p:PI F n zX E S m z o d w qJ)(c:d[0]?=Ã g)(j:g.status=Å)(k:m 0=.fy)(b:E.M=.fx .wr):j5 F n zX E m d w qJ C 0:=by have f:=p.s7 c j k w<|p.I.r.r _<|iO c;rw[b]at f;let⟨L,_,M,q,i⟩:=f;have a:iW E (.fx .kB) E.I:=mQ (by rw[b];rfl);let⟨r,s,t⟩:=Qz H p nF (À U) (Á U) (À ⟨U,U⟩) λx h e=>yY H.C x h e;let⟨T,x⟩:=jl i;have e:=lG (λl g h=>À h.2.1) i;obtain⟨B,y,l,u,v,D,G,I,J,K⟩:=p.AX H (kM<|.fx .kB) c (q w) fi fi r s x e;exact p.yZ H a v D G e I (λ_ _=>rfl) J (t y l u) K (Wd.r p.M a (by rw[b];rfl)<|by rw[b];rfl) (p.C.r a (by rw[b];exact Æ _) (by rw[b];rfl) (by rw[b];rfl) A8 A9 Ba (λh=>by rcases h with h|h|h<;>cases h) (λh=>by cases h) λh _=>absurd rfl<|h _) (rS<|by rw[b];simp only[fV.rk,jv.rk];omega) λh=>by cases h
def PI.ah7(H:gS F)(p:PI F n zX E S m z o d w qJ)(i:d[0]?=Ã g)(s:g.status=Å)(t:m 0=.fy)(f:E.M=.fx .gy):j5 F n zX E m d w qJ C 0:=by have k:=p.s7 i s t w<|p.I.r.r _<|iO i;rw[f]at k;let⟨P,_,v⟩:=k;let⟨a,b,y⟩:=p.C.O f;have q:=p.M.C;rw[y]at q;let⟨Q,D,j⟩:=v 0;simp only[if_true]at j;have c:iW E (.fx .lj) E.I:=mQ (by rw[f];rfl);let⟨T,G⟩:=jl j;have r:=lG (λl g h=>À h.2.1) j;obtain⟨B,u,l,I,J,K,L,M,N⟩:=p.Y H (kM<|.fx .lj) i (À U) nF (D w q.C) (À U) (yP nF) U (λx O e=>(yY H.C x O e).elim) G r;exact p.yZ H c l I J r K (λ_ _=>rfl) L M N (Wd.r p.M c (by rw[f];rfl)<|by rw[f];rfl) (p.C.r c (by rw[f];exact Æ _) (by rw[f];rfl) (by rw[f];rfl) A8 A9 Ba (λ_=>p.C.B<|À f) (λh=>by cases h) λh _=>absurd rfl<|h _) (rS<|by rw[f];simp only[fV.rk,jv.rk];omega) λh=>by cases h
theorem PI.ah8(H:gS F)(p:PI F n zX E S m z o d w qJ){g:Ä}(f:d[0]?=Ã g)(j:g.status=Å)(v:m 0=.fy)(b:E.M=.fx .kB):j5 F n zX E m d w qJ C 0:=by
 have D:=iO f;have I:=p.s7 f j v w<|p.I.r.r _ D;rw[b]at I;obtain⟨hd,_,J,QB,g',h1,K⟩:=I;have L:=p.M.C;by_cases M:E.b.sm=0
 .have s:=L.M;rw[M]at s;obtain⟨Q,l⟩:=p.h;rw[b]at Q l;obtain⟨B,t,c,q,O⟩:=P7 f<|QB w s;have hw:∀x,Ā F.P g {g with status:=Ý} w x=x:=by
   intro x;unfold Ā;grind
  have r:∀k,k≠0->B[k]?=d[k]?:=by grind
  have V:gN F.P F.S E.Y S m z o B w (qJ++#[]):=by
   rw[Û];obtain⟨g0,W,T,f3,f4⟩:=p.I.C _ g f;have X:g=g0:=by
    rw[l]at T;cases T with
    |gi=>rfl
    |nZ h J=>cases j
   subst X;refine⟨?_,λk y a=> ?_,λk a=>p.I.I k<|by rwa[<-c]⟩
   .rw[show(λi=>i<B.size)=(λi=>i<d.size) by rw[c]];exact p.I.r
   .by_cases e:k=0
    .subst e;rw[q]at a;obtain rfl:=È a;refine⟨g,W,?_,À j,Á v⟩;rw[l];exact .nZ j J
    .rw[r k e]at a;exact p.I.C k y a
  refine⟨E,S,m,z,o,B,w,#[],t,c,λh=>h,.r p.N (c.trans p.b) V (by rw[c];exact p.a) p.M p.C (by rw[Û];exact p.d) (λk y a i=> ?_) (by rw[Û];exact p.f),Qt (λ_ _=>rfl) (by unfold Ph.N;omega) (by rw[EO f,if_pos j]) (by rw[EO q,if_neg fi]) λk a=>QA<|r k a⟩;by_cases e:k=0
  .grind
  .rw[r k e]at a;exact p.c k y a i
 .obtain⟨a,s,Q⟩:=X3 M;have k:=Q▸L;have EP:=h1 w _ (by simp only[GS.sm];omega) k.M k.N;have i:kE F.C w (w.setCell (gR F.C)<|æ å<|(GS.gW a<|s+1).sm-1):=Á ⟨_,_,Á U,U⟩;obtain⟨T,hT⟩:=jl<|K.j4<|QU H p i D;have V:=lG (λl g h=>À h.2.1) K;obtain⟨B,u,t,c,q,O,q5,q6,q7⟩:=p.Y H (kM<|.fx .gy) f (À U) nF EP i (Hz nF) (HA _).2.2.2 (λx l e=>(yY H.C x l e).elim) hT V;obtain⟨W,l,b3⟩:=p.C.u a (s+1) Q;rw[b]at l;have l:a+(s+1)=1:=l;have ha:a=0:=Z
  have hs0:s=0:=Z
  subst ha hs0;have e:iW E (.fx .gy) E.I:=mQ (by rw[b];rfl);have X:=QR (E:=E) (x:=.fx .gy) (G:=.gW 0 0) (dk:=E.I) (by rw[b];rfl);refine p.yZ H e t c q V O (λj' r=>i.C p.C nF r) q5 q6 q7 (Wd.r (QS H p i k.kB) e (by rw[b];rfl)<|by rw[b];rfl) (p.C.iy e (by rw[b];exact Æ _) A8 A9 Ba (λc' r h=>by cases h) (λr h=>by cases h) (λr s h=> ?_) (λy r h=> ?_) (λ_=>by rwa[X]) (λ_=>⟨0,0,U⟩) λh _=>absurd U<|h _) (rS<|by rw[b];simp only[fV.rk,jv.rk];omega) λh=>by cases h
  .rw[X];cases h;exact⟨W,U,λh=>by omega⟩
  .have:=p.C.N y r h;grind
end
section
variable{S:Nat->Jd}{a:Nat->gq}{d:Nat->iz}{f:Nat->e9}{b:Array Ä}
def gN.ah9(q:gN P i X S a d f b w qJ)(r:b[k]?=Ã g)(h:yF n É g):∃z,d k=.sW n z:=by
 let⟨l,u,v,j,s,m,y,t⟩:=h;let⟨g0,_,o,p,_⟩:=q.C k g r;generalize d k=K at o;cases o with
 |gi=>rw[l]at p;rcases p with e|e<;>cases e
 |nZ h e=>simp only[e]at j;cases j
 |tW e z h=>
  simp only[ł,ĺ,Prod.mk.injEq]at j;rw[<-j.1]at m;have:s=ŝ e z:=by simpa using m
  subst this;have:e=n:=by simpa[ŝ]using t
  subst this;exact⟨z,U⟩
 |nz e z h=>cases l
def gN.Yr(o:gN P i X S a d f b w qJ){x:Ä}(p:b[k]?=Ã x)(j:x.status=Ý)(q:d k=.sW n z):∃g,x=ł g #[ŝ n z] (.recv Î):=by
 let⟨g,_,l,m,_⟩:=o.C k x p;rw[q]at l;cases l with
 |gi=>rw[j]at m;rcases m with e|e<;>cases e
 |tW _ _ h=>exact⟨g,U⟩
 |nz _ _ h=>cases j
def aia{g0:Ä}:yF i É (ł g0 #[ŝ i z]<|.recv Î):= ⟨U,_,_,U,ŝ i z,fi,U,by simp[ŝ]⟩
theorem aib{g0:Ä}{r:Nat}(h:w.heap[i]?=Ã (.chan n q Î j r yQ)):((ł g0 #[ŝ i z]<|.recv Î).again w).status=Å:=by unfold Đ ł;simp[ŝ,h]
theorem aic(h:(g.again w).status=Ý):g.again w=g/\g.status=Ý:=by unfold Đ at h|-;grind
end
section
variable{F:Ph}{E C:fT F}{S:Nat->Jd}{a D:Nat->gq}{d:Nat->iz}{f:Nat->e9}{b m:Array Ä}{u:ä}{o:Option (Nat×Nat)}
def PI.Ys(p:PI F j zX E S a d f b w qJ){x:Ä}(n:b[k]?=Ã x)(h:yF i É x):∃g,g+2<=E.r/\E.N (g+1)=Í/\k=F.L+1+g/\E.I g=i/\∃r,E.C g=.nA r:=by
 let⟨z,l⟩:=p.I.ah9 n h;have s:=iO n;by_cases o:k=0
 .subst o;rw[p.h.2]at l;revert l;cases E.M with
  |fx v=>cases v<;>intro h<;>cases h
  |_=>intro h;cases h
 by_cases q:k<F.L
 .rw[(p.l k Z q).2.2]at l;cases l
 have t:=p.b;obtain⟨y,rfl⟩:∃y,k=F.L+y:=⟨k-F.L,Z⟩;cases m:E.N y with
 |some e=>rw[(p.k y e Z m).2.1]at l;cases l
 |none=>
  cases y with
  |zero=>rw[ó,(p.m Z m).2]at l;cases l
  |succ g=>
   rw[show F.L+(g+1)=F.L+1+g by omega,(p.g g Z m).2]at l;cases e:E.C g with
   |nA r=>
    rw[e]at l;injection l with l _;exact⟨g,Z,m,Z,l,r,e⟩
   |fx r v=>rw[e]at l;cases v<;>cases l
   |jK r=>rw[e]at l;cases l
   |oO r=>rw[e]at l;cases l
theorem Yt(h:tY n j i k)(c:1<=n)(a:j=i%n):i=j+k*n:=by
 have e:i=j+i/n*n:=by rw[a,Nat.mul_comm];exact(Nat.mod_add_div i n).symm
 have b:k=i/n:=by
  refine Nat.le_antisymm (ą λq=> ?_)<|ą λq=> ?_
  .have:=(h<|i/n).1 q;omega
  .have d:=mt (h k).2 Z;have f:(k+1)*n<=i/n*n:=č n q;grind
 rwa[b]
theorem Yu(h:tY n j i k)(b:1<=n)(c:j=i%n):tY n j (i+1) (k+1):=by
 have e:=Yt h b c;intro a;constructor
 .intro q;have:a*n<=k*n:=č n Z;omega
 .intro q;refine ñ λd=> ?_;have:(k+1)*n<=a*n:=č n d;grind
theorem Yv(h:tY n j i k)(b:j<n)(c:j≠i%n):tY n j (i+1) k:=by intro a;rw[h a];grind [ē,Ń]
def PI.aie(H:gS F)(p:PI F j zX E S a d f b w qJ){r:Nat}(hi:b[0]?=Ã g)(iH:g.status=Å)(ht:a 0=.fy)(D:E.M=.iI (r+1)):j5 F j zX E a b w qJ o 0:=by
 have hn:=H.C.N;have Ls:=(p.C.L<|r+1).1 D;have oP:E.r=F.n+1:=by unfold fT.r;rw[D];rfl
 obtain⟨hs,hk⟩:=p.h;rw[D]at hs hk;obtain⟨Q,hQ⟩:∃Q,Q=F.q-(r+1):=⟨_,U⟩;obtain⟨c,hj⟩:∃c,c=Q%F.n:=⟨_,U⟩;have hs:S 0=AJ F.P (0==0) (E.I c) (F.c Q) (Hs F E.I r):=by rw[hs,hj,hQ];rfl
 have vw:c<F.n:=by rw[hj];exact Γ _ hn
 have V:c+2<=E.r:=Z
 have hY:E.Y (E.I c):=Á<|Á ⟨c,V,U⟩;obtain⟨X,s,hc,ui,LB,yS,yT⟩:=p.M.jI c V;have p7:decide (c<E.M.jf F.n)=É:=by rw[D];simp[fV.jf]
 rw[p7]at hc;have HO:E.M.mF F.q=Q:=by rw[D,hQ];rfl
 rw[HO]at ui;have eQ:=Yt ui hn hj;have hsQ:s<=s*F.n:=ã _ hn;have Yw:(fV.iI r).mF F.q=Q+1:=by simp only[fV.mF];omega
 have EU:=(p.I.r).N _ hY;have Yx:∀t,(fV.iI r=.go t\/fV.iI r=.lF t\/fV.iI r=.rd t\/fV.iI r=.iE t)->t<=F.n:=λt h=>by rcases h with h|h|h|h<;>cases h
 have Yy:∀t,(fV.iI r=.lF t\/fV.iI r=.rd t\/fV.iI r=.iE t)->1<=t:=λt h=>by rcases h with h|h|h<;>cases h
 have Yz:∀K,(fV.iI r=.iI K->K<=F.q)/\(fV.iI r=.kX K->K<=F.n):=λK=>⟨λh=>(by cases h;omega),λh=>(by cases h)⟩;have aM:=p.C.S (λv q=>by rw[D]at q;cases q) (λq=>by rw[D]at q;cases q);by_cases hp:∃(k:Nat) (x:Ä),b[k]?=Ã x/\yF (E.I c) É x
 .obtain⟨k,gj,EA,mG⟩:=hp;obtain⟨t,oR,he,rfl,Bb,K,Bc⟩:=p.Ys EA mG;have ej:=p.C.M _ _ oR V Bb;subst ej;have hb:=mG.1;obtain⟨K8,K7⟩:=p.g t oR he;rw[Bc]at K8 K7;have aif:S (F.L+1+t)=w7 F.P (F.L+1+t==0) (E.I t) F.z λx=>match x with
   |some v=>λl g=>v=F.c (t+K*F.n)->qW F.P É F.B (F.I<|F.r<|t+K*F.n) (F.e (E.I t)<|t+K*F.n) .iX l g
   |none=>AO F:=by rw[yR H.C t];exact K8
  have lr:F.L+1+t≠0:=Z
  have Qd:a (F.L+1+t)=.fy:=by obtain⟨g0,_,i,e,h4⟩:=p.I.C _ gj EA;refine h4.resolve_left λq=> ?_;subst q;rw[hb]at e;rcases e with q|q<;>cases q
  have QF:X=#[]:=by
   rcases p.c _ gj EA hb with⟨h1,_⟩|⟨C,_,_,h2,⟨G,W,_⟩|⟨G,cap,i,e,W,h4⟩⟩
   .exact absurd h1 lr
   .have:C=t:=Z
    subst this;rw[Bc]at W;cases W
   .have:C=t:=Z
    subst this;rw[hc]at h4;injection h4 with h4;injection h4
  subst QF;rw[Bc]at hc LB yS;simp only[gO.iM]at hc LB yS;have hsr:s=K:=by simp at yS;omega
  subst hsr;obtain⟨m,u,T,Tj,g',gj',q1,q2,q3,q4,q5,q6,q7,q8,q9⟩:=p.I.agL hi hk ht hs hY hc lr EA hb K7 Qd aif (kW F (E.I t)<|.fx s .iX) (λI O M e i=>by obtain⟨j3,a1,_,a3,y,_⟩:=p.Ys e i;have:=p.C.M _ _ a1 V y;omega);have YA:=q9.kN (J:=JW F (E.I t) t<|.fx s .iX) (λl g h=>by rw[fG _ _ lr,gC]at h;exact h<|by rw[eQ]);have e10:fw (fw (fw S (F.L+1+t) ((match(Ã (F.c Q):Option è)with
   |some v=>λl g=>v=F.c (t+s*F.n)->qW F.P É F.B (F.I<|F.r<|t+s*F.n) (F.e (E.I t)<|t+s*F.n) .iX l g
   |none=>AO F))) 0 (Hs F E.I r)) (F.L+1+t) (JW F (E.I t) t (.fx s .iX))=fw (fw S (F.L+1+t) (JW F (E.I t) t (.fx s .iX))) 0 (JM F E.I (.iI r)):=by
   funext k;by_cases v:k=F.L+1+t
   .subst v;rw[gC,fG _ _ lr,gC]
   .by_cases k2:k=0
    .subst k2;rw[fG _ _<|ÿ lr,gC,gC];rfl
    .rw[fG _ _ v,fG _ _ k2,fG _ _ v,fG _ _ k2,fG _ _ v]
  rw[e10]at YA;have Pw:=p.C.G (x:=.fx s .iX) V he (λk=>by rw[Bc,Qy U];rfl) (λG h=>by rcases h with⟨_,h⟩|h|h<;>cases h;exact Z) (λG h=>by rcases h with h|h|h<;>cases h) (λG h=>by cases h) (λG h=>by cases h);have l:iW (gP E t<|.fx s .iX) (.iI r) E.I:=⟨by show _=E.M.sp F.n;rw[D];rfl,λ_ _=>rfl⟩;have e:(iy (gP E t<|.fx s .iX) (.iI r) E.b E.I).r=E.r:=l.r;obtain⟨z1,z2,z3,z4,z5⟩:=p.M.G H p.a p.C V;refine⟨iy (gP E t<|.fx s .iX) (.iI r) E.b E.I,_,_,_,_,m,_,u,q1,q2,(λh=>by have h:=h;cases h),.r ((p.N.N H.C V he).iy H.C l) (by rw[e];exact q2.trans p.b) (by rw[A7 l];exact YA) ?_ ⟨z4,z5,λC xh=> ?_,z1,z2,λC xh G AG h1=> ?_⟩ (Pw.r l (by show E.M.jf F.n<=_;rw[D];exact ò _) (by show _=E.M.ad F.n;rw[D];rfl) (by show _=E.M.gB;rw[D];rfl) Yx Yy Yz (λh=>by rcases h with h|h|h<;>cases h) (λh=>by cases h) λ_ _=>aM) (by rw[e];exact Lu p.d q8) (λk y M lk=> ?_) λC G a1 a2 a3=> ?_,?_⟩
  .rw[q2];exact(((p.a.r<|by rw[Bc];rfl).G l).ER<|Õ HN.symm)
  .have zd:C+2<=E.r:=Z
   show∃X I,(w.setChan (E.I t) _ _ _ _ _ _).heap[E.I C]?=Ã (.chan F.q X (decide<|C<(fV.iI r).jf F.n) I ((gP E t<|.fx s .iX).C C).iM É)/\tY F.n C ((fV.iI r).mF F.q) I/\((gP E t<|.fx s .iX).C C).iM<=I/\X.size=I-((gP E t<|.fx s .iX).C C).iM/\∀i,i<I-((gP E t<|.fx s .iX).C C).iM->X[i]?=Ã (F.c<|C+(((gP E t<|.fx s .iX).C C).iM+i)*F.n);rw[Yw];by_cases O:C=t
   .subst O;rw[jN];refine⟨#[],s+1,by rw[Lt EU];rfl,Yu ui hn hj,Æ _,by simp[gO.iM],λi lz=> ?_⟩;have hi2:i<s+1-(s+1):=lz;omega
   .rw[iN _ O,qa λq=>O<|p.C.M _ _ zd V q];obtain⟨QV,I,y1,y2,y3⟩:=p.M.jI C zd;rw[HO]at y2;refine⟨QV,I,?_,Yv y2 Z Z,y3⟩;rw[y1,D];rfl
  .have zd:C+2<=E.r:=Z
   have A5:G<((gP E t<|.fx s .iX).C C).kD:=h1;by_cases O:C=t
   .subst O;rw[jN]at A5;exact z3 C zd G AG<|by rw[Bc];exact A5
   .rw[iN _ O]at A5;exact z3 C zd G AG A5
  .by_cases v:k=0
   .subst v;rw[q3]at M;obtain rfl:=È M;rw[q4]at lk;cases lk
   .by_cases k2:k=F.L+1+t
    .subst k2;rw[q5]at M;obtain rfl:=È M;rw[q6]at lk;cases lk
    .rw[q7 k v k2]at M;rcases p.c k y M lk with⟨h1,_⟩|⟨C,xh,yW,h2,W|⟨r1,cap,s1,K,W,h4⟩⟩
     .exact absurd h1 v
     .exact Á ⟨C,Z,yW,h2,À (by show∃G,(gP E t _).C C=_/\_;rw[iN _ Z];exact W)⟩
     .have O:C≠t:=Z
      exact Á ⟨C,Z,yW,h2,Á ⟨r1,cap,s1,K,by show(gP E t _).C C=_;rw[iN _ O];exact W,by show(w.setChan (E.I t) _ _ _ _ _ _).heap[E.I C]?=_;rw[qa λq=>O<|p.C.M _ _ xh V q];exact h4⟩⟩
  .have AW:(gP E t<|.fx s .iX).C C=.jK G:=a2;rw[iN _ (λe=>by subst e;rw[jN]at AW;cases AW)]at AW;exact(p.f C G Z AW a3).app u
  .refine À ⟨0,by unfold Ph.N;omega,À ?_,λk uk ze=> ?_⟩
   .show((iy (gP E t<|.fx s .iX) (.iI r) E.b E.I).iR _ 0).1<(E.iR a 0).1;rw[EG,EG,D];show(fV.iI r).rk F<(fV.iI<|r+1).rk F;simp only[fV.rk];omega
   .show(iy (gP E t<|.fx s .iX) (.iI r) E.b E.I).iR _ k=E.iR a k\/yM ((iy (gP E t<|.fx s .iX) (.iI r) E.b E.I).iR _ k) (E.iR a k);by_cases k2:k=F.L+1+t
    .subst k2;refine Á<|À ?_;rw[ua H.C (E:=iy (gP E t<|.fx s .iX) (.iI r) E.b E.I) (show E.N (t+1)=Í from he),ua H.C he];show((gP E t<|.fx s .iX).C t).rk F<(E.C t).rk F;rw[jN,Bc];simp only[gO.rk,jv.rk];have hm:F.n+3000<=(F.n+3000)*(F.q+3-s):=ã _ Z;omega
    .refine À (yN (λh=>absurd h ze) (λ_ _=>rfl) (λ_=>rfl) (λ_ _=>rfl) (λh1 _=> ?_)<|by rw[fG _ _ ze,fG _ _ k2]);show((gP E t<|.fx s .iX).C _).rk F=_;rw[iN _ Z]
 .obtain⟨m,u,T,g',q1,q2,q3,q4,q5,q6,q7⟩:=p.I.iI hi hk ht hs hY hc Z λk x hkx mG=>hp ⟨k,x,hkx,mG⟩;have e0:d=fw d 0 (kM<|.iI r):=by
   funext k;by_cases v:k=0
   .subst v;rw[gC,hk];rfl
   .rw[fG _ _ v]
  rw[e0]at q7;have l:iW E (.iI r) E.I:=mQ (by rw[D];rfl);have e:(iy E (.iI r) E.b E.I).r=E.r:=l.r;obtain⟨z1,z2,z3,z4,z5⟩:=p.M.G H p.a p.C V;refine⟨iy E (.iI r) E.b E.I,_,_,_,_,m,_,u,q1,q2,(λh=>by have h:=h;cases h),.r (p.N.iy H.C l) (by rw[e];exact q2.trans p.b) (by rw[A7 l];exact q7) ?_ ⟨z4,z5,λC xh=> ?_,z1,z2,λC xh=>z3 C Z⟩ (p.C.r l (by rw[D];exact ò _) (by rw[D];rfl) (by rw[D];rfl) Yx Yy Yz (λh=>by rcases h with h|h|h<;>cases h) (λh=>by cases h) λ_ _=>aM) (by rw[e];exact Lu p.d q6) (λk y M lk=> ?_) λC G a1 a2 a3=>(p.f C G Z a2 a3).app u,rS<|by rw[D];simp only[fV.rk];omega⟩
  .rw[q2];exact((p.a.G l).ER<|Õ HN.symm)
  .have zd:C+2<=E.r:=Z
   show∃X I,(w.setChan (E.I c) _ _ _ _ _ _).heap[E.I C]?=Ã (.chan F.q X (decide<|C<(fV.iI r).jf F.n) I (E.C C).iM É)/\tY F.n C ((fV.iI r).mF F.q) I/\(E.C C).iM<=I/\X.size=I-(E.C C).iM/\∀i,i<I-(E.C C).iM->X[i]?=Ã (F.c<|C+((E.C C).iM+i)*F.n);rw[Yw];by_cases O:C=c
   .subst O;refine⟨X.push<|F.c Q,s+1,by rw[Lt EU];rfl,Yu ui hn hj,Z,by rw[Array.size_push];omega,λi lz=> ?_⟩;rw[Array.getElem?_push];by_cases G:i=X.size
    .rw[if_pos G,eQ,show(E.C C).iM+i=s by omega]
    .rw[if_neg G];exact yT i Z
   .rw[qa λq=>O<|p.C.M _ _ zd V q];obtain⟨QV,I,y1,y2,y3⟩:=p.M.jI C zd;rw[HO]at y2;refine⟨QV,I,?_,Yv y2 Z Z,y3⟩;rw[y1,D];rfl
  .by_cases v:k=0
   .subst v;rw[q3]at M;obtain rfl:=È M;rw[q4]at lk;cases lk
   .rw[q5 k v]at M;rcases p.c k y M lk with⟨h1,_⟩|⟨C,xh,yW,h2,W|⟨r1,cap,s1,K,W,h4⟩⟩
    .exact absurd h1 v
    .exact Á ⟨C,Z,yW,h2,À W⟩
    .have O:C≠c:=λe=>by
      subst e;have G:=(p.g C xh yW).2;rw[W,<-h2]at G;obtain⟨g0,i⟩:=p.I.Yr M lk G;exact hp ⟨k,y,M,by rw[i];exact aia⟩
     exact Á ⟨C,Z,yW,h2,Á ⟨r1,cap,s1,K,W,by show(w.setChan (E.I c) _ _ _ _ _ _).heap[E.I C]?=_;rw[qa λq=>O<|p.C.M _ _ xh V q];exact h4⟩⟩
end
section
variable{F:Ph}{E B:fT F}{S:Nat->Jd}{m D:Nat->gq}{o:Nat->iz}{G:Nat->e9}{c d:Array Ä}{u:ä}{sl:Option (Nat×Nat)}
theorem PI.aii(H:gS F)(p:PI F n zX E S m o G c w qJ)(hi:c[0]?=Ã g)(ht:m 0=.fy)(l:E.M=.kX (J+1)):j5 F n zX E m c w qJ sl 0:=by
 have C:=p.I.r;have hL:=H.C.r;have Qe:=(p.C.L<|J+1).2 l;have oP:E.r=F.n+1:=by unfold fT.r;rw[l];rfl
 obtain⟨L,Q⟩:=p.h;rw[l]at L Q;obtain⟨j,hj⟩:∃j,j=F.n-(J+1):=⟨_,U⟩;have L:S 0=K3 F.P (0==0) (E.I j) (AP F E.I J):=by rw[L,hj];rfl
 have z:j+2<=E.r:=Z
 have X:E.Y (E.I j):=Á<|Á ⟨j,z,U⟩;obtain⟨M,s,hc,ui,LB,yS,yT⟩:=p.M.jI j z;have p7:decide (j<E.M.jf F.n)=É:=by rw[l];simp only[fV.jf];exact decide_eq_false Z
 rw[p7]at hc;have EU:=C.N _ X;have AU:(w.setChan (E.I j) F.q M Î s (E.C j).iM É).heap[E.I j]?=Ã (.chan F.q M Î s (E.C j).iM É):=Lt EU;have aM:=p.C.S (λv q=>by rw[l]at q;cases q) (λq=>by rw[l]at q;cases q);obtain⟨d,u,T,g',q1,V,q3,q4,q5,q6,q7,q8,q9⟩:=p.I.kX hi Q ht L X (p.C.o j z).2.2 hc;have e0:o=fw o 0 (kM<|.kX J):=by
  funext k;by_cases B:k=0
  .subst B;rw[gC,Q];rfl
  .rw[fG _ _ B]
 rw[e0]at q9;have v:iW E (.kX J) E.I:=mQ (by rw[l];rfl);have e:(iy E (.kX J) E.b E.I).r=E.r:=v.r;obtain⟨z1,z2,z3,z4,z5⟩:=p.M.G H p.a p.C z;have EN:=p.d.C ⟨λD I a _=>q6 D I,À U,λD I a x ha hl _=> ?_,λD I a y ha _ hl=> ?_,λD I b _=>q8 D I _,λx _ _=>⟨λJ hr=>hr.appOther q6 Z,λe=>by omega⟩⟩;refine⟨iy E (.kX J) E.b E.I,_,_,_,_,d,_,u,q1,V,(λh=>by have h:=h;cases h),.r (p.N.iy H.C v) (by rw[e];exact V.trans p.b) (by rwa[A7 v]) ?_ ⟨z4,z5,λf N=> ?_,z1,z2,λf N=>z3 f Z⟩ (p.C.r v (by rw[l];simp only[fV.jf];omega) (by rw[l];rfl) (by rw[l];rfl) (λi h=> ?_) (λi h=> ?_) (λr'=>⟨λh=>(by cases h),λh=> ?_⟩) (λh=>by rcases h with h|h|h<;>cases h) (λh=>by cases h) λ_ _=>aM) (by rwa[e]) (λk y tX lk=> ?_) λf i W t K=>(p.f f i Z t K).app u,rS<|by rw[l];simp only[fV.rk];omega⟩
 .rw[V];exact((p.a.C<|Õ HN.symm).G v)
 .have W:f+2<=E.r:=Z
  show∃K t,(w.setChan (E.I j) F.q M Î s (E.C j).iM É).heap[E.I f]?=Ã (.chan F.q K (decide<|f<(fV.kX J).jf F.n) t (E.C f).iM É)/\tY F.n f ((fV.kX J).mF F.q) t/\(E.C f).iM<=t/\K.size=t-(E.C f).iM/\∀i,i<t-(E.C f).iM->K[i]?=Ã (F.c<|f+((E.C f).iM+i)*F.n);have aij:(fV.kX J).mF F.q=E.M.mF F.q:=by rw[l];rfl
  rw[aij];by_cases O:f=j
  .subst O;refine⟨M,s,?_,ui,LB,yS,yT⟩;rw[AU,show decide (f<(fV.kX J).jf F.n)=Î from decide_eq_true (by simp only[fV.jf];omega)]
  .rw[qa λq=>O<|p.C.M _ _ W z q];obtain⟨K,t,y1,y2⟩:=p.M.jI f W;refine⟨K,t,?_,y2⟩;rw[y1,l];have:decide (f<(fV.kX<|J+1).jf F.n)=decide (f<(fV.kX J).jf F.n):=by
    apply decide_eq_decide.2;simp only[fV.jf];omega
   rw[this]
 .grind
 .grind
 .cases h;omega
 .by_cases B:k=0
  .grind
  .obtain⟨h,t⟩:∃h,c[k]?=Ã h:=by
    grind
   rw[q5 k h B t]at tX;obtain rfl:=È tX;obtain⟨_,QW⟩:=aic lk;rcases p.c k h t QW with⟨h1,_⟩|⟨f,N,K,W,i|⟨r1,cap,s1,r',i,h4⟩⟩
   .exact absurd h1 B
   .exact Á ⟨f,Z,K,W,À i⟩
   .have O:f≠j:=λe=>by
     subst e;have LC:=(p.g f N K).2;rw[i,<-W]at LC;obtain⟨g0,vx⟩:=p.I.Yr t QW LC;grind [aib]
    exact Á ⟨f,Z,K,W,Á ⟨r1,cap,s1,r',i,by show(w.setChan (E.I j) _ _ _ _ _ _).heap[E.I f]?=_;rwa[qa λq=>O<|p.C.M _ _ N z q]⟩⟩
 .grind
 .grind
def LD(F:Ph)(zX:ψ->Prop)(qJ:ä):Prop:=
 (∀p a,touchAt qJ p=Ã a->a.loc.isMemory=Î->Υ qJ 0 p\/((zX a.loc\/∃x:Č,a.loc=ü x/\x.block=F.C)/\a.kind=.atomic))/\qJ.HandedOver
def QX{f:Nat->Nat}:∀{n:Nat},Ñ n f=0->∀i,i<n->f i=0
 |n+1,h,i,hi=>by
  simp only[Ñ]at h;rcases Ģ i n with q|q
  .exact QX Z i q
  .have:i=n:=Z
   subst this;omega
theorem PI.aik(H:gS F)(p:PI F n zX E S m o G c w qJ)(r:c[0]?=Ã g)(K:g.status=Å)(L:m 0=.fy)(f:E.M=.fx .lj): ∃(B:fT F) (b:Nat->Jd) (D:Nat->gq) (j:Nat->iz) (h:Nat->e9) (d:Array Ä) (W:Ð) (u:ä),ř F.P (ð c w sl) 0=(ĝ<|ð d W sl,u)/\d.size=c.size/\PI F n zX B b D j h d W (qJ++u)/\B.M=.fZ/\LD F zX (qJ++u):=by
 have v:=iO r;have C:=p.s7 r K L w<|p.I.r.r _ v;rw[f]at C;let⟨M,_,g',s,q⟩:=C;have O:=(p.I.r.f _ v).trans M;have t:∀y:Ă,y.act=ę (Ĺ<|fL F.C)->y.act.touch?=Í:=λy i=>by rw[i];rfl
 have oP:E.r=F.n+1:=by unfold fT.r;rw[f];rfl
 have a:iW E .fZ E.I:=mQ (by rw[f];rfl);have e:(iy E .fZ E.b E.I).r=E.r:=a.r;let⟨T,Q⟩:=jl q;have V:=lG (λl g h=>À<|H.M _ _ _ h) q;obtain⟨d,y,X,I,Y,J,q3,q4,q5,q7⟩:=p.AX H (kM .fZ) r (s w) fi fi (λy i=>⟨λz l=>(by rw[t y i]at l;cases l),by rw[i];exact p.I.r.N _<|À nF⟩) (λy _ i=>AH p.I.r.l λk j=>by rw[xg j];exact t y i) Q V;have EN:=p.d.C (yL (λk j=>by rw[xg j];exact t y I) λk j b _ e=>by grind);have l:=p.C.B<|Á<|À f;refine⟨iy E .fZ E.b E.I,_,_,_,_,d,w,_,Y,J,.r (p.N.iy H.C a) (by rw[e];exact J.trans p.b) (by rwa[A7 a]) (q7.G a) (Wd.r p.M a (by rw[f];rfl)<|by rw[f];rfl) (p.C.r a (by rw[f];exact Æ _) (by rw[f];rfl) (by rw[f];rfl) (λb h=> ?_) (λb h=> ?_) (λb=>⟨λh=>(by cases h),λh=>(by cases h)⟩) (λ_=>l) (λh=>by cases h) λ_ h=>absurd rfl h) (by rwa[e]) ?_ λb j N h k=>(p.f b j Z h k).app _,U,p.d.kX X I O λx um=> ?_⟩
 .grind
 .grind
 .intro k z b hb;by_cases N:k=0
  .grind
  .rw[q4 k N]at b;obtain⟨z',H2,rfl⟩:=Ú.1 b;let⟨_,hzb⟩:=Hv hb;rcases p.c k z' H2 hzb with⟨s,_⟩|⟨j,hj,h,q,h3⟩
   .exact absurd s N
   .exact Á ⟨j,Z,h,q,h3⟩
 .have b:=QX l x Z;have k:E.M.ad F.n=F.n+1:=by rw[f];rfl
  unfold fT.G at b;rw[k,if_pos Z]at b;cases h:E.N x with
  |none=>rw[h]at b;cases b
  |some j=>
   rw[h]at b;refine⟨j,h,?_⟩;cases j with
   |oQ=>cases b
   |fZ N=>cases N with
    |jF=>cases b
    |_=>trivial
   |ju N=>trivial
end
section
variable{D:Nat->Prop}{S:Nat->Jd}{G:Nat->gq}{I:Nat->iz}{o:Nat->e9}{f:Array Ä}{sl:Option (Nat×Nat)}
def YB{y:Ă}(b:wQ.act=ae k)(c:y.act=ĳ):xb #[wQ,y]:=by
 intro d a;simp at a;rcases a with rfl|rfl
 .rw[b];exact⟨U,fi⟩
 .rw[c];exact⟨U,fi⟩
theorem iQ.Hq(h:iQ i (λf=>f<n) X o w qJ){v:e9}{y:Ă}(F:0<n)(P:wQ.g=0/\wQ.act=ae n)(Q:y.g=n/\y.act=ĳ)(oT:σ qJ 0=0)(Bb:σ qJ n=0)(V:∀b,¬v.O b)(W:∀b,v.I b->(o 0).I b) (J:∀a,v.r a->X a.block/\(∀k,k<n->¬(o k).C a)/\qT qJ 0 (ü a)) (H:∀a,v.N a->(o 0).N a) (lK:∀a,v.K a->(o 0).K a) (lKO:∀k,k<n->∀a,(o k).K a->¬v.r a) (ld:v.d=0) (lw:v.w=w) (Y:∀b,X b->D b) (YC:∀b,D b->X b\/(b<w.heap.size/\∀f,f<n->¬(o f).M b)):iQ i (λf=>f<n+1) D (gp o n v) w (qJ++#[wQ,y]):=by
 have L:=YB P.2 Q.2;have B:∀f,f<n+1->f=n\/f<n:=λf t=>by omega
 have G:gp o n v n=v:=gU _ _ _;have E:∀f,f<n->gp o n v f=o f:=λf t=>gF o _ Z;have N:∀b,v.M b->(o 0).I b:=λb s=>s.elim (λq=>absurd q (V b)) (W b);have ail:=λf t b s OQ=>(YC b OQ).elim (h.I f t b s) (λq=>q.2 f t s);refine⟨λf j t S T b s=> ?_,λf j t S T a r=> ?_,λf t b s=> ?_,λf t a r=> ?_,λf t b s=> ?_,λf t a r=> ?_,λf t b s=> ?_,λb s=> ?_,λf t=> ?_,λf t=> ?_,λf t=> ?_,AH h.l λu z=>(L u z).1,λu z=> ?_,λp a c r hl hk=> ?_,λf t a r=> ?_⟩
 .rcases B f t with rfl|m
  .grind
  .rw[E f m]at s;rcases B j S with rfl|I
   .rw[G];intro q;by_cases e:f=0
    .subst e;exact h.m _ m b s (N b q)
    .exact h.o f 0 m F e b s (Á (N b q))
   .rw[E j I];exact h.o f j m I T b s
 .rcases B f t with rfl|m
  .grind
  .rw[E f m]at r;rcases B j S with rfl|I
   .rw[G];rintro(q|q)
    .exact(J a q).2.1 f m (À r)
    .by_cases e:f=0
     .subst e;exact h.g _ m a r (H a q)
     .exact h.h f 0 m F e a r (Á (H a q))
   .rw[E j I];exact h.h f j m I T a r
 .rcases B f t with rfl|m
  .grind
  .rw[E f m]at s|-;exact h.m f m b s
 .rcases B f t with rfl|m
  .rw[G]at r|-;exact λq=>(J a r).2.1 0 F (Á (H a q))
  .rw[E f m]at r|-;exact h.g f m a r
 .rcases B f t with rfl|m
  .rw[G]at s;exact ail 0 F b (Á (N b s))
  .grind
 .rcases B f t with rfl|m
  .rw[G]at r;exact Y _ (r.elim (λq=>(J a q).1) (λq=>h.e 0 F a (Á (H a q))))
  .rw[E f m]at r;exact Y _ (h.e f m a r)
 .rcases B f t with rfl|m
  .rw[G]at s;exact h.fv 0 F b (Á (N b s))
  .rw[E f m]at s;exact h.fv f m b s
 .exact(YC b s).elim (h.N b) (λq=>q.1)
 .rcases B f t with rfl|m
  .rw[G,lw];exact fF.fU _ _
  .rw[E f m];exact h.r f m
 .rcases B f t with rfl|m
  .rw[G];have e:=λl=>agU P Q oT Bb (l:=l);exact⟨λa r=>absurd r (V _),λa r=>(e _).2 ((h.S 0 F).rd a (W _ r)),λa r=>(e _).1 (J a r).2.2,λa r=>(e _).2 ((h.S 0 F).r a (H _ r))⟩
  .rw[E f m];have e:∀u∈#[wQ,y],∀b,u.act.touch?=Ã b->False:=λu z b s=>by rw[(L u z).1]at s;cases s
   exact⟨λa r=>((h.S f m).fj a r).C λu z b s _=>(e u z b s).elim,λa r=>((h.S f m).rd a r).r λu z b s _ _=>(e u z b s).elim,λa r=>((h.S f m).C a r).C λu z b s _=>(e u z b s).elim,λa r=>((h.S f m).r a r).r λu z b s _ _=>(e u z b s).elim⟩
 .rw[K5 L];rcases B f t with rfl|m
  .grind
  .rw[E f m];exact h.f f m
 .refine(Array.mem_append.1 z).elim (h.q u) λq=> ?_;simp at q;rcases q with rfl|rfl
  .rw[P.2];trivial
  .rw[Q.2];trivial
 .rcases mS r with⟨_,e⟩|⟨_,u,e,q,_⟩
  .exact h.s p a c e hl hk
  .rw[(L u e).1]at q;cases q
 .obtain⟨e,m,q⟩:∃e,e<n/\(o e).K a:=by
   grind
  let⟨I,z2⟩:=h.n e m a q;grind
theorem gN.Hq(p:gN P i X S G I o f w qJ){c b:Ä}{J q:Jd}{T r:gq}{K Kc:iz}{m n:e9}(s:f[0]?=Ã g)(L:é P Î g w=.spawn c b w #[]) (V:∀x y:Ă,(x.g=0/\x.act=ae f.size)->(y.g=f.size/\y.act=ĳ)->iQ i (λa=>a<f.size+1) D (gp (gp o 0 m) f.size n) w (qJ++#[x,y])) (hF:lh P Î J T m c) (M:c.status=Å) (N:lh P É q r n b) (O:b.status=Å): ∃d x y,(x.g=0/\x.act=ae f.size)/\(y.g=f.size/\y.act=ĳ)/\ř P (ð f w sl) 0=(ĝ<|ð d w sl,#[x,y])/\d.size=f.size+1/\d[0]?=Ã c/\d[f.size]?=Ã b/\(∀k,k≠0->k<f.size->d[k]?=f[k]?)/\ gN P i D (fw (fw S 0 J) f.size q) (fw (fw G 0 T) f.size r) (fw (fw I 0 K) f.size Kc) (gp (gp o 0 m) f.size n) d w (qJ++#[x,y]):=by
 have W:=(Ö.1 s).1;have t:=runT_crowd_spawn (sl:=sl) s L;obtain⟨x,u⟩:∃x:Ă,x={g:=0,fn:=g.frame.fn,pos:=g.frame.place,act:=ae f.size}:=⟨_,U⟩;obtain⟨y,v⟩:∃y:Ă,y={g:=f.size,fn:=b.frame.fn,pos:=g.frame.place,act:=ĳ}:=⟨_,U⟩;have e:((Ü 0 g.frame.fn g.frame.place #[]).push {g:=0,fn:=g.frame.fn,pos:=g.frame.place,act:=ae f.size}).push {g:=f.size,fn:=b.frame.fn,pos:=g.frame.place,act:=ĳ}=#[x,y]:=by rw[u,v];simp[Ü]
 rw[e]at t;have B:x.g=0/\x.act=ae f.size:=by rw[u];exact⟨U,U⟩
 have C:y.g=f.size/\y.act=ĳ:=by rw[v];exact⟨U,U⟩
 have E:((f.setIfInBounds 0 c).push b)[0]?=Ã c:=by grind
 have F:((f.setIfInBounds 0 c).push b)[f.size]?=Ã b:=by grind
 have H:∀k,k≠0->k<f.size->((f.setIfInBounds 0 c).push b)[k]?=f[k]?:=λk Y h2=>by grind
 refine⟨_,x,y,B,C,t,fi,E,F,H,?_,λk z d=> ?_,λj Q=> ?_⟩
 .simp_all
 .have HM:k<f.size+1:=by have:=(Ö.1 d).1;simpa using this
  by_cases l:k=f.size
  .subst l;rw[F]at d;obtain rfl:=È d;rw[gC,gC,gC,gU,show(f.size==0)=É from beq_eq_false_iff_ne.2 Z];exact⟨b,N,.gi,À O,À U⟩
  .rw[fG _ _ l,fG _ _ l,fG _ _ l,gF _ _ l];by_cases h:k=0
   .subst h;rw[E]at d;obtain rfl:=È d;rw[gC,gC,gC,gU];exact⟨c,hF,.gi,À M,À U⟩
   .rw[H k h Z]at d;rw[fG _ _ h,fG _ _ h,fG _ _ h,gF _ _ h];exact p.C k z d
 .rw[K5<|YB B.2 C.2];exact p.I j<|by simp at Q;omega
end
section
variable{F:Ph}{E N:fT F}{S:Nat->Jd}{G Q:Nat->gq}{I:Nat->iz}{o:Nat->e9}{f B:Array Ä}{u:ä}{sl:Option (Nat×Nat)}
theorem ain(ok:F.Ok)(h:i≠n)(c:lW F i a)(d:lW F n a):False:=by
 have q:∀{i n:Nat},i=0->n≠0->lW F i a->lW F n a->False:=by
  intro i n g j c d;unfold lW at c d;rw[if_pos g]at c;rw[if_neg j]at d;let⟨k,o,m,e⟩:=c;let⟨b,l,p,f⟩:=d;rcases e with e|e
  .rw[f]at e;have:F.Y=F.I k:=by injection e
   exact ok.C<|Á ⟨k,m,this⟩
  .rw[f]at e;exact ok.Qo b k l o m<|by injection e
 by_cases g:i=0
 .grind
 .by_cases j:n=0
  .grind
  .unfold lW at c d;rw[if_neg g]at c;rw[if_neg j]at d;let⟨b,l,p,f⟩:=c;let⟨m,k,o,e⟩:=d;rw[f]at e;have:=ok.a _ _ l k (by injection e);subst this;omega
theorem aio(ok:F.Ok)(h:lW F i a):(∃k,k<=F.m/\a=jg F.toFx k)\/∃p,p≠F.f/\a=jo F p:=by
 unfold lW at h;by_cases b:i=0
 .rw[if_pos b]at h;obtain⟨k,d,e,c|c⟩:=h
  .grind
  .exact Á ⟨_,ok.Y.1 k d e,c⟩
 .rw[if_neg b]at h;let⟨k,c,_,d⟩:=h;exact Á ⟨_,ok.Y.2 k c,d⟩
def vy(F:Ph)(j:Nat):fV:=if j<F.n then .iE (j+1)else .iI F.q
def zf(E:fT F)(j:Nat):fT F:={E with M:=vy F j}
def PI.aip(H:gS F)(p:PI F j zX E S G I o f w qJ)(hi:f[0]?=Ã g)(iH:g.status=Å)(ht:G 0=.fy)(hx:E.M=.go m): ∃(N:fT F) (c:Nat->Jd) (Q:Nat->gq) (r:Nat->iz) (s:Nat->e9) (B:Array Ä) (W:Ð) (u:ä),ř F.P (ð f w sl) 0=(ĝ<|ð B W sl,u)/\B.size=f.size+1/\N.M≠ .fZ/\PI F j zX N c Q r s B W (qJ++u):=by
 have gI:=iO hi;have C:=p.I.r;have L:=p.a;have hL1:=H.C.r;have hn:=H.C.N;have vw:=p.C.C m<|À hx;have oP:E.r=m:=by unfold fT.r;rw[hx];rfl
 have ji:f.size=F.L+m:=by rw[p.b,oP]
 have hJ:=p.s7 hi iH ht w<|C.r _ gI;rw[hx]at hJ;obtain⟨hd,g',child,X,YD,AG,EP,hX,Bd,aiq,air⟩:=H.go m E.I _ g vw hJ<|C.M gI;have hd:=hd;have hX:=hX;have Bd:=Bd;have oT:=(C.f _ gI).trans hd;have Bb:=p.I.I _<|Æ _;have nq:=L.M 0<|À U;obtain⟨m',uo⟩:∃m',m'=vy F m:=⟨_,U⟩;have uq:(m<F.n/\m'=.iE (m+1))\/(m=F.n/\m'=.iI F.q):=by
  rw[uo];unfold vy;by_cases q:m<F.n
  .exact À ⟨q,if_pos q⟩
  .exact Á ⟨Z,if_neg q⟩
 have auK:m'.sp F.n=m+1:=by rcases uq with⟨_,rfl⟩|⟨q,rfl⟩<;>simp only[fV.sp];omega
 have ais:m'.ad F.n=m+1:=by rcases uq with⟨_,rfl⟩|⟨q,rfl⟩<;>simp only[fV.ad];omega
 have QY:m'.mF F.q=0:=by rcases uq with⟨_,rfl⟩|⟨q,rfl⟩<;>simp[fV.mF]
 have hmh:m'.jf F.n=0:=by rcases uq with⟨_,rfl⟩|⟨q,rfl⟩<;>rfl
 have hmr:m'.gB=0:=by rcases uq with⟨_,rfl⟩|⟨q,rfl⟩<;>rfl
 have H4:(∀v,m'≠ .fx v)/\m'≠ .fZ:=by rcases uq with⟨_,rfl⟩|⟨q,rfl⟩<;>exact⟨λv h=>(by cases h),λh=>(by cases h)⟩
 have hkM:kM m'=.no:=by rcases uq with⟨_,rfl⟩|⟨q,rfl⟩<;>rfl
 obtain⟨l0,mH⟩:∃l0:e9,l0={o 0 with O:=λb=>(o 0).O b/\¬X b/\(1<=m->b≠E.I (m-1)),I:=λb=>X b\/(o 0).I b,r:=λa=>(o 0).r a/\¬lW F m a,w:=w}:=⟨_,U⟩;obtain⟨lc,kx⟩:∃lc:e9,lc={O:=λ_=>False,I:=λb=>X b\/(o 0).I b,r:=lW F m,N:=(o 0).N,K:=(o 0).K,d:=0,q:=False,w:=w}:=⟨_,U⟩;have EZ:iQ F.S (λi=>i<f.size) E.Y (gp o 0 l0) w qJ:=by
  rw[mH];refine C.C gI (λ_ q=>q.1) (λb q=>À<|q.elim (λz=>À<|hX b z) Á) (λ_ q=>q.1) (λa q=>À<|Á q) U U U (λb hb q=> ?_) λa J q=>C.g _ gI a J.1 q;rcases q with q|q
  .exact hb.2.1 q
  .exact C.m _ gI b hb.1 q
 have z0:gp o 0 l0 0=l0:=gU _ _ _;have Be:=L.o m Z vw;have nG:(zf E m).r=m+1:=by show(vy F m).sp F.n=_;rwa[<-uo]
 have YE:∀b,(zf E m).Y b->E.Y b\/(1<=m/\b=E.I (m-1)):=λb hb=>by
  rcases hb with q|q|⟨l,t,D⟩
  .exact À<|À q
  .exact À<|Á<|À q
  .rw[nG]at t;by_cases e:l+1=m
   .exact Á ⟨Z,by rw[D,show l=m-1 by omega];rfl⟩
   .exact À<|Á<|Á ⟨l,Z,D⟩
 have QZ:∀x y:Ă,(x.g=0/\x.act=ae f.size)->(y.g=f.size/\y.act=ĳ)->iQ F.S (λi=>i<f.size+1) (zf E m).Y (gp (gp o 0 l0) f.size lc) w (qJ++#[x,y]):=λx y LF LG=>by
  refine EZ.Hq gI LF LG oT Bb (by rw[kx];exact λb q=>q) (by rw[z0,kx,mH];exact λb q=>q) (λa J=> ?_) (by rw[z0,kx,mH];exact λb q=>q) (by rw[z0,kx,mH];exact λb q=>q) (λk hk a J q=> ?_) (by rw[kx]) (by rw[kx]) (λb hb=> ?_) λb hb=> ?_
  .have r:lW F m a:=by rwa[kx]at J
   have c:=Be a r;refine⟨C.e 0 gI a<|À c,λk hk q=> ?_,(C.S 0 gI).C a c⟩;by_cases e:k=0
   .subst e;rw[z0,mH]at q;rcases q with q|q
    .exact q.2 r
    .exact C.g 0 gI a c q
   .rw[gF _ _ e]at q;exact C.h 0 k gI hk (ÿ e) a c q
  .have c:(o k).K a:=by
    by_cases e:k=0
    .subst e;rwa[z0,mH]at J
    .rwa[gF _ _ e]at J
   rw[kx]at q;exact(C.n k hk a c).2 0 gI<|Be a q
  .rcases hb with q|q|⟨l,t,D⟩
   .exact À q
   .exact Á<|À q
   .exact Á<|Á ⟨l,by rw[nG];omega,D⟩
  .rcases YE b hb with q|⟨t,rfl⟩
   .exact À q
   .obtain⟨a1,a2,a3,a4⟩:=Bd t;refine Á ⟨C.fv 0 gI _<|À a1,λi lz q=> ?_⟩;by_cases e:i=0
    .subst e;rw[z0,mH]at q;rcases q with q|q|q
     .exact q.2.2 t U
     .exact a2 q
     .exact C.m 0 gI _ a1 q
    .rw[gF _ _ e]at q;exact C.o 0 i gI lz (ÿ e) _ a1 q
 have hWm:fg F.P Î (JM F E.I m') l0 g':=by
  have r:=EZ.M gI;rw[z0]at r;have s:{l0 with w:=w}=l0:=by rw[mH]
  rw[s]at r;have:=air l0 r (by rw[mH]) (λb q=>by rwa[mH]) (by rw[mH]) (by rwa[mH]) (by rw[mH]) (by rw[mH]) (by rw[mH]) (λa q=>by rw[mH]at q;exact q.1);rw[uo];unfold vy;exact this
 have Q0:∀b,lc.M b->(o 0).M b:=λb hb=>by
  rw[kx]at hb;rcases hb with q|q|q
  .exact q.elim
  .exact À<|hX b q
  .exact Á q
 have YF:∀a,lc.C a->(o 0).C a:=λa J=>by rw[kx]at J;exact J.elim (λq=>À<|Be a q) Á
 have Q5:lc.w=w:=by rw[kx]
 have ait:gu lc:=⟨λb hb=>(by rw[kx]at hb;exact hb.elim),λa J q=>(by rw[kx]at J q;exact C.g 0 gI a (Be a J) q),λa J hb=>C.I 0 gI _ (Q0 _ hb)<|C.e 0 gI a<|YF a J,λb hb=>(by rw[Q5];exact C.fv 0 gI b<|Q0 b hb),λa J=>(by rw[Q5];exact C.N _<|C.e 0 gI a<|YF a J),λa J=>by
  have c:(o 0).K a:=by rwa[kx]at J
  obtain⟨k1,k2⟩:=C.n 0 gI a c;exact⟨λq=>C.I 0 gI _ (Q0 _ q) k1,by rw[Q5];exact C.N _ k1,λq=>by rw[kx]at q;exact k2 0 gI (Be a q)⟩⟩
 have hWc:=aiq lc ait (λb q=>by rwa[kx]) (by rw[kx]) (by rw[kx]) (by rw[kx];exact λq=>q) (λb=>by rw[kx];exact λq=>q) (by rw[kx]) (by rw[kx]) (λa q=>Be a<|by rwa[kx]at q);obtain⟨T,hT⟩:=jl hWm;obtain⟨Tc,hTc⟩:=jl hWc;obtain⟨B,x,y,LF,LG,q1,q2,q3,q4,q5,q6⟩:=p.I.Hq (Kc:=if m=0 then .no else kW F (E.I<|m-1) (.nA 0)) hi (EP w) QZ hT YD hTc AG;have cs:∀i,i<f.size+1->i=f.size\/i=0\/(i≠0/\i<f.size):=λi hi=>by omega
 have es:gp (gp o 0 l0) f.size lc f.size=lc:=gU _ _ _;have e0:gp (gp o 0 l0) f.size lc 0=l0:=by rwa[gF _ _ Z]
 have en:∀i,i≠0->i≠f.size->gp (gp o 0 l0) f.size lc i=o i:=λi t D=>by rw[gF _ _ D,gF _ _ t]
 have xj:=p.C.z;have Lz:=p.C.h m Z;have aiu:∀y,E.ow y->y<m:=λy ⟨e,t,_⟩=>ñ λq=>by rw[p.C.h y Z]at t;cases t
 have Q6:∀i,i<f.size+1->∀a,(gp (gp o 0 l0) f.size lc i).r a->∃k,k<f.size/\(o k).r a:=λi hi a J=>by
  rcases cs i hi with rfl|rfl|⟨t,D⟩
  .rw[es,kx]at J;exact⟨0,gI,Be a J⟩
  .rw[e0,mH]at J;exact⟨0,gI,J.1⟩
  .rw[en i t Z]at J;exact⟨i,D,J⟩
 refine⟨zf E m,_,_,_,_,B,w,_,q1,q2,(by show vy F m≠ .fZ;rw[<-uo];exact H4.2),.r ⟨?_,λt D=> ?_,λl t D=> ?_,λy e t D=> ?_,λi t D=> ?_⟩ (by rw[q2,nG,ji];omega) q6 ?_ ?_ ?_ ?_ (λk z hk hb=> ?_) λl r2 a1 a2 a3=> ?_⟩
 .have c:(0:Nat)≠f.size:=Z
  rw[fG _ _ c,gC,fG _ _ c,gC];rw[uo];exact⟨U,U⟩
 .by_cases e:m=0
  .have c:f.size=F.L:=Z
   rw[c,gC,gC,if_pos e,if_pos e];show F.h 0=JI F E.c E.S/\_;rw[p.C.J Z];exact⟨U,U⟩
  .rw[fG _ _ Z,fG _ _ Z,fG _ _ Z,fG _ _ Z];exact p.m Z D
 .rw[nG]at t;by_cases e:l+1=m
  .have c:F.L+1+l=f.size:=Z
   rw[c,gC,gC,if_neg Z,if_neg Z];show EE F (E.I<|m-1) (m-1) 0=JW F (E.I l) l (E.C l)/\_=kW F (E.I l) (E.C l);rw[xj l Z,show m-1=l by omega];exact⟨U,U⟩
  .rw[fG _ _ Z,fG _ _ Z,fG _ _ Z,fG _ _ Z];exact p.g l Z D
 .have s:=ñ λq=>by
   have r:E.N y=Ã e:=D;rw[p.C.h y Z]at r;cases r
  rw[fG _ _ Z,fG _ _ Z,fG _ _ Z,fG _ _ Z,fG _ _ Z,fG _ _ Z];exact p.k y e Z D
 .rw[fG _ _ Z,fG _ _ Z,fG _ _ Z,fG _ _ Z,fG _ _ Z,fG _ _ Z];exact p.l i t D
 .rw[q2];obtain⟨f1,f2⟩:=L.lU Z;refine⟨λi lz a J=> ?_,λy t D a J=> ?_,λ_=> ?_,λ_ k t D=> ?_,λ_ D=> ?_,λl t D r h3 h4=> ?_,λl t D=> ?_,λy s=> ?_,λi lz=> ?_,λi t D=> ?_,λk hk b hb=> ?_,λk hk i lz q=> ?_,λk t D i lz q=> ?_,λl t r D h3 i lz q=> ?_⟩
  .rcases cs i lz with rfl|rfl|⟨t,D⟩
   .rw[es,kx]at J;rcases J with q|q
    .exact aio H.C q
    .exact L.gT 0 gI a<|Á q
   .rw[e0,mH]at J;rcases J with q|q
    .exact L.gT 0 gI a<|À q.1
    .exact L.gT 0 gI a<|Á q
   .rw[en i t Z]at J;exact L.gT i D a J
  .rw[nG]at t;rw[e0,mH];exact⟨L.o y Z D a J,λq=>ain H.C Z q J⟩
  .rw[e0,mH];exact⟨f1,λb hb=>Á<|f2 b hb⟩
  .have A5:=t;by_cases e:m=0
   .have c:F.L=f.size:=Z
    rw[c,es,kx];exact⟨by show lW F m _;unfold lW;rw[if_pos e];exact⟨k,Z,D,À U⟩,by show lW F m _;unfold lW;rw[if_pos e];exact⟨k,Z,D,Á U⟩⟩
   .rw[en F.L Z Z];exact L.e Z k A5 D
  .by_cases e:m=0
   .have c:F.L=f.size:=Z
    rw[c,es,kx];show(o 0).N (jg F.toFx E.S.md)/\∀b,E.V E.S.md b->X b\/(o 0).I b;rw[p.C.J Z];show(o 0).N (jg F.toFx 0)/\∀b,E.V 0 b->X b\/(o 0).I b;rw[p.C.v];exact⟨f1,λb hb=>Á<|f2 b hb⟩
   .rw[en F.L Z Z];exact L.f Z D
  .rw[nG]at t;by_cases e:l+1=m
   .have c:F.L+1+l=f.size:=Z
    rw[c,es,kx];show lW F m _;unfold lW;rw[if_neg Z];exact⟨_,h3,by rw[ē,Ń Z];omega,U⟩
   .rw[en _ Z Z];exact L.h l Z D r h3 h4
  .rw[nG]at t;by_cases e:l+1=m
   .have c:F.L+1+l=f.size:=Z
    rw[c,es,kx];exact⟨f1,λb hb=>Á<|f2 b hb⟩
   .rw[en _ Z Z];exact L.l l Z D
  .have:=aiu y s;rw[en _ Z Z];exact L.S y s
  .rcases lz with rfl|⟨y,t,rfl,h3⟩
   .rwa[e0,mH]
   .rw[nG]at t;by_cases e:y=m
    .subst e;rw[<-ji,es,kx];exact λq=>q
    .rw[en _ Z Z];exact L.M _<|Á ⟨y,Z,U,h3⟩
  .rw[en i Z Z];exact L.c i t D
  .obtain⟨b1,b2,c⟩:=L.I k hk b hb;refine⟨b1,λq=> ?_,λi lz q=> ?_⟩
   .rcases YE b q with q|⟨t,rfl⟩
    .exact b2 q
    .exact c 0 gI (Bd t).1
   .rcases cs i lz with rfl|rfl|⟨t,D⟩
    .rwa[es,kx]at q
    .rw[e0,mH]at q;exact c 0 gI q.1
    .rw[en i t Z]at q;exact c i D q
  .obtain⟨c,a1,a2⟩:=Q6 i lz _ q;exact L.N k hk c a1 a2
  .obtain⟨c,a1,a2⟩:=Q6 i lz _ q;exact L.g k t D c a1 a2
  .rw[nG]at t;have oU:r<(E.C l).kD:=h3;obtain⟨c,a1,a2⟩:=Q6 i lz _ q;by_cases e:l+1=m
   .rw[xj l Z]at oU;simp only[gO.kD]at oU;omega
   .exact L.d l Z r D oU c a1 a2
 .have c:=p.M;refine⟨c.C,c.I,λl t=> ?_,c.M,c.S,λl t r D h3=> ?_⟩
  .rw[nG]at t;show∃buf s,w.heap[E.I l]?=Ã (.chan F.q buf (decide<|l<(vy F m).jf F.n) s (E.C l).iM É)/\tY F.n l ((vy F m).mF F.q) s/\(E.C l).iM<=s/\buf.size=s-(E.C l).iM/\∀i,i<s-(E.C l).iM->buf[i]?=Ã (F.c<|l+((E.C l).iM+i)*F.n);rw[<-uo,hmh,QY];by_cases e:l+1=m
   .rw[xj l Z];obtain⟨a1,a2,a3,a4⟩:=Bd Z;rw[show m-1=l by omega]at a3;refine⟨#[],0,by rw[a3];rfl,λi=>⟨λq=>by omega,λq=>by omega⟩,Æ _,U,λi lz=> ?_⟩;simp only[gO.iM]at lz;omega
   .have:=c.jI l Z;rwa[hx]at this
  .rw[nG]at t;have oU:r<(E.C l).kD:=h3;by_cases e:l+1=m
   .rw[xj l Z]at oU;simp only[gO.kD]at oU;omega
   .exact c.N l Z r D oU
 .have h:=p.C;have eo:(zf E m).G=E.G:=by
   funext y;have t:(zf E m).M.ad F.n=E.M.ad F.n:=by show(vy F m).ad F.n=_;rw[<-uo,ais,hx];rfl
   unfold fT.G;rw[t];rfl
  have Q7:(zf E m).M.gB=E.M.gB:=by show(vy F m).gB=_;rw[<-uo,hmr,hx];rfl
  have emp:(zf E m).M=m':=uo.symm;refine⟨h.v,λl q=> ?_,λl q=> ?_,λr=>⟨λq=> ?_,λq=> ?_⟩,λq=>by omega,h.I,λl q=>h.z l Z,λl r uu qc=> ?_,λl uu qc=> ?_,h.f,λy q=>h.h y Z,λl j3 uu qc q3'=> ?_,λl q=> ?_,λc reg hc=> ?_,λreg hc=> ?_,λr s hc=> ?_,h.N,λq=> ?_,h.e,h.Y,λl r uu qc=> ?_,λl r uu qc=> ?_,λq=> ?_,λ_ _=>h.S (λv q=>by rw[hx]at q;cases q) (λq=>by rw[hx]at q;cases q),h.y,λl r uu qc=> ?_⟩
  .rw[emp]at q;rcases uq with⟨_,rfl⟩|⟨_,rfl⟩<;>rcases q with q|q|q|q<;>cases q;omega
  .rw[emp]at q;rcases uq with⟨_,rfl⟩|⟨_,rfl⟩<;>rcases q with q|q|q<;>cases q;omega
  .rw[emp]at q;rcases uq with⟨_,rfl⟩|⟨_,rfl⟩<;>cases q;exact Æ _
  .rw[emp]at q;rcases uq with⟨_,rfl⟩|⟨_,rfl⟩<;>cases q
  .rw[nG]at uu;by_cases e:l+1=m
   .have oV:(∃p,E.C l=.fx r p)\/E.C l=.jK r\/E.C l=.oO r:=qc;rw[xj l Z]at oV;rcases oV with⟨_,q⟩|q|q<;>cases q
   .exact h.d l r Z qc
  .rw[nG]at uu;have oV:E.N (l+1)≠Í:=qc;have:l+1<m:=ñ λq=>oV<|h.h _ Z;obtain⟨a,_⟩:=h.l l Z oV;rw[hx]at a;simp only[fV.jf]at a;omega
  .rw[nG]at uu qc;have Q8:E.I l=E.I j3:=q3';have key:∀a b,a+1=m->b+2<=E.r->E.I a=E.I b->False:=λa b J hb he=>by
    have t:=(Bd Z).1;rw[show m-1=a by omega,he]at t;exact C.I 0 gI _ (À t)<|Á<|Á ⟨b,hb,U⟩
   by_cases e:l+1=m
   .by_cases e':j3+1=m
    .omega
    .exact(key l j3 e Z Q8).elim
   .by_cases e':j3+1=m
    .exact(key j3 l e' Z Q8.symm).elim
    .exact h.M l j3 Z Z Q8
  .rw[nG]at q;show¬F.M (E.I l)/\E.I l≠F.Y/\F.S<=E.I l;by_cases e:l+1=m
   .obtain⟨a1,_,_,a4⟩:=Bd Z;rw[show m-1=l by omega]at a1 a4;have YG:=C.I 0 gI _<|À a1;exact⟨λq=>YG<|À q,λq=>YG<|Á<|À q,a4⟩
   .exact h.o l Z
  .rw[eo,Q7];exact h.t c reg hc
  .rw[eo,Q7];obtain⟨a1,a2,y,a3,a4⟩:=h.g reg hc;exact⟨a1,a2,y,Z,a4⟩
  .rw[eo,Q7];obtain⟨a1,a2,a3⟩:=h.u r s hc;refine⟨a1,a2,λhr=> ?_⟩;obtain⟨y,b1,b2⟩:=a3 hr;exact⟨y,Z,b2⟩
  .rw[emp]at q;rcases q with q|q|q
   .exact absurd q<|H4.1 _
   .exact absurd q<|H4.1 _
   .exact absurd q H4.2
  .rw[nG]at uu;by_cases e:l+1=m
   .have oV:E.C l=.fx r .gy\/E.C l=.fx r .lj\/E.C l=.jK r:=qc;rw[xj l Z]at oV;rcases oV with q|q|q<;>cases q
   .exact h.w l r Z qc
  .rw[nG]at uu;by_cases e:l+1=m
   .have oV:E.C l=.fx r .gy:=qc;rw[xj l Z]at oV;cases oV
   .exact h.H l r Z qc
  .rw[emp]at q;exact absurd q<|H4.1 _
  .rw[nG]at uu;by_cases e:l+1=m
   .have oV:E.C l=.fx r .wr:=qc;rw[xj l Z]at oV;cases oV
   .exact h.D l r Z qc
 .rw[nG];have c:=p.d;rw[oP]at c;rw[ji]at LF LG Bb;exact c.Hq LF LG oT Bb (λ⟨e,t,_⟩=>by rw[Lz]at t;cases t) λy ⟨e,t,_⟩=>ñ λq=>by rw[p.C.h y Z]at t;cases t
 .have r:=iO hk;rcases cs k Z with rfl|rfl|⟨k1,k2⟩
  .rw[q4]at hk;obtain rfl:=È hk;rw[AG]at hb;cases hb
  .rw[q3]at hk;obtain rfl:=È hk;rw[YD]at hb;cases hb
  .rw[q5 k k1 k2]at hk;rcases p.c k z hk hb with⟨t,_⟩|⟨l,s,c,D,h3⟩
   .exact absurd t k1
   .exact Á ⟨l,Z,c,D,h3⟩
 .rw[nG]at a1;by_cases e:l+1=m
  .have oV:E.C l=.jK r2:=a2;rw[xj l Z]at oV;cases oV
  .exact(p.f l r2 Z a2 a3).app _
end
section
variable{F:Ph}{E E':fT F}{S:Nat->Jd}{tr o:Nat->gq}{m:Nat->iz}{lot:Nat->e9}{gs gs':Array Ä}{w':Ð}{t u:ä}{sl:Option (Nat×Nat)}{sz:Nat}
def PI.at(H:gS F)(p:PI F i zX E S tr m lot gs w t)(d:Nat):PI F i zX E S tr m lot gs (w.at d) t:= ⟨p.b,p.I.at d,p.h,p.m,p.g,p.k,p.l,p.a.ER<|Æ _,⟨⟨p.M.C.C,p.M.C.M,p.M.C.I,p.M.C.N,p.M.C.r⟩,λk a=>⟨(p.M.I k a).C,(p.M.I k a).M,(p.M.I k a).I,(p.M.I k a).N,(p.M.I k a).r⟩,p.M.jI,λk a=>⟨(p.M.M k a).1,H.S _ _ _ _ _ (p.M.M k a).2 (λ_ _=>rfl) U U U ⟨U,U⟩⟩,p.M.S,p.M.N⟩,p.C,p.d,p.c,p.f⟩
def Go1(F:Ph)(i:Nat)(zX:ψ->Prop)(gs:Array Ä)(w:Ð)(t:ä)(sl:Option (Nat×Nat))(a:Nat):Prop:=
 ∃(E':fT F) (b:Nat->Jd) (o:Nat->gq) (c:Nat->iz) (d:Nat->e9) (gs':Array Ä) (w':Ð) (u:ä),ř F.P (ð gs w sl) a=(ĝ<|ð gs' w' sl,u)/\gs'.size=gs.size+1/\E'.M≠ .fZ/\PI F i zX E' b o c d gs' w' (t++u)
def aiv(F:Ph)(i:Nat)(zX:ψ->Prop)(gs:Array Ä)(w:Ð)(t:ä)(sl:Option (Nat×Nat))(a:Nat):Prop:=
 ∃(E':fT F) (b:Nat->Jd) (o:Nat->gq) (c:Nat->iz) (d:Nat->e9) (gs':Array Ä) (w':Ð) (u:ä),ř F.P (ð gs w sl) a=(ĝ<|ð gs' w' sl,u)/\gs'.size=gs.size/\PI F i zX E' b o c d gs' w' (t++u)/\E'.M=.fZ/\LD F zX (t++u)
def PI.aiw(H:gS F)(p:PI F i zX E S tr m lot gs w t)(l:E.M≠ .fZ)(a:gs[n]?=Ã g)(c:g.status=Å):j5 F i zX E tr gs w t sl n\/rQ F i zX E tr gs w t\/Go1 F i zX gs w t sl n\/aiv F i zX gs w t sl n:=by
 have z:=iO a;have B:=p.b;cases b:tr n with
 |jM k=>
  obtain⟨gs',w',u,o,e,d,f,j,q⟩:=p.fj H a b;exact À ⟨E,S,o,m,e,gs',w',u,d,f,λh=>h,j,q⟩
 |fy=>
  by_cases s:n=0
  .subst s;cases h:E.M with
   |go j=>exact Á<|Á<|À<|p.aip H a c b h
   |lF j=>exact Á<|À<|p.ahY H a c b h
   |rd j=>exact À<|p.ahZ H a c b h
   |iE j=>exact À<|p.ah1 H a c b h
   |iI r=>cases r with
    |zero=>exact Á<|À<|p.ah2 H a c b h
    |succ r=>exact À<|p.aie H a c b h
   |kX r=>cases r with
    |zero=>exact Á<|À<|p.ah3 H a c b h
    |succ r=>exact À<|p.aii H a b h
   |fx v=>cases v with
    |iX=>exact Á<|À<|p.ah4 H a c b h
    |mb q=>exact À<|p.ah5 H a c b h
    |wr=>exact À<|p.ah6 H a c b h
    |kB=>exact À<|p.ah8 H a c b h
    |gy=>exact À<|p.ah7 H a c b h
    |lj=>exact Á<|Á<|Á<|p.aik H a c b h
   |fZ=>exact absurd h l
  by_cases y:n<F.L
  .exact À<|p.ahW H Z y a c
  obtain⟨x,rfl⟩:∃x,n=F.L+x:=⟨n-F.L,Z⟩;have f:x<E.r:=Z
  cases d:E.N x with
  |some e=>cases e with
   |oQ=>exact Á<|À<|p.ahA H f d a c b
   |fZ v=>cases v with
    |jF=>exact À<|p.ahD H f d a c b
    |iE=>exact À<|p.ahH H f d a c b
    |gy W=>exact À<|p.ahI H f d a c b
    |jc W=>exact À<|p.ahJ H f d a c b
    |iA r=>exact À<|p.ahK H f d a c b
   |ju N=>exact À<|p.ahV H f d a c
  |none=>cases x with
   |zero=>
    rw[ó]at a b|-;cases h:E.S with
    |kN k=>exact Á<|À<|p.ahM H f d a c b h
    |mk k=>exact Á<|À<|p.ahP H f d a c b h
    |dn k v=>cases v with
     |jF=>exact À<|p.ahQ H f d a c b h
     |iE=>exact À<|p.ahR H f d a c b h
     |gy W=>exact À<|p.ahS H f d a c b h
     |jc W=>exact À<|p.ahT H f d a c b h
     |iA r=>exact À<|p.ahU H f d a c b h
   |succ j=>
    rw[show F.L+(j+1)=F.L+1+j by omega]at a b|-;have e:j+2<=E.r:=Z
    cases h:E.C j with
    |nA r=>exact À<|p.ahy H e d a c b h
    |fx r v=>cases v with
     |iX=>exact Á<|À<|p.ahh H e d a c b h
     |mb q=>exact À<|p.ahi H e d a c b h
     |wr=>exact À<|p.ahk H e d a c b h
     |kB=>exact À<|p.ahn H e d a c b h
     |gy=>exact À<|p.ahl H e d a c b h
     |lj=>exact À<|p.ahm H e d a c b h
    |jK r=>exact Á<|À<|p.ahp H e d a c b h
    |oO r=>exact Á<|À<|p.ahq H e d a c b h
def aix{J:Jd}{T:gq}{l:e9}(a:∀l g,J l g->g.status=Å)(h:lh P yQ J T l g):g.status=Å:=by
 cases T with
 |fy=>exact a _ _<|h _<|fF.fU _ _
 |jM k=>exact h.1
def gN.Y{Y:Nat->Prop}(c:gN P n Y S tr m lot gs w t)(d:gs[i]?=Ã g)(e:∀l g,S i l g->g.status=Å)(a:g.status≠Ý):g.status=Å:=by
 let⟨g0,f,b,_,_⟩:=c.C i g d;generalize m i=K at b;cases b with
 |gi=>exact aix e f
 |nZ _ _=>exact absurd U a
 |tW _ _ _=>exact absurd U a
 |nz _ _ _=>rfl
def YH{J:Jd}{p:jH}(a:∀r,p=.iA r->0<r){l:e9}(h:EB P yQ b J p l g):g.status=Å:=by
 cases p with
 |jF=>exact h.2.1
 |iE=>exact h.2.1
 |gy W=>exact h.2.1
 |jc W=>exact h.2.1
 |iA r=>cases r with
  |zero=>exact absurd (a 0 U) Z
  |succ r=>exact h.2.1
def Q9{J:Jd}{p:jv}{l:e9}(h:qW P yQ i b J p l g):g.status=Å:=by
 cases p with
 |iX=>let⟨k,_,_,T,a,c⟩:=h;exact(c _ _ a).1
 |mb p=>let⟨_,T,a,c⟩:=h;exact(c _ _ a).1
 |wr=>exact h.2.1
 |kB=>exact h.2.1
 |gy=>exact h.2.1
 |lj=>exact h.2.1
def YI{l:e9}(h:AP F D i l g):g.status=Å:=by
 cases i with
 |zero=>exact Q9 h
 |succ i=>exact h.1
def aiy(H:gS F){x:fV}{l:e9}(h:JM F D x l g):g.status=Å:=by
 cases x with
 |go j=>exact H.I _ _ _ _ h
 |lF j=>let⟨c,h⟩:=h;exact H.I _ _ _ _ h
 |rd j=>exact h.2.1
 |iE j=>exact h.2.1
 |iI r=>cases r with
  |zero=>exact YI h
  |succ r=>exact h.1
 |kX r=>exact YI h
 |fx v=>exact Q9 h
 |fZ=>exact H.M _ _ _ h
def PI.Aq(p:PI F i zX E S tr m lot gs w t){x:Nat}(a:x<E.r):∃g,gs[F.L+x]?=Ã g:=by have:=p.b;simp_all
def PI.H5(H:gS F)(p:PI F i zX E S tr m lot gs w t)(d:0<E.r)(e:E.N 0=Í):∃(a:Nat) (g:Ä),gs[a]?=Ã g/\g.status=Å:=by
 have n:=H.C.r;let⟨g,c⟩:=p.Aq d;rw[ó]at c;refine⟨F.L,g,c,p.I.Y c (λl g h=> ?_) λl=> ?_⟩
 .rw[(p.m d e).1]at h;cases j:E.S with
  |kN k=>rw[j]at h;exact H.N _ _ _ h
  |mk k=>rw[j]at h;let⟨a,V,_,_,_,_,h⟩:=h;exact h.2.1
  |dn k v=>
   rw[j]at h;refine YH (λr V=> ?_) h;subst V;let⟨_,_,r⟩:=p.C.I k;let⟨a,b⟩:=r _ j;rcases p.C.Y k b (by rw[j];exact Æ _)with⟨W,q|q,_⟩|⟨o,s,q,f,_⟩|⟨q,_⟩
   .rw[j]at q;cases q
   .rw[j]at q;cases q
   .rw[j]at q;cases q;exact f
   .exact absurd j<|q _
 .rcases p.c _ g c l with⟨q,_⟩|⟨j,_,_,q,_⟩<;>omega
theorem PI.LH(H:gS F)(p:PI F i zX E S tr m lot gs w t){x:Nat}{e:ij}(b:x<E.r)(c:E.N x=Ã e)(d:∀N,e≠ .ju N):∃(h:Nat) (g:Ä),gs[h]?=Ã g/\g.status=Å:=by
 have f:=H.C.r;let⟨g,a⟩:=p.Aq b;refine⟨F.L+x,g,a,p.I.Y a (λl g h=> ?_) λl=> ?_⟩
 .rw[(p.k x e b c).1]at h;cases e with
  |oQ=>exact h.2.1
  |fZ v=>exact YH (λr j=>by subst j;exact((p.C.N x _ c).2 r U).1) h
  |ju N=>exact absurd U<|d N
 .rcases p.c _ g a l with⟨q,_⟩|⟨j,_,h,q,_⟩;all_goals grind
def YJ{f:Nat->Nat}:∀{n:Nat},0<Ñ n f->∃i,i<n/\0<f i
 |0,h=>absurd h<|Nat.lt_irrefl _
 |n+1,h=>by
  simp only[Ñ]at h;by_cases q:0<f n
  .exact⟨n,Z,q⟩
  .let⟨i,b,a⟩:=YJ (f:=f) (n:=n) Z;exact⟨i,Z,a⟩
theorem PI.aiz(H:gS F)(p:PI F i zX E S tr m lot gs w t):∃(l:Nat) (g:Ä),gs[l]?=Ã g/\g.status=Å:=by
 have hL:=H.C.r;have ji:=p.b;obtain⟨g,D⟩:∃g,gs[0]?=Ã g:=⟨_,ê Z⟩;by_cases P:g.status=Ý
 .rcases p.c 0 g D P with⟨_,u,Q⟩|⟨j,_,_,q,_⟩
  .have oP:E.r=F.n+1:=by unfold fT.r;rw[u];rfl
   have had:E.M.ad F.n=F.n+1:=by rw[u];rfl
   have Ra:E.M.gB=1:=by rw[u];rfl
   have T:=p.M.C.r;cases o:E.b with
   |cl c G=>
    let⟨h1,h2⟩:=p.C.t c G o;rw[o]at T;let⟨_,_,V⟩:=T;have X:0<c:=by grind
    rw[h1]at X;let⟨x,d,y⟩:=YJ X;unfold fT.G at y;rw[had,if_pos d]at y;cases z:E.N x with
    |some e=>
     rw[z]at y;exact p.LH H Z z λN q=>by subst q;simp[me,ij.kO]at y
    |none=>cases x with
     |zero=>exact p.H5 H Z z
     |succ j=>
      let⟨I,B⟩:=p.Aq (x:=j+1) Z;rw[show F.L+(j+1)=F.L+1+j by omega]at B;have J:j+2<=E.r:=Z
      by_cases Y:I.status=Ý
      .rcases p.c _ I B Y with⟨q,_⟩|⟨a,_,_,q,⟨r,b,C⟩|⟨r,cap,s,r',b,C⟩⟩
       .omega
       .have:a=j:=Z
        subst this;have Yh:=H.C.I _<|p.C.d a r J<|À ⟨_,b⟩;have X0:1<=Ñ F.n λl=>(E.C l).gB F l (F.r<|a+r*F.n):=by
         have:=Qr (f:=λl=>(E.C l).gB F l<|F.r<|a+r*F.n) (j:=a) (n:=F.n) Z;simp only[b]at this;have h:gO.gB F a (F.r<|a+r*F.n) (.fx r .kB)=1:=by simp only[gO.gB,if_true];rfl
         grind
        by_cases K:F.r (a+r*F.n)<=E.S.od
        .have M:∀k v,E.S=.dn k v->E.N 0=Í:=λk v h=>by
          cases O:E.N 0 with
          |none=>rfl
          |some e=>have:=p.C.f (by rw[O];simp);rw[this]at h;cases h
         rcases p.C.Y _ Yh K with⟨W,q|q,_⟩|⟨r',s,q,_⟩|⟨_,⟨_,q⟩|⟨s,q1,q2⟩⟩
         .exact p.H5 H Z<|M _ _ q
         .exact p.H5 H Z<|M _ _ q
         .exact p.H5 H Z<|M _ _ q
         .omega
         .rw[q1]at C;simp only[GS.sm]at C;omega
        .apply p.H5 H Z;cases O:E.N 0 with
         |none=>rfl
         |some e=>
          have:=p.C.f (by rw[O];simp);rw[this]at K;simp only[jz.od]at K;omega
       .have:a=j:=Z
        subst this;let⟨e,k,l,_⟩:=p.M.jI a J;rw[C,u]at l;injection l with l;injection l with _ _ AU _ _ _;have:decide (a<(fV.fx .kB).jf F.n)=Î:=decide_eq_true (by simp only[fV.jf];omega);rw[this]at AU;cases AU
      .refine⟨_,I,B,p.I.Y B (λl g h=> ?_) Y⟩;rw[(p.g j J z).1]at h;cases a:E.C j with
       |nA r=>rw[a]at h;exact h.1
       |fx r v=>rw[a]at h;exact Q9 h
       |jK r=>rw[a]at h;exact H.Y _ _ _ _ h
       |oO r=>rw[a]at h;exact h.2.1
   |jG G=>
    let⟨_,_,x,d,_,b⟩:=p.C.g G o;rcases b with b|b
    .exact p.LH H d b λN q=>by cases q
    .exact p.LH H d b λN q=>by cases q
   |gW r s=>
    let⟨_,h2,V⟩:=p.C.u r s o;rw[o]at Q;simp only[GS.sm]at Q;let⟨x,d,_,b⟩:=V Z;exact p.LH H d b λN q=>by cases q
  .omega
 .refine⟨0,g,D,p.I.Y D (λl g h=> ?_) P⟩;rw[p.h.1]at h;exact aiy H h
def PI.LJ(p:PI F i zX E S tr m lot gs w t):∀g∈gs,awake g:=by
 intro g e;obtain⟨a,f,rfl⟩:=Array.mem_iff_getElem.1 e;let⟨g0,_,c,d,_⟩:=p.I.C a _<|ê f;intro τ b;generalize gs[a]=g at c b;generalize m a=K at c;cases c with
 |gi=>rw[b]at d;rcases d with q|q<;>cases q
 |nZ _ _=>cases b
 |tW _ _ _=>cases b
 |nz _ _ _=>cases b
def aiA(H:gS F):∀(k:Nat) (μ:Mu) (E:fT F) (S:Nat->Jd) (tr:Nat->gq) (m:Nat->iz) (lot:Nat->e9) (gs:Array Ä) (w:Ð) (sl:Option (Nat×Nat)) (t:ä),F.n+1-E.r=k->E.mu tr gs=μ->PI F i zX E S tr m lot gs w t->E.M≠ .fZ-> ∃(N:Nat) (E':fT F) (b:Nat->Jd) (o:Nat->gq) (c:Nat->iz) (d:Nat->e9) (gs':Array Ä) (w':Ð) (r:Option (Nat×Nat)) (a:ä),ν F.P N (ð gs w sl) t=(ĝ<|ð gs' w' r,a)/\PI F i zX E' b o c d gs' w' a/\E'.M=.fZ/\LD F zX a:=by
 intro k
 induction k using ď with
 |_ k ihk=>
  intro μ
  induction (ag2 F.N).apply μ with
  |intro μ _ V=>
   intro E S tr m lot gs w sl t hk W p z;let⟨a,g,d,r,hi,iH,B⟩:=crowd_pick (P:=F.P) (w:=w) (sl:=sl) p.LJ<|p.aiz H;have p':=p.at H d;have ji:=p.b;rcases p'.aiw H (sl:=r) z hi iH with⟨c,e,f,h,j,s,v,u,x,X,l,b,y⟩|⟨c,e,f,h,j,l,b,y⟩|⟨c,e,f,h,j,s,v,u,x,X,l,b⟩|⟨c,e,f,h,j,s,v,u,x,X,l,b,y⟩
   .have Y:=b.b;let⟨N,C,D,G,I,J,K,L,M,O,Q,T⟩:=V _ (W▸y) c e f h j s v r (t++u) Z U b λq=>z<|l q;exact⟨N+1,C,D,G,I,J,K,L,M,O,by simp only[ν,B,x];exact Q,T⟩
   .have Y:=b.b;have h6:=b.at H w.drawn;exact V _ (W▸y) c e f h j gs w sl t Z U h6 λq=>z<|l q
   .have Y:=b.b;have q:=EH b.C;let⟨N,C,D,G,I,J,K,L,M,O,Q,T⟩:=ihk (F.n+1-c.r) Z _ c e f h j s v r (t++u) U U b l;exact⟨N+1,C,D,G,I,J,K,L,M,O,by simp only[ν,B,x];exact Q,T⟩
   .exact⟨1,c,e,f,h,j,s,v,r,t++u,by simp only[ν,B,x],l,b,y⟩
end
end Go.Proofs.Y.fq
namespace Go.Proofs.Y.fq
open Go Go.Conc Go.Proofs.Y.Lift Go.RowKit Go.Conc.Lib Go.ConcR.Gen
section
variable{J:Jd}{l:e9}
def LK(w:Ð)(b:∀j,l.O j->j<w.heap.size):mE l {l with w:=w} w w #[]:= ⟨Æ _,λ_ h=>À h,b,U,U,U,U,λ_ _ _ _=>rfl,λ_ _ _ _=>rfl,λ_ _ _=>rfl,U,U,U,λe a=>by simp at a,by simp[Ï],U,λ_=>⟨U,λe a=>by simp at a,U⟩,U⟩
def lH(a:∀j,l.O j->j<l.w.heap.size){w₁:Ð}(r:fF l l.w w₁):∀j,l.O j->j<w₁.heap.size:=λj b=>Ê (a j b) r.r
def Rb{R:Ð->Ð->Prop}{m:Ä->Ð->Prop}:∀{n:Nat} {g:Ä} {l:e9},Ĵ P yQ R á m n g l.w->(∀w c,fF l w c->R w c)->(∀j,l.O j->j<l.w.heap.size)->(∀c d,fF l l.w c->m d c->fg P yQ J {l with w:=c} d)->fg P yQ J l g:=by
 intro n
 induction n with
 |zero=>
  intro g l h j i e;exact(fg.fy λc r=>e c g r<|h c<|j _ _ r).fe
 |succ n p=>
  intro g l h j i e;rcases h with h|⟨s,h⟩
  .exact(fg.fy λc r=>e c g r<|h c<|j _ _ r).fe
  .refine .mk s λc r=> ?_;have f:=h c<|j _ _ r;cases o:é P yQ g c with
   |go d k y=>
    rw[o,Ű]at f;let⟨⟨t,u⟩,v⟩:=f;subst t u;exact⟨d,k,#[],{l with w:=k},U,LK k<|lH i r,p v (λa b q=>j a b<|za q) (lH i r) λa b q x=>e a b (r.fe<|za q) x⟩
   |_=>rw[o]at f;exact f.elim
def aiB{m:ε}(b:m=ô\/m=î)(w:Ð)(c:∀j,l.O j->j<w.heap.size):mE l {l with d:=Ï l.d #[jy m],w:=w} w w #[jy m]:=by
 refine⟨Æ _,λ_ h=>À h,c,U,U,U,U,λ_ _ _ _=>rfl,λ_ _ _ _=>rfl,λ_ _ _=>rfl,U,U,U,λe a=> ?_,U,U,λ_=>⟨U,λe a=> ?_,U⟩,U⟩
 .have:e=jy m:=by simpa using a
  subst this;rcases b with rfl|rfl
  .exact Á<|Á<|Á<|À U
  .exact Á<|Á<|Á<|Á<|À U
 .have:e=jy m:=by simpa using a
  subst this;rcases b with rfl|rfl<;>rfl
def fg.aiC{m:ε}{b:Ä}(c:m=ô\/m=î)(e:g.status=Å)(f:∀j,l.O j->j<l.w.heap.size)(h:∀a,é P yQ g a=ũ b a #[jy m])(i:∀a,fF l l.w a->fg P yQ J {l with d:=Ï l.d #[jy m],w:=a} b):fg P yQ J l g:= .mk e λa r=>⟨b,a,_,_,h a,aiB c a<|lH f r,i a r⟩
def mV(b:Nat)(w:Ð):Prop:=(w.cell? ⟨b,0,Í⟩).isSome=Î/\(w.cell? ⟨b,1,Í⟩).isSome=Î
def mV.r(h:mV b w):∃v,w.cell? ⟨b,0,Í⟩=Ã v:=þ.1 h.1
def mV.C(h:mV b w):∃v,w.cell? ⟨b,1,Í⟩=Ã v:=þ.1 h.2
def RS(Ψ:Ð->Prop)(b:Nat)(w a:Ð):Prop:=w.heap.size<=a.heap.size/\(mV b w->mV b a)/\(Ψ w->Ψ a)
def SW(Ψ:Ð->Prop)(l:e9)(b:Nat)(w:Ð):Prop:=(∀j,l.O j->j<w.heap.size)/\mV b w/\Ψ w
def fA{Ψ:Ð->Prop}(h:SW Ψ l b w)(r:RS Ψ b w u):SW Ψ l b u:=⟨λj a=>Ê (h.1 j a) r.1,r.2.1 h.2.1,r.2.2 h.2.2⟩
def mf(Ψ:Ð->Prop)(l:e9)(b:Nat):Prop:=(l.K ⟨b,0,Í⟩\/l.M b)/\(l.K ⟨b,1,Í⟩\/l.M b)/\∀w c:Ð,w.heap.size<=c.heap.size->(∀j,l.M j->c.heap[j]?=w.heap[j]?)->(∀a,l.C a->c.cell? a=w.cell? a)->(∀a,l.C a->c.frozen? a=w.frozen? a)->(∀a,l.K a->(w.cell? a).isSome=Î->(c.cell? a).isSome=Î)->Ψ w->Ψ c
def mf.r{Ψ:Ð->Prop}(h:mf Ψ l b)(r:fF l w u):RS Ψ b w u:=⟨r.r,λq=>⟨h.1.elim (λk=>r.S _ k q.1) λm=>(by rw[gM<|r.I b m];exact q.1),h.2.1.elim (λk=>r.S _ k q.2) λm=>(by rw[gM<|r.I b m];exact q.2)⟩,h.2.2 w u r.r r.I r.N r.Y r.S⟩
def iY{Ψ:Ð->Prop}(a:mf Ψ l b)(hF:SW Ψ l b l.w)(c:Ĵ P yQ (RS Ψ b) á (λd e=>fg P yQ J {l with w:=e} d) n g l.w):fg P yQ J l g:= Rb c (λ_ _ r=>a.r r) hF.1 λ_ _ _ h=>h
def mI{Ψ:Ð->Prop}(c:mf Ψ l b)(hF:SW Ψ l b l.w)(h:∀a,SW Ψ l b a->J {l with w:=a} g):fg P yQ J l g:=.fy λa r=>h a<|fA hF<|c.r r
def rT{Ψ:Ð->Prop}(e:mf Ψ l b)(hF:SW Ψ l b l.w){m:ε}{c:Ä}(f:m=ô\/m=î)(i:g.status=Å)(h:∀a,é P yQ g a=ũ c a #[jy m])(j:∀a,SW Ψ l b a->fg P yQ J {l with d:=Ï l.d #[jy m],w:=a} c):fg P yQ J l g:= .aiC f i hF.1 h λa r=>j a<|fA hF<|e.r r
end
section
variable{b:ù}{i:List ŷ}
def E0(m:ε)(c:∀g,m≠.extern g)(d:y.defers=dcall F #[]::i)(e:P.funcs[F]?=Ã s)(f:(s.name== "runtime.NumGoroutine")=É)(j:s.body.isNone=Î)(k:Extern.findNext s=Í) (l:Extern.find s=Ã λ_=>do mark m;pure Extern.Race.none_) (w:Ð):é P yQ (G {b.at y L with mode:=ú} qX) w=ũ (G {b.at ⟨y.tmps,i⟩ L with mode:=ú} qX) w #[jy m]:= stepG_unwind_entry (v:=ń #[]) d e f j k l (by simp[Extern.Race.none_,jy]) (by simp[jy])<|by intro x a;simp[jy]at a;subst a;exact⟨U,λg h=>c g<|Loc.mark.inj h⟩
end
theorem YK(s:Nat)(h:s%4294967296<2147483648):s&&&2147483648=0:=by
 have e:(2147483648:Nat)=(2^32-1)&&&2147483648:=A
 have a:(2:Nat)^32=4294967296:=A
 rw[e,<-Nat.and_assoc,Ć,a];have c:s%4294967296=(s%4294967296)&&&(2^31-1):=by rw[Ć];have b:(2:Nat)^31=2147483648:=A;rw[b];omega
 grind
theorem E1(s:Int)(a:0<=s)(b:s<1000000*4294967296)(h:s%4294967296<1000000):bits .and Ó s 2147483648=0:=by obtain⟨n,rfl⟩:=Int.eq_ofNat_of_zero_le a;have h:=(bits_nat Ó 63 A ö n 2147483648 Z A).1;grind [YK]
theorem E2(s:Int)(a:0<=s)(b:s<1000000*4294967296)(h:s%4294967296<1000000):bits .and Ó s 2147483647=s%4294967296:=by have h:=bits_mask Ó 63 A ö 31 A s a Z;grind
section
variable{b:ù}{a:Ř}{k:List ŵ}{cs:List ù}{d:Nat}
def qd(P:Ĝ)(d:Nat)(g:Ä):Prop:=∃N,ſ P N d g
def E3(P:Ĝ):Jd:=λl g=>qd P l.d g
def LL{a:Ä}(b:g.status=Å)(h:∀w,é P É g w=ũ a w)(c:qd P d a):qd P d g:=let⟨n,q⟩:=c;⟨n+1,.ctl b h q⟩
def auL(f:Q[i]?=Ã o)(g:â o (ģ Q a.tmps)=Î)(j:b.kind≠đ) (h:∀(w:Ð) (K:Ř->Ð->Prop),K y w->uponK o a K ((ß a.eval o).run P w)) (n:∀w,(ß a.eval o).events P w #[]=#[]) (p:qd P d (G (b.at y<|Ç Q jJ::k) cs)):qd P d (G (b.at a<|Ç Q (i::jJ)::k) cs):=by
 refine LL U (λw=> ?_) p;have e:=h w (λx c=>x=y/\c=w) ⟨U,U⟩;have l:listed P b.fn a o w=#[]:=by unfold listed;rw[n w,ć]
 revert e;generalize m:(ß a.eval o).run P w=r;intro e;match r,e with
 |.ok (.value v) w',⟨c,x⟩=>subst x;rw[Ŏ f g j m,l,c]
 |.ok .skip w',⟨c,x⟩=>subst x;rw[ş f g j m,l,c]
def H6:∀{n m d:Nat} {g:Ä},n<=m->ſ P n d g->ſ P m d g
 |0,0,_,_,_,h=>h
 |0,_+1,_,_,_,h=>À h
 |_+1,0,_,_,e,_=>absurd e Z
 |_+1,_+1,_,_,e,h=>h.imp id λ⟨a,b,c,f,i,j⟩=>⟨a,b,c,f,i,H6 (Nat.le_of_succ_le_succ e) j⟩
def uw{n:Nat}{ops:Array Oper}{i:Nat}{rest:List Nat}{o:Oper}{a':Act}(hq:QuitsD P n d (G (b.at a'<|.inRegion ops rest::k) cs))(ho:ops[i]?=some o:=by rfl)(hw:Region.wanted o (yielded ops a.tmps)=true:=by rfl)(hk:b.kind≠.early:=by k_ne) (h:∀(w:World) (K:Act->World->Prop),K a' w->uponK o a K ((execOp a.eval o).run P w):=by intro w K hK;go_simp;(try w_num);exact hK) (he:∀w,(execOp a.eval o).events P w #[]=#[]:=by intro _;simp[go_sem, *]): QuitsD P (n+1) d (G (b.at a<|.inRegion ops (i::rest)::k) cs):=by
 refine QuitsD.ctl U (λw=> ?_) hq;have h1:=h w (λx y=>x=a'/\y=w) ⟨U,U⟩;have h2:listed P b.fn a o w=#[]:=by unfold listed;rw[he w,ć]
 revert h1;generalize hr:(ß a.eval o).run P w=r;intro h1;match r,h1 with
 |.ok (.value v) w',⟨e1,e2⟩=>subst e2;rw[Ŏ ho hw hk hr,h2,e1]
 |.ok .skip w',⟨e1,e2⟩=>subst e2;rw[ş ho hw hk hr,h2,e1]
end
section
variable{Ψ:Ð->Prop}{L:Ņ}{b:Nat}{l:e9}{a:Ř}{ops:Array ĸ}{rest:List Nat}{k:List ŵ}{cs:List ù}
def aiD(H:ŭ P L)(g:mf Ψ l b)(h:qd P 0 (G (f.at (a.put ((ops[i]?).bind (·.dst))<|ń #[])<|Ç ops rest::k) cs)): ∀(r:Nat) (c:Int) (j m o p q s t u v x y z B C D E F I J K M N O Q S T V W X Y qe pD pE oW oX qf qg qh qi qj qk qm qn qo n5 n7 rU Bf Bg Bh Bj Bl Bm Bn Bo Bp Bq Br Bs Bt Bu Bv Bw Bx By Bz BA BB BD BF BG BH BJ BK BL BM BN BO BP BQ BR BS BT BU BV BW BX BY BZ B1 B2 B3 B4 B5 B6 B7 B8 B9 Ca Cb Cc Cd Ce Cf Cg Ch Ci Cj Ck Cl Cm Cn Co Cp:è) (e:Ð),SW Ψ l b e->(c<=(r:Int)+1/\(r:Int)+1<=c)->r+1<1000000-> fg P É (Ho P É b (E3 P)<|r+1) {l with d:=1,w:=e} (G ((base L.add).at ⟨#[ø<|Ã ⟨b,0,Í⟩,j,m,o,p,q,s,t,æ å c,u,v,x,y,z,B,C,D,E,F,I,J,K,M,N,O,Q,S,T,V,W,X,Y,qe,pD,pE,oW,oX,qf,qg,qh,qi,qj,qk,qm,qn,qo,n5,n7,rU,Bf,Bg,Bh,Bj,Bl,Bm,Bn,Bo,Bp,Bq,Br,Bs,Bt,Bu,Bv,Bw,Bx,By,Bz,BA,BB,BD,BF,BG,BH,BJ,BK,BL,BM,BN,BO,BP,BQ,BR,BS,BT,BU,BV,BW,BX,BY,BZ,B1,B2,B3,B4,B5,B6,B7,B8,B9,Ca,Cb,Cc,Cd,Ce,Cf,Cg,Ch,Ci,Cj,Ck,Cl,Cm,Cn,Co,ø<|Ã ⟨b,1,Í⟩,Cp],[dcall L.enable #[]]⟩ [Ç #[{dst:=Ã 113,op:=ļ<|Ô 0,type:=L.tWgP,pos:= "waitgroup.go:142",after:=#[],guard:=Í},{dst:=Ã 114,op:=Ÿ<|Ô 113,type:=0,pos:= "waitgroup.go:142",after:=#[{on:=0,ground:=à}],guard:=Í},{dst:=Ã 115,op:=ű L.tWg (Ô 114) 2,type:=0,pos:= "waitgroup.go:142",after:=#[{on:=1,ground:=à}],guard:=Í},{dst:=Ã 116,op:= Š {callee:=ğ<|Ľ L.semrelease,args:= #[Ô 115,ì<|Δ É,ì<|æ ŀ 0],argTypes:=#[L.tPU32,4,3]},type:=0,pos:= "waitgroup.go:142",after:=#[{on:=2,ground:=à}],guard:=Í}] [3],Ś 2,ķ<|ġ 33 #[{dst:=Ã 111,op:=ļ<|Ô 8,type:=L.tU32,pos:= "waitgroup.go:141",after:=#[],guard:=Í},{dst:=Ã 112,op:=Ź BinOp.sub L.tU32 (Ô 111) (ì<|æ å 1) L.tU32,type:=L.tU32,pos:= "waitgroup.go:141",after:=#[{on:=0,ground:=à}],guard:=Í},{dst:=Ã 8,op:=η<|Ô 112,type:=L.tU32,pos:= "waitgroup.go:141",after:= #[{on:=1,ground:=à},{on:=0,ground:=Ĥ},{on:=1,ground:=Ĥ}],guard:=Í}] É,θ<|((ġ 32 #[{dst:=Ã 109,op:=ļ<|Ô 8,type:=L.tU32,pos:= "waitgroup.go:141",after:=#[],guard:=Í},{dst:=Ã 110,op:= Ź BinOp.neq L.tU32 (Ô 109) (ì<|æ å 0) L.tU32,type:=4,pos:= "waitgroup.go:141",after:=#[{on:=0,ground:=à}],guard:=Í}] É).seq<|ι (Ô 110) χ<|Code.exit 1).seq<|(ο 2<|ġ 34 #[{dst:=Ã 113,op:=ļ<|Ô 0,type:=L.tWgP,pos:= "waitgroup.go:142",after:=#[],guard:=Í},{dst:=Ã 114,op:=Ÿ<|Ô 113,type:=0,pos:= "waitgroup.go:142",after:=#[{on:=0,ground:=à}],guard:=Í},{dst:=Ã 115,op:=ű L.tWg (Ô 114) 2,type:=0,pos:= "waitgroup.go:142",after:=#[{on:=1,ground:=à}],guard:=Í},{dst:=Ã 116,op:= Š {callee:=ğ<|Ľ L.semrelease,args:= #[Ô 115,ì<|Δ É,ì<|æ ŀ 0],argTypes:=#[L.tPU32,4,3]},type:=0,pos:= "waitgroup.go:142",after:=#[{on:=2,ground:=à}],guard:=Í}] É).seq<|ġ 33 #[{dst:=Ã 111,op:=ļ<|Ô 8,type:=L.tU32,pos:= "waitgroup.go:141",after:=#[],guard:=Í},{dst:=Ã 112,op:= Ź BinOp.sub L.tU32 (Ô 111) (ì<|æ å 1) L.tU32,type:=L.tU32,pos:= "waitgroup.go:141",after:=#[{on:=0,ground:=à}],guard:=Í},{dst:=Ã 8,op:=η<|Ô 112,type:=L.tU32,pos:= "waitgroup.go:141",after:= #[{on:=1,ground:=à},{on:=0,ground:=Ĥ},{on:=1,ground:=Ĥ}],guard:=Í}] É,Ś 1])<|(base L.done).at {tmps:= #[ø<|Ã {block:=b,off:=0},Â,ø<|Ã {block:=b,off:=0},Â],defers:=[]} [Ç #[{dst:=Ã 2,op:=ļ<|Ô 0,type:=L.tWgP,pos:= "waitgroup.go:156",after:=#[],guard:=Í},{dst:=Ã 3,op:= Š {callee:=ğ<|Ľ L.add,args:=#[Ô 2,ì<|æ ŀ<|-1],argTypes:=#[L.tWgP,3]},type:=0,pos:= "waitgroup.go:156",after:=#[{on:=0,ground:=à}],guard:=Í}] [1]]::f.at a (Ç ops (i::rest)::k)::cs):=by
 intro r;lib_facts
 induction r with
 |zero=>
  intro c j m o p q s t u v x y z B C D E F I J K M N O Q S T V W X Y qe pD pE oW oX qf qg qh qi qj qk qm qn qo n5 n7 rU Bf Bg Bh Bj Bl Bm Bn Bo Bp Bq Br Bs Bt Bu Bv Bw Bx By Bz BA BB BD BF BG BH BJ BK BL BM BN BO BP BQ BR BS BT BU BV BW BX BY BZ B1 B2 B3 B4 B5 B6 B7 B8 B9 Ca Cb Cc Cd Ce Cf Cg Ch Ci Cj Ck Cl Cm Cn Co Cp e hF H7 gI;have e1:c=1:=Z
  subst e1;clear H7 gI;refine mI (l:={l with d:=1,w:=e}) g hF λpz hF=>⟨U,U,ū U U H.f_semrelease<|Ĕ L,_,U,λe n hc hf=>(ņ U U (by k_ne) U H.f_semrelease (š L) (Ĕ L) (Ţ L) (ţ L) (by simp[û,gR]) hc hf).trans fM,?_⟩;walk_nrm;show qd P 1 _;let⟨n,h⟩:=h;refine⟨n+150,?_⟩;repeat(first|refine uw ?_|q_go)
  q_en H L
  q_leave0 H.f_add
  repeat(first|refine uw ?_|q_go)
  q_leave0 H.f_done
  exact H6 Z h
 |succ r ih=>
  intro c j m o p q s t u v x y z B C D E F I J K M N O Q S T V W X Y qe pD pE oW oX qf qg qh qi qj qk qm qn qo n5 n7 rU Bf Bg Bh Bj Bl Bm Bn Bo Bp Bq Br Bs Bt Bu Bv Bw Bx By Bz BA BB BD BF BG BH BJ BK BL BM BN BO BP BQ BR BS BT BU BV BW BX BY BZ B1 B2 B3 B4 B5 B6 B7 B8 B9 Ca Cb Cc Cd Ce Cf Cg Ch Ci Cj Ck Cl Cm Cn Co Cp e hF H7 gI;have g1:(c-1)%4294967296=c-1:=Z
  have g2:(c-1 !=0)=Î:=by simp;omega
  refine mI (l:={l with d:=1,w:=e}) g hF λpz hF=>⟨U,U,ū U U H.f_semrelease<|Ĕ L,_,U,λe n hc hf=>(ņ U U (by k_ne) U H.f_semrelease (š L) (Ĕ L) (Ţ L) (ţ L) (by simp[û,gR]) hc hf).trans fM,?_⟩;walk_nrm;apply iY (l:={l with d:=1,w:=pz}) g hF (n:=50);iterate 22 w_go fA
  refine Ì λe YL=> ?_;replace hF:=fA hF YL;clear YL;exact ih (c-1) _ _ _ _ _ _ _ _ _ _ _ _ _ _ _ _ _ _ _ _ _ _ _ _ _ _ _ _ _ _ _ _ _ _ _ _ _ _ _ _ _ _ _ _ _ _ _ _ _ _ _ _ _ _ _ _ _ _ _ _ _ _ _ _ _ _ _ _ _ _ _ _ _ _ _ _ _ _ _ _ _ _ _ _ _ _ _ _ _ _ _ _ _ _ _ _ _ _ _ _ _ _ _ _ _ _ _ _ _ _ _ _ _ _ e hF Z Z
end
section
variable{Ψ:Ð->Prop}{L:Ņ}{l:e9}{k:List ŵ}
def aiE(H:ŭ P L)(J:l.K ⟨b,0,Í⟩/\l.K ⟨b,1,Í⟩)(z:mf Ψ l b)(hF:SW Ψ l b l.w)(B:l.d=0)(m:qd P 0 (G (f.at (y.put ((Q[i]?).bind (·.dst))<|ń #[])<|Ç Q jJ::k) qX)): fg P É (λl g=>yK P É b (E3 P) (kC l) g) l (G ((base L.done).at ⟨#[ø<|Ã ⟨b,0,Í⟩,Â,Â,Â],[]⟩ [ķ<|body_done L])<|f.at y (Ç Q (i::jJ)::k)::qX):=by
 lib_facts;simp only[body_done,doneFn,Ĉ];apply iY z hF (n:=40);iterate 2 w_go fA
 u_call H.f_add (nm_add L) addFn fA hF
 iterate 11 w_go fA
 u_conv H.underlying_tWgP H.room_tWg (mV.r hF.2.1).choose_spec fA hF
 refine Ì λa g=> ?_;replace hF:=fA hF g;clear g;refine mI (l:={l with w:=a}) z hF λc hF=>⟨B,U,_,λ_=>ă Ĳ fi U U (by k_ne) U H.f_relMerge (x_relMerge_n L) (x_relMerge_b L) (x_relMerge_x L) (x_relMerge_f L) (by simp[û,fL]),?_⟩;walk_nrm;have e:mf (λ_=>True) (kC {l with w:=c}) b:=⟨À J.1,À J.2,λ_ _ _ _ _ _ _ _=>trivial⟩;have C:SW (λ_=>True) (kC {l with w:=c}) b (kC {l with w:=c}).w:=⟨λj h=>h.elim,hF.2.1,trivial⟩;have M:(kC {l with w:=c}).d=0:=B;generalize kC {l with w:=c}=l2 at e C M|-;replace hF:=C;clear C z B;apply iY e hF (n:=10);iterate 3 w_go fA
 refine Ì λa g=> ?_;replace hF:=fA hF g;clear g;refine rT (l:={l2 with w:=a}) e hF (À U) U (λ_=>Ď ô fi U U (by k_ne) U H.f_disable (ŏ L) (Ő L) (ő L)<|Œ L) λT hF=> ?_;walk_nrm;have V:Ï l2.d #[jy ô]=1:=by rw[M];rfl
 rw[V];apply iY (l:={l2 with d:=1,w:=T}) e hF (n:=50);iterate 2 w_go fA
 u_defer fA hF
 iterate 8 w_go fA
 u_bub fA hF
 iterate 11 w_go fA
 u_call H.f_uAdd (nm_uAdd L) uAddFn fA hF
 iterate 10 w_go fA
 refine Ì λa g=> ?_;replace hF:=fA hF g;clear g;refine mI (l:={l2 with d:=1,w:=a}) e hF λc hF=>⟨U,U,λv=>⟨_,λa q D=>(Ň U U (by k_ne) U H.f_addU64 (Ε L) (Ζ L) (Η L) Ó (Θ L) U U q D).trans fM,?_⟩⟩;walk_nrm;have N:Ó.wrap (v+18446744069414584320)=Ó.wrap (v+qV):=rfl;rw[N];clear N;obtain⟨s,E⟩:∃s,Ó.wrap (v+qV)=s:=⟨_,U⟩;simp only[E];have F:0<=s:=by rw[<-E];have:Ó.wrap (v+qV)=(v+qV)%18446744073709551616:=rfl;rw[this];omega
 clear E v;by_cases p:s=0\/(fX<=s/\s<1000000*fX/\s%fX<1000000)
 .rw[if_pos p];by_cases o:s=0
  .subst o;clear p F;show qd P 1 _;let⟨n,m⟩:=m;refine⟨n+150,?_⟩;repeat(first|refine uw ?_|q_go)
   q_leave1 H.f_uAdd
   repeat(first|refine uw ?_|q_go)
   q_en H L
   q_leave0 H.f_add
   repeat(first|refine uw ?_|q_go)
   q_leave0 H.f_done
   exact H6 Z m
  .have W:=p.resolve_left o;clear p o F;let⟨X,Y,c6⟩:=W;have q4:(4294967296:Int)<=s:=X;have I:s<1000000*4294967296:=Y;have O:s%4294967296<1000000:=c6;have f1:=E1 s Z I O;have t:=E2 s Z I O;obtain⟨x,g1⟩:∃x,(s/4294967296+2147483648)%4294967296-2147483648=x:=⟨_,U⟩;have g2:¬x<0:=Z
   have g3:0<x:=Z
   by_cases u:s%4294967296=0
   .rw[u]at t;show qd P 1 _;let⟨n,m⟩:=m;refine⟨n+150,?_⟩;repeat(first|refine uw ?_|q_go)
    q_leave1 H.f_uAdd
    repeat(first|refine uw ?_|q_go)
    q_en H L
    q_leave0 H.f_add
    repeat(first|refine uw ?_|q_go)
    q_leave0 H.f_done
    exact H6 Z m
   .obtain⟨r,g4⟩:∃r,s%4294967296=r:=⟨_,U⟩;rw[g4]at t u;have S:r%4294967296=r:=Z
    have g6:(r !=0)=Î:=by simpa using u
    show qd P 1 _;let⟨n,m⟩:=m;refine⟨n+150,?_⟩;repeat(first|refine uw ?_|q_go)
    q_leave1 H.f_uAdd
    repeat(first|refine uw ?_|q_go)
    q_en H L
    q_leave0 H.f_add
    repeat(first|refine uw ?_|q_go)
    q_leave0 H.f_done
    exact H6 Z m
 .rw[if_neg p];by_cases o:0<s/\s<1000000
  .rw[if_pos o];let⟨q4,I⟩:=o;clear p F;have f1:=E1 s Z Z Z;have t:=E2 s Z Z Z;have g1:(s/4294967296+2147483648)%4294967296-2147483648=0:=Z
   have S:s%4294967296=s:=Z
   rw[S]at t;have g6:(s !=0)=Î:=by simp;omega
   have X:(s==0)=É:=by simp;omega
   have O:(s.toNat:Int)=s:=Z
   apply iY (l:={l2 with d:=1,w:=c}) e hF (n:=150);iterate 3 w_go fA
   u_leave1 H.f_uAdd fA hF
   iterate 89 w_go fA
   u_call H.f_uLoad (Ť L) Ų fA hF
   iterate 9 w_go fA
   refine Ì λa g=> ?_;replace hF:=fA hF g;clear g;refine mI (l:={l2 with d:=1,w:=a}) e hF λc hF=>⟨U,U,λv=>⟨_,λa q=>Ą U U (by k_ne) U H.f_loadU64 (ī L) (Ĭ L) (ĭ L) Ó (Į L) U q,?_⟩⟩;show fg P É (if v=(s.toNat:Int)then Lb P É b (E3 P) s.toNat else λ_ _=>True) _ _;by_cases u:v=(s.toNat:Int)
   .rw[if_pos u];rw[O]at u;subst u;walk_nrm;have Y:(v !=v)=É:=fi
    apply iY (l:={l2 with d:=1,w:=c}) e hF (n:=150);iterate 3 w_go fA
    u_leave1 H.f_uLoad fA hF
    iterate 10 w_go fA
    u_call H.f_uStore (nm_uStore L) uStoreFn fA hF
    iterate 5 w_go fA
    refine Ì λa g=> ?_;replace hF:=fA hF g;clear g;refine mI (l:={l2 with d:=1,w:=a}) e hF λc hF=>⟨U,U,_,λa x q D=>stepG_store_atomic U U (by k_ne) U H.f_storeU64 (x_storeU64_n L) (x_storeU64_b L) (x_storeU64_x L) (x_storeU64_f L) U U q D,?_⟩;walk_nrm;obtain⟨r,W⟩:∃r,v.toNat=r+1:=⟨v.toNat-1,Z⟩;rw[W];apply iY (l:={l2 with d:=1,w:=c}) e hF (n:=150);iterate 2 w_go fA
    u_leave0 H.f_uStore fA hF
    iterate 24 w_go fA
    refine Ì λa g=> ?_;replace hF:=fA hF g;clear g;exact aiD H e m r v _ _ _ _ _ _ _ _ _ _ _ _ _ _ _ _ _ _ _ _ _ _ _ _ _ _ _ _ _ _ _ _ _ _ _ _ _ _ _ _ _ _ _ _ _ _ _ _ _ _ _ _ _ _ _ _ _ _ _ _ _ _ _ _ _ _ _ _ _ _ _ _ _ _ _ _ _ _ _ _ _ _ _ _ _ _ _ _ _ _ _ _ _ _ _ _ _ _ _ _ _ _ _ _ _ _ _ _ _ _ _ _ _ _ a hF Z Z
   .rw[if_neg u];exact .fy λ_ _=>trivial
  .rw[if_neg o];trivial
end
def RT(_ _:Ð):Prop:=True
def ft{w₁:Ð}(_:True)(_:RT w w₁):True:=trivial
def aiF(s:Int)(a:0<=s)(b:s<9223372036854775808)(h:s%4294967296<1000000):bits .and Ó s 2147483648=0:=by obtain⟨n,rfl⟩:=Int.eq_ofNat_of_zero_le a;have h:=(bits_nat Ó 63 A ö n 2147483648 Z A).1;rw[YK n Z]at h;simpa using h
def aiG(s:Int)(a:0<=s)(c:s<9223372036854775808)(h:s%4294967296<1000000):bits .and Ó s 2147483647=s%4294967296:=by
 have h:=bits_mask Ó 63 A ö 31 A s a Z;have e:((2:Int)^31-1)=2147483647:=A
 have b:((2:Int)^31)=2147483648:=A
 rw[e,b]at h;rw[h];omega
section
variable(P:Ĝ)(L:Ņ)(f:Bool)(b:Nat)(j:Jd)(c:ù)(m:List ù)(l:e9)
def YM(g:Ä):Prop:=∃T:Array è,g=G ((base L.wait).at ⟨T,[]⟩ [ķ<|L7 L,θ<|L7 L,Ś 0]) (c::m)/\T.size=84/\T[0]?=Ã (ø<|Ã ⟨b,0,Í⟩)
def YN(v:Int)(g:Ä):Prop:=g.status=Å/\
 (∃a,(∀w:Ð,w.cell? (fL b)=Ã (æ Ó v)->w.frozen? (fL b)=É->é P f g w=ũ a (w.setCell (fL b)<|æ Ó<|Ó.wrap<|v+1) #[kA<|fL b,mU<|fL b])/\fg P f (if v%fX=0 then Qh P f b j else Ld P f b j) l a)/\
 ∃a,(∀(w:Ð) (x:Int),x≠v->w.cell? (fL b)=Ã (æ Ó x)->w.frozen? (fL b)=É->é P f g w=ũ a w #[kA<|fL b])/\∀w,Ĵ P f RT á (λg _=>YM L b c m g) 10 a w
def Rc(g:Ä):Prop:=g.status=Å/\∀v,∃a,(∀w:Ð,w.cell? (fL b)=Ã (æ Ó v)->é P f g w=ũ a w #[kA<|fL b])/\(0<=v/\v<1000000->fg P f (EC P f b j) l a)/\
 ((fX<=v/\v<fX*2147483648/\v%fX<1000000)->∀w,Ĵ P f RT á (λg _=>YN P L f b j c m l v g) 60 a w)
end
section
variable{Ψ:Ð->Prop}{P:Ĝ}{L:Ņ}{f:Bool}{b:Nat}{l:e9}{j:Jd}{c:ù}{a:Ř}{k:List ŵ}{m:List ù}
def YO(H:ŭ P L)(p:mf Ψ l b)(M:SW Ψ l b l.w)(s:l.d=1)(D:∀o,SW Ψ l b o->fg P f j {l with d:=0,w:=o} (G (c.at (a.put ((Q[i]?).bind (·.dst))<|ń #[])<|Ç Q jJ::k) m)) (h:YM L b (c.at a<|Ç Q (i::jJ)::k) m g) (w:Ð):Ĵ P f RT á (λg _=>Rc P L f b j (c.at a<|Ç Q (i::jJ)::k) m l g) 30 g w:=by
 lib_facts;obtain⟨T,rfl,W,N⟩:=h;obtain⟨v0,v1,v2,v3,v4,v5,v6,v7,v8,v9,v10,v11,v12,v13,v14,v15,v16,v17,v18,v19,v20,v21,v22,v23,v24,v25,v26,v27,v28,v29,v30,v31,v32,v33,v34,v35,v36,v37,v38,v39,v40,v41,v42,v43,v44,v45,v46,v47,v48,v49,v50,v51,v52,v53,v54,v55,v56,v57,v58,v59,v60,v61,v62,v63,v64,v65,v66,v67,v68,v69,v70,v71,v72,v73,v74,v75,v76,v77,v78,v79,v80,v81,v82,v83,rfl⟩:=array84 T W;simp only[List.getElem?_toArray,List.getElem?_cons_zero,ĺ]at N;subst N;have hF:True:=trivial;simp only[L7,Ů,waitFn,Ĉ];iterate 6 w_go ft
 u_call H.f_uLoad (Ť L) Ų ft hF
 iterate 9 w_go ft
 refine Ì λo e=> ?_;clear e hF o;refine⟨U,λv=>⟨_,λo q=>Ą U U (by k_ne) U H.f_loadU64 (ī L) (Ĭ L) (ĭ L) Ó (Į L) U q,λE=> ?_,λE w=> ?_⟩⟩
 .walk_nrm;let⟨u,x⟩:=E;have X:=E1 v Z Z Z;have F:=E2 v Z Z Z;have Y:(v/4294967296+2147483648)%4294967296-2147483648=0:=Z
  have O:v%4294967296=v:=Z
  rw[O]at F;have hF:=M;apply iY (l:=l) p hF (n:=150);iterate 3 w_go fA
  u_leave1 H.f_uLoad fA hF
  iterate 27 w_go fA
  refine Ì λo e=> ?_;replace hF:=fA hF e;clear e;refine rT (l:={l with w:=o}) p hF (Á U) U (λ_=>Ď î fi U U (by k_ne) U H.f_enable (ĥ L) (Ħ L) (ħ L)<|Ĩ L) λz hF=> ?_;have B:Ï l.d #[jy î]=0:=by rw[s];rfl
  rw[B];walk_nrm;apply iY (l:={l with d:=0,w:=z}) p hF (n:=50);iterate 3 w_go fA
  u_conv H.underlying_tWgP H.room_tWg (mV.r hF.2.1).choose_spec fA hF
  refine Ì λo e=> ?_;replace hF:=fA hF e;clear e;refine mI (l:={l with d:=0,w:=o}) p hF λr hF=>⟨U,U,_,λ_=>ă Ĺ fi U U (by k_ne) U H.f_acquire (œ L) (Ŕ L) (ŕ L) (Ŗ L) (by simp[û,fL]),?_⟩;walk_nrm;by_cases t:v=0
  .subst t;apply iY (l:={l with d:=0,w:=r}) p hF (n:=50);iterate 19 w_go fA
   u_leave0 H.f_wait fA hF
   refine Ì λo e=> ?_;replace hF:=fA hF e;clear e;exact D _ hF
  .have g6:(v==0)=É:=by simp;omega
   apply iY (l:={l with d:=0,w:=r}) p hF (n:=50);iterate 19 w_go fA
   u_leave0 H.f_wait fA hF
   refine Ì λo e=> ?_;replace hF:=fA hF e;clear e;exact D _ hF
 .walk_nrm;let⟨S,V,c6⟩:=E;have q4:(4294967296:Int)<=v:=S;have q5:v<4294967296*2147483648:=V;have I:v%4294967296<1000000:=c6;clear S V;have F:=aiG v Z Z I;obtain⟨J,Y⟩:∃J,(v/4294967296+2147483648)%4294967296-2147483648=J:=⟨_,U⟩;have g2:(J==0)=É:=by simp;omega
  have g3:(v+1)%18446744073709551616=v+1:=Z
  have zg:Ó.wrap (v+1)=v+1:=La Z Z;obtain⟨y,g4⟩:∃y,v%4294967296=y:=⟨_,U⟩;have X:=aiF v Z Z I;rw[g4]at F I;have O:y%4294967296=y:=Z
  have hF:True:=trivial;iterate 3 w_go ft
  u_leave1 H.f_uLoad ft hF
  iterate 32 w_go ft
  u_call H.f_uCas (nm_uCas L) uCasFn ft hF
  iterate 11 w_go ft
  refine Ì λo e=> ?_;clear e hF o;refine⟨U,⟨_,λo q u=>(stepG_cas_hit (v:=v) (n:=v+1) U U (by k_ne) U H.f_casU64 (Ι L) (Κ L) (Λ L) Ó (Μ L) U U U q u).trans (by rw[zg];rfl),?_⟩,_,λo x lr q u=>stepG_cas_miss (v:=x) (old:=v) (n:=v+1) U U (by k_ne) U H.f_casU64 (Ι L) (Κ L) (Λ L) Ó (Μ L) U U U q u lr,λw=> ?_⟩
  .walk_nrm;have hF:=M;by_cases t:v%fX=0
   .rw[if_pos t];have t:v%4294967296=0:=t;have:y=0:=Z
    subst this;apply iY (l:=l) p hF (n:=150);iterate 3 w_go fA
    u_leave1 H.f_uCas fA hF
    iterate 15 w_go fA
    u_conv H.underlying_tPU32 H.room_tU32 (mV.C hF.2.1).choose_spec fA hF
    refine Ì λo e=> ?_;replace hF:=fA hF e;clear e;refine mI (l:={l with w:=o}) p hF λr hF=>⟨s,U,_,λ_=>ă κ fi U U (by k_ne) U H.f_raceWrite (x_raceWrite_n L) (x_raceWrite_b L) (x_raceWrite_x L) (x_raceWrite_f L) (by simp[û,gR]),?_⟩;walk_nrm;apply iY (l:={l with w:=r}) p hF (n:=150);iterate 23 w_go fA
    refine Ì λo e=> ?_;replace hF:=fA hF e;clear e;refine mI (l:={l with w:=o}) p hF λr hF=>⟨s,U,U,λo q=>Ī U U U H.f_semacquire (ĕ L) (Ė L) (ė L) (Ę L) (by simp[û,gR]) q,_,λo n K q u=>(ň (n:=n) U U (by k_ne) U H.f_semacquire (ĕ L) (Ė L) (ė L) (Ę L) (by simp[û,gR]) q K u).trans fM,?_⟩;walk_nrm;apply iY (l:={l with w:=r}) p hF (n:=50);iterate 6 w_go fA
    u_call H.f_uLoad (Ť L) Ų fA hF
    iterate 9 w_go fA
    refine Ì λo e=> ?_;replace hF:=fA hF e;clear e;refine mI (l:={l with w:=o}) p hF λr hF=>⟨s,U,λx=>⟨_,λo q=>Ą U U (by k_ne) U H.f_loadU64 (ī L) (Ĭ L) (ĭ L) Ó (Į L) U q,?_⟩⟩;show fg P f (if x=0 then EC P f b j else λ_ _=>True) _ _;by_cases C:x=0
    .subst C;rw[if_pos U];walk_nrm;apply iY (l:={l with w:=r}) p hF (n:=50);iterate 3 w_go fA
     u_leave1 H.f_uLoad fA hF
     iterate 7 w_go fA
     refine Ì λo e=> ?_;replace hF:=fA hF e;clear e;refine rT (l:={l with w:=o}) p hF (Á U) U (λ_=>Ď î fi U U (by k_ne) U H.f_enable (ĥ L) (Ħ L) (ħ L)<|Ĩ L) λz hF=> ?_;have B:Ï l.d #[jy î]=0:=by rw[s];rfl
     rw[B];walk_nrm;apply iY (l:={l with d:=0,w:=z}) p hF (n:=50);iterate 3 w_go fA
     u_conv H.underlying_tWgP H.room_tWg (mV.r hF.2.1).choose_spec fA hF
     refine Ì λo e=> ?_;replace hF:=fA hF e;clear e;refine mI (l:={l with d:=0,w:=o}) p hF λr hF=>⟨U,U,_,λ_=>ă Ĺ fi U U (by k_ne) U H.f_acquire (œ L) (Ŕ L) (ŕ L) (Ŗ L) (by simp[û,fL]),?_⟩;walk_nrm;apply iY (l:={l with d:=0,w:=r}) p hF (n:=50);iterate 9 w_go fA
     u_leave0 H.f_wait fA hF
     refine Ì λo e=> ?_;replace hF:=fA hF e;clear e;exact D _ hF
    .rw[if_neg C];exact .fy λ_ _=>trivial
   .rw[if_neg t];have t:¬v%4294967296=0:=t;have g6:(y==0)=É:=by simp;omega
    apply iY (l:=l) p hF (n:=150);iterate 3 w_go fA
    u_leave1 H.f_uCas fA hF
    iterate 34 w_go fA
    refine Ì λo e=> ?_;replace hF:=fA hF e;clear e;refine mI (l:={l with w:=o}) p hF λr hF=>⟨s,U,U,λo q=>Ī U U U H.f_semacquire (ĕ L) (Ė L) (ė L) (Ę L) (by simp[û,gR]) q,_,λo n K q u=>(ň (n:=n) U U (by k_ne) U H.f_semacquire (ĕ L) (Ė L) (ė L) (Ę L) (by simp[û,gR]) q K u).trans fM,?_⟩;walk_nrm;apply iY (l:={l with w:=r}) p hF (n:=50);iterate 6 w_go fA
    u_call H.f_uLoad (Ť L) Ų fA hF
    iterate 9 w_go fA
    refine Ì λo e=> ?_;replace hF:=fA hF e;clear e;refine mI (l:={l with w:=o}) p hF λr hF=>⟨s,U,λx=>⟨_,λo q=>Ą U U (by k_ne) U H.f_loadU64 (ī L) (Ĭ L) (ĭ L) Ó (Į L) U q,?_⟩⟩;show fg P f (if x=0 then EC P f b j else λ_ _=>True) _ _;by_cases C:x=0
    .subst C;rw[if_pos U];walk_nrm;apply iY (l:={l with w:=r}) p hF (n:=50);iterate 3 w_go fA
     u_leave1 H.f_uLoad fA hF
     iterate 7 w_go fA
     refine Ì λo e=> ?_;replace hF:=fA hF e;clear e;refine rT (l:={l with w:=o}) p hF (Á U) U (λ_=>Ď î fi U U (by k_ne) U H.f_enable (ĥ L) (Ħ L) (ħ L)<|Ĩ L) λz hF=> ?_;have B:Ï l.d #[jy î]=0:=by rw[s];rfl
     rw[B];walk_nrm;apply iY (l:={l with d:=0,w:=z}) p hF (n:=50);iterate 3 w_go fA
     u_conv H.underlying_tWgP H.room_tWg (mV.r hF.2.1).choose_spec fA hF
     refine Ì λo e=> ?_;replace hF:=fA hF e;clear e;refine mI (l:={l with d:=0,w:=o}) p hF λr hF=>⟨U,U,_,λ_=>ă Ĺ fi U U (by k_ne) U H.f_acquire (œ L) (Ŕ L) (ŕ L) (Ŗ L) (by simp[û,fL]),?_⟩;walk_nrm;apply iY (l:={l with d:=0,w:=r}) p hF (n:=50);iterate 9 w_go fA
     u_leave0 H.f_wait fA hF
     refine Ì λo e=> ?_;replace hF:=fA hF e;clear e;exact D _ hF
    .rw[if_neg C];exact .fy λ_ _=>trivial
  .walk_nrm;have hF:True:=trivial;iterate 3 w_go ft
   u_leave1 H.f_uCas ft hF
   iterate 5 w_go ft
   exact Ì λ_ _=>⟨_,U,fi,fi⟩
end
section
variable{Ψ:Ð->Prop}{L:Ņ}{l:e9}{e:Jd}{k:List ŵ}
def aiH{D:Ð->Ð->Array Ē->Prop}{b:Ä->Ð->Prop}(h:Ĵ P yQ RT D b n g w):Ĵ P yQ RT D b n g u:=by
 cases n with
 |zero=>exact λa _=>h a trivial
 |succ n=>exact h.imp (λq a _=>q a trivial) λq=>⟨q.1,λa _=>q.2 a trivial⟩
def YP{D:Ð->Ð->Array Ē->Prop}{b c:Ä->Prop}(d:∀g,b g->∀w,Ĵ P yQ RT D (λg _=>c g) m g w):∀{n:Nat} {g:Ä} {w:Ð},Ĵ P yQ RT D (λg _=>b g) n g w->Ĵ P yQ RT D (λg _=>c g) (n+m) g w:=by
 intro n
 induction n with
 |zero=>intro g w h;rw[Nat.zero_add];exact d g (h w trivial) w
 |succ n i=>
  intro g w h;rcases h with h|⟨j,h⟩
  .exact(d g (h w trivial) w).mono Z
  .rw[show n+1+m=(n+m)+1 by omega];refine Goes.step j λe r=> ?_;have a:=h e r;cases f:é P yQ g e with
   |go k l o=>
    rw[f,Ű]at a;rw[Ű];exact⟨a.1,i a.2⟩
   |_=>rw[f]at a;exact a.elim
theorem YQ{S:Ä->Prop}(l:∀g,S g->g.status=Å)(h:∀w,Ĵ P yQ RT á (λg _=>S g) (n+1) g w):g.status=Å/\(S g\/∀a,∃b,é P yQ g a=ũ b a #[]/\∀w,Ĵ P yQ RT á (λg _=>S g) n b w):=by
 by_cases e:S g
 .grind
 .rcases h default with q|⟨f,q⟩
  .exact absurd (q default trivial) e
  .refine⟨f,Á λa=> ?_⟩;have c:=q a trivial;cases d:é P yQ g a with
   |go b m o=>
    rw[d,Ű]at c;let⟨⟨i,j⟩,k⟩:=c;subst i j;exact⟨b,U,λw=>aiH k⟩
   |_=>rw[d]at c;exact c.elim
def aiI(H:ŭ P L)(B:60<=j)(D:mf Ψ l b)(E:SW Ψ l b l.w)(C:l.d=1)(F:∀a,SW Ψ l b a->fg P yQ e {l with d:=0,w:=a} (G (f.at (y.put ((Q[i]?).bind (·.dst))<|ń #[])<|Ç Q jJ::k) qX)) (I:n<=j) (h:∀w,Ĵ P yQ RT á (λg _=>Rc P L yQ b e (f.at y<|Ç Q (i::jJ)::k) qX l g) n g w):Qi P yQ j b e (.fY n) l g:=by
 refine⟨C,λp g=>match p with
  |.fY n=>n<=j/\∀w,Ĵ P yQ RT á (λg _=>Rc P L yQ b e (f.at y<|Ç Q (i::jJ)::k) qX l g) n g w
  |.ld v m=>m<=j/\fX<=v/\∀w,Ĵ P yQ RT á (λg _=>YN P L yQ b e (f.at y (Ç Q (i::jJ)::k)) qX l v g) m g w,⟨I,h⟩,λp g J=> ?_⟩
 match p,J with
 |.fY (n+1),⟨h1,h2⟩=>
  let⟨r,u⟩:=YQ (λg h=>h.1) h2;refine⟨r,h1,u.imp (λq=>⟨ò _,λw a _=>q⟩) λq a=> ?_⟩;let⟨s,c,o⟩:=q a;exact⟨s,c,Z,o⟩
 |.fY 0,⟨_,h2⟩=>
  have q:=h2 default default trivial;refine⟨q.1,λv=> ?_⟩;let⟨s,c,o,x⟩:=q.2 v;refine⟨s,c,?_⟩;by_cases z:0<=v/\v<fX
  .rw[if_pos z];exact λt=>o ⟨z.1,t⟩
  .rw[if_neg z];exact λt=>⟨60,B,B,t.1,x t⟩
 |.ld v (m+1),⟨h1,h0,h2⟩=>
  let⟨r,u⟩:=YQ (λg h=>h.1) h2;refine⟨r,h0,h1,u.imp (λq=>⟨ò _,h0,λw a _=>q⟩) λq a=> ?_⟩;let⟨s,c,o⟩:=q a;exact⟨s,c,Z,h0,o⟩
 |.ld v 0,⟨_,h0,h2⟩=>
  let⟨r,⟨m,c,o⟩,q,x,s⟩:=h2 default default trivial;exact⟨r,h0,⟨m,c,o⟩,q,x,40,Z,Z,λw=>YP (λg t=>YO H D E C F t)<|s w⟩
def YR(H:ŭ P L)(o:60<=j)(a:mf Ψ l b)(hF:SW Ψ l b l.w)(p:l.d=0)(h:∀c,SW Ψ l b c->fg P yQ e {l with d:=0,w:=c} (G (f.at (y.put ((Q[i]?).bind (·.dst))<|ń #[])<|Ç Q jJ::k) qX)): fg P yQ (qW P yQ j b e .iX) l (G ((base L.wait).at ⟨#[ø<|Ã ⟨b,0,Í⟩,Â,Â,Â,Â,Â,Â,Â,Â,Â,Â,Â,Â,Â,Â,Â,Â,Â,Â,Â,Â,Â,Â,Â,Â,Â,Â,Â,Â,Â,Â,Â,Â,Â,Â,Â,Â,Â,Â,Â,Â,Â,Â,Â,Â,Â,Â,Â,Â,Â,Â,Â,Â,Â,Â,Â,Â,Â,Â,Â,Â,Â,Â,Â,Â,Â,Â,Â,Â,Â,Â,Â,Â,Â,Â,Â,Â,Â,Â,Â,Â,Â,Â,Â],[]⟩ [ķ<|Ů L])<|f.at y (Ç Q (i::jJ)::k)::qX):=by
 lib_facts;simp only[Ů,waitFn,Ĉ];apply iY a hF (n:=40);iterate 3 w_go fA
 refine Ì λc q=> ?_;replace hF:=fA hF q;refine rT a hF (À U) U (λ_=>Ď ô fi U U (by k_ne) U H.f_disable (ŏ L) (Ő L) (ő L)<|Œ L) λt hF=> ?_;walk_nrm;have r:Ï l.d #[jy ô]=1:=by rw[p];rfl
 rw[r];refine mI a hF λm hF=>⟨40,Z,aiI (l:={l with d:=1,w:=m}) H o a hF U h Z λw=>YP (λg s=>YO (l:={l with d:=1,w:=m}) H a hF U h s) ?_⟩;replace hF:True:=trivial;iterate 3 w_go ft
 exact Ì λ_ _=>⟨_,U,fi,fi⟩
end
section
variable(P:Ĝ)(e:Bool)(b:Nat)(J:Jd)
def rd1:Jd:=λl g=>l.d=1/\Hm P e (.read<|gR b) J l g
def LN:Jd:=λl g=>l.d=1/\P4 P e (fL b) fX (λs=>if s=fX then fg P e (rd1 P e b J)else if fX<s/\s<1000000*fX/\s%fX=0 then fg P e J else λ_ _=>True) l g
end
def aiJ(F:Ph)(j:Nat)(a:Nat->Nat):Qm F j a=LN F.P Î F.C (Lg F j a):=rfl
section
variable{Ψ:Ð->Prop}{P:Ĝ}{L:Ņ}{e:Bool}{b:Nat}{l:e9}{f:Jd}{c:ù}{k:List ŵ}
def YS(H:ŭ P L)(h:mf Ψ l b)(hF:SW Ψ l b l.w)(E:l.d=0)(t:∀g,SW Ψ l b g->fg P e f {l with d:=0,w:=g} (G (c.at (y.put ((Q[i]?).bind (·.dst))<|ń #[])<|Ç Q jJ::k) qX)): fg P e (LN P e b f) l (G ((base L.add).at ⟨#[ø<|Ã ⟨b,0,Í⟩,æ ŀ 1,Â,Â,Â,Â,Â,Â,Â,Â,Â,Â,Â,Â,Â,Â,Â,Â,Â,Â,Â,Â,Â,Â,Â,Â,Â,Â,Â,Â,Â,Â,Â,Â,Â,Â,Â,Â,Â,Â,Â,Â,Â,Â,Â,Â,Â,Â,Â,Â,Â,Â,Â,Â,Â,Â,Â,Â,Â,Â,Â,Â,Â,Â,Â,Â,Â,Â,Â,Â,Â,Â,Â,Â,Â,Â,Â,Â,Â,Â,Â,Â,Â,Â,Â,Â,Â,Â,Â,Â,Â,Â,Â,Â,Â,Â,Â,Â,Â,Â,Â,Â,Â,Â,Â,Â,Â,Â,Â,Â,Â,Â,Â,Â,Â,Â,Â],[]⟩ [ķ<|body_add L])<|c.at y (Ç Q (i::jJ)::k)::qX):=by
 lib_facts;simp only[body_add,addFn,Ĉ];apply iY h hF (n:=40);iterate 12 w_go fA
 refine Ì λg a=> ?_;replace hF:=fA hF a;clear a;refine rT (l:={l with w:=g}) h hF (À U) U (λ_=>Ď ô fi U U (by k_ne) U H.f_disable (ŏ L) (Ő L) (ő L)<|Œ L) λj hF=> ?_;walk_nrm;have F:Ï l.d #[jy ô]=1:=by rw[E];rfl
 rw[F];apply iY (l:={l with d:=1,w:=j}) h hF (n:=50);iterate 2 w_go fA
 u_defer fA hF
 iterate 8 w_go fA
 u_bub fA hF
 iterate 11 w_go fA
 u_call H.f_uAdd (nm_uAdd L) uAddFn fA hF
 iterate 10 w_go fA
 refine Ì λg a=> ?_;replace hF:=fA hF a;clear a;refine mI (l:={l with d:=1,w:=g}) h hF λq hF=>⟨U,U,λv=>⟨_,λg I J=>(Ň U U (by k_ne) U H.f_addU64 (Ε L) (Ζ L) (Η L) Ó (Θ L) U U I J).trans fM,?_⟩⟩;walk_nrm;have u:Ó.wrap (v+4294967296)=Ó.wrap (v+fX):=rfl;rw[u];clear u;obtain⟨s,x⟩:∃s,Ó.wrap (v+fX)=s:=⟨_,U⟩;simp only[x];clear x v;by_cases m:s=fX
 .rw[if_pos m];have o:s=4294967296:=m;clear m;subst o;apply iY (l:={l with d:=1,w:=q}) h hF (n:=150);iterate 3 w_go fA
  u_leave1 H.f_uAdd fA hF
  iterate 48 w_go fA
  u_conv H.underlying_tPU32 H.room_tU32 (mV.C hF.2.1).choose_spec fA hF
  refine Ì λg a=> ?_;replace hF:=fA hF a;clear a;refine mI (l:={l with d:=1,w:=g}) h hF λq hF=>⟨U,U,_,λ_=>ă .read fi U U (by k_ne) U H.f_raceRead (x_raceRead_n L) (x_raceRead_b L) (x_raceRead_x L) (x_raceRead_f L) (by simp[û,gR]),?_⟩;walk_nrm;apply iY (l:={l with d:=1,w:=q}) h hF (n:=150);iterate 39 w_go fA
  refine Ì λg a=> ?_;replace hF:=fA hF a;clear a;refine rT (l:={l with d:=1,w:=g}) h hF (Á U) U (λw=>E0 î fi U H.f_enable (ĥ L) (Ħ L) (ħ L) (Ĩ L) w) λj hF=> ?_;have r:Ï 1 #[jy î]=0:=rfl;rw[r];apply iY (l:={l with d:=0,w:=j}) h hF (n:=10);u_leave0 H.f_add fA hF;refine Ì λg a=> ?_;replace hF:=fA hF a;clear a;exact t _ hF
 .rw[if_neg m];by_cases o:fX<s/\s<1000000*fX/\s%fX=0
  .rw[if_pos o];let⟨z,B,C⟩:=o;have N:(4294967296:Int)<s:=z;have D:s<1000000*4294967296:=B;have K:s%4294967296=0:=C;clear m z B C;have O:=E1 s Z D Z;have M:=E2 s Z D Z;rw[K]at M;obtain⟨p,S⟩:∃p,(s/4294967296+2147483648)%4294967296-2147483648=p:=⟨_,U⟩;have T:¬p<0:=Z
   have V:0<p:=Z
   have W:(p==1)=É:=by simp;omega
   apply iY (l:={l with d:=1,w:=q}) h hF (n:=150);iterate 3 w_go fA
   u_leave1 H.f_uAdd fA hF
   iterate 83 w_go fA
   refine Ì λg a=> ?_;replace hF:=fA hF a;clear a;refine rT (l:={l with d:=1,w:=g}) h hF (Á U) U (λw=>E0 î fi U H.f_enable (ĥ L) (Ħ L) (ħ L) (Ĩ L) w) λj hF=> ?_;have r:Ï 1 #[jy î]=0:=rfl;rw[r];apply iY (l:={l with d:=0,w:=j}) h hF (n:=10);u_leave0 H.f_add fA hF;refine Ì λg a=> ?_;replace hF:=fA hF a;clear a;exact t _ hF
  .rw[if_neg o];trivial
end
def AN:ρ->Nat->ρ
 |.seq a _,0=>a
 |.seq _ b,_=>b
 |ι _ a _,0=>a
 |ι _ _ b,_=>b
 |ο _ a,_=>a
 |.loop a,_=>a
 |c,_=>c
def kY(f:Func)(l:List Nat):ρ:=l.foldl AN<|f.body.getD χ
def pF(f:Ķ)(a b:Array è):ŷ:={target:=.fn (.func f) a,args:=b}
def n8(P:Ĝ):ù:={(default:ù)with fn:=P.funcs.size,defers:=[],mode:=.panicking [ŗ]}
section
variable{b:ù}{a:Ř}{cs:List ù}
def YT{h:Array ĵ}(c:Q[i]?=Ã o)(j:â o (ģ Q a.tmps)=Î)(k:b.kind≠đ) (e:o.op=.defer {callee:=ğ qQ,args:=#[],argTypes:=h}) (g:a.eval qQ=.func (.func F) #[] d): é P yQ (G (b.at a<|Ç Q (i::jJ)::L) cs) w=ũ (G (b.at (ś ⟨a.tmps,pF F d #[]::a.defers⟩ o.dst Â)<|Ç Q jJ::L) cs) w #[]:=by
 have l:(ß a.eval o).run P w=.ok (.defer<|pF F d #[]) w:=by unfold ß;simp[e,ľ,ĉ,g,pF]
 have m:(ß a.eval o).events P w #[]=#[]:=by unfold ß;simp[e,ľ,ĉ,g]
 have n:(b.at ⟨a.tmps,pF F d #[]::a.defers⟩<|Ç Q (i::jJ)::L).finish Â=b.at (ś ⟨a.tmps,pF F d #[]::a.defers⟩ o.dst Â) (Ç Q jJ::L):=by rw[ĩ,c];rfl
 have p:(b.kind==đ)=É:=by simpa using k
 rw[Ν c j,<-n];simp[stepG.apply,l,m,G,Frame.at,p,Ě,ć]
def YU{l:Array ĵ}(m:Q[i]?=Ã o)(n:â o (ģ Q a.tmps)=Î)(p:b.kind≠đ) (h:o.op=Š {callee:=ğ qQ,args:=#[],argTypes:=l}) (j:a.eval qQ=.func (.func F) #[] d) (e:P.funcs[F]?=Ã s) (q:(s.name== "runtime.NumGoroutine")=É) (g:s.body=Ã wX): é P yQ (G (b.at a<|Ç Q (i::jJ)::L) cs) w=ũ (G ((base F).at {tmps:=d++ë (s.ntmps-d.size) Â,defers:=[]} [ķ wX])<|b.at a (Ç Q (i::jJ)::L)::cs) w #[]:=by
 have k:¬s.name= "runtime.NumGoroutine":=by simpa using q
 have r:(ß a.eval o).run P w=.ok (.enter F d) w:=by unfold ß;simp[h,ľ,ĉ,j,ť,Ŧ,e,k,g]
 have t:(ß a.eval o).events P w #[]=#[]:=by unfold ß;simp[h,ľ,ĉ,j,ť,Ŧ,e,k,g]
 rw[Ż m n p r,<-enter_at d e g];unfold listed;rw[t,ć]
def aiK{g:Array ĵ}(d:Q[i]?=Ã o)(h:â o (ģ Q a.tmps)=Î)(j:b.kind=ŉ)(k:b.roundOf=Í)(l:f.mode=ú) (e:o.op=Š {callee:=.builtin .recover,args:=#[],argTypes:=g}) (q:o.type=t): é P yQ (G (b.at a<|Ç Q (i::jJ)::L)<|f::cs) w=ũ (G (b.at (a.put o.dst ā)<|Ç Q jJ::L)<|f::cs) w #[]:=by
 have m:(ß a.eval o).run P w=.ok .recover w:=by unfold ß;simp[e,ľ,ť,builtin]
 have n:(ß a.eval o).events P w #[]=#[]:=by unfold ß;simp[e,ľ,ť,builtin]
 have p:(b.at a<|Ç Q (i::jJ)::L).finish ā=b.at (a.put o.dst ā) (Ç Q jJ::L):=by rw[ĩ,d];rfl
 rw[Ν d h,<-p];simp[stepG.apply,m,n,G,Frame.at,j,Ě,ć,k,tryRecover,l]
def aiL{e:List ŷ}(i:a.defers=pF F d #[]::e)(g:P.funcs[F]?=Ã s)(j:(s.name== "runtime.NumGoroutine")=É)(h:s.body=Ã wX): é P yQ (G {b.at a L with mode:=ú} cs) w= ũ (G ((baseD F).at {tmps:=d++ë (s.ntmps-d.size) Â,defers:=[]} [ķ wX])<|{b.at ⟨a.tmps,e⟩ L with mode:=ú}::cs) w #[]:=by
 have k:¬s.name= "runtime.NumGoroutine":=by simpa using j
 rw[<-enter_atD d g h];simp[G,é,Ξ,ų,Frame.at,i,pF,ť,Ŧ,g,k,h,Ě,ć]
def YV(a:P.funcs[F]?=Ã s)(e:(s.name== "runtime.NumGoroutine")=É)(b:s.body=Ã wX): é P yQ (born P<|pF F d #[]) w=ũ (G ((baseD F).at {tmps:=d++ë (s.ntmps-d.size) Â,defers:=[]} [ķ wX]) [n8 P]) w #[]:=by
 have g:¬s.name= "runtime.NumGoroutine":=by simpa using e
 rw[<-enter_atD d a b];simp[G,é,Ξ,ų,born,n8,pF,ť,Ŧ,a,g,b,Ě,ć]
def aiM(d:b.kind=ŉ)(e:a.defers=[])(f:P.funcs[b.fn]?=Ã s)(c:s.results=#[]): é P yQ (G {b.at a L with mode:=ú} [n8 P]) w=ũ (G (n8 P) []) w:=by have g:=results_none c a.tmps P w;have h:=events_results_none (P:=P) (w:=w) c a.tmps #[];simp[G,é,Ξ,doReturn,Frame.at,d,e,f,g,h,n8,ŗ,seen,Ě]
def aiN(w:Ð):é P É (G (n8 P) []) w=ũ {frame:=n8 P,callers:=[],status:=ç,dying:=Í} w:=by simp[G,é,Ξ,n8,ŗ,Frame.catches];rfl
def aiO:qd P 0 (G (n8 P) []):=⟨1,.ctl U aiN ⟨U,U⟩⟩
def aiP(c:b.kind=ŉ)(d:a.defers=[])(e:P.funcs[b.fn]?=Ã s)(f:s.results=#[]):qd P 0 (G {b.at a L with mode:=ú} [n8 P]):= LL U (λ_=>aiM c d e f) aiO
def aiQ(e:b.kind=ŉ)(g:a.defers=[])(h:P.funcs[b.fn]?=Ã s)(j:s.results=#[])(k:f.mode=ú)(l:qd P i (G f cs)):qd P i (G {b.at a L with mode:=ú}<|f::cs):= let⟨n,q⟩:=l;⟨n+1,.leaveD e g h j k q⟩
end
def aiR(d:Nat)(t:ĵ)(w:Ð)(a:Array Ē)(h:P.underlying t=Ã (.interface<|P.methodsAt t)):(Ο (d+1) t ā ā).events P w a=a:=by simp[Ο,run_underlying h,go_sem]
def aiS(t:ĵ)(w:Ð)(a:Array Ē)(h:P.underlying t=Ã (.interface<|P.methodsAt t)):(Op.equal t ā ā).events P w a=a:=aiR 9999 t w a h
def aiT(t:ĵ)(w:Ð)(a:Array Ē)(h:P.underlying t=Ã (.interface<|P.methodsAt t)):(binOp .neq t ā ā).events P w a=a:=by simp only[binOp];simp[aiS t w a h]
section
variable{J:Jd}{l:e9}{b:ù}{a:Ř}{cs:List ù}
def jU(l:e9):Prop:=∀j,l.O j->j<l.w.heap.size
def fO(a:jU l)(b:Ĵ P yQ RT á (λc _=>fg P yQ J l c) n g l.w):fg P yQ J l g:= Rb b (λ_ _ _=>trivial) a λ_ _ r h=>h.j4 r
def vz(k:Q[i]?=Ã o)(m:â o (ģ Q a.tmps)=Î)(n:b.kind≠đ) (h:∀c,fF l l.w c->uponK o a (λq e=>∃d,mE l d c e (listed P b.fn a o c)/\fg P yQ J d (G (b.at q<|Ç Q jJ::L) cs)) ((ß a.eval o).run P c)): fg P yQ J l (G (b.at a<|Ç Q (i::jJ)::L) cs):=by
 refine .mk U λc r=> ?_;have f:=h c r;revert f;generalize p:(ß a.eval o).run P c=res;intro f;match res,f with
 |.ok (.value v) e,⟨d,g,j⟩=>exact⟨_,e,_,d,Ŏ k m n p,g,j⟩
 |.ok .skip e,⟨d,g,j⟩=>exact⟨_,e,_,d,ş k m n p,g,j⟩
def vA(l:e9)(e:Ē):Prop:=yE l e/\e.loc≠Ŷ ô/\e.loc≠Ŷ î
def LO(h:∀e∈V,vA l e)(d:Nat):Ï d V=d:=Ł (λe a=>⟨(h e a).2.1,(h e a).2.2⟩) d
def aiU(b:∀j,l.O j->j<w.heap.size)(c:¬l.q)(a:∀e∈V,vA l e):mE l {l with w:=w} w w V:= ⟨Æ _,λ_ h=>À h,b,U,U,U,U,λ_ _ _ _=>rfl,λ_ _ _ _=>rfl,λ_ _ _=>rfl,U,U,U,λe h=>(a e h).1,(LO a _).symm,U,λq=>absurd q c,U⟩
def nH(d:Q[i]?=Ã o)(f:â o (ģ Q a.tmps)=Î)(g:b.kind≠đ)(j:jU l)(k:¬l.q) (m:∀c,fF l l.w c->(ß a.eval o).run P c=.ok (.value v) c) (n:∀c,fF l l.w c->∀e∈(ß a.eval o).events P c #[],vA l e) (p:fg P yQ J l (G (b.at (a.put o.dst v)<|Ç Q jJ::L) cs)):fg P yQ J l (G (b.at a<|Ç Q (i::jJ)::L) cs):=by refine vz d f g λc r=> ?_;rw[m c r];exact⟨_,aiU (lH j r) k λe h=>n c r e<|Ρ h,p.j4 r⟩
def gX(l:e9)(x:Č):Prop:=l.M x.block\/l.C x
def gX.r{x:Č}(h:gX l x){w₁:Ð}(r:fF l l.w w₁):w₁.cell? x=l.w.cell? x:=h.elim (λq=>gM<|r.I _ q)<|r.N x
def gX.rd{x:Č}(h:gX l x):vA l ⟨ü x,É,É⟩:=by
 refine⟨À ⟨x,U,?_⟩,fi,fi⟩;rcases h with(q|q)|(q|q)
 .exact À q
 .exact Á<|Á ⟨À q,U,U⟩
 .exact Á<|À q
 .exact Á<|Á ⟨Á q,U,U⟩
def pG{x:Č}(f:Q[i]?=Ã o)(g:â o (ģ Q a.tmps)=Î)(j:b.kind≠đ)(k:jU l)(m:¬l.q)(c:gX l x)(d:l.w.cell? x=Ã v) (n:∀w,w.cell? x=Ã v->(ß a.eval o).run P w=.ok (.value v) w) (p:∀w,w.cell? x=Ã v->(ß a.eval o).events P w #[]=#[⟨ü x,É,É⟩]) (s:fg P yQ J l (G (b.at (a.put o.dst v)<|Ç Q jJ::L) cs)):fg P yQ J l (G (b.at a<|Ç Q (i::jJ)::L) cs):= nH f g j k m (λw r=>n w<|(c.r r).trans d) (λw r e h=>by
  rw[p w<|(c.r r).trans d]at h;have:e=⟨ü x,É,É⟩:=by simpa using h
  subst this;exact c.rd) s
def qp(l:e9)(x:Č):Prop:=l.O x.block\/l.r x
def qp.C(h:qp l p):gX l p:=h.elim (λq=>À<|À q) λq=>Á<|À q
def qp.r{x:Č}(h:qp l x):vA l ⟨ü x,Î,É⟩:=⟨À ⟨x,U,h.elim À λq=>Á<|À q⟩,fi,fi⟩
end
end Go.Proofs.Y.fq
namespace Go.Proofs.Y.fq
open Go Go.Conc Go.Proofs.Y.Lift
section
variable{J:Jd}{l:e9}{b:ù}{cs:List ù}{ops:Array ĸ}
def Re(a:∀j,l.O j->j<w.heap.size)(b:¬l.q):mE l {l with w:={w with drawn:=w.drawn+1}} w {w with drawn:=w.drawn+1} #[]:= ⟨Æ _,λ_ h=>À h,a,U,U,U,U,λ_ _ _ _=>rfl,λ_ _ _ _=>rfl,λ_ _ _=>rfl,U,U,U,λe c=>by simp at c,by simp[Ï],U,λq=>absurd q b,U⟩
def ju(listed:Array Bool):Nat:=listed.countP λx=> !x
theorem LP{listed:Array Bool}(h:listed.getD i Î=É):ju (listed.setIfInBounds i Î)+1=ju listed:=by
 have a:i<listed.size:=by grind
 have b:listed[i]=É:=by simpa[a]using h
 unfold ju;grind [Array.countP_pos_iff,Array.getElem_mem]
def Rf{md:Þ}{listed:Array Bool}(c:listed.size=ops.size)(h:ju listed=0):Ò md ops listed=[]:=by rw[List.eq_nil_iff_forall_not_mem];intro j a;let⟨b,o,d,_⟩:=Ċ.1 a;have:=LP b;omega
def YW{md:Þ}(I:Array Bool->Ř->e9->Prop) (p:∀c a l i k,I c a l->i∈Ò md ops c->fg P yQ (λh m=>∃f,m=G (b.at f<|Ç ops k::L) cs/\I (c.setIfInBounds i Î) f h) l (G (b.at a<|Ç ops (i::k)::L) cs)) (n:∀c a l,I c a l->c.size=ops.size->Ò md ops c=[]->fg P yQ J l (G (b.at a<|Ç ops []::L) cs)): ∀(d t:Nat) (c:Array Bool) (a:Ř) (l:e9),c.size=ops.size->ju c<=d->I c a l->fg P yQ J l (G (b.at a<|Ç ops (ý md ops d t c [])::L) cs):=by
 intro d
 induction d with
 |zero=>
  intro t c a l e q g;simpa[ý]using n c a l g e<|Rf e Z
 |succ d r=>
  intro t c a l e q g;simp only[ý];change fg P yQ J l (G (b.at a (Ç ops (match(Ò md ops c)[t%(Ò md ops c).length]? with
   |some i=>ý md ops d (t/(Ò md ops c).length) (c.setIfInBounds i Î) [i]
   |none=>[].reverse)::L)) cs)
  cases j:(Ò md ops c)[t%(Ò md ops c).length]? with
  |none=>
   have s:Ò md ops c=[]:=by
    cases u:Ò md ops c with
    |nil=>rfl
    |cons x o=>
     rw[u]at j;have v:t%(x::o).length<(x::o).length:=Γ _ fi;simp at j;simp at v;omega
   simpa using n c a l g e s
  |some i=>
   simp only[];rw[linearise_go_acc,List.reverse_singleton,List.singleton_append];have o:=List.mem_of_getElem? j;refine(p c a l i _ g o).lD ?_;rintro h m ⟨f,rfl,s⟩;exact r _ _ f h (by simpa using e) (by have:=LP (Ċ.1 o).1;omega) s
theorem E4(n:Nat):ju (ë n É)=n:=by unfold ju;grind [Array.countP_replicate]
def LQ{id:Nat}(I:Array Bool->Ř->e9->Prop)(m:jU l)(n:¬l.q) (f:∀d,fF l l.w d->I (ë ops.size É) y {l with w:={d with drawn:=d.drawn+1}}) (g:∀e c y l i h,I c y l->i∈Ò e ops c->fg P yQ (λo p=>∃j,p=G (b.at j<|Ç ops h::L) cs/\I (c.setIfInBounds i Î) j o) l (G (b.at y<|Ç ops (i::h)::L) cs)) (k:∀e c y l,I c y l->c.size=ops.size->Ò e ops c=[]->fg P yQ J l (G (b.at y<|Ç ops []::L) cs)): fg P yQ J l (G (b.at y<|ķ (ġ id ops Î)::L) cs):=by
 refine .mk U λd r=>⟨_,_,_,_,stepG_region_draw,Re (lH m r) n,?_⟩;unfold Region.schedule;split
 .exact YW I (g _) (k _) _ _ _ _ _ fi (by rw[E4];exact Æ _)<|f d r
 .exact YW I (g _) (k _) _ _ _ _ _ fi (by rw[E4];exact Æ _)<|f d r
end
def vB(e:Edge):Bool:=match e.ground with|.textOnly _=>É|.gcOnly _=>É|_=>Î
theorem YX{md:Þ}{e:Edge}(h:vB e=Î):Ŵ md e=Î:=by unfold vB at h;unfold Ŵ;grind
structure lI(ops:Array ĸ)(t0:Array è)(val:Nat->è)(listed:Array Bool)(a:Ř):Prop where
 M:a.defers=[]
 S:a.tmps.size=t0.size
 b:∀d,(∀j o,ops[j]?=Ã o->listed.getD j É=Î->o.dst≠Ã d)->a.tmps[d]?=t0[d]?
 r:∀j o d,ops[j]?=Ã o->listed.getD j É=Î->o.dst=Ã d->a.tmps[d]?=Ã (val j)
 Y:∀j o e,ops[j]?=Ã o->listed.getD j É=Î->e∈o.after->vB e=Î->listed.getD e.on É=Î
def qZ(a:Array ĸ)(n:Nat):Bool:=(Τ a.size).all λi=>match(a.getD i default).dst with
 |none=>Î
 |some d=>decide (d<n)&&(Τ a.size).all λj=>i==j||(a.getD j default).dst !=Ã d
section
variable{ops:Array ĸ}{t0:Array è}{val:Nat->è}{listed:Array Bool}{a:Ř}
def YY(h:qZ ops t0.size=Î)(a:ops[i]?=Ã o)(b:o.dst=Ã n):n<t0.size:=by have:=(Ġ.1 h) i<|Ũ.2<|(Ö.1 a).1;simp_all
theorem YZ(h:qZ ops t0.size=Î){d:Nat}{a:ĸ}(b:ops[i]?=Ã o)(e:ops[j]?=Ã a)(f:j≠i)(c:o.dst=Ã d):a.dst≠Ã d:=by have:=(Ġ.1 h) i<|Ũ.2<|(Ö.1 b).1;simp[b,c]at this;grind
def lI.C(h:lI ops t0 val listed a){d:Nat}(b:ops.toList.all (λo=>o.dst !=Ã d)=Î):a.tmps[d]?=t0[d]?:= h.b d λj o c _ e=>by have:=Ġ.1 b o<|į.2<|Array.mem_of_getElem? c;simp[e]at this
def Rh(h:(listed.setIfInBounds i Î).getD j É=Î):j=i\/listed.getD j É=Î:=by by_cases e:i=j;all_goals simp_all
theorem lI.fP(h:lI ops t0 val listed a)(u:qZ ops t0.size=Î){md:Þ}(l:ops[i]?=Ã o)(p:i∈Ò md ops listed)(w:o.dst≠Í->v=val i):lI ops t0 val (listed.setIfInBounds i Î) (a.put o.dst v):=by
 have y:=(Ċ.1 p).1;have r:∀j c e,ops[j]?=Ã c->(listed.setIfInBounds i Î).getD j É=Î->e∈c.after->vB e=Î->(listed.setIfInBounds i Î).getD e.on É=Î:=λj c e b f s t=>by
  rcases Rh f with rfl|q
  .let⟨_,n,d,g⟩:=Ċ.1 p;rw[b]at d;obtain rfl:=È d;exact ě<|g e s<|YX t
  .exact ě<|h.Y j c e b q s t
 have x:(listed.setIfInBounds i Î).getD i É=Î:=by
  have n:i<listed.size:=by grind
  simp[n]
 cases k:o.dst with
 |none=>
  refine⟨h.M,h.S,λd m=>h.b d λj c b f=>m j c b<|ě f,λj c d b f g=> ?_,r⟩;rcases Rh f with rfl|q
  .rw[l]at b;obtain rfl:=È b;rw[k]at g;cases g
  .exact h.r j c d b q g
 |some e=>
  refine⟨h.M,by simp[ś,h.S],λd m=> ?_,λj c d b f g=> ?_,r⟩
  .simp only[ś];rw[í (λq=>m i o l x<|by rw[k,q])];exact h.b d λj c b f=>m j c b<|ě f
  .simp only[ś];rcases Rh f with rfl|q
   .rw[l]at b;obtain rfl:=È b;rw[k]at g;obtain rfl:=È g;have n:e<a.tmps.size:=by rw[h.S];exact YY u l k
    simp[n,(w<|by rw[k];simp)]
   .have n:e≠d:=by
     grind [YZ]
    rw[í n];exact h.r j c d b q g
def lI.Y0(h:lI ops t0 val listed a){b:Nat->è}(e:∀j,listed.getD j É=Î->b j=val j):lI ops t0 b listed a:= ⟨h.M,h.S,h.b,λj o d f c g=>(by rw[e j c];exact h.r j o d f c g),h.Y⟩
theorem ic{md:Þ}(h:i∈Ò md ops listed)(b:ops[i]?=Ã o)(c:o.after.toList.any (λe=>e.on==j&&vB e)=Î):listed.getD j É=Î:=by let⟨_,f,a,g⟩:=Ċ.1 h;rw[b]at a;obtain rfl:=È a;let⟨e,k,d⟩:=Ŋ.1 c;simp only[ŋ,beq_iff_eq]at d;grind [YX]
def lI.I(h:lI ops t0 val listed a)(c:ops[i]?=Ã o)(d:listed.getD i É=Î)(f:o.after.toList.any (λe=>e.on==j&&vB e)=Î):listed.getD j É=Î:=by let⟨e,g,b⟩:=Ŋ.1 f;simp only[ŋ,beq_iff_eq]at b;rw[<-b.1];exact h.Y i o e c d (į.1 g) b.2
theorem xk(h:listed.getD i Î=É):¬listed.getD i É=Î:=by grind
def LU(md:Þ)(ops:Array ĸ):List Nat->List Nat->Bool
 |[],_=>Î
 |i::r,seen=>(match ops[i]? with|some o=>o.after.toList.all (λe=> !Region.binds md e||seen.contains e.on)|none=>É)&&LU md ops r (i::seen)
theorem pH{md:Þ}(h:Ò md ops listed=[])(l:listed.size=ops.size):∀(b a:List Nat),LU md ops b a=Î->(∀i∈a,listed.getD i É=Î)->∀i∈b,listed.getD i É=Î:=by
 intro b
 induction b with
 |nil=>intro a _ _ i c;cases c
 |cons j r m=>
  intro a n p i c;let⟨d,s⟩:=Bool.and_eq_true_iff.1 (show(_&&_)=Î from n);have f:listed.getD j É=Î:=by
   split at d
   .rename_i o g;have v:j<listed.size:=by rw[l];exact(Ö.1 g).1
    by_cases t:listed.getD j Î=É
    .have:j∈Ò md ops listed:=Ċ.2 ⟨t,o,g,λe w x=>by
      grind⟩
     grind
    .grind
   .cases d
  rcases Ŭ.1 c with rfl|q
  .exact f
  .exact m (j::a) s (λk u=>(Ŭ.1 u).elim (λe=>e▸f)<|p k) i q
def lI.G(t:Array è)(val:Nat->è)(n:Nat):lI ops t val (ë n É) ⟨t,[]⟩:=by
 have a:∀j,¬(ë n É).getD j É=Î:=λj q=>by rcases Ģ j n with z|z;all_goals simp_all
 exact⟨U,U,λ_ _=>rfl,λj _ _ _ z=>absurd z<|a j,λj _ _ _ z=>absurd z<|a j⟩
theorem zh{md:Þ}(h:i∈Ò md ops listed):i<ops.size:=by let⟨_,o,a,_⟩:=Ċ.1 h;grind
def Ri{md:Þ}(h:i∈Ò md ops listed):listed.getD i Î=É:=(Ċ.1 h).1
end
theorem aiV(h:a.spot.isSome=Î):w.cell? a=Í:=by unfold World.cell?;grind
theorem Cq{x y:Č}(b:x.spot=Í)(h:y≠x):(w.setCell x v).cell? y=w.cell? y:=by
 by_cases c:y.spot.isSome=Î
 .grind [aiV]
 .apply yI;let⟨d,e,f⟩:=x;let⟨g,i,a⟩:=y;simp only at b c|-;have:a=Í:=by cases a<;>simp_all
  grind
section
variable{J:Jd}{l:e9}{b:ù}{a:Ř}{cs:List ù}{ops:Array ĸ}
theorem Y1(b:p.spot=Í)(d:(w.cell? p).isSome=Î)(f:(u.cell? p).isSome=Î)(r:fF l w u):fF l (w.setCell p v) (u.setCell p v):=by
 refine⟨by rw[j1,j1];exact r.r,λj c=> ?_,λy a=> ?_,λy a=> ?_,λy a h=> ?_⟩
 .by_cases e:j=p.block
  .subst e;unfold World.setCell;simp only[Array.getElem?_modify];rw[r.I _ c]
  .rw[lu e,lu e];exact r.I j c
 .by_cases e:y=p
  .grind [þ,AK]
  .rw[Cq b e,Cq b e];exact r.N y a
 .rw[sX,sX];exact r.Y y a
 .by_cases e:y=p
  .grind [yJ]
  .rw[Cq b e]at h|-;exact r.S y a h
def Y2(f:p.spot=Í)(g:∀j,l.O j->j<w.heap.size)(i:¬l.q)(c:qp l p)(d:∀e∈V,vA l e):mE l {l with w:=w.setCell p v} w (w.setCell p v) V:=by
 refine⟨by rw[j1];exact Æ _,λ_ h=>À h,λj k=>by rw[j1];exact g j k,U,U,U,U,λj _ a b=>lu λe=>c.elim (λq=>a<|e▸q) λq=>b p e.symm q,λy _ a b=>Cq f λe=> ?_,λ_ _ _=>Qf,U,U,U,λe h=>(d e h).1,(LO d _).symm,U,λq=>absurd q i,U⟩
 .subst e;exact c.elim a b
def aiW(m:ops[i]?=Ã o)(n:â o (ģ ops a.tmps)=Î)(s:b.kind≠đ)(t:jU l)(u:¬l.q)(g:p.spot=Í)(c:qp l p)(j:(l.w.cell? p).isSome=Î)(y:o.dst=Í)(z:l.w.frozen? p=É) (B:∀w,(w.cell? p).isSome=Î->w.frozen? p=É->(ß a.eval o).run P w=.ok .skip (w.setCell p v)) (C:∀w,(w.cell? p).isSome=Î->w.frozen? p=É->(ß a.eval o).events P w #[]=#[⟨ü p,Î,É⟩]) (D:fg P yQ J {l with w:=l.w.setCell p v} (G (b.at a<|Ç ops jJ::L) cs)):fg P yQ J l (G (b.at a<|Ç ops (i::jJ)::L) cs):=by
 refine vz m n s λd r=> ?_;have f:(d.cell? p).isSome=Î:=by rwa[c.C.r r]
 have k:d.frozen? p=É:=by rw[<-z];exact c.C.elim (λq=>wZ<|r.I _ q)<|r.Y p
 rw[B d f k];refine⟨_,Y2 g (lH t r) u c λe h=> ?_,?_⟩
 .have:=Ρ h;rw[C d f k]at this;have:e=⟨ü p,Î,É⟩:=by simpa using this
  subst this;exact c.r
 .have:(a.put o.dst Â)=a:=by rw[y];rfl
  rw[this];exact D.j4<|za<|Y1 g j f r
end
def mg(l:e9):e9:={l with O:=λ_=>False,I:=l.M,r:=λ_=>False,N:=l.C}
def re(l x:e9):e9:={x with O:=λb=>x.O b\/l.O b,I:=l.I,r:=l.r,N:=l.N}
structure jA(l l':e9):Prop where
 O:∀j,l.O j->l'.O j
 a:∀j,l'.O j->l.O j\/l.w.heap.size<=j
 I:l'.I=l.I
 N:l'.r=l.r
 Y:l'.N=l.N
 K:l'.K=l.K
 q:l'.q=l.q
 r:fF l l.w l'.w
 fv:jU l'
theorem jA.fU{l:e9}(h:jU l):jA l l:=⟨λ_ h=>h,λ_ h=>À h,U,U,U,U,U,fF.fU _ _,h⟩
def jA.C{l a:e9}(h:jA l a):a.C=l.C:=by unfold e9.C;rw[h.N,h.Y]
def jA.M{l a:e9}(h:jA l a)(c:l.M b):a.M b:=c.imp (h.O b)<|by rw[h.I];exact id
def jA.G{l d:e9}(h:jA l d)(r:fF d w u):fF l w u:=⟨r.r,λj e=>r.I j<|h.M e,λx b=>r.N x (by rwa[h.C]),λx b=>r.Y x (by rwa[h.C]),λx b=>r.S x<|by rwa[h.K]⟩
def jA.S{l a:e9}(h:jA l a)(r:fF a a.w u):jA l {a with w:=u}:= ⟨h.O,h.a,h.I,h.N,h.Y,h.K,h.q,h.r.fe<|h.G r,lH h.fv r⟩
def gu.j4{l:e9}(s:gu l){w₁:Ð}(h:l.w.heap.size<=w₁.heap.size):gu {l with w:=w₁}:= ⟨s.c,s.Y,s.N,λb d=>Ê (s.fv b d) h,λa c=>Ê (s.I a c) h,λa c=>let⟨e,f,g⟩:=s.S a c;⟨e,Ê f h,g⟩⟩
def gu.r{l:e9}(s:gu l):jU l:=λj a=>s.fv j<|À a
section
variable{J:Jd}
theorem aiX{l x:e9}(d:x.I=l.M)(g:x.r=λ_=>False)(f:x.N=l.C){e:Ē}(h:yE x e):yE (re l x) e:=by
 rcases h with⟨a,b,c⟩|h|h|h|h|⟨a,b,c⟩
 .refine À ⟨a,b,?_⟩;rcases c with q|q|⟨q|q,z⟩
  .exact À<|À q
  .grind
  .rw[d]at q;rcases q with q|q
   .exact À<|Á q
   .exact Á<|Á ⟨À q,z⟩
  .rw[f]at q;rcases q with q|q
   .exact Á<|À q
   .exact Á<|Á ⟨Á q,z⟩
 .exact Á<|À h
 .exact Á<|Á<|À h
 .exact Á<|Á<|Á<|À h
 .exact Á<|Á<|Á<|Á<|À h
 .exact Á<|Á<|Á<|Á<|Á ⟨a,À b,c⟩
def Y3{l x:e9}(a:x.I=l.M):(re l x).M=x.M:=by
 funext b;refine propext ⟨λh=> ?_,λh=> ?_⟩
 .rcases h with(q|q)|q
  .exact À q
  .exact Á<|by rw[a];exact À q
  .exact Á<|by rw[a];exact Á q
 .rcases h with q|q
  .exact À<|À q
  .rw[a]at q;exact q.elim (λz=>À<|Á z) Á
theorem LV{l x:e9}(c:x.r=λ_=>False)(b:x.N=l.C):(re l x).C=x.C:=by
 funext a;refine propext ⟨λh=>Á (by rwa[b]),λh=> ?_⟩;rcases h with q|q
 .grind
 .rwa[b]at q
def fg.aiY{l:e9}(s:gu l){x:e9}(h:fg P yQ J x g):x.I=l.M->x.r=(λ_=>False)->x.N=l.C->x.K=l.K->x.q=l.q->fF l l.w x.w->(∀j,x.O j->l.w.heap.size<=j)->jU x-> fg P yQ (λb c=>∃a,J a c/\b=re l a/\jA l b/\a.I=l.M/\a.N=l.C/\a.r=λ_=>False) (re l x) g:=by
 induction h with
 |@fy x g h=>
  intro m f d o B p v E;refine .fy λc r=>⟨{x with w:=c},(h c ⟨r.r,λj b=>r.I j (by rwa[Y3 m]),λy a=>r.N y (by rwa[LV f d]),λy a=>r.Y y (by rwa[LV f d]),r.S⟩),U,?_,m,d,f⟩
  .refine⟨λj b=>Á b,λj b=>b.elim (λq=>Á<|v j q) À,U,U,U,o,B,p.fe ⟨r.r,λj b=>r.I j (b.elim (λq=>À<|Á q) Á),λy a=>r.N y a,λy a=>r.Y y a,λy a=>r.S y ?_⟩,λj b=> ?_⟩
   .show x.K y;rwa[o]
   .refine Ê ?_ r.r;rcases b with q|q
    .exact E j q
    .exact Ê (s.fv j<|À q) p.r
 |@jM x g G' W' E' L' iH h hd _ ih=>
  intro m f d o B p v E;refine .mk iH λc r=> ?_;have i:fF x x.w c:=⟨r.r,λj b=>r.I j (by rwa[Y3 m]),λy a=>r.N y (by rwa[LV f d]),λy a=>r.Y y (by rwa[LV f d]),r.S⟩;have D:=hd c i;have n:=Ù p.r i.r;have z:∀j,j<l.w.heap.size->¬x.O j:=λj b q=>by have:=v j q;omega
  have t:∀y:Č,¬x.r y:=λy q=>by rwa[f]at q
  have F:fF l c (W' c):=⟨D.C,λj b=>D.jT j (Ê (s.fv j b) n) (z j<|s.fv j b) λy _=>t y,λy a=>D.M y (Ê (s.I y a) n) (z _<|s.I y a)<|t y,λy a=>K2<|D.S y (Ê (s.I y a) n)<|z _<|s.I y a,λy a q=>by rwa[D.M y (Ê (s.S y a).2.1 n) (z _ (s.S y a).2.1)<|t y]⟩;refine⟨G' c,W' c,E' c,re l<|L' c,h c i,?_,(ih c i (D.rd.trans m) (D.r.trans f) (D.I.trans d) (D.k.trans o) (D.q.trans B) (by rw[D.Y];exact(p.fe ⟨i.r,λj b=>i.I j (Á<|by rwa[m]),λy a=>i.N y (Á<|by rwa[d]),λy a=>i.Y y (Á<|by rwa[d]),λy a=>i.S y<|by rwa[o]⟩).fe F) (λj b=>(D.N j b).elim (v j) λq=>Ù n q) λj b=>by rw[D.Y];exact D.fv j b)⟩
  .refine⟨D.C,λj b=> ?_,λj b=> ?_,U,U,U,D.k,λj b u G=>D.jT j b (λq=>u<|À q) λy _=>t y,λy a u G=>D.M y a (λq=>u<|À q)<|t y,λy a u=>D.S y a λq=>u<|À q,D.c,D.f,D.i,λe H=>aiX (D.rd.trans m) (D.r.trans f) (D.I.trans d)<|D.b e H,D.g,D.q,λI=> ?_,D.Y⟩
   .rcases b with q|q
    .exact(D.N j q).imp À id
    .exact À<|Á q
   .rcases b with q|q
    .exact D.fv j q
    .exact Ê (s.fv j<|À q)<|Ù n D.C
   .let⟨L,N,Q⟩:=D.h I;exact⟨L,N,by funext j;show((L' c).O j\/l.O j)=(x.O j\/l.O j);rw[Q]⟩
theorem fg.mg{l:e9}(s:gu l)(h:fg P yQ J (fq.mg l) g):fg P yQ (λe j=>∃b,J b j/\e=re l b/\jA l e/\b.I=l.M/\b.N=l.C/\b.r=λ_=>False) l g:=by
 have:=h.aiY s U U U U U (fF.fU _ _) (λj q=>q.elim) λj q=>q.elim;have e:re l (fq.mg l)=l:=by
  have:(λb=>False\/l.O b)=l.O:=by funext b;simp
  unfold re fq.mg;simp only[this]
 grind
end
structure iD(E:Č->Prop)(l l':e9):Prop where
 O:∀j,l.O j->l'.O j
 h:∀j,l'.O j->l.O j\/l.w.heap.size<=j
 Y:l'.I=l.I
 I:l'.r=l.r
 c:l'.N=l.N
 K:l'.K=l.K
 q:l'.q=l.q
 d:l'.d=l.d
 fv:jU l'
 f:l.w.heap.size<=l'.w.heap.size
 r:∀j,l.M j->l'.w.heap[j]?=l.w.heap[j]?
 e:∀a,l.C a->¬E a->l'.w.cell? a=l.w.cell? a
 S:∀a,l.C a->l'.w.frozen? a=l.w.frozen? a
 b:∀a,l.K a->(l.w.cell? a).isSome=Î->(l'.w.cell? a).isSome=Î
 g:∀a,E a->(l.w.cell? a).isSome=Î->(l'.w.cell? a).isSome=Î
section
variable{E:Č->Prop}{l l' l'':e9}
theorem iD.fU(h:jU l):iD E l l:=⟨λ_ h=>h,λ_ h=>À h,U,U,U,U,U,U,h,Æ _,λ_ _=>rfl,λ_ _ _=>rfl,λ_ _=>rfl,λ_ _ h=>h,λ_ _ h=>h⟩
def iD.C(h:iD E l l'):l'.C=l.C:=by unfold e9.C;rw[h.I,h.c]
def iD.M(h:iD E l l')(a:l.M b):l'.M b:=a.imp (h.O b)<|by rw[h.Y];exact id
def iD.Rj(h:iD E l l')(f:∀a,E a->l.r a)(k:jA l' l'')(g:l''.d=l'.d):iD E l l'':=by have e:=h.C;refine⟨λj c=>k.O j<|h.O j c,λj c=>(k.a j c).elim (h.h j) λq=>Á<|Ù h.f q,k.I.trans h.Y,k.N.trans h.I,k.Y.trans h.c,k.K.trans h.K,k.q.trans h.q,g.trans h.d,k.fv,Ù h.f k.r.r,λj c=>(k.r.I j<|h.M c).trans<|h.r j c,λa b i=>(k.r.N a<|by rwa[e]).trans<|h.e a b i,λa b=>(k.r.Y a<|by rwa[e]).trans<|h.S a b,λa b q=>k.r.S a (by rwa[h.K])<|h.b a b q,λa b q=> ?_⟩;rw[k.r.N a (by rw[e];exact À<|f a b)];exact h.g a b q
def iD.N(h:iD E l l')(b:∀a,E a->l.r a)(r:fF l' l'.w u):iD E l {l' with w:=u}:= h.Rj b (l'':={l' with w:=u}) ((jA.fU h.fv).S r) U
def iD.qN(h:iD E l l')(s:gu l)(i:∀a,E a->l.r a){x:Č}(f:E x)(k:x.spot=Í)(m:(l'.w.cell? x).isSome=Î):iD E l {l' with w:=l'.w.setCell x v}:=by
 refine⟨h.O,h.h,h.Y,h.I,h.c,h.K,h.q,h.d,λj c=> ?_,?_,λj c=>(lu λe=>s.N x (À<|i x f)<|e▸c).trans<|h.r j c,λa b g=>((Cq k λe=>g<|by rwa[e]).trans<|h.e a b g),λa b=>sX.trans<|h.S a b,λa b q=>yJ<|h.b a b q,λa b q=>yJ<|h.g a b q⟩
 .show j<(l'.w.setCell x v).heap.size;rw[j1];exact h.fv j c
 .show l.w.heap.size<=(l'.w.setCell x v).heap.size;rw[j1];exact h.f
def iD.G(h:iD E l l')(s:gu l):gu l' where
 c b hb:=by
  rw[h.Y];rcases h.h b hb with q|q
  .exact s.c b q
  .exact λz=>by have:=s.fv b<|Á z;omega
 Y a ha:=by rw[h.c];exact s.Y a<|by rwa[<-h.I]
 N a ha hb:=by
  rw[h.C]at ha;rcases hb with q|q
  .rcases h.h _ q with z|z
   .exact s.N a ha<|À z
   .have:=s.I a ha;omega
  .rw[h.Y]at q;exact s.N a ha<|Á q
 fv b hb:=by
  rcases hb with q|q
  .exact h.fv b q
  .rw[h.Y]at q;exact Ê (s.fv b<|Á q) h.f
 I a ha:=by rw[h.C]at ha;exact Ê (s.I a ha) h.f
 S a ha:=by
  rw[h.K]at ha;let⟨c,d,e⟩:=s.S a ha;refine⟨λq=> ?_,Ê d h.f,by rwa[h.I]⟩;rcases q with q|q
  .rcases h.h _ q with z|z
   .exact c<|À z
   .omega
  .rw[h.Y]at q;exact c<|Á q
end
section
variable{X:Type}{g:Array è}{c:X->Nat->è}{m:Array Bool->X->e9->Prop}{l:e9}{b:ù}{a:Ř}{k:List ŵ}{cs:List ù}{x:X}
def II(Q:Array ĸ)(g:Array è)(c:X->Nat->è)(m:Array Bool->X->e9->Prop)(wJ:Array Bool)(a:Ř)(l:e9):Prop:=∃x,lI Q g (c x) wJ a/\m wJ x l
def LW(a:o.guard=Í)(y:Nat->Option Bool):â o y=Î:=by unfold â;rw[a]
def ik(h:qZ Q g.size=Î)(j:lI Q g (c x) wJ a)(f:Q[i]?=Ã o)(n:o.guard=Í){md:Þ}(p:i∈Ò md Q wJ)(s:b.kind≠đ)(t:jU l)(u:¬l.q) (v:∀d,fF l l.w d->(ß a.eval o).run P d=.ok (.value<|c x i) d) (y:∀d,fF l l.w d->∀e∈(ß a.eval o).events P d #[],vA l e) (z:∀d,fF l l.w d->m (wJ.setIfInBounds i Î) x {l with w:=d}): fg P yQ (λB C=>∃r,C=G (b.at r<|Ç Q jJ::k) cs/\II Q g c m (wJ.setIfInBounds i Î) r B) l (G (b.at a<|Ç Q (i::jJ)::k) cs):= nH f (LW n _) s t u v y<|.fy λd r=>⟨_,U,x,j.fP h f p λ_=>rfl,z d r⟩
def Rk(h:qZ Q g.size=Î)(j:lI Q g (c x) wJ a)(f:Q[i]?=Ã o)(n:o.guard=Í)(e:o.dst=Í){md:Þ}(p:i∈Ò md Q wJ)(s:b.kind≠đ)(t:jU l)(u:¬l.q){y:Č}(z:y.spot=Í)(B:qp l y)(C:(l.w.cell? y).isSome=Î)(D:l.w.frozen? y=É) (E:∀w,(w.cell? y).isSome=Î->w.frozen? y=É->(ß a.eval o).run P w=.ok .skip (w.setCell y v)) (F:∀w,(w.cell? y).isSome=Î->w.frozen? y=É->(ß a.eval o).events P w #[]=#[⟨ü y,Î,É⟩]) (H:∀d,fF l (l.w.setCell y v) d->m (wJ.setIfInBounds i Î) x {l with w:=d}): fg P yQ (λI J=>∃r,J=G (b.at r<|Ç Q jJ::k) cs/\II Q g c m (wJ.setIfInBounds i Î) r I) l (G (b.at a<|Ç Q (i::jJ)::k) cs):=by refine aiW f (LW n _) s t u z B C e D E F (.fy λd r=>⟨_,U,x,?_,H d<|za r⟩);have:=j.fP h f p (v:=Â) λq=>absurd e q;rwa[e]at this
theorem Y4(q:qZ Q g.size=Î)(s:lI Q g (c x) wJ a)(p:Q[i]?=Ã o)(t:o.guard=Í){md:Þ}(u:i∈Ò md Q wJ)(v:b.kind≠đ)(y:jU l){f:Ķ}{args:Array è} (z:∀w,(ß a.eval o).run P w=.ok (.enter f args) w) (B:∀w,(ß a.eval o).events P w #[]=#[]) (C:∀d,fF l l.w d->fg P yQ (λh n=>∃e,n=G ((b.at a<|Ç Q (i::jJ)::k).finish<|c e i) cs/\m (wJ.setIfInBounds i Î) e h/\∀j,wJ.getD j É=Î->c e j=c x j) {l with w:=d} (G (ż P f args .normal)<|b.at a (Ç Q (i::jJ)::k)::cs)): fg P yQ (λh n=>∃r,n=G (b.at r<|Ç Q jJ::k) cs/\II Q g c m (wJ.setIfInBounds i Î) r h) l (G (b.at a<|Ç Q (i::jJ)::k) cs):=by
 refine .mk U λd r=>⟨G (ż P f args .normal)<|b.at a (Ç Q (i::jJ)::k)::cs,d,#[],{l with w:=d},?_,LK d<|lH y r,?_⟩
 .rw[Ż p (LW t _) v<|z d];unfold π;rw[B d,ć]
 .refine(C d r).fN ?_;rintro h n ⟨e,rfl,D,E⟩;refine⟨a.put o.dst<|c e i,?_,e,(s.Y0 E).fP q p u λ_=>rfl,D⟩;grind [ĩ]
end
end Go.Proofs.Y.fq
namespace Go.Proofs.YtgpphkdoanciiaaGreatDoor
open Go Go.Conc Go.Conc.Lib
def Lk:Ņ:={add:=62,done:=65,wait:=53,relMerge:=105,disable:=68,enable:=70,inBubble:=76,associate:=106,fatal:=107,uOr:=108,uAdd:=109,raceRead:=110,uLoad:=69,uStore:=111,disassociate:=74,semrelease:=112,acquire:=71,isAssociated:=72,uCas:=73,raceWrite:=75,semacquire:=77,orU64:=150,addU64:=151,loadU64:=127,storeU64:=152,casU64:=128,tWgP:=162,tUP:=170,tAssoc:=202,tWg:=97,tAU:=94,tU64:=36,tUint:=168,tU32:=95,tPU32:=174,tPAU:=219,tPU64:=221,tNoCopy:=90,tANoCopy:=91,tAlign64:=92}
def rf:ŭ İ Lk where
 f_add:=Tryz.func62;f_done:=Tryz.func65;f_wait:=Tryz.func53;f_relMerge:=Tryz.func105;f_disable:=Tryz.func68;f_enable:=Tryz.func70;f_inBubble:=Tryz.func76;f_associate:=Tryz.func106;f_fatal:=Tryz.func107;f_uOr:=Tryz.func108;f_uAdd:=Tryz.func109;f_raceRead:=Tryz.func110;f_uLoad:=Tryz.func69;f_uStore:=Tryz.func111;f_disassociate:=Tryz.func74;f_semrelease:=Tryz.func112;f_acquire:=Tryz.func71;f_isAssociated:=Tryz.func72;f_uCas:=Tryz.func73;f_raceWrite:=Tryz.func75;f_semacquire:=Tryz.func77;f_orU64:=Tryz.func150;f_addU64:=Tryz.func151;f_loadU64:=Tryz.func127;f_storeU64:=Tryz.func152;f_casU64:=Tryz.func128;underlying_tWgP:=Tryz.underlying162;runUnderlying_tWgP:=Tryz.runUnderlying162;sizeOf_tWgP:=Tryz.sizeOf162;isAgg_tWgP:=Tryz.isAgg162;zeroValue_tWgP:=Tryz.zeroValue162;underlying_tUP:=Tryz.underlying170;runUnderlying_tUP:=Tryz.runUnderlying170;sizeOf_tUP:=Tryz.sizeOf170;isAgg_tUP:=Tryz.isAgg170;zeroValue_tUP:=Tryz.zeroValue170;underlying_tI32:=Tryz.underlying202;runUnderlying_tI32:=Tryz.runUnderlying202;sizeOf_tI32:=Tryz.sizeOf202;isAgg_tI32:=Tryz.isAgg202;zeroValue_tI32:=Tryz.zeroValue202;underlying_tWg:=Tryz.underlying97;runUnderlying_tWg:=Tryz.runUnderlying97;sizeOf_tWg:=Tryz.sizeOf97;isAgg_tWg:=Tryz.isAgg97;zeroValue_tWg:=Tryz.zeroValue97;underlying_tAU:=Tryz.underlying94;runUnderlying_tAU:=Tryz.runUnderlying94;sizeOf_tAU:=Tryz.sizeOf94;isAgg_tAU:=Tryz.isAgg94;zeroValue_tAU:=Tryz.zeroValue94;underlying_tU64:=Tryz.underlying36;runUnderlying_tU64:=Tryz.runUnderlying36;sizeOf_tU64:=Tryz.sizeOf36;isAgg_tU64:=Tryz.isAgg36;zeroValue_tU64:=Tryz.zeroValue36;underlying_tSh:=Tryz.underlying168;runUnderlying_tSh:=Tryz.runUnderlying168;sizeOf_tSh:=Tryz.sizeOf168;isAgg_tSh:=Tryz.isAgg168;zeroValue_tSh:=Tryz.zeroValue168;underlying_tU32:=Tryz.underlying95;runUnderlying_tU32:=Tryz.runUnderlying95;sizeOf_tU32:=Tryz.sizeOf95;isAgg_tU32:=Tryz.isAgg95;zeroValue_tU32:=Tryz.zeroValue95;underlying_tPU32:=Tryz.underlying174;runUnderlying_tPU32:=Tryz.runUnderlying174;sizeOf_tPU32:=Tryz.sizeOf174;isAgg_tPU32:=Tryz.isAgg174;zeroValue_tPU32:=Tryz.zeroValue174;underlying_tPAU:=Tryz.underlying219;runUnderlying_tPAU:=Tryz.runUnderlying219;sizeOf_tPAU:=Tryz.sizeOf219;isAgg_tPAU:=Tryz.isAgg219;zeroValue_tPAU:=Tryz.zeroValue219;underlying_tPU64:=Tryz.underlying221;runUnderlying_tPU64:=Tryz.runUnderlying221;sizeOf_tPU64:=Tryz.sizeOf221;isAgg_tPU64:=Tryz.isAgg221;zeroValue_tPU64:=Tryz.zeroValue221;underlying_t0:=Tryz.underlying0;runUnderlying_t0:=Tryz.runUnderlying0;sizeOf_t0:=Tryz.sizeOf0;isAgg_t0:=Tryz.isAgg0;zeroValue_t0:=Tryz.zeroValue0;underlying_t3:=Tryz.underlying3;runUnderlying_t3:=Tryz.runUnderlying3;sizeOf_t3:=Tryz.sizeOf3;isAgg_t3:=Tryz.isAgg3;zeroValue_t3:=Tryz.zeroValue3;underlying_t4:=Tryz.underlying4;runUnderlying_t4:=Tryz.runUnderlying4;sizeOf_t4:=Tryz.sizeOf4;isAgg_t4:=Tryz.isAgg4;zeroValue_t4:=Tryz.zeroValue4;underlying_t9:=Tryz.underlying9;runUnderlying_t9:=Tryz.runUnderlying9;sizeOf_t9:=Tryz.sizeOf9;isAgg_t9:=Tryz.isAgg9;zeroValue_t9:=Tryz.zeroValue9;underlying_t20:=Ŀ;runUnderlying_t20:=Tryz.runUnderlying20;sizeOf_t20:=Tryz.sizeOf20;isAgg_t20:=Tryz.isAgg20;zeroValue_t20:=Tryz.zeroValue20;underlying_t21:=Tryz.underlying21;runUnderlying_t21:=Tryz.runUnderlying21;sizeOf_t21:=Tryz.sizeOf21;isAgg_t21:=Tryz.isAgg21;zeroValue_t21:=Tryz.zeroValue21;room_tWg:=by decide+kernel
 room_tU32:=by decide+kernel
end Go.Proofs.YtgpphkdoanciiaaGreatDoor
namespace Go.Proofs.Y.fq
open Go Go.Conc Go.Proofs.Y.Lift Go.RowKit Go.Conc.Lib Go.ConcR.Gen
open Go.Proofs Go.Proofs.YtgpphkdoanciiaaGreatDoor
def Y5:Array ĸ:=#[⟨Ã 3,.load 1<|Ô 1,1, "waitgroup.go:258",#[],Í⟩,
 ⟨Ã 4,Š {callee:=ğ (Ô 3),args:=#[],argTypes:=#[]},0, "waitgroup.go:258",#[⟨0,à⟩],Í⟩]
section
variable{Ψ:Ð->Prop}{l:e9}
def Y6(b:l.K ⟨i,0,Í⟩/\l.K ⟨i,1,Í⟩)(c:mf Ψ l i)(a:SW Ψ l i l.w)(e:l.d=0)(f:¬l.q)(j:gX l ⟨n,0,Í⟩)(k:l.w.cell? ⟨n,0,Í⟩=Ã (ø<|Ã ⟨i,0,Í⟩)): fg İ É (λl g=>yK İ É i (E3 İ) (kC l) g) l (G ((baseD 63).at ⟨#[ø<|Ã ⟨n,0,Í⟩,v,x,z,jQ],[pF 64 #[ø<|Ã ⟨n,0,Í⟩] #[]]⟩ [Ç Y5 []]) [n8 İ]):=by
 apply fO (n:=30) a.1;have hF:=trivial;iterate 2 w_go ft
 u_c (aiL U Ž fM U) ft hF
 walk_nrmf Tryz.f64;iterate 3 w_go ft
 u_c (aiK U U U U U U U) ft hF
 walk_nrm;have m:=λw g=>aiT 20 w g Ŀ;repeat w_go ft
 refine Ì λ_ _=> ?_;apply pG U U (by k_ne) a.1 f j k (λw h=>by go_simp) (λw h=>by simp[go_sem,h]);walk_nrm;apply fO (n:=30) a.1;u_call rf.f_done (nm_done Lk) doneFn ft hF;refine Ì λ_ _=> ?_;apply aiE rf b c a e;walk_nrm;apply LL U λ_=>stepG_region_end;apply LL U λ_=>stepG_end;refine aiQ U U Ž U U<|aiP U U Tryz.func63 U
end
end Go.Proofs.Y.fq
