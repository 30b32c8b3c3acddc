import Derived.Test.YtgpphkdoanciiaaGreatDoorWAA
import Derived.Conc.WgGenN3
import Derived.Conc.MuWords
import Derived.Conc.CompanyDraw
import Derived.Test.YtgpphkdoanciiaaGreatDoorRows
import Derived.Conc.WgLib
set_option linter.all false
set_option maxRecDepth 1000000
set_option maxHeartbeats 8000000
open Or renaming inl->À,inr->Á
open Go renaming undef->Â,Goroutine->Ä,deafBehind->Ï,World->Ð,execOp->Þ,Value->ã,Trace->ä,stepG->è,Frame->ø,MemOp->Ă,mem_ready->ĉ,Addr->Č,Event->đ,getD_set_true->ĝ,Program->Ğ,yielded->Ĩ,Oper->Ĭ,TypeId->ĳ,FuncId->Ĵ,resolve->ĸ,goexitEntry->Ō,Act->ō,runT->Ŏ,invoke->ś,callFunc->Ŝ,Item->Ţ,callDeferred->Ū,Deferred->Ů,Operand->Ÿ,unwind->Η,Mark->Ο,runNT->Χ,Code->θ,Loc->π
open Option renaming some->Ã,none->Í,map_eq_some_iff->Ù,isSome_iff_exists->ü,getD_some->ć
open Go.GoStatus renaming running->Å,blocked->Ü,finished->å
open Go.Item renaming inRegion->Æ,code->ĵ,inBlock->ŏ,inLoop->Ρ
open Nat renaming le_refl->Ç,lt_of_lt_of_le->Ê,le_of_eq->Ô,le_trans->Ø,le_mul_of_pos_right->â,mul_le_mul_left->ï,lt_of_not_le->ñ,zero_le->ò,add_zero->ó,le_of_not_lt->ă,and_two_pow_sub_one_eq_mod->Ą,mul_le_mul_right->č,strongRecOn->Ď,add_mul_mod_self_right->ē,lt_or_ge->ģ,mod_eq_of_lt->ļ,mul_add->ł,mod_lt->ż
open Option.some renaming inj->È,injEq->Ķ
open Bool renaming false->É,true->Ì,and_eq_true->ŀ
open Go.MemAct renaming ofEvent->Ë,touch?->Ċ,mark->ė,start->į,go->ς
open Go.Conc.Goes renaming stop->Î
open Go.ConcN renaming sumTo->Ñ,wraps_u64_63->ö,sumTo_congr->Ł
open Go.Region renaming ready->Ò,Mode->Ý,wanted->á,binds->ū
open Go.IntKind renaming u64->Ó,u32->ç,i64->Ũ
open Array renaming getElem?_eq_some_iff->Õ,append_empty->Ú,getElem?_eq_getElem->é,replicate->ê,getElem?_setIfInBounds_ne->í,mem_toList_iff->Ī
open Go.Conc renaming mem_ofEvents->Ö,crowd->ð,semEvents->õ,woken->Ā,stepG_semrelease->ą,seen_none->Ć,stepG_markAt->Ē,stepG_mark0->Ę,stepG_load_atomic->ę,Goes->İ,deafBehind_still->ĺ,parked->Ļ,stepG_add_atomic->Ľ,stepG_value->Ń,rcase->œ,stepG_none->Ŗ,goes_go->ť,stepG_enter->ŵ,QuitsD->Ź,touch_mute->ź,stepG_oper->Ζ,mem_listed->Ι,Knows->Λ,listed->η,Deaf->κ
open Go.MemOp renaming ofEvents->Û
open Go.Operand renaming tmp->ß,const->ċ,func->ŧ
open Go.ConcR renaming DC0->à
open Go.ConcR.Gen renaming x_semrelease_b->æ,x_semrelease_n->Ĕ,x_semrelease_x->ĕ,x_semrelease_f->Ė,mayWake_entry->Ĝ,x_enable_n->Ĥ,x_enable_b->ĥ,x_enable_x->Ħ,x_enable_f->ħ,x_disable_n->ń,x_disable_b->Ņ,x_disable_x->ņ,x_disable_f->Ň,x_loadU64_n->ň,x_loadU64_b->ŉ,x_loadU64_x->Ŋ,x_loadU64_f->ŋ,x_semacquire_n->ŗ,x_semacquire_b->Ř,x_semacquire_x->ř,x_semacquire_f->Ś,body_wait->ţ,nm_uLoad->ů,x_acquire_n->Ű,x_acquire_b->ű,x_acquire_x->Ų,x_acquire_f->ų,x_addU64_n->Ž,x_addU64_b->ž,x_addU64_x->ſ,x_addU64_f->Α,x_casU64_n->Β,x_casU64_b->Γ,x_casU64_x->Δ,x_casU64_f->Ε
open Go.Value renaming int->ë,pointer->ì,nilIface->ā,tuple->ı
open Go.Mark renaming enable->î,disable->ô,releaseMerge->Į,acquire->ő,write->Υ
open Go.FrameMode renaming returning->ù
open Go.Loc renaming cell->ú,mark->ŭ
open Go.Region.linearise renaming go->û
open Go.Ground renaming data->ý,phase->ũ
open Go.Act renaming eval->þ,put->Ő
open Ne renaming symm->ÿ
open Go.Deferred renaming ofValue->Ĉ
open Go.Goroutine renaming again->ď
open Go.CallKind renaming early->Đ,deferred->ľ
open Go.GStep renaming after->Ě,go->ş
open Go.Conc.Lib renaming WgLink->ě,WgLib->Ŕ,uLoadFn->Ξ
open Go.Stepped renaming next->ğ
open List renaming all_eq_true->ġ,any_eq_true->Ŀ,mem_range->Ş,mem_cons->š,range->Κ
open Go.Code renaming region->Ģ,cond->Τ,block->ε,skip->ο
open Go.Frame renaming finish_at->ĩ,enter->Ŷ
open Go.Proofs.Tryz renaming prog->ī,underlying20->Ĺ,func64->ŷ
open Go.Op renaming move->Ŧ,call->Ŭ,equalIn->Θ,binOp->Ω
variable{i n j b k m J j9 j7 j6:Nat}{w u W jX:Ð}{v x z jQ:ã}{g:Ä}{a p:Č}{h c:Int}{e t T:ĳ}{d q:Array ã}{P:Ğ}{y:ō}{B:ByteArray}{X:Nat->Prop}{O:Option Č}{l:List ã}{yQ:Bool}{K H:ō->Ð->Prop}{o:Ĭ}{D:Nat->Nat}{E:Array Ä}{L:List Ţ}{jJ:List Nat}{qX:List ø}{qQ:Ÿ}{qJ:ä}{zX:π->Prop}{zQ:List Int}{zJ:Go.TypeInfo}{xX:Ÿ->ã}{xQ:Go.Tape}{xJ:Nat×Nat}{wX:θ}{wQ:Ă}{wJ:Array Bool}{vX:List ByteArray}{vQ:ã->Ð->Prop}{vJ:Go.Exit->ō->Ð->Prop}{yX:Ý}{Q:Array Ĭ}{f:ø}{V:Array đ}{F:Ĵ}{s:Go.Func}
namespace Go.Proofs.Y.fw
open Go Go.Conc Go.Proofs.Y.Lift
open Go.ConcN (sumTo)
section
variable{F:Ph}{E:fO F}{S:Nat->Jd}{tr:Nat->gk}{c:Nat->il}{lot:Nat->e7}{gs:Array Ä}{w':Ð}{t u:ä}{sz:Nat}
def vO(h:F.M b):F.G (fH b)/\F.G (gQ b):=⟨⟨b,h,À U⟩,⟨b,h,Á U⟩⟩
def vP(h:F.G a):E.Y a.block:=by obtain⟨b,c,rfl|rfl⟩:=h<;>exact À c
def iA.Y(L:iA F E lot sz w)(ok:F.Ok)(f:F.G a):∀i,i<sz->¬(lot i).C a:=by
 intro i g h;let⟨b,c,d⟩:=f;rcases L.gN i g a h with⟨k,_,e⟩|⟨p,_,e⟩
 .rcases d with rfl|rfl<;>simp[fH,gQ,iZ]at e
 .rcases d with rfl|rfl
  .simp only[fH,je]at e;injection e with e1 _ _;exact ok.C<|e1▸c
  .simp only[gQ,je]at e;injection e with e1 _ _;exact ok.C<|e1▸c
def iA.rG(L:iA F E lot sz w)(c:Ps F E)(d:j+2<=E.r):∀i,i<sz->∀a:Č,a.block=E.I j->¬(lot i).C a:=by
 intro i f a b g;let⟨h,l,_⟩:=c.o j d;rcases L.gN i f a g with⟨k,m,e⟩|⟨p,_,e⟩
 .exact h<|by rw[<-b,e];exact Á ⟨k,m,U⟩
 .exact l<|by rw[<-b,e];rfl
def iA.ae6(L:iA F E lot sz w):∀i,i<sz->∀a,(lot i).C a->a.spot=Í:=by intro i b a c;rcases L.gN i b a c with⟨k,_,rfl⟩|⟨p,_,rfl⟩<;>rfl
def iA.Nv(L:iA F E lot sz w)(ok:F.Ok):∀i,i<sz->¬(lot i).r (je F F.f):=by
 intro i a h;rcases L.gN i a _ (À h)with⟨k,b,e⟩|⟨p,c,e⟩
 .have:F.Y=F.I k:=by injection e
  exact ok.C<|by rw[this];exact Á ⟨k,b,U⟩
 .have:F.f=p:=by injection e
  exact c this.symm
structure Fg(F:Ph)(E:fO F)(lot:Nat->e7)(sz:Nat)(w w':Ð):Prop where
 Cm:w.heap.size<=w'.heap.size
 C:∀b,b<w.heap.size->¬E.Y b->(∀i,i<sz->¬(lot i).O b)->w'.heap[b]?=w.heap[b]?
 r:∀a:Č,((∃k,k<=F.m/\a=iZ F.toFx k)\/∃p,a=je F p)->(∀i,i<sz->¬(lot i).r a)->w'.cell? a=w.cell? a
 I:kE w' F.Y=kE w F.Y
 M:w'.os=w.os/\w'.output=w.output
def Wd.IW(W:Wd F E w)(H:gM F)(L:iA F E lot sz w)(a:Fg F E lot sz w w')(f:E.S.md<=F.m){d:GS}{e:Nat->GS}(g:gU w' F.C d)(h:∀k,k<=F.m->gU w' (F.I k) (e k))(i:∀j,j+2<=E.r->w'.heap[E.I j]?=w.heap[E.I j]?):Wd F {E with b:=d,a:=e} w' where
 C:=g;I:=h;jw j hj:=by have:=W.jw j hj;rwa[<-i j hj]at this
 M k hk:=⟨(W.M k hk).1,H.S _ _ _ _ _ (W.M k hk).2 (λb c=>a.C b (L.I k hk b c).1 (L.I k hk b c).2.1 (L.I k hk b c).2.2) (a.r _ (À ⟨k,Ø hk f,U⟩)<|L.N k hk) (a.r _ (Á ⟨_,U⟩)<|L.Nv H.C) a.I a.M⟩;S k h1 h2:=(a.r _ (Á ⟨_,U⟩)<|L.g k h1 h2).trans<|W.S k h1 h2;N j hj r hr hd:=(a.r _ (Á ⟨_,U⟩)<|L.d j hj r hr hd).trans<|W.N j hj r hr hd
def IX(a:Ps F E):E.S.md<=F.m:=by
 cases h:E.S with
 |kA k=>exact(a.I k).1 h
 |mk k=>have:=((a.I k).2.1 h).2;simp only[jk.md];omega
 |dn k p=>exact((a.I k).2.2 p h).2
def IY(a:Ps F E):E.S.rl<=E.S.md:=by
 cases h:E.S with
 |dn k p=>cases p<;>simp only[jk.rl,jk.md]<;>omega
 |_=>exact Ç _
def Nw(a:jk):a.od<=a.rl:=by
 cases a with
 |dn k p=>cases p<;>simp only[jk.rl,jk.od]<;>omega
 |_=>exact Ç _
def Wb{x:Nat}(h:E.ie x):E.nH x:=by let⟨e,a,b⟩:=h;exact⟨e,a,by cases e<;>first|exact b|trivial⟩
def IZ{l a:e7}(h:l=kj l)(b:lV l a w w' V):a=kj a:=by
 have j:l.q:=by rw[h];trivial
 have c:a.O=λ_=>False:=by rw[(b.i j).2.2,h];rfl
 have e:a.I=λ_=>False:=by rw[b.I,h];rfl
 have f:a.r=λ_=>False:=by rw[b.r,h];rfl
 have g:a.N=λ_=>False:=by rw[b.M,h];rfl
 have i:a.q=True:=by rw[b.q,h];rfl
 obtain⟨O,k,m,n,d,q,o⟩:=a;simp only at c e f g i;subst c e f g i;rfl
theorem iA.fi(L:iA F E lot gs.size w)(C:iL F.S (λi=>i<gs.size) E.Y lot w t){m:e7}(J:i<gs.size)(d:lV (lot i) m w w' V):iA F E (gi lot i m) gs.size w':=by
 have K:∀x,E.nH x->i=F.L+x->m=kj m:=λx p e=>IZ (e▸L.S x p) d;have M:=λc l=>IZ (L.c i c l) d;have B:∀k a,(gi lot i m k).C a↔(lot k).C a:=λk a=>by
  by_cases e:k=i
  .subst e;rw[gO];unfold e7.C;rw[d.r,d.M]
  .rw[gB lot _ e]
 have n:∀k,(gi lot i m k).r=(lot k).r:=λk=>by
  by_cases e:k=i
  .subst e;rw[gO,d.r]
  .rw[gB lot _ e]
 have s:∀k,(gi lot i m k).N=(lot k).N:=λk=>by
  by_cases e:k=i
  .subst e;rw[gO,d.M]
  .rw[gB lot _ e]
 have u:∀k,(gi lot i m k).I=(lot k).I:=λk=>by
  by_cases e:k=i
  .subst e;rw[gO,d.I]
  .rw[gB lot _ e]
 refine⟨λk f a v=>L.gN k f a<|(B k a).1 v,λx c l a v=>by rw[n];exact L.o x c l a v,λh=>by rw[s,u];exact L.ln h,λh k c l=>by rw[n];exact L.e h k c l,λh o=>by rw[s,u];exact L.f h o,λj g o r y c=>by rw[n];exact L.h j g o r y c,λj g o=>by rw[s,u];exact L.l j g o,λx p=> ?_,λk f=> ?_,λk c l=> ?_,λk f b D=> ?_,λk f j g=>by rw[n];exact L.N k f j g,λk c l j g=>by rw[n];exact L.g k c l j g,λj g r y G k f=>by rw[n];exact L.d j g r y G k f⟩
 .by_cases e:F.L+x=i
  .grind [gO]
  .rw[gB lot _ e];exact L.S x p
 .by_cases e:k=i
  .subst e;rw[gO,d.q];exact L.M k f
  .rw[gB lot _ e];exact L.M k f
 .by_cases e:k=i
  .grind [gO]
  .rw[gB lot _ e];exact L.c k c l
 .let⟨H,I,N⟩:=L.I k f b D;refine⟨Ê H d.C,I,λj g=> ?_⟩;by_cases e:j=i
  .subst e;rw[gO];intro q;rcases d.S b q with z|z;all_goals grind
  .grind [gB]
def ae7(C:iL F.S (λi=>i<gs.size) E.Y lot w t){h:e7}(d:i<gs.size)(c:lV (lot i) h w w' V):Fg F E lot gs.size w w':= ⟨c.C,λb j e f=>c.jH b j (f i d) λa g q=>e<|g▸C.e i d a (À q),λa g f=>by
   have e:E.Y a.block:=by
    rcases g with⟨k,l,rfl⟩|⟨p,rfl⟩
    .exact À<|Á ⟨k,l,U⟩
    .exact Á<|À U
   exact c.N a (C.N _ e) (λq=>C.I i d _ (À q) e)<|f i d,
  c.Y (je F 0) (C.N _ (Á (À U))) λq=>C.I i d _ (À q) (Á (À U)),c.f,c.g⟩
def Wc(L:iA F E lot gs.size w)(ok:F.Ok)(C:iL F.S (λi=>i<gs.size) E.Y lot w t){g:e7}(e:i<gs.size)(c:lV (lot i) g w w' V)(f:F.M b){G:GS}(h:gU w b G):gU w' b G:=by have a:E.Y b:=À f;have d:=λq=>C.I i e _ (À q) a;exact h.uJ (c.N (fH b) (C.N _ a) d λq=>(L.Y ok (vO f).1 i e)<|À q) (c.N (gQ b) (C.N _ a) d λq=>(L.Y ok (vO f).2 i e)<|À q) (IA<|c.Y (fH b) (C.N _ a) d)<|IA<|c.Y (gQ b) (C.N _ a) d
def ae8(L:iA F E lot gs.size w)(e:Ps F E)(C:iL F.S (λi=>i<gs.size) E.Y lot w t){f:e7}(b:i<gs.size)(g:lV (lot i) f w w' V)(c:j+2<=E.r):w'.heap[E.I j]?=w.heap[E.I j]?:=by have d:E.Y (E.I j):=Á<|Á ⟨j,c,U⟩;exact g.jH _ (C.N _ d) (λq=>C.I i b _ (À q) d) λa h q=>L.rG e c i b a h<|À q
theorem ae9(L:iA F E lot gs.size w)(H:Ps F E)(ok:F.Ok)(C:iL F.S (λi=>i<gs.size) E.Y lot w t)(P:gs.size=F.L+E.r){m:e7}{p:Array đ}{u:Ĵ}{B:String}(o:i<gs.size)(g:lV (lot i) m w w' p): IU F.toFx E.r (E.S.rl) E.V E.d E.ie t (Û i u B p) i:=by
 have J:∀x,E.ie x->i=F.L+x->m=kj m:=λx l e=>IZ (e▸L.S x (Wb l)) g;have D:∀c∈Û i u B p,∀a,c.act.touch?=Ã a->∃y:Č,a.loc=ú y/\(m.O y.block\/m.r y\/((m.I y.block\/m.N y)/\a.write=É)):=λc d a n=>by obtain⟨e,r,rfl⟩:=Ö d;exact VQ (g.c e r) n
 have I:m=kj m->∀c∈Û i u B p,c.act.touch?=Í:=λe c d=>by
  cases h:c.act.touch? with
  |none=>rfl
  |some a=>
   let⟨y,_,q⟩:=D c d a h;rw[e]at q;rcases q with q|q|⟨q|q,_⟩<;>exact q.elim
 refine⟨λc d _ _=>nG c d,?_,λc d a x n G l=> ?_,λc d a y n Q G k h s=> ?_,λc d b _ e=> ?_,λx l K=> ?_⟩
 .by_cases j:i=0
  .exact À j
  .by_cases f:i<F.L
   .exact Á<|Á<|I<|(λh s=>IZ (L.c i h s) g) Z f
   .exact Á<|À ⟨i-F.L,Z,Z⟩
 .exfalso;let⟨y,j,q⟩:=D c d a n;rw[G]at j;injection j with j;subst j;have f:=vP (E:=E) l;have v:=L.Y ok l i o;rcases q with q|q|⟨q|q,_⟩
  .rcases g.S _ q with z|z
   .exact C.I i o _ (À z) f
   .have:=C.N _ f;omega
  .exact v<|À<|by rwa[<-g.r]
  .exact C.I i o _ (Á<|by rwa[<-g.I]) f
  .exact v<|Á<|by rwa[<-g.M]
 .have j:=Ø s<|IY H;let⟨x,l,q⟩:=D c d a n;rw[G]at l;injection l with l;subst l;rcases q with q|q|⟨_,q⟩
  .refine⟨λv=> ?_,λe=> ?_⟩
   .let⟨M,_,N⟩:=L.I k j _ v;rcases g.S _ q with z|z;all_goals grind
   .have f:E.Y y.block:=by rw[e];exact À<|Á ⟨k,Ø j<|IX H,U⟩
    rcases g.S _ q with z|z
    .exact C.I i o _ (À z) f
    .have:=C.N _ f;omega
  .refine⟨λv=>((L.I k j _ v).2.1<|C.e i o y<|À<|by rwa[<-g.r]),λe=>(L.N k j i o<|by rwa[<-g.r,<-e])⟩
  .grind
 .obtain⟨j,r,rfl⟩:=Ö d;have v:=g.c j r;let⟨M,N,S⟩:=j;simp only[Ë]at e;rcases v with⟨a,h,_⟩|h|⟨f,h⟩|h|h|⟨a,_,h|h|h|h⟩<;>(simp only at h;subst h;simp at e)
 .by_cases e:F.L+x=i
  .have v:=I<|J x K e.symm;refine⟨λr f=>f.app λj S T M=> ?_,λ_ c d a n=>by rw[v c d]at n;cases n⟩;let⟨z,N,_⟩:=M;rcases mo (show touchAt (t++_) j=Ã z from N)with⟨q,_⟩|⟨_,c,h,s,_⟩;all_goals grind
  .exact⟨λr f=>f.appOther nG<|ÿ e,λj=>absurd j e⟩
end
abbrev sR:=Nat×Nat×gk
def xM(x y:sR):Prop:=x.1<y.1\/(x.1=y.1/\(x.2.1<y.2.1\/(x.2.1=y.2.1/\VT x.2.2 y.2.2)))
def Wg:WellFounded xM:=by
 refine⟨λx=> ?_⟩;let⟨a,b,c⟩:=x
 induction a using Ď generalizing b c with
 |_ a j=>
  induction b using Ď generalizing c with
  |_ b k=>
   induction VU.apply c with
   |intro c _ l=>
    refine⟨_,λy h=> ?_⟩;let⟨m,f,e⟩:=y;rcases h with h|⟨d,h|⟨g,i⟩⟩
    .exact j m h f e
    .simp only at d h;subst d;exact k f h e
    .simp only at d g i;subst d g;exact l e i
def afa(x:sR):¬xM x x:=by
 intro h
 induction Wg.apply x with
 |intro x _ a=>exact a x h h
def BX(n:Nat)(f g:Nat->sR):Prop:=∃i,i<n/\xM (f i) (g i)/\∀j,j<n->j≠i->f j=g j\/xM (f j) (g j)
def Wh:∀(n:Nat) (g:Nat->sR),Acc (BX n) g
 |0,g=>⟨_,λf ⟨i,h,_⟩=>absurd h Z⟩
 |n+1,g=>by
  have k:∀(x:sR) (h:Nat->sR),∀g:Nat->sR,g n=x->(∀j,j<n->g j=h j)->Acc (BX<|n+1) g:=by
   intro x
   induction Wg.apply x with
   |intro x _ l=>
    intro h
    induction Wh n h with
    |intro h _ m=>
     intro g b c;refine⟨_,λf ⟨i,r,a,d⟩=> ?_⟩;by_cases e:f n=g n
     .have s:i≠n:=by
       intro q;subst q;rw[e]at a;exact afa _ a
      refine m f ⟨i,Z,by rwa[<-c i Z],λj o p=> ?_⟩ f (e.trans b) λ_ _=>rfl;rw[<-c j o];exact d j Z p
     .have:xM (f n) x:=by
       rw[<-b];by_cases q:n=i
       .rwa[q]
       .exact(d n Z q).resolve_left e
      exact l _ this f f U λ_ _=>rfl
  exact k (g n) g g U λ_ _=>rfl
abbrev Mu:=(Nat->sR)×Nat
def oH(n:Nat)(x y:Mu):Prop:=BX n x.1 y.1\/((∀j,j<n->x.1 j=y.1 j)/\x.2<y.2)
def afb(n:Nat):WellFounded (oH n):=by
 have e:∀h:Nat->sR,∀k:Nat,∀g:Nat->sR,(∀j,j<n->g j=h j)->Acc (oH n) (g,k):=by
  intro h
  induction Wh n h with
  |intro h _ l=>
   intro k
   induction k using Ď with
   |_ k m=>
    intro g a;refine⟨_,λy q=> ?_⟩;let⟨f,b⟩:=y;rcases q with⟨i,c,o,x⟩|⟨p,r⟩
    .exact l f ⟨i,c,by rwa[<-a i c],λj d s=>by rw[<-a j d];exact x j d s⟩ b f λ_ _=>rfl
    .exact m b r f λj x=>(p j x).trans<|a j x
 exact⟨λx=>e x.1 x.2 x.1 λ_ _=>rfl⟩
section
variable(F:Ph)
def jv.rk(n:Nat):jv->Nat
 |.jr=>n+1011
 |.iy=>n+1010
 |.gq W=>min W (n+1000)+4
 |.iV W=>min W (n+1000)+3
 |.im r=>min r (n+1000)+2
def ji.rk:ji->Nat
 |.iR=>7
 |.lG _=>6
 |.wr=>5
 |.ki=>4
 |.gq=>3
 |.kK=>2
def fR.rk(F:Ph):fR->Nat
 |.iy j=>F.q+F.n+20+4*(F.n-j)+7
 |.rd j=>F.q+F.n+20+4*(F.n-j)+6
 |.kV j=>F.q+F.n+20+4*(F.n-j)+5
 |.go j=>F.q+F.n+20+4*(F.n-j)+4
 |.iE r=>r+F.n+11
 |.kF r=>r+10
 |.fu p=>p.rk+2
 |.fV=>0
def jk.rk(F:Ph):jk->Nat
 |.kA k=>(F.n+3000)*(F.m+2-k)+2900
 |.mk k=>(F.n+3000)*(F.m+3-k)+2800
 |.dn k p=>(F.n+3000)*(F.m+2-k)+2901+p.rk F.n
def gG.rk(F:Ph):gG->Nat
 |.mK r=>(F.n+3000)*(F.q+3-r)
 |.fu r p=>(F.n+3000)*(F.q+3-r)-20+p.rk
 |.jz r=>(F.n+3000)*(F.q+3-r)-30
 |.nY r=>(F.n+3000)*(F.q+3-r)-40
def gZ.rk(F:Ph):gZ->Nat×Nat
 |.n5=>(F.n+2900,0)
 |.fV p=>(p.rk F.n,0)
 |.jh N=>(0,N)
end
def SP.rk(B:Nat)(st:Int):SP->Nat
 |.fU k=>B+2+k
 |.ld v k=>if st=v then k+1 else 2*B+3+k
def ji.kS(B:Nat)(st:Int):ji->Nat
 |.lG p=>p.rk B st
 |_=>0
section
variable{F:Ph}
def fO.iM(E:fO F)(tr:Nat->gk)(i:Nat):sR:=
 if i=0 then(E.M.rk F,0,tr 0)
 else if i<F.L then(0,E.h i,.fv)
 else match E.N (i-F.L)with
  |some e=>((e.rk F).1,(e.rk F).2,tr i)
  |none=>if i=F.L then(E.S.rk F,0,tr i)else((E.C<|i-F.L-1).rk F,0,tr i)
def fO.kS(E:fO F)(i:Nat):Nat:=
 if i=0 then(match E.M with|.fu p=>p.kS F.B E.b.st|_=>0)
 else if i<=F.L then 0
 else match E.C (i-F.L-1)with|.fu r p=>p.kS F.B (E.a<|F.r<|i-F.L-1+r*F.n).st|_=>0
def gd(gs:Array Ä)(i:Nat):Nat:=if(gs[i]?).any (·.status==.running)then 1 else 0
def Ph.N(F:Ph):Nat:=F.L+F.n+1
def fO.mu(E:fO F)(a:Nat->gk)(b:Array Ä):Mu:=(E.iM a,Ñ F.N λi=>(F.N+1)*E.kS i+gd b i)
end
theorem Fh{b x:Ä}(h:(Ā P g b w x).status=Ü):Ā P g b w x=x/\x.status=Ü:=by
 unfold Ā at h|-;split at h
 .rename_i c;rw[if_pos c];unfold ď at h|-;grind
 .grind
section
variable{F:Ph}{E:fO F}{S:Nat->Jd}{tr:Nat->gk}{d:Nat->il}{lot:Nat->e7}{gs gs':Array Ä}{w':Ð}{t u:ä}{sl:Option (Nat×Nat)}
def fe.E7(h:fe F E gs w)(o:gs'[i]?=Ã g)(p:g.status≠Ü)(t:∀k,k≠i->∃a f:Ä,gs'[k]?=gs[k]?.map (Ā F.P a f w'))(u:∀j,j+2<=E.r->w'.heap[E.I j]?=w.heap[E.I j]?):fe F E gs' w':=by
 intro k x b l;by_cases e:k=i
 .subst e;rw[o]at b;obtain rfl:=È b;exact absurd l p
 .let⟨a,f,q⟩:=t k e;rw[q]at b;obtain⟨y,v,rfl⟩:=Ù.1 b;let⟨_,z⟩:=Fh l;rcases h k y v z with h1|⟨j,c,m,n,d|⟨r,B,s,C,d,D⟩⟩
  .exact À h1
  .exact Á ⟨j,c,m,n,À d⟩
  .exact Á ⟨j,c,m,n,Á ⟨r,B,s,C,d,by rwa[u j c]⟩⟩
def kX{J:Jd}(a:∀l g,J l g->g.status=Å\/g.status=å){l:e7}(h:ff P yQ J l g):g.status=Å\/g.status=å:=by
 cases h with
 |fv h=>exact a _ _<|h _<|fE.fQ _ _
 |jB _ _ _ _ b=>exact À b
def afc(H:gM F)(p:PI F m zX E S tr d lot gs w t){i:Nat}(hi:i<gs.size):∀l g,S i l g->g.status=Å\/g.status=å:=by
 have dn:∀(main:Bool) (b:Nat) (J:Jd),(∀l g,J l g->g.status=Å\/g.status=å)->∀(p:jv) l g,Cj F.P main b J p l g->g.status=Å\/g.status=å:=by
  intro main b J hJ p l g h;cases p with
  |jr=>exact À h.2.1
  |iy=>exact À h.2.1
  |gq W=>exact À h.2.1
  |iV W=>exact À h.2.1
  |im r=>cases r with
   |zero=>exact hJ l g h
   |succ r=>exact À h.2.1
 have wt:∀(main:Bool) (b:Nat) (J:Jd) (p:ji) l g,pV F.P main F.B b J p l g->g.status=Å:=by
  intro main b J p l g h;cases p with
  |iR=>let⟨k,_,_,T,h1,h2⟩:=h;exact(h2 _ _ h1).1
  |lG p=>let⟨_,T,h1,h2⟩:=h;exact(h2 _ _ h1).1
  |wr=>exact h.2.1
  |ki=>exact h.2.1
  |gq=>exact h.2.1
  |kK=>exact h.2.1
 intro l g h;by_cases e0:i=0
 .subst e0;rw[p.h.1]at h;cases hm:E.M with
  |go j=>rw[hm]at h;exact À<|H.I _ _ _ _ h
  |kV j=>rw[hm]at h;let⟨c,h⟩:=h;exact À<|H.I _ _ _ _ h
  |rd j=>rw[hm]at h;exact À h.2.1
  |iy j=>rw[hm]at h;exact À h.2.1
  |iE r=>
   rw[hm]at h;have cl:∀r l g,zU F E.I r l g->g.status=Å:=λr l g h=>by
    cases r with
    |zero=>exact wt _ _ _ .iR _ _ h
    |succ r=>exact h.1
   cases r with
   |zero=>exact À<|cl _ _ _ h
   |succ r=>exact À h.1
  |kF r=>
   rw[hm]at h;cases r with
   |zero=>exact À<|wt _ _ _ .iR _ _ h
   |succ r=>exact À h.1
  |fu p=>rw[hm]at h;exact À<|wt _ _ _ _ _ _ h
  |fV=>rw[hm]at h;exact À<|H.M _ _ _ h
 by_cases e1:i<F.L
 .rw[(p.l i Z e1).1]at h;exact QuitsD.status h
 have jC:=p.b;obtain⟨x,rfl⟩:∃x,i=F.L+x:=⟨i-F.L,Z⟩;cases he:E.N x with
 |some e=>
  rw[(p.k x e Z he).1]at h;cases e with
  |n5=>exact À h.2.1
  |fV p=>exact dn _ _ _ (λl g ⟨N,h⟩=>h.status) _ _ _ h
  |jh N=>exact QuitsD.status h
 |none=>
  cases x with
  |zero=>
   rw[ó,(p.m Z he).1]at h;cases hm:E.S with
   |kA k=>rw[hm]at h;exact À<|H.N _ _ _ h
   |mk k=>rw[hm]at h;let⟨s',V,_,_,_,_,h⟩:=h;exact À h.2.1
   |dn k p=>rw[hm]at h;exact dn _ _ _ (λl g h=>kX (λl g h=>À<|H.N _ _ _ h) h) _ _ _ h
  |succ j=>
   rw[show F.L+(j+1)=F.L+1+j by omega,(p.g j Z he).1]at h;cases hm:E.C j with
   |mK r=>rw[hm]at h;exact À h.1
   |fu r p=>rw[hm]at h;exact À<|wt _ _ _ _ _ _ h
   |jz r=>rw[hm]at h;exact À<|H.Y _ _ _ _ h
   |nY r=>rw[hm]at h;exact À h.2.1
theorem afd{T:gk}(h:k≠i):E.iM (ft tr i T) k=E.iM tr k:=by unfold fO.iM;grind [fD]
theorem afe{k:Ð->gk}(a:tr i=.jB k)(b:¬(0<i/\i<F.L)):xM (E.iM (ft tr i<|k w) i) (E.iM tr i):=by
 unfold fO.iM;split
 .rename_i e;subst e;rw[gy,a];exact Á ⟨U,Á ⟨U,w,U⟩⟩
 .split
  .grind
  .rw[gy,a];split
   .exact Á ⟨U,Á ⟨U,w,U⟩⟩
   .split<;>exact Á ⟨U,Á ⟨U,w,U⟩⟩
theorem PI.fi(H:gM F)(p:PI F m zX E S tr d lot gs w t){k:Ð->gk}(y:gs[i]?=Ã g)(o:tr i=.jB k): ∃gs' w' u e q,Ŏ F.P (ð gs w sl) i=(ğ<|ð gs' w' sl,u)/\gs'.size=gs.size/\PI F m zX E S e d q gs' w' (t++u)/\oH F.N (E.mu e gs') (E.mu tr gs):=by
 have c:=(Õ.1 y).1;let⟨gs',w',W,X,D,z,⟨Y,G,I⟩,J,f,K⟩:=p.I.fi (sl:=sl) y o<|afc H p c;have M:¬(0<i/\i<F.L):=λ⟨a,b⟩=>by rw[(p.l i a b).2.1]at o;cases o
 have C:=p.I.r;have B:∀j,j+2<=E.r->w'.heap[E.I j]?=w.heap[E.I j]?:=λj v=>ae8 p.a p.C C c f v;have O:i<F.N:=by
  have:=p.b;have:E.r<=F.n+1:=by
   unfold fO.r;cases e:E.M with
   |go j=>have:=p.C.C j<|À e;simp only[fR.sp];omega
   |kV j=>have:=p.C.C j<|Á<|À e;simp only[fR.sp];omega
   |rd j=>have:=p.C.C j<|Á<|Á<|À e;simp only[fR.sp];omega
   |iy j=>have:=p.C.C j<|Á<|Á<|Á e;simp only[fR.sp];omega
   |_=>simp only[fR.sp];omega
  unfold Ph.N;omega
 refine⟨gs',w',_,_,_,D,z,⟨z.trans p.b,K,p.h,p.m,p.g,λx e h l=> ?_,λs h l=> ?_,?_,p.M.IW H p.a (ae7 (E:=E) C c f) (IX p.C) (Wc p.a H.C C c f (À U) p.M.C) (λs q=>Wc p.a H.C C c f (Á ⟨s,q,U⟩)<|p.M.I s q) B,p.C,p.d.C<|ae9 p.a p.C H.C C p.b c f,p.c.E7 G (by rcases I with q|q<;>rw[q]<;>simp) J B,λj r h l q=>(p.f j r h l q).app _⟩,À ⟨i,O,afe o M,λj _ v=>À<|afd v⟩⟩
 .let⟨Q,T,V⟩:=p.k x e h l;grind [fD]
 .let⟨Q,T,V⟩:=p.l s h l;grind [fD]
 .have:=p.a.fi C c f;grind
end
end Go.Proofs.Y.fw
namespace Go.Proofs.Y.fw
open Go Go.Conc Go.Proofs.Y.Lift
open Go.ConcN (sumTo sumTo_congr)
def aff{J b:Jd}(c:∀l g,J l g->b l g):∀{T:gk} {l:e7} {g:Ä},kJ P yQ J T l g->kJ P yQ b T l g:=by
 intro T
 induction T with
 |fv=>exact λh a r=>c _ _<|h a r
 |jB k d=>
  intro l g h;refine⟨h.1,λa r=> ?_⟩;let⟨e,f,i,j,m,n,o⟩:=h.2 a r;exact⟨e,f,i,j,m,n,d a o⟩
section
variable{F:Ph}{E E':fO F}{S:Nat->Jd}{tr d:Nat->gk}{kp:Nat->il}{c:Nat->e7}{gs gs':Array Ä}{u:ä}{sl:Option (Nat×Nat)}
theorem gE.kA{Y:Nat->Prop}(a:gE P n Y S tr kp c gs w qJ){J:Jd}(h:∀l g,S i l g->J l g):gE P n Y (ft S i J) tr kp c gs w qJ:=by
 refine⟨a.r,λk x b=> ?_,a.I⟩;let⟨g0,d,f⟩:=a.C k x b;by_cases e:k=i
 .subst e;rw[gy];exact⟨g0,aff h d,f⟩
 .grind [fD]
def Cn:E.iM tr 0=(E.M.rk F,0,tr 0):=by simp[fO.iM]
theorem I0(ok:F.Ok){x:Nat}{e:gZ}(a:E.N x=Ã e):E.iM tr (F.L+x)=((e.rk F).1,(e.rk F).2,tr<|F.L+x):=by have:=ok.r;unfold fO.iM;grind
theorem Wi(ok:F.Ok)(a:E.N 0=Í):E.iM tr F.L=(E.S.rk F,0,tr F.L):=by have:=ok.r;unfold fO.iM;grind
theorem sS(ok:F.Ok)(a:E.N (j+1)=Í):E.iM tr (F.L+1+j)=((E.C j).rk F,0,tr<|F.L+1+j):=by have:=ok.r;unfold fO.iM;grind
theorem xN(a:k=0->E'.M.rk F=E.M.rk F)(b:0<k->k<F.L->E'.h k=E.h k)(c:F.L<=k->E'.N (k-F.L)=E.N (k-F.L))(e:k=F.L->E.N 0=Í->E'.S.rk F=E.S.rk F)(f:F.L<k->E.N (k-F.L)=Í->(E'.C<|k-F.L-1).rk F=(E.C<|k-F.L-1).rk F)(g:d k=tr k):E'.iM d k=E.iM tr k:=by unfold fO.iM;grind
def Fi(a:i<F.N)(h:xM (E'.iM d i) (E.iM tr i))(b:∀k,k≠i->E'.iM d k=E.iM tr k):oH F.N (E'.mu d gs') (E.mu tr gs):= À ⟨i,a,h,λj _ c=>À<|b j c⟩
def Co(a:Ps F E):E.r<=F.n+1:=by
 unfold fO.r;cases b:E.M with
 |go j=>have:=a.C j<|À b;simp only[fR.sp];omega
 |kV j=>have:=a.C j<|Á<|À b;simp only[fR.sp];omega
 |rd j=>have:=a.C j<|Á<|Á<|À b;simp only[fR.sp];omega
 |iy j=>have:=a.C j<|Á<|Á<|Á b;simp only[fR.sp];omega
 |_=>simp only[fR.sp];omega
def PI.G(p:PI F b zX E S tr kp c gs w qJ)(h:i<gs.size):i<F.N:=by have:=p.b;have:=Co p.C;unfold Ph.N;omega
def gK(E:fO F)(j:Nat)(x:gG):fO F:={E with C:=ft E.C j x}
theorem jD(j:Nat)(x:gG):(gK E j x).C j=x:=gy _ _ _
theorem iH(x:gG)(h:i≠j):(gK E j x).C i=E.C i:=fD _ _ h
theorem Wj{x:gG}(h:∀k,x.gw F j k=(E.C j).gw F j k)(k:Nat):(Ñ F.n λi=>((gK E j x).C i).gw F i k)=Ñ F.n λi=>(E.C i).gw F i k:=by grind [jD,iH]
def Cp(ok:F.Ok){x:gG}{T:gk}(b:F.L+1+j<F.N)(a:E.N (j+1)=Í)(h:x.rk F<(E.C j).rk F):oH F.N ((gK E j x).mu (ft tr (F.L+1+j) T) gs') (E.mu tr gs):=by
 refine Fi b (À ?_) λk c=>xN (λ_=>rfl) (λ_ _=>rfl) (λ_=>rfl) (λ_ _=>rfl) (λd _=> ?_)<|fD tr _ c
 .rwa[sS ok (E:=gK E j x) (show(gK E j x).N (j+1)=Í from a),sS ok a,jD]
 .rw[iH x Z]
def Ps.G(h:Ps F E){x:gG}(m:j+2<=E.r)(d:E.N (j+1)=Í)(c:∀k,x.gw F j k=(E.C j).gw F j k)(f:∀r,((∃p,x=.fu r p)\/x=.jz r\/x=.nY r)->j+r*F.n<F.q) (g:∀r,(x=.fu r .gq\/x=.fu r .kK\/x=.jz r)->F.r (j+r*F.n)<=E.S.od) (i:∀r,x=.fu r .gq->∃a b,E.a (F.r<|j+r*F.n)=.gR a b) (l:∀r,x=.fu r .wr->E.d (F.r<|j+r*F.n)=Ã j):Ps F (gK E j x) where
 v:=h.v;C:=h.C;K:=h.K;L:=h.L;J:=h.J;I:=h.I;z j' n7:=by have:E.r<j'+2:=n7;rw[iH x Z];exact h.z j' n7
 d j' r n7 hx:=by
  by_cases e:j'=j
  .subst e;rw[jD]at hx;exact f r hx
  .rw[iH x e]at hx;exact h.d j' r n7 hx
 l j' n7 hx:=by
  have e:j'≠j:=λe=>by subst e;exact hx d
  rw[iH x e];exact h.l j' n7 hx
 f:=h.f;h:=h.h;M:=h.M;o:=h.o;t:=h.t;g:=h.g;u:=h.u;N:=h.N;B:=h.B;e k h1 h2 h3:=by rw[Wj c];exact h.e k h1 h2 h3
 Y k h1 h2:=by rw[Wj c];exact h.Y k h1 h2
 w j' r n7 hx:=by
  by_cases e:j'=j
  .subst e;rw[jD]at hx;exact g r hx
  .rw[iH x e]at hx;exact h.w j' r n7 hx
 H j' r n7 hx:=by
  by_cases e:j'=j
  .subst e;rw[jD]at hx;exact i r hx
  .rw[iH x e]at hx;exact h.H j' r n7 hx
 O:=h.O;S:=h.S;y:=h.y;D j' r n7 hx:=by
  by_cases e:j'=j
  .subst e;rw[jD]at hx;exact l r hx
  .rw[iH x e]at hx;exact h.D j' r n7 hx
def uL(E:fO F)(j:Nat)(x:gG)(k:Nat)(G:GS)(a:Nat->Option Nat):fO F:={gK E j x with a:=ft E.a k G,d:=a}
theorem Ps.Wk(h:Ps F E){x:gG}{G:GS}{l:Nat->Option Nat}(Q:j+2<=E.r)(C:E.N (j+1)=Í)(D:∀c,c≠k->x.gw F j c=(E.C j).gw F j c) (H:1<=k->E.S.od<k->G=.cl 1 (Ñ F.n λi=>((fw.gK E j x).C i).gw F i k)) (I:k<=E.S.od->(∃W,(E.S=.dn k (.gq W)\/E.S=.dn k (.iV W))/\G=.ju W/\W=Ñ F.n λi=>((fw.gK E j x).C i).gw F i k)\/(∃r s,E.S=.dn k (.im r)/\0<r/\G=.gR r s/\r+s=Ñ F.n λi=>((fw.gK E j x).C i).gw F i k)\/((∀p,E.S≠ .dn k p)/\((G=.cl 0 0/\(Ñ F.n λi=>((fw.gK E j x).C i).gw F i k)=0)\/∃s,G=.gR 0 s/\s=Ñ F.n λi=>((fw.gK E j x).C i).gw F i k))) (J:(∃a b,E.a k=.gR a b)->∃a b,G=.gR a b) (K:G=.cl 1 0->l k=Í) (L:∀c,c≠k->l c=E.d c) (S:∀y,E.d k=Ã y->l k=Ã y) (T:∀r,((∃p,x=.fu r p)\/x=.jz r\/x=.nY r)->j+r*F.n<F.q) (M:∀r,(x=.fu r .gq\/x=.fu r .kK\/x=.jz r)->F.r (j+r*F.n)<=E.S.od) (N:∀r,x=.fu r .gq->∃a b,ft E.a k G (F.r<|j+r*F.n)=.gR a b) (O:∀r,x=.fu r .wr->l (F.r<|j+r*F.n)=Ã j):Ps F (uL E j x k G l):=by
 have z:∀c,c≠k->(Ñ F.n λi=>((uL E j x k G l).C i).gw F i c)=Ñ F.n λi=>(E.C i).gw F i c:=λc u=>by
  refine Ł λi _=> ?_;by_cases e:i=j
  .subst e;show((fw.gK E i x).C i).gw F i c=_;rw[jD,D c u]
  .show((fw.gK E j x).C i).gw F i c=_;rw[iH x e]
 have v:∀c,c≠k->(uL E j x k G l).a c=E.a c:=λc u=>fD _ _ u;have gs:(uL E j x k G l).a k=G:=gy _ _ _;have w:(uL E j x k G l).C j=x:=jD _ _;have o:∀d,d≠j->(uL E j x k G l).C d=E.C d:=λd g=>iH x g;refine⟨h.v,h.C,h.K,h.L,h.J,h.I,λd g=> ?_,λd r g f=> ?_,λd g f=> ?_,h.f,h.h,h.M,h.o,h.t,h.g,h.u,h.N,h.B,λc t m B=> ?_,λc t m=> ?_,λd r g f=> ?_,λd r g f=> ?_,h.O,h.S,λc t m=> ?_,λd r g f=> ?_⟩
 .have:E.r<d+2:=g;rw[o d Z];exact h.z d g
 .by_cases e:d=j
  .simp_all
  .rw[o d e]at f;exact h.d d r g f
 .rw[o d (λe=>by subst e;exact f C)];exact h.l d g f
 .by_cases e:c=k
  .subst e;rw[gs];exact H t B
  .rw[v c e,z c e];exact h.e c t m B
 .by_cases e:c=k
  .subst e;rw[gs];exact I m
  .rw[v c e,z c e];exact h.Y c t m
 .by_cases e:d=j
  .subst e;rw[w]at f;exact M r f
  .rw[o d e]at f;exact h.w d r g f
 .by_cases e:d=j
  .subst e;rw[w]at f;exact N r f
  .rw[o d e]at f;have:=h.H d r g f;by_cases P:F.r (d+r*F.n)=k
   .rw[P]at this|-;rw[gs];exact J this
   .grind
 .by_cases e:c=k
  .subst e;rw[gs]at m;exact K m
  .rw[v c e]at m;show l c=Í;rw[L c e];exact h.y c t m
 .by_cases e:d=j
  .subst e;rw[w]at f;exact O r f
  .rw[o d e]at f;have:=h.D d r g f;show l _=Ã d;grind
theorem iA.r(h:iA F E c n w){x:gG}(i:x.kl=(E.C j).kl):iA F (gK E j x) c n w:=by
 have f:∀a,((fw.gK E j x).C a).kl=(E.C a).kl:=λa=>by grind [jD,iH]
 exact⟨h.gN,h.o,h.ln,h.e,h.f,λa b d r e g=>h.h a b d r e (by rwa[<-f]),h.l,h.S,h.M,h.c,h.I,h.N,h.g,λa b r d e=>h.d a b r d<|by rwa[<-f]⟩
theorem Wd.Y(h:Wd F E w){x:gG}(g:x.kl=(E.C j).kl)(i:x.iG=(E.C j).iG):Wd F (gK E j x) w:=by
 have c:∀a,((fw.gK E j x).C a).kl=(E.C a).kl:=λa=>by grind [jD,iH]
 have d:∀a,((fw.gK E j x).C a).iG=(E.C a).iG:=λa=>by grind [jD,iH]
 exact⟨h.C,h.I,λa b=>by rw[d];exact h.jw a b,h.M,h.S,λa b r e f=>h.N a b r e<|by rwa[<-c]⟩
structure pW(F:Ph)(E:fO F)(S:Nat->Jd)(tr:Nat->gk)(kp:Nat->il):Prop where
 M:S 0=JM F E.I E.M/\kp 0=kM E.M
 Y:0<E.r->E.N 0=Í->S F.L=JI F E.c E.S/\kp F.L=.no
 I:∀j,j+2<=E.r->E.N (j+1)=Í->S (F.L+1+j)=JW F (E.I j) j (E.C j)/\kp (F.L+1+j)=kW F (E.I j) (E.C j)
 C:∀x e,x<E.r->E.N x=Ã e->S (F.L+x)=JE F e/\kp (F.L+x)=.no/\((∃N,e=.jh N)->tr (F.L+x)=.fv)
 r:∀i,0<i->i<F.L->S i=oG F.P (E.h i)/\tr i=.fv/\kp i=.no
def PI.N(p:PI F b zX E S tr kp c gs w qJ):pW F E S tr kp:=⟨p.h,p.m,p.g,p.k,p.l⟩
def PI.r(a:pW F E S tr kp)(d:gs.size=F.L+E.r)(e:gE F.P F.S E.Y S tr kp c gs w qJ)(f:iA F E c gs.size w)(g:Wd F E w)(h:Ps F E)(i:TI F.toFx b zX E.r E.S.rl E.V E.e E.d E.ie E.f qJ)(k:fe F E gs w) (l:∀j r,j+2<=E.r->E.C j=.jz r->1<=F.r (j+r*F.n)->Λ qJ (F.L+1+j) (E.e<|F.r<|j+r*F.n)):PI F b zX E S tr kp c gs w qJ:=⟨d,e,a.M,a.Y,a.I,a.C,a.r,f,g,h,i,k,l⟩
def pW.N(h:pW F E S tr kp)(ok:F.Ok){x:gG}{T:gk}(k:j+2<=E.r)(f:E.N (j+1)=Í):pW F (gK E j x) (ft S (F.L+1+j)<|JW F (E.I j) j x) (ft tr (F.L+1+j) T) (ft kp (F.L+1+j)<|kW F (E.I j) x):=by
 have:=ok.r;refine⟨by rw[fD S _ Z,fD kp _ Z];exact h.M,λb a=>by rw[fD S _ Z,fD kp _ Z];exact h.Y b a,λd b a=> ?_,λy e b a=> ?_,λi b a=>by rw[fD S _ Z,fD kp _ Z,fD tr _ Z];exact h.r i b a⟩
 .by_cases e:d=j
  .subst e;rw[gy,gy,jD];exact⟨U,U⟩
  .rw[fD S _ Z,fD kp _ Z,iH x e];exact h.I d b a
 .have c:F.L+y≠F.L+1+j:=λe=>by
   have g:y=j+1:=Z
   subst g;have:E.N (j+1)=Ã _:=a;rw[f]at this;cases this
  rw[fD S _ c,fD kp _ c,fD tr _ c];exact h.C y e b a
end
def sT(F:Fx)(e:đ):Prop:=(∃(x:Č) (a:Bool),F.G x/\e=⟨ú x,a,Ì⟩)\/e.loc=ŭ ô\/e.loc=ŭ î
theorem Fj{F:Fx}{e:đ}(h:sT F e){b:Touch}(c:(Ë e).touch?=Ã b):∃x,F.G x/\b.loc=ú x/\b.kind=.atomic:=by
 let⟨f,a,g⟩:=e;rcases h with⟨x,i,j,d⟩|h|h
 .injection d with e1 e2 e3;subst e1 e2 e3;have:(Ë ⟨ú x,a,Ì⟩).touch?=Ã ⟨ú x,a,.atomic⟩:=by cases a<;>rfl
  grind
 .simp only at h;subst h;simp[Ë,Ċ]at c
 .simp only at h;subst h;simp[Ë,Ċ]at c
section
variable{F:Ph}{E E':fO F}{S:Nat->Jd}{tr l:Nat->gk}{f:Nat->il}{c:Nat->e7}{gs gs':Array Ä}{u:ä}{m:Option (Nat×Nat)}
def xO(E:fO F)(i:Nat):Prop:=i=0\/∃x,x<E.r/\i=F.L+x
theorem gE.N{Y:Nat->Prop}(e:gE P n Y S tr f c gs w qJ)(h:gs[i]?=Ã g)(k:g.status=Å)(j:tr i=.fv)(a:f i=.no\/f i=.im):∀b,fE (c i) (c i).w b->S i {c i with w:=b} g:=by
 let⟨g0,hF,d,_,_⟩:=e.C i g h;rw[j]at hF;have:g=g0:=by rcases a with a|a<;>rw[a]at d<;>cases d;all_goals grind
 subst this;exact hF
theorem Wl(b:TI F.toFx j zX E.r E.S.rl E.V E.e E.d E.ie E.f qJ)(c:xO E i)(d:n<j)(a:qJ.g? n=Ã 0):Λ qJ i n:=by
 rcases c with rfl|⟨x,e,rfl⟩
 .let⟨g,f,h⟩:=Ù.1 a;have:=knows_own f;grind
 .exact b.zR x e n d a
theorem afg(f:∀c,¬Race c qJ)(g:TI F.toFx j zX E.r E.S.rl E.V E.e E.d E.ie E.f qJ)(v:xO E i){d:Array đ}{h:Ĵ}{k:String}(l:∀e∈d,sT F.toFx e):∀c,¬Race c (qJ++Û i h k d):=by refine M6 f nG λw m b n=> ?_;obtain⟨e,o,rfl⟩:=Ö m;let⟨x,r,s,t⟩:=Fj (l e o) n;refine Á (Á ⟨t,λp a u q y=> ?_⟩);rcases g.M p a x u (q.trans s) r with⟨y,z⟩|q|⟨q,_⟩;all_goals grind [Wl]
def afh(L:iA F E c gs.size w)(ok:F.Ok)(C:iL F.S (λi=>i<gs.size) E.Y c w qJ)(f:∀e∈V,sT F.toFx e):∀e∈V,(∀b,(Ë e).touch?=Ã b->E5 (λi=>i<gs.size) E.Y c b)/\(Ë e).low w.heap.size:=by
 intro e g;refine⟨λb j=> ?_,?_⟩
 .let⟨x,a,d,_⟩:=Fj (f e g) j;exact À ⟨x,d,vP a,λk h=>L.Y ok a k h⟩
 .rcases f e g with⟨x,k,a,d⟩|h|h
  .subst d;have:=C.N _<|vP (E:=E) a;cases k<;>exact this
  .let⟨l,k,m⟩:=e;simp only at h;subst h;trivial
  .let⟨l,k,m⟩:=e;simp only at h;subst h;trivial
def zV(d:Nat)(a:Array đ):Prop:=∀(j:Nat) (e:đ),a[j]?=Ã e->(Ë e).touch?=Í\/((∃b c,e=⟨ú b,c,Ì⟩)/\0<Ï d (a.extract 0 j))
theorem afi(L:iA F E c gs.size w)(s:Ps F E)(C:iL F.S (λi=>i<gs.size) E.Y c w qJ)(t:xO E i){f:Array đ}{n:Ĵ}{o:String}(p:∀e∈f,sT F.toFx e) (u:∀x,E.ie x->i=F.L+x->(∀e∈f,∀b,(Ë e).touch?=Ã b->∃y:Č,b.loc=ú y/\y.block=F.C)/\zV (κ qJ i) f):IU F.toFx E.r E.S.rl E.V E.d E.ie qJ (Û i n o f) i:=by
 refine⟨λg d _ _=>nG g d,t.imp id À,λg d a x l _ _=> ?_,λg d a y l _ z k B m=> ?_,λg d b _ e=> ?_,λx H D=> ?_⟩
 .obtain⟨e,j,rfl⟩:=Ö d;grind [Fj]
 .obtain⟨e,j,rfl⟩:=Ö d;let⟨x,r,h,_⟩:=Fj (p e j) l;rw[z]at h;injection h with h;subst h;refine⟨λv=>(L.I k (Ø m<|IY s) _ v).2.1<|vP r,λe=> ?_⟩;obtain⟨b,_,q|q⟩:=r<;>(rw[q]at e;simp[fH,gQ,iZ]at e)
 .obtain⟨r,j,rfl⟩:=Ö d;simp only at e;rcases p r j with⟨x,v,_,rfl⟩|h|h
  .cases v<;>simp[Ë]at e
  .let⟨q,v,G⟩:=r;simp only at h;subst h;simp[Ë]at e
  .let⟨q,v,G⟩:=r;simp only at h;subst h;simp[Ë]at e
 .by_cases e:F.L+x=i
  .let⟨B,m⟩:=u x D e.symm;subst e;refine⟨λr h=>h.appOwn n o f m,λ_ g d a l=> ?_⟩;obtain⟨e,j,rfl⟩:=Ö d;grind [Fj]
  .exact⟨λr h=>h.appOther nG<|ÿ e,λq=>absurd q e⟩
theorem xP(a:F.M b):∀e∈#[kh<|fH b],sT F.toFx e:=by
 intro e c;have:e=kh (fH b):=by simpa using c
 subst this;exact À ⟨_,É,(vO a).1,U⟩
def Wm(a:F.M b):∀e∈#[mq<|fH b],sT F.toFx e:=by
 intro e c;have:e=mq (fH b):=by simpa using c
 subst this;exact À ⟨_,Ì,(vO a).1,U⟩
def zW(a:F.M b):∀e∈#[kh<|fH b,mq<|fH b],sT F.toFx e:=by
 intro e c;simp at c;rcases c with rfl|rfl
 .exact À ⟨_,É,(vO a).1,U⟩
 .exact À ⟨_,Ì,(vO a).1,U⟩
def Fl(a:F.M b):∀e∈õ (gQ b),sT F.toFx e:=by
 intro e c;simp[õ]at c;rcases c with rfl|rfl|rfl|rfl
 .exact Á<|À U
 .exact À ⟨_,É,(vO a).2,U⟩
 .exact À ⟨_,Ì,(vO a).2,U⟩
 .exact Á<|Á U
def Fo(d:Nat):Ï d #[kh a,mq a]=d/\Ï d #[kh a]=d/\Ï d #[mq a]=d/\Ï d (õ a)=d:=by refine⟨U,U,U,?_⟩;simp[Ï,õ]
def I1:zV 1 #[kh a,mq a]/\zV 1 #[kh a]/\zV 1 #[mq a]/\zV 1 (õ a):=by
 refine⟨λj e b=> ?_,λj e b=> ?_,λj e b=> ?_,λj e b=> ?_⟩
 .match j,b with
  |0,b=>obtain rfl:=È b;exact Á ⟨⟨a,É,U⟩,by simp[Ï]⟩
  |1,b=>obtain rfl:=È b;exact Á ⟨⟨a,Ì,U⟩,by simp[Ï,kh]⟩
  |j+2,b=>simp at b
 .match j,b with
  |0,b=>obtain rfl:=È b;exact Á ⟨⟨a,É,U⟩,by simp[Ï]⟩
  |j+1,b=>simp at b
 .match j,b with
  |0,b=>obtain rfl:=È b;exact Á ⟨⟨a,Ì,U⟩,by simp[Ï]⟩
  |j+1,b=>simp at b
 .match j,b with
  |0,b=>obtain rfl:=È b;exact À U
  |1,b=>obtain rfl:=È b;exact Á ⟨⟨a,É,U⟩,by simp[Ï,õ]⟩
  |2,b=>obtain rfl:=È b;exact Á ⟨⟨a,Ì,U⟩,by simp[Ï,õ]⟩
  |3,b=>obtain rfl:=È b;exact À U
  |j+4,b=>simp[õ]at b
def afj(ok:F.Ok)(g:F.G a)(v:ã):Fg F E c gs.size w (w.setCell a v):=by
 refine⟨Ô jM.symm,λb _ f _=>kR λe=>f<|e▸(vP (E:=E) g),λd i _=>xH ?_,Nk,U,U⟩;let⟨b,f,h⟩:=g;rcases i with⟨k,_,rfl⟩|⟨p,rfl⟩
 .right;rcases h with rfl|rfl<;>simp[fH,gQ,iZ]
 .left;rcases h with rfl|rfl<;>exact λe=>ok.C (by have j:b=F.Y:=e;rwa[<-j])
def afk(L:iA F E c gs.size w)(ok:F.Ok)(d:F.G a)(v:ã):o6 (λi=>i<gs.size) E.Y c w (w.setCell a v):= aeV (vP d) (by obtain⟨b,_,rfl|rfl⟩:=d<;>rfl) (λk i=>L.Y ok d k i) λk i b e=>L.ae6 k i b e
def afl(c:Ps F E)(d:F.G a)(v:ã)(f:j+2<=E.r):(w.setCell a v).heap[E.I j]?=w.heap[E.I j]?:= kR λe=>(c.o j f).1 (by obtain⟨b,g,rfl|rfl⟩:=d<;>(rwa[e]))
def afm(h:a=fH b\/a=gQ b):a.block=b:=by rcases h with rfl|rfl<;>rfl
theorem iA.C(L:iA F E c n w){d:Nat}{w0:Ð}(y:w.heap.size<=W.heap.size):iA F E (gi c i {c i with d:=d,w:=w0}) n W:=by
 have e:∀k,(gi c i {c i with d:=d,w:=w0} k).O=(c k).O/\(gi c i {c i with d:=d,w:=w0} k).I=(c k).I/\(gi c i {c i with d:=d,w:=w0} k).r=(c k).r/\(gi c i {c i with d:=d,w:=w0} k).N=(c k).N/\(gi c i {c i with d:=d,w:=w0} k).q=(c k).q:=λk=>by grind [gO,gB]
 have t:∀k,c k=kj (c k)->gi c i {c i with d:=d,w:=w0} k=kj (gi c i {c i with d:=d,w:=w0} k):=λk f=>by
  by_cases h:k=i
  .subst h;rw[gO];have a:(c k).O=λ_=>False:=by rw[f];rfl
   have b:(c k).I=λ_=>False:=by rw[f];rfl
   have g:(c k).r=λ_=>False:=by rw[f];rfl
   have j:(c k).N=λ_=>False:=by rw[f];rfl
   have l:(c k).q=True:=by rw[f];rfl
   simp only[kj,a,b,g,j,l]
  .grind [gB]
 refine⟨λk f a o=>L.gN k f a (by unfold e7.C at o|-;rwa[(e k).2.2.1,(e k).2.2.2.1]at o),λx g m a o=>by rw[(e 0).2.2.1];exact L.o x g m a o,λh=>by rw[(e 0).2.2.2.1,(e 0).2.1];exact L.ln h,λh k g m=>by rw[(e _).2.2.1];exact L.e h k g m,λh p=>by rw[(e _).2.2.2.1,(e _).2.1];exact L.f h p,λj l p r s g=>by rw[(e _).2.2.1];exact L.h j l p r s g,λj l p=>by rw[(e _).2.2.2.1,(e _).2.1];exact L.l j l p,λx u=>t _<|L.S x u,λk f=>by rw[(e k).2.2.2.2];exact L.M k f,λk g m=>t _<|L.c k g m,λk f b v=> ?_,λk f j l=>by rw[(e j).2.2.1];exact L.N k f j l,λk g m j l=>by rw[(e j).2.2.1];exact L.g k g m j l,λj l r s g k f=>by rw[(e k).2.2.1];exact L.d j l r s g k f⟩;let⟨z,B,D⟩:=L.I k f b v;grind
end
section
variable{F:Ph}{E E':fO F}{S:Nat->Jd}{tr c:Nat->gk}{a:Nat->il}{lot:Nat->e7}{gs gs':Array Ä}{u:ä}{sl:Option (Nat×Nat)}
def km(b:Nat)(w W:Ð):Prop:=W=w\/∃x v,(x=fH b\/x=gQ b)/\W=w.setCell x v
def km.Cm(h:km b w W):W.heap.size=w.heap.size:=by rcases h with rfl|⟨x,v,_,rfl⟩;all_goals simp_all
def km.IW(h:km b w W)(ok:F.Ok)(a:F.M b):Fg F E lot gs.size w W:=by
 rcases h with rfl|⟨x,v,c,rfl⟩
 .exact⟨Ç _,λ_ _ _ _=>rfl,λ_ _ _=>rfl,U,U,U⟩
 .exact afj ok ⟨b,a,c⟩ v
def km.r(h:km b w W)(L:iA F E lot gs.size w)(ok:F.Ok)(a:F.M b):o6 (λi=>i<gs.size) E.Y lot w W:=by
 rcases h with rfl|⟨x,v,i,rfl⟩
 .exact o6.fQ _ _ _ _
 .exact afk L ok ⟨b,a,i⟩ v
def km.C(h:km b w W)(a:Ps F E)(c:F.M b)(d:j+2<=E.r):W.heap[E.I j]?=w.heap[E.I j]?:=by
 rcases h with rfl|⟨x,v,e,rfl⟩
 .rfl
 .exact afl a ⟨b,c,e⟩ v d
def km.M(h:km b w W)(c:i≠b){G:GS}(a:gU w i G):gU W i G:=by
 rcases h with rfl|⟨x,v,d,rfl⟩
 .exact a
 .exact a.iM<|by rw[afm d];exact ÿ c
def km.I(h:km b w W)(H:gM F)(L:iA F E lot gs.size w)(d:Ps F E)(a:Wd F E w)(f:F.M b){Ga:GS}{Gg:Nat->GS}(g:(b=F.C->gU W F.C Ga)/\(b≠F.C->Ga=E.b))(i:∀k,k<=F.m->(b=F.I k->gU W (F.I k) (Gg k))/\(b≠F.I k->Gg k=E.a k)):Wd F {E with b:=Ga,a:=Gg} W:=by
 refine a.IW H L (h.IW H.C f) (IX d) ?_ (λk c=> ?_) λj e=>h.C d f e
 .by_cases e:b=F.C
  .exact g.1 e
  .rw[g.2 e];exact h.M (ÿ e) a.C
 .by_cases e:b=F.I k
  .exact(i k c).1 e
  .rw[(i k c).2 e];exact h.M (ÿ e)<|a.I k c
def PI.Y(H:gM F)(p:PI F b zX E S tr a lot gs w qJ){c:Ä}{f:Array đ}{J:Jd}{T:gk}(K:il)(q:gs[i]?=Ã g)(j:xO E i)(r:F.M n)(s:è F.P (i==0) g w=ş c W f)(l:km n w W)(h:∀e∈f,sT F.toFx e)(m:Ï (lot i).d f=(lot i).d) (t:∀x,E.ie x->i=F.L+x->(∀e∈f,∀n,(Ë e).touch?=Ã n->∃y:Č,n.loc=ú y/\y.block=F.C)/\zV (κ qJ i) f) (hF:kJ F.P (i==0) J T {lot i with w:=W} c) (v:c.status=Å\/c.status=å): ∃gs' u,Ŏ F.P (ð gs w sl) i=(ğ<|ð gs' W sl,u)/\gs'.size=gs.size/\gs'[i]?=Ã c/\(∀k,k≠i->gs'[k]?=gs[k]?.map (Ā F.P g c W))/\ gE F.P F.S E.Y (ft S i J) (ft tr i T) (ft a i K) (gi lot i {lot i with w:=W}) gs' W (qJ++u)/\TI F.toFx b zX E.r E.S.rl E.V E.e E.d E.ie E.f (qJ++u)/\iA F E (gi lot i {lot i with w:=W}) gs'.size W:=by have C:=p.I.r;obtain⟨gs',z,k,B,D,o⟩:=p.I.pT q s (l.r p.a H.C r) (by rwa[m]) v (afh p.a H.C C h)<|afg C.l p.d j h;rw[m]at o;refine⟨gs',_,z,k,B,D,o,p.d.C<|afi p.a p.C C j h t,?_⟩;rw[k];exact p.a.C<|Ô l.Cm.symm
theorem fe.pT(B:fe F E gs w){a:Ä}(p:gs'[i]?=Ã a)(q:a.status≠Ü)(d:∀k,k≠i->gs'[k]?=gs[k]?.map (Ā F.P g a W))(t:∀j,j+2<=E.r->W.heap[E.I j]?=w.heap[E.I j]?) (u:E'.r=E.r) (v:E'.I=E.I) (z:∀x,F.L+x≠i->E'.N x=E.N x) (C:i≠0->E'.M=E.M) (D:∀j,F.L+1+j≠i->E'.C j=E.C j) (G:i≠0->E.M=.fu .ki->E.b.sm=0->E'.b.sm=0\/∀x,gs'[0]?=Ã x->x.status≠Ü) (H:∀j r,F.L+1+j≠i->E.C j=.fu r .ki->(E.a<|F.r<|j+r*F.n).sm=0->(E'.a<|F.r<|j+r*F.n).sm=0\/∀x,gs'[F.L+1+j]?=Ã x->x.status≠Ü):fe F E' gs' W:=by
 intro k x b f;by_cases e:k=i
 .grind
 .have I:=b;rw[d k e]at b;obtain⟨y,h,rfl⟩:=Ù.1 b;let⟨_,l⟩:=Fh f;rcases B k y h l with⟨J,m,c⟩|⟨j,K,M,m,⟨r,c,o⟩|⟨r,N,s,O,c,o⟩⟩;all_goals grind
def Cq(a:j+2<=E.r):xO E (F.L+1+j):=Á ⟨j+1,Z,Z⟩
def I2(b:E.N (j+1)=Í):∀x,E.ie x->F.L+1+j=F.L+x->False:=λx ⟨e,a,_⟩ h2=>by
 have:x=j+1:=Z
 subst this;rw[b]at a;cases a
def Fp(ok:F.Ok)(h:i<F.q):F.M (F.I<|F.r i):=Á ⟨F.r i,ok.I i h,U⟩
def iI(a:gs[i]?=Ã g):i<gs.size:=(Õ.1 a).1
end
theorem vR{f f':Nat->Nat}:∀{n:Nat},j<n->(∀i,i≠j->f' i=f i)->Ñ n f'+f j=Ñ n f+f' j
 |n+1,h,hf=>by
  simp only[Ñ];rcases ģ j n with gI|a
  .have:=vR (n:=n) gI hf;rw[hf n Z];omega
  .obtain rfl:j=n:=Z
   rw[Ł λi b=>hf i Z];omega
def Fq{f:Nat->Nat}:∀{n:Nat},(∀i,f i<=1)->Ñ n f<=n
 |0,_=>Ç _
 |n+1,h=>by simp only[Ñ];have:=Fq (n:=n) h;have:=h n;omega
def Nx{f:Nat->Nat}:∀{n:Nat},j<n->f j<=Ñ n f
 |n+1,h=>by
  simp only[Ñ];rcases ģ j n with gI|a
  .have:=Nx (f:=f) (n:=n) gI;omega
  .obtain rfl:j=n:=Z
   omega
def Fs{f:Nat->Nat}:∀n:Nat,(Ñ n λi=>f i+D i)=Ñ n f+Ñ n D
 |0=>rfl
 |n+1=>by simp only[Ñ];rw[Fs n];omega
def Ny{f:Nat->Nat}(c:Nat):∀n:Nat,(Ñ n λi=>c*f i)=c*Ñ n f
 |0=>by simp[Ñ]
 |n+1=>by simp only[Ñ];rw[Ny c n,ł]
section
variable{F:Ph}{E E':fO F}{S:Nat->Jd}{tr z:Nat->gk}{C:Nat->il}{o:Nat->e7}{gs gs':Array Ä}{u:ä}{sl:Option (Nat×Nat)}
def jP(F:Ph)(b:Nat)(zX:π->Prop)(E:fO F)(tr:Nat->gk)(gs:Array Ä)(w:Ð)(qJ:ä)(sl:Option (Nat×Nat))(i:Nat):Prop:=
 ∃(E':fO F) (a:Nat->Jd) (z:Nat->gk) (c:Nat->il) (d:Nat->e7) (gs':Array Ä) (W:Ð) (u:ä),Ŏ F.P (ð gs w sl) i=(ğ<|ð gs' W sl,u)/\gs'.size=gs.size/\(E'.M=.fV->E.M=.fV)/\PI F b zX E' a z c d gs' W (qJ++u)/\oH F.N (E'.mu z gs') (E.mu tr gs)
def qC(F:Ph)(b:Nat)(zX:π->Prop)(E:fO F)(tr:Nat->gk)(gs:Array Ä)(w:Ð)(qJ:ä):Prop:=
 ∃(E':fO F) (a:Nat->Jd) (z:Nat->gk) (c:Nat->il) (d:Nat->e7),(E'.M=.fV->E.M=.fV)/\PI F b zX E' a z c d gs w qJ/\oH F.N (E'.mu z gs) (E.mu tr gs)
def afn(i:Nat):gd gs i<=1:=by unfold gd;split<;>omega
theorem Wn(a:∀k,k<F.N->E'.iM z k=E.iM tr k)(b:i<F.N)(e:E'.kS i<E.kS i)(c:∀k,k≠i->E'.kS k=E.kS k):oH F.N (E'.mu z gs') (E.mu tr gs):=by
 refine Á ⟨a,?_⟩;show(Ñ F.N λi=>(F.N+1)*E'.kS i+gd gs' i)<Ñ F.N λi=>(F.N+1)*E.kS i+gd gs i;rw[Fs,Fs,Ny,Ny];have g:=vR b c;have h:=Fq (f:=gd gs') (n:=F.N) afn;have d:Ñ F.N E'.kS+1<=Ñ F.N E.kS:=Z
 have j:(F.N+1)*(Ñ F.N E'.kS+1)<=(F.N+1)*Ñ F.N E.kS:=ï _ d;grind
theorem Nz(a:∀k,k<F.N->E.iM z k=E.iM tr k)(b:i<F.N)(c:gd gs i=1)(d:gd gs' i=0)(e:∀k,k≠i->gd gs' k=gd gs k):oH F.N (E.mu z gs') (E.mu tr gs):=by refine Á ⟨a,?_⟩;show(Ñ F.N λi=>(F.N+1)*E.kS i+gd gs' i)<Ñ F.N λi=>(F.N+1)*E.kS i+gd gs i;rw[Fs,Fs];grind [vR]
theorem Wo(ok:F.Ok)(j:Nat):E.kS (F.L+1+j)=match E.C j with|.fu r p=>p.kS F.B (E.a<|F.r<|j+r*F.n).st|_=>0:=by have:=ok.r;unfold fO.kS;grind
def afo{x:gG}(a:k≠F.L+1+j):(gK E j x).kS k=E.kS k:=by
 unfold fO.kS;split
 .rfl
 .split
  .rfl
  .rw[iH x Z];rfl
def afp(ok:F.Ok){r:Nat}{p a:SP}{T:gk}(d:F.L+1+j<F.N)(b:E.N (j+1)=Í)(c:E.C j=.fu r (.lG p))(f:tr (F.L+1+j)=.fv)(g:T=.fv)(h:a.rk F.B (E.a<|F.r<|j+r*F.n).st<p.rk F.B (E.a<|F.r<|j+r*F.n).st): oH F.N ((gK E j<|.fu r (.lG a)).mu (ft tr (F.L+1+j) T) gs') (E.mu tr gs):=by
 refine Wn (λk _=> ?_) d ?_ λk e=>afo e
 .by_cases e:k=F.L+1+j
  .subst e;rw[sS ok (E:=gK E j _) (show(gK E j _).N (j+1)=Í from b),sS ok b,jD,gy,c,f,g];rfl
  .refine xN (λ_=>rfl) (λ_ _=>rfl) (λ_=>rfl) (λ_ _=>rfl) (λi _=> ?_)<|fD tr _ e;rw[iH _ Z]
 .rwa[Wo ok,Wo ok,jD,c]
def PI.Cr(H:gM F)(p:PI F b zX E S tr C o gs w qJ){v:ji}(d:j+2<=E.r)(e:E.N (j+1)=Í)(f:gs[F.L+1+j]?=Ã g)(h:g.status=Å)(k:tr (F.L+1+j)=.fv)(l:E.C j=.fu i v): ∀w₁,fE (o<|F.L+1+j) (o<|F.L+1+j).w w₁->pV F.P É F.B (F.I<|F.r<|j+i*F.n) (F.e (E.I j)<|j+i*F.n) v {o (F.L+1+j)with w:=w₁} g:=by
 let⟨a,c⟩:=p.g j d e;rw[l]at a c;have m:C (F.L+1+j)=.no\/C (F.L+1+j)=.im:=by rw[c];cases v<;>first|exact À U|exact Á U
 intro w₁ i;have:=p.I.N f h k m w₁ i;rwa[a]at this
def xR(ok:F.Ok)(j:Nat):(F.L+1+j==0)=É:=by have:=ok.r;simp
theorem PI.NA(H:gM F)(p:PI F b zX E S tr C o gs w qJ){x:gG}{l:e7}{T:gk}(u:j+2<=E.r)(m:E.N (j+1)=Í)(n:gs[F.L+1+j]?=Ã g)(v:g.status=Å\/g.status=å) (z:iL F.S (λi=>i<gs.size) E.Y (gi o (F.L+1+j) l) w qJ) (hF:kJ F.P É (JW F (E.I j) j x) T l g) (B:iA F (gK E j x) (gi o (F.L+1+j) l) gs.size w) (D:Wd F (gK E j x) w) (G:Ps F (gK E j x)) (I:x.rk F<(E.C j).rk F) (V:∀r,x≠ .jz r):qC F b zX E tr gs w qJ:=by
 refine⟨gK E j x,_,_,_,_,λh=>h,.r (p.N.N H.C u m) p.b (p.I.M (K:=kW F (E.I j) x) n v z<|by rwa[xR H.C]) B D G p.d (λk y J M=> ?_) λa r f c d=> ?_,Cp H.C (p.G<|iI n) m I⟩
 .by_cases e:k=F.L+1+j
  .grind
  .rcases p.c k y J M with f|⟨a,q,t,c,d|⟨r,N,s,O,d,Q⟩⟩
   .exact À f
   .exact Á ⟨a,q,t,c,À<|by rwa[iH x Z]⟩
   .exact Á ⟨a,q,t,c,Á ⟨r,N,s,O,by rwa[iH x Z],Q⟩⟩
 .by_cases e:a=j
  .grind [jD]
  .rw[iH x e]at c;exact p.f a r f c d
theorem PI.afq(H:gM F)(p:PI F b zX E S tr C o gs w qJ){r:Nat}(e:j+2<=E.r)(l:E.N (j+1)=Í)(m:gs[F.L+1+j]?=Ã g)(n:g.status=Å)(s:tr (F.L+1+j)=.fv)(c:E.C j=.fu r .iR):qC F b zX E tr gs w qJ:=by
 have f:=iI m;let⟨k,y,t,u⟩:=(p.Cr H e l m n s c) w<|p.I.r.r _ f;have v:iL F.S (λi=>i<gs.size) E.Y (gi o (F.L+1+j) {o (F.L+1+j)with w:=w}) w qJ:=p.I.r.C f (λ_ q=>q) (λa q=>À<|Á q) (λ_ q=>q) (λa q=>À<|Á q) U U U (p.I.r.m _ f)<|p.I.r.g _ f;refine p.NA H (x:=.fu r (.lG (.fU k))) (T:=.fv) e l m (À n) v (λh a=>⟨t,IC u a⟩) ?_ (p.M.Y (by rw[c];rfl)<|by rw[c];rfl) (p.C.G e l (λk=>by rw[c];rfl) (λa h=> ?_) (λa h=> ?_) (λa h=>by cases h) λa h=>by cases h) (by rw[c];simp only[gG.rk,ji.rk];omega) λa h=>by cases h
 .have:=(p.a.r (x:=.fu r (.lG (.fU k)))<|by rw[c];rfl).C (i:=F.L+1+j) (d:=(o<|F.L+1+j).d) (w0:=w)<|Ç _;exact this
 .rcases h with⟨_,h⟩|h|h<;>cases h;exact p.C.d j r e<|À ⟨_,c⟩
 .grind
def Wp{y z:Int->Jd}{p:SP}{l:e7}{G:GS}(h:Ch P yQ (fH b) i y z p l g)(j:gU w b G):g.status=Å/\ ((∃f a e,è P yQ g w=ş a w e/\(e=#[]\/e=#[kh<|fH b])/\Ch P yQ (fH b) i y z f l a/\f.rk i G.st<p.rk i G.st)\/ (∃a,è P yQ g w=ş a w #[kh<|fH b]/\(∀c q,G=.cl c q->c=0)/\ff P yQ (y G.st) l a)\/ (∃a c q,G=.cl c q/\0<c/\è P yQ g w=ş a (w.setCell (fH b)<|ë Ó<|Ó.wrap<|G.st+1) #[kh<|fH b,mq<|fH b]/\ff P yQ (z G.st) l a)):=by
 let⟨T,C,x⟩:=h;let⟨J,d⟩:=x p g C;refine⟨J,?_⟩;have D:∀u,T u g->(∀n,u≠ .fU (n+1))->(∀v n,u≠ .ld v (n+1))->u.rk i G.st<=p.rk i G.st->((∃f a e,è P yQ g w=ş a w e/\(e=#[]\/e=#[kh<|fH b])/\Ch P yQ (fH b) i y z f l a/\f.rk i G.st<p.rk i G.st)\/ (∃a,è P yQ g w=ş a w #[kh<|fH b]/\(∀c q,G=.cl c q->c=0)/\ff P yQ (y G.st) l a)\/ (∃a c q,G=.cl c q/\0<c/\è P yQ g w=ş a (w.setCell (fH b)<|ë Ó<|Ó.wrap<|G.st+1) #[kh<|fH b,mq<|fH b]/\ff P yQ (z G.st) l a)):=by
  intro u C K L F;have d:=(x u g C).2;match u,d with
  |.fU (n+1),_=>exact absurd U<|K n
  |.ld v (n+1),_=>exact absurd U<|L v n
  |.fU 0,d=>
   let⟨a,o,k⟩:=d G.st;by_cases f:0<=G.st/\G.st<fT
   .rw[if_pos f]at k;have e:G.st<1000000:=by
     have t:=j.r;cases G with
     |cl c q=>
      let⟨H,I,m⟩:=t;simp only[GS.st,fT]at f|-;have:c=0:=Z
      have:=m this;omega
     |ju q=>simp only[GS.ok]at t;simp only[GS.st];omega
     |gR r s=>simp only[GS.st];omega
    exact Á<|À ⟨a,o w j.C,j.aeZ.1 f,k e⟩
   .rw[if_neg f]at k;have e:fT<=G.st/\G.st<fT*2147483648/\G.st%fT<1000000:=by
     have t:=j.r;cases G with
     |cl c q=>
      let⟨H,I,_⟩:=t;simp only[GS.st,fT]at f|-;omega
     |ju q=>simp only[GS.ok]at t;simp only[GS.st,fT]at f;omega
     |gR r s=>simp only[GS.st,fT]at f;omega
    let⟨m,M,E⟩:=k e;exact À ⟨.ld G.st m,a,_,o w j.C,Á U,⟨T,E,x⟩,Ê (by simp only[SP.rk,if_true];omega) F⟩
  |.ld v 0,⟨f,⟨a,o,k⟩,g'',E,n,hn,h4⟩=>
   by_cases e:G.st=v
   .subst e;have:∃c q,G=.cl c q/\0<c:=by
     have t:=j.r;cases G with
     |cl c q=>
      refine⟨c,q,U,?_⟩;let⟨H,I,_⟩:=t;simp only[GS.st,fT]at f;omega
     |ju q=>simp only[GS.ok]at t;simp only[GS.st,fT]at f;omega
     |gR r s=>simp only[GS.st,fT]at f;omega
    let⟨c,q,r,s⟩:=this;exact Á<|Á ⟨a,c,q,r,s,o w j.C j.I,k⟩
   .exact À ⟨.fU n,g'',_,E w G.st e j.C j.I,Á U,⟨T,h4,x⟩,Ê (by simp only[SP.rk,if_neg e];omega) F⟩
 match p,d with
 |.fU (n+1),⟨hn,d⟩=>
  rcases d with d|d
  .exact D (.fU 0) d (λn q=>by cases q) (λv n q=>by cases q)<|by simp only[SP.rk];omega
  .let⟨a,o,k⟩:=d w;exact À ⟨.fU n,a,#[],o,À U,⟨T,k,x⟩,by simp only[SP.rk];omega⟩
 |.fU 0,_=>exact D (.fU 0) C (λn q=>by cases q) (λv n q=>by cases q)<|Ç _
 |.ld v (m+1),⟨_,M,d⟩=>
  rcases d with d|d
  .exact D (.ld v 0) d (λn q=>by cases q) (λv n q=>by cases q)<|by simp only[SP.rk];split<;>omega
  .let⟨a,o,k⟩:=d w;exact À ⟨.ld v m,a,#[],o,À U,⟨T,k,x⟩,by simp only[SP.rk];split<;>omega⟩
 |.ld v 0,_=>exact D (.ld v 0) C (λn q=>by cases q) (λv n q=>by cases q)<|Ç _
def PI.afr(H:gM F)(p:PI F b zX E S tr C o gs w qJ){r:Nat}{v:SP}(G:j+2<=E.r)(s:E.N (j+1)=Í)(hi:gs[F.L+1+j]?=Ã g)(iD:g.status=Å)(ht:tr (F.L+1+j)=.fv)(m:E.C j=.fu r (.lG v)):jP F b zX E tr gs w qJ sl (F.L+1+j):=by
 have gI:=iI hi;have n8:=p.C.d j r G<|À ⟨_,m⟩;have N:=Fp H.C n8;have X:=H.C.I _ n8;have hG:=p.M.I _ X;obtain⟨hd,nZ⟩:=(p.Cr H G s hi iD ht m) w<|p.I.r.r _ gI;have uM:j<F.n:=by have:=Co p.C;omega
 have ns:=I2 (E:=E) s;have mw:=xR H.C j;have vS:=p.G gI;obtain⟨_,nZ⟩:=Wp nZ hG;rcases nZ with⟨p',g',es,h1,I,h3,h4⟩|⟨g',h1,I,h3⟩|⟨g',c,K,Q,sU,h1,I⟩
 .have hes:∀e∈es,sT F.toFx e:=by
   rcases I with rfl|rfl
   .intro e s;simp at s
   .exact xP N
  obtain⟨T',NB,zY⟩:=h3;obtain⟨gs',u,q1,V,q3,q4,q5,q6,q7⟩:=p.Y (J:=JW F (E.I j) j<|.fu r (.lG p')) (T:=.fv) H (kW F (E.I j)<|.fu r (.lG p')) hi (Cq G) N (by rwa[mw]) (À U) hes (by rcases I with rfl|rfl<;>rfl) (λx hs e=>(ns x hs e).elim) (by rw[mw];exact λw₁ mM=>⟨hd,IC ⟨T',NB,zY⟩ mM⟩)<|À (zY _ _ NB).1;refine⟨gK E j<|.fu r (.lG p'),_,_,_,_,gs',w,u,q1,V,λh=>h,.r (p.N.N H.C G s) (V.trans p.b) q5 (q7.r<|by rw[m];rfl) (p.M.Y (by rw[m];rfl)<|by rw[m];rfl) (p.C.G G s (λk=>by rw[m];rfl) (λf h=> ?_) (λf h=> ?_) (λf h=>by cases h) λf h=>by cases h) q6 (p.c.pT (E':=gK E j _) q3 (by rw[(zY _ _ NB).1];simp) q4 (λ_ _=>rfl) U U (λ_ _=>rfl) (λ_=>rfl) (λt e=>iH _ Z) (λ_ _ h=>À h) λ_ _ _ _ h=>À h) λt f O z Y=> ?_,afp H.C vS s m ht U h4⟩
  .rcases h with⟨_,h⟩|h|h<;>cases h;exact n8
  .rcases h with h|h|h<;>cases h
  .rw[iH _ (λe=>by subst e;rw[jD]at z;cases z)]at z;exact(p.f t f O z Y).app u
 .obtain⟨T,hT⟩:=jc h3;have mI:=kX (λl g h=>À h.2.1) h3;obtain⟨gs',u,q1,V,q3,q4,q5,q6,q7⟩:=p.Y H (kW F (E.I j)<|.fu r .kK) hi (Cq G) N (by rwa[mw]) (À U) (xP N) U (λx hs e=>(ns x hs e).elim) (by rwa[mw]) mI;refine⟨gK E j<|.fu r .kK,_,_,_,_,gs',w,u,q1,V,λh=>h,.r (p.N.N H.C G s) (V.trans p.b) q5 (q7.r<|by rw[m];rfl) (p.M.Y (by rw[m];rfl)<|by rw[m];rfl) (p.C.G G s (λk=>by rw[m];rfl) (λf h=> ?_) (λf h=> ?_) (λf h=>by cases h) λf h=>by cases h) q6 (p.c.pT (E':=gK E j _) q3 (by rcases mI with q|q<;>rw[q]<;>simp) q4 (λ_ _=>rfl) U U (λ_ _=>rfl) (λ_=>rfl) (λt e=>iH _ Z) (λ_ _ h=>À h) λ_ _ _ _ h=>À h) λt f O z Y=> ?_,Cp H.C vS s<|by rw[m];simp only[gG.rk,ji.rk];omega⟩
  .rcases h with⟨_,h⟩|h|h<;>cases h;exact n8
  .have:f=r:=by rcases h with h|h|h<;>cases h;rfl
   subst this;refine ă λzZ=> ?_;have:=I _ _<|p.C.e _ Z X zZ;omega
  .rw[iH _ (λe=>by subst e;rw[jD]at z;cases z)]at z;exact(p.f t f O z Y).app u
 .have hcd:E.S.od<F.r (j+r*F.n):=by
   refine ñ λhle=> ?_;rcases p.C.Y _ X hle with⟨W,_,q,_⟩|⟨_,_,_,_,q,_⟩|⟨_,⟨q,_⟩|⟨_,q,_⟩⟩<;>(rw[Q]at q;cases q);omega
  have Cs:=p.C.e _ Z X hcd;have e0:=Q.symm.trans Cs;injection e0 with e1 e2;subst e1;have Wq:K<=F.n:=by rw[e2];exact Fq λi=>by cases E.C i<;>simp only[gG.gw]<;>first|omega|(split<;>first|omega|(rename_i q _;cases q<;>simp[ji.rI]))
  have Ft:=H.C.fW;have Fu:=(Q▸hG:gU w (F.I<|F.r<|j+r*F.n) (.cl 1 K)).V5 Z Z;obtain⟨hv,Fu⟩:=Fu;obtain⟨x,Ct,z8,Wr,I3,hx4⟩:∃(x:ji) (Ct:Nat->Option Nat),(x=.wr\/x=.ki)/\ff F.P É (pV F.P É F.B (F.I<|F.r<|j+r*F.n) (F.e (E.I j)<|j+r*F.n) x) {o (F.L+1+j)with w:=w} g'/\((∀M,M≠F.r (j+r*F.n)->Ct M=E.d M)/\∀y,E.d (F.r<|j+r*F.n)=Ã y->Ct (F.r<|j+r*F.n)=Ã y)/\(x=.wr->Ct (F.r<|j+r*F.n)=Ã j):=by
   by_cases hz:K=0
   .subst hz;refine⟨.wr,ft E.d (F.r<|j+r*F.n)<|Ã j,À U,?_,⟨λM sN=>fD _ _ sN,λy hy=> ?_⟩,λ_=>gy _ _ _⟩
    .have:E.a (F.r<|j+r*F.n)=.cl 1 0:=Q;rw[this]at I;have e:(GS.cl 1 0).st%fT=0:=A
     simp only[e,if_true]at I;exact I
    .rw[p.C.y _ X Q]at hy;cases hy
   .refine⟨.ki,E.d,Á U,?_,⟨λ_ _=>rfl,λ_ h=>h⟩,λh=>by cases h⟩;have:E.a (F.r<|j+r*F.n)=.cl 1 K:=Q;rw[this]at I;have e:¬(GS.cl 1 K).st%fT=0:=by simp only[GS.st,fT];omega
    simp only[e,if_false]at I;exact I
  have hxw:x.rI=1:=by rcases z8 with rfl|rfl<;>rfl
  have Ws:=Wr.jO (w₁:=w.setCell (fH<|F.I<|F.r<|j+r*F.n)<|ë Ó<|Ó.wrap<|(GS.cl 1 K).st+1) (by have D:=(km.r (Á ⟨fH<|F.I<|F.r<|j+r*F.n,_,À U,U⟩:km (F.I<|F.r<|j+r*F.n) w (w.setCell (fH<|F.I<|F.r<|j+r*F.n)<|ë Ó<|Ó.wrap<|(GS.cl 1 K).st+1)) p.a H.C N);exact⟨Ô D.r.symm,λd kL=>D.jH d<|p.I.r.I _ gI d kL,λa ha=>D.M _ gI a ha,λa ha=>D.N _ gI a ha,λa _=>D.I a⟩);obtain⟨T,hT⟩:=jc Ws;have Wt:=kX (λl g h=>by rcases z8 with rfl|rfl<;>exact À h.2.1) Wr;have NC:km (F.I<|F.r<|j+r*F.n) w (w.setCell (fH<|F.I<|F.r<|j+r*F.n)<|ë Ó<|Ó.wrap<|(GS.cl 1 K).st+1):=Á ⟨_,_,À U,U⟩;obtain⟨gs',u,q1,V,q3,q4,q5,q6,q7⟩:=p.Y H (kW F (E.I j)<|.fu r x) hi (Cq G) N (by rw[mw];exact(Q▸h1)) NC (zW N) U (λx hs e=>(ns x hs e).elim) (by rwa[mw]) Wt;have rJ:=vR (f':=λi=>((gK E j<|.fu r x).C i).gw F i<|F.r<|j+r*F.n) uM (λi kT=>by rw[iH _ kT]);simp only[jD,m]at rJ;have sV:gG.gw F j (F.r<|j+r*F.n) (.fu r x)=1:=by simp only[gG.gw,if_true,hxw]
  have rK:gG.gw F j (F.r<|j+r*F.n) (.fu r (.lG v))=0:=by simp only[gG.gw,if_true];rfl
  rw[sV,rK]at rJ;refine⟨uL E j (.fu r x) (F.r<|j+r*F.n) (.cl 1 (K+1)) Ct,_,_,_,_,gs',_,u,q1,V,λh=>h,.r ?_ (V.trans p.b) q5 ?_ ?_ (p.C.Wk G s (λM sN=> ?_) (λ_ _=> ?_) (λh=>by omega) (λ⟨a,d,h⟩=> ?_) (λh=>by injection h with _ h;omega) I3.1 I3.2 (λf h=> ?_) (λf h=> ?_) (λf h=> ?_) λf h=> ?_) (q6.ae2 λM y hy=> ?_) ?_ λt f O z Y=> ?_,?_⟩
  .have:=p.N.N (x:=.fu r x) (T:=T) H.C G s;exact⟨this.M,this.Y,this.I,this.C,this.r⟩
  .have:=q7.r (x:=.fu r x) (by rw[m];rfl);exact⟨this.gN,this.o,this.ln,this.e,this.f,this.h,this.l,this.S,this.M,this.c,this.I,this.N,this.g,this.d⟩
  .have W1:=NC.I H p.a p.C p.M N (Gg:=ft E.a (F.r<|j+r*F.n)<|.cl 1 (K+1)) ⟨λe=>absurd e<|H.C.M _ X,λ_=>rfl⟩ λM sN=>⟨λe=> ?_,λe=>fD _ _ λe'=>e<|by rw[e']⟩
   .have W2:=W1.Y (x:=.fu r x) (by show _=(E.C j).kl;rw[m];rfl) (by show _=(E.C j).iG;rw[m];rfl);exact⟨W2.C,W2.I,W2.jw,W2.M,W2.S,W2.N⟩
   .rwa[<-(H.C.S _ _ X sN e),gy]
  .rw[m];simp only[gG.gw,if_neg<|ÿ sN]
  .congr 1;rw[<-e2]at rJ;omega
  .rw[Q]at h;cases h
  .rcases h with⟨_,h⟩|h|h<;>cases h;exact n8
  .rcases h with h|h|h<;>cases h<;>(rcases z8 with h|h<;>cases h)
  .cases h;rcases z8 with h|h<;>cases h
  .cases h;exact hx4 U
  .by_cases e:M=F.r (j+r*F.n)
   .subst e;exact I3.2 y hy
   .show Ct M=Ã y;rwa[I3.1 M e]
  .refine p.c.pT (E':=uL E j _ _ _ _) q3 (by rcases Wt with q|q<;>rw[q]<;>simp) q4 (λt n7=>NC.C p.C N n7) U U (λ_ _=>rfl) (λ_=>rfl) (λt e=>iH _ Z) (λ_ _ h=>À h) λt f _ _ h=>À ?_;by_cases e:F.r (t+f*F.n)=F.r (j+r*F.n)
   .show(ft E.a _ _ _).sm=0;rw[e,gy];rfl
   .show(ft E.a _ _ _).sm=0;rwa[fD _ _ e]
  .have e:t≠j:=λe=>by
    subst e;have:(gK E t<|.fu r x).C t=.jz f:=z;rw[jD]at this;cases this
   have Aa:(gK E j<|.fu r x).C t=.jz f:=z;rw[iH _ e]at Aa;exact(p.f t f O Aa Y).app u
  .have:=Cp (E:=E) (tr:=tr) (gs:=gs) (gs':=gs') (x:=.fu r x) (T:=T) H.C vS s (by rw[m];rcases z8 with rfl|rfl<;>simp only[gG.rk,ji.rk]<;>omega);rcases this with⟨i,O,z,Y⟩|⟨O,_⟩
   .exact À ⟨i,O,z,Y⟩
   .exfalso;have:=O _ vS;change(gK E j<|.fu r x).iM (ft tr (F.L+1+j) T) (F.L+1+j)=E.iM tr (F.L+1+j)at this;rw[sS H.C (E:=gK E j _) (show(gK E j _).N (j+1)=Í from s),sS H.C s,jD,m]at this;injection this with e _;rcases z8 with rfl|rfl<;>simp only[gG.rk,ji.rk]at e<;>omega
end
section
variable{F:Ph}{E E':fO F}{S:Nat->Jd}{s D:Nat->gk}{B:Nat->il}{f:Nat->e7}{c o:Array Ä}{u:ä}{sl:Option (Nat×Nat)}
def PI.ND(H:gM F)(p:PI F j zX E S s B f c w qJ){x:gG}{a:Ä}{T:gk}(y:i+2<=E.r)(d:E.N (i+1)=Í)(z:c[F.L+1+i]?=Ã g)(C:Ŏ F.P (ð c w sl) (F.L+1+i)=(ğ<|ð o w sl,u))(l:o.size=c.size)(D:o[F.L+1+i]?=Ã a)(G:a.status=Å\/a.status=å)(I:∀k,k≠F.L+1+i->o[k]?=c[k]?.map (Ā F.P g a w)) (J:gE F.P F.S E.Y (ft S (F.L+1+i)<|JW F (E.I i) i x) (ft s (F.L+1+i) T) (ft B (F.L+1+i)<|kW F (E.I i) x) (gi f (F.L+1+i) {f (F.L+1+i)with w:=w}) o w (qJ++u)) (K:TI F.toFx j zX E.r E.S.rl E.V E.e E.d E.ie E.f (qJ++u)) (M:iA F E (gi f (F.L+1+i) {f (F.L+1+i)with w:=w}) o.size w) (m:x.kl=(E.C i).kl) (N:x.iG=(E.C i).iG) (O:Ps F (gK E i x)) (Q:x.rk F<(E.C i).rk F) (W:∀r,x=.jz r->1<=F.r (i+r*F.n)->Λ (qJ++u) (F.L+1+i) (E.e<|F.r<|i+r*F.n)):jP F j zX E s c w qJ sl (F.L+1+i):=by
 refine⟨gK E i x,_,_,_,_,o,w,u,C,l,λh=>h,.r (p.N.N H.C y d) (l.trans p.b) J (M.r m) (p.M.Y m N) O K (p.c.pT (E':=gK E i _) D (by rcases G with q|q<;>rw[q]<;>simp) I (λ_ _=>rfl) U U (λ_ _=>rfl) (λ_=>rfl) (λb e=>iH _ Z) (λ_ _ h=>À h) λ_ _ _ _ h=>À h) λb t X q v=> ?_,Cp H.C (p.G<|iI z) d Q⟩
 .by_cases e:b=i
  .subst e;rw[jD]at q;exact W t q v
  .rw[iH _ e]at q;exact(p.f b t X q v).app u
def NG{r:Nat}{v:ji}(h:v.rI=0):gG.gw F j k (.fu r v)=0:=by simp only[gG.gw,h];split<;>rfl
def vT{a:Ă}(h:a∈#[wQ]):a=wQ:=by simpa using h
def afs{i:Nat}{fn:Ĵ}{pos:String}{m:Ο}:∃y:Ă,Û i fn pos #[jI m]=#[y]/\y.g=i/\y.act=ė m:=⟨{g:=i,fn,pos,act:=ė m},by simp[Û,jI,Ë],U,U⟩
def PI.Ab(H:gM F)(p:PI F j zX E S s B f c w qJ){a:Ä}{m:Ο}{J:Jd}{T:gk}(K:il)(v:c[i]?=Ã g)(x:è F.P (i==0) g w=ş a w #[jI m])(z:m≠ô)(C:m≠î) (D:∀y:Ă,y.act=ė m->(∀b,y.act.touch?=Ã b->E5 (λi=>i<c.size) E.Y f b)/\y.act.low w.heap.size) (G:∀y:Ă,y.g=i->y.act=ė m->∀I,¬Race I (qJ++#[y])) (hF:kJ F.P (i==0) J T {f i with w:=w} a) (L:a.status=Å\/a.status=å): ∃o y,y.g=i/\y.act=ė m/\Ŏ F.P (ð c w sl) i=(ğ<|ð o w sl,#[y])/\o.size=c.size/\o[i]?=Ã a/\(∀k,k≠i->o[k]?=c[k]?.map (Ā F.P g a w))/\ gE F.P F.S E.Y (ft S i J) (ft s i T) (ft B i K) (gi f i {f i with w:=w}) o w (qJ++#[y])/\iA F E (gi f i {f i with w:=w}) o.size w:=by
 obtain⟨y,l,n,h⟩:=afs;have r:Ï (f i).d #[jI m]=(f i).d:=ĺ (λe k=>by
  have:e=jI m:=by simpa using k
  subst this;exact⟨λq=>z (by injection q),λq=>C (by injection q)⟩) _
 have M:∀e∈#[jI m],Ë e=y.act:=λe k=>by
  have:e=jI m:=by simpa using k
  subst this;rw[h];rfl
 obtain⟨o,q,t,N,O,u⟩:=p.I.pT v x (o6.fQ _ _ _ _) (by rwa[r]) L (λe k=>by rw[M e k];exact D y h) (by rw[l];exact G y n h);rw[r,l]at u;rw[l]at q;refine⟨o,y,n,h,q,t,N,O,u,?_⟩;rw[t];exact p.a.C<|Ç _
def NH(H:gM F)(p:PI F j zX E S s B f c w qJ)(hb:F.M b)(D:xO E i){m:Ο}(N:m=.read (gQ b)\/m=Υ (gQ b))(T:F.Nr E.d (gQ b) (Ã i))(W:∀x,E.ie x->i≠F.L+x): (∀y:Ă,y.act=ė m->(∀b,y.act.touch?=Ã b->E5 (λi=>i<c.size) E.Y f b)/\y.act.low w.heap.size)/\(∀y:Ă,y.g=i->y.act=ė m->∀O,¬Race O (qJ++#[y]))/\∀y:Ă,y.g=i->y.act=ė m->TI F.toFx j zX E.r E.S.rl E.V E.e E.d E.ie E.f (qJ++#[y]):=by
 have C:=p.I.r;have G:∀y:Ă,y.act=ė m->∀a,y.act.touch?=Ã a->a.loc=ú (gQ b)/\a.kind=.said:=λy t a l=>by rw[t]at l;rcases N with rfl|rfl<;>simp[Ċ]at l<;>subst l<;>exact⟨U,U⟩
 have u:=(vO hb).2;refine⟨λy t=>⟨λa l=>À ⟨_,(G y t a l).1,vP u,λk D=>p.a.Y H.C u k D⟩,?_⟩,λy I t=>λO=> ?_,λy I t=> ?_⟩
 .have:=C.N _<|vP (E:=E) u;rw[t];rcases N with rfl|rfl<;>exact this
 .refine noRace_append (C.l O) (λd h=>by rw[vT h,I]) λq a l d h z hz X=> ?_;have:d=y:=by simpa using h
  subst this;let⟨n,P⟩:=G d t z hz;rcases p.d.M q a _ l (X.1.trans n) u with⟨J,o⟩|r|⟨_,r⟩
  .exact Wl p.d D J o
  .let⟨_,_,_,v⟩:=X;rw[r,P]at v;rcases v with v|v|⟨_,v,_⟩<;>cases v
  .have e:qJ.g? q=Ã i:=by
    rcases T with⟨K,M⟩|⟨k,v,K,M,s3,s4⟩
    .rcases r with⟨_,o⟩|⟨k,v,Q,o,_,_⟩
     .rw[o,M]
     .rw[K]at o;exact absurd (by injection o with o _ _;exact o.symm)<|H.C.M k Q
    .rcases r with⟨J,_⟩|⟨k',j',Q,o,r3,r4⟩
     .rw[M]at J;exact absurd (by injection J)<|H.C.M k K
     .rw[M]at o;have:k=k':=H.C.S _ _ K Q (by injection o);subst this;rw[s3]at r3;obtain rfl:=È r3;rw[r4,s4]
   let⟨M,v,K⟩:=Ù.1 e;have:=knows_own v;rwa[K]at this
 .refine p.d.C ⟨λd h a _=>by rw[vT h,I],D.imp id À,λd h a x l o K=> ?_,λd h a z l Q o k X J=> ?_,λd h b' _ e=> ?_,λx K q=>⟨λr M=>M.appOther (λd h=>by rw[vT h,I])<|W x q,λe=>absurd e.symm<|W x q⟩⟩
  .have:d=y:=by simpa using h
   subst this;let⟨n,P⟩:=G d t a l;rw[o]at n;injection n with n;subst n;exact Á ⟨P,T⟩
  .have:d=y:=by simpa using h
   subst this;let⟨n,_⟩:=G d t a l;rw[o]at n;injection n with n;subst n;exact⟨λv=>(p.a.I k (Ø J<|IY p.C) _ v).2.1<|vP u,λe=>by simp[gQ,iZ]at e⟩
  .have:d=y:=by simpa using h
   subst this;rw[t]at e;rcases N with rfl|rfl<;>simp at e
theorem PI.afu(H:gM F)(p:PI F j zX E S s B f c w qJ){r:Nat}(b:i+2<=E.r)(d:E.N (i+1)=Í)(q:c[F.L+1+i]?=Ã g)(z:g.status=Å)(C:s (F.L+1+i)=.fv)(a:E.C i=.fu r .wr):jP F j zX E s c w qJ sl (F.L+1+i):=by let⟨Y,_,g',D,t⟩:=p.Cr H b d q z C a w<|p.I.r.r _<|iI q;have u:=p.C.d i r b<|À ⟨_,a⟩;have v:=xR H.C i;let⟨G,I,K⟩:=NH H p (Fp H.C u) (Cq b) (m:=Υ<|gQ<|F.I<|F.r<|i+r*F.n) (Á U) (Á ⟨_,i,H.C.I _ u,U,p.C.D i r b a,U⟩) λx h e=>(I2 (E:=E) d) x h e;let⟨T,M⟩:=jc t;have x:=kX (λl g h=>À h.2.1) t;obtain⟨o,y,l,N,O,P,Q,V,W,X⟩:=p.Ab (J:=JW F (E.I i) i<|.fu r .ki) H (kW F (E.I i)<|.fu r .ki) q (by rw[v];exact D w) fh fh G I (by rwa[v]) x;refine p.ND H b d q O P Q x V W (K y l N) X (by rw[a];rfl) (by rw[a];rfl) (p.C.G b d (λk=>by rw[a];rfl) (λe h=> ?_) (λe h=> ?_) (λe h=>by cases h) λe h=>by cases h) (by rw[a];simp only[gG.rk,ji.rk];omega) (λe h=>by cases h);all_goals grind
theorem PI.afv(H:gM F)(p:PI F j zX E S s B f c w qJ){r:Nat}(m:i+2<=E.r)(n:E.N (i+1)=Í)(q:c[F.L+1+i]?=Ã g)(G:g.status=Å)(I:s (F.L+1+i)=.fv)(d:E.C i=.fu r .gq):jP F j zX E s c w qJ sl (F.L+1+i):=by
 let⟨hd,_,K⟩:=p.Cr H m n q G I d w<|p.I.r.r _<|iI q;have v:=p.C.d i r m<|À ⟨_,d⟩;have y:=Fp H.C v;have z:=xR H.C i;let⟨a,b,M⟩:=p.C.H i r m d;have C:=p.M.I _<|H.C.I _ v;rw[M]at C;let⟨g',N,t⟩:=K 0;simp only[if_true]at t;let⟨T,O⟩:=jc t;have D:=kX (λl g h=>À h.2.1) t;obtain⟨o,u,l,P,Q,V,W,X,Y⟩:=p.Y (J:=JW F (E.I i) i<|.fu r .kK) H (kW F (E.I i)<|.fu r .kK) q (Cq m) y (by rw[z];exact N w C.C) (À U) (xP y) U (λx k e=>(I2 n x k e).elim) (by rwa[z]) D;refine p.ND H m n q l P Q D V W X Y (by rw[d];rfl) (by rw[d];rfl) (p.C.G m n (λk=>by rw[d];rfl) (λe h=> ?_) (λe h=> ?_) (λe h=>by cases h) λe h=>by cases h) (by rw[d];simp only[gG.rk,ji.rk];omega) λe h=>by cases h
 .grind
 .rcases h with h|h|h<;>cases h;exact p.C.w i r m<|À d
theorem PI.afw(H:gM F)(p:PI F j zX E S s B f c w qJ){r:Nat}(d:i+2<=E.r)(t:E.N (i+1)=Í)(q:c[F.L+1+i]?=Ã g)(I:g.status=Å)(K:s (F.L+1+i)=.fv)(a:E.C i=.fu r .kK):jP F j zX E s c w qJ sl (F.L+1+i):=by
 have v:=iI q;let⟨M,_,g',N,x⟩:=p.Cr H d t q I K a w<|p.I.r.r _ v;have O:=p.C.d i r d<|À ⟨_,a⟩;have C:=Fp H.C O;have D:=xR H.C i;have u:∀y:Ă,y.act=ė (ő<|fH<|F.I<|F.r<|i+r*F.n)->y.act.touch?=Í:=λy m=>by rw[m];rfl
 let⟨T,P⟩:=jc x;have G:=kX (λl g h=>À<|H.Y _ _ _ _ h) x;obtain⟨o,y,Q,l,V,W,X,Y,q5,q7⟩:=p.Ab (J:=JW F (E.I i) i<|.jz r) H (kW F (E.I i)<|.jz r) q (by rw[D];exact N w) fh fh (λy m=>⟨λz k=>(by rw[u y m]at k;cases k),by rw[m];exact p.I.r.N _<|À C⟩) (λy _ m=>zM p.I.r.l λz k=>by rw[vT k];exact u y m) (by rwa[D]) G;have Cu:=p.d.C (xL (λz k=>by rw[vT k];exact u y l) λz k b _ e=>by grind);refine p.ND H d t q V W X G Y q5 Cu q7 (by rw[a];rfl) (by rw[a];rfl) (p.C.G d t (λk=>by rw[a,NG U];rfl) (λk h=> ?_) (λk h=> ?_) (λk h=>by cases h) λk h=>by cases h) (by rw[a];simp only[gG.rk,ji.rk];omega) λk h z=> ?_
 .grind
 .rcases h with h|h|h<;>cases h;exact p.C.w i r d<|Á<|À a
 .cases h;let⟨k,b,e⟩:=p.d.Y _ z<|Ø (p.C.w i r d<|Á<|À a)<|Nw _;exact V9 k b e (p.d.c _ C) Q l<|(p.I.r.f _ v).trans M
end
section
variable{F:Ph}{E E':fO F}{S:Nat->Jd}{tr o:Nat->gk}{f:Nat->il}{d:Nat->e7}{gs gs':Array Ä}{u:ä}{sl:Option (Nat×Nat)}
def Wu{G:GS}(h:G.sm≠0):∃a s,G=.gR a (s+1):=by
 cases G with
 |cl c b=>exact absurd U h
 |ju b=>exact absurd U h
 |gR a s=>cases s with
  |zero=>exact absurd U h
  |succ s=>exact⟨a,s,U⟩
def Cv(h:gs[i]?=Ã g):gd gs i=if g.status=Å then 1 else 0:=by unfold gd;rw[h];simp
def NJ(h:gs'[i]?=gs[i]?):gd gs' i=gd gs i:=by unfold gd;rw[h]
theorem PI.afx(H:gM F)(p:PI F n zX E S tr f d gs w qJ){j r:Nat}{g:Ä}(t:j+2<=E.r)(m:E.N (j+1)=Í)(v:gs[F.L+1+j]?=Ã g)(z:g.status=Å)(ht:tr (F.L+1+j)=.fv)(c:E.C j=.fu r .ki):jP F n zX E tr gs w qJ sl (F.L+1+j):=by
 have B:=iI v;obtain⟨hd,_,ho,NK,g',h1,h2⟩:=(p.Cr H t m v z ht c) w<|p.I.r.r _ B;have Q:=p.C.d j r t<|À ⟨_,c⟩;have C:=Fp H.C Q;have G:=H.C.I _ Q;have V:=xR H.C j;have X:=p.G B;have uM:j<F.n:=by have:=Co p.C;omega
 have hG:=p.M.I _ G;by_cases K:(E.a<|F.r<|j+r*F.n).sm=0
 .have q:=hG.M;rw[K]at q;obtain⟨sV,I⟩:=p.g j t m;rw[c]at sV I;obtain⟨gs',q1,o,M,q4⟩:=Nb v (by rw[V];exact(NK w q));have s:∀x,Ā F.P g {g with status:=Ü} w x=x:=by
   intro x;unfold Ā;rw[if_neg fh]
  have b:∀k,k≠F.L+1+j->gs'[k]?=gs[k]?:=by
   intro k a;rw[q4 k a];cases gs[k]? with
   |none=>rfl
   |some x=>simp[s]
  have D:gE F.P F.S E.Y S tr f d gs' w (qJ++#[]):=by
   rw[Ú];obtain⟨g0,J,l,W,O⟩:=p.I.C _ g v;have N:g=g0:=by
    rw[I]at l;cases l with
    |gd=>rfl
    |ni h ho=>cases z
   subst N;refine⟨?_,λk y a=> ?_,λk a=>p.I.I k<|by rwa[<-o]⟩
   .rw[show(λi=>i<gs'.size)=(λi=>i<gs.size) by rw[o]];exact p.I.r
   .by_cases e:k=F.L+1+j
    .subst e;rw[M]at a;obtain rfl:=È a;refine⟨g,J,?_,À z,Á ht⟩;rw[I];exact .ni z ho
    .rw[b k e]at a;exact p.I.C k y a
  refine⟨E,S,tr,f,d,gs',w,#[],q1,o,λh=>h,.r p.N (o.trans p.b) D (by rw[o];exact p.a) p.M p.C (by rw[Ú];exact p.d) (λk y a l=> ?_) (by rw[Ú];exact p.f),Nz (λ_ _=>rfl) X (by rw[Cv v,if_pos z]) (by rw[Cv M,if_neg fh]) λk a=>NJ<|b k a⟩;by_cases e:k=F.L+1+j
  .subst e;exact Á ⟨j,t,m,U,À ⟨r,c,K⟩⟩
  .rw[b k e]at a;exact p.c k y a l
 .obtain⟨a,s,y⟩:=Wu K;have NL:=y▸hG;have Cw:=h1 w _ (by simp only[GS.sm];omega) NL.M NL.N;have N:km (F.I<|F.r<|j+r*F.n) w (w.setCell (gQ<|F.I<|F.r<|j+r*F.n)<|ë ç<|(GS.gR a<|s+1).sm-1):=Á ⟨_,_,Á U,U⟩;have D:=N.r p.a H.C C;obtain⟨T,hT⟩:=jc (h2.jO (w₁:=w.setCell (gQ<|F.I<|F.r<|j+r*F.n)<|ë ç<|(GS.gR a<|s+1).sm-1) ⟨Ô D.r.symm,λb l=>D.jH b<|p.I.r.I _ B b l,λa k=>D.M _ B a k,λa k=>D.N _ B a k,λa _=>D.I a⟩);have mI:=kX (λl g h=>À h.2.1) h2;obtain⟨gs',u,q1,o,M,q4,q5,q6,q7⟩:=p.Y H (kW F (E.I j)<|.fu r .gq) v (Cq t) C (by rwa[V]) N (Fl C) (Fo _).2.2.2 (λx l e=>(I2 m x l e).elim) (by rwa[V]) mI;have hle:F.r (j+r*F.n)<=E.S.od:=by
   refine ă λl=> ?_;have:=p.C.e _ Z G l;rw[y]at this;cases this
  have rJ:=vR (f':=λi=>((gK E j<|.fu r .gq).C i).gw F i<|F.r<|j+r*F.n) uM (λi l=>by rw[iH _ l]);simp only[jD,c]at rJ;have sV:gG.gw F j (F.r<|j+r*F.n) (.fu r .gq)=0:=by simp only[gG.gw,if_true];rfl
  have I:gG.gw F j (F.r<|j+r*F.n) (.fu r .ki)=1:=by simp only[gG.gw,if_true];rfl
  rw[sV,I]at rJ;refine⟨uL E j (.fu r .gq) (F.r<|j+r*F.n) (.gR a s) E.d,_,_,_,_,gs',_,u,q1,o,λh=>h,.r ?_ (o.trans p.b) q5 ?_ ?_ (p.C.Wk t m (λl q=> ?_) (λ_ h=>by omega) (λ_=> ?_) (λ_=>⟨a,s,U⟩) (λh=>by cases h) (λ_ _=>rfl) (λ_ h=>h) (λb h=> ?_) (λb h=> ?_) (λb h=> ?_) λb h=>by cases h) q6 ?_ λk b J O a3=> ?_,?_⟩
  .have:=p.N.N (x:=.fu r .gq) (T:=T) H.C t m;exact⟨this.M,this.Y,this.I,this.C,this.r⟩
  .have:=q7.r (x:=.fu r .gq) (by rw[c];rfl);exact⟨this.gN,this.o,this.ln,this.e,this.f,this.h,this.l,this.S,this.M,this.c,this.I,this.N,this.g,this.d⟩
  .have W:=N.I H p.a p.C p.M C (Gg:=ft E.a (F.r<|j+r*F.n)<|.gR a s) ⟨λe=>absurd e<|H.C.M _ G,λ_=>rfl⟩ λl q=>⟨λe=> ?_,λe=>fD _ _ λe'=>e<|by rw[e']⟩
   .have l:=W.Y (x:=.fu r .gq) (by show _=(E.C j).kl;rw[c];rfl) (by show _=(E.C j).iG;rw[c];rfl);exact⟨l.C,l.I,l.jw,l.M,l.S,l.N⟩
   .rw[<-(H.C.S _ _ G q e),gy];exact NL.ki
  .rw[c];simp only[gG.gw,if_neg<|ÿ q]
  .rcases p.C.Y _ G hle with⟨W,_,q,_⟩|⟨r1,s1,l,z2,q,z3⟩|⟨l,⟨q,_⟩|⟨s1,q,z3⟩⟩
   .rw[y]at q;cases q
   .rw[y]at q;injection q with e1 e2;subst e1 e2;exact Á<|À ⟨a,s,l,z2,U,Z⟩
   .rw[y]at q;cases q
   .rw[y]at q;injection q with e1 e2;subst e1 e2;exact Á<|Á ⟨l,Á ⟨s,U,Z⟩⟩
  .rcases h with⟨_,h⟩|h|h<;>cases h;exact Q
  .rcases h with h|h|h<;>cases h;exact hle
  .cases h;exact⟨a,s,gy _ _ _⟩
  .refine p.c.pT (E':=uL E j _ _ _ _) M (by rcases mI with q|q<;>rw[q]<;>simp) q4 (λk l=>N.C p.C C l) U U (λ_ _=>rfl) (λ_=>rfl) (λk e=>iH _ Z) (λ_ _ h=>À h) λk b _ _ h=>À ?_;by_cases e:F.r (k+b*F.n)=F.r (j+r*F.n)
   .rw[e]at h;exact absurd h K
   .show(ft E.a _ _ _).sm=0;rwa[fD _ _ e]
  .have e:k≠j:=λe=>by
    subst e;have:(gK E k<|.fu r .gq).C k=.jz b:=O;rw[jD]at this;cases this
   have l:(gK E j<|.fu r .gq).C k=.jz b:=O;rw[iH _ e]at l;exact(p.f k b J l a3).app u
  .have:=Cp (E:=E) (tr:=tr) (gs:=gs) (gs':=gs') (x:=.fu r .gq) (T:=T) H.C X m (by rw[c];simp only[gG.rk,ji.rk];omega);rcases this with⟨i,J,O,a3⟩|⟨J,_⟩
   .exact À ⟨i,J,O,a3⟩
   .exfalso;have:=J _ X;change(gK E j<|.fu r .gq).iM (ft tr (F.L+1+j) T) (F.L+1+j)=E.iM tr (F.L+1+j)at this;rw[sS H.C (E:=gK E j _) (show(gK E j _).N (j+1)=Í from m),sS H.C m,jD,c]at this;injection this with e _;simp only[gG.rk,ji.rk]at e;omega
theorem iA.afy(L:iA F E d i w){l:e7}(H:∀b,l.O b->(d n).O b)(I:∀b,(d n).I b->l.I b)(J:∀a,l.r a->(d n).r a)(K:∀a,(d n).r a->l.r a)(M:∀a,(d n).N a->l.N a)(N:∀a,l.C a->(∃k,k<=F.m/\a=iZ F.toFx k)\/∃p,p≠F.f/\a=je F p)(P:l.q=(d n).q)(s:¬l.q):iA F E (gi d n l) i w:=by
 have D:∀k,d k=kj (d k)->k≠n:=λk f e=>by
  subst e;have:(d k).q:=by rw[f];trivial
  grind
 have Q:∀k b,(gi d n l k).O b->(d k).O b:=λk b h=>by grind [gO,gB]
 have t:∀k a,(gi d n l k).r a↔(d k).r a:=λk a=>by grind [gO,gB]
 have y:∀k b,(d k).I b->(gi d n l k).I b:=λk b h=>by grind [gO,gB]
 have z:∀k a,(d k).N a->(gi d n l k).N a:=λk a h=>by grind [gO,gB]
 refine⟨λk f a v=> ?_,λx c o a v=>(t _ _).2<|L.o x c o a v,λh=>⟨z _ _ (L.ln h).1,λb s=>y _ _<|(L.ln h).2 b s⟩,λh k c o=>⟨(t _ _).2 (L.e h k c o).1,(t _ _).2 (L.e h k c o).2⟩,λh u=>⟨z _ _ (L.f h u).1,λb s=>y _ _<|(L.f h u).2 b s⟩,λj g u r B c=>(t _ _).2<|L.h j g u r B c,λj g u=>⟨z _ _ (L.l j g u).1,λb s=>y _ _<|(L.l j g u).2 b s⟩,λx G=> ?_,λk f=> ?_,λk c o=> ?_,λk f b s=> ?_,λk f j g h=>L.N k f j g<|(t _ _).1 h,λk c o j g h=>L.g k c o j g<|(t _ _).1 h,λj g r B c k f h=>L.d j g r B c k f<|(t _ _).1 h⟩
 .by_cases e:k=n
  .grind [gO]
  .rw[gB d _ e]at v;exact L.gN k f a v
 .rw[gB d _<|D _<|L.S x G];exact L.S x G
 .by_cases e:k=n
  .grind [gO]
  .rw[gB d _ e];exact L.M k f
 .rw[gB d _<|D _<|L.c k c o];exact L.c k c o
 .let⟨S,T,V⟩:=L.I k f b s;grind
theorem PI.afz(H:gM F)(p:PI F n zX E S tr f d gs w qJ){r:Nat}(o:j+2<=E.r)(s:E.N (j+1)=Í)(u:gs[F.L+1+j]?=Ã g)(x:g.status=Å)(I:tr (F.L+1+j)=.fv)(m:E.C j=.jz r):qC F n zX E tr gs w qJ:=by
 have c:=iI u;have C:=p.I.r;obtain⟨y,z⟩:=p.g j o s;rw[m]at y z;have B:=p.I.N u x I (À z) w<|C.r _ c;rw[y]at B;have v:=p.C.d j r o<|Á<|À m;have J:=H.C.I _ v;have D:=p.C.w j r o<|Á<|Á m;have t:=Ø D<|Ø (Nw _)<|IY p.C;obtain⟨K,M⟩:=p.M.M _ t;have N:=λa l=>by
  by_cases e:1<=F.r (j+r*F.n)
  .exact(p.d.I _ e (Ø D<|Nw _) a l).ae0<|p.f j r o m e
  .have h:F.r (j+r*F.n)=0:=Z
   obtain⟨i,b⟩:=p.a.l j o s;rw[h]at l;rcases l with l|rfl
   .rw[p.C.v]at l;exact(C.S _ c).C a<|b _ l
   .exact(C.S _ c).r _ i
 have G:iL F.S (λi=>i<gs.size) E.Y (gi d (F.L+1+j) {d (F.L+1+j)with I:=λb=>(d<|F.L+1+j).I b\/E.V (F.r<|j+r*F.n) b,N:=λa=>(d<|F.L+1+j).N a\/a=iZ F.toFx (F.r<|j+r*F.n),w:=w}) w qJ:=by
  refine C.C c (λ_ q=>q) (λb q=> ?_) (λ_ q=>q) (λa q=> ?_) U U U (λb h q=> ?_) λa l q=> ?_
  .rcases q with q|q
   .exact À<|Á q
   .obtain⟨i,k,O⟩:=p.a.I _ t b q;grind
  .rcases q with q|rfl
   .exact À<|Á q
   .exact Á ⟨À<|Á ⟨_,J,U⟩,λk e=>p.a.N _ t k e,N _<|Á U⟩
  .rcases q with q|q
   .exact C.m _ c b h q
   .exact(p.a.I _ t b q).2.2 _ c h
  .rcases q with q|rfl
   .exact C.g _ c a l q
   .exact p.a.N _ t _ c l
 have i:=G.M c;rw[gO]at i;obtain⟨T,O⟩:=jc (H.e (E.I j) j r _ _ _ g v B {d (F.L+1+j)with I:=λb=>(d<|F.L+1+j).I b\/E.V (F.r<|j+r*F.n) b,N:=λa=>(d<|F.L+1+j).N a\/a=iZ F.toFx (F.r<|j+r*F.n),w:=w} i U (λb q=>q) U U U U U K M (Á U)<|p.a.h j o s r v<|by rw[m];exact Ç _);refine p.NA H o s u (À x) G O ?_ (p.M.Y (by rw[m];rfl)<|by rw[m];rfl) (p.C.G o s (λk=>by rw[m];rfl) (λe h=> ?_) (λe h=> ?_) (λe h=>by cases h) λe h=>by cases h) ?_ λe h=>by cases h
 .refine(p.a.r<|by rw[m];rfl).afy (λ_ q=>q) (λ_ q=>À q) (λ_ q=>q) (λ_ q=>q) (λ_ q=>À q) (λa l=> ?_) U (p.a.M (F.L+1+j)<|Á ⟨j+1,Z,Z,λ⟨e,h,_⟩=>by rw[s]at h;cases h⟩);rcases l with q|q|rfl
  .exact p.a.gN _ c a<|À q
  .exact p.a.gN _ c a<|Á q
  .grind
 .grind
 .grind
 .rw[m];simp only[gG.rk];have h:F.n+3000<=(F.n+3000)*(F.q+3-r):=â _ (by
   have:r<=F.q:=by have:r*1<=r*F.n:=ï _ H.C.N;omega
   omega)
  omega
def PI.afA(H:gM F)(p:PI F n zX E S tr f d gs w qJ){r:Nat}(G:j+2<=E.r)(I:E.N (j+1)=Í)(V:gs[F.L+1+j]?=Ã g)(iD:g.status=Å)(ht:tr (F.L+1+j)=.fv)(u:E.C j=.nY r):qC F n zX E tr gs w qJ:=by
 have D:=iI V;have C:=p.I.r;let⟨sV,rK⟩:=p.g j G I;rw[u]at sV rK;have hJ:=p.I.N V iD ht<|À rK;rw[sV]at hJ;let⟨hcell,hrecv⟩:=hJ w<|C.r _ D;have n8:=p.C.d j r G<|Á<|Á u;have I4:=p.a.h j G I r n8 (by rw[u];exact Ç _);have I5:r<=F.q:=by have:r*1<=r*F.n:=ï _ H.C.N;omega
 have xS:iL F.S (λi=>i<gs.size) E.Y (gi d (F.L+1+j)<|uK F {d (F.L+1+j)with w:=w}<|j+r*F.n) w qJ:=by
  refine C.C D (λ_ q=>q) (λb q=>À<|Á q) (λ_ q=>q.1) (λa q=> ?_) U U U (λb t q=>C.m _ D b t q) λa s q=> ?_
  .rcases q with q|rfl
   .exact À<|Á q
   .exact À<|À I4
  .rcases q with q|q
   .exact C.g _ D a s.1 q
   .exact s.2 q
 have hF:kJ F.P É (JW F (E.I j) j<|.mK (r+1)) .fv (uK F {d (F.L+1+j)with w:=w}<|j+r*F.n) g:=λw₁ mM=>by let⟨Q,W,c,e⟩:=hrecv;exact⟨Q,W,c,λx=>(e x).jO mM⟩
 refine p.NA H G I V (À iD) xS hF ?_ ?_ (p.C.G G I (λk=>by rw[u];rfl) (λm h=> ?_) (λm h=> ?_) (λm h=>by cases h) λm h=>by cases h) ?_ λm h=>by cases h
 .have L:=p.a;have J:∀k a,(gi d (F.L+1+j) (uK F {d (F.L+1+j)with w:=w}<|j+r*F.n) k).r a->(d k).r a:=λk a h=>by
   by_cases e:k=F.L+1+j
   .subst e;rw[gO]at h;exact h.1
   .rwa[gB d _ e]at h
  have K:∀k a,(d k).r a->a≠je F (F.a<|j+r*F.n)->(gi d (F.L+1+j) (uK F {d (F.L+1+j)with w:=w}<|j+r*F.n) k).r a:=λk a h kQ=>by
   by_cases e:k=F.L+1+j
   .subst e;rw[gO];exact⟨h,kQ⟩
   .rwa[gB d _ e]
  have X:∀k a,(d k).N a->(gi d (F.L+1+j) (uK F {d (F.L+1+j)with w:=w}<|j+r*F.n) k).N a:=λk a h=>by
   by_cases e:k=F.L+1+j
   .subst e;rw[gO];exact À h
   .rwa[gB d _ e]
  have M:∀k,(gi d (F.L+1+j) (uK F {d (F.L+1+j)with w:=w}<|j+r*F.n) k).I=(d k).I/\(gi d (F.L+1+j) (uK F {d (F.L+1+j)with w:=w}<|j+r*F.n) k).O=(d k).O/\(gi d (F.L+1+j) (uK F {d (F.L+1+j)with w:=w}<|j+r*F.n) k).q=(d k).q:=λk=>by
   by_cases e:k=F.L+1+j
   .subst e;rw[gO];exact⟨U,U,U⟩
   .rw[gB d _ e];exact⟨U,U,U⟩
  have nb:∀k,d k=kj (d k)->k≠F.L+1+j:=λk W e=>by
   subst e;have:(d<|F.L+1+j).q:=by rw[W];trivial
   exact(p.a.M (F.L+1+j)<|Á ⟨j+1,Z,Z,λ⟨e,c,_⟩=>by rw[I]at c;cases c⟩) this
  have N:∀k,k≠F.L+1+j->k<gs.size->∀a,(d k).r a->a≠je F (F.a<|j+r*F.n):=λk W Fv a s e=>C.h _ _ Fv D W a s (by rw[e];exact À I4);refine⟨λk W a s=> ?_,λx c v a s=>K _ _ (L.o x c v a s) (N 0 (by have:=H.C.r;omega) (by have:=p.b;have:=H.C.r;omega) a<|L.o x c v a s),λh=>⟨X _ _ (L.ln h).1,λb t=>by rw[(M 0).1];exact(L.ln h).2 b t⟩,λh k c v=> ?_,λh B=>⟨X _ _ (L.f h B).1,λb t=>by rw[(M _).1];exact(L.f h B).2 b t⟩,λl o B m y c=> ?_,λl o B=>⟨X _ _ (L.l l o B).1,λb t=>by rw[(M _).1];exact(L.l l o B).2 b t⟩,λx Ac=>by rw[gB d _<|nb _<|L.S x Ac];exact L.S x Ac,λk W=>by rw[(M k).2.2];exact L.M k W,λk c v=>by rw[gB d _<|nb _<|L.c k c v];exact L.c k c v,λk W b t=>⟨(L.I k W b t).1,(L.I k W b t).2.1,λi z=>by rw[(M i).2.1];exact(L.I k W b t).2.2 i z⟩,λk W i z h=>L.N k W i z<|J _ _ h,λk c v i z h=>L.g k c v i z<|J _ _ h,λl o m y c i z h=> ?_⟩
  .by_cases e:k=F.L+1+j
   .subst e;rw[gO]at s;rcases s with q|q|q
    .exact L.gN _ D a<|À q.1
    .exact L.gN _ D a<|Á q
    .exact Á ⟨_,H.C.Y.2 _ (by assumption),q⟩
   .rw[gB d _ e]at s;exact L.gN k W a s
  .have Q:F.L<gs.size:=by have:=p.b;have:0<E.r:=h;omega
   have:=L.e h k c v;exact⟨K _ _ this.1<|N _ Z Q _ this.1,K _ _ this.2<|N _ Z Q _ this.2⟩
  .by_cases e:l=j
   .subst e;rw[jD]at c;simp only[gG.kl]at c;refine K _ _ (L.h l o B m y<|by rw[u];simp only[gG.kl];omega) λq=> ?_;have Q:=H.C.a _ _ y n8 (by injection q);have T:m*F.n=r*F.n:=Z
    have:=Nat.eq_of_mul_eq_mul_right H.C.N T;omega
   .rw[iH _ e]at c;have q:=L.h l o B m y c;have vU:l+2<=E.r:=o;exact K _ _ q<|N _ Z (by have:=p.b;omega) _ q
  .by_cases e:l=j
   .subst e;rw[jD]at c;simp only[gG.kl]at c;by_cases Q:m=r
    .subst Q;by_cases T:i=F.L+1+l
     .subst T;rw[gO]at h;exact h.2 U
     .exact N i T z _ (J _ _ h) U
    .exact L.d l o m y (by rw[u];simp only[gG.kl];omega) i z<|J _ _ h
   .rw[iH _ e]at c;exact L.d l o m y c i z<|J _ _ h
 .have W:=p.M;refine⟨W.C,W.I,λl o=> ?_,W.M,W.S,λl o m y c=> ?_⟩
  .by_cases e:l=j
   .subst e;have:=W.jw l o;rw[u]at this;rw[jD];exact this
   .rw[iH _ e];exact W.jw l o
  .by_cases e:l=j
   .subst e;rw[jD]at c;simp only[gG.kl]at c;by_cases Q:m=r
    .subst Q;exact hcell
    .exact W.N l o m y<|by rw[u];simp only[gG.kl];omega
   .rw[iH _ e]at c;exact W.N l o m y c
 .rcases h with⟨_,h⟩|h|h<;>cases h
 .rcases h with h|h|h<;>cases h
 .rw[u];simp only[gG.rk];have e:F.q+3-r=(F.q+3-(r+1))+1:=Z
  rw[e,ł];omega
end
def afB{α:Type}(f:Nat->α)(i:Nat)(x y:α):ft (ft f i x) i y=ft f i y:=by funext k;unfold ft;split<;>rfl
section
variable{F:Ph}{E E':fO F}{S:Nat->Jd}{tr o:Nat->gk}{d:Nat->il}{lot:Nat->e7}{gs gs':Array Ä}{u:ä}{sl:Option (Nat×Nat)}{sz:Nat}
def pb{r:Nat}{a:Bool}(h:b≠i):(w.setChan i n q yQ j r a).heap[b]?=w.heap[b]?:=by unfold World.setChan;exact í<|ÿ h
def I6{r:Nat}{a:Bool}(h:i<w.heap.size):(w.setChan i n q yQ j r a).heap[i]?=Ã (.chan n q yQ j r a):=by unfold World.setChan;simp[h]
def Fw{r:Nat}{a:Bool}:(w.setChan i n q yQ j r a).heap.size=w.heap.size:=by unfold World.setChan;simp
def afC(f:Ps F E)(c:j+2<=E.r){cap s r:Nat}{buf:Array ã}{cl tm:Bool}:Fg F E lot sz w (w.setChan (E.I j) cap buf cl s r tm):=by
 let⟨g,d,_⟩:=f.o j c;refine⟨Ô Fw.symm,λb _ h _=>pb λe=>h<|Á<|Á ⟨j,c,e⟩,λa i _=>gF (pb λe=> ?_),vI (pb λe=>d e.symm),U,U⟩;rcases i with⟨k,l,rfl⟩|⟨p,rfl⟩
 .exact g<|Á ⟨k,l,e.symm⟩
 .exact d e.symm
def Wv(a:Ps F E)(c:j+2<=E.r){cap s r:Nat}{buf:Array ã}{cl tm:Bool}(d:F.M b){G:GS}(h:gU w b G):gU (w.setChan (E.I j) cap buf cl s r tm) b G:=by have e:b≠E.I j:=λe=>(a.o j c).1<|e▸d;exact h.uJ (gF<|pb e) (gF<|pb e) (vK<|pb e)<|vK<|pb e
def Wd.G(W:Wd F E w)(H:gM F)(L:iA F E lot sz w)(g:Ps F E)(h:j+2<=E.r){cap s r:Nat}{buf:Array ã}{cl tm:Bool}: (∀k,k<=E.S.md->mL F k (E.c k)/\F.d k (E.c k) (E.V k) (w.setChan (E.I j) cap buf cl s r tm))/\(∀k,1<=k->k<=E.S.md->(w.setChan (E.I j) cap buf cl s r tm).cell? (je F (F.b k))=Ã (.string (F.o k)))/\(∀c,c+2<=E.r->∀d,c+d*F.n<F.q->d<(E.C c).kl->(w.setChan (E.I j) cap buf cl s r tm).cell? (je F (F.a (c+d*F.n)))=Ã (.string (F.k (c+d*F.n))))/\gU (w.setChan (E.I j) cap buf cl s r tm) F.C E.b/\(∀k,k<=F.m->gU (w.setChan (E.I j) cap buf cl s r tm) (F.I k) (E.a k)):=by have e:=afC (lot:=lot) (sz:=sz) (w:=w) g h (cap:=cap) (s:=s) (r:=r) (buf:=buf) (cl:=cl) (tm:=tm);refine⟨λk a=>⟨(W.M k a).1,H.S _ _ _ _ _ (W.M k a).2 (λb f=>e.C b (L.I k a b f).1 (L.I k a b f).2.1 (L.I k a b f).2.2) (e.r _ (À ⟨k,Ø a (IX g),U⟩) (L.N k a)) (e.r _ (Á ⟨_,U⟩) (L.Nv H.C)) e.I e.M⟩,λk b f=>(e.r _ (Á ⟨_,U⟩) (L.g k b f)).trans (W.S k b f),λc b d f i=>(e.r _ (Á ⟨_,U⟩) (L.d c b d f i)).trans (W.N c b d f i),Wv g h (À U) W.C,λk a=>Wv g h (Á ⟨k,a,U⟩) (W.I k a)⟩
def iA.Cx(L:iA F E lot sz w)(h:w.heap.size<=W.heap.size):iA F E lot sz W:= ⟨L.gN,L.o,L.ln,L.e,L.f,L.h,L.l,L.S,L.M,L.c,λk a b c=>⟨Ê (L.I k a b c).1 h,(L.I k a b c).2⟩,L.N,L.g,L.d⟩
def I7(c:TI F.toFx i zX E.r E.S.rl E.V E.e E.d E.ie E.f qJ)(h:vN u):TI F.toFx i zX E.r E.S.rl E.V E.e E.d E.ie E.f (qJ++u):= c.C<|xL (λa b=>(h a b).1) λa b _ _=>(h a b).2 _
def gP(E:fO F)(x:Nat)(e:gZ):fO F:={E with N:=ft E.N x (Ã e)}
theorem pW.G(h:pW F E S tr d)(ok:F.Ok){x:Nat}{e:gZ}{T:gk}(m:(∃N,e=.jh N)->T=.fv):pW F (fw.gP E x e) (ft S (F.L+x)<|JE F e) (ft tr (F.L+x) T) (ft d (F.L+x) .no):=by
 have:=ok.r;have c:∀y,y≠x->(fw.gP E x e).N y=E.N y:=λy k=>fD _ _ k;have g:(fw.gP E x e).N x=Ã e:=gy _ _ _;refine⟨by rw[fD S _ Z,fD d _ Z];exact h.M,λb a=> ?_,λj b a=> ?_,λy l b a=> ?_,λi b a=>by rw[fD S _ Z,fD d _ Z,fD tr _ Z];exact h.r i b a⟩
 .have f:x≠0:=λq=>by subst q;rw[g]at a;cases a
  rw[c 0<|ÿ f]at a;rw[fD S _ Z,fD d _ Z];exact h.Y b a
 .have f:x≠j+1:=λq=>by subst q;rw[g]at a;cases a
  rw[c _<|ÿ f]at a;rw[fD S _ Z,fD d _ Z];exact h.I j b a
 .by_cases q:y=x
  .grind [gy]
  .rw[c y q]at a;rw[fD S _ Z,fD d _ Z,fD tr _ Z];exact h.C y l b a
def qD(F:Ph)(E:fO F)(x:Nat):Nat×Nat:=match E.N x with
 |some e=>e.rk F
 |none=>if x=0 then(E.S.rk F,0)else((E.C<|x-1).rk F,0)
def afD(ok:F.Ok)(x:Nat):E.iM tr (F.L+x)=((qD F E x).1,(qD F E x).2,tr<|F.L+x):=by
 have:=ok.r;unfold qD;cases a:E.N x with
 |some e=>rw[I0 ok a]
 |none=>
  cases x with
  |zero=>rw[ó,Wi ok a];simp
  |succ j=>rw[show F.L+(j+1)=F.L+1+j by omega,sS ok a];simp
def Cy(ok:F.Ok){x:Nat}{e:gZ}{T:gk}(b:F.L+x<F.N)(h:(e.rk F).1<(qD F E x).1\/((e.rk F).1=(qD F E x).1/\(e.rk F).2<(qD F E x).2)):oH F.N ((fw.gP E x e).mu (ft tr (F.L+x) T) gs') (E.mu tr gs):=by
 refine Fi b ?_ λk c=>xN (λ_=>rfl) (λ_ _=>rfl) (λa=>fD _ _ Z) (λ_ _=>rfl) (λ_ _=>rfl)<|fD tr _ c;rw[I0 ok (E:=fw.gP E x e)<|gy _ _ _,afD ok];rcases h with h|⟨a,d⟩
 .exact À h
 .exact Á ⟨a,À d⟩
def afE{e:gZ}(h:e.kB=lH (E.N i))(y:Nat):(fw.gP E i e).G y=E.G y:=by
 unfold fO.G;by_cases q:y=i
 .subst q;show(if y<E.M.ad F.n then lH (ft E.N y (Ã e) y)else 0)=_;rw[gy];show(if y<E.M.ad F.n then e.kB else 0)=_;rw[h]
 .show(if y<E.M.ad F.n then lH (ft E.N i (Ã e) y)else 0)=_;rw[fD _ _ q]
def afF{e:gZ}(h:e.kB=lH (E.N i)):Ñ (F.n+1) (fw.gP E i e).G=Ñ (F.n+1) E.G:=Ł λy _=>afE h y
theorem Ps.gP(h:Ps F E){x:Nat}{e:gZ}(J:x<E.r)(v:e.kB=lH (E.N x))(w:∀p,E.N x=Ã (.fV p)->∀W,p≠ .gq W/\p≠ .iV W/\p≠ .im W)(K:∀p,e=.fV p->∀W,p≠ .gq W/\p≠ .iV W/\p≠ .im W) (z:∀j,x=j+1->j<E.M.iY F.n/\∃r,E.C j=.mK r/\∀i,j+i*F.n<F.q->i<r) (B:x=0->E.S=.kA F.m):Ps F (fw.gP E x e):=by
 have b:∀y,y≠x->(fw.gP E x e).N y=E.N y:=λy a=>fD _ _ a;have L:(fw.gP E x e).N x=Ã e:=gy _ _ _;have g:=afF (E:=E) v;refine⟨h.v,h.C,h.K,h.L,h.J,h.I,h.z,h.d,λj C d=> ?_,λd=> ?_,λy a=> ?_,h.M,h.o,λc k f=>by rw[g];exact h.t c k f,λk f=> ?_,λr s f=> ?_,λy p a=> ?_,λD=>by rw[g];exact h.B D,h.e,h.Y,h.w,h.H,h.O,h.S,h.y,h.D⟩
 .by_cases q:j+1=x
  .exact z j q.symm
  .rw[b _ q]at d;exact h.l j C d
 .by_cases q:0=x
  .exact B q.symm
  .rw[b _ q]at d;exact h.f d
 .have:E.r<=y:=a;rw[b y Z];exact h.h y a
 .rw[g];let⟨l,o,y,t,u,G⟩:=h.g k f;refine⟨l,o,y,t,u,?_⟩;grind
 .rw[g];let⟨l,o,t⟩:=h.u r s f;refine⟨l,o,λG=> ?_⟩;let⟨y,H,I,u⟩:=t G;have:y≠x:=λq=>by subst q;exact(w _ u r).2.2 U
  exact⟨y,H,I,by rwa[b y this]⟩
 .by_cases q:y=x
  .grind
  .rw[b y q]at a;exact h.N y p a
theorem Ww{x:Nat}{e:gZ}(h:i≠x):(fw.gP E x e).ie i↔E.ie i:=by unfold fO.ie;show(∃a,ft E.N x (Ã e) i=Ã a/\a.ie)↔_;rw[fD _ _ h]
theorem afG{e:gZ}:(fw.gP E i e).ie i↔e.ie:=by unfold fO.ie;show(∃a,ft E.N i (Ã e) i=Ã a/\a.ie)↔_;rw[gy];grind
theorem afH{e:gZ}(h:e.ie↔E.ie i)(y:Nat):(fw.gP E i e).ie y↔E.ie y:=by grind [afG,Ww]
theorem Wx{e:gZ}(h:e.nH↔E.nH i)(y:Nat):(fw.gP E i e).nH y↔E.nH y:=by unfold fO.nH at h|-;show(∃a,ft E.N i (Ã e) y=Ã a/\a.nH)↔_;grind [gy,fD]
theorem iA.gP(L:iA F E lot sz w){x:Nat}{e:gZ}(h:e.nH↔E.nH x):iA F (fw.gP E x e) lot sz w:=by
 have d:∀y,(fw.gP E x e).N y=Í->E.N y=Í:=λy c=>by
  by_cases q:y=x
  .subst q;have:ft E.N y (Ã e) y=Í:=c;grind [gy]
  .have:ft E.N x (Ã e) y=Í:=c;grind [fD]
 exact⟨L.gN,L.o,L.ln,L.e,λa b=>L.f a<|d _ b,λj a b=>L.h j a<|d _ b,λj a b=>L.l j a<|d _ b,λy c=>L.S y<|(Wx h y).1 c,λi f=>L.M i (f.imp id λ⟨y,a,b,g⟩=>⟨y,a,b,λq=>g<|(Wx h y).2 q⟩),L.c,L.I,L.N,L.g,L.d⟩
def Wd.gP(W:Wd F E w){x:Nat}{e:gZ}:Wd F (fw.gP E x e) w:=⟨W.C,W.I,W.jw,W.M,W.S,W.N⟩
def TI.G(a:TI F.toFx i zX E.r E.S.rl E.V E.e E.d E.ie E.f qJ){x:Nat}{e:gZ}(h:e.ie↔E.ie x):TI F.toFx i zX (fw.gP E x e).r (fw.gP E x e).S.rl (fw.gP E x e).V (fw.gP E x e).e (fw.gP E x e).d (fw.gP E x e).ie (fw.gP E x e).f qJ:= {a with r:=λy b c=>a.r y b ((afH h y).1 c)}
def PI.afI(H:gM F)(p:PI F i zX E S tr d lot gs w qJ){r:Nat}(t:j+2<=E.r)(o:E.N (j+1)=Í)(M:gs[F.L+1+j]?=Ã g)(iD:g.status=Å)(ht:tr (F.L+1+j)=.fv)(C:E.C j=.mK r):jP F i zX E tr gs w qJ sl (F.L+1+j):=by
 have vS:=p.G<|iI M;obtain⟨sV,rK⟩:=p.g j t o;rw[C]at sV rK;have NM:S (F.L+1+j)=vL F.P (F.L+1+j==0) (E.I j) F.z λx=>match x with
  |some v=>λl g=>v=F.c (j+r*F.n)->pV F.P É F.B (F.I<|F.r<|j+r*F.n) (F.e (E.I j)<|j+r*F.n) .iR l g
  |none=>zS F:=by rwa[xR H.C j]
 have hY:E.Y (E.I j):=Á<|Á ⟨j,t,U⟩;obtain⟨buf,s,D,sW,Wy,xT,xU⟩:=p.M.jw j t;rw[C]at D Wy xT xU;simp only[gG.iG]at D Wy xT xU;have Cz:=(p.I.r).N _ hY;by_cases zZ:r<s
 .have Ad:=xU 0 Z;rw[ó]at Ad;have n8:j+r*F.n<F.q:=by
   have:=(sW r).1 zZ;have:E.M.lW F.q<=F.q:=by cases E.M<;>simp only[fR.lW]<;>omega
   omega
  obtain⟨gs',u,T,g',O,f,Q,V,I,W,q7⟩:=p.I.mK M iD rK ht NM hY D Ad<|kW F (E.I j)<|.fu r .iR;have q8:=q7.kA (λl g h=>by rw[gy]at h;exact h U);rw[afB]at q8;obtain⟨z1,z2,z3,z4,z5⟩:=p.M.G H p.a p.C t;refine⟨gK E j<|.fu r .iR,_,_,_,_,gs',_,u,O,f,λh=>h,.r (p.N.N H.C t o) (f.trans p.b) q8 ?_ ⟨z4,z5,λv m=> ?_,z1,z2,λv m c oy a=> ?_⟩ (p.C.G t o (λk=>by rw[C,NG U];rfl) (λc h=> ?_) (λc h=> ?_) (λc h=>by cases h) λc h=>by cases h) (I7 p.d W) (λk y b G=> ?_) λv c a1 J a3=> ?_,Cp H.C vS o ?_⟩
  .rw[f];exact((p.a.r<|by rw[C];rfl).Cx<|Ô Fw.symm)
  .by_cases e:v=j
   .subst e;rw[jD];refine⟨buf.extract 1 buf.size,s,I6 Cz,sW,zZ,by rw[Array.size_extract];simp only[gG.iG];omega,λl kT=> ?_⟩;simp only[gG.iG]at kT|-;rw[Array.getElem?_extract];rw[if_pos Z];have:=xU (1+l) Z;rw[this,show r+(1+l)=r+1+l by omega]
   .rw[iH _ e];obtain⟨K,X,y1,y2⟩:=p.M.jw v m;refine⟨K,X,?_,y2⟩;show(w.setChan (E.I j) _ _ _ _ _ _).heap[E.I v]?=_;rwa[pb λq=>e<|p.C.M _ _ m t q]
  .by_cases e:v=j
   .subst e;rw[jD]at a;exact z3 v m c oy<|by rwa[C]
   .rw[iH _ e]at a;exact z3 v m c oy a
  .rcases h with⟨_,h⟩|h|h<;>cases h;exact n8
  .rcases h with h|h|h<;>cases h
  .by_cases e:k=F.L+1+j
   .subst e;rw[Q]at b;obtain rfl:=È b;rw[V]at G;cases G
   .rw[I k e]at b;rcases p.c k y b G with a|⟨v,m,xV,K,X|⟨r1,cap,s1,c,X,h4⟩⟩
    .exact À a
    .exact Á ⟨v,m,xV,K,À<|by rwa[iH _ Z]⟩
    .have e2:v≠j:=Z
     exact Á ⟨v,m,xV,K,Á ⟨r1,cap,s1,c,by rwa[iH _ e2],by show(w.setChan (E.I j) _ _ _ _ _ _).heap[E.I v]?=_;rwa[pb λq=>e2<|p.C.M _ _ m t q]⟩⟩
  .rw[iH _ (λe=>by subst e;rw[jD]at J;cases J)]at J;exact(p.f v c a1 J a3).app u
  .rw[C];simp only[gG.rk,ji.rk];have hm:F.n+3000<=(F.n+3000)*(F.q+3-r):=â _ (by
    have:r*1<=r*F.n:=ï _ H.C.N;omega)
   omega
 .have NN:buf=#[]:=Array.size_eq_zero_iff.1 Z;subst NN;have afJ:r=s:=Z
  by_cases o5:j<E.M.iY F.n
  .rw[show decide (j<E.M.iY F.n)=Ì by simpa using o5]at D;obtain⟨gs',u,T,g',O,f,Q,V,I,W,q7⟩:=p.I.iY (sl:=sl) M iD rK ht NM hY D .no;have Wz:F.L+1+j=F.L+(j+1):=Z
   have Fy:E.M.lW F.q=F.q:=by revert o5;cases E.M<;>simp only[fR.iY,fR.lW]<;>intro h<;>first|trivial|omega
   have NO:¬E.ie (j+1):=λ⟨e,a,_⟩=>by rw[o]at a;cases a
   have NP:gZ.ie .n5↔E.ie (j+1):=⟨λh=>h.elim,λh=>(NO h).elim⟩;refine⟨fw.gP E (j+1) .n5,_,_,_,_,gs',w,u,O,f,λh=>h,.r (p.N.G H.C λ⟨N,h⟩=>by cases h) (f.trans p.b) (by rwa[<-Wz]) (by rw[f];exact p.a.gP ⟨λh=>h.elim,λ⟨e,a,_⟩=>by rw[o]at a;cases a⟩) p.M.gP (p.C.gP Z (by rw[o];rfl) (λp' h=>by rw[o]at h;cases h) (λp' h=>by cases h) (λv h=> ?_) λh=>by omega) ((I7 p.d W).G NP) (λk y b G=> ?_) λv c a1 J a3=>(p.f v c a1 J a3).app u,Cy H.C (by rwa[<-Wz])<|À ?_⟩
   .have:v=j:=Z
    subst this;exact⟨o5,r,C,λl kT=>by rw[afJ];exact(sW l).2<|by rwa[Fy]⟩
   .by_cases e:k=F.L+1+j
    .subst e;rw[Q]at b;obtain rfl:=È b;rw[V]at G;cases G
    .rw[I k e]at b;have l:∀v,F.L+1+v=k->(fw.gP E (j+1) .n5).N (v+1)=E.N (v+1):=λv h=>fD _ _ Z;rcases p.c k y b G with a|⟨v,m,xV,K,X⟩
     .exact À a
     .exact Á ⟨v,m,by rwa[l v K.symm],K,X⟩
   .unfold qD;rw[o];simp only[gZ.rk];rw[if_neg Z,Nat.add_sub_cancel,C];simp only[gG.rk];have hm:F.n+3000<=(F.n+3000)*(F.q+3-r):=â _ (by
     have a:=H.C.N;rcases Nat.eq_zero_or_pos r with l|l
     .omega
     .have K:=(sW (r-1)).1 Z;have:(r-1)*1<=(r-1)*F.n:=ï _ a;omega)
    omega
  .rw[show decide (j<E.M.iY F.n)=É by simpa using o5]at D;obtain⟨gs',g',O,f,Q,V,I,W⟩:=p.I.aeT M iD rK ht NM D;refine⟨E,S,tr,d,lot,gs',w,#[],O,f,λh=>h,.r p.N (f.trans p.b) (by rwa[Ú]) (by rw[f];exact p.a) p.M p.C (by rw[Ú];exact p.d) (λk y b l=> ?_) (by rw[Ú];exact p.f),Nz (λ_ _=>rfl) vS (by rw[Cv M,if_pos iD]) (by rw[Cv Q,if_neg (by rw[V];simp)]) λk b=>NJ<|I k b⟩;by_cases e:k=F.L+1+j
   .subst e;exact Á ⟨j,t,o,U,Á ⟨r,F.q,s,r,C,D⟩⟩
   .rw[I k e]at b;exact p.c k y b l
end
section
variable{F:Ph}{E E':fO F}{S:Nat->Jd}{tr v:Nat->gk}{m:Nat->il}{f:Nat->e7}{gs gs':Array Ä}{u:ä}{o:Option (Nat×Nat)}
def Ae(ok:F.Ok)(x:Nat):(F.L+x==0)=É:=by have:=ok.r;simp;omega
def Fz(a:i<E.r):xO E (F.L+i):=Á ⟨i,a,U⟩
def PI.Af(p:PI F n zX E S tr m f gs w qJ){x:Nat}{e:gZ}(b:x<E.r)(c:E.N x=Ã e)(d:gs[F.L+x]?=Ã g)(h:g.status=Å)(i:tr (F.L+x)=.fv):∀a,fE (f<|F.L+x) (f<|F.L+x).w a->JE F e {f (F.L+x)with w:=a} g:=by let⟨k,j,_⟩:=p.k x e b c;intro a r;have:=p.I.N d h i (À j) a r;simp_all
theorem NQ(B:fe F E gs w){x:Nat}{e:gZ}(c:∀k y,gs[k]?=Ã y->y.status=Ü->k≠F.L+x):fe F (fw.gP E x e) gs w:=by
 intro k y a b;have h:=c k y a b;rcases B k y a b with h1|⟨j,d,i,f,g⟩
 .exact À h1
 .refine Á ⟨j,d,?_,f,g⟩;show ft E.N x (Ã e) (j+1)=Í;grind [fD]
theorem PI.afK(H:gM F)(p:PI F n zX E S tr m f gs w qJ)(V:J<E.r)(s:E.N J=Ã .n5)(D:gs[F.L+J]?=Ã g)(X:g.status=Å)(ht:tr (F.L+J)=.fv):qC F n zX E tr gs w qJ:=by
 have G:=iI D;have C:=p.I.r;have NO:¬E.ie J:=λ⟨e,c,d⟩=>by rw[s]at c;cases c;exact d
 have NP:gZ.ie (.fV .jr)↔E.ie J:=⟨λh=>h.elim,λh=>(NO h).elim⟩;have xS:iL F.S (λi=>i<gs.size) E.Y (gi f (F.L+J)<|kj {f (F.L+J)with w:=w}) w qJ:= C.C G (λ_ q=>q.elim) (λ_ q=>q.elim) (λ_ q=>q.elim) (λ_ q=>q.elim) U U U (λ_ q=>q.elim) λ_ q=>q.elim;have hF:kJ F.P (F.L+J==0) (JE F<|.fV .jr) .fv (kj {f (F.L+J)with w:=w}) g:=by rw[Ae H.C J];intro l T;let⟨W,a,b,j,k⟩:=p.Af V s D X ht w<|C.r _ G;exact⟨W,a,b,j,k.jO T⟩
 refine⟨fw.gP E J<|.fV .jr,_,_,_,_,λh=>h,.r (p.N.G H.C λ⟨N,h⟩=>by cases h) p.b (p.I.M (K:=.no) D (À X) xS hF) ?_ p.M.gP (p.C.gP V (by rw[s];rfl) (λT h=>by rw[s]at h;cases h) (λT h W=>by cases h;exact⟨fh,fh,fh⟩) (λj h=> ?_) λh=>(p.C.f<|by rw[<-h,s];simp)) (p.d.G NP) (NQ p.c λk y W z e=> ?_) p.f,Cy H.C (p.G G)<|À ?_⟩
 .have L:=p.a;have B:(gi f (F.L+J)<|kj {f (F.L+J)with w:=w}) (F.L+J)=kj {f (F.L+J)with w:=w}:=gO _ _ _;have l:∀k,k≠F.L+J->(gi f (F.L+J)<|kj {f (F.L+J)with w:=w}) k=f k:=λk W=>gB f _ W;have h0:(0:Nat)≠F.L+J:=by have:=H.C.r;omega
  have I:∀k a,(gi f (F.L+J) (kj {f (F.L+J)with w:=w}) k).r a->(f k).r a:=λk a h=>by
   by_cases q:k=F.L+J
   .subst q;rw[B]at h;exact h.elim
   .grind
  have sO:∀k a,(gi f (F.L+J) (kj {f (F.L+J)with w:=w}) k).O a->(f k).O a:=λk a h=>by
   by_cases q:k=F.L+J
   .subst q;rw[B]at h;exact h.elim
   .grind
  have ee:(fw.gP E J<|.fV .jr).N J=Ã (.fV .jr):=gy _ _ _;have v:∀y,y≠J->(fw.gP E J<|.fV .jr).N y=E.N y:=λy M=>fD _ _ M;refine⟨λk W a u=> ?_,λy c d a u=>by rw[l 0 h0];exact L.o y c d a u,λh=>by rw[l 0 h0];exact L.ln h,λh k c d=> ?_,λc d=> ?_,λj c d r t Q=> ?_,λj c d=> ?_,λy M=> ?_,λi o=> ?_,λk c d=>by rw[l k Z];exact L.c k c d,λk W b z=>⟨(L.I k W b z).1,(L.I k W b z).2.1,λi o h=>(L.I k W b z).2.2 i o<|sO _ _ h⟩,λk W i o h=>L.N k W i o<|I _ _ h,λk c d i o h=>L.g k c d i o<|I _ _ h,λj c r d t i o h=>L.d j c r d t i o<|I _ _ h⟩
  .by_cases q:k=F.L+J
   .subst q;rw[B]at u;rcases u with h|h<;>exact h.elim
   .rw[l k q]at u;exact L.gN k W a u
  .by_cases q:F.L=F.L+J
   .have WA:J=0:=Z
    subst WA;have:=p.C.f (by rw[s];simp);have T:E.S.md<k:=c;rw[this]at T;simp only[jk.md]at T;omega
   .rw[l _ q];exact L.e h k c d
  .by_cases q:F.L=F.L+J
   .grind
   .rw[l _ q];exact L.f c<|by rwa[<-v 0 Z]
  .by_cases q:F.L+1+j=F.L+J
   .grind
   .rw[l _ q];exact L.h j c (by rwa[<-v (j+1) Z]) r t Q
  .by_cases q:F.L+1+j=F.L+J
   .grind
   .rw[l _ q];exact L.l j c<|by rwa[<-v (j+1) Z]
  .by_cases q:F.L+y=F.L+J
   .rw[q,B];rfl
   .rw[l _ q];exact L.S y (by let⟨T,c,d⟩:=M;exact⟨T,by rwa[<-v y Z],d⟩)
  .by_cases q:i=F.L+J
   .subst q;rcases o with q|⟨y,c,d,t⟩
    .grind
    .have:y=J:=Z
     subst this;exact absurd ⟨_,ee,trivial⟩ t
   .rw[l _ q];refine L.M i<|o.imp id λ⟨y,c,d,t⟩=>⟨y,c,d,λ⟨T,Q,h5⟩=>t ⟨T,by rwa[v y Z],h5⟩⟩
 .have:=p.C.l j Z (by rw[<-h,s];simp);exact this
 .grind
 .unfold qD;rw[s];simp only[gZ.rk,jv.rk];omega
def Ag(E:fO F)(x:Nat)(e:gZ)(G:GS)(a:Option Nat):fO F:={fw.gP E x e with b:=G,g:=a}
theorem Ps.FA(h:Ps F E){e:gZ}{G:GS}{la:Option Nat}(v:i<E.r)(D:∃w,E.N i=Ã w)(O:∀y,y≠i->∀p,E.N y=Ã (.fV p)->∀W,p≠ .gq W/\p≠ .iV W/\p≠ .im W) (H:∀c d,G=.cl c d->c=Ñ (F.n+1) (fw.gP E i e).G/\d=E.M.gw) (I:∀d,G=.ju d->Ñ (F.n+1) (fw.gP E i e).G=0/\d=E.M.gw/\la=Ã i/\(e=.fV (.gq d)\/e=.fV (.iV d))) (J:∀r s,G=.gR r s->Ñ (F.n+1) (fw.gP E i e).G=0/\r+s=E.M.gw/\(0<r->la=Ã i/\e=.fV (.im r))) (K:∀p,e=.fV p->(∀W,p=.gq W\/p=.iV W->la=Ã i/\G=.ju W)/\(∀r,p=.im r->0<r/\la=Ã i/\∃s,G=.gR r s)) (L:E.M=.fu .gq\/E.M=.fu .kK\/E.M=.fV->Ñ (F.n+1) (fw.gP E i e).G=0) (M:E.M=.fu .gq->∃a b,G=.gR a b) (N:(∀p,E.M≠ .fu p)->E.M≠ .fV->∃c,G=.cl c 0):Ps F (Ag E i e G la):=by
 have l:∀y,y≠i->(Ag E i e G la).N y=E.N y:=λy f=>fD _ _ f;have m:(Ag E i e G la).N i=Ã e:=gy _ _ _;let⟨w,z⟩:=D;refine⟨h.v,h.C,h.K,h.L,h.J,h.I,h.z,h.d,λj B g=> ?_,λg=> ?_,λy f=> ?_,h.M,h.o,H,λd o=> ?_,λr s o=> ?_,λy p f=> ?_,L,h.e,h.Y,h.w,h.H,M,N,h.y,h.D⟩
 .by_cases q:j+1=i
  .exact h.l j B<|by rw[q,z];simp
  .rw[l _ q]at g;exact h.l j B g
 .by_cases q:0=i
  .exact h.f<|by rw[q,z];simp
  .rw[l _ q]at g;exact h.f g
 .have:E.r<=y:=f;rw[l y Z];exact h.h y f
 .let⟨t,u,k,C⟩:=I d o;exact⟨t,u,i,v,k,by rw[m];exact C.imp (λq=>by rw[q]) λq=>by rw[q]⟩
 .let⟨t,u,k⟩:=J r s o;exact⟨t,u,λC=>⟨i,v,(k C).1,by rw[m,(k C).2]⟩⟩
 .by_cases q:y=i
  .subst q;rw[m]at f;exact K p<|È f
  .grind
def afL{G:GS}(a:gU W F.C G)(h:Wd F {E with b:=G,a:=E.a} W){x:Nat}{e:gZ}{b:Option Nat}:Wd F (Ag E x e G b) W:=⟨a,h.I,h.jw,h.M,h.S,h.N⟩
theorem PI.FB(H:gM F)(p:PI F n zX E S tr m f gs w qJ){x:Nat}{a e:gZ}{G:GS}{la:Option Nat}{c:Ä}{T:gk}(hx:x<E.r)(d:E.N x=Ã a)(t:a.ie)(I:e.ie)(J:e.nH)(v:gs[F.L+x]?=Ã g)(z:km F.C w W)(B:gU W F.C G)(K:Ŏ F.P (ð gs w o) (F.L+x)=(ğ<|ð gs' W o,u))(C:gs'.size=gs.size)(M:gs'[F.L+x]?=Ã c)(O:c.status=Å\/c.status=å)(Q:∀k,k≠F.L+x->gs'[k]?=gs[k]?.map (Ā F.P g c W)) (X:gE F.P F.S E.Y (ft S (F.L+x)<|JE F e) (ft tr (F.L+x) T) (ft m (F.L+x) .no) (gi f (F.L+x) {f (F.L+x)with w:=W}) gs' W (qJ++u)) (q6:TI F.toFx n zX E.r E.S.rl E.V E.e E.d E.ie E.f (qJ++u)) (q7:iA F E (gi f (F.L+x) {f (F.L+x)with w:=W}) gs'.size W) (hT:(∃N,e=.jh N)->T=.fv) (hP:Ps F (Ag E x e G la)) (WB:(e.rk F).1<(a.rk F).1\/((e.rk F).1=(a.rk F).1/\(e.rk F).2<(a.rk F).2)) (Ft:E.M=.fu .ki->E.b.sm=0->G.sm=0\/∀y,gs'[0]?=Ã y->y.status≠Ü):jP F n zX E tr gs w qJ o (F.L+x):=by
 have D:F.M F.C:=À U;refine⟨Ag E x e G la,_,_,_,_,gs',W,u,K,C,λh=>h,.r ?_ (C.trans p.b) X ?_ (afL B<|z.I H p.a p.C p.M D ⟨λ_=>B,λq=>absurd U q⟩ λk b=>⟨λq=>absurd q.symm<|H.C.M k b,λ_=>rfl⟩) hP (q6.G<|⟨λ_=>⟨a,d,t⟩,λ_=>I⟩) ?_ λj r b l s=>(p.f j r b l s).app u,?_⟩
 .have:=p.N.G (x:=x) H.C hT;exact⟨this.M,this.Y,this.I,this.C,this.r⟩
 .have:=q7.gP (⟨λ_=>Wb ⟨a,d,t⟩,λ_=>J⟩);exact⟨this.gN,this.o,this.ln,this.e,this.f,this.h,this.l,this.S,this.M,this.c,this.I,this.N,this.g,this.d⟩
 .refine p.c.pT (E':=Ag E x e G la) M (by rcases O with q|q<;>rw[q]<;>simp) Q (λj i=>z.C p.C D i) U U (λy i=>fD _ _ Z) (λ_=>rfl) (λ_ _=>rfl) (λ_ i j=>Ft i j) λ_ _ _ _ h=>À h
 .have j:qD F E x=a.rk F:=by unfold qD;rw[d]
  have:=Cy (E:=E) (tr:=tr) (gs:=gs) (gs':=gs') (T:=T) H.C (p.G<|iI v) (by rwa[j]);rcases this with⟨i,b,l,s⟩|⟨b,_⟩
  .exact À ⟨i,b,l,s⟩
  .exfalso;have:=b _<|p.G<|iI v;change(fw.gP E x e).iM (ft tr (F.L+x) T) (F.L+x)=E.iM tr (F.L+x)at this;rw[I0 H.C (E:=fw.gP E x e)<|gy _ _ _,I0 H.C d]at this;grind
theorem afM(h:V=#[kh<|fH F.C,mq<|fH F.C]\/V=#[kh<|fH F.C]\/V=#[mq<|fH F.C]\/V=õ (gQ F.C)):∀e∈V,∀b,(Ë e).touch?=Ã b->∃y:Č,b.loc=ú y/\y.block=F.C:=by
 intro e c b g;have:∃x:Č,x.block=F.C/\(e.loc=ú x\/e.loc=ŭ ô\/e.loc=ŭ î):=by
  rcases h with rfl|rfl|rfl|rfl
  .simp at c;rcases c with rfl|rfl<;>exact⟨fH F.C,U,À U⟩
  .simp at c;subst c;exact⟨fH F.C,U,À U⟩
  .simp at c;subst c;exact⟨fH F.C,U,À U⟩
  .simp[õ]at c;rcases c with rfl|rfl|rfl|rfl
   .exact⟨gQ F.C,U,Á<|À U⟩
   .exact⟨gQ F.C,U,À U⟩
   .exact⟨gQ F.C,U,À U⟩
   .exact⟨gQ F.C,U,Á<|Á U⟩
 let⟨x,i,a⟩:=this;let⟨j,d,f⟩:=e;rcases a with a|a|a
 .simp only at a;subst a;have:(Ë ⟨ú x,d,f⟩).touch?=Ã ⟨ú x,d,if f then .atomic else .plain⟩:=by cases d<;>cases f<;>rfl
  grind
 .simp only at a;subst a;simp[Ë,Ċ]at g
 .simp only at a;subst a;simp[Ë,Ċ]at g
def FC(p:PI F n zX E S tr m f gs w qJ)(a:F.L+i<gs.size)(c:(f<|F.L+i).d=1)(h:V=#[kh<|fH F.C,mq<|fH F.C]\/V=#[kh<|fH F.C]\/V=#[mq<|fH F.C]\/V=õ (gQ F.C)): ∀y,E.ie y->F.L+i=F.L+y->(∀e∈V,∀b,(Ë e).touch?=Ã b->∃y:Č,b.loc=ú y/\y.block=F.C)/\zV (κ qJ<|F.L+i) V:=by
 intro y _ _;refine⟨afM h,?_⟩;rw[p.I.r.f _ a,c];rcases h with rfl|rfl|rfl|rfl
 .exact I1.1
 .exact I1.2.1
 .exact I1.2.2.1
 .exact I1.2.2.2
def PI.afN(H:gM F)(p:PI F n zX E S tr m f gs w qJ){x:Nat}(i:x<E.r)(a:E.N x=Ã (.fV .jr))(k:gs[F.L+x]?=Ã g)(G:g.status=Å)(I:tr (F.L+x)=.fv):jP F n zX E tr gs w qJ o (F.L+x):=by
 have s:=iI k;have C:=p.I.r;let⟨J,_,g',c,d⟩:=p.Af i a k G I w<|C.r _ s;have t:=Ae H.C x;have u:∀y:Ă,y.act=ė (Į<|fH F.C)->y.act.touch?=Í:=λy b=>by rw[b];rfl
 let⟨T,K⟩:=jc d;have v:=kX (λl g h=>À h.2.1) d;obtain⟨gs',y,M,O,P,B,Q,V,X,Y⟩:=p.Ab H .no k (by rw[t];exact c w) fh fh (λy b=>⟨λz l=>(by rw[u y b]at l;cases l),by rw[b];exact C.N _<|À<|À U⟩) (λy _ b=>zM C.l λq j=>by rw[vT j];exact u y b) (by rwa[t]) v;have D:=p.d.ae5 i M O ((C.f _ s).trans J) (λ⟨e,c,d⟩=>by rw[a]at c;cases c;exact d);refine⟨{fw.gP E x (.fV .iy)with f:=ft E.f x qJ.size},_,_,_,_,gs',w,#[y],P,B,λh=>h,.r ?_ (B.trans p.b) X ?_ (⟨p.M.C,p.M.I,p.M.jw,p.M.M,p.M.S,p.M.N⟩) ?_ ?_ ?_ λj r q W a3=>(p.f j r q W a3).app _,Cy H.C (p.G s)<|À ?_⟩
 .have:=p.N.G (x:=x) (e:=.fV .iy) (T:=T) H.C (λ⟨N,h⟩=>by cases h);exact⟨this.M,this.Y,this.I,this.C,this.r⟩
 .have:=Y.gP (x:=x) (e:=.fV .iy) (⟨λ_=>⟨_,a,trivial⟩,λ_=>trivial⟩);exact⟨this.gN,this.o,this.ln,this.e,this.f,this.h,this.l,this.S,this.M,this.c,this.I,this.N,this.g,this.d⟩
 .have h:=p.C.gP (x:=x) (e:=.fV .iy) i (by rw[a];rfl) (λq h W=>by rw[a]at h;cases h;exact⟨fh,fh,fh⟩) (λq h W=>by cases h;exact⟨fh,fh,fh⟩) (λj h=>p.C.l j Z<|by rw[<-h,a];simp) (λh=>p.C.f<|by rw[<-h,a];simp);exact⟨h.v,h.C,h.K,h.L,h.J,h.I,h.z,h.d,h.l,h.f,h.h,h.M,h.o,h.t,h.g,h.u,h.N,h.B,h.e,h.Y,h.w,h.H,h.O,h.S,h.y,h.D⟩
 .refine{D with r:=λz l j=>D.r z l ?_};by_cases q:z=x
  .exact Á q
  .exact À<|(Ww q).1 j
 .refine p.c.pT (E':={fw.gP E x (.fV .iy)with f:=ft E.f x qJ.size}) Q (by rcases v with q|q<;>rw[q]<;>simp) V (λ_ _=>rfl) U U (λy b=>fD _ _ Z) (λ_=>rfl) (λ_ _=>rfl) (λ_ _ h=>À h) λ_ _ _ _ h=>À h
 .unfold qD;rw[a];simp only[gZ.rk,jv.rk];omega
end
section
variable{F:Ph}{E K:fO F}{S:Nat->Jd}{o M:Nat->gk}{G:Nat->il}{B:Nat->e7}{m J:Array Ä}{u:ä}{I:Option (Nat×Nat)}
def WC{N:Nat}{l:e7}(h:Ź P N l.d g):kJ P É (oG P N) .fv l g:=λ_ _=>h
def WE(a:Ps F E):E.r<=E.M.ad F.n:=by unfold fO.r;cases E.M<;>simp only[fR.sp,fR.ad]<;>omega
theorem FD(b:Ps F E){e:gZ}(d:i<E.r):Ñ (F.n+1) (fw.gP E i e).G+lH (E.N i)=Ñ (F.n+1) E.G+e.kB:=by
 have g:=WE b;have h:=Co b;have:=vR (f:=E.G) (f':=(fw.gP E i e).G) (j:=i) (n:=F.n+1) Z (λa c=>by unfold fO.G;show(if a<E.M.ad F.n then lH (ft E.N i (Ã e) a)else 0)=_;rw[fD _ _ c]);have a:E.G i=lH (E.N i):=by unfold fO.G;rw[if_pos Z]
 have c:(fw.gP E i e).G i=e.kB:=by unfold fO.G;show(if i<E.M.ad F.n then lH (ft E.N i (Ã e) i)else 0)=_;rw[if_pos Z,gy];rfl
 grind
theorem WG(a:Ps F E)(h:E.b=.cl i n):∀y p,E.N y=Ã (.fV p)->∀W,p≠ .gq W/\p≠ .iV W/\p≠ .im W:=by intro y p b W;let⟨d,e⟩:=a.N y p b;grind
theorem NS(a:Ps F E)(h:E.g=Ã i):∀y,y≠i->∀p,E.N y=Ã (.fV p)->∀W,p≠ .gq W/\p≠ .iV W/\p≠ .im W:=by intro y c p b W;let⟨d,e⟩:=a.N y p b;grind
def PI.afO(p:PI F n zX E S o G B m w qJ)(e:i<E.r)(d:E.N i=Ã (.fV .iy)):∃c a,E.b=.cl (c+1) a/\c+1=Ñ (F.n+1) E.G/\a=E.M.gw/\¬(E.M=.fu .gq\/E.M=.fu .kK\/E.M=.fV):=by
 have g:1<=Ñ (F.n+1) E.G:=by
  have q:=WE p.C;have r:=Co p.C;have:=Nx (f:=E.G) (j:=i) (n:=F.n+1) Z;have s:E.G i=1:=by unfold fO.G;rw[if_pos Z,d];rfl
  omega
 obtain⟨c,a,b⟩:∃c a,E.b=.cl (c+1) a:=by
  cases q:E.b with
  |cl c a=>
   have:=(p.C.t c a q).1;exact⟨c-1,a,by congr 1;omega⟩
  |ju a=>have:=(p.C.g a q).1;omega
  |gR r s=>have:=(p.C.u r s q).1;omega
 let⟨r,s⟩:=p.C.t _ _ b;exact⟨c,a,b,r,s,λq=>by have:=p.C.B q;omega⟩
theorem PI.afP(H:gM F)(p:PI F n zX E S o G B m w qJ)(f:i<E.r)(v:E.N i=Ã (.fV .iy))(z:m[F.L+i]?=Ã g)(iD:g.status=Å)(ht:o (F.L+i)=.fv)(hc:E.b=.cl (j+1) k)(FE:j+1=Ñ (F.n+1) E.G)(WH:k=E.M.gw)(FF:¬(E.M=.fu .gq\/E.M=.fu .kK\/E.M=.fV))(hl:j=0/\0<k):jP F n zX E o m w qJ I (F.L+i):=by
 have t:=iI z;have C:=p.I.r;let⟨hd,_,sX⟩:=p.Af f v z iD ht w<|C.r _ t;have mc:=Ae H.C i;have Q:F.M F.C:=À U;have K:=hc▸p.M.C;let⟨ev,V⟩:=K.jA;have X:=sX (GS.cl (j+1) k).st;rw[ev]at X V;obtain⟨d,M⟩:∃d,(GS.jA<|.cl (j+1) k).st=d:=⟨_,U⟩;rw[M]at X;let⟨g',h1,h2⟩:=X;have Y:=h1 w K.C K.I;rw[<-M]at Y;let⟨k1,k2,k3⟩:=K.r;have O:km F.C w (w.setCell (fH F.C)<|ë Ó (GS.jA<|.cl (j+1) k).st):=Á ⟨_,_,À U,U⟩;have D:=O.r p.a H.C Q;have vV:fE {B (F.L+i)with w:=w} w (w.setCell (fH F.C)<|ë Ó (GS.jA<|.cl (j+1) k).st):=⟨Ô D.r.symm,λb kL=>D.jH b<|C.I _ t b kL,λa ha=>D.M _ t a ha,λa ha=>D.N _ t a ha,λa _=>D.I a⟩;have ed:GS.jA (.cl (j+1) k)=.ju k:=by simp only[GS.jA,if_pos hl]
 rw[ed]at Y V O D vV M;have hW:ff F.P É (IP F.P É F.C (Fc F) k) {B (F.L+i)with w:=w} g':=by
  have r:d=(k:Int):=M.symm;have l:¬(d=0\/(fT<=d/\d<1000000*fT/\d%fT<1000000)):=by simp only[fT];omega
  grind
 let⟨T,hT⟩:=jc<|hW.jO vV;have mI:=kX (λl g h=>À h.2.1) hW;obtain⟨J,u,l,q2,q3,q4,q5,q6,q7⟩:=p.Y H .no z (Fz f) Q (by rwa[mc]) O (zW Q) U (FC p t hd<|À U) (by rwa[mc]) mI;have xW:=FD p.C (e:=.fV (.gq k)) f;rw[v]at xW;refine p.FB H (e:=.fV (.gq k)) (la:=Ã i) f v trivial trivial trivial z O V l q2 q3 mI q4 q5 q6 q7 (λ⟨N,h⟩=>by cases h) (p.C.FA f ⟨_,v⟩ (λy _ q r W=>WG p.C hc y q r W) (λy r h=>by cases h) (λr h=> ?_) (λr s h=>by cases h) (λq h=> ?_) (λq=>absurd q FF) (λq=>absurd (À q) FF) λl q2=> ?_) (À ?_) λ_ _=>À rfl
 .injection h with h;subst h;exact⟨(by simp only[lH,gZ.kB,jv.kB]at xW;omega),WH,U,À U⟩
 .grind
 .let⟨y,r⟩:=p.C.S l q2;grind
 .simp only[gZ.rk,jv.rk];grind
theorem PI.afQ(H:gM F)(p:PI F n zX E S o G B m w qJ)(f:i<E.r)(t:E.N i=Ã (.fV .iy))(v:m[F.L+i]?=Ã g)(iD:g.status=Å)(ht:o (F.L+i)=.fv)(hc:E.b=.cl (j+1) k)(FE:j+1=Ñ (F.n+1) E.G)(WH:k=E.M.gw)(FF:¬(E.M=.fu .gq\/E.M=.fu .kK\/E.M=.fV))(hl:¬(j=0/\0<k)):jP F n zX E o m w qJ I (F.L+i):=by
 have l:=iI v;have C:=p.I.r;let⟨hd,_,sX⟩:=p.Af f t v iD ht w<|C.r _ l;have mc:=Ae H.C i;have O:F.M F.C:=À U;have z:=hc▸p.M.C;let⟨ev,P⟩:=z.jA;have Q:=sX (GS.cl (j+1) k).st;rw[ev]at Q P;obtain⟨d,K⟩:∃d,(GS.jA<|.cl (j+1) k).st=d:=⟨_,U⟩;rw[K]at Q;let⟨g',h1,h2⟩:=Q;have T:=h1 w z.C z.I;rw[<-K]at T;let⟨k1,k2,k3⟩:=z.r;have M:km F.C w (w.setCell (fH F.C)<|ë Ó (GS.jA<|.cl (j+1) k).st):=Á ⟨_,_,À U,U⟩;have D:=M.r p.a H.C O;have vV:fE {B (F.L+i)with w:=w} w (w.setCell (fH F.C)<|ë Ó (GS.jA<|.cl (j+1) k).st):=⟨Ô D.r.symm,λb kL=>D.jH b<|C.I _ l b kL,λa V=>D.M _ l a V,λa V=>D.N _ l a V,λa _=>D.I a⟩;have ed:GS.jA (.cl (j+1) k)=.cl j k:=by simp only[GS.jA,if_neg hl]
 rw[ed]at T P M D vV K;obtain⟨N,hN⟩:Fc F {B (F.L+i)with w:=w} g':=by
  have q:d=(j:Int)*fT+(k:Int):=K.symm;have h:d=0\/(fT<=d/\d<1000000*fT/\d%fT<1000000):=by simp only[fT]at q|-;omega
  grind
 have mI:=hN.status;obtain⟨J,u,X,Y,q3,q4,q5,q6,q7⟩:=p.Y H .no v (Fz f) O (by rwa[mc]) M (zW O) U (FC p l hd<|À U) (by rw[mc];exact WC hN) mI;have xW:=FD p.C (e:=.jh N) f;rw[t]at xW;have hz:Ñ (F.n+1) (fw.gP E i<|.jh N).G=j:=by simp only[lH,gZ.kB,jv.kB]at xW;omega
 refine p.FB H (e:=.jh N) (la:=E.g) f t trivial trivial trivial v M P X Y q3 mI q4 q5 q6 q7 (λ_=>rfl) (p.C.FA f ⟨_,t⟩ (λy _ q h W=>WG p.C hc y q h W) (λy r h=> ?_) (λr h=>by cases h) (λr s h=>by cases h) (λq h=>by cases h) (λq=>absurd q FF) (λq=>absurd (À q) FF) λX Y=> ?_) (À ?_) λ_ _=>À rfl
 .grind
 .let⟨y,h⟩:=p.C.S X Y;grind
 .simp only[gZ.rk,jv.rk];omega
def PI.afR(H:gM F)(p:PI F n zX E S o G B m w qJ)(a:i<E.r)(b:E.N i=Ã (.fV .iy))(d:m[F.L+i]?=Ã g)(e:g.status=Å)(f:o (F.L+i)=.fv):jP F n zX E o m w qJ I (F.L+i):=by
 let⟨c,r,h,j,k,l⟩:=p.afO a b;by_cases q:c=0/\0<r
 .exact p.afP H a b d e f h j k l q
 .exact p.afQ H a b d e f h j k l q
theorem PI.afS(H:gM F)(p:PI F n zX E S o G B m w qJ)(c:i<E.r)(d:E.N i=Ã (.fV (.gq j)))(f:m[F.L+i]?=Ã g)(O:g.status=Å)(P:o (F.L+i)=.fv):jP F n zX E o m w qJ I (F.L+i):=by
 have y:=iI f;let⟨Q,_,V⟩:=p.Af c d f O P w<|(p.I.r).r _ y;have z:=Ae H.C i;have C:F.M F.C:=À U;let⟨X,k⟩:=(p.C.N i _ d).1 j<|À U;have D:=k▸p.M.C;let⟨g',Y,t⟩:=V (j:Int);simp only[if_true]at t;let⟨T,hT⟩:=jc t;have K:=kX (λl g h=>À h.2.1) t;obtain⟨J,u,l,v,q3,q4,q5,q6,q7⟩:=p.Y H .no f (Fz c) C (by rw[z];exact Y w D.C) (À U) (xP C) U (FC p y Q<|Á<|À U) (by rwa[z]) K;have M:=FD p.C (e:=.fV (.iV j)) c;rw[d]at M;let⟨b1,b2,_⟩:=p.C.g j k;have hz:Ñ (F.n+1) (fw.gP E i<|.fV (.iV j)).G=0:=by simp only[lH,gZ.kB,jv.kB]at M;omega
 refine p.FB H (e:=.fV (.iV j)) (la:=E.g) c d trivial trivial trivial f (À U) D l v q3 K q4 q5 q6 q7 (λ⟨N,h⟩=>by cases h) (p.C.FA c ⟨_,d⟩ (NS p.C X) (λc' a h=>by cases h) (λa h=> ?_) (λr s h=>by cases h) (λa h=> ?_) (λ_=>hz) (λq=> ?_) λl v=> ?_) (À ?_) λ_ h=>À rfl
 .grind
 .grind
 .let⟨a,b,h⟩:=p.C.O q;rw[k]at h;cases h
 .let⟨c',a⟩:=p.C.S l v;grind
 .simp only[gZ.rk,jv.rk];omega
theorem PI.afT(H:gM F)(p:PI F n zX E S o G B m w qJ)(c:i<E.r)(d:E.N i=Ã (.fV (.iV j)))(k:m[F.L+i]?=Ã g)(P:g.status=Å)(Q:o (F.L+i)=.fv):jP F n zX E o m w qJ I (F.L+i):=by
 have f:=iI k;have C:=p.I.r;let⟨V,_,g',X,z⟩:=p.Af c d k P Q w<|C.r _ f;have K:=Ae H.C i;have v:F.M F.C:=À U;let⟨Y,M⟩:=(p.C.N i _ d).1 j<|Á U;have t:=M▸p.M.C;have NT:=t.r.1;have y:km F.C w (w.setCell (fH F.C)<|ë Ó 0):=Á ⟨_,_,À U,U⟩;have D:=y.r p.a H.C v;let⟨T,hT⟩:=jc (z.jO ⟨Ô D.r.symm,λb l=>D.jH b<|C.I _ f b l,λa h=>D.M _ f a h,λa h=>D.N _ f a h,λa _=>D.I a⟩);have O:=kX (λl g h=>by
  cases j with
  |zero=>omega
  |succ j=>exact À h.2.1) z
 obtain⟨J,u,a,b,q3,q4,q5,q6,q7⟩:=p.Y H .no k (Fz c) v (by rw[K];exact X w _ t.C t.I) y (Wm v) U (FC p f V<|Á<|Á<|À U) (by rwa[K]) O;have l:=FD p.C (e:=.fV (.im j)) c;rw[d]at l;let⟨b1,b2,_⟩:=p.C.g j M;have hz:Ñ (F.n+1) (fw.gP E i<|.fV (.im j)).G=0:=by simp only[lH,gZ.kB,jv.kB]at l;omega
 refine p.FB H (e:=.fV (.im j)) (la:=E.g) c d trivial trivial trivial k y t.V7 a b q3 O q4 q5 q6 q7 (λ⟨N,h⟩=>by cases h) (p.C.FA c ⟨_,d⟩ (NS p.C Y) (λc' q h=>by cases h) (λq h=>by cases h) (λr s h=> ?_) (λq h=> ?_) (λ_=>hz) (λq=>⟨j,0,rfl⟩) λa b=> ?_) (À ?_) λ_ h=>À rfl
 .grind
 .cases h;simp_all
 .let⟨c',q⟩:=p.C.S a b;grind
 .simp only[gZ.rk,jv.rk];omega
def WI(p:PI F n zX E S o G B m w qJ){a y:Ä}(d:mayWake F.P g=Ì)(f:a.status=Å)(i:m[k]?=Ã y)(j:G k=.im):(Ā F.P g a W y).status≠Ü:=by
 intro h;let⟨e,l⟩:=Fh h;let⟨g0,_,b,c,_⟩:=p.I.C k y i;rw[j]at b;cases b with
 |gd=>rw[l]at c;rcases c with q|q<;>cases q
 |ni r q=>
  unfold Ā at h;rw[if_pos (by simp[d,f])]at h;unfold ď at h;simp only[q]at h;cases h
def PI.afU(H:gM F)(p:PI F n zX E S o G B m w qJ)(c:i<E.r)(d:E.N i=Ã (.fV (.im j)))(k:m[F.L+i]?=Ã g)(iD:g.status=Å)(ht:o (F.L+i)=.fv):jP F n zX E o m w qJ I (F.L+i):=by
 have f:=iI k;have C:=p.I.r;let⟨hr0,K,s,M⟩:=(p.C.N i _ d).2 j U;obtain⟨j,rfl⟩:∃O,j=O+1:=⟨j-1,Z⟩;let⟨hd,_,NU,g',Q,h1,h2⟩:=p.Af c d k iD ht w<|C.r _ f;have mc:=Ae H.C i;have V:F.M F.C:=À U;have W:=M▸p.M.C;have X:km F.C w (w.setCell (gQ F.C)<|ë ç<|ç.wrap<|(GS.gR (j+1) s).sm+1):=Á ⟨_,_,Á U,U⟩;have D:=X.r p.a H.C V;let⟨b1,b2,_⟩:=p.C.u _ _ M;obtain⟨e,T,hF,Y,xY,he3,WJ⟩:∃(e:gZ) (T:gk),kJ F.P É (JE F e) T {B (F.L+i)with w:=w.setCell (gQ F.C) (ë ç<|ç.wrap<|(GS.gR (j+1) s).sm+1)} g'/\(e.ie/\e.nH/\e.kB=0)/\((∃N,e=.jh N)->T=.fv)/\((e.rk F).1<((gZ.fV<|.im (j+1)).rk F).1)/\((j=0/\∃N,e=.jh N)\/(0<j/\e=.fV (.im j))):=by
  cases j with
  |zero=>
   obtain⟨N,hN⟩:Fc F {B (F.L+i)with w:=w} g':=h2;exact⟨.jh N,.fv,WC hN,⟨trivial,trivial,U⟩,λ_=>rfl,by simp only[gZ.rk,jv.rk];omega,À ⟨U,N,U⟩⟩
  |succ j=>
   let⟨T,hT⟩:=jc (h2.jO ⟨Ô D.r.symm,λb kL=>D.jH b<|C.I _ f b kL,λa ha=>D.M _ f a ha,λa ha=>D.N _ f a ha,λa _=>D.I a⟩);have Wq:j+1+1+s<=1:=by rw[b2];cases E.M<;>simp only[fR.gw]<;>first|omega|(rename_i v;cases v<;>simp[ji.rI])
   omega
 obtain⟨J,u,q1,q2,q3,q4,q5,q6,q7⟩:=p.Y H .no k (Fz c) V (by rw[mc];exact h1 w _ W.M W.N) X (Fl V) (Fo _).2.2.2 (FC p f hd<|Á<|Á<|Á U) (by rwa[mc])<|À Q;have xW:=FD p.C (e:=e) c;rw[d,Y.2.2]at xW;have hz:Ñ (F.n+1) (fw.gP E i e).G=0:=by simp only[lH,gZ.kB,jv.kB]at xW;omega
 refine p.FB H (la:=E.g) c d trivial Y.1 Y.2.1 k X W.jr q1 q2 q3 (À Q) q4 q5 q6 q7 xY (p.C.FA c ⟨_,d⟩ (NS p.C K) (λc' afV h=>by cases h) (λafV h=>by cases h) (λO s' h=> ?_) (λp' h=> ?_) (λ_=>hz) (λq=>⟨j,s+1,rfl⟩) λq1 q2=> ?_) (À he3) λhm _=>Á λy hy=> ?_
 .injection h with h l;subst h l;refine⟨hz,Z,λhr=>⟨K,?_⟩⟩;rcases WJ with⟨q,_⟩|⟨_,q⟩
  .omega
  .exact q
 .subst h;rcases WJ with⟨_,N,q⟩|⟨hr,q⟩
  .cases q
  .cases q;exact⟨λW' t=>(by rcases t with t|t<;>cases t),λO oy=>by cases oy;exact⟨hr,K,s+1,U⟩⟩
 .let⟨c',l⟩:=p.C.S q1 q2;rw[M]at l;cases l
 .have h0:(0:Nat)≠F.L+i:=by have:=H.C.r;omega
  rw[q4 0 h0]at hy;obtain⟨z,FG,rfl⟩:=Ù.1 hy;exact WI p NU Q FG<|by rw[p.h.2,hm];rfl
end
section
variable{F:Ph}{E E':fO F}{S:Nat->Jd}{f D:Nat->gk}{o:Nat->il}{v:Nat->e7}{l z:Array Ä}{u:ä}{I:Option (Nat×Nat)}
def Ah(ok:F.Ok):(F.L==0)=É:=by have:=ok.r;simp;omega
def CB(h:0<E.r):xO E F.L:=Á ⟨0,h,U⟩
def CC(b:E.N 0=Í):∀x,E.ie x->F.L=F.L+x->False:=λx ⟨e,a,_⟩ h2=>by
 have:x=0:=Z
 subst this;rw[b]at a;cases a
def PI.Ai(p:PI F n zX E S f o v l w qJ)(b:0<E.r)(c:E.N 0=Í)(d:l[F.L]?=Ã g)(e:g.status=Å)(h:f F.L=.fv):∀a,fE (v F.L) (v F.L).w a->JI F E.c E.S {v F.L with w:=a} g:=by let⟨j,i⟩:=p.m b c;intro a r;have:=p.I.N d e h (À i) a r;simp_all
theorem pW.I8(h:pW F E S f o)(ok:F.Ok){ip:jk}{sg:Nat->F.γ}{T:gk}(c:E.N 0=Í):pW F {E with S:=ip,c:=sg} (ft S F.L<|JI F sg ip) (ft f F.L T) (ft o F.L .no):=by
 have:=ok.r;refine⟨by rw[fD S _ Z,fD o _ Z];exact h.M,λa b=>by rw[gy,gy];exact⟨U,U⟩,λj a b=>by rw[fD S _ Z,fD o _ Z];exact h.I j a b,λy e a b=> ?_,λi a b=>by rw[fD S _ Z,fD o _ Z,fD f _ Z];exact h.r i a b⟩;have d:y≠0:=λq=>by grind
 rw[fD S _ Z,fD o _ Z,fD f _ Z];exact h.C y e a b
theorem I9(ok:F.Ok){T:gk}(b:F.L<F.N)(i:E.N 0=Í)(c:E'.N=E.N)(d:E'.M=E.M)(e:E'.h=E.h)(g:E'.C=E.C)(h:E'.S.rk F<E.S.rk F):oH F.N (E'.mu (ft f F.L T) z) (E.mu f l):=by refine Fi b (À ?_) λk a=>xN (λ_=>by rw[d]) (λ_ _=>by rw[e]) (λ_=>by rw[c]) (λq=>absurd q a) (λ_ _=>by rw[g])<|fD f _ a;grind [Wi]
theorem NV(B:fe F E l w)(i:E'.M=E.M)(b:E'.r=E.r)(c:E'.N=E.N)(m:E'.C=E.C)(n:E'.I=E.I)(o:E'.b=E.b)(p:E'.a=E.a):fe F E' l w:=by
 intro k y d e;rcases B k y d e with⟨q,a,f⟩|⟨j,g,h,a,f⟩
 .grind
 .refine Á ⟨j,by rwa[b],by rwa[c],a,?_⟩;grind
theorem Ps.Ja(h:Ps F E){ip:jk}{G:GS}(i:E.N 0=Í)(x:0<E.r)(l:∀c,(ip=.kA c->c<=F.m)/\(ip=.mk c->1<=c/\c<=F.m)/\∀p,ip=.dn c p->1<=c/\c<=F.m) (o:∀c,1<=c->c<=F.m->ip.od<c->ft E.a k G c=.cl 1 (Ñ F.n λj=>(E.C j).gw F j c)) (t:∀c,c<=F.m->c<=ip.od->(∃W,(ip=.dn c (.gq W)\/ip=.dn c (.iV W))/\ft E.a k G c=.ju W/\W=Ñ F.n λj=>(E.C j).gw F j c)\/(∃r s,ip=.dn c (.im r)/\0<r/\ft E.a k G c=.gR r s/\r+s=Ñ F.n λj=>(E.C j).gw F j c)\/((∀p,ip≠ .dn c p)/\((ft E.a k G c=.cl 0 0/\(Ñ F.n λj=>(E.C j).gw F j c)=0)\/∃s,ft E.a k G c=.gR 0 s/\s=Ñ F.n λj=>(E.C j).gw F j c))) (u:E.S.od<=ip.od) (v:(∃a b,E.a k=.gR a b)->∃a b,G=.gR a b) (y:G=.cl 1 0->E.d k=Í) {sg:Nat->F.γ} {V:Nat->Nat->Prop} (w:V 0=F.i) {pk:Nat->Nat}:Ps F {E with S:=ip,a:=ft E.a k G,c:=sg,V:=V,e:=pk}:=by
 refine⟨w,h.C,h.K,h.L,λq=> ?_,l,h.z,h.d,h.l,λq=>absurd i q,h.h,h.M,h.o,h.t,h.g,h.u,h.N,h.B,o,t,λj r d f=>Ø (h.w j r d f) u,λj r d f=> ?_,h.O,h.S,λc d f=> ?_,h.D⟩
 .have:E.r=0:=q;omega
 .have:=h.H j r d f;show∃a b,ft E.a k G _=_;by_cases e:F.r (j+r*F.n)=k
  .rw[e]at this|-;rw[gy];exact v this
  .grind [fD]
 .have g:ft E.a k G c=.cl 1 0:=f;by_cases e:c=k
  .grind [gy]
  .rw[fD _ _ e]at g;exact h.y c d g
def PI.afW(H:gM F)(p:PI F n zX E S f o v l w qJ)(D:0<E.r)(u:E.N 0=Í)(I:l[F.L]?=Ã g)(M:g.status=Å)(ht:f F.L=.fv)(t:E.S=.kA k):qC F n zX E f l w qJ:=by
 have B:=iI I;have C:=p.I.r;have O:=p.Ai D u I M ht w<|C.r _ B;rw[t]at O;have WK:=(p.C.I k).1 t;have X:=Ah H.C;have xS:iL F.S (λi=>i<l.size) E.Y (gi v F.L {v F.L with w:=w}) w qJ:=C.C B (λ_ q=>q) (λb q=>À<|Á q) (λ_ q=>q) (λa q=>À<|Á q) U U U (C.m _ B)<|C.g _ B;have WL:=p.a.C (i:=F.L) (d:=(v F.L).d) (w0:=w)<|Ç _;have z:E.S.md=k:=by rw[t];rfl
 by_cases zZ:k<F.m
 .let⟨FH,Aj⟩:=p.M.M k (by rw[z];exact Ç _);let⟨r1,r2⟩:=p.a.f D u;rw[z]at r1 r2;let⟨o1,o2⟩:=p.a.e D (k+1) (by rw[z];omega) zZ;let⟨T,P⟩:=jc<|H.f k _ _ _ g zZ O (C.M B) FH Aj r2 r1 o1 o2 E.c U;have Q:=p.I.M (J:=JI F E.c<|.mk (k+1)) (T:=T) (K:=.no) I (À M) xS (by rwa[X]);have y:ft E.a 0 (E.a 0)=E.a:=by funext j;unfold ft;split<;>simp[*]
  refine⟨{E with S:=.mk (k+1)},_,_,_,_,λh=>h,.r (p.N.I8 H.C (sg:=E.c) u) p.b Q ?_ ?_ ?_ ?_ (NV p.c U U U U U U U) p.f,I9 H.C (p.G B) u U U U U ?_⟩
  .have L:=WL;exact⟨L.gN,L.o,L.ln,λa e b c=>L.e a e (by rwa[z]) c,λa b=>by have:=L.f a b;rwa[z]at this,L.h,L.l,L.S,L.M,L.c,λe b=>L.I e (by rwa[z]),λe b=>L.N e (by rwa[z]),λe a b=>L.g e a (by rwa[z]),L.d⟩
  .have W:=p.M;exact⟨W.C,W.I,W.jw,λe b=>W.M e (by rwa[z]),λe a b=>W.S e a (by rwa[z]),W.N⟩
  .have:=p.C.Ja (k:=0) (ip:=.mk (k+1)) (G:=E.a 0) (sg:=E.c) (V:=E.V) (pk:=E.e) u D (λe=>⟨λq=>(by cases q),λq=>(by cases q;exact⟨Z,Z⟩),λp q=>by cases q⟩) (λe a b c=> ?_) (λe a b=> ?_) (by rw[t];exact Ç _) id (λq=>p.C.y 0 (ò _) q) p.C.v
   .rwa[y]at this
   .rw[y];exact p.C.e e a b<|by rwa[t]
   .rw[y];rcases p.C.Y e a (by rwa[t])with⟨W,q,_⟩|⟨r,s,q,_⟩|q
    .rw[t]at q;rcases q with q|q<;>cases q
    .rw[t]at q;cases q
    .exact Á<|Á ⟨λp q=>(by cases q),q.2⟩
  .have:E.S.rl=(jk.mk<|k+1).rl:=by rw[t];rfl
   have a:=p.d;rwa[this]at a
  .rw[t];simp only[jk.rk];have:F.m+3-(k+1)=F.m+2-k:=Z
   rw[this];omega
 .have q:k=F.m:=Z
  subst q;let⟨T,P⟩:=jc<|H.h _ g O<|C.M B;have Q:=p.I.M (J:=JE F .n5) (T:=T) (K:=.no) I (À M) xS (by rwa[X]);have s:¬E.ie 0:=λ⟨e,a,_⟩=>by rw[u]at a;cases a
  have W:¬E.nH 0:=λ⟨e,a,_⟩=>by rw[u]at a;cases a
  refine⟨fw.gP E 0 .n5,_,_,_,_,λh=>h,.r (p.N.G (x:=0) H.C λ⟨N,h⟩=>by cases h) p.b Q (WL.gP ⟨λh=>h.elim,λh=>(W h).elim⟩) p.M.gP (p.C.gP D (by rw[u];rfl) (λb h=>by rw[u]at h;cases h) (λb h=>by cases h) (λj h=>by omega) λ_=>t) (p.d.G ⟨λh=>h.elim,λh=>(s h).elim⟩) (NQ p.c λk y b c e=> ?_) p.f,Cy H.C (p.G B)<|À ?_⟩
  .subst e;rw[ó,I]at b;obtain rfl:=È b;rw[M]at c;cases c
  .unfold qD;rw[u];simp only[gZ.rk,if_true,t,jk.rk];have:F.m+2-F.m=2:=Z
   rw[this];omega
end
section
variable{F:Ph}{E E':fO F}{S:Nat->Jd}{o G:Nat->gk}{v:Nat->il}{d:Nat->e7}{f B:Array Ä}{u:ä}{D:Option (Nat×Nat)}
def WM(ok:F.Ok)(a:k<=F.m):iZ F.toFx k≠je F i:=λe=>ok.C (by
 have:F.I k=F.Y:=by injection e
 rw[<-this];exact Á ⟨k,a,U⟩)
def afX(ok:F.Ok)(a:k<=F.m)(b:i<=F.m)(h:iZ F.toFx k=iZ F.toFx i):k=i:=ok.S k i a b<|by injection h
def afY(h:je F i=je F n):i=n:=by injection h
theorem PI.afZ(H:gM F)(p:PI F n zX E S o v d f w qJ)(h0:0<E.r)(he:E.N 0=Í)(hi:f[F.L]?=Ã g)(iD:g.status=Å)(ht:o F.L=.fv)(B:E.S=.mk k):qC F n zX E o f w qJ:=by
 have y:=iI hi;have C:=p.I.r;have hJ:=p.Ai h0 he hi iD ht w<|C.r _ y;rw[B]at hJ;let⟨k1,N⟩:=(p.C.I k).2.1 B;have D:E.S.md=k-1:=by rw[B];rfl
 let⟨M,z,hn,Aj,WN,hcell,hdone⟩:=hJ;let⟨o1,o2⟩:=p.a.e h0 k (by rw[D];omega) N;have xS:iL F.S (λi=>i<f.size) E.Y (gi d F.L<|o7 F {d F.L with w:=w} k) w qJ:=by
  refine C.C y (λ_ q=>q.elim) (λb q=>À q) (λ_ q=>q.1) (λa q=> ?_) U U U (λ_ q=>q.elim) λa c q=> ?_
  .rcases q with q|rfl|rfl
   .exact À<|Á q
   .exact À<|À o2
   .exact À<|À o1
  .rcases q with q|q|q
   .exact C.g _ y a c.1 q
   .exact c.2.1 q
   .exact c.2.2 q
 have hF:kJ F.P (F.L==0) (JI F (ft E.c k M)<|.dn k .jr) .fv (o7 F {d F.L with w:=w} k) g:=by rw[Ah H.C];intro J s;let⟨Q,X,W,a3,e⟩:=hdone;exact⟨Q,X,W,a3,e.jO s⟩
 have hG:ft E.a 0 (E.a 0)=E.a:=by funext j;unfold ft;split<;>simp[*]
 have Vn:∀l,l≠k->ft E.V k z l=E.V l:=λl h=>fD _ _ h;have Vs:ft E.V k z k=z:=gy _ _ _;refine⟨{E with S:=.dn k .jr,c:=ft E.c k M,V:=ft E.V k z},_,_,_,_,λh=>h,.r ?_ p.b (p.I.M (K:=.no) hi (À iD) xS hF) ?_ ?_ ?_ ?_ (NV p.c U U U U U U U) p.f,I9 H.C (p.G y) he U U U U ?_⟩
 .have:=p.N.I8 (ip:=.dn k .jr) (sg:=ft E.c k M) (T:=.fv) H.C he;exact⟨this.M,this.Y,this.I,this.C,this.r⟩
 .have L:=p.a;have G:(gi d F.L<|o7 F {d F.L with w:=w} k) F.L=o7 F {d F.L with w:=w} k:=gO _ _ _;have W:∀i,i≠F.L->(gi d F.L<|o7 F {d F.L with w:=w} k) i=d i:=λi h=>gB d _ h;have WO:(0:Nat)≠F.L:=by have:=H.C.r;omega
  have NW:∀i a,(gi d F.L (o7 F {d F.L with w:=w} k) i).r a->(d i).r a:=λi a h=>by
   by_cases q:i=F.L
   .subst q;rw[G]at h;exact h.1
   .grind
  have sO:∀i b,(gi d F.L (o7 F {d F.L with w:=w} k) i).O b->(d i).O b/\i≠F.L:=λi b h=>by
   by_cases q:i=F.L
   .subst q;rw[G]at h;exact h.elim
   .grind
  have nOc:∀i,i<f.size->∀a,(a=je F (F.b k)\/a=iZ F.toFx k)->¬(gi d F.L (o7 F {d F.L with w:=w} k) i).r a:=λi s a c h=>by
   by_cases q:i=F.L
   .subst q;rw[G]at h;rcases c with c|c
    .exact h.2.1 c
    .exact h.2.2 c
   .rw[W i q]at h;refine C.h i F.L s y q a h<|À ?_;grind
  refine⟨λi s a c=> ?_,λx t u a c=>by rw[W 0 WO];exact L.o x t u a c,λh=>by rw[W 0 WO];exact L.ln h,λh l t u=> ?_,λh xV=> ?_,λj hj xV r hr t=>by rw[W _ Z];exact L.h j hj xV r hr t,λj hj xV=>by rw[W _ Z];exact L.l j hj xV,λx Ac=> ?_,λi s=> ?_,λi t u=>by rw[W i Z];exact L.c i t u,λl I b hb=> ?_,λl I i s h=> ?_,λl t u i s h=> ?_,λj hj r hr t i s h=>L.d j hj r hr t i s<|NW _ _ h⟩
  .by_cases q:i=F.L
   .subst q;rw[G]at c;rcases c with q|q|q|q
    .exact L.gN _ y a<|À q.1
    .exact L.gN _ y a<|Á q
    .exact Á ⟨_,H.C.Y.1 _ Z Z,q⟩
    .grind
   .rw[W i q]at c;exact L.gN i s a c
  .rw[G];have Ak:k<l:=t;let⟨J,q2⟩:=L.e h l (by rw[D];omega) u;exact⟨⟨J,WM H.C u,λe=>by have:=afX H.C u N e;omega⟩,⟨q2,λe=>by have:=H.C.pi l k Z u k1 N<|afY e;omega,λe=>WM H.C N e.symm⟩⟩
  .rw[G];show(o7 F _ k).N (iZ F.toFx k)/\∀b,ft E.V k z k b->(o7 F _ k).I b;rw[Vs];exact⟨Á<|Á U,WN⟩
  .have:F.L+x≠F.L:=λq=>by
    have J:x=0:=Z
    subst J;let⟨e,t,_⟩:=Ac;grind
   rw[W _ this];exact L.S x Ac
  .by_cases q:i=F.L
   .subst q;rw[G];exact L.M _ s
   .rw[W _ q];exact L.M i s
  .have sY:l<=k:=I;by_cases q:l=k
   .subst q;have J:ft E.V l z l b:=hb;rw[Vs]at J;have hM:=WN b J;refine⟨C.fq _ y b hM,C.I _ y b hM,λi s h=> ?_⟩;let⟨Q,X⟩:=sO i b h;exact C.o i F.L s y X b Q hM
   .have J:ft E.V k z l b:=hb;rw[Vn l q]at J;let⟨Q,X,a3⟩:=L.I l (by rw[D];omega) b J;exact⟨Q,X,λi s h=>a3 i s (sO i b h).1⟩
  .have sY:l<=k:=I;by_cases q:l=k
   .grind
   .exact L.N l (by rw[D];omega) i s<|NW _ _ h
  .have sY:l<=k:=u;by_cases q:l=k
   .grind
   .exact L.g l t (by rw[D];omega) i s<|NW _ _ h
 .have W:=p.M;refine⟨W.C,W.I,W.jw,λl I=> ?_,λl t I=> ?_,W.N⟩
  .have sY:l<=k:=I;show mL F l (ft E.c k M l)/\F.d l (ft E.c k M l) (ft E.V k z l) w;by_cases q:l=k
   .subst q;rw[gy,gy];refine⟨?_,Aj⟩;have:=(W.M (l-1)<|by rw[D];exact Ç _).1;have u:=mL.Ck this hn;grind
   .rw[fD _ _ q,fD _ _ q];exact W.M l<|by rw[D];omega
  .have sY:l<=k:=I;by_cases q:l=k
   .subst q;exact hcell
   .exact W.S l t<|by rw[D];omega
 .have:=p.C.Ja (ip:=.dn k .jr) (sg:=ft E.c k M) (V:=ft E.V k z) (pk:=E.e) he h0 (λl=>⟨λq=>(by cases q),λq=>(by cases q),λp q=>by cases q;exact⟨k1,N⟩⟩) (λl a b c=> ?_) (λl a b=> ?_) (by rw[B];exact Ç _) id (λq=>p.C.y 0 (ò _) q)<|by rw[Vn 0 Z];exact p.C.v
  .grind
  .rw[hG];exact p.C.e l a b<|by rwa[B]
  .rw[hG];have J:l<=k-1:=b;rcases p.C.Y l a (by rwa[B])with⟨W,q,_⟩|⟨r,s,q,_⟩|q;all_goals grind
 .have c:=p.d;have e:E.S.rl=k-1:=by rw[B];rfl
  rw[e]at c;refine{c with I:=λl a b x Ac=> ?_};have J:l<=k-1:=b;refine c.I l a b x (Ac.imp (λq=> ?_) id);rwa[<-Vn l Z]
 .rw[B];simp only[jk.rk,jv.rk];have:F.m+3-k=(F.m+2-k)+1:=Z
  grind [ł]
theorem PI.af0(H:gM F)(p:PI F n zX E S o v d f w qJ)(x:0<E.r)(m:E.N 0=Í)(G:f[F.L]?=Ã g)(iD:g.status=Å)(ht:o F.L=.fv)(e:E.S=.dn k .jr):jP F n zX E o f w qJ D F.L:=by
 have t:=iI G;have C:=p.I.r;have J:=p.Ai x m G iD ht w<|C.r _ t;rw[e]at J;let⟨k1,K⟩:=(p.C.I k).2.2 _ e;have M:=Ah H.C;let⟨hd,_,g',h1,N⟩:=J;have O:∀y:Ă,y.act=ė (Į<|fH<|F.I k)->y.act.touch?=Í:=λy i=>by rw[i];rfl
 let⟨T,hT⟩:=jc N;have P:=kX (λl g h=>À h.2.1) N;obtain⟨B,y,y1,y2,q1,Q,q3,q4,q5,q7⟩:=p.Ab H .no G (by rw[M];exact h1 w) fh fh (λy i=>⟨λz l=>(by rw[O y i]at l;cases l),by rw[i];exact C.N _<|À<|Á ⟨k,K,U⟩⟩) (λy _ i=>zM C.l λl u=>by rw[vT u];exact O y i) (by rwa[M]) P;have z:E.S.md=k:=by rw[e];rfl
 have NY:E.S.rl=k-1:=by rw[e];rfl
 let⟨V,X⟩:=p.a.f x m;rw[z]at V X;have Y:=p.d;rw[NY]at Y;have I:k-1+1=k:=Z
 have Cu:=Y.ae4 y1 (by rwa[I]) ((C.f _ t).trans hd) (by
  rw[I];intro a l;rcases l with l|rfl
  .exact(C.S _ t).C a<|X _ l
  .exact(C.S _ t).r _ V)
 rw[I]at Cu;have hG:ft E.a 0 (E.a 0)=E.a:=by funext j;unfold ft;split<;>simp[*]
 refine⟨{E with S:=.dn k .iy,e:=ft E.e k qJ.size},_,_,_,_,B,w,#[y],q1,Q,λh=>h,.r ?_ (Q.trans p.b) q5 ?_ ?_ ?_ Cu (p.c.pT (E':={E with S:=.dn k .iy,e:=ft E.e k qJ.size}) q3 (by rcases P with q|q<;>rw[q]<;>simp) q4 (λ_ _=>rfl) U U (λ_ _=>rfl) (λ_=>rfl) (λ_ _=>rfl) (λ_ _ h=>À h) λ_ _ _ _ h=>À h) λj r a1 a2 a3=> ?_,I9 H.C (p.G t) m U U U U ?_⟩
 .have:=p.N.I8 (ip:=.dn k .iy) (sg:=E.c) (T:=T) H.C m;exact⟨this.M,this.Y,this.I,this.C,this.r⟩
 .have L:=q7;exact⟨L.gN,L.o,L.ln,λa l b c=>L.e a l (by rwa[z]) c,λa b=>by have:=L.f a b;rwa[z]at this,L.h,L.l,L.S,L.M,L.c,λl b=>L.I l (by rwa[z]),λl b=>L.N l (by rwa[z]),λl a b=>L.g l a (by rwa[z]),L.d⟩
 .have W:=p.M;exact⟨W.C,W.I,W.jw,λl b=>W.M l (by rwa[z]),λl a b=>W.S l a (by rwa[z]),W.N⟩
 .have:=p.C.Ja (ip:=.dn k .iy) (sg:=E.c) (pk:=ft E.e k qJ.size) m x (λl=>⟨λq=>(by cases q),λq=>(by cases q),λp q=>by cases q;exact⟨k1,K⟩⟩) (λl a b c=> ?_) (λl a b=> ?_) (by rw[e];exact Ç _) id (λq=>p.C.y 0 (ò _) q) p.C.v
  .grind
  .rw[hG];exact p.C.e l a b<|by rwa[e]
  .rw[hG];have c:l<=k-1:=b;rcases p.C.Y l a (by rwa[e])with⟨W,q,_⟩|⟨r,s,q,_⟩|q;all_goals grind
 .have u:=p.C.w j r a1<|Á<|Á a2;rw[e]at u;simp only[jk.od]at u;show Λ _ _ (ft E.e k qJ.size _);rw[fD _ _ Z];exact(p.f j r a1 a2 a3).app _
 .rw[e];simp only[jk.rk,jv.rk];omega
end
section
variable{F:Ph}{E E':fO F}{S:Nat->Jd}{v M:Nat->gk}{I:Nat->il}{B:Nat->e7}{o f:Array Ä}{u:ä}{K:Option (Nat×Nat)}
def Al(E:fO F)(ip:jk)(k:Nat)(G:GS):fO F:={E with S:=ip,a:=ft E.a k G}
theorem PI.CF(H:gM F)(p:PI F j zX E S v I B o w qJ){d:jv}{ip:jk}{G:GS}{s:Ä}{T:gk}(h0:0<E.r)(C:E.N 0=Í)(t:E.S=.dn k d)(O:d≠ .jr)(Q:o[F.L]?=Ã g)(D:km (F.I k) w W)(X:gU W (F.I k) G)(q1:Ŏ F.P (ð o w K) F.L=(ğ<|ð f W K,u))(J:f.size=o.size)(q3:f[F.L]?=Ã s)(mI:s.status=Å\/s.status=å)(q4:∀k,k≠F.L->f[k]?=o[k]?.map (Ā F.P g s W)) (q5:gE F.P F.S E.Y (ft S F.L<|JI F E.c ip) (ft v F.L T) (ft I F.L .no) (gi B F.L {B F.L with w:=W}) f W (qJ++u)) (q6:TI F.toFx j zX E.r E.S.rl E.V E.e E.d E.ie E.f (qJ++u)) (q7:iA F E (gi B F.L {B F.L with w:=W}) f.size W) (x:ip.md=k/\ip.rl=k) (hP:Ps F (Al E ip k G)) (WB:ip.rk F<E.S.rk F) (Ft:∀i r,E.C i=.fu r .ki->F.r (i+r*F.n)=k->(E.a k).sm=0->G.sm=0\/∀y,f[F.L+1+i]?=Ã y->y.status≠Ü):jP F j zX E v o w qJ K F.L:=by
 let⟨k1,z⟩:=(p.C.I k).2.2 _ t;have M:F.M (F.I k):=Á ⟨k,z,U⟩;have N:E.S.md=k:=by rw[t];rfl
 have NY:E.S.rl=k:=by rw[t];cases d<;>first|rfl|exact absurd U O
 have m:=D.I H p.a p.C p.M M ⟨λq=>absurd q<|H.C.M k z,λ_=>rfl⟩ (λl a=>⟨λq=>by rwa[<-H.C.S _ _ z a q,gy],λq=>fD _ _ λe=>q<|by rw[e]⟩);refine⟨Al E ip k G,_,_,_,_,f,W,u,q1,J,λh=>h,.r ?_ (J.trans p.b) q5 ?_ ?_ hP ?_ ?_ λi r a b c=>(p.f i r a b c).app u,I9 H.C (p.G<|iI Q) C U U U U WB⟩
 .have:=p.N.I8 (ip:=ip) (sg:=E.c) (T:=T) H.C C;exact⟨this.M,this.Y,this.I,this.C,this.r⟩
 .have L:=q7;have e:(Al E ip k G).S.md=E.S.md:=by rw[N];exact x.1
  exact⟨L.gN,L.o,L.ln,λa l b c=>L.e a l (by rwa[<-e]) c,λa b=>by have:=L.f a b;rwa[<-e]at this,L.h,L.l,L.S,L.M,L.c,λl b=>L.I l (by rwa[<-e]),λl b=>L.N l (by rwa[<-e]),λl a b=>L.g l a (by rwa[<-e]),L.d⟩
 .have e:(Al E ip k G).S.md=E.S.md:=by rw[N];exact x.1
  exact⟨m.C,m.I,m.jw,λl b=>m.M l (by show l<=E.S.md;rwa[<-e]),λl a b=>m.S l a (by show l<=E.S.md;rwa[<-e]),m.N⟩
 .have e:(Al E ip k G).S.rl=E.S.rl:=by rw[NY];exact x.2
  rwa[e]
 .refine p.c.pT (E':=Al E ip k G) q3 (by rcases mI with q|q<;>rw[q]<;>simp) q4 (λi a=>D.C p.C M a) U U (λ_ _=>rfl) (λ_=>rfl) (λ_ _=>rfl) (λ_ _ h=>À h) λi r _ a b=> ?_;show(ft E.a k G _).sm=0\/_;grind [gy,fD]
theorem PI.CG(p:PI F j zX E S v I B o w qJ){d:jv}{f:jk}{G:GS}(m:0<E.r)(t:E.N 0=Í)(l:E.S=.dn k d)(D:f=.kA k\/∃u,f=.dn k u)(i:f.od=k)(H:(∃W,(f=.dn k (.gq W)\/f=.dn k (.iV W))/\G=.ju W/\W=Ñ F.n λe=>(E.C e).gw F e k)\/(∃r s,f=.dn k (.im r)/\0<r/\G=.gR r s/\r+s=Ñ F.n λe=>(E.C e).gw F e k)\/((∀p,f≠ .dn k p)/\((G=.cl 0 0/\(Ñ F.n λe=>(E.C e).gw F e k)=0)\/∃s,G=.gR 0 s/\s=Ñ F.n λe=>(E.C e).gw F e k))) (x:(∃a b,E.a k=.gR a b)->∃a b,G=.gR a b) (y:G≠ .cl 1 0):Ps F (Al E f k G):=by
 let⟨J,K⟩:=(p.C.I k).2.2 _ l;have C:k-1<=E.S.od/\E.S.od<=k:=by rw[l];cases d<;>simp only[jk.od]<;>omega
 have:=p.C.Ja (sg:=E.c) (pk:=E.e) t m (λg=> ?_) (λg a b c=> ?_) (λg a b=> ?_) (by rw[i];exact C.2) x (λq=>absurd q y) p.C.v
 .exact this
 .grind
 .rw[i]at c;rw[fD _ _ Z];exact p.C.e g a b Z
 .by_cases q:g=k
  .grind [gy]
  .rw[fD _ _ q];rw[i]at b;refine Á<|Á ⟨λc h=> ?_,?_⟩
   .grind
   .rcases p.C.Y g a Z with⟨W,z,_⟩|⟨r,s,z,_⟩|z;all_goals grind
theorem PI.af2(H:gM F)(p:PI F j zX E S v I B o w qJ)(d:0<E.r)(i:E.N 0=Í)(s:o[F.L]?=Ã g)(iD:g.status=Å)(ht:v F.L=.fv)(c:E.S=.dn k .iy):jP F j zX E v o w qJ K F.L:=by
 have O:=iI s;have C:=p.I.r;have hJ:=p.Ai d i s iD ht w<|C.r _ O;rw[c]at hJ;obtain⟨k1,Y⟩:=(p.C.I k).2.2 _ c;have Q:=Ah H.C;have y:F.M (F.I k):=Á ⟨k,Y,U⟩;obtain⟨hd,_,sX⟩:=hJ;have hc:=p.C.e k k1 Y (by rw[c];simp only[jk.od];omega);obtain⟨W,hW⟩:∃W,(Ñ F.n λa=>(E.C a).gw F a k)=W:=⟨_,U⟩;rw[hW]at hc;have V:=hc▸p.M.I k Y;obtain⟨ev,z⟩:=V.jA;have key:=sX (GS.cl (0+1) W).st;rw[ev]at key z;obtain⟨m,t⟩:∃m,(GS.jA<|.cl (0+1) W).st=m:=⟨_,U⟩;rw[t]at key;obtain⟨g',h1,h2⟩:=key;have G:=h1 w V.C V.I;rw[<-t]at G;obtain⟨k1',k2,k3⟩:=V.r;have r:km (F.I k) w (w.setCell (fH<|F.I k)<|ë Ó (GS.jA<|.cl (0+1) W).st):=Á ⟨_,_,À U,U⟩;have D:=r.r p.a H.C y;have X:fE {B F.L with w:=w} w (w.setCell (fH<|F.I k)<|ë Ó (GS.jA<|.cl (0+1) W).st):=⟨Ô D.r.symm,λb kL=>D.jH b<|C.I _ O b kL,λa ha=>D.M _ O a ha,λa ha=>D.N _ O a ha,λa _=>D.I a⟩;have WQ:¬∃a b,E.a k=.gR a b:=λ⟨a,b,q⟩=>by rw[hc]at q;cases q
 by_cases hl:0<W
 .have ed:GS.jA (.cl (0+1) W)=.ju W:=by simp only[GS.jA];rw[if_pos ⟨trivial,hl⟩]
  rw[ed]at G z r D X t;have M:ff F.P É (IP F.P É (F.I k) (ff F.P É<|F.h k) W) {B F.L with w:=w} g':=by
   have e:m=(W:Int):=t.symm;have h:¬(m=0\/(fT<=m/\m<1000000*fT/\m%fT<1000000)):=by simp only[fT];omega
   grind
  obtain⟨T,hT⟩:=jc<|M.jO X;have N:=kX (λl g h=>À h.2.1) M;obtain⟨f,u,q1,q2,q3,q4,q5,q6,q7⟩:=p.Y (J:=JI F E.c<|.dn k (.gq W)) H .no s (CB d) y (by rwa[Q]) r (zW y) U (λx hs e=>(CC i x hs e).elim) (by rwa[Q]) N;refine p.CF H d i c fh s r z q1 q2 q3 N q4 q5 q6 q7 ⟨U,U⟩ (p.CG d i c (Á ⟨_,U⟩) U (À ⟨W,À U,U,hW.symm⟩) (λq=>absurd q WQ) fh) ?_ λ_ _ _ _ _=>À U;rw[c];simp only[jk.rk,jv.rk];omega
 .have NT:W=0:=Z
  subst NT;have ed:GS.jA (.cl (0+1) 0)=.cl 0 0:=U;rw[ed]at G z r D X t;have M:ff F.P É (F.h k) {B F.L with w:=w} g':=by simp only[t.symm,true_or,if_true]at h2;exact h2
  obtain⟨T,hT⟩:=jc<|M.jO X;have N:=kX (λl g h=>À<|H.N _ _ _ h) M;obtain⟨f,u,q1,q2,q3,q4,q5,q6,q7⟩:=p.Y (J:=JI F E.c<|.kA k) H .no s (CB d) y (by rwa[Q]) r (zW y) U (λx hs e=>(CC i x hs e).elim) (by rwa[Q]) N;refine p.CF H d i c fh s r z q1 q2 q3 N q4 q5 q6 q7 ⟨U,U⟩ (p.CG d i c (À U) U (Á<|Á ⟨λp q=>(by cases q),À ⟨rfl,hW⟩⟩) (λq=>absurd q WQ) fh) ?_ λ_ _ _ _ _=>À rfl;rw[c];simp only[jk.rk,jv.rk];omega
theorem PI.WR(p:PI F j zX E S v I B o w qJ)(b:E.S=.dn k (.gq i)\/E.S=.dn k (.iV i)):E.a k=.ju i/\i=Ñ F.n λa=>(E.C a).gw F a k:=by
 have c:k<=F.m:=by rcases b with b|b<;>exact((p.C.I k).2.2 _ b).2
 rcases p.C.Y k c (by rcases b with b|b<;>(rw[b];exact Ç _))with⟨d,z,e,f⟩|⟨r,s,z,_⟩|⟨z,_⟩;all_goals grind
def PI.af3(H:gM F)(p:PI F j zX E S v I B o w qJ)(d:0<E.r)(m:E.N 0=Í)(n:o[F.L]?=Ã g)(M:g.status=Å)(N:v F.L=.fv)(c:E.S=.dn k (.gq i)):jP F j zX E v o w qJ K F.L:=by have s:=p.Ai d m n M N w<|(p.I.r).r _<|iI n;rw[c]at s;let⟨k1,t⟩:=(p.C.I k).2.2 _ c;have y:=Ah H.C;have z:F.M (F.I k):=Á ⟨k,t,U⟩;let⟨hd,_,O⟩:=s;let⟨C,P⟩:=p.WR<|À c;have D:=C▸p.M.I k t;let⟨g',Q,r⟩:=O (i:Int);simp only[if_true]at r;let⟨T,V⟩:=jc r;have G:=kX (λl g h=>À h.2.1) r;obtain⟨f,u,h,l,X,Y,q5,q6,q7⟩:=p.Y (J:=JI F E.c<|.dn k (.iV i)) H .no n (CB d) z (by rw[y];exact Q w D.C) (À U) (xP z) U (λx a e=>(CC m x a e).elim) (by rwa[y]) G;refine p.CF H d m c fh n (À U) D h l X G Y q5 q6 q7 ⟨U,U⟩ (p.CG d m c (Á ⟨_,U⟩) U (À ⟨i,Á U,U,P⟩) (λ⟨a,b,q⟩=>by rw[C]at q;cases q) fh) ?_ λ_ _ _ _ _=>À rfl;rw[c];simp only[jk.rk,jv.rk];omega
def PI.af4(H:gM F)(p:PI F j zX E S v I B o w qJ)(d:0<E.r)(m:E.N 0=Í)(n:o[F.L]?=Ã g)(N:g.status=Å)(O:v F.L=.fv)(c:E.S=.dn k (.iV i)):jP F j zX E v o w qJ K F.L:=by
 have q:=iI n;have C:=p.I.r;have y:=p.Ai d m n N O w<|C.r _ q;rw[c]at y;let⟨k1,z⟩:=(p.C.I k).2.2 _ c;have G:=Ah H.C;have s:F.M (F.I k):=Á ⟨k,z,U⟩;let⟨hd,_,g',P,M⟩:=y;let⟨Q,V⟩:=p.WR<|Á c;have r:=Q▸p.M.I k z;have X:=r.r.1;have t:km (F.I k) w (w.setCell (fH<|F.I k)<|ë Ó 0):=Á ⟨_,_,À U,U⟩;have D:=t.r p.a H.C s;let⟨T,Y⟩:=jc (M.jO ⟨Ô D.r.symm,λb h=>D.jH b<|C.I _ q b h,λa e=>D.M _ q a e,λa e=>D.N _ q a e,λa _=>D.I a⟩);have a:=kX (λl g h=>by
  cases i with
  |zero=>omega
  |succ i=>exact À h.2.1) M
 obtain⟨f,u,h,b,l,q4,q5,q6,q7⟩:=p.Y (J:=JI F E.c<|.dn k (.im i)) H .no n (CB d) s (by rw[G];exact P w _ r.C r.I) t (Wm s) U (λx hs e=>(CC m x hs e).elim) (by rwa[G]) a;refine p.CF H d m c fh n t r.V7 h b l a q4 q5 q6 q7 ⟨U,U⟩ (p.CG d m c (Á ⟨_,U⟩) U (Á<|À ⟨i,0,U,X,U,by rwa[ó]⟩) (λ_=>⟨i,0,U⟩) fh) ?_ λ_ _ _ _ _=>À U;rw[c];simp only[jk.rk,jv.rk];omega
theorem PI.af5(H:gM F)(p:PI F j zX E S v I B o w qJ)(l:0<E.r)(t:E.N 0=Í)(G:o[F.L]?=Ã g)(iD:g.status=Å)(ht:v F.L=.fv)(h:E.S=.dn k (.im j9)):jP F j zX E v o w qJ K F.L:=by
 have W:=iI G;have C:=p.I.r;have hJ:=p.Ai l t G iD ht w<|C.r _ W;rw[h]at hJ;obtain⟨k1,Y⟩:=(p.C.I k).2.2 _ h;have X:=Ah H.C;have O:F.M (F.I k):=Á ⟨k,Y,U⟩;obtain⟨s,hr0,hc,rJ⟩:∃s,0<j9/\E.a k=.gR j9 s/\j9+s=Ñ F.n λc=>(E.C c).gw F c k:=by rcases p.C.Y k Y (by rw[h];exact Ç _)with⟨W',z,z1,z2⟩|⟨M,s,z,z1,z2,z3⟩|⟨z,_⟩;all_goals grind
 obtain⟨j9,rfl⟩:∃M,j9=M+1:=⟨j9-1,Z⟩;obtain⟨hd,_,NU,g',Q,h1,h2⟩:=hJ;have N:=hc▸p.M.I k Y;have V:km (F.I k) w (w.setCell (gQ<|F.I k)<|ë ç<|ç.wrap<|(GS.gR (j9+1) s).sm+1):=Á ⟨_,_,Á U,U⟩;have D:=V.r p.a H.C O;have vV:fE {B F.L with w:=w} w (w.setCell (gQ<|F.I k)<|ë ç<|ç.wrap<|(GS.gR (j9+1) s).sm+1):=⟨Ô D.r.symm,λb kL=>D.jH b<|C.I _ W b kL,λa ha=>D.M _ W a ha,λa ha=>D.N _ W a ha,λa _=>D.I a⟩;have wake:∀f:Array Ä,(∀k,k≠F.L->f[k]?=o[k]?.map (Ā F.P g g'<|w.setCell (gQ<|F.I k)<|ë ç<|ç.wrap<|(GS.gR (j9+1) s).sm+1))\/(∀m,m≠F.L->f[m]?=o[m]?.map (Ā F.P g g'<|w.setCell (gQ<|F.I k)<|ë ç<|ç.wrap<|(GS.gR (j9+1) s).sm+1))->∀c M,E.C c=.fu M .ki->F.r (c+M*F.n)=k->(E.a k).sm=0->(GS.gR j9<|s+1).sm=0\/∀y,f[F.L+1+c]?=Ã y->y.status≠Ü:=by
  intro f d c M hj _ _;refine Á λy hy=> ?_;by_cases WS:c+2<=E.r
  .by_cases Jb:E.N (c+1)=Í
   .obtain⟨_,hk⟩:=p.g c WS Jb;rw[hj]at hk;rcases d with d|d<;>
    .rw[d _ Z]at hy;obtain⟨z,FG,rfl⟩:=Ù.1 hy;exact WI p NU Q FG hk
   .obtain⟨_,r0,q,_⟩:=p.C.l c WS Jb;grind
  .have:=p.C.z c Z;grind
 cases j9 with
 |zero=>
  obtain⟨T,hT⟩:=jc<|h2.jO vV;obtain⟨f,u,q1,q2,q3,d,q5,q6,q7⟩:=p.Y (J:=JI F E.c<|.kA k) H .no G (CB l) O (by rw[X];exact h1 w _ N.M N.N) V (Fl O) (Fo _).2.2.2 (λx hs e=>(CC t x hs e).elim) (by rwa[X])<|À Q;refine p.CF H l t h fh G V N.jr q1 q2 q3 (À Q) d q5 q6 q7 ⟨U,U⟩ (p.CG l t h (À U) U (Á<|Á ⟨λp q=>(by cases q),Á ⟨s+1,rfl,Z⟩⟩) (λ_=>⟨0,s+1,rfl⟩) fh) ?_<|wake f<|Á d;rw[h];simp only[jk.rk,jv.rk];omega
 |succ j9=>
  obtain⟨T,hT⟩:=jc<|h2.jO vV;obtain⟨f,u,q1,q2,q3,d,q5,q6,q7⟩:=p.Y (J:=JI F E.c<|.dn k (.im (j9+1))) H .no G (CB l) O (by rw[X];exact h1 w _ N.M N.N) V (Fl O) (Fo _).2.2.2 (λx hs e=>(CC t x hs e).elim) (by rwa[X])<|À Q;refine p.CF H l t h fh G V N.jr q1 q2 q3 (À Q) d q5 q6 q7 ⟨U,U⟩ (p.CG l t h (Á ⟨_,U⟩) U (Á<|À ⟨j9+1,s+1,U,Z,U,Z⟩) (λ_=>⟨j9+1,s+1,U⟩) fh) ?_<|wake f<|Á d;rw[h];simp only[jk.rk,jv.rk];have:Ñ F.n (λc=>(E.C c).gw F c k)<=F.n:=Fq λi=>by cases E.C i<;>simp only[gG.gw]<;>first|omega|(split<;>first|omega|(rename_i q _;cases q<;>simp[ji.rI]))
  omega
theorem PI.af6(H:gM F)(p:PI F j zX E S v I B o w qJ){N:Nat}(s:i<E.r)(a:E.N i=Ã (.jh N))(t:o[F.L+i]?=Ã g)(J:g.status=Å):jP F j zX E v o w qJ K (F.L+i):=by
 let⟨M,n,O⟩:=p.k i _ s a;have hL:=H.C.r;obtain⟨f,P,Q,hn,T,l,V,u,z⟩:=p.I.Nc t Z J n (O ⟨N,U⟩) M;have C:=iI t;have D:∀c∈Û (F.L+i) g.frame.fn g.frame.place P,c.act.touch?=Í/\∀b,F.M b->c.act≠ė (.release<|fH b):=λc d=>by obtain⟨e,h,rfl⟩:=Ö d;refine⟨ź<|u e h,λb _ q=> ?_⟩;have:=u e h;let⟨k,y,m⟩:=e;cases k<;>simp_all[Event.mute,Ë]
 obtain⟨m,G⟩:∃m,f[F.L+i]?=Ã m:=⟨f[F.L+i]'(by rwa[l]),é _⟩;have W:m.status≠Ü:=by
  let⟨g0,y,h,k,r⟩:=z.C _ m G;rw[n]at h;cases h with
  |gd=>rcases k with q|q<;>rw[q]<;>simp
 have X:ft v (F.L+i) .fv=v:=by funext q;unfold ft;split<;>simp[*]
 have Y:ft I (F.L+i) .no=I:=by funext q;unfold ft;split<;>simp[*]
 refine⟨fw.gP E i<|.jh Q,_,_,_,_,f,w,_,T,l,λh=>h,.r (p.N.G H.C λ_=>rfl) (l.trans p.b) (by rwa[X,Y]) (by rw[l];exact(p.a.C<|Ç _).gP<|⟨λ_=>⟨_,a,trivial⟩,λ_=>trivial⟩) p.M.gP (p.C.gP s (by rw[a];rfl) (λk h=>by rw[a]at h;cases h) (λk h=>by cases h) (λq h=>p.C.l q Z<|by rw[<-h,a];simp) λh=>p.C.f<|by rw[<-h,a];simp) ((p.d.C<|xL (λc d=>(D c d).1) λc d=>(D c d).2).G<|⟨λ_=>⟨_,a,trivial⟩,λ_=>trivial⟩) (NQ (p.c.E7 G W V λ_ _=>rfl) λk y n r e=> ?_) λq r k e y=>(p.f q r k e y).app _,Cy H.C (p.G C)<|Á ?_⟩
 .grind
 .unfold qD;rw[a];simp only[gZ.rk];grind
theorem PI.af7(H:gM F)(p:PI F j zX E S v I B o w qJ)(N:0<i)(t:i<F.L)(u:o[i]?=Ã g)(O:g.status=Å):jP F j zX E v o w qJ K i:=by
 let⟨Q,T,m⟩:=p.l i N t;obtain⟨f,x,z,Y,V,n,W,C,D⟩:=p.I.Nc u Z O m T Q;have G:=iI u;have J:∀c∈Û i g.frame.fn g.frame.place x,c.act.touch?=Í/\∀b,F.M b->c.act≠ė (.release<|fH b):=λc l=>by obtain⟨e,a,rfl⟩:=Ö l;refine⟨ź<|C e a,λb _ q=> ?_⟩;have:=C e a;let⟨h,k,y⟩:=e;cases h<;>simp_all[Event.mute,Ë]
 obtain⟨s,M⟩:∃s,f[i]?=Ã s:=⟨f[i]'(by rwa[n]),é _⟩;have X:s.status≠Ü:=by
  let⟨g0,k,a,h,y⟩:=D.C _ s M;rw[m]at a;cases a with
  |gd=>rcases h with q|q<;>rw[q]<;>simp
 refine⟨{E with h:=ft E.h i z},_,_,_,_,f,w,_,V,n,λh=>h,.r ?_ (n.trans p.b) D ?_ ⟨p.M.C,p.M.I,p.M.jw,p.M.M,p.M.S,p.M.N⟩ ?_ (p.d.C<|xL (λc l=>(J c l).1) λc l=>(J c l).2) (NV (p.c.E7 M X W λ_ _=>rfl) U U U U U U U) λq r a k y=>(p.f q r a k y).app _,Fi (p.G G) ?_ λk m=>xN (λ_=>rfl) (λ_ _=>fD _ _ m) (λ_=>rfl) (λ_ _=>rfl) (λ_ _=>rfl) U⟩
 .have h:=p.N;refine⟨by rw[fD S _ Z];exact h.M,λa b=>by rw[fD S _ Z];exact h.Y a b,λq a b=>by rw[fD S _ Z];exact h.I q a b,λy e a b=>by rw[fD S _ Z];exact h.C y e a b,λq a b=> ?_⟩;by_cases e:q=i
  .grind [gy]
  .rw[fD S _ e];refine⟨?_,(h.r q a b).2⟩;show _=oG F.P (ft E.h i z q);rw[fD _ _ e];exact(h.r q a b).1
 .rw[n];have L:=p.a.C (i:=i) (d:=Ï (B i).d x) (w0:=w)<|Ç _;exact⟨L.gN,L.o,L.ln,L.e,L.f,L.h,L.l,L.S,L.M,L.c,L.I,L.N,L.g,L.d⟩
 .have h:=p.C;exact⟨h.v,h.C,h.K,h.L,h.J,h.I,h.z,h.d,h.l,h.f,h.h,h.M,h.o,h.t,h.g,h.u,h.N,h.B,h.e,h.Y,h.w,h.H,h.O,h.S,h.y,h.D⟩
 .unfold fO.iM;rw[if_neg Z,if_pos t,if_neg Z,if_pos t];refine Á ⟨U,À ?_⟩;grind [gy]
end
section
variable{F:Ph}{E J:fO F}{S:Nat->Jd}{d M:Nat->gk}{o:Nat->il}{m:Nat->e7}{f D:Array Ä}{u:ä}{I:Option (Nat×Nat)}
def ik(E:fO F)(x:fR)(G:GS)(dk:Nat->Nat):fO F:={E with M:=x,b:=G,I:=dk}
structure iQ(E:fO F)(x:fR)(C:Nat->Nat):Prop where
 r:x.sp F.n=E.r
 C:∀j,j+2<=E.r->C j=E.I j
def Am{x:fR}{G:GS}{d:Nat->Nat}(a:iQ E x d):(ik E x G d).Y=E.Y:=by have e:(ik E x G d).r=E.r:=a.r;funext b;unfold fO.Y;rw[e];refine propext<|or_congr Iff.rfl<|or_congr Iff.rfl ⟨λ⟨j,c,f⟩=>⟨j,c,f.trans<|a.C j c⟩,λ⟨j,c,f⟩=>⟨j,c,f.trans (a.C j c).symm⟩⟩
def iA.G(L:iA F E m i w){x:fR}{G:GS}{d:Nat->Nat}(a:iQ E x d):iA F (ik E x G d) m i w:=by have e:(fw.ik E x G d).r=E.r:=a.r;exact⟨L.gN,λy f=>L.o y Z,λh=>L.ln Z,λh=>L.e Z,λh=>L.f Z,λj h=>L.h j Z,λj h=>L.l j Z,L.S,λc g=>L.M c (g.imp id λ⟨y,f,b⟩=>⟨y,Z,b⟩),L.c,λk l b n=>by rw[Am a];exact L.I k l b n,L.N,L.g,λj h=>L.d j Z⟩
def Wd.r{G:GS}(W:Wd F {E with b:=G,a:=E.a} w){x:fR}{dk:Nat->Nat}(a:iQ E x dk)(c:x.lW F.q=E.M.lW F.q)(d:x.iY F.n=E.M.iY F.n):Wd F (ik E x G dk) w:=by
 have e:(fw.ik E x G dk).r=E.r:=a.r;refine⟨W.C,W.I,λj f=> ?_,W.M,W.S,λj f=>W.N j<|show j+2<=E.r by omega⟩;have b:j+2<=E.r:=Z
 have:=W.jw j b;show∃g s,w.heap[dk j]?=Ã (.chan F.q g (decide<|j<x.iY F.n) s (E.C j).iG É)/\sQ F.n j (x.lW F.q) s/\_;rw[a.C j b,c,d];exact this
def NZ{x:fR}{G:GS}{dk:Nat->Nat}(h:x.ad F.n=E.M.ad F.n):(ik E x G dk).G=E.G:=by
 funext y;show(if y<x.ad F.n then _ else _)=if y<E.M.ad F.n then _ else _
 rw[h];rfl
def Ps.ik(h:Ps F E){x:fR}{G:GS}{dk:Nat->Nat}(d:iQ E x dk)(o:E.M.iY F.n<=x.iY F.n)(t:∀j,x=.go j\/x=.kV j\/x=.rd j\/x=.iy j->j<=F.n)(u:∀j,x=.kV j\/x=.rd j\/x=.iy j->1<=j)(v:∀r,(x=.iE r->r<=F.q)/\(x=.kF r->r<=F.n)) (w:∀c f,G=.cl c f->c=Ñ (F.n+1) (fw.ik E x G dk).G/\f=x.gw) (z:∀f,G=.ju f->Ñ (F.n+1) (fw.ik E x G dk).G=0/\f=x.gw/\∃y,y<E.r/\E.g=Ã y/\(E.N y=Ã (.fV (.gq f))\/E.N y=Ã (.fV (.iV f)))) (B:∀r s,G=.gR r s->Ñ (F.n+1) (fw.ik E x G dk).G=0/\r+s=x.gw/\(0<r->∃y,y<E.r/\E.g=Ã y/\E.N y=Ã (.fV (.im r)))) (C:∀y p,E.N y=Ã (.fV p)->(∀W,p=.gq W\/p=.iV W->E.g=Ã y/\G=.ju W)/\(∀r,p=.im r->0<r/\E.g=Ã y/\∃s,G=.gR r s)) (D:x=.fu .gq\/x=.fu .kK\/x=.fV->Ñ (F.n+1) (fw.ik E x G dk).G=0) (H:x=.fu .gq->∃a b,G=.gR a b) (I:(∀p,x≠ .fu p)->x≠ .fV->∃c,G=.cl c 0):Ps F (fw.ik E x G dk):=by
 have e:(fw.ik E x G dk).r=E.r:=d.r;refine⟨h.v,t,u,v,λq=>h.J Z,h.I,λj q=>h.z j Z,λj r q=>h.d j r Z,λj q J=> ?_,h.f,λy q=>h.h y Z,λj g N O K=> ?_,λj q=> ?_,w,λf i=> ?_,λr s i=> ?_,C,D,h.e,h.Y,λj r q=>h.w j r Z,λj r q=>h.H j r Z,H,I,h.y,λj r q=>h.D j r Z⟩
 .let⟨a,b⟩:=h.l j Z J;exact⟨Ê a o,b⟩
 .have k:dk j=dk g:=K;rw[d.C j Z,d.C g Z]at k;exact h.M j g Z Z k
 .show¬F.M (dk j)/\dk j≠F.Y/\F.S<=dk j;rw[d.C j Z];exact h.o j Z
 .let⟨k,l,y,m,L⟩:=z f i;exact⟨k,l,y,Z,L⟩
 .let⟨k,l,m⟩:=B r s i;refine⟨k,l,λL=> ?_⟩;let⟨y,P,M⟩:=m L;exact⟨y,Z,M⟩
def Ps.r(h:Ps F E){x:fR}{dk:Nat->Nat}(d:iQ E x dk)(g:E.M.iY F.n<=x.iY F.n)(i:x.ad F.n=E.M.ad F.n)(f:x.gw=E.M.gw)(k:∀j,x=.go j\/x=.kV j\/x=.rd j\/x=.iy j->j<=F.n)(l:∀j,x=.kV j\/x=.rd j\/x=.iy j->1<=j)(m:∀r,(x=.iE r->r<=F.q)/\(x=.kF r->r<=F.n)) (o:x=.fu .gq\/x=.fu .kK\/x=.fV->Ñ (F.n+1) E.G=0) (s:x=.fu .gq->∃a b,E.b=.gR a b) (t:(∀p,x≠ .fu p)->x≠ .fV->∃c,E.b=.cl c 0):Ps F (fw.ik E x E.b dk):=by
 have e:=NZ (E:=E) (G:=E.b) (dk:=dk) i;refine h.ik d g k l m ?_ ?_ ?_ h.N ?_ s t
 .rw[e,f];exact h.t
 .rw[e,f];exact h.g
 .rw[e,f];exact h.u
 .rwa[e]
def pW.ik(h:pW F E S d o)(ok:F.Ok){x:fR}{G:GS}{dk:Nat->Nat}{T:gk}(a:iQ E x dk):pW F (fw.ik E x G dk) (ft S 0<|JM F dk x) (ft d 0 T) (ft o 0<|kM x):=by have:=ok.r;have e:(fw.ik E x G dk).r=E.r:=a.r;refine⟨by rw[gy,gy];exact⟨U,U⟩,λc b=>by rw[fD S _ Z,fD o _ Z];exact h.Y Z b,λj c b=> ?_,λy f c b=>by rw[fD S _ Z,fD o _ Z,fD d _ Z];exact h.C y f Z b,λi c b=>by rw[fD S _ Z,fD o _ Z,fD d _ Z];exact h.r i c b⟩;rw[fD S _ Z,fD o _ Z];show _=JW F (dk j) j (E.C j)/\_=kW F (dk j) (E.C j);rw[a.C j Z];exact h.I j Z b
def qE{x:fR}{G:GS}{dk:Nat->Nat}{T:gk}(h:x.rk F<E.M.rk F):oH F.N ((ik E x G dk).mu (ft d 0 T) D) (E.mu d f):=by refine Fi (by unfold Ph.N;omega) (À ?_) λk a=>xN (λh=>absurd h a) (λ_ _=>rfl) (λ_=>rfl) (λ_ _=>rfl) (λ_ _=>rfl)<|fD d _ a;rwa[Cn,Cn]
theorem WT:E.kS 0=match E.M with|.fu p=>p.kS F.B E.b.st|_=>0:=by unfold fO.kS;grind
def af8{p a:SP}(b:E.M=.fu (.lG p))(g:d 0=.fv)(h:a.rk F.B E.b.st<p.rk F.B E.b.st):oH F.N ((ik E (.fu (.lG a)) E.b E.I).mu (ft d 0 .fv) D) (E.mu d f):=by
 refine Wn (i:=0) (λk _=> ?_) (by unfold Ph.N;omega) ?_ λk c=> ?_
 .by_cases e:k=0
  .subst e;rw[Cn,Cn,gy,b,g];rfl
  .exact xN (λh=>absurd h e) (λ_ _=>rfl) (λ_=>rfl) (λ_ _=>rfl) (λ_ _=>rfl)<|fD d _ e
 .rwa[WT,WT,b]
 .unfold fO.kS;rw[if_neg c,if_neg c];rfl
def PI.rL(p:PI F b zX E S d o m f w qJ)(c:f[0]?=Ã g)(e:g.status=Å)(h:d 0=.fv):∀a,fE (m 0) (m 0).w a->JM F E.I E.M {m 0 with w:=a} g:=by
 let⟨k,i⟩:=p.h;have j:o 0=.no\/o 0=.im:=by
  rw[i];cases E.M with
  |fu v=>cases v<;>first|exact À U|exact Á U
  |_=>exact À U
 intro a r;have:=p.I.N c e h j a r;simp_all
def xZ(ok:F.Ok):∀x,E.ie x->0=F.L+x->False:=λx _ e=>by have:=ok.r;omega
theorem PI.ya(H:gM F)(p:PI F b zX E S d o m f w qJ){x:fR}{G:GS}{dk:Nat->Nat}{c:Ä}{T:gk}(a:iQ E x dk)(C:Ŏ F.P (ð f w I) 0=(ğ<|ð D W I,u))(l:D.size=f.size)(q3:D[0]?=Ã c)(mI:c.status=Å\/c.status=å)(J:∀k,k≠0->D[k]?=f[k]?.map (Ā F.P g c W))(K:∀j,j+2<=E.r->W.heap[E.I j]?=w.heap[E.I j]?) (L:gE F.P F.S E.Y (ft S 0<|JM F dk x) (ft d 0 T) (ft o 0<|kM x) (gi m 0 {m 0 with w:=W}) D W (qJ++u)) (M:TI F.toFx b zX E.r E.S.rl E.V E.e E.d E.ie E.f (qJ++u)) (O:iA F E (gi m 0 {m 0 with w:=W}) D.size W) (Q:Wd F (ik E x G dk) W) (X:Ps F (ik E x G dk)) (vS:oH F.N ((ik E x G dk).mu (ft d 0 T) D) (E.mu d f)) (hxf:x=.fV->E.M=.fV):jP F b zX E d f w qJ I 0:=by
 have e:(ik E x G dk).r=E.r:=a.r;refine⟨ik E x G dk,_,_,_,_,D,W,u,C,l,hxf,.r (p.N.ik H.C a) (by rw[e];exact l.trans p.b) (by rwa[Am a]) (O.G a) Q X (by rwa[e]) ?_ λi h s n q=>(p.f i h Z n q).app u,vS⟩;intro k y n hb;by_cases q:k=0
 .grind
 .rw[J k q]at n;obtain⟨z,hz,rfl⟩:=Ù.1 n;let⟨_,hzb⟩:=Fh hb;rcases p.c k z hz hzb with⟨h1,_⟩|⟨j,t,v,B,i|⟨r,cap,s,h,i,h4⟩⟩
  .exact absurd h1 q
  .exact Á ⟨j,Z,v,B,À i⟩
  .refine Á ⟨j,Z,v,B,Á ⟨r,cap,s,h,i,?_⟩⟩;show W.heap[dk j]?=_;rwa[a.C j t,K j t]
theorem PI.Jc(H:gM F)(p:PI F b zX E S d o m f w qJ){x:fR}{h:Nat->Nat}{T:gk}(c:iQ E x h)(v:f[0]?=Ã g)(B:g.status=Å)(hF:kJ F.P Ì (JM F h x) T {m 0 with w:=w} g)(t:x.lW F.q=E.M.lW F.q)(l:x.iY F.n=E.M.iY F.n)(D:Ps F (ik E x E.b h))(G:oH F.N ((ik E x E.b h).mu (ft d 0 T) f) (E.mu d f))(I:x=.fV->E.M=.fV):qC F b zX E d f w qJ:=by
 have u:=iI v;have C:=p.I.r;have e:(ik E x E.b h).r=E.r:=c.r;have J:iL F.S (λi=>i<f.size) E.Y (gi m 0 {m 0 with w:=w}) w qJ:=C.C u (λ_ q=>q) (λa q=>À<|Á q) (λ_ q=>q) (λa q=>À<|Á q) U U U (C.m _ u)<|C.g _ u;have L:=p.I.M (K:=kM x) v (À B) J hF;refine⟨ik E x E.b h,_,_,_,_,I,.r (p.N.ik H.C c) (by rw[e];exact p.b) (by rwa[Am c]) ((p.a.C<|Ç _).G c) (Wd.r p.M c t l) D (by rw[e];exact p.d) (λk y M O=> ?_) λi a z j s=>p.f i a Z j s,G⟩;by_cases Q:k=0
 .grind
 .rcases p.c k y M O with⟨t,_⟩|⟨j,V,z,l,i|⟨r,W,s,a,i,X⟩⟩
  .exact absurd t Q
  .exact Á ⟨j,Z,z,l,À i⟩
  .refine Á ⟨j,Z,z,l,Á ⟨r,W,s,a,i,?_⟩⟩;show w.heap[h j]?=_;rwa[c.C j V]
def mj{x:fR}(h:x.sp F.n=E.M.sp F.n):iQ E x E.I:=⟨h,λ_ _=>rfl⟩
theorem mN:F.M F.C:=À U
theorem PI.af9(H:gM F)(p:PI F b zX E S d o m f w qJ)(k:f[0]?=Ã g)(l:g.status=Å)(s:d 0=.fv)(e:E.M=.kV j):qC F b zX E d f w qJ:=by
 have i:=p.rL k l s w<|p.I.r.r _<|iI k;rw[e]at i;let⟨c,i⟩:=i;have t:E.r=j:=by unfold fO.r;rw[e];rfl
 have a:iQ E (.go j) (ft E.I (j-1) c):=⟨t.symm,λn h=>fD _ _ Z⟩;refine p.Jc H (T:=.fv) a k l (λr q=>H.Ff _ _ _ _ _ i q) (by rw[e];rfl) (by rw[e];rfl) (p.C.r a (by rw[e];exact Ç _) (by rw[e];rfl) (by rw[e];rfl) (λn h=> ?_) (λn h=> ?_) (λr=>⟨λh=>(by cases h),λh=>(by cases h)⟩) (λh=>by rcases h with h|h|h<;>cases h) (λh=>by cases h) λ_ _=>p.C.S (λv q=>by rw[e]at q;cases q) λq=>by rw[e]at q;cases q) (qE<|by rw[e];simp only[fR.rk];omega) λh=>by cases h
 .rcases h with h|h|h|h<;>cases h;exact p.C.C j<|Á<|À e
 .grind
def PI.aga(H:gM F)(p:PI F b zX E S d o m f w qJ)(k:f[0]?=Ã g)(t:g.status=Å)(u:d 0=.fv)(i:E.M=.rd j):jP F b zX E d f w qJ I 0:=by
 have n:=p.rL k t u w<|p.I.r.r _<|iI k;rw[i]at n;let⟨Q,_,V,z,s⟩:=n;have B:E.r=j:=by unfold fO.r;rw[i];rfl
 have a:iQ E (.kV j) E.I:=⟨B.symm,λ_ _=>rfl⟩;let⟨C,G,J⟩:=NH H p mN (À U) (À U) (À ⟨U,U⟩) λx c e=>xZ H.C x c e;let⟨T,x⟩:=jc s;have e:=kX (λl g ⟨c,h⟩=>À<|H.I _ _ _ _ h) s;obtain⟨D,y,c,l,K,L,M,N,O,P⟩:=p.Ab H (kM<|.kV j) k (z w) fh fh C G x e;refine p.ya H a K L M e N (λ_ _=>rfl) O (J y c l) P (Wd.r p.M a (by rw[i];rfl)<|by rw[i];rfl) (p.C.r a (by rw[i];exact Ç _) (by rw[i];rfl) (by rw[i];rfl) (λq h=> ?_) (λq h=> ?_) (λr=>⟨λh=>(by cases h),λh=>(by cases h)⟩) (λh=>by rcases h with h|h|h<;>cases h) (λh=>by cases h) λ_ _=>p.C.S (λv q=>by rw[i]at q;cases q) λq=>by rw[i]at q;cases q) (qE<|by rw[i];simp only[fR.rk];omega) λh=>by cases h
 .rcases h with h|h|h|h<;>cases h;exact p.C.C j<|Á<|Á<|À i
 .rcases h with h|h|h<;>cases h;exact p.C.K j<|Á<|À i
end
section
variable{F:Ph}{E I:fO F}{S:Nat->Jd}{m K:Nat->gk}{z:Nat->il}{o:Nat->e7}{d B:Array Ä}{u:ä}{C:Option (Nat×Nat)}
def agb(y:Nat):E.G y<=1:=by
 unfold fO.G;split
 .cases E.N y with
  |none=>exact Ç _
  |some e=>cases e with
   |n5=>exact Ç _
   |fV p=>cases p<;>simp[lH,gZ.kB,jv.kB]
   |jh N=>simp[lH,gZ.kB]
 .omega
def WU(v:Int):km F.C w (w.setCell (fH F.C)<|ë Ó v):=Á ⟨_,_,À U,U⟩
def N0(H:gM F)(p:PI F n zX E S m z o d w qJ)(h:km F.C w W){G:GS}(a:gU W F.C G):Wd F {E with b:=G,a:=E.a} W:= h.I H p.a p.C p.M mN (Ga:=G) (Gg:=E.a) ⟨λ_=>a,λe=>absurd U e⟩ λb c=>⟨λe=>absurd e.symm<|H.C.M b c,λ_=>rfl⟩
def N4(H:gM F)(p:PI F n zX E S m z o d w qJ)(h:km F.C w W)(c:i<d.size):fE {o i with w:=w} w W:=by have D:=h.r p.a H.C mN;exact⟨Ô D.r.symm,λb f=>D.jH b<|p.I.r.I _ c b f,λa e=>D.M _ c a e,λa e=>D.N _ c a e,λa _=>D.I a⟩
def yb{l:e7}{b:Ð}(r:fE {l with w:=W} jX b):fE l jX b:=⟨r.r,r.I,r.N,r.Y,r.S⟩
def PI.agc(H:gM F)(p:PI F n zX E S m z o d w qJ)(D:d[0]?=Ã g)(iD:g.status=Å)(ht:m 0=.fv)(a:E.M=.iy j):jP F n zX E m d w qJ C 0:=by
 have O:=iI D;have Q:=p.rL D iD ht w<|p.I.r.r _ O;rw[a]at Q;let⟨hd,_,hA⟩:=Q;have hj:=p.C.C j<|Á<|Á<|Á a;have hj1:=p.C.K j<|Á<|Á a;have nZ:E.r=j:=by unfold fO.r;rw[a];rfl
 have Ft:=H.C.fW;let⟨c,G⟩:=p.C.S (λv q=>by rw[a]at q;cases q) (λq=>by rw[a]at q;cases q);let⟨FE,_⟩:=p.C.t c 0 G;have hcn:c<=F.n+1:=by rw[FE];exact Fq agb
 have I:=G▸p.M.C;let⟨hv,J⟩:=I.aeY Z;have K:=hA (GS.cl c 0).st;rw[hv]at K J;obtain⟨b,V⟩:∃b,(GS.cl (c+1) 0).st=b:=⟨_,U⟩;rw[V]at K J;let⟨L,h1,k⟩:=K;have Cw:=h1 w I.C I.I;have t:=WU (F:=F) (w:=w) b;have vV:=N4 H p t O;have M:b=(c+1:Int)*fT:=by rw[<-V];simp only[GS.st,fT];omega
 obtain⟨x,v,N⟩:∃x:fR,(x=.rd j\/x=.kV j)/\ff F.P Ì (JM F E.I x) {o 0 with w:=w} L:=by
  by_cases l:c=0
  .have e:b=fT:=by rw[M,l];simp[fT]
   simp only[if_pos e]at k;exact⟨.rd j,À U,k⟩
  .have r:¬b=fT:=by simp only[fT]at M|-;omega
   have s:fT<b/\b<1000000*fT/\b%fT=0:=by simp only[fT]at M|-;omega
   simp only[if_neg r,if_pos s]at k;exact⟨.kV j,Á U,k⟩
 let⟨T,hT⟩:=jc<|N.jO vV;have X:L.status=Å\/L.status=å:=by
  rcases v with rfl|rfl
  .exact kX (λl g h=>À h.2.1) N
  .exact kX (λl g ⟨c,h⟩=>À<|H.I _ _ _ _ h) N
 obtain⟨B,u,q1,q2,q3,q4,q5,q6,q7⟩:=p.Y H (kM x) D (À U) mN Cw t (zW mN) U (λx l e=>(xZ H.C x l e).elim) hT X;have l:x.ad F.n=j+1:=by rcases v with rfl|rfl<;>rfl
 have Y:E.M.ad F.n=j:=by rw[a];rfl
 have FI:x.sp F.n=j:=by rcases v with rfl|rfl<;>rfl
 have hxr:x.gw=0:=by rcases v with rfl|rfl<;>rfl
 have e:iQ E x E.I:=⟨FI.trans nZ.symm,λ_ _=>rfl⟩;have rJ:Ñ (F.n+1) (ik E x (.cl (c+1) 0) E.I).G=c+1:=by
  have h:=vR (f:=E.G) (f':=(ik E x (.cl (c+1) 0) E.I).G) (j:=j) (n:=F.n+1) Z (λi y=>by
   show(if i<x.ad F.n then lH (E.N i)else 0)=if i<E.M.ad F.n then lH (E.N i)else 0
   rw[l,Y];by_cases q:i<j
   .rw[if_pos q,if_pos Z]
   .rw[if_neg q,if_neg Z])
  have r:E.G j=0:=by unfold fO.G;rw[Y,if_neg Z]
  have s:(ik E x (.cl (c+1) 0) E.I).G j=1:=by show(if j<x.ad F.n then lH (E.N j)else 0)=1;rw[l,if_pos Z,p.C.h j Z];rfl
  rw[r,s]at h;omega
 refine p.ya H e q1 q2 q3 X q4 (λr s=>t.C p.C mN s) q5 q6 q7 (Wd.r (N0 H p t J) e (by rw[a];rcases v with rfl|rfl<;>rfl) (by rw[a];rcases v with rfl|rfl<;>rfl)) (p.C.ik e (by rw[a];exact ò _) (λr h=> ?_) (λr h=> ?_) (λr=>⟨λh=> ?_,λh=> ?_⟩) (λi s h=> ?_) (λs h=>by cases h) (λr s h=>by cases h) (λy i h=> ?_) (λh=> ?_) (λh=> ?_) λ_ _=>⟨_,rfl⟩) (qE (by rw[a];rcases v with rfl|rfl<;>simp only[fR.rk]<;>omega)) (λh=>by rcases v with rfl|rfl<;>cases h)
 .rcases v with rfl|rfl<;>rcases h with h|h|h|h<;>cases h<;>exact hj
 .rcases v with rfl|rfl<;>rcases h with h|h|h<;>cases h<;>exact hj1
 .rcases v with rfl|rfl<;>cases h
 .rcases v with rfl|rfl<;>cases h
 .cases h;exact⟨rJ.symm,hxr.symm⟩
 .have:=p.C.N y i h;rw[G]at this;exact⟨λW q=>(by have:=(this.1 W q).2;cases this),λr hr=>(by let⟨_,_,s,h⟩:=this.2 r hr;cases h)⟩
 .rcases v with rfl|rfl<;>rcases h with h|h|h<;>cases h
 .rcases v with rfl|rfl<;>cases h
theorem PI.agd(H:gM F)(p:PI F n zX E S m z o d w qJ)(c:d[0]?=Ã g)(e:g.status=Å)(i:m 0=.fv)(b:E.M=.iE 0):qC F n zX E m d w qJ:=by have f:=p.rL c e i;rw[b]at f;have a:iQ E (.kF F.n) E.I:=mj (by rw[b];rfl);refine p.Jc H (T:=.fv) a c e (λh q=>f h<|(p.I.r.r _<|iI c).fc<|yb q) (by rw[b];simp[fR.lW]) (by rw[b];simp[fR.iY]) (p.C.r a (by rw[b];exact ò _) (by rw[b];rfl) (by rw[b];rfl) (λq h=> ?_) (λq h=> ?_) (λr=>⟨λh=>(by cases h),λh=> ?_⟩) (λh=>by rcases h with h|h|h<;>cases h) (λh=>by cases h) λ_ _=>p.C.S (λv q=>by rw[b]at q;cases q) λq=>by rw[b]at q;cases q) (qE<|by rw[b];simp only[fR.rk];omega) (λh=>by cases h);all_goals grind
theorem PI.agf(H:gM F)(p:PI F n zX E S m z o d w qJ)(c:d[0]?=Ã g)(e:g.status=Å)(i:m 0=.fv)(b:E.M=.kF 0):qC F n zX E m d w qJ:=by have f:=p.rL c e i;rw[b]at f;have a:iQ E (.fu .iR) E.I:=mj (by rw[b];rfl);refine p.Jc H (T:=.fv) a c e (λh r=>f h<|(p.I.r.r _<|iI c).fc<|yb r) (by rw[b];rfl) (by rw[b];simp[fR.iY]) (p.C.r a (by rw[b];simp[fR.iY]) (by rw[b];rfl) (by rw[b];rfl) (λr h=> ?_) (λr h=> ?_) (λr=>⟨λh=>(by cases h),λh=>(by cases h)⟩) (λh=>by rcases h with h|h|h<;>cases h) (λh=>by cases h) λh _=>absurd rfl<|h _) (qE<|by rw[b];simp only[fR.rk,ji.rk];omega) (λh=>by cases h);all_goals grind
def An{v:ji}:∀j,(fR.fu v=.go j\/fR.fu v=.kV j\/fR.fu v=.rd j\/fR.fu v=.iy j)->j<=F.n:=λj h=>by rcases h with h|h|h|h<;>cases h
def Ao{v:ji}:∀j,(fR.fu v=.kV j\/fR.fu v=.rd j\/fR.fu v=.iy j)->1<=j:=λj h=>by rcases h with h|h|h<;>cases h
def Ap{v:ji}:∀r,(fR.fu v=.iE r->r<=F.q)/\(fR.fu v=.kF r->r<=F.n):=λr=>⟨λh=>(by cases h),λh=>(by cases h)⟩
def PI.agh(H:gM F)(p:PI F n zX E S m z o d w qJ)(c:d[0]?=Ã g)(e:g.status=Å)(i:m 0=.fv)(b:E.M=.fu .iR):qC F n zX E m d w qJ:=by have f:=p.rL c e i w<|p.I.r.r _<|iI c;rw[b]at f;let⟨k,q,j,l⟩:=f;have a:iQ E (.fu (.lG (.fU k))) E.I:=mj (by rw[b];rfl);exact p.Jc H (T:=.fv) a c e (λr h=>⟨j,IC l h⟩) (by rw[b];rfl) (by rw[b];rfl) (p.C.r a (by rw[b];exact Ç _) (by rw[b];rfl) (by rw[b];rfl) An Ao Ap (λh=>by rcases h with h|h|h<;>cases h) (λh=>by cases h) λh _=>absurd rfl<|h _) (qE<|by rw[b];simp only[fR.rk,ji.rk];omega) λh=>by cases h
theorem PI.agi(H:gM F)(p:PI F n zX E S m z o d w qJ){v:SP}(k:d[0]?=Ã g)(iD:g.status=Å)(ht:m 0=.fv)(b:E.M=.fu (.lG v)):jP F n zX E m d w qJ C 0:=by
 have gI:=iI k;have hJ:=p.rL k iD ht w<|p.I.r.r _ gI;rw[b]at hJ;obtain⟨hd,X⟩:=hJ;have hG:=p.M.C;obtain⟨_,X⟩:=Wp X hG;have Y:E.M.iY F.n<=F.n:=by rw[b];exact Ç _
 rcases X with⟨q,g',es,j,i,P,h4⟩|⟨g',j,i,P⟩|⟨g',c,f,Q,sU,j,i⟩
 .have r:∀e∈es,sT F.toFx e:=by
   grind [xP,mN]
  obtain⟨s,V,l⟩:=P;obtain⟨B,u,t,D,I,K,L,M,N⟩:=p.Y (J:=JM F E.I<|.fu (.lG q)) (T:=.fv) H (kM<|.fu (.lG q)) k (À U) mN j (À U) r (by rcases i with rfl|rfl<;>rfl) (λx y e=>(xZ H.C x y e).elim) (λh a=>⟨hd,IC ⟨s,V,l⟩ a⟩)<|À (l _ _ V).1;have a:iQ E (.fu (.lG q)) E.I:=mj (by rw[b];rfl);exact p.ya H a t D I (À (l _ _ V).1) K (λ_ _=>rfl) L M N (Wd.r p.M a (by rw[b];rfl)<|by rw[b];rfl) (p.C.r a Y (by rw[b];rfl) (by rw[b];rfl) An Ao Ap (λh=>by rcases h with h|h|h<;>cases h) (λh=>by cases h) λh _=>absurd rfl<|h _) (af8 b ht h4) λh=>by cases h
 .obtain⟨T,hT⟩:=jc P;have O:=kX (λl g h=>À h.2.1) P;obtain⟨B,u,t,D,I,K,L,M,N⟩:=p.Y H (kM<|.fu .kK) k (À U) mN j (À U) (xP mN) U (λx y e=>(xZ H.C x y e).elim) hT O;have a:iQ E (.fu .kK) E.I:=mj (by rw[b];rfl);refine p.ya H a t D I O K (λ_ _=>rfl) L M N (Wd.r p.M a (by rw[b];rfl)<|by rw[b];rfl) (p.C.r a Y (by rw[b];rfl) (by rw[b];rfl) An Ao Ap (λ_=> ?_) (λh=>by cases h) λh _=>absurd rfl<|h _) (qE<|by rw[b];simp only[fR.rk,ji.rk];omega) (λh=>by cases h);cases V:E.b with
  |cl c f=>have:=i c f V;have:=(p.C.t c f V).1;omega
  |ju f=>exact(p.C.g f V).1
  |gR r s=>exact(p.C.u r s V).1
 .obtain⟨e1,V⟩:=p.C.t c f Q;rw[b]at V;have V:f=0:=V;subst V;obtain⟨hv,Fu⟩:=(Q▸hG).V5 sU Z;rw[Q,hv]at j;rw[hv]at Fu;rw[Q]at i;have e:(GS.cl c 0).st%fT=0:=by simp only[GS.st,fT];omega
  simp only[e,if_true]at i;have W:=WU (F:=F) (w:=w) (GS.cl c<|0+1).st;obtain⟨T,hT⟩:=jc<|i.jO<|N4 H p W gI;have O:=kX (λl g h=>À h.2.1) i;obtain⟨B,u,t,D,I,K,L,M,N⟩:=p.Y H (kM<|.fu .wr) k (À U) mN j W (zW mN) U (λx y e=>(xZ H.C x y e).elim) hT O;have a:iQ E (.fu .wr) E.I:=mj (by rw[b];rfl);refine p.ya H a t D I O K (λy l=>W.C p.C mN l) L M N (Wd.r (N0 H p W Fu) a (by rw[b];rfl)<|by rw[b];rfl) (p.C.ik a Y An Ao Ap (λl f h=> ?_) (λf h=>by cases h) (λr s h=>by cases h) (λy q h=> ?_) (λh=>by rcases h with h|h|h<;>cases h) (λh=>by cases h) λh _=>absurd rfl<|h _) (qE<|by rw[b];simp only[fR.rk,ji.rk];omega) λh=>by cases h
  .rw[(NZ (E:=E) (x:=.fu .wr) (G:=.cl c (0+1)) (dk:=E.I)<|by rw[b];rfl)];cases h;exact⟨e1,U⟩
  .have:=p.C.N y q h;grind
def PI.agj(H:gM F)(p:PI F n zX E S m z o d w qJ)(c:d[0]?=Ã g)(j:g.status=Å)(k:m 0=.fv)(b:E.M=.fu .wr):jP F n zX E m d w qJ C 0:=by have f:=p.rL c j k w<|p.I.r.r _<|iI c;rw[b]at f;let⟨L,_,M,q,i⟩:=f;have a:iQ E (.fu .ki) E.I:=mj (by rw[b];rfl);let⟨r,s,t⟩:=NH H p mN (À U) (Á U) (À ⟨U,U⟩) λx h e=>xZ H.C x h e;let⟨T,x⟩:=jc i;have e:=kX (λl g h=>À h.2.1) i;obtain⟨B,y,l,u,v,D,G,I,J,K⟩:=p.Ab H (kM<|.fu .ki) c (q w) fh fh r s x e;exact p.ya H a v D G e I (λ_ _=>rfl) J (t y l u) K (Wd.r p.M a (by rw[b];rfl)<|by rw[b];rfl) (p.C.r a (by rw[b];exact Ç _) (by rw[b];rfl) (by rw[b];rfl) An Ao Ap (λh=>by rcases h with h|h|h<;>cases h) (λh=>by cases h) λh _=>absurd rfl<|h _) (qE<|by rw[b];simp only[fR.rk,ji.rk];omega) λh=>by cases h
def PI.agk(H:gM F)(p:PI F n zX E S m z o d w qJ)(i:d[0]?=Ã g)(s:g.status=Å)(t:m 0=.fv)(f:E.M=.fu .gq):jP F n zX E m d w qJ C 0:=by have k:=p.rL i s t w<|p.I.r.r _<|iI i;rw[f]at k;let⟨P,_,v⟩:=k;let⟨a,b,y⟩:=p.C.O f;have q:=p.M.C;rw[y]at q;let⟨Q,D,j⟩:=v 0;simp only[if_true]at j;have c:iQ E (.fu .kK) E.I:=mj (by rw[f];rfl);let⟨T,G⟩:=jc j;have r:=kX (λl g h=>À h.2.1) j;obtain⟨B,u,l,I,J,K,L,M,N⟩:=p.Y H (kM<|.fu .kK) i (À U) mN (D w q.C) (À U) (xP mN) U (λx O e=>(xZ H.C x O e).elim) G r;exact p.ya H c l I J r K (λ_ _=>rfl) L M N (Wd.r p.M c (by rw[f];rfl)<|by rw[f];rfl) (p.C.r c (by rw[f];exact Ç _) (by rw[f];rfl) (by rw[f];rfl) An Ao Ap (λ_=>p.C.B<|À f) (λh=>by cases h) λh _=>absurd rfl<|h _) (qE<|by rw[f];simp only[fR.rk,ji.rk];omega) λh=>by cases h
theorem PI.agl(H:gM F)(p:PI F n zX E S m z o d w qJ){g:Ä}(f:d[0]?=Ã g)(j:g.status=Å)(v:m 0=.fv)(b:E.M=.fu .ki):jP F n zX E m d w qJ C 0:=by
 have D:=iI f;have I:=p.rL f j v w<|p.I.r.r _ D;rw[b]at I;obtain⟨hd,_,J,NK,g',h1,K⟩:=I;have L:=p.M.C;by_cases M:E.b.sm=0
 .have s:=L.M;rw[M]at s;obtain⟨Q,l⟩:=p.h;rw[b]at Q l;obtain⟨B,t,c,q,O⟩:=Nb f<|NK w s;have hw:∀x,Ā F.P g {g with status:=Ü} w x=x:=by
   intro x;unfold Ā;grind
  have r:∀k,k≠0->B[k]?=d[k]?:=by grind
  have V:gE F.P F.S E.Y S m z o B w (qJ++#[]):=by
   rw[Ú];obtain⟨g0,W,T,f3,f4⟩:=p.I.C _ g f;have X:g=g0:=by
    rw[l]at T;cases T with
    |gd=>rfl
    |ni h J=>cases j
   subst X;refine⟨?_,λk y a=> ?_,λk a=>p.I.I k<|by rwa[<-c]⟩
   .rw[show(λi=>i<B.size)=(λi=>i<d.size) by rw[c]];exact p.I.r
   .by_cases e:k=0
    .subst e;rw[q]at a;obtain rfl:=È a;refine⟨g,W,?_,À j,Á v⟩;rw[l];exact .ni j J
    .rw[r k e]at a;exact p.I.C k y a
  refine⟨E,S,m,z,o,B,w,#[],t,c,λh=>h,.r p.N (c.trans p.b) V (by rw[c];exact p.a) p.M p.C (by rw[Ú];exact p.d) (λk y a i=> ?_) (by rw[Ú];exact p.f),Nz (λ_ _=>rfl) (by unfold Ph.N;omega) (by rw[Cv f,if_pos j]) (by rw[Cv q,if_neg fh]) λk a=>NJ<|r k a⟩;by_cases e:k=0
  .grind
  .rw[r k e]at a;exact p.c k y a i
 .obtain⟨a,s,Q⟩:=Wu M;have k:=Q▸L;have Cw:=h1 w _ (by simp only[GS.sm];omega) k.M k.N;have i:km F.C w (w.setCell (gQ F.C)<|ë ç<|(GS.gR a<|s+1).sm-1):=Á ⟨_,_,Á U,U⟩;obtain⟨T,hT⟩:=jc<|K.jO<|N4 H p i D;have V:=kX (λl g h=>À h.2.1) K;obtain⟨B,u,t,c,q,O,q5,q6,q7⟩:=p.Y H (kM<|.fu .gq) f (À U) mN Cw i (Fl mN) (Fo _).2.2.2 (λx l e=>(xZ H.C x l e).elim) hT V;obtain⟨W,l,b3⟩:=p.C.u a (s+1) Q;rw[b]at l;have l:a+(s+1)=1:=l;have ha:a=0:=Z
  have hs0:s=0:=Z
  subst ha hs0;have e:iQ E (.fu .gq) E.I:=mj (by rw[b];rfl);have X:=NZ (E:=E) (x:=.fu .gq) (G:=.gR 0 0) (dk:=E.I) (by rw[b];rfl);refine p.ya H e t c q V O (λj' r=>i.C p.C mN r) q5 q6 q7 (Wd.r (N0 H p i k.ki) e (by rw[b];rfl)<|by rw[b];rfl) (p.C.ik e (by rw[b];exact Ç _) An Ao Ap (λc' r h=>by cases h) (λr h=>by cases h) (λr s h=> ?_) (λy r h=> ?_) (λ_=>by rwa[X]) (λ_=>⟨0,0,U⟩) λh _=>absurd U<|h _) (qE<|by rw[b];simp only[fR.rk,ji.rk];omega) λh=>by cases h
  .rw[X];cases h;exact⟨W,U,λh=>by omega⟩
  .have:=p.C.N y r h;grind
end
section
variable{S:Nat->Jd}{a:Nat->gk}{d:Nat->il}{f:Nat->e7}{b:Array Ä}
def gE.agm(q:gE P i X S a d f b w qJ)(r:b[k]?=Ã g)(h:xF n É g):∃z,d k=.rG n z:=by
 let⟨l,u,v,j,s,m,y,t⟩:=h;let⟨g0,_,o,p,_⟩:=q.C k g r;generalize d k=K at o;cases o with
 |gd=>rw[l]at p;rcases p with e|e<;>cases e
 |ni h e=>simp only[e]at j;cases j
 |sM e z h=>
  simp only[Ļ,Ķ,Prod.mk.injEq]at j;rw[<-j.1]at m;have:s=œ e z:=by simpa using m
  subst this;have:e=n:=by simpa[œ]using t
  subst this;exact⟨z,U⟩
 |mJ e z h=>cases l
def gE.WV(o:gE P i X S a d f b w qJ){x:Ä}(p:b[k]?=Ã x)(j:x.status=Ü)(q:d k=.rG n z):∃g,x=Ļ g #[œ n z] (.recv Ì):=by
 let⟨g,_,l,m,_⟩:=o.C k x p;rw[q]at l;cases l with
 |gd=>rw[j]at m;rcases m with e|e<;>cases e
 |sM _ _ h=>exact⟨g,U⟩
 |mJ _ _ h=>cases j
def agn{g0:Ä}:xF i É (Ļ g0 #[œ i z]<|.recv Ì):= ⟨U,_,_,U,œ i z,fh,U,by simp[œ]⟩
theorem agp{g0:Ä}{r:Nat}(h:w.heap[i]?=Ã (.chan n q Ì j r yQ)):((Ļ g0 #[œ i z]<|.recv Ì).again w).status=Å:=by unfold ď Ļ;simp[œ,h]
theorem agq(h:(g.again w).status=Ü):g.again w=g/\g.status=Ü:=by unfold ď at h|-;grind
end
section
variable{F:Ph}{E C:fO F}{S:Nat->Jd}{a D:Nat->gk}{d:Nat->il}{f:Nat->e7}{b m:Array Ä}{u:ä}{o:Option (Nat×Nat)}
def PI.WW(p:PI F j zX E S a d f b w qJ){x:Ä}(n:b[k]?=Ã x)(h:xF i É x):∃g,g+2<=E.r/\E.N (g+1)=Í/\k=F.L+1+g/\E.I g=i/\∃r,E.C g=.mK r:=by
 let⟨z,l⟩:=p.I.agm n h;have s:=iI n;by_cases o:k=0
 .subst o;rw[p.h.2]at l;revert l;cases E.M with
  |fu v=>cases v<;>intro h<;>cases h
  |_=>intro h;cases h
 by_cases q:k<F.L
 .rw[(p.l k Z q).2.2]at l;cases l
 have t:=p.b;obtain⟨y,rfl⟩:∃y,k=F.L+y:=⟨k-F.L,Z⟩;cases m:E.N y with
 |some e=>rw[(p.k y e Z m).2.1]at l;cases l
 |none=>
  cases y with
  |zero=>rw[ó,(p.m Z m).2]at l;cases l
  |succ g=>
   rw[show F.L+(g+1)=F.L+1+g by omega,(p.g g Z m).2]at l;cases e:E.C g with
   |mK r=>
    rw[e]at l;injection l with l _;exact⟨g,Z,m,Z,l,r,e⟩
   |fu r v=>rw[e]at l;cases v<;>cases l
   |jz r=>rw[e]at l;cases l
   |nY r=>rw[e]at l;cases l
theorem WX(h:sQ n j i k)(c:1<=n)(a:j=i%n):i=j+k*n:=by
 have e:i=j+i/n*n:=by rw[a,Nat.mul_comm];exact(Nat.mod_add_div i n).symm
 have b:k=i/n:=by
  refine Nat.le_antisymm (ă λq=> ?_)<|ă λq=> ?_
  .have:=(h<|i/n).1 q;omega
  .have d:=mt (h k).2 Z;have f:(k+1)*n<=i/n*n:=č n q;grind
 rwa[b]
theorem WY(h:sQ n j i k)(b:1<=n)(c:j=i%n):sQ n j (i+1) (k+1):=by
 have e:=WX h b c;intro a;constructor
 .intro q;have:a*n<=k*n:=č n Z;omega
 .intro q;refine ñ λd=> ?_;have:(k+1)*n<=a*n:=č n d;grind
theorem WZ(h:sQ n j i k)(b:j<n)(c:j≠i%n):sQ n j (i+1) k:=by intro a;rw[h a];grind [ē,ļ]
def PI.agr(H:gM F)(p:PI F j zX E S a d f b w qJ){r:Nat}(hi:b[0]?=Ã g)(iD:g.status=Å)(ht:a 0=.fv)(D:E.M=.iE (r+1)):jP F j zX E a b w qJ o 0:=by
 have hn:=H.C.N;have I5:=(p.C.L<|r+1).1 D;have nZ:E.r=F.n+1:=by unfold fO.r;rw[D];rfl
 obtain⟨hs,hk⟩:=p.h;rw[D]at hs hk;obtain⟨Q,hQ⟩:∃Q,Q=F.q-(r+1):=⟨_,U⟩;obtain⟨c,hj⟩:∃c,c=Q%F.n:=⟨_,U⟩;have hs:S 0=zN F.P (0==0) (E.I c) (F.c Q) (Fe F E.I r):=by rw[hs,hj,hQ];rfl
 have uM:c<F.n:=by rw[hj];exact ż _ hn
 have V:c+2<=E.r:=Z
 have hY:E.Y (E.I c):=Á<|Á ⟨c,V,U⟩;obtain⟨X,s,hc,sW,Je,xT,xU⟩:=p.M.jw c V;have o5:decide (c<E.M.iY F.n)=É:=by rw[D];simp[fR.iY]
 rw[o5]at hc;have Fy:E.M.lW F.q=Q:=by rw[D,hQ];rfl
 rw[Fy]at sW;have eQ:=WX sW hn hj;have hsQ:s<=s*F.n:=â _ hn;have W0:(fR.iE r).lW F.q=Q+1:=by simp only[fR.lW];omega
 have Cz:=(p.I.r).N _ hY;have W3:∀t,(fR.iE r=.go t\/fR.iE r=.kV t\/fR.iE r=.rd t\/fR.iE r=.iy t)->t<=F.n:=λt h=>by rcases h with h|h|h|h<;>cases h
 have W4:∀t,(fR.iE r=.kV t\/fR.iE r=.rd t\/fR.iE r=.iy t)->1<=t:=λt h=>by rcases h with h|h|h<;>cases h
 have W5:∀K,(fR.iE r=.iE K->K<=F.q)/\(fR.iE r=.kF K->K<=F.n):=λK=>⟨λh=>(by cases h;omega),λh=>(by cases h)⟩;have aM:=p.C.S (λv q=>by rw[D]at q;cases q) (λq=>by rw[D]at q;cases q);by_cases hp:∃(k:Nat) (x:Ä),b[k]?=Ã x/\xF (E.I c) É x
 .obtain⟨k,gj,Ci,lX⟩:=hp;obtain⟨t,n7,he,rfl,Aq,K,Ar⟩:=p.WW Ci lX;have ej:=p.C.M _ _ n7 V Aq;subst ej;have hb:=lX.1;obtain⟨IJ,IH⟩:=p.g t n7 he;rw[Ar]at IJ IH;have ags:S (F.L+1+t)=vL F.P (F.L+1+t==0) (E.I t) F.z λx=>match x with
   |some v=>λl g=>v=F.c (t+K*F.n)->pV F.P É F.B (F.I<|F.r<|t+K*F.n) (F.e (E.I t)<|t+K*F.n) .iR l g
   |none=>zS F:=by rw[xR H.C t];exact IJ
  have kQ:F.L+1+t≠0:=Z
  have Ni:a (F.L+1+t)=.fv:=by obtain⟨g0,_,i,e,h4⟩:=p.I.C _ gj Ci;refine h4.resolve_left λq=> ?_;subst q;rw[hb]at e;rcases e with q|q<;>cases q
  have NN:X=#[]:=by
   rcases p.c _ gj Ci hb with⟨h1,_⟩|⟨C,_,_,h2,⟨G,W,_⟩|⟨G,cap,i,e,W,h4⟩⟩
   .exact absurd h1 kQ
   .have:C=t:=Z
    subst this;rw[Ar]at W;cases W
   .have:C=t:=Z
    subst this;rw[hc]at h4;injection h4 with h4;injection h4
  subst NN;rw[Ar]at hc Je xT;simp only[gG.iG]at hc Je xT;have hsr:s=K:=by simp at xT;omega
  subst hsr;obtain⟨m,u,T,Tj,g',gj',q1,q2,q3,q4,q5,q6,q7,q8,q9⟩:=p.I.aeU hi hk ht hs hY hc kQ Ci hb IH Ni ags (kW F (E.I t)<|.fu s .iR) (λI O M e i=>by obtain⟨j3,a1,_,a3,y,_⟩:=p.WW e i;have:=p.C.M _ _ a1 V y;omega);have W6:=q9.kA (J:=JW F (E.I t) t<|.fu s .iR) (λl g h=>by rw[fD _ _ kQ,gy]at h;exact h<|by rw[eQ]);have e10:ft (ft (ft S (F.L+1+t) ((match(Ã (F.c Q):Option ã)with
   |some v=>λl g=>v=F.c (t+s*F.n)->pV F.P É F.B (F.I<|F.r<|t+s*F.n) (F.e (E.I t)<|t+s*F.n) .iR l g
   |none=>zS F))) 0 (Fe F E.I r)) (F.L+1+t) (JW F (E.I t) t (.fu s .iR))=ft (ft S (F.L+1+t) (JW F (E.I t) t (.fu s .iR))) 0 (JM F E.I (.iE r)):=by
   funext k;by_cases v:k=F.L+1+t
   .subst v;rw[gy,fD _ _ kQ,gy]
   .by_cases k2:k=0
    .subst k2;rw[fD _ _<|ÿ kQ,gy,gy];rfl
    .rw[fD _ _ v,fD _ _ k2,fD _ _ v,fD _ _ k2,fD _ _ v]
  rw[e10]at W6;have Pw:=p.C.G (x:=.fu s .iR) V he (λk=>by rw[Ar,NG U];rfl) (λG h=>by rcases h with⟨_,h⟩|h|h<;>cases h;exact Z) (λG h=>by rcases h with h|h|h<;>cases h) (λG h=>by cases h) (λG h=>by cases h);have l:iQ (gK E t<|.fu s .iR) (.iE r) E.I:=⟨by show _=E.M.sp F.n;rw[D];rfl,λ_ _=>rfl⟩;have e:(ik (gK E t<|.fu s .iR) (.iE r) E.b E.I).r=E.r:=l.r;obtain⟨z1,z2,z3,z4,z5⟩:=p.M.G H p.a p.C V;refine⟨ik (gK E t<|.fu s .iR) (.iE r) E.b E.I,_,_,_,_,m,_,u,q1,q2,(λh=>by have h:=h;cases h),.r ((p.N.N H.C V he).ik H.C l) (by rw[e];exact q2.trans p.b) (by rw[Am l];exact W6) ?_ ⟨z4,z5,λC vU=> ?_,z1,z2,λC vU G zL h1=> ?_⟩ (Pw.r l (by show E.M.iY F.n<=_;rw[D];exact ò _) (by show _=E.M.ad F.n;rw[D];rfl) (by show _=E.M.gw;rw[D];rfl) W3 W4 W5 (λh=>by rcases h with h|h|h<;>cases h) (λh=>by cases h) λ_ _=>aM) (by rw[e];exact I7 p.d q8) (λk y M kL=> ?_) λC G a1 a2 a3=> ?_,?_⟩
  .rw[q2];exact(((p.a.r<|by rw[Ar];rfl).G l).Cx<|Ô Fw.symm)
  .have yc:C+2<=E.r:=Z
   show∃X I,(w.setChan (E.I t) _ _ _ _ _ _).heap[E.I C]?=Ã (.chan F.q X (decide<|C<(fR.iE r).iY F.n) I ((gK E t<|.fu s .iR).C C).iG É)/\sQ F.n C ((fR.iE r).lW F.q) I/\((gK E t<|.fu s .iR).C C).iG<=I/\X.size=I-((gK E t<|.fu s .iR).C C).iG/\∀i,i<I-((gK E t<|.fu s .iR).C C).iG->X[i]?=Ã (F.c<|C+(((gK E t<|.fu s .iR).C C).iG+i)*F.n);rw[W0];by_cases O:C=t
   .subst O;rw[jD];refine⟨#[],s+1,by rw[I6 Cz];rfl,WY sW hn hj,Ç _,by simp[gG.iG],λi kT=> ?_⟩;have hi2:i<s+1-(s+1):=kT;omega
   .rw[iH _ O,pb λq=>O<|p.C.M _ _ yc V q];obtain⟨N5,I,y1,y2,y3⟩:=p.M.jw C yc;rw[Fy]at y2;refine⟨N5,I,?_,WZ y2 Z Z,y3⟩;rw[y1,D];rfl
  .have yc:C+2<=E.r:=Z
   have Ak:G<((gK E t<|.fu s .iR).C C).kl:=h1;by_cases O:C=t
   .subst O;rw[jD]at Ak;exact z3 C yc G zL<|by rw[Ar];exact Ak
   .rw[iH _ O]at Ak;exact z3 C yc G zL Ak
  .by_cases v:k=0
   .subst v;rw[q3]at M;obtain rfl:=È M;rw[q4]at kL;cases kL
   .by_cases k2:k=F.L+1+t
    .subst k2;rw[q5]at M;obtain rfl:=È M;rw[q6]at kL;cases kL
    .rw[q7 k v k2]at M;rcases p.c k y M kL with⟨h1,_⟩|⟨C,vU,xY,h2,W|⟨r1,cap,s1,K,W,h4⟩⟩
     .exact absurd h1 v
     .exact Á ⟨C,Z,xY,h2,À (by show∃G,(gK E t _).C C=_/\_;rw[iH _ Z];exact W)⟩
     .have O:C≠t:=Z
      exact Á ⟨C,Z,xY,h2,Á ⟨r1,cap,s1,K,by show(gK E t _).C C=_;rw[iH _ O];exact W,by show(w.setChan (E.I t) _ _ _ _ _ _).heap[E.I C]?=_;rw[pb λq=>O<|p.C.M _ _ vU V q];exact h4⟩⟩
  .have Aa:(gK E t<|.fu s .iR).C C=.jz G:=a2;rw[iH _ (λe=>by subst e;rw[jD]at Aa;cases Aa)]at Aa;exact(p.f C G Z Aa a3).app u
  .refine À ⟨0,by unfold Ph.N;omega,À ?_,λk sY yd=> ?_⟩
   .show((ik (gK E t<|.fu s .iR) (.iE r) E.b E.I).iM _ 0).1<(E.iM a 0).1;rw[Cn,Cn,D];show(fR.iE r).rk F<(fR.iE<|r+1).rk F;simp only[fR.rk];omega
   .show(ik (gK E t<|.fu s .iR) (.iE r) E.b E.I).iM _ k=E.iM a k\/xM ((ik (gK E t<|.fu s .iR) (.iE r) E.b E.I).iM _ k) (E.iM a k);by_cases k2:k=F.L+1+t
    .subst k2;refine Á<|À ?_;rw[sS H.C (E:=ik (gK E t<|.fu s .iR) (.iE r) E.b E.I) (show E.N (t+1)=Í from he),sS H.C he];show((gK E t<|.fu s .iR).C t).rk F<(E.C t).rk F;rw[jD,Ar];simp only[gG.rk,ji.rk];have hm:F.n+3000<=(F.n+3000)*(F.q+3-s):=â _ Z;omega
    .refine À (xN (λh=>absurd h yd) (λ_ _=>rfl) (λ_=>rfl) (λ_ _=>rfl) (λh1 _=> ?_)<|by rw[fD _ _ yd,fD _ _ k2]);show((gK E t<|.fu s .iR).C _).rk F=_;rw[iH _ Z]
 .obtain⟨m,u,T,g',q1,q2,q3,q4,q5,q6,q7⟩:=p.I.iE hi hk ht hs hY hc Z λk x hkx lX=>hp ⟨k,x,hkx,lX⟩;have e0:d=ft d 0 (kM<|.iE r):=by
   funext k;by_cases v:k=0
   .subst v;rw[gy,hk];rfl
   .rw[fD _ _ v]
  rw[e0]at q7;have l:iQ E (.iE r) E.I:=mj (by rw[D];rfl);have e:(ik E (.iE r) E.b E.I).r=E.r:=l.r;obtain⟨z1,z2,z3,z4,z5⟩:=p.M.G H p.a p.C V;refine⟨ik E (.iE r) E.b E.I,_,_,_,_,m,_,u,q1,q2,(λh=>by have h:=h;cases h),.r (p.N.ik H.C l) (by rw[e];exact q2.trans p.b) (by rw[Am l];exact q7) ?_ ⟨z4,z5,λC vU=> ?_,z1,z2,λC vU=>z3 C Z⟩ (p.C.r l (by rw[D];exact ò _) (by rw[D];rfl) (by rw[D];rfl) W3 W4 W5 (λh=>by rcases h with h|h|h<;>cases h) (λh=>by cases h) λ_ _=>aM) (by rw[e];exact I7 p.d q6) (λk y M kL=> ?_) λC G a1 a2 a3=>(p.f C G Z a2 a3).app u,qE<|by rw[D];simp only[fR.rk];omega⟩
  .rw[q2];exact((p.a.G l).Cx<|Ô Fw.symm)
  .have yc:C+2<=E.r:=Z
   show∃X I,(w.setChan (E.I c) _ _ _ _ _ _).heap[E.I C]?=Ã (.chan F.q X (decide<|C<(fR.iE r).iY F.n) I (E.C C).iG É)/\sQ F.n C ((fR.iE r).lW F.q) I/\(E.C C).iG<=I/\X.size=I-(E.C C).iG/\∀i,i<I-(E.C C).iG->X[i]?=Ã (F.c<|C+((E.C C).iG+i)*F.n);rw[W0];by_cases O:C=c
   .subst O;refine⟨X.push<|F.c Q,s+1,by rw[I6 Cz];rfl,WY sW hn hj,Z,by rw[Array.size_push];omega,λi kT=> ?_⟩;rw[Array.getElem?_push];by_cases G:i=X.size
    .rw[if_pos G,eQ,show(E.C C).iG+i=s by omega]
    .rw[if_neg G];exact xU i Z
   .rw[pb λq=>O<|p.C.M _ _ yc V q];obtain⟨N5,I,y1,y2,y3⟩:=p.M.jw C yc;rw[Fy]at y2;refine⟨N5,I,?_,WZ y2 Z Z,y3⟩;rw[y1,D];rfl
  .by_cases v:k=0
   .subst v;rw[q3]at M;obtain rfl:=È M;rw[q4]at kL;cases kL
   .rw[q5 k v]at M;rcases p.c k y M kL with⟨h1,_⟩|⟨C,vU,xY,h2,W|⟨r1,cap,s1,K,W,h4⟩⟩
    .exact absurd h1 v
    .exact Á ⟨C,Z,xY,h2,À W⟩
    .have O:C≠c:=λe=>by
      subst e;have G:=(p.g C vU xY).2;rw[W,<-h2]at G;obtain⟨g0,i⟩:=p.I.WV M kL G;exact hp ⟨k,y,M,by rw[i];exact agn⟩
     exact Á ⟨C,Z,xY,h2,Á ⟨r1,cap,s1,K,W,by show(w.setChan (E.I c) _ _ _ _ _ _).heap[E.I C]?=_;rw[pb λq=>O<|p.C.M _ _ vU V q];exact h4⟩⟩
end
section
variable{F:Ph}{E B:fO F}{S:Nat->Jd}{m D:Nat->gk}{o:Nat->il}{G:Nat->e7}{c d:Array Ä}{u:ä}{sl:Option (Nat×Nat)}
theorem PI.agt(H:gM F)(p:PI F n zX E S m o G c w qJ)(hi:c[0]?=Ã g)(ht:m 0=.fv)(l:E.M=.kF (J+1)):jP F n zX E m c w qJ sl 0:=by
 have C:=p.I.r;have hL:=H.C.r;have Nj:=(p.C.L<|J+1).2 l;have nZ:E.r=F.n+1:=by unfold fO.r;rw[l];rfl
 obtain⟨L,Q⟩:=p.h;rw[l]at L Q;obtain⟨j,hj⟩:∃j,j=F.n-(J+1):=⟨_,U⟩;have L:S 0=IB F.P (0==0) (E.I j) (zU F E.I J):=by rw[L,hj];rfl
 have z:j+2<=E.r:=Z
 have X:E.Y (E.I j):=Á<|Á ⟨j,z,U⟩;obtain⟨M,s,hc,sW,Je,xT,xU⟩:=p.M.jw j z;have o5:decide (j<E.M.iY F.n)=É:=by rw[l];simp only[fR.iY];exact decide_eq_false Z
 rw[o5]at hc;have Cz:=C.N _ X;have Cs:(w.setChan (E.I j) F.q M Ì s (E.C j).iG É).heap[E.I j]?=Ã (.chan F.q M Ì s (E.C j).iG É):=I6 Cz;have aM:=p.C.S (λv q=>by rw[l]at q;cases q) (λq=>by rw[l]at q;cases q);obtain⟨d,u,T,g',q1,V,q3,q4,q5,q6,q7,q8,q9⟩:=p.I.kF hi Q ht L X (p.C.o j z).2.2 hc;have e0:o=ft o 0 (kM<|.kF J):=by
  funext k;by_cases B:k=0
  .subst B;rw[gy,Q];rfl
  .rw[fD _ _ B]
 rw[e0]at q9;have v:iQ E (.kF J) E.I:=mj (by rw[l];rfl);have e:(ik E (.kF J) E.b E.I).r=E.r:=v.r;obtain⟨z1,z2,z3,z4,z5⟩:=p.M.G H p.a p.C z;have Cu:=p.d.C ⟨λD I a _=>q6 D I,À U,λD I a x ha hl _=> ?_,λD I a y ha _ hl=> ?_,λD I b _=>q8 D I _,λx _ _=>⟨λJ hr=>hr.appOther q6 Z,λe=>by omega⟩⟩;refine⟨ik E (.kF J) E.b E.I,_,_,_,_,d,_,u,q1,V,(λh=>by have h:=h;cases h),.r (p.N.ik H.C v) (by rw[e];exact V.trans p.b) (by rwa[Am v]) ?_ ⟨z4,z5,λf N=> ?_,z1,z2,λf N=>z3 f Z⟩ (p.C.r v (by rw[l];simp only[fR.iY];omega) (by rw[l];rfl) (by rw[l];rfl) (λi h=> ?_) (λi h=> ?_) (λr'=>⟨λh=>(by cases h),λh=> ?_⟩) (λh=>by rcases h with h|h|h<;>cases h) (λh=>by cases h) λ_ _=>aM) (by rwa[e]) (λk y sN kL=> ?_) λf i W t K=>(p.f f i Z t K).app u,qE<|by rw[l];simp only[fR.rk];omega⟩
 .rw[V];exact((p.a.C<|Ô Fw.symm).G v)
 .have W:f+2<=E.r:=Z
  show∃K t,(w.setChan (E.I j) F.q M Ì s (E.C j).iG É).heap[E.I f]?=Ã (.chan F.q K (decide<|f<(fR.kF J).iY F.n) t (E.C f).iG É)/\sQ F.n f ((fR.kF J).lW F.q) t/\(E.C f).iG<=t/\K.size=t-(E.C f).iG/\∀i,i<t-(E.C f).iG->K[i]?=Ã (F.c<|f+((E.C f).iG+i)*F.n);have agu:(fR.kF J).lW F.q=E.M.lW F.q:=by rw[l];rfl
  rw[agu];by_cases O:f=j
  .subst O;refine⟨M,s,?_,sW,Je,xT,xU⟩;rw[Cs,show decide (f<(fR.kF J).iY F.n)=Ì from decide_eq_true (by simp only[fR.iY];omega)]
  .rw[pb λq=>O<|p.C.M _ _ W z q];obtain⟨K,t,y1,y2⟩:=p.M.jw f W;refine⟨K,t,?_,y2⟩;rw[y1,l];have:decide (f<(fR.kF<|J+1).iY F.n)=decide (f<(fR.kF J).iY F.n):=by
    apply decide_eq_decide.2;simp only[fR.iY];omega
   rw[this]
 .grind
 .grind
 .cases h;omega
 .by_cases B:k=0
  .grind
  .obtain⟨h,t⟩:∃h,c[k]?=Ã h:=by
    grind
   rw[q5 k h B t]at sN;obtain rfl:=È sN;obtain⟨_,N6⟩:=agq kL;rcases p.c k h t N6 with⟨h1,_⟩|⟨f,N,K,W,i|⟨r1,cap,s1,r',i,h4⟩⟩
   .exact absurd h1 B
   .exact Á ⟨f,Z,K,W,À i⟩
   .have O:f≠j:=λe=>by
     subst e;have Jf:=(p.g f N K).2;rw[i,<-W]at Jf;obtain⟨g0,vW⟩:=p.I.WV t N6 Jf;grind [agp]
    exact Á ⟨f,Z,K,W,Á ⟨r1,cap,s1,r',i,by show(w.setChan (E.I j) _ _ _ _ _ _).heap[E.I f]?=_;rwa[pb λq=>O<|p.C.M _ _ N z q]⟩⟩
 .grind
 .grind
def Jg(F:Ph)(zX:π->Prop)(qJ:ä):Prop:=
 (∀p a,touchAt qJ p=Ã a->a.loc.isMemory=Ì->Λ qJ 0 p\/((zX a.loc\/∃x:Č,a.loc=ú x/\x.block=F.C)/\a.kind=.atomic))/\qJ.HandedOver
def N7{f:Nat->Nat}:∀{n:Nat},Ñ n f=0->∀i,i<n->f i=0
 |n+1,h,i,hi=>by
  simp only[Ñ]at h;rcases ģ i n with q|q
  .exact N7 Z i q
  .have:i=n:=Z
   subst this;omega
theorem PI.agv(H:gM F)(p:PI F n zX E S m o G c w qJ)(r:c[0]?=Ã g)(K:g.status=Å)(L:m 0=.fv)(f:E.M=.fu .kK): ∃(B:fO F) (b:Nat->Jd) (D:Nat->gk) (j:Nat->il) (h:Nat->e7) (d:Array Ä) (W:Ð) (u:ä),Ŏ F.P (ð c w sl) 0=(ğ<|ð d W sl,u)/\d.size=c.size/\PI F n zX B b D j h d W (qJ++u)/\B.M=.fV/\Jg F zX (qJ++u):=by
 have v:=iI r;have C:=p.rL r K L w<|p.I.r.r _ v;rw[f]at C;let⟨M,_,g',s,q⟩:=C;have O:=(p.I.r.f _ v).trans M;have t:∀y:Ă,y.act=ė (ő<|fH F.C)->y.act.touch?=Í:=λy i=>by rw[i];rfl
 have nZ:E.r=F.n+1:=by unfold fO.r;rw[f];rfl
 have a:iQ E .fV E.I:=mj (by rw[f];rfl);have e:(ik E .fV E.b E.I).r=E.r:=a.r;let⟨T,Q⟩:=jc q;have V:=kX (λl g h=>À<|H.M _ _ _ h) q;obtain⟨d,y,X,I,Y,J,q3,q4,q5,q7⟩:=p.Ab H (kM .fV) r (s w) fh fh (λy i=>⟨λz l=>(by rw[t y i]at l;cases l),by rw[i];exact p.I.r.N _<|À mN⟩) (λy _ i=>zM p.I.r.l λk j=>by rw[vT j];exact t y i) Q V;have Cu:=p.d.C (xL (λk j=>by rw[vT j];exact t y I) λk j b _ e=>by grind);have l:=p.C.B<|Á<|À f;refine⟨ik E .fV E.b E.I,_,_,_,_,d,w,_,Y,J,.r (p.N.ik H.C a) (by rw[e];exact J.trans p.b) (by rwa[Am a]) (q7.G a) (Wd.r p.M a (by rw[f];rfl)<|by rw[f];rfl) (p.C.r a (by rw[f];exact Ç _) (by rw[f];rfl) (by rw[f];rfl) (λb h=> ?_) (λb h=> ?_) (λb=>⟨λh=>(by cases h),λh=>(by cases h)⟩) (λ_=>l) (λh=>by cases h) λ_ h=>absurd rfl h) (by rwa[e]) ?_ λb j N h k=>(p.f b j Z h k).app _,U,p.d.kF X I O λx FI=> ?_⟩
 .grind
 .grind
 .intro k z b hb;by_cases N:k=0
  .grind
  .rw[q4 k N]at b;obtain⟨z',FG,rfl⟩:=Ù.1 b;let⟨_,hzb⟩:=Fh hb;rcases p.c k z' FG hzb with⟨s,_⟩|⟨j,hj,h,q,h3⟩
   .exact absurd s N
   .exact Á ⟨j,Z,h,q,h3⟩
 .have b:=N7 l x Z;have k:E.M.ad F.n=F.n+1:=by rw[f];rfl
  unfold fO.G at b;rw[k,if_pos Z]at b;cases h:E.N x with
  |none=>rw[h]at b;cases b
  |some j=>
   rw[h]at b;refine⟨j,h,?_⟩;cases j with
   |n5=>cases b
   |fV N=>cases N with
    |jr=>cases b
    |_=>trivial
   |jh N=>trivial
end
section
variable{D:Nat->Prop}{S:Nat->Jd}{G:Nat->gk}{I:Nat->il}{o:Nat->e7}{f:Array Ä}{sl:Option (Nat×Nat)}
def W7{y:Ă}(b:wQ.act=ς k)(c:y.act=į):vN #[wQ,y]:=by
 intro d a;simp at a;rcases a with rfl|rfl
 .rw[b];exact⟨U,fh⟩
 .rw[c];exact⟨U,fh⟩
theorem iL.Fb(h:iL i (λf=>f<n) X o w qJ){v:e7}{y:Ă}(F:0<n)(P:wQ.g=0/\wQ.act=ς n)(Q:y.g=n/\y.act=į)(oI:κ qJ 0=0)(Aq:κ qJ n=0)(V:∀b,¬v.O b)(W:∀b,v.I b->(o 0).I b) (J:∀a,v.r a->X a.block/\(∀k,k<n->¬(o k).C a)/\pS qJ 0 (ú a)) (H:∀a,v.N a->(o 0).N a) (lK:∀a,v.K a->(o 0).K a) (lKO:∀k,k<n->∀a,(o k).K a->¬v.r a) (ld:v.d=0) (lw:v.w=w) (Y:∀b,X b->D b) (W8:∀b,D b->X b\/(b<w.heap.size/\∀f,f<n->¬(o f).M b)):iL i (λf=>f<n+1) D (gi o n v) w (qJ++#[wQ,y]):=by
 have L:=W7 P.2 Q.2;have B:∀f,f<n+1->f=n\/f<n:=λf t=>by omega
 have G:gi o n v n=v:=gO _ _ _;have E:∀f,f<n->gi o n v f=o f:=λf t=>gB o _ Z;have N:∀b,v.M b->(o 0).I b:=λb s=>s.elim (λq=>absurd q (V b)) (W b);have agw:=λf t b s Ma=>(W8 b Ma).elim (h.I f t b s) (λq=>q.2 f t s);refine⟨λf j t S T b s=> ?_,λf j t S T a r=> ?_,λf t b s=> ?_,λf t a r=> ?_,λf t b s=> ?_,λf t a r=> ?_,λf t b s=> ?_,λb s=> ?_,λf t=> ?_,λf t=> ?_,λf t=> ?_,zM h.l λu z=>(L u z).1,λu z=> ?_,λp a c r hl hk=> ?_,λf t a r=> ?_⟩
 .rcases B f t with rfl|m
  .grind
  .rw[E f m]at s;rcases B j S with rfl|I
   .rw[G];intro q;by_cases e:f=0
    .subst e;exact h.m _ m b s (N b q)
    .exact h.o f 0 m F e b s (Á (N b q))
   .rw[E j I];exact h.o f j m I T b s
 .rcases B f t with rfl|m
  .grind
  .rw[E f m]at r;rcases B j S with rfl|I
   .rw[G];rintro(q|q)
    .exact(J a q).2.1 f m (À r)
    .by_cases e:f=0
     .subst e;exact h.g _ m a r (H a q)
     .exact h.h f 0 m F e a r (Á (H a q))
   .rw[E j I];exact h.h f j m I T a r
 .rcases B f t with rfl|m
  .grind
  .rw[E f m]at s|-;exact h.m f m b s
 .rcases B f t with rfl|m
  .rw[G]at r|-;exact λq=>(J a r).2.1 0 F (Á (H a q))
  .rw[E f m]at r|-;exact h.g f m a r
 .rcases B f t with rfl|m
  .rw[G]at s;exact agw 0 F b (Á (N b s))
  .grind
 .rcases B f t with rfl|m
  .rw[G]at r;exact Y _ (r.elim (λq=>(J a q).1) (λq=>h.e 0 F a (Á (H a q))))
  .rw[E f m]at r;exact Y _ (h.e f m a r)
 .rcases B f t with rfl|m
  .rw[G]at s;exact h.fq 0 F b (Á (N b s))
  .rw[E f m]at s;exact h.fq f m b s
 .exact(W8 b s).elim (h.N b) (λq=>q.1)
 .rcases B f t with rfl|m
  .rw[G,lw];exact fE.fQ _ _
  .rw[E f m];exact h.r f m
 .rcases B f t with rfl|m
  .rw[G];have e:=λl=>ae3 P Q oI Aq (l:=l);exact⟨λa r=>absurd r (V _),λa r=>(e _).2 ((h.S 0 F).C a (W _ r)),λa r=>(e _).1 (J a r).2.2,λa r=>(e _).2 ((h.S 0 F).r a (H _ r))⟩
  .rw[E f m];have e:∀u∈#[wQ,y],∀b,u.act.touch?=Ã b->False:=λu z b s=>by rw[(L u z).1]at s;cases s
   exact⟨λa r=>((h.S f m).fi a r).C λu z b s _=>(e u z b s).elim,λa r=>((h.S f m).C a r).r λu z b s _ _=>(e u z b s).elim,λa r=>((h.S f m).I a r).C λu z b s _=>(e u z b s).elim,λa r=>((h.S f m).r a r).r λu z b s _ _=>(e u z b s).elim⟩
 .rw[IF L];rcases B f t with rfl|m
  .grind
  .rw[E f m];exact h.f f m
 .refine(Array.mem_append.1 z).elim (h.q u) λq=> ?_;simp at q;rcases q with rfl|rfl
  .rw[P.2];trivial
  .rw[Q.2];trivial
 .rcases mo r with⟨_,e⟩|⟨_,u,e,q,_⟩
  .exact h.s p a c e hl hk
  .rw[(L u e).1]at q;cases q
 .obtain⟨e,m,q⟩:∃e,e<n/\(o e).K a:=by
   grind
  let⟨I,z2⟩:=h.n e m a q;grind
theorem gE.Fb(p:gE P i X S G I o f w qJ){c b:Ä}{J q:Jd}{T r:gk}{K Kc:il}{m n:e7}(s:f[0]?=Ã g)(L:è P Ì g w=.spawn c b w #[]) (V:∀x y:Ă,(x.g=0/\x.act=ς f.size)->(y.g=f.size/\y.act=į)->iL i (λa=>a<f.size+1) D (gi (gi o 0 m) f.size n) w (qJ++#[x,y])) (hF:kJ P Ì J T m c) (M:c.status=Å) (N:kJ P É q r n b) (O:b.status=Å): ∃d x y,(x.g=0/\x.act=ς f.size)/\(y.g=f.size/\y.act=į)/\Ŏ P (ð f w sl) 0=(ğ<|ð d w sl,#[x,y])/\d.size=f.size+1/\d[0]?=Ã c/\d[f.size]?=Ã b/\(∀k,k≠0->k<f.size->d[k]?=f[k]?)/\ gE P i D (ft (ft S 0 J) f.size q) (ft (ft G 0 T) f.size r) (ft (ft I 0 K) f.size Kc) (gi (gi o 0 m) f.size n) d w (qJ++#[x,y]):=by
 have W:=(Õ.1 s).1;have t:=runT_crowd_spawn (sl:=sl) s L;obtain⟨x,u⟩:∃x:Ă,x={g:=0,fn:=g.frame.fn,pos:=g.frame.place,act:=ς f.size}:=⟨_,U⟩;obtain⟨y,v⟩:∃y:Ă,y={g:=f.size,fn:=b.frame.fn,pos:=g.frame.place,act:=į}:=⟨_,U⟩;have e:((Û 0 g.frame.fn g.frame.place #[]).push {g:=0,fn:=g.frame.fn,pos:=g.frame.place,act:=ς f.size}).push {g:=f.size,fn:=b.frame.fn,pos:=g.frame.place,act:=į}=#[x,y]:=by rw[u,v];simp[Û]
 rw[e]at t;have B:x.g=0/\x.act=ς f.size:=by rw[u];exact⟨U,U⟩
 have C:y.g=f.size/\y.act=į:=by rw[v];exact⟨U,U⟩
 have E:((f.setIfInBounds 0 c).push b)[0]?=Ã c:=by grind
 have F:((f.setIfInBounds 0 c).push b)[f.size]?=Ã b:=by grind
 have H:∀k,k≠0->k<f.size->((f.setIfInBounds 0 c).push b)[k]?=f[k]?:=λk Y h2=>by grind
 refine⟨_,x,y,B,C,t,fh,E,F,H,?_,λk z d=> ?_,λj Q=> ?_⟩
 .simp_all
 .have Fv:k<f.size+1:=by have:=(Õ.1 d).1;simpa using this
  by_cases l:k=f.size
  .subst l;rw[F]at d;obtain rfl:=È d;rw[gy,gy,gy,gO,show(f.size==0)=É from beq_eq_false_iff_ne.2 Z];exact⟨b,N,.gd,À O,À U⟩
  .rw[fD _ _ l,fD _ _ l,fD _ _ l,gB _ _ l];by_cases h:k=0
   .subst h;rw[E]at d;obtain rfl:=È d;rw[gy,gy,gy,gO];exact⟨c,hF,.gd,À M,À U⟩
   .rw[H k h Z]at d;rw[fD _ _ h,fD _ _ h,fD _ _ h,gB _ _ h];exact p.C k z d
 .rw[IF<|W7 B.2 C.2];exact p.I j<|by simp at Q;omega
end
section
variable{F:Ph}{E N:fO F}{S:Nat->Jd}{G Q:Nat->gk}{I:Nat->il}{o:Nat->e7}{f B:Array Ä}{u:ä}{sl:Option (Nat×Nat)}
theorem agx(ok:F.Ok)(h:i≠n)(c:lr F i a)(d:lr F n a):False:=by
 have q:∀{i n:Nat},i=0->n≠0->lr F i a->lr F n a->False:=by
  intro i n g j c d;unfold lr at c d;rw[if_pos g]at c;rw[if_neg j]at d;let⟨k,o,m,e⟩:=c;let⟨b,l,p,f⟩:=d;rcases e with e|e
  .rw[f]at e;have:F.Y=F.I k:=by injection e
   exact ok.C<|Á ⟨k,m,this⟩
  .rw[f]at e;exact ok.Nu b k l o m<|by injection e
 by_cases g:i=0
 .grind
 .by_cases j:n=0
  .grind
  .unfold lr at c d;rw[if_neg g]at c;rw[if_neg j]at d;let⟨b,l,p,f⟩:=c;let⟨m,k,o,e⟩:=d;rw[f]at e;have:=ok.a _ _ l k (by injection e);subst this;omega
theorem agy(ok:F.Ok)(h:lr F i a):(∃k,k<=F.m/\a=iZ F.toFx k)\/∃p,p≠F.f/\a=je F p:=by
 unfold lr at h;by_cases b:i=0
 .rw[if_pos b]at h;obtain⟨k,d,e,c|c⟩:=h
  .grind
  .exact Á ⟨_,ok.Y.1 k d e,c⟩
 .rw[if_neg b]at h;let⟨k,c,_,d⟩:=h;exact Á ⟨_,ok.Y.2 k c,d⟩
def uN(F:Ph)(j:Nat):fR:=if j<F.n then .iy (j+1)else .iE F.q
def ye(E:fO F)(j:Nat):fO F:={E with M:=uN F j}
def PI.agz(H:gM F)(p:PI F j zX E S G I o f w qJ)(hi:f[0]?=Ã g)(iD:g.status=Å)(ht:G 0=.fv)(hx:E.M=.go m): ∃(N:fO F) (c:Nat->Jd) (Q:Nat->gk) (r:Nat->il) (s:Nat->e7) (B:Array Ä) (W:Ð) (u:ä),Ŏ F.P (ð f w sl) 0=(ğ<|ð B W sl,u)/\B.size=f.size+1/\N.M≠ .fV/\PI F j zX N c Q r s B W (qJ++u):=by
 have gI:=iI hi;have C:=p.I.r;have L:=p.a;have hL1:=H.C.r;have hn:=H.C.N;have uM:=p.C.C m<|À hx;have nZ:E.r=m:=by unfold fO.r;rw[hx];rfl
 have jC:f.size=F.L+m:=by rw[p.b,nZ]
 have hJ:=p.rL hi iD ht w<|C.r _ gI;rw[hx]at hJ;obtain⟨hd,g',child,X,W9,zL,Cw,hX,As,agA,agB⟩:=H.go m E.I _ g uM hJ<|C.M gI;have hd:=hd;have hX:=hX;have As:=As;have oI:=(C.f _ gI).trans hd;have Aq:=p.I.I _<|Ç _;have nq:=L.M 0<|À U;obtain⟨m',sZ⟩:∃m',m'=uN F m:=⟨_,U⟩;have s5:(m<F.n/\m'=.iy (m+1))\/(m=F.n/\m'=.iE F.q):=by
  rw[sZ];unfold uN;by_cases q:m<F.n
  .exact À ⟨q,if_pos q⟩
  .exact Á ⟨Z,if_neg q⟩
 have arU:m'.sp F.n=m+1:=by rcases s5 with⟨_,rfl⟩|⟨q,rfl⟩<;>simp only[fR.sp];omega
 have agC:m'.ad F.n=m+1:=by rcases s5 with⟨_,rfl⟩|⟨q,rfl⟩<;>simp only[fR.ad];omega
 have N8:m'.lW F.q=0:=by rcases s5 with⟨_,rfl⟩|⟨q,rfl⟩<;>simp[fR.lW]
 have hmh:m'.iY F.n=0:=by rcases s5 with⟨_,rfl⟩|⟨q,rfl⟩<;>rfl
 have hmr:m'.gw=0:=by rcases s5 with⟨_,rfl⟩|⟨q,rfl⟩<;>rfl
 have FJ:(∀v,m'≠ .fu v)/\m'≠ .fV:=by rcases s5 with⟨_,rfl⟩|⟨q,rfl⟩<;>exact⟨λv h=>(by cases h),λh=>(by cases h)⟩
 have hkM:kM m'=.no:=by rcases s5 with⟨_,rfl⟩|⟨q,rfl⟩<;>rfl
 obtain⟨l0,lY⟩:∃l0:e7,l0={o 0 with O:=λb=>(o 0).O b/\¬X b/\(1<=m->b≠E.I (m-1)),I:=λb=>X b\/(o 0).I b,r:=λa=>(o 0).r a/\¬lr F m a,w:=w}:=⟨_,U⟩;obtain⟨lc,j4⟩:∃lc:e7,lc={O:=λ_=>False,I:=λb=>X b\/(o 0).I b,r:=lr F m,N:=(o 0).N,K:=(o 0).K,d:=0,q:=False,w:=w}:=⟨_,U⟩;have Xa:iL F.S (λi=>i<f.size) E.Y (gi o 0 l0) w qJ:=by
  rw[lY];refine C.C gI (λ_ q=>q.1) (λb q=>À<|q.elim (λz=>À<|hX b z) Á) (λ_ q=>q.1) (λa q=>À<|Á q) U U U (λb hb q=> ?_) λa J q=>C.g _ gI a J.1 q;rcases q with q|q
  .exact hb.2.1 q
  .exact C.m _ gI b hb.1 q
 have z0:gi o 0 l0 0=l0:=gO _ _ _;have At:=L.o m Z uM;have mO:(ye E m).r=m+1:=by show(uN F m).sp F.n=_;rwa[<-sZ]
 have Xb:∀b,(ye E m).Y b->E.Y b\/(1<=m/\b=E.I (m-1)):=λb hb=>by
  rcases hb with q|q|⟨l,t,D⟩
  .exact À<|À q
  .exact À<|Á<|À q
  .rw[mO]at t;by_cases e:l+1=m
   .exact Á ⟨Z,by rw[D,show l=m-1 by omega];rfl⟩
   .exact À<|Á<|Á ⟨l,Z,D⟩
 have N9:∀x y:Ă,(x.g=0/\x.act=ς f.size)->(y.g=f.size/\y.act=į)->iL F.S (λi=>i<f.size+1) (ye E m).Y (gi (gi o 0 l0) f.size lc) w (qJ++#[x,y]):=λx y Jh Ji=>by
  refine Xa.Fb gI Jh Ji oI Aq (by rw[j4];exact λb q=>q) (by rw[z0,j4,lY];exact λb q=>q) (λa J=> ?_) (by rw[z0,j4,lY];exact λb q=>q) (by rw[z0,j4,lY];exact λb q=>q) (λk hk a J q=> ?_) (by rw[j4]) (by rw[j4]) (λb hb=> ?_) λb hb=> ?_
  .have r:lr F m a:=by rwa[j4]at J
   have c:=At a r;refine⟨C.e 0 gI a<|À c,λk hk q=> ?_,(C.S 0 gI).I a c⟩;by_cases e:k=0
   .subst e;rw[z0,lY]at q;rcases q with q|q
    .exact q.2 r
    .exact C.g 0 gI a c q
   .rw[gB _ _ e]at q;exact C.h 0 k gI hk (ÿ e) a c q
  .have c:(o k).K a:=by
    by_cases e:k=0
    .subst e;rwa[z0,lY]at J
    .rwa[gB _ _ e]at J
   rw[j4]at q;exact(C.n k hk a c).2 0 gI<|At a q
  .rcases hb with q|q|⟨l,t,D⟩
   .exact À q
   .exact Á<|À q
   .exact Á<|Á ⟨l,by rw[mO];omega,D⟩
  .rcases Xb b hb with q|⟨t,rfl⟩
   .exact À q
   .obtain⟨a1,a2,a3,a4⟩:=As t;refine Á ⟨C.fq 0 gI _<|À a1,λi kT q=> ?_⟩;by_cases e:i=0
    .subst e;rw[z0,lY]at q;rcases q with q|q|q
     .exact q.2.2 t U
     .exact a2 q
     .exact C.m 0 gI _ a1 q
    .rw[gB _ _ e]at q;exact C.o 0 i gI kT (ÿ e) _ a1 q
 have hWm:ff F.P Ì (JM F E.I m') l0 g':=by
  have r:=Xa.M gI;rw[z0]at r;have s:{l0 with w:=w}=l0:=by rw[lY]
  rw[s]at r;have:=agB l0 r (by rw[lY]) (λb q=>by rwa[lY]) (by rw[lY]) (by rwa[lY]) (by rw[lY]) (by rw[lY]) (by rw[lY]) (λa q=>by rw[lY]at q;exact q.1);rw[sZ];unfold uN;exact this
 have Oa:∀b,lc.M b->(o 0).M b:=λb hb=>by
  rw[j4]at hb;rcases hb with q|q|q
  .exact q.elim
  .exact À<|hX b q
  .exact Á q
 have Xc:∀a,lc.C a->(o 0).C a:=λa J=>by rw[j4]at J;exact J.elim (λq=>À<|At a q) Á
 have Ob:lc.w=w:=by rw[j4]
 have agD:gp lc:=⟨λb hb=>(by rw[j4]at hb;exact hb.elim),λa J q=>(by rw[j4]at J q;exact C.g 0 gI a (At a J) q),λa J hb=>C.I 0 gI _ (Oa _ hb)<|C.e 0 gI a<|Xc a J,λb hb=>(by rw[Ob];exact C.fq 0 gI b<|Oa b hb),λa J=>(by rw[Ob];exact C.N _<|C.e 0 gI a<|Xc a J),λa J=>by
  have c:(o 0).K a:=by rwa[j4]at J
  obtain⟨k1,k2⟩:=C.n 0 gI a c;exact⟨λq=>C.I 0 gI _ (Oa _ q) k1,by rw[Ob];exact C.N _ k1,λq=>by rw[j4]at q;exact k2 0 gI (At a q)⟩⟩
 have hWc:=agA lc agD (λb q=>by rwa[j4]) (by rw[j4]) (by rw[j4]) (by rw[j4];exact λq=>q) (λb=>by rw[j4];exact λq=>q) (by rw[j4]) (by rw[j4]) (λa q=>At a<|by rwa[j4]at q);obtain⟨T,hT⟩:=jc hWm;obtain⟨Tc,hTc⟩:=jc hWc;obtain⟨B,x,y,Jh,Ji,q1,q2,q3,q4,q5,q6⟩:=p.I.Fb (Kc:=if m=0 then .no else kW F (E.I<|m-1) (.mK 0)) hi (Cw w) N9 hT W9 hTc zL;have cs:∀i,i<f.size+1->i=f.size\/i=0\/(i≠0/\i<f.size):=λi hi=>by omega
 have es:gi (gi o 0 l0) f.size lc f.size=lc:=gO _ _ _;have e0:gi (gi o 0 l0) f.size lc 0=l0:=by rwa[gB _ _ Z]
 have en:∀i,i≠0->i≠f.size->gi (gi o 0 l0) f.size lc i=o i:=λi t D=>by rw[gB _ _ D,gB _ _ t]
 have vY:=p.C.z;have Jb:=p.C.h m Z;have agE:∀y,E.nH y->y<m:=λy ⟨e,t,_⟩=>ñ λq=>by rw[p.C.h y Z]at t;cases t
 have Oc:∀i,i<f.size+1->∀a,(gi (gi o 0 l0) f.size lc i).r a->∃k,k<f.size/\(o k).r a:=λi hi a J=>by
  rcases cs i hi with rfl|rfl|⟨t,D⟩
  .rw[es,j4]at J;exact⟨0,gI,At a J⟩
  .rw[e0,lY]at J;exact⟨0,gI,J.1⟩
  .rw[en i t Z]at J;exact⟨i,D,J⟩
 refine⟨ye E m,_,_,_,_,B,w,_,q1,q2,(by show uN F m≠ .fV;rw[<-sZ];exact FJ.2),.r ⟨?_,λt D=> ?_,λl t D=> ?_,λy e t D=> ?_,λi t D=> ?_⟩ (by rw[q2,mO,jC];omega) q6 ?_ ?_ ?_ ?_ (λk z hk hb=> ?_) λl r2 a1 a2 a3=> ?_⟩
 .have c:(0:Nat)≠f.size:=Z
  rw[fD _ _ c,gy,fD _ _ c,gy];rw[sZ];exact⟨U,U⟩
 .by_cases e:m=0
  .have c:f.size=F.L:=Z
   rw[c,gy,gy,if_pos e,if_pos e];show F.h 0=JI F E.c E.S/\_;rw[p.C.J Z];exact⟨U,U⟩
  .rw[fD _ _ Z,fD _ _ Z,fD _ _ Z,fD _ _ Z];exact p.m Z D
 .rw[mO]at t;by_cases e:l+1=m
  .have c:F.L+1+l=f.size:=Z
   rw[c,gy,gy,if_neg Z,if_neg Z];show Cl F (E.I<|m-1) (m-1) 0=JW F (E.I l) l (E.C l)/\_=kW F (E.I l) (E.C l);rw[vY l Z,show m-1=l by omega];exact⟨U,U⟩
  .rw[fD _ _ Z,fD _ _ Z,fD _ _ Z,fD _ _ Z];exact p.g l Z D
 .have s:=ñ λq=>by
   have r:E.N y=Ã e:=D;rw[p.C.h y Z]at r;cases r
  rw[fD _ _ Z,fD _ _ Z,fD _ _ Z,fD _ _ Z,fD _ _ Z,fD _ _ Z];exact p.k y e Z D
 .rw[fD _ _ Z,fD _ _ Z,fD _ _ Z,fD _ _ Z,fD _ _ Z,fD _ _ Z];exact p.l i t D
 .rw[q2];obtain⟨f1,f2⟩:=L.ln Z;refine⟨λi kT a J=> ?_,λy t D a J=> ?_,λ_=> ?_,λ_ k t D=> ?_,λ_ D=> ?_,λl t D r h3 h4=> ?_,λl t D=> ?_,λy s=> ?_,λi kT=> ?_,λi t D=> ?_,λk hk b hb=> ?_,λk hk i kT q=> ?_,λk t D i kT q=> ?_,λl t r D h3 i kT q=> ?_⟩
  .rcases cs i kT with rfl|rfl|⟨t,D⟩
   .rw[es,j4]at J;rcases J with q|q
    .exact agy H.C q
    .exact L.gN 0 gI a<|Á q
   .rw[e0,lY]at J;rcases J with q|q
    .exact L.gN 0 gI a<|À q.1
    .exact L.gN 0 gI a<|Á q
   .rw[en i t Z]at J;exact L.gN i D a J
  .rw[mO]at t;rw[e0,lY];exact⟨L.o y Z D a J,λq=>agx H.C Z q J⟩
  .rw[e0,lY];exact⟨f1,λb hb=>Á<|f2 b hb⟩
  .have Ak:=t;by_cases e:m=0
   .have c:F.L=f.size:=Z
    rw[c,es,j4];exact⟨by show lr F m _;unfold lr;rw[if_pos e];exact⟨k,Z,D,À U⟩,by show lr F m _;unfold lr;rw[if_pos e];exact⟨k,Z,D,Á U⟩⟩
   .rw[en F.L Z Z];exact L.e Z k Ak D
  .by_cases e:m=0
   .have c:F.L=f.size:=Z
    rw[c,es,j4];show(o 0).N (iZ F.toFx E.S.md)/\∀b,E.V E.S.md b->X b\/(o 0).I b;rw[p.C.J Z];show(o 0).N (iZ F.toFx 0)/\∀b,E.V 0 b->X b\/(o 0).I b;rw[p.C.v];exact⟨f1,λb hb=>Á<|f2 b hb⟩
   .rw[en F.L Z Z];exact L.f Z D
  .rw[mO]at t;by_cases e:l+1=m
   .have c:F.L+1+l=f.size:=Z
    rw[c,es,j4];show lr F m _;unfold lr;rw[if_neg Z];exact⟨_,h3,by rw[ē,ļ Z];omega,U⟩
   .rw[en _ Z Z];exact L.h l Z D r h3 h4
  .rw[mO]at t;by_cases e:l+1=m
   .have c:F.L+1+l=f.size:=Z
    rw[c,es,j4];exact⟨f1,λb hb=>Á<|f2 b hb⟩
   .rw[en _ Z Z];exact L.l l Z D
  .have:=agE y s;rw[en _ Z Z];exact L.S y s
  .rcases kT with rfl|⟨y,t,rfl,h3⟩
   .rwa[e0,lY]
   .rw[mO]at t;by_cases e:y=m
    .subst e;rw[<-jC,es,j4];exact λq=>q
    .rw[en _ Z Z];exact L.M _<|Á ⟨y,Z,U,h3⟩
  .rw[en i Z Z];exact L.c i t D
  .obtain⟨b1,b2,c⟩:=L.I k hk b hb;refine⟨b1,λq=> ?_,λi kT q=> ?_⟩
   .rcases Xb b q with q|⟨t,rfl⟩
    .exact b2 q
    .exact c 0 gI (As t).1
   .rcases cs i kT with rfl|rfl|⟨t,D⟩
    .rwa[es,j4]at q
    .rw[e0,lY]at q;exact c 0 gI q.1
    .rw[en i t Z]at q;exact c i D q
  .obtain⟨c,a1,a2⟩:=Oc i kT _ q;exact L.N k hk c a1 a2
  .obtain⟨c,a1,a2⟩:=Oc i kT _ q;exact L.g k t D c a1 a2
  .rw[mO]at t;have n9:r<(E.C l).kl:=h3;obtain⟨c,a1,a2⟩:=Oc i kT _ q;by_cases e:l+1=m
   .rw[vY l Z]at n9;simp only[gG.kl]at n9;omega
   .exact L.d l Z r D n9 c a1 a2
 .have c:=p.M;refine⟨c.C,c.I,λl t=> ?_,c.M,c.S,λl t r D h3=> ?_⟩
  .rw[mO]at t;show∃buf s,w.heap[E.I l]?=Ã (.chan F.q buf (decide<|l<(uN F m).iY F.n) s (E.C l).iG É)/\sQ F.n l ((uN F m).lW F.q) s/\(E.C l).iG<=s/\buf.size=s-(E.C l).iG/\∀i,i<s-(E.C l).iG->buf[i]?=Ã (F.c<|l+((E.C l).iG+i)*F.n);rw[<-sZ,hmh,N8];by_cases e:l+1=m
   .rw[vY l Z];obtain⟨a1,a2,a3,a4⟩:=As Z;rw[show m-1=l by omega]at a3;refine⟨#[],0,by rw[a3];rfl,λi=>⟨λq=>by omega,λq=>by omega⟩,Ç _,U,λi kT=> ?_⟩;simp only[gG.iG]at kT;omega
   .have:=c.jw l Z;rwa[hx]at this
  .rw[mO]at t;have n9:r<(E.C l).kl:=h3;by_cases e:l+1=m
   .rw[vY l Z]at n9;simp only[gG.kl]at n9;omega
   .exact c.N l Z r D n9
 .have h:=p.C;have eo:(ye E m).G=E.G:=by
   funext y;have t:(ye E m).M.ad F.n=E.M.ad F.n:=by show(uN F m).ad F.n=_;rw[<-sZ,agC,hx];rfl
   unfold fO.G;rw[t];rfl
  have Od:(ye E m).M.gw=E.M.gw:=by show(uN F m).gw=_;rw[<-sZ,hmr,hx];rfl
  have emp:(ye E m).M=m':=sZ.symm;refine⟨h.v,λl q=> ?_,λl q=> ?_,λr=>⟨λq=> ?_,λq=> ?_⟩,λq=>by omega,h.I,λl q=>h.z l Z,λl r s6 pd=> ?_,λl s6 pd=> ?_,h.f,λy q=>h.h y Z,λl j3 s6 pd q3'=> ?_,λl q=> ?_,λc reg hc=> ?_,λreg hc=> ?_,λr s hc=> ?_,h.N,λq=> ?_,h.e,h.Y,λl r s6 pd=> ?_,λl r s6 pd=> ?_,λq=> ?_,λ_ _=>h.S (λv q=>by rw[hx]at q;cases q) (λq=>by rw[hx]at q;cases q),h.y,λl r s6 pd=> ?_⟩
  .rw[emp]at q;rcases s5 with⟨_,rfl⟩|⟨_,rfl⟩<;>rcases q with q|q|q|q<;>cases q;omega
  .rw[emp]at q;rcases s5 with⟨_,rfl⟩|⟨_,rfl⟩<;>rcases q with q|q|q<;>cases q;omega
  .rw[emp]at q;rcases s5 with⟨_,rfl⟩|⟨_,rfl⟩<;>cases q;exact Ç _
  .rw[emp]at q;rcases s5 with⟨_,rfl⟩|⟨_,rfl⟩<;>cases q
  .rw[mO]at s6;by_cases e:l+1=m
   .have oa:(∃p,E.C l=.fu r p)\/E.C l=.jz r\/E.C l=.nY r:=pd;rw[vY l Z]at oa;rcases oa with⟨_,q⟩|q|q<;>cases q
   .exact h.d l r Z pd
  .rw[mO]at s6;have oa:E.N (l+1)≠Í:=pd;have:l+1<m:=ñ λq=>oa<|h.h _ Z;obtain⟨a,_⟩:=h.l l Z oa;rw[hx]at a;simp only[fR.iY]at a;omega
  .rw[mO]at s6 pd;have Oe:E.I l=E.I j3:=q3';have key:∀a b,a+1=m->b+2<=E.r->E.I a=E.I b->False:=λa b J hb he=>by
    have t:=(As Z).1;rw[show m-1=a by omega,he]at t;exact C.I 0 gI _ (À t)<|Á<|Á ⟨b,hb,U⟩
   by_cases e:l+1=m
   .by_cases e':j3+1=m
    .omega
    .exact(key l j3 e Z Oe).elim
   .by_cases e':j3+1=m
    .exact(key j3 l e' Z Oe.symm).elim
    .exact h.M l j3 Z Z Oe
  .rw[mO]at q;show¬F.M (E.I l)/\E.I l≠F.Y/\F.S<=E.I l;by_cases e:l+1=m
   .obtain⟨a1,_,_,a4⟩:=As Z;rw[show m-1=l by omega]at a1 a4;have Xd:=C.I 0 gI _<|À a1;exact⟨λq=>Xd<|À q,λq=>Xd<|Á<|À q,a4⟩
   .exact h.o l Z
  .rw[eo,Od];exact h.t c reg hc
  .rw[eo,Od];obtain⟨a1,a2,y,a3,a4⟩:=h.g reg hc;exact⟨a1,a2,y,Z,a4⟩
  .rw[eo,Od];obtain⟨a1,a2,a3⟩:=h.u r s hc;refine⟨a1,a2,λhr=> ?_⟩;obtain⟨y,b1,b2⟩:=a3 hr;exact⟨y,Z,b2⟩
  .rw[emp]at q;rcases q with q|q|q
   .exact absurd q<|FJ.1 _
   .exact absurd q<|FJ.1 _
   .exact absurd q FJ.2
  .rw[mO]at s6;by_cases e:l+1=m
   .have oa:E.C l=.fu r .gq\/E.C l=.fu r .kK\/E.C l=.jz r:=pd;rw[vY l Z]at oa;rcases oa with q|q|q<;>cases q
   .exact h.w l r Z pd
  .rw[mO]at s6;by_cases e:l+1=m
   .have oa:E.C l=.fu r .gq:=pd;rw[vY l Z]at oa;cases oa
   .exact h.H l r Z pd
  .rw[emp]at q;exact absurd q<|FJ.1 _
  .rw[mO]at s6;by_cases e:l+1=m
   .have oa:E.C l=.fu r .wr:=pd;rw[vY l Z]at oa;cases oa
   .exact h.D l r Z pd
 .rw[mO];have c:=p.d;rw[nZ]at c;rw[jC]at Jh Ji Aq;exact c.Fb Jh Ji oI Aq (λ⟨e,t,_⟩=>by rw[Jb]at t;cases t) λy ⟨e,t,_⟩=>ñ λq=>by rw[p.C.h y Z]at t;cases t
 .have r:=iI hk;rcases cs k Z with rfl|rfl|⟨k1,k2⟩
  .rw[q4]at hk;obtain rfl:=È hk;rw[zL]at hb;cases hb
  .rw[q3]at hk;obtain rfl:=È hk;rw[W9]at hb;cases hb
  .rw[q5 k k1 k2]at hk;rcases p.c k z hk hb with⟨t,_⟩|⟨l,s,c,D,h3⟩
   .exact absurd t k1
   .exact Á ⟨l,Z,c,D,h3⟩
 .rw[mO]at a1;by_cases e:l+1=m
  .have oa:E.C l=.jz r2:=a2;rw[vY l Z]at oa;cases oa
  .exact(p.f l r2 Z a2 a3).app _
end
section
variable{F:Ph}{E E':fO F}{S:Nat->Jd}{tr o:Nat->gk}{m:Nat->il}{lot:Nat->e7}{gs gs':Array Ä}{w':Ð}{t u:ä}{sl:Option (Nat×Nat)}{sz:Nat}
def PI.at(H:gM F)(p:PI F i zX E S tr m lot gs w t)(d:Nat):PI F i zX E S tr m lot gs (w.at d) t:= ⟨p.b,p.I.at d,p.h,p.m,p.g,p.k,p.l,p.a.Cx<|Ç _,⟨⟨p.M.C.C,p.M.C.M,p.M.C.I,p.M.C.N,p.M.C.r⟩,λk a=>⟨(p.M.I k a).C,(p.M.I k a).M,(p.M.I k a).I,(p.M.I k a).N,(p.M.I k a).r⟩,p.M.jw,λk a=>⟨(p.M.M k a).1,H.S _ _ _ _ _ (p.M.M k a).2 (λ_ _=>rfl) U U U ⟨U,U⟩⟩,p.M.S,p.M.N⟩,p.C,p.d,p.c,p.f⟩
def Go1(F:Ph)(i:Nat)(zX:π->Prop)(gs:Array Ä)(w:Ð)(t:ä)(sl:Option (Nat×Nat))(a:Nat):Prop:=
 ∃(E':fO F) (b:Nat->Jd) (o:Nat->gk) (c:Nat->il) (d:Nat->e7) (gs':Array Ä) (w':Ð) (u:ä),Ŏ F.P (ð gs w sl) a=(ğ<|ð gs' w' sl,u)/\gs'.size=gs.size+1/\E'.M≠ .fV/\PI F i zX E' b o c d gs' w' (t++u)
def agF(F:Ph)(i:Nat)(zX:π->Prop)(gs:Array Ä)(w:Ð)(t:ä)(sl:Option (Nat×Nat))(a:Nat):Prop:=
 ∃(E':fO F) (b:Nat->Jd) (o:Nat->gk) (c:Nat->il) (d:Nat->e7) (gs':Array Ä) (w':Ð) (u:ä),Ŏ F.P (ð gs w sl) a=(ğ<|ð gs' w' sl,u)/\gs'.size=gs.size/\PI F i zX E' b o c d gs' w' (t++u)/\E'.M=.fV/\Jg F zX (t++u)
def PI.agG(H:gM F)(p:PI F i zX E S tr m lot gs w t)(l:E.M≠ .fV)(a:gs[n]?=Ã g)(c:g.status=Å):jP F i zX E tr gs w t sl n\/qC F i zX E tr gs w t\/Go1 F i zX gs w t sl n\/agF F i zX gs w t sl n:=by
 have z:=iI a;have B:=p.b;cases b:tr n with
 |jB k=>
  obtain⟨gs',w',u,o,e,d,f,j,q⟩:=p.fi H a b;exact À ⟨E,S,o,m,e,gs',w',u,d,f,λh=>h,j,q⟩
 |fv=>
  by_cases s:n=0
  .subst s;cases h:E.M with
   |go j=>exact Á<|Á<|À<|p.agz H a c b h
   |kV j=>exact Á<|À<|p.af9 H a c b h
   |rd j=>exact À<|p.aga H a c b h
   |iy j=>exact À<|p.agc H a c b h
   |iE r=>cases r with
    |zero=>exact Á<|À<|p.agd H a c b h
    |succ r=>exact À<|p.agr H a c b h
   |kF r=>cases r with
    |zero=>exact Á<|À<|p.agf H a c b h
    |succ r=>exact À<|p.agt H a b h
   |fu v=>cases v with
    |iR=>exact Á<|À<|p.agh H a c b h
    |lG q=>exact À<|p.agi H a c b h
    |wr=>exact À<|p.agj H a c b h
    |ki=>exact À<|p.agl H a c b h
    |gq=>exact À<|p.agk H a c b h
    |kK=>exact Á<|Á<|Á<|p.agv H a c b h
   |fV=>exact absurd h l
  by_cases y:n<F.L
  .exact À<|p.af7 H Z y a c
  obtain⟨x,rfl⟩:∃x,n=F.L+x:=⟨n-F.L,Z⟩;have f:x<E.r:=Z
  cases d:E.N x with
  |some e=>cases e with
   |n5=>exact Á<|À<|p.afK H f d a c b
   |fV v=>cases v with
    |jr=>exact À<|p.afN H f d a c b
    |iy=>exact À<|p.afR H f d a c b
    |gq W=>exact À<|p.afS H f d a c b
    |iV W=>exact À<|p.afT H f d a c b
    |im r=>exact À<|p.afU H f d a c b
   |jh N=>exact À<|p.af6 H f d a c
  |none=>cases x with
   |zero=>
    rw[ó]at a b|-;cases h:E.S with
    |kA k=>exact Á<|À<|p.afW H f d a c b h
    |mk k=>exact Á<|À<|p.afZ H f d a c b h
    |dn k v=>cases v with
     |jr=>exact À<|p.af0 H f d a c b h
     |iy=>exact À<|p.af2 H f d a c b h
     |gq W=>exact À<|p.af3 H f d a c b h
     |iV W=>exact À<|p.af4 H f d a c b h
     |im r=>exact À<|p.af5 H f d a c b h
   |succ j=>
    rw[show F.L+(j+1)=F.L+1+j by omega]at a b|-;have e:j+2<=E.r:=Z
    cases h:E.C j with
    |mK r=>exact À<|p.afI H e d a c b h
    |fu r v=>cases v with
     |iR=>exact Á<|À<|p.afq H e d a c b h
     |lG q=>exact À<|p.afr H e d a c b h
     |wr=>exact À<|p.afu H e d a c b h
     |ki=>exact À<|p.afx H e d a c b h
     |gq=>exact À<|p.afv H e d a c b h
     |kK=>exact À<|p.afw H e d a c b h
    |jz r=>exact Á<|À<|p.afz H e d a c b h
    |nY r=>exact Á<|À<|p.afA H e d a c b h
def agH{J:Jd}{T:gk}{l:e7}(a:∀l g,J l g->g.status=Å)(h:kJ P yQ J T l g):g.status=Å:=by
 cases T with
 |fv=>exact a _ _<|h _<|fE.fQ _ _
 |jB k=>exact h.1
def gE.Y{Y:Nat->Prop}(c:gE P n Y S tr m lot gs w t)(d:gs[i]?=Ã g)(e:∀l g,S i l g->g.status=Å)(a:g.status≠Ü):g.status=Å:=by
 let⟨g0,f,b,_,_⟩:=c.C i g d;generalize m i=K at b;cases b with
 |gd=>exact agH e f
 |ni _ _=>exact absurd U a
 |sM _ _ _=>exact absurd U a
 |mJ _ _ _=>rfl
def Xe{J:Jd}{p:jv}(a:∀r,p=.im r->0<r){l:e7}(h:Cj P yQ b J p l g):g.status=Å:=by
 cases p with
 |jr=>exact h.2.1
 |iy=>exact h.2.1
 |gq W=>exact h.2.1
 |iV W=>exact h.2.1
 |im r=>cases r with
  |zero=>exact absurd (a 0 U) Z
  |succ r=>exact h.2.1
def Og{J:Jd}{p:ji}{l:e7}(h:pV P yQ i b J p l g):g.status=Å:=by
 cases p with
 |iR=>let⟨k,_,_,T,a,c⟩:=h;exact(c _ _ a).1
 |lG p=>let⟨_,T,a,c⟩:=h;exact(c _ _ a).1
 |wr=>exact h.2.1
 |ki=>exact h.2.1
 |gq=>exact h.2.1
 |kK=>exact h.2.1
def Xf{l:e7}(h:zU F D i l g):g.status=Å:=by
 cases i with
 |zero=>exact Og h
 |succ i=>exact h.1
def agI(H:gM F){x:fR}{l:e7}(h:JM F D x l g):g.status=Å:=by
 cases x with
 |go j=>exact H.I _ _ _ _ h
 |kV j=>let⟨c,h⟩:=h;exact H.I _ _ _ _ h
 |rd j=>exact h.2.1
 |iy j=>exact h.2.1
 |iE r=>cases r with
  |zero=>exact Xf h
  |succ r=>exact h.1
 |kF r=>exact Xf h
 |fu v=>exact Og h
 |fV=>exact H.M _ _ _ h
def PI.Ez(p:PI F i zX E S tr m lot gs w t){x:Nat}(a:x<E.r):∃g,gs[F.L+x]?=Ã g:=by have:=p.b;simp_all
def PI.FK(H:gM F)(p:PI F i zX E S tr m lot gs w t)(d:0<E.r)(e:E.N 0=Í):∃(a:Nat) (g:Ä),gs[a]?=Ã g/\g.status=Å:=by
 have n:=H.C.r;let⟨g,c⟩:=p.Ez d;rw[ó]at c;refine⟨F.L,g,c,p.I.Y c (λl g h=> ?_) λl=> ?_⟩
 .rw[(p.m d e).1]at h;cases j:E.S with
  |kA k=>rw[j]at h;exact H.N _ _ _ h
  |mk k=>rw[j]at h;let⟨a,V,_,_,_,_,h⟩:=h;exact h.2.1
  |dn k v=>
   rw[j]at h;refine Xe (λr V=> ?_) h;subst V;let⟨_,_,r⟩:=p.C.I k;let⟨a,b⟩:=r _ j;rcases p.C.Y k b (by rw[j];exact Ç _)with⟨W,q|q,_⟩|⟨o,s,q,f,_⟩|⟨q,_⟩
   .rw[j]at q;cases q
   .rw[j]at q;cases q
   .rw[j]at q;cases q;exact f
   .exact absurd j<|q _
 .rcases p.c _ g c l with⟨q,_⟩|⟨j,_,_,q,_⟩<;>omega
theorem PI.Jj(H:gM F)(p:PI F i zX E S tr m lot gs w t){x:Nat}{e:gZ}(b:x<E.r)(c:E.N x=Ã e)(d:∀N,e≠ .jh N):∃(h:Nat) (g:Ä),gs[h]?=Ã g/\g.status=Å:=by
 have f:=H.C.r;let⟨g,a⟩:=p.Ez b;refine⟨F.L+x,g,a,p.I.Y a (λl g h=> ?_) λl=> ?_⟩
 .rw[(p.k x e b c).1]at h;cases e with
  |n5=>exact h.2.1
  |fV v=>exact Xe (λr j=>by subst j;exact((p.C.N x _ c).2 r U).1) h
  |jh N=>exact absurd U<|d N
 .rcases p.c _ g a l with⟨q,_⟩|⟨j,_,h,q,_⟩;all_goals grind
def Xg{f:Nat->Nat}:∀{n:Nat},0<Ñ n f->∃i,i<n/\0<f i
 |0,h=>absurd h<|Nat.lt_irrefl _
 |n+1,h=>by
  simp only[Ñ]at h;by_cases q:0<f n
  .exact⟨n,Z,q⟩
  .let⟨i,b,a⟩:=Xg (f:=f) (n:=n) Z;exact⟨i,Z,a⟩
theorem PI.agJ(H:gM F)(p:PI F i zX E S tr m lot gs w t):∃(l:Nat) (g:Ä),gs[l]?=Ã g/\g.status=Å:=by
 have hL:=H.C.r;have jC:=p.b;obtain⟨g,D⟩:∃g,gs[0]?=Ã g:=⟨_,é Z⟩;by_cases P:g.status=Ü
 .rcases p.c 0 g D P with⟨_,u,Q⟩|⟨j,_,_,q,_⟩
  .have nZ:E.r=F.n+1:=by unfold fO.r;rw[u];rfl
   have had:E.M.ad F.n=F.n+1:=by rw[u];rfl
   have Oh:E.M.gw=1:=by rw[u];rfl
   have T:=p.M.C.r;cases o:E.b with
   |cl c G=>
    let⟨h1,h2⟩:=p.C.t c G o;rw[o]at T;let⟨_,_,V⟩:=T;have X:0<c:=by grind
    rw[h1]at X;let⟨x,d,y⟩:=Xg X;unfold fO.G at y;rw[had,if_pos d]at y;cases z:E.N x with
    |some e=>
     rw[z]at y;exact p.Jj H Z z λN q=>by subst q;simp[lH,gZ.kB]at y
    |none=>cases x with
     |zero=>exact p.FK H Z z
     |succ j=>
      let⟨I,B⟩:=p.Ez (x:=j+1) Z;rw[show F.L+(j+1)=F.L+1+j by omega]at B;have J:j+2<=E.r:=Z
      by_cases Y:I.status=Ü
      .rcases p.c _ I B Y with⟨q,_⟩|⟨a,_,_,q,⟨r,b,C⟩|⟨r,cap,s,r',b,C⟩⟩
       .omega
       .have:a=j:=Z
        subst this;have WK:=H.C.I _<|p.C.d a r J<|À ⟨_,b⟩;have Wq:1<=Ñ F.n λl=>(E.C l).gw F l (F.r<|a+r*F.n):=by
         have:=Nx (f:=λl=>(E.C l).gw F l<|F.r<|a+r*F.n) (j:=a) (n:=F.n) Z;simp only[b]at this;have h:gG.gw F a (F.r<|a+r*F.n) (.fu r .ki)=1:=by simp only[gG.gw,if_true];rfl
         grind
        by_cases K:F.r (a+r*F.n)<=E.S.od
        .have M:∀k v,E.S=.dn k v->E.N 0=Í:=λk v h=>by
          cases O:E.N 0 with
          |none=>rfl
          |some e=>have:=p.C.f (by rw[O];simp);rw[this]at h;cases h
         rcases p.C.Y _ WK K with⟨W,q|q,_⟩|⟨r',s,q,_⟩|⟨_,⟨_,q⟩|⟨s,q1,q2⟩⟩
         .exact p.FK H Z<|M _ _ q
         .exact p.FK H Z<|M _ _ q
         .exact p.FK H Z<|M _ _ q
         .omega
         .rw[q1]at C;simp only[GS.sm]at C;omega
        .apply p.FK H Z;cases O:E.N 0 with
         |none=>rfl
         |some e=>
          have:=p.C.f (by rw[O];simp);rw[this]at K;simp only[jk.od]at K;omega
       .have:a=j:=Z
        subst this;let⟨e,k,l,_⟩:=p.M.jw a J;rw[C,u]at l;injection l with l;injection l with _ _ Cs _ _ _;have:decide (a<(fR.fu .ki).iY F.n)=Ì:=decide_eq_true (by simp only[fR.iY];omega);rw[this]at Cs;cases Cs
      .refine⟨_,I,B,p.I.Y B (λl g h=> ?_) Y⟩;rw[(p.g j J z).1]at h;cases a:E.C j with
       |mK r=>rw[a]at h;exact h.1
       |fu r v=>rw[a]at h;exact Og h
       |jz r=>rw[a]at h;exact H.Y _ _ _ _ h
       |nY r=>rw[a]at h;exact h.2.1
   |ju G=>
    let⟨_,_,x,d,_,b⟩:=p.C.g G o;rcases b with b|b
    .exact p.Jj H d b λN q=>by cases q
    .exact p.Jj H d b λN q=>by cases q
   |gR r s=>
    let⟨_,h2,V⟩:=p.C.u r s o;rw[o]at Q;simp only[GS.sm]at Q;let⟨x,d,_,b⟩:=V Z;exact p.Jj H d b λN q=>by cases q
  .omega
 .refine⟨0,g,D,p.I.Y D (λl g h=> ?_) P⟩;rw[p.h.1]at h;exact agI H h
def PI.Jk(p:PI F i zX E S tr m lot gs w t):∀g∈gs,awake g:=by
 intro g e;obtain⟨a,f,rfl⟩:=Array.mem_iff_getElem.1 e;let⟨g0,_,c,d,_⟩:=p.I.C a _<|é f;intro τ b;generalize gs[a]=g at c b;generalize m a=K at c;cases c with
 |gd=>rw[b]at d;rcases d with q|q<;>cases q
 |ni _ _=>cases b
 |sM _ _ _=>cases b
 |mJ _ _ _=>cases b
def agK(H:gM F):∀(k:Nat) (μ:Mu) (E:fO F) (S:Nat->Jd) (tr:Nat->gk) (m:Nat->il) (lot:Nat->e7) (gs:Array Ä) (w:Ð) (sl:Option (Nat×Nat)) (t:ä),F.n+1-E.r=k->E.mu tr gs=μ->PI F i zX E S tr m lot gs w t->E.M≠ .fV-> ∃(N:Nat) (E':fO F) (b:Nat->Jd) (o:Nat->gk) (c:Nat->il) (d:Nat->e7) (gs':Array Ä) (w':Ð) (r:Option (Nat×Nat)) (a:ä),Χ F.P N (ð gs w sl) t=(ğ<|ð gs' w' r,a)/\PI F i zX E' b o c d gs' w' a/\E'.M=.fV/\Jg F zX a:=by
 intro k
 induction k using Ď with
 |_ k ihk=>
  intro μ
  induction (afb F.N).apply μ with
  |intro μ _ V=>
   intro E S tr m lot gs w sl t hk W p z;let⟨a,g,d,r,hi,iD,B⟩:=crowd_pick (P:=F.P) (w:=w) (sl:=sl) p.Jk<|p.agJ H;have p':=p.at H d;have jC:=p.b;rcases p'.agG H (sl:=r) z hi iD with⟨c,e,f,h,j,s,v,u,x,X,l,b,y⟩|⟨c,e,f,h,j,l,b,y⟩|⟨c,e,f,h,j,s,v,u,x,X,l,b⟩|⟨c,e,f,h,j,s,v,u,x,X,l,b,y⟩
   .have Y:=b.b;let⟨N,C,D,G,I,J,K,L,M,O,Q,T⟩:=V _ (W▸y) c e f h j s v r (t++u) Z U b λq=>z<|l q;exact⟨N+1,C,D,G,I,J,K,L,M,O,by simp only[Χ,B,x];exact Q,T⟩
   .have Y:=b.b;have h6:=b.at H w.drawn;exact V _ (W▸y) c e f h j gs w sl t Z U h6 λq=>z<|l q
   .have Y:=b.b;have q:=Co b.C;let⟨N,C,D,G,I,J,K,L,M,O,Q,T⟩:=ihk (F.n+1-c.r) Z _ c e f h j s v r (t++u) U U b l;exact⟨N+1,C,D,G,I,J,K,L,M,O,by simp only[Χ,B,x];exact Q,T⟩
   .exact⟨1,c,e,f,h,j,s,v,r,t++u,by simp only[Χ,B,x],l,b,y⟩
end
end Go.Proofs.Y.fw
namespace Go.Proofs.Y.fw
open Go Go.Conc Go.Proofs.Y.Lift Go.RowKit Go.Conc.Lib Go.ConcR.Gen
section
variable{J:Jd}{l:e7}
def Oi(w:Ð)(b:∀j,l.O j->j<w.heap.size):lV l {l with w:=w} w w #[]:= ⟨Ç _,λ_ h=>À h,b,U,U,U,U,λ_ _ _ _=>rfl,λ_ _ _ _=>rfl,λ_ _ _=>rfl,U,U,U,λe a=>by simp at a,by simp[Ï],U,λ_=>⟨U,λe a=>by simp at a,U⟩,U⟩
def lZ(a:∀j,l.O j->j<l.w.heap.size){w₁:Ð}(r:fE l l.w w₁):∀j,l.O j->j<w₁.heap.size:=λj b=>Ê (a j b) r.r
def Oj{R:Ð->Ð->Prop}{m:Ä->Ð->Prop}:∀{n:Nat} {g:Ä} {l:e7},İ P yQ R à m n g l.w->(∀w c,fE l w c->R w c)->(∀j,l.O j->j<l.w.heap.size)->(∀c d,fE l l.w c->m d c->ff P yQ J {l with w:=c} d)->ff P yQ J l g:=by
 intro n
 induction n with
 |zero=>
  intro g l h j i e;exact(ff.fv λc r=>e c g r<|h c<|j _ _ r).fc
 |succ n p=>
  intro g l h j i e;rcases h with h|⟨s,h⟩
  .exact(ff.fv λc r=>e c g r<|h c<|j _ _ r).fc
  .refine .mk s λc r=> ?_;have f:=h c<|j _ _ r;cases o:è P yQ g c with
   |go d k y=>
    rw[o,ť]at f;let⟨⟨t,u⟩,v⟩:=f;subst t u;exact⟨d,k,#[],{l with w:=k},U,Oi k<|lZ i r,p v (λa b q=>j a b<|yb q) (lZ i r) λa b q x=>e a b (r.fc<|yb q) x⟩
   |_=>rw[o]at f;exact f.elim
def agL{m:Ο}(b:m=ô\/m=î)(w:Ð)(c:∀j,l.O j->j<w.heap.size):lV l {l with d:=Ï l.d #[jI m],w:=w} w w #[jI m]:=by
 refine⟨Ç _,λ_ h=>À h,c,U,U,U,U,λ_ _ _ _=>rfl,λ_ _ _ _=>rfl,λ_ _ _=>rfl,U,U,U,λe a=> ?_,U,U,λ_=>⟨U,λe a=> ?_,U⟩,U⟩
 .have:e=jI m:=by simpa using a
  subst this;rcases b with rfl|rfl
  .exact Á<|Á<|Á<|À U
  .exact Á<|Á<|Á<|Á<|À U
 .have:e=jI m:=by simpa using a
  subst this;rcases b with rfl|rfl<;>rfl
def ff.agM{m:Ο}{b:Ä}(c:m=ô\/m=î)(e:g.status=Å)(f:∀j,l.O j->j<l.w.heap.size)(h:∀a,è P yQ g a=ş b a #[jI m])(i:∀a,fE l l.w a->ff P yQ J {l with d:=Ï l.d #[jI m],w:=a} b):ff P yQ J l g:= .mk e λa r=>⟨b,a,_,_,h a,agL c a<|lZ f r,i a r⟩
def mP(b:Nat)(w:Ð):Prop:=(w.cell? ⟨b,0,Í⟩).isSome=Ì/\(w.cell? ⟨b,1,Í⟩).isSome=Ì
def mP.r(h:mP b w):∃v,w.cell? ⟨b,0,Í⟩=Ã v:=ü.1 h.1
def mP.C(h:mP b w):∃v,w.cell? ⟨b,1,Í⟩=Ã v:=ü.1 h.2
def RS(Ψ:Ð->Prop)(b:Nat)(w a:Ð):Prop:=w.heap.size<=a.heap.size/\(mP b w->mP b a)/\(Ψ w->Ψ a)
def SW(Ψ:Ð->Prop)(l:e7)(b:Nat)(w:Ð):Prop:=(∀j,l.O j->j<w.heap.size)/\mP b w/\Ψ w
def fF{Ψ:Ð->Prop}(h:SW Ψ l b w)(r:RS Ψ b w u):SW Ψ l b u:=⟨λj a=>Ê (h.1 j a) r.1,r.2.1 h.2.1,r.2.2 h.2.2⟩
def lI(Ψ:Ð->Prop)(l:e7)(b:Nat):Prop:=(l.K ⟨b,0,Í⟩\/l.M b)/\(l.K ⟨b,1,Í⟩\/l.M b)/\∀w c:Ð,w.heap.size<=c.heap.size->(∀j,l.M j->c.heap[j]?=w.heap[j]?)->(∀a,l.C a->c.cell? a=w.cell? a)->(∀a,l.C a->c.frozen? a=w.frozen? a)->(∀a,l.K a->(w.cell? a).isSome=Ì->(c.cell? a).isSome=Ì)->Ψ w->Ψ c
def lI.r{Ψ:Ð->Prop}(h:lI Ψ l b)(r:fE l w u):RS Ψ b w u:=⟨r.r,λq=>⟨h.1.elim (λk=>r.S _ k q.1) λm=>(by rw[gF<|r.I b m];exact q.1),h.2.1.elim (λk=>r.S _ k q.2) λm=>(by rw[gF<|r.I b m];exact q.2)⟩,h.2.2 w u r.r r.I r.N r.Y r.S⟩
def jx{Ψ:Ð->Prop}(a:lI Ψ l b)(hF:SW Ψ l b l.w)(c:İ P yQ (RS Ψ b) à (λd e=>ff P yQ J {l with w:=e} d) n g l.w):ff P yQ J l g:= Oj c (λ_ _ r=>a.r r) hF.1 λ_ _ _ h=>h
def nj{Ψ:Ð->Prop}(c:lI Ψ l b)(hF:SW Ψ l b l.w)(h:∀a,SW Ψ l b a->J {l with w:=a} g):ff P yQ J l g:=.fv λa r=>h a<|fF hF<|c.r r
def uO{Ψ:Ð->Prop}(e:lI Ψ l b)(hF:SW Ψ l b l.w){m:Ο}{c:Ä}(f:m=ô\/m=î)(i:g.status=Å)(h:∀a,è P yQ g a=ş c a #[jI m])(j:∀a,SW Ψ l b a->ff P yQ J {l with d:=Ï l.d #[jI m],w:=a} c):ff P yQ J l g:= .agM f i hF.1 h λa r=>j a<|fF hF<|e.r r
end
section
variable{b:ø}{i:List Ů}
def Jl(m:Ο)(c:∀g,m≠.extern g)(d:y.defers=dcall F #[]::i)(e:P.funcs[F]?=Ã s)(f:(s.name== "runtime.NumGoroutine")=É)(j:s.body.isNone=Ì)(k:Extern.findNext s=Í) (l:Extern.find s=Ã λ_=>do mark m;pure Extern.Race.none_) (w:Ð):è P yQ (G {b.at y L with mode:=ù} qX) w=ş (G {b.at ⟨y.tmps,i⟩ L with mode:=ù} qX) w #[jI m]:= stepG_unwind_entry (v:=ı #[]) d e f j k l (by simp[Extern.Race.none_,jI]) (by simp[jI])<|by intro x a;simp[jI]at a;subst a;exact⟨U,λg h=>c g<|Loc.mark.inj h⟩
end
theorem Xh(s:Nat)(h:s%4294967296<2147483648):s&&&2147483648=0:=by
 have e:(2147483648:Nat)=(2^32-1)&&&2147483648:=A
 have a:(2:Nat)^32=4294967296:=A
 rw[e,<-Nat.and_assoc,Ą,a];have c:s%4294967296=(s%4294967296)&&&(2^31-1):=by rw[Ą];have b:(2:Nat)^31=2147483648:=A;rw[b];omega
 grind
theorem CH(s:Int)(a:0<=s)(b:s<1000000*4294967296)(h:s%4294967296<1000000):bits .and Ó s 2147483648=0:=by obtain⟨n,rfl⟩:=Int.eq_ofNat_of_zero_le a;have h:=(bits_nat Ó 63 A ö n 2147483648 Z A).1;grind [Xh]
theorem CI(s:Int)(a:0<=s)(b:s<1000000*4294967296)(h:s%4294967296<1000000):bits .and Ó s 2147483647=s%4294967296:=by have h:=bits_mask Ó 63 A ö 31 A s a Z;grind
def Jm(L:ě):Array Ĭ:=#[{dst:=Ã 113,op:=Ŧ<|ß 0,type:=L.tWgP,pos:= "waitgroup.go:142",after:=#[],guard:=Í},{dst:=Ã 114,op:=Op.nilCheck<|ß 113,type:=0,pos:= "waitgroup.go:142",after:=#[{on:=0,ground:=ý}],guard:=Í},{dst:=Ã 115,op:=Op.fieldAddr L.tWg (ß 114) 2,type:=0,pos:= "waitgroup.go:142",after:=#[{on:=1,ground:=ý}],guard:=Í},{dst:=Ã 116,op:=Ŭ {callee:=Callee.value<|ŧ L.semrelease,args:=#[ß 115,ċ<|Value.bool É,ċ<|ë Ũ 0],argTypes:=#[L.tPU32,4,3]},type:=0,pos:= "waitgroup.go:142",after:=#[{on:=2,ground:=ý}],guard:=Í}]
def Jn(L:ě):Array Ĭ:=#[{dst:=Ã 111,op:=Ŧ<|ß 8,type:=L.tU32,pos:= "waitgroup.go:141",after:=#[],guard:=Í},{dst:=Ã 112,op:=Ω BinOp.sub L.tU32 (ß 111) (ċ<|ë ç 1) L.tU32,type:=L.tU32,pos:= "waitgroup.go:141",after:=#[{on:=0,ground:=ý}],guard:=Í},{dst:=Ã 8,op:=Op.assign<|ß 112,type:=L.tU32,pos:= "waitgroup.go:141",after:=#[{on:=1,ground:=ý},{on:=0,ground:=ũ},{on:=1,ground:=ũ}],guard:=Í}]
def Jo(L:ě)(b:Nat)(t:Array ã)(a:List ø):Ä:=G ((base L.add).at ⟨t,[dcall L.enable #[]]⟩ [Æ (Jm L) [3],ŏ 2,ĵ<|Ģ 33 (Jn L) É,Ρ<|((Ģ 32 #[{dst:=Ã 109,op:=Ŧ<|ß 8,type:=L.tU32,pos:= "waitgroup.go:141",after:=#[],guard:=Í},{dst:=Ã 110,op:=Ω BinOp.neq L.tU32 (ß 109) (ċ<|ë ç 0) L.tU32,type:=4,pos:= "waitgroup.go:141",after:=#[{on:=0,ground:=ý}],guard:=Í}] É).seq<|Τ (ß 110) ο<|Code.exit 1).seq<|(ε 2<|Ģ 34 (Jm L) É).seq<|Ģ 33 (Jn L) É,ŏ 1])<|(base L.done).at {tmps:=#[ì<|Ã {block:=b,off:=0},Â,ì<|Ã {block:=b,off:=0},Â],defers:=[]} [Æ #[{dst:=Ã 2,op:=Ŧ<|ß 0,type:=L.tWgP,pos:= "waitgroup.go:156",after:=#[],guard:=Í},{dst:=Ã 3,op:=Ŭ {callee:=Callee.value<|ŧ L.add,args:=#[ß 2,ċ<|ë Ũ<|-1],argTypes:=#[L.tWgP,3]},type:=0,pos:= "waitgroup.go:156",after:=#[{on:=0,ground:=ý}],guard:=Í}] [1]]::a
section
variable{Ψ:Ð->Prop}{L:ě}{l:e7}{e:Jd}{k:List Ţ}
def agN(H:Ŕ P L)(h:lI Ψ l b)(s:∀a,SW Ψ l b a->ff P É e {l with d:=0,w:=a} (G (f.at (y.put ((Q[i]?).bind (·.dst))<|ı #[])<|Æ Q jJ::k) qX)): ∀(r:Nat) (c:Int) (t u v x z B C D E F I J K M N O S T V W X Y qF rM qG oJ nI pe pf pg s7 rN rO qH qI s8 s9 td tf tg tj tq tu tw pj pn vZ Ol Om On Oo Oq Ot Ou Ov Ow Ox Oy Oz OA OB OC OD OG OH OJ OL OM ON OO OP OQ OS OT OU OV OW OX OY OZ O0 O1 O2 O3 O4 O5 O6 O7 O8 O9 Pa Pd Pe Pf Pg Pj Pk Pl Pm Pn Po Pp Pq Pr Pt Pu Pv Px Py Pz PE PF PG PH:ã) (a:Ð),SW Ψ l b a->(c<=(r:Int)+1/\(r:Int)+1<=c)->r+1<1000000-> ff P É (E8 P É b (ff P É e)<|r+1) {l with d:=1,w:=a} (Jo L b #[ì<|Ã ⟨b,0,Í⟩,t,u,v,x,z,B,C,ë ç c,D,E,F,I,J,K,M,N,O,S,T,V,W,X,Y,qF,rM,qG,oJ,nI,pe,pf,pg,s7,rN,rO,qH,qI,s8,s9,td,tf,tg,tj,tq,tu,tw,pj,pn,vZ,Ol,Om,On,Oo,Oq,Ot,Ou,Ov,Ow,Ox,Oy,Oz,OA,OB,OC,OD,OG,OH,OJ,OL,OM,ON,OO,OP,OQ,OS,OT,OU,OV,OW,OX,OY,OZ,O0,O1,O2,O3,O4,O5,O6,O7,O8,O9,Pa,Pd,Pe,Pf,Pg,Pj,Pk,Pl,Pm,Pn,Po,Pp,Pq,Pr,Pt,Pu,Pv,Px,Py,Pz,PE,PF,PG,ì<|Ã ⟨b,1,Í⟩,PH]<|f.at y (Æ Q (i::jJ)::k)::qX):=by
 intro r;unfold Jo Jm Jn;lib_facts
 induction r with
 |zero=>
  intro c;intros;rename_i a hF p q;have e1:c=1:=Z
  subst e1;clear p q;refine nj (l:={l with d:=1,w:=a}) h hF λj hF=>⟨U,U,Ĝ U U H.f_semrelease<|æ L,_,U,λa n m o=>(ą U U (by k_ne) U H.f_semrelease (Ĕ L) (æ L) (ĕ L) (Ė L) (by simp[þ,gQ]) m o).trans fP,?_⟩;walk_nrm;apply jx (l:={l with d:=1,w:=j}) h hF (n:=50);iterate 17 w_go fF
  refine Î λa g=> ?_;replace hF:=fF hF g;clear g;refine uO (l:={l with d:=1,w:=a}) h hF (Á U) U (λw=>Jl î fh U H.f_enable (Ĥ L) (ĥ L) (Ħ L) (ħ L) w) λCJ hF=> ?_;have oI:Ï 1 #[jI î]=0:=rfl;rw[oI];apply jx (l:={l with d:=0,w:=CJ}) h hF (n:=10);u_leave0 H.f_add fF hF;iterate 2 w_go fF
  u_leave0 H.f_done fF hF
  refine Î λa g=> ?_;replace hF:=fF hF g;clear g;exact s _ hF
 |succ r ih=>
  intro c;intros;rename_i a hF p q;have g1:(c-1)%4294967296=c-1:=Z
  have g2:(c-1 !=0)=Ì:=by simp;omega
  refine nj (l:={l with d:=1,w:=a}) h hF λj hF=>⟨U,U,Ĝ U U H.f_semrelease<|æ L,_,U,λa n m o=>(ą U U (by k_ne) U H.f_semrelease (Ĕ L) (æ L) (ĕ L) (Ė L) (by simp[þ,gQ]) m o).trans fP,?_⟩;walk_nrm;apply jx (l:={l with d:=1,w:=j}) h hF (n:=50);iterate 22 w_go fF
  refine Î λa g=> ?_;replace hF:=fF hF g;clear g;apply ih (c-1)<;>first|exact hF|omega
end
section
variable{b:ø}{a:ō}{k:List Ţ}{cs:List ø}{d:Nat}
def qK(P:Ğ)(d:Nat)(g:Ä):Prop:=∃N,Ź P N d g
def CK(P:Ğ):Jd:=λl g=>qK P l.d g
def Jp{a:Ä}(b:g.status=Å)(h:∀w,è P É g w=ş a w)(c:qK P d a):qK P d g:=let⟨n,q⟩:=c;⟨n+1,.ctl b h q⟩
def arV(f:Q[i]?=Ã o)(g:á o (Ĩ Q a.tmps)=Ì)(j:b.kind≠Đ) (h:∀(w:Ð) (K:ō->Ð->Prop),K y w->uponK o a K ((Þ a.eval o).run P w)) (n:∀w,(Þ a.eval o).events P w #[]=#[]) (p:qK P d (G (b.at y<|Æ Q jJ::k) cs)):qK P d (G (b.at a<|Æ Q (i::jJ)::k) cs):=by
 refine Jp U (λw=> ?_) p;have e:=h w (λx c=>x=y/\c=w) ⟨U,U⟩;have l:listed P b.fn a o w=#[]:=by unfold listed;rw[n w,Ć]
 revert e;generalize m:(Þ a.eval o).run P w=r;intro e;match r,e with
 |.ok (.value v) w',⟨c,x⟩=>subst x;rw[Ń f g j m,l,c]
 |.ok .skip w',⟨c,x⟩=>subst x;rw[Ŗ f g j m,l,c]
def PK:∀{n m d:Nat} {g:Ä},n<=m->Ź P n d g->Ź P m d g
 |0,0,_,_,_,h=>h
 |0,_+1,_,_,_,h=>À h
 |_+1,0,_,_,e,_=>absurd e Z
 |_+1,_+1,_,_,e,h=>h.imp id λ⟨a,b,c,f,i,j⟩=>⟨a,b,c,f,i,PK (Nat.le_of_succ_le_succ e) j⟩
def FL{n:Nat}{ops:Array Oper}{i:Nat}{rest:List Nat}{o:Oper}{a':Act}(hq:QuitsD P n d (G (b.at a'<|.inRegion ops rest::k) cs))(ho:ops[i]?=some o:=by rfl)(hw:Region.wanted o (yielded ops a.tmps)=true:=by rfl)(hk:b.kind≠.early:=by k_ne) (h:∀(w:World) (K:Act->World->Prop),K a' w->uponK o a K ((execOp a.eval o).run P w):=by intro w K hK;go_simp;(try w_num);exact hK) (he:∀w,(execOp a.eval o).events P w #[]=#[]:=by intro _;simp[go_sem, *]): QuitsD P (n+1) d (G (b.at a<|.inRegion ops (i::rest)::k) cs):=by
 refine QuitsD.ctl U (λw=> ?_) hq;have h1:=h w (λx y=>x=a'/\y=w) ⟨U,U⟩;have h2:listed P b.fn a o w=#[]:=by unfold listed;rw[he w,Ć]
 revert h1;generalize hr:(Þ a.eval o).run P w=r;intro h1;match r,h1 with
 |.ok (.value v) w',⟨e1,e2⟩=>subst e2;rw[Ń ho hw hk hr,h2,e1]
 |.ok .skip w',⟨e1,e2⟩=>subst e2;rw[Ŗ ho hw hk hr,h2,e1]
end
section
variable{Ψ:Ð->Prop}{L:ě}{b:Nat}{l:e7}{a:ō}{ops:Array Ĭ}{rest:List Nat}{k:List Ţ}{cs:List ø}
def agO(H:Ŕ P L)(g:lI Ψ l b)(h:qK P 0 (G (f.at (a.put ((ops[i]?).bind (·.dst))<|ı #[])<|Æ ops rest::k) cs)): ∀(r:Nat) (c:Int) (t u v x y z B C D E F I J K M N O Q S T V W X Y qG oJ nI pe pf pg s7 rN rO qH qI s8 s9 td tf tg tj tq tu tw pj pn vZ Ol Om On Oo Oq Ot Ou Ov Ow Ox Oy Oz OA OB OC OD OG OH OJ OL OM ON OO OP OQ OS OT OU OV OW OX OY OZ O0 O1 O2 O3 O4 O5 O6 O7 O8 O9 Pa Pd Pe Pf Pg Pj Pk Pl Pm Pn Po Pp Pq Pr Pt Pu Pv Px Py Pz PE PF PG PH:ã) (e:Ð),SW Ψ l b e->(c<=(r:Int)+1/\(r:Int)+1<=c)->r+1<1000000-> ff P É (E8 P É b (CK P)<|r+1) {l with d:=1,w:=e} (Jo L b #[ì<|Ã ⟨b,0,Í⟩,t,u,v,x,y,z,B,ë ç c,C,D,E,F,I,J,K,M,N,O,Q,S,T,V,W,X,Y,qG,oJ,nI,pe,pf,pg,s7,rN,rO,qH,qI,s8,s9,td,tf,tg,tj,tq,tu,tw,pj,pn,vZ,Ol,Om,On,Oo,Oq,Ot,Ou,Ov,Ow,Ox,Oy,Oz,OA,OB,OC,OD,OG,OH,OJ,OL,OM,ON,OO,OP,OQ,OS,OT,OU,OV,OW,OX,OY,OZ,O0,O1,O2,O3,O4,O5,O6,O7,O8,O9,Pa,Pd,Pe,Pf,Pg,Pj,Pk,Pl,Pm,Pn,Po,Pp,Pq,Pr,Pt,Pu,Pv,Px,Py,Pz,PE,PF,PG,ì<|Ã ⟨b,1,Í⟩,PH]<|f.at a (Æ ops (i::rest)::k)::cs):=by
 intro r;unfold Jo Jm Jn;lib_facts
 induction r with
 |zero=>
  intro c;intros;rename_i e hF o p;have e1:c=1:=Z
  subst e1;clear o p;refine nj (l:={l with d:=1,w:=e}) g hF λq hF=>⟨U,U,Ĝ U U H.f_semrelease<|æ L,_,U,λe n j m=>(ą U U (by k_ne) U H.f_semrelease (Ĕ L) (æ L) (ĕ L) (Ė L) (by simp[þ,gQ]) j m).trans fP,?_⟩;walk_nrm;show qK P 1 _;let⟨n,h⟩:=h;refine⟨n+150,?_⟩;repeat(first|refine FL ?_|q_go)
  q_en H L
  q_leave0 H.f_add
  repeat(first|refine FL ?_|q_go)
  q_leave0 H.f_done
  exact PK Z h
 |succ r ih=>
  intro c;intros;rename_i e hF o p;have g1:(c-1)%4294967296=c-1:=Z
  have g2:(c-1 !=0)=Ì:=by simp;omega
  refine nj (l:={l with d:=1,w:=e}) g hF λq hF=>⟨U,U,Ĝ U U H.f_semrelease<|æ L,_,U,λe n j m=>(ą U U (by k_ne) U H.f_semrelease (Ĕ L) (æ L) (ĕ L) (Ė L) (by simp[þ,gQ]) j m).trans fP,?_⟩;walk_nrm;apply jx (l:={l with d:=1,w:=q}) g hF (n:=50);iterate 22 w_go fF
  refine Î λe s=> ?_;replace hF:=fF hF s;clear s;apply ih (c-1)<;>first|exact hF|omega
end
section
variable{Ψ:Ð->Prop}{L:ě}{l:e7}{k:List Ţ}
def agP(H:Ŕ P L)(J:l.K ⟨b,0,Í⟩/\l.K ⟨b,1,Í⟩)(z:lI Ψ l b)(hF:SW Ψ l b l.w)(B:l.d=0)(q:qK P 0 (G (f.at (y.put ((Q[i]?).bind (·.dst))<|ı #[])<|Æ Q jJ::k) qX)): ff P É (λl g=>xK P É b (CK P) (kj l) g) l (G ((base L.done).at ⟨#[ì<|Ã ⟨b,0,Í⟩,Â,Â,Â],[]⟩ [ĵ<|body_done L])<|f.at y (Æ Q (i::jJ)::k)::qX):=by
 lib_facts;simp only[body_done,doneFn,ć];apply jx z hF (n:=40);iterate 2 w_go fF
 u_call H.f_add (nm_add L) addFn fF hF
 iterate 11 w_go fF
 u_conv H.underlying_tWgP H.room_tWg (mP.r hF.2.1).choose_spec fF hF
 refine Î λa g=> ?_;replace hF:=fF hF g;clear g;refine nj (l:={l with w:=a}) z hF λc hF=>⟨B,U,_,λ_=>Ē Į fh U U (by k_ne) U H.f_relMerge (x_relMerge_n L) (x_relMerge_b L) (x_relMerge_x L) (x_relMerge_f L) (by simp[þ,fH]),?_⟩;walk_nrm;have e:lI (λ_=>True) (kj {l with w:=c}) b:=⟨À J.1,À J.2,λ_ _ _ _ _ _ _ _=>trivial⟩;have C:SW (λ_=>True) (kj {l with w:=c}) b (kj {l with w:=c}).w:=⟨λj h=>h.elim,hF.2.1,trivial⟩;have M:(kj {l with w:=c}).d=0:=B;generalize kj {l with w:=c}=l2 at e C M|-;replace hF:=C;clear C z B;apply jx e hF (n:=10);iterate 3 w_go fF
 refine Î λa g=> ?_;replace hF:=fF hF g;clear g;refine uO (l:={l2 with w:=a}) e hF (À U) U (λ_=>Ę ô fh U U (by k_ne) U H.f_disable (ń L) (Ņ L) (ņ L)<|Ň L) λT hF=> ?_;walk_nrm;have V:Ï l2.d #[jI ô]=1:=by rw[M];rfl
 rw[V];apply jx (l:={l2 with d:=1,w:=T}) e hF (n:=50);iterate 2 w_go fF
 u_defer fF hF
 iterate 8 w_go fF
 u_bub fF hF
 iterate 11 w_go fF
 u_call H.f_uAdd (nm_uAdd L) uAddFn fF hF
 iterate 10 w_go fF
 refine Î λa g=> ?_;replace hF:=fF hF g;clear g;refine nj (l:={l2 with d:=1,w:=a}) e hF λc hF=>⟨U,U,λv=>⟨_,λa p D=>(Ľ U U (by k_ne) U H.f_addU64 (Ž L) (ž L) (ſ L) Ó (Α L) U U p D).trans fP,?_⟩⟩;walk_nrm;have N:Ó.wrap (v+18446744069414584320)=Ó.wrap (v+pU):=rfl;rw[N];clear N;obtain⟨s,E⟩:∃s,Ó.wrap (v+pU)=s:=⟨_,U⟩;simp only[E];have F:0<=s:=by rw[<-E];have:Ó.wrap (v+pU)=(v+pU)%18446744073709551616:=rfl;rw[this];omega
 clear E v;by_cases o:s=0\/(fT<=s/\s<1000000*fT/\s%fT<1000000)
 .rw[if_pos o];by_cases m:s=0;focus
   subst m;clear o F
  rotate_left;focus
   have W:=o.resolve_left m;clear o m F;let⟨X,Y,c6⟩:=W;have q4:(4294967296:Int)<=s:=X;have I:s<1000000*4294967296:=Y;have O:s%4294967296<1000000:=c6;have f1:=CH s Z I O;have t:=CI s Z I O;obtain⟨x,g1⟩:∃x,(s/4294967296+2147483648)%4294967296-2147483648=x:=⟨_,U⟩;have g2:¬x<0:=Z
   have g3:0<x:=Z
   by_cases u:s%4294967296=0;focus rw[u]at t
   rotate_left;focus
    obtain⟨r,g4⟩:∃r,s%4294967296=r:=⟨_,U⟩;rw[g4]at t u;have S:r%4294967296=r:=Z
    have g6:(r !=0)=Ì:=by simpa using u
  all_goals
   show qK P 1 _;let⟨n,q⟩:=q;refine⟨n+150,?_⟩;repeat(first|refine FL ?_|q_go)
   q_leave1 H.f_uAdd
   repeat(first|refine FL ?_|q_go)
   q_en H L
   q_leave0 H.f_add
   repeat(first|refine FL ?_|q_go)
   q_leave0 H.f_done
   exact PK Z q
 .rw[if_neg o];by_cases m:0<s/\s<1000000
  .rw[if_pos m];let⟨q4,I⟩:=m;clear o F;have f1:=CH s Z Z Z;have t:=CI s Z Z Z;have g1:(s/4294967296+2147483648)%4294967296-2147483648=0:=Z
   have S:s%4294967296=s:=Z
   rw[S]at t;have g6:(s !=0)=Ì:=by simp;omega
   have X:(s==0)=É:=by simp;omega
   have O:(s.toNat:Int)=s:=Z
   apply jx (l:={l2 with d:=1,w:=c}) e hF (n:=150);iterate 3 w_go fF
   u_leave1 H.f_uAdd fF hF
   iterate 89 w_go fF
   u_call H.f_uLoad (ů L) Ξ fF hF
   iterate 9 w_go fF
   refine Î λa g=> ?_;replace hF:=fF hF g;clear g;refine nj (l:={l2 with d:=1,w:=a}) e hF λc hF=>⟨U,U,λv=>⟨_,λa p=>ę U U (by k_ne) U H.f_loadU64 (ň L) (ŉ L) (Ŋ L) Ó (ŋ L) U p,?_⟩⟩;show ff P É (if v=(s.toNat:Int)then IN P É b (CK P) s.toNat else λ_ _=>True) _ _;by_cases u:v=(s.toNat:Int)
   .rw[if_pos u];rw[O]at u;subst u;walk_nrm;have Y:(v !=v)=É:=fh
    apply jx (l:={l2 with d:=1,w:=c}) e hF (n:=150);iterate 3 w_go fF
    u_leave1 H.f_uLoad fF hF
    iterate 10 w_go fF
    u_call H.f_uStore (nm_uStore L) uStoreFn fF hF
    iterate 5 w_go fF
    refine Î λa g=> ?_;replace hF:=fF hF g;clear g;refine nj (l:={l2 with d:=1,w:=a}) e hF λc hF=>⟨U,U,_,λa x p D=>stepG_store_atomic U U (by k_ne) U H.f_storeU64 (x_storeU64_n L) (x_storeU64_b L) (x_storeU64_x L) (x_storeU64_f L) U U p D,?_⟩;walk_nrm;obtain⟨r,W⟩:∃r,v.toNat=r+1:=⟨v.toNat-1,Z⟩;rw[W];apply jx (l:={l2 with d:=1,w:=c}) e hF (n:=150);iterate 2 w_go fF
    u_leave0 H.f_uStore fF hF
    iterate 24 w_go fF
    refine Î λa g=> ?_;replace hF:=fF hF g;clear g;apply agO H e q r v<;>first|exact hF|omega
   .rw[if_neg u];exact .fv λ_ _=>trivial
  .rw[if_neg m];trivial
end
def RT(_ _:Ð):Prop:=True
def fA{w₁:Ð}(_:True)(_:RT w w₁):True:=trivial
def agQ(s:Int)(a:0<=s)(b:s<9223372036854775808)(h:s%4294967296<1000000):bits .and Ó s 2147483648=0:=by obtain⟨n,rfl⟩:=Int.eq_ofNat_of_zero_le a;have h:=(bits_nat Ó 63 A ö n 2147483648 Z A).1;rw[Xh n Z]at h;simpa using h
def agR(s:Int)(a:0<=s)(c:s<9223372036854775808)(h:s%4294967296<1000000):bits .and Ó s 2147483647=s%4294967296:=by
 have h:=bits_mask Ó 63 A ö 31 A s a Z;have e:((2:Int)^31-1)=2147483647:=A
 have b:((2:Int)^31)=2147483648:=A
 rw[e,b]at h;rw[h];omega
section
variable(P:Ğ)(L:ě)(f:Bool)(b:Nat)(j:Jd)(c:ø)(m:List ø)(l:e7)
def Xi(g:Ä):Prop:=∃T:Array ã,g=G ((base L.wait).at ⟨T,[]⟩ [ĵ<|L7 L,Ρ<|L7 L,ŏ 0]) (c::m)/\T.size=84/\T[0]?=Ã (ì<|Ã ⟨b,0,Í⟩)
def Xj(v:Int)(g:Ä):Prop:=g.status=Å/\
 (∃a,(∀w:Ð,w.cell? (fH b)=Ã (ë Ó v)->w.frozen? (fH b)=É->è P f g w=ş a (w.setCell (fH b)<|ë Ó<|Ó.wrap<|v+1) #[kh<|fH b,mq<|fH b])/\ff P f (if v%fT=0 then Nn P f b j else IQ P f b j) l a)/\
 ∃a,(∀(w:Ð) (x:Int),x≠v->w.cell? (fH b)=Ã (ë Ó x)->w.frozen? (fH b)=É->è P f g w=ş a w #[kh<|fH b])/\∀w,İ P f RT à (λg _=>Xi L b c m g) 10 a w
def PL(g:Ä):Prop:=g.status=Å/\∀v,∃a,(∀w:Ð,w.cell? (fH b)=Ã (ë Ó v)->è P f g w=ş a w #[kh<|fH b])/\(0<=v/\v<1000000->ff P f (E9 P f b j) l a)/\
 ((fT<=v/\v<fT*2147483648/\v%fT<1000000)->∀w,İ P f RT à (λg _=>Xj P L f b j c m l v g) 60 a w)
end
section
variable{Ψ:Ð->Prop}{P:Ğ}{L:ě}{f:Bool}{b B:Nat}{l:e7}{j:Jd}{c:ø}{a:ō}{k:List Ţ}{m:List ø}
def Xk(H:Ŕ P L)(p:lI Ψ l b)(J:SW Ψ l b l.w)(u:l.d=1)(z:∀o,SW Ψ l b o->ff P f j {l with d:=0,w:=o} (G (c.at (a.put ((Q[i]?).bind (·.dst))<|ı #[])<|Æ Q jJ::k) m)) (h:Xi L b (c.at a<|Æ Q (i::jJ)::k) m g) (w:Ð):İ P f RT à (λg _=>PL P L f b j (c.at a<|Æ Q (i::jJ)::k) m l g) 30 g w:=by
 lib_facts;obtain⟨T,rfl,V,K⟩:=h;obtain⟨v0,v1,v2,v3,v4,v5,v6,v7,v8,v9,v10,v11,v12,v13,v14,v15,v16,v17,v18,v19,v20,v21,v22,v23,v24,v25,v26,v27,v28,v29,v30,v31,v32,v33,v34,v35,v36,v37,v38,v39,v40,v41,v42,v43,v44,v45,v46,v47,v48,v49,v50,v51,v52,v53,v54,v55,v56,v57,v58,v59,v60,v61,v62,v63,v64,v65,v66,v67,v68,v69,v70,v71,v72,v73,v74,v75,v76,v77,v78,v79,v80,v81,v82,v83,rfl⟩:=array84 T V;simp only[List.getElem?_toArray,List.getElem?_cons_zero,Ķ]at K;subst K;have hF:True:=trivial;simp only[L7,ţ,waitFn,ć];iterate 6 w_go fA
 u_call H.f_uLoad (ů L) Ξ fA hF
 iterate 9 w_go fA
 refine Î λo e=> ?_;clear e hF o;refine⟨U,λv=>⟨_,λo q=>ę U U (by k_ne) U H.f_loadU64 (ň L) (ŉ L) (Ŋ L) Ó (ŋ L) U q,λB=> ?_,λB w=> ?_⟩⟩
 .walk_nrm;let⟨t,x⟩:=B;have W:=CH v Z Z Z;have C:=CI v Z Z Z;have X:(v/4294967296+2147483648)%4294967296-2147483648=0:=Z
  have M:v%4294967296=v:=Z
  rw[M]at C;have hF:=J;apply jx (l:=l) p hF (n:=150);iterate 3 w_go fF
  u_leave1 H.f_uLoad fF hF
  iterate 27 w_go fF
  refine Î λo e=> ?_;replace hF:=fF hF e;clear e;refine uO (l:={l with w:=o}) p hF (Á U) U (λ_=>Ę î fh U U (by k_ne) U H.f_enable (Ĥ L) (ĥ L) (Ħ L)<|ħ L) λD hF=> ?_;have E:Ï l.d #[jI î]=0:=by rw[u];rfl
  rw[E];walk_nrm;apply jx (l:={l with d:=0,w:=D}) p hF (n:=50);iterate 3 w_go fF
  u_conv H.underlying_tWgP H.room_tWg (mP.r hF.2.1).choose_spec fF hF
  refine Î λo e=> ?_;replace hF:=fF hF e;clear e;refine nj (l:={l with d:=0,w:=o}) p hF λr hF=>⟨U,U,_,λ_=>Ē ő fh U U (by k_ne) U H.f_acquire (Ű L) (ű L) (Ų L) (ų L) (by simp[þ,fH]),?_⟩;walk_nrm;by_cases s:v=0
  .subst s;apply jx (l:={l with d:=0,w:=r}) p hF (n:=50);iterate 19 w_go fF
   u_leave0 H.f_wait fF hF
   refine Î λo e=> ?_;replace hF:=fF hF e;clear e;exact z _ hF
  .have S:(v==0)=É:=by simp;omega
   apply jx (l:={l with d:=0,w:=r}) p hF (n:=50);iterate 19 w_go fF
   u_leave0 H.f_wait fF hF
   refine Î λo e=> ?_;replace hF:=fF hF e;clear e;exact z _ hF
 .walk_nrm;let⟨N,O,Y⟩:=B;have q4:(4294967296:Int)<=v:=N;have q5:v<4294967296*2147483648:=O;have F:v%4294967296<1000000:=Y;clear N O;have C:=agR v Z Z F;obtain⟨I,X⟩:∃I,(v/4294967296+2147483648)%4294967296-2147483648=I:=⟨_,U⟩;have g2:(I==0)=É:=by simp;omega
  have g3:(v+1)%18446744073709551616=v+1:=Z
  have yf:Ó.wrap (v+1)=v+1:=IL Z Z;obtain⟨t,g4⟩:∃t,v%4294967296=t:=⟨_,U⟩;have W:=agQ v Z Z F;rw[g4]at C F;have M:t%4294967296=t:=Z
  have hF:True:=trivial;iterate 3 w_go fA
  u_leave1 H.f_uLoad fA hF
  iterate 32 w_go fA
  u_call H.f_uCas (nm_uCas L) uCasFn fA hF
  iterate 11 w_go fA
  refine Î λo e=> ?_;clear e hF o;refine⟨U,⟨_,λo q y=>(stepG_cas_hit (v:=v) (n:=v+1) U U (by k_ne) U H.f_casU64 (Β L) (Γ L) (Δ L) Ó (Ε L) U U U q y).trans (by rw[yf];rfl),?_⟩,_,λo x kQ q y=>stepG_cas_miss (v:=x) (old:=v) (n:=v+1) U U (by k_ne) U H.f_casU64 (Β L) (Γ L) (Δ L) Ó (Ε L) U U U q y kQ,λw=> ?_⟩
  .walk_nrm;have hF:=J;by_cases s:v%fT=0;focus
    rw[if_pos s];have s:v%4294967296=0:=s;have:t=0:=Z
    subst this;apply jx (l:=l) p hF (n:=150);iterate 3 w_go fF
    u_leave1 H.f_uCas fF hF
    iterate 15 w_go fF
    u_conv H.underlying_tPU32 H.room_tU32 (mP.C hF.2.1).choose_spec fF hF
    refine Î λo e=> ?_;replace hF:=fF hF e;clear e;refine nj (l:={l with w:=o}) p hF λr hF=>⟨u,U,_,λ_=>Ē Υ fh U U (by k_ne) U H.f_raceWrite (x_raceWrite_n L) (x_raceWrite_b L) (x_raceWrite_x L) (x_raceWrite_f L) (by simp[þ,gQ]),?_⟩;walk_nrm;apply jx (l:={l with w:=r}) p hF (n:=150);iterate 23 w_go fF
   rotate_left;focus
    rw[if_neg s];have s:¬v%4294967296=0:=s;have S:(t==0)=É:=by simp;omega
    apply jx (l:=l) p hF (n:=150);iterate 3 w_go fF
    u_leave1 H.f_uCas fF hF
    iterate 34 w_go fF
   all_goals
    refine Î λo e=> ?_;replace hF:=fF hF e;clear e;refine nj (l:={l with w:=o}) p hF λr hF=>⟨u,U,U,λo q=>stepG_semacquire_wait U U U H.f_semacquire (ŗ L) (Ř L) (ř L) (Ś L) (by simp[þ,gQ]) q,_,λo n hn q y=>(stepG_semacquire (n:=n) U U (by k_ne) U H.f_semacquire (ŗ L) (Ř L) (ř L) (Ś L) (by simp[þ,gQ]) q hn y).trans fP,?_⟩;walk_nrm;apply jx (l:={l with w:=r}) p hF (n:=50);iterate 6 w_go fF
    u_call H.f_uLoad (ů L) Ξ fF hF
    iterate 9 w_go fF
    refine Î λo e=> ?_;replace hF:=fF hF e;clear e;refine nj (l:={l with w:=o}) p hF λr hF=>⟨u,U,λx=>⟨_,λo q=>ę U U (by k_ne) U H.f_loadU64 (ň L) (ŉ L) (Ŋ L) Ó (ŋ L) U q,?_⟩⟩;show ff P f (if x=0 then E9 P f b j else λ_ _=>True) _ _;by_cases S:x=0
    .subst S;rw[if_pos U];walk_nrm;apply jx (l:={l with w:=r}) p hF (n:=50);iterate 3 w_go fF
     u_leave1 H.f_uLoad fF hF
     iterate 7 w_go fF
     refine Î λo e=> ?_;replace hF:=fF hF e;clear e;refine uO (l:={l with w:=o}) p hF (Á U) U (λ_=>Ę î fh U U (by k_ne) U H.f_enable (Ĥ L) (ĥ L) (Ħ L)<|ħ L) λD hF=> ?_;have E:Ï l.d #[jI î]=0:=by rw[u];rfl
     rw[E];walk_nrm;apply jx (l:={l with d:=0,w:=D}) p hF (n:=50);iterate 3 w_go fF
     u_conv H.underlying_tWgP H.room_tWg (mP.r hF.2.1).choose_spec fF hF
     refine Î λo e=> ?_;replace hF:=fF hF e;clear e;refine nj (l:={l with d:=0,w:=o}) p hF λr hF=>⟨U,U,_,λ_=>Ē ő fh U U (by k_ne) U H.f_acquire (Ű L) (ű L) (Ų L) (ų L) (by simp[þ,fH]),?_⟩;walk_nrm;apply jx (l:={l with d:=0,w:=r}) p hF (n:=50);iterate 9 w_go fF
     u_leave0 H.f_wait fF hF
     refine Î λo e=> ?_;replace hF:=fF hF e;clear e;exact z _ hF
    .rw[if_neg S];exact .fv λ_ _=>trivial
  .walk_nrm;have hF:True:=trivial;iterate 3 w_go fA
   u_leave1 H.f_uCas fA hF
   iterate 5 w_go fA
   exact Î λ_ _=>⟨_,U,fh,fh⟩
end
section
variable{Ψ:Ð->Prop}{L:ě}{l:e7}{e:Jd}{k:List Ţ}
def agS{D:Ð->Ð->Array đ->Prop}{b:Ä->Ð->Prop}(h:İ P yQ RT D b n g w):İ P yQ RT D b n g u:=by
 cases n with
 |zero=>exact λa _=>h a trivial
 |succ n=>exact h.imp (λq a _=>q a trivial) λq=>⟨q.1,λa _=>q.2 a trivial⟩
def Xl{D:Ð->Ð->Array đ->Prop}{b c:Ä->Prop}(d:∀g,b g->∀w,İ P yQ RT D (λg _=>c g) m g w):∀{n:Nat} {g:Ä} {w:Ð},İ P yQ RT D (λg _=>b g) n g w->İ P yQ RT D (λg _=>c g) (n+m) g w:=by
 intro n
 induction n with
 |zero=>intro g w h;rw[Nat.zero_add];exact d g (h w trivial) w
 |succ n i=>
  intro g w h;rcases h with h|⟨j,h⟩
  .exact(d g (h w trivial) w).mono Z
  .rw[show n+1+m=(n+m)+1 by omega];refine Goes.step j λe r=> ?_;have a:=h e r;cases f:è P yQ g e with
   |go k l o=>
    rw[f,ť]at a;rw[ť];exact⟨a.1,i a.2⟩
   |_=>rw[f]at a;exact a.elim
theorem Xm{S:Ä->Prop}(l:∀g,S g->g.status=Å)(h:∀w,İ P yQ RT à (λg _=>S g) (n+1) g w):g.status=Å/\(S g\/∀a,∃b,è P yQ g a=ş b a #[]/\∀w,İ P yQ RT à (λg _=>S g) n b w):=by
 by_cases e:S g
 .grind
 .rcases h default with q|⟨f,q⟩
  .exact absurd (q default trivial) e
  .refine⟨f,Á λa=> ?_⟩;have c:=q a trivial;cases d:è P yQ g a with
   |go b m o=>
    rw[d,ť]at c;let⟨⟨i,j⟩,k⟩:=c;subst i j;exact⟨b,U,λw=>agS k⟩
   |_=>rw[d]at c;exact c.elim
def agT(H:Ŕ P L)(B:60<=j)(D:lI Ψ l b)(E:SW Ψ l b l.w)(C:l.d=1)(F:∀a,SW Ψ l b a->ff P yQ e {l with d:=0,w:=a} (G (f.at (y.put ((Q[i]?).bind (·.dst))<|ı #[])<|Æ Q jJ::k) qX)) (I:n<=j) (h:∀w,İ P yQ RT à (λg _=>PL P L yQ b e (f.at y<|Æ Q (i::jJ)::k) qX l g) n g w):Np P yQ j b e (.fU n) l g:=by
 refine⟨C,λp g=>match p with
  |.fU n=>n<=j/\∀w,İ P yQ RT à (λg _=>PL P L yQ b e (f.at y<|Æ Q (i::jJ)::k) qX l g) n g w
  |.ld v m=>m<=j/\fT<=v/\∀w,İ P yQ RT à (λg _=>Xj P L yQ b e (f.at y (Æ Q (i::jJ)::k)) qX l v g) m g w,⟨I,h⟩,λp g J=> ?_⟩
 match p,J with
 |.fU (n+1),⟨h1,h2⟩=>
  let⟨r,u⟩:=Xm (λg h=>h.1) h2;refine⟨r,h1,u.imp (λq=>⟨ò _,λw a _=>q⟩) λq a=> ?_⟩;let⟨s,c,o⟩:=q a;exact⟨s,c,Z,o⟩
 |.fU 0,⟨_,h2⟩=>
  have q:=h2 default default trivial;refine⟨q.1,λv=> ?_⟩;let⟨s,c,o,x⟩:=q.2 v;refine⟨s,c,?_⟩;by_cases z:0<=v/\v<fT
  .rw[if_pos z];exact λt=>o ⟨z.1,t⟩
  .rw[if_neg z];exact λt=>⟨60,B,B,t.1,x t⟩
 |.ld v (m+1),⟨h1,h0,h2⟩=>
  let⟨r,u⟩:=Xm (λg h=>h.1) h2;refine⟨r,h0,h1,u.imp (λq=>⟨ò _,h0,λw a _=>q⟩) λq a=> ?_⟩;let⟨s,c,o⟩:=q a;exact⟨s,c,Z,h0,o⟩
 |.ld v 0,⟨_,h0,h2⟩=>
  let⟨r,⟨m,c,o⟩,q,x,s⟩:=h2 default default trivial;exact⟨r,h0,⟨m,c,o⟩,q,x,40,Z,Z,λw=>Xl (λg t=>Xk H D E C F t)<|s w⟩
def Xn(H:Ŕ P L)(o:60<=j)(a:lI Ψ l b)(hF:SW Ψ l b l.w)(p:l.d=0)(h:∀c,SW Ψ l b c->ff P yQ e {l with d:=0,w:=c} (G (f.at (y.put ((Q[i]?).bind (·.dst))<|ı #[])<|Æ Q jJ::k) qX)): ff P yQ (pV P yQ j b e .iR) l (G ((base L.wait).at ⟨#[ì<|Ã ⟨b,0,Í⟩,Â,Â,Â,Â,Â,Â,Â,Â,Â,Â,Â,Â,Â,Â,Â,Â,Â,Â,Â,Â,Â,Â,Â,Â,Â,Â,Â,Â,Â,Â,Â,Â,Â,Â,Â,Â,Â,Â,Â,Â,Â,Â,Â,Â,Â,Â,Â,Â,Â,Â,Â,Â,Â,Â,Â,Â,Â,Â,Â,Â,Â,Â,Â,Â,Â,Â,Â,Â,Â,Â,Â,Â,Â,Â,Â,Â,Â,Â,Â,Â,Â,Â,Â],[]⟩ [ĵ<|ţ L])<|f.at y (Æ Q (i::jJ)::k)::qX):=by
 lib_facts;simp only[ţ,waitFn,ć];apply jx a hF (n:=40);iterate 3 w_go fF
 refine Î λc q=> ?_;replace hF:=fF hF q;refine uO a hF (À U) U (λ_=>Ę ô fh U U (by k_ne) U H.f_disable (ń L) (Ņ L) (ņ L)<|Ň L) λt hF=> ?_;walk_nrm;have r:Ï l.d #[jI ô]=1:=by rw[p];rfl
 rw[r];refine nj a hF λm hF=>⟨40,Z,agT (l:={l with d:=1,w:=m}) H o a hF U h Z λw=>Xl (λg s=>Xk (l:={l with d:=1,w:=m}) H a hF U h s) ?_⟩;replace hF:True:=trivial;iterate 3 w_go fA
 exact Î λ_ _=>⟨_,U,fh,fh⟩
end
section
variable(P:Ğ)(e:Bool)(b:Nat)(J:Jd)
def rd1:Jd:=λl g=>l.d=1/\E6 P e (.read<|gQ b) J l g
def Jq:Jd:=λl g=>l.d=1/\M9 P e (fH b) fT (λs=>if s=fT then ff P e (rd1 P e b J)else if fT<s/\s<1000000*fT/\s%fT=0 then ff P e J else λ_ _=>True) l g
end
def agU(F:Ph)(j:Nat)(a:Nat->Nat):Nt F j a=Jq F.P Ì F.C (IV F j a):=rfl
section
variable{Ψ:Ð->Prop}{P:Ğ}{L:ě}{e:Bool}{b:Nat}{l:e7}{f:Jd}{c:ø}{k:List Ţ}
def Xo(H:Ŕ P L)(h:lI Ψ l b)(hF:SW Ψ l b l.w)(E:l.d=0)(t:∀g,SW Ψ l b g->ff P e f {l with d:=0,w:=g} (G (c.at (y.put ((Q[i]?).bind (·.dst))<|ı #[])<|Æ Q jJ::k) qX)): ff P e (Jq P e b f) l (G ((base L.add).at ⟨#[ì<|Ã ⟨b,0,Í⟩,ë Ũ 1,Â,Â,Â,Â,Â,Â,Â,Â,Â,Â,Â,Â,Â,Â,Â,Â,Â,Â,Â,Â,Â,Â,Â,Â,Â,Â,Â,Â,Â,Â,Â,Â,Â,Â,Â,Â,Â,Â,Â,Â,Â,Â,Â,Â,Â,Â,Â,Â,Â,Â,Â,Â,Â,Â,Â,Â,Â,Â,Â,Â,Â,Â,Â,Â,Â,Â,Â,Â,Â,Â,Â,Â,Â,Â,Â,Â,Â,Â,Â,Â,Â,Â,Â,Â,Â,Â,Â,Â,Â,Â,Â,Â,Â,Â,Â,Â,Â,Â,Â,Â,Â,Â,Â,Â,Â,Â,Â,Â,Â,Â,Â,Â,Â,Â,Â],[]⟩ [ĵ<|body_add L])<|c.at y (Æ Q (i::jJ)::k)::qX):=by
 lib_facts;simp only[body_add,addFn,ć];apply jx h hF (n:=40);iterate 12 w_go fF
 refine Î λg a=> ?_;replace hF:=fF hF a;clear a;refine uO (l:={l with w:=g}) h hF (À U) U (λ_=>Ę ô fh U U (by k_ne) U H.f_disable (ń L) (Ņ L) (ņ L)<|Ň L) λj hF=> ?_;walk_nrm;have F:Ï l.d #[jI ô]=1:=by rw[E];rfl
 rw[F];apply jx (l:={l with d:=1,w:=j}) h hF (n:=50);iterate 2 w_go fF
 u_defer fF hF
 iterate 8 w_go fF
 u_bub fF hF
 iterate 11 w_go fF
 u_call H.f_uAdd (nm_uAdd L) uAddFn fF hF
 iterate 10 w_go fF
 refine Î λg a=> ?_;replace hF:=fF hF a;clear a;refine nj (l:={l with d:=1,w:=g}) h hF λq hF=>⟨U,U,λv=>⟨_,λg I J=>(Ľ U U (by k_ne) U H.f_addU64 (Ž L) (ž L) (ſ L) Ó (Α L) U U I J).trans fP,?_⟩⟩;walk_nrm;have u:Ó.wrap (v+4294967296)=Ó.wrap (v+fT):=rfl;rw[u];clear u;obtain⟨s,x⟩:∃s,Ó.wrap (v+fT)=s:=⟨_,U⟩;simp only[x];clear x v;by_cases m:s=fT
 .rw[if_pos m];have o:s=4294967296:=m;clear m;subst o;apply jx (l:={l with d:=1,w:=q}) h hF (n:=150);iterate 3 w_go fF
  u_leave1 H.f_uAdd fF hF
  iterate 48 w_go fF
  u_conv H.underlying_tPU32 H.room_tU32 (mP.C hF.2.1).choose_spec fF hF
  refine Î λg a=> ?_;replace hF:=fF hF a;clear a;refine nj (l:={l with d:=1,w:=g}) h hF λq hF=>⟨U,U,_,λ_=>Ē .read fh U U (by k_ne) U H.f_raceRead (x_raceRead_n L) (x_raceRead_b L) (x_raceRead_x L) (x_raceRead_f L) (by simp[þ,gQ]),?_⟩;walk_nrm;apply jx (l:={l with d:=1,w:=q}) h hF (n:=150);iterate 39 w_go fF
  refine Î λg a=> ?_;replace hF:=fF hF a;clear a;refine uO (l:={l with d:=1,w:=g}) h hF (Á U) U (λw=>Jl î fh U H.f_enable (Ĥ L) (ĥ L) (Ħ L) (ħ L) w) λj hF=> ?_;have r:Ï 1 #[jI î]=0:=rfl;rw[r];apply jx (l:={l with d:=0,w:=j}) h hF (n:=10);u_leave0 H.f_add fF hF;refine Î λg a=> ?_;replace hF:=fF hF a;clear a;exact t _ hF
 .rw[if_neg m];by_cases o:fT<s/\s<1000000*fT/\s%fT=0
  .rw[if_pos o];let⟨z,B,C⟩:=o;have N:(4294967296:Int)<s:=z;have D:s<1000000*4294967296:=B;have K:s%4294967296=0:=C;clear m z B C;have O:=CH s Z D Z;have M:=CI s Z D Z;rw[K]at M;obtain⟨p,S⟩:∃p,(s/4294967296+2147483648)%4294967296-2147483648=p:=⟨_,U⟩;have T:¬p<0:=Z
   have V:0<p:=Z
   have W:(p==1)=É:=by simp;omega
   apply jx (l:={l with d:=1,w:=q}) h hF (n:=150);iterate 3 w_go fF
   u_leave1 H.f_uAdd fF hF
   iterate 83 w_go fF
   refine Î λg a=> ?_;replace hF:=fF hF a;clear a;refine uO (l:={l with d:=1,w:=g}) h hF (Á U) U (λw=>Jl î fh U H.f_enable (Ĥ L) (ĥ L) (Ħ L) (ħ L) w) λj hF=> ?_;have r:Ï 1 #[jI î]=0:=rfl;rw[r];apply jx (l:={l with d:=0,w:=j}) h hF (n:=10);u_leave0 H.f_add fF hF;refine Î λg a=> ?_;replace hF:=fF hF a;clear a;exact t _ hF
  .rw[if_neg o];trivial
end
def zR:θ->Nat->θ
 |.seq a _,0=>a
 |.seq _ b,_=>b
 |Τ _ a _,0=>a
 |Τ _ _ b,_=>b
 |ε _ a,_=>a
 |.loop a,_=>a
 |c,_=>c
def lu(f:Func)(l:List Nat):θ:=l.foldl zR<|f.body.getD ο
def oK(f:Ĵ)(a b:Array ã):Ů:={target:=.fn (.func f) a,args:=b}
def nk(P:Ğ):ø:={(default:ø)with fn:=P.funcs.size,defers:=[],mode:=.panicking [Ō]}
section
variable{b:ø}{a:ō}
def Xp{h:Array ĳ}(c:Q[i]?=Ã o)(j:á o (Ĩ Q a.tmps)=Ì)(k:b.kind≠Đ) (e:o.op=.defer {callee:=.value qQ,args:=#[],argTypes:=h}) (g:a.eval qQ=.func (.func F) #[] d): è P yQ (G (b.at a<|Æ Q (i::jJ)::L) qX) w=ş (G (b.at (Ő ⟨a.tmps,oK F d #[]::a.defers⟩ o.dst Â)<|Æ Q jJ::L) qX) w #[]:=by
 have l:(Þ a.eval o).run P w=.ok (.defer<|oK F d #[]) w:=by unfold Þ;simp[e,ĸ,Ĉ,g,oK]
 have m:(Þ a.eval o).events P w #[]=#[]:=by unfold Þ;simp[e,ĸ,Ĉ,g]
 have n:(b.at ⟨a.tmps,oK F d #[]::a.defers⟩<|Æ Q (i::jJ)::L).finish Â=b.at (Ő ⟨a.tmps,oK F d #[]::a.defers⟩ o.dst Â) (Æ Q jJ::L):=by rw[ĩ,c];rfl
 have p:(b.kind==Đ)=É:=by simpa using k
 rw[Ζ c j,<-n];simp[stepG.apply,l,m,G,Frame.at,p,Ě,Ć]
def Xq{l:Array ĳ}(m:Q[i]?=Ã o)(n:á o (Ĩ Q a.tmps)=Ì)(p:b.kind≠Đ) (h:o.op=Ŭ {callee:=.value qQ,args:=#[],argTypes:=l}) (j:a.eval qQ=.func (.func F) #[] d) (e:P.funcs[F]?=Ã s) (q:(s.name== "runtime.NumGoroutine")=É) (g:s.body=Ã wX): è P yQ (G (b.at a<|Æ Q (i::jJ)::L) qX) w=ş (G ((base F).at {tmps:=d++ê (s.ntmps-d.size) Â,defers:=[]} [ĵ wX])<|b.at a (Æ Q (i::jJ)::L)::qX) w #[]:=by
 have k:¬s.name= "runtime.NumGoroutine":=by simpa using q
 have r:(Þ a.eval o).run P w=.ok (.enter F d) w:=by unfold Þ;simp[h,ĸ,Ĉ,j,ś,Ŝ,e,k,g]
 have t:(Þ a.eval o).events P w #[]=#[]:=by unfold Þ;simp[h,ĸ,Ĉ,j,ś,Ŝ,e,k,g]
 rw[ŵ m n p r,<-enter_at d e g];unfold listed;rw[t,Ć]
def agV{g:Array ĳ}(d:Q[i]?=Ã o)(h:á o (Ĩ Q a.tmps)=Ì)(j:b.kind=ľ)(k:b.roundOf=Í)(l:f.mode=ù) (e:o.op=Ŭ {callee:=.builtin .recover,args:=#[],argTypes:=g}) (q:o.type=t): è P yQ (G (b.at a<|Æ Q (i::jJ)::L)<|f::qX) w=ş (G (b.at (a.put o.dst ā)<|Æ Q jJ::L)<|f::qX) w #[]:=by
 have m:(Þ a.eval o).run P w=.ok .recover w:=by unfold Þ;simp[e,ĸ,ś,builtin]
 have n:(Þ a.eval o).events P w #[]=#[]:=by unfold Þ;simp[e,ĸ,ś,builtin]
 have p:(b.at a<|Æ Q (i::jJ)::L).finish ā=b.at (a.put o.dst ā) (Æ Q jJ::L):=by rw[ĩ,d];rfl
 rw[Ζ d h,<-p];simp[stepG.apply,m,n,G,Frame.at,j,Ě,Ć,k,tryRecover,l]
def agW{e:List Ů}(i:a.defers=oK F d #[]::e)(g:P.funcs[F]?=Ã s)(j:(s.name== "runtime.NumGoroutine")=É)(h:s.body=Ã wX): è P yQ (G {b.at a L with mode:=ù} qX) w= ş (G ((baseD F).at {tmps:=d++ê (s.ntmps-d.size) Â,defers:=[]} [ĵ wX])<|{b.at ⟨a.tmps,e⟩ L with mode:=ù}::qX) w #[]:=by
 have k:¬s.name= "runtime.NumGoroutine":=by simpa using j
 rw[<-enter_atD d g h];simp[G,è,Η,Ū,Frame.at,i,oK,ś,Ŝ,g,k,h,Ě,Ć]
def Xr(a:P.funcs[F]?=Ã s)(e:(s.name== "runtime.NumGoroutine")=É)(b:s.body=Ã wX): è P yQ (born P<|oK F d #[]) w=ş (G ((baseD F).at {tmps:=d++ê (s.ntmps-d.size) Â,defers:=[]} [ĵ wX]) [nk P]) w #[]:=by
 have g:¬s.name= "runtime.NumGoroutine":=by simpa using e
 rw[<-enter_atD d a b];simp[G,è,Η,Ū,born,nk,oK,ś,Ŝ,a,g,b,Ě,Ć]
def agX(d:b.kind=ľ)(e:a.defers=[])(f:P.funcs[b.fn]?=Ã s)(c:s.results=#[]): è P yQ (G {b.at a L with mode:=ù} [nk P]) w=ş (G (nk P) []) w:=by have g:=results_none c a.tmps P w;have h:=events_results_none (P:=P) (w:=w) c a.tmps #[];simp[G,è,Η,doReturn,Frame.at,d,e,f,g,h,nk,Ō,seen,Ě]
def agY(w:Ð):è P É (G (nk P) []) w=ş {frame:=nk P,callers:=[],status:=å,dying:=Í} w:=by simp[G,è,Η,nk,Ō,Frame.catches];rfl
def agZ:qK P 0 (G (nk P) []):=⟨1,.ctl U agY ⟨U,U⟩⟩
def ag0(c:b.kind=ľ)(d:a.defers=[])(e:P.funcs[b.fn]?=Ã s)(f:s.results=#[]):qK P 0 (G {b.at a L with mode:=ù} [nk P]):= Jp U (λ_=>agX c d e f) agZ
def ag1(e:b.kind=ľ)(g:a.defers=[])(h:P.funcs[b.fn]?=Ã s)(j:s.results=#[])(k:f.mode=ù)(l:qK P i (G f qX)):qK P i (G {b.at a L with mode:=ù}<|f::qX):= let⟨n,q⟩:=l;⟨n+1,.leaveD e g h j k q⟩
end
def ag2(d:Nat)(t:ĳ)(w:Ð)(a:Array đ)(h:P.underlying t=Ã (.interface<|P.methodsAt t)):(Θ (d+1) t ā ā).events P w a=a:=by simp[Θ,run_underlying h,go_sem]
def ag3(t:ĳ)(w:Ð)(a:Array đ)(h:P.underlying t=Ã (.interface<|P.methodsAt t)):(Op.equal t ā ā).events P w a=a:=ag2 9999 t w a h
def ag4(t:ĳ)(w:Ð)(a:Array đ)(h:P.underlying t=Ã (.interface<|P.methodsAt t)):(binOp .neq t ā ā).events P w a=a:=by simp only[binOp];simp[ag3 t w a h]
section
variable{J:Jd}{l:e7}{b:ø}{a:ō}
def jY(l:e7):Prop:=∀j,l.O j->j<l.w.heap.size
def fZ(a:jY l)(b:İ P yQ RT à (λc _=>ff P yQ J l c) n g l.w):ff P yQ J l g:= Oj b (λ_ _ _=>trivial) a λ_ _ r h=>h.jO r
def uP(k:Q[i]?=Ã o)(m:á o (Ĩ Q a.tmps)=Ì)(n:b.kind≠Đ) (h:∀c,fE l l.w c->uponK o a (λq e=>∃d,lV l d c e (listed P b.fn a o c)/\ff P yQ J d (G (b.at q<|Æ Q jJ::L) qX)) ((Þ a.eval o).run P c)): ff P yQ J l (G (b.at a<|Æ Q (i::jJ)::L) qX):=by
 refine .mk U λc r=> ?_;have f:=h c r;revert f;generalize p:(Þ a.eval o).run P c=res;intro f;match res,f with
 |.ok (.value v) e,⟨d,g,j⟩=>exact⟨_,e,_,d,Ń k m n p,g,j⟩
 |.ok .skip e,⟨d,g,j⟩=>exact⟨_,e,_,d,Ŗ k m n p,g,j⟩
def we(l:e7)(e:đ):Prop:=xE l e/\e.loc≠ŭ ô/\e.loc≠ŭ î
def Jr(h:∀e∈V,we l e)(d:Nat):Ï d V=d:=ĺ (λe a=>⟨(h e a).2.1,(h e a).2.2⟩) d
def ag5(b:∀j,l.O j->j<w.heap.size)(c:¬l.q)(a:∀e∈V,we l e):lV l {l with w:=w} w w V:= ⟨Ç _,λ_ h=>À h,b,U,U,U,U,λ_ _ _ _=>rfl,λ_ _ _ _=>rfl,λ_ _ _=>rfl,U,U,U,λe h=>(a e h).1,(Jr a _).symm,U,λq=>absurd q c,U⟩
def uQ(d:Q[i]?=Ã o)(f:á o (Ĩ Q a.tmps)=Ì)(g:b.kind≠Đ)(j:jY l)(k:¬l.q) (m:∀c,fE l l.w c->(Þ a.eval o).run P c=.ok (.value v) c) (n:∀c,fE l l.w c->∀e∈(Þ a.eval o).events P c #[],we l e) (p:ff P yQ J l (G (b.at (a.put o.dst v)<|Æ Q jJ::L) qX)):ff P yQ J l (G (b.at a<|Æ Q (i::jJ)::L) qX):=by refine uP d f g λc r=> ?_;rw[m c r];exact⟨_,ag5 (lZ j r) k λe h=>n c r e<|Ι h,p.jO r⟩
def gS(l:e7)(x:Č):Prop:=l.M x.block\/l.C x
def gS.r{x:Č}(h:gS l x){w₁:Ð}(r:fE l l.w w₁):w₁.cell? x=l.w.cell? x:=h.elim (λq=>gF<|r.I _ q)<|r.N x
def gS.C{x:Č}(h:gS l x):we l ⟨ú x,É,É⟩:=by
 refine⟨À ⟨x,U,?_⟩,fh,fh⟩;rcases h with(q|q)|(q|q)
 .exact À q
 .exact Á<|Á ⟨À q,U,U⟩
 .exact Á<|À q
 .exact Á<|Á ⟨Á q,U,U⟩
def nJ{x:Č}(f:Q[i]?=Ã o)(g:á o (Ĩ Q a.tmps)=Ì)(j:b.kind≠Đ)(k:jY l)(m:¬l.q)(c:gS l x)(d:l.w.cell? x=Ã v) (n:∀w,w.cell? x=Ã v->(Þ a.eval o).run P w=.ok (.value v) w) (p:∀w,w.cell? x=Ã v->(Þ a.eval o).events P w #[]=#[⟨ú x,É,É⟩]) (s:ff P yQ J l (G (b.at (a.put o.dst v)<|Æ Q jJ::L) qX)):ff P yQ J l (G (b.at a<|Æ Q (i::jJ)::L) qX):= uQ f g j k m (λw r=>n w<|(c.r r).trans d) (λw r e h=>by
  rw[p w<|(c.r r).trans d]at h;have:e=⟨ú x,É,É⟩:=by simpa using h
  subst this;exact c.C) s
def po(l:e7)(x:Č):Prop:=l.O x.block\/l.r x
def po.C(h:po l p):gS l p:=h.elim (λq=>À<|À q) λq=>Á<|À q
def po.r{x:Č}(h:po l x):we l ⟨ú x,Ì,É⟩:=⟨À ⟨x,U,h.elim À λq=>Á<|À q⟩,fh,fh⟩
end
end Go.Proofs.Y.fw
namespace Go.Proofs.Y.fw
open Go Go.Conc Go.Proofs.Y.Lift
section
variable{J:Jd}{l:e7}{b:ø}{cs:List ø}{ops:Array Ĭ}
def PN(a:∀j,l.O j->j<w.heap.size)(b:¬l.q):lV l {l with w:={w with drawn:=w.drawn+1}} w {w with drawn:=w.drawn+1} #[]:= ⟨Ç _,λ_ h=>À h,a,U,U,U,U,λ_ _ _ _=>rfl,λ_ _ _ _=>rfl,λ_ _ _=>rfl,U,U,U,λe c=>by simp at c,by simp[Ï],U,λq=>absurd q b,U⟩
def jh(listed:Array Bool):Nat:=listed.countP λx=> !x
theorem Js{listed:Array Bool}(h:listed.getD i Ì=É):jh (listed.setIfInBounds i Ì)+1=jh listed:=by
 have a:i<listed.size:=by grind
 have b:listed[i]=É:=by simpa[a]using h
 unfold jh;grind [Array.countP_pos_iff,Array.getElem_mem]
def PO{md:Ý}{listed:Array Bool}(c:listed.size=ops.size)(h:jh listed=0):Ò md ops listed=[]:=by rw[List.eq_nil_iff_forall_not_mem];intro j a;let⟨b,o,d,_⟩:=ĉ.1 a;have:=Js b;omega
def Xs{md:Ý}(I:Array Bool->ō->e7->Prop) (p:∀c a l i k,I c a l->i∈Ò md ops c->ff P yQ (λh m=>∃f,m=G (b.at f<|Æ ops k::L) cs/\I (c.setIfInBounds i Ì) f h) l (G (b.at a<|Æ ops (i::k)::L) cs)) (n:∀c a l,I c a l->c.size=ops.size->Ò md ops c=[]->ff P yQ J l (G (b.at a<|Æ ops []::L) cs)): ∀(d t:Nat) (c:Array Bool) (a:ō) (l:e7),c.size=ops.size->jh c<=d->I c a l->ff P yQ J l (G (b.at a<|Æ ops (û md ops d t c [])::L) cs):=by
 intro d
 induction d with
 |zero=>
  intro t c a l e q g;simpa[û]using n c a l g e<|PO e Z
 |succ d r=>
  intro t c a l e q g;simp only[û];change ff P yQ J l (G (b.at a (Æ ops (match(Ò md ops c)[t%(Ò md ops c).length]? with
   |some i=>û md ops d (t/(Ò md ops c).length) (c.setIfInBounds i Ì) [i]
   |none=>[].reverse)::L)) cs)
  cases j:(Ò md ops c)[t%(Ò md ops c).length]? with
  |none=>
   have s:Ò md ops c=[]:=by
    cases u:Ò md ops c with
    |nil=>rfl
    |cons x o=>
     rw[u]at j;have v:t%(x::o).length<(x::o).length:=ż _ fh;simp at j;simp at v;omega
   simpa using n c a l g e s
  |some i=>
   simp only[];rw[linearise_go_acc,List.reverse_singleton,List.singleton_append];have o:=List.mem_of_getElem? j;refine(p c a l i _ g o).lE ?_;rintro h m ⟨f,rfl,s⟩;exact r _ _ f h (by simpa using e) (by have:=Js (ĉ.1 o).1;omega) s
theorem CL(n:Nat):jh (ê n É)=n:=by unfold jh;grind [Array.countP_replicate]
def PQ{id:Nat}(I:Array Bool->ō->e7->Prop)(m:jY l)(n:¬l.q) (f:∀d,fE l l.w d->I (ê ops.size É) y {l with w:={d with drawn:=d.drawn+1}}) (g:∀e c y l i h,I c y l->i∈Ò e ops c->ff P yQ (λo p=>∃j,p=G (b.at j<|Æ ops h::L) cs/\I (c.setIfInBounds i Ì) j o) l (G (b.at y<|Æ ops (i::h)::L) cs)) (k:∀e c y l,I c y l->c.size=ops.size->Ò e ops c=[]->ff P yQ J l (G (b.at y<|Æ ops []::L) cs)): ff P yQ J l (G (b.at y<|ĵ (Ģ id ops Ì)::L) cs):=by
 refine .mk U λd r=>⟨_,_,_,_,stepG_region_draw,PN (lZ m r) n,?_⟩;unfold Region.schedule;split
 .exact Xs I (g _) (k _) _ _ _ _ _ fh (by rw[CL];exact Ç _)<|f d r
 .exact Xs I (g _) (k _) _ _ _ _ _ fh (by rw[CL];exact Ç _)<|f d r
end
def yg(e:Edge):Bool:=match e.ground with|.textOnly _=>É|.gcOnly _=>É|_=>Ì
theorem Xt{md:Ý}{e:Edge}(h:yg e=Ì):ū md e=Ì:=by unfold yg at h;unfold ū;grind
structure mr(ops:Array Ĭ)(t0:Array ã)(val:Nat->ã)(listed:Array Bool)(a:ō):Prop where
 M:a.defers=[]
 S:a.tmps.size=t0.size
 b:∀d,(∀j o,ops[j]?=Ã o->listed.getD j É=Ì->o.dst≠Ã d)->a.tmps[d]?=t0[d]?
 r:∀j o d,ops[j]?=Ã o->listed.getD j É=Ì->o.dst=Ã d->a.tmps[d]?=Ã (val j)
 Y:∀j o e,ops[j]?=Ã o->listed.getD j É=Ì->e∈o.after->yg e=Ì->listed.getD e.on É=Ì
def tx(a:Array Ĭ)(n:Nat):Bool:=(Κ a.size).all λi=>match(a.getD i default).dst with
 |none=>Ì
 |some d=>decide (d<n)&&(Κ a.size).all λj=>i==j||(a.getD j default).dst !=Ã d
section
variable{ops:Array Ĭ}{t0:Array ã}{val:Nat->ã}{listed:Array Bool}{a:ō}
def ag6(h:tx ops t0.size=Ì)(a:ops[i]?=Ã o)(b:o.dst=Ã n):n<t0.size:=by have:=(ġ.1 h) i<|Ş.2<|(Õ.1 a).1;simp_all
theorem ag7(h:tx ops t0.size=Ì){a:Ĭ}(b:ops[i]?=Ã o)(e:ops[j]?=Ã a)(f:j≠i)(c:o.dst=Ã n):a.dst≠Ã n:=by have:=(ġ.1 h) i<|Ş.2<|(Õ.1 b).1;simp[b,c]at this;grind
def mr.C(h:mr ops t0 val listed a){d:Nat}(b:ops.toList.all (λo=>o.dst !=Ã d)=Ì):a.tmps[d]?=t0[d]?:= h.b d λj o c _ e=>by have:=ġ.1 b o<|Ī.2<|Array.mem_of_getElem? c;simp[e]at this
def PU(h:(listed.setIfInBounds i Ì).getD j É=Ì):j=i\/listed.getD j É=Ì:=by by_cases e:i=j;all_goals simp_all
theorem mr.fX(h:mr ops t0 val listed a)(u:tx ops t0.size=Ì){md:Ý}(l:ops[i]?=Ã o)(p:i∈Ò md ops listed)(w:o.dst≠Í->v=val i):mr ops t0 val (listed.setIfInBounds i Ì) (a.put o.dst v):=by
 have y:=(ĉ.1 p).1;have r:∀j c e,ops[j]?=Ã c->(listed.setIfInBounds i Ì).getD j É=Ì->e∈c.after->yg e=Ì->(listed.setIfInBounds i Ì).getD e.on É=Ì:=λj c e b f s t=>by
  rcases PU f with rfl|q
  .let⟨_,n,d,g⟩:=ĉ.1 p;rw[b]at d;obtain rfl:=È d;exact ĝ<|g e s<|Xt t
  .exact ĝ<|h.Y j c e b q s t
 have x:(listed.setIfInBounds i Ì).getD i É=Ì:=by
  have n:i<listed.size:=by grind
  simp[n]
 cases k:o.dst with
 |none=>
  refine⟨h.M,h.S,λd m=>h.b d λj c b f=>m j c b<|ĝ f,λj c d b f g=> ?_,r⟩;rcases PU f with rfl|q
  .rw[l]at b;obtain rfl:=È b;rw[k]at g;cases g
  .exact h.r j c d b q g
 |some e=>
  refine⟨h.M,by simp[Ő,h.S],λd m=> ?_,λj c d b f g=> ?_,r⟩
  .simp only[Ő];rw[í (λq=>m i o l x<|by rw[k,q])];exact h.b d λj c b f=>m j c b<|ĝ f
  .simp only[Ő];rcases PU f with rfl|q
   .rw[l]at b;obtain rfl:=È b;rw[k]at g;obtain rfl:=È g;have n:e<a.tmps.size:=by rw[h.S];exact ag6 u l k
    simp[n,(w<|by rw[k];simp)]
   .have n:e≠d:=by
     grind [ag7]
    rw[í n];exact h.r j c d b q g
def mr.Xu(h:mr ops t0 val listed a){b:Nat->ã}(e:∀j,listed.getD j É=Ì->b j=val j):mr ops t0 b listed a:= ⟨h.M,h.S,h.b,λj o d f c g=>(by rw[e j c];exact h.r j o d f c g),h.Y⟩
theorem gY{md:Ý}(h:i∈Ò md ops listed)(b:ops[i]?=Ã o)(c:o.after.toList.any (λe=>e.on==j&&yg e)=Ì):listed.getD j É=Ì:=by let⟨_,f,a,g⟩:=ĉ.1 h;rw[b]at a;obtain rfl:=È a;let⟨e,k,d⟩:=Ŀ.1 c;simp only[ŀ,beq_iff_eq]at d;grind [Xt]
def mr.I(h:mr ops t0 val listed a)(c:ops[i]?=Ã o)(d:listed.getD i É=Ì)(f:o.after.toList.any (λe=>e.on==j&&yg e)=Ì):listed.getD j É=Ì:=by let⟨e,g,b⟩:=Ŀ.1 f;simp only[ŀ,beq_iff_eq]at b;rw[<-b.1];exact h.Y i o e c d (Ī.1 g) b.2
theorem wh(h:listed.getD i Ì=É):¬listed.getD i É=Ì:=by grind
def Xv(md:Ý)(ops:Array Ĭ):List Nat->List Nat->Bool
 |[],_=>Ì
 |i::r,seen=>(match ops[i]? with|some o=>o.after.toList.all (λe=> !Region.binds md e||seen.contains e.on)|none=>É)&&Xv md ops r (i::seen)
theorem pv{md:Ý}(h:Ò md ops listed=[])(l:listed.size=ops.size):∀(b a:List Nat),Xv md ops b a=Ì->(∀i∈a,listed.getD i É=Ì)->∀i∈b,listed.getD i É=Ì:=by
 intro b
 induction b with
 |nil=>intro a _ _ i c;cases c
 |cons j r m=>
  intro a n p i c;let⟨d,s⟩:=Bool.and_eq_true_iff.1 (show(_&&_)=Ì from n);have f:listed.getD j É=Ì:=by
   split at d
   .rename_i o g;have v:j<listed.size:=by rw[l];exact(Õ.1 g).1
    by_cases t:listed.getD j Ì=É
    .have:j∈Ò md ops listed:=ĉ.2 ⟨t,o,g,λe w x=>by
      grind⟩
     grind
    .grind
   .cases d
  rcases š.1 c with rfl|q
  .exact f
  .exact m (j::a) s (λk u=>(š.1 u).elim (λe=>e▸f)<|p k) i q
def mr.G(t:Array ã)(val:Nat->ã)(n:Nat):mr ops t val (ê n É) ⟨t,[]⟩:=by
 have a:∀j,¬(ê n É).getD j É=Ì:=λj q=>by rcases ģ j n with z|z;all_goals simp_all
 exact⟨U,U,λ_ _=>rfl,λj _ _ _ z=>absurd z<|a j,λj _ _ _ z=>absurd z<|a j⟩
theorem CM{md:Ý}(h:i∈Ò md ops listed):i<ops.size:=by let⟨_,o,a,_⟩:=ĉ.1 h;grind
def PV{md:Ý}(h:i∈Ò md ops listed):listed.getD i Ì=É:=(ĉ.1 h).1
end
theorem ag8(h:a.spot.isSome=Ì):w.cell? a=Í:=by unfold World.cell?;grind
theorem Au{x y:Č}(b:x.spot=Í)(h:y≠x):(w.setCell x v).cell? y=w.cell? y:=by
 by_cases c:y.spot.isSome=Ì
 .grind [ag8]
 .apply xH;let⟨d,e,f⟩:=x;let⟨g,i,a⟩:=y;simp only at b c|-;have:a=Í:=by cases a<;>simp_all
  grind
section
variable{J:Jd}{l:e7}{b:ø}{a:ō}{cs:List ø}{ops:Array Ĭ}
theorem Xw(b:p.spot=Í)(d:(w.cell? p).isSome=Ì)(f:(u.cell? p).isSome=Ì)(r:fE l w u):fE l (w.setCell p v) (u.setCell p v):=by
 refine⟨by rw[jM,jM];exact r.r,λj c=> ?_,λy a=> ?_,λy a=> ?_,λy a h=> ?_⟩
 .by_cases e:j=p.block
  .subst e;unfold World.setCell;simp only[Array.getElem?_modify];rw[r.I _ c]
  .rw[kR e,kR e];exact r.I j c
 .by_cases e:y=p
  .grind [ü,zO]
  .rw[Au b e,Au b e];exact r.N y a
 .rw[rH,rH];exact r.Y y a
 .by_cases e:y=p
  .grind [xI]
  .rw[Au b e]at h|-;exact r.S y a h
def Xx(f:p.spot=Í)(g:∀j,l.O j->j<w.heap.size)(i:¬l.q)(c:po l p)(d:∀e∈V,we l e):lV l {l with w:=w.setCell p v} w (w.setCell p v) V:=by
 refine⟨by rw[jM];exact Ç _,λ_ h=>À h,λj k=>by rw[jM];exact g j k,U,U,U,U,λj _ a b=>kR λe=>c.elim (λq=>a<|e▸q) λq=>b p e.symm q,λy _ a b=>Au f λe=> ?_,λ_ _ _=>Nk,U,U,U,λe h=>(d e h).1,(Jr d _).symm,U,λq=>absurd q i,U⟩
 .subst e;exact c.elim a b
def ag9(m:ops[i]?=Ã o)(n:á o (Ĩ ops a.tmps)=Ì)(s:b.kind≠Đ)(t:jY l)(u:¬l.q)(g:p.spot=Í)(c:po l p)(j:(l.w.cell? p).isSome=Ì)(y:o.dst=Í)(z:l.w.frozen? p=É) (B:∀w,(w.cell? p).isSome=Ì->w.frozen? p=É->(Þ a.eval o).run P w=.ok .skip (w.setCell p v)) (C:∀w,(w.cell? p).isSome=Ì->w.frozen? p=É->(Þ a.eval o).events P w #[]=#[⟨ú p,Ì,É⟩]) (D:ff P yQ J {l with w:=l.w.setCell p v} (G (b.at a<|Æ ops jJ::L) cs)):ff P yQ J l (G (b.at a<|Æ ops (i::jJ)::L) cs):=by
 refine uP m n s λd r=> ?_;have f:(d.cell? p).isSome=Ì:=by rwa[c.C.r r]
 have k:d.frozen? p=É:=by rw[<-z];exact c.C.elim (λq=>vK<|r.I _ q)<|r.Y p
 rw[B d f k];refine⟨_,Xx g (lZ t r) u c λe h=> ?_,?_⟩
 .have:=Ι h;rw[C d f k]at this;have:e=⟨ú p,Ì,É⟩:=by simpa using this
  subst this;exact c.r
 .have:(a.put o.dst Â)=a:=by rw[y];rfl
  rw[this];exact D.jO<|yb<|Xw g j f r
end
def lJ(l:e7):e7:={l with O:=λ_=>False,I:=l.M,r:=λ_=>False,N:=l.C}
def pX(l x:e7):e7:={x with O:=λb=>x.O b\/l.O b,I:=l.I,r:=l.r,N:=l.N}
structure kn(l l':e7):Prop where
 O:∀j,l.O j->l'.O j
 a:∀j,l'.O j->l.O j\/l.w.heap.size<=j
 I:l'.I=l.I
 N:l'.r=l.r
 Y:l'.N=l.N
 K:l'.K=l.K
 q:l'.q=l.q
 r:fE l l.w l'.w
 fq:jY l'
theorem kn.fQ{l:e7}(h:jY l):kn l l:=⟨λ_ h=>h,λ_ h=>À h,U,U,U,U,U,fE.fQ _ _,h⟩
def kn.C{l a:e7}(h:kn l a):a.C=l.C:=by unfold e7.C;rw[h.N,h.Y]
def kn.M{l a:e7}(h:kn l a)(c:l.M b):a.M b:=c.imp (h.O b)<|by rw[h.I];exact id
def kn.G{l d:e7}(h:kn l d)(r:fE d w u):fE l w u:=⟨r.r,λj e=>r.I j<|h.M e,λx b=>r.N x (by rwa[h.C]),λx b=>r.Y x (by rwa[h.C]),λx b=>r.S x<|by rwa[h.K]⟩
def kn.S{l a:e7}(h:kn l a)(r:fE a a.w u):kn l {a with w:=u}:= ⟨h.O,h.a,h.I,h.N,h.Y,h.K,h.q,h.r.fc<|h.G r,lZ h.fq r⟩
def gp.jO{l:e7}(s:gp l){w₁:Ð}(h:l.w.heap.size<=w₁.heap.size):gp {l with w:=w₁}:= ⟨s.c,s.Y,s.N,λb d=>Ê (s.fq b d) h,λa c=>Ê (s.I a c) h,λa c=>let⟨e,f,g⟩:=s.S a c;⟨e,Ê f h,g⟩⟩
def gp.r{l:e7}(s:gp l):jY l:=λj a=>s.fq j<|À a
section
variable{J:Jd}
theorem aha{l x:e7}(d:x.I=l.M)(g:x.r=λ_=>False)(f:x.N=l.C){e:đ}(h:xE x e):xE (pX l x) e:=by
 rcases h with⟨a,b,c⟩|h|h|h|h|⟨a,b,c⟩
 .refine À ⟨a,b,?_⟩;rcases c with q|q|⟨q|q,z⟩
  .exact À<|À q
  .grind
  .rw[d]at q;rcases q with q|q
   .exact À<|Á q
   .exact Á<|Á ⟨À q,z⟩
  .rw[f]at q;rcases q with q|q
   .exact Á<|À q
   .exact Á<|Á ⟨Á q,z⟩
 .exact Á<|À h
 .exact Á<|Á<|À h
 .exact Á<|Á<|Á<|À h
 .exact Á<|Á<|Á<|Á<|À h
 .exact Á<|Á<|Á<|Á<|Á ⟨a,À b,c⟩
def Xy{l x:e7}(a:x.I=l.M):(pX l x).M=x.M:=by
 funext b;refine propext ⟨λh=> ?_,λh=> ?_⟩
 .rcases h with(q|q)|q
  .exact À q
  .exact Á<|by rw[a];exact À q
  .exact Á<|by rw[a];exact Á q
 .rcases h with q|q
  .exact À<|À q
  .rw[a]at q;exact q.elim (λz=>À<|Á z) Á
theorem Jt{l x:e7}(c:x.r=λ_=>False)(b:x.N=l.C):(pX l x).C=x.C:=by
 funext a;refine propext ⟨λh=>Á (by rwa[b]),λh=> ?_⟩;rcases h with q|q
 .grind
 .rwa[b]at q
def ff.ahb{l:e7}(s:gp l){x:e7}(h:ff P yQ J x g):x.I=l.M->x.r=(λ_=>False)->x.N=l.C->x.K=l.K->x.q=l.q->fE l l.w x.w->(∀j,x.O j->l.w.heap.size<=j)->jY x-> ff P yQ (λb c=>∃a,J a c/\b=pX l a/\kn l b/\a.I=l.M/\a.N=l.C/\a.r=λ_=>False) (pX l x) g:=by
 induction h with
 |@fv x g h=>
  intro m f d o B p v E;refine .fv λc r=>⟨{x with w:=c},(h c ⟨r.r,λj b=>r.I j (by rwa[Xy m]),λy a=>r.N y (by rwa[Jt f d]),λy a=>r.Y y (by rwa[Jt f d]),r.S⟩),U,?_,m,d,f⟩
  .refine⟨λj b=>Á b,λj b=>b.elim (λq=>Á<|v j q) À,U,U,U,o,B,p.fc ⟨r.r,λj b=>r.I j (b.elim (λq=>À<|Á q) Á),λy a=>r.N y a,λy a=>r.Y y a,λy a=>r.S y ?_⟩,λj b=> ?_⟩
   .show x.K y;rwa[o]
   .refine Ê ?_ r.r;rcases b with q|q
    .exact E j q
    .exact Ê (s.fq j<|À q) p.r
 |@jB x g G' W' E' L' iD h hd _ ih=>
  intro m f d o B p v E;refine .mk iD λc r=> ?_;have i:fE x x.w c:=⟨r.r,λj b=>r.I j (by rwa[Xy m]),λy a=>r.N y (by rwa[Jt f d]),λy a=>r.Y y (by rwa[Jt f d]),r.S⟩;have D:=hd c i;have n:=Ø p.r i.r;have z:∀j,j<l.w.heap.size->¬x.O j:=λj b q=>by have:=v j q;omega
  have t:∀y:Č,¬x.r y:=λy q=>by rwa[f]at q
  have F:fE l c (W' c):=⟨D.C,λj b=>D.jH j (Ê (s.fq j b) n) (z j<|s.fq j b) λy _=>t y,λy a=>D.N y (Ê (s.I y a) n) (z _<|s.I y a)<|t y,λy a=>IA<|D.Y y (Ê (s.I y a) n)<|z _<|s.I y a,λy a q=>by rwa[D.N y (Ê (s.S y a).2.1 n) (z _ (s.S y a).2.1)<|t y]⟩;refine⟨G' c,W' c,E' c,pX l<|L' c,h c i,?_,(ih c i (D.I.trans m) (D.r.trans f) (D.M.trans d) (D.k.trans o) (D.q.trans B) (by rw[D.b];exact(p.fc ⟨i.r,λj b=>i.I j (Á<|by rwa[m]),λy a=>i.N y (Á<|by rwa[d]),λy a=>i.Y y (Á<|by rwa[d]),λy a=>i.S y<|by rwa[o]⟩).fc F) (λj b=>(D.S j b).elim (v j) λq=>Ø n q) λj b=>by rw[D.b];exact D.fq j b)⟩
  .refine⟨D.C,λj b=> ?_,λj b=> ?_,U,U,U,D.k,λj b u G=>D.jH j b (λq=>u<|À q) λy _=>t y,λy a u G=>D.N y a (λq=>u<|À q)<|t y,λy a u=>D.Y y a λq=>u<|À q,D.f,D.g,D.m,λe H=>aha (D.I.trans m) (D.r.trans f) (D.M.trans d)<|D.c e H,D.h,D.q,λI=> ?_,D.b⟩
   .rcases b with q|q
    .exact(D.S j q).imp À id
    .exact À<|Á q
   .rcases b with q|q
    .exact D.fq j q
    .exact Ê (s.fq j<|À q)<|Ø n D.C
   .let⟨L,N,Q⟩:=D.i I;exact⟨L,N,by funext j;show((L' c).O j\/l.O j)=(x.O j\/l.O j);rw[Q]⟩
theorem ff.lJ{l:e7}(s:gp l)(h:ff P yQ J (fw.lJ l) g):ff P yQ (λe j=>∃b,J b j/\e=pX l b/\kn l e/\b.I=l.M/\b.N=l.C/\b.r=λ_=>False) l g:=by
 have:=h.ahb s U U U U U (fE.fQ _ _) (λj q=>q.elim) λj q=>q.elim;have e:pX l (fw.lJ l)=l:=by
  have:(λb=>False\/l.O b)=l.O:=by funext b;simp
  unfold pX fw.lJ;simp only[this]
 grind
end
structure iw(E:Č->Prop)(l l':e7):Prop where
 O:∀j,l.O j->l'.O j
 h:∀j,l'.O j->l.O j\/l.w.heap.size<=j
 Y:l'.I=l.I
 I:l'.r=l.r
 c:l'.N=l.N
 K:l'.K=l.K
 q:l'.q=l.q
 d:l'.d=l.d
 fq:jY l'
 f:l.w.heap.size<=l'.w.heap.size
 r:∀j,l.M j->l'.w.heap[j]?=l.w.heap[j]?
 e:∀a,l.C a->¬E a->l'.w.cell? a=l.w.cell? a
 S:∀a,l.C a->l'.w.frozen? a=l.w.frozen? a
 b:∀a,l.K a->(l.w.cell? a).isSome=Ì->(l'.w.cell? a).isSome=Ì
 g:∀a,E a->(l.w.cell? a).isSome=Ì->(l'.w.cell? a).isSome=Ì
section
variable{E:Č->Prop}{l l' l'':e7}
theorem iw.fQ(h:jY l):iw E l l:=⟨λ_ h=>h,λ_ h=>À h,U,U,U,U,U,U,h,Ç _,λ_ _=>rfl,λ_ _ _=>rfl,λ_ _=>rfl,λ_ _ h=>h,λ_ _ h=>h⟩
def iw.C(h:iw E l l'):l'.C=l.C:=by unfold e7.C;rw[h.I,h.c]
def iw.M(h:iw E l l')(a:l.M b):l'.M b:=a.imp (h.O b)<|by rw[h.Y];exact id
def iw.PW(h:iw E l l')(f:∀a,E a->l.r a)(k:kn l' l'')(g:l''.d=l'.d):iw E l l'':=by have e:=h.C;refine⟨λj c=>k.O j<|h.O j c,λj c=>(k.a j c).elim (h.h j) λq=>Á<|Ø h.f q,k.I.trans h.Y,k.N.trans h.I,k.Y.trans h.c,k.K.trans h.K,k.q.trans h.q,g.trans h.d,k.fq,Ø h.f k.r.r,λj c=>(k.r.I j<|h.M c).trans<|h.r j c,λa b i=>(k.r.N a<|by rwa[e]).trans<|h.e a b i,λa b=>(k.r.Y a<|by rwa[e]).trans<|h.S a b,λa b q=>k.r.S a (by rwa[h.K])<|h.b a b q,λa b q=> ?_⟩;rw[k.r.N a (by rw[e];exact À<|f a b)];exact h.g a b q
def iw.N(h:iw E l l')(b:∀a,E a->l.r a)(r:fE l' l'.w u):iw E l {l' with w:=u}:= h.PW b (l'':={l' with w:=u}) ((kn.fQ h.fq).S r) U
def iw.pO(h:iw E l l')(s:gp l)(i:∀a,E a->l.r a){x:Č}(f:E x)(k:x.spot=Í)(m:(l'.w.cell? x).isSome=Ì):iw E l {l' with w:=l'.w.setCell x v}:=by
 refine⟨h.O,h.h,h.Y,h.I,h.c,h.K,h.q,h.d,λj c=> ?_,?_,λj c=>(kR λe=>s.N x (À<|i x f)<|e▸c).trans<|h.r j c,λa b g=>((Au k λe=>g<|by rwa[e]).trans<|h.e a b g),λa b=>rH.trans<|h.S a b,λa b q=>xI<|h.b a b q,λa b q=>xI<|h.g a b q⟩
 .show j<(l'.w.setCell x v).heap.size;rw[jM];exact h.fq j c
 .show l.w.heap.size<=(l'.w.setCell x v).heap.size;rw[jM];exact h.f
def iw.G(h:iw E l l')(s:gp l):gp l' where
 c b hb:=by
  rw[h.Y];rcases h.h b hb with q|q
  .exact s.c b q
  .exact λz=>by have:=s.fq b<|Á z;omega
 Y a ha:=by rw[h.c];exact s.Y a<|by rwa[<-h.I]
 N a ha hb:=by
  rw[h.C]at ha;rcases hb with q|q
  .rcases h.h _ q with z|z
   .exact s.N a ha<|À z
   .have:=s.I a ha;omega
  .rw[h.Y]at q;exact s.N a ha<|Á q
 fq b hb:=by
  rcases hb with q|q
  .exact h.fq b q
  .rw[h.Y]at q;exact Ê (s.fq b<|Á q) h.f
 I a ha:=by rw[h.C]at ha;exact Ê (s.I a ha) h.f
 S a ha:=by
  rw[h.K]at ha;let⟨c,d,e⟩:=s.S a ha;refine⟨λq=> ?_,Ê d h.f,by rwa[h.I]⟩;rcases q with q|q
  .rcases h.h _ q with z|z
   .exact c<|À z
   .omega
  .rw[h.Y]at q;exact c<|Á q
end
section
variable{X:Type}{g:Array ã}{c:X->Nat->ã}{m:Array Bool->X->e7->Prop}{l:e7}{b:ø}{a:ō}{k:List Ţ}{cs:List ø}{x:X}
def II(Q:Array Ĭ)(g:Array ã)(c:X->Nat->ã)(m:Array Bool->X->e7->Prop)(wJ:Array Bool)(a:ō)(l:e7):Prop:=∃x,mr Q g (c x) wJ a/\m wJ x l
def Ju(a:o.guard=Í)(y:Nat->Option Bool):á o y=Ì:=by unfold á;rw[a]
def hD(h:tx Q g.size=Ì)(j:mr Q g (c x) wJ a)(f:Q[i]?=Ã o)(n:o.guard=Í){md:Ý}(p:i∈Ò md Q wJ)(s:b.kind≠Đ)(t:jY l)(u:¬l.q) (v:∀d,fE l l.w d->(Þ a.eval o).run P d=.ok (.value<|c x i) d) (y:∀d,fE l l.w d->∀e∈(Þ a.eval o).events P d #[],we l e) (z:∀d,fE l l.w d->m (wJ.setIfInBounds i Ì) x {l with w:=d}): ff P yQ (λB C=>∃r,C=G (b.at r<|Æ Q jJ::k) cs/\II Q g c m (wJ.setIfInBounds i Ì) r B) l (G (b.at a<|Æ Q (i::jJ)::k) cs):= uQ f (Ju n _) s t u v y<|.fv λd r=>⟨_,U,x,j.fX h f p λ_=>rfl,z d r⟩
def PX(h:tx Q g.size=Ì)(j:mr Q g (c x) wJ a)(f:Q[i]?=Ã o)(n:o.guard=Í)(e:o.dst=Í){md:Ý}(p:i∈Ò md Q wJ)(s:b.kind≠Đ)(t:jY l)(u:¬l.q){y:Č}(z:y.spot=Í)(B:po l y)(C:(l.w.cell? y).isSome=Ì)(D:l.w.frozen? y=É) (E:∀w,(w.cell? y).isSome=Ì->w.frozen? y=É->(Þ a.eval o).run P w=.ok .skip (w.setCell y v)) (F:∀w,(w.cell? y).isSome=Ì->w.frozen? y=É->(Þ a.eval o).events P w #[]=#[⟨ú y,Ì,É⟩]) (H:∀d,fE l (l.w.setCell y v) d->m (wJ.setIfInBounds i Ì) x {l with w:=d}): ff P yQ (λI J=>∃r,J=G (b.at r<|Æ Q jJ::k) cs/\II Q g c m (wJ.setIfInBounds i Ì) r I) l (G (b.at a<|Æ Q (i::jJ)::k) cs):=by refine ag9 f (Ju n _) s t u z B C e D E F (.fv λd r=>⟨_,U,x,?_,H d<|yb r⟩);have:=j.fX h f p (v:=Â) λq=>absurd e q;rwa[e]at this
theorem Xz(q:tx Q g.size=Ì)(s:mr Q g (c x) wJ a)(p:Q[i]?=Ã o)(t:o.guard=Í){md:Ý}(u:i∈Ò md Q wJ)(v:b.kind≠Đ)(y:jY l){f:Ĵ}{args:Array ã} (z:∀w,(Þ a.eval o).run P w=.ok (.enter f args) w) (B:∀w,(Þ a.eval o).events P w #[]=#[]) (C:∀d,fE l l.w d->ff P yQ (λh n=>∃e,n=G ((b.at a<|Æ Q (i::jJ)::k).finish<|c e i) cs/\m (wJ.setIfInBounds i Ì) e h/\∀j,wJ.getD j É=Ì->c e j=c x j) {l with w:=d} (G (Ŷ P f args .normal)<|b.at a (Æ Q (i::jJ)::k)::cs)): ff P yQ (λh n=>∃r,n=G (b.at r<|Æ Q jJ::k) cs/\II Q g c m (wJ.setIfInBounds i Ì) r h) l (G (b.at a<|Æ Q (i::jJ)::k) cs):=by
 refine .mk U λd r=>⟨G (Ŷ P f args .normal)<|b.at a (Æ Q (i::jJ)::k)::cs,d,#[],{l with w:=d},?_,Oi d<|lZ y r,?_⟩
 .rw[ŵ p (Ju t _) v<|z d];unfold η;rw[B d,Ć]
 .refine(C d r).fI ?_;rintro h n ⟨e,rfl,D,E⟩;refine⟨a.put o.dst<|c e i,?_,e,(s.Xu E).fX q p u λ_=>rfl,D⟩;grind [ĩ]
end
end Go.Proofs.Y.fw
namespace Go.Proofs.YtgpphkdoanciiaaGreatDoor
open Go Go.Conc Go.Conc.Lib
def Lk:ě:={add:=62,done:=65,wait:=53,relMerge:=105,disable:=68,enable:=70,inBubble:=76,associate:=106,fatal:=107,uOr:=108,uAdd:=109,raceRead:=110,uLoad:=69,uStore:=111,disassociate:=74,semrelease:=112,acquire:=71,isAssociated:=72,uCas:=73,raceWrite:=75,semacquire:=77,orU64:=150,addU64:=151,loadU64:=127,storeU64:=152,casU64:=128,tWgP:=162,tUP:=170,tAssoc:=202,tWg:=97,tAU:=94,tU64:=36,tUint:=168,tU32:=95,tPU32:=174,tPAU:=219,tPU64:=221,tNoCopy:=90,tANoCopy:=91,tAlign64:=92}
def pY:Ŕ ī Lk where
 f_add:=Tryz.func62;f_done:=Tryz.func65;f_wait:=Tryz.func53;f_relMerge:=Tryz.func105;f_disable:=Tryz.func68;f_enable:=Tryz.func70;f_inBubble:=Tryz.func76;f_associate:=Tryz.func106;f_fatal:=Tryz.func107;f_uOr:=Tryz.func108;f_uAdd:=Tryz.func109;f_raceRead:=Tryz.func110;f_uLoad:=Tryz.func69;f_uStore:=Tryz.func111;f_disassociate:=Tryz.func74;f_semrelease:=Tryz.func112;f_acquire:=Tryz.func71;f_isAssociated:=Tryz.func72;f_uCas:=Tryz.func73;f_raceWrite:=Tryz.func75;f_semacquire:=Tryz.func77;f_orU64:=Tryz.func150;f_addU64:=Tryz.func151;f_loadU64:=Tryz.func127;f_storeU64:=Tryz.func152;f_casU64:=Tryz.func128;underlying_tWgP:=Tryz.underlying162;runUnderlying_tWgP:=Tryz.runUnderlying162;sizeOf_tWgP:=Tryz.sizeOf162;isAgg_tWgP:=Tryz.isAgg162;zeroValue_tWgP:=Tryz.zeroValue162;underlying_tUP:=Tryz.underlying170;runUnderlying_tUP:=Tryz.runUnderlying170;sizeOf_tUP:=Tryz.sizeOf170;isAgg_tUP:=Tryz.isAgg170;zeroValue_tUP:=Tryz.zeroValue170;underlying_tI32:=Tryz.underlying202;runUnderlying_tI32:=Tryz.runUnderlying202;sizeOf_tI32:=Tryz.sizeOf202;isAgg_tI32:=Tryz.isAgg202;zeroValue_tI32:=Tryz.zeroValue202;underlying_tWg:=Tryz.underlying97;runUnderlying_tWg:=Tryz.runUnderlying97;sizeOf_tWg:=Tryz.sizeOf97;isAgg_tWg:=Tryz.isAgg97;zeroValue_tWg:=Tryz.zeroValue97;underlying_tAU:=Tryz.underlying94;runUnderlying_tAU:=Tryz.runUnderlying94;sizeOf_tAU:=Tryz.sizeOf94;isAgg_tAU:=Tryz.isAgg94;zeroValue_tAU:=Tryz.zeroValue94;underlying_tU64:=Tryz.underlying36;runUnderlying_tU64:=Tryz.runUnderlying36;sizeOf_tU64:=Tryz.sizeOf36;isAgg_tU64:=Tryz.isAgg36;zeroValue_tU64:=Tryz.zeroValue36;underlying_tSh:=Tryz.underlying168;runUnderlying_tSh:=Tryz.runUnderlying168;sizeOf_tSh:=Tryz.sizeOf168;isAgg_tSh:=Tryz.isAgg168;zeroValue_tSh:=Tryz.zeroValue168;underlying_tU32:=Tryz.underlying95;runUnderlying_tU32:=Tryz.runUnderlying95;sizeOf_tU32:=Tryz.sizeOf95;isAgg_tU32:=Tryz.isAgg95;zeroValue_tU32:=Tryz.zeroValue95;underlying_tPU32:=Tryz.underlying174;runUnderlying_tPU32:=Tryz.runUnderlying174;sizeOf_tPU32:=Tryz.sizeOf174;isAgg_tPU32:=Tryz.isAgg174;zeroValue_tPU32:=Tryz.zeroValue174;underlying_tPAU:=Tryz.underlying219;runUnderlying_tPAU:=Tryz.runUnderlying219;sizeOf_tPAU:=Tryz.sizeOf219;isAgg_tPAU:=Tryz.isAgg219;zeroValue_tPAU:=Tryz.zeroValue219;underlying_tPU64:=Tryz.underlying221;runUnderlying_tPU64:=Tryz.runUnderlying221;sizeOf_tPU64:=Tryz.sizeOf221;isAgg_tPU64:=Tryz.isAgg221;zeroValue_tPU64:=Tryz.zeroValue221;underlying_t0:=Tryz.underlying0;runUnderlying_t0:=Tryz.runUnderlying0;sizeOf_t0:=Tryz.sizeOf0;isAgg_t0:=Tryz.isAgg0;zeroValue_t0:=Tryz.zeroValue0;underlying_t3:=Tryz.underlying3;runUnderlying_t3:=Tryz.runUnderlying3;sizeOf_t3:=Tryz.sizeOf3;isAgg_t3:=Tryz.isAgg3;zeroValue_t3:=Tryz.zeroValue3;underlying_t4:=Tryz.underlying4;runUnderlying_t4:=Tryz.runUnderlying4;sizeOf_t4:=Tryz.sizeOf4;isAgg_t4:=Tryz.isAgg4;zeroValue_t4:=Tryz.zeroValue4;underlying_t9:=Tryz.underlying9;runUnderlying_t9:=Tryz.runUnderlying9;sizeOf_t9:=Tryz.sizeOf9;isAgg_t9:=Tryz.isAgg9;zeroValue_t9:=Tryz.zeroValue9;underlying_t20:=Ĺ;runUnderlying_t20:=Tryz.runUnderlying20;sizeOf_t20:=Tryz.sizeOf20;isAgg_t20:=Tryz.isAgg20;zeroValue_t20:=Tryz.zeroValue20;underlying_t21:=Tryz.underlying21;runUnderlying_t21:=Tryz.runUnderlying21;sizeOf_t21:=Tryz.sizeOf21;isAgg_t21:=Tryz.isAgg21;zeroValue_t21:=Tryz.zeroValue21;room_tWg:=by decide+kernel
 room_tU32:=by decide+kernel
end Go.Proofs.YtgpphkdoanciiaaGreatDoor
namespace Go.Proofs.Y.fw
open Go Go.Conc Go.Proofs.Y.Lift Go.RowKit Go.Conc.Lib Go.ConcR.Gen
open Go.Proofs Go.Proofs.YtgpphkdoanciiaaGreatDoor
def XA:Array Ĭ:=#[⟨Ã 3,.load 1<|ß 1,1, "waitgroup.go:258",#[],Í⟩,
 ⟨Ã 4,Ŭ {callee:=.value (ß 3),args:=#[],argTypes:=#[]},0, "waitgroup.go:258",#[⟨0,ý⟩],Í⟩]
section
variable{Ψ:Ð->Prop}{l:e7}
def XB(b:l.K ⟨i,0,Í⟩/\l.K ⟨i,1,Í⟩)(c:lI Ψ l i)(a:SW Ψ l i l.w)(e:l.d=0)(f:¬l.q)(j:gS l ⟨n,0,Í⟩)(k:l.w.cell? ⟨n,0,Í⟩=Ã (ì<|Ã ⟨i,0,Í⟩)): ff ī É (λl g=>xK ī É i (CK ī) (kj l) g) l (G ((baseD 63).at ⟨#[ì<|Ã ⟨n,0,Í⟩,v,x,z,jQ],[oK 64 #[ì<|Ã ⟨n,0,Í⟩] #[]]⟩ [Æ XA []]) [nk ī]):=by
 apply fZ (n:=30) a.1;have hF:=trivial;iterate 2 w_go fA
 u_c (agW U ŷ fP U) fA hF
 walk_nrmf Tryz.f64;iterate 3 w_go fA
 u_c (agV U U U U U U U) fA hF
 walk_nrm;have m:=λw g=>ag4 20 w g Ĺ;repeat w_go fA
 refine Î λ_ _=> ?_;apply nJ U U (by k_ne) a.1 f j k (λw h=>by go_simp) (λw h=>by simp[go_sem,h]);walk_nrm;apply fZ (n:=30) a.1;u_call pY.f_done (nm_done Lk) doneFn fA hF;refine Î λ_ _=> ?_;apply agP pY b c a e;walk_nrm;apply Jp U λ_=>stepG_region_end;apply Jp U λ_=>stepG_end;refine ag1 U U ŷ U U<|ag0 U U Tryz.func63 U
end
end Go.Proofs.Y.fw
