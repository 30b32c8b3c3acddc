import Derived.Test.YtgpphkdoanciiaaGreatDoorWAA
import Derived.Conc.WgGenN3
import Derived.Conc.MuWords
import Derived.Conc.CompanyDraw
import Derived.Test.YtgpphkdoanciiaaGreatDoorRows
import Derived.Conc.WgLib
set_option linter.all false
set_option maxRecDepth 1000000
set_option maxHeartbeats 8000000
open Or renaming inl->À,inr->Á
open Go renaming undef->Â,Goroutine->Ä,deafBehind->Ï,World->Ð,execOp->Þ,Value->ã,Trace->ä,stepG->è,Frame->ø,MemOp->Ă,mem_ready->ĉ,Addr->Č,Event->đ,getD_set_true->ĝ,Program->Ğ,yielded->Ĩ,Oper->Ĭ,TypeId->ĳ,FuncId->Ĵ,resolve->ĸ,goexitEntry->Ō,Act->ō,runT->Ŏ,invoke->ś,callFunc->Ŝ,Item->Ţ,callDeferred->Ū,Deferred->Ů,Operand->Ÿ,unwind->Η,Mark->Ο,runNT->Χ,Code->θ,Loc->π
open Option renaming some->Ã,none->Í,map_eq_some_iff->Ù,isSome_iff_exists->ü,getD_some->ć
open Go.GoStatus renaming running->Å,blocked->Ü,finished->å
open Go.Item renaming inRegion->Æ,code->ĵ,inBlock->ŏ,inLoop->Ρ
open Nat renaming le_refl->Ç,lt_of_lt_of_le->Ê,le_of_eq->Ô,le_trans->Ø,le_mul_of_pos_right->â,mul_le_mul_left->ï,lt_of_not_le->ñ,zero_le->ò,add_zero->ó,le_of_not_lt->ă,and_two_pow_sub_one_eq_mod->Ą,mul_le_mul_right->č,strongRecOn->Ď,add_mul_mod_self_right->ē,lt_or_ge->ģ,mod_eq_of_lt->ļ,mul_add->ł,mod_lt->ż
open Option.some renaming inj->È,injEq->Ķ
open Bool renaming false->É,true->Ì,and_eq_true->ŀ
open Go.MemAct renaming ofEvent->Ë,touch?->Ċ,mark->ė,start->į,go->ς
open Go.Conc.Goes renaming stop->Î
open Go.ConcN renaming sumTo->Ñ,wraps_u64_63->ö,sumTo_congr->Ł
open Go.Region renaming ready->Ò,Mode->Ý,wanted->á,binds->ū
open Go.IntKind renaming u64->Ó,u32->ç,i64->Ũ
open Array renaming getElem?_eq_some_iff->Õ,append_empty->Ú,getElem?_eq_getElem->é,replicate->ê,getElem?_setIfInBounds_ne->í,mem_toList_iff->Ī
open Go.Conc renaming mem_ofEvents->Ö,crowd->ð,semEvents->õ,woken->Ā,stepG_semrelease->ą,seen_none->Ć,stepG_markAt->Ē,stepG_mark0->Ę,stepG_load_atomic->ę,Goes->İ,deafBehind_still->ĺ,parked->Ļ,stepG_add_atomic->Ľ,stepG_value->Ń,rcase->œ,stepG_none->Ŗ,goes_go->ť,stepG_enter->ŵ,QuitsD->Ź,touch_mute->ź,stepG_oper->Ζ,mem_listed->Ι,Knows->Λ,listed->η,Deaf->κ
open Go.MemOp renaming ofEvents->Û
open Go.Operand renaming tmp->ß,const->ċ,func->ŧ
open Go.ConcR renaming DC0->à
open Go.ConcR.Gen renaming x_semrelease_b->æ,x_semrelease_n->Ĕ,x_semrelease_x->ĕ,x_semrelease_f->Ė,mayWake_entry->Ĝ,x_enable_n->Ĥ,x_enable_b->ĥ,x_enable_x->Ħ,x_enable_f->ħ,x_disable_n->ń,x_disable_b->Ņ,x_disable_x->ņ,x_disable_f->Ň,x_loadU64_n->ň,x_loadU64_b->ŉ,x_loadU64_x->Ŋ,x_loadU64_f->ŋ,x_semacquire_n->ŗ,x_semacquire_b->Ř,x_semacquire_x->ř,x_semacquire_f->Ś,body_wait->ţ,nm_uLoad->ů,x_acquire_n->Ű,x_acquire_b->ű,x_acquire_x->Ų,x_acquire_f->ų,x_addU64_n->Ž,x_addU64_b->ž,x_addU64_x->ſ,x_addU64_f->Α,x_casU64_n->Β,x_casU64_b->Γ,x_casU64_x->Δ,x_casU64_f->Ε
open Go.Value renaming int->ë,pointer->ì,nilIface->ā,tuple->ı
open Go.Mark renaming enable->î,disable->ô,releaseMerge->Į,acquire->ő,write->Υ
open Go.FrameMode renaming returning->ù
open Go.Loc renaming cell->ú,mark->ŭ
open Go.Region.linearise renaming go->û
open Go.Ground renaming data->ý,phase->ũ
open Go.Act renaming eval->þ,put->Ő
open Ne renaming symm->ÿ
open Go.Deferred renaming ofValue->Ĉ
open Go.Goroutine renaming again->ď
open Go.CallKind renaming early->Đ,deferred->ľ
open Go.GStep renaming after->Ě,go->ş
open Go.Conc.Lib renaming WgLink->ě,WgLib->Ŕ,uLoadFn->Ξ
open Go.Stepped renaming next->ğ
open List renaming all_eq_true->ġ,any_eq_true->Ŀ,mem_range->Ş,mem_cons->š,range->Κ
open Go.Code renaming region->Ģ,cond->Τ,block->ε,skip->ο
open Go.Frame renaming finish_at->ĩ,enter->Ŷ
open Go.Proofs.Tryz renaming prog->ī,underlying20->Ĺ,func64->ŷ
open Go.Op renaming move->Ŧ,call->Ŭ,equalIn->Θ,binOp->Ω
variable{i n j b k m J j9 j7 j6:Nat}{w u W jX:Ð}{v x z jQ:ã}{g:Ä}{a p:Č}{h c:Int}{e t T:ĳ}{d q:Array ã}{P:Ğ}{y:ō}{B:ByteArray}{X:Nat->Prop}{O:Option Č}{l:List ã}{yQ:Bool}{K H:ō->Ð->Prop}{o:Ĭ}{D:Nat->Nat}{E:Array Ä}{L:List Ţ}{jJ:List Nat}{qX:List ø}{qQ:Ÿ}{qJ:ä}{zX:π->Prop}{zQ:List Int}{zJ:Go.TypeInfo}{xX:Ÿ->ã}{xQ:Go.Tape}{xJ:Nat×Nat}{wX:θ}{wQ:Ă}{wJ:Array Bool}{vX:List ByteArray}{vQ:ã->Ð->Prop}{vJ:Go.Exit->ō->Ð->Prop}{yX:Ý}{Q:Array Ĭ}{f:ø}{V:Array đ}{F:Ĵ}{s:Go.Func}
namespace Go.Proofs.Y.fv
open Go Go.Conc Go.Proofs.Y.Lift
open Go.ConcN (sumTo)
section
variable{F:Ph}{E:fN F}{S:Nat->Jd}{tr:Nat->gh}{c:Nat->ik}{lot:Nat->e5}{gs:Array Ä}{w':Ð}{t u:ä}{sz:Nat}
def vO(h:F.M b):F.G (fG b)/\F.G (gP b):=⟨⟨b,h,À U⟩,⟨b,h,Á U⟩⟩
def vP(h:F.G a):E.Y a.block:=by obtain⟨b,c,rfl|rfl⟩:=h<;>exact À c
def iw.Y(L:iw F E lot sz w)(ok:F.Ok)(f:F.G a):∀i,i<sz->¬(lot i).C a:=by
 intro i g h;let⟨b,c,d⟩:=f;rcases L.gM i g a h with⟨k,_,e⟩|⟨p,_,e⟩
 .rcases d with rfl|rfl<;>simp[fG,gP,iW]at e
 .rcases d with rfl|rfl
  .simp only[fG,jd]at e;injection e with e1 _ _;exact ok.C<|e1▸c
  .simp only[gP,jd]at e;injection e with e1 _ _;exact ok.C<|e1▸c
def iw.sd(L:iw F E lot sz w)(c:Ps F E)(d:j+2<=E.r):∀i,i<sz->∀a:Č,a.block=E.I j->¬(lot i).C a:=by
 intro i f a b g;let⟨h,l,_⟩:=c.o j d;rcases L.gM i f a g with⟨k,m,e⟩|⟨p,_,e⟩
 .exact h<|by rw[<-b,e];exact Á ⟨k,m,U⟩
 .exact l<|by rw[<-b,e];rfl
def iw.aeV(L:iw F E lot sz w):∀i,i<sz->∀a,(lot i).C a->a.spot=Í:=by intro i b a c;rcases L.gM i b a c with⟨k,_,rfl⟩|⟨p,_,rfl⟩<;>rfl
def iw.NB(L:iw F E lot sz w)(ok:F.Ok):∀i,i<sz->¬(lot i).r (jd F F.f):=by
 intro i a h;rcases L.gM i a _ (À h)with⟨k,b,e⟩|⟨p,c,e⟩
 .have:F.Y=F.I k:=by injection e
  exact ok.C<|by rw[this];exact Á ⟨k,b,U⟩
 .have:F.f=p:=by injection e
  exact c this.symm
structure Fo(F:Ph)(E:fN F)(lot:Nat->e5)(sz:Nat)(w w':Ð):Prop where
 Cr:w.heap.size<=w'.heap.size
 C:∀b,b<w.heap.size->¬E.Y b->(∀i,i<sz->¬(lot i).O b)->w'.heap[b]?=w.heap[b]?
 r:∀a:Č,((∃k,k<=F.m/\a=iW F.toFx k)\/∃p,a=jd F p)->(∀i,i<sz->¬(lot i).r a)->w'.cell? a=w.cell? a
 I:kE w' F.Y=kE w F.Y
 M:w'.os=w.os/\w'.output=w.output
def Wd.I1(W:Wd F E w)(H:gL F)(L:iw F E lot sz w)(a:Fo F E lot sz w w')(f:E.S.md<=F.m){d:GS}{e:Nat->GS}(g:gT w' F.C d)(h:∀k,k<=F.m->gT w' (F.I k) (e k))(i:∀j,j+2<=E.r->w'.heap[E.I j]?=w.heap[E.I j]?):Wd F {E with b:=d,a:=e} w' where
 C:=g;I:=h;jv j hj:=by have:=W.jv j hj;rwa[<-i j hj]at this
 M k hk:=⟨(W.M k hk).1,H.S _ _ _ _ _ (W.M k hk).2 (λb c=>a.C b (L.I k hk b c).1 (L.I k hk b c).2.1 (L.I k hk b c).2.2) (a.r _ (À ⟨k,Ø hk f,U⟩)<|L.N k hk) (a.r _ (Á ⟨_,U⟩)<|L.NB H.C) a.I a.M⟩;S k h1 h2:=(a.r _ (Á ⟨_,U⟩)<|L.g k h1 h2).trans<|W.S k h1 h2;N j hj r hr hd:=(a.r _ (Á ⟨_,U⟩)<|L.d j hj r hr hd).trans<|W.N j hj r hr hd
def I2(a:Ps F E):E.S.md<=F.m:=by
 cases h:E.S with
 |ky k=>exact(a.I k).1 h
 |mk k=>have:=((a.I k).2.1 h).2;simp only[ji.md];omega
 |dn k p=>exact((a.I k).2.2 p h).2
def I3(a:Ps F E):E.S.rl<=E.S.md:=by
 cases h:E.S with
 |dn k p=>cases p<;>simp only[ji.rl,ji.md]<;>omega
 |_=>exact Ç _
def NC(a:ji):a.od<=a.rl:=by
 cases a with
 |dn k p=>cases p<;>simp only[ji.rl,ji.od]<;>omega
 |_=>exact Ç _
def V3{x:Nat}(h:E.ie x):E.nI x:=by let⟨e,a,b⟩:=h;exact⟨e,a,by cases e<;>first|exact b|trivial⟩
def I4{l a:e5}(h:l=ki l)(b:lT l a w w' V):a=ki a:=by
 have j:l.q:=by rw[h];trivial
 have c:a.O=λ_=>False:=by rw[(b.i j).2.2,h];rfl
 have e:a.I=λ_=>False:=by rw[b.I,h];rfl
 have f:a.r=λ_=>False:=by rw[b.r,h];rfl
 have g:a.N=λ_=>False:=by rw[b.M,h];rfl
 have i:a.q=True:=by rw[b.q,h];rfl
 obtain⟨O,k,m,n,d,q,o⟩:=a;simp only at c e f g i;subst c e f g i;rfl
theorem iw.fh(L:iw F E lot gs.size w)(C:iJ F.S (λi=>i<gs.size) E.Y lot w t){m:e5}(J:i<gs.size)(d:lT (lot i) m w w' V):iw F E (gf lot i m) gs.size w':=by
 have K:∀x,E.nI x->i=F.L+x->m=ki m:=λx p e=>I4 (e▸L.S x p) d;have M:=λc l=>I4 (L.c i c l) d;have B:∀k a,(gf lot i m k).C a↔(lot k).C a:=λk a=>by
  by_cases e:k=i
  .subst e;rw[gN];unfold e5.C;rw[d.r,d.M]
  .rw[gA lot _ e]
 have n:∀k,(gf lot i m k).r=(lot k).r:=λk=>by
  by_cases e:k=i
  .subst e;rw[gN,d.r]
  .rw[gA lot _ e]
 have s:∀k,(gf lot i m k).N=(lot k).N:=λk=>by
  by_cases e:k=i
  .subst e;rw[gN,d.M]
  .rw[gA lot _ e]
 have u:∀k,(gf lot i m k).I=(lot k).I:=λk=>by
  by_cases e:k=i
  .subst e;rw[gN,d.I]
  .rw[gA lot _ e]
 refine⟨λk f a v=>L.gM k f a<|(B k a).1 v,λx c l a v=>by rw[n];exact L.o x c l a v,λh=>by rw[s,u];exact L.ll h,λh k c l=>by rw[n];exact L.e h k c l,λh o=>by rw[s,u];exact L.f h o,λj g o r y c=>by rw[n];exact L.h j g o r y c,λj g o=>by rw[s,u];exact L.l j g o,λx p=> ?_,λk f=> ?_,λk c l=> ?_,λk f b D=> ?_,λk f j g=>by rw[n];exact L.N k f j g,λk c l j g=>by rw[n];exact L.g k c l j g,λj g r y G k f=>by rw[n];exact L.d j g r y G k f⟩
 .by_cases e:F.L+x=i
  .grind [gN]
  .rw[gA lot _ e];exact L.S x p
 .by_cases e:k=i
  .subst e;rw[gN,d.q];exact L.M k f
  .rw[gA lot _ e];exact L.M k f
 .by_cases e:k=i
  .grind [gN]
  .rw[gA lot _ e];exact L.c k c l
 .let⟨H,I,N⟩:=L.I k f b D;refine⟨Ê H d.C,I,λj g=> ?_⟩;by_cases e:j=i
  .subst e;rw[gN];intro q;rcases d.S b q with z|z;all_goals grind
  .grind [gA]
def aeW(C:iJ F.S (λi=>i<gs.size) E.Y lot w t){h:e5}(d:i<gs.size)(c:lT (lot i) h w w' V):Fo F E lot gs.size w w':= ⟨c.C,λb j e f=>c.jF b j (f i d) λa g q=>e<|g▸C.e i d a (À q),λa g f=>by
   have e:E.Y a.block:=by
    rcases g with⟨k,l,rfl⟩|⟨p,rfl⟩
    .exact À<|Á ⟨k,l,U⟩
    .exact Á<|À U
   exact c.N a (C.N _ e) (λq=>C.I i d _ (À q) e)<|f i d,
  c.Y (jd F 0) (C.N _ (Á (À U))) λq=>C.I i d _ (À q) (Á (À U)),c.f,c.g⟩
def V4(L:iw F E lot gs.size w)(ok:F.Ok)(C:iJ F.S (λi=>i<gs.size) E.Y lot w t){g:e5}(e:i<gs.size)(c:lT (lot i) g w w' V)(f:F.M b){G:GS}(h:gT w b G):gT w' b G:=by have a:E.Y b:=À f;have d:=λq=>C.I i e _ (À q) a;exact h.uL (c.N (fG b) (C.N _ a) d λq=>(L.Y ok (vO f).1 i e)<|À q) (c.N (gP b) (C.N _ a) d λq=>(L.Y ok (vO f).2 i e)<|À q) (IH<|c.Y (fG b) (C.N _ a) d)<|IH<|c.Y (gP b) (C.N _ a) d
def aeX(L:iw F E lot gs.size w)(e:Ps F E)(C:iJ F.S (λi=>i<gs.size) E.Y lot w t){f:e5}(b:i<gs.size)(g:lT (lot i) f w w' V)(c:j+2<=E.r):w'.heap[E.I j]?=w.heap[E.I j]?:=by have d:E.Y (E.I j):=Á<|Á ⟨j,c,U⟩;exact g.jF _ (C.N _ d) (λq=>C.I i b _ (À q) d) λa h q=>L.sd e c i b a h<|À q
theorem aeY(L:iw F E lot gs.size w)(H:Ps F E)(ok:F.Ok)(C:iJ F.S (λi=>i<gs.size) E.Y lot w t)(P:gs.size=F.L+E.r){m:e5}{p:Array đ}{u:Ĵ}{B:String}(o:i<gs.size)(g:lT (lot i) m w w' p): IZ F.toFx E.r (E.S.rl) E.V E.d E.ie t (Û i u B p) i:=by
 have J:∀x,E.ie x->i=F.L+x->m=ki m:=λx l e=>I4 (e▸L.S x (V3 l)) g;have D:∀c∈Û i u B p,∀a,c.act.touch?=Ã a->∃y:Č,a.loc=ú y/\(m.O y.block\/m.r y\/((m.I y.block\/m.N y)/\a.write=É)):=λc d a n=>by obtain⟨e,r,rfl⟩:=Ö d;exact VJ (g.c e r) n
 have I:m=ki m->∀c∈Û i u B p,c.act.touch?=Í:=λe c d=>by
  cases h:c.act.touch? with
  |none=>rfl
  |some a=>
   let⟨y,_,q⟩:=D c d a h;rw[e]at q;rcases q with q|q|⟨q|q,_⟩<;>exact q.elim
 refine⟨λc d _ _=>nH c d,?_,λc d a x n G l=> ?_,λc d a y n Q G k h s=> ?_,λc d b _ e=> ?_,λx l K=> ?_⟩
 .by_cases j:i=0
  .exact À j
  .by_cases f:i<F.L
   .exact Á<|Á<|I<|(λh s=>I4 (L.c i h s) g) Z f
   .exact Á<|À ⟨i-F.L,Z,Z⟩
 .exfalso;let⟨y,j,q⟩:=D c d a n;rw[G]at j;injection j with j;subst j;have f:=vP (E:=E) l;have v:=L.Y ok l i o;rcases q with q|q|⟨q|q,_⟩
  .rcases g.S _ q with z|z
   .exact C.I i o _ (À z) f
   .have:=C.N _ f;omega
  .exact v<|À<|by rwa[<-g.r]
  .exact C.I i o _ (Á<|by rwa[<-g.I]) f
  .exact v<|Á<|by rwa[<-g.M]
 .have j:=Ø s<|I3 H;let⟨x,l,q⟩:=D c d a n;rw[G]at l;injection l with l;subst l;rcases q with q|q|⟨_,q⟩
  .refine⟨λv=> ?_,λe=> ?_⟩
   .let⟨M,_,N⟩:=L.I k j _ v;rcases g.S _ q with z|z;all_goals grind
   .have f:E.Y y.block:=by rw[e];exact À<|Á ⟨k,Ø j<|I2 H,U⟩
    rcases g.S _ q with z|z
    .exact C.I i o _ (À z) f
    .have:=C.N _ f;omega
  .refine⟨λv=>((L.I k j _ v).2.1<|C.e i o y<|À<|by rwa[<-g.r]),λe=>(L.N k j i o<|by rwa[<-g.r,<-e])⟩
  .grind
 .obtain⟨j,r,rfl⟩:=Ö d;have v:=g.c j r;let⟨M,N,S⟩:=j;simp only[Ë]at e;rcases v with⟨a,h,_⟩|h|⟨f,h⟩|h|h|⟨a,_,h|h|h|h⟩<;>(simp only at h;subst h;simp at e)
 .by_cases e:F.L+x=i
  .have v:=I<|J x K e.symm;refine⟨λr f=>f.app λj S T M=> ?_,λ_ c d a n=>by rw[v c d]at n;cases n⟩;let⟨z,N,_⟩:=M;rcases mo (show touchAt (t++_) j=Ã z from N)with⟨q,_⟩|⟨_,c,h,s,_⟩;all_goals grind
  .exact⟨λr f=>f.appOther nH<|ÿ e,λj=>absurd j e⟩
end
abbrev s8:=Nat×Nat×gh
def xV(x y:s8):Prop:=x.1<y.1\/(x.1=y.1/\(x.2.1<y.2.1\/(x.2.1=y.2.1/\VM x.2.2 y.2.2)))
def V5:WellFounded xV:=by
 refine⟨λx=> ?_⟩;let⟨a,b,c⟩:=x
 induction a using Ď generalizing b c with
 |_ a j=>
  induction b using Ď generalizing c with
  |_ b k=>
   induction VN.apply c with
   |intro c _ l=>
    refine⟨_,λy h=> ?_⟩;let⟨m,f,e⟩:=y;rcases h with h|⟨d,h|⟨g,i⟩⟩
    .exact j m h f e
    .simp only at d h;subst d;exact k f h e
    .simp only at d g i;subst d g;exact l e i
def aeZ(x:s8):¬xV x x:=by
 intro h
 induction V5.apply x with
 |intro x _ a=>exact a x h h
def B3(n:Nat)(f g:Nat->s8):Prop:=∃i,i<n/\xV (f i) (g i)/\∀j,j<n->j≠i->f j=g j\/xV (f j) (g j)
def V7:∀(n:Nat) (g:Nat->s8),Acc (B3 n) g
 |0,g=>⟨_,λf ⟨i,h,_⟩=>absurd h Z⟩
 |n+1,g=>by
  have k:∀(x:s8) (h:Nat->s8),∀g:Nat->s8,g n=x->(∀j,j<n->g j=h j)->Acc (B3<|n+1) g:=by
   intro x
   induction V5.apply x with
   |intro x _ l=>
    intro h
    induction V7 n h with
    |intro h _ m=>
     intro g b c;refine⟨_,λf ⟨i,r,a,d⟩=> ?_⟩;by_cases e:f n=g n
     .have s:i≠n:=by
       intro q;subst q;rw[e]at a;exact aeZ _ a
      refine m f ⟨i,Z,by rwa[<-c i Z],λj o p=> ?_⟩ f (e.trans b) λ_ _=>rfl;rw[<-c j o];exact d j Z p
     .have:xV (f n) x:=by
       rw[<-b];by_cases q:n=i
       .rwa[q]
       .exact(d n Z q).resolve_left e
      exact l _ this f f U λ_ _=>rfl
  exact k (g n) g g U λ_ _=>rfl
abbrev Mu:=(Nat->s8)×Nat
def oK(n:Nat)(x y:Mu):Prop:=B3 n x.1 y.1\/((∀j,j<n->x.1 j=y.1 j)/\x.2<y.2)
def ae0(n:Nat):WellFounded (oK n):=by
 have e:∀h:Nat->s8,∀k:Nat,∀g:Nat->s8,(∀j,j<n->g j=h j)->Acc (oK n) (g,k):=by
  intro h
  induction V7 n h with
  |intro h _ l=>
   intro k
   induction k using Ď with
   |_ k m=>
    intro g a;refine⟨_,λy q=> ?_⟩;let⟨f,b⟩:=y;rcases q with⟨i,c,o,x⟩|⟨p,r⟩
    .exact l f ⟨i,c,by rwa[<-a i c],λj d s=>by rw[<-a j d];exact x j d s⟩ b f λ_ _=>rfl
    .exact m b r f λj x=>(p j x).trans<|a j x
 exact⟨λx=>e x.1 x.2 x.1 λ_ _=>rfl⟩
section
variable(F:Ph)
def ju.rk(n:Nat):ju->Nat
 |.jq=>n+1011
 |.iu=>n+1010
 |.gp W=>min W (n+1000)+4
 |.iT W=>min W (n+1000)+3
 |.il r=>min r (n+1000)+2
def jg.rk:jg->Nat
 |.iP=>7
 |.lD _=>6
 |.wr=>5
 |.kh=>4
 |.gp=>3
 |.kK=>2
def fP.rk(F:Ph):fP->Nat
 |.iu j=>F.q+F.n+20+4*(F.n-j)+7
 |.rd j=>F.q+F.n+20+4*(F.n-j)+6
 |.kU j=>F.q+F.n+20+4*(F.n-j)+5
 |.go j=>F.q+F.n+20+4*(F.n-j)+4
 |.iC r=>r+F.n+11
 |.kF r=>r+10
 |.ft p=>p.rk+2
 |.fU=>0
def ji.rk(F:Ph):ji->Nat
 |.ky k=>(F.n+3000)*(F.m+2-k)+2900
 |.mk k=>(F.n+3000)*(F.m+3-k)+2800
 |.dn k p=>(F.n+3000)*(F.m+2-k)+2901+p.rk F.n
def gF.rk(F:Ph):gF->Nat
 |.mK r=>(F.n+3000)*(F.q+3-r)
 |.ft r p=>(F.n+3000)*(F.q+3-r)-20+p.rk
 |.jy r=>(F.n+3000)*(F.q+3-r)-30
 |.nZ r=>(F.n+3000)*(F.q+3-r)-40
def gY.rk(F:Ph):gY->Nat×Nat
 |.n7=>(F.n+2900,0)
 |.fU p=>(p.rk F.n,0)
 |.jf N=>(0,N)
end
def SP.rk(B:Nat)(st:Int):SP->Nat
 |.fT k=>B+2+k
 |.ld v k=>if st=v then k+1 else 2*B+3+k
def jg.kQ(B:Nat)(st:Int):jg->Nat
 |.lD p=>p.rk B st
 |_=>0
section
variable{F:Ph}
def fN.iK(E:fN F)(tr:Nat->gh)(i:Nat):s8:=
 if i=0 then(E.M.rk F,0,tr 0)
 else if i<F.L then(0,E.h i,.fu)
 else match E.N (i-F.L)with
  |some e=>((e.rk F).1,(e.rk F).2,tr i)
  |none=>if i=F.L then(E.S.rk F,0,tr i)else((E.C<|i-F.L-1).rk F,0,tr i)
def fN.kQ(E:fN F)(i:Nat):Nat:=
 if i=0 then(match E.M with|.ft p=>p.kQ F.B E.b.st|_=>0)
 else if i<=F.L then 0
 else match E.C (i-F.L-1)with|.ft r p=>p.kQ F.B (E.a<|F.r<|i-F.L-1+r*F.n).st|_=>0
def fY(gs:Array Ä)(i:Nat):Nat:=if(gs[i]?).any (·.status==.running)then 1 else 0
def Ph.N(F:Ph):Nat:=F.L+F.n+1
def fN.mu(E:fN F)(a:Nat->gh)(b:Array Ä):Mu:=(E.iK a,Ñ F.N λi=>(F.N+1)*E.kQ i+fY b i)
end
theorem Fp{b x:Ä}(h:(Ā P g b w x).status=Ü):Ā P g b w x=x/\x.status=Ü:=by
 unfold Ā at h|-;split at h
 .rename_i c;rw[if_pos c];unfold ď at h|-;grind
 .grind
section
variable{F:Ph}{E:fN F}{S:Nat->Jd}{tr:Nat->gh}{d:Nat->ik}{lot:Nat->e5}{gs gs':Array Ä}{w':Ð}{t u:ä}{sl:Option (Nat×Nat)}
def fc.Fc(h:fc F E gs w)(o:gs'[i]?=Ã g)(p:g.status≠Ü)(t:∀k,k≠i->∃a f:Ä,gs'[k]?=gs[k]?.map (Ā F.P a f w'))(u:∀j,j+2<=E.r->w'.heap[E.I j]?=w.heap[E.I j]?):fc F E gs' w':=by
 intro k x b l;by_cases e:k=i
 .subst e;rw[o]at b;obtain rfl:=È b;exact absurd l p
 .let⟨a,f,q⟩:=t k e;rw[q]at b;obtain⟨y,v,rfl⟩:=Ù.1 b;let⟨_,z⟩:=Fp l;rcases h k y v z with h1|⟨j,c,m,n,d|⟨r,B,s,C,d,D⟩⟩
  .exact À h1
  .exact Á ⟨j,c,m,n,À d⟩
  .exact Á ⟨j,c,m,n,Á ⟨r,B,s,C,d,by rwa[u j c]⟩⟩
def kV{J:Jd}(a:∀l g,J l g->g.status=Å\/g.status=å){l:e5}(h:fe P yQ J l g):g.status=Å\/g.status=å:=by
 cases h with
 |fu h=>exact a _ _<|h _<|fD.fO _ _
 |jA _ _ _ _ b=>exact À b
def ae1(H:gL F)(p:PI F m zX E S tr d lot gs w t){i:Nat}(hi:i<gs.size):∀l g,S i l g->g.status=Å\/g.status=å:=by
 have dn:∀(main:Bool) (b:Nat) (J:Jd),(∀l g,J l g->g.status=Å\/g.status=å)->∀(p:ju) l g,Co F.P main b J p l g->g.status=Å\/g.status=å:=by
  intro main b J hJ p l g h;cases p with
  |jq=>exact À h.2.1
  |iu=>exact À h.2.1
  |gp W=>exact À h.2.1
  |iT W=>exact À h.2.1
  |il r=>cases r with
   |zero=>exact hJ l g h
   |succ r=>exact À h.2.1
 have wt:∀(main:Bool) (b:Nat) (J:Jd) (p:jg) l g,pZ F.P main F.B b J p l g->g.status=Å:=by
  intro main b J p l g h;cases p with
  |iP=>let⟨k,_,_,T,h1,h2⟩:=h;exact(h2 _ _ h1).1
  |lD p=>let⟨_,T,h1,h2⟩:=h;exact(h2 _ _ h1).1
  |wr=>exact h.2.1
  |kh=>exact h.2.1
  |gp=>exact h.2.1
  |kK=>exact h.2.1
 intro l g h;by_cases e0:i=0
 .subst e0;rw[p.h.1]at h;cases hm:E.M with
  |go j=>rw[hm]at h;exact À<|H.I _ _ _ _ h
  |kU j=>rw[hm]at h;let⟨c,h⟩:=h;exact À<|H.I _ _ _ _ h
  |rd j=>rw[hm]at h;exact À h.2.1
  |iu j=>rw[hm]at h;exact À h.2.1
  |iC r=>
   rw[hm]at h;have cl:∀r l g,zZ F E.I r l g->g.status=Å:=λr l g h=>by
    cases r with
    |zero=>exact wt _ _ _ .iP _ _ h
    |succ r=>exact h.1
   cases r with
   |zero=>exact À<|cl _ _ _ h
   |succ r=>exact À h.1
  |kF r=>
   rw[hm]at h;cases r with
   |zero=>exact À<|wt _ _ _ .iP _ _ h
   |succ r=>exact À h.1
  |ft p=>rw[hm]at h;exact À<|wt _ _ _ _ _ _ h
  |fU=>rw[hm]at h;exact À<|H.M _ _ _ h
 by_cases e1:i<F.L
 .rw[(p.l i Z e1).1]at h;exact QuitsD.status h
 have jV:=p.b;obtain⟨x,rfl⟩:∃x,i=F.L+x:=⟨i-F.L,Z⟩;cases he:E.N x with
 |some e=>
  rw[(p.k x e Z he).1]at h;cases e with
  |n7=>exact À h.2.1
  |fU p=>exact dn _ _ _ (λl g ⟨N,h⟩=>h.status) _ _ _ h
  |jf N=>exact QuitsD.status h
 |none=>
  cases x with
  |zero=>
   rw[ó,(p.m Z he).1]at h;cases hm:E.S with
   |ky k=>rw[hm]at h;exact À<|H.N _ _ _ h
   |mk k=>rw[hm]at h;let⟨s',V,_,_,_,_,h⟩:=h;exact À h.2.1
   |dn k p=>rw[hm]at h;exact dn _ _ _ (λl g h=>kV (λl g h=>À<|H.N _ _ _ h) h) _ _ _ h
  |succ j=>
   rw[show F.L+(j+1)=F.L+1+j by omega,(p.g j Z he).1]at h;cases hm:E.C j with
   |mK r=>rw[hm]at h;exact À h.1
   |ft r p=>rw[hm]at h;exact À<|wt _ _ _ _ _ _ h
   |jy r=>rw[hm]at h;exact À<|H.Y _ _ _ _ h
   |nZ r=>rw[hm]at h;exact À h.2.1
theorem ae2{T:gh}(h:k≠i):E.iK (fq tr i T) k=E.iK tr k:=by unfold fN.iK;grind [fC]
theorem ae3{k:Ð->gh}(a:tr i=.jA k)(b:¬(0<i/\i<F.L)):xV (E.iK (fq tr i<|k w) i) (E.iK tr i):=by
 unfold fN.iK;split
 .rename_i e;subst e;rw[gw,a];exact Á ⟨U,Á ⟨U,w,U⟩⟩
 .split
  .grind
  .rw[gw,a];split
   .exact Á ⟨U,Á ⟨U,w,U⟩⟩
   .split<;>exact Á ⟨U,Á ⟨U,w,U⟩⟩
theorem PI.fh(H:gL F)(p:PI F m zX E S tr d lot gs w t){k:Ð->gh}(y:gs[i]?=Ã g)(o:tr i=.jA k): ∃gs' w' u e q,Ŏ F.P (ð gs w sl) i=(ğ<|ð gs' w' sl,u)/\gs'.size=gs.size/\PI F m zX E S e d q gs' w' (t++u)/\oK F.N (E.mu e gs') (E.mu tr gs):=by
 have c:=(Õ.1 y).1;let⟨gs',w',W,X,D,z,⟨Y,G,I⟩,J,f,K⟩:=p.I.fh (sl:=sl) y o<|ae1 H p c;have M:¬(0<i/\i<F.L):=λ⟨a,b⟩=>by rw[(p.l i a b).2.1]at o;cases o
 have C:=p.I.r;have B:∀j,j+2<=E.r->w'.heap[E.I j]?=w.heap[E.I j]?:=λj v=>aeX p.a p.C C c f v;have O:i<F.N:=by
  have:=p.b;have:E.r<=F.n+1:=by
   unfold fN.r;cases e:E.M with
   |go j=>have:=p.C.C j<|À e;simp only[fP.sp];omega
   |kU j=>have:=p.C.C j<|Á<|À e;simp only[fP.sp];omega
   |rd j=>have:=p.C.C j<|Á<|Á<|À e;simp only[fP.sp];omega
   |iu j=>have:=p.C.C j<|Á<|Á<|Á e;simp only[fP.sp];omega
   |_=>simp only[fP.sp];omega
  unfold Ph.N;omega
 refine⟨gs',w',_,_,_,D,z,⟨z.trans p.b,K,p.h,p.m,p.g,λx e h l=> ?_,λs h l=> ?_,?_,p.M.I1 H p.a (aeW (E:=E) C c f) (I2 p.C) (V4 p.a H.C C c f (À U) p.M.C) (λs q=>V4 p.a H.C C c f (Á ⟨s,q,U⟩)<|p.M.I s q) B,p.C,p.d.C<|aeY p.a p.C H.C C p.b c f,p.c.Fc G (by rcases I with q|q<;>rw[q]<;>simp) J B,λj r h l q=>(p.f j r h l q).app _⟩,À ⟨i,O,ae3 o M,λj _ v=>À<|ae2 v⟩⟩
 .let⟨Q,T,V⟩:=p.k x e h l;grind [fC]
 .let⟨Q,T,V⟩:=p.l s h l;grind [fC]
 .have:=p.a.fh C c f;grind
end
end Go.Proofs.Y.fv
namespace Go.Proofs.Y.fv
open Go Go.Conc Go.Proofs.Y.Lift
open Go.ConcN (sumTo sumTo_congr)
def ae4{J b:Jd}(c:∀l g,J l g->b l g):∀{T:gh} {l:e5} {g:Ä},kJ P yQ J T l g->kJ P yQ b T l g:=by
 intro T
 induction T with
 |fu=>exact λh a r=>c _ _<|h a r
 |jA k d=>
  intro l g h;refine⟨h.1,λa r=> ?_⟩;let⟨e,f,i,j,m,n,o⟩:=h.2 a r;exact⟨e,f,i,j,m,n,d a o⟩
section
variable{F:Ph}{E E':fN F}{S:Nat->Jd}{tr d:Nat->gh}{kp:Nat->ik}{c:Nat->e5}{gs gs':Array Ä}{u:ä}{sl:Option (Nat×Nat)}
theorem gD.ky{Y:Nat->Prop}(a:gD P n Y S tr kp c gs w qJ){J:Jd}(h:∀l g,S i l g->J l g):gD P n Y (fq S i J) tr kp c gs w qJ:=by
 refine⟨a.r,λk x b=> ?_,a.I⟩;let⟨g0,d,f⟩:=a.C k x b;by_cases e:k=i
 .subst e;rw[gw];exact⟨g0,ae4 h d,f⟩
 .grind [fC]
def Cs:E.iK tr 0=(E.M.rk F,0,tr 0):=by simp[fN.iK]
theorem I5(ok:F.Ok){x:Nat}{e:gY}(a:E.N x=Ã e):E.iK tr (F.L+x)=((e.rk F).1,(e.rk F).2,tr<|F.L+x):=by have:=ok.r;unfold fN.iK;grind
theorem V8(ok:F.Ok)(a:E.N 0=Í):E.iK tr F.L=(E.S.rk F,0,tr F.L):=by have:=ok.r;unfold fN.iK;grind
theorem s9(ok:F.Ok)(a:E.N (j+1)=Í):E.iK tr (F.L+1+j)=((E.C j).rk F,0,tr<|F.L+1+j):=by have:=ok.r;unfold fN.iK;grind
theorem xW(a:k=0->E'.M.rk F=E.M.rk F)(b:0<k->k<F.L->E'.h k=E.h k)(c:F.L<=k->E'.N (k-F.L)=E.N (k-F.L))(e:k=F.L->E.N 0=Í->E'.S.rk F=E.S.rk F)(f:F.L<k->E.N (k-F.L)=Í->(E'.C<|k-F.L-1).rk F=(E.C<|k-F.L-1).rk F)(g:d k=tr k):E'.iK d k=E.iK tr k:=by unfold fN.iK;grind
def Fq(a:i<F.N)(h:xV (E'.iK d i) (E.iK tr i))(b:∀k,k≠i->E'.iK d k=E.iK tr k):oK F.N (E'.mu d gs') (E.mu tr gs):= À ⟨i,a,h,λj _ c=>À<|b j c⟩
def Ct(a:Ps F E):E.r<=F.n+1:=by
 unfold fN.r;cases b:E.M with
 |go j=>have:=a.C j<|À b;simp only[fP.sp];omega
 |kU j=>have:=a.C j<|Á<|À b;simp only[fP.sp];omega
 |rd j=>have:=a.C j<|Á<|Á<|À b;simp only[fP.sp];omega
 |iu j=>have:=a.C j<|Á<|Á<|Á b;simp only[fP.sp];omega
 |_=>simp only[fP.sp];omega
def PI.G(p:PI F b zX E S tr kp c gs w qJ)(h:i<gs.size):i<F.N:=by have:=p.b;have:=Ct p.C;unfold Ph.N;omega
def gJ(E:fN F)(j:Nat)(x:gF):fN F:={E with C:=fq E.C j x}
theorem jB(j:Nat)(x:gF):(gJ E j x).C j=x:=gw _ _ _
theorem iF(x:gF)(h:i≠j):(gJ E j x).C i=E.C i:=fC _ _ h
theorem V9{x:gF}(h:∀k,x.gu F j k=(E.C j).gu F j k)(k:Nat):(Ñ F.n λi=>((gJ E j x).C i).gu F i k)=Ñ F.n λi=>(E.C i).gu F i k:=by grind [jB,iF]
def Cu(ok:F.Ok){x:gF}{T:gh}(b:F.L+1+j<F.N)(a:E.N (j+1)=Í)(h:x.rk F<(E.C j).rk F):oK F.N ((gJ E j x).mu (fq tr (F.L+1+j) T) gs') (E.mu tr gs):=by
 refine Fq b (À ?_) λk c=>xW (λ_=>rfl) (λ_ _=>rfl) (λ_=>rfl) (λ_ _=>rfl) (λd _=> ?_)<|fC tr _ c
 .rwa[s9 ok (E:=gJ E j x) (show(gJ E j x).N (j+1)=Í from a),s9 ok a,jB]
 .rw[iF x Z]
def Ps.G(h:Ps F E){x:gF}(m:j+2<=E.r)(d:E.N (j+1)=Í)(c:∀k,x.gu F j k=(E.C j).gu F j k)(f:∀r,((∃p,x=.ft r p)\/x=.jy r\/x=.nZ r)->j+r*F.n<F.q) (g:∀r,(x=.ft r .gp\/x=.ft r .kK\/x=.jy r)->F.r (j+r*F.n)<=E.S.od) (i:∀r,x=.ft r .gp->∃a b,E.a (F.r<|j+r*F.n)=.gQ a b) (l:∀r,x=.ft r .wr->E.d (F.r<|j+r*F.n)=Ã j):Ps F (gJ E j x) where
 v:=h.v;C:=h.C;K:=h.K;L:=h.L;J:=h.J;I:=h.I;z j' n8:=by have:E.r<j'+2:=n8;rw[iF x Z];exact h.z j' n8
 d j' r n8 hx:=by
  by_cases e:j'=j
  .subst e;rw[jB]at hx;exact f r hx
  .rw[iF x e]at hx;exact h.d j' r n8 hx
 l j' n8 hx:=by
  have e:j'≠j:=λe=>by subst e;exact hx d
  rw[iF x e];exact h.l j' n8 hx
 f:=h.f;h:=h.h;M:=h.M;o:=h.o;t:=h.t;g:=h.g;u:=h.u;N:=h.N;B:=h.B;e k h1 h2 h3:=by rw[V9 c];exact h.e k h1 h2 h3
 Y k h1 h2:=by rw[V9 c];exact h.Y k h1 h2
 w j' r n8 hx:=by
  by_cases e:j'=j
  .subst e;rw[jB]at hx;exact g r hx
  .rw[iF x e]at hx;exact h.w j' r n8 hx
 H j' r n8 hx:=by
  by_cases e:j'=j
  .subst e;rw[jB]at hx;exact i r hx
  .rw[iF x e]at hx;exact h.H j' r n8 hx
 O:=h.O;S:=h.S;y:=h.y;D j' r n8 hx:=by
  by_cases e:j'=j
  .subst e;rw[jB]at hx;exact l r hx
  .rw[iF x e]at hx;exact h.D j' r n8 hx
def uN(E:fN F)(j:Nat)(x:gF)(k:Nat)(G:GS)(a:Nat->Option Nat):fN F:={gJ E j x with a:=fq E.a k G,d:=a}
theorem Ps.Wa(h:Ps F E){x:gF}{G:GS}{l:Nat->Option Nat}(Q:j+2<=E.r)(C:E.N (j+1)=Í)(D:∀c,c≠k->x.gu F j c=(E.C j).gu F j c) (H:1<=k->E.S.od<k->G=.cl 1 (Ñ F.n λi=>((fv.gJ E j x).C i).gu F i k)) (I:k<=E.S.od->(∃W,(E.S=.dn k (.gp W)\/E.S=.dn k (.iT W))/\G=.jr W/\W=Ñ F.n λi=>((fv.gJ E j x).C i).gu F i k)\/(∃r s,E.S=.dn k (.il r)/\0<r/\G=.gQ r s/\r+s=Ñ F.n λi=>((fv.gJ E j x).C i).gu F i k)\/((∀p,E.S≠ .dn k p)/\((G=.cl 0 0/\(Ñ F.n λi=>((fv.gJ E j x).C i).gu F i k)=0)\/∃s,G=.gQ 0 s/\s=Ñ F.n λi=>((fv.gJ E j x).C i).gu F i k))) (J:(∃a b,E.a k=.gQ a b)->∃a b,G=.gQ a b) (K:G=.cl 1 0->l k=Í) (L:∀c,c≠k->l c=E.d c) (S:∀y,E.d k=Ã y->l k=Ã y) (T:∀r,((∃p,x=.ft r p)\/x=.jy r\/x=.nZ r)->j+r*F.n<F.q) (M:∀r,(x=.ft r .gp\/x=.ft r .kK\/x=.jy r)->F.r (j+r*F.n)<=E.S.od) (N:∀r,x=.ft r .gp->∃a b,fq E.a k G (F.r<|j+r*F.n)=.gQ a b) (O:∀r,x=.ft r .wr->l (F.r<|j+r*F.n)=Ã j):Ps F (uN E j x k G l):=by
 have z:∀c,c≠k->(Ñ F.n λi=>((uN E j x k G l).C i).gu F i c)=Ñ F.n λi=>(E.C i).gu F i c:=λc u=>by
  refine Ł λi _=> ?_;by_cases e:i=j
  .subst e;show((fv.gJ E i x).C i).gu F i c=_;rw[jB,D c u]
  .show((fv.gJ E j x).C i).gu F i c=_;rw[iF x e]
 have v:∀c,c≠k->(uN E j x k G l).a c=E.a c:=λc u=>fC _ _ u;have gs:(uN E j x k G l).a k=G:=gw _ _ _;have w:(uN E j x k G l).C j=x:=jB _ _;have o:∀d,d≠j->(uN E j x k G l).C d=E.C d:=λd g=>iF x g;refine⟨h.v,h.C,h.K,h.L,h.J,h.I,λd g=> ?_,λd r g f=> ?_,λd g f=> ?_,h.f,h.h,h.M,h.o,h.t,h.g,h.u,h.N,h.B,λc t m B=> ?_,λc t m=> ?_,λd r g f=> ?_,λd r g f=> ?_,h.O,h.S,λc t m=> ?_,λd r g f=> ?_⟩
 .have:E.r<d+2:=g;rw[o d Z];exact h.z d g
 .by_cases e:d=j
  .simp_all
  .rw[o d e]at f;exact h.d d r g f
 .rw[o d (λe=>by subst e;exact f C)];exact h.l d g f
 .by_cases e:c=k
  .subst e;rw[gs];exact H t B
  .rw[v c e,z c e];exact h.e c t m B
 .by_cases e:c=k
  .subst e;rw[gs];exact I m
  .rw[v c e,z c e];exact h.Y c t m
 .by_cases e:d=j
  .subst e;rw[w]at f;exact M r f
  .rw[o d e]at f;exact h.w d r g f
 .by_cases e:d=j
  .subst e;rw[w]at f;exact N r f
  .rw[o d e]at f;have:=h.H d r g f;by_cases P:F.r (d+r*F.n)=k
   .rw[P]at this|-;rw[gs];exact J this
   .grind
 .by_cases e:c=k
  .subst e;rw[gs]at m;exact K m
  .rw[v c e]at m;show l c=Í;rw[L c e];exact h.y c t m
 .by_cases e:d=j
  .subst e;rw[w]at f;exact O r f
  .rw[o d e]at f;have:=h.D d r g f;show l _=Ã d;grind
theorem iw.r(h:iw F E c n w){x:gF}(i:x.kj=(E.C j).kj):iw F (gJ E j x) c n w:=by
 have f:∀a,((fv.gJ E j x).C a).kj=(E.C a).kj:=λa=>by grind [jB,iF]
 exact⟨h.gM,h.o,h.ll,h.e,h.f,λa b d r e g=>h.h a b d r e (by rwa[<-f]),h.l,h.S,h.M,h.c,h.I,h.N,h.g,λa b r d e=>h.d a b r d<|by rwa[<-f]⟩
theorem Wd.Y(h:Wd F E w){x:gF}(g:x.kj=(E.C j).kj)(i:x.iE=(E.C j).iE):Wd F (gJ E j x) w:=by
 have c:∀a,((fv.gJ E j x).C a).kj=(E.C a).kj:=λa=>by grind [jB,iF]
 have d:∀a,((fv.gJ E j x).C a).iE=(E.C a).iE:=λa=>by grind [jB,iF]
 exact⟨h.C,h.I,λa b=>by rw[d];exact h.jv a b,h.M,h.S,λa b r e f=>h.N a b r e<|by rwa[<-c]⟩
structure p6(F:Ph)(E:fN F)(S:Nat->Jd)(tr:Nat->gh)(kp:Nat->ik):Prop where
 M:S 0=JM F E.I E.M/\kp 0=kM E.M
 Y:0<E.r->E.N 0=Í->S F.L=JI F E.c E.S/\kp F.L=.no
 I:∀j,j+2<=E.r->E.N (j+1)=Í->S (F.L+1+j)=JW F (E.I j) j (E.C j)/\kp (F.L+1+j)=kW F (E.I j) (E.C j)
 C:∀x e,x<E.r->E.N x=Ã e->S (F.L+x)=JE F e/\kp (F.L+x)=.no/\((∃N,e=.jf N)->tr (F.L+x)=.fu)
 r:∀i,0<i->i<F.L->S i=oJ F.P (E.h i)/\tr i=.fu/\kp i=.no
def PI.N(p:PI F b zX E S tr kp c gs w qJ):p6 F E S tr kp:=⟨p.h,p.m,p.g,p.k,p.l⟩
def PI.r(a:p6 F E S tr kp)(d:gs.size=F.L+E.r)(e:gD F.P F.S E.Y S tr kp c gs w qJ)(f:iw F E c gs.size w)(g:Wd F E w)(h:Ps F E)(i:TI F.toFx b zX E.r E.S.rl E.V E.e E.d E.ie E.f qJ)(k:fc F E gs w) (l:∀j r,j+2<=E.r->E.C j=.jy r->1<=F.r (j+r*F.n)->Λ qJ (F.L+1+j) (E.e<|F.r<|j+r*F.n)):PI F b zX E S tr kp c gs w qJ:=⟨d,e,a.M,a.Y,a.I,a.C,a.r,f,g,h,i,k,l⟩
def p6.N(h:p6 F E S tr kp)(ok:F.Ok){x:gF}{T:gh}(k:j+2<=E.r)(f:E.N (j+1)=Í):p6 F (gJ E j x) (fq S (F.L+1+j)<|JW F (E.I j) j x) (fq tr (F.L+1+j) T) (fq kp (F.L+1+j)<|kW F (E.I j) x):=by
 have:=ok.r;refine⟨by rw[fC S _ Z,fC kp _ Z];exact h.M,λb a=>by rw[fC S _ Z,fC kp _ Z];exact h.Y b a,λd b a=> ?_,λy e b a=> ?_,λi b a=>by rw[fC S _ Z,fC kp _ Z,fC tr _ Z];exact h.r i b a⟩
 .by_cases e:d=j
  .subst e;rw[gw,gw,jB];exact⟨U,U⟩
  .rw[fC S _ Z,fC kp _ Z,iF x e];exact h.I d b a
 .have c:F.L+y≠F.L+1+j:=λe=>by
   have g:y=j+1:=Z
   subst g;have:E.N (j+1)=Ã _:=a;rw[f]at this;cases this
  rw[fC S _ c,fC kp _ c,fC tr _ c];exact h.C y e b a
end
def td(F:Fx)(e:đ):Prop:=(∃(x:Č) (a:Bool),F.G x/\e=⟨ú x,a,Ì⟩)\/e.loc=ŭ ô\/e.loc=ŭ î
theorem Fs{F:Fx}{e:đ}(h:td F e){b:Touch}(c:(Ë e).touch?=Ã b):∃x,F.G x/\b.loc=ú x/\b.kind=.atomic:=by
 let⟨f,a,g⟩:=e;rcases h with⟨x,i,j,d⟩|h|h
 .injection d with e1 e2 e3;subst e1 e2 e3;have:(Ë ⟨ú x,a,Ì⟩).touch?=Ã ⟨ú x,a,.atomic⟩:=by cases a<;>rfl
  grind
 .simp only at h;subst h;simp[Ë,Ċ]at c
 .simp only at h;subst h;simp[Ë,Ċ]at c
section
variable{F:Ph}{E E':fN F}{S:Nat->Jd}{tr l:Nat->gh}{f:Nat->ik}{c:Nat->e5}{gs gs':Array Ä}{u:ä}{m:Option (Nat×Nat)}
def xY(E:fN F)(i:Nat):Prop:=i=0\/∃x,x<E.r/\i=F.L+x
theorem gD.N{Y:Nat->Prop}(e:gD P n Y S tr f c gs w qJ)(h:gs[i]?=Ã g)(k:g.status=Å)(j:tr i=.fu)(a:f i=.no\/f i=.il):∀b,fD (c i) (c i).w b->S i {c i with w:=b} g:=by
 let⟨g0,hF,d,_,_⟩:=e.C i g h;rw[j]at hF;have:g=g0:=by rcases a with a|a<;>rw[a]at d<;>cases d;all_goals grind
 subst this;exact hF
theorem Wb(b:TI F.toFx j zX E.r E.S.rl E.V E.e E.d E.ie E.f qJ)(c:xY E i)(d:n<j)(a:qJ.g? n=Ã 0):Λ qJ i n:=by
 rcases c with rfl|⟨x,e,rfl⟩
 .let⟨g,f,h⟩:=Ù.1 a;have:=knows_own f;grind
 .exact b.zW x e n d a
theorem ae5(f:∀c,¬Race c qJ)(g:TI F.toFx j zX E.r E.S.rl E.V E.e E.d E.ie E.f qJ)(v:xY E i){d:Array đ}{h:Ĵ}{k:String}(l:∀e∈d,td F.toFx e):∀c,¬Race c (qJ++Û i h k d):=by refine Nc f nH λw m b n=> ?_;obtain⟨e,o,rfl⟩:=Ö m;let⟨x,r,s,t⟩:=Fs (l e o) n;refine Á (Á ⟨t,λp a u q y=> ?_⟩);rcases g.M p a x u (q.trans s) r with⟨y,z⟩|q|⟨q,_⟩;all_goals grind [Wb]
def ae6(L:iw F E c gs.size w)(ok:F.Ok)(C:iJ F.S (λi=>i<gs.size) E.Y c w qJ)(f:∀e∈V,td F.toFx e):∀e∈V,(∀b,(Ë e).touch?=Ã b->Fa (λi=>i<gs.size) E.Y c b)/\(Ë e).low w.heap.size:=by
 intro e g;refine⟨λb j=> ?_,?_⟩
 .let⟨x,a,d,_⟩:=Fs (f e g) j;exact À ⟨x,d,vP a,λk h=>L.Y ok a k h⟩
 .rcases f e g with⟨x,k,a,d⟩|h|h
  .subst d;have:=C.N _<|vP (E:=E) a;cases k<;>exact this
  .let⟨l,k,m⟩:=e;simp only at h;subst h;trivial
  .let⟨l,k,m⟩:=e;simp only at h;subst h;trivial
def z8(d:Nat)(a:Array đ):Prop:=∀(j:Nat) (e:đ),a[j]?=Ã e->(Ë e).touch?=Í\/((∃b c,e=⟨ú b,c,Ì⟩)/\0<Ï d (a.extract 0 j))
theorem ae7(L:iw F E c gs.size w)(s:Ps F E)(C:iJ F.S (λi=>i<gs.size) E.Y c w qJ)(t:xY E i){f:Array đ}{n:Ĵ}{o:String}(p:∀e∈f,td F.toFx e) (u:∀x,E.ie x->i=F.L+x->(∀e∈f,∀b,(Ë e).touch?=Ã b->∃y:Č,b.loc=ú y/\y.block=F.C)/\z8 (κ qJ i) f):IZ F.toFx E.r E.S.rl E.V E.d E.ie qJ (Û i n o f) i:=by
 refine⟨λg d _ _=>nH g d,t.imp id À,λg d a x l _ _=> ?_,λg d a y l _ z k B m=> ?_,λg d b _ e=> ?_,λx H D=> ?_⟩
 .obtain⟨e,j,rfl⟩:=Ö d;grind [Fs]
 .obtain⟨e,j,rfl⟩:=Ö d;let⟨x,r,h,_⟩:=Fs (p e j) l;rw[z]at h;injection h with h;subst h;refine⟨λv=>(L.I k (Ø m<|I3 s) _ v).2.1<|vP r,λe=> ?_⟩;obtain⟨b,_,q|q⟩:=r<;>(rw[q]at e;simp[fG,gP,iW]at e)
 .obtain⟨r,j,rfl⟩:=Ö d;simp only at e;rcases p r j with⟨x,v,_,rfl⟩|h|h
  .cases v<;>simp[Ë]at e
  .let⟨q,v,G⟩:=r;simp only at h;subst h;simp[Ë]at e
  .let⟨q,v,G⟩:=r;simp only at h;subst h;simp[Ë]at e
 .by_cases e:F.L+x=i
  .let⟨B,m⟩:=u x D e.symm;subst e;refine⟨λr h=>h.appOwn n o f m,λ_ g d a l=> ?_⟩;obtain⟨e,j,rfl⟩:=Ö d;grind [Fs]
  .exact⟨λr h=>h.appOther nH<|ÿ e,λq=>absurd q e⟩
theorem xZ(a:F.M b):∀e∈#[kg<|fG b],td F.toFx e:=by
 intro e c;have:e=kg (fG b):=by simpa using c
 subst this;exact À ⟨_,É,(vO a).1,U⟩
def Wc(a:F.M b):∀e∈#[mq<|fG b],td F.toFx e:=by
 intro e c;have:e=mq (fG b):=by simpa using c
 subst this;exact À ⟨_,Ì,(vO a).1,U⟩
def Aa(a:F.M b):∀e∈#[kg<|fG b,mq<|fG b],td F.toFx e:=by
 intro e c;simp at c;rcases c with rfl|rfl
 .exact À ⟨_,É,(vO a).1,U⟩
 .exact À ⟨_,Ì,(vO a).1,U⟩
def Ft(a:F.M b):∀e∈õ (gP b),td F.toFx e:=by
 intro e c;simp[õ]at c;rcases c with rfl|rfl|rfl|rfl
 .exact Á<|À U
 .exact À ⟨_,É,(vO a).2,U⟩
 .exact À ⟨_,Ì,(vO a).2,U⟩
 .exact Á<|Á U
def Fu(d:Nat):Ï d #[kg a,mq a]=d/\Ï d #[kg a]=d/\Ï d #[mq a]=d/\Ï d (õ a)=d:=by refine⟨U,U,U,?_⟩;simp[Ï,õ]
def I6:z8 1 #[kg a,mq a]/\z8 1 #[kg a]/\z8 1 #[mq a]/\z8 1 (õ a):=by
 refine⟨λj e b=> ?_,λj e b=> ?_,λj e b=> ?_,λj e b=> ?_⟩
 .match j,b with
  |0,b=>obtain rfl:=È b;exact Á ⟨⟨a,É,U⟩,by simp[Ï]⟩
  |1,b=>obtain rfl:=È b;exact Á ⟨⟨a,Ì,U⟩,by simp[Ï,kg]⟩
  |j+2,b=>simp at b
 .match j,b with
  |0,b=>obtain rfl:=È b;exact Á ⟨⟨a,É,U⟩,by simp[Ï]⟩
  |j+1,b=>simp at b
 .match j,b with
  |0,b=>obtain rfl:=È b;exact Á ⟨⟨a,Ì,U⟩,by simp[Ï]⟩
  |j+1,b=>simp at b
 .match j,b with
  |0,b=>obtain rfl:=È b;exact À U
  |1,b=>obtain rfl:=È b;exact Á ⟨⟨a,É,U⟩,by simp[Ï,õ]⟩
  |2,b=>obtain rfl:=È b;exact Á ⟨⟨a,Ì,U⟩,by simp[Ï,õ]⟩
  |3,b=>obtain rfl:=È b;exact À U
  |j+4,b=>simp[õ]at b
def ae8(ok:F.Ok)(g:F.G a)(v:ã):Fo F E c gs.size w (w.setCell a v):=by
 refine⟨Ô jK.symm,λb _ f _=>kP λe=>f<|e▸(vP (E:=E) g),λd i _=>xR ?_,Ns,U,U⟩;let⟨b,f,h⟩:=g;rcases i with⟨k,_,rfl⟩|⟨p,rfl⟩
 .right;rcases h with rfl|rfl<;>simp[fG,gP,iW]
 .left;rcases h with rfl|rfl<;>exact λe=>ok.C (by have j:b=F.Y:=e;rwa[<-j])
def ae9(L:iw F E c gs.size w)(ok:F.Ok)(d:F.G a)(v:ã):pb (λi=>i<gs.size) E.Y c w (w.setCell a v):= aeK (vP d) (by obtain⟨b,_,rfl|rfl⟩:=d<;>rfl) (λk i=>L.Y ok d k i) λk i b e=>L.aeV k i b e
def afa(c:Ps F E)(d:F.G a)(v:ã)(f:j+2<=E.r):(w.setCell a v).heap[E.I j]?=w.heap[E.I j]?:= kP λe=>(c.o j f).1 (by obtain⟨b,g,rfl|rfl⟩:=d<;>(rwa[e]))
def afb(h:a=fG b\/a=gP b):a.block=b:=by rcases h with rfl|rfl<;>rfl
theorem iw.C(L:iw F E c n w){d:Nat}{w0:Ð}(y:w.heap.size<=W.heap.size):iw F E (gf c i {c i with d:=d,w:=w0}) n W:=by
 have e:∀k,(gf c i {c i with d:=d,w:=w0} k).O=(c k).O/\(gf c i {c i with d:=d,w:=w0} k).I=(c k).I/\(gf c i {c i with d:=d,w:=w0} k).r=(c k).r/\(gf c i {c i with d:=d,w:=w0} k).N=(c k).N/\(gf c i {c i with d:=d,w:=w0} k).q=(c k).q:=λk=>by grind [gN,gA]
 have t:∀k,c k=ki (c k)->gf c i {c i with d:=d,w:=w0} k=ki (gf c i {c i with d:=d,w:=w0} k):=λk f=>by
  by_cases h:k=i
  .subst h;rw[gN];have a:(c k).O=λ_=>False:=by rw[f];rfl
   have b:(c k).I=λ_=>False:=by rw[f];rfl
   have g:(c k).r=λ_=>False:=by rw[f];rfl
   have j:(c k).N=λ_=>False:=by rw[f];rfl
   have l:(c k).q=True:=by rw[f];rfl
   simp only[ki,a,b,g,j,l]
  .grind [gA]
 refine⟨λk f a o=>L.gM k f a (by unfold e5.C at o|-;rwa[(e k).2.2.1,(e k).2.2.2.1]at o),λx g m a o=>by rw[(e 0).2.2.1];exact L.o x g m a o,λh=>by rw[(e 0).2.2.2.1,(e 0).2.1];exact L.ll h,λh k g m=>by rw[(e _).2.2.1];exact L.e h k g m,λh p=>by rw[(e _).2.2.2.1,(e _).2.1];exact L.f h p,λj l p r s g=>by rw[(e _).2.2.1];exact L.h j l p r s g,λj l p=>by rw[(e _).2.2.2.1,(e _).2.1];exact L.l j l p,λx u=>t _<|L.S x u,λk f=>by rw[(e k).2.2.2.2];exact L.M k f,λk g m=>t _<|L.c k g m,λk f b v=> ?_,λk f j l=>by rw[(e j).2.2.1];exact L.N k f j l,λk g m j l=>by rw[(e j).2.2.1];exact L.g k g m j l,λj l r s g k f=>by rw[(e k).2.2.1];exact L.d j l r s g k f⟩;let⟨z,B,D⟩:=L.I k f b v;grind
end
section
variable{F:Ph}{E E':fN F}{S:Nat->Jd}{tr c:Nat->gh}{a:Nat->ik}{lot:Nat->e5}{gs gs':Array Ä}{u:ä}{sl:Option (Nat×Nat)}
def kl(b:Nat)(w W:Ð):Prop:=W=w\/∃x v,(x=fG b\/x=gP b)/\W=w.setCell x v
def kl.Cr(h:kl b w W):W.heap.size=w.heap.size:=by rcases h with rfl|⟨x,v,_,rfl⟩;all_goals simp_all
def kl.I1(h:kl b w W)(ok:F.Ok)(a:F.M b):Fo F E lot gs.size w W:=by
 rcases h with rfl|⟨x,v,c,rfl⟩
 .exact⟨Ç _,λ_ _ _ _=>rfl,λ_ _ _=>rfl,U,U,U⟩
 .exact ae8 ok ⟨b,a,c⟩ v
def kl.r(h:kl b w W)(L:iw F E lot gs.size w)(ok:F.Ok)(a:F.M b):pb (λi=>i<gs.size) E.Y lot w W:=by
 rcases h with rfl|⟨x,v,i,rfl⟩
 .exact pb.fO _ _ _ _
 .exact ae9 L ok ⟨b,a,i⟩ v
def kl.C(h:kl b w W)(a:Ps F E)(c:F.M b)(d:j+2<=E.r):W.heap[E.I j]?=w.heap[E.I j]?:=by
 rcases h with rfl|⟨x,v,e,rfl⟩
 .rfl
 .exact afa a ⟨b,c,e⟩ v d
def kl.M(h:kl b w W)(c:i≠b){G:GS}(a:gT w i G):gT W i G:=by
 rcases h with rfl|⟨x,v,d,rfl⟩
 .exact a
 .exact a.iK<|by rw[afb d];exact ÿ c
def kl.I(h:kl b w W)(H:gL F)(L:iw F E lot gs.size w)(d:Ps F E)(a:Wd F E w)(f:F.M b){Ga:GS}{Gg:Nat->GS}(g:(b=F.C->gT W F.C Ga)/\(b≠F.C->Ga=E.b))(i:∀k,k<=F.m->(b=F.I k->gT W (F.I k) (Gg k))/\(b≠F.I k->Gg k=E.a k)):Wd F {E with b:=Ga,a:=Gg} W:=by
 refine a.I1 H L (h.I1 H.C f) (I2 d) ?_ (λk c=> ?_) λj e=>h.C d f e
 .by_cases e:b=F.C
  .exact g.1 e
  .rw[g.2 e];exact h.M (ÿ e) a.C
 .by_cases e:b=F.I k
  .exact(i k c).1 e
  .rw[(i k c).2 e];exact h.M (ÿ e)<|a.I k c
def PI.Y(H:gL F)(p:PI F b zX E S tr a lot gs w qJ){c:Ä}{f:Array đ}{J:Jd}{T:gh}(K:ik)(q:gs[i]?=Ã g)(j:xY E i)(r:F.M n)(s:è F.P (i==0) g w=ş c W f)(l:kl n w W)(h:∀e∈f,td F.toFx e)(m:Ï (lot i).d f=(lot i).d) (t:∀x,E.ie x->i=F.L+x->(∀e∈f,∀n,(Ë e).touch?=Ã n->∃y:Č,n.loc=ú y/\y.block=F.C)/\z8 (κ qJ i) f) (hF:kJ F.P (i==0) J T {lot i with w:=W} c) (v:c.status=Å\/c.status=å): ∃gs' u,Ŏ F.P (ð gs w sl) i=(ğ<|ð gs' W sl,u)/\gs'.size=gs.size/\gs'[i]?=Ã c/\(∀k,k≠i->gs'[k]?=gs[k]?.map (Ā F.P g c W))/\ gD F.P F.S E.Y (fq S i J) (fq tr i T) (fq a i K) (gf lot i {lot i with w:=W}) gs' W (qJ++u)/\TI F.toFx b zX E.r E.S.rl E.V E.e E.d E.ie E.f (qJ++u)/\iw F E (gf lot i {lot i with w:=W}) gs'.size W:=by have C:=p.I.r;obtain⟨gs',z,k,B,D,o⟩:=p.I.pX q s (l.r p.a H.C r) (by rwa[m]) v (ae6 p.a H.C C h)<|ae5 C.l p.d j h;rw[m]at o;refine⟨gs',_,z,k,B,D,o,p.d.C<|ae7 p.a p.C C j h t,?_⟩;rw[k];exact p.a.C<|Ô l.Cr.symm
theorem fc.pX(B:fc F E gs w){a:Ä}(p:gs'[i]?=Ã a)(q:a.status≠Ü)(d:∀k,k≠i->gs'[k]?=gs[k]?.map (Ā F.P g a W))(t:∀j,j+2<=E.r->W.heap[E.I j]?=w.heap[E.I j]?) (u:E'.r=E.r) (v:E'.I=E.I) (z:∀x,F.L+x≠i->E'.N x=E.N x) (C:i≠0->E'.M=E.M) (D:∀j,F.L+1+j≠i->E'.C j=E.C j) (G:i≠0->E.M=.ft .kh->E.b.sm=0->E'.b.sm=0\/∀x,gs'[0]?=Ã x->x.status≠Ü) (H:∀j r,F.L+1+j≠i->E.C j=.ft r .kh->(E.a<|F.r<|j+r*F.n).sm=0->(E'.a<|F.r<|j+r*F.n).sm=0\/∀x,gs'[F.L+1+j]?=Ã x->x.status≠Ü):fc F E' gs' W:=by
 intro k x b f;by_cases e:k=i
 .grind
 .have I:=b;rw[d k e]at b;obtain⟨y,h,rfl⟩:=Ù.1 b;let⟨_,l⟩:=Fp f;rcases B k y h l with⟨J,m,c⟩|⟨j,K,M,m,⟨r,c,o⟩|⟨r,N,s,O,c,o⟩⟩;all_goals grind
def Cv(a:j+2<=E.r):xY E (F.L+1+j):=Á ⟨j+1,Z,Z⟩
def I7(b:E.N (j+1)=Í):∀x,E.ie x->F.L+1+j=F.L+x->False:=λx ⟨e,a,_⟩ h2=>by
 have:x=j+1:=Z
 subst this;rw[b]at a;cases a
def Fv(ok:F.Ok)(h:i<F.q):F.M (F.I<|F.r i):=Á ⟨F.r i,ok.I i h,U⟩
def iG(a:gs[i]?=Ã g):i<gs.size:=(Õ.1 a).1
end
theorem vR{f f':Nat->Nat}:∀{n:Nat},j<n->(∀i,i≠j->f' i=f i)->Ñ n f'+f j=Ñ n f+f' j
 |n+1,h,hf=>by
  simp only[Ñ];rcases ģ j n with gH|a
  .have:=vR (n:=n) gH hf;rw[hf n Z];omega
  .obtain rfl:j=n:=Z
   rw[Ł λi b=>hf i Z];omega
def Fw{f:Nat->Nat}:∀{n:Nat},(∀i,f i<=1)->Ñ n f<=n
 |0,_=>Ç _
 |n+1,h=>by simp only[Ñ];have:=Fw (n:=n) h;have:=h n;omega
def ND{f:Nat->Nat}:∀{n:Nat},j<n->f j<=Ñ n f
 |n+1,h=>by
  simp only[Ñ];rcases ģ j n with gH|a
  .have:=ND (f:=f) (n:=n) gH;omega
  .obtain rfl:j=n:=Z
   omega
def Fy{f:Nat->Nat}:∀n:Nat,(Ñ n λi=>f i+D i)=Ñ n f+Ñ n D
 |0=>rfl
 |n+1=>by simp only[Ñ];rw[Fy n];omega
def NG{f:Nat->Nat}(c:Nat):∀n:Nat,(Ñ n λi=>c*f i)=c*Ñ n f
 |0=>by simp[Ñ]
 |n+1=>by simp only[Ñ];rw[NG c n,ł]
section
variable{F:Ph}{E E':fN F}{S:Nat->Jd}{tr z:Nat->gh}{C:Nat->ik}{o:Nat->e5}{gs gs':Array Ä}{u:ä}{sl:Option (Nat×Nat)}
def jN(F:Ph)(b:Nat)(zX:π->Prop)(E:fN F)(tr:Nat->gh)(gs:Array Ä)(w:Ð)(qJ:ä)(sl:Option (Nat×Nat))(i:Nat):Prop:=
 ∃(E':fN F) (a:Nat->Jd) (z:Nat->gh) (c:Nat->ik) (d:Nat->e5) (gs':Array Ä) (W:Ð) (u:ä),Ŏ F.P (ð gs w sl) i=(ğ<|ð gs' W sl,u)/\gs'.size=gs.size/\(E'.M=.fU->E.M=.fU)/\PI F b zX E' a z c d gs' W (qJ++u)/\oK F.N (E'.mu z gs') (E.mu tr gs)
def qM(F:Ph)(b:Nat)(zX:π->Prop)(E:fN F)(tr:Nat->gh)(gs:Array Ä)(w:Ð)(qJ:ä):Prop:=
 ∃(E':fN F) (a:Nat->Jd) (z:Nat->gh) (c:Nat->ik) (d:Nat->e5),(E'.M=.fU->E.M=.fU)/\PI F b zX E' a z c d gs w qJ/\oK F.N (E'.mu z gs) (E.mu tr gs)
def afc(i:Nat):fY gs i<=1:=by unfold fY;split<;>omega
theorem Wg(a:∀k,k<F.N->E'.iK z k=E.iK tr k)(b:i<F.N)(e:E'.kQ i<E.kQ i)(c:∀k,k≠i->E'.kQ k=E.kQ k):oK F.N (E'.mu z gs') (E.mu tr gs):=by
 refine Á ⟨a,?_⟩;show(Ñ F.N λi=>(F.N+1)*E'.kQ i+fY gs' i)<Ñ F.N λi=>(F.N+1)*E.kQ i+fY gs i;rw[Fy,Fy,NG,NG];have g:=vR b c;have h:=Fw (f:=fY gs') (n:=F.N) afc;have d:Ñ F.N E'.kQ+1<=Ñ F.N E.kQ:=Z
 have j:(F.N+1)*(Ñ F.N E'.kQ+1)<=(F.N+1)*Ñ F.N E.kQ:=ï _ d;grind
theorem NH(a:∀k,k<F.N->E.iK z k=E.iK tr k)(b:i<F.N)(c:fY gs i=1)(d:fY gs' i=0)(e:∀k,k≠i->fY gs' k=fY gs k):oK F.N (E.mu z gs') (E.mu tr gs):=by refine Á ⟨a,?_⟩;show(Ñ F.N λi=>(F.N+1)*E.kQ i+fY gs' i)<Ñ F.N λi=>(F.N+1)*E.kQ i+fY gs i;rw[Fy,Fy];grind [vR]
theorem Wh(ok:F.Ok)(j:Nat):E.kQ (F.L+1+j)=match E.C j with|.ft r p=>p.kQ F.B (E.a<|F.r<|j+r*F.n).st|_=>0:=by have:=ok.r;unfold fN.kQ;grind
def afd{x:gF}(a:k≠F.L+1+j):(gJ E j x).kQ k=E.kQ k:=by
 unfold fN.kQ;split
 .rfl
 .split
  .rfl
  .rw[iF x Z];rfl
def afe(ok:F.Ok){r:Nat}{p a:SP}{T:gh}(d:F.L+1+j<F.N)(b:E.N (j+1)=Í)(c:E.C j=.ft r (.lD p))(f:tr (F.L+1+j)=.fu)(g:T=.fu)(h:a.rk F.B (E.a<|F.r<|j+r*F.n).st<p.rk F.B (E.a<|F.r<|j+r*F.n).st): oK F.N ((gJ E j<|.ft r (.lD a)).mu (fq tr (F.L+1+j) T) gs') (E.mu tr gs):=by
 refine Wg (λk _=> ?_) d ?_ λk e=>afd e
 .by_cases e:k=F.L+1+j
  .subst e;rw[s9 ok (E:=gJ E j _) (show(gJ E j _).N (j+1)=Í from b),s9 ok b,jB,gw,c,f,g];rfl
  .refine xW (λ_=>rfl) (λ_ _=>rfl) (λ_=>rfl) (λ_ _=>rfl) (λi _=> ?_)<|fC tr _ e;rw[iF _ Z]
 .rwa[Wh ok,Wh ok,jB,c]
def PI.Cw(H:gL F)(p:PI F b zX E S tr C o gs w qJ){v:jg}(d:j+2<=E.r)(e:E.N (j+1)=Í)(f:gs[F.L+1+j]?=Ã g)(h:g.status=Å)(k:tr (F.L+1+j)=.fu)(l:E.C j=.ft i v): ∀w₁,fD (o<|F.L+1+j) (o<|F.L+1+j).w w₁->pZ F.P É F.B (F.I<|F.r<|j+i*F.n) (F.e (E.I j)<|j+i*F.n) v {o (F.L+1+j)with w:=w₁} g:=by
 let⟨a,c⟩:=p.g j d e;rw[l]at a c;have m:C (F.L+1+j)=.no\/C (F.L+1+j)=.il:=by rw[c];cases v<;>first|exact À U|exact Á U
 intro w₁ i;have:=p.I.N f h k m w₁ i;rwa[a]at this
def ya(ok:F.Ok)(j:Nat):(F.L+1+j==0)=É:=by have:=ok.r;simp
theorem PI.NJ(H:gL F)(p:PI F b zX E S tr C o gs w qJ){x:gF}{l:e5}{T:gh}(u:j+2<=E.r)(m:E.N (j+1)=Í)(n:gs[F.L+1+j]?=Ã g)(v:g.status=Å\/g.status=å) (z:iJ F.S (λi=>i<gs.size) E.Y (gf o (F.L+1+j) l) w qJ) (hF:kJ F.P É (JW F (E.I j) j x) T l g) (B:iw F (gJ E j x) (gf o (F.L+1+j) l) gs.size w) (D:Wd F (gJ E j x) w) (G:Ps F (gJ E j x)) (I:x.rk F<(E.C j).rk F) (V:∀r,x≠ .jy r):qM F b zX E tr gs w qJ:=by
 refine⟨gJ E j x,_,_,_,_,λh=>h,.r (p.N.N H.C u m) p.b (p.I.M (K:=kW F (E.I j) x) n v z<|by rwa[ya H.C]) B D G p.d (λk y J M=> ?_) λa r f c d=> ?_,Cu H.C (p.G<|iG n) m I⟩
 .by_cases e:k=F.L+1+j
  .grind
  .rcases p.c k y J M with f|⟨a,q,t,c,d|⟨r,N,s,O,d,Q⟩⟩
   .exact À f
   .exact Á ⟨a,q,t,c,À<|by rwa[iF x Z]⟩
   .exact Á ⟨a,q,t,c,Á ⟨r,N,s,O,by rwa[iF x Z],Q⟩⟩
 .by_cases e:a=j
  .grind [jB]
  .rw[iF x e]at c;exact p.f a r f c d
theorem PI.aff(H:gL F)(p:PI F b zX E S tr C o gs w qJ){r:Nat}(e:j+2<=E.r)(l:E.N (j+1)=Í)(m:gs[F.L+1+j]?=Ã g)(n:g.status=Å)(s:tr (F.L+1+j)=.fu)(c:E.C j=.ft r .iP):qM F b zX E tr gs w qJ:=by
 have f:=iG m;let⟨k,y,t,u⟩:=(p.Cw H e l m n s c) w<|p.I.r.r _ f;have v:iJ F.S (λi=>i<gs.size) E.Y (gf o (F.L+1+j) {o (F.L+1+j)with w:=w}) w qJ:=p.I.r.C f (λ_ q=>q) (λa q=>À<|Á q) (λ_ q=>q) (λa q=>À<|Á q) U U U (p.I.r.m _ f)<|p.I.r.g _ f;refine p.NJ H (x:=.ft r (.lD (.fT k))) (T:=.fu) e l m (À n) v (λh a=>⟨t,IK u a⟩) ?_ (p.M.Y (by rw[c];rfl)<|by rw[c];rfl) (p.C.G e l (λk=>by rw[c];rfl) (λa h=> ?_) (λa h=> ?_) (λa h=>by cases h) λa h=>by cases h) (by rw[c];simp only[gF.rk,jg.rk];omega) λa h=>by cases h
 .have:=(p.a.r (x:=.ft r (.lD (.fT k)))<|by rw[c];rfl).C (i:=F.L+1+j) (d:=(o<|F.L+1+j).d) (w0:=w)<|Ç _;exact this
 .rcases h with⟨_,h⟩|h|h<;>cases h;exact p.C.d j r e<|À ⟨_,c⟩
 .grind
def Wi{y z:Int->Jd}{p:SP}{l:e5}{G:GS}(h:Cm P yQ (fG b) i y z p l g)(j:gT w b G):g.status=Å/\ ((∃f a e,è P yQ g w=ş a w e/\(e=#[]\/e=#[kg<|fG b])/\Cm P yQ (fG b) i y z f l a/\f.rk i G.st<p.rk i G.st)\/ (∃a,è P yQ g w=ş a w #[kg<|fG b]/\(∀c q,G=.cl c q->c=0)/\fe P yQ (y G.st) l a)\/ (∃a c q,G=.cl c q/\0<c/\è P yQ g w=ş a (w.setCell (fG b)<|ë Ó<|Ó.wrap<|G.st+1) #[kg<|fG b,mq<|fG b]/\fe P yQ (z G.st) l a)):=by
 let⟨T,C,x⟩:=h;let⟨J,d⟩:=x p g C;refine⟨J,?_⟩;have D:∀u,T u g->(∀n,u≠ .fT (n+1))->(∀v n,u≠ .ld v (n+1))->u.rk i G.st<=p.rk i G.st->((∃f a e,è P yQ g w=ş a w e/\(e=#[]\/e=#[kg<|fG b])/\Cm P yQ (fG b) i y z f l a/\f.rk i G.st<p.rk i G.st)\/ (∃a,è P yQ g w=ş a w #[kg<|fG b]/\(∀c q,G=.cl c q->c=0)/\fe P yQ (y G.st) l a)\/ (∃a c q,G=.cl c q/\0<c/\è P yQ g w=ş a (w.setCell (fG b)<|ë Ó<|Ó.wrap<|G.st+1) #[kg<|fG b,mq<|fG b]/\fe P yQ (z G.st) l a)):=by
  intro u C K L F;have d:=(x u g C).2;match u,d with
  |.fT (n+1),_=>exact absurd U<|K n
  |.ld v (n+1),_=>exact absurd U<|L v n
  |.fT 0,d=>
   let⟨a,o,k⟩:=d G.st;by_cases f:0<=G.st/\G.st<fS
   .rw[if_pos f]at k;have e:G.st<1000000:=by
     have t:=j.r;cases G with
     |cl c q=>
      let⟨H,I,m⟩:=t;simp only[GS.st,fS]at f|-;have:c=0:=Z
      have:=m this;omega
     |jr q=>simp only[GS.ok]at t;simp only[GS.st];omega
     |gQ r s=>simp only[GS.st];omega
    exact Á<|À ⟨a,o w j.C,j.aeO.1 f,k e⟩
   .rw[if_neg f]at k;have e:fS<=G.st/\G.st<fS*2147483648/\G.st%fS<1000000:=by
     have t:=j.r;cases G with
     |cl c q=>
      let⟨H,I,_⟩:=t;simp only[GS.st,fS]at f|-;omega
     |jr q=>simp only[GS.ok]at t;simp only[GS.st,fS]at f;omega
     |gQ r s=>simp only[GS.st,fS]at f;omega
    let⟨m,M,E⟩:=k e;exact À ⟨.ld G.st m,a,_,o w j.C,Á U,⟨T,E,x⟩,Ê (by simp only[SP.rk,if_true];omega) F⟩
  |.ld v 0,⟨f,⟨a,o,k⟩,g'',E,n,hn,h4⟩=>
   by_cases e:G.st=v
   .subst e;have:∃c q,G=.cl c q/\0<c:=by
     have t:=j.r;cases G with
     |cl c q=>
      refine⟨c,q,U,?_⟩;let⟨H,I,_⟩:=t;simp only[GS.st,fS]at f;omega
     |jr q=>simp only[GS.ok]at t;simp only[GS.st,fS]at f;omega
     |gQ r s=>simp only[GS.st,fS]at f;omega
    let⟨c,q,r,s⟩:=this;exact Á<|Á ⟨a,c,q,r,s,o w j.C j.I,k⟩
   .exact À ⟨.fT n,g'',_,E w G.st e j.C j.I,Á U,⟨T,h4,x⟩,Ê (by simp only[SP.rk,if_neg e];omega) F⟩
 match p,d with
 |.fT (n+1),⟨hn,d⟩=>
  rcases d with d|d
  .exact D (.fT 0) d (λn q=>by cases q) (λv n q=>by cases q)<|by simp only[SP.rk];omega
  .let⟨a,o,k⟩:=d w;exact À ⟨.fT n,a,#[],o,À U,⟨T,k,x⟩,by simp only[SP.rk];omega⟩
 |.fT 0,_=>exact D (.fT 0) C (λn q=>by cases q) (λv n q=>by cases q)<|Ç _
 |.ld v (m+1),⟨_,M,d⟩=>
  rcases d with d|d
  .exact D (.ld v 0) d (λn q=>by cases q) (λv n q=>by cases q)<|by simp only[SP.rk];split<;>omega
  .let⟨a,o,k⟩:=d w;exact À ⟨.ld v m,a,#[],o,À U,⟨T,k,x⟩,by simp only[SP.rk];split<;>omega⟩
 |.ld v 0,_=>exact D (.ld v 0) C (λn q=>by cases q) (λv n q=>by cases q)<|Ç _
def PI.afg(H:gL F)(p:PI F b zX E S tr C o gs w qJ){r:Nat}{v:SP}(G:j+2<=E.r)(s:E.N (j+1)=Í)(hi:gs[F.L+1+j]?=Ã g)(iB:g.status=Å)(ht:tr (F.L+1+j)=.fu)(m:E.C j=.ft r (.lD v)):jN F b zX E tr gs w qJ sl (F.L+1+j):=by
 have gH:=iG hi;have n9:=p.C.d j r G<|À ⟨_,m⟩;have N:=Fv H.C n9;have X:=H.C.I _ n9;have hG:=p.M.I _ X;obtain⟨hd,n5⟩:=(p.Cw H G s hi iB ht m) w<|p.I.r.r _ gH;have uO:j<F.n:=by have:=Ct p.C;omega
 have ns:=I7 (E:=E) s;have mw:=ya H.C j;have vS:=p.G gH;obtain⟨_,n5⟩:=Wi n5 hG;rcases n5 with⟨p',g',es,h1,I,h3,h4⟩|⟨g',h1,I,h3⟩|⟨g',c,K,Q,tf,h1,I⟩
 .have hes:∀e∈es,td F.toFx e:=by
   rcases I with rfl|rfl
   .intro e s;simp at s
   .exact xZ N
  obtain⟨T',NK,Ab⟩:=h3;obtain⟨gs',u,q1,V,q3,q4,q5,q6,q7⟩:=p.Y (J:=JW F (E.I j) j<|.ft r (.lD p')) (T:=.fu) H (kW F (E.I j)<|.ft r (.lD p')) hi (Cv G) N (by rwa[mw]) (À U) hes (by rcases I with rfl|rfl<;>rfl) (λx hs e=>(ns x hs e).elim) (by rw[mw];exact λw₁ oa=>⟨hd,IK ⟨T',NK,Ab⟩ oa⟩)<|À (Ab _ _ NK).1;refine⟨gJ E j<|.ft r (.lD p'),_,_,_,_,gs',w,u,q1,V,λh=>h,.r (p.N.N H.C G s) (V.trans p.b) q5 (q7.r<|by rw[m];rfl) (p.M.Y (by rw[m];rfl)<|by rw[m];rfl) (p.C.G G s (λk=>by rw[m];rfl) (λf h=> ?_) (λf h=> ?_) (λf h=>by cases h) λf h=>by cases h) q6 (p.c.pX (E':=gJ E j _) q3 (by rw[(Ab _ _ NK).1];simp) q4 (λ_ _=>rfl) U U (λ_ _=>rfl) (λ_=>rfl) (λt e=>iF _ Z) (λ_ _ h=>À h) λ_ _ _ _ h=>À h) λt f O z Y=> ?_,afe H.C vS s m ht U h4⟩
  .rcases h with⟨_,h⟩|h|h<;>cases h;exact n9
  .rcases h with h|h|h<;>cases h
  .rw[iF _ (λe=>by subst e;rw[jB]at z;cases z)]at z;exact(p.f t f O z Y).app u
 .obtain⟨T,hT⟩:=jb h3;have mI:=kV (λl g h=>À h.2.1) h3;obtain⟨gs',u,q1,V,q3,q4,q5,q6,q7⟩:=p.Y H (kW F (E.I j)<|.ft r .kK) hi (Cv G) N (by rwa[mw]) (À U) (xZ N) U (λx hs e=>(ns x hs e).elim) (by rwa[mw]) mI;refine⟨gJ E j<|.ft r .kK,_,_,_,_,gs',w,u,q1,V,λh=>h,.r (p.N.N H.C G s) (V.trans p.b) q5 (q7.r<|by rw[m];rfl) (p.M.Y (by rw[m];rfl)<|by rw[m];rfl) (p.C.G G s (λk=>by rw[m];rfl) (λf h=> ?_) (λf h=> ?_) (λf h=>by cases h) λf h=>by cases h) q6 (p.c.pX (E':=gJ E j _) q3 (by rcases mI with q|q<;>rw[q]<;>simp) q4 (λ_ _=>rfl) U U (λ_ _=>rfl) (λ_=>rfl) (λt e=>iF _ Z) (λ_ _ h=>À h) λ_ _ _ _ h=>À h) λt f O z Y=> ?_,Cu H.C vS s<|by rw[m];simp only[gF.rk,jg.rk];omega⟩
  .rcases h with⟨_,h⟩|h|h<;>cases h;exact n9
  .have:f=r:=by rcases h with h|h|h<;>cases h;rfl
   subst this;refine ă λAc=> ?_;have:=I _ _<|p.C.e _ Z X Ac;omega
  .rw[iF _ (λe=>by subst e;rw[jB]at z;cases z)]at z;exact(p.f t f O z Y).app u
 .have hcd:E.S.od<F.r (j+r*F.n):=by
   refine ñ λhle=> ?_;rcases p.C.Y _ X hle with⟨W,_,q,_⟩|⟨_,_,_,_,q,_⟩|⟨_,⟨q,_⟩|⟨_,q,_⟩⟩<;>(rw[Q]at q;cases q);omega
  have Cx:=p.C.e _ Z X hcd;have e0:=Q.symm.trans Cx;injection e0 with e1 e2;subst e1;have Wj:K<=F.n:=by rw[e2];exact Fw λi=>by cases E.C i<;>simp only[gF.gu]<;>first|omega|(split<;>first|omega|(rename_i q _;cases q<;>simp[jg.sf]))
  have Fz:=H.C.fV;have FA:=(Q▸hG:gT w (F.I<|F.r<|j+r*F.n) (.cl 1 K)).VW Z Z;obtain⟨hv,FA⟩:=FA;obtain⟨x,Cy,Ad,Wk,I8,hx4⟩:∃(x:jg) (Cy:Nat->Option Nat),(x=.wr\/x=.kh)/\fe F.P É (pZ F.P É F.B (F.I<|F.r<|j+r*F.n) (F.e (E.I j)<|j+r*F.n) x) {o (F.L+1+j)with w:=w} g'/\((∀M,M≠F.r (j+r*F.n)->Cy M=E.d M)/\∀y,E.d (F.r<|j+r*F.n)=Ã y->Cy (F.r<|j+r*F.n)=Ã y)/\(x=.wr->Cy (F.r<|j+r*F.n)=Ã j):=by
   by_cases hz:K=0
   .subst hz;refine⟨.wr,fq E.d (F.r<|j+r*F.n)<|Ã j,À U,?_,⟨λM s5=>fC _ _ s5,λy hy=> ?_⟩,λ_=>gw _ _ _⟩
    .have:E.a (F.r<|j+r*F.n)=.cl 1 0:=Q;rw[this]at I;have e:(GS.cl 1 0).st%fS=0:=A
     simp only[e,if_true]at I;exact I
    .rw[p.C.y _ X Q]at hy;cases hy
   .refine⟨.kh,E.d,Á U,?_,⟨λ_ _=>rfl,λ_ h=>h⟩,λh=>by cases h⟩;have:E.a (F.r<|j+r*F.n)=.cl 1 K:=Q;rw[this]at I;have e:¬(GS.cl 1 K).st%fS=0:=by simp only[GS.st,fS];omega
    simp only[e,if_false]at I;exact I
  have hxw:x.sf=1:=by rcases Ad with rfl|rfl<;>rfl
  have Wl:=Wk.jM (w₁:=w.setCell (fG<|F.I<|F.r<|j+r*F.n)<|ë Ó<|Ó.wrap<|(GS.cl 1 K).st+1) (by have D:=(kl.r (Á ⟨fG<|F.I<|F.r<|j+r*F.n,_,À U,U⟩:kl (F.I<|F.r<|j+r*F.n) w (w.setCell (fG<|F.I<|F.r<|j+r*F.n)<|ë Ó<|Ó.wrap<|(GS.cl 1 K).st+1)) p.a H.C N);exact⟨Ô D.r.symm,λd kA=>D.jF d<|p.I.r.I _ gH d kA,λa ha=>D.M _ gH a ha,λa ha=>D.N _ gH a ha,λa _=>D.I a⟩);obtain⟨T,hT⟩:=jb Wl;have Wm:=kV (λl g h=>by rcases Ad with rfl|rfl<;>exact À h.2.1) Wk;have NL:kl (F.I<|F.r<|j+r*F.n) w (w.setCell (fG<|F.I<|F.r<|j+r*F.n)<|ë Ó<|Ó.wrap<|(GS.cl 1 K).st+1):=Á ⟨_,_,À U,U⟩;obtain⟨gs',u,q1,V,q3,q4,q5,q6,q7⟩:=p.Y H (kW F (E.I j)<|.ft r x) hi (Cv G) N (by rw[mw];exact(Q▸h1)) NL (Aa N) U (λx hs e=>(ns x hs e).elim) (by rwa[mw]) Wm;have si:=vR (f':=λi=>((gJ E j<|.ft r x).C i).gu F i<|F.r<|j+r*F.n) uO (λi kR=>by rw[iF _ kR]);simp only[jB,m]at si;have tg:gF.gu F j (F.r<|j+r*F.n) (.ft r x)=1:=by simp only[gF.gu,if_true,hxw]
  have sj:gF.gu F j (F.r<|j+r*F.n) (.ft r (.lD v))=0:=by simp only[gF.gu,if_true];rfl
  rw[tg,sj]at si;refine⟨uN E j (.ft r x) (F.r<|j+r*F.n) (.cl 1 (K+1)) Cy,_,_,_,_,gs',_,u,q1,V,λh=>h,.r ?_ (V.trans p.b) q5 ?_ ?_ (p.C.Wa G s (λM s5=> ?_) (λ_ _=> ?_) (λh=>by omega) (λ⟨a,d,h⟩=> ?_) (λh=>by injection h with _ h;omega) I8.1 I8.2 (λf h=> ?_) (λf h=> ?_) (λf h=> ?_) λf h=> ?_) (q6.aeR λM y hy=> ?_) ?_ λt f O z Y=> ?_,?_⟩
  .have:=p.N.N (x:=.ft r x) (T:=T) H.C G s;exact⟨this.M,this.Y,this.I,this.C,this.r⟩
  .have:=q7.r (x:=.ft r x) (by rw[m];rfl);exact⟨this.gM,this.o,this.ll,this.e,this.f,this.h,this.l,this.S,this.M,this.c,this.I,this.N,this.g,this.d⟩
  .have W1:=NL.I H p.a p.C p.M N (Gg:=fq E.a (F.r<|j+r*F.n)<|.cl 1 (K+1)) ⟨λe=>absurd e<|H.C.M _ X,λ_=>rfl⟩ λM s5=>⟨λe=> ?_,λe=>fC _ _ λe'=>e<|by rw[e']⟩
   .have W2:=W1.Y (x:=.ft r x) (by show _=(E.C j).kj;rw[m];rfl) (by show _=(E.C j).iE;rw[m];rfl);exact⟨W2.C,W2.I,W2.jv,W2.M,W2.S,W2.N⟩
   .rwa[<-(H.C.S _ _ X s5 e),gw]
  .rw[m];simp only[gF.gu,if_neg<|ÿ s5]
  .congr 1;rw[<-e2]at si;omega
  .rw[Q]at h;cases h
  .rcases h with⟨_,h⟩|h|h<;>cases h;exact n9
  .rcases h with h|h|h<;>cases h<;>(rcases Ad with h|h<;>cases h)
  .cases h;rcases Ad with h|h<;>cases h
  .cases h;exact hx4 U
  .by_cases e:M=F.r (j+r*F.n)
   .subst e;exact I8.2 y hy
   .show Cy M=Ã y;rwa[I8.1 M e]
  .refine p.c.pX (E':=uN E j _ _ _ _) q3 (by rcases Wm with q|q<;>rw[q]<;>simp) q4 (λt n8=>NL.C p.C N n8) U U (λ_ _=>rfl) (λ_=>rfl) (λt e=>iF _ Z) (λ_ _ h=>À h) λt f _ _ h=>À ?_;by_cases e:F.r (t+f*F.n)=F.r (j+r*F.n)
   .show(fq E.a _ _ _).sm=0;rw[e,gw];rfl
   .show(fq E.a _ _ _).sm=0;rwa[fC _ _ e]
  .have e:t≠j:=λe=>by
    subst e;have:(gJ E t<|.ft r x).C t=.jy f:=z;rw[jB]at this;cases this
   have Ae:(gJ E j<|.ft r x).C t=.jy f:=z;rw[iF _ e]at Ae;exact(p.f t f O Ae Y).app u
  .have:=Cu (E:=E) (tr:=tr) (gs:=gs) (gs':=gs') (x:=.ft r x) (T:=T) H.C vS s (by rw[m];rcases Ad with rfl|rfl<;>simp only[gF.rk,jg.rk]<;>omega);rcases this with⟨i,O,z,Y⟩|⟨O,_⟩
   .exact À ⟨i,O,z,Y⟩
   .exfalso;have:=O _ vS;change(gJ E j<|.ft r x).iK (fq tr (F.L+1+j) T) (F.L+1+j)=E.iK tr (F.L+1+j)at this;rw[s9 H.C (E:=gJ E j _) (show(gJ E j _).N (j+1)=Í from s),s9 H.C s,jB,m]at this;injection this with e _;rcases Ad with rfl|rfl<;>simp only[gF.rk,jg.rk]at e<;>omega
end
section
variable{F:Ph}{E E':fN F}{S:Nat->Jd}{s D:Nat->gh}{B:Nat->ik}{f:Nat->e5}{c o:Array Ä}{u:ä}{sl:Option (Nat×Nat)}
def PI.NM(H:gL F)(p:PI F j zX E S s B f c w qJ){x:gF}{a:Ä}{T:gh}(y:i+2<=E.r)(d:E.N (i+1)=Í)(z:c[F.L+1+i]?=Ã g)(C:Ŏ F.P (ð c w sl) (F.L+1+i)=(ğ<|ð o w sl,u))(l:o.size=c.size)(D:o[F.L+1+i]?=Ã a)(G:a.status=Å\/a.status=å)(I:∀k,k≠F.L+1+i->o[k]?=c[k]?.map (Ā F.P g a w)) (J:gD F.P F.S E.Y (fq S (F.L+1+i)<|JW F (E.I i) i x) (fq s (F.L+1+i) T) (fq B (F.L+1+i)<|kW F (E.I i) x) (gf f (F.L+1+i) {f (F.L+1+i)with w:=w}) o w (qJ++u)) (K:TI F.toFx j zX E.r E.S.rl E.V E.e E.d E.ie E.f (qJ++u)) (M:iw F E (gf f (F.L+1+i) {f (F.L+1+i)with w:=w}) o.size w) (m:x.kj=(E.C i).kj) (N:x.iE=(E.C i).iE) (O:Ps F (gJ E i x)) (Q:x.rk F<(E.C i).rk F) (W:∀r,x=.jy r->1<=F.r (i+r*F.n)->Λ (qJ++u) (F.L+1+i) (E.e<|F.r<|i+r*F.n)):jN F j zX E s c w qJ sl (F.L+1+i):=by
 refine⟨gJ E i x,_,_,_,_,o,w,u,C,l,λh=>h,.r (p.N.N H.C y d) (l.trans p.b) J (M.r m) (p.M.Y m N) O K (p.c.pX (E':=gJ E i _) D (by rcases G with q|q<;>rw[q]<;>simp) I (λ_ _=>rfl) U U (λ_ _=>rfl) (λ_=>rfl) (λb e=>iF _ Z) (λ_ _ h=>À h) λ_ _ _ _ h=>À h) λb t X q v=> ?_,Cu H.C (p.G<|iG z) d Q⟩
 .by_cases e:b=i
  .subst e;rw[jB]at q;exact W t q v
  .rw[iF _ e]at q;exact(p.f b t X q v).app u
def NN{r:Nat}{v:jg}(h:v.sf=0):gF.gu F j k (.ft r v)=0:=by simp only[gF.gu,h];split<;>rfl
def vT{a:Ă}(h:a∈#[wQ]):a=wQ:=by simpa using h
def afh{i:Nat}{fn:Ĵ}{pos:String}{m:Ο}:∃y:Ă,Û i fn pos #[jG m]=#[y]/\y.g=i/\y.act=ė m:=⟨{g:=i,fn,pos,act:=ė m},by simp[Û,jG,Ë],U,U⟩
def PI.Af(H:gL F)(p:PI F j zX E S s B f c w qJ){a:Ä}{m:Ο}{J:Jd}{T:gh}(K:ik)(v:c[i]?=Ã g)(x:è F.P (i==0) g w=ş a w #[jG m])(z:m≠ô)(C:m≠î) (D:∀y:Ă,y.act=ė m->(∀b,y.act.touch?=Ã b->Fa (λi=>i<c.size) E.Y f b)/\y.act.low w.heap.size) (G:∀y:Ă,y.g=i->y.act=ė m->∀I,¬Race I (qJ++#[y])) (hF:kJ F.P (i==0) J T {f i with w:=w} a) (L:a.status=Å\/a.status=å): ∃o y,y.g=i/\y.act=ė m/\Ŏ F.P (ð c w sl) i=(ğ<|ð o w sl,#[y])/\o.size=c.size/\o[i]?=Ã a/\(∀k,k≠i->o[k]?=c[k]?.map (Ā F.P g a w))/\ gD F.P F.S E.Y (fq S i J) (fq s i T) (fq B i K) (gf f i {f i with w:=w}) o w (qJ++#[y])/\iw F E (gf f i {f i with w:=w}) o.size w:=by
 obtain⟨y,l,n,h⟩:=afh;have r:Ï (f i).d #[jG m]=(f i).d:=ĺ (λe k=>by
  have:e=jG m:=by simpa using k
  subst this;exact⟨λq=>z (by injection q),λq=>C (by injection q)⟩) _
 have M:∀e∈#[jG m],Ë e=y.act:=λe k=>by
  have:e=jG m:=by simpa using k
  subst this;rw[h];rfl
 obtain⟨o,q,t,N,O,u⟩:=p.I.pX v x (pb.fO _ _ _ _) (by rwa[r]) L (λe k=>by rw[M e k];exact D y h) (by rw[l];exact G y n h);rw[r,l]at u;rw[l]at q;refine⟨o,y,n,h,q,t,N,O,u,?_⟩;rw[t];exact p.a.C<|Ç _
def NO(H:gL F)(p:PI F j zX E S s B f c w qJ)(hb:F.M b)(D:xY E i){m:Ο}(N:m=.read (gP b)\/m=Υ (gP b))(T:F.Nx E.d (gP b) (Ã i))(W:∀x,E.ie x->i≠F.L+x): (∀y:Ă,y.act=ė m->(∀b,y.act.touch?=Ã b->Fa (λi=>i<c.size) E.Y f b)/\y.act.low w.heap.size)/\(∀y:Ă,y.g=i->y.act=ė m->∀O,¬Race O (qJ++#[y]))/\∀y:Ă,y.g=i->y.act=ė m->TI F.toFx j zX E.r E.S.rl E.V E.e E.d E.ie E.f (qJ++#[y]):=by
 have C:=p.I.r;have G:∀y:Ă,y.act=ė m->∀a,y.act.touch?=Ã a->a.loc=ú (gP b)/\a.kind=.said:=λy t a l=>by rw[t]at l;rcases N with rfl|rfl<;>simp[Ċ]at l<;>subst l<;>exact⟨U,U⟩
 have u:=(vO hb).2;refine⟨λy t=>⟨λa l=>À ⟨_,(G y t a l).1,vP u,λk D=>p.a.Y H.C u k D⟩,?_⟩,λy I t=>λO=> ?_,λy I t=> ?_⟩
 .have:=C.N _<|vP (E:=E) u;rw[t];rcases N with rfl|rfl<;>exact this
 .refine noRace_append (C.l O) (λd h=>by rw[vT h,I]) λq a l d h z hz X=> ?_;have:d=y:=by simpa using h
  subst this;let⟨n,P⟩:=G d t z hz;rcases p.d.M q a _ l (X.1.trans n) u with⟨J,o⟩|r|⟨_,r⟩
  .exact Wb p.d D J o
  .let⟨_,_,_,v⟩:=X;rw[r,P]at v;rcases v with v|v|⟨_,v,_⟩<;>cases v
  .have e:qJ.g? q=Ã i:=by
    rcases T with⟨K,M⟩|⟨k,v,K,M,s3,s4⟩
    .rcases r with⟨_,o⟩|⟨k,v,Q,o,_,_⟩
     .rw[o,M]
     .rw[K]at o;exact absurd (by injection o with o _ _;exact o.symm)<|H.C.M k Q
    .rcases r with⟨J,_⟩|⟨k',j',Q,o,r3,r4⟩
     .rw[M]at J;exact absurd (by injection J)<|H.C.M k K
     .rw[M]at o;have:k=k':=H.C.S _ _ K Q (by injection o);subst this;rw[s3]at r3;obtain rfl:=È r3;rw[r4,s4]
   let⟨M,v,K⟩:=Ù.1 e;have:=knows_own v;rwa[K]at this
 .refine p.d.C ⟨λd h a _=>by rw[vT h,I],D.imp id À,λd h a x l o K=> ?_,λd h a z l Q o k X J=> ?_,λd h b' _ e=> ?_,λx K q=>⟨λr M=>M.appOther (λd h=>by rw[vT h,I])<|W x q,λe=>absurd e.symm<|W x q⟩⟩
  .have:d=y:=by simpa using h
   subst this;let⟨n,P⟩:=G d t a l;rw[o]at n;injection n with n;subst n;exact Á ⟨P,T⟩
  .have:d=y:=by simpa using h
   subst this;let⟨n,_⟩:=G d t a l;rw[o]at n;injection n with n;subst n;exact⟨λv=>(p.a.I k (Ø J<|I3 p.C) _ v).2.1<|vP u,λe=>by simp[gP,iW]at e⟩
  .have:d=y:=by simpa using h
   subst this;rw[t]at e;rcases N with rfl|rfl<;>simp at e
theorem PI.afi(H:gL F)(p:PI F j zX E S s B f c w qJ){r:Nat}(b:i+2<=E.r)(d:E.N (i+1)=Í)(q:c[F.L+1+i]?=Ã g)(z:g.status=Å)(C:s (F.L+1+i)=.fu)(a:E.C i=.ft r .wr):jN F j zX E s c w qJ sl (F.L+1+i):=by let⟨Y,_,g',D,t⟩:=p.Cw H b d q z C a w<|p.I.r.r _<|iG q;have u:=p.C.d i r b<|À ⟨_,a⟩;have v:=ya H.C i;let⟨G,I,K⟩:=NO H p (Fv H.C u) (Cv b) (m:=Υ<|gP<|F.I<|F.r<|i+r*F.n) (Á U) (Á ⟨_,i,H.C.I _ u,U,p.C.D i r b a,U⟩) λx h e=>(I7 (E:=E) d) x h e;let⟨T,M⟩:=jb t;have x:=kV (λl g h=>À h.2.1) t;obtain⟨o,y,l,N,O,P,Q,V,W,X⟩:=p.Af (J:=JW F (E.I i) i<|.ft r .kh) H (kW F (E.I i)<|.ft r .kh) q (by rw[v];exact D w) fg fg G I (by rwa[v]) x;refine p.NM H b d q O P Q x V W (K y l N) X (by rw[a];rfl) (by rw[a];rfl) (p.C.G b d (λk=>by rw[a];rfl) (λe h=> ?_) (λe h=> ?_) (λe h=>by cases h) λe h=>by cases h) (by rw[a];simp only[gF.rk,jg.rk];omega) (λe h=>by cases h);all_goals grind
theorem PI.afj(H:gL F)(p:PI F j zX E S s B f c w qJ){r:Nat}(m:i+2<=E.r)(n:E.N (i+1)=Í)(q:c[F.L+1+i]?=Ã g)(G:g.status=Å)(I:s (F.L+1+i)=.fu)(d:E.C i=.ft r .gp):jN F j zX E s c w qJ sl (F.L+1+i):=by
 let⟨hd,_,K⟩:=p.Cw H m n q G I d w<|p.I.r.r _<|iG q;have v:=p.C.d i r m<|À ⟨_,d⟩;have y:=Fv H.C v;have z:=ya H.C i;let⟨a,b,M⟩:=p.C.H i r m d;have C:=p.M.I _<|H.C.I _ v;rw[M]at C;let⟨g',N,t⟩:=K 0;simp only[if_true]at t;let⟨T,O⟩:=jb t;have D:=kV (λl g h=>À h.2.1) t;obtain⟨o,u,l,P,Q,V,W,X,Y⟩:=p.Y (J:=JW F (E.I i) i<|.ft r .kK) H (kW F (E.I i)<|.ft r .kK) q (Cv m) y (by rw[z];exact N w C.C) (À U) (xZ y) U (λx k e=>(I7 n x k e).elim) (by rwa[z]) D;refine p.NM H m n q l P Q D V W X Y (by rw[d];rfl) (by rw[d];rfl) (p.C.G m n (λk=>by rw[d];rfl) (λe h=> ?_) (λe h=> ?_) (λe h=>by cases h) λe h=>by cases h) (by rw[d];simp only[gF.rk,jg.rk];omega) λe h=>by cases h
 .grind
 .rcases h with h|h|h<;>cases h;exact p.C.w i r m<|À d
theorem PI.afk(H:gL F)(p:PI F j zX E S s B f c w qJ){r:Nat}(d:i+2<=E.r)(t:E.N (i+1)=Í)(q:c[F.L+1+i]?=Ã g)(I:g.status=Å)(K:s (F.L+1+i)=.fu)(a:E.C i=.ft r .kK):jN F j zX E s c w qJ sl (F.L+1+i):=by
 have v:=iG q;let⟨M,_,g',N,x⟩:=p.Cw H d t q I K a w<|p.I.r.r _ v;have O:=p.C.d i r d<|À ⟨_,a⟩;have C:=Fv H.C O;have D:=ya H.C i;have u:∀y:Ă,y.act=ė (ő<|fG<|F.I<|F.r<|i+r*F.n)->y.act.touch?=Í:=λy m=>by rw[m];rfl
 let⟨T,P⟩:=jb x;have G:=kV (λl g h=>À<|H.Y _ _ _ _ h) x;obtain⟨o,y,Q,l,V,W,X,Y,q5,q7⟩:=p.Af (J:=JW F (E.I i) i<|.jy r) H (kW F (E.I i)<|.jy r) q (by rw[D];exact N w) fg fg (λy m=>⟨λz k=>(by rw[u y m]at k;cases k),by rw[m];exact p.I.r.N _<|À C⟩) (λy _ m=>zR p.I.r.l λz k=>by rw[vT k];exact u y m) (by rwa[D]) G;have Cz:=p.d.C (xU (λz k=>by rw[vT k];exact u y l) λz k b _ e=>by grind);refine p.NM H d t q V W X G Y q5 Cz q7 (by rw[a];rfl) (by rw[a];rfl) (p.C.G d t (λk=>by rw[a,NN U];rfl) (λk h=> ?_) (λk h=> ?_) (λk h=>by cases h) λk h=>by cases h) (by rw[a];simp only[gF.rk,jg.rk];omega) λk h z=> ?_
 .grind
 .rcases h with h|h|h<;>cases h;exact p.C.w i r d<|Á<|À a
 .cases h;let⟨k,b,e⟩:=p.d.Y _ z<|Ø (p.C.w i r d<|Á<|À a)<|NC _;exact VZ k b e (p.d.c _ C) Q l<|(p.I.r.f _ v).trans M
end
section
variable{F:Ph}{E E':fN F}{S:Nat->Jd}{tr o:Nat->gh}{f:Nat->ik}{d:Nat->e5}{gs gs':Array Ä}{u:ä}{sl:Option (Nat×Nat)}
def Wn{G:GS}(h:G.sm≠0):∃a s,G=.gQ a (s+1):=by
 cases G with
 |cl c b=>exact absurd U h
 |jr b=>exact absurd U h
 |gQ a s=>cases s with
  |zero=>exact absurd U h
  |succ s=>exact⟨a,s,U⟩
def CB(h:gs[i]?=Ã g):fY gs i=if g.status=Å then 1 else 0:=by unfold fY;rw[h];simp
def NP(h:gs'[i]?=gs[i]?):fY gs' i=fY gs i:=by unfold fY;rw[h]
theorem PI.afl(H:gL F)(p:PI F n zX E S tr f d gs w qJ){j r:Nat}{g:Ä}(t:j+2<=E.r)(m:E.N (j+1)=Í)(v:gs[F.L+1+j]?=Ã g)(z:g.status=Å)(ht:tr (F.L+1+j)=.fu)(c:E.C j=.ft r .kh):jN F n zX E tr gs w qJ sl (F.L+1+j):=by
 have B:=iG v;obtain⟨hd,_,ho,NQ,g',h1,h2⟩:=(p.Cw H t m v z ht c) w<|p.I.r.r _ B;have Q:=p.C.d j r t<|À ⟨_,c⟩;have C:=Fv H.C Q;have G:=H.C.I _ Q;have V:=ya H.C j;have X:=p.G B;have uO:j<F.n:=by have:=Ct p.C;omega
 have hG:=p.M.I _ G;by_cases K:(E.a<|F.r<|j+r*F.n).sm=0
 .have q:=hG.M;rw[K]at q;obtain⟨tg,I⟩:=p.g j t m;rw[c]at tg I;obtain⟨gs',q1,o,M,q4⟩:=Ni v (by rw[V];exact(NQ w q));have s:∀x,Ā F.P g {g with status:=Ü} w x=x:=by
   intro x;unfold Ā;rw[if_neg fg]
  have b:∀k,k≠F.L+1+j->gs'[k]?=gs[k]?:=by
   intro k a;rw[q4 k a];cases gs[k]? with
   |none=>rfl
   |some x=>simp[s]
  have D:gD F.P F.S E.Y S tr f d gs' w (qJ++#[]):=by
   rw[Ú];obtain⟨g0,J,l,W,O⟩:=p.I.C _ g v;have N:g=g0:=by
    rw[I]at l;cases l with
    |fY=>rfl
    |ni h ho=>cases z
   subst N;refine⟨?_,λk y a=> ?_,λk a=>p.I.I k<|by rwa[<-o]⟩
   .rw[show(λi=>i<gs'.size)=(λi=>i<gs.size) by rw[o]];exact p.I.r
   .by_cases e:k=F.L+1+j
    .subst e;rw[M]at a;obtain rfl:=È a;refine⟨g,J,?_,À z,Á ht⟩;rw[I];exact .ni z ho
    .rw[b k e]at a;exact p.I.C k y a
  refine⟨E,S,tr,f,d,gs',w,#[],q1,o,λh=>h,.r p.N (o.trans p.b) D (by rw[o];exact p.a) p.M p.C (by rw[Ú];exact p.d) (λk y a l=> ?_) (by rw[Ú];exact p.f),NH (λ_ _=>rfl) X (by rw[CB v,if_pos z]) (by rw[CB M,if_neg fg]) λk a=>NP<|b k a⟩;by_cases e:k=F.L+1+j
  .subst e;exact Á ⟨j,t,m,U,À ⟨r,c,K⟩⟩
  .rw[b k e]at a;exact p.c k y a l
 .obtain⟨a,s,y⟩:=Wn K;have NS:=y▸hG;have CC:=h1 w _ (by simp only[GS.sm];omega) NS.M NS.N;have N:kl (F.I<|F.r<|j+r*F.n) w (w.setCell (gP<|F.I<|F.r<|j+r*F.n)<|ë ç<|(GS.gQ a<|s+1).sm-1):=Á ⟨_,_,Á U,U⟩;have D:=N.r p.a H.C C;obtain⟨T,hT⟩:=jb (h2.jM (w₁:=w.setCell (gP<|F.I<|F.r<|j+r*F.n)<|ë ç<|(GS.gQ a<|s+1).sm-1) ⟨Ô D.r.symm,λb l=>D.jF b<|p.I.r.I _ B b l,λa k=>D.M _ B a k,λa k=>D.N _ B a k,λa _=>D.I a⟩);have mI:=kV (λl g h=>À h.2.1) h2;obtain⟨gs',u,q1,o,M,q4,q5,q6,q7⟩:=p.Y H (kW F (E.I j)<|.ft r .gp) v (Cv t) C (by rwa[V]) N (Ft C) (Fu _).2.2.2 (λx l e=>(I7 m x l e).elim) (by rwa[V]) mI;have hle:F.r (j+r*F.n)<=E.S.od:=by
   refine ă λl=> ?_;have:=p.C.e _ Z G l;rw[y]at this;cases this
  have si:=vR (f':=λi=>((gJ E j<|.ft r .gp).C i).gu F i<|F.r<|j+r*F.n) uO (λi l=>by rw[iF _ l]);simp only[jB,c]at si;have tg:gF.gu F j (F.r<|j+r*F.n) (.ft r .gp)=0:=by simp only[gF.gu,if_true];rfl
  have I:gF.gu F j (F.r<|j+r*F.n) (.ft r .kh)=1:=by simp only[gF.gu,if_true];rfl
  rw[tg,I]at si;refine⟨uN E j (.ft r .gp) (F.r<|j+r*F.n) (.gQ a s) E.d,_,_,_,_,gs',_,u,q1,o,λh=>h,.r ?_ (o.trans p.b) q5 ?_ ?_ (p.C.Wa t m (λl q=> ?_) (λ_ h=>by omega) (λ_=> ?_) (λ_=>⟨a,s,U⟩) (λh=>by cases h) (λ_ _=>rfl) (λ_ h=>h) (λb h=> ?_) (λb h=> ?_) (λb h=> ?_) λb h=>by cases h) q6 ?_ λk b J O a3=> ?_,?_⟩
  .have:=p.N.N (x:=.ft r .gp) (T:=T) H.C t m;exact⟨this.M,this.Y,this.I,this.C,this.r⟩
  .have:=q7.r (x:=.ft r .gp) (by rw[c];rfl);exact⟨this.gM,this.o,this.ll,this.e,this.f,this.h,this.l,this.S,this.M,this.c,this.I,this.N,this.g,this.d⟩
  .have W:=N.I H p.a p.C p.M C (Gg:=fq E.a (F.r<|j+r*F.n)<|.gQ a s) ⟨λe=>absurd e<|H.C.M _ G,λ_=>rfl⟩ λl q=>⟨λe=> ?_,λe=>fC _ _ λe'=>e<|by rw[e']⟩
   .have l:=W.Y (x:=.ft r .gp) (by show _=(E.C j).kj;rw[c];rfl) (by show _=(E.C j).iE;rw[c];rfl);exact⟨l.C,l.I,l.jv,l.M,l.S,l.N⟩
   .rw[<-(H.C.S _ _ G q e),gw];exact NS.kh
  .rw[c];simp only[gF.gu,if_neg<|ÿ q]
  .rcases p.C.Y _ G hle with⟨W,_,q,_⟩|⟨r1,s1,l,z2,q,z3⟩|⟨l,⟨q,_⟩|⟨s1,q,z3⟩⟩
   .rw[y]at q;cases q
   .rw[y]at q;injection q with e1 e2;subst e1 e2;exact Á<|À ⟨a,s,l,z2,U,Z⟩
   .rw[y]at q;cases q
   .rw[y]at q;injection q with e1 e2;subst e1 e2;exact Á<|Á ⟨l,Á ⟨s,U,Z⟩⟩
  .rcases h with⟨_,h⟩|h|h<;>cases h;exact Q
  .rcases h with h|h|h<;>cases h;exact hle
  .cases h;exact⟨a,s,gw _ _ _⟩
  .refine p.c.pX (E':=uN E j _ _ _ _) M (by rcases mI with q|q<;>rw[q]<;>simp) q4 (λk l=>N.C p.C C l) U U (λ_ _=>rfl) (λ_=>rfl) (λk e=>iF _ Z) (λ_ _ h=>À h) λk b _ _ h=>À ?_;by_cases e:F.r (k+b*F.n)=F.r (j+r*F.n)
   .rw[e]at h;exact absurd h K
   .show(fq E.a _ _ _).sm=0;rwa[fC _ _ e]
  .have e:k≠j:=λe=>by
    subst e;have:(gJ E k<|.ft r .gp).C k=.jy b:=O;rw[jB]at this;cases this
   have l:(gJ E j<|.ft r .gp).C k=.jy b:=O;rw[iF _ e]at l;exact(p.f k b J l a3).app u
  .have:=Cu (E:=E) (tr:=tr) (gs:=gs) (gs':=gs') (x:=.ft r .gp) (T:=T) H.C X m (by rw[c];simp only[gF.rk,jg.rk];omega);rcases this with⟨i,J,O,a3⟩|⟨J,_⟩
   .exact À ⟨i,J,O,a3⟩
   .exfalso;have:=J _ X;change(gJ E j<|.ft r .gp).iK (fq tr (F.L+1+j) T) (F.L+1+j)=E.iK tr (F.L+1+j)at this;rw[s9 H.C (E:=gJ E j _) (show(gJ E j _).N (j+1)=Í from m),s9 H.C m,jB,c]at this;injection this with e _;simp only[gF.rk,jg.rk]at e;omega
theorem iw.afm(L:iw F E d i w){l:e5}(H:∀b,l.O b->(d n).O b)(I:∀b,(d n).I b->l.I b)(J:∀a,l.r a->(d n).r a)(K:∀a,(d n).r a->l.r a)(M:∀a,(d n).N a->l.N a)(N:∀a,l.C a->(∃k,k<=F.m/\a=iW F.toFx k)\/∃p,p≠F.f/\a=jd F p)(P:l.q=(d n).q)(s:¬l.q):iw F E (gf d n l) i w:=by
 have D:∀k,d k=ki (d k)->k≠n:=λk f e=>by
  subst e;have:(d k).q:=by rw[f];trivial
  grind
 have Q:∀k b,(gf d n l k).O b->(d k).O b:=λk b h=>by grind [gN,gA]
 have t:∀k a,(gf d n l k).r a↔(d k).r a:=λk a=>by grind [gN,gA]
 have y:∀k b,(d k).I b->(gf d n l k).I b:=λk b h=>by grind [gN,gA]
 have z:∀k a,(d k).N a->(gf d n l k).N a:=λk a h=>by grind [gN,gA]
 refine⟨λk f a v=> ?_,λx c o a v=>(t _ _).2<|L.o x c o a v,λh=>⟨z _ _ (L.ll h).1,λb s=>y _ _<|(L.ll h).2 b s⟩,λh k c o=>⟨(t _ _).2 (L.e h k c o).1,(t _ _).2 (L.e h k c o).2⟩,λh u=>⟨z _ _ (L.f h u).1,λb s=>y _ _<|(L.f h u).2 b s⟩,λj g u r B c=>(t _ _).2<|L.h j g u r B c,λj g u=>⟨z _ _ (L.l j g u).1,λb s=>y _ _<|(L.l j g u).2 b s⟩,λx G=> ?_,λk f=> ?_,λk c o=> ?_,λk f b s=> ?_,λk f j g h=>L.N k f j g<|(t _ _).1 h,λk c o j g h=>L.g k c o j g<|(t _ _).1 h,λj g r B c k f h=>L.d j g r B c k f<|(t _ _).1 h⟩
 .by_cases e:k=n
  .grind [gN]
  .rw[gA d _ e]at v;exact L.gM k f a v
 .rw[gA d _<|D _<|L.S x G];exact L.S x G
 .by_cases e:k=n
  .grind [gN]
  .rw[gA d _ e];exact L.M k f
 .rw[gA d _<|D _<|L.c k c o];exact L.c k c o
 .let⟨S,T,V⟩:=L.I k f b s;grind
theorem PI.afn(H:gL F)(p:PI F n zX E S tr f d gs w qJ){r:Nat}(o:j+2<=E.r)(s:E.N (j+1)=Í)(u:gs[F.L+1+j]?=Ã g)(x:g.status=Å)(I:tr (F.L+1+j)=.fu)(m:E.C j=.jy r):qM F n zX E tr gs w qJ:=by
 have c:=iG u;have C:=p.I.r;obtain⟨y,z⟩:=p.g j o s;rw[m]at y z;have B:=p.I.N u x I (À z) w<|C.r _ c;rw[y]at B;have v:=p.C.d j r o<|Á<|À m;have J:=H.C.I _ v;have D:=p.C.w j r o<|Á<|Á m;have t:=Ø D<|Ø (NC _)<|I3 p.C;obtain⟨K,M⟩:=p.M.M _ t;have N:=λa l=>by
  by_cases e:1<=F.r (j+r*F.n)
  .exact(p.d.I _ e (Ø D<|NC _) a l).aeP<|p.f j r o m e
  .have h:F.r (j+r*F.n)=0:=Z
   obtain⟨i,b⟩:=p.a.l j o s;rw[h]at l;rcases l with l|rfl
   .rw[p.C.v]at l;exact(C.S _ c).C a<|b _ l
   .exact(C.S _ c).r _ i
 have G:iJ F.S (λi=>i<gs.size) E.Y (gf d (F.L+1+j) {d (F.L+1+j)with I:=λb=>(d<|F.L+1+j).I b\/E.V (F.r<|j+r*F.n) b,N:=λa=>(d<|F.L+1+j).N a\/a=iW F.toFx (F.r<|j+r*F.n),w:=w}) w qJ:=by
  refine C.C c (λ_ q=>q) (λb q=> ?_) (λ_ q=>q) (λa q=> ?_) U U U (λb h q=> ?_) λa l q=> ?_
  .rcases q with q|q
   .exact À<|Á q
   .obtain⟨i,k,O⟩:=p.a.I _ t b q;grind
  .rcases q with q|rfl
   .exact À<|Á q
   .exact Á ⟨À<|Á ⟨_,J,U⟩,λk e=>p.a.N _ t k e,N _<|Á U⟩
  .rcases q with q|q
   .exact C.m _ c b h q
   .exact(p.a.I _ t b q).2.2 _ c h
  .rcases q with q|rfl
   .exact C.g _ c a l q
   .exact p.a.N _ t _ c l
 have i:=G.M c;rw[gN]at i;obtain⟨T,O⟩:=jb (H.e (E.I j) j r _ _ _ g v B {d (F.L+1+j)with I:=λb=>(d<|F.L+1+j).I b\/E.V (F.r<|j+r*F.n) b,N:=λa=>(d<|F.L+1+j).N a\/a=iW F.toFx (F.r<|j+r*F.n),w:=w} i U (λb q=>q) U U U U U K M (Á U)<|p.a.h j o s r v<|by rw[m];exact Ç _);refine p.NJ H o s u (À x) G O ?_ (p.M.Y (by rw[m];rfl)<|by rw[m];rfl) (p.C.G o s (λk=>by rw[m];rfl) (λe h=> ?_) (λe h=> ?_) (λe h=>by cases h) λe h=>by cases h) ?_ λe h=>by cases h
 .refine(p.a.r<|by rw[m];rfl).afm (λ_ q=>q) (λ_ q=>À q) (λ_ q=>q) (λ_ q=>q) (λ_ q=>À q) (λa l=> ?_) U (p.a.M (F.L+1+j)<|Á ⟨j+1,Z,Z,λ⟨e,h,_⟩=>by rw[s]at h;cases h⟩);rcases l with q|q|rfl
  .exact p.a.gM _ c a<|À q
  .exact p.a.gM _ c a<|Á q
  .grind
 .grind
 .grind
 .rw[m];simp only[gF.rk];have h:F.n+3000<=(F.n+3000)*(F.q+3-r):=â _ (by
   have:r<=F.q:=by have:r*1<=r*F.n:=ï _ H.C.N;omega
   omega)
  omega
def PI.afo(H:gL F)(p:PI F n zX E S tr f d gs w qJ){r:Nat}(G:j+2<=E.r)(I:E.N (j+1)=Í)(V:gs[F.L+1+j]?=Ã g)(iB:g.status=Å)(ht:tr (F.L+1+j)=.fu)(u:E.C j=.nZ r):qM F n zX E tr gs w qJ:=by
 have D:=iG V;have C:=p.I.r;let⟨tg,sj⟩:=p.g j G I;rw[u]at tg sj;have hJ:=p.I.N V iB ht<|À sj;rw[tg]at hJ;let⟨hcell,hrecv⟩:=hJ w<|C.r _ D;have n9:=p.C.d j r G<|Á<|Á u;have I9:=p.a.h j G I r n9 (by rw[u];exact Ç _);have Ja:r<=F.q:=by have:r*1<=r*F.n:=ï _ H.C.N;omega
 have yb:iJ F.S (λi=>i<gs.size) E.Y (gf d (F.L+1+j)<|uM F {d (F.L+1+j)with w:=w}<|j+r*F.n) w qJ:=by
  refine C.C D (λ_ q=>q) (λb q=>À<|Á q) (λ_ q=>q.1) (λa q=> ?_) U U U (λb t q=>C.m _ D b t q) λa s q=> ?_
  .rcases q with q|rfl
   .exact À<|Á q
   .exact À<|À I9
  .rcases q with q|q
   .exact C.g _ D a s.1 q
   .exact s.2 q
 have hF:kJ F.P É (JW F (E.I j) j<|.mK (r+1)) .fu (uM F {d (F.L+1+j)with w:=w}<|j+r*F.n) g:=λw₁ oa=>by let⟨Q,W,c,e⟩:=hrecv;exact⟨Q,W,c,λx=>(e x).jM oa⟩
 refine p.NJ H G I V (À iB) yb hF ?_ ?_ (p.C.G G I (λk=>by rw[u];rfl) (λm h=> ?_) (λm h=> ?_) (λm h=>by cases h) λm h=>by cases h) ?_ λm h=>by cases h
 .have L:=p.a;have J:∀k a,(gf d (F.L+1+j) (uM F {d (F.L+1+j)with w:=w}<|j+r*F.n) k).r a->(d k).r a:=λk a h=>by
   by_cases e:k=F.L+1+j
   .subst e;rw[gN]at h;exact h.1
   .rwa[gA d _ e]at h
  have K:∀k a,(d k).r a->a≠jd F (F.a<|j+r*F.n)->(gf d (F.L+1+j) (uM F {d (F.L+1+j)with w:=w}<|j+r*F.n) k).r a:=λk a h kT=>by
   by_cases e:k=F.L+1+j
   .subst e;rw[gN];exact⟨h,kT⟩
   .rwa[gA d _ e]
  have X:∀k a,(d k).N a->(gf d (F.L+1+j) (uM F {d (F.L+1+j)with w:=w}<|j+r*F.n) k).N a:=λk a h=>by
   by_cases e:k=F.L+1+j
   .subst e;rw[gN];exact À h
   .rwa[gA d _ e]
  have M:∀k,(gf d (F.L+1+j) (uM F {d (F.L+1+j)with w:=w}<|j+r*F.n) k).I=(d k).I/\(gf d (F.L+1+j) (uM F {d (F.L+1+j)with w:=w}<|j+r*F.n) k).O=(d k).O/\(gf d (F.L+1+j) (uM F {d (F.L+1+j)with w:=w}<|j+r*F.n) k).q=(d k).q:=λk=>by
   by_cases e:k=F.L+1+j
   .subst e;rw[gN];exact⟨U,U,U⟩
   .rw[gA d _ e];exact⟨U,U,U⟩
  have nb:∀k,d k=ki (d k)->k≠F.L+1+j:=λk W e=>by
   subst e;have:(d<|F.L+1+j).q:=by rw[W];trivial
   exact(p.a.M (F.L+1+j)<|Á ⟨j+1,Z,Z,λ⟨e,c,_⟩=>by rw[I]at c;cases c⟩) this
  have N:∀k,k≠F.L+1+j->k<gs.size->∀a,(d k).r a->a≠jd F (F.a<|j+r*F.n):=λk W FB a s e=>C.h _ _ FB D W a s (by rw[e];exact À I9);refine⟨λk W a s=> ?_,λx c v a s=>K _ _ (L.o x c v a s) (N 0 (by have:=H.C.r;omega) (by have:=p.b;have:=H.C.r;omega) a<|L.o x c v a s),λh=>⟨X _ _ (L.ll h).1,λb t=>by rw[(M 0).1];exact(L.ll h).2 b t⟩,λh k c v=> ?_,λh B=>⟨X _ _ (L.f h B).1,λb t=>by rw[(M _).1];exact(L.f h B).2 b t⟩,λl o B m y c=> ?_,λl o B=>⟨X _ _ (L.l l o B).1,λb t=>by rw[(M _).1];exact(L.l l o B).2 b t⟩,λx Ag=>by rw[gA d _<|nb _<|L.S x Ag];exact L.S x Ag,λk W=>by rw[(M k).2.2];exact L.M k W,λk c v=>by rw[gA d _<|nb _<|L.c k c v];exact L.c k c v,λk W b t=>⟨(L.I k W b t).1,(L.I k W b t).2.1,λi z=>by rw[(M i).2.1];exact(L.I k W b t).2.2 i z⟩,λk W i z h=>L.N k W i z<|J _ _ h,λk c v i z h=>L.g k c v i z<|J _ _ h,λl o m y c i z h=> ?_⟩
  .by_cases e:k=F.L+1+j
   .subst e;rw[gN]at s;rcases s with q|q|q
    .exact L.gM _ D a<|À q.1
    .exact L.gM _ D a<|Á q
    .exact Á ⟨_,H.C.Y.2 _ (by assumption),q⟩
   .rw[gA d _ e]at s;exact L.gM k W a s
  .have Q:F.L<gs.size:=by have:=p.b;have:0<E.r:=h;omega
   have:=L.e h k c v;exact⟨K _ _ this.1<|N _ Z Q _ this.1,K _ _ this.2<|N _ Z Q _ this.2⟩
  .by_cases e:l=j
   .subst e;rw[jB]at c;simp only[gF.kj]at c;refine K _ _ (L.h l o B m y<|by rw[u];simp only[gF.kj];omega) λq=> ?_;have Q:=H.C.a _ _ y n9 (by injection q);have T:m*F.n=r*F.n:=Z
    have:=Nat.eq_of_mul_eq_mul_right H.C.N T;omega
   .rw[iF _ e]at c;have q:=L.h l o B m y c;have vU:l+2<=E.r:=o;exact K _ _ q<|N _ Z (by have:=p.b;omega) _ q
  .by_cases e:l=j
   .subst e;rw[jB]at c;simp only[gF.kj]at c;by_cases Q:m=r
    .subst Q;by_cases T:i=F.L+1+l
     .subst T;rw[gN]at h;exact h.2 U
     .exact N i T z _ (J _ _ h) U
    .exact L.d l o m y (by rw[u];simp only[gF.kj];omega) i z<|J _ _ h
   .rw[iF _ e]at c;exact L.d l o m y c i z<|J _ _ h
 .have W:=p.M;refine⟨W.C,W.I,λl o=> ?_,W.M,W.S,λl o m y c=> ?_⟩
  .by_cases e:l=j
   .subst e;have:=W.jv l o;rw[u]at this;rw[jB];exact this
   .rw[iF _ e];exact W.jv l o
  .by_cases e:l=j
   .subst e;rw[jB]at c;simp only[gF.kj]at c;by_cases Q:m=r
    .subst Q;exact hcell
    .exact W.N l o m y<|by rw[u];simp only[gF.kj];omega
   .rw[iF _ e]at c;exact W.N l o m y c
 .rcases h with⟨_,h⟩|h|h<;>cases h
 .rcases h with h|h|h<;>cases h
 .rw[u];simp only[gF.rk];have e:F.q+3-r=(F.q+3-(r+1))+1:=Z
  rw[e,ł];omega
end
def afp{α:Type}(f:Nat->α)(i:Nat)(x y:α):fq (fq f i x) i y=fq f i y:=by funext k;unfold fq;split<;>rfl
section
variable{F:Ph}{E E':fN F}{S:Nat->Jd}{tr o:Nat->gh}{d:Nat->ik}{lot:Nat->e5}{gs gs':Array Ä}{u:ä}{sl:Option (Nat×Nat)}{sz:Nat}
def pe{r:Nat}{a:Bool}(h:b≠i):(w.setChan i n q yQ j r a).heap[b]?=w.heap[b]?:=by unfold World.setChan;exact í<|ÿ h
def Jb{r:Nat}{a:Bool}(h:i<w.heap.size):(w.setChan i n q yQ j r a).heap[i]?=Ã (.chan n q yQ j r a):=by unfold World.setChan;simp[h]
def FC{r:Nat}{a:Bool}:(w.setChan i n q yQ j r a).heap.size=w.heap.size:=by unfold World.setChan;simp
def afq(f:Ps F E)(c:j+2<=E.r){cap s r:Nat}{buf:Array ã}{cl tm:Bool}:Fo F E lot sz w (w.setChan (E.I j) cap buf cl s r tm):=by
 let⟨g,d,_⟩:=f.o j c;refine⟨Ô FC.symm,λb _ h _=>pe λe=>h<|Á<|Á ⟨j,c,e⟩,λa i _=>gE (pe λe=> ?_),vI (pe λe=>d e.symm),U,U⟩;rcases i with⟨k,l,rfl⟩|⟨p,rfl⟩
 .exact g<|Á ⟨k,l,e.symm⟩
 .exact d e.symm
def Wo(a:Ps F E)(c:j+2<=E.r){cap s r:Nat}{buf:Array ã}{cl tm:Bool}(d:F.M b){G:GS}(h:gT w b G):gT (w.setChan (E.I j) cap buf cl s r tm) b G:=by have e:b≠E.I j:=λe=>(a.o j c).1<|e▸d;exact h.uL (gE<|pe e) (gE<|pe e) (vK<|pe e)<|vK<|pe e
def Wd.G(W:Wd F E w)(H:gL F)(L:iw F E lot sz w)(g:Ps F E)(h:j+2<=E.r){cap s r:Nat}{buf:Array ã}{cl tm:Bool}: (∀k,k<=E.S.md->mL F k (E.c k)/\F.d k (E.c k) (E.V k) (w.setChan (E.I j) cap buf cl s r tm))/\(∀k,1<=k->k<=E.S.md->(w.setChan (E.I j) cap buf cl s r tm).cell? (jd F (F.b k))=Ã (.string (F.o k)))/\(∀c,c+2<=E.r->∀d,c+d*F.n<F.q->d<(E.C c).kj->(w.setChan (E.I j) cap buf cl s r tm).cell? (jd F (F.a (c+d*F.n)))=Ã (.string (F.k (c+d*F.n))))/\gT (w.setChan (E.I j) cap buf cl s r tm) F.C E.b/\(∀k,k<=F.m->gT (w.setChan (E.I j) cap buf cl s r tm) (F.I k) (E.a k)):=by have e:=afq (lot:=lot) (sz:=sz) (w:=w) g h (cap:=cap) (s:=s) (r:=r) (buf:=buf) (cl:=cl) (tm:=tm);refine⟨λk a=>⟨(W.M k a).1,H.S _ _ _ _ _ (W.M k a).2 (λb f=>e.C b (L.I k a b f).1 (L.I k a b f).2.1 (L.I k a b f).2.2) (e.r _ (À ⟨k,Ø a (I2 g),U⟩) (L.N k a)) (e.r _ (Á ⟨_,U⟩) (L.NB H.C)) e.I e.M⟩,λk b f=>(e.r _ (Á ⟨_,U⟩) (L.g k b f)).trans (W.S k b f),λc b d f i=>(e.r _ (Á ⟨_,U⟩) (L.d c b d f i)).trans (W.N c b d f i),Wo g h (À U) W.C,λk a=>Wo g h (Á ⟨k,a,U⟩) (W.I k a)⟩
def iw.CF(L:iw F E lot sz w)(h:w.heap.size<=W.heap.size):iw F E lot sz W:= ⟨L.gM,L.o,L.ll,L.e,L.f,L.h,L.l,L.S,L.M,L.c,λk a b c=>⟨Ê (L.I k a b c).1 h,(L.I k a b c).2⟩,L.N,L.g,L.d⟩
def Jc(c:TI F.toFx i zX E.r E.S.rl E.V E.e E.d E.ie E.f qJ)(h:vN u):TI F.toFx i zX E.r E.S.rl E.V E.e E.d E.ie E.f (qJ++u):= c.C<|xU (λa b=>(h a b).1) λa b _ _=>(h a b).2 _
def gO(E:fN F)(x:Nat)(e:gY):fN F:={E with N:=fq E.N x (Ã e)}
theorem p6.G(h:p6 F E S tr d)(ok:F.Ok){x:Nat}{e:gY}{T:gh}(m:(∃N,e=.jf N)->T=.fu):p6 F (fv.gO E x e) (fq S (F.L+x)<|JE F e) (fq tr (F.L+x) T) (fq d (F.L+x) .no):=by
 have:=ok.r;have c:∀y,y≠x->(fv.gO E x e).N y=E.N y:=λy k=>fC _ _ k;have g:(fv.gO E x e).N x=Ã e:=gw _ _ _;refine⟨by rw[fC S _ Z,fC d _ Z];exact h.M,λb a=> ?_,λj b a=> ?_,λy l b a=> ?_,λi b a=>by rw[fC S _ Z,fC d _ Z,fC tr _ Z];exact h.r i b a⟩
 .have f:x≠0:=λq=>by subst q;rw[g]at a;cases a
  rw[c 0<|ÿ f]at a;rw[fC S _ Z,fC d _ Z];exact h.Y b a
 .have f:x≠j+1:=λq=>by subst q;rw[g]at a;cases a
  rw[c _<|ÿ f]at a;rw[fC S _ Z,fC d _ Z];exact h.I j b a
 .by_cases q:y=x
  .grind [gw]
  .rw[c y q]at a;rw[fC S _ Z,fC d _ Z,fC tr _ Z];exact h.C y l b a
def qN(F:Ph)(E:fN F)(x:Nat):Nat×Nat:=match E.N x with
 |some e=>e.rk F
 |none=>if x=0 then(E.S.rk F,0)else((E.C<|x-1).rk F,0)
def afr(ok:F.Ok)(x:Nat):E.iK tr (F.L+x)=((qN F E x).1,(qN F E x).2,tr<|F.L+x):=by
 have:=ok.r;unfold qN;cases a:E.N x with
 |some e=>rw[I5 ok a]
 |none=>
  cases x with
  |zero=>rw[ó,V8 ok a];simp
  |succ j=>rw[show F.L+(j+1)=F.L+1+j by omega,s9 ok a];simp
def CG(ok:F.Ok){x:Nat}{e:gY}{T:gh}(b:F.L+x<F.N)(h:(e.rk F).1<(qN F E x).1\/((e.rk F).1=(qN F E x).1/\(e.rk F).2<(qN F E x).2)):oK F.N ((fv.gO E x e).mu (fq tr (F.L+x) T) gs') (E.mu tr gs):=by
 refine Fq b ?_ λk c=>xW (λ_=>rfl) (λ_ _=>rfl) (λa=>fC _ _ Z) (λ_ _=>rfl) (λ_ _=>rfl)<|fC tr _ c;rw[I5 ok (E:=fv.gO E x e)<|gw _ _ _,afr ok];rcases h with h|⟨a,d⟩
 .exact À h
 .exact Á ⟨a,À d⟩
def afs{e:gY}(h:e.kz=lE (E.N i))(y:Nat):(fv.gO E i e).G y=E.G y:=by
 unfold fN.G;by_cases q:y=i
 .subst q;show(if y<E.M.ad F.n then lE (fq E.N y (Ã e) y)else 0)=_;rw[gw];show(if y<E.M.ad F.n then e.kz else 0)=_;rw[h]
 .show(if y<E.M.ad F.n then lE (fq E.N i (Ã e) y)else 0)=_;rw[fC _ _ q]
def afu{e:gY}(h:e.kz=lE (E.N i)):Ñ (F.n+1) (fv.gO E i e).G=Ñ (F.n+1) E.G:=Ł λy _=>afs h y
theorem Ps.gO(h:Ps F E){x:Nat}{e:gY}(J:x<E.r)(v:e.kz=lE (E.N x))(w:∀p,E.N x=Ã (.fU p)->∀W,p≠ .gp W/\p≠ .iT W/\p≠ .il W)(K:∀p,e=.fU p->∀W,p≠ .gp W/\p≠ .iT W/\p≠ .il W) (z:∀j,x=j+1->j<E.M.iV F.n/\∃r,E.C j=.mK r/\∀i,j+i*F.n<F.q->i<r) (B:x=0->E.S=.ky F.m):Ps F (fv.gO E x e):=by
 have b:∀y,y≠x->(fv.gO E x e).N y=E.N y:=λy a=>fC _ _ a;have L:(fv.gO E x e).N x=Ã e:=gw _ _ _;have g:=afu (E:=E) v;refine⟨h.v,h.C,h.K,h.L,h.J,h.I,h.z,h.d,λj C d=> ?_,λd=> ?_,λy a=> ?_,h.M,h.o,λc k f=>by rw[g];exact h.t c k f,λk f=> ?_,λr s f=> ?_,λy p a=> ?_,λD=>by rw[g];exact h.B D,h.e,h.Y,h.w,h.H,h.O,h.S,h.y,h.D⟩
 .by_cases q:j+1=x
  .exact z j q.symm
  .rw[b _ q]at d;exact h.l j C d
 .by_cases q:0=x
  .exact B q.symm
  .rw[b _ q]at d;exact h.f d
 .have:E.r<=y:=a;rw[b y Z];exact h.h y a
 .rw[g];let⟨l,o,y,t,u,G⟩:=h.g k f;refine⟨l,o,y,t,u,?_⟩;grind
 .rw[g];let⟨l,o,t⟩:=h.u r s f;refine⟨l,o,λG=> ?_⟩;let⟨y,H,I,u⟩:=t G;have:y≠x:=λq=>by subst q;exact(w _ u r).2.2 U
  exact⟨y,H,I,by rwa[b y this]⟩
 .by_cases q:y=x
  .grind
  .rw[b y q]at a;exact h.N y p a
theorem Wp{x:Nat}{e:gY}(h:i≠x):(fv.gO E x e).ie i↔E.ie i:=by unfold fN.ie;show(∃a,fq E.N x (Ã e) i=Ã a/\a.ie)↔_;rw[fC _ _ h]
theorem afv{e:gY}:(fv.gO E i e).ie i↔e.ie:=by unfold fN.ie;show(∃a,fq E.N i (Ã e) i=Ã a/\a.ie)↔_;rw[gw];grind
theorem afw{e:gY}(h:e.ie↔E.ie i)(y:Nat):(fv.gO E i e).ie y↔E.ie y:=by grind [afv,Wp]
theorem Wq{e:gY}(h:e.nI↔E.nI i)(y:Nat):(fv.gO E i e).nI y↔E.nI y:=by unfold fN.nI at h|-;show(∃a,fq E.N i (Ã e) y=Ã a/\a.nI)↔_;grind [gw,fC]
theorem iw.gO(L:iw F E lot sz w){x:Nat}{e:gY}(h:e.nI↔E.nI x):iw F (fv.gO E x e) lot sz w:=by
 have d:∀y,(fv.gO E x e).N y=Í->E.N y=Í:=λy c=>by
  by_cases q:y=x
  .subst q;have:fq E.N y (Ã e) y=Í:=c;grind [gw]
  .have:fq E.N x (Ã e) y=Í:=c;grind [fC]
 exact⟨L.gM,L.o,L.ll,L.e,λa b=>L.f a<|d _ b,λj a b=>L.h j a<|d _ b,λj a b=>L.l j a<|d _ b,λy c=>L.S y<|(Wq h y).1 c,λi f=>L.M i (f.imp id λ⟨y,a,b,g⟩=>⟨y,a,b,λq=>g<|(Wq h y).2 q⟩),L.c,L.I,L.N,L.g,L.d⟩
def Wd.gO(W:Wd F E w){x:Nat}{e:gY}:Wd F (fv.gO E x e) w:=⟨W.C,W.I,W.jv,W.M,W.S,W.N⟩
def TI.G(a:TI F.toFx i zX E.r E.S.rl E.V E.e E.d E.ie E.f qJ){x:Nat}{e:gY}(h:e.ie↔E.ie x):TI F.toFx i zX (fv.gO E x e).r (fv.gO E x e).S.rl (fv.gO E x e).V (fv.gO E x e).e (fv.gO E x e).d (fv.gO E x e).ie (fv.gO E x e).f qJ:= {a with r:=λy b c=>a.r y b ((afw h y).1 c)}
def PI.afx(H:gL F)(p:PI F i zX E S tr d lot gs w qJ){r:Nat}(t:j+2<=E.r)(o:E.N (j+1)=Í)(M:gs[F.L+1+j]?=Ã g)(iB:g.status=Å)(ht:tr (F.L+1+j)=.fu)(C:E.C j=.mK r):jN F i zX E tr gs w qJ sl (F.L+1+j):=by
 have vS:=p.G<|iG M;obtain⟨tg,sj⟩:=p.g j t o;rw[C]at tg sj;have NT:S (F.L+1+j)=vL F.P (F.L+1+j==0) (E.I j) F.z λx=>match x with
  |some v=>λl g=>v=F.c (j+r*F.n)->pZ F.P É F.B (F.I<|F.r<|j+r*F.n) (F.e (E.I j)<|j+r*F.n) .iP l g
  |none=>zY F:=by rwa[ya H.C j]
 have hY:E.Y (E.I j):=Á<|Á ⟨j,t,U⟩;obtain⟨buf,s,D,tj,Wr,yc,yd⟩:=p.M.jv j t;rw[C]at D Wr yc yd;simp only[gF.iE]at D Wr yc yd;have CH:=(p.I.r).N _ hY;by_cases Ac:r<s
 .have Ah:=yd 0 Z;rw[ó]at Ah;have n9:j+r*F.n<F.q:=by
   have:=(tj r).1 Ac;have:E.M.lU F.q<=F.q:=by cases E.M<;>simp only[fP.lU]<;>omega
   omega
  obtain⟨gs',u,T,g',O,f,Q,V,I,W,q7⟩:=p.I.mK M iB sj ht NT hY D Ah<|kW F (E.I j)<|.ft r .iP;have q8:=q7.ky (λl g h=>by rw[gw]at h;exact h U);rw[afp]at q8;obtain⟨z1,z2,z3,z4,z5⟩:=p.M.G H p.a p.C t;refine⟨gJ E j<|.ft r .iP,_,_,_,_,gs',_,u,O,f,λh=>h,.r (p.N.N H.C t o) (f.trans p.b) q8 ?_ ⟨z4,z5,λv m=> ?_,z1,z2,λv m c oB a=> ?_⟩ (p.C.G t o (λk=>by rw[C,NN U];rfl) (λc h=> ?_) (λc h=> ?_) (λc h=>by cases h) λc h=>by cases h) (Jc p.d W) (λk y b G=> ?_) λv c a1 J a3=> ?_,Cu H.C vS o ?_⟩
  .rw[f];exact((p.a.r<|by rw[C];rfl).CF<|Ô FC.symm)
  .by_cases e:v=j
   .subst e;rw[jB];refine⟨buf.extract 1 buf.size,s,Jb CH,tj,Ac,by rw[Array.size_extract];simp only[gF.iE];omega,λl kR=> ?_⟩;simp only[gF.iE]at kR|-;rw[Array.getElem?_extract];rw[if_pos Z];have:=yd (1+l) Z;rw[this,show r+(1+l)=r+1+l by omega]
   .rw[iF _ e];obtain⟨K,X,y1,y2⟩:=p.M.jv v m;refine⟨K,X,?_,y2⟩;show(w.setChan (E.I j) _ _ _ _ _ _).heap[E.I v]?=_;rwa[pe λq=>e<|p.C.M _ _ m t q]
  .by_cases e:v=j
   .subst e;rw[jB]at a;exact z3 v m c oB<|by rwa[C]
   .rw[iF _ e]at a;exact z3 v m c oB a
  .rcases h with⟨_,h⟩|h|h<;>cases h;exact n9
  .rcases h with h|h|h<;>cases h
  .by_cases e:k=F.L+1+j
   .subst e;rw[Q]at b;obtain rfl:=È b;rw[V]at G;cases G
   .rw[I k e]at b;rcases p.c k y b G with a|⟨v,m,ye,K,X|⟨r1,cap,s1,c,X,h4⟩⟩
    .exact À a
    .exact Á ⟨v,m,ye,K,À<|by rwa[iF _ Z]⟩
    .have e2:v≠j:=Z
     exact Á ⟨v,m,ye,K,Á ⟨r1,cap,s1,c,by rwa[iF _ e2],by show(w.setChan (E.I j) _ _ _ _ _ _).heap[E.I v]?=_;rwa[pe λq=>e2<|p.C.M _ _ m t q]⟩⟩
  .rw[iF _ (λe=>by subst e;rw[jB]at J;cases J)]at J;exact(p.f v c a1 J a3).app u
  .rw[C];simp only[gF.rk,jg.rk];have hm:F.n+3000<=(F.n+3000)*(F.q+3-r):=â _ (by
    have:r*1<=r*F.n:=ï _ H.C.N;omega)
   omega
 .have NU:buf=#[]:=Array.size_eq_zero_iff.1 Z;subst NU;have afy:r=s:=Z
  by_cases o7:j<E.M.iV F.n
  .rw[show decide (j<E.M.iV F.n)=Ì by simpa using o7]at D;obtain⟨gs',u,T,g',O,f,Q,V,I,W,q7⟩:=p.I.iV (sl:=sl) M iB sj ht NT hY D .no;have Ws:F.L+1+j=F.L+(j+1):=Z
   have FD:E.M.lU F.q=F.q:=by revert o7;cases E.M<;>simp only[fP.iV,fP.lU]<;>intro h<;>first|trivial|omega
   have NV:¬E.ie (j+1):=λ⟨e,a,_⟩=>by rw[o]at a;cases a
   have NW:gY.ie .n7↔E.ie (j+1):=⟨λh=>h.elim,λh=>(NV h).elim⟩;refine⟨fv.gO E (j+1) .n7,_,_,_,_,gs',w,u,O,f,λh=>h,.r (p.N.G H.C λ⟨N,h⟩=>by cases h) (f.trans p.b) (by rwa[<-Ws]) (by rw[f];exact p.a.gO ⟨λh=>h.elim,λ⟨e,a,_⟩=>by rw[o]at a;cases a⟩) p.M.gO (p.C.gO Z (by rw[o];rfl) (λp' h=>by rw[o]at h;cases h) (λp' h=>by cases h) (λv h=> ?_) λh=>by omega) ((Jc p.d W).G NW) (λk y b G=> ?_) λv c a1 J a3=>(p.f v c a1 J a3).app u,CG H.C (by rwa[<-Ws])<|À ?_⟩
   .have:v=j:=Z
    subst this;exact⟨o7,r,C,λl kR=>by rw[afy];exact(tj l).2<|by rwa[FD]⟩
   .by_cases e:k=F.L+1+j
    .subst e;rw[Q]at b;obtain rfl:=È b;rw[V]at G;cases G
    .rw[I k e]at b;have l:∀v,F.L+1+v=k->(fv.gO E (j+1) .n7).N (v+1)=E.N (v+1):=λv h=>fC _ _ Z;rcases p.c k y b G with a|⟨v,m,ye,K,X⟩
     .exact À a
     .exact Á ⟨v,m,by rwa[l v K.symm],K,X⟩
   .unfold qN;rw[o];simp only[gY.rk];rw[if_neg Z,Nat.add_sub_cancel,C];simp only[gF.rk];have hm:F.n+3000<=(F.n+3000)*(F.q+3-r):=â _ (by
     have a:=H.C.N;rcases Nat.eq_zero_or_pos r with l|l
     .omega
     .have K:=(tj (r-1)).1 Z;have:(r-1)*1<=(r-1)*F.n:=ï _ a;omega)
    omega
  .rw[show decide (j<E.M.iV F.n)=É by simpa using o7]at D;obtain⟨gs',g',O,f,Q,V,I,W⟩:=p.I.aeI M iB sj ht NT D;refine⟨E,S,tr,d,lot,gs',w,#[],O,f,λh=>h,.r p.N (f.trans p.b) (by rwa[Ú]) (by rw[f];exact p.a) p.M p.C (by rw[Ú];exact p.d) (λk y b l=> ?_) (by rw[Ú];exact p.f),NH (λ_ _=>rfl) vS (by rw[CB M,if_pos iB]) (by rw[CB Q,if_neg (by rw[V];simp)]) λk b=>NP<|I k b⟩;by_cases e:k=F.L+1+j
   .subst e;exact Á ⟨j,t,o,U,Á ⟨r,F.q,s,r,C,D⟩⟩
   .rw[I k e]at b;exact p.c k y b l
end
section
variable{F:Ph}{E E':fN F}{S:Nat->Jd}{tr v:Nat->gh}{m:Nat->ik}{f:Nat->e5}{gs gs':Array Ä}{u:ä}{o:Option (Nat×Nat)}
def Ai(ok:F.Ok)(x:Nat):(F.L+x==0)=É:=by have:=ok.r;simp;omega
def FE(a:i<E.r):xY E (F.L+i):=Á ⟨i,a,U⟩
def PI.Aj(p:PI F n zX E S tr m f gs w qJ){x:Nat}{e:gY}(b:x<E.r)(c:E.N x=Ã e)(d:gs[F.L+x]?=Ã g)(h:g.status=Å)(i:tr (F.L+x)=.fu):∀a,fD (f<|F.L+x) (f<|F.L+x).w a->JE F e {f (F.L+x)with w:=a} g:=by let⟨k,j,_⟩:=p.k x e b c;intro a r;have:=p.I.N d h i (À j) a r;simp_all
theorem NY(B:fc F E gs w){x:Nat}{e:gY}(c:∀k y,gs[k]?=Ã y->y.status=Ü->k≠F.L+x):fc F (fv.gO E x e) gs w:=by
 intro k y a b;have h:=c k y a b;rcases B k y a b with h1|⟨j,d,i,f,g⟩
 .exact À h1
 .refine Á ⟨j,d,?_,f,g⟩;show fq E.N x (Ã e) (j+1)=Í;grind [fC]
theorem PI.afz(H:gL F)(p:PI F n zX E S tr m f gs w qJ)(V:J<E.r)(s:E.N J=Ã .n7)(D:gs[F.L+J]?=Ã g)(X:g.status=Å)(ht:tr (F.L+J)=.fu):qM F n zX E tr gs w qJ:=by
 have G:=iG D;have C:=p.I.r;have NV:¬E.ie J:=λ⟨e,c,d⟩=>by rw[s]at c;cases c;exact d
 have NW:gY.ie (.fU .jq)↔E.ie J:=⟨λh=>h.elim,λh=>(NV h).elim⟩;have yb:iJ F.S (λi=>i<gs.size) E.Y (gf f (F.L+J)<|ki {f (F.L+J)with w:=w}) w qJ:= C.C G (λ_ q=>q.elim) (λ_ q=>q.elim) (λ_ q=>q.elim) (λ_ q=>q.elim) U U U (λ_ q=>q.elim) λ_ q=>q.elim;have hF:kJ F.P (F.L+J==0) (JE F<|.fU .jq) .fu (ki {f (F.L+J)with w:=w}) g:=by rw[Ai H.C J];intro l T;let⟨W,a,b,j,k⟩:=p.Aj V s D X ht w<|C.r _ G;exact⟨W,a,b,j,k.jM T⟩
 refine⟨fv.gO E J<|.fU .jq,_,_,_,_,λh=>h,.r (p.N.G H.C λ⟨N,h⟩=>by cases h) p.b (p.I.M (K:=.no) D (À X) yb hF) ?_ p.M.gO (p.C.gO V (by rw[s];rfl) (λT h=>by rw[s]at h;cases h) (λT h W=>by cases h;exact⟨fg,fg,fg⟩) (λj h=> ?_) λh=>(p.C.f<|by rw[<-h,s];simp)) (p.d.G NW) (NY p.c λk y W z e=> ?_) p.f,CG H.C (p.G G)<|À ?_⟩
 .have L:=p.a;have B:(gf f (F.L+J)<|ki {f (F.L+J)with w:=w}) (F.L+J)=ki {f (F.L+J)with w:=w}:=gN _ _ _;have l:∀k,k≠F.L+J->(gf f (F.L+J)<|ki {f (F.L+J)with w:=w}) k=f k:=λk W=>gA f _ W;have h0:(0:Nat)≠F.L+J:=by have:=H.C.r;omega
  have I:∀k a,(gf f (F.L+J) (ki {f (F.L+J)with w:=w}) k).r a->(f k).r a:=λk a h=>by
   by_cases q:k=F.L+J
   .subst q;rw[B]at h;exact h.elim
   .grind
  have sO:∀k a,(gf f (F.L+J) (ki {f (F.L+J)with w:=w}) k).O a->(f k).O a:=λk a h=>by
   by_cases q:k=F.L+J
   .subst q;rw[B]at h;exact h.elim
   .grind
  have ee:(fv.gO E J<|.fU .jq).N J=Ã (.fU .jq):=gw _ _ _;have v:∀y,y≠J->(fv.gO E J<|.fU .jq).N y=E.N y:=λy M=>fC _ _ M;refine⟨λk W a u=> ?_,λy c d a u=>by rw[l 0 h0];exact L.o y c d a u,λh=>by rw[l 0 h0];exact L.ll h,λh k c d=> ?_,λc d=> ?_,λj c d r t Q=> ?_,λj c d=> ?_,λy M=> ?_,λi o=> ?_,λk c d=>by rw[l k Z];exact L.c k c d,λk W b z=>⟨(L.I k W b z).1,(L.I k W b z).2.1,λi o h=>(L.I k W b z).2.2 i o<|sO _ _ h⟩,λk W i o h=>L.N k W i o<|I _ _ h,λk c d i o h=>L.g k c d i o<|I _ _ h,λj c r d t i o h=>L.d j c r d t i o<|I _ _ h⟩
  .by_cases q:k=F.L+J
   .subst q;rw[B]at u;rcases u with h|h<;>exact h.elim
   .rw[l k q]at u;exact L.gM k W a u
  .by_cases q:F.L=F.L+J
   .have Wt:J=0:=Z
    subst Wt;have:=p.C.f (by rw[s];simp);have T:E.S.md<k:=c;rw[this]at T;simp only[ji.md]at T;omega
   .rw[l _ q];exact L.e h k c d
  .by_cases q:F.L=F.L+J
   .grind
   .rw[l _ q];exact L.f c<|by rwa[<-v 0 Z]
  .by_cases q:F.L+1+j=F.L+J
   .grind
   .rw[l _ q];exact L.h j c (by rwa[<-v (j+1) Z]) r t Q
  .by_cases q:F.L+1+j=F.L+J
   .grind
   .rw[l _ q];exact L.l j c<|by rwa[<-v (j+1) Z]
  .by_cases q:F.L+y=F.L+J
   .rw[q,B];rfl
   .rw[l _ q];exact L.S y (by let⟨T,c,d⟩:=M;exact⟨T,by rwa[<-v y Z],d⟩)
  .by_cases q:i=F.L+J
   .subst q;rcases o with q|⟨y,c,d,t⟩
    .grind
    .have:y=J:=Z
     subst this;exact absurd ⟨_,ee,trivial⟩ t
   .rw[l _ q];refine L.M i<|o.imp id λ⟨y,c,d,t⟩=>⟨y,c,d,λ⟨T,Q,h5⟩=>t ⟨T,by rwa[v y Z],h5⟩⟩
 .have:=p.C.l j Z (by rw[<-h,s];simp);exact this
 .grind
 .unfold qN;rw[s];simp only[gY.rk,ju.rk];omega
def Ak(E:fN F)(x:Nat)(e:gY)(G:GS)(a:Option Nat):fN F:={fv.gO E x e with b:=G,g:=a}
theorem Ps.FF(h:Ps F E){e:gY}{G:GS}{la:Option Nat}(v:i<E.r)(D:∃w,E.N i=Ã w)(O:∀y,y≠i->∀p,E.N y=Ã (.fU p)->∀W,p≠ .gp W/\p≠ .iT W/\p≠ .il W) (H:∀c d,G=.cl c d->c=Ñ (F.n+1) (fv.gO E i e).G/\d=E.M.gu) (I:∀d,G=.jr d->Ñ (F.n+1) (fv.gO E i e).G=0/\d=E.M.gu/\la=Ã i/\(e=.fU (.gp d)\/e=.fU (.iT d))) (J:∀r s,G=.gQ r s->Ñ (F.n+1) (fv.gO E i e).G=0/\r+s=E.M.gu/\(0<r->la=Ã i/\e=.fU (.il r))) (K:∀p,e=.fU p->(∀W,p=.gp W\/p=.iT W->la=Ã i/\G=.jr W)/\(∀r,p=.il r->0<r/\la=Ã i/\∃s,G=.gQ r s)) (L:E.M=.ft .gp\/E.M=.ft .kK\/E.M=.fU->Ñ (F.n+1) (fv.gO E i e).G=0) (M:E.M=.ft .gp->∃a b,G=.gQ a b) (N:(∀p,E.M≠ .ft p)->E.M≠ .fU->∃c,G=.cl c 0):Ps F (Ak E i e G la):=by
 have l:∀y,y≠i->(Ak E i e G la).N y=E.N y:=λy f=>fC _ _ f;have m:(Ak E i e G la).N i=Ã e:=gw _ _ _;let⟨w,z⟩:=D;refine⟨h.v,h.C,h.K,h.L,h.J,h.I,h.z,h.d,λj B g=> ?_,λg=> ?_,λy f=> ?_,h.M,h.o,H,λd o=> ?_,λr s o=> ?_,λy p f=> ?_,L,h.e,h.Y,h.w,h.H,M,N,h.y,h.D⟩
 .by_cases q:j+1=i
  .exact h.l j B<|by rw[q,z];simp
  .rw[l _ q]at g;exact h.l j B g
 .by_cases q:0=i
  .exact h.f<|by rw[q,z];simp
  .rw[l _ q]at g;exact h.f g
 .have:E.r<=y:=f;rw[l y Z];exact h.h y f
 .let⟨t,u,k,C⟩:=I d o;exact⟨t,u,i,v,k,by rw[m];exact C.imp (λq=>by rw[q]) λq=>by rw[q]⟩
 .let⟨t,u,k⟩:=J r s o;exact⟨t,u,λC=>⟨i,v,(k C).1,by rw[m,(k C).2]⟩⟩
 .by_cases q:y=i
  .subst q;rw[m]at f;exact K p<|È f
  .grind
def afA{G:GS}(a:gT W F.C G)(h:Wd F {E with b:=G,a:=E.a} W){x:Nat}{e:gY}{b:Option Nat}:Wd F (Ak E x e G b) W:=⟨a,h.I,h.jv,h.M,h.S,h.N⟩
theorem PI.FG(H:gL F)(p:PI F n zX E S tr m f gs w qJ){x:Nat}{a e:gY}{G:GS}{la:Option Nat}{c:Ä}{T:gh}(hx:x<E.r)(d:E.N x=Ã a)(t:a.ie)(I:e.ie)(J:e.nI)(v:gs[F.L+x]?=Ã g)(z:kl F.C w W)(B:gT W F.C G)(K:Ŏ F.P (ð gs w o) (F.L+x)=(ğ<|ð gs' W o,u))(C:gs'.size=gs.size)(M:gs'[F.L+x]?=Ã c)(O:c.status=Å\/c.status=å)(Q:∀k,k≠F.L+x->gs'[k]?=gs[k]?.map (Ā F.P g c W)) (X:gD F.P F.S E.Y (fq S (F.L+x)<|JE F e) (fq tr (F.L+x) T) (fq m (F.L+x) .no) (gf f (F.L+x) {f (F.L+x)with w:=W}) gs' W (qJ++u)) (q6:TI F.toFx n zX E.r E.S.rl E.V E.e E.d E.ie E.f (qJ++u)) (q7:iw F E (gf f (F.L+x) {f (F.L+x)with w:=W}) gs'.size W) (hT:(∃N,e=.jf N)->T=.fu) (hP:Ps F (Ak E x e G la)) (Wu:(e.rk F).1<(a.rk F).1\/((e.rk F).1=(a.rk F).1/\(e.rk F).2<(a.rk F).2)) (Fz:E.M=.ft .kh->E.b.sm=0->G.sm=0\/∀y,gs'[0]?=Ã y->y.status≠Ü):jN F n zX E tr gs w qJ o (F.L+x):=by
 have D:F.M F.C:=À U;refine⟨Ak E x e G la,_,_,_,_,gs',W,u,K,C,λh=>h,.r ?_ (C.trans p.b) X ?_ (afA B<|z.I H p.a p.C p.M D ⟨λ_=>B,λq=>absurd U q⟩ λk b=>⟨λq=>absurd q.symm<|H.C.M k b,λ_=>rfl⟩) hP (q6.G<|⟨λ_=>⟨a,d,t⟩,λ_=>I⟩) ?_ λj r b l s=>(p.f j r b l s).app u,?_⟩
 .have:=p.N.G (x:=x) H.C hT;exact⟨this.M,this.Y,this.I,this.C,this.r⟩
 .have:=q7.gO (⟨λ_=>V3 ⟨a,d,t⟩,λ_=>J⟩);exact⟨this.gM,this.o,this.ll,this.e,this.f,this.h,this.l,this.S,this.M,this.c,this.I,this.N,this.g,this.d⟩
 .refine p.c.pX (E':=Ak E x e G la) M (by rcases O with q|q<;>rw[q]<;>simp) Q (λj i=>z.C p.C D i) U U (λy i=>fC _ _ Z) (λ_=>rfl) (λ_ _=>rfl) (λ_ i j=>Fz i j) λ_ _ _ _ h=>À h
 .have j:qN F E x=a.rk F:=by unfold qN;rw[d]
  have:=CG (E:=E) (tr:=tr) (gs:=gs) (gs':=gs') (T:=T) H.C (p.G<|iG v) (by rwa[j]);rcases this with⟨i,b,l,s⟩|⟨b,_⟩
  .exact À ⟨i,b,l,s⟩
  .exfalso;have:=b _<|p.G<|iG v;change(fv.gO E x e).iK (fq tr (F.L+x) T) (F.L+x)=E.iK tr (F.L+x)at this;rw[I5 H.C (E:=fv.gO E x e)<|gw _ _ _,I5 H.C d]at this;grind
theorem afB(h:V=#[kg<|fG F.C,mq<|fG F.C]\/V=#[kg<|fG F.C]\/V=#[mq<|fG F.C]\/V=õ (gP F.C)):∀e∈V,∀b,(Ë e).touch?=Ã b->∃y:Č,b.loc=ú y/\y.block=F.C:=by
 intro e c b g;have:∃x:Č,x.block=F.C/\(e.loc=ú x\/e.loc=ŭ ô\/e.loc=ŭ î):=by
  rcases h with rfl|rfl|rfl|rfl
  .simp at c;rcases c with rfl|rfl<;>exact⟨fG F.C,U,À U⟩
  .simp at c;subst c;exact⟨fG F.C,U,À U⟩
  .simp at c;subst c;exact⟨fG F.C,U,À U⟩
  .simp[õ]at c;rcases c with rfl|rfl|rfl|rfl
   .exact⟨gP F.C,U,Á<|À U⟩
   .exact⟨gP F.C,U,À U⟩
   .exact⟨gP F.C,U,À U⟩
   .exact⟨gP F.C,U,Á<|Á U⟩
 let⟨x,i,a⟩:=this;let⟨j,d,f⟩:=e;rcases a with a|a|a
 .simp only at a;subst a;have:(Ë ⟨ú x,d,f⟩).touch?=Ã ⟨ú x,d,if f then .atomic else .plain⟩:=by cases d<;>cases f<;>rfl
  grind
 .simp only at a;subst a;simp[Ë,Ċ]at g
 .simp only at a;subst a;simp[Ë,Ċ]at g
def FH(p:PI F n zX E S tr m f gs w qJ)(a:F.L+i<gs.size)(c:(f<|F.L+i).d=1)(h:V=#[kg<|fG F.C,mq<|fG F.C]\/V=#[kg<|fG F.C]\/V=#[mq<|fG F.C]\/V=õ (gP F.C)): ∀y,E.ie y->F.L+i=F.L+y->(∀e∈V,∀b,(Ë e).touch?=Ã b->∃y:Č,b.loc=ú y/\y.block=F.C)/\z8 (κ qJ<|F.L+i) V:=by
 intro y _ _;refine⟨afB h,?_⟩;rw[p.I.r.f _ a,c];rcases h with rfl|rfl|rfl|rfl
 .exact I6.1
 .exact I6.2.1
 .exact I6.2.2.1
 .exact I6.2.2.2
def PI.afC(H:gL F)(p:PI F n zX E S tr m f gs w qJ){x:Nat}(i:x<E.r)(a:E.N x=Ã (.fU .jq))(k:gs[F.L+x]?=Ã g)(G:g.status=Å)(I:tr (F.L+x)=.fu):jN F n zX E tr gs w qJ o (F.L+x):=by
 have s:=iG k;have C:=p.I.r;let⟨J,_,g',c,d⟩:=p.Aj i a k G I w<|C.r _ s;have t:=Ai H.C x;have u:∀y:Ă,y.act=ė (Į<|fG F.C)->y.act.touch?=Í:=λy b=>by rw[b];rfl
 let⟨T,K⟩:=jb d;have v:=kV (λl g h=>À h.2.1) d;obtain⟨gs',y,M,O,P,B,Q,V,X,Y⟩:=p.Af H .no k (by rw[t];exact c w) fg fg (λy b=>⟨λz l=>(by rw[u y b]at l;cases l),by rw[b];exact C.N _<|À<|À U⟩) (λy _ b=>zR C.l λq j=>by rw[vT j];exact u y b) (by rwa[t]) v;have D:=p.d.aeU i M O ((C.f _ s).trans J) (λ⟨e,c,d⟩=>by rw[a]at c;cases c;exact d);refine⟨{fv.gO E x (.fU .iu)with f:=fq E.f x qJ.size},_,_,_,_,gs',w,#[y],P,B,λh=>h,.r ?_ (B.trans p.b) X ?_ (⟨p.M.C,p.M.I,p.M.jv,p.M.M,p.M.S,p.M.N⟩) ?_ ?_ ?_ λj r q W a3=>(p.f j r q W a3).app _,CG H.C (p.G s)<|À ?_⟩
 .have:=p.N.G (x:=x) (e:=.fU .iu) (T:=T) H.C (λ⟨N,h⟩=>by cases h);exact⟨this.M,this.Y,this.I,this.C,this.r⟩
 .have:=Y.gO (x:=x) (e:=.fU .iu) (⟨λ_=>⟨_,a,trivial⟩,λ_=>trivial⟩);exact⟨this.gM,this.o,this.ll,this.e,this.f,this.h,this.l,this.S,this.M,this.c,this.I,this.N,this.g,this.d⟩
 .have h:=p.C.gO (x:=x) (e:=.fU .iu) i (by rw[a];rfl) (λq h W=>by rw[a]at h;cases h;exact⟨fg,fg,fg⟩) (λq h W=>by cases h;exact⟨fg,fg,fg⟩) (λj h=>p.C.l j Z<|by rw[<-h,a];simp) (λh=>p.C.f<|by rw[<-h,a];simp);exact⟨h.v,h.C,h.K,h.L,h.J,h.I,h.z,h.d,h.l,h.f,h.h,h.M,h.o,h.t,h.g,h.u,h.N,h.B,h.e,h.Y,h.w,h.H,h.O,h.S,h.y,h.D⟩
 .refine{D with r:=λz l j=>D.r z l ?_};by_cases q:z=x
  .exact Á q
  .exact À<|(Wp q).1 j
 .refine p.c.pX (E':={fv.gO E x (.fU .iu)with f:=fq E.f x qJ.size}) Q (by rcases v with q|q<;>rw[q]<;>simp) V (λ_ _=>rfl) U U (λy b=>fC _ _ Z) (λ_=>rfl) (λ_ _=>rfl) (λ_ _ h=>À h) λ_ _ _ _ h=>À h
 .unfold qN;rw[a];simp only[gY.rk,ju.rk];omega
end
section
variable{F:Ph}{E K:fN F}{S:Nat->Jd}{o M:Nat->gh}{G:Nat->ik}{B:Nat->e5}{m J:Array Ä}{u:ä}{I:Option (Nat×Nat)}
def Wv{N:Nat}{l:e5}(h:Ź P N l.d g):kJ P É (oJ P N) .fu l g:=λ_ _=>h
def Ww(a:Ps F E):E.r<=E.M.ad F.n:=by unfold fN.r;cases E.M<;>simp only[fP.sp,fP.ad]<;>omega
theorem FI(b:Ps F E){e:gY}(d:i<E.r):Ñ (F.n+1) (fv.gO E i e).G+lE (E.N i)=Ñ (F.n+1) E.G+e.kz:=by
 have g:=Ww b;have h:=Ct b;have:=vR (f:=E.G) (f':=(fv.gO E i e).G) (j:=i) (n:=F.n+1) Z (λa c=>by unfold fN.G;show(if a<E.M.ad F.n then lE (fq E.N i (Ã e) a)else 0)=_;rw[fC _ _ c]);have a:E.G i=lE (E.N i):=by unfold fN.G;rw[if_pos Z]
 have c:(fv.gO E i e).G i=e.kz:=by unfold fN.G;show(if i<E.M.ad F.n then lE (fq E.N i (Ã e) i)else 0)=_;rw[if_pos Z,gw];rfl
 grind
theorem Wx(a:Ps F E)(h:E.b=.cl i n):∀y p,E.N y=Ã (.fU p)->∀W,p≠ .gp W/\p≠ .iT W/\p≠ .il W:=by intro y p b W;let⟨d,e⟩:=a.N y p b;grind
theorem NZ(a:Ps F E)(h:E.g=Ã i):∀y,y≠i->∀p,E.N y=Ã (.fU p)->∀W,p≠ .gp W/\p≠ .iT W/\p≠ .il W:=by intro y c p b W;let⟨d,e⟩:=a.N y p b;grind
def PI.afD(p:PI F n zX E S o G B m w qJ)(e:i<E.r)(d:E.N i=Ã (.fU .iu)):∃c a,E.b=.cl (c+1) a/\c+1=Ñ (F.n+1) E.G/\a=E.M.gu/\¬(E.M=.ft .gp\/E.M=.ft .kK\/E.M=.fU):=by
 have g:1<=Ñ (F.n+1) E.G:=by
  have q:=Ww p.C;have r:=Ct p.C;have:=ND (f:=E.G) (j:=i) (n:=F.n+1) Z;have s:E.G i=1:=by unfold fN.G;rw[if_pos Z,d];rfl
  omega
 obtain⟨c,a,b⟩:∃c a,E.b=.cl (c+1) a:=by
  cases q:E.b with
  |cl c a=>
   have:=(p.C.t c a q).1;exact⟨c-1,a,by congr 1;omega⟩
  |jr a=>have:=(p.C.g a q).1;omega
  |gQ r s=>have:=(p.C.u r s q).1;omega
 let⟨r,s⟩:=p.C.t _ _ b;exact⟨c,a,b,r,s,λq=>by have:=p.C.B q;omega⟩
theorem PI.afE(H:gL F)(p:PI F n zX E S o G B m w qJ)(f:i<E.r)(v:E.N i=Ã (.fU .iu))(z:m[F.L+i]?=Ã g)(iB:g.status=Å)(ht:o (F.L+i)=.fu)(hc:E.b=.cl (j+1) k)(FJ:j+1=Ñ (F.n+1) E.G)(Wy:k=E.M.gu)(FK:¬(E.M=.ft .gp\/E.M=.ft .kK\/E.M=.fU))(hl:j=0/\0<k):jN F n zX E o m w qJ I (F.L+i):=by
 have t:=iG z;have C:=p.I.r;let⟨hd,_,tq⟩:=p.Aj f v z iB ht w<|C.r _ t;have mc:=Ai H.C i;have Q:F.M F.C:=À U;have K:=hc▸p.M.C;let⟨ev,V⟩:=K.jz;have X:=tq (GS.cl (j+1) k).st;rw[ev]at X V;obtain⟨d,M⟩:∃d,(GS.jz<|.cl (j+1) k).st=d:=⟨_,U⟩;rw[M]at X;let⟨g',h1,h2⟩:=X;have Y:=h1 w K.C K.I;rw[<-M]at Y;let⟨k1,k2,k3⟩:=K.r;have O:kl F.C w (w.setCell (fG F.C)<|ë Ó (GS.jz<|.cl (j+1) k).st):=Á ⟨_,_,À U,U⟩;have D:=O.r p.a H.C Q;have vV:fD {B (F.L+i)with w:=w} w (w.setCell (fG F.C)<|ë Ó (GS.jz<|.cl (j+1) k).st):=⟨Ô D.r.symm,λb kA=>D.jF b<|C.I _ t b kA,λa ha=>D.M _ t a ha,λa ha=>D.N _ t a ha,λa _=>D.I a⟩;have ed:GS.jz (.cl (j+1) k)=.jr k:=by simp only[GS.jz,if_pos hl]
 rw[ed]at Y V O D vV M;have hW:fe F.P É (IW F.P É F.C (Fi F) k) {B (F.L+i)with w:=w} g':=by
  have r:d=(k:Int):=M.symm;have l:¬(d=0\/(fS<=d/\d<1000000*fS/\d%fS<1000000)):=by simp only[fS];omega
  grind
 let⟨T,hT⟩:=jb<|hW.jM vV;have mI:=kV (λl g h=>À h.2.1) hW;obtain⟨J,u,l,q2,q3,q4,q5,q6,q7⟩:=p.Y H .no z (FE f) Q (by rwa[mc]) O (Aa Q) U (FH p t hd<|À U) (by rwa[mc]) mI;have yf:=FI p.C (e:=.fU (.gp k)) f;rw[v]at yf;refine p.FG H (e:=.fU (.gp k)) (la:=Ã i) f v trivial trivial trivial z O V l q2 q3 mI q4 q5 q6 q7 (λ⟨N,h⟩=>by cases h) (p.C.FF f ⟨_,v⟩ (λy _ q r W=>Wx p.C hc y q r W) (λy r h=>by cases h) (λr h=> ?_) (λr s h=>by cases h) (λq h=> ?_) (λq=>absurd q FK) (λq=>absurd (À q) FK) λl q2=> ?_) (À ?_) λ_ _=>À rfl
 .injection h with h;subst h;exact⟨(by simp only[lE,gY.kz,ju.kz]at yf;omega),Wy,U,À U⟩
 .grind
 .let⟨y,r⟩:=p.C.S l q2;grind
 .simp only[gY.rk,ju.rk];grind
theorem PI.afF(H:gL F)(p:PI F n zX E S o G B m w qJ)(f:i<E.r)(t:E.N i=Ã (.fU .iu))(v:m[F.L+i]?=Ã g)(iB:g.status=Å)(ht:o (F.L+i)=.fu)(hc:E.b=.cl (j+1) k)(FJ:j+1=Ñ (F.n+1) E.G)(Wy:k=E.M.gu)(FK:¬(E.M=.ft .gp\/E.M=.ft .kK\/E.M=.fU))(hl:¬(j=0/\0<k)):jN F n zX E o m w qJ I (F.L+i):=by
 have l:=iG v;have C:=p.I.r;let⟨hd,_,tq⟩:=p.Aj f t v iB ht w<|C.r _ l;have mc:=Ai H.C i;have O:F.M F.C:=À U;have z:=hc▸p.M.C;let⟨ev,P⟩:=z.jz;have Q:=tq (GS.cl (j+1) k).st;rw[ev]at Q P;obtain⟨d,K⟩:∃d,(GS.jz<|.cl (j+1) k).st=d:=⟨_,U⟩;rw[K]at Q;let⟨g',h1,h2⟩:=Q;have T:=h1 w z.C z.I;rw[<-K]at T;let⟨k1,k2,k3⟩:=z.r;have M:kl F.C w (w.setCell (fG F.C)<|ë Ó (GS.jz<|.cl (j+1) k).st):=Á ⟨_,_,À U,U⟩;have D:=M.r p.a H.C O;have vV:fD {B (F.L+i)with w:=w} w (w.setCell (fG F.C)<|ë Ó (GS.jz<|.cl (j+1) k).st):=⟨Ô D.r.symm,λb kA=>D.jF b<|C.I _ l b kA,λa V=>D.M _ l a V,λa V=>D.N _ l a V,λa _=>D.I a⟩;have ed:GS.jz (.cl (j+1) k)=.cl j k:=by simp only[GS.jz,if_neg hl]
 rw[ed]at T P M D vV K;obtain⟨N,hN⟩:Fi F {B (F.L+i)with w:=w} g':=by
  have q:d=(j:Int)*fS+(k:Int):=K.symm;have h:d=0\/(fS<=d/\d<1000000*fS/\d%fS<1000000):=by simp only[fS]at q|-;omega
  grind
 have mI:=hN.status;obtain⟨J,u,X,Y,q3,q4,q5,q6,q7⟩:=p.Y H .no v (FE f) O (by rwa[mc]) M (Aa O) U (FH p l hd<|À U) (by rw[mc];exact Wv hN) mI;have yf:=FI p.C (e:=.jf N) f;rw[t]at yf;have hz:Ñ (F.n+1) (fv.gO E i<|.jf N).G=j:=by simp only[lE,gY.kz,ju.kz]at yf;omega
 refine p.FG H (e:=.jf N) (la:=E.g) f t trivial trivial trivial v M P X Y q3 mI q4 q5 q6 q7 (λ_=>rfl) (p.C.FF f ⟨_,t⟩ (λy _ q h W=>Wx p.C hc y q h W) (λy r h=> ?_) (λr h=>by cases h) (λr s h=>by cases h) (λq h=>by cases h) (λq=>absurd q FK) (λq=>absurd (À q) FK) λX Y=> ?_) (À ?_) λ_ _=>À rfl
 .grind
 .let⟨y,h⟩:=p.C.S X Y;grind
 .simp only[gY.rk,ju.rk];omega
def PI.afG(H:gL F)(p:PI F n zX E S o G B m w qJ)(a:i<E.r)(b:E.N i=Ã (.fU .iu))(d:m[F.L+i]?=Ã g)(e:g.status=Å)(f:o (F.L+i)=.fu):jN F n zX E o m w qJ I (F.L+i):=by
 let⟨c,r,h,j,k,l⟩:=p.afD a b;by_cases q:c=0/\0<r
 .exact p.afE H a b d e f h j k l q
 .exact p.afF H a b d e f h j k l q
theorem PI.afH(H:gL F)(p:PI F n zX E S o G B m w qJ)(c:i<E.r)(d:E.N i=Ã (.fU (.gp j)))(f:m[F.L+i]?=Ã g)(O:g.status=Å)(P:o (F.L+i)=.fu):jN F n zX E o m w qJ I (F.L+i):=by
 have y:=iG f;let⟨Q,_,V⟩:=p.Aj c d f O P w<|(p.I.r).r _ y;have z:=Ai H.C i;have C:F.M F.C:=À U;let⟨X,k⟩:=(p.C.N i _ d).1 j<|À U;have D:=k▸p.M.C;let⟨g',Y,t⟩:=V (j:Int);simp only[if_true]at t;let⟨T,hT⟩:=jb t;have K:=kV (λl g h=>À h.2.1) t;obtain⟨J,u,l,v,q3,q4,q5,q6,q7⟩:=p.Y H .no f (FE c) C (by rw[z];exact Y w D.C) (À U) (xZ C) U (FH p y Q<|Á<|À U) (by rwa[z]) K;have M:=FI p.C (e:=.fU (.iT j)) c;rw[d]at M;let⟨b1,b2,_⟩:=p.C.g j k;have hz:Ñ (F.n+1) (fv.gO E i<|.fU (.iT j)).G=0:=by simp only[lE,gY.kz,ju.kz]at M;omega
 refine p.FG H (e:=.fU (.iT j)) (la:=E.g) c d trivial trivial trivial f (À U) D l v q3 K q4 q5 q6 q7 (λ⟨N,h⟩=>by cases h) (p.C.FF c ⟨_,d⟩ (NZ p.C X) (λc' a h=>by cases h) (λa h=> ?_) (λr s h=>by cases h) (λa h=> ?_) (λ_=>hz) (λq=> ?_) λl v=> ?_) (À ?_) λ_ h=>À rfl
 .grind
 .grind
 .let⟨a,b,h⟩:=p.C.O q;rw[k]at h;cases h
 .let⟨c',a⟩:=p.C.S l v;grind
 .simp only[gY.rk,ju.rk];omega
theorem PI.afI(H:gL F)(p:PI F n zX E S o G B m w qJ)(c:i<E.r)(d:E.N i=Ã (.fU (.iT j)))(k:m[F.L+i]?=Ã g)(P:g.status=Å)(Q:o (F.L+i)=.fu):jN F n zX E o m w qJ I (F.L+i):=by
 have f:=iG k;have C:=p.I.r;let⟨V,_,g',X,z⟩:=p.Aj c d k P Q w<|C.r _ f;have K:=Ai H.C i;have v:F.M F.C:=À U;let⟨Y,M⟩:=(p.C.N i _ d).1 j<|Á U;have t:=M▸p.M.C;have N0:=t.r.1;have y:kl F.C w (w.setCell (fG F.C)<|ë Ó 0):=Á ⟨_,_,À U,U⟩;have D:=y.r p.a H.C v;let⟨T,hT⟩:=jb (z.jM ⟨Ô D.r.symm,λb l=>D.jF b<|C.I _ f b l,λa h=>D.M _ f a h,λa h=>D.N _ f a h,λa _=>D.I a⟩);have O:=kV (λl g h=>by
  cases j with
  |zero=>omega
  |succ j=>exact À h.2.1) z
 obtain⟨J,u,a,b,q3,q4,q5,q6,q7⟩:=p.Y H .no k (FE c) v (by rw[K];exact X w _ t.C t.I) y (Wc v) U (FH p f V<|Á<|Á<|À U) (by rwa[K]) O;have l:=FI p.C (e:=.fU (.il j)) c;rw[d]at l;let⟨b1,b2,_⟩:=p.C.g j M;have hz:Ñ (F.n+1) (fv.gO E i<|.fU (.il j)).G=0:=by simp only[lE,gY.kz,ju.kz]at l;omega
 refine p.FG H (e:=.fU (.il j)) (la:=E.g) c d trivial trivial trivial k y t.VX a b q3 O q4 q5 q6 q7 (λ⟨N,h⟩=>by cases h) (p.C.FF c ⟨_,d⟩ (NZ p.C Y) (λc' q h=>by cases h) (λq h=>by cases h) (λr s h=> ?_) (λq h=> ?_) (λ_=>hz) (λq=>⟨j,0,rfl⟩) λa b=> ?_) (À ?_) λ_ h=>À rfl
 .grind
 .cases h;simp_all
 .let⟨c',q⟩:=p.C.S a b;grind
 .simp only[gY.rk,ju.rk];omega
def Wz(p:PI F n zX E S o G B m w qJ){a y:Ä}(d:mayWake F.P g=Ì)(f:a.status=Å)(i:m[k]?=Ã y)(j:G k=.il):(Ā F.P g a W y).status≠Ü:=by
 intro h;let⟨e,l⟩:=Fp h;let⟨g0,_,b,c,_⟩:=p.I.C k y i;rw[j]at b;cases b with
 |fY=>rw[l]at c;rcases c with q|q<;>cases q
 |ni r q=>
  unfold Ā at h;rw[if_pos (by simp[d,f])]at h;unfold ď at h;simp only[q]at h;cases h
def PI.afJ(H:gL F)(p:PI F n zX E S o G B m w qJ)(c:i<E.r)(d:E.N i=Ã (.fU (.il j)))(k:m[F.L+i]?=Ã g)(iB:g.status=Å)(ht:o (F.L+i)=.fu):jN F n zX E o m w qJ I (F.L+i):=by
 have f:=iG k;have C:=p.I.r;let⟨hr0,K,s,M⟩:=(p.C.N i _ d).2 j U;obtain⟨j,rfl⟩:∃O,j=O+1:=⟨j-1,Z⟩;let⟨hd,_,N4,g',Q,h1,h2⟩:=p.Aj c d k iB ht w<|C.r _ f;have mc:=Ai H.C i;have V:F.M F.C:=À U;have W:=M▸p.M.C;have X:kl F.C w (w.setCell (gP F.C)<|ë ç<|ç.wrap<|(GS.gQ (j+1) s).sm+1):=Á ⟨_,_,Á U,U⟩;have D:=X.r p.a H.C V;let⟨b1,b2,_⟩:=p.C.u _ _ M;obtain⟨e,T,hF,Y,yg,he3,WA⟩:∃(e:gY) (T:gh),kJ F.P É (JE F e) T {B (F.L+i)with w:=w.setCell (gP F.C) (ë ç<|ç.wrap<|(GS.gQ (j+1) s).sm+1)} g'/\(e.ie/\e.nI/\e.kz=0)/\((∃N,e=.jf N)->T=.fu)/\((e.rk F).1<((gY.fU<|.il (j+1)).rk F).1)/\((j=0/\∃N,e=.jf N)\/(0<j/\e=.fU (.il j))):=by
  cases j with
  |zero=>
   obtain⟨N,hN⟩:Fi F {B (F.L+i)with w:=w} g':=h2;exact⟨.jf N,.fu,Wv hN,⟨trivial,trivial,U⟩,λ_=>rfl,by simp only[gY.rk,ju.rk];omega,À ⟨U,N,U⟩⟩
  |succ j=>
   let⟨T,hT⟩:=jb (h2.jM ⟨Ô D.r.symm,λb kA=>D.jF b<|C.I _ f b kA,λa ha=>D.M _ f a ha,λa ha=>D.N _ f a ha,λa _=>D.I a⟩);have Wj:j+1+1+s<=1:=by rw[b2];cases E.M<;>simp only[fP.gu]<;>first|omega|(rename_i v;cases v<;>simp[jg.sf])
   omega
 obtain⟨J,u,q1,q2,q3,q4,q5,q6,q7⟩:=p.Y H .no k (FE c) V (by rw[mc];exact h1 w _ W.M W.N) X (Ft V) (Fu _).2.2.2 (FH p f hd<|Á<|Á<|Á U) (by rwa[mc])<|À Q;have yf:=FI p.C (e:=e) c;rw[d,Y.2.2]at yf;have hz:Ñ (F.n+1) (fv.gO E i e).G=0:=by simp only[lE,gY.kz,ju.kz]at yf;omega
 refine p.FG H (la:=E.g) c d trivial Y.1 Y.2.1 k X W.jq q1 q2 q3 (À Q) q4 q5 q6 q7 yg (p.C.FF c ⟨_,d⟩ (NZ p.C K) (λc' afK h=>by cases h) (λafK h=>by cases h) (λO s' h=> ?_) (λp' h=> ?_) (λ_=>hz) (λq=>⟨j,s+1,rfl⟩) λq1 q2=> ?_) (À he3) λhm _=>Á λy hy=> ?_
 .injection h with h l;subst h l;refine⟨hz,Z,λhr=>⟨K,?_⟩⟩;rcases WA with⟨q,_⟩|⟨_,q⟩
  .omega
  .exact q
 .subst h;rcases WA with⟨_,N,q⟩|⟨hr,q⟩
  .cases q
  .cases q;exact⟨λW' t=>(by rcases t with t|t<;>cases t),λO oB=>by cases oB;exact⟨hr,K,s+1,U⟩⟩
 .let⟨c',l⟩:=p.C.S q1 q2;rw[M]at l;cases l
 .have h0:(0:Nat)≠F.L+i:=by have:=H.C.r;omega
  rw[q4 0 h0]at hy;obtain⟨z,FL,rfl⟩:=Ù.1 hy;exact Wz p N4 Q FL<|by rw[p.h.2,hm];rfl
end
section
variable{F:Ph}{E E':fN F}{S:Nat->Jd}{f D:Nat->gh}{o:Nat->ik}{v:Nat->e5}{l z:Array Ä}{u:ä}{I:Option (Nat×Nat)}
def Al(ok:F.Ok):(F.L==0)=É:=by have:=ok.r;simp;omega
def CI(h:0<E.r):xY E F.L:=Á ⟨0,h,U⟩
def CJ(b:E.N 0=Í):∀x,E.ie x->F.L=F.L+x->False:=λx ⟨e,a,_⟩ h2=>by
 have:x=0:=Z
 subst this;rw[b]at a;cases a
def PI.Am(p:PI F n zX E S f o v l w qJ)(b:0<E.r)(c:E.N 0=Í)(d:l[F.L]?=Ã g)(e:g.status=Å)(h:f F.L=.fu):∀a,fD (v F.L) (v F.L).w a->JI F E.c E.S {v F.L with w:=a} g:=by let⟨j,i⟩:=p.m b c;intro a r;have:=p.I.N d e h (À i) a r;simp_all
theorem p6.Je(h:p6 F E S f o)(ok:F.Ok){ip:ji}{sg:Nat->F.γ}{T:gh}(c:E.N 0=Í):p6 F {E with S:=ip,c:=sg} (fq S F.L<|JI F sg ip) (fq f F.L T) (fq o F.L .no):=by
 have:=ok.r;refine⟨by rw[fC S _ Z,fC o _ Z];exact h.M,λa b=>by rw[gw,gw];exact⟨U,U⟩,λj a b=>by rw[fC S _ Z,fC o _ Z];exact h.I j a b,λy e a b=> ?_,λi a b=>by rw[fC S _ Z,fC o _ Z,fC f _ Z];exact h.r i a b⟩;have d:y≠0:=λq=>by grind
 rw[fC S _ Z,fC o _ Z,fC f _ Z];exact h.C y e a b
theorem Jf(ok:F.Ok){T:gh}(b:F.L<F.N)(i:E.N 0=Í)(c:E'.N=E.N)(d:E'.M=E.M)(e:E'.h=E.h)(g:E'.C=E.C)(h:E'.S.rk F<E.S.rk F):oK F.N (E'.mu (fq f F.L T) z) (E.mu f l):=by refine Fq b (À ?_) λk a=>xW (λ_=>by rw[d]) (λ_ _=>by rw[e]) (λ_=>by rw[c]) (λq=>absurd q a) (λ_ _=>by rw[g])<|fC f _ a;grind [V8]
theorem N5(B:fc F E l w)(i:E'.M=E.M)(b:E'.r=E.r)(c:E'.N=E.N)(m:E'.C=E.C)(n:E'.I=E.I)(o:E'.b=E.b)(p:E'.a=E.a):fc F E' l w:=by
 intro k y d e;rcases B k y d e with⟨q,a,f⟩|⟨j,g,h,a,f⟩
 .grind
 .refine Á ⟨j,by rwa[b],by rwa[c],a,?_⟩;grind
theorem Ps.Jg(h:Ps F E){ip:ji}{G:GS}(i:E.N 0=Í)(x:0<E.r)(l:∀c,(ip=.ky c->c<=F.m)/\(ip=.mk c->1<=c/\c<=F.m)/\∀p,ip=.dn c p->1<=c/\c<=F.m) (o:∀c,1<=c->c<=F.m->ip.od<c->fq E.a k G c=.cl 1 (Ñ F.n λj=>(E.C j).gu F j c)) (t:∀c,c<=F.m->c<=ip.od->(∃W,(ip=.dn c (.gp W)\/ip=.dn c (.iT W))/\fq E.a k G c=.jr W/\W=Ñ F.n λj=>(E.C j).gu F j c)\/(∃r s,ip=.dn c (.il r)/\0<r/\fq E.a k G c=.gQ r s/\r+s=Ñ F.n λj=>(E.C j).gu F j c)\/((∀p,ip≠ .dn c p)/\((fq E.a k G c=.cl 0 0/\(Ñ F.n λj=>(E.C j).gu F j c)=0)\/∃s,fq E.a k G c=.gQ 0 s/\s=Ñ F.n λj=>(E.C j).gu F j c))) (u:E.S.od<=ip.od) (v:(∃a b,E.a k=.gQ a b)->∃a b,G=.gQ a b) (y:G=.cl 1 0->E.d k=Í) {sg:Nat->F.γ} {V:Nat->Nat->Prop} (w:V 0=F.i) {pk:Nat->Nat}:Ps F {E with S:=ip,a:=fq E.a k G,c:=sg,V:=V,e:=pk}:=by
 refine⟨w,h.C,h.K,h.L,λq=> ?_,l,h.z,h.d,h.l,λq=>absurd i q,h.h,h.M,h.o,h.t,h.g,h.u,h.N,h.B,o,t,λj r d f=>Ø (h.w j r d f) u,λj r d f=> ?_,h.O,h.S,λc d f=> ?_,h.D⟩
 .have:E.r=0:=q;omega
 .have:=h.H j r d f;show∃a b,fq E.a k G _=_;by_cases e:F.r (j+r*F.n)=k
  .rw[e]at this|-;rw[gw];exact v this
  .grind [fC]
 .have g:fq E.a k G c=.cl 1 0:=f;by_cases e:c=k
  .grind [gw]
  .rw[fC _ _ e]at g;exact h.y c d g
def PI.afL(H:gL F)(p:PI F n zX E S f o v l w qJ)(D:0<E.r)(u:E.N 0=Í)(I:l[F.L]?=Ã g)(M:g.status=Å)(ht:f F.L=.fu)(t:E.S=.ky k):qM F n zX E f l w qJ:=by
 have B:=iG I;have C:=p.I.r;have O:=p.Am D u I M ht w<|C.r _ B;rw[t]at O;have WB:=(p.C.I k).1 t;have X:=Al H.C;have yb:iJ F.S (λi=>i<l.size) E.Y (gf v F.L {v F.L with w:=w}) w qJ:=C.C B (λ_ q=>q) (λb q=>À<|Á q) (λ_ q=>q) (λa q=>À<|Á q) U U U (C.m _ B)<|C.g _ B;have WC:=p.a.C (i:=F.L) (d:=(v F.L).d) (w0:=w)<|Ç _;have z:E.S.md=k:=by rw[t];rfl
 by_cases Ac:k<F.m
 .let⟨FM,An⟩:=p.M.M k (by rw[z];exact Ç _);let⟨r1,r2⟩:=p.a.f D u;rw[z]at r1 r2;let⟨o1,o2⟩:=p.a.e D (k+1) (by rw[z];omega) Ac;let⟨T,P⟩:=jb<|H.f k _ _ _ g Ac O (C.M B) FM An r2 r1 o1 o2 E.c U;have Q:=p.I.M (J:=JI F E.c<|.mk (k+1)) (T:=T) (K:=.no) I (À M) yb (by rwa[X]);have y:fq E.a 0 (E.a 0)=E.a:=by funext j;unfold fq;split<;>simp[*]
  refine⟨{E with S:=.mk (k+1)},_,_,_,_,λh=>h,.r (p.N.Je H.C (sg:=E.c) u) p.b Q ?_ ?_ ?_ ?_ (N5 p.c U U U U U U U) p.f,Jf H.C (p.G B) u U U U U ?_⟩
  .have L:=WC;exact⟨L.gM,L.o,L.ll,λa e b c=>L.e a e (by rwa[z]) c,λa b=>by have:=L.f a b;rwa[z]at this,L.h,L.l,L.S,L.M,L.c,λe b=>L.I e (by rwa[z]),λe b=>L.N e (by rwa[z]),λe a b=>L.g e a (by rwa[z]),L.d⟩
  .have W:=p.M;exact⟨W.C,W.I,W.jv,λe b=>W.M e (by rwa[z]),λe a b=>W.S e a (by rwa[z]),W.N⟩
  .have:=p.C.Jg (k:=0) (ip:=.mk (k+1)) (G:=E.a 0) (sg:=E.c) (V:=E.V) (pk:=E.e) u D (λe=>⟨λq=>(by cases q),λq=>(by cases q;exact⟨Z,Z⟩),λp q=>by cases q⟩) (λe a b c=> ?_) (λe a b=> ?_) (by rw[t];exact Ç _) id (λq=>p.C.y 0 (ò _) q) p.C.v
   .rwa[y]at this
   .rw[y];exact p.C.e e a b<|by rwa[t]
   .rw[y];rcases p.C.Y e a (by rwa[t])with⟨W,q,_⟩|⟨r,s,q,_⟩|q
    .rw[t]at q;rcases q with q|q<;>cases q
    .rw[t]at q;cases q
    .exact Á<|Á ⟨λp q=>(by cases q),q.2⟩
  .have:E.S.rl=(ji.mk<|k+1).rl:=by rw[t];rfl
   have a:=p.d;rwa[this]at a
  .rw[t];simp only[ji.rk];have:F.m+3-(k+1)=F.m+2-k:=Z
   rw[this];omega
 .have q:k=F.m:=Z
  subst q;let⟨T,P⟩:=jb<|H.h _ g O<|C.M B;have Q:=p.I.M (J:=JE F .n7) (T:=T) (K:=.no) I (À M) yb (by rwa[X]);have s:¬E.ie 0:=λ⟨e,a,_⟩=>by rw[u]at a;cases a
  have W:¬E.nI 0:=λ⟨e,a,_⟩=>by rw[u]at a;cases a
  refine⟨fv.gO E 0 .n7,_,_,_,_,λh=>h,.r (p.N.G (x:=0) H.C λ⟨N,h⟩=>by cases h) p.b Q (WC.gO ⟨λh=>h.elim,λh=>(W h).elim⟩) p.M.gO (p.C.gO D (by rw[u];rfl) (λb h=>by rw[u]at h;cases h) (λb h=>by cases h) (λj h=>by omega) λ_=>t) (p.d.G ⟨λh=>h.elim,λh=>(s h).elim⟩) (NY p.c λk y b c e=> ?_) p.f,CG H.C (p.G B)<|À ?_⟩
  .subst e;rw[ó,I]at b;obtain rfl:=È b;rw[M]at c;cases c
  .unfold qN;rw[u];simp only[gY.rk,if_true,t,ji.rk];have:F.m+2-F.m=2:=Z
   rw[this];omega
end
section
variable{F:Ph}{E E':fN F}{S:Nat->Jd}{o G:Nat->gh}{v:Nat->ik}{d:Nat->e5}{f B:Array Ä}{u:ä}{D:Option (Nat×Nat)}
def WE(ok:F.Ok)(a:k<=F.m):iW F.toFx k≠jd F i:=λe=>ok.C (by
 have:F.I k=F.Y:=by injection e
 rw[<-this];exact Á ⟨k,a,U⟩)
def afM(ok:F.Ok)(a:k<=F.m)(b:i<=F.m)(h:iW F.toFx k=iW F.toFx i):k=i:=ok.S k i a b<|by injection h
def afN(h:jd F i=jd F n):i=n:=by injection h
theorem PI.afO(H:gL F)(p:PI F n zX E S o v d f w qJ)(h0:0<E.r)(he:E.N 0=Í)(hi:f[F.L]?=Ã g)(iB:g.status=Å)(ht:o F.L=.fu)(B:E.S=.mk k):qM F n zX E o f w qJ:=by
 have y:=iG hi;have C:=p.I.r;have hJ:=p.Am h0 he hi iB ht w<|C.r _ y;rw[B]at hJ;let⟨k1,N⟩:=(p.C.I k).2.1 B;have D:E.S.md=k-1:=by rw[B];rfl
 let⟨M,z,hn,An,WG,hcell,hdone⟩:=hJ;let⟨o1,o2⟩:=p.a.e h0 k (by rw[D];omega) N;have yb:iJ F.S (λi=>i<f.size) E.Y (gf d F.L<|pd F {d F.L with w:=w} k) w qJ:=by
  refine C.C y (λ_ q=>q.elim) (λb q=>À q) (λ_ q=>q.1) (λa q=> ?_) U U U (λ_ q=>q.elim) λa c q=> ?_
  .rcases q with q|rfl|rfl
   .exact À<|Á q
   .exact À<|À o2
   .exact À<|À o1
  .rcases q with q|q|q
   .exact C.g _ y a c.1 q
   .exact c.2.1 q
   .exact c.2.2 q
 have hF:kJ F.P (F.L==0) (JI F (fq E.c k M)<|.dn k .jq) .fu (pd F {d F.L with w:=w} k) g:=by rw[Al H.C];intro J s;let⟨Q,X,W,a3,e⟩:=hdone;exact⟨Q,X,W,a3,e.jM s⟩
 have hG:fq E.a 0 (E.a 0)=E.a:=by funext j;unfold fq;split<;>simp[*]
 have Vn:∀l,l≠k->fq E.V k z l=E.V l:=λl h=>fC _ _ h;have Vs:fq E.V k z k=z:=gw _ _ _;refine⟨{E with S:=.dn k .jq,c:=fq E.c k M,V:=fq E.V k z},_,_,_,_,λh=>h,.r ?_ p.b (p.I.M (K:=.no) hi (À iB) yb hF) ?_ ?_ ?_ ?_ (N5 p.c U U U U U U U) p.f,Jf H.C (p.G y) he U U U U ?_⟩
 .have:=p.N.Je (ip:=.dn k .jq) (sg:=fq E.c k M) (T:=.fu) H.C he;exact⟨this.M,this.Y,this.I,this.C,this.r⟩
 .have L:=p.a;have G:(gf d F.L<|pd F {d F.L with w:=w} k) F.L=pd F {d F.L with w:=w} k:=gN _ _ _;have W:∀i,i≠F.L->(gf d F.L<|pd F {d F.L with w:=w} k) i=d i:=λi h=>gA d _ h;have WH:(0:Nat)≠F.L:=by have:=H.C.r;omega
  have N6:∀i a,(gf d F.L (pd F {d F.L with w:=w} k) i).r a->(d i).r a:=λi a h=>by
   by_cases q:i=F.L
   .subst q;rw[G]at h;exact h.1
   .grind
  have sO:∀i b,(gf d F.L (pd F {d F.L with w:=w} k) i).O b->(d i).O b/\i≠F.L:=λi b h=>by
   by_cases q:i=F.L
   .subst q;rw[G]at h;exact h.elim
   .grind
  have nOc:∀i,i<f.size->∀a,(a=jd F (F.b k)\/a=iW F.toFx k)->¬(gf d F.L (pd F {d F.L with w:=w} k) i).r a:=λi s a c h=>by
   by_cases q:i=F.L
   .subst q;rw[G]at h;rcases c with c|c
    .exact h.2.1 c
    .exact h.2.2 c
   .rw[W i q]at h;refine C.h i F.L s y q a h<|À ?_;grind
  refine⟨λi s a c=> ?_,λx t u a c=>by rw[W 0 WH];exact L.o x t u a c,λh=>by rw[W 0 WH];exact L.ll h,λh l t u=> ?_,λh ye=> ?_,λj hj ye r hr t=>by rw[W _ Z];exact L.h j hj ye r hr t,λj hj ye=>by rw[W _ Z];exact L.l j hj ye,λx Ag=> ?_,λi s=> ?_,λi t u=>by rw[W i Z];exact L.c i t u,λl I b hb=> ?_,λl I i s h=> ?_,λl t u i s h=> ?_,λj hj r hr t i s h=>L.d j hj r hr t i s<|N6 _ _ h⟩
  .by_cases q:i=F.L
   .subst q;rw[G]at c;rcases c with q|q|q|q
    .exact L.gM _ y a<|À q.1
    .exact L.gM _ y a<|Á q
    .exact Á ⟨_,H.C.Y.1 _ Z Z,q⟩
    .grind
   .rw[W i q]at c;exact L.gM i s a c
  .rw[G];have Ao:k<l:=t;let⟨J,q2⟩:=L.e h l (by rw[D];omega) u;exact⟨⟨J,WE H.C u,λe=>by have:=afM H.C u N e;omega⟩,⟨q2,λe=>by have:=H.C.pi l k Z u k1 N<|afN e;omega,λe=>WE H.C N e.symm⟩⟩
  .rw[G];show(pd F _ k).N (iW F.toFx k)/\∀b,fq E.V k z k b->(pd F _ k).I b;rw[Vs];exact⟨Á<|Á U,WG⟩
  .have:F.L+x≠F.L:=λq=>by
    have J:x=0:=Z
    subst J;let⟨e,t,_⟩:=Ag;grind
   rw[W _ this];exact L.S x Ag
  .by_cases q:i=F.L
   .subst q;rw[G];exact L.M _ s
   .rw[W _ q];exact L.M i s
  .have tu:l<=k:=I;by_cases q:l=k
   .subst q;have J:fq E.V l z l b:=hb;rw[Vs]at J;have hM:=WG b J;refine⟨C.fl _ y b hM,C.I _ y b hM,λi s h=> ?_⟩;let⟨Q,X⟩:=sO i b h;exact C.o i F.L s y X b Q hM
   .have J:fq E.V k z l b:=hb;rw[Vn l q]at J;let⟨Q,X,a3⟩:=L.I l (by rw[D];omega) b J;exact⟨Q,X,λi s h=>a3 i s (sO i b h).1⟩
  .have tu:l<=k:=I;by_cases q:l=k
   .grind
   .exact L.N l (by rw[D];omega) i s<|N6 _ _ h
  .have tu:l<=k:=u;by_cases q:l=k
   .grind
   .exact L.g l t (by rw[D];omega) i s<|N6 _ _ h
 .have W:=p.M;refine⟨W.C,W.I,W.jv,λl I=> ?_,λl t I=> ?_,W.N⟩
  .have tu:l<=k:=I;show mL F l (fq E.c k M l)/\F.d l (fq E.c k M l) (fq E.V k z l) w;by_cases q:l=k
   .subst q;rw[gw,gw];refine⟨?_,An⟩;have:=(W.M (l-1)<|by rw[D];exact Ç _).1;have u:=mL.Cp this hn;grind
   .rw[fC _ _ q,fC _ _ q];exact W.M l<|by rw[D];omega
  .have tu:l<=k:=I;by_cases q:l=k
   .subst q;exact hcell
   .exact W.S l t<|by rw[D];omega
 .have:=p.C.Jg (ip:=.dn k .jq) (sg:=fq E.c k M) (V:=fq E.V k z) (pk:=E.e) he h0 (λl=>⟨λq=>(by cases q),λq=>(by cases q),λp q=>by cases q;exact⟨k1,N⟩⟩) (λl a b c=> ?_) (λl a b=> ?_) (by rw[B];exact Ç _) id (λq=>p.C.y 0 (ò _) q)<|by rw[Vn 0 Z];exact p.C.v
  .grind
  .rw[hG];exact p.C.e l a b<|by rwa[B]
  .rw[hG];have J:l<=k-1:=b;rcases p.C.Y l a (by rwa[B])with⟨W,q,_⟩|⟨r,s,q,_⟩|q;all_goals grind
 .have c:=p.d;have e:E.S.rl=k-1:=by rw[B];rfl
  rw[e]at c;refine{c with I:=λl a b x Ag=> ?_};have J:l<=k-1:=b;refine c.I l a b x (Ag.imp (λq=> ?_) id);rwa[<-Vn l Z]
 .rw[B];simp only[ji.rk,ju.rk];have:F.m+3-k=(F.m+2-k)+1:=Z
  grind [ł]
theorem PI.afP(H:gL F)(p:PI F n zX E S o v d f w qJ)(x:0<E.r)(m:E.N 0=Í)(G:f[F.L]?=Ã g)(iB:g.status=Å)(ht:o F.L=.fu)(e:E.S=.dn k .jq):jN F n zX E o f w qJ D F.L:=by
 have t:=iG G;have C:=p.I.r;have J:=p.Am x m G iB ht w<|C.r _ t;rw[e]at J;let⟨k1,K⟩:=(p.C.I k).2.2 _ e;have M:=Al H.C;let⟨hd,_,g',h1,N⟩:=J;have O:∀y:Ă,y.act=ė (Į<|fG<|F.I k)->y.act.touch?=Í:=λy i=>by rw[i];rfl
 let⟨T,hT⟩:=jb N;have P:=kV (λl g h=>À h.2.1) N;obtain⟨B,y,y1,y2,q1,Q,q3,q4,q5,q7⟩:=p.Af H .no G (by rw[M];exact h1 w) fg fg (λy i=>⟨λz l=>(by rw[O y i]at l;cases l),by rw[i];exact C.N _<|À<|Á ⟨k,K,U⟩⟩) (λy _ i=>zR C.l λl u=>by rw[vT u];exact O y i) (by rwa[M]) P;have z:E.S.md=k:=by rw[e];rfl
 have N7:E.S.rl=k-1:=by rw[e];rfl
 let⟨V,X⟩:=p.a.f x m;rw[z]at V X;have Y:=p.d;rw[N7]at Y;have I:k-1+1=k:=Z
 have Cz:=Y.aeT y1 (by rwa[I]) ((C.f _ t).trans hd) (by
  rw[I];intro a l;rcases l with l|rfl
  .exact(C.S _ t).C a<|X _ l
  .exact(C.S _ t).r _ V)
 rw[I]at Cz;have hG:fq E.a 0 (E.a 0)=E.a:=by funext j;unfold fq;split<;>simp[*]
 refine⟨{E with S:=.dn k .iu,e:=fq E.e k qJ.size},_,_,_,_,B,w,#[y],q1,Q,λh=>h,.r ?_ (Q.trans p.b) q5 ?_ ?_ ?_ Cz (p.c.pX (E':={E with S:=.dn k .iu,e:=fq E.e k qJ.size}) q3 (by rcases P with q|q<;>rw[q]<;>simp) q4 (λ_ _=>rfl) U U (λ_ _=>rfl) (λ_=>rfl) (λ_ _=>rfl) (λ_ _ h=>À h) λ_ _ _ _ h=>À h) λj r a1 a2 a3=> ?_,Jf H.C (p.G t) m U U U U ?_⟩
 .have:=p.N.Je (ip:=.dn k .iu) (sg:=E.c) (T:=T) H.C m;exact⟨this.M,this.Y,this.I,this.C,this.r⟩
 .have L:=q7;exact⟨L.gM,L.o,L.ll,λa l b c=>L.e a l (by rwa[z]) c,λa b=>by have:=L.f a b;rwa[z]at this,L.h,L.l,L.S,L.M,L.c,λl b=>L.I l (by rwa[z]),λl b=>L.N l (by rwa[z]),λl a b=>L.g l a (by rwa[z]),L.d⟩
 .have W:=p.M;exact⟨W.C,W.I,W.jv,λl b=>W.M l (by rwa[z]),λl a b=>W.S l a (by rwa[z]),W.N⟩
 .have:=p.C.Jg (ip:=.dn k .iu) (sg:=E.c) (pk:=fq E.e k qJ.size) m x (λl=>⟨λq=>(by cases q),λq=>(by cases q),λp q=>by cases q;exact⟨k1,K⟩⟩) (λl a b c=> ?_) (λl a b=> ?_) (by rw[e];exact Ç _) id (λq=>p.C.y 0 (ò _) q) p.C.v
  .grind
  .rw[hG];exact p.C.e l a b<|by rwa[e]
  .rw[hG];have c:l<=k-1:=b;rcases p.C.Y l a (by rwa[e])with⟨W,q,_⟩|⟨r,s,q,_⟩|q;all_goals grind
 .have u:=p.C.w j r a1<|Á<|Á a2;rw[e]at u;simp only[ji.od]at u;show Λ _ _ (fq E.e k qJ.size _);rw[fC _ _ Z];exact(p.f j r a1 a2 a3).app _
 .rw[e];simp only[ji.rk,ju.rk];omega
end
section
variable{F:Ph}{E E':fN F}{S:Nat->Jd}{v M:Nat->gh}{I:Nat->ik}{B:Nat->e5}{o f:Array Ä}{u:ä}{K:Option (Nat×Nat)}
def Ap(E:fN F)(ip:ji)(k:Nat)(G:GS):fN F:={E with S:=ip,a:=fq E.a k G}
theorem PI.CK(H:gL F)(p:PI F j zX E S v I B o w qJ){d:ju}{ip:ji}{G:GS}{s:Ä}{T:gh}(h0:0<E.r)(C:E.N 0=Í)(t:E.S=.dn k d)(O:d≠ .jq)(Q:o[F.L]?=Ã g)(D:kl (F.I k) w W)(X:gT W (F.I k) G)(q1:Ŏ F.P (ð o w K) F.L=(ğ<|ð f W K,u))(J:f.size=o.size)(q3:f[F.L]?=Ã s)(mI:s.status=Å\/s.status=å)(q4:∀k,k≠F.L->f[k]?=o[k]?.map (Ā F.P g s W)) (q5:gD F.P F.S E.Y (fq S F.L<|JI F E.c ip) (fq v F.L T) (fq I F.L .no) (gf B F.L {B F.L with w:=W}) f W (qJ++u)) (q6:TI F.toFx j zX E.r E.S.rl E.V E.e E.d E.ie E.f (qJ++u)) (q7:iw F E (gf B F.L {B F.L with w:=W}) f.size W) (x:ip.md=k/\ip.rl=k) (hP:Ps F (Ap E ip k G)) (Wu:ip.rk F<E.S.rk F) (Fz:∀i r,E.C i=.ft r .kh->F.r (i+r*F.n)=k->(E.a k).sm=0->G.sm=0\/∀y,f[F.L+1+i]?=Ã y->y.status≠Ü):jN F j zX E v o w qJ K F.L:=by
 let⟨k1,z⟩:=(p.C.I k).2.2 _ t;have M:F.M (F.I k):=Á ⟨k,z,U⟩;have N:E.S.md=k:=by rw[t];rfl
 have N7:E.S.rl=k:=by rw[t];cases d<;>first|rfl|exact absurd U O
 have m:=D.I H p.a p.C p.M M ⟨λq=>absurd q<|H.C.M k z,λ_=>rfl⟩ (λl a=>⟨λq=>by rwa[<-H.C.S _ _ z a q,gw],λq=>fC _ _ λe=>q<|by rw[e]⟩);refine⟨Ap E ip k G,_,_,_,_,f,W,u,q1,J,λh=>h,.r ?_ (J.trans p.b) q5 ?_ ?_ hP ?_ ?_ λi r a b c=>(p.f i r a b c).app u,Jf H.C (p.G<|iG Q) C U U U U Wu⟩
 .have:=p.N.Je (ip:=ip) (sg:=E.c) (T:=T) H.C C;exact⟨this.M,this.Y,this.I,this.C,this.r⟩
 .have L:=q7;have e:(Ap E ip k G).S.md=E.S.md:=by rw[N];exact x.1
  exact⟨L.gM,L.o,L.ll,λa l b c=>L.e a l (by rwa[<-e]) c,λa b=>by have:=L.f a b;rwa[<-e]at this,L.h,L.l,L.S,L.M,L.c,λl b=>L.I l (by rwa[<-e]),λl b=>L.N l (by rwa[<-e]),λl a b=>L.g l a (by rwa[<-e]),L.d⟩
 .have e:(Ap E ip k G).S.md=E.S.md:=by rw[N];exact x.1
  exact⟨m.C,m.I,m.jv,λl b=>m.M l (by show l<=E.S.md;rwa[<-e]),λl a b=>m.S l a (by show l<=E.S.md;rwa[<-e]),m.N⟩
 .have e:(Ap E ip k G).S.rl=E.S.rl:=by rw[N7];exact x.2
  rwa[e]
 .refine p.c.pX (E':=Ap E ip k G) q3 (by rcases mI with q|q<;>rw[q]<;>simp) q4 (λi a=>D.C p.C M a) U U (λ_ _=>rfl) (λ_=>rfl) (λ_ _=>rfl) (λ_ _ h=>À h) λi r _ a b=> ?_;show(fq E.a k G _).sm=0\/_;grind [gw,fC]
theorem PI.CL(p:PI F j zX E S v I B o w qJ){d:ju}{f:ji}{G:GS}(m:0<E.r)(t:E.N 0=Í)(l:E.S=.dn k d)(D:f=.ky k\/∃u,f=.dn k u)(i:f.od=k)(H:(∃W,(f=.dn k (.gp W)\/f=.dn k (.iT W))/\G=.jr W/\W=Ñ F.n λe=>(E.C e).gu F e k)\/(∃r s,f=.dn k (.il r)/\0<r/\G=.gQ r s/\r+s=Ñ F.n λe=>(E.C e).gu F e k)\/((∀p,f≠ .dn k p)/\((G=.cl 0 0/\(Ñ F.n λe=>(E.C e).gu F e k)=0)\/∃s,G=.gQ 0 s/\s=Ñ F.n λe=>(E.C e).gu F e k))) (x:(∃a b,E.a k=.gQ a b)->∃a b,G=.gQ a b) (y:G≠ .cl 1 0):Ps F (Ap E f k G):=by
 let⟨J,K⟩:=(p.C.I k).2.2 _ l;have C:k-1<=E.S.od/\E.S.od<=k:=by rw[l];cases d<;>simp only[ji.od]<;>omega
 have:=p.C.Jg (sg:=E.c) (pk:=E.e) t m (λg=> ?_) (λg a b c=> ?_) (λg a b=> ?_) (by rw[i];exact C.2) x (λq=>absurd q y) p.C.v
 .exact this
 .grind
 .rw[i]at c;rw[fC _ _ Z];exact p.C.e g a b Z
 .by_cases q:g=k
  .grind [gw]
  .rw[fC _ _ q];rw[i]at b;refine Á<|Á ⟨λc h=> ?_,?_⟩
   .grind
   .rcases p.C.Y g a Z with⟨W,z,_⟩|⟨r,s,z,_⟩|z;all_goals grind
theorem PI.afQ(H:gL F)(p:PI F j zX E S v I B o w qJ)(d:0<E.r)(i:E.N 0=Í)(s:o[F.L]?=Ã g)(iB:g.status=Å)(ht:v F.L=.fu)(c:E.S=.dn k .iu):jN F j zX E v o w qJ K F.L:=by
 have O:=iG s;have C:=p.I.r;have hJ:=p.Am d i s iB ht w<|C.r _ O;rw[c]at hJ;obtain⟨k1,Y⟩:=(p.C.I k).2.2 _ c;have Q:=Al H.C;have y:F.M (F.I k):=Á ⟨k,Y,U⟩;obtain⟨hd,_,tq⟩:=hJ;have hc:=p.C.e k k1 Y (by rw[c];simp only[ji.od];omega);obtain⟨W,hW⟩:∃W,(Ñ F.n λa=>(E.C a).gu F a k)=W:=⟨_,U⟩;rw[hW]at hc;have V:=hc▸p.M.I k Y;obtain⟨ev,z⟩:=V.jz;have key:=tq (GS.cl (0+1) W).st;rw[ev]at key z;obtain⟨m,t⟩:∃m,(GS.jz<|.cl (0+1) W).st=m:=⟨_,U⟩;rw[t]at key;obtain⟨g',h1,h2⟩:=key;have G:=h1 w V.C V.I;rw[<-t]at G;obtain⟨k1',k2,k3⟩:=V.r;have r:kl (F.I k) w (w.setCell (fG<|F.I k)<|ë Ó (GS.jz<|.cl (0+1) W).st):=Á ⟨_,_,À U,U⟩;have D:=r.r p.a H.C y;have X:fD {B F.L with w:=w} w (w.setCell (fG<|F.I k)<|ë Ó (GS.jz<|.cl (0+1) W).st):=⟨Ô D.r.symm,λb kA=>D.jF b<|C.I _ O b kA,λa ha=>D.M _ O a ha,λa ha=>D.N _ O a ha,λa _=>D.I a⟩;have WI:¬∃a b,E.a k=.gQ a b:=λ⟨a,b,q⟩=>by rw[hc]at q;cases q
 by_cases hl:0<W
 .have ed:GS.jz (.cl (0+1) W)=.jr W:=by simp only[GS.jz];rw[if_pos ⟨trivial,hl⟩]
  rw[ed]at G z r D X t;have M:fe F.P É (IW F.P É (F.I k) (fe F.P É<|F.h k) W) {B F.L with w:=w} g':=by
   have e:m=(W:Int):=t.symm;have h:¬(m=0\/(fS<=m/\m<1000000*fS/\m%fS<1000000)):=by simp only[fS];omega
   grind
  obtain⟨T,hT⟩:=jb<|M.jM X;have N:=kV (λl g h=>À h.2.1) M;obtain⟨f,u,q1,q2,q3,q4,q5,q6,q7⟩:=p.Y (J:=JI F E.c<|.dn k (.gp W)) H .no s (CI d) y (by rwa[Q]) r (Aa y) U (λx hs e=>(CJ i x hs e).elim) (by rwa[Q]) N;refine p.CK H d i c fg s r z q1 q2 q3 N q4 q5 q6 q7 ⟨U,U⟩ (p.CL d i c (Á ⟨_,U⟩) U (À ⟨W,À U,U,hW.symm⟩) (λq=>absurd q WI) fg) ?_ λ_ _ _ _ _=>À U;rw[c];simp only[ji.rk,ju.rk];omega
 .have N0:W=0:=Z
  subst N0;have ed:GS.jz (.cl (0+1) 0)=.cl 0 0:=U;rw[ed]at G z r D X t;have M:fe F.P É (F.h k) {B F.L with w:=w} g':=by simp only[t.symm,true_or,if_true]at h2;exact h2
  obtain⟨T,hT⟩:=jb<|M.jM X;have N:=kV (λl g h=>À<|H.N _ _ _ h) M;obtain⟨f,u,q1,q2,q3,q4,q5,q6,q7⟩:=p.Y (J:=JI F E.c<|.ky k) H .no s (CI d) y (by rwa[Q]) r (Aa y) U (λx hs e=>(CJ i x hs e).elim) (by rwa[Q]) N;refine p.CK H d i c fg s r z q1 q2 q3 N q4 q5 q6 q7 ⟨U,U⟩ (p.CL d i c (À U) U (Á<|Á ⟨λp q=>(by cases q),À ⟨rfl,hW⟩⟩) (λq=>absurd q WI) fg) ?_ λ_ _ _ _ _=>À rfl;rw[c];simp only[ji.rk,ju.rk];omega
theorem PI.WJ(p:PI F j zX E S v I B o w qJ)(b:E.S=.dn k (.gp i)\/E.S=.dn k (.iT i)):E.a k=.jr i/\i=Ñ F.n λa=>(E.C a).gu F a k:=by
 have c:k<=F.m:=by rcases b with b|b<;>exact((p.C.I k).2.2 _ b).2
 rcases p.C.Y k c (by rcases b with b|b<;>(rw[b];exact Ç _))with⟨d,z,e,f⟩|⟨r,s,z,_⟩|⟨z,_⟩;all_goals grind
def PI.afR(H:gL F)(p:PI F j zX E S v I B o w qJ)(d:0<E.r)(m:E.N 0=Í)(n:o[F.L]?=Ã g)(M:g.status=Å)(N:v F.L=.fu)(c:E.S=.dn k (.gp i)):jN F j zX E v o w qJ K F.L:=by have s:=p.Am d m n M N w<|(p.I.r).r _<|iG n;rw[c]at s;let⟨k1,t⟩:=(p.C.I k).2.2 _ c;have y:=Al H.C;have z:F.M (F.I k):=Á ⟨k,t,U⟩;let⟨hd,_,O⟩:=s;let⟨C,P⟩:=p.WJ<|À c;have D:=C▸p.M.I k t;let⟨g',Q,r⟩:=O (i:Int);simp only[if_true]at r;let⟨T,V⟩:=jb r;have G:=kV (λl g h=>À h.2.1) r;obtain⟨f,u,h,l,X,Y,q5,q6,q7⟩:=p.Y (J:=JI F E.c<|.dn k (.iT i)) H .no n (CI d) z (by rw[y];exact Q w D.C) (À U) (xZ z) U (λx a e=>(CJ m x a e).elim) (by rwa[y]) G;refine p.CK H d m c fg n (À U) D h l X G Y q5 q6 q7 ⟨U,U⟩ (p.CL d m c (Á ⟨_,U⟩) U (À ⟨i,Á U,U,P⟩) (λ⟨a,b,q⟩=>by rw[C]at q;cases q) fg) ?_ λ_ _ _ _ _=>À rfl;rw[c];simp only[ji.rk,ju.rk];omega
def PI.afS(H:gL F)(p:PI F j zX E S v I B o w qJ)(d:0<E.r)(m:E.N 0=Í)(n:o[F.L]?=Ã g)(N:g.status=Å)(O:v F.L=.fu)(c:E.S=.dn k (.iT i)):jN F j zX E v o w qJ K F.L:=by
 have q:=iG n;have C:=p.I.r;have y:=p.Am d m n N O w<|C.r _ q;rw[c]at y;let⟨k1,z⟩:=(p.C.I k).2.2 _ c;have G:=Al H.C;have s:F.M (F.I k):=Á ⟨k,z,U⟩;let⟨hd,_,g',P,M⟩:=y;let⟨Q,V⟩:=p.WJ<|Á c;have r:=Q▸p.M.I k z;have X:=r.r.1;have t:kl (F.I k) w (w.setCell (fG<|F.I k)<|ë Ó 0):=Á ⟨_,_,À U,U⟩;have D:=t.r p.a H.C s;let⟨T,Y⟩:=jb (M.jM ⟨Ô D.r.symm,λb h=>D.jF b<|C.I _ q b h,λa e=>D.M _ q a e,λa e=>D.N _ q a e,λa _=>D.I a⟩);have a:=kV (λl g h=>by
  cases i with
  |zero=>omega
  |succ i=>exact À h.2.1) M
 obtain⟨f,u,h,b,l,q4,q5,q6,q7⟩:=p.Y (J:=JI F E.c<|.dn k (.il i)) H .no n (CI d) s (by rw[G];exact P w _ r.C r.I) t (Wc s) U (λx hs e=>(CJ m x hs e).elim) (by rwa[G]) a;refine p.CK H d m c fg n t r.VX h b l a q4 q5 q6 q7 ⟨U,U⟩ (p.CL d m c (Á ⟨_,U⟩) U (Á<|À ⟨i,0,U,X,U,by rwa[ó]⟩) (λ_=>⟨i,0,U⟩) fg) ?_ λ_ _ _ _ _=>À U;rw[c];simp only[ji.rk,ju.rk];omega
theorem PI.afT(H:gL F)(p:PI F j zX E S v I B o w qJ)(l:0<E.r)(t:E.N 0=Í)(G:o[F.L]?=Ã g)(iB:g.status=Å)(ht:v F.L=.fu)(h:E.S=.dn k (.il j9)):jN F j zX E v o w qJ K F.L:=by
 have W:=iG G;have C:=p.I.r;have hJ:=p.Am l t G iB ht w<|C.r _ W;rw[h]at hJ;obtain⟨k1,Y⟩:=(p.C.I k).2.2 _ h;have X:=Al H.C;have O:F.M (F.I k):=Á ⟨k,Y,U⟩;obtain⟨s,hr0,hc,si⟩:∃s,0<j9/\E.a k=.gQ j9 s/\j9+s=Ñ F.n λc=>(E.C c).gu F c k:=by rcases p.C.Y k Y (by rw[h];exact Ç _)with⟨W',z,z1,z2⟩|⟨M,s,z,z1,z2,z3⟩|⟨z,_⟩;all_goals grind
 obtain⟨j9,rfl⟩:∃M,j9=M+1:=⟨j9-1,Z⟩;obtain⟨hd,_,N4,g',Q,h1,h2⟩:=hJ;have N:=hc▸p.M.I k Y;have V:kl (F.I k) w (w.setCell (gP<|F.I k)<|ë ç<|ç.wrap<|(GS.gQ (j9+1) s).sm+1):=Á ⟨_,_,Á U,U⟩;have D:=V.r p.a H.C O;have vV:fD {B F.L with w:=w} w (w.setCell (gP<|F.I k)<|ë ç<|ç.wrap<|(GS.gQ (j9+1) s).sm+1):=⟨Ô D.r.symm,λb kA=>D.jF b<|C.I _ W b kA,λa ha=>D.M _ W a ha,λa ha=>D.N _ W a ha,λa _=>D.I a⟩;have wake:∀f:Array Ä,(∀k,k≠F.L->f[k]?=o[k]?.map (Ā F.P g g'<|w.setCell (gP<|F.I k)<|ë ç<|ç.wrap<|(GS.gQ (j9+1) s).sm+1))\/(∀m,m≠F.L->f[m]?=o[m]?.map (Ā F.P g g'<|w.setCell (gP<|F.I k)<|ë ç<|ç.wrap<|(GS.gQ (j9+1) s).sm+1))->∀c M,E.C c=.ft M .kh->F.r (c+M*F.n)=k->(E.a k).sm=0->(GS.gQ j9<|s+1).sm=0\/∀y,f[F.L+1+c]?=Ã y->y.status≠Ü:=by
  intro f d c M hj _ _;refine Á λy hy=> ?_;by_cases WK:c+2<=E.r
  .by_cases Jh:E.N (c+1)=Í
   .obtain⟨_,hk⟩:=p.g c WK Jh;rw[hj]at hk;rcases d with d|d<;>
    .rw[d _ Z]at hy;obtain⟨z,FL,rfl⟩:=Ù.1 hy;exact Wz p N4 Q FL hk
   .obtain⟨_,r0,q,_⟩:=p.C.l c WK Jh;grind
  .have:=p.C.z c Z;grind
 cases j9 with
 |zero=>
  obtain⟨T,hT⟩:=jb<|h2.jM vV;obtain⟨f,u,q1,q2,q3,d,q5,q6,q7⟩:=p.Y (J:=JI F E.c<|.ky k) H .no G (CI l) O (by rw[X];exact h1 w _ N.M N.N) V (Ft O) (Fu _).2.2.2 (λx hs e=>(CJ t x hs e).elim) (by rwa[X])<|À Q;refine p.CK H l t h fg G V N.jq q1 q2 q3 (À Q) d q5 q6 q7 ⟨U,U⟩ (p.CL l t h (À U) U (Á<|Á ⟨λp q=>(by cases q),Á ⟨s+1,rfl,Z⟩⟩) (λ_=>⟨0,s+1,rfl⟩) fg) ?_<|wake f<|Á d;rw[h];simp only[ji.rk,ju.rk];omega
 |succ j9=>
  obtain⟨T,hT⟩:=jb<|h2.jM vV;obtain⟨f,u,q1,q2,q3,d,q5,q6,q7⟩:=p.Y (J:=JI F E.c<|.dn k (.il (j9+1))) H .no G (CI l) O (by rw[X];exact h1 w _ N.M N.N) V (Ft O) (Fu _).2.2.2 (λx hs e=>(CJ t x hs e).elim) (by rwa[X])<|À Q;refine p.CK H l t h fg G V N.jq q1 q2 q3 (À Q) d q5 q6 q7 ⟨U,U⟩ (p.CL l t h (Á ⟨_,U⟩) U (Á<|À ⟨j9+1,s+1,U,Z,U,Z⟩) (λ_=>⟨j9+1,s+1,U⟩) fg) ?_<|wake f<|Á d;rw[h];simp only[ji.rk,ju.rk];have:Ñ F.n (λc=>(E.C c).gu F c k)<=F.n:=Fw λi=>by cases E.C i<;>simp only[gF.gu]<;>first|omega|(split<;>first|omega|(rename_i q _;cases q<;>simp[jg.sf]))
  omega
theorem PI.afU(H:gL F)(p:PI F j zX E S v I B o w qJ){N:Nat}(s:i<E.r)(a:E.N i=Ã (.jf N))(t:o[F.L+i]?=Ã g)(J:g.status=Å):jN F j zX E v o w qJ K (F.L+i):=by
 let⟨M,n,O⟩:=p.k i _ s a;have hL:=H.C.r;obtain⟨f,P,Q,hn,T,l,V,u,z⟩:=p.I.Nj t Z J n (O ⟨N,U⟩) M;have C:=iG t;have D:∀c∈Û (F.L+i) g.frame.fn g.frame.place P,c.act.touch?=Í/\∀b,F.M b->c.act≠ė (.release<|fG b):=λc d=>by obtain⟨e,h,rfl⟩:=Ö d;refine⟨ź<|u e h,λb _ q=> ?_⟩;have:=u e h;let⟨k,y,m⟩:=e;cases k<;>simp_all[Event.mute,Ë]
 obtain⟨m,G⟩:∃m,f[F.L+i]?=Ã m:=⟨f[F.L+i]'(by rwa[l]),é _⟩;have W:m.status≠Ü:=by
  let⟨g0,y,h,k,r⟩:=z.C _ m G;rw[n]at h;cases h with
  |fY=>rcases k with q|q<;>rw[q]<;>simp
 have X:fq v (F.L+i) .fu=v:=by funext q;unfold fq;split<;>simp[*]
 have Y:fq I (F.L+i) .no=I:=by funext q;unfold fq;split<;>simp[*]
 refine⟨fv.gO E i<|.jf Q,_,_,_,_,f,w,_,T,l,λh=>h,.r (p.N.G H.C λ_=>rfl) (l.trans p.b) (by rwa[X,Y]) (by rw[l];exact(p.a.C<|Ç _).gO<|⟨λ_=>⟨_,a,trivial⟩,λ_=>trivial⟩) p.M.gO (p.C.gO s (by rw[a];rfl) (λk h=>by rw[a]at h;cases h) (λk h=>by cases h) (λq h=>p.C.l q Z<|by rw[<-h,a];simp) λh=>p.C.f<|by rw[<-h,a];simp) ((p.d.C<|xU (λc d=>(D c d).1) λc d=>(D c d).2).G<|⟨λ_=>⟨_,a,trivial⟩,λ_=>trivial⟩) (NY (p.c.Fc G W V λ_ _=>rfl) λk y n r e=> ?_) λq r k e y=>(p.f q r k e y).app _,CG H.C (p.G C)<|Á ?_⟩
 .grind
 .unfold qN;rw[a];simp only[gY.rk];grind
theorem PI.afV(H:gL F)(p:PI F j zX E S v I B o w qJ)(N:0<i)(t:i<F.L)(u:o[i]?=Ã g)(O:g.status=Å):jN F j zX E v o w qJ K i:=by
 let⟨Q,T,m⟩:=p.l i N t;obtain⟨f,x,z,Y,V,n,W,C,D⟩:=p.I.Nj u Z O m T Q;have G:=iG u;have J:∀c∈Û i g.frame.fn g.frame.place x,c.act.touch?=Í/\∀b,F.M b->c.act≠ė (.release<|fG b):=λc l=>by obtain⟨e,a,rfl⟩:=Ö l;refine⟨ź<|C e a,λb _ q=> ?_⟩;have:=C e a;let⟨h,k,y⟩:=e;cases h<;>simp_all[Event.mute,Ë]
 obtain⟨s,M⟩:∃s,f[i]?=Ã s:=⟨f[i]'(by rwa[n]),é _⟩;have X:s.status≠Ü:=by
  let⟨g0,k,a,h,y⟩:=D.C _ s M;rw[m]at a;cases a with
  |fY=>rcases h with q|q<;>rw[q]<;>simp
 refine⟨{E with h:=fq E.h i z},_,_,_,_,f,w,_,V,n,λh=>h,.r ?_ (n.trans p.b) D ?_ ⟨p.M.C,p.M.I,p.M.jv,p.M.M,p.M.S,p.M.N⟩ ?_ (p.d.C<|xU (λc l=>(J c l).1) λc l=>(J c l).2) (N5 (p.c.Fc M X W λ_ _=>rfl) U U U U U U U) λq r a k y=>(p.f q r a k y).app _,Fq (p.G G) ?_ λk m=>xW (λ_=>rfl) (λ_ _=>fC _ _ m) (λ_=>rfl) (λ_ _=>rfl) (λ_ _=>rfl) U⟩
 .have h:=p.N;refine⟨by rw[fC S _ Z];exact h.M,λa b=>by rw[fC S _ Z];exact h.Y a b,λq a b=>by rw[fC S _ Z];exact h.I q a b,λy e a b=>by rw[fC S _ Z];exact h.C y e a b,λq a b=> ?_⟩;by_cases e:q=i
  .grind [gw]
  .rw[fC S _ e];refine⟨?_,(h.r q a b).2⟩;show _=oJ F.P (fq E.h i z q);rw[fC _ _ e];exact(h.r q a b).1
 .rw[n];have L:=p.a.C (i:=i) (d:=Ï (B i).d x) (w0:=w)<|Ç _;exact⟨L.gM,L.o,L.ll,L.e,L.f,L.h,L.l,L.S,L.M,L.c,L.I,L.N,L.g,L.d⟩
 .have h:=p.C;exact⟨h.v,h.C,h.K,h.L,h.J,h.I,h.z,h.d,h.l,h.f,h.h,h.M,h.o,h.t,h.g,h.u,h.N,h.B,h.e,h.Y,h.w,h.H,h.O,h.S,h.y,h.D⟩
 .unfold fN.iK;rw[if_neg Z,if_pos t,if_neg Z,if_pos t];refine Á ⟨U,À ?_⟩;grind [gw]
end
section
variable{F:Ph}{E J:fN F}{S:Nat->Jd}{d M:Nat->gh}{o:Nat->ik}{m:Nat->e5}{f D:Array Ä}{u:ä}{I:Option (Nat×Nat)}
def ij(E:fN F)(x:fP)(G:GS)(dk:Nat->Nat):fN F:={E with M:=x,b:=G,I:=dk}
structure iO(E:fN F)(x:fP)(C:Nat->Nat):Prop where
 r:x.sp F.n=E.r
 C:∀j,j+2<=E.r->C j=E.I j
def Aq{x:fP}{G:GS}{d:Nat->Nat}(a:iO E x d):(ij E x G d).Y=E.Y:=by have e:(ij E x G d).r=E.r:=a.r;funext b;unfold fN.Y;rw[e];refine propext<|or_congr Iff.rfl<|or_congr Iff.rfl ⟨λ⟨j,c,f⟩=>⟨j,c,f.trans<|a.C j c⟩,λ⟨j,c,f⟩=>⟨j,c,f.trans (a.C j c).symm⟩⟩
def iw.G(L:iw F E m i w){x:fP}{G:GS}{d:Nat->Nat}(a:iO E x d):iw F (ij E x G d) m i w:=by have e:(fv.ij E x G d).r=E.r:=a.r;exact⟨L.gM,λy f=>L.o y Z,λh=>L.ll Z,λh=>L.e Z,λh=>L.f Z,λj h=>L.h j Z,λj h=>L.l j Z,L.S,λc g=>L.M c (g.imp id λ⟨y,f,b⟩=>⟨y,Z,b⟩),L.c,λk l b n=>by rw[Aq a];exact L.I k l b n,L.N,L.g,λj h=>L.d j Z⟩
def Wd.r{G:GS}(W:Wd F {E with b:=G,a:=E.a} w){x:fP}{dk:Nat->Nat}(a:iO E x dk)(c:x.lU F.q=E.M.lU F.q)(d:x.iV F.n=E.M.iV F.n):Wd F (ij E x G dk) w:=by
 have e:(fv.ij E x G dk).r=E.r:=a.r;refine⟨W.C,W.I,λj f=> ?_,W.M,W.S,λj f=>W.N j<|show j+2<=E.r by omega⟩;have b:j+2<=E.r:=Z
 have:=W.jv j b;show∃g s,w.heap[dk j]?=Ã (.chan F.q g (decide<|j<x.iV F.n) s (E.C j).iE É)/\s7 F.n j (x.lU F.q) s/\_;rw[a.C j b,c,d];exact this
def N8{x:fP}{G:GS}{dk:Nat->Nat}(h:x.ad F.n=E.M.ad F.n):(ij E x G dk).G=E.G:=by
 funext y;show(if y<x.ad F.n then _ else _)=if y<E.M.ad F.n then _ else _
 rw[h];rfl
def Ps.ij(h:Ps F E){x:fP}{G:GS}{dk:Nat->Nat}(d:iO E x dk)(o:E.M.iV F.n<=x.iV F.n)(t:∀j,x=.go j\/x=.kU j\/x=.rd j\/x=.iu j->j<=F.n)(u:∀j,x=.kU j\/x=.rd j\/x=.iu j->1<=j)(v:∀r,(x=.iC r->r<=F.q)/\(x=.kF r->r<=F.n)) (w:∀c f,G=.cl c f->c=Ñ (F.n+1) (fv.ij E x G dk).G/\f=x.gu) (z:∀f,G=.jr f->Ñ (F.n+1) (fv.ij E x G dk).G=0/\f=x.gu/\∃y,y<E.r/\E.g=Ã y/\(E.N y=Ã (.fU (.gp f))\/E.N y=Ã (.fU (.iT f)))) (B:∀r s,G=.gQ r s->Ñ (F.n+1) (fv.ij E x G dk).G=0/\r+s=x.gu/\(0<r->∃y,y<E.r/\E.g=Ã y/\E.N y=Ã (.fU (.il r)))) (C:∀y p,E.N y=Ã (.fU p)->(∀W,p=.gp W\/p=.iT W->E.g=Ã y/\G=.jr W)/\(∀r,p=.il r->0<r/\E.g=Ã y/\∃s,G=.gQ r s)) (D:x=.ft .gp\/x=.ft .kK\/x=.fU->Ñ (F.n+1) (fv.ij E x G dk).G=0) (H:x=.ft .gp->∃a b,G=.gQ a b) (I:(∀p,x≠ .ft p)->x≠ .fU->∃c,G=.cl c 0):Ps F (fv.ij E x G dk):=by
 have e:(fv.ij E x G dk).r=E.r:=d.r;refine⟨h.v,t,u,v,λq=>h.J Z,h.I,λj q=>h.z j Z,λj r q=>h.d j r Z,λj q J=> ?_,h.f,λy q=>h.h y Z,λj g N O K=> ?_,λj q=> ?_,w,λf i=> ?_,λr s i=> ?_,C,D,h.e,h.Y,λj r q=>h.w j r Z,λj r q=>h.H j r Z,H,I,h.y,λj r q=>h.D j r Z⟩
 .let⟨a,b⟩:=h.l j Z J;exact⟨Ê a o,b⟩
 .have k:dk j=dk g:=K;rw[d.C j Z,d.C g Z]at k;exact h.M j g Z Z k
 .show¬F.M (dk j)/\dk j≠F.Y/\F.S<=dk j;rw[d.C j Z];exact h.o j Z
 .let⟨k,l,y,m,L⟩:=z f i;exact⟨k,l,y,Z,L⟩
 .let⟨k,l,m⟩:=B r s i;refine⟨k,l,λL=> ?_⟩;let⟨y,P,M⟩:=m L;exact⟨y,Z,M⟩
def Ps.r(h:Ps F E){x:fP}{dk:Nat->Nat}(d:iO E x dk)(g:E.M.iV F.n<=x.iV F.n)(i:x.ad F.n=E.M.ad F.n)(f:x.gu=E.M.gu)(k:∀j,x=.go j\/x=.kU j\/x=.rd j\/x=.iu j->j<=F.n)(l:∀j,x=.kU j\/x=.rd j\/x=.iu j->1<=j)(m:∀r,(x=.iC r->r<=F.q)/\(x=.kF r->r<=F.n)) (o:x=.ft .gp\/x=.ft .kK\/x=.fU->Ñ (F.n+1) E.G=0) (s:x=.ft .gp->∃a b,E.b=.gQ a b) (t:(∀p,x≠ .ft p)->x≠ .fU->∃c,E.b=.cl c 0):Ps F (fv.ij E x E.b dk):=by
 have e:=N8 (E:=E) (G:=E.b) (dk:=dk) i;refine h.ij d g k l m ?_ ?_ ?_ h.N ?_ s t
 .rw[e,f];exact h.t
 .rw[e,f];exact h.g
 .rw[e,f];exact h.u
 .rwa[e]
def p6.ij(h:p6 F E S d o)(ok:F.Ok){x:fP}{G:GS}{dk:Nat->Nat}{T:gh}(a:iO E x dk):p6 F (fv.ij E x G dk) (fq S 0<|JM F dk x) (fq d 0 T) (fq o 0<|kM x):=by have:=ok.r;have e:(fv.ij E x G dk).r=E.r:=a.r;refine⟨by rw[gw,gw];exact⟨U,U⟩,λc b=>by rw[fC S _ Z,fC o _ Z];exact h.Y Z b,λj c b=> ?_,λy f c b=>by rw[fC S _ Z,fC o _ Z,fC d _ Z];exact h.C y f Z b,λi c b=>by rw[fC S _ Z,fC o _ Z,fC d _ Z];exact h.r i c b⟩;rw[fC S _ Z,fC o _ Z];show _=JW F (dk j) j (E.C j)/\_=kW F (dk j) (E.C j);rw[a.C j Z];exact h.I j Z b
def qO{x:fP}{G:GS}{dk:Nat->Nat}{T:gh}(h:x.rk F<E.M.rk F):oK F.N ((ij E x G dk).mu (fq d 0 T) D) (E.mu d f):=by refine Fq (by unfold Ph.N;omega) (À ?_) λk a=>xW (λh=>absurd h a) (λ_ _=>rfl) (λ_=>rfl) (λ_ _=>rfl) (λ_ _=>rfl)<|fC d _ a;rwa[Cs,Cs]
theorem WL:E.kQ 0=match E.M with|.ft p=>p.kQ F.B E.b.st|_=>0:=by unfold fN.kQ;grind
def afW{p a:SP}(b:E.M=.ft (.lD p))(g:d 0=.fu)(h:a.rk F.B E.b.st<p.rk F.B E.b.st):oK F.N ((ij E (.ft (.lD a)) E.b E.I).mu (fq d 0 .fu) D) (E.mu d f):=by
 refine Wg (i:=0) (λk _=> ?_) (by unfold Ph.N;omega) ?_ λk c=> ?_
 .by_cases e:k=0
  .subst e;rw[Cs,Cs,gw,b,g];rfl
  .exact xW (λh=>absurd h e) (λ_ _=>rfl) (λ_=>rfl) (λ_ _=>rfl) (λ_ _=>rfl)<|fC d _ e
 .rwa[WL,WL,b]
 .unfold fN.kQ;rw[if_neg c,if_neg c];rfl
def PI.sk(p:PI F b zX E S d o m f w qJ)(c:f[0]?=Ã g)(e:g.status=Å)(h:d 0=.fu):∀a,fD (m 0) (m 0).w a->JM F E.I E.M {m 0 with w:=a} g:=by
 let⟨k,i⟩:=p.h;have j:o 0=.no\/o 0=.il:=by
  rw[i];cases E.M with
  |ft v=>cases v<;>first|exact À U|exact Á U
  |_=>exact À U
 intro a r;have:=p.I.N c e h j a r;simp_all
def yh(ok:F.Ok):∀x,E.ie x->0=F.L+x->False:=λx _ e=>by have:=ok.r;omega
theorem PI.yi(H:gL F)(p:PI F b zX E S d o m f w qJ){x:fP}{G:GS}{dk:Nat->Nat}{c:Ä}{T:gh}(a:iO E x dk)(C:Ŏ F.P (ð f w I) 0=(ğ<|ð D W I,u))(l:D.size=f.size)(q3:D[0]?=Ã c)(mI:c.status=Å\/c.status=å)(J:∀k,k≠0->D[k]?=f[k]?.map (Ā F.P g c W))(K:∀j,j+2<=E.r->W.heap[E.I j]?=w.heap[E.I j]?) (L:gD F.P F.S E.Y (fq S 0<|JM F dk x) (fq d 0 T) (fq o 0<|kM x) (gf m 0 {m 0 with w:=W}) D W (qJ++u)) (M:TI F.toFx b zX E.r E.S.rl E.V E.e E.d E.ie E.f (qJ++u)) (O:iw F E (gf m 0 {m 0 with w:=W}) D.size W) (Q:Wd F (ij E x G dk) W) (X:Ps F (ij E x G dk)) (vS:oK F.N ((ij E x G dk).mu (fq d 0 T) D) (E.mu d f)) (hxf:x=.fU->E.M=.fU):jN F b zX E d f w qJ I 0:=by
 have e:(ij E x G dk).r=E.r:=a.r;refine⟨ij E x G dk,_,_,_,_,D,W,u,C,l,hxf,.r (p.N.ij H.C a) (by rw[e];exact l.trans p.b) (by rwa[Aq a]) (O.G a) Q X (by rwa[e]) ?_ λi h s n q=>(p.f i h Z n q).app u,vS⟩;intro k y n hb;by_cases q:k=0
 .grind
 .rw[J k q]at n;obtain⟨z,hz,rfl⟩:=Ù.1 n;let⟨_,hzb⟩:=Fp hb;rcases p.c k z hz hzb with⟨h1,_⟩|⟨j,t,v,B,i|⟨r,cap,s,h,i,h4⟩⟩
  .exact absurd h1 q
  .exact Á ⟨j,Z,v,B,À i⟩
  .refine Á ⟨j,Z,v,B,Á ⟨r,cap,s,h,i,?_⟩⟩;show W.heap[dk j]?=_;rwa[a.C j t,K j t]
theorem PI.Ji(H:gL F)(p:PI F b zX E S d o m f w qJ){x:fP}{h:Nat->Nat}{T:gh}(c:iO E x h)(v:f[0]?=Ã g)(B:g.status=Å)(hF:kJ F.P Ì (JM F h x) T {m 0 with w:=w} g)(t:x.lU F.q=E.M.lU F.q)(l:x.iV F.n=E.M.iV F.n)(D:Ps F (ij E x E.b h))(G:oK F.N ((ij E x E.b h).mu (fq d 0 T) f) (E.mu d f))(I:x=.fU->E.M=.fU):qM F b zX E d f w qJ:=by
 have u:=iG v;have C:=p.I.r;have e:(ij E x E.b h).r=E.r:=c.r;have J:iJ F.S (λi=>i<f.size) E.Y (gf m 0 {m 0 with w:=w}) w qJ:=C.C u (λ_ q=>q) (λa q=>À<|Á q) (λ_ q=>q) (λa q=>À<|Á q) U U U (C.m _ u)<|C.g _ u;have L:=p.I.M (K:=kM x) v (À B) J hF;refine⟨ij E x E.b h,_,_,_,_,I,.r (p.N.ij H.C c) (by rw[e];exact p.b) (by rwa[Aq c]) ((p.a.C<|Ç _).G c) (Wd.r p.M c t l) D (by rw[e];exact p.d) (λk y M O=> ?_) λi a z j s=>p.f i a Z j s,G⟩;by_cases Q:k=0
 .grind
 .rcases p.c k y M O with⟨t,_⟩|⟨j,V,z,l,i|⟨r,W,s,a,i,X⟩⟩
  .exact absurd t Q
  .exact Á ⟨j,Z,z,l,À i⟩
  .refine Á ⟨j,Z,z,l,Á ⟨r,W,s,a,i,?_⟩⟩;show w.heap[h j]?=_;rwa[c.C j V]
def mj{x:fP}(h:x.sp F.n=E.M.sp F.n):iO E x E.I:=⟨h,λ_ _=>rfl⟩
theorem mM:F.M F.C:=À U
theorem PI.afX(H:gL F)(p:PI F b zX E S d o m f w qJ)(k:f[0]?=Ã g)(l:g.status=Å)(s:d 0=.fu)(e:E.M=.kU j):qM F b zX E d f w qJ:=by
 have i:=p.sk k l s w<|p.I.r.r _<|iG k;rw[e]at i;let⟨c,i⟩:=i;have t:E.r=j:=by unfold fN.r;rw[e];rfl
 have a:iO E (.go j) (fq E.I (j-1) c):=⟨t.symm,λn h=>fC _ _ Z⟩;refine p.Ji H (T:=.fu) a k l (λr q=>H.Fl _ _ _ _ _ i q) (by rw[e];rfl) (by rw[e];rfl) (p.C.r a (by rw[e];exact Ç _) (by rw[e];rfl) (by rw[e];rfl) (λn h=> ?_) (λn h=> ?_) (λr=>⟨λh=>(by cases h),λh=>(by cases h)⟩) (λh=>by rcases h with h|h|h<;>cases h) (λh=>by cases h) λ_ _=>p.C.S (λv q=>by rw[e]at q;cases q) λq=>by rw[e]at q;cases q) (qO<|by rw[e];simp only[fP.rk];omega) λh=>by cases h
 .rcases h with h|h|h|h<;>cases h;exact p.C.C j<|Á<|À e
 .grind
def PI.afY(H:gL F)(p:PI F b zX E S d o m f w qJ)(k:f[0]?=Ã g)(t:g.status=Å)(u:d 0=.fu)(i:E.M=.rd j):jN F b zX E d f w qJ I 0:=by
 have n:=p.sk k t u w<|p.I.r.r _<|iG k;rw[i]at n;let⟨Q,_,V,z,s⟩:=n;have B:E.r=j:=by unfold fN.r;rw[i];rfl
 have a:iO E (.kU j) E.I:=⟨B.symm,λ_ _=>rfl⟩;let⟨C,G,J⟩:=NO H p mM (À U) (À U) (À ⟨U,U⟩) λx c e=>yh H.C x c e;let⟨T,x⟩:=jb s;have e:=kV (λl g ⟨c,h⟩=>À<|H.I _ _ _ _ h) s;obtain⟨D,y,c,l,K,L,M,N,O,P⟩:=p.Af H (kM<|.kU j) k (z w) fg fg C G x e;refine p.yi H a K L M e N (λ_ _=>rfl) O (J y c l) P (Wd.r p.M a (by rw[i];rfl)<|by rw[i];rfl) (p.C.r a (by rw[i];exact Ç _) (by rw[i];rfl) (by rw[i];rfl) (λq h=> ?_) (λq h=> ?_) (λr=>⟨λh=>(by cases h),λh=>(by cases h)⟩) (λh=>by rcases h with h|h|h<;>cases h) (λh=>by cases h) λ_ _=>p.C.S (λv q=>by rw[i]at q;cases q) λq=>by rw[i]at q;cases q) (qO<|by rw[i];simp only[fP.rk];omega) λh=>by cases h
 .rcases h with h|h|h|h<;>cases h;exact p.C.C j<|Á<|Á<|À i
 .rcases h with h|h|h<;>cases h;exact p.C.K j<|Á<|À i
end
section
variable{F:Ph}{E I:fN F}{S:Nat->Jd}{m K:Nat->gh}{z:Nat->ik}{o:Nat->e5}{d B:Array Ä}{u:ä}{C:Option (Nat×Nat)}
def afZ(y:Nat):E.G y<=1:=by
 unfold fN.G;split
 .cases E.N y with
  |none=>exact Ç _
  |some e=>cases e with
   |n7=>exact Ç _
   |fU p=>cases p<;>simp[lE,gY.kz,ju.kz]
   |jf N=>simp[lE,gY.kz]
 .omega
def WM(v:Int):kl F.C w (w.setCell (fG F.C)<|ë Ó v):=Á ⟨_,_,À U,U⟩
def N9(H:gL F)(p:PI F n zX E S m z o d w qJ)(h:kl F.C w W){G:GS}(a:gT W F.C G):Wd F {E with b:=G,a:=E.a} W:= h.I H p.a p.C p.M mM (Ga:=G) (Gg:=E.a) ⟨λ_=>a,λe=>absurd U e⟩ λb c=>⟨λe=>absurd e.symm<|H.C.M b c,λ_=>rfl⟩
def Oa(H:gL F)(p:PI F n zX E S m z o d w qJ)(h:kl F.C w W)(c:i<d.size):fD {o i with w:=w} w W:=by have D:=h.r p.a H.C mM;exact⟨Ô D.r.symm,λb f=>D.jF b<|p.I.r.I _ c b f,λa e=>D.M _ c a e,λa e=>D.N _ c a e,λa _=>D.I a⟩
def yj{l:e5}{b:Ð}(r:fD {l with w:=W} jX b):fD l jX b:=⟨r.r,r.I,r.N,r.Y,r.S⟩
def PI.af0(H:gL F)(p:PI F n zX E S m z o d w qJ)(D:d[0]?=Ã g)(iB:g.status=Å)(ht:m 0=.fu)(a:E.M=.iu j):jN F n zX E m d w qJ C 0:=by
 have O:=iG D;have Q:=p.sk D iB ht w<|p.I.r.r _ O;rw[a]at Q;let⟨hd,_,hA⟩:=Q;have hj:=p.C.C j<|Á<|Á<|Á a;have hj1:=p.C.K j<|Á<|Á a;have n5:E.r=j:=by unfold fN.r;rw[a];rfl
 have Fz:=H.C.fV;let⟨c,G⟩:=p.C.S (λv q=>by rw[a]at q;cases q) (λq=>by rw[a]at q;cases q);let⟨FJ,_⟩:=p.C.t c 0 G;have hcn:c<=F.n+1:=by rw[FJ];exact Fw afZ
 have I:=G▸p.M.C;let⟨hv,J⟩:=I.aeN Z;have K:=hA (GS.cl c 0).st;rw[hv]at K J;obtain⟨b,V⟩:∃b,(GS.cl (c+1) 0).st=b:=⟨_,U⟩;rw[V]at K J;let⟨L,h1,k⟩:=K;have CC:=h1 w I.C I.I;have t:=WM (F:=F) (w:=w) b;have vV:=Oa H p t O;have M:b=(c+1:Int)*fS:=by rw[<-V];simp only[GS.st,fS];omega
 obtain⟨x,v,N⟩:∃x:fP,(x=.rd j\/x=.kU j)/\fe F.P Ì (JM F E.I x) {o 0 with w:=w} L:=by
  by_cases l:c=0
  .have e:b=fS:=by rw[M,l];simp[fS]
   simp only[if_pos e]at k;exact⟨.rd j,À U,k⟩
  .have r:¬b=fS:=by simp only[fS]at M|-;omega
   have s:fS<b/\b<1000000*fS/\b%fS=0:=by simp only[fS]at M|-;omega
   simp only[if_neg r,if_pos s]at k;exact⟨.kU j,Á U,k⟩
 let⟨T,hT⟩:=jb<|N.jM vV;have X:L.status=Å\/L.status=å:=by
  rcases v with rfl|rfl
  .exact kV (λl g h=>À h.2.1) N
  .exact kV (λl g ⟨c,h⟩=>À<|H.I _ _ _ _ h) N
 obtain⟨B,u,q1,q2,q3,q4,q5,q6,q7⟩:=p.Y H (kM x) D (À U) mM CC t (Aa mM) U (λx l e=>(yh H.C x l e).elim) hT X;have l:x.ad F.n=j+1:=by rcases v with rfl|rfl<;>rfl
 have Y:E.M.ad F.n=j:=by rw[a];rfl
 have FN:x.sp F.n=j:=by rcases v with rfl|rfl<;>rfl
 have hxr:x.gu=0:=by rcases v with rfl|rfl<;>rfl
 have e:iO E x E.I:=⟨FN.trans n5.symm,λ_ _=>rfl⟩;have si:Ñ (F.n+1) (ij E x (.cl (c+1) 0) E.I).G=c+1:=by
  have h:=vR (f:=E.G) (f':=(ij E x (.cl (c+1) 0) E.I).G) (j:=j) (n:=F.n+1) Z (λi y=>by
   show(if i<x.ad F.n then lE (E.N i)else 0)=if i<E.M.ad F.n then lE (E.N i)else 0
   rw[l,Y];by_cases q:i<j
   .rw[if_pos q,if_pos Z]
   .rw[if_neg q,if_neg Z])
  have r:E.G j=0:=by unfold fN.G;rw[Y,if_neg Z]
  have s:(ij E x (.cl (c+1) 0) E.I).G j=1:=by show(if j<x.ad F.n then lE (E.N j)else 0)=1;rw[l,if_pos Z,p.C.h j Z];rfl
  rw[r,s]at h;omega
 refine p.yi H e q1 q2 q3 X q4 (λr s=>t.C p.C mM s) q5 q6 q7 (Wd.r (N9 H p t J) e (by rw[a];rcases v with rfl|rfl<;>rfl) (by rw[a];rcases v with rfl|rfl<;>rfl)) (p.C.ij e (by rw[a];exact ò _) (λr h=> ?_) (λr h=> ?_) (λr=>⟨λh=> ?_,λh=> ?_⟩) (λi s h=> ?_) (λs h=>by cases h) (λr s h=>by cases h) (λy i h=> ?_) (λh=> ?_) (λh=> ?_) λ_ _=>⟨_,rfl⟩) (qO (by rw[a];rcases v with rfl|rfl<;>simp only[fP.rk]<;>omega)) (λh=>by rcases v with rfl|rfl<;>cases h)
 .rcases v with rfl|rfl<;>rcases h with h|h|h|h<;>cases h<;>exact hj
 .rcases v with rfl|rfl<;>rcases h with h|h|h<;>cases h<;>exact hj1
 .rcases v with rfl|rfl<;>cases h
 .rcases v with rfl|rfl<;>cases h
 .cases h;exact⟨si.symm,hxr.symm⟩
 .have:=p.C.N y i h;rw[G]at this;exact⟨λW q=>(by have:=(this.1 W q).2;cases this),λr hr=>(by let⟨_,_,s,h⟩:=this.2 r hr;cases h)⟩
 .rcases v with rfl|rfl<;>rcases h with h|h|h<;>cases h
 .rcases v with rfl|rfl<;>cases h
theorem PI.af2(H:gL F)(p:PI F n zX E S m z o d w qJ)(c:d[0]?=Ã g)(e:g.status=Å)(i:m 0=.fu)(b:E.M=.iC 0):qM F n zX E m d w qJ:=by have f:=p.sk c e i;rw[b]at f;have a:iO E (.kF F.n) E.I:=mj (by rw[b];rfl);refine p.Ji H (T:=.fu) a c e (λh q=>f h<|(p.I.r.r _<|iG c).e8<|yj q) (by rw[b];simp[fP.lU]) (by rw[b];simp[fP.iV]) (p.C.r a (by rw[b];exact ò _) (by rw[b];rfl) (by rw[b];rfl) (λq h=> ?_) (λq h=> ?_) (λr=>⟨λh=>(by cases h),λh=> ?_⟩) (λh=>by rcases h with h|h|h<;>cases h) (λh=>by cases h) λ_ _=>p.C.S (λv q=>by rw[b]at q;cases q) λq=>by rw[b]at q;cases q) (qO<|by rw[b];simp only[fP.rk];omega) (λh=>by cases h);all_goals grind
theorem PI.af3(H:gL F)(p:PI F n zX E S m z o d w qJ)(c:d[0]?=Ã g)(e:g.status=Å)(i:m 0=.fu)(b:E.M=.kF 0):qM F n zX E m d w qJ:=by have f:=p.sk c e i;rw[b]at f;have a:iO E (.ft .iP) E.I:=mj (by rw[b];rfl);refine p.Ji H (T:=.fu) a c e (λh r=>f h<|(p.I.r.r _<|iG c).e8<|yj r) (by rw[b];rfl) (by rw[b];simp[fP.iV]) (p.C.r a (by rw[b];simp[fP.iV]) (by rw[b];rfl) (by rw[b];rfl) (λr h=> ?_) (λr h=> ?_) (λr=>⟨λh=>(by cases h),λh=>(by cases h)⟩) (λh=>by rcases h with h|h|h<;>cases h) (λh=>by cases h) λh _=>absurd rfl<|h _) (qO<|by rw[b];simp only[fP.rk,jg.rk];omega) (λh=>by cases h);all_goals grind
def Ar{v:jg}:∀j,(fP.ft v=.go j\/fP.ft v=.kU j\/fP.ft v=.rd j\/fP.ft v=.iu j)->j<=F.n:=λj h=>by rcases h with h|h|h|h<;>cases h
def As{v:jg}:∀j,(fP.ft v=.kU j\/fP.ft v=.rd j\/fP.ft v=.iu j)->1<=j:=λj h=>by rcases h with h|h|h<;>cases h
def At{v:jg}:∀r,(fP.ft v=.iC r->r<=F.q)/\(fP.ft v=.kF r->r<=F.n):=λr=>⟨λh=>(by cases h),λh=>(by cases h)⟩
def PI.af4(H:gL F)(p:PI F n zX E S m z o d w qJ)(c:d[0]?=Ã g)(e:g.status=Å)(i:m 0=.fu)(b:E.M=.ft .iP):qM F n zX E m d w qJ:=by have f:=p.sk c e i w<|p.I.r.r _<|iG c;rw[b]at f;let⟨k,q,j,l⟩:=f;have a:iO E (.ft (.lD (.fT k))) E.I:=mj (by rw[b];rfl);exact p.Ji H (T:=.fu) a c e (λr h=>⟨j,IK l h⟩) (by rw[b];rfl) (by rw[b];rfl) (p.C.r a (by rw[b];exact Ç _) (by rw[b];rfl) (by rw[b];rfl) Ar As At (λh=>by rcases h with h|h|h<;>cases h) (λh=>by cases h) λh _=>absurd rfl<|h _) (qO<|by rw[b];simp only[fP.rk,jg.rk];omega) λh=>by cases h
theorem PI.af5(H:gL F)(p:PI F n zX E S m z o d w qJ){v:SP}(k:d[0]?=Ã g)(iB:g.status=Å)(ht:m 0=.fu)(b:E.M=.ft (.lD v)):jN F n zX E m d w qJ C 0:=by
 have gH:=iG k;have hJ:=p.sk k iB ht w<|p.I.r.r _ gH;rw[b]at hJ;obtain⟨hd,X⟩:=hJ;have hG:=p.M.C;obtain⟨_,X⟩:=Wi X hG;have Y:E.M.iV F.n<=F.n:=by rw[b];exact Ç _
 rcases X with⟨q,g',es,j,i,P,h4⟩|⟨g',j,i,P⟩|⟨g',c,f,Q,tf,j,i⟩
 .have r:∀e∈es,td F.toFx e:=by
   grind [xZ,mM]
  obtain⟨s,V,l⟩:=P;obtain⟨B,u,t,D,I,K,L,M,N⟩:=p.Y (J:=JM F E.I<|.ft (.lD q)) (T:=.fu) H (kM<|.ft (.lD q)) k (À U) mM j (À U) r (by rcases i with rfl|rfl<;>rfl) (λx y e=>(yh H.C x y e).elim) (λh a=>⟨hd,IK ⟨s,V,l⟩ a⟩)<|À (l _ _ V).1;have a:iO E (.ft (.lD q)) E.I:=mj (by rw[b];rfl);exact p.yi H a t D I (À (l _ _ V).1) K (λ_ _=>rfl) L M N (Wd.r p.M a (by rw[b];rfl)<|by rw[b];rfl) (p.C.r a Y (by rw[b];rfl) (by rw[b];rfl) Ar As At (λh=>by rcases h with h|h|h<;>cases h) (λh=>by cases h) λh _=>absurd rfl<|h _) (afW b ht h4) λh=>by cases h
 .obtain⟨T,hT⟩:=jb P;have O:=kV (λl g h=>À h.2.1) P;obtain⟨B,u,t,D,I,K,L,M,N⟩:=p.Y H (kM<|.ft .kK) k (À U) mM j (À U) (xZ mM) U (λx y e=>(yh H.C x y e).elim) hT O;have a:iO E (.ft .kK) E.I:=mj (by rw[b];rfl);refine p.yi H a t D I O K (λ_ _=>rfl) L M N (Wd.r p.M a (by rw[b];rfl)<|by rw[b];rfl) (p.C.r a Y (by rw[b];rfl) (by rw[b];rfl) Ar As At (λ_=> ?_) (λh=>by cases h) λh _=>absurd rfl<|h _) (qO<|by rw[b];simp only[fP.rk,jg.rk];omega) (λh=>by cases h);cases V:E.b with
  |cl c f=>have:=i c f V;have:=(p.C.t c f V).1;omega
  |jr f=>exact(p.C.g f V).1
  |gQ r s=>exact(p.C.u r s V).1
 .obtain⟨e1,V⟩:=p.C.t c f Q;rw[b]at V;have V:f=0:=V;subst V;obtain⟨hv,FA⟩:=(Q▸hG).VW tf Z;rw[Q,hv]at j;rw[hv]at FA;rw[Q]at i;have e:(GS.cl c 0).st%fS=0:=by simp only[GS.st,fS];omega
  simp only[e,if_true]at i;have W:=WM (F:=F) (w:=w) (GS.cl c<|0+1).st;obtain⟨T,hT⟩:=jb<|i.jM<|Oa H p W gH;have O:=kV (λl g h=>À h.2.1) i;obtain⟨B,u,t,D,I,K,L,M,N⟩:=p.Y H (kM<|.ft .wr) k (À U) mM j W (Aa mM) U (λx y e=>(yh H.C x y e).elim) hT O;have a:iO E (.ft .wr) E.I:=mj (by rw[b];rfl);refine p.yi H a t D I O K (λy l=>W.C p.C mM l) L M N (Wd.r (N9 H p W FA) a (by rw[b];rfl)<|by rw[b];rfl) (p.C.ij a Y Ar As At (λl f h=> ?_) (λf h=>by cases h) (λr s h=>by cases h) (λy q h=> ?_) (λh=>by rcases h with h|h|h<;>cases h) (λh=>by cases h) λh _=>absurd rfl<|h _) (qO<|by rw[b];simp only[fP.rk,jg.rk];omega) λh=>by cases h
  .rw[(N8 (E:=E) (x:=.ft .wr) (G:=.cl c (0+1)) (dk:=E.I)<|by rw[b];rfl)];cases h;exact⟨e1,U⟩
  .have:=p.C.N y q h;grind
def PI.af6(H:gL F)(p:PI F n zX E S m z o d w qJ)(c:d[0]?=Ã g)(j:g.status=Å)(k:m 0=.fu)(b:E.M=.ft .wr):jN F n zX E m d w qJ C 0:=by have f:=p.sk c j k w<|p.I.r.r _<|iG c;rw[b]at f;let⟨L,_,M,q,i⟩:=f;have a:iO E (.ft .kh) E.I:=mj (by rw[b];rfl);let⟨r,s,t⟩:=NO H p mM (À U) (Á U) (À ⟨U,U⟩) λx h e=>yh H.C x h e;let⟨T,x⟩:=jb i;have e:=kV (λl g h=>À h.2.1) i;obtain⟨B,y,l,u,v,D,G,I,J,K⟩:=p.Af H (kM<|.ft .kh) c (q w) fg fg r s x e;exact p.yi H a v D G e I (λ_ _=>rfl) J (t y l u) K (Wd.r p.M a (by rw[b];rfl)<|by rw[b];rfl) (p.C.r a (by rw[b];exact Ç _) (by rw[b];rfl) (by rw[b];rfl) Ar As At (λh=>by rcases h with h|h|h<;>cases h) (λh=>by cases h) λh _=>absurd rfl<|h _) (qO<|by rw[b];simp only[fP.rk,jg.rk];omega) λh=>by cases h
def PI.af7(H:gL F)(p:PI F n zX E S m z o d w qJ)(i:d[0]?=Ã g)(s:g.status=Å)(t:m 0=.fu)(f:E.M=.ft .gp):jN F n zX E m d w qJ C 0:=by have k:=p.sk i s t w<|p.I.r.r _<|iG i;rw[f]at k;let⟨P,_,v⟩:=k;let⟨a,b,y⟩:=p.C.O f;have q:=p.M.C;rw[y]at q;let⟨Q,D,j⟩:=v 0;simp only[if_true]at j;have c:iO E (.ft .kK) E.I:=mj (by rw[f];rfl);let⟨T,G⟩:=jb j;have r:=kV (λl g h=>À h.2.1) j;obtain⟨B,u,l,I,J,K,L,M,N⟩:=p.Y H (kM<|.ft .kK) i (À U) mM (D w q.C) (À U) (xZ mM) U (λx O e=>(yh H.C x O e).elim) G r;exact p.yi H c l I J r K (λ_ _=>rfl) L M N (Wd.r p.M c (by rw[f];rfl)<|by rw[f];rfl) (p.C.r c (by rw[f];exact Ç _) (by rw[f];rfl) (by rw[f];rfl) Ar As At (λ_=>p.C.B<|À f) (λh=>by cases h) λh _=>absurd rfl<|h _) (qO<|by rw[f];simp only[fP.rk,jg.rk];omega) λh=>by cases h
theorem PI.af8(H:gL F)(p:PI F n zX E S m z o d w qJ){g:Ä}(f:d[0]?=Ã g)(j:g.status=Å)(v:m 0=.fu)(b:E.M=.ft .kh):jN F n zX E m d w qJ C 0:=by
 have D:=iG f;have I:=p.sk f j v w<|p.I.r.r _ D;rw[b]at I;obtain⟨hd,_,J,NQ,g',h1,K⟩:=I;have L:=p.M.C;by_cases M:E.b.sm=0
 .have s:=L.M;rw[M]at s;obtain⟨Q,l⟩:=p.h;rw[b]at Q l;obtain⟨B,t,c,q,O⟩:=Ni f<|NQ w s;have hw:∀x,Ā F.P g {g with status:=Ü} w x=x:=by
   intro x;unfold Ā;grind
  have r:∀k,k≠0->B[k]?=d[k]?:=by grind
  have V:gD F.P F.S E.Y S m z o B w (qJ++#[]):=by
   rw[Ú];obtain⟨g0,W,T,f3,f4⟩:=p.I.C _ g f;have X:g=g0:=by
    rw[l]at T;cases T with
    |fY=>rfl
    |ni h J=>cases j
   subst X;refine⟨?_,λk y a=> ?_,λk a=>p.I.I k<|by rwa[<-c]⟩
   .rw[show(λi=>i<B.size)=(λi=>i<d.size) by rw[c]];exact p.I.r
   .by_cases e:k=0
    .subst e;rw[q]at a;obtain rfl:=È a;refine⟨g,W,?_,À j,Á v⟩;rw[l];exact .ni j J
    .rw[r k e]at a;exact p.I.C k y a
  refine⟨E,S,m,z,o,B,w,#[],t,c,λh=>h,.r p.N (c.trans p.b) V (by rw[c];exact p.a) p.M p.C (by rw[Ú];exact p.d) (λk y a i=> ?_) (by rw[Ú];exact p.f),NH (λ_ _=>rfl) (by unfold Ph.N;omega) (by rw[CB f,if_pos j]) (by rw[CB q,if_neg fg]) λk a=>NP<|r k a⟩;by_cases e:k=0
  .grind
  .rw[r k e]at a;exact p.c k y a i
 .obtain⟨a,s,Q⟩:=Wn M;have k:=Q▸L;have CC:=h1 w _ (by simp only[GS.sm];omega) k.M k.N;have i:kl F.C w (w.setCell (gP F.C)<|ë ç<|(GS.gQ a<|s+1).sm-1):=Á ⟨_,_,Á U,U⟩;obtain⟨T,hT⟩:=jb<|K.jM<|Oa H p i D;have V:=kV (λl g h=>À h.2.1) K;obtain⟨B,u,t,c,q,O,q5,q6,q7⟩:=p.Y H (kM<|.ft .gp) f (À U) mM CC i (Ft mM) (Fu _).2.2.2 (λx l e=>(yh H.C x l e).elim) hT V;obtain⟨W,l,b3⟩:=p.C.u a (s+1) Q;rw[b]at l;have l:a+(s+1)=1:=l;have ha:a=0:=Z
  have hs0:s=0:=Z
  subst ha hs0;have e:iO E (.ft .gp) E.I:=mj (by rw[b];rfl);have X:=N8 (E:=E) (x:=.ft .gp) (G:=.gQ 0 0) (dk:=E.I) (by rw[b];rfl);refine p.yi H e t c q V O (λj' r=>i.C p.C mM r) q5 q6 q7 (Wd.r (N9 H p i k.kh) e (by rw[b];rfl)<|by rw[b];rfl) (p.C.ij e (by rw[b];exact Ç _) Ar As At (λc' r h=>by cases h) (λr h=>by cases h) (λr s h=> ?_) (λy r h=> ?_) (λ_=>by rwa[X]) (λ_=>⟨0,0,U⟩) λh _=>absurd U<|h _) (qO<|by rw[b];simp only[fP.rk,jg.rk];omega) λh=>by cases h
  .rw[X];cases h;exact⟨W,U,λh=>by omega⟩
  .have:=p.C.N y r h;grind
end
section
variable{S:Nat->Jd}{a:Nat->gh}{d:Nat->ik}{f:Nat->e5}{b:Array Ä}
def gD.af9(q:gD P i X S a d f b w qJ)(r:b[k]?=Ã g)(h:xO n É g):∃z,d k=.sd n z:=by
 let⟨l,u,v,j,s,m,y,t⟩:=h;let⟨g0,_,o,p,_⟩:=q.C k g r;generalize d k=K at o;cases o with
 |fY=>rw[l]at p;rcases p with e|e<;>cases e
 |ni h e=>simp only[e]at j;cases j
 |sZ e z h=>
  simp only[Ļ,Ķ,Prod.mk.injEq]at j;rw[<-j.1]at m;have:s=œ e z:=by simpa using m
  subst this;have:e=n:=by simpa[œ]using t
  subst this;exact⟨z,U⟩
 |mJ e z h=>cases l
def gD.WN(o:gD P i X S a d f b w qJ){x:Ä}(p:b[k]?=Ã x)(j:x.status=Ü)(q:d k=.sd n z):∃g,x=Ļ g #[œ n z] (.recv Ì):=by
 let⟨g,_,l,m,_⟩:=o.C k x p;rw[q]at l;cases l with
 |fY=>rw[j]at m;rcases m with e|e<;>cases e
 |sZ _ _ h=>exact⟨g,U⟩
 |mJ _ _ h=>cases j
def aga{g0:Ä}:xO i É (Ļ g0 #[œ i z]<|.recv Ì):= ⟨U,_,_,U,œ i z,fg,U,by simp[œ]⟩
theorem agb{g0:Ä}{r:Nat}(h:w.heap[i]?=Ã (.chan n q Ì j r yQ)):((Ļ g0 #[œ i z]<|.recv Ì).again w).status=Å:=by unfold ď Ļ;simp[œ,h]
theorem agc(h:(g.again w).status=Ü):g.again w=g/\g.status=Ü:=by unfold ď at h|-;grind
end
section
variable{F:Ph}{E C:fN F}{S:Nat->Jd}{a D:Nat->gh}{d:Nat->ik}{f:Nat->e5}{b m:Array Ä}{u:ä}{o:Option (Nat×Nat)}
def PI.WO(p:PI F j zX E S a d f b w qJ){x:Ä}(n:b[k]?=Ã x)(h:xO i É x):∃g,g+2<=E.r/\E.N (g+1)=Í/\k=F.L+1+g/\E.I g=i/\∃r,E.C g=.mK r:=by
 let⟨z,l⟩:=p.I.af9 n h;have s:=iG n;by_cases o:k=0
 .subst o;rw[p.h.2]at l;revert l;cases E.M with
  |ft v=>cases v<;>intro h<;>cases h
  |_=>intro h;cases h
 by_cases q:k<F.L
 .rw[(p.l k Z q).2.2]at l;cases l
 have t:=p.b;obtain⟨y,rfl⟩:∃y,k=F.L+y:=⟨k-F.L,Z⟩;cases m:E.N y with
 |some e=>rw[(p.k y e Z m).2.1]at l;cases l
 |none=>
  cases y with
  |zero=>rw[ó,(p.m Z m).2]at l;cases l
  |succ g=>
   rw[show F.L+(g+1)=F.L+1+g by omega,(p.g g Z m).2]at l;cases e:E.C g with
   |mK r=>
    rw[e]at l;injection l with l _;exact⟨g,Z,m,Z,l,r,e⟩
   |ft r v=>rw[e]at l;cases v<;>cases l
   |jy r=>rw[e]at l;cases l
   |nZ r=>rw[e]at l;cases l
theorem WQ(h:s7 n j i k)(c:1<=n)(a:j=i%n):i=j+k*n:=by
 have e:i=j+i/n*n:=by rw[a,Nat.mul_comm];exact(Nat.mod_add_div i n).symm
 have b:k=i/n:=by
  refine Nat.le_antisymm (ă λq=> ?_)<|ă λq=> ?_
  .have:=(h<|i/n).1 q;omega
  .have d:=mt (h k).2 Z;have f:(k+1)*n<=i/n*n:=č n q;grind
 rwa[b]
theorem WR(h:s7 n j i k)(b:1<=n)(c:j=i%n):s7 n j (i+1) (k+1):=by
 have e:=WQ h b c;intro a;constructor
 .intro q;have:a*n<=k*n:=č n Z;omega
 .intro q;refine ñ λd=> ?_;have:(k+1)*n<=a*n:=č n d;grind
theorem WS(h:s7 n j i k)(b:j<n)(c:j≠i%n):s7 n j (i+1) k:=by intro a;rw[h a];grind [ē,ļ]
def PI.agd(H:gL F)(p:PI F j zX E S a d f b w qJ){r:Nat}(hi:b[0]?=Ã g)(iB:g.status=Å)(ht:a 0=.fu)(D:E.M=.iC (r+1)):jN F j zX E a b w qJ o 0:=by
 have hn:=H.C.N;have Ja:=(p.C.L<|r+1).1 D;have n5:E.r=F.n+1:=by unfold fN.r;rw[D];rfl
 obtain⟨hs,hk⟩:=p.h;rw[D]at hs hk;obtain⟨Q,hQ⟩:∃Q,Q=F.q-(r+1):=⟨_,U⟩;obtain⟨c,hj⟩:∃c,c=Q%F.n:=⟨_,U⟩;have hs:S 0=zS F.P (0==0) (E.I c) (F.c Q) (Fj F E.I r):=by rw[hs,hj,hQ];rfl
 have uO:c<F.n:=by rw[hj];exact ż _ hn
 have V:c+2<=E.r:=Z
 have hY:E.Y (E.I c):=Á<|Á ⟨c,V,U⟩;obtain⟨X,s,hc,tj,Jj,yc,yd⟩:=p.M.jv c V;have o7:decide (c<E.M.iV F.n)=É:=by rw[D];simp[fP.iV]
 rw[o7]at hc;have FD:E.M.lU F.q=Q:=by rw[D,hQ];rfl
 rw[FD]at tj;have eQ:=WQ tj hn hj;have hsQ:s<=s*F.n:=â _ hn;have WT:(fP.iC r).lU F.q=Q+1:=by simp only[fP.lU];omega
 have CH:=(p.I.r).N _ hY;have WU:∀t,(fP.iC r=.go t\/fP.iC r=.kU t\/fP.iC r=.rd t\/fP.iC r=.iu t)->t<=F.n:=λt h=>by rcases h with h|h|h|h<;>cases h
 have WV:∀t,(fP.iC r=.kU t\/fP.iC r=.rd t\/fP.iC r=.iu t)->1<=t:=λt h=>by rcases h with h|h|h<;>cases h
 have WW:∀K,(fP.iC r=.iC K->K<=F.q)/\(fP.iC r=.kF K->K<=F.n):=λK=>⟨λh=>(by cases h;omega),λh=>(by cases h)⟩;have aM:=p.C.S (λv q=>by rw[D]at q;cases q) (λq=>by rw[D]at q;cases q);by_cases hp:∃(k:Nat) (x:Ä),b[k]?=Ã x/\xO (E.I c) É x
 .obtain⟨k,gj,Cn,lV⟩:=hp;obtain⟨t,n8,he,rfl,Au,K,Av⟩:=p.WO Cn lV;have ej:=p.C.M _ _ n8 V Au;subst ej;have hb:=lV.1;obtain⟨IQ,IP⟩:=p.g t n8 he;rw[Av]at IQ IP;have agf:S (F.L+1+t)=vL F.P (F.L+1+t==0) (E.I t) F.z λx=>match x with
   |some v=>λl g=>v=F.c (t+K*F.n)->pZ F.P É F.B (F.I<|F.r<|t+K*F.n) (F.e (E.I t)<|t+K*F.n) .iP l g
   |none=>zY F:=by rw[ya H.C t];exact IQ
  have kT:F.L+1+t≠0:=Z
  have Nq:a (F.L+1+t)=.fu:=by obtain⟨g0,_,i,e,h4⟩:=p.I.C _ gj Cn;refine h4.resolve_left λq=> ?_;subst q;rw[hb]at e;rcases e with q|q<;>cases q
  have NU:X=#[]:=by
   rcases p.c _ gj Cn hb with⟨h1,_⟩|⟨C,_,_,h2,⟨G,W,_⟩|⟨G,cap,i,e,W,h4⟩⟩
   .exact absurd h1 kT
   .have:C=t:=Z
    subst this;rw[Av]at W;cases W
   .have:C=t:=Z
    subst this;rw[hc]at h4;injection h4 with h4;injection h4
  subst NU;rw[Av]at hc Jj yc;simp only[gF.iE]at hc Jj yc;have hsr:s=K:=by simp at yc;omega
  subst hsr;obtain⟨m,u,T,Tj,g',gj',q1,q2,q3,q4,q5,q6,q7,q8,q9⟩:=p.I.aeJ hi hk ht hs hY hc kT Cn hb IP Nq agf (kW F (E.I t)<|.ft s .iP) (λI O M e i=>by obtain⟨j3,a1,_,a3,y,_⟩:=p.WO e i;have:=p.C.M _ _ a1 V y;omega);have WX:=q9.ky (J:=JW F (E.I t) t<|.ft s .iP) (λl g h=>by rw[fC _ _ kT,gw]at h;exact h<|by rw[eQ]);have e10:fq (fq (fq S (F.L+1+t) ((match(Ã (F.c Q):Option ã)with
   |some v=>λl g=>v=F.c (t+s*F.n)->pZ F.P É F.B (F.I<|F.r<|t+s*F.n) (F.e (E.I t)<|t+s*F.n) .iP l g
   |none=>zY F))) 0 (Fj F E.I r)) (F.L+1+t) (JW F (E.I t) t (.ft s .iP))=fq (fq S (F.L+1+t) (JW F (E.I t) t (.ft s .iP))) 0 (JM F E.I (.iC r)):=by
   funext k;by_cases v:k=F.L+1+t
   .subst v;rw[gw,fC _ _ kT,gw]
   .by_cases k2:k=0
    .subst k2;rw[fC _ _<|ÿ kT,gw,gw];rfl
    .rw[fC _ _ v,fC _ _ k2,fC _ _ v,fC _ _ k2,fC _ _ v]
  rw[e10]at WX;have Pw:=p.C.G (x:=.ft s .iP) V he (λk=>by rw[Av,NN U];rfl) (λG h=>by rcases h with⟨_,h⟩|h|h<;>cases h;exact Z) (λG h=>by rcases h with h|h|h<;>cases h) (λG h=>by cases h) (λG h=>by cases h);have l:iO (gJ E t<|.ft s .iP) (.iC r) E.I:=⟨by show _=E.M.sp F.n;rw[D];rfl,λ_ _=>rfl⟩;have e:(ij (gJ E t<|.ft s .iP) (.iC r) E.b E.I).r=E.r:=l.r;obtain⟨z1,z2,z3,z4,z5⟩:=p.M.G H p.a p.C V;refine⟨ij (gJ E t<|.ft s .iP) (.iC r) E.b E.I,_,_,_,_,m,_,u,q1,q2,(λh=>by have h:=h;cases h),.r ((p.N.N H.C V he).ij H.C l) (by rw[e];exact q2.trans p.b) (by rw[Aq l];exact WX) ?_ ⟨z4,z5,λC vU=> ?_,z1,z2,λC vU G zP h1=> ?_⟩ (Pw.r l (by show E.M.iV F.n<=_;rw[D];exact ò _) (by show _=E.M.ad F.n;rw[D];rfl) (by show _=E.M.gu;rw[D];rfl) WU WV WW (λh=>by rcases h with h|h|h<;>cases h) (λh=>by cases h) λ_ _=>aM) (by rw[e];exact Jc p.d q8) (λk y M kA=> ?_) λC G a1 a2 a3=> ?_,?_⟩
  .rw[q2];exact(((p.a.r<|by rw[Av];rfl).G l).CF<|Ô FC.symm)
  .have yk:C+2<=E.r:=Z
   show∃X I,(w.setChan (E.I t) _ _ _ _ _ _).heap[E.I C]?=Ã (.chan F.q X (decide<|C<(fP.iC r).iV F.n) I ((gJ E t<|.ft s .iP).C C).iE É)/\s7 F.n C ((fP.iC r).lU F.q) I/\((gJ E t<|.ft s .iP).C C).iE<=I/\X.size=I-((gJ E t<|.ft s .iP).C C).iE/\∀i,i<I-((gJ E t<|.ft s .iP).C C).iE->X[i]?=Ã (F.c<|C+(((gJ E t<|.ft s .iP).C C).iE+i)*F.n);rw[WT];by_cases O:C=t
   .subst O;rw[jB];refine⟨#[],s+1,by rw[Jb CH];rfl,WR tj hn hj,Ç _,by simp[gF.iE],λi kR=> ?_⟩;have hi2:i<s+1-(s+1):=kR;omega
   .rw[iF _ O,pe λq=>O<|p.C.M _ _ yk V q];obtain⟨Ob,I,y1,y2,y3⟩:=p.M.jv C yk;rw[FD]at y2;refine⟨Ob,I,?_,WS y2 Z Z,y3⟩;rw[y1,D];rfl
  .have yk:C+2<=E.r:=Z
   have Ao:G<((gJ E t<|.ft s .iP).C C).kj:=h1;by_cases O:C=t
   .subst O;rw[jB]at Ao;exact z3 C yk G zP<|by rw[Av];exact Ao
   .rw[iF _ O]at Ao;exact z3 C yk G zP Ao
  .by_cases v:k=0
   .subst v;rw[q3]at M;obtain rfl:=È M;rw[q4]at kA;cases kA
   .by_cases k2:k=F.L+1+t
    .subst k2;rw[q5]at M;obtain rfl:=È M;rw[q6]at kA;cases kA
    .rw[q7 k v k2]at M;rcases p.c k y M kA with⟨h1,_⟩|⟨C,vU,yg,h2,W|⟨r1,cap,s1,K,W,h4⟩⟩
     .exact absurd h1 v
     .exact Á ⟨C,Z,yg,h2,À (by show∃G,(gJ E t _).C C=_/\_;rw[iF _ Z];exact W)⟩
     .have O:C≠t:=Z
      exact Á ⟨C,Z,yg,h2,Á ⟨r1,cap,s1,K,by show(gJ E t _).C C=_;rw[iF _ O];exact W,by show(w.setChan (E.I t) _ _ _ _ _ _).heap[E.I C]?=_;rw[pe λq=>O<|p.C.M _ _ vU V q];exact h4⟩⟩
  .have Ae:(gJ E t<|.ft s .iP).C C=.jy G:=a2;rw[iF _ (λe=>by subst e;rw[jB]at Ae;cases Ae)]at Ae;exact(p.f C G Z Ae a3).app u
  .refine À ⟨0,by unfold Ph.N;omega,À ?_,λk tu yl=> ?_⟩
   .show((ij (gJ E t<|.ft s .iP) (.iC r) E.b E.I).iK _ 0).1<(E.iK a 0).1;rw[Cs,Cs,D];show(fP.iC r).rk F<(fP.iC<|r+1).rk F;simp only[fP.rk];omega
   .show(ij (gJ E t<|.ft s .iP) (.iC r) E.b E.I).iK _ k=E.iK a k\/xV ((ij (gJ E t<|.ft s .iP) (.iC r) E.b E.I).iK _ k) (E.iK a k);by_cases k2:k=F.L+1+t
    .subst k2;refine Á<|À ?_;rw[s9 H.C (E:=ij (gJ E t<|.ft s .iP) (.iC r) E.b E.I) (show E.N (t+1)=Í from he),s9 H.C he];show((gJ E t<|.ft s .iP).C t).rk F<(E.C t).rk F;rw[jB,Av];simp only[gF.rk,jg.rk];have hm:F.n+3000<=(F.n+3000)*(F.q+3-s):=â _ Z;omega
    .refine À (xW (λh=>absurd h yl) (λ_ _=>rfl) (λ_=>rfl) (λ_ _=>rfl) (λh1 _=> ?_)<|by rw[fC _ _ yl,fC _ _ k2]);show((gJ E t<|.ft s .iP).C _).rk F=_;rw[iF _ Z]
 .obtain⟨m,u,T,g',q1,q2,q3,q4,q5,q6,q7⟩:=p.I.iC hi hk ht hs hY hc Z λk x hkx lV=>hp ⟨k,x,hkx,lV⟩;have e0:d=fq d 0 (kM<|.iC r):=by
   funext k;by_cases v:k=0
   .subst v;rw[gw,hk];rfl
   .rw[fC _ _ v]
  rw[e0]at q7;have l:iO E (.iC r) E.I:=mj (by rw[D];rfl);have e:(ij E (.iC r) E.b E.I).r=E.r:=l.r;obtain⟨z1,z2,z3,z4,z5⟩:=p.M.G H p.a p.C V;refine⟨ij E (.iC r) E.b E.I,_,_,_,_,m,_,u,q1,q2,(λh=>by have h:=h;cases h),.r (p.N.ij H.C l) (by rw[e];exact q2.trans p.b) (by rw[Aq l];exact q7) ?_ ⟨z4,z5,λC vU=> ?_,z1,z2,λC vU=>z3 C Z⟩ (p.C.r l (by rw[D];exact ò _) (by rw[D];rfl) (by rw[D];rfl) WU WV WW (λh=>by rcases h with h|h|h<;>cases h) (λh=>by cases h) λ_ _=>aM) (by rw[e];exact Jc p.d q6) (λk y M kA=> ?_) λC G a1 a2 a3=>(p.f C G Z a2 a3).app u,qO<|by rw[D];simp only[fP.rk];omega⟩
  .rw[q2];exact((p.a.G l).CF<|Ô FC.symm)
  .have yk:C+2<=E.r:=Z
   show∃X I,(w.setChan (E.I c) _ _ _ _ _ _).heap[E.I C]?=Ã (.chan F.q X (decide<|C<(fP.iC r).iV F.n) I (E.C C).iE É)/\s7 F.n C ((fP.iC r).lU F.q) I/\(E.C C).iE<=I/\X.size=I-(E.C C).iE/\∀i,i<I-(E.C C).iE->X[i]?=Ã (F.c<|C+((E.C C).iE+i)*F.n);rw[WT];by_cases O:C=c
   .subst O;refine⟨X.push<|F.c Q,s+1,by rw[Jb CH];rfl,WR tj hn hj,Z,by rw[Array.size_push];omega,λi kR=> ?_⟩;rw[Array.getElem?_push];by_cases G:i=X.size
    .rw[if_pos G,eQ,show(E.C C).iE+i=s by omega]
    .rw[if_neg G];exact yd i Z
   .rw[pe λq=>O<|p.C.M _ _ yk V q];obtain⟨Ob,I,y1,y2,y3⟩:=p.M.jv C yk;rw[FD]at y2;refine⟨Ob,I,?_,WS y2 Z Z,y3⟩;rw[y1,D];rfl
  .by_cases v:k=0
   .subst v;rw[q3]at M;obtain rfl:=È M;rw[q4]at kA;cases kA
   .rw[q5 k v]at M;rcases p.c k y M kA with⟨h1,_⟩|⟨C,vU,yg,h2,W|⟨r1,cap,s1,K,W,h4⟩⟩
    .exact absurd h1 v
    .exact Á ⟨C,Z,yg,h2,À W⟩
    .have O:C≠c:=λe=>by
      subst e;have G:=(p.g C vU yg).2;rw[W,<-h2]at G;obtain⟨g0,i⟩:=p.I.WN M kA G;exact hp ⟨k,y,M,by rw[i];exact aga⟩
     exact Á ⟨C,Z,yg,h2,Á ⟨r1,cap,s1,K,W,by show(w.setChan (E.I c) _ _ _ _ _ _).heap[E.I C]?=_;rw[pe λq=>O<|p.C.M _ _ vU V q];exact h4⟩⟩
end
section
variable{F:Ph}{E B:fN F}{S:Nat->Jd}{m D:Nat->gh}{o:Nat->ik}{G:Nat->e5}{c d:Array Ä}{u:ä}{sl:Option (Nat×Nat)}
theorem PI.agh(H:gL F)(p:PI F n zX E S m o G c w qJ)(hi:c[0]?=Ã g)(ht:m 0=.fu)(l:E.M=.kF (J+1)):jN F n zX E m c w qJ sl 0:=by
 have C:=p.I.r;have hL:=H.C.r;have Nr:=(p.C.L<|J+1).2 l;have n5:E.r=F.n+1:=by unfold fN.r;rw[l];rfl
 obtain⟨L,Q⟩:=p.h;rw[l]at L Q;obtain⟨j,hj⟩:∃j,j=F.n-(J+1):=⟨_,U⟩;have L:S 0=IJ F.P (0==0) (E.I j) (zZ F E.I J):=by rw[L,hj];rfl
 have z:j+2<=E.r:=Z
 have X:E.Y (E.I j):=Á<|Á ⟨j,z,U⟩;obtain⟨M,s,hc,tj,Jj,yc,yd⟩:=p.M.jv j z;have o7:decide (j<E.M.iV F.n)=É:=by rw[l];simp only[fP.iV];exact decide_eq_false Z
 rw[o7]at hc;have CH:=C.N _ X;have Cx:(w.setChan (E.I j) F.q M Ì s (E.C j).iE É).heap[E.I j]?=Ã (.chan F.q M Ì s (E.C j).iE É):=Jb CH;have aM:=p.C.S (λv q=>by rw[l]at q;cases q) (λq=>by rw[l]at q;cases q);obtain⟨d,u,T,g',q1,V,q3,q4,q5,q6,q7,q8,q9⟩:=p.I.kF hi Q ht L X (p.C.o j z).2.2 hc;have e0:o=fq o 0 (kM<|.kF J):=by
  funext k;by_cases B:k=0
  .subst B;rw[gw,Q];rfl
  .rw[fC _ _ B]
 rw[e0]at q9;have v:iO E (.kF J) E.I:=mj (by rw[l];rfl);have e:(ij E (.kF J) E.b E.I).r=E.r:=v.r;obtain⟨z1,z2,z3,z4,z5⟩:=p.M.G H p.a p.C z;have Cz:=p.d.C ⟨λD I a _=>q6 D I,À U,λD I a x ha hl _=> ?_,λD I a y ha _ hl=> ?_,λD I b _=>q8 D I _,λx _ _=>⟨λJ hr=>hr.appOther q6 Z,λe=>by omega⟩⟩;refine⟨ij E (.kF J) E.b E.I,_,_,_,_,d,_,u,q1,V,(λh=>by have h:=h;cases h),.r (p.N.ij H.C v) (by rw[e];exact V.trans p.b) (by rwa[Aq v]) ?_ ⟨z4,z5,λf N=> ?_,z1,z2,λf N=>z3 f Z⟩ (p.C.r v (by rw[l];simp only[fP.iV];omega) (by rw[l];rfl) (by rw[l];rfl) (λi h=> ?_) (λi h=> ?_) (λr'=>⟨λh=>(by cases h),λh=> ?_⟩) (λh=>by rcases h with h|h|h<;>cases h) (λh=>by cases h) λ_ _=>aM) (by rwa[e]) (λk y s5 kA=> ?_) λf i W t K=>(p.f f i Z t K).app u,qO<|by rw[l];simp only[fP.rk];omega⟩
 .rw[V];exact((p.a.C<|Ô FC.symm).G v)
 .have W:f+2<=E.r:=Z
  show∃K t,(w.setChan (E.I j) F.q M Ì s (E.C j).iE É).heap[E.I f]?=Ã (.chan F.q K (decide<|f<(fP.kF J).iV F.n) t (E.C f).iE É)/\s7 F.n f ((fP.kF J).lU F.q) t/\(E.C f).iE<=t/\K.size=t-(E.C f).iE/\∀i,i<t-(E.C f).iE->K[i]?=Ã (F.c<|f+((E.C f).iE+i)*F.n);have agi:(fP.kF J).lU F.q=E.M.lU F.q:=by rw[l];rfl
  rw[agi];by_cases O:f=j
  .subst O;refine⟨M,s,?_,tj,Jj,yc,yd⟩;rw[Cx,show decide (f<(fP.kF J).iV F.n)=Ì from decide_eq_true (by simp only[fP.iV];omega)]
  .rw[pe λq=>O<|p.C.M _ _ W z q];obtain⟨K,t,y1,y2⟩:=p.M.jv f W;refine⟨K,t,?_,y2⟩;rw[y1,l];have:decide (f<(fP.kF<|J+1).iV F.n)=decide (f<(fP.kF J).iV F.n):=by
    apply decide_eq_decide.2;simp only[fP.iV];omega
   rw[this]
 .grind
 .grind
 .cases h;omega
 .by_cases B:k=0
  .grind
  .obtain⟨h,t⟩:∃h,c[k]?=Ã h:=by
    grind
   rw[q5 k h B t]at s5;obtain rfl:=È s5;obtain⟨_,Oc⟩:=agc kA;rcases p.c k h t Oc with⟨h1,_⟩|⟨f,N,K,W,i|⟨r1,cap,s1,r',i,h4⟩⟩
   .exact absurd h1 B
   .exact Á ⟨f,Z,K,W,À i⟩
   .have O:f≠j:=λe=>by
     subst e;have Jk:=(p.g f N K).2;rw[i,<-W]at Jk;obtain⟨g0,vW⟩:=p.I.WN t Oc Jk;grind [agb]
    exact Á ⟨f,Z,K,W,Á ⟨r1,cap,s1,r',i,by show(w.setChan (E.I j) _ _ _ _ _ _).heap[E.I f]?=_;rwa[pe λq=>O<|p.C.M _ _ N z q]⟩⟩
 .grind
 .grind
def Jl(F:Ph)(zX:π->Prop)(qJ:ä):Prop:=
 (∀p a,touchAt qJ p=Ã a->a.loc.isMemory=Ì->Λ qJ 0 p\/((zX a.loc\/∃x:Č,a.loc=ú x/\x.block=F.C)/\a.kind=.atomic))/\qJ.HandedOver
def Od{f:Nat->Nat}:∀{n:Nat},Ñ n f=0->∀i,i<n->f i=0
 |n+1,h,i,hi=>by
  simp only[Ñ]at h;rcases ģ i n with q|q
  .exact Od Z i q
  .have:i=n:=Z
   subst this;omega
theorem PI.agj(H:gL F)(p:PI F n zX E S m o G c w qJ)(r:c[0]?=Ã g)(K:g.status=Å)(L:m 0=.fu)(f:E.M=.ft .kK): ∃(B:fN F) (b:Nat->Jd) (D:Nat->gh) (j:Nat->ik) (h:Nat->e5) (d:Array Ä) (W:Ð) (u:ä),Ŏ F.P (ð c w sl) 0=(ğ<|ð d W sl,u)/\d.size=c.size/\PI F n zX B b D j h d W (qJ++u)/\B.M=.fU/\Jl F zX (qJ++u):=by
 have v:=iG r;have C:=p.sk r K L w<|p.I.r.r _ v;rw[f]at C;let⟨M,_,g',s,q⟩:=C;have O:=(p.I.r.f _ v).trans M;have t:∀y:Ă,y.act=ė (ő<|fG F.C)->y.act.touch?=Í:=λy i=>by rw[i];rfl
 have n5:E.r=F.n+1:=by unfold fN.r;rw[f];rfl
 have a:iO E .fU E.I:=mj (by rw[f];rfl);have e:(ij E .fU E.b E.I).r=E.r:=a.r;let⟨T,Q⟩:=jb q;have V:=kV (λl g h=>À<|H.M _ _ _ h) q;obtain⟨d,y,X,I,Y,J,q3,q4,q5,q7⟩:=p.Af H (kM .fU) r (s w) fg fg (λy i=>⟨λz l=>(by rw[t y i]at l;cases l),by rw[i];exact p.I.r.N _<|À mM⟩) (λy _ i=>zR p.I.r.l λk j=>by rw[vT j];exact t y i) Q V;have Cz:=p.d.C (xU (λk j=>by rw[vT j];exact t y I) λk j b _ e=>by grind);have l:=p.C.B<|Á<|À f;refine⟨ij E .fU E.b E.I,_,_,_,_,d,w,_,Y,J,.r (p.N.ij H.C a) (by rw[e];exact J.trans p.b) (by rwa[Aq a]) (q7.G a) (Wd.r p.M a (by rw[f];rfl)<|by rw[f];rfl) (p.C.r a (by rw[f];exact Ç _) (by rw[f];rfl) (by rw[f];rfl) (λb h=> ?_) (λb h=> ?_) (λb=>⟨λh=>(by cases h),λh=>(by cases h)⟩) (λ_=>l) (λh=>by cases h) λ_ h=>absurd rfl h) (by rwa[e]) ?_ λb j N h k=>(p.f b j Z h k).app _,U,p.d.kF X I O λx FN=> ?_⟩
 .grind
 .grind
 .intro k z b hb;by_cases N:k=0
  .grind
  .rw[q4 k N]at b;obtain⟨z',FL,rfl⟩:=Ù.1 b;let⟨_,hzb⟩:=Fp hb;rcases p.c k z' FL hzb with⟨s,_⟩|⟨j,hj,h,q,h3⟩
   .exact absurd s N
   .exact Á ⟨j,Z,h,q,h3⟩
 .have b:=Od l x Z;have k:E.M.ad F.n=F.n+1:=by rw[f];rfl
  unfold fN.G at b;rw[k,if_pos Z]at b;cases h:E.N x with
  |none=>rw[h]at b;cases b
  |some j=>
   rw[h]at b;refine⟨j,h,?_⟩;cases j with
   |n7=>cases b
   |fU N=>cases N with
    |jq=>cases b
    |_=>trivial
   |jf N=>trivial
end
section
variable{D:Nat->Prop}{S:Nat->Jd}{G:Nat->gh}{I:Nat->ik}{o:Nat->e5}{f:Array Ä}{sl:Option (Nat×Nat)}
def WY{y:Ă}(b:wQ.act=ς k)(c:y.act=į):vN #[wQ,y]:=by
 intro d a;simp at a;rcases a with rfl|rfl
 .rw[b];exact⟨U,fg⟩
 .rw[c];exact⟨U,fg⟩
theorem iJ.Fh(h:iJ i (λf=>f<n) X o w qJ){v:e5}{y:Ă}(F:0<n)(P:wQ.g=0/\wQ.act=ς n)(Q:y.g=n/\y.act=į)(oL:κ qJ 0=0)(Au:κ qJ n=0)(V:∀b,¬v.O b)(W:∀b,v.I b->(o 0).I b) (J:∀a,v.r a->X a.block/\(∀k,k<n->¬(o k).C a)/\pW qJ 0 (ú a)) (H:∀a,v.N a->(o 0).N a) (lK:∀a,v.K a->(o 0).K a) (lKO:∀k,k<n->∀a,(o k).K a->¬v.r a) (ld:v.d=0) (lw:v.w=w) (Y:∀b,X b->D b) (WZ:∀b,D b->X b\/(b<w.heap.size/\∀f,f<n->¬(o f).M b)):iJ i (λf=>f<n+1) D (gf o n v) w (qJ++#[wQ,y]):=by
 have L:=WY P.2 Q.2;have B:∀f,f<n+1->f=n\/f<n:=λf t=>by omega
 have G:gf o n v n=v:=gN _ _ _;have E:∀f,f<n->gf o n v f=o f:=λf t=>gA o _ Z;have N:∀b,v.M b->(o 0).I b:=λb s=>s.elim (λq=>absurd q (V b)) (W b);have agk:=λf t b s Mf=>(WZ b Mf).elim (h.I f t b s) (λq=>q.2 f t s);refine⟨λf j t S T b s=> ?_,λf j t S T a r=> ?_,λf t b s=> ?_,λf t a r=> ?_,λf t b s=> ?_,λf t a r=> ?_,λf t b s=> ?_,λb s=> ?_,λf t=> ?_,λf t=> ?_,λf t=> ?_,zR h.l λu z=>(L u z).1,λu z=> ?_,λp a c r hl hk=> ?_,λf t a r=> ?_⟩
 .rcases B f t with rfl|m
  .grind
  .rw[E f m]at s;rcases B j S with rfl|I
   .rw[G];intro q;by_cases e:f=0
    .subst e;exact h.m _ m b s (N b q)
    .exact h.o f 0 m F e b s (Á (N b q))
   .rw[E j I];exact h.o f j m I T b s
 .rcases B f t with rfl|m
  .grind
  .rw[E f m]at r;rcases B j S with rfl|I
   .rw[G];rintro(q|q)
    .exact(J a q).2.1 f m (À r)
    .by_cases e:f=0
     .subst e;exact h.g _ m a r (H a q)
     .exact h.h f 0 m F e a r (Á (H a q))
   .rw[E j I];exact h.h f j m I T a r
 .rcases B f t with rfl|m
  .grind
  .rw[E f m]at s|-;exact h.m f m b s
 .rcases B f t with rfl|m
  .rw[G]at r|-;exact λq=>(J a r).2.1 0 F (Á (H a q))
  .rw[E f m]at r|-;exact h.g f m a r
 .rcases B f t with rfl|m
  .rw[G]at s;exact agk 0 F b (Á (N b s))
  .grind
 .rcases B f t with rfl|m
  .rw[G]at r;exact Y _ (r.elim (λq=>(J a q).1) (λq=>h.e 0 F a (Á (H a q))))
  .rw[E f m]at r;exact Y _ (h.e f m a r)
 .rcases B f t with rfl|m
  .rw[G]at s;exact h.fl 0 F b (Á (N b s))
  .rw[E f m]at s;exact h.fl f m b s
 .exact(WZ b s).elim (h.N b) (λq=>q.1)
 .rcases B f t with rfl|m
  .rw[G,lw];exact fD.fO _ _
  .rw[E f m];exact h.r f m
 .rcases B f t with rfl|m
  .rw[G];have e:=λl=>aeS P Q oL Au (l:=l);exact⟨λa r=>absurd r (V _),λa r=>(e _).2 ((h.S 0 F).C a (W _ r)),λa r=>(e _).1 (J a r).2.2,λa r=>(e _).2 ((h.S 0 F).r a (H _ r))⟩
  .rw[E f m];have e:∀u∈#[wQ,y],∀b,u.act.touch?=Ã b->False:=λu z b s=>by rw[(L u z).1]at s;cases s
   exact⟨λa r=>((h.S f m).fh a r).C λu z b s _=>(e u z b s).elim,λa r=>((h.S f m).C a r).r λu z b s _ _=>(e u z b s).elim,λa r=>((h.S f m).I a r).C λu z b s _=>(e u z b s).elim,λa r=>((h.S f m).r a r).r λu z b s _ _=>(e u z b s).elim⟩
 .rw[IL L];rcases B f t with rfl|m
  .grind
  .rw[E f m];exact h.f f m
 .refine(Array.mem_append.1 z).elim (h.q u) λq=> ?_;simp at q;rcases q with rfl|rfl
  .rw[P.2];trivial
  .rw[Q.2];trivial
 .rcases mo r with⟨_,e⟩|⟨_,u,e,q,_⟩
  .exact h.s p a c e hl hk
  .rw[(L u e).1]at q;cases q
 .obtain⟨e,m,q⟩:∃e,e<n/\(o e).K a:=by
   grind
  let⟨I,z2⟩:=h.n e m a q;grind
theorem gD.Fh(p:gD P i X S G I o f w qJ){c b:Ä}{J q:Jd}{T r:gh}{K Kc:ik}{m n:e5}(s:f[0]?=Ã g)(L:è P Ì g w=.spawn c b w #[]) (V:∀x y:Ă,(x.g=0/\x.act=ς f.size)->(y.g=f.size/\y.act=į)->iJ i (λa=>a<f.size+1) D (gf (gf o 0 m) f.size n) w (qJ++#[x,y])) (hF:kJ P Ì J T m c) (M:c.status=Å) (N:kJ P É q r n b) (O:b.status=Å): ∃d x y,(x.g=0/\x.act=ς f.size)/\(y.g=f.size/\y.act=į)/\Ŏ P (ð f w sl) 0=(ğ<|ð d w sl,#[x,y])/\d.size=f.size+1/\d[0]?=Ã c/\d[f.size]?=Ã b/\(∀k,k≠0->k<f.size->d[k]?=f[k]?)/\ gD P i D (fq (fq S 0 J) f.size q) (fq (fq G 0 T) f.size r) (fq (fq I 0 K) f.size Kc) (gf (gf o 0 m) f.size n) d w (qJ++#[x,y]):=by
 have W:=(Õ.1 s).1;have t:=runT_crowd_spawn (sl:=sl) s L;obtain⟨x,u⟩:∃x:Ă,x={g:=0,fn:=g.frame.fn,pos:=g.frame.place,act:=ς f.size}:=⟨_,U⟩;obtain⟨y,v⟩:∃y:Ă,y={g:=f.size,fn:=b.frame.fn,pos:=g.frame.place,act:=į}:=⟨_,U⟩;have e:((Û 0 g.frame.fn g.frame.place #[]).push {g:=0,fn:=g.frame.fn,pos:=g.frame.place,act:=ς f.size}).push {g:=f.size,fn:=b.frame.fn,pos:=g.frame.place,act:=į}=#[x,y]:=by rw[u,v];simp[Û]
 rw[e]at t;have B:x.g=0/\x.act=ς f.size:=by rw[u];exact⟨U,U⟩
 have C:y.g=f.size/\y.act=į:=by rw[v];exact⟨U,U⟩
 have E:((f.setIfInBounds 0 c).push b)[0]?=Ã c:=by grind
 have F:((f.setIfInBounds 0 c).push b)[f.size]?=Ã b:=by grind
 have H:∀k,k≠0->k<f.size->((f.setIfInBounds 0 c).push b)[k]?=f[k]?:=λk Y h2=>by grind
 refine⟨_,x,y,B,C,t,fg,E,F,H,?_,λk z d=> ?_,λj Q=> ?_⟩
 .simp_all
 .have FB:k<f.size+1:=by have:=(Õ.1 d).1;simpa using this
  by_cases l:k=f.size
  .subst l;rw[F]at d;obtain rfl:=È d;rw[gw,gw,gw,gN,show(f.size==0)=É from beq_eq_false_iff_ne.2 Z];exact⟨b,N,.fY,À O,À U⟩
  .rw[fC _ _ l,fC _ _ l,fC _ _ l,gA _ _ l];by_cases h:k=0
   .subst h;rw[E]at d;obtain rfl:=È d;rw[gw,gw,gw,gN];exact⟨c,hF,.fY,À M,À U⟩
   .rw[H k h Z]at d;rw[fC _ _ h,fC _ _ h,fC _ _ h,gA _ _ h];exact p.C k z d
 .rw[IL<|WY B.2 C.2];exact p.I j<|by simp at Q;omega
end
section
variable{F:Ph}{E N:fN F}{S:Nat->Jd}{G Q:Nat->gh}{I:Nat->ik}{o:Nat->e5}{f B:Array Ä}{u:ä}{sl:Option (Nat×Nat)}
theorem agl(ok:F.Ok)(h:i≠n)(c:lq F i a)(d:lq F n a):False:=by
 have q:∀{i n:Nat},i=0->n≠0->lq F i a->lq F n a->False:=by
  intro i n g j c d;unfold lq at c d;rw[if_pos g]at c;rw[if_neg j]at d;let⟨k,o,m,e⟩:=c;let⟨b,l,p,f⟩:=d;rcases e with e|e
  .rw[f]at e;have:F.Y=F.I k:=by injection e
   exact ok.C<|Á ⟨k,m,this⟩
  .rw[f]at e;exact ok.NA b k l o m<|by injection e
 by_cases g:i=0
 .grind
 .by_cases j:n=0
  .grind
  .unfold lq at c d;rw[if_neg g]at c;rw[if_neg j]at d;let⟨b,l,p,f⟩:=c;let⟨m,k,o,e⟩:=d;rw[f]at e;have:=ok.a _ _ l k (by injection e);subst this;omega
theorem agm(ok:F.Ok)(h:lq F i a):(∃k,k<=F.m/\a=iW F.toFx k)\/∃p,p≠F.f/\a=jd F p:=by
 unfold lq at h;by_cases b:i=0
 .rw[if_pos b]at h;obtain⟨k,d,e,c|c⟩:=h
  .grind
  .exact Á ⟨_,ok.Y.1 k d e,c⟩
 .rw[if_neg b]at h;let⟨k,c,_,d⟩:=h;exact Á ⟨_,ok.Y.2 k c,d⟩
def uP(F:Ph)(j:Nat):fP:=if j<F.n then .iu (j+1)else .iC F.q
def ym(E:fN F)(j:Nat):fN F:={E with M:=uP F j}
def PI.agn(H:gL F)(p:PI F j zX E S G I o f w qJ)(hi:f[0]?=Ã g)(iB:g.status=Å)(ht:G 0=.fu)(hx:E.M=.go m): ∃(N:fN F) (c:Nat->Jd) (Q:Nat->gh) (r:Nat->ik) (s:Nat->e5) (B:Array Ä) (W:Ð) (u:ä),Ŏ F.P (ð f w sl) 0=(ğ<|ð B W sl,u)/\B.size=f.size+1/\N.M≠ .fU/\PI F j zX N c Q r s B W (qJ++u):=by
 have gH:=iG hi;have C:=p.I.r;have L:=p.a;have hL1:=H.C.r;have hn:=H.C.N;have uO:=p.C.C m<|À hx;have n5:E.r=m:=by unfold fN.r;rw[hx];rfl
 have jV:f.size=F.L+m:=by rw[p.b,n5]
 have hJ:=p.sk hi iB ht w<|C.r _ gH;rw[hx]at hJ;obtain⟨hd,g',child,X,W0,zP,CC,hX,Aw,agp,agq⟩:=H.go m E.I _ g uO hJ<|C.M gH;have hd:=hd;have hX:=hX;have Aw:=Aw;have oL:=(C.f _ gH).trans hd;have Au:=p.I.I _<|Ç _;have nq:=L.M 0<|À U;obtain⟨m',tw⟩:∃m',m'=uP F m:=⟨_,U⟩;have tx:(m<F.n/\m'=.iu (m+1))\/(m=F.n/\m'=.iC F.q):=by
  rw[tw];unfold uP;by_cases q:m<F.n
  .exact À ⟨q,if_pos q⟩
  .exact Á ⟨Z,if_neg q⟩
 have arE:m'.sp F.n=m+1:=by rcases tx with⟨_,rfl⟩|⟨q,rfl⟩<;>simp only[fP.sp];omega
 have agr:m'.ad F.n=m+1:=by rcases tx with⟨_,rfl⟩|⟨q,rfl⟩<;>simp only[fP.ad];omega
 have Oe:m'.lU F.q=0:=by rcases tx with⟨_,rfl⟩|⟨q,rfl⟩<;>simp[fP.lU]
 have hmh:m'.iV F.n=0:=by rcases tx with⟨_,rfl⟩|⟨q,rfl⟩<;>rfl
 have hmr:m'.gu=0:=by rcases tx with⟨_,rfl⟩|⟨q,rfl⟩<;>rfl
 have FO:(∀v,m'≠ .ft v)/\m'≠ .fU:=by rcases tx with⟨_,rfl⟩|⟨q,rfl⟩<;>exact⟨λv h=>(by cases h),λh=>(by cases h)⟩
 have hkM:kM m'=.no:=by rcases tx with⟨_,rfl⟩|⟨q,rfl⟩<;>rfl
 obtain⟨l0,lW⟩:∃l0:e5,l0={o 0 with O:=λb=>(o 0).O b/\¬X b/\(1<=m->b≠E.I (m-1)),I:=λb=>X b\/(o 0).I b,r:=λa=>(o 0).r a/\¬lq F m a,w:=w}:=⟨_,U⟩;obtain⟨lc,j2⟩:∃lc:e5,lc={O:=λ_=>False,I:=λb=>X b\/(o 0).I b,r:=lq F m,N:=(o 0).N,K:=(o 0).K,d:=0,q:=False,w:=w}:=⟨_,U⟩;have W3:iJ F.S (λi=>i<f.size) E.Y (gf o 0 l0) w qJ:=by
  rw[lW];refine C.C gH (λ_ q=>q.1) (λb q=>À<|q.elim (λz=>À<|hX b z) Á) (λ_ q=>q.1) (λa q=>À<|Á q) U U U (λb hb q=> ?_) λa J q=>C.g _ gH a J.1 q;rcases q with q|q
  .exact hb.2.1 q
  .exact C.m _ gH b hb.1 q
 have z0:gf o 0 l0 0=l0:=gN _ _ _;have Ax:=L.o m Z uO;have mN:(ym E m).r=m+1:=by show(uP F m).sp F.n=_;rwa[<-tw]
 have W4:∀b,(ym E m).Y b->E.Y b\/(1<=m/\b=E.I (m-1)):=λb hb=>by
  rcases hb with q|q|⟨l,t,D⟩
  .exact À<|À q
  .exact À<|Á<|À q
  .rw[mN]at t;by_cases e:l+1=m
   .exact Á ⟨Z,by rw[D,show l=m-1 by omega];rfl⟩
   .exact À<|Á<|Á ⟨l,Z,D⟩
 have Og:∀x y:Ă,(x.g=0/\x.act=ς f.size)->(y.g=f.size/\y.act=į)->iJ F.S (λi=>i<f.size+1) (ym E m).Y (gf (gf o 0 l0) f.size lc) w (qJ++#[x,y]):=λx y Jm Jn=>by
  refine W3.Fh gH Jm Jn oL Au (by rw[j2];exact λb q=>q) (by rw[z0,j2,lW];exact λb q=>q) (λa J=> ?_) (by rw[z0,j2,lW];exact λb q=>q) (by rw[z0,j2,lW];exact λb q=>q) (λk hk a J q=> ?_) (by rw[j2]) (by rw[j2]) (λb hb=> ?_) λb hb=> ?_
  .have r:lq F m a:=by rwa[j2]at J
   have c:=Ax a r;refine⟨C.e 0 gH a<|À c,λk hk q=> ?_,(C.S 0 gH).I a c⟩;by_cases e:k=0
   .subst e;rw[z0,lW]at q;rcases q with q|q
    .exact q.2 r
    .exact C.g 0 gH a c q
   .rw[gA _ _ e]at q;exact C.h 0 k gH hk (ÿ e) a c q
  .have c:(o k).K a:=by
    by_cases e:k=0
    .subst e;rwa[z0,lW]at J
    .rwa[gA _ _ e]at J
   rw[j2]at q;exact(C.n k hk a c).2 0 gH<|Ax a q
  .rcases hb with q|q|⟨l,t,D⟩
   .exact À q
   .exact Á<|À q
   .exact Á<|Á ⟨l,by rw[mN];omega,D⟩
  .rcases W4 b hb with q|⟨t,rfl⟩
   .exact À q
   .obtain⟨a1,a2,a3,a4⟩:=Aw t;refine Á ⟨C.fl 0 gH _<|À a1,λi kR q=> ?_⟩;by_cases e:i=0
    .subst e;rw[z0,lW]at q;rcases q with q|q|q
     .exact q.2.2 t U
     .exact a2 q
     .exact C.m 0 gH _ a1 q
    .rw[gA _ _ e]at q;exact C.o 0 i gH kR (ÿ e) _ a1 q
 have hWm:fe F.P Ì (JM F E.I m') l0 g':=by
  have r:=W3.M gH;rw[z0]at r;have s:{l0 with w:=w}=l0:=by rw[lW]
  rw[s]at r;have:=agq l0 r (by rw[lW]) (λb q=>by rwa[lW]) (by rw[lW]) (by rwa[lW]) (by rw[lW]) (by rw[lW]) (by rw[lW]) (λa q=>by rw[lW]at q;exact q.1);rw[tw];unfold uP;exact this
 have Oh:∀b,lc.M b->(o 0).M b:=λb hb=>by
  rw[j2]at hb;rcases hb with q|q|q
  .exact q.elim
  .exact À<|hX b q
  .exact Á q
 have W5:∀a,lc.C a->(o 0).C a:=λa J=>by rw[j2]at J;exact J.elim (λq=>À<|Ax a q) Á
 have Oi:lc.w=w:=by rw[j2]
 have ags:gl lc:=⟨λb hb=>(by rw[j2]at hb;exact hb.elim),λa J q=>(by rw[j2]at J q;exact C.g 0 gH a (Ax a J) q),λa J hb=>C.I 0 gH _ (Oh _ hb)<|C.e 0 gH a<|W5 a J,λb hb=>(by rw[Oi];exact C.fl 0 gH b<|Oh b hb),λa J=>(by rw[Oi];exact C.N _<|C.e 0 gH a<|W5 a J),λa J=>by
  have c:(o 0).K a:=by rwa[j2]at J
  obtain⟨k1,k2⟩:=C.n 0 gH a c;exact⟨λq=>C.I 0 gH _ (Oh _ q) k1,by rw[Oi];exact C.N _ k1,λq=>by rw[j2]at q;exact k2 0 gH (Ax a q)⟩⟩
 have hWc:=agp lc ags (λb q=>by rwa[j2]) (by rw[j2]) (by rw[j2]) (by rw[j2];exact λq=>q) (λb=>by rw[j2];exact λq=>q) (by rw[j2]) (by rw[j2]) (λa q=>Ax a<|by rwa[j2]at q);obtain⟨T,hT⟩:=jb hWm;obtain⟨Tc,hTc⟩:=jb hWc;obtain⟨B,x,y,Jm,Jn,q1,q2,q3,q4,q5,q6⟩:=p.I.Fh (Kc:=if m=0 then .no else kW F (E.I<|m-1) (.mK 0)) hi (CC w) Og hT W0 hTc zP;have cs:∀i,i<f.size+1->i=f.size\/i=0\/(i≠0/\i<f.size):=λi hi=>by omega
 have es:gf (gf o 0 l0) f.size lc f.size=lc:=gN _ _ _;have e0:gf (gf o 0 l0) f.size lc 0=l0:=by rwa[gA _ _ Z]
 have en:∀i,i≠0->i≠f.size->gf (gf o 0 l0) f.size lc i=o i:=λi t D=>by rw[gA _ _ D,gA _ _ t]
 have vY:=p.C.z;have Jh:=p.C.h m Z;have agt:∀y,E.nI y->y<m:=λy ⟨e,t,_⟩=>ñ λq=>by rw[p.C.h y Z]at t;cases t
 have Oj:∀i,i<f.size+1->∀a,(gf (gf o 0 l0) f.size lc i).r a->∃k,k<f.size/\(o k).r a:=λi hi a J=>by
  rcases cs i hi with rfl|rfl|⟨t,D⟩
  .rw[es,j2]at J;exact⟨0,gH,Ax a J⟩
  .rw[e0,lW]at J;exact⟨0,gH,J.1⟩
  .rw[en i t Z]at J;exact⟨i,D,J⟩
 refine⟨ym E m,_,_,_,_,B,w,_,q1,q2,(by show uP F m≠ .fU;rw[<-tw];exact FO.2),.r ⟨?_,λt D=> ?_,λl t D=> ?_,λy e t D=> ?_,λi t D=> ?_⟩ (by rw[q2,mN,jV];omega) q6 ?_ ?_ ?_ ?_ (λk z hk hb=> ?_) λl r2 a1 a2 a3=> ?_⟩
 .have c:(0:Nat)≠f.size:=Z
  rw[fC _ _ c,gw,fC _ _ c,gw];rw[tw];exact⟨U,U⟩
 .by_cases e:m=0
  .have c:f.size=F.L:=Z
   rw[c,gw,gw,if_pos e,if_pos e];show F.h 0=JI F E.c E.S/\_;rw[p.C.J Z];exact⟨U,U⟩
  .rw[fC _ _ Z,fC _ _ Z,fC _ _ Z,fC _ _ Z];exact p.m Z D
 .rw[mN]at t;by_cases e:l+1=m
  .have c:F.L+1+l=f.size:=Z
   rw[c,gw,gw,if_neg Z,if_neg Z];show Cq F (E.I<|m-1) (m-1) 0=JW F (E.I l) l (E.C l)/\_=kW F (E.I l) (E.C l);rw[vY l Z,show m-1=l by omega];exact⟨U,U⟩
  .rw[fC _ _ Z,fC _ _ Z,fC _ _ Z,fC _ _ Z];exact p.g l Z D
 .have s:=ñ λq=>by
   have r:E.N y=Ã e:=D;rw[p.C.h y Z]at r;cases r
  rw[fC _ _ Z,fC _ _ Z,fC _ _ Z,fC _ _ Z,fC _ _ Z,fC _ _ Z];exact p.k y e Z D
 .rw[fC _ _ Z,fC _ _ Z,fC _ _ Z,fC _ _ Z,fC _ _ Z,fC _ _ Z];exact p.l i t D
 .rw[q2];obtain⟨f1,f2⟩:=L.ll Z;refine⟨λi kR a J=> ?_,λy t D a J=> ?_,λ_=> ?_,λ_ k t D=> ?_,λ_ D=> ?_,λl t D r h3 h4=> ?_,λl t D=> ?_,λy s=> ?_,λi kR=> ?_,λi t D=> ?_,λk hk b hb=> ?_,λk hk i kR q=> ?_,λk t D i kR q=> ?_,λl t r D h3 i kR q=> ?_⟩
  .rcases cs i kR with rfl|rfl|⟨t,D⟩
   .rw[es,j2]at J;rcases J with q|q
    .exact agm H.C q
    .exact L.gM 0 gH a<|Á q
   .rw[e0,lW]at J;rcases J with q|q
    .exact L.gM 0 gH a<|À q.1
    .exact L.gM 0 gH a<|Á q
   .rw[en i t Z]at J;exact L.gM i D a J
  .rw[mN]at t;rw[e0,lW];exact⟨L.o y Z D a J,λq=>agl H.C Z q J⟩
  .rw[e0,lW];exact⟨f1,λb hb=>Á<|f2 b hb⟩
  .have Ao:=t;by_cases e:m=0
   .have c:F.L=f.size:=Z
    rw[c,es,j2];exact⟨by show lq F m _;unfold lq;rw[if_pos e];exact⟨k,Z,D,À U⟩,by show lq F m _;unfold lq;rw[if_pos e];exact⟨k,Z,D,Á U⟩⟩
   .rw[en F.L Z Z];exact L.e Z k Ao D
  .by_cases e:m=0
   .have c:F.L=f.size:=Z
    rw[c,es,j2];show(o 0).N (iW F.toFx E.S.md)/\∀b,E.V E.S.md b->X b\/(o 0).I b;rw[p.C.J Z];show(o 0).N (iW F.toFx 0)/\∀b,E.V 0 b->X b\/(o 0).I b;rw[p.C.v];exact⟨f1,λb hb=>Á<|f2 b hb⟩
   .rw[en F.L Z Z];exact L.f Z D
  .rw[mN]at t;by_cases e:l+1=m
   .have c:F.L+1+l=f.size:=Z
    rw[c,es,j2];show lq F m _;unfold lq;rw[if_neg Z];exact⟨_,h3,by rw[ē,ļ Z];omega,U⟩
   .rw[en _ Z Z];exact L.h l Z D r h3 h4
  .rw[mN]at t;by_cases e:l+1=m
   .have c:F.L+1+l=f.size:=Z
    rw[c,es,j2];exact⟨f1,λb hb=>Á<|f2 b hb⟩
   .rw[en _ Z Z];exact L.l l Z D
  .have:=agt y s;rw[en _ Z Z];exact L.S y s
  .rcases kR with rfl|⟨y,t,rfl,h3⟩
   .rwa[e0,lW]
   .rw[mN]at t;by_cases e:y=m
    .subst e;rw[<-jV,es,j2];exact λq=>q
    .rw[en _ Z Z];exact L.M _<|Á ⟨y,Z,U,h3⟩
  .rw[en i Z Z];exact L.c i t D
  .obtain⟨b1,b2,c⟩:=L.I k hk b hb;refine⟨b1,λq=> ?_,λi kR q=> ?_⟩
   .rcases W4 b q with q|⟨t,rfl⟩
    .exact b2 q
    .exact c 0 gH (Aw t).1
   .rcases cs i kR with rfl|rfl|⟨t,D⟩
    .rwa[es,j2]at q
    .rw[e0,lW]at q;exact c 0 gH q.1
    .rw[en i t Z]at q;exact c i D q
  .obtain⟨c,a1,a2⟩:=Oj i kR _ q;exact L.N k hk c a1 a2
  .obtain⟨c,a1,a2⟩:=Oj i kR _ q;exact L.g k t D c a1 a2
  .rw[mN]at t;have oc:r<(E.C l).kj:=h3;obtain⟨c,a1,a2⟩:=Oj i kR _ q;by_cases e:l+1=m
   .rw[vY l Z]at oc;simp only[gF.kj]at oc;omega
   .exact L.d l Z r D oc c a1 a2
 .have c:=p.M;refine⟨c.C,c.I,λl t=> ?_,c.M,c.S,λl t r D h3=> ?_⟩
  .rw[mN]at t;show∃buf s,w.heap[E.I l]?=Ã (.chan F.q buf (decide<|l<(uP F m).iV F.n) s (E.C l).iE É)/\s7 F.n l ((uP F m).lU F.q) s/\(E.C l).iE<=s/\buf.size=s-(E.C l).iE/\∀i,i<s-(E.C l).iE->buf[i]?=Ã (F.c<|l+((E.C l).iE+i)*F.n);rw[<-tw,hmh,Oe];by_cases e:l+1=m
   .rw[vY l Z];obtain⟨a1,a2,a3,a4⟩:=Aw Z;rw[show m-1=l by omega]at a3;refine⟨#[],0,by rw[a3];rfl,λi=>⟨λq=>by omega,λq=>by omega⟩,Ç _,U,λi kR=> ?_⟩;simp only[gF.iE]at kR;omega
   .have:=c.jv l Z;rwa[hx]at this
  .rw[mN]at t;have oc:r<(E.C l).kj:=h3;by_cases e:l+1=m
   .rw[vY l Z]at oc;simp only[gF.kj]at oc;omega
   .exact c.N l Z r D oc
 .have h:=p.C;have eo:(ym E m).G=E.G:=by
   funext y;have t:(ym E m).M.ad F.n=E.M.ad F.n:=by show(uP F m).ad F.n=_;rw[<-tw,agr,hx];rfl
   unfold fN.G;rw[t];rfl
  have Ol:(ym E m).M.gu=E.M.gu:=by show(uP F m).gu=_;rw[<-tw,hmr,hx];rfl
  have emp:(ym E m).M=m':=tw.symm;refine⟨h.v,λl q=> ?_,λl q=> ?_,λr=>⟨λq=> ?_,λq=> ?_⟩,λq=>by omega,h.I,λl q=>h.z l Z,λl r tA pf=> ?_,λl tA pf=> ?_,h.f,λy q=>h.h y Z,λl j3 tA pf q3'=> ?_,λl q=> ?_,λc reg hc=> ?_,λreg hc=> ?_,λr s hc=> ?_,h.N,λq=> ?_,h.e,h.Y,λl r tA pf=> ?_,λl r tA pf=> ?_,λq=> ?_,λ_ _=>h.S (λv q=>by rw[hx]at q;cases q) (λq=>by rw[hx]at q;cases q),h.y,λl r tA pf=> ?_⟩
  .rw[emp]at q;rcases tx with⟨_,rfl⟩|⟨_,rfl⟩<;>rcases q with q|q|q|q<;>cases q;omega
  .rw[emp]at q;rcases tx with⟨_,rfl⟩|⟨_,rfl⟩<;>rcases q with q|q|q<;>cases q;omega
  .rw[emp]at q;rcases tx with⟨_,rfl⟩|⟨_,rfl⟩<;>cases q;exact Ç _
  .rw[emp]at q;rcases tx with⟨_,rfl⟩|⟨_,rfl⟩<;>cases q
  .rw[mN]at tA;by_cases e:l+1=m
   .have oe:(∃p,E.C l=.ft r p)\/E.C l=.jy r\/E.C l=.nZ r:=pf;rw[vY l Z]at oe;rcases oe with⟨_,q⟩|q|q<;>cases q
   .exact h.d l r Z pf
  .rw[mN]at tA;have oe:E.N (l+1)≠Í:=pf;have:l+1<m:=ñ λq=>oe<|h.h _ Z;obtain⟨a,_⟩:=h.l l Z oe;rw[hx]at a;simp only[fP.iV]at a;omega
  .rw[mN]at tA pf;have Om:E.I l=E.I j3:=q3';have key:∀a b,a+1=m->b+2<=E.r->E.I a=E.I b->False:=λa b J hb he=>by
    have t:=(Aw Z).1;rw[show m-1=a by omega,he]at t;exact C.I 0 gH _ (À t)<|Á<|Á ⟨b,hb,U⟩
   by_cases e:l+1=m
   .by_cases e':j3+1=m
    .omega
    .exact(key l j3 e Z Om).elim
   .by_cases e':j3+1=m
    .exact(key j3 l e' Z Om.symm).elim
    .exact h.M l j3 Z Z Om
  .rw[mN]at q;show¬F.M (E.I l)/\E.I l≠F.Y/\F.S<=E.I l;by_cases e:l+1=m
   .obtain⟨a1,_,_,a4⟩:=Aw Z;rw[show m-1=l by omega]at a1 a4;have W6:=C.I 0 gH _<|À a1;exact⟨λq=>W6<|À q,λq=>W6<|Á<|À q,a4⟩
   .exact h.o l Z
  .rw[eo,Ol];exact h.t c reg hc
  .rw[eo,Ol];obtain⟨a1,a2,y,a3,a4⟩:=h.g reg hc;exact⟨a1,a2,y,Z,a4⟩
  .rw[eo,Ol];obtain⟨a1,a2,a3⟩:=h.u r s hc;refine⟨a1,a2,λhr=> ?_⟩;obtain⟨y,b1,b2⟩:=a3 hr;exact⟨y,Z,b2⟩
  .rw[emp]at q;rcases q with q|q|q
   .exact absurd q<|FO.1 _
   .exact absurd q<|FO.1 _
   .exact absurd q FO.2
  .rw[mN]at tA;by_cases e:l+1=m
   .have oe:E.C l=.ft r .gp\/E.C l=.ft r .kK\/E.C l=.jy r:=pf;rw[vY l Z]at oe;rcases oe with q|q|q<;>cases q
   .exact h.w l r Z pf
  .rw[mN]at tA;by_cases e:l+1=m
   .have oe:E.C l=.ft r .gp:=pf;rw[vY l Z]at oe;cases oe
   .exact h.H l r Z pf
  .rw[emp]at q;exact absurd q<|FO.1 _
  .rw[mN]at tA;by_cases e:l+1=m
   .have oe:E.C l=.ft r .wr:=pf;rw[vY l Z]at oe;cases oe
   .exact h.D l r Z pf
 .rw[mN];have c:=p.d;rw[n5]at c;rw[jV]at Jm Jn Au;exact c.Fh Jm Jn oL Au (λ⟨e,t,_⟩=>by rw[Jh]at t;cases t) λy ⟨e,t,_⟩=>ñ λq=>by rw[p.C.h y Z]at t;cases t
 .have r:=iG hk;rcases cs k Z with rfl|rfl|⟨k1,k2⟩
  .rw[q4]at hk;obtain rfl:=È hk;rw[zP]at hb;cases hb
  .rw[q3]at hk;obtain rfl:=È hk;rw[W0]at hb;cases hb
  .rw[q5 k k1 k2]at hk;rcases p.c k z hk hb with⟨t,_⟩|⟨l,s,c,D,h3⟩
   .exact absurd t k1
   .exact Á ⟨l,Z,c,D,h3⟩
 .rw[mN]at a1;by_cases e:l+1=m
  .have oe:E.C l=.jy r2:=a2;rw[vY l Z]at oe;cases oe
  .exact(p.f l r2 Z a2 a3).app _
end
section
variable{F:Ph}{E E':fN F}{S:Nat->Jd}{tr o:Nat->gh}{m:Nat->ik}{lot:Nat->e5}{gs gs':Array Ä}{w':Ð}{t u:ä}{sl:Option (Nat×Nat)}{sz:Nat}
def PI.at(H:gL F)(p:PI F i zX E S tr m lot gs w t)(d:Nat):PI F i zX E S tr m lot gs (w.at d) t:= ⟨p.b,p.I.at d,p.h,p.m,p.g,p.k,p.l,p.a.CF<|Ç _,⟨⟨p.M.C.C,p.M.C.M,p.M.C.I,p.M.C.N,p.M.C.r⟩,λk a=>⟨(p.M.I k a).C,(p.M.I k a).M,(p.M.I k a).I,(p.M.I k a).N,(p.M.I k a).r⟩,p.M.jv,λk a=>⟨(p.M.M k a).1,H.S _ _ _ _ _ (p.M.M k a).2 (λ_ _=>rfl) U U U ⟨U,U⟩⟩,p.M.S,p.M.N⟩,p.C,p.d,p.c,p.f⟩
def Go1(F:Ph)(i:Nat)(zX:π->Prop)(gs:Array Ä)(w:Ð)(t:ä)(sl:Option (Nat×Nat))(a:Nat):Prop:=
 ∃(E':fN F) (b:Nat->Jd) (o:Nat->gh) (c:Nat->ik) (d:Nat->e5) (gs':Array Ä) (w':Ð) (u:ä),Ŏ F.P (ð gs w sl) a=(ğ<|ð gs' w' sl,u)/\gs'.size=gs.size+1/\E'.M≠ .fU/\PI F i zX E' b o c d gs' w' (t++u)
def agu(F:Ph)(i:Nat)(zX:π->Prop)(gs:Array Ä)(w:Ð)(t:ä)(sl:Option (Nat×Nat))(a:Nat):Prop:=
 ∃(E':fN F) (b:Nat->Jd) (o:Nat->gh) (c:Nat->ik) (d:Nat->e5) (gs':Array Ä) (w':Ð) (u:ä),Ŏ F.P (ð gs w sl) a=(ğ<|ð gs' w' sl,u)/\gs'.size=gs.size/\PI F i zX E' b o c d gs' w' (t++u)/\E'.M=.fU/\Jl F zX (t++u)
def PI.agv(H:gL F)(p:PI F i zX E S tr m lot gs w t)(l:E.M≠ .fU)(a:gs[n]?=Ã g)(c:g.status=Å):jN F i zX E tr gs w t sl n\/qM F i zX E tr gs w t\/Go1 F i zX gs w t sl n\/agu F i zX gs w t sl n:=by
 have z:=iG a;have B:=p.b;cases b:tr n with
 |jA k=>
  obtain⟨gs',w',u,o,e,d,f,j,q⟩:=p.fh H a b;exact À ⟨E,S,o,m,e,gs',w',u,d,f,λh=>h,j,q⟩
 |fu=>
  by_cases s:n=0
  .subst s;cases h:E.M with
   |go j=>exact Á<|Á<|À<|p.agn H a c b h
   |kU j=>exact Á<|À<|p.afX H a c b h
   |rd j=>exact À<|p.afY H a c b h
   |iu j=>exact À<|p.af0 H a c b h
   |iC r=>cases r with
    |zero=>exact Á<|À<|p.af2 H a c b h
    |succ r=>exact À<|p.agd H a c b h
   |kF r=>cases r with
    |zero=>exact Á<|À<|p.af3 H a c b h
    |succ r=>exact À<|p.agh H a b h
   |ft v=>cases v with
    |iP=>exact Á<|À<|p.af4 H a c b h
    |lD q=>exact À<|p.af5 H a c b h
    |wr=>exact À<|p.af6 H a c b h
    |kh=>exact À<|p.af8 H a c b h
    |gp=>exact À<|p.af7 H a c b h
    |kK=>exact Á<|Á<|Á<|p.agj H a c b h
   |fU=>exact absurd h l
  by_cases y:n<F.L
  .exact À<|p.afV H Z y a c
  obtain⟨x,rfl⟩:∃x,n=F.L+x:=⟨n-F.L,Z⟩;have f:x<E.r:=Z
  cases d:E.N x with
  |some e=>cases e with
   |n7=>exact Á<|À<|p.afz H f d a c b
   |fU v=>cases v with
    |jq=>exact À<|p.afC H f d a c b
    |iu=>exact À<|p.afG H f d a c b
    |gp W=>exact À<|p.afH H f d a c b
    |iT W=>exact À<|p.afI H f d a c b
    |il r=>exact À<|p.afJ H f d a c b
   |jf N=>exact À<|p.afU H f d a c
  |none=>cases x with
   |zero=>
    rw[ó]at a b|-;cases h:E.S with
    |ky k=>exact Á<|À<|p.afL H f d a c b h
    |mk k=>exact Á<|À<|p.afO H f d a c b h
    |dn k v=>cases v with
     |jq=>exact À<|p.afP H f d a c b h
     |iu=>exact À<|p.afQ H f d a c b h
     |gp W=>exact À<|p.afR H f d a c b h
     |iT W=>exact À<|p.afS H f d a c b h
     |il r=>exact À<|p.afT H f d a c b h
   |succ j=>
    rw[show F.L+(j+1)=F.L+1+j by omega]at a b|-;have e:j+2<=E.r:=Z
    cases h:E.C j with
    |mK r=>exact À<|p.afx H e d a c b h
    |ft r v=>cases v with
     |iP=>exact Á<|À<|p.aff H e d a c b h
     |lD q=>exact À<|p.afg H e d a c b h
     |wr=>exact À<|p.afi H e d a c b h
     |kh=>exact À<|p.afl H e d a c b h
     |gp=>exact À<|p.afj H e d a c b h
     |kK=>exact À<|p.afk H e d a c b h
    |jy r=>exact Á<|À<|p.afn H e d a c b h
    |nZ r=>exact Á<|À<|p.afo H e d a c b h
def agw{J:Jd}{T:gh}{l:e5}(a:∀l g,J l g->g.status=Å)(h:kJ P yQ J T l g):g.status=Å:=by
 cases T with
 |fu=>exact a _ _<|h _<|fD.fO _ _
 |jA k=>exact h.1
def gD.Y{Y:Nat->Prop}(c:gD P n Y S tr m lot gs w t)(d:gs[i]?=Ã g)(e:∀l g,S i l g->g.status=Å)(a:g.status≠Ü):g.status=Å:=by
 let⟨g0,f,b,_,_⟩:=c.C i g d;generalize m i=K at b;cases b with
 |fY=>exact agw e f
 |ni _ _=>exact absurd U a
 |sZ _ _ _=>exact absurd U a
 |mJ _ _ _=>rfl
def W7{J:Jd}{p:ju}(a:∀r,p=.il r->0<r){l:e5}(h:Co P yQ b J p l g):g.status=Å:=by
 cases p with
 |jq=>exact h.2.1
 |iu=>exact h.2.1
 |gp W=>exact h.2.1
 |iT W=>exact h.2.1
 |il r=>cases r with
  |zero=>exact absurd (a 0 U) Z
  |succ r=>exact h.2.1
def On{J:Jd}{p:jg}{l:e5}(h:pZ P yQ i b J p l g):g.status=Å:=by
 cases p with
 |iP=>let⟨k,_,_,T,a,c⟩:=h;exact(c _ _ a).1
 |lD p=>let⟨_,T,a,c⟩:=h;exact(c _ _ a).1
 |wr=>exact h.2.1
 |kh=>exact h.2.1
 |gp=>exact h.2.1
 |kK=>exact h.2.1
def W8{l:e5}(h:zZ F D i l g):g.status=Å:=by
 cases i with
 |zero=>exact On h
 |succ i=>exact h.1
def agx(H:gL F){x:fP}{l:e5}(h:JM F D x l g):g.status=Å:=by
 cases x with
 |go j=>exact H.I _ _ _ _ h
 |kU j=>let⟨c,h⟩:=h;exact H.I _ _ _ _ h
 |rd j=>exact h.2.1
 |iu j=>exact h.2.1
 |iC r=>cases r with
  |zero=>exact W8 h
  |succ r=>exact h.1
 |kF r=>exact W8 h
 |ft v=>exact On h
 |fU=>exact H.M _ _ _ h
def PI.EH(p:PI F i zX E S tr m lot gs w t){x:Nat}(a:x<E.r):∃g,gs[F.L+x]?=Ã g:=by have:=p.b;simp_all
def PI.FP(H:gL F)(p:PI F i zX E S tr m lot gs w t)(d:0<E.r)(e:E.N 0=Í):∃(a:Nat) (g:Ä),gs[a]?=Ã g/\g.status=Å:=by
 have n:=H.C.r;let⟨g,c⟩:=p.EH d;rw[ó]at c;refine⟨F.L,g,c,p.I.Y c (λl g h=> ?_) λl=> ?_⟩
 .rw[(p.m d e).1]at h;cases j:E.S with
  |ky k=>rw[j]at h;exact H.N _ _ _ h
  |mk k=>rw[j]at h;let⟨a,V,_,_,_,_,h⟩:=h;exact h.2.1
  |dn k v=>
   rw[j]at h;refine W7 (λr V=> ?_) h;subst V;let⟨_,_,r⟩:=p.C.I k;let⟨a,b⟩:=r _ j;rcases p.C.Y k b (by rw[j];exact Ç _)with⟨W,q|q,_⟩|⟨o,s,q,f,_⟩|⟨q,_⟩
   .rw[j]at q;cases q
   .rw[j]at q;cases q
   .rw[j]at q;cases q;exact f
   .exact absurd j<|q _
 .rcases p.c _ g c l with⟨q,_⟩|⟨j,_,_,q,_⟩<;>omega
theorem PI.Jo(H:gL F)(p:PI F i zX E S tr m lot gs w t){x:Nat}{e:gY}(b:x<E.r)(c:E.N x=Ã e)(d:∀N,e≠ .jf N):∃(h:Nat) (g:Ä),gs[h]?=Ã g/\g.status=Å:=by
 have f:=H.C.r;let⟨g,a⟩:=p.EH b;refine⟨F.L+x,g,a,p.I.Y a (λl g h=> ?_) λl=> ?_⟩
 .rw[(p.k x e b c).1]at h;cases e with
  |n7=>exact h.2.1
  |fU v=>exact W7 (λr j=>by subst j;exact((p.C.N x _ c).2 r U).1) h
  |jf N=>exact absurd U<|d N
 .rcases p.c _ g a l with⟨q,_⟩|⟨j,_,h,q,_⟩;all_goals grind
def W9{f:Nat->Nat}:∀{n:Nat},0<Ñ n f->∃i,i<n/\0<f i
 |0,h=>absurd h<|Nat.lt_irrefl _
 |n+1,h=>by
  simp only[Ñ]at h;by_cases q:0<f n
  .exact⟨n,Z,q⟩
  .let⟨i,b,a⟩:=W9 (f:=f) (n:=n) Z;exact⟨i,Z,a⟩
theorem PI.agy(H:gL F)(p:PI F i zX E S tr m lot gs w t):∃(l:Nat) (g:Ä),gs[l]?=Ã g/\g.status=Å:=by
 have hL:=H.C.r;have jV:=p.b;obtain⟨g,D⟩:∃g,gs[0]?=Ã g:=⟨_,é Z⟩;by_cases P:g.status=Ü
 .rcases p.c 0 g D P with⟨_,u,Q⟩|⟨j,_,_,q,_⟩
  .have n5:E.r=F.n+1:=by unfold fN.r;rw[u];rfl
   have had:E.M.ad F.n=F.n+1:=by rw[u];rfl
   have Oo:E.M.gu=1:=by rw[u];rfl
   have T:=p.M.C.r;cases o:E.b with
   |cl c G=>
    let⟨h1,h2⟩:=p.C.t c G o;rw[o]at T;let⟨_,_,V⟩:=T;have X:0<c:=by grind
    rw[h1]at X;let⟨x,d,y⟩:=W9 X;unfold fN.G at y;rw[had,if_pos d]at y;cases z:E.N x with
    |some e=>
     rw[z]at y;exact p.Jo H Z z λN q=>by subst q;simp[lE,gY.kz]at y
    |none=>cases x with
     |zero=>exact p.FP H Z z
     |succ j=>
      let⟨I,B⟩:=p.EH (x:=j+1) Z;rw[show F.L+(j+1)=F.L+1+j by omega]at B;have J:j+2<=E.r:=Z
      by_cases Y:I.status=Ü
      .rcases p.c _ I B Y with⟨q,_⟩|⟨a,_,_,q,⟨r,b,C⟩|⟨r,cap,s,r',b,C⟩⟩
       .omega
       .have:a=j:=Z
        subst this;have WB:=H.C.I _<|p.C.d a r J<|À ⟨_,b⟩;have Wj:1<=Ñ F.n λl=>(E.C l).gu F l (F.r<|a+r*F.n):=by
         have:=ND (f:=λl=>(E.C l).gu F l<|F.r<|a+r*F.n) (j:=a) (n:=F.n) Z;simp only[b]at this;have h:gF.gu F a (F.r<|a+r*F.n) (.ft r .kh)=1:=by simp only[gF.gu,if_true];rfl
         grind
        by_cases K:F.r (a+r*F.n)<=E.S.od
        .have M:∀k v,E.S=.dn k v->E.N 0=Í:=λk v h=>by
          cases O:E.N 0 with
          |none=>rfl
          |some e=>have:=p.C.f (by rw[O];simp);rw[this]at h;cases h
         rcases p.C.Y _ WB K with⟨W,q|q,_⟩|⟨r',s,q,_⟩|⟨_,⟨_,q⟩|⟨s,q1,q2⟩⟩
         .exact p.FP H Z<|M _ _ q
         .exact p.FP H Z<|M _ _ q
         .exact p.FP H Z<|M _ _ q
         .omega
         .rw[q1]at C;simp only[GS.sm]at C;omega
        .apply p.FP H Z;cases O:E.N 0 with
         |none=>rfl
         |some e=>
          have:=p.C.f (by rw[O];simp);rw[this]at K;simp only[ji.od]at K;omega
       .have:a=j:=Z
        subst this;let⟨e,k,l,_⟩:=p.M.jv a J;rw[C,u]at l;injection l with l;injection l with _ _ Cx _ _ _;have:decide (a<(fP.ft .kh).iV F.n)=Ì:=decide_eq_true (by simp only[fP.iV];omega);rw[this]at Cx;cases Cx
      .refine⟨_,I,B,p.I.Y B (λl g h=> ?_) Y⟩;rw[(p.g j J z).1]at h;cases a:E.C j with
       |mK r=>rw[a]at h;exact h.1
       |ft r v=>rw[a]at h;exact On h
       |jy r=>rw[a]at h;exact H.Y _ _ _ _ h
       |nZ r=>rw[a]at h;exact h.2.1
   |jr G=>
    let⟨_,_,x,d,_,b⟩:=p.C.g G o;rcases b with b|b
    .exact p.Jo H d b λN q=>by cases q
    .exact p.Jo H d b λN q=>by cases q
   |gQ r s=>
    let⟨_,h2,V⟩:=p.C.u r s o;rw[o]at Q;simp only[GS.sm]at Q;let⟨x,d,_,b⟩:=V Z;exact p.Jo H d b λN q=>by cases q
  .omega
 .refine⟨0,g,D,p.I.Y D (λl g h=> ?_) P⟩;rw[p.h.1]at h;exact agx H h
def PI.Jp(p:PI F i zX E S tr m lot gs w t):∀g∈gs,awake g:=by
 intro g e;obtain⟨a,f,rfl⟩:=Array.mem_iff_getElem.1 e;let⟨g0,_,c,d,_⟩:=p.I.C a _<|é f;intro τ b;generalize gs[a]=g at c b;generalize m a=K at c;cases c with
 |fY=>rw[b]at d;rcases d with q|q<;>cases q
 |ni _ _=>cases b
 |sZ _ _ _=>cases b
 |mJ _ _ _=>cases b
def agz(H:gL F):∀(k:Nat) (μ:Mu) (E:fN F) (S:Nat->Jd) (tr:Nat->gh) (m:Nat->ik) (lot:Nat->e5) (gs:Array Ä) (w:Ð) (sl:Option (Nat×Nat)) (t:ä),F.n+1-E.r=k->E.mu tr gs=μ->PI F i zX E S tr m lot gs w t->E.M≠ .fU-> ∃(N:Nat) (E':fN F) (b:Nat->Jd) (o:Nat->gh) (c:Nat->ik) (d:Nat->e5) (gs':Array Ä) (w':Ð) (r:Option (Nat×Nat)) (a:ä),Χ F.P N (ð gs w sl) t=(ğ<|ð gs' w' r,a)/\PI F i zX E' b o c d gs' w' a/\E'.M=.fU/\Jl F zX a:=by
 intro k
 induction k using Ď with
 |_ k ihk=>
  intro μ
  induction (ae0 F.N).apply μ with
  |intro μ _ V=>
   intro E S tr m lot gs w sl t hk W p z;let⟨a,g,d,r,hi,iB,B⟩:=crowd_pick (P:=F.P) (w:=w) (sl:=sl) p.Jp<|p.agy H;have p':=p.at H d;have jV:=p.b;rcases p'.agv H (sl:=r) z hi iB with⟨c,e,f,h,j,s,v,u,x,X,l,b,y⟩|⟨c,e,f,h,j,l,b,y⟩|⟨c,e,f,h,j,s,v,u,x,X,l,b⟩|⟨c,e,f,h,j,s,v,u,x,X,l,b,y⟩
   .have Y:=b.b;let⟨N,C,D,G,I,J,K,L,M,O,Q,T⟩:=V _ (W▸y) c e f h j s v r (t++u) Z U b λq=>z<|l q;exact⟨N+1,C,D,G,I,J,K,L,M,O,by simp only[Χ,B,x];exact Q,T⟩
   .have Y:=b.b;have h6:=b.at H w.drawn;exact V _ (W▸y) c e f h j gs w sl t Z U h6 λq=>z<|l q
   .have Y:=b.b;have q:=Ct b.C;let⟨N,C,D,G,I,J,K,L,M,O,Q,T⟩:=ihk (F.n+1-c.r) Z _ c e f h j s v r (t++u) U U b l;exact⟨N+1,C,D,G,I,J,K,L,M,O,by simp only[Χ,B,x];exact Q,T⟩
   .exact⟨1,c,e,f,h,j,s,v,r,t++u,by simp only[Χ,B,x],l,b,y⟩
end
end Go.Proofs.Y.fv
namespace Go.Proofs.Y.fv
open Go Go.Conc Go.Proofs.Y.Lift Go.RowKit Go.Conc.Lib Go.ConcR.Gen
section
variable{J:Jd}{l:e5}
def Oq(w:Ð)(b:∀j,l.O j->j<w.heap.size):lT l {l with w:=w} w w #[]:= ⟨Ç _,λ_ h=>À h,b,U,U,U,U,λ_ _ _ _=>rfl,λ_ _ _ _=>rfl,λ_ _ _=>rfl,U,U,U,λe a=>by simp at a,by simp[Ï],U,λ_=>⟨U,λe a=>by simp at a,U⟩,U⟩
def lX(a:∀j,l.O j->j<l.w.heap.size){w₁:Ð}(r:fD l l.w w₁):∀j,l.O j->j<w₁.heap.size:=λj b=>Ê (a j b) r.r
def Ot{R:Ð->Ð->Prop}{m:Ä->Ð->Prop}:∀{n:Nat} {g:Ä} {l:e5},İ P yQ R à m n g l.w->(∀w c,fD l w c->R w c)->(∀j,l.O j->j<l.w.heap.size)->(∀c d,fD l l.w c->m d c->fe P yQ J {l with w:=c} d)->fe P yQ J l g:=by
 intro n
 induction n with
 |zero=>
  intro g l h j i e;exact(fe.fu λc r=>e c g r<|h c<|j _ _ r).e8
 |succ n p=>
  intro g l h j i e;rcases h with h|⟨s,h⟩
  .exact(fe.fu λc r=>e c g r<|h c<|j _ _ r).e8
  .refine .mk s λc r=> ?_;have f:=h c<|j _ _ r;cases o:è P yQ g c with
   |go d k y=>
    rw[o,ť]at f;let⟨⟨t,u⟩,v⟩:=f;subst t u;exact⟨d,k,#[],{l with w:=k},U,Oq k<|lX i r,p v (λa b q=>j a b<|yj q) (lX i r) λa b q x=>e a b (r.e8<|yj q) x⟩
   |_=>rw[o]at f;exact f.elim
def agA{m:Ο}(b:m=ô\/m=î)(w:Ð)(c:∀j,l.O j->j<w.heap.size):lT l {l with d:=Ï l.d #[jG m],w:=w} w w #[jG m]:=by
 refine⟨Ç _,λ_ h=>À h,c,U,U,U,U,λ_ _ _ _=>rfl,λ_ _ _ _=>rfl,λ_ _ _=>rfl,U,U,U,λe a=> ?_,U,U,λ_=>⟨U,λe a=> ?_,U⟩,U⟩
 .have:e=jG m:=by simpa using a
  subst this;rcases b with rfl|rfl
  .exact Á<|Á<|Á<|À U
  .exact Á<|Á<|Á<|Á<|À U
 .have:e=jG m:=by simpa using a
  subst this;rcases b with rfl|rfl<;>rfl
def fe.agB{m:Ο}{b:Ä}(c:m=ô\/m=î)(e:g.status=Å)(f:∀j,l.O j->j<l.w.heap.size)(h:∀a,è P yQ g a=ş b a #[jG m])(i:∀a,fD l l.w a->fe P yQ J {l with d:=Ï l.d #[jG m],w:=a} b):fe P yQ J l g:= .mk e λa r=>⟨b,a,_,_,h a,agA c a<|lX f r,i a r⟩
def mO(b:Nat)(w:Ð):Prop:=(w.cell? ⟨b,0,Í⟩).isSome=Ì/\(w.cell? ⟨b,1,Í⟩).isSome=Ì
def mO.r(h:mO b w):∃v,w.cell? ⟨b,0,Í⟩=Ã v:=ü.1 h.1
def mO.C(h:mO b w):∃v,w.cell? ⟨b,1,Í⟩=Ã v:=ü.1 h.2
def RS(Ψ:Ð->Prop)(b:Nat)(w a:Ð):Prop:=w.heap.size<=a.heap.size/\(mO b w->mO b a)/\(Ψ w->Ψ a)
def SW(Ψ:Ð->Prop)(l:e5)(b:Nat)(w:Ð):Prop:=(∀j,l.O j->j<w.heap.size)/\mO b w/\Ψ w
def fE{Ψ:Ð->Prop}(h:SW Ψ l b w)(r:RS Ψ b w u):SW Ψ l b u:=⟨λj a=>Ê (h.1 j a) r.1,r.2.1 h.2.1,r.2.2 h.2.2⟩
def lF(Ψ:Ð->Prop)(l:e5)(b:Nat):Prop:=(l.K ⟨b,0,Í⟩\/l.M b)/\(l.K ⟨b,1,Í⟩\/l.M b)/\∀w c:Ð,w.heap.size<=c.heap.size->(∀j,l.M j->c.heap[j]?=w.heap[j]?)->(∀a,l.C a->c.cell? a=w.cell? a)->(∀a,l.C a->c.frozen? a=w.frozen? a)->(∀a,l.K a->(w.cell? a).isSome=Ì->(c.cell? a).isSome=Ì)->Ψ w->Ψ c
def lF.r{Ψ:Ð->Prop}(h:lF Ψ l b)(r:fD l w u):RS Ψ b w u:=⟨r.r,λq=>⟨h.1.elim (λk=>r.S _ k q.1) λm=>(by rw[gE<|r.I b m];exact q.1),h.2.1.elim (λk=>r.S _ k q.2) λm=>(by rw[gE<|r.I b m];exact q.2)⟩,h.2.2 w u r.r r.I r.N r.Y r.S⟩
def jw{Ψ:Ð->Prop}(a:lF Ψ l b)(hF:SW Ψ l b l.w)(c:İ P yQ (RS Ψ b) à (λd e=>fe P yQ J {l with w:=e} d) n g l.w):fe P yQ J l g:= Ot c (λ_ _ r=>a.r r) hF.1 λ_ _ _ h=>h
def nj{Ψ:Ð->Prop}(c:lF Ψ l b)(hF:SW Ψ l b l.w)(h:∀a,SW Ψ l b a->J {l with w:=a} g):fe P yQ J l g:=.fu λa r=>h a<|fE hF<|c.r r
def uQ{Ψ:Ð->Prop}(e:lF Ψ l b)(hF:SW Ψ l b l.w){m:Ο}{c:Ä}(f:m=ô\/m=î)(i:g.status=Å)(h:∀a,è P yQ g a=ş c a #[jG m])(j:∀a,SW Ψ l b a->fe P yQ J {l with d:=Ï l.d #[jG m],w:=a} c):fe P yQ J l g:= .agB f i hF.1 h λa r=>j a<|fE hF<|e.r r
end
section
variable{b:ø}{i:List Ů}
def Jq(m:Ο)(c:∀g,m≠.extern g)(d:y.defers=dcall F #[]::i)(e:P.funcs[F]?=Ã s)(f:(s.name== "runtime.NumGoroutine")=É)(j:s.body.isNone=Ì)(k:Extern.findNext s=Í) (l:Extern.find s=Ã λ_=>do mark m;pure Extern.Race.none_) (w:Ð):è P yQ (G {b.at y L with mode:=ù} qX) w=ş (G {b.at ⟨y.tmps,i⟩ L with mode:=ù} qX) w #[jG m]:= stepG_unwind_entry (v:=ı #[]) d e f j k l (by simp[Extern.Race.none_,jG]) (by simp[jG])<|by intro x a;simp[jG]at a;subst a;exact⟨U,λg h=>c g<|Loc.mark.inj h⟩
end
theorem Xa(s:Nat)(h:s%4294967296<2147483648):s&&&2147483648=0:=by
 have e:(2147483648:Nat)=(2^32-1)&&&2147483648:=A
 have a:(2:Nat)^32=4294967296:=A
 rw[e,<-Nat.and_assoc,Ą,a];have c:s%4294967296=(s%4294967296)&&&(2^31-1):=by rw[Ą];have b:(2:Nat)^31=2147483648:=A;rw[b];omega
 grind
theorem CM(s:Int)(a:0<=s)(b:s<1000000*4294967296)(h:s%4294967296<1000000):bits .and Ó s 2147483648=0:=by obtain⟨n,rfl⟩:=Int.eq_ofNat_of_zero_le a;have h:=(bits_nat Ó 63 A ö n 2147483648 Z A).1;grind [Xa]
theorem CN(s:Int)(a:0<=s)(b:s<1000000*4294967296)(h:s%4294967296<1000000):bits .and Ó s 2147483647=s%4294967296:=by have h:=bits_mask Ó 63 A ö 31 A s a Z;grind
def Jr(L:ě):Array Ĭ:=#[{dst:=Ã 113,op:=Ŧ<|ß 0,type:=L.tWgP,pos:= "waitgroup.go:142",after:=#[],guard:=Í},{dst:=Ã 114,op:=Op.nilCheck<|ß 113,type:=0,pos:= "waitgroup.go:142",after:=#[{on:=0,ground:=ý}],guard:=Í},{dst:=Ã 115,op:=Op.fieldAddr L.tWg (ß 114) 2,type:=0,pos:= "waitgroup.go:142",after:=#[{on:=1,ground:=ý}],guard:=Í},{dst:=Ã 116,op:=Ŭ {callee:=Callee.value<|ŧ L.semrelease,args:=#[ß 115,ċ<|Value.bool É,ċ<|ë Ũ 0],argTypes:=#[L.tPU32,4,3]},type:=0,pos:= "waitgroup.go:142",after:=#[{on:=2,ground:=ý}],guard:=Í}]
def Js(L:ě):Array Ĭ:=#[{dst:=Ã 111,op:=Ŧ<|ß 8,type:=L.tU32,pos:= "waitgroup.go:141",after:=#[],guard:=Í},{dst:=Ã 112,op:=Ω BinOp.sub L.tU32 (ß 111) (ċ<|ë ç 1) L.tU32,type:=L.tU32,pos:= "waitgroup.go:141",after:=#[{on:=0,ground:=ý}],guard:=Í},{dst:=Ã 8,op:=Op.assign<|ß 112,type:=L.tU32,pos:= "waitgroup.go:141",after:=#[{on:=1,ground:=ý},{on:=0,ground:=ũ},{on:=1,ground:=ũ}],guard:=Í}]
def Jt(L:ě)(b:Nat)(t:Array ã)(a:List ø):Ä:=G ((base L.add).at ⟨t,[dcall L.enable #[]]⟩ [Æ (Jr L) [3],ŏ 2,ĵ<|Ģ 33 (Js L) É,Ρ<|((Ģ 32 #[{dst:=Ã 109,op:=Ŧ<|ß 8,type:=L.tU32,pos:= "waitgroup.go:141",after:=#[],guard:=Í},{dst:=Ã 110,op:=Ω BinOp.neq L.tU32 (ß 109) (ċ<|ë ç 0) L.tU32,type:=4,pos:= "waitgroup.go:141",after:=#[{on:=0,ground:=ý}],guard:=Í}] É).seq<|Τ (ß 110) ο<|Code.exit 1).seq<|(ε 2<|Ģ 34 (Jr L) É).seq<|Ģ 33 (Js L) É,ŏ 1])<|(base L.done).at {tmps:=#[ì<|Ã {block:=b,off:=0},Â,ì<|Ã {block:=b,off:=0},Â],defers:=[]} [Æ #[{dst:=Ã 2,op:=Ŧ<|ß 0,type:=L.tWgP,pos:= "waitgroup.go:156",after:=#[],guard:=Í},{dst:=Ã 3,op:=Ŭ {callee:=Callee.value<|ŧ L.add,args:=#[ß 2,ċ<|ë Ũ<|-1],argTypes:=#[L.tWgP,3]},type:=0,pos:= "waitgroup.go:156",after:=#[{on:=0,ground:=ý}],guard:=Í}] [1]]::a
section
variable{Ψ:Ð->Prop}{L:ě}{l:e5}{e:Jd}{k:List Ţ}
def agC(H:Ŕ P L)(h:lF Ψ l b)(s:∀a,SW Ψ l b a->fe P É e {l with d:=0,w:=a} (G (f.at (y.put ((Q[i]?).bind (·.dst))<|ı #[])<|Æ Q jJ::k) qX)): ∀(r:Nat) (c:Int) (t u v x z B C D E F I J K M N O S T V W X Y pg p7 pj nJ mP oh om ot qP p8 p9 pn po qR qS qT qU qV qW qY qZ re mr my pv vZ we wh wi wj wm wo wq wv Ou Ov Ow Ox Oy Oz OA OB OC OD OG OH OJ OL OM ON OO OP OQ OS OT OU OV OW OX OY OZ O0 O1 O2 O3 O4 O5 O6 O7 O8 O9 Pa Pd Pe Pf Pg Pj Pk Pl Pm Pn Po Pp Pq Pr Pt Pu Pv Px Py Pz PE:ã) (a:Ð),SW Ψ l b a->(c<=(r:Int)+1/\(r:Int)+1<=c)->r+1<1000000-> fe P É (Fe P É b (fe P É e)<|r+1) {l with d:=1,w:=a} (Jt L b #[ì<|Ã ⟨b,0,Í⟩,t,u,v,x,z,B,C,ë ç c,D,E,F,I,J,K,M,N,O,S,T,V,W,X,Y,pg,p7,pj,nJ,mP,oh,om,ot,qP,p8,p9,pn,po,qR,qS,qT,qU,qV,qW,qY,qZ,re,mr,my,pv,vZ,we,wh,wi,wj,wm,wo,wq,wv,Ou,Ov,Ow,Ox,Oy,Oz,OA,OB,OC,OD,OG,OH,OJ,OL,OM,ON,OO,OP,OQ,OS,OT,OU,OV,OW,OX,OY,OZ,O0,O1,O2,O3,O4,O5,O6,O7,O8,O9,Pa,Pd,Pe,Pf,Pg,Pj,Pk,Pl,Pm,Pn,Po,Pp,Pq,Pr,Pt,Pu,Pv,Px,Py,Pz,ì<|Ã ⟨b,1,Í⟩,PE]<|f.at y (Æ Q (i::jJ)::k)::qX):=by
 intro r;unfold Jt Jr Js;lib_facts
 induction r with
 |zero=>
  intro c;intros;rename_i a hF p q;have e1:c=1:=Z
  subst e1;clear p q;refine nj (l:={l with d:=1,w:=a}) h hF λj hF=>⟨U,U,Ĝ U U H.f_semrelease<|æ L,_,U,λa n m o=>(ą U U (by k_ne) U H.f_semrelease (Ĕ L) (æ L) (ĕ L) (Ė L) (by simp[þ,gP]) m o).trans fR,?_⟩;walk_nrm;apply jw (l:={l with d:=1,w:=j}) h hF (n:=50);iterate 17 w_go fE
  refine Î λa g=> ?_;replace hF:=fE hF g;clear g;refine uQ (l:={l with d:=1,w:=a}) h hF (Á U) U (λw=>Jq î fg U H.f_enable (Ĥ L) (ĥ L) (Ħ L) (ħ L) w) λCO hF=> ?_;have oL:Ï 1 #[jG î]=0:=rfl;rw[oL];apply jw (l:={l with d:=0,w:=CO}) h hF (n:=10);u_leave0 H.f_add fE hF;iterate 2 w_go fE
  u_leave0 H.f_done fE hF
  refine Î λa g=> ?_;replace hF:=fE hF g;clear g;exact s _ hF
 |succ r ih=>
  intro c;intros;rename_i a hF p q;have g1:(c-1)%4294967296=c-1:=Z
  have g2:(c-1 !=0)=Ì:=by simp;omega
  refine nj (l:={l with d:=1,w:=a}) h hF λj hF=>⟨U,U,Ĝ U U H.f_semrelease<|æ L,_,U,λa n m o=>(ą U U (by k_ne) U H.f_semrelease (Ĕ L) (æ L) (ĕ L) (Ė L) (by simp[þ,gP]) m o).trans fR,?_⟩;walk_nrm;apply jw (l:={l with d:=1,w:=j}) h hF (n:=50);iterate 22 w_go fE
  refine Î λa g=> ?_;replace hF:=fE hF g;clear g;apply ih (c-1)<;>first|exact hF|omega
end
section
variable{b:ø}{a:ō}{k:List Ţ}{cs:List ø}{d:Nat}
def rf(P:Ğ)(d:Nat)(g:Ä):Prop:=∃N,Ź P N d g
def CP(P:Ğ):Jd:=λl g=>rf P l.d g
def Ju{a:Ä}(b:g.status=Å)(h:∀w,è P É g w=ş a w)(c:rf P d a):rf P d g:=let⟨n,q⟩:=c;⟨n+1,.ctl b h q⟩
def arF(f:Q[i]?=Ã o)(g:á o (Ĩ Q a.tmps)=Ì)(j:b.kind≠Đ) (h:∀(w:Ð) (K:ō->Ð->Prop),K y w->uponK o a K ((Þ a.eval o).run P w)) (n:∀w,(Þ a.eval o).events P w #[]=#[]) (p:rf P d (G (b.at y<|Æ Q jJ::k) cs)):rf P d (G (b.at a<|Æ Q (i::jJ)::k) cs):=by
 refine Ju U (λw=> ?_) p;have e:=h w (λx c=>x=y/\c=w) ⟨U,U⟩;have l:listed P b.fn a o w=#[]:=by unfold listed;rw[n w,Ć]
 revert e;generalize m:(Þ a.eval o).run P w=r;intro e;match r,e with
 |.ok (.value v) w',⟨c,x⟩=>subst x;rw[Ń f g j m,l,c]
 |.ok .skip w',⟨c,x⟩=>subst x;rw[Ŗ f g j m,l,c]
def PF:∀{n m d:Nat} {g:Ä},n<=m->Ź P n d g->Ź P m d g
 |0,0,_,_,_,h=>h
 |0,_+1,_,_,_,h=>À h
 |_+1,0,_,_,e,_=>absurd e Z
 |_+1,_+1,_,_,e,h=>h.imp id λ⟨a,b,c,f,i,j⟩=>⟨a,b,c,f,i,PF (Nat.le_of_succ_le_succ e) j⟩
def FQ{n:Nat}{ops:Array Oper}{i:Nat}{rest:List Nat}{o:Oper}{a':Act}(hq:QuitsD P n d (G (b.at a'<|.inRegion ops rest::k) cs))(ho:ops[i]?=some o:=by rfl)(hw:Region.wanted o (yielded ops a.tmps)=true:=by rfl)(hk:b.kind≠.early:=by k_ne) (h:∀(w:World) (K:Act->World->Prop),K a' w->uponK o a K ((execOp a.eval o).run P w):=by intro w K hK;go_simp;(try w_num);exact hK) (he:∀w,(execOp a.eval o).events P w #[]=#[]:=by intro _;simp[go_sem, *]): QuitsD P (n+1) d (G (b.at a<|.inRegion ops (i::rest)::k) cs):=by
 refine QuitsD.ctl U (λw=> ?_) hq;have h1:=h w (λx y=>x=a'/\y=w) ⟨U,U⟩;have h2:listed P b.fn a o w=#[]:=by unfold listed;rw[he w,Ć]
 revert h1;generalize hr:(Þ a.eval o).run P w=r;intro h1;match r,h1 with
 |.ok (.value v) w',⟨e1,e2⟩=>subst e2;rw[Ń ho hw hk hr,h2,e1]
 |.ok .skip w',⟨e1,e2⟩=>subst e2;rw[Ŗ ho hw hk hr,h2,e1]
end
section
variable{Ψ:Ð->Prop}{L:ě}{b:Nat}{l:e5}{a:ō}{ops:Array Ĭ}{rest:List Nat}{k:List Ţ}{cs:List ø}
def agD(H:Ŕ P L)(g:lF Ψ l b)(h:rf P 0 (G (f.at (a.put ((ops[i]?).bind (·.dst))<|ı #[])<|Æ ops rest::k) cs)): ∀(r:Nat) (c:Int) (t u v x y z B C D E F I J K M N O Q S T V W X Y pj nJ mP oh om ot qP p8 p9 pn po qR qS qT qU qV qW qY qZ re mr my pv vZ we wh wi wj wm wo wq wv Ou Ov Ow Ox Oy Oz OA OB OC OD OG OH OJ OL OM ON OO OP OQ OS OT OU OV OW OX OY OZ O0 O1 O2 O3 O4 O5 O6 O7 O8 O9 Pa Pd Pe Pf Pg Pj Pk Pl Pm Pn Po Pp Pq Pr Pt Pu Pv Px Py Pz PE:ã) (e:Ð),SW Ψ l b e->(c<=(r:Int)+1/\(r:Int)+1<=c)->r+1<1000000-> fe P É (Fe P É b (CP P)<|r+1) {l with d:=1,w:=e} (Jt L b #[ì<|Ã ⟨b,0,Í⟩,t,u,v,x,y,z,B,ë ç c,C,D,E,F,I,J,K,M,N,O,Q,S,T,V,W,X,Y,pj,nJ,mP,oh,om,ot,qP,p8,p9,pn,po,qR,qS,qT,qU,qV,qW,qY,qZ,re,mr,my,pv,vZ,we,wh,wi,wj,wm,wo,wq,wv,Ou,Ov,Ow,Ox,Oy,Oz,OA,OB,OC,OD,OG,OH,OJ,OL,OM,ON,OO,OP,OQ,OS,OT,OU,OV,OW,OX,OY,OZ,O0,O1,O2,O3,O4,O5,O6,O7,O8,O9,Pa,Pd,Pe,Pf,Pg,Pj,Pk,Pl,Pm,Pn,Po,Pp,Pq,Pr,Pt,Pu,Pv,Px,Py,Pz,ì<|Ã ⟨b,1,Í⟩,PE]<|f.at a (Æ ops (i::rest)::k)::cs):=by
 intro r;unfold Jt Jr Js;lib_facts
 induction r with
 |zero=>
  intro c;intros;rename_i e hF o p;have e1:c=1:=Z
  subst e1;clear o p;refine nj (l:={l with d:=1,w:=e}) g hF λq hF=>⟨U,U,Ĝ U U H.f_semrelease<|æ L,_,U,λe n j m=>(ą U U (by k_ne) U H.f_semrelease (Ĕ L) (æ L) (ĕ L) (Ė L) (by simp[þ,gP]) j m).trans fR,?_⟩;walk_nrm;show rf P 1 _;let⟨n,h⟩:=h;refine⟨n+150,?_⟩;repeat(first|refine FQ ?_|q_go)
  q_en H L
  q_leave0 H.f_add
  repeat(first|refine FQ ?_|q_go)
  q_leave0 H.f_done
  exact PF Z h
 |succ r ih=>
  intro c;intros;rename_i e hF o p;have g1:(c-1)%4294967296=c-1:=Z
  have g2:(c-1 !=0)=Ì:=by simp;omega
  refine nj (l:={l with d:=1,w:=e}) g hF λq hF=>⟨U,U,Ĝ U U H.f_semrelease<|æ L,_,U,λe n j m=>(ą U U (by k_ne) U H.f_semrelease (Ĕ L) (æ L) (ĕ L) (Ė L) (by simp[þ,gP]) j m).trans fR,?_⟩;walk_nrm;apply jw (l:={l with d:=1,w:=q}) g hF (n:=50);iterate 22 w_go fE
  refine Î λe s=> ?_;replace hF:=fE hF s;clear s;apply ih (c-1)<;>first|exact hF|omega
end
section
variable{Ψ:Ð->Prop}{L:ě}{l:e5}{k:List Ţ}
def agE(H:Ŕ P L)(J:l.K ⟨b,0,Í⟩/\l.K ⟨b,1,Í⟩)(z:lF Ψ l b)(hF:SW Ψ l b l.w)(B:l.d=0)(q:rf P 0 (G (f.at (y.put ((Q[i]?).bind (·.dst))<|ı #[])<|Æ Q jJ::k) qX)): fe P É (λl g=>xT P É b (CP P) (ki l) g) l (G ((base L.done).at ⟨#[ì<|Ã ⟨b,0,Í⟩,Â,Â,Â],[]⟩ [ĵ<|body_done L])<|f.at y (Æ Q (i::jJ)::k)::qX):=by
 lib_facts;simp only[body_done,doneFn,ć];apply jw z hF (n:=40);iterate 2 w_go fE
 u_call H.f_add (nm_add L) addFn fE hF
 iterate 11 w_go fE
 u_conv H.underlying_tWgP H.room_tWg (mO.r hF.2.1).choose_spec fE hF
 refine Î λa g=> ?_;replace hF:=fE hF g;clear g;refine nj (l:={l with w:=a}) z hF λc hF=>⟨B,U,_,λ_=>Ē Į fg U U (by k_ne) U H.f_relMerge (x_relMerge_n L) (x_relMerge_b L) (x_relMerge_x L) (x_relMerge_f L) (by simp[þ,fG]),?_⟩;walk_nrm;have e:lF (λ_=>True) (ki {l with w:=c}) b:=⟨À J.1,À J.2,λ_ _ _ _ _ _ _ _=>trivial⟩;have C:SW (λ_=>True) (ki {l with w:=c}) b (ki {l with w:=c}).w:=⟨λj h=>h.elim,hF.2.1,trivial⟩;have M:(ki {l with w:=c}).d=0:=B;generalize ki {l with w:=c}=l2 at e C M|-;replace hF:=C;clear C z B;apply jw e hF (n:=10);iterate 3 w_go fE
 refine Î λa g=> ?_;replace hF:=fE hF g;clear g;refine uQ (l:={l2 with w:=a}) e hF (À U) U (λ_=>Ę ô fg U U (by k_ne) U H.f_disable (ń L) (Ņ L) (ņ L)<|Ň L) λT hF=> ?_;walk_nrm;have V:Ï l2.d #[jG ô]=1:=by rw[M];rfl
 rw[V];apply jw (l:={l2 with d:=1,w:=T}) e hF (n:=50);iterate 2 w_go fE
 u_defer fE hF
 iterate 8 w_go fE
 u_bub fE hF
 iterate 11 w_go fE
 u_call H.f_uAdd (nm_uAdd L) uAddFn fE hF
 iterate 10 w_go fE
 refine Î λa g=> ?_;replace hF:=fE hF g;clear g;refine nj (l:={l2 with d:=1,w:=a}) e hF λc hF=>⟨U,U,λv=>⟨_,λa p D=>(Ľ U U (by k_ne) U H.f_addU64 (Ž L) (ž L) (ſ L) Ó (Α L) U U p D).trans fR,?_⟩⟩;walk_nrm;have N:Ó.wrap (v+18446744069414584320)=Ó.wrap (v+pY):=rfl;rw[N];clear N;obtain⟨s,E⟩:∃s,Ó.wrap (v+pY)=s:=⟨_,U⟩;simp only[E];have F:0<=s:=by rw[<-E];have:Ó.wrap (v+pY)=(v+pY)%18446744073709551616:=rfl;rw[this];omega
 clear E v;by_cases o:s=0\/(fS<=s/\s<1000000*fS/\s%fS<1000000)
 .rw[if_pos o];by_cases m:s=0;focus
   subst m;clear o F
  rotate_left;focus
   have W:=o.resolve_left m;clear o m F;let⟨X,Y,c6⟩:=W;have q4:(4294967296:Int)<=s:=X;have I:s<1000000*4294967296:=Y;have O:s%4294967296<1000000:=c6;have f1:=CM s Z I O;have t:=CN s Z I O;obtain⟨x,g1⟩:∃x,(s/4294967296+2147483648)%4294967296-2147483648=x:=⟨_,U⟩;have g2:¬x<0:=Z
   have g3:0<x:=Z
   by_cases u:s%4294967296=0;focus rw[u]at t
   rotate_left;focus
    obtain⟨r,g4⟩:∃r,s%4294967296=r:=⟨_,U⟩;rw[g4]at t u;have S:r%4294967296=r:=Z
    have g6:(r !=0)=Ì:=by simpa using u
  all_goals
   show rf P 1 _;let⟨n,q⟩:=q;refine⟨n+150,?_⟩;repeat(first|refine FQ ?_|q_go)
   q_leave1 H.f_uAdd
   repeat(first|refine FQ ?_|q_go)
   q_en H L
   q_leave0 H.f_add
   repeat(first|refine FQ ?_|q_go)
   q_leave0 H.f_done
   exact PF Z q
 .rw[if_neg o];by_cases m:0<s/\s<1000000
  .rw[if_pos m];let⟨q4,I⟩:=m;clear o F;have f1:=CM s Z Z Z;have t:=CN s Z Z Z;have g1:(s/4294967296+2147483648)%4294967296-2147483648=0:=Z
   have S:s%4294967296=s:=Z
   rw[S]at t;have g6:(s !=0)=Ì:=by simp;omega
   have X:(s==0)=É:=by simp;omega
   have O:(s.toNat:Int)=s:=Z
   apply jw (l:={l2 with d:=1,w:=c}) e hF (n:=150);iterate 3 w_go fE
   u_leave1 H.f_uAdd fE hF
   iterate 89 w_go fE
   u_call H.f_uLoad (ů L) Ξ fE hF
   iterate 9 w_go fE
   refine Î λa g=> ?_;replace hF:=fE hF g;clear g;refine nj (l:={l2 with d:=1,w:=a}) e hF λc hF=>⟨U,U,λv=>⟨_,λa p=>ę U U (by k_ne) U H.f_loadU64 (ň L) (ŉ L) (Ŋ L) Ó (ŋ L) U p,?_⟩⟩;show fe P É (if v=(s.toNat:Int)then IV P É b (CP P) s.toNat else λ_ _=>True) _ _;by_cases u:v=(s.toNat:Int)
   .rw[if_pos u];rw[O]at u;subst u;walk_nrm;have Y:(v !=v)=É:=fg
    apply jw (l:={l2 with d:=1,w:=c}) e hF (n:=150);iterate 3 w_go fE
    u_leave1 H.f_uLoad fE hF
    iterate 10 w_go fE
    u_call H.f_uStore (nm_uStore L) uStoreFn fE hF
    iterate 5 w_go fE
    refine Î λa g=> ?_;replace hF:=fE hF g;clear g;refine nj (l:={l2 with d:=1,w:=a}) e hF λc hF=>⟨U,U,_,λa x p D=>stepG_store_atomic U U (by k_ne) U H.f_storeU64 (x_storeU64_n L) (x_storeU64_b L) (x_storeU64_x L) (x_storeU64_f L) U U p D,?_⟩;walk_nrm;obtain⟨r,W⟩:∃r,v.toNat=r+1:=⟨v.toNat-1,Z⟩;rw[W];apply jw (l:={l2 with d:=1,w:=c}) e hF (n:=150);iterate 2 w_go fE
    u_leave0 H.f_uStore fE hF
    iterate 24 w_go fE
    refine Î λa g=> ?_;replace hF:=fE hF g;clear g;apply agD H e q r v<;>first|exact hF|omega
   .rw[if_neg u];exact .fu λ_ _=>trivial
  .rw[if_neg m];trivial
end
def RT(_ _:Ð):Prop:=True
def fA{w₁:Ð}(_:True)(_:RT w w₁):True:=trivial
def agF(s:Int)(a:0<=s)(b:s<9223372036854775808)(h:s%4294967296<1000000):bits .and Ó s 2147483648=0:=by obtain⟨n,rfl⟩:=Int.eq_ofNat_of_zero_le a;have h:=(bits_nat Ó 63 A ö n 2147483648 Z A).1;rw[Xa n Z]at h;simpa using h
def agG(s:Int)(a:0<=s)(c:s<9223372036854775808)(h:s%4294967296<1000000):bits .and Ó s 2147483647=s%4294967296:=by
 have h:=bits_mask Ó 63 A ö 31 A s a Z;have e:((2:Int)^31-1)=2147483647:=A
 have b:((2:Int)^31)=2147483648:=A
 rw[e,b]at h;rw[h];omega
section
variable(P:Ğ)(L:ě)(f:Bool)(b:Nat)(j:Jd)(c:ø)(m:List ø)(l:e5)
def Xb(g:Ä):Prop:=∃T:Array ã,g=G ((base L.wait).at ⟨T,[]⟩ [ĵ<|L7 L,Ρ<|L7 L,ŏ 0]) (c::m)/\T.size=84/\T[0]?=Ã (ì<|Ã ⟨b,0,Í⟩)
def Xc(v:Int)(g:Ä):Prop:=g.status=Å/\
 (∃a,(∀w:Ð,w.cell? (fG b)=Ã (ë Ó v)->w.frozen? (fG b)=É->è P f g w=ş a (w.setCell (fG b)<|ë Ó<|Ó.wrap<|v+1) #[kg<|fG b,mq<|fG b])/\fe P f (if v%fS=0 then Nu P f b j else IX P f b j) l a)/\
 ∃a,(∀(w:Ð) (x:Int),x≠v->w.cell? (fG b)=Ã (ë Ó x)->w.frozen? (fG b)=É->è P f g w=ş a w #[kg<|fG b])/\∀w,İ P f RT à (λg _=>Xb L b c m g) 10 a w
def PG(g:Ä):Prop:=g.status=Å/\∀v,∃a,(∀w:Ð,w.cell? (fG b)=Ã (ë Ó v)->è P f g w=ş a w #[kg<|fG b])/\(0<=v/\v<1000000->fe P f (Ff P f b j) l a)/\
 ((fS<=v/\v<fS*2147483648/\v%fS<1000000)->∀w,İ P f RT à (λg _=>Xc P L f b j c m l v g) 60 a w)
end
section
variable{Ψ:Ð->Prop}{P:Ğ}{L:ě}{f:Bool}{b:Nat}{l:e5}{j:Jd}{c:ø}{a:ō}{k:List Ţ}{m:List ø}
def Xd(H:Ŕ P L)(p:lF Ψ l b)(J:SW Ψ l b l.w)(u:l.d=1)(z:∀o,SW Ψ l b o->fe P f j {l with d:=0,w:=o} (G (c.at (a.put ((Q[i]?).bind (·.dst))<|ı #[])<|Æ Q jJ::k) m)) (h:Xb L b (c.at a<|Æ Q (i::jJ)::k) m g) (w:Ð):İ P f RT à (λg _=>PG P L f b j (c.at a<|Æ Q (i::jJ)::k) m l g) 30 g w:=by
 lib_facts;obtain⟨T,rfl,V,K⟩:=h;obtain⟨v0,v1,v2,v3,v4,v5,v6,v7,v8,v9,v10,v11,v12,v13,v14,v15,v16,v17,v18,v19,v20,v21,v22,v23,v24,v25,v26,v27,v28,v29,v30,v31,v32,v33,v34,v35,v36,v37,v38,v39,v40,v41,v42,v43,v44,v45,v46,v47,v48,v49,v50,v51,v52,v53,v54,v55,v56,v57,v58,v59,v60,v61,v62,v63,v64,v65,v66,v67,v68,v69,v70,v71,v72,v73,v74,v75,v76,v77,v78,v79,v80,v81,v82,v83,rfl⟩:=array84 T V;simp only[List.getElem?_toArray,List.getElem?_cons_zero,Ķ]at K;subst K;have hF:True:=trivial;simp only[L7,ţ,waitFn,ć];iterate 6 w_go fA
 u_call H.f_uLoad (ů L) Ξ fA hF
 iterate 9 w_go fA
 refine Î λo e=> ?_;clear e hF o;refine⟨U,λv=>⟨_,λo q=>ę U U (by k_ne) U H.f_loadU64 (ň L) (ŉ L) (Ŋ L) Ó (ŋ L) U q,λB=> ?_,λB w=> ?_⟩⟩
 .walk_nrm;let⟨t,x⟩:=B;have W:=CM v Z Z Z;have C:=CN v Z Z Z;have X:(v/4294967296+2147483648)%4294967296-2147483648=0:=Z
  have M:v%4294967296=v:=Z
  rw[M]at C;have hF:=J;apply jw (l:=l) p hF (n:=150);iterate 3 w_go fE
  u_leave1 H.f_uLoad fE hF
  iterate 27 w_go fE
  refine Î λo e=> ?_;replace hF:=fE hF e;clear e;refine uQ (l:={l with w:=o}) p hF (Á U) U (λ_=>Ę î fg U U (by k_ne) U H.f_enable (Ĥ L) (ĥ L) (Ħ L)<|ħ L) λD hF=> ?_;have E:Ï l.d #[jG î]=0:=by rw[u];rfl
  rw[E];walk_nrm;apply jw (l:={l with d:=0,w:=D}) p hF (n:=50);iterate 3 w_go fE
  u_conv H.underlying_tWgP H.room_tWg (mO.r hF.2.1).choose_spec fE hF
  refine Î λo e=> ?_;replace hF:=fE hF e;clear e;refine nj (l:={l with d:=0,w:=o}) p hF λr hF=>⟨U,U,_,λ_=>Ē ő fg U U (by k_ne) U H.f_acquire (Ű L) (ű L) (Ų L) (ų L) (by simp[þ,fG]),?_⟩;walk_nrm;by_cases s:v=0
  .subst s;apply jw (l:={l with d:=0,w:=r}) p hF (n:=50);iterate 19 w_go fE
   u_leave0 H.f_wait fE hF
   refine Î λo e=> ?_;replace hF:=fE hF e;clear e;exact z _ hF
  .have S:(v==0)=É:=by simp;omega
   apply jw (l:={l with d:=0,w:=r}) p hF (n:=50);iterate 19 w_go fE
   u_leave0 H.f_wait fE hF
   refine Î λo e=> ?_;replace hF:=fE hF e;clear e;exact z _ hF
 .walk_nrm;let⟨N,O,Y⟩:=B;have q4:(4294967296:Int)<=v:=N;have q5:v<4294967296*2147483648:=O;have F:v%4294967296<1000000:=Y;clear N O;have C:=agG v Z Z F;obtain⟨I,X⟩:∃I,(v/4294967296+2147483648)%4294967296-2147483648=I:=⟨_,U⟩;have g2:(I==0)=É:=by simp;omega
  have g3:(v+1)%18446744073709551616=v+1:=Z
  have yn:Ó.wrap (v+1)=v+1:=IU Z Z;obtain⟨t,g4⟩:∃t,v%4294967296=t:=⟨_,U⟩;have W:=agF v Z Z F;rw[g4]at C F;have M:t%4294967296=t:=Z
  have hF:True:=trivial;iterate 3 w_go fA
  u_leave1 H.f_uLoad fA hF
  iterate 32 w_go fA
  u_call H.f_uCas (nm_uCas L) uCasFn fA hF
  iterate 11 w_go fA
  refine Î λo e=> ?_;clear e hF o;refine⟨U,⟨_,λo q y=>(stepG_cas_hit (v:=v) (n:=v+1) U U (by k_ne) U H.f_casU64 (Β L) (Γ L) (Δ L) Ó (Ε L) U U U q y).trans (by rw[yn];rfl),?_⟩,_,λo x kT q y=>stepG_cas_miss (v:=x) (old:=v) (n:=v+1) U U (by k_ne) U H.f_casU64 (Β L) (Γ L) (Δ L) Ó (Ε L) U U U q y kT,λw=> ?_⟩
  .walk_nrm;have hF:=J;by_cases s:v%fS=0;focus
    rw[if_pos s];have s:v%4294967296=0:=s;have:t=0:=Z
    subst this;apply jw (l:=l) p hF (n:=150);iterate 3 w_go fE
    u_leave1 H.f_uCas fE hF
    iterate 15 w_go fE
    u_conv H.underlying_tPU32 H.room_tU32 (mO.C hF.2.1).choose_spec fE hF
    refine Î λo e=> ?_;replace hF:=fE hF e;clear e;refine nj (l:={l with w:=o}) p hF λr hF=>⟨u,U,_,λ_=>Ē Υ fg U U (by k_ne) U H.f_raceWrite (x_raceWrite_n L) (x_raceWrite_b L) (x_raceWrite_x L) (x_raceWrite_f L) (by simp[þ,gP]),?_⟩;walk_nrm;apply jw (l:={l with w:=r}) p hF (n:=150);iterate 23 w_go fE
   rotate_left;focus
    rw[if_neg s];have s:¬v%4294967296=0:=s;have S:(t==0)=É:=by simp;omega
    apply jw (l:=l) p hF (n:=150);iterate 3 w_go fE
    u_leave1 H.f_uCas fE hF
    iterate 34 w_go fE
   all_goals
    refine Î λo e=> ?_;replace hF:=fE hF e;clear e;refine nj (l:={l with w:=o}) p hF λr hF=>⟨u,U,U,λo q=>stepG_semacquire_wait U U U H.f_semacquire (ŗ L) (Ř L) (ř L) (Ś L) (by simp[þ,gP]) q,_,λo n hn q y=>(stepG_semacquire (n:=n) U U (by k_ne) U H.f_semacquire (ŗ L) (Ř L) (ř L) (Ś L) (by simp[þ,gP]) q hn y).trans fR,?_⟩;walk_nrm;apply jw (l:={l with w:=r}) p hF (n:=50);iterate 6 w_go fE
    u_call H.f_uLoad (ů L) Ξ fE hF
    iterate 9 w_go fE
    refine Î λo e=> ?_;replace hF:=fE hF e;clear e;refine nj (l:={l with w:=o}) p hF λr hF=>⟨u,U,λx=>⟨_,λo q=>ę U U (by k_ne) U H.f_loadU64 (ň L) (ŉ L) (Ŋ L) Ó (ŋ L) U q,?_⟩⟩;show fe P f (if x=0 then Ff P f b j else λ_ _=>True) _ _;by_cases S:x=0
    .subst S;rw[if_pos U];walk_nrm;apply jw (l:={l with w:=r}) p hF (n:=50);iterate 3 w_go fE
     u_leave1 H.f_uLoad fE hF
     iterate 7 w_go fE
     refine Î λo e=> ?_;replace hF:=fE hF e;clear e;refine uQ (l:={l with w:=o}) p hF (Á U) U (λ_=>Ę î fg U U (by k_ne) U H.f_enable (Ĥ L) (ĥ L) (Ħ L)<|ħ L) λD hF=> ?_;have E:Ï l.d #[jG î]=0:=by rw[u];rfl
     rw[E];walk_nrm;apply jw (l:={l with d:=0,w:=D}) p hF (n:=50);iterate 3 w_go fE
     u_conv H.underlying_tWgP H.room_tWg (mO.r hF.2.1).choose_spec fE hF
     refine Î λo e=> ?_;replace hF:=fE hF e;clear e;refine nj (l:={l with d:=0,w:=o}) p hF λr hF=>⟨U,U,_,λ_=>Ē ő fg U U (by k_ne) U H.f_acquire (Ű L) (ű L) (Ų L) (ų L) (by simp[þ,fG]),?_⟩;walk_nrm;apply jw (l:={l with d:=0,w:=r}) p hF (n:=50);iterate 9 w_go fE
     u_leave0 H.f_wait fE hF
     refine Î λo e=> ?_;replace hF:=fE hF e;clear e;exact z _ hF
    .rw[if_neg S];exact .fu λ_ _=>trivial
  .walk_nrm;have hF:True:=trivial;iterate 3 w_go fA
   u_leave1 H.f_uCas fA hF
   iterate 5 w_go fA
   exact Î λ_ _=>⟨_,U,fg,fg⟩
end
section
variable{Ψ:Ð->Prop}{L:ě}{l:e5}{e:Jd}{k:List Ţ}
def agH{D:Ð->Ð->Array đ->Prop}{b:Ä->Ð->Prop}(h:İ P yQ RT D b n g w):İ P yQ RT D b n g u:=by
 cases n with
 |zero=>exact λa _=>h a trivial
 |succ n=>exact h.imp (λq a _=>q a trivial) λq=>⟨q.1,λa _=>q.2 a trivial⟩
def Xe{D:Ð->Ð->Array đ->Prop}{b c:Ä->Prop}(d:∀g,b g->∀w,İ P yQ RT D (λg _=>c g) m g w):∀{n:Nat} {g:Ä} {w:Ð},İ P yQ RT D (λg _=>b g) n g w->İ P yQ RT D (λg _=>c g) (n+m) g w:=by
 intro n
 induction n with
 |zero=>intro g w h;rw[Nat.zero_add];exact d g (h w trivial) w
 |succ n i=>
  intro g w h;rcases h with h|⟨j,h⟩
  .exact(d g (h w trivial) w).mono Z
  .rw[show n+1+m=(n+m)+1 by omega];refine Goes.step j λe r=> ?_;have a:=h e r;cases f:è P yQ g e with
   |go k l o=>
    rw[f,ť]at a;rw[ť];exact⟨a.1,i a.2⟩
   |_=>rw[f]at a;exact a.elim
theorem Xf{S:Ä->Prop}(l:∀g,S g->g.status=Å)(h:∀w,İ P yQ RT à (λg _=>S g) (n+1) g w):g.status=Å/\(S g\/∀a,∃b,è P yQ g a=ş b a #[]/\∀w,İ P yQ RT à (λg _=>S g) n b w):=by
 by_cases e:S g
 .grind
 .rcases h default with q|⟨f,q⟩
  .exact absurd (q default trivial) e
  .refine⟨f,Á λa=> ?_⟩;have c:=q a trivial;cases d:è P yQ g a with
   |go b m o=>
    rw[d,ť]at c;let⟨⟨i,j⟩,k⟩:=c;subst i j;exact⟨b,U,λw=>agH k⟩
   |_=>rw[d]at c;exact c.elim
def agI(H:Ŕ P L)(B:60<=j)(D:lF Ψ l b)(E:SW Ψ l b l.w)(C:l.d=1)(F:∀a,SW Ψ l b a->fe P yQ e {l with d:=0,w:=a} (G (f.at (y.put ((Q[i]?).bind (·.dst))<|ı #[])<|Æ Q jJ::k) qX)) (I:n<=j) (h:∀w,İ P yQ RT à (λg _=>PG P L yQ b e (f.at y<|Æ Q (i::jJ)::k) qX l g) n g w):Nv P yQ j b e (.fT n) l g:=by
 refine⟨C,λp g=>match p with
  |.fT n=>n<=j/\∀w,İ P yQ RT à (λg _=>PG P L yQ b e (f.at y<|Æ Q (i::jJ)::k) qX l g) n g w
  |.ld v m=>m<=j/\fS<=v/\∀w,İ P yQ RT à (λg _=>Xc P L yQ b e (f.at y (Æ Q (i::jJ)::k)) qX l v g) m g w,⟨I,h⟩,λp g J=> ?_⟩
 match p,J with
 |.fT (n+1),⟨h1,h2⟩=>
  let⟨r,u⟩:=Xf (λg h=>h.1) h2;refine⟨r,h1,u.imp (λq=>⟨ò _,λw a _=>q⟩) λq a=> ?_⟩;let⟨s,c,o⟩:=q a;exact⟨s,c,Z,o⟩
 |.fT 0,⟨_,h2⟩=>
  have q:=h2 default default trivial;refine⟨q.1,λv=> ?_⟩;let⟨s,c,o,x⟩:=q.2 v;refine⟨s,c,?_⟩;by_cases z:0<=v/\v<fS
  .rw[if_pos z];exact λt=>o ⟨z.1,t⟩
  .rw[if_neg z];exact λt=>⟨60,B,B,t.1,x t⟩
 |.ld v (m+1),⟨h1,h0,h2⟩=>
  let⟨r,u⟩:=Xf (λg h=>h.1) h2;refine⟨r,h0,h1,u.imp (λq=>⟨ò _,h0,λw a _=>q⟩) λq a=> ?_⟩;let⟨s,c,o⟩:=q a;exact⟨s,c,Z,h0,o⟩
 |.ld v 0,⟨_,h0,h2⟩=>
  let⟨r,⟨m,c,o⟩,q,x,s⟩:=h2 default default trivial;exact⟨r,h0,⟨m,c,o⟩,q,x,40,Z,Z,λw=>Xe (λg t=>Xd H D E C F t)<|s w⟩
def Xg(H:Ŕ P L)(o:60<=j)(a:lF Ψ l b)(hF:SW Ψ l b l.w)(p:l.d=0)(h:∀c,SW Ψ l b c->fe P yQ e {l with d:=0,w:=c} (G (f.at (y.put ((Q[i]?).bind (·.dst))<|ı #[])<|Æ Q jJ::k) qX)): fe P yQ (pZ P yQ j b e .iP) l (G ((base L.wait).at ⟨#[ì<|Ã ⟨b,0,Í⟩,Â,Â,Â,Â,Â,Â,Â,Â,Â,Â,Â,Â,Â,Â,Â,Â,Â,Â,Â,Â,Â,Â,Â,Â,Â,Â,Â,Â,Â,Â,Â,Â,Â,Â,Â,Â,Â,Â,Â,Â,Â,Â,Â,Â,Â,Â,Â,Â,Â,Â,Â,Â,Â,Â,Â,Â,Â,Â,Â,Â,Â,Â,Â,Â,Â,Â,Â,Â,Â,Â,Â,Â,Â,Â,Â,Â,Â,Â,Â,Â,Â,Â,Â],[]⟩ [ĵ<|ţ L])<|f.at y (Æ Q (i::jJ)::k)::qX):=by
 lib_facts;simp only[ţ,waitFn,ć];apply jw a hF (n:=40);iterate 3 w_go fE
 refine Î λc q=> ?_;replace hF:=fE hF q;refine uQ a hF (À U) U (λ_=>Ę ô fg U U (by k_ne) U H.f_disable (ń L) (Ņ L) (ņ L)<|Ň L) λt hF=> ?_;walk_nrm;have r:Ï l.d #[jG ô]=1:=by rw[p];rfl
 rw[r];refine nj a hF λm hF=>⟨40,Z,agI (l:={l with d:=1,w:=m}) H o a hF U h Z λw=>Xe (λg s=>Xd (l:={l with d:=1,w:=m}) H a hF U h s) ?_⟩;replace hF:True:=trivial;iterate 3 w_go fA
 exact Î λ_ _=>⟨_,U,fg,fg⟩
end
section
variable(P:Ğ)(e:Bool)(b:Nat)(J:Jd)
def rd1:Jd:=λl g=>l.d=1/\Fb P e (.read<|gP b) J l g
def Jv:Jd:=λl g=>l.d=1/\Ng P e (fG b) fS (λs=>if s=fS then fe P e (rd1 P e b J)else if fS<s/\s<1000000*fS/\s%fS=0 then fe P e J else λ_ _=>True) l g
end
def agJ(F:Ph)(j:Nat)(a:Nat->Nat):Nz F j a=Jv F.P Ì F.C (I0 F j a):=rfl
section
variable{Ψ:Ð->Prop}{P:Ğ}{L:ě}{e:Bool}{b:Nat}{l:e5}{f:Jd}{c:ø}{k:List Ţ}
def Xh(H:Ŕ P L)(h:lF Ψ l b)(hF:SW Ψ l b l.w)(E:l.d=0)(t:∀g,SW Ψ l b g->fe P e f {l with d:=0,w:=g} (G (c.at (y.put ((Q[i]?).bind (·.dst))<|ı #[])<|Æ Q jJ::k) qX)): fe P e (Jv P e b f) l (G ((base L.add).at ⟨#[ì<|Ã ⟨b,0,Í⟩,ë Ũ 1,Â,Â,Â,Â,Â,Â,Â,Â,Â,Â,Â,Â,Â,Â,Â,Â,Â,Â,Â,Â,Â,Â,Â,Â,Â,Â,Â,Â,Â,Â,Â,Â,Â,Â,Â,Â,Â,Â,Â,Â,Â,Â,Â,Â,Â,Â,Â,Â,Â,Â,Â,Â,Â,Â,Â,Â,Â,Â,Â,Â,Â,Â,Â,Â,Â,Â,Â,Â,Â,Â,Â,Â,Â,Â,Â,Â,Â,Â,Â,Â,Â,Â,Â,Â,Â,Â,Â,Â,Â,Â,Â,Â,Â,Â,Â,Â,Â,Â,Â,Â,Â,Â,Â,Â,Â,Â,Â,Â,Â,Â,Â,Â,Â,Â,Â],[]⟩ [ĵ<|body_add L])<|c.at y (Æ Q (i::jJ)::k)::qX):=by
 lib_facts;simp only[body_add,addFn,ć];apply jw h hF (n:=40);iterate 12 w_go fE
 refine Î λg a=> ?_;replace hF:=fE hF a;clear a;refine uQ (l:={l with w:=g}) h hF (À U) U (λ_=>Ę ô fg U U (by k_ne) U H.f_disable (ń L) (Ņ L) (ņ L)<|Ň L) λj hF=> ?_;walk_nrm;have F:Ï l.d #[jG ô]=1:=by rw[E];rfl
 rw[F];apply jw (l:={l with d:=1,w:=j}) h hF (n:=50);iterate 2 w_go fE
 u_defer fE hF
 iterate 8 w_go fE
 u_bub fE hF
 iterate 11 w_go fE
 u_call H.f_uAdd (nm_uAdd L) uAddFn fE hF
 iterate 10 w_go fE
 refine Î λg a=> ?_;replace hF:=fE hF a;clear a;refine nj (l:={l with d:=1,w:=g}) h hF λq hF=>⟨U,U,λv=>⟨_,λg I J=>(Ľ U U (by k_ne) U H.f_addU64 (Ž L) (ž L) (ſ L) Ó (Α L) U U I J).trans fR,?_⟩⟩;walk_nrm;have u:Ó.wrap (v+4294967296)=Ó.wrap (v+fS):=rfl;rw[u];clear u;obtain⟨s,x⟩:∃s,Ó.wrap (v+fS)=s:=⟨_,U⟩;simp only[x];clear x v;by_cases m:s=fS
 .rw[if_pos m];have o:s=4294967296:=m;clear m;subst o;apply jw (l:={l with d:=1,w:=q}) h hF (n:=150);iterate 3 w_go fE
  u_leave1 H.f_uAdd fE hF
  iterate 48 w_go fE
  u_conv H.underlying_tPU32 H.room_tU32 (mO.C hF.2.1).choose_spec fE hF
  refine Î λg a=> ?_;replace hF:=fE hF a;clear a;refine nj (l:={l with d:=1,w:=g}) h hF λq hF=>⟨U,U,_,λ_=>Ē .read fg U U (by k_ne) U H.f_raceRead (x_raceRead_n L) (x_raceRead_b L) (x_raceRead_x L) (x_raceRead_f L) (by simp[þ,gP]),?_⟩;walk_nrm;apply jw (l:={l with d:=1,w:=q}) h hF (n:=150);iterate 39 w_go fE
  refine Î λg a=> ?_;replace hF:=fE hF a;clear a;refine uQ (l:={l with d:=1,w:=g}) h hF (Á U) U (λw=>Jq î fg U H.f_enable (Ĥ L) (ĥ L) (Ħ L) (ħ L) w) λj hF=> ?_;have r:Ï 1 #[jG î]=0:=rfl;rw[r];apply jw (l:={l with d:=0,w:=j}) h hF (n:=10);u_leave0 H.f_add fE hF;refine Î λg a=> ?_;replace hF:=fE hF a;clear a;exact t _ hF
 .rw[if_neg m];by_cases o:fS<s/\s<1000000*fS/\s%fS=0
  .rw[if_pos o];let⟨z,B,C⟩:=o;have N:(4294967296:Int)<s:=z;have D:s<1000000*4294967296:=B;have K:s%4294967296=0:=C;clear m z B C;have O:=CM s Z D Z;have M:=CN s Z D Z;rw[K]at M;obtain⟨p,S⟩:∃p,(s/4294967296+2147483648)%4294967296-2147483648=p:=⟨_,U⟩;have T:¬p<0:=Z
   have V:0<p:=Z
   have W:(p==1)=É:=by simp;omega
   apply jw (l:={l with d:=1,w:=q}) h hF (n:=150);iterate 3 w_go fE
   u_leave1 H.f_uAdd fE hF
   iterate 83 w_go fE
   refine Î λg a=> ?_;replace hF:=fE hF a;clear a;refine uQ (l:={l with d:=1,w:=g}) h hF (Á U) U (λw=>Jq î fg U H.f_enable (Ĥ L) (ĥ L) (Ħ L) (ħ L) w) λj hF=> ?_;have r:Ï 1 #[jG î]=0:=rfl;rw[r];apply jw (l:={l with d:=0,w:=j}) h hF (n:=10);u_leave0 H.f_add fE hF;refine Î λg a=> ?_;replace hF:=fE hF a;clear a;exact t _ hF
  .rw[if_neg o];trivial
end
def zW:θ->Nat->θ
 |.seq a _,0=>a
 |.seq _ b,_=>b
 |Τ _ a _,0=>a
 |Τ _ _ b,_=>b
 |ε _ a,_=>a
 |.loop a,_=>a
 |c,_=>c
def lY(f:Func)(l:List Nat):θ:=l.foldl zW<|f.body.getD ο
def oM(f:Ĵ)(a b:Array ã):Ů:={target:=.fn (.func f) a,args:=b}
def nk(P:Ğ):ø:={(default:ø)with fn:=P.funcs.size,defers:=[],mode:=.panicking [Ō]}
section
variable{b:ø}{a:ō}
def Xi{h:Array ĳ}(c:Q[i]?=Ã o)(j:á o (Ĩ Q a.tmps)=Ì)(k:b.kind≠Đ) (e:o.op=.defer {callee:=.value qQ,args:=#[],argTypes:=h}) (g:a.eval qQ=.func (.func F) #[] d): è P yQ (G (b.at a<|Æ Q (i::jJ)::L) qX) w=ş (G (b.at (Ő ⟨a.tmps,oM F d #[]::a.defers⟩ o.dst Â)<|Æ Q jJ::L) qX) w #[]:=by
 have l:(Þ a.eval o).run P w=.ok (.defer<|oM F d #[]) w:=by unfold Þ;simp[e,ĸ,Ĉ,g,oM]
 have m:(Þ a.eval o).events P w #[]=#[]:=by unfold Þ;simp[e,ĸ,Ĉ,g]
 have n:(b.at ⟨a.tmps,oM F d #[]::a.defers⟩<|Æ Q (i::jJ)::L).finish Â=b.at (Ő ⟨a.tmps,oM F d #[]::a.defers⟩ o.dst Â) (Æ Q jJ::L):=by rw[ĩ,c];rfl
 have p:(b.kind==Đ)=É:=by simpa using k
 rw[Ζ c j,<-n];simp[stepG.apply,l,m,G,Frame.at,p,Ě,Ć]
def Xj{l:Array ĳ}(m:Q[i]?=Ã o)(n:á o (Ĩ Q a.tmps)=Ì)(p:b.kind≠Đ) (h:o.op=Ŭ {callee:=.value qQ,args:=#[],argTypes:=l}) (j:a.eval qQ=.func (.func F) #[] d) (e:P.funcs[F]?=Ã s) (q:(s.name== "runtime.NumGoroutine")=É) (g:s.body=Ã wX): è P yQ (G (b.at a<|Æ Q (i::jJ)::L) qX) w=ş (G ((base F).at {tmps:=d++ê (s.ntmps-d.size) Â,defers:=[]} [ĵ wX])<|b.at a (Æ Q (i::jJ)::L)::qX) w #[]:=by
 have k:¬s.name= "runtime.NumGoroutine":=by simpa using q
 have r:(Þ a.eval o).run P w=.ok (.enter F d) w:=by unfold Þ;simp[h,ĸ,Ĉ,j,ś,Ŝ,e,k,g]
 have t:(Þ a.eval o).events P w #[]=#[]:=by unfold Þ;simp[h,ĸ,Ĉ,j,ś,Ŝ,e,k,g]
 rw[ŵ m n p r,<-enter_at d e g];unfold listed;rw[t,Ć]
def agK{g:Array ĳ}(d:Q[i]?=Ã o)(h:á o (Ĩ Q a.tmps)=Ì)(j:b.kind=ľ)(k:b.roundOf=Í)(l:f.mode=ù) (e:o.op=Ŭ {callee:=.builtin .recover,args:=#[],argTypes:=g}) (q:o.type=t): è P yQ (G (b.at a<|Æ Q (i::jJ)::L)<|f::qX) w=ş (G (b.at (a.put o.dst ā)<|Æ Q jJ::L)<|f::qX) w #[]:=by
 have m:(Þ a.eval o).run P w=.ok .recover w:=by unfold Þ;simp[e,ĸ,ś,builtin]
 have n:(Þ a.eval o).events P w #[]=#[]:=by unfold Þ;simp[e,ĸ,ś,builtin]
 have p:(b.at a<|Æ Q (i::jJ)::L).finish ā=b.at (a.put o.dst ā) (Æ Q jJ::L):=by rw[ĩ,d];rfl
 rw[Ζ d h,<-p];simp[stepG.apply,m,n,G,Frame.at,j,Ě,Ć,k,tryRecover,l]
def agL{e:List Ů}(i:a.defers=oM F d #[]::e)(g:P.funcs[F]?=Ã s)(j:(s.name== "runtime.NumGoroutine")=É)(h:s.body=Ã wX): è P yQ (G {b.at a L with mode:=ù} qX) w= ş (G ((baseD F).at {tmps:=d++ê (s.ntmps-d.size) Â,defers:=[]} [ĵ wX])<|{b.at ⟨a.tmps,e⟩ L with mode:=ù}::qX) w #[]:=by
 have k:¬s.name= "runtime.NumGoroutine":=by simpa using j
 rw[<-enter_atD d g h];simp[G,è,Η,Ū,Frame.at,i,oM,ś,Ŝ,g,k,h,Ě,Ć]
def Xk(a:P.funcs[F]?=Ã s)(e:(s.name== "runtime.NumGoroutine")=É)(b:s.body=Ã wX): è P yQ (born P<|oM F d #[]) w=ş (G ((baseD F).at {tmps:=d++ê (s.ntmps-d.size) Â,defers:=[]} [ĵ wX]) [nk P]) w #[]:=by
 have g:¬s.name= "runtime.NumGoroutine":=by simpa using e
 rw[<-enter_atD d a b];simp[G,è,Η,Ū,born,nk,oM,ś,Ŝ,a,g,b,Ě,Ć]
def agM(d:b.kind=ľ)(e:a.defers=[])(f:P.funcs[b.fn]?=Ã s)(c:s.results=#[]): è P yQ (G {b.at a L with mode:=ù} [nk P]) w=ş (G (nk P) []) w:=by have g:=results_none c a.tmps P w;have h:=events_results_none (P:=P) (w:=w) c a.tmps #[];simp[G,è,Η,doReturn,Frame.at,d,e,f,g,h,nk,Ō,seen,Ě]
def agN(w:Ð):è P É (G (nk P) []) w=ş {frame:=nk P,callers:=[],status:=å,dying:=Í} w:=by simp[G,è,Η,nk,Ō,Frame.catches];rfl
def agO:rf P 0 (G (nk P) []):=⟨1,.ctl U agN ⟨U,U⟩⟩
def agP(c:b.kind=ľ)(d:a.defers=[])(e:P.funcs[b.fn]?=Ã s)(f:s.results=#[]):rf P 0 (G {b.at a L with mode:=ù} [nk P]):= Ju U (λ_=>agM c d e f) agO
def agQ(e:b.kind=ľ)(g:a.defers=[])(h:P.funcs[b.fn]?=Ã s)(j:s.results=#[])(k:f.mode=ù)(l:rf P i (G f qX)):rf P i (G {b.at a L with mode:=ù}<|f::qX):= let⟨n,q⟩:=l;⟨n+1,.leaveD e g h j k q⟩
end
def agR(d:Nat)(t:ĳ)(w:Ð)(a:Array đ)(h:P.underlying t=Ã (.interface<|P.methodsAt t)):(Θ (d+1) t ā ā).events P w a=a:=by simp[Θ,run_underlying h,go_sem]
def agS(t:ĳ)(w:Ð)(a:Array đ)(h:P.underlying t=Ã (.interface<|P.methodsAt t)):(Op.equal t ā ā).events P w a=a:=agR 9999 t w a h
def agT(t:ĳ)(w:Ð)(a:Array đ)(h:P.underlying t=Ã (.interface<|P.methodsAt t)):(binOp .neq t ā ā).events P w a=a:=by simp only[binOp];simp[agS t w a h]
section
variable{J:Jd}{l:e5}{b:ø}{a:ō}
def jW(l:e5):Prop:=∀j,l.O j->j<l.w.heap.size
def gi(a:jW l)(b:İ P yQ RT à (λc _=>fe P yQ J l c) n g l.w):fe P yQ J l g:= Ot b (λ_ _ _=>trivial) a λ_ _ r h=>h.jM r
def uR(k:Q[i]?=Ã o)(m:á o (Ĩ Q a.tmps)=Ì)(n:b.kind≠Đ) (h:∀c,fD l l.w c->uponK o a (λq e=>∃d,lT l d c e (listed P b.fn a o c)/\fe P yQ J d (G (b.at q<|Æ Q jJ::L) qX)) ((Þ a.eval o).run P c)): fe P yQ J l (G (b.at a<|Æ Q (i::jJ)::L) qX):=by
 refine .mk U λc r=> ?_;have f:=h c r;revert f;generalize p:(Þ a.eval o).run P c=res;intro f;match res,f with
 |.ok (.value v) e,⟨d,g,j⟩=>exact⟨_,e,_,d,Ń k m n p,g,j⟩
 |.ok .skip e,⟨d,g,j⟩=>exact⟨_,e,_,d,Ŗ k m n p,g,j⟩
def wx(l:e5)(e:đ):Prop:=xN l e/\e.loc≠ŭ ô/\e.loc≠ŭ î
def Jw(h:∀e∈V,wx l e)(d:Nat):Ï d V=d:=ĺ (λe a=>⟨(h e a).2.1,(h e a).2.2⟩) d
def agU(b:∀j,l.O j->j<w.heap.size)(c:¬l.q)(a:∀e∈V,wx l e):lT l {l with w:=w} w w V:= ⟨Ç _,λ_ h=>À h,b,U,U,U,U,λ_ _ _ _=>rfl,λ_ _ _ _=>rfl,λ_ _ _=>rfl,U,U,U,λe h=>(a e h).1,(Jw a _).symm,U,λq=>absurd q c,U⟩
def tB(d:Q[i]?=Ã o)(f:á o (Ĩ Q a.tmps)=Ì)(g:b.kind≠Đ)(j:jW l)(k:¬l.q) (m:∀c,fD l l.w c->(Þ a.eval o).run P c=.ok (.value v) c) (n:∀c,fD l l.w c->∀e∈(Þ a.eval o).events P c #[],wx l e) (p:fe P yQ J l (G (b.at (a.put o.dst v)<|Æ Q jJ::L) qX)):fe P yQ J l (G (b.at a<|Æ Q (i::jJ)::L) qX):=by refine uR d f g λc r=> ?_;rw[m c r];exact⟨_,agU (lX j r) k λe h=>n c r e<|Ι h,p.jM r⟩
def gR(l:e5)(x:Č):Prop:=l.M x.block\/l.C x
def gR.r{x:Č}(h:gR l x){w₁:Ð}(r:fD l l.w w₁):w₁.cell? x=l.w.cell? x:=h.elim (λq=>gE<|r.I _ q)<|r.N x
def gR.C{x:Č}(h:gR l x):wx l ⟨ú x,É,É⟩:=by
 refine⟨À ⟨x,U,?_⟩,fg,fg⟩;rcases h with(q|q)|(q|q)
 .exact À q
 .exact Á<|Á ⟨À q,U,U⟩
 .exact Á<|À q
 .exact Á<|Á ⟨Á q,U,U⟩
def nK{x:Č}(f:Q[i]?=Ã o)(g:á o (Ĩ Q a.tmps)=Ì)(j:b.kind≠Đ)(k:jW l)(m:¬l.q)(c:gR l x)(d:l.w.cell? x=Ã v) (n:∀w,w.cell? x=Ã v->(Þ a.eval o).run P w=.ok (.value v) w) (p:∀w,w.cell? x=Ã v->(Þ a.eval o).events P w #[]=#[⟨ú x,É,É⟩]) (s:fe P yQ J l (G (b.at (a.put o.dst v)<|Æ Q jJ::L) qX)):fe P yQ J l (G (b.at a<|Æ Q (i::jJ)::L) qX):= tB f g j k m (λw r=>n w<|(c.r r).trans d) (λw r e h=>by
  rw[p w<|(c.r r).trans d]at h;have:e=⟨ú x,É,É⟩:=by simpa using h
  subst this;exact c.C) s
def pw(l:e5)(x:Č):Prop:=l.O x.block\/l.r x
def pw.C(h:pw l p):gR l p:=h.elim (λq=>À<|À q) λq=>Á<|À q
def pw.r{x:Č}(h:pw l x):wx l ⟨ú x,Ì,É⟩:=⟨À ⟨x,U,h.elim À λq=>Á<|À q⟩,fg,fg⟩
end
end Go.Proofs.Y.fv
namespace Go.Proofs.Y.fv
open Go Go.Conc Go.Proofs.Y.Lift
section
variable{J:Jd}{l:e5}{b:ø}{cs:List ø}{ops:Array Ĭ}
def PH(a:∀j,l.O j->j<w.heap.size)(b:¬l.q):lT l {l with w:={w with drawn:=w.drawn+1}} w {w with drawn:=w.drawn+1} #[]:= ⟨Ç _,λ_ h=>À h,a,U,U,U,U,λ_ _ _ _=>rfl,λ_ _ _ _=>rfl,λ_ _ _=>rfl,U,U,U,λe c=>by simp at c,by simp[Ï],U,λq=>absurd q b,U⟩
def jf(listed:Array Bool):Nat:=listed.countP λx=> !x
theorem Jx{listed:Array Bool}(h:listed.getD i Ì=É):jf (listed.setIfInBounds i Ì)+1=jf listed:=by
 have a:i<listed.size:=by grind
 have b:listed[i]=É:=by simpa[a]using h
 unfold jf;grind [Array.countP_pos_iff,Array.getElem_mem]
def PK{md:Ý}{listed:Array Bool}(c:listed.size=ops.size)(h:jf listed=0):Ò md ops listed=[]:=by rw[List.eq_nil_iff_forall_not_mem];intro j a;let⟨b,o,d,_⟩:=ĉ.1 a;have:=Jx b;omega
def Xl{md:Ý}(I:Array Bool->ō->e5->Prop) (p:∀c a l i k,I c a l->i∈Ò md ops c->fe P yQ (λh m=>∃f,m=G (b.at f<|Æ ops k::L) cs/\I (c.setIfInBounds i Ì) f h) l (G (b.at a<|Æ ops (i::k)::L) cs)) (n:∀c a l,I c a l->c.size=ops.size->Ò md ops c=[]->fe P yQ J l (G (b.at a<|Æ ops []::L) cs)): ∀(d t:Nat) (c:Array Bool) (a:ō) (l:e5),c.size=ops.size->jf c<=d->I c a l->fe P yQ J l (G (b.at a<|Æ ops (û md ops d t c [])::L) cs):=by
 intro d
 induction d with
 |zero=>
  intro t c a l e q g;simpa[û]using n c a l g e<|PK e Z
 |succ d r=>
  intro t c a l e q g;simp only[û];change fe P yQ J l (G (b.at a (Æ ops (match(Ò md ops c)[t%(Ò md ops c).length]? with
   |some i=>û md ops d (t/(Ò md ops c).length) (c.setIfInBounds i Ì) [i]
   |none=>[].reverse)::L)) cs)
  cases j:(Ò md ops c)[t%(Ò md ops c).length]? with
  |none=>
   have s:Ò md ops c=[]:=by
    cases u:Ò md ops c with
    |nil=>rfl
    |cons x o=>
     rw[u]at j;have v:t%(x::o).length<(x::o).length:=ż _ fg;simp at j;simp at v;omega
   simpa using n c a l g e s
  |some i=>
   simp only[];rw[linearise_go_acc,List.reverse_singleton,List.singleton_append];have o:=List.mem_of_getElem? j;refine(p c a l i _ g o).lR ?_;rintro h m ⟨f,rfl,s⟩;exact r _ _ f h (by simpa using e) (by have:=Jx (ĉ.1 o).1;omega) s
theorem CQ(n:Nat):jf (ê n É)=n:=by unfold jf;grind [Array.countP_replicate]
def PL{id:Nat}(I:Array Bool->ō->e5->Prop)(m:jW l)(n:¬l.q) (f:∀d,fD l l.w d->I (ê ops.size É) y {l with w:={d with drawn:=d.drawn+1}}) (g:∀e c y l i h,I c y l->i∈Ò e ops c->fe P yQ (λo p=>∃j,p=G (b.at j<|Æ ops h::L) cs/\I (c.setIfInBounds i Ì) j o) l (G (b.at y<|Æ ops (i::h)::L) cs)) (k:∀e c y l,I c y l->c.size=ops.size->Ò e ops c=[]->fe P yQ J l (G (b.at y<|Æ ops []::L) cs)): fe P yQ J l (G (b.at y<|ĵ (Ģ id ops Ì)::L) cs):=by
 refine .mk U λd r=>⟨_,_,_,_,stepG_region_draw,PH (lX m r) n,?_⟩;unfold Region.schedule;split
 .exact Xl I (g _) (k _) _ _ _ _ _ fg (by rw[CQ];exact Ç _)<|f d r
 .exact Xl I (g _) (k _) _ _ _ _ _ fg (by rw[CQ];exact Ç _)<|f d r
end
def yo(e:Edge):Bool:=match e.ground with|.textOnly _=>É|.gcOnly _=>É|_=>Ì
theorem Xm{md:Ý}{e:Edge}(h:yo e=Ì):ū md e=Ì:=by unfold yo at h;unfold ū;grind
structure mA(ops:Array Ĭ)(t0:Array ã)(val:Nat->ã)(listed:Array Bool)(a:ō):Prop where
 M:a.defers=[]
 S:a.tmps.size=t0.size
 b:∀d,(∀j o,ops[j]?=Ã o->listed.getD j É=Ì->o.dst≠Ã d)->a.tmps[d]?=t0[d]?
 r:∀j o d,ops[j]?=Ã o->listed.getD j É=Ì->o.dst=Ã d->a.tmps[d]?=Ã (val j)
 Y:∀j o e,ops[j]?=Ã o->listed.getD j É=Ì->e∈o.after->yo e=Ì->listed.getD e.on É=Ì
def tC(a:Array Ĭ)(n:Nat):Bool:=(Κ a.size).all λi=>match(a.getD i default).dst with
 |none=>Ì
 |some d=>decide (d<n)&&(Κ a.size).all λj=>i==j||(a.getD j default).dst !=Ã d
section
variable{ops:Array Ĭ}{t0:Array ã}{val:Nat->ã}{listed:Array Bool}{a:ō}
def agV(h:tC ops t0.size=Ì)(a:ops[i]?=Ã o)(b:o.dst=Ã n):n<t0.size:=by have:=(ġ.1 h) i<|Ş.2<|(Õ.1 a).1;simp_all
theorem agW(h:tC ops t0.size=Ì){a:Ĭ}(b:ops[i]?=Ã o)(e:ops[j]?=Ã a)(f:j≠i)(c:o.dst=Ã n):a.dst≠Ã n:=by have:=(ġ.1 h) i<|Ş.2<|(Õ.1 b).1;simp[b,c]at this;grind
def mA.C(h:mA ops t0 val listed a){d:Nat}(b:ops.toList.all (λo=>o.dst !=Ã d)=Ì):a.tmps[d]?=t0[d]?:= h.b d λj o c _ e=>by have:=ġ.1 b o<|Ī.2<|Array.mem_of_getElem? c;simp[e]at this
def PN(h:(listed.setIfInBounds i Ì).getD j É=Ì):j=i\/listed.getD j É=Ì:=by by_cases e:i=j;all_goals simp_all
theorem mA.fW(h:mA ops t0 val listed a)(u:tC ops t0.size=Ì){md:Ý}(l:ops[i]?=Ã o)(p:i∈Ò md ops listed)(w:o.dst≠Í->v=val i):mA ops t0 val (listed.setIfInBounds i Ì) (a.put o.dst v):=by
 have y:=(ĉ.1 p).1;have r:∀j c e,ops[j]?=Ã c->(listed.setIfInBounds i Ì).getD j É=Ì->e∈c.after->yo e=Ì->(listed.setIfInBounds i Ì).getD e.on É=Ì:=λj c e b f s t=>by
  rcases PN f with rfl|q
  .let⟨_,n,d,g⟩:=ĉ.1 p;rw[b]at d;obtain rfl:=È d;exact ĝ<|g e s<|Xm t
  .exact ĝ<|h.Y j c e b q s t
 have x:(listed.setIfInBounds i Ì).getD i É=Ì:=by
  have n:i<listed.size:=by grind
  simp[n]
 cases k:o.dst with
 |none=>
  refine⟨h.M,h.S,λd m=>h.b d λj c b f=>m j c b<|ĝ f,λj c d b f g=> ?_,r⟩;rcases PN f with rfl|q
  .rw[l]at b;obtain rfl:=È b;rw[k]at g;cases g
  .exact h.r j c d b q g
 |some e=>
  refine⟨h.M,by simp[Ő,h.S],λd m=> ?_,λj c d b f g=> ?_,r⟩
  .simp only[Ő];rw[í (λq=>m i o l x<|by rw[k,q])];exact h.b d λj c b f=>m j c b<|ĝ f
  .simp only[Ő];rcases PN f with rfl|q
   .rw[l]at b;obtain rfl:=È b;rw[k]at g;obtain rfl:=È g;have n:e<a.tmps.size:=by rw[h.S];exact agV u l k
    simp[n,(w<|by rw[k];simp)]
   .have n:e≠d:=by
     grind [agW]
    rw[í n];exact h.r j c d b q g
def mA.Xn(h:mA ops t0 val listed a){b:Nat->ã}(e:∀j,listed.getD j É=Ì->b j=val j):mA ops t0 b listed a:= ⟨h.M,h.S,h.b,λj o d f c g=>(by rw[e j c];exact h.r j o d f c g),h.Y⟩
theorem gX{md:Ý}(h:i∈Ò md ops listed)(b:ops[i]?=Ã o)(c:o.after.toList.any (λe=>e.on==j&&yo e)=Ì):listed.getD j É=Ì:=by let⟨_,f,a,g⟩:=ĉ.1 h;rw[b]at a;obtain rfl:=È a;let⟨e,k,d⟩:=Ŀ.1 c;simp only[ŀ,beq_iff_eq]at d;grind [Xm]
def mA.I(h:mA ops t0 val listed a)(c:ops[i]?=Ã o)(d:listed.getD i É=Ì)(f:o.after.toList.any (λe=>e.on==j&&yo e)=Ì):listed.getD j É=Ì:=by let⟨e,g,b⟩:=Ŀ.1 f;simp only[ŀ,beq_iff_eq]at b;rw[<-b.1];exact h.Y i o e c d (Ī.1 g) b.2
theorem wy(h:listed.getD i Ì=É):¬listed.getD i É=Ì:=by grind
def Xo(md:Ý)(ops:Array Ĭ):List Nat->List Nat->Bool
 |[],_=>Ì
 |i::r,seen=>(match ops[i]? with|some o=>o.after.toList.all (λe=> !Region.binds md e||seen.contains e.on)|none=>É)&&Xo md ops r (i::seen)
theorem py{md:Ý}(h:Ò md ops listed=[])(l:listed.size=ops.size):∀(b a:List Nat),Xo md ops b a=Ì->(∀i∈a,listed.getD i É=Ì)->∀i∈b,listed.getD i É=Ì:=by
 intro b
 induction b with
 |nil=>intro a _ _ i c;cases c
 |cons j r m=>
  intro a n p i c;let⟨d,s⟩:=Bool.and_eq_true_iff.1 (show(_&&_)=Ì from n);have f:listed.getD j É=Ì:=by
   split at d
   .rename_i o g;have v:j<listed.size:=by rw[l];exact(Õ.1 g).1
    by_cases t:listed.getD j Ì=É
    .have:j∈Ò md ops listed:=ĉ.2 ⟨t,o,g,λe w x=>by
      grind⟩
     grind
    .grind
   .cases d
  rcases š.1 c with rfl|q
  .exact f
  .exact m (j::a) s (λk u=>(š.1 u).elim (λe=>e▸f)<|p k) i q
def mA.G(t:Array ã)(val:Nat->ã)(n:Nat):mA ops t val (ê n É) ⟨t,[]⟩:=by
 have a:∀j,¬(ê n É).getD j É=Ì:=λj q=>by rcases ģ j n with z|z;all_goals simp_all
 exact⟨U,U,λ_ _=>rfl,λj _ _ _ z=>absurd z<|a j,λj _ _ _ z=>absurd z<|a j⟩
theorem CR{md:Ý}(h:i∈Ò md ops listed):i<ops.size:=by let⟨_,o,a,_⟩:=ĉ.1 h;grind
def PO{md:Ý}(h:i∈Ò md ops listed):listed.getD i Ì=É:=(ĉ.1 h).1
end
theorem agX(h:a.spot.isSome=Ì):w.cell? a=Í:=by unfold World.cell?;grind
theorem Ay{x y:Č}(b:x.spot=Í)(h:y≠x):(w.setCell x v).cell? y=w.cell? y:=by
 by_cases c:y.spot.isSome=Ì
 .grind [agX]
 .apply xR;let⟨d,e,f⟩:=x;let⟨g,i,a⟩:=y;simp only at b c|-;have:a=Í:=by cases a<;>simp_all
  grind
section
variable{J:Jd}{l:e5}{b:ø}{a:ō}{cs:List ø}{ops:Array Ĭ}
theorem Xp(b:p.spot=Í)(d:(w.cell? p).isSome=Ì)(f:(u.cell? p).isSome=Ì)(r:fD l w u):fD l (w.setCell p v) (u.setCell p v):=by
 refine⟨by rw[jK,jK];exact r.r,λj c=> ?_,λy a=> ?_,λy a=> ?_,λy a h=> ?_⟩
 .by_cases e:j=p.block
  .subst e;unfold World.setCell;simp only[Array.getElem?_modify];rw[r.I _ c]
  .rw[kP e,kP e];exact r.I j c
 .by_cases e:y=p
  .grind [ü,zU]
  .rw[Ay b e,Ay b e];exact r.N y a
 .rw[se,se];exact r.Y y a
 .by_cases e:y=p
  .grind [xS]
  .rw[Ay b e]at h|-;exact r.S y a h
def Xq(f:p.spot=Í)(g:∀j,l.O j->j<w.heap.size)(i:¬l.q)(c:pw l p)(d:∀e∈V,wx l e):lT l {l with w:=w.setCell p v} w (w.setCell p v) V:=by
 refine⟨by rw[jK];exact Ç _,λ_ h=>À h,λj k=>by rw[jK];exact g j k,U,U,U,U,λj _ a b=>kP λe=>c.elim (λq=>a<|e▸q) λq=>b p e.symm q,λy _ a b=>Ay f λe=> ?_,λ_ _ _=>Ns,U,U,U,λe h=>(d e h).1,(Jw d _).symm,U,λq=>absurd q i,U⟩
 .subst e;exact c.elim a b
def agY(m:ops[i]?=Ã o)(n:á o (Ĩ ops a.tmps)=Ì)(s:b.kind≠Đ)(t:jW l)(u:¬l.q)(g:p.spot=Í)(c:pw l p)(j:(l.w.cell? p).isSome=Ì)(y:o.dst=Í)(z:l.w.frozen? p=É) (B:∀w,(w.cell? p).isSome=Ì->w.frozen? p=É->(Þ a.eval o).run P w=.ok .skip (w.setCell p v)) (C:∀w,(w.cell? p).isSome=Ì->w.frozen? p=É->(Þ a.eval o).events P w #[]=#[⟨ú p,Ì,É⟩]) (D:fe P yQ J {l with w:=l.w.setCell p v} (G (b.at a<|Æ ops jJ::L) cs)):fe P yQ J l (G (b.at a<|Æ ops (i::jJ)::L) cs):=by
 refine uR m n s λd r=> ?_;have f:(d.cell? p).isSome=Ì:=by rwa[c.C.r r]
 have k:d.frozen? p=É:=by rw[<-z];exact c.C.elim (λq=>vK<|r.I _ q)<|r.Y p
 rw[B d f k];refine⟨_,Xq g (lX t r) u c λe h=> ?_,?_⟩
 .have:=Ι h;rw[C d f k]at this;have:e=⟨ú p,Ì,É⟩:=by simpa using this
  subst this;exact c.r
 .have:(a.put o.dst Â)=a:=by rw[y];rfl
  rw[this];exact D.jM<|yj<|Xp g j f r
end
def lG(l:e5):e5:={l with O:=λ_=>False,I:=l.M,r:=λ_=>False,N:=l.C}
def qa(l x:e5):e5:={x with O:=λb=>x.O b\/l.O b,I:=l.I,r:=l.r,N:=l.N}
structure kB(l l':e5):Prop where
 O:∀j,l.O j->l'.O j
 a:∀j,l'.O j->l.O j\/l.w.heap.size<=j
 I:l'.I=l.I
 N:l'.r=l.r
 Y:l'.N=l.N
 K:l'.K=l.K
 q:l'.q=l.q
 r:fD l l.w l'.w
 fl:jW l'
theorem kB.fO{l:e5}(h:jW l):kB l l:=⟨λ_ h=>h,λ_ h=>À h,U,U,U,U,U,fD.fO _ _,h⟩
def kB.C{l a:e5}(h:kB l a):a.C=l.C:=by unfold e5.C;rw[h.N,h.Y]
def kB.M{l a:e5}(h:kB l a)(c:l.M b):a.M b:=c.imp (h.O b)<|by rw[h.I];exact id
def kB.G{l d:e5}(h:kB l d)(r:fD d w u):fD l w u:=⟨r.r,λj e=>r.I j<|h.M e,λx b=>r.N x (by rwa[h.C]),λx b=>r.Y x (by rwa[h.C]),λx b=>r.S x<|by rwa[h.K]⟩
def kB.S{l a:e5}(h:kB l a)(r:fD a a.w u):kB l {a with w:=u}:= ⟨h.O,h.a,h.I,h.N,h.Y,h.K,h.q,h.r.e8<|h.G r,lX h.fl r⟩
def gl.jM{l:e5}(s:gl l){w₁:Ð}(h:l.w.heap.size<=w₁.heap.size):gl {l with w:=w₁}:= ⟨s.c,s.Y,s.N,λb d=>Ê (s.fl b d) h,λa c=>Ê (s.I a c) h,λa c=>let⟨e,f,g⟩:=s.S a c;⟨e,Ê f h,g⟩⟩
def gl.r{l:e5}(s:gl l):jW l:=λj a=>s.fl j<|À a
section
variable{J:Jd}
theorem agZ{l x:e5}(d:x.I=l.M)(g:x.r=λ_=>False)(f:x.N=l.C){e:đ}(h:xN x e):xN (qa l x) e:=by
 rcases h with⟨a,b,c⟩|h|h|h|h|⟨a,b,c⟩
 .refine À ⟨a,b,?_⟩;rcases c with q|q|⟨q|q,z⟩
  .exact À<|À q
  .grind
  .rw[d]at q;rcases q with q|q
   .exact À<|Á q
   .exact Á<|Á ⟨À q,z⟩
  .rw[f]at q;rcases q with q|q
   .exact Á<|À q
   .exact Á<|Á ⟨Á q,z⟩
 .exact Á<|À h
 .exact Á<|Á<|À h
 .exact Á<|Á<|Á<|À h
 .exact Á<|Á<|Á<|Á<|À h
 .exact Á<|Á<|Á<|Á<|Á ⟨a,À b,c⟩
def Xr{l x:e5}(a:x.I=l.M):(qa l x).M=x.M:=by
 funext b;refine propext ⟨λh=> ?_,λh=> ?_⟩
 .rcases h with(q|q)|q
  .exact À q
  .exact Á<|by rw[a];exact À q
  .exact Á<|by rw[a];exact Á q
 .rcases h with q|q
  .exact À<|À q
  .rw[a]at q;exact q.elim (λz=>À<|Á z) Á
theorem Jy{l x:e5}(c:x.r=λ_=>False)(b:x.N=l.C):(qa l x).C=x.C:=by
 funext a;refine propext ⟨λh=>Á (by rwa[b]),λh=> ?_⟩;rcases h with q|q
 .grind
 .rwa[b]at q
def fe.ag0{l:e5}(s:gl l){x:e5}(h:fe P yQ J x g):x.I=l.M->x.r=(λ_=>False)->x.N=l.C->x.K=l.K->x.q=l.q->fD l l.w x.w->(∀j,x.O j->l.w.heap.size<=j)->jW x-> fe P yQ (λb c=>∃a,J a c/\b=qa l a/\kB l b/\a.I=l.M/\a.N=l.C/\a.r=λ_=>False) (qa l x) g:=by
 induction h with
 |@fu x g h=>
  intro m f d o B p v E;refine .fu λc r=>⟨{x with w:=c},(h c ⟨r.r,λj b=>r.I j (by rwa[Xr m]),λy a=>r.N y (by rwa[Jy f d]),λy a=>r.Y y (by rwa[Jy f d]),r.S⟩),U,?_,m,d,f⟩
  .refine⟨λj b=>Á b,λj b=>b.elim (λq=>Á<|v j q) À,U,U,U,o,B,p.e8 ⟨r.r,λj b=>r.I j (b.elim (λq=>À<|Á q) Á),λy a=>r.N y a,λy a=>r.Y y a,λy a=>r.S y ?_⟩,λj b=> ?_⟩
   .show x.K y;rwa[o]
   .refine Ê ?_ r.r;rcases b with q|q
    .exact E j q
    .exact Ê (s.fl j<|À q) p.r
 |@jA x g G' W' E' L' iB h hd _ ih=>
  intro m f d o B p v E;refine .mk iB λc r=> ?_;have i:fD x x.w c:=⟨r.r,λj b=>r.I j (by rwa[Xr m]),λy a=>r.N y (by rwa[Jy f d]),λy a=>r.Y y (by rwa[Jy f d]),r.S⟩;have D:=hd c i;have n:=Ø p.r i.r;have z:∀j,j<l.w.heap.size->¬x.O j:=λj b q=>by have:=v j q;omega
  have t:∀y:Č,¬x.r y:=λy q=>by rwa[f]at q
  have F:fD l c (W' c):=⟨D.C,λj b=>D.jF j (Ê (s.fl j b) n) (z j<|s.fl j b) λy _=>t y,λy a=>D.N y (Ê (s.I y a) n) (z _<|s.I y a)<|t y,λy a=>IH<|D.Y y (Ê (s.I y a) n)<|z _<|s.I y a,λy a q=>by rwa[D.N y (Ê (s.S y a).2.1 n) (z _ (s.S y a).2.1)<|t y]⟩;refine⟨G' c,W' c,E' c,qa l<|L' c,h c i,?_,(ih c i (D.I.trans m) (D.r.trans f) (D.M.trans d) (D.k.trans o) (D.q.trans B) (by rw[D.b];exact(p.e8 ⟨i.r,λj b=>i.I j (Á<|by rwa[m]),λy a=>i.N y (Á<|by rwa[d]),λy a=>i.Y y (Á<|by rwa[d]),λy a=>i.S y<|by rwa[o]⟩).e8 F) (λj b=>(D.S j b).elim (v j) λq=>Ø n q) λj b=>by rw[D.b];exact D.fl j b)⟩
  .refine⟨D.C,λj b=> ?_,λj b=> ?_,U,U,U,D.k,λj b u G=>D.jF j b (λq=>u<|À q) λy _=>t y,λy a u G=>D.N y a (λq=>u<|À q)<|t y,λy a u=>D.Y y a λq=>u<|À q,D.f,D.g,D.m,λe H=>agZ (D.I.trans m) (D.r.trans f) (D.M.trans d)<|D.c e H,D.h,D.q,λI=> ?_,D.b⟩
   .rcases b with q|q
    .exact(D.S j q).imp À id
    .exact À<|Á q
   .rcases b with q|q
    .exact D.fl j q
    .exact Ê (s.fl j<|À q)<|Ø n D.C
   .let⟨L,N,Q⟩:=D.i I;exact⟨L,N,by funext j;show((L' c).O j\/l.O j)=(x.O j\/l.O j);rw[Q]⟩
theorem fe.lG{l:e5}(s:gl l)(h:fe P yQ J (fv.lG l) g):fe P yQ (λe j=>∃b,J b j/\e=qa l b/\kB l e/\b.I=l.M/\b.N=l.C/\b.r=λ_=>False) l g:=by
 have:=h.ag0 s U U U U U (fD.fO _ _) (λj q=>q.elim) λj q=>q.elim;have e:qa l (fv.lG l)=l:=by
  have:(λb=>False\/l.O b)=l.O:=by funext b;simp
  unfold qa fv.lG;simp only[this]
 grind
end
structure iq(E:Č->Prop)(l l':e5):Prop where
 O:∀j,l.O j->l'.O j
 h:∀j,l'.O j->l.O j\/l.w.heap.size<=j
 Y:l'.I=l.I
 I:l'.r=l.r
 c:l'.N=l.N
 K:l'.K=l.K
 q:l'.q=l.q
 d:l'.d=l.d
 fl:jW l'
 f:l.w.heap.size<=l'.w.heap.size
 r:∀j,l.M j->l'.w.heap[j]?=l.w.heap[j]?
 e:∀a,l.C a->¬E a->l'.w.cell? a=l.w.cell? a
 S:∀a,l.C a->l'.w.frozen? a=l.w.frozen? a
 b:∀a,l.K a->(l.w.cell? a).isSome=Ì->(l'.w.cell? a).isSome=Ì
 g:∀a,E a->(l.w.cell? a).isSome=Ì->(l'.w.cell? a).isSome=Ì
section
variable{E:Č->Prop}{l l' l'':e5}
theorem iq.fO(h:jW l):iq E l l:=⟨λ_ h=>h,λ_ h=>À h,U,U,U,U,U,U,h,Ç _,λ_ _=>rfl,λ_ _ _=>rfl,λ_ _=>rfl,λ_ _ h=>h,λ_ _ h=>h⟩
def iq.C(h:iq E l l'):l'.C=l.C:=by unfold e5.C;rw[h.I,h.c]
def iq.M(h:iq E l l')(a:l.M b):l'.M b:=a.imp (h.O b)<|by rw[h.Y];exact id
def iq.PQ(h:iq E l l')(f:∀a,E a->l.r a)(k:kB l' l'')(g:l''.d=l'.d):iq E l l'':=by have e:=h.C;refine⟨λj c=>k.O j<|h.O j c,λj c=>(k.a j c).elim (h.h j) λq=>Á<|Ø h.f q,k.I.trans h.Y,k.N.trans h.I,k.Y.trans h.c,k.K.trans h.K,k.q.trans h.q,g.trans h.d,k.fl,Ø h.f k.r.r,λj c=>(k.r.I j<|h.M c).trans<|h.r j c,λa b i=>(k.r.N a<|by rwa[e]).trans<|h.e a b i,λa b=>(k.r.Y a<|by rwa[e]).trans<|h.S a b,λa b q=>k.r.S a (by rwa[h.K])<|h.b a b q,λa b q=> ?_⟩;rw[k.r.N a (by rw[e];exact À<|f a b)];exact h.g a b q
def iq.N(h:iq E l l')(b:∀a,E a->l.r a)(r:fD l' l'.w u):iq E l {l' with w:=u}:= h.PQ b (l'':={l' with w:=u}) ((kB.fO h.fl).S r) U
def iq.pS(h:iq E l l')(s:gl l)(i:∀a,E a->l.r a){x:Č}(f:E x)(k:x.spot=Í)(m:(l'.w.cell? x).isSome=Ì):iq E l {l' with w:=l'.w.setCell x v}:=by
 refine⟨h.O,h.h,h.Y,h.I,h.c,h.K,h.q,h.d,λj c=> ?_,?_,λj c=>(kP λe=>s.N x (À<|i x f)<|e▸c).trans<|h.r j c,λa b g=>((Ay k λe=>g<|by rwa[e]).trans<|h.e a b g),λa b=>se.trans<|h.S a b,λa b q=>xS<|h.b a b q,λa b q=>xS<|h.g a b q⟩
 .show j<(l'.w.setCell x v).heap.size;rw[jK];exact h.fl j c
 .show l.w.heap.size<=(l'.w.setCell x v).heap.size;rw[jK];exact h.f
def iq.G(h:iq E l l')(s:gl l):gl l' where
 c b hb:=by
  rw[h.Y];rcases h.h b hb with q|q
  .exact s.c b q
  .exact λz=>by have:=s.fl b<|Á z;omega
 Y a ha:=by rw[h.c];exact s.Y a<|by rwa[<-h.I]
 N a ha hb:=by
  rw[h.C]at ha;rcases hb with q|q
  .rcases h.h _ q with z|z
   .exact s.N a ha<|À z
   .have:=s.I a ha;omega
  .rw[h.Y]at q;exact s.N a ha<|Á q
 fl b hb:=by
  rcases hb with q|q
  .exact h.fl b q
  .rw[h.Y]at q;exact Ê (s.fl b<|Á q) h.f
 I a ha:=by rw[h.C]at ha;exact Ê (s.I a ha) h.f
 S a ha:=by
  rw[h.K]at ha;let⟨c,d,e⟩:=s.S a ha;refine⟨λq=> ?_,Ê d h.f,by rwa[h.I]⟩;rcases q with q|q
  .rcases h.h _ q with z|z
   .exact c<|À z
   .omega
  .rw[h.Y]at q;exact c<|Á q
end
section
variable{X:Type}{g:Array ã}{c:X->Nat->ã}{m:Array Bool->X->e5->Prop}{l:e5}{b:ø}{a:ō}{k:List Ţ}{cs:List ø}{x:X}
def II(Q:Array Ĭ)(g:Array ã)(c:X->Nat->ã)(m:Array Bool->X->e5->Prop)(wJ:Array Bool)(a:ō)(l:e5):Prop:=∃x,mA Q g (c x) wJ a/\m wJ x l
def Jz(a:o.guard=Í)(y:Nat->Option Bool):á o y=Ì:=by unfold á;rw[a]
def gZ(h:tC Q g.size=Ì)(j:mA Q g (c x) wJ a)(f:Q[i]?=Ã o)(n:o.guard=Í){md:Ý}(p:i∈Ò md Q wJ)(s:b.kind≠Đ)(t:jW l)(u:¬l.q) (v:∀d,fD l l.w d->(Þ a.eval o).run P d=.ok (.value<|c x i) d) (y:∀d,fD l l.w d->∀e∈(Þ a.eval o).events P d #[],wx l e) (z:∀d,fD l l.w d->m (wJ.setIfInBounds i Ì) x {l with w:=d}): fe P yQ (λB C=>∃r,C=G (b.at r<|Æ Q jJ::k) cs/\II Q g c m (wJ.setIfInBounds i Ì) r B) l (G (b.at a<|Æ Q (i::jJ)::k) cs):= tB f (Jz n _) s t u v y<|.fu λd r=>⟨_,U,x,j.fW h f p λ_=>rfl,z d r⟩
def PU(h:tC Q g.size=Ì)(j:mA Q g (c x) wJ a)(f:Q[i]?=Ã o)(n:o.guard=Í)(e:o.dst=Í){md:Ý}(p:i∈Ò md Q wJ)(s:b.kind≠Đ)(t:jW l)(u:¬l.q){y:Č}(z:y.spot=Í)(B:pw l y)(C:(l.w.cell? y).isSome=Ì)(D:l.w.frozen? y=É) (E:∀w,(w.cell? y).isSome=Ì->w.frozen? y=É->(Þ a.eval o).run P w=.ok .skip (w.setCell y v)) (F:∀w,(w.cell? y).isSome=Ì->w.frozen? y=É->(Þ a.eval o).events P w #[]=#[⟨ú y,Ì,É⟩]) (H:∀d,fD l (l.w.setCell y v) d->m (wJ.setIfInBounds i Ì) x {l with w:=d}): fe P yQ (λI J=>∃r,J=G (b.at r<|Æ Q jJ::k) cs/\II Q g c m (wJ.setIfInBounds i Ì) r I) l (G (b.at a<|Æ Q (i::jJ)::k) cs):=by refine agY f (Jz n _) s t u z B C e D E F (.fu λd r=>⟨_,U,x,?_,H d<|yj r⟩);have:=j.fW h f p (v:=Â) λq=>absurd e q;rwa[e]at this
theorem Xs(q:tC Q g.size=Ì)(s:mA Q g (c x) wJ a)(p:Q[i]?=Ã o)(t:o.guard=Í){md:Ý}(u:i∈Ò md Q wJ)(v:b.kind≠Đ)(y:jW l){f:Ĵ}{args:Array ã} (z:∀w,(Þ a.eval o).run P w=.ok (.enter f args) w) (B:∀w,(Þ a.eval o).events P w #[]=#[]) (C:∀d,fD l l.w d->fe P yQ (λh n=>∃e,n=G ((b.at a<|Æ Q (i::jJ)::k).finish<|c e i) cs/\m (wJ.setIfInBounds i Ì) e h/\∀j,wJ.getD j É=Ì->c e j=c x j) {l with w:=d} (G (Ŷ P f args .normal)<|b.at a (Æ Q (i::jJ)::k)::cs)): fe P yQ (λh n=>∃r,n=G (b.at r<|Æ Q jJ::k) cs/\II Q g c m (wJ.setIfInBounds i Ì) r h) l (G (b.at a<|Æ Q (i::jJ)::k) cs):=by
 refine .mk U λd r=>⟨G (Ŷ P f args .normal)<|b.at a (Æ Q (i::jJ)::k)::cs,d,#[],{l with w:=d},?_,Oq d<|lX y r,?_⟩
 .rw[ŵ p (Jz t _) v<|z d];unfold η;rw[B d,Ć]
 .refine(C d r).fH ?_;rintro h n ⟨e,rfl,D,E⟩;refine⟨a.put o.dst<|c e i,?_,e,(s.Xn E).fW q p u λ_=>rfl,D⟩;grind [ĩ]
end
end Go.Proofs.Y.fv
namespace Go.Proofs.YtgpphkdoanciiaaGreatDoor
open Go Go.Conc Go.Conc.Lib
def Lk:ě:={add:=62,done:=65,wait:=53,relMerge:=105,disable:=68,enable:=70,inBubble:=76,associate:=106,fatal:=107,uOr:=108,uAdd:=109,raceRead:=110,uLoad:=69,uStore:=111,disassociate:=74,semrelease:=112,acquire:=71,isAssociated:=72,uCas:=73,raceWrite:=75,semacquire:=77,orU64:=150,addU64:=151,loadU64:=127,storeU64:=152,casU64:=128,tWgP:=162,tUP:=170,tAssoc:=202,tWg:=97,tAU:=94,tU64:=36,tUint:=168,tU32:=95,tPU32:=174,tPAU:=219,tPU64:=221,tNoCopy:=90,tANoCopy:=91,tAlign64:=92}
def qc:Ŕ ī Lk where
 f_add:=Tryz.func62;f_done:=Tryz.func65;f_wait:=Tryz.func53;f_relMerge:=Tryz.func105;f_disable:=Tryz.func68;f_enable:=Tryz.func70;f_inBubble:=Tryz.func76;f_associate:=Tryz.func106;f_fatal:=Tryz.func107;f_uOr:=Tryz.func108;f_uAdd:=Tryz.func109;f_raceRead:=Tryz.func110;f_uLoad:=Tryz.func69;f_uStore:=Tryz.func111;f_disassociate:=Tryz.func74;f_semrelease:=Tryz.func112;f_acquire:=Tryz.func71;f_isAssociated:=Tryz.func72;f_uCas:=Tryz.func73;f_raceWrite:=Tryz.func75;f_semacquire:=Tryz.func77;f_orU64:=Tryz.func150;f_addU64:=Tryz.func151;f_loadU64:=Tryz.func127;f_storeU64:=Tryz.func152;f_casU64:=Tryz.func128;underlying_tWgP:=Tryz.underlying162;runUnderlying_tWgP:=Tryz.runUnderlying162;sizeOf_tWgP:=Tryz.sizeOf162;isAgg_tWgP:=Tryz.isAgg162;zeroValue_tWgP:=Tryz.zeroValue162;underlying_tUP:=Tryz.underlying170;runUnderlying_tUP:=Tryz.runUnderlying170;sizeOf_tUP:=Tryz.sizeOf170;isAgg_tUP:=Tryz.isAgg170;zeroValue_tUP:=Tryz.zeroValue170;underlying_tI32:=Tryz.underlying202;runUnderlying_tI32:=Tryz.runUnderlying202;sizeOf_tI32:=Tryz.sizeOf202;isAgg_tI32:=Tryz.isAgg202;zeroValue_tI32:=Tryz.zeroValue202;underlying_tWg:=Tryz.underlying97;runUnderlying_tWg:=Tryz.runUnderlying97;sizeOf_tWg:=Tryz.sizeOf97;isAgg_tWg:=Tryz.isAgg97;zeroValue_tWg:=Tryz.zeroValue97;underlying_tAU:=Tryz.underlying94;runUnderlying_tAU:=Tryz.runUnderlying94;sizeOf_tAU:=Tryz.sizeOf94;isAgg_tAU:=Tryz.isAgg94;zeroValue_tAU:=Tryz.zeroValue94;underlying_tU64:=Tryz.underlying36;runUnderlying_tU64:=Tryz.runUnderlying36;sizeOf_tU64:=Tryz.sizeOf36;isAgg_tU64:=Tryz.isAgg36;zeroValue_tU64:=Tryz.zeroValue36;underlying_tSh:=Tryz.underlying168;runUnderlying_tSh:=Tryz.runUnderlying168;sizeOf_tSh:=Tryz.sizeOf168;isAgg_tSh:=Tryz.isAgg168;zeroValue_tSh:=Tryz.zeroValue168;underlying_tU32:=Tryz.underlying95;runUnderlying_tU32:=Tryz.runUnderlying95;sizeOf_tU32:=Tryz.sizeOf95;isAgg_tU32:=Tryz.isAgg95;zeroValue_tU32:=Tryz.zeroValue95;underlying_tPU32:=Tryz.underlying174;runUnderlying_tPU32:=Tryz.runUnderlying174;sizeOf_tPU32:=Tryz.sizeOf174;isAgg_tPU32:=Tryz.isAgg174;zeroValue_tPU32:=Tryz.zeroValue174;underlying_tPAU:=Tryz.underlying219;runUnderlying_tPAU:=Tryz.runUnderlying219;sizeOf_tPAU:=Tryz.sizeOf219;isAgg_tPAU:=Tryz.isAgg219;zeroValue_tPAU:=Tryz.zeroValue219;underlying_tPU64:=Tryz.underlying221;runUnderlying_tPU64:=Tryz.runUnderlying221;sizeOf_tPU64:=Tryz.sizeOf221;isAgg_tPU64:=Tryz.isAgg221;zeroValue_tPU64:=Tryz.zeroValue221;underlying_t0:=Tryz.underlying0;runUnderlying_t0:=Tryz.runUnderlying0;sizeOf_t0:=Tryz.sizeOf0;isAgg_t0:=Tryz.isAgg0;zeroValue_t0:=Tryz.zeroValue0;underlying_t3:=Tryz.underlying3;runUnderlying_t3:=Tryz.runUnderlying3;sizeOf_t3:=Tryz.sizeOf3;isAgg_t3:=Tryz.isAgg3;zeroValue_t3:=Tryz.zeroValue3;underlying_t4:=Tryz.underlying4;runUnderlying_t4:=Tryz.runUnderlying4;sizeOf_t4:=Tryz.sizeOf4;isAgg_t4:=Tryz.isAgg4;zeroValue_t4:=Tryz.zeroValue4;underlying_t9:=Tryz.underlying9;runUnderlying_t9:=Tryz.runUnderlying9;sizeOf_t9:=Tryz.sizeOf9;isAgg_t9:=Tryz.isAgg9;zeroValue_t9:=Tryz.zeroValue9;underlying_t20:=Ĺ;runUnderlying_t20:=Tryz.runUnderlying20;sizeOf_t20:=Tryz.sizeOf20;isAgg_t20:=Tryz.isAgg20;zeroValue_t20:=Tryz.zeroValue20;underlying_t21:=Tryz.underlying21;runUnderlying_t21:=Tryz.runUnderlying21;sizeOf_t21:=Tryz.sizeOf21;isAgg_t21:=Tryz.isAgg21;zeroValue_t21:=Tryz.zeroValue21;room_tWg:=by decide+kernel
 room_tU32:=by decide+kernel
end Go.Proofs.YtgpphkdoanciiaaGreatDoor
namespace Go.Proofs.Y.fv
open Go Go.Conc Go.Proofs.Y.Lift Go.RowKit Go.Conc.Lib Go.ConcR.Gen
open Go.Proofs Go.Proofs.YtgpphkdoanciiaaGreatDoor
def Xt:Array Ĭ:=#[⟨Ã 3,.load 1<|ß 1,1, "waitgroup.go:258",#[],Í⟩,
 ⟨Ã 4,Ŭ {callee:=.value (ß 3),args:=#[],argTypes:=#[]},0, "waitgroup.go:258",#[⟨0,ý⟩],Í⟩]
section
variable{Ψ:Ð->Prop}{l:e5}
def Xu(b:l.K ⟨i,0,Í⟩/\l.K ⟨i,1,Í⟩)(c:lF Ψ l i)(a:SW Ψ l i l.w)(e:l.d=0)(f:¬l.q)(j:gR l ⟨n,0,Í⟩)(k:l.w.cell? ⟨n,0,Í⟩=Ã (ì<|Ã ⟨i,0,Í⟩)): fe ī É (λl g=>xT ī É i (CP ī) (ki l) g) l (G ((baseD 63).at ⟨#[ì<|Ã ⟨n,0,Í⟩,v,x,z,jQ],[oM 64 #[ì<|Ã ⟨n,0,Í⟩] #[]]⟩ [Æ Xt []]) [nk ī]):=by
 apply gi (n:=30) a.1;have hF:=trivial;iterate 2 w_go fA
 u_c (agL U ŷ fR U) fA hF
 walk_nrmf Tryz.f64;iterate 3 w_go fA
 u_c (agK U U U U U U U) fA hF
 walk_nrm;have m:=λw g=>agT 20 w g Ĺ;repeat w_go fA
 refine Î λ_ _=> ?_;apply nK U U (by k_ne) a.1 f j k (λw h=>by go_simp) (λw h=>by simp[go_sem,h]);walk_nrm;apply gi (n:=30) a.1;u_call qc.f_done (nm_done Lk) doneFn fA hF;refine Î λ_ _=> ?_;apply agE qc b c a e;walk_nrm;apply Ju U λ_=>stepG_region_end;apply Ju U λ_=>stepG_end;refine agQ U U ŷ U U<|agP U U Tryz.func63 U
end
end Go.Proofs.Y.fv
