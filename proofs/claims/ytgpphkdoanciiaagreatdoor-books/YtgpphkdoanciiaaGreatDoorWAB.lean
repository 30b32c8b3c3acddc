import Derived.Test.YtgpphkdoanciiaaGreatDoorWAA
import Derived.Conc.WgGenN3
import Derived.Conc.MuWords
import Derived.Conc.CompanyDraw
import Derived.Test.YtgpphkdoanciiaaGreatDoorRows
import Derived.Conc.WgLib
set_option linter.all false
set_option maxRecDepth 1000000
set_option maxHeartbeats 8000000
open Or renaming inl->À,inr->Á
open Go renaming undef->Â,Goroutine->Ä,World->Ï,deafBehind->Ð,execOp->Þ,Value->ã,Trace->ä,stepG->è,Frame->ô,MemOp->Ă,mem_ready->ĉ,Addr->Č,Event->đ,getD_set_true->ĝ,Program->Ğ,yielded->Ĩ,FuncId->ī,Oper->ĭ,TypeId->Ĵ,resolve->ĸ,Act->Ł,goexitEntry->ō,runT->Ŏ,Item->Ő,invoke->Ŝ,callFunc->ŝ,callDeferred->Ū,Deferred->Ů,Operand->Ÿ,unwind->Η,Mark->Ο,runNT->Χ,Code->θ,Loc->π
open Option renaming some->Ã,none->Í,map_eq_some_iff->Ù,isSome_iff_exists->ü,getD_some->ć
open Go.GoStatus renaming running->Å,blocked->Ü,finished->å
open Go.Item renaming inRegion->Æ,code->ĵ,inBlock->ŏ,inLoop->Ρ
open Nat renaming le_refl->Ç,lt_of_lt_of_le->Ê,le_trans->Ô,le_of_eq->Õ,le_mul_of_pos_right->â,mul_le_mul_left->ï,lt_of_not_le->ñ,zero_le->ò,add_zero->ó,le_of_not_lt->ă,and_two_pow_sub_one_eq_mod->Ą,mul_le_mul_right->č,strongRecOn->Ď,add_mul_mod_self_right->ē,lt_or_ge->ģ,mod_eq_of_lt->ļ,mul_add->Ń,mod_lt->ż
open Option.some renaming inj->È,injEq->Ķ
open Bool renaming false->É,true->Ì,and_eq_true->ŀ
open Go.MemAct renaming ofEvent->Ë,touch?->Ċ,mark->ė,start->İ,go->ς
open Go.Conc.Goes renaming stop->Î
open Go.ConcN renaming sumTo->Ñ,wraps_u64_63->ø,sumTo_congr->ł
open Go.Region renaming ready->Ò,Mode->Ý,wanted->á,binds->ū
open Go.IntKind renaming u64->Ó,u32->ç,i64->Ũ
open Array renaming getElem?_eq_some_iff->Ö,append_empty->Ú,getElem?_eq_getElem->é,replicate->ê,getElem?_setIfInBounds_ne->í,mem_toList_iff->Ī
open Go.Conc renaming mem_ofEvents->Ø,crowd->ð,semEvents->ö,woken->Ā,stepG_semrelease->ą,seen_none->Ć,stepG_markAt->Ē,stepG_mark0->Ę,stepG_load_atomic->ę,Goes->ı,deafBehind_still->ĺ,parked->Ļ,stepG_add_atomic->Ľ,stepG_value->ń,rcase->Ŕ,stepG_none->ŗ,goes_go->ť,stepG_enter->ŵ,QuitsD->Ź,touch_mute->ź,stepG_oper->Ζ,mem_listed->Ι,Knows->Λ,listed->η,Deaf->κ
open Go.MemOp renaming ofEvents->Û
open Go.Operand renaming tmp->ß,const->ċ,func->ŧ
open Go.ConcR renaming DC0->à
open Go.ConcR.Gen renaming x_semrelease_b->æ,x_semrelease_n->Ĕ,x_semrelease_x->ĕ,x_semrelease_f->Ė,mayWake_entry->Ĝ,x_enable_n->Ĥ,x_enable_b->ĥ,x_enable_x->Ħ,x_enable_f->ħ,x_disable_n->Ņ,x_disable_b->ņ,x_disable_x->Ň,x_disable_f->ň,x_loadU64_n->ŉ,x_loadU64_b->Ŋ,x_loadU64_x->ŋ,x_loadU64_f->Ō,x_semacquire_n->Ř,x_semacquire_b->ř,x_semacquire_x->Ś,x_semacquire_f->ś,body_wait->ţ,nm_uLoad->ů,x_acquire_n->Ű,x_acquire_b->ű,x_acquire_x->Ų,x_acquire_f->ų,x_addU64_n->Ž,x_addU64_b->ž,x_addU64_x->ſ,x_addU64_f->Α,x_casU64_n->Β,x_casU64_b->Γ,x_casU64_x->Δ,x_casU64_f->Ε
open Go.Value renaming int->ë,pointer->ì,nilIface->ā,tuple->Ĳ
open Go.Mark renaming enable->î,disable->õ,releaseMerge->į,acquire->Œ,write->Υ
open Go.FrameMode renaming returning->ù
open Go.Loc renaming cell->ú,mark->ŭ
open Go.Region.linearise renaming go->û
open Go.Ground renaming data->ý,phase->ũ
open Go.Act renaming eval->þ,put->ő
open Ne renaming symm->ÿ
open Go.Deferred renaming ofValue->Ĉ
open Go.Goroutine renaming again->ď
open Go.CallKind renaming early->Đ,deferred->ľ
open Go.GStep renaming after->Ě,go->Š
open Go.Conc.Lib renaming WgLink->ě,WgLib->ŕ,uLoadFn->Ξ
open Go.Stepped renaming next->ğ
open List renaming all_eq_true->ġ,any_eq_true->Ŀ,mem_range->ş,mem_cons->Ţ,range->Κ
open Go.Code renaming region->Ģ,cond->Τ,block->ε,skip->ο
open Go.Frame renaming finish_at->ĩ,enter->Ŷ
open Go.Proofs.Tryz renaming prog->Ĭ,underlying20->Ĺ,func64->ŷ
open Go.Op renaming move->Ŧ,call->Ŭ,equalIn->Θ,binOp->Ω
variable{i n j b k m J j9 j7 j6:Nat}{w u W jX:Ï}{v x z jQ:ã}{g:Ä}{a p:Č}{h c:Int}{e t T:Ĵ}{d q:Array ã}{P:Ğ}{y:Ł}{B:ByteArray}{X:Nat->Prop}{O:Option Č}{l:List ã}{yQ:Bool}{K H:Ł->Ï->Prop}{o:ĭ}{D:Nat->Nat}{E:Array Ä}{L:List Ő}{jJ:List Nat}{qX:List ô}{qQ:Ÿ}{qJ:ä}{zX:π->Prop}{zQ:List Int}{zJ:Go.TypeInfo}{xX:Ÿ->ã}{xQ:Go.Tape}{xJ:Nat×Nat}{wX:θ}{wQ:Ă}{wJ:Array Bool}{vX:List ByteArray}{vQ:ã->Ï->Prop}{vJ:Go.Exit->Ł->Ï->Prop}{yX:Ý}{Q:Array ĭ}{f:ô}{V:Array đ}{F:ī}{s:Go.Func}
namespace Go.Proofs.Y.fA
open Go Go.Conc Go.Proofs.Y.Lift
open Go.ConcN (sumTo)
section
variable{F:Ph}{E:fW F}{S:Nat->Jd}{tr:Nat->gl}{c:Nat->iD}{lot:Nat->fe}{gs:Array Ä}{w':Ï}{t u:ä}{sz:Nat}
def yp(h:F.M b):F.G (fQ b)/\F.G (gY b):=⟨⟨b,h,À U⟩,⟨b,h,Á U⟩⟩
def yq(h:F.G a):E.Y a.block:=by obtain⟨b,c,rfl|rfl⟩:=h<;>exact À c
def iN.Y(L:iN F E lot sz w)(ok:F.Ok)(f:F.G a):∀i,i<sz->¬(lot i).C a:=by
 intro i g h;let⟨b,c,d⟩:=f;rcases L.gU i g a h with⟨k,_,e⟩|⟨p,_,e⟩
 .rcases d with rfl|rfl<;>simp[fQ,gY,jk]at e
 .rcases d with rfl|rfl
  .simp only[fQ,ju]at e;injection e with e1 _ _;exact ok.C<|e1▸c
  .simp only[gY,ju]at e;injection e with e1 _ _;exact ok.C<|e1▸c
def iN.tR(L:iN F E lot sz w)(c:Ps F E)(d:j+2<=E.r):∀i,i<sz->∀a:Č,a.block=E.I j->¬(lot i).C a:=by
 intro i f a b g;let⟨h,l,_⟩:=c.o j d;rcases L.gU i f a g with⟨k,m,e⟩|⟨p,_,e⟩
 .exact h<|by rw[<-b,e];exact Á ⟨k,m,U⟩
 .exact l<|by rw[<-b,e];rfl
def iN.ahf(L:iN F E lot sz w):∀i,i<sz->∀a,(lot i).C a->a.spot=Í:=by intro i b a c;rcases L.gU i b a c with⟨k,_,rfl⟩|⟨p,_,rfl⟩<;>rfl
def iN.PW(L:iN F E lot sz w)(ok:F.Ok):∀i,i<sz->¬(lot i).r (ju F F.f):=by
 intro i a h;rcases L.gU i a _ (À h)with⟨k,b,e⟩|⟨p,c,e⟩
 .have:F.Y=F.I k:=by injection e
  exact ok.C<|by rw[this];exact Á ⟨k,b,U⟩
 .have:F.f=p:=by injection e
  exact c this.symm
structure GU(F:Ph)(E:fW F)(lot:Nat->fe)(sz:Nat)(w w':Ï):Prop where
 wO:w.heap.size<=w'.heap.size
 C:∀b,b<w.heap.size->¬E.Y b->(∀i,i<sz->¬(lot i).O b)->w'.heap[b]?=w.heap[b]?
 r:∀a:Č,((∃k,k<=F.m/\a=jk F.toFx k)\/∃p,a=ju F p)->(∀i,i<sz->¬(lot i).r a)->w'.cell? a=w.cell? a
 I:kY w' F.Y=kY w F.Y
 M:w'.os=w.os/\w'.output=w.output
def Wd.Lf(W:Wd F E w)(H:gT F)(L:iN F E lot sz w)(a:GU F E lot sz w w')(f:E.S.md<=F.m){d:GS}{e:Nat->GS}(g:ik w' F.C d)(h:∀k,k<=F.m->ik w' (F.I k) (e k))(i:∀j,j+2<=E.r->w'.heap[E.I j]?=w.heap[E.I j]?):Wd F {E with b:=d,a:=e} w' where
 C:=g;I:=h;jO j hj:=by have:=W.jO j hj;rwa[<-i j hj]at this
 M k hk:=⟨(W.M k hk).1,H.S _ _ _ _ _ (W.M k hk).2 (λb c=>a.C b (L.I k hk b c).1 (L.I k hk b c).2.1 (L.I k hk b c).2.2) (a.r _ (À ⟨k,Ô hk f,U⟩)<|L.N k hk) (a.r _ (Á ⟨_,U⟩)<|L.PW H.C) a.I a.M⟩;S k h1 h2:=(a.r _ (Á ⟨_,U⟩)<|L.g k h1 h2).trans<|W.S k h1 h2;N j hj r hr hd:=(a.r _ (Á ⟨_,U⟩)<|L.d j hj r hr hd).trans<|W.N j hj r hr hd
def Lh(a:Ps F E):E.S.md<=F.m:=by
 cases h:E.S with
 |kR k=>exact(a.I k).1 h
 |mk k=>have:=((a.I k).2.1 h).2;simp only[jF.md];omega
 |dn k p=>exact((a.I k).2.2 p h).2
def Li(a:Ps F E):E.S.rl<=E.S.md:=by
 cases h:E.S with
 |dn k p=>cases p<;>simp only[jF.rl,jF.md]<;>omega
 |_=>exact Ç _
def PX(a:jF):a.od<=a.rl:=by
 cases a with
 |dn k p=>cases p<;>simp only[jF.rl,jF.od]<;>omega
 |_=>exact Ç _
def Yd{x:Nat}(h:E.iy x):E.oS x:=by let⟨e,a,b⟩:=h;exact⟨e,a,by cases e<;>first|exact b|trivial⟩
def Lj{l a:fe}(h:l=kI l)(b:mH l a w w' V):a=kI a:=by
 have j:l.q:=by rw[h];trivial
 have c:a.O=λ_=>False:=by rw[(b.h j).2.2,h];rfl
 have e:a.I=λ_=>False:=by rw[b.rd,h];rfl
 have f:a.r=λ_=>False:=by rw[b.r,h];rfl
 have g:a.N=λ_=>False:=by rw[b.I,h];rfl
 have i:a.q=True:=by rw[b.q,h];rfl
 obtain⟨O,k,m,n,d,q,o⟩:=a;simp only at c e f g i;subst c e f g i;rfl
theorem iN.fg(L:iN F E lot gs.size w)(C:ja F.S (λi=>i<gs.size) E.Y lot w t){m:fe}(J:i<gs.size)(d:mH (lot i) m w w' V):iN F E (gi lot i m) gs.size w':=by
 have K:∀x,E.oS x->i=F.L+x->m=kI m:=λx p e=>Lj (e▸L.S x p) d;have M:=λc l=>Lj (L.c i c l) d;have B:∀k a,(gi lot i m k).C a↔(lot k).C a:=λk a=>by
  by_cases e:k=i
  .subst e;rw[gV];unfold fe.C;rw[d.r,d.I]
  .rw[gI lot _ e]
 have n:∀k,(gi lot i m k).r=(lot k).r:=λk=>by
  by_cases e:k=i
  .subst e;rw[gV,d.r]
  .rw[gI lot _ e]
 have s:∀k,(gi lot i m k).N=(lot k).N:=λk=>by
  by_cases e:k=i
  .subst e;rw[gV,d.I]
  .rw[gI lot _ e]
 have u:∀k,(gi lot i m k).I=(lot k).I:=λk=>by
  by_cases e:k=i
  .subst e;rw[gV,d.rd]
  .rw[gI lot _ e]
 refine⟨λk f a v=>L.gU k f a<|(B k a).1 v,λx c l a v=>by rw[n];exact L.o x c l a v,λh=>by rw[s,u];exact L.mb h,λh k c l=>by rw[n];exact L.e h k c l,λh o=>by rw[s,u];exact L.f h o,λj g o r y c=>by rw[n];exact L.h j g o r y c,λj g o=>by rw[s,u];exact L.l j g o,λx p=> ?_,λk f=> ?_,λk c l=> ?_,λk f b D=> ?_,λk f j g=>by rw[n];exact L.N k f j g,λk c l j g=>by rw[n];exact L.g k c l j g,λj g r y G k f=>by rw[n];exact L.d j g r y G k f⟩
 .by_cases e:F.L+x=i
  .grind [gV]
  .rw[gI lot _ e];exact L.S x p
 .by_cases e:k=i
  .subst e;rw[gV,d.q];exact L.M k f
  .rw[gI lot _ e];exact L.M k f
 .by_cases e:k=i
  .grind [gV]
  .rw[gI lot _ e];exact L.c k c l
 .let⟨H,I,N⟩:=L.I k f b D;refine⟨Ê H d.C,I,λj g=> ?_⟩;by_cases e:j=i
  .subst e;rw[gV];intro q;rcases d.M b q with z|z;all_goals grind
  .grind [gI]
def ahg(C:ja F.S (λi=>i<gs.size) E.Y lot w t){h:fe}(d:i<gs.size)(c:mH (lot i) h w w' V):GU F E lot gs.size w w':= ⟨c.C,λb j e f=>c.ki b j (f i d) λa g q=>e<|g▸C.e i d a (À q),λa g f=>by
   have e:E.Y a.block:=by
    rcases g with⟨k,l,rfl⟩|⟨p,rfl⟩
    .exact À<|Á ⟨k,l,U⟩
    .exact Á<|À U
   exact c.S a (C.N _ e) (λq=>C.I i d _ (À q) e)<|f i d,
  c.Y (ju F 0) (C.N _ (Á (À U))) λq=>C.I i d _ (À q) (Á (À U)),c.c,c.f⟩
def Ye(L:iN F E lot gs.size w)(ok:F.Ok)(C:ja F.S (λi=>i<gs.size) E.Y lot w t){g:fe}(e:i<gs.size)(c:mH (lot i) g w w' V)(f:F.M b){G:GS}(h:ik w b G):ik w' b G:=by have a:E.Y b:=À f;have d:=λq=>C.I i e _ (À q) a;exact h.wM (c.S (fQ b) (C.N _ a) d λq=>(L.Y ok (yp f).1 i e)<|À q) (c.S (gY b) (C.N _ a) d λq=>(L.Y ok (yp f).2 i e)<|À q) (K0<|c.Y (fQ b) (C.N _ a) d)<|K0<|c.Y (gY b) (C.N _ a) d
def ahh(L:iN F E lot gs.size w)(e:Ps F E)(C:ja F.S (λi=>i<gs.size) E.Y lot w t){f:fe}(b:i<gs.size)(g:mH (lot i) f w w' V)(c:j+2<=E.r):w'.heap[E.I j]?=w.heap[E.I j]?:=by have d:E.Y (E.I j):=Á<|Á ⟨j,c,U⟩;exact g.ki _ (C.N _ d) (λq=>C.I i b _ (À q) d) λa h q=>L.tR e c i b a h<|À q
theorem ahi(L:iN F E lot gs.size w)(H:Ps F E)(ok:F.Ok)(C:ja F.S (λi=>i<gs.size) E.Y lot w t)(P:gs.size=F.L+E.r){m:fe}{p:Array đ}{u:ī}{B:String}(o:i<gs.size)(g:mH (lot i) m w w' p): Ld F.toFx E.r (E.S.rl) E.V E.d E.iy t (Û i u B p) i:=by
 have J:∀x,E.iy x->i=F.L+x->m=kI m:=λx l e=>Lj (e▸L.S x (Yd l)) g;have D:∀c∈Û i u B p,∀a,c.act.touch?=Ã a->∃y:Č,a.loc=ú y/\(m.O y.block\/m.r y\/((m.I y.block\/m.N y)/\a.write=É)):=λc d a n=>by obtain⟨e,r,rfl⟩:=Ø d;exact XW (g.b e r) n
 have I:m=kI m->∀c∈Û i u B p,c.act.touch?=Í:=λe c d=>by
  cases h:c.act.touch? with
  |none=>rfl
  |some a=>
   let⟨y,_,q⟩:=D c d a h;rw[e]at q;rcases q with q|q|⟨q|q,_⟩<;>exact q.elim
 refine⟨λc d _ _=>oQ c d,?_,λc d a x n G l=> ?_,λc d a y n Q G k h s=> ?_,λc d b _ e=> ?_,λx l K=> ?_⟩
 .by_cases j:i=0
  .exact À j
  .by_cases f:i<F.L
   .exact Á<|Á<|I<|(λh s=>Lj (L.c i h s) g) Z f
   .exact Á<|À ⟨i-F.L,Z,Z⟩
 .exfalso;let⟨y,j,q⟩:=D c d a n;rw[G]at j;injection j with j;subst j;have f:=yq (E:=E) l;have v:=L.Y ok l i o;rcases q with q|q|⟨q|q,_⟩
  .rcases g.M _ q with z|z
   .exact C.I i o _ (À z) f
   .have:=C.N _ f;omega
  .exact v<|À<|by rwa[<-g.r]
  .exact C.I i o _ (Á<|by rwa[<-g.rd]) f
  .exact v<|Á<|by rwa[<-g.I]
 .have j:=Ô s<|Li H;let⟨x,l,q⟩:=D c d a n;rw[G]at l;injection l with l;subst l;rcases q with q|q|⟨_,q⟩
  .refine⟨λv=> ?_,λe=> ?_⟩
   .let⟨M,_,N⟩:=L.I k j _ v;rcases g.M _ q with z|z;all_goals grind
   .have f:E.Y y.block:=by rw[e];exact À<|Á ⟨k,Ô j<|Lh H,U⟩
    rcases g.M _ q with z|z
    .exact C.I i o _ (À z) f
    .have:=C.N _ f;omega
  .refine⟨λv=>((L.I k j _ v).2.1<|C.e i o y<|À<|by rwa[<-g.r]),λe=>(L.N k j i o<|by rwa[<-g.r,<-e])⟩
  .grind
 .obtain⟨j,r,rfl⟩:=Ø d;have v:=g.b j r;let⟨M,wr,N⟩:=j;simp only[Ë]at e;rcases v with⟨a,h,_⟩|h|⟨f,h⟩|h|h|⟨a,_,h|h|h|h⟩<;>(simp only at h;subst h;simp at e)
 .by_cases e:F.L+x=i
  .have v:=I<|J x K e.symm;refine⟨λr f=>f.app λj S T M=> ?_,λ_ c d a n=>by rw[v c d]at n;cases n⟩;let⟨z,N,_⟩:=M;rcases nj (show touchAt (t++_) j=Ã z from N)with⟨q,_⟩|⟨_,c,h,s,_⟩;all_goals grind
  .exact⟨λr f=>f.appOther oQ<|ÿ e,λj=>absurd j e⟩
end
abbrev u6:=Nat×Nat×gl
def Ad(x y:u6):Prop:=x.1<y.1\/(x.1=y.1/\(x.2.1<y.2.1\/(x.2.1=y.2.1/\XZ x.2.2 y.2.2)))
def Yf:WellFounded Ad:=by
 refine⟨λx=> ?_⟩;let⟨a,b,c⟩:=x
 induction a using Ď generalizing b c with
 |_ a j=>
  induction b using Ď generalizing c with
  |_ b k=>
   induction X0.apply c with
   |intro c _ l=>
    refine⟨_,λy h=> ?_⟩;let⟨m,f,e⟩:=y;rcases h with h|⟨d,h|⟨g,i⟩⟩
    .exact j m h f e
    .simp only at d h;subst d;exact k f h e
    .simp only at d g i;subst d g;exact l e i
def ahj(x:u6):¬Ad x x:=by
 intro h
 induction Yf.apply x with
 |intro x _ a=>exact a x h h
def DZ(n:Nat)(f g:Nat->u6):Prop:=∃i,i<n/\Ad (f i) (g i)/\∀j,j<n->j≠i->f j=g j\/Ad (f j) (g j)
def Yg:∀(n:Nat) (g:Nat->u6),Acc (DZ n) g
 |0,g=>⟨_,λf ⟨i,h,_⟩=>absurd h Z⟩
 |n+1,g=>by
  have k:∀(x:u6) (h:Nat->u6),∀g:Nat->u6,g n=x->(∀j,j<n->g j=h j)->Acc (DZ<|n+1) g:=by
   intro x
   induction Yf.apply x with
   |intro x _ l=>
    intro h
    induction Yg n h with
    |intro h _ m=>
     intro g b c;refine⟨_,λf ⟨i,r,a,d⟩=> ?_⟩;by_cases e:f n=g n
     .have s:i≠n:=by
       intro q;subst q;rw[e]at a;exact ahj _ a
      refine m f ⟨i,Z,by rwa[<-c i Z],λj o p=> ?_⟩ f (e.trans b) λ_ _=>rfl;rw[<-c j o];exact d j Z p
     .have:Ad (f n) x:=by
       rw[<-b];by_cases q:n=i
       .rwa[q]
       .exact(d n Z q).resolve_left e
      exact l _ this f f U λ_ _=>rfl
  exact k (g n) g g U λ_ _=>rfl
abbrev Mu:=(Nat->u6)×Nat
def p9(n:Nat)(x y:Mu):Prop:=DZ n x.1 y.1\/((∀j,j<n->x.1 j=y.1 j)/\x.2<y.2)
def ahk(n:Nat):WellFounded (p9 n):=by
 have e:∀h:Nat->u6,∀k:Nat,∀g:Nat->u6,(∀j,j<n->g j=h j)->Acc (p9 n) (g,k):=by
  intro h
  induction Yg n h with
  |intro h _ l=>
   intro k
   induction k using Ď with
   |_ k m=>
    intro g a;refine⟨_,λy q=> ?_⟩;let⟨f,b⟩:=y;rcases q with⟨i,c,o,x⟩|⟨p,r⟩
    .exact l f ⟨i,c,by rwa[<-a i c],λj d s=>by rw[<-a j d];exact x j d s⟩ b f λ_ _=>rfl
    .exact m b r f λj x=>(p j x).trans<|a j x
 exact⟨λx=>e x.1 x.2 x.1 λ_ _=>rfl⟩
section
variable(F:Ph)
def jN.rk(n:Nat):jN->Nat
 |.jK=>n+1011
 |.iG=>n+1010
 |.gw W=>min W (n+1000)+4
 |.jg W=>min W (n+1000)+3
 |.iE r=>min r (n+1000)+2
def jA.rk:jA->Nat
 |.jc=>7
 |.mr _=>6
 |.wr=>5
 |.kH=>4
 |.gw=>3
 |.ly=>2
def fX.rk(F:Ph):fX->Nat
 |.iG j=>F.q+F.n+20+4*(F.n-j)+7
 |.rd j=>F.q+F.n+20+4*(F.n-j)+6
 |.lO j=>F.q+F.n+20+4*(F.n-j)+5
 |.go j=>F.q+F.n+20+4*(F.n-j)+4
 |.iQ r=>r+F.n+11
 |.kZ r=>r+10
 |.fC p=>p.rk+2
 |.fZ=>0
def jF.rk(F:Ph):jF->Nat
 |.kR k=>(F.n+3000)*(F.m+2-k)+2900
 |.mk k=>(F.n+3000)*(F.m+3-k)+2800
 |.dn k p=>(F.n+3000)*(F.m+2-k)+2901+p.rk F.n
def gP.rk(F:Ph):gP->Nat
 |.nL r=>(F.n+3000)*(F.q+3-r)
 |.fC r p=>(F.n+3000)*(F.q+3-r)-20+p.rk
 |.gL r=>(F.n+3000)*(F.q+3-r)-30
 |.ox r=>(F.n+3000)*(F.q+3-r)-40
def iq.rk(F:Ph):iq->Nat×Nat
 |.pA=>(F.n+2900,0)
 |.fZ p=>(p.rk F.n,0)
 |.jz N=>(0,N)
end
def SP.rk(B:Nat)(st:Int):SP->Nat
 |.gX k=>B+2+k
 |.ld v k=>if st=v then k+1 else 2*B+3+k
def jA.lG(B:Nat)(st:Int):jA->Nat
 |.mr p=>p.rk B st
 |_=>0
section
variable{F:Ph}
def fW.iU(E:fW F)(tr:Nat->gl)(i:Nat):u6:=
 if i=0 then(E.M.rk F,0,tr 0)
 else if i<F.L then(0,E.h i,.fD)
 else match E.N (i-F.L)with
  |some e=>((e.rk F).1,(e.rk F).2,tr i)
  |none=>if i=F.L then(E.S.rk F,0,tr i)else((E.C<|i-F.L-1).rk F,0,tr i)
def fW.lG(E:fW F)(i:Nat):Nat:=
 if i=0 then(match E.M with|.fC p=>p.lG F.B E.b.st|_=>0)
 else if i<=F.L then 0
 else match E.C (i-F.L-1)with|.fC r p=>p.lG F.B (E.a<|F.r<|i-F.L-1+r*F.n).st|_=>0
def gO(gs:Array Ä)(i:Nat):Nat:=if(gs[i]?).any (·.status==.running)then 1 else 0
def Ph.N(F:Ph):Nat:=F.L+F.n+1
def fW.mu(E:fW F)(a:Nat->gl)(b:Array Ä):Mu:=(E.iU a,Ñ F.N λi=>(F.N+1)*E.lG i+gO b i)
end
theorem GV{b x:Ä}(h:(Ā P g b w x).status=Ü):Ā P g b w x=x/\x.status=Ü:=by
 unfold Ā at h|-;split at h
 .rename_i c;rw[if_pos c];unfold ď at h|-;grind
 .grind
section
variable{F:Ph}{E:fW F}{S:Nat->Jd}{tr:Nat->gl}{d:Nat->iD}{lot:Nat->fe}{gs gs':Array Ä}{w':Ï}{t u:ä}{sl:Option (Nat×Nat)}
def fq.GI(h:fq F E gs w)(o:gs'[i]?=Ã g)(p:g.status≠Ü)(t:∀k,k≠i->∃a f:Ä,gs'[k]?=gs[k]?.map (Ā F.P a f w'))(u:∀j,j+2<=E.r->w'.heap[E.I j]?=w.heap[E.I j]?):fq F E gs' w':=by
 intro k x b l;by_cases e:k=i
 .subst e;rw[o]at b;obtain rfl:=È b;exact absurd l p
 .let⟨a,f,q⟩:=t k e;rw[q]at b;obtain⟨y,v,rfl⟩:=Ù.1 b;let⟨_,z⟩:=GV l;rcases h k y v z with h1|⟨j,c,m,n,d|⟨r,B,s,C,d,D⟩⟩
  .exact À h1
  .exact Á ⟨j,c,m,n,À d⟩
  .exact Á ⟨j,c,m,n,Á ⟨r,B,s,C,d,by rwa[u j c]⟩⟩
def lP{J:Jd}(a:∀l g,J l g->g.status=Å\/g.status=å){l:fe}(h:fi P yQ J l g):g.status=Å\/g.status=å:=by
 cases h with
 |fD h=>exact a _ _<|h _<|fI.fV _ _
 |jL _ _ _ _ b=>exact À b
def ahl(H:gT F)(p:PI F m zX E S tr d lot gs w t){i:Nat}(hi:i<gs.size):∀l g,S i l g->g.status=Å\/g.status=å:=by
 have dn:∀(main:Bool) (b:Nat) (J:Jd),(∀l g,J l g->g.status=Å\/g.status=å)->∀(p:jN) l g,El F.P main b J p l g->g.status=Å\/g.status=å:=by
  intro main b J hJ p l g h;cases p with
  |jK=>exact À h.2.1
  |iG=>exact À h.2.1
  |gw W=>exact À h.2.1
  |jg W=>exact À h.2.1
  |iE r=>cases r with
   |zero=>exact hJ l g h
   |succ r=>exact À h.2.1
 have wt:∀(main:Bool) (b:Nat) (J:Jd) (p:jA) l g,rv F.P main F.B b J p l g->g.status=Å:=by
  intro main b J p l g h;cases p with
  |jc=>let⟨k,_,_,T,h1,h2⟩:=h;exact(h2 _ _ h1).1
  |mr p=>let⟨_,T,h1,h2⟩:=h;exact(h2 _ _ h1).1
  |wr=>exact h.2.1
  |kH=>exact h.2.1
  |gw=>exact h.2.1
  |ly=>exact h.2.1
 intro l g h;by_cases e0:i=0
 .subst e0;rw[p.h.1]at h;cases hm:E.M with
  |go j=>rw[hm]at h;exact À<|H.I _ _ _ _ h
  |lO j=>rw[hm]at h;let⟨c,h⟩:=h;exact À<|H.I _ _ _ _ h
  |rd j=>rw[hm]at h;exact À h.2.1
  |iG j=>rw[hm]at h;exact À h.2.1
  |iQ r=>
   rw[hm]at h;have cl:∀r l g,BP F E.I r l g->g.status=Å:=λr l g h=>by
    cases r with
    |zero=>exact wt _ _ _ .jc _ _ h
    |succ r=>exact h.1
   cases r with
   |zero=>exact À<|cl _ _ _ h
   |succ r=>exact À h.1
  |kZ r=>
   rw[hm]at h;cases r with
   |zero=>exact À<|wt _ _ _ .jc _ _ h
   |succ r=>exact À h.1
  |fC p=>rw[hm]at h;exact À<|wt _ _ _ _ _ _ h
  |fZ=>rw[hm]at h;exact À<|H.M _ _ _ h
 by_cases e1:i<F.L
 .rw[(p.l i Z e1).1]at h;exact QuitsD.status h
 have iO:=p.b;obtain⟨x,rfl⟩:∃x,i=F.L+x:=⟨i-F.L,Z⟩;cases he:E.N x with
 |some e=>
  rw[(p.k x e Z he).1]at h;cases e with
  |pA=>exact À h.2.1
  |fZ p=>exact dn _ _ _ (λl g ⟨N,h⟩=>h.status) _ _ _ h
  |jz N=>exact QuitsD.status h
 |none=>
  cases x with
  |zero=>
   rw[ó,(p.m Z he).1]at h;cases hm:E.S with
   |kR k=>rw[hm]at h;exact À<|H.N _ _ _ h
   |mk k=>rw[hm]at h;let⟨s',V,_,_,_,_,h⟩:=h;exact À h.2.1
   |dn k p=>rw[hm]at h;exact dn _ _ _ (λl g h=>lP (λl g h=>À<|H.N _ _ _ h) h) _ _ _ h
  |succ j=>
   rw[show F.L+(j+1)=F.L+1+j by omega,(p.g j Z he).1]at h;cases hm:E.C j with
   |nL r=>rw[hm]at h;exact À h.1
   |fC r p=>rw[hm]at h;exact À<|wt _ _ _ _ _ _ h
   |gL r=>rw[hm]at h;exact À<|H.Y _ _ _ _ h
   |ox r=>rw[hm]at h;exact À h.2.1
theorem ahm{T:gl}(h:k≠i):E.iU (fB tr i T) k=E.iU tr k:=by unfold fW.iU;grind [fK]
theorem ahn{k:Ï->gl}(a:tr i=.jL k)(b:¬(0<i/\i<F.L)):Ad (E.iU (fB tr i<|k w) i) (E.iU tr i):=by
 unfold fW.iU;split
 .rename_i e;subst e;rw[gD,a];exact Á ⟨U,Á ⟨U,w,U⟩⟩
 .split
  .grind
  .rw[gD,a];split
   .exact Á ⟨U,Á ⟨U,w,U⟩⟩
   .split<;>exact Á ⟨U,Á ⟨U,w,U⟩⟩
theorem PI.fg(H:gT F)(p:PI F m zX E S tr d lot gs w t){k:Ï->gl}(y:gs[i]?=Ã g)(o:tr i=.jL k): ∃gs' w' u e q,Ŏ F.P (ð gs w sl) i=(ğ<|ð gs' w' sl,u)/\gs'.size=gs.size/\PI F m zX E S e d q gs' w' (t++u)/\p9 F.N (E.mu e gs') (E.mu tr gs):=by
 have c:=(Ö.1 y).1;let⟨gs',w',W,X,D,z,⟨Y,G,I⟩,J,f,K⟩:=p.I.fg (sl:=sl) y o<|ahl H p c;have M:¬(0<i/\i<F.L):=λ⟨a,b⟩=>by rw[(p.l i a b).2.1]at o;cases o
 have C:=p.I.r;have B:∀j,j+2<=E.r->w'.heap[E.I j]?=w.heap[E.I j]?:=λj v=>ahh p.a p.C C c f v;have O:i<F.N:=by
  have:=p.b;have:E.r<=F.n+1:=by
   unfold fW.r;cases e:E.M with
   |go j=>have:=p.C.C j<|À e;simp only[fX.sp];omega
   |lO j=>have:=p.C.C j<|Á<|À e;simp only[fX.sp];omega
   |rd j=>have:=p.C.C j<|Á<|Á<|À e;simp only[fX.sp];omega
   |iG j=>have:=p.C.C j<|Á<|Á<|Á e;simp only[fX.sp];omega
   |_=>simp only[fX.sp];omega
  unfold Ph.N;omega
 refine⟨gs',w',_,_,_,D,z,⟨z.trans p.b,K,p.h,p.m,p.g,λx e h l=> ?_,λs h l=> ?_,?_,p.M.Lf H p.a (ahg (E:=E) C c f) (Lh p.C) (Ye p.a H.C C c f (À U) p.M.C) (λs q=>Ye p.a H.C C c f (Á ⟨s,q,U⟩)<|p.M.I s q) B,p.C,p.d.C<|ahi p.a p.C H.C C p.b c f,p.c.GI G (by rcases I with q|q<;>rw[q]<;>simp) J B,λj r h l q=>(p.f j r h l q).app _⟩,À ⟨i,O,ahn o M,λj _ v=>À<|ahm v⟩⟩
 .let⟨Q,T,V⟩:=p.k x e h l;grind [fK]
 .let⟨Q,T,V⟩:=p.l s h l;grind [fK]
 .have:=p.a.fg C c f;grind
end
end Go.Proofs.Y.fA
namespace Go.Proofs.Y.fA
open Go Go.Conc Go.Proofs.Y.Lift
open Go.ConcN (sumTo sumTo_congr)
def aho{J b:Jd}(c:∀l g,J l g->b l g):∀{T:gl} {l:fe} {g:Ä},lu P yQ J T l g->lu P yQ b T l g:=by
 intro T
 induction T with
 |fD=>exact λh a r=>c _ _<|h a r
 |jL k d=>
  intro l g h;refine⟨h.1,λa r=> ?_⟩;let⟨e,f,i,j,m,n,o⟩:=h.2 a r;exact⟨e,f,i,j,m,n,d a o⟩
section
variable{F:Ph}{E E':fW F}{S:Nat->Jd}{tr d:Nat->gl}{kp:Nat->iD}{c:Nat->fe}{gs gs':Array Ä}{u:ä}{sl:Option (Nat×Nat)}
theorem gM.kR{Y:Nat->Prop}(a:gM P n Y S tr kp c gs w qJ){J:Jd}(h:∀l g,S i l g->J l g):gM P n Y (fB S i J) tr kp c gs w qJ:=by
 refine⟨a.r,λk x b=> ?_,a.I⟩;let⟨g0,d,f⟩:=a.C k x b;by_cases e:k=i
 .subst e;rw[gD];exact⟨g0,aho h d,f⟩
 .grind [fK]
def Eo:E.iU tr 0=(E.M.rk F,0,tr 0):=by simp[fW.iU]
theorem Ll(ok:F.Ok){x:Nat}{e:iq}(a:E.N x=Ã e):E.iU tr (F.L+x)=((e.rk F).1,(e.rk F).2,tr<|F.L+x):=by have:=ok.r;unfold fW.iU;grind
theorem Yh(ok:F.Ok)(a:E.N 0=Í):E.iU tr F.L=(E.S.rk F,0,tr F.L):=by have:=ok.r;unfold fW.iU;grind
theorem u7(ok:F.Ok)(a:E.N (j+1)=Í):E.iU tr (F.L+1+j)=((E.C j).rk F,0,tr<|F.L+1+j):=by have:=ok.r;unfold fW.iU;grind
theorem Ae(a:k=0->E'.M.rk F=E.M.rk F)(b:0<k->k<F.L->E'.h k=E.h k)(c:F.L<=k->E'.N (k-F.L)=E.N (k-F.L))(e:k=F.L->E.N 0=Í->E'.S.rk F=E.S.rk F)(f:F.L<k->E.N (k-F.L)=Í->(E'.C<|k-F.L-1).rk F=(E.C<|k-F.L-1).rk F)(g:d k=tr k):E'.iU d k=E.iU tr k:=by unfold fW.iU;grind
def GX(a:i<F.N)(h:Ad (E'.iU d i) (E.iU tr i))(b:∀k,k≠i->E'.iU d k=E.iU tr k):p9 F.N (E'.mu d gs') (E.mu tr gs):= À ⟨i,a,h,λj _ c=>À<|b j c⟩
def Ep(a:Ps F E):E.r<=F.n+1:=by
 unfold fW.r;cases b:E.M with
 |go j=>have:=a.C j<|À b;simp only[fX.sp];omega
 |lO j=>have:=a.C j<|Á<|À b;simp only[fX.sp];omega
 |rd j=>have:=a.C j<|Á<|Á<|À b;simp only[fX.sp];omega
 |iG j=>have:=a.C j<|Á<|Á<|Á b;simp only[fX.sp];omega
 |_=>simp only[fX.sp];omega
def PI.G(p:PI F b zX E S tr kp c gs w qJ)(h:i<gs.size):i<F.N:=by have:=p.b;have:=Ep p.C;unfold Ph.N;omega
def gR(E:fW F)(j:Nat)(x:gP):fW F:={E with C:=fB E.C j x}
theorem jU(j:Nat)(x:gP):(gR E j x).C j=x:=gD _ _ _
theorem iX(x:gP)(h:i≠j):(gR E j x).C i=E.C i:=fK _ _ h
theorem Yi{x:gP}(h:∀k,x.gB F j k=(E.C j).gB F j k)(k:Nat):(Ñ F.n λi=>((gR E j x).C i).gB F i k)=Ñ F.n λi=>(E.C i).gB F i k:=by grind [jU,iX]
def Er(ok:F.Ok){x:gP}{T:gl}(b:F.L+1+j<F.N)(a:E.N (j+1)=Í)(h:x.rk F<(E.C j).rk F):p9 F.N ((gR E j x).mu (fB tr (F.L+1+j) T) gs') (E.mu tr gs):=by
 refine GX b (À ?_) λk c=>Ae (λ_=>rfl) (λ_ _=>rfl) (λ_=>rfl) (λ_ _=>rfl) (λd _=> ?_)<|fK tr _ c
 .rwa[u7 ok (E:=gR E j x) (show(gR E j x).N (j+1)=Í from a),u7 ok a,jU]
 .rw[iX x Z]
def Ps.G(h:Ps F E){x:gP}(m:j+2<=E.r)(d:E.N (j+1)=Í)(c:∀k,x.gB F j k=(E.C j).gB F j k)(f:∀r,((∃p,x=.fC r p)\/x=.gL r\/x=.ox r)->j+r*F.n<F.q) (g:∀r,(x=.fC r .gw\/x=.fC r .ly\/x=.gL r)->F.r (j+r*F.n)<=E.S.od) (i:∀r,x=.fC r .gw->∃a b,E.a (F.r<|j+r*F.n)=.gZ a b) (l:∀r,x=.fC r .wr->E.d (F.r<|j+r*F.n)=Ã j):Ps F (gR E j x) where
 v:=h.v;C:=h.C;K:=h.K;L:=h.L;J:=h.J;I:=h.I;z j' pB:=by have:E.r<j'+2:=pB;rw[iX x Z];exact h.z j' pB
 d j' r pB hx:=by
  by_cases e:j'=j
  .subst e;rw[jU]at hx;exact f r hx
  .rw[iX x e]at hx;exact h.d j' r pB hx
 l j' pB hx:=by
  have e:j'≠j:=λe=>by subst e;exact hx d
  rw[iX x e];exact h.l j' pB hx
 f:=h.f;h:=h.h;M:=h.M;o:=h.o;t:=h.t;g:=h.g;u:=h.u;N:=h.N;B:=h.B;e k h1 h2 h3:=by rw[Yi c];exact h.e k h1 h2 h3
 Y k h1 h2:=by rw[Yi c];exact h.Y k h1 h2
 w j' r pB hx:=by
  by_cases e:j'=j
  .subst e;rw[jU]at hx;exact g r hx
  .rw[iX x e]at hx;exact h.w j' r pB hx
 H j' r pB hx:=by
  by_cases e:j'=j
  .subst e;rw[jU]at hx;exact i r hx
  .rw[iX x e]at hx;exact h.H j' r pB hx
 O:=h.O;S:=h.S;y:=h.y;D j' r pB hx:=by
  by_cases e:j'=j
  .subst e;rw[jU]at hx;exact l r hx
  .rw[iX x e]at hx;exact h.D j' r pB hx
def wP(E:fW F)(j:Nat)(x:gP)(k:Nat)(G:GS)(a:Nat->Option Nat):fW F:={gR E j x with a:=fB E.a k G,d:=a}
theorem Ps.Yj(h:Ps F E){x:gP}{G:GS}{l:Nat->Option Nat}(Q:j+2<=E.r)(C:E.N (j+1)=Í)(D:∀c,c≠k->x.gB F j c=(E.C j).gB F j c) (H:1<=k->E.S.od<k->G=.cl 1 (Ñ F.n λi=>((fA.gR E j x).C i).gB F i k)) (I:k<=E.S.od->(∃W,(E.S=.dn k (.gw W)\/E.S=.dn k (.jg W))/\G=.jM W/\W=Ñ F.n λi=>((fA.gR E j x).C i).gB F i k)\/(∃r s,E.S=.dn k (.iE r)/\0<r/\G=.gZ r s/\r+s=Ñ F.n λi=>((fA.gR E j x).C i).gB F i k)\/((∀p,E.S≠ .dn k p)/\((G=.cl 0 0/\(Ñ F.n λi=>((fA.gR E j x).C i).gB F i k)=0)\/∃s,G=.gZ 0 s/\s=Ñ F.n λi=>((fA.gR E j x).C i).gB F i k))) (J:(∃a b,E.a k=.gZ a b)->∃a b,G=.gZ a b) (K:G=.cl 1 0->l k=Í) (L:∀c,c≠k->l c=E.d c) (S:∀y,E.d k=Ã y->l k=Ã y) (T:∀r,((∃p,x=.fC r p)\/x=.gL r\/x=.ox r)->j+r*F.n<F.q) (M:∀r,(x=.fC r .gw\/x=.fC r .ly\/x=.gL r)->F.r (j+r*F.n)<=E.S.od) (N:∀r,x=.fC r .gw->∃a b,fB E.a k G (F.r<|j+r*F.n)=.gZ a b) (O:∀r,x=.fC r .wr->l (F.r<|j+r*F.n)=Ã j):Ps F (wP E j x k G l):=by
 have z:∀c,c≠k->(Ñ F.n λi=>((wP E j x k G l).C i).gB F i c)=Ñ F.n λi=>(E.C i).gB F i c:=λc u=>by
  refine ł λi _=> ?_;by_cases e:i=j
  .subst e;show((fA.gR E i x).C i).gB F i c=_;rw[jU,D c u]
  .show((fA.gR E j x).C i).gB F i c=_;rw[iX x e]
 have v:∀c,c≠k->(wP E j x k G l).a c=E.a c:=λc u=>fK _ _ u;have gs:(wP E j x k G l).a k=G:=gD _ _ _;have w:(wP E j x k G l).C j=x:=jU _ _;have o:∀d,d≠j->(wP E j x k G l).C d=E.C d:=λd g=>iX x g;refine⟨h.v,h.C,h.K,h.L,h.J,h.I,λd g=> ?_,λd r g f=> ?_,λd g f=> ?_,h.f,h.h,h.M,h.o,h.t,h.g,h.u,h.N,h.B,λc t m B=> ?_,λc t m=> ?_,λd r g f=> ?_,λd r g f=> ?_,h.O,h.S,λc t m=> ?_,λd r g f=> ?_⟩
 .have:E.r<d+2:=g;rw[o d Z];exact h.z d g
 .by_cases e:d=j
  .simp_all
  .rw[o d e]at f;exact h.d d r g f
 .rw[o d (λe=>by subst e;exact f C)];exact h.l d g f
 .by_cases e:c=k
  .subst e;rw[gs];exact H t B
  .rw[v c e,z c e];exact h.e c t m B
 .by_cases e:c=k
  .subst e;rw[gs];exact I m
  .rw[v c e,z c e];exact h.Y c t m
 .by_cases e:d=j
  .subst e;rw[w]at f;exact M r f
  .rw[o d e]at f;exact h.w d r g f
 .by_cases e:d=j
  .subst e;rw[w]at f;exact N r f
  .rw[o d e]at f;have:=h.H d r g f;by_cases P:F.r (d+r*F.n)=k
   .rw[P]at this|-;rw[gs];exact J this
   .grind
 .by_cases e:c=k
  .subst e;rw[gs]at m;exact K m
  .rw[v c e]at m;show l c=Í;rw[L c e];exact h.y c t m
 .by_cases e:d=j
  .subst e;rw[w]at f;exact O r f
  .rw[o d e]at f;have:=h.D d r g f;show l _=Ã d;grind
theorem iN.r(h:iN F E c n w){x:gP}(i:x.ky=(E.C j).ky):iN F (gR E j x) c n w:=by
 have f:∀a,((fA.gR E j x).C a).ky=(E.C a).ky:=λa=>by grind [jU,iX]
 exact⟨h.gU,h.o,h.mb,h.e,h.f,λa b d r e g=>h.h a b d r e (by rwa[<-f]),h.l,h.S,h.M,h.c,h.I,h.N,h.g,λa b r d e=>h.d a b r d<|by rwa[<-f]⟩
theorem Wd.Y(h:Wd F E w){x:gP}(g:x.ky=(E.C j).ky)(i:x.iW=(E.C j).iW):Wd F (gR E j x) w:=by
 have c:∀a,((fA.gR E j x).C a).ky=(E.C a).ky:=λa=>by grind [jU,iX]
 have d:∀a,((fA.gR E j x).C a).iW=(E.C a).iW:=λa=>by grind [jU,iX]
 exact⟨h.C,h.I,λa b=>by rw[d];exact h.jO a b,h.M,h.S,λa b r e f=>h.N a b r e<|by rwa[<-c]⟩
structure ry(F:Ph)(E:fW F)(S:Nat->Jd)(tr:Nat->gl)(kp:Nat->iD):Prop where
 M:S 0=JM F E.I E.M/\kp 0=kM E.M
 Y:0<E.r->E.N 0=Í->S F.L=JI F E.c E.S/\kp F.L=.no
 I:∀j,j+2<=E.r->E.N (j+1)=Í->S (F.L+1+j)=JW F (E.I j) j (E.C j)/\kp (F.L+1+j)=kW F (E.I j) (E.C j)
 C:∀x e,x<E.r->E.N x=Ã e->S (F.L+x)=JE F e/\kp (F.L+x)=.no/\((∃N,e=.jz N)->tr (F.L+x)=.fD)
 r:∀i,0<i->i<F.L->S i=p8 F.P (E.h i)/\tr i=.fD/\kp i=.no
def PI.N(p:PI F b zX E S tr kp c gs w qJ):ry F E S tr kp:=⟨p.h,p.m,p.g,p.k,p.l⟩
def PI.r(a:ry F E S tr kp)(d:gs.size=F.L+E.r)(e:gM F.P F.S E.Y S tr kp c gs w qJ)(f:iN F E c gs.size w)(g:Wd F E w)(h:Ps F E)(i:TI F.toFx b zX E.r E.S.rl E.V E.e E.d E.iy E.f qJ)(k:fq F E gs w) (l:∀j r,j+2<=E.r->E.C j=.gL r->1<=F.r (j+r*F.n)->Λ qJ (F.L+1+j) (E.e<|F.r<|j+r*F.n)):PI F b zX E S tr kp c gs w qJ:=⟨d,e,a.M,a.Y,a.I,a.C,a.r,f,g,h,i,k,l⟩
def ry.N(h:ry F E S tr kp)(ok:F.Ok){x:gP}{T:gl}(k:j+2<=E.r)(f:E.N (j+1)=Í):ry F (gR E j x) (fB S (F.L+1+j)<|JW F (E.I j) j x) (fB tr (F.L+1+j) T) (fB kp (F.L+1+j)<|kW F (E.I j) x):=by
 have:=ok.r;refine⟨by rw[fK S _ Z,fK kp _ Z];exact h.M,λb a=>by rw[fK S _ Z,fK kp _ Z];exact h.Y b a,λd b a=> ?_,λy e b a=> ?_,λi b a=>by rw[fK S _ Z,fK kp _ Z,fK tr _ Z];exact h.r i b a⟩
 .by_cases e:d=j
  .subst e;rw[gD,gD,jU];exact⟨U,U⟩
  .rw[fK S _ Z,fK kp _ Z,iX x e];exact h.I d b a
 .have c:F.L+y≠F.L+1+j:=λe=>by
   have g:y=j+1:=Z
   subst g;have:E.N (j+1)=Ã _:=a;rw[f]at this;cases this
  rw[fK S _ c,fK kp _ c,fK tr _ c];exact h.C y e b a
end
def u9(F:Fx)(e:đ):Prop:=(∃(x:Č) (wr:Bool),F.G x/\e=⟨ú x,wr,Ì⟩)\/e.loc=ŭ õ\/e.loc=ŭ î
theorem GY{F:Fx}{e:đ}(h:u9 F e){b:Touch}(a:(Ë e).touch?=Ã b):∃x,F.G x/\b.loc=ú x/\b.kind=.atomic:=by
 let⟨d,wr,f⟩:=e;rcases h with⟨x,g,i,c⟩|h|h
 .injection c with e1 e2 e3;subst e1 e2 e3;have:(Ë ⟨ú x,wr,Ì⟩).touch?=Ã ⟨ú x,wr,.atomic⟩:=by cases wr<;>rfl
  grind
 .simp only at h;subst h;simp[Ë,Ċ]at a
 .simp only at h;subst h;simp[Ë,Ċ]at a
section
variable{F:Ph}{E E':fW F}{S:Nat->Jd}{tr l:Nat->gl}{f:Nat->iD}{c:Nat->fe}{gs gs':Array Ä}{u:ä}{m:Option (Nat×Nat)}
def Af(E:fW F)(i:Nat):Prop:=i=0\/∃x,x<E.r/\i=F.L+x
theorem gM.N{Y:Nat->Prop}(e:gM P n Y S tr f c gs w qJ)(h:gs[i]?=Ã g)(k:g.status=Å)(j:tr i=.fD)(a:f i=.no\/f i=.iE):∀b,fI (c i) (c i).w b->S i {c i with w:=b} g:=by
 let⟨g0,hF,d,_,_⟩:=e.C i g h;rw[j]at hF;have:g=g0:=by rcases a with a|a<;>rw[a]at d<;>cases d;all_goals grind
 subst this;exact hF
theorem Yk(b:TI F.toFx j zX E.r E.S.rl E.V E.e E.d E.iy E.f qJ)(c:Af E i)(d:n<j)(a:qJ.g? n=Ã 0):Λ qJ i n:=by
 rcases c with rfl|⟨x,e,rfl⟩
 .let⟨g,f,h⟩:=Ù.1 a;have:=knows_own f;grind
 .exact b.BN x e n d a
theorem ahp(f:∀c,¬Race c qJ)(g:TI F.toFx j zX E.r E.S.rl E.V E.e E.d E.iy E.f qJ)(v:Af E i){d:Array đ}{h:ī}{k:String}(l:∀e∈d,u9 F.toFx e):∀c,¬Race c (qJ++Û i h k d):=by refine Pn f oQ λw m b n=> ?_;obtain⟨e,o,rfl⟩:=Ø m;let⟨x,r,s,t⟩:=GY (l e o) n;refine Á (Á ⟨t,λp a u q y=> ?_⟩);rcases g.M p a x u (q.trans s) r with⟨y,z⟩|q|⟨q,_⟩;all_goals grind [Yk]
def ahq(L:iN F E c gs.size w)(ok:F.Ok)(C:ja F.S (λi=>i<gs.size) E.Y c w qJ)(f:∀e∈V,u9 F.toFx e):∀e∈V,(∀b,(Ë e).touch?=Ã b->GG (λi=>i<gs.size) E.Y c b)/\(Ë e).low w.heap.size:=by
 intro e g;refine⟨λb j=> ?_,?_⟩
 .let⟨x,a,d,_⟩:=GY (f e g) j;exact À ⟨x,d,yq a,λk h=>L.Y ok a k h⟩
 .rcases f e g with⟨x,wr,a,d⟩|h|h
  .subst d;have:=C.N _<|yq (E:=E) a;cases wr<;>exact this
  .let⟨k,wr,l⟩:=e;simp only at h;subst h;trivial
  .let⟨k,wr,l⟩:=e;simp only at h;subst h;trivial
def BQ(d:Nat)(a:Array đ):Prop:=∀(j:Nat) (e:đ),a[j]?=Ã e->(Ë e).touch?=Í\/((∃b wr,e=⟨ú b,wr,Ì⟩)/\0<Ð d (a.extract 0 j))
theorem ahr(L:iN F E c gs.size w)(s:Ps F E)(C:ja F.S (λi=>i<gs.size) E.Y c w qJ)(t:Af E i){f:Array đ}{n:ī}{o:String}(p:∀e∈f,u9 F.toFx e) (u:∀x,E.iy x->i=F.L+x->(∀e∈f,∀b,(Ë e).touch?=Ã b->∃y:Č,b.loc=ú y/\y.block=F.C)/\BQ (κ qJ i) f):Ld F.toFx E.r E.S.rl E.V E.d E.iy qJ (Û i n o f) i:=by
 refine⟨λg d _ _=>oQ g d,t.imp id À,λg d a x l _ _=> ?_,λg d a y l _ z k B m=> ?_,λg d b _ e=> ?_,λx G D=> ?_⟩
 .obtain⟨e,j,rfl⟩:=Ø d;grind [GY]
 .obtain⟨e,j,rfl⟩:=Ø d;let⟨x,r,h,_⟩:=GY (p e j) l;rw[z]at h;injection h with h;subst h;refine⟨λv=>(L.I k (Ô m<|Li s) _ v).2.1<|yq r,λe=> ?_⟩;obtain⟨b,_,q|q⟩:=r<;>(rw[q]at e;simp[fQ,gY,jk]at e)
 .obtain⟨r,j,rfl⟩:=Ø d;simp only at e;rcases p r j with⟨x,wr,_,rfl⟩|h|h
  .cases wr<;>simp[Ë]at e
  .let⟨q,wr,v⟩:=r;simp only at h;subst h;simp[Ë]at e
  .let⟨q,wr,v⟩:=r;simp only at h;subst h;simp[Ë]at e
 .by_cases e:F.L+x=i
  .let⟨B,m⟩:=u x D e.symm;subst e;refine⟨λr h=>h.appOwn n o f m,λ_ g d a l=> ?_⟩;obtain⟨e,j,rfl⟩:=Ø d;grind [GY]
  .exact⟨λr h=>h.appOther oQ<|ÿ e,λq=>absurd q e⟩
theorem Ag(a:F.M b):∀e∈#[kG<|fQ b],u9 F.toFx e:=by
 intro e c;have:e=kG (fQ b):=by simpa using c
 subst this;exact À ⟨_,É,(yp a).1,U⟩
def Yl(a:F.M b):∀e∈#[nk<|fQ b],u9 F.toFx e:=by
 intro e c;have:e=nk (fQ b):=by simpa using c
 subst this;exact À ⟨_,Ì,(yp a).1,U⟩
def BR(a:F.M b):∀e∈#[kG<|fQ b,nk<|fQ b],u9 F.toFx e:=by
 intro e c;simp at c;rcases c with rfl|rfl
 .exact À ⟨_,É,(yp a).1,U⟩
 .exact À ⟨_,Ì,(yp a).1,U⟩
def GZ(a:F.M b):∀e∈ö (gY b),u9 F.toFx e:=by
 intro e c;simp[ö]at c;rcases c with rfl|rfl|rfl|rfl
 .exact Á<|À U
 .exact À ⟨_,É,(yp a).2,U⟩
 .exact À ⟨_,Ì,(yp a).2,U⟩
 .exact Á<|Á U
def G0(d:Nat):Ð d #[kG a,nk a]=d/\Ð d #[kG a]=d/\Ð d #[nk a]=d/\Ð d (ö a)=d:=by refine⟨U,U,U,?_⟩;simp[Ð,ö]
def Lm:BQ 1 #[kG a,nk a]/\BQ 1 #[kG a]/\BQ 1 #[nk a]/\BQ 1 (ö a):=by
 refine⟨λj e b=> ?_,λj e b=> ?_,λj e b=> ?_,λj e b=> ?_⟩
 .match j,b with
  |0,b=>obtain rfl:=È b;exact Á ⟨⟨a,É,U⟩,by simp[Ð]⟩
  |1,b=>obtain rfl:=È b;exact Á ⟨⟨a,Ì,U⟩,by simp[Ð,kG]⟩
  |j+2,b=>simp at b
 .match j,b with
  |0,b=>obtain rfl:=È b;exact Á ⟨⟨a,É,U⟩,by simp[Ð]⟩
  |j+1,b=>simp at b
 .match j,b with
  |0,b=>obtain rfl:=È b;exact Á ⟨⟨a,Ì,U⟩,by simp[Ð]⟩
  |j+1,b=>simp at b
 .match j,b with
  |0,b=>obtain rfl:=È b;exact À U
  |1,b=>obtain rfl:=È b;exact Á ⟨⟨a,É,U⟩,by simp[Ð,ö]⟩
  |2,b=>obtain rfl:=È b;exact Á ⟨⟨a,Ì,U⟩,by simp[Ð,ö]⟩
  |3,b=>obtain rfl:=È b;exact À U
  |j+4,b=>simp[ö]at b
def ahs(ok:F.Ok)(g:F.G a)(v:ã):GU F E c gs.size w (w.setCell a v):=by
 refine⟨Õ kg.symm,λb _ f _=>lF λe=>f<|e▸(yq (E:=E) g),λd i _=>z8 ?_,PH,U,U⟩;let⟨b,f,h⟩:=g;rcases i with⟨k,_,rfl⟩|⟨p,rfl⟩
 .right;rcases h with rfl|rfl<;>simp[fQ,gY,jk]
 .left;rcases h with rfl|rfl<;>exact λe=>ok.C (by have j:b=F.Y:=e;rwa[<-j])
def aht(L:iN F E c gs.size w)(ok:F.Ok)(d:F.G a)(v:ã):qD (λi=>i<gs.size) E.Y c w (w.setCell a v):= ag4 (yq d) (by obtain⟨b,_,rfl|rfl⟩:=d<;>rfl) (λk i=>L.Y ok d k i) λk i b e=>L.ahf k i b e
def ahu(c:Ps F E)(d:F.G a)(v:ã)(f:j+2<=E.r):(w.setCell a v).heap[E.I j]?=w.heap[E.I j]?:= lF λe=>(c.o j f).1 (by obtain⟨b,g,rfl|rfl⟩:=d<;>(rwa[e]))
def ahv(h:a=fQ b\/a=gY b):a.block=b:=by rcases h with rfl|rfl<;>rfl
theorem iN.C(L:iN F E c n w){d:Nat}{w0:Ï}(y:w.heap.size<=W.heap.size):iN F E (gi c i {c i with d:=d,w:=w0}) n W:=by
 have e:∀k,(gi c i {c i with d:=d,w:=w0} k).O=(c k).O/\(gi c i {c i with d:=d,w:=w0} k).I=(c k).I/\(gi c i {c i with d:=d,w:=w0} k).r=(c k).r/\(gi c i {c i with d:=d,w:=w0} k).N=(c k).N/\(gi c i {c i with d:=d,w:=w0} k).q=(c k).q:=λk=>by grind [gV,gI]
 have t:∀k,c k=kI (c k)->gi c i {c i with d:=d,w:=w0} k=kI (gi c i {c i with d:=d,w:=w0} k):=λk f=>by
  by_cases h:k=i
  .subst h;rw[gV];have a:(c k).O=λ_=>False:=by rw[f];rfl
   have b:(c k).I=λ_=>False:=by rw[f];rfl
   have g:(c k).r=λ_=>False:=by rw[f];rfl
   have j:(c k).N=λ_=>False:=by rw[f];rfl
   have l:(c k).q=True:=by rw[f];rfl
   simp only[kI,a,b,g,j,l]
  .grind [gI]
 refine⟨λk f a o=>L.gU k f a (by unfold fe.C at o|-;rwa[(e k).2.2.1,(e k).2.2.2.1]at o),λx g m a o=>by rw[(e 0).2.2.1];exact L.o x g m a o,λh=>by rw[(e 0).2.2.2.1,(e 0).2.1];exact L.mb h,λh k g m=>by rw[(e _).2.2.1];exact L.e h k g m,λh p=>by rw[(e _).2.2.2.1,(e _).2.1];exact L.f h p,λj l p r s g=>by rw[(e _).2.2.1];exact L.h j l p r s g,λj l p=>by rw[(e _).2.2.2.1,(e _).2.1];exact L.l j l p,λx u=>t _<|L.S x u,λk f=>by rw[(e k).2.2.2.2];exact L.M k f,λk g m=>t _<|L.c k g m,λk f b v=> ?_,λk f j l=>by rw[(e j).2.2.1];exact L.N k f j l,λk g m j l=>by rw[(e j).2.2.1];exact L.g k g m j l,λj l r s g k f=>by rw[(e k).2.2.1];exact L.d j l r s g k f⟩;let⟨z,B,D⟩:=L.I k f b v;grind
end
section
variable{F:Ph}{E E':fW F}{S:Nat->Jd}{tr c:Nat->gl}{a:Nat->iD}{lot:Nat->fe}{gs gs':Array Ä}{w':Ï}{t u:ä}{sl:Option (Nat×Nat)}{sz:Nat}
def kJ(b:Nat)(w w':Ï):Prop:=w'=w\/∃x v,(x=fQ b\/x=gY b)/\w'=w.setCell x v
def kJ.wO(h:kJ b w w'):w'.heap.size=w.heap.size:=by rcases h with rfl|⟨x,v,_,rfl⟩;all_goals simp_all
def kJ.Lf(h:kJ b w w')(ok:F.Ok)(a:F.M b):GU F E lot gs.size w w':=by
 rcases h with rfl|⟨x,v,c,rfl⟩
 .exact⟨Ç _,λ_ _ _ _=>rfl,λ_ _ _=>rfl,U,U,U⟩
 .exact ahs ok ⟨b,a,c⟩ v
def kJ.r(h:kJ b w w')(L:iN F E lot gs.size w)(ok:F.Ok)(a:F.M b):qD (λi=>i<gs.size) E.Y lot w w':=by
 rcases h with rfl|⟨x,v,i,rfl⟩
 .exact qD.fV _ _ _ _
 .exact aht L ok ⟨b,a,i⟩ v
def kJ.C(h:kJ b w w')(a:Ps F E)(c:F.M b)(d:j+2<=E.r):w'.heap[E.I j]?=w.heap[E.I j]?:=by
 rcases h with rfl|⟨x,v,e,rfl⟩
 .rfl
 .exact ahu a ⟨b,c,e⟩ v d
def kJ.M(h:kJ b w w')(c:i≠b){G:GS}(a:ik w i G):ik w' i G:=by
 rcases h with rfl|⟨x,v,d,rfl⟩
 .exact a
 .exact a.iU<|by rw[ahv d];exact ÿ c
def kJ.I(h:kJ b w w')(H:gT F)(L:iN F E lot gs.size w)(c:Ps F E)(W:Wd F E w)(d:F.M b){Ga:GS}{Gg:Nat->GS}(f:(b=F.C->ik w' F.C Ga)/\(b≠F.C->Ga=E.b))(g:∀k,k<=F.m->(b=F.I k->ik w' (F.I k) (Gg k))/\(b≠F.I k->Gg k=E.a k)):Wd F {E with b:=Ga,a:=Gg} w':=by
 refine W.Lf H L (h.Lf H.C d) (Lh c) ?_ (λk a=> ?_) λj e=>h.C c d e
 .by_cases e:b=F.C
  .exact f.1 e
  .rw[f.2 e];exact h.M (ÿ e) W.C
 .by_cases e:b=F.I k
  .exact(g k a).1 e
  .rw[(g k a).2 e];exact h.M (ÿ e)<|W.I k a
def PI.Y(H:gT F)(p:PI F n zX E S tr a lot gs w t){c:Ä}{f:Array đ}{J:Jd}{T:gl}(K:iD)(q:gs[i]?=Ã g)(j:Af E i)(r:F.M b)(s:è F.P (i==0) g w=Š c w' f)(l:kJ b w w')(h:∀e∈f,u9 F.toFx e)(m:Ð (lot i).d f=(lot i).d) (v:∀x,E.iy x->i=F.L+x->(∀e∈f,∀b,(Ë e).touch?=Ã b->∃y:Č,b.loc=ú y/\y.block=F.C)/\BQ (κ t i) f) (hF:lu F.P (i==0) J T {lot i with w:=w'} c) (z:c.status=Å\/c.status=å): ∃gs' u,Ŏ F.P (ð gs w sl) i=(ğ<|ð gs' w' sl,u)/\gs'.size=gs.size/\gs'[i]?=Ã c/\(∀k,k≠i->gs'[k]?=gs[k]?.map (Ā F.P g c w'))/\ gM F.P F.S E.Y (fB S i J) (fB tr i T) (fB a i K) (gi lot i {lot i with w:=w'}) gs' w' (t++u)/\TI F.toFx n zX E.r E.S.rl E.V E.e E.d E.iy E.f (t++u)/\iN F E (gi lot i {lot i with w:=w'}) gs'.size w':=by have C:=p.I.r;obtain⟨gs',B,k,D,G,o⟩:=p.I.rp q s (l.r p.a H.C r) (by rwa[m]) z (ahq p.a H.C C h)<|ahp C.l p.d j h;rw[m]at o;refine⟨gs',_,B,k,D,G,o,p.d.C<|ahr p.a p.C C j h v,?_⟩;rw[k];exact p.a.C<|Õ l.wO.symm
theorem fq.rp(B:fq F E gs w){a:Ä}(p:gs'[i]?=Ã a)(q:a.status≠Ü)(d:∀k,k≠i->gs'[k]?=gs[k]?.map (Ā F.P g a w'))(t:∀j,j+2<=E.r->w'.heap[E.I j]?=w.heap[E.I j]?) (u:E'.r=E.r) (v:E'.I=E.I) (z:∀x,F.L+x≠i->E'.N x=E.N x) (C:i≠0->E'.M=E.M) (D:∀j,F.L+1+j≠i->E'.C j=E.C j) (G:i≠0->E.M=.fC .kH->E.b.sm=0->E'.b.sm=0\/∀x,gs'[0]?=Ã x->x.status≠Ü) (H:∀j r,F.L+1+j≠i->E.C j=.fC r .kH->(E.a<|F.r<|j+r*F.n).sm=0->(E'.a<|F.r<|j+r*F.n).sm=0\/∀x,gs'[F.L+1+j]?=Ã x->x.status≠Ü):fq F E' gs' w':=by
 intro k x b f;by_cases e:k=i
 .grind
 .have I:=b;rw[d k e]at b;obtain⟨y,h,rfl⟩:=Ù.1 b;let⟨_,l⟩:=GV f;rcases B k y h l with⟨J,m,c⟩|⟨j,K,M,m,⟨r,c,o⟩|⟨r,N,s,O,c,o⟩⟩;all_goals grind
def Es(a:j+2<=E.r):Af E (F.L+1+j):=Á ⟨j+1,Z,Z⟩
def Ln(b:E.N (j+1)=Í):∀x,E.iy x->F.L+1+j=F.L+x->False:=λx ⟨e,a,_⟩ h2=>by
 have:x=j+1:=Z
 subst this;rw[b]at a;cases a
def G1(ok:F.Ok)(h:i<F.q):F.M (F.I<|F.r i):=Á ⟨F.r i,ok.I i h,U⟩
def iY(a:gs[i]?=Ã g):i<gs.size:=(Ö.1 a).1
end
theorem yr{f f':Nat->Nat}:∀{n:Nat},j<n->(∀i,i≠j->f' i=f i)->Ñ n f'+f j=Ñ n f+f' j
 |n+1,h,hf=>by
  simp only[Ñ];rcases ģ j n with gE|a
  .have:=yr (n:=n) gE hf;rw[hf n Z];omega
  .obtain rfl:j=n:=Z
   rw[ł λi b=>hf i Z];omega
def G2{f:Nat->Nat}:∀{n:Nat},(∀i,f i<=1)->Ñ n f<=n
 |0,_=>Ç _
 |n+1,h=>by simp only[Ñ];have:=G2 (n:=n) h;have:=h n;omega
def PY{f:Nat->Nat}:∀{n:Nat},j<n->f j<=Ñ n f
 |n+1,h=>by
  simp only[Ñ];rcases ģ j n with gE|a
  .have:=PY (f:=f) (n:=n) gE;omega
  .obtain rfl:j=n:=Z
   omega
def G3{f:Nat->Nat}:∀n:Nat,(Ñ n λi=>f i+D i)=Ñ n f+Ñ n D
 |0=>rfl
 |n+1=>by simp only[Ñ];rw[G3 n];omega
def PZ{f:Nat->Nat}(c:Nat):∀n:Nat,(Ñ n λi=>c*f i)=c*Ñ n f
 |0=>by simp[Ñ]
 |n+1=>by simp only[Ñ];rw[PZ c n,Ń]
section
variable{F:Ph}{E E':fW F}{S:Nat->Jd}{tr z:Nat->gl}{C:Nat->iD}{o:Nat->fe}{gs gs':Array Ä}{u:ä}{sl:Option (Nat×Nat)}
def km(F:Ph)(b:Nat)(zX:π->Prop)(E:fW F)(tr:Nat->gl)(gs:Array Ä)(w:Ï)(qJ:ä)(sl:Option (Nat×Nat))(i:Nat):Prop:=
 ∃(E':fW F) (a:Nat->Jd) (z:Nat->gl) (c:Nat->iD) (d:Nat->fe) (gs':Array Ä) (W:Ï) (u:ä),Ŏ F.P (ð gs w sl) i=(ğ<|ð gs' W sl,u)/\gs'.size=gs.size/\(E'.M=.fZ->E.M=.fZ)/\PI F b zX E' a z c d gs' W (qJ++u)/\p9 F.N (E'.mu z gs') (E.mu tr gs)
def sx(F:Ph)(b:Nat)(zX:π->Prop)(E:fW F)(tr:Nat->gl)(gs:Array Ä)(w:Ï)(qJ:ä):Prop:=
 ∃(E':fW F) (a:Nat->Jd) (z:Nat->gl) (c:Nat->iD) (d:Nat->fe),(E'.M=.fZ->E.M=.fZ)/\PI F b zX E' a z c d gs w qJ/\p9 F.N (E'.mu z gs) (E.mu tr gs)
def ahw(i:Nat):gO gs i<=1:=by unfold gO;split<;>omega
theorem Ym(a:∀k,k<F.N->E'.iU z k=E.iU tr k)(b:i<F.N)(e:E'.lG i<E.lG i)(c:∀k,k≠i->E'.lG k=E.lG k):p9 F.N (E'.mu z gs') (E.mu tr gs):=by
 refine Á ⟨a,?_⟩;show(Ñ F.N λi=>(F.N+1)*E'.lG i+gO gs' i)<Ñ F.N λi=>(F.N+1)*E.lG i+gO gs i;rw[G3,G3,PZ,PZ];have g:=yr b c;have h:=G2 (f:=gO gs') (n:=F.N) ahw;have d:Ñ F.N E'.lG+1<=Ñ F.N E.lG:=Z
 have j:(F.N+1)*(Ñ F.N E'.lG+1)<=(F.N+1)*Ñ F.N E.lG:=ï _ d;grind
theorem P0(a:∀k,k<F.N->E.iU z k=E.iU tr k)(b:i<F.N)(c:gO gs i=1)(d:gO gs' i=0)(e:∀k,k≠i->gO gs' k=gO gs k):p9 F.N (E.mu z gs') (E.mu tr gs):=by refine Á ⟨a,?_⟩;show(Ñ F.N λi=>(F.N+1)*E.lG i+gO gs' i)<Ñ F.N λi=>(F.N+1)*E.lG i+gO gs i;rw[G3,G3];grind [yr]
theorem Yn(ok:F.Ok)(j:Nat):E.lG (F.L+1+j)=match E.C j with|.fC r p=>p.lG F.B (E.a<|F.r<|j+r*F.n).st|_=>0:=by have:=ok.r;unfold fW.lG;grind
def ahx{x:gP}(a:k≠F.L+1+j):(gR E j x).lG k=E.lG k:=by
 unfold fW.lG;split
 .rfl
 .split
  .rfl
  .rw[iX x Z];rfl
def ahy(ok:F.Ok){r:Nat}{p a:SP}{T:gl}(d:F.L+1+j<F.N)(b:E.N (j+1)=Í)(c:E.C j=.fC r (.mr p))(f:tr (F.L+1+j)=.fD)(g:T=.fD)(h:a.rk F.B (E.a<|F.r<|j+r*F.n).st<p.rk F.B (E.a<|F.r<|j+r*F.n).st): p9 F.N ((gR E j<|.fC r (.mr a)).mu (fB tr (F.L+1+j) T) gs') (E.mu tr gs):=by
 refine Ym (λk _=> ?_) d ?_ λk e=>ahx e
 .by_cases e:k=F.L+1+j
  .subst e;rw[u7 ok (E:=gR E j _) (show(gR E j _).N (j+1)=Í from b),u7 ok b,jU,gD,c,f,g];rfl
  .refine Ae (λ_=>rfl) (λ_ _=>rfl) (λ_=>rfl) (λ_ _=>rfl) (λi _=> ?_)<|fK tr _ e;rw[iX _ Z]
 .rwa[Yn ok,Yn ok,jU,c]
def PI.Et(H:gT F)(p:PI F b zX E S tr C o gs w qJ){v:jA}(d:j+2<=E.r)(e:E.N (j+1)=Í)(f:gs[F.L+1+j]?=Ã g)(h:g.status=Å)(k:tr (F.L+1+j)=.fD)(l:E.C j=.fC i v): ∀w₁,fI (o<|F.L+1+j) (o<|F.L+1+j).w w₁->rv F.P É F.B (F.I<|F.r<|j+i*F.n) (F.e (E.I j)<|j+i*F.n) v {o (F.L+1+j)with w:=w₁} g:=by
 let⟨a,c⟩:=p.g j d e;rw[l]at a c;have m:C (F.L+1+j)=.no\/C (F.L+1+j)=.iE:=by rw[c];cases v<;>first|exact À U|exact Á U
 intro w₁ i;have:=p.I.N f h k m w₁ i;rwa[a]at this
def Ah(ok:F.Ok)(j:Nat):(F.L+1+j==0)=É:=by have:=ok.r;simp
theorem PI.P1(H:gT F)(p:PI F b zX E S tr C o gs w qJ){x:gP}{l:fe}{T:gl}(u:j+2<=E.r)(m:E.N (j+1)=Í)(n:gs[F.L+1+j]?=Ã g)(v:g.status=Å\/g.status=å) (z:ja F.S (λi=>i<gs.size) E.Y (gi o (F.L+1+j) l) w qJ) (hF:lu F.P É (JW F (E.I j) j x) T l g) (B:iN F (gR E j x) (gi o (F.L+1+j) l) gs.size w) (D:Wd F (gR E j x) w) (G:Ps F (gR E j x)) (I:x.rk F<(E.C j).rk F) (V:∀r,x≠ .gL r):sx F b zX E tr gs w qJ:=by
 refine⟨gR E j x,_,_,_,_,λh=>h,.r (p.N.N H.C u m) p.b (p.I.M (K:=kW F (E.I j) x) n v z<|by rwa[Ah H.C]) B D G p.d (λk y J M=> ?_) λa r f c d=> ?_,Er H.C (p.G<|iY n) m I⟩
 .by_cases e:k=F.L+1+j
  .grind
  .rcases p.c k y J M with f|⟨a,q,t,c,d|⟨r,N,s,O,d,Q⟩⟩
   .exact À f
   .exact Á ⟨a,q,t,c,À<|by rwa[iX x Z]⟩
   .exact Á ⟨a,q,t,c,Á ⟨r,N,s,O,by rwa[iX x Z],Q⟩⟩
 .by_cases e:a=j
  .grind [jU]
  .rw[iX x e]at c;exact p.f a r f c d
theorem PI.ahz(H:gT F)(p:PI F b zX E S tr C o gs w qJ){r:Nat}(e:j+2<=E.r)(l:E.N (j+1)=Í)(m:gs[F.L+1+j]?=Ã g)(n:g.status=Å)(s:tr (F.L+1+j)=.fD)(c:E.C j=.fC r .jc):sx F b zX E tr gs w qJ:=by
 have f:=iY m;let⟨k,y,t,u⟩:=(p.Et H e l m n s c) w<|p.I.r.r _ f;have v:ja F.S (λi=>i<gs.size) E.Y (gi o (F.L+1+j) {o (F.L+1+j)with w:=w}) w qJ:=p.I.r.C f (λ_ q=>q) (λa q=>À<|Á q) (λ_ q=>q) (λa q=>À<|Á q) U U U (p.I.r.m _ f)<|p.I.r.g _ f;refine p.P1 H (x:=.fC r (.mr (.gX k))) (T:=.fD) e l m (À n) v (λh a=>⟨t,K2 u a⟩) ?_ (p.M.Y (by rw[c];rfl)<|by rw[c];rfl) (p.C.G e l (λk=>by rw[c];rfl) (λa h=> ?_) (λa h=> ?_) (λa h=>by cases h) λa h=>by cases h) (by rw[c];simp only[gP.rk,jA.rk];omega) λa h=>by cases h
 .have:=(p.a.r (x:=.fC r (.mr (.gX k)))<|by rw[c];rfl).C (i:=F.L+1+j) (d:=(o<|F.L+1+j).d) (w0:=w)<|Ç _;exact this
 .rcases h with⟨_,h⟩|h|h<;>cases h;exact p.C.d j r e<|À ⟨_,c⟩
 .grind
def Yo{y z:Int->Jd}{p:SP}{l:fe}{G:GS}(h:Ej P yQ (fQ b) i y z p l g)(j:ik w b G):g.status=Å/\ ((∃f a e,è P yQ g w=Š a w e/\(e=#[]\/e=#[kG<|fQ b])/\Ej P yQ (fQ b) i y z f l a/\f.rk i G.st<p.rk i G.st)\/ (∃a,è P yQ g w=Š a w #[kG<|fQ b]/\(∀c q,G=.cl c q->c=0)/\fi P yQ (y G.st) l a)\/ (∃a c q,G=.cl c q/\0<c/\è P yQ g w=Š a (w.setCell (fQ b)<|ë Ó<|Ó.wrap<|G.st+1) #[kG<|fQ b,nk<|fQ b]/\fi P yQ (z G.st) l a)):=by
 let⟨T,C,x⟩:=h;let⟨J,d⟩:=x p g C;refine⟨J,?_⟩;have D:∀u,T u g->(∀n,u≠ .gX (n+1))->(∀v n,u≠ .ld v (n+1))->u.rk i G.st<=p.rk i G.st->((∃f a e,è P yQ g w=Š a w e/\(e=#[]\/e=#[kG<|fQ b])/\Ej P yQ (fQ b) i y z f l a/\f.rk i G.st<p.rk i G.st)\/ (∃a,è P yQ g w=Š a w #[kG<|fQ b]/\(∀c q,G=.cl c q->c=0)/\fi P yQ (y G.st) l a)\/ (∃a c q,G=.cl c q/\0<c/\è P yQ g w=Š a (w.setCell (fQ b)<|ë Ó<|Ó.wrap<|G.st+1) #[kG<|fQ b,nk<|fQ b]/\fi P yQ (z G.st) l a)):=by
  intro u C K L F;have d:=(x u g C).2;match u,d with
  |.gX (n+1),_=>exact absurd U<|K n
  |.ld v (n+1),_=>exact absurd U<|L v n
  |.gX 0,d=>
   let⟨a,o,k⟩:=d G.st;by_cases f:0<=G.st/\G.st<fY
   .rw[if_pos f]at k;have e:G.st<1000000:=by
     have t:=j.r;cases G with
     |cl c q=>
      let⟨H,I,m⟩:=t;simp only[GS.st,fY]at f|-;have:c=0:=Z
      have:=m this;omega
     |jM q=>simp only[GS.ok]at t;simp only[GS.st];omega
     |gZ r s=>simp only[GS.st];omega
    exact Á<|À ⟨a,o w j.C,j.ag8.1 f,k e⟩
   .rw[if_neg f]at k;have e:fY<=G.st/\G.st<fY*2147483648/\G.st%fY<1000000:=by
     have t:=j.r;cases G with
     |cl c q=>
      let⟨H,I,_⟩:=t;simp only[GS.st,fY]at f|-;omega
     |jM q=>simp only[GS.ok]at t;simp only[GS.st,fY]at f;omega
     |gZ r s=>simp only[GS.st,fY]at f;omega
    let⟨m,M,E⟩:=k e;exact À ⟨.ld G.st m,a,_,o w j.C,Á U,⟨T,E,x⟩,Ê (by simp only[SP.rk,if_true];omega) F⟩
  |.ld v 0,⟨f,⟨a,o,k⟩,g'',E,n,hn,h4⟩=>
   by_cases e:G.st=v
   .subst e;have:∃c q,G=.cl c q/\0<c:=by
     have t:=j.r;cases G with
     |cl c q=>
      refine⟨c,q,U,?_⟩;let⟨H,I,_⟩:=t;simp only[GS.st,fY]at f;omega
     |jM q=>simp only[GS.ok]at t;simp only[GS.st,fY]at f;omega
     |gZ r s=>simp only[GS.st,fY]at f;omega
    let⟨c,q,r,s⟩:=this;exact Á<|Á ⟨a,c,q,r,s,o w j.C j.I,k⟩
   .exact À ⟨.gX n,g'',_,E w G.st e j.C j.I,Á U,⟨T,h4,x⟩,Ê (by simp only[SP.rk,if_neg e];omega) F⟩
 match p,d with
 |.gX (n+1),⟨hn,d⟩=>
  rcases d with d|d
  .exact D (.gX 0) d (λn q=>by cases q) (λv n q=>by cases q)<|by simp only[SP.rk];omega
  .let⟨a,o,k⟩:=d w;exact À ⟨.gX n,a,#[],o,À U,⟨T,k,x⟩,by simp only[SP.rk];omega⟩
 |.gX 0,_=>exact D (.gX 0) C (λn q=>by cases q) (λv n q=>by cases q)<|Ç _
 |.ld v (m+1),⟨_,M,d⟩=>
  rcases d with d|d
  .exact D (.ld v 0) d (λn q=>by cases q) (λv n q=>by cases q)<|by simp only[SP.rk];split<;>omega
  .let⟨a,o,k⟩:=d w;exact À ⟨.ld v m,a,#[],o,À U,⟨T,k,x⟩,by simp only[SP.rk];split<;>omega⟩
 |.ld v 0,_=>exact D (.ld v 0) C (λn q=>by cases q) (λv n q=>by cases q)<|Ç _
def PI.ahA(H:gT F)(p:PI F b zX E S tr C o gs w qJ){r:Nat}{v:SP}(G:j+2<=E.r)(s:E.N (j+1)=Í)(hi:gs[F.L+1+j]?=Ã g)(iJ:g.status=Å)(ht:tr (F.L+1+j)=.fD)(m:E.C j=.fC r (.mr v)):km F b zX E tr gs w qJ sl (F.L+1+j):=by
 have gE:=iY hi;have qF:=p.C.d j r G<|À ⟨_,m⟩;have N:=G1 H.C qF;have X:=H.C.I _ qF;have hG:=p.M.I _ X;obtain⟨hd,pz⟩:=(p.Et H G s hi iJ ht m) w<|p.I.r.r _ gE;have wR:j<F.n:=by have:=Ep p.C;omega
 have ns:=Ln (E:=E) s;have mw:=Ah H.C j;have yt:=p.G gE;obtain⟨_,pz⟩:=Yo pz hG;rcases pz with⟨p',g',es,h1,I,h3,h4⟩|⟨g',h1,I,h3⟩|⟨g',c,K,Q,va,h1,I⟩
 .have hes:∀e∈es,u9 F.toFx e:=by
   rcases I with rfl|rfl
   .intro e s;simp at s
   .exact Ag N
  obtain⟨T',P3,BS⟩:=h3;obtain⟨gs',u,q1,V,q3,q4,q5,q6,q7⟩:=p.Y (J:=JW F (E.I j) j<|.fC r (.mr p')) (T:=.fD) H (kW F (E.I j)<|.fC r (.mr p')) hi (Es G) N (by rwa[mw]) (À U) hes (by rcases I with rfl|rfl<;>rfl) (λx hs e=>(ns x hs e).elim) (by rw[mw];exact λw₁ kT=>⟨hd,K2 ⟨T',P3,BS⟩ kT⟩)<|À (BS _ _ P3).1;refine⟨gR E j<|.fC r (.mr p'),_,_,_,_,gs',w,u,q1,V,λh=>h,.r (p.N.N H.C G s) (V.trans p.b) q5 (q7.r<|by rw[m];rfl) (p.M.Y (by rw[m];rfl)<|by rw[m];rfl) (p.C.G G s (λk=>by rw[m];rfl) (λf h=> ?_) (λf h=> ?_) (λf h=>by cases h) λf h=>by cases h) q6 (p.c.rp (E':=gR E j _) q3 (by rw[(BS _ _ P3).1];simp) q4 (λ_ _=>rfl) U U (λ_ _=>rfl) (λ_=>rfl) (λt e=>iX _ Z) (λ_ _ h=>À h) λ_ _ _ _ h=>À h) λt f O z Y=> ?_,ahy H.C yt s m ht U h4⟩
  .rcases h with⟨_,h⟩|h|h<;>cases h;exact qF
  .rcases h with h|h|h<;>cases h
  .rw[iX _ (λe=>by subst e;rw[jU]at z;cases z)]at z;exact(p.f t f O z Y).app u
 .obtain⟨T,hT⟩:=jq h3;have mq:=lP (λl g h=>À h.2.1) h3;obtain⟨gs',u,q1,V,q3,q4,q5,q6,q7⟩:=p.Y H (kW F (E.I j)<|.fC r .ly) hi (Es G) N (by rwa[mw]) (À U) (Ag N) U (λx hs e=>(ns x hs e).elim) (by rwa[mw]) mq;refine⟨gR E j<|.fC r .ly,_,_,_,_,gs',w,u,q1,V,λh=>h,.r (p.N.N H.C G s) (V.trans p.b) q5 (q7.r<|by rw[m];rfl) (p.M.Y (by rw[m];rfl)<|by rw[m];rfl) (p.C.G G s (λk=>by rw[m];rfl) (λf h=> ?_) (λf h=> ?_) (λf h=>by cases h) λf h=>by cases h) q6 (p.c.rp (E':=gR E j _) q3 (by rcases mq with q|q<;>rw[q]<;>simp) q4 (λ_ _=>rfl) U U (λ_ _=>rfl) (λ_=>rfl) (λt e=>iX _ Z) (λ_ _ h=>À h) λ_ _ _ _ h=>À h) λt f O z Y=> ?_,Er H.C yt s<|by rw[m];simp only[gP.rk,jA.rk];omega⟩
  .rcases h with⟨_,h⟩|h|h<;>cases h;exact qF
  .have:f=r:=by rcases h with h|h|h<;>cases h;rfl
   subst this;refine ă λBU=> ?_;have:=I _ _<|p.C.e _ Z X BU;omega
  .rw[iX _ (λe=>by subst e;rw[jU]at z;cases z)]at z;exact(p.f t f O z Y).app u
 .have Lp:E.S.od<F.r (j+r*F.n):=by
   refine ñ λhle=> ?_;rcases p.C.Y _ X hle with⟨W,_,q,_⟩|⟨_,_,_,_,q,_⟩|⟨_,⟨q,_⟩|⟨_,q,_⟩⟩<;>(rw[Q]at q;cases q);omega
  have BV:=p.C.e _ Z X Lp;have e0:=Q.symm.trans BV;injection e0 with e1 e2;subst e1;have Yp:K<=F.n:=by rw[e2];exact G2 λi=>by cases E.C i<;>simp only[gP.gB]<;>first|omega|(split<;>first|omega|(rename_i q _;cases q<;>simp[jA.tT]))
  have vd:=H.C.oz;have G4:=(Q▸hG:ik w (F.I<|F.r<|j+r*F.n) (.cl 1 K)).X8 Z Z;obtain⟨hv,G4⟩:=G4;obtain⟨x,Eu,Ev,Yq,Lq,hx4⟩:∃(x:jA) (Eu:Nat->Option Nat),(x=.wr\/x=.kH)/\fi F.P É (rv F.P É F.B (F.I<|F.r<|j+r*F.n) (F.e (E.I j)<|j+r*F.n) x) {o (F.L+1+j)with w:=w} g'/\((∀M,M≠F.r (j+r*F.n)->Eu M=E.d M)/\∀y,E.d (F.r<|j+r*F.n)=Ã y->Eu (F.r<|j+r*F.n)=Ã y)/\(x=.wr->Eu (F.r<|j+r*F.n)=Ã j):=by
   by_cases hz:K=0
   .subst hz;refine⟨.wr,fB E.d (F.r<|j+r*F.n)<|Ã j,À U,?_,⟨λM uZ=>fK _ _ uZ,λy hy=> ?_⟩,λ_=>gD _ _ _⟩
    .have:E.a (F.r<|j+r*F.n)=.cl 1 0:=Q;rw[this]at I;have e:(GS.cl 1 0).st%fY=0:=A
     simp only[e,if_true]at I;exact I
    .rw[p.C.y _ X Q]at hy;cases hy
   .refine⟨.kH,E.d,Á U,?_,⟨λ_ _=>rfl,λ_ h=>h⟩,λh=>by cases h⟩;have:E.a (F.r<|j+r*F.n)=.cl 1 K:=Q;rw[this]at I;have e:¬(GS.cl 1 K).st%fY=0:=by simp only[GS.st,fY];omega
    simp only[e,if_false]at I;exact I
  have hxw:x.tT=1:=by rcases Ev with rfl|rfl<;>rfl
  have Yr:=Yq.kj (w₁:=w.setCell (fQ<|F.I<|F.r<|j+r*F.n)<|ë Ó<|Ó.wrap<|(GS.cl 1 K).st+1) (by have D:=(kJ.r (Á ⟨fQ<|F.I<|F.r<|j+r*F.n,_,À U,U⟩:kJ (F.I<|F.r<|j+r*F.n) w (w.setCell (fQ<|F.I<|F.r<|j+r*F.n)<|ë Ó<|Ó.wrap<|(GS.cl 1 K).st+1)) p.a H.C N);exact⟨Õ D.r.symm,λd kU=>D.ki d<|p.I.r.I _ gE d kU,λa ha=>D.M _ gE a ha,λa ha=>D.N _ gE a ha,λa _=>D.I a⟩);obtain⟨T,hT⟩:=jq Yr;have Ys:=lP (λl g h=>by rcases Ev with rfl|rfl<;>exact À h.2.1) Yq;have P4:kJ (F.I<|F.r<|j+r*F.n) w (w.setCell (fQ<|F.I<|F.r<|j+r*F.n)<|ë Ó<|Ó.wrap<|(GS.cl 1 K).st+1):=Á ⟨_,_,À U,U⟩;obtain⟨gs',u,q1,V,q3,q4,q5,q6,q7⟩:=p.Y H (kW F (E.I j)<|.fC r x) hi (Es G) N (by rw[mw];exact(Q▸h1)) P4 (BR N) U (λx hs e=>(ns x hs e).elim) (by rwa[mw]) Ys;have wS:=yr (f':=λi=>((gR E j<|.fC r x).C i).gB F i<|F.r<|j+r*F.n) wR (λi lH=>by rw[iX _ lH]);simp only[jU,m]at wS;have qa:gP.gB F j (F.r<|j+r*F.n) (.fC r x)=1:=by simp only[gP.gB,if_true,hxw]
  have rz:gP.gB F j (F.r<|j+r*F.n) (.fC r (.mr v))=0:=by simp only[gP.gB,if_true];rfl
  rw[qa,rz]at wS;refine⟨wP E j (.fC r x) (F.r<|j+r*F.n) (.cl 1 (K+1)) Eu,_,_,_,_,gs',_,u,q1,V,λh=>h,.r ?_ (V.trans p.b) q5 ?_ ?_ (p.C.Yj G s (λM uZ=> ?_) (λ_ _=> ?_) (λh=>by omega) (λ⟨a,d,h⟩=> ?_) (λh=>by injection h with _ h;omega) Lq.1 Lq.2 (λf h=> ?_) (λf h=> ?_) (λf h=> ?_) λf h=> ?_) (q6.ahb λM y hy=> ?_) ?_ λt f O z Y=> ?_,?_⟩
  .have:=p.N.N (x:=.fC r x) (T:=T) H.C G s;exact⟨this.M,this.Y,this.I,this.C,this.r⟩
  .have:=q7.r (x:=.fC r x) (by rw[m];rfl);exact⟨this.gU,this.o,this.mb,this.e,this.f,this.h,this.l,this.S,this.M,this.c,this.I,this.N,this.g,this.d⟩
  .have W1:=P4.I H p.a p.C p.M N (Gg:=fB E.a (F.r<|j+r*F.n)<|.cl 1 (K+1)) ⟨λe=>absurd e<|H.C.M _ X,λ_=>rfl⟩ λM uZ=>⟨λe=> ?_,λe=>fK _ _ λe'=>e<|by rw[e']⟩
   .have W2:=W1.Y (x:=.fC r x) (by show _=(E.C j).ky;rw[m];rfl) (by show _=(E.C j).iW;rw[m];rfl);exact⟨W2.C,W2.I,W2.jO,W2.M,W2.S,W2.N⟩
   .rwa[<-(H.C.S _ _ X uZ e),gD]
  .rw[m];simp only[gP.gB,if_neg<|ÿ uZ]
  .congr 1;rw[<-e2]at wS;omega
  .rw[Q]at h;cases h
  .rcases h with⟨_,h⟩|h|h<;>cases h;exact qF
  .rcases h with h|h|h<;>cases h<;>(rcases Ev with h|h<;>cases h)
  .cases h;rcases Ev with h|h<;>cases h
  .cases h;exact hx4 U
  .by_cases e:M=F.r (j+r*F.n)
   .subst e;exact Lq.2 y hy
   .show Eu M=Ã y;rwa[Lq.1 M e]
  .refine p.c.rp (E':=wP E j _ _ _ _) q3 (by rcases Ys with q|q<;>rw[q]<;>simp) q4 (λt pB=>P4.C p.C N pB) U U (λ_ _=>rfl) (λ_=>rfl) (λt e=>iX _ Z) (λ_ _ h=>À h) λt f _ _ h=>À ?_;by_cases e:F.r (t+f*F.n)=F.r (j+r*F.n)
   .show(fB E.a _ _ _).sm=0;rw[e,gD];rfl
   .show(fB E.a _ _ _).sm=0;rwa[fK _ _ e]
  .have e:t≠j:=λe=>by
    subst e;have:(gR E t<|.fC r x).C t=.gL f:=z;rw[jU]at this;cases this
   have BW:(gR E j<|.fC r x).C t=.gL f:=z;rw[iX _ e]at BW;exact(p.f t f O BW Y).app u
  .have:=Er (E:=E) (tr:=tr) (gs:=gs) (gs':=gs') (x:=.fC r x) (T:=T) H.C yt s (by rw[m];rcases Ev with rfl|rfl<;>simp only[gP.rk,jA.rk]<;>omega);rcases this with⟨i,O,z,Y⟩|⟨O,_⟩
   .exact À ⟨i,O,z,Y⟩
   .exfalso;have:=O _ yt;change(gR E j<|.fC r x).iU (fB tr (F.L+1+j) T) (F.L+1+j)=E.iU tr (F.L+1+j)at this;rw[u7 H.C (E:=gR E j _) (show(gR E j _).N (j+1)=Í from s),u7 H.C s,jU,m]at this;injection this with e _;rcases Ev with rfl|rfl<;>simp only[gP.rk,jA.rk]at e<;>omega
end
section
variable{F:Ph}{E E':fW F}{S:Nat->Jd}{s D:Nat->gl}{B:Nat->iD}{f:Nat->fe}{c o:Array Ä}{u:ä}{sl:Option (Nat×Nat)}
def PI.P5(H:gT F)(p:PI F j zX E S s B f c w qJ){x:gP}{a:Ä}{T:gl}(y:i+2<=E.r)(d:E.N (i+1)=Í)(z:c[F.L+1+i]?=Ã g)(C:Ŏ F.P (ð c w sl) (F.L+1+i)=(ğ<|ð o w sl,u))(l:o.size=c.size)(D:o[F.L+1+i]?=Ã a)(G:a.status=Å\/a.status=å)(I:∀k,k≠F.L+1+i->o[k]?=c[k]?.map (Ā F.P g a w)) (J:gM F.P F.S E.Y (fB S (F.L+1+i)<|JW F (E.I i) i x) (fB s (F.L+1+i) T) (fB B (F.L+1+i)<|kW F (E.I i) x) (gi f (F.L+1+i) {f (F.L+1+i)with w:=w}) o w (qJ++u)) (K:TI F.toFx j zX E.r E.S.rl E.V E.e E.d E.iy E.f (qJ++u)) (M:iN F E (gi f (F.L+1+i) {f (F.L+1+i)with w:=w}) o.size w) (m:x.ky=(E.C i).ky) (N:x.iW=(E.C i).iW) (O:Ps F (gR E i x)) (Q:x.rk F<(E.C i).rk F) (W:∀r,x=.gL r->1<=F.r (i+r*F.n)->Λ (qJ++u) (F.L+1+i) (E.e<|F.r<|i+r*F.n)):km F j zX E s c w qJ sl (F.L+1+i):=by
 refine⟨gR E i x,_,_,_,_,o,w,u,C,l,λh=>h,.r (p.N.N H.C y d) (l.trans p.b) J (M.r m) (p.M.Y m N) O K (p.c.rp (E':=gR E i _) D (by rcases G with q|q<;>rw[q]<;>simp) I (λ_ _=>rfl) U U (λ_ _=>rfl) (λ_=>rfl) (λb e=>iX _ Z) (λ_ _ h=>À h) λ_ _ _ _ h=>À h) λb t X q v=> ?_,Er H.C (p.G<|iY z) d Q⟩
 .by_cases e:b=i
  .subst e;rw[jU]at q;exact W t q v
  .rw[iX _ e]at q;exact(p.f b t X q v).app u
def P6{r:Nat}{v:jA}(h:v.tT=0):gP.gB F j k (.fC r v)=0:=by simp only[gP.gB,h];split<;>rfl
def yu{a:Ă}(h:a∈#[wQ]):a=wQ:=by simpa using h
def ahB{i:Nat}{fn:ī}{pos:String}{m:Ο}:∃y:Ă,Û i fn pos #[j1 m]=#[y]/\y.g=i/\y.act=ė m:=⟨{g:=i,fn,pos,act:=ė m},by simp[Û,j1,Ë],U,U⟩
def PI.BX(H:gT F)(p:PI F j zX E S s B f c w qJ){a:Ä}{m:Ο}{J:Jd}{T:gl}(K:iD)(v:c[i]?=Ã g)(x:è F.P (i==0) g w=Š a w #[j1 m])(z:m≠õ)(C:m≠î) (D:∀y:Ă,y.act=ė m->(∀b,y.act.touch?=Ã b->GG (λi=>i<c.size) E.Y f b)/\y.act.low w.heap.size) (G:∀y:Ă,y.g=i->y.act=ė m->∀I,¬Race I (qJ++#[y])) (hF:lu F.P (i==0) J T {f i with w:=w} a) (L:a.status=Å\/a.status=å): ∃o y,y.g=i/\y.act=ė m/\Ŏ F.P (ð c w sl) i=(ğ<|ð o w sl,#[y])/\o.size=c.size/\o[i]?=Ã a/\(∀k,k≠i->o[k]?=c[k]?.map (Ā F.P g a w))/\ gM F.P F.S E.Y (fB S i J) (fB s i T) (fB B i K) (gi f i {f i with w:=w}) o w (qJ++#[y])/\iN F E (gi f i {f i with w:=w}) o.size w:=by
 obtain⟨y,l,n,h⟩:=ahB;have r:Ð (f i).d #[j1 m]=(f i).d:=ĺ (λe k=>by
  have:e=j1 m:=by simpa using k
  subst this;exact⟨λq=>z (by injection q),λq=>C (by injection q)⟩) _
 have M:∀e∈#[j1 m],Ë e=y.act:=λe k=>by
  have:e=j1 m:=by simpa using k
  subst this;rw[h];rfl
 obtain⟨o,q,t,N,O,u⟩:=p.I.rp v x (qD.fV _ _ _ _) (by rwa[r]) L (λe k=>by rw[M e k];exact D y h) (by rw[l];exact G y n h);rw[r,l]at u;rw[l]at q;refine⟨o,y,n,h,q,t,N,O,u,?_⟩;rw[t];exact p.a.C<|Ç _
def P7(H:gT F)(p:PI F j zX E S s B f c w qJ)(hb:F.M b)(D:Af E i){m:Ο}(N:m=.read (gY b)\/m=Υ (gY b))(T:F.PO E.d (gY b) (Ã i))(W:∀x,E.iy x->i≠F.L+x): (∀y:Ă,y.act=ė m->(∀b,y.act.touch?=Ã b->GG (λi=>i<c.size) E.Y f b)/\y.act.low w.heap.size)/\(∀y:Ă,y.g=i->y.act=ė m->∀O,¬Race O (qJ++#[y]))/\∀y:Ă,y.g=i->y.act=ė m->TI F.toFx j zX E.r E.S.rl E.V E.e E.d E.iy E.f (qJ++#[y]):=by
 have C:=p.I.r;have G:∀y:Ă,y.act=ė m->∀a,y.act.touch?=Ã a->a.loc=ú (gY b)/\a.kind=.said:=λy t a l=>by rw[t]at l;rcases N with rfl|rfl<;>simp[Ċ]at l<;>subst l<;>exact⟨U,U⟩
 have u:=(yp hb).2;refine⟨λy t=>⟨λa l=>À ⟨_,(G y t a l).1,yq u,λk D=>p.a.Y H.C u k D⟩,?_⟩,λy I t=>λO=> ?_,λy I t=> ?_⟩
 .have:=C.N _<|yq (E:=E) u;rw[t];rcases N with rfl|rfl<;>exact this
 .refine noRace_append (C.l O) (λd h=>by rw[yu h,I]) λq a l d h z hz X=> ?_;have:d=y:=by simpa using h
  subst this;let⟨n,P⟩:=G d t z hz;rcases p.d.M q a _ l (X.1.trans n) u with⟨J,o⟩|r|⟨_,r⟩
  .exact Yk p.d D J o
  .let⟨_,_,_,v⟩:=X;rw[r,P]at v;rcases v with v|v|⟨_,v,_⟩<;>cases v
  .have e:qJ.g? q=Ã i:=by
    rcases T with⟨K,M⟩|⟨k,v,K,M,s3,s4⟩
    .rcases r with⟨_,o⟩|⟨k,v,Q,o,_,_⟩
     .rw[o,M]
     .rw[K]at o;exact absurd (by injection o with o _ _;exact o.symm)<|H.C.M k Q
    .rcases r with⟨J,_⟩|⟨k',j',Q,o,r3,r4⟩
     .rw[M]at J;exact absurd (by injection J)<|H.C.M k K
     .rw[M]at o;have:k=k':=H.C.S _ _ K Q (by injection o);subst this;rw[s3]at r3;obtain rfl:=È r3;rw[r4,s4]
   let⟨M,v,K⟩:=Ù.1 e;have:=knows_own v;rwa[K]at this
 .refine p.d.C ⟨λd h a _=>by rw[yu h,I],D.imp id À,λd h a x l o K=> ?_,λd h a z l Q o k X J=> ?_,λd h b' _ e=> ?_,λx K q=>⟨λr M=>M.appOther (λd h=>by rw[yu h,I])<|W x q,λe=>absurd e.symm<|W x q⟩⟩
  .have:d=y:=by simpa using h
   subst this;let⟨n,P⟩:=G d t a l;rw[o]at n;injection n with n;subst n;exact Á ⟨P,T⟩
  .have:d=y:=by simpa using h
   subst this;let⟨n,_⟩:=G d t a l;rw[o]at n;injection n with n;subst n;exact⟨λv=>(p.a.I k (Ô J<|Li p.C) _ v).2.1<|yq u,λe=>by simp[gY,jk]at e⟩
  .have:d=y:=by simpa using h
   subst this;rw[t]at e;rcases N with rfl|rfl<;>simp at e
theorem PI.ahC(H:gT F)(p:PI F j zX E S s B f c w qJ){r:Nat}(b:i+2<=E.r)(d:E.N (i+1)=Í)(q:c[F.L+1+i]?=Ã g)(z:g.status=Å)(C:s (F.L+1+i)=.fD)(a:E.C i=.fC r .wr):km F j zX E s c w qJ sl (F.L+1+i):=by let⟨Y,_,g',D,t⟩:=p.Et H b d q z C a w<|p.I.r.r _<|iY q;have u:=p.C.d i r b<|À ⟨_,a⟩;have v:=Ah H.C i;let⟨G,I,K⟩:=P7 H p (G1 H.C u) (Es b) (m:=Υ<|gY<|F.I<|F.r<|i+r*F.n) (Á U) (Á ⟨_,i,H.C.I _ u,U,p.C.D i r b a,U⟩) λx h e=>(Ln (E:=E) d) x h e;let⟨T,M⟩:=jq t;have x:=lP (λl g h=>À h.2.1) t;obtain⟨o,y,l,N,O,P,Q,V,W,X⟩:=p.BX (J:=JW F (E.I i) i<|.fC r .kH) H (kW F (E.I i)<|.fC r .kH) q (by rw[v];exact D w) fp fp G I (by rwa[v]) x;refine p.P5 H b d q O P Q x V W (K y l N) X (by rw[a];rfl) (by rw[a];rfl) (p.C.G b d (λk=>by rw[a];rfl) (λe h=> ?_) (λe h=> ?_) (λe h=>by cases h) λe h=>by cases h) (by rw[a];simp only[gP.rk,jA.rk];omega) (λe h=>by cases h);all_goals grind
theorem PI.ahD(H:gT F)(p:PI F j zX E S s B f c w qJ){r:Nat}(m:i+2<=E.r)(n:E.N (i+1)=Í)(q:c[F.L+1+i]?=Ã g)(G:g.status=Å)(I:s (F.L+1+i)=.fD)(d:E.C i=.fC r .gw):km F j zX E s c w qJ sl (F.L+1+i):=by
 let⟨hd,_,K⟩:=p.Et H m n q G I d w<|p.I.r.r _<|iY q;have v:=p.C.d i r m<|À ⟨_,d⟩;have y:=G1 H.C v;have z:=Ah H.C i;let⟨a,b,M⟩:=p.C.H i r m d;have C:=p.M.I _<|H.C.I _ v;rw[M]at C;let⟨g',N,t⟩:=K 0;simp only[if_true]at t;let⟨T,O⟩:=jq t;have D:=lP (λl g h=>À h.2.1) t;obtain⟨o,u,l,P,Q,V,W,X,Y⟩:=p.Y (J:=JW F (E.I i) i<|.fC r .ly) H (kW F (E.I i)<|.fC r .ly) q (Es m) y (by rw[z];exact N w C.C) (À U) (Ag y) U (λx k e=>(Ln n x k e).elim) (by rwa[z]) D;refine p.P5 H m n q l P Q D V W X Y (by rw[d];rfl) (by rw[d];rfl) (p.C.G m n (λk=>by rw[d];rfl) (λe h=> ?_) (λe h=> ?_) (λe h=>by cases h) λe h=>by cases h) (by rw[d];simp only[gP.rk,jA.rk];omega) λe h=>by cases h
 .grind
 .rcases h with h|h|h<;>cases h;exact p.C.w i r m<|À d
theorem PI.ahE(H:gT F)(p:PI F j zX E S s B f c w qJ){r:Nat}(d:i+2<=E.r)(t:E.N (i+1)=Í)(q:c[F.L+1+i]?=Ã g)(I:g.status=Å)(K:s (F.L+1+i)=.fD)(a:E.C i=.fC r .ly):km F j zX E s c w qJ sl (F.L+1+i):=by
 have v:=iY q;let⟨M,_,g',N,x⟩:=p.Et H d t q I K a w<|p.I.r.r _ v;have O:=p.C.d i r d<|À ⟨_,a⟩;have C:=G1 H.C O;have D:=Ah H.C i;have u:∀y:Ă,y.act=ė (Œ<|fQ<|F.I<|F.r<|i+r*F.n)->y.act.touch?=Í:=λy m=>by rw[m];rfl
 let⟨T,P⟩:=jq x;have G:=lP (λl g h=>À<|H.Y _ _ _ _ h) x;obtain⟨o,y,Q,l,V,W,X,Y,q5,q7⟩:=p.BX (J:=JW F (E.I i) i<|.gL r) H (kW F (E.I i)<|.gL r) q (by rw[D];exact N w) fp fp (λy m=>⟨λz k=>(by rw[u y m]at k;cases k),by rw[m];exact p.I.r.N _<|À C⟩) (λy _ m=>BG p.I.r.l λz k=>by rw[yu k];exact u y m) (by rwa[D]) G;have Ew:=p.d.C (Ac (λz k=>by rw[yu k];exact u y l) λz k b _ e=>by grind);refine p.P5 H d t q V W X G Y q5 Ew q7 (by rw[a];rfl) (by rw[a];rfl) (p.C.G d t (λk=>by rw[a,P6 U];rfl) (λk h=> ?_) (λk h=> ?_) (λk h=>by cases h) λk h=>by cases h) (by rw[a];simp only[gP.rk,jA.rk];omega) λk h z=> ?_
 .grind
 .rcases h with h|h|h<;>cases h;exact p.C.w i r d<|Á<|À a
 .cases h;let⟨k,b,e⟩:=p.d.Y _ z<|Ô (p.C.w i r d<|Á<|À a)<|PX _;exact Yb k b e (p.d.c _ C) Q l<|(p.I.r.f _ v).trans M
end
section
variable{F:Ph}{E E':fW F}{S:Nat->Jd}{tr o:Nat->gl}{f:Nat->iD}{d:Nat->fe}{gs gs':Array Ä}{u:ä}{sl:Option (Nat×Nat)}
def Yt{G:GS}(h:G.sm≠0):∃a s,G=.gZ a (s+1):=by
 cases G with
 |cl c b=>exact absurd U h
 |jM b=>exact absurd U h
 |gZ a s=>cases s with
  |zero=>exact absurd U h
  |succ s=>exact⟨a,s,U⟩
def Ex(h:gs[i]?=Ã g):gO gs i=if g.status=Å then 1 else 0:=by unfold gO;rw[h];simp
def P8(h:gs'[i]?=gs[i]?):gO gs' i=gO gs i:=by unfold gO;rw[h]
theorem PI.ahF(H:gT F)(p:PI F n zX E S tr f d gs w qJ){j r:Nat}{g:Ä}(t:j+2<=E.r)(m:E.N (j+1)=Í)(v:gs[F.L+1+j]?=Ã g)(z:g.status=Å)(ht:tr (F.L+1+j)=.fD)(c:E.C j=.fC r .kH):km F n zX E tr gs w qJ sl (F.L+1+j):=by
 have B:=iY v;obtain⟨hd,_,ho,Lr,g',h1,h2⟩:=(p.Et H t m v z ht c) w<|p.I.r.r _ B;have Q:=p.C.d j r t<|À ⟨_,c⟩;have C:=G1 H.C Q;have G:=H.C.I _ Q;have V:=Ah H.C j;have X:=p.G B;have wR:j<F.n:=by have:=Ep p.C;omega
 have hG:=p.M.I _ G;by_cases K:(E.a<|F.r<|j+r*F.n).sm=0
 .have q:=hG.M;rw[K]at q;obtain⟨qa,I⟩:=p.g j t m;rw[c]at qa I;obtain⟨gs',q1,o,M,q4⟩:=Pu v (by rw[V];exact(Lr w q));have s:∀x,Ā F.P g {g with status:=Ü} w x=x:=by
   intro x;unfold Ā;rw[if_neg fp]
  have b:∀k,k≠F.L+1+j->gs'[k]?=gs[k]?:=by
   intro k a;rw[q4 k a];cases gs[k]? with
   |none=>rfl
   |some x=>simp[s]
  have D:gM F.P F.S E.Y S tr f d gs' w (qJ++#[]):=by
   rw[Ú];obtain⟨g0,J,l,W,O⟩:=p.I.C _ g v;have N:g=g0:=by
    rw[I]at l;cases l with
    |gO=>rfl
    |oR h ho=>cases z
   subst N;refine⟨?_,λk y a=> ?_,λk a=>p.I.I k<|by rwa[<-o]⟩
   .rw[show(λi=>i<gs'.size)=(λi=>i<gs.size) by rw[o]];exact p.I.r
   .by_cases e:k=F.L+1+j
    .subst e;rw[M]at a;obtain rfl:=È a;refine⟨g,J,?_,À z,Á ht⟩;rw[I];exact .oR z ho
    .rw[b k e]at a;exact p.I.C k y a
  refine⟨E,S,tr,f,d,gs',w,#[],q1,o,λh=>h,.r p.N (o.trans p.b) D (by rw[o];exact p.a) p.M p.C (by rw[Ú];exact p.d) (λk y a l=> ?_) (by rw[Ú];exact p.f),P0 (λ_ _=>rfl) X (by rw[Ex v,if_pos z]) (by rw[Ex M,if_neg fp]) λk a=>P8<|b k a⟩;by_cases e:k=F.L+1+j
  .subst e;exact Á ⟨j,t,m,U,À ⟨r,c,K⟩⟩
  .rw[b k e]at a;exact p.c k y a l
 .obtain⟨a,s,y⟩:=Yt K;have P9:=y▸hG;have Ey:=h1 w _ (by simp only[GS.sm];omega) P9.M P9.N;have N:kJ (F.I<|F.r<|j+r*F.n) w (w.setCell (gY<|F.I<|F.r<|j+r*F.n)<|ë ç<|(GS.gZ a<|s+1).sm-1):=Á ⟨_,_,Á U,U⟩;have D:=N.r p.a H.C C;obtain⟨T,hT⟩:=jq (h2.kj (w₁:=w.setCell (gY<|F.I<|F.r<|j+r*F.n)<|ë ç<|(GS.gZ a<|s+1).sm-1) ⟨Õ D.r.symm,λb l=>D.ki b<|p.I.r.I _ B b l,λa k=>D.M _ B a k,λa k=>D.N _ B a k,λa _=>D.I a⟩);have mq:=lP (λl g h=>À h.2.1) h2;obtain⟨gs',u,q1,o,M,q4,q5,q6,q7⟩:=p.Y H (kW F (E.I j)<|.fC r .gw) v (Es t) C (by rwa[V]) N (GZ C) (G0 _).2.2.2 (λx l e=>(Ln m x l e).elim) (by rwa[V]) mq;have hle:F.r (j+r*F.n)<=E.S.od:=by
   refine ă λl=> ?_;have:=p.C.e _ Z G l;rw[y]at this;cases this
  have wS:=yr (f':=λi=>((gR E j<|.fC r .gw).C i).gB F i<|F.r<|j+r*F.n) wR (λi l=>by rw[iX _ l]);simp only[jU,c]at wS;have qa:gP.gB F j (F.r<|j+r*F.n) (.fC r .gw)=0:=by simp only[gP.gB,if_true];rfl
  have I:gP.gB F j (F.r<|j+r*F.n) (.fC r .kH)=1:=by simp only[gP.gB,if_true];rfl
  rw[qa,I]at wS;refine⟨wP E j (.fC r .gw) (F.r<|j+r*F.n) (.gZ a s) E.d,_,_,_,_,gs',_,u,q1,o,λh=>h,.r ?_ (o.trans p.b) q5 ?_ ?_ (p.C.Yj t m (λl q=> ?_) (λ_ h=>by omega) (λ_=> ?_) (λ_=>⟨a,s,U⟩) (λh=>by cases h) (λ_ _=>rfl) (λ_ h=>h) (λb h=> ?_) (λb h=> ?_) (λb h=> ?_) λb h=>by cases h) q6 ?_ λk b J O a3=> ?_,?_⟩
  .have:=p.N.N (x:=.fC r .gw) (T:=T) H.C t m;exact⟨this.M,this.Y,this.I,this.C,this.r⟩
  .have:=q7.r (x:=.fC r .gw) (by rw[c];rfl);exact⟨this.gU,this.o,this.mb,this.e,this.f,this.h,this.l,this.S,this.M,this.c,this.I,this.N,this.g,this.d⟩
  .have W:=N.I H p.a p.C p.M C (Gg:=fB E.a (F.r<|j+r*F.n)<|.gZ a s) ⟨λe=>absurd e<|H.C.M _ G,λ_=>rfl⟩ λl q=>⟨λe=> ?_,λe=>fK _ _ λe'=>e<|by rw[e']⟩
   .have l:=W.Y (x:=.fC r .gw) (by show _=(E.C j).ky;rw[c];rfl) (by show _=(E.C j).iW;rw[c];rfl);exact⟨l.C,l.I,l.jO,l.M,l.S,l.N⟩
   .rw[<-(H.C.S _ _ G q e),gD];exact P9.kH
  .rw[c];simp only[gP.gB,if_neg<|ÿ q]
  .rcases p.C.Y _ G hle with⟨W,_,q,_⟩|⟨r1,s1,l,z2,q,z3⟩|⟨l,⟨q,_⟩|⟨s1,q,z3⟩⟩
   .rw[y]at q;cases q
   .rw[y]at q;injection q with e1 e2;subst e1 e2;exact Á<|À ⟨a,s,l,z2,U,Z⟩
   .rw[y]at q;cases q
   .rw[y]at q;injection q with e1 e2;subst e1 e2;exact Á<|Á ⟨l,Á ⟨s,U,Z⟩⟩
  .rcases h with⟨_,h⟩|h|h<;>cases h;exact Q
  .rcases h with h|h|h<;>cases h;exact hle
  .cases h;exact⟨a,s,gD _ _ _⟩
  .refine p.c.rp (E':=wP E j _ _ _ _) M (by rcases mq with q|q<;>rw[q]<;>simp) q4 (λk l=>N.C p.C C l) U U (λ_ _=>rfl) (λ_=>rfl) (λk e=>iX _ Z) (λ_ _ h=>À h) λk b _ _ h=>À ?_;by_cases e:F.r (k+b*F.n)=F.r (j+r*F.n)
   .rw[e]at h;exact absurd h K
   .show(fB E.a _ _ _).sm=0;rwa[fK _ _ e]
  .have e:k≠j:=λe=>by
    subst e;have:(gR E k<|.fC r .gw).C k=.gL b:=O;rw[jU]at this;cases this
   have l:(gR E j<|.fC r .gw).C k=.gL b:=O;rw[iX _ e]at l;exact(p.f k b J l a3).app u
  .have:=Er (E:=E) (tr:=tr) (gs:=gs) (gs':=gs') (x:=.fC r .gw) (T:=T) H.C X m (by rw[c];simp only[gP.rk,jA.rk];omega);rcases this with⟨i,J,O,a3⟩|⟨J,_⟩
   .exact À ⟨i,J,O,a3⟩
   .exfalso;have:=J _ X;change(gR E j<|.fC r .gw).iU (fB tr (F.L+1+j) T) (F.L+1+j)=E.iU tr (F.L+1+j)at this;rw[u7 H.C (E:=gR E j _) (show(gR E j _).N (j+1)=Í from m),u7 H.C m,jU,c]at this;injection this with e _;simp only[gP.rk,jA.rk]at e;omega
theorem iN.ahG(L:iN F E d i w){l:fe}(H:∀b,l.O b->(d n).O b)(I:∀b,(d n).I b->l.I b)(J:∀a,l.r a->(d n).r a)(K:∀a,(d n).r a->l.r a)(M:∀a,(d n).N a->l.N a)(N:∀a,l.C a->(∃k,k<=F.m/\a=jk F.toFx k)\/∃p,p≠F.f/\a=ju F p)(P:l.q=(d n).q)(s:¬l.q):iN F E (gi d n l) i w:=by
 have D:∀k,d k=kI (d k)->k≠n:=λk f e=>by
  subst e;have:(d k).q:=by rw[f];trivial
  grind
 have Q:∀k b,(gi d n l k).O b->(d k).O b:=λk b h=>by grind [gV,gI]
 have t:∀k a,(gi d n l k).r a↔(d k).r a:=λk a=>by grind [gV,gI]
 have y:∀k b,(d k).I b->(gi d n l k).I b:=λk b h=>by grind [gV,gI]
 have z:∀k a,(d k).N a->(gi d n l k).N a:=λk a h=>by grind [gV,gI]
 refine⟨λk f a v=> ?_,λx c o a v=>(t _ _).2<|L.o x c o a v,λh=>⟨z _ _ (L.mb h).1,λb s=>y _ _<|(L.mb h).2 b s⟩,λh k c o=>⟨(t _ _).2 (L.e h k c o).1,(t _ _).2 (L.e h k c o).2⟩,λh u=>⟨z _ _ (L.f h u).1,λb s=>y _ _<|(L.f h u).2 b s⟩,λj g u r B c=>(t _ _).2<|L.h j g u r B c,λj g u=>⟨z _ _ (L.l j g u).1,λb s=>y _ _<|(L.l j g u).2 b s⟩,λx G=> ?_,λk f=> ?_,λk c o=> ?_,λk f b s=> ?_,λk f j g h=>L.N k f j g<|(t _ _).1 h,λk c o j g h=>L.g k c o j g<|(t _ _).1 h,λj g r B c k f h=>L.d j g r B c k f<|(t _ _).1 h⟩
 .by_cases e:k=n
  .grind [gV]
  .rw[gI d _ e]at v;exact L.gU k f a v
 .rw[gI d _<|D _<|L.S x G];exact L.S x G
 .by_cases e:k=n
  .grind [gV]
  .rw[gI d _ e];exact L.M k f
 .rw[gI d _<|D _<|L.c k c o];exact L.c k c o
 .let⟨S,T,V⟩:=L.I k f b s;grind
theorem PI.ahH(H:gT F)(p:PI F n zX E S tr f d gs w qJ){r:Nat}(o:j+2<=E.r)(s:E.N (j+1)=Í)(u:gs[F.L+1+j]?=Ã g)(x:g.status=Å)(I:tr (F.L+1+j)=.fD)(m:E.C j=.gL r):sx F n zX E tr gs w qJ:=by
 have c:=iY u;have C:=p.I.r;obtain⟨y,z⟩:=p.g j o s;rw[m]at y z;have B:=p.I.N u x I (À z) w<|C.r _ c;rw[y]at B;have v:=p.C.d j r o<|Á<|À m;have J:=H.C.I _ v;have D:=p.C.w j r o<|Á<|Á m;have t:=Ô D<|Ô (PX _)<|Li p.C;obtain⟨K,M⟩:=p.M.M _ t;have N:=λa l=>by
  by_cases e:1<=F.r (j+r*F.n)
  .exact(p.d.I _ e (Ô D<|PX _) a l).ag9<|p.f j r o m e
  .have h:F.r (j+r*F.n)=0:=Z
   obtain⟨i,b⟩:=p.a.l j o s;rw[h]at l;rcases l with l|rfl
   .rw[p.C.v]at l;exact(C.S _ c).rd a<|b _ l
   .exact(C.S _ c).r _ i
 have G:ja F.S (λi=>i<gs.size) E.Y (gi d (F.L+1+j) {d (F.L+1+j)with I:=λb=>(d<|F.L+1+j).I b\/E.V (F.r<|j+r*F.n) b,N:=λa=>(d<|F.L+1+j).N a\/a=jk F.toFx (F.r<|j+r*F.n),w:=w}) w qJ:=by
  refine C.C c (λ_ q=>q) (λb q=> ?_) (λ_ q=>q) (λa q=> ?_) U U U (λb h q=> ?_) λa l q=> ?_
  .rcases q with q|q
   .exact À<|Á q
   .obtain⟨i,k,O⟩:=p.a.I _ t b q;grind
  .rcases q with q|rfl
   .exact À<|Á q
   .exact Á ⟨À<|Á ⟨_,J,U⟩,λk e=>p.a.N _ t k e,N _<|Á U⟩
  .rcases q with q|q
   .exact C.m _ c b h q
   .exact(p.a.I _ t b q).2.2 _ c h
  .rcases q with q|rfl
   .exact C.g _ c a l q
   .exact p.a.N _ t _ c l
 have i:=G.M c;rw[gV]at i;obtain⟨T,O⟩:=jq (H.gL (E.I j) j r _ _ _ g v B {d (F.L+1+j)with I:=λb=>(d<|F.L+1+j).I b\/E.V (F.r<|j+r*F.n) b,N:=λa=>(d<|F.L+1+j).N a\/a=jk F.toFx (F.r<|j+r*F.n),w:=w} i U (λb q=>q) U U U U U K M (Á U)<|p.a.h j o s r v<|by rw[m];exact Ç _);refine p.P1 H o s u (À x) G O ?_ (p.M.Y (by rw[m];rfl)<|by rw[m];rfl) (p.C.G o s (λk=>by rw[m];rfl) (λe h=> ?_) (λe h=> ?_) (λe h=>by cases h) λe h=>by cases h) ?_ λe h=>by cases h
 .refine(p.a.r<|by rw[m];rfl).ahG (λ_ q=>q) (λ_ q=>À q) (λ_ q=>q) (λ_ q=>q) (λ_ q=>À q) (λa l=> ?_) U (p.a.M (F.L+1+j)<|Á ⟨j+1,Z,Z,λ⟨e,h,_⟩=>by rw[s]at h;cases h⟩);rcases l with q|q|rfl
  .exact p.a.gU _ c a<|À q
  .exact p.a.gU _ c a<|Á q
  .grind
 .grind
 .grind
 .rw[m];simp only[gP.rk];have h:F.n+3000<=(F.n+3000)*(F.q+3-r):=â _ (by
   have:r<=F.q:=by have:r*1<=r*F.n:=ï _ H.C.N;omega
   omega)
  omega
def PI.ahI(H:gT F)(p:PI F n zX E S tr f d gs w qJ){r:Nat}(G:j+2<=E.r)(I:E.N (j+1)=Í)(V:gs[F.L+1+j]?=Ã g)(iJ:g.status=Å)(ht:tr (F.L+1+j)=.fD)(u:E.C j=.ox r):sx F n zX E tr gs w qJ:=by
 have D:=iY V;have C:=p.I.r;let⟨qa,rz⟩:=p.g j G I;rw[u]at qa rz;have hJ:=p.I.N V iJ ht<|À rz;rw[qa]at hJ;let⟨BY,hrecv⟩:=hJ w<|C.r _ D;have qF:=p.C.d j r G<|Á<|Á u;have Ls:=p.a.h j G I r qF (by rw[u];exact Ç _);have Lt:r<=F.q:=by have:r*1<=r*F.n:=ï _ H.C.N;omega
 have Ai:ja F.S (λi=>i<gs.size) E.Y (gi d (F.L+1+j)<|wN F {d (F.L+1+j)with w:=w}<|j+r*F.n) w qJ:=by
  refine C.C D (λ_ q=>q) (λb q=>À<|Á q) (λ_ q=>q.1) (λa q=> ?_) U U U (λb t q=>C.m _ D b t q) λa s q=> ?_
  .rcases q with q|rfl
   .exact À<|Á q
   .exact À<|À Ls
  .rcases q with q|q
   .exact C.g _ D a s.1 q
   .exact s.2 q
 have hF:lu F.P É (JW F (E.I j) j<|.nL (r+1)) .fD (wN F {d (F.L+1+j)with w:=w}<|j+r*F.n) g:=λw₁ kT=>by let⟨Q,W,c,e⟩:=hrecv;exact⟨Q,W,c,λx=>(e x).kj kT⟩
 refine p.P1 H G I V (À iJ) Ai hF ?_ ?_ (p.C.G G I (λk=>by rw[u];rfl) (λm h=> ?_) (λm h=> ?_) (λm h=>by cases h) λm h=>by cases h) ?_ λm h=>by cases h
 .have L:=p.a;have J:∀k a,(gi d (F.L+1+j) (wN F {d (F.L+1+j)with w:=w}<|j+r*F.n) k).r a->(d k).r a:=λk a h=>by
   by_cases e:k=F.L+1+j
   .subst e;rw[gV]at h;exact h.1
   .rwa[gI d _ e]at h
  have K:∀k a,(d k).r a->a≠ju F (F.a<|j+r*F.n)->(gi d (F.L+1+j) (wN F {d (F.L+1+j)with w:=w}<|j+r*F.n) k).r a:=λk a h lN=>by
   by_cases e:k=F.L+1+j
   .subst e;rw[gV];exact⟨h,lN⟩
   .rwa[gI d _ e]
  have X:∀k a,(d k).N a->(gi d (F.L+1+j) (wN F {d (F.L+1+j)with w:=w}<|j+r*F.n) k).N a:=λk a h=>by
   by_cases e:k=F.L+1+j
   .subst e;rw[gV];exact À h
   .rwa[gI d _ e]
  have M:∀k,(gi d (F.L+1+j) (wN F {d (F.L+1+j)with w:=w}<|j+r*F.n) k).I=(d k).I/\(gi d (F.L+1+j) (wN F {d (F.L+1+j)with w:=w}<|j+r*F.n) k).O=(d k).O/\(gi d (F.L+1+j) (wN F {d (F.L+1+j)with w:=w}<|j+r*F.n) k).q=(d k).q:=λk=>by
   by_cases e:k=F.L+1+j
   .subst e;rw[gV];exact⟨U,U,U⟩
   .rw[gI d _ e];exact⟨U,U,U⟩
  have nb:∀k,d k=kI (d k)->k≠F.L+1+j:=λk W e=>by
   subst e;have:(d<|F.L+1+j).q:=by rw[W];trivial
   exact(p.a.M (F.L+1+j)<|Á ⟨j+1,Z,Z,λ⟨e,c,_⟩=>by rw[I]at c;cases c⟩) this
  have N:∀k,k≠F.L+1+j->k<gs.size->∀a,(d k).r a->a≠ju F (F.a<|j+r*F.n):=λk W Yu a s e=>C.h _ _ Yu D W a s (by rw[e];exact À Ls);refine⟨λk W a s=> ?_,λx c v a s=>K _ _ (L.o x c v a s) (N 0 (by have:=H.C.r;omega) (by have:=p.b;have:=H.C.r;omega) a<|L.o x c v a s),λh=>⟨X _ _ (L.mb h).1,λb t=>by rw[(M 0).1];exact(L.mb h).2 b t⟩,λh k c v=> ?_,λh B=>⟨X _ _ (L.f h B).1,λb t=>by rw[(M _).1];exact(L.f h B).2 b t⟩,λl o B m y c=> ?_,λl o B=>⟨X _ _ (L.l l o B).1,λb t=>by rw[(M _).1];exact(L.l l o B).2 b t⟩,λx BZ=>by rw[gI d _<|nb _<|L.S x BZ];exact L.S x BZ,λk W=>by rw[(M k).2.2];exact L.M k W,λk c v=>by rw[gI d _<|nb _<|L.c k c v];exact L.c k c v,λk W b t=>⟨(L.I k W b t).1,(L.I k W b t).2.1,λi z=>by rw[(M i).2.1];exact(L.I k W b t).2.2 i z⟩,λk W i z h=>L.N k W i z<|J _ _ h,λk c v i z h=>L.g k c v i z<|J _ _ h,λl o m y c i z h=> ?_⟩
  .by_cases e:k=F.L+1+j
   .subst e;rw[gV]at s;rcases s with q|q|q
    .exact L.gU _ D a<|À q.1
    .exact L.gU _ D a<|Á q
    .exact Á ⟨_,H.C.Y.2 _ (by assumption),q⟩
   .rw[gI d _ e]at s;exact L.gU k W a s
  .have Q:F.L<gs.size:=by have:=p.b;have:0<E.r:=h;omega
   have:=L.e h k c v;exact⟨K _ _ this.1<|N _ Z Q _ this.1,K _ _ this.2<|N _ Z Q _ this.2⟩
  .by_cases e:l=j
   .subst e;rw[jU]at c;simp only[gP.ky]at c;refine K _ _ (L.h l o B m y<|by rw[u];simp only[gP.ky];omega) λq=> ?_;have Q:=H.C.a _ _ y qF (by injection q);have T:m*F.n=r*F.n:=Z
    have:=Nat.eq_of_mul_eq_mul_right H.C.N T;omega
   .rw[iX _ e]at c;have q:=L.h l o B m y c;have yv:l+2<=E.r:=o;exact K _ _ q<|N _ Z (by have:=p.b;omega) _ q
  .by_cases e:l=j
   .subst e;rw[jU]at c;simp only[gP.ky]at c;by_cases Q:m=r
    .subst Q;by_cases T:i=F.L+1+l
     .subst T;rw[gV]at h;exact h.2 U
     .exact N i T z _ (J _ _ h) U
    .exact L.d l o m y (by rw[u];simp only[gP.ky];omega) i z<|J _ _ h
   .rw[iX _ e]at c;exact L.d l o m y c i z<|J _ _ h
 .have W:=p.M;refine⟨W.C,W.I,λl o=> ?_,W.M,W.S,λl o m y c=> ?_⟩
  .by_cases e:l=j
   .subst e;have:=W.jO l o;rw[u]at this;rw[jU];exact this
   .rw[iX _ e];exact W.jO l o
  .by_cases e:l=j
   .subst e;rw[jU]at c;simp only[gP.ky]at c;by_cases Q:m=r
    .subst Q;exact BY
    .exact W.N l o m y<|by rw[u];simp only[gP.ky];omega
   .rw[iX _ e]at c;exact W.N l o m y c
 .rcases h with⟨_,h⟩|h|h<;>cases h
 .rcases h with h|h|h<;>cases h
 .rw[u];simp only[gP.rk];have e:F.q+3-r=(F.q+3-(r+1))+1:=Z
  rw[e,Ń];omega
end
def ahJ{α:Type}(f:Nat->α)(i:Nat)(x y:α):fB (fB f i x) i y=fB f i y:=by funext k;unfold fB;split<;>rfl
section
variable{F:Ph}{E E':fW F}{S:Nat->Jd}{tr o:Nat->gl}{d:Nat->iD}{lot:Nat->fe}{gs gs':Array Ä}{u:ä}{sl:Option (Nat×Nat)}{sz:Nat}
def qG{r:Nat}{a:Bool}(h:b≠i):(w.setChan i n q yQ j r a).heap[b]?=w.heap[b]?:=by unfold World.setChan;exact í<|ÿ h
def Lu{r:Nat}{a:Bool}(h:i<w.heap.size):(w.setChan i n q yQ j r a).heap[i]?=Ã (.chan n q yQ j r a):=by unfold World.setChan;simp[h]
def G5{r:Nat}{a:Bool}:(w.setChan i n q yQ j r a).heap.size=w.heap.size:=by unfold World.setChan;simp
def ahK(f:Ps F E)(c:j+2<=E.r){cap s r:Nat}{buf:Array ã}{cl tm:Bool}:GU F E lot sz w (w.setChan (E.I j) cap buf cl s r tm):=by
 let⟨g,d,_⟩:=f.o j c;refine⟨Õ G5.symm,λb _ h _=>qG λe=>h<|Á<|Á ⟨j,c,e⟩,λa i _=>gK (qG λe=> ?_),yl (qG λe=>d e.symm),U,U⟩;rcases i with⟨k,l,rfl⟩|⟨p,rfl⟩
 .exact g<|Á ⟨k,l,e.symm⟩
 .exact d e.symm
def Yv(a:Ps F E)(c:j+2<=E.r){cap s r:Nat}{buf:Array ã}{cl tm:Bool}(d:F.M b){G:GS}(h:ik w b G):ik (w.setChan (E.I j) cap buf cl s r tm) b G:=by have e:b≠E.I j:=λe=>(a.o j c).1<|e▸d;exact h.wM (gK<|qG e) (gK<|qG e) (uX<|qG e)<|uX<|qG e
def Wd.G(W:Wd F E w)(H:gT F)(L:iN F E lot sz w)(g:Ps F E)(h:j+2<=E.r){cap s r:Nat}{buf:Array ã}{cl tm:Bool}: (∀k,k<=E.S.md->nN F k (E.c k)/\F.d k (E.c k) (E.V k) (w.setChan (E.I j) cap buf cl s r tm))/\(∀k,1<=k->k<=E.S.md->(w.setChan (E.I j) cap buf cl s r tm).cell? (ju F (F.b k))=Ã (.string (F.o k)))/\(∀c,c+2<=E.r->∀d,c+d*F.n<F.q->d<(E.C c).ky->(w.setChan (E.I j) cap buf cl s r tm).cell? (ju F (F.a (c+d*F.n)))=Ã (.string (F.k (c+d*F.n))))/\ik (w.setChan (E.I j) cap buf cl s r tm) F.C E.b/\(∀k,k<=F.m->ik (w.setChan (E.I j) cap buf cl s r tm) (F.I k) (E.a k)):=by have e:=ahK (lot:=lot) (sz:=sz) (w:=w) g h (cap:=cap) (s:=s) (r:=r) (buf:=buf) (cl:=cl) (tm:=tm);refine⟨λk a=>⟨(W.M k a).1,H.S _ _ _ _ _ (W.M k a).2 (λb f=>e.C b (L.I k a b f).1 (L.I k a b f).2.1 (L.I k a b f).2.2) (e.r _ (À ⟨k,Ô a (Lh g),U⟩) (L.N k a)) (e.r _ (Á ⟨_,U⟩) (L.PW H.C)) e.I e.M⟩,λk b f=>(e.r _ (Á ⟨_,U⟩) (L.g k b f)).trans (W.S k b f),λc b d f i=>(e.r _ (Á ⟨_,U⟩) (L.d c b d f i)).trans (W.N c b d f i),Yv g h (À U) W.C,λk a=>Yv g h (Á ⟨k,a,U⟩) (W.I k a)⟩
def iN.Ez(L:iN F E lot sz w)(h:w.heap.size<=W.heap.size):iN F E lot sz W:= ⟨L.gU,L.o,L.mb,L.e,L.f,L.h,L.l,L.S,L.M,L.c,λk a b c=>⟨Ê (L.I k a b c).1 h,(L.I k a b c).2⟩,L.N,L.g,L.d⟩
def Lv(c:TI F.toFx i zX E.r E.S.rl E.V E.e E.d E.iy E.f qJ)(h:yo u):TI F.toFx i zX E.r E.S.rl E.V E.e E.d E.iy E.f (qJ++u):= c.C<|Ac (λa b=>(h a b).1) λa b _ _=>(h a b).2 _
def gW(E:fW F)(x:Nat)(e:iq):fW F:={E with N:=fB E.N x (Ã e)}
theorem ry.G(h:ry F E S tr d)(ok:F.Ok){x:Nat}{e:iq}{T:gl}(m:(∃N,e=.jz N)->T=.fD):ry F (fA.gW E x e) (fB S (F.L+x)<|JE F e) (fB tr (F.L+x) T) (fB d (F.L+x) .no):=by
 have:=ok.r;have c:∀y,y≠x->(fA.gW E x e).N y=E.N y:=λy k=>fK _ _ k;have g:(fA.gW E x e).N x=Ã e:=gD _ _ _;refine⟨by rw[fK S _ Z,fK d _ Z];exact h.M,λb a=> ?_,λj b a=> ?_,λy l b a=> ?_,λi b a=>by rw[fK S _ Z,fK d _ Z,fK tr _ Z];exact h.r i b a⟩
 .have f:x≠0:=λq=>by subst q;rw[g]at a;cases a
  rw[c 0<|ÿ f]at a;rw[fK S _ Z,fK d _ Z];exact h.Y b a
 .have f:x≠j+1:=λq=>by subst q;rw[g]at a;cases a
  rw[c _<|ÿ f]at a;rw[fK S _ Z,fK d _ Z];exact h.I j b a
 .by_cases q:y=x
  .grind [gD]
  .rw[c y q]at a;rw[fK S _ Z,fK d _ Z,fK tr _ Z];exact h.C y l b a
def sy(F:Ph)(E:fW F)(x:Nat):Nat×Nat:=match E.N x with
 |some e=>e.rk F
 |none=>if x=0 then(E.S.rk F,0)else((E.C<|x-1).rk F,0)
def ahL(ok:F.Ok)(x:Nat):E.iU tr (F.L+x)=((sy F E x).1,(sy F E x).2,tr<|F.L+x):=by
 have:=ok.r;unfold sy;cases a:E.N x with
 |some e=>rw[Ll ok a]
 |none=>
  cases x with
  |zero=>rw[ó,Yh ok a];simp
  |succ j=>rw[show F.L+(j+1)=F.L+1+j by omega,u7 ok a];simp
def EA(ok:F.Ok){x:Nat}{e:iq}{T:gl}(b:F.L+x<F.N)(h:(e.rk F).1<(sy F E x).1\/((e.rk F).1=(sy F E x).1/\(e.rk F).2<(sy F E x).2)):p9 F.N ((fA.gW E x e).mu (fB tr (F.L+x) T) gs') (E.mu tr gs):=by
 refine GX b ?_ λk c=>Ae (λ_=>rfl) (λ_ _=>rfl) (λa=>fK _ _ Z) (λ_ _=>rfl) (λ_ _=>rfl)<|fK tr _ c;rw[Ll ok (E:=fA.gW E x e)<|gD _ _ _,ahL ok];rcases h with h|⟨a,d⟩
 .exact À h
 .exact Á ⟨a,À d⟩
def ahM{e:iq}(h:e.kS=my (E.N i))(y:Nat):(fA.gW E i e).G y=E.G y:=by
 unfold fW.G;by_cases q:y=i
 .subst q;show(if y<E.M.ad F.n then my (fB E.N y (Ã e) y)else 0)=_;rw[gD];show(if y<E.M.ad F.n then e.kS else 0)=_;rw[h]
 .show(if y<E.M.ad F.n then my (fB E.N i (Ã e) y)else 0)=_;rw[fK _ _ q]
def ahN{e:iq}(h:e.kS=my (E.N i)):Ñ (F.n+1) (fA.gW E i e).G=Ñ (F.n+1) E.G:=ł λy _=>ahM h y
theorem Ps.gW(h:Ps F E){x:Nat}{e:iq}(J:x<E.r)(v:e.kS=my (E.N x))(w:∀p,E.N x=Ã (.fZ p)->∀W,p≠ .gw W/\p≠ .jg W/\p≠ .iE W)(K:∀p,e=.fZ p->∀W,p≠ .gw W/\p≠ .jg W/\p≠ .iE W) (z:∀j,x=j+1->j<E.M.jj F.n/\∃r,E.C j=.nL r/\∀i,j+i*F.n<F.q->i<r) (B:x=0->E.S=.kR F.m):Ps F (fA.gW E x e):=by
 have b:∀y,y≠x->(fA.gW E x e).N y=E.N y:=λy a=>fK _ _ a;have L:(fA.gW E x e).N x=Ã e:=gD _ _ _;have g:=ahN (E:=E) v;refine⟨h.v,h.C,h.K,h.L,h.J,h.I,h.z,h.d,λj C d=> ?_,λd=> ?_,λy a=> ?_,h.M,h.o,λc k f=>by rw[g];exact h.t c k f,λk f=> ?_,λr s f=> ?_,λy p a=> ?_,λD=>by rw[g];exact h.B D,h.e,h.Y,h.w,h.H,h.O,h.S,h.y,h.D⟩
 .by_cases q:j+1=x
  .exact z j q.symm
  .rw[b _ q]at d;exact h.l j C d
 .by_cases q:0=x
  .exact B q.symm
  .rw[b _ q]at d;exact h.f d
 .have:E.r<=y:=a;rw[b y Z];exact h.h y a
 .rw[g];let⟨l,o,y,t,u,G⟩:=h.g k f;refine⟨l,o,y,t,u,?_⟩;grind
 .rw[g];let⟨l,o,t⟩:=h.u r s f;refine⟨l,o,λG=> ?_⟩;let⟨y,H,I,u⟩:=t G;have:y≠x:=λq=>by subst q;exact(w _ u r).2.2 U
  exact⟨y,H,I,by rwa[b y this]⟩
 .by_cases q:y=x
  .grind
  .rw[b y q]at a;exact h.N y p a
theorem Yw{x:Nat}{e:iq}(h:i≠x):(fA.gW E x e).iy i↔E.iy i:=by unfold fW.iy;show(∃a,fB E.N x (Ã e) i=Ã a/\a.iy)↔_;rw[fK _ _ h]
theorem ahO{e:iq}:(fA.gW E i e).iy i↔e.iy:=by unfold fW.iy;show(∃a,fB E.N i (Ã e) i=Ã a/\a.iy)↔_;rw[gD];grind
theorem ahP{e:iq}(h:e.iy↔E.iy i)(y:Nat):(fA.gW E i e).iy y↔E.iy y:=by grind [ahO,Yw]
theorem Yx{e:iq}(h:e.oS↔E.oS i)(y:Nat):(fA.gW E i e).oS y↔E.oS y:=by unfold fW.oS at h|-;show(∃a,fB E.N i (Ã e) y=Ã a/\a.oS)↔_;grind [gD,fK]
theorem iN.gW(L:iN F E lot sz w){x:Nat}{e:iq}(h:e.oS↔E.oS x):iN F (fA.gW E x e) lot sz w:=by
 have d:∀y,(fA.gW E x e).N y=Í->E.N y=Í:=λy c=>by
  by_cases q:y=x
  .subst q;have:fB E.N y (Ã e) y=Í:=c;grind [gD]
  .have:fB E.N x (Ã e) y=Í:=c;grind [fK]
 exact⟨L.gU,L.o,L.mb,L.e,λa b=>L.f a<|d _ b,λj a b=>L.h j a<|d _ b,λj a b=>L.l j a<|d _ b,λy c=>L.S y<|(Yx h y).1 c,λi f=>L.M i (f.imp id λ⟨y,a,b,g⟩=>⟨y,a,b,λq=>g<|(Yx h y).2 q⟩),L.c,L.I,L.N,L.g,L.d⟩
def Wd.gW(W:Wd F E w){x:Nat}{e:iq}:Wd F (fA.gW E x e) w:=⟨W.C,W.I,W.jO,W.M,W.S,W.N⟩
def TI.G(a:TI F.toFx i zX E.r E.S.rl E.V E.e E.d E.iy E.f qJ){x:Nat}{e:iq}(h:e.iy↔E.iy x):TI F.toFx i zX (fA.gW E x e).r (fA.gW E x e).S.rl (fA.gW E x e).V (fA.gW E x e).e (fA.gW E x e).d (fA.gW E x e).iy (fA.gW E x e).f qJ:= {a with r:=λy b c=>a.r y b ((ahP h y).1 c)}
def PI.ahQ(H:gT F)(p:PI F i zX E S tr d lot gs w qJ){r:Nat}(t:j+2<=E.r)(o:E.N (j+1)=Í)(M:gs[F.L+1+j]?=Ã g)(iJ:g.status=Å)(ht:tr (F.L+1+j)=.fD)(C:E.C j=.nL r):km F i zX E tr gs w qJ sl (F.L+1+j):=by
 have yt:=p.G<|iY M;obtain⟨qa,rz⟩:=p.g j t o;rw[C]at qa rz;have Qa:S (F.L+1+j)=ym F.P (F.L+1+j==0) (E.I j) F.z λx=>match x with
  |some v=>λl g=>v=F.c (j+r*F.n)->rv F.P É F.B (F.I<|F.r<|j+r*F.n) (F.e (E.I j)<|j+r*F.n) .jc l g
  |none=>BO F:=by rwa[Ah H.C j]
 have hY:E.Y (E.I j):=Á<|Á ⟨j,t,U⟩;obtain⟨buf,s,D,ve,Yy,Aj,Ak⟩:=p.M.jO j t;rw[C]at D Yy Aj Ak;simp only[gP.iW]at D Yy Aj Ak;have EB:=(p.I.r).N _ hY;by_cases BU:r<s
 .have Yz:=Ak 0 Z;rw[ó]at Yz;have qF:j+r*F.n<F.q:=by
   have:=(ve r).1 BU;have:E.M.mJ F.q<=F.q:=by cases E.M<;>simp only[fX.mJ]<;>omega
   omega
  obtain⟨gs',u,T,g',O,f,Q,V,I,W,q7⟩:=p.I.nL M iJ rz ht Qa hY D Yz<|kW F (E.I j)<|.fC r .jc;have q8:=q7.kR (λl g h=>by rw[gD]at h;exact h U);rw[ahJ]at q8;obtain⟨z1,z2,z3,z4,z5⟩:=p.M.G H p.a p.C t;refine⟨gR E j<|.fC r .jc,_,_,_,_,gs',_,u,O,f,λh=>h,.r (p.N.N H.C t o) (f.trans p.b) q8 ?_ ⟨z4,z5,λv m=> ?_,z1,z2,λv m c pT a=> ?_⟩ (p.C.G t o (λk=>by rw[C,P6 U];rfl) (λc h=> ?_) (λc h=> ?_) (λc h=>by cases h) λc h=>by cases h) (Lv p.d W) (λk y b G=> ?_) λv c a1 J a3=> ?_,Er H.C yt o ?_⟩
  .rw[f];exact((p.a.r<|by rw[C];rfl).Ez<|Õ G5.symm)
  .by_cases e:v=j
   .subst e;rw[jU];refine⟨buf.extract 1 buf.size,s,Lu EB,ve,BU,by rw[Array.size_extract];simp only[gP.iW];omega,λl lH=> ?_⟩;simp only[gP.iW]at lH|-;rw[Array.getElem?_extract];rw[if_pos Z];have:=Ak (1+l) Z;rw[this,show r+(1+l)=r+1+l by omega]
   .rw[iX _ e];obtain⟨K,X,y1,y2⟩:=p.M.jO v m;refine⟨K,X,?_,y2⟩;show(w.setChan (E.I j) _ _ _ _ _ _).heap[E.I v]?=_;rwa[qG λq=>e<|p.C.M _ _ m t q]
  .by_cases e:v=j
   .subst e;rw[jU]at a;exact z3 v m c pT<|by rwa[C]
   .rw[iX _ e]at a;exact z3 v m c pT a
  .rcases h with⟨_,h⟩|h|h<;>cases h;exact qF
  .rcases h with h|h|h<;>cases h
  .by_cases e:k=F.L+1+j
   .subst e;rw[Q]at b;obtain rfl:=È b;rw[V]at G;cases G
   .rw[I k e]at b;rcases p.c k y b G with a|⟨v,m,Al,K,X|⟨r1,cap,s1,c,X,h4⟩⟩
    .exact À a
    .exact Á ⟨v,m,Al,K,À<|by rwa[iX _ Z]⟩
    .have e2:v≠j:=Z
     exact Á ⟨v,m,Al,K,Á ⟨r1,cap,s1,c,by rwa[iX _ e2],by show(w.setChan (E.I j) _ _ _ _ _ _).heap[E.I v]?=_;rwa[qG λq=>e2<|p.C.M _ _ m t q]⟩⟩
  .rw[iX _ (λe=>by subst e;rw[jU]at J;cases J)]at J;exact(p.f v c a1 J a3).app u
  .rw[C];simp only[gP.rk,jA.rk];have hm:F.n+3000<=(F.n+3000)*(F.q+3-r):=â _ (by
    have:r*1<=r*F.n:=ï _ H.C.N;omega)
   omega
 .have Qb:buf=#[]:=Array.size_eq_zero_iff.1 Z;subst Qb;have ahR:r=s:=Z
  by_cases qC:j<E.M.jj F.n
  .rw[show decide (j<E.M.jj F.n)=Ì by simpa using qC]at D;obtain⟨gs',u,T,g',O,f,Q,V,I,W,q7⟩:=p.I.jj (sl:=sl) M iJ rz ht Qa hY D .no;have YA:F.L+1+j=F.L+(j+1):=Z
   have G6:E.M.mJ F.q=F.q:=by revert qC;cases E.M<;>simp only[fX.jj,fX.mJ]<;>intro h<;>first|trivial|omega
   have Qc:¬E.iy (j+1):=λ⟨e,a,_⟩=>by rw[o]at a;cases a
   have yw:iq.iy .pA↔E.iy (j+1):=⟨λh=>h.elim,λh=>(Qc h).elim⟩;refine⟨fA.gW E (j+1) .pA,_,_,_,_,gs',w,u,O,f,λh=>h,.r (p.N.G H.C λ⟨N,h⟩=>by cases h) (f.trans p.b) (by rwa[<-YA]) (by rw[f];exact p.a.gW ⟨λh=>h.elim,λ⟨e,a,_⟩=>by rw[o]at a;cases a⟩) p.M.gW (p.C.gW Z (by rw[o];rfl) (λp' h=>by rw[o]at h;cases h) (λp' h=>by cases h) (λv h=> ?_) λh=>by omega) ((Lv p.d W).G yw) (λk y b G=> ?_) λv c a1 J a3=>(p.f v c a1 J a3).app u,EA H.C (by rwa[<-YA])<|À ?_⟩
   .have:v=j:=Z
    subst this;exact⟨qC,r,C,λl lH=>by rw[ahR];exact(ve l).2<|by rwa[G6]⟩
   .by_cases e:k=F.L+1+j
    .subst e;rw[Q]at b;obtain rfl:=È b;rw[V]at G;cases G
    .rw[I k e]at b;have l:∀v,F.L+1+v=k->(fA.gW E (j+1) .pA).N (v+1)=E.N (v+1):=λv h=>fK _ _ Z;rcases p.c k y b G with a|⟨v,m,Al,K,X⟩
     .exact À a
     .exact Á ⟨v,m,by rwa[l v K.symm],K,X⟩
   .unfold sy;rw[o];simp only[iq.rk];rw[if_neg Z,Nat.add_sub_cancel,C];simp only[gP.rk];have hm:F.n+3000<=(F.n+3000)*(F.q+3-r):=â _ (by
     have a:=H.C.N;rcases Nat.eq_zero_or_pos r with l|l
     .omega
     .have K:=(ve (r-1)).1 Z;have:(r-1)*1<=(r-1)*F.n:=ï _ a;omega)
    omega
  .rw[show decide (j<E.M.jj F.n)=É by simpa using qC]at D;obtain⟨gs',g',O,f,Q,V,I,W⟩:=p.I.ag2 M iJ rz ht Qa D;refine⟨E,S,tr,d,lot,gs',w,#[],O,f,λh=>h,.r p.N (f.trans p.b) (by rwa[Ú]) (by rw[f];exact p.a) p.M p.C (by rw[Ú];exact p.d) (λk y b l=> ?_) (by rw[Ú];exact p.f),P0 (λ_ _=>rfl) yt (by rw[Ex M,if_pos iJ]) (by rw[Ex Q,if_neg (by rw[V];simp)]) λk b=>P8<|I k b⟩;by_cases e:k=F.L+1+j
   .subst e;exact Á ⟨j,t,o,U,Á ⟨r,F.q,s,r,C,D⟩⟩
   .rw[I k e]at b;exact p.c k y b l
end
section
variable{F:Ph}{E E':fW F}{S:Nat->Jd}{tr v:Nat->gl}{m:Nat->iD}{f:Nat->fe}{gs gs':Array Ä}{u:ä}{o:Option (Nat×Nat)}
def B1(ok:F.Ok)(x:Nat):(F.L+x==0)=É:=by have:=ok.r;simp;omega
def G7(a:i<E.r):Af E (F.L+i):=Á ⟨i,a,U⟩
def PI.B2(p:PI F n zX E S tr m f gs w qJ){x:Nat}{e:iq}(b:x<E.r)(c:E.N x=Ã e)(d:gs[F.L+x]?=Ã g)(h:g.status=Å)(i:tr (F.L+x)=.fD):∀a,fI (f<|F.L+x) (f<|F.L+x).w a->JE F e {f (F.L+x)with w:=a} g:=by let⟨k,j,_⟩:=p.k x e b c;intro a r;have:=p.I.N d h i (À j) a r;simp_all
theorem Qd(B:fq F E gs w){x:Nat}{e:iq}(c:∀k y,gs[k]?=Ã y->y.status=Ü->k≠F.L+x):fq F (fA.gW E x e) gs w:=by
 intro k y a b;have h:=c k y a b;rcases B k y a b with h1|⟨j,d,i,f,g⟩
 .exact À h1
 .refine Á ⟨j,d,?_,f,g⟩;show fB E.N x (Ã e) (j+1)=Í;grind [fK]
theorem PI.ahS(H:gT F)(p:PI F n zX E S tr m f gs w qJ)(V:J<E.r)(s:E.N J=Ã .pA)(D:gs[F.L+J]?=Ã g)(X:g.status=Å)(ht:tr (F.L+J)=.fD):sx F n zX E tr gs w qJ:=by
 have G:=iY D;have C:=p.I.r;have Qc:¬E.iy J:=λ⟨e,c,d⟩=>by rw[s]at c;cases c;exact d
 have yw:iq.iy (.fZ .jK)↔E.iy J:=⟨λh=>h.elim,λh=>(Qc h).elim⟩;have Ai:ja F.S (λi=>i<gs.size) E.Y (gi f (F.L+J)<|kI {f (F.L+J)with w:=w}) w qJ:= C.C G (λ_ q=>q.elim) (λ_ q=>q.elim) (λ_ q=>q.elim) (λ_ q=>q.elim) U U U (λ_ q=>q.elim) λ_ q=>q.elim;have hF:lu F.P (F.L+J==0) (JE F<|.fZ .jK) .fD (kI {f (F.L+J)with w:=w}) g:=by rw[B1 H.C J];intro l T;let⟨W,a,b,j,k⟩:=p.B2 V s D X ht w<|C.r _ G;exact⟨W,a,b,j,k.kj T⟩
 refine⟨fA.gW E J<|.fZ .jK,_,_,_,_,λh=>h,.r (p.N.G H.C λ⟨N,h⟩=>by cases h) p.b (p.I.M (K:=.no) D (À X) Ai hF) ?_ p.M.gW (p.C.gW V (by rw[s];rfl) (λT h=>by rw[s]at h;cases h) (λT h W=>by cases h;exact⟨fp,fp,fp⟩) (λj h=> ?_) λh=>(p.C.f<|by rw[<-h,s];simp)) (p.d.G yw) (Qd p.c λk y W z e=> ?_) p.f,EA H.C (p.G G)<|À ?_⟩
 .have L:=p.a;have B:(gi f (F.L+J)<|kI {f (F.L+J)with w:=w}) (F.L+J)=kI {f (F.L+J)with w:=w}:=gV _ _ _;have l:∀k,k≠F.L+J->(gi f (F.L+J)<|kI {f (F.L+J)with w:=w}) k=f k:=λk W=>gI f _ W;have h0:(0:Nat)≠F.L+J:=by have:=H.C.r;omega
  have I:∀k a,(gi f (F.L+J) (kI {f (F.L+J)with w:=w}) k).r a->(f k).r a:=λk a h=>by
   by_cases q:k=F.L+J
   .subst q;rw[B]at h;exact h.elim
   .grind
  have sO:∀k a,(gi f (F.L+J) (kI {f (F.L+J)with w:=w}) k).O a->(f k).O a:=λk a h=>by
   by_cases q:k=F.L+J
   .subst q;rw[B]at h;exact h.elim
   .grind
  have ee:(fA.gW E J<|.fZ .jK).N J=Ã (.fZ .jK):=gD _ _ _;have v:∀y,y≠J->(fA.gW E J<|.fZ .jK).N y=E.N y:=λy M=>fK _ _ M;refine⟨λk W a u=> ?_,λy c d a u=>by rw[l 0 h0];exact L.o y c d a u,λh=>by rw[l 0 h0];exact L.mb h,λh k c d=> ?_,λc d=> ?_,λj c d r t Q=> ?_,λj c d=> ?_,λy M=> ?_,λi o=> ?_,λk c d=>by rw[l k Z];exact L.c k c d,λk W b z=>⟨(L.I k W b z).1,(L.I k W b z).2.1,λi o h=>(L.I k W b z).2.2 i o<|sO _ _ h⟩,λk W i o h=>L.N k W i o<|I _ _ h,λk c d i o h=>L.g k c d i o<|I _ _ h,λj c r d t i o h=>L.d j c r d t i o<|I _ _ h⟩
  .by_cases q:k=F.L+J
   .subst q;rw[B]at u;rcases u with h|h<;>exact h.elim
   .rw[l k q]at u;exact L.gU k W a u
  .by_cases q:F.L=F.L+J
   .have hx0:J=0:=Z
    subst hx0;have:=p.C.f (by rw[s];simp);have T:E.S.md<k:=c;rw[this]at T;simp only[jF.md]at T;omega
   .rw[l _ q];exact L.e h k c d
  .by_cases q:F.L=F.L+J
   .grind
   .rw[l _ q];exact L.f c<|by rwa[<-v 0 Z]
  .by_cases q:F.L+1+j=F.L+J
   .grind
   .rw[l _ q];exact L.h j c (by rwa[<-v (j+1) Z]) r t Q
  .by_cases q:F.L+1+j=F.L+J
   .grind
   .rw[l _ q];exact L.l j c<|by rwa[<-v (j+1) Z]
  .by_cases q:F.L+y=F.L+J
   .rw[q,B];rfl
   .rw[l _ q];exact L.S y (by let⟨T,c,d⟩:=M;exact⟨T,by rwa[<-v y Z],d⟩)
  .by_cases q:i=F.L+J
   .subst q;rcases o with q|⟨y,c,d,t⟩
    .grind
    .have:y=J:=Z
     subst this;exact absurd ⟨_,ee,trivial⟩ t
   .rw[l _ q];refine L.M i<|o.imp id λ⟨y,c,d,t⟩=>⟨y,c,d,λ⟨T,Q,h5⟩=>t ⟨T,by rwa[v y Z],h5⟩⟩
 .have:=p.C.l j Z (by rw[<-h,s];simp);exact this
 .grind
 .unfold sy;rw[s];simp only[iq.rk,jN.rk];omega
def B3(E:fW F)(x:Nat)(e:iq)(G:GS)(a:Option Nat):fW F:={fA.gW E x e with b:=G,g:=a}
theorem Ps.G8(h:Ps F E){e:iq}{G:GS}{la:Option Nat}(v:i<E.r)(D:∃w,E.N i=Ã w)(O:∀y,y≠i->∀p,E.N y=Ã (.fZ p)->∀W,p≠ .gw W/\p≠ .jg W/\p≠ .iE W) (H:∀c d,G=.cl c d->c=Ñ (F.n+1) (fA.gW E i e).G/\d=E.M.gB) (I:∀d,G=.jM d->Ñ (F.n+1) (fA.gW E i e).G=0/\d=E.M.gB/\la=Ã i/\(e=.fZ (.gw d)\/e=.fZ (.jg d))) (J:∀r s,G=.gZ r s->Ñ (F.n+1) (fA.gW E i e).G=0/\r+s=E.M.gB/\(0<r->la=Ã i/\e=.fZ (.iE r))) (K:∀p,e=.fZ p->(∀W,p=.gw W\/p=.jg W->la=Ã i/\G=.jM W)/\(∀r,p=.iE r->0<r/\la=Ã i/\∃s,G=.gZ r s)) (L:E.M=.fC .gw\/E.M=.fC .ly\/E.M=.fZ->Ñ (F.n+1) (fA.gW E i e).G=0) (M:E.M=.fC .gw->∃a b,G=.gZ a b) (N:(∀p,E.M≠ .fC p)->E.M≠ .fZ->∃c,G=.cl c 0):Ps F (B3 E i e G la):=by
 have l:∀y,y≠i->(B3 E i e G la).N y=E.N y:=λy f=>fK _ _ f;have m:(B3 E i e G la).N i=Ã e:=gD _ _ _;let⟨w,z⟩:=D;refine⟨h.v,h.C,h.K,h.L,h.J,h.I,h.z,h.d,λj B g=> ?_,λg=> ?_,λy f=> ?_,h.M,h.o,H,λd o=> ?_,λr s o=> ?_,λy p f=> ?_,L,h.e,h.Y,h.w,h.H,M,N,h.y,h.D⟩
 .by_cases q:j+1=i
  .exact h.l j B<|by rw[q,z];simp
  .rw[l _ q]at g;exact h.l j B g
 .by_cases q:0=i
  .exact h.f<|by rw[q,z];simp
  .rw[l _ q]at g;exact h.f g
 .have:E.r<=y:=f;rw[l y Z];exact h.h y f
 .let⟨t,u,k,C⟩:=I d o;exact⟨t,u,i,v,k,by rw[m];exact C.imp (λq=>by rw[q]) λq=>by rw[q]⟩
 .let⟨t,u,k⟩:=J r s o;exact⟨t,u,λC=>⟨i,v,(k C).1,by rw[m,(k C).2]⟩⟩
 .by_cases q:y=i
  .subst q;rw[m]at f;exact K p<|È f
  .grind
def ahT{G:GS}(a:ik W F.C G)(h:Wd F {E with b:=G,a:=E.a} W){x:Nat}{e:iq}{b:Option Nat}:Wd F (B3 E x e G b) W:=⟨a,h.I,h.jO,h.M,h.S,h.N⟩
theorem PI.G9(H:gT F)(p:PI F n zX E S tr m f gs w qJ){x:Nat}{a e:iq}{G:GS}{la:Option Nat}{c:Ä}{T:gl}(hx:x<E.r)(d:E.N x=Ã a)(t:a.iy)(I:e.iy)(J:e.oS)(v:gs[F.L+x]?=Ã g)(z:kJ F.C w W)(B:ik W F.C G)(K:Ŏ F.P (ð gs w o) (F.L+x)=(ğ<|ð gs' W o,u))(C:gs'.size=gs.size)(M:gs'[F.L+x]?=Ã c)(O:c.status=Å\/c.status=å)(Q:∀k,k≠F.L+x->gs'[k]?=gs[k]?.map (Ā F.P g c W)) (X:gM F.P F.S E.Y (fB S (F.L+x)<|JE F e) (fB tr (F.L+x) T) (fB m (F.L+x) .no) (gi f (F.L+x) {f (F.L+x)with w:=W}) gs' W (qJ++u)) (q6:TI F.toFx n zX E.r E.S.rl E.V E.e E.d E.iy E.f (qJ++u)) (q7:iN F E (gi f (F.L+x) {f (F.L+x)with w:=W}) gs'.size W) (hT:(∃N,e=.jz N)->T=.fD) (hP:Ps F (B3 E x e G la)) (YB:(e.rk F).1<(a.rk F).1\/((e.rk F).1=(a.rk F).1/\(e.rk F).2<(a.rk F).2)) (vd:E.M=.fC .kH->E.b.sm=0->G.sm=0\/∀y,gs'[0]?=Ã y->y.status≠Ü):km F n zX E tr gs w qJ o (F.L+x):=by
 have D:F.M F.C:=À U;refine⟨B3 E x e G la,_,_,_,_,gs',W,u,K,C,λh=>h,.r ?_ (C.trans p.b) X ?_ (ahT B<|z.I H p.a p.C p.M D ⟨λ_=>B,λq=>absurd U q⟩ λk b=>⟨λq=>absurd q.symm<|H.C.M k b,λ_=>rfl⟩) hP (q6.G<|⟨λ_=>⟨a,d,t⟩,λ_=>I⟩) ?_ λj r b l s=>(p.f j r b l s).app u,?_⟩
 .have:=p.N.G (x:=x) H.C hT;exact⟨this.M,this.Y,this.I,this.C,this.r⟩
 .have:=q7.gW (⟨λ_=>Yd ⟨a,d,t⟩,λ_=>J⟩);exact⟨this.gU,this.o,this.mb,this.e,this.f,this.h,this.l,this.S,this.M,this.c,this.I,this.N,this.g,this.d⟩
 .refine p.c.rp (E':=B3 E x e G la) M (by rcases O with q|q<;>rw[q]<;>simp) Q (λj i=>z.C p.C D i) U U (λy i=>fK _ _ Z) (λ_=>rfl) (λ_ _=>rfl) (λ_ i j=>vd i j) λ_ _ _ _ h=>À h
 .have j:sy F E x=a.rk F:=by unfold sy;rw[d]
  have:=EA (E:=E) (tr:=tr) (gs:=gs) (gs':=gs') (T:=T) H.C (p.G<|iY v) (by rwa[j]);rcases this with⟨i,b,l,s⟩|⟨b,_⟩
  .exact À ⟨i,b,l,s⟩
  .exfalso;have:=b _<|p.G<|iY v;change(fA.gW E x e).iU (fB tr (F.L+x) T) (F.L+x)=E.iU tr (F.L+x)at this;rw[Ll H.C (E:=fA.gW E x e)<|gD _ _ _,Ll H.C d]at this;grind
theorem ahU(h:V=#[kG<|fQ F.C,nk<|fQ F.C]\/V=#[kG<|fQ F.C]\/V=#[nk<|fQ F.C]\/V=ö (gY F.C)):∀e∈V,∀b,(Ë e).touch?=Ã b->∃y:Č,b.loc=ú y/\y.block=F.C:=by
 intro e c b f;have:∃x:Č,x.block=F.C/\(e.loc=ú x\/e.loc=ŭ õ\/e.loc=ŭ î):=by
  rcases h with rfl|rfl|rfl|rfl
  .simp at c;rcases c with rfl|rfl<;>exact⟨fQ F.C,U,À U⟩
  .simp at c;subst c;exact⟨fQ F.C,U,À U⟩
  .simp at c;subst c;exact⟨fQ F.C,U,À U⟩
  .simp[ö]at c;rcases c with rfl|rfl|rfl|rfl
   .exact⟨gY F.C,U,Á<|À U⟩
   .exact⟨gY F.C,U,À U⟩
   .exact⟨gY F.C,U,À U⟩
   .exact⟨gY F.C,U,Á<|Á U⟩
 let⟨x,g,a⟩:=this;let⟨i,wr,d⟩:=e;rcases a with a|a|a
 .simp only at a;subst a;have:(Ë ⟨ú x,wr,d⟩).touch?=Ã ⟨ú x,wr,if d then .atomic else .plain⟩:=by cases wr<;>cases d<;>rfl
  grind
 .simp only at a;subst a;simp[Ë,Ċ]at f
 .simp only at a;subst a;simp[Ë,Ċ]at f
def Ha(p:PI F n zX E S tr m f gs w qJ)(a:F.L+i<gs.size)(c:(f<|F.L+i).d=1)(h:V=#[kG<|fQ F.C,nk<|fQ F.C]\/V=#[kG<|fQ F.C]\/V=#[nk<|fQ F.C]\/V=ö (gY F.C)): ∀y,E.iy y->F.L+i=F.L+y->(∀e∈V,∀b,(Ë e).touch?=Ã b->∃y:Č,b.loc=ú y/\y.block=F.C)/\BQ (κ qJ<|F.L+i) V:=by
 intro y _ _;refine⟨ahU h,?_⟩;rw[p.I.r.f _ a,c];rcases h with rfl|rfl|rfl|rfl
 .exact Lm.1
 .exact Lm.2.1
 .exact Lm.2.2.1
 .exact Lm.2.2.2
def PI.ahV(H:gT F)(p:PI F n zX E S tr m f gs w qJ){x:Nat}(i:x<E.r)(a:E.N x=Ã (.fZ .jK))(k:gs[F.L+x]?=Ã g)(G:g.status=Å)(I:tr (F.L+x)=.fD):km F n zX E tr gs w qJ o (F.L+x):=by
 have s:=iY k;have C:=p.I.r;let⟨J,_,g',c,d⟩:=p.B2 i a k G I w<|C.r _ s;have t:=B1 H.C x;have u:∀y:Ă,y.act=ė (į<|fQ F.C)->y.act.touch?=Í:=λy b=>by rw[b];rfl
 let⟨T,K⟩:=jq d;have v:=lP (λl g h=>À h.2.1) d;obtain⟨gs',y,M,O,P,B,Q,V,X,Y⟩:=p.BX H .no k (by rw[t];exact c w) fp fp (λy b=>⟨λz l=>(by rw[u y b]at l;cases l),by rw[b];exact C.N _<|À<|À U⟩) (λy _ b=>BG C.l λq j=>by rw[yu j];exact u y b) (by rwa[t]) v;have D:=p.d.ahe i M O ((C.f _ s).trans J) (λ⟨e,c,d⟩=>by rw[a]at c;cases c;exact d);refine⟨{fA.gW E x (.fZ .iG)with f:=fB E.f x qJ.size},_,_,_,_,gs',w,#[y],P,B,λh=>h,.r ?_ (B.trans p.b) X ?_ (⟨p.M.C,p.M.I,p.M.jO,p.M.M,p.M.S,p.M.N⟩) ?_ ?_ ?_ λj r q W a3=>(p.f j r q W a3).app _,EA H.C (p.G s)<|À ?_⟩
 .have:=p.N.G (x:=x) (e:=.fZ .iG) (T:=T) H.C (λ⟨N,h⟩=>by cases h);exact⟨this.M,this.Y,this.I,this.C,this.r⟩
 .have:=Y.gW (x:=x) (e:=.fZ .iG) (⟨λ_=>⟨_,a,trivial⟩,λ_=>trivial⟩);exact⟨this.gU,this.o,this.mb,this.e,this.f,this.h,this.l,this.S,this.M,this.c,this.I,this.N,this.g,this.d⟩
 .have h:=p.C.gW (x:=x) (e:=.fZ .iG) i (by rw[a];rfl) (λq h W=>by rw[a]at h;cases h;exact⟨fp,fp,fp⟩) (λq h W=>by cases h;exact⟨fp,fp,fp⟩) (λj h=>p.C.l j Z<|by rw[<-h,a];simp) (λh=>p.C.f<|by rw[<-h,a];simp);exact⟨h.v,h.C,h.K,h.L,h.J,h.I,h.z,h.d,h.l,h.f,h.h,h.M,h.o,h.t,h.g,h.u,h.N,h.B,h.e,h.Y,h.w,h.H,h.O,h.S,h.y,h.D⟩
 .refine{D with r:=λz l j=>D.r z l ?_};by_cases q:z=x
  .exact Á q
  .exact À<|(Yw q).1 j
 .refine p.c.rp (E':={fA.gW E x (.fZ .iG)with f:=fB E.f x qJ.size}) Q (by rcases v with q|q<;>rw[q]<;>simp) V (λ_ _=>rfl) U U (λy b=>fK _ _ Z) (λ_=>rfl) (λ_ _=>rfl) (λ_ _ h=>À h) λ_ _ _ _ h=>À h
 .unfold sy;rw[a];simp only[iq.rk,jN.rk];omega
end
section
variable{F:Ph}{E K:fW F}{S:Nat->Jd}{o M:Nat->gl}{G:Nat->iD}{B:Nat->fe}{m J:Array Ä}{u:ä}{I:Option (Nat×Nat)}
def YC{N:Nat}{l:fe}(h:Ź P N l.d g):lu P É (p8 P N) .fD l g:=λ_ _=>h
def YD(a:Ps F E):E.r<=E.M.ad F.n:=by unfold fW.r;cases E.M<;>simp only[fX.sp,fX.ad]<;>omega
theorem Hb(b:Ps F E){e:iq}(d:i<E.r):Ñ (F.n+1) (fA.gW E i e).G+my (E.N i)=Ñ (F.n+1) E.G+e.kS:=by
 have g:=YD b;have h:=Ep b;have:=yr (f:=E.G) (f':=(fA.gW E i e).G) (j:=i) (n:=F.n+1) Z (λa c=>by unfold fW.G;show(if a<E.M.ad F.n then my (fB E.N i (Ã e) a)else 0)=_;rw[fK _ _ c]);have a:E.G i=my (E.N i):=by unfold fW.G;rw[if_pos Z]
 have c:(fA.gW E i e).G i=e.kS:=by unfold fW.G;show(if i<E.M.ad F.n then my (fB E.N i (Ã e) i)else 0)=_;rw[if_pos Z,gD];rfl
 grind
theorem YE(a:Ps F E)(h:E.b=.cl i n):∀y p,E.N y=Ã (.fZ p)->∀W,p≠ .gw W/\p≠ .jg W/\p≠ .iE W:=by intro y p b W;let⟨d,e⟩:=a.N y p b;grind
theorem Qe(a:Ps F E)(h:E.g=Ã i):∀y,y≠i->∀p,E.N y=Ã (.fZ p)->∀W,p≠ .gw W/\p≠ .jg W/\p≠ .iE W:=by intro y c p b W;let⟨d,e⟩:=a.N y p b;grind
def PI.ahW(p:PI F n zX E S o G B m w qJ)(e:i<E.r)(d:E.N i=Ã (.fZ .iG)):∃c a,E.b=.cl (c+1) a/\c+1=Ñ (F.n+1) E.G/\a=E.M.gB/\¬(E.M=.fC .gw\/E.M=.fC .ly\/E.M=.fZ):=by
 have g:1<=Ñ (F.n+1) E.G:=by
  have q:=YD p.C;have r:=Ep p.C;have:=PY (f:=E.G) (j:=i) (n:=F.n+1) Z;have s:E.G i=1:=by unfold fW.G;rw[if_pos Z,d];rfl
  omega
 obtain⟨c,a,b⟩:∃c a,E.b=.cl (c+1) a:=by
  cases q:E.b with
  |cl c a=>
   have:=(p.C.t c a q).1;exact⟨c-1,a,by congr 1;omega⟩
  |jM a=>have:=(p.C.g a q).1;omega
  |gZ r s=>have:=(p.C.u r s q).1;omega
 let⟨r,s⟩:=p.C.t _ _ b;exact⟨c,a,b,r,s,λq=>by have:=p.C.B q;omega⟩
theorem PI.ahX(H:gT F)(p:PI F n zX E S o G B m w qJ)(f:i<E.r)(v:E.N i=Ã (.fZ .iG))(z:m[F.L+i]?=Ã g)(iJ:g.status=Å)(ht:o (F.L+i)=.fD)(hc:E.b=.cl (j+1) k)(Hc:j+1=Ñ (F.n+1) E.G)(YF:k=E.M.gB)(Hd:¬(E.M=.fC .gw\/E.M=.fC .ly\/E.M=.fZ))(hl:j=0/\0<k):km F n zX E o m w qJ I (F.L+i):=by
 have t:=iY z;have C:=p.I.r;let⟨hd,_,vf⟩:=p.B2 f v z iJ ht w<|C.r _ t;have mc:=B1 H.C i;have Q:F.M F.C:=À U;have K:=hc▸p.M.C;let⟨ev,V⟩:=K.jT;have X:=vf (GS.cl (j+1) k).st;rw[ev]at X V;obtain⟨d,M⟩:∃d,(GS.jT<|.cl (j+1) k).st=d:=⟨_,U⟩;rw[M]at X;let⟨g',h1,h2⟩:=X;have Y:=h1 w K.C K.I;rw[<-M]at Y;let⟨k1,k2,k3⟩:=K.r;have O:kJ F.C w (w.setCell (fQ F.C)<|ë Ó (GS.jT<|.cl (j+1) k).st):=Á ⟨_,_,À U,U⟩;have D:=O.r p.a H.C Q;have yx:fI {B (F.L+i)with w:=w} w (w.setCell (fQ F.C)<|ë Ó (GS.jT<|.cl (j+1) k).st):=⟨Õ D.r.symm,λb kU=>D.ki b<|C.I _ t b kU,λa ha=>D.M _ t a ha,λa ha=>D.N _ t a ha,λa _=>D.I a⟩;have ed:GS.jT (.cl (j+1) k)=.jM k:=by simp only[GS.jT,if_pos hl]
 rw[ed]at Y V O D yx M;have hW:fi F.P É (La F.P É F.C (GO F) k) {B (F.L+i)with w:=w} g':=by
  have r:d=(k:Int):=M.symm;have l:¬(d=0\/(fY<=d/\d<1000000*fY/\d%fY<1000000)):=by simp only[fY];omega
  grind
 let⟨T,hT⟩:=jq<|hW.kj yx;have mq:=lP (λl g h=>À h.2.1) hW;obtain⟨J,u,l,q2,q3,q4,q5,q6,q7⟩:=p.Y H .no z (G7 f) Q (by rwa[mc]) O (BR Q) U (Ha p t hd<|À U) (by rwa[mc]) mq;have Am:=Hb p.C (e:=.fZ (.gw k)) f;rw[v]at Am;refine p.G9 H (e:=.fZ (.gw k)) (la:=Ã i) f v trivial trivial trivial z O V l q2 q3 mq q4 q5 q6 q7 (λ⟨N,h⟩=>by cases h) (p.C.G8 f ⟨_,v⟩ (λy _ q r W=>YE p.C hc y q r W) (λy r h=>by cases h) (λr h=> ?_) (λr s h=>by cases h) (λq h=> ?_) (λq=>absurd q Hd) (λq=>absurd (À q) Hd) λl q2=> ?_) (À ?_) λ_ _=>À rfl
 .injection h with h;subst h;exact⟨(by simp only[my,iq.kS,jN.kS]at Am;omega),YF,U,À U⟩
 .grind
 .let⟨y,r⟩:=p.C.S l q2;grind
 .simp only[iq.rk,jN.rk];grind
theorem PI.ahY(H:gT F)(p:PI F n zX E S o G B m w qJ)(f:i<E.r)(t:E.N i=Ã (.fZ .iG))(v:m[F.L+i]?=Ã g)(iJ:g.status=Å)(ht:o (F.L+i)=.fD)(hc:E.b=.cl (j+1) k)(Hc:j+1=Ñ (F.n+1) E.G)(YF:k=E.M.gB)(Hd:¬(E.M=.fC .gw\/E.M=.fC .ly\/E.M=.fZ))(hl:¬(j=0/\0<k)):km F n zX E o m w qJ I (F.L+i):=by
 have l:=iY v;have C:=p.I.r;let⟨hd,_,vf⟩:=p.B2 f t v iJ ht w<|C.r _ l;have mc:=B1 H.C i;have O:F.M F.C:=À U;have z:=hc▸p.M.C;let⟨ev,P⟩:=z.jT;have Q:=vf (GS.cl (j+1) k).st;rw[ev]at Q P;obtain⟨d,K⟩:∃d,(GS.jT<|.cl (j+1) k).st=d:=⟨_,U⟩;rw[K]at Q;let⟨g',h1,h2⟩:=Q;have T:=h1 w z.C z.I;rw[<-K]at T;let⟨k1,k2,k3⟩:=z.r;have M:kJ F.C w (w.setCell (fQ F.C)<|ë Ó (GS.jT<|.cl (j+1) k).st):=Á ⟨_,_,À U,U⟩;have D:=M.r p.a H.C O;have yx:fI {B (F.L+i)with w:=w} w (w.setCell (fQ F.C)<|ë Ó (GS.jT<|.cl (j+1) k).st):=⟨Õ D.r.symm,λb kU=>D.ki b<|C.I _ l b kU,λa V=>D.M _ l a V,λa V=>D.N _ l a V,λa _=>D.I a⟩;have ed:GS.jT (.cl (j+1) k)=.cl j k:=by simp only[GS.jT,if_neg hl]
 rw[ed]at T P M D yx K;obtain⟨N,hN⟩:GO F {B (F.L+i)with w:=w} g':=by
  have q:d=(j:Int)*fY+(k:Int):=K.symm;have h:d=0\/(fY<=d/\d<1000000*fY/\d%fY<1000000):=by simp only[fY]at q|-;omega
  grind
 have mq:=hN.status;obtain⟨J,u,X,Y,q3,q4,q5,q6,q7⟩:=p.Y H .no v (G7 f) O (by rwa[mc]) M (BR O) U (Ha p l hd<|À U) (by rw[mc];exact YC hN) mq;have Am:=Hb p.C (e:=.jz N) f;rw[t]at Am;have hz:Ñ (F.n+1) (fA.gW E i<|.jz N).G=j:=by simp only[my,iq.kS,jN.kS]at Am;omega
 refine p.G9 H (e:=.jz N) (la:=E.g) f t trivial trivial trivial v M P X Y q3 mq q4 q5 q6 q7 (λ_=>rfl) (p.C.G8 f ⟨_,t⟩ (λy _ q h W=>YE p.C hc y q h W) (λy r h=> ?_) (λr h=>by cases h) (λr s h=>by cases h) (λq h=>by cases h) (λq=>absurd q Hd) (λq=>absurd (À q) Hd) λX Y=> ?_) (À ?_) λ_ _=>À rfl
 .grind
 .let⟨y,h⟩:=p.C.S X Y;grind
 .simp only[iq.rk,jN.rk];omega
def PI.ahZ(H:gT F)(p:PI F n zX E S o G B m w qJ)(a:i<E.r)(b:E.N i=Ã (.fZ .iG))(d:m[F.L+i]?=Ã g)(e:g.status=Å)(f:o (F.L+i)=.fD):km F n zX E o m w qJ I (F.L+i):=by
 let⟨c,r,h,j,k,l⟩:=p.ahW a b;by_cases q:c=0/\0<r
 .exact p.ahX H a b d e f h j k l q
 .exact p.ahY H a b d e f h j k l q
theorem PI.ah0(H:gT F)(p:PI F n zX E S o G B m w qJ)(c:i<E.r)(d:E.N i=Ã (.fZ (.gw j)))(f:m[F.L+i]?=Ã g)(O:g.status=Å)(P:o (F.L+i)=.fD):km F n zX E o m w qJ I (F.L+i):=by
 have y:=iY f;let⟨Q,_,V⟩:=p.B2 c d f O P w<|(p.I.r).r _ y;have z:=B1 H.C i;have C:F.M F.C:=À U;let⟨X,k⟩:=(p.C.N i _ d).1 j<|À U;have D:=k▸p.M.C;let⟨g',Y,t⟩:=V (j:Int);simp only[if_true]at t;let⟨T,hT⟩:=jq t;have K:=lP (λl g h=>À h.2.1) t;obtain⟨J,u,l,v,q3,q4,q5,q6,q7⟩:=p.Y H .no f (G7 c) C (by rw[z];exact Y w D.C) (À U) (Ag C) U (Ha p y Q<|Á<|À U) (by rwa[z]) K;have M:=Hb p.C (e:=.fZ (.jg j)) c;rw[d]at M;let⟨b1,b2,_⟩:=p.C.g j k;have hz:Ñ (F.n+1) (fA.gW E i<|.fZ (.jg j)).G=0:=by simp only[my,iq.kS,jN.kS]at M;omega
 refine p.G9 H (e:=.fZ (.jg j)) (la:=E.g) c d trivial trivial trivial f (À U) D l v q3 K q4 q5 q6 q7 (λ⟨N,h⟩=>by cases h) (p.C.G8 c ⟨_,d⟩ (Qe p.C X) (λc' a h=>by cases h) (λa h=> ?_) (λr s h=>by cases h) (λa h=> ?_) (λ_=>hz) (λq=> ?_) λl v=> ?_) (À ?_) λ_ h=>À rfl
 .grind
 .grind
 .let⟨a,b,h⟩:=p.C.O q;rw[k]at h;cases h
 .let⟨c',a⟩:=p.C.S l v;grind
 .simp only[iq.rk,jN.rk];omega
theorem PI.ah1(H:gT F)(p:PI F n zX E S o G B m w qJ)(c:i<E.r)(d:E.N i=Ã (.fZ (.jg j)))(k:m[F.L+i]?=Ã g)(P:g.status=Å)(Q:o (F.L+i)=.fD):km F n zX E o m w qJ I (F.L+i):=by
 have f:=iY k;have C:=p.I.r;let⟨V,_,g',X,z⟩:=p.B2 c d k P Q w<|C.r _ f;have K:=B1 H.C i;have v:F.M F.C:=À U;let⟨Y,M⟩:=(p.C.N i _ d).1 j<|Á U;have t:=M▸p.M.C;have He:=t.r.1;have y:kJ F.C w (w.setCell (fQ F.C)<|ë Ó 0):=Á ⟨_,_,À U,U⟩;have D:=y.r p.a H.C v;let⟨T,hT⟩:=jq (z.kj ⟨Õ D.r.symm,λb l=>D.ki b<|C.I _ f b l,λa h=>D.M _ f a h,λa h=>D.N _ f a h,λa _=>D.I a⟩);have O:=lP (λl g h=>by
  cases j with
  |zero=>omega
  |succ j=>exact À h.2.1) z
 obtain⟨J,u,a,b,q3,q4,q5,q6,q7⟩:=p.Y H .no k (G7 c) v (by rw[K];exact X w _ t.C t.I) y (Yl v) U (Ha p f V<|Á<|Á<|À U) (by rwa[K]) O;have l:=Hb p.C (e:=.fZ (.iE j)) c;rw[d]at l;let⟨b1,b2,_⟩:=p.C.g j M;have hz:Ñ (F.n+1) (fA.gW E i<|.fZ (.iE j)).G=0:=by simp only[my,iq.kS,jN.kS]at l;omega
 refine p.G9 H (e:=.fZ (.iE j)) (la:=E.g) c d trivial trivial trivial k y t.X9 a b q3 O q4 q5 q6 q7 (λ⟨N,h⟩=>by cases h) (p.C.G8 c ⟨_,d⟩ (Qe p.C Y) (λc' q h=>by cases h) (λq h=>by cases h) (λr s h=> ?_) (λq h=> ?_) (λ_=>hz) (λq=>⟨j,0,rfl⟩) λa b=> ?_) (À ?_) λ_ h=>À rfl
 .grind
 .cases h;simp_all
 .let⟨c',q⟩:=p.C.S a b;grind
 .simp only[iq.rk,jN.rk];omega
def YG(p:PI F n zX E S o G B m w qJ){a y:Ä}(d:mayWake F.P g=Ì)(f:a.status=Å)(i:m[k]?=Ã y)(j:G k=.iE):(Ā F.P g a W y).status≠Ü:=by
 intro h;let⟨e,l⟩:=GV h;let⟨g0,_,b,c,_⟩:=p.I.C k y i;rw[j]at b;cases b with
 |gO=>rw[l]at c;rcases c with q|q<;>cases q
 |oR r q=>
  unfold Ā at h;rw[if_pos (by simp[d,f])]at h;unfold ď at h;simp only[q]at h;cases h
def PI.ah2(H:gT F)(p:PI F n zX E S o G B m w qJ)(c:i<E.r)(d:E.N i=Ã (.fZ (.iE j)))(k:m[F.L+i]?=Ã g)(iJ:g.status=Å)(ht:o (F.L+i)=.fD):km F n zX E o m w qJ I (F.L+i):=by
 have f:=iY k;have C:=p.I.r;let⟨hr0,K,s,M⟩:=(p.C.N i _ d).2 j U;obtain⟨j,rfl⟩:∃O,j=O+1:=⟨j-1,Z⟩;let⟨hd,_,Qf,g',Q,h1,h2⟩:=p.B2 c d k iJ ht w<|C.r _ f;have mc:=B1 H.C i;have V:F.M F.C:=À U;have W:=M▸p.M.C;have X:kJ F.C w (w.setCell (gY F.C)<|ë ç<|ç.wrap<|(GS.gZ (j+1) s).sm+1):=Á ⟨_,_,Á U,U⟩;have D:=X.r p.a H.C V;let⟨b1,b2,_⟩:=p.C.u _ _ M;obtain⟨e,T,hF,Y,An,he3,YH⟩:∃(e:iq) (T:gl),lu F.P É (JE F e) T {B (F.L+i)with w:=w.setCell (gY F.C) (ë ç<|ç.wrap<|(GS.gZ (j+1) s).sm+1)} g'/\(e.iy/\e.oS/\e.kS=0)/\((∃N,e=.jz N)->T=.fD)/\((e.rk F).1<((iq.fZ<|.iE (j+1)).rk F).1)/\((j=0/\∃N,e=.jz N)\/(0<j/\e=.fZ (.iE j))):=by
  cases j with
  |zero=>
   obtain⟨N,hN⟩:GO F {B (F.L+i)with w:=w} g':=h2;exact⟨.jz N,.fD,YC hN,⟨trivial,trivial,U⟩,λ_=>rfl,by simp only[iq.rk,jN.rk];omega,À ⟨U,N,U⟩⟩
  |succ j=>
   let⟨T,hT⟩:=jq (h2.kj ⟨Õ D.r.symm,λb kU=>D.ki b<|C.I _ f b kU,λa ha=>D.M _ f a ha,λa ha=>D.N _ f a ha,λa _=>D.I a⟩);have Yp:j+1+1+s<=1:=by rw[b2];cases E.M<;>simp only[fX.gB]<;>first|omega|(rename_i v;cases v<;>simp[jA.tT])
   omega
 obtain⟨J,u,q1,q2,q3,q4,q5,q6,q7⟩:=p.Y H .no k (G7 c) V (by rw[mc];exact h1 w _ W.M W.N) X (GZ V) (G0 _).2.2.2 (Ha p f hd<|Á<|Á<|Á U) (by rwa[mc])<|À Q;have Am:=Hb p.C (e:=e) c;rw[d,Y.2.2]at Am;have hz:Ñ (F.n+1) (fA.gW E i e).G=0:=by simp only[my,iq.kS,jN.kS]at Am;omega
 refine p.G9 H (la:=E.g) c d trivial Y.1 Y.2.1 k X W.jK q1 q2 q3 (À Q) q4 q5 q6 q7 An (p.C.G8 c ⟨_,d⟩ (Qe p.C K) (λc' ah3 h=>by cases h) (λah3 h=>by cases h) (λO s' h=> ?_) (λp' h=> ?_) (λ_=>hz) (λq=>⟨j,s+1,rfl⟩) λq1 q2=> ?_) (À he3) λhm _=>Á λy hy=> ?_
 .injection h with h l;subst h l;refine⟨hz,Z,λhr=>⟨K,?_⟩⟩;rcases YH with⟨q,_⟩|⟨_,q⟩
  .omega
  .exact q
 .subst h;rcases YH with⟨_,N,q⟩|⟨hr,q⟩
  .cases q
  .cases q;exact⟨λW' t=>(by rcases t with t|t<;>cases t),λO pT=>by cases pT;exact⟨hr,K,s+1,U⟩⟩
 .let⟨c',l⟩:=p.C.S q1 q2;rw[M]at l;cases l
 .have h0:(0:Nat)≠F.L+i:=by have:=H.C.r;omega
  rw[q4 0 h0]at hy;obtain⟨z,Hf,rfl⟩:=Ù.1 hy;exact YG p Qf Q Hf<|by rw[p.h.2,hm];rfl
end
section
variable{F:Ph}{E E':fW F}{S:Nat->Jd}{f D:Nat->gl}{o:Nat->iD}{v:Nat->fe}{l z:Array Ä}{u:ä}{I:Option (Nat×Nat)}
def B4(ok:F.Ok):(F.L==0)=É:=by have:=ok.r;simp;omega
def EC(h:0<E.r):Af E F.L:=Á ⟨0,h,U⟩
def ED(b:E.N 0=Í):∀x,E.iy x->F.L=F.L+x->False:=λx ⟨e,a,_⟩ h2=>by
 have:x=0:=Z
 subst this;rw[b]at a;cases a
def PI.B5(p:PI F n zX E S f o v l w qJ)(b:0<E.r)(c:E.N 0=Í)(d:l[F.L]?=Ã g)(e:g.status=Å)(h:f F.L=.fD):∀a,fI (v F.L) (v F.L).w a->JI F E.c E.S {v F.L with w:=a} g:=by let⟨j,i⟩:=p.m b c;intro a r;have:=p.I.N d e h (À i) a r;simp_all
theorem ry.Lw(h:ry F E S f o)(ok:F.Ok){ip:jF}{sg:Nat->F.γ}{T:gl}(c:E.N 0=Í):ry F {E with S:=ip,c:=sg} (fB S F.L<|JI F sg ip) (fB f F.L T) (fB o F.L .no):=by
 have:=ok.r;refine⟨by rw[fK S _ Z,fK o _ Z];exact h.M,λa b=>by rw[gD,gD];exact⟨U,U⟩,λj a b=>by rw[fK S _ Z,fK o _ Z];exact h.I j a b,λy e a b=> ?_,λi a b=>by rw[fK S _ Z,fK o _ Z,fK f _ Z];exact h.r i a b⟩;have d:y≠0:=λq=>by grind
 rw[fK S _ Z,fK o _ Z,fK f _ Z];exact h.C y e a b
theorem Lx(ok:F.Ok){T:gl}(b:F.L<F.N)(i:E.N 0=Í)(c:E'.N=E.N)(d:E'.M=E.M)(e:E'.h=E.h)(g:E'.C=E.C)(h:E'.S.rk F<E.S.rk F):p9 F.N (E'.mu (fB f F.L T) z) (E.mu f l):=by refine GX b (À ?_) λk a=>Ae (λ_=>by rw[d]) (λ_ _=>by rw[e]) (λ_=>by rw[c]) (λq=>absurd q a) (λ_ _=>by rw[g])<|fK f _ a;grind [Yh]
theorem Qg(B:fq F E l w)(i:E'.M=E.M)(b:E'.r=E.r)(c:E'.N=E.N)(m:E'.C=E.C)(n:E'.I=E.I)(o:E'.b=E.b)(p:E'.a=E.a):fq F E' l w:=by
 intro k y d e;rcases B k y d e with⟨q,a,f⟩|⟨j,g,h,a,f⟩
 .grind
 .refine Á ⟨j,by rwa[b],by rwa[c],a,?_⟩;grind
theorem Ps.Ly(h:Ps F E){ip:jF}{G:GS}(i:E.N 0=Í)(x:0<E.r)(l:∀c,(ip=.kR c->c<=F.m)/\(ip=.mk c->1<=c/\c<=F.m)/\∀p,ip=.dn c p->1<=c/\c<=F.m) (o:∀c,1<=c->c<=F.m->ip.od<c->fB E.a k G c=.cl 1 (Ñ F.n λj=>(E.C j).gB F j c)) (t:∀c,c<=F.m->c<=ip.od->(∃W,(ip=.dn c (.gw W)\/ip=.dn c (.jg W))/\fB E.a k G c=.jM W/\W=Ñ F.n λj=>(E.C j).gB F j c)\/(∃r s,ip=.dn c (.iE r)/\0<r/\fB E.a k G c=.gZ r s/\r+s=Ñ F.n λj=>(E.C j).gB F j c)\/((∀p,ip≠ .dn c p)/\((fB E.a k G c=.cl 0 0/\(Ñ F.n λj=>(E.C j).gB F j c)=0)\/∃s,fB E.a k G c=.gZ 0 s/\s=Ñ F.n λj=>(E.C j).gB F j c))) (u:E.S.od<=ip.od) (v:(∃a b,E.a k=.gZ a b)->∃a b,G=.gZ a b) (y:G=.cl 1 0->E.d k=Í) {sg:Nat->F.γ} {V:Nat->Nat->Prop} (w:V 0=F.i) {pk:Nat->Nat}:Ps F {E with S:=ip,a:=fB E.a k G,c:=sg,V:=V,e:=pk}:=by
 refine⟨w,h.C,h.K,h.L,λq=> ?_,l,h.z,h.d,h.l,λq=>absurd i q,h.h,h.M,h.o,h.t,h.g,h.u,h.N,h.B,o,t,λj r d f=>Ô (h.w j r d f) u,λj r d f=> ?_,h.O,h.S,λc d f=> ?_,h.D⟩
 .have:E.r=0:=q;omega
 .have:=h.H j r d f;show∃a b,fB E.a k G _=_;by_cases e:F.r (j+r*F.n)=k
  .rw[e]at this|-;rw[gD];exact v this
  .grind [fK]
 .have g:fB E.a k G c=.cl 1 0:=f;by_cases e:c=k
  .grind [gD]
  .rw[fK _ _ e]at g;exact h.y c d g
def PI.ah4(H:gT F)(p:PI F n zX E S f o v l w qJ)(D:0<E.r)(u:E.N 0=Í)(I:l[F.L]?=Ã g)(M:g.status=Å)(ht:f F.L=.fD)(t:E.S=.kR k):sx F n zX E f l w qJ:=by
 have B:=iY I;have C:=p.I.r;have O:=p.B5 D u I M ht w<|C.r _ B;rw[t]at O;have YI:=(p.C.I k).1 t;have X:=B4 H.C;have Ai:ja F.S (λi=>i<l.size) E.Y (gi v F.L {v F.L with w:=w}) w qJ:=C.C B (λ_ q=>q) (λb q=>À<|Á q) (λ_ q=>q) (λa q=>À<|Á q) U U U (C.m _ B)<|C.g _ B;have YJ:=p.a.C (i:=F.L) (d:=(v F.L).d) (w0:=w)<|Ç _;have z:E.S.md=k:=by rw[t];rfl
 by_cases BU:k<F.m
 .let⟨Hg,B6⟩:=p.M.M k (by rw[z];exact Ç _);let⟨r1,r2⟩:=p.a.f D u;rw[z]at r1 r2;let⟨o1,o2⟩:=p.a.e D (k+1) (by rw[z];omega) BU;let⟨T,P⟩:=jq<|H.e k _ _ _ g BU O (C.M B) Hg B6 r2 r1 o1 o2 E.c U;have Q:=p.I.M (J:=JI F E.c<|.mk (k+1)) (T:=T) (K:=.no) I (À M) Ai (by rwa[X]);have y:fB E.a 0 (E.a 0)=E.a:=by funext j;unfold fB;split<;>simp[*]
  refine⟨{E with S:=.mk (k+1)},_,_,_,_,λh=>h,.r (p.N.Lw H.C (sg:=E.c) u) p.b Q ?_ ?_ ?_ ?_ (Qg p.c U U U U U U U) p.f,Lx H.C (p.G B) u U U U U ?_⟩
  .have L:=YJ;exact⟨L.gU,L.o,L.mb,λa e b c=>L.e a e (by rwa[z]) c,λa b=>by have:=L.f a b;rwa[z]at this,L.h,L.l,L.S,L.M,L.c,λe b=>L.I e (by rwa[z]),λe b=>L.N e (by rwa[z]),λe a b=>L.g e a (by rwa[z]),L.d⟩
  .have W:=p.M;exact⟨W.C,W.I,W.jO,λe b=>W.M e (by rwa[z]),λe a b=>W.S e a (by rwa[z]),W.N⟩
  .have:=p.C.Ly (k:=0) (ip:=.mk (k+1)) (G:=E.a 0) (sg:=E.c) (V:=E.V) (pk:=E.e) u D (λe=>⟨λq=>(by cases q),λq=>(by cases q;exact⟨Z,Z⟩),λp q=>by cases q⟩) (λe a b c=> ?_) (λe a b=> ?_) (by rw[t];exact Ç _) id (λq=>p.C.y 0 (ò _) q) p.C.v
   .rwa[y]at this
   .rw[y];exact p.C.e e a b<|by rwa[t]
   .rw[y];rcases p.C.Y e a (by rwa[t])with⟨W,q,_⟩|⟨r,s,q,_⟩|q
    .rw[t]at q;rcases q with q|q<;>cases q
    .rw[t]at q;cases q
    .exact Á<|Á ⟨λp q=>(by cases q),q.2⟩
  .have:E.S.rl=(jF.mk<|k+1).rl:=by rw[t];rfl
   have a:=p.d;rwa[this]at a
  .rw[t];simp only[jF.rk];have:F.m+3-(k+1)=F.m+2-k:=Z
   rw[this];omega
 .have q:k=F.m:=Z
  subst q;let⟨T,P⟩:=jq<|H.f _ g O<|C.M B;have Q:=p.I.M (J:=JE F .pA) (T:=T) (K:=.no) I (À M) Ai (by rwa[X]);have s:¬E.iy 0:=λ⟨e,a,_⟩=>by rw[u]at a;cases a
  have W:¬E.oS 0:=λ⟨e,a,_⟩=>by rw[u]at a;cases a
  refine⟨fA.gW E 0 .pA,_,_,_,_,λh=>h,.r (p.N.G (x:=0) H.C λ⟨N,h⟩=>by cases h) p.b Q (YJ.gW ⟨λh=>h.elim,λh=>(W h).elim⟩) p.M.gW (p.C.gW D (by rw[u];rfl) (λb h=>by rw[u]at h;cases h) (λb h=>by cases h) (λj h=>by omega) λ_=>t) (p.d.G ⟨λh=>h.elim,λh=>(s h).elim⟩) (Qd p.c λk y b c e=> ?_) p.f,EA H.C (p.G B)<|À ?_⟩
  .subst e;rw[ó,I]at b;obtain rfl:=È b;rw[M]at c;cases c
  .unfold sy;rw[u];simp only[iq.rk,if_true,t,jF.rk];have:F.m+2-F.m=2:=Z
   rw[this];omega
end
section
variable{F:Ph}{E E':fW F}{S:Nat->Jd}{o G:Nat->gl}{v:Nat->iD}{d:Nat->fe}{f B:Array Ä}{u:ä}{D:Option (Nat×Nat)}
def YK(ok:F.Ok)(a:k<=F.m):jk F.toFx k≠ju F i:=λe=>ok.C (by
 have:F.I k=F.Y:=by injection e
 rw[<-this];exact Á ⟨k,a,U⟩)
def ah5(ok:F.Ok)(a:k<=F.m)(b:i<=F.m)(h:jk F.toFx k=jk F.toFx i):k=i:=ok.S k i a b<|by injection h
def ah6(h:ju F i=ju F n):i=n:=by injection h
theorem PI.ah7(H:gT F)(p:PI F n zX E S o v d f w qJ)(h0:0<E.r)(he:E.N 0=Í)(hi:f[F.L]?=Ã g)(iJ:g.status=Å)(ht:o F.L=.fD)(B:E.S=.mk k):sx F n zX E o f w qJ:=by
 have y:=iY hi;have C:=p.I.r;have hJ:=p.B5 h0 he hi iJ ht w<|C.r _ y;rw[B]at hJ;let⟨k1,N⟩:=(p.C.I k).2.1 B;have D:E.S.md=k-1:=by rw[B];rfl
 let⟨M,z,hn,B6,YL,BY,hdone⟩:=hJ;let⟨o1,o2⟩:=p.a.e h0 k (by rw[D];omega) N;have Ai:ja F.S (λi=>i<f.size) E.Y (gi d F.L<|qE F {d F.L with w:=w} k) w qJ:=by
  refine C.C y (λ_ q=>q.elim) (λb q=>À q) (λ_ q=>q.1) (λa q=> ?_) U U U (λ_ q=>q.elim) λa c q=> ?_
  .rcases q with q|rfl|rfl
   .exact À<|Á q
   .exact À<|À o2
   .exact À<|À o1
  .rcases q with q|q|q
   .exact C.g _ y a c.1 q
   .exact c.2.1 q
   .exact c.2.2 q
 have hF:lu F.P (F.L==0) (JI F (fB E.c k M)<|.dn k .jK) .fD (qE F {d F.L with w:=w} k) g:=by rw[B4 H.C];intro J s;let⟨Q,X,W,a3,e⟩:=hdone;exact⟨Q,X,W,a3,e.kj s⟩
 have hG:fB E.a 0 (E.a 0)=E.a:=by funext j;unfold fB;split<;>simp[*]
 have Vn:∀l,l≠k->fB E.V k z l=E.V l:=λl h=>fK _ _ h;have Vs:fB E.V k z k=z:=gD _ _ _;refine⟨{E with S:=.dn k .jK,c:=fB E.c k M,V:=fB E.V k z},_,_,_,_,λh=>h,.r ?_ p.b (p.I.M (K:=.no) hi (À iJ) Ai hF) ?_ ?_ ?_ ?_ (Qg p.c U U U U U U U) p.f,Lx H.C (p.G y) he U U U U ?_⟩
 .have:=p.N.Lw (ip:=.dn k .jK) (sg:=fB E.c k M) (T:=.fD) H.C he;exact⟨this.M,this.Y,this.I,this.C,this.r⟩
 .have L:=p.a;have G:(gi d F.L<|qE F {d F.L with w:=w} k) F.L=qE F {d F.L with w:=w} k:=gV _ _ _;have W:∀i,i≠F.L->(gi d F.L<|qE F {d F.L with w:=w} k) i=d i:=λi h=>gI d _ h;have YM:(0:Nat)≠F.L:=by have:=H.C.r;omega
  have Qh:∀i a,(gi d F.L (qE F {d F.L with w:=w} k) i).r a->(d i).r a:=λi a h=>by
   by_cases q:i=F.L
   .subst q;rw[G]at h;exact h.1
   .grind
  have sO:∀i b,(gi d F.L (qE F {d F.L with w:=w} k) i).O b->(d i).O b/\i≠F.L:=λi b h=>by
   by_cases q:i=F.L
   .subst q;rw[G]at h;exact h.elim
   .grind
  have nOc:∀i,i<f.size->∀a,(a=ju F (F.b k)\/a=jk F.toFx k)->¬(gi d F.L (qE F {d F.L with w:=w} k) i).r a:=λi s a c h=>by
   by_cases q:i=F.L
   .subst q;rw[G]at h;rcases c with c|c
    .exact h.2.1 c
    .exact h.2.2 c
   .rw[W i q]at h;refine C.h i F.L s y q a h<|À ?_;grind
  refine⟨λi s a c=> ?_,λx t u a c=>by rw[W 0 YM];exact L.o x t u a c,λh=>by rw[W 0 YM];exact L.mb h,λh l t u=> ?_,λh Al=> ?_,λj hj Al r hr t=>by rw[W _ Z];exact L.h j hj Al r hr t,λj hj Al=>by rw[W _ Z];exact L.l j hj Al,λx BZ=> ?_,λi s=> ?_,λi t u=>by rw[W i Z];exact L.c i t u,λl I b hb=> ?_,λl I i s h=> ?_,λl t u i s h=> ?_,λj hj r hr t i s h=>L.d j hj r hr t i s<|Qh _ _ h⟩
  .by_cases q:i=F.L
   .subst q;rw[G]at c;rcases c with q|q|q|q
    .exact L.gU _ y a<|À q.1
    .exact L.gU _ y a<|Á q
    .exact Á ⟨_,H.C.Y.1 _ Z Z,q⟩
    .grind
   .rw[W i q]at c;exact L.gU i s a c
  .rw[G];have B7:k<l:=t;let⟨J,q2⟩:=L.e h l (by rw[D];omega) u;exact⟨⟨J,YK H.C u,λe=>by have:=ah5 H.C u N e;omega⟩,⟨q2,λe=>by have:=H.C.pi l k Z u k1 N<|ah6 e;omega,λe=>YK H.C N e.symm⟩⟩
  .rw[G];show(qE F _ k).N (jk F.toFx k)/\∀b,fB E.V k z k b->(qE F _ k).I b;rw[Vs];exact⟨Á<|Á U,YL⟩
  .have:F.L+x≠F.L:=λq=>by
    have J:x=0:=Z
    subst J;let⟨e,t,_⟩:=BZ;grind
   rw[W _ this];exact L.S x BZ
  .by_cases q:i=F.L
   .subst q;rw[G];exact L.M _ s
   .rw[W _ q];exact L.M i s
  .have oT:l<=k:=I;by_cases q:l=k
   .subst q;have J:fB E.V l z l b:=hb;rw[Vs]at J;have hM:=YL b J;refine⟨C.fv _ y b hM,C.I _ y b hM,λi s h=> ?_⟩;let⟨Q,X⟩:=sO i b h;exact C.o i F.L s y X b Q hM
   .have J:fB E.V k z l b:=hb;rw[Vn l q]at J;let⟨Q,X,a3⟩:=L.I l (by rw[D];omega) b J;exact⟨Q,X,λi s h=>a3 i s (sO i b h).1⟩
  .have oT:l<=k:=I;by_cases q:l=k
   .grind
   .exact L.N l (by rw[D];omega) i s<|Qh _ _ h
  .have oT:l<=k:=u;by_cases q:l=k
   .grind
   .exact L.g l t (by rw[D];omega) i s<|Qh _ _ h
 .have W:=p.M;refine⟨W.C,W.I,W.jO,λl I=> ?_,λl t I=> ?_,W.N⟩
  .have oT:l<=k:=I;show nN F l (fB E.c k M l)/\F.d l (fB E.c k M l) (fB E.V k z l) w;by_cases q:l=k
   .subst q;rw[gD,gD];refine⟨?_,B6⟩;have:=(W.M (l-1)<|by rw[D];exact Ç _).1;have u:=nN.Em this hn;grind
   .rw[fK _ _ q,fK _ _ q];exact W.M l<|by rw[D];omega
  .have oT:l<=k:=I;by_cases q:l=k
   .subst q;exact BY
   .exact W.S l t<|by rw[D];omega
 .have:=p.C.Ly (ip:=.dn k .jK) (sg:=fB E.c k M) (V:=fB E.V k z) (pk:=E.e) he h0 (λl=>⟨λq=>(by cases q),λq=>(by cases q),λp q=>by cases q;exact⟨k1,N⟩⟩) (λl a b c=> ?_) (λl a b=> ?_) (by rw[B];exact Ç _) id (λq=>p.C.y 0 (ò _) q)<|by rw[Vn 0 Z];exact p.C.v
  .grind
  .rw[hG];exact p.C.e l a b<|by rwa[B]
  .rw[hG];have J:l<=k-1:=b;rcases p.C.Y l a (by rwa[B])with⟨W,q,_⟩|⟨r,s,q,_⟩|q;all_goals grind
 .have c:=p.d;have e:E.S.rl=k-1:=by rw[B];rfl
  rw[e]at c;refine{c with I:=λl a b x BZ=> ?_};have J:l<=k-1:=b;refine c.I l a b x (BZ.imp (λq=> ?_) id);rwa[<-Vn l Z]
 .rw[B];simp only[jF.rk,jN.rk];have:F.m+3-k=(F.m+2-k)+1:=Z
  grind [Ń]
theorem PI.ah8(H:gT F)(p:PI F n zX E S o v d f w qJ)(x:0<E.r)(m:E.N 0=Í)(G:f[F.L]?=Ã g)(iJ:g.status=Å)(ht:o F.L=.fD)(e:E.S=.dn k .jK):km F n zX E o f w qJ D F.L:=by
 have t:=iY G;have C:=p.I.r;have J:=p.B5 x m G iJ ht w<|C.r _ t;rw[e]at J;let⟨k1,K⟩:=(p.C.I k).2.2 _ e;have M:=B4 H.C;let⟨hd,_,g',h1,N⟩:=J;have O:∀y:Ă,y.act=ė (į<|fQ<|F.I k)->y.act.touch?=Í:=λy i=>by rw[i];rfl
 let⟨T,hT⟩:=jq N;have P:=lP (λl g h=>À h.2.1) N;obtain⟨B,y,y1,y2,q1,Q,q3,q4,q5,q7⟩:=p.BX H .no G (by rw[M];exact h1 w) fp fp (λy i=>⟨λz l=>(by rw[O y i]at l;cases l),by rw[i];exact C.N _<|À<|Á ⟨k,K,U⟩⟩) (λy _ i=>BG C.l λl u=>by rw[yu u];exact O y i) (by rwa[M]) P;have z:E.S.md=k:=by rw[e];rfl
 have Qi:E.S.rl=k-1:=by rw[e];rfl
 let⟨V,X⟩:=p.a.f x m;rw[z]at V X;have Y:=p.d;rw[Qi]at Y;have I:k-1+1=k:=Z
 have Ew:=Y.ahd y1 (by rwa[I]) ((C.f _ t).trans hd) (by
  rw[I];intro a l;rcases l with l|rfl
  .exact(C.S _ t).rd a<|X _ l
  .exact(C.S _ t).r _ V)
 rw[I]at Ew;have hG:fB E.a 0 (E.a 0)=E.a:=by funext j;unfold fB;split<;>simp[*]
 refine⟨{E with S:=.dn k .iG,e:=fB E.e k qJ.size},_,_,_,_,B,w,#[y],q1,Q,λh=>h,.r ?_ (Q.trans p.b) q5 ?_ ?_ ?_ Ew (p.c.rp (E':={E with S:=.dn k .iG,e:=fB E.e k qJ.size}) q3 (by rcases P with q|q<;>rw[q]<;>simp) q4 (λ_ _=>rfl) U U (λ_ _=>rfl) (λ_=>rfl) (λ_ _=>rfl) (λ_ _ h=>À h) λ_ _ _ _ h=>À h) λj r a1 a2 a3=> ?_,Lx H.C (p.G t) m U U U U ?_⟩
 .have:=p.N.Lw (ip:=.dn k .iG) (sg:=E.c) (T:=T) H.C m;exact⟨this.M,this.Y,this.I,this.C,this.r⟩
 .have L:=q7;exact⟨L.gU,L.o,L.mb,λa l b c=>L.e a l (by rwa[z]) c,λa b=>by have:=L.f a b;rwa[z]at this,L.h,L.l,L.S,L.M,L.c,λl b=>L.I l (by rwa[z]),λl b=>L.N l (by rwa[z]),λl a b=>L.g l a (by rwa[z]),L.d⟩
 .have W:=p.M;exact⟨W.C,W.I,W.jO,λl b=>W.M l (by rwa[z]),λl a b=>W.S l a (by rwa[z]),W.N⟩
 .have:=p.C.Ly (ip:=.dn k .iG) (sg:=E.c) (pk:=fB E.e k qJ.size) m x (λl=>⟨λq=>(by cases q),λq=>(by cases q),λp q=>by cases q;exact⟨k1,K⟩⟩) (λl a b c=> ?_) (λl a b=> ?_) (by rw[e];exact Ç _) id (λq=>p.C.y 0 (ò _) q) p.C.v
  .grind
  .rw[hG];exact p.C.e l a b<|by rwa[e]
  .rw[hG];have c:l<=k-1:=b;rcases p.C.Y l a (by rwa[e])with⟨W,q,_⟩|⟨r,s,q,_⟩|q;all_goals grind
 .have u:=p.C.w j r a1<|Á<|Á a2;rw[e]at u;simp only[jF.od]at u;show Λ _ _ (fB E.e k qJ.size _);rw[fK _ _ Z];exact(p.f j r a1 a2 a3).app _
 .rw[e];simp only[jF.rk,jN.rk];omega
end
section
variable{F:Ph}{E E':fW F}{S:Nat->Jd}{v M:Nat->gl}{I:Nat->iD}{B:Nat->fe}{o f:Array Ä}{u:ä}{K:Option (Nat×Nat)}
def B8(E:fW F)(ip:jF)(k:Nat)(G:GS):fW F:={E with S:=ip,a:=fB E.a k G}
theorem PI.EE(H:gT F)(p:PI F j zX E S v I B o w qJ){d:jN}{ip:jF}{G:GS}{s:Ä}{T:gl}(h0:0<E.r)(C:E.N 0=Í)(t:E.S=.dn k d)(O:d≠ .jK)(Q:o[F.L]?=Ã g)(D:kJ (F.I k) w W)(X:ik W (F.I k) G)(q1:Ŏ F.P (ð o w K) F.L=(ğ<|ð f W K,u))(J:f.size=o.size)(q3:f[F.L]?=Ã s)(mq:s.status=Å\/s.status=å)(q4:∀k,k≠F.L->f[k]?=o[k]?.map (Ā F.P g s W)) (q5:gM F.P F.S E.Y (fB S F.L<|JI F E.c ip) (fB v F.L T) (fB I F.L .no) (gi B F.L {B F.L with w:=W}) f W (qJ++u)) (q6:TI F.toFx j zX E.r E.S.rl E.V E.e E.d E.iy E.f (qJ++u)) (q7:iN F E (gi B F.L {B F.L with w:=W}) f.size W) (x:ip.md=k/\ip.rl=k) (hP:Ps F (B8 E ip k G)) (YB:ip.rk F<E.S.rk F) (vd:∀i r,E.C i=.fC r .kH->F.r (i+r*F.n)=k->(E.a k).sm=0->G.sm=0\/∀y,f[F.L+1+i]?=Ã y->y.status≠Ü):km F j zX E v o w qJ K F.L:=by
 let⟨k1,z⟩:=(p.C.I k).2.2 _ t;have M:F.M (F.I k):=Á ⟨k,z,U⟩;have N:E.S.md=k:=by rw[t];rfl
 have Qi:E.S.rl=k:=by rw[t];cases d<;>first|rfl|exact absurd U O
 have m:=D.I H p.a p.C p.M M ⟨λq=>absurd q<|H.C.M k z,λ_=>rfl⟩ (λl a=>⟨λq=>by rwa[<-H.C.S _ _ z a q,gD],λq=>fK _ _ λe=>q<|by rw[e]⟩);refine⟨B8 E ip k G,_,_,_,_,f,W,u,q1,J,λh=>h,.r ?_ (J.trans p.b) q5 ?_ ?_ hP ?_ ?_ λi r a b c=>(p.f i r a b c).app u,Lx H.C (p.G<|iY Q) C U U U U YB⟩
 .have:=p.N.Lw (ip:=ip) (sg:=E.c) (T:=T) H.C C;exact⟨this.M,this.Y,this.I,this.C,this.r⟩
 .have L:=q7;have e:(B8 E ip k G).S.md=E.S.md:=by rw[N];exact x.1
  exact⟨L.gU,L.o,L.mb,λa l b c=>L.e a l (by rwa[<-e]) c,λa b=>by have:=L.f a b;rwa[<-e]at this,L.h,L.l,L.S,L.M,L.c,λl b=>L.I l (by rwa[<-e]),λl b=>L.N l (by rwa[<-e]),λl a b=>L.g l a (by rwa[<-e]),L.d⟩
 .have e:(B8 E ip k G).S.md=E.S.md:=by rw[N];exact x.1
  exact⟨m.C,m.I,m.jO,λl b=>m.M l (by show l<=E.S.md;rwa[<-e]),λl a b=>m.S l a (by show l<=E.S.md;rwa[<-e]),m.N⟩
 .have e:(B8 E ip k G).S.rl=E.S.rl:=by rw[Qi];exact x.2
  rwa[e]
 .refine p.c.rp (E':=B8 E ip k G) q3 (by rcases mq with q|q<;>rw[q]<;>simp) q4 (λi a=>D.C p.C M a) U U (λ_ _=>rfl) (λ_=>rfl) (λ_ _=>rfl) (λ_ _ h=>À h) λi r _ a b=> ?_;show(fB E.a k G _).sm=0\/_;grind [gD,fK]
theorem PI.EF(p:PI F j zX E S v I B o w qJ){d:jN}{f:jF}{G:GS}(m:0<E.r)(t:E.N 0=Í)(l:E.S=.dn k d)(D:f=.kR k\/∃u,f=.dn k u)(i:f.od=k)(H:(∃W,(f=.dn k (.gw W)\/f=.dn k (.jg W))/\G=.jM W/\W=Ñ F.n λe=>(E.C e).gB F e k)\/(∃r s,f=.dn k (.iE r)/\0<r/\G=.gZ r s/\r+s=Ñ F.n λe=>(E.C e).gB F e k)\/((∀p,f≠ .dn k p)/\((G=.cl 0 0/\(Ñ F.n λe=>(E.C e).gB F e k)=0)\/∃s,G=.gZ 0 s/\s=Ñ F.n λe=>(E.C e).gB F e k))) (x:(∃a b,E.a k=.gZ a b)->∃a b,G=.gZ a b) (y:G≠ .cl 1 0):Ps F (B8 E f k G):=by
 let⟨J,K⟩:=(p.C.I k).2.2 _ l;have C:k-1<=E.S.od/\E.S.od<=k:=by rw[l];cases d<;>simp only[jF.od]<;>omega
 have:=p.C.Ly (sg:=E.c) (pk:=E.e) t m (λg=> ?_) (λg a b c=> ?_) (λg a b=> ?_) (by rw[i];exact C.2) x (λq=>absurd q y) p.C.v
 .exact this
 .grind
 .rw[i]at c;rw[fK _ _ Z];exact p.C.e g a b Z
 .by_cases q:g=k
  .grind [gD]
  .rw[fK _ _ q];rw[i]at b;refine Á<|Á ⟨λc h=> ?_,?_⟩
   .grind
   .rcases p.C.Y g a Z with⟨W,z,_⟩|⟨r,s,z,_⟩|z;all_goals grind
theorem PI.ah9(H:gT F)(p:PI F j zX E S v I B o w qJ)(d:0<E.r)(i:E.N 0=Í)(s:o[F.L]?=Ã g)(iJ:g.status=Å)(ht:v F.L=.fD)(c:E.S=.dn k .iG):km F j zX E v o w qJ K F.L:=by
 have O:=iY s;have C:=p.I.r;have hJ:=p.B5 d i s iJ ht w<|C.r _ O;rw[c]at hJ;obtain⟨k1,Y⟩:=(p.C.I k).2.2 _ c;have Q:=B4 H.C;have y:F.M (F.I k):=Á ⟨k,Y,U⟩;obtain⟨hd,_,vf⟩:=hJ;have hc:=p.C.e k k1 Y (by rw[c];simp only[jF.od];omega);obtain⟨W,hW⟩:∃W,(Ñ F.n λa=>(E.C a).gB F a k)=W:=⟨_,U⟩;rw[hW]at hc;have V:=hc▸p.M.I k Y;obtain⟨ev,z⟩:=V.jT;have key:=vf (GS.cl (0+1) W).st;rw[ev]at key z;obtain⟨m,t⟩:∃m,(GS.jT<|.cl (0+1) W).st=m:=⟨_,U⟩;rw[t]at key;obtain⟨g',h1,h2⟩:=key;have G:=h1 w V.C V.I;rw[<-t]at G;obtain⟨k1',k2,k3⟩:=V.r;have r:kJ (F.I k) w (w.setCell (fQ<|F.I k)<|ë Ó (GS.jT<|.cl (0+1) W).st):=Á ⟨_,_,À U,U⟩;have D:=r.r p.a H.C y;have X:fI {B F.L with w:=w} w (w.setCell (fQ<|F.I k)<|ë Ó (GS.jT<|.cl (0+1) W).st):=⟨Õ D.r.symm,λb kU=>D.ki b<|C.I _ O b kU,λa ha=>D.M _ O a ha,λa ha=>D.N _ O a ha,λa _=>D.I a⟩;have YN:¬∃a b,E.a k=.gZ a b:=λ⟨a,b,q⟩=>by rw[hc]at q;cases q
 by_cases hl:0<W
 .have ed:GS.jT (.cl (0+1) W)=.jM W:=by simp only[GS.jT];rw[if_pos ⟨trivial,hl⟩]
  rw[ed]at G z r D X t;have M:fi F.P É (La F.P É (F.I k) (fi F.P É<|F.h k) W) {B F.L with w:=w} g':=by
   have e:m=(W:Int):=t.symm;have h:¬(m=0\/(fY<=m/\m<1000000*fY/\m%fY<1000000)):=by simp only[fY];omega
   grind
  obtain⟨T,hT⟩:=jq<|M.kj X;have N:=lP (λl g h=>À h.2.1) M;obtain⟨f,u,q1,q2,q3,q4,q5,q6,q7⟩:=p.Y (J:=JI F E.c<|.dn k (.gw W)) H .no s (EC d) y (by rwa[Q]) r (BR y) U (λx hs e=>(ED i x hs e).elim) (by rwa[Q]) N;refine p.EE H d i c fp s r z q1 q2 q3 N q4 q5 q6 q7 ⟨U,U⟩ (p.EF d i c (Á ⟨_,U⟩) U (À ⟨W,À U,U,hW.symm⟩) (λq=>absurd q YN) fp) ?_ λ_ _ _ _ _=>À U;rw[c];simp only[jF.rk,jN.rk];omega
 .have He:W=0:=Z
  subst He;have ed:GS.jT (.cl (0+1) 0)=.cl 0 0:=U;rw[ed]at G z r D X t;have M:fi F.P É (F.h k) {B F.L with w:=w} g':=by simp only[t.symm,true_or,if_true]at h2;exact h2
  obtain⟨T,hT⟩:=jq<|M.kj X;have N:=lP (λl g h=>À<|H.N _ _ _ h) M;obtain⟨f,u,q1,q2,q3,q4,q5,q6,q7⟩:=p.Y (J:=JI F E.c<|.kR k) H .no s (EC d) y (by rwa[Q]) r (BR y) U (λx hs e=>(ED i x hs e).elim) (by rwa[Q]) N;refine p.EE H d i c fp s r z q1 q2 q3 N q4 q5 q6 q7 ⟨U,U⟩ (p.EF d i c (À U) U (Á<|Á ⟨λp q=>(by cases q),À ⟨rfl,hW⟩⟩) (λq=>absurd q YN) fp) ?_ λ_ _ _ _ _=>À rfl;rw[c];simp only[jF.rk,jN.rk];omega
theorem PI.YO(p:PI F j zX E S v I B o w qJ)(b:E.S=.dn k (.gw i)\/E.S=.dn k (.jg i)):E.a k=.jM i/\i=Ñ F.n λa=>(E.C a).gB F a k:=by
 have c:k<=F.m:=by rcases b with b|b<;>exact((p.C.I k).2.2 _ b).2
 rcases p.C.Y k c (by rcases b with b|b<;>(rw[b];exact Ç _))with⟨d,z,e,f⟩|⟨r,s,z,_⟩|⟨z,_⟩;all_goals grind
def PI.aia(H:gT F)(p:PI F j zX E S v I B o w qJ)(d:0<E.r)(m:E.N 0=Í)(n:o[F.L]?=Ã g)(M:g.status=Å)(N:v F.L=.fD)(c:E.S=.dn k (.gw i)):km F j zX E v o w qJ K F.L:=by have s:=p.B5 d m n M N w<|(p.I.r).r _<|iY n;rw[c]at s;let⟨k1,t⟩:=(p.C.I k).2.2 _ c;have y:=B4 H.C;have z:F.M (F.I k):=Á ⟨k,t,U⟩;let⟨hd,_,O⟩:=s;let⟨C,P⟩:=p.YO<|À c;have D:=C▸p.M.I k t;let⟨g',Q,r⟩:=O (i:Int);simp only[if_true]at r;let⟨T,V⟩:=jq r;have G:=lP (λl g h=>À h.2.1) r;obtain⟨f,u,h,l,X,Y,q5,q6,q7⟩:=p.Y (J:=JI F E.c<|.dn k (.jg i)) H .no n (EC d) z (by rw[y];exact Q w D.C) (À U) (Ag z) U (λx a e=>(ED m x a e).elim) (by rwa[y]) G;refine p.EE H d m c fp n (À U) D h l X G Y q5 q6 q7 ⟨U,U⟩ (p.EF d m c (Á ⟨_,U⟩) U (À ⟨i,Á U,U,P⟩) (λ⟨a,b,q⟩=>by rw[C]at q;cases q) fp) ?_ λ_ _ _ _ _=>À rfl;rw[c];simp only[jF.rk,jN.rk];omega
def PI.aib(H:gT F)(p:PI F j zX E S v I B o w qJ)(d:0<E.r)(m:E.N 0=Í)(n:o[F.L]?=Ã g)(N:g.status=Å)(O:v F.L=.fD)(c:E.S=.dn k (.jg i)):km F j zX E v o w qJ K F.L:=by
 have q:=iY n;have C:=p.I.r;have y:=p.B5 d m n N O w<|C.r _ q;rw[c]at y;let⟨k1,z⟩:=(p.C.I k).2.2 _ c;have G:=B4 H.C;have s:F.M (F.I k):=Á ⟨k,z,U⟩;let⟨hd,_,g',P,M⟩:=y;let⟨Q,V⟩:=p.YO<|Á c;have r:=Q▸p.M.I k z;have X:=r.r.1;have t:kJ (F.I k) w (w.setCell (fQ<|F.I k)<|ë Ó 0):=Á ⟨_,_,À U,U⟩;have D:=t.r p.a H.C s;let⟨T,Y⟩:=jq (M.kj ⟨Õ D.r.symm,λb h=>D.ki b<|C.I _ q b h,λa e=>D.M _ q a e,λa e=>D.N _ q a e,λa _=>D.I a⟩);have a:=lP (λl g h=>by
  cases i with
  |zero=>omega
  |succ i=>exact À h.2.1) M
 obtain⟨f,u,h,b,l,q4,q5,q6,q7⟩:=p.Y (J:=JI F E.c<|.dn k (.iE i)) H .no n (EC d) s (by rw[G];exact P w _ r.C r.I) t (Yl s) U (λx hs e=>(ED m x hs e).elim) (by rwa[G]) a;refine p.EE H d m c fp n t r.X9 h b l a q4 q5 q6 q7 ⟨U,U⟩ (p.EF d m c (Á ⟨_,U⟩) U (Á<|À ⟨i,0,U,X,U,by rwa[ó]⟩) (λ_=>⟨i,0,U⟩) fp) ?_ λ_ _ _ _ _=>À U;rw[c];simp only[jF.rk,jN.rk];omega
theorem PI.aic(H:gT F)(p:PI F j zX E S v I B o w qJ)(l:0<E.r)(t:E.N 0=Í)(G:o[F.L]?=Ã g)(iJ:g.status=Å)(ht:v F.L=.fD)(h:E.S=.dn k (.iE j9)):km F j zX E v o w qJ K F.L:=by
 have W:=iY G;have C:=p.I.r;have hJ:=p.B5 l t G iJ ht w<|C.r _ W;rw[h]at hJ;obtain⟨k1,Y⟩:=(p.C.I k).2.2 _ h;have X:=B4 H.C;have O:F.M (F.I k):=Á ⟨k,Y,U⟩;obtain⟨s,hr0,hc,wS⟩:∃s,0<j9/\E.a k=.gZ j9 s/\j9+s=Ñ F.n λc=>(E.C c).gB F c k:=by rcases p.C.Y k Y (by rw[h];exact Ç _)with⟨W',z,z1,z2⟩|⟨M,s,z,z1,z2,z3⟩|⟨z,_⟩;all_goals grind
 obtain⟨j9,rfl⟩:∃M,j9=M+1:=⟨j9-1,Z⟩;obtain⟨hd,_,Qf,g',Q,h1,h2⟩:=hJ;have N:=hc▸p.M.I k Y;have V:kJ (F.I k) w (w.setCell (gY<|F.I k)<|ë ç<|ç.wrap<|(GS.gZ (j9+1) s).sm+1):=Á ⟨_,_,Á U,U⟩;have D:=V.r p.a H.C O;have yx:fI {B F.L with w:=w} w (w.setCell (gY<|F.I k)<|ë ç<|ç.wrap<|(GS.gZ (j9+1) s).sm+1):=⟨Õ D.r.symm,λb kU=>D.ki b<|C.I _ W b kU,λa ha=>D.M _ W a ha,λa ha=>D.N _ W a ha,λa _=>D.I a⟩;have wake:∀f:Array Ä,(∀k,k≠F.L->f[k]?=o[k]?.map (Ā F.P g g'<|w.setCell (gY<|F.I k)<|ë ç<|ç.wrap<|(GS.gZ (j9+1) s).sm+1))\/(∀m,m≠F.L->f[m]?=o[m]?.map (Ā F.P g g'<|w.setCell (gY<|F.I k)<|ë ç<|ç.wrap<|(GS.gZ (j9+1) s).sm+1))->∀c M,E.C c=.fC M .kH->F.r (c+M*F.n)=k->(E.a k).sm=0->(GS.gZ j9<|s+1).sm=0\/∀y,f[F.L+1+c]?=Ã y->y.status≠Ü:=by
  intro f d c M hj _ _;refine Á λy hy=> ?_;by_cases YP:c+2<=E.r
  .by_cases Lz:E.N (c+1)=Í
   .obtain⟨_,hk⟩:=p.g c YP Lz;rw[hj]at hk;rcases d with d|d<;>
    .rw[d _ Z]at hy;obtain⟨z,Hf,rfl⟩:=Ù.1 hy;exact YG p Qf Q Hf hk
   .obtain⟨_,r0,q,_⟩:=p.C.l c YP Lz;grind
  .have:=p.C.z c Z;grind
 cases j9 with
 |zero=>
  obtain⟨T,hT⟩:=jq<|h2.kj yx;obtain⟨f,u,q1,q2,q3,d,q5,q6,q7⟩:=p.Y (J:=JI F E.c<|.kR k) H .no G (EC l) O (by rw[X];exact h1 w _ N.M N.N) V (GZ O) (G0 _).2.2.2 (λx hs e=>(ED t x hs e).elim) (by rwa[X])<|À Q;refine p.EE H l t h fp G V N.jK q1 q2 q3 (À Q) d q5 q6 q7 ⟨U,U⟩ (p.EF l t h (À U) U (Á<|Á ⟨λp q=>(by cases q),Á ⟨s+1,rfl,Z⟩⟩) (λ_=>⟨0,s+1,rfl⟩) fp) ?_<|wake f<|Á d;rw[h];simp only[jF.rk,jN.rk];omega
 |succ j9=>
  obtain⟨T,hT⟩:=jq<|h2.kj yx;obtain⟨f,u,q1,q2,q3,d,q5,q6,q7⟩:=p.Y (J:=JI F E.c<|.dn k (.iE (j9+1))) H .no G (EC l) O (by rw[X];exact h1 w _ N.M N.N) V (GZ O) (G0 _).2.2.2 (λx hs e=>(ED t x hs e).elim) (by rwa[X])<|À Q;refine p.EE H l t h fp G V N.jK q1 q2 q3 (À Q) d q5 q6 q7 ⟨U,U⟩ (p.EF l t h (Á ⟨_,U⟩) U (Á<|À ⟨j9+1,s+1,U,Z,U,Z⟩) (λ_=>⟨j9+1,s+1,U⟩) fp) ?_<|wake f<|Á d;rw[h];simp only[jF.rk,jN.rk];have:Ñ F.n (λc=>(E.C c).gB F c k)<=F.n:=G2 λi=>by cases E.C i<;>simp only[gP.gB]<;>first|omega|(split<;>first|omega|(rename_i q _;cases q<;>simp[jA.tT]))
  omega
theorem PI.aie(H:gT F)(p:PI F j zX E S v I B o w qJ){N:Nat}(s:i<E.r)(a:E.N i=Ã (.jz N))(t:o[F.L+i]?=Ã g)(J:g.status=Å):km F j zX E v o w qJ K (F.L+i):=by
 let⟨M,n,O⟩:=p.k i _ s a;have hL:=H.C.r;obtain⟨f,P,Q,hn,T,l,V,u,z⟩:=p.I.Pv t Z J n (O ⟨N,U⟩) M;have C:=iY t;have D:∀c∈Û (F.L+i) g.frame.fn g.frame.place P,c.act.touch?=Í/\∀b,F.M b->c.act≠ė (.release<|fQ b):=λc d=>by obtain⟨e,h,rfl⟩:=Ø d;refine⟨ź<|u e h,λb _ q=> ?_⟩;have:=u e h;let⟨k,wr,y⟩:=e;cases k<;>simp_all[Event.mute,Ë]
 obtain⟨m,G⟩:∃m,f[F.L+i]?=Ã m:=⟨f[F.L+i]'(by rwa[l]),é _⟩;have W:m.status≠Ü:=by
  let⟨g0,y,h,k,r⟩:=z.C _ m G;rw[n]at h;cases h with
  |gO=>rcases k with q|q<;>rw[q]<;>simp
 have X:fB v (F.L+i) .fD=v:=by funext q;unfold fB;split<;>simp[*]
 have Y:fB I (F.L+i) .no=I:=by funext q;unfold fB;split<;>simp[*]
 refine⟨fA.gW E i<|.jz Q,_,_,_,_,f,w,_,T,l,λh=>h,.r (p.N.G H.C λ_=>rfl) (l.trans p.b) (by rwa[X,Y]) (by rw[l];exact(p.a.C<|Ç _).gW<|⟨λ_=>⟨_,a,trivial⟩,λ_=>trivial⟩) p.M.gW (p.C.gW s (by rw[a];rfl) (λk h=>by rw[a]at h;cases h) (λk h=>by cases h) (λq h=>p.C.l q Z<|by rw[<-h,a];simp) λh=>p.C.f<|by rw[<-h,a];simp) ((p.d.C<|Ac (λc d=>(D c d).1) λc d=>(D c d).2).G<|⟨λ_=>⟨_,a,trivial⟩,λ_=>trivial⟩) (Qd (p.c.GI G W V λ_ _=>rfl) λk y n r e=> ?_) λq r k e y=>(p.f q r k e y).app _,EA H.C (p.G C)<|Á ?_⟩
 .grind
 .unfold sy;rw[a];simp only[iq.rk];grind
theorem PI.aif(H:gT F)(p:PI F j zX E S v I B o w qJ)(N:0<i)(t:i<F.L)(u:o[i]?=Ã g)(O:g.status=Å):km F j zX E v o w qJ K i:=by
 let⟨Q,T,m⟩:=p.l i N t;obtain⟨f,x,z,Y,V,n,W,C,D⟩:=p.I.Pv u Z O m T Q;have G:=iY u;have J:∀c∈Û i g.frame.fn g.frame.place x,c.act.touch?=Í/\∀b,F.M b->c.act≠ė (.release<|fQ b):=λc l=>by obtain⟨e,a,rfl⟩:=Ø l;refine⟨ź<|C e a,λb _ q=> ?_⟩;have:=C e a;let⟨h,wr,k⟩:=e;cases h<;>simp_all[Event.mute,Ë]
 obtain⟨s,M⟩:∃s,f[i]?=Ã s:=⟨f[i]'(by rwa[n]),é _⟩;have X:s.status≠Ü:=by
  let⟨g0,k,a,h,y⟩:=D.C _ s M;rw[m]at a;cases a with
  |gO=>rcases h with q|q<;>rw[q]<;>simp
 refine⟨{E with h:=fB E.h i z},_,_,_,_,f,w,_,V,n,λh=>h,.r ?_ (n.trans p.b) D ?_ ⟨p.M.C,p.M.I,p.M.jO,p.M.M,p.M.S,p.M.N⟩ ?_ (p.d.C<|Ac (λc l=>(J c l).1) λc l=>(J c l).2) (Qg (p.c.GI M X W λ_ _=>rfl) U U U U U U U) λq r a k y=>(p.f q r a k y).app _,GX (p.G G) ?_ λk m=>Ae (λ_=>rfl) (λ_ _=>fK _ _ m) (λ_=>rfl) (λ_ _=>rfl) (λ_ _=>rfl) U⟩
 .have h:=p.N;refine⟨by rw[fK S _ Z];exact h.M,λa b=>by rw[fK S _ Z];exact h.Y a b,λq a b=>by rw[fK S _ Z];exact h.I q a b,λy e a b=>by rw[fK S _ Z];exact h.C y e a b,λq a b=> ?_⟩;by_cases e:q=i
  .grind [gD]
  .rw[fK S _ e];refine⟨?_,(h.r q a b).2⟩;show _=p8 F.P (fB E.h i z q);rw[fK _ _ e];exact(h.r q a b).1
 .rw[n];have L:=p.a.C (i:=i) (d:=Ð (B i).d x) (w0:=w)<|Ç _;exact⟨L.gU,L.o,L.mb,L.e,L.f,L.h,L.l,L.S,L.M,L.c,L.I,L.N,L.g,L.d⟩
 .have h:=p.C;exact⟨h.v,h.C,h.K,h.L,h.J,h.I,h.z,h.d,h.l,h.f,h.h,h.M,h.o,h.t,h.g,h.u,h.N,h.B,h.e,h.Y,h.w,h.H,h.O,h.S,h.y,h.D⟩
 .unfold fW.iU;rw[if_neg Z,if_pos t,if_neg Z,if_pos t];refine Á ⟨U,À ?_⟩;grind [gD]
end
section
variable{F:Ph}{E J:fW F}{S:Nat->Jd}{d M:Nat->gl}{o:Nat->iD}{m:Nat->fe}{f D:Array Ä}{u:ä}{I:Option (Nat×Nat)}
def iC(E:fW F)(x:fX)(G:GS)(dk:Nat->Nat):fW F:={E with M:=x,b:=G,I:=dk}
structure jb(E:fW F)(x:fX)(C:Nat->Nat):Prop where
 r:x.sp F.n=E.r
 C:∀j,j+2<=E.r->C j=E.I j
def B9{x:fX}{G:GS}{d:Nat->Nat}(a:jb E x d):(iC E x G d).Y=E.Y:=by have e:(iC E x G d).r=E.r:=a.r;funext b;unfold fW.Y;rw[e];refine propext<|or_congr Iff.rfl<|or_congr Iff.rfl ⟨λ⟨j,c,f⟩=>⟨j,c,f.trans<|a.C j c⟩,λ⟨j,c,f⟩=>⟨j,c,f.trans (a.C j c).symm⟩⟩
def iN.G(L:iN F E m i w){x:fX}{G:GS}{d:Nat->Nat}(a:jb E x d):iN F (iC E x G d) m i w:=by have e:(fA.iC E x G d).r=E.r:=a.r;exact⟨L.gU,λy f=>L.o y Z,λh=>L.mb Z,λh=>L.e Z,λh=>L.f Z,λj h=>L.h j Z,λj h=>L.l j Z,L.S,λc g=>L.M c (g.imp id λ⟨y,f,b⟩=>⟨y,Z,b⟩),L.c,λk l b n=>by rw[B9 a];exact L.I k l b n,L.N,L.g,λj h=>L.d j Z⟩
def Wd.r{G:GS}(W:Wd F {E with b:=G,a:=E.a} w){x:fX}{dk:Nat->Nat}(a:jb E x dk)(c:x.mJ F.q=E.M.mJ F.q)(d:x.jj F.n=E.M.jj F.n):Wd F (iC E x G dk) w:=by
 have e:(fA.iC E x G dk).r=E.r:=a.r;refine⟨W.C,W.I,λj f=> ?_,W.M,W.S,λj f=>W.N j<|show j+2<=E.r by omega⟩;have b:j+2<=E.r:=Z
 have:=W.jO j b;show∃g s,w.heap[dk j]?=Ã (.chan F.q g (decide<|j<x.jj F.n) s (E.C j).iW É)/\u5 F.n j (x.mJ F.q) s/\_;rw[a.C j b,c,d];exact this
def Qj{x:fX}{G:GS}{dk:Nat->Nat}(h:x.ad F.n=E.M.ad F.n):(iC E x G dk).G=E.G:=by
 funext y;show(if y<x.ad F.n then _ else _)=if y<E.M.ad F.n then _ else _
 rw[h];rfl
def Ps.iC(h:Ps F E){x:fX}{G:GS}{dk:Nat->Nat}(d:jb E x dk)(o:E.M.jj F.n<=x.jj F.n)(t:∀j,x=.go j\/x=.lO j\/x=.rd j\/x=.iG j->j<=F.n)(u:∀j,x=.lO j\/x=.rd j\/x=.iG j->1<=j)(v:∀r,(x=.iQ r->r<=F.q)/\(x=.kZ r->r<=F.n)) (w:∀c f,G=.cl c f->c=Ñ (F.n+1) (fA.iC E x G dk).G/\f=x.gB) (z:∀f,G=.jM f->Ñ (F.n+1) (fA.iC E x G dk).G=0/\f=x.gB/\∃y,y<E.r/\E.g=Ã y/\(E.N y=Ã (.fZ (.gw f))\/E.N y=Ã (.fZ (.jg f)))) (B:∀r s,G=.gZ r s->Ñ (F.n+1) (fA.iC E x G dk).G=0/\r+s=x.gB/\(0<r->∃y,y<E.r/\E.g=Ã y/\E.N y=Ã (.fZ (.iE r)))) (C:∀y p,E.N y=Ã (.fZ p)->(∀W,p=.gw W\/p=.jg W->E.g=Ã y/\G=.jM W)/\(∀r,p=.iE r->0<r/\E.g=Ã y/\∃s,G=.gZ r s)) (D:x=.fC .gw\/x=.fC .ly\/x=.fZ->Ñ (F.n+1) (fA.iC E x G dk).G=0) (H:x=.fC .gw->∃a b,G=.gZ a b) (I:(∀p,x≠ .fC p)->x≠ .fZ->∃c,G=.cl c 0):Ps F (fA.iC E x G dk):=by
 have e:(fA.iC E x G dk).r=E.r:=d.r;refine⟨h.v,t,u,v,λq=>h.J Z,h.I,λj q=>h.z j Z,λj r q=>h.d j r Z,λj q J=> ?_,h.f,λy q=>h.h y Z,λj g N O K=> ?_,λj q=> ?_,w,λf i=> ?_,λr s i=> ?_,C,D,h.e,h.Y,λj r q=>h.w j r Z,λj r q=>h.H j r Z,H,I,h.y,λj r q=>h.D j r Z⟩
 .let⟨a,b⟩:=h.l j Z J;exact⟨Ê a o,b⟩
 .have k:dk j=dk g:=K;rw[d.C j Z,d.C g Z]at k;exact h.M j g Z Z k
 .show¬F.M (dk j)/\dk j≠F.Y/\F.S<=dk j;rw[d.C j Z];exact h.o j Z
 .let⟨k,l,y,m,L⟩:=z f i;exact⟨k,l,y,Z,L⟩
 .let⟨k,l,m⟩:=B r s i;refine⟨k,l,λL=> ?_⟩;let⟨y,P,M⟩:=m L;exact⟨y,Z,M⟩
def Ps.r(h:Ps F E){x:fX}{dk:Nat->Nat}(d:jb E x dk)(g:E.M.jj F.n<=x.jj F.n)(i:x.ad F.n=E.M.ad F.n)(f:x.gB=E.M.gB)(k:∀j,x=.go j\/x=.lO j\/x=.rd j\/x=.iG j->j<=F.n)(l:∀j,x=.lO j\/x=.rd j\/x=.iG j->1<=j)(m:∀r,(x=.iQ r->r<=F.q)/\(x=.kZ r->r<=F.n)) (o:x=.fC .gw\/x=.fC .ly\/x=.fZ->Ñ (F.n+1) E.G=0) (s:x=.fC .gw->∃a b,E.b=.gZ a b) (t:(∀p,x≠ .fC p)->x≠ .fZ->∃c,E.b=.cl c 0):Ps F (fA.iC E x E.b dk):=by
 have e:=Qj (E:=E) (G:=E.b) (dk:=dk) i;refine h.iC d g k l m ?_ ?_ ?_ h.N ?_ s t
 .rw[e,f];exact h.t
 .rw[e,f];exact h.g
 .rw[e,f];exact h.u
 .rwa[e]
def ry.iC(h:ry F E S d o)(ok:F.Ok){x:fX}{G:GS}{dk:Nat->Nat}{T:gl}(a:jb E x dk):ry F (fA.iC E x G dk) (fB S 0<|JM F dk x) (fB d 0 T) (fB o 0<|kM x):=by have:=ok.r;have e:(fA.iC E x G dk).r=E.r:=a.r;refine⟨by rw[gD,gD];exact⟨U,U⟩,λc b=>by rw[fK S _ Z,fK o _ Z];exact h.Y Z b,λj c b=> ?_,λy f c b=>by rw[fK S _ Z,fK o _ Z,fK d _ Z];exact h.C y f Z b,λi c b=>by rw[fK S _ Z,fK o _ Z,fK d _ Z];exact h.r i c b⟩;rw[fK S _ Z,fK o _ Z];show _=JW F (dk j) j (E.C j)/\_=kW F (dk j) (E.C j);rw[a.C j Z];exact h.I j Z b
def sB{x:fX}{G:GS}{dk:Nat->Nat}{T:gl}(h:x.rk F<E.M.rk F):p9 F.N ((iC E x G dk).mu (fB d 0 T) D) (E.mu d f):=by refine GX (by unfold Ph.N;omega) (À ?_) λk a=>Ae (λh=>absurd h a) (λ_ _=>rfl) (λ_=>rfl) (λ_ _=>rfl) (λ_ _=>rfl)<|fK d _ a;rwa[Eo,Eo]
theorem YQ:E.lG 0=match E.M with|.fC p=>p.lG F.B E.b.st|_=>0:=by unfold fW.lG;grind
def aii{p a:SP}(b:E.M=.fC (.mr p))(g:d 0=.fD)(h:a.rk F.B E.b.st<p.rk F.B E.b.st):p9 F.N ((iC E (.fC (.mr a)) E.b E.I).mu (fB d 0 .fD) D) (E.mu d f):=by
 refine Ym (i:=0) (λk _=> ?_) (by unfold Ph.N;omega) ?_ λk c=> ?_
 .by_cases e:k=0
  .subst e;rw[Eo,Eo,gD,b,g];rfl
  .exact Ae (λh=>absurd h e) (λ_ _=>rfl) (λ_=>rfl) (λ_ _=>rfl) (λ_ _=>rfl)<|fK d _ e
 .rwa[YQ,YQ,b]
 .unfold fW.lG;rw[if_neg c,if_neg c];rfl
def PI.tU(p:PI F b zX E S d o m f w qJ)(c:f[0]?=Ã g)(e:g.status=Å)(h:d 0=.fD):∀a,fI (m 0) (m 0).w a->JM F E.I E.M {m 0 with w:=a} g:=by
 let⟨k,i⟩:=p.h;have j:o 0=.no\/o 0=.iE:=by
  rw[i];cases E.M with
  |fC v=>cases v<;>first|exact À U|exact Á U
  |_=>exact À U
 intro a r;have:=p.I.N c e h j a r;simp_all
def Ao(ok:F.Ok):∀x,E.iy x->0=F.L+x->False:=λx _ e=>by have:=ok.r;omega
theorem PI.Ap(H:gT F)(p:PI F b zX E S d o m f w qJ){x:fX}{G:GS}{dk:Nat->Nat}{c:Ä}{T:gl}(a:jb E x dk)(C:Ŏ F.P (ð f w I) 0=(ğ<|ð D W I,u))(l:D.size=f.size)(q3:D[0]?=Ã c)(mq:c.status=Å\/c.status=å)(J:∀k,k≠0->D[k]?=f[k]?.map (Ā F.P g c W))(K:∀j,j+2<=E.r->W.heap[E.I j]?=w.heap[E.I j]?) (L:gM F.P F.S E.Y (fB S 0<|JM F dk x) (fB d 0 T) (fB o 0<|kM x) (gi m 0 {m 0 with w:=W}) D W (qJ++u)) (M:TI F.toFx b zX E.r E.S.rl E.V E.e E.d E.iy E.f (qJ++u)) (O:iN F E (gi m 0 {m 0 with w:=W}) D.size W) (Q:Wd F (iC E x G dk) W) (X:Ps F (iC E x G dk)) (yt:p9 F.N ((iC E x G dk).mu (fB d 0 T) D) (E.mu d f)) (hxf:x=.fZ->E.M=.fZ):km F b zX E d f w qJ I 0:=by
 have e:(iC E x G dk).r=E.r:=a.r;refine⟨iC E x G dk,_,_,_,_,D,W,u,C,l,hxf,.r (p.N.iC H.C a) (by rw[e];exact l.trans p.b) (by rwa[B9 a]) (O.G a) Q X (by rwa[e]) ?_ λi h s n q=>(p.f i h Z n q).app u,yt⟩;intro k y n hb;by_cases q:k=0
 .grind
 .rw[J k q]at n;obtain⟨z,hz,rfl⟩:=Ù.1 n;let⟨_,hzb⟩:=GV hb;rcases p.c k z hz hzb with⟨h1,_⟩|⟨j,t,v,B,i|⟨r,cap,s,h,i,h4⟩⟩
  .exact absurd h1 q
  .exact Á ⟨j,Z,v,B,À i⟩
  .refine Á ⟨j,Z,v,B,Á ⟨r,cap,s,h,i,?_⟩⟩;show W.heap[dk j]?=_;rwa[a.C j t,K j t]
theorem PI.LA(H:gT F)(p:PI F b zX E S d o m f w qJ){x:fX}{h:Nat->Nat}{T:gl}(c:jb E x h)(v:f[0]?=Ã g)(B:g.status=Å)(hF:lu F.P Ì (JM F h x) T {m 0 with w:=w} g)(t:x.mJ F.q=E.M.mJ F.q)(l:x.jj F.n=E.M.jj F.n)(D:Ps F (iC E x E.b h))(G:p9 F.N ((iC E x E.b h).mu (fB d 0 T) f) (E.mu d f))(I:x=.fZ->E.M=.fZ):sx F b zX E d f w qJ:=by
 have u:=iY v;have C:=p.I.r;have e:(iC E x E.b h).r=E.r:=c.r;have J:ja F.S (λi=>i<f.size) E.Y (gi m 0 {m 0 with w:=w}) w qJ:=C.C u (λ_ q=>q) (λa q=>À<|Á q) (λ_ q=>q) (λa q=>À<|Á q) U U U (C.m _ u)<|C.g _ u;have L:=p.I.M (K:=kM x) v (À B) J hF;refine⟨iC E x E.b h,_,_,_,_,I,.r (p.N.iC H.C c) (by rw[e];exact p.b) (by rwa[B9 c]) ((p.a.C<|Ç _).G c) (Wd.r p.M c t l) D (by rw[e];exact p.d) (λk y M O=> ?_) λi a z j s=>p.f i a Z j s,G⟩;by_cases Q:k=0
 .grind
 .rcases p.c k y M O with⟨t,_⟩|⟨j,V,z,l,i|⟨r,W,s,a,i,X⟩⟩
  .exact absurd t Q
  .exact Á ⟨j,Z,z,l,À i⟩
  .refine Á ⟨j,Z,z,l,Á ⟨r,W,s,a,i,?_⟩⟩;show w.heap[h j]?=_;rwa[c.C j V]
def nh{x:fX}(h:x.sp F.n=E.M.sp F.n):jb E x E.I:=⟨h,λ_ _=>rfl⟩
theorem nO:F.M F.C:=À U
theorem PI.aij(H:gT F)(p:PI F b zX E S d o m f w qJ)(k:f[0]?=Ã g)(l:g.status=Å)(s:d 0=.fD)(e:E.M=.lO j):sx F b zX E d f w qJ:=by
 have i:=p.tU k l s w<|p.I.r.r _<|iY k;rw[e]at i;let⟨c,i⟩:=i;have t:E.r=j:=by unfold fW.r;rw[e];rfl
 have a:jb E (.go j) (fB E.I (j-1) c):=⟨t.symm,λn h=>fK _ _ Z⟩;refine p.LA H (T:=.fD) a k l (λr q=>H.GR _ _ _ _ _ i q) (by rw[e];rfl) (by rw[e];rfl) (p.C.r a (by rw[e];exact Ç _) (by rw[e];rfl) (by rw[e];rfl) (λn h=> ?_) (λn h=> ?_) (λr=>⟨λh=>(by cases h),λh=>(by cases h)⟩) (λh=>by rcases h with h|h|h<;>cases h) (λh=>by cases h) λ_ _=>p.C.S (λv q=>by rw[e]at q;cases q) λq=>by rw[e]at q;cases q) (sB<|by rw[e];simp only[fX.rk];omega) λh=>by cases h
 .rcases h with h|h|h|h<;>cases h;exact p.C.C j<|Á<|À e
 .grind
def PI.aik(H:gT F)(p:PI F b zX E S d o m f w qJ)(k:f[0]?=Ã g)(t:g.status=Å)(u:d 0=.fD)(i:E.M=.rd j):km F b zX E d f w qJ I 0:=by
 have n:=p.tU k t u w<|p.I.r.r _<|iY k;rw[i]at n;let⟨Q,_,V,z,s⟩:=n;have B:E.r=j:=by unfold fW.r;rw[i];rfl
 have a:jb E (.lO j) E.I:=⟨B.symm,λ_ _=>rfl⟩;let⟨C,G,J⟩:=P7 H p nO (À U) (À U) (À ⟨U,U⟩) λx c e=>Ao H.C x c e;let⟨T,x⟩:=jq s;have e:=lP (λl g ⟨c,h⟩=>À<|H.I _ _ _ _ h) s;obtain⟨D,y,c,l,K,L,M,N,O,P⟩:=p.BX H (kM<|.lO j) k (z w) fp fp C G x e;refine p.Ap H a K L M e N (λ_ _=>rfl) O (J y c l) P (Wd.r p.M a (by rw[i];rfl)<|by rw[i];rfl) (p.C.r a (by rw[i];exact Ç _) (by rw[i];rfl) (by rw[i];rfl) (λq h=> ?_) (λq h=> ?_) (λr=>⟨λh=>(by cases h),λh=>(by cases h)⟩) (λh=>by rcases h with h|h|h<;>cases h) (λh=>by cases h) λ_ _=>p.C.S (λv q=>by rw[i]at q;cases q) λq=>by rw[i]at q;cases q) (sB<|by rw[i];simp only[fX.rk];omega) λh=>by cases h
 .rcases h with h|h|h|h<;>cases h;exact p.C.C j<|Á<|Á<|À i
 .rcases h with h|h|h<;>cases h;exact p.C.K j<|Á<|À i
end
section
variable{F:Ph}{E I:fW F}{S:Nat->Jd}{m K:Nat->gl}{z:Nat->iD}{o:Nat->fe}{d B:Array Ä}{u:ä}{C:Option (Nat×Nat)}
def ail(y:Nat):E.G y<=1:=by
 unfold fW.G;split
 .cases E.N y with
  |none=>exact Ç _
  |some e=>cases e with
   |pA=>exact Ç _
   |fZ p=>cases p<;>simp[my,iq.kS,jN.kS]
   |jz N=>simp[my,iq.kS]
 .omega
def YR(v:Int):kJ F.C w (w.setCell (fQ F.C)<|ë Ó v):=Á ⟨_,_,À U,U⟩
def Qk(H:gT F)(p:PI F n zX E S m z o d w qJ)(h:kJ F.C w W){G:GS}(a:ik W F.C G):Wd F {E with b:=G,a:=E.a} W:= h.I H p.a p.C p.M nO (Ga:=G) (Gg:=E.a) ⟨λ_=>a,λe=>absurd U e⟩ λb c=>⟨λe=>absurd e.symm<|H.C.M b c,λ_=>rfl⟩
def Ql(H:gT F)(p:PI F n zX E S m z o d w qJ)(h:kJ F.C w W)(c:i<d.size):fI {o i with w:=w} w W:=by have D:=h.r p.a H.C nO;exact⟨Õ D.r.symm,λb f=>D.ki b<|p.I.r.I _ c b f,λa e=>D.M _ c a e,λa e=>D.N _ c a e,λa _=>D.I a⟩
def Aq{l:fe}{b:Ï}(r:fI {l with w:=W} jX b):fI l jX b:=⟨r.r,r.I,r.N,r.Y,r.S⟩
def PI.ain(H:gT F)(p:PI F n zX E S m z o d w qJ)(D:d[0]?=Ã g)(iJ:g.status=Å)(ht:m 0=.fD)(a:E.M=.iG j):km F n zX E m d w qJ C 0:=by
 have O:=iY D;have Q:=p.tU D iJ ht w<|p.I.r.r _ O;rw[a]at Q;let⟨hd,_,hA⟩:=Q;have hj:=p.C.C j<|Á<|Á<|Á a;have Hh:=p.C.K j<|Á<|Á a;have pz:E.r=j:=by unfold fW.r;rw[a];rfl
 have vd:=H.C.oz;let⟨c,G⟩:=p.C.S (λv q=>by rw[a]at q;cases q) (λq=>by rw[a]at q;cases q);let⟨Hc,_⟩:=p.C.t c 0 G;have hcn:c<=F.n+1:=by rw[Hc];exact G2 ail
 have I:=G▸p.M.C;let⟨hv,J⟩:=I.ag7 Z;have K:=hA (GS.cl c 0).st;rw[hv]at K J;obtain⟨b,V⟩:∃b,(GS.cl (c+1) 0).st=b:=⟨_,U⟩;rw[V]at K J;let⟨L,h1,k⟩:=K;have Ey:=h1 w I.C I.I;have t:=YR (F:=F) (w:=w) b;have yx:=Ql H p t O;have M:b=(c+1:Int)*fY:=by rw[<-V];simp only[GS.st,fY];omega
 obtain⟨x,v,N⟩:∃x:fX,(x=.rd j\/x=.lO j)/\fi F.P Ì (JM F E.I x) {o 0 with w:=w} L:=by
  by_cases l:c=0
  .have e:b=fY:=by rw[M,l];simp[fY]
   simp only[if_pos e]at k;exact⟨.rd j,À U,k⟩
  .have r:¬b=fY:=by simp only[fY]at M|-;omega
   have s:fY<b/\b<1000000*fY/\b%fY=0:=by simp only[fY]at M|-;omega
   simp only[if_neg r,if_pos s]at k;exact⟨.lO j,Á U,k⟩
 let⟨T,hT⟩:=jq<|N.kj yx;have X:L.status=Å\/L.status=å:=by
  rcases v with rfl|rfl
  .exact lP (λl g h=>À h.2.1) N
  .exact lP (λl g ⟨c,h⟩=>À<|H.I _ _ _ _ h) N
 obtain⟨B,u,q1,q2,q3,q4,q5,q6,q7⟩:=p.Y H (kM x) D (À U) nO Ey t (BR nO) U (λx l e=>(Ao H.C x l e).elim) hT X;have l:x.ad F.n=j+1:=by rcases v with rfl|rfl<;>rfl
 have Y:E.M.ad F.n=j:=by rw[a];rfl
 have EG:x.sp F.n=j:=by rcases v with rfl|rfl<;>rfl
 have hxr:x.gB=0:=by rcases v with rfl|rfl<;>rfl
 have e:jb E x E.I:=⟨EG.trans pz.symm,λ_ _=>rfl⟩;have wS:Ñ (F.n+1) (iC E x (.cl (c+1) 0) E.I).G=c+1:=by
  have h:=yr (f:=E.G) (f':=(iC E x (.cl (c+1) 0) E.I).G) (j:=j) (n:=F.n+1) Z (λi y=>by
   show(if i<x.ad F.n then my (E.N i)else 0)=if i<E.M.ad F.n then my (E.N i)else 0
   rw[l,Y];by_cases q:i<j
   .rw[if_pos q,if_pos Z]
   .rw[if_neg q,if_neg Z])
  have r:E.G j=0:=by unfold fW.G;rw[Y,if_neg Z]
  have s:(iC E x (.cl (c+1) 0) E.I).G j=1:=by show(if j<x.ad F.n then my (E.N j)else 0)=1;rw[l,if_pos Z,p.C.h j Z];rfl
  rw[r,s]at h;omega
 refine p.Ap H e q1 q2 q3 X q4 (λr s=>t.C p.C nO s) q5 q6 q7 (Wd.r (Qk H p t J) e (by rw[a];rcases v with rfl|rfl<;>rfl) (by rw[a];rcases v with rfl|rfl<;>rfl)) (p.C.iC e (by rw[a];exact ò _) (λr h=> ?_) (λr h=> ?_) (λr=>⟨λh=> ?_,λh=> ?_⟩) (λi s h=> ?_) (λs h=>by cases h) (λr s h=>by cases h) (λy i h=> ?_) (λh=> ?_) (λh=> ?_) λ_ _=>⟨_,rfl⟩) (sB (by rw[a];rcases v with rfl|rfl<;>simp only[fX.rk]<;>omega)) (λh=>by rcases v with rfl|rfl<;>cases h)
 .rcases v with rfl|rfl<;>rcases h with h|h|h|h<;>cases h<;>exact hj
 .rcases v with rfl|rfl<;>rcases h with h|h|h<;>cases h<;>exact Hh
 .rcases v with rfl|rfl<;>cases h
 .rcases v with rfl|rfl<;>cases h
 .cases h;exact⟨wS.symm,hxr.symm⟩
 .have:=p.C.N y i h;rw[G]at this;exact⟨λW q=>(by have:=(this.1 W q).2;cases this),λr hr=>(by let⟨_,_,s,h⟩:=this.2 r hr;cases h)⟩
 .rcases v with rfl|rfl<;>rcases h with h|h|h<;>cases h
 .rcases v with rfl|rfl<;>cases h
theorem PI.aio(H:gT F)(p:PI F n zX E S m z o d w qJ)(c:d[0]?=Ã g)(e:g.status=Å)(i:m 0=.fD)(b:E.M=.iQ 0):sx F n zX E m d w qJ:=by have f:=p.tU c e i;rw[b]at f;have a:jb E (.kZ F.n) E.I:=nh (by rw[b];rfl);refine p.LA H (T:=.fD) a c e (λh q=>f h<|(p.I.r.r _<|iY c).fj<|Aq q) (by rw[b];simp[fX.mJ]) (by rw[b];simp[fX.jj]) (p.C.r a (by rw[b];exact ò _) (by rw[b];rfl) (by rw[b];rfl) (λq h=> ?_) (λq h=> ?_) (λr=>⟨λh=>(by cases h),λh=> ?_⟩) (λh=>by rcases h with h|h|h<;>cases h) (λh=>by cases h) λ_ _=>p.C.S (λv q=>by rw[b]at q;cases q) λq=>by rw[b]at q;cases q) (sB<|by rw[b];simp only[fX.rk];omega) (λh=>by cases h);all_goals grind
theorem PI.aip(H:gT F)(p:PI F n zX E S m z o d w qJ)(c:d[0]?=Ã g)(e:g.status=Å)(i:m 0=.fD)(b:E.M=.kZ 0):sx F n zX E m d w qJ:=by have f:=p.tU c e i;rw[b]at f;have a:jb E (.fC .jc) E.I:=nh (by rw[b];rfl);refine p.LA H (T:=.fD) a c e (λh r=>f h<|(p.I.r.r _<|iY c).fj<|Aq r) (by rw[b];rfl) (by rw[b];simp[fX.jj]) (p.C.r a (by rw[b];simp[fX.jj]) (by rw[b];rfl) (by rw[b];rfl) (λr h=> ?_) (λr h=> ?_) (λr=>⟨λh=>(by cases h),λh=>(by cases h)⟩) (λh=>by rcases h with h|h|h<;>cases h) (λh=>by cases h) λh _=>absurd rfl<|h _) (sB<|by rw[b];simp only[fX.rk,jA.rk];omega) (λh=>by cases h);all_goals grind
def Ca{v:jA}:∀j,(fX.fC v=.go j\/fX.fC v=.lO j\/fX.fC v=.rd j\/fX.fC v=.iG j)->j<=F.n:=λj h=>by rcases h with h|h|h|h<;>cases h
def Cb{v:jA}:∀j,(fX.fC v=.lO j\/fX.fC v=.rd j\/fX.fC v=.iG j)->1<=j:=λj h=>by rcases h with h|h|h<;>cases h
def Cc{v:jA}:∀r,(fX.fC v=.iQ r->r<=F.q)/\(fX.fC v=.kZ r->r<=F.n):=λr=>⟨λh=>(by cases h),λh=>(by cases h)⟩
def PI.aiq(H:gT F)(p:PI F n zX E S m z o d w qJ)(c:d[0]?=Ã g)(e:g.status=Å)(i:m 0=.fD)(b:E.M=.fC .jc):sx F n zX E m d w qJ:=by have f:=p.tU c e i w<|p.I.r.r _<|iY c;rw[b]at f;let⟨k,q,j,l⟩:=f;have a:jb E (.fC (.mr (.gX k))) E.I:=nh (by rw[b];rfl);exact p.LA H (T:=.fD) a c e (λr h=>⟨j,K2 l h⟩) (by rw[b];rfl) (by rw[b];rfl) (p.C.r a (by rw[b];exact Ç _) (by rw[b];rfl) (by rw[b];rfl) Ca Cb Cc (λh=>by rcases h with h|h|h<;>cases h) (λh=>by cases h) λh _=>absurd rfl<|h _) (sB<|by rw[b];simp only[fX.rk,jA.rk];omega) λh=>by cases h
theorem PI.air(H:gT F)(p:PI F n zX E S m z o d w qJ){v:SP}(k:d[0]?=Ã g)(iJ:g.status=Å)(ht:m 0=.fD)(b:E.M=.fC (.mr v)):km F n zX E m d w qJ C 0:=by
 have gE:=iY k;have hJ:=p.tU k iJ ht w<|p.I.r.r _ gE;rw[b]at hJ;obtain⟨hd,X⟩:=hJ;have hG:=p.M.C;obtain⟨_,X⟩:=Yo X hG;have Y:E.M.jj F.n<=F.n:=by rw[b];exact Ç _
 rcases X with⟨q,g',es,j,i,P,h4⟩|⟨g',j,i,P⟩|⟨g',c,f,Q,va,j,i⟩
 .have r:∀e∈es,u9 F.toFx e:=by
   grind [Ag,nO]
  obtain⟨s,V,l⟩:=P;obtain⟨B,u,t,D,I,K,L,M,N⟩:=p.Y (J:=JM F E.I<|.fC (.mr q)) (T:=.fD) H (kM<|.fC (.mr q)) k (À U) nO j (À U) r (by rcases i with rfl|rfl<;>rfl) (λx y e=>(Ao H.C x y e).elim) (λh a=>⟨hd,K2 ⟨s,V,l⟩ a⟩)<|À (l _ _ V).1;have a:jb E (.fC (.mr q)) E.I:=nh (by rw[b];rfl);exact p.Ap H a t D I (À (l _ _ V).1) K (λ_ _=>rfl) L M N (Wd.r p.M a (by rw[b];rfl)<|by rw[b];rfl) (p.C.r a Y (by rw[b];rfl) (by rw[b];rfl) Ca Cb Cc (λh=>by rcases h with h|h|h<;>cases h) (λh=>by cases h) λh _=>absurd rfl<|h _) (aii b ht h4) λh=>by cases h
 .obtain⟨T,hT⟩:=jq P;have O:=lP (λl g h=>À h.2.1) P;obtain⟨B,u,t,D,I,K,L,M,N⟩:=p.Y H (kM<|.fC .ly) k (À U) nO j (À U) (Ag nO) U (λx y e=>(Ao H.C x y e).elim) hT O;have a:jb E (.fC .ly) E.I:=nh (by rw[b];rfl);refine p.Ap H a t D I O K (λ_ _=>rfl) L M N (Wd.r p.M a (by rw[b];rfl)<|by rw[b];rfl) (p.C.r a Y (by rw[b];rfl) (by rw[b];rfl) Ca Cb Cc (λ_=> ?_) (λh=>by cases h) λh _=>absurd rfl<|h _) (sB<|by rw[b];simp only[fX.rk,jA.rk];omega) (λh=>by cases h);cases V:E.b with
  |cl c f=>have:=i c f V;have:=(p.C.t c f V).1;omega
  |jM f=>exact(p.C.g f V).1
  |gZ r s=>exact(p.C.u r s V).1
 .obtain⟨e1,V⟩:=p.C.t c f Q;rw[b]at V;have V:f=0:=V;subst V;obtain⟨hv,G4⟩:=(Q▸hG).X8 va Z;rw[Q,hv]at j;rw[hv]at G4;rw[Q]at i;have e:(GS.cl c 0).st%fY=0:=by simp only[GS.st,fY];omega
  simp only[e,if_true]at i;have W:=YR (F:=F) (w:=w) (GS.cl c<|0+1).st;obtain⟨T,hT⟩:=jq<|i.kj<|Ql H p W gE;have O:=lP (λl g h=>À h.2.1) i;obtain⟨B,u,t,D,I,K,L,M,N⟩:=p.Y H (kM<|.fC .wr) k (À U) nO j W (BR nO) U (λx y e=>(Ao H.C x y e).elim) hT O;have a:jb E (.fC .wr) E.I:=nh (by rw[b];rfl);refine p.Ap H a t D I O K (λy l=>W.C p.C nO l) L M N (Wd.r (Qk H p W G4) a (by rw[b];rfl)<|by rw[b];rfl) (p.C.iC a Y Ca Cb Cc (λl f h=> ?_) (λf h=>by cases h) (λr s h=>by cases h) (λy q h=> ?_) (λh=>by rcases h with h|h|h<;>cases h) (λh=>by cases h) λh _=>absurd rfl<|h _) (sB<|by rw[b];simp only[fX.rk,jA.rk];omega) λh=>by cases h
  .rw[(Qj (E:=E) (x:=.fC .wr) (G:=.cl c (0+1)) (dk:=E.I)<|by rw[b];rfl)];cases h;exact⟨e1,U⟩
  .have:=p.C.N y q h;grind
def PI.ais(H:gT F)(p:PI F n zX E S m z o d w qJ)(c:d[0]?=Ã g)(j:g.status=Å)(k:m 0=.fD)(b:E.M=.fC .wr):km F n zX E m d w qJ C 0:=by have f:=p.tU c j k w<|p.I.r.r _<|iY c;rw[b]at f;let⟨L,_,M,q,i⟩:=f;have a:jb E (.fC .kH) E.I:=nh (by rw[b];rfl);let⟨r,s,t⟩:=P7 H p nO (À U) (Á U) (À ⟨U,U⟩) λx h e=>Ao H.C x h e;let⟨T,x⟩:=jq i;have e:=lP (λl g h=>À h.2.1) i;obtain⟨B,y,l,u,v,D,G,I,J,K⟩:=p.BX H (kM<|.fC .kH) c (q w) fp fp r s x e;exact p.Ap H a v D G e I (λ_ _=>rfl) J (t y l u) K (Wd.r p.M a (by rw[b];rfl)<|by rw[b];rfl) (p.C.r a (by rw[b];exact Ç _) (by rw[b];rfl) (by rw[b];rfl) Ca Cb Cc (λh=>by rcases h with h|h|h<;>cases h) (λh=>by cases h) λh _=>absurd rfl<|h _) (sB<|by rw[b];simp only[fX.rk,jA.rk];omega) λh=>by cases h
def PI.ait(H:gT F)(p:PI F n zX E S m z o d w qJ)(i:d[0]?=Ã g)(s:g.status=Å)(t:m 0=.fD)(f:E.M=.fC .gw):km F n zX E m d w qJ C 0:=by have k:=p.tU i s t w<|p.I.r.r _<|iY i;rw[f]at k;let⟨P,_,v⟩:=k;let⟨a,b,y⟩:=p.C.O f;have q:=p.M.C;rw[y]at q;let⟨Q,D,j⟩:=v 0;simp only[if_true]at j;have c:jb E (.fC .ly) E.I:=nh (by rw[f];rfl);let⟨T,G⟩:=jq j;have r:=lP (λl g h=>À h.2.1) j;obtain⟨B,u,l,I,J,K,L,M,N⟩:=p.Y H (kM<|.fC .ly) i (À U) nO (D w q.C) (À U) (Ag nO) U (λx O e=>(Ao H.C x O e).elim) G r;exact p.Ap H c l I J r K (λ_ _=>rfl) L M N (Wd.r p.M c (by rw[f];rfl)<|by rw[f];rfl) (p.C.r c (by rw[f];exact Ç _) (by rw[f];rfl) (by rw[f];rfl) Ca Cb Cc (λ_=>p.C.B<|À f) (λh=>by cases h) λh _=>absurd rfl<|h _) (sB<|by rw[f];simp only[fX.rk,jA.rk];omega) λh=>by cases h
theorem PI.aiu(H:gT F)(p:PI F n zX E S m z o d w qJ){g:Ä}(f:d[0]?=Ã g)(j:g.status=Å)(v:m 0=.fD)(b:E.M=.fC .kH):km F n zX E m d w qJ C 0:=by
 have D:=iY f;have I:=p.tU f j v w<|p.I.r.r _ D;rw[b]at I;obtain⟨hd,_,J,Lr,g',h1,K⟩:=I;have L:=p.M.C;by_cases M:E.b.sm=0
 .have s:=L.M;rw[M]at s;obtain⟨Q,l⟩:=p.h;rw[b]at Q l;obtain⟨B,t,c,q,O⟩:=Pu f<|Lr w s;have hw:∀x,Ā F.P g {g with status:=Ü} w x=x:=by
   intro x;unfold Ā;grind
  have r:∀k,k≠0->B[k]?=d[k]?:=by grind
  have V:gM F.P F.S E.Y S m z o B w (qJ++#[]):=by
   rw[Ú];obtain⟨g0,W,T,f3,f4⟩:=p.I.C _ g f;have X:g=g0:=by
    rw[l]at T;cases T with
    |gO=>rfl
    |oR h J=>cases j
   subst X;refine⟨?_,λk y a=> ?_,λk a=>p.I.I k<|by rwa[<-c]⟩
   .rw[show(λi=>i<B.size)=(λi=>i<d.size) by rw[c]];exact p.I.r
   .by_cases e:k=0
    .subst e;rw[q]at a;obtain rfl:=È a;refine⟨g,W,?_,À j,Á v⟩;rw[l];exact .oR j J
    .rw[r k e]at a;exact p.I.C k y a
  refine⟨E,S,m,z,o,B,w,#[],t,c,λh=>h,.r p.N (c.trans p.b) V (by rw[c];exact p.a) p.M p.C (by rw[Ú];exact p.d) (λk y a i=> ?_) (by rw[Ú];exact p.f),P0 (λ_ _=>rfl) (by unfold Ph.N;omega) (by rw[Ex f,if_pos j]) (by rw[Ex q,if_neg fp]) λk a=>P8<|r k a⟩;by_cases e:k=0
  .grind
  .rw[r k e]at a;exact p.c k y a i
 .obtain⟨a,s,Q⟩:=Yt M;have k:=Q▸L;have Ey:=h1 w _ (by simp only[GS.sm];omega) k.M k.N;have i:kJ F.C w (w.setCell (gY F.C)<|ë ç<|(GS.gZ a<|s+1).sm-1):=Á ⟨_,_,Á U,U⟩;obtain⟨T,hT⟩:=jq<|K.kj<|Ql H p i D;have V:=lP (λl g h=>À h.2.1) K;obtain⟨B,u,t,c,q,O,q5,q6,q7⟩:=p.Y H (kM<|.fC .gw) f (À U) nO Ey i (GZ nO) (G0 _).2.2.2 (λx l e=>(Ao H.C x l e).elim) hT V;obtain⟨W,l,b3⟩:=p.C.u a (s+1) Q;rw[b]at l;have l:a+(s+1)=1:=l;have ha:a=0:=Z
  have hs0:s=0:=Z
  subst ha hs0;have e:jb E (.fC .gw) E.I:=nh (by rw[b];rfl);have X:=Qj (E:=E) (x:=.fC .gw) (G:=.gZ 0 0) (dk:=E.I) (by rw[b];rfl);refine p.Ap H e t c q V O (λj' r=>i.C p.C nO r) q5 q6 q7 (Wd.r (Qk H p i k.kH) e (by rw[b];rfl)<|by rw[b];rfl) (p.C.iC e (by rw[b];exact Ç _) Ca Cb Cc (λc' r h=>by cases h) (λr h=>by cases h) (λr s h=> ?_) (λy r h=> ?_) (λ_=>by rwa[X]) (λ_=>⟨0,0,U⟩) λh _=>absurd U<|h _) (sB<|by rw[b];simp only[fX.rk,jA.rk];omega) λh=>by cases h
  .rw[X];cases h;exact⟨W,U,λh=>by omega⟩
  .have:=p.C.N y r h;grind
end
section
variable{S:Nat->Jd}{a:Nat->gl}{d:Nat->iD}{f:Nat->fe}{b:Array Ä}
def gM.aiv(q:gM P i X S a d f b w qJ)(r:b[k]?=Ã g)(h:zY n É g):∃z,d k=.tR n z:=by
 let⟨l,u,v,j,s,m,y,t⟩:=h;let⟨g0,_,o,p,_⟩:=q.C k g r;generalize d k=K at o;cases o with
 |gO=>rw[l]at p;rcases p with e|e<;>cases e
 |oR h e=>simp only[e]at j;cases j
 |uY e z h=>
  simp only[Ļ,Ķ,Prod.mk.injEq]at j;rw[<-j.1]at m;have:s=Ŕ e z:=by simpa using m
  subst this;have:e=n:=by simpa[Ŕ]using t
  subst this;exact⟨z,U⟩
 |nK e z h=>cases l
def gM.YS(o:gM P i X S a d f b w qJ){x:Ä}(p:b[k]?=Ã x)(j:x.status=Ü)(q:d k=.tR n z):∃g,x=Ļ g #[Ŕ n z] (.recv Ì):=by
 let⟨g,_,l,m,_⟩:=o.C k x p;rw[q]at l;cases l with
 |gO=>rw[j]at m;rcases m with e|e<;>cases e
 |uY _ _ h=>exact⟨g,U⟩
 |nK _ _ h=>cases j
def aiw{g0:Ä}:zY i É (Ļ g0 #[Ŕ i z]<|.recv Ì):= ⟨U,_,_,U,Ŕ i z,fp,U,by simp[Ŕ]⟩
theorem aix{g0:Ä}{r:Nat}(h:w.heap[i]?=Ã (.chan n q Ì j r yQ)):((Ļ g0 #[Ŕ i z]<|.recv Ì).again w).status=Å:=by unfold ď Ļ;simp[Ŕ,h]
theorem aiy(h:(g.again w).status=Ü):g.again w=g/\g.status=Ü:=by unfold ď at h|-;grind
end
section
variable{F:Ph}{E C:fW F}{S:Nat->Jd}{a D:Nat->gl}{d:Nat->iD}{f:Nat->fe}{b m:Array Ä}{u:ä}{o:Option (Nat×Nat)}
def PI.YT(p:PI F j zX E S a d f b w qJ){x:Ä}(n:b[k]?=Ã x)(h:zY i É x):∃g,g+2<=E.r/\E.N (g+1)=Í/\k=F.L+1+g/\E.I g=i/\∃r,E.C g=.nL r:=by
 let⟨z,l⟩:=p.I.aiv n h;have s:=iY n;by_cases o:k=0
 .subst o;rw[p.h.2]at l;revert l;cases E.M with
  |fC v=>cases v<;>intro h<;>cases h
  |_=>intro h;cases h
 by_cases q:k<F.L
 .rw[(p.l k Z q).2.2]at l;cases l
 have t:=p.b;obtain⟨y,rfl⟩:∃y,k=F.L+y:=⟨k-F.L,Z⟩;cases m:E.N y with
 |some e=>rw[(p.k y e Z m).2.1]at l;cases l
 |none=>
  cases y with
  |zero=>rw[ó,(p.m Z m).2]at l;cases l
  |succ g=>
   rw[show F.L+(g+1)=F.L+1+g by omega,(p.g g Z m).2]at l;cases e:E.C g with
   |nL r=>
    rw[e]at l;injection l with l _;exact⟨g,Z,m,Z,l,r,e⟩
   |fC r v=>rw[e]at l;cases v<;>cases l
   |gL r=>rw[e]at l;cases l
   |ox r=>rw[e]at l;cases l
theorem YU(h:u5 n j i k)(c:1<=n)(a:j=i%n):i=j+k*n:=by
 have e:i=j+i/n*n:=by rw[a,Nat.mul_comm];exact(Nat.mod_add_div i n).symm
 have b:k=i/n:=by
  refine Nat.le_antisymm (ă λq=> ?_)<|ă λq=> ?_
  .have:=(h<|i/n).1 q;omega
  .have d:=mt (h k).2 Z;have f:(k+1)*n<=i/n*n:=č n q;grind
 rwa[b]
theorem YV(h:u5 n j i k)(b:1<=n)(c:j=i%n):u5 n j (i+1) (k+1):=by
 have e:=YU h b c;intro a;constructor
 .intro q;have:a*n<=k*n:=č n Z;omega
 .intro q;refine ñ λd=> ?_;have:(k+1)*n<=a*n:=č n d;grind
theorem YW(h:u5 n j i k)(b:j<n)(c:j≠i%n):u5 n j (i+1) k:=by intro a;rw[h a];grind [ē,ļ]
def PI.aiz(H:gT F)(p:PI F j zX E S a d f b w qJ){r:Nat}(hi:b[0]?=Ã g)(iJ:g.status=Å)(ht:a 0=.fD)(D:E.M=.iQ (r+1)):km F j zX E a b w qJ o 0:=by
 have hn:=H.C.N;have Lt:=(p.C.L<|r+1).1 D;have pz:E.r=F.n+1:=by unfold fW.r;rw[D];rfl
 obtain⟨hs,hk⟩:=p.h;rw[D]at hs hk;obtain⟨Q,hQ⟩:∃Q,Q=F.q-(r+1):=⟨_,U⟩;obtain⟨c,hj⟩:∃c,c=Q%F.n:=⟨_,U⟩;have hs:S 0=BH F.P (0==0) (E.I c) (F.c Q) (GQ F E.I r):=by rw[hs,hj,hQ];rfl
 have wR:c<F.n:=by rw[hj];exact ż _ hn
 have V:c+2<=E.r:=Z
 have hY:E.Y (E.I c):=Á<|Á ⟨c,V,U⟩;obtain⟨X,s,hc,ve,LB,Aj,Ak⟩:=p.M.jO c V;have qC:decide (c<E.M.jj F.n)=É:=by rw[D];simp[fX.jj]
 rw[qC]at hc;have G6:E.M.mJ F.q=Q:=by rw[D,hQ];rfl
 rw[G6]at ve;have eQ:=YU ve hn hj;have hsQ:s<=s*F.n:=â _ hn;have YX:(fX.iQ r).mJ F.q=Q+1:=by simp only[fX.mJ];omega
 have EB:=(p.I.r).N _ hY;have YY:∀t,(fX.iQ r=.go t\/fX.iQ r=.lO t\/fX.iQ r=.rd t\/fX.iQ r=.iG t)->t<=F.n:=λt h=>by rcases h with h|h|h|h<;>cases h
 have YZ:∀t,(fX.iQ r=.lO t\/fX.iQ r=.rd t\/fX.iQ r=.iG t)->1<=t:=λt h=>by rcases h with h|h|h<;>cases h
 have Y0:∀K,(fX.iQ r=.iQ K->K<=F.q)/\(fX.iQ r=.kZ K->K<=F.n):=λK=>⟨λh=>(by cases h;omega),λh=>(by cases h)⟩;have aM:=p.C.S (λv q=>by rw[D]at q;cases q) (λq=>by rw[D]at q;cases q);by_cases hp:∃(k:Nat) (x:Ä),b[k]?=Ã x/\zY (E.I c) É x
 .obtain⟨k,gj,Ek,kz⟩:=hp;obtain⟨t,pB,he,rfl,Cd,K,Ce⟩:=p.YT Ek kz;have ej:=p.C.M _ _ pB V Cd;subst ej;have hb:=kz.1;obtain⟨K6,K5⟩:=p.g t pB he;rw[Ce]at K6 K5;have aiA:S (F.L+1+t)=ym F.P (F.L+1+t==0) (E.I t) F.z λx=>match x with
   |some v=>λl g=>v=F.c (t+K*F.n)->rv F.P É F.B (F.I<|F.r<|t+K*F.n) (F.e (E.I t)<|t+K*F.n) .jc l g
   |none=>BO F:=by rw[Ah H.C t];exact K6
  have lN:F.L+1+t≠0:=Z
  have PF:a (F.L+1+t)=.fD:=by obtain⟨g0,_,i,e,h4⟩:=p.I.C _ gj Ek;refine h4.resolve_left λq=> ?_;subst q;rw[hb]at e;rcases e with q|q<;>cases q
  have Qb:X=#[]:=by
   rcases p.c _ gj Ek hb with⟨h1,_⟩|⟨C,_,_,h2,⟨G,W,_⟩|⟨G,cap,i,e,W,h4⟩⟩
   .exact absurd h1 lN
   .have:C=t:=Z
    subst this;rw[Ce]at W;cases W
   .have:C=t:=Z
    subst this;rw[hc]at h4;injection h4 with h4;injection h4
  subst Qb;rw[Ce]at hc LB Aj;simp only[gP.iW]at hc LB Aj;have hsr:s=K:=by simp at Aj;omega
  subst hsr;obtain⟨m,u,T,Tj,g',gj',q1,q2,q3,q4,q5,q6,q7,q8,q9⟩:=p.I.ag3 hi hk ht hs hY hc lN Ek hb K5 PF aiA (kW F (E.I t)<|.fC s .jc) (λI O M e i=>by obtain⟨j3,a1,_,a3,y,_⟩:=p.YT e i;have:=p.C.M _ _ a1 V y;omega);have Y1:=q9.kR (J:=JW F (E.I t) t<|.fC s .jc) (λl g h=>by rw[fK _ _ lN,gD]at h;exact h<|by rw[eQ]);have e10:fB (fB (fB S (F.L+1+t) ((match(Ã (F.c Q):Option ã)with
   |some v=>λl g=>v=F.c (t+s*F.n)->rv F.P É F.B (F.I<|F.r<|t+s*F.n) (F.e (E.I t)<|t+s*F.n) .jc l g
   |none=>BO F))) 0 (GQ F E.I r)) (F.L+1+t) (JW F (E.I t) t (.fC s .jc))=fB (fB S (F.L+1+t) (JW F (E.I t) t (.fC s .jc))) 0 (JM F E.I (.iQ r)):=by
   funext k;by_cases v:k=F.L+1+t
   .subst v;rw[gD,fK _ _ lN,gD]
   .by_cases k2:k=0
    .subst k2;rw[fK _ _<|ÿ lN,gD,gD];rfl
    .rw[fK _ _ v,fK _ _ k2,fK _ _ v,fK _ _ k2,fK _ _ v]
  rw[e10]at Y1;have Pw:=p.C.G (x:=.fC s .jc) V he (λk=>by rw[Ce,P6 U];rfl) (λG h=>by rcases h with⟨_,h⟩|h|h<;>cases h;exact Z) (λG h=>by rcases h with h|h|h<;>cases h) (λG h=>by cases h) (λG h=>by cases h);have l:jb (gR E t<|.fC s .jc) (.iQ r) E.I:=⟨by show _=E.M.sp F.n;rw[D];rfl,λ_ _=>rfl⟩;have e:(iC (gR E t<|.fC s .jc) (.iQ r) E.b E.I).r=E.r:=l.r;obtain⟨z1,z2,z3,z4,z5⟩:=p.M.G H p.a p.C V;refine⟨iC (gR E t<|.fC s .jc) (.iQ r) E.b E.I,_,_,_,_,m,_,u,q1,q2,(λh=>by have h:=h;cases h),.r ((p.N.N H.C V he).iC H.C l) (by rw[e];exact q2.trans p.b) (by rw[B9 l];exact Y1) ?_ ⟨z4,z5,λC yv=> ?_,z1,z2,λC yv G BF h1=> ?_⟩ (Pw.r l (by show E.M.jj F.n<=_;rw[D];exact ò _) (by show _=E.M.ad F.n;rw[D];rfl) (by show _=E.M.gB;rw[D];rfl) YY YZ Y0 (λh=>by rcases h with h|h|h<;>cases h) (λh=>by cases h) λ_ _=>aM) (by rw[e];exact Lv p.d q8) (λk y M kU=> ?_) λC G a1 a2 a3=> ?_,?_⟩
  .rw[q2];exact(((p.a.r<|by rw[Ce];rfl).G l).Ez<|Õ G5.symm)
  .have Ar:C+2<=E.r:=Z
   show∃X I,(w.setChan (E.I t) _ _ _ _ _ _).heap[E.I C]?=Ã (.chan F.q X (decide<|C<(fX.iQ r).jj F.n) I ((gR E t<|.fC s .jc).C C).iW É)/\u5 F.n C ((fX.iQ r).mJ F.q) I/\((gR E t<|.fC s .jc).C C).iW<=I/\X.size=I-((gR E t<|.fC s .jc).C C).iW/\∀i,i<I-((gR E t<|.fC s .jc).C C).iW->X[i]?=Ã (F.c<|C+(((gR E t<|.fC s .jc).C C).iW+i)*F.n);rw[YX];by_cases O:C=t
   .subst O;rw[jU];refine⟨#[],s+1,by rw[Lu EB];rfl,YV ve hn hj,Ç _,by simp[gP.iW],λi lH=> ?_⟩;have hi2:i<s+1-(s+1):=lH;omega
   .rw[iX _ O,qG λq=>O<|p.C.M _ _ Ar V q];obtain⟨Qm,I,y1,y2,y3⟩:=p.M.jO C Ar;rw[G6]at y2;refine⟨Qm,I,?_,YW y2 Z Z,y3⟩;rw[y1,D];rfl
  .have Ar:C+2<=E.r:=Z
   have B7:G<((gR E t<|.fC s .jc).C C).ky:=h1;by_cases O:C=t
   .subst O;rw[jU]at B7;exact z3 C Ar G BF<|by rw[Ce];exact B7
   .rw[iX _ O]at B7;exact z3 C Ar G BF B7
  .by_cases v:k=0
   .subst v;rw[q3]at M;obtain rfl:=È M;rw[q4]at kU;cases kU
   .by_cases k2:k=F.L+1+t
    .subst k2;rw[q5]at M;obtain rfl:=È M;rw[q6]at kU;cases kU
    .rw[q7 k v k2]at M;rcases p.c k y M kU with⟨h1,_⟩|⟨C,yv,An,h2,W|⟨r1,cap,s1,K,W,h4⟩⟩
     .exact absurd h1 v
     .exact Á ⟨C,Z,An,h2,À (by show∃G,(gR E t _).C C=_/\_;rw[iX _ Z];exact W)⟩
     .have O:C≠t:=Z
      exact Á ⟨C,Z,An,h2,Á ⟨r1,cap,s1,K,by show(gR E t _).C C=_;rw[iX _ O];exact W,by show(w.setChan (E.I t) _ _ _ _ _ _).heap[E.I C]?=_;rw[qG λq=>O<|p.C.M _ _ yv V q];exact h4⟩⟩
  .have BW:(gR E t<|.fC s .jc).C C=.gL G:=a2;rw[iX _ (λe=>by subst e;rw[jU]at BW;cases BW)]at BW;exact(p.f C G Z BW a3).app u
  .refine À ⟨0,by unfold Ph.N;omega,À ?_,λk oT vg=> ?_⟩
   .show((iC (gR E t<|.fC s .jc) (.iQ r) E.b E.I).iU _ 0).1<(E.iU a 0).1;rw[Eo,Eo,D];show(fX.iQ r).rk F<(fX.iQ<|r+1).rk F;simp only[fX.rk];omega
   .show(iC (gR E t<|.fC s .jc) (.iQ r) E.b E.I).iU _ k=E.iU a k\/Ad ((iC (gR E t<|.fC s .jc) (.iQ r) E.b E.I).iU _ k) (E.iU a k);by_cases k2:k=F.L+1+t
    .subst k2;refine Á<|À ?_;rw[u7 H.C (E:=iC (gR E t<|.fC s .jc) (.iQ r) E.b E.I) (show E.N (t+1)=Í from he),u7 H.C he];show((gR E t<|.fC s .jc).C t).rk F<(E.C t).rk F;rw[jU,Ce];simp only[gP.rk,jA.rk];have hm:F.n+3000<=(F.n+3000)*(F.q+3-s):=â _ Z;omega
    .refine À (Ae (λh=>absurd h vg) (λ_ _=>rfl) (λ_=>rfl) (λ_ _=>rfl) (λh1 _=> ?_)<|by rw[fK _ _ vg,fK _ _ k2]);show((gR E t<|.fC s .jc).C _).rk F=_;rw[iX _ Z]
 .obtain⟨m,u,T,g',q1,q2,q3,q4,q5,q6,q7⟩:=p.I.iQ hi hk ht hs hY hc Z λk x hkx kz=>hp ⟨k,x,hkx,kz⟩;have e0:d=fB d 0 (kM<|.iQ r):=by
   funext k;by_cases v:k=0
   .subst v;rw[gD,hk];rfl
   .rw[fK _ _ v]
  rw[e0]at q7;have l:jb E (.iQ r) E.I:=nh (by rw[D];rfl);have e:(iC E (.iQ r) E.b E.I).r=E.r:=l.r;obtain⟨z1,z2,z3,z4,z5⟩:=p.M.G H p.a p.C V;refine⟨iC E (.iQ r) E.b E.I,_,_,_,_,m,_,u,q1,q2,(λh=>by have h:=h;cases h),.r (p.N.iC H.C l) (by rw[e];exact q2.trans p.b) (by rw[B9 l];exact q7) ?_ ⟨z4,z5,λC yv=> ?_,z1,z2,λC yv=>z3 C Z⟩ (p.C.r l (by rw[D];exact ò _) (by rw[D];rfl) (by rw[D];rfl) YY YZ Y0 (λh=>by rcases h with h|h|h<;>cases h) (λh=>by cases h) λ_ _=>aM) (by rw[e];exact Lv p.d q6) (λk y M kU=> ?_) λC G a1 a2 a3=>(p.f C G Z a2 a3).app u,sB<|by rw[D];simp only[fX.rk];omega⟩
  .rw[q2];exact((p.a.G l).Ez<|Õ G5.symm)
  .have Ar:C+2<=E.r:=Z
   show∃X I,(w.setChan (E.I c) _ _ _ _ _ _).heap[E.I C]?=Ã (.chan F.q X (decide<|C<(fX.iQ r).jj F.n) I (E.C C).iW É)/\u5 F.n C ((fX.iQ r).mJ F.q) I/\(E.C C).iW<=I/\X.size=I-(E.C C).iW/\∀i,i<I-(E.C C).iW->X[i]?=Ã (F.c<|C+((E.C C).iW+i)*F.n);rw[YX];by_cases O:C=c
   .subst O;refine⟨X.push<|F.c Q,s+1,by rw[Lu EB];rfl,YV ve hn hj,Z,by rw[Array.size_push];omega,λi lH=> ?_⟩;rw[Array.getElem?_push];by_cases G:i=X.size
    .rw[if_pos G,eQ,show(E.C C).iW+i=s by omega]
    .rw[if_neg G];exact Ak i Z
   .rw[qG λq=>O<|p.C.M _ _ Ar V q];obtain⟨Qm,I,y1,y2,y3⟩:=p.M.jO C Ar;rw[G6]at y2;refine⟨Qm,I,?_,YW y2 Z Z,y3⟩;rw[y1,D];rfl
  .by_cases v:k=0
   .subst v;rw[q3]at M;obtain rfl:=È M;rw[q4]at kU;cases kU
   .rw[q5 k v]at M;rcases p.c k y M kU with⟨h1,_⟩|⟨C,yv,An,h2,W|⟨r1,cap,s1,K,W,h4⟩⟩
    .exact absurd h1 v
    .exact Á ⟨C,Z,An,h2,À W⟩
    .have O:C≠c:=λe=>by
      subst e;have G:=(p.g C yv An).2;rw[W,<-h2]at G;obtain⟨g0,i⟩:=p.I.YS M kU G;exact hp ⟨k,y,M,by rw[i];exact aiw⟩
     exact Á ⟨C,Z,An,h2,Á ⟨r1,cap,s1,K,W,by show(w.setChan (E.I c) _ _ _ _ _ _).heap[E.I C]?=_;rw[qG λq=>O<|p.C.M _ _ yv V q];exact h4⟩⟩
end
section
variable{F:Ph}{E B:fW F}{S:Nat->Jd}{m D:Nat->gl}{o:Nat->iD}{G:Nat->fe}{c d:Array Ä}{u:ä}{sl:Option (Nat×Nat)}
theorem PI.aiB(H:gT F)(p:PI F n zX E S m o G c w qJ)(hi:c[0]?=Ã g)(ht:m 0=.fD)(l:E.M=.kZ (J+1)):km F n zX E m c w qJ sl 0:=by
 have C:=p.I.r;have hL:=H.C.r;have PG:=(p.C.L<|J+1).2 l;have pz:E.r=F.n+1:=by unfold fW.r;rw[l];rfl
 obtain⟨L,Q⟩:=p.h;rw[l]at L Q;obtain⟨j,hj⟩:∃j,j=F.n-(J+1):=⟨_,U⟩;have L:S 0=K1 F.P (0==0) (E.I j) (BP F E.I J):=by rw[L,hj];rfl
 have z:j+2<=E.r:=Z
 have X:E.Y (E.I j):=Á<|Á ⟨j,z,U⟩;obtain⟨M,s,hc,ve,LB,Aj,Ak⟩:=p.M.jO j z;have qC:decide (j<E.M.jj F.n)=É:=by rw[l];simp only[fX.jj];exact decide_eq_false Z
 rw[qC]at hc;have EB:=C.N _ X;have BV:(w.setChan (E.I j) F.q M Ì s (E.C j).iW É).heap[E.I j]?=Ã (.chan F.q M Ì s (E.C j).iW É):=Lu EB;have aM:=p.C.S (λv q=>by rw[l]at q;cases q) (λq=>by rw[l]at q;cases q);obtain⟨d,u,T,g',q1,V,q3,q4,q5,q6,q7,q8,q9⟩:=p.I.kZ hi Q ht L X (p.C.o j z).2.2 hc;have e0:o=fB o 0 (kM<|.kZ J):=by
  funext k;by_cases B:k=0
  .subst B;rw[gD,Q];rfl
  .rw[fK _ _ B]
 rw[e0]at q9;have v:jb E (.kZ J) E.I:=nh (by rw[l];rfl);have e:(iC E (.kZ J) E.b E.I).r=E.r:=v.r;obtain⟨z1,z2,z3,z4,z5⟩:=p.M.G H p.a p.C z;have Ew:=p.d.C ⟨λD I a _=>q6 D I,À U,λD I a x ha hl _=> ?_,λD I a y ha _ hl=> ?_,λD I b _=>q8 D I _,λx _ _=>⟨λJ hr=>hr.appOther q6 Z,λe=>by omega⟩⟩;refine⟨iC E (.kZ J) E.b E.I,_,_,_,_,d,_,u,q1,V,(λh=>by have h:=h;cases h),.r (p.N.iC H.C v) (by rw[e];exact V.trans p.b) (by rwa[B9 v]) ?_ ⟨z4,z5,λf N=> ?_,z1,z2,λf N=>z3 f Z⟩ (p.C.r v (by rw[l];simp only[fX.jj];omega) (by rw[l];rfl) (by rw[l];rfl) (λi h=> ?_) (λi h=> ?_) (λr'=>⟨λh=>(by cases h),λh=> ?_⟩) (λh=>by rcases h with h|h|h<;>cases h) (λh=>by cases h) λ_ _=>aM) (by rwa[e]) (λk y uZ kU=> ?_) λf i W t K=>(p.f f i Z t K).app u,sB<|by rw[l];simp only[fX.rk];omega⟩
 .rw[V];exact((p.a.C<|Õ G5.symm).G v)
 .have W:f+2<=E.r:=Z
  show∃K t,(w.setChan (E.I j) F.q M Ì s (E.C j).iW É).heap[E.I f]?=Ã (.chan F.q K (decide<|f<(fX.kZ J).jj F.n) t (E.C f).iW É)/\u5 F.n f ((fX.kZ J).mJ F.q) t/\(E.C f).iW<=t/\K.size=t-(E.C f).iW/\∀i,i<t-(E.C f).iW->K[i]?=Ã (F.c<|f+((E.C f).iW+i)*F.n);have aiC:(fX.kZ J).mJ F.q=E.M.mJ F.q:=by rw[l];rfl
  rw[aiC];by_cases O:f=j
  .subst O;refine⟨M,s,?_,ve,LB,Aj,Ak⟩;rw[BV,show decide (f<(fX.kZ J).jj F.n)=Ì from decide_eq_true (by simp only[fX.jj];omega)]
  .rw[qG λq=>O<|p.C.M _ _ W z q];obtain⟨K,t,y1,y2⟩:=p.M.jO f W;refine⟨K,t,?_,y2⟩;rw[y1,l];have:decide (f<(fX.kZ<|J+1).jj F.n)=decide (f<(fX.kZ J).jj F.n):=by
    apply decide_eq_decide.2;simp only[fX.jj];omega
   rw[this]
 .grind
 .grind
 .cases h;omega
 .by_cases B:k=0
  .grind
  .obtain⟨h,t⟩:∃h,c[k]?=Ã h:=by
    grind
   rw[q5 k h B t]at uZ;obtain rfl:=È uZ;obtain⟨_,Qo⟩:=aiy kU;rcases p.c k h t Qo with⟨h1,_⟩|⟨f,N,K,W,i|⟨r1,cap,s1,r',i,h4⟩⟩
   .exact absurd h1 B
   .exact Á ⟨f,Z,K,W,À i⟩
   .have O:f≠j:=λe=>by
     subst e;have Y2:=(p.g f N K).2;rw[i,<-W]at Y2;obtain⟨g0,LC⟩:=p.I.YS t Qo Y2;grind [aix]
    exact Á ⟨f,Z,K,W,Á ⟨r1,cap,s1,r',i,by show(w.setChan (E.I j) _ _ _ _ _ _).heap[E.I f]?=_;rwa[qG λq=>O<|p.C.M _ _ N z q]⟩⟩
 .grind
 .grind
def LD(F:Ph)(zX:π->Prop)(qJ:ä):Prop:=
 (∀p a,touchAt qJ p=Ã a->a.loc.isMemory=Ì->Λ qJ 0 p\/((zX a.loc\/∃x:Č,a.loc=ú x/\x.block=F.C)/\a.kind=.atomic))/\qJ.HandedOver
def Qp{f:Nat->Nat}:∀{n:Nat},Ñ n f=0->∀i,i<n->f i=0
 |n+1,h,i,hi=>by
  simp only[Ñ]at h;rcases ģ i n with q|q
  .exact Qp Z i q
  .have:i=n:=Z
   subst this;omega
theorem PI.aiD(H:gT F)(p:PI F n zX E S m o G c w qJ)(r:c[0]?=Ã g)(K:g.status=Å)(L:m 0=.fD)(f:E.M=.fC .ly): ∃(B:fW F) (b:Nat->Jd) (D:Nat->gl) (j:Nat->iD) (h:Nat->fe) (d:Array Ä) (W:Ï) (u:ä),Ŏ F.P (ð c w sl) 0=(ğ<|ð d W sl,u)/\d.size=c.size/\PI F n zX B b D j h d W (qJ++u)/\B.M=.fZ/\LD F zX (qJ++u):=by
 have v:=iY r;have C:=p.tU r K L w<|p.I.r.r _ v;rw[f]at C;let⟨M,_,g',s,q⟩:=C;have O:=(p.I.r.f _ v).trans M;have t:∀y:Ă,y.act=ė (Œ<|fQ F.C)->y.act.touch?=Í:=λy i=>by rw[i];rfl
 have pz:E.r=F.n+1:=by unfold fW.r;rw[f];rfl
 have a:jb E .fZ E.I:=nh (by rw[f];rfl);have e:(iC E .fZ E.b E.I).r=E.r:=a.r;let⟨T,Q⟩:=jq q;have V:=lP (λl g h=>À<|H.M _ _ _ h) q;obtain⟨d,y,X,I,Y,J,q3,q4,q5,q7⟩:=p.BX H (kM .fZ) r (s w) fp fp (λy i=>⟨λz l=>(by rw[t y i]at l;cases l),by rw[i];exact p.I.r.N _<|À nO⟩) (λy _ i=>BG p.I.r.l λk j=>by rw[yu j];exact t y i) Q V;have Ew:=p.d.C (Ac (λk j=>by rw[yu j];exact t y I) λk j b _ e=>by grind);have l:=p.C.B<|Á<|À f;refine⟨iC E .fZ E.b E.I,_,_,_,_,d,w,_,Y,J,.r (p.N.iC H.C a) (by rw[e];exact J.trans p.b) (by rwa[B9 a]) (q7.G a) (Wd.r p.M a (by rw[f];rfl)<|by rw[f];rfl) (p.C.r a (by rw[f];exact Ç _) (by rw[f];rfl) (by rw[f];rfl) (λb h=> ?_) (λb h=> ?_) (λb=>⟨λh=>(by cases h),λh=>(by cases h)⟩) (λ_=>l) (λh=>by cases h) λ_ h=>absurd rfl h) (by rwa[e]) ?_ λb j N h k=>(p.f b j Z h k).app _,U,p.d.kZ X I O λx EG=> ?_⟩
 .grind
 .grind
 .intro k z b hb;by_cases N:k=0
  .grind
  .rw[q4 k N]at b;obtain⟨z',Hf,rfl⟩:=Ù.1 b;let⟨_,hzb⟩:=GV hb;rcases p.c k z' Hf hzb with⟨s,_⟩|⟨j,hj,h,q,h3⟩
   .exact absurd s N
   .exact Á ⟨j,Z,h,q,h3⟩
 .have b:=Qp l x Z;have k:E.M.ad F.n=F.n+1:=by rw[f];rfl
  unfold fW.G at b;rw[k,if_pos Z]at b;cases h:E.N x with
  |none=>rw[h]at b;cases b
  |some j=>
   rw[h]at b;refine⟨j,h,?_⟩;cases j with
   |pA=>cases b
   |fZ N=>cases N with
    |jK=>cases b
    |_=>trivial
   |jz N=>trivial
end
section
variable{D:Nat->Prop}{S:Nat->Jd}{G:Nat->gl}{I:Nat->iD}{o:Nat->fe}{f:Array Ä}{sl:Option (Nat×Nat)}
def Y3{y:Ă}(b:wQ.act=ς k)(c:y.act=İ):yo #[wQ,y]:=by
 intro d a;simp at a;rcases a with rfl|rfl
 .rw[b];exact⟨U,fp⟩
 .rw[c];exact⟨U,fp⟩
theorem ja.GN(h:ja i (λf=>f<n) X o w qJ){v:fe}{y:Ă}(F:0<n)(P:wQ.g=0/\wQ.act=ς n)(Q:y.g=n/\y.act=İ)(vh:κ qJ 0=0)(Cd:κ qJ n=0)(V:∀b,¬v.O b)(W:∀b,v.I b->(o 0).I b) (J:∀a,v.r a->X a.block/\(∀k,k<n->¬(o k).C a)/\rn qJ 0 (ú a)) (H:∀a,v.N a->(o 0).N a) (lK:∀a,v.K a->(o 0).K a) (lKO:∀k,k<n->∀a,(o k).K a->¬v.r a) (ld:v.d=0) (lw:v.w=w) (Y:∀b,X b->D b) (Y4:∀b,D b->X b\/(b<w.heap.size/\∀f,f<n->¬(o f).M b)):ja i (λf=>f<n+1) D (gi o n v) w (qJ++#[wQ,y]):=by
 have L:=Y3 P.2 Q.2;have B:∀f,f<n+1->f=n\/f<n:=λf t=>by omega
 have G:gi o n v n=v:=gV _ _ _;have E:∀f,f<n->gi o n v f=o f:=λf t=>gI o _ Z;have N:∀b,v.M b->(o 0).I b:=λb s=>s.elim (λq=>absurd q (V b)) (W b);have aiE:=λf t b s Bu=>(Y4 b Bu).elim (h.I f t b s) (λq=>q.2 f t s);refine⟨λf j t S T b s=> ?_,λf j t S T a r=> ?_,λf t b s=> ?_,λf t a r=> ?_,λf t b s=> ?_,λf t a r=> ?_,λf t b s=> ?_,λb s=> ?_,λf t=> ?_,λf t=> ?_,λf t=> ?_,BG h.l λu z=>(L u z).1,λu z=> ?_,λp a c r hl hk=> ?_,λf t a r=> ?_⟩
 .rcases B f t with rfl|m
  .grind
  .rw[E f m]at s;rcases B j S with rfl|I
   .rw[G];intro q;by_cases e:f=0
    .subst e;exact h.m _ m b s (N b q)
    .exact h.o f 0 m F e b s (Á (N b q))
   .rw[E j I];exact h.o f j m I T b s
 .rcases B f t with rfl|m
  .grind
  .rw[E f m]at r;rcases B j S with rfl|I
   .rw[G];rintro(q|q)
    .exact(J a q).2.1 f m (À r)
    .by_cases e:f=0
     .subst e;exact h.g _ m a r (H a q)
     .exact h.h f 0 m F e a r (Á (H a q))
   .rw[E j I];exact h.h f j m I T a r
 .rcases B f t with rfl|m
  .grind
  .rw[E f m]at s|-;exact h.m f m b s
 .rcases B f t with rfl|m
  .rw[G]at r|-;exact λq=>(J a r).2.1 0 F (Á (H a q))
  .rw[E f m]at r|-;exact h.g f m a r
 .rcases B f t with rfl|m
  .rw[G]at s;exact aiE 0 F b (Á (N b s))
  .grind
 .rcases B f t with rfl|m
  .rw[G]at r;exact Y _ (r.elim (λq=>(J a q).1) (λq=>h.e 0 F a (Á (H a q))))
  .rw[E f m]at r;exact Y _ (h.e f m a r)
 .rcases B f t with rfl|m
  .rw[G]at s;exact h.fv 0 F b (Á (N b s))
  .rw[E f m]at s;exact h.fv f m b s
 .exact(Y4 b s).elim (h.N b) (λq=>q.1)
 .rcases B f t with rfl|m
  .rw[G,lw];exact fI.fV _ _
  .rw[E f m];exact h.r f m
 .rcases B f t with rfl|m
  .rw[G];have e:=λl=>ahc P Q vh Cd (l:=l);exact⟨λa r=>absurd r (V _),λa r=>(e _).2 ((h.S 0 F).rd a (W _ r)),λa r=>(e _).1 (J a r).2.2,λa r=>(e _).2 ((h.S 0 F).r a (H _ r))⟩
  .rw[E f m];have e:∀u∈#[wQ,y],∀b,u.act.touch?=Ã b->False:=λu z b s=>by rw[(L u z).1]at s;cases s
   exact⟨λa r=>((h.S f m).fg a r).C λu z b s _=>(e u z b s).elim,λa r=>((h.S f m).rd a r).r λu z b s _ _=>(e u z b s).elim,λa r=>((h.S f m).C a r).C λu z b s _=>(e u z b s).elim,λa r=>((h.S f m).r a r).r λu z b s _ _=>(e u z b s).elim⟩
 .rw[K3 L];rcases B f t with rfl|m
  .grind
  .rw[E f m];exact h.f f m
 .refine(Array.mem_append.1 z).elim (h.q u) λq=> ?_;simp at q;rcases q with rfl|rfl
  .rw[P.2];trivial
  .rw[Q.2];trivial
 .rcases nj r with⟨_,e⟩|⟨_,u,e,q,_⟩
  .exact h.s p a c e hl hk
  .rw[(L u e).1]at q;cases q
 .obtain⟨e,m,q⟩:∃e,e<n/\(o e).K a:=by
   grind
  let⟨I,z2⟩:=h.n e m a q;grind
theorem gM.GN(p:gM P i X S G I o f w qJ){c b:Ä}{J q:Jd}{T r:gl}{K Kc:iD}{m n:fe}(s:f[0]?=Ã g)(L:è P Ì g w=.spawn c b w #[]) (V:∀x y:Ă,(x.g=0/\x.act=ς f.size)->(y.g=f.size/\y.act=İ)->ja i (λa=>a<f.size+1) D (gi (gi o 0 m) f.size n) w (qJ++#[x,y])) (hF:lu P Ì J T m c) (M:c.status=Å) (N:lu P É q r n b) (O:b.status=Å): ∃d x y,(x.g=0/\x.act=ς f.size)/\(y.g=f.size/\y.act=İ)/\Ŏ P (ð f w sl) 0=(ğ<|ð d w sl,#[x,y])/\d.size=f.size+1/\d[0]?=Ã c/\d[f.size]?=Ã b/\(∀k,k≠0->k<f.size->d[k]?=f[k]?)/\ gM P i D (fB (fB S 0 J) f.size q) (fB (fB G 0 T) f.size r) (fB (fB I 0 K) f.size Kc) (gi (gi o 0 m) f.size n) d w (qJ++#[x,y]):=by
 have W:=(Ö.1 s).1;have t:=runT_crowd_spawn (sl:=sl) s L;obtain⟨x,u⟩:∃x:Ă,x={g:=0,fn:=g.frame.fn,pos:=g.frame.place,act:=ς f.size}:=⟨_,U⟩;obtain⟨y,v⟩:∃y:Ă,y={g:=f.size,fn:=b.frame.fn,pos:=g.frame.place,act:=İ}:=⟨_,U⟩;have e:((Û 0 g.frame.fn g.frame.place #[]).push {g:=0,fn:=g.frame.fn,pos:=g.frame.place,act:=ς f.size}).push {g:=f.size,fn:=b.frame.fn,pos:=g.frame.place,act:=İ}=#[x,y]:=by rw[u,v];simp[Û]
 rw[e]at t;have B:x.g=0/\x.act=ς f.size:=by rw[u];exact⟨U,U⟩
 have C:y.g=f.size/\y.act=İ:=by rw[v];exact⟨U,U⟩
 have E:((f.setIfInBounds 0 c).push b)[0]?=Ã c:=by grind
 have F:((f.setIfInBounds 0 c).push b)[f.size]?=Ã b:=by grind
 have H:∀k,k≠0->k<f.size->((f.setIfInBounds 0 c).push b)[k]?=f[k]?:=λk Y h2=>by grind
 refine⟨_,x,y,B,C,t,fp,E,F,H,?_,λk z d=> ?_,λj Q=> ?_⟩
 .simp_all
 .have Yu:k<f.size+1:=by have:=(Ö.1 d).1;simpa using this
  by_cases l:k=f.size
  .subst l;rw[F]at d;obtain rfl:=È d;rw[gD,gD,gD,gV,show(f.size==0)=É from beq_eq_false_iff_ne.2 Z];exact⟨b,N,.gO,À O,À U⟩
  .rw[fK _ _ l,fK _ _ l,fK _ _ l,gI _ _ l];by_cases h:k=0
   .subst h;rw[E]at d;obtain rfl:=È d;rw[gD,gD,gD,gV];exact⟨c,hF,.gO,À M,À U⟩
   .rw[H k h Z]at d;rw[fK _ _ h,fK _ _ h,fK _ _ h,gI _ _ h];exact p.C k z d
 .rw[K3<|Y3 B.2 C.2];exact p.I j<|by simp at Q;omega
end
section
variable{F:Ph}{E N:fW F}{S:Nat->Jd}{G Q:Nat->gl}{I:Nat->iD}{o:Nat->fe}{f B:Array Ä}{u:ä}{sl:Option (Nat×Nat)}
theorem aiF(ok:F.Ok)(h:i≠n)(c:mf F i a)(d:mf F n a):False:=by
 have q:∀{i n:Nat},i=0->n≠0->mf F i a->mf F n a->False:=by
  intro i n g j c d;unfold mf at c d;rw[if_pos g]at c;rw[if_neg j]at d;let⟨k,o,m,e⟩:=c;let⟨b,l,p,f⟩:=d;rcases e with e|e
  .rw[f]at e;have:F.Y=F.I k:=by injection e
   exact ok.C<|Á ⟨k,m,this⟩
  .rw[f]at e;exact ok.PV b k l o m<|by injection e
 by_cases g:i=0
 .grind
 .by_cases j:n=0
  .grind
  .unfold mf at c d;rw[if_neg g]at c;rw[if_neg j]at d;let⟨b,l,p,f⟩:=c;let⟨m,k,o,e⟩:=d;rw[f]at e;have:=ok.a _ _ l k (by injection e);subst this;omega
theorem aiG(ok:F.Ok)(h:mf F i a):(∃k,k<=F.m/\a=jk F.toFx k)\/∃p,p≠F.f/\a=ju F p:=by
 unfold mf at h;by_cases b:i=0
 .rw[if_pos b]at h;obtain⟨k,d,e,c|c⟩:=h
  .grind
  .exact Á ⟨_,ok.Y.1 k d e,c⟩
 .rw[if_neg b]at h;let⟨k,c,_,d⟩:=h;exact Á ⟨_,ok.Y.2 k c,d⟩
def wT(F:Ph)(j:Nat):fX:=if j<F.n then .iG (j+1)else .iQ F.q
def As(E:fW F)(j:Nat):fW F:={E with M:=wT F j}
def PI.aiH(H:gT F)(p:PI F j zX E S G I o f w qJ)(hi:f[0]?=Ã g)(iJ:g.status=Å)(ht:G 0=.fD)(hx:E.M=.go m): ∃(N:fW F) (c:Nat->Jd) (Q:Nat->gl) (r:Nat->iD) (s:Nat->fe) (B:Array Ä) (W:Ï) (u:ä),Ŏ F.P (ð f w sl) 0=(ğ<|ð B W sl,u)/\B.size=f.size+1/\N.M≠ .fZ/\PI F j zX N c Q r s B W (qJ++u):=by
 have gE:=iY hi;have C:=p.I.r;have L:=p.a;have hL1:=H.C.r;have hn:=H.C.N;have wR:=p.C.C m<|À hx;have pz:E.r=m:=by unfold fW.r;rw[hx];rfl
 have iO:f.size=F.L+m:=by rw[p.b,pz]
 have hJ:=p.tU hi iJ ht w<|C.r _ gE;rw[hx]at hJ;obtain⟨hd,g',child,X,Y5,BF,Ey,hX,Cf,aiI,aiJ⟩:=H.go m E.I _ g wR hJ<|C.M gE;have hd:=hd;have hX:=hX;have Cf:=Cf;have vh:=(C.f _ gE).trans hd;have Cd:=p.I.I _<|Ç _;have nq:=L.M 0<|À U;obtain⟨m',vi⟩:∃m',m'=wT F m:=⟨_,U⟩;have vj:(m<F.n/\m'=.iG (m+1))\/(m=F.n/\m'=.iQ F.q):=by
  rw[vi];unfold wT;by_cases q:m<F.n
  .exact À ⟨q,if_pos q⟩
  .exact Á ⟨Z,if_neg q⟩
 have at0:m'.sp F.n=m+1:=by rcases vj with⟨_,rfl⟩|⟨q,rfl⟩<;>simp only[fX.sp];omega
 have aiK:m'.ad F.n=m+1:=by rcases vj with⟨_,rfl⟩|⟨q,rfl⟩<;>simp only[fX.ad];omega
 have Qq:m'.mJ F.q=0:=by rcases vj with⟨_,rfl⟩|⟨q,rfl⟩<;>simp[fX.mJ]
 have hmh:m'.jj F.n=0:=by rcases vj with⟨_,rfl⟩|⟨q,rfl⟩<;>rfl
 have hmr:m'.gB=0:=by rcases vj with⟨_,rfl⟩|⟨q,rfl⟩<;>rfl
 have Hi:(∀v,m'≠ .fC v)/\m'≠ .fZ:=by rcases vj with⟨_,rfl⟩|⟨q,rfl⟩<;>exact⟨λv h=>(by cases h),λh=>(by cases h)⟩
 have hkM:kM m'=.no:=by rcases vj with⟨_,rfl⟩|⟨q,rfl⟩<;>rfl
 obtain⟨l0,mK⟩:∃l0:fe,l0={o 0 with O:=λb=>(o 0).O b/\¬X b/\(1<=m->b≠E.I (m-1)),I:=λb=>X b\/(o 0).I b,r:=λa=>(o 0).r a/\¬mf F m a,w:=w}:=⟨_,U⟩;obtain⟨lc,kE⟩:∃lc:fe,lc={O:=λ_=>False,I:=λb=>X b\/(o 0).I b,r:=mf F m,N:=(o 0).N,K:=(o 0).K,d:=0,q:=False,w:=w}:=⟨_,U⟩;have Y6:ja F.S (λi=>i<f.size) E.Y (gi o 0 l0) w qJ:=by
  rw[mK];refine C.C gE (λ_ q=>q.1) (λb q=>À<|q.elim (λz=>À<|hX b z) Á) (λ_ q=>q.1) (λa q=>À<|Á q) U U U (λb hb q=> ?_) λa J q=>C.g _ gE a J.1 q;rcases q with q|q
  .exact hb.2.1 q
  .exact C.m _ gE b hb.1 q
 have z0:gi o 0 l0 0=l0:=gV _ _ _;have Cg:=L.o m Z wR;have nP:(As E m).r=m+1:=by show(wT F m).sp F.n=_;rwa[<-vi]
 have Y7:∀b,(As E m).Y b->E.Y b\/(1<=m/\b=E.I (m-1)):=λb hb=>by
  rcases hb with q|q|⟨l,t,D⟩
  .exact À<|À q
  .exact À<|Á<|À q
  .rw[nP]at t;by_cases e:l+1=m
   .exact Á ⟨Z,by rw[D,show l=m-1 by omega];rfl⟩
   .exact À<|Á<|Á ⟨l,Z,D⟩
 have Qr:∀x y:Ă,(x.g=0/\x.act=ς f.size)->(y.g=f.size/\y.act=İ)->ja F.S (λi=>i<f.size+1) (As E m).Y (gi (gi o 0 l0) f.size lc) w (qJ++#[x,y]):=λx y LG LH=>by
  refine Y6.GN gE LG LH vh Cd (by rw[kE];exact λb q=>q) (by rw[z0,kE,mK];exact λb q=>q) (λa J=> ?_) (by rw[z0,kE,mK];exact λb q=>q) (by rw[z0,kE,mK];exact λb q=>q) (λk hk a J q=> ?_) (by rw[kE]) (by rw[kE]) (λb hb=> ?_) λb hb=> ?_
  .have r:mf F m a:=by rwa[kE]at J
   have c:=Cg a r;refine⟨C.e 0 gE a<|À c,λk hk q=> ?_,(C.S 0 gE).C a c⟩;by_cases e:k=0
   .subst e;rw[z0,mK]at q;rcases q with q|q
    .exact q.2 r
    .exact C.g 0 gE a c q
   .rw[gI _ _ e]at q;exact C.h 0 k gE hk (ÿ e) a c q
  .have c:(o k).K a:=by
    by_cases e:k=0
    .subst e;rwa[z0,mK]at J
    .rwa[gI _ _ e]at J
   rw[kE]at q;exact(C.n k hk a c).2 0 gE<|Cg a q
  .rcases hb with q|q|⟨l,t,D⟩
   .exact À q
   .exact Á<|À q
   .exact Á<|Á ⟨l,by rw[nP];omega,D⟩
  .rcases Y7 b hb with q|⟨t,rfl⟩
   .exact À q
   .obtain⟨a1,a2,a3,a4⟩:=Cf t;refine Á ⟨C.fv 0 gE _<|À a1,λi lH q=> ?_⟩;by_cases e:i=0
    .subst e;rw[z0,mK]at q;rcases q with q|q|q
     .exact q.2.2 t U
     .exact a2 q
     .exact C.m 0 gE _ a1 q
    .rw[gI _ _ e]at q;exact C.o 0 i gE lH (ÿ e) _ a1 q
 have hWm:fi F.P Ì (JM F E.I m') l0 g':=by
  have r:=Y6.M gE;rw[z0]at r;have s:{l0 with w:=w}=l0:=by rw[mK]
  rw[s]at r;have:=aiJ l0 r (by rw[mK]) (λb q=>by rwa[mK]) (by rw[mK]) (by rwa[mK]) (by rw[mK]) (by rw[mK]) (by rw[mK]) (λa q=>by rw[mK]at q;exact q.1);rw[vi];unfold wT;exact this
 have Qs:∀b,lc.M b->(o 0).M b:=λb hb=>by
  rw[kE]at hb;rcases hb with q|q|q
  .exact q.elim
  .exact À<|hX b q
  .exact Á q
 have Y8:∀a,lc.C a->(o 0).C a:=λa J=>by rw[kE]at J;exact J.elim (λq=>À<|Cg a q) Á
 have Qt:lc.w=w:=by rw[kE]
 have aiL:gq lc:=⟨λb hb=>(by rw[kE]at hb;exact hb.elim),λa J q=>(by rw[kE]at J q;exact C.g 0 gE a (Cg a J) q),λa J hb=>C.I 0 gE _ (Qs _ hb)<|C.e 0 gE a<|Y8 a J,λb hb=>(by rw[Qt];exact C.fv 0 gE b<|Qs b hb),λa J=>(by rw[Qt];exact C.N _<|C.e 0 gE a<|Y8 a J),λa J=>by
  have c:(o 0).K a:=by rwa[kE]at J
  obtain⟨k1,k2⟩:=C.n 0 gE a c;exact⟨λq=>C.I 0 gE _ (Qs _ q) k1,by rw[Qt];exact C.N _ k1,λq=>by rw[kE]at q;exact k2 0 gE (Cg a q)⟩⟩
 have hWc:=aiI lc aiL (λb q=>by rwa[kE]) (by rw[kE]) (by rw[kE]) (by rw[kE];exact λq=>q) (λb=>by rw[kE];exact λq=>q) (by rw[kE]) (by rw[kE]) (λa q=>Cg a<|by rwa[kE]at q);obtain⟨T,hT⟩:=jq hWm;obtain⟨Tc,hTc⟩:=jq hWc;obtain⟨B,x,y,LG,LH,q1,q2,q3,q4,q5,q6⟩:=p.I.GN (Kc:=if m=0 then .no else kW F (E.I<|m-1) (.nL 0)) hi (Ey w) Qr hT Y5 hTc BF;have cs:∀i,i<f.size+1->i=f.size\/i=0\/(i≠0/\i<f.size):=λi hi=>by omega
 have es:gi (gi o 0 l0) f.size lc f.size=lc:=gV _ _ _;have e0:gi (gi o 0 l0) f.size lc 0=l0:=by rwa[gI _ _ Z]
 have en:∀i,i≠0->i≠f.size->gi (gi o 0 l0) f.size lc i=o i:=λi t D=>by rw[gI _ _ D,gI _ _ t]
 have yy:=p.C.z;have Lz:=p.C.h m Z;have aiM:∀y,E.oS y->y<m:=λy ⟨e,t,_⟩=>ñ λq=>by rw[p.C.h y Z]at t;cases t
 have Qu:∀i,i<f.size+1->∀a,(gi (gi o 0 l0) f.size lc i).r a->∃k,k<f.size/\(o k).r a:=λi hi a J=>by
  rcases cs i hi with rfl|rfl|⟨t,D⟩
  .rw[es,kE]at J;exact⟨0,gE,Cg a J⟩
  .rw[e0,mK]at J;exact⟨0,gE,J.1⟩
  .rw[en i t Z]at J;exact⟨i,D,J⟩
 refine⟨As E m,_,_,_,_,B,w,_,q1,q2,(by show wT F m≠ .fZ;rw[<-vi];exact Hi.2),.r ⟨?_,λt D=> ?_,λl t D=> ?_,λy e t D=> ?_,λi t D=> ?_⟩ (by rw[q2,nP,iO];omega) q6 ?_ ?_ ?_ ?_ (λk z hk hb=> ?_) λl r2 a1 a2 a3=> ?_⟩
 .have c:(0:Nat)≠f.size:=Z
  rw[fK _ _ c,gD,fK _ _ c,gD];rw[vi];exact⟨U,U⟩
 .by_cases e:m=0
  .have c:f.size=F.L:=Z
   rw[c,gD,gD,if_pos e,if_pos e];show F.h 0=JI F E.c E.S/\_;rw[p.C.J Z];exact⟨U,U⟩
  .rw[fK _ _ Z,fK _ _ Z,fK _ _ Z,fK _ _ Z];exact p.m Z D
 .rw[nP]at t;by_cases e:l+1=m
  .have c:F.L+1+l=f.size:=Z
   rw[c,gD,gD,if_neg Z,if_neg Z];show En F (E.I<|m-1) (m-1) 0=JW F (E.I l) l (E.C l)/\_=kW F (E.I l) (E.C l);rw[yy l Z,show m-1=l by omega];exact⟨U,U⟩
  .rw[fK _ _ Z,fK _ _ Z,fK _ _ Z,fK _ _ Z];exact p.g l Z D
 .have s:=ñ λq=>by
   have r:E.N y=Ã e:=D;rw[p.C.h y Z]at r;cases r
  rw[fK _ _ Z,fK _ _ Z,fK _ _ Z,fK _ _ Z,fK _ _ Z,fK _ _ Z];exact p.k y e Z D
 .rw[fK _ _ Z,fK _ _ Z,fK _ _ Z,fK _ _ Z,fK _ _ Z,fK _ _ Z];exact p.l i t D
 .rw[q2];obtain⟨f1,f2⟩:=L.mb Z;refine⟨λi lH a J=> ?_,λy t D a J=> ?_,λ_=> ?_,λ_ k t D=> ?_,λ_ D=> ?_,λl t D r h3 h4=> ?_,λl t D=> ?_,λy s=> ?_,λi lH=> ?_,λi t D=> ?_,λk hk b hb=> ?_,λk hk i lH q=> ?_,λk t D i lH q=> ?_,λl t r D h3 i lH q=> ?_⟩
  .rcases cs i lH with rfl|rfl|⟨t,D⟩
   .rw[es,kE]at J;rcases J with q|q
    .exact aiG H.C q
    .exact L.gU 0 gE a<|Á q
   .rw[e0,mK]at J;rcases J with q|q
    .exact L.gU 0 gE a<|À q.1
    .exact L.gU 0 gE a<|Á q
   .rw[en i t Z]at J;exact L.gU i D a J
  .rw[nP]at t;rw[e0,mK];exact⟨L.o y Z D a J,λq=>aiF H.C Z q J⟩
  .rw[e0,mK];exact⟨f1,λb hb=>Á<|f2 b hb⟩
  .have B7:=t;by_cases e:m=0
   .have c:F.L=f.size:=Z
    rw[c,es,kE];exact⟨by show mf F m _;unfold mf;rw[if_pos e];exact⟨k,Z,D,À U⟩,by show mf F m _;unfold mf;rw[if_pos e];exact⟨k,Z,D,Á U⟩⟩
   .rw[en F.L Z Z];exact L.e Z k B7 D
  .by_cases e:m=0
   .have c:F.L=f.size:=Z
    rw[c,es,kE];show(o 0).N (jk F.toFx E.S.md)/\∀b,E.V E.S.md b->X b\/(o 0).I b;rw[p.C.J Z];show(o 0).N (jk F.toFx 0)/\∀b,E.V 0 b->X b\/(o 0).I b;rw[p.C.v];exact⟨f1,λb hb=>Á<|f2 b hb⟩
   .rw[en F.L Z Z];exact L.f Z D
  .rw[nP]at t;by_cases e:l+1=m
   .have c:F.L+1+l=f.size:=Z
    rw[c,es,kE];show mf F m _;unfold mf;rw[if_neg Z];exact⟨_,h3,by rw[ē,ļ Z];omega,U⟩
   .rw[en _ Z Z];exact L.h l Z D r h3 h4
  .rw[nP]at t;by_cases e:l+1=m
   .have c:F.L+1+l=f.size:=Z
    rw[c,es,kE];exact⟨f1,λb hb=>Á<|f2 b hb⟩
   .rw[en _ Z Z];exact L.l l Z D
  .have:=aiM y s;rw[en _ Z Z];exact L.S y s
  .rcases lH with rfl|⟨y,t,rfl,h3⟩
   .rwa[e0,mK]
   .rw[nP]at t;by_cases e:y=m
    .subst e;rw[<-iO,es,kE];exact λq=>q
    .rw[en _ Z Z];exact L.M _<|Á ⟨y,Z,U,h3⟩
  .rw[en i Z Z];exact L.c i t D
  .obtain⟨b1,b2,c⟩:=L.I k hk b hb;refine⟨b1,λq=> ?_,λi lH q=> ?_⟩
   .rcases Y7 b q with q|⟨t,rfl⟩
    .exact b2 q
    .exact c 0 gE (Cf t).1
   .rcases cs i lH with rfl|rfl|⟨t,D⟩
    .rwa[es,kE]at q
    .rw[e0,mK]at q;exact c 0 gE q.1
    .rw[en i t Z]at q;exact c i D q
  .obtain⟨c,a1,a2⟩:=Qu i lH _ q;exact L.N k hk c a1 a2
  .obtain⟨c,a1,a2⟩:=Qu i lH _ q;exact L.g k t D c a1 a2
  .rw[nP]at t;have Ch:r<(E.C l).ky:=h3;obtain⟨c,a1,a2⟩:=Qu i lH _ q;by_cases e:l+1=m
   .rw[yy l Z]at Ch;simp only[gP.ky]at Ch;omega
   .exact L.d l Z r D Ch c a1 a2
 .have c:=p.M;refine⟨c.C,c.I,λl t=> ?_,c.M,c.S,λl t r D h3=> ?_⟩
  .rw[nP]at t;show∃buf s,w.heap[E.I l]?=Ã (.chan F.q buf (decide<|l<(wT F m).jj F.n) s (E.C l).iW É)/\u5 F.n l ((wT F m).mJ F.q) s/\(E.C l).iW<=s/\buf.size=s-(E.C l).iW/\∀i,i<s-(E.C l).iW->buf[i]?=Ã (F.c<|l+((E.C l).iW+i)*F.n);rw[<-vi,hmh,Qq];by_cases e:l+1=m
   .rw[yy l Z];obtain⟨a1,a2,a3,a4⟩:=Cf Z;rw[show m-1=l by omega]at a3;refine⟨#[],0,by rw[a3];rfl,λi=>⟨λq=>by omega,λq=>by omega⟩,Ç _,U,λi lH=> ?_⟩;simp only[gP.iW]at lH;omega
   .have:=c.jO l Z;rwa[hx]at this
  .rw[nP]at t;have Ch:r<(E.C l).ky:=h3;by_cases e:l+1=m
   .rw[yy l Z]at Ch;simp only[gP.ky]at Ch;omega
   .exact c.N l Z r D Ch
 .have h:=p.C;have eo:(As E m).G=E.G:=by
   funext y;have t:(As E m).M.ad F.n=E.M.ad F.n:=by show(wT F m).ad F.n=_;rw[<-vi,aiK,hx];rfl
   unfold fW.G;rw[t];rfl
  have Qv:(As E m).M.gB=E.M.gB:=by show(wT F m).gB=_;rw[<-vi,hmr,hx];rfl
  have emp:(As E m).M=m':=vi.symm;refine⟨h.v,λl q=> ?_,λl q=> ?_,λr=>⟨λq=> ?_,λq=> ?_⟩,λq=>by omega,h.I,λl q=>h.z l Z,λl r vk qH=> ?_,λl vk qH=> ?_,h.f,λy q=>h.h y Z,λl j3 vk qH q3'=> ?_,λl q=> ?_,λc reg hc=> ?_,λreg hc=> ?_,λr s hc=> ?_,h.N,λq=> ?_,h.e,h.Y,λl r vk qH=> ?_,λl r vk qH=> ?_,λq=> ?_,λ_ _=>h.S (λv q=>by rw[hx]at q;cases q) (λq=>by rw[hx]at q;cases q),h.y,λl r vk qH=> ?_⟩
  .rw[emp]at q;rcases vj with⟨_,rfl⟩|⟨_,rfl⟩<;>rcases q with q|q|q|q<;>cases q;omega
  .rw[emp]at q;rcases vj with⟨_,rfl⟩|⟨_,rfl⟩<;>rcases q with q|q|q<;>cases q;omega
  .rw[emp]at q;rcases vj with⟨_,rfl⟩|⟨_,rfl⟩<;>cases q;exact Ç _
  .rw[emp]at q;rcases vj with⟨_,rfl⟩|⟨_,rfl⟩<;>cases q
  .rw[nP]at vk;by_cases e:l+1=m
   .have pC:(∃p,E.C l=.fC r p)\/E.C l=.gL r\/E.C l=.ox r:=qH;rw[yy l Z]at pC;rcases pC with⟨_,q⟩|q|q<;>cases q
   .exact h.d l r Z qH
  .rw[nP]at vk;have pC:E.N (l+1)≠Í:=qH;have:l+1<m:=ñ λq=>pC<|h.h _ Z;obtain⟨a,_⟩:=h.l l Z pC;rw[hx]at a;simp only[fX.jj]at a;omega
  .rw[nP]at vk qH;have Qw:E.I l=E.I j3:=q3';have key:∀a b,a+1=m->b+2<=E.r->E.I a=E.I b->False:=λa b J hb he=>by
    have t:=(Cf Z).1;rw[show m-1=a by omega,he]at t;exact C.I 0 gE _ (À t)<|Á<|Á ⟨b,hb,U⟩
   by_cases e:l+1=m
   .by_cases e':j3+1=m
    .omega
    .exact(key l j3 e Z Qw).elim
   .by_cases e':j3+1=m
    .exact(key j3 l e' Z Qw.symm).elim
    .exact h.M l j3 Z Z Qw
  .rw[nP]at q;show¬F.M (E.I l)/\E.I l≠F.Y/\F.S<=E.I l;by_cases e:l+1=m
   .obtain⟨a1,_,_,a4⟩:=Cf Z;rw[show m-1=l by omega]at a1 a4;have Y9:=C.I 0 gE _<|À a1;exact⟨λq=>Y9<|À q,λq=>Y9<|Á<|À q,a4⟩
   .exact h.o l Z
  .rw[eo,Qv];exact h.t c reg hc
  .rw[eo,Qv];obtain⟨a1,a2,y,a3,a4⟩:=h.g reg hc;exact⟨a1,a2,y,Z,a4⟩
  .rw[eo,Qv];obtain⟨a1,a2,a3⟩:=h.u r s hc;refine⟨a1,a2,λhr=> ?_⟩;obtain⟨y,b1,b2⟩:=a3 hr;exact⟨y,Z,b2⟩
  .rw[emp]at q;rcases q with q|q|q
   .exact absurd q<|Hi.1 _
   .exact absurd q<|Hi.1 _
   .exact absurd q Hi.2
  .rw[nP]at vk;by_cases e:l+1=m
   .have pC:E.C l=.fC r .gw\/E.C l=.fC r .ly\/E.C l=.gL r:=qH;rw[yy l Z]at pC;rcases pC with q|q|q<;>cases q
   .exact h.w l r Z qH
  .rw[nP]at vk;by_cases e:l+1=m
   .have pC:E.C l=.fC r .gw:=qH;rw[yy l Z]at pC;cases pC
   .exact h.H l r Z qH
  .rw[emp]at q;exact absurd q<|Hi.1 _
  .rw[nP]at vk;by_cases e:l+1=m
   .have pC:E.C l=.fC r .wr:=qH;rw[yy l Z]at pC;cases pC
   .exact h.D l r Z qH
 .rw[nP];have c:=p.d;rw[pz]at c;rw[iO]at LG LH Cd;exact c.GN LG LH vh Cd (λ⟨e,t,_⟩=>by rw[Lz]at t;cases t) λy ⟨e,t,_⟩=>ñ λq=>by rw[p.C.h y Z]at t;cases t
 .have r:=iY hk;rcases cs k Z with rfl|rfl|⟨k1,k2⟩
  .rw[q4]at hk;obtain rfl:=È hk;rw[BF]at hb;cases hb
  .rw[q3]at hk;obtain rfl:=È hk;rw[Y5]at hb;cases hb
  .rw[q5 k k1 k2]at hk;rcases p.c k z hk hb with⟨t,_⟩|⟨l,s,c,D,h3⟩
   .exact absurd t k1
   .exact Á ⟨l,Z,c,D,h3⟩
 .rw[nP]at a1;by_cases e:l+1=m
  .have pC:E.C l=.gL r2:=a2;rw[yy l Z]at pC;cases pC
  .exact(p.f l r2 Z a2 a3).app _
end
section
variable{F:Ph}{E E':fW F}{S:Nat->Jd}{tr o:Nat->gl}{m:Nat->iD}{lot:Nat->fe}{gs gs':Array Ä}{w':Ï}{t u:ä}{sl:Option (Nat×Nat)}{sz:Nat}
def PI.at(H:gT F)(p:PI F i zX E S tr m lot gs w t)(d:Nat):PI F i zX E S tr m lot gs (w.at d) t:= ⟨p.b,p.I.at d,p.h,p.m,p.g,p.k,p.l,p.a.Ez<|Ç _,⟨⟨p.M.C.C,p.M.C.M,p.M.C.I,p.M.C.N,p.M.C.r⟩,λk a=>⟨(p.M.I k a).C,(p.M.I k a).M,(p.M.I k a).I,(p.M.I k a).N,(p.M.I k a).r⟩,p.M.jO,λk a=>⟨(p.M.M k a).1,H.S _ _ _ _ _ (p.M.M k a).2 (λ_ _=>rfl) U U U ⟨U,U⟩⟩,p.M.S,p.M.N⟩,p.C,p.d,p.c,p.f⟩
def Go1(F:Ph)(i:Nat)(zX:π->Prop)(gs:Array Ä)(w:Ï)(t:ä)(sl:Option (Nat×Nat))(a:Nat):Prop:=
 ∃(E':fW F) (b:Nat->Jd) (o:Nat->gl) (c:Nat->iD) (d:Nat->fe) (gs':Array Ä) (w':Ï) (u:ä),Ŏ F.P (ð gs w sl) a=(ğ<|ð gs' w' sl,u)/\gs'.size=gs.size+1/\E'.M≠ .fZ/\PI F i zX E' b o c d gs' w' (t++u)
def aiN(F:Ph)(i:Nat)(zX:π->Prop)(gs:Array Ä)(w:Ï)(t:ä)(sl:Option (Nat×Nat))(a:Nat):Prop:=
 ∃(E':fW F) (b:Nat->Jd) (o:Nat->gl) (c:Nat->iD) (d:Nat->fe) (gs':Array Ä) (w':Ï) (u:ä),Ŏ F.P (ð gs w sl) a=(ğ<|ð gs' w' sl,u)/\gs'.size=gs.size/\PI F i zX E' b o c d gs' w' (t++u)/\E'.M=.fZ/\LD F zX (t++u)
def PI.aiO(H:gT F)(p:PI F i zX E S tr m lot gs w t)(l:E.M≠ .fZ)(a:gs[n]?=Ã g)(c:g.status=Å):km F i zX E tr gs w t sl n\/sx F i zX E tr gs w t\/Go1 F i zX gs w t sl n\/aiN F i zX gs w t sl n:=by
 have z:=iY a;have B:=p.b;cases b:tr n with
 |jL k=>
  obtain⟨gs',w',u,o,e,d,f,j,q⟩:=p.fg H a b;exact À ⟨E,S,o,m,e,gs',w',u,d,f,λh=>h,j,q⟩
 |fD=>
  by_cases s:n=0
  .subst s;cases h:E.M with
   |go j=>exact Á<|Á<|À<|p.aiH H a c b h
   |lO j=>exact Á<|À<|p.aij H a c b h
   |rd j=>exact À<|p.aik H a c b h
   |iG j=>exact À<|p.ain H a c b h
   |iQ r=>cases r with
    |zero=>exact Á<|À<|p.aio H a c b h
    |succ r=>exact À<|p.aiz H a c b h
   |kZ r=>cases r with
    |zero=>exact Á<|À<|p.aip H a c b h
    |succ r=>exact À<|p.aiB H a b h
   |fC v=>cases v with
    |jc=>exact Á<|À<|p.aiq H a c b h
    |mr q=>exact À<|p.air H a c b h
    |wr=>exact À<|p.ais H a c b h
    |kH=>exact À<|p.aiu H a c b h
    |gw=>exact À<|p.ait H a c b h
    |ly=>exact Á<|Á<|Á<|p.aiD H a c b h
   |fZ=>exact absurd h l
  by_cases y:n<F.L
  .exact À<|p.aif H Z y a c
  obtain⟨x,rfl⟩:∃x,n=F.L+x:=⟨n-F.L,Z⟩;have f:x<E.r:=Z
  cases d:E.N x with
  |some e=>cases e with
   |pA=>exact Á<|À<|p.ahS H f d a c b
   |fZ v=>cases v with
    |jK=>exact À<|p.ahV H f d a c b
    |iG=>exact À<|p.ahZ H f d a c b
    |gw W=>exact À<|p.ah0 H f d a c b
    |jg W=>exact À<|p.ah1 H f d a c b
    |iE r=>exact À<|p.ah2 H f d a c b
   |jz N=>exact À<|p.aie H f d a c
  |none=>cases x with
   |zero=>
    rw[ó]at a b|-;cases h:E.S with
    |kR k=>exact Á<|À<|p.ah4 H f d a c b h
    |mk k=>exact Á<|À<|p.ah7 H f d a c b h
    |dn k v=>cases v with
     |jK=>exact À<|p.ah8 H f d a c b h
     |iG=>exact À<|p.ah9 H f d a c b h
     |gw W=>exact À<|p.aia H f d a c b h
     |jg W=>exact À<|p.aib H f d a c b h
     |iE r=>exact À<|p.aic H f d a c b h
   |succ j=>
    rw[show F.L+(j+1)=F.L+1+j by omega]at a b|-;have e:j+2<=E.r:=Z
    cases h:E.C j with
    |nL r=>exact À<|p.ahQ H e d a c b h
    |fC r v=>cases v with
     |jc=>exact Á<|À<|p.ahz H e d a c b h
     |mr q=>exact À<|p.ahA H e d a c b h
     |wr=>exact À<|p.ahC H e d a c b h
     |kH=>exact À<|p.ahF H e d a c b h
     |gw=>exact À<|p.ahD H e d a c b h
     |ly=>exact À<|p.ahE H e d a c b h
    |gL r=>exact Á<|À<|p.ahH H e d a c b h
    |ox r=>exact Á<|À<|p.ahI H e d a c b h
def aiP{J:Jd}{T:gl}{l:fe}(a:∀l g,J l g->g.status=Å)(h:lu P yQ J T l g):g.status=Å:=by
 cases T with
 |fD=>exact a _ _<|h _<|fI.fV _ _
 |jL k=>exact h.1
def gM.Y{Y:Nat->Prop}(c:gM P n Y S tr m lot gs w t)(d:gs[i]?=Ã g)(e:∀l g,S i l g->g.status=Å)(a:g.status≠Ü):g.status=Å:=by
 let⟨g0,f,b,_,_⟩:=c.C i g d;generalize m i=K at b;cases b with
 |gO=>exact aiP e f
 |oR _ _=>exact absurd U a
 |uY _ _ _=>exact absurd U a
 |nK _ _ _=>rfl
def Za{J:Jd}{p:jN}(a:∀r,p=.iE r->0<r){l:fe}(h:El P yQ b J p l g):g.status=Å:=by
 cases p with
 |jK=>exact h.2.1
 |iG=>exact h.2.1
 |gw W=>exact h.2.1
 |jg W=>exact h.2.1
 |iE r=>cases r with
  |zero=>exact absurd (a 0 U) Z
  |succ r=>exact h.2.1
def Qx{J:Jd}{p:jA}{l:fe}(h:rv P yQ i b J p l g):g.status=Å:=by
 cases p with
 |jc=>let⟨k,_,_,T,a,c⟩:=h;exact(c _ _ a).1
 |mr p=>let⟨_,T,a,c⟩:=h;exact(c _ _ a).1
 |wr=>exact h.2.1
 |kH=>exact h.2.1
 |gw=>exact h.2.1
 |ly=>exact h.2.1
def Zb{l:fe}(h:BP F D i l g):g.status=Å:=by
 cases i with
 |zero=>exact Qx h
 |succ i=>exact h.1
def aiQ(H:gT F){x:fX}{l:fe}(h:JM F D x l g):g.status=Å:=by
 cases x with
 |go j=>exact H.I _ _ _ _ h
 |lO j=>let⟨c,h⟩:=h;exact H.I _ _ _ _ h
 |rd j=>exact h.2.1
 |iG j=>exact h.2.1
 |iQ r=>cases r with
  |zero=>exact Zb h
  |succ r=>exact h.1
 |kZ r=>exact Zb h
 |fC v=>exact Qx h
 |fZ=>exact H.M _ _ _ h
def PI.F8(p:PI F i zX E S tr m lot gs w t){x:Nat}(a:x<E.r):∃g,gs[F.L+x]?=Ã g:=by have:=p.b;simp_all
def PI.Hj(H:gT F)(p:PI F i zX E S tr m lot gs w t)(d:0<E.r)(e:E.N 0=Í):∃(a:Nat) (g:Ä),gs[a]?=Ã g/\g.status=Å:=by
 have n:=H.C.r;let⟨g,c⟩:=p.F8 d;rw[ó]at c;refine⟨F.L,g,c,p.I.Y c (λl g h=> ?_) λl=> ?_⟩
 .rw[(p.m d e).1]at h;cases j:E.S with
  |kR k=>rw[j]at h;exact H.N _ _ _ h
  |mk k=>rw[j]at h;let⟨a,V,_,_,_,_,h⟩:=h;exact h.2.1
  |dn k v=>
   rw[j]at h;refine Za (λr V=> ?_) h;subst V;let⟨_,_,r⟩:=p.C.I k;let⟨a,b⟩:=r _ j;rcases p.C.Y k b (by rw[j];exact Ç _)with⟨W,q|q,_⟩|⟨o,s,q,f,_⟩|⟨q,_⟩
   .rw[j]at q;cases q
   .rw[j]at q;cases q
   .rw[j]at q;cases q;exact f
   .exact absurd j<|q _
 .rcases p.c _ g c l with⟨q,_⟩|⟨j,_,_,q,_⟩<;>omega
theorem PI.LI(H:gT F)(p:PI F i zX E S tr m lot gs w t){x:Nat}{e:iq}(b:x<E.r)(c:E.N x=Ã e)(d:∀N,e≠ .jz N):∃(h:Nat) (g:Ä),gs[h]?=Ã g/\g.status=Å:=by
 have f:=H.C.r;let⟨g,a⟩:=p.F8 b;refine⟨F.L+x,g,a,p.I.Y a (λl g h=> ?_) λl=> ?_⟩
 .rw[(p.k x e b c).1]at h;cases e with
  |pA=>exact h.2.1
  |fZ v=>exact Za (λr j=>by subst j;exact((p.C.N x _ c).2 r U).1) h
  |jz N=>exact absurd U<|d N
 .rcases p.c _ g a l with⟨q,_⟩|⟨j,_,h,q,_⟩;all_goals grind
def Zc{f:Nat->Nat}:∀{n:Nat},0<Ñ n f->∃i,i<n/\0<f i
 |0,h=>absurd h<|Nat.lt_irrefl _
 |n+1,h=>by
  simp only[Ñ]at h;by_cases q:0<f n
  .exact⟨n,Z,q⟩
  .let⟨i,b,a⟩:=Zc (f:=f) (n:=n) Z;exact⟨i,Z,a⟩
theorem PI.aiR(H:gT F)(p:PI F i zX E S tr m lot gs w t):∃(l:Nat) (g:Ä),gs[l]?=Ã g/\g.status=Å:=by
 have hL:=H.C.r;have iO:=p.b;obtain⟨g,D⟩:∃g,gs[0]?=Ã g:=⟨_,é Z⟩;by_cases P:g.status=Ü
 .rcases p.c 0 g D P with⟨_,u,Q⟩|⟨j,_,_,q,_⟩
  .have pz:E.r=F.n+1:=by unfold fW.r;rw[u];rfl
   have had:E.M.ad F.n=F.n+1:=by rw[u];rfl
   have qI:E.M.gB=1:=by rw[u];rfl
   have T:=p.M.C.r;cases o:E.b with
   |cl c G=>
    let⟨h1,h2⟩:=p.C.t c G o;rw[o]at T;let⟨_,_,V⟩:=T;have X:0<c:=by grind
    rw[h1]at X;let⟨x,d,y⟩:=Zc X;unfold fW.G at y;rw[had,if_pos d]at y;cases z:E.N x with
    |some e=>
     rw[z]at y;exact p.LI H Z z λN q=>by subst q;simp[my,iq.kS]at y
    |none=>cases x with
     |zero=>exact p.Hj H Z z
     |succ j=>
      let⟨I,B⟩:=p.F8 (x:=j+1) Z;rw[show F.L+(j+1)=F.L+1+j by omega]at B;have J:j+2<=E.r:=Z
      by_cases Y:I.status=Ü
      .rcases p.c _ I B Y with⟨q,_⟩|⟨a,_,_,q,⟨r,b,C⟩|⟨r,cap,s,r',b,C⟩⟩
       .omega
       .have:a=j:=Z
        subst this;have YI:=H.C.I _<|p.C.d a r J<|À ⟨_,b⟩;have Yp:1<=Ñ F.n λl=>(E.C l).gB F l (F.r<|a+r*F.n):=by
         have:=PY (f:=λl=>(E.C l).gB F l<|F.r<|a+r*F.n) (j:=a) (n:=F.n) Z;simp only[b]at this;have h:gP.gB F a (F.r<|a+r*F.n) (.fC r .kH)=1:=by simp only[gP.gB,if_true];rfl
         grind
        by_cases K:F.r (a+r*F.n)<=E.S.od
        .have M:∀k v,E.S=.dn k v->E.N 0=Í:=λk v h=>by
          cases O:E.N 0 with
          |none=>rfl
          |some e=>have:=p.C.f (by rw[O];simp);rw[this]at h;cases h
         rcases p.C.Y _ YI K with⟨W,q|q,_⟩|⟨r',s,q,_⟩|⟨_,⟨_,q⟩|⟨s,q1,q2⟩⟩
         .exact p.Hj H Z<|M _ _ q
         .exact p.Hj H Z<|M _ _ q
         .exact p.Hj H Z<|M _ _ q
         .omega
         .rw[q1]at C;simp only[GS.sm]at C;omega
        .apply p.Hj H Z;cases O:E.N 0 with
         |none=>rfl
         |some e=>
          have:=p.C.f (by rw[O];simp);rw[this]at K;simp only[jF.od]at K;omega
       .have:a=j:=Z
        subst this;let⟨e,k,l,_⟩:=p.M.jO a J;rw[C,u]at l;injection l with l;injection l with _ _ BV _ _ _;have:decide (a<(fX.fC .kH).jj F.n)=Ì:=decide_eq_true (by simp only[fX.jj];omega);rw[this]at BV;cases BV
      .refine⟨_,I,B,p.I.Y B (λl g h=> ?_) Y⟩;rw[(p.g j J z).1]at h;cases a:E.C j with
       |nL r=>rw[a]at h;exact h.1
       |fC r v=>rw[a]at h;exact Qx h
       |gL r=>rw[a]at h;exact H.Y _ _ _ _ h
       |ox r=>rw[a]at h;exact h.2.1
   |jM G=>
    let⟨_,_,x,d,_,b⟩:=p.C.g G o;rcases b with b|b
    .exact p.LI H d b λN q=>by cases q
    .exact p.LI H d b λN q=>by cases q
   |gZ r s=>
    let⟨_,h2,V⟩:=p.C.u r s o;rw[o]at Q;simp only[GS.sm]at Q;let⟨x,d,_,b⟩:=V Z;exact p.LI H d b λN q=>by cases q
  .omega
 .refine⟨0,g,D,p.I.Y D (λl g h=> ?_) P⟩;rw[p.h.1]at h;exact aiQ H h
def PI.LJ(p:PI F i zX E S tr m lot gs w t):∀g∈gs,awake g:=by
 intro g e;obtain⟨a,f,rfl⟩:=Array.mem_iff_getElem.1 e;let⟨g0,_,c,d,_⟩:=p.I.C a _<|é f;intro τ b;generalize gs[a]=g at c b;generalize m a=K at c;cases c with
 |gO=>rw[b]at d;rcases d with q|q<;>cases q
 |oR _ _=>cases b
 |uY _ _ _=>cases b
 |nK _ _ _=>cases b
def aiS(H:gT F):∀(k:Nat) (μ:Mu) (E:fW F) (S:Nat->Jd) (tr:Nat->gl) (m:Nat->iD) (lot:Nat->fe) (gs:Array Ä) (w:Ï) (sl:Option (Nat×Nat)) (t:ä),F.n+1-E.r=k->E.mu tr gs=μ->PI F i zX E S tr m lot gs w t->E.M≠ .fZ-> ∃(N:Nat) (E':fW F) (b:Nat->Jd) (o:Nat->gl) (c:Nat->iD) (d:Nat->fe) (gs':Array Ä) (w':Ï) (r:Option (Nat×Nat)) (a:ä),Χ F.P N (ð gs w sl) t=(ğ<|ð gs' w' r,a)/\PI F i zX E' b o c d gs' w' a/\E'.M=.fZ/\LD F zX a:=by
 intro k
 induction k using Ď with
 |_ k ihk=>
  intro μ
  induction (ahk F.N).apply μ with
  |intro μ _ V=>
   intro E S tr m lot gs w sl t hk W p z;let⟨a,g,d,r,hi,iJ,B⟩:=crowd_pick (P:=F.P) (w:=w) (sl:=sl) p.LJ<|p.aiR H;have p':=p.at H d;have iO:=p.b;rcases p'.aiO H (sl:=r) z hi iJ with⟨c,e,f,h,j,s,v,u,x,X,l,b,y⟩|⟨c,e,f,h,j,l,b,y⟩|⟨c,e,f,h,j,s,v,u,x,X,l,b⟩|⟨c,e,f,h,j,s,v,u,x,X,l,b,y⟩
   .have Y:=b.b;let⟨N,C,D,G,I,J,K,L,M,O,Q,T⟩:=V _ (W▸y) c e f h j s v r (t++u) Z U b λq=>z<|l q;exact⟨N+1,C,D,G,I,J,K,L,M,O,by simp only[Χ,B,x];exact Q,T⟩
   .have Y:=b.b;have h6:=b.at H w.drawn;exact V _ (W▸y) c e f h j gs w sl t Z U h6 λq=>z<|l q
   .have Y:=b.b;have q:=Ep b.C;let⟨N,C,D,G,I,J,K,L,M,O,Q,T⟩:=ihk (F.n+1-c.r) Z _ c e f h j s v r (t++u) U U b l;exact⟨N+1,C,D,G,I,J,K,L,M,O,by simp only[Χ,B,x];exact Q,T⟩
   .exact⟨1,c,e,f,h,j,s,v,r,t++u,by simp only[Χ,B,x],l,b,y⟩
end
end Go.Proofs.Y.fA
namespace Go.Proofs.Y.fA
open Go Go.Conc Go.Proofs.Y.Lift Go.RowKit Go.Conc.Lib Go.ConcR.Gen
section
variable{J:Jd}{l:fe}
def LK(w:Ï)(b:∀j,l.O j->j<w.heap.size):mH l {l with w:=w} w w #[]:= ⟨Ç _,λ_ h=>À h,b,U,U,U,U,λ_ _ _ _=>rfl,λ_ _ _ _=>rfl,λ_ _ _=>rfl,U,U,U,λe a=>by simp at a,by simp[Ð],U,λ_=>⟨U,λe a=>by simp at a,U⟩,U⟩
def lQ(a:∀j,l.O j->j<l.w.heap.size){w₁:Ï}(r:fI l l.w w₁):∀j,l.O j->j<w₁.heap.size:=λj b=>Ê (a j b) r.r
def Qy{R:Ï->Ï->Prop}{m:Ä->Ï->Prop}:∀{n:Nat} {g:Ä} {l:fe},ı P yQ R à m n g l.w->(∀w c,fI l w c->R w c)->(∀j,l.O j->j<l.w.heap.size)->(∀c d,fI l l.w c->m d c->fi P yQ J {l with w:=c} d)->fi P yQ J l g:=by
 intro n
 induction n with
 |zero=>
  intro g l h j i e;exact(fi.fD λc r=>e c g r<|h c<|j _ _ r).fj
 |succ n p=>
  intro g l h j i e;rcases h with h|⟨s,h⟩
  .exact(fi.fD λc r=>e c g r<|h c<|j _ _ r).fj
  .refine .mk s λc r=> ?_;have f:=h c<|j _ _ r;cases o:è P yQ g c with
   |go d k y=>
    rw[o,ť]at f;let⟨⟨t,u⟩,v⟩:=f;subst t u;exact⟨d,k,#[],{l with w:=k},U,LK k<|lQ i r,p v (λa b q=>j a b<|Aq q) (lQ i r) λa b q x=>e a b (r.fj<|Aq q) x⟩
   |_=>rw[o]at f;exact f.elim
def aiT{m:Ο}(b:m=õ\/m=î)(w:Ï)(c:∀j,l.O j->j<w.heap.size):mH l {l with d:=Ð l.d #[j1 m],w:=w} w w #[j1 m]:=by
 refine⟨Ç _,λ_ h=>À h,c,U,U,U,U,λ_ _ _ _=>rfl,λ_ _ _ _=>rfl,λ_ _ _=>rfl,U,U,U,λe a=> ?_,U,U,λ_=>⟨U,λe a=> ?_,U⟩,U⟩
 .have:e=j1 m:=by simpa using a
  subst this;rcases b with rfl|rfl
  .exact Á<|Á<|Á<|À U
  .exact Á<|Á<|Á<|Á<|À U
 .have:e=j1 m:=by simpa using a
  subst this;rcases b with rfl|rfl<;>rfl
def fi.aiU{m:Ο}{b:Ä}(c:m=õ\/m=î)(e:g.status=Å)(f:∀j,l.O j->j<l.w.heap.size)(h:∀a,è P yQ g a=Š b a #[j1 m])(i:∀a,fI l l.w a->fi P yQ J {l with d:=Ð l.d #[j1 m],w:=a} b):fi P yQ J l g:= .mk e λa r=>⟨b,a,_,_,h a,aiT c a<|lQ f r,i a r⟩
def nQ(b:Nat)(w:Ï):Prop:=(w.cell? ⟨b,0,Í⟩).isSome=Ì/\(w.cell? ⟨b,1,Í⟩).isSome=Ì
def nQ.r(h:nQ b w):∃v,w.cell? ⟨b,0,Í⟩=Ã v:=ü.1 h.1
def nQ.C(h:nQ b w):∃v,w.cell? ⟨b,1,Í⟩=Ã v:=ü.1 h.2
def RS(Ψ:Ï->Prop)(b:Nat)(w a:Ï):Prop:=w.heap.size<=a.heap.size/\(nQ b w->nQ b a)/\(Ψ w->Ψ a)
def SW(Ψ:Ï->Prop)(l:fe)(b:Nat)(w:Ï):Prop:=(∀j,l.O j->j<w.heap.size)/\nQ b w/\Ψ w
def fN{Ψ:Ï->Prop}(h:SW Ψ l b w)(r:RS Ψ b w u):SW Ψ l b u:=⟨λj a=>Ê (h.1 j a) r.1,r.2.1 h.2.1,r.2.2 h.2.2⟩
def mA(Ψ:Ï->Prop)(l:fe)(b:Nat):Prop:=(l.K ⟨b,0,Í⟩\/l.M b)/\(l.K ⟨b,1,Í⟩\/l.M b)/\∀w c:Ï,w.heap.size<=c.heap.size->(∀j,l.M j->c.heap[j]?=w.heap[j]?)->(∀a,l.C a->c.cell? a=w.cell? a)->(∀a,l.C a->c.frozen? a=w.frozen? a)->(∀a,l.K a->(w.cell? a).isSome=Ì->(c.cell? a).isSome=Ì)->Ψ w->Ψ c
def mA.r{Ψ:Ï->Prop}(h:mA Ψ l b)(r:fI l w u):RS Ψ b w u:=⟨r.r,λq=>⟨h.1.elim (λk=>r.S _ k q.1) λm=>(by rw[gK<|r.I b m];exact q.1),h.2.1.elim (λk=>r.S _ k q.2) λm=>(by rw[gK<|r.I b m];exact q.2)⟩,h.2.2 w u r.r r.I r.N r.Y r.S⟩
def jP{Ψ:Ï->Prop}(a:mA Ψ l b)(hF:SW Ψ l b l.w)(c:ı P yQ (RS Ψ b) à (λd e=>fi P yQ J {l with w:=e} d) n g l.w):fi P yQ J l g:= Qy c (λ_ _ r=>a.r r) hF.1 λ_ _ _ h=>h
def oA{Ψ:Ï->Prop}(c:mA Ψ l b)(hF:SW Ψ l b l.w)(h:∀a,SW Ψ l b a->J {l with w:=a} g):fi P yQ J l g:=.fD λa r=>h a<|fN hF<|c.r r
def wU{Ψ:Ï->Prop}(e:mA Ψ l b)(hF:SW Ψ l b l.w){m:Ο}{c:Ä}(f:m=õ\/m=î)(i:g.status=Å)(h:∀a,è P yQ g a=Š c a #[j1 m])(j:∀a,SW Ψ l b a->fi P yQ J {l with d:=Ð l.d #[j1 m],w:=a} c):fi P yQ J l g:= .aiU f i hF.1 h λa r=>j a<|fN hF<|e.r r
end
section
variable{b:ô}{a:Ł}{f:ī}{i:List Ů}
def LL(m:Ο)(d:∀g,m≠.extern g)(e:a.defers=dcall f #[]::i)(j:P.funcs[f]?=Ã s)(k:(s.name== "runtime.NumGoroutine")=É)(l:s.body.isNone=Ì)(n:Extern.findNext s=Í) (o:Extern.find s=Ã λ_=>do mark m;pure Extern.Race.none_) (w:Ï):è P yQ (G {b.at a L with mode:=ù} qX) w=Š (G {b.at ⟨a.tmps,i⟩ L with mode:=ù} qX) w #[j1 m]:= stepG_unwind_entry (v:=Ĳ #[]) e j k l n o (by simp[Extern.Race.none_,j1]) (by simp[j1])<|by intro x c;simp[j1]at c;subst c;exact⟨U,λg h=>d g<|Loc.mark.inj h⟩
end
theorem Zd(s:Nat)(h:s%4294967296<2147483648):s&&&2147483648=0:=by
 have e:(2147483648:Nat)=(2^32-1)&&&2147483648:=A
 have a:(2:Nat)^32=4294967296:=A
 rw[e,<-Nat.and_assoc,Ą,a];have c:s%4294967296=(s%4294967296)&&&(2^31-1):=by rw[Ą];have b:(2:Nat)^31=2147483648:=A;rw[b];omega
 grind
theorem EH(s:Int)(a:0<=s)(b:s<1000000*4294967296)(h:s%4294967296<1000000):bits .and Ó s 2147483648=0:=by obtain⟨n,rfl⟩:=Int.eq_ofNat_of_zero_le a;have h:=(bits_nat Ó 63 A ø n 2147483648 Z A).1;grind [Zd]
theorem EI(s:Int)(a:0<=s)(b:s<1000000*4294967296)(h:s%4294967296<1000000):bits .and Ó s 2147483647=s%4294967296:=by have h:=bits_mask Ó 63 A ø 31 A s a Z;grind
def LN(L:ě):Array ĭ:=#[{dst:=Ã 113,op:=Ŧ<|ß 0,type:=L.tWgP,pos:= "waitgroup.go:142",after:=#[],guard:=Í},{dst:=Ã 114,op:=Op.nilCheck<|ß 113,type:=0,pos:= "waitgroup.go:142",after:=#[{on:=0,ground:=ý}],guard:=Í},{dst:=Ã 115,op:=Op.fieldAddr L.tWg (ß 114) 2,type:=0,pos:= "waitgroup.go:142",after:=#[{on:=1,ground:=ý}],guard:=Í},{dst:=Ã 116,op:=Ŭ {callee:=Callee.value<|ŧ L.semrelease,args:=#[ß 115,ċ<|Value.bool É,ċ<|ë Ũ 0],argTypes:=#[L.tPU32,4,3]},type:=0,pos:= "waitgroup.go:142",after:=#[{on:=2,ground:=ý}],guard:=Í}]
def LO(L:ě):Array ĭ:=#[{dst:=Ã 111,op:=Ŧ<|ß 8,type:=L.tU32,pos:= "waitgroup.go:141",after:=#[],guard:=Í},{dst:=Ã 112,op:=Ω BinOp.sub L.tU32 (ß 111) (ċ<|ë ç 1) L.tU32,type:=L.tU32,pos:= "waitgroup.go:141",after:=#[{on:=0,ground:=ý}],guard:=Í},{dst:=Ã 8,op:=Op.assign<|ß 112,type:=L.tU32,pos:= "waitgroup.go:141",after:=#[{on:=1,ground:=ý},{on:=0,ground:=ũ},{on:=1,ground:=ũ}],guard:=Í}]
def LP(L:ě)(b:Nat)(t:Array ã)(a:List ô):Ä:=G ((base L.add).at ⟨t,[dcall L.enable #[]]⟩ [Æ (LN L) [3],ŏ 2,ĵ<|Ģ 33 (LO L) É,Ρ<|((Ģ 32 #[{dst:=Ã 109,op:=Ŧ<|ß 8,type:=L.tU32,pos:= "waitgroup.go:141",after:=#[],guard:=Í},{dst:=Ã 110,op:=Ω BinOp.neq L.tU32 (ß 109) (ċ<|ë ç 0) L.tU32,type:=4,pos:= "waitgroup.go:141",after:=#[{on:=0,ground:=ý}],guard:=Í}] É).seq<|Τ (ß 110) ο<|Code.exit 1).seq<|(ε 2<|Ģ 34 (LN L) É).seq<|Ģ 33 (LO L) É,ŏ 1])<|(base L.done).at {tmps:=#[ì<|Ã {block:=b,off:=0},Â,ì<|Ã {block:=b,off:=0},Â],defers:=[]} [Æ #[{dst:=Ã 2,op:=Ŧ<|ß 0,type:=L.tWgP,pos:= "waitgroup.go:156",after:=#[],guard:=Í},{dst:=Ã 3,op:=Ŭ {callee:=Callee.value<|ŧ L.add,args:=#[ß 2,ċ<|ë Ũ<|-1],argTypes:=#[L.tWgP,3]},type:=0,pos:= "waitgroup.go:156",after:=#[{on:=0,ground:=ý}],guard:=Í}] [1]]::a
section
variable{Ψ:Ï->Prop}{L:ě}{l:fe}{e:Jd}{k:List Ő}
def aiV(H:ŕ P L)(h:mA Ψ l b)(s:∀a,SW Ψ l b a->fi P É e {l with d:=0,w:=a} (G (f.at (y.put ((Q[i]?).bind (·.dst))<|Ĳ #[])<|Æ Q jJ::k) qX)): ∀(r:Nat) (c:Int) (t u v x z B C D E F I J K M N O S T V W X Y sC tV sD qc oU qK qL qM vm tW tX sE sF vn vo vp vq vr vt vu vv vw qN qO yz Qz QA QB QC QD QE QF QG QH QI QJ QK QL QM QN QP QR QS QU QV QW QX QY QZ Q0 Q5 Q6 Q7 Q8 Q9 Ra Rb Rc Re Rf Rh Ri Rj Rk Rl Rm Rn Ro Rp Rq Rr Rs Rt Ru Rv Rw Rx Ry Rz RE RF RG RH RJ RN RO RP RR RU RV RY RZ:ã) (a:Ï),SW Ψ l b a->(c<=(r:Int)+1/\(r:Int)+1<=c)->r+1<1000000-> fi P É (GJ P É b (fi P É e)<|r+1) {l with d:=1,w:=a} (LP L b #[ì<|Ã ⟨b,0,Í⟩,t,u,v,x,z,B,C,ë ç c,D,E,F,I,J,K,M,N,O,S,T,V,W,X,Y,sC,tV,sD,qc,oU,qK,qL,qM,vm,tW,tX,sE,sF,vn,vo,vp,vq,vr,vt,vu,vv,vw,qN,qO,yz,Qz,QA,QB,QC,QD,QE,QF,QG,QH,QI,QJ,QK,QL,QM,QN,QP,QR,QS,QU,QV,QW,QX,QY,QZ,Q0,Q5,Q6,Q7,Q8,Q9,Ra,Rb,Rc,Re,Rf,Rh,Ri,Rj,Rk,Rl,Rm,Rn,Ro,Rp,Rq,Rr,Rs,Rt,Ru,Rv,Rw,Rx,Ry,Rz,RE,RF,RG,RH,RJ,RN,RO,RP,RR,RU,RV,RY,ì<|Ã ⟨b,1,Í⟩,RZ]<|f.at y (Æ Q (i::jJ)::k)::qX):=by
 intro r;unfold LP LN LO;lib_facts
 induction r with
 |zero=>
  intro c;intros;rename_i a hF p q;have e1:c=1:=Z
  subst e1;clear p q;refine oA (l:={l with d:=1,w:=a}) h hF λj hF=>⟨U,U,Ĝ U U H.f_semrelease<|æ L,_,U,λa n m o=>(ą U U (by k_ne) U H.f_semrelease (Ĕ L) (æ L) (ĕ L) (Ė L) (by simp[þ,gY]) m o).trans fL,?_⟩;walk_nrm;apply jP (l:={l with d:=1,w:=j}) h hF (n:=50);iterate 17 w_go fN
  refine Î λa g=> ?_;replace hF:=fN hF g;clear g;refine wU (l:={l with d:=1,w:=a}) h hF (Á U) U (λw=>LL î fp U H.f_enable (Ĥ L) (ĥ L) (Ħ L) (ħ L) w) λyA hF=> ?_;have vh:Ð 1 #[j1 î]=0:=rfl;rw[vh];apply jP (l:={l with d:=0,w:=yA}) h hF (n:=10);u_leave0 H.f_add fN hF;iterate 2 w_go fN
  u_leave0 H.f_done fN hF
  refine Î λa g=> ?_;replace hF:=fN hF g;clear g;exact s _ hF
 |succ r ih=>
  intro c;intros;rename_i a hF p q;have g1:(c-1)%4294967296=c-1:=Z
  have g2:(c-1 !=0)=Ì:=by simp;omega
  refine oA (l:={l with d:=1,w:=a}) h hF λj hF=>⟨U,U,Ĝ U U H.f_semrelease<|æ L,_,U,λa n m o=>(ą U U (by k_ne) U H.f_semrelease (Ĕ L) (æ L) (ĕ L) (Ė L) (by simp[þ,gY]) m o).trans fL,?_⟩;walk_nrm;apply jP (l:={l with d:=1,w:=j}) h hF (n:=50);iterate 22 w_go fN
  refine Î λa g=> ?_;replace hF:=fN hF g;clear g;apply ih (c-1)<;>first|exact hF|omega
end
section
variable{b:ô}{a:Ł}{k:List Ő}{cs:List ô}{d:Nat}
def sG(P:Ğ)(d:Nat)(g:Ä):Prop:=∃N,Ź P N d g
def EJ(P:Ğ):Jd:=λl g=>sG P l.d g
def LQ{a:Ä}(b:g.status=Å)(h:∀w,è P É g w=Š a w)(c:sG P d a):sG P d g:=let⟨n,q⟩:=c;⟨n+1,.ctl b h q⟩
def at5(f:Q[i]?=Ã o)(g:á o (Ĩ Q a.tmps)=Ì)(j:b.kind≠Đ) (h:∀(w:Ï) (K:Ł->Ï->Prop),K y w->uponK o a K ((Þ a.eval o).run P w)) (n:∀w,(Þ a.eval o).events P w #[]=#[]) (p:sG P d (G (b.at y<|Æ Q jJ::k) cs)):sG P d (G (b.at a<|Æ Q (i::jJ)::k) cs):=by
 refine LQ U (λw=> ?_) p;have e:=h w (λx c=>x=y/\c=w) ⟨U,U⟩;have l:listed P b.fn a o w=#[]:=by unfold listed;rw[n w,Ć]
 revert e;generalize m:(Þ a.eval o).run P w=r;intro e;match r,e with
 |.ok (.value v) w',⟨c,x⟩=>subst x;rw[ń f g j m,l,c]
 |.ok .skip w',⟨c,x⟩=>subst x;rw[ŗ f g j m,l,c]
def R0:∀{n m d:Nat} {g:Ä},n<=m->Ź P n d g->Ź P m d g
 |0,0,_,_,_,h=>h
 |0,_+1,_,_,_,h=>À h
 |_+1,0,_,_,e,_=>absurd e Z
 |_+1,_+1,_,_,e,h=>h.imp id λ⟨a,b,c,f,i,j⟩=>⟨a,b,c,f,i,R0 (Nat.le_of_succ_le_succ e) j⟩
def Hk{n:Nat}{ops:Array Oper}{i:Nat}{rest:List Nat}{o:Oper}{a':Act}(hq:QuitsD P n d (G (b.at a'<|.inRegion ops rest::k) cs))(ho:ops[i]?=some o:=by rfl)(hw:Region.wanted o (yielded ops a.tmps)=true:=by rfl)(hk:b.kind≠.early:=by k_ne) (h:∀(w:World) (K:Act->World->Prop),K a' w->uponK o a K ((execOp a.eval o).run P w):=by intro w K hK;go_simp;(try w_num);exact hK) (he:∀w,(execOp a.eval o).events P w #[]=#[]:=by intro _;simp[go_sem, *]): QuitsD P (n+1) d (G (b.at a<|.inRegion ops (i::rest)::k) cs):=by
 refine QuitsD.ctl U (λw=> ?_) hq;have h1:=h w (λx y=>x=a'/\y=w) ⟨U,U⟩;have h2:listed P b.fn a o w=#[]:=by unfold listed;rw[he w,Ć]
 revert h1;generalize hr:(Þ a.eval o).run P w=r;intro h1;match r,h1 with
 |.ok (.value v) w',⟨e1,e2⟩=>subst e2;rw[ń ho hw hk hr,h2,e1]
 |.ok .skip w',⟨e1,e2⟩=>subst e2;rw[ŗ ho hw hk hr,h2,e1]
end
section
variable{Ψ:Ï->Prop}{L:ě}{b:Nat}{l:fe}{a:Ł}{ops:Array ĭ}{rest:List Nat}{k:List Ő}{cs:List ô}
def aiW(H:ŕ P L)(g:mA Ψ l b)(h:sG P 0 (G (f.at (a.put ((ops[i]?).bind (·.dst))<|Ĳ #[])<|Æ ops rest::k) cs)): ∀(r:Nat) (c:Int) (t u v x y z B C D E F I J K M N O Q S T V W X Y sD qc oU qK qL qM vm tW tX sE sF vn vo vp vq vr vt vu vv vw qN qO yz Qz QA QB QC QD QE QF QG QH QI QJ QK QL QM QN QP QR QS QU QV QW QX QY QZ Q0 Q5 Q6 Q7 Q8 Q9 Ra Rb Rc Re Rf Rh Ri Rj Rk Rl Rm Rn Ro Rp Rq Rr Rs Rt Ru Rv Rw Rx Ry Rz RE RF RG RH RJ RN RO RP RR RU RV RY RZ:ã) (e:Ï),SW Ψ l b e->(c<=(r:Int)+1/\(r:Int)+1<=c)->r+1<1000000-> fi P É (GJ P É b (EJ P)<|r+1) {l with d:=1,w:=e} (LP L b #[ì<|Ã ⟨b,0,Í⟩,t,u,v,x,y,z,B,ë ç c,C,D,E,F,I,J,K,M,N,O,Q,S,T,V,W,X,Y,sD,qc,oU,qK,qL,qM,vm,tW,tX,sE,sF,vn,vo,vp,vq,vr,vt,vu,vv,vw,qN,qO,yz,Qz,QA,QB,QC,QD,QE,QF,QG,QH,QI,QJ,QK,QL,QM,QN,QP,QR,QS,QU,QV,QW,QX,QY,QZ,Q0,Q5,Q6,Q7,Q8,Q9,Ra,Rb,Rc,Re,Rf,Rh,Ri,Rj,Rk,Rl,Rm,Rn,Ro,Rp,Rq,Rr,Rs,Rt,Ru,Rv,Rw,Rx,Ry,Rz,RE,RF,RG,RH,RJ,RN,RO,RP,RR,RU,RV,RY,ì<|Ã ⟨b,1,Í⟩,RZ]<|f.at a (Æ ops (i::rest)::k)::cs):=by
 intro r;unfold LP LN LO;lib_facts
 induction r with
 |zero=>
  intro c;intros;rename_i e hF o p;have e1:c=1:=Z
  subst e1;clear o p;refine oA (l:={l with d:=1,w:=e}) g hF λq hF=>⟨U,U,Ĝ U U H.f_semrelease<|æ L,_,U,λe n j m=>(ą U U (by k_ne) U H.f_semrelease (Ĕ L) (æ L) (ĕ L) (Ė L) (by simp[þ,gY]) j m).trans fL,?_⟩;walk_nrm;show sG P 1 _;let⟨n,h⟩:=h;refine⟨n+150,?_⟩;repeat(first|refine Hk ?_|q_go)
  q_en H L
  q_leave0 H.f_add
  repeat(first|refine Hk ?_|q_go)
  q_leave0 H.f_done
  exact R0 Z h
 |succ r ih=>
  intro c;intros;rename_i e hF o p;have g1:(c-1)%4294967296=c-1:=Z
  have g2:(c-1 !=0)=Ì:=by simp;omega
  refine oA (l:={l with d:=1,w:=e}) g hF λq hF=>⟨U,U,Ĝ U U H.f_semrelease<|æ L,_,U,λe n j m=>(ą U U (by k_ne) U H.f_semrelease (Ĕ L) (æ L) (ĕ L) (Ė L) (by simp[þ,gY]) j m).trans fL,?_⟩;walk_nrm;apply jP (l:={l with d:=1,w:=q}) g hF (n:=50);iterate 22 w_go fN
  refine Î λe s=> ?_;replace hF:=fN hF s;clear s;apply ih (c-1)<;>first|exact hF|omega
end
section
variable{Ψ:Ï->Prop}{L:ě}{l:fe}{k:List Ő}
def aiX(H:ŕ P L)(J:l.K ⟨b,0,Í⟩/\l.K ⟨b,1,Í⟩)(z:mA Ψ l b)(hF:SW Ψ l b l.w)(B:l.d=0)(q:sG P 0 (G (f.at (y.put ((Q[i]?).bind (·.dst))<|Ĳ #[])<|Æ Q jJ::k) qX)): fi P É (λl g=>Ab P É b (EJ P) (kI l) g) l (G ((base L.done).at ⟨#[ì<|Ã ⟨b,0,Í⟩,Â,Â,Â],[]⟩ [ĵ<|body_done L])<|f.at y (Æ Q (i::jJ)::k)::qX):=by
 lib_facts;simp only[body_done,doneFn,ć];apply jP z hF (n:=40);iterate 2 w_go fN
 u_call H.f_add (nm_add L) addFn fN hF
 iterate 11 w_go fN
 u_conv H.underlying_tWgP H.room_tWg (nQ.r hF.2.1).choose_spec fN hF
 refine Î λa g=> ?_;replace hF:=fN hF g;clear g;refine oA (l:={l with w:=a}) z hF λc hF=>⟨B,U,_,λ_=>Ē į fp U U (by k_ne) U H.f_relMerge (x_relMerge_n L) (x_relMerge_b L) (x_relMerge_x L) (x_relMerge_f L) (by simp[þ,fQ]),?_⟩;walk_nrm;have e:mA (λ_=>True) (kI {l with w:=c}) b:=⟨À J.1,À J.2,λ_ _ _ _ _ _ _ _=>trivial⟩;have C:SW (λ_=>True) (kI {l with w:=c}) b (kI {l with w:=c}).w:=⟨λj h=>h.elim,hF.2.1,trivial⟩;have M:(kI {l with w:=c}).d=0:=B;generalize kI {l with w:=c}=l2 at e C M|-;replace hF:=C;clear C z B;apply jP e hF (n:=10);iterate 3 w_go fN
 refine Î λa g=> ?_;replace hF:=fN hF g;clear g;refine wU (l:={l2 with w:=a}) e hF (À U) U (λ_=>Ę õ fp U U (by k_ne) U H.f_disable (Ņ L) (ņ L) (Ň L)<|ň L) λT hF=> ?_;walk_nrm;have V:Ð l2.d #[j1 õ]=1:=by rw[M];rfl
 rw[V];apply jP (l:={l2 with d:=1,w:=T}) e hF (n:=50);iterate 2 w_go fN
 u_defer fN hF
 iterate 8 w_go fN
 u_bub fN hF
 iterate 11 w_go fN
 u_call H.f_uAdd (nm_uAdd L) uAddFn fN hF
 iterate 10 w_go fN
 refine Î λa g=> ?_;replace hF:=fN hF g;clear g;refine oA (l:={l2 with d:=1,w:=a}) e hF λc hF=>⟨U,U,λv=>⟨_,λa p D=>(Ľ U U (by k_ne) U H.f_addU64 (Ž L) (ž L) (ſ L) Ó (Α L) U U p D).trans fL,?_⟩⟩;walk_nrm;have N:Ó.wrap (v+18446744069414584320)=Ó.wrap (v+ru):=rfl;rw[N];clear N;obtain⟨s,E⟩:∃s,Ó.wrap (v+ru)=s:=⟨_,U⟩;simp only[E];have F:0<=s:=by rw[<-E];have:Ó.wrap (v+ru)=(v+ru)%18446744073709551616:=rfl;rw[this];omega
 clear E v;by_cases o:s=0\/(fY<=s/\s<1000000*fY/\s%fY<1000000)
 .rw[if_pos o];by_cases m:s=0;focus
   subst m;clear o F
  rotate_left;focus
   have W:=o.resolve_left m;clear o m F;let⟨X,Y,c6⟩:=W;have q4:(4294967296:Int)<=s:=X;have I:s<1000000*4294967296:=Y;have O:s%4294967296<1000000:=c6;have f1:=EH s Z I O;have t:=EI s Z I O;obtain⟨x,g1⟩:∃x,(s/4294967296+2147483648)%4294967296-2147483648=x:=⟨_,U⟩;have g2:¬x<0:=Z
   have g3:0<x:=Z
   by_cases u:s%4294967296=0;focus rw[u]at t
   rotate_left;focus
    obtain⟨r,g4⟩:∃r,s%4294967296=r:=⟨_,U⟩;rw[g4]at t u;have S:r%4294967296=r:=Z
    have g6:(r !=0)=Ì:=by simpa using u
  all_goals
   show sG P 1 _;let⟨n,q⟩:=q;refine⟨n+150,?_⟩;repeat(first|refine Hk ?_|q_go)
   q_leave1 H.f_uAdd
   repeat(first|refine Hk ?_|q_go)
   q_en H L
   q_leave0 H.f_add
   repeat(first|refine Hk ?_|q_go)
   q_leave0 H.f_done
   exact R0 Z q
 .rw[if_neg o];by_cases m:0<s/\s<1000000
  .rw[if_pos m];let⟨q4,I⟩:=m;clear o F;have f1:=EH s Z Z Z;have t:=EI s Z Z Z;have g1:(s/4294967296+2147483648)%4294967296-2147483648=0:=Z
   have S:s%4294967296=s:=Z
   rw[S]at t;have g6:(s !=0)=Ì:=by simp;omega
   have X:(s==0)=É:=by simp;omega
   have O:(s.toNat:Int)=s:=Z
   apply jP (l:={l2 with d:=1,w:=c}) e hF (n:=150);iterate 3 w_go fN
   u_leave1 H.f_uAdd fN hF
   iterate 89 w_go fN
   u_call H.f_uLoad (ů L) Ξ fN hF
   iterate 9 w_go fN
   refine Î λa g=> ?_;replace hF:=fN hF g;clear g;refine oA (l:={l2 with d:=1,w:=a}) e hF λc hF=>⟨U,U,λv=>⟨_,λa p=>ę U U (by k_ne) U H.f_loadU64 (ŉ L) (Ŋ L) (ŋ L) Ó (Ō L) U p,?_⟩⟩;show fi P É (if v=(s.toNat:Int)then K9 P É b (EJ P) s.toNat else λ_ _=>True) _ _;by_cases u:v=(s.toNat:Int)
   .rw[if_pos u];rw[O]at u;subst u;walk_nrm;have Y:(v !=v)=É:=fp
    apply jP (l:={l2 with d:=1,w:=c}) e hF (n:=150);iterate 3 w_go fN
    u_leave1 H.f_uLoad fN hF
    iterate 10 w_go fN
    u_call H.f_uStore (nm_uStore L) uStoreFn fN hF
    iterate 5 w_go fN
    refine Î λa g=> ?_;replace hF:=fN hF g;clear g;refine oA (l:={l2 with d:=1,w:=a}) e hF λc hF=>⟨U,U,_,λa x p D=>stepG_store_atomic U U (by k_ne) U H.f_storeU64 (x_storeU64_n L) (x_storeU64_b L) (x_storeU64_x L) (x_storeU64_f L) U U p D,?_⟩;walk_nrm;obtain⟨r,W⟩:∃r,v.toNat=r+1:=⟨v.toNat-1,Z⟩;rw[W];apply jP (l:={l2 with d:=1,w:=c}) e hF (n:=150);iterate 2 w_go fN
    u_leave0 H.f_uStore fN hF
    iterate 24 w_go fN
    refine Î λa g=> ?_;replace hF:=fN hF g;clear g;apply aiW H e q r v<;>first|exact hF|omega
   .rw[if_neg u];exact .fD λ_ _=>trivial
  .rw[if_neg m];trivial
end
def RT(_ _:Ï):Prop:=True
def fy{w₁:Ï}(_:True)(_:RT w w₁):True:=trivial
def aiY(s:Int)(a:0<=s)(b:s<9223372036854775808)(h:s%4294967296<1000000):bits .and Ó s 2147483648=0:=by obtain⟨n,rfl⟩:=Int.eq_ofNat_of_zero_le a;have h:=(bits_nat Ó 63 A ø n 2147483648 Z A).1;rw[Zd n Z]at h;simpa using h
def aiZ(s:Int)(a:0<=s)(c:s<9223372036854775808)(h:s%4294967296<1000000):bits .and Ó s 2147483647=s%4294967296:=by
 have h:=bits_mask Ó 63 A ø 31 A s a Z;have e:((2:Int)^31-1)=2147483647:=A
 have b:((2:Int)^31)=2147483648:=A
 rw[e,b]at h;rw[h];omega
section
variable(P:Ğ)(L:ě)(f:Bool)(b:Nat)(j:Jd)(c:ô)(m:List ô)(l:fe)
def Ze(g:Ä):Prop:=∃T:Array ã,g=G ((base L.wait).at ⟨T,[]⟩ [ĵ<|L7 L,Ρ<|L7 L,ŏ 0]) (c::m)/\T.size=84/\T[0]?=Ã (ì<|Ã ⟨b,0,Í⟩)
def Zf(v:Int)(g:Ä):Prop:=g.status=Å/\
 (∃a,(∀w:Ï,w.cell? (fQ b)=Ã (ë Ó v)->w.frozen? (fQ b)=É->è P f g w=Š a (w.setCell (fQ b)<|ë Ó<|Ó.wrap<|v+1) #[kG<|fQ b,nk<|fQ b])/\fi P f (if v%fY=0 then PL P f b j else Lb P f b j) l a)/\
 ∃a,(∀(w:Ï) (x:Int),x≠v->w.cell? (fQ b)=Ã (ë Ó x)->w.frozen? (fQ b)=É->è P f g w=Š a w #[kG<|fQ b])/\∀w,ı P f RT à (λg _=>Ze L b c m g) 10 a w
def R1(g:Ä):Prop:=g.status=Å/\∀v,∃a,(∀w:Ï,w.cell? (fQ b)=Ã (ë Ó v)->è P f g w=Š a w #[kG<|fQ b])/\(0<=v/\v<1000000->fi P f (GK P f b j) l a)/\
 ((fY<=v/\v<fY*2147483648/\v%fY<1000000)->∀w,ı P f RT à (λg _=>Zf P L f b j c m l v g) 60 a w)
end
section
variable{Ψ:Ï->Prop}{P:Ğ}{L:ě}{f:Bool}{b:Nat}{l:fe}{j:Jd}{c:ô}{a:Ł}{k:List Ő}{m:List ô}
def Zg(H:ŕ P L)(p:mA Ψ l b)(J:SW Ψ l b l.w)(u:l.d=1)(z:∀o,SW Ψ l b o->fi P f j {l with d:=0,w:=o} (G (c.at (a.put ((Q[i]?).bind (·.dst))<|Ĳ #[])<|Æ Q jJ::k) m)) (h:Ze L b (c.at a<|Æ Q (i::jJ)::k) m g) (w:Ï):ı P f RT à (λg _=>R1 P L f b j (c.at a<|Æ Q (i::jJ)::k) m l g) 30 g w:=by
 lib_facts;obtain⟨T,rfl,V,K⟩:=h;obtain⟨v0,v1,v2,v3,v4,v5,v6,v7,v8,v9,v10,v11,v12,v13,v14,v15,v16,v17,v18,v19,v20,v21,v22,v23,v24,v25,v26,v27,v28,v29,v30,v31,v32,v33,v34,v35,v36,v37,v38,v39,v40,v41,v42,v43,v44,v45,v46,v47,v48,v49,v50,v51,v52,v53,v54,v55,v56,v57,v58,v59,v60,v61,v62,v63,v64,v65,v66,v67,v68,v69,v70,v71,v72,v73,v74,v75,v76,v77,v78,v79,v80,v81,v82,v83,rfl⟩:=array84 T V;simp only[List.getElem?_toArray,List.getElem?_cons_zero,Ķ]at K;subst K;have hF:True:=trivial;simp only[L7,ţ,waitFn,ć];iterate 6 w_go fy
 u_call H.f_uLoad (ů L) Ξ fy hF
 iterate 9 w_go fy
 refine Î λo e=> ?_;clear e hF o;refine⟨U,λv=>⟨_,λo q=>ę U U (by k_ne) U H.f_loadU64 (ŉ L) (Ŋ L) (ŋ L) Ó (Ō L) U q,λB=> ?_,λB w=> ?_⟩⟩
 .walk_nrm;let⟨t,x⟩:=B;have W:=EH v Z Z Z;have C:=EI v Z Z Z;have X:(v/4294967296+2147483648)%4294967296-2147483648=0:=Z
  have M:v%4294967296=v:=Z
  rw[M]at C;have hF:=J;apply jP (l:=l) p hF (n:=150);iterate 3 w_go fN
  u_leave1 H.f_uLoad fN hF
  iterate 27 w_go fN
  refine Î λo e=> ?_;replace hF:=fN hF e;clear e;refine wU (l:={l with w:=o}) p hF (Á U) U (λ_=>Ę î fp U U (by k_ne) U H.f_enable (Ĥ L) (ĥ L) (Ħ L)<|ħ L) λD hF=> ?_;have E:Ð l.d #[j1 î]=0:=by rw[u];rfl
  rw[E];walk_nrm;apply jP (l:={l with d:=0,w:=D}) p hF (n:=50);iterate 3 w_go fN
  u_conv H.underlying_tWgP H.room_tWg (nQ.r hF.2.1).choose_spec fN hF
  refine Î λo e=> ?_;replace hF:=fN hF e;clear e;refine oA (l:={l with d:=0,w:=o}) p hF λr hF=>⟨U,U,_,λ_=>Ē Œ fp U U (by k_ne) U H.f_acquire (Ű L) (ű L) (Ų L) (ų L) (by simp[þ,fQ]),?_⟩;walk_nrm;by_cases s:v=0
  .subst s;apply jP (l:={l with d:=0,w:=r}) p hF (n:=50);iterate 19 w_go fN
   u_leave0 H.f_wait fN hF
   refine Î λo e=> ?_;replace hF:=fN hF e;clear e;exact z _ hF
  .have S:(v==0)=É:=by simp;omega
   apply jP (l:={l with d:=0,w:=r}) p hF (n:=50);iterate 19 w_go fN
   u_leave0 H.f_wait fN hF
   refine Î λo e=> ?_;replace hF:=fN hF e;clear e;exact z _ hF
 .walk_nrm;let⟨N,O,c6⟩:=B;have q4:(4294967296:Int)<=v:=N;have q5:v<4294967296*2147483648:=O;have F:v%4294967296<1000000:=c6;clear N O;have C:=aiZ v Z Z F;obtain⟨I,X⟩:∃I,(v/4294967296+2147483648)%4294967296-2147483648=I:=⟨_,U⟩;have g2:(I==0)=É:=by simp;omega
  have g3:(v+1)%18446744073709551616=v+1:=Z
  have Y:Ó.wrap (v+1)=v+1:=K8 Z Z;obtain⟨t,g4⟩:∃t,v%4294967296=t:=⟨_,U⟩;have W:=aiY v Z Z F;rw[g4]at C F;have M:t%4294967296=t:=Z
  have hF:True:=trivial;iterate 3 w_go fy
  u_leave1 H.f_uLoad fy hF
  iterate 32 w_go fy
  u_call H.f_uCas (nm_uCas L) uCasFn fy hF
  iterate 11 w_go fy
  refine Î λo e=> ?_;clear e hF o;refine⟨U,⟨_,λo q y=>(stepG_cas_hit (v:=v) (n:=v+1) U U (by k_ne) U H.f_casU64 (Β L) (Γ L) (Δ L) Ó (Ε L) U U U q y).trans (by rw[Y];rfl),?_⟩,_,λo x lN q y=>stepG_cas_miss (v:=x) (old:=v) (n:=v+1) U U (by k_ne) U H.f_casU64 (Β L) (Γ L) (Δ L) Ó (Ε L) U U U q y lN,λw=> ?_⟩
  .walk_nrm;have hF:=J;by_cases s:v%fY=0;focus
    rw[if_pos s];have s:v%4294967296=0:=s;have:t=0:=Z
    subst this;apply jP (l:=l) p hF (n:=150);iterate 3 w_go fN
    u_leave1 H.f_uCas fN hF
    iterate 15 w_go fN
    u_conv H.underlying_tPU32 H.room_tU32 (nQ.C hF.2.1).choose_spec fN hF
    refine Î λo e=> ?_;replace hF:=fN hF e;clear e;refine oA (l:={l with w:=o}) p hF λr hF=>⟨u,U,_,λ_=>Ē Υ fp U U (by k_ne) U H.f_raceWrite (x_raceWrite_n L) (x_raceWrite_b L) (x_raceWrite_x L) (x_raceWrite_f L) (by simp[þ,gY]),?_⟩;walk_nrm;apply jP (l:={l with w:=r}) p hF (n:=150);iterate 23 w_go fN
   rotate_left;focus
    rw[if_neg s];have s:¬v%4294967296=0:=s;have S:(t==0)=É:=by simp;omega
    apply jP (l:=l) p hF (n:=150);iterate 3 w_go fN
    u_leave1 H.f_uCas fN hF
    iterate 34 w_go fN
   all_goals
    refine Î λo e=> ?_;replace hF:=fN hF e;clear e;refine oA (l:={l with w:=o}) p hF λr hF=>⟨u,U,U,λo q=>stepG_semacquire_wait U U U H.f_semacquire (Ř L) (ř L) (Ś L) (ś L) (by simp[þ,gY]) q,_,λo n hn q y=>(stepG_semacquire (n:=n) U U (by k_ne) U H.f_semacquire (Ř L) (ř L) (Ś L) (ś L) (by simp[þ,gY]) q hn y).trans fL,?_⟩;walk_nrm;apply jP (l:={l with w:=r}) p hF (n:=50);iterate 6 w_go fN
    u_call H.f_uLoad (ů L) Ξ fN hF
    iterate 9 w_go fN
    refine Î λo e=> ?_;replace hF:=fN hF e;clear e;refine oA (l:={l with w:=o}) p hF λr hF=>⟨u,U,λx=>⟨_,λo q=>ę U U (by k_ne) U H.f_loadU64 (ŉ L) (Ŋ L) (ŋ L) Ó (Ō L) U q,?_⟩⟩;show fi P f (if x=0 then GK P f b j else λ_ _=>True) _ _;by_cases S:x=0
    .subst S;rw[if_pos U];walk_nrm;apply jP (l:={l with w:=r}) p hF (n:=50);iterate 3 w_go fN
     u_leave1 H.f_uLoad fN hF
     iterate 7 w_go fN
     refine Î λo e=> ?_;replace hF:=fN hF e;clear e;refine wU (l:={l with w:=o}) p hF (Á U) U (λ_=>Ę î fp U U (by k_ne) U H.f_enable (Ĥ L) (ĥ L) (Ħ L)<|ħ L) λD hF=> ?_;have E:Ð l.d #[j1 î]=0:=by rw[u];rfl
     rw[E];walk_nrm;apply jP (l:={l with d:=0,w:=D}) p hF (n:=50);iterate 3 w_go fN
     u_conv H.underlying_tWgP H.room_tWg (nQ.r hF.2.1).choose_spec fN hF
     refine Î λo e=> ?_;replace hF:=fN hF e;clear e;refine oA (l:={l with d:=0,w:=o}) p hF λr hF=>⟨U,U,_,λ_=>Ē Œ fp U U (by k_ne) U H.f_acquire (Ű L) (ű L) (Ų L) (ų L) (by simp[þ,fQ]),?_⟩;walk_nrm;apply jP (l:={l with d:=0,w:=r}) p hF (n:=50);iterate 9 w_go fN
     u_leave0 H.f_wait fN hF
     refine Î λo e=> ?_;replace hF:=fN hF e;clear e;exact z _ hF
    .rw[if_neg S];exact .fD λ_ _=>trivial
  .walk_nrm;have hF:True:=trivial;iterate 3 w_go fy
   u_leave1 H.f_uCas fy hF
   iterate 5 w_go fy
   exact Î λ_ _=>⟨_,U,fp,fp⟩
end
section
variable{Ψ:Ï->Prop}{L:ě}{l:fe}{e:Jd}{k:List Ő}
def ai0{D:Ï->Ï->Array đ->Prop}{b:Ä->Ï->Prop}(h:ı P yQ RT D b n g w):ı P yQ RT D b n g u:=by
 cases n with
 |zero=>exact λa _=>h a trivial
 |succ n=>exact h.imp (λq a _=>q a trivial) λq=>⟨q.1,λa _=>q.2 a trivial⟩
def Zh{D:Ï->Ï->Array đ->Prop}{b c:Ä->Prop}(d:∀g,b g->∀w,ı P yQ RT D (λg _=>c g) m g w):∀{n:Nat} {g:Ä} {w:Ï},ı P yQ RT D (λg _=>b g) n g w->ı P yQ RT D (λg _=>c g) (n+m) g w:=by
 intro n
 induction n with
 |zero=>intro g w h;rw[Nat.zero_add];exact d g (h w trivial) w
 |succ n i=>
  intro g w h;rcases h with h|⟨j,h⟩
  .exact(d g (h w trivial) w).mono Z
  .rw[show n+1+m=(n+m)+1 by omega];refine Goes.step j λe r=> ?_;have a:=h e r;cases f:è P yQ g e with
   |go k l o=>
    rw[f,ť]at a;rw[ť];exact⟨a.1,i a.2⟩
   |_=>rw[f]at a;exact a.elim
theorem Zi{S:Ä->Prop}(l:∀g,S g->g.status=Å)(h:∀w,ı P yQ RT à (λg _=>S g) (n+1) g w):g.status=Å/\(S g\/∀a,∃b,è P yQ g a=Š b a #[]/\∀w,ı P yQ RT à (λg _=>S g) n b w):=by
 by_cases e:S g
 .grind
 .rcases h default with q|⟨f,q⟩
  .exact absurd (q default trivial) e
  .refine⟨f,Á λa=> ?_⟩;have c:=q a trivial;cases d:è P yQ g a with
   |go b m o=>
    rw[d,ť]at c;let⟨⟨i,j⟩,k⟩:=c;subst i j;exact⟨b,U,λw=>ai0 k⟩
   |_=>rw[d]at c;exact c.elim
def ai1(H:ŕ P L)(B:60<=j)(D:mA Ψ l b)(E:SW Ψ l b l.w)(C:l.d=1)(F:∀a,SW Ψ l b a->fi P yQ e {l with d:=0,w:=a} (G (f.at (y.put ((Q[i]?).bind (·.dst))<|Ĳ #[])<|Æ Q jJ::k) qX)) (I:n<=j) (h:∀w,ı P yQ RT à (λg _=>R1 P L yQ b e (f.at y<|Æ Q (i::jJ)::k) qX l g) n g w):PN P yQ j b e (.gX n) l g:=by
 refine⟨C,λp g=>match p with
  |.gX n=>n<=j/\∀w,ı P yQ RT à (λg _=>R1 P L yQ b e (f.at y<|Æ Q (i::jJ)::k) qX l g) n g w
  |.ld v m=>m<=j/\fY<=v/\∀w,ı P yQ RT à (λg _=>Zf P L yQ b e (f.at y (Æ Q (i::jJ)::k)) qX l v g) m g w,⟨I,h⟩,λp g J=> ?_⟩
 match p,J with
 |.gX (n+1),⟨h1,h2⟩=>
  let⟨r,u⟩:=Zi (λg h=>h.1) h2;refine⟨r,h1,u.imp (λq=>⟨ò _,λw a _=>q⟩) λq a=> ?_⟩;let⟨s,c,o⟩:=q a;exact⟨s,c,Z,o⟩
 |.gX 0,⟨_,h2⟩=>
  have q:=h2 default default trivial;refine⟨q.1,λv=> ?_⟩;let⟨s,c,o,x⟩:=q.2 v;refine⟨s,c,?_⟩;by_cases z:0<=v/\v<fY
  .rw[if_pos z];exact λt=>o ⟨z.1,t⟩
  .rw[if_neg z];exact λt=>⟨60,B,B,t.1,x t⟩
 |.ld v (m+1),⟨h1,h0,h2⟩=>
  let⟨r,u⟩:=Zi (λg h=>h.1) h2;refine⟨r,h0,h1,u.imp (λq=>⟨ò _,h0,λw a _=>q⟩) λq a=> ?_⟩;let⟨s,c,o⟩:=q a;exact⟨s,c,Z,h0,o⟩
 |.ld v 0,⟨_,h0,h2⟩=>
  let⟨r,⟨m,c,o⟩,q,x,s⟩:=h2 default default trivial;exact⟨r,h0,⟨m,c,o⟩,q,x,40,Z,Z,λw=>Zh (λg t=>Zg H D E C F t)<|s w⟩
def Zj(H:ŕ P L)(o:60<=j)(a:mA Ψ l b)(hF:SW Ψ l b l.w)(p:l.d=0)(h:∀c,SW Ψ l b c->fi P yQ e {l with d:=0,w:=c} (G (f.at (y.put ((Q[i]?).bind (·.dst))<|Ĳ #[])<|Æ Q jJ::k) qX)): fi P yQ (rv P yQ j b e .jc) l (G ((base L.wait).at ⟨#[ì<|Ã ⟨b,0,Í⟩,Â,Â,Â,Â,Â,Â,Â,Â,Â,Â,Â,Â,Â,Â,Â,Â,Â,Â,Â,Â,Â,Â,Â,Â,Â,Â,Â,Â,Â,Â,Â,Â,Â,Â,Â,Â,Â,Â,Â,Â,Â,Â,Â,Â,Â,Â,Â,Â,Â,Â,Â,Â,Â,Â,Â,Â,Â,Â,Â,Â,Â,Â,Â,Â,Â,Â,Â,Â,Â,Â,Â,Â,Â,Â,Â,Â,Â,Â,Â,Â,Â,Â,Â],[]⟩ [ĵ<|ţ L])<|f.at y (Æ Q (i::jJ)::k)::qX):=by
 lib_facts;simp only[ţ,waitFn,ć];apply jP a hF (n:=40);iterate 3 w_go fN
 refine Î λc q=> ?_;replace hF:=fN hF q;refine wU a hF (À U) U (λ_=>Ę õ fp U U (by k_ne) U H.f_disable (Ņ L) (ņ L) (Ň L)<|ň L) λt hF=> ?_;walk_nrm;have r:Ð l.d #[j1 õ]=1:=by rw[p];rfl
 rw[r];refine oA a hF λm hF=>⟨40,Z,ai1 (l:={l with d:=1,w:=m}) H o a hF U h Z λw=>Zh (λg s=>Zg (l:={l with d:=1,w:=m}) H a hF U h s) ?_⟩;replace hF:True:=trivial;iterate 3 w_go fy
 exact Î λ_ _=>⟨_,U,fp,fp⟩
end
section
variable(P:Ğ)(e:Bool)(b:Nat)(J:Jd)
def rd1:Jd:=λl g=>l.d=1/\GH P e (.read<|gY b) J l g
def LU:Jd:=λl g=>l.d=1/\Pq P e (fQ b) fY (λs=>if s=fY then fi P e (rd1 P e b J)else if fY<s/\s<1000000*fY/\s%fY=0 then fi P e J else λ_ _=>True) l g
end
def ai2(F:Ph)(j:Nat)(a:Nat->Nat):PU F j a=LU F.P Ì F.C (Le F j a):=rfl
section
variable{Ψ:Ï->Prop}{P:Ğ}{L:ě}{e:Bool}{b:Nat}{l:fe}{f:Jd}{c:ô}{k:List Ő}
def Zk(H:ŕ P L)(h:mA Ψ l b)(hF:SW Ψ l b l.w)(D:l.d=0)(t:∀g,SW Ψ l b g->fi P e f {l with d:=0,w:=g} (G (c.at (y.put ((Q[i]?).bind (·.dst))<|Ĳ #[])<|Æ Q jJ::k) qX)): fi P e (LU P e b f) l (G ((base L.add).at ⟨#[ì<|Ã ⟨b,0,Í⟩,ë Ũ 1,Â,Â,Â,Â,Â,Â,Â,Â,Â,Â,Â,Â,Â,Â,Â,Â,Â,Â,Â,Â,Â,Â,Â,Â,Â,Â,Â,Â,Â,Â,Â,Â,Â,Â,Â,Â,Â,Â,Â,Â,Â,Â,Â,Â,Â,Â,Â,Â,Â,Â,Â,Â,Â,Â,Â,Â,Â,Â,Â,Â,Â,Â,Â,Â,Â,Â,Â,Â,Â,Â,Â,Â,Â,Â,Â,Â,Â,Â,Â,Â,Â,Â,Â,Â,Â,Â,Â,Â,Â,Â,Â,Â,Â,Â,Â,Â,Â,Â,Â,Â,Â,Â,Â,Â,Â,Â,Â,Â,Â,Â,Â,Â,Â,Â,Â],[]⟩ [ĵ<|body_add L])<|c.at y (Æ Q (i::jJ)::k)::qX):=by
 lib_facts;simp only[body_add,addFn,ć];apply jP h hF (n:=40);iterate 12 w_go fN
 refine Î λg a=> ?_;replace hF:=fN hF a;clear a;refine wU (l:={l with w:=g}) h hF (À U) U (λ_=>Ę õ fp U U (by k_ne) U H.f_disable (Ņ L) (ņ L) (Ň L)<|ň L) λj hF=> ?_;walk_nrm;have E:Ð l.d #[j1 õ]=1:=by rw[D];rfl
 rw[E];apply jP (l:={l with d:=1,w:=j}) h hF (n:=50);iterate 2 w_go fN
 u_defer fN hF
 iterate 8 w_go fN
 u_bub fN hF
 iterate 11 w_go fN
 u_call H.f_uAdd (nm_uAdd L) uAddFn fN hF
 iterate 10 w_go fN
 refine Î λg a=> ?_;replace hF:=fN hF a;clear a;refine oA (l:={l with d:=1,w:=g}) h hF λq hF=>⟨U,U,λv=>⟨_,λg F I=>(Ľ U U (by k_ne) U H.f_addU64 (Ž L) (ž L) (ſ L) Ó (Α L) U U F I).trans fL,?_⟩⟩;walk_nrm;have u:Ó.wrap (v+4294967296)=Ó.wrap (v+fY):=rfl;rw[u];clear u;obtain⟨s,x⟩:∃s,Ó.wrap (v+fY)=s:=⟨_,U⟩;simp only[x];clear x v;by_cases m:s=fY
 .rw[if_pos m];have o:s=4294967296:=m;clear m;subst o;apply jP (l:={l with d:=1,w:=q}) h hF (n:=150);iterate 3 w_go fN
  u_leave1 H.f_uAdd fN hF
  iterate 48 w_go fN
  u_conv H.underlying_tPU32 H.room_tU32 (nQ.C hF.2.1).choose_spec fN hF
  refine Î λg a=> ?_;replace hF:=fN hF a;clear a;refine oA (l:={l with d:=1,w:=g}) h hF λq hF=>⟨U,U,_,λ_=>Ē .read fp U U (by k_ne) U H.f_raceRead (x_raceRead_n L) (x_raceRead_b L) (x_raceRead_x L) (x_raceRead_f L) (by simp[þ,gY]),?_⟩;walk_nrm;apply jP (l:={l with d:=1,w:=q}) h hF (n:=150);iterate 39 w_go fN
  refine Î λg a=> ?_;replace hF:=fN hF a;clear a;refine wU (l:={l with d:=1,w:=g}) h hF (Á U) U (λw=>LL î fp U H.f_enable (Ĥ L) (ĥ L) (Ħ L) (ħ L) w) λj hF=> ?_;have r:Ð 1 #[j1 î]=0:=rfl;rw[r];apply jP (l:={l with d:=0,w:=j}) h hF (n:=10);u_leave0 H.f_add fN hF;refine Î λg a=> ?_;replace hF:=fN hF a;clear a;exact t _ hF
 .rw[if_neg m];by_cases o:fY<s/\s<1000000*fY/\s%fY=0
  .rw[if_pos o];let⟨z,B,c6⟩:=o;have M:(4294967296:Int)<s:=z;have C:s<1000000*4294967296:=B;have J:s%4294967296=0:=c6;clear m z B c6;have N:=EH s Z C Z;have K:=EI s Z C Z;rw[J]at K;obtain⟨p,O⟩:∃p,(s/4294967296+2147483648)%4294967296-2147483648=p:=⟨_,U⟩;have S:¬p<0:=Z
   have T:0<p:=Z
   have V:(p==1)=É:=by simp;omega
   apply jP (l:={l with d:=1,w:=q}) h hF (n:=150);iterate 3 w_go fN
   u_leave1 H.f_uAdd fN hF
   iterate 83 w_go fN
   refine Î λg a=> ?_;replace hF:=fN hF a;clear a;refine wU (l:={l with d:=1,w:=g}) h hF (Á U) U (λw=>LL î fp U H.f_enable (Ĥ L) (ĥ L) (Ħ L) (ħ L) w) λj hF=> ?_;have r:Ð 1 #[j1 î]=0:=rfl;rw[r];apply jP (l:={l with d:=0,w:=j}) h hF (n:=10);u_leave0 H.f_add fN hF;refine Î λg a=> ?_;replace hF:=fN hF a;clear a;exact t _ hF
  .rw[if_neg o];trivial
end
def BN:θ->Nat->θ
 |.seq a _,0=>a
 |.seq _ b,_=>b
 |Τ _ a _,0=>a
 |Τ _ _ b,_=>b
 |ε _ a,_=>a
 |.loop a,_=>a
 |c,_=>c
def mg(f:Func)(l:List Nat):θ:=l.foldl BN<|f.body.getD ο
def qd(f:ī)(a b:Array ã):Ů:={target:=.fn (.func f) a,args:=b}
def oB(P:Ğ):ô:={(default:ô)with fn:=P.funcs.size,defers:=[],mode:=.panicking [ō]}
section
variable{b:ô}{a:Ł}{cs:List ô}
def Zl{h:Array Ĵ}(c:Q[i]?=Ã o)(j:á o (Ĩ Q a.tmps)=Ì)(k:b.kind≠Đ) (e:o.op=.defer {callee:=.value qQ,args:=#[],argTypes:=h}) (g:a.eval qQ=.func (.func F) #[] d): è P yQ (G (b.at a<|Æ Q (i::jJ)::L) cs) w=Š (G (b.at (ő ⟨a.tmps,qd F d #[]::a.defers⟩ o.dst Â)<|Æ Q jJ::L) cs) w #[]:=by
 have l:(Þ a.eval o).run P w=.ok (.defer<|qd F d #[]) w:=by unfold Þ;simp[e,ĸ,Ĉ,g,qd]
 have m:(Þ a.eval o).events P w #[]=#[]:=by unfold Þ;simp[e,ĸ,Ĉ,g]
 have n:(b.at ⟨a.tmps,qd F d #[]::a.defers⟩<|Æ Q (i::jJ)::L).finish Â=b.at (ő ⟨a.tmps,qd F d #[]::a.defers⟩ o.dst Â) (Æ Q jJ::L):=by rw[ĩ,c];rfl
 have p:(b.kind==Đ)=É:=by simpa using k
 rw[Ζ c j,<-n];simp[stepG.apply,l,m,G,Frame.at,p,Ě,Ć]
def Zm{l:Array Ĵ}(m:Q[i]?=Ã o)(n:á o (Ĩ Q a.tmps)=Ì)(p:b.kind≠Đ) (h:o.op=Ŭ {callee:=.value qQ,args:=#[],argTypes:=l}) (j:a.eval qQ=.func (.func F) #[] d) (e:P.funcs[F]?=Ã s) (q:(s.name== "runtime.NumGoroutine")=É) (g:s.body=Ã wX): è P yQ (G (b.at a<|Æ Q (i::jJ)::L) cs) w=Š (G ((base F).at {tmps:=d++ê (s.ntmps-d.size) Â,defers:=[]} [ĵ wX])<|b.at a (Æ Q (i::jJ)::L)::cs) w #[]:=by
 have k:¬s.name= "runtime.NumGoroutine":=by simpa using q
 have r:(Þ a.eval o).run P w=.ok (.enter F d) w:=by unfold Þ;simp[h,ĸ,Ĉ,j,Ŝ,ŝ,e,k,g]
 have t:(Þ a.eval o).events P w #[]=#[]:=by unfold Þ;simp[h,ĸ,Ĉ,j,Ŝ,ŝ,e,k,g]
 rw[ŵ m n p r,<-enter_at d e g];unfold listed;rw[t,Ć]
def ai3{g:Array Ĵ}(d:Q[i]?=Ã o)(h:á o (Ĩ Q a.tmps)=Ì)(j:b.kind=ľ)(k:b.roundOf=Í)(l:f.mode=ù) (e:o.op=Ŭ {callee:=.builtin .recover,args:=#[],argTypes:=g}) (q:o.type=t): è P yQ (G (b.at a<|Æ Q (i::jJ)::L)<|f::cs) w=Š (G (b.at (a.put o.dst ā)<|Æ Q jJ::L)<|f::cs) w #[]:=by
 have m:(Þ a.eval o).run P w=.ok .recover w:=by unfold Þ;simp[e,ĸ,Ŝ,builtin]
 have n:(Þ a.eval o).events P w #[]=#[]:=by unfold Þ;simp[e,ĸ,Ŝ,builtin]
 have p:(b.at a<|Æ Q (i::jJ)::L).finish ā=b.at (a.put o.dst ā) (Æ Q jJ::L):=by rw[ĩ,d];rfl
 rw[Ζ d h,<-p];simp[stepG.apply,m,n,G,Frame.at,j,Ě,Ć,k,tryRecover,l]
def ai4{e:List Ů}(i:a.defers=qd F d #[]::e)(g:P.funcs[F]?=Ã s)(j:(s.name== "runtime.NumGoroutine")=É)(h:s.body=Ã wX): è P yQ (G {b.at a L with mode:=ù} cs) w= Š (G ((baseD F).at {tmps:=d++ê (s.ntmps-d.size) Â,defers:=[]} [ĵ wX])<|{b.at ⟨a.tmps,e⟩ L with mode:=ù}::cs) w #[]:=by
 have k:¬s.name= "runtime.NumGoroutine":=by simpa using j
 rw[<-enter_atD d g h];simp[G,è,Η,Ū,Frame.at,i,qd,Ŝ,ŝ,g,k,h,Ě,Ć]
def Zn(a:P.funcs[F]?=Ã s)(e:(s.name== "runtime.NumGoroutine")=É)(b:s.body=Ã wX): è P yQ (born P<|qd F d #[]) w=Š (G ((baseD F).at {tmps:=d++ê (s.ntmps-d.size) Â,defers:=[]} [ĵ wX]) [oB P]) w #[]:=by
 have g:¬s.name= "runtime.NumGoroutine":=by simpa using e
 rw[<-enter_atD d a b];simp[G,è,Η,Ū,born,oB,qd,Ŝ,ŝ,a,g,b,Ě,Ć]
def ai5(d:b.kind=ľ)(e:a.defers=[])(f:P.funcs[b.fn]?=Ã s)(c:s.results=#[]): è P yQ (G {b.at a L with mode:=ù} [oB P]) w=Š (G (oB P) []) w:=by have g:=results_none c a.tmps P w;have h:=events_results_none (P:=P) (w:=w) c a.tmps #[];simp[G,è,Η,doReturn,Frame.at,d,e,f,g,h,oB,ō,seen,Ě]
def ai6(w:Ï):è P É (G (oB P) []) w=Š {frame:=oB P,callers:=[],status:=å,dying:=Í} w:=by simp[G,è,Η,oB,ō,Frame.catches];rfl
def ai7:sG P 0 (G (oB P) []):=⟨1,.ctl U ai6 ⟨U,U⟩⟩
def ai8(c:b.kind=ľ)(d:a.defers=[])(e:P.funcs[b.fn]?=Ã s)(f:s.results=#[]):sG P 0 (G {b.at a L with mode:=ù} [oB P]):= LQ U (λ_=>ai5 c d e f) ai7
def ai9(e:b.kind=ľ)(g:a.defers=[])(h:P.funcs[b.fn]?=Ã s)(j:s.results=#[])(k:f.mode=ù)(l:sG P i (G f cs)):sG P i (G {b.at a L with mode:=ù}<|f::cs):= let⟨n,q⟩:=l;⟨n+1,.leaveD e g h j k q⟩
end
def aja(d:Nat)(t:Ĵ)(w:Ï)(a:Array đ)(h:P.underlying t=Ã (.interface<|P.methodsAt t)):(Θ (d+1) t ā ā).events P w a=a:=by simp[Θ,run_underlying h,go_sem]
def ajb(t:Ĵ)(w:Ï)(a:Array đ)(h:P.underlying t=Ã (.interface<|P.methodsAt t)):(Op.equal t ā ā).events P w a=a:=aja 9999 t w a h
def ajc(t:Ĵ)(w:Ï)(a:Array đ)(h:P.underlying t=Ã (.interface<|P.methodsAt t)):(binOp .neq t ā ā).events P w a=a:=by simp only[binOp];simp[ajb t w a h]
section
variable{J:Jd}{l:fe}{b:ô}{a:Ł}{cs:List ô}
def kn(l:fe):Prop:=∀j,l.O j->j<l.w.heap.size
def fR(a:kn l)(b:ı P yQ RT à (λc _=>fi P yQ J l c) n g l.w):fi P yQ J l g:= Qy b (λ_ _ _=>trivial) a λ_ _ r h=>h.kj r
def tY(k:Q[i]?=Ã o)(m:á o (Ĩ Q a.tmps)=Ì)(n:b.kind≠Đ) (h:∀c,fI l l.w c->uponK o a (λq e=>∃d,mH l d c e (listed P b.fn a o c)/\fi P yQ J d (G (b.at q<|Æ Q jJ::L) cs)) ((Þ a.eval o).run P c)): fi P yQ J l (G (b.at a<|Æ Q (i::jJ)::L) cs):=by
 refine .mk U λc r=> ?_;have f:=h c r;revert f;generalize p:(Þ a.eval o).run P c=res;intro f;match res,f with
 |.ok (.value v) e,⟨d,g,j⟩=>exact⟨_,e,_,d,ń k m n p,g,j⟩
 |.ok .skip e,⟨d,g,j⟩=>exact⟨_,e,_,d,ŗ k m n p,g,j⟩
def tZ(l:fe)(e:đ):Prop:=wK l e/\e.loc≠ŭ õ/\e.loc≠ŭ î
def LV(h:∀e∈V,tZ l e)(d:Nat):Ð d V=d:=ĺ (λe a=>⟨(h e a).2.1,(h e a).2.2⟩) d
def ajd(b:∀j,l.O j->j<w.heap.size)(c:¬l.q)(a:∀e∈V,tZ l e):mH l {l with w:=w} w w V:= ⟨Ç _,λ_ h=>À h,b,U,U,U,U,λ_ _ _ _=>rfl,λ_ _ _ _=>rfl,λ_ _ _=>rfl,U,U,U,λe h=>(a e h).1,(LV a _).symm,U,λq=>absurd q c,U⟩
def oC(d:Q[i]?=Ã o)(f:á o (Ĩ Q a.tmps)=Ì)(g:b.kind≠Đ)(j:kn l)(k:¬l.q) (m:∀c,fI l l.w c->(Þ a.eval o).run P c=.ok (.value v) c) (n:∀c,fI l l.w c->∀e∈(Þ a.eval o).events P c #[],tZ l e) (p:fi P yQ J l (G (b.at (a.put o.dst v)<|Æ Q jJ::L) cs)):fi P yQ J l (G (b.at a<|Æ Q (i::jJ)::L) cs):=by refine tY d f g λc r=> ?_;rw[m c r];exact⟨_,ajd (lQ j r) k λe h=>n c r e<|Ι h,p.kj r⟩
def gQ(l:fe)(x:Č):Prop:=l.M x.block\/l.C x
def gQ.r{x:Č}(h:gQ l x){w₁:Ï}(r:fI l l.w w₁):w₁.cell? x=l.w.cell? x:=h.elim (λq=>gK<|r.I _ q)<|r.N x
def gQ.rd{x:Č}(h:gQ l x):tZ l ⟨ú x,É,É⟩:=by
 refine⟨À ⟨x,U,?_⟩,fp,fp⟩;rcases h with(q|q)|(q|q)
 .exact À q
 .exact Á<|Á ⟨À q,U,U⟩
 .exact Á<|À q
 .exact Á<|Á ⟨Á q,U,U⟩
def kA{x:Č}(f:Q[i]?=Ã o)(g:á o (Ĩ Q a.tmps)=Ì)(j:b.kind≠Đ)(k:kn l)(m:¬l.q)(c:gQ l x)(d:l.w.cell? x=Ã v) (n:∀w,w.cell? x=Ã v->(Þ a.eval o).run P w=.ok (.value v) w) (p:∀w,w.cell? x=Ã v->(Þ a.eval o).events P w #[]=#[⟨ú x,É,É⟩]) (s:fi P yQ J l (G (b.at (a.put o.dst v)<|Æ Q jJ::L) cs)):fi P yQ J l (G (b.at a<|Æ Q (i::jJ)::L) cs):= oC f g j k m (λw r=>n w<|(c.r r).trans d) (λw r e h=>by
  rw[p w<|(c.r r).trans d]at h;have:e=⟨ú x,É,É⟩:=by simpa using h
  subst this;exact c.rd) s
def pD(l:fe)(x:Č):Prop:=l.O x.block\/l.r x
def pD.C(h:pD l p):gQ l p:=h.elim (λq=>À<|À q) λq=>Á<|À q
def pD.r{x:Č}(h:pD l x):tZ l ⟨ú x,Ì,É⟩:=⟨À ⟨x,U,h.elim À λq=>Á<|À q⟩,fp,fp⟩
end
end Go.Proofs.Y.fA
namespace Go.Proofs.Y.fA
open Go Go.Conc Go.Proofs.Y.Lift
section
variable{J:Jd}{l:fe}{b:ô}{k:List Ő}{cs:List ô}{ops:Array ĭ}
def R2(a:∀j,l.O j->j<w.heap.size)(b:¬l.q):mH l {l with w:={w with drawn:=w.drawn+1}} w {w with drawn:=w.drawn+1} #[]:= ⟨Ç _,λ_ h=>À h,a,U,U,U,U,λ_ _ _ _=>rfl,λ_ _ _ _=>rfl,λ_ _ _=>rfl,U,U,U,λe c=>by simp at c,by simp[Ð],U,λq=>absurd q b,U⟩
def jz(listed:Array Bool):Nat:=listed.countP λx=> !x
theorem LW{listed:Array Bool}(h:listed.getD i Ì=É):jz (listed.setIfInBounds i Ì)+1=jz listed:=by
 have a:i<listed.size:=by grind
 have b:listed[i]=É:=by simpa[a]using h
 unfold jz;grind [Array.countP_pos_iff,Array.getElem_mem]
def R3{md:Ý}{listed:Array Bool}(c:listed.size=ops.size)(h:jz listed=0):Ò md ops listed=[]:=by rw[List.eq_nil_iff_forall_not_mem];intro j a;let⟨b,o,d,_⟩:=ĉ.1 a;have:=LW b;omega
def Zo{md:Ý}(I:Array Bool->Ł->fe->Prop) (q:∀c a l i m,I c a l->i∈Ò md ops c->fi P yQ (λh n=>∃f,n=G (b.at f<|Æ ops m::k) cs/\I (c.setIfInBounds i Ì) f h) l (G (b.at a<|Æ ops (i::m)::k) cs)) (o:∀c a l,I c a l->c.size=ops.size->Ò md ops c=[]->fi P yQ J l (G (b.at a<|Æ ops []::k) cs)): ∀(d t:Nat) (c:Array Bool) (a:Ł) (l:fe),c.size=ops.size->jz c<=d->I c a l->fi P yQ J l (G (b.at a<|Æ ops (û md ops d t c [])::k) cs):=by
 intro d
 induction d with
 |zero=>
  intro t c a l e r g;simpa[û]using o c a l g e<|R3 e Z
 |succ d s=>
  intro t c a l e r g;simp only[û];change fi P yQ J l (G (b.at a (Æ ops (match(Ò md ops c)[t%(Ò md ops c).length]? with
   |some i=>û md ops d (t/(Ò md ops c).length) (c.setIfInBounds i Ì) [i]
   |none=>[].reverse)::k)) cs)
  cases j:(Ò md ops c)[t%(Ò md ops c).length]? with
  |none=>
   have u:Ò md ops c=[]:=by
    cases v:Ò md ops c with
    |nil=>rfl
    |cons x p=>
     rw[v]at j;have w:t%(x::p).length<(x::p).length:=ż _ fp;simp at j;simp at w;omega
   simpa using o c a l g e u
  |some i=>
   simp only[];rw[linearise_go_acc,List.reverse_singleton,List.singleton_append];have p:=List.mem_of_getElem? j;refine(q c a l i _ g p).ma ?_;rintro h n ⟨f,rfl,u⟩;exact s _ _ f h (by simpa using e) (by have:=LW (ĉ.1 p).1;omega) u
theorem EK(n:Nat):jz (ê n É)=n:=by unfold jz;grind [Array.countP_replicate]
def LX{id:Nat}(I:Array Bool->Ł->fe->Prop)(n:kn l)(o:¬l.q) (f:∀d,fI l l.w d->I (ê ops.size É) y {l with w:={d with drawn:=d.drawn+1}}) (g:∀e c y l i h,I c y l->i∈Ò e ops c->fi P yQ (λp s=>∃j,s=G (b.at j<|Æ ops h::k) cs/\I (c.setIfInBounds i Ì) j p) l (G (b.at y<|Æ ops (i::h)::k) cs)) (m:∀e c y l,I c y l->c.size=ops.size->Ò e ops c=[]->fi P yQ J l (G (b.at y<|Æ ops []::k) cs)): fi P yQ J l (G (b.at y<|ĵ (Ģ id ops Ì)::k) cs):=by
 refine .mk U λd r=>⟨_,_,_,_,stepG_region_draw,R2 (lQ n r) o,?_⟩;unfold Region.schedule;split
 .exact Zo I (g _) (m _) _ _ _ _ _ fp (by rw[EK];exact Ç _)<|f d r
 .exact Zo I (g _) (m _) _ _ _ _ _ fp (by rw[EK];exact Ç _)<|f d r
end
def vx(e:Edge):Bool:=match e.ground with|.textOnly _=>É|.gcOnly _=>É|_=>Ì
theorem Zp{md:Ý}{e:Edge}(h:vx e=Ì):ū md e=Ì:=by unfold vx at h;unfold ū;grind
structure lR(ops:Array ĭ)(t0:Array ã)(val:Nat->ã)(listed:Array Bool)(a:Ł):Prop where
 M:a.defers=[]
 b:a.tmps.size=t0.size
 c:∀d,(∀j o,ops[j]?=Ã o->listed.getD j É=Ì->o.dst≠Ã d)->a.tmps[d]?=t0[d]?
 r:∀j o d,ops[j]?=Ã o->listed.getD j É=Ì->o.dst=Ã d->a.tmps[d]?=Ã (val j)
 S:∀j o e,ops[j]?=Ã o->listed.getD j É=Ì->e∈o.after->vx e=Ì->listed.getD e.on É=Ì
def rA(a:Array ĭ)(n:Nat):Bool:=(Κ a.size).all λi=>match(a.getD i default).dst with
 |none=>Ì
 |some d=>decide (d<n)&&(Κ a.size).all λj=>i==j||(a.getD j default).dst !=Ã d
section
variable{ops:Array ĭ}{t0:Array ã}{val:Nat->ã}{listed:Array Bool}{a:Ł}
def Zq(h:rA ops t0.size=Ì)(a:ops[i]?=Ã o)(b:o.dst=Ã n):n<t0.size:=by have:=(ġ.1 h) i<|ş.2<|(Ö.1 a).1;simp_all
theorem aje(h:rA ops t0.size=Ì){a:ĭ}(b:ops[i]?=Ã o)(e:ops[j]?=Ã a)(f:j≠i)(c:o.dst=Ã n):a.dst≠Ã n:=by have:=(ġ.1 h) i<|ş.2<|(Ö.1 b).1;simp[b,c]at this;grind
def lR.C(h:lR ops t0 val listed a){d:Nat}(b:ops.toList.all (λo=>o.dst !=Ã d)=Ì):a.tmps[d]?=t0[d]?:= h.c d λj o c _ e=>by have:=ġ.1 b o<|Ī.2<|Array.mem_of_getElem? c;simp[e]at this
def R4(h:(listed.setIfInBounds i Ì).getD j É=Ì):j=i\/listed.getD j É=Ì:=by by_cases e:i=j;all_goals simp_all
theorem lR.fO(h:lR ops t0 val listed a)(u:rA ops t0.size=Ì){md:Ý}(l:ops[i]?=Ã o)(p:i∈Ò md ops listed)(w:o.dst≠Í->v=val i):lR ops t0 val (listed.setIfInBounds i Ì) (a.put o.dst v):=by
 have y:=(ĉ.1 p).1;have r:∀j c e,ops[j]?=Ã c->(listed.setIfInBounds i Ì).getD j É=Ì->e∈c.after->vx e=Ì->(listed.setIfInBounds i Ì).getD e.on É=Ì:=λj c e b f s t=>by
  rcases R4 f with rfl|q
  .let⟨_,n,d,g⟩:=ĉ.1 p;rw[b]at d;obtain rfl:=È d;exact ĝ<|g e s<|Zp t
  .exact ĝ<|h.S j c e b q s t
 have x:(listed.setIfInBounds i Ì).getD i É=Ì:=by
  have n:i<listed.size:=by grind
  simp[n]
 cases k:o.dst with
 |none=>
  refine⟨h.M,h.b,λd m=>h.c d λj c b f=>m j c b<|ĝ f,λj c d b f g=> ?_,r⟩;rcases R4 f with rfl|q
  .rw[l]at b;obtain rfl:=È b;rw[k]at g;cases g
  .exact h.r j c d b q g
 |some e=>
  refine⟨h.M,by simp[ő,h.b],λd m=> ?_,λj c d b f g=> ?_,r⟩
  .simp only[ő];rw[í (λq=>m i o l x<|by rw[k,q])];exact h.c d λj c b f=>m j c b<|ĝ f
  .simp only[ő];rcases R4 f with rfl|q
   .rw[l]at b;obtain rfl:=È b;rw[k]at g;obtain rfl:=È g;have n:e<a.tmps.size:=by rw[h.b];exact Zq u l k
    simp[n,(w<|by rw[k];simp)]
   .have n:e≠d:=by
     grind [aje]
    rw[í n];exact h.r j c d b q g
def lR.G(h:lR ops t0 val listed a){b:Nat->ã}(e:∀j,listed.getD j É=Ì->b j=val j):lR ops t0 b listed a:= ⟨h.M,h.b,h.c,λj o d f c g=>(by rw[e j c];exact h.r j o d f c g),h.S⟩
theorem il{md:Ý}(h:i∈Ò md ops listed)(b:ops[i]?=Ã o)(c:o.after.toList.any (λe=>e.on==j&&vx e)=Ì):listed.getD j É=Ì:=by let⟨_,f,a,g⟩:=ĉ.1 h;rw[b]at a;obtain rfl:=È a;let⟨e,k,d⟩:=Ŀ.1 c;simp only[ŀ,beq_iff_eq]at d;grind [Zp]
def lR.I(h:lR ops t0 val listed a)(c:ops[i]?=Ã o)(d:listed.getD i É=Ì)(f:o.after.toList.any (λe=>e.on==j&&vx e)=Ì):listed.getD j É=Ì:=by let⟨e,g,b⟩:=Ŀ.1 f;simp only[ŀ,beq_iff_eq]at b;rw[<-b.1];exact h.S i o e c d (Ī.1 g) b.2
theorem yB(h:listed.getD i Ì=É):¬listed.getD i É=Ì:=by grind
def LY(md:Ý)(ops:Array ĭ):List Nat->List Nat->Bool
 |[],_=>Ì
 |i::r,seen=>(match ops[i]? with|some o=>o.after.toList.all (λe=> !Region.binds md e||seen.contains e.on)|none=>É)&&LY md ops r (i::seen)
theorem qe{md:Ý}(h:Ò md ops listed=[])(l:listed.size=ops.size):∀(b a:List Nat),LY md ops b a=Ì->(∀i∈a,listed.getD i É=Ì)->∀i∈b,listed.getD i É=Ì:=by
 intro b
 induction b with
 |nil=>intro a _ _ i c;cases c
 |cons j r m=>
  intro a n p i c;let⟨d,s⟩:=Bool.and_eq_true_iff.1 (show(_&&_)=Ì from n);have f:listed.getD j É=Ì:=by
   split at d
   .rename_i o g;have v:j<listed.size:=by rw[l];exact(Ö.1 g).1
    by_cases t:listed.getD j Ì=É
    .have:j∈Ò md ops listed:=ĉ.2 ⟨t,o,g,λe w x=>by
      grind⟩
     grind
    .grind
   .cases d
  rcases Ţ.1 c with rfl|q
  .exact f
  .exact m (j::a) s (λk u=>(Ţ.1 u).elim (λe=>e▸f)<|p k) i q
def lR.Y(t:Array ã)(val:Nat->ã)(n:Nat):lR ops t val (ê n É) ⟨t,[]⟩:=by
 have a:∀j,¬(ê n É).getD j É=Ì:=λj q=>by rcases ģ j n with z|z;all_goals simp_all
 exact⟨U,U,λ_ _=>rfl,λj _ _ _ z=>absurd z<|a j,λj _ _ _ z=>absurd z<|a j⟩
theorem At{md:Ý}(h:i∈Ò md ops listed):i<ops.size:=by let⟨_,o,a,_⟩:=ĉ.1 h;grind
def R5{md:Ý}(h:i∈Ò md ops listed):listed.getD i Ì=É:=(ĉ.1 h).1
end
theorem ajf(h:a.spot.isSome=Ì):w.cell? a=Í:=by unfold World.cell?;grind
theorem Ci{x y:Č}(b:x.spot=Í)(h:y≠x):(w.setCell x v).cell? y=w.cell? y:=by
 by_cases c:y.spot.isSome=Ì
 .grind [ajf]
 .apply z8;let⟨d,e,f⟩:=x;let⟨g,i,a⟩:=y;simp only at b c|-;have:a=Í:=by cases a<;>simp_all
  grind
section
variable{J:Jd}{l:fe}{b:ô}{a:Ł}{k:List Ő}{cs:List ô}{ops:Array ĭ}
theorem Zr(b:p.spot=Í)(d:(w.cell? p).isSome=Ì)(f:(u.cell? p).isSome=Ì)(r:fI l w u):fI l (w.setCell p v) (u.setCell p v):=by
 refine⟨by rw[kg,kg];exact r.r,λj c=> ?_,λy a=> ?_,λy a=> ?_,λy a h=> ?_⟩
 .by_cases e:j=p.block
  .subst e;unfold World.setCell;simp only[Array.getElem?_modify];rw[r.I _ c]
  .rw[lF e,lF e];exact r.I j c
 .by_cases e:y=p
  .grind [ü,BI]
  .rw[Ci b e,Ci b e];exact r.N y a
 .rw[tS,tS];exact r.Y y a
 .by_cases e:y=p
  .grind [Aa]
  .rw[Ci b e]at h|-;exact r.S y a h
def Zs(f:p.spot=Í)(g:∀j,l.O j->j<w.heap.size)(i:¬l.q)(c:pD l p)(d:∀e∈V,tZ l e):mH l {l with w:=w.setCell p v} w (w.setCell p v) V:=by
 refine⟨by rw[kg];exact Ç _,λ_ h=>À h,λj k=>by rw[kg];exact g j k,U,U,U,U,λj _ a b=>lF λe=>c.elim (λq=>a<|e▸q) λq=>b p e.symm q,λy _ a b=>Ci f λe=> ?_,λ_ _ _=>PH,U,U,U,λe h=>(d e h).1,(LV d _).symm,U,λq=>absurd q i,U⟩
 .subst e;exact c.elim a b
def ajg(n:ops[i]?=Ã o)(s:á o (Ĩ ops a.tmps)=Ì)(t:b.kind≠Đ)(u:kn l)(y:¬l.q)(g:p.spot=Í)(c:pD l p)(j:(l.w.cell? p).isSome=Ì)(z:o.dst=Í)(B:l.w.frozen? p=É) (C:∀w,(w.cell? p).isSome=Ì->w.frozen? p=É->(Þ a.eval o).run P w=.ok .skip (w.setCell p v)) (D:∀w,(w.cell? p).isSome=Ì->w.frozen? p=É->(Þ a.eval o).events P w #[]=#[⟨ú p,Ì,É⟩]) (E:fi P yQ J {l with w:=l.w.setCell p v} (G (b.at a<|Æ ops jJ::k) cs)):fi P yQ J l (G (b.at a<|Æ ops (i::jJ)::k) cs):=by
 refine tY n s t λd r=> ?_;have f:(d.cell? p).isSome=Ì:=by rwa[c.C.r r]
 have m:d.frozen? p=É:=by rw[<-B];exact c.C.elim (λq=>uX<|r.I _ q)<|r.Y p
 rw[C d f m];refine⟨_,Zs g (lQ u r) y c λe h=> ?_,?_⟩
 .have:=Ι h;rw[D d f m]at this;have:e=⟨ú p,Ì,É⟩:=by simpa using this
  subst this;exact c.r
 .have:(a.put o.dst Â)=a:=by rw[z];rfl
  rw[this];exact E.kj<|Aq<|Zr g j f r
end
def mB(l:fe):fe:={l with O:=λ_=>False,I:=l.M,r:=λ_=>False,N:=l.C}
def nR(l x:fe):fe:={x with O:=λb=>x.O b\/l.O b,I:=l.I,r:=l.r,N:=l.N}
structure iA(l l':fe):Prop where
 O:∀j,l.O j->l'.O j
 a:∀j,l'.O j->l.O j\/l.w.heap.size<=j
 N:l'.I=l.I
 S:l'.r=l.r
 Y:l'.N=l.N
 K:l'.K=l.K
 q:l'.q=l.q
 r:fI l l.w l'.w
 fv:kn l'
theorem iA.fV{l:fe}(h:kn l):iA l l:=⟨λ_ h=>h,λ_ h=>À h,U,U,U,U,U,fI.fV _ _,h⟩
def iA.C{l a:fe}(h:iA l a):a.C=l.C:=by unfold fe.C;rw[h.S,h.Y]
def iA.M{l a:fe}(h:iA l a)(c:l.M b):a.M b:=c.imp (h.O b)<|by rw[h.N];exact id
def iA.G{l d:fe}(h:iA l d)(r:fI d w u):fI l w u:=⟨r.r,λj e=>r.I j<|h.M e,λx b=>r.N x (by rwa[h.C]),λx b=>r.Y x (by rwa[h.C]),λx b=>r.S x<|by rwa[h.K]⟩
def iA.fj{a b c:fe}(h:iA a b)(k:iA b c):iA a c:= ⟨λj d=>k.O j<|h.O j d,λj d=>(k.a j d).elim (h.a j) λq=>Á<|Ô h.r.r q,k.N.trans h.N,k.S.trans h.S,k.Y.trans h.Y,k.K.trans h.K,k.q.trans h.q,h.r.fj<|h.G k.r,k.fv⟩
def iA.I{l a:fe}(h:iA l a){w₁:Ï}(r:fI a a.w w₁):iA l {a with w:=w₁}:= ⟨h.O,h.a,h.N,h.S,h.Y,h.K,h.q,h.r.fj<|h.G r,lQ h.fv r⟩
def gq.kj{l:fe}(s:gq l){w₁:Ï}(h:l.w.heap.size<=w₁.heap.size):gq {l with w:=w₁}:= ⟨s.c,s.Y,s.S,λb d=>Ê (s.fv b d) h,λa c=>Ê (s.I a c) h,λa c=>let⟨e,f,g⟩:=s.N a c;⟨e,Ê f h,g⟩⟩
def gq.r{l:fe}(s:gq l):kn l:=λj a=>s.fv j<|À a
section
variable{J:Jd}
theorem ajh{l x:fe}(d:x.I=l.M)(g:x.r=λ_=>False)(f:x.N=l.C){e:đ}(h:wK x e):wK (nR l x) e:=by
 rcases h with⟨a,b,c⟩|h|h|h|h|⟨a,b,c⟩
 .refine À ⟨a,b,?_⟩;rcases c with q|q|⟨q|q,z⟩
  .exact À<|À q
  .grind
  .rw[d]at q;rcases q with q|q
   .exact À<|Á q
   .exact Á<|Á ⟨À q,z⟩
  .rw[f]at q;rcases q with q|q
   .exact Á<|À q
   .exact Á<|Á ⟨Á q,z⟩
 .exact Á<|À h
 .exact Á<|Á<|À h
 .exact Á<|Á<|Á<|À h
 .exact Á<|Á<|Á<|Á<|À h
 .exact Á<|Á<|Á<|Á<|Á ⟨a,À b,c⟩
def Zt{l x:fe}(a:x.I=l.M):(nR l x).M=x.M:=by
 funext b;refine propext ⟨λh=> ?_,λh=> ?_⟩
 .rcases h with(q|q)|q
  .exact À q
  .exact Á<|by rw[a];exact À q
  .exact Á<|by rw[a];exact Á q
 .rcases h with q|q
  .exact À<|À q
  .rw[a]at q;exact q.elim (λz=>À<|Á z) Á
theorem LZ{l x:fe}(c:x.r=λ_=>False)(b:x.N=l.C):(nR l x).C=x.C:=by
 funext a;refine propext ⟨λh=>Á (by rwa[b]),λh=> ?_⟩;rcases h with q|q
 .grind
 .rwa[b]at q
def fi.aji{l:fe}(s:gq l){x:fe}(h:fi P yQ J x g):x.I=l.M->x.r=(λ_=>False)->x.N=l.C->x.K=l.K->x.q=l.q->fI l l.w x.w->(∀j,x.O j->l.w.heap.size<=j)->kn x-> fi P yQ (λb c=>∃a,J a c/\b=nR l a/\iA l b/\a.I=l.M/\a.N=l.C/\a.r=λ_=>False) (nR l x) g:=by
 induction h with
 |@fD x g h=>
  intro m f d o B p v E;refine .fD λc r=>⟨{x with w:=c},(h c ⟨r.r,λj b=>r.I j (by rwa[Zt m]),λy a=>r.N y (by rwa[LZ f d]),λy a=>r.Y y (by rwa[LZ f d]),r.S⟩),U,?_,m,d,f⟩
  .refine⟨λj b=>Á b,λj b=>b.elim (λq=>Á<|v j q) À,U,U,U,o,B,p.fj ⟨r.r,λj b=>r.I j (b.elim (λq=>À<|Á q) Á),λy a=>r.N y a,λy a=>r.Y y a,λy a=>r.S y ?_⟩,λj b=> ?_⟩
   .show x.K y;rwa[o]
   .refine Ê ?_ r.r;rcases b with q|q
    .exact E j q
    .exact Ê (s.fv j<|À q) p.r
 |@jL x g G' W' E' L' iJ h hd _ ih=>
  intro m f d o B p v E;refine .mk iJ λc r=> ?_;have i:fI x x.w c:=⟨r.r,λj b=>r.I j (by rwa[Zt m]),λy a=>r.N y (by rwa[LZ f d]),λy a=>r.Y y (by rwa[LZ f d]),r.S⟩;have D:=hd c i;have n:=Ô p.r i.r;have z:∀j,j<l.w.heap.size->¬x.O j:=λj b q=>by have:=v j q;omega
  have t:∀y:Č,¬x.r y:=λy q=>by rwa[f]at q
  have hrel:fI l c (W' c):=⟨D.C,λj b=>D.ki j (Ê (s.fv j b) n) (z j<|s.fv j b) λy _=>t y,λy a=>D.S y (Ê (s.I y a) n) (z _<|s.I y a)<|t y,λy a=>K0<|D.Y y (Ê (s.I y a) n)<|z _<|s.I y a,λy a q=>by rwa[D.S y (Ê (s.N y a).2.1 n) (z _ (s.N y a).2.1)<|t y]⟩;refine⟨G' c,W' c,E' c,nR l<|L' c,h c i,?_,(ih c i (D.rd.trans m) (D.r.trans f) (D.I.trans d) (D.k.trans o) (D.q.trans B) (by rw[D.N];exact(p.fj ⟨i.r,λj b=>i.I j (Á<|by rwa[m]),λy a=>i.N y (Á<|by rwa[d]),λy a=>i.Y y (Á<|by rwa[d]),λy a=>i.S y<|by rwa[o]⟩).fj hrel) (λj b=>(D.M j b).elim (v j) λq=>Ô n q) λj b=>by rw[D.N];exact D.fv j b)⟩
  .refine⟨D.C,λj b=> ?_,λj b=> ?_,U,U,U,D.k,λj b u F=>D.ki j b (λq=>u<|À q) λy _=>t y,λy a u F=>D.S y a (λq=>u<|À q)<|t y,λy a u=>D.Y y a λq=>u<|À q,D.c,D.f,D.i,λe G=>ajh (D.rd.trans m) (D.r.trans f) (D.I.trans d)<|D.b e G,D.g,D.q,λH=> ?_,D.N⟩
   .rcases b with q|q
    .exact(D.M j q).imp À id
    .exact À<|Á q
   .rcases b with q|q
    .exact D.fv j q
    .exact Ê (s.fv j<|À q)<|Ô n D.C
   .let⟨I,L,N⟩:=D.h H;exact⟨I,L,by funext j;show((L' c).O j\/l.O j)=(x.O j\/l.O j);rw[N]⟩
theorem fi.mB{l:fe}(s:gq l)(h:fi P yQ J (fA.mB l) g):fi P yQ (λe j=>∃b,J b j/\e=nR l b/\iA l e/\b.I=l.M/\b.N=l.C/\b.r=λ_=>False) l g:=by
 have:=h.aji s U U U U U (fI.fV _ _) (λj q=>q.elim) λj q=>q.elim;have e:nR l (fA.mB l)=l:=by
  have:(λb=>False\/l.O b)=l.O:=by funext b;simp
  unfold nR fA.mB;simp only[this]
 grind
end
structure iI(E:Č->Prop)(l l':fe):Prop where
 O:∀j,l.O j->l'.O j
 h:∀j,l'.O j->l.O j\/l.w.heap.size<=j
 Y:l'.I=l.I
 I:l'.r=l.r
 c:l'.N=l.N
 K:l'.K=l.K
 q:l'.q=l.q
 d:l'.d=l.d
 fv:kn l'
 f:l.w.heap.size<=l'.w.heap.size
 r:∀j,l.M j->l'.w.heap[j]?=l.w.heap[j]?
 e:∀a,l.C a->¬E a->l'.w.cell? a=l.w.cell? a
 S:∀a,l.C a->l'.w.frozen? a=l.w.frozen? a
 b:∀a,l.K a->(l.w.cell? a).isSome=Ì->(l'.w.cell? a).isSome=Ì
 g:∀a,E a->(l.w.cell? a).isSome=Ì->(l'.w.cell? a).isSome=Ì
section
variable{E:Č->Prop}{l l' l'':fe}
theorem iI.fV(h:kn l):iI E l l:=⟨λ_ h=>h,λ_ h=>À h,U,U,U,U,U,U,h,Ç _,λ_ _=>rfl,λ_ _ _=>rfl,λ_ _=>rfl,λ_ _ h=>h,λ_ _ h=>h⟩
def iI.C(h:iI E l l'):l'.C=l.C:=by unfold fe.C;rw[h.I,h.c]
def iI.M(h:iI E l l')(a:l.M b):l'.M b:=a.imp (h.O b)<|by rw[h.Y];exact id
def iI.R6(h:iI E l l')(f:∀a,E a->l.r a)(k:iA l' l'')(g:l''.d=l'.d):iI E l l'':=by have e:=h.C;refine⟨λj c=>k.O j<|h.O j c,λj c=>(k.a j c).elim (h.h j) λq=>Á<|Ô h.f q,k.N.trans h.Y,k.S.trans h.I,k.Y.trans h.c,k.K.trans h.K,k.q.trans h.q,g.trans h.d,k.fv,Ô h.f k.r.r,λj c=>(k.r.I j<|h.M c).trans<|h.r j c,λa b i=>(k.r.N a<|by rwa[e]).trans<|h.e a b i,λa b=>(k.r.Y a<|by rwa[e]).trans<|h.S a b,λa b q=>k.r.S a (by rwa[h.K])<|h.b a b q,λa b q=> ?_⟩;rw[k.r.N a (by rw[e];exact À<|f a b)];exact h.g a b q
def iI.N(h:iI E l l')(b:∀a,E a->l.r a)(r:fI l' l'.w u):iI E l {l' with w:=u}:= h.R6 b (l'':={l' with w:=u}) ((iA.fV h.fv).I r) U
def iI.rh(h:iI E l l')(s:gq l)(i:∀a,E a->l.r a){x:Č}(f:E x)(k:x.spot=Í)(m:(l'.w.cell? x).isSome=Ì):iI E l {l' with w:=l'.w.setCell x v}:=by
 refine⟨h.O,h.h,h.Y,h.I,h.c,h.K,h.q,h.d,λj c=> ?_,?_,λj c=>(lF λe=>s.S x (À<|i x f)<|e▸c).trans<|h.r j c,λa b g=>((Ci k λe=>g<|by rwa[e]).trans<|h.e a b g),λa b=>tS.trans<|h.S a b,λa b q=>Aa<|h.b a b q,λa b q=>Aa<|h.g a b q⟩
 .show j<(l'.w.setCell x v).heap.size;rw[kg];exact h.fv j c
 .show l.w.heap.size<=(l'.w.setCell x v).heap.size;rw[kg];exact h.f
def iI.G(h:iI E l l')(s:gq l):gq l' where
 c b hb:=by
  rw[h.Y];rcases h.h b hb with q|q
  .exact s.c b q
  .exact λz=>by have:=s.fv b<|Á z;omega
 Y a ha:=by rw[h.c];exact s.Y a<|by rwa[<-h.I]
 S a ha hb:=by
  rw[h.C]at ha;rcases hb with q|q
  .rcases h.h _ q with z|z
   .exact s.S a ha<|À z
   .have:=s.I a ha;omega
  .rw[h.Y]at q;exact s.S a ha<|Á q
 fv b hb:=by
  rcases hb with q|q
  .exact h.fv b q
  .rw[h.Y]at q;exact Ê (s.fv b<|Á q) h.f
 I a ha:=by rw[h.C]at ha;exact Ê (s.I a ha) h.f
 N a ha:=by
  rw[h.K]at ha;let⟨c,d,e⟩:=s.N a ha;refine⟨λq=> ?_,Ê d h.f,by rwa[h.I]⟩;rcases q with q|q
  .rcases h.h _ q with z|z
   .exact c<|À z
   .omega
  .rw[h.Y]at q;exact c<|Á q
end
section
variable{X:Type}{g:Array ã}{c:X->Nat->ã}{m:Array Bool->X->fe->Prop}{l:fe}{b:ô}{a:Ł}{k:List Ő}{cs:List ô}{x:X}
def II(Q:Array ĭ)(g:Array ã)(c:X->Nat->ã)(m:Array Bool->X->fe->Prop)(wJ:Array Bool)(a:Ł)(l:fe):Prop:=∃x,lR Q g (c x) wJ a/\m wJ x l
def Hl(a:o.guard=Í)(y:Nat->Option Bool):á o y=Ì:=by unfold á;rw[a]
def iu(h:rA Q g.size=Ì)(j:lR Q g (c x) wJ a)(f:Q[i]?=Ã o)(n:o.guard=Í){md:Ý}(p:i∈Ò md Q wJ)(s:b.kind≠Đ)(t:kn l)(u:¬l.q) (v:∀d,fI l l.w d->(Þ a.eval o).run P d=.ok (.value<|c x i) d) (y:∀d,fI l l.w d->∀e∈(Þ a.eval o).events P d #[],tZ l e) (z:∀d,fI l l.w d->m (wJ.setIfInBounds i Ì) x {l with w:=d}): fi P yQ (λB C=>∃r,C=G (b.at r<|Æ Q jJ::k) cs/\II Q g c m (wJ.setIfInBounds i Ì) r B) l (G (b.at a<|Æ Q (i::jJ)::k) cs):= oC f (Hl n _) s t u v y<|.fD λd r=>⟨_,U,x,j.fO h f p λ_=>rfl,z d r⟩
def R7(h:rA Q g.size=Ì)(j:lR Q g (c x) wJ a)(f:Q[i]?=Ã o)(n:o.guard=Í)(e:o.dst=Í){md:Ý}(p:i∈Ò md Q wJ)(s:b.kind≠Đ)(t:kn l)(u:¬l.q){y:Č}(z:y.spot=Í)(B:pD l y)(C:(l.w.cell? y).isSome=Ì)(D:l.w.frozen? y=É) (E:∀w,(w.cell? y).isSome=Ì->w.frozen? y=É->(Þ a.eval o).run P w=.ok .skip (w.setCell y v)) (F:∀w,(w.cell? y).isSome=Ì->w.frozen? y=É->(Þ a.eval o).events P w #[]=#[⟨ú y,Ì,É⟩]) (H:∀d,fI l (l.w.setCell y v) d->m (wJ.setIfInBounds i Ì) x {l with w:=d}): fi P yQ (λI J=>∃r,J=G (b.at r<|Æ Q jJ::k) cs/\II Q g c m (wJ.setIfInBounds i Ì) r I) l (G (b.at a<|Æ Q (i::jJ)::k) cs):=by refine ajg f (Hl n _) s t u z B C e D E F (.fD λd r=>⟨_,U,x,?_,H d<|Aq r⟩);have:=j.fO h f p (v:=Â) λq=>absurd e q;rwa[e]at this
theorem Zu(q:rA Q g.size=Ì)(s:lR Q g (c x) wJ a)(p:Q[i]?=Ã o)(t:o.guard=Í){md:Ý}(u:i∈Ò md Q wJ)(v:b.kind≠Đ)(y:kn l){f:ī}{args:Array ã} (z:∀w,(Þ a.eval o).run P w=.ok (.enter f args) w) (B:∀w,(Þ a.eval o).events P w #[]=#[]) (C:∀d,fI l l.w d->fi P yQ (λh n=>∃e,n=G ((b.at a<|Æ Q (i::jJ)::k).finish<|c e i) cs/\m (wJ.setIfInBounds i Ì) e h/\∀j,wJ.getD j É=Ì->c e j=c x j) {l with w:=d} (G (Ŷ P f args .normal)<|b.at a (Æ Q (i::jJ)::k)::cs)): fi P yQ (λh n=>∃r,n=G (b.at r<|Æ Q jJ::k) cs/\II Q g c m (wJ.setIfInBounds i Ì) r h) l (G (b.at a<|Æ Q (i::jJ)::k) cs):=by
 refine .mk U λd r=>⟨G (Ŷ P f args .normal)<|b.at a (Æ Q (i::jJ)::k)::cs,d,#[],{l with w:=d},?_,LK d<|lQ y r,?_⟩
 .rw[ŵ p (Hl t _) v<|z d];unfold η;rw[B d,Ć]
 .refine(C d r).ff ?_;rintro h n ⟨e,rfl,D,E⟩;refine⟨a.put o.dst<|c e i,?_,e,(s.G E).fO q p u λ_=>rfl,D⟩;grind [ĩ]
end
end Go.Proofs.Y.fA
namespace Go.Proofs.YtgpphkdoanciiaaGreatDoor
open Go Go.Conc Go.Conc.Lib
def Lk:ě:={add:=62,done:=65,wait:=53,relMerge:=105,disable:=68,enable:=70,inBubble:=76,associate:=106,fatal:=107,uOr:=108,uAdd:=109,raceRead:=110,uLoad:=69,uStore:=111,disassociate:=74,semrelease:=112,acquire:=71,isAssociated:=72,uCas:=73,raceWrite:=75,semacquire:=77,orU64:=150,addU64:=151,loadU64:=127,storeU64:=152,casU64:=128,tWgP:=162,tUP:=170,tAssoc:=202,tWg:=97,tAU:=94,tU64:=36,tUint:=168,tU32:=95,tPU32:=174,tPAU:=219,tPU64:=221,tNoCopy:=90,tANoCopy:=91,tAlign64:=92}
def rB:ŕ Ĭ Lk where
 f_add:=Tryz.func62;f_done:=Tryz.func65;f_wait:=Tryz.func53;f_relMerge:=Tryz.func105;f_disable:=Tryz.func68;f_enable:=Tryz.func70;f_inBubble:=Tryz.func76;f_associate:=Tryz.func106;f_fatal:=Tryz.func107;f_uOr:=Tryz.func108;f_uAdd:=Tryz.func109;f_raceRead:=Tryz.func110;f_uLoad:=Tryz.func69;f_uStore:=Tryz.func111;f_disassociate:=Tryz.func74;f_semrelease:=Tryz.func112;f_acquire:=Tryz.func71;f_isAssociated:=Tryz.func72;f_uCas:=Tryz.func73;f_raceWrite:=Tryz.func75;f_semacquire:=Tryz.func77;f_orU64:=Tryz.func150;f_addU64:=Tryz.func151;f_loadU64:=Tryz.func127;f_storeU64:=Tryz.func152;f_casU64:=Tryz.func128;underlying_tWgP:=Tryz.underlying162;runUnderlying_tWgP:=Tryz.runUnderlying162;sizeOf_tWgP:=Tryz.sizeOf162;isAgg_tWgP:=Tryz.isAgg162;zeroValue_tWgP:=Tryz.zeroValue162;underlying_tUP:=Tryz.underlying170;runUnderlying_tUP:=Tryz.runUnderlying170;sizeOf_tUP:=Tryz.sizeOf170;isAgg_tUP:=Tryz.isAgg170;zeroValue_tUP:=Tryz.zeroValue170;underlying_tI32:=Tryz.underlying202;runUnderlying_tI32:=Tryz.runUnderlying202;sizeOf_tI32:=Tryz.sizeOf202;isAgg_tI32:=Tryz.isAgg202;zeroValue_tI32:=Tryz.zeroValue202;underlying_tWg:=Tryz.underlying97;runUnderlying_tWg:=Tryz.runUnderlying97;sizeOf_tWg:=Tryz.sizeOf97;isAgg_tWg:=Tryz.isAgg97;zeroValue_tWg:=Tryz.zeroValue97;underlying_tAU:=Tryz.underlying94;runUnderlying_tAU:=Tryz.runUnderlying94;sizeOf_tAU:=Tryz.sizeOf94;isAgg_tAU:=Tryz.isAgg94;zeroValue_tAU:=Tryz.zeroValue94;underlying_tU64:=Tryz.underlying36;runUnderlying_tU64:=Tryz.runUnderlying36;sizeOf_tU64:=Tryz.sizeOf36;isAgg_tU64:=Tryz.isAgg36;zeroValue_tU64:=Tryz.zeroValue36;underlying_tSh:=Tryz.underlying168;runUnderlying_tSh:=Tryz.runUnderlying168;sizeOf_tSh:=Tryz.sizeOf168;isAgg_tSh:=Tryz.isAgg168;zeroValue_tSh:=Tryz.zeroValue168;underlying_tU32:=Tryz.underlying95;runUnderlying_tU32:=Tryz.runUnderlying95;sizeOf_tU32:=Tryz.sizeOf95;isAgg_tU32:=Tryz.isAgg95;zeroValue_tU32:=Tryz.zeroValue95;underlying_tPU32:=Tryz.underlying174;runUnderlying_tPU32:=Tryz.runUnderlying174;sizeOf_tPU32:=Tryz.sizeOf174;isAgg_tPU32:=Tryz.isAgg174;zeroValue_tPU32:=Tryz.zeroValue174;underlying_tPAU:=Tryz.underlying219;runUnderlying_tPAU:=Tryz.runUnderlying219;sizeOf_tPAU:=Tryz.sizeOf219;isAgg_tPAU:=Tryz.isAgg219;zeroValue_tPAU:=Tryz.zeroValue219;underlying_tPU64:=Tryz.underlying221;runUnderlying_tPU64:=Tryz.runUnderlying221;sizeOf_tPU64:=Tryz.sizeOf221;isAgg_tPU64:=Tryz.isAgg221;zeroValue_tPU64:=Tryz.zeroValue221;underlying_t0:=Tryz.underlying0;runUnderlying_t0:=Tryz.runUnderlying0;sizeOf_t0:=Tryz.sizeOf0;isAgg_t0:=Tryz.isAgg0;zeroValue_t0:=Tryz.zeroValue0;underlying_t3:=Tryz.underlying3;runUnderlying_t3:=Tryz.runUnderlying3;sizeOf_t3:=Tryz.sizeOf3;isAgg_t3:=Tryz.isAgg3;zeroValue_t3:=Tryz.zeroValue3;underlying_t4:=Tryz.underlying4;runUnderlying_t4:=Tryz.runUnderlying4;sizeOf_t4:=Tryz.sizeOf4;isAgg_t4:=Tryz.isAgg4;zeroValue_t4:=Tryz.zeroValue4;underlying_t9:=Tryz.underlying9;runUnderlying_t9:=Tryz.runUnderlying9;sizeOf_t9:=Tryz.sizeOf9;isAgg_t9:=Tryz.isAgg9;zeroValue_t9:=Tryz.zeroValue9;underlying_t20:=Ĺ;runUnderlying_t20:=Tryz.runUnderlying20;sizeOf_t20:=Tryz.sizeOf20;isAgg_t20:=Tryz.isAgg20;zeroValue_t20:=Tryz.zeroValue20;underlying_t21:=Tryz.underlying21;runUnderlying_t21:=Tryz.runUnderlying21;sizeOf_t21:=Tryz.sizeOf21;isAgg_t21:=Tryz.isAgg21;zeroValue_t21:=Tryz.zeroValue21;room_tWg:=by decide+kernel
 room_tU32:=by decide+kernel
end Go.Proofs.YtgpphkdoanciiaaGreatDoor
namespace Go.Proofs.Y.fA
open Go Go.Conc Go.Proofs.Y.Lift Go.RowKit Go.Conc.Lib Go.ConcR.Gen
open Go.Proofs Go.Proofs.YtgpphkdoanciiaaGreatDoor
def Zv:Array ĭ:=#[⟨Ã 3,.load 1<|ß 1,1, "waitgroup.go:258",#[],Í⟩,
 ⟨Ã 4,Ŭ {callee:=.value (ß 3),args:=#[],argTypes:=#[]},0, "waitgroup.go:258",#[⟨0,ý⟩],Í⟩]
section
variable{Ψ:Ï->Prop}{l:fe}
def Zw(b:l.K ⟨i,0,Í⟩/\l.K ⟨i,1,Í⟩)(c:mA Ψ l i)(a:SW Ψ l i l.w)(e:l.d=0)(f:¬l.q)(j:gQ l ⟨n,0,Í⟩)(k:l.w.cell? ⟨n,0,Í⟩=Ã (ì<|Ã ⟨i,0,Í⟩)): fi Ĭ É (λl g=>Ab Ĭ É i (EJ Ĭ) (kI l) g) l (G ((baseD 63).at ⟨#[ì<|Ã ⟨n,0,Í⟩,v,x,z,jQ],[qd 64 #[ì<|Ã ⟨n,0,Í⟩] #[]]⟩ [Æ Zv []]) [oB Ĭ]):=by
 apply fR (n:=30) a.1;have hF:=trivial;iterate 2 w_go fy
 u_c (ai4 U ŷ fL U) fy hF
 walk_nrmf Tryz.f64;iterate 3 w_go fy
 u_c (ai3 U U U U U U U) fy hF
 walk_nrm;have m:=λw g=>ajc 20 w g Ĺ;repeat w_go fy
 refine Î λ_ _=> ?_;apply kA U U (by k_ne) a.1 f j k (λw h=>by go_simp) (λw h=>by simp[go_sem,h]);walk_nrm;apply fR (n:=30) a.1;u_call rB.f_done (nm_done Lk) doneFn fy hF;refine Î λ_ _=> ?_;apply aiX rB b c a e;walk_nrm;apply LQ U λ_=>stepG_region_end;apply LQ U λ_=>stepG_end;refine ai9 U U ŷ U U<|ai8 U U Tryz.func63 U
end
end Go.Proofs.Y.fA
