import Derived.Test.YtgpphkdoanciiabGreatDoorWAA
import Derived.Conc.WgGenN3
import Derived.Conc.MuWords
import Derived.Conc.CompanyDraw
import Derived.Test.YtgpphkdoanciiabGreatDoorRows
import Derived.Conc.WgLib
set_option linter.all false
set_option maxRecDepth 1000000
set_option maxHeartbeats 8000000
open Or renaming inl->À,inr->Á
open Go renaming undef->Â,Goroutine->Ä,deafBehind->Ï,World->Ð,execOp->Þ,Value->ã,Trace->ä,stepG->è,Frame->ø,MemOp->Ă,mem_ready->ĉ,Addr->Č,Event->đ,getD_set_true->ĝ,Program->Ğ,yielded->Ĩ,Oper->Ĭ,TypeId->ĳ,FuncId->Ĵ,resolve->ĸ,goexitEntry->Ō,Act->ō,runT->Ŏ,invoke->ś,callFunc->Ŝ,Item->Ţ,callDeferred->Ū,Deferred->Ů,Operand->Ÿ,unwind->Η,Mark->Ο,runNT->Χ,Code->θ,Loc->π
open Option renaming some->Ã,none->Í,map_eq_some_iff->Ù,isSome_iff_exists->ü,getD_some->ć
open Go.GoStatus renaming running->Å,blocked->Ü,finished->å
open Go.Item renaming inRegion->Æ,code->ĵ,inBlock->ŏ,inLoop->Ρ
open Nat renaming le_refl->Ç,lt_of_lt_of_le->Ê,le_trans->Ô,le_of_eq->Õ,le_mul_of_pos_right->â,mul_le_mul_left->ï,lt_of_not_le->ñ,zero_le->ò,add_zero->ó,le_of_not_lt->ă,and_two_pow_sub_one_eq_mod->Ą,mul_le_mul_right->č,strongRecOn->Ď,add_mul_mod_self_right->ē,lt_or_ge->ģ,mod_eq_of_lt->ļ,mul_add->ł,mod_lt->ż
open Option.some renaming inj->È,injEq->Ķ
open Bool renaming false->É,true->Ì,and_eq_true->ŀ
open Go.MemAct renaming ofEvent->Ë,touch?->Ċ,mark->ė,start->į,go->ς
open Go.Conc.Goes renaming stop->Î
open Go.ConcN renaming sumTo->Ñ,wraps_u64_63->ö,sumTo_congr->Ł
open Go.Region renaming ready->Ò,Mode->Ý,wanted->á,binds->ū
open Go.IntKind renaming u64->Ó,u32->ç,i64->Ũ
open Array renaming getElem?_eq_some_iff->Ö,append_empty->Ú,getElem?_eq_getElem->é,replicate->ê,getElem?_setIfInBounds_ne->í,mem_toList_iff->Ī
open Go.Conc renaming mem_ofEvents->Ø,crowd->ð,semEvents->õ,woken->Ā,stepG_semrelease->ą,seen_none->Ć,stepG_markAt->Ē,stepG_mark0->Ę,stepG_load_atomic->ę,Goes->İ,deafBehind_still->ĺ,parked->Ļ,stepG_add_atomic->Ľ,stepG_value->Ń,rcase->œ,stepG_none->Ŗ,goes_go->ť,stepG_enter->ŵ,QuitsD->Ź,touch_mute->ź,stepG_oper->Ζ,mem_listed->Ι,Knows->Λ,listed->η,Deaf->κ
open Go.MemOp renaming ofEvents->Û
open Go.Operand renaming tmp->ß,const->ċ,func->ŧ
open Go.ConcR renaming DC0->à
open Go.ConcR.Gen renaming x_semrelease_b->æ,x_semrelease_n->Ĕ,x_semrelease_x->ĕ,x_semrelease_f->Ė,mayWake_entry->Ĝ,x_enable_n->Ĥ,x_enable_b->ĥ,x_enable_x->Ħ,x_enable_f->ħ,x_disable_n->ń,x_disable_b->Ņ,x_disable_x->ņ,x_disable_f->Ň,x_loadU64_n->ň,x_loadU64_b->ŉ,x_loadU64_x->Ŋ,x_loadU64_f->ŋ,x_semacquire_n->ŗ,x_semacquire_b->Ř,x_semacquire_x->ř,x_semacquire_f->Ś,body_wait->ţ,nm_uLoad->ů,x_acquire_n->Ű,x_acquire_b->ű,x_acquire_x->Ų,x_acquire_f->ų,x_addU64_n->Ž,x_addU64_b->ž,x_addU64_x->ſ,x_addU64_f->Α,x_casU64_n->Β,x_casU64_b->Γ,x_casU64_x->Δ,x_casU64_f->Ε
open Go.Value renaming int->ë,pointer->ì,nilIface->ā,tuple->ı
open Go.Mark renaming enable->î,disable->ô,releaseMerge->Į,acquire->ő,write->Υ
open Go.FrameMode renaming returning->ù
open Go.Loc renaming cell->ú,mark->ŭ
open Go.Region.linearise renaming go->û
open Go.Ground renaming data->ý,phase->ũ
open Go.Act renaming eval->þ,put->Ő
open Ne renaming symm->ÿ
open Go.Deferred renaming ofValue->Ĉ
open Go.Goroutine renaming again->ď
open Go.CallKind renaming early->Đ,deferred->ľ
open Go.GStep renaming after->Ě,go->ş
open Go.Conc.Lib renaming WgLink->ě,WgLib->Ŕ,uLoadFn->Ξ
open Go.Stepped renaming next->ğ
open List renaming all_eq_true->ġ,any_eq_true->Ŀ,mem_range->Ş,mem_cons->š,range->Κ
open Go.Code renaming region->Ģ,cond->Τ,block->ε,skip->ο
open Go.Frame renaming finish_at->ĩ,enter->Ŷ
open Go.Proofs.Tryz renaming prog->ī,underlying20->Ĺ,func48->ŷ
open Go.Op renaming move->Ŧ,call->Ŭ,equalIn->Θ,binOp->Ω
variable{i n j b k m J j9 j7 j6:Nat}{w u W jX:Ð}{v x z jQ:ã}{g:Ä}{a p:Č}{h c:Int}{e t T:ĳ}{d q:Array ã}{P:Ğ}{y:ō}{B:ByteArray}{X:Nat->Prop}{O:Option Č}{l:List ã}{yQ:Bool}{K H:ō->Ð->Prop}{o:Ĭ}{D:Nat->Nat}{E:Array Ä}{L:List Ţ}{jJ:List Nat}{qX:List ø}{qQ:Ÿ}{qJ:ä}{zX:π->Prop}{zQ:List Int}{zJ:Go.TypeInfo}{xX:Ÿ->ã}{xQ:Go.Tape}{xJ:Nat×Nat}{wX:θ}{wQ:Ă}{wJ:Array Bool}{vX:List ByteArray}{vQ:ã->Ð->Prop}{vJ:Go.Exit->ō->Ð->Prop}{yX:Ý}{Q:Array Ĭ}{f:ø}{V:Array đ}{F:Ĵ}{s:Go.Func}
namespace Go.Proofs.Y.fB
open Go Go.Conc Go.Proofs.Y.Lift
open Go.ConcN (sumTo)
section
variable{F:Ph}{E:fZ F}{S:Nat->Jd}{tr:Nat->gD}{c:Nat->iD}{lot:Nat->fh}{gs:Array Ä}{w':Ð}{t u:ä}{sz:Nat}
def xl(h:F.M b):F.G (fS b)/\F.G (gT b):=⟨⟨b,h,À U⟩,⟨b,h,Á U⟩⟩
def xm(h:F.G a):E.Y a.block:=by obtain⟨b,c,rfl|rfl⟩:=h<;>exact À c
def iJ.Y(L:iJ F E lot sz w)(ok:F.Ok)(f:F.G a):∀i,i<sz->¬(lot i).C a:=by
 intro i g h;let⟨b,c,d⟩:=f;rcases L.gX i g a h with⟨k,_,e⟩|⟨p,_,e⟩
 .rcases d with rfl|rfl<;>simp[fS,gT,jj]at e
 .rcases d with rfl|rfl
  .simp only[fS,jw]at e;injection e with e1 _ _;exact ok.C<|e1▸c
  .simp only[gT,jw]at e;injection e with e1 _ _;exact ok.C<|e1▸c
def iJ.sS(L:iJ F E lot sz w)(c:Ps F E)(d:j+2<=E.r):∀i,i<sz->∀a:Č,a.block=E.I j->¬(lot i).C a:=by
 intro i f a b g;let⟨h,l,_⟩:=c.o j d;rcases L.gX i f a g with⟨k,m,e⟩|⟨p,_,e⟩
 .exact h<|by rw[<-b,e];exact Á ⟨k,m,U⟩
 .exact l<|by rw[<-b,e];rfl
def iJ.agV(L:iJ F E lot sz w):∀i,i<sz->∀a,(lot i).C a->a.spot=Í:=by intro i b a c;rcases L.gX i b a c with⟨k,_,rfl⟩|⟨p,_,rfl⟩<;>rfl
def iJ.O3(L:iJ F E lot sz w)(ok:F.Ok):∀i,i<sz->¬(lot i).r (jw F F.f):=by
 intro i a h;rcases L.gX i a _ (À h)with⟨k,b,e⟩|⟨p,c,e⟩
 .have:F.Y=F.I k:=by injection e
  exact ok.C<|by rw[this];exact Á ⟨k,b,U⟩
 .have:F.f=p:=by injection e
  exact c this.symm
structure Gp(F:Ph)(E:fZ F)(lot:Nat->fh)(sz:Nat)(w w':Ð):Prop where
 Dw:w.heap.size<=w'.heap.size
 C:∀b,b<w.heap.size->¬E.Y b->(∀i,i<sz->¬(lot i).O b)->w'.heap[b]?=w.heap[b]?
 r:∀a:Č,((∃k,k<=F.m/\a=jj F.toFx k)\/∃p,a=jw F p)->(∀i,i<sz->¬(lot i).r a)->w'.cell? a=w.cell? a
 I:lb w' F.Y=lb w F.Y
 M:w'.os=w.os/\w'.output=w.output
def Wd.Kg(W:Wd F E w)(H:gW F)(L:iJ F E lot sz w)(a:Gp F E lot sz w w')(f:E.S.md<=F.m){d:GS}{e:Nat->GS}(g:ij w' F.C d)(h:∀k,k<=F.m->ij w' (F.I k) (e k))(i:∀j,j+2<=E.r->w'.heap[E.I j]?=w.heap[E.I j]?):Wd F {E with b:=d,a:=e} w' where
 C:=g;I:=h;jL j hj:=by have:=W.jL j hj;rwa[<-i j hj]at this
 M k hk:=⟨(W.M k hk).1,H.S _ _ _ _ _ (W.M k hk).2 (λb c=>a.C b (L.I k hk b c).1 (L.I k hk b c).2.1 (L.I k hk b c).2.2) (a.r _ (À ⟨k,Ô hk f,U⟩)<|L.N k hk) (a.r _ (Á ⟨_,U⟩)<|L.O3 H.C) a.I a.M⟩;S k h1 h2:=(a.r _ (Á ⟨_,U⟩)<|L.g k h1 h2).trans<|W.S k h1 h2;N j hj r hr hd:=(a.r _ (Á ⟨_,U⟩)<|L.d j hj r hr hd).trans<|W.N j hj r hr hd
def Kh(a:Ps F E):E.S.md<=F.m:=by
 cases h:E.S with
 |kV k=>exact(a.I k).1 h
 |mk k=>have:=((a.I k).2.1 h).2;simp only[jB.md];omega
 |dn k p=>exact((a.I k).2.2 p h).2
def Ki(a:Ps F E):E.S.rl<=E.S.md:=by
 cases h:E.S with
 |dn k p=>cases p<;>simp only[jB.rl,jB.md]<;>omega
 |_=>exact Ç _
def O4(a:jB):a.od<=a.rl:=by
 cases a with
 |dn k p=>cases p<;>simp only[jB.rl,jB.od]<;>omega
 |_=>exact Ç _
def XU{x:Nat}(h:E.iB x):E.ow x:=by let⟨e,a,b⟩:=h;exact⟨e,a,by cases e<;>first|exact b|trivial⟩
def Kj{l a:fh}(h:l=kI l)(b:mL l a w w' V):a=kI a:=by
 have j:l.q:=by rw[h];trivial
 have c:a.O=λ_=>False:=by rw[(b.i j).2.2,h];rfl
 have e:a.I=λ_=>False:=by rw[b.I,h];rfl
 have f:a.r=λ_=>False:=by rw[b.r,h];rfl
 have g:a.N=λ_=>False:=by rw[b.M,h];rfl
 have i:a.q=True:=by rw[b.q,h];rfl
 obtain⟨O,k,m,n,d,q,o⟩:=a;simp only at c e f g i;subst c e f g i;rfl
theorem iJ.fx(L:iJ F E lot gs.size w)(C:iX F.S (λi=>i<gs.size) E.Y lot w t){m:fh}(J:i<gs.size)(d:mL (lot i) m w w' V):iJ F E (gC lot i m) gs.size w':=by
 have K:∀x,E.ow x->i=F.L+x->m=kI m:=λx p e=>Kj (e▸L.S x p) d;have M:=λc l=>Kj (L.c i c l) d;have B:∀k a,(gC lot i m k).C a↔(lot k).C a:=λk a=>by
  by_cases e:k=i
  .subst e;rw[gY];unfold fh.C;rw[d.r,d.M]
  .rw[gK lot _ e]
 have n:∀k,(gC lot i m k).r=(lot k).r:=λk=>by
  by_cases e:k=i
  .subst e;rw[gY,d.r]
  .rw[gK lot _ e]
 have s:∀k,(gC lot i m k).N=(lot k).N:=λk=>by
  by_cases e:k=i
  .subst e;rw[gY,d.M]
  .rw[gK lot _ e]
 have u:∀k,(gC lot i m k).I=(lot k).I:=λk=>by
  by_cases e:k=i
  .subst e;rw[gY,d.I]
  .rw[gK lot _ e]
 refine⟨λk f a v=>L.gX k f a<|(B k a).1 v,λx c l a v=>by rw[n];exact L.o x c l a v,λh=>by rw[s,u];exact L.lY h,λh k c l=>by rw[n];exact L.e h k c l,λh o=>by rw[s,u];exact L.f h o,λj g o r y c=>by rw[n];exact L.h j g o r y c,λj g o=>by rw[s,u];exact L.l j g o,λx p=> ?_,λk f=> ?_,λk c l=> ?_,λk f b D=> ?_,λk f j g=>by rw[n];exact L.N k f j g,λk c l j g=>by rw[n];exact L.g k c l j g,λj g r y G k f=>by rw[n];exact L.d j g r y G k f⟩
 .by_cases e:F.L+x=i
  .grind [gY]
  .rw[gK lot _ e];exact L.S x p
 .by_cases e:k=i
  .subst e;rw[gY,d.q];exact L.M k f
  .rw[gK lot _ e];exact L.M k f
 .by_cases e:k=i
  .grind [gY]
  .rw[gK lot _ e];exact L.c k c l
 .let⟨H,I,N⟩:=L.I k f b D;refine⟨Ê H d.C,I,λj g=> ?_⟩;by_cases e:j=i
  .subst e;rw[gY];intro q;rcases d.S b q with z|z;all_goals grind
  .grind [gK]
def agW(C:iX F.S (λi=>i<gs.size) E.Y lot w t){h:fh}(d:i<gs.size)(c:mL (lot i) h w w' V):Gp F E lot gs.size w w':= ⟨c.C,λb j e f=>c.jY b j (f i d) λa g q=>e<|g▸C.e i d a (À q),λa g f=>by
   have e:E.Y a.block:=by
    rcases g with⟨k,l,rfl⟩|⟨p,rfl⟩
    .exact À<|Á ⟨k,l,U⟩
    .exact Á<|À U
   exact c.N a (C.N _ e) (λq=>C.I i d _ (À q) e)<|f i d,
  c.Y (jw F 0) (C.N _ (Á (À U))) λq=>C.I i d _ (À q) (Á (À U)),c.f,c.g⟩
def XV(L:iJ F E lot gs.size w)(ok:F.Ok)(C:iX F.S (λi=>i<gs.size) E.Y lot w t){g:fh}(e:i<gs.size)(c:mL (lot i) g w w' V)(f:F.M b){G:GS}(h:ij w b G):ij w' b G:=by have a:E.Y b:=À f;have d:=λq=>C.I i e _ (À q) a;exact h.vF (c.N (fS b) (C.N _ a) d λq=>(L.Y ok (xl f).1 i e)<|À q) (c.N (gT b) (C.N _ a) d λq=>(L.Y ok (xl f).2 i e)<|À q) (JX<|c.Y (fS b) (C.N _ a) d)<|JX<|c.Y (gT b) (C.N _ a) d
def agX(L:iJ F E lot gs.size w)(e:Ps F E)(C:iX F.S (λi=>i<gs.size) E.Y lot w t){f:fh}(b:i<gs.size)(g:mL (lot i) f w w' V)(c:j+2<=E.r):w'.heap[E.I j]?=w.heap[E.I j]?:=by have d:E.Y (E.I j):=Á<|Á ⟨j,c,U⟩;exact g.jY _ (C.N _ d) (λq=>C.I i b _ (À q) d) λa h q=>L.sS e c i b a h<|À q
theorem agY(L:iJ F E lot gs.size w)(H:Ps F E)(ok:F.Ok)(C:iX F.S (λi=>i<gs.size) E.Y lot w t)(P:gs.size=F.L+E.r){m:fh}{p:Array đ}{u:Ĵ}{B:String}(o:i<gs.size)(g:mL (lot i) m w w' p): Ke F.toFx E.r (E.S.rl) E.V E.d E.iB t (Û i u B p) i:=by
 have J:∀x,E.iB x->i=F.L+x->m=kI m:=λx l e=>Kj (e▸L.S x (XU l)) g;have D:∀c∈Û i u B p,∀a,c.act.touch?=Ã a->∃y:Č,a.loc=ú y/\(m.O y.block\/m.r y\/((m.I y.block\/m.N y)/\a.write=É)):=λc d a n=>by obtain⟨e,r,rfl⟩:=Ø d;exact XA (g.c e r) n
 have I:m=kI m->∀c∈Û i u B p,c.act.touch?=Í:=λe c d=>by
  cases h:c.act.touch? with
  |none=>rfl
  |some a=>
   let⟨y,_,q⟩:=D c d a h;rw[e]at q;rcases q with q|q|⟨q|q,_⟩<;>exact q.elim
 refine⟨λc d _ _=>ov c d,?_,λc d a x n G l=> ?_,λc d a y n Q G k h s=> ?_,λc d b _ e=> ?_,λx l K=> ?_⟩
 .by_cases j:i=0
  .exact À j
  .by_cases f:i<F.L
   .exact Á<|Á<|I<|(λh s=>Kj (L.c i h s) g) Z f
   .exact Á<|À ⟨i-F.L,Z,Z⟩
 .exfalso;let⟨y,j,q⟩:=D c d a n;rw[G]at j;injection j with j;subst j;have f:=xm (E:=E) l;have v:=L.Y ok l i o;rcases q with q|q|⟨q|q,_⟩
  .rcases g.S _ q with z|z
   .exact C.I i o _ (À z) f
   .have:=C.N _ f;omega
  .exact v<|À<|by rwa[<-g.r]
  .exact C.I i o _ (Á<|by rwa[<-g.I]) f
  .exact v<|Á<|by rwa[<-g.M]
 .have j:=Ô s<|Ki H;let⟨x,l,q⟩:=D c d a n;rw[G]at l;injection l with l;subst l;rcases q with q|q|⟨_,q⟩
  .refine⟨λv=> ?_,λe=> ?_⟩
   .let⟨M,_,N⟩:=L.I k j _ v;rcases g.S _ q with z|z;all_goals grind
   .have f:E.Y y.block:=by rw[e];exact À<|Á ⟨k,Ô j<|Kh H,U⟩
    rcases g.S _ q with z|z
    .exact C.I i o _ (À z) f
    .have:=C.N _ f;omega
  .refine⟨λv=>((L.I k j _ v).2.1<|C.e i o y<|À<|by rwa[<-g.r]),λe=>(L.N k j i o<|by rwa[<-g.r,<-e])⟩
  .grind
 .obtain⟨j,r,rfl⟩:=Ø d;have v:=g.c j r;let⟨M,N,S⟩:=j;simp only[Ë]at e;rcases v with⟨a,h,_⟩|h|⟨f,h⟩|h|h|⟨a,_,h|h|h|h⟩<;>(simp only at h;subst h;simp at e)
 .by_cases e:F.L+x=i
  .have v:=I<|J x K e.symm;refine⟨λr f=>f.app λj S T M=> ?_,λ_ c d a n=>by rw[v c d]at n;cases n⟩;let⟨z,N,_⟩:=M;rcases mX (show touchAt (t++_) j=Ã z from N)with⟨q,_⟩|⟨_,c,h,s,_⟩;all_goals grind
  .exact⟨λr f=>f.appOther ov<|ÿ e,λj=>absurd j e⟩
end
abbrev tZ:=Nat×Nat×gD
def za(x y:tZ):Prop:=x.1<y.1\/(x.1=y.1/\(x.2.1<y.2.1\/(x.2.1=y.2.1/\XD x.2.2 y.2.2)))
def XW:WellFounded za:=by
 refine⟨λx=> ?_⟩;let⟨a,b,c⟩:=x
 induction a using Ď generalizing b c with
 |_ a j=>
  induction b using Ď generalizing c with
  |_ b k=>
   induction XF.apply c with
   |intro c _ l=>
    refine⟨_,λy h=> ?_⟩;let⟨m,f,e⟩:=y;rcases h with h|⟨d,h|⟨g,i⟩⟩
    .exact j m h f e
    .simp only at d h;subst d;exact k f h e
    .simp only at d g i;subst d g;exact l e i
def agZ(x:tZ):¬za x x:=by
 intro h
 induction XW.apply x with
 |intro x _ a=>exact a x h h
def C7(n:Nat)(f g:Nat->tZ):Prop:=∃i,i<n/\za (f i) (g i)/\∀j,j<n->j≠i->f j=g j\/za (f j) (g j)
def XX:∀(n:Nat) (g:Nat->tZ),Acc (C7 n) g
 |0,g=>⟨_,λf ⟨i,h,_⟩=>absurd h Z⟩
 |n+1,g=>by
  have k:∀(x:tZ) (h:Nat->tZ),∀g:Nat->tZ,g n=x->(∀j,j<n->g j=h j)->Acc (C7<|n+1) g:=by
   intro x
   induction XW.apply x with
   |intro x _ l=>
    intro h
    induction XX n h with
    |intro h _ m=>
     intro g b c;refine⟨_,λf ⟨i,r,a,d⟩=> ?_⟩;by_cases e:f n=g n
     .have s:i≠n:=by
       intro q;subst q;rw[e]at a;exact agZ _ a
      refine m f ⟨i,Z,by rwa[<-c i Z],λj o p=> ?_⟩ f (e.trans b) λ_ _=>rfl;rw[<-c j o];exact d j Z p
     .have:za (f n) x:=by
       rw[<-b];by_cases q:n=i
       .rwa[q]
       .exact(d n Z q).resolve_left e
      exact l _ this f f U λ_ _=>rfl
  exact k (g n) g g U λ_ _=>rfl
abbrev Mu:=(Nat->tZ)×Nat
def pB(n:Nat)(x y:Mu):Prop:=C7 n x.1 y.1\/((∀j,j<n->x.1 j=y.1 j)/\x.2<y.2)
def ag0(n:Nat):WellFounded (pB n):=by
 have e:∀h:Nat->tZ,∀k:Nat,∀g:Nat->tZ,(∀j,j<n->g j=h j)->Acc (pB n) (g,k):=by
  intro h
  induction XX n h with
  |intro h _ l=>
   intro k
   induction k using Ď with
   |_ k m=>
    intro g a;refine⟨_,λy q=> ?_⟩;let⟨f,b⟩:=y;rcases q with⟨i,c,o,x⟩|⟨p,r⟩
    .exact l f ⟨i,c,by rwa[<-a i c],λj d s=>by rw[<-a j d];exact x j d s⟩ b f λ_ _=>rfl
    .exact m b r f λj x=>(p j x).trans<|a j x
 exact⟨λx=>e x.1 x.2 x.1 λ_ _=>rfl⟩
section
variable(F:Ph)
def jK.rk(n:Nat):jK->Nat
 |.jH=>n+1011
 |.iI=>n+1010
 |.gE W=>min W (n+1000)+4
 |.jg W=>min W (n+1000)+3
 |.iE r=>min r (n+1000)+2
def jz.rk:jz->Nat
 |.jd=>7
 |.mq _=>6
 |.wr=>5
 |.kH=>4
 |.gE=>3
 |.lu=>2
def gf.rk(F:Ph):gf->Nat
 |.iI j=>F.q+F.n+20+4*(F.n-j)+7
 |.rd j=>F.q+F.n+20+4*(F.n-j)+6
 |.lN j=>F.q+F.n+20+4*(F.n-j)+5
 |.go j=>F.q+F.n+20+4*(F.n-j)+4
 |.iO r=>r+F.n+11
 |.lh r=>r+10
 |.fD p=>p.rk+2
 |.gp=>0
def jB.rk(F:Ph):jB->Nat
 |.kV k=>(F.n+3000)*(F.m+2-k)+2900
 |.mk k=>(F.n+3000)*(F.m+3-k)+2800
 |.dn k p=>(F.n+3000)*(F.m+2-k)+2901+p.rk F.n
def gR.rk(F:Ph):gR->Nat
 |.ny r=>(F.n+3000)*(F.q+3-r)
 |.fD r p=>(F.n+3000)*(F.q+3-r)-20+p.rk
 |.jO r=>(F.n+3000)*(F.q+3-r)-30
 |.oQ r=>(F.n+3000)*(F.q+3-r)-40
def iw.rk(F:Ph):iw->Nat×Nat
 |.oS=>(F.n+2900,0)
 |.gp p=>(p.rk F.n,0)
 |.jy N=>(0,N)
end
def SP.rk(B:Nat)(st:Int):SP->Nat
 |.gi k=>B+2+k
 |.ld v k=>if st=v then k+1 else 2*B+3+k
def jz.lE(B:Nat)(st:Int):jz->Nat
 |.mq p=>p.rk B st
 |_=>0
section
variable{F:Ph}
def fZ.iY(E:fZ F)(tr:Nat->gD)(i:Nat):tZ:=
 if i=0 then(E.M.rk F,0,tr 0)
 else if i<F.L then(0,E.h i,.fE)
 else match E.N (i-F.L)with
  |some e=>((e.rk F).1,(e.rk F).2,tr i)
  |none=>if i=F.L then(E.S.rk F,0,tr i)else((E.C<|i-F.L-1).rk F,0,tr i)
def fZ.lE(E:fZ F)(i:Nat):Nat:=
 if i=0 then(match E.M with|.fD p=>p.lE F.B E.b.st|_=>0)
 else if i<=F.L then 0
 else match E.C (i-F.L-1)with|.fD r p=>p.lE F.B (E.a<|F.r<|i-F.L-1+r*F.n).st|_=>0
def gw(gs:Array Ä)(i:Nat):Nat:=if(gs[i]?).any (·.status==.running)then 1 else 0
def Ph.N(F:Ph):Nat:=F.L+F.n+1
def fZ.mu(E:fZ F)(a:Nat->gD)(b:Array Ä):Mu:=(E.iY a,Ñ F.N λi=>(F.N+1)*E.lE i+gw b i)
end
theorem Gq{b x:Ä}(h:(Ā P g b w x).status=Ü):Ā P g b w x=x/\x.status=Ü:=by
 unfold Ā at h|-;split at h
 .rename_i c;rw[if_pos c];unfold ď at h|-;grind
 .grind
section
variable{F:Ph}{E:fZ F}{S:Nat->Jd}{tr:Nat->gD}{d:Nat->iD}{lot:Nat->fh}{gs gs':Array Ä}{w':Ð}{t u:ä}{sl:Option (Nat×Nat)}
def fp.Ge(h:fp F E gs w)(o:gs'[i]?=Ã g)(p:g.status≠Ü)(t:∀k,k≠i->∃a f:Ä,gs'[k]?=gs[k]?.map (Ā F.P a f w'))(u:∀j,j+2<=E.r->w'.heap[E.I j]?=w.heap[E.I j]?):fp F E gs' w':=by
 intro k x b l;by_cases e:k=i
 .subst e;rw[o]at b;obtain rfl:=È b;exact absurd l p
 .let⟨a,f,q⟩:=t k e;rw[q]at b;obtain⟨y,v,rfl⟩:=Ù.1 b;let⟨_,z⟩:=Gq l;rcases h k y v z with h1|⟨j,c,m,n,d|⟨r,B,s,C,d,D⟩⟩
  .exact À h1
  .exact Á ⟨j,c,m,n,À d⟩
  .exact Á ⟨j,c,m,n,Á ⟨r,B,s,C,d,by rwa[u j c]⟩⟩
def lO{J:Jd}(a:∀l g,J l g->g.status=Å\/g.status=å){l:fh}(h:fq P yQ J l g):g.status=Å\/g.status=å:=by
 cases h with
 |fE h=>exact a _ _<|h _<|fL.gd _ _
 |jR _ _ _ _ b=>exact À b
def ag1(H:gW F)(p:PI F m zX E S tr d lot gs w t){i:Nat}(hi:i<gs.size):∀l g,S i l g->g.status=Å\/g.status=å:=by
 have dn:∀(main:Bool) (b:Nat) (J:Jd),(∀l g,J l g->g.status=Å\/g.status=å)->∀(p:jK) l g,Dt F.P main b J p l g->g.status=Å\/g.status=å:=by
  intro main b J hJ p l g h;cases p with
  |jH=>exact À h.2.1
  |iI=>exact À h.2.1
  |gE W=>exact À h.2.1
  |jg W=>exact À h.2.1
  |iE r=>cases r with
   |zero=>exact hJ l g h
   |succ r=>exact À h.2.1
 have wt:∀(main:Bool) (b:Nat) (J:Jd) (p:jz) l g,qM F.P main F.B b J p l g->g.status=Å:=by
  intro main b J p l g h;cases p with
  |jd=>let⟨k,_,_,T,h1,h2⟩:=h;exact(h2 _ _ h1).1
  |mq p=>let⟨_,T,h1,h2⟩:=h;exact(h2 _ _ h1).1
  |wr=>exact h.2.1
  |kH=>exact h.2.1
  |gE=>exact h.2.1
  |lu=>exact h.2.1
 intro l g h;by_cases e0:i=0
 .subst e0;rw[p.h.1]at h;cases hm:E.M with
  |go j=>rw[hm]at h;exact À<|H.I _ _ _ _ h
  |lN j=>rw[hm]at h;let⟨c,h⟩:=h;exact À<|H.I _ _ _ _ h
  |rd j=>rw[hm]at h;exact À h.2.1
  |iI j=>rw[hm]at h;exact À h.2.1
  |iO r=>
   rw[hm]at h;have cl:∀r l g,A6 F E.I r l g->g.status=Å:=λr l g h=>by
    cases r with
    |zero=>exact wt _ _ _ .jd _ _ h
    |succ r=>exact h.1
   cases r with
   |zero=>exact À<|cl _ _ _ h
   |succ r=>exact À h.1
  |lh r=>
   rw[hm]at h;cases r with
   |zero=>exact À<|wt _ _ _ .jd _ _ h
   |succ r=>exact À h.1
  |fD p=>rw[hm]at h;exact À<|wt _ _ _ _ _ _ h
  |gp=>rw[hm]at h;exact À<|H.M _ _ _ h
 by_cases e1:i<F.L
 .rw[(p.l i Z e1).1]at h;exact QuitsD.status h
 have kh:=p.b;obtain⟨x,rfl⟩:∃x,i=F.L+x:=⟨i-F.L,Z⟩;cases he:E.N x with
 |some e=>
  rw[(p.k x e Z he).1]at h;cases e with
  |oS=>exact À h.2.1
  |gp p=>exact dn _ _ _ (λl g ⟨N,h⟩=>h.status) _ _ _ h
  |jy N=>exact QuitsD.status h
 |none=>
  cases x with
  |zero=>
   rw[ó,(p.m Z he).1]at h;cases hm:E.S with
   |kV k=>rw[hm]at h;exact À<|H.N _ _ _ h
   |mk k=>rw[hm]at h;let⟨s',V,_,_,_,_,h⟩:=h;exact À h.2.1
   |dn k p=>rw[hm]at h;exact dn _ _ _ (λl g h=>lO (λl g h=>À<|H.N _ _ _ h) h) _ _ _ h
  |succ j=>
   rw[show F.L+(j+1)=F.L+1+j by omega,(p.g j Z he).1]at h;cases hm:E.C j with
   |ny r=>rw[hm]at h;exact À h.1
   |fD r p=>rw[hm]at h;exact À<|wt _ _ _ _ _ _ h
   |jO r=>rw[hm]at h;exact À<|H.Y _ _ _ _ h
   |oQ r=>rw[hm]at h;exact À h.2.1
theorem ag2{T:gD}(h:k≠i):E.iY (fC tr i T) k=E.iY tr k:=by unfold fZ.iY;grind [fM]
theorem ag3{k:Ð->gD}(a:tr i=.jR k)(b:¬(0<i/\i<F.L)):za (E.iY (fC tr i<|k w) i) (E.iY tr i):=by
 unfold fZ.iY;split
 .rename_i e;subst e;rw[gI,a];exact Á ⟨U,Á ⟨U,w,U⟩⟩
 .split
  .grind
  .rw[gI,a];split
   .exact Á ⟨U,Á ⟨U,w,U⟩⟩
   .split<;>exact Á ⟨U,Á ⟨U,w,U⟩⟩
theorem PI.fx(H:gW F)(p:PI F m zX E S tr d lot gs w t){k:Ð->gD}(y:gs[i]?=Ã g)(o:tr i=.jR k): ∃gs' w' u e q,Ŏ F.P (ð gs w sl) i=(ğ<|ð gs' w' sl,u)/\gs'.size=gs.size/\PI F m zX E S e d q gs' w' (t++u)/\pB F.N (E.mu e gs') (E.mu tr gs):=by
 have c:=(Ö.1 y).1;let⟨gs',w',W,X,D,z,⟨Y,G,I⟩,J,f,K⟩:=p.I.fx (sl:=sl) y o<|ag1 H p c;have M:¬(0<i/\i<F.L):=λ⟨a,b⟩=>by rw[(p.l i a b).2.1]at o;cases o
 have C:=p.I.r;have B:∀j,j+2<=E.r->w'.heap[E.I j]?=w.heap[E.I j]?:=λj v=>agX p.a p.C C c f v;have O:i<F.N:=by
  have:=p.b;have:E.r<=F.n+1:=by
   unfold fZ.r;cases e:E.M with
   |go j=>have:=p.C.C j<|À e;simp only[gf.sp];omega
   |lN j=>have:=p.C.C j<|Á<|À e;simp only[gf.sp];omega
   |rd j=>have:=p.C.C j<|Á<|Á<|À e;simp only[gf.sp];omega
   |iI j=>have:=p.C.C j<|Á<|Á<|Á e;simp only[gf.sp];omega
   |_=>simp only[gf.sp];omega
  unfold Ph.N;omega
 refine⟨gs',w',_,_,_,D,z,⟨z.trans p.b,K,p.h,p.m,p.g,λx e h l=> ?_,λs h l=> ?_,?_,p.M.Kg H p.a (agW (E:=E) C c f) (Kh p.C) (XV p.a H.C C c f (À U) p.M.C) (λs q=>XV p.a H.C C c f (Á ⟨s,q,U⟩)<|p.M.I s q) B,p.C,p.d.C<|agY p.a p.C H.C C p.b c f,p.c.Ge G (by rcases I with q|q<;>rw[q]<;>simp) J B,λj r h l q=>(p.f j r h l q).app _⟩,À ⟨i,O,ag3 o M,λj _ v=>À<|ag2 v⟩⟩
 .let⟨Q,T,V⟩:=p.k x e h l;grind [fM]
 .let⟨Q,T,V⟩:=p.l s h l;grind [fM]
 .have:=p.a.fx C c f;grind
end
end Go.Proofs.Y.fB
namespace Go.Proofs.Y.fB
open Go Go.Conc Go.Proofs.Y.Lift
open Go.ConcN (sumTo sumTo_congr)
def ag4{J b:Jd}(c:∀l g,J l g->b l g):∀{T:gD} {l:fh} {g:Ä},lr P yQ J T l g->lr P yQ b T l g:=by
 intro T
 induction T with
 |fE=>exact λh a r=>c _ _<|h a r
 |jR k d=>
  intro l g h;refine⟨h.1,λa r=> ?_⟩;let⟨e,f,i,j,m,n,o⟩:=h.2 a r;exact⟨e,f,i,j,m,n,d a o⟩
section
variable{F:Ph}{E E':fZ F}{S:Nat->Jd}{tr d:Nat->gD}{kp:Nat->iD}{c:Nat->fh}{gs gs':Array Ä}{u:ä}{sl:Option (Nat×Nat)}
theorem gO.kV{Y:Nat->Prop}(a:gO P n Y S tr kp c gs w qJ){J:Jd}(h:∀l g,S i l g->J l g):gO P n Y (fC S i J) tr kp c gs w qJ:=by
 refine⟨a.r,λk x b=> ?_,a.I⟩;let⟨g0,d,f⟩:=a.C k x b;by_cases e:k=i
 .subst e;rw[gI];exact⟨g0,ag4 h d,f⟩
 .grind [fM]
def Dx:E.iY tr 0=(E.M.rk F,0,tr 0):=by simp[fZ.iY]
theorem Kk(ok:F.Ok){x:Nat}{e:iw}(a:E.N x=Ã e):E.iY tr (F.L+x)=((e.rk F).1,(e.rk F).2,tr<|F.L+x):=by have:=ok.r;unfold fZ.iY;grind
theorem XY(ok:F.Ok)(a:E.N 0=Í):E.iY tr F.L=(E.S.rk F,0,tr F.L):=by have:=ok.r;unfold fZ.iY;grind
theorem ua(ok:F.Ok)(a:E.N (j+1)=Í):E.iY tr (F.L+1+j)=((E.C j).rk F,0,tr<|F.L+1+j):=by have:=ok.r;unfold fZ.iY;grind
theorem zd(a:k=0->E'.M.rk F=E.M.rk F)(b:0<k->k<F.L->E'.h k=E.h k)(c:F.L<=k->E'.N (k-F.L)=E.N (k-F.L))(e:k=F.L->E.N 0=Í->E'.S.rk F=E.S.rk F)(f:F.L<k->E.N (k-F.L)=Í->(E'.C<|k-F.L-1).rk F=(E.C<|k-F.L-1).rk F)(g:d k=tr k):E'.iY d k=E.iY tr k:=by unfold fZ.iY;grind
def Gr(a:i<F.N)(h:za (E'.iY d i) (E.iY tr i))(b:∀k,k≠i->E'.iY d k=E.iY tr k):pB F.N (E'.mu d gs') (E.mu tr gs):= À ⟨i,a,h,λj _ c=>À<|b j c⟩
def Dy(a:Ps F E):E.r<=F.n+1:=by
 unfold fZ.r;cases b:E.M with
 |go j=>have:=a.C j<|À b;simp only[gf.sp];omega
 |lN j=>have:=a.C j<|Á<|À b;simp only[gf.sp];omega
 |rd j=>have:=a.C j<|Á<|Á<|À b;simp only[gf.sp];omega
 |iI j=>have:=a.C j<|Á<|Á<|Á b;simp only[gf.sp];omega
 |_=>simp only[gf.sp];omega
def PI.G(p:PI F b zX E S tr kp c gs w qJ)(h:i<gs.size):i<F.N:=by have:=p.b;have:=Dy p.C;unfold Ph.N;omega
def gU(E:fZ F)(j:Nat)(x:gR):fZ F:={E with C:=fC E.C j x}
theorem jS(j:Nat)(x:gR):(gU E j x).C j=x:=gI _ _ _
theorem iT(x:gR)(h:i≠j):(gU E j x).C i=E.C i:=fM _ _ h
theorem XZ{x:gR}(h:∀k,x.gH F j k=(E.C j).gH F j k)(k:Nat):(Ñ F.n λi=>((gU E j x).C i).gH F i k)=Ñ F.n λi=>(E.C i).gH F i k:=by grind [jS,iT]
def Dz(ok:F.Ok){x:gR}{T:gD}(b:F.L+1+j<F.N)(a:E.N (j+1)=Í)(h:x.rk F<(E.C j).rk F):pB F.N ((gU E j x).mu (fC tr (F.L+1+j) T) gs') (E.mu tr gs):=by
 refine Gr b (À ?_) λk c=>zd (λ_=>rfl) (λ_ _=>rfl) (λ_=>rfl) (λ_ _=>rfl) (λd _=> ?_)<|fM tr _ c
 .rwa[ua ok (E:=gU E j x) (show(gU E j x).N (j+1)=Í from a),ua ok a,jS]
 .rw[iT x Z]
def Ps.G(h:Ps F E){x:gR}(m:j+2<=E.r)(d:E.N (j+1)=Í)(c:∀k,x.gH F j k=(E.C j).gH F j k)(f:∀r,((∃p,x=.fD r p)\/x=.jO r\/x=.oQ r)->j+r*F.n<F.q) (g:∀r,(x=.fD r .gE\/x=.fD r .lu\/x=.jO r)->F.r (j+r*F.n)<=E.S.od) (i:∀r,x=.fD r .gE->∃a b,E.a (F.r<|j+r*F.n)=.hD a b) (l:∀r,x=.fD r .wr->E.d (F.r<|j+r*F.n)=Ã j):Ps F (gU E j x) where
 v:=h.v;C:=h.C;K:=h.K;L:=h.L;J:=h.J;I:=h.I;z j' oT:=by have:E.r<j'+2:=oT;rw[iT x Z];exact h.z j' oT
 d j' r oT hx:=by
  by_cases e:j'=j
  .subst e;rw[jS]at hx;exact f r hx
  .rw[iT x e]at hx;exact h.d j' r oT hx
 l j' oT hx:=by
  have e:j'≠j:=λe=>by subst e;exact hx d
  rw[iT x e];exact h.l j' oT hx
 f:=h.f;h:=h.h;M:=h.M;o:=h.o;t:=h.t;g:=h.g;u:=h.u;N:=h.N;B:=h.B;e k h1 h2 h3:=by rw[XZ c];exact h.e k h1 h2 h3
 Y k h1 h2:=by rw[XZ c];exact h.Y k h1 h2
 w j' r oT hx:=by
  by_cases e:j'=j
  .subst e;rw[jS]at hx;exact g r hx
  .rw[iT x e]at hx;exact h.w j' r oT hx
 H j' r oT hx:=by
  by_cases e:j'=j
  .subst e;rw[jS]at hx;exact i r hx
  .rw[iT x e]at hx;exact h.H j' r oT hx
 O:=h.O;S:=h.S;y:=h.y;D j' r oT hx:=by
  by_cases e:j'=j
  .subst e;rw[jS]at hx;exact l r hx
  .rw[iT x e]at hx;exact h.D j' r oT hx
def vH(E:fZ F)(j:Nat)(x:gR)(k:Nat)(G:GS)(a:Nat->Option Nat):fZ F:={gU E j x with a:=fC E.a k G,d:=a}
theorem Ps.X0(h:Ps F E){x:gR}{G:GS}{l:Nat->Option Nat}(Q:j+2<=E.r)(C:E.N (j+1)=Í)(D:∀c,c≠k->x.gH F j c=(E.C j).gH F j c) (H:1<=k->E.S.od<k->G=.cl 1 (Ñ F.n λi=>((fB.gU E j x).C i).gH F i k)) (I:k<=E.S.od->(∃W,(E.S=.dn k (.gE W)\/E.S=.dn k (.jg W))/\G=.jI W/\W=Ñ F.n λi=>((fB.gU E j x).C i).gH F i k)\/(∃r s,E.S=.dn k (.iE r)/\0<r/\G=.hD r s/\r+s=Ñ F.n λi=>((fB.gU E j x).C i).gH F i k)\/((∀p,E.S≠ .dn k p)/\((G=.cl 0 0/\(Ñ F.n λi=>((fB.gU E j x).C i).gH F i k)=0)\/∃s,G=.hD 0 s/\s=Ñ F.n λi=>((fB.gU E j x).C i).gH F i k))) (J:(∃a b,E.a k=.hD a b)->∃a b,G=.hD a b) (K:G=.cl 1 0->l k=Í) (L:∀c,c≠k->l c=E.d c) (S:∀y,E.d k=Ã y->l k=Ã y) (T:∀r,((∃p,x=.fD r p)\/x=.jO r\/x=.oQ r)->j+r*F.n<F.q) (M:∀r,(x=.fD r .gE\/x=.fD r .lu\/x=.jO r)->F.r (j+r*F.n)<=E.S.od) (N:∀r,x=.fD r .gE->∃a b,fC E.a k G (F.r<|j+r*F.n)=.hD a b) (O:∀r,x=.fD r .wr->l (F.r<|j+r*F.n)=Ã j):Ps F (vH E j x k G l):=by
 have z:∀c,c≠k->(Ñ F.n λi=>((vH E j x k G l).C i).gH F i c)=Ñ F.n λi=>(E.C i).gH F i c:=λc u=>by
  refine Ł λi _=> ?_;by_cases e:i=j
  .subst e;show((fB.gU E i x).C i).gH F i c=_;rw[jS,D c u]
  .show((fB.gU E j x).C i).gH F i c=_;rw[iT x e]
 have v:∀c,c≠k->(vH E j x k G l).a c=E.a c:=λc u=>fM _ _ u;have gs:(vH E j x k G l).a k=G:=gI _ _ _;have w:(vH E j x k G l).C j=x:=jS _ _;have o:∀d,d≠j->(vH E j x k G l).C d=E.C d:=λd g=>iT x g;refine⟨h.v,h.C,h.K,h.L,h.J,h.I,λd g=> ?_,λd r g f=> ?_,λd g f=> ?_,h.f,h.h,h.M,h.o,h.t,h.g,h.u,h.N,h.B,λc t m B=> ?_,λc t m=> ?_,λd r g f=> ?_,λd r g f=> ?_,h.O,h.S,λc t m=> ?_,λd r g f=> ?_⟩
 .have:E.r<d+2:=g;rw[o d Z];exact h.z d g
 .by_cases e:d=j
  .simp_all
  .rw[o d e]at f;exact h.d d r g f
 .rw[o d (λe=>by subst e;exact f C)];exact h.l d g f
 .by_cases e:c=k
  .subst e;rw[gs];exact H t B
  .rw[v c e,z c e];exact h.e c t m B
 .by_cases e:c=k
  .subst e;rw[gs];exact I m
  .rw[v c e,z c e];exact h.Y c t m
 .by_cases e:d=j
  .subst e;rw[w]at f;exact M r f
  .rw[o d e]at f;exact h.w d r g f
 .by_cases e:d=j
  .subst e;rw[w]at f;exact N r f
  .rw[o d e]at f;have:=h.H d r g f;by_cases P:F.r (d+r*F.n)=k
   .rw[P]at this|-;rw[gs];exact J this
   .grind
 .by_cases e:c=k
  .subst e;rw[gs]at m;exact K m
  .rw[v c e]at m;show l c=Í;rw[L c e];exact h.y c t m
 .by_cases e:d=j
  .subst e;rw[w]at f;exact O r f
  .rw[o d e]at f;have:=h.D d r g f;show l _=Ã d;grind
theorem iJ.r(h:iJ F E c n w){x:gR}(i:x.kJ=(E.C j).kJ):iJ F (gU E j x) c n w:=by
 have f:∀a,((fB.gU E j x).C a).kJ=(E.C a).kJ:=λa=>by grind [jS,iT]
 exact⟨h.gX,h.o,h.lY,h.e,h.f,λa b d r e g=>h.h a b d r e (by rwa[<-f]),h.l,h.S,h.M,h.c,h.I,h.N,h.g,λa b r d e=>h.d a b r d<|by rwa[<-f]⟩
theorem Wd.Y(h:Wd F E w){x:gR}(g:x.kJ=(E.C j).kJ)(i:x.iR=(E.C j).iR):Wd F (gU E j x) w:=by
 have c:∀a,((fB.gU E j x).C a).kJ=(E.C a).kJ:=λa=>by grind [jS,iT]
 have d:∀a,((fB.gU E j x).C a).iR=(E.C a).iR:=λa=>by grind [jS,iT]
 exact⟨h.C,h.I,λa b=>by rw[d];exact h.jL a b,h.M,h.S,λa b r e f=>h.N a b r e<|by rwa[<-c]⟩
structure qN(F:Ph)(E:fZ F)(S:Nat->Jd)(tr:Nat->gD)(kp:Nat->iD):Prop where
 M:S 0=JM F E.I E.M/\kp 0=kM E.M
 Y:0<E.r->E.N 0=Í->S F.L=JI F E.c E.S/\kp F.L=.no
 I:∀j,j+2<=E.r->E.N (j+1)=Í->S (F.L+1+j)=JW F (E.I j) j (E.C j)/\kp (F.L+1+j)=kW F (E.I j) (E.C j)
 C:∀x e,x<E.r->E.N x=Ã e->S (F.L+x)=JE F e/\kp (F.L+x)=.no/\((∃N,e=.jy N)->tr (F.L+x)=.fE)
 r:∀i,0<i->i<F.L->S i=pA F.P (E.h i)/\tr i=.fE/\kp i=.no
def PI.N(p:PI F b zX E S tr kp c gs w qJ):qN F E S tr kp:=⟨p.h,p.m,p.g,p.k,p.l⟩
def PI.r(a:qN F E S tr kp)(d:gs.size=F.L+E.r)(e:gO F.P F.S E.Y S tr kp c gs w qJ)(f:iJ F E c gs.size w)(g:Wd F E w)(h:Ps F E)(i:TI F.toFx b zX E.r E.S.rl E.V E.e E.d E.iB E.f qJ)(k:fp F E gs w) (l:∀j r,j+2<=E.r->E.C j=.jO r->1<=F.r (j+r*F.n)->Λ qJ (F.L+1+j) (E.e<|F.r<|j+r*F.n)):PI F b zX E S tr kp c gs w qJ:=⟨d,e,a.M,a.Y,a.I,a.C,a.r,f,g,h,i,k,l⟩
def qN.N(h:qN F E S tr kp)(ok:F.Ok){x:gR}{T:gD}(k:j+2<=E.r)(f:E.N (j+1)=Í):qN F (gU E j x) (fC S (F.L+1+j)<|JW F (E.I j) j x) (fC tr (F.L+1+j) T) (fC kp (F.L+1+j)<|kW F (E.I j) x):=by
 have:=ok.r;refine⟨by rw[fM S _ Z,fM kp _ Z];exact h.M,λb a=>by rw[fM S _ Z,fM kp _ Z];exact h.Y b a,λd b a=> ?_,λy e b a=> ?_,λi b a=>by rw[fM S _ Z,fM kp _ Z,fM tr _ Z];exact h.r i b a⟩
 .by_cases e:d=j
  .subst e;rw[gI,gI,jS];exact⟨U,U⟩
  .rw[fM S _ Z,fM kp _ Z,iT x e];exact h.I d b a
 .have c:F.L+y≠F.L+1+j:=λe=>by
   have g:y=j+1:=Z
   subst g;have:E.N (j+1)=Ã _:=a;rw[f]at this;cases this
  rw[fM S _ c,fM kp _ c,fM tr _ c];exact h.C y e b a
end
def uf(F:Fx)(e:đ):Prop:=(∃(x:Č) (a:Bool),F.G x/\e=⟨ú x,a,Ì⟩)\/e.loc=ŭ ô\/e.loc=ŭ î
theorem Gs{F:Fx}{e:đ}(h:uf F e){b:Touch}(c:(Ë e).touch?=Ã b):∃x,F.G x/\b.loc=ú x/\b.kind=.atomic:=by
 let⟨f,a,g⟩:=e;rcases h with⟨x,i,j,d⟩|h|h
 .injection d with e1 e2 e3;subst e1 e2 e3;have:(Ë ⟨ú x,a,Ì⟩).touch?=Ã ⟨ú x,a,.atomic⟩:=by cases a<;>rfl
  grind
 .simp only at h;subst h;simp[Ë,Ċ]at c
 .simp only at h;subst h;simp[Ë,Ċ]at c
section
variable{F:Ph}{E E':fZ F}{S:Nat->Jd}{tr l:Nat->gD}{f:Nat->iD}{c:Nat->fh}{gs gs':Array Ä}{u:ä}{m:Option (Nat×Nat)}
def ze(E:fZ F)(i:Nat):Prop:=i=0\/∃x,x<E.r/\i=F.L+x
theorem gO.N{Y:Nat->Prop}(e:gO P n Y S tr f c gs w qJ)(h:gs[i]?=Ã g)(k:g.status=Å)(j:tr i=.fE)(a:f i=.no\/f i=.iE):∀b,fL (c i) (c i).w b->S i {c i with w:=b} g:=by
 let⟨g0,hF,d,_,_⟩:=e.C i g h;rw[j]at hF;have:g=g0:=by rcases a with a|a<;>rw[a]at d<;>cases d;all_goals grind
 subst this;exact hF
theorem X1(b:TI F.toFx j zX E.r E.S.rl E.V E.e E.d E.iB E.f qJ)(c:ze E i)(d:n<j)(a:qJ.g? n=Ã 0):Λ qJ i n:=by
 rcases c with rfl|⟨x,e,rfl⟩
 .let⟨g,f,h⟩:=Ù.1 a;have:=knows_own f;grind
 .exact b.A4 x e n d a
theorem ag5(f:∀c,¬Race c qJ)(g:TI F.toFx j zX E.r E.S.rl E.V E.e E.d E.iB E.f qJ)(v:ze E i){d:Array đ}{h:Ĵ}{k:String}(l:∀e∈d,uf F.toFx e):∀c,¬Race c (qJ++Û i h k d):=by refine OC f ov λw m b n=> ?_;obtain⟨e,o,rfl⟩:=Ø m;let⟨x,r,s,t⟩:=Gs (l e o) n;refine Á (Á ⟨t,λp a u q y=> ?_⟩);rcases g.M p a x u (q.trans s) r with⟨y,z⟩|q|⟨q,_⟩;all_goals grind [X1]
def ag6(L:iJ F E c gs.size w)(ok:F.Ok)(C:iX F.S (λi=>i<gs.size) E.Y c w qJ)(f:∀e∈V,uf F.toFx e):∀e∈V,(∀b,(Ë e).touch?=Ã b->Gc (λi=>i<gs.size) E.Y c b)/\(Ë e).low w.heap.size:=by
 intro e g;refine⟨λb j=> ?_,?_⟩
 .let⟨x,a,d,_⟩:=Gs (f e g) j;exact À ⟨x,d,xm a,λk h=>L.Y ok a k h⟩
 .rcases f e g with⟨x,k,a,d⟩|h|h
  .subst d;have:=C.N _<|xm (E:=E) a;cases k<;>exact this
  .let⟨l,k,m⟩:=e;simp only at h;subst h;trivial
  .let⟨l,k,m⟩:=e;simp only at h;subst h;trivial
def A7(d:Nat)(a:Array đ):Prop:=∀(j:Nat) (e:đ),a[j]?=Ã e->(Ë e).touch?=Í\/((∃b c,e=⟨ú b,c,Ì⟩)/\0<Ï d (a.extract 0 j))
theorem ag7(L:iJ F E c gs.size w)(s:Ps F E)(C:iX F.S (λi=>i<gs.size) E.Y c w qJ)(t:ze E i){f:Array đ}{n:Ĵ}{o:String}(p:∀e∈f,uf F.toFx e) (u:∀x,E.iB x->i=F.L+x->(∀e∈f,∀b,(Ë e).touch?=Ã b->∃y:Č,b.loc=ú y/\y.block=F.C)/\A7 (κ qJ i) f):Ke F.toFx E.r E.S.rl E.V E.d E.iB qJ (Û i n o f) i:=by
 refine⟨λg d _ _=>ov g d,t.imp id À,λg d a x l _ _=> ?_,λg d a y l _ z k B m=> ?_,λg d b _ e=> ?_,λx H D=> ?_⟩
 .obtain⟨e,j,rfl⟩:=Ø d;grind [Gs]
 .obtain⟨e,j,rfl⟩:=Ø d;let⟨x,r,h,_⟩:=Gs (p e j) l;rw[z]at h;injection h with h;subst h;refine⟨λv=>(L.I k (Ô m<|Ki s) _ v).2.1<|xm r,λe=> ?_⟩;obtain⟨b,_,q|q⟩:=r<;>(rw[q]at e;simp[fS,gT,jj]at e)
 .obtain⟨r,j,rfl⟩:=Ø d;simp only at e;rcases p r j with⟨x,v,_,rfl⟩|h|h
  .cases v<;>simp[Ë]at e
  .let⟨q,v,G⟩:=r;simp only at h;subst h;simp[Ë]at e
  .let⟨q,v,G⟩:=r;simp only at h;subst h;simp[Ë]at e
 .by_cases e:F.L+x=i
  .let⟨B,m⟩:=u x D e.symm;subst e;refine⟨λr h=>h.appOwn n o f m,λ_ g d a l=> ?_⟩;obtain⟨e,j,rfl⟩:=Ø d;grind [Gs]
  .exact⟨λr h=>h.appOther ov<|ÿ e,λq=>absurd q e⟩
theorem zf(a:F.M b):∀e∈#[kG<|fS b],uf F.toFx e:=by
 intro e c;have:e=kG (fS b):=by simpa using c
 subst this;exact À ⟨_,É,(xl a).1,U⟩
def X2(a:F.M b):∀e∈#[mY<|fS b],uf F.toFx e:=by
 intro e c;have:e=mY (fS b):=by simpa using c
 subst this;exact À ⟨_,Ì,(xl a).1,U⟩
def A8(a:F.M b):∀e∈#[kG<|fS b,mY<|fS b],uf F.toFx e:=by
 intro e c;simp at c;rcases c with rfl|rfl
 .exact À ⟨_,É,(xl a).1,U⟩
 .exact À ⟨_,Ì,(xl a).1,U⟩
def Gt(a:F.M b):∀e∈õ (gT b),uf F.toFx e:=by
 intro e c;simp[õ]at c;rcases c with rfl|rfl|rfl|rfl
 .exact Á<|À U
 .exact À ⟨_,É,(xl a).2,U⟩
 .exact À ⟨_,Ì,(xl a).2,U⟩
 .exact Á<|Á U
def Gu(d:Nat):Ï d #[kG a,mY a]=d/\Ï d #[kG a]=d/\Ï d #[mY a]=d/\Ï d (õ a)=d:=by refine⟨U,U,U,?_⟩;simp[Ï,õ]
def Kl:A7 1 #[kG a,mY a]/\A7 1 #[kG a]/\A7 1 #[mY a]/\A7 1 (õ a):=by
 refine⟨λj e b=> ?_,λj e b=> ?_,λj e b=> ?_,λj e b=> ?_⟩
 .match j,b with
  |0,b=>obtain rfl:=È b;exact Á ⟨⟨a,É,U⟩,by simp[Ï]⟩
  |1,b=>obtain rfl:=È b;exact Á ⟨⟨a,Ì,U⟩,by simp[Ï,kG]⟩
  |j+2,b=>simp at b
 .match j,b with
  |0,b=>obtain rfl:=È b;exact Á ⟨⟨a,É,U⟩,by simp[Ï]⟩
  |j+1,b=>simp at b
 .match j,b with
  |0,b=>obtain rfl:=È b;exact Á ⟨⟨a,Ì,U⟩,by simp[Ï]⟩
  |j+1,b=>simp at b
 .match j,b with
  |0,b=>obtain rfl:=È b;exact À U
  |1,b=>obtain rfl:=È b;exact Á ⟨⟨a,É,U⟩,by simp[Ï,õ]⟩
  |2,b=>obtain rfl:=È b;exact Á ⟨⟨a,Ì,U⟩,by simp[Ï,õ]⟩
  |3,b=>obtain rfl:=È b;exact À U
  |j+4,b=>simp[õ]at b
def ag8(ok:F.Ok)(g:F.G a)(v:ã):Gp F E c gs.size w (w.setCell a v):=by
 refine⟨Õ j4.symm,λb _ f _=>lD λe=>f<|e▸(xm (E:=E) g),λd i _=>yV ?_,OU,U,U⟩;let⟨b,f,h⟩:=g;rcases i with⟨k,_,rfl⟩|⟨p,rfl⟩
 .right;rcases h with rfl|rfl<;>simp[fS,gT,jj]
 .left;rcases h with rfl|rfl<;>exact λe=>ok.C (by have j:b=F.Y:=e;rwa[<-j])
def ag9(L:iJ F E c gs.size w)(ok:F.Ok)(d:F.G a)(v:ã):p9 (λi=>i<gs.size) E.Y c w (w.setCell a v):= agK (xm d) (by obtain⟨b,_,rfl|rfl⟩:=d<;>rfl) (λk i=>L.Y ok d k i) λk i b e=>L.agV k i b e
def aha(c:Ps F E)(d:F.G a)(v:ã)(f:j+2<=E.r):(w.setCell a v).heap[E.I j]?=w.heap[E.I j]?:= lD λe=>(c.o j f).1 (by obtain⟨b,g,rfl|rfl⟩:=d<;>(rwa[e]))
def ahb(h:a=fS b\/a=gT b):a.block=b:=by rcases h with rfl|rfl<;>rfl
theorem iJ.C(L:iJ F E c n w){d:Nat}{w0:Ð}(y:w.heap.size<=W.heap.size):iJ F E (gC c i {c i with d:=d,w:=w0}) n W:=by
 have e:∀k,(gC c i {c i with d:=d,w:=w0} k).O=(c k).O/\(gC c i {c i with d:=d,w:=w0} k).I=(c k).I/\(gC c i {c i with d:=d,w:=w0} k).r=(c k).r/\(gC c i {c i with d:=d,w:=w0} k).N=(c k).N/\(gC c i {c i with d:=d,w:=w0} k).q=(c k).q:=λk=>by grind [gY,gK]
 have t:∀k,c k=kI (c k)->gC c i {c i with d:=d,w:=w0} k=kI (gC c i {c i with d:=d,w:=w0} k):=λk f=>by
  by_cases h:k=i
  .subst h;rw[gY];have a:(c k).O=λ_=>False:=by rw[f];rfl
   have b:(c k).I=λ_=>False:=by rw[f];rfl
   have g:(c k).r=λ_=>False:=by rw[f];rfl
   have j:(c k).N=λ_=>False:=by rw[f];rfl
   have l:(c k).q=True:=by rw[f];rfl
   simp only[kI,a,b,g,j,l]
  .grind [gK]
 refine⟨λk f a o=>L.gX k f a (by unfold fh.C at o|-;rwa[(e k).2.2.1,(e k).2.2.2.1]at o),λx g m a o=>by rw[(e 0).2.2.1];exact L.o x g m a o,λh=>by rw[(e 0).2.2.2.1,(e 0).2.1];exact L.lY h,λh k g m=>by rw[(e _).2.2.1];exact L.e h k g m,λh p=>by rw[(e _).2.2.2.1,(e _).2.1];exact L.f h p,λj l p r s g=>by rw[(e _).2.2.1];exact L.h j l p r s g,λj l p=>by rw[(e _).2.2.2.1,(e _).2.1];exact L.l j l p,λx u=>t _<|L.S x u,λk f=>by rw[(e k).2.2.2.2];exact L.M k f,λk g m=>t _<|L.c k g m,λk f b v=> ?_,λk f j l=>by rw[(e j).2.2.1];exact L.N k f j l,λk g m j l=>by rw[(e j).2.2.1];exact L.g k g m j l,λj l r s g k f=>by rw[(e k).2.2.1];exact L.d j l r s g k f⟩;let⟨z,B,D⟩:=L.I k f b v;grind
end
section
variable{F:Ph}{E E':fZ F}{S:Nat->Jd}{tr c:Nat->gD}{a:Nat->iD}{lot:Nat->fh}{gs gs':Array Ä}{u:ä}{sl:Option (Nat×Nat)}
def kK(b:Nat)(w W:Ð):Prop:=W=w\/∃x v,(x=fS b\/x=gT b)/\W=w.setCell x v
def kK.Dw(h:kK b w W):W.heap.size=w.heap.size:=by rcases h with rfl|⟨x,v,_,rfl⟩;all_goals simp_all
def kK.Kg(h:kK b w W)(ok:F.Ok)(a:F.M b):Gp F E lot gs.size w W:=by
 rcases h with rfl|⟨x,v,c,rfl⟩
 .exact⟨Ç _,λ_ _ _ _=>rfl,λ_ _ _=>rfl,U,U,U⟩
 .exact ag8 ok ⟨b,a,c⟩ v
def kK.r(h:kK b w W)(L:iJ F E lot gs.size w)(ok:F.Ok)(a:F.M b):p9 (λi=>i<gs.size) E.Y lot w W:=by
 rcases h with rfl|⟨x,v,i,rfl⟩
 .exact p9.gd _ _ _ _
 .exact ag9 L ok ⟨b,a,i⟩ v
def kK.C(h:kK b w W)(a:Ps F E)(c:F.M b)(d:j+2<=E.r):W.heap[E.I j]?=w.heap[E.I j]?:=by
 rcases h with rfl|⟨x,v,e,rfl⟩
 .rfl
 .exact aha a ⟨b,c,e⟩ v d
def kK.M(h:kK b w W)(c:i≠b){G:GS}(a:ij w i G):ij W i G:=by
 rcases h with rfl|⟨x,v,d,rfl⟩
 .exact a
 .exact a.iY<|by rw[ahb d];exact ÿ c
def kK.I(h:kK b w W)(H:gW F)(L:iJ F E lot gs.size w)(d:Ps F E)(a:Wd F E w)(f:F.M b){Ga:GS}{Gg:Nat->GS}(g:(b=F.C->ij W F.C Ga)/\(b≠F.C->Ga=E.b))(i:∀k,k<=F.m->(b=F.I k->ij W (F.I k) (Gg k))/\(b≠F.I k->Gg k=E.a k)):Wd F {E with b:=Ga,a:=Gg} W:=by
 refine a.Kg H L (h.Kg H.C f) (Kh d) ?_ (λk c=> ?_) λj e=>h.C d f e
 .by_cases e:b=F.C
  .exact g.1 e
  .rw[g.2 e];exact h.M (ÿ e) a.C
 .by_cases e:b=F.I k
  .exact(i k c).1 e
  .rw[(i k c).2 e];exact h.M (ÿ e)<|a.I k c
def PI.Y(H:gW F)(p:PI F b zX E S tr a lot gs w qJ){c:Ä}{f:Array đ}{J:Jd}{T:gD}(K:iD)(q:gs[i]?=Ã g)(j:ze E i)(r:F.M n)(s:è F.P (i==0) g w=ş c W f)(l:kK n w W)(h:∀e∈f,uf F.toFx e)(m:Ï (lot i).d f=(lot i).d) (t:∀x,E.iB x->i=F.L+x->(∀e∈f,∀n,(Ë e).touch?=Ã n->∃y:Č,n.loc=ú y/\y.block=F.C)/\A7 (κ qJ i) f) (hF:lr F.P (i==0) J T {lot i with w:=W} c) (v:c.status=Å\/c.status=å): ∃gs' u,Ŏ F.P (ð gs w sl) i=(ğ<|ð gs' W sl,u)/\gs'.size=gs.size/\gs'[i]?=Ã c/\(∀k,k≠i->gs'[k]?=gs[k]?.map (Ā F.P g c W))/\ gO F.P F.S E.Y (fC S i J) (fC tr i T) (fC a i K) (gC lot i {lot i with w:=W}) gs' W (qJ++u)/\TI F.toFx b zX E.r E.S.rl E.V E.e E.d E.iB E.f (qJ++u)/\iJ F E (gC lot i {lot i with w:=W}) gs'.size W:=by have C:=p.I.r;obtain⟨gs',z,k,B,D,o⟩:=p.I.qK q s (l.r p.a H.C r) (by rwa[m]) v (ag6 p.a H.C C h)<|ag5 C.l p.d j h;rw[m]at o;refine⟨gs',_,z,k,B,D,o,p.d.C<|ag7 p.a p.C C j h t,?_⟩;rw[k];exact p.a.C<|Õ l.Dw.symm
theorem fp.qK(B:fp F E gs w){a:Ä}(p:gs'[i]?=Ã a)(q:a.status≠Ü)(d:∀k,k≠i->gs'[k]?=gs[k]?.map (Ā F.P g a W))(t:∀j,j+2<=E.r->W.heap[E.I j]?=w.heap[E.I j]?) (u:E'.r=E.r) (v:E'.I=E.I) (z:∀x,F.L+x≠i->E'.N x=E.N x) (C:i≠0->E'.M=E.M) (D:∀j,F.L+1+j≠i->E'.C j=E.C j) (G:i≠0->E.M=.fD .kH->E.b.sm=0->E'.b.sm=0\/∀x,gs'[0]?=Ã x->x.status≠Ü) (H:∀j r,F.L+1+j≠i->E.C j=.fD r .kH->(E.a<|F.r<|j+r*F.n).sm=0->(E'.a<|F.r<|j+r*F.n).sm=0\/∀x,gs'[F.L+1+j]?=Ã x->x.status≠Ü):fp F E' gs' W:=by
 intro k x b f;by_cases e:k=i
 .grind
 .have I:=b;rw[d k e]at b;obtain⟨y,h,rfl⟩:=Ù.1 b;let⟨_,l⟩:=Gq f;rcases B k y h l with⟨J,m,c⟩|⟨j,K,M,m,⟨r,c,o⟩|⟨r,N,s,O,c,o⟩⟩;all_goals grind
def DC(a:j+2<=E.r):ze E (F.L+1+j):=Á ⟨j+1,Z,Z⟩
def Km(b:E.N (j+1)=Í):∀x,E.iB x->F.L+1+j=F.L+x->False:=λx ⟨e,a,_⟩ h2=>by
 have:x=j+1:=Z
 subst this;rw[b]at a;cases a
def Gv(ok:F.Ok)(h:i<F.q):F.M (F.I<|F.r i):=Á ⟨F.r i,ok.I i h,U⟩
def iU(a:gs[i]?=Ã g):i<gs.size:=(Ö.1 a).1
end
theorem xn{f f':Nat->Nat}:∀{n:Nat},j<n->(∀i,i≠j->f' i=f i)->Ñ n f'+f j=Ñ n f+f' j
 |n+1,h,hf=>by
  simp only[Ñ];rcases ģ j n with gP|a
  .have:=xn (n:=n) gP hf;rw[hf n Z];omega
  .obtain rfl:j=n:=Z
   rw[Ł λi b=>hf i Z];omega
def Gw{f:Nat->Nat}:∀{n:Nat},(∀i,f i<=1)->Ñ n f<=n
 |0,_=>Ç _
 |n+1,h=>by simp only[Ñ];have:=Gw (n:=n) h;have:=h n;omega
def O5{f:Nat->Nat}:∀{n:Nat},j<n->f j<=Ñ n f
 |n+1,h=>by
  simp only[Ñ];rcases ģ j n with gP|a
  .have:=O5 (f:=f) (n:=n) gP;omega
  .obtain rfl:j=n:=Z
   omega
def Gx{f:Nat->Nat}:∀n:Nat,(Ñ n λi=>f i+D i)=Ñ n f+Ñ n D
 |0=>rfl
 |n+1=>by simp only[Ñ];rw[Gx n];omega
def O6{f:Nat->Nat}(c:Nat):∀n:Nat,(Ñ n λi=>c*f i)=c*Ñ n f
 |0=>by simp[Ñ]
 |n+1=>by simp only[Ñ];rw[O6 c n,ł]
section
variable{F:Ph}{E E':fZ F}{S:Nat->Jd}{tr z:Nat->gD}{C:Nat->iD}{o:Nat->fh}{gs gs':Array Ä}{u:ä}{sl:Option (Nat×Nat)}
def ki(F:Ph)(b:Nat)(zX:π->Prop)(E:fZ F)(tr:Nat->gD)(gs:Array Ä)(w:Ð)(qJ:ä)(sl:Option (Nat×Nat))(i:Nat):Prop:=
 ∃(E':fZ F) (a:Nat->Jd) (z:Nat->gD) (c:Nat->iD) (d:Nat->fh) (gs':Array Ä) (W:Ð) (u:ä),Ŏ F.P (ð gs w sl) i=(ğ<|ð gs' W sl,u)/\gs'.size=gs.size/\(E'.M=.gp->E.M=.gp)/\PI F b zX E' a z c d gs' W (qJ++u)/\pB F.N (E'.mu z gs') (E.mu tr gs)
def rJ(F:Ph)(b:Nat)(zX:π->Prop)(E:fZ F)(tr:Nat->gD)(gs:Array Ä)(w:Ð)(qJ:ä):Prop:=
 ∃(E':fZ F) (a:Nat->Jd) (z:Nat->gD) (c:Nat->iD) (d:Nat->fh),(E'.M=.gp->E.M=.gp)/\PI F b zX E' a z c d gs w qJ/\pB F.N (E'.mu z gs) (E.mu tr gs)
def ahc(i:Nat):gw gs i<=1:=by unfold gw;split<;>omega
theorem X3(a:∀k,k<F.N->E'.iY z k=E.iY tr k)(b:i<F.N)(e:E'.lE i<E.lE i)(c:∀k,k≠i->E'.lE k=E.lE k):pB F.N (E'.mu z gs') (E.mu tr gs):=by
 refine Á ⟨a,?_⟩;show(Ñ F.N λi=>(F.N+1)*E'.lE i+gw gs' i)<Ñ F.N λi=>(F.N+1)*E.lE i+gw gs i;rw[Gx,Gx,O6,O6];have g:=xn b c;have h:=Gw (f:=gw gs') (n:=F.N) ahc;have d:Ñ F.N E'.lE+1<=Ñ F.N E.lE:=Z
 have j:(F.N+1)*(Ñ F.N E'.lE+1)<=(F.N+1)*Ñ F.N E.lE:=ï _ d;grind
theorem O7(a:∀k,k<F.N->E.iY z k=E.iY tr k)(b:i<F.N)(c:gw gs i=1)(d:gw gs' i=0)(e:∀k,k≠i->gw gs' k=gw gs k):pB F.N (E.mu z gs') (E.mu tr gs):=by refine Á ⟨a,?_⟩;show(Ñ F.N λi=>(F.N+1)*E.lE i+gw gs' i)<Ñ F.N λi=>(F.N+1)*E.lE i+gw gs i;rw[Gx,Gx];grind [xn]
theorem X4(ok:F.Ok)(j:Nat):E.lE (F.L+1+j)=match E.C j with|.fD r p=>p.lE F.B (E.a<|F.r<|j+r*F.n).st|_=>0:=by have:=ok.r;unfold fZ.lE;grind
def ahd{x:gR}(a:k≠F.L+1+j):(gU E j x).lE k=E.lE k:=by
 unfold fZ.lE;split
 .rfl
 .split
  .rfl
  .rw[iT x Z];rfl
def ahe(ok:F.Ok){r:Nat}{p a:SP}{T:gD}(d:F.L+1+j<F.N)(b:E.N (j+1)=Í)(c:E.C j=.fD r (.mq p))(f:tr (F.L+1+j)=.fE)(g:T=.fE)(h:a.rk F.B (E.a<|F.r<|j+r*F.n).st<p.rk F.B (E.a<|F.r<|j+r*F.n).st): pB F.N ((gU E j<|.fD r (.mq a)).mu (fC tr (F.L+1+j) T) gs') (E.mu tr gs):=by
 refine X3 (λk _=> ?_) d ?_ λk e=>ahd e
 .by_cases e:k=F.L+1+j
  .subst e;rw[ua ok (E:=gU E j _) (show(gU E j _).N (j+1)=Í from b),ua ok b,jS,gI,c,f,g];rfl
  .refine zd (λ_=>rfl) (λ_ _=>rfl) (λ_=>rfl) (λ_ _=>rfl) (λi _=> ?_)<|fM tr _ e;rw[iT _ Z]
 .rwa[X4 ok,X4 ok,jS,c]
def PI.DF(H:gW F)(p:PI F b zX E S tr C o gs w qJ){v:jz}(d:j+2<=E.r)(e:E.N (j+1)=Í)(f:gs[F.L+1+j]?=Ã g)(h:g.status=Å)(k:tr (F.L+1+j)=.fE)(l:E.C j=.fD i v): ∀w₁,fL (o<|F.L+1+j) (o<|F.L+1+j).w w₁->qM F.P É F.B (F.I<|F.r<|j+i*F.n) (F.e (E.I j)<|j+i*F.n) v {o (F.L+1+j)with w:=w₁} g:=by
 let⟨a,c⟩:=p.g j d e;rw[l]at a c;have m:C (F.L+1+j)=.no\/C (F.L+1+j)=.iE:=by rw[c];cases v<;>first|exact À U|exact Á U
 intro w₁ i;have:=p.I.N f h k m w₁ i;rwa[a]at this
def zg(ok:F.Ok)(j:Nat):(F.L+1+j==0)=É:=by have:=ok.r;simp
theorem PI.O8(H:gW F)(p:PI F b zX E S tr C o gs w qJ){x:gR}{l:fh}{T:gD}(u:j+2<=E.r)(m:E.N (j+1)=Í)(n:gs[F.L+1+j]?=Ã g)(v:g.status=Å\/g.status=å) (z:iX F.S (λi=>i<gs.size) E.Y (gC o (F.L+1+j) l) w qJ) (hF:lr F.P É (JW F (E.I j) j x) T l g) (B:iJ F (gU E j x) (gC o (F.L+1+j) l) gs.size w) (D:Wd F (gU E j x) w) (G:Ps F (gU E j x)) (I:x.rk F<(E.C j).rk F) (V:∀r,x≠ .jO r):rJ F b zX E tr gs w qJ:=by
 refine⟨gU E j x,_,_,_,_,λh=>h,.r (p.N.N H.C u m) p.b (p.I.M (K:=kW F (E.I j) x) n v z<|by rwa[zg H.C]) B D G p.d (λk y J M=> ?_) λa r f c d=> ?_,Dz H.C (p.G<|iU n) m I⟩
 .by_cases e:k=F.L+1+j
  .grind
  .rcases p.c k y J M with f|⟨a,q,t,c,d|⟨r,N,s,O,d,Q⟩⟩
   .exact À f
   .exact Á ⟨a,q,t,c,À<|by rwa[iT x Z]⟩
   .exact Á ⟨a,q,t,c,Á ⟨r,N,s,O,by rwa[iT x Z],Q⟩⟩
 .by_cases e:a=j
  .grind [jS]
  .rw[iT x e]at c;exact p.f a r f c d
theorem PI.ahf(H:gW F)(p:PI F b zX E S tr C o gs w qJ){r:Nat}(e:j+2<=E.r)(l:E.N (j+1)=Í)(m:gs[F.L+1+j]?=Ã g)(n:g.status=Å)(s:tr (F.L+1+j)=.fE)(c:E.C j=.fD r .jd):rJ F b zX E tr gs w qJ:=by
 have f:=iU m;let⟨k,y,t,u⟩:=(p.DF H e l m n s c) w<|p.I.r.r _ f;have v:iX F.S (λi=>i<gs.size) E.Y (gC o (F.L+1+j) {o (F.L+1+j)with w:=w}) w qJ:=p.I.r.C f (λ_ q=>q) (λa q=>À<|Á q) (λ_ q=>q) (λa q=>À<|Á q) U U U (p.I.r.m _ f)<|p.I.r.g _ f;refine p.O8 H (x:=.fD r (.mq (.gi k))) (T:=.fE) e l m (À n) v (λh a=>⟨t,JZ u a⟩) ?_ (p.M.Y (by rw[c];rfl)<|by rw[c];rfl) (p.C.G e l (λk=>by rw[c];rfl) (λa h=> ?_) (λa h=> ?_) (λa h=>by cases h) λa h=>by cases h) (by rw[c];simp only[gR.rk,jz.rk];omega) λa h=>by cases h
 .have:=(p.a.r (x:=.fD r (.mq (.gi k)))<|by rw[c];rfl).C (i:=F.L+1+j) (d:=(o<|F.L+1+j).d) (w0:=w)<|Ç _;exact this
 .rcases h with⟨_,h⟩|h|h<;>cases h;exact p.C.d j r e<|À ⟨_,c⟩
 .grind
def X5{y z:Int->Jd}{p:SP}{l:fh}{G:GS}(h:Dr P yQ (fS b) i y z p l g)(j:ij w b G):g.status=Å/\ ((∃f a e,è P yQ g w=ş a w e/\(e=#[]\/e=#[kG<|fS b])/\Dr P yQ (fS b) i y z f l a/\f.rk i G.st<p.rk i G.st)\/ (∃a,è P yQ g w=ş a w #[kG<|fS b]/\(∀c q,G=.cl c q->c=0)/\fq P yQ (y G.st) l a)\/ (∃a c q,G=.cl c q/\0<c/\è P yQ g w=ş a (w.setCell (fS b)<|ë Ó<|Ó.wrap<|G.st+1) #[kG<|fS b,mY<|fS b]/\fq P yQ (z G.st) l a)):=by
 let⟨T,C,x⟩:=h;let⟨J,d⟩:=x p g C;refine⟨J,?_⟩;have D:∀u,T u g->(∀n,u≠ .gi (n+1))->(∀v n,u≠ .ld v (n+1))->u.rk i G.st<=p.rk i G.st->((∃f a e,è P yQ g w=ş a w e/\(e=#[]\/e=#[kG<|fS b])/\Dr P yQ (fS b) i y z f l a/\f.rk i G.st<p.rk i G.st)\/ (∃a,è P yQ g w=ş a w #[kG<|fS b]/\(∀c q,G=.cl c q->c=0)/\fq P yQ (y G.st) l a)\/ (∃a c q,G=.cl c q/\0<c/\è P yQ g w=ş a (w.setCell (fS b)<|ë Ó<|Ó.wrap<|G.st+1) #[kG<|fS b,mY<|fS b]/\fq P yQ (z G.st) l a)):=by
  intro u C K L F;have d:=(x u g C).2;match u,d with
  |.gi (n+1),_=>exact absurd U<|K n
  |.ld v (n+1),_=>exact absurd U<|L v n
  |.gi 0,d=>
   let⟨a,o,k⟩:=d G.st;by_cases f:0<=G.st/\G.st<gk
   .rw[if_pos f]at k;have e:G.st<1000000:=by
     have t:=j.r;cases G with
     |cl c q=>
      let⟨H,I,m⟩:=t;simp only[GS.st,gk]at f|-;have:c=0:=Z
      have:=m this;omega
     |jI q=>simp only[GS.ok]at t;simp only[GS.st];omega
     |hD r s=>simp only[GS.st];omega
    exact Á<|À ⟨a,o w j.C,j.agO.1 f,k e⟩
   .rw[if_neg f]at k;have e:gk<=G.st/\G.st<gk*2147483648/\G.st%gk<1000000:=by
     have t:=j.r;cases G with
     |cl c q=>
      let⟨H,I,_⟩:=t;simp only[GS.st,gk]at f|-;omega
     |jI q=>simp only[GS.ok]at t;simp only[GS.st,gk]at f;omega
     |hD r s=>simp only[GS.st,gk]at f;omega
    let⟨m,M,E⟩:=k e;exact À ⟨.ld G.st m,a,_,o w j.C,Á U,⟨T,E,x⟩,Ê (by simp only[SP.rk,if_true];omega) F⟩
  |.ld v 0,⟨f,⟨a,o,k⟩,g'',E,n,hn,h4⟩=>
   by_cases e:G.st=v
   .subst e;have:∃c q,G=.cl c q/\0<c:=by
     have t:=j.r;cases G with
     |cl c q=>
      refine⟨c,q,U,?_⟩;let⟨H,I,_⟩:=t;simp only[GS.st,gk]at f;omega
     |jI q=>simp only[GS.ok]at t;simp only[GS.st,gk]at f;omega
     |hD r s=>simp only[GS.st,gk]at f;omega
    let⟨c,q,r,s⟩:=this;exact Á<|Á ⟨a,c,q,r,s,o w j.C j.I,k⟩
   .exact À ⟨.gi n,g'',_,E w G.st e j.C j.I,Á U,⟨T,h4,x⟩,Ê (by simp only[SP.rk,if_neg e];omega) F⟩
 match p,d with
 |.gi (n+1),⟨hn,d⟩=>
  rcases d with d|d
  .exact D (.gi 0) d (λn q=>by cases q) (λv n q=>by cases q)<|by simp only[SP.rk];omega
  .let⟨a,o,k⟩:=d w;exact À ⟨.gi n,a,#[],o,À U,⟨T,k,x⟩,by simp only[SP.rk];omega⟩
 |.gi 0,_=>exact D (.gi 0) C (λn q=>by cases q) (λv n q=>by cases q)<|Ç _
 |.ld v (m+1),⟨_,M,d⟩=>
  rcases d with d|d
  .exact D (.ld v 0) d (λn q=>by cases q) (λv n q=>by cases q)<|by simp only[SP.rk];split<;>omega
  .let⟨a,o,k⟩:=d w;exact À ⟨.ld v m,a,#[],o,À U,⟨T,k,x⟩,by simp only[SP.rk];split<;>omega⟩
 |.ld v 0,_=>exact D (.ld v 0) C (λn q=>by cases q) (λv n q=>by cases q)<|Ç _
def PI.ahg(H:gW F)(p:PI F b zX E S tr C o gs w qJ){r:Nat}{v:SP}(G:j+2<=E.r)(s:E.N (j+1)=Í)(hi:gs[F.L+1+j]?=Ã g)(iN:g.status=Å)(ht:tr (F.L+1+j)=.fE)(m:E.C j=.fD r (.mq v)):ki F b zX E tr gs w qJ sl (F.L+1+j):=by
 have gP:=iU hi;have ox:=p.C.d j r G<|À ⟨_,m⟩;have N:=Gv H.C ox;have X:=H.C.I _ ox;have hG:=p.M.I _ X;obtain⟨hd,oR⟩:=(p.DF H G s hi iN ht m) w<|p.I.r.r _ gP;have vI:j<F.n:=by have:=Dy p.C;omega
 have ns:=Km (E:=E) s;have mw:=zg H.C j;have xo:=p.G gP;obtain⟨_,oR⟩:=X5 oR hG;rcases oR with⟨p',g',es,h1,I,h3,h4⟩|⟨g',h1,I,h3⟩|⟨g',c,K,Q,ug,h1,I⟩
 .have hes:∀e∈es,uf F.toFx e:=by
   rcases I with rfl|rfl
   .intro e s;simp at s
   .exact zf N
  obtain⟨T',O9,A9⟩:=h3;obtain⟨gs',u,q1,V,q3,q4,q5,q6,q7⟩:=p.Y (J:=JW F (E.I j) j<|.fD r (.mq p')) (T:=.fE) H (kW F (E.I j)<|.fD r (.mq p')) hi (DC G) N (by rwa[mw]) (À U) hes (by rcases I with rfl|rfl<;>rfl) (λx hs e=>(ns x hs e).elim) (by rw[mw];exact λw₁ kL=>⟨hd,JZ ⟨T',O9,A9⟩ kL⟩)<|À (A9 _ _ O9).1;refine⟨gU E j<|.fD r (.mq p'),_,_,_,_,gs',w,u,q1,V,λh=>h,.r (p.N.N H.C G s) (V.trans p.b) q5 (q7.r<|by rw[m];rfl) (p.M.Y (by rw[m];rfl)<|by rw[m];rfl) (p.C.G G s (λk=>by rw[m];rfl) (λf h=> ?_) (λf h=> ?_) (λf h=>by cases h) λf h=>by cases h) q6 (p.c.qK (E':=gU E j _) q3 (by rw[(A9 _ _ O9).1];simp) q4 (λ_ _=>rfl) U U (λ_ _=>rfl) (λ_=>rfl) (λt e=>iT _ Z) (λ_ _ h=>À h) λ_ _ _ _ h=>À h) λt f O z Y=> ?_,ahe H.C xo s m ht U h4⟩
  .rcases h with⟨_,h⟩|h|h<;>cases h;exact ox
  .rcases h with h|h|h<;>cases h
  .rw[iT _ (λe=>by subst e;rw[jS]at z;cases z)]at z;exact(p.f t f O z Y).app u
 .obtain⟨T,hT⟩:=ju h3;have nt:=lO (λl g h=>À h.2.1) h3;obtain⟨gs',u,q1,V,q3,q4,q5,q6,q7⟩:=p.Y H (kW F (E.I j)<|.fD r .lu) hi (DC G) N (by rwa[mw]) (À U) (zf N) U (λx hs e=>(ns x hs e).elim) (by rwa[mw]) nt;refine⟨gU E j<|.fD r .lu,_,_,_,_,gs',w,u,q1,V,λh=>h,.r (p.N.N H.C G s) (V.trans p.b) q5 (q7.r<|by rw[m];rfl) (p.M.Y (by rw[m];rfl)<|by rw[m];rfl) (p.C.G G s (λk=>by rw[m];rfl) (λf h=> ?_) (λf h=> ?_) (λf h=>by cases h) λf h=>by cases h) q6 (p.c.qK (E':=gU E j _) q3 (by rcases nt with q|q<;>rw[q]<;>simp) q4 (λ_ _=>rfl) U U (λ_ _=>rfl) (λ_=>rfl) (λt e=>iT _ Z) (λ_ _ h=>À h) λ_ _ _ _ h=>À h) λt f O z Y=> ?_,Dz H.C xo s<|by rw[m];simp only[gR.rk,jz.rk];omega⟩
  .rcases h with⟨_,h⟩|h|h<;>cases h;exact ox
  .have:f=r:=by rcases h with h|h|h<;>cases h;rfl
   subst this;refine ă λBa=> ?_;have:=I _ _<|p.C.e _ Z X Ba;omega
  .rw[iT _ (λe=>by subst e;rw[jS]at z;cases z)]at z;exact(p.f t f O z Y).app u
 .have hcd:E.S.od<F.r (j+r*F.n):=by
   refine ñ λhle=> ?_;rcases p.C.Y _ X hle with⟨W,_,q,_⟩|⟨_,_,_,_,q,_⟩|⟨_,⟨q,_⟩|⟨_,q,_⟩⟩<;>(rw[Q]at q;cases q);omega
  have DG:=p.C.e _ Z X hcd;have e0:=Q.symm.trans DG;injection e0 with e1 e2;subst e1;have X6:K<=F.n:=by rw[e2];exact Gw λi=>by cases E.C i<;>simp only[gR.gH]<;>first|omega|(split<;>first|omega|(rename_i q _;cases q<;>simp[jz.sU]))
  have Gy:=H.C.gq;have Gz:=(Q▸hG:ij w (F.I<|F.r<|j+r*F.n) (.cl 1 K)).XP Z Z;obtain⟨hv,Gz⟩:=Gz;obtain⟨x,DK,Bb,X7,Kn,hx4⟩:∃(x:jz) (DK:Nat->Option Nat),(x=.wr\/x=.kH)/\fq F.P É (qM F.P É F.B (F.I<|F.r<|j+r*F.n) (F.e (E.I j)<|j+r*F.n) x) {o (F.L+1+j)with w:=w} g'/\((∀M,M≠F.r (j+r*F.n)->DK M=E.d M)/\∀y,E.d (F.r<|j+r*F.n)=Ã y->DK (F.r<|j+r*F.n)=Ã y)/\(x=.wr->DK (F.r<|j+r*F.n)=Ã j):=by
   by_cases hz:K=0
   .subst hz;refine⟨.wr,fC E.d (F.r<|j+r*F.n)<|Ã j,À U,?_,⟨λM tX=>fM _ _ tX,λy hy=> ?_⟩,λ_=>gI _ _ _⟩
    .have:E.a (F.r<|j+r*F.n)=.cl 1 0:=Q;rw[this]at I;have e:(GS.cl 1 0).st%gk=0:=A
     simp only[e,if_true]at I;exact I
    .rw[p.C.y _ X Q]at hy;cases hy
   .refine⟨.kH,E.d,Á U,?_,⟨λ_ _=>rfl,λ_ h=>h⟩,λh=>by cases h⟩;have:E.a (F.r<|j+r*F.n)=.cl 1 K:=Q;rw[this]at I;have e:¬(GS.cl 1 K).st%gk=0:=by simp only[GS.st,gk];omega
    simp only[e,if_false]at I;exact I
  have hxw:x.sU=1:=by rcases Bb with rfl|rfl<;>rfl
  have X8:=X7.kg (w₁:=w.setCell (fS<|F.I<|F.r<|j+r*F.n)<|ë Ó<|Ó.wrap<|(GS.cl 1 K).st+1) (by have D:=(kK.r (Á ⟨fS<|F.I<|F.r<|j+r*F.n,_,À U,U⟩:kK (F.I<|F.r<|j+r*F.n) w (w.setCell (fS<|F.I<|F.r<|j+r*F.n)<|ë Ó<|Ó.wrap<|(GS.cl 1 K).st+1)) p.a H.C N);exact⟨Õ D.r.symm,λd ly=>D.jY d<|p.I.r.I _ gP d ly,λa ha=>D.M _ gP a ha,λa ha=>D.N _ gP a ha,λa _=>D.I a⟩);obtain⟨T,hT⟩:=ju X8;have X9:=lO (λl g h=>by rcases Bb with rfl|rfl<;>exact À h.2.1) X7;have Pa:kK (F.I<|F.r<|j+r*F.n) w (w.setCell (fS<|F.I<|F.r<|j+r*F.n)<|ë Ó<|Ó.wrap<|(GS.cl 1 K).st+1):=Á ⟨_,_,À U,U⟩;obtain⟨gs',u,q1,V,q3,q4,q5,q6,q7⟩:=p.Y H (kW F (E.I j)<|.fD r x) hi (DC G) N (by rw[mw];exact(Q▸h1)) Pa (A8 N) U (λx hs e=>(ns x hs e).elim) (by rwa[mw]) X9;have sV:=xn (f':=λi=>((gU E j<|.fD r x).C i).gH F i<|F.r<|j+r*F.n) vI (λi lF=>by rw[iT _ lF]);simp only[jS,m]at sV;have uh:gR.gH F j (F.r<|j+r*F.n) (.fD r x)=1:=by simp only[gR.gH,if_true,hxw]
  have sW:gR.gH F j (F.r<|j+r*F.n) (.fD r (.mq v))=0:=by simp only[gR.gH,if_true];rfl
  rw[uh,sW]at sV;refine⟨vH E j (.fD r x) (F.r<|j+r*F.n) (.cl 1 (K+1)) DK,_,_,_,_,gs',_,u,q1,V,λh=>h,.r ?_ (V.trans p.b) q5 ?_ ?_ (p.C.X0 G s (λM tX=> ?_) (λ_ _=> ?_) (λh=>by omega) (λ⟨a,d,h⟩=> ?_) (λh=>by injection h with _ h;omega) Kn.1 Kn.2 (λf h=> ?_) (λf h=> ?_) (λf h=> ?_) λf h=> ?_) (q6.agR λM y hy=> ?_) ?_ λt f O z Y=> ?_,?_⟩
  .have:=p.N.N (x:=.fD r x) (T:=T) H.C G s;exact⟨this.M,this.Y,this.I,this.C,this.r⟩
  .have:=q7.r (x:=.fD r x) (by rw[m];rfl);exact⟨this.gX,this.o,this.lY,this.e,this.f,this.h,this.l,this.S,this.M,this.c,this.I,this.N,this.g,this.d⟩
  .have W1:=Pa.I H p.a p.C p.M N (Gg:=fC E.a (F.r<|j+r*F.n)<|.cl 1 (K+1)) ⟨λe=>absurd e<|H.C.M _ X,λ_=>rfl⟩ λM tX=>⟨λe=> ?_,λe=>fM _ _ λe'=>e<|by rw[e']⟩
   .have W2:=W1.Y (x:=.fD r x) (by show _=(E.C j).kJ;rw[m];rfl) (by show _=(E.C j).iR;rw[m];rfl);exact⟨W2.C,W2.I,W2.jL,W2.M,W2.S,W2.N⟩
   .rwa[<-(H.C.S _ _ X tX e),gI]
  .rw[m];simp only[gR.gH,if_neg<|ÿ tX]
  .congr 1;rw[<-e2]at sV;omega
  .rw[Q]at h;cases h
  .rcases h with⟨_,h⟩|h|h<;>cases h;exact ox
  .rcases h with h|h|h<;>cases h<;>(rcases Bb with h|h<;>cases h)
  .cases h;rcases Bb with h|h<;>cases h
  .cases h;exact hx4 U
  .by_cases e:M=F.r (j+r*F.n)
   .subst e;exact Kn.2 y hy
   .show DK M=Ã y;rwa[Kn.1 M e]
  .refine p.c.qK (E':=vH E j _ _ _ _) q3 (by rcases X9 with q|q<;>rw[q]<;>simp) q4 (λt oT=>Pa.C p.C N oT) U U (λ_ _=>rfl) (λ_=>rfl) (λt e=>iT _ Z) (λ_ _ h=>À h) λt f _ _ h=>À ?_;by_cases e:F.r (t+f*F.n)=F.r (j+r*F.n)
   .show(fC E.a _ _ _).sm=0;rw[e,gI];rfl
   .show(fC E.a _ _ _).sm=0;rwa[fM _ _ e]
  .have e:t≠j:=λe=>by
    subst e;have:(gU E t<|.fD r x).C t=.jO f:=z;rw[jS]at this;cases this
   have Bc:(gU E j<|.fD r x).C t=.jO f:=z;rw[iT _ e]at Bc;exact(p.f t f O Bc Y).app u
  .have:=Dz (E:=E) (tr:=tr) (gs:=gs) (gs':=gs') (x:=.fD r x) (T:=T) H.C xo s (by rw[m];rcases Bb with rfl|rfl<;>simp only[gR.rk,jz.rk]<;>omega);rcases this with⟨i,O,z,Y⟩|⟨O,_⟩
   .exact À ⟨i,O,z,Y⟩
   .exfalso;have:=O _ xo;change(gU E j<|.fD r x).iY (fC tr (F.L+1+j) T) (F.L+1+j)=E.iY tr (F.L+1+j)at this;rw[ua H.C (E:=gU E j _) (show(gU E j _).N (j+1)=Í from s),ua H.C s,jS,m]at this;injection this with e _;rcases Bb with rfl|rfl<;>simp only[gR.rk,jz.rk]at e<;>omega
end
section
variable{F:Ph}{E E':fZ F}{S:Nat->Jd}{s D:Nat->gD}{B:Nat->iD}{f:Nat->fh}{c o:Array Ä}{u:ä}{sl:Option (Nat×Nat)}
def PI.Pd(H:gW F)(p:PI F j zX E S s B f c w qJ){x:gR}{a:Ä}{T:gD}(y:i+2<=E.r)(d:E.N (i+1)=Í)(z:c[F.L+1+i]?=Ã g)(C:Ŏ F.P (ð c w sl) (F.L+1+i)=(ğ<|ð o w sl,u))(l:o.size=c.size)(D:o[F.L+1+i]?=Ã a)(G:a.status=Å\/a.status=å)(I:∀k,k≠F.L+1+i->o[k]?=c[k]?.map (Ā F.P g a w)) (J:gO F.P F.S E.Y (fC S (F.L+1+i)<|JW F (E.I i) i x) (fC s (F.L+1+i) T) (fC B (F.L+1+i)<|kW F (E.I i) x) (gC f (F.L+1+i) {f (F.L+1+i)with w:=w}) o w (qJ++u)) (K:TI F.toFx j zX E.r E.S.rl E.V E.e E.d E.iB E.f (qJ++u)) (M:iJ F E (gC f (F.L+1+i) {f (F.L+1+i)with w:=w}) o.size w) (m:x.kJ=(E.C i).kJ) (N:x.iR=(E.C i).iR) (O:Ps F (gU E i x)) (Q:x.rk F<(E.C i).rk F) (W:∀r,x=.jO r->1<=F.r (i+r*F.n)->Λ (qJ++u) (F.L+1+i) (E.e<|F.r<|i+r*F.n)):ki F j zX E s c w qJ sl (F.L+1+i):=by
 refine⟨gU E i x,_,_,_,_,o,w,u,C,l,λh=>h,.r (p.N.N H.C y d) (l.trans p.b) J (M.r m) (p.M.Y m N) O K (p.c.qK (E':=gU E i _) D (by rcases G with q|q<;>rw[q]<;>simp) I (λ_ _=>rfl) U U (λ_ _=>rfl) (λ_=>rfl) (λb e=>iT _ Z) (λ_ _ h=>À h) λ_ _ _ _ h=>À h) λb t X q v=> ?_,Dz H.C (p.G<|iU z) d Q⟩
 .by_cases e:b=i
  .subst e;rw[jS]at q;exact W t q v
  .rw[iT _ e]at q;exact(p.f b t X q v).app u
def Pe{r:Nat}{v:jz}(h:v.sU=0):gR.gH F j k (.fD r v)=0:=by simp only[gR.gH,h];split<;>rfl
def xp{a:Ă}(h:a∈#[wQ]):a=wQ:=by simpa using h
def ahh{i:Nat}{fn:Ĵ}{pos:String}{m:Ο}:∃y:Ă,Û i fn pos #[jZ m]=#[y]/\y.g=i/\y.act=ė m:=⟨{g:=i,fn,pos,act:=ė m},by simp[Û,jZ,Ë],U,U⟩
def PI.Bd(H:gW F)(p:PI F j zX E S s B f c w qJ){a:Ä}{m:Ο}{J:Jd}{T:gD}(K:iD)(v:c[i]?=Ã g)(x:è F.P (i==0) g w=ş a w #[jZ m])(z:m≠ô)(C:m≠î) (D:∀y:Ă,y.act=ė m->(∀b,y.act.touch?=Ã b->Gc (λi=>i<c.size) E.Y f b)/\y.act.low w.heap.size) (G:∀y:Ă,y.g=i->y.act=ė m->∀I,¬Race I (qJ++#[y])) (hF:lr F.P (i==0) J T {f i with w:=w} a) (L:a.status=Å\/a.status=å): ∃o y,y.g=i/\y.act=ė m/\Ŏ F.P (ð c w sl) i=(ğ<|ð o w sl,#[y])/\o.size=c.size/\o[i]?=Ã a/\(∀k,k≠i->o[k]?=c[k]?.map (Ā F.P g a w))/\ gO F.P F.S E.Y (fC S i J) (fC s i T) (fC B i K) (gC f i {f i with w:=w}) o w (qJ++#[y])/\iJ F E (gC f i {f i with w:=w}) o.size w:=by
 obtain⟨y,l,n,h⟩:=ahh;have r:Ï (f i).d #[jZ m]=(f i).d:=ĺ (λe k=>by
  have:e=jZ m:=by simpa using k
  subst this;exact⟨λq=>z (by injection q),λq=>C (by injection q)⟩) _
 have M:∀e∈#[jZ m],Ë e=y.act:=λe k=>by
  have:e=jZ m:=by simpa using k
  subst this;rw[h];rfl
 obtain⟨o,q,t,N,O,u⟩:=p.I.qK v x (p9.gd _ _ _ _) (by rwa[r]) L (λe k=>by rw[M e k];exact D y h) (by rw[l];exact G y n h);rw[r,l]at u;rw[l]at q;refine⟨o,y,n,h,q,t,N,O,u,?_⟩;rw[t];exact p.a.C<|Ç _
def Pf(H:gW F)(p:PI F j zX E S s B f c w qJ)(hb:F.M b)(D:ze E i){m:Ο}(N:m=.read (gT b)\/m=Υ (gT b))(T:F.OZ E.d (gT b) (Ã i))(W:∀x,E.iB x->i≠F.L+x): (∀y:Ă,y.act=ė m->(∀b,y.act.touch?=Ã b->Gc (λi=>i<c.size) E.Y f b)/\y.act.low w.heap.size)/\(∀y:Ă,y.g=i->y.act=ė m->∀O,¬Race O (qJ++#[y]))/\∀y:Ă,y.g=i->y.act=ė m->TI F.toFx j zX E.r E.S.rl E.V E.e E.d E.iB E.f (qJ++#[y]):=by
 have C:=p.I.r;have G:∀y:Ă,y.act=ė m->∀a,y.act.touch?=Ã a->a.loc=ú (gT b)/\a.kind=.said:=λy t a l=>by rw[t]at l;rcases N with rfl|rfl<;>simp[Ċ]at l<;>subst l<;>exact⟨U,U⟩
 have u:=(xl hb).2;refine⟨λy t=>⟨λa l=>À ⟨_,(G y t a l).1,xm u,λk D=>p.a.Y H.C u k D⟩,?_⟩,λy I t=>λO=> ?_,λy I t=> ?_⟩
 .have:=C.N _<|xm (E:=E) u;rw[t];rcases N with rfl|rfl<;>exact this
 .refine noRace_append (C.l O) (λd h=>by rw[xp h,I]) λq a l d h z hz X=> ?_;have:d=y:=by simpa using h
  subst this;let⟨n,P⟩:=G d t z hz;rcases p.d.M q a _ l (X.1.trans n) u with⟨J,o⟩|r|⟨_,r⟩
  .exact X1 p.d D J o
  .let⟨_,_,_,v⟩:=X;rw[r,P]at v;rcases v with v|v|⟨_,v,_⟩<;>cases v
  .have e:qJ.g? q=Ã i:=by
    rcases T with⟨K,M⟩|⟨k,v,K,M,s3,s4⟩
    .rcases r with⟨_,o⟩|⟨k,v,Q,o,_,_⟩
     .rw[o,M]
     .rw[K]at o;exact absurd (by injection o with o _ _;exact o.symm)<|H.C.M k Q
    .rcases r with⟨J,_⟩|⟨k',j',Q,o,r3,r4⟩
     .rw[M]at J;exact absurd (by injection J)<|H.C.M k K
     .rw[M]at o;have:k=k':=H.C.S _ _ K Q (by injection o);subst this;rw[s3]at r3;obtain rfl:=È r3;rw[r4,s4]
   let⟨M,v,K⟩:=Ù.1 e;have:=knows_own v;rwa[K]at this
 .refine p.d.C ⟨λd h a _=>by rw[xp h,I],D.imp id À,λd h a x l o K=> ?_,λd h a z l Q o k X J=> ?_,λd h b' _ e=> ?_,λx K q=>⟨λr M=>M.appOther (λd h=>by rw[xp h,I])<|W x q,λe=>absurd e.symm<|W x q⟩⟩
  .have:d=y:=by simpa using h
   subst this;let⟨n,P⟩:=G d t a l;rw[o]at n;injection n with n;subst n;exact Á ⟨P,T⟩
  .have:d=y:=by simpa using h
   subst this;let⟨n,_⟩:=G d t a l;rw[o]at n;injection n with n;subst n;exact⟨λv=>(p.a.I k (Ô J<|Ki p.C) _ v).2.1<|xm u,λe=>by simp[gT,jj]at e⟩
  .have:d=y:=by simpa using h
   subst this;rw[t]at e;rcases N with rfl|rfl<;>simp at e
theorem PI.ahi(H:gW F)(p:PI F j zX E S s B f c w qJ){r:Nat}(b:i+2<=E.r)(d:E.N (i+1)=Í)(q:c[F.L+1+i]?=Ã g)(z:g.status=Å)(C:s (F.L+1+i)=.fE)(a:E.C i=.fD r .wr):ki F j zX E s c w qJ sl (F.L+1+i):=by let⟨Y,_,g',D,t⟩:=p.DF H b d q z C a w<|p.I.r.r _<|iU q;have u:=p.C.d i r b<|À ⟨_,a⟩;have v:=zg H.C i;let⟨G,I,K⟩:=Pf H p (Gv H.C u) (DC b) (m:=Υ<|gT<|F.I<|F.r<|i+r*F.n) (Á U) (Á ⟨_,i,H.C.I _ u,U,p.C.D i r b a,U⟩) λx h e=>(Km (E:=E) d) x h e;let⟨T,M⟩:=ju t;have x:=lO (λl g h=>À h.2.1) t;obtain⟨o,y,l,N,O,P,Q,V,W,X⟩:=p.Bd (J:=JW F (E.I i) i<|.fD r .kH) H (kW F (E.I i)<|.fD r .kH) q (by rw[v];exact D w) ft ft G I (by rwa[v]) x;refine p.Pd H b d q O P Q x V W (K y l N) X (by rw[a];rfl) (by rw[a];rfl) (p.C.G b d (λk=>by rw[a];rfl) (λe h=> ?_) (λe h=> ?_) (λe h=>by cases h) λe h=>by cases h) (by rw[a];simp only[gR.rk,jz.rk];omega) (λe h=>by cases h);all_goals grind
theorem PI.ahj(H:gW F)(p:PI F j zX E S s B f c w qJ){r:Nat}(m:i+2<=E.r)(n:E.N (i+1)=Í)(q:c[F.L+1+i]?=Ã g)(G:g.status=Å)(I:s (F.L+1+i)=.fE)(d:E.C i=.fD r .gE):ki F j zX E s c w qJ sl (F.L+1+i):=by
 let⟨hd,_,K⟩:=p.DF H m n q G I d w<|p.I.r.r _<|iU q;have v:=p.C.d i r m<|À ⟨_,d⟩;have y:=Gv H.C v;have z:=zg H.C i;let⟨a,b,M⟩:=p.C.H i r m d;have C:=p.M.I _<|H.C.I _ v;rw[M]at C;let⟨g',N,t⟩:=K 0;simp only[if_true]at t;let⟨T,O⟩:=ju t;have D:=lO (λl g h=>À h.2.1) t;obtain⟨o,u,l,P,Q,V,W,X,Y⟩:=p.Y (J:=JW F (E.I i) i<|.fD r .lu) H (kW F (E.I i)<|.fD r .lu) q (DC m) y (by rw[z];exact N w C.C) (À U) (zf y) U (λx k e=>(Km n x k e).elim) (by rwa[z]) D;refine p.Pd H m n q l P Q D V W X Y (by rw[d];rfl) (by rw[d];rfl) (p.C.G m n (λk=>by rw[d];rfl) (λe h=> ?_) (λe h=> ?_) (λe h=>by cases h) λe h=>by cases h) (by rw[d];simp only[gR.rk,jz.rk];omega) λe h=>by cases h
 .grind
 .rcases h with h|h|h<;>cases h;exact p.C.w i r m<|À d
theorem PI.ahk(H:gW F)(p:PI F j zX E S s B f c w qJ){r:Nat}(d:i+2<=E.r)(t:E.N (i+1)=Í)(q:c[F.L+1+i]?=Ã g)(I:g.status=Å)(K:s (F.L+1+i)=.fE)(a:E.C i=.fD r .lu):ki F j zX E s c w qJ sl (F.L+1+i):=by
 have v:=iU q;let⟨M,_,g',N,x⟩:=p.DF H d t q I K a w<|p.I.r.r _ v;have O:=p.C.d i r d<|À ⟨_,a⟩;have C:=Gv H.C O;have D:=zg H.C i;have u:∀y:Ă,y.act=ė (ő<|fS<|F.I<|F.r<|i+r*F.n)->y.act.touch?=Í:=λy m=>by rw[m];rfl
 let⟨T,P⟩:=ju x;have G:=lO (λl g h=>À<|H.Y _ _ _ _ h) x;obtain⟨o,y,Q,l,V,W,X,Y,q5,q7⟩:=p.Bd (J:=JW F (E.I i) i<|.jO r) H (kW F (E.I i)<|.jO r) q (by rw[D];exact N w) ft ft (λy m=>⟨λz k=>(by rw[u y m]at k;cases k),by rw[m];exact p.I.r.N _<|À C⟩) (λy _ m=>A0 p.I.r.l λz k=>by rw[xp k];exact u y m) (by rwa[D]) G;have DL:=p.d.C (yZ (λz k=>by rw[xp k];exact u y l) λz k b _ e=>by grind);refine p.Pd H d t q V W X G Y q5 DL q7 (by rw[a];rfl) (by rw[a];rfl) (p.C.G d t (λk=>by rw[a,Pe U];rfl) (λk h=> ?_) (λk h=> ?_) (λk h=>by cases h) λk h=>by cases h) (by rw[a];simp only[gR.rk,jz.rk];omega) λk h z=> ?_
 .grind
 .rcases h with h|h|h<;>cases h;exact p.C.w i r d<|Á<|À a
 .cases h;let⟨k,b,e⟩:=p.d.Y _ z<|Ô (p.C.w i r d<|Á<|À a)<|O4 _;exact XS k b e (p.d.c _ C) Q l<|(p.I.r.f _ v).trans M
end
section
variable{F:Ph}{E E':fZ F}{S:Nat->Jd}{tr o:Nat->gD}{f:Nat->iD}{d:Nat->fh}{gs gs':Array Ä}{u:ä}{sl:Option (Nat×Nat)}
def Ya{G:GS}(h:G.sm≠0):∃a s,G=.hD a (s+1):=by
 cases G with
 |cl c b=>exact absurd U h
 |jI b=>exact absurd U h
 |hD a s=>cases s with
  |zero=>exact absurd U h
  |succ s=>exact⟨a,s,U⟩
def DN(h:gs[i]?=Ã g):gw gs i=if g.status=Å then 1 else 0:=by unfold gw;rw[h];simp
def Pg(h:gs'[i]?=gs[i]?):gw gs' i=gw gs i:=by unfold gw;rw[h]
theorem PI.ahl(H:gW F)(p:PI F n zX E S tr f d gs w qJ){j r:Nat}{g:Ä}(t:j+2<=E.r)(m:E.N (j+1)=Í)(v:gs[F.L+1+j]?=Ã g)(z:g.status=Å)(ht:tr (F.L+1+j)=.fE)(c:E.C j=.fD r .kH):ki F n zX E tr gs w qJ sl (F.L+1+j):=by
 have B:=iU v;obtain⟨hd,_,ho,Pj,g',h1,h2⟩:=(p.DF H t m v z ht c) w<|p.I.r.r _ B;have Q:=p.C.d j r t<|À ⟨_,c⟩;have C:=Gv H.C Q;have G:=H.C.I _ Q;have V:=zg H.C j;have X:=p.G B;have vI:j<F.n:=by have:=Dy p.C;omega
 have hG:=p.M.I _ G;by_cases K:(E.a<|F.r<|j+r*F.n).sm=0
 .have q:=hG.M;rw[K]at q;obtain⟨uh,I⟩:=p.g j t m;rw[c]at uh I;obtain⟨gs',q1,o,M,q4⟩:=OL v (by rw[V];exact(Pj w q));have s:∀x,Ā F.P g {g with status:=Ü} w x=x:=by
   intro x;unfold Ā;rw[if_neg ft]
  have b:∀k,k≠F.L+1+j->gs'[k]?=gs[k]?:=by
   intro k a;rw[q4 k a];cases gs[k]? with
   |none=>rfl
   |some x=>simp[s]
  have D:gO F.P F.S E.Y S tr f d gs' w (qJ++#[]):=by
   rw[Ú];obtain⟨g0,J,l,W,O⟩:=p.I.C _ g v;have N:g=g0:=by
    rw[I]at l;cases l with
    |gw=>rfl
    |nY h ho=>cases z
   subst N;refine⟨?_,λk y a=> ?_,λk a=>p.I.I k<|by rwa[<-o]⟩
   .rw[show(λi=>i<gs'.size)=(λi=>i<gs.size) by rw[o]];exact p.I.r
   .by_cases e:k=F.L+1+j
    .subst e;rw[M]at a;obtain rfl:=È a;refine⟨g,J,?_,À z,Á ht⟩;rw[I];exact .nY z ho
    .rw[b k e]at a;exact p.I.C k y a
  refine⟨E,S,tr,f,d,gs',w,#[],q1,o,λh=>h,.r p.N (o.trans p.b) D (by rw[o];exact p.a) p.M p.C (by rw[Ú];exact p.d) (λk y a l=> ?_) (by rw[Ú];exact p.f),O7 (λ_ _=>rfl) X (by rw[DN v,if_pos z]) (by rw[DN M,if_neg ft]) λk a=>Pg<|b k a⟩;by_cases e:k=F.L+1+j
  .subst e;exact Á ⟨j,t,m,U,À ⟨r,c,K⟩⟩
  .rw[b k e]at a;exact p.c k y a l
 .obtain⟨a,s,y⟩:=Ya K;have Pk:=y▸hG;have DR:=h1 w _ (by simp only[GS.sm];omega) Pk.M Pk.N;have N:kK (F.I<|F.r<|j+r*F.n) w (w.setCell (gT<|F.I<|F.r<|j+r*F.n)<|ë ç<|(GS.hD a<|s+1).sm-1):=Á ⟨_,_,Á U,U⟩;have D:=N.r p.a H.C C;obtain⟨T,hT⟩:=ju (h2.kg (w₁:=w.setCell (gT<|F.I<|F.r<|j+r*F.n)<|ë ç<|(GS.hD a<|s+1).sm-1) ⟨Õ D.r.symm,λb l=>D.jY b<|p.I.r.I _ B b l,λa k=>D.M _ B a k,λa k=>D.N _ B a k,λa _=>D.I a⟩);have nt:=lO (λl g h=>À h.2.1) h2;obtain⟨gs',u,q1,o,M,q4,q5,q6,q7⟩:=p.Y H (kW F (E.I j)<|.fD r .gE) v (DC t) C (by rwa[V]) N (Gt C) (Gu _).2.2.2 (λx l e=>(Km m x l e).elim) (by rwa[V]) nt;have hle:F.r (j+r*F.n)<=E.S.od:=by
   refine ă λl=> ?_;have:=p.C.e _ Z G l;rw[y]at this;cases this
  have sV:=xn (f':=λi=>((gU E j<|.fD r .gE).C i).gH F i<|F.r<|j+r*F.n) vI (λi l=>by rw[iT _ l]);simp only[jS,c]at sV;have uh:gR.gH F j (F.r<|j+r*F.n) (.fD r .gE)=0:=by simp only[gR.gH,if_true];rfl
  have I:gR.gH F j (F.r<|j+r*F.n) (.fD r .kH)=1:=by simp only[gR.gH,if_true];rfl
  rw[uh,I]at sV;refine⟨vH E j (.fD r .gE) (F.r<|j+r*F.n) (.hD a s) E.d,_,_,_,_,gs',_,u,q1,o,λh=>h,.r ?_ (o.trans p.b) q5 ?_ ?_ (p.C.X0 t m (λl q=> ?_) (λ_ h=>by omega) (λ_=> ?_) (λ_=>⟨a,s,U⟩) (λh=>by cases h) (λ_ _=>rfl) (λ_ h=>h) (λb h=> ?_) (λb h=> ?_) (λb h=> ?_) λb h=>by cases h) q6 ?_ λk b J O a3=> ?_,?_⟩
  .have:=p.N.N (x:=.fD r .gE) (T:=T) H.C t m;exact⟨this.M,this.Y,this.I,this.C,this.r⟩
  .have:=q7.r (x:=.fD r .gE) (by rw[c];rfl);exact⟨this.gX,this.o,this.lY,this.e,this.f,this.h,this.l,this.S,this.M,this.c,this.I,this.N,this.g,this.d⟩
  .have W:=N.I H p.a p.C p.M C (Gg:=fC E.a (F.r<|j+r*F.n)<|.hD a s) ⟨λe=>absurd e<|H.C.M _ G,λ_=>rfl⟩ λl q=>⟨λe=> ?_,λe=>fM _ _ λe'=>e<|by rw[e']⟩
   .have l:=W.Y (x:=.fD r .gE) (by show _=(E.C j).kJ;rw[c];rfl) (by show _=(E.C j).iR;rw[c];rfl);exact⟨l.C,l.I,l.jL,l.M,l.S,l.N⟩
   .rw[<-(H.C.S _ _ G q e),gI];exact Pk.kH
  .rw[c];simp only[gR.gH,if_neg<|ÿ q]
  .rcases p.C.Y _ G hle with⟨W,_,q,_⟩|⟨r1,s1,l,z2,q,z3⟩|⟨l,⟨q,_⟩|⟨s1,q,z3⟩⟩
   .rw[y]at q;cases q
   .rw[y]at q;injection q with e1 e2;subst e1 e2;exact Á<|À ⟨a,s,l,z2,U,Z⟩
   .rw[y]at q;cases q
   .rw[y]at q;injection q with e1 e2;subst e1 e2;exact Á<|Á ⟨l,Á ⟨s,U,Z⟩⟩
  .rcases h with⟨_,h⟩|h|h<;>cases h;exact Q
  .rcases h with h|h|h<;>cases h;exact hle
  .cases h;exact⟨a,s,gI _ _ _⟩
  .refine p.c.qK (E':=vH E j _ _ _ _) M (by rcases nt with q|q<;>rw[q]<;>simp) q4 (λk l=>N.C p.C C l) U U (λ_ _=>rfl) (λ_=>rfl) (λk e=>iT _ Z) (λ_ _ h=>À h) λk b _ _ h=>À ?_;by_cases e:F.r (k+b*F.n)=F.r (j+r*F.n)
   .rw[e]at h;exact absurd h K
   .show(fC E.a _ _ _).sm=0;rwa[fM _ _ e]
  .have e:k≠j:=λe=>by
    subst e;have:(gU E k<|.fD r .gE).C k=.jO b:=O;rw[jS]at this;cases this
   have l:(gU E j<|.fD r .gE).C k=.jO b:=O;rw[iT _ e]at l;exact(p.f k b J l a3).app u
  .have:=Dz (E:=E) (tr:=tr) (gs:=gs) (gs':=gs') (x:=.fD r .gE) (T:=T) H.C X m (by rw[c];simp only[gR.rk,jz.rk];omega);rcases this with⟨i,J,O,a3⟩|⟨J,_⟩
   .exact À ⟨i,J,O,a3⟩
   .exfalso;have:=J _ X;change(gU E j<|.fD r .gE).iY (fC tr (F.L+1+j) T) (F.L+1+j)=E.iY tr (F.L+1+j)at this;rw[ua H.C (E:=gU E j _) (show(gU E j _).N (j+1)=Í from m),ua H.C m,jS,c]at this;injection this with e _;simp only[gR.rk,jz.rk]at e;omega
theorem iJ.ahm(L:iJ F E d i w){l:fh}(H:∀b,l.O b->(d n).O b)(I:∀b,(d n).I b->l.I b)(J:∀a,l.r a->(d n).r a)(K:∀a,(d n).r a->l.r a)(M:∀a,(d n).N a->l.N a)(N:∀a,l.C a->(∃k,k<=F.m/\a=jj F.toFx k)\/∃p,p≠F.f/\a=jw F p)(P:l.q=(d n).q)(s:¬l.q):iJ F E (gC d n l) i w:=by
 have D:∀k,d k=kI (d k)->k≠n:=λk f e=>by
  subst e;have:(d k).q:=by rw[f];trivial
  grind
 have Q:∀k b,(gC d n l k).O b->(d k).O b:=λk b h=>by grind [gY,gK]
 have t:∀k a,(gC d n l k).r a↔(d k).r a:=λk a=>by grind [gY,gK]
 have y:∀k b,(d k).I b->(gC d n l k).I b:=λk b h=>by grind [gY,gK]
 have z:∀k a,(d k).N a->(gC d n l k).N a:=λk a h=>by grind [gY,gK]
 refine⟨λk f a v=> ?_,λx c o a v=>(t _ _).2<|L.o x c o a v,λh=>⟨z _ _ (L.lY h).1,λb s=>y _ _<|(L.lY h).2 b s⟩,λh k c o=>⟨(t _ _).2 (L.e h k c o).1,(t _ _).2 (L.e h k c o).2⟩,λh u=>⟨z _ _ (L.f h u).1,λb s=>y _ _<|(L.f h u).2 b s⟩,λj g u r B c=>(t _ _).2<|L.h j g u r B c,λj g u=>⟨z _ _ (L.l j g u).1,λb s=>y _ _<|(L.l j g u).2 b s⟩,λx G=> ?_,λk f=> ?_,λk c o=> ?_,λk f b s=> ?_,λk f j g h=>L.N k f j g<|(t _ _).1 h,λk c o j g h=>L.g k c o j g<|(t _ _).1 h,λj g r B c k f h=>L.d j g r B c k f<|(t _ _).1 h⟩
 .by_cases e:k=n
  .grind [gY]
  .rw[gK d _ e]at v;exact L.gX k f a v
 .rw[gK d _<|D _<|L.S x G];exact L.S x G
 .by_cases e:k=n
  .grind [gY]
  .rw[gK d _ e];exact L.M k f
 .rw[gK d _<|D _<|L.c k c o];exact L.c k c o
 .let⟨S,T,V⟩:=L.I k f b s;grind
theorem PI.ahn(H:gW F)(p:PI F n zX E S tr f d gs w qJ){r:Nat}(o:j+2<=E.r)(s:E.N (j+1)=Í)(u:gs[F.L+1+j]?=Ã g)(x:g.status=Å)(I:tr (F.L+1+j)=.fE)(m:E.C j=.jO r):rJ F n zX E tr gs w qJ:=by
 have c:=iU u;have C:=p.I.r;obtain⟨y,z⟩:=p.g j o s;rw[m]at y z;have B:=p.I.N u x I (À z) w<|C.r _ c;rw[y]at B;have v:=p.C.d j r o<|Á<|À m;have J:=H.C.I _ v;have D:=p.C.w j r o<|Á<|Á m;have t:=Ô D<|Ô (O4 _)<|Ki p.C;obtain⟨K,M⟩:=p.M.M _ t;have N:=λa l=>by
  by_cases e:1<=F.r (j+r*F.n)
  .exact(p.d.I _ e (Ô D<|O4 _) a l).agP<|p.f j r o m e
  .have h:F.r (j+r*F.n)=0:=Z
   obtain⟨i,b⟩:=p.a.l j o s;rw[h]at l;rcases l with l|rfl
   .rw[p.C.v]at l;exact(C.S _ c).C a<|b _ l
   .exact(C.S _ c).r _ i
 have G:iX F.S (λi=>i<gs.size) E.Y (gC d (F.L+1+j) {d (F.L+1+j)with I:=λb=>(d<|F.L+1+j).I b\/E.V (F.r<|j+r*F.n) b,N:=λa=>(d<|F.L+1+j).N a\/a=jj F.toFx (F.r<|j+r*F.n),w:=w}) w qJ:=by
  refine C.C c (λ_ q=>q) (λb q=> ?_) (λ_ q=>q) (λa q=> ?_) U U U (λb h q=> ?_) λa l q=> ?_
  .rcases q with q|q
   .exact À<|Á q
   .obtain⟨i,k,O⟩:=p.a.I _ t b q;grind
  .rcases q with q|rfl
   .exact À<|Á q
   .exact Á ⟨À<|Á ⟨_,J,U⟩,λk e=>p.a.N _ t k e,N _<|Á U⟩
  .rcases q with q|q
   .exact C.m _ c b h q
   .exact(p.a.I _ t b q).2.2 _ c h
  .rcases q with q|rfl
   .exact C.g _ c a l q
   .exact p.a.N _ t _ c l
 have i:=G.M c;rw[gY]at i;obtain⟨T,O⟩:=ju (H.e (E.I j) j r _ _ _ g v B {d (F.L+1+j)with I:=λb=>(d<|F.L+1+j).I b\/E.V (F.r<|j+r*F.n) b,N:=λa=>(d<|F.L+1+j).N a\/a=jj F.toFx (F.r<|j+r*F.n),w:=w} i U (λb q=>q) U U U U U K M (Á U)<|p.a.h j o s r v<|by rw[m];exact Ç _);refine p.O8 H o s u (À x) G O ?_ (p.M.Y (by rw[m];rfl)<|by rw[m];rfl) (p.C.G o s (λk=>by rw[m];rfl) (λe h=> ?_) (λe h=> ?_) (λe h=>by cases h) λe h=>by cases h) ?_ λe h=>by cases h
 .refine(p.a.r<|by rw[m];rfl).ahm (λ_ q=>q) (λ_ q=>À q) (λ_ q=>q) (λ_ q=>q) (λ_ q=>À q) (λa l=> ?_) U (p.a.M (F.L+1+j)<|Á ⟨j+1,Z,Z,λ⟨e,h,_⟩=>by rw[s]at h;cases h⟩);rcases l with q|q|rfl
  .exact p.a.gX _ c a<|À q
  .exact p.a.gX _ c a<|Á q
  .grind
 .grind
 .grind
 .rw[m];simp only[gR.rk];have h:F.n+3000<=(F.n+3000)*(F.q+3-r):=â _ (by
   have:r<=F.q:=by have:r*1<=r*F.n:=ï _ H.C.N;omega
   omega)
  omega
def PI.aho(H:gW F)(p:PI F n zX E S tr f d gs w qJ){r:Nat}(G:j+2<=E.r)(I:E.N (j+1)=Í)(V:gs[F.L+1+j]?=Ã g)(iN:g.status=Å)(ht:tr (F.L+1+j)=.fE)(u:E.C j=.oQ r):rJ F n zX E tr gs w qJ:=by
 have D:=iU V;have C:=p.I.r;let⟨uh,sW⟩:=p.g j G I;rw[u]at uh sW;have hJ:=p.I.N V iN ht<|À sW;rw[uh]at hJ;let⟨hcell,hrecv⟩:=hJ w<|C.r _ D;have ox:=p.C.d j r G<|Á<|Á u;have Ko:=p.a.h j G I r ox (by rw[u];exact Ç _);have Kp:r<=F.q:=by have:r*1<=r*F.n:=ï _ H.C.N;omega
 have zh:iX F.S (λi=>i<gs.size) E.Y (gC d (F.L+1+j)<|vG F {d (F.L+1+j)with w:=w}<|j+r*F.n) w qJ:=by
  refine C.C D (λ_ q=>q) (λb q=>À<|Á q) (λ_ q=>q.1) (λa q=> ?_) U U U (λb t q=>C.m _ D b t q) λa s q=> ?_
  .rcases q with q|rfl
   .exact À<|Á q
   .exact À<|À Ko
  .rcases q with q|q
   .exact C.g _ D a s.1 q
   .exact s.2 q
 have hF:lr F.P É (JW F (E.I j) j<|.ny (r+1)) .fE (vG F {d (F.L+1+j)with w:=w}<|j+r*F.n) g:=λw₁ kL=>by let⟨Q,W,c,e⟩:=hrecv;exact⟨Q,W,c,λx=>(e x).kg kL⟩
 refine p.O8 H G I V (À iN) zh hF ?_ ?_ (p.C.G G I (λk=>by rw[u];rfl) (λm h=> ?_) (λm h=> ?_) (λm h=>by cases h) λm h=>by cases h) ?_ λm h=>by cases h
 .have L:=p.a;have J:∀k a,(gC d (F.L+1+j) (vG F {d (F.L+1+j)with w:=w}<|j+r*F.n) k).r a->(d k).r a:=λk a h=>by
   by_cases e:k=F.L+1+j
   .subst e;rw[gY]at h;exact h.1
   .rwa[gK d _ e]at h
  have K:∀k a,(d k).r a->a≠jw F (F.a<|j+r*F.n)->(gC d (F.L+1+j) (vG F {d (F.L+1+j)with w:=w}<|j+r*F.n) k).r a:=λk a h lM=>by
   by_cases e:k=F.L+1+j
   .subst e;rw[gY];exact⟨h,lM⟩
   .rwa[gK d _ e]
  have X:∀k a,(d k).N a->(gC d (F.L+1+j) (vG F {d (F.L+1+j)with w:=w}<|j+r*F.n) k).N a:=λk a h=>by
   by_cases e:k=F.L+1+j
   .subst e;rw[gY];exact À h
   .rwa[gK d _ e]
  have M:∀k,(gC d (F.L+1+j) (vG F {d (F.L+1+j)with w:=w}<|j+r*F.n) k).I=(d k).I/\(gC d (F.L+1+j) (vG F {d (F.L+1+j)with w:=w}<|j+r*F.n) k).O=(d k).O/\(gC d (F.L+1+j) (vG F {d (F.L+1+j)with w:=w}<|j+r*F.n) k).q=(d k).q:=λk=>by
   by_cases e:k=F.L+1+j
   .subst e;rw[gY];exact⟨U,U,U⟩
   .rw[gK d _ e];exact⟨U,U,U⟩
  have nb:∀k,d k=kI (d k)->k≠F.L+1+j:=λk W e=>by
   subst e;have:(d<|F.L+1+j).q:=by rw[W];trivial
   exact(p.a.M (F.L+1+j)<|Á ⟨j+1,Z,Z,λ⟨e,c,_⟩=>by rw[I]at c;cases c⟩) this
  have N:∀k,k≠F.L+1+j->k<gs.size->∀a,(d k).r a->a≠jw F (F.a<|j+r*F.n):=λk W GA a s e=>C.h _ _ GA D W a s (by rw[e];exact À Ko);refine⟨λk W a s=> ?_,λx c v a s=>K _ _ (L.o x c v a s) (N 0 (by have:=H.C.r;omega) (by have:=p.b;have:=H.C.r;omega) a<|L.o x c v a s),λh=>⟨X _ _ (L.lY h).1,λb t=>by rw[(M 0).1];exact(L.lY h).2 b t⟩,λh k c v=> ?_,λh B=>⟨X _ _ (L.f h B).1,λb t=>by rw[(M _).1];exact(L.f h B).2 b t⟩,λl o B m y c=> ?_,λl o B=>⟨X _ _ (L.l l o B).1,λb t=>by rw[(M _).1];exact(L.l l o B).2 b t⟩,λx Be=>by rw[gK d _<|nb _<|L.S x Be];exact L.S x Be,λk W=>by rw[(M k).2.2];exact L.M k W,λk c v=>by rw[gK d _<|nb _<|L.c k c v];exact L.c k c v,λk W b t=>⟨(L.I k W b t).1,(L.I k W b t).2.1,λi z=>by rw[(M i).2.1];exact(L.I k W b t).2.2 i z⟩,λk W i z h=>L.N k W i z<|J _ _ h,λk c v i z h=>L.g k c v i z<|J _ _ h,λl o m y c i z h=> ?_⟩
  .by_cases e:k=F.L+1+j
   .subst e;rw[gY]at s;rcases s with q|q|q
    .exact L.gX _ D a<|À q.1
    .exact L.gX _ D a<|Á q
    .exact Á ⟨_,H.C.Y.2 _ (by assumption),q⟩
   .rw[gK d _ e]at s;exact L.gX k W a s
  .have Q:F.L<gs.size:=by have:=p.b;have:0<E.r:=h;omega
   have:=L.e h k c v;exact⟨K _ _ this.1<|N _ Z Q _ this.1,K _ _ this.2<|N _ Z Q _ this.2⟩
  .by_cases e:l=j
   .subst e;rw[jS]at c;simp only[gR.kJ]at c;refine K _ _ (L.h l o B m y<|by rw[u];simp only[gR.kJ];omega) λq=> ?_;have Q:=H.C.a _ _ y ox (by injection q);have T:m*F.n=r*F.n:=Z
    have:=Nat.eq_of_mul_eq_mul_right H.C.N T;omega
   .rw[iT _ e]at c;have q:=L.h l o B m y c;have xq:l+2<=E.r:=o;exact K _ _ q<|N _ Z (by have:=p.b;omega) _ q
  .by_cases e:l=j
   .subst e;rw[jS]at c;simp only[gR.kJ]at c;by_cases Q:m=r
    .subst Q;by_cases T:i=F.L+1+l
     .subst T;rw[gY]at h;exact h.2 U
     .exact N i T z _ (J _ _ h) U
    .exact L.d l o m y (by rw[u];simp only[gR.kJ];omega) i z<|J _ _ h
   .rw[iT _ e]at c;exact L.d l o m y c i z<|J _ _ h
 .have W:=p.M;refine⟨W.C,W.I,λl o=> ?_,W.M,W.S,λl o m y c=> ?_⟩
  .by_cases e:l=j
   .subst e;have:=W.jL l o;rw[u]at this;rw[jS];exact this
   .rw[iT _ e];exact W.jL l o
  .by_cases e:l=j
   .subst e;rw[jS]at c;simp only[gR.kJ]at c;by_cases Q:m=r
    .subst Q;exact hcell
    .exact W.N l o m y<|by rw[u];simp only[gR.kJ];omega
   .rw[iT _ e]at c;exact W.N l o m y c
 .rcases h with⟨_,h⟩|h|h<;>cases h
 .rcases h with h|h|h<;>cases h
 .rw[u];simp only[gR.rk];have e:F.q+3-r=(F.q+3-(r+1))+1:=Z
  rw[e,ł];omega
end
def ahp{α:Type}(f:Nat->α)(i:Nat)(x y:α):fC (fC f i x) i y=fC f i y:=by funext k;unfold fC;split<;>rfl
section
variable{F:Ph}{E E':fZ F}{S:Nat->Jd}{tr o:Nat->gD}{d:Nat->iD}{lot:Nat->fh}{gs gs':Array Ä}{u:ä}{sl:Option (Nat×Nat)}{sz:Nat}
def qc{r:Nat}{a:Bool}(h:b≠i):(w.setChan i n q yQ j r a).heap[b]?=w.heap[b]?:=by unfold World.setChan;exact í<|ÿ h
def Kq{r:Nat}{a:Bool}(h:i<w.heap.size):(w.setChan i n q yQ j r a).heap[i]?=Ã (.chan n q yQ j r a):=by unfold World.setChan;simp[h]
def GB{r:Nat}{a:Bool}:(w.setChan i n q yQ j r a).heap.size=w.heap.size:=by unfold World.setChan;simp
def ahq(f:Ps F E)(c:j+2<=E.r){cap s r:Nat}{buf:Array ã}{cl tm:Bool}:Gp F E lot sz w (w.setChan (E.I j) cap buf cl s r tm):=by
 let⟨g,d,_⟩:=f.o j c;refine⟨Õ GB.symm,λb _ h _=>qc λe=>h<|Á<|Á ⟨j,c,e⟩,λa i _=>gQ (qc λe=> ?_),xg (qc λe=>d e.symm),U,U⟩;rcases i with⟨k,l,rfl⟩|⟨p,rfl⟩
 .exact g<|Á ⟨k,l,e.symm⟩
 .exact d e.symm
def Yb(a:Ps F E)(c:j+2<=E.r){cap s r:Nat}{buf:Array ã}{cl tm:Bool}(d:F.M b){G:GS}(h:ij w b G):ij (w.setChan (E.I j) cap buf cl s r tm) b G:=by have e:b≠E.I j:=λe=>(a.o j c).1<|e▸d;exact h.vF (gQ<|qc e) (gQ<|qc e) (xh<|qc e)<|xh<|qc e
def Wd.G(W:Wd F E w)(H:gW F)(L:iJ F E lot sz w)(g:Ps F E)(h:j+2<=E.r){cap s r:Nat}{buf:Array ã}{cl tm:Bool}: (∀k,k<=E.S.md->nz F k (E.c k)/\F.d k (E.c k) (E.V k) (w.setChan (E.I j) cap buf cl s r tm))/\(∀k,1<=k->k<=E.S.md->(w.setChan (E.I j) cap buf cl s r tm).cell? (jw F (F.b k))=Ã (.string (F.o k)))/\(∀c,c+2<=E.r->∀d,c+d*F.n<F.q->d<(E.C c).kJ->(w.setChan (E.I j) cap buf cl s r tm).cell? (jw F (F.a (c+d*F.n)))=Ã (.string (F.k (c+d*F.n))))/\ij (w.setChan (E.I j) cap buf cl s r tm) F.C E.b/\(∀k,k<=F.m->ij (w.setChan (E.I j) cap buf cl s r tm) (F.I k) (E.a k)):=by have e:=ahq (lot:=lot) (sz:=sz) (w:=w) g h (cap:=cap) (s:=s) (r:=r) (buf:=buf) (cl:=cl) (tm:=tm);refine⟨λk a=>⟨(W.M k a).1,H.S _ _ _ _ _ (W.M k a).2 (λb f=>e.C b (L.I k a b f).1 (L.I k a b f).2.1 (L.I k a b f).2.2) (e.r _ (À ⟨k,Ô a (Kh g),U⟩) (L.N k a)) (e.r _ (Á ⟨_,U⟩) (L.O3 H.C)) e.I e.M⟩,λk b f=>(e.r _ (Á ⟨_,U⟩) (L.g k b f)).trans (W.S k b f),λc b d f i=>(e.r _ (Á ⟨_,U⟩) (L.d c b d f i)).trans (W.N c b d f i),Yb g h (À U) W.C,λk a=>Yb g h (Á ⟨k,a,U⟩) (W.I k a)⟩
def iJ.DU(L:iJ F E lot sz w)(h:w.heap.size<=W.heap.size):iJ F E lot sz W:= ⟨L.gX,L.o,L.lY,L.e,L.f,L.h,L.l,L.S,L.M,L.c,λk a b c=>⟨Ê (L.I k a b c).1 h,(L.I k a b c).2⟩,L.N,L.g,L.d⟩
def Kr(c:TI F.toFx i zX E.r E.S.rl E.V E.e E.d E.iB E.f qJ)(h:xk u):TI F.toFx i zX E.r E.S.rl E.V E.e E.d E.iB E.f (qJ++u):= c.C<|yZ (λa b=>(h a b).1) λa b _ _=>(h a b).2 _
def gZ(E:fZ F)(x:Nat)(e:iw):fZ F:={E with N:=fC E.N x (Ã e)}
theorem qN.G(h:qN F E S tr d)(ok:F.Ok){x:Nat}{e:iw}{T:gD}(m:(∃N,e=.jy N)->T=.fE):qN F (fB.gZ E x e) (fC S (F.L+x)<|JE F e) (fC tr (F.L+x) T) (fC d (F.L+x) .no):=by
 have:=ok.r;have c:∀y,y≠x->(fB.gZ E x e).N y=E.N y:=λy k=>fM _ _ k;have g:(fB.gZ E x e).N x=Ã e:=gI _ _ _;refine⟨by rw[fM S _ Z,fM d _ Z];exact h.M,λb a=> ?_,λj b a=> ?_,λy l b a=> ?_,λi b a=>by rw[fM S _ Z,fM d _ Z,fM tr _ Z];exact h.r i b a⟩
 .have f:x≠0:=λq=>by subst q;rw[g]at a;cases a
  rw[c 0<|ÿ f]at a;rw[fM S _ Z,fM d _ Z];exact h.Y b a
 .have f:x≠j+1:=λq=>by subst q;rw[g]at a;cases a
  rw[c _<|ÿ f]at a;rw[fM S _ Z,fM d _ Z];exact h.I j b a
 .by_cases q:y=x
  .grind [gI]
  .rw[c y q]at a;rw[fM S _ Z,fM d _ Z,fM tr _ Z];exact h.C y l b a
def rK(F:Ph)(E:fZ F)(x:Nat):Nat×Nat:=match E.N x with
 |some e=>e.rk F
 |none=>if x=0 then(E.S.rk F,0)else((E.C<|x-1).rk F,0)
def ahr(ok:F.Ok)(x:Nat):E.iY tr (F.L+x)=((rK F E x).1,(rK F E x).2,tr<|F.L+x):=by
 have:=ok.r;unfold rK;cases a:E.N x with
 |some e=>rw[Kk ok a]
 |none=>
  cases x with
  |zero=>rw[ó,XY ok a];simp
  |succ j=>rw[show F.L+(j+1)=F.L+1+j by omega,ua ok a];simp
def DV(ok:F.Ok){x:Nat}{e:iw}{T:gD}(b:F.L+x<F.N)(h:(e.rk F).1<(rK F E x).1\/((e.rk F).1=(rK F E x).1/\(e.rk F).2<(rK F E x).2)):pB F.N ((fB.gZ E x e).mu (fC tr (F.L+x) T) gs') (E.mu tr gs):=by
 refine Gr b ?_ λk c=>zd (λ_=>rfl) (λ_ _=>rfl) (λa=>fM _ _ Z) (λ_ _=>rfl) (λ_ _=>rfl)<|fM tr _ c;rw[Kk ok (E:=fB.gZ E x e)<|gI _ _ _,ahr ok];rcases h with h|⟨a,d⟩
 .exact À h
 .exact Á ⟨a,À d⟩
def ahs{e:iw}(h:e.kX=mr (E.N i))(y:Nat):(fB.gZ E i e).G y=E.G y:=by
 unfold fZ.G;by_cases q:y=i
 .subst q;show(if y<E.M.ad F.n then mr (fC E.N y (Ã e) y)else 0)=_;rw[gI];show(if y<E.M.ad F.n then e.kX else 0)=_;rw[h]
 .show(if y<E.M.ad F.n then mr (fC E.N i (Ã e) y)else 0)=_;rw[fM _ _ q]
def aht{e:iw}(h:e.kX=mr (E.N i)):Ñ (F.n+1) (fB.gZ E i e).G=Ñ (F.n+1) E.G:=Ł λy _=>ahs h y
theorem Ps.gZ(h:Ps F E){x:Nat}{e:iw}(J:x<E.r)(v:e.kX=mr (E.N x))(w:∀p,E.N x=Ã (.gp p)->∀W,p≠ .gE W/\p≠ .jg W/\p≠ .iE W)(K:∀p,e=.gp p->∀W,p≠ .gE W/\p≠ .jg W/\p≠ .iE W) (z:∀j,x=j+1->j<E.M.ji F.n/\∃r,E.C j=.ny r/\∀i,j+i*F.n<F.q->i<r) (B:x=0->E.S=.kV F.m):Ps F (fB.gZ E x e):=by
 have b:∀y,y≠x->(fB.gZ E x e).N y=E.N y:=λy a=>fM _ _ a;have L:(fB.gZ E x e).N x=Ã e:=gI _ _ _;have g:=aht (E:=E) v;refine⟨h.v,h.C,h.K,h.L,h.J,h.I,h.z,h.d,λj C d=> ?_,λd=> ?_,λy a=> ?_,h.M,h.o,λc k f=>by rw[g];exact h.t c k f,λk f=> ?_,λr s f=> ?_,λy p a=> ?_,λD=>by rw[g];exact h.B D,h.e,h.Y,h.w,h.H,h.O,h.S,h.y,h.D⟩
 .by_cases q:j+1=x
  .exact z j q.symm
  .rw[b _ q]at d;exact h.l j C d
 .by_cases q:0=x
  .exact B q.symm
  .rw[b _ q]at d;exact h.f d
 .have:E.r<=y:=a;rw[b y Z];exact h.h y a
 .rw[g];let⟨l,o,y,t,u,G⟩:=h.g k f;refine⟨l,o,y,t,u,?_⟩;grind
 .rw[g];let⟨l,o,t⟩:=h.u r s f;refine⟨l,o,λG=> ?_⟩;let⟨y,H,I,u⟩:=t G;have:y≠x:=λq=>by subst q;exact(w _ u r).2.2 U
  exact⟨y,H,I,by rwa[b y this]⟩
 .by_cases q:y=x
  .grind
  .rw[b y q]at a;exact h.N y p a
theorem Yc{x:Nat}{e:iw}(h:i≠x):(fB.gZ E x e).iB i↔E.iB i:=by unfold fZ.iB;show(∃a,fC E.N x (Ã e) i=Ã a/\a.iB)↔_;rw[fM _ _ h]
theorem ahu{e:iw}:(fB.gZ E i e).iB i↔e.iB:=by unfold fZ.iB;show(∃a,fC E.N i (Ã e) i=Ã a/\a.iB)↔_;rw[gI];grind
theorem ahv{e:iw}(h:e.iB↔E.iB i)(y:Nat):(fB.gZ E i e).iB y↔E.iB y:=by grind [ahu,Yc]
theorem Yd{e:iw}(h:e.ow↔E.ow i)(y:Nat):(fB.gZ E i e).ow y↔E.ow y:=by unfold fZ.ow at h|-;show(∃a,fC E.N i (Ã e) y=Ã a/\a.ow)↔_;grind [gI,fM]
theorem iJ.gZ(L:iJ F E lot sz w){x:Nat}{e:iw}(h:e.ow↔E.ow x):iJ F (fB.gZ E x e) lot sz w:=by
 have d:∀y,(fB.gZ E x e).N y=Í->E.N y=Í:=λy c=>by
  by_cases q:y=x
  .subst q;have:fC E.N y (Ã e) y=Í:=c;grind [gI]
  .have:fC E.N x (Ã e) y=Í:=c;grind [fM]
 exact⟨L.gX,L.o,L.lY,L.e,λa b=>L.f a<|d _ b,λj a b=>L.h j a<|d _ b,λj a b=>L.l j a<|d _ b,λy c=>L.S y<|(Yd h y).1 c,λi f=>L.M i (f.imp id λ⟨y,a,b,g⟩=>⟨y,a,b,λq=>g<|(Yd h y).2 q⟩),L.c,L.I,L.N,L.g,L.d⟩
def Wd.gZ(W:Wd F E w){x:Nat}{e:iw}:Wd F (fB.gZ E x e) w:=⟨W.C,W.I,W.jL,W.M,W.S,W.N⟩
def TI.G(a:TI F.toFx i zX E.r E.S.rl E.V E.e E.d E.iB E.f qJ){x:Nat}{e:iw}(h:e.iB↔E.iB x):TI F.toFx i zX (fB.gZ E x e).r (fB.gZ E x e).S.rl (fB.gZ E x e).V (fB.gZ E x e).e (fB.gZ E x e).d (fB.gZ E x e).iB (fB.gZ E x e).f qJ:= {a with r:=λy b c=>a.r y b ((ahv h y).1 c)}
def PI.ahw(H:gW F)(p:PI F i zX E S tr d lot gs w qJ){r:Nat}(t:j+2<=E.r)(o:E.N (j+1)=Í)(M:gs[F.L+1+j]?=Ã g)(iN:g.status=Å)(ht:tr (F.L+1+j)=.fE)(C:E.C j=.ny r):ki F i zX E tr gs w qJ sl (F.L+1+j):=by
 have xo:=p.G<|iU M;obtain⟨uh,sW⟩:=p.g j t o;rw[C]at uh sW;have Pl:S (F.L+1+j)=xi F.P (F.L+1+j==0) (E.I j) F.z λx=>match x with
  |some v=>λl g=>v=F.c (j+r*F.n)->qM F.P É F.B (F.I<|F.r<|j+r*F.n) (F.e (E.I j)<|j+r*F.n) .jd l g
  |none=>A5 F:=by rwa[zg H.C j]
 have hY:E.Y (E.I j):=Á<|Á ⟨j,t,U⟩;obtain⟨buf,s,D,ui,Ye,zi,zj⟩:=p.M.jL j t;rw[C]at D Ye zi zj;simp only[gR.iR]at D Ye zi zj;have DW:=(p.I.r).N _ hY;by_cases Ba:r<s
 .have Bf:=zj 0 Z;rw[ó]at Bf;have ox:j+r*F.n<F.q:=by
   have:=(ui r).1 Ba;have:E.M.mM F.q<=F.q:=by cases E.M<;>simp only[gf.mM]<;>omega
   omega
  obtain⟨gs',u,T,g',O,f,Q,V,I,W,q7⟩:=p.I.ny M iN sW ht Pl hY D Bf<|kW F (E.I j)<|.fD r .jd;have q8:=q7.kV (λl g h=>by rw[gI]at h;exact h U);rw[ahp]at q8;obtain⟨z1,z2,z3,z4,z5⟩:=p.M.G H p.a p.C t;refine⟨gU E j<|.fD r .jd,_,_,_,_,gs',_,u,O,f,λh=>h,.r (p.N.N H.C t o) (f.trans p.b) q8 ?_ ⟨z4,z5,λv m=> ?_,z1,z2,λv m c pg a=> ?_⟩ (p.C.G t o (λk=>by rw[C,Pe U];rfl) (λc h=> ?_) (λc h=> ?_) (λc h=>by cases h) λc h=>by cases h) (Kr p.d W) (λk y b G=> ?_) λv c a1 J a3=> ?_,Dz H.C xo o ?_⟩
  .rw[f];exact((p.a.r<|by rw[C];rfl).DU<|Õ GB.symm)
  .by_cases e:v=j
   .subst e;rw[jS];refine⟨buf.extract 1 buf.size,s,Kq DW,ui,Ba,by rw[Array.size_extract];simp only[gR.iR];omega,λl lF=> ?_⟩;simp only[gR.iR]at lF|-;rw[Array.getElem?_extract];rw[if_pos Z];have:=zj (1+l) Z;rw[this,show r+(1+l)=r+1+l by omega]
   .rw[iT _ e];obtain⟨K,X,y1,y2⟩:=p.M.jL v m;refine⟨K,X,?_,y2⟩;show(w.setChan (E.I j) _ _ _ _ _ _).heap[E.I v]?=_;rwa[qc λq=>e<|p.C.M _ _ m t q]
  .by_cases e:v=j
   .subst e;rw[jS]at a;exact z3 v m c pg<|by rwa[C]
   .rw[iT _ e]at a;exact z3 v m c pg a
  .rcases h with⟨_,h⟩|h|h<;>cases h;exact ox
  .rcases h with h|h|h<;>cases h
  .by_cases e:k=F.L+1+j
   .subst e;rw[Q]at b;obtain rfl:=È b;rw[V]at G;cases G
   .rw[I k e]at b;rcases p.c k y b G with a|⟨v,m,zk,K,X|⟨r1,cap,s1,c,X,h4⟩⟩
    .exact À a
    .exact Á ⟨v,m,zk,K,À<|by rwa[iT _ Z]⟩
    .have e2:v≠j:=Z
     exact Á ⟨v,m,zk,K,Á ⟨r1,cap,s1,c,by rwa[iT _ e2],by show(w.setChan (E.I j) _ _ _ _ _ _).heap[E.I v]?=_;rwa[qc λq=>e2<|p.C.M _ _ m t q]⟩⟩
  .rw[iT _ (λe=>by subst e;rw[jS]at J;cases J)]at J;exact(p.f v c a1 J a3).app u
  .rw[C];simp only[gR.rk,jz.rk];have hm:F.n+3000<=(F.n+3000)*(F.q+3-r):=â _ (by
    have:r*1<=r*F.n:=ï _ H.C.N;omega)
   omega
 .have Pm:buf=#[]:=Array.size_eq_zero_iff.1 Z;subst Pm;have ahx:r=s:=Z
  by_cases p8:j<E.M.ji F.n
  .rw[show decide (j<E.M.ji F.n)=Ì by simpa using p8]at D;obtain⟨gs',u,T,g',O,f,Q,V,I,W,q7⟩:=p.I.ji (sl:=sl) M iN sW ht Pl hY D .no;have Yf:F.L+1+j=F.L+(j+1):=Z
   have GD:E.M.mM F.q=F.q:=by revert p8;cases E.M<;>simp only[gf.ji,gf.mM]<;>intro h<;>first|trivial|omega
   have Pn:¬E.iB (j+1):=λ⟨e,a,_⟩=>by rw[o]at a;cases a
   have Po:iw.iB .oS↔E.iB (j+1):=⟨λh=>h.elim,λh=>(Pn h).elim⟩;refine⟨fB.gZ E (j+1) .oS,_,_,_,_,gs',w,u,O,f,λh=>h,.r (p.N.G H.C λ⟨N,h⟩=>by cases h) (f.trans p.b) (by rwa[<-Yf]) (by rw[f];exact p.a.gZ ⟨λh=>h.elim,λ⟨e,a,_⟩=>by rw[o]at a;cases a⟩) p.M.gZ (p.C.gZ Z (by rw[o];rfl) (λp' h=>by rw[o]at h;cases h) (λp' h=>by cases h) (λv h=> ?_) λh=>by omega) ((Kr p.d W).G Po) (λk y b G=> ?_) λv c a1 J a3=>(p.f v c a1 J a3).app u,DV H.C (by rwa[<-Yf])<|À ?_⟩
   .have:v=j:=Z
    subst this;exact⟨p8,r,C,λl lF=>by rw[ahx];exact(ui l).2<|by rwa[GD]⟩
   .by_cases e:k=F.L+1+j
    .subst e;rw[Q]at b;obtain rfl:=È b;rw[V]at G;cases G
    .rw[I k e]at b;have l:∀v,F.L+1+v=k->(fB.gZ E (j+1) .oS).N (v+1)=E.N (v+1):=λv h=>fM _ _ Z;rcases p.c k y b G with a|⟨v,m,zk,K,X⟩
     .exact À a
     .exact Á ⟨v,m,by rwa[l v K.symm],K,X⟩
   .unfold rK;rw[o];simp only[iw.rk];rw[if_neg Z,Nat.add_sub_cancel,C];simp only[gR.rk];have hm:F.n+3000<=(F.n+3000)*(F.q+3-r):=â _ (by
     have a:=H.C.N;rcases Nat.eq_zero_or_pos r with l|l
     .omega
     .have K:=(ui (r-1)).1 Z;have:(r-1)*1<=(r-1)*F.n:=ï _ a;omega)
    omega
  .rw[show decide (j<E.M.ji F.n)=É by simpa using p8]at D;obtain⟨gs',g',O,f,Q,V,I,W⟩:=p.I.agI M iN sW ht Pl D;refine⟨E,S,tr,d,lot,gs',w,#[],O,f,λh=>h,.r p.N (f.trans p.b) (by rwa[Ú]) (by rw[f];exact p.a) p.M p.C (by rw[Ú];exact p.d) (λk y b l=> ?_) (by rw[Ú];exact p.f),O7 (λ_ _=>rfl) xo (by rw[DN M,if_pos iN]) (by rw[DN Q,if_neg (by rw[V];simp)]) λk b=>Pg<|I k b⟩;by_cases e:k=F.L+1+j
   .subst e;exact Á ⟨j,t,o,U,Á ⟨r,F.q,s,r,C,D⟩⟩
   .rw[I k e]at b;exact p.c k y b l
end
section
variable{F:Ph}{E E':fZ F}{S:Nat->Jd}{tr v:Nat->gD}{m:Nat->iD}{f:Nat->fh}{gs gs':Array Ä}{u:ä}{o:Option (Nat×Nat)}
def Bg(ok:F.Ok)(x:Nat):(F.L+x==0)=É:=by have:=ok.r;simp;omega
def GF(a:i<E.r):ze E (F.L+i):=Á ⟨i,a,U⟩
def PI.Bh(p:PI F n zX E S tr m f gs w qJ){x:Nat}{e:iw}(b:x<E.r)(c:E.N x=Ã e)(d:gs[F.L+x]?=Ã g)(h:g.status=Å)(i:tr (F.L+x)=.fE):∀a,fL (f<|F.L+x) (f<|F.L+x).w a->JE F e {f (F.L+x)with w:=a} g:=by let⟨k,j,_⟩:=p.k x e b c;intro a r;have:=p.I.N d h i (À j) a r;simp_all
theorem Pp(B:fp F E gs w){x:Nat}{e:iw}(c:∀k y,gs[k]?=Ã y->y.status=Ü->k≠F.L+x):fp F (fB.gZ E x e) gs w:=by
 intro k y a b;have h:=c k y a b;rcases B k y a b with h1|⟨j,d,i,f,g⟩
 .exact À h1
 .refine Á ⟨j,d,?_,f,g⟩;show fC E.N x (Ã e) (j+1)=Í;grind [fM]
theorem PI.ahy(H:gW F)(p:PI F n zX E S tr m f gs w qJ)(V:J<E.r)(s:E.N J=Ã .oS)(D:gs[F.L+J]?=Ã g)(X:g.status=Å)(ht:tr (F.L+J)=.fE):rJ F n zX E tr gs w qJ:=by
 have G:=iU D;have C:=p.I.r;have Pn:¬E.iB J:=λ⟨e,c,d⟩=>by rw[s]at c;cases c;exact d
 have Po:iw.iB (.gp .jH)↔E.iB J:=⟨λh=>h.elim,λh=>(Pn h).elim⟩;have zh:iX F.S (λi=>i<gs.size) E.Y (gC f (F.L+J)<|kI {f (F.L+J)with w:=w}) w qJ:= C.C G (λ_ q=>q.elim) (λ_ q=>q.elim) (λ_ q=>q.elim) (λ_ q=>q.elim) U U U (λ_ q=>q.elim) λ_ q=>q.elim;have hF:lr F.P (F.L+J==0) (JE F<|.gp .jH) .fE (kI {f (F.L+J)with w:=w}) g:=by rw[Bg H.C J];intro l T;let⟨W,a,b,j,k⟩:=p.Bh V s D X ht w<|C.r _ G;exact⟨W,a,b,j,k.kg T⟩
 refine⟨fB.gZ E J<|.gp .jH,_,_,_,_,λh=>h,.r (p.N.G H.C λ⟨N,h⟩=>by cases h) p.b (p.I.M (K:=.no) D (À X) zh hF) ?_ p.M.gZ (p.C.gZ V (by rw[s];rfl) (λT h=>by rw[s]at h;cases h) (λT h W=>by cases h;exact⟨ft,ft,ft⟩) (λj h=> ?_) λh=>(p.C.f<|by rw[<-h,s];simp)) (p.d.G Po) (Pp p.c λk y W z e=> ?_) p.f,DV H.C (p.G G)<|À ?_⟩
 .have L:=p.a;have B:(gC f (F.L+J)<|kI {f (F.L+J)with w:=w}) (F.L+J)=kI {f (F.L+J)with w:=w}:=gY _ _ _;have l:∀k,k≠F.L+J->(gC f (F.L+J)<|kI {f (F.L+J)with w:=w}) k=f k:=λk W=>gK f _ W;have h0:(0:Nat)≠F.L+J:=by have:=H.C.r;omega
  have I:∀k a,(gC f (F.L+J) (kI {f (F.L+J)with w:=w}) k).r a->(f k).r a:=λk a h=>by
   by_cases q:k=F.L+J
   .subst q;rw[B]at h;exact h.elim
   .grind
  have sO:∀k a,(gC f (F.L+J) (kI {f (F.L+J)with w:=w}) k).O a->(f k).O a:=λk a h=>by
   by_cases q:k=F.L+J
   .subst q;rw[B]at h;exact h.elim
   .grind
  have ee:(fB.gZ E J<|.gp .jH).N J=Ã (.gp .jH):=gI _ _ _;have v:∀y,y≠J->(fB.gZ E J<|.gp .jH).N y=E.N y:=λy M=>fM _ _ M;refine⟨λk W a u=> ?_,λy c d a u=>by rw[l 0 h0];exact L.o y c d a u,λh=>by rw[l 0 h0];exact L.lY h,λh k c d=> ?_,λc d=> ?_,λj c d r t Q=> ?_,λj c d=> ?_,λy M=> ?_,λi o=> ?_,λk c d=>by rw[l k Z];exact L.c k c d,λk W b z=>⟨(L.I k W b z).1,(L.I k W b z).2.1,λi o h=>(L.I k W b z).2.2 i o<|sO _ _ h⟩,λk W i o h=>L.N k W i o<|I _ _ h,λk c d i o h=>L.g k c d i o<|I _ _ h,λj c r d t i o h=>L.d j c r d t i o<|I _ _ h⟩
  .by_cases q:k=F.L+J
   .subst q;rw[B]at u;rcases u with h|h<;>exact h.elim
   .rw[l k q]at u;exact L.gX k W a u
  .by_cases q:F.L=F.L+J
   .have Yg:J=0:=Z
    subst Yg;have:=p.C.f (by rw[s];simp);have T:E.S.md<k:=c;rw[this]at T;simp only[jB.md]at T;omega
   .rw[l _ q];exact L.e h k c d
  .by_cases q:F.L=F.L+J
   .grind
   .rw[l _ q];exact L.f c<|by rwa[<-v 0 Z]
  .by_cases q:F.L+1+j=F.L+J
   .grind
   .rw[l _ q];exact L.h j c (by rwa[<-v (j+1) Z]) r t Q
  .by_cases q:F.L+1+j=F.L+J
   .grind
   .rw[l _ q];exact L.l j c<|by rwa[<-v (j+1) Z]
  .by_cases q:F.L+y=F.L+J
   .rw[q,B];rfl
   .rw[l _ q];exact L.S y (by let⟨T,c,d⟩:=M;exact⟨T,by rwa[<-v y Z],d⟩)
  .by_cases q:i=F.L+J
   .subst q;rcases o with q|⟨y,c,d,t⟩
    .grind
    .have:y=J:=Z
     subst this;exact absurd ⟨_,ee,trivial⟩ t
   .rw[l _ q];refine L.M i<|o.imp id λ⟨y,c,d,t⟩=>⟨y,c,d,λ⟨T,Q,h5⟩=>t ⟨T,by rwa[v y Z],h5⟩⟩
 .have:=p.C.l j Z (by rw[<-h,s];simp);exact this
 .grind
 .unfold rK;rw[s];simp only[iw.rk,jK.rk];omega
def Bj(E:fZ F)(x:Nat)(e:iw)(G:GS)(a:Option Nat):fZ F:={fB.gZ E x e with b:=G,g:=a}
theorem Ps.GG(h:Ps F E){e:iw}{G:GS}{la:Option Nat}(v:i<E.r)(D:∃w,E.N i=Ã w)(O:∀y,y≠i->∀p,E.N y=Ã (.gp p)->∀W,p≠ .gE W/\p≠ .jg W/\p≠ .iE W) (H:∀c d,G=.cl c d->c=Ñ (F.n+1) (fB.gZ E i e).G/\d=E.M.gH) (I:∀d,G=.jI d->Ñ (F.n+1) (fB.gZ E i e).G=0/\d=E.M.gH/\la=Ã i/\(e=.gp (.gE d)\/e=.gp (.jg d))) (J:∀r s,G=.hD r s->Ñ (F.n+1) (fB.gZ E i e).G=0/\r+s=E.M.gH/\(0<r->la=Ã i/\e=.gp (.iE r))) (K:∀p,e=.gp p->(∀W,p=.gE W\/p=.jg W->la=Ã i/\G=.jI W)/\(∀r,p=.iE r->0<r/\la=Ã i/\∃s,G=.hD r s)) (L:E.M=.fD .gE\/E.M=.fD .lu\/E.M=.gp->Ñ (F.n+1) (fB.gZ E i e).G=0) (M:E.M=.fD .gE->∃a b,G=.hD a b) (N:(∀p,E.M≠ .fD p)->E.M≠ .gp->∃c,G=.cl c 0):Ps F (Bj E i e G la):=by
 have l:∀y,y≠i->(Bj E i e G la).N y=E.N y:=λy f=>fM _ _ f;have m:(Bj E i e G la).N i=Ã e:=gI _ _ _;let⟨w,z⟩:=D;refine⟨h.v,h.C,h.K,h.L,h.J,h.I,h.z,h.d,λj B g=> ?_,λg=> ?_,λy f=> ?_,h.M,h.o,H,λd o=> ?_,λr s o=> ?_,λy p f=> ?_,L,h.e,h.Y,h.w,h.H,M,N,h.y,h.D⟩
 .by_cases q:j+1=i
  .exact h.l j B<|by rw[q,z];simp
  .rw[l _ q]at g;exact h.l j B g
 .by_cases q:0=i
  .exact h.f<|by rw[q,z];simp
  .rw[l _ q]at g;exact h.f g
 .have:E.r<=y:=f;rw[l y Z];exact h.h y f
 .let⟨t,u,k,C⟩:=I d o;exact⟨t,u,i,v,k,by rw[m];exact C.imp (λq=>by rw[q]) λq=>by rw[q]⟩
 .let⟨t,u,k⟩:=J r s o;exact⟨t,u,λC=>⟨i,v,(k C).1,by rw[m,(k C).2]⟩⟩
 .by_cases q:y=i
  .subst q;rw[m]at f;exact K p<|È f
  .grind
def ahz{G:GS}(a:ij W F.C G)(h:Wd F {E with b:=G,a:=E.a} W){x:Nat}{e:iw}{b:Option Nat}:Wd F (Bj E x e G b) W:=⟨a,h.I,h.jL,h.M,h.S,h.N⟩
theorem PI.GH(H:gW F)(p:PI F n zX E S tr m f gs w qJ){x:Nat}{a e:iw}{G:GS}{la:Option Nat}{c:Ä}{T:gD}(hx:x<E.r)(d:E.N x=Ã a)(t:a.iB)(I:e.iB)(J:e.ow)(v:gs[F.L+x]?=Ã g)(z:kK F.C w W)(B:ij W F.C G)(K:Ŏ F.P (ð gs w o) (F.L+x)=(ğ<|ð gs' W o,u))(C:gs'.size=gs.size)(M:gs'[F.L+x]?=Ã c)(O:c.status=Å\/c.status=å)(Q:∀k,k≠F.L+x->gs'[k]?=gs[k]?.map (Ā F.P g c W)) (X:gO F.P F.S E.Y (fC S (F.L+x)<|JE F e) (fC tr (F.L+x) T) (fC m (F.L+x) .no) (gC f (F.L+x) {f (F.L+x)with w:=W}) gs' W (qJ++u)) (q6:TI F.toFx n zX E.r E.S.rl E.V E.e E.d E.iB E.f (qJ++u)) (q7:iJ F E (gC f (F.L+x) {f (F.L+x)with w:=W}) gs'.size W) (hT:(∃N,e=.jy N)->T=.fE) (hP:Ps F (Bj E x e G la)) (Yh:(e.rk F).1<(a.rk F).1\/((e.rk F).1=(a.rk F).1/\(e.rk F).2<(a.rk F).2)) (Gy:E.M=.fD .kH->E.b.sm=0->G.sm=0\/∀y,gs'[0]?=Ã y->y.status≠Ü):ki F n zX E tr gs w qJ o (F.L+x):=by
 have D:F.M F.C:=À U;refine⟨Bj E x e G la,_,_,_,_,gs',W,u,K,C,λh=>h,.r ?_ (C.trans p.b) X ?_ (ahz B<|z.I H p.a p.C p.M D ⟨λ_=>B,λq=>absurd U q⟩ λk b=>⟨λq=>absurd q.symm<|H.C.M k b,λ_=>rfl⟩) hP (q6.G<|⟨λ_=>⟨a,d,t⟩,λ_=>I⟩) ?_ λj r b l s=>(p.f j r b l s).app u,?_⟩
 .have:=p.N.G (x:=x) H.C hT;exact⟨this.M,this.Y,this.I,this.C,this.r⟩
 .have:=q7.gZ (⟨λ_=>XU ⟨a,d,t⟩,λ_=>J⟩);exact⟨this.gX,this.o,this.lY,this.e,this.f,this.h,this.l,this.S,this.M,this.c,this.I,this.N,this.g,this.d⟩
 .refine p.c.qK (E':=Bj E x e G la) M (by rcases O with q|q<;>rw[q]<;>simp) Q (λj i=>z.C p.C D i) U U (λy i=>fM _ _ Z) (λ_=>rfl) (λ_ _=>rfl) (λ_ i j=>Gy i j) λ_ _ _ _ h=>À h
 .have j:rK F E x=a.rk F:=by unfold rK;rw[d]
  have:=DV (E:=E) (tr:=tr) (gs:=gs) (gs':=gs') (T:=T) H.C (p.G<|iU v) (by rwa[j]);rcases this with⟨i,b,l,s⟩|⟨b,_⟩
  .exact À ⟨i,b,l,s⟩
  .exfalso;have:=b _<|p.G<|iU v;change(fB.gZ E x e).iY (fC tr (F.L+x) T) (F.L+x)=E.iY tr (F.L+x)at this;rw[Kk H.C (E:=fB.gZ E x e)<|gI _ _ _,Kk H.C d]at this;grind
theorem ahA(h:V=#[kG<|fS F.C,mY<|fS F.C]\/V=#[kG<|fS F.C]\/V=#[mY<|fS F.C]\/V=õ (gT F.C)):∀e∈V,∀b,(Ë e).touch?=Ã b->∃y:Č,b.loc=ú y/\y.block=F.C:=by
 intro e c b g;have:∃x:Č,x.block=F.C/\(e.loc=ú x\/e.loc=ŭ ô\/e.loc=ŭ î):=by
  rcases h with rfl|rfl|rfl|rfl
  .simp at c;rcases c with rfl|rfl<;>exact⟨fS F.C,U,À U⟩
  .simp at c;subst c;exact⟨fS F.C,U,À U⟩
  .simp at c;subst c;exact⟨fS F.C,U,À U⟩
  .simp[õ]at c;rcases c with rfl|rfl|rfl|rfl
   .exact⟨gT F.C,U,Á<|À U⟩
   .exact⟨gT F.C,U,À U⟩
   .exact⟨gT F.C,U,À U⟩
   .exact⟨gT F.C,U,Á<|Á U⟩
 let⟨x,i,a⟩:=this;let⟨j,d,f⟩:=e;rcases a with a|a|a
 .simp only at a;subst a;have:(Ë ⟨ú x,d,f⟩).touch?=Ã ⟨ú x,d,if f then .atomic else .plain⟩:=by cases d<;>cases f<;>rfl
  grind
 .simp only at a;subst a;simp[Ë,Ċ]at g
 .simp only at a;subst a;simp[Ë,Ċ]at g
def GI(p:PI F n zX E S tr m f gs w qJ)(a:F.L+i<gs.size)(c:(f<|F.L+i).d=1)(h:V=#[kG<|fS F.C,mY<|fS F.C]\/V=#[kG<|fS F.C]\/V=#[mY<|fS F.C]\/V=õ (gT F.C)): ∀y,E.iB y->F.L+i=F.L+y->(∀e∈V,∀b,(Ë e).touch?=Ã b->∃y:Č,b.loc=ú y/\y.block=F.C)/\A7 (κ qJ<|F.L+i) V:=by
 intro y _ _;refine⟨ahA h,?_⟩;rw[p.I.r.f _ a,c];rcases h with rfl|rfl|rfl|rfl
 .exact Kl.1
 .exact Kl.2.1
 .exact Kl.2.2.1
 .exact Kl.2.2.2
def PI.ahB(H:gW F)(p:PI F n zX E S tr m f gs w qJ){x:Nat}(i:x<E.r)(a:E.N x=Ã (.gp .jH))(k:gs[F.L+x]?=Ã g)(G:g.status=Å)(I:tr (F.L+x)=.fE):ki F n zX E tr gs w qJ o (F.L+x):=by
 have s:=iU k;have C:=p.I.r;let⟨J,_,g',c,d⟩:=p.Bh i a k G I w<|C.r _ s;have t:=Bg H.C x;have u:∀y:Ă,y.act=ė (Į<|fS F.C)->y.act.touch?=Í:=λy b=>by rw[b];rfl
 let⟨T,K⟩:=ju d;have v:=lO (λl g h=>À h.2.1) d;obtain⟨gs',y,M,O,P,B,Q,V,X,Y⟩:=p.Bd H .no k (by rw[t];exact c w) ft ft (λy b=>⟨λz l=>(by rw[u y b]at l;cases l),by rw[b];exact C.N _<|À<|À U⟩) (λy _ b=>A0 C.l λq j=>by rw[xp j];exact u y b) (by rwa[t]) v;have D:=p.d.agU i M O ((C.f _ s).trans J) (λ⟨e,c,d⟩=>by rw[a]at c;cases c;exact d);refine⟨{fB.gZ E x (.gp .iI)with f:=fC E.f x qJ.size},_,_,_,_,gs',w,#[y],P,B,λh=>h,.r ?_ (B.trans p.b) X ?_ (⟨p.M.C,p.M.I,p.M.jL,p.M.M,p.M.S,p.M.N⟩) ?_ ?_ ?_ λj r q W a3=>(p.f j r q W a3).app _,DV H.C (p.G s)<|À ?_⟩
 .have:=p.N.G (x:=x) (e:=.gp .iI) (T:=T) H.C (λ⟨N,h⟩=>by cases h);exact⟨this.M,this.Y,this.I,this.C,this.r⟩
 .have:=Y.gZ (x:=x) (e:=.gp .iI) (⟨λ_=>⟨_,a,trivial⟩,λ_=>trivial⟩);exact⟨this.gX,this.o,this.lY,this.e,this.f,this.h,this.l,this.S,this.M,this.c,this.I,this.N,this.g,this.d⟩
 .have h:=p.C.gZ (x:=x) (e:=.gp .iI) i (by rw[a];rfl) (λq h W=>by rw[a]at h;cases h;exact⟨ft,ft,ft⟩) (λq h W=>by cases h;exact⟨ft,ft,ft⟩) (λj h=>p.C.l j Z<|by rw[<-h,a];simp) (λh=>p.C.f<|by rw[<-h,a];simp);exact⟨h.v,h.C,h.K,h.L,h.J,h.I,h.z,h.d,h.l,h.f,h.h,h.M,h.o,h.t,h.g,h.u,h.N,h.B,h.e,h.Y,h.w,h.H,h.O,h.S,h.y,h.D⟩
 .refine{D with r:=λz l j=>D.r z l ?_};by_cases q:z=x
  .exact Á q
  .exact À<|(Yc q).1 j
 .refine p.c.qK (E':={fB.gZ E x (.gp .iI)with f:=fC E.f x qJ.size}) Q (by rcases v with q|q<;>rw[q]<;>simp) V (λ_ _=>rfl) U U (λy b=>fM _ _ Z) (λ_=>rfl) (λ_ _=>rfl) (λ_ _ h=>À h) λ_ _ _ _ h=>À h
 .unfold rK;rw[a];simp only[iw.rk,jK.rk];omega
end
section
variable{F:Ph}{E K:fZ F}{S:Nat->Jd}{o M:Nat->gD}{G:Nat->iD}{B:Nat->fh}{m J:Array Ä}{u:ä}{I:Option (Nat×Nat)}
def Yi{N:Nat}{l:fh}(h:Ź P N l.d g):lr P É (pA P N) .fE l g:=λ_ _=>h
def Yj(a:Ps F E):E.r<=E.M.ad F.n:=by unfold fZ.r;cases E.M<;>simp only[gf.sp,gf.ad]<;>omega
theorem GJ(b:Ps F E){e:iw}(d:i<E.r):Ñ (F.n+1) (fB.gZ E i e).G+mr (E.N i)=Ñ (F.n+1) E.G+e.kX:=by
 have g:=Yj b;have h:=Dy b;have:=xn (f:=E.G) (f':=(fB.gZ E i e).G) (j:=i) (n:=F.n+1) Z (λa c=>by unfold fZ.G;show(if a<E.M.ad F.n then mr (fC E.N i (Ã e) a)else 0)=_;rw[fM _ _ c]);have a:E.G i=mr (E.N i):=by unfold fZ.G;rw[if_pos Z]
 have c:(fB.gZ E i e).G i=e.kX:=by unfold fZ.G;show(if i<E.M.ad F.n then mr (fC E.N i (Ã e) i)else 0)=_;rw[if_pos Z,gI];rfl
 grind
theorem Yk(a:Ps F E)(h:E.b=.cl i n):∀y p,E.N y=Ã (.gp p)->∀W,p≠ .gE W/\p≠ .jg W/\p≠ .iE W:=by intro y p b W;let⟨d,e⟩:=a.N y p b;grind
theorem Pq(a:Ps F E)(h:E.g=Ã i):∀y,y≠i->∀p,E.N y=Ã (.gp p)->∀W,p≠ .gE W/\p≠ .jg W/\p≠ .iE W:=by intro y c p b W;let⟨d,e⟩:=a.N y p b;grind
def PI.ahC(p:PI F n zX E S o G B m w qJ)(e:i<E.r)(d:E.N i=Ã (.gp .iI)):∃c a,E.b=.cl (c+1) a/\c+1=Ñ (F.n+1) E.G/\a=E.M.gH/\¬(E.M=.fD .gE\/E.M=.fD .lu\/E.M=.gp):=by
 have g:1<=Ñ (F.n+1) E.G:=by
  have q:=Yj p.C;have r:=Dy p.C;have:=O5 (f:=E.G) (j:=i) (n:=F.n+1) Z;have s:E.G i=1:=by unfold fZ.G;rw[if_pos Z,d];rfl
  omega
 obtain⟨c,a,b⟩:∃c a,E.b=.cl (c+1) a:=by
  cases q:E.b with
  |cl c a=>
   have:=(p.C.t c a q).1;exact⟨c-1,a,by congr 1;omega⟩
  |jI a=>have:=(p.C.g a q).1;omega
  |hD r s=>have:=(p.C.u r s q).1;omega
 let⟨r,s⟩:=p.C.t _ _ b;exact⟨c,a,b,r,s,λq=>by have:=p.C.B q;omega⟩
theorem PI.ahD(H:gW F)(p:PI F n zX E S o G B m w qJ)(f:i<E.r)(v:E.N i=Ã (.gp .iI))(z:m[F.L+i]?=Ã g)(iN:g.status=Å)(ht:o (F.L+i)=.fE)(hc:E.b=.cl (j+1) k)(GK:j+1=Ñ (F.n+1) E.G)(Yl:k=E.M.gH)(GM:¬(E.M=.fD .gE\/E.M=.fD .lu\/E.M=.gp))(hl:j=0/\0<k):ki F n zX E o m w qJ I (F.L+i):=by
 have t:=iU z;have C:=p.I.r;let⟨hd,_,uj⟩:=p.Bh f v z iN ht w<|C.r _ t;have mc:=Bg H.C i;have Q:F.M F.C:=À U;have K:=hc▸p.M.C;let⟨ev,V⟩:=K.jP;have X:=uj (GS.cl (j+1) k).st;rw[ev]at X V;obtain⟨d,M⟩:∃d,(GS.jP<|.cl (j+1) k).st=d:=⟨_,U⟩;rw[M]at X;let⟨g',h1,h2⟩:=X;have Y:=h1 w K.C K.I;rw[<-M]at Y;let⟨k1,k2,k3⟩:=K.r;have O:kK F.C w (w.setCell (fS F.C)<|ë Ó (GS.jP<|.cl (j+1) k).st):=Á ⟨_,_,À U,U⟩;have D:=O.r p.a H.C Q;have xr:fL {B (F.L+i)with w:=w} w (w.setCell (fS F.C)<|ë Ó (GS.jP<|.cl (j+1) k).st):=⟨Õ D.r.symm,λb ly=>D.jY b<|C.I _ t b ly,λa ha=>D.M _ t a ha,λa ha=>D.N _ t a ha,λa _=>D.I a⟩;have ed:GS.jP (.cl (j+1) k)=.jI k:=by simp only[GS.jP,if_pos hl]
 rw[ed]at Y V O D xr M;have hW:fq F.P É (J9 F.P É F.C (Gl F) k) {B (F.L+i)with w:=w} g':=by
  have r:d=(k:Int):=M.symm;have l:¬(d=0\/(gk<=d/\d<1000000*gk/\d%gk<1000000)):=by simp only[gk];omega
  grind
 let⟨T,hT⟩:=ju<|hW.kg xr;have nt:=lO (λl g h=>À h.2.1) hW;obtain⟨J,u,l,q2,q3,q4,q5,q6,q7⟩:=p.Y H .no z (GF f) Q (by rwa[mc]) O (A8 Q) U (GI p t hd<|À U) (by rwa[mc]) nt;have zm:=GJ p.C (e:=.gp (.gE k)) f;rw[v]at zm;refine p.GH H (e:=.gp (.gE k)) (la:=Ã i) f v trivial trivial trivial z O V l q2 q3 nt q4 q5 q6 q7 (λ⟨N,h⟩=>by cases h) (p.C.GG f ⟨_,v⟩ (λy _ q r W=>Yk p.C hc y q r W) (λy r h=>by cases h) (λr h=> ?_) (λr s h=>by cases h) (λq h=> ?_) (λq=>absurd q GM) (λq=>absurd (À q) GM) λl q2=> ?_) (À ?_) λ_ _=>À rfl
 .injection h with h;subst h;exact⟨(by simp only[mr,iw.kX,jK.kX]at zm;omega),Yl,U,À U⟩
 .grind
 .let⟨y,r⟩:=p.C.S l q2;grind
 .simp only[iw.rk,jK.rk];grind
theorem PI.ahE(H:gW F)(p:PI F n zX E S o G B m w qJ)(f:i<E.r)(t:E.N i=Ã (.gp .iI))(v:m[F.L+i]?=Ã g)(iN:g.status=Å)(ht:o (F.L+i)=.fE)(hc:E.b=.cl (j+1) k)(GK:j+1=Ñ (F.n+1) E.G)(Yl:k=E.M.gH)(GM:¬(E.M=.fD .gE\/E.M=.fD .lu\/E.M=.gp))(hl:¬(j=0/\0<k)):ki F n zX E o m w qJ I (F.L+i):=by
 have l:=iU v;have C:=p.I.r;let⟨hd,_,uj⟩:=p.Bh f t v iN ht w<|C.r _ l;have mc:=Bg H.C i;have O:F.M F.C:=À U;have z:=hc▸p.M.C;let⟨ev,P⟩:=z.jP;have Q:=uj (GS.cl (j+1) k).st;rw[ev]at Q P;obtain⟨d,K⟩:∃d,(GS.jP<|.cl (j+1) k).st=d:=⟨_,U⟩;rw[K]at Q;let⟨g',h1,h2⟩:=Q;have T:=h1 w z.C z.I;rw[<-K]at T;let⟨k1,k2,k3⟩:=z.r;have M:kK F.C w (w.setCell (fS F.C)<|ë Ó (GS.jP<|.cl (j+1) k).st):=Á ⟨_,_,À U,U⟩;have D:=M.r p.a H.C O;have xr:fL {B (F.L+i)with w:=w} w (w.setCell (fS F.C)<|ë Ó (GS.jP<|.cl (j+1) k).st):=⟨Õ D.r.symm,λb ly=>D.jY b<|C.I _ l b ly,λa V=>D.M _ l a V,λa V=>D.N _ l a V,λa _=>D.I a⟩;have ed:GS.jP (.cl (j+1) k)=.cl j k:=by simp only[GS.jP,if_neg hl]
 rw[ed]at T P M D xr K;obtain⟨N,hN⟩:Gl F {B (F.L+i)with w:=w} g':=by
  have q:d=(j:Int)*gk+(k:Int):=K.symm;have h:d=0\/(gk<=d/\d<1000000*gk/\d%gk<1000000):=by simp only[gk]at q|-;omega
  grind
 have nt:=hN.status;obtain⟨J,u,X,Y,q3,q4,q5,q6,q7⟩:=p.Y H .no v (GF f) O (by rwa[mc]) M (A8 O) U (GI p l hd<|À U) (by rw[mc];exact Yi hN) nt;have zm:=GJ p.C (e:=.jy N) f;rw[t]at zm;have hz:Ñ (F.n+1) (fB.gZ E i<|.jy N).G=j:=by simp only[mr,iw.kX,jK.kX]at zm;omega
 refine p.GH H (e:=.jy N) (la:=E.g) f t trivial trivial trivial v M P X Y q3 nt q4 q5 q6 q7 (λ_=>rfl) (p.C.GG f ⟨_,t⟩ (λy _ q h W=>Yk p.C hc y q h W) (λy r h=> ?_) (λr h=>by cases h) (λr s h=>by cases h) (λq h=>by cases h) (λq=>absurd q GM) (λq=>absurd (À q) GM) λX Y=> ?_) (À ?_) λ_ _=>À rfl
 .grind
 .let⟨y,h⟩:=p.C.S X Y;grind
 .simp only[iw.rk,jK.rk];omega
def PI.ahF(H:gW F)(p:PI F n zX E S o G B m w qJ)(a:i<E.r)(b:E.N i=Ã (.gp .iI))(d:m[F.L+i]?=Ã g)(e:g.status=Å)(f:o (F.L+i)=.fE):ki F n zX E o m w qJ I (F.L+i):=by
 let⟨c,r,h,j,k,l⟩:=p.ahC a b;by_cases q:c=0/\0<r
 .exact p.ahD H a b d e f h j k l q
 .exact p.ahE H a b d e f h j k l q
theorem PI.ahG(H:gW F)(p:PI F n zX E S o G B m w qJ)(c:i<E.r)(d:E.N i=Ã (.gp (.gE j)))(f:m[F.L+i]?=Ã g)(O:g.status=Å)(P:o (F.L+i)=.fE):ki F n zX E o m w qJ I (F.L+i):=by
 have y:=iU f;let⟨Q,_,V⟩:=p.Bh c d f O P w<|(p.I.r).r _ y;have z:=Bg H.C i;have C:F.M F.C:=À U;let⟨X,k⟩:=(p.C.N i _ d).1 j<|À U;have D:=k▸p.M.C;let⟨g',Y,t⟩:=V (j:Int);simp only[if_true]at t;let⟨T,hT⟩:=ju t;have K:=lO (λl g h=>À h.2.1) t;obtain⟨J,u,l,v,q3,q4,q5,q6,q7⟩:=p.Y H .no f (GF c) C (by rw[z];exact Y w D.C) (À U) (zf C) U (GI p y Q<|Á<|À U) (by rwa[z]) K;have M:=GJ p.C (e:=.gp (.jg j)) c;rw[d]at M;let⟨b1,b2,_⟩:=p.C.g j k;have hz:Ñ (F.n+1) (fB.gZ E i<|.gp (.jg j)).G=0:=by simp only[mr,iw.kX,jK.kX]at M;omega
 refine p.GH H (e:=.gp (.jg j)) (la:=E.g) c d trivial trivial trivial f (À U) D l v q3 K q4 q5 q6 q7 (λ⟨N,h⟩=>by cases h) (p.C.GG c ⟨_,d⟩ (Pq p.C X) (λc' a h=>by cases h) (λa h=> ?_) (λr s h=>by cases h) (λa h=> ?_) (λ_=>hz) (λq=> ?_) λl v=> ?_) (À ?_) λ_ h=>À rfl
 .grind
 .grind
 .let⟨a,b,h⟩:=p.C.O q;rw[k]at h;cases h
 .let⟨c',a⟩:=p.C.S l v;grind
 .simp only[iw.rk,jK.rk];omega
theorem PI.ahH(H:gW F)(p:PI F n zX E S o G B m w qJ)(c:i<E.r)(d:E.N i=Ã (.gp (.jg j)))(k:m[F.L+i]?=Ã g)(P:g.status=Å)(Q:o (F.L+i)=.fE):ki F n zX E o m w qJ I (F.L+i):=by
 have f:=iU k;have C:=p.I.r;let⟨V,_,g',X,z⟩:=p.Bh c d k P Q w<|C.r _ f;have K:=Bg H.C i;have v:F.M F.C:=À U;let⟨Y,M⟩:=(p.C.N i _ d).1 j<|Á U;have t:=M▸p.M.C;have Pr:=t.r.1;have y:kK F.C w (w.setCell (fS F.C)<|ë Ó 0):=Á ⟨_,_,À U,U⟩;have D:=y.r p.a H.C v;let⟨T,hT⟩:=ju (z.kg ⟨Õ D.r.symm,λb l=>D.jY b<|C.I _ f b l,λa h=>D.M _ f a h,λa h=>D.N _ f a h,λa _=>D.I a⟩);have O:=lO (λl g h=>by
  cases j with
  |zero=>omega
  |succ j=>exact À h.2.1) z
 obtain⟨J,u,a,b,q3,q4,q5,q6,q7⟩:=p.Y H .no k (GF c) v (by rw[K];exact X w _ t.C t.I) y (X2 v) U (GI p f V<|Á<|Á<|À U) (by rwa[K]) O;have l:=GJ p.C (e:=.gp (.iE j)) c;rw[d]at l;let⟨b1,b2,_⟩:=p.C.g j M;have hz:Ñ (F.n+1) (fB.gZ E i<|.gp (.iE j)).G=0:=by simp only[mr,iw.kX,jK.kX]at l;omega
 refine p.GH H (e:=.gp (.iE j)) (la:=E.g) c d trivial trivial trivial k y t.XQ a b q3 O q4 q5 q6 q7 (λ⟨N,h⟩=>by cases h) (p.C.GG c ⟨_,d⟩ (Pq p.C Y) (λc' q h=>by cases h) (λq h=>by cases h) (λr s h=> ?_) (λq h=> ?_) (λ_=>hz) (λq=>⟨j,0,rfl⟩) λa b=> ?_) (À ?_) λ_ h=>À rfl
 .grind
 .cases h;simp_all
 .let⟨c',q⟩:=p.C.S a b;grind
 .simp only[iw.rk,jK.rk];omega
def Ym(p:PI F n zX E S o G B m w qJ){a y:Ä}(d:mayWake F.P g=Ì)(f:a.status=Å)(i:m[k]?=Ã y)(j:G k=.iE):(Ā F.P g a W y).status≠Ü:=by
 intro h;let⟨e,l⟩:=Gq h;let⟨g0,_,b,c,_⟩:=p.I.C k y i;rw[j]at b;cases b with
 |gw=>rw[l]at c;rcases c with q|q<;>cases q
 |nY r q=>
  unfold Ā at h;rw[if_pos (by simp[d,f])]at h;unfold ď at h;simp only[q]at h;cases h
def PI.ahI(H:gW F)(p:PI F n zX E S o G B m w qJ)(c:i<E.r)(d:E.N i=Ã (.gp (.iE j)))(k:m[F.L+i]?=Ã g)(iN:g.status=Å)(ht:o (F.L+i)=.fE):ki F n zX E o m w qJ I (F.L+i):=by
 have f:=iU k;have C:=p.I.r;let⟨hr0,K,s,M⟩:=(p.C.N i _ d).2 j U;obtain⟨j,rfl⟩:∃O,j=O+1:=⟨j-1,Z⟩;let⟨hd,_,Pt,g',Q,h1,h2⟩:=p.Bh c d k iN ht w<|C.r _ f;have mc:=Bg H.C i;have V:F.M F.C:=À U;have W:=M▸p.M.C;have X:kK F.C w (w.setCell (gT F.C)<|ë ç<|ç.wrap<|(GS.hD (j+1) s).sm+1):=Á ⟨_,_,Á U,U⟩;have D:=X.r p.a H.C V;let⟨b1,b2,_⟩:=p.C.u _ _ M;obtain⟨e,T,hF,Y,zn,he3,Yn⟩:∃(e:iw) (T:gD),lr F.P É (JE F e) T {B (F.L+i)with w:=w.setCell (gT F.C) (ë ç<|ç.wrap<|(GS.hD (j+1) s).sm+1)} g'/\(e.iB/\e.ow/\e.kX=0)/\((∃N,e=.jy N)->T=.fE)/\((e.rk F).1<((iw.gp<|.iE (j+1)).rk F).1)/\((j=0/\∃N,e=.jy N)\/(0<j/\e=.gp (.iE j))):=by
  cases j with
  |zero=>
   obtain⟨N,hN⟩:Gl F {B (F.L+i)with w:=w} g':=h2;exact⟨.jy N,.fE,Yi hN,⟨trivial,trivial,U⟩,λ_=>rfl,by simp only[iw.rk,jK.rk];omega,À ⟨U,N,U⟩⟩
  |succ j=>
   let⟨T,hT⟩:=ju (h2.kg ⟨Õ D.r.symm,λb ly=>D.jY b<|C.I _ f b ly,λa ha=>D.M _ f a ha,λa ha=>D.N _ f a ha,λa _=>D.I a⟩);have X6:j+1+1+s<=1:=by rw[b2];cases E.M<;>simp only[gf.gH]<;>first|omega|(rename_i v;cases v<;>simp[jz.sU])
   omega
 obtain⟨J,u,q1,q2,q3,q4,q5,q6,q7⟩:=p.Y H .no k (GF c) V (by rw[mc];exact h1 w _ W.M W.N) X (Gt V) (Gu _).2.2.2 (GI p f hd<|Á<|Á<|Á U) (by rwa[mc])<|À Q;have zm:=GJ p.C (e:=e) c;rw[d,Y.2.2]at zm;have hz:Ñ (F.n+1) (fB.gZ E i e).G=0:=by simp only[mr,iw.kX,jK.kX]at zm;omega
 refine p.GH H (la:=E.g) c d trivial Y.1 Y.2.1 k X W.jH q1 q2 q3 (À Q) q4 q5 q6 q7 zn (p.C.GG c ⟨_,d⟩ (Pq p.C K) (λc' ahJ h=>by cases h) (λahJ h=>by cases h) (λO s' h=> ?_) (λp' h=> ?_) (λ_=>hz) (λq=>⟨j,s+1,rfl⟩) λq1 q2=> ?_) (À he3) λhm _=>Á λy hy=> ?_
 .injection h with h l;subst h l;refine⟨hz,Z,λhr=>⟨K,?_⟩⟩;rcases Yn with⟨q,_⟩|⟨_,q⟩
  .omega
  .exact q
 .subst h;rcases Yn with⟨_,N,q⟩|⟨hr,q⟩
  .cases q
  .cases q;exact⟨λW' t=>(by rcases t with t|t<;>cases t),λO pg=>by cases pg;exact⟨hr,K,s+1,U⟩⟩
 .let⟨c',l⟩:=p.C.S q1 q2;rw[M]at l;cases l
 .have h0:(0:Nat)≠F.L+i:=by have:=H.C.r;omega
  rw[q4 0 h0]at hy;obtain⟨z,GN,rfl⟩:=Ù.1 hy;exact Ym p Pt Q GN<|by rw[p.h.2,hm];rfl
end
section
variable{F:Ph}{E E':fZ F}{S:Nat->Jd}{f D:Nat->gD}{o:Nat->iD}{v:Nat->fh}{l z:Array Ä}{u:ä}{I:Option (Nat×Nat)}
def Bl(ok:F.Ok):(F.L==0)=É:=by have:=ok.r;simp;omega
def DX(h:0<E.r):ze E F.L:=Á ⟨0,h,U⟩
def DY(b:E.N 0=Í):∀x,E.iB x->F.L=F.L+x->False:=λx ⟨e,a,_⟩ h2=>by
 have:x=0:=Z
 subst this;rw[b]at a;cases a
def PI.Bm(p:PI F n zX E S f o v l w qJ)(b:0<E.r)(c:E.N 0=Í)(d:l[F.L]?=Ã g)(e:g.status=Å)(h:f F.L=.fE):∀a,fL (v F.L) (v F.L).w a->JI F E.c E.S {v F.L with w:=a} g:=by let⟨j,i⟩:=p.m b c;intro a r;have:=p.I.N d e h (À i) a r;simp_all
theorem qN.Ks(h:qN F E S f o)(ok:F.Ok){ip:jB}{sg:Nat->F.γ}{T:gD}(c:E.N 0=Í):qN F {E with S:=ip,c:=sg} (fC S F.L<|JI F sg ip) (fC f F.L T) (fC o F.L .no):=by
 have:=ok.r;refine⟨by rw[fM S _ Z,fM o _ Z];exact h.M,λa b=>by rw[gI,gI];exact⟨U,U⟩,λj a b=>by rw[fM S _ Z,fM o _ Z];exact h.I j a b,λy e a b=> ?_,λi a b=>by rw[fM S _ Z,fM o _ Z,fM f _ Z];exact h.r i a b⟩;have d:y≠0:=λq=>by grind
 rw[fM S _ Z,fM o _ Z,fM f _ Z];exact h.C y e a b
theorem Kt(ok:F.Ok){T:gD}(b:F.L<F.N)(i:E.N 0=Í)(c:E'.N=E.N)(d:E'.M=E.M)(e:E'.h=E.h)(g:E'.C=E.C)(h:E'.S.rk F<E.S.rk F):pB F.N (E'.mu (fC f F.L T) z) (E.mu f l):=by refine Gr b (À ?_) λk a=>zd (λ_=>by rw[d]) (λ_ _=>by rw[e]) (λ_=>by rw[c]) (λq=>absurd q a) (λ_ _=>by rw[g])<|fM f _ a;grind [XY]
theorem Pu(B:fp F E l w)(i:E'.M=E.M)(b:E'.r=E.r)(c:E'.N=E.N)(m:E'.C=E.C)(n:E'.I=E.I)(o:E'.b=E.b)(p:E'.a=E.a):fp F E' l w:=by
 intro k y d e;rcases B k y d e with⟨q,a,f⟩|⟨j,g,h,a,f⟩
 .grind
 .refine Á ⟨j,by rwa[b],by rwa[c],a,?_⟩;grind
theorem Ps.Ku(h:Ps F E){ip:jB}{G:GS}(i:E.N 0=Í)(x:0<E.r)(l:∀c,(ip=.kV c->c<=F.m)/\(ip=.mk c->1<=c/\c<=F.m)/\∀p,ip=.dn c p->1<=c/\c<=F.m) (o:∀c,1<=c->c<=F.m->ip.od<c->fC E.a k G c=.cl 1 (Ñ F.n λj=>(E.C j).gH F j c)) (t:∀c,c<=F.m->c<=ip.od->(∃W,(ip=.dn c (.gE W)\/ip=.dn c (.jg W))/\fC E.a k G c=.jI W/\W=Ñ F.n λj=>(E.C j).gH F j c)\/(∃r s,ip=.dn c (.iE r)/\0<r/\fC E.a k G c=.hD r s/\r+s=Ñ F.n λj=>(E.C j).gH F j c)\/((∀p,ip≠ .dn c p)/\((fC E.a k G c=.cl 0 0/\(Ñ F.n λj=>(E.C j).gH F j c)=0)\/∃s,fC E.a k G c=.hD 0 s/\s=Ñ F.n λj=>(E.C j).gH F j c))) (u:E.S.od<=ip.od) (v:(∃a b,E.a k=.hD a b)->∃a b,G=.hD a b) (y:G=.cl 1 0->E.d k=Í) {sg:Nat->F.γ} {V:Nat->Nat->Prop} (w:V 0=F.i) {pk:Nat->Nat}:Ps F {E with S:=ip,a:=fC E.a k G,c:=sg,V:=V,e:=pk}:=by
 refine⟨w,h.C,h.K,h.L,λq=> ?_,l,h.z,h.d,h.l,λq=>absurd i q,h.h,h.M,h.o,h.t,h.g,h.u,h.N,h.B,o,t,λj r d f=>Ô (h.w j r d f) u,λj r d f=> ?_,h.O,h.S,λc d f=> ?_,h.D⟩
 .have:E.r=0:=q;omega
 .have:=h.H j r d f;show∃a b,fC E.a k G _=_;by_cases e:F.r (j+r*F.n)=k
  .rw[e]at this|-;rw[gI];exact v this
  .grind [fM]
 .have g:fC E.a k G c=.cl 1 0:=f;by_cases e:c=k
  .grind [gI]
  .rw[fM _ _ e]at g;exact h.y c d g
def PI.ahK(H:gW F)(p:PI F n zX E S f o v l w qJ)(D:0<E.r)(u:E.N 0=Í)(I:l[F.L]?=Ã g)(M:g.status=Å)(ht:f F.L=.fE)(t:E.S=.kV k):rJ F n zX E f l w qJ:=by
 have B:=iU I;have C:=p.I.r;have O:=p.Bm D u I M ht w<|C.r _ B;rw[t]at O;have Yo:=(p.C.I k).1 t;have X:=Bl H.C;have zh:iX F.S (λi=>i<l.size) E.Y (gC v F.L {v F.L with w:=w}) w qJ:=C.C B (λ_ q=>q) (λb q=>À<|Á q) (λ_ q=>q) (λa q=>À<|Á q) U U U (C.m _ B)<|C.g _ B;have Yp:=p.a.C (i:=F.L) (d:=(v F.L).d) (w0:=w)<|Ç _;have z:E.S.md=k:=by rw[t];rfl
 by_cases Ba:k<F.m
 .let⟨GO,Bn⟩:=p.M.M k (by rw[z];exact Ç _);let⟨r1,r2⟩:=p.a.f D u;rw[z]at r1 r2;let⟨o1,o2⟩:=p.a.e D (k+1) (by rw[z];omega) Ba;let⟨T,P⟩:=ju<|H.f k _ _ _ g Ba O (C.M B) GO Bn r2 r1 o1 o2 E.c U;have Q:=p.I.M (J:=JI F E.c<|.mk (k+1)) (T:=T) (K:=.no) I (À M) zh (by rwa[X]);have y:fC E.a 0 (E.a 0)=E.a:=by funext j;unfold fC;split<;>simp[*]
  refine⟨{E with S:=.mk (k+1)},_,_,_,_,λh=>h,.r (p.N.Ks H.C (sg:=E.c) u) p.b Q ?_ ?_ ?_ ?_ (Pu p.c U U U U U U U) p.f,Kt H.C (p.G B) u U U U U ?_⟩
  .have L:=Yp;exact⟨L.gX,L.o,L.lY,λa e b c=>L.e a e (by rwa[z]) c,λa b=>by have:=L.f a b;rwa[z]at this,L.h,L.l,L.S,L.M,L.c,λe b=>L.I e (by rwa[z]),λe b=>L.N e (by rwa[z]),λe a b=>L.g e a (by rwa[z]),L.d⟩
  .have W:=p.M;exact⟨W.C,W.I,W.jL,λe b=>W.M e (by rwa[z]),λe a b=>W.S e a (by rwa[z]),W.N⟩
  .have:=p.C.Ku (k:=0) (ip:=.mk (k+1)) (G:=E.a 0) (sg:=E.c) (V:=E.V) (pk:=E.e) u D (λe=>⟨λq=>(by cases q),λq=>(by cases q;exact⟨Z,Z⟩),λp q=>by cases q⟩) (λe a b c=> ?_) (λe a b=> ?_) (by rw[t];exact Ç _) id (λq=>p.C.y 0 (ò _) q) p.C.v
   .rwa[y]at this
   .rw[y];exact p.C.e e a b<|by rwa[t]
   .rw[y];rcases p.C.Y e a (by rwa[t])with⟨W,q,_⟩|⟨r,s,q,_⟩|q
    .rw[t]at q;rcases q with q|q<;>cases q
    .rw[t]at q;cases q
    .exact Á<|Á ⟨λp q=>(by cases q),q.2⟩
  .have:E.S.rl=(jB.mk<|k+1).rl:=by rw[t];rfl
   have a:=p.d;rwa[this]at a
  .rw[t];simp only[jB.rk];have:F.m+3-(k+1)=F.m+2-k:=Z
   rw[this];omega
 .have q:k=F.m:=Z
  subst q;let⟨T,P⟩:=ju<|H.h _ g O<|C.M B;have Q:=p.I.M (J:=JE F .oS) (T:=T) (K:=.no) I (À M) zh (by rwa[X]);have s:¬E.iB 0:=λ⟨e,a,_⟩=>by rw[u]at a;cases a
  have W:¬E.ow 0:=λ⟨e,a,_⟩=>by rw[u]at a;cases a
  refine⟨fB.gZ E 0 .oS,_,_,_,_,λh=>h,.r (p.N.G (x:=0) H.C λ⟨N,h⟩=>by cases h) p.b Q (Yp.gZ ⟨λh=>h.elim,λh=>(W h).elim⟩) p.M.gZ (p.C.gZ D (by rw[u];rfl) (λb h=>by rw[u]at h;cases h) (λb h=>by cases h) (λj h=>by omega) λ_=>t) (p.d.G ⟨λh=>h.elim,λh=>(s h).elim⟩) (Pp p.c λk y b c e=> ?_) p.f,DV H.C (p.G B)<|À ?_⟩
  .subst e;rw[ó,I]at b;obtain rfl:=È b;rw[M]at c;cases c
  .unfold rK;rw[u];simp only[iw.rk,if_true,t,jB.rk];have:F.m+2-F.m=2:=Z
   rw[this];omega
end
section
variable{F:Ph}{E E':fZ F}{S:Nat->Jd}{o G:Nat->gD}{v:Nat->iD}{d:Nat->fh}{f B:Array Ä}{u:ä}{D:Option (Nat×Nat)}
def Yq(ok:F.Ok)(a:k<=F.m):jj F.toFx k≠jw F i:=λe=>ok.C (by
 have:F.I k=F.Y:=by injection e
 rw[<-this];exact Á ⟨k,a,U⟩)
def ahL(ok:F.Ok)(a:k<=F.m)(b:i<=F.m)(h:jj F.toFx k=jj F.toFx i):k=i:=ok.S k i a b<|by injection h
def ahM(h:jw F i=jw F n):i=n:=by injection h
theorem PI.ahN(H:gW F)(p:PI F n zX E S o v d f w qJ)(h0:0<E.r)(he:E.N 0=Í)(hi:f[F.L]?=Ã g)(iN:g.status=Å)(ht:o F.L=.fE)(B:E.S=.mk k):rJ F n zX E o f w qJ:=by
 have y:=iU hi;have C:=p.I.r;have hJ:=p.Bm h0 he hi iN ht w<|C.r _ y;rw[B]at hJ;let⟨k1,N⟩:=(p.C.I k).2.1 B;have D:E.S.md=k-1:=by rw[B];rfl
 let⟨M,z,hn,Bn,Yr,hcell,hdone⟩:=hJ;let⟨o1,o2⟩:=p.a.e h0 k (by rw[D];omega) N;have zh:iX F.S (λi=>i<f.size) E.Y (gC d F.L<|qa F {d F.L with w:=w} k) w qJ:=by
  refine C.C y (λ_ q=>q.elim) (λb q=>À q) (λ_ q=>q.1) (λa q=> ?_) U U U (λ_ q=>q.elim) λa c q=> ?_
  .rcases q with q|rfl|rfl
   .exact À<|Á q
   .exact À<|À o2
   .exact À<|À o1
  .rcases q with q|q|q
   .exact C.g _ y a c.1 q
   .exact c.2.1 q
   .exact c.2.2 q
 have hF:lr F.P (F.L==0) (JI F (fC E.c k M)<|.dn k .jH) .fE (qa F {d F.L with w:=w} k) g:=by rw[Bl H.C];intro J s;let⟨Q,X,W,a3,e⟩:=hdone;exact⟨Q,X,W,a3,e.kg s⟩
 have hG:fC E.a 0 (E.a 0)=E.a:=by funext j;unfold fC;split<;>simp[*]
 have Vn:∀l,l≠k->fC E.V k z l=E.V l:=λl h=>fM _ _ h;have Vs:fC E.V k z k=z:=gI _ _ _;refine⟨{E with S:=.dn k .jH,c:=fC E.c k M,V:=fC E.V k z},_,_,_,_,λh=>h,.r ?_ p.b (p.I.M (K:=.no) hi (À iN) zh hF) ?_ ?_ ?_ ?_ (Pu p.c U U U U U U U) p.f,Kt H.C (p.G y) he U U U U ?_⟩
 .have:=p.N.Ks (ip:=.dn k .jH) (sg:=fC E.c k M) (T:=.fE) H.C he;exact⟨this.M,this.Y,this.I,this.C,this.r⟩
 .have L:=p.a;have G:(gC d F.L<|qa F {d F.L with w:=w} k) F.L=qa F {d F.L with w:=w} k:=gY _ _ _;have W:∀i,i≠F.L->(gC d F.L<|qa F {d F.L with w:=w} k) i=d i:=λi h=>gK d _ h;have Ys:(0:Nat)≠F.L:=by have:=H.C.r;omega
  have Pv:∀i a,(gC d F.L (qa F {d F.L with w:=w} k) i).r a->(d i).r a:=λi a h=>by
   by_cases q:i=F.L
   .subst q;rw[G]at h;exact h.1
   .grind
  have sO:∀i b,(gC d F.L (qa F {d F.L with w:=w} k) i).O b->(d i).O b/\i≠F.L:=λi b h=>by
   by_cases q:i=F.L
   .subst q;rw[G]at h;exact h.elim
   .grind
  have nOc:∀i,i<f.size->∀a,(a=jw F (F.b k)\/a=jj F.toFx k)->¬(gC d F.L (qa F {d F.L with w:=w} k) i).r a:=λi s a c h=>by
   by_cases q:i=F.L
   .subst q;rw[G]at h;rcases c with c|c
    .exact h.2.1 c
    .exact h.2.2 c
   .rw[W i q]at h;refine C.h i F.L s y q a h<|À ?_;grind
  refine⟨λi s a c=> ?_,λx t u a c=>by rw[W 0 Ys];exact L.o x t u a c,λh=>by rw[W 0 Ys];exact L.lY h,λh l t u=> ?_,λh zk=> ?_,λj hj zk r hr t=>by rw[W _ Z];exact L.h j hj zk r hr t,λj hj zk=>by rw[W _ Z];exact L.l j hj zk,λx Be=> ?_,λi s=> ?_,λi t u=>by rw[W i Z];exact L.c i t u,λl I b hb=> ?_,λl I i s h=> ?_,λl t u i s h=> ?_,λj hj r hr t i s h=>L.d j hj r hr t i s<|Pv _ _ h⟩
  .by_cases q:i=F.L
   .subst q;rw[G]at c;rcases c with q|q|q|q
    .exact L.gX _ y a<|À q.1
    .exact L.gX _ y a<|Á q
    .exact Á ⟨_,H.C.Y.1 _ Z Z,q⟩
    .grind
   .rw[W i q]at c;exact L.gX i s a c
  .rw[G];have Bo:k<l:=t;let⟨J,q2⟩:=L.e h l (by rw[D];omega) u;exact⟨⟨J,Yq H.C u,λe=>by have:=ahL H.C u N e;omega⟩,⟨q2,λe=>by have:=H.C.pi l k Z u k1 N<|ahM e;omega,λe=>Yq H.C N e.symm⟩⟩
  .rw[G];show(qa F _ k).N (jj F.toFx k)/\∀b,fC E.V k z k b->(qa F _ k).I b;rw[Vs];exact⟨Á<|Á U,Yr⟩
  .have:F.L+x≠F.L:=λq=>by
    have J:x=0:=Z
    subst J;let⟨e,t,_⟩:=Be;grind
   rw[W _ this];exact L.S x Be
  .by_cases q:i=F.L
   .subst q;rw[G];exact L.M _ s
   .rw[W _ q];exact L.M i s
  .have uk:l<=k:=I;by_cases q:l=k
   .subst q;have J:fC E.V l z l b:=hb;rw[Vs]at J;have hM:=Yr b J;refine⟨C.fA _ y b hM,C.I _ y b hM,λi s h=> ?_⟩;let⟨Q,X⟩:=sO i b h;exact C.o i F.L s y X b Q hM
   .have J:fC E.V k z l b:=hb;rw[Vn l q]at J;let⟨Q,X,a3⟩:=L.I l (by rw[D];omega) b J;exact⟨Q,X,λi s h=>a3 i s (sO i b h).1⟩
  .have uk:l<=k:=I;by_cases q:l=k
   .grind
   .exact L.N l (by rw[D];omega) i s<|Pv _ _ h
  .have uk:l<=k:=u;by_cases q:l=k
   .grind
   .exact L.g l t (by rw[D];omega) i s<|Pv _ _ h
 .have W:=p.M;refine⟨W.C,W.I,W.jL,λl I=> ?_,λl t I=> ?_,W.N⟩
  .have uk:l<=k:=I;show nz F l (fC E.c k M l)/\F.d l (fC E.c k M l) (fC E.V k z l) w;by_cases q:l=k
   .subst q;rw[gI,gI];refine⟨?_,Bn⟩;have:=(W.M (l-1)<|by rw[D];exact Ç _).1;have u:=nz.Du this hn;grind
   .rw[fM _ _ q,fM _ _ q];exact W.M l<|by rw[D];omega
  .have uk:l<=k:=I;by_cases q:l=k
   .subst q;exact hcell
   .exact W.S l t<|by rw[D];omega
 .have:=p.C.Ku (ip:=.dn k .jH) (sg:=fC E.c k M) (V:=fC E.V k z) (pk:=E.e) he h0 (λl=>⟨λq=>(by cases q),λq=>(by cases q),λp q=>by cases q;exact⟨k1,N⟩⟩) (λl a b c=> ?_) (λl a b=> ?_) (by rw[B];exact Ç _) id (λq=>p.C.y 0 (ò _) q)<|by rw[Vn 0 Z];exact p.C.v
  .grind
  .rw[hG];exact p.C.e l a b<|by rwa[B]
  .rw[hG];have J:l<=k-1:=b;rcases p.C.Y l a (by rwa[B])with⟨W,q,_⟩|⟨r,s,q,_⟩|q;all_goals grind
 .have c:=p.d;have e:E.S.rl=k-1:=by rw[B];rfl
  rw[e]at c;refine{c with I:=λl a b x Be=> ?_};have J:l<=k-1:=b;refine c.I l a b x (Be.imp (λq=> ?_) id);rwa[<-Vn l Z]
 .rw[B];simp only[jB.rk,jK.rk];have:F.m+3-k=(F.m+2-k)+1:=Z
  grind [ł]
theorem PI.ahO(H:gW F)(p:PI F n zX E S o v d f w qJ)(x:0<E.r)(m:E.N 0=Í)(G:f[F.L]?=Ã g)(iN:g.status=Å)(ht:o F.L=.fE)(e:E.S=.dn k .jH):ki F n zX E o f w qJ D F.L:=by
 have t:=iU G;have C:=p.I.r;have J:=p.Bm x m G iN ht w<|C.r _ t;rw[e]at J;let⟨k1,K⟩:=(p.C.I k).2.2 _ e;have M:=Bl H.C;let⟨hd,_,g',h1,N⟩:=J;have O:∀y:Ă,y.act=ė (Į<|fS<|F.I k)->y.act.touch?=Í:=λy i=>by rw[i];rfl
 let⟨T,hT⟩:=ju N;have P:=lO (λl g h=>À h.2.1) N;obtain⟨B,y,y1,y2,q1,Q,q3,q4,q5,q7⟩:=p.Bd H .no G (by rw[M];exact h1 w) ft ft (λy i=>⟨λz l=>(by rw[O y i]at l;cases l),by rw[i];exact C.N _<|À<|Á ⟨k,K,U⟩⟩) (λy _ i=>A0 C.l λl u=>by rw[xp u];exact O y i) (by rwa[M]) P;have z:E.S.md=k:=by rw[e];rfl
 have Px:E.S.rl=k-1:=by rw[e];rfl
 let⟨V,X⟩:=p.a.f x m;rw[z]at V X;have Y:=p.d;rw[Px]at Y;have I:k-1+1=k:=Z
 have DL:=Y.agT y1 (by rwa[I]) ((C.f _ t).trans hd) (by
  rw[I];intro a l;rcases l with l|rfl
  .exact(C.S _ t).C a<|X _ l
  .exact(C.S _ t).r _ V)
 rw[I]at DL;have hG:fC E.a 0 (E.a 0)=E.a:=by funext j;unfold fC;split<;>simp[*]
 refine⟨{E with S:=.dn k .iI,e:=fC E.e k qJ.size},_,_,_,_,B,w,#[y],q1,Q,λh=>h,.r ?_ (Q.trans p.b) q5 ?_ ?_ ?_ DL (p.c.qK (E':={E with S:=.dn k .iI,e:=fC E.e k qJ.size}) q3 (by rcases P with q|q<;>rw[q]<;>simp) q4 (λ_ _=>rfl) U U (λ_ _=>rfl) (λ_=>rfl) (λ_ _=>rfl) (λ_ _ h=>À h) λ_ _ _ _ h=>À h) λj r a1 a2 a3=> ?_,Kt H.C (p.G t) m U U U U ?_⟩
 .have:=p.N.Ks (ip:=.dn k .iI) (sg:=E.c) (T:=T) H.C m;exact⟨this.M,this.Y,this.I,this.C,this.r⟩
 .have L:=q7;exact⟨L.gX,L.o,L.lY,λa l b c=>L.e a l (by rwa[z]) c,λa b=>by have:=L.f a b;rwa[z]at this,L.h,L.l,L.S,L.M,L.c,λl b=>L.I l (by rwa[z]),λl b=>L.N l (by rwa[z]),λl a b=>L.g l a (by rwa[z]),L.d⟩
 .have W:=p.M;exact⟨W.C,W.I,W.jL,λl b=>W.M l (by rwa[z]),λl a b=>W.S l a (by rwa[z]),W.N⟩
 .have:=p.C.Ku (ip:=.dn k .iI) (sg:=E.c) (pk:=fC E.e k qJ.size) m x (λl=>⟨λq=>(by cases q),λq=>(by cases q),λp q=>by cases q;exact⟨k1,K⟩⟩) (λl a b c=> ?_) (λl a b=> ?_) (by rw[e];exact Ç _) id (λq=>p.C.y 0 (ò _) q) p.C.v
  .grind
  .rw[hG];exact p.C.e l a b<|by rwa[e]
  .rw[hG];have c:l<=k-1:=b;rcases p.C.Y l a (by rwa[e])with⟨W,q,_⟩|⟨r,s,q,_⟩|q;all_goals grind
 .have u:=p.C.w j r a1<|Á<|Á a2;rw[e]at u;simp only[jB.od]at u;show Λ _ _ (fC E.e k qJ.size _);rw[fM _ _ Z];exact(p.f j r a1 a2 a3).app _
 .rw[e];simp only[jB.rk,jK.rk];omega
end
section
variable{F:Ph}{E E':fZ F}{S:Nat->Jd}{v M:Nat->gD}{I:Nat->iD}{B:Nat->fh}{o f:Array Ä}{u:ä}{K:Option (Nat×Nat)}
def Bp(E:fZ F)(ip:jB)(k:Nat)(G:GS):fZ F:={E with S:=ip,a:=fC E.a k G}
theorem PI.DZ(H:gW F)(p:PI F j zX E S v I B o w qJ){d:jK}{ip:jB}{G:GS}{s:Ä}{T:gD}(h0:0<E.r)(C:E.N 0=Í)(t:E.S=.dn k d)(O:d≠ .jH)(Q:o[F.L]?=Ã g)(D:kK (F.I k) w W)(X:ij W (F.I k) G)(q1:Ŏ F.P (ð o w K) F.L=(ğ<|ð f W K,u))(J:f.size=o.size)(q3:f[F.L]?=Ã s)(nt:s.status=Å\/s.status=å)(q4:∀k,k≠F.L->f[k]?=o[k]?.map (Ā F.P g s W)) (q5:gO F.P F.S E.Y (fC S F.L<|JI F E.c ip) (fC v F.L T) (fC I F.L .no) (gC B F.L {B F.L with w:=W}) f W (qJ++u)) (q6:TI F.toFx j zX E.r E.S.rl E.V E.e E.d E.iB E.f (qJ++u)) (q7:iJ F E (gC B F.L {B F.L with w:=W}) f.size W) (x:ip.md=k/\ip.rl=k) (hP:Ps F (Bp E ip k G)) (Yh:ip.rk F<E.S.rk F) (Gy:∀i r,E.C i=.fD r .kH->F.r (i+r*F.n)=k->(E.a k).sm=0->G.sm=0\/∀y,f[F.L+1+i]?=Ã y->y.status≠Ü):ki F j zX E v o w qJ K F.L:=by
 let⟨k1,z⟩:=(p.C.I k).2.2 _ t;have M:F.M (F.I k):=Á ⟨k,z,U⟩;have N:E.S.md=k:=by rw[t];rfl
 have Px:E.S.rl=k:=by rw[t];cases d<;>first|rfl|exact absurd U O
 have m:=D.I H p.a p.C p.M M ⟨λq=>absurd q<|H.C.M k z,λ_=>rfl⟩ (λl a=>⟨λq=>by rwa[<-H.C.S _ _ z a q,gI],λq=>fM _ _ λe=>q<|by rw[e]⟩);refine⟨Bp E ip k G,_,_,_,_,f,W,u,q1,J,λh=>h,.r ?_ (J.trans p.b) q5 ?_ ?_ hP ?_ ?_ λi r a b c=>(p.f i r a b c).app u,Kt H.C (p.G<|iU Q) C U U U U Yh⟩
 .have:=p.N.Ks (ip:=ip) (sg:=E.c) (T:=T) H.C C;exact⟨this.M,this.Y,this.I,this.C,this.r⟩
 .have L:=q7;have e:(Bp E ip k G).S.md=E.S.md:=by rw[N];exact x.1
  exact⟨L.gX,L.o,L.lY,λa l b c=>L.e a l (by rwa[<-e]) c,λa b=>by have:=L.f a b;rwa[<-e]at this,L.h,L.l,L.S,L.M,L.c,λl b=>L.I l (by rwa[<-e]),λl b=>L.N l (by rwa[<-e]),λl a b=>L.g l a (by rwa[<-e]),L.d⟩
 .have e:(Bp E ip k G).S.md=E.S.md:=by rw[N];exact x.1
  exact⟨m.C,m.I,m.jL,λl b=>m.M l (by show l<=E.S.md;rwa[<-e]),λl a b=>m.S l a (by show l<=E.S.md;rwa[<-e]),m.N⟩
 .have e:(Bp E ip k G).S.rl=E.S.rl:=by rw[Px];exact x.2
  rwa[e]
 .refine p.c.qK (E':=Bp E ip k G) q3 (by rcases nt with q|q<;>rw[q]<;>simp) q4 (λi a=>D.C p.C M a) U U (λ_ _=>rfl) (λ_=>rfl) (λ_ _=>rfl) (λ_ _ h=>À h) λi r _ a b=> ?_;show(fC E.a k G _).sm=0\/_;grind [gI,fM]
theorem PI.D1(p:PI F j zX E S v I B o w qJ){d:jK}{f:jB}{G:GS}(m:0<E.r)(t:E.N 0=Í)(l:E.S=.dn k d)(D:f=.kV k\/∃u,f=.dn k u)(i:f.od=k)(H:(∃W,(f=.dn k (.gE W)\/f=.dn k (.jg W))/\G=.jI W/\W=Ñ F.n λe=>(E.C e).gH F e k)\/(∃r s,f=.dn k (.iE r)/\0<r/\G=.hD r s/\r+s=Ñ F.n λe=>(E.C e).gH F e k)\/((∀p,f≠ .dn k p)/\((G=.cl 0 0/\(Ñ F.n λe=>(E.C e).gH F e k)=0)\/∃s,G=.hD 0 s/\s=Ñ F.n λe=>(E.C e).gH F e k))) (x:(∃a b,E.a k=.hD a b)->∃a b,G=.hD a b) (y:G≠ .cl 1 0):Ps F (Bp E f k G):=by
 let⟨J,K⟩:=(p.C.I k).2.2 _ l;have C:k-1<=E.S.od/\E.S.od<=k:=by rw[l];cases d<;>simp only[jB.od]<;>omega
 have:=p.C.Ku (sg:=E.c) (pk:=E.e) t m (λg=> ?_) (λg a b c=> ?_) (λg a b=> ?_) (by rw[i];exact C.2) x (λq=>absurd q y) p.C.v
 .exact this
 .grind
 .rw[i]at c;rw[fM _ _ Z];exact p.C.e g a b Z
 .by_cases q:g=k
  .grind [gI]
  .rw[fM _ _ q];rw[i]at b;refine Á<|Á ⟨λc h=> ?_,?_⟩
   .grind
   .rcases p.C.Y g a Z with⟨W,z,_⟩|⟨r,s,z,_⟩|z;all_goals grind
theorem PI.ahP(H:gW F)(p:PI F j zX E S v I B o w qJ)(d:0<E.r)(i:E.N 0=Í)(s:o[F.L]?=Ã g)(iN:g.status=Å)(ht:v F.L=.fE)(c:E.S=.dn k .iI):ki F j zX E v o w qJ K F.L:=by
 have O:=iU s;have C:=p.I.r;have hJ:=p.Bm d i s iN ht w<|C.r _ O;rw[c]at hJ;obtain⟨k1,Y⟩:=(p.C.I k).2.2 _ c;have Q:=Bl H.C;have y:F.M (F.I k):=Á ⟨k,Y,U⟩;obtain⟨hd,_,uj⟩:=hJ;have hc:=p.C.e k k1 Y (by rw[c];simp only[jB.od];omega);obtain⟨W,hW⟩:∃W,(Ñ F.n λa=>(E.C a).gH F a k)=W:=⟨_,U⟩;rw[hW]at hc;have V:=hc▸p.M.I k Y;obtain⟨ev,z⟩:=V.jP;have key:=uj (GS.cl (0+1) W).st;rw[ev]at key z;obtain⟨m,t⟩:∃m,(GS.jP<|.cl (0+1) W).st=m:=⟨_,U⟩;rw[t]at key;obtain⟨g',h1,h2⟩:=key;have G:=h1 w V.C V.I;rw[<-t]at G;obtain⟨k1',k2,k3⟩:=V.r;have r:kK (F.I k) w (w.setCell (fS<|F.I k)<|ë Ó (GS.jP<|.cl (0+1) W).st):=Á ⟨_,_,À U,U⟩;have D:=r.r p.a H.C y;have X:fL {B F.L with w:=w} w (w.setCell (fS<|F.I k)<|ë Ó (GS.jP<|.cl (0+1) W).st):=⟨Õ D.r.symm,λb ly=>D.jY b<|C.I _ O b ly,λa ha=>D.M _ O a ha,λa ha=>D.N _ O a ha,λa _=>D.I a⟩;have Yt:¬∃a b,E.a k=.hD a b:=λ⟨a,b,q⟩=>by rw[hc]at q;cases q
 by_cases hl:0<W
 .have ed:GS.jP (.cl (0+1) W)=.jI W:=by simp only[GS.jP];rw[if_pos ⟨trivial,hl⟩]
  rw[ed]at G z r D X t;have M:fq F.P É (J9 F.P É (F.I k) (fq F.P É<|F.h k) W) {B F.L with w:=w} g':=by
   have e:m=(W:Int):=t.symm;have h:¬(m=0\/(gk<=m/\m<1000000*gk/\m%gk<1000000)):=by simp only[gk];omega
   grind
  obtain⟨T,hT⟩:=ju<|M.kg X;have N:=lO (λl g h=>À h.2.1) M;obtain⟨f,u,q1,q2,q3,q4,q5,q6,q7⟩:=p.Y (J:=JI F E.c<|.dn k (.gE W)) H .no s (DX d) y (by rwa[Q]) r (A8 y) U (λx hs e=>(DY i x hs e).elim) (by rwa[Q]) N;refine p.DZ H d i c ft s r z q1 q2 q3 N q4 q5 q6 q7 ⟨U,U⟩ (p.D1 d i c (Á ⟨_,U⟩) U (À ⟨W,À U,U,hW.symm⟩) (λq=>absurd q Yt) ft) ?_ λ_ _ _ _ _=>À U;rw[c];simp only[jB.rk,jK.rk];omega
 .have Pr:W=0:=Z
  subst Pr;have ed:GS.jP (.cl (0+1) 0)=.cl 0 0:=U;rw[ed]at G z r D X t;have M:fq F.P É (F.h k) {B F.L with w:=w} g':=by simp only[t.symm,true_or,if_true]at h2;exact h2
  obtain⟨T,hT⟩:=ju<|M.kg X;have N:=lO (λl g h=>À<|H.N _ _ _ h) M;obtain⟨f,u,q1,q2,q3,q4,q5,q6,q7⟩:=p.Y (J:=JI F E.c<|.kV k) H .no s (DX d) y (by rwa[Q]) r (A8 y) U (λx hs e=>(DY i x hs e).elim) (by rwa[Q]) N;refine p.DZ H d i c ft s r z q1 q2 q3 N q4 q5 q6 q7 ⟨U,U⟩ (p.D1 d i c (À U) U (Á<|Á ⟨λp q=>(by cases q),À ⟨rfl,hW⟩⟩) (λq=>absurd q Yt) ft) ?_ λ_ _ _ _ _=>À rfl;rw[c];simp only[jB.rk,jK.rk];omega
theorem PI.Yu(p:PI F j zX E S v I B o w qJ)(b:E.S=.dn k (.gE i)\/E.S=.dn k (.jg i)):E.a k=.jI i/\i=Ñ F.n λa=>(E.C a).gH F a k:=by
 have c:k<=F.m:=by rcases b with b|b<;>exact((p.C.I k).2.2 _ b).2
 rcases p.C.Y k c (by rcases b with b|b<;>(rw[b];exact Ç _))with⟨d,z,e,f⟩|⟨r,s,z,_⟩|⟨z,_⟩;all_goals grind
def PI.ahQ(H:gW F)(p:PI F j zX E S v I B o w qJ)(d:0<E.r)(m:E.N 0=Í)(n:o[F.L]?=Ã g)(M:g.status=Å)(N:v F.L=.fE)(c:E.S=.dn k (.gE i)):ki F j zX E v o w qJ K F.L:=by have s:=p.Bm d m n M N w<|(p.I.r).r _<|iU n;rw[c]at s;let⟨k1,t⟩:=(p.C.I k).2.2 _ c;have y:=Bl H.C;have z:F.M (F.I k):=Á ⟨k,t,U⟩;let⟨hd,_,O⟩:=s;let⟨C,P⟩:=p.Yu<|À c;have D:=C▸p.M.I k t;let⟨g',Q,r⟩:=O (i:Int);simp only[if_true]at r;let⟨T,V⟩:=ju r;have G:=lO (λl g h=>À h.2.1) r;obtain⟨f,u,h,l,X,Y,q5,q6,q7⟩:=p.Y (J:=JI F E.c<|.dn k (.jg i)) H .no n (DX d) z (by rw[y];exact Q w D.C) (À U) (zf z) U (λx a e=>(DY m x a e).elim) (by rwa[y]) G;refine p.DZ H d m c ft n (À U) D h l X G Y q5 q6 q7 ⟨U,U⟩ (p.D1 d m c (Á ⟨_,U⟩) U (À ⟨i,Á U,U,P⟩) (λ⟨a,b,q⟩=>by rw[C]at q;cases q) ft) ?_ λ_ _ _ _ _=>À rfl;rw[c];simp only[jB.rk,jK.rk];omega
def PI.ahR(H:gW F)(p:PI F j zX E S v I B o w qJ)(d:0<E.r)(m:E.N 0=Í)(n:o[F.L]?=Ã g)(N:g.status=Å)(O:v F.L=.fE)(c:E.S=.dn k (.jg i)):ki F j zX E v o w qJ K F.L:=by
 have q:=iU n;have C:=p.I.r;have y:=p.Bm d m n N O w<|C.r _ q;rw[c]at y;let⟨k1,z⟩:=(p.C.I k).2.2 _ c;have G:=Bl H.C;have s:F.M (F.I k):=Á ⟨k,z,U⟩;let⟨hd,_,g',P,M⟩:=y;let⟨Q,V⟩:=p.Yu<|Á c;have r:=Q▸p.M.I k z;have X:=r.r.1;have t:kK (F.I k) w (w.setCell (fS<|F.I k)<|ë Ó 0):=Á ⟨_,_,À U,U⟩;have D:=t.r p.a H.C s;let⟨T,Y⟩:=ju (M.kg ⟨Õ D.r.symm,λb h=>D.jY b<|C.I _ q b h,λa e=>D.M _ q a e,λa e=>D.N _ q a e,λa _=>D.I a⟩);have a:=lO (λl g h=>by
  cases i with
  |zero=>omega
  |succ i=>exact À h.2.1) M
 obtain⟨f,u,h,b,l,q4,q5,q6,q7⟩:=p.Y (J:=JI F E.c<|.dn k (.iE i)) H .no n (DX d) s (by rw[G];exact P w _ r.C r.I) t (X2 s) U (λx hs e=>(DY m x hs e).elim) (by rwa[G]) a;refine p.DZ H d m c ft n t r.XQ h b l a q4 q5 q6 q7 ⟨U,U⟩ (p.D1 d m c (Á ⟨_,U⟩) U (Á<|À ⟨i,0,U,X,U,by rwa[ó]⟩) (λ_=>⟨i,0,U⟩) ft) ?_ λ_ _ _ _ _=>À U;rw[c];simp only[jB.rk,jK.rk];omega
theorem PI.ahS(H:gW F)(p:PI F j zX E S v I B o w qJ)(l:0<E.r)(t:E.N 0=Í)(G:o[F.L]?=Ã g)(iN:g.status=Å)(ht:v F.L=.fE)(h:E.S=.dn k (.iE j9)):ki F j zX E v o w qJ K F.L:=by
 have W:=iU G;have C:=p.I.r;have hJ:=p.Bm l t G iN ht w<|C.r _ W;rw[h]at hJ;obtain⟨k1,Y⟩:=(p.C.I k).2.2 _ h;have X:=Bl H.C;have O:F.M (F.I k):=Á ⟨k,Y,U⟩;obtain⟨s,hr0,hc,sV⟩:∃s,0<j9/\E.a k=.hD j9 s/\j9+s=Ñ F.n λc=>(E.C c).gH F c k:=by rcases p.C.Y k Y (by rw[h];exact Ç _)with⟨W',z,z1,z2⟩|⟨M,s,z,z1,z2,z3⟩|⟨z,_⟩;all_goals grind
 obtain⟨j9,rfl⟩:∃M,j9=M+1:=⟨j9-1,Z⟩;obtain⟨hd,_,Pt,g',Q,h1,h2⟩:=hJ;have N:=hc▸p.M.I k Y;have V:kK (F.I k) w (w.setCell (gT<|F.I k)<|ë ç<|ç.wrap<|(GS.hD (j9+1) s).sm+1):=Á ⟨_,_,Á U,U⟩;have D:=V.r p.a H.C O;have xr:fL {B F.L with w:=w} w (w.setCell (gT<|F.I k)<|ë ç<|ç.wrap<|(GS.hD (j9+1) s).sm+1):=⟨Õ D.r.symm,λb ly=>D.jY b<|C.I _ W b ly,λa ha=>D.M _ W a ha,λa ha=>D.N _ W a ha,λa _=>D.I a⟩;have wake:∀f:Array Ä,(∀k,k≠F.L->f[k]?=o[k]?.map (Ā F.P g g'<|w.setCell (gT<|F.I k)<|ë ç<|ç.wrap<|(GS.hD (j9+1) s).sm+1))\/(∀m,m≠F.L->f[m]?=o[m]?.map (Ā F.P g g'<|w.setCell (gT<|F.I k)<|ë ç<|ç.wrap<|(GS.hD (j9+1) s).sm+1))->∀c M,E.C c=.fD M .kH->F.r (c+M*F.n)=k->(E.a k).sm=0->(GS.hD j9<|s+1).sm=0\/∀y,f[F.L+1+c]?=Ã y->y.status≠Ü:=by
  intro f d c M hj _ _;refine Á λy hy=> ?_;by_cases Yv:c+2<=E.r
  .by_cases Kv:E.N (c+1)=Í
   .obtain⟨_,hk⟩:=p.g c Yv Kv;rw[hj]at hk;rcases d with d|d<;>
    .rw[d _ Z]at hy;obtain⟨z,GN,rfl⟩:=Ù.1 hy;exact Ym p Pt Q GN hk
   .obtain⟨_,r0,q,_⟩:=p.C.l c Yv Kv;grind
  .have:=p.C.z c Z;grind
 cases j9 with
 |zero=>
  obtain⟨T,hT⟩:=ju<|h2.kg xr;obtain⟨f,u,q1,q2,q3,d,q5,q6,q7⟩:=p.Y (J:=JI F E.c<|.kV k) H .no G (DX l) O (by rw[X];exact h1 w _ N.M N.N) V (Gt O) (Gu _).2.2.2 (λx hs e=>(DY t x hs e).elim) (by rwa[X])<|À Q;refine p.DZ H l t h ft G V N.jH q1 q2 q3 (À Q) d q5 q6 q7 ⟨U,U⟩ (p.D1 l t h (À U) U (Á<|Á ⟨λp q=>(by cases q),Á ⟨s+1,rfl,Z⟩⟩) (λ_=>⟨0,s+1,rfl⟩) ft) ?_<|wake f<|Á d;rw[h];simp only[jB.rk,jK.rk];omega
 |succ j9=>
  obtain⟨T,hT⟩:=ju<|h2.kg xr;obtain⟨f,u,q1,q2,q3,d,q5,q6,q7⟩:=p.Y (J:=JI F E.c<|.dn k (.iE (j9+1))) H .no G (DX l) O (by rw[X];exact h1 w _ N.M N.N) V (Gt O) (Gu _).2.2.2 (λx hs e=>(DY t x hs e).elim) (by rwa[X])<|À Q;refine p.DZ H l t h ft G V N.jH q1 q2 q3 (À Q) d q5 q6 q7 ⟨U,U⟩ (p.D1 l t h (Á ⟨_,U⟩) U (Á<|À ⟨j9+1,s+1,U,Z,U,Z⟩) (λ_=>⟨j9+1,s+1,U⟩) ft) ?_<|wake f<|Á d;rw[h];simp only[jB.rk,jK.rk];have:Ñ F.n (λc=>(E.C c).gH F c k)<=F.n:=Gw λi=>by cases E.C i<;>simp only[gR.gH]<;>first|omega|(split<;>first|omega|(rename_i q _;cases q<;>simp[jz.sU]))
  omega
theorem PI.ahT(H:gW F)(p:PI F j zX E S v I B o w qJ){N:Nat}(s:i<E.r)(a:E.N i=Ã (.jy N))(t:o[F.L+i]?=Ã g)(J:g.status=Å):ki F j zX E v o w qJ K (F.L+i):=by
 let⟨M,n,O⟩:=p.k i _ s a;have hL:=H.C.r;obtain⟨f,P,Q,hn,T,l,V,u,z⟩:=p.I.OM t Z J n (O ⟨N,U⟩) M;have C:=iU t;have D:∀c∈Û (F.L+i) g.frame.fn g.frame.place P,c.act.touch?=Í/\∀b,F.M b->c.act≠ė (.release<|fS b):=λc d=>by obtain⟨e,h,rfl⟩:=Ø d;refine⟨ź<|u e h,λb _ q=> ?_⟩;have:=u e h;let⟨k,y,m⟩:=e;cases k<;>simp_all[Event.mute,Ë]
 obtain⟨m,G⟩:∃m,f[F.L+i]?=Ã m:=⟨f[F.L+i]'(by rwa[l]),é _⟩;have W:m.status≠Ü:=by
  let⟨g0,y,h,k,r⟩:=z.C _ m G;rw[n]at h;cases h with
  |gw=>rcases k with q|q<;>rw[q]<;>simp
 have X:fC v (F.L+i) .fE=v:=by funext q;unfold fC;split<;>simp[*]
 have Y:fC I (F.L+i) .no=I:=by funext q;unfold fC;split<;>simp[*]
 refine⟨fB.gZ E i<|.jy Q,_,_,_,_,f,w,_,T,l,λh=>h,.r (p.N.G H.C λ_=>rfl) (l.trans p.b) (by rwa[X,Y]) (by rw[l];exact(p.a.C<|Ç _).gZ<|⟨λ_=>⟨_,a,trivial⟩,λ_=>trivial⟩) p.M.gZ (p.C.gZ s (by rw[a];rfl) (λk h=>by rw[a]at h;cases h) (λk h=>by cases h) (λq h=>p.C.l q Z<|by rw[<-h,a];simp) λh=>p.C.f<|by rw[<-h,a];simp) ((p.d.C<|yZ (λc d=>(D c d).1) λc d=>(D c d).2).G<|⟨λ_=>⟨_,a,trivial⟩,λ_=>trivial⟩) (Pp (p.c.Ge G W V λ_ _=>rfl) λk y n r e=> ?_) λq r k e y=>(p.f q r k e y).app _,DV H.C (p.G C)<|Á ?_⟩
 .grind
 .unfold rK;rw[a];simp only[iw.rk];grind
theorem PI.ahU(H:gW F)(p:PI F j zX E S v I B o w qJ)(N:0<i)(t:i<F.L)(u:o[i]?=Ã g)(O:g.status=Å):ki F j zX E v o w qJ K i:=by
 let⟨Q,T,m⟩:=p.l i N t;obtain⟨f,x,z,Y,V,n,W,C,D⟩:=p.I.OM u Z O m T Q;have G:=iU u;have J:∀c∈Û i g.frame.fn g.frame.place x,c.act.touch?=Í/\∀b,F.M b->c.act≠ė (.release<|fS b):=λc l=>by obtain⟨e,a,rfl⟩:=Ø l;refine⟨ź<|C e a,λb _ q=> ?_⟩;have:=C e a;let⟨h,k,y⟩:=e;cases h<;>simp_all[Event.mute,Ë]
 obtain⟨s,M⟩:∃s,f[i]?=Ã s:=⟨f[i]'(by rwa[n]),é _⟩;have X:s.status≠Ü:=by
  let⟨g0,k,a,h,y⟩:=D.C _ s M;rw[m]at a;cases a with
  |gw=>rcases h with q|q<;>rw[q]<;>simp
 refine⟨{E with h:=fC E.h i z},_,_,_,_,f,w,_,V,n,λh=>h,.r ?_ (n.trans p.b) D ?_ ⟨p.M.C,p.M.I,p.M.jL,p.M.M,p.M.S,p.M.N⟩ ?_ (p.d.C<|yZ (λc l=>(J c l).1) λc l=>(J c l).2) (Pu (p.c.Ge M X W λ_ _=>rfl) U U U U U U U) λq r a k y=>(p.f q r a k y).app _,Gr (p.G G) ?_ λk m=>zd (λ_=>rfl) (λ_ _=>fM _ _ m) (λ_=>rfl) (λ_ _=>rfl) (λ_ _=>rfl) U⟩
 .have h:=p.N;refine⟨by rw[fM S _ Z];exact h.M,λa b=>by rw[fM S _ Z];exact h.Y a b,λq a b=>by rw[fM S _ Z];exact h.I q a b,λy e a b=>by rw[fM S _ Z];exact h.C y e a b,λq a b=> ?_⟩;by_cases e:q=i
  .grind [gI]
  .rw[fM S _ e];refine⟨?_,(h.r q a b).2⟩;show _=pA F.P (fC E.h i z q);rw[fM _ _ e];exact(h.r q a b).1
 .rw[n];have L:=p.a.C (i:=i) (d:=Ï (B i).d x) (w0:=w)<|Ç _;exact⟨L.gX,L.o,L.lY,L.e,L.f,L.h,L.l,L.S,L.M,L.c,L.I,L.N,L.g,L.d⟩
 .have h:=p.C;exact⟨h.v,h.C,h.K,h.L,h.J,h.I,h.z,h.d,h.l,h.f,h.h,h.M,h.o,h.t,h.g,h.u,h.N,h.B,h.e,h.Y,h.w,h.H,h.O,h.S,h.y,h.D⟩
 .unfold fZ.iY;rw[if_neg Z,if_pos t,if_neg Z,if_pos t];refine Á ⟨U,À ?_⟩;grind [gI]
end
section
variable{F:Ph}{E J:fZ F}{S:Nat->Jd}{d M:Nat->gD}{o:Nat->iD}{m:Nat->fh}{f D:Array Ä}{u:ä}{I:Option (Nat×Nat)}
def iC(E:fZ F)(x:gf)(G:GS)(dk:Nat->Nat):fZ F:={E with M:=x,b:=G,I:=dk}
structure jc(E:fZ F)(x:gf)(C:Nat->Nat):Prop where
 r:x.sp F.n=E.r
 C:∀j,j+2<=E.r->C j=E.I j
def Bq{x:gf}{G:GS}{d:Nat->Nat}(a:jc E x d):(iC E x G d).Y=E.Y:=by have e:(iC E x G d).r=E.r:=a.r;funext b;unfold fZ.Y;rw[e];refine propext<|or_congr Iff.rfl<|or_congr Iff.rfl ⟨λ⟨j,c,f⟩=>⟨j,c,f.trans<|a.C j c⟩,λ⟨j,c,f⟩=>⟨j,c,f.trans (a.C j c).symm⟩⟩
def iJ.G(L:iJ F E m i w){x:gf}{G:GS}{d:Nat->Nat}(a:jc E x d):iJ F (iC E x G d) m i w:=by have e:(fB.iC E x G d).r=E.r:=a.r;exact⟨L.gX,λy f=>L.o y Z,λh=>L.lY Z,λh=>L.e Z,λh=>L.f Z,λj h=>L.h j Z,λj h=>L.l j Z,L.S,λc g=>L.M c (g.imp id λ⟨y,f,b⟩=>⟨y,Z,b⟩),L.c,λk l b n=>by rw[Bq a];exact L.I k l b n,L.N,L.g,λj h=>L.d j Z⟩
def Wd.r{G:GS}(W:Wd F {E with b:=G,a:=E.a} w){x:gf}{dk:Nat->Nat}(a:jc E x dk)(c:x.mM F.q=E.M.mM F.q)(d:x.ji F.n=E.M.ji F.n):Wd F (iC E x G dk) w:=by
 have e:(fB.iC E x G dk).r=E.r:=a.r;refine⟨W.C,W.I,λj f=> ?_,W.M,W.S,λj f=>W.N j<|show j+2<=E.r by omega⟩;have b:j+2<=E.r:=Z
 have:=W.jL j b;show∃g s,w.heap[dk j]?=Ã (.chan F.q g (decide<|j<x.ji F.n) s (E.C j).iR É)/\tY F.n j (x.mM F.q) s/\_;rw[a.C j b,c,d];exact this
def Py{x:gf}{G:GS}{dk:Nat->Nat}(h:x.ad F.n=E.M.ad F.n):(iC E x G dk).G=E.G:=by
 funext y;show(if y<x.ad F.n then _ else _)=if y<E.M.ad F.n then _ else _
 rw[h];rfl
def Ps.iC(h:Ps F E){x:gf}{G:GS}{dk:Nat->Nat}(d:jc E x dk)(o:E.M.ji F.n<=x.ji F.n)(t:∀j,x=.go j\/x=.lN j\/x=.rd j\/x=.iI j->j<=F.n)(u:∀j,x=.lN j\/x=.rd j\/x=.iI j->1<=j)(v:∀r,(x=.iO r->r<=F.q)/\(x=.lh r->r<=F.n)) (w:∀c f,G=.cl c f->c=Ñ (F.n+1) (fB.iC E x G dk).G/\f=x.gH) (z:∀f,G=.jI f->Ñ (F.n+1) (fB.iC E x G dk).G=0/\f=x.gH/\∃y,y<E.r/\E.g=Ã y/\(E.N y=Ã (.gp (.gE f))\/E.N y=Ã (.gp (.jg f)))) (B:∀r s,G=.hD r s->Ñ (F.n+1) (fB.iC E x G dk).G=0/\r+s=x.gH/\(0<r->∃y,y<E.r/\E.g=Ã y/\E.N y=Ã (.gp (.iE r)))) (C:∀y p,E.N y=Ã (.gp p)->(∀W,p=.gE W\/p=.jg W->E.g=Ã y/\G=.jI W)/\(∀r,p=.iE r->0<r/\E.g=Ã y/\∃s,G=.hD r s)) (D:x=.fD .gE\/x=.fD .lu\/x=.gp->Ñ (F.n+1) (fB.iC E x G dk).G=0) (H:x=.fD .gE->∃a b,G=.hD a b) (I:(∀p,x≠ .fD p)->x≠ .gp->∃c,G=.cl c 0):Ps F (fB.iC E x G dk):=by
 have e:(fB.iC E x G dk).r=E.r:=d.r;refine⟨h.v,t,u,v,λq=>h.J Z,h.I,λj q=>h.z j Z,λj r q=>h.d j r Z,λj q J=> ?_,h.f,λy q=>h.h y Z,λj g N O K=> ?_,λj q=> ?_,w,λf i=> ?_,λr s i=> ?_,C,D,h.e,h.Y,λj r q=>h.w j r Z,λj r q=>h.H j r Z,H,I,h.y,λj r q=>h.D j r Z⟩
 .let⟨a,b⟩:=h.l j Z J;exact⟨Ê a o,b⟩
 .have k:dk j=dk g:=K;rw[d.C j Z,d.C g Z]at k;exact h.M j g Z Z k
 .show¬F.M (dk j)/\dk j≠F.Y/\F.S<=dk j;rw[d.C j Z];exact h.o j Z
 .let⟨k,l,y,m,L⟩:=z f i;exact⟨k,l,y,Z,L⟩
 .let⟨k,l,m⟩:=B r s i;refine⟨k,l,λL=> ?_⟩;let⟨y,P,M⟩:=m L;exact⟨y,Z,M⟩
def Ps.r(h:Ps F E){x:gf}{dk:Nat->Nat}(d:jc E x dk)(g:E.M.ji F.n<=x.ji F.n)(i:x.ad F.n=E.M.ad F.n)(f:x.gH=E.M.gH)(k:∀j,x=.go j\/x=.lN j\/x=.rd j\/x=.iI j->j<=F.n)(l:∀j,x=.lN j\/x=.rd j\/x=.iI j->1<=j)(m:∀r,(x=.iO r->r<=F.q)/\(x=.lh r->r<=F.n)) (o:x=.fD .gE\/x=.fD .lu\/x=.gp->Ñ (F.n+1) E.G=0) (s:x=.fD .gE->∃a b,E.b=.hD a b) (t:(∀p,x≠ .fD p)->x≠ .gp->∃c,E.b=.cl c 0):Ps F (fB.iC E x E.b dk):=by
 have e:=Py (E:=E) (G:=E.b) (dk:=dk) i;refine h.iC d g k l m ?_ ?_ ?_ h.N ?_ s t
 .rw[e,f];exact h.t
 .rw[e,f];exact h.g
 .rw[e,f];exact h.u
 .rwa[e]
def qN.iC(h:qN F E S d o)(ok:F.Ok){x:gf}{G:GS}{dk:Nat->Nat}{T:gD}(a:jc E x dk):qN F (fB.iC E x G dk) (fC S 0<|JM F dk x) (fC d 0 T) (fC o 0<|kM x):=by have:=ok.r;have e:(fB.iC E x G dk).r=E.r:=a.r;refine⟨by rw[gI,gI];exact⟨U,U⟩,λc b=>by rw[fM S _ Z,fM o _ Z];exact h.Y Z b,λj c b=> ?_,λy f c b=>by rw[fM S _ Z,fM o _ Z,fM d _ Z];exact h.C y f Z b,λi c b=>by rw[fM S _ Z,fM o _ Z,fM d _ Z];exact h.r i c b⟩;rw[fM S _ Z,fM o _ Z];show _=JW F (dk j) j (E.C j)/\_=kW F (dk j) (E.C j);rw[a.C j Z];exact h.I j Z b
def rL{x:gf}{G:GS}{dk:Nat->Nat}{T:gD}(h:x.rk F<E.M.rk F):pB F.N ((iC E x G dk).mu (fC d 0 T) D) (E.mu d f):=by refine Gr (by unfold Ph.N;omega) (À ?_) λk a=>zd (λh=>absurd h a) (λ_ _=>rfl) (λ_=>rfl) (λ_ _=>rfl) (λ_ _=>rfl)<|fM d _ a;rwa[Dx,Dx]
theorem Yw:E.lE 0=match E.M with|.fD p=>p.lE F.B E.b.st|_=>0:=by unfold fZ.lE;grind
def ahV{p a:SP}(b:E.M=.fD (.mq p))(g:d 0=.fE)(h:a.rk F.B E.b.st<p.rk F.B E.b.st):pB F.N ((iC E (.fD (.mq a)) E.b E.I).mu (fC d 0 .fE) D) (E.mu d f):=by
 refine X3 (i:=0) (λk _=> ?_) (by unfold Ph.N;omega) ?_ λk c=> ?_
 .by_cases e:k=0
  .subst e;rw[Dx,Dx,gI,b,g];rfl
  .exact zd (λh=>absurd h e) (λ_ _=>rfl) (λ_=>rfl) (λ_ _=>rfl) (λ_ _=>rfl)<|fM d _ e
 .rwa[Yw,Yw,b]
 .unfold fZ.lE;rw[if_neg c,if_neg c];rfl
def PI.sX(p:PI F b zX E S d o m f w qJ)(c:f[0]?=Ã g)(e:g.status=Å)(h:d 0=.fE):∀a,fL (m 0) (m 0).w a->JM F E.I E.M {m 0 with w:=a} g:=by
 let⟨k,i⟩:=p.h;have j:o 0=.no\/o 0=.iE:=by
  rw[i];cases E.M with
  |fD v=>cases v<;>first|exact À U|exact Á U
  |_=>exact À U
 intro a r;have:=p.I.N c e h j a r;simp_all
def zo(ok:F.Ok):∀x,E.iB x->0=F.L+x->False:=λx _ e=>by have:=ok.r;omega
theorem PI.zp(H:gW F)(p:PI F b zX E S d o m f w qJ){x:gf}{G:GS}{dk:Nat->Nat}{c:Ä}{T:gD}(a:jc E x dk)(C:Ŏ F.P (ð f w I) 0=(ğ<|ð D W I,u))(l:D.size=f.size)(q3:D[0]?=Ã c)(nt:c.status=Å\/c.status=å)(J:∀k,k≠0->D[k]?=f[k]?.map (Ā F.P g c W))(K:∀j,j+2<=E.r->W.heap[E.I j]?=w.heap[E.I j]?) (L:gO F.P F.S E.Y (fC S 0<|JM F dk x) (fC d 0 T) (fC o 0<|kM x) (gC m 0 {m 0 with w:=W}) D W (qJ++u)) (M:TI F.toFx b zX E.r E.S.rl E.V E.e E.d E.iB E.f (qJ++u)) (O:iJ F E (gC m 0 {m 0 with w:=W}) D.size W) (Q:Wd F (iC E x G dk) W) (X:Ps F (iC E x G dk)) (xo:pB F.N ((iC E x G dk).mu (fC d 0 T) D) (E.mu d f)) (hxf:x=.gp->E.M=.gp):ki F b zX E d f w qJ I 0:=by
 have e:(iC E x G dk).r=E.r:=a.r;refine⟨iC E x G dk,_,_,_,_,D,W,u,C,l,hxf,.r (p.N.iC H.C a) (by rw[e];exact l.trans p.b) (by rwa[Bq a]) (O.G a) Q X (by rwa[e]) ?_ λi h s n q=>(p.f i h Z n q).app u,xo⟩;intro k y n hb;by_cases q:k=0
 .grind
 .rw[J k q]at n;obtain⟨z,hz,rfl⟩:=Ù.1 n;let⟨_,hzb⟩:=Gq hb;rcases p.c k z hz hzb with⟨h1,_⟩|⟨j,t,v,B,i|⟨r,cap,s,h,i,h4⟩⟩
  .exact absurd h1 q
  .exact Á ⟨j,Z,v,B,À i⟩
  .refine Á ⟨j,Z,v,B,Á ⟨r,cap,s,h,i,?_⟩⟩;show W.heap[dk j]?=_;rwa[a.C j t,K j t]
theorem PI.Kw(H:gW F)(p:PI F b zX E S d o m f w qJ){x:gf}{h:Nat->Nat}{T:gD}(c:jc E x h)(v:f[0]?=Ã g)(B:g.status=Å)(hF:lr F.P Ì (JM F h x) T {m 0 with w:=w} g)(t:x.mM F.q=E.M.mM F.q)(l:x.ji F.n=E.M.ji F.n)(D:Ps F (iC E x E.b h))(G:pB F.N ((iC E x E.b h).mu (fC d 0 T) f) (E.mu d f))(I:x=.gp->E.M=.gp):rJ F b zX E d f w qJ:=by
 have u:=iU v;have C:=p.I.r;have e:(iC E x E.b h).r=E.r:=c.r;have J:iX F.S (λi=>i<f.size) E.Y (gC m 0 {m 0 with w:=w}) w qJ:=C.C u (λ_ q=>q) (λa q=>À<|Á q) (λ_ q=>q) (λa q=>À<|Á q) U U U (C.m _ u)<|C.g _ u;have L:=p.I.M (K:=kM x) v (À B) J hF;refine⟨iC E x E.b h,_,_,_,_,I,.r (p.N.iC H.C c) (by rw[e];exact p.b) (by rwa[Bq c]) ((p.a.C<|Ç _).G c) (Wd.r p.M c t l) D (by rw[e];exact p.d) (λk y M O=> ?_) λi a z j s=>p.f i a Z j s,G⟩;by_cases Q:k=0
 .grind
 .rcases p.c k y M O with⟨t,_⟩|⟨j,V,z,l,i|⟨r,W,s,a,i,X⟩⟩
  .exact absurd t Q
  .exact Á ⟨j,Z,z,l,À i⟩
  .refine Á ⟨j,Z,z,l,Á ⟨r,W,s,a,i,?_⟩⟩;show w.heap[h j]?=_;rwa[c.C j V]
def mV{x:gf}(h:x.sp F.n=E.M.sp F.n):jc E x E.I:=⟨h,λ_ _=>rfl⟩
theorem nA:F.M F.C:=À U
theorem PI.ahW(H:gW F)(p:PI F b zX E S d o m f w qJ)(k:f[0]?=Ã g)(l:g.status=Å)(s:d 0=.fE)(e:E.M=.lN j):rJ F b zX E d f w qJ:=by
 have i:=p.sX k l s w<|p.I.r.r _<|iU k;rw[e]at i;let⟨c,i⟩:=i;have t:E.r=j:=by unfold fZ.r;rw[e];rfl
 have a:jc E (.go j) (fC E.I (j-1) c):=⟨t.symm,λn h=>fM _ _ Z⟩;refine p.Kw H (T:=.fE) a k l (λr q=>H.Gn _ _ _ _ _ i q) (by rw[e];rfl) (by rw[e];rfl) (p.C.r a (by rw[e];exact Ç _) (by rw[e];rfl) (by rw[e];rfl) (λn h=> ?_) (λn h=> ?_) (λr=>⟨λh=>(by cases h),λh=>(by cases h)⟩) (λh=>by rcases h with h|h|h<;>cases h) (λh=>by cases h) λ_ _=>p.C.S (λv q=>by rw[e]at q;cases q) λq=>by rw[e]at q;cases q) (rL<|by rw[e];simp only[gf.rk];omega) λh=>by cases h
 .rcases h with h|h|h|h<;>cases h;exact p.C.C j<|Á<|À e
 .grind
def PI.ahX(H:gW F)(p:PI F b zX E S d o m f w qJ)(k:f[0]?=Ã g)(t:g.status=Å)(u:d 0=.fE)(i:E.M=.rd j):ki F b zX E d f w qJ I 0:=by
 have n:=p.sX k t u w<|p.I.r.r _<|iU k;rw[i]at n;let⟨Q,_,V,z,s⟩:=n;have B:E.r=j:=by unfold fZ.r;rw[i];rfl
 have a:jc E (.lN j) E.I:=⟨B.symm,λ_ _=>rfl⟩;let⟨C,G,J⟩:=Pf H p nA (À U) (À U) (À ⟨U,U⟩) λx c e=>zo H.C x c e;let⟨T,x⟩:=ju s;have e:=lO (λl g ⟨c,h⟩=>À<|H.I _ _ _ _ h) s;obtain⟨D,y,c,l,K,L,M,N,O,P⟩:=p.Bd H (kM<|.lN j) k (z w) ft ft C G x e;refine p.zp H a K L M e N (λ_ _=>rfl) O (J y c l) P (Wd.r p.M a (by rw[i];rfl)<|by rw[i];rfl) (p.C.r a (by rw[i];exact Ç _) (by rw[i];rfl) (by rw[i];rfl) (λq h=> ?_) (λq h=> ?_) (λr=>⟨λh=>(by cases h),λh=>(by cases h)⟩) (λh=>by rcases h with h|h|h<;>cases h) (λh=>by cases h) λ_ _=>p.C.S (λv q=>by rw[i]at q;cases q) λq=>by rw[i]at q;cases q) (rL<|by rw[i];simp only[gf.rk];omega) λh=>by cases h
 .rcases h with h|h|h|h<;>cases h;exact p.C.C j<|Á<|Á<|À i
 .rcases h with h|h|h<;>cases h;exact p.C.K j<|Á<|À i
end
section
variable{F:Ph}{E I:fZ F}{S:Nat->Jd}{m K:Nat->gD}{z:Nat->iD}{o:Nat->fh}{d B:Array Ä}{u:ä}{C:Option (Nat×Nat)}
def ahY(y:Nat):E.G y<=1:=by
 unfold fZ.G;split
 .cases E.N y with
  |none=>exact Ç _
  |some e=>cases e with
   |oS=>exact Ç _
   |gp p=>cases p<;>simp[mr,iw.kX,jK.kX]
   |jy N=>simp[mr,iw.kX]
 .omega
def Yx(v:Int):kK F.C w (w.setCell (fS F.C)<|ë Ó v):=Á ⟨_,_,À U,U⟩
def Pz(H:gW F)(p:PI F n zX E S m z o d w qJ)(h:kK F.C w W){G:GS}(a:ij W F.C G):Wd F {E with b:=G,a:=E.a} W:= h.I H p.a p.C p.M nA (Ga:=G) (Gg:=E.a) ⟨λ_=>a,λe=>absurd U e⟩ λb c=>⟨λe=>absurd e.symm<|H.C.M b c,λ_=>rfl⟩
def PE(H:gW F)(p:PI F n zX E S m z o d w qJ)(h:kK F.C w W)(c:i<d.size):fL {o i with w:=w} w W:=by have D:=h.r p.a H.C nA;exact⟨Õ D.r.symm,λb f=>D.jY b<|p.I.r.I _ c b f,λa e=>D.M _ c a e,λa e=>D.N _ c a e,λa _=>D.I a⟩
def zq{l:fh}{b:Ð}(r:fL {l with w:=W} jX b):fL l jX b:=⟨r.r,r.I,r.N,r.Y,r.S⟩
def PI.ahZ(H:gW F)(p:PI F n zX E S m z o d w qJ)(D:d[0]?=Ã g)(iN:g.status=Å)(ht:m 0=.fE)(a:E.M=.iI j):ki F n zX E m d w qJ C 0:=by
 have O:=iU D;have Q:=p.sX D iN ht w<|p.I.r.r _ O;rw[a]at Q;let⟨hd,_,hA⟩:=Q;have hj:=p.C.C j<|Á<|Á<|Á a;have hj1:=p.C.K j<|Á<|Á a;have oR:E.r=j:=by unfold fZ.r;rw[a];rfl
 have Gy:=H.C.gq;let⟨c,G⟩:=p.C.S (λv q=>by rw[a]at q;cases q) (λq=>by rw[a]at q;cases q);let⟨GK,_⟩:=p.C.t c 0 G;have hcn:c<=F.n+1:=by rw[GK];exact Gw ahY
 have I:=G▸p.M.C;let⟨hv,J⟩:=I.agN Z;have K:=hA (GS.cl c 0).st;rw[hv]at K J;obtain⟨b,V⟩:∃b,(GS.cl (c+1) 0).st=b:=⟨_,U⟩;rw[V]at K J;let⟨L,h1,k⟩:=K;have DR:=h1 w I.C I.I;have t:=Yx (F:=F) (w:=w) b;have xr:=PE H p t O;have M:b=(c+1:Int)*gk:=by rw[<-V];simp only[GS.st,gk];omega
 obtain⟨x,v,N⟩:∃x:gf,(x=.rd j\/x=.lN j)/\fq F.P Ì (JM F E.I x) {o 0 with w:=w} L:=by
  by_cases l:c=0
  .have e:b=gk:=by rw[M,l];simp[gk]
   simp only[if_pos e]at k;exact⟨.rd j,À U,k⟩
  .have r:¬b=gk:=by simp only[gk]at M|-;omega
   have s:gk<b/\b<1000000*gk/\b%gk=0:=by simp only[gk]at M|-;omega
   simp only[if_neg r,if_pos s]at k;exact⟨.lN j,Á U,k⟩
 let⟨T,hT⟩:=ju<|N.kg xr;have X:L.status=Å\/L.status=å:=by
  rcases v with rfl|rfl
  .exact lO (λl g h=>À h.2.1) N
  .exact lO (λl g ⟨c,h⟩=>À<|H.I _ _ _ _ h) N
 obtain⟨B,u,q1,q2,q3,q4,q5,q6,q7⟩:=p.Y H (kM x) D (À U) nA DR t (A8 nA) U (λx l e=>(zo H.C x l e).elim) hT X;have l:x.ad F.n=j+1:=by rcases v with rfl|rfl<;>rfl
 have Y:E.M.ad F.n=j:=by rw[a];rfl
 have GQ:x.sp F.n=j:=by rcases v with rfl|rfl<;>rfl
 have hxr:x.gH=0:=by rcases v with rfl|rfl<;>rfl
 have e:jc E x E.I:=⟨GQ.trans oR.symm,λ_ _=>rfl⟩;have sV:Ñ (F.n+1) (iC E x (.cl (c+1) 0) E.I).G=c+1:=by
  have h:=xn (f:=E.G) (f':=(iC E x (.cl (c+1) 0) E.I).G) (j:=j) (n:=F.n+1) Z (λi y=>by
   show(if i<x.ad F.n then mr (E.N i)else 0)=if i<E.M.ad F.n then mr (E.N i)else 0
   rw[l,Y];by_cases q:i<j
   .rw[if_pos q,if_pos Z]
   .rw[if_neg q,if_neg Z])
  have r:E.G j=0:=by unfold fZ.G;rw[Y,if_neg Z]
  have s:(iC E x (.cl (c+1) 0) E.I).G j=1:=by show(if j<x.ad F.n then mr (E.N j)else 0)=1;rw[l,if_pos Z,p.C.h j Z];rfl
  rw[r,s]at h;omega
 refine p.zp H e q1 q2 q3 X q4 (λr s=>t.C p.C nA s) q5 q6 q7 (Wd.r (Pz H p t J) e (by rw[a];rcases v with rfl|rfl<;>rfl) (by rw[a];rcases v with rfl|rfl<;>rfl)) (p.C.iC e (by rw[a];exact ò _) (λr h=> ?_) (λr h=> ?_) (λr=>⟨λh=> ?_,λh=> ?_⟩) (λi s h=> ?_) (λs h=>by cases h) (λr s h=>by cases h) (λy i h=> ?_) (λh=> ?_) (λh=> ?_) λ_ _=>⟨_,rfl⟩) (rL (by rw[a];rcases v with rfl|rfl<;>simp only[gf.rk]<;>omega)) (λh=>by rcases v with rfl|rfl<;>cases h)
 .rcases v with rfl|rfl<;>rcases h with h|h|h|h<;>cases h<;>exact hj
 .rcases v with rfl|rfl<;>rcases h with h|h|h<;>cases h<;>exact hj1
 .rcases v with rfl|rfl<;>cases h
 .rcases v with rfl|rfl<;>cases h
 .cases h;exact⟨sV.symm,hxr.symm⟩
 .have:=p.C.N y i h;rw[G]at this;exact⟨λW q=>(by have:=(this.1 W q).2;cases this),λr hr=>(by let⟨_,_,s,h⟩:=this.2 r hr;cases h)⟩
 .rcases v with rfl|rfl<;>rcases h with h|h|h<;>cases h
 .rcases v with rfl|rfl<;>cases h
theorem PI.ah0(H:gW F)(p:PI F n zX E S m z o d w qJ)(c:d[0]?=Ã g)(e:g.status=Å)(i:m 0=.fE)(b:E.M=.iO 0):rJ F n zX E m d w qJ:=by have f:=p.sX c e i;rw[b]at f;have a:jc E (.lh F.n) E.I:=mV (by rw[b];rfl);refine p.Kw H (T:=.fE) a c e (λh q=>f h<|(p.I.r.r _<|iU c).fj<|zq q) (by rw[b];simp[gf.mM]) (by rw[b];simp[gf.ji]) (p.C.r a (by rw[b];exact ò _) (by rw[b];rfl) (by rw[b];rfl) (λq h=> ?_) (λq h=> ?_) (λr=>⟨λh=>(by cases h),λh=> ?_⟩) (λh=>by rcases h with h|h|h<;>cases h) (λh=>by cases h) λ_ _=>p.C.S (λv q=>by rw[b]at q;cases q) λq=>by rw[b]at q;cases q) (rL<|by rw[b];simp only[gf.rk];omega) (λh=>by cases h);all_goals grind
theorem PI.ah1(H:gW F)(p:PI F n zX E S m z o d w qJ)(c:d[0]?=Ã g)(e:g.status=Å)(i:m 0=.fE)(b:E.M=.lh 0):rJ F n zX E m d w qJ:=by have f:=p.sX c e i;rw[b]at f;have a:jc E (.fD .jd) E.I:=mV (by rw[b];rfl);refine p.Kw H (T:=.fE) a c e (λh r=>f h<|(p.I.r.r _<|iU c).fj<|zq r) (by rw[b];rfl) (by rw[b];simp[gf.ji]) (p.C.r a (by rw[b];simp[gf.ji]) (by rw[b];rfl) (by rw[b];rfl) (λr h=> ?_) (λr h=> ?_) (λr=>⟨λh=>(by cases h),λh=>(by cases h)⟩) (λh=>by rcases h with h|h|h<;>cases h) (λh=>by cases h) λh _=>absurd rfl<|h _) (rL<|by rw[b];simp only[gf.rk,jz.rk];omega) (λh=>by cases h);all_goals grind
def Br{v:jz}:∀j,(gf.fD v=.go j\/gf.fD v=.lN j\/gf.fD v=.rd j\/gf.fD v=.iI j)->j<=F.n:=λj h=>by rcases h with h|h|h|h<;>cases h
def Bs{v:jz}:∀j,(gf.fD v=.lN j\/gf.fD v=.rd j\/gf.fD v=.iI j)->1<=j:=λj h=>by rcases h with h|h|h<;>cases h
def Bt{v:jz}:∀r,(gf.fD v=.iO r->r<=F.q)/\(gf.fD v=.lh r->r<=F.n):=λr=>⟨λh=>(by cases h),λh=>(by cases h)⟩
def PI.ah2(H:gW F)(p:PI F n zX E S m z o d w qJ)(c:d[0]?=Ã g)(e:g.status=Å)(i:m 0=.fE)(b:E.M=.fD .jd):rJ F n zX E m d w qJ:=by have f:=p.sX c e i w<|p.I.r.r _<|iU c;rw[b]at f;let⟨k,q,j,l⟩:=f;have a:jc E (.fD (.mq (.gi k))) E.I:=mV (by rw[b];rfl);exact p.Kw H (T:=.fE) a c e (λr h=>⟨j,JZ l h⟩) (by rw[b];rfl) (by rw[b];rfl) (p.C.r a (by rw[b];exact Ç _) (by rw[b];rfl) (by rw[b];rfl) Br Bs Bt (λh=>by rcases h with h|h|h<;>cases h) (λh=>by cases h) λh _=>absurd rfl<|h _) (rL<|by rw[b];simp only[gf.rk,jz.rk];omega) λh=>by cases h
theorem PI.ah3(H:gW F)(p:PI F n zX E S m z o d w qJ){v:SP}(k:d[0]?=Ã g)(iN:g.status=Å)(ht:m 0=.fE)(b:E.M=.fD (.mq v)):ki F n zX E m d w qJ C 0:=by
 have gP:=iU k;have hJ:=p.sX k iN ht w<|p.I.r.r _ gP;rw[b]at hJ;obtain⟨hd,X⟩:=hJ;have hG:=p.M.C;obtain⟨_,X⟩:=X5 X hG;have Y:E.M.ji F.n<=F.n:=by rw[b];exact Ç _
 rcases X with⟨q,g',es,j,i,P,h4⟩|⟨g',j,i,P⟩|⟨g',c,f,Q,ug,j,i⟩
 .have r:∀e∈es,uf F.toFx e:=by
   grind [zf,nA]
  obtain⟨s,V,l⟩:=P;obtain⟨B,u,t,D,I,K,L,M,N⟩:=p.Y (J:=JM F E.I<|.fD (.mq q)) (T:=.fE) H (kM<|.fD (.mq q)) k (À U) nA j (À U) r (by rcases i with rfl|rfl<;>rfl) (λx y e=>(zo H.C x y e).elim) (λh a=>⟨hd,JZ ⟨s,V,l⟩ a⟩)<|À (l _ _ V).1;have a:jc E (.fD (.mq q)) E.I:=mV (by rw[b];rfl);exact p.zp H a t D I (À (l _ _ V).1) K (λ_ _=>rfl) L M N (Wd.r p.M a (by rw[b];rfl)<|by rw[b];rfl) (p.C.r a Y (by rw[b];rfl) (by rw[b];rfl) Br Bs Bt (λh=>by rcases h with h|h|h<;>cases h) (λh=>by cases h) λh _=>absurd rfl<|h _) (ahV b ht h4) λh=>by cases h
 .obtain⟨T,hT⟩:=ju P;have O:=lO (λl g h=>À h.2.1) P;obtain⟨B,u,t,D,I,K,L,M,N⟩:=p.Y H (kM<|.fD .lu) k (À U) nA j (À U) (zf nA) U (λx y e=>(zo H.C x y e).elim) hT O;have a:jc E (.fD .lu) E.I:=mV (by rw[b];rfl);refine p.zp H a t D I O K (λ_ _=>rfl) L M N (Wd.r p.M a (by rw[b];rfl)<|by rw[b];rfl) (p.C.r a Y (by rw[b];rfl) (by rw[b];rfl) Br Bs Bt (λ_=> ?_) (λh=>by cases h) λh _=>absurd rfl<|h _) (rL<|by rw[b];simp only[gf.rk,jz.rk];omega) (λh=>by cases h);cases V:E.b with
  |cl c f=>have:=i c f V;have:=(p.C.t c f V).1;omega
  |jI f=>exact(p.C.g f V).1
  |hD r s=>exact(p.C.u r s V).1
 .obtain⟨e1,V⟩:=p.C.t c f Q;rw[b]at V;have V:f=0:=V;subst V;obtain⟨hv,Gz⟩:=(Q▸hG).XP ug Z;rw[Q,hv]at j;rw[hv]at Gz;rw[Q]at i;have e:(GS.cl c 0).st%gk=0:=by simp only[GS.st,gk];omega
  simp only[e,if_true]at i;have W:=Yx (F:=F) (w:=w) (GS.cl c<|0+1).st;obtain⟨T,hT⟩:=ju<|i.kg<|PE H p W gP;have O:=lO (λl g h=>À h.2.1) i;obtain⟨B,u,t,D,I,K,L,M,N⟩:=p.Y H (kM<|.fD .wr) k (À U) nA j W (A8 nA) U (λx y e=>(zo H.C x y e).elim) hT O;have a:jc E (.fD .wr) E.I:=mV (by rw[b];rfl);refine p.zp H a t D I O K (λy l=>W.C p.C nA l) L M N (Wd.r (Pz H p W Gz) a (by rw[b];rfl)<|by rw[b];rfl) (p.C.iC a Y Br Bs Bt (λl f h=> ?_) (λf h=>by cases h) (λr s h=>by cases h) (λy q h=> ?_) (λh=>by rcases h with h|h|h<;>cases h) (λh=>by cases h) λh _=>absurd rfl<|h _) (rL<|by rw[b];simp only[gf.rk,jz.rk];omega) λh=>by cases h
  .rw[(Py (E:=E) (x:=.fD .wr) (G:=.cl c (0+1)) (dk:=E.I)<|by rw[b];rfl)];cases h;exact⟨e1,U⟩
  .have:=p.C.N y q h;grind
def PI.ah4(H:gW F)(p:PI F n zX E S m z o d w qJ)(c:d[0]?=Ã g)(j:g.status=Å)(k:m 0=.fE)(b:E.M=.fD .wr):ki F n zX E m d w qJ C 0:=by have f:=p.sX c j k w<|p.I.r.r _<|iU c;rw[b]at f;let⟨L,_,M,q,i⟩:=f;have a:jc E (.fD .kH) E.I:=mV (by rw[b];rfl);let⟨r,s,t⟩:=Pf H p nA (À U) (Á U) (À ⟨U,U⟩) λx h e=>zo H.C x h e;let⟨T,x⟩:=ju i;have e:=lO (λl g h=>À h.2.1) i;obtain⟨B,y,l,u,v,D,G,I,J,K⟩:=p.Bd H (kM<|.fD .kH) c (q w) ft ft r s x e;exact p.zp H a v D G e I (λ_ _=>rfl) J (t y l u) K (Wd.r p.M a (by rw[b];rfl)<|by rw[b];rfl) (p.C.r a (by rw[b];exact Ç _) (by rw[b];rfl) (by rw[b];rfl) Br Bs Bt (λh=>by rcases h with h|h|h<;>cases h) (λh=>by cases h) λh _=>absurd rfl<|h _) (rL<|by rw[b];simp only[gf.rk,jz.rk];omega) λh=>by cases h
def PI.ah5(H:gW F)(p:PI F n zX E S m z o d w qJ)(i:d[0]?=Ã g)(s:g.status=Å)(t:m 0=.fE)(f:E.M=.fD .gE):ki F n zX E m d w qJ C 0:=by have k:=p.sX i s t w<|p.I.r.r _<|iU i;rw[f]at k;let⟨P,_,v⟩:=k;let⟨a,b,y⟩:=p.C.O f;have q:=p.M.C;rw[y]at q;let⟨Q,D,j⟩:=v 0;simp only[if_true]at j;have c:jc E (.fD .lu) E.I:=mV (by rw[f];rfl);let⟨T,G⟩:=ju j;have r:=lO (λl g h=>À h.2.1) j;obtain⟨B,u,l,I,J,K,L,M,N⟩:=p.Y H (kM<|.fD .lu) i (À U) nA (D w q.C) (À U) (zf nA) U (λx O e=>(zo H.C x O e).elim) G r;exact p.zp H c l I J r K (λ_ _=>rfl) L M N (Wd.r p.M c (by rw[f];rfl)<|by rw[f];rfl) (p.C.r c (by rw[f];exact Ç _) (by rw[f];rfl) (by rw[f];rfl) Br Bs Bt (λ_=>p.C.B<|À f) (λh=>by cases h) λh _=>absurd rfl<|h _) (rL<|by rw[f];simp only[gf.rk,jz.rk];omega) λh=>by cases h
theorem PI.ah6(H:gW F)(p:PI F n zX E S m z o d w qJ){g:Ä}(f:d[0]?=Ã g)(j:g.status=Å)(v:m 0=.fE)(b:E.M=.fD .kH):ki F n zX E m d w qJ C 0:=by
 have D:=iU f;have I:=p.sX f j v w<|p.I.r.r _ D;rw[b]at I;obtain⟨hd,_,J,Pj,g',h1,K⟩:=I;have L:=p.M.C;by_cases M:E.b.sm=0
 .have s:=L.M;rw[M]at s;obtain⟨Q,l⟩:=p.h;rw[b]at Q l;obtain⟨B,t,c,q,O⟩:=OL f<|Pj w s;have hw:∀x,Ā F.P g {g with status:=Ü} w x=x:=by
   intro x;unfold Ā;grind
  have r:∀k,k≠0->B[k]?=d[k]?:=by grind
  have V:gO F.P F.S E.Y S m z o B w (qJ++#[]):=by
   rw[Ú];obtain⟨g0,W,T,f3,f4⟩:=p.I.C _ g f;have X:g=g0:=by
    rw[l]at T;cases T with
    |gw=>rfl
    |nY h J=>cases j
   subst X;refine⟨?_,λk y a=> ?_,λk a=>p.I.I k<|by rwa[<-c]⟩
   .rw[show(λi=>i<B.size)=(λi=>i<d.size) by rw[c]];exact p.I.r
   .by_cases e:k=0
    .subst e;rw[q]at a;obtain rfl:=È a;refine⟨g,W,?_,À j,Á v⟩;rw[l];exact .nY j J
    .rw[r k e]at a;exact p.I.C k y a
  refine⟨E,S,m,z,o,B,w,#[],t,c,λh=>h,.r p.N (c.trans p.b) V (by rw[c];exact p.a) p.M p.C (by rw[Ú];exact p.d) (λk y a i=> ?_) (by rw[Ú];exact p.f),O7 (λ_ _=>rfl) (by unfold Ph.N;omega) (by rw[DN f,if_pos j]) (by rw[DN q,if_neg ft]) λk a=>Pg<|r k a⟩;by_cases e:k=0
  .grind
  .rw[r k e]at a;exact p.c k y a i
 .obtain⟨a,s,Q⟩:=Ya M;have k:=Q▸L;have DR:=h1 w _ (by simp only[GS.sm];omega) k.M k.N;have i:kK F.C w (w.setCell (gT F.C)<|ë ç<|(GS.hD a<|s+1).sm-1):=Á ⟨_,_,Á U,U⟩;obtain⟨T,hT⟩:=ju<|K.kg<|PE H p i D;have V:=lO (λl g h=>À h.2.1) K;obtain⟨B,u,t,c,q,O,q5,q6,q7⟩:=p.Y H (kM<|.fD .gE) f (À U) nA DR i (Gt nA) (Gu _).2.2.2 (λx l e=>(zo H.C x l e).elim) hT V;obtain⟨W,l,b3⟩:=p.C.u a (s+1) Q;rw[b]at l;have l:a+(s+1)=1:=l;have ha:a=0:=Z
  have hs0:s=0:=Z
  subst ha hs0;have e:jc E (.fD .gE) E.I:=mV (by rw[b];rfl);have X:=Py (E:=E) (x:=.fD .gE) (G:=.hD 0 0) (dk:=E.I) (by rw[b];rfl);refine p.zp H e t c q V O (λj' r=>i.C p.C nA r) q5 q6 q7 (Wd.r (Pz H p i k.kH) e (by rw[b];rfl)<|by rw[b];rfl) (p.C.iC e (by rw[b];exact Ç _) Br Bs Bt (λc' r h=>by cases h) (λr h=>by cases h) (λr s h=> ?_) (λy r h=> ?_) (λ_=>by rwa[X]) (λ_=>⟨0,0,U⟩) λh _=>absurd U<|h _) (rL<|by rw[b];simp only[gf.rk,jz.rk];omega) λh=>by cases h
  .rw[X];cases h;exact⟨W,U,λh=>by omega⟩
  .have:=p.C.N y r h;grind
end
section
variable{S:Nat->Jd}{a:Nat->gD}{d:Nat->iD}{f:Nat->fh}{b:Array Ä}
def gO.ah7(q:gO P i X S a d f b w qJ)(r:b[k]?=Ã g)(h:yT n É g):∃z,d k=.sS n z:=by
 let⟨l,u,v,j,s,m,y,t⟩:=h;let⟨g0,_,o,p,_⟩:=q.C k g r;generalize d k=K at o;cases o with
 |gw=>rw[l]at p;rcases p with e|e<;>cases e
 |nY h e=>simp only[e]at j;cases j
 |tW e z h=>
  simp only[Ļ,Ķ,Prod.mk.injEq]at j;rw[<-j.1]at m;have:s=œ e z:=by simpa using m
  subst this;have:e=n:=by simpa[œ]using t
  subst this;exact⟨z,U⟩
 |nu e z h=>cases l
def gO.Yy(o:gO P i X S a d f b w qJ){x:Ä}(p:b[k]?=Ã x)(j:x.status=Ü)(q:d k=.sS n z):∃g,x=Ļ g #[œ n z] (.recv Ì):=by
 let⟨g,_,l,m,_⟩:=o.C k x p;rw[q]at l;cases l with
 |gw=>rw[j]at m;rcases m with e|e<;>cases e
 |tW _ _ h=>exact⟨g,U⟩
 |nu _ _ h=>cases j
def ah8{g0:Ä}:yT i É (Ļ g0 #[œ i z]<|.recv Ì):= ⟨U,_,_,U,œ i z,ft,U,by simp[œ]⟩
theorem ah9{g0:Ä}{r:Nat}(h:w.heap[i]?=Ã (.chan n q Ì j r yQ)):((Ļ g0 #[œ i z]<|.recv Ì).again w).status=Å:=by unfold ď Ļ;simp[œ,h]
theorem aia(h:(g.again w).status=Ü):g.again w=g/\g.status=Ü:=by unfold ď at h|-;grind
end
section
variable{F:Ph}{E C:fZ F}{S:Nat->Jd}{a D:Nat->gD}{d:Nat->iD}{f:Nat->fh}{b m:Array Ä}{u:ä}{o:Option (Nat×Nat)}
def PI.Yz(p:PI F j zX E S a d f b w qJ){x:Ä}(n:b[k]?=Ã x)(h:yT i É x):∃g,g+2<=E.r/\E.N (g+1)=Í/\k=F.L+1+g/\E.I g=i/\∃r,E.C g=.ny r:=by
 let⟨z,l⟩:=p.I.ah7 n h;have s:=iU n;by_cases o:k=0
 .subst o;rw[p.h.2]at l;revert l;cases E.M with
  |fD v=>cases v<;>intro h<;>cases h
  |_=>intro h;cases h
 by_cases q:k<F.L
 .rw[(p.l k Z q).2.2]at l;cases l
 have t:=p.b;obtain⟨y,rfl⟩:∃y,k=F.L+y:=⟨k-F.L,Z⟩;cases m:E.N y with
 |some e=>rw[(p.k y e Z m).2.1]at l;cases l
 |none=>
  cases y with
  |zero=>rw[ó,(p.m Z m).2]at l;cases l
  |succ g=>
   rw[show F.L+(g+1)=F.L+1+g by omega,(p.g g Z m).2]at l;cases e:E.C g with
   |ny r=>
    rw[e]at l;injection l with l _;exact⟨g,Z,m,Z,l,r,e⟩
   |fD r v=>rw[e]at l;cases v<;>cases l
   |jO r=>rw[e]at l;cases l
   |oQ r=>rw[e]at l;cases l
theorem YA(h:tY n j i k)(c:1<=n)(a:j=i%n):i=j+k*n:=by
 have e:i=j+i/n*n:=by rw[a,Nat.mul_comm];exact(Nat.mod_add_div i n).symm
 have b:k=i/n:=by
  refine Nat.le_antisymm (ă λq=> ?_)<|ă λq=> ?_
  .have:=(h<|i/n).1 q;omega
  .have d:=mt (h k).2 Z;have f:(k+1)*n<=i/n*n:=č n q;grind
 rwa[b]
theorem YB(h:tY n j i k)(b:1<=n)(c:j=i%n):tY n j (i+1) (k+1):=by
 have e:=YA h b c;intro a;constructor
 .intro q;have:a*n<=k*n:=č n Z;omega
 .intro q;refine ñ λd=> ?_;have:(k+1)*n<=a*n:=č n d;grind
theorem YC(h:tY n j i k)(b:j<n)(c:j≠i%n):tY n j (i+1) k:=by intro a;rw[h a];grind [ē,ļ]
def PI.aib(H:gW F)(p:PI F j zX E S a d f b w qJ){r:Nat}(hi:b[0]?=Ã g)(iN:g.status=Å)(ht:a 0=.fE)(D:E.M=.iO (r+1)):ki F j zX E a b w qJ o 0:=by
 have hn:=H.C.N;have Kp:=(p.C.L<|r+1).1 D;have oR:E.r=F.n+1:=by unfold fZ.r;rw[D];rfl
 obtain⟨hs,hk⟩:=p.h;rw[D]at hs hk;obtain⟨Q,hQ⟩:∃Q,Q=F.q-(r+1):=⟨_,U⟩;obtain⟨c,hj⟩:∃c,c=Q%F.n:=⟨_,U⟩;have hs:S 0=A1 F.P (0==0) (E.I c) (F.c Q) (Gm F E.I r):=by rw[hs,hj,hQ];rfl
 have vI:c<F.n:=by rw[hj];exact ż _ hn
 have V:c+2<=E.r:=Z
 have hY:E.Y (E.I c):=Á<|Á ⟨c,V,U⟩;obtain⟨X,s,hc,ui,Kx,zi,zj⟩:=p.M.jL c V;have p8:decide (c<E.M.ji F.n)=É:=by rw[D];simp[gf.ji]
 rw[p8]at hc;have GD:E.M.mM F.q=Q:=by rw[D,hQ];rfl
 rw[GD]at ui;have eQ:=YA ui hn hj;have hsQ:s<=s*F.n:=â _ hn;have YD:(gf.iO r).mM F.q=Q+1:=by simp only[gf.mM];omega
 have DW:=(p.I.r).N _ hY;have YE:∀t,(gf.iO r=.go t\/gf.iO r=.lN t\/gf.iO r=.rd t\/gf.iO r=.iI t)->t<=F.n:=λt h=>by rcases h with h|h|h|h<;>cases h
 have YF:∀t,(gf.iO r=.lN t\/gf.iO r=.rd t\/gf.iO r=.iI t)->1<=t:=λt h=>by rcases h with h|h|h<;>cases h
 have YG:∀K,(gf.iO r=.iO K->K<=F.q)/\(gf.iO r=.lh K->K<=F.n):=λK=>⟨λh=>(by cases h;omega),λh=>(by cases h)⟩;have aM:=p.C.S (λv q=>by rw[D]at q;cases q) (λq=>by rw[D]at q;cases q);by_cases hp:∃(k:Nat) (x:Ä),b[k]?=Ã x/\yT (E.I c) É x
 .obtain⟨k,gj,Ds,mN⟩:=hp;obtain⟨t,oT,he,rfl,Bu,K,Bv⟩:=p.Yz Ds mN;have ej:=p.C.M _ _ oT V Bu;subst ej;have hb:=mN.1;obtain⟨J5,J4⟩:=p.g t oT he;rw[Bv]at J5 J4;have aic:S (F.L+1+t)=xi F.P (F.L+1+t==0) (E.I t) F.z λx=>match x with
   |some v=>λl g=>v=F.c (t+K*F.n)->qM F.P É F.B (F.I<|F.r<|t+K*F.n) (F.e (E.I t)<|t+K*F.n) .jd l g
   |none=>A5 F:=by rw[zg H.C t];exact J5
  have lM:F.L+1+t≠0:=Z
  have OS:a (F.L+1+t)=.fE:=by obtain⟨g0,_,i,e,h4⟩:=p.I.C _ gj Ds;refine h4.resolve_left λq=> ?_;subst q;rw[hb]at e;rcases e with q|q<;>cases q
  have Pm:X=#[]:=by
   rcases p.c _ gj Ds hb with⟨h1,_⟩|⟨C,_,_,h2,⟨G,W,_⟩|⟨G,cap,i,e,W,h4⟩⟩
   .exact absurd h1 lM
   .have:C=t:=Z
    subst this;rw[Bv]at W;cases W
   .have:C=t:=Z
    subst this;rw[hc]at h4;injection h4 with h4;injection h4
  subst Pm;rw[Bv]at hc Kx zi;simp only[gR.iR]at hc Kx zi;have hsr:s=K:=by simp at zi;omega
  subst hsr;obtain⟨m,u,T,Tj,g',gj',q1,q2,q3,q4,q5,q6,q7,q8,q9⟩:=p.I.agJ hi hk ht hs hY hc lM Ds hb J4 OS aic (kW F (E.I t)<|.fD s .jd) (λI O M e i=>by obtain⟨j3,a1,_,a3,y,_⟩:=p.Yz e i;have:=p.C.M _ _ a1 V y;omega);have YH:=q9.kV (J:=JW F (E.I t) t<|.fD s .jd) (λl g h=>by rw[fM _ _ lM,gI]at h;exact h<|by rw[eQ]);have PF:fC (fC (fC S (F.L+1+t) ((match(Ã (F.c Q):Option ã)with
   |some v=>λl g=>v=F.c (t+s*F.n)->qM F.P É F.B (F.I<|F.r<|t+s*F.n) (F.e (E.I t)<|t+s*F.n) .jd l g
   |none=>A5 F))) 0 (Gm F E.I r)) (F.L+1+t) (JW F (E.I t) t (.fD s .jd))=fC (fC S (F.L+1+t) (JW F (E.I t) t (.fD s .jd))) 0 (JM F E.I (.iO r)):=by
   funext k;by_cases v:k=F.L+1+t
   .subst v;rw[gI,fM _ _ lM,gI]
   .by_cases k2:k=0
    .subst k2;rw[fM _ _<|ÿ lM,gI,gI];rfl
    .rw[fM _ _ v,fM _ _ k2,fM _ _ v,fM _ _ k2,fM _ _ v]
  rw[PF]at YH;have Pw:=p.C.G (x:=.fD s .jd) V he (λk=>by rw[Bv,Pe U];rfl) (λG h=>by rcases h with⟨_,h⟩|h|h<;>cases h;exact Z) (λG h=>by rcases h with h|h|h<;>cases h) (λG h=>by cases h) (λG h=>by cases h);have l:jc (gU E t<|.fD s .jd) (.iO r) E.I:=⟨by show _=E.M.sp F.n;rw[D];rfl,λ_ _=>rfl⟩;have e:(iC (gU E t<|.fD s .jd) (.iO r) E.b E.I).r=E.r:=l.r;obtain⟨z1,z2,z3,z4,z5⟩:=p.M.G H p.a p.C V;refine⟨iC (gU E t<|.fD s .jd) (.iO r) E.b E.I,_,_,_,_,m,_,u,q1,q2,(λh=>by have h:=h;cases h),.r ((p.N.N H.C V he).iC H.C l) (by rw[e];exact q2.trans p.b) (by rw[Bq l];exact YH) ?_ ⟨z4,z5,λC xq=> ?_,z1,z2,λC xq G AZ h1=> ?_⟩ (Pw.r l (by show E.M.ji F.n<=_;rw[D];exact ò _) (by show _=E.M.ad F.n;rw[D];rfl) (by show _=E.M.gH;rw[D];rfl) YE YF YG (λh=>by rcases h with h|h|h<;>cases h) (λh=>by cases h) λ_ _=>aM) (by rw[e];exact Kr p.d q8) (λk y M ly=> ?_) λC G a1 a2 a3=> ?_,?_⟩
  .rw[q2];exact(((p.a.r<|by rw[Bv];rfl).G l).DU<|Õ GB.symm)
  .have zr:C+2<=E.r:=Z
   show∃X I,(w.setChan (E.I t) _ _ _ _ _ _).heap[E.I C]?=Ã (.chan F.q X (decide<|C<(gf.iO r).ji F.n) I ((gU E t<|.fD s .jd).C C).iR É)/\tY F.n C ((gf.iO r).mM F.q) I/\((gU E t<|.fD s .jd).C C).iR<=I/\X.size=I-((gU E t<|.fD s .jd).C C).iR/\∀i,i<I-((gU E t<|.fD s .jd).C C).iR->X[i]?=Ã (F.c<|C+(((gU E t<|.fD s .jd).C C).iR+i)*F.n);rw[YD];by_cases O:C=t
   .subst O;rw[jS];refine⟨#[],s+1,by rw[Kq DW];rfl,YB ui hn hj,Ç _,by simp[gR.iR],λi lF=> ?_⟩;have hi2:i<s+1-(s+1):=lF;omega
   .rw[iT _ O,qc λq=>O<|p.C.M _ _ zr V q];obtain⟨PG,I,y1,y2,y3⟩:=p.M.jL C zr;rw[GD]at y2;refine⟨PG,I,?_,YC y2 Z Z,y3⟩;rw[y1,D];rfl
  .have zr:C+2<=E.r:=Z
   have Bo:G<((gU E t<|.fD s .jd).C C).kJ:=h1;by_cases O:C=t
   .subst O;rw[jS]at Bo;exact z3 C zr G AZ<|by rw[Bv];exact Bo
   .rw[iT _ O]at Bo;exact z3 C zr G AZ Bo
  .by_cases v:k=0
   .subst v;rw[q3]at M;obtain rfl:=È M;rw[q4]at ly;cases ly
   .by_cases k2:k=F.L+1+t
    .subst k2;rw[q5]at M;obtain rfl:=È M;rw[q6]at ly;cases ly
    .rw[q7 k v k2]at M;rcases p.c k y M ly with⟨h1,_⟩|⟨C,xq,zn,h2,W|⟨r1,cap,s1,K,W,h4⟩⟩
     .exact absurd h1 v
     .exact Á ⟨C,Z,zn,h2,À (by show∃G,(gU E t _).C C=_/\_;rw[iT _ Z];exact W)⟩
     .have O:C≠t:=Z
      exact Á ⟨C,Z,zn,h2,Á ⟨r1,cap,s1,K,by show(gU E t _).C C=_;rw[iT _ O];exact W,by show(w.setChan (E.I t) _ _ _ _ _ _).heap[E.I C]?=_;rw[qc λq=>O<|p.C.M _ _ xq V q];exact h4⟩⟩
  .have Bc:(gU E t<|.fD s .jd).C C=.jO G:=a2;rw[iT _ (λe=>by subst e;rw[jS]at Bc;cases Bc)]at Bc;exact(p.f C G Z Bc a3).app u
  .refine À ⟨0,by unfold Ph.N;omega,À ?_,λk uk zt=> ?_⟩
   .show((iC (gU E t<|.fD s .jd) (.iO r) E.b E.I).iY _ 0).1<(E.iY a 0).1;rw[Dx,Dx,D];show(gf.iO r).rk F<(gf.iO<|r+1).rk F;simp only[gf.rk];omega
   .show(iC (gU E t<|.fD s .jd) (.iO r) E.b E.I).iY _ k=E.iY a k\/za ((iC (gU E t<|.fD s .jd) (.iO r) E.b E.I).iY _ k) (E.iY a k);by_cases k2:k=F.L+1+t
    .subst k2;refine Á<|À ?_;rw[ua H.C (E:=iC (gU E t<|.fD s .jd) (.iO r) E.b E.I) (show E.N (t+1)=Í from he),ua H.C he];show((gU E t<|.fD s .jd).C t).rk F<(E.C t).rk F;rw[jS,Bv];simp only[gR.rk,jz.rk];have hm:F.n+3000<=(F.n+3000)*(F.q+3-s):=â _ Z;omega
    .refine À (zd (λh=>absurd h zt) (λ_ _=>rfl) (λ_=>rfl) (λ_ _=>rfl) (λh1 _=> ?_)<|by rw[fM _ _ zt,fM _ _ k2]);show((gU E t<|.fD s .jd).C _).rk F=_;rw[iT _ Z]
 .obtain⟨m,u,T,g',q1,q2,q3,q4,q5,q6,q7⟩:=p.I.iO hi hk ht hs hY hc Z λk x hkx mN=>hp ⟨k,x,hkx,mN⟩;have e0:d=fC d 0 (kM<|.iO r):=by
   funext k;by_cases v:k=0
   .subst v;rw[gI,hk];rfl
   .rw[fM _ _ v]
  rw[e0]at q7;have l:jc E (.iO r) E.I:=mV (by rw[D];rfl);have e:(iC E (.iO r) E.b E.I).r=E.r:=l.r;obtain⟨z1,z2,z3,z4,z5⟩:=p.M.G H p.a p.C V;refine⟨iC E (.iO r) E.b E.I,_,_,_,_,m,_,u,q1,q2,(λh=>by have h:=h;cases h),.r (p.N.iC H.C l) (by rw[e];exact q2.trans p.b) (by rw[Bq l];exact q7) ?_ ⟨z4,z5,λC xq=> ?_,z1,z2,λC xq=>z3 C Z⟩ (p.C.r l (by rw[D];exact ò _) (by rw[D];rfl) (by rw[D];rfl) YE YF YG (λh=>by rcases h with h|h|h<;>cases h) (λh=>by cases h) λ_ _=>aM) (by rw[e];exact Kr p.d q6) (λk y M ly=> ?_) λC G a1 a2 a3=>(p.f C G Z a2 a3).app u,rL<|by rw[D];simp only[gf.rk];omega⟩
  .rw[q2];exact((p.a.G l).DU<|Õ GB.symm)
  .have zr:C+2<=E.r:=Z
   show∃X I,(w.setChan (E.I c) _ _ _ _ _ _).heap[E.I C]?=Ã (.chan F.q X (decide<|C<(gf.iO r).ji F.n) I (E.C C).iR É)/\tY F.n C ((gf.iO r).mM F.q) I/\(E.C C).iR<=I/\X.size=I-(E.C C).iR/\∀i,i<I-(E.C C).iR->X[i]?=Ã (F.c<|C+((E.C C).iR+i)*F.n);rw[YD];by_cases O:C=c
   .subst O;refine⟨X.push<|F.c Q,s+1,by rw[Kq DW];rfl,YB ui hn hj,Z,by rw[Array.size_push];omega,λi lF=> ?_⟩;rw[Array.getElem?_push];by_cases G:i=X.size
    .rw[if_pos G,eQ,show(E.C C).iR+i=s by omega]
    .rw[if_neg G];exact zj i Z
   .rw[qc λq=>O<|p.C.M _ _ zr V q];obtain⟨PG,I,y1,y2,y3⟩:=p.M.jL C zr;rw[GD]at y2;refine⟨PG,I,?_,YC y2 Z Z,y3⟩;rw[y1,D];rfl
  .by_cases v:k=0
   .subst v;rw[q3]at M;obtain rfl:=È M;rw[q4]at ly;cases ly
   .rw[q5 k v]at M;rcases p.c k y M ly with⟨h1,_⟩|⟨C,xq,zn,h2,W|⟨r1,cap,s1,K,W,h4⟩⟩
    .exact absurd h1 v
    .exact Á ⟨C,Z,zn,h2,À W⟩
    .have O:C≠c:=λe=>by
      subst e;have G:=(p.g C xq zn).2;rw[W,<-h2]at G;obtain⟨g0,i⟩:=p.I.Yy M ly G;exact hp ⟨k,y,M,by rw[i];exact ah8⟩
     exact Á ⟨C,Z,zn,h2,Á ⟨r1,cap,s1,K,W,by show(w.setChan (E.I c) _ _ _ _ _ _).heap[E.I C]?=_;rw[qc λq=>O<|p.C.M _ _ xq V q];exact h4⟩⟩
end
section
variable{F:Ph}{E B:fZ F}{S:Nat->Jd}{m D:Nat->gD}{o:Nat->iD}{G:Nat->fh}{c d:Array Ä}{u:ä}{sl:Option (Nat×Nat)}
theorem PI.aie(H:gW F)(p:PI F n zX E S m o G c w qJ)(hi:c[0]?=Ã g)(ht:m 0=.fE)(l:E.M=.lh (J+1)):ki F n zX E m c w qJ sl 0:=by
 have C:=p.I.r;have hL:=H.C.r;have OT:=(p.C.L<|J+1).2 l;have oR:E.r=F.n+1:=by unfold fZ.r;rw[l];rfl
 obtain⟨L,Q⟩:=p.h;rw[l]at L Q;obtain⟨j,hj⟩:∃j,j=F.n-(J+1):=⟨_,U⟩;have L:S 0=JY F.P (0==0) (E.I j) (A6 F E.I J):=by rw[L,hj];rfl
 have z:j+2<=E.r:=Z
 have X:E.Y (E.I j):=Á<|Á ⟨j,z,U⟩;obtain⟨M,s,hc,ui,Kx,zi,zj⟩:=p.M.jL j z;have p8:decide (j<E.M.ji F.n)=É:=by rw[l];simp only[gf.ji];exact decide_eq_false Z
 rw[p8]at hc;have DW:=C.N _ X;have DG:(w.setChan (E.I j) F.q M Ì s (E.C j).iR É).heap[E.I j]?=Ã (.chan F.q M Ì s (E.C j).iR É):=Kq DW;have aM:=p.C.S (λv q=>by rw[l]at q;cases q) (λq=>by rw[l]at q;cases q);obtain⟨d,u,T,g',q1,V,q3,q4,q5,q6,q7,q8,q9⟩:=p.I.lh hi Q ht L X (p.C.o j z).2.2 hc;have e0:o=fC o 0 (kM<|.lh J):=by
  funext k;by_cases B:k=0
  .subst B;rw[gI,Q];rfl
  .rw[fM _ _ B]
 rw[e0]at q9;have v:jc E (.lh J) E.I:=mV (by rw[l];rfl);have e:(iC E (.lh J) E.b E.I).r=E.r:=v.r;obtain⟨z1,z2,z3,z4,z5⟩:=p.M.G H p.a p.C z;have DL:=p.d.C ⟨λD I a _=>q6 D I,À U,λD I a x ha hl _=> ?_,λD I a y ha _ hl=> ?_,λD I b _=>q8 D I _,λx _ _=>⟨λJ hr=>hr.appOther q6 Z,λe=>by omega⟩⟩;refine⟨iC E (.lh J) E.b E.I,_,_,_,_,d,_,u,q1,V,(λh=>by have h:=h;cases h),.r (p.N.iC H.C v) (by rw[e];exact V.trans p.b) (by rwa[Bq v]) ?_ ⟨z4,z5,λf N=> ?_,z1,z2,λf N=>z3 f Z⟩ (p.C.r v (by rw[l];simp only[gf.ji];omega) (by rw[l];rfl) (by rw[l];rfl) (λi h=> ?_) (λi h=> ?_) (λr'=>⟨λh=>(by cases h),λh=> ?_⟩) (λh=>by rcases h with h|h|h<;>cases h) (λh=>by cases h) λ_ _=>aM) (by rwa[e]) (λk y tX ly=> ?_) λf i W t K=>(p.f f i Z t K).app u,rL<|by rw[l];simp only[gf.rk];omega⟩
 .rw[V];exact((p.a.C<|Õ GB.symm).G v)
 .have W:f+2<=E.r:=Z
  show∃K t,(w.setChan (E.I j) F.q M Ì s (E.C j).iR É).heap[E.I f]?=Ã (.chan F.q K (decide<|f<(gf.lh J).ji F.n) t (E.C f).iR É)/\tY F.n f ((gf.lh J).mM F.q) t/\(E.C f).iR<=t/\K.size=t-(E.C f).iR/\∀i,i<t-(E.C f).iR->K[i]?=Ã (F.c<|f+((E.C f).iR+i)*F.n);have aif:(gf.lh J).mM F.q=E.M.mM F.q:=by rw[l];rfl
  rw[aif];by_cases O:f=j
  .subst O;refine⟨M,s,?_,ui,Kx,zi,zj⟩;rw[DG,show decide (f<(gf.lh J).ji F.n)=Ì from decide_eq_true (by simp only[gf.ji];omega)]
  .rw[qc λq=>O<|p.C.M _ _ W z q];obtain⟨K,t,y1,y2⟩:=p.M.jL f W;refine⟨K,t,?_,y2⟩;rw[y1,l];have:decide (f<(gf.lh<|J+1).ji F.n)=decide (f<(gf.lh J).ji F.n):=by
    apply decide_eq_decide.2;simp only[gf.ji];omega
   rw[this]
 .grind
 .grind
 .cases h;omega
 .by_cases B:k=0
  .grind
  .obtain⟨h,t⟩:∃h,c[k]?=Ã h:=by
    grind
   rw[q5 k h B t]at tX;obtain rfl:=È tX;obtain⟨_,PH⟩:=aia ly;rcases p.c k h t PH with⟨h1,_⟩|⟨f,N,K,W,i|⟨r1,cap,s1,r',i,h4⟩⟩
   .exact absurd h1 B
   .exact Á ⟨f,Z,K,W,À i⟩
   .have O:f≠j:=λe=>by
     subst e;have Ky:=(p.g f N K).2;rw[i,<-W]at Ky;obtain⟨g0,xt⟩:=p.I.Yy t PH Ky;grind [ah9]
    exact Á ⟨f,Z,K,W,Á ⟨r1,cap,s1,r',i,by show(w.setChan (E.I j) _ _ _ _ _ _).heap[E.I f]?=_;rwa[qc λq=>O<|p.C.M _ _ N z q]⟩⟩
 .grind
 .grind
def Kz(F:Ph)(zX:π->Prop)(qJ:ä):Prop:=
 (∀p a,touchAt qJ p=Ã a->a.loc.isMemory=Ì->Λ qJ 0 p\/((zX a.loc\/∃x:Č,a.loc=ú x/\x.block=F.C)/\a.kind=.atomic))/\qJ.HandedOver
def PK{f:Nat->Nat}:∀{n:Nat},Ñ n f=0->∀i,i<n->f i=0
 |n+1,h,i,hi=>by
  simp only[Ñ]at h;rcases ģ i n with q|q
  .exact PK Z i q
  .have:i=n:=Z
   subst this;omega
theorem PI.aii(H:gW F)(p:PI F n zX E S m o G c w qJ)(r:c[0]?=Ã g)(K:g.status=Å)(L:m 0=.fE)(f:E.M=.fD .lu): ∃(B:fZ F) (b:Nat->Jd) (D:Nat->gD) (j:Nat->iD) (h:Nat->fh) (d:Array Ä) (W:Ð) (u:ä),Ŏ F.P (ð c w sl) 0=(ğ<|ð d W sl,u)/\d.size=c.size/\PI F n zX B b D j h d W (qJ++u)/\B.M=.gp/\Kz F zX (qJ++u):=by
 have v:=iU r;have C:=p.sX r K L w<|p.I.r.r _ v;rw[f]at C;let⟨M,_,g',s,q⟩:=C;have O:=(p.I.r.f _ v).trans M;have t:∀y:Ă,y.act=ė (ő<|fS F.C)->y.act.touch?=Í:=λy i=>by rw[i];rfl
 have oR:E.r=F.n+1:=by unfold fZ.r;rw[f];rfl
 have a:jc E .gp E.I:=mV (by rw[f];rfl);have e:(iC E .gp E.b E.I).r=E.r:=a.r;let⟨T,Q⟩:=ju q;have V:=lO (λl g h=>À<|H.M _ _ _ h) q;obtain⟨d,y,X,I,Y,J,q3,q4,q5,q7⟩:=p.Bd H (kM .gp) r (s w) ft ft (λy i=>⟨λz l=>(by rw[t y i]at l;cases l),by rw[i];exact p.I.r.N _<|À nA⟩) (λy _ i=>A0 p.I.r.l λk j=>by rw[xp j];exact t y i) Q V;have DL:=p.d.C (yZ (λk j=>by rw[xp j];exact t y I) λk j b _ e=>by grind);have l:=p.C.B<|Á<|À f;refine⟨iC E .gp E.b E.I,_,_,_,_,d,w,_,Y,J,.r (p.N.iC H.C a) (by rw[e];exact J.trans p.b) (by rwa[Bq a]) (q7.G a) (Wd.r p.M a (by rw[f];rfl)<|by rw[f];rfl) (p.C.r a (by rw[f];exact Ç _) (by rw[f];rfl) (by rw[f];rfl) (λb h=> ?_) (λb h=> ?_) (λb=>⟨λh=>(by cases h),λh=>(by cases h)⟩) (λ_=>l) (λh=>by cases h) λ_ h=>absurd rfl h) (by rwa[e]) ?_ λb j N h k=>(p.f b j Z h k).app _,U,p.d.lh X I O λx GQ=> ?_⟩
 .grind
 .grind
 .intro k z b hb;by_cases N:k=0
  .grind
  .rw[q4 k N]at b;obtain⟨z',GN,rfl⟩:=Ù.1 b;let⟨_,hzb⟩:=Gq hb;rcases p.c k z' GN hzb with⟨s,_⟩|⟨j,hj,h,q,h3⟩
   .exact absurd s N
   .exact Á ⟨j,Z,h,q,h3⟩
 .have b:=PK l x Z;have k:E.M.ad F.n=F.n+1:=by rw[f];rfl
  unfold fZ.G at b;rw[k,if_pos Z]at b;cases h:E.N x with
  |none=>rw[h]at b;cases b
  |some j=>
   rw[h]at b;refine⟨j,h,?_⟩;cases j with
   |oS=>cases b
   |gp N=>cases N with
    |jH=>cases b
    |_=>trivial
   |jy N=>trivial
end
section
variable{D:Nat->Prop}{S:Nat->Jd}{G:Nat->gD}{I:Nat->iD}{o:Nat->fh}{f:Array Ä}{sl:Option (Nat×Nat)}
def YI{y:Ă}(b:wQ.act=ς k)(c:y.act=į):xk #[wQ,y]:=by
 intro d a;simp at a;rcases a with rfl|rfl
 .rw[b];exact⟨U,ft⟩
 .rw[c];exact⟨U,ft⟩
theorem iX.Gk(h:iX i (λf=>f<n) X o w qJ){v:fh}{y:Ă}(F:0<n)(P:wQ.g=0/\wQ.act=ς n)(Q:y.g=n/\y.act=į)(pC:κ qJ 0=0)(Bu:κ qJ n=0)(V:∀b,¬v.O b)(W:∀b,v.I b->(o 0).I b) (J:∀a,v.r a->X a.block/\(∀k,k<n->¬(o k).C a)/\qI qJ 0 (ú a)) (H:∀a,v.N a->(o 0).N a) (lK:∀a,v.K a->(o 0).K a) (lKO:∀k,k<n->∀a,(o k).K a->¬v.r a) (ld:v.d=0) (lw:v.w=w) (Y:∀b,X b->D b) (YJ:∀b,D b->X b\/(b<w.heap.size/\∀f,f<n->¬(o f).M b)):iX i (λf=>f<n+1) D (gC o n v) w (qJ++#[wQ,y]):=by
 have L:=YI P.2 Q.2;have B:∀f,f<n+1->f=n\/f<n:=λf t=>by omega
 have G:gC o n v n=v:=gY _ _ _;have E:∀f,f<n->gC o n v f=o f:=λf t=>gK o _ Z;have N:∀b,v.M b->(o 0).I b:=λb s=>s.elim (λq=>absurd q (V b)) (W b);have aij:=λf t b s Nx=>(YJ b Nx).elim (h.I f t b s) (λq=>q.2 f t s);refine⟨λf j t S T b s=> ?_,λf j t S T a r=> ?_,λf t b s=> ?_,λf t a r=> ?_,λf t b s=> ?_,λf t a r=> ?_,λf t b s=> ?_,λb s=> ?_,λf t=> ?_,λf t=> ?_,λf t=> ?_,A0 h.l λu z=>(L u z).1,λu z=> ?_,λp a c r hl hk=> ?_,λf t a r=> ?_⟩
 .rcases B f t with rfl|m
  .grind
  .rw[E f m]at s;rcases B j S with rfl|I
   .rw[G];intro q;by_cases e:f=0
    .subst e;exact h.m _ m b s (N b q)
    .exact h.o f 0 m F e b s (Á (N b q))
   .rw[E j I];exact h.o f j m I T b s
 .rcases B f t with rfl|m
  .grind
  .rw[E f m]at r;rcases B j S with rfl|I
   .rw[G];rintro(q|q)
    .exact(J a q).2.1 f m (À r)
    .by_cases e:f=0
     .subst e;exact h.g _ m a r (H a q)
     .exact h.h f 0 m F e a r (Á (H a q))
   .rw[E j I];exact h.h f j m I T a r
 .rcases B f t with rfl|m
  .grind
  .rw[E f m]at s|-;exact h.m f m b s
 .rcases B f t with rfl|m
  .rw[G]at r|-;exact λq=>(J a r).2.1 0 F (Á (H a q))
  .rw[E f m]at r|-;exact h.g f m a r
 .rcases B f t with rfl|m
  .rw[G]at s;exact aij 0 F b (Á (N b s))
  .grind
 .rcases B f t with rfl|m
  .rw[G]at r;exact Y _ (r.elim (λq=>(J a q).1) (λq=>h.e 0 F a (Á (H a q))))
  .rw[E f m]at r;exact Y _ (h.e f m a r)
 .rcases B f t with rfl|m
  .rw[G]at s;exact h.fA 0 F b (Á (N b s))
  .rw[E f m]at s;exact h.fA f m b s
 .exact(YJ b s).elim (h.N b) (λq=>q.1)
 .rcases B f t with rfl|m
  .rw[G,lw];exact fL.gd _ _
  .rw[E f m];exact h.r f m
 .rcases B f t with rfl|m
  .rw[G];have e:=λl=>agS P Q pC Bu (l:=l);exact⟨λa r=>absurd r (V _),λa r=>(e _).2 ((h.S 0 F).C a (W _ r)),λa r=>(e _).1 (J a r).2.2,λa r=>(e _).2 ((h.S 0 F).r a (H _ r))⟩
  .rw[E f m];have e:∀u∈#[wQ,y],∀b,u.act.touch?=Ã b->False:=λu z b s=>by rw[(L u z).1]at s;cases s
   exact⟨λa r=>((h.S f m).fx a r).C λu z b s _=>(e u z b s).elim,λa r=>((h.S f m).C a r).r λu z b s _ _=>(e u z b s).elim,λa r=>((h.S f m).I a r).C λu z b s _=>(e u z b s).elim,λa r=>((h.S f m).r a r).r λu z b s _ _=>(e u z b s).elim⟩
 .rw[J0 L];rcases B f t with rfl|m
  .grind
  .rw[E f m];exact h.f f m
 .refine(Array.mem_append.1 z).elim (h.q u) λq=> ?_;simp at q;rcases q with rfl|rfl
  .rw[P.2];trivial
  .rw[Q.2];trivial
 .rcases mX r with⟨_,e⟩|⟨_,u,e,q,_⟩
  .exact h.s p a c e hl hk
  .rw[(L u e).1]at q;cases q
 .obtain⟨e,m,q⟩:∃e,e<n/\(o e).K a:=by
   grind
  let⟨I,z2⟩:=h.n e m a q;grind
theorem gO.Gk(p:gO P i X S G I o f w qJ){c b:Ä}{J q:Jd}{T r:gD}{K Kc:iD}{m n:fh}(s:f[0]?=Ã g)(L:è P Ì g w=.spawn c b w #[]) (V:∀x y:Ă,(x.g=0/\x.act=ς f.size)->(y.g=f.size/\y.act=į)->iX i (λa=>a<f.size+1) D (gC (gC o 0 m) f.size n) w (qJ++#[x,y])) (hF:lr P Ì J T m c) (M:c.status=Å) (N:lr P É q r n b) (O:b.status=Å): ∃d x y,(x.g=0/\x.act=ς f.size)/\(y.g=f.size/\y.act=į)/\Ŏ P (ð f w sl) 0=(ğ<|ð d w sl,#[x,y])/\d.size=f.size+1/\d[0]?=Ã c/\d[f.size]?=Ã b/\(∀k,k≠0->k<f.size->d[k]?=f[k]?)/\ gO P i D (fC (fC S 0 J) f.size q) (fC (fC G 0 T) f.size r) (fC (fC I 0 K) f.size Kc) (gC (gC o 0 m) f.size n) d w (qJ++#[x,y]):=by
 have W:=(Ö.1 s).1;have t:=runT_crowd_spawn (sl:=sl) s L;obtain⟨x,u⟩:∃x:Ă,x={g:=0,fn:=g.frame.fn,pos:=g.frame.place,act:=ς f.size}:=⟨_,U⟩;obtain⟨y,v⟩:∃y:Ă,y={g:=f.size,fn:=b.frame.fn,pos:=g.frame.place,act:=į}:=⟨_,U⟩;have e:((Û 0 g.frame.fn g.frame.place #[]).push {g:=0,fn:=g.frame.fn,pos:=g.frame.place,act:=ς f.size}).push {g:=f.size,fn:=b.frame.fn,pos:=g.frame.place,act:=į}=#[x,y]:=by rw[u,v];simp[Û]
 rw[e]at t;have B:x.g=0/\x.act=ς f.size:=by rw[u];exact⟨U,U⟩
 have C:y.g=f.size/\y.act=į:=by rw[v];exact⟨U,U⟩
 have E:((f.setIfInBounds 0 c).push b)[0]?=Ã c:=by grind
 have F:((f.setIfInBounds 0 c).push b)[f.size]?=Ã b:=by grind
 have H:∀k,k≠0->k<f.size->((f.setIfInBounds 0 c).push b)[k]?=f[k]?:=λk Y h2=>by grind
 refine⟨_,x,y,B,C,t,ft,E,F,H,?_,λk z d=> ?_,λj Q=> ?_⟩
 .simp_all
 .have GA:k<f.size+1:=by have:=(Ö.1 d).1;simpa using this
  by_cases l:k=f.size
  .subst l;rw[F]at d;obtain rfl:=È d;rw[gI,gI,gI,gY,show(f.size==0)=É from beq_eq_false_iff_ne.2 Z];exact⟨b,N,.gw,À O,À U⟩
  .rw[fM _ _ l,fM _ _ l,fM _ _ l,gK _ _ l];by_cases h:k=0
   .subst h;rw[E]at d;obtain rfl:=È d;rw[gI,gI,gI,gY];exact⟨c,hF,.gw,À M,À U⟩
   .rw[H k h Z]at d;rw[fM _ _ h,fM _ _ h,fM _ _ h,gK _ _ h];exact p.C k z d
 .rw[J0<|YI B.2 C.2];exact p.I j<|by simp at Q;omega
end
section
variable{F:Ph}{E N:fZ F}{S:Nat->Jd}{G Q:Nat->gD}{I:Nat->iD}{o:Nat->fh}{f B:Array Ä}{u:ä}{sl:Option (Nat×Nat)}
theorem aik(ok:F.Ok)(h:i≠n)(c:mb F i a)(d:mb F n a):False:=by
 have q:∀{i n:Nat},i=0->n≠0->mb F i a->mb F n a->False:=by
  intro i n g j c d;unfold mb at c d;rw[if_pos g]at c;rw[if_neg j]at d;let⟨k,o,m,e⟩:=c;let⟨b,l,p,f⟩:=d;rcases e with e|e
  .rw[f]at e;have:F.Y=F.I k:=by injection e
   exact ok.C<|Á ⟨k,m,this⟩
  .rw[f]at e;exact ok.O2 b k l o m<|by injection e
 by_cases g:i=0
 .grind
 .by_cases j:n=0
  .grind
  .unfold mb at c d;rw[if_neg g]at c;rw[if_neg j]at d;let⟨b,l,p,f⟩:=c;let⟨m,k,o,e⟩:=d;rw[f]at e;have:=ok.a _ _ l k (by injection e);subst this;omega
theorem ail(ok:F.Ok)(h:mb F i a):(∃k,k<=F.m/\a=jj F.toFx k)\/∃p,p≠F.f/\a=jw F p:=by
 unfold mb at h;by_cases b:i=0
 .rw[if_pos b]at h;obtain⟨k,d,e,c|c⟩:=h
  .grind
  .exact Á ⟨_,ok.Y.1 k d e,c⟩
 .rw[if_neg b]at h;let⟨k,c,_,d⟩:=h;exact Á ⟨_,ok.Y.2 k c,d⟩
def vK(F:Ph)(j:Nat):gf:=if j<F.n then .iI (j+1)else .iO F.q
def zu(E:fZ F)(j:Nat):fZ F:={E with M:=vK F j}
def PI.ain(H:gW F)(p:PI F j zX E S G I o f w qJ)(hi:f[0]?=Ã g)(iN:g.status=Å)(ht:G 0=.fE)(hx:E.M=.go m): ∃(N:fZ F) (c:Nat->Jd) (Q:Nat->gD) (r:Nat->iD) (s:Nat->fh) (B:Array Ä) (W:Ð) (u:ä),Ŏ F.P (ð f w sl) 0=(ğ<|ð B W sl,u)/\B.size=f.size+1/\N.M≠ .gp/\PI F j zX N c Q r s B W (qJ++u):=by
 have gP:=iU hi;have C:=p.I.r;have L:=p.a;have hL1:=H.C.r;have hn:=H.C.N;have vI:=p.C.C m<|À hx;have oR:E.r=m:=by unfold fZ.r;rw[hx];rfl
 have kh:f.size=F.L+m:=by rw[p.b,oR]
 have hJ:=p.sX hi iN ht w<|C.r _ gP;rw[hx]at hJ;obtain⟨hd,g',child,X,YK,AZ,DR,hX,Bw,aio,aip⟩:=H.go m E.I _ g vI hJ<|C.M gP;have hd:=hd;have hX:=hX;have Bw:=Bw;have pC:=(C.f _ gP).trans hd;have Bu:=p.I.I _<|Ç _;have nq:=L.M 0<|À U;obtain⟨m',um⟩:∃m',m'=vK F m:=⟨_,U⟩;have uo:(m<F.n/\m'=.iI (m+1))\/(m=F.n/\m'=.iO F.q):=by
  rw[um];unfold vK;by_cases q:m<F.n
  .exact À ⟨q,if_pos q⟩
  .exact Á ⟨Z,if_neg q⟩
 have auY:m'.sp F.n=m+1:=by rcases uo with⟨_,rfl⟩|⟨q,rfl⟩<;>simp only[gf.sp];omega
 have aiq:m'.ad F.n=m+1:=by rcases uo with⟨_,rfl⟩|⟨q,rfl⟩<;>simp only[gf.ad];omega
 have PL:m'.mM F.q=0:=by rcases uo with⟨_,rfl⟩|⟨q,rfl⟩<;>simp[gf.mM]
 have hmh:m'.ji F.n=0:=by rcases uo with⟨_,rfl⟩|⟨q,rfl⟩<;>rfl
 have hmr:m'.gH=0:=by rcases uo with⟨_,rfl⟩|⟨q,rfl⟩<;>rfl
 have GR:(∀v,m'≠ .fD v)/\m'≠ .gp:=by rcases uo with⟨_,rfl⟩|⟨q,rfl⟩<;>exact⟨λv h=>(by cases h),λh=>(by cases h)⟩
 have hkM:kM m'=.no:=by rcases uo with⟨_,rfl⟩|⟨q,rfl⟩<;>rfl
 obtain⟨l0,mO⟩:∃l0:fh,l0={o 0 with O:=λb=>(o 0).O b/\¬X b/\(1<=m->b≠E.I (m-1)),I:=λb=>X b\/(o 0).I b,r:=λa=>(o 0).r a/\¬mb F m a,w:=w}:=⟨_,U⟩;obtain⟨lc,kz⟩:∃lc:fh,lc={O:=λ_=>False,I:=λb=>X b\/(o 0).I b,r:=mb F m,N:=(o 0).N,K:=(o 0).K,d:=0,q:=False,w:=w}:=⟨_,U⟩;have YL:iX F.S (λi=>i<f.size) E.Y (gC o 0 l0) w qJ:=by
  rw[mO];refine C.C gP (λ_ q=>q.1) (λb q=>À<|q.elim (λz=>À<|hX b z) Á) (λ_ q=>q.1) (λa q=>À<|Á q) U U U (λb hb q=> ?_) λa J q=>C.g _ gP a J.1 q;rcases q with q|q
  .exact hb.2.1 q
  .exact C.m _ gP b hb.1 q
 have z0:gC o 0 l0 0=l0:=gY _ _ _;have Bx:=L.o m Z vI;have nD:(zu E m).r=m+1:=by show(vK F m).sp F.n=_;rwa[<-um]
 have YM:∀b,(zu E m).Y b->E.Y b\/(1<=m/\b=E.I (m-1)):=λb hb=>by
  rcases hb with q|q|⟨l,t,D⟩
  .exact À<|À q
  .exact À<|Á<|À q
  .rw[nD]at t;by_cases e:l+1=m
   .exact Á ⟨Z,by rw[D,show l=m-1 by omega];rfl⟩
   .exact À<|Á<|Á ⟨l,Z,D⟩
 have PN:∀x y:Ă,(x.g=0/\x.act=ς f.size)->(y.g=f.size/\y.act=į)->iX F.S (λi=>i<f.size+1) (zu E m).Y (gC (gC o 0 l0) f.size lc) w (qJ++#[x,y]):=λx y KA KB=>by
  refine YL.Gk gP KA KB pC Bu (by rw[kz];exact λb q=>q) (by rw[z0,kz,mO];exact λb q=>q) (λa J=> ?_) (by rw[z0,kz,mO];exact λb q=>q) (by rw[z0,kz,mO];exact λb q=>q) (λk hk a J q=> ?_) (by rw[kz]) (by rw[kz]) (λb hb=> ?_) λb hb=> ?_
  .have r:mb F m a:=by rwa[kz]at J
   have c:=Bx a r;refine⟨C.e 0 gP a<|À c,λk hk q=> ?_,(C.S 0 gP).I a c⟩;by_cases e:k=0
   .subst e;rw[z0,mO]at q;rcases q with q|q
    .exact q.2 r
    .exact C.g 0 gP a c q
   .rw[gK _ _ e]at q;exact C.h 0 k gP hk (ÿ e) a c q
  .have c:(o k).K a:=by
    by_cases e:k=0
    .subst e;rwa[z0,mO]at J
    .rwa[gK _ _ e]at J
   rw[kz]at q;exact(C.n k hk a c).2 0 gP<|Bx a q
  .rcases hb with q|q|⟨l,t,D⟩
   .exact À q
   .exact Á<|À q
   .exact Á<|Á ⟨l,by rw[nD];omega,D⟩
  .rcases YM b hb with q|⟨t,rfl⟩
   .exact À q
   .obtain⟨a1,a2,a3,a4⟩:=Bw t;refine Á ⟨C.fA 0 gP _<|À a1,λi lF q=> ?_⟩;by_cases e:i=0
    .subst e;rw[z0,mO]at q;rcases q with q|q|q
     .exact q.2.2 t U
     .exact a2 q
     .exact C.m 0 gP _ a1 q
    .rw[gK _ _ e]at q;exact C.o 0 i gP lF (ÿ e) _ a1 q
 have hWm:fq F.P Ì (JM F E.I m') l0 g':=by
  have r:=YL.M gP;rw[z0]at r;have s:{l0 with w:=w}=l0:=by rw[mO]
  rw[s]at r;have:=aip l0 r (by rw[mO]) (λb q=>by rwa[mO]) (by rw[mO]) (by rwa[mO]) (by rw[mO]) (by rw[mO]) (by rw[mO]) (λa q=>by rw[mO]at q;exact q.1);rw[um];unfold vK;exact this
 have PO:∀b,lc.M b->(o 0).M b:=λb hb=>by
  rw[kz]at hb;rcases hb with q|q|q
  .exact q.elim
  .exact À<|hX b q
  .exact Á q
 have YN:∀a,lc.C a->(o 0).C a:=λa J=>by rw[kz]at J;exact J.elim (λq=>À<|Bx a q) Á
 have PQ:lc.w=w:=by rw[kz]
 have air:gF lc:=⟨λb hb=>(by rw[kz]at hb;exact hb.elim),λa J q=>(by rw[kz]at J q;exact C.g 0 gP a (Bx a J) q),λa J hb=>C.I 0 gP _ (PO _ hb)<|C.e 0 gP a<|YN a J,λb hb=>(by rw[PQ];exact C.fA 0 gP b<|PO b hb),λa J=>(by rw[PQ];exact C.N _<|C.e 0 gP a<|YN a J),λa J=>by
  have c:(o 0).K a:=by rwa[kz]at J
  obtain⟨k1,k2⟩:=C.n 0 gP a c;exact⟨λq=>C.I 0 gP _ (PO _ q) k1,by rw[PQ];exact C.N _ k1,λq=>by rw[kz]at q;exact k2 0 gP (Bx a q)⟩⟩
 have hWc:=aio lc air (λb q=>by rwa[kz]) (by rw[kz]) (by rw[kz]) (by rw[kz];exact λq=>q) (λb=>by rw[kz];exact λq=>q) (by rw[kz]) (by rw[kz]) (λa q=>Bx a<|by rwa[kz]at q);obtain⟨T,hT⟩:=ju hWm;obtain⟨Tc,hTc⟩:=ju hWc;obtain⟨B,x,y,KA,KB,q1,q2,q3,q4,q5,q6⟩:=p.I.Gk (Kc:=if m=0 then .no else kW F (E.I<|m-1) (.ny 0)) hi (DR w) PN hT YK hTc AZ;have cs:∀i,i<f.size+1->i=f.size\/i=0\/(i≠0/\i<f.size):=λi hi=>by omega
 have es:gC (gC o 0 l0) f.size lc f.size=lc:=gY _ _ _;have e0:gC (gC o 0 l0) f.size lc 0=l0:=by rwa[gK _ _ Z]
 have en:∀i,i≠0->i≠f.size->gC (gC o 0 l0) f.size lc i=o i:=λi t D=>by rw[gK _ _ D,gK _ _ t]
 have xu:=p.C.z;have Kv:=p.C.h m Z;have ais:∀y,E.ow y->y<m:=λy ⟨e,t,_⟩=>ñ λq=>by rw[p.C.h y Z]at t;cases t
 have PU:∀i,i<f.size+1->∀a,(gC (gC o 0 l0) f.size lc i).r a->∃k,k<f.size/\(o k).r a:=λi hi a J=>by
  rcases cs i hi with rfl|rfl|⟨t,D⟩
  .rw[es,kz]at J;exact⟨0,gP,Bx a J⟩
  .rw[e0,mO]at J;exact⟨0,gP,J.1⟩
  .rw[en i t Z]at J;exact⟨i,D,J⟩
 refine⟨zu E m,_,_,_,_,B,w,_,q1,q2,(by show vK F m≠ .gp;rw[<-um];exact GR.2),.r ⟨?_,λt D=> ?_,λl t D=> ?_,λy e t D=> ?_,λi t D=> ?_⟩ (by rw[q2,nD,kh];omega) q6 ?_ ?_ ?_ ?_ (λk z hk hb=> ?_) λl r2 a1 a2 a3=> ?_⟩
 .have c:(0:Nat)≠f.size:=Z
  rw[fM _ _ c,gI,fM _ _ c,gI];rw[um];exact⟨U,U⟩
 .by_cases e:m=0
  .have c:f.size=F.L:=Z
   rw[c,gI,gI,if_pos e,if_pos e];show F.h 0=JI F E.c E.S/\_;rw[p.C.J Z];exact⟨U,U⟩
  .rw[fM _ _ Z,fM _ _ Z,fM _ _ Z,fM _ _ Z];exact p.m Z D
 .rw[nD]at t;by_cases e:l+1=m
  .have c:F.L+1+l=f.size:=Z
   rw[c,gI,gI,if_neg Z,if_neg Z];show Dv F (E.I<|m-1) (m-1) 0=JW F (E.I l) l (E.C l)/\_=kW F (E.I l) (E.C l);rw[xu l Z,show m-1=l by omega];exact⟨U,U⟩
  .rw[fM _ _ Z,fM _ _ Z,fM _ _ Z,fM _ _ Z];exact p.g l Z D
 .have s:=ñ λq=>by
   have r:E.N y=Ã e:=D;rw[p.C.h y Z]at r;cases r
  rw[fM _ _ Z,fM _ _ Z,fM _ _ Z,fM _ _ Z,fM _ _ Z,fM _ _ Z];exact p.k y e Z D
 .rw[fM _ _ Z,fM _ _ Z,fM _ _ Z,fM _ _ Z,fM _ _ Z,fM _ _ Z];exact p.l i t D
 .rw[q2];obtain⟨f1,f2⟩:=L.lY Z;refine⟨λi lF a J=> ?_,λy t D a J=> ?_,λ_=> ?_,λ_ k t D=> ?_,λ_ D=> ?_,λl t D r h3 h4=> ?_,λl t D=> ?_,λy s=> ?_,λi lF=> ?_,λi t D=> ?_,λk hk b hb=> ?_,λk hk i lF q=> ?_,λk t D i lF q=> ?_,λl t r D h3 i lF q=> ?_⟩
  .rcases cs i lF with rfl|rfl|⟨t,D⟩
   .rw[es,kz]at J;rcases J with q|q
    .exact ail H.C q
    .exact L.gX 0 gP a<|Á q
   .rw[e0,mO]at J;rcases J with q|q
    .exact L.gX 0 gP a<|À q.1
    .exact L.gX 0 gP a<|Á q
   .rw[en i t Z]at J;exact L.gX i D a J
  .rw[nD]at t;rw[e0,mO];exact⟨L.o y Z D a J,λq=>aik H.C Z q J⟩
  .rw[e0,mO];exact⟨f1,λb hb=>Á<|f2 b hb⟩
  .have Bo:=t;by_cases e:m=0
   .have c:F.L=f.size:=Z
    rw[c,es,kz];exact⟨by show mb F m _;unfold mb;rw[if_pos e];exact⟨k,Z,D,À U⟩,by show mb F m _;unfold mb;rw[if_pos e];exact⟨k,Z,D,Á U⟩⟩
   .rw[en F.L Z Z];exact L.e Z k Bo D
  .by_cases e:m=0
   .have c:F.L=f.size:=Z
    rw[c,es,kz];show(o 0).N (jj F.toFx E.S.md)/\∀b,E.V E.S.md b->X b\/(o 0).I b;rw[p.C.J Z];show(o 0).N (jj F.toFx 0)/\∀b,E.V 0 b->X b\/(o 0).I b;rw[p.C.v];exact⟨f1,λb hb=>Á<|f2 b hb⟩
   .rw[en F.L Z Z];exact L.f Z D
  .rw[nD]at t;by_cases e:l+1=m
   .have c:F.L+1+l=f.size:=Z
    rw[c,es,kz];show mb F m _;unfold mb;rw[if_neg Z];exact⟨_,h3,by rw[ē,ļ Z];omega,U⟩
   .rw[en _ Z Z];exact L.h l Z D r h3 h4
  .rw[nD]at t;by_cases e:l+1=m
   .have c:F.L+1+l=f.size:=Z
    rw[c,es,kz];exact⟨f1,λb hb=>Á<|f2 b hb⟩
   .rw[en _ Z Z];exact L.l l Z D
  .have:=ais y s;rw[en _ Z Z];exact L.S y s
  .rcases lF with rfl|⟨y,t,rfl,h3⟩
   .rwa[e0,mO]
   .rw[nD]at t;by_cases e:y=m
    .subst e;rw[<-kh,es,kz];exact λq=>q
    .rw[en _ Z Z];exact L.M _<|Á ⟨y,Z,U,h3⟩
  .rw[en i Z Z];exact L.c i t D
  .obtain⟨b1,b2,c⟩:=L.I k hk b hb;refine⟨b1,λq=> ?_,λi lF q=> ?_⟩
   .rcases YM b q with q|⟨t,rfl⟩
    .exact b2 q
    .exact c 0 gP (Bw t).1
   .rcases cs i lF with rfl|rfl|⟨t,D⟩
    .rwa[es,kz]at q
    .rw[e0,mO]at q;exact c 0 gP q.1
    .rw[en i t Z]at q;exact c i D q
  .obtain⟨c,a1,a2⟩:=PU i lF _ q;exact L.N k hk c a1 a2
  .obtain⟨c,a1,a2⟩:=PU i lF _ q;exact L.g k t D c a1 a2
  .rw[nD]at t;have oU:r<(E.C l).kJ:=h3;obtain⟨c,a1,a2⟩:=PU i lF _ q;by_cases e:l+1=m
   .rw[xu l Z]at oU;simp only[gR.kJ]at oU;omega
   .exact L.d l Z r D oU c a1 a2
 .have c:=p.M;refine⟨c.C,c.I,λl t=> ?_,c.M,c.S,λl t r D h3=> ?_⟩
  .rw[nD]at t;show∃buf s,w.heap[E.I l]?=Ã (.chan F.q buf (decide<|l<(vK F m).ji F.n) s (E.C l).iR É)/\tY F.n l ((vK F m).mM F.q) s/\(E.C l).iR<=s/\buf.size=s-(E.C l).iR/\∀i,i<s-(E.C l).iR->buf[i]?=Ã (F.c<|l+((E.C l).iR+i)*F.n);rw[<-um,hmh,PL];by_cases e:l+1=m
   .rw[xu l Z];obtain⟨a1,a2,a3,a4⟩:=Bw Z;rw[show m-1=l by omega]at a3;refine⟨#[],0,by rw[a3];rfl,λi=>⟨λq=>by omega,λq=>by omega⟩,Ç _,U,λi lF=> ?_⟩;simp only[gR.iR]at lF;omega
   .have:=c.jL l Z;rwa[hx]at this
  .rw[nD]at t;have oU:r<(E.C l).kJ:=h3;by_cases e:l+1=m
   .rw[xu l Z]at oU;simp only[gR.kJ]at oU;omega
   .exact c.N l Z r D oU
 .have h:=p.C;have eo:(zu E m).G=E.G:=by
   funext y;have t:(zu E m).M.ad F.n=E.M.ad F.n:=by show(vK F m).ad F.n=_;rw[<-um,aiq,hx];rfl
   unfold fZ.G;rw[t];rfl
  have PV:(zu E m).M.gH=E.M.gH:=by show(vK F m).gH=_;rw[<-um,hmr,hx];rfl
  have emp:(zu E m).M=m':=um.symm;refine⟨h.v,λl q=> ?_,λl q=> ?_,λr=>⟨λq=> ?_,λq=> ?_⟩,λq=>by omega,h.I,λl q=>h.z l Z,λl r uq qd=> ?_,λl uq qd=> ?_,h.f,λy q=>h.h y Z,λl j3 uq qd q3'=> ?_,λl q=> ?_,λc reg hc=> ?_,λreg hc=> ?_,λr s hc=> ?_,h.N,λq=> ?_,h.e,h.Y,λl r uq qd=> ?_,λl r uq qd=> ?_,λq=> ?_,λ_ _=>h.S (λv q=>by rw[hx]at q;cases q) (λq=>by rw[hx]at q;cases q),h.y,λl r uq qd=> ?_⟩
  .rw[emp]at q;rcases uo with⟨_,rfl⟩|⟨_,rfl⟩<;>rcases q with q|q|q|q<;>cases q;omega
  .rw[emp]at q;rcases uo with⟨_,rfl⟩|⟨_,rfl⟩<;>rcases q with q|q|q<;>cases q;omega
  .rw[emp]at q;rcases uo with⟨_,rfl⟩|⟨_,rfl⟩<;>cases q;exact Ç _
  .rw[emp]at q;rcases uo with⟨_,rfl⟩|⟨_,rfl⟩<;>cases q
  .rw[nD]at uq;by_cases e:l+1=m
   .have oV:(∃p,E.C l=.fD r p)\/E.C l=.jO r\/E.C l=.oQ r:=qd;rw[xu l Z]at oV;rcases oV with⟨_,q⟩|q|q<;>cases q
   .exact h.d l r Z qd
  .rw[nD]at uq;have oV:E.N (l+1)≠Í:=qd;have:l+1<m:=ñ λq=>oV<|h.h _ Z;obtain⟨a,_⟩:=h.l l Z oV;rw[hx]at a;simp only[gf.ji]at a;omega
  .rw[nD]at uq qd;have PW:E.I l=E.I j3:=q3';have key:∀a b,a+1=m->b+2<=E.r->E.I a=E.I b->False:=λa b J hb he=>by
    have t:=(Bw Z).1;rw[show m-1=a by omega,he]at t;exact C.I 0 gP _ (À t)<|Á<|Á ⟨b,hb,U⟩
   by_cases e:l+1=m
   .by_cases e':j3+1=m
    .omega
    .exact(key l j3 e Z PW).elim
   .by_cases e':j3+1=m
    .exact(key j3 l e' Z PW.symm).elim
    .exact h.M l j3 Z Z PW
  .rw[nD]at q;show¬F.M (E.I l)/\E.I l≠F.Y/\F.S<=E.I l;by_cases e:l+1=m
   .obtain⟨a1,_,_,a4⟩:=Bw Z;rw[show m-1=l by omega]at a1 a4;have YO:=C.I 0 gP _<|À a1;exact⟨λq=>YO<|À q,λq=>YO<|Á<|À q,a4⟩
   .exact h.o l Z
  .rw[eo,PV];exact h.t c reg hc
  .rw[eo,PV];obtain⟨a1,a2,y,a3,a4⟩:=h.g reg hc;exact⟨a1,a2,y,Z,a4⟩
  .rw[eo,PV];obtain⟨a1,a2,a3⟩:=h.u r s hc;refine⟨a1,a2,λhr=> ?_⟩;obtain⟨y,b1,b2⟩:=a3 hr;exact⟨y,Z,b2⟩
  .rw[emp]at q;rcases q with q|q|q
   .exact absurd q<|GR.1 _
   .exact absurd q<|GR.1 _
   .exact absurd q GR.2
  .rw[nD]at uq;by_cases e:l+1=m
   .have oV:E.C l=.fD r .gE\/E.C l=.fD r .lu\/E.C l=.jO r:=qd;rw[xu l Z]at oV;rcases oV with q|q|q<;>cases q
   .exact h.w l r Z qd
  .rw[nD]at uq;by_cases e:l+1=m
   .have oV:E.C l=.fD r .gE:=qd;rw[xu l Z]at oV;cases oV
   .exact h.H l r Z qd
  .rw[emp]at q;exact absurd q<|GR.1 _
  .rw[nD]at uq;by_cases e:l+1=m
   .have oV:E.C l=.fD r .wr:=qd;rw[xu l Z]at oV;cases oV
   .exact h.D l r Z qd
 .rw[nD];have c:=p.d;rw[oR]at c;rw[kh]at KA KB Bu;exact c.Gk KA KB pC Bu (λ⟨e,t,_⟩=>by rw[Kv]at t;cases t) λy ⟨e,t,_⟩=>ñ λq=>by rw[p.C.h y Z]at t;cases t
 .have r:=iU hk;rcases cs k Z with rfl|rfl|⟨k1,k2⟩
  .rw[q4]at hk;obtain rfl:=È hk;rw[AZ]at hb;cases hb
  .rw[q3]at hk;obtain rfl:=È hk;rw[YK]at hb;cases hb
  .rw[q5 k k1 k2]at hk;rcases p.c k z hk hb with⟨t,_⟩|⟨l,s,c,D,h3⟩
   .exact absurd t k1
   .exact Á ⟨l,Z,c,D,h3⟩
 .rw[nD]at a1;by_cases e:l+1=m
  .have oV:E.C l=.jO r2:=a2;rw[xu l Z]at oV;cases oV
  .exact(p.f l r2 Z a2 a3).app _
end
section
variable{F:Ph}{E E':fZ F}{S:Nat->Jd}{tr o:Nat->gD}{m:Nat->iD}{lot:Nat->fh}{gs gs':Array Ä}{w':Ð}{t u:ä}{sl:Option (Nat×Nat)}{sz:Nat}
def PI.at(H:gW F)(p:PI F i zX E S tr m lot gs w t)(d:Nat):PI F i zX E S tr m lot gs (w.at d) t:= ⟨p.b,p.I.at d,p.h,p.m,p.g,p.k,p.l,p.a.DU<|Ç _,⟨⟨p.M.C.C,p.M.C.M,p.M.C.I,p.M.C.N,p.M.C.r⟩,λk a=>⟨(p.M.I k a).C,(p.M.I k a).M,(p.M.I k a).I,(p.M.I k a).N,(p.M.I k a).r⟩,p.M.jL,λk a=>⟨(p.M.M k a).1,H.S _ _ _ _ _ (p.M.M k a).2 (λ_ _=>rfl) U U U ⟨U,U⟩⟩,p.M.S,p.M.N⟩,p.C,p.d,p.c,p.f⟩
def Go1(F:Ph)(i:Nat)(zX:π->Prop)(gs:Array Ä)(w:Ð)(t:ä)(sl:Option (Nat×Nat))(a:Nat):Prop:=
 ∃(E':fZ F) (b:Nat->Jd) (o:Nat->gD) (c:Nat->iD) (d:Nat->fh) (gs':Array Ä) (w':Ð) (u:ä),Ŏ F.P (ð gs w sl) a=(ğ<|ð gs' w' sl,u)/\gs'.size=gs.size+1/\E'.M≠ .gp/\PI F i zX E' b o c d gs' w' (t++u)
def ait(F:Ph)(i:Nat)(zX:π->Prop)(gs:Array Ä)(w:Ð)(t:ä)(sl:Option (Nat×Nat))(a:Nat):Prop:=
 ∃(E':fZ F) (b:Nat->Jd) (o:Nat->gD) (c:Nat->iD) (d:Nat->fh) (gs':Array Ä) (w':Ð) (u:ä),Ŏ F.P (ð gs w sl) a=(ğ<|ð gs' w' sl,u)/\gs'.size=gs.size/\PI F i zX E' b o c d gs' w' (t++u)/\E'.M=.gp/\Kz F zX (t++u)
def PI.aiu(H:gW F)(p:PI F i zX E S tr m lot gs w t)(l:E.M≠ .gp)(a:gs[n]?=Ã g)(c:g.status=Å):ki F i zX E tr gs w t sl n\/rJ F i zX E tr gs w t\/Go1 F i zX gs w t sl n\/ait F i zX gs w t sl n:=by
 have z:=iU a;have B:=p.b;cases b:tr n with
 |jR k=>
  obtain⟨gs',w',u,o,e,d,f,j,q⟩:=p.fx H a b;exact À ⟨E,S,o,m,e,gs',w',u,d,f,λh=>h,j,q⟩
 |fE=>
  by_cases s:n=0
  .subst s;cases h:E.M with
   |go j=>exact Á<|Á<|À<|p.ain H a c b h
   |lN j=>exact Á<|À<|p.ahW H a c b h
   |rd j=>exact À<|p.ahX H a c b h
   |iI j=>exact À<|p.ahZ H a c b h
   |iO r=>cases r with
    |zero=>exact Á<|À<|p.ah0 H a c b h
    |succ r=>exact À<|p.aib H a c b h
   |lh r=>cases r with
    |zero=>exact Á<|À<|p.ah1 H a c b h
    |succ r=>exact À<|p.aie H a b h
   |fD v=>cases v with
    |jd=>exact Á<|À<|p.ah2 H a c b h
    |mq q=>exact À<|p.ah3 H a c b h
    |wr=>exact À<|p.ah4 H a c b h
    |kH=>exact À<|p.ah6 H a c b h
    |gE=>exact À<|p.ah5 H a c b h
    |lu=>exact Á<|Á<|Á<|p.aii H a c b h
   |gp=>exact absurd h l
  by_cases y:n<F.L
  .exact À<|p.ahU H Z y a c
  obtain⟨x,rfl⟩:∃x,n=F.L+x:=⟨n-F.L,Z⟩;have f:x<E.r:=Z
  cases d:E.N x with
  |some e=>cases e with
   |oS=>exact Á<|À<|p.ahy H f d a c b
   |gp v=>cases v with
    |jH=>exact À<|p.ahB H f d a c b
    |iI=>exact À<|p.ahF H f d a c b
    |gE W=>exact À<|p.ahG H f d a c b
    |jg W=>exact À<|p.ahH H f d a c b
    |iE r=>exact À<|p.ahI H f d a c b
   |jy N=>exact À<|p.ahT H f d a c
  |none=>cases x with
   |zero=>
    rw[ó]at a b|-;cases h:E.S with
    |kV k=>exact Á<|À<|p.ahK H f d a c b h
    |mk k=>exact Á<|À<|p.ahN H f d a c b h
    |dn k v=>cases v with
     |jH=>exact À<|p.ahO H f d a c b h
     |iI=>exact À<|p.ahP H f d a c b h
     |gE W=>exact À<|p.ahQ H f d a c b h
     |jg W=>exact À<|p.ahR H f d a c b h
     |iE r=>exact À<|p.ahS H f d a c b h
   |succ j=>
    rw[show F.L+(j+1)=F.L+1+j by omega]at a b|-;have e:j+2<=E.r:=Z
    cases h:E.C j with
    |ny r=>exact À<|p.ahw H e d a c b h
    |fD r v=>cases v with
     |jd=>exact Á<|À<|p.ahf H e d a c b h
     |mq q=>exact À<|p.ahg H e d a c b h
     |wr=>exact À<|p.ahi H e d a c b h
     |kH=>exact À<|p.ahl H e d a c b h
     |gE=>exact À<|p.ahj H e d a c b h
     |lu=>exact À<|p.ahk H e d a c b h
    |jO r=>exact Á<|À<|p.ahn H e d a c b h
    |oQ r=>exact Á<|À<|p.aho H e d a c b h
def aiv{J:Jd}{T:gD}{l:fh}(a:∀l g,J l g->g.status=Å)(h:lr P yQ J T l g):g.status=Å:=by
 cases T with
 |fE=>exact a _ _<|h _<|fL.gd _ _
 |jR k=>exact h.1
def gO.Y{Y:Nat->Prop}(c:gO P n Y S tr m lot gs w t)(d:gs[i]?=Ã g)(e:∀l g,S i l g->g.status=Å)(a:g.status≠Ü):g.status=Å:=by
 let⟨g0,f,b,_,_⟩:=c.C i g d;generalize m i=K at b;cases b with
 |gw=>exact aiv e f
 |nY _ _=>exact absurd U a
 |tW _ _ _=>exact absurd U a
 |nu _ _ _=>rfl
def YP{J:Jd}{p:jK}(a:∀r,p=.iE r->0<r){l:fh}(h:Dt P yQ b J p l g):g.status=Å:=by
 cases p with
 |jH=>exact h.2.1
 |iI=>exact h.2.1
 |gE W=>exact h.2.1
 |jg W=>exact h.2.1
 |iE r=>cases r with
  |zero=>exact absurd (a 0 U) Z
  |succ r=>exact h.2.1
def PX{J:Jd}{p:jz}{l:fh}(h:qM P yQ i b J p l g):g.status=Å:=by
 cases p with
 |jd=>let⟨k,_,_,T,a,c⟩:=h;exact(c _ _ a).1
 |mq p=>let⟨_,T,a,c⟩:=h;exact(c _ _ a).1
 |wr=>exact h.2.1
 |kH=>exact h.2.1
 |gE=>exact h.2.1
 |lu=>exact h.2.1
def YQ{l:fh}(h:A6 F D i l g):g.status=Å:=by
 cases i with
 |zero=>exact PX h
 |succ i=>exact h.1
def aiw(H:gW F){x:gf}{l:fh}(h:JM F D x l g):g.status=Å:=by
 cases x with
 |go j=>exact H.I _ _ _ _ h
 |lN j=>let⟨c,h⟩:=h;exact H.I _ _ _ _ h
 |rd j=>exact h.2.1
 |iI j=>exact h.2.1
 |iO r=>cases r with
  |zero=>exact YQ h
  |succ r=>exact h.1
 |lh r=>exact YQ h
 |fD v=>exact PX h
 |gp=>exact H.M _ _ _ h
def PI.AK(p:PI F i zX E S tr m lot gs w t){x:Nat}(a:x<E.r):∃g,gs[F.L+x]?=Ã g:=by have:=p.b;simp_all
def PI.GU(H:gW F)(p:PI F i zX E S tr m lot gs w t)(d:0<E.r)(e:E.N 0=Í):∃(a:Nat) (g:Ä),gs[a]?=Ã g/\g.status=Å:=by
 have n:=H.C.r;let⟨g,c⟩:=p.AK d;rw[ó]at c;refine⟨F.L,g,c,p.I.Y c (λl g h=> ?_) λl=> ?_⟩
 .rw[(p.m d e).1]at h;cases j:E.S with
  |kV k=>rw[j]at h;exact H.N _ _ _ h
  |mk k=>rw[j]at h;let⟨a,V,_,_,_,_,h⟩:=h;exact h.2.1
  |dn k v=>
   rw[j]at h;refine YP (λr V=> ?_) h;subst V;let⟨_,_,r⟩:=p.C.I k;let⟨a,b⟩:=r _ j;rcases p.C.Y k b (by rw[j];exact Ç _)with⟨W,q|q,_⟩|⟨o,s,q,f,_⟩|⟨q,_⟩
   .rw[j]at q;cases q
   .rw[j]at q;cases q
   .rw[j]at q;cases q;exact f
   .exact absurd j<|q _
 .rcases p.c _ g c l with⟨q,_⟩|⟨j,_,_,q,_⟩<;>omega
theorem PI.KC(H:gW F)(p:PI F i zX E S tr m lot gs w t){x:Nat}{e:iw}(b:x<E.r)(c:E.N x=Ã e)(d:∀N,e≠ .jy N):∃(h:Nat) (g:Ä),gs[h]?=Ã g/\g.status=Å:=by
 have f:=H.C.r;let⟨g,a⟩:=p.AK b;refine⟨F.L+x,g,a,p.I.Y a (λl g h=> ?_) λl=> ?_⟩
 .rw[(p.k x e b c).1]at h;cases e with
  |oS=>exact h.2.1
  |gp v=>exact YP (λr j=>by subst j;exact((p.C.N x _ c).2 r U).1) h
  |jy N=>exact absurd U<|d N
 .rcases p.c _ g a l with⟨q,_⟩|⟨j,_,h,q,_⟩;all_goals grind
def YR{f:Nat->Nat}:∀{n:Nat},0<Ñ n f->∃i,i<n/\0<f i
 |0,h=>absurd h<|Nat.lt_irrefl _
 |n+1,h=>by
  simp only[Ñ]at h;by_cases q:0<f n
  .exact⟨n,Z,q⟩
  .let⟨i,b,a⟩:=YR (f:=f) (n:=n) Z;exact⟨i,Z,a⟩
theorem PI.aix(H:gW F)(p:PI F i zX E S tr m lot gs w t):∃(l:Nat) (g:Ä),gs[l]?=Ã g/\g.status=Å:=by
 have hL:=H.C.r;have kh:=p.b;obtain⟨g,D⟩:∃g,gs[0]?=Ã g:=⟨_,é Z⟩;by_cases P:g.status=Ü
 .rcases p.c 0 g D P with⟨_,u,Q⟩|⟨j,_,_,q,_⟩
  .have oR:E.r=F.n+1:=by unfold fZ.r;rw[u];rfl
   have had:E.M.ad F.n=F.n+1:=by rw[u];rfl
   have PY:E.M.gH=1:=by rw[u];rfl
   have T:=p.M.C.r;cases o:E.b with
   |cl c G=>
    let⟨h1,h2⟩:=p.C.t c G o;rw[o]at T;let⟨_,_,V⟩:=T;have X:0<c:=by grind
    rw[h1]at X;let⟨x,d,y⟩:=YR X;unfold fZ.G at y;rw[had,if_pos d]at y;cases z:E.N x with
    |some e=>
     rw[z]at y;exact p.KC H Z z λN q=>by subst q;simp[mr,iw.kX]at y
    |none=>cases x with
     |zero=>exact p.GU H Z z
     |succ j=>
      let⟨I,B⟩:=p.AK (x:=j+1) Z;rw[show F.L+(j+1)=F.L+1+j by omega]at B;have J:j+2<=E.r:=Z
      by_cases Y:I.status=Ü
      .rcases p.c _ I B Y with⟨q,_⟩|⟨a,_,_,q,⟨r,b,C⟩|⟨r,cap,s,r',b,C⟩⟩
       .omega
       .have:a=j:=Z
        subst this;have Yo:=H.C.I _<|p.C.d a r J<|À ⟨_,b⟩;have X6:1<=Ñ F.n λl=>(E.C l).gH F l (F.r<|a+r*F.n):=by
         have:=O5 (f:=λl=>(E.C l).gH F l<|F.r<|a+r*F.n) (j:=a) (n:=F.n) Z;simp only[b]at this;have h:gR.gH F a (F.r<|a+r*F.n) (.fD r .kH)=1:=by simp only[gR.gH,if_true];rfl
         grind
        by_cases K:F.r (a+r*F.n)<=E.S.od
        .have M:∀k v,E.S=.dn k v->E.N 0=Í:=λk v h=>by
          cases O:E.N 0 with
          |none=>rfl
          |some e=>have:=p.C.f (by rw[O];simp);rw[this]at h;cases h
         rcases p.C.Y _ Yo K with⟨W,q|q,_⟩|⟨r',s,q,_⟩|⟨_,⟨_,q⟩|⟨s,q1,q2⟩⟩
         .exact p.GU H Z<|M _ _ q
         .exact p.GU H Z<|M _ _ q
         .exact p.GU H Z<|M _ _ q
         .omega
         .rw[q1]at C;simp only[GS.sm]at C;omega
        .apply p.GU H Z;cases O:E.N 0 with
         |none=>rfl
         |some e=>
          have:=p.C.f (by rw[O];simp);rw[this]at K;simp only[jB.od]at K;omega
       .have:a=j:=Z
        subst this;let⟨e,k,l,_⟩:=p.M.jL a J;rw[C,u]at l;injection l with l;injection l with _ _ DG _ _ _;have:decide (a<(gf.fD .kH).ji F.n)=Ì:=decide_eq_true (by simp only[gf.ji];omega);rw[this]at DG;cases DG
      .refine⟨_,I,B,p.I.Y B (λl g h=> ?_) Y⟩;rw[(p.g j J z).1]at h;cases a:E.C j with
       |ny r=>rw[a]at h;exact h.1
       |fD r v=>rw[a]at h;exact PX h
       |jO r=>rw[a]at h;exact H.Y _ _ _ _ h
       |oQ r=>rw[a]at h;exact h.2.1
   |jI G=>
    let⟨_,_,x,d,_,b⟩:=p.C.g G o;rcases b with b|b
    .exact p.KC H d b λN q=>by cases q
    .exact p.KC H d b λN q=>by cases q
   |hD r s=>
    let⟨_,h2,V⟩:=p.C.u r s o;rw[o]at Q;simp only[GS.sm]at Q;let⟨x,d,_,b⟩:=V Z;exact p.KC H d b λN q=>by cases q
  .omega
 .refine⟨0,g,D,p.I.Y D (λl g h=> ?_) P⟩;rw[p.h.1]at h;exact aiw H h
def PI.KD(p:PI F i zX E S tr m lot gs w t):∀g∈gs,awake g:=by
 intro g e;obtain⟨a,f,rfl⟩:=Array.mem_iff_getElem.1 e;let⟨g0,_,c,d,_⟩:=p.I.C a _<|é f;intro τ b;generalize gs[a]=g at c b;generalize m a=K at c;cases c with
 |gw=>rw[b]at d;rcases d with q|q<;>cases q
 |nY _ _=>cases b
 |tW _ _ _=>cases b
 |nu _ _ _=>cases b
def aiy(H:gW F):∀(k:Nat) (μ:Mu) (E:fZ F) (S:Nat->Jd) (tr:Nat->gD) (m:Nat->iD) (lot:Nat->fh) (gs:Array Ä) (w:Ð) (sl:Option (Nat×Nat)) (t:ä),F.n+1-E.r=k->E.mu tr gs=μ->PI F i zX E S tr m lot gs w t->E.M≠ .gp-> ∃(N:Nat) (E':fZ F) (b:Nat->Jd) (o:Nat->gD) (c:Nat->iD) (d:Nat->fh) (gs':Array Ä) (w':Ð) (r:Option (Nat×Nat)) (a:ä),Χ F.P N (ð gs w sl) t=(ğ<|ð gs' w' r,a)/\PI F i zX E' b o c d gs' w' a/\E'.M=.gp/\Kz F zX a:=by
 intro k
 induction k using Ď with
 |_ k ihk=>
  intro μ
  induction (ag0 F.N).apply μ with
  |intro μ _ V=>
   intro E S tr m lot gs w sl t hk W p z;let⟨a,g,d,r,hi,iN,B⟩:=crowd_pick (P:=F.P) (w:=w) (sl:=sl) p.KD<|p.aix H;have p':=p.at H d;have kh:=p.b;rcases p'.aiu H (sl:=r) z hi iN with⟨c,e,f,h,j,s,v,u,x,X,l,b,y⟩|⟨c,e,f,h,j,l,b,y⟩|⟨c,e,f,h,j,s,v,u,x,X,l,b⟩|⟨c,e,f,h,j,s,v,u,x,X,l,b,y⟩
   .have Y:=b.b;let⟨N,C,D,G,I,J,K,L,M,O,Q,T⟩:=V _ (W▸y) c e f h j s v r (t++u) Z U b λq=>z<|l q;exact⟨N+1,C,D,G,I,J,K,L,M,O,by simp only[Χ,B,x];exact Q,T⟩
   .have Y:=b.b;have h6:=b.at H w.drawn;exact V _ (W▸y) c e f h j gs w sl t Z U h6 λq=>z<|l q
   .have Y:=b.b;have q:=Dy b.C;let⟨N,C,D,G,I,J,K,L,M,O,Q,T⟩:=ihk (F.n+1-c.r) Z _ c e f h j s v r (t++u) U U b l;exact⟨N+1,C,D,G,I,J,K,L,M,O,by simp only[Χ,B,x];exact Q,T⟩
   .exact⟨1,c,e,f,h,j,s,v,r,t++u,by simp only[Χ,B,x],l,b,y⟩
end
end Go.Proofs.Y.fB
namespace Go.Proofs.Y.fB
open Go Go.Conc Go.Proofs.Y.Lift Go.RowKit Go.Conc.Lib Go.ConcR.Gen
section
variable{J:Jd}{l:fh}
def KE(w:Ð)(b:∀j,l.O j->j<w.heap.size):mL l {l with w:=w} w w #[]:= ⟨Ç _,λ_ h=>À h,b,U,U,U,U,λ_ _ _ _=>rfl,λ_ _ _ _=>rfl,λ_ _ _=>rfl,U,U,U,λe a=>by simp at a,by simp[Ï],U,λ_=>⟨U,λe a=>by simp at a,U⟩,U⟩
def my(a:∀j,l.O j->j<l.w.heap.size){w₁:Ð}(r:fL l l.w w₁):∀j,l.O j->j<w₁.heap.size:=λj b=>Ê (a j b) r.r
def PZ{R:Ð->Ð->Prop}{m:Ä->Ð->Prop}:∀{n:Nat} {g:Ä} {l:fh},İ P yQ R à m n g l.w->(∀w c,fL l w c->R w c)->(∀j,l.O j->j<l.w.heap.size)->(∀c d,fL l l.w c->m d c->fq P yQ J {l with w:=c} d)->fq P yQ J l g:=by
 intro n
 induction n with
 |zero=>
  intro g l h j i e;exact(fq.fE λc r=>e c g r<|h c<|j _ _ r).fj
 |succ n p=>
  intro g l h j i e;rcases h with h|⟨s,h⟩
  .exact(fq.fE λc r=>e c g r<|h c<|j _ _ r).fj
  .refine .mk s λc r=> ?_;have f:=h c<|j _ _ r;cases o:è P yQ g c with
   |go d k y=>
    rw[o,ť]at f;let⟨⟨t,u⟩,v⟩:=f;subst t u;exact⟨d,k,#[],{l with w:=k},U,KE k<|my i r,p v (λa b q=>j a b<|zq q) (my i r) λa b q x=>e a b (r.fj<|zq q) x⟩
   |_=>rw[o]at f;exact f.elim
def aiz{m:Ο}(b:m=ô\/m=î)(w:Ð)(c:∀j,l.O j->j<w.heap.size):mL l {l with d:=Ï l.d #[jZ m],w:=w} w w #[jZ m]:=by
 refine⟨Ç _,λ_ h=>À h,c,U,U,U,U,λ_ _ _ _=>rfl,λ_ _ _ _=>rfl,λ_ _ _=>rfl,U,U,U,λe a=> ?_,U,U,λ_=>⟨U,λe a=> ?_,U⟩,U⟩
 .have:e=jZ m:=by simpa using a
  subst this;rcases b with rfl|rfl
  .exact Á<|Á<|Á<|À U
  .exact Á<|Á<|Á<|Á<|À U
 .have:e=jZ m:=by simpa using a
  subst this;rcases b with rfl|rfl<;>rfl
def fq.aiA{m:Ο}{b:Ä}(c:m=ô\/m=î)(e:g.status=Å)(f:∀j,l.O j->j<l.w.heap.size)(h:∀a,è P yQ g a=ş b a #[jZ m])(i:∀a,fL l l.w a->fq P yQ J {l with d:=Ï l.d #[jZ m],w:=a} b):fq P yQ J l g:= .mk e λa r=>⟨b,a,_,_,h a,aiz c a<|my f r,i a r⟩
def nF(b:Nat)(w:Ð):Prop:=(w.cell? ⟨b,0,Í⟩).isSome=Ì/\(w.cell? ⟨b,1,Í⟩).isSome=Ì
def nF.r(h:nF b w):∃v,w.cell? ⟨b,0,Í⟩=Ã v:=ü.1 h.1
def nF.C(h:nF b w):∃v,w.cell? ⟨b,1,Í⟩=Ã v:=ü.1 h.2
def RS(Ψ:Ð->Prop)(b:Nat)(w a:Ð):Prop:=w.heap.size<=a.heap.size/\(nF b w->nF b a)/\(Ψ w->Ψ a)
def SW(Ψ:Ð->Prop)(l:fh)(b:Nat)(w:Ð):Prop:=(∀j,l.O j->j<w.heap.size)/\nF b w/\Ψ w
def fN{Ψ:Ð->Prop}(h:SW Ψ l b w)(r:RS Ψ b w u):SW Ψ l b u:=⟨λj a=>Ê (h.1 j a) r.1,r.2.1 h.2.1,r.2.2 h.2.2⟩
def mA(Ψ:Ð->Prop)(l:fh)(b:Nat):Prop:=(l.K ⟨b,0,Í⟩\/l.M b)/\(l.K ⟨b,1,Í⟩\/l.M b)/\∀w c:Ð,w.heap.size<=c.heap.size->(∀j,l.M j->c.heap[j]?=w.heap[j]?)->(∀a,l.C a->c.cell? a=w.cell? a)->(∀a,l.C a->c.frozen? a=w.frozen? a)->(∀a,l.K a->(w.cell? a).isSome=Ì->(c.cell? a).isSome=Ì)->Ψ w->Ψ c
def mA.r{Ψ:Ð->Prop}(h:mA Ψ l b)(r:fL l w u):RS Ψ b w u:=⟨r.r,λq=>⟨h.1.elim (λk=>r.S _ k q.1) λm=>(by rw[gQ<|r.I b m];exact q.1),h.2.1.elim (λk=>r.S _ k q.2) λm=>(by rw[gQ<|r.I b m];exact q.2)⟩,h.2.2 w u r.r r.I r.N r.Y r.S⟩
def jM{Ψ:Ð->Prop}(a:mA Ψ l b)(hF:SW Ψ l b l.w)(c:İ P yQ (RS Ψ b) à (λd e=>fq P yQ J {l with w:=e} d) n g l.w):fq P yQ J l g:= PZ c (λ_ _ r=>a.r r) hF.1 λ_ _ _ h=>h
def nZ{Ψ:Ð->Prop}(c:mA Ψ l b)(hF:SW Ψ l b l.w)(h:∀a,SW Ψ l b a->J {l with w:=a} g):fq P yQ J l g:=.fE λa r=>h a<|fN hF<|c.r r
def vL{Ψ:Ð->Prop}(e:mA Ψ l b)(hF:SW Ψ l b l.w){m:Ο}{c:Ä}(f:m=ô\/m=î)(i:g.status=Å)(h:∀a,è P yQ g a=ş c a #[jZ m])(j:∀a,SW Ψ l b a->fq P yQ J {l with d:=Ï l.d #[jZ m],w:=a} c):fq P yQ J l g:= .aiA f i hF.1 h λa r=>j a<|fN hF<|e.r r
end
section
variable{b:ø}{i:List Ů}
def KF(m:Ο)(c:∀g,m≠.extern g)(d:y.defers=dcall F #[]::i)(e:P.funcs[F]?=Ã s)(f:(s.name== "runtime.NumGoroutine")=É)(j:s.body.isNone=Ì)(k:Extern.findNext s=Í) (l:Extern.find s=Ã λ_=>do mark m;pure Extern.Race.none_) (w:Ð):è P yQ (G {b.at y L with mode:=ù} qX) w=ş (G {b.at ⟨y.tmps,i⟩ L with mode:=ù} qX) w #[jZ m]:= stepG_unwind_entry (v:=ı #[]) d e f j k l (by simp[Extern.Race.none_,jZ]) (by simp[jZ])<|by intro x a;simp[jZ]at a;subst a;exact⟨U,λg h=>c g<|Loc.mark.inj h⟩
end
theorem YS(s:Nat)(h:s%4294967296<2147483648):s&&&2147483648=0:=by
 have e:(2147483648:Nat)=(2^32-1)&&&2147483648:=A
 have a:(2:Nat)^32=4294967296:=A
 rw[e,<-Nat.and_assoc,Ą,a];have c:s%4294967296=(s%4294967296)&&&(2^31-1):=by rw[Ą];have b:(2:Nat)^31=2147483648:=A;rw[b];omega
 grind
theorem D2(s:Int)(a:0<=s)(b:s<1000000*4294967296)(h:s%4294967296<1000000):bits .and Ó s 2147483648=0:=by obtain⟨n,rfl⟩:=Int.eq_ofNat_of_zero_le a;have h:=(bits_nat Ó 63 A ö n 2147483648 Z A).1;grind [YS]
theorem D3(s:Int)(a:0<=s)(b:s<1000000*4294967296)(h:s%4294967296<1000000):bits .and Ó s 2147483647=s%4294967296:=by have h:=bits_mask Ó 63 A ö 31 A s a Z;grind
def KG(L:ě):Array Ĭ:=#[{dst:=Ã 113,op:=Ŧ<|ß 0,type:=L.tWgP,pos:= "waitgroup.go:142",after:=#[],guard:=Í},{dst:=Ã 114,op:=Op.nilCheck<|ß 113,type:=0,pos:= "waitgroup.go:142",after:=#[{on:=0,ground:=ý}],guard:=Í},{dst:=Ã 115,op:=Op.fieldAddr L.tWg (ß 114) 2,type:=0,pos:= "waitgroup.go:142",after:=#[{on:=1,ground:=ý}],guard:=Í},{dst:=Ã 116,op:=Ŭ {callee:=Callee.value<|ŧ L.semrelease,args:=#[ß 115,ċ<|Value.bool É,ċ<|ë Ũ 0],argTypes:=#[L.tPU32,4,3]},type:=0,pos:= "waitgroup.go:142",after:=#[{on:=2,ground:=ý}],guard:=Í}]
def KH(L:ě):Array Ĭ:=#[{dst:=Ã 111,op:=Ŧ<|ß 8,type:=L.tU32,pos:= "waitgroup.go:141",after:=#[],guard:=Í},{dst:=Ã 112,op:=Ω BinOp.sub L.tU32 (ß 111) (ċ<|ë ç 1) L.tU32,type:=L.tU32,pos:= "waitgroup.go:141",after:=#[{on:=0,ground:=ý}],guard:=Í},{dst:=Ã 8,op:=Op.assign<|ß 112,type:=L.tU32,pos:= "waitgroup.go:141",after:=#[{on:=1,ground:=ý},{on:=0,ground:=ũ},{on:=1,ground:=ũ}],guard:=Í}]
def KI(L:ě)(b:Nat)(t:Array ã)(a:List ø):Ä:=G ((base L.add).at ⟨t,[dcall L.enable #[]]⟩ [Æ (KG L) [3],ŏ 2,ĵ<|Ģ 33 (KH L) É,Ρ<|((Ģ 32 #[{dst:=Ã 109,op:=Ŧ<|ß 8,type:=L.tU32,pos:= "waitgroup.go:141",after:=#[],guard:=Í},{dst:=Ã 110,op:=Ω BinOp.neq L.tU32 (ß 109) (ċ<|ë ç 0) L.tU32,type:=4,pos:= "waitgroup.go:141",after:=#[{on:=0,ground:=ý}],guard:=Í}] É).seq<|Τ (ß 110) ο<|Code.exit 1).seq<|(ε 2<|Ģ 34 (KG L) É).seq<|Ģ 33 (KH L) É,ŏ 1])<|(base L.done).at {tmps:=#[ì<|Ã {block:=b,off:=0},Â,ì<|Ã {block:=b,off:=0},Â],defers:=[]} [Æ #[{dst:=Ã 2,op:=Ŧ<|ß 0,type:=L.tWgP,pos:= "waitgroup.go:156",after:=#[],guard:=Í},{dst:=Ã 3,op:=Ŭ {callee:=Callee.value<|ŧ L.add,args:=#[ß 2,ċ<|ë Ũ<|-1],argTypes:=#[L.tWgP,3]},type:=0,pos:= "waitgroup.go:156",after:=#[{on:=0,ground:=ý}],guard:=Í}] [1]]::a
section
variable{Ψ:Ð->Prop}{L:ě}{l:fh}{e:Jd}{k:List Ţ}
def aiB(H:Ŕ P L)(h:mA Ψ l b)(s:∀a,SW Ψ l b a->fq P É e {l with d:=0,w:=a} (G (f.at (y.put ((Q[i]?).bind (·.dst))<|ı #[])<|Æ Q jJ::k) qX)): ∀(r:Nat) (c:Int) (t u v x z B C D E F I J K M N O S T V W X Y rM sY rN pD oy qe qf qg uu sZ s5 rO rQ uw uy uz uA uB uC uD uE uF qh qi xv P0 P1 P3 P4 P5 P7 P8 P9 Qa Qb Qc Qd Qe Qf Qg Qh Qi Qj Qk Ql Qm Qo Qp Qq Qr Qs Qt Qu Qv Qw Qx Qy Qz QA QB QC QD QF QG QH QI QJ QK QL QM QO QP QR QS QU QV QW QX QY QZ Q0 Q5 Q6 Q7 Q8 Q9 Ra Rb Rc Re Rf Rh:ã) (a:Ð),SW Ψ l b a->(c<=(r:Int)+1/\(r:Int)+1<=c)->r+1<1000000-> fq P É (Gf P É b (fq P É e)<|r+1) {l with d:=1,w:=a} (KI L b #[ì<|Ã ⟨b,0,Í⟩,t,u,v,x,z,B,C,ë ç c,D,E,F,I,J,K,M,N,O,S,T,V,W,X,Y,rM,sY,rN,pD,oy,qe,qf,qg,uu,sZ,s5,rO,rQ,uw,uy,uz,uA,uB,uC,uD,uE,uF,qh,qi,xv,P0,P1,P3,P4,P5,P7,P8,P9,Qa,Qb,Qc,Qd,Qe,Qf,Qg,Qh,Qi,Qj,Qk,Ql,Qm,Qo,Qp,Qq,Qr,Qs,Qt,Qu,Qv,Qw,Qx,Qy,Qz,QA,QB,QC,QD,QF,QG,QH,QI,QJ,QK,QL,QM,QO,QP,QR,QS,QU,QV,QW,QX,QY,QZ,Q0,Q5,Q6,Q7,Q8,Q9,Ra,Rb,Rc,Re,Rf,ì<|Ã ⟨b,1,Í⟩,Rh]<|f.at y (Æ Q (i::jJ)::k)::qX):=by
 intro r;unfold KI KG KH;lib_facts
 induction r with
 |zero=>
  intro c;intros;rename_i a hF p q;have e1:c=1:=Z
  subst e1;clear p q;refine nZ (l:={l with d:=1,w:=a}) h hF λj hF=>⟨U,U,Ĝ U U H.f_semrelease<|æ L,_,U,λa n m o=>(ą U U (by k_ne) U H.f_semrelease (Ĕ L) (æ L) (ĕ L) (Ė L) (by simp[þ,gT]) m o).trans gh,?_⟩;walk_nrm;apply jM (l:={l with d:=1,w:=j}) h hF (n:=50);iterate 17 w_go fN
  refine Î λa g=> ?_;replace hF:=fN hF g;clear g;refine vL (l:={l with d:=1,w:=a}) h hF (Á U) U (λw=>KF î ft U H.f_enable (Ĥ L) (ĥ L) (Ħ L) (ħ L) w) λD4 hF=> ?_;have pC:Ï 1 #[jZ î]=0:=rfl;rw[pC];apply jM (l:={l with d:=0,w:=D4}) h hF (n:=10);u_leave0 H.f_add fN hF;iterate 2 w_go fN
  u_leave0 H.f_done fN hF
  refine Î λa g=> ?_;replace hF:=fN hF g;clear g;exact s _ hF
 |succ r ih=>
  intro c;intros;rename_i a hF p q;have g1:(c-1)%4294967296=c-1:=Z
  have g2:(c-1 !=0)=Ì:=by simp;omega
  refine nZ (l:={l with d:=1,w:=a}) h hF λj hF=>⟨U,U,Ĝ U U H.f_semrelease<|æ L,_,U,λa n m o=>(ą U U (by k_ne) U H.f_semrelease (Ĕ L) (æ L) (ĕ L) (Ė L) (by simp[þ,gT]) m o).trans gh,?_⟩;walk_nrm;apply jM (l:={l with d:=1,w:=j}) h hF (n:=50);iterate 22 w_go fN
  refine Î λa g=> ?_;replace hF:=fN hF g;clear g;apply ih (c-1)<;>first|exact hF|omega
end
section
variable{b:ø}{a:ō}{k:List Ţ}{cs:List ø}{d:Nat}
def rR(P:Ğ)(d:Nat)(g:Ä):Prop:=∃N,Ź P N d g
def D5(P:Ğ):Jd:=λl g=>rR P l.d g
def KJ{a:Ä}(b:g.status=Å)(h:∀w,è P É g w=ş a w)(c:rR P d a):rR P d g:=let⟨n,q⟩:=c;⟨n+1,.ctl b h q⟩
def auZ(f:Q[i]?=Ã o)(g:á o (Ĩ Q a.tmps)=Ì)(j:b.kind≠Đ) (h:∀(w:Ð) (K:ō->Ð->Prop),K y w->uponK o a K ((Þ a.eval o).run P w)) (n:∀w,(Þ a.eval o).events P w #[]=#[]) (p:rR P d (G (b.at y<|Æ Q jJ::k) cs)):rR P d (G (b.at a<|Æ Q (i::jJ)::k) cs):=by
 refine KJ U (λw=> ?_) p;have e:=h w (λx c=>x=y/\c=w) ⟨U,U⟩;have l:listed P b.fn a o w=#[]:=by unfold listed;rw[n w,Ć]
 revert e;generalize m:(Þ a.eval o).run P w=r;intro e;match r,e with
 |.ok (.value v) w',⟨c,x⟩=>subst x;rw[Ń f g j m,l,c]
 |.ok .skip w',⟨c,x⟩=>subst x;rw[Ŗ f g j m,l,c]
def Ri:∀{n m d:Nat} {g:Ä},n<=m->Ź P n d g->Ź P m d g
 |0,0,_,_,_,h=>h
 |0,_+1,_,_,_,h=>À h
 |_+1,0,_,_,e,_=>absurd e Z
 |_+1,_+1,_,_,e,h=>h.imp id λ⟨a,b,c,f,i,j⟩=>⟨a,b,c,f,i,Ri (Nat.le_of_succ_le_succ e) j⟩
def GV{n:Nat}{ops:Array Oper}{i:Nat}{rest:List Nat}{o:Oper}{a':Act}(hq:QuitsD P n d (G (b.at a'<|.inRegion ops rest::k) cs))(ho:ops[i]?=some o:=by rfl)(hw:Region.wanted o (yielded ops a.tmps)=true:=by rfl)(hk:b.kind≠.early:=by k_ne) (h:∀(w:World) (K:Act->World->Prop),K a' w->uponK o a K ((execOp a.eval o).run P w):=by intro w K hK;go_simp;(try w_num);exact hK) (he:∀w,(execOp a.eval o).events P w #[]=#[]:=by intro _;simp[go_sem, *]): QuitsD P (n+1) d (G (b.at a<|.inRegion ops (i::rest)::k) cs):=by
 refine QuitsD.ctl U (λw=> ?_) hq;have h1:=h w (λx y=>x=a'/\y=w) ⟨U,U⟩;have h2:listed P b.fn a o w=#[]:=by unfold listed;rw[he w,Ć]
 revert h1;generalize hr:(Þ a.eval o).run P w=r;intro h1;match r,h1 with
 |.ok (.value v) w',⟨e1,e2⟩=>subst e2;rw[Ń ho hw hk hr,h2,e1]
 |.ok .skip w',⟨e1,e2⟩=>subst e2;rw[Ŗ ho hw hk hr,h2,e1]
end
section
variable{Ψ:Ð->Prop}{L:ě}{b:Nat}{l:fh}{a:ō}{ops:Array Ĭ}{rest:List Nat}{k:List Ţ}{cs:List ø}
def aiC(H:Ŕ P L)(g:mA Ψ l b)(h:rR P 0 (G (f.at (a.put ((ops[i]?).bind (·.dst))<|ı #[])<|Æ ops rest::k) cs)): ∀(r:Nat) (c:Int) (t u v x y z B C D E F I J K M N O Q S T V W X Y rN pD oy qe qf qg uu sZ s5 rO rQ uw uy uz uA uB uC uD uE uF qh qi xv P0 P1 P3 P4 P5 P7 P8 P9 Qa Qb Qc Qd Qe Qf Qg Qh Qi Qj Qk Ql Qm Qo Qp Qq Qr Qs Qt Qu Qv Qw Qx Qy Qz QA QB QC QD QF QG QH QI QJ QK QL QM QO QP QR QS QU QV QW QX QY QZ Q0 Q5 Q6 Q7 Q8 Q9 Ra Rb Rc Re Rf Rh:ã) (e:Ð),SW Ψ l b e->(c<=(r:Int)+1/\(r:Int)+1<=c)->r+1<1000000-> fq P É (Gf P É b (D5 P)<|r+1) {l with d:=1,w:=e} (KI L b #[ì<|Ã ⟨b,0,Í⟩,t,u,v,x,y,z,B,ë ç c,C,D,E,F,I,J,K,M,N,O,Q,S,T,V,W,X,Y,rN,pD,oy,qe,qf,qg,uu,sZ,s5,rO,rQ,uw,uy,uz,uA,uB,uC,uD,uE,uF,qh,qi,xv,P0,P1,P3,P4,P5,P7,P8,P9,Qa,Qb,Qc,Qd,Qe,Qf,Qg,Qh,Qi,Qj,Qk,Ql,Qm,Qo,Qp,Qq,Qr,Qs,Qt,Qu,Qv,Qw,Qx,Qy,Qz,QA,QB,QC,QD,QF,QG,QH,QI,QJ,QK,QL,QM,QO,QP,QR,QS,QU,QV,QW,QX,QY,QZ,Q0,Q5,Q6,Q7,Q8,Q9,Ra,Rb,Rc,Re,Rf,ì<|Ã ⟨b,1,Í⟩,Rh]<|f.at a (Æ ops (i::rest)::k)::cs):=by
 intro r;unfold KI KG KH;lib_facts
 induction r with
 |zero=>
  intro c;intros;rename_i e hF o p;have e1:c=1:=Z
  subst e1;clear o p;refine nZ (l:={l with d:=1,w:=e}) g hF λq hF=>⟨U,U,Ĝ U U H.f_semrelease<|æ L,_,U,λe n j m=>(ą U U (by k_ne) U H.f_semrelease (Ĕ L) (æ L) (ĕ L) (Ė L) (by simp[þ,gT]) j m).trans gh,?_⟩;walk_nrm;show rR P 1 _;let⟨n,h⟩:=h;refine⟨n+150,?_⟩;repeat(first|refine GV ?_|q_go)
  q_en H L
  q_leave0 H.f_add
  repeat(first|refine GV ?_|q_go)
  q_leave0 H.f_done
  exact Ri Z h
 |succ r ih=>
  intro c;intros;rename_i e hF o p;have g1:(c-1)%4294967296=c-1:=Z
  have g2:(c-1 !=0)=Ì:=by simp;omega
  refine nZ (l:={l with d:=1,w:=e}) g hF λq hF=>⟨U,U,Ĝ U U H.f_semrelease<|æ L,_,U,λe n j m=>(ą U U (by k_ne) U H.f_semrelease (Ĕ L) (æ L) (ĕ L) (Ė L) (by simp[þ,gT]) j m).trans gh,?_⟩;walk_nrm;apply jM (l:={l with d:=1,w:=q}) g hF (n:=50);iterate 22 w_go fN
  refine Î λe s=> ?_;replace hF:=fN hF s;clear s;apply ih (c-1)<;>first|exact hF|omega
end
section
variable{Ψ:Ð->Prop}{L:ě}{l:fh}{k:List Ţ}
def aiD(H:Ŕ P L)(J:l.K ⟨b,0,Í⟩/\l.K ⟨b,1,Í⟩)(z:mA Ψ l b)(hF:SW Ψ l b l.w)(B:l.d=0)(q:rR P 0 (G (f.at (y.put ((Q[i]?).bind (·.dst))<|ı #[])<|Æ Q jJ::k) qX)): fq P É (λl g=>yY P É b (D5 P) (kI l) g) l (G ((base L.done).at ⟨#[ì<|Ã ⟨b,0,Í⟩,Â,Â,Â],[]⟩ [ĵ<|body_done L])<|f.at y (Æ Q (i::jJ)::k)::qX):=by
 lib_facts;simp only[body_done,doneFn,ć];apply jM z hF (n:=40);iterate 2 w_go fN
 u_call H.f_add (nm_add L) addFn fN hF
 iterate 11 w_go fN
 u_conv H.underlying_tWgP H.room_tWg (nF.r hF.2.1).choose_spec fN hF
 refine Î λa g=> ?_;replace hF:=fN hF g;clear g;refine nZ (l:={l with w:=a}) z hF λc hF=>⟨B,U,_,λ_=>Ē Į ft U U (by k_ne) U H.f_relMerge (x_relMerge_n L) (x_relMerge_b L) (x_relMerge_x L) (x_relMerge_f L) (by simp[þ,fS]),?_⟩;walk_nrm;have e:mA (λ_=>True) (kI {l with w:=c}) b:=⟨À J.1,À J.2,λ_ _ _ _ _ _ _ _=>trivial⟩;have C:SW (λ_=>True) (kI {l with w:=c}) b (kI {l with w:=c}).w:=⟨λj h=>h.elim,hF.2.1,trivial⟩;have M:(kI {l with w:=c}).d=0:=B;generalize kI {l with w:=c}=l2 at e C M|-;replace hF:=C;clear C z B;apply jM e hF (n:=10);iterate 3 w_go fN
 refine Î λa g=> ?_;replace hF:=fN hF g;clear g;refine vL (l:={l2 with w:=a}) e hF (À U) U (λ_=>Ę ô ft U U (by k_ne) U H.f_disable (ń L) (Ņ L) (ņ L)<|Ň L) λT hF=> ?_;walk_nrm;have V:Ï l2.d #[jZ ô]=1:=by rw[M];rfl
 rw[V];apply jM (l:={l2 with d:=1,w:=T}) e hF (n:=50);iterate 2 w_go fN
 u_defer fN hF
 iterate 8 w_go fN
 u_bub fN hF
 iterate 11 w_go fN
 u_call H.f_uAdd (nm_uAdd L) uAddFn fN hF
 iterate 10 w_go fN
 refine Î λa g=> ?_;replace hF:=fN hF g;clear g;refine nZ (l:={l2 with d:=1,w:=a}) e hF λc hF=>⟨U,U,λv=>⟨_,λa p D=>(Ľ U U (by k_ne) U H.f_addU64 (Ž L) (ž L) (ſ L) Ó (Α L) U U p D).trans gh,?_⟩⟩;walk_nrm;have N:Ó.wrap (v+18446744069414584320)=Ó.wrap (v+qL):=rfl;rw[N];clear N;obtain⟨s,E⟩:∃s,Ó.wrap (v+qL)=s:=⟨_,U⟩;simp only[E];have F:0<=s:=by rw[<-E];have:Ó.wrap (v+qL)=(v+qL)%18446744073709551616:=rfl;rw[this];omega
 clear E v;by_cases o:s=0\/(gk<=s/\s<1000000*gk/\s%gk<1000000)
 .rw[if_pos o];by_cases m:s=0;focus
   subst m;clear o F
  rotate_left;focus
   have W:=o.resolve_left m;clear o m F;let⟨X,Y,c6⟩:=W;have q4:(4294967296:Int)<=s:=X;have I:s<1000000*4294967296:=Y;have O:s%4294967296<1000000:=c6;have f1:=D2 s Z I O;have t:=D3 s Z I O;obtain⟨x,g1⟩:∃x,(s/4294967296+2147483648)%4294967296-2147483648=x:=⟨_,U⟩;have g2:¬x<0:=Z
   have g3:0<x:=Z
   by_cases u:s%4294967296=0;focus rw[u]at t
   rotate_left;focus
    obtain⟨r,g4⟩:∃r,s%4294967296=r:=⟨_,U⟩;rw[g4]at t u;have S:r%4294967296=r:=Z
    have g6:(r !=0)=Ì:=by simpa using u
  all_goals
   show rR P 1 _;let⟨n,q⟩:=q;refine⟨n+150,?_⟩;repeat(first|refine GV ?_|q_go)
   q_leave1 H.f_uAdd
   repeat(first|refine GV ?_|q_go)
   q_en H L
   q_leave0 H.f_add
   repeat(first|refine GV ?_|q_go)
   q_leave0 H.f_done
   exact Ri Z q
 .rw[if_neg o];by_cases m:0<s/\s<1000000
  .rw[if_pos m];let⟨q4,I⟩:=m;clear o F;have f1:=D2 s Z Z Z;have t:=D3 s Z Z Z;have g1:(s/4294967296+2147483648)%4294967296-2147483648=0:=Z
   have S:s%4294967296=s:=Z
   rw[S]at t;have g6:(s !=0)=Ì:=by simp;omega
   have X:(s==0)=É:=by simp;omega
   have O:(s.toNat:Int)=s:=Z
   apply jM (l:={l2 with d:=1,w:=c}) e hF (n:=150);iterate 3 w_go fN
   u_leave1 H.f_uAdd fN hF
   iterate 89 w_go fN
   u_call H.f_uLoad (ů L) Ξ fN hF
   iterate 9 w_go fN
   refine Î λa g=> ?_;replace hF:=fN hF g;clear g;refine nZ (l:={l2 with d:=1,w:=a}) e hF λc hF=>⟨U,U,λv=>⟨_,λa p=>ę U U (by k_ne) U H.f_loadU64 (ň L) (ŉ L) (Ŋ L) Ó (ŋ L) U p,?_⟩⟩;show fq P É (if v=(s.toNat:Int)then J8 P É b (D5 P) s.toNat else λ_ _=>True) _ _;by_cases u:v=(s.toNat:Int)
   .rw[if_pos u];rw[O]at u;subst u;walk_nrm;have Y:(v !=v)=É:=ft
    apply jM (l:={l2 with d:=1,w:=c}) e hF (n:=150);iterate 3 w_go fN
    u_leave1 H.f_uLoad fN hF
    iterate 10 w_go fN
    u_call H.f_uStore (nm_uStore L) uStoreFn fN hF
    iterate 5 w_go fN
    refine Î λa g=> ?_;replace hF:=fN hF g;clear g;refine nZ (l:={l2 with d:=1,w:=a}) e hF λc hF=>⟨U,U,_,λa x p D=>stepG_store_atomic U U (by k_ne) U H.f_storeU64 (x_storeU64_n L) (x_storeU64_b L) (x_storeU64_x L) (x_storeU64_f L) U U p D,?_⟩;walk_nrm;obtain⟨r,W⟩:∃r,v.toNat=r+1:=⟨v.toNat-1,Z⟩;rw[W];apply jM (l:={l2 with d:=1,w:=c}) e hF (n:=150);iterate 2 w_go fN
    u_leave0 H.f_uStore fN hF
    iterate 24 w_go fN
    refine Î λa g=> ?_;replace hF:=fN hF g;clear g;apply aiC H e q r v<;>first|exact hF|omega
   .rw[if_neg u];exact .fE λ_ _=>trivial
  .rw[if_neg m];trivial
end
def RT(_ _:Ð):Prop:=True
def fF{w₁:Ð}(_:True)(_:RT w w₁):True:=trivial
def aiE(s:Int)(a:0<=s)(b:s<9223372036854775808)(h:s%4294967296<1000000):bits .and Ó s 2147483648=0:=by obtain⟨n,rfl⟩:=Int.eq_ofNat_of_zero_le a;have h:=(bits_nat Ó 63 A ö n 2147483648 Z A).1;rw[YS n Z]at h;simpa using h
def aiF(s:Int)(a:0<=s)(c:s<9223372036854775808)(h:s%4294967296<1000000):bits .and Ó s 2147483647=s%4294967296:=by
 have h:=bits_mask Ó 63 A ö 31 A s a Z;have e:((2:Int)^31-1)=2147483647:=A
 have b:((2:Int)^31)=2147483648:=A
 rw[e,b]at h;rw[h];omega
section
variable(P:Ğ)(L:ě)(f:Bool)(b:Nat)(j:Jd)(c:ø)(m:List ø)(l:fh)
def YT(g:Ä):Prop:=∃T:Array ã,g=G ((base L.wait).at ⟨T,[]⟩ [ĵ<|L7 L,Ρ<|L7 L,ŏ 0]) (c::m)/\T.size=84/\T[0]?=Ã (ì<|Ã ⟨b,0,Í⟩)
def YU(v:Int)(g:Ä):Prop:=g.status=Å/\
 (∃a,(∀w:Ð,w.cell? (fS b)=Ã (ë Ó v)->w.frozen? (fS b)=É->è P f g w=ş a (w.setCell (fS b)<|ë Ó<|Ó.wrap<|v+1) #[kG<|fS b,mY<|fS b])/\fq P f (if v%gk=0 then OW P f b j else Ka P f b j) l a)/\
 ∃a,(∀(w:Ð) (x:Int),x≠v->w.cell? (fS b)=Ã (ë Ó x)->w.frozen? (fS b)=É->è P f g w=ş a w #[kG<|fS b])/\∀w,İ P f RT à (λg _=>YT L b c m g) 10 a w
def Rj(g:Ä):Prop:=g.status=Å/\∀v,∃a,(∀w:Ð,w.cell? (fS b)=Ã (ë Ó v)->è P f g w=ş a w #[kG<|fS b])/\(0<=v/\v<1000000->fq P f (Gi P f b j) l a)/\
 ((gk<=v/\v<gk*2147483648/\v%gk<1000000)->∀w,İ P f RT à (λg _=>YU P L f b j c m l v g) 60 a w)
end
section
variable{Ψ:Ð->Prop}{P:Ğ}{L:ě}{f:Bool}{b:Nat}{l:fh}{j:Jd}{c:ø}{a:ō}{k:List Ţ}{m:List ø}
def YV(H:Ŕ P L)(p:mA Ψ l b)(J:SW Ψ l b l.w)(u:l.d=1)(z:∀o,SW Ψ l b o->fq P f j {l with d:=0,w:=o} (G (c.at (a.put ((Q[i]?).bind (·.dst))<|ı #[])<|Æ Q jJ::k) m)) (h:YT L b (c.at a<|Æ Q (i::jJ)::k) m g) (w:Ð):İ P f RT à (λg _=>Rj P L f b j (c.at a<|Æ Q (i::jJ)::k) m l g) 30 g w:=by
 lib_facts;obtain⟨T,rfl,V,K⟩:=h;obtain⟨v0,v1,v2,v3,v4,v5,v6,v7,v8,v9,v10,v11,v12,v13,v14,v15,v16,v17,v18,v19,v20,v21,v22,v23,v24,v25,v26,v27,v28,v29,v30,v31,v32,v33,v34,v35,v36,v37,v38,v39,v40,v41,v42,v43,v44,v45,v46,v47,v48,v49,v50,v51,v52,v53,v54,v55,v56,v57,v58,v59,v60,v61,v62,v63,v64,v65,v66,v67,v68,v69,v70,v71,v72,v73,v74,v75,v76,v77,v78,v79,v80,v81,v82,v83,rfl⟩:=array84 T V;simp only[List.getElem?_toArray,List.getElem?_cons_zero,Ķ]at K;subst K;have hF:True:=trivial;simp only[L7,ţ,waitFn,ć];iterate 6 w_go fF
 u_call H.f_uLoad (ů L) Ξ fF hF
 iterate 9 w_go fF
 refine Î λo e=> ?_;clear e hF o;refine⟨U,λv=>⟨_,λo q=>ę U U (by k_ne) U H.f_loadU64 (ň L) (ŉ L) (Ŋ L) Ó (ŋ L) U q,λB=> ?_,λB w=> ?_⟩⟩
 .walk_nrm;let⟨t,x⟩:=B;have W:=D2 v Z Z Z;have C:=D3 v Z Z Z;have X:(v/4294967296+2147483648)%4294967296-2147483648=0:=Z
  have M:v%4294967296=v:=Z
  rw[M]at C;have hF:=J;apply jM (l:=l) p hF (n:=150);iterate 3 w_go fN
  u_leave1 H.f_uLoad fN hF
  iterate 27 w_go fN
  refine Î λo e=> ?_;replace hF:=fN hF e;clear e;refine vL (l:={l with w:=o}) p hF (Á U) U (λ_=>Ę î ft U U (by k_ne) U H.f_enable (Ĥ L) (ĥ L) (Ħ L)<|ħ L) λD hF=> ?_;have E:Ï l.d #[jZ î]=0:=by rw[u];rfl
  rw[E];walk_nrm;apply jM (l:={l with d:=0,w:=D}) p hF (n:=50);iterate 3 w_go fN
  u_conv H.underlying_tWgP H.room_tWg (nF.r hF.2.1).choose_spec fN hF
  refine Î λo e=> ?_;replace hF:=fN hF e;clear e;refine nZ (l:={l with d:=0,w:=o}) p hF λr hF=>⟨U,U,_,λ_=>Ē ő ft U U (by k_ne) U H.f_acquire (Ű L) (ű L) (Ų L) (ų L) (by simp[þ,fS]),?_⟩;walk_nrm;by_cases s:v=0
  .subst s;apply jM (l:={l with d:=0,w:=r}) p hF (n:=50);iterate 19 w_go fN
   u_leave0 H.f_wait fN hF
   refine Î λo e=> ?_;replace hF:=fN hF e;clear e;exact z _ hF
  .have S:(v==0)=É:=by simp;omega
   apply jM (l:={l with d:=0,w:=r}) p hF (n:=50);iterate 19 w_go fN
   u_leave0 H.f_wait fN hF
   refine Î λo e=> ?_;replace hF:=fN hF e;clear e;exact z _ hF
 .walk_nrm;let⟨N,O,Y⟩:=B;have q4:(4294967296:Int)<=v:=N;have q5:v<4294967296*2147483648:=O;have F:v%4294967296<1000000:=Y;clear N O;have C:=aiF v Z Z F;obtain⟨I,X⟩:∃I,(v/4294967296+2147483648)%4294967296-2147483648=I:=⟨_,U⟩;have g2:(I==0)=É:=by simp;omega
  have g3:(v+1)%18446744073709551616=v+1:=Z
  have xw:Ó.wrap (v+1)=v+1:=J7 Z Z;obtain⟨t,g4⟩:∃t,v%4294967296=t:=⟨_,U⟩;have W:=aiE v Z Z F;rw[g4]at C F;have M:t%4294967296=t:=Z
  have hF:True:=trivial;iterate 3 w_go fF
  u_leave1 H.f_uLoad fF hF
  iterate 32 w_go fF
  u_call H.f_uCas (nm_uCas L) uCasFn fF hF
  iterate 11 w_go fF
  refine Î λo e=> ?_;clear e hF o;refine⟨U,⟨_,λo q y=>(stepG_cas_hit (v:=v) (n:=v+1) U U (by k_ne) U H.f_casU64 (Β L) (Γ L) (Δ L) Ó (Ε L) U U U q y).trans (by rw[xw];rfl),?_⟩,_,λo x lM q y=>stepG_cas_miss (v:=x) (old:=v) (n:=v+1) U U (by k_ne) U H.f_casU64 (Β L) (Γ L) (Δ L) Ó (Ε L) U U U q y lM,λw=> ?_⟩
  .walk_nrm;have hF:=J;by_cases s:v%gk=0;focus
    rw[if_pos s];have s:v%4294967296=0:=s;have:t=0:=Z
    subst this;apply jM (l:=l) p hF (n:=150);iterate 3 w_go fN
    u_leave1 H.f_uCas fN hF
    iterate 15 w_go fN
    u_conv H.underlying_tPU32 H.room_tU32 (nF.C hF.2.1).choose_spec fN hF
    refine Î λo e=> ?_;replace hF:=fN hF e;clear e;refine nZ (l:={l with w:=o}) p hF λr hF=>⟨u,U,_,λ_=>Ē Υ ft U U (by k_ne) U H.f_raceWrite (x_raceWrite_n L) (x_raceWrite_b L) (x_raceWrite_x L) (x_raceWrite_f L) (by simp[þ,gT]),?_⟩;walk_nrm;apply jM (l:={l with w:=r}) p hF (n:=150);iterate 23 w_go fN
   rotate_left;focus
    rw[if_neg s];have s:¬v%4294967296=0:=s;have S:(t==0)=É:=by simp;omega
    apply jM (l:=l) p hF (n:=150);iterate 3 w_go fN
    u_leave1 H.f_uCas fN hF
    iterate 34 w_go fN
   all_goals
    refine Î λo e=> ?_;replace hF:=fN hF e;clear e;refine nZ (l:={l with w:=o}) p hF λr hF=>⟨u,U,U,λo q=>stepG_semacquire_wait U U U H.f_semacquire (ŗ L) (Ř L) (ř L) (Ś L) (by simp[þ,gT]) q,_,λo n hn q y=>(stepG_semacquire (n:=n) U U (by k_ne) U H.f_semacquire (ŗ L) (Ř L) (ř L) (Ś L) (by simp[þ,gT]) q hn y).trans gh,?_⟩;walk_nrm;apply jM (l:={l with w:=r}) p hF (n:=50);iterate 6 w_go fN
    u_call H.f_uLoad (ů L) Ξ fN hF
    iterate 9 w_go fN
    refine Î λo e=> ?_;replace hF:=fN hF e;clear e;refine nZ (l:={l with w:=o}) p hF λr hF=>⟨u,U,λx=>⟨_,λo q=>ę U U (by k_ne) U H.f_loadU64 (ň L) (ŉ L) (Ŋ L) Ó (ŋ L) U q,?_⟩⟩;show fq P f (if x=0 then Gi P f b j else λ_ _=>True) _ _;by_cases S:x=0
    .subst S;rw[if_pos U];walk_nrm;apply jM (l:={l with w:=r}) p hF (n:=50);iterate 3 w_go fN
     u_leave1 H.f_uLoad fN hF
     iterate 7 w_go fN
     refine Î λo e=> ?_;replace hF:=fN hF e;clear e;refine vL (l:={l with w:=o}) p hF (Á U) U (λ_=>Ę î ft U U (by k_ne) U H.f_enable (Ĥ L) (ĥ L) (Ħ L)<|ħ L) λD hF=> ?_;have E:Ï l.d #[jZ î]=0:=by rw[u];rfl
     rw[E];walk_nrm;apply jM (l:={l with d:=0,w:=D}) p hF (n:=50);iterate 3 w_go fN
     u_conv H.underlying_tWgP H.room_tWg (nF.r hF.2.1).choose_spec fN hF
     refine Î λo e=> ?_;replace hF:=fN hF e;clear e;refine nZ (l:={l with d:=0,w:=o}) p hF λr hF=>⟨U,U,_,λ_=>Ē ő ft U U (by k_ne) U H.f_acquire (Ű L) (ű L) (Ų L) (ų L) (by simp[þ,fS]),?_⟩;walk_nrm;apply jM (l:={l with d:=0,w:=r}) p hF (n:=50);iterate 9 w_go fN
     u_leave0 H.f_wait fN hF
     refine Î λo e=> ?_;replace hF:=fN hF e;clear e;exact z _ hF
    .rw[if_neg S];exact .fE λ_ _=>trivial
  .walk_nrm;have hF:True:=trivial;iterate 3 w_go fF
   u_leave1 H.f_uCas fF hF
   iterate 5 w_go fF
   exact Î λ_ _=>⟨_,U,ft,ft⟩
end
section
variable{Ψ:Ð->Prop}{L:ě}{l:fh}{e:Jd}{k:List Ţ}
def aiG{D:Ð->Ð->Array đ->Prop}{b:Ä->Ð->Prop}(h:İ P yQ RT D b n g w):İ P yQ RT D b n g u:=by
 cases n with
 |zero=>exact λa _=>h a trivial
 |succ n=>exact h.imp (λq a _=>q a trivial) λq=>⟨q.1,λa _=>q.2 a trivial⟩
def YW{D:Ð->Ð->Array đ->Prop}{b c:Ä->Prop}(d:∀g,b g->∀w,İ P yQ RT D (λg _=>c g) m g w):∀{n:Nat} {g:Ä} {w:Ð},İ P yQ RT D (λg _=>b g) n g w->İ P yQ RT D (λg _=>c g) (n+m) g w:=by
 intro n
 induction n with
 |zero=>intro g w h;rw[Nat.zero_add];exact d g (h w trivial) w
 |succ n i=>
  intro g w h;rcases h with h|⟨j,h⟩
  .exact(d g (h w trivial) w).mono Z
  .rw[show n+1+m=(n+m)+1 by omega];refine Goes.step j λe r=> ?_;have a:=h e r;cases f:è P yQ g e with
   |go k l o=>
    rw[f,ť]at a;rw[ť];exact⟨a.1,i a.2⟩
   |_=>rw[f]at a;exact a.elim
theorem YX{S:Ä->Prop}(l:∀g,S g->g.status=Å)(h:∀w,İ P yQ RT à (λg _=>S g) (n+1) g w):g.status=Å/\(S g\/∀a,∃b,è P yQ g a=ş b a #[]/\∀w,İ P yQ RT à (λg _=>S g) n b w):=by
 by_cases e:S g
 .grind
 .rcases h default with q|⟨f,q⟩
  .exact absurd (q default trivial) e
  .refine⟨f,Á λa=> ?_⟩;have c:=q a trivial;cases d:è P yQ g a with
   |go b m o=>
    rw[d,ť]at c;let⟨⟨i,j⟩,k⟩:=c;subst i j;exact⟨b,U,λw=>aiG k⟩
   |_=>rw[d]at c;exact c.elim
def aiH(H:Ŕ P L)(B:60<=j)(D:mA Ψ l b)(E:SW Ψ l b l.w)(C:l.d=1)(F:∀a,SW Ψ l b a->fq P yQ e {l with d:=0,w:=a} (G (f.at (y.put ((Q[i]?).bind (·.dst))<|ı #[])<|Æ Q jJ::k) qX)) (I:n<=j) (h:∀w,İ P yQ RT à (λg _=>Rj P L yQ b e (f.at y<|Æ Q (i::jJ)::k) qX l g) n g w):OX P yQ j b e (.gi n) l g:=by
 refine⟨C,λp g=>match p with
  |.gi n=>n<=j/\∀w,İ P yQ RT à (λg _=>Rj P L yQ b e (f.at y<|Æ Q (i::jJ)::k) qX l g) n g w
  |.ld v m=>m<=j/\gk<=v/\∀w,İ P yQ RT à (λg _=>YU P L yQ b e (f.at y (Æ Q (i::jJ)::k)) qX l v g) m g w,⟨I,h⟩,λp g J=> ?_⟩
 match p,J with
 |.gi (n+1),⟨h1,h2⟩=>
  let⟨r,u⟩:=YX (λg h=>h.1) h2;refine⟨r,h1,u.imp (λq=>⟨ò _,λw a _=>q⟩) λq a=> ?_⟩;let⟨s,c,o⟩:=q a;exact⟨s,c,Z,o⟩
 |.gi 0,⟨_,h2⟩=>
  have q:=h2 default default trivial;refine⟨q.1,λv=> ?_⟩;let⟨s,c,o,x⟩:=q.2 v;refine⟨s,c,?_⟩;by_cases z:0<=v/\v<gk
  .rw[if_pos z];exact λt=>o ⟨z.1,t⟩
  .rw[if_neg z];exact λt=>⟨60,B,B,t.1,x t⟩
 |.ld v (m+1),⟨h1,h0,h2⟩=>
  let⟨r,u⟩:=YX (λg h=>h.1) h2;refine⟨r,h0,h1,u.imp (λq=>⟨ò _,h0,λw a _=>q⟩) λq a=> ?_⟩;let⟨s,c,o⟩:=q a;exact⟨s,c,Z,h0,o⟩
 |.ld v 0,⟨_,h0,h2⟩=>
  let⟨r,⟨m,c,o⟩,q,x,s⟩:=h2 default default trivial;exact⟨r,h0,⟨m,c,o⟩,q,x,40,Z,Z,λw=>YW (λg t=>YV H D E C F t)<|s w⟩
def YY(H:Ŕ P L)(o:60<=j)(a:mA Ψ l b)(hF:SW Ψ l b l.w)(p:l.d=0)(h:∀c,SW Ψ l b c->fq P yQ e {l with d:=0,w:=c} (G (f.at (y.put ((Q[i]?).bind (·.dst))<|ı #[])<|Æ Q jJ::k) qX)): fq P yQ (qM P yQ j b e .jd) l (G ((base L.wait).at ⟨#[ì<|Ã ⟨b,0,Í⟩,Â,Â,Â,Â,Â,Â,Â,Â,Â,Â,Â,Â,Â,Â,Â,Â,Â,Â,Â,Â,Â,Â,Â,Â,Â,Â,Â,Â,Â,Â,Â,Â,Â,Â,Â,Â,Â,Â,Â,Â,Â,Â,Â,Â,Â,Â,Â,Â,Â,Â,Â,Â,Â,Â,Â,Â,Â,Â,Â,Â,Â,Â,Â,Â,Â,Â,Â,Â,Â,Â,Â,Â,Â,Â,Â,Â,Â,Â,Â,Â,Â,Â,Â],[]⟩ [ĵ<|ţ L])<|f.at y (Æ Q (i::jJ)::k)::qX):=by
 lib_facts;simp only[ţ,waitFn,ć];apply jM a hF (n:=40);iterate 3 w_go fN
 refine Î λc q=> ?_;replace hF:=fN hF q;refine vL a hF (À U) U (λ_=>Ę ô ft U U (by k_ne) U H.f_disable (ń L) (Ņ L) (ņ L)<|Ň L) λt hF=> ?_;walk_nrm;have r:Ï l.d #[jZ ô]=1:=by rw[p];rfl
 rw[r];refine nZ a hF λm hF=>⟨40,Z,aiH (l:={l with d:=1,w:=m}) H o a hF U h Z λw=>YW (λg s=>YV (l:={l with d:=1,w:=m}) H a hF U h s) ?_⟩;replace hF:True:=trivial;iterate 3 w_go fF
 exact Î λ_ _=>⟨_,U,ft,ft⟩
end
section
variable(P:Ğ)(e:Bool)(b:Nat)(J:Jd)
def rd1:Jd:=λl g=>l.d=1/\Gd P e (.read<|gT b) J l g
def KL:Jd:=λl g=>l.d=1/\OH P e (fS b) gk (λs=>if s=gk then fq P e (rd1 P e b J)else if gk<s/\s<1000000*gk/\s%gk=0 then fq P e J else λ_ _=>True) l g
end
def aiI(F:Ph)(j:Nat)(a:Nat->Nat):O1 F j a=KL F.P Ì F.C (Kf F j a):=rfl
section
variable{Ψ:Ð->Prop}{P:Ğ}{L:ě}{e:Bool}{b:Nat}{l:fh}{f:Jd}{c:ø}{k:List Ţ}
def YZ(H:Ŕ P L)(h:mA Ψ l b)(hF:SW Ψ l b l.w)(E:l.d=0)(t:∀g,SW Ψ l b g->fq P e f {l with d:=0,w:=g} (G (c.at (y.put ((Q[i]?).bind (·.dst))<|ı #[])<|Æ Q jJ::k) qX)): fq P e (KL P e b f) l (G ((base L.add).at ⟨#[ì<|Ã ⟨b,0,Í⟩,ë Ũ 1,Â,Â,Â,Â,Â,Â,Â,Â,Â,Â,Â,Â,Â,Â,Â,Â,Â,Â,Â,Â,Â,Â,Â,Â,Â,Â,Â,Â,Â,Â,Â,Â,Â,Â,Â,Â,Â,Â,Â,Â,Â,Â,Â,Â,Â,Â,Â,Â,Â,Â,Â,Â,Â,Â,Â,Â,Â,Â,Â,Â,Â,Â,Â,Â,Â,Â,Â,Â,Â,Â,Â,Â,Â,Â,Â,Â,Â,Â,Â,Â,Â,Â,Â,Â,Â,Â,Â,Â,Â,Â,Â,Â,Â,Â,Â,Â,Â,Â,Â,Â,Â,Â,Â,Â,Â,Â,Â,Â,Â,Â,Â,Â,Â,Â,Â],[]⟩ [ĵ<|body_add L])<|c.at y (Æ Q (i::jJ)::k)::qX):=by
 lib_facts;simp only[body_add,addFn,ć];apply jM h hF (n:=40);iterate 12 w_go fN
 refine Î λg a=> ?_;replace hF:=fN hF a;clear a;refine vL (l:={l with w:=g}) h hF (À U) U (λ_=>Ę ô ft U U (by k_ne) U H.f_disable (ń L) (Ņ L) (ņ L)<|Ň L) λj hF=> ?_;walk_nrm;have F:Ï l.d #[jZ ô]=1:=by rw[E];rfl
 rw[F];apply jM (l:={l with d:=1,w:=j}) h hF (n:=50);iterate 2 w_go fN
 u_defer fN hF
 iterate 8 w_go fN
 u_bub fN hF
 iterate 11 w_go fN
 u_call H.f_uAdd (nm_uAdd L) uAddFn fN hF
 iterate 10 w_go fN
 refine Î λg a=> ?_;replace hF:=fN hF a;clear a;refine nZ (l:={l with d:=1,w:=g}) h hF λq hF=>⟨U,U,λv=>⟨_,λg I J=>(Ľ U U (by k_ne) U H.f_addU64 (Ž L) (ž L) (ſ L) Ó (Α L) U U I J).trans gh,?_⟩⟩;walk_nrm;have u:Ó.wrap (v+4294967296)=Ó.wrap (v+gk):=rfl;rw[u];clear u;obtain⟨s,x⟩:∃s,Ó.wrap (v+gk)=s:=⟨_,U⟩;simp only[x];clear x v;by_cases m:s=gk
 .rw[if_pos m];have o:s=4294967296:=m;clear m;subst o;apply jM (l:={l with d:=1,w:=q}) h hF (n:=150);iterate 3 w_go fN
  u_leave1 H.f_uAdd fN hF
  iterate 48 w_go fN
  u_conv H.underlying_tPU32 H.room_tU32 (nF.C hF.2.1).choose_spec fN hF
  refine Î λg a=> ?_;replace hF:=fN hF a;clear a;refine nZ (l:={l with d:=1,w:=g}) h hF λq hF=>⟨U,U,_,λ_=>Ē .read ft U U (by k_ne) U H.f_raceRead (x_raceRead_n L) (x_raceRead_b L) (x_raceRead_x L) (x_raceRead_f L) (by simp[þ,gT]),?_⟩;walk_nrm;apply jM (l:={l with d:=1,w:=q}) h hF (n:=150);iterate 39 w_go fN
  refine Î λg a=> ?_;replace hF:=fN hF a;clear a;refine vL (l:={l with d:=1,w:=g}) h hF (Á U) U (λw=>KF î ft U H.f_enable (Ĥ L) (ĥ L) (Ħ L) (ħ L) w) λj hF=> ?_;have r:Ï 1 #[jZ î]=0:=rfl;rw[r];apply jM (l:={l with d:=0,w:=j}) h hF (n:=10);u_leave0 H.f_add fN hF;refine Î λg a=> ?_;replace hF:=fN hF a;clear a;exact t _ hF
 .rw[if_neg m];by_cases o:gk<s/\s<1000000*gk/\s%gk=0
  .rw[if_pos o];let⟨z,B,C⟩:=o;have N:(4294967296:Int)<s:=z;have D:s<1000000*4294967296:=B;have K:s%4294967296=0:=C;clear m z B C;have O:=D2 s Z D Z;have M:=D3 s Z D Z;rw[K]at M;obtain⟨p,S⟩:∃p,(s/4294967296+2147483648)%4294967296-2147483648=p:=⟨_,U⟩;have T:¬p<0:=Z
   have V:0<p:=Z
   have W:(p==1)=É:=by simp;omega
   apply jM (l:={l with d:=1,w:=q}) h hF (n:=150);iterate 3 w_go fN
   u_leave1 H.f_uAdd fN hF
   iterate 83 w_go fN
   refine Î λg a=> ?_;replace hF:=fN hF a;clear a;refine vL (l:={l with d:=1,w:=g}) h hF (Á U) U (λw=>KF î ft U H.f_enable (Ĥ L) (ĥ L) (Ħ L) (ħ L) w) λj hF=> ?_;have r:Ï 1 #[jZ î]=0:=rfl;rw[r];apply jM (l:={l with d:=0,w:=j}) h hF (n:=10);u_leave0 H.f_add fN hF;refine Î λg a=> ?_;replace hF:=fN hF a;clear a;exact t _ hF
  .rw[if_neg o];trivial
end
def A4:θ->Nat->θ
 |.seq a _,0=>a
 |.seq _ b,_=>b
 |Τ _ a _,0=>a
 |Τ _ _ b,_=>b
 |ε _ a,_=>a
 |.loop a,_=>a
 |c,_=>c
def lj(f:Func)(l:List Nat):θ:=l.foldl A4<|f.body.getD ο
def pE(f:Ĵ)(a b:Array ã):Ů:={target:=.fn (.func f) a,args:=b}
def n5(P:Ğ):ø:={(default:ø)with fn:=P.funcs.size,defers:=[],mode:=.panicking [Ō]}
section
variable{b:ø}{a:ō}
def Y0{h:Array ĳ}(c:Q[i]?=Ã o)(j:á o (Ĩ Q a.tmps)=Ì)(k:b.kind≠Đ) (e:o.op=.defer {callee:=.value qQ,args:=#[],argTypes:=h}) (g:a.eval qQ=.func (.func F) #[] d): è P yQ (G (b.at a<|Æ Q (i::jJ)::L) qX) w=ş (G (b.at (Ő ⟨a.tmps,pE F d #[]::a.defers⟩ o.dst Â)<|Æ Q jJ::L) qX) w #[]:=by
 have l:(Þ a.eval o).run P w=.ok (.defer<|pE F d #[]) w:=by unfold Þ;simp[e,ĸ,Ĉ,g,pE]
 have m:(Þ a.eval o).events P w #[]=#[]:=by unfold Þ;simp[e,ĸ,Ĉ,g]
 have n:(b.at ⟨a.tmps,pE F d #[]::a.defers⟩<|Æ Q (i::jJ)::L).finish Â=b.at (Ő ⟨a.tmps,pE F d #[]::a.defers⟩ o.dst Â) (Æ Q jJ::L):=by rw[ĩ,c];rfl
 have p:(b.kind==Đ)=É:=by simpa using k
 rw[Ζ c j,<-n];simp[stepG.apply,l,m,G,Frame.at,p,Ě,Ć]
def Y1{l:Array ĳ}(m:Q[i]?=Ã o)(n:á o (Ĩ Q a.tmps)=Ì)(p:b.kind≠Đ) (h:o.op=Ŭ {callee:=.value qQ,args:=#[],argTypes:=l}) (j:a.eval qQ=.func (.func F) #[] d) (e:P.funcs[F]?=Ã s) (q:(s.name== "runtime.NumGoroutine")=É) (g:s.body=Ã wX): è P yQ (G (b.at a<|Æ Q (i::jJ)::L) qX) w=ş (G ((base F).at {tmps:=d++ê (s.ntmps-d.size) Â,defers:=[]} [ĵ wX])<|b.at a (Æ Q (i::jJ)::L)::qX) w #[]:=by
 have k:¬s.name= "runtime.NumGoroutine":=by simpa using q
 have r:(Þ a.eval o).run P w=.ok (.enter F d) w:=by unfold Þ;simp[h,ĸ,Ĉ,j,ś,Ŝ,e,k,g]
 have t:(Þ a.eval o).events P w #[]=#[]:=by unfold Þ;simp[h,ĸ,Ĉ,j,ś,Ŝ,e,k,g]
 rw[ŵ m n p r,<-enter_at d e g];unfold listed;rw[t,Ć]
def aiJ{g:Array ĳ}(d:Q[i]?=Ã o)(h:á o (Ĩ Q a.tmps)=Ì)(j:b.kind=ľ)(k:b.roundOf=Í)(l:f.mode=ù) (e:o.op=Ŭ {callee:=.builtin .recover,args:=#[],argTypes:=g}) (q:o.type=t): è P yQ (G (b.at a<|Æ Q (i::jJ)::L)<|f::qX) w=ş (G (b.at (a.put o.dst ā)<|Æ Q jJ::L)<|f::qX) w #[]:=by
 have m:(Þ a.eval o).run P w=.ok .recover w:=by unfold Þ;simp[e,ĸ,ś,builtin]
 have n:(Þ a.eval o).events P w #[]=#[]:=by unfold Þ;simp[e,ĸ,ś,builtin]
 have p:(b.at a<|Æ Q (i::jJ)::L).finish ā=b.at (a.put o.dst ā) (Æ Q jJ::L):=by rw[ĩ,d];rfl
 rw[Ζ d h,<-p];simp[stepG.apply,m,n,G,Frame.at,j,Ě,Ć,k,tryRecover,l]
def aiK{e:List Ů}(i:a.defers=pE F d #[]::e)(g:P.funcs[F]?=Ã s)(j:(s.name== "runtime.NumGoroutine")=É)(h:s.body=Ã wX): è P yQ (G {b.at a L with mode:=ù} qX) w= ş (G ((baseD F).at {tmps:=d++ê (s.ntmps-d.size) Â,defers:=[]} [ĵ wX])<|{b.at ⟨a.tmps,e⟩ L with mode:=ù}::qX) w #[]:=by
 have k:¬s.name= "runtime.NumGoroutine":=by simpa using j
 rw[<-enter_atD d g h];simp[G,è,Η,Ū,Frame.at,i,pE,ś,Ŝ,g,k,h,Ě,Ć]
def Y2(a:P.funcs[F]?=Ã s)(e:(s.name== "runtime.NumGoroutine")=É)(b:s.body=Ã wX): è P yQ (born P<|pE F d #[]) w=ş (G ((baseD F).at {tmps:=d++ê (s.ntmps-d.size) Â,defers:=[]} [ĵ wX]) [n5 P]) w #[]:=by
 have g:¬s.name= "runtime.NumGoroutine":=by simpa using e
 rw[<-enter_atD d a b];simp[G,è,Η,Ū,born,n5,pE,ś,Ŝ,a,g,b,Ě,Ć]
def aiL(d:b.kind=ľ)(e:a.defers=[])(f:P.funcs[b.fn]?=Ã s)(c:s.results=#[]): è P yQ (G {b.at a L with mode:=ù} [n5 P]) w=ş (G (n5 P) []) w:=by have g:=results_none c a.tmps P w;have h:=events_results_none (P:=P) (w:=w) c a.tmps #[];simp[G,è,Η,doReturn,Frame.at,d,e,f,g,h,n5,Ō,seen,Ě]
def aiM(w:Ð):è P É (G (n5 P) []) w=ş {frame:=n5 P,callers:=[],status:=å,dying:=Í} w:=by simp[G,è,Η,n5,Ō,Frame.catches];rfl
def aiN:rR P 0 (G (n5 P) []):=⟨1,.ctl U aiM ⟨U,U⟩⟩
def aiO(c:b.kind=ľ)(d:a.defers=[])(e:P.funcs[b.fn]?=Ã s)(f:s.results=#[]):rR P 0 (G {b.at a L with mode:=ù} [n5 P]):= KJ U (λ_=>aiL c d e f) aiN
def aiP(e:b.kind=ľ)(g:a.defers=[])(h:P.funcs[b.fn]?=Ã s)(j:s.results=#[])(k:f.mode=ù)(l:rR P i (G f qX)):rR P i (G {b.at a L with mode:=ù}<|f::qX):= let⟨n,q⟩:=l;⟨n+1,.leaveD e g h j k q⟩
end
def aiQ(d:Nat)(t:ĳ)(w:Ð)(a:Array đ)(h:P.underlying t=Ã (.interface<|P.methodsAt t)):(Θ (d+1) t ā ā).events P w a=a:=by simp[Θ,run_underlying h,go_sem]
def aiR(t:ĳ)(w:Ð)(a:Array đ)(h:P.underlying t=Ã (.interface<|P.methodsAt t)):(Op.equal t ā ā).events P w a=a:=aiQ 9999 t w a h
def aiS(t:ĳ)(w:Ð)(a:Array đ)(h:P.underlying t=Ã (.interface<|P.methodsAt t)):(binOp .neq t ā ā).events P w a=a:=by simp only[binOp];simp[aiR t w a h]
section
variable{J:Jd}{l:fh}{b:ø}{a:ō}
def j0(l:fh):Prop:=∀j,l.O j->j<l.w.heap.size
def gl(a:j0 l)(b:İ P yQ RT à (λc _=>fq P yQ J l c) n g l.w):fq P yQ J l g:= PZ b (λ_ _ _=>trivial) a λ_ _ r h=>h.kg r
def vM(k:Q[i]?=Ã o)(m:á o (Ĩ Q a.tmps)=Ì)(n:b.kind≠Đ) (h:∀c,fL l l.w c->uponK o a (λq e=>∃d,mL l d c e (listed P b.fn a o c)/\fq P yQ J d (G (b.at q<|Æ Q jJ::L) qX)) ((Þ a.eval o).run P c)): fq P yQ J l (G (b.at a<|Æ Q (i::jJ)::L) qX):=by
 refine .mk U λc r=> ?_;have f:=h c r;revert f;generalize p:(Þ a.eval o).run P c=res;intro f;match res,f with
 |.ok (.value v) e,⟨d,g,j⟩=>exact⟨_,e,_,d,Ń k m n p,g,j⟩
 |.ok .skip e,⟨d,g,j⟩=>exact⟨_,e,_,d,Ŗ k m n p,g,j⟩
def vN(l:fh)(e:đ):Prop:=yS l e/\e.loc≠ŭ ô/\e.loc≠ŭ î
def KM(h:∀e∈V,vN l e)(d:Nat):Ï d V=d:=ĺ (λe a=>⟨(h e a).2.1,(h e a).2.2⟩) d
def aiT(b:∀j,l.O j->j<w.heap.size)(c:¬l.q)(a:∀e∈V,vN l e):mL l {l with w:=w} w w V:= ⟨Ç _,λ_ h=>À h,b,U,U,U,U,λ_ _ _ _=>rfl,λ_ _ _ _=>rfl,λ_ _ _=>rfl,U,U,U,λe h=>(a e h).1,(KM a _).symm,U,λq=>absurd q c,U⟩
def rS(d:Q[i]?=Ã o)(f:á o (Ĩ Q a.tmps)=Ì)(g:b.kind≠Đ)(j:j0 l)(k:¬l.q) (m:∀c,fL l l.w c->(Þ a.eval o).run P c=.ok (.value v) c) (n:∀c,fL l l.w c->∀e∈(Þ a.eval o).events P c #[],vN l e) (p:fq P yQ J l (G (b.at (a.put o.dst v)<|Æ Q jJ::L) qX)):fq P yQ J l (G (b.at a<|Æ Q (i::jJ)::L) qX):=by refine vM d f g λc r=> ?_;rw[m c r];exact⟨_,aiT (my j r) k λe h=>n c r e<|Ι h,p.kg r⟩
def ia(l:fh)(x:Č):Prop:=l.M x.block\/l.C x
def ia.r{x:Č}(h:ia l x){w₁:Ð}(r:fL l l.w w₁):w₁.cell? x=l.w.cell? x:=h.elim (λq=>gQ<|r.I _ q)<|r.N x
def ia.C{x:Č}(h:ia l x):vN l ⟨ú x,É,É⟩:=by
 refine⟨À ⟨x,U,?_⟩,ft,ft⟩;rcases h with(q|q)|(q|q)
 .exact À q
 .exact Á<|Á ⟨À q,U,U⟩
 .exact Á<|À q
 .exact Á<|Á ⟨Á q,U,U⟩
def oW{x:Č}(f:Q[i]?=Ã o)(g:á o (Ĩ Q a.tmps)=Ì)(j:b.kind≠Đ)(k:j0 l)(m:¬l.q)(c:ia l x)(d:l.w.cell? x=Ã v) (n:∀w,w.cell? x=Ã v->(Þ a.eval o).run P w=.ok (.value v) w) (p:∀w,w.cell? x=Ã v->(Þ a.eval o).events P w #[]=#[⟨ú x,É,É⟩]) (s:fq P yQ J l (G (b.at (a.put o.dst v)<|Æ Q jJ::L) qX)):fq P yQ J l (G (b.at a<|Æ Q (i::jJ)::L) qX):= rS f g j k m (λw r=>n w<|(c.r r).trans d) (λw r e h=>by
  rw[p w<|(c.r r).trans d]at h;have:e=⟨ú x,É,É⟩:=by simpa using h
  subst this;exact c.C) s
def qj(l:fh)(x:Č):Prop:=l.O x.block\/l.r x
def qj.C(h:qj l p):ia l p:=h.elim (λq=>À<|À q) λq=>Á<|À q
def qj.r{x:Č}(h:qj l x):vN l ⟨ú x,Ì,É⟩:=⟨À ⟨x,U,h.elim À λq=>Á<|À q⟩,ft,ft⟩
end
end Go.Proofs.Y.fB
namespace Go.Proofs.Y.fB
open Go Go.Conc Go.Proofs.Y.Lift
section
variable{J:Jd}{l:fh}{b:ø}{cs:List ø}{ops:Array Ĭ}
def Rk(a:∀j,l.O j->j<w.heap.size)(b:¬l.q):mL l {l with w:={w with drawn:=w.drawn+1}} w {w with drawn:=w.drawn+1} #[]:= ⟨Ç _,λ_ h=>À h,a,U,U,U,U,λ_ _ _ _=>rfl,λ_ _ _ _=>rfl,λ_ _ _=>rfl,U,U,U,λe c=>by simp at c,by simp[Ï],U,λq=>absurd q b,U⟩
def jy(listed:Array Bool):Nat:=listed.countP λx=> !x
theorem KN{listed:Array Bool}(h:listed.getD i Ì=É):jy (listed.setIfInBounds i Ì)+1=jy listed:=by
 have a:i<listed.size:=by grind
 have b:listed[i]=É:=by simpa[a]using h
 unfold jy;grind [Array.countP_pos_iff,Array.getElem_mem]
def Rl{md:Ý}{listed:Array Bool}(c:listed.size=ops.size)(h:jy listed=0):Ò md ops listed=[]:=by rw[List.eq_nil_iff_forall_not_mem];intro j a;let⟨b,o,d,_⟩:=ĉ.1 a;have:=KN b;omega
def Y3{md:Ý}(I:Array Bool->ō->fh->Prop) (p:∀c a l i k,I c a l->i∈Ò md ops c->fq P yQ (λh m=>∃f,m=G (b.at f<|Æ ops k::L) cs/\I (c.setIfInBounds i Ì) f h) l (G (b.at a<|Æ ops (i::k)::L) cs)) (n:∀c a l,I c a l->c.size=ops.size->Ò md ops c=[]->fq P yQ J l (G (b.at a<|Æ ops []::L) cs)): ∀(d t:Nat) (c:Array Bool) (a:ō) (l:fh),c.size=ops.size->jy c<=d->I c a l->fq P yQ J l (G (b.at a<|Æ ops (û md ops d t c [])::L) cs):=by
 intro d
 induction d with
 |zero=>
  intro t c a l e q g;simpa[û]using n c a l g e<|Rl e Z
 |succ d r=>
  intro t c a l e q g;simp only[û];change fq P yQ J l (G (b.at a (Æ ops (match(Ò md ops c)[t%(Ò md ops c).length]? with
   |some i=>û md ops d (t/(Ò md ops c).length) (c.setIfInBounds i Ì) [i]
   |none=>[].reverse)::L)) cs)
  cases j:(Ò md ops c)[t%(Ò md ops c).length]? with
  |none=>
   have s:Ò md ops c=[]:=by
    cases u:Ò md ops c with
    |nil=>rfl
    |cons x o=>
     rw[u]at j;have v:t%(x::o).length<(x::o).length:=ż _ ft;simp at j;simp at v;omega
   simpa using n c a l g e s
  |some i=>
   simp only[];rw[linearise_go_acc,List.reverse_singleton,List.singleton_append];have o:=List.mem_of_getElem? j;refine(p c a l i _ g o).mo ?_;rintro h m ⟨f,rfl,s⟩;exact r _ _ f h (by simpa using e) (by have:=KN (ĉ.1 o).1;omega) s
theorem D6(n:Nat):jy (ê n É)=n:=by unfold jy;grind [Array.countP_replicate]
def KO{id:Nat}(I:Array Bool->ō->fh->Prop)(m:j0 l)(n:¬l.q) (f:∀d,fL l l.w d->I (ê ops.size É) y {l with w:={d with drawn:=d.drawn+1}}) (g:∀e c y l i h,I c y l->i∈Ò e ops c->fq P yQ (λo p=>∃j,p=G (b.at j<|Æ ops h::L) cs/\I (c.setIfInBounds i Ì) j o) l (G (b.at y<|Æ ops (i::h)::L) cs)) (k:∀e c y l,I c y l->c.size=ops.size->Ò e ops c=[]->fq P yQ J l (G (b.at y<|Æ ops []::L) cs)): fq P yQ J l (G (b.at y<|ĵ (Ģ id ops Ì)::L) cs):=by
 refine .mk U λd r=>⟨_,_,_,_,stepG_region_draw,Rk (my m r) n,?_⟩;unfold Region.schedule;split
 .exact Y3 I (g _) (k _) _ _ _ _ _ ft (by rw[D6];exact Ç _)<|f d r
 .exact Y3 I (g _) (k _) _ _ _ _ _ ft (by rw[D6];exact Ç _)<|f d r
end
def vO(e:Edge):Bool:=match e.ground with|.textOnly _=>É|.gcOnly _=>É|_=>Ì
theorem Y4{md:Ý}{e:Edge}(h:vO e=Ì):ū md e=Ì:=by unfold vO at h;unfold ū;grind
structure lP(ops:Array Ĭ)(t0:Array ã)(val:Nat->ã)(listed:Array Bool)(a:ō):Prop where
 M:a.defers=[]
 Y:a.tmps.size=t0.size
 c:∀d,(∀j o,ops[j]?=Ã o->listed.getD j É=Ì->o.dst≠Ã d)->a.tmps[d]?=t0[d]?
 r:∀j o d,ops[j]?=Ã o->listed.getD j É=Ì->o.dst=Ã d->a.tmps[d]?=Ã (val j)
 b:∀j o e,ops[j]?=Ã o->listed.getD j É=Ì->e∈o.after->vO e=Ì->listed.getD e.on É=Ì
def qO(a:Array Ĭ)(n:Nat):Bool:=(Κ a.size).all λi=>match(a.getD i default).dst with
 |none=>Ì
 |some d=>decide (d<n)&&(Κ a.size).all λj=>i==j||(a.getD j default).dst !=Ã d
section
variable{ops:Array Ĭ}{t0:Array ã}{val:Nat->ã}{listed:Array Bool}{a:ō}
def Rm(h:qO ops t0.size=Ì)(a:ops[i]?=Ã o)(b:o.dst=Ã n):n<t0.size:=by have:=(ġ.1 h) i<|Ş.2<|(Ö.1 a).1;simp_all
theorem Y5(h:qO ops t0.size=Ì){d:Nat}{a:Ĭ}(b:ops[i]?=Ã o)(e:ops[j]?=Ã a)(f:j≠i)(c:o.dst=Ã d):a.dst≠Ã d:=by have:=(ġ.1 h) i<|Ş.2<|(Ö.1 b).1;simp[b,c]at this;grind
def lP.C(h:lP ops t0 val listed a){d:Nat}(b:ops.toList.all (λo=>o.dst !=Ã d)=Ì):a.tmps[d]?=t0[d]?:= h.c d λj o c _ e=>by have:=ġ.1 b o<|Ī.2<|Array.mem_of_getElem? c;simp[e]at this
def Rn(h:(listed.setIfInBounds i Ì).getD j É=Ì):j=i\/listed.getD j É=Ì:=by by_cases e:i=j;all_goals simp_all
theorem lP.fR(h:lP ops t0 val listed a)(u:qO ops t0.size=Ì){md:Ý}(l:ops[i]?=Ã o)(p:i∈Ò md ops listed)(w:o.dst≠Í->v=val i):lP ops t0 val (listed.setIfInBounds i Ì) (a.put o.dst v):=by
 have y:=(ĉ.1 p).1;have r:∀j c e,ops[j]?=Ã c->(listed.setIfInBounds i Ì).getD j É=Ì->e∈c.after->vO e=Ì->(listed.setIfInBounds i Ì).getD e.on É=Ì:=λj c e b f s t=>by
  rcases Rn f with rfl|q
  .let⟨_,n,d,g⟩:=ĉ.1 p;rw[b]at d;obtain rfl:=È d;exact ĝ<|g e s<|Y4 t
  .exact ĝ<|h.b j c e b q s t
 have x:(listed.setIfInBounds i Ì).getD i É=Ì:=by
  have n:i<listed.size:=by grind
  simp[n]
 cases k:o.dst with
 |none=>
  refine⟨h.M,h.Y,λd m=>h.c d λj c b f=>m j c b<|ĝ f,λj c d b f g=> ?_,r⟩;rcases Rn f with rfl|q
  .rw[l]at b;obtain rfl:=È b;rw[k]at g;cases g
  .exact h.r j c d b q g
 |some e=>
  refine⟨h.M,by simp[Ő,h.Y],λd m=> ?_,λj c d b f g=> ?_,r⟩
  .simp only[Ő];rw[í (λq=>m i o l x<|by rw[k,q])];exact h.c d λj c b f=>m j c b<|ĝ f
  .simp only[Ő];rcases Rn f with rfl|q
   .rw[l]at b;obtain rfl:=È b;rw[k]at g;obtain rfl:=È g;have n:e<a.tmps.size:=by rw[h.Y];exact Rm u l k
    simp[n,(w<|by rw[k];simp)]
   .have n:e≠d:=by
     grind [Y5]
    rw[í n];exact h.r j c d b q g
def lP.G(h:lP ops t0 val listed a){b:Nat->ã}(e:∀j,listed.getD j É=Ì->b j=val j):lP ops t0 b listed a:= ⟨h.M,h.Y,h.c,λj o d f c g=>(by rw[e j c];exact h.r j o d f c g),h.b⟩
theorem ik{md:Ý}(h:i∈Ò md ops listed)(b:ops[i]?=Ã o)(c:o.after.toList.any (λe=>e.on==j&&vO e)=Ì):listed.getD j É=Ì:=by let⟨_,f,a,g⟩:=ĉ.1 h;rw[b]at a;obtain rfl:=È a;let⟨e,k,d⟩:=Ŀ.1 c;simp only[ŀ,beq_iff_eq]at d;grind [Y4]
def lP.I(h:lP ops t0 val listed a)(c:ops[i]?=Ã o)(d:listed.getD i É=Ì)(f:o.after.toList.any (λe=>e.on==j&&vO e)=Ì):listed.getD j É=Ì:=by let⟨e,g,b⟩:=Ŀ.1 f;simp only[ŀ,beq_iff_eq]at b;rw[<-b.1];exact h.b i o e c d (Ī.1 g) b.2
theorem vP(h:listed.getD i Ì=É):¬listed.getD i É=Ì:=by grind
def KP(md:Ý)(ops:Array Ĭ):List Nat->List Nat->Bool
 |[],_=>Ì
 |i::r,seen=>(match ops[i]? with|some o=>o.after.toList.all (λe=> !Region.binds md e||seen.contains e.on)|none=>É)&&KP md ops r (i::seen)
theorem pF{md:Ý}(h:Ò md ops listed=[])(l:listed.size=ops.size):∀(b a:List Nat),KP md ops b a=Ì->(∀i∈a,listed.getD i É=Ì)->∀i∈b,listed.getD i É=Ì:=by
 intro b
 induction b with
 |nil=>intro a _ _ i c;cases c
 |cons j r m=>
  intro a n p i c;let⟨d,s⟩:=Bool.and_eq_true_iff.1 (show(_&&_)=Ì from n);have f:listed.getD j É=Ì:=by
   split at d
   .rename_i o g;have v:j<listed.size:=by rw[l];exact(Ö.1 g).1
    by_cases t:listed.getD j Ì=É
    .have:j∈Ò md ops listed:=ĉ.2 ⟨t,o,g,λe w x=>by
      grind⟩
     grind
    .grind
   .cases d
  rcases š.1 c with rfl|q
  .exact f
  .exact m (j::a) s (λk u=>(š.1 u).elim (λe=>e▸f)<|p k) i q
def lP.S(t:Array ã)(val:Nat->ã)(n:Nat):lP ops t val (ê n É) ⟨t,[]⟩:=by
 have a:∀j,¬(ê n É).getD j É=Ì:=λj q=>by rcases ģ j n with z|z;all_goals simp_all
 exact⟨U,U,λ_ _=>rfl,λj _ _ _ z=>absurd z<|a j,λj _ _ _ z=>absurd z<|a j⟩
theorem zv{md:Ý}(h:i∈Ò md ops listed):i<ops.size:=by let⟨_,o,a,_⟩:=ĉ.1 h;grind
def Ro{md:Ý}(h:i∈Ò md ops listed):listed.getD i Ì=É:=(ĉ.1 h).1
end
theorem aiU(h:a.spot.isSome=Ì):w.cell? a=Í:=by unfold World.cell?;grind
theorem By{x y:Č}(b:x.spot=Í)(h:y≠x):(w.setCell x v).cell? y=w.cell? y:=by
 by_cases c:y.spot.isSome=Ì
 .grind [aiU]
 .apply yV;let⟨d,e,f⟩:=x;let⟨g,i,a⟩:=y;simp only at b c|-;have:a=Í:=by cases a<;>simp_all
  grind
section
variable{J:Jd}{l:fh}{b:ø}{a:ō}{cs:List ø}{ops:Array Ĭ}
theorem Y6(b:p.spot=Í)(d:(w.cell? p).isSome=Ì)(f:(u.cell? p).isSome=Ì)(r:fL l w u):fL l (w.setCell p v) (u.setCell p v):=by
 refine⟨by rw[j4,j4];exact r.r,λj c=> ?_,λy a=> ?_,λy a=> ?_,λy a h=> ?_⟩
 .by_cases e:j=p.block
  .subst e;unfold World.setCell;simp only[Array.getElem?_modify];rw[r.I _ c]
  .rw[lD e,lD e];exact r.I j c
 .by_cases e:y=p
  .grind [ü,A2]
  .rw[By b e,By b e];exact r.N y a
 .rw[sT,sT];exact r.Y y a
 .by_cases e:y=p
  .grind [yW]
  .rw[By b e]at h|-;exact r.S y a h
def Y7(f:p.spot=Í)(g:∀j,l.O j->j<w.heap.size)(i:¬l.q)(c:qj l p)(d:∀e∈V,vN l e):mL l {l with w:=w.setCell p v} w (w.setCell p v) V:=by
 refine⟨by rw[j4];exact Ç _,λ_ h=>À h,λj k=>by rw[j4];exact g j k,U,U,U,U,λj _ a b=>lD λe=>c.elim (λq=>a<|e▸q) λq=>b p e.symm q,λy _ a b=>By f λe=> ?_,λ_ _ _=>OU,U,U,U,λe h=>(d e h).1,(KM d _).symm,U,λq=>absurd q i,U⟩
 .subst e;exact c.elim a b
def aiV(m:ops[i]?=Ã o)(n:á o (Ĩ ops a.tmps)=Ì)(s:b.kind≠Đ)(t:j0 l)(u:¬l.q)(g:p.spot=Í)(c:qj l p)(j:(l.w.cell? p).isSome=Ì)(y:o.dst=Í)(z:l.w.frozen? p=É) (B:∀w,(w.cell? p).isSome=Ì->w.frozen? p=É->(Þ a.eval o).run P w=.ok .skip (w.setCell p v)) (C:∀w,(w.cell? p).isSome=Ì->w.frozen? p=É->(Þ a.eval o).events P w #[]=#[⟨ú p,Ì,É⟩]) (D:fq P yQ J {l with w:=l.w.setCell p v} (G (b.at a<|Æ ops jJ::L) cs)):fq P yQ J l (G (b.at a<|Æ ops (i::jJ)::L) cs):=by
 refine vM m n s λd r=> ?_;have f:(d.cell? p).isSome=Ì:=by rwa[c.C.r r]
 have k:d.frozen? p=É:=by rw[<-z];exact c.C.elim (λq=>xh<|r.I _ q)<|r.Y p
 rw[B d f k];refine⟨_,Y7 g (my t r) u c λe h=> ?_,?_⟩
 .have:=Ι h;rw[C d f k]at this;have:e=⟨ú p,Ì,É⟩:=by simpa using this
  subst this;exact c.r
 .have:(a.put o.dst Â)=a:=by rw[y];rfl
  rw[this];exact D.kg<|zq<|Y6 g j f r
end
def mB(l:fh):fh:={l with O:=λ_=>False,I:=l.M,r:=λ_=>False,N:=l.C}
def qP(l x:fh):fh:={x with O:=λb=>x.O b\/l.O b,I:=l.I,r:=l.r,N:=l.N}
structure iV(l l':fh):Prop where
 O:∀j,l.O j->l'.O j
 a:∀j,l'.O j->l.O j\/l.w.heap.size<=j
 N:l'.I=l.I
 S:l'.r=l.r
 Y:l'.N=l.N
 K:l'.K=l.K
 q:l'.q=l.q
 r:fL l l.w l'.w
 fA:j0 l'
theorem iV.gd{l:fh}(h:j0 l):iV l l:=⟨λ_ h=>h,λ_ h=>À h,U,U,U,U,U,fL.gd _ _,h⟩
def iV.C{l a:fh}(h:iV l a):a.C=l.C:=by unfold fh.C;rw[h.S,h.Y]
def iV.M{l a:fh}(h:iV l a)(c:l.M b):a.M b:=c.imp (h.O b)<|by rw[h.N];exact id
def iV.G{l d:fh}(h:iV l d)(r:fL d w u):fL l w u:=⟨r.r,λj e=>r.I j<|h.M e,λx b=>r.N x (by rwa[h.C]),λx b=>r.Y x (by rwa[h.C]),λx b=>r.S x<|by rwa[h.K]⟩
def iV.fj{a b c:fh}(h:iV a b)(k:iV b c):iV a c:= ⟨λj d=>k.O j<|h.O j d,λj d=>(k.a j d).elim (h.a j) λq=>Á<|Ô h.r.r q,k.N.trans h.N,k.S.trans h.S,k.Y.trans h.Y,k.K.trans h.K,k.q.trans h.q,h.r.fj<|h.G k.r,k.fA⟩
def iV.I{l a:fh}(h:iV l a){w₁:Ð}(r:fL a a.w w₁):iV l {a with w:=w₁}:= ⟨h.O,h.a,h.N,h.S,h.Y,h.K,h.q,h.r.fj<|h.G r,my h.fA r⟩
def gF.kg{l:fh}(s:gF l){w₁:Ð}(h:l.w.heap.size<=w₁.heap.size):gF {l with w:=w₁}:= ⟨s.c,s.Y,s.N,λb d=>Ê (s.fA b d) h,λa c=>Ê (s.I a c) h,λa c=>let⟨e,f,g⟩:=s.S a c;⟨e,Ê f h,g⟩⟩
def gF.r{l:fh}(s:gF l):j0 l:=λj a=>s.fA j<|À a
section
variable{J:Jd}
theorem aiW{l x:fh}(d:x.I=l.M)(g:x.r=λ_=>False)(f:x.N=l.C){e:đ}(h:yS x e):yS (qP l x) e:=by
 rcases h with⟨a,b,c⟩|h|h|h|h|⟨a,b,c⟩
 .refine À ⟨a,b,?_⟩;rcases c with q|q|⟨q|q,z⟩
  .exact À<|À q
  .grind
  .rw[d]at q;rcases q with q|q
   .exact À<|Á q
   .exact Á<|Á ⟨À q,z⟩
  .rw[f]at q;rcases q with q|q
   .exact Á<|À q
   .exact Á<|Á ⟨Á q,z⟩
 .exact Á<|À h
 .exact Á<|Á<|À h
 .exact Á<|Á<|Á<|À h
 .exact Á<|Á<|Á<|Á<|À h
 .exact Á<|Á<|Á<|Á<|Á ⟨a,À b,c⟩
def Y8{l x:fh}(a:x.I=l.M):(qP l x).M=x.M:=by
 funext b;refine propext ⟨λh=> ?_,λh=> ?_⟩
 .rcases h with(q|q)|q
  .exact À q
  .exact Á<|by rw[a];exact À q
  .exact Á<|by rw[a];exact Á q
 .rcases h with q|q
  .exact À<|À q
  .rw[a]at q;exact q.elim (λz=>À<|Á z) Á
theorem KQ{l x:fh}(c:x.r=λ_=>False)(b:x.N=l.C):(qP l x).C=x.C:=by
 funext a;refine propext ⟨λh=>Á (by rwa[b]),λh=> ?_⟩;rcases h with q|q
 .grind
 .rwa[b]at q
def fq.aiX{l:fh}(s:gF l){x:fh}(h:fq P yQ J x g):x.I=l.M->x.r=(λ_=>False)->x.N=l.C->x.K=l.K->x.q=l.q->fL l l.w x.w->(∀j,x.O j->l.w.heap.size<=j)->j0 x-> fq P yQ (λb c=>∃a,J a c/\b=qP l a/\iV l b/\a.I=l.M/\a.N=l.C/\a.r=λ_=>False) (qP l x) g:=by
 induction h with
 |@fE x g h=>
  intro m f d o B p v E;refine .fE λc r=>⟨{x with w:=c},(h c ⟨r.r,λj b=>r.I j (by rwa[Y8 m]),λy a=>r.N y (by rwa[KQ f d]),λy a=>r.Y y (by rwa[KQ f d]),r.S⟩),U,?_,m,d,f⟩
  .refine⟨λj b=>Á b,λj b=>b.elim (λq=>Á<|v j q) À,U,U,U,o,B,p.fj ⟨r.r,λj b=>r.I j (b.elim (λq=>À<|Á q) Á),λy a=>r.N y a,λy a=>r.Y y a,λy a=>r.S y ?_⟩,λj b=> ?_⟩
   .show x.K y;rwa[o]
   .refine Ê ?_ r.r;rcases b with q|q
    .exact E j q
    .exact Ê (s.fA j<|À q) p.r
 |@jR x g G' W' E' L' iN h hd _ ih=>
  intro m f d o B p v E;refine .mk iN λc r=> ?_;have i:fL x x.w c:=⟨r.r,λj b=>r.I j (by rwa[Y8 m]),λy a=>r.N y (by rwa[KQ f d]),λy a=>r.Y y (by rwa[KQ f d]),r.S⟩;have D:=hd c i;have n:=Ô p.r i.r;have z:∀j,j<l.w.heap.size->¬x.O j:=λj b q=>by have:=v j q;omega
  have t:∀y:Č,¬x.r y:=λy q=>by rwa[f]at q
  have F:fL l c (W' c):=⟨D.C,λj b=>D.jY j (Ê (s.fA j b) n) (z j<|s.fA j b) λy _=>t y,λy a=>D.N y (Ê (s.I y a) n) (z _<|s.I y a)<|t y,λy a=>JX<|D.Y y (Ê (s.I y a) n)<|z _<|s.I y a,λy a q=>by rwa[D.N y (Ê (s.S y a).2.1 n) (z _ (s.S y a).2.1)<|t y]⟩;refine⟨G' c,W' c,E' c,qP l<|L' c,h c i,?_,(ih c i (D.I.trans m) (D.r.trans f) (D.M.trans d) (D.k.trans o) (D.q.trans B) (by rw[D.b];exact(p.fj ⟨i.r,λj b=>i.I j (Á<|by rwa[m]),λy a=>i.N y (Á<|by rwa[d]),λy a=>i.Y y (Á<|by rwa[d]),λy a=>i.S y<|by rwa[o]⟩).fj F) (λj b=>(D.S j b).elim (v j) λq=>Ô n q) λj b=>by rw[D.b];exact D.fA j b)⟩
  .refine⟨D.C,λj b=> ?_,λj b=> ?_,U,U,U,D.k,λj b u G=>D.jY j b (λq=>u<|À q) λy _=>t y,λy a u G=>D.N y a (λq=>u<|À q)<|t y,λy a u=>D.Y y a λq=>u<|À q,D.f,D.g,D.m,λe H=>aiW (D.I.trans m) (D.r.trans f) (D.M.trans d)<|D.c e H,D.h,D.q,λI=> ?_,D.b⟩
   .rcases b with q|q
    .exact(D.S j q).imp À id
    .exact À<|Á q
   .rcases b with q|q
    .exact D.fA j q
    .exact Ê (s.fA j<|À q)<|Ô n D.C
   .let⟨L,N,Q⟩:=D.i I;exact⟨L,N,by funext j;show((L' c).O j\/l.O j)=(x.O j\/l.O j);rw[Q]⟩
theorem fq.mB{l:fh}(s:gF l)(h:fq P yQ J (fB.mB l) g):fq P yQ (λe j=>∃b,J b j/\e=qP l b/\iV l e/\b.I=l.M/\b.N=l.C/\b.r=λ_=>False) l g:=by
 have:=h.aiX s U U U U U (fL.gd _ _) (λj q=>q.elim) λj q=>q.elim;have e:qP l (fB.mB l)=l:=by
  have:(λb=>False\/l.O b)=l.O:=by funext b;simp
  unfold qP fB.mB;simp only[this]
 grind
end
structure iG(E:Č->Prop)(l l':fh):Prop where
 O:∀j,l.O j->l'.O j
 h:∀j,l'.O j->l.O j\/l.w.heap.size<=j
 Y:l'.I=l.I
 I:l'.r=l.r
 c:l'.N=l.N
 K:l'.K=l.K
 q:l'.q=l.q
 d:l'.d=l.d
 fA:j0 l'
 f:l.w.heap.size<=l'.w.heap.size
 r:∀j,l.M j->l'.w.heap[j]?=l.w.heap[j]?
 e:∀a,l.C a->¬E a->l'.w.cell? a=l.w.cell? a
 S:∀a,l.C a->l'.w.frozen? a=l.w.frozen? a
 b:∀a,l.K a->(l.w.cell? a).isSome=Ì->(l'.w.cell? a).isSome=Ì
 g:∀a,E a->(l.w.cell? a).isSome=Ì->(l'.w.cell? a).isSome=Ì
section
variable{E:Č->Prop}{l l' l'':fh}
theorem iG.gd(h:j0 l):iG E l l:=⟨λ_ h=>h,λ_ h=>À h,U,U,U,U,U,U,h,Ç _,λ_ _=>rfl,λ_ _ _=>rfl,λ_ _=>rfl,λ_ _ h=>h,λ_ _ h=>h⟩
def iG.C(h:iG E l l'):l'.C=l.C:=by unfold fh.C;rw[h.I,h.c]
def iG.M(h:iG E l l')(a:l.M b):l'.M b:=a.imp (h.O b)<|by rw[h.Y];exact id
def iG.GX(h:iG E l l')(f:∀a,E a->l.r a)(k:iV l' l'')(g:l''.d=l'.d):iG E l l'':=by have e:=h.C;refine⟨λj c=>k.O j<|h.O j c,λj c=>(k.a j c).elim (h.h j) λq=>Á<|Ô h.f q,k.N.trans h.Y,k.S.trans h.I,k.Y.trans h.c,k.K.trans h.K,k.q.trans h.q,g.trans h.d,k.fA,Ô h.f k.r.r,λj c=>(k.r.I j<|h.M c).trans<|h.r j c,λa b i=>(k.r.N a<|by rwa[e]).trans<|h.e a b i,λa b=>(k.r.Y a<|by rwa[e]).trans<|h.S a b,λa b q=>k.r.S a (by rwa[h.K])<|h.b a b q,λa b q=> ?_⟩;rw[k.r.N a (by rw[e];exact À<|f a b)];exact h.g a b q
def iG.N(h:iG E l l')(b:∀a,E a->l.r a)(r:fL l' l'.w u):iG E l {l' with w:=u}:= h.GX b (l'':={l' with w:=u}) ((iV.gd h.fA).I r) U
def iG.qE(h:iG E l l')(s:gF l)(i:∀a,E a->l.r a){x:Č}(f:E x)(k:x.spot=Í)(m:(l'.w.cell? x).isSome=Ì):iG E l {l' with w:=l'.w.setCell x v}:=by
 refine⟨h.O,h.h,h.Y,h.I,h.c,h.K,h.q,h.d,λj c=> ?_,?_,λj c=>(lD λe=>s.N x (À<|i x f)<|e▸c).trans<|h.r j c,λa b g=>((By k λe=>g<|by rwa[e]).trans<|h.e a b g),λa b=>sT.trans<|h.S a b,λa b q=>yW<|h.b a b q,λa b q=>yW<|h.g a b q⟩
 .show j<(l'.w.setCell x v).heap.size;rw[j4];exact h.fA j c
 .show l.w.heap.size<=(l'.w.setCell x v).heap.size;rw[j4];exact h.f
def iG.G(h:iG E l l')(s:gF l):gF l' where
 c b hb:=by
  rw[h.Y];rcases h.h b hb with q|q
  .exact s.c b q
  .exact λz=>by have:=s.fA b<|Á z;omega
 Y a ha:=by rw[h.c];exact s.Y a<|by rwa[<-h.I]
 N a ha hb:=by
  rw[h.C]at ha;rcases hb with q|q
  .rcases h.h _ q with z|z
   .exact s.N a ha<|À z
   .have:=s.I a ha;omega
  .rw[h.Y]at q;exact s.N a ha<|Á q
 fA b hb:=by
  rcases hb with q|q
  .exact h.fA b q
  .rw[h.Y]at q;exact Ê (s.fA b<|Á q) h.f
 I a ha:=by rw[h.C]at ha;exact Ê (s.I a ha) h.f
 S a ha:=by
  rw[h.K]at ha;let⟨c,d,e⟩:=s.S a ha;refine⟨λq=> ?_,Ê d h.f,by rwa[h.I]⟩;rcases q with q|q
  .rcases h.h _ q with z|z
   .exact c<|À z
   .omega
  .rw[h.Y]at q;exact c<|Á q
end
section
variable{X:Type}{g:Array ã}{c:X->Nat->ã}{m:Array Bool->X->fh->Prop}{l:fh}{b:ø}{a:ō}{k:List Ţ}{cs:List ø}{x:X}
def II(Q:Array Ĭ)(g:Array ã)(c:X->Nat->ã)(m:Array Bool->X->fh->Prop)(wJ:Array Bool)(a:ō)(l:fh):Prop:=∃x,lP Q g (c x) wJ a/\m wJ x l
def KR(a:o.guard=Í)(y:Nat->Option Bool):á o y=Ì:=by unfold á;rw[a]
def iy(h:qO Q g.size=Ì)(j:lP Q g (c x) wJ a)(f:Q[i]?=Ã o)(n:o.guard=Í){md:Ý}(p:i∈Ò md Q wJ)(s:b.kind≠Đ)(t:j0 l)(u:¬l.q) (v:∀d,fL l l.w d->(Þ a.eval o).run P d=.ok (.value<|c x i) d) (y:∀d,fL l l.w d->∀e∈(Þ a.eval o).events P d #[],vN l e) (z:∀d,fL l l.w d->m (wJ.setIfInBounds i Ì) x {l with w:=d}): fq P yQ (λB C=>∃r,C=G (b.at r<|Æ Q jJ::k) cs/\II Q g c m (wJ.setIfInBounds i Ì) r B) l (G (b.at a<|Æ Q (i::jJ)::k) cs):= rS f (KR n _) s t u v y<|.fE λd r=>⟨_,U,x,j.fR h f p λ_=>rfl,z d r⟩
def Rp(h:qO Q g.size=Ì)(j:lP Q g (c x) wJ a)(f:Q[i]?=Ã o)(n:o.guard=Í)(e:o.dst=Í){md:Ý}(p:i∈Ò md Q wJ)(s:b.kind≠Đ)(t:j0 l)(u:¬l.q){y:Č}(z:y.spot=Í)(B:qj l y)(C:(l.w.cell? y).isSome=Ì)(D:l.w.frozen? y=É) (E:∀w,(w.cell? y).isSome=Ì->w.frozen? y=É->(Þ a.eval o).run P w=.ok .skip (w.setCell y v)) (F:∀w,(w.cell? y).isSome=Ì->w.frozen? y=É->(Þ a.eval o).events P w #[]=#[⟨ú y,Ì,É⟩]) (H:∀d,fL l (l.w.setCell y v) d->m (wJ.setIfInBounds i Ì) x {l with w:=d}): fq P yQ (λI J=>∃r,J=G (b.at r<|Æ Q jJ::k) cs/\II Q g c m (wJ.setIfInBounds i Ì) r I) l (G (b.at a<|Æ Q (i::jJ)::k) cs):=by refine aiV f (KR n _) s t u z B C e D E F (.fE λd r=>⟨_,U,x,?_,H d<|zq r⟩);have:=j.fR h f p (v:=Â) λq=>absurd e q;rwa[e]at this
theorem Y9(q:qO Q g.size=Ì)(s:lP Q g (c x) wJ a)(p:Q[i]?=Ã o)(t:o.guard=Í){md:Ý}(u:i∈Ò md Q wJ)(v:b.kind≠Đ)(y:j0 l){f:Ĵ}{args:Array ã} (z:∀w,(Þ a.eval o).run P w=.ok (.enter f args) w) (B:∀w,(Þ a.eval o).events P w #[]=#[]) (C:∀d,fL l l.w d->fq P yQ (λh n=>∃e,n=G ((b.at a<|Æ Q (i::jJ)::k).finish<|c e i) cs/\m (wJ.setIfInBounds i Ì) e h/\∀j,wJ.getD j É=Ì->c e j=c x j) {l with w:=d} (G (Ŷ P f args .normal)<|b.at a (Æ Q (i::jJ)::k)::cs)): fq P yQ (λh n=>∃r,n=G (b.at r<|Æ Q jJ::k) cs/\II Q g c m (wJ.setIfInBounds i Ì) r h) l (G (b.at a<|Æ Q (i::jJ)::k) cs):=by
 refine .mk U λd r=>⟨G (Ŷ P f args .normal)<|b.at a (Æ Q (i::jJ)::k)::cs,d,#[],{l with w:=d},?_,KE d<|my y r,?_⟩
 .rw[ŵ p (KR t _) v<|z d];unfold η;rw[B d,Ć]
 .refine(C d r).fT ?_;rintro h n ⟨e,rfl,D,E⟩;refine⟨a.put o.dst<|c e i,?_,e,(s.G E).fR q p u λ_=>rfl,D⟩;grind [ĩ]
end
end Go.Proofs.Y.fB
namespace Go.Proofs.YtgpphkdoanciiabGreatDoor
open Go Go.Conc Go.Conc.Lib
def Lk:ě:={add:=46,done:=49,wait:=36,relMerge:=89,disable:=52,enable:=54,inBubble:=60,associate:=90,fatal:=91,uOr:=92,uAdd:=93,raceRead:=94,uLoad:=53,uStore:=95,disassociate:=58,semrelease:=96,acquire:=55,isAssociated:=56,uCas:=57,raceWrite:=59,semacquire:=61,orU64:=134,addU64:=135,loadU64:=111,storeU64:=136,casU64:=112,tWgP:=155,tUP:=163,tAssoc:=195,tWg:=88,tAU:=85,tU64:=23,tUint:=161,tU32:=86,tPU32:=167,tPAU:=212,tPU64:=214,tNoCopy:=81,tANoCopy:=82,tAlign64:=83}
def qR:Ŕ ī Lk where
 f_add:=Tryz.func46;f_done:=Tryz.func49;f_wait:=Tryz.func36;f_relMerge:=Tryz.func89;f_disable:=Tryz.func52;f_enable:=Tryz.func54;f_inBubble:=Tryz.func60;f_associate:=Tryz.func90;f_fatal:=Tryz.func91;f_uOr:=Tryz.func92;f_uAdd:=Tryz.func93;f_raceRead:=Tryz.func94;f_uLoad:=Tryz.func53;f_uStore:=Tryz.func95;f_disassociate:=Tryz.func58;f_semrelease:=Tryz.func96;f_acquire:=Tryz.func55;f_isAssociated:=Tryz.func56;f_uCas:=Tryz.func57;f_raceWrite:=Tryz.func59;f_semacquire:=Tryz.func61;f_orU64:=Tryz.func134;f_addU64:=Tryz.func135;f_loadU64:=Tryz.func111;f_storeU64:=Tryz.func136;f_casU64:=Tryz.func112;underlying_tWgP:=Tryz.underlying155;runUnderlying_tWgP:=Tryz.runUnderlying155;sizeOf_tWgP:=Tryz.sizeOf155;isAgg_tWgP:=Tryz.isAgg155;zeroValue_tWgP:=Tryz.zeroValue155;underlying_tUP:=Tryz.underlying163;runUnderlying_tUP:=Tryz.runUnderlying163;sizeOf_tUP:=Tryz.sizeOf163;isAgg_tUP:=Tryz.isAgg163;zeroValue_tUP:=Tryz.zeroValue163;underlying_tI32:=Tryz.underlying195;runUnderlying_tI32:=Tryz.runUnderlying195;sizeOf_tI32:=Tryz.sizeOf195;isAgg_tI32:=Tryz.isAgg195;zeroValue_tI32:=Tryz.zeroValue195;underlying_tWg:=Tryz.underlying88;runUnderlying_tWg:=Tryz.runUnderlying88;sizeOf_tWg:=Tryz.sizeOf88;isAgg_tWg:=Tryz.isAgg88;zeroValue_tWg:=Tryz.zeroValue88;underlying_tAU:=Tryz.underlying85;runUnderlying_tAU:=Tryz.runUnderlying85;sizeOf_tAU:=Tryz.sizeOf85;isAgg_tAU:=Tryz.isAgg85;zeroValue_tAU:=Tryz.zeroValue85;underlying_tU64:=Tryz.underlying23;runUnderlying_tU64:=Tryz.runUnderlying23;sizeOf_tU64:=Tryz.sizeOf23;isAgg_tU64:=Tryz.isAgg23;zeroValue_tU64:=Tryz.zeroValue23;underlying_tSh:=Tryz.underlying161;runUnderlying_tSh:=Tryz.runUnderlying161;sizeOf_tSh:=Tryz.sizeOf161;isAgg_tSh:=Tryz.isAgg161;zeroValue_tSh:=Tryz.zeroValue161;underlying_tU32:=Tryz.underlying86;runUnderlying_tU32:=Tryz.runUnderlying86;sizeOf_tU32:=Tryz.sizeOf86;isAgg_tU32:=Tryz.isAgg86;zeroValue_tU32:=Tryz.zeroValue86;underlying_tPU32:=Tryz.underlying167;runUnderlying_tPU32:=Tryz.runUnderlying167;sizeOf_tPU32:=Tryz.sizeOf167;isAgg_tPU32:=Tryz.isAgg167;zeroValue_tPU32:=Tryz.zeroValue167;underlying_tPAU:=Tryz.underlying212;runUnderlying_tPAU:=Tryz.runUnderlying212;sizeOf_tPAU:=Tryz.sizeOf212;isAgg_tPAU:=Tryz.isAgg212;zeroValue_tPAU:=Tryz.zeroValue212;underlying_tPU64:=Tryz.underlying214;runUnderlying_tPU64:=Tryz.runUnderlying214;sizeOf_tPU64:=Tryz.sizeOf214;isAgg_tPU64:=Tryz.isAgg214;zeroValue_tPU64:=Tryz.zeroValue214;underlying_t0:=Tryz.underlying0;runUnderlying_t0:=Tryz.runUnderlying0;sizeOf_t0:=Tryz.sizeOf0;isAgg_t0:=Tryz.isAgg0;zeroValue_t0:=Tryz.zeroValue0;underlying_t3:=Tryz.underlying3;runUnderlying_t3:=Tryz.runUnderlying3;sizeOf_t3:=Tryz.sizeOf3;isAgg_t3:=Tryz.isAgg3;zeroValue_t3:=Tryz.zeroValue3;underlying_t4:=Tryz.underlying4;runUnderlying_t4:=Tryz.runUnderlying4;sizeOf_t4:=Tryz.sizeOf4;isAgg_t4:=Tryz.isAgg4;zeroValue_t4:=Tryz.zeroValue4;underlying_t9:=Tryz.underlying9;runUnderlying_t9:=Tryz.runUnderlying9;sizeOf_t9:=Tryz.sizeOf9;isAgg_t9:=Tryz.isAgg9;zeroValue_t9:=Tryz.zeroValue9;underlying_t20:=Ĺ;runUnderlying_t20:=Tryz.runUnderlying20;sizeOf_t20:=Tryz.sizeOf20;isAgg_t20:=Tryz.isAgg20;zeroValue_t20:=Tryz.zeroValue20;underlying_t21:=Tryz.underlying21;runUnderlying_t21:=Tryz.runUnderlying21;sizeOf_t21:=Tryz.sizeOf21;isAgg_t21:=Tryz.isAgg21;zeroValue_t21:=Tryz.zeroValue21;room_tWg:=by decide+kernel
 room_tU32:=by decide+kernel
end Go.Proofs.YtgpphkdoanciiabGreatDoor
namespace Go.Proofs.Y.fB
open Go Go.Conc Go.Proofs.Y.Lift Go.RowKit Go.Conc.Lib Go.ConcR.Gen
open Go.Proofs Go.Proofs.YtgpphkdoanciiabGreatDoor
def Za:Array Ĭ:=#[⟨Ã 3,.load 1<|ß 1,1, "waitgroup.go:258",#[],Í⟩,
 ⟨Ã 4,Ŭ {callee:=.value (ß 3),args:=#[],argTypes:=#[]},0, "waitgroup.go:258",#[⟨0,ý⟩],Í⟩]
section
variable{Ψ:Ð->Prop}{l:fh}
def Zb(b:l.K ⟨i,0,Í⟩/\l.K ⟨i,1,Í⟩)(c:mA Ψ l i)(a:SW Ψ l i l.w)(e:l.d=0)(f:¬l.q)(j:ia l ⟨n,0,Í⟩)(k:l.w.cell? ⟨n,0,Í⟩=Ã (ì<|Ã ⟨i,0,Í⟩)): fq ī É (λl g=>yY ī É i (D5 ī) (kI l) g) l (G ((baseD 47).at ⟨#[ì<|Ã ⟨n,0,Í⟩,v,x,z,jQ],[pE 48 #[ì<|Ã ⟨n,0,Í⟩] #[]]⟩ [Æ Za []]) [n5 ī]):=by
 apply gl (n:=30) a.1;have hF:=trivial;iterate 2 w_go fF
 u_c (aiK U ŷ gh U) fF hF
 walk_nrmf Tryz.f48;iterate 3 w_go fF
 u_c (aiJ U U U U U U U) fF hF
 walk_nrm;have m:=λw g=>aiS 20 w g Ĺ;repeat w_go fF
 refine Î λ_ _=> ?_;apply oW U U (by k_ne) a.1 f j k (λw h=>by go_simp) (λw h=>by simp[go_sem,h]);walk_nrm;apply gl (n:=30) a.1;u_call qR.f_done (nm_done Lk) doneFn fF hF;refine Î λ_ _=> ?_;apply aiD qR b c a e;walk_nrm;apply KJ U λ_=>stepG_region_end;apply KJ U λ_=>stepG_end;refine aiP U U ŷ U U<|aiO U U Tryz.func47 U
end
end Go.Proofs.Y.fB
