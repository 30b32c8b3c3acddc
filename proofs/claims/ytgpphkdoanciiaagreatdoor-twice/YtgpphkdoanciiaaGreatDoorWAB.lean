import Derived.Test.YtgpphkdoanciiaaGreatDoorWAA
import Derived.Conc.WgGenN3
import Derived.Conc.MuWords
import Derived.Conc.CompanyDraw
import Derived.Test.YtgpphkdoanciiaaGreatDoorRows
import Derived.Conc.WgLib
set_option linter.all false
set_option maxRecDepth 1000000
set_option maxHeartbeats 8000000
open Or renaming inl->À,inr->Á
open Go renaming undef->Â,Goroutine->Å,deafBehind->Ï,World->Ð,execOp->à,Trace->ç,Value->ì,stepG->í,Frame->Ā,MemOp->Ć,mem_ready->Ď,Addr->đ,Event->ė,getD_set_true->Ġ,Program->ġ,yielded->Ħ,TypeId->ĺ,FuncId->Ļ,Oper->Ľ,resolve->Ń,goexitEntry->Ś,Act->ś,runT->Ŝ,invoke->Ũ,callFunc->ũ,callDeferred->ŷ,Item->Ź,Deferred->ż,Operand->Δ,unwind->Χ,Mark->κ,runNT->ς,Code->χ,Loc->ai
open Option.some renaming inj->Ã,injEq->Ŀ
open Option renaming some->Ä,none->Í,map_eq_some_iff->Ú,isSome_iff_exists->î,getD_some->Č
open Go.GoStatus renaming running->Æ,blocked->Þ,finished->ë
open Nat renaming le_refl->Ç,lt_of_lt_of_le->Ê,le_of_eq->Ö,le_trans->Ù,le_mul_of_pos_right->å,mul_le_mul_left->ñ,lt_of_not_le->ó,zero_le->ô,add_zero->ö,lt_or_ge->ø,le_of_not_lt->ĉ,and_two_pow_sub_one_eq_mod->Ċ,mul_le_mul_right->Ē,strongRecOn->Ĕ,add_mul_mod_self_right->Ę,mul_add->į,eq_zero_or_pos->ķ,mod_eq_of_lt->ň,and_assoc->Ů,add_mul->Ż,mod_lt->Θ
open Go.Item renaming inRegion->È,code->ļ,inBlock->ŝ,inLoop->ο
open Bool renaming false->É,true->Î,and_eq_true->Ő
open Go.MemAct renaming ofEvent->Ë,touch?->Đ,mark->Ğ,start->ĸ,go->ak
open Go.Conc.Goes renaming stop->Ì
open Go.ConcN renaming sumTo->Ñ,wraps_u64_63->û,sumTo_congr->Į
open Array renaming getElem?_eq_some_iff->Ò,append_empty->Û,getElem?_eq_getElem->Ü,getElem?_setIfInBounds_ne->á,replicate->æ,getElem?_eq_none->ê,mem_toList_iff->ÿ,getElem?_push->Ă
open Go.Region renaming ready->Ó,Mode->ß,wanted->ä,binds->Ÿ
open Go.IntKind renaming u64->Ô,u32->è,i64->Ņ
open Go.Operand renaming tmp->Õ,const->ï,func->ł
open Go.Conc renaming mem_ofEvents->Ø,crowd->ò,semEvents->ú,woken->Ą,stepG_markAt->ć,stepG_load_atomic->Ĉ,seen_none->ċ,stepG_mark0->ē,stepG_semacquire_wait->ĭ,Goes->Ĺ,deafBehind_still->ņ,parked->Ň,stepG_semrelease->ŋ,stepG_add_atomic->Ō,stepG_semacquire->ō,stepG_value->ő,rcase->Š,stepG_none->Ţ,goes_go->Ŵ,stepG_enter->Α,QuitsD->Ε,touch_mute->Ζ,stepG_oper->Υ,mem_listed->ε,Knows->η,listed->φ,Deaf->ω
open Go.MemOp renaming ofEvents->Ý
open Go.Ground renaming data->â,phase->ħ
open Go.ConcR renaming DC0->ã
open Go.Value renaming int->é,pointer->ü,nilIface->ą,tuple->ŉ,bool->Ι
open Go.Mark renaming enable->ð,disable->ù,releaseMerge->Ķ,acquire->ľ,write->ρ
open Ne renaming symm->õ
open Go.FrameMode renaming returning->ý
open Go.Act renaming eval->þ,put->Ş
open Go.Loc renaming cell->ā,mark->ź
open Go.Region.linearise renaming go->ă
open Go.Deferred renaming ofValue->č
open List renaming all_eq_true->ď,any_eq_true->ŏ,mem_range->ū,mem_cons->Ű,range->ζ
open Go.Goroutine renaming again->ĕ
open Go.CallKind renaming early->Ė,deferred->Ŏ
open Go.ConcR.Gen renaming x_semrelease_b->ę,x_semacquire_n->Ě,x_semacquire_b->ě,x_semacquire_x->Ĝ,x_semacquire_f->ĝ,x_enable_n->Ĩ,x_enable_b->ĩ,x_enable_x->Ī,x_enable_f->ī,x_loadU64_n->İ,x_loadU64_b->ı,x_loadU64_x->Ĳ,x_loadU64_f->ĳ,x_disable_n->Œ,x_disable_b->œ,x_disable_x->Ŕ,x_disable_f->ŕ,x_acquire_n->Ŗ,x_acquire_b->ŗ,x_acquire_x->Ř,x_acquire_f->ř,x_semrelease_n->Ť,x_semrelease_x->ť,x_semrelease_f->Ŧ,nm_uLoad->ŧ,mayWake_entry->ů,body_wait->Ų,x_addU64_n->Κ,x_addU64_b->Λ,x_addU64_x->Μ,x_addU64_f->Ν,x_casU64_n->Ξ,x_casU64_b->Ο,x_casU64_x->Ρ,x_casU64_f->Τ
open Go.GStep renaming after->ğ,go->Ŭ
open Go.Stepped renaming next->Ģ
open Go.Callee renaming value->Ĥ
open Go.Code renaming region->ĥ,cond->π,block->υ,skip->ah
open Go.Frame renaming finish_at->Ĭ,enter->Β
open Go.Proofs.Tryz renaming prog->Ĵ,underlying20->ń,func64->Γ
open Go.Op renaming move->Ł,call->ţ,fieldAddr->ŵ,nilCheck->Ž,binOp->ž,equalIn->Ω,assign->ξ
open Go.Conc.Lib renaming WgLink->Ŋ,WgLib->ű,uLoadFn->Ŷ
variable{i n j b k m J j9 j7 j6:Nat}{w u W jX:Ð}{v x z jQ:ì}{g:Å}{a p:đ}{h c:Int}{e t T:ĺ}{d q:Array ì}{P:ġ}{y:ś}{B:ByteArray}{X:Nat->Prop}{O:Option đ}{l:List ì}{yQ:Bool}{K H:ś->Ð->Prop}{o:Ľ}{D:Nat->Nat}{E:Array Å}{L:List Ź}{jJ:List Nat}{qX:List Ā}{qQ:Δ}{qJ:ç}{zX:ai->Prop}{zQ:List Int}{zJ:Go.TypeInfo}{xX:Δ->ì}{xQ:Go.Tape}{xJ:Nat×Nat}{wX:χ}{wQ:Ć}{wJ:Array Bool}{vX:List ByteArray}{vQ:ì->Ð->Prop}{vJ:Go.Exit->ś->Ð->Prop}{yX:ß}{Q:Array Ľ}{f:Ā}{V:Array ė}{F:Ļ}{s:Go.Func}
namespace Go.Proofs.Y.fv
open Go Go.Conc Go.Proofs.Y.Lift
open Go.ConcN (sumTo)
section
variable{F:Ph}{E:fS F}{S:Nat->Jd}{tr:Nat->gu}{c:Nat->iz}{lot:Nat->fe}{gs:Array Å}{w':Ð}{t u:ç}{sz:Nat}
def wY(h:F.M b):F.G (fM b)/\F.G (gP b):=⟨⟨b,h,À U⟩,⟨b,h,Á U⟩⟩
def wZ(h:F.G a):E.Y a.block:=by obtain⟨b,c,rfl|rfl⟩:=h<;>exact À c
def iG.Y(L:iG F E lot sz w)(ok:F.Ok)(f:F.G a):∀i,i<sz->¬(lot i).C a:=by
 intro i g h;let⟨b,c,d⟩:=f;rcases L.gS i g a h with⟨k,_,e⟩|⟨p,_,e⟩
 .rcases d with rfl|rfl<;>simp[fM,gP,jf]at e
 .rcases d with rfl|rfl
  .simp only[fM,jm]at e;injection e with e1 _ _;exact ok.C<|e1▸c
  .simp only[gP,jm]at e;injection e with e1 _ _;exact ok.C<|e1▸c
def iG.sN(L:iG F E lot sz w)(c:Ps F E)(d:j+2<=E.r):∀i,i<sz->∀a:đ,a.block=E.I j->¬(lot i).C a:=by
 intro i f a b g;let⟨h,l,_⟩:=c.o j d;rcases L.gS i f a g with⟨k,m,e⟩|⟨p,_,e⟩
 .exact h<|by rw[<-b,e];exact Á ⟨k,m,U⟩
 .exact l<|by rw[<-b,e];rfl
def iG.agh(L:iG F E lot sz w):∀i,i<sz->∀a,(lot i).C a->a.spot=Í:=by intro i b a c;rcases L.gS i b a c with⟨k,_,rfl⟩|⟨p,_,rfl⟩<;>rfl
def iG.Qd(L:iG F E lot sz w)(ok:F.Ok):∀i,i<sz->¬(lot i).r (jm F F.f):=by
 intro i a h;rcases L.gS i a _ (À h)with⟨k,b,e⟩|⟨p,c,e⟩
 .have:F.Y=F.I k:=by injection e
  exact ok.C<|by rw[this];exact Á ⟨k,b,U⟩
 .have:F.f=p:=by injection e
  exact c this.symm
structure Ho(F:Ph)(E:fS F)(lot:Nat->fe)(sz:Nat)(w w':Ð):Prop where
 EE:w.heap.size<=w'.heap.size
 C:∀b,b<w.heap.size->¬E.Y b->(∀i,i<sz->¬(lot i).O b)->w'.heap[b]?=w.heap[b]?
 r:∀a:đ,((∃k,k<=F.m/\a=jf F.toFx k)\/∃p,a=jm F p)->(∀i,i<sz->¬(lot i).r a)->w'.cell? a=w.cell? a
 I:kP w' F.Y=kP w F.Y
 M:w'.os=w.os/\w'.output=w.output
def Wd.K7(W:Wd F E w)(H:gQ F)(L:iG F E lot sz w)(a:Ho F E lot sz w w')(f:E.S.md<=F.m){d:GS}{e:Nat->GS}(g:hD w' F.C d)(h:∀k,k<=F.m->hD w' (F.I k) (e k))(i:∀j,j+2<=E.r->w'.heap[E.I j]?=w.heap[E.I j]?):Wd F {E with b:=d,a:=e} w' where
 C:=g;I:=h;jG j hj:=by have:=W.jG j hj;rwa[<-i j hj]at this
 M k hk:=⟨(W.M k hk).1,H.S _ _ _ _ _ (W.M k hk).2 (λb c=>a.C b (L.I k hk b c).1 (L.I k hk b c).2.1 (L.I k hk b c).2.2) (a.r _ (À ⟨k,Ù hk f,U⟩)<|L.N k hk) (a.r _ (Á ⟨_,U⟩)<|L.Qd H.C) a.I a.M⟩;S k h1 h2:=(a.r _ (Á ⟨_,U⟩)<|L.g k h1 h2).trans<|W.S k h1 h2;N j hj r hr hd:=(a.r _ (Á ⟨_,U⟩)<|L.d j hj r hr hd).trans<|W.N j hj r hr hd
def K8(a:Ps F E):E.S.md<=F.m:=by
 cases h:E.S with
 |kH k=>exact(a.I k).1 h
 |mk k=>have:=((a.I k).2.1 h).2;simp only[jx.md];omega
 |dn k p=>exact((a.I k).2.2 p h).2
def K9(a:Ps F E):E.S.rl<=E.S.md:=by
 cases h:E.S with
 |dn k p=>cases p<;>simp only[jx.rl,jx.md]<;>omega
 |_=>exact Ç _
def Qe(a:jx):a.od<=a.rl:=by
 cases a with
 |dn k p=>cases p<;>simp only[jx.rl,jx.od]<;>omega
 |_=>exact Ç _
def XC{x:Nat}(h:E.iu x):E.oc x:=by let⟨e,a,b⟩:=h;exact⟨e,a,by cases e<;>first|exact b|trivial⟩
def La{l a:fe}(h:l=kx l)(b:mr l a w w' V):a=kx a:=by
 have j:l.q:=by rw[h];trivial
 have c:a.O=λ_=>False:=by rw[(b.i j).2.2,h];rfl
 have e:a.I=λ_=>False:=by rw[b.I,h];rfl
 have f:a.r=λ_=>False:=by rw[b.r,h];rfl
 have g:a.N=λ_=>False:=by rw[b.M,h];rfl
 have i:a.q=True:=by rw[b.q,h];rfl
 obtain⟨O,k,m,n,d,q,o⟩:=a;simp only at c e f g i;subst c e f g i;rfl
def iG.fq(L:iG F E lot gs.size w)(C:iQ F.S (λi=>i<gs.size) E.Y lot w t){m:fe}(N:i<gs.size)(f:mr (lot i) m w w' V):iG F E (gq lot i m) gs.size w':=by
 have D:∀x,E.oc x->i=F.L+x->m=kx m:=λx p e=>La (e▸L.S x p) f;have G:=λc g=>La (L.c i c g) f;have H:∀k a,(gq lot i m k).C a↔(lot k).C a:=λk a=>by
  by_cases e:k=i
  .subst e;rw[gT];unfold fe.C;rw[f.r,f.M]
  .rw[gF lot _ e]
 have n:∀k,(gq lot i m k).r=(lot k).r:=λk=>by
  by_cases e:k=i
  .subst e;rw[gT,f.r]
  .rw[gF lot _ e]
 have s:∀k,(gq lot i m k).N=(lot k).N:=λk=>by
  by_cases e:k=i
  .subst e;rw[gT,f.M]
  .rw[gF lot _ e]
 have u:∀k,(gq lot i m k).I=(lot k).I:=λk=>by
  by_cases e:k=i
  .subst e;rw[gT,f.I]
  .rw[gF lot _ e]
 refine⟨λk l a v=>L.gS k l a<|(H k a).1 v,λx c g a v=>by rw[n];exact L.o x c g a v,λh=>by rw[s,u];exact L.lO h,λh k c g=>by rw[n];exact L.e h k c g,λh o=>by rw[s,u];exact L.f h o,λj d o r y c=>by rw[n];exact L.h j d o r y c,λj d o=>by rw[s,u];exact L.l j d o,λx p=> ?_,λk l=> ?_,λk c g=> ?_,λk l b I=> ?_,λk l j d=>by rw[n];exact L.N k l j d,λk c g j d=>by rw[n];exact L.g k c g j d,λj d r y J k l=>by rw[n];exact L.d j d r y J k l⟩
 .by_cases e:F.L+x=i
  .rw[e,gT];exact D x p e.symm
  .rw[gF lot _ e];exact L.S x p
 .by_cases e:k=i
  .subst e;rw[gT,f.q];exact L.M k l
  .rw[gF lot _ e];exact L.M k l
 .by_cases e:k=i
  .subst e;rw[gT];exact G c g
  .rw[gF lot _ e];exact L.c k c g
 .let⟨K,M,B⟩:=L.I k l b I;refine⟨Ê K f.C,M,λj d=> ?_⟩;by_cases e:j=i
  .subst e;rw[gT];intro q;rcases f.S b q with z|z
   .exact B j d z
   .omega
  .rw[gF lot _ e];exact B j d
def agi(C:iQ F.S (λi=>i<gs.size) E.Y lot w t){h:fe}(d:i<gs.size)(c:mr (lot i) h w w' V):Ho F E lot gs.size w w':= ⟨c.C,λb j e f=>c.jR b j (f i d) λa g q=>e<|g▸C.e i d a (À q),λa g f=>by
   have e:E.Y a.block:=by
    rcases g with⟨k,l,rfl⟩|⟨p,rfl⟩
    .exact À<|Á ⟨k,l,U⟩
    .exact Á<|À U
   exact c.N a (C.N _ e) (λq=>C.I i d _ (À q) e)<|f i d,
  c.Y (jm F 0) (C.N _ (Á (À U))) λq=>C.I i d _ (À q) (Á (À U)),c.f,c.g⟩
def XD(L:iG F E lot gs.size w)(ok:F.Ok)(C:iQ F.S (λi=>i<gs.size) E.Y lot w t){g:fe}(e:i<gs.size)(c:mr (lot i) g w w' V)(f:F.M b){G:GS}(h:hD w b G):hD w' b G:=by have a:E.Y b:=À f;have d:=λq=>C.I i e _ (À q) a;exact h.vt (c.N (fM b) (C.N _ a) d λq=>(L.Y ok (wY f).1 i e)<|À q) (c.N (gP b) (C.N _ a) d λq=>(L.Y ok (wY f).2 i e)<|À q) (KS<|c.Y (fM b) (C.N _ a) d)<|KS<|c.Y (gP b) (C.N _ a) d
def agj(L:iG F E lot gs.size w)(e:Ps F E)(C:iQ F.S (λi=>i<gs.size) E.Y lot w t){f:fe}(b:i<gs.size)(g:mr (lot i) f w w' V)(c:j+2<=E.r):w'.heap[E.I j]?=w.heap[E.I j]?:=by have d:E.Y (E.I j):=Á<|Á ⟨j,c,U⟩;exact g.jR _ (C.N _ d) (λq=>C.I i b _ (À q) d) λa h q=>L.sN e c i b a h<|À q
def agk(L:iG F E lot gs.size w)(H:Ps F E)(ok:F.Ok)(C:iQ F.S (λi=>i<gs.size) E.Y lot w t)(Q:gs.size=F.L+E.r){m:fe}{s:Array ė}{u:Ļ}{B:String}(o:i<gs.size)(g:mr (lot i) m w w' s): K5 F.toFx E.r (E.S.rl) E.V E.d E.iu t (Ý i u B s) i:=by
 have K:∀x,E.iu x->i=F.L+x->m=kx m:=λx l e=>La (e▸L.S x (XC l)) g;have D:∀c∈Ý i u B s,∀a,c.act.touch?=Ä a->∃y:đ,a.loc=ā y/\(m.O y.block\/m.r y\/((m.I y.block\/m.N y)/\a.write=É)):=λc d a n=>by obtain⟨e,r,rfl⟩:=Ø d;exact Xl (g.c e r) n
 have I:m=kx m->∀c∈Ý i u B s,c.act.touch?=Í:=λe c d=>by
  cases h:c.act.touch? with
  |none=>rfl
  |some a=>
   let⟨y,_,q⟩:=D c d a h;rw[e]at q;rcases q with q|q|⟨q|q,_⟩<;>exact q.elim
 refine⟨λc d _ _=>oa c d,?_,λc d a x n G l=> ?_,λc d a y n J G k h p=> ?_,λc d b _ e=> ?_,λx l M=> ?_⟩
 .by_cases j:i=0
  .exact À j
  .by_cases f:i<F.L
   .exact Á<|Á<|I<|(λh p=>La (L.c i h p) g) Z f
   .exact Á<|À ⟨i-F.L,Z,Z⟩
 .exfalso;let⟨y,j,q⟩:=D c d a n;rw[G]at j;injection j with j;subst j;have f:=wZ (E:=E) l;have v:=L.Y ok l i o;rcases q with q|q|⟨q|q,_⟩
  .rcases g.S _ q with z|z
   .exact C.I i o _ (À z) f
   .have:=C.N _ f;omega
  .exact v<|À<|by rwa[<-g.r]
  .exact C.I i o _ (Á<|by rwa[<-g.I]) f
  .exact v<|Á<|by rwa[<-g.M]
 .have j:=Ù p<|K9 H;let⟨x,l,q⟩:=D c d a n;rw[G]at l;injection l with l;subst l;rcases q with q|q|⟨_,q⟩
  .refine⟨λv=> ?_,λe=> ?_⟩
   .let⟨P,_,N⟩:=L.I k j _ v;rcases g.S _ q with z|z
    .exact N i o z
    .omega
   .have f:E.Y y.block:=by rw[e];exact À<|Á ⟨k,Ù j<|K8 H,U⟩
    rcases g.S _ q with z|z
    .exact C.I i o _ (À z) f
    .have:=C.N _ f;omega
  .refine⟨λv=>((L.I k j _ v).2.1<|C.e i o y<|À<|by rwa[<-g.r]),λe=>(L.N k j i o<|by rwa[<-g.r,<-e])⟩
  .rw[q]at J;cases J
 .obtain⟨j,r,rfl⟩:=Ø d;have v:=g.c j r;let⟨N,P,S⟩:=j;simp only[Ë]at e;rcases v with⟨a,h,_⟩|h|⟨f,h⟩|h|h|⟨a,_,h|h|h|h⟩<;>(simp only at h;subst h;simp at e)
 .by_cases e:F.L+x=i
  .have v:=I<|K x M e.symm;refine⟨λr f=>f.app λj S T N=> ?_,λ_ c d a n=>by rw[v c d]at n;cases n⟩;let⟨z,P,_⟩:=N;rcases mN (show touchAt (t++_) j=Ä z from P)with⟨q,_⟩|⟨_,c,h,p,_⟩
   .omega
   .rw[v c h]at p;cases p
  .exact⟨λr f=>f.appOther oa<|õ e,λj=>absurd j e⟩
end
abbrev tR:=Nat×Nat×gu
def yJ(x y:tR):Prop:=x.1<y.1\/(x.1=y.1/\(x.2.1<y.2.1\/(x.2.1=y.2.1/\Xo x.2.2 y.2.2)))
def XF:WellFounded yJ:=by
 refine⟨λx=> ?_⟩;let⟨a,b,c⟩:=x
 induction a using Ĕ generalizing b c with
 |_ a j=>
  induction b using Ĕ generalizing c with
  |_ b k=>
   induction Xp.apply c with
   |intro c _ l=>
    refine⟨_,λy h=> ?_⟩;let⟨m,f,e⟩:=y;rcases h with h|⟨d,h|⟨g,i⟩⟩
    .exact j m h f e
    .simp only at d h;subst d;exact k f h e
    .simp only at d g i;subst d g;exact l e i
def agl(x:tR):¬yJ x x:=by
 intro h
 induction XF.apply x with
 |intro x _ a=>exact a x h h
def Ef(n:Nat)(f g:Nat->tR):Prop:=∃i,i<n/\yJ (f i) (g i)/\∀j,j<n->j≠i->f j=g j\/yJ (f j) (g j)
def XG:∀(n:Nat) (g:Nat->tR),Acc (Ef n) g
 |0,g=>⟨_,λf ⟨i,h,_⟩=>absurd h Z⟩
 |n+1,g=>by
  have k:∀(x:tR) (h:Nat->tR),∀g:Nat->tR,g n=x->(∀j,j<n->g j=h j)->Acc (Ef<|n+1) g:=by
   intro x
   induction XF.apply x with
   |intro x _ l=>
    intro h
    induction XG n h with
    |intro h _ m=>
     intro g b c;refine⟨_,λf ⟨i,r,a,d⟩=> ?_⟩;by_cases e:f n=g n
     .have s:i≠n:=by
       intro q;subst q;rw[e]at a;exact agl _ a
      refine m f ⟨i,Z,by rwa[<-c i Z],λj o p=> ?_⟩ f (e.trans b) λ_ _=>rfl;rw[<-c j o];exact d j Z p
     .have:yJ (f n) x:=by
       rw[<-b];by_cases q:n=i
       .rwa[q]
       .exact(d n Z q).resolve_left e
      exact l _ this f f U λ_ _=>rfl
  exact k (g n) g g U λ_ _=>rfl
abbrev Mu:=(Nat->tR)×Nat
def pe(n:Nat)(x y:Mu):Prop:=Ef n x.1 y.1\/((∀j,j<n->x.1 j=y.1 j)/\x.2<y.2)
def agm(n:Nat):WellFounded (pe n):=by
 have e:∀h:Nat->tR,∀k:Nat,∀g:Nat->tR,(∀j,j<n->g j=h j)->Acc (pe n) (g,k):=by
  intro h
  induction XG n h with
  |intro h _ l=>
   intro k
   induction k using Ĕ with
   |_ k m=>
    intro g a;refine⟨_,λy q=> ?_⟩;let⟨f,b⟩:=y;rcases q with⟨i,c,o,x⟩|⟨p,r⟩
    .exact l f ⟨i,c,by rwa[<-a i c],λj d s=>by rw[<-a j d];exact x j d s⟩ b f λ_ _=>rfl
    .exact m b r f λj x=>(p j x).trans<|a j x
 exact⟨λx=>e x.1 x.2 x.1 λ_ _=>rfl⟩
section
variable(F:Ph)
def jF.rk(n:Nat):jF->Nat
 |.jD=>n+1011
 |.iD=>n+1010
 |.gy W=>min W (n+1000)+4
 |.jb W=>min W (n+1000)+3
 |.iA r=>min r (n+1000)+2
def jk.rk:jk->Nat
 |.iW=>7
 |.lV _=>6
 |.wr=>5
 |.kv=>4
 |.gy=>3
 |.kX=>2
def fU.rk(F:Ph):fU->Nat
 |.iD j=>F.q+F.n+20+4*(F.n-j)+7
 |.rd j=>F.q+F.n+20+4*(F.n-j)+6
 |.lA j=>F.q+F.n+20+4*(F.n-j)+5
 |.go j=>F.q+F.n+20+4*(F.n-j)+4
 |.iI r=>r+F.n+11
 |.kQ r=>r+10
 |.fy p=>p.rk+2
 |.gf=>0
def jx.rk(F:Ph):jx->Nat
 |.kH k=>(F.n+3000)*(F.m+2-k)+2900
 |.mk k=>(F.n+3000)*(F.m+3-k)+2800
 |.dn k p=>(F.n+3000)*(F.m+2-k)+2901+p.rk F.n
def gM.rk(F:Ph):gM->Nat
 |.np r=>(F.n+3000)*(F.q+3-r)
 |.fy r p=>(F.n+3000)*(F.q+3-r)-20+p.rk
 |.jI r=>(F.n+3000)*(F.q+3-r)-30
 |.nj r=>(F.n+3000)*(F.q+3-r)-40
def ij.rk(F:Ph):ij->Nat×Nat
 |.oE=>(F.n+2900,0)
 |.gf p=>(p.rk F.n,0)
 |.jr N=>(0,N)
end
def SP.rk(B:Nat)(st:Int):SP->Nat
 |.gd k=>B+2+k
 |.ld v k=>if st=v then k+1 else 2*B+3+k
def jk.ln(B:Nat)(st:Int):jk->Nat
 |.lV p=>p.rk B st
 |_=>0
section
variable{F:Ph}
def fS.iR(E:fS F)(tr:Nat->gu)(i:Nat):tR:=
 if i=0 then(E.M.rk F,0,tr 0)
 else if i<F.L then(0,E.h i,.fB)
 else match E.N (i-F.L)with
  |some e=>((e.rk F).1,(e.rk F).2,tr i)
  |none=>if i=F.L then(E.S.rk F,0,tr i)else((E.C<|i-F.L-1).rk F,0,tr i)
def fS.ln(E:fS F)(i:Nat):Nat:=
 if i=0 then(match E.M with|.fy p=>p.ln F.B E.b.st|_=>0)
 else if i<=F.L then 0
 else match E.C (i-F.L-1)with|.fy r p=>p.ln F.B (E.a<|F.r<|i-F.L-1+r*F.n).st|_=>0
def gk(gs:Array Å)(i:Nat):Nat:=if(gs[i]?).any (·.status==.running)then 1 else 0
def Ph.N(F:Ph):Nat:=F.L+F.n+1
def fS.mu(E:fS F)(a:Nat->gu)(b:Array Å):Mu:=(E.iR a,Ñ F.N λi=>(F.N+1)*E.ln i+gk b i)
end
def Hp{c x:Å}(h:(Ą P g c w x).status=Þ):Ą P g c w x=x/\x.status=Þ:=by
 unfold Ą at h|-;split at h
 .rename_i b;rw[if_pos b];unfold ĕ at h|-;split at h
  .rename_i d e;simp only at h|-;split at h
   .cases h
   .rename_i f;simp only[d,e];exact⟨by rw[if_neg f],trivial⟩
  .cases h
  .cases h
  .rename_i d e f;exact⟨U,h⟩
 .rename_i b;rw[if_neg b];exact⟨U,h⟩
section
variable{F:Ph}{E:fS F}{S:Nat->Jd}{tr:Nat->gu}{d:Nat->iz}{lot:Nat->fe}{gs gs':Array Å}{w':Ð}{t u:ç}{sl:Option (Nat×Nat)}
def fh.Hg(h:fh F E gs w)(o:gs'[i]?=Ä g)(p:g.status≠Þ)(t:∀k,k≠i->∃a f:Å,gs'[k]?=gs[k]?.map (Ą F.P a f w'))(u:∀j,j+2<=E.r->w'.heap[E.I j]?=w.heap[E.I j]?):fh F E gs' w':=by
 intro k x b l;by_cases e:k=i
 .subst e;rw[o]at b;obtain rfl:=Ã b;exact absurd l p
 .let⟨a,f,q⟩:=t k e;rw[q]at b;obtain⟨y,v,rfl⟩:=Ú.1 b;let⟨_,z⟩:=Hp l;rcases h k y v z with h1|⟨j,c,m,n,d|⟨r,B,s,C,d,D⟩⟩
  .exact À h1
  .exact Á ⟨j,c,m,n,À d⟩
  .exact Á ⟨j,c,m,n,Á ⟨r,B,s,C,d,by rwa[u j c]⟩⟩
def lB{J:Jd}(a:∀l g,J l g->g.status=Æ\/g.status=ë){l:fe}(h:fi P yQ J l g):g.status=Æ\/g.status=ë:=by
 cases h with
 |fB h=>exact a _ _<|h _<|fH.fT _ _
 |jv _ _ _ _ b=>exact À b
def agn(H:gQ F)(p:PI F m zX E S tr d lot gs w t){i:Nat}(hi:i<gs.size):∀l g,S i l g->g.status=Æ\/g.status=ë:=by
 have dn:∀(main:Bool) (b:Nat) (J:Jd),(∀l g,J l g->g.status=Æ\/g.status=ë)->∀(p:jF) l g,EA F.P main b J p l g->g.status=Æ\/g.status=ë:=by
  intro main b J hJ p l g h;cases p with
  |jD=>exact À h.2.1
  |iD=>exact À h.2.1
  |gy W=>exact À h.2.1
  |jb W=>exact À h.2.1
  |iA r=>cases r with
   |zero=>exact hJ l g h
   |succ r=>exact À h.2.1
 have wt:∀(main:Bool) (b:Nat) (J:Jd) (p:jk) l g,qI F.P main F.B b J p l g->g.status=Æ:=by
  intro main b J p l g h;cases p with
  |iW=>let⟨k,_,_,T,h1,h2⟩:=h;exact(h2 _ _ h1).1
  |lV p=>let⟨_,T,h1,h2⟩:=h;exact(h2 _ _ h1).1
  |wr=>exact h.2.1
  |kv=>exact h.2.1
  |gy=>exact h.2.1
  |kX=>exact h.2.1
 intro l g h;by_cases e0:i=0
 .subst e0;rw[p.h.1]at h;cases hm:E.M with
  |go j=>rw[hm]at h;exact À<|H.I _ _ _ _ h
  |lA j=>rw[hm]at h;let⟨c,h⟩:=h;exact À<|H.I _ _ _ _ h
  |rd j=>rw[hm]at h;exact À h.2.1
  |iD j=>rw[hm]at h;exact À h.2.1
  |iI r=>
   rw[hm]at h;have cl:∀r l g,AP F E.I r l g->g.status=Æ:=λr l g h=>by
    cases r with
    |zero=>exact wt _ _ _ .iW _ _ h
    |succ r=>exact h.1
   cases r with
   |zero=>exact À<|cl _ _ _ h
   |succ r=>exact À h.1
  |kQ r=>
   rw[hm]at h;cases r with
   |zero=>exact À<|wt _ _ _ .iW _ _ h
   |succ r=>exact À h.1
  |fy p=>rw[hm]at h;exact À<|wt _ _ _ _ _ _ h
  |gf=>rw[hm]at h;exact À<|H.M _ _ _ h
 by_cases e1:i<F.L
 .rw[(p.l i Z e1).1]at h;exact QuitsD.status h
 have jH:=p.b;obtain⟨x,rfl⟩:∃x,i=F.L+x:=⟨i-F.L,Z⟩;cases he:E.N x with
 |some e=>
  rw[(p.k x e Z he).1]at h;cases e with
  |oE=>exact À h.2.1
  |gf p=>exact dn _ _ _ (λl g ⟨N,h⟩=>h.status) _ _ _ h
  |jr N=>exact QuitsD.status h
 |none=>
  cases x with
  |zero=>
   rw[ö,(p.m Z he).1]at h;cases hm:E.S with
   |kH k=>rw[hm]at h;exact À<|H.N _ _ _ h
   |mk k=>rw[hm]at h;let⟨s',V,_,_,_,_,h⟩:=h;exact À h.2.1
   |dn k p=>rw[hm]at h;exact dn _ _ _ (λl g h=>lB (λl g h=>À<|H.N _ _ _ h) h) _ _ _ h
  |succ j=>
   rw[show F.L+(j+1)=F.L+1+j by omega,(p.g j Z he).1]at h;cases hm:E.C j with
   |np r=>rw[hm]at h;exact À h.1
   |fy r p=>rw[hm]at h;exact À<|wt _ _ _ _ _ _ h
   |jI r=>rw[hm]at h;exact À<|H.Y _ _ _ _ h
   |nj r=>rw[hm]at h;exact À h.2.1
def agp{T:gu}(h:k≠i):E.iR (fw tr i T) k=E.iR tr k:=by
 unfold fS.iR;split
 .rename_i e;subst e;rw[fI tr _ h]
 .split
  .rfl
  .rw[fI tr _ h]
def agq{k:Ð->gu}(a:tr i=.jv k)(b:¬(0<i/\i<F.L)):yJ (E.iR (fw tr i<|k w) i) (E.iR tr i):=by
 unfold fS.iR;split
 .rename_i e;subst e;rw[gB,a];exact Á ⟨U,Á ⟨U,w,U⟩⟩
 .split
  .exact absurd ⟨Z,‹_›⟩ b
  .rw[gB,a];split
   .exact Á ⟨U,Á ⟨U,w,U⟩⟩
   .split<;>exact Á ⟨U,Á ⟨U,w,U⟩⟩
def PI.fq(H:gQ F)(p:PI F m zX E S tr d lot gs w t){k:Ð->gu}(G:gs[i]?=Ä g)(f:tr i=.jv k): ∃gs' w' u e q,Ŝ F.P (ò gs w sl) i=(Ģ<|ò gs' w' sl,u)/\gs'.size=gs.size/\PI F m zX E S e d q gs' w' (t++u)/\pe F.N (E.mu e gs') (E.mu tr gs):=by
 have c:=(Ò.1 G).1;let⟨gs',w',X,Y,K,v,⟨g',M,O⟩,Q,h,T⟩:=p.I.fq (sl:=sl) G f<|agn H p c;have I:¬(0<i/\i<F.L):=λ⟨a,b⟩=>by rw[(p.l i a b).2.1]at f;cases f
 have C:=p.I.r;have J:∀j,j+2<=E.r->w'.heap[E.I j]?=w.heap[E.I j]?:=λj y=>agj p.a p.C C c h y;have V:i<F.N:=by
  have:=p.b;have:E.r<=F.n+1:=by
   unfold fS.r;cases e:E.M with
   |go j=>have:=p.C.C j<|À e;simp only[fU.sp];omega
   |lA j=>have:=p.C.C j<|Á<|À e;simp only[fU.sp];omega
   |rd j=>have:=p.C.C j<|Á<|Á<|À e;simp only[fU.sp];omega
   |iD j=>have:=p.C.C j<|Á<|Á<|Á e;simp only[fU.sp];omega
   |_=>simp only[fU.sp];omega
  unfold Ph.N;omega
 refine⟨gs',w',_,_,_,K,v,⟨v.trans p.b,T,p.h,p.m,p.g,λx e l o=> ?_,λs l o=> ?_,?_,p.M.K7 H p.a (agi (E:=E) C c h) (K8 p.C) (XD p.a H.C C c h (À U) p.M.C) (λs q=>XD p.a H.C C c h (Á ⟨s,q,U⟩)<|p.M.I s q) J,p.C,p.d.C<|agk p.a p.C H.C C p.b c h,p.c.Hg M (by rcases O with q|q<;>rw[q]<;>simp) Q J,λj r l o W=>(p.f j r l o W).app _⟩,À ⟨i,V,agq f I,λj _ y=>À<|agp y⟩⟩
 .let⟨z,B,D⟩:=p.k x e l o;refine⟨z,B,λq=> ?_⟩;have:=D q;rw[fI tr _ (λe=>by rw[<-e,this]at f;cases f)];exact this
 .let⟨z,B,D⟩:=p.l s l o;refine⟨z,?_,D⟩;rw[fI tr _ (λe=>by subst e;exact I ⟨l,o⟩)];exact B
 .have:=p.a.fq C c h;rwa[<-v]at this
end
end Go.Proofs.Y.fv
namespace Go.Proofs.Y.fv
open Go Go.Conc Go.Proofs.Y.Lift
open Go.ConcN (sumTo sumTo_congr)
def agr{J b:Jd}(c:∀l g,J l g->b l g):∀{T:gu} {l:fe} {g:Å},kV P yQ J T l g->kV P yQ b T l g:=by
 intro T
 induction T with
 |fB=>exact λh a r=>c _ _<|h a r
 |jv k d=>
  intro l g h;refine⟨h.1,λa r=> ?_⟩;let⟨e,f,i,j,m,n,o⟩:=h.2 a r;exact⟨e,f,i,j,m,n,d a o⟩
section
variable{F:Ph}{E E':fS F}{S:Nat->Jd}{tr d:Nat->gu}{kp:Nat->iz}{c:Nat->fe}{gs gs':Array Å}{u:ç}{sl:Option (Nat×Nat)}
def gL.kH{Y:Nat->Prop}(a:gL P n Y S tr kp c gs w qJ){J:Jd}(h:∀l g,S i l g->J l g):gL P n Y (fw S i J) tr kp c gs w qJ:=by
 refine⟨a.r,λk x f=> ?_,a.I⟩;let⟨g0,b,d⟩:=a.C k x f;by_cases e:k=i
 .subst e;rw[gB];exact⟨g0,agr h b,d⟩
 .rw[fI S _ e];exact⟨g0,b,d⟩
def EF:E.iR tr 0=(E.M.rk F,0,tr 0):=by simp[fS.iR]
def Lb(ok:F.Ok){x:Nat}{e:ij}(a:E.N x=Ä e):E.iR tr (F.L+x)=((e.rk F).1,(e.rk F).2,tr<|F.L+x):=by have:=ok.r;unfold fS.iR;rw[if_neg Z,if_neg Z,show F.L+x-F.L=x by omega,a]
def Qf(ok:F.Ok)(a:E.N 0=Í):E.iR tr F.L=(E.S.rk F,0,tr F.L):=by have:=ok.r;unfold fS.iR;rw[if_neg Z,if_neg Z,show F.L-F.L=0 by omega,a,if_pos U]
def tS(ok:F.Ok)(a:E.N (j+1)=Í):E.iR tr (F.L+1+j)=((E.C j).rk F,0,tr<|F.L+1+j):=by have:=ok.r;unfold fS.iR;rw[if_neg Z,if_neg Z,show F.L+1+j-F.L=j+1 by omega,a,if_neg Z];rfl
def yK(g:k=0->E'.M.rk F=E.M.rk F)(h:0<k->k<F.L->E'.h k=E.h k)(i:F.L<=k->E'.N (k-F.L)=E.N (k-F.L))(j:k=F.L->E.N 0=Í->E'.S.rk F=E.S.rk F)(l:F.L<k->E.N (k-F.L)=Í->(E'.C<|k-F.L-1).rk F=(E.C<|k-F.L-1).rk F)(b:d k=tr k):E'.iR d k=E.iR tr k:=by
 unfold fS.iR;by_cases c:k=0
 .subst c;rw[if_pos U,if_pos U,g U,b]
 .rw[if_neg c,if_neg c];by_cases a:k<F.L
  .rw[if_pos a,if_pos a,h Z a]
  .rw[if_neg a,if_neg a,i Z];cases f:E.N (k-F.L)with
   |some e=>simp only;rw[b]
   |none=>
    simp only;by_cases e:k=F.L
    .rw[if_pos e,if_pos e,b,j e (by rw[<-f,e];simp)]
    .rw[if_neg e,if_neg e,b,l Z f]
def Hq(a:i<F.N)(h:yJ (E'.iR d i) (E.iR tr i))(b:∀k,k≠i->E'.iR d k=E.iR tr k):pe F.N (E'.mu d gs') (E.mu tr gs):= À ⟨i,a,h,λj _ c=>À<|b j c⟩
def EG(a:Ps F E):E.r<=F.n+1:=by
 unfold fS.r;cases b:E.M with
 |go j=>have:=a.C j<|À b;simp only[fU.sp];omega
 |lA j=>have:=a.C j<|Á<|À b;simp only[fU.sp];omega
 |rd j=>have:=a.C j<|Á<|Á<|À b;simp only[fU.sp];omega
 |iD j=>have:=a.C j<|Á<|Á<|Á b;simp only[fU.sp];omega
 |_=>simp only[fU.sp];omega
def PI.G(p:PI F b zX E S tr kp c gs w qJ)(h:i<gs.size):i<F.N:=by have:=p.b;have:=EG p.C;unfold Ph.N;omega
def gN(E:fS F)(j:Nat)(x:gM):fS F:={E with C:=fw E.C j x}
def jM(j:Nat)(x:gM):(gN E j x).C j=x:=gB _ _ _
def iM(x:gM)(h:i≠j):(gN E j x).C i=E.C i:=fI _ _ h
def XH{x:gM}(h:∀k,x.gC F j k=(E.C j).gC F j k)(k:Nat):(Ñ F.n λi=>((gN E j x).C i).gC F i k)=Ñ F.n λi=>(E.C i).gC F i k:=by
 refine Į λi _=> ?_;by_cases e:i=j
 .subst e;rw[jM,h]
 .rw[iM x e]
def EH(ok:F.Ok){x:gM}{T:gu}(b:F.L+1+j<F.N)(a:E.N (j+1)=Í)(h:x.rk F<(E.C j).rk F):pe F.N ((gN E j x).mu (fw tr (F.L+1+j) T) gs') (E.mu tr gs):=by
 refine Hq b (À ?_) λk c=>yK (λ_=>rfl) (λ_ _=>rfl) (λ_=>rfl) (λ_ _=>rfl) (λd _=> ?_)<|fI tr _ c
 .rwa[tS ok (E:=gN E j x) (show(gN E j x).N (j+1)=Í from a),tS ok a,jM]
 .rw[iM x Z]
def Ps.G(h:Ps F E){x:gM}(m:j+2<=E.r)(d:E.N (j+1)=Í)(c:∀k,x.gC F j k=(E.C j).gC F j k)(f:∀r,((∃p,x=.fy r p)\/x=.jI r\/x=.nj r)->j+r*F.n<F.q) (g:∀r,(x=.fy r .gy\/x=.fy r .kX\/x=.jI r)->F.r (j+r*F.n)<=E.S.od) (i:∀r,x=.fy r .gy->∃a b,E.a (F.r<|j+r*F.n)=.gV a b) (l:∀r,x=.fy r .wr->E.d (F.r<|j+r*F.n)=Ä j):Ps F (gN E j x) where
 v:=h.v;C:=h.C;K:=h.K;L:=h.L;J:=h.J;I:=h.I;z j' oF:=by have:E.r<j'+2:=oF;rw[iM x Z];exact h.z j' oF
 d j' r oF hx:=by
  by_cases e:j'=j
  .subst e;rw[jM]at hx;exact f r hx
  .rw[iM x e]at hx;exact h.d j' r oF hx
 l j' oF hx:=by
  have e:j'≠j:=λe=>by subst e;exact hx d
  rw[iM x e];exact h.l j' oF hx
 f:=h.f;h:=h.h;M:=h.M;o:=h.o;t:=h.t;g:=h.g;u:=h.u;N:=h.N;B:=h.B;e k h1 h2 h3:=by rw[XH c];exact h.e k h1 h2 h3
 Y k h1 h2:=by rw[XH c];exact h.Y k h1 h2
 w j' r oF hx:=by
  by_cases e:j'=j
  .subst e;rw[jM]at hx;exact g r hx
  .rw[iM x e]at hx;exact h.w j' r oF hx
 H j' r oF hx:=by
  by_cases e:j'=j
  .subst e;rw[jM]at hx;exact i r hx
  .rw[iM x e]at hx;exact h.H j' r oF hx
 O:=h.O;S:=h.S;y:=h.y;D j' r oF hx:=by
  by_cases e:j'=j
  .subst e;rw[jM]at hx;exact l r hx
  .rw[iM x e]at hx;exact h.D j' r oF hx
def vv(E:fS F)(j:Nat)(x:gM)(k:Nat)(G:GS)(a:Nat->Option Nat):fS F:={gN E j x with a:=fw E.a k G,d:=a}
def Ps.XJ(h:Ps F E){x:gM}{G:GS}{l:Nat->Option Nat}(T:j+2<=E.r)(H:E.N (j+1)=Í)(I:∀c,c≠k->x.gC F j c=(E.C j).gC F j c) (J:1<=k->E.S.od<k->G=.cl 1 (Ñ F.n λi=>((fv.gN E j x).C i).gC F i k)) (K:k<=E.S.od->(∃W,(E.S=.dn k (.gy W)\/E.S=.dn k (.jb W))/\G=.jE W/\W=Ñ F.n λi=>((fv.gN E j x).C i).gC F i k)\/(∃r s,E.S=.dn k (.iA r)/\0<r/\G=.gV r s/\r+s=Ñ F.n λi=>((fv.gN E j x).C i).gC F i k)\/((∀p,E.S≠ .dn k p)/\((G=.cl 0 0/\(Ñ F.n λi=>((fv.gN E j x).C i).gC F i k)=0)\/∃s,G=.gV 0 s/\s=Ñ F.n λi=>((fv.gN E j x).C i).gC F i k))) (L:(∃a b,E.a k=.gV a b)->∃a b,G=.gV a b) (M:G=.cl 1 0->l k=Í) (B:∀c,c≠k->l c=E.d c) (N:∀y,E.d k=Ä y->l k=Ä y) (O:∀r,((∃p,x=.fy r p)\/x=.jI r\/x=.nj r)->j+r*F.n<F.q) (P:∀r,(x=.fy r .gy\/x=.fy r .kX\/x=.jI r)->F.r (j+r*F.n)<=E.S.od) (Q:∀r,x=.fy r .gy->∃a b,fw E.a k G (F.r<|j+r*F.n)=.gV a b) (S:∀r,x=.fy r .wr->l (F.r<|j+r*F.n)=Ä j):Ps F (vv E j x k G l):=by
 have C:∀c,c≠k->(Ñ F.n λi=>((vv E j x k G l).C i).gC F i c)=Ñ F.n λi=>(E.C i).gC F i c:=λc z=>by
  refine Į λi _=> ?_;by_cases e:i=j
  .subst e;show((fv.gN E i x).C i).gC F i c=_;rw[jM,I c z]
  .show((fv.gN E j x).C i).gC F i c=_;rw[iM x e]
 have v:∀c,c≠k->(vv E j x k G l).a c=E.a c:=λc z=>fI _ _ z;have gs:(vv E j x k G l).a k=G:=gB _ _ _;have w:(vv E j x k G l).C j=x:=jM _ _;have o:∀d,d≠j->(vv E j x k G l).C d=E.C d:=λd g=>iM x g;refine⟨h.v,h.C,h.K,h.L,h.J,h.I,λd g=> ?_,λd r g f=> ?_,λd g f=> ?_,h.f,h.h,h.M,h.o,h.t,h.g,h.u,h.N,h.B,λc t m D=> ?_,λc t m=> ?_,λd r g f=> ?_,λd r g f=> ?_,h.O,h.S,λc t m=> ?_,λd r g f=> ?_⟩
 .have:E.r<d+2:=g;rw[o d Z];exact h.z d g
 .by_cases e:d=j
  .subst e;rw[w]at f;exact O r f
  .rw[o d e]at f;exact h.d d r g f
 .rw[o d (λe=>by subst e;exact f H)];exact h.l d g f
 .by_cases e:c=k
  .subst e;rw[gs];exact J t D
  .rw[v c e,C c e];exact h.e c t m D
 .by_cases e:c=k
  .subst e;rw[gs];exact K m
  .rw[v c e,C c e];exact h.Y c t m
 .by_cases e:d=j
  .subst e;rw[w]at f;exact P r f
  .rw[o d e]at f;exact h.w d r g f
 .by_cases e:d=j
  .subst e;rw[w]at f;exact Q r f
  .rw[o d e]at f;have:=h.H d r g f;by_cases u:F.r (d+r*F.n)=k
   .rw[u]at this|-;rw[gs];exact L this
   .rw[v _ u];exact this
 .by_cases e:c=k
  .subst e;rw[gs]at m;exact M m
  .rw[v c e]at m;show l c=Í;rw[B c e];exact h.y c t m
 .by_cases e:d=j
  .subst e;rw[w]at f;exact S r f
  .rw[o d e]at f;have:=h.D d r g f;show l _=Ä d;by_cases u:F.r (d+r*F.n)=k
   .rw[u]at this|-;exact N _ this
   .rw[B _ u];exact this
def iG.r(h:iG F E c n w){x:gM}(g:x.ky=(E.C j).ky):iG F (gN E j x) c n w:=by
 have f:∀a,((fv.gN E j x).C a).ky=(E.C a).ky:=λa=>by
  by_cases e:a=j
  .subst e;rw[jM,g]
  .rw[iM x e]
 exact⟨h.gS,h.o,h.lO,h.e,h.f,λa e b r d i=>h.h a e b r d (by rwa[<-f]),h.l,h.S,h.M,h.c,h.I,h.N,h.g,λa e r b d=>h.d a e r b<|by rwa[<-f]⟩
def Wd.Y(h:Wd F E w){x:gM}(b:x.ky=(E.C j).ky)(c:x.iL=(E.C j).iL):Wd F (gN E j x) w:=by
 have d:∀a,((fv.gN E j x).C a).ky=(E.C a).ky:=λa=>by
  by_cases e:a=j
  .subst e;rw[jM,b]
  .rw[iM x e]
 have f:∀a,((fv.gN E j x).C a).iL=(E.C a).iL:=λa=>by
  by_cases e:a=j
  .subst e;rw[jM,c]
  .rw[iM x e]
 exact⟨h.C,h.I,λa e=>by rw[f];exact h.jG a e,h.M,h.S,λa e r g i=>h.N a e r g<|by rwa[<-d]⟩
structure qK(F:Ph)(E:fS F)(S:Nat->Jd)(tr:Nat->gu)(kp:Nat->iz):Prop where
 M:S 0=JM F E.I E.M/\kp 0=kM E.M
 Y:0<E.r->E.N 0=Í->S F.L=JI F E.c E.S/\kp F.L=.no
 I:∀j,j+2<=E.r->E.N (j+1)=Í->S (F.L+1+j)=JW F (E.I j) j (E.C j)/\kp (F.L+1+j)=kW F (E.I j) (E.C j)
 C:∀x e,x<E.r->E.N x=Ä e->S (F.L+x)=JE F e/\kp (F.L+x)=.no/\((∃N,e=.jr N)->tr (F.L+x)=.fB)
 r:∀i,0<i->i<F.L->S i=oD F.P (E.h i)/\tr i=.fB/\kp i=.no
def PI.N(p:PI F b zX E S tr kp c gs w qJ):qK F E S tr kp:=⟨p.h,p.m,p.g,p.k,p.l⟩
def PI.r(a:qK F E S tr kp)(d:gs.size=F.L+E.r)(e:gL F.P F.S E.Y S tr kp c gs w qJ)(f:iG F E c gs.size w)(g:Wd F E w)(h:Ps F E)(i:TI F.toFx b zX E.r E.S.rl E.V E.e E.d E.iu E.f qJ)(k:fh F E gs w) (l:∀j r,j+2<=E.r->E.C j=.jI r->1<=F.r (j+r*F.n)->η qJ (F.L+1+j) (E.e<|F.r<|j+r*F.n)):PI F b zX E S tr kp c gs w qJ:=⟨d,e,a.M,a.Y,a.I,a.C,a.r,f,g,h,i,k,l⟩
def qK.N(h:qK F E S tr kp)(ok:F.Ok){x:gM}{T:gu}(k:j+2<=E.r)(f:E.N (j+1)=Í):qK F (gN E j x) (fw S (F.L+1+j)<|JW F (E.I j) j x) (fw tr (F.L+1+j) T) (fw kp (F.L+1+j)<|kW F (E.I j) x):=by
 have:=ok.r;refine⟨by rw[fI S _ Z,fI kp _ Z];exact h.M,λb a=>by rw[fI S _ Z,fI kp _ Z];exact h.Y b a,λd b a=> ?_,λy e b a=> ?_,λi b a=>by rw[fI S _ Z,fI kp _ Z,fI tr _ Z];exact h.r i b a⟩
 .by_cases e:d=j
  .subst e;rw[gB,gB,jM];exact⟨U,U⟩
  .rw[fI S _ Z,fI kp _ Z,iM x e];exact h.I d b a
 .have c:F.L+y≠F.L+1+j:=λe=>by
   have g:y=j+1:=Z
   subst g;have:E.N (j+1)=Ä _:=a;rw[f]at this;cases this
  rw[fI S _ c,fI kp _ c,fI tr _ c];exact h.C y e b a
end
def tT(F:Fx)(e:ė):Prop:=(∃(x:đ) (a:Bool),F.G x/\e=⟨ā x,a,Î⟩)\/e.loc=ź ù\/e.loc=ź ð
def Hr{F:Fx}{e:ė}(h:tT F e){b:Touch}(a:(Ë e).touch?=Ä b):∃x,F.G x/\b.loc=ā x/\b.kind=.atomic:=by
 let⟨g,c,i⟩:=e;rcases h with⟨x,j,d,f⟩|h|h
 .injection f with e1 e2 e3;subst e1 e2 e3;have:(Ë ⟨ā x,c,Î⟩).touch?=Ä ⟨ā x,c,.atomic⟩:=by cases c<;>rfl
  rw[this]at a;obtain rfl:=Ã a;exact⟨x,d,U,U⟩
 .simp only at h;subst h;simp[Ë,Đ]at a
 .simp only at h;subst h;simp[Ë,Đ]at a
section
variable{F:Ph}{E E':fS F}{S:Nat->Jd}{tr l:Nat->gu}{f:Nat->iz}{c:Nat->fe}{gs gs':Array Å}{u:ç}{m:Option (Nat×Nat)}
def yL(E:fS F)(i:Nat):Prop:=i=0\/∃x,x<E.r/\i=F.L+x
def gL.N{Y:Nat->Prop}(e:gL P n Y S tr f c gs w qJ)(h:gs[i]?=Ä g)(j:g.status=Æ)(k:tr i=.fB)(a:f i=.no\/f i=.iA):∀b,fH (c i) (c i).w b->S i {c i with w:=b} g:=by
 let⟨g0,hF,d,_,_⟩:=e.C i g h;rw[k]at hF;have:g=g0:=by
  rcases a with a|a<;>rw[a]at d<;>cases d
  .rfl
  .rfl
  .cases j
 subst this;exact hF
def XK(b:TI F.toFx j zX E.r E.S.rl E.V E.e E.d E.iu E.f qJ)(c:yL E i)(d:n<j)(a:qJ.g? n=Ä 0):η qJ i n:=by
 rcases c with rfl|⟨x,e,rfl⟩
 .let⟨h,f,g⟩:=Ú.1 a;have:=knows_own f;rwa[g]at this
 .exact b.AN x e n d a
def ags(h:∀d,¬Race d qJ)(f:TI F.toFx j zX E.r E.S.rl E.V E.e E.d E.iu E.f qJ)(k:yL E i){g:Array ė}{l:Ļ}{m:String}(n:∀e∈g,tT F.toFx e):∀d,¬Race d (qJ++Ý i l m g):=by
 refine PL h oa λB o b r=> ?_;obtain⟨e,s,rfl⟩:=Ø o;let⟨x,t,u,v⟩:=Hr (n e s) r;refine Á (Á ⟨v,λp a w q c=> ?_⟩);rcases f.M p a x w (q.trans u) t with⟨y,z⟩|q|⟨q,_⟩
 .exact XK f k y z
 .rw[q]at c;cases c
 .rw[q]at c;cases c
def agt(L:iG F E c gs.size w)(ok:F.Ok)(C:iQ F.S (λi=>i<gs.size) E.Y c w qJ)(f:∀e∈V,tT F.toFx e):∀e∈V,(∀b,(Ë e).touch?=Ä b->He (λi=>i<gs.size) E.Y c b)/\(Ë e).low w.heap.size:=by
 intro e g;refine⟨λb j=> ?_,?_⟩
 .let⟨x,a,d,_⟩:=Hr (f e g) j;exact À ⟨x,d,wZ a,λk h=>L.Y ok a k h⟩
 .rcases f e g with⟨x,k,a,d⟩|h|h
  .subst d;have:=C.N _<|wZ (E:=E) a;cases k<;>exact this
  .let⟨l,k,m⟩:=e;simp only at h;subst h;trivial
  .let⟨l,k,m⟩:=e;simp only at h;subst h;trivial
def AQ(d:Nat)(a:Array ė):Prop:=∀(j:Nat) (e:ė),a[j]?=Ä e->(Ë e).touch?=Í\/((∃b c,e=⟨ā b,c,Î⟩)/\0<Ï d (a.extract 0 j))
def agu(L:iG F E c gs.size w)(u:Ps F E)(C:iQ F.S (λi=>i<gs.size) E.Y c w qJ)(z:yL E i){j:Array ė}{p:Ļ}{q:String}(m:∀e∈j,tT F.toFx e) (B:∀x,E.iu x->i=F.L+x->(∀e∈j,∀b,(Ë e).touch?=Ä b->∃y:đ,b.loc=ā y/\y.block=F.C)/\AQ (ω qJ i) j):K5 F.toFx E.r E.S.rl E.V E.d E.iu qJ (Ý i p q j) i:=by
 refine⟨λl d _ _=>oa l d,z.imp id À,λl d a x g _ _=> ?_,λl d a y g _ D k s n=> ?_,λl d b _ e=> ?_,λx I G=> ?_⟩
 .obtain⟨e,f,rfl⟩:=Ø d;let⟨_,_,_,o⟩:=Hr (m e f) g;exact À o
 .obtain⟨e,f,rfl⟩:=Ø d;let⟨x,r,h,_⟩:=Hr (m e f) g;rw[D]at h;injection h with h;subst h;refine⟨λv=>(L.I k (Ù n<|K9 u) _ v).2.1<|wZ r,λe=> ?_⟩;obtain⟨b,_,t|t⟩:=r<;>(rw[t]at e;simp[fM,gP,jf]at e)
 .obtain⟨r,f,rfl⟩:=Ø d;simp only at e;rcases m r f with⟨x,v,_,rfl⟩|h|h
  .cases v<;>simp[Ë]at e
  .let⟨t,v,H⟩:=r;simp only at h;subst h;simp[Ë]at e
  .let⟨t,v,H⟩:=r;simp only at h;subst h;simp[Ë]at e
 .by_cases e:F.L+x=i
  .let⟨s,n⟩:=B x G e.symm;subst e;refine⟨λr h=>h.appOwn p q j n,λ_ l d a g=> ?_⟩;obtain⟨e,f,rfl⟩:=Ø d;let⟨_,_,_,o⟩:=Hr (m e f) g;exact⟨s e f a g,o⟩
  .exact⟨λr h=>h.appOther oa<|õ e,λt=>absurd t e⟩
def yM(a:F.M b):∀e∈#[ku<|fM b],tT F.toFx e:=by
 intro e c;have:e=ku (fM b):=by simpa using c
 subst this;exact À ⟨_,É,(wY a).1,U⟩
def XL(a:F.M b):∀e∈#[mO<|fM b],tT F.toFx e:=by
 intro e c;have:e=mO (fM b):=by simpa using c
 subst this;exact À ⟨_,Î,(wY a).1,U⟩
def AR(a:F.M b):∀e∈#[ku<|fM b,mO<|fM b],tT F.toFx e:=by
 intro e c;simp at c;rcases c with rfl|rfl
 .exact À ⟨_,É,(wY a).1,U⟩
 .exact À ⟨_,Î,(wY a).1,U⟩
def Hs(a:F.M b):∀e∈ú (gP b),tT F.toFx e:=by
 intro e c;simp[ú]at c;rcases c with rfl|rfl|rfl|rfl
 .exact Á<|À U
 .exact À ⟨_,É,(wY a).2,U⟩
 .exact À ⟨_,Î,(wY a).2,U⟩
 .exact Á<|Á U
def Ht(d:Nat):Ï d #[ku a,mO a]=d/\Ï d #[ku a]=d/\Ï d #[mO a]=d/\Ï d (ú a)=d:=by refine⟨U,U,U,?_⟩;simp[Ï,ú]
def Lc:AQ 1 #[ku a,mO a]/\AQ 1 #[ku a]/\AQ 1 #[mO a]/\AQ 1 (ú a):=by
 refine⟨λj e b=> ?_,λj e b=> ?_,λj e b=> ?_,λj e b=> ?_⟩
 .match j,b with
  |0,b=>obtain rfl:=Ã b;exact Á ⟨⟨a,É,U⟩,by simp[Ï]⟩
  |1,b=>obtain rfl:=Ã b;exact Á ⟨⟨a,Î,U⟩,by simp[Ï,ku]⟩
  |j+2,b=>simp at b
 .match j,b with
  |0,b=>obtain rfl:=Ã b;exact Á ⟨⟨a,É,U⟩,by simp[Ï]⟩
  |j+1,b=>simp at b
 .match j,b with
  |0,b=>obtain rfl:=Ã b;exact Á ⟨⟨a,Î,U⟩,by simp[Ï]⟩
  |j+1,b=>simp at b
 .match j,b with
  |0,b=>obtain rfl:=Ã b;exact À U
  |1,b=>obtain rfl:=Ã b;exact Á ⟨⟨a,É,U⟩,by simp[Ï,ú]⟩
  |2,b=>obtain rfl:=Ã b;exact Á ⟨⟨a,Î,U⟩,by simp[Ï,ú]⟩
  |3,b=>obtain rfl:=Ã b;exact À U
  |j+4,b=>simp[ú]at b
def agv(ok:F.Ok)(g:F.G a)(v:ì):Ho F E c gs.size w (w.setCell a v):=by
 refine⟨Ö jO.symm,λb _ f _=>ll λe=>f<|e▸(wZ (E:=E) g),λd i _=>yE ?_,P4,U,U⟩;let⟨b,f,h⟩:=g;rcases i with⟨k,_,rfl⟩|⟨p,rfl⟩
 .right;rcases h with rfl|rfl<;>simp[fM,gP,jf]
 .left;rcases h with rfl|rfl<;>exact λe=>ok.C (by have j:b=F.Y:=e;rwa[<-j])
def agw(L:iG F E c gs.size w)(ok:F.Ok)(d:F.G a)(v:ì):pT (λi=>i<gs.size) E.Y c w (w.setCell a v):= af4 (wZ d) (by obtain⟨b,_,rfl|rfl⟩:=d<;>rfl) (λk i=>L.Y ok d k i) λk i b e=>L.agh k i b e
def agx(c:Ps F E)(d:F.G a)(v:ì)(f:j+2<=E.r):(w.setCell a v).heap[E.I j]?=w.heap[E.I j]?:= ll λe=>(c.o j f).1 (by obtain⟨b,g,rfl|rfl⟩:=d<;>(rwa[e]))
def agy(h:a=fM b\/a=gP b):a.block=b:=by rcases h with rfl|rfl<;>rfl
def iG.C(L:iG F E c n w){d:Nat}{w0:Ð}(u:w.heap.size<=W.heap.size):iG F E (gq c i {c i with d:=d,w:=w0}) n W:=by
 have e:∀k,(gq c i {c i with d:=d,w:=w0} k).O=(c k).O/\(gq c i {c i with d:=d,w:=w0} k).I=(c k).I/\(gq c i {c i with d:=d,w:=w0} k).r=(c k).r/\(gq c i {c i with d:=d,w:=w0} k).N=(c k).N/\(gq c i {c i with d:=d,w:=w0} k).q=(c k).q:=λk=>by
  by_cases h:k=i
  .subst h;rw[gT];exact⟨U,U,U,U,U⟩
  .rw[gF c _ h];exact⟨U,U,U,U,U⟩
 have t:∀k,c k=kx (c k)->gq c i {c i with d:=d,w:=w0} k=kx (gq c i {c i with d:=d,w:=w0} k):=λk f=>by
  by_cases h:k=i
  .subst h;rw[gT];have a:(c k).O=λ_=>False:=by rw[f];rfl
   have b:(c k).I=λ_=>False:=by rw[f];rfl
   have g:(c k).r=λ_=>False:=by rw[f];rfl
   have j:(c k).N=λ_=>False:=by rw[f];rfl
   have l:(c k).q=True:=by rw[f];rfl
   simp only[kx,a,b,g,j,l]
  .rwa[gF c _ h]
 refine⟨λk f a o=>L.gS k f a (by unfold fe.C at o|-;rwa[(e k).2.2.1,(e k).2.2.2.1]at o),λx g m a o=>by rw[(e 0).2.2.1];exact L.o x g m a o,λh=>by rw[(e 0).2.2.2.1,(e 0).2.1];exact L.lO h,λh k g m=>by rw[(e _).2.2.1];exact L.e h k g m,λh p=>by rw[(e _).2.2.2.1,(e _).2.1];exact L.f h p,λj l p r s g=>by rw[(e _).2.2.1];exact L.h j l p r s g,λj l p=>by rw[(e _).2.2.2.1,(e _).2.1];exact L.l j l p,λx v=>t _<|L.S x v,λk f=>by rw[(e k).2.2.2.2];exact L.M k f,λk g m=>t _<|L.c k g m,λk f b y=> ?_,λk f j l=>by rw[(e j).2.2.1];exact L.N k f j l,λk g m j l=>by rw[(e j).2.2.1];exact L.g k g m j l,λj l r s g k f=>by rw[(e k).2.2.1];exact L.d j l r s g k f⟩;let⟨z,B,D⟩:=L.I k f b y;exact⟨Ê z u,B,λj l=>by rw[(e j).1];exact D j l⟩
end
section
variable{F:Ph}{E E':fS F}{S:Nat->Jd}{tr c:Nat->gu}{a:Nat->iz}{lot:Nat->fe}{gs gs':Array Å}{u:ç}{sl:Option (Nat×Nat)}
def kz(b:Nat)(w W:Ð):Prop:=W=w\/∃x v,(x=fM b\/x=gP b)/\W=w.setCell x v
def kz.EE(h:kz b w W):W.heap.size=w.heap.size:=by
 rcases h with rfl|⟨x,v,_,rfl⟩
 .rfl
 .exact jO
def kz.K7(h:kz b w W)(ok:F.Ok)(a:F.M b):Ho F E lot gs.size w W:=by
 rcases h with rfl|⟨x,v,c,rfl⟩
 .exact⟨Ç _,λ_ _ _ _=>rfl,λ_ _ _=>rfl,U,U,U⟩
 .exact agv ok ⟨b,a,c⟩ v
def kz.r(h:kz b w W)(L:iG F E lot gs.size w)(ok:F.Ok)(a:F.M b):pT (λi=>i<gs.size) E.Y lot w W:=by
 rcases h with rfl|⟨x,v,i,rfl⟩
 .exact pT.fT _ _ _ _
 .exact agw L ok ⟨b,a,i⟩ v
def kz.C(h:kz b w W)(a:Ps F E)(c:F.M b)(d:j+2<=E.r):W.heap[E.I j]?=w.heap[E.I j]?:=by
 rcases h with rfl|⟨x,v,e,rfl⟩
 .rfl
 .exact agx a ⟨b,c,e⟩ v d
def kz.M(h:kz b w W)(c:i≠b){G:GS}(a:hD w i G):hD W i G:=by
 rcases h with rfl|⟨x,v,d,rfl⟩
 .exact a
 .exact a.iR<|by rw[agy d];exact õ c
def kz.I(h:kz b w W)(H:gQ F)(L:iG F E lot gs.size w)(d:Ps F E)(a:Wd F E w)(f:F.M b){Ga:GS}{Gg:Nat->GS}(g:(b=F.C->hD W F.C Ga)/\(b≠F.C->Ga=E.b))(i:∀k,k<=F.m->(b=F.I k->hD W (F.I k) (Gg k))/\(b≠F.I k->Gg k=E.a k)):Wd F {E with b:=Ga,a:=Gg} W:=by
 refine a.K7 H L (h.K7 H.C f) (K8 d) ?_ (λk c=> ?_) λj e=>h.C d f e
 .by_cases e:b=F.C
  .exact g.1 e
  .rw[g.2 e];exact h.M (õ e) a.C
 .by_cases e:b=F.I k
  .exact(i k c).1 e
  .rw[(i k c).2 e];exact h.M (õ e)<|a.I k c
def PI.Y(H:gQ F)(p:PI F b zX E S tr a lot gs w qJ){c:Å}{f:Array ė}{J:Jd}{T:gu}(K:iz)(q:gs[i]?=Ä g)(j:yL E i)(r:F.M n)(s:í F.P (i==0) g w=Ŭ c W f)(l:kz n w W)(h:∀e∈f,tT F.toFx e)(m:Ï (lot i).d f=(lot i).d) (t:∀x,E.iu x->i=F.L+x->(∀e∈f,∀n,(Ë e).touch?=Ä n->∃y:đ,n.loc=ā y/\y.block=F.C)/\AQ (ω qJ i) f) (hF:kV F.P (i==0) J T {lot i with w:=W} c) (v:c.status=Æ\/c.status=ë): ∃gs' u,Ŝ F.P (ò gs w sl) i=(Ģ<|ò gs' W sl,u)/\gs'.size=gs.size/\gs'[i]?=Ä c/\(∀k,k≠i->gs'[k]?=gs[k]?.map (Ą F.P g c W))/\ gL F.P F.S E.Y (fw S i J) (fw tr i T) (fw a i K) (gq lot i {lot i with w:=W}) gs' W (qJ++u)/\TI F.toFx b zX E.r E.S.rl E.V E.e E.d E.iu E.f (qJ++u)/\iG F E (gq lot i {lot i with w:=W}) gs'.size W:=by have C:=p.I.r;obtain⟨gs',z,k,B,D,o⟩:=p.I.qG q s (l.r p.a H.C r) (by rwa[m]) v (agt p.a H.C C h)<|ags C.l p.d j h;rw[m]at o;refine⟨gs',_,z,k,B,D,o,p.d.C<|agu p.a p.C C j h t,?_⟩;rw[k];exact p.a.C<|Ö l.EE.symm
def fh.qG(B:fh F E gs w){f:Å}(v:gs'[i]?=Ä f)(z:f.status≠Þ)(C:∀k,k≠i->gs'[k]?=gs[k]?.map (Ą F.P g f W))(D:∀j,j+2<=E.r->W.heap[E.I j]?=w.heap[E.I j]?) (m:E'.r=E.r) (G:E'.I=E.I) (o:∀x,F.L+x≠i->E'.N x=E.N x) (H:i≠0->E'.M=E.M) (p:∀j,F.L+1+j≠i->E'.C j=E.C j) (I:i≠0->E.M=.fy .kv->E.b.sm=0->E'.b.sm=0\/∀x,gs'[0]?=Ä x->x.status≠Þ) (J:∀j r,F.L+1+j≠i->E.C j=.fy r .kv->(E.a<|F.r<|j+r*F.n).sm=0->(E'.a<|F.r<|j+r*F.n).sm=0\/∀x,gs'[F.L+1+j]?=Ä x->x.status≠Þ):fh F E' gs' W:=by
 intro k x b d;by_cases e:k=i
 .subst e;rw[v]at b;obtain rfl:=Ã b;exact absurd d z
 .have t:=b;rw[C k e]at b;obtain⟨y,K,rfl⟩:=Ú.1 b;let⟨_,M⟩:=Hp d;rcases B k y K M with⟨N,c,a⟩|⟨j,h,u,c,⟨r,a,l⟩|⟨r,O,s,Q,a,l⟩⟩
  .subst N;refine À ⟨U,by rwa[H<|õ e],?_⟩;rcases I (õ e) c a with q|q
   .exact q
   .exact absurd d<|q _ t
  .subst c;refine Á ⟨j,by rwa[m],by rwa[o _ Z],U,À ⟨r,by rwa[p j e],?_⟩⟩;rcases J j r e a l with q|q
   .exact q
   .exact absurd d<|q _ t
  .subst c;exact Á ⟨j,by rwa[m],by rwa[o _ Z],U,Á ⟨r,O,s,Q,by rwa[p j e],by rwa[G,D j h]⟩⟩
def EI(a:j+2<=E.r):yL E (F.L+1+j):=Á ⟨j+1,Z,Z⟩
def Ld(b:E.N (j+1)=Í):∀x,E.iu x->F.L+1+j=F.L+x->False:=λx ⟨e,a,_⟩ h2=>by
 have:x=j+1:=Z
 subst this;rw[b]at a;cases a
def Hu(ok:F.Ok)(h:i<F.q):F.M (F.I<|F.r i):=Á ⟨F.r i,ok.I i h,U⟩
def iJ(a:gs[i]?=Ä g):i<gs.size:=(Ò.1 a).1
end
def w7{f f':Nat->Nat}:∀{n:Nat},j<n->(∀i,i≠j->f' i=f i)->Ñ n f'+f j=Ñ n f+f' j
 |n+1,h,hf=>by
  simp only[Ñ];rcases ø j n with gJ|a
  .have:=w7 (n:=n) gJ hf;rw[hf n Z];omega
  .obtain rfl:j=n:=Z
   rw[Į λi b=>hf i Z];omega
def Hv{f:Nat->Nat}:∀{n:Nat},(∀i,f i<=1)->Ñ n f<=n
 |0,_=>Ç _
 |n+1,h=>by simp only[Ñ];have:=Hv (n:=n) h;have:=h n;omega
def Qg{f:Nat->Nat}:∀{n:Nat},j<n->f j<=Ñ n f
 |n+1,h=>by
  simp only[Ñ];rcases ø j n with gJ|a
  .have:=Qg (f:=f) (n:=n) gJ;omega
  .obtain rfl:j=n:=Z
   omega
def Hw{f:Nat->Nat}:∀n:Nat,(Ñ n λi=>f i+D i)=Ñ n f+Ñ n D
 |0=>rfl
 |n+1=>by simp only[Ñ];rw[Hw n];omega
def Qh{f:Nat->Nat}(c:Nat):∀n:Nat,(Ñ n λi=>c*f i)=c*Ñ n f
 |0=>by simp[Ñ]
 |n+1=>by simp only[Ñ];rw[Qh c n,į]
section
variable{F:Ph}{E E':fS F}{S:Nat->Jd}{tr z:Nat->gu}{C:Nat->iz}{o:Nat->fe}{gs gs':Array Å}{u:ç}{sl:Option (Nat×Nat)}
def jY(F:Ph)(b:Nat)(zX:ai->Prop)(E:fS F)(tr:Nat->gu)(gs:Array Å)(w:Ð)(qJ:ç)(sl:Option (Nat×Nat))(i:Nat):Prop:=
 ∃(E':fS F) (a:Nat->Jd) (z:Nat->gu) (c:Nat->iz) (d:Nat->fe) (gs':Array Å) (W:Ð) (u:ç),Ŝ F.P (ò gs w sl) i=(Ģ<|ò gs' W sl,u)/\gs'.size=gs.size/\(E'.M=.gf->E.M=.gf)/\PI F b zX E' a z c d gs' W (qJ++u)/\pe F.N (E'.mu z gs') (E.mu tr gs)
def rE(F:Ph)(b:Nat)(zX:ai->Prop)(E:fS F)(tr:Nat->gu)(gs:Array Å)(w:Ð)(qJ:ç):Prop:=
 ∃(E':fS F) (a:Nat->Jd) (z:Nat->gu) (c:Nat->iz) (d:Nat->fe),(E'.M=.gf->E.M=.gf)/\PI F b zX E' a z c d gs w qJ/\pe F.N (E'.mu z gs) (E.mu tr gs)
def agz(i:Nat):gk gs i<=1:=by unfold gk;split<;>omega
def XM(a:∀k,k<F.N->E'.iR z k=E.iR tr k)(b:i<F.N)(g:E'.ln i<E.ln i)(c:∀k,k≠i->E'.ln k=E.ln k):pe F.N (E'.mu z gs') (E.mu tr gs):=by
 refine Á ⟨a,?_⟩;show(Ñ F.N λi=>(F.N+1)*E'.ln i+gk gs' i)<Ñ F.N λi=>(F.N+1)*E.ln i+gk gs i;rw[Hw,Hw,Qh,Qh];have h:=w7 b c;have j:=Hv (f:=gk gs') (n:=F.N) agz;have d:Ñ F.N E'.ln+1<=Ñ F.N E.ln:=Z
 have e:(F.N+1)*(Ñ F.N E'.ln+1)<=(F.N+1)*Ñ F.N E.ln:=ñ _ d;rw[į]at e;omega
def Qi(a:∀k,k<F.N->E.iR z k=E.iR tr k)(b:i<F.N)(d:gk gs i=1)(e:gk gs' i=0)(c:∀k,k≠i->gk gs' k=gk gs k):pe F.N (E.mu z gs') (E.mu tr gs):=by refine Á ⟨a,?_⟩;show(Ñ F.N λi=>(F.N+1)*E.ln i+gk gs' i)<Ñ F.N λi=>(F.N+1)*E.ln i+gk gs i;rw[Hw,Hw];have:=w7 b c;omega
def XO(ok:F.Ok)(j:Nat):E.ln (F.L+1+j)=match E.C j with|.fy r p=>p.ln F.B (E.a<|F.r<|j+r*F.n).st|_=>0:=by have:=ok.r;unfold fS.ln;rw[if_neg Z,if_neg Z,show F.L+1+j-F.L-1=j by omega]<;>cases E.C j<;>rfl
def agA{x:gM}(a:k≠F.L+1+j):(gN E j x).ln k=E.ln k:=by
 unfold fS.ln;split
 .rfl
 .split
  .rfl
  .rw[iM x Z];rfl
def agB(ok:F.Ok){r:Nat}{p a:SP}{T:gu}(d:F.L+1+j<F.N)(b:E.N (j+1)=Í)(c:E.C j=.fy r (.lV p))(f:tr (F.L+1+j)=.fB)(g:T=.fB)(h:a.rk F.B (E.a<|F.r<|j+r*F.n).st<p.rk F.B (E.a<|F.r<|j+r*F.n).st): pe F.N ((gN E j<|.fy r (.lV a)).mu (fw tr (F.L+1+j) T) gs') (E.mu tr gs):=by
 refine XM (λk _=> ?_) d ?_ λk e=>agA e
 .by_cases e:k=F.L+1+j
  .subst e;rw[tS ok (E:=gN E j _) (show(gN E j _).N (j+1)=Í from b),tS ok b,jM,gB,c,f,g];rfl
  .refine yK (λ_=>rfl) (λ_ _=>rfl) (λ_=>rfl) (λ_ _=>rfl) (λi _=> ?_)<|fI tr _ e;rw[iM _ Z]
 .rwa[XO ok,XO ok,jM,c]
def PI.EJ(H:gQ F)(p:PI F b zX E S tr C o gs w qJ){v:jk}(d:j+2<=E.r)(e:E.N (j+1)=Í)(f:gs[F.L+1+j]?=Ä g)(h:g.status=Æ)(k:tr (F.L+1+j)=.fB)(l:E.C j=.fy i v): ∀w₁,fH (o<|F.L+1+j) (o<|F.L+1+j).w w₁->qI F.P É F.B (F.I<|F.r<|j+i*F.n) (F.e (E.I j)<|j+i*F.n) v {o (F.L+1+j)with w:=w₁} g:=by
 let⟨a,c⟩:=p.g j d e;rw[l]at a c;have m:C (F.L+1+j)=.no\/C (F.L+1+j)=.iA:=by rw[c];cases v<;>first|exact À U|exact Á U
 intro w₁ i;have:=p.I.N f h k m w₁ i;rwa[a]at this
def yN(ok:F.Ok)(j:Nat):(F.L+1+j==0)=É:=by have:=ok.r;simp
def PI.Qj(H:gQ F)(p:PI F b zX E S tr C o gs w qJ){x:gM}{l:fe}{T:gu}(B:j+2<=E.r)(u:E.N (j+1)=Í)(f:gs[F.L+1+j]?=Ä g)(v:g.status=Æ\/g.status=ë) (D:iQ F.S (λi=>i<gs.size) E.Y (gq o (F.L+1+j) l) w qJ) (hF:kV F.P É (JW F (E.I j) j x) T l g) (G:iG F (gN E j x) (gq o (F.L+1+j) l) gs.size w) (I:Wd F (gN E j x) w) (J:Ps F (gN E j x)) (M:x.rk F<(E.C j).rk F) (N:∀r,x≠ .jI r):rE F b zX E tr gs w qJ:=by
 refine⟨gN E j x,_,_,_,_,λh=>h,.r (p.N.N H.C B u) p.b (p.I.M (K:=kW F (E.I j) x) f v D<|by rwa[yN H.C]) G I J p.d (λk y m n=> ?_) λc r t a d=> ?_,EH H.C (p.G<|iJ f) u M⟩
 .by_cases e:k=F.L+1+j
  .subst e;rw[f]at m;obtain rfl:=Ã m;rcases v with q|q<;>rw[q]at n<;>cases n
  .rcases p.c k y m n with t|⟨c,q,z,a,d|⟨r,O,s,Q,d,V⟩⟩
   .exact À t
   .exact Á ⟨c,q,z,a,À<|by rwa[iM x Z]⟩
   .exact Á ⟨c,q,z,a,Á ⟨r,O,s,Q,by rwa[iM x Z],V⟩⟩
 .by_cases e:c=j
  .subst e;rw[jM]at a;exact absurd a<|N r
  .rw[iM x e]at a;exact p.f c r t a d
def PI.agC(H:gQ F)(p:PI F b zX E S tr C o gs w qJ){r:Nat}(e:j+2<=E.r)(l:E.N (j+1)=Í)(m:gs[F.L+1+j]?=Ä g)(n:g.status=Æ)(s:tr (F.L+1+j)=.fB)(c:E.C j=.fy r .iW):rE F b zX E tr gs w qJ:=by
 have f:=iJ m;let⟨k,y,t,u⟩:=(p.EJ H e l m n s c) w<|p.I.r.r _ f;have v:iQ F.S (λi=>i<gs.size) E.Y (gq o (F.L+1+j) {o (F.L+1+j)with w:=w}) w qJ:=p.I.r.C f (λ_ q=>q) (λa q=>À<|Á q) (λ_ q=>q) (λa q=>À<|Á q) U U U (p.I.r.m _ f)<|p.I.r.g _ f;refine p.Qj H (x:=.fy r (.lV (.gd k))) (T:=.fB) e l m (À n) v (λh a=>⟨t,KU u a⟩) ?_ (p.M.Y (by rw[c];rfl)<|by rw[c];rfl) (p.C.G e l (λk=>by rw[c];rfl) (λa h=> ?_) (λa h=> ?_) (λa h=>by cases h) λa h=>by cases h) (by rw[c];simp only[gM.rk,jk.rk];omega) λa h=>by cases h
 .have:=(p.a.r (x:=.fy r (.lV (.gd k)))<|by rw[c];rfl).C (i:=F.L+1+j) (d:=(o<|F.L+1+j).d) (w0:=w)<|Ç _;exact this
 .rcases h with⟨_,h⟩|h|h<;>cases h;exact p.C.d j r e<|À ⟨_,c⟩
 .rcases h with h|h|h<;>cases h
def XP{y z:Int->Jd}{p:SP}{l:fe}{G:GS}(h:Ey P yQ (fM b) i y z p l g)(j:hD w b G):g.status=Æ/\ ((∃f a e,í P yQ g w=Ŭ a w e/\(e=#[]\/e=#[ku<|fM b])/\Ey P yQ (fM b) i y z f l a/\f.rk i G.st<p.rk i G.st)\/ (∃a,í P yQ g w=Ŭ a w #[ku<|fM b]/\(∀c q,G=.cl c q->c=0)/\fi P yQ (y G.st) l a)\/ (∃a c q,G=.cl c q/\0<c/\í P yQ g w=Ŭ a (w.setCell (fM b)<|é Ô<|Ô.wrap<|G.st+1) #[ku<|fM b,mO<|fM b]/\fi P yQ (z G.st) l a)):=by
 let⟨T,C,x⟩:=h;let⟨J,d⟩:=x p g C;refine⟨J,?_⟩;have D:∀u,T u g->(∀n,u≠ .gd (n+1))->(∀v n,u≠ .ld v (n+1))->u.rk i G.st<=p.rk i G.st->((∃f a e,í P yQ g w=Ŭ a w e/\(e=#[]\/e=#[ku<|fM b])/\Ey P yQ (fM b) i y z f l a/\f.rk i G.st<p.rk i G.st)\/ (∃a,í P yQ g w=Ŭ a w #[ku<|fM b]/\(∀c q,G=.cl c q->c=0)/\fi P yQ (y G.st) l a)\/ (∃a c q,G=.cl c q/\0<c/\í P yQ g w=Ŭ a (w.setCell (fM b)<|é Ô<|Ô.wrap<|G.st+1) #[ku<|fM b,mO<|fM b]/\fi P yQ (z G.st) l a)):=by
  intro u C K L F;have d:=(x u g C).2;match u,d with
  |.gd (n+1),_=>exact absurd U<|K n
  |.ld v (n+1),_=>exact absurd U<|L v n
  |.gd 0,d=>
   let⟨a,o,k⟩:=d G.st;by_cases f:0<=G.st/\G.st<fY
   .rw[if_pos f]at k;have e:G.st<1000000:=by
     have t:=j.r;cases G with
     |cl c q=>
      let⟨H,I,m⟩:=t;simp only[GS.st,fY]at f|-;have:c=0:=Z
      have:=m this;omega
     |jE q=>simp only[GS.ok]at t;simp only[GS.st];omega
     |gV r s=>simp only[GS.st];omega
    exact Á<|À ⟨a,o w j.C,j.af8.1 f,k e⟩
   .rw[if_neg f]at k;have e:fY<=G.st/\G.st<fY*2147483648/\G.st%fY<1000000:=by
     have t:=j.r;cases G with
     |cl c q=>
      let⟨H,I,_⟩:=t;simp only[GS.st,fY]at f|-;omega
     |jE q=>simp only[GS.ok]at t;simp only[GS.st,fY]at f;omega
     |gV r s=>simp only[GS.st,fY]at f;omega
    let⟨m,M,E⟩:=k e;exact À ⟨.ld G.st m,a,_,o w j.C,Á U,⟨T,E,x⟩,Ê (by simp only[SP.rk,if_true];omega) F⟩
  |.ld v 0,⟨f,⟨a,o,k⟩,g'',E,n,hn,h4⟩=>
   by_cases e:G.st=v
   .subst e;have:∃c q,G=.cl c q/\0<c:=by
     have t:=j.r;cases G with
     |cl c q=>
      refine⟨c,q,U,?_⟩;let⟨H,I,_⟩:=t;simp only[GS.st,fY]at f;omega
     |jE q=>simp only[GS.ok]at t;simp only[GS.st,fY]at f;omega
     |gV r s=>simp only[GS.st,fY]at f;omega
    let⟨c,q,r,s⟩:=this;exact Á<|Á ⟨a,c,q,r,s,o w j.C j.I,k⟩
   .exact À ⟨.gd n,g'',_,E w G.st e j.C j.I,Á U,⟨T,h4,x⟩,Ê (by simp only[SP.rk,if_neg e];omega) F⟩
 match p,d with
 |.gd (n+1),⟨hn,d⟩=>
  rcases d with d|d
  .exact D (.gd 0) d (λn q=>by cases q) (λv n q=>by cases q)<|by simp only[SP.rk];omega
  .let⟨a,o,k⟩:=d w;exact À ⟨.gd n,a,#[],o,À U,⟨T,k,x⟩,by simp only[SP.rk];omega⟩
 |.gd 0,_=>exact D (.gd 0) C (λn q=>by cases q) (λv n q=>by cases q)<|Ç _
 |.ld v (m+1),⟨_,M,d⟩=>
  rcases d with d|d
  .exact D (.ld v 0) d (λn q=>by cases q) (λv n q=>by cases q)<|by simp only[SP.rk];split<;>omega
  .let⟨a,o,k⟩:=d w;exact À ⟨.ld v m,a,#[],o,À U,⟨T,k,x⟩,by simp only[SP.rk];split<;>omega⟩
 |.ld v 0,_=>exact D (.ld v 0) C (λn q=>by cases q) (λv n q=>by cases q)<|Ç _
def PI.agD(H:gQ F)(p:PI F b zX E S tr C o gs w qJ){r:Nat}{v:SP}(G:j+2<=E.r)(s:E.N (j+1)=Í)(hi:gs[F.L+1+j]?=Ä g)(iH:g.status=Æ)(ht:tr (F.L+1+j)=.fB)(m:E.C j=.fy r (.lV v)):jY F b zX E tr gs w qJ sl (F.L+1+j):=by
 have gJ:=iJ hi;have oG:=p.C.d j r G<|À ⟨_,m⟩;have N:=Hu H.C oG;have X:=H.C.I _ oG;have hG:=p.M.I _ X;obtain⟨hd,oC⟩:=(p.EJ H G s hi iH ht m) w<|p.I.r.r _ gJ;have yO:j<F.n:=by have:=EG p.C;omega
 have ns:=Ld (E:=E) s;have mw:=yN H.C j;have xa:=p.G gJ;obtain⟨_,oC⟩:=XP oC hG;rcases oC with⟨p',g',es,h1,I,h3,h4⟩|⟨g',h1,I,h3⟩|⟨g',c,K,Q,tU,h1,I⟩
 .have hes:∀e∈es,tT F.toFx e:=by
   rcases I with rfl|rfl
   .intro e s;simp at s
   .exact yM N
  obtain⟨T',Qk,AS⟩:=h3;obtain⟨gs',u,q1,V,q3,q4,q5,q6,q7⟩:=p.Y (J:=JW F (E.I j) j<|.fy r (.lV p')) (T:=.fB) H (kW F (E.I j)<|.fy r (.lV p')) hi (EI G) N (by rwa[mw]) (À U) hes (by rcases I with rfl|rfl<;>rfl) (λx hs e=>(ns x hs e).elim) (by rw[mw];exact λw₁ mP=>⟨hd,KU ⟨T',Qk,AS⟩ mP⟩)<|À (AS _ _ Qk).1;refine⟨gN E j<|.fy r (.lV p'),_,_,_,_,gs',w,u,q1,V,λh=>h,.r (p.N.N H.C G s) (V.trans p.b) q5 (q7.r<|by rw[m];rfl) (p.M.Y (by rw[m];rfl)<|by rw[m];rfl) (p.C.G G s (λk=>by rw[m];rfl) (λf h=> ?_) (λf h=> ?_) (λf h=>by cases h) λf h=>by cases h) q6 (p.c.qG (E':=gN E j _) q3 (by rw[(AS _ _ Qk).1];simp) q4 (λ_ _=>rfl) U U (λ_ _=>rfl) (λ_=>rfl) (λt e=>iM _ Z) (λ_ _ h=>À h) λ_ _ _ _ h=>À h) λt f O z Y=> ?_,agB H.C xa s m ht U h4⟩
  .rcases h with⟨_,h⟩|h|h<;>cases h;exact oG
  .rcases h with h|h|h<;>cases h
  .rw[iM _ (λe=>by subst e;rw[jM]at z;cases z)]at z;exact(p.f t f O z Y).app u
 .obtain⟨T,hT⟩:=jj h3;have nR:=lB (λl g h=>À h.2.1) h3;obtain⟨gs',u,q1,V,q3,q4,q5,q6,q7⟩:=p.Y H (kW F (E.I j)<|.fy r .kX) hi (EI G) N (by rwa[mw]) (À U) (yM N) U (λx hs e=>(ns x hs e).elim) (by rwa[mw]) nR;refine⟨gN E j<|.fy r .kX,_,_,_,_,gs',w,u,q1,V,λh=>h,.r (p.N.N H.C G s) (V.trans p.b) q5 (q7.r<|by rw[m];rfl) (p.M.Y (by rw[m];rfl)<|by rw[m];rfl) (p.C.G G s (λk=>by rw[m];rfl) (λf h=> ?_) (λf h=> ?_) (λf h=>by cases h) λf h=>by cases h) q6 (p.c.qG (E':=gN E j _) q3 (by rcases nR with q|q<;>rw[q]<;>simp) q4 (λ_ _=>rfl) U U (λ_ _=>rfl) (λ_=>rfl) (λt e=>iM _ Z) (λ_ _ h=>À h) λ_ _ _ _ h=>À h) λt f O z Y=> ?_,EH H.C xa s<|by rw[m];simp only[gM.rk,jk.rk];omega⟩
  .rcases h with⟨_,h⟩|h|h<;>cases h;exact oG
  .have:f=r:=by rcases h with h|h|h<;>cases h;rfl
   subst this;refine ĉ λAT=> ?_;have:=I _ _<|p.C.e _ Z X AT;omega
  .rw[iM _ (λe=>by subst e;rw[jM]at z;cases z)]at z;exact(p.f t f O z Y).app u
 .have hcd:E.S.od<F.r (j+r*F.n):=by
   refine ó λhle=> ?_;rcases p.C.Y _ X hle with⟨W,_,q,_⟩|⟨_,_,_,_,q,_⟩|⟨_,⟨q,_⟩|⟨_,q,_⟩⟩<;>(rw[Q]at q;cases q);omega
  have AU:=p.C.e _ Z X hcd;have e0:=Q.symm.trans AU;injection e0 with e1 e2;subst e1;have XQ:K<=F.n:=by rw[e2];exact Hv λi=>by cases E.C i<;>simp only[gM.gC]<;>first|omega|(split<;>first|omega|(rename_i q _;cases q<;>simp[jk.rD]))
  have EK:=H.C.fX;have xb:=(Q▸hG:hD w (F.I<|F.r<|j+r*F.n) (.cl 1 K)).Xx Z Z;obtain⟨hv,xb⟩:=xb;obtain⟨x,EL,AV,XR,AW,hx4⟩:∃(x:jk) (EL:Nat->Option Nat),(x=.wr\/x=.kv)/\fi F.P É (qI F.P É F.B (F.I<|F.r<|j+r*F.n) (F.e (E.I j)<|j+r*F.n) x) {o (F.L+1+j)with w:=w} g'/\((∀M,M≠F.r (j+r*F.n)->EL M=E.d M)/\∀y,E.d (F.r<|j+r*F.n)=Ä y->EL (F.r<|j+r*F.n)=Ä y)/\(x=.wr->EL (F.r<|j+r*F.n)=Ä j):=by
   by_cases hz:K=0
   .subst hz;refine⟨.wr,fw E.d (F.r<|j+r*F.n)<|Ä j,À U,?_,⟨λM tN=>fI _ _ tN,λy hy=> ?_⟩,λ_=>gB _ _ _⟩
    .have:E.a (F.r<|j+r*F.n)=.cl 1 0:=Q;rw[this]at I;have e:(GS.cl 1 0).st%fY=0:=A
     simp only[e,if_true]at I;exact I
    .rw[p.C.y _ X Q]at hy;cases hy
   .refine⟨.kv,E.d,Á U,?_,⟨λ_ _=>rfl,λ_ h=>h⟩,λh=>by cases h⟩;have:E.a (F.r<|j+r*F.n)=.cl 1 K:=Q;rw[this]at I;have e:¬(GS.cl 1 K).st%fY=0:=by simp only[GS.st,fY];omega
    simp only[e,if_false]at I;exact I
  have hxw:x.rD=1:=by rcases AV with rfl|rfl<;>rfl
  have XS:=XR.jL (w₁:=w.setCell (fM<|F.I<|F.r<|j+r*F.n)<|é Ô<|Ô.wrap<|(GS.cl 1 K).st+1) (by have D:=(kz.r (Á ⟨fM<|F.I<|F.r<|j+r*F.n,_,À U,U⟩:kz (F.I<|F.r<|j+r*F.n) w (w.setCell (fM<|F.I<|F.r<|j+r*F.n)<|é Ô<|Ô.wrap<|(GS.cl 1 K).st+1)) p.a H.C N);exact⟨Ö D.r.symm,λd kR=>D.jR d<|p.I.r.I _ gJ d kR,λa ha=>D.M _ gJ a ha,λa ha=>D.N _ gJ a ha,λa _=>D.I a⟩);obtain⟨T,hT⟩:=jj XS;have XT:=lB (λl g h=>by rcases AV with rfl|rfl<;>exact À h.2.1) XR;have Ql:kz (F.I<|F.r<|j+r*F.n) w (w.setCell (fM<|F.I<|F.r<|j+r*F.n)<|é Ô<|Ô.wrap<|(GS.cl 1 K).st+1):=Á ⟨_,_,À U,U⟩;obtain⟨gs',u,q1,V,q3,q4,q5,q6,q7⟩:=p.Y H (kW F (E.I j)<|.fy r x) hi (EI G) N (by rw[mw];exact(Q▸h1)) Ql (AR N) U (λx hs e=>(ns x hs e).elim) (by rwa[mw]) XT;have sQ:=w7 (f':=λi=>((gN E j<|.fy r x).C i).gC F i<|F.r<|j+r*F.n) yO (λi lq=>by rw[iM _ lq]);simp only[jM,m]at sQ;have tV:gM.gC F j (F.r<|j+r*F.n) (.fy r x)=1:=by simp only[gM.gC,if_true,hxw]
  have sR:gM.gC F j (F.r<|j+r*F.n) (.fy r (.lV v))=0:=by simp only[gM.gC,if_true];rfl
  rw[tV,sR]at sQ;refine⟨vv E j (.fy r x) (F.r<|j+r*F.n) (.cl 1 (K+1)) EL,_,_,_,_,gs',_,u,q1,V,λh=>h,.r ?_ (V.trans p.b) q5 ?_ ?_ (p.C.XJ G s (λM tN=> ?_) (λ_ _=> ?_) (λh=>by omega) (λ⟨a,d,h⟩=> ?_) (λh=>by injection h with _ h;omega) AW.1 AW.2 (λf h=> ?_) (λf h=> ?_) (λf h=> ?_) λf h=> ?_) (q6.agb λM y hy=> ?_) ?_ λt f O z Y=> ?_,?_⟩
  .have:=p.N.N (x:=.fy r x) (T:=T) H.C G s;exact⟨this.M,this.Y,this.I,this.C,this.r⟩
  .have:=q7.r (x:=.fy r x) (by rw[m];rfl);exact⟨this.gS,this.o,this.lO,this.e,this.f,this.h,this.l,this.S,this.M,this.c,this.I,this.N,this.g,this.d⟩
  .have W1:=Ql.I H p.a p.C p.M N (Gg:=fw E.a (F.r<|j+r*F.n)<|.cl 1 (K+1)) ⟨λe=>absurd e<|H.C.M _ X,λ_=>rfl⟩ λM tN=>⟨λe=> ?_,λe=>fI _ _ λe'=>e<|by rw[e']⟩
   .have W2:=W1.Y (x:=.fy r x) (by show _=(E.C j).ky;rw[m];rfl) (by show _=(E.C j).iL;rw[m];rfl);exact⟨W2.C,W2.I,W2.jG,W2.M,W2.S,W2.N⟩
   .rwa[<-(H.C.S _ _ X tN e),gB]
  .rw[m];simp only[gM.gC,if_neg<|õ tN]
  .congr 1;rw[<-e2]at sQ;omega
  .rw[Q]at h;cases h
  .rcases h with⟨_,h⟩|h|h<;>cases h;exact oG
  .rcases h with h|h|h<;>cases h<;>(rcases AV with h|h<;>cases h)
  .cases h;rcases AV with h|h<;>cases h
  .cases h;exact hx4 U
  .by_cases e:M=F.r (j+r*F.n)
   .subst e;exact AW.2 y hy
   .show EL M=Ä y;rwa[AW.1 M e]
  .refine p.c.qG (E':=vv E j _ _ _ _) q3 (by rcases XT with q|q<;>rw[q]<;>simp) q4 (λt oF=>Ql.C p.C N oF) U U (λ_ _=>rfl) (λ_=>rfl) (λt e=>iM _ Z) (λ_ _ h=>À h) λt f _ _ h=>À ?_;by_cases e:F.r (t+f*F.n)=F.r (j+r*F.n)
   .show(fw E.a _ _ _).sm=0;rw[e,gB];rfl
   .show(fw E.a _ _ _).sm=0;rwa[fI _ _ e]
  .have e:t≠j:=λe=>by
    subst e;have:(gN E t<|.fy r x).C t=.jI f:=z;rw[jM]at this;cases this
   have AX:(gN E j<|.fy r x).C t=.jI f:=z;rw[iM _ e]at AX;exact(p.f t f O AX Y).app u
  .have:=EH (E:=E) (tr:=tr) (gs:=gs) (gs':=gs') (x:=.fy r x) (T:=T) H.C xa s (by rw[m];rcases AV with rfl|rfl<;>simp only[gM.rk,jk.rk]<;>omega);rcases this with⟨i,O,z,Y⟩|⟨O,_⟩
   .exact À ⟨i,O,z,Y⟩
   .exfalso;have:=O _ xa;change(gN E j<|.fy r x).iR (fw tr (F.L+1+j) T) (F.L+1+j)=E.iR tr (F.L+1+j)at this;rw[tS H.C (E:=gN E j _) (show(gN E j _).N (j+1)=Í from s),tS H.C s,jM,m]at this;injection this with e _;rcases AV with rfl|rfl<;>simp only[gM.rk,jk.rk]at e<;>omega
end
section
variable{F:Ph}{E E':fS F}{S:Nat->Jd}{s D:Nat->gu}{B:Nat->iz}{f:Nat->fe}{c o:Array Å}{u:ç}{sl:Option (Nat×Nat)}
def PI.Qm(H:gQ F)(p:PI F j zX E S s B f c w qJ){x:gM}{a:Å}{T:gu}(y:i+2<=E.r)(d:E.N (i+1)=Í)(z:c[F.L+1+i]?=Ä g)(C:Ŝ F.P (ò c w sl) (F.L+1+i)=(Ģ<|ò o w sl,u))(l:o.size=c.size)(D:o[F.L+1+i]?=Ä a)(G:a.status=Æ\/a.status=ë)(I:∀k,k≠F.L+1+i->o[k]?=c[k]?.map (Ą F.P g a w)) (J:gL F.P F.S E.Y (fw S (F.L+1+i)<|JW F (E.I i) i x) (fw s (F.L+1+i) T) (fw B (F.L+1+i)<|kW F (E.I i) x) (gq f (F.L+1+i) {f (F.L+1+i)with w:=w}) o w (qJ++u)) (K:TI F.toFx j zX E.r E.S.rl E.V E.e E.d E.iu E.f (qJ++u)) (M:iG F E (gq f (F.L+1+i) {f (F.L+1+i)with w:=w}) o.size w) (m:x.ky=(E.C i).ky) (N:x.iL=(E.C i).iL) (O:Ps F (gN E i x)) (Q:x.rk F<(E.C i).rk F) (W:∀r,x=.jI r->1<=F.r (i+r*F.n)->η (qJ++u) (F.L+1+i) (E.e<|F.r<|i+r*F.n)):jY F j zX E s c w qJ sl (F.L+1+i):=by
 refine⟨gN E i x,_,_,_,_,o,w,u,C,l,λh=>h,.r (p.N.N H.C y d) (l.trans p.b) J (M.r m) (p.M.Y m N) O K (p.c.qG (E':=gN E i _) D (by rcases G with q|q<;>rw[q]<;>simp) I (λ_ _=>rfl) U U (λ_ _=>rfl) (λ_=>rfl) (λb e=>iM _ Z) (λ_ _ h=>À h) λ_ _ _ _ h=>À h) λb t X q v=> ?_,EH H.C (p.G<|iJ z) d Q⟩
 .by_cases e:b=i
  .subst e;rw[jM]at q;exact W t q v
  .rw[iM _ e]at q;exact(p.f b t X q v).app u
def Qo{r:Nat}{v:jk}(h:v.rD=0):gM.gC F j k (.fy r v)=0:=by simp only[gM.gC,h];split<;>rfl
def xc{a:Ć}(h:a∈#[wQ]):a=wQ:=by simpa using h
def agE{i:Nat}{fn:Ļ}{pos:String}{m:κ}:∃y:Ć,Ý i fn pos #[jw m]=#[y]/\y.g=i/\y.act=Ğ m:=⟨{g:=i,fn,pos,act:=Ğ m},by simp[Ý,jw,Ë],U,U⟩
def PI.AY(H:gQ F)(p:PI F j zX E S s B f c w qJ){a:Å}{m:κ}{J:Jd}{T:gu}(K:iz)(v:c[i]?=Ä g)(x:í F.P (i==0) g w=Ŭ a w #[jw m])(z:m≠ù)(C:m≠ð) (D:∀y:Ć,y.act=Ğ m->(∀b,y.act.touch?=Ä b->He (λi=>i<c.size) E.Y f b)/\y.act.low w.heap.size) (G:∀y:Ć,y.g=i->y.act=Ğ m->∀I,¬Race I (qJ++#[y])) (hF:kV F.P (i==0) J T {f i with w:=w} a) (L:a.status=Æ\/a.status=ë): ∃o y,y.g=i/\y.act=Ğ m/\Ŝ F.P (ò c w sl) i=(Ģ<|ò o w sl,#[y])/\o.size=c.size/\o[i]?=Ä a/\(∀k,k≠i->o[k]?=c[k]?.map (Ą F.P g a w))/\ gL F.P F.S E.Y (fw S i J) (fw s i T) (fw B i K) (gq f i {f i with w:=w}) o w (qJ++#[y])/\iG F E (gq f i {f i with w:=w}) o.size w:=by
 obtain⟨y,l,n,h⟩:=agE;have r:Ï (f i).d #[jw m]=(f i).d:=ņ (λe k=>by
  have:e=jw m:=by simpa using k
  subst this;exact⟨λq=>z (by injection q),λq=>C (by injection q)⟩) _
 have M:∀e∈#[jw m],Ë e=y.act:=λe k=>by
  have:e=jw m:=by simpa using k
  subst this;rw[h];rfl
 obtain⟨o,q,t,N,O,u⟩:=p.I.qG v x (pT.fT _ _ _ _) (by rwa[r]) L (λe k=>by rw[M e k];exact D y h) (by rw[l];exact G y n h);rw[r,l]at u;rw[l]at q;refine⟨o,y,n,h,q,t,N,O,u,?_⟩;rw[t];exact p.a.C<|Ç _
def Qp(H:gQ F)(p:PI F j zX E S s B f c w qJ)(hb:F.M b)(D:yL E i){m:κ}(N:m=.read (gP b)\/m=ρ (gP b))(T:F.P9 E.d (gP b) (Ä i))(W:∀x,E.iu x->i≠F.L+x): (∀y:Ć,y.act=Ğ m->(∀b,y.act.touch?=Ä b->He (λi=>i<c.size) E.Y f b)/\y.act.low w.heap.size)/\(∀y:Ć,y.g=i->y.act=Ğ m->∀O,¬Race O (qJ++#[y]))/\∀y:Ć,y.g=i->y.act=Ğ m->TI F.toFx j zX E.r E.S.rl E.V E.e E.d E.iu E.f (qJ++#[y]):=by
 have C:=p.I.r;have G:∀y:Ć,y.act=Ğ m->∀a,y.act.touch?=Ä a->a.loc=ā (gP b)/\a.kind=.said:=λy t a l=>by rw[t]at l;rcases N with rfl|rfl<;>simp[Đ]at l<;>subst l<;>exact⟨U,U⟩
 have u:=(wY hb).2;refine⟨λy t=>⟨λa l=>À ⟨_,(G y t a l).1,wZ u,λk D=>p.a.Y H.C u k D⟩,?_⟩,λy I t=>λO=> ?_,λy I t=> ?_⟩
 .have:=C.N _<|wZ (E:=E) u;rw[t];rcases N with rfl|rfl<;>exact this
 .refine noRace_append (C.l O) (λd h=>by rw[xc h,I]) λq a l d h z hz X=> ?_;have:d=y:=by simpa using h
  subst this;let⟨n,P⟩:=G d t z hz;rcases p.d.M q a _ l (X.1.trans n) u with⟨J,o⟩|r|⟨_,r⟩
  .exact XK p.d D J o
  .let⟨_,_,_,v⟩:=X;rw[r,P]at v;rcases v with v|v|⟨_,v,_⟩<;>cases v
  .have e:qJ.g? q=Ä i:=by
    rcases T with⟨K,M⟩|⟨k,v,K,M,s3,s4⟩
    .rcases r with⟨_,o⟩|⟨k,v,Q,o,_,_⟩
     .rw[o,M]
     .rw[K]at o;exact absurd (by injection o with o _ _;exact o.symm)<|H.C.M k Q
    .rcases r with⟨J,_⟩|⟨k',j',Q,o,r3,r4⟩
     .rw[M]at J;exact absurd (by injection J)<|H.C.M k K
     .rw[M]at o;have:k=k':=H.C.S _ _ K Q (by injection o);subst this;rw[s3]at r3;obtain rfl:=Ã r3;rw[r4,s4]
   let⟨M,v,K⟩:=Ú.1 e;have:=knows_own v;rwa[K]at this
 .refine p.d.C ⟨λd h a _=>by rw[xc h,I],D.imp id À,λd h a x l o K=> ?_,λd h a z l Q o k X J=> ?_,λd h b' _ e=> ?_,λx K q=>⟨λr M=>M.appOther (λd h=>by rw[xc h,I])<|W x q,λe=>absurd e.symm<|W x q⟩⟩
  .have:d=y:=by simpa using h
   subst this;let⟨n,P⟩:=G d t a l;rw[o]at n;injection n with n;subst n;exact Á ⟨P,T⟩
  .have:d=y:=by simpa using h
   subst this;let⟨n,_⟩:=G d t a l;rw[o]at n;injection n with n;subst n;exact⟨λv=>(p.a.I k (Ù J<|K9 p.C) _ v).2.1<|wZ u,λe=>by simp[gP,jf]at e⟩
  .have:d=y:=by simpa using h
   subst this;rw[t]at e;rcases N with rfl|rfl<;>simp at e
def PI.agF(H:gQ F)(p:PI F j zX E S s B f c w qJ){r:Nat}(b:i+2<=E.r)(d:E.N (i+1)=Í)(q:c[F.L+1+i]?=Ä g)(z:g.status=Æ)(C:s (F.L+1+i)=.fB)(a:E.C i=.fy r .wr):jY F j zX E s c w qJ sl (F.L+1+i):=by
 let⟨Y,_,g',D,u⟩:=p.EJ H b d q z C a w<|p.I.r.r _<|iJ q;have t:=p.C.d i r b<|À ⟨_,a⟩;have v:=yN H.C i;let⟨G,I,K⟩:=Qp H p (Hu H.C t) (EI b) (m:=ρ<|gP<|F.I<|F.r<|i+r*F.n) (Á U) (Á ⟨_,i,H.C.I _ t,U,p.C.D i r b a,U⟩) λx h e=>(Ld (E:=E) d) x h e;let⟨T,M⟩:=jj u;have x:=lB (λl g h=>À h.2.1) u;obtain⟨o,y,l,N,O,P,Q,V,W,X⟩:=p.AY (J:=JW F (E.I i) i<|.fy r .kv) H (kW F (E.I i)<|.fy r .kv) q (by rw[v];exact D w) fj fj G I (by rwa[v]) x;refine p.Qm H b d q O P Q x V W (K y l N) X (by rw[a];rfl) (by rw[a];rfl) (p.C.G b d (λk=>by rw[a];rfl) (λe h=> ?_) (λe h=> ?_) (λe h=>by cases h) λe h=>by cases h) (by rw[a];simp only[gM.rk,jk.rk];omega) λe h=>by cases h
 .rcases h with⟨_,h⟩|h|h<;>cases h;exact t
 .rcases h with h|h|h<;>cases h
def PI.agG(H:gQ F)(p:PI F j zX E S s B f c w qJ){r:Nat}(m:i+2<=E.r)(n:E.N (i+1)=Í)(q:c[F.L+1+i]?=Ä g)(G:g.status=Æ)(I:s (F.L+1+i)=.fB)(d:E.C i=.fy r .gy):jY F j zX E s c w qJ sl (F.L+1+i):=by
 let⟨hd,_,K⟩:=p.EJ H m n q G I d w<|p.I.r.r _<|iJ q;have t:=p.C.d i r m<|À ⟨_,d⟩;have y:=Hu H.C t;have z:=yN H.C i;let⟨a,b,M⟩:=p.C.H i r m d;have C:=p.M.I _<|H.C.I _ t;rw[M]at C;let⟨g',N,v⟩:=K 0;simp only[if_true]at v;let⟨T,O⟩:=jj v;have D:=lB (λl g h=>À h.2.1) v;obtain⟨o,u,l,P,Q,V,W,X,Y⟩:=p.Y (J:=JW F (E.I i) i<|.fy r .kX) H (kW F (E.I i)<|.fy r .kX) q (EI m) y (by rw[z];exact N w C.C) (À U) (yM y) U (λx k e=>(Ld n x k e).elim) (by rwa[z]) D;refine p.Qm H m n q l P Q D V W X Y (by rw[d];rfl) (by rw[d];rfl) (p.C.G m n (λk=>by rw[d];rfl) (λe h=> ?_) (λe h=> ?_) (λe h=>by cases h) λe h=>by cases h) (by rw[d];simp only[gM.rk,jk.rk];omega) λe h=>by cases h
 .rcases h with⟨_,h⟩|h|h<;>cases h;exact t
 .rcases h with h|h|h<;>cases h;exact p.C.w i r m<|À d
def PI.agH(H:gQ F)(p:PI F j zX E S s B f c w qJ){r:Nat}(d:i+2<=E.r)(t:E.N (i+1)=Í)(q:c[F.L+1+i]?=Ä g)(K:g.status=Æ)(M:s (F.L+1+i)=.fB)(a:E.C i=.fy r .kX):jY F j zX E s c w qJ sl (F.L+1+i):=by
 have v:=iJ q;let⟨N,_,g',O,x⟩:=p.EJ H d t q K M a w<|p.I.r.r _ v;have C:=p.C.d i r d<|À ⟨_,a⟩;have D:=Hu H.C C;have G:=yN H.C i;have u:∀y:Ć,y.act=Ğ (ľ<|fM<|F.I<|F.r<|i+r*F.n)->y.act.touch?=Í:=λy m=>by rw[m];rfl
 let⟨T,P⟩:=jj x;have I:=lB (λl g h=>À<|H.Y _ _ _ _ h) x;obtain⟨o,y,Q,l,V,W,X,Y,q5,q7⟩:=p.AY (J:=JW F (E.I i) i<|.jI r) H (kW F (E.I i)<|.jI r) q (by rw[G];exact O w) fj fj (λy m=>⟨λz k=>(by rw[u y m]at k;cases k),by rw[m];exact p.I.r.N _<|À D⟩) (λy _ m=>AJ p.I.r.l λz k=>by rw[xc k];exact u y m) (by rwa[G]) I;have EM:=p.d.C (yI (λz k=>by rw[xc k];exact u y l) (λz k b _ e=>by
  have:z=y:=by simpa using k
  rw[this,l]at e;simp at e))
 refine p.Qm H d t q V W X I Y q5 EM q7 (by rw[a];rfl) (by rw[a];rfl) (p.C.G d t (λk=>by rw[a,Qo U];rfl) (λk h=> ?_) (λk h=> ?_) (λk h=>by cases h) λk h=>by cases h) (by rw[a];simp only[gM.rk,jk.rk];omega) λk h z=> ?_
 .rcases h with⟨_,h⟩|h|h<;>cases h;exact C
 .rcases h with h|h|h<;>cases h;exact p.C.w i r d<|Á<|À a
 .cases h;let⟨k,b,e⟩:=p.d.Y _ z<|Ù (p.C.w i r d<|Á<|À a)<|Qe _;exact XA k b e (p.d.c _ D) Q l<|(p.I.r.f _ v).trans N
end
section
variable{F:Ph}{E E':fS F}{S:Nat->Jd}{tr o:Nat->gu}{f:Nat->iz}{d:Nat->fe}{gs gs':Array Å}{u:ç}{sl:Option (Nat×Nat)}
def XU{G:GS}(h:G.sm≠0):∃a s,G=.gV a (s+1):=by
 cases G with
 |cl c b=>exact absurd U h
 |jE b=>exact absurd U h
 |gV a s=>cases s with
  |zero=>exact absurd U h
  |succ s=>exact⟨a,s,U⟩
def EN(h:gs[i]?=Ä g):gk gs i=if g.status=Æ then 1 else 0:=by unfold gk;rw[h];simp
def Qq(h:gs'[i]?=gs[i]?):gk gs' i=gk gs i:=by unfold gk;rw[h]
theorem PI.agI(H:gQ F)(p:PI F n zX E S tr f d gs w qJ){j r:Nat}{g:Å}(t:j+2<=E.r)(m:E.N (j+1)=Í)(v:gs[F.L+1+j]?=Ä g)(z:g.status=Æ)(ht:tr (F.L+1+j)=.fB)(c:E.C j=.fy r .kv):jY F n zX E tr gs w qJ sl (F.L+1+j):=by
 have B:=iJ v;obtain⟨hd,_,ho,Qr,g',h1,h2⟩:=(p.EJ H t m v z ht c) w<|p.I.r.r _ B;have Q:=p.C.d j r t<|À ⟨_,c⟩;have C:=Hu H.C Q;have G:=H.C.I _ Q;have V:=yN H.C j;have X:=p.G B;have yO:j<F.n:=by have:=EG p.C;omega
 have hG:=p.M.I _ G;by_cases K:(E.a<|F.r<|j+r*F.n).sm=0
 .have q:=hG.M;rw[K]at q;obtain⟨tV,I⟩:=p.g j t m;rw[c]at tV I;obtain⟨gs',q1,o,M,q4⟩:=PV v (by rw[V];exact(Qr w q));have s:∀x,Ą F.P g {g with status:=Þ} w x=x:=by
   intro x;unfold Ą;rw[if_neg fj]
  have b:∀k,k≠F.L+1+j->gs'[k]?=gs[k]?:=by
   intro k a;rw[q4 k a];cases gs[k]? with
   |none=>rfl
   |some x=>simp[s]
  have D:gL F.P F.S E.Y S tr f d gs' w (qJ++#[]):=by
   rw[Û];obtain⟨g0,J,l,W,O⟩:=p.I.C _ g v;have N:g=g0:=by
    rw[I]at l;cases l with
    |gk=>rfl
    |nT h ho=>cases z
   subst N;refine⟨?_,λk y a=> ?_,λk a=>p.I.I k<|by rwa[<-o]⟩
   .rw[show(λi=>i<gs'.size)=(λi=>i<gs.size) by rw[o]];exact p.I.r
   .by_cases e:k=F.L+1+j
    .subst e;rw[M]at a;obtain rfl:=Ã a;refine⟨g,J,?_,À z,Á ht⟩;rw[I];exact .nT z ho
    .rw[b k e]at a;exact p.I.C k y a
  refine⟨E,S,tr,f,d,gs',w,#[],q1,o,λh=>h,.r p.N (o.trans p.b) D (by rw[o];exact p.a) p.M p.C (by rw[Û];exact p.d) (λk y a l=> ?_) (by rw[Û];exact p.f),Qi (λ_ _=>rfl) X (by rw[EN v,if_pos z]) (by rw[EN M,if_neg fj]) λk a=>Qq<|b k a⟩;by_cases e:k=F.L+1+j
  .subst e;exact Á ⟨j,t,m,U,À ⟨r,c,K⟩⟩
  .rw[b k e]at a;exact p.c k y a l
 .obtain⟨a,s,y⟩:=XU K;have Qs:=y▸hG;have xd:=h1 w _ (by simp only[GS.sm];omega) Qs.M Qs.N;have N:kz (F.I<|F.r<|j+r*F.n) w (w.setCell (gP<|F.I<|F.r<|j+r*F.n)<|é è<|(GS.gV a<|s+1).sm-1):=Á ⟨_,_,Á U,U⟩;have D:=N.r p.a H.C C;obtain⟨T,hT⟩:=jj (h2.jL (w₁:=w.setCell (gP<|F.I<|F.r<|j+r*F.n)<|é è<|(GS.gV a<|s+1).sm-1) ⟨Ö D.r.symm,λb l=>D.jR b<|p.I.r.I _ B b l,λa k=>D.M _ B a k,λa k=>D.N _ B a k,λa _=>D.I a⟩);have nR:=lB (λl g h=>À h.2.1) h2;obtain⟨gs',u,q1,o,M,q4,q5,q6,q7⟩:=p.Y H (kW F (E.I j)<|.fy r .gy) v (EI t) C (by rwa[V]) N (Hs C) (Ht _).2.2.2 (λx l e=>(Ld m x l e).elim) (by rwa[V]) nR;have hle:F.r (j+r*F.n)<=E.S.od:=by
   refine ĉ λl=> ?_;have:=p.C.e _ Z G l;rw[y]at this;cases this
  have sQ:=w7 (f':=λi=>((gN E j<|.fy r .gy).C i).gC F i<|F.r<|j+r*F.n) yO (λi l=>by rw[iM _ l]);simp only[jM,c]at sQ;have tV:gM.gC F j (F.r<|j+r*F.n) (.fy r .gy)=0:=by simp only[gM.gC,if_true];rfl
  have I:gM.gC F j (F.r<|j+r*F.n) (.fy r .kv)=1:=by simp only[gM.gC,if_true];rfl
  rw[tV,I]at sQ;refine⟨vv E j (.fy r .gy) (F.r<|j+r*F.n) (.gV a s) E.d,_,_,_,_,gs',_,u,q1,o,λh=>h,.r ?_ (o.trans p.b) q5 ?_ ?_ (p.C.XJ t m (λl q=> ?_) (λ_ h=>by omega) (λ_=> ?_) (λ_=>⟨a,s,U⟩) (λh=>by cases h) (λ_ _=>rfl) (λ_ h=>h) (λb h=> ?_) (λb h=> ?_) (λb h=> ?_) λb h=>by cases h) q6 ?_ λk b J O a3=> ?_,?_⟩
  .have:=p.N.N (x:=.fy r .gy) (T:=T) H.C t m;exact⟨this.M,this.Y,this.I,this.C,this.r⟩
  .have:=q7.r (x:=.fy r .gy) (by rw[c];rfl);exact⟨this.gS,this.o,this.lO,this.e,this.f,this.h,this.l,this.S,this.M,this.c,this.I,this.N,this.g,this.d⟩
  .have W:=N.I H p.a p.C p.M C (Gg:=fw E.a (F.r<|j+r*F.n)<|.gV a s) ⟨λe=>absurd e<|H.C.M _ G,λ_=>rfl⟩ λl q=>⟨λe=> ?_,λe=>fI _ _ λe'=>e<|by rw[e']⟩
   .have l:=W.Y (x:=.fy r .gy) (by show _=(E.C j).ky;rw[c];rfl) (by show _=(E.C j).iL;rw[c];rfl);exact⟨l.C,l.I,l.jG,l.M,l.S,l.N⟩
   .rw[<-(H.C.S _ _ G q e),gB];exact Qs.kv
  .rw[c];simp only[gM.gC,if_neg<|õ q]
  .rcases p.C.Y _ G hle with⟨W,_,q,_⟩|⟨r1,s1,l,z2,q,z3⟩|⟨l,⟨q,_⟩|⟨s1,q,z3⟩⟩
   .rw[y]at q;cases q
   .rw[y]at q;injection q with e1 e2;subst e1 e2;exact Á<|À ⟨a,s,l,z2,U,Z⟩
   .rw[y]at q;cases q
   .rw[y]at q;injection q with e1 e2;subst e1 e2;exact Á<|Á ⟨l,Á ⟨s,U,Z⟩⟩
  .rcases h with⟨_,h⟩|h|h<;>cases h;exact Q
  .rcases h with h|h|h<;>cases h;exact hle
  .cases h;exact⟨a,s,gB _ _ _⟩
  .refine p.c.qG (E':=vv E j _ _ _ _) M (by rcases nR with q|q<;>rw[q]<;>simp) q4 (λk l=>N.C p.C C l) U U (λ_ _=>rfl) (λ_=>rfl) (λk e=>iM _ Z) (λ_ _ h=>À h) λk b _ _ h=>À ?_;by_cases e:F.r (k+b*F.n)=F.r (j+r*F.n)
   .rw[e]at h;exact absurd h K
   .show(fw E.a _ _ _).sm=0;rwa[fI _ _ e]
  .have e:k≠j:=λe=>by
    subst e;have:(gN E k<|.fy r .gy).C k=.jI b:=O;rw[jM]at this;cases this
   have l:(gN E j<|.fy r .gy).C k=.jI b:=O;rw[iM _ e]at l;exact(p.f k b J l a3).app u
  .have:=EH (E:=E) (tr:=tr) (gs:=gs) (gs':=gs') (x:=.fy r .gy) (T:=T) H.C X m (by rw[c];simp only[gM.rk,jk.rk];omega);rcases this with⟨i,J,O,a3⟩|⟨J,_⟩
   .exact À ⟨i,J,O,a3⟩
   .exfalso;have:=J _ X;change(gN E j<|.fy r .gy).iR (fw tr (F.L+1+j) T) (F.L+1+j)=E.iR tr (F.L+1+j)at this;rw[tS H.C (E:=gN E j _) (show(gN E j _).N (j+1)=Í from m),tS H.C m,jM,c]at this;injection this with e _;simp only[gM.rk,jk.rk]at e;omega
def iG.agJ(L:iG F E d i w){l:fe}(H:∀b,l.O b->(d n).O b)(I:∀b,(d n).I b->l.I b)(J:∀a,l.r a->(d n).r a)(K:∀a,(d n).r a->l.r a)(M:∀a,(d n).N a->l.N a)(N:∀a,l.C a->(∃k,k<=F.m/\a=jf F.toFx k)\/∃p,p≠F.f/\a=jm F p)(P:l.q=(d n).q)(o:¬l.q):iG F E (gq d n l) i w:=by
 have D:∀k,d k=kx (d k)->k≠n:=λk g e=>by
  subst e;have:(d k).q:=by rw[g];trivial
  exact o<|P▸this
 have Q:∀k b,(gq d n l k).O b->(d k).O b:=λk b h=>by
  by_cases e:k=n
  .subst e;rw[gT]at h;exact H b h
  .rwa[gF d _ e]at h
 have t:∀k a,(gq d n l k).r a↔(d k).r a:=λk a=>by
  by_cases e:k=n
  .subst e;rw[gT];exact⟨J a,K a⟩
  .rw[gF d _ e]
 have y:∀k b,(d k).I b->(gq d n l k).I b:=λk b h=>by
  by_cases e:k=n
  .subst e;rw[gT];exact I b h
  .rwa[gF d _ e]
 have z:∀k a,(d k).N a->(gq d n l k).N a:=λk a h=>by
  by_cases e:k=n
  .subst e;rw[gT];exact M a h
  .rwa[gF d _ e]
 refine⟨λk g a v=> ?_,λx c s a v=>(t _ _).2<|L.o x c s a v,λh=>⟨z _ _ (L.lO h).1,λb o=>y _ _<|(L.lO h).2 b o⟩,λh k c s=>⟨(t _ _).2 (L.e h k c s).1,(t _ _).2 (L.e h k c s).2⟩,λh u=>⟨z _ _ (L.f h u).1,λb o=>y _ _<|(L.f h u).2 b o⟩,λj f u r B c=>(t _ _).2<|L.h j f u r B c,λj f u=>⟨z _ _ (L.l j f u).1,λb o=>y _ _<|(L.l j f u).2 b o⟩,λx G=> ?_,λk g=> ?_,λk c s=> ?_,λk g b o=> ?_,λk g j f h=>L.N k g j f<|(t _ _).1 h,λk c s j f h=>L.g k c s j f<|(t _ _).1 h,λj f r B c k g h=>L.d j f r B c k g<|(t _ _).1 h⟩
 .by_cases e:k=n
  .subst e;rw[gT]at v;exact N a v
  .rw[gF d _ e]at v;exact L.gS k g a v
 .rw[gF d _<|D _<|L.S x G];exact L.S x G
 .by_cases e:k=n
  .subst e;rwa[gT]
  .rw[gF d _ e];exact L.M k g
 .rw[gF d _<|D _<|L.c k c s];exact L.c k c s
 .let⟨S,T,V⟩:=L.I k g b o;exact⟨S,T,λj f h=>V j f<|Q j b h⟩
def PI.agK(H:gQ F)(p:PI F n zX E S tr f d gs w qJ){r:Nat}(o:j+2<=E.r)(s:E.N (j+1)=Í)(v:gs[F.L+1+j]?=Ä g)(x:g.status=Æ)(K:tr (F.L+1+j)=.fB)(m:E.C j=.jI r):rE F n zX E tr gs w qJ:=by
 have l:=iJ v;have C:=p.I.r;obtain⟨y,z⟩:=p.g j o s;rw[m]at y z;have B:=p.I.N v x K (À z) w<|C.r _ l;rw[y]at B;have u:=p.C.d j r o<|Á<|À m;have D:=H.C.I _ u;have G:=p.C.w j r o<|Á<|Á m;have t:=Ù G<|Ù (Qe _)<|K9 p.C;obtain⟨M,N⟩:=p.M.M _ t;have I:=λa c=>by
  by_cases e:1<=F.r (j+r*F.n)
  .exact(p.d.I _ e (Ù G<|Qe _) a c).af9<|p.f j r o m e
  .have h:F.r (j+r*F.n)=0:=Z
   obtain⟨i,k⟩:=p.a.l j o s;rw[h]at c;rcases c with c|rfl
   .rw[p.C.v]at c;exact(C.S _ l).C a<|k _ c
   .exact(C.S _ l).r _ i
 have J:iQ F.S (λi=>i<gs.size) E.Y (gq d (F.L+1+j) {d (F.L+1+j)with I:=λb=>(d<|F.L+1+j).I b\/E.V (F.r<|j+r*F.n) b,N:=λa=>(d<|F.L+1+j).N a\/a=jf F.toFx (F.r<|j+r*F.n),w:=w}) w qJ:=by
  refine C.C l (λ_ q=>q) (λb q=> ?_) (λ_ q=>q) (λa q=> ?_) U U U (λb h q=> ?_) λa c q=> ?_
  .rcases q with q|q
   .exact À<|Á q
   .obtain⟨i,T,O⟩:=p.a.I _ t b q;exact Á ⟨i,T,λk e=>O k e,λa c=>I a<|À<|by rwa[c]⟩
  .rcases q with q|rfl
   .exact À<|Á q
   .exact Á ⟨À<|Á ⟨_,D,U⟩,λk e=>p.a.N _ t k e,I _<|Á U⟩
  .rcases q with q|q
   .exact C.m _ l b h q
   .exact(p.a.I _ t b q).2.2 _ l h
  .rcases q with q|rfl
   .exact C.g _ l a c q
   .exact p.a.N _ t _ l c
 have i:=J.M l;rw[gT]at i;obtain⟨T,O⟩:=jj (H.e (E.I j) j r _ _ _ g u B {d (F.L+1+j)with I:=λb=>(d<|F.L+1+j).I b\/E.V (F.r<|j+r*F.n) b,N:=λa=>(d<|F.L+1+j).N a\/a=jf F.toFx (F.r<|j+r*F.n),w:=w} i U (λb q=>q) U U U U U M N (Á U)<|p.a.h j o s r u<|by rw[m];exact Ç _);refine p.Qj H o s v (À x) J O ?_ (p.M.Y (by rw[m];rfl)<|by rw[m];rfl) (p.C.G o s (λk=>by rw[m];rfl) (λe h=> ?_) (λe h=> ?_) (λe h=>by cases h) λe h=>by cases h) ?_ λe h=>by cases h
 .refine(p.a.r<|by rw[m];rfl).agJ (λ_ q=>q) (λ_ q=>À q) (λ_ q=>q) (λ_ q=>q) (λ_ q=>À q) (λa c=> ?_) U (p.a.M (F.L+1+j)<|Á ⟨j+1,Z,Z,λ⟨e,k,_⟩=>by rw[s]at k;cases k⟩);rcases c with q|q|rfl
  .exact p.a.gS _ l a<|À q
  .exact p.a.gS _ l a<|Á q
  .exact À ⟨_,D,U⟩
 .rcases h with⟨_,h⟩|h|h<;>cases h;exact u
 .rcases h with h|h|h<;>cases h
 .rw[m];simp only[gM.rk];have e:F.n+3000<=(F.n+3000)*(F.q+3-r):=å _ (by
   have:r<=F.q:=by have:r*1<=r*F.n:=ñ _ H.C.N;omega
   omega)
  omega
def PI.agL(H:gQ F)(p:PI F n zX E S tr f d gs w qJ){r:Nat}(G:j+2<=E.r)(I:E.N (j+1)=Í)(V:gs[F.L+1+j]?=Ä g)(iH:g.status=Æ)(ht:tr (F.L+1+j)=.fB)(u:E.C j=.nj r):rE F n zX E tr gs w qJ:=by
 have D:=iJ V;have C:=p.I.r;let⟨tV,sR⟩:=p.g j G I;rw[u]at tV sR;have hJ:=p.I.N V iH ht<|À sR;rw[tV]at hJ;let⟨hcell,hrecv⟩:=hJ w<|C.r _ D;have oG:=p.C.d j r G<|Á<|Á u;have Le:=p.a.h j G I r oG (by rw[u];exact Ç _);have Lf:r<=F.q:=by have:r*1<=r*F.n:=ñ _ H.C.N;omega
 have yP:iQ F.S (λi=>i<gs.size) E.Y (gq d (F.L+1+j)<|vu F {d (F.L+1+j)with w:=w}<|j+r*F.n) w qJ:=by
  refine C.C D (λ_ q=>q) (λb q=>À<|Á q) (λ_ q=>q.1) (λa q=> ?_) U U U (λb t q=>C.m _ D b t q) λa s q=> ?_
  .rcases q with q|rfl
   .exact À<|Á q
   .exact À<|À Le
  .rcases q with q|q
   .exact C.g _ D a s.1 q
   .exact s.2 q
 have hF:kV F.P É (JW F (E.I j) j<|.np (r+1)) .fB (vu F {d (F.L+1+j)with w:=w}<|j+r*F.n) g:=λw₁ mP=>by let⟨Q,W,c,e⟩:=hrecv;exact⟨Q,W,c,λx=>(e x).jL mP⟩
 refine p.Qj H G I V (À iH) yP hF ?_ ?_ (p.C.G G I (λk=>by rw[u];rfl) (λm h=> ?_) (λm h=> ?_) (λm h=>by cases h) λm h=>by cases h) ?_ λm h=>by cases h
 .have L:=p.a;have J:∀k a,(gq d (F.L+1+j) (vu F {d (F.L+1+j)with w:=w}<|j+r*F.n) k).r a->(d k).r a:=λk a h=>by
   by_cases e:k=F.L+1+j
   .subst e;rw[gT]at h;exact h.1
   .rwa[gF d _ e]at h
  have K:∀k a,(d k).r a->a≠jm F (F.a<|j+r*F.n)->(gq d (F.L+1+j) (vu F {d (F.L+1+j)with w:=w}<|j+r*F.n) k).r a:=λk a h lk=>by
   by_cases e:k=F.L+1+j
   .subst e;rw[gT];exact⟨h,lk⟩
   .rwa[gF d _ e]
  have X:∀k a,(d k).N a->(gq d (F.L+1+j) (vu F {d (F.L+1+j)with w:=w}<|j+r*F.n) k).N a:=λk a h=>by
   by_cases e:k=F.L+1+j
   .subst e;rw[gT];exact À h
   .rwa[gF d _ e]
  have M:∀k,(gq d (F.L+1+j) (vu F {d (F.L+1+j)with w:=w}<|j+r*F.n) k).I=(d k).I/\(gq d (F.L+1+j) (vu F {d (F.L+1+j)with w:=w}<|j+r*F.n) k).O=(d k).O/\(gq d (F.L+1+j) (vu F {d (F.L+1+j)with w:=w}<|j+r*F.n) k).q=(d k).q:=λk=>by
   by_cases e:k=F.L+1+j
   .subst e;rw[gT];exact⟨U,U,U⟩
   .rw[gF d _ e];exact⟨U,U,U⟩
  have nb:∀k,d k=kx (d k)->k≠F.L+1+j:=λk W e=>by
   subst e;have:(d<|F.L+1+j).q:=by rw[W];trivial
   exact(p.a.M (F.L+1+j)<|Á ⟨j+1,Z,Z,λ⟨e,c,_⟩=>by rw[I]at c;cases c⟩) this
  have N:∀k,k≠F.L+1+j->k<gs.size->∀a,(d k).r a->a≠jm F (F.a<|j+r*F.n):=λk W Hx a s e=>C.h _ _ Hx D W a s (by rw[e];exact À Le);refine⟨λk W a s=> ?_,λx c v a s=>K _ _ (L.o x c v a s) (N 0 (by have:=H.C.r;omega) (by have:=p.b;have:=H.C.r;omega) a<|L.o x c v a s),λh=>⟨X _ _ (L.lO h).1,λb t=>by rw[(M 0).1];exact(L.lO h).2 b t⟩,λh k c v=> ?_,λh B=>⟨X _ _ (L.f h B).1,λb t=>by rw[(M _).1];exact(L.f h B).2 b t⟩,λl o B m y c=> ?_,λl o B=>⟨X _ _ (L.l l o B).1,λb t=>by rw[(M _).1];exact(L.l l o B).2 b t⟩,λx AZ=>by rw[gF d _<|nb _<|L.S x AZ];exact L.S x AZ,λk W=>by rw[(M k).2.2];exact L.M k W,λk c v=>by rw[gF d _<|nb _<|L.c k c v];exact L.c k c v,λk W b t=>⟨(L.I k W b t).1,(L.I k W b t).2.1,λi z=>by rw[(M i).2.1];exact(L.I k W b t).2.2 i z⟩,λk W i z h=>L.N k W i z<|J _ _ h,λk c v i z h=>L.g k c v i z<|J _ _ h,λl o m y c i z h=> ?_⟩
  .by_cases e:k=F.L+1+j
   .subst e;rw[gT]at s;rcases s with q|q|q
    .exact L.gS _ D a<|À q.1
    .exact L.gS _ D a<|Á q
    .exact Á ⟨_,H.C.Y.2 _ (by assumption),q⟩
   .rw[gF d _ e]at s;exact L.gS k W a s
  .have Q:F.L<gs.size:=by have:=p.b;have:0<E.r:=h;omega
   have:=L.e h k c v;exact⟨K _ _ this.1<|N _ Z Q _ this.1,K _ _ this.2<|N _ Z Q _ this.2⟩
  .by_cases e:l=j
   .subst e;rw[jM]at c;simp only[gM.ky]at c;refine K _ _ (L.h l o B m y<|by rw[u];simp only[gM.ky];omega) λq=> ?_;have Q:=H.C.a _ _ y oG (by injection q);have T:m*F.n=r*F.n:=Z
    have:=Nat.eq_of_mul_eq_mul_right H.C.N T;omega
   .rw[iM _ e]at c;have q:=L.h l o B m y c;have xe:l+2<=E.r:=o;exact K _ _ q<|N _ Z (by have:=p.b;omega) _ q
  .by_cases e:l=j
   .subst e;rw[jM]at c;simp only[gM.ky]at c;by_cases Q:m=r
    .subst Q;by_cases T:i=F.L+1+l
     .subst T;rw[gT]at h;exact h.2 U
     .exact N i T z _ (J _ _ h) U
    .exact L.d l o m y (by rw[u];simp only[gM.ky];omega) i z<|J _ _ h
   .rw[iM _ e]at c;exact L.d l o m y c i z<|J _ _ h
 .have W:=p.M;refine⟨W.C,W.I,λl o=> ?_,W.M,W.S,λl o m y c=> ?_⟩
  .by_cases e:l=j
   .subst e;have:=W.jG l o;rw[u]at this;rw[jM];exact this
   .rw[iM _ e];exact W.jG l o
  .by_cases e:l=j
   .subst e;rw[jM]at c;simp only[gM.ky]at c;by_cases Q:m=r
    .subst Q;exact hcell
    .exact W.N l o m y<|by rw[u];simp only[gM.ky];omega
   .rw[iM _ e]at c;exact W.N l o m y c
 .rcases h with⟨_,h⟩|h|h<;>cases h
 .rcases h with h|h|h<;>cases h
 .rw[u];simp only[gM.rk];have e:F.q+3-r=(F.q+3-(r+1))+1:=Z
  rw[e,į];omega
end
def agM{α:Type}(f:Nat->α)(i:Nat)(x y:α):fw (fw f i x) i y=fw f i y:=by funext k;unfold fw;split<;>rfl
section
variable{F:Ph}{E E':fS F}{S:Nat->Jd}{tr o:Nat->gu}{d:Nat->iz}{lot:Nat->fe}{gs gs':Array Å}{u:ç}{sl:Option (Nat×Nat)}{sz:Nat}
def pV{r:Nat}{a:Bool}(h:b≠i):(w.setChan i n q yQ j r a).heap[b]?=w.heap[b]?:=by unfold World.setChan;exact á<|õ h
def Lg{r:Nat}{a:Bool}(h:i<w.heap.size):(w.setChan i n q yQ j r a).heap[i]?=Ä (.chan n q yQ j r a):=by unfold World.setChan;simp[h]
def Hz{r:Nat}{a:Bool}:(w.setChan i n q yQ j r a).heap.size=w.heap.size:=by unfold World.setChan;simp
def agN(f:Ps F E)(c:j+2<=E.r){cap s r:Nat}{buf:Array ì}{cl tm:Bool}:Ho F E lot sz w (w.setChan (E.I j) cap buf cl s r tm):=by
 let⟨g,d,_⟩:=f.o j c;refine⟨Ö Hz.symm,λb _ h _=>pV λe=>h<|Á<|Á ⟨j,c,e⟩,λa i _=>gK (pV λe=> ?_),wS (pV λe=>d e.symm),U,U⟩;rcases i with⟨k,l,rfl⟩|⟨p,rfl⟩
 .exact g<|Á ⟨k,l,e.symm⟩
 .exact d e.symm
def XV(a:Ps F E)(c:j+2<=E.r){cap s r:Nat}{buf:Array ì}{cl tm:Bool}(d:F.M b){G:GS}(h:hD w b G):hD (w.setChan (E.I j) cap buf cl s r tm) b G:=by have e:b≠E.I j:=λe=>(a.o j c).1<|e▸d;exact h.vt (gK<|pV e) (gK<|pV e) (wT<|pV e)<|wT<|pV e
def Wd.G(W:Wd F E w)(H:gQ F)(L:iG F E lot sz w)(g:Ps F E)(h:j+2<=E.r){cap s r:Nat}{buf:Array ì}{cl tm:Bool}: (∀k,k<=E.S.md->nt F k (E.c k)/\F.d k (E.c k) (E.V k) (w.setChan (E.I j) cap buf cl s r tm))/\(∀k,1<=k->k<=E.S.md->(w.setChan (E.I j) cap buf cl s r tm).cell? (jm F (F.b k))=Ä (.string (F.o k)))/\(∀c,c+2<=E.r->∀d,c+d*F.n<F.q->d<(E.C c).ky->(w.setChan (E.I j) cap buf cl s r tm).cell? (jm F (F.a (c+d*F.n)))=Ä (.string (F.k (c+d*F.n))))/\hD (w.setChan (E.I j) cap buf cl s r tm) F.C E.b/\(∀k,k<=F.m->hD (w.setChan (E.I j) cap buf cl s r tm) (F.I k) (E.a k)):=by have e:=agN (lot:=lot) (sz:=sz) (w:=w) g h (cap:=cap) (s:=s) (r:=r) (buf:=buf) (cl:=cl) (tm:=tm);refine⟨λk a=>⟨(W.M k a).1,H.S _ _ _ _ _ (W.M k a).2 (λb f=>e.C b (L.I k a b f).1 (L.I k a b f).2.1 (L.I k a b f).2.2) (e.r _ (À ⟨k,Ù a (K8 g),U⟩) (L.N k a)) (e.r _ (Á ⟨_,U⟩) (L.Qd H.C)) e.I e.M⟩,λk b f=>(e.r _ (Á ⟨_,U⟩) (L.g k b f)).trans (W.S k b f),λc b d f i=>(e.r _ (Á ⟨_,U⟩) (L.d c b d f i)).trans (W.N c b d f i),XV g h (À U) W.C,λk a=>XV g h (Á ⟨k,a,U⟩) (W.I k a)⟩
def iG.EO(L:iG F E lot sz w)(h:w.heap.size<=W.heap.size):iG F E lot sz W:= ⟨L.gS,L.o,L.lO,L.e,L.f,L.h,L.l,L.S,L.M,L.c,λk a b c=>⟨Ê (L.I k a b c).1 h,(L.I k a b c).2⟩,L.N,L.g,L.d⟩
def Lh(c:TI F.toFx i zX E.r E.S.rl E.V E.e E.d E.iu E.f qJ)(h:wW u):TI F.toFx i zX E.r E.S.rl E.V E.e E.d E.iu E.f (qJ++u):= c.C<|yI (λa b=>(h a b).1) λa b _ _=>(h a b).2 _
def gU(E:fS F)(x:Nat)(e:ij):fS F:={E with N:=fw E.N x (Ä e)}
def qK.G(h:qK F E S tr d)(ok:F.Ok){x:Nat}{e:ij}{T:gu}(k:(∃N,e=.jr N)->T=.fB):qK F (fv.gU E x e) (fw S (F.L+x)<|JE F e) (fw tr (F.L+x) T) (fw d (F.L+x) .no):=by
 have:=ok.r;have c:∀y,y≠x->(fv.gU E x e).N y=E.N y:=λy l=>fI _ _ l;have f:(fv.gU E x e).N x=Ä e:=gB _ _ _;refine⟨by rw[fI S _ Z,fI d _ Z];exact h.M,λb a=> ?_,λj b a=> ?_,λy m b a=> ?_,λi b a=>by rw[fI S _ Z,fI d _ Z,fI tr _ Z];exact h.r i b a⟩
 .have g:x≠0:=λq=>by subst q;rw[f]at a;cases a
  rw[c 0<|õ g]at a;rw[fI S _ Z,fI d _ Z];exact h.Y b a
 .have g:x≠j+1:=λq=>by subst q;rw[f]at a;cases a
  rw[c _<|õ g]at a;rw[fI S _ Z,fI d _ Z];exact h.I j b a
 .by_cases q:y=x
  .subst q;rw[f]at a;obtain rfl:=Ã a;rw[gB,gB,gB];exact⟨U,U,k⟩
  .rw[c y q]at a;rw[fI S _ Z,fI d _ Z,fI tr _ Z];exact h.C y m b a
def rF(F:Ph)(E:fS F)(x:Nat):Nat×Nat:=match E.N x with
 |some e=>e.rk F
 |none=>if x=0 then(E.S.rk F,0)else((E.C<|x-1).rk F,0)
def agO(ok:F.Ok)(x:Nat):E.iR tr (F.L+x)=((rF F E x).1,(rF F E x).2,tr<|F.L+x):=by
 have:=ok.r;unfold rF;cases a:E.N x with
 |some e=>rw[Lb ok a]
 |none=>
  cases x with
  |zero=>rw[ö,Qf ok a];simp
  |succ j=>rw[show F.L+(j+1)=F.L+1+j by omega,tS ok a];simp
def EP(ok:F.Ok){x:Nat}{e:ij}{T:gu}(b:F.L+x<F.N)(h:(e.rk F).1<(rF F E x).1\/((e.rk F).1=(rF F E x).1/\(e.rk F).2<(rF F E x).2)):pe F.N ((fv.gU E x e).mu (fw tr (F.L+x) T) gs') (E.mu tr gs):=by
 refine Hq b ?_ λk c=>yK (λ_=>rfl) (λ_ _=>rfl) (λa=>fI _ _ Z) (λ_ _=>rfl) (λ_ _=>rfl)<|fI tr _ c;rw[Lb ok (E:=fv.gU E x e)<|gB _ _ _,agO ok];rcases h with h|⟨a,d⟩
 .exact À h
 .exact Á ⟨a,À d⟩
def agP{e:ij}(h:e.kI=lW (E.N i))(y:Nat):(fv.gU E i e).G y=E.G y:=by
 unfold fS.G;by_cases q:y=i
 .subst q;show(if y<E.M.ad F.n then lW (fw E.N y (Ä e) y)else 0)=_;rw[gB];show(if y<E.M.ad F.n then e.kI else 0)=_;rw[h]
 .show(if y<E.M.ad F.n then lW (fw E.N i (Ä e) y)else 0)=_;rw[fI _ _ q]
def agQ{e:ij}(h:e.kI=lW (E.N i)):Ñ (F.n+1) (fv.gU E i e).G=Ñ (F.n+1) E.G:=Į λy _=>agP h y
def Ps.gU(h:Ps F E){x:Nat}{e:ij}(L:x<E.r)(z:e.kI=lW (E.N x))(o:∀p,E.N x=Ä (.gf p)->∀W,p≠ .gy W/\p≠ .jb W/\p≠ .iA W)(B:∀p,e=.gf p->∀W,p≠ .gy W/\p≠ .jb W/\p≠ .iA W) (C:∀j,x=j+1->j<E.M.je F.n/\∃r,E.C j=.np r/\∀i,j+i*F.n<F.q->i<r) (D:x=0->E.S=.kH F.m):Ps F (fv.gU E x e):=by
 have b:∀y,y≠x->(fv.gU E x e).N y=E.N y:=λy a=>fI _ _ a;have G:(fv.gU E x e).N x=Ä e:=gB _ _ _;have l:=agQ (E:=E) z;refine⟨h.v,h.C,h.K,h.L,h.J,h.I,h.z,h.d,λj H f=> ?_,λf=> ?_,λy a=> ?_,h.M,h.o,λc g k=>by rw[l];exact h.t c g k,λg k=> ?_,λr s k=> ?_,λy p a=> ?_,λI=>by rw[l];exact h.B I,h.e,h.Y,h.w,h.H,h.O,h.S,h.y,h.D⟩
 .by_cases q:j+1=x
  .exact C j q.symm
  .rw[b _ q]at f;exact h.l j H f
 .by_cases q:0=x
  .exact D q.symm
  .rw[b _ q]at f;exact h.f f
 .have:E.r<=y:=a;rw[b y Z];exact h.h y a
 .rw[l];let⟨t,u,y,v,w,d⟩:=h.g g k;refine⟨t,u,y,v,w,?_⟩;have:y≠x:=λq=>by
   subst q;rcases d with d|d
   .exact(o _ d g).1 U
   .exact(o _ d g).2.1 U
  rwa[b y this]
 .rw[l];let⟨t,u,v⟩:=h.u r s k;refine⟨t,u,λd=> ?_⟩;let⟨y,J,K,w⟩:=v d;have:y≠x:=λq=>by subst q;exact(o _ w r).2.2 U
  exact⟨y,J,K,by rwa[b y this]⟩
 .by_cases q:y=x
  .subst q;rw[G]at a;have t:=B p<|Ã a;exact⟨λW w=>(w.elim (t W).1 (t W).2.1).elim,λr d=>((t r).2.2 d).elim⟩
  .rw[b y q]at a;exact h.N y p a
def XW{x:Nat}{e:ij}(h:i≠x):(fv.gU E x e).iu i↔E.iu i:=by unfold fS.iu;show(∃a,fw E.N x (Ä e) i=Ä a/\a.iu)↔_;rw[fI _ _ h]
def agR{e:ij}:(fv.gU E i e).iu i↔e.iu:=by unfold fS.iu;show(∃a,fw E.N i (Ä e) i=Ä a/\a.iu)↔_;rw[gB];exact⟨λ⟨a,b,c⟩=>by cases b;exact c,λh=>⟨e,U,h⟩⟩
def agS{e:ij}(h:e.iu↔E.iu i)(y:Nat):(fv.gU E i e).iu y↔E.iu y:=by
 by_cases q:y=i
 .subst q;rwa[agR]
 .exact XW q
def XX{e:ij}(h:e.oc↔E.oc i)(y:Nat):(fv.gU E i e).oc y↔E.oc y:=by
 unfold fS.oc at h|-;show(∃a,fw E.N i (Ä e) y=Ä a/\a.oc)↔_;by_cases q:y=i
 .subst q;rw[gB];exact⟨λ⟨a,b,c⟩=>h.1 (by cases b;exact c),λd=>⟨e,U,h.2 d⟩⟩
 .rw[fI _ _ q]
def iG.gU(L:iG F E lot sz w){x:Nat}{e:ij}(h:e.oc↔E.oc x):iG F (fv.gU E x e) lot sz w:=by
 have d:∀y,(fv.gU E x e).N y=Í->E.N y=Í:=λy c=>by
  by_cases q:y=x
  .subst q;have:fw E.N y (Ä e) y=Í:=c;rw[gB]at this;cases this
  .have:fw E.N x (Ä e) y=Í:=c;rwa[fI _ _ q]at this
 exact⟨L.gS,L.o,L.lO,L.e,λa b=>L.f a<|d _ b,λj a b=>L.h j a<|d _ b,λj a b=>L.l j a<|d _ b,λy c=>L.S y<|(XX h y).1 c,λi f=>L.M i (f.imp id λ⟨y,a,b,g⟩=>⟨y,a,b,λq=>g<|(XX h y).2 q⟩),L.c,L.I,L.N,L.g,L.d⟩
def Wd.gU(W:Wd F E w){x:Nat}{e:ij}:Wd F (fv.gU E x e) w:=⟨W.C,W.I,W.jG,W.M,W.S,W.N⟩
def TI.G(a:TI F.toFx i zX E.r E.S.rl E.V E.e E.d E.iu E.f qJ){x:Nat}{e:ij}(h:e.iu↔E.iu x):TI F.toFx i zX (fv.gU E x e).r (fv.gU E x e).S.rl (fv.gU E x e).V (fv.gU E x e).e (fv.gU E x e).d (fv.gU E x e).iu (fv.gU E x e).f qJ:= {a with r:=λy b c=>a.r y b ((agS h y).1 c)}
def PI.agT(H:gQ F)(p:PI F i zX E S tr d lot gs w qJ){r:Nat}(t:j+2<=E.r)(o:E.N (j+1)=Í)(M:gs[F.L+1+j]?=Ä g)(iH:g.status=Æ)(ht:tr (F.L+1+j)=.fB)(C:E.C j=.np r):jY F i zX E tr gs w qJ sl (F.L+1+j):=by
 have xa:=p.G<|iJ M;obtain⟨tV,sR⟩:=p.g j t o;rw[C]at tV sR;have Qt:S (F.L+1+j)=wU F.P (F.L+1+j==0) (E.I j) F.z λx=>match x with
  |some v=>λl g=>v=F.c (j+r*F.n)->qI F.P É F.B (F.I<|F.r<|j+r*F.n) (F.e (E.I j)<|j+r*F.n) .iW l g
  |none=>AO F:=by rwa[yN H.C j]
 have hY:E.Y (E.I j):=Á<|Á ⟨j,t,U⟩;obtain⟨buf,s,D,tW,XY,yR,yS⟩:=p.M.jG j t;rw[C]at D XY yR yS;simp only[gM.iL]at D XY yR yS;have ER:=(p.I.r).N _ hY;by_cases AT:r<s
 .have Li:=yS 0 Z;rw[ö]at Li;have oG:j+r*F.n<F.q:=by
   have:=(tW r).1 AT;have:E.M.my F.q<=F.q:=by cases E.M<;>simp only[fU.my]<;>omega
   omega
  obtain⟨gs',u,T,g',O,f,Q,V,I,W,q7⟩:=p.I.np M iH sR ht Qt hY D Li<|kW F (E.I j)<|.fy r .iW;have q8:=q7.kH (λl g h=>by rw[gB]at h;exact h U);rw[agM]at q8;obtain⟨z1,z2,z3,z4,z5⟩:=p.M.G H p.a p.C t;refine⟨gN E j<|.fy r .iW,_,_,_,_,gs',_,u,O,f,λh=>h,.r (p.N.N H.C t o) (f.trans p.b) q8 ?_ ⟨z4,z5,λv m=> ?_,z1,z2,λv m c oY a=> ?_⟩ (p.C.G t o (λk=>by rw[C,Qo U];rfl) (λc h=> ?_) (λc h=> ?_) (λc h=>by cases h) λc h=>by cases h) (Lh p.d W) (λk y b G=> ?_) λv c a1 J a3=> ?_,EH H.C xa o ?_⟩
  .rw[f];exact((p.a.r<|by rw[C];rfl).EO<|Ö Hz.symm)
  .by_cases e:v=j
   .subst e;rw[jM];refine⟨buf.extract 1 buf.size,s,Lg ER,tW,AT,by rw[Array.size_extract];simp only[gM.iL];omega,λl lq=> ?_⟩;simp only[gM.iL]at lq|-;rw[Array.getElem?_extract];rw[if_pos Z];have:=yS (1+l) Z;rw[this,show r+(1+l)=r+1+l by omega]
   .rw[iM _ e];obtain⟨K,X,y1,y2⟩:=p.M.jG v m;refine⟨K,X,?_,y2⟩;show(w.setChan (E.I j) _ _ _ _ _ _).heap[E.I v]?=_;rwa[pV λq=>e<|p.C.M _ _ m t q]
  .by_cases e:v=j
   .subst e;rw[jM]at a;exact z3 v m c oY<|by rwa[C]
   .rw[iM _ e]at a;exact z3 v m c oY a
  .rcases h with⟨_,h⟩|h|h<;>cases h;exact oG
  .rcases h with h|h|h<;>cases h
  .by_cases e:k=F.L+1+j
   .subst e;rw[Q]at b;obtain rfl:=Ã b;rw[V]at G;cases G
   .rw[I k e]at b;rcases p.c k y b G with a|⟨v,m,yT,K,X|⟨r1,cap,s1,c,X,h4⟩⟩
    .exact À a
    .exact Á ⟨v,m,yT,K,À<|by rwa[iM _ Z]⟩
    .have e2:v≠j:=Z
     exact Á ⟨v,m,yT,K,Á ⟨r1,cap,s1,c,by rwa[iM _ e2],by show(w.setChan (E.I j) _ _ _ _ _ _).heap[E.I v]?=_;rwa[pV λq=>e2<|p.C.M _ _ m t q]⟩⟩
  .rw[iM _ (λe=>by subst e;rw[jM]at J;cases J)]at J;exact(p.f v c a1 J a3).app u
  .rw[C];simp only[gM.rk,jk.rk];have hm:F.n+3000<=(F.n+3000)*(F.q+3-r):=å _ (by
    have:r*1<=r*F.n:=ñ _ H.C.N;omega)
   omega
 .have Qu:buf=#[]:=Array.size_eq_zero_iff.1 Z;subst Qu;have agU:r=s:=Z
  by_cases nk:j<E.M.je F.n
  .rw[show decide (j<E.M.je F.n)=Î by simpa using nk]at D;obtain⟨gs',u,T,g',O,f,Q,V,I,W,q7⟩:=p.I.je (sl:=sl) M iH sR ht Qt hY D .no;have XZ:F.L+1+j=F.L+(j+1):=Z
   have HA:E.M.my F.q=F.q:=by revert nk;cases E.M<;>simp only[fU.je,fU.my]<;>intro h<;>first|trivial|omega
   have Qv:¬E.iu (j+1):=λ⟨e,a,_⟩=>by rw[o]at a;cases a
   have Qw:ij.iu .oE↔E.iu (j+1):=⟨λh=>h.elim,λh=>(Qv h).elim⟩;refine⟨fv.gU E (j+1) .oE,_,_,_,_,gs',w,u,O,f,λh=>h,.r (p.N.G H.C λ⟨N,h⟩=>by cases h) (f.trans p.b) (by rwa[<-XZ]) (by rw[f];exact p.a.gU ⟨λh=>h.elim,λ⟨e,a,_⟩=>by rw[o]at a;cases a⟩) p.M.gU (p.C.gU Z (by rw[o];rfl) (λp' h=>by rw[o]at h;cases h) (λp' h=>by cases h) (λv h=> ?_) λh=>by omega) ((Lh p.d W).G Qw) (λk y b G=> ?_) λv c a1 J a3=>(p.f v c a1 J a3).app u,EP H.C (by rwa[<-XZ])<|À ?_⟩
   .have:v=j:=Z
    subst this;exact⟨nk,r,C,λl lq=>by rw[agU];exact(tW l).2<|by rwa[HA]⟩
   .by_cases e:k=F.L+1+j
    .subst e;rw[Q]at b;obtain rfl:=Ã b;rw[V]at G;cases G
    .rw[I k e]at b;have l:∀v,F.L+1+v=k->(fv.gU E (j+1) .oE).N (v+1)=E.N (v+1):=λv h=>fI _ _ Z;rcases p.c k y b G with a|⟨v,m,yT,K,X⟩
     .exact À a
     .exact Á ⟨v,m,by rwa[l v K.symm],K,X⟩
   .unfold rF;rw[o];simp only[ij.rk];rw[if_neg Z,Nat.add_sub_cancel,C];simp only[gM.rk];have hm:F.n+3000<=(F.n+3000)*(F.q+3-r):=å _ (by
     have a:=H.C.N;rcases ķ r with l|l
     .omega
     .have K:=(tW (r-1)).1 Z;have:(r-1)*1<=(r-1)*F.n:=ñ _ a;omega)
    omega
  .rw[show decide (j<E.M.je F.n)=É by simpa using nk]at D;obtain⟨gs',g',O,f,Q,V,I,W⟩:=p.I.af2 M iH sR ht Qt D;refine⟨E,S,tr,d,lot,gs',w,#[],O,f,λh=>h,.r p.N (f.trans p.b) (by rwa[Û]) (by rw[f];exact p.a) p.M p.C (by rw[Û];exact p.d) (λk y b l=> ?_) (by rw[Û];exact p.f),Qi (λ_ _=>rfl) xa (by rw[EN M,if_pos iH]) (by rw[EN Q,if_neg (by rw[V];simp)]) λk b=>Qq<|I k b⟩;by_cases e:k=F.L+1+j
   .subst e;exact Á ⟨j,t,o,U,Á ⟨r,F.q,s,r,C,D⟩⟩
   .rw[I k e]at b;exact p.c k y b l
end
section
variable{F:Ph}{E E':fS F}{S:Nat->Jd}{tr v:Nat->gu}{m:Nat->iz}{f:Nat->fe}{gs gs':Array Å}{u:ç}{o:Option (Nat×Nat)}
def A0(ok:F.Ok)(x:Nat):(F.L+x==0)=É:=by have:=ok.r;simp;omega
def HB(a:i<E.r):yL E (F.L+i):=Á ⟨i,a,U⟩
def PI.A1(p:PI F n zX E S tr m f gs w qJ){x:Nat}{e:ij}(b:x<E.r)(c:E.N x=Ä e)(d:gs[F.L+x]?=Ä g)(h:g.status=Æ)(i:tr (F.L+x)=.fB):∀a,fH (f<|F.L+x) (f<|F.L+x).w a->JE F e {f (F.L+x)with w:=a} g:=by let⟨j,k,_⟩:=p.k x e b c;intro a r;have:=p.I.N d h i (À k) a r;rwa[j]at this
def Qx(B:fh F E gs w){x:Nat}{e:ij}(c:∀k y,gs[k]?=Ä y->y.status=Þ->k≠F.L+x):fh F (fv.gU E x e) gs w:=by
 intro k y a b;have i:=c k y a b;rcases B k y a b with h1|⟨j,d,f,g,h⟩
 .exact À h1
 .refine Á ⟨j,d,?_,g,h⟩;show fw E.N x (Ä e) (j+1)=Í;rwa[fI _ _ Z]
def PI.agV(H:gQ F)(p:PI F n zX E S tr m f gs w qJ)(hx:J<E.r)(s:E.N J=Ä .oE)(D:gs[F.L+J]?=Ä g)(M:g.status=Æ)(ht:tr (F.L+J)=.fB):rE F n zX E tr gs w qJ:=by
 have Q:=iJ D;have C:=p.I.r;have Qv:¬E.iu J:=λ⟨e,d,c⟩=>by rw[s]at d;cases d;exact c
 have Qw:ij.iu (.gf .jD)↔E.iu J:=⟨λh=>h.elim,λh=>(Qv h).elim⟩;have yP:iQ F.S (λi=>i<gs.size) E.Y (gq f (F.L+J)<|kx {f (F.L+J)with w:=w}) w qJ:= C.C Q (λ_ q=>q.elim) (λ_ q=>q.elim) (λ_ q=>q.elim) (λ_ q=>q.elim) U U U (λ_ q=>q.elim) λ_ q=>q.elim;have hF:kV F.P (F.L+J==0) (JE F<|.gf .jD) .fB (kx {f (F.L+J)with w:=w}) g:=by rw[A0 H.C J];intro l u;let⟨W,a,b,j,k⟩:=p.A1 hx s D M ht w<|C.r _ Q;exact⟨W,a,b,j,k.jL u⟩
 refine⟨fv.gU E J<|.gf .jD,_,_,_,_,λh=>h,.r (p.N.G H.C λ⟨N,h⟩=>by cases h) p.b (p.I.M (K:=.no) D (À M) yP hF) ?_ p.M.gU (p.C.gU hx (by rw[s];rfl) (λu h=>by rw[s]at h;cases h) (λu h W=>by cases h;exact⟨fj,fj,fj⟩) (λj h=> ?_) λh=>(p.C.f<|by rw[<-h,s];simp)) (p.d.G Qw) (Qx p.c λk y W v e=> ?_) p.f,EP H.C (p.G Q)<|À ?_⟩
 .have L:=p.a;have G:(gq f (F.L+J)<|kx {f (F.L+J)with w:=w}) (F.L+J)=kx {f (F.L+J)with w:=w}:=gT _ _ _;have l:∀k,k≠F.L+J->(gq f (F.L+J)<|kx {f (F.L+J)with w:=w}) k=f k:=λk W=>gF f _ W;have T:(0:Nat)≠F.L+J:=by have:=H.C.r;omega
  have V:∀k a,(gq f (F.L+J) (kx {f (F.L+J)with w:=w}) k).r a->(f k).r a:=λk a h=>by
   by_cases q:k=F.L+J
   .subst q;rw[G]at h;exact h.elim
   .rwa[l k q]at h
  have sO:∀k a,(gq f (F.L+J) (kx {f (F.L+J)with w:=w}) k).O a->(f k).O a:=λk a h=>by
   by_cases q:k=F.L+J
   .subst q;rw[G]at h;exact h.elim
   .rwa[l k q]at h
  have I:(fv.gU E J<|.gf .jD).N J=Ä (.gf .jD):=gB _ _ _;have B:∀y,y≠J->(fv.gU E J<|.gf .jD).N y=E.N y:=λy X=>fI _ _ X;refine⟨λk W a z=> ?_,λy d c a z=>by rw[l 0 T];exact L.o y d c a z,λh=>by rw[l 0 T];exact L.lO h,λh k d c=> ?_,λd c=> ?_,λj d c r t h4=> ?_,λj d c=> ?_,λy X=> ?_,λi o=> ?_,λk d c=>by rw[l k Z];exact L.c k d c,λk W b v=>⟨(L.I k W b v).1,(L.I k W b v).2.1,λi o h=>(L.I k W b v).2.2 i o<|sO _ _ h⟩,λk W i o h=>L.N k W i o<|V _ _ h,λk d c i o h=>L.g k d c i o<|V _ _ h,λj d r c t i o h=>L.d j d r c t i o<|V _ _ h⟩
  .by_cases q:k=F.L+J
   .subst q;rw[G]at z;rcases z with h|h<;>exact h.elim
   .rw[l k q]at z;exact L.gS k W a z
  .by_cases q:F.L=F.L+J
   .have u:J=0:=Z
    subst u;have:=p.C.f (by rw[s];simp);have vw:E.S.md<k:=d;rw[this]at vw;simp only[jx.md]at vw;omega
   .rw[l _ q];exact L.e h k d c
  .by_cases q:F.L=F.L+J
   .have u:J=0:=Z
    subst u;rw[I]at c;cases c
   .rw[l _ q];exact L.f d<|by rwa[<-B 0 Z]
  .by_cases q:F.L+1+j=F.L+J
   .have u:J=j+1:=Z
    subst u;rw[I]at c;cases c
   .rw[l _ q];exact L.h j d (by rwa[<-B (j+1) Z]) r t h4
  .by_cases q:F.L+1+j=F.L+J
   .have u:J=j+1:=Z
    subst u;rw[I]at c;cases c
   .rw[l _ q];exact L.l j d<|by rwa[<-B (j+1) Z]
  .by_cases q:F.L+y=F.L+J
   .rw[q,G];rfl
   .rw[l _ q];exact L.S y (by let⟨u,d,c⟩:=X;exact⟨u,by rwa[<-B y Z],c⟩)
  .by_cases q:i=F.L+J
   .subst q;rcases o with q|⟨y,d,c,t⟩
    .exact absurd q.symm T
    .have:y=J:=Z
     subst this;exact absurd ⟨_,I,trivial⟩ t
   .rw[l _ q];refine L.M i<|o.imp id λ⟨y,d,c,t⟩=>⟨y,d,c,λ⟨u,h4,h5⟩=>t ⟨u,by rwa[B y Z],h5⟩⟩
 .have:=p.C.l j Z (by rw[<-h,s];simp);exact this
 .subst e;rw[D]at W;obtain rfl:=Ã W;rw[M]at v;cases v
 .unfold rF;rw[s];simp only[ij.rk,jF.rk];omega
def A2(E:fS F)(x:Nat)(e:ij)(G:GS)(a:Option Nat):fS F:={fv.gU E x e with b:=G,g:=a}
def Ps.HC(h:Ps F E){e:ij}{G:GS}{la:Option Nat}(w:i<E.r)(D:∃z,E.N i=Ä z)(H:∀y,y≠i->∀p,E.N y=Ä (.gf p)->∀W,p≠ .gy W/\p≠ .jb W/\p≠ .iA W) (I:∀c d,G=.cl c d->c=Ñ (F.n+1) (fv.gU E i e).G/\d=E.M.gC) (J:∀d,G=.jE d->Ñ (F.n+1) (fv.gU E i e).G=0/\d=E.M.gC/\la=Ä i/\(e=.gf (.gy d)\/e=.gf (.jb d))) (K:∀r s,G=.gV r s->Ñ (F.n+1) (fv.gU E i e).G=0/\r+s=E.M.gC/\(0<r->la=Ä i/\e=.gf (.iA r))) (L:∀p,e=.gf p->(∀W,p=.gy W\/p=.jb W->la=Ä i/\G=.jE W)/\(∀r,p=.iA r->0<r/\la=Ä i/\∃s,G=.gV r s)) (M:E.M=.fy .gy\/E.M=.fy .kX\/E.M=.gf->Ñ (F.n+1) (fv.gU E i e).G=0) (N:E.M=.fy .gy->∃a b,G=.gV a b) (O:(∀p,E.M≠ .fy p)->E.M≠ .gf->∃c,G=.cl c 0):Ps F (A2 E i e G la):=by
 have k:∀y,y≠i->(A2 E i e G la).N y=E.N y:=λy f=>fI _ _ f;have o:(A2 E i e G la).N i=Ä e:=gB _ _ _;let⟨z,B⟩:=D;refine⟨h.v,h.C,h.K,h.L,h.J,h.I,h.z,h.d,λj C g=> ?_,λg=> ?_,λy f=> ?_,h.M,h.o,I,λd t=> ?_,λr s t=> ?_,λy p f=> ?_,M,h.e,h.Y,h.w,h.H,N,O,h.y,h.D⟩
 .by_cases q:j+1=i
  .exact h.l j C<|by rw[q,B];simp
  .rw[k _ q]at g;exact h.l j C g
 .by_cases q:0=i
  .exact h.f<|by rw[q,B];simp
  .rw[k _ q]at g;exact h.f g
 .have:E.r<=y:=f;rw[k y Z];exact h.h y f
 .let⟨u,v,l,m⟩:=J d t;exact⟨u,v,i,w,l,by rw[o];exact m.imp (λq=>by rw[q]) λq=>by rw[q]⟩
 .let⟨u,v,l⟩:=K r s t;exact⟨u,v,λm=>⟨i,w,(l m).1,by rw[o,(l m).2]⟩⟩
 .by_cases q:y=i
  .subst q;rw[o]at f;exact L p<|Ã f
  .rw[k y q]at f;have l:=H y q p f;exact⟨λW u=>(u.elim (l W).1 (l W).2.1).elim,λr m=>((l r).2.2 m).elim⟩
def agW{G:GS}(a:hD W F.C G)(h:Wd F {E with b:=G,a:=E.a} W){x:Nat}{e:ij}{b:Option Nat}:Wd F (A2 E x e G b) W:=⟨a,h.I,h.jG,h.M,h.S,h.N⟩
def PI.HF(H:gQ F)(p:PI F n zX E S tr m f gs w qJ){x:Nat}{a e:ij}{G:GS}{la:Option Nat}{c:Å}{T:gu}(hx:x<E.r)(d:E.N x=Ä a)(t:a.iu)(J:e.iu)(K:e.oc)(v:gs[F.L+x]?=Ä g)(z:kz F.C w W)(B:hD W F.C G)(M:Ŝ F.P (ò gs w o) (F.L+x)=(Ģ<|ò gs' W o,u))(C:gs'.size=gs.size)(O:gs'[F.L+x]?=Ä c)(Q:c.status=Æ\/c.status=ë)(X:∀k,k≠F.L+x->gs'[k]?=gs[k]?.map (Ą F.P g c W)) (q5:gL F.P F.S E.Y (fw S (F.L+x)<|JE F e) (fw tr (F.L+x) T) (fw m (F.L+x) .no) (gq f (F.L+x) {f (F.L+x)with w:=W}) gs' W (qJ++u)) (q6:TI F.toFx n zX E.r E.S.rl E.V E.e E.d E.iu E.f (qJ++u)) (q7:iG F E (gq f (F.L+x) {f (F.L+x)with w:=W}) gs'.size W) (hT:(∃N,e=.jr N)->T=.fB) (hP:Ps F (A2 E x e G la)) (D:(e.rk F).1<(a.rk F).1\/((e.rk F).1=(a.rk F).1/\(e.rk F).2<(a.rk F).2)) (EK:E.M=.fy .kv->E.b.sm=0->G.sm=0\/∀y,gs'[0]?=Ä y->y.status≠Þ):jY F n zX E tr gs w qJ o (F.L+x):=by
 have I:F.M F.C:=À U;refine⟨A2 E x e G la,_,_,_,_,gs',W,u,M,C,λh=>h,.r ?_ (C.trans p.b) q5 ?_ (agW B<|z.I H p.a p.C p.M I ⟨λ_=>B,λq=>absurd U q⟩ λk b=>⟨λq=>absurd q.symm<|H.C.M k b,λ_=>rfl⟩) hP (q6.G<|⟨λ_=>⟨a,d,t⟩,λ_=>J⟩) ?_ λj r b l s=>(p.f j r b l s).app u,?_⟩
 .have:=p.N.G (x:=x) H.C hT;exact⟨this.M,this.Y,this.I,this.C,this.r⟩
 .have:=q7.gU (⟨λ_=>XC ⟨a,d,t⟩,λ_=>K⟩);exact⟨this.gS,this.o,this.lO,this.e,this.f,this.h,this.l,this.S,this.M,this.c,this.I,this.N,this.g,this.d⟩
 .refine p.c.qG (E':=A2 E x e G la) O (by rcases Q with q|q<;>rw[q]<;>simp) X (λj i=>z.C p.C I i) U U (λy i=>fI _ _ Z) (λ_=>rfl) (λ_ _=>rfl) (λ_ i j=>EK i j) λ_ _ _ _ h=>À h
 .have j:rF F E x=a.rk F:=by unfold rF;rw[d]
  have:=EP (E:=E) (tr:=tr) (gs:=gs) (gs':=gs') (T:=T) H.C (p.G<|iJ v) (by rwa[j]);rcases this with⟨i,b,l,s⟩|⟨b,_⟩
  .exact À ⟨i,b,l,s⟩
  .exfalso;have:=b _<|p.G<|iJ v;change(fv.gU E x e).iR (fw tr (F.L+x) T) (F.L+x)=E.iR tr (F.L+x)at this;rw[Lb H.C (E:=fv.gU E x e)<|gB _ _ _,Lb H.C d]at this;injection this with b1 b2;injection b2 with b2 _;rcases D with q|⟨_,q⟩<;>omega
def agX(h:V=#[ku<|fM F.C,mO<|fM F.C]\/V=#[ku<|fM F.C]\/V=#[mO<|fM F.C]\/V=ú (gP F.C)):∀e∈V,∀b,(Ë e).touch?=Ä b->∃y:đ,b.loc=ā y/\y.block=F.C:=by
 intro e c b d;have:∃x:đ,x.block=F.C/\(e.loc=ā x\/e.loc=ź ù\/e.loc=ź ð):=by
  rcases h with rfl|rfl|rfl|rfl
  .simp at c;rcases c with rfl|rfl<;>exact⟨fM F.C,U,À U⟩
  .simp at c;subst c;exact⟨fM F.C,U,À U⟩
  .simp at c;subst c;exact⟨fM F.C,U,À U⟩
  .simp[ú]at c;rcases c with rfl|rfl|rfl|rfl
   .exact⟨gP F.C,U,Á<|À U⟩
   .exact⟨gP F.C,U,À U⟩
   .exact⟨gP F.C,U,À U⟩
   .exact⟨gP F.C,U,Á<|Á U⟩
 let⟨x,i,a⟩:=this;let⟨j,f,g⟩:=e;rcases a with a|a|a
 .simp only at a;subst a;have:(Ë ⟨ā x,f,g⟩).touch?=Ä ⟨ā x,f,if g then .atomic else .plain⟩:=by cases f<;>cases g<;>rfl
  rw[this]at d;obtain rfl:=Ã d;exact⟨x,U,i⟩
 .simp only at a;subst a;simp[Ë,Đ]at d
 .simp only at a;subst a;simp[Ë,Đ]at d
def HJ(p:PI F n zX E S tr m f gs w qJ)(a:F.L+i<gs.size)(c:(f<|F.L+i).d=1)(h:V=#[ku<|fM F.C,mO<|fM F.C]\/V=#[ku<|fM F.C]\/V=#[mO<|fM F.C]\/V=ú (gP F.C)): ∀y,E.iu y->F.L+i=F.L+y->(∀e∈V,∀b,(Ë e).touch?=Ä b->∃y:đ,b.loc=ā y/\y.block=F.C)/\AQ (ω qJ<|F.L+i) V:=by
 intro y _ _;refine⟨agX h,?_⟩;rw[p.I.r.f _ a,c];rcases h with rfl|rfl|rfl|rfl
 .exact Lc.1
 .exact Lc.2.1
 .exact Lc.2.2.1
 .exact Lc.2.2.2
def PI.agY(H:gQ F)(p:PI F n zX E S tr m f gs w qJ){x:Nat}(i:x<E.r)(a:E.N x=Ä (.gf .jD))(k:gs[F.L+x]?=Ä g)(G:g.status=Æ)(I:tr (F.L+x)=.fB):jY F n zX E tr gs w qJ o (F.L+x):=by
 have s:=iJ k;have C:=p.I.r;let⟨J,_,g',c,d⟩:=p.A1 i a k G I w<|C.r _ s;have t:=A0 H.C x;have u:∀y:Ć,y.act=Ğ (Ķ<|fM F.C)->y.act.touch?=Í:=λy b=>by rw[b];rfl
 let⟨T,K⟩:=jj d;have v:=lB (λl g h=>À h.2.1) d;obtain⟨gs',y,M,O,P,B,Q,V,X,Y⟩:=p.AY H .no k (by rw[t];exact c w) fj fj (λy b=>⟨λz l=>(by rw[u y b]at l;cases l),by rw[b];exact C.N _<|À<|À U⟩) (λy _ b=>AJ C.l λq j=>by rw[xc j];exact u y b) (by rwa[t]) v;have D:=p.d.agf i M O ((C.f _ s).trans J) (λ⟨e,c,d⟩=>by rw[a]at c;cases c;exact d);refine⟨{fv.gU E x (.gf .iD)with f:=fw E.f x qJ.size},_,_,_,_,gs',w,#[y],P,B,λh=>h,.r ?_ (B.trans p.b) X ?_ (⟨p.M.C,p.M.I,p.M.jG,p.M.M,p.M.S,p.M.N⟩) ?_ ?_ ?_ λj r q W a3=>(p.f j r q W a3).app _,EP H.C (p.G s)<|À ?_⟩
 .have:=p.N.G (x:=x) (e:=.gf .iD) (T:=T) H.C (λ⟨N,h⟩=>by cases h);exact⟨this.M,this.Y,this.I,this.C,this.r⟩
 .have:=Y.gU (x:=x) (e:=.gf .iD) (⟨λ_=>⟨_,a,trivial⟩,λ_=>trivial⟩);exact⟨this.gS,this.o,this.lO,this.e,this.f,this.h,this.l,this.S,this.M,this.c,this.I,this.N,this.g,this.d⟩
 .have h:=p.C.gU (x:=x) (e:=.gf .iD) i (by rw[a];rfl) (λq h W=>by rw[a]at h;cases h;exact⟨fj,fj,fj⟩) (λq h W=>by cases h;exact⟨fj,fj,fj⟩) (λj h=>p.C.l j Z<|by rw[<-h,a];simp) (λh=>p.C.f<|by rw[<-h,a];simp);exact⟨h.v,h.C,h.K,h.L,h.J,h.I,h.z,h.d,h.l,h.f,h.h,h.M,h.o,h.t,h.g,h.u,h.N,h.B,h.e,h.Y,h.w,h.H,h.O,h.S,h.y,h.D⟩
 .refine{D with r:=λz l j=>D.r z l ?_};by_cases q:z=x
  .exact Á q
  .exact À<|(XW q).1 j
 .refine p.c.qG (E':={fv.gU E x (.gf .iD)with f:=fw E.f x qJ.size}) Q (by rcases v with q|q<;>rw[q]<;>simp) V (λ_ _=>rfl) U U (λy b=>fI _ _ Z) (λ_=>rfl) (λ_ _=>rfl) (λ_ _ h=>À h) λ_ _ _ _ h=>À h
 .unfold rF;rw[a];simp only[ij.rk,jF.rk];omega
end
section
variable{F:Ph}{E K:fS F}{S:Nat->Jd}{o M:Nat->gu}{G:Nat->iz}{B:Nat->fe}{m J:Array Å}{u:ç}{I:Option (Nat×Nat)}
def X0{N:Nat}{l:fe}(h:Ε P N l.d g):kV P É (oD P N) .fB l g:=λ_ _=>h
def X1(a:Ps F E):E.r<=E.M.ad F.n:=by unfold fS.r;cases E.M<;>simp only[fU.sp,fU.ad]<;>omega
def HL(b:Ps F E){e:ij}(d:i<E.r):Ñ (F.n+1) (fv.gU E i e).G+lW (E.N i)=Ñ (F.n+1) E.G+e.kI:=by
 have g:=X1 b;have h:=EG b;have:=w7 (f:=E.G) (f':=(fv.gU E i e).G) (j:=i) (n:=F.n+1) Z (λa c=>by unfold fS.G;show(if a<E.M.ad F.n then lW (fw E.N i (Ä e) a)else 0)=_;rw[fI _ _ c]);have a:E.G i=lW (E.N i):=by unfold fS.G;rw[if_pos Z]
 have c:(fv.gU E i e).G i=e.kI:=by unfold fS.G;show(if i<E.M.ad F.n then lW (fw E.N i (Ä e) i)else 0)=_;rw[if_pos Z,gB];rfl
 rwa[a,c]at this
def X2(b:Ps F E)(h:E.b=.cl i n):∀y p,E.N y=Ä (.gf p)->∀W,p≠ .gy W/\p≠ .jb W/\p≠ .iA W:=by
 intro y p d W;let⟨a,e⟩:=b.N y p d;refine⟨λq=> ?_,λq=> ?_,λq=> ?_⟩
 .have:=(a W<|À q).2;rw[h]at this;cases this
 .have:=(a W<|Á q).2;rw[h]at this;cases this
 .let⟨_,_,s,this⟩:=e W q;rw[h]at this;cases this
def Qy(c:Ps F E)(h:E.g=Ä i):∀y,y≠i->∀p,E.N y=Ä (.gf p)->∀W,p≠ .gy W/\p≠ .jb W/\p≠ .iA W:=by
 intro y a p d W;let⟨b,e⟩:=c.N y p d;refine⟨λq=> ?_,λq=> ?_,λq=> ?_⟩
 .have:=(b W<|À q).1;rw[h]at this;exact a (Ã this).symm
 .have:=(b W<|Á q).1;rw[h]at this;exact a (Ã this).symm
 .have:=(e W q).2.1;rw[h]at this;exact a (Ã this).symm
def PI.agZ(p:PI F n zX E S o G B m w qJ)(e:i<E.r)(d:E.N i=Ä (.gf .iD)):∃c a,E.b=.cl (c+1) a/\c+1=Ñ (F.n+1) E.G/\a=E.M.gC/\¬(E.M=.fy .gy\/E.M=.fy .kX\/E.M=.gf):=by
 have g:1<=Ñ (F.n+1) E.G:=by
  have q:=X1 p.C;have r:=EG p.C;have:=Qg (f:=E.G) (j:=i) (n:=F.n+1) Z;have s:E.G i=1:=by unfold fS.G;rw[if_pos Z,d];rfl
  omega
 obtain⟨c,a,b⟩:∃c a,E.b=.cl (c+1) a:=by
  cases q:E.b with
  |cl c a=>
   have:=(p.C.t c a q).1;exact⟨c-1,a,by congr 1;omega⟩
  |jE a=>have:=(p.C.g a q).1;omega
  |gV r s=>have:=(p.C.u r s q).1;omega
 let⟨r,s⟩:=p.C.t _ _ b;exact⟨c,a,b,r,s,λq=>by have:=p.C.B q;omega⟩
def PI.ag0(H:gQ F)(p:PI F n zX E S o G B m w qJ)(t:i<E.r)(K:E.N i=Ä (.gf .iD))(M:m[F.L+i]?=Ä g)(iH:g.status=Æ)(ht:o (F.L+i)=.fB)(X:E.b=.cl (j+1) k)(yU:j+1=Ñ (F.n+1) E.G)(Lj:k=E.M.gC)(HM:¬(E.M=.fy .gy\/E.M=.fy .kX\/E.M=.gf))(hl:j=0/\0<k):jY F n zX E o m w qJ I (F.L+i):=by
 have z:=iJ M;have C:=p.I.r;let⟨hd,_,tX⟩:=p.A1 t K M iH ht w<|C.r _ z;have mc:=A0 H.C i;have Y:F.M F.C:=À U;have O:=X▸p.M.C;let⟨ev,xb⟩:=O.jK;have key:=tX (GS.cl (j+1) k).st;rw[ev]at key xb;obtain⟨d,Q⟩:∃d,(GS.jK<|.cl (j+1) k).st=d:=⟨_,U⟩;rw[Q]at key;let⟨g',h1,h2⟩:=key;have xd:=h1 w O.C O.I;rw[<-Q]at xd;let⟨k1,k2,k3⟩:=O.r;have V:kz F.C w (w.setCell (fM F.C)<|é Ô (GS.jK<|.cl (j+1) k).st):=Á ⟨_,_,À U,U⟩;have D:=V.r p.a H.C Y;have xf:fH {B (F.L+i)with w:=w} w (w.setCell (fM F.C)<|é Ô (GS.jK<|.cl (j+1) k).st):=⟨Ö D.r.symm,λb kR=>D.jR b<|C.I _ z b kR,λa ha=>D.M _ z a ha,λa ha=>D.N _ z a ha,λa _=>D.I a⟩;have ed:GS.jK (.cl (j+1) k)=.jE k:=by simp only[GS.jK,if_pos hl]
 rw[ed]at xd xb V D xf Q;have f:fi F.P É (K2 F.P É F.C (Hl F) k) {B (F.L+i)with w:=w} g':=by
  have e0:d=(k:Int):=Q.symm;have e1:¬(d=0\/(fY<=d/\d<1000000*fY/\d%fY<1000000)):=by simp only[fY];omega
  have e2:0<d/\d<1000000:=Z
  have e3:d.toNat=k:=Z
  simp only[if_neg e1,if_pos e2,e3]at h2;exact h2
 let⟨T,hT⟩:=jj<|f.jL xf;have nR:=lB (λl g h=>À h.2.1) f;obtain⟨J,u,q1,q2,q3,q4,q5,q6,q7⟩:=p.Y H .no M (HB t) Y (by rwa[mc]) V (AR Y) U (HJ p z hd<|À U) (by rwa[mc]) nR;have yV:=HL p.C (e:=.gf (.gy k)) t;rw[K]at yV;refine p.HF H (e:=.gf (.gy k)) (la:=Ä i) t K trivial trivial trivial M V xb q1 q2 q3 nR q4 q5 q6 q7 (λ⟨N,h⟩=>by cases h) (p.C.HC t ⟨_,K⟩ (λy _ p' hy W=>X2 p.C X y p' hy W) (λc' Qz h=>by cases h) (λQz h=> ?_) (λr s h=>by cases h) (λp' h=> ?_) (λq=>absurd q HM) (λq=>absurd (À q) HM) λq1 q2=> ?_) (À ?_) λ_ _=>À rfl
 .injection h with h;subst h;exact⟨(by simp only[lW,ij.kI,jF.kI]at yV;omega),Lj,U,À U⟩
 .cases h;exact⟨λW f=>(by rcases f with f|f<;>cases f;exact⟨U,U⟩),λr hr=>by cases hr⟩
 .let⟨c',h'⟩:=p.C.S q1 q2;rw[X]at h';injection h' with _ h';omega
 .simp only[ij.rk,jF.rk];have:k<=1:=by
   rw[Lj];cases E.M<;>simp only[fU.gC]<;>first|omega|(rename_i v;cases v<;>simp[jk.rD])
  omega
def PI.ag1(H:gQ F)(p:PI F n zX E S o G B m w qJ)(f:i<E.r)(t:E.N i=Ä (.gf .iD))(v:m[F.L+i]?=Ä g)(iH:g.status=Æ)(ht:o (F.L+i)=.fB)(O:E.b=.cl (j+1) k)(yU:j+1=Ñ (F.n+1) E.G)(Lj:k=E.M.gC)(HM:¬(E.M=.fy .gy\/E.M=.fy .kX\/E.M=.gf))(hl:¬(j=0/\0<k)):jY F n zX E o m w qJ I (F.L+i):=by
 have l:=iJ v;have C:=p.I.r;let⟨hd,_,tX⟩:=p.A1 f t v iH ht w<|C.r _ l;have mc:=A0 H.C i;have P:F.M F.C:=À U;have z:=O▸p.M.C;let⟨ev,Q⟩:=z.jK;have T:=tX (GS.cl (j+1) k).st;rw[ev]at T Q;obtain⟨d,K⟩:∃d,(GS.jK<|.cl (j+1) k).st=d:=⟨_,U⟩;rw[K]at T;let⟨g',h1,h2⟩:=T;have V:=h1 w z.C z.I;rw[<-K]at V;let⟨k1,k2,k3⟩:=z.r;have M:kz F.C w (w.setCell (fM F.C)<|é Ô (GS.jK<|.cl (j+1) k).st):=Á ⟨_,_,À U,U⟩;have D:=M.r p.a H.C P;have xf:fH {B (F.L+i)with w:=w} w (w.setCell (fM F.C)<|é Ô (GS.jK<|.cl (j+1) k).st):=⟨Ö D.r.symm,λb kR=>D.jR b<|C.I _ l b kR,λa X=>D.M _ l a X,λa X=>D.N _ l a X,λa _=>D.I a⟩;have ed:GS.jK (.cl (j+1) k)=.cl j k:=by simp only[GS.jK,if_neg hl]
 rw[ed]at V Q M D xf K;obtain⟨N,hN⟩:Hl F {B (F.L+i)with w:=w} g':=by
  have q:d=(j:Int)*fY+(k:Int):=K.symm;have h:d=0\/(fY<=d/\d<1000000*fY/\d%fY<1000000):=by simp only[fY]at q|-;omega
  simp only[if_pos h]at h2;exact h2
 have nR:=hN.status;obtain⟨J,u,Y,q2,q3,q4,q5,q6,q7⟩:=p.Y H .no v (HB f) P (by rwa[mc]) M (AR P) U (HJ p l hd<|À U) (by rw[mc];exact X0 hN) nR;have yV:=HL p.C (e:=.jr N) f;rw[t]at yV;have hz:Ñ (F.n+1) (fv.gU E i<|.jr N).G=j:=by simp only[lW,ij.kI,jF.kI]at yV;omega
 refine p.HF H (e:=.jr N) (la:=E.g) f t trivial trivial trivial v M Q Y q2 q3 nR q4 q5 q6 q7 (λ_=>rfl) (p.C.HC f ⟨_,t⟩ (λy _ q h W=>X2 p.C O y q h W) (λy r h=> ?_) (λr h=>by cases h) (λr s h=>by cases h) (λq h=>by cases h) (λq=>absurd q HM) (λq=>absurd (À q) HM) λY q2=> ?_) (À ?_) λ_ _=>À rfl
 .injection h with h q;subst h q;exact⟨hz.symm,Lj⟩
 .let⟨y,q⟩:=p.C.S Y q2;rw[O]at q;injection q with _ q;exact⟨j,by rw[q]⟩
 .simp only[ij.rk,jF.rk];omega
def PI.ag2(H:gQ F)(p:PI F n zX E S o G B m w qJ)(a:i<E.r)(b:E.N i=Ä (.gf .iD))(d:m[F.L+i]?=Ä g)(e:g.status=Æ)(f:o (F.L+i)=.fB):jY F n zX E o m w qJ I (F.L+i):=by
 let⟨c,r,h,j,k,l⟩:=p.agZ a b;by_cases q:c=0/\0<r
 .exact p.ag0 H a b d e f h j k l q
 .exact p.ag1 H a b d e f h j k l q
def PI.ag3(H:gQ F)(p:PI F n zX E S o G B m w qJ)(c:i<E.r)(d:E.N i=Ä (.gf (.gy j)))(f:m[F.L+i]?=Ä g)(Q:g.status=Æ)(V:o (F.L+i)=.fB):jY F n zX E o m w qJ I (F.L+i):=by
 have z:=iJ f;let⟨X,_,Y⟩:=p.A1 c d f Q V w<|(p.I.r).r _ z;have C:=A0 H.C i;have D:F.M F.C:=À U;let⟨t,k⟩:=(p.C.N i _ d).1 j<|À U;have K:=k▸p.M.C;let⟨g',h1,v⟩:=Y (j:Int);simp only[if_true]at v;let⟨T,hT⟩:=jj v;have M:=lB (λl g h=>À h.2.1) v;obtain⟨J,u,l,y,q3,q4,q5,q6,q7⟩:=p.Y H .no f (HB c) D (by rw[C];exact h1 w K.C) (À U) (yM D) U (HJ p z X<|Á<|À U) (by rwa[C]) M;have O:=HL p.C (e:=.gf (.jb j)) c;rw[d]at O;let⟨b1,b2,_⟩:=p.C.g j k;have P:Ñ (F.n+1) (fv.gU E i<|.gf (.jb j)).G=0:=by simp only[lW,ij.kI,jF.kI]at O;omega
 refine p.HF H (e:=.gf (.jb j)) (la:=E.g) c d trivial trivial trivial f (À U) K l y q3 M q4 q5 q6 q7 (λ⟨N,h⟩=>by cases h) (p.C.HC c ⟨_,d⟩ (Qy p.C t) (λc' a h=>by cases h) (λa h=> ?_) (λr s h=>by cases h) (λa h=> ?_) (λ_=>P) (λq=> ?_) λl y=> ?_) (À ?_) λ_ h=>À rfl
 .injection h with h;subst h;exact⟨P,b2,t,Á U⟩
 .cases h;exact⟨λs a=>(by rcases a with a|a<;>cases a;exact⟨t,U⟩),λr b=>by cases b⟩
 .let⟨a,b,h⟩:=p.C.O q;rw[k]at h;cases h
 .let⟨c',a⟩:=p.C.S l y;rw[k]at a;cases a
 .simp only[ij.rk,jF.rk];omega
def PI.ag4(H:gQ F)(p:PI F n zX E S o G B m w qJ)(c:i<E.r)(d:E.N i=Ä (.gf (.jb j)))(k:m[F.L+i]?=Ä g)(Y:g.status=Æ)(ht:o (F.L+i)=.fB):jY F n zX E o m w qJ I (F.L+i):=by
 have f:=iJ k;have C:=p.I.r;let⟨hd,_,g',h1,O⟩:=p.A1 c d k Y ht w<|C.r _ f;have P:=A0 H.C i;have v:F.M F.C:=À U;let⟨y,z⟩:=(p.C.N i _ d).1 j<|Á U;have t:=z▸p.M.C;have QA:=t.r.1;have K:kz F.C w (w.setCell (fM F.C)<|é Ô 0):=Á ⟨_,_,À U,U⟩;have D:=K.r p.a H.C v;let⟨T,hT⟩:=jj (O.jL ⟨Ö D.r.symm,λb l=>D.jR b<|C.I _ f b l,λa h=>D.M _ f a h,λa h=>D.N _ f a h,λa _=>D.I a⟩);have Q:=lB (λl g h=>by
  cases j with
  |zero=>omega
  |succ j=>exact À h.2.1) O
 obtain⟨J,u,l,M,q3,q4,q5,q6,q7⟩:=p.Y H .no k (HB c) v (by rw[P];exact h1 w _ t.C t.I) K (XL v) U (HJ p f hd<|Á<|Á<|À U) (by rwa[P]) Q;have V:=HL p.C (e:=.gf (.iA j)) c;rw[d]at V;let⟨b1,b2,_⟩:=p.C.g j z;have X:Ñ (F.n+1) (fv.gU E i<|.gf (.iA j)).G=0:=by simp only[lW,ij.kI,jF.kI]at V;omega
 refine p.HF H (e:=.gf (.iA j)) (la:=E.g) c d trivial trivial trivial k K t.Xy l M q3 Q q4 q5 q6 q7 (λ⟨N,h⟩=>by cases h) (p.C.HC c ⟨_,d⟩ (Qy p.C y) (λc' a h=>by cases h) (λa h=>by cases h) (λr s h=> ?_) (λa h=> ?_) (λ_=>X) (λq=>⟨j,0,rfl⟩) λl M=> ?_) (À ?_) λ_ h=>À rfl
 .injection h with h a;subst h a;exact⟨X,Z,λ_=>⟨y,U⟩⟩
 .cases h;exact⟨λs b=>(by rcases b with b|b<;>cases b),λr q=>by cases q;exact⟨QA,y,0,U⟩⟩
 .let⟨c',a⟩:=p.C.S l M;rw[z]at a;cases a
 .simp only[ij.rk,jF.rk];omega
def X3(p:PI F n zX E S o G B m w qJ){a y:Å}(d:mayWake F.P g=Î)(f:a.status=Æ)(i:m[k]?=Ä y)(j:G k=.iA):(Ą F.P g a W y).status≠Þ:=by
 intro h;let⟨e,l⟩:=Hp h;let⟨g0,_,b,c,_⟩:=p.I.C k y i;rw[j]at b;cases b with
 |gk=>rw[l]at c;rcases c with q|q<;>cases q
 |nT r q=>
  unfold Ą at h;rw[if_pos (by simp[d,f])]at h;unfold ĕ at h;simp only[q]at h;cases h
def PI.ag5(H:gQ F)(p:PI F n zX E S o G B m w qJ)(c:i<E.r)(d:E.N i=Ä (.gf (.iA j)))(k:m[F.L+i]?=Ä g)(iH:g.status=Æ)(ht:o (F.L+i)=.fB):jY F n zX E o m w qJ I (F.L+i):=by
 have f:=iJ k;have C:=p.I.r;let⟨hr0,K,s,M⟩:=(p.C.N i _ d).2 j U;obtain⟨j,rfl⟩:∃O,j=O+1:=⟨j-1,Z⟩;let⟨hd,_,QB,g',Q,h1,h2⟩:=p.A1 c d k iH ht w<|C.r _ f;have mc:=A0 H.C i;have V:F.M F.C:=À U;have W:=M▸p.M.C;have X:kz F.C w (w.setCell (gP F.C)<|é è<|è.wrap<|(GS.gV (j+1) s).sm+1):=Á ⟨_,_,Á U,U⟩;have D:=X.r p.a H.C V;let⟨b1,b2,_⟩:=p.C.u _ _ M;obtain⟨e,T,hF,Y,yW,he3,X4⟩:∃(e:ij) (T:gu),kV F.P É (JE F e) T {B (F.L+i)with w:=w.setCell (gP F.C) (é è<|è.wrap<|(GS.gV (j+1) s).sm+1)} g'/\(e.iu/\e.oc/\e.kI=0)/\((∃N,e=.jr N)->T=.fB)/\((e.rk F).1<((ij.gf<|.iA (j+1)).rk F).1)/\((j=0/\∃N,e=.jr N)\/(0<j/\e=.gf (.iA j))):=by
  cases j with
  |zero=>
   obtain⟨N,hN⟩:Hl F {B (F.L+i)with w:=w} g':=h2;exact⟨.jr N,.fB,X0 hN,⟨trivial,trivial,U⟩,λ_=>rfl,by simp only[ij.rk,jF.rk];omega,À ⟨U,N,U⟩⟩
  |succ j=>
   let⟨T,hT⟩:=jj (h2.jL ⟨Ö D.r.symm,λb kR=>D.jR b<|C.I _ f b kR,λa ha=>D.M _ f a ha,λa ha=>D.N _ f a ha,λa _=>D.I a⟩);have XQ:j+1+1+s<=1:=by rw[b2];cases E.M<;>simp only[fU.gC]<;>first|omega|(rename_i v;cases v<;>simp[jk.rD])
   omega
 obtain⟨J,u,q1,q2,q3,q4,q5,q6,q7⟩:=p.Y H .no k (HB c) V (by rw[mc];exact h1 w _ W.M W.N) X (Hs V) (Ht _).2.2.2 (HJ p f hd<|Á<|Á<|Á U) (by rwa[mc])<|À Q;have yV:=HL p.C (e:=e) c;rw[d,Y.2.2]at yV;have hz:Ñ (F.n+1) (fv.gU E i e).G=0:=by simp only[lW,ij.kI,jF.kI]at yV;omega
 refine p.HF H (la:=E.g) c d trivial Y.1 Y.2.1 k X W.jD q1 q2 q3 (À Q) q4 q5 q6 q7 yW (p.C.HC c ⟨_,d⟩ (Qy p.C K) (λc' Qz h=>by cases h) (λQz h=>by cases h) (λO s' h=> ?_) (λp' h=> ?_) (λ_=>hz) (λq=>⟨j,s+1,rfl⟩) λq1 q2=> ?_) (À he3) λhm _=>Á λy hy=> ?_
 .injection h with h l;subst h l;refine⟨hz,Z,λhr=>⟨K,?_⟩⟩;rcases X4 with⟨q,_⟩|⟨_,q⟩
  .omega
  .exact q
 .subst h;rcases X4 with⟨_,N,q⟩|⟨hr,q⟩
  .cases q
  .cases q;exact⟨λW' t=>(by rcases t with t|t<;>cases t),λO oY=>by cases oY;exact⟨hr,K,s+1,U⟩⟩
 .let⟨c',l⟩:=p.C.S q1 q2;rw[M]at l;cases l
 .have h0:(0:Nat)≠F.L+i:=by have:=H.C.r;omega
  rw[q4 0 h0]at hy;obtain⟨z,HN,rfl⟩:=Ú.1 hy;exact X3 p QB Q HN<|by rw[p.h.2,hm];rfl
end
section
variable{F:Ph}{E E':fS F}{S:Nat->Jd}{f D:Nat->gu}{o:Nat->iz}{v:Nat->fe}{l z:Array Å}{u:ç}{I:Option (Nat×Nat)}
def A3(ok:F.Ok):(F.L==0)=É:=by have:=ok.r;simp;omega
def ES(h:0<E.r):yL E F.L:=Á ⟨0,h,U⟩
def EU(b:E.N 0=Í):∀x,E.iu x->F.L=F.L+x->False:=λx ⟨e,a,_⟩ h2=>by
 have:x=0:=Z
 subst this;rw[b]at a;cases a
def PI.A4(p:PI F n zX E S f o v l w qJ)(b:0<E.r)(c:E.N 0=Í)(d:l[F.L]?=Ä g)(e:g.status=Æ)(h:f F.L=.fB):∀a,fH (v F.L) (v F.L).w a->JI F E.c E.S {v F.L with w:=a} g:=by let⟨i,j⟩:=p.m b c;intro a r;have:=p.I.N d e h (À j) a r;rwa[i]at this
def qK.Ll(h:qK F E S f o)(ok:F.Ok){ip:jx}{sg:Nat->F.γ}{T:gu}(c:E.N 0=Í):qK F {E with S:=ip,c:=sg} (fw S F.L<|JI F sg ip) (fw f F.L T) (fw o F.L .no):=by
 have:=ok.r;refine⟨by rw[fI S _ Z,fI o _ Z];exact h.M,λb a=>by rw[gB,gB];exact⟨U,U⟩,λj b a=>by rw[fI S _ Z,fI o _ Z];exact h.I j b a,λy e b a=> ?_,λi b a=>by rw[fI S _ Z,fI o _ Z,fI f _ Z];exact h.r i b a⟩;have d:y≠0:=λq=>by subst q;have:E.N 0=Ä e:=a;rw[c]at this;cases this
 rw[fI S _ Z,fI o _ Z,fI f _ Z];exact h.C y e b a
def Lm(ok:F.Ok){T:gu}(d:F.L<F.N)(a:E.N 0=Í)(b:E'.N=E.N)(e:E'.M=E.M)(g:E'.h=E.h)(i:E'.C=E.C)(h:E'.S.rk F<E.S.rk F):pe F.N (E'.mu (fw f F.L T) z) (E.mu f l):=by refine Hq d (À ?_) λk c=>yK (λ_=>by rw[e]) (λ_ _=>by rw[g]) (λ_=>by rw[b]) (λq=>absurd q c) (λ_ _=>by rw[i])<|fI f _ c;rw[Qf ok (E:=E') (by rwa[b]),Qf ok a];exact h
def QC(B:fh F E l w)(c:E'.M=E.M)(d:E'.r=E.r)(e:E'.N=E.N)(f:E'.C=E.C)(g:E'.I=E.I)(h:E'.b=E.b)(i:E'.a=E.a):fh F E' l w:=by
 intro k y m n;rcases B k y m n with⟨o,a,b⟩|⟨j,p,q,a,b⟩
 .exact À ⟨o,by rwa[c],by rwa[h]⟩
 .refine Á ⟨j,by rwa[d],by rwa[e],a,?_⟩;rwa[f,i,g]
def Ps.Ln(h:Ps F E){ip:jx}{G:GS}(i:E.N 0=Í)(y:0<E.r)(l:∀c,(ip=.kH c->c<=F.m)/\(ip=.mk c->1<=c/\c<=F.m)/\∀p,ip=.dn c p->1<=c/\c<=F.m) (o:∀c,1<=c->c<=F.m->ip.od<c->fw E.a k G c=.cl 1 (Ñ F.n λj=>(E.C j).gC F j c)) (t:∀c,c<=F.m->c<=ip.od->(∃W,(ip=.dn c (.gy W)\/ip=.dn c (.jb W))/\fw E.a k G c=.jE W/\W=Ñ F.n λj=>(E.C j).gC F j c)\/(∃r s,ip=.dn c (.iA r)/\0<r/\fw E.a k G c=.gV r s/\r+s=Ñ F.n λj=>(E.C j).gC F j c)\/((∀p,ip≠ .dn c p)/\((fw E.a k G c=.cl 0 0/\(Ñ F.n λj=>(E.C j).gC F j c)=0)\/∃s,fw E.a k G c=.gV 0 s/\s=Ñ F.n λj=>(E.C j).gC F j c))) (u:E.S.od<=ip.od) (v:(∃a b,E.a k=.gV a b)->∃a b,G=.gV a b) (w:G=.cl 1 0->E.d k=Í) {sg:Nat->F.γ} {V:Nat->Nat->Prop} (x:V 0=F.i) {pk:Nat->Nat}:Ps F {E with S:=ip,a:=fw E.a k G,c:=sg,V:=V,e:=pk}:=by
 refine⟨x,h.C,h.K,h.L,λq=> ?_,l,h.z,h.d,h.l,λq=>absurd i q,h.h,h.M,h.o,h.t,h.g,h.u,h.N,h.B,o,t,λj r d f=>Ù (h.w j r d f) u,λj r d f=> ?_,h.O,h.S,λc d f=> ?_,h.D⟩
 .have:E.r=0:=q;omega
 .have:=h.H j r d f;show∃a b,fw E.a k G _=_;by_cases e:F.r (j+r*F.n)=k
  .rw[e]at this|-;rw[gB];exact v this
  .rw[fI _ _ e];exact this
 .have g:fw E.a k G c=.cl 1 0:=f;by_cases e:c=k
  .subst e;rw[gB]at g;exact w g
  .rw[fI _ _ e]at g;exact h.y c d g
def PI.ag6(H:gQ F)(p:PI F n zX E S f o v l w qJ)(D:0<E.r)(u:E.N 0=Í)(I:l[F.L]?=Ä g)(M:g.status=Æ)(ht:f F.L=.fB)(t:E.S=.kH k):rE F n zX E f l w qJ:=by
 have B:=iJ I;have C:=p.I.r;have O:=p.A4 D u I M ht w<|C.r _ B;rw[t]at O;have EV:=(p.C.I k).1 t;have X:=A3 H.C;have yP:iQ F.S (λi=>i<l.size) E.Y (gq v F.L {v F.L with w:=w}) w qJ:=C.C B (λ_ q=>q) (λb q=>À<|Á q) (λ_ q=>q) (λa q=>À<|Á q) U U U (C.m _ B)<|C.g _ B;have X5:=p.a.C (i:=F.L) (d:=(v F.L).d) (w0:=w)<|Ç _;have z:E.S.md=k:=by rw[t];rfl
 by_cases AT:k<F.m
 .let⟨HO,A5⟩:=p.M.M k (by rw[z];exact Ç _);let⟨r1,r2⟩:=p.a.f D u;rw[z]at r1 r2;let⟨o1,o2⟩:=p.a.e D (k+1) (by rw[z];omega) AT;let⟨T,P⟩:=jj<|H.f k _ _ _ g AT O (C.M B) HO A5 r2 r1 o1 o2 E.c U;have Q:=p.I.M (J:=JI F E.c<|.mk (k+1)) (T:=T) (K:=.no) I (À M) yP (by rwa[X]);have y:fw E.a 0 (E.a 0)=E.a:=by funext j;unfold fw;split<;>simp[*]
  refine⟨{E with S:=.mk (k+1)},_,_,_,_,λh=>h,.r (p.N.Ll H.C (sg:=E.c) u) p.b Q ?_ ?_ ?_ ?_ (QC p.c U U U U U U U) p.f,Lm H.C (p.G B) u U U U U ?_⟩
  .have L:=X5;exact⟨L.gS,L.o,L.lO,λa e b c=>L.e a e (by rwa[z]) c,λa b=>by have:=L.f a b;rwa[z]at this,L.h,L.l,L.S,L.M,L.c,λe b=>L.I e (by rwa[z]),λe b=>L.N e (by rwa[z]),λe a b=>L.g e a (by rwa[z]),L.d⟩
  .have W:=p.M;exact⟨W.C,W.I,W.jG,λe b=>W.M e (by rwa[z]),λe a b=>W.S e a (by rwa[z]),W.N⟩
  .have:=p.C.Ln (k:=0) (ip:=.mk (k+1)) (G:=E.a 0) (sg:=E.c) (V:=E.V) (pk:=E.e) u D (λe=>⟨λq=>(by cases q),λq=>(by cases q;exact⟨Z,Z⟩),λp q=>by cases q⟩) (λe a b c=> ?_) (λe a b=> ?_) (by rw[t];exact Ç _) id (λq=>p.C.y 0 (ô _) q) p.C.v
   .rwa[y]at this
   .rw[y];exact p.C.e e a b<|by rwa[t]
   .rw[y];rcases p.C.Y e a (by rwa[t])with⟨W,q,_⟩|⟨r,s,q,_⟩|q
    .rw[t]at q;rcases q with q|q<;>cases q
    .rw[t]at q;cases q
    .exact Á<|Á ⟨λp q=>(by cases q),q.2⟩
  .have:E.S.rl=(jx.mk<|k+1).rl:=by rw[t];rfl
   have a:=p.d;rwa[this]at a
  .rw[t];simp only[jx.rk];have:F.m+3-(k+1)=F.m+2-k:=Z
   rw[this];omega
 .have q:k=F.m:=Z
  subst q;let⟨T,P⟩:=jj<|H.h _ g O<|C.M B;have Q:=p.I.M (J:=JE F .oE) (T:=T) (K:=.no) I (À M) yP (by rwa[X]);have s:¬E.iu 0:=λ⟨e,a,_⟩=>by rw[u]at a;cases a
  have W:¬E.oc 0:=λ⟨e,a,_⟩=>by rw[u]at a;cases a
  refine⟨fv.gU E 0 .oE,_,_,_,_,λh=>h,.r (p.N.G (x:=0) H.C λ⟨N,h⟩=>by cases h) p.b Q (X5.gU ⟨λh=>h.elim,λh=>(W h).elim⟩) p.M.gU (p.C.gU D (by rw[u];rfl) (λb h=>by rw[u]at h;cases h) (λb h=>by cases h) (λj h=>by omega) λ_=>t) (p.d.G ⟨λh=>h.elim,λh=>(s h).elim⟩) (Qx p.c λk y b c e=> ?_) p.f,EP H.C (p.G B)<|À ?_⟩
  .subst e;rw[ö,I]at b;obtain rfl:=Ã b;rw[M]at c;cases c
  .unfold rF;rw[u];simp only[ij.rk,if_true,t,jx.rk];have:F.m+2-F.m=2:=Z
   rw[this];omega
end
section
variable{F:Ph}{E E':fS F}{S:Nat->Jd}{o G:Nat->gu}{v:Nat->iz}{d:Nat->fe}{f B:Array Å}{u:ç}{D:Option (Nat×Nat)}
def X6(ok:F.Ok)(a:k<=F.m):jf F.toFx k≠jm F i:=λe=>ok.C (by
 have:F.I k=F.Y:=by injection e
 rw[<-this];exact Á ⟨k,a,U⟩)
def ag7(ok:F.Ok)(a:k<=F.m)(b:i<=F.m)(h:jf F.toFx k=jf F.toFx i):k=i:=ok.S k i a b<|by injection h
def ag8(h:jm F i=jm F n):i=n:=by injection h
def PI.ag9(H:gQ F)(p:PI F n zX E S o v d f w qJ)(h0:0<E.r)(Q:E.N 0=Í)(hi:f[F.L]?=Ä g)(iH:g.status=Æ)(ht:o F.L=.fB)(y:E.S=.mk k):rE F n zX E o f w qJ:=by
 have z:=iJ hi;have C:=p.I.r;have hJ:=p.A4 h0 Q hi iH ht w<|C.r _ z;rw[y]at hJ;let⟨k1,M⟩:=(p.C.I k).2.1 y;have D:E.S.md=k-1:=by rw[y];rfl
 let⟨N,B,hn,A5,X7,hcell,hdone⟩:=hJ;let⟨o1,o2⟩:=p.a.e h0 k (by rw[D];omega) M;have yP:iQ F.S (λi=>i<f.size) E.Y (gq d F.L<|pU F {d F.L with w:=w} k) w qJ:=by
  refine C.C z (λ_ q=>q.elim) (λb q=>À q) (λ_ q=>q.1) (λa q=> ?_) U U U (λ_ q=>q.elim) λa s q=> ?_
  .rcases q with q|rfl|rfl
   .exact À<|Á q
   .exact À<|À o2
   .exact À<|À o1
  .rcases q with q|q|q
   .exact C.g _ z a s.1 q
   .exact s.2.1 q
   .exact s.2.2 q
 have hF:kV F.P (F.L==0) (JI F (fw E.c k N)<|.dn k .jD) .fB (pU F {d F.L with w:=w} k) g:=by rw[A3 H.C];intro J c;let⟨X,a2,W,a3,e⟩:=hdone;exact⟨X,a2,W,a3,e.jL c⟩
 have hG:fw E.a 0 (E.a 0)=E.a:=by funext j;unfold fw;split<;>simp[*]
 have Vn:∀l,l≠k->fw E.V k B l=E.V l:=λl h=>fI _ _ h;have Vs:fw E.V k B k=B:=gB _ _ _;refine⟨{E with S:=.dn k .jD,c:=fw E.c k N,V:=fw E.V k B},_,_,_,_,λh=>h,.r ?_ p.b (p.I.M (K:=.no) hi (À iH) yP hF) ?_ ?_ ?_ ?_ (QC p.c U U U U U U U) p.f,Lm H.C (p.G z) Q U U U U ?_⟩
 .have:=p.N.Ll (ip:=.dn k .jD) (sg:=fw E.c k N) (T:=.fB) H.C Q;exact⟨this.M,this.Y,this.I,this.C,this.r⟩
 .have L:=p.a;have G:(gq d F.L<|pU F {d F.L with w:=w} k) F.L=pU F {d F.L with w:=w} k:=gT _ _ _;have W:∀i,i≠F.L->(gq d F.L<|pU F {d F.L with w:=w} k) i=d i:=λi h=>gF d _ h;have X8:(0:Nat)≠F.L:=by have:=H.C.r;omega
  have QD:∀i a,(gq d F.L (pU F {d F.L with w:=w} k) i).r a->(d i).r a:=λi a h=>by
   by_cases q:i=F.L
   .subst q;rw[G]at h;exact h.1
   .rwa[W i q]at h
  have sO:∀i b,(gq d F.L (pU F {d F.L with w:=w} k) i).O b->(d i).O b/\i≠F.L:=λi b h=>by
   by_cases q:i=F.L
   .subst q;rw[G]at h;exact h.elim
   .rw[W i q]at h;exact⟨h,q⟩
  have X9:∀i,i<f.size->∀a,(a=jm F (F.b k)\/a=jf F.toFx k)->¬(gq d F.L (pU F {d F.L with w:=w} k) i).r a:=λi c a s h=>by
   by_cases q:i=F.L
   .subst q;rw[G]at h;rcases s with s|s
    .exact h.2.1 s
    .exact h.2.2 s
   .rw[W i q]at h;refine C.h i F.L c z q a h<|À ?_;rcases s with rfl|rfl
    .exact o2
    .exact o1
  refine⟨λi c a s=> ?_,λx t u a s=>by rw[W 0 X8];exact L.o x t u a s,λh=>by rw[W 0 X8];exact L.lO h,λh l t u=> ?_,λh yT=> ?_,λj hj yT r hr t=>by rw[W _ Z];exact L.h j hj yT r hr t,λj hj yT=>by rw[W _ Z];exact L.l j hj yT,λx AZ=> ?_,λi c=> ?_,λi t u=>by rw[W i Z];exact L.c i t u,λl I b hb=> ?_,λl I i c h=> ?_,λl t u i c h=> ?_,λj hj r hr t i c h=>L.d j hj r hr t i c<|QD _ _ h⟩
  .by_cases q:i=F.L
   .subst q;rw[G]at s;rcases s with q|q|q|q
    .exact L.gS _ z a<|À q.1
    .exact L.gS _ z a<|Á q
    .exact Á ⟨_,H.C.Y.1 _ Z Z,q⟩
    .exact À ⟨k,M,q⟩
   .rw[W i q]at s;exact L.gS i c a s
  .rw[G];have vw:k<l:=t;let⟨J,q2⟩:=L.e h l (by rw[D];omega) u;exact⟨⟨J,X6 H.C u,λe=>by have:=ag7 H.C u M e;omega⟩,⟨q2,λe=>by have:=H.C.pi l k Z u k1 M<|ag8 e;omega,λe=>X6 H.C M e.symm⟩⟩
  .rw[G];show(pU F _ k).N (jf F.toFx k)/\∀b,fw E.V k B k b->(pU F _ k).I b;rw[Vs];exact⟨Á<|Á U,X7⟩
  .have:F.L+x≠F.L:=λq=>by
    have J:x=0:=Z
    subst J;let⟨e,t,_⟩:=AZ;rw[Q]at t;cases t
   rw[W _ this];exact L.S x AZ
  .by_cases q:i=F.L
   .subst q;rw[G];exact L.M _ c
   .rw[W _ q];exact L.M i c
  .have rG:l<=k:=I;by_cases q:l=k
   .subst q;have J:fw E.V l B l b:=hb;rw[Vs]at J;have hM:=X7 b J;refine⟨C.fx _ z b hM,C.I _ z b hM,λi c h=> ?_⟩;let⟨X,a2⟩:=sO i b h;exact C.o i F.L c z a2 b X hM
   .have J:fw E.V k B l b:=hb;rw[Vn l q]at J;let⟨X,a2,a3⟩:=L.I l (by rw[D];omega) b J;exact⟨X,a2,λi c h=>a3 i c (sO i b h).1⟩
  .have rG:l<=k:=I;by_cases q:l=k
   .subst q;exact X9 i c _ (Á U) h
   .exact L.N l (by rw[D];omega) i c<|QD _ _ h
  .have rG:l<=k:=u;by_cases q:l=k
   .subst q;exact X9 i c _ (À U) h
   .exact L.g l t (by rw[D];omega) i c<|QD _ _ h
 .have W:=p.M;refine⟨W.C,W.I,W.jG,λl I=> ?_,λl t I=> ?_,W.N⟩
  .have rG:l<=k:=I;show nt F l (fw E.c k N l)/\F.d l (fw E.c k N l) (fw E.V k B l) w;by_cases q:l=k
   .subst q;rw[gB,gB];refine⟨?_,A5⟩;have:=(W.M (l-1)<|by rw[D];exact Ç _).1;have u:=nt.EC this hn;rwa[show l-1+1=l by omega]at u
   .rw[fI _ _ q,fI _ _ q];exact W.M l<|by rw[D];omega
  .have rG:l<=k:=I;by_cases q:l=k
   .subst q;exact hcell
   .exact W.S l t<|by rw[D];omega
 .have:=p.C.Ln (ip:=.dn k .jD) (sg:=fw E.c k N) (V:=fw E.V k B) (pk:=E.e) Q h0 (λl=>⟨λq=>(by cases q),λq=>(by cases q),λp q=>by cases q;exact⟨k1,M⟩⟩) (λl a b c=> ?_) (λl a b=> ?_) (by rw[y];exact Ç _) id (λq=>p.C.y 0 (ô _) q)<|by rw[Vn 0 Z];exact p.C.v
  .rwa[hG]at this
  .rw[hG];exact p.C.e l a b<|by rwa[y]
  .rw[hG];have J:l<=k-1:=b;rcases p.C.Y l a (by rwa[y])with⟨W,q,_⟩|⟨r,s,q,_⟩|q
   .rw[y]at q;rcases q with q|q<;>cases q
   .rw[y]at q;cases q
   .exact Á<|Á ⟨λp q=>(by cases q;omega),q.2⟩
 .have c:=p.d;have e:E.S.rl=k-1:=by rw[y];rfl
  rw[e]at c;refine{c with I:=λl a b x AZ=> ?_};have J:l<=k-1:=b;refine c.I l a b x (AZ.imp (λq=> ?_) id);rwa[<-Vn l Z]
 .rw[y];simp only[jx.rk,jF.rk];have:F.m+3-k=(F.m+2-k)+1:=Z
  rw[this,į];omega
def PI.aha(H:gQ F)(p:PI F n zX E S o v d f w qJ)(x:0<E.r)(m:E.N 0=Í)(G:f[F.L]?=Ä g)(iH:g.status=Æ)(ht:o F.L=.fB)(e:E.S=.dn k .jD):jY F n zX E o f w qJ D F.L:=by
 have t:=iJ G;have C:=p.I.r;have K:=p.A4 x m G iH ht w<|C.r _ t;rw[e]at K;let⟨k1,M⟩:=(p.C.I k).2.2 _ e;have N:=A3 H.C;let⟨hd,_,g',h1,O⟩:=K;have P:∀y:Ć,y.act=Ğ (Ķ<|fM<|F.I k)->y.act.touch?=Í:=λy i=>by rw[i];rfl
 let⟨T,hT⟩:=jj O;have Q:=lB (λl g h=>À h.2.1) O;obtain⟨B,y,y1,y2,q1,V,q3,q4,q5,q7⟩:=p.AY H .no G (by rw[N];exact h1 w) fj fj (λy i=>⟨λz l=>(by rw[P y i]at l;cases l),by rw[i];exact C.N _<|À<|Á ⟨k,M,U⟩⟩) (λy _ i=>AJ C.l λl u=>by rw[xc u];exact P y i) (by rwa[N]) Q;have z:E.S.md=k:=by rw[e];rfl
 have QF:E.S.rl=k-1:=by rw[e];rfl
 let⟨X,Y⟩:=p.a.f x m;rw[z]at X Y;have ti:=p.d;rw[QF]at ti;have I:k-1+1=k:=Z
 have EM:=ti.agd y1 (by rwa[I]) ((C.f _ t).trans hd) (by
  rw[I];intro a l;rcases l with l|rfl
  .exact(C.S _ t).C a<|Y _ l
  .exact(C.S _ t).r _ X)
 rw[I]at EM;have J:fw E.a 0 (E.a 0)=E.a:=by funext j;unfold fw;split<;>simp[*]
 refine⟨{E with S:=.dn k .iD,e:=fw E.e k qJ.size},_,_,_,_,B,w,#[y],q1,V,λh=>h,.r ?_ (V.trans p.b) q5 ?_ ?_ ?_ EM (p.c.qG (E':={E with S:=.dn k .iD,e:=fw E.e k qJ.size}) q3 (by rcases Q with q|q<;>rw[q]<;>simp) q4 (λ_ _=>rfl) U U (λ_ _=>rfl) (λ_=>rfl) (λ_ _=>rfl) (λ_ _ h=>À h) λ_ _ _ _ h=>À h) λj r a1 a2 a3=> ?_,Lm H.C (p.G t) m U U U U ?_⟩
 .have:=p.N.Ll (ip:=.dn k .iD) (sg:=E.c) (T:=T) H.C m;exact⟨this.M,this.Y,this.I,this.C,this.r⟩
 .have L:=q7;exact⟨L.gS,L.o,L.lO,λa l b c=>L.e a l (by rwa[z]) c,λa b=>by have:=L.f a b;rwa[z]at this,L.h,L.l,L.S,L.M,L.c,λl b=>L.I l (by rwa[z]),λl b=>L.N l (by rwa[z]),λl a b=>L.g l a (by rwa[z]),L.d⟩
 .have W:=p.M;exact⟨W.C,W.I,W.jG,λl b=>W.M l (by rwa[z]),λl a b=>W.S l a (by rwa[z]),W.N⟩
 .have:=p.C.Ln (ip:=.dn k .iD) (sg:=E.c) (pk:=fw E.e k qJ.size) m x (λl=>⟨λq=>(by cases q),λq=>(by cases q),λp q=>by cases q;exact⟨k1,M⟩⟩) (λl a b c=> ?_) (λl a b=> ?_) (by rw[e];exact Ç _) id (λq=>p.C.y 0 (ô _) q) p.C.v
  .rwa[J]at this
  .rw[J];exact p.C.e l a b<|by rwa[e]
  .rw[J];have c:l<=k-1:=b;rcases p.C.Y l a (by rwa[e])with⟨W,q,_⟩|⟨r,s,q,_⟩|q
   .rw[e]at q;rcases q with q|q<;>cases q
   .rw[e]at q;cases q
   .exact Á<|Á ⟨λp q=>(by cases q;omega),q.2⟩
 .have u:=p.C.w j r a1<|Á<|Á a2;rw[e]at u;simp only[jx.od]at u;show η _ _ (fw E.e k qJ.size _);rw[fI _ _ Z];exact(p.f j r a1 a2 a3).app _
 .rw[e];simp only[jx.rk,jF.rk];omega
end
section
variable{F:Ph}{E E':fS F}{S:Nat->Jd}{v M:Nat->gu}{I:Nat->iz}{B:Nat->fe}{o f:Array Å}{u:ç}{K:Option (Nat×Nat)}
def A6(E:fS F)(ip:jx)(k:Nat)(G:GS):fS F:={E with S:=ip,a:=fw E.a k G}
def PI.EW(H:gQ F)(p:PI F j zX E S v I B o w qJ){d:jF}{ip:jx}{G:GS}{s:Å}{T:gu}(h0:0<E.r)(C:E.N 0=Í)(t:E.S=.dn k d)(O:d≠ .jD)(Q:o[F.L]?=Ä g)(D:kz (F.I k) w W)(X:hD W (F.I k) G)(q1:Ŝ F.P (ò o w K) F.L=(Ģ<|ò f W K,u))(J:f.size=o.size)(q3:f[F.L]?=Ä s)(nR:s.status=Æ\/s.status=ë)(q4:∀k,k≠F.L->f[k]?=o[k]?.map (Ą F.P g s W)) (q5:gL F.P F.S E.Y (fw S F.L<|JI F E.c ip) (fw v F.L T) (fw I F.L .no) (gq B F.L {B F.L with w:=W}) f W (qJ++u)) (q6:TI F.toFx j zX E.r E.S.rl E.V E.e E.d E.iu E.f (qJ++u)) (q7:iG F E (gq B F.L {B F.L with w:=W}) f.size W) (x:ip.md=k/\ip.rl=k) (hP:Ps F (A6 E ip k G)) (hrk:ip.rk F<E.S.rk F) (EK:∀i r,E.C i=.fy r .kv->F.r (i+r*F.n)=k->(E.a k).sm=0->G.sm=0\/∀y,f[F.L+1+i]?=Ä y->y.status≠Þ):jY F j zX E v o w qJ K F.L:=by
 let⟨k1,z⟩:=(p.C.I k).2.2 _ t;have M:F.M (F.I k):=Á ⟨k,z,U⟩;have N:E.S.md=k:=by rw[t];rfl
 have QF:E.S.rl=k:=by rw[t];cases d<;>first|rfl|exact absurd U O
 have m:=D.I H p.a p.C p.M M ⟨λq=>absurd q<|H.C.M k z,λ_=>rfl⟩ (λl a=>⟨λq=>by rwa[<-H.C.S _ _ z a q,gB],λq=>fI _ _ λe=>q<|by rw[e]⟩);refine⟨A6 E ip k G,_,_,_,_,f,W,u,q1,J,λh=>h,.r ?_ (J.trans p.b) q5 ?_ ?_ hP ?_ ?_ λi r a b c=>(p.f i r a b c).app u,Lm H.C (p.G<|iJ Q) C U U U U hrk⟩
 .have:=p.N.Ll (ip:=ip) (sg:=E.c) (T:=T) H.C C;exact⟨this.M,this.Y,this.I,this.C,this.r⟩
 .have L:=q7;have e:(A6 E ip k G).S.md=E.S.md:=by rw[N];exact x.1
  exact⟨L.gS,L.o,L.lO,λa l b c=>L.e a l (by rwa[<-e]) c,λa b=>by have:=L.f a b;rwa[<-e]at this,L.h,L.l,L.S,L.M,L.c,λl b=>L.I l (by rwa[<-e]),λl b=>L.N l (by rwa[<-e]),λl a b=>L.g l a (by rwa[<-e]),L.d⟩
 .have e:(A6 E ip k G).S.md=E.S.md:=by rw[N];exact x.1
  exact⟨m.C,m.I,m.jG,λl b=>m.M l (by show l<=E.S.md;rwa[<-e]),λl a b=>m.S l a (by show l<=E.S.md;rwa[<-e]),m.N⟩
 .have e:(A6 E ip k G).S.rl=E.S.rl:=by rw[QF];exact x.2
  rwa[e]
 .refine p.c.qG (E':=A6 E ip k G) q3 (by rcases nR with q|q<;>rw[q]<;>simp) q4 (λi a=>D.C p.C M a) U U (λ_ _=>rfl) (λ_=>rfl) (λ_ _=>rfl) (λ_ _ h=>À h) λi r _ b a=> ?_;show(fw E.a k G _).sm=0\/_;by_cases q:F.r (i+r*F.n)=k
  .rw[q]at a|-;rw[gB];exact EK i r b q a
  .rw[fI _ _ q];exact À a
def PI.EX(p:PI F j zX E S v I B o w qJ){d:jF}{f:jx}{G:GS}(x:0<E.r)(y:E.N 0=Í)(i:E.S=.dn k d)(t:f=.kH k\/∃l,f=.dn k l)(m:f.od=k)(C:(∃W,(f=.dn k (.gy W)\/f=.dn k (.jb W))/\G=.jE W/\W=Ñ F.n λe=>(E.C e).gC F e k)\/(∃r s,f=.dn k (.iA r)/\0<r/\G=.gV r s/\r+s=Ñ F.n λe=>(E.C e).gC F e k)\/((∀p,f≠ .dn k p)/\((G=.cl 0 0/\(Ñ F.n λe=>(E.C e).gC F e k)=0)\/∃s,G=.gV 0 s/\s=Ñ F.n λe=>(E.C e).gC F e k))) (D:(∃a b,E.a k=.gV a b)->∃a b,G=.gV a b) (H:G≠ .cl 1 0):Ps F (A6 E f k G):=by
 let⟨J,u⟩:=(p.C.I k).2.2 _ i;have K:k-1<=E.S.od/\E.S.od<=k:=by rw[i];cases d<;>simp only[jx.od]<;>omega
 have:=p.C.Ln (sg:=E.c) (pk:=E.e) y x (λg=> ?_) (λg a b c=> ?_) (λg a b=> ?_) (by rw[m];exact K.2) D (λq=>absurd q H) p.C.v
 .exact this
 .rcases t with rfl|⟨l,rfl⟩
  .exact⟨λq=>(by cases q;exact u),λq=>(by cases q),λp q=>by cases q⟩
  .exact⟨λq=>(by cases q),λq=>(by cases q),λp q=>by cases q;exact⟨J,u⟩⟩
 .rw[m]at c;rw[fI _ _ Z];exact p.C.e g a b Z
 .by_cases q:g=k
  .subst q;rwa[gB]
  .rw[fI _ _ q];rw[m]at b;refine Á<|Á ⟨λc h=> ?_,?_⟩
   .rcases t with rfl|⟨l,rfl⟩<;>cases h;exact q U
   .rcases p.C.Y g a Z with⟨W,z,_⟩|⟨r,s,z,_⟩|z
    .rw[i]at z;rcases z with z|z<;>(injection z with z _;exact absurd z.symm q)
    .rw[i]at z;injection z with z _;exact absurd z.symm q
    .exact z.2
def PI.ahb(H:gQ F)(p:PI F j zX E S v I B o w qJ)(i:0<E.r)(m:E.N 0=Í)(s:o[F.L]?=Ä g)(iH:g.status=Æ)(ht:v F.L=.fB)(d:E.S=.dn k .iD):jY F j zX E v o w qJ K F.L:=by
 have O:=iJ s;have C:=p.I.r;have hJ:=p.A4 i m s iH ht w<|C.r _ O;rw[d]at hJ;obtain⟨k1,EV⟩:=(p.C.I k).2.2 _ d;have Q:=A3 H.C;have y:F.M (F.I k):=Á ⟨k,EV,U⟩;obtain⟨hd,_,tX⟩:=hJ;have hc:=p.C.e k k1 EV (by rw[d];simp only[jx.od];omega);obtain⟨W,hW⟩:∃W,(Ñ F.n λa=>(E.C a).gC F a k)=W:=⟨_,U⟩;rw[hW]at hc;have V:=hc▸p.M.I k EV;obtain⟨ev,z⟩:=V.jK;have key:=tX (GS.cl (0+1) W).st;rw[ev]at key z;obtain⟨c,t⟩:∃c,(GS.jK<|.cl (0+1) W).st=c:=⟨_,U⟩;rw[t]at key;obtain⟨g',h1,X⟩:=key;have G:=h1 w V.C V.I;rw[<-t]at G;obtain⟨k1',k2,k3⟩:=V.r;have r:kz (F.I k) w (w.setCell (fM<|F.I k)<|é Ô (GS.jK<|.cl (0+1) W).st):=Á ⟨_,_,À U,U⟩;have D:=r.r p.a H.C y;have Y:fH {B F.L with w:=w} w (w.setCell (fM<|F.I k)<|é Ô (GS.jK<|.cl (0+1) W).st):=⟨Ö D.r.symm,λb kR=>D.jR b<|C.I _ O b kR,λa ha=>D.M _ O a ha,λa ha=>D.N _ O a ha,λa _=>D.I a⟩;have Ya:¬∃a b,E.a k=.gV a b:=λ⟨a,b,q⟩=>by rw[hc]at q;cases q
 by_cases hl:0<W
 .have ed:GS.jK (.cl (0+1) W)=.jE W:=by simp only[GS.jK];rw[if_pos ⟨trivial,hl⟩]
  rw[ed]at G z r D Y t;have M:fi F.P É (K2 F.P É (F.I k) (fi F.P É<|F.h k) W) {B F.L with w:=w} g':=by
   have x:c=(W:Int):=t.symm;have e:¬(c=0\/(fY<=c/\c<1000000*fY/\c%fY<1000000)):=by simp only[fY];omega
   have h:0<c/\c<1000000:=Z
   have l:c.toNat=W:=Z
   simp only[if_neg e,if_pos h,l]at X;exact X
  obtain⟨T,hT⟩:=jj<|M.jL Y;have N:=lB (λl g h=>À h.2.1) M;obtain⟨f,u,q1,q2,q3,q4,q5,q6,q7⟩:=p.Y (J:=JI F E.c<|.dn k (.gy W)) H .no s (ES i) y (by rwa[Q]) r (AR y) U (λx hs e=>(EU m x hs e).elim) (by rwa[Q]) N;refine p.EW H i m d fj s r z q1 q2 q3 N q4 q5 q6 q7 ⟨U,U⟩ (p.EX i m d (Á ⟨_,U⟩) U (À ⟨W,À U,U,hW.symm⟩) (λq=>absurd q Ya) fj) ?_ λ_ _ _ _ _=>À U;rw[d];simp only[jx.rk,jF.rk];omega
 .have QA:W=0:=Z
  subst QA;have ed:GS.jK (.cl (0+1) 0)=.cl 0 0:=U;rw[ed]at G z r D Y t;have M:fi F.P É (F.h k) {B F.L with w:=w} g':=by simp only[t.symm,true_or,if_true]at X;exact X
  obtain⟨T,hT⟩:=jj<|M.jL Y;have N:=lB (λl g h=>À<|H.N _ _ _ h) M;obtain⟨f,u,q1,q2,q3,q4,q5,q6,q7⟩:=p.Y (J:=JI F E.c<|.kH k) H .no s (ES i) y (by rwa[Q]) r (AR y) U (λx hs e=>(EU m x hs e).elim) (by rwa[Q]) N;refine p.EW H i m d fj s r z q1 q2 q3 N q4 q5 q6 q7 ⟨U,U⟩ (p.EX i m d (À U) U (Á<|Á ⟨λp q=>(by cases q),À ⟨rfl,hW⟩⟩) (λq=>absurd q Ya) fj) ?_ λ_ _ _ _ _=>À rfl;rw[d];simp only[jx.rk,jF.rk];omega
def PI.Yb(p:PI F j zX E S v I B o w qJ)(b:E.S=.dn k (.gy i)\/E.S=.dn k (.jb i)):E.a k=.jE i/\i=Ñ F.n λa=>(E.C a).gC F a k:=by
 have c:k<=F.m:=by rcases b with b|b<;>exact((p.C.I k).2.2 _ b).2
 rcases p.C.Y k c (by rcases b with b|b<;>(rw[b];exact Ç _))with⟨d,z,e,f⟩|⟨r,s,z,_⟩|⟨z,_⟩
 .have:d=i:=by rcases b with b|b<;>(rw[b]at z;rcases z with z|z<;>cases z<;>rfl)
  subst this;exact⟨e,f⟩
 .rcases b with b|b<;>(rw[b]at z;cases z)
 .rcases b with b|b<;>exact absurd b<|z _
def PI.ahc(H:gQ F)(p:PI F j zX E S v I B o w qJ)(d:0<E.r)(m:E.N 0=Í)(n:o[F.L]?=Ä g)(M:g.status=Æ)(N:v F.L=.fB)(c:E.S=.dn k (.gy i)):jY F j zX E v o w qJ K F.L:=by have s:=p.A4 d m n M N w<|(p.I.r).r _<|iJ n;rw[c]at s;let⟨k1,t⟩:=(p.C.I k).2.2 _ c;have y:=A3 H.C;have z:F.M (F.I k):=Á ⟨k,t,U⟩;let⟨hd,_,O⟩:=s;let⟨C,P⟩:=p.Yb<|À c;have D:=C▸p.M.I k t;let⟨g',Q,r⟩:=O (i:Int);simp only[if_true]at r;let⟨T,V⟩:=jj r;have G:=lB (λl g h=>À h.2.1) r;obtain⟨f,u,h,l,X,Y,q5,q6,q7⟩:=p.Y (J:=JI F E.c<|.dn k (.jb i)) H .no n (ES d) z (by rw[y];exact Q w D.C) (À U) (yM z) U (λx a e=>(EU m x a e).elim) (by rwa[y]) G;refine p.EW H d m c fj n (À U) D h l X G Y q5 q6 q7 ⟨U,U⟩ (p.EX d m c (Á ⟨_,U⟩) U (À ⟨i,Á U,U,P⟩) (λ⟨a,b,q⟩=>by rw[C]at q;cases q) fj) ?_ λ_ _ _ _ _=>À rfl;rw[c];simp only[jx.rk,jF.rk];omega
def PI.ahd(H:gQ F)(p:PI F j zX E S v I B o w qJ)(d:0<E.r)(m:E.N 0=Í)(n:o[F.L]?=Ä g)(N:g.status=Æ)(O:v F.L=.fB)(c:E.S=.dn k (.jb i)):jY F j zX E v o w qJ K F.L:=by
 have q:=iJ n;have C:=p.I.r;have y:=p.A4 d m n N O w<|C.r _ q;rw[c]at y;let⟨k1,z⟩:=(p.C.I k).2.2 _ c;have G:=A3 H.C;have s:F.M (F.I k):=Á ⟨k,z,U⟩;let⟨hd,_,g',P,M⟩:=y;let⟨Q,V⟩:=p.Yb<|Á c;have r:=Q▸p.M.I k z;have X:=r.r.1;have t:kz (F.I k) w (w.setCell (fM<|F.I k)<|é Ô 0):=Á ⟨_,_,À U,U⟩;have D:=t.r p.a H.C s;let⟨T,Y⟩:=jj (M.jL ⟨Ö D.r.symm,λb h=>D.jR b<|C.I _ q b h,λa e=>D.M _ q a e,λa e=>D.N _ q a e,λa _=>D.I a⟩);have a:=lB (λl g h=>by
  cases i with
  |zero=>omega
  |succ i=>exact À h.2.1) M
 obtain⟨f,u,h,b,l,q4,q5,q6,q7⟩:=p.Y (J:=JI F E.c<|.dn k (.iA i)) H .no n (ES d) s (by rw[G];exact P w _ r.C r.I) t (XL s) U (λx hs e=>(EU m x hs e).elim) (by rwa[G]) a;refine p.EW H d m c fj n t r.Xy h b l a q4 q5 q6 q7 ⟨U,U⟩ (p.EX d m c (Á ⟨_,U⟩) U (Á<|À ⟨i,0,U,X,U,by rwa[ö]⟩) (λ_=>⟨i,0,U⟩) fj) ?_ λ_ _ _ _ _=>À U;rw[c];simp only[jx.rk,jF.rk];omega
def PI.ahe(H:gQ F)(p:PI F j zX E S v I B o w qJ)(l:0<E.r)(t:E.N 0=Í)(G:o[F.L]?=Ä g)(iH:g.status=Æ)(ht:v F.L=.fB)(d:E.S=.dn k (.iA j9)):jY F j zX E v o w qJ K F.L:=by
 have W:=iJ G;have C:=p.I.r;have hJ:=p.A4 l t G iH ht w<|C.r _ W;rw[d]at hJ;obtain⟨k1,Y⟩:=(p.C.I k).2.2 _ d;have X:=A3 H.C;have O:F.M (F.I k):=Á ⟨k,Y,U⟩;obtain⟨s,hr0,hc,sQ⟩:∃s,0<j9/\E.a k=.gV j9 s/\j9+s=Ñ F.n λc=>(E.C c).gC F c k:=by
  rcases p.C.Y k Y (by rw[d];exact Ç _)with⟨W',z,z1,z2⟩|⟨M,s,z,z1,z2,z3⟩|⟨z,_⟩
  .rw[d]at z;rcases z with z|z<;>cases z
  .rw[d]at z;injection z with _ z;injection z with z;subst z;exact⟨s,z1,z2,z3⟩
  .exact absurd d<|z _
 obtain⟨j9,rfl⟩:∃M,j9=M+1:=⟨j9-1,Z⟩;obtain⟨hd,_,QB,g',Q,h1,h2⟩:=hJ;have N:=hc▸p.M.I k Y;have V:kz (F.I k) w (w.setCell (gP<|F.I k)<|é è<|è.wrap<|(GS.gV (j9+1) s).sm+1):=Á ⟨_,_,Á U,U⟩;have D:=V.r p.a H.C O;have xf:fH {B F.L with w:=w} w (w.setCell (gP<|F.I k)<|é è<|è.wrap<|(GS.gV (j9+1) s).sm+1):=⟨Ö D.r.symm,λb kR=>D.jR b<|C.I _ W b kR,λa ha=>D.M _ W a ha,λa ha=>D.N _ W a ha,λa _=>D.I a⟩;have wake:∀f:Array Å,(∀k,k≠F.L->f[k]?=o[k]?.map (Ą F.P g g'<|w.setCell (gP<|F.I k)<|é è<|è.wrap<|(GS.gV (j9+1) s).sm+1))\/(∀m,m≠F.L->f[m]?=o[m]?.map (Ą F.P g g'<|w.setCell (gP<|F.I k)<|é è<|è.wrap<|(GS.gV (j9+1) s).sm+1))->∀c M,E.C c=.fy M .kv->F.r (c+M*F.n)=k->(E.a k).sm=0->(GS.gV j9<|s+1).sm=0\/∀y,f[F.L+1+c]?=Ä y->y.status≠Þ:=by
  intro f h c M hj _ _;refine Á λy hy=> ?_;by_cases Yc:c+2<=E.r
  .by_cases Lp:E.N (c+1)=Í
   .obtain⟨_,hk⟩:=p.g c Yc Lp;rw[hj]at hk;rcases h with h|h<;>
    .rw[h _ Z]at hy;obtain⟨z,HN,rfl⟩:=Ú.1 hy;exact X3 p QB Q HN hk
   .obtain⟨_,r0,q,_⟩:=p.C.l c Yc Lp;rw[hj]at q;cases q
  .have:=p.C.z c Z;rw[hj]at this;cases this
 cases j9 with
 |zero=>
  obtain⟨T,hT⟩:=jj<|h2.jL xf;obtain⟨f,u,q1,q2,q3,h,q5,q6,q7⟩:=p.Y (J:=JI F E.c<|.kH k) H .no G (ES l) O (by rw[X];exact h1 w _ N.M N.N) V (Hs O) (Ht _).2.2.2 (λx hs e=>(EU t x hs e).elim) (by rwa[X])<|À Q;refine p.EW H l t d fj G V N.jD q1 q2 q3 (À Q) h q5 q6 q7 ⟨U,U⟩ (p.EX l t d (À U) U (Á<|Á ⟨λp q=>(by cases q),Á ⟨s+1,rfl,Z⟩⟩) (λ_=>⟨0,s+1,rfl⟩) fj) ?_<|wake f<|Á h;rw[d];simp only[jx.rk,jF.rk];omega
 |succ j9=>
  obtain⟨T,hT⟩:=jj<|h2.jL xf;obtain⟨f,u,q1,q2,q3,h,q5,q6,q7⟩:=p.Y (J:=JI F E.c<|.dn k (.iA (j9+1))) H .no G (ES l) O (by rw[X];exact h1 w _ N.M N.N) V (Hs O) (Ht _).2.2.2 (λx hs e=>(EU t x hs e).elim) (by rwa[X])<|À Q;refine p.EW H l t d fj G V N.jD q1 q2 q3 (À Q) h q5 q6 q7 ⟨U,U⟩ (p.EX l t d (Á ⟨_,U⟩) U (Á<|À ⟨j9+1,s+1,U,Z,U,Z⟩) (λ_=>⟨j9+1,s+1,U⟩) fj) ?_<|wake f<|Á h;rw[d];simp only[jx.rk,jF.rk];have:Ñ F.n (λc=>(E.C c).gC F c k)<=F.n:=Hv λi=>by cases E.C i<;>simp only[gM.gC]<;>first|omega|(split<;>first|omega|(rename_i q _;cases q<;>simp[jk.rD]))
  omega
def PI.ahf(H:gQ F)(p:PI F j zX E S v I B o w qJ){N:Nat}(t:i<E.r)(a:E.N i=Ä (.jr N))(u:o[F.L+i]?=Ä g)(M:g.status=Æ):jY F j zX E v o w qJ K (F.L+i):=by
 let⟨O,d,P⟩:=p.k i _ t a;have hL:=H.C.r;obtain⟨f,Q,T,hn,V,m,W,z,C⟩:=p.I.PW u Z M d (P ⟨N,U⟩) O;have D:=iJ u;have G:∀c∈Ý (F.L+i) g.frame.fn g.frame.place Q,c.act.touch?=Í/\∀b,F.M b->c.act≠Ğ (.release<|fM b):=λc l=>by obtain⟨e,h,rfl⟩:=Ø l;refine⟨Ζ<|z e h,λb _ q=> ?_⟩;have:=z e h;let⟨k,y,n⟩:=e;cases k<;>simp_all[Event.mute,Ë]
 obtain⟨n,s⟩:∃n,f[F.L+i]?=Ä n:=⟨f[F.L+i]'(by rwa[m]),Ü _⟩;have J:n.status≠Þ:=by
  let⟨g0,y,h,k,r⟩:=C.C _ n s;rw[d]at h;cases h with
  |gk=>rcases k with q|q<;>rw[q]<;>simp
 have X:fw v (F.L+i) .fB=v:=by funext q;unfold fw;split<;>simp[*]
 have Y:fw I (F.L+i) .no=I:=by funext q;unfold fw;split<;>simp[*]
 refine⟨fv.gU E i<|.jr T,_,_,_,_,f,w,_,V,m,λh=>h,.r (p.N.G H.C λ_=>rfl) (m.trans p.b) (by rwa[X,Y]) (by rw[m];exact(p.a.C<|Ç _).gU<|⟨λ_=>⟨_,a,trivial⟩,λ_=>trivial⟩) p.M.gU (p.C.gU t (by rw[a];rfl) (λk h=>by rw[a]at h;cases h) (λk h=>by cases h) (λq h=>p.C.l q Z<|by rw[<-h,a];simp) λh=>p.C.f<|by rw[<-h,a];simp) ((p.d.C<|yI (λc l=>(G c l).1) λc l=>(G c l).2).G<|⟨λ_=>⟨_,a,trivial⟩,λ_=>trivial⟩) (Qx (p.c.Hg s J W λ_ _=>rfl) λk y d hb e=> ?_) λq r k y a3=>(p.f q r k y a3).app _,EP H.C (p.G D)<|Á ?_⟩
 .subst e;rw[s]at d;obtain rfl:=Ã d;exact J hb
 .unfold rF;rw[a];simp only[ij.rk];exact⟨trivial,Z⟩
def PI.ahg(H:gQ F)(p:PI F j zX E S v I B o w qJ)(O:0<i)(u:i<F.L)(x:o[i]?=Ä g)(Q:g.status=Æ):jY F j zX E v o w qJ K i:=by
 let⟨T,z,l⟩:=p.l i O u;obtain⟨f,C,n,Y,V,s,W,D,G⟩:=p.I.PW x Z Q l z T;have J:=iJ x;have M:∀c∈Ý i g.frame.fn g.frame.place C,c.act.touch?=Í/\∀b,F.M b->c.act≠Ğ (.release<|fM b):=λc m=>by obtain⟨e,a,rfl⟩:=Ø m;refine⟨Ζ<|D e a,λb _ q=> ?_⟩;have:=D e a;let⟨h,k,y⟩:=e;cases h<;>simp_all[Event.mute,Ë]
 obtain⟨t,N⟩:∃t,f[i]?=Ä t:=⟨f[i]'(by rwa[s]),Ü _⟩;have X:t.status≠Þ:=by
  let⟨g0,k,a,h,y⟩:=G.C _ t N;rw[l]at a;cases a with
  |gk=>rcases h with q|q<;>rw[q]<;>simp
 refine⟨{E with h:=fw E.h i n},_,_,_,_,f,w,_,V,s,λh=>h,.r ?_ (s.trans p.b) G ?_ ⟨p.M.C,p.M.I,p.M.jG,p.M.M,p.M.S,p.M.N⟩ ?_ (p.d.C<|yI (λc m=>(M c m).1) λc m=>(M c m).2) (QC (p.c.Hg N X W λ_ _=>rfl) U U U U U U U) λq r a k y=>(p.f q r a k y).app _,Hq (p.G J) ?_ λk l=>yK (λ_=>rfl) (λ_ _=>fI _ _ l) (λ_=>rfl) (λ_ _=>rfl) (λ_ _=>rfl) U⟩
 .have h:=p.N;refine⟨by rw[fI S _ Z];exact h.M,λa b=>by rw[fI S _ Z];exact h.Y a b,λq a b=>by rw[fI S _ Z];exact h.I q a b,λy e a b=>by rw[fI S _ Z];exact h.C y e a b,λq a b=> ?_⟩;by_cases e:q=i
  .subst e;rw[gB];exact⟨by show _=oD F.P (fw E.h q n q);rw[gB],z,l⟩
  .rw[fI S _ e];refine⟨?_,(h.r q a b).2⟩;show _=oD F.P (fw E.h i n q);rw[fI _ _ e];exact(h.r q a b).1
 .rw[s];have L:=p.a.C (i:=i) (d:=Ï (B i).d C) (w0:=w)<|Ç _;exact⟨L.gS,L.o,L.lO,L.e,L.f,L.h,L.l,L.S,L.M,L.c,L.I,L.N,L.g,L.d⟩
 .have h:=p.C;exact⟨h.v,h.C,h.K,h.L,h.J,h.I,h.z,h.d,h.l,h.f,h.h,h.M,h.o,h.t,h.g,h.u,h.N,h.B,h.e,h.Y,h.w,h.H,h.O,h.S,h.y,h.D⟩
 .unfold fS.iR;rw[if_neg Z,if_pos u,if_neg Z,if_pos u];refine Á ⟨U,À ?_⟩;show fw E.h i n i<E.h i;rw[gB];omega
end
section
variable{F:Ph}{E J:fS F}{S:Nat->Jd}{d M:Nat->gu}{o:Nat->iz}{m:Nat->fe}{f D:Array Å}{u:ç}{I:Option (Nat×Nat)}
def iy(E:fS F)(x:fU)(G:GS)(dk:Nat->Nat):fS F:={E with M:=x,b:=G,I:=dk}
structure iV(E:fS F)(x:fU)(C:Nat->Nat):Prop where
 r:x.sp F.n=E.r
 C:∀j,j+2<=E.r->C j=E.I j
def A7{x:fU}{G:GS}{d:Nat->Nat}(a:iV E x d):(iy E x G d).Y=E.Y:=by have e:(iy E x G d).r=E.r:=a.r;funext b;unfold fS.Y;rw[e];refine propext<|or_congr Iff.rfl<|or_congr Iff.rfl ⟨λ⟨j,c,f⟩=>⟨j,c,f.trans<|a.C j c⟩,λ⟨j,c,f⟩=>⟨j,c,f.trans (a.C j c).symm⟩⟩
def iG.G(L:iG F E m i w){x:fU}{G:GS}{d:Nat->Nat}(a:iV E x d):iG F (iy E x G d) m i w:=by have e:(fv.iy E x G d).r=E.r:=a.r;exact⟨L.gS,λy f=>L.o y Z,λh=>L.lO Z,λh=>L.e Z,λh=>L.f Z,λj h=>L.h j Z,λj h=>L.l j Z,L.S,λc g=>L.M c (g.imp id λ⟨y,f,b⟩=>⟨y,Z,b⟩),L.c,λk l b n=>by rw[A7 a];exact L.I k l b n,L.N,L.g,λj h=>L.d j Z⟩
def Wd.r{G:GS}(W:Wd F {E with b:=G,a:=E.a} w){x:fU}{dk:Nat->Nat}(a:iV E x dk)(c:x.my F.q=E.M.my F.q)(d:x.je F.n=E.M.je F.n):Wd F (iy E x G dk) w:=by
 have e:(fv.iy E x G dk).r=E.r:=a.r;refine⟨W.C,W.I,λj f=> ?_,W.M,W.S,λj f=>W.N j<|show j+2<=E.r by omega⟩;have b:j+2<=E.r:=Z
 have:=W.jG j b;show∃g s,w.heap[dk j]?=Ä (.chan F.q g (decide<|j<x.je F.n) s (E.C j).iL É)/\tP F.n j (x.my F.q) s/\_;rw[a.C j b,c,d];exact this
def QG{x:fU}{G:GS}{dk:Nat->Nat}(h:x.ad F.n=E.M.ad F.n):(iy E x G dk).G=E.G:=by
 funext y;show(if y<x.ad F.n then _ else _)=if y<E.M.ad F.n then _ else _
 rw[h];rfl
def Ps.iy(h:Ps F E){x:fU}{G:GS}{dk:Nat->Nat}(d:iV E x dk)(o:E.M.je F.n<=x.je F.n)(t:∀j,x=.go j\/x=.lA j\/x=.rd j\/x=.iD j->j<=F.n)(u:∀j,x=.lA j\/x=.rd j\/x=.iD j->1<=j)(v:∀r,(x=.iI r->r<=F.q)/\(x=.kQ r->r<=F.n)) (w:∀c f,G=.cl c f->c=Ñ (F.n+1) (fv.iy E x G dk).G/\f=x.gC) (z:∀f,G=.jE f->Ñ (F.n+1) (fv.iy E x G dk).G=0/\f=x.gC/\∃y,y<E.r/\E.g=Ä y/\(E.N y=Ä (.gf (.gy f))\/E.N y=Ä (.gf (.jb f)))) (B:∀r s,G=.gV r s->Ñ (F.n+1) (fv.iy E x G dk).G=0/\r+s=x.gC/\(0<r->∃y,y<E.r/\E.g=Ä y/\E.N y=Ä (.gf (.iA r)))) (C:∀y p,E.N y=Ä (.gf p)->(∀W,p=.gy W\/p=.jb W->E.g=Ä y/\G=.jE W)/\(∀r,p=.iA r->0<r/\E.g=Ä y/\∃s,G=.gV r s)) (D:x=.fy .gy\/x=.fy .kX\/x=.gf->Ñ (F.n+1) (fv.iy E x G dk).G=0) (H:x=.fy .gy->∃a b,G=.gV a b) (I:(∀p,x≠ .fy p)->x≠ .gf->∃c,G=.cl c 0):Ps F (fv.iy E x G dk):=by
 have e:(fv.iy E x G dk).r=E.r:=d.r;refine⟨h.v,t,u,v,λq=>h.J Z,h.I,λj q=>h.z j Z,λj r q=>h.d j r Z,λj q J=> ?_,h.f,λy q=>h.h y Z,λj g N O K=> ?_,λj q=> ?_,w,λf i=> ?_,λr s i=> ?_,C,D,h.e,h.Y,λj r q=>h.w j r Z,λj r q=>h.H j r Z,H,I,h.y,λj r q=>h.D j r Z⟩
 .let⟨a,b⟩:=h.l j Z J;exact⟨Ê a o,b⟩
 .have k:dk j=dk g:=K;rw[d.C j Z,d.C g Z]at k;exact h.M j g Z Z k
 .show¬F.M (dk j)/\dk j≠F.Y/\F.S<=dk j;rw[d.C j Z];exact h.o j Z
 .let⟨k,l,y,m,L⟩:=z f i;exact⟨k,l,y,Z,L⟩
 .let⟨k,l,m⟩:=B r s i;refine⟨k,l,λL=> ?_⟩;let⟨y,P,M⟩:=m L;exact⟨y,Z,M⟩
def Ps.r(h:Ps F E){x:fU}{dk:Nat->Nat}(d:iV E x dk)(g:E.M.je F.n<=x.je F.n)(i:x.ad F.n=E.M.ad F.n)(f:x.gC=E.M.gC)(k:∀j,x=.go j\/x=.lA j\/x=.rd j\/x=.iD j->j<=F.n)(l:∀j,x=.lA j\/x=.rd j\/x=.iD j->1<=j)(m:∀r,(x=.iI r->r<=F.q)/\(x=.kQ r->r<=F.n)) (o:x=.fy .gy\/x=.fy .kX\/x=.gf->Ñ (F.n+1) E.G=0) (s:x=.fy .gy->∃a b,E.b=.gV a b) (t:(∀p,x≠ .fy p)->x≠ .gf->∃c,E.b=.cl c 0):Ps F (fv.iy E x E.b dk):=by
 have e:=QG (E:=E) (G:=E.b) (dk:=dk) i;refine h.iy d g k l m ?_ ?_ ?_ h.N ?_ s t
 .rw[e,f];exact h.t
 .rw[e,f];exact h.g
 .rw[e,f];exact h.u
 .rwa[e]
def qK.iy(h:qK F E S d o)(ok:F.Ok){x:fU}{G:GS}{dk:Nat->Nat}{T:gu}(a:iV E x dk):qK F (fv.iy E x G dk) (fw S 0<|JM F dk x) (fw d 0 T) (fw o 0<|kM x):=by have:=ok.r;have e:(fv.iy E x G dk).r=E.r:=a.r;refine⟨by rw[gB,gB];exact⟨U,U⟩,λc b=>by rw[fI S _ Z,fI o _ Z];exact h.Y Z b,λj c b=> ?_,λy f c b=>by rw[fI S _ Z,fI o _ Z,fI d _ Z];exact h.C y f Z b,λi c b=>by rw[fI S _ Z,fI o _ Z,fI d _ Z];exact h.r i c b⟩;rw[fI S _ Z,fI o _ Z];show _=JW F (dk j) j (E.C j)/\_=kW F (dk j) (E.C j);rw[a.C j Z];exact h.I j Z b
def rH{x:fU}{G:GS}{dk:Nat->Nat}{T:gu}(h:x.rk F<E.M.rk F):pe F.N ((iy E x G dk).mu (fw d 0 T) D) (E.mu d f):=by refine Hq (by unfold Ph.N;omega) (À ?_) λk a=>yK (λh=>absurd h a) (λ_ _=>rfl) (λ_=>rfl) (λ_ _=>rfl) (λ_ _=>rfl)<|fI d _ a;rwa[EF,EF]
def Yd:E.ln 0=match E.M with|.fy p=>p.ln F.B E.b.st|_=>0:=by unfold fS.ln;rw[if_pos U]<;>cases E.M<;>rfl
def ahh{p a:SP}(b:E.M=.fy (.lV p))(g:d 0=.fB)(h:a.rk F.B E.b.st<p.rk F.B E.b.st):pe F.N ((iy E (.fy (.lV a)) E.b E.I).mu (fw d 0 .fB) D) (E.mu d f):=by
 refine XM (i:=0) (λk _=> ?_) (by unfold Ph.N;omega) ?_ λk c=> ?_
 .by_cases e:k=0
  .subst e;rw[EF,EF,gB,b,g];rfl
  .exact yK (λh=>absurd h e) (λ_ _=>rfl) (λ_=>rfl) (λ_ _=>rfl) (λ_ _=>rfl)<|fI d _ e
 .rwa[Yd,Yd,b]
 .unfold fS.ln;rw[if_neg c,if_neg c];rfl
def PI.sS(p:PI F b zX E S d o m f w qJ)(c:f[0]?=Ä g)(e:g.status=Æ)(h:d 0=.fB):∀a,fH (m 0) (m 0).w a->JM F E.I E.M {m 0 with w:=a} g:=by
 let⟨i,j⟩:=p.h;have k:o 0=.no\/o 0=.iA:=by
  rw[j];cases E.M with
  |fy v=>cases v<;>first|exact À U|exact Á U
  |_=>exact À U
 intro a r;have:=p.I.N c e h k a r;rwa[i]at this
def yY(ok:F.Ok):∀x,E.iu x->0=F.L+x->False:=λx _ e=>by have:=ok.r;omega
def PI.yZ(H:gQ F)(p:PI F b zX E S d o m f w qJ){x:fU}{G:GS}{dk:Nat->Nat}{c:Å}{T:gu}(a:iV E x dk)(J:Ŝ F.P (ò f w I) 0=(Ģ<|ò D W I,u))(t:D.size=f.size)(K:D[0]?=Ä c)(L:c.status=Æ\/c.status=ë)(M:∀k,k≠0->D[k]?=f[k]?.map (Ą F.P g c W))(O:∀j,j+2<=E.r->W.heap[E.I j]?=w.heap[E.I j]?) (Q:gL F.P F.S E.Y (fw S 0<|JM F dk x) (fw d 0 T) (fw o 0<|kM x) (gq m 0 {m 0 with w:=W}) D W (qJ++u)) (X:TI F.toFx b zX E.r E.S.rl E.V E.e E.d E.iu E.f (qJ++u)) (q7:iG F E (gq m 0 {m 0 with w:=W}) D.size W) (hW:Wd F (iy E x G dk) W) (hP:Ps F (iy E x G dk)) (xa:pe F.N ((iy E x G dk).mu (fw d 0 T) D) (E.mu d f)) (hxf:x=.gf->E.M=.gf):jY F b zX E d f w qJ I 0:=by
 have e:(iy E x G dk).r=E.r:=a.r;refine⟨iy E x G dk,_,_,_,_,D,W,u,J,t,hxf,.r (p.N.iy H.C a) (by rw[e];exact t.trans p.b) (by rwa[A7 a]) (q7.G a) hW hP (by rwa[e]) ?_ λq i n h l=>(p.f q i Z h l).app u,xa⟩;intro k y h l;by_cases n:k=0
 .subst n;rw[K]at h;obtain rfl:=Ã h;rcases L with q|q<;>rw[q]at l<;>cases l
 .rw[M k n]at h;obtain⟨z,hz,rfl⟩:=Ú.1 h;let⟨_,hzb⟩:=Hp l;rcases p.c k z hz hzb with⟨h1,_⟩|⟨j,v,B,C,q|⟨r,cap,s,i,q,h4⟩⟩
  .exact absurd h1 n
  .exact Á ⟨j,Z,B,C,À q⟩
  .refine Á ⟨j,Z,B,C,Á ⟨r,cap,s,i,q,?_⟩⟩;show W.heap[dk j]?=_;rwa[a.C j v,O j v]
def PI.Lq(H:gQ F)(p:PI F b zX E S d o m f w qJ){x:fU}{h:Nat->Nat}{T:gu}(c:iV E x h)(t:f[0]?=Ä g)(D:g.status=Æ)(hF:kV F.P Î (JM F h x) T {m 0 with w:=w} g)(u:x.my F.q=E.M.my F.q)(l:x.je F.n=E.M.je F.n)(J:Ps F (iy E x E.b h))(L:pe F.N ((iy E x E.b h).mu (fw d 0 T) f) (E.mu d f))(M:x=.gf->E.M=.gf):rE F b zX E d f w qJ:=by
 have v:=iJ t;have C:=p.I.r;have e:(iy E x E.b h).r=E.r:=c.r;have O:iQ F.S (λi=>i<f.size) E.Y (gq m 0 {m 0 with w:=w}) w qJ:=C.C v (λ_ q=>q) (λa q=>À<|Á q) (λ_ q=>q) (λa q=>À<|Á q) U U U (C.m _ v)<|C.g _ v;have Q:=p.I.M (K:=kM x) t (À D) O hF;refine⟨iy E x E.b h,_,_,_,_,M,.r (p.N.iy H.C c) (by rw[e];exact p.b) (by rwa[A7 c]) ((p.a.C<|Ç _).G c) (Wd.r p.M c u l) J (by rw[e];exact p.d) (λk y a i=> ?_) λj z G s B=>p.f j z Z s B,L⟩;by_cases G:k=0
 .subst G;rw[t]at a;obtain rfl:=Ã a;rw[D]at i;cases i
 .rcases p.c k y a i with⟨u,_⟩|⟨j,V,I,l,B|⟨r,W,s,z,B,X⟩⟩
  .exact absurd u G
  .exact Á ⟨j,Z,I,l,À B⟩
  .refine Á ⟨j,Z,I,l,Á ⟨r,W,s,z,B,?_⟩⟩;show w.heap[h j]?=_;rwa[c.C j V]
def mL{x:fU}(h:x.sp F.n=E.M.sp F.n):iV E x E.I:=⟨h,λ_ _=>rfl⟩
def nu:F.M F.C:=À U
def PI.ahi(H:gQ F)(p:PI F b zX E S d o m f w qJ)(k:f[0]?=Ä g)(l:g.status=Æ)(s:d 0=.fB)(e:E.M=.lA j):rE F b zX E d f w qJ:=by
 have i:=p.sS k l s w<|p.I.r.r _<|iJ k;rw[e]at i;let⟨c,i⟩:=i;have t:E.r=j:=by unfold fS.r;rw[e];rfl
 have a:iV E (.go j) (fw E.I (j-1) c):=⟨t.symm,λn h=>fI _ _ Z⟩;refine p.Lq H (T:=.fB) a k l (λr q=>H.Hn _ _ _ _ _ i q) (by rw[e];rfl) (by rw[e];rfl) (p.C.r a (by rw[e];exact Ç _) (by rw[e];rfl) (by rw[e];rfl) (λn h=> ?_) (λn h=> ?_) (λr=>⟨λh=>(by cases h),λh=>(by cases h)⟩) (λh=>by rcases h with h|h|h<;>cases h) (λh=>by cases h) λ_ _=>p.C.S (λv q=>by rw[e]at q;cases q) λq=>by rw[e]at q;cases q) (rH<|by rw[e];simp only[fU.rk];omega) λh=>by cases h
 .rcases h with h|h|h|h<;>cases h;exact p.C.C j<|Á<|À e
 .rcases h with h|h|h<;>cases h
def PI.ahj(H:gQ F)(p:PI F b zX E S d o m f w qJ)(k:f[0]?=Ä g)(t:g.status=Æ)(u:d 0=.fB)(i:E.M=.rd j):jY F b zX E d f w qJ I 0:=by
 have n:=p.sS k t u w<|p.I.r.r _<|iJ k;rw[i]at n;let⟨Q,_,V,z,s⟩:=n;have B:E.r=j:=by unfold fS.r;rw[i];rfl
 have a:iV E (.lA j) E.I:=⟨B.symm,λ_ _=>rfl⟩;let⟨C,G,J⟩:=Qp H p nu (À U) (À U) (À ⟨U,U⟩) λx c e=>yY H.C x c e;let⟨T,x⟩:=jj s;have e:=lB (λl g ⟨c,h⟩=>À<|H.I _ _ _ _ h) s;obtain⟨D,y,c,l,K,L,M,N,O,P⟩:=p.AY H (kM<|.lA j) k (z w) fj fj C G x e;refine p.yZ H a K L M e N (λ_ _=>rfl) O (J y c l) P (Wd.r p.M a (by rw[i];rfl)<|by rw[i];rfl) (p.C.r a (by rw[i];exact Ç _) (by rw[i];rfl) (by rw[i];rfl) (λq h=> ?_) (λq h=> ?_) (λr=>⟨λh=>(by cases h),λh=>(by cases h)⟩) (λh=>by rcases h with h|h|h<;>cases h) (λh=>by cases h) λ_ _=>p.C.S (λv q=>by rw[i]at q;cases q) λq=>by rw[i]at q;cases q) (rH<|by rw[i];simp only[fU.rk];omega) λh=>by cases h
 .rcases h with h|h|h|h<;>cases h;exact p.C.C j<|Á<|Á<|À i
 .rcases h with h|h|h<;>cases h;exact p.C.K j<|Á<|À i
end
section
variable{F:Ph}{E I:fS F}{S:Nat->Jd}{m K:Nat->gu}{z:Nat->iz}{o:Nat->fe}{d B:Array Å}{u:ç}{C:Option (Nat×Nat)}
def ahk(y:Nat):E.G y<=1:=by
 unfold fS.G;split
 .cases E.N y with
  |none=>exact Ç _
  |some e=>cases e with
   |oE=>exact Ç _
   |gf p=>cases p<;>simp[lW,ij.kI,jF.kI]
   |jr N=>simp[lW,ij.kI]
 .omega
def Ye(v:Int):kz F.C w (w.setCell (fM F.C)<|é Ô v):=Á ⟨_,_,À U,U⟩
def QH(H:gQ F)(p:PI F n zX E S m z o d w qJ)(h:kz F.C w W){G:GS}(a:hD W F.C G):Wd F {E with b:=G,a:=E.a} W:= h.I H p.a p.C p.M nu (Ga:=G) (Gg:=E.a) ⟨λ_=>a,λe=>absurd U e⟩ λb c=>⟨λe=>absurd e.symm<|H.C.M b c,λ_=>rfl⟩
def QI(H:gQ F)(p:PI F n zX E S m z o d w qJ)(h:kz F.C w W)(c:i<d.size):fH {o i with w:=w} w W:=by have D:=h.r p.a H.C nu;exact⟨Ö D.r.symm,λb f=>D.jR b<|p.I.r.I _ c b f,λa e=>D.M _ c a e,λa e=>D.N _ c a e,λa _=>D.I a⟩
def za{l:fe}{b:Ð}(r:fH {l with w:=W} jX b):fH l jX b:=⟨r.r,r.I,r.N,r.Y,r.S⟩
def PI.ahl(H:gQ F)(p:PI F n zX E S m z o d w qJ)(D:d[0]?=Ä g)(iH:g.status=Æ)(ht:m 0=.fB)(a:E.M=.iD j):jY F n zX E m d w qJ C 0:=by
 have O:=iJ D;have Q:=p.sS D iH ht w<|p.I.r.r _ O;rw[a]at Q;let⟨hd,_,hA⟩:=Q;have hj:=p.C.C j<|Á<|Á<|Á a;have hj1:=p.C.K j<|Á<|Á a;have oC:E.r=j:=by unfold fS.r;rw[a];rfl
 have EK:=H.C.fX;let⟨c,G⟩:=p.C.S (λv q=>by rw[a]at q;cases q) (λq=>by rw[a]at q;cases q);let⟨yU,_⟩:=p.C.t c 0 G;have hcn:c<=F.n+1:=by rw[yU];exact Hv ahk
 have I:=G▸p.M.C;let⟨hv,J⟩:=I.af7 Z;have K:=hA (GS.cl c 0).st;rw[hv]at K J;obtain⟨b,V⟩:∃b,(GS.cl (c+1) 0).st=b:=⟨_,U⟩;rw[V]at K J;let⟨L,h1,k⟩:=K;have xd:=h1 w I.C I.I;have t:=Ye (F:=F) (w:=w) b;have xf:=QI H p t O;have M:b=(c+1:Int)*fY:=by rw[<-V];simp only[GS.st,fY];omega
 obtain⟨x,v,N⟩:∃x:fU,(x=.rd j\/x=.lA j)/\fi F.P Î (JM F E.I x) {o 0 with w:=w} L:=by
  by_cases l:c=0
  .have e:b=fY:=by rw[M,l];simp[fY]
   simp only[if_pos e]at k;exact⟨.rd j,À U,k⟩
  .have r:¬b=fY:=by simp only[fY]at M|-;omega
   have s:fY<b/\b<1000000*fY/\b%fY=0:=by simp only[fY]at M|-;omega
   simp only[if_neg r,if_pos s]at k;exact⟨.lA j,Á U,k⟩
 let⟨T,hT⟩:=jj<|N.jL xf;have X:L.status=Æ\/L.status=ë:=by
  rcases v with rfl|rfl
  .exact lB (λl g h=>À h.2.1) N
  .exact lB (λl g ⟨c,h⟩=>À<|H.I _ _ _ _ h) N
 obtain⟨B,u,q1,q2,q3,q4,q5,q6,q7⟩:=p.Y H (kM x) D (À U) nu xd t (AR nu) U (λx l e=>(yY H.C x l e).elim) hT X;have l:x.ad F.n=j+1:=by rcases v with rfl|rfl<;>rfl
 have Y:E.M.ad F.n=j:=by rw[a];rfl
 have tY:x.sp F.n=j:=by rcases v with rfl|rfl<;>rfl
 have hxr:x.gC=0:=by rcases v with rfl|rfl<;>rfl
 have e:iV E x E.I:=⟨tY.trans oC.symm,λ_ _=>rfl⟩;have sQ:Ñ (F.n+1) (iy E x (.cl (c+1) 0) E.I).G=c+1:=by
  have h:=w7 (f:=E.G) (f':=(iy E x (.cl (c+1) 0) E.I).G) (j:=j) (n:=F.n+1) Z (λi y=>by
   show(if i<x.ad F.n then lW (E.N i)else 0)=if i<E.M.ad F.n then lW (E.N i)else 0
   rw[l,Y];by_cases q:i<j
   .rw[if_pos q,if_pos Z]
   .rw[if_neg q,if_neg Z])
  have r:E.G j=0:=by unfold fS.G;rw[Y,if_neg Z]
  have s:(iy E x (.cl (c+1) 0) E.I).G j=1:=by show(if j<x.ad F.n then lW (E.N j)else 0)=1;rw[l,if_pos Z,p.C.h j Z];rfl
  rw[r,s]at h;omega
 refine p.yZ H e q1 q2 q3 X q4 (λr s=>t.C p.C nu s) q5 q6 q7 (Wd.r (QH H p t J) e (by rw[a];rcases v with rfl|rfl<;>rfl) (by rw[a];rcases v with rfl|rfl<;>rfl)) (p.C.iy e (by rw[a];exact ô _) (λr h=> ?_) (λr h=> ?_) (λr=>⟨λh=> ?_,λh=> ?_⟩) (λi s h=> ?_) (λs h=>by cases h) (λr s h=>by cases h) (λy i h=> ?_) (λh=> ?_) (λh=> ?_) λ_ _=>⟨_,rfl⟩) (rH (by rw[a];rcases v with rfl|rfl<;>simp only[fU.rk]<;>omega)) (λh=>by rcases v with rfl|rfl<;>cases h)
 .rcases v with rfl|rfl<;>rcases h with h|h|h|h<;>cases h<;>exact hj
 .rcases v with rfl|rfl<;>rcases h with h|h|h<;>cases h<;>exact hj1
 .rcases v with rfl|rfl<;>cases h
 .rcases v with rfl|rfl<;>cases h
 .cases h;exact⟨sQ.symm,hxr.symm⟩
 .have:=p.C.N y i h;rw[G]at this;exact⟨λW q=>(by have:=(this.1 W q).2;cases this),λr hr=>(by let⟨_,_,s,h⟩:=this.2 r hr;cases h)⟩
 .rcases v with rfl|rfl<;>rcases h with h|h|h<;>cases h
 .rcases v with rfl|rfl<;>cases h
def PI.ahm(H:gQ F)(p:PI F n zX E S m z o d w qJ)(c:d[0]?=Ä g)(e:g.status=Æ)(i:m 0=.fB)(b:E.M=.iI 0):rE F n zX E m d w qJ:=by
 have f:=p.sS c e i;rw[b]at f;have a:iV E (.kQ F.n) E.I:=mL (by rw[b];rfl);refine p.Lq H (T:=.fB) a c e (λh q=>f h<|(p.I.r.r _<|iJ c).fg<|za q) (by rw[b];simp[fU.my]) (by rw[b];simp[fU.je]) (p.C.r a (by rw[b];exact ô _) (by rw[b];rfl) (by rw[b];rfl) (λq h=> ?_) (λq h=> ?_) (λr=>⟨λh=>(by cases h),λh=> ?_⟩) (λh=>by rcases h with h|h|h<;>cases h) (λh=>by cases h) λ_ _=>p.C.S (λv q=>by rw[b]at q;cases q) λq=>by rw[b]at q;cases q) (rH<|by rw[b];simp only[fU.rk];omega) λh=>by cases h
 .rcases h with h|h|h|h<;>cases h
 .rcases h with h|h|h<;>cases h
 .cases h;exact Ç _
def PI.ahn(H:gQ F)(p:PI F n zX E S m z o d w qJ)(c:d[0]?=Ä g)(e:g.status=Æ)(i:m 0=.fB)(b:E.M=.kQ 0):rE F n zX E m d w qJ:=by
 have f:=p.sS c e i;rw[b]at f;have a:iV E (.fy .iW) E.I:=mL (by rw[b];rfl);refine p.Lq H (T:=.fB) a c e (λh r=>f h<|(p.I.r.r _<|iJ c).fg<|za r) (by rw[b];rfl) (by rw[b];simp[fU.je]) (p.C.r a (by rw[b];simp[fU.je]) (by rw[b];rfl) (by rw[b];rfl) (λr h=> ?_) (λr h=> ?_) (λr=>⟨λh=>(by cases h),λh=>(by cases h)⟩) (λh=>by rcases h with h|h|h<;>cases h) (λh=>by cases h) λh _=>absurd rfl<|h _) (rH<|by rw[b];simp only[fU.rk,jk.rk];omega) λh=>by cases h
 .rcases h with h|h|h|h<;>cases h
 .rcases h with h|h|h<;>cases h
def A8{v:jk}:∀j,(fU.fy v=.go j\/fU.fy v=.lA j\/fU.fy v=.rd j\/fU.fy v=.iD j)->j<=F.n:=λj h=>by rcases h with h|h|h|h<;>cases h
def A9{v:jk}:∀j,(fU.fy v=.lA j\/fU.fy v=.rd j\/fU.fy v=.iD j)->1<=j:=λj h=>by rcases h with h|h|h<;>cases h
def Ba{v:jk}:∀r,(fU.fy v=.iI r->r<=F.q)/\(fU.fy v=.kQ r->r<=F.n):=λr=>⟨λh=>(by cases h),λh=>(by cases h)⟩
def PI.aho(H:gQ F)(p:PI F n zX E S m z o d w qJ)(c:d[0]?=Ä g)(e:g.status=Æ)(i:m 0=.fB)(b:E.M=.fy .iW):rE F n zX E m d w qJ:=by have f:=p.sS c e i w<|p.I.r.r _<|iJ c;rw[b]at f;let⟨k,q,j,l⟩:=f;have a:iV E (.fy (.lV (.gd k))) E.I:=mL (by rw[b];rfl);exact p.Lq H (T:=.fB) a c e (λr h=>⟨j,KU l h⟩) (by rw[b];rfl) (by rw[b];rfl) (p.C.r a (by rw[b];exact Ç _) (by rw[b];rfl) (by rw[b];rfl) A8 A9 Ba (λh=>by rcases h with h|h|h<;>cases h) (λh=>by cases h) λh _=>absurd rfl<|h _) (rH<|by rw[b];simp only[fU.rk,jk.rk];omega) λh=>by cases h
def PI.ahp(H:gQ F)(p:PI F n zX E S m z o d w qJ){v:SP}(k:d[0]?=Ä g)(iH:g.status=Æ)(ht:m 0=.fB)(b:E.M=.fy (.lV v)):jY F n zX E m d w qJ C 0:=by
 have gJ:=iJ k;have hJ:=p.sS k iH ht w<|p.I.r.r _ gJ;rw[b]at hJ;obtain⟨hd,Y⟩:=hJ;have hG:=p.M.C;obtain⟨_,Y⟩:=XP Y hG;have nk:E.M.je F.n<=F.n:=by rw[b];exact Ç _
 rcases Y with⟨q,g',es,j,f,Q,h4⟩|⟨g',j,f,Q⟩|⟨g',c,i,t,tU,j,f⟩
 .have r:∀e∈es,tT F.toFx e:=by
   rcases f with rfl|rfl
   .intro e W;simp at W
   .exact yM nu
  obtain⟨s,W,l⟩:=Q;obtain⟨B,u,D,I,K,L,M,N,O⟩:=p.Y (J:=JM F E.I<|.fy (.lV q)) (T:=.fB) H (kM<|.fy (.lV q)) k (À U) nu j (À U) r (by rcases f with rfl|rfl<;>rfl) (λx y e=>(yY H.C x y e).elim) (λh a=>⟨hd,KU ⟨s,W,l⟩ a⟩)<|À (l _ _ W).1;have a:iV E (.fy (.lV q)) E.I:=mL (by rw[b];rfl);exact p.yZ H a D I K (À (l _ _ W).1) L (λ_ _=>rfl) M N O (Wd.r p.M a (by rw[b];rfl)<|by rw[b];rfl) (p.C.r a nk (by rw[b];rfl) (by rw[b];rfl) A8 A9 Ba (λh=>by rcases h with h|h|h<;>cases h) (λh=>by cases h) λh _=>absurd rfl<|h _) (ahh b ht h4) λh=>by cases h
 .obtain⟨T,hT⟩:=jj Q;have P:=lB (λl g h=>À h.2.1) Q;obtain⟨B,u,D,I,K,L,M,N,O⟩:=p.Y H (kM<|.fy .kX) k (À U) nu j (À U) (yM nu) U (λx y e=>(yY H.C x y e).elim) hT P;have a:iV E (.fy .kX) E.I:=mL (by rw[b];rfl);refine p.yZ H a D I K P L (λ_ _=>rfl) M N O (Wd.r p.M a (by rw[b];rfl)<|by rw[b];rfl) (p.C.r a nk (by rw[b];rfl) (by rw[b];rfl) A8 A9 Ba (λ_=> ?_) (λh=>by cases h) λh _=>absurd rfl<|h _) (rH<|by rw[b];simp only[fU.rk,jk.rk];omega) (λh=>by cases h);cases W:E.b with
  |cl c i=>have:=f c i W;have:=(p.C.t c i W).1;omega
  |jE i=>exact(p.C.g i W).1
  |gV r s=>exact(p.C.u r s W).1
 .obtain⟨e1,V⟩:=p.C.t c i t;rw[b]at V;have V:i=0:=V;subst V;obtain⟨hv,xb⟩:=(t▸hG).Xx tU Z;rw[t,hv]at j;rw[hv]at xb;rw[t]at f;have e:(GS.cl c 0).st%fY=0:=by simp only[GS.st,fY];omega
  simp only[e,if_true]at f;have X:=Ye (F:=F) (w:=w) (GS.cl c<|0+1).st;obtain⟨T,hT⟩:=jj<|f.jL<|QI H p X gJ;have P:=lB (λl g h=>À h.2.1) f;obtain⟨B,u,D,I,K,L,M,N,O⟩:=p.Y H (kM<|.fy .wr) k (À U) nu j X (AR nu) U (λx y e=>(yY H.C x y e).elim) hT P;have a:iV E (.fy .wr) E.I:=mL (by rw[b];rfl);refine p.yZ H a D I K P L (λl W=>X.C p.C nu W) M N O (Wd.r (QH H p X xb) a (by rw[b];rfl)<|by rw[b];rfl) (p.C.iy a nk A8 A9 Ba (λW i h=> ?_) (λi h=>by cases h) (λr s h=>by cases h) (λy q h=> ?_) (λh=>by rcases h with h|h|h<;>cases h) (λh=>by cases h) λh _=>absurd rfl<|h _) (rH<|by rw[b];simp only[fU.rk,jk.rk];omega) λh=>by cases h
  .rw[(QG (E:=E) (x:=.fy .wr) (G:=.cl c (0+1)) (dk:=E.I)<|by rw[b];rfl)];cases h;exact⟨e1,U⟩
  .have:=p.C.N y q h;rw[t]at this;exact⟨λW l=>(by have:=(this.1 W l).2;cases this),λr hr=>(by obtain⟨_,_,s,h⟩:=this.2 r hr;cases h)⟩
def PI.ahq(H:gQ F)(p:PI F n zX E S m z o d w qJ)(c:d[0]?=Ä g)(j:g.status=Æ)(k:m 0=.fB)(b:E.M=.fy .wr):jY F n zX E m d w qJ C 0:=by have f:=p.sS c j k w<|p.I.r.r _<|iJ c;rw[b]at f;let⟨L,_,M,q,i⟩:=f;have a:iV E (.fy .kv) E.I:=mL (by rw[b];rfl);let⟨r,s,t⟩:=Qp H p nu (À U) (Á U) (À ⟨U,U⟩) λx h e=>yY H.C x h e;let⟨T,x⟩:=jj i;have e:=lB (λl g h=>À h.2.1) i;obtain⟨B,y,l,u,v,D,G,I,J,K⟩:=p.AY H (kM<|.fy .kv) c (q w) fj fj r s x e;exact p.yZ H a v D G e I (λ_ _=>rfl) J (t y l u) K (Wd.r p.M a (by rw[b];rfl)<|by rw[b];rfl) (p.C.r a (by rw[b];exact Ç _) (by rw[b];rfl) (by rw[b];rfl) A8 A9 Ba (λh=>by rcases h with h|h|h<;>cases h) (λh=>by cases h) λh _=>absurd rfl<|h _) (rH<|by rw[b];simp only[fU.rk,jk.rk];omega) λh=>by cases h
def PI.ahr(H:gQ F)(p:PI F n zX E S m z o d w qJ)(i:d[0]?=Ä g)(s:g.status=Æ)(t:m 0=.fB)(f:E.M=.fy .gy):jY F n zX E m d w qJ C 0:=by have k:=p.sS i s t w<|p.I.r.r _<|iJ i;rw[f]at k;let⟨P,_,v⟩:=k;let⟨a,b,y⟩:=p.C.O f;have q:=p.M.C;rw[y]at q;let⟨Q,D,j⟩:=v 0;simp only[if_true]at j;have c:iV E (.fy .kX) E.I:=mL (by rw[f];rfl);let⟨T,G⟩:=jj j;have r:=lB (λl g h=>À h.2.1) j;obtain⟨B,u,l,I,J,K,L,M,N⟩:=p.Y H (kM<|.fy .kX) i (À U) nu (D w q.C) (À U) (yM nu) U (λx O e=>(yY H.C x O e).elim) G r;exact p.yZ H c l I J r K (λ_ _=>rfl) L M N (Wd.r p.M c (by rw[f];rfl)<|by rw[f];rfl) (p.C.r c (by rw[f];exact Ç _) (by rw[f];rfl) (by rw[f];rfl) A8 A9 Ba (λ_=>p.C.B<|À f) (λh=>by cases h) λh _=>absurd rfl<|h _) (rH<|by rw[f];simp only[fU.rk,jk.rk];omega) λh=>by cases h
theorem PI.ahs(H:gQ F)(p:PI F n zX E S m z o d w qJ){g:Å}(f:d[0]?=Ä g)(j:g.status=Æ)(J:m 0=.fB)(b:E.M=.fy .kv):jY F n zX E m d w qJ C 0:=by
 have K:=iJ f;have L:=p.sS f j J w<|p.I.r.r _ K;rw[b]at L;obtain⟨hd,_,M,Qr,g',h1,O⟩:=L;have Q:=p.M.C;by_cases q:E.b.sm=0
 .have s:=Q.M;rw[q]at s;obtain⟨T,l⟩:=p.h;rw[b]at T l;obtain⟨B,v,c,t,D⟩:=PV f<|Qr w s;have V:∀x,Ą F.P g {g with status:=Þ} w x=x:=by
   intro x;unfold Ą;rw[if_neg fj]
  have r:∀k,k≠0->B[k]?=d[k]?:=by
   intro k a;rw[D k a];cases d[k]? with
   |none=>rfl
   |some x=>simp[V]
  have W:gL F.P F.S E.Y S m z o B w (qJ++#[]):=by
   rw[Û];obtain⟨g0,X,I,f3,f4⟩:=p.I.C _ g f;have hg:g=g0:=by
    rw[l]at I;cases I with
    |gk=>rfl
    |nT h M=>cases j
   subst hg;refine⟨?_,λk y a=> ?_,λk a=>p.I.I k<|by rwa[<-c]⟩
   .rw[show(λi=>i<B.size)=(λi=>i<d.size) by rw[c]];exact p.I.r
   .by_cases e:k=0
    .subst e;rw[t]at a;obtain rfl:=Ã a;refine⟨g,X,?_,À j,Á J⟩;rw[l];exact .nT j M
    .rw[r k e]at a;exact p.I.C k y a
  refine⟨E,S,m,z,o,B,w,#[],v,c,λh=>h,.r p.N (c.trans p.b) W (by rw[c];exact p.a) p.M p.C (by rw[Û];exact p.d) (λk y a i=> ?_) (by rw[Û];exact p.f),Qi (λ_ _=>rfl) (by unfold Ph.N;omega) (by rw[EN f,if_pos j]) (by rw[EN t,if_neg fj]) λk a=>Qq<|r k a⟩;by_cases e:k=0
  .subst e;exact À ⟨U,b,q⟩
  .rw[r k e]at a;exact p.c k y a i
 .obtain⟨a,s,k⟩:=XU q;have I:=k▸Q;have xd:=h1 w _ (by simp only[GS.sm];omega) I.M I.N;have i:kz F.C w (w.setCell (gP F.C)<|é è<|(GS.gV a<|s+1).sm-1):=Á ⟨_,_,Á U,U⟩;obtain⟨T,hT⟩:=jj<|O.jL<|QI H p i K;have V:=lB (λl g h=>À h.2.1) O;obtain⟨B,u,v,c,t,D,q5,q6,q7⟩:=p.Y H (kM<|.fy .gy) f (À U) nu xd i (Hs nu) (Ht _).2.2.2 (λx l e=>(yY H.C x l e).elim) hT V;obtain⟨X,l,b3⟩:=p.C.u a (s+1) k;rw[b]at l;have l:a+(s+1)=1:=l;have ha:a=0:=Z
  have hs0:s=0:=Z
  subst ha hs0;have e:iV E (.fy .gy) E.I:=mL (by rw[b];rfl);have eo:=QG (E:=E) (x:=.fy .gy) (G:=.gV 0 0) (dk:=E.I) (by rw[b];rfl);refine p.yZ H e v c t V D (λW r=>i.C p.C nu r) q5 q6 q7 (Wd.r (QH H p i I.kv) e (by rw[b];rfl)<|by rw[b];rfl) (p.C.iy e (by rw[b];exact Ç _) A8 A9 Ba (λW r h=>by cases h) (λr h=>by cases h) (λr s h=> ?_) (λy p' h=> ?_) (λ_=>by rwa[eo]) (λ_=>⟨0,0,U⟩) λh _=>absurd U<|h _) (rH<|by rw[b];simp only[fU.rk,jk.rk];omega) λh=>by cases h
  .rw[eo];cases h;exact⟨X,U,λh=>by omega⟩
  .have:=p.C.N y p' h;rw[k]at this;exact⟨λW hW=>(by have:=(this.1 W hW).2;cases this),λr hr=>(by obtain⟨q,_,s,h⟩:=this.2 r hr;injection h with h _;omega)⟩
end
section
variable{S:Nat->Jd}{a:Nat->gu}{d:Nat->iz}{f:Nat->fe}{b:Array Å}
def gL.aht(q:gL P i X S a d f b w qJ)(r:b[k]?=Ä g)(h:yA n É g):∃z,d k=.sN n z:=by
 let⟨l,u,v,j,s,m,y,t⟩:=h;let⟨g0,_,o,p,_⟩:=q.C k g r;generalize d k=K at o;cases o with
 |gk=>rw[l]at p;rcases p with e|e<;>cases e
 |nT h e=>simp only[e]at j;cases j
 |tM e z h=>
  simp only[Ň,Ŀ,Prod.mk.injEq]at j;rw[<-j.1]at m;have:s=Š e z:=by simpa using m
  subst this;have:e=n:=by simpa[Š]using t
  subst this;exact⟨z,U⟩
 |nn e z h=>cases l
def gL.Yf(m:gL P i X S a d f b w qJ){x:Å}(o:b[k]?=Ä x)(g:x.status=Þ)(p:d k=.sN n z):∃g0,x=Ň g0 #[Š n z] (.recv Î):=by
 let⟨g0,_,j,l,_⟩:=m.C k x o;rw[p]at j;cases j with
 |gk=>rw[g]at l;rcases l with e|e<;>cases e
 |tM _ _ h=>exact⟨g0,U⟩
 |nn _ _ h=>cases g
def ahu{g0:Å}:yA i É (Ň g0 #[Š i z]<|.recv Î):= ⟨U,_,_,U,Š i z,fj,U,by simp[Š]⟩
def ahv{g0:Å}{r:Nat}(h:w.heap[i]?=Ä (.chan n q Î j r yQ)):((Ň g0 #[Š i z]<|.recv Î).again w).status=Æ:=by unfold ĕ Ň;simp[Š,h]
def ahw(h:(g.again w).status=Þ):g.again w=g/\g.status=Þ:=by
 unfold ĕ at h|-;split at h
 .rename_i a b;simp only at h|-;split at h
  .cases h
  .rename_i c;simp only[a,b];exact⟨by rw[if_neg c],trivial⟩
 .cases h
 .cases h
 .rename_i a b c;exact⟨U,h⟩
end
section
variable{F:Ph}{E C:fS F}{S:Nat->Jd}{a D:Nat->gu}{d:Nat->iz}{f:Nat->fe}{b m:Array Å}{u:ç}{o:Option (Nat×Nat)}
def PI.Yg(p:PI F j zX E S a d f b w qJ){x:Å}(n:b[k]?=Ä x)(h:yA i É x):∃g,g+2<=E.r/\E.N (g+1)=Í/\k=F.L+1+g/\E.I g=i/\∃r,E.C g=.np r:=by
 let⟨z,l⟩:=p.I.aht n h;have s:=iJ n;by_cases o:k=0
 .subst o;rw[p.h.2]at l;revert l;cases E.M with
  |fy v=>cases v<;>intro h<;>cases h
  |_=>intro h;cases h
 by_cases q:k<F.L
 .rw[(p.l k Z q).2.2]at l;cases l
 have t:=p.b;obtain⟨y,rfl⟩:∃y,k=F.L+y:=⟨k-F.L,Z⟩;cases m:E.N y with
 |some e=>rw[(p.k y e Z m).2.1]at l;cases l
 |none=>
  cases y with
  |zero=>rw[ö,(p.m Z m).2]at l;cases l
  |succ g=>
   rw[show F.L+(g+1)=F.L+1+g by omega,(p.g g Z m).2]at l;cases e:E.C g with
   |np r=>
    rw[e]at l;injection l with l _;exact⟨g,Z,m,Z,l,r,e⟩
   |fy r v=>rw[e]at l;cases v<;>cases l
   |jI r=>rw[e]at l;cases l
   |nj r=>rw[e]at l;cases l
def Yh(h:tP n j i k)(d:1<=n)(a:j=i%n):i=j+k*n:=by
 have e:i=j+i/n*n:=by rw[a,Nat.mul_comm];exact(Nat.mod_add_div i n).symm
 have b:k=i/n:=by
  refine Nat.le_antisymm (ĉ λq=> ?_)<|ĉ λq=> ?_
  .have:=(h<|i/n).1 q;omega
  .have f:=mt (h k).2 Z;have c:(k+1)*n<=i/n*n:=Ē n q;rw[Ż]at c;omega
 rwa[b]
def Yi(h:tP n j i k)(b:1<=n)(c:j=i%n):tP n j (i+1) (k+1):=by
 have e:=Yh h b c;intro a;constructor
 .intro q;have:a*n<=k*n:=Ē n Z;omega
 .intro q;refine ó λd=> ?_;have:(k+1)*n<=a*n:=Ē n d;rw[Ż]at this;omega
def Yj(h:tP n j i k)(b:j<n)(c:j≠i%n):tP n j (i+1) k:=by
 intro a;rw[h a];constructor
 .omega
 .intro q;have:j+a*n≠i:=λe=>c (by rw[<-e,Ę,ň b]);omega
def PI.ahx(H:gQ F)(p:PI F j zX E S a d f b w qJ){r:Nat}(hi:b[0]?=Ä g)(iH:g.status=Æ)(ht:a 0=.fB)(D:E.M=.iI (r+1)):jY F j zX E a b w qJ o 0:=by
 have hn:=H.C.N;have Lf:=(p.C.L<|r+1).1 D;have oC:E.r=F.n+1:=by unfold fS.r;rw[D];rfl
 obtain⟨hs,hk⟩:=p.h;rw[D]at hs hk;obtain⟨Q,hQ⟩:∃Q,Q=F.q-(r+1):=⟨_,U⟩;obtain⟨c,hj⟩:∃c,c=Q%F.n:=⟨_,U⟩;have hs:S 0=AK F.P (0==0) (E.I c) (F.c Q) (Hm F E.I r):=by rw[hs,hj,hQ];rfl
 have yO:c<F.n:=by rw[hj];exact Θ _ hn
 have V:c+2<=E.r:=Z
 have hY:E.Y (E.I c):=Á<|Á ⟨c,V,U⟩;obtain⟨X,s,hc,tW,Lr,yR,yS⟩:=p.M.jG c V;have nk:decide (c<E.M.je F.n)=É:=by rw[D];simp[fU.je]
 rw[nk]at hc;have HA:E.M.my F.q=Q:=by rw[D,hQ];rfl
 rw[HA]at tW;have eQ:=Yh tW hn hj;have hsQ:s<=s*F.n:=å _ hn;have Yk:(fU.iI r).my F.q=Q+1:=by simp only[fU.my];omega
 have ER:=(p.I.r).N _ hY;have Yl:∀t,(fU.iI r=.go t\/fU.iI r=.lA t\/fU.iI r=.rd t\/fU.iI r=.iD t)->t<=F.n:=λt h=>by rcases h with h|h|h|h<;>cases h
 have Ym:∀t,(fU.iI r=.lA t\/fU.iI r=.rd t\/fU.iI r=.iD t)->1<=t:=λt h=>by rcases h with h|h|h<;>cases h
 have Yn:∀K,(fU.iI r=.iI K->K<=F.q)/\(fU.iI r=.kQ K->K<=F.n):=λK=>⟨λh=>(by cases h;omega),λh=>(by cases h)⟩;have aM:=p.C.S (λv q=>by rw[D]at q;cases q) (λq=>by rw[D]at q;cases q);by_cases hp:∃(k:Nat) (x:Å),b[k]?=Ä x/\yA (E.I c) É x
 .obtain⟨k,gj,Ez,mA⟩:=hp;obtain⟨t,oF,he,rfl,Bb,K,Bc⟩:=p.Yg Ez mA;have ej:=p.C.M _ _ oF V Bb;subst ej;have hb:=mA.1;obtain⟨KY,KX⟩:=p.g t oF he;rw[Bc]at KY KX;have ahy:S (F.L+1+t)=wU F.P (F.L+1+t==0) (E.I t) F.z λx=>match x with
   |some v=>λl g=>v=F.c (t+K*F.n)->qI F.P É F.B (F.I<|F.r<|t+K*F.n) (F.e (E.I t)<|t+K*F.n) .iW l g
   |none=>AO F:=by rw[yN H.C t];exact KY
  have lk:F.L+1+t≠0:=Z
  have P1:a (F.L+1+t)=.fB:=by obtain⟨g0,_,i,e,h4⟩:=p.I.C _ gj Ez;refine h4.resolve_left λq=> ?_;subst q;rw[hb]at e;rcases e with q|q<;>cases q
  have Qu:X=#[]:=by
   rcases p.c _ gj Ez hb with⟨h1,_⟩|⟨C,_,_,h2,⟨G,W,_⟩|⟨G,cap,i,e,W,h4⟩⟩
   .exact absurd h1 lk
   .have:C=t:=Z
    subst this;rw[Bc]at W;cases W
   .have:C=t:=Z
    subst this;rw[hc]at h4;injection h4 with h4;injection h4
  subst Qu;rw[Bc]at hc Lr yR;simp only[gM.iL]at hc Lr yR;have hsr:s=K:=by simp at yR;omega
  subst hsr;obtain⟨m,u,T,Tj,g',gj',q1,q2,q3,q4,q5,q6,q7,q8,q9⟩:=p.I.af3 hi hk ht hs hY hc lk Ez hb KX P1 ahy (kW F (E.I t)<|.fy s .iW) (λI O M e i=>by obtain⟨j3,a1,_,a3,y,_⟩:=p.Yg e i;have:=p.C.M _ _ a1 V y;omega);have Yo:=q9.kH (J:=JW F (E.I t) t<|.fy s .iW) (λl g h=>by rw[fI _ _ lk,gB]at h;exact h<|by rw[eQ]);have e10:fw (fw (fw S (F.L+1+t) ((match(Ä (F.c Q):Option ì)with
   |some v=>λl g=>v=F.c (t+s*F.n)->qI F.P É F.B (F.I<|F.r<|t+s*F.n) (F.e (E.I t)<|t+s*F.n) .iW l g
   |none=>AO F))) 0 (Hm F E.I r)) (F.L+1+t) (JW F (E.I t) t (.fy s .iW))=fw (fw S (F.L+1+t) (JW F (E.I t) t (.fy s .iW))) 0 (JM F E.I (.iI r)):=by
   funext k;by_cases v:k=F.L+1+t
   .subst v;rw[gB,fI _ _ lk,gB]
   .by_cases k2:k=0
    .subst k2;rw[fI _ _<|õ lk,gB,gB];rfl
    .rw[fI _ _ v,fI _ _ k2,fI _ _ v,fI _ _ k2,fI _ _ v]
  rw[e10]at Yo;have Pw:=p.C.G (x:=.fy s .iW) V he (λk=>by rw[Bc,Qo U];rfl) (λG h=>by rcases h with⟨_,h⟩|h|h<;>cases h;exact Z) (λG h=>by rcases h with h|h|h<;>cases h) (λG h=>by cases h) (λG h=>by cases h);have l:iV (gN E t<|.fy s .iW) (.iI r) E.I:=⟨by show _=E.M.sp F.n;rw[D];rfl,λ_ _=>rfl⟩;have e:(iy (gN E t<|.fy s .iW) (.iI r) E.b E.I).r=E.r:=l.r;obtain⟨z1,z2,z3,z4,z5⟩:=p.M.G H p.a p.C V;refine⟨iy (gN E t<|.fy s .iW) (.iI r) E.b E.I,_,_,_,_,m,_,u,q1,q2,(λh=>by have h:=h;cases h),.r ((p.N.N H.C V he).iy H.C l) (by rw[e];exact q2.trans p.b) (by rw[A7 l];exact Yo) ?_ ⟨z4,z5,λC xe=> ?_,z1,z2,λC xe G AH h1=> ?_⟩ (Pw.r l (by show E.M.je F.n<=_;rw[D];exact ô _) (by show _=E.M.ad F.n;rw[D];rfl) (by show _=E.M.gC;rw[D];rfl) Yl Ym Yn (λh=>by rcases h with h|h|h<;>cases h) (λh=>by cases h) λ_ _=>aM) (by rw[e];exact Lh p.d q8) (λk y M kR=> ?_) λC G a1 a2 a3=> ?_,?_⟩
  .rw[q2];exact(((p.a.r<|by rw[Bc];rfl).G l).EO<|Ö Hz.symm)
  .have tZ:C+2<=E.r:=Z
   show∃X I,(w.setChan (E.I t) _ _ _ _ _ _).heap[E.I C]?=Ä (.chan F.q X (decide<|C<(fU.iI r).je F.n) I ((gN E t<|.fy s .iW).C C).iL É)/\tP F.n C ((fU.iI r).my F.q) I/\((gN E t<|.fy s .iW).C C).iL<=I/\X.size=I-((gN E t<|.fy s .iW).C C).iL/\∀i,i<I-((gN E t<|.fy s .iW).C C).iL->X[i]?=Ä (F.c<|C+(((gN E t<|.fy s .iW).C C).iL+i)*F.n);rw[Yk];by_cases O:C=t
   .subst O;rw[jM];refine⟨#[],s+1,by rw[Lg ER];rfl,Yi tW hn hj,Ç _,by simp[gM.iL],λi lq=> ?_⟩;have hi2:i<s+1-(s+1):=lq;omega
   .rw[iM _ O,pV λq=>O<|p.C.M _ _ tZ V q];obtain⟨QJ,I,y1,y2,y3⟩:=p.M.jG C tZ;rw[HA]at y2;refine⟨QJ,I,?_,Yj y2 Z Z,y3⟩;rw[y1,D];rfl
  .have tZ:C+2<=E.r:=Z
   have vw:G<((gN E t<|.fy s .iW).C C).ky:=h1;by_cases O:C=t
   .subst O;rw[jM]at vw;exact z3 C tZ G AH<|by rw[Bc];exact vw
   .rw[iM _ O]at vw;exact z3 C tZ G AH vw
  .by_cases v:k=0
   .subst v;rw[q3]at M;obtain rfl:=Ã M;rw[q4]at kR;cases kR
   .by_cases k2:k=F.L+1+t
    .subst k2;rw[q5]at M;obtain rfl:=Ã M;rw[q6]at kR;cases kR
    .rw[q7 k v k2]at M;rcases p.c k y M kR with⟨h1,_⟩|⟨C,xe,yW,h2,W|⟨r1,cap,s1,K,W,h4⟩⟩
     .exact absurd h1 v
     .exact Á ⟨C,Z,yW,h2,À (by show∃G,(gN E t _).C C=_/\_;rw[iM _ Z];exact W)⟩
     .have O:C≠t:=Z
      exact Á ⟨C,Z,yW,h2,Á ⟨r1,cap,s1,K,by show(gN E t _).C C=_;rw[iM _ O];exact W,by show(w.setChan (E.I t) _ _ _ _ _ _).heap[E.I C]?=_;rw[pV λq=>O<|p.C.M _ _ xe V q];exact h4⟩⟩
  .have AX:(gN E t<|.fy s .iW).C C=.jI G:=a2;rw[iM _ (λe=>by subst e;rw[jM]at AX;cases AX)]at AX;exact(p.f C G Z AX a3).app u
  .refine À ⟨0,by unfold Ph.N;omega,À ?_,λk rG zd=> ?_⟩
   .show((iy (gN E t<|.fy s .iW) (.iI r) E.b E.I).iR _ 0).1<(E.iR a 0).1;rw[EF,EF,D];show(fU.iI r).rk F<(fU.iI<|r+1).rk F;simp only[fU.rk];omega
   .show(iy (gN E t<|.fy s .iW) (.iI r) E.b E.I).iR _ k=E.iR a k\/yJ ((iy (gN E t<|.fy s .iW) (.iI r) E.b E.I).iR _ k) (E.iR a k);by_cases k2:k=F.L+1+t
    .subst k2;refine Á<|À ?_;rw[tS H.C (E:=iy (gN E t<|.fy s .iW) (.iI r) E.b E.I) (show E.N (t+1)=Í from he),tS H.C he];show((gN E t<|.fy s .iW).C t).rk F<(E.C t).rk F;rw[jM,Bc];simp only[gM.rk,jk.rk];have hm:F.n+3000<=(F.n+3000)*(F.q+3-s):=å _ Z;omega
    .refine À (yK (λh=>absurd h zd) (λ_ _=>rfl) (λ_=>rfl) (λ_ _=>rfl) (λh1 _=> ?_)<|by rw[fI _ _ zd,fI _ _ k2]);show((gN E t<|.fy s .iW).C _).rk F=_;rw[iM _ Z]
 .obtain⟨m,u,T,g',q1,q2,q3,q4,q5,q6,q7⟩:=p.I.iI hi hk ht hs hY hc Z λk x hkx mA=>hp ⟨k,x,hkx,mA⟩;have e0:d=fw d 0 (kM<|.iI r):=by
   funext k;by_cases v:k=0
   .subst v;rw[gB,hk];rfl
   .rw[fI _ _ v]
  rw[e0]at q7;have l:iV E (.iI r) E.I:=mL (by rw[D];rfl);have e:(iy E (.iI r) E.b E.I).r=E.r:=l.r;obtain⟨z1,z2,z3,z4,z5⟩:=p.M.G H p.a p.C V;refine⟨iy E (.iI r) E.b E.I,_,_,_,_,m,_,u,q1,q2,(λh=>by have h:=h;cases h),.r (p.N.iy H.C l) (by rw[e];exact q2.trans p.b) (by rw[A7 l];exact q7) ?_ ⟨z4,z5,λC xe=> ?_,z1,z2,λC xe=>z3 C Z⟩ (p.C.r l (by rw[D];exact ô _) (by rw[D];rfl) (by rw[D];rfl) Yl Ym Yn (λh=>by rcases h with h|h|h<;>cases h) (λh=>by cases h) λ_ _=>aM) (by rw[e];exact Lh p.d q6) (λk y M kR=> ?_) λC G a1 a2 a3=>(p.f C G Z a2 a3).app u,rH<|by rw[D];simp only[fU.rk];omega⟩
  .rw[q2];exact((p.a.G l).EO<|Ö Hz.symm)
  .have tZ:C+2<=E.r:=Z
   show∃X I,(w.setChan (E.I c) _ _ _ _ _ _).heap[E.I C]?=Ä (.chan F.q X (decide<|C<(fU.iI r).je F.n) I (E.C C).iL É)/\tP F.n C ((fU.iI r).my F.q) I/\(E.C C).iL<=I/\X.size=I-(E.C C).iL/\∀i,i<I-(E.C C).iL->X[i]?=Ä (F.c<|C+((E.C C).iL+i)*F.n);rw[Yk];by_cases O:C=c
   .subst O;refine⟨X.push<|F.c Q,s+1,by rw[Lg ER];rfl,Yi tW hn hj,Z,by rw[Array.size_push];omega,λi lq=> ?_⟩;rw[Ă];by_cases G:i=X.size
    .rw[if_pos G,eQ,show(E.C C).iL+i=s by omega]
    .rw[if_neg G];exact yS i Z
   .rw[pV λq=>O<|p.C.M _ _ tZ V q];obtain⟨QJ,I,y1,y2,y3⟩:=p.M.jG C tZ;rw[HA]at y2;refine⟨QJ,I,?_,Yj y2 Z Z,y3⟩;rw[y1,D];rfl
  .by_cases v:k=0
   .subst v;rw[q3]at M;obtain rfl:=Ã M;rw[q4]at kR;cases kR
   .rw[q5 k v]at M;rcases p.c k y M kR with⟨h1,_⟩|⟨C,xe,yW,h2,W|⟨r1,cap,s1,K,W,h4⟩⟩
    .exact absurd h1 v
    .exact Á ⟨C,Z,yW,h2,À W⟩
    .have O:C≠c:=λe=>by
      subst e;have G:=(p.g C xe yW).2;rw[W,<-h2]at G;obtain⟨g0,i⟩:=p.I.Yf M kR G;exact hp ⟨k,y,M,by rw[i];exact ahu⟩
     exact Á ⟨C,Z,yW,h2,Á ⟨r1,cap,s1,K,W,by show(w.setChan (E.I c) _ _ _ _ _ _).heap[E.I C]?=_;rw[pV λq=>O<|p.C.M _ _ xe V q];exact h4⟩⟩
end
section
variable{F:Ph}{E B:fS F}{S:Nat->Jd}{m D:Nat->gu}{o:Nat->iz}{G:Nat->fe}{c d:Array Å}{u:ç}{sl:Option (Nat×Nat)}
def PI.ahz(H:gQ F)(p:PI F n zX E S m o G c w qJ)(hi:c[0]?=Ä g)(ht:m 0=.fB)(l:E.M=.kQ (J+1)):jY F n zX E m c w qJ sl 0:=by
 have C:=p.I.r;have hL:=H.C.r;have P3:=(p.C.L<|J+1).2 l;have oC:E.r=F.n+1:=by unfold fS.r;rw[l];rfl
 obtain⟨O,hk⟩:=p.h;rw[l]at O hk;obtain⟨j,hj⟩:∃j,j=F.n-(J+1):=⟨_,U⟩;have O:S 0=KT F.P (0==0) (E.I j) (AP F E.I J):=by rw[O,hj];rfl
 have I:j+2<=E.r:=Z
 have hY:E.Y (E.I j):=Á<|Á ⟨j,I,U⟩;obtain⟨Q,s,hc,tW,Lr,yR,yS⟩:=p.M.jG j I;have nk:decide (j<E.M.je F.n)=É:=by rw[l];simp only[fU.je];exact decide_eq_false Z
 rw[nk]at hc;have ER:=C.N _ hY;have AU:(w.setChan (E.I j) F.q Q Î s (E.C j).iL É).heap[E.I j]?=Ä (.chan F.q Q Î s (E.C j).iL É):=Lg ER;have aM:=p.C.S (λv q=>by rw[l]at q;cases q) (λq=>by rw[l]at q;cases q);obtain⟨d,u,T,g',q1,V,q3,q4,q5,q6,q7,q8,q9⟩:=p.I.kQ hi hk ht O hY (p.C.o j I).2.2 hc;have e0:o=fw o 0 (kM<|.kQ J):=by
  funext k;by_cases K:k=0
  .subst K;rw[gB,hk];rfl
  .rw[fI _ _ K]
 rw[e0]at q9;have v:iV E (.kQ J) E.I:=mL (by rw[l];rfl);have e:(iy E (.kQ J) E.b E.I).r=E.r:=v.r;obtain⟨z1,z2,z3,z4,z5⟩:=p.M.G H p.a p.C I;have EM:=p.d.C ⟨λt B a _=>q6 t B,À U,λt B a x ha L _=> ?_,λt B a y ha _ L=> ?_,λt B b _=>q8 t B _,λx _ _=>⟨λJ hr=>hr.appOther q6 Z,λe=>by omega⟩⟩;refine⟨iy E (.kQ J) E.b E.I,_,_,_,_,d,_,u,q1,V,(λh=>by have h:=h;cases h),.r (p.N.iy H.C v) (by rw[e];exact V.trans p.b) (by rwa[A7 v]) ?_ ⟨z4,z5,λf W=> ?_,z1,z2,λf W=>z3 f Z⟩ (p.C.r v (by rw[l];simp only[fU.je];omega) (by rw[l];rfl) (by rw[l];rfl) (λi h=> ?_) (λi h=> ?_) (λr'=>⟨λh=>(by cases h),λh=> ?_⟩) (λh=>by rcases h with h|h|h<;>cases h) (λh=>by cases h) λ_ _=>aM) (by rwa[e]) (λk y M X=> ?_) λf i a1 D N=>(p.f f i Z D N).app u,rH<|by rw[l];simp only[fU.rk];omega⟩
 .rw[V];exact((p.a.C<|Ö Hz.symm).G v)
 .have tZ:f+2<=E.r:=Z
  show∃N D,(w.setChan (E.I j) F.q Q Î s (E.C j).iL É).heap[E.I f]?=Ä (.chan F.q N (decide<|f<(fU.kQ J).je F.n) D (E.C f).iL É)/\tP F.n f ((fU.kQ J).my F.q) D/\(E.C f).iL<=D/\N.size=D-(E.C f).iL/\∀i,i<D-(E.C f).iL->N[i]?=Ä (F.c<|f+((E.C f).iL+i)*F.n);have ahA:(fU.kQ J).my F.q=E.M.my F.q:=by rw[l];rfl
  rw[ahA];by_cases e2:f=j
  .subst e2;refine⟨Q,s,?_,tW,Lr,yR,yS⟩;rw[AU,show decide (f<(fU.kQ J).je F.n)=Î from decide_eq_true (by simp only[fU.je];omega)]
  .rw[pV λq=>e2<|p.C.M _ _ tZ I q];obtain⟨N,D,y1,y2⟩:=p.M.jG f tZ;refine⟨N,D,?_,y2⟩;rw[y1,l];have:decide (f<(fU.kQ<|J+1).je F.n)=decide (f<(fU.kQ J).je F.n):=by
    apply decide_eq_decide.2;simp only[fU.je];omega
   rw[this]
 .rcases h with h|h|h|h<;>cases h
 .rcases h with h|h|h<;>cases h
 .cases h;omega
 .by_cases K:k=0
  .subst K;rw[q3]at M;obtain rfl:=Ã M;rw[q4]at X;cases X
  .obtain⟨h,D⟩:∃h,c[k]?=Ä h:=by
    have:=iJ M;rw[V]at this;exact⟨_,Ü this⟩
   rw[q5 k h K D]at M;obtain rfl:=Ã M;obtain⟨_,QK⟩:=ahw X;rcases p.c k h D QK with⟨h1,_⟩|⟨f,W,N,h2,i|⟨r1,cap,s1,r',i,h4⟩⟩
   .exact absurd h1 K
   .exact Á ⟨f,Z,N,h2,À i⟩
   .have e2:f≠j:=λe=>by
     subst e;have Ls:=(p.g f W N).2;rw[i,<-h2]at Ls;obtain⟨g0,ua⟩:=p.I.Yf D QK Ls;have:=ahv (g0:=g0) (z:=F.z) AU;rw[<-ua,X]at this;cases this
    exact Á ⟨f,Z,N,h2,Á ⟨r1,cap,s1,r',i,by show(w.setChan (E.I j) _ _ _ _ _ _).heap[E.I f]?=_;rwa[pV λq=>e2<|p.C.M _ _ W I q]⟩⟩
 .rw[(q7 t B a ha).1]at L;cases L
 .rw[(q7 t B a ha).1]at L;cases L
def Lt(F:Ph)(zX:ai->Prop)(qJ:ç):Prop:=
 (∀p a,touchAt qJ p=Ä a->a.loc.isMemory=Î->η qJ 0 p\/((zX a.loc\/∃x:đ,a.loc=ā x/\x.block=F.C)/\a.kind=.atomic))/\qJ.HandedOver
def QL{f:Nat->Nat}:∀{n:Nat},Ñ n f=0->∀i,i<n->f i=0
 |n+1,h,i,hi=>by
  simp only[Ñ]at h;rcases ø i n with q|q
  .exact QL Z i q
  .have:i=n:=Z
   subst this;omega
def PI.ahB(H:gQ F)(p:PI F n zX E S m o G c w qJ)(s:c[0]?=Ä g)(O:g.status=Æ)(Q:m 0=.fB)(f:E.M=.fy .kX): ∃(B:fS F) (b:Nat->Jd) (D:Nat->gu) (j:Nat->iz) (h:Nat->fe) (d:Array Å) (W:Ð) (u:ç),Ŝ F.P (ò c w sl) 0=(Ģ<|ò d W sl,u)/\d.size=c.size/\PI F n zX B b D j h d W (qJ++u)/\B.M=.gf/\Lt F zX (qJ++u):=by
 have J:=iJ s;have K:=p.sS s O Q w<|p.I.r.r _ J;rw[f]at K;let⟨V,_,g',t,r⟩:=K;have X:=(p.I.r.f _ J).trans V;have v:∀y:Ć,y.act=Ğ (ľ<|fM F.C)->y.act.touch?=Í:=λy i=>by rw[i];rfl
 have oC:E.r=F.n+1:=by unfold fS.r;rw[f];rfl
 have a:iV E .gf E.I:=mL (by rw[f];rfl);have e:(iy E .gf E.b E.I).r=E.r:=a.r;let⟨T,Y⟩:=jj r;have L:=lB (λl g h=>À<|H.M _ _ _ h) r;obtain⟨d,y,y1,C,q1,M,q3,q4,q5,q7⟩:=p.AY H (kM .gf) s (t w) fj fj (λy i=>⟨λz l=>(by rw[v y i]at l;cases l),by rw[i];exact p.I.r.N _<|À nu⟩) (λy _ i=>AJ p.I.r.l λk j=>by rw[xc j];exact v y i) Y L;have EM:=p.d.C (yI (λk j=>by rw[xc j];exact v y C) (λk j b _ e=>by
  have:k=y:=by simpa using j
  rw[this,C]at e;simp at e))
 have l:=p.C.B<|Á<|À f;refine⟨iy E .gf E.b E.I,_,_,_,_,d,w,_,q1,M,.r (p.N.iy H.C a) (by rw[e];exact M.trans p.b) (by rwa[A7 a]) (q7.G a) (Wd.r p.M a (by rw[f];rfl)<|by rw[f];rfl) (p.C.r a (by rw[f];exact Ç _) (by rw[f];rfl) (by rw[f];rfl) (λb h=> ?_) (λb h=> ?_) (λb=>⟨λh=>(by cases h),λh=>(by cases h)⟩) (λ_=>l) (λh=>by cases h) λ_ h=>absurd rfl h) (by rwa[e]) ?_ λb j q k N=>(p.f b j Z k N).app _,U,p.d.kQ y1 C X λx tY=> ?_⟩
 .rcases h with h|h|h|h<;>cases h
 .rcases h with h|h|h<;>cases h
 .intro k z b N;by_cases I:k=0
  .subst I;rw[q3]at b;obtain rfl:=Ã b;rcases L with q|q<;>rw[q]at N<;>cases N
  .rw[q4 k I]at b;obtain⟨q,HN,rfl⟩:=Ú.1 b;let⟨_,hzb⟩:=Hp N;rcases p.c k q HN hzb with⟨t,_⟩|⟨j,hj,h,r,h3⟩
   .exact absurd t I
   .exact Á ⟨j,Z,h,r,h3⟩
 .have b:=QL l x Z;have k:E.M.ad F.n=F.n+1:=by rw[f];rfl
  unfold fS.G at b;rw[k,if_pos Z]at b;cases h:E.N x with
  |none=>rw[h]at b;cases b
  |some j=>
   rw[h]at b;refine⟨j,h,?_⟩;cases j with
   |oE=>cases b
   |gf N=>cases N with
    |jD=>cases b
    |_=>trivial
   |jr N=>trivial
end
section
variable{D:Nat->Prop}{S:Nat->Jd}{G:Nat->gu}{I:Nat->iz}{o:Nat->fe}{f:Array Å}{sl:Option (Nat×Nat)}
def Yp{y:Ć}(b:wQ.act=ak k)(c:y.act=ĸ):wW #[wQ,y]:=by
 intro d a;simp at a;rcases a with rfl|rfl
 .rw[b];exact⟨U,fj⟩
 .rw[c];exact⟨U,fj⟩
def iQ.Hk(h:iQ i (λf=>f<n) X o w qJ){E:fe}{y:Ć}(G:0<n)(T:wQ.g=0/\wQ.act=ak n)(V:y.g=n/\y.act=ĸ)(oH:ω qJ 0=0)(Bb:ω qJ n=0)(L:∀b,¬E.O b)(lR:∀b,E.I b->(o 0).I b) (I:∀a,E.r a->X a.block/\(∀k,k<n->¬(o k).C a)/\qF qJ 0 (ā a)) (J:∀a,E.N a->(o 0).N a) (lK:∀a,E.K a->(o 0).K a) (lKO:∀k,k<n->∀a,(o k).K a->¬E.r a) (ld:E.d=0) (lw:E.w=w) (W:∀b,X b->D b) (Yq:∀b,D b->X b\/(b<w.heap.size/\∀f,f<n->¬(o f).M b)):iQ i (λf=>f<n+1) D (gq o n E) w (qJ++#[wQ,y]):=by
 have N:=Yp T.2 V.2;have v:∀f,f<n+1->f=n\/f<n:=λf t=>by omega
 have B:gq o n E n=E:=gT _ _ _;have z:∀f,f<n->gq o n E f=o f:=λf t=>gF o _ Z;have P:∀b,E.M b->(o 0).I b:=λb s=>s.elim (λq=>absurd q (L b)) (lR b);have Yr:=λf t b s OC=>(Yq b OC).elim (h.I f t b s) (λq=>q.2 f t s);refine⟨λf j t Q S b s=> ?_,λf j t Q S a r=> ?_,λf t b s=> ?_,λf t a r=> ?_,λf t b s=> ?_,λf t a r=> ?_,λf t b s=> ?_,λb s=> ?_,λf t=> ?_,λf t=> ?_,λf t=> ?_,AJ h.l λu F=>(N u F).1,λu F=> ?_,λp a c r hl Y=> ?_,λf t a r=> ?_⟩
 .rcases v f t with rfl|m
  .rw[B]at s;exact absurd s (L b)
  .rw[z f m]at s;rcases v j Q with rfl|H
   .rw[B];intro q;by_cases e:f=0
    .subst e;exact h.m _ m b s (P b q)
    .exact h.o f 0 m G e b s (Á (P b q))
   .rw[z j H];exact h.o f j m H S b s
 .rcases v f t with rfl|m
  .rw[B]at r;rcases v j Q with rfl|H
   .exact absurd U S
   .rw[z j H];exact(I a r).2.1 j H
  .rw[z f m]at r;rcases v j Q with rfl|H
   .rw[B];rintro(q|q)
    .exact(I a q).2.1 f m (À r)
    .by_cases e:f=0
     .subst e;exact h.g _ m a r (J a q)
     .exact h.h f 0 m G e a r (Á (J a q))
   .rw[z j H];exact h.h f j m H S a r
 .rcases v f t with rfl|m
  .rw[B]at s;exact absurd s (L b)
  .rw[z f m]at s|-;exact h.m f m b s
 .rcases v f t with rfl|m
  .rw[B]at r|-;exact λq=>(I a r).2.1 0 G (Á (J a q))
  .rw[z f m]at r|-;exact h.g f m a r
 .rcases v f t with rfl|m
  .rw[B]at s;exact Yr 0 G b (Á (P b s))
  .rw[z f m]at s;exact Yr f m b s
 .rcases v f t with rfl|m
  .rw[B]at r;exact W _ (r.elim (λq=>(I a q).1) (λq=>h.e 0 G a (Á (J a q))))
  .rw[z f m]at r;exact W _ (h.e f m a r)
 .rcases v f t with rfl|m
  .rw[B]at s;exact h.fx 0 G b (Á (P b s))
  .rw[z f m]at s;exact h.fx f m b s
 .exact(Yq b s).elim (h.N b) (λq=>q.1)
 .rcases v f t with rfl|m
  .rw[B,lw];exact fH.fT _ _
  .rw[z f m];exact h.r f m
 .rcases v f t with rfl|m
  .rw[B];have e:=λl=>agc T V oH Bb (l:=l);exact⟨λa r=>absurd r (L _),λa r=>(e _).2 ((h.S 0 G).C a (lR _ r)),λa r=>(e _).1 (I a r).2.2,λa r=>(e _).2 ((h.S 0 G).r a (J _ r))⟩
  .rw[z f m];have e:∀u∈#[wQ,y],∀b,u.act.touch?=Ä b->False:=λu F b s=>by rw[(N u F).1]at s;cases s
   exact⟨λa r=>((h.S f m).fq a r).C λu F b s _=>(e u F b s).elim,λa r=>((h.S f m).C a r).r λu F b s _ _=>(e u F b s).elim,λa r=>((h.S f m).I a r).C λu F b s _=>(e u F b s).elim,λa r=>((h.S f m).r a r).r λu F b s _ _=>(e u F b s).elim⟩
 .rw[KV N];rcases v f t with rfl|m
  .rwa[B,ld]
  .rw[z f m];exact h.f f m
 .refine(Array.mem_append.1 F).elim (h.q u) λq=> ?_;simp at q;rcases q with rfl|rfl
  .rw[T.2];trivial
  .rw[V.2];trivial
 .rcases mN r with⟨_,e⟩|⟨_,u,e,H,_⟩
  .exact h.s p a c e hl Y
  .rw[(N u e).1]at H;cases H
 .obtain⟨e,m,H⟩:∃e,e<n/\(o e).K a:=by
   rcases v f t with rfl|m
   .rw[B]at r;exact⟨0,G,lK a r⟩
   .rw[z f m]at r;exact⟨f,m,r⟩
  let⟨z1,z2⟩:=h.n e m a H;refine⟨W _ z1,λk Y q=> ?_⟩;rcases v k Y with rfl|tN
  .rw[B]at q;exact lKO e m a H q
  .rw[z k tN]at q;exact z2 k tN q
def gL.Hk(r:gL P i X S G I o f w qJ){c b:Å}{J s:Jd}{T t:gu}{K Kc:iz}{m n:fe}(u:f[0]?=Ä g)(L:í P Î g w=.spawn c b w #[]) (M:∀x y:Ć,(x.g=0/\x.act=ak f.size)->(y.g=f.size/\y.act=ĸ)->iQ i (λa=>a<f.size+1) D (gq (gq o 0 m) f.size n) w (qJ++#[x,y])) (hF:kV P Î J T m c) (N:c.status=Æ) (O:kV P É s t n b) (Q:b.status=Æ): ∃d x y,(x.g=0/\x.act=ak f.size)/\(y.g=f.size/\y.act=ĸ)/\Ŝ P (ò f w sl) 0=(Ģ<|ò d w sl,#[x,y])/\d.size=f.size+1/\d[0]?=Ä c/\d[f.size]?=Ä b/\(∀k,k≠0->k<f.size->d[k]?=f[k]?)/\ gL P i D (fw (fw S 0 J) f.size s) (fw (fw G 0 T) f.size t) (fw (fw I 0 K) f.size Kc) (gq (gq o 0 m) f.size n) d w (qJ++#[x,y]):=by
 have V:=(Ò.1 u).1;have v:=runT_crowd_spawn (sl:=sl) u L;obtain⟨x,B⟩:∃x:Ć,x={g:=0,fn:=g.frame.fn,pos:=g.frame.place,act:=ak f.size}:=⟨_,U⟩;obtain⟨y,C⟩:∃y:Ć,y={g:=f.size,fn:=b.frame.fn,pos:=g.frame.place,act:=ĸ}:=⟨_,U⟩;have e:((Ý 0 g.frame.fn g.frame.place #[]).push {g:=0,fn:=g.frame.fn,pos:=g.frame.place,act:=ak f.size}).push {g:=f.size,fn:=b.frame.fn,pos:=g.frame.place,act:=ĸ}=#[x,y]:=by rw[B,C];simp[Ý]
 rw[e]at v;have p:x.g=0/\x.act=ak f.size:=by rw[B];exact⟨U,U⟩
 have q:y.g=f.size/\y.act=ĸ:=by rw[C];exact⟨U,U⟩
 have E:((f.setIfInBounds 0 c).push b)[0]?=Ä c:=by rw[Ă,if_neg (by simp;omega),Array.getElem?_setIfInBounds_self_of_lt V]
 have F:((f.setIfInBounds 0 c).push b)[f.size]?=Ä b:=by rw[Ă,if_pos fj]
 have H:∀k,k≠0->k<f.size->((f.setIfInBounds 0 c).push b)[k]?=f[k]?:=λk W h2=>by rw[Ă,if_neg (by simp;omega),á<|õ W]
 refine⟨_,x,y,p,q,v,fj,E,F,H,?_,λk z d=> ?_,λj Y=> ?_⟩
 .rw[show(λa=>a<((f.setIfInBounds 0 c).push b).size)=(λa=>a<f.size+1) by simp];exact M x y p q
 .have Hx:k<f.size+1:=by have:=(Ò.1 d).1;simpa using this
  by_cases l:k=f.size
  .subst l;rw[F]at d;obtain rfl:=Ã d;rw[gB,gB,gB,gT,show(f.size==0)=É from beq_eq_false_iff_ne.2 Z];exact⟨b,O,.gk,À Q,À U⟩
  .rw[fI _ _ l,fI _ _ l,fI _ _ l,gF _ _ l];by_cases h:k=0
   .subst h;rw[E]at d;obtain rfl:=Ã d;rw[gB,gB,gB,gT];exact⟨c,hF,.gk,À N,À U⟩
   .rw[H k h Z]at d;rw[fI _ _ h,fI _ _ h,fI _ _ h,gF _ _ h];exact r.C k z d
 .rw[KV<|Yp p.2 q.2];exact r.I j<|by simp at Y;omega
end
section
variable{F:Ph}{E N:fS F}{S:Nat->Jd}{G Q:Nat->gu}{I:Nat->iz}{o:Nat->fe}{f B:Array Å}{u:ç}{sl:Option (Nat×Nat)}
def ahC(ok:F.Ok)(h:i≠n)(c:lQ F i a)(d:lQ F n a):False:=by
 have m:∀{i n:Nat},i=0->n≠0->lQ F i a->lQ F n a->False:=by
  intro i n f g c d;unfold lQ at c d;rw[if_pos f]at c;rw[if_neg g]at d;let⟨k,p,o,e⟩:=c;let⟨b,l,q,j⟩:=d;rcases e with e|e
  .rw[j]at e;have:F.Y=F.I k:=by injection e
   exact ok.C<|Á ⟨k,o,this⟩
  .rw[j]at e;exact ok.Qc b k l p o<|by injection e
 by_cases f:i=0
 .exact m f Z c d
 .by_cases g:n=0
  .exact m g f d c
  .unfold lQ at c d;rw[if_neg f]at c;rw[if_neg g]at d;let⟨b,l,q,j⟩:=c;let⟨o,k,p,e⟩:=d;rw[j]at e;have:=ok.a _ _ l k (by injection e);subst this;omega
def ahD(ok:F.Ok)(h:lQ F i a):(∃k,k<=F.m/\a=jf F.toFx k)\/∃p,p≠F.f/\a=jm F p:=by
 unfold lQ at h;by_cases c:i=0
 .rw[if_pos c]at h;obtain⟨k,e,d,b|b⟩:=h
  .exact À ⟨k,d,b⟩
  .exact Á ⟨_,ok.Y.1 k e d,b⟩
 .rw[if_neg c]at h;let⟨k,b,_,d⟩:=h;exact Á ⟨_,ok.Y.2 k b,d⟩
def vx(F:Ph)(j:Nat):fU:=if j<F.n then .iD (j+1)else .iI F.q
def ze(E:fS F)(j:Nat):fS F:={E with M:=vx F j}
def PI.ahE(H:gQ F)(p:PI F j zX E S G I o f w qJ)(hi:f[0]?=Ä g)(iH:g.status=Æ)(ht:G 0=.fB)(hx:E.M=.go m): ∃(N:fS F) (c:Nat->Jd) (Q:Nat->gu) (r:Nat->iz) (s:Nat->fe) (B:Array Å) (W:Ð) (u:ç),Ŝ F.P (ò f w sl) 0=(Ģ<|ò B W sl,u)/\B.size=f.size+1/\N.M≠ .gf/\PI F j zX N c Q r s B W (qJ++u):=by
 have gJ:=iJ hi;have C:=p.I.r;have L:=p.a;have hL1:=H.C.r;have hn:=H.C.N;have yO:=p.C.C m<|À hx;have oC:E.r=m:=by unfold fS.r;rw[hx];rfl
 have jH:f.size=F.L+m:=by rw[p.b,oC]
 have hJ:=p.sS hi iH ht w<|C.r _ gJ;rw[hx]at hJ;obtain⟨hd,g',child,X,Ys,AH,xd,hX,Bd,ahF,ahG⟩:=H.go m E.I _ g yO hJ<|C.M gJ;have hd:=hd;have hX:=hX;have Bd:=Bd;have oH:=(C.f _ gJ).trans hd;have Bb:=p.I.I _<|Ç _;have nq:=L.M 0<|À U;obtain⟨m',uf⟩:∃m',m'=vx F m:=⟨_,U⟩;have ug:(m<F.n/\m'=.iD (m+1))\/(m=F.n/\m'=.iI F.q):=by
  rw[uf];unfold vx;by_cases q:m<F.n
  .exact À ⟨q,if_pos q⟩
  .exact Á ⟨Z,if_neg q⟩
 have atm:m'.sp F.n=m+1:=by rcases ug with⟨_,rfl⟩|⟨q,rfl⟩<;>simp only[fU.sp];omega
 have ahH:m'.ad F.n=m+1:=by rcases ug with⟨_,rfl⟩|⟨q,rfl⟩<;>simp only[fU.ad];omega
 have QM:m'.my F.q=0:=by rcases ug with⟨_,rfl⟩|⟨q,rfl⟩<;>simp[fU.my]
 have hmh:m'.je F.n=0:=by rcases ug with⟨_,rfl⟩|⟨q,rfl⟩<;>rfl
 have hmr:m'.gC=0:=by rcases ug with⟨_,rfl⟩|⟨q,rfl⟩<;>rfl
 have HP:(∀v,m'≠ .fy v)/\m'≠ .gf:=by rcases ug with⟨_,rfl⟩|⟨q,rfl⟩<;>exact⟨λv h=>(by cases h),λh=>(by cases h)⟩
 have hkM:kM m'=.no:=by rcases ug with⟨_,rfl⟩|⟨q,rfl⟩<;>rfl
 obtain⟨l0,mD⟩:∃l0:fe,l0={o 0 with O:=λb=>(o 0).O b/\¬X b/\(1<=m->b≠E.I (m-1)),I:=λb=>X b\/(o 0).I b,r:=λa=>(o 0).r a/\¬lQ F m a,w:=w}:=⟨_,U⟩;obtain⟨lc,km⟩:∃lc:fe,lc={O:=λ_=>False,I:=λb=>X b\/(o 0).I b,r:=lQ F m,N:=(o 0).N,K:=(o 0).K,d:=0,q:=False,w:=w}:=⟨_,U⟩;have Yt:iQ F.S (λi=>i<f.size) E.Y (gq o 0 l0) w qJ:=by
  rw[mD];refine C.C gJ (λ_ q=>q.1) (λb q=>À<|q.elim (λz=>À<|hX b z) Á) (λ_ q=>q.1) (λa q=>À<|Á q) U U U (λb hb q=> ?_) λa J q=>C.g _ gJ a J.1 q;rcases q with q|q
  .exact hb.2.1 q
  .exact C.m _ gJ b hb.1 q
 have z0:gq o 0 l0 0=l0:=gT _ _ _;have Be:=L.o m Z yO;have ny:(ze E m).r=m+1:=by show(vx F m).sp F.n=_;rwa[<-uf]
 have Yu:∀b,(ze E m).Y b->E.Y b\/(1<=m/\b=E.I (m-1)):=λb hb=>by
  rcases hb with q|q|⟨l,t,D⟩
  .exact À<|À q
  .exact À<|Á<|À q
  .rw[ny]at t;by_cases e:l+1=m
   .exact Á ⟨Z,by rw[D,show l=m-1 by omega];rfl⟩
   .exact À<|Á<|Á ⟨l,Z,D⟩
 have QO:∀x y:Ć,(x.g=0/\x.act=ak f.size)->(y.g=f.size/\y.act=ĸ)->iQ F.S (λi=>i<f.size+1) (ze E m).Y (gq (gq o 0 l0) f.size lc) w (qJ++#[x,y]):=λx y Lu Lv=>by
  refine Yt.Hk gJ Lu Lv oH Bb (by rw[km];exact λb q=>q) (by rw[z0,km,mD];exact λb q=>q) (λa J=> ?_) (by rw[z0,km,mD];exact λb q=>q) (by rw[z0,km,mD];exact λb q=>q) (λk hk a J q=> ?_) (by rw[km]) (by rw[km]) (λb hb=> ?_) λb hb=> ?_
  .have r:lQ F m a:=by rwa[km]at J
   have c:=Be a r;refine⟨C.e 0 gJ a<|À c,λk hk q=> ?_,(C.S 0 gJ).I a c⟩;by_cases e:k=0
   .subst e;rw[z0,mD]at q;rcases q with q|q
    .exact q.2 r
    .exact C.g 0 gJ a c q
   .rw[gF _ _ e]at q;exact C.h 0 k gJ hk (õ e) a c q
  .have c:(o k).K a:=by
    by_cases e:k=0
    .subst e;rwa[z0,mD]at J
    .rwa[gF _ _ e]at J
   rw[km]at q;exact(C.n k hk a c).2 0 gJ<|Be a q
  .rcases hb with q|q|⟨l,t,D⟩
   .exact À q
   .exact Á<|À q
   .exact Á<|Á ⟨l,by rw[ny];omega,D⟩
  .rcases Yu b hb with q|⟨t,rfl⟩
   .exact À q
   .obtain⟨a1,a2,a3,a4⟩:=Bd t;refine Á ⟨C.fx 0 gJ _<|À a1,λi lq q=> ?_⟩;by_cases e:i=0
    .subst e;rw[z0,mD]at q;rcases q with q|q|q
     .exact q.2.2 t U
     .exact a2 q
     .exact C.m 0 gJ _ a1 q
    .rw[gF _ _ e]at q;exact C.o 0 i gJ lq (õ e) _ a1 q
 have hWm:fi F.P Î (JM F E.I m') l0 g':=by
  have r:=Yt.M gJ;rw[z0]at r;have s:{l0 with w:=w}=l0:=by rw[mD]
  rw[s]at r;have:=ahG l0 r (by rw[mD]) (λb q=>by rwa[mD]) (by rw[mD]) (by rwa[mD]) (by rw[mD]) (by rw[mD]) (by rw[mD]) (λa q=>by rw[mD]at q;exact q.1);rw[uf];unfold vx;exact this
 have QP:∀b,lc.M b->(o 0).M b:=λb hb=>by
  rw[km]at hb;rcases hb with q|q|q
  .exact q.elim
  .exact À<|hX b q
  .exact Á q
 have Yv:∀a,lc.C a->(o 0).C a:=λa J=>by rw[km]at J;exact J.elim (λq=>À<|Be a q) Á
 have QR:lc.w=w:=by rw[km]
 have ahI:gw lc:=⟨λb hb=>(by rw[km]at hb;exact hb.elim),λa J q=>(by rw[km]at J q;exact C.g 0 gJ a (Be a J) q),λa J hb=>C.I 0 gJ _ (QP _ hb)<|C.e 0 gJ a<|Yv a J,λb hb=>(by rw[QR];exact C.fx 0 gJ b<|QP b hb),λa J=>(by rw[QR];exact C.N _<|C.e 0 gJ a<|Yv a J),λa J=>by
  have c:(o 0).K a:=by rwa[km]at J
  obtain⟨k1,k2⟩:=C.n 0 gJ a c;exact⟨λq=>C.I 0 gJ _ (QP _ q) k1,by rw[QR];exact C.N _ k1,λq=>by rw[km]at q;exact k2 0 gJ (Be a q)⟩⟩
 have hWc:=ahF lc ahI (λb q=>by rwa[km]) (by rw[km]) (by rw[km]) (by rw[km];exact λq=>q) (λb=>by rw[km];exact λq=>q) (by rw[km]) (by rw[km]) (λa q=>Be a<|by rwa[km]at q);obtain⟨T,hT⟩:=jj hWm;obtain⟨Tc,hTc⟩:=jj hWc;obtain⟨B,x,y,Lu,Lv,q1,q2,q3,q4,q5,q6⟩:=p.I.Hk (Kc:=if m=0 then .no else kW F (E.I<|m-1) (.np 0)) hi (xd w) QO hT Ys hTc AH;have cs:∀i,i<f.size+1->i=f.size\/i=0\/(i≠0/\i<f.size):=λi hi=>by omega
 have es:gq (gq o 0 l0) f.size lc f.size=lc:=gT _ _ _;have e0:gq (gq o 0 l0) f.size lc 0=l0:=by rwa[gF _ _ Z]
 have en:∀i,i≠0->i≠f.size->gq (gq o 0 l0) f.size lc i=o i:=λi t D=>by rw[gF _ _ D,gF _ _ t]
 have xg:=p.C.z;have Lp:=p.C.h m Z;have ahJ:∀y,E.oc y->y<m:=λy ⟨e,t,_⟩=>ó λq=>by rw[p.C.h y Z]at t;cases t
 have QS:∀i,i<f.size+1->∀a,(gq (gq o 0 l0) f.size lc i).r a->∃k,k<f.size/\(o k).r a:=λi hi a J=>by
  rcases cs i hi with rfl|rfl|⟨t,D⟩
  .rw[es,km]at J;exact⟨0,gJ,Be a J⟩
  .rw[e0,mD]at J;exact⟨0,gJ,J.1⟩
  .rw[en i t Z]at J;exact⟨i,D,J⟩
 refine⟨ze E m,_,_,_,_,B,w,_,q1,q2,(by show vx F m≠ .gf;rw[<-uf];exact HP.2),.r ⟨?_,λt D=> ?_,λl t D=> ?_,λy e t D=> ?_,λi t D=> ?_⟩ (by rw[q2,ny,jH];omega) q6 ?_ ?_ ?_ ?_ (λk z hk hb=> ?_) λl r2 a1 a2 a3=> ?_⟩
 .have c:(0:Nat)≠f.size:=Z
  rw[fI _ _ c,gB,fI _ _ c,gB];rw[uf];exact⟨U,U⟩
 .by_cases e:m=0
  .have c:f.size=F.L:=Z
   rw[c,gB,gB,if_pos e,if_pos e];show F.h 0=JI F E.c E.S/\_;rw[p.C.J Z];exact⟨U,U⟩
  .rw[fI _ _ Z,fI _ _ Z,fI _ _ Z,fI _ _ Z];exact p.m Z D
 .rw[ny]at t;by_cases e:l+1=m
  .have c:F.L+1+l=f.size:=Z
   rw[c,gB,gB,if_neg Z,if_neg Z];show ED F (E.I<|m-1) (m-1) 0=JW F (E.I l) l (E.C l)/\_=kW F (E.I l) (E.C l);rw[xg l Z,show m-1=l by omega];exact⟨U,U⟩
  .rw[fI _ _ Z,fI _ _ Z,fI _ _ Z,fI _ _ Z];exact p.g l Z D
 .have s:=ó λq=>by
   have r:E.N y=Ä e:=D;rw[p.C.h y Z]at r;cases r
  rw[fI _ _ Z,fI _ _ Z,fI _ _ Z,fI _ _ Z,fI _ _ Z,fI _ _ Z];exact p.k y e Z D
 .rw[fI _ _ Z,fI _ _ Z,fI _ _ Z,fI _ _ Z,fI _ _ Z,fI _ _ Z];exact p.l i t D
 .rw[q2];obtain⟨f1,f2⟩:=L.lO Z;refine⟨λi lq a J=> ?_,λy t D a J=> ?_,λ_=> ?_,λ_ k t D=> ?_,λ_ D=> ?_,λl t D r h3 h4=> ?_,λl t D=> ?_,λy s=> ?_,λi lq=> ?_,λi t D=> ?_,λk hk b hb=> ?_,λk hk i lq q=> ?_,λk t D i lq q=> ?_,λl t r D h3 i lq q=> ?_⟩
  .rcases cs i lq with rfl|rfl|⟨t,D⟩
   .rw[es,km]at J;rcases J with q|q
    .exact ahD H.C q
    .exact L.gS 0 gJ a<|Á q
   .rw[e0,mD]at J;rcases J with q|q
    .exact L.gS 0 gJ a<|À q.1
    .exact L.gS 0 gJ a<|Á q
   .rw[en i t Z]at J;exact L.gS i D a J
  .rw[ny]at t;rw[e0,mD];exact⟨L.o y Z D a J,λq=>ahC H.C Z q J⟩
  .rw[e0,mD];exact⟨f1,λb hb=>Á<|f2 b hb⟩
  .have vw:=t;by_cases e:m=0
   .have c:F.L=f.size:=Z
    rw[c,es,km];exact⟨by show lQ F m _;unfold lQ;rw[if_pos e];exact⟨k,Z,D,À U⟩,by show lQ F m _;unfold lQ;rw[if_pos e];exact⟨k,Z,D,Á U⟩⟩
   .rw[en F.L Z Z];exact L.e Z k vw D
  .by_cases e:m=0
   .have c:F.L=f.size:=Z
    rw[c,es,km];show(o 0).N (jf F.toFx E.S.md)/\∀b,E.V E.S.md b->X b\/(o 0).I b;rw[p.C.J Z];show(o 0).N (jf F.toFx 0)/\∀b,E.V 0 b->X b\/(o 0).I b;rw[p.C.v];exact⟨f1,λb hb=>Á<|f2 b hb⟩
   .rw[en F.L Z Z];exact L.f Z D
  .rw[ny]at t;by_cases e:l+1=m
   .have c:F.L+1+l=f.size:=Z
    rw[c,es,km];show lQ F m _;unfold lQ;rw[if_neg Z];exact⟨_,h3,by rw[Ę,ň Z];omega,U⟩
   .rw[en _ Z Z];exact L.h l Z D r h3 h4
  .rw[ny]at t;by_cases e:l+1=m
   .have c:F.L+1+l=f.size:=Z
    rw[c,es,km];exact⟨f1,λb hb=>Á<|f2 b hb⟩
   .rw[en _ Z Z];exact L.l l Z D
  .have:=ahJ y s;rw[en _ Z Z];exact L.S y s
  .rcases lq with rfl|⟨y,t,rfl,h3⟩
   .rwa[e0,mD]
   .rw[ny]at t;by_cases e:y=m
    .subst e;rw[<-jH,es,km];exact λq=>q
    .rw[en _ Z Z];exact L.M _<|Á ⟨y,Z,U,h3⟩
  .rw[en i Z Z];exact L.c i t D
  .obtain⟨b1,b2,c⟩:=L.I k hk b hb;refine⟨b1,λq=> ?_,λi lq q=> ?_⟩
   .rcases Yu b q with q|⟨t,rfl⟩
    .exact b2 q
    .exact c 0 gJ (Bd t).1
   .rcases cs i lq with rfl|rfl|⟨t,D⟩
    .rwa[es,km]at q
    .rw[e0,mD]at q;exact c 0 gJ q.1
    .rw[en i t Z]at q;exact c i D q
  .obtain⟨c,a1,a2⟩:=QS i lq _ q;exact L.N k hk c a1 a2
  .obtain⟨c,a1,a2⟩:=QS i lq _ q;exact L.g k t D c a1 a2
  .rw[ny]at t;have oI:r<(E.C l).ky:=h3;obtain⟨c,a1,a2⟩:=QS i lq _ q;by_cases e:l+1=m
   .rw[xg l Z]at oI;simp only[gM.ky]at oI;omega
   .exact L.d l Z r D oI c a1 a2
 .have c:=p.M;refine⟨c.C,c.I,λl t=> ?_,c.M,c.S,λl t r D h3=> ?_⟩
  .rw[ny]at t;show∃buf s,w.heap[E.I l]?=Ä (.chan F.q buf (decide<|l<(vx F m).je F.n) s (E.C l).iL É)/\tP F.n l ((vx F m).my F.q) s/\(E.C l).iL<=s/\buf.size=s-(E.C l).iL/\∀i,i<s-(E.C l).iL->buf[i]?=Ä (F.c<|l+((E.C l).iL+i)*F.n);rw[<-uf,hmh,QM];by_cases e:l+1=m
   .rw[xg l Z];obtain⟨a1,a2,a3,a4⟩:=Bd Z;rw[show m-1=l by omega]at a3;refine⟨#[],0,by rw[a3];rfl,λi=>⟨λq=>by omega,λq=>by omega⟩,Ç _,U,λi lq=> ?_⟩;simp only[gM.iL]at lq;omega
   .have:=c.jG l Z;rwa[hx]at this
  .rw[ny]at t;have oI:r<(E.C l).ky:=h3;by_cases e:l+1=m
   .rw[xg l Z]at oI;simp only[gM.ky]at oI;omega
   .exact c.N l Z r D oI
 .have h:=p.C;have eo:(ze E m).G=E.G:=by
   funext y;have t:(ze E m).M.ad F.n=E.M.ad F.n:=by show(vx F m).ad F.n=_;rw[<-uf,ahH,hx];rfl
   unfold fS.G;rw[t];rfl
  have QU:(ze E m).M.gC=E.M.gC:=by show(vx F m).gC=_;rw[<-uf,hmr,hx];rfl
  have emp:(ze E m).M=m':=uf.symm;refine⟨h.v,λl q=> ?_,λl q=> ?_,λr=>⟨λq=> ?_,λq=> ?_⟩,λq=>by omega,h.I,λl q=>h.z l Z,λl r uh pW=> ?_,λl uh pW=> ?_,h.f,λy q=>h.h y Z,λl j3 uh pW q3'=> ?_,λl q=> ?_,λc reg hc=> ?_,λreg hc=> ?_,λr s hc=> ?_,h.N,λq=> ?_,h.e,h.Y,λl r uh pW=> ?_,λl r uh pW=> ?_,λq=> ?_,λ_ _=>h.S (λv q=>by rw[hx]at q;cases q) (λq=>by rw[hx]at q;cases q),h.y,λl r uh pW=> ?_⟩
  .rw[emp]at q;rcases ug with⟨_,rfl⟩|⟨_,rfl⟩<;>rcases q with q|q|q|q<;>cases q;omega
  .rw[emp]at q;rcases ug with⟨_,rfl⟩|⟨_,rfl⟩<;>rcases q with q|q|q<;>cases q;omega
  .rw[emp]at q;rcases ug with⟨_,rfl⟩|⟨_,rfl⟩<;>cases q;exact Ç _
  .rw[emp]at q;rcases ug with⟨_,rfl⟩|⟨_,rfl⟩<;>cases q
  .rw[ny]at uh;by_cases e:l+1=m
   .have oJ:(∃p,E.C l=.fy r p)\/E.C l=.jI r\/E.C l=.nj r:=pW;rw[xg l Z]at oJ;rcases oJ with⟨_,q⟩|q|q<;>cases q
   .exact h.d l r Z pW
  .rw[ny]at uh;have oJ:E.N (l+1)≠Í:=pW;have:l+1<m:=ó λq=>oJ<|h.h _ Z;obtain⟨a,_⟩:=h.l l Z oJ;rw[hx]at a;simp only[fU.je]at a;omega
  .rw[ny]at uh pW;have QV:E.I l=E.I j3:=q3';have key:∀a b,a+1=m->b+2<=E.r->E.I a=E.I b->False:=λa b J hb he=>by
    have t:=(Bd Z).1;rw[show m-1=a by omega,he]at t;exact C.I 0 gJ _ (À t)<|Á<|Á ⟨b,hb,U⟩
   by_cases e:l+1=m
   .by_cases e':j3+1=m
    .omega
    .exact(key l j3 e Z QV).elim
   .by_cases e':j3+1=m
    .exact(key j3 l e' Z QV.symm).elim
    .exact h.M l j3 Z Z QV
  .rw[ny]at q;show¬F.M (E.I l)/\E.I l≠F.Y/\F.S<=E.I l;by_cases e:l+1=m
   .obtain⟨a1,_,_,a4⟩:=Bd Z;rw[show m-1=l by omega]at a1 a4;have Yw:=C.I 0 gJ _<|À a1;exact⟨λq=>Yw<|À q,λq=>Yw<|Á<|À q,a4⟩
   .exact h.o l Z
  .rw[eo,QU];exact h.t c reg hc
  .rw[eo,QU];obtain⟨a1,a2,y,a3,a4⟩:=h.g reg hc;exact⟨a1,a2,y,Z,a4⟩
  .rw[eo,QU];obtain⟨a1,a2,a3⟩:=h.u r s hc;refine⟨a1,a2,λhr=> ?_⟩;obtain⟨y,b1,b2⟩:=a3 hr;exact⟨y,Z,b2⟩
  .rw[emp]at q;rcases q with q|q|q
   .exact absurd q<|HP.1 _
   .exact absurd q<|HP.1 _
   .exact absurd q HP.2
  .rw[ny]at uh;by_cases e:l+1=m
   .have oJ:E.C l=.fy r .gy\/E.C l=.fy r .kX\/E.C l=.jI r:=pW;rw[xg l Z]at oJ;rcases oJ with q|q|q<;>cases q
   .exact h.w l r Z pW
  .rw[ny]at uh;by_cases e:l+1=m
   .have oJ:E.C l=.fy r .gy:=pW;rw[xg l Z]at oJ;cases oJ
   .exact h.H l r Z pW
  .rw[emp]at q;exact absurd q<|HP.1 _
  .rw[ny]at uh;by_cases e:l+1=m
   .have oJ:E.C l=.fy r .wr:=pW;rw[xg l Z]at oJ;cases oJ
   .exact h.D l r Z pW
 .rw[ny];have c:=p.d;rw[oC]at c;rw[jH]at Lu Lv Bb;exact c.Hk Lu Lv oH Bb (λ⟨e,t,_⟩=>by rw[Lp]at t;cases t) λy ⟨e,t,_⟩=>ó λq=>by rw[p.C.h y Z]at t;cases t
 .have r:=iJ hk;rcases cs k Z with rfl|rfl|⟨k1,k2⟩
  .rw[q4]at hk;obtain rfl:=Ã hk;rw[AH]at hb;cases hb
  .rw[q3]at hk;obtain rfl:=Ã hk;rw[Ys]at hb;cases hb
  .rw[q5 k k1 k2]at hk;rcases p.c k z hk hb with⟨t,_⟩|⟨l,s,c,D,h3⟩
   .exact absurd t k1
   .exact Á ⟨l,Z,c,D,h3⟩
 .rw[ny]at a1;by_cases e:l+1=m
  .have oJ:E.C l=.jI r2:=a2;rw[xg l Z]at oJ;cases oJ
  .exact(p.f l r2 Z a2 a3).app _
end
section
variable{F:Ph}{E E':fS F}{S:Nat->Jd}{tr o:Nat->gu}{m:Nat->iz}{lot:Nat->fe}{gs gs':Array Å}{w':Ð}{t u:ç}{sl:Option (Nat×Nat)}{sz:Nat}
def PI.at(H:gQ F)(p:PI F i zX E S tr m lot gs w t)(d:Nat):PI F i zX E S tr m lot gs (w.at d) t:= ⟨p.b,p.I.at d,p.h,p.m,p.g,p.k,p.l,p.a.EO<|Ç _,⟨⟨p.M.C.C,p.M.C.M,p.M.C.I,p.M.C.N,p.M.C.r⟩,λk a=>⟨(p.M.I k a).C,(p.M.I k a).M,(p.M.I k a).I,(p.M.I k a).N,(p.M.I k a).r⟩,p.M.jG,λk a=>⟨(p.M.M k a).1,H.S _ _ _ _ _ (p.M.M k a).2 (λ_ _=>rfl) U U U ⟨U,U⟩⟩,p.M.S,p.M.N⟩,p.C,p.d,p.c,p.f⟩
def Go1(F:Ph)(i:Nat)(zX:ai->Prop)(gs:Array Å)(w:Ð)(t:ç)(sl:Option (Nat×Nat))(a:Nat):Prop:=
 ∃(E':fS F) (b:Nat->Jd) (o:Nat->gu) (c:Nat->iz) (d:Nat->fe) (gs':Array Å) (w':Ð) (u:ç),Ŝ F.P (ò gs w sl) a=(Ģ<|ò gs' w' sl,u)/\gs'.size=gs.size+1/\E'.M≠ .gf/\PI F i zX E' b o c d gs' w' (t++u)
def ahK(F:Ph)(i:Nat)(zX:ai->Prop)(gs:Array Å)(w:Ð)(t:ç)(sl:Option (Nat×Nat))(a:Nat):Prop:=
 ∃(E':fS F) (b:Nat->Jd) (o:Nat->gu) (c:Nat->iz) (d:Nat->fe) (gs':Array Å) (w':Ð) (u:ç),Ŝ F.P (ò gs w sl) a=(Ģ<|ò gs' w' sl,u)/\gs'.size=gs.size/\PI F i zX E' b o c d gs' w' (t++u)/\E'.M=.gf/\Lt F zX (t++u)
def PI.ahL(H:gQ F)(p:PI F i zX E S tr m lot gs w t)(l:E.M≠ .gf)(a:gs[n]?=Ä g)(c:g.status=Æ):jY F i zX E tr gs w t sl n\/rE F i zX E tr gs w t\/Go1 F i zX gs w t sl n\/ahK F i zX gs w t sl n:=by
 have z:=iJ a;have B:=p.b;cases b:tr n with
 |jv k=>
  obtain⟨gs',w',u,o,e,d,f,j,q⟩:=p.fq H a b;exact À ⟨E,S,o,m,e,gs',w',u,d,f,λh=>h,j,q⟩
 |fB=>
  by_cases s:n=0
  .subst s;cases h:E.M with
   |go j=>exact Á<|Á<|À<|p.ahE H a c b h
   |lA j=>exact Á<|À<|p.ahi H a c b h
   |rd j=>exact À<|p.ahj H a c b h
   |iD j=>exact À<|p.ahl H a c b h
   |iI r=>cases r with
    |zero=>exact Á<|À<|p.ahm H a c b h
    |succ r=>exact À<|p.ahx H a c b h
   |kQ r=>cases r with
    |zero=>exact Á<|À<|p.ahn H a c b h
    |succ r=>exact À<|p.ahz H a b h
   |fy v=>cases v with
    |iW=>exact Á<|À<|p.aho H a c b h
    |lV q=>exact À<|p.ahp H a c b h
    |wr=>exact À<|p.ahq H a c b h
    |kv=>exact À<|p.ahs H a c b h
    |gy=>exact À<|p.ahr H a c b h
    |kX=>exact Á<|Á<|Á<|p.ahB H a c b h
   |gf=>exact absurd h l
  by_cases y:n<F.L
  .exact À<|p.ahg H Z y a c
  obtain⟨x,rfl⟩:∃x,n=F.L+x:=⟨n-F.L,Z⟩;have f:x<E.r:=Z
  cases d:E.N x with
  |some e=>cases e with
   |oE=>exact Á<|À<|p.agV H f d a c b
   |gf v=>cases v with
    |jD=>exact À<|p.agY H f d a c b
    |iD=>exact À<|p.ag2 H f d a c b
    |gy W=>exact À<|p.ag3 H f d a c b
    |jb W=>exact À<|p.ag4 H f d a c b
    |iA r=>exact À<|p.ag5 H f d a c b
   |jr N=>exact À<|p.ahf H f d a c
  |none=>cases x with
   |zero=>
    rw[ö]at a b|-;cases h:E.S with
    |kH k=>exact Á<|À<|p.ag6 H f d a c b h
    |mk k=>exact Á<|À<|p.ag9 H f d a c b h
    |dn k v=>cases v with
     |jD=>exact À<|p.aha H f d a c b h
     |iD=>exact À<|p.ahb H f d a c b h
     |gy W=>exact À<|p.ahc H f d a c b h
     |jb W=>exact À<|p.ahd H f d a c b h
     |iA r=>exact À<|p.ahe H f d a c b h
   |succ j=>
    rw[show F.L+(j+1)=F.L+1+j by omega]at a b|-;have e:j+2<=E.r:=Z
    cases h:E.C j with
    |np r=>exact À<|p.agT H e d a c b h
    |fy r v=>cases v with
     |iW=>exact Á<|À<|p.agC H e d a c b h
     |lV q=>exact À<|p.agD H e d a c b h
     |wr=>exact À<|p.agF H e d a c b h
     |kv=>exact À<|p.agI H e d a c b h
     |gy=>exact À<|p.agG H e d a c b h
     |kX=>exact À<|p.agH H e d a c b h
    |jI r=>exact Á<|À<|p.agK H e d a c b h
    |nj r=>exact Á<|À<|p.agL H e d a c b h
def ahM{J:Jd}{T:gu}{l:fe}(a:∀l g,J l g->g.status=Æ)(h:kV P yQ J T l g):g.status=Æ:=by
 cases T with
 |fB=>exact a _ _<|h _<|fH.fT _ _
 |jv k=>exact h.1
def gL.Y{Y:Nat->Prop}(c:gL P n Y S tr m lot gs w t)(d:gs[i]?=Ä g)(e:∀l g,S i l g->g.status=Æ)(a:g.status≠Þ):g.status=Æ:=by
 let⟨g0,f,b,_,_⟩:=c.C i g d;generalize m i=K at b;cases b with
 |gk=>exact ahM e f
 |nT _ _=>exact absurd U a
 |tM _ _ _=>exact absurd U a
 |nn _ _ _=>rfl
def Yx{J:Jd}{p:jF}(a:∀r,p=.iA r->0<r){l:fe}(h:EA P yQ b J p l g):g.status=Æ:=by
 cases p with
 |jD=>exact h.2.1
 |iD=>exact h.2.1
 |gy W=>exact h.2.1
 |jb W=>exact h.2.1
 |iA r=>cases r with
  |zero=>exact absurd (a 0 U) Z
  |succ r=>exact h.2.1
def QW{J:Jd}{p:jk}{l:fe}(h:qI P yQ i b J p l g):g.status=Æ:=by
 cases p with
 |iW=>let⟨k,_,_,T,a,c⟩:=h;exact(c _ _ a).1
 |lV p=>let⟨_,T,a,c⟩:=h;exact(c _ _ a).1
 |wr=>exact h.2.1
 |kv=>exact h.2.1
 |gy=>exact h.2.1
 |kX=>exact h.2.1
def Yy{l:fe}(h:AP F D i l g):g.status=Æ:=by
 cases i with
 |zero=>exact QW h
 |succ i=>exact h.1
def ahN(H:gQ F){x:fU}{l:fe}(h:JM F D x l g):g.status=Æ:=by
 cases x with
 |go j=>exact H.I _ _ _ _ h
 |lA j=>let⟨c,h⟩:=h;exact H.I _ _ _ _ h
 |rd j=>exact h.2.1
 |iD j=>exact h.2.1
 |iI r=>cases r with
  |zero=>exact Yy h
  |succ r=>exact h.1
 |kQ r=>exact Yy h
 |fy v=>exact QW h
 |gf=>exact H.M _ _ _ h
def PI.GG(p:PI F i zX E S tr m lot gs w t){x:Nat}(a:x<E.r):∃g,gs[F.L+x]?=Ä g:=by have:=p.b;exact⟨_,Ü Z⟩
def PI.HQ(H:gQ F)(p:PI F i zX E S tr m lot gs w t)(d:0<E.r)(e:E.N 0=Í):∃(a:Nat) (g:Å),gs[a]?=Ä g/\g.status=Æ:=by
 have n:=H.C.r;let⟨g,c⟩:=p.GG d;rw[ö]at c;refine⟨F.L,g,c,p.I.Y c (λl g h=> ?_) λl=> ?_⟩
 .rw[(p.m d e).1]at h;cases j:E.S with
  |kH k=>rw[j]at h;exact H.N _ _ _ h
  |mk k=>rw[j]at h;let⟨a,V,_,_,_,_,h⟩:=h;exact h.2.1
  |dn k v=>
   rw[j]at h;refine Yx (λr V=> ?_) h;subst V;let⟨_,_,r⟩:=p.C.I k;let⟨a,b⟩:=r _ j;rcases p.C.Y k b (by rw[j];exact Ç _)with⟨W,q|q,_⟩|⟨o,s,q,f,_⟩|⟨q,_⟩
   .rw[j]at q;cases q
   .rw[j]at q;cases q
   .rw[j]at q;cases q;exact f
   .exact absurd j<|q _
 .rcases p.c _ g c l with⟨q,_⟩|⟨j,_,_,q,_⟩<;>omega
def PI.Lw(H:gQ F)(p:PI F i zX E S tr m lot gs w t){x:Nat}{e:ij}(c:x<E.r)(a:E.N x=Ä e)(d:∀N,e≠ .jr N):∃(h:Nat) (g:Å),gs[h]?=Ä g/\g.status=Æ:=by
 have f:=H.C.r;let⟨g,b⟩:=p.GG c;refine⟨F.L+x,g,b,p.I.Y b (λl g h=> ?_) λl=> ?_⟩
 .rw[(p.k x e c a).1]at h;cases e with
  |oE=>exact h.2.1
  |gf v=>exact Yx (λr j=>by subst j;exact((p.C.N x _ a).2 r U).1) h
  |jr N=>exact absurd U<|d N
 .rcases p.c _ g b l with⟨q,_⟩|⟨j,_,h,q,_⟩
  .omega
  .have:x=j+1:=Z
   subst this;rw[a]at h;cases h
def Yz{f:Nat->Nat}:∀{n:Nat},0<Ñ n f->∃i,i<n/\0<f i
 |0,h=>absurd h<|Nat.lt_irrefl _
 |n+1,h=>by
  simp only[Ñ]at h;by_cases q:0<f n
  .exact⟨n,Z,q⟩
  .let⟨i,b,a⟩:=Yz (f:=f) (n:=n) Z;exact⟨i,Z,a⟩
def PI.ahO(H:gQ F)(p:PI F i zX E S tr m lot gs w t):∃(l:Nat) (g:Å),gs[l]?=Ä g/\g.status=Æ:=by
 have hL:=H.C.r;have jH:=p.b;obtain⟨g,D⟩:∃g,gs[0]?=Ä g:=⟨_,Ü Z⟩;by_cases Q:g.status=Þ
 .rcases p.c 0 g D Q with⟨_,u,T⟩|⟨j,_,_,q,_⟩
  .have oC:E.r=F.n+1:=by unfold fS.r;rw[u];rfl
   have had:E.M.ad F.n=F.n+1:=by rw[u];rfl
   have QX:E.M.gC=1:=by rw[u];rfl
   have V:=p.M.C.r;cases o:E.b with
   |cl c G=>
    let⟨h1,h2⟩:=p.C.t c G o;rw[o]at V;let⟨_,_,I⟩:=V;have X:0<c:=by
     rcases ķ c with q|q
     .have:=I q;omega
     .exact q
    rw[h1]at X;let⟨x,d,y⟩:=Yz X;unfold fS.G at y;rw[had,if_pos d]at y;cases z:E.N x with
    |some e=>
     rw[z]at y;exact p.Lw H Z z λN q=>by subst q;simp[lW,ij.kI]at y
    |none=>cases x with
     |zero=>exact p.HQ H Z z
     |succ j=>
      let⟨J,B⟩:=p.GG (x:=j+1) Z;rw[show F.L+(j+1)=F.L+1+j by omega]at B;have K:j+2<=E.r:=Z
      by_cases Y:J.status=Þ
      .rcases p.c _ J B Y with⟨q,_⟩|⟨a,_,_,q,⟨r,b,C⟩|⟨r,cap,s,r',b,C⟩⟩
       .omega
       .have:a=j:=Z
        subst this;have EV:=H.C.I _<|p.C.d a r K<|À ⟨_,b⟩;have XQ:1<=Ñ F.n λl=>(E.C l).gC F l (F.r<|a+r*F.n):=by
         have:=Qg (f:=λl=>(E.C l).gC F l<|F.r<|a+r*F.n) (j:=a) (n:=F.n) Z;simp only[b]at this;have h:gM.gC F a (F.r<|a+r*F.n) (.fy r .kv)=1:=by simp only[gM.gC,if_true];rfl
         rwa[h]at this
        by_cases M:F.r (a+r*F.n)<=E.S.od
        .have O:∀k v,E.S=.dn k v->E.N 0=Í:=λk v h=>by
          cases P:E.N 0 with
          |none=>rfl
          |some e=>have:=p.C.f (by rw[P];simp);rw[this]at h;cases h
         rcases p.C.Y _ EV M with⟨W,q|q,_⟩|⟨r',s,q,_⟩|⟨_,⟨_,q⟩|⟨s,q1,q2⟩⟩
         .exact p.HQ H Z<|O _ _ q
         .exact p.HQ H Z<|O _ _ q
         .exact p.HQ H Z<|O _ _ q
         .omega
         .rw[q1]at C;simp only[GS.sm]at C;omega
        .apply p.HQ H Z;cases P:E.N 0 with
         |none=>rfl
         |some e=>
          have:=p.C.f (by rw[P];simp);rw[this]at M;simp only[jx.od]at M;omega
       .have:a=j:=Z
        subst this;let⟨e,k,l,_⟩:=p.M.jG a K;rw[C,u]at l;injection l with l;injection l with _ _ AU _ _ _;have:decide (a<(fU.fy .kv).je F.n)=Î:=decide_eq_true (by simp only[fU.je];omega);rw[this]at AU;cases AU
      .refine⟨_,J,B,p.I.Y B (λl g h=> ?_) Y⟩;rw[(p.g j K z).1]at h;cases a:E.C j with
       |np r=>rw[a]at h;exact h.1
       |fy r v=>rw[a]at h;exact QW h
       |jI r=>rw[a]at h;exact H.Y _ _ _ _ h
       |nj r=>rw[a]at h;exact h.2.1
   |jE G=>
    let⟨_,_,x,d,_,b⟩:=p.C.g G o;rcases b with b|b
    .exact p.Lw H d b λN q=>by cases q
    .exact p.Lw H d b λN q=>by cases q
   |gV r s=>
    let⟨_,h2,I⟩:=p.C.u r s o;rw[o]at T;simp only[GS.sm]at T;let⟨x,d,_,b⟩:=I Z;exact p.Lw H d b λN q=>by cases q
  .omega
 .refine⟨0,g,D,p.I.Y D (λl g h=> ?_) Q⟩;rw[p.h.1]at h;exact ahN H h
def PI.Lx(p:PI F i zX E S tr m lot gs w t):∀g∈gs,awake g:=by
 intro g e;obtain⟨a,f,rfl⟩:=Array.mem_iff_getElem.1 e;let⟨g0,_,c,d,_⟩:=p.I.C a _<|Ü f;intro τ b;generalize gs[a]=g at c b;generalize m a=K at c;cases c with
 |gk=>rw[b]at d;rcases d with q|q<;>cases q
 |nT _ _=>cases b
 |tM _ _ _=>cases b
 |nn _ _ _=>cases b
def ahP(H:gQ F):∀(k:Nat) (μ:Mu) (E:fS F) (S:Nat->Jd) (tr:Nat->gu) (m:Nat->iz) (lot:Nat->fe) (gs:Array Å) (w:Ð) (sl:Option (Nat×Nat)) (t:ç),F.n+1-E.r=k->E.mu tr gs=μ->PI F i zX E S tr m lot gs w t->E.M≠ .gf-> ∃(N:Nat) (E':fS F) (b:Nat->Jd) (o:Nat->gu) (c:Nat->iz) (d:Nat->fe) (gs':Array Å) (w':Ð) (r:Option (Nat×Nat)) (a:ç),ς F.P N (ò gs w sl) t=(Ģ<|ò gs' w' r,a)/\PI F i zX E' b o c d gs' w' a/\E'.M=.gf/\Lt F zX a:=by
 intro k
 induction k using Ĕ with
 |_ k ihk=>
  intro μ
  induction (agm F.N).apply μ with
  |intro μ _ V=>
   intro E S tr m lot gs w sl t hk W p z;let⟨a,g,d,r,hi,iH,B⟩:=crowd_pick (P:=F.P) (w:=w) (sl:=sl) p.Lx<|p.ahO H;have p':=p.at H d;have jH:=p.b;rcases p'.ahL H (sl:=r) z hi iH with⟨c,e,f,h,j,s,v,u,x,X,l,b,y⟩|⟨c,e,f,h,j,l,b,y⟩|⟨c,e,f,h,j,s,v,u,x,X,l,b⟩|⟨c,e,f,h,j,s,v,u,x,X,l,b,y⟩
   .have Y:=b.b;let⟨N,C,D,G,I,J,K,L,M,O,Q,T⟩:=V _ (W▸y) c e f h j s v r (t++u) Z U b λq=>z<|l q;exact⟨N+1,C,D,G,I,J,K,L,M,O,by simp only[ς,B,x];exact Q,T⟩
   .have Y:=b.b;have h6:=b.at H w.drawn;exact V _ (W▸y) c e f h j gs w sl t Z U h6 λq=>z<|l q
   .have Y:=b.b;have q:=EG b.C;let⟨N,C,D,G,I,J,K,L,M,O,Q,T⟩:=ihk (F.n+1-c.r) Z _ c e f h j s v r (t++u) U U b l;exact⟨N+1,C,D,G,I,J,K,L,M,O,by simp only[ς,B,x];exact Q,T⟩
   .exact⟨1,c,e,f,h,j,s,v,r,t++u,by simp only[ς,B,x],l,b,y⟩
end
end Go.Proofs.Y.fv
namespace Go.Proofs.Y.fv
open Go Go.Conc Go.Proofs.Y.Lift Go.RowKit Go.Conc.Lib Go.ConcR.Gen
section
variable{J:Jd}{l:fe}
def QY(w:Ð)(b:∀j,l.O j->j<w.heap.size):mr l {l with w:=w} w w #[]:= ⟨Ç _,λ_ h=>À h,b,U,U,U,U,λ_ _ _ _=>rfl,λ_ _ _ _=>rfl,λ_ _ _=>rfl,U,U,U,λe a=>by simp at a,by simp[Ï],U,λ_=>⟨U,λe a=>by simp at a,U⟩,U⟩
def lX(a:∀j,l.O j->j<l.w.heap.size){w₁:Ð}(r:fH l l.w w₁):∀j,l.O j->j<w₁.heap.size:=λj b=>Ê (a j b) r.r
def QZ{R:Ð->Ð->Prop}{m:Å->Ð->Prop}:∀{n:Nat} {g:Å} {l:fe},Ĺ P yQ R ã m n g l.w->(∀w c,fH l w c->R w c)->(∀j,l.O j->j<l.w.heap.size)->(∀c d,fH l l.w c->m d c->fi P yQ J {l with w:=c} d)->fi P yQ J l g:=by
 intro n
 induction n with
 |zero=>
  intro g l h j i e;exact(fi.fB λc r=>e c g r<|h c<|j _ _ r).fg
 |succ n p=>
  intro g l h j i e;rcases h with h|⟨s,h⟩
  .exact(fi.fB λc r=>e c g r<|h c<|j _ _ r).fg
  .refine .mk s λc r=> ?_;have f:=h c<|j _ _ r;cases o:í P yQ g c with
   |go d k y=>
    rw[o,Ŵ]at f;let⟨⟨t,u⟩,v⟩:=f;subst t u;exact⟨d,k,#[],{l with w:=k},U,QY k<|lX i r,p v (λa b q=>j a b<|za q) (lX i r) λa b q x=>e a b (r.fg<|za q) x⟩
   |_=>rw[o]at f;exact f.elim
def ahQ{m:κ}(b:m=ù\/m=ð)(w:Ð)(c:∀j,l.O j->j<w.heap.size):mr l {l with d:=Ï l.d #[jw m],w:=w} w w #[jw m]:=by
 refine⟨Ç _,λ_ h=>À h,c,U,U,U,U,λ_ _ _ _=>rfl,λ_ _ _ _=>rfl,λ_ _ _=>rfl,U,U,U,λe a=> ?_,U,U,λ_=>⟨U,λe a=> ?_,U⟩,U⟩
 .have:e=jw m:=by simpa using a
  subst this;rcases b with rfl|rfl
  .exact Á<|Á<|Á<|À U
  .exact Á<|Á<|Á<|Á<|À U
 .have:e=jw m:=by simpa using a
  subst this;rcases b with rfl|rfl<;>rfl
def fi.ahR{m:κ}{b:Å}(c:m=ù\/m=ð)(e:g.status=Æ)(f:∀j,l.O j->j<l.w.heap.size)(h:∀a,í P yQ g a=Ŭ b a #[jw m])(i:∀a,fH l l.w a->fi P yQ J {l with d:=Ï l.d #[jw m],w:=a} b):fi P yQ J l g:= .mk e λa r=>⟨b,a,_,_,h a,ahQ c a<|lX f r,i a r⟩
def mQ(b:Nat)(w:Ð):Prop:=(w.cell? ⟨b,0,Í⟩).isSome=Î/\(w.cell? ⟨b,1,Í⟩).isSome=Î
def mQ.r(h:mQ b w):∃v,w.cell? ⟨b,0,Í⟩=Ä v:=î.1 h.1
def mQ.C(h:mQ b w):∃v,w.cell? ⟨b,1,Í⟩=Ä v:=î.1 h.2
def RS(Ψ:Ð->Prop)(b:Nat)(w a:Ð):Prop:=w.heap.size<=a.heap.size/\(mQ b w->mQ b a)/\(Ψ w->Ψ a)
def SW(Ψ:Ð->Prop)(l:fe)(b:Nat)(w:Ð):Prop:=(∀j,l.O j->j<w.heap.size)/\mQ b w/\Ψ w
def fC{Ψ:Ð->Prop}(h:SW Ψ l b w)(r:RS Ψ b w u):SW Ψ l b u:=⟨λj a=>Ê (h.1 j a) r.1,r.2.1 h.2.1,r.2.2 h.2.2⟩
def lY(Ψ:Ð->Prop)(l:fe)(b:Nat):Prop:=(l.K ⟨b,0,Í⟩\/l.M b)/\(l.K ⟨b,1,Í⟩\/l.M b)/\∀w c:Ð,w.heap.size<=c.heap.size->(∀j,l.M j->c.heap[j]?=w.heap[j]?)->(∀a,l.C a->c.cell? a=w.cell? a)->(∀a,l.C a->c.frozen? a=w.frozen? a)->(∀a,l.K a->(w.cell? a).isSome=Î->(c.cell? a).isSome=Î)->Ψ w->Ψ c
def lY.r{Ψ:Ð->Prop}(h:lY Ψ l b)(r:fH l w u):RS Ψ b w u:=⟨r.r,λq=>⟨h.1.elim (λk=>r.S _ k q.1) λm=>(by rw[gK<|r.I b m];exact q.1),h.2.1.elim (λk=>r.S _ k q.2) λm=>(by rw[gK<|r.I b m];exact q.2)⟩,h.2.2 w u r.r r.I r.N r.Y r.S⟩
def iX{Ψ:Ð->Prop}(a:lY Ψ l b)(hF:SW Ψ l b l.w)(c:Ĺ P yQ (RS Ψ b) ã (λd e=>fi P yQ J {l with w:=e} d) n g l.w):fi P yQ J l g:= QZ c (λ_ _ r=>a.r r) hF.1 λ_ _ _ h=>h
def mE{Ψ:Ð->Prop}(c:lY Ψ l b)(hF:SW Ψ l b l.w)(h:∀a,SW Ψ l b a->J {l with w:=a} g):fi P yQ J l g:=.fB λa r=>h a<|fC hF<|c.r r
def rI{Ψ:Ð->Prop}(e:lY Ψ l b)(hF:SW Ψ l b l.w){m:κ}{c:Å}(f:m=ù\/m=ð)(i:g.status=Æ)(h:∀a,í P yQ g a=Ŭ c a #[jw m])(j:∀a,SW Ψ l b a->fi P yQ J {l with d:=Ï l.d #[jw m],w:=a} c):fi P yQ J l g:= .ahR f i hF.1 h λa r=>j a<|fC hF<|e.r r
end
section
variable{b:Ā}{i:List ż}
def EY(m:κ)(c:∀g,m≠.extern g)(d:y.defers=dcall F #[]::i)(e:P.funcs[F]?=Ä s)(f:(s.name== "runtime.NumGoroutine")=É)(j:s.body.isNone=Î)(k:Extern.findNext s=Í) (l:Extern.find s=Ä λ_=>do mark m;pure Extern.Race.none_) (w:Ð):í P yQ (G {b.at y L with mode:=ý} qX) w=Ŭ (G {b.at ⟨y.tmps,i⟩ L with mode:=ý} qX) w #[jw m]:= stepG_unwind_entry (v:=ŉ #[]) d e f j k l (by simp[Extern.Race.none_,jw]) (by simp[jw])<|by intro x a;simp[jw]at a;subst a;exact⟨U,λg h=>c g<|Loc.mark.inj h⟩
end
def YA(s:Nat)(h:s%4294967296<2147483648):s&&&2147483648=0:=by
 have e:(2147483648:Nat)=(2^32-1)&&&2147483648:=A
 have a:(2:Nat)^32=4294967296:=A
 rw[e,<-Ů,Ċ,a];have b:s%4294967296=(s%4294967296)&&&(2^31-1):=by rw[Ċ];have c:(2:Nat)^31=2147483648:=A;rw[c];omega
 rw[b,Ů];have d:(2^31-1)&&&2147483648=0:=A
 rw[d];simp
def EZ(s:Int)(a:0<=s)(b:s<1000000*4294967296)(h:s%4294967296<1000000):bits .and Ô s 2147483648=0:=by obtain⟨n,rfl⟩:=Int.eq_ofNat_of_zero_le a;have h:=(bits_nat Ô 63 A û n 2147483648 Z A).1;rw[YA n Z]at h;simpa using h
def E1(s:Int)(a:0<=s)(c:s<1000000*4294967296)(h:s%4294967296<1000000):bits .and Ô s 2147483647=s%4294967296:=by
 have h:=bits_mask Ô 63 A û 31 A s a Z;have e:((2:Int)^31-1)=2147483647:=A
 have b:((2:Int)^31)=2147483648:=A
 rw[e,b]at h;rw[h];omega
section
variable{b:Ā}{a:ś}{k:List Ź}{cs:List Ā}{d:Nat}
def pX(P:ġ)(d:Nat)(g:Å):Prop:=∃N,Ε P N d g
def E2(P:ġ):Jd:=λl g=>pX P l.d g
def Ly{a:Å}(b:g.status=Æ)(h:∀w,í P É g w=Ŭ a w)(c:pX P d a):pX P d g:=let⟨n,q⟩:=c;⟨n+1,.ctl b h q⟩
def atn(f:Q[i]?=Ä o)(g:ä o (Ħ Q a.tmps)=Î)(j:b.kind≠Ė) (h:∀(w:Ð) (K:ś->Ð->Prop),K y w->uponK o a K ((à a.eval o).run P w)) (n:∀w,(à a.eval o).events P w #[]=#[]) (p:pX P d (G (b.at y<|È Q jJ::k) cs)):pX P d (G (b.at a<|È Q (i::jJ)::k) cs):=by
 refine Ly U (λw=> ?_) p;have e:=h w (λx c=>x=y/\c=w) ⟨U,U⟩;have l:listed P b.fn a o w=#[]:=by unfold listed;rw[n w,ċ]
 revert e;generalize m:(à a.eval o).run P w=r;intro e;match r,e with
 |.ok (.value v) w',⟨c,x⟩=>subst x;rw[ő f g j m,l,c]
 |.ok .skip w',⟨c,x⟩=>subst x;rw[Ţ f g j m,l,c]
def HR:∀{n m d:Nat} {g:Å},n<=m->Ε P n d g->Ε P m d g
 |0,0,_,_,_,h=>h
 |0,_+1,_,_,_,h=>À h
 |_+1,0,_,_,e,_=>absurd e Z
 |_+1,_+1,_,_,e,h=>h.imp id λ⟨a,b,c,f,i,j⟩=>⟨a,b,c,f,i,HR (Nat.le_of_succ_le_succ e) j⟩
def ui{n:Nat}{ops:Array Oper}{i:Nat}{rest:List Nat}{o:Oper}{a':Act}(hq:QuitsD P n d (G (b.at a'<|.inRegion ops rest::k) cs))(ho:ops[i]?=some o:=by rfl)(hw:Region.wanted o (yielded ops a.tmps)=true:=by rfl)(hk:b.kind≠.early:=by k_ne) (h:∀(w:World) (K:Act->World->Prop),K a' w->uponK o a K ((execOp a.eval o).run P w):=by intro w K hK;go_simp;(try w_num);exact hK) (he:∀w,(execOp a.eval o).events P w #[]=#[]:=by intro _;simp[go_sem, *]): QuitsD P (n+1) d (G (b.at a<|.inRegion ops (i::rest)::k) cs):=by
 refine QuitsD.ctl U (λw=> ?_) hq;have h1:=h w (λx y=>x=a'/\y=w) ⟨U,U⟩;have h2:listed P b.fn a o w=#[]:=by unfold listed;rw[he w,ċ]
 revert h1;generalize hr:(à a.eval o).run P w=r;intro h1;match r,h1 with
 |.ok (.value v) w',⟨e1,e2⟩=>subst e2;rw[ő ho hw hk hr,h2,e1]
 |.ok .skip w',⟨e1,e2⟩=>subst e2;rw[Ţ ho hw hk hr,h2,e1]
end
section
variable{Ψ:Ð->Prop}{L:Ŋ}{b:Nat}{l:fe}{a:ś}{ops:Array Ľ}{rest:List Nat}{k:List Ź}{cs:List Ā}
def ahS(H:ű P L)(g:lY Ψ l b)(h:pX P 0 (G (f.at (a.put ((ops[i]?).bind (·.dst))<|ŉ #[])<|È ops rest::k) cs)): ∀(r:Nat) (c:Int) (j m o p q s t u v x y z B C D E F I J K M N O Q S T V W X Y pY pf pg oK oL pZ p6 p7 p8 p9 qa qc qd qe nU nV rJ Bf Bg Bh Bj Bl Bm Bn Bo Bp Bq Br Bs Bt Bu Bv Bw Bx By Bz BA BB BD BF BG BH BJ BK BL BM BN BO BP BQ BR BS BT BU BV BW BX BY BZ B1 B2 B3 B4 B5 B6 B7 B8 B9 Ca Cb Cc Cd Ce Cf Cg Ch Ci Cj Ck Cl Cm Cn Co Cp:ì) (e:Ð),SW Ψ l b e->(c<=(r:Int)+1/\(r:Int)+1<=c)->r+1<1000000-> fi P É (Hh P É b (E2 P)<|r+1) {l with d:=1,w:=e} (G ((base L.add).at ⟨#[ü<|Ä ⟨b,0,Í⟩,j,m,o,p,q,s,t,é è c,u,v,x,y,z,B,C,D,E,F,I,J,K,M,N,O,Q,S,T,V,W,X,Y,pY,pf,pg,oK,oL,pZ,p6,p7,p8,p9,qa,qc,qd,qe,nU,nV,rJ,Bf,Bg,Bh,Bj,Bl,Bm,Bn,Bo,Bp,Bq,Br,Bs,Bt,Bu,Bv,Bw,Bx,By,Bz,BA,BB,BD,BF,BG,BH,BJ,BK,BL,BM,BN,BO,BP,BQ,BR,BS,BT,BU,BV,BW,BX,BY,BZ,B1,B2,B3,B4,B5,B6,B7,B8,B9,Ca,Cb,Cc,Cd,Ce,Cf,Cg,Ch,Ci,Cj,Ck,Cl,Cm,Cn,Co,ü<|Ä ⟨b,1,Í⟩,Cp],[dcall L.enable #[]]⟩ [È #[{dst:=Ä 113,op:=Ł<|Õ 0,type:=L.tWgP,pos:= "waitgroup.go:142",after:=#[],guard:=Í},{dst:=Ä 114,op:=Ž<|Õ 113,type:=0,pos:= "waitgroup.go:142",after:=#[{on:=0,ground:=â}],guard:=Í},{dst:=Ä 115,op:=ŵ L.tWg (Õ 114) 2,type:=0,pos:= "waitgroup.go:142",after:=#[{on:=1,ground:=â}],guard:=Í},{dst:=Ä 116,op:= ţ {callee:=Ĥ<|ł L.semrelease,args:= #[Õ 115,ï<|Ι É,ï<|é Ņ 0],argTypes:=#[L.tPU32,4,3]},type:=0,pos:= "waitgroup.go:142",after:=#[{on:=2,ground:=â}],guard:=Í}] [3],ŝ 2,ļ<|ĥ 33 #[{dst:=Ä 111,op:=Ł<|Õ 8,type:=L.tU32,pos:= "waitgroup.go:141",after:=#[],guard:=Í},{dst:=Ä 112,op:=ž BinOp.sub L.tU32 (Õ 111) (ï<|é è 1) L.tU32,type:=L.tU32,pos:= "waitgroup.go:141",after:=#[{on:=0,ground:=â}],guard:=Í},{dst:=Ä 8,op:=ξ<|Õ 112,type:=L.tU32,pos:= "waitgroup.go:141",after:= #[{on:=1,ground:=â},{on:=0,ground:=ħ},{on:=1,ground:=ħ}],guard:=Í}] É,ο<|((ĥ 32 #[{dst:=Ä 109,op:=Ł<|Õ 8,type:=L.tU32,pos:= "waitgroup.go:141",after:=#[],guard:=Í},{dst:=Ä 110,op:= ž BinOp.neq L.tU32 (Õ 109) (ï<|é è 0) L.tU32,type:=4,pos:= "waitgroup.go:141",after:=#[{on:=0,ground:=â}],guard:=Í}] É).seq<|π (Õ 110) ah<|Code.exit 1).seq<|(υ 2<|ĥ 34 #[{dst:=Ä 113,op:=Ł<|Õ 0,type:=L.tWgP,pos:= "waitgroup.go:142",after:=#[],guard:=Í},{dst:=Ä 114,op:=Ž<|Õ 113,type:=0,pos:= "waitgroup.go:142",after:=#[{on:=0,ground:=â}],guard:=Í},{dst:=Ä 115,op:=ŵ L.tWg (Õ 114) 2,type:=0,pos:= "waitgroup.go:142",after:=#[{on:=1,ground:=â}],guard:=Í},{dst:=Ä 116,op:= ţ {callee:=Ĥ<|ł L.semrelease,args:= #[Õ 115,ï<|Ι É,ï<|é Ņ 0],argTypes:=#[L.tPU32,4,3]},type:=0,pos:= "waitgroup.go:142",after:=#[{on:=2,ground:=â}],guard:=Í}] É).seq<|ĥ 33 #[{dst:=Ä 111,op:=Ł<|Õ 8,type:=L.tU32,pos:= "waitgroup.go:141",after:=#[],guard:=Í},{dst:=Ä 112,op:= ž BinOp.sub L.tU32 (Õ 111) (ï<|é è 1) L.tU32,type:=L.tU32,pos:= "waitgroup.go:141",after:=#[{on:=0,ground:=â}],guard:=Í},{dst:=Ä 8,op:=ξ<|Õ 112,type:=L.tU32,pos:= "waitgroup.go:141",after:= #[{on:=1,ground:=â},{on:=0,ground:=ħ},{on:=1,ground:=ħ}],guard:=Í}] É,ŝ 1])<|(base L.done).at {tmps:= #[ü<|Ä {block:=b,off:=0},Â,ü<|Ä {block:=b,off:=0},Â],defers:=[]} [È #[{dst:=Ä 2,op:=Ł<|Õ 0,type:=L.tWgP,pos:= "waitgroup.go:156",after:=#[],guard:=Í},{dst:=Ä 3,op:= ţ {callee:=Ĥ<|ł L.add,args:=#[Õ 2,ï<|é Ņ<|-1],argTypes:=#[L.tWgP,3]},type:=0,pos:= "waitgroup.go:156",after:=#[{on:=0,ground:=â}],guard:=Í}] [1]]::f.at a (È ops (i::rest)::k)::cs):=by
 intro r;lib_facts
 induction r with
 |zero=>
  intro c j m o p q s t u v x y z B C D E F I J K M N O Q S T V W X Y pY pf pg oK oL pZ p6 p7 p8 p9 qa qc qd qe nU nV rJ Bf Bg Bh Bj Bl Bm Bn Bo Bp Bq Br Bs Bt Bu Bv Bw Bx By Bz BA BB BD BF BG BH BJ BK BL BM BN BO BP BQ BR BS BT BU BV BW BX BY BZ B1 B2 B3 B4 B5 B6 B7 B8 B9 Ca Cb Cc Cd Ce Cf Cg Ch Ci Cj Ck Cl Cm Cn Co Cp e hF HS gJ;have e1:c=1:=Z
  subst e1;clear HS gJ;refine mE (l:={l with d:=1,w:=e}) g hF λpb hF=>⟨U,U,ů U U H.f_semrelease<|ę L,_,U,λe n hc hf=>(ŋ U U (by k_ne) U H.f_semrelease (Ť L) (ę L) (ť L) (Ŧ L) (by simp[þ,gP]) hc hf).trans fP,?_⟩;walk_nrm;show pX P 1 _;let⟨n,h⟩:=h;refine⟨n+150,?_⟩;repeat(first|refine ui ?_|q_go)
  q_en H L
  q_leave0 H.f_add
  repeat(first|refine ui ?_|q_go)
  q_leave0 H.f_done
  exact HR Z h
 |succ r ih=>
  intro c j m o p q s t u v x y z B C D E F I J K M N O Q S T V W X Y pY pf pg oK oL pZ p6 p7 p8 p9 qa qc qd qe nU nV rJ Bf Bg Bh Bj Bl Bm Bn Bo Bp Bq Br Bs Bt Bu Bv Bw Bx By Bz BA BB BD BF BG BH BJ BK BL BM BN BO BP BQ BR BS BT BU BV BW BX BY BZ B1 B2 B3 B4 B5 B6 B7 B8 B9 Ca Cb Cc Cd Ce Cf Cg Ch Ci Cj Ck Cl Cm Cn Co Cp e hF HS gJ;have g1:(c-1)%4294967296=c-1:=Z
  have g2:(c-1 !=0)=Î:=by simp;omega
  refine mE (l:={l with d:=1,w:=e}) g hF λpb hF=>⟨U,U,ů U U H.f_semrelease<|ę L,_,U,λe n hc hf=>(ŋ U U (by k_ne) U H.f_semrelease (Ť L) (ę L) (ť L) (Ŧ L) (by simp[þ,gP]) hc hf).trans fP,?_⟩;walk_nrm;apply iX (l:={l with d:=1,w:=pb}) g hF (n:=50);iterate 22 w_go fC
  refine Ì λe YB=> ?_;replace hF:=fC hF YB;clear YB;exact ih (c-1) _ _ _ _ _ _ _ _ _ _ _ _ _ _ _ _ _ _ _ _ _ _ _ _ _ _ _ _ _ _ _ _ _ _ _ _ _ _ _ _ _ _ _ _ _ _ _ _ _ _ _ _ _ _ _ _ _ _ _ _ _ _ _ _ _ _ _ _ _ _ _ _ _ _ _ _ _ _ _ _ _ _ _ _ _ _ _ _ _ _ _ _ _ _ _ _ _ _ _ _ _ _ _ _ _ _ _ _ _ _ _ _ _ _ e hF Z Z
end
section
variable{Ψ:Ð->Prop}{L:Ŋ}{l:fe}{k:List Ź}
def ahT(H:ű P L)(J:l.K ⟨b,0,Í⟩/\l.K ⟨b,1,Í⟩)(z:lY Ψ l b)(hF:SW Ψ l b l.w)(B:l.d=0)(m:pX P 0 (G (f.at (y.put ((Q[i]?).bind (·.dst))<|ŉ #[])<|È Q jJ::k) qX)): fi P É (λl g=>yH P É b (E2 P) (kx l) g) l (G ((base L.done).at ⟨#[ü<|Ä ⟨b,0,Í⟩,Â,Â,Â],[]⟩ [ļ<|body_done L])<|f.at y (È Q (i::jJ)::k)::qX):=by
 lib_facts;simp only[body_done,doneFn,Č];apply iX z hF (n:=40);iterate 2 w_go fC
 u_call H.f_add (nm_add L) addFn fC hF
 iterate 11 w_go fC
 u_conv H.underlying_tWgP H.room_tWg (mQ.r hF.2.1).choose_spec fC hF
 refine Ì λa g=> ?_;replace hF:=fC hF g;clear g;refine mE (l:={l with w:=a}) z hF λc hF=>⟨B,U,_,λ_=>ć Ķ fj U U (by k_ne) U H.f_relMerge (x_relMerge_n L) (x_relMerge_b L) (x_relMerge_x L) (x_relMerge_f L) (by simp[þ,fM]),?_⟩;walk_nrm;have e:lY (λ_=>True) (kx {l with w:=c}) b:=⟨À J.1,À J.2,λ_ _ _ _ _ _ _ _=>trivial⟩;have C:SW (λ_=>True) (kx {l with w:=c}) b (kx {l with w:=c}).w:=⟨λj h=>h.elim,hF.2.1,trivial⟩;have M:(kx {l with w:=c}).d=0:=B;generalize kx {l with w:=c}=l2 at e C M|-;replace hF:=C;clear C z B;apply iX e hF (n:=10);iterate 3 w_go fC
 refine Ì λa g=> ?_;replace hF:=fC hF g;clear g;refine rI (l:={l2 with w:=a}) e hF (À U) U (λ_=>ē ù fj U U (by k_ne) U H.f_disable (Œ L) (œ L) (Ŕ L)<|ŕ L) λT hF=> ?_;walk_nrm;have V:Ï l2.d #[jw ù]=1:=by rw[M];rfl
 rw[V];apply iX (l:={l2 with d:=1,w:=T}) e hF (n:=50);iterate 2 w_go fC
 u_defer fC hF
 iterate 8 w_go fC
 u_bub fC hF
 iterate 11 w_go fC
 u_call H.f_uAdd (nm_uAdd L) uAddFn fC hF
 iterate 10 w_go fC
 refine Ì λa g=> ?_;replace hF:=fC hF g;clear g;refine mE (l:={l2 with d:=1,w:=a}) e hF λc hF=>⟨U,U,λv=>⟨_,λa q D=>(Ō U U (by k_ne) U H.f_addU64 (Κ L) (Λ L) (Μ L) Ô (Ν L) U U q D).trans fP,?_⟩⟩;walk_nrm;have N:Ô.wrap (v+18446744069414584320)=Ô.wrap (v+qH):=rfl;rw[N];clear N;obtain⟨s,E⟩:∃s,Ô.wrap (v+qH)=s:=⟨_,U⟩;simp only[E];have F:0<=s:=by rw[<-E];have:Ô.wrap (v+qH)=(v+qH)%18446744073709551616:=rfl;rw[this];omega
 clear E v;by_cases p:s=0\/(fY<=s/\s<1000000*fY/\s%fY<1000000)
 .rw[if_pos p];by_cases o:s=0
  .subst o;clear p F;show pX P 1 _;let⟨n,m⟩:=m;refine⟨n+150,?_⟩;repeat(first|refine ui ?_|q_go)
   q_leave1 H.f_uAdd
   repeat(first|refine ui ?_|q_go)
   q_en H L
   q_leave0 H.f_add
   repeat(first|refine ui ?_|q_go)
   q_leave0 H.f_done
   exact HR Z m
  .have W:=p.resolve_left o;clear p o F;let⟨X,Y,c6⟩:=W;have q4:(4294967296:Int)<=s:=X;have I:s<1000000*4294967296:=Y;have O:s%4294967296<1000000:=c6;have f1:=EZ s Z I O;have t:=E1 s Z I O;obtain⟨x,g1⟩:∃x,(s/4294967296+2147483648)%4294967296-2147483648=x:=⟨_,U⟩;have g2:¬x<0:=Z
   have g3:0<x:=Z
   by_cases u:s%4294967296=0
   .rw[u]at t;show pX P 1 _;let⟨n,m⟩:=m;refine⟨n+150,?_⟩;repeat(first|refine ui ?_|q_go)
    q_leave1 H.f_uAdd
    repeat(first|refine ui ?_|q_go)
    q_en H L
    q_leave0 H.f_add
    repeat(first|refine ui ?_|q_go)
    q_leave0 H.f_done
    exact HR Z m
   .obtain⟨r,g4⟩:∃r,s%4294967296=r:=⟨_,U⟩;rw[g4]at t u;have S:r%4294967296=r:=Z
    have g6:(r !=0)=Î:=by simpa using u
    show pX P 1 _;let⟨n,m⟩:=m;refine⟨n+150,?_⟩;repeat(first|refine ui ?_|q_go)
    q_leave1 H.f_uAdd
    repeat(first|refine ui ?_|q_go)
    q_en H L
    q_leave0 H.f_add
    repeat(first|refine ui ?_|q_go)
    q_leave0 H.f_done
    exact HR Z m
 .rw[if_neg p];by_cases o:0<s/\s<1000000
  .rw[if_pos o];let⟨q4,I⟩:=o;clear p F;have f1:=EZ s Z Z Z;have t:=E1 s Z Z Z;have g1:(s/4294967296+2147483648)%4294967296-2147483648=0:=Z
   have S:s%4294967296=s:=Z
   rw[S]at t;have g6:(s !=0)=Î:=by simp;omega
   have X:(s==0)=É:=by simp;omega
   have O:(s.toNat:Int)=s:=Z
   apply iX (l:={l2 with d:=1,w:=c}) e hF (n:=150);iterate 3 w_go fC
   u_leave1 H.f_uAdd fC hF
   iterate 89 w_go fC
   u_call H.f_uLoad (ŧ L) Ŷ fC hF
   iterate 9 w_go fC
   refine Ì λa g=> ?_;replace hF:=fC hF g;clear g;refine mE (l:={l2 with d:=1,w:=a}) e hF λc hF=>⟨U,U,λv=>⟨_,λa q=>Ĉ U U (by k_ne) U H.f_loadU64 (İ L) (ı L) (Ĳ L) Ô (ĳ L) U q,?_⟩⟩;show fi P É (if v=(s.toNat:Int)then K1 P É b (E2 P) s.toNat else λ_ _=>True) _ _;by_cases u:v=(s.toNat:Int)
   .rw[if_pos u];rw[O]at u;subst u;walk_nrm;have Y:(v !=v)=É:=fj
    apply iX (l:={l2 with d:=1,w:=c}) e hF (n:=150);iterate 3 w_go fC
    u_leave1 H.f_uLoad fC hF
    iterate 10 w_go fC
    u_call H.f_uStore (nm_uStore L) uStoreFn fC hF
    iterate 5 w_go fC
    refine Ì λa g=> ?_;replace hF:=fC hF g;clear g;refine mE (l:={l2 with d:=1,w:=a}) e hF λc hF=>⟨U,U,_,λa x q D=>stepG_store_atomic U U (by k_ne) U H.f_storeU64 (x_storeU64_n L) (x_storeU64_b L) (x_storeU64_x L) (x_storeU64_f L) U U q D,?_⟩;walk_nrm;obtain⟨r,W⟩:∃r,v.toNat=r+1:=⟨v.toNat-1,Z⟩;rw[W];apply iX (l:={l2 with d:=1,w:=c}) e hF (n:=150);iterate 2 w_go fC
    u_leave0 H.f_uStore fC hF
    iterate 24 w_go fC
    refine Ì λa g=> ?_;replace hF:=fC hF g;clear g;exact ahS H e m r v _ _ _ _ _ _ _ _ _ _ _ _ _ _ _ _ _ _ _ _ _ _ _ _ _ _ _ _ _ _ _ _ _ _ _ _ _ _ _ _ _ _ _ _ _ _ _ _ _ _ _ _ _ _ _ _ _ _ _ _ _ _ _ _ _ _ _ _ _ _ _ _ _ _ _ _ _ _ _ _ _ _ _ _ _ _ _ _ _ _ _ _ _ _ _ _ _ _ _ _ _ _ _ _ _ _ _ _ _ _ _ _ _ _ a hF Z Z
   .rw[if_neg u];exact .fB λ_ _=>trivial
  .rw[if_neg o];trivial
end
def RT(_ _:Ð):Prop:=True
def fA{w₁:Ð}(_:True)(_:RT w w₁):True:=trivial
def ahU(s:Int)(a:0<=s)(b:s<9223372036854775808)(h:s%4294967296<1000000):bits .and Ô s 2147483648=0:=by obtain⟨n,rfl⟩:=Int.eq_ofNat_of_zero_le a;have h:=(bits_nat Ô 63 A û n 2147483648 Z A).1;rw[YA n Z]at h;simpa using h
def ahV(s:Int)(a:0<=s)(c:s<9223372036854775808)(h:s%4294967296<1000000):bits .and Ô s 2147483647=s%4294967296:=by
 have h:=bits_mask Ô 63 A û 31 A s a Z;have e:((2:Int)^31-1)=2147483647:=A
 have b:((2:Int)^31)=2147483648:=A
 rw[e,b]at h;rw[h];omega
section
variable(P:ġ)(L:Ŋ)(f:Bool)(b:Nat)(j:Jd)(c:Ā)(m:List Ā)(l:fe)
def YC(g:Å):Prop:=∃T:Array ì,g=G ((base L.wait).at ⟨T,[]⟩ [ļ<|L7 L,ο<|L7 L,ŝ 0]) (c::m)/\T.size=84/\T[0]?=Ä (ü<|Ä ⟨b,0,Í⟩)
def YD(v:Int)(g:Å):Prop:=g.status=Æ/\
 (∃a,(∀w:Ð,w.cell? (fM b)=Ä (é Ô v)->w.frozen? (fM b)=É->í P f g w=Ŭ a (w.setCell (fM b)<|é Ô<|Ô.wrap<|v+1) #[ku<|fM b,mO<|fM b])/\fi P f (if v%fY=0 then P7 P f b j else K3 P f b j) l a)/\
 ∃a,(∀(w:Ð) (x:Int),x≠v->w.cell? (fM b)=Ä (é Ô x)->w.frozen? (fM b)=É->í P f g w=Ŭ a w #[ku<|fM b])/\∀w,Ĺ P f RT ã (λg _=>YC L b c m g) 10 a w
def Q0(g:Å):Prop:=g.status=Æ/\∀v,∃a,(∀w:Ð,w.cell? (fM b)=Ä (é Ô v)->í P f g w=Ŭ a w #[ku<|fM b])/\(0<=v/\v<1000000->fi P f (EB P f b j) l a)/\
 ((fY<=v/\v<fY*2147483648/\v%fY<1000000)->∀w,Ĺ P f RT ã (λg _=>YD P L f b j c m l v g) 60 a w)
end
section
variable{Ψ:Ð->Prop}{P:ġ}{L:Ŋ}{f:Bool}{b:Nat}{l:fe}{j:Jd}{c:Ā}{a:ś}{k:List Ź}{m:List Ā}
def YE(H:ű P L)(p:lY Ψ l b)(M:SW Ψ l b l.w)(s:l.d=1)(D:∀o,SW Ψ l b o->fi P f j {l with d:=0,w:=o} (G (c.at (a.put ((Q[i]?).bind (·.dst))<|ŉ #[])<|È Q jJ::k) m)) (h:YC L b (c.at a<|È Q (i::jJ)::k) m g) (w:Ð):Ĺ P f RT ã (λg _=>Q0 P L f b j (c.at a<|È Q (i::jJ)::k) m l g) 30 g w:=by
 lib_facts;obtain⟨T,rfl,W,N⟩:=h;obtain⟨v0,v1,v2,v3,v4,v5,v6,v7,v8,v9,v10,v11,v12,v13,v14,v15,v16,v17,v18,v19,v20,v21,v22,v23,v24,v25,v26,v27,v28,v29,v30,v31,v32,v33,v34,v35,v36,v37,v38,v39,v40,v41,v42,v43,v44,v45,v46,v47,v48,v49,v50,v51,v52,v53,v54,v55,v56,v57,v58,v59,v60,v61,v62,v63,v64,v65,v66,v67,v68,v69,v70,v71,v72,v73,v74,v75,v76,v77,v78,v79,v80,v81,v82,v83,rfl⟩:=array84 T W;simp only[List.getElem?_toArray,List.getElem?_cons_zero,Ŀ]at N;subst N;have hF:True:=trivial;simp only[L7,Ų,waitFn,Č];iterate 6 w_go fA
 u_call H.f_uLoad (ŧ L) Ŷ fA hF
 iterate 9 w_go fA
 refine Ì λo e=> ?_;clear e hF o;refine⟨U,λv=>⟨_,λo q=>Ĉ U U (by k_ne) U H.f_loadU64 (İ L) (ı L) (Ĳ L) Ô (ĳ L) U q,λE=> ?_,λE w=> ?_⟩⟩
 .walk_nrm;let⟨u,x⟩:=E;have X:=EZ v Z Z Z;have F:=E1 v Z Z Z;have Y:(v/4294967296+2147483648)%4294967296-2147483648=0:=Z
  have O:v%4294967296=v:=Z
  rw[O]at F;have hF:=M;apply iX (l:=l) p hF (n:=150);iterate 3 w_go fC
  u_leave1 H.f_uLoad fC hF
  iterate 27 w_go fC
  refine Ì λo e=> ?_;replace hF:=fC hF e;clear e;refine rI (l:={l with w:=o}) p hF (Á U) U (λ_=>ē ð fj U U (by k_ne) U H.f_enable (Ĩ L) (ĩ L) (Ī L)<|ī L) λz hF=> ?_;have B:Ï l.d #[jw ð]=0:=by rw[s];rfl
  rw[B];walk_nrm;apply iX (l:={l with d:=0,w:=z}) p hF (n:=50);iterate 3 w_go fC
  u_conv H.underlying_tWgP H.room_tWg (mQ.r hF.2.1).choose_spec fC hF
  refine Ì λo e=> ?_;replace hF:=fC hF e;clear e;refine mE (l:={l with d:=0,w:=o}) p hF λr hF=>⟨U,U,_,λ_=>ć ľ fj U U (by k_ne) U H.f_acquire (Ŗ L) (ŗ L) (Ř L) (ř L) (by simp[þ,fM]),?_⟩;walk_nrm;by_cases t:v=0
  .subst t;apply iX (l:={l with d:=0,w:=r}) p hF (n:=50);iterate 19 w_go fC
   u_leave0 H.f_wait fC hF
   refine Ì λo e=> ?_;replace hF:=fC hF e;clear e;exact D _ hF
  .have g6:(v==0)=É:=by simp;omega
   apply iX (l:={l with d:=0,w:=r}) p hF (n:=50);iterate 19 w_go fC
   u_leave0 H.f_wait fC hF
   refine Ì λo e=> ?_;replace hF:=fC hF e;clear e;exact D _ hF
 .walk_nrm;let⟨S,V,c6⟩:=E;have q4:(4294967296:Int)<=v:=S;have q5:v<4294967296*2147483648:=V;have I:v%4294967296<1000000:=c6;clear S V;have F:=ahV v Z Z I;obtain⟨J,Y⟩:∃J,(v/4294967296+2147483648)%4294967296-2147483648=J:=⟨_,U⟩;have g2:(J==0)=É:=by simp;omega
  have g3:(v+1)%18446744073709551616=v+1:=Z
  have zf:Ô.wrap (v+1)=v+1:=K0 Z Z;obtain⟨y,g4⟩:∃y,v%4294967296=y:=⟨_,U⟩;have X:=ahU v Z Z I;rw[g4]at F I;have O:y%4294967296=y:=Z
  have hF:True:=trivial;iterate 3 w_go fA
  u_leave1 H.f_uLoad fA hF
  iterate 32 w_go fA
  u_call H.f_uCas (nm_uCas L) uCasFn fA hF
  iterate 11 w_go fA
  refine Ì λo e=> ?_;clear e hF o;refine⟨U,⟨_,λo q u=>(stepG_cas_hit (v:=v) (n:=v+1) U U (by k_ne) U H.f_casU64 (Ξ L) (Ο L) (Ρ L) Ô (Τ L) U U U q u).trans (by rw[zf];rfl),?_⟩,_,λo x lk q u=>stepG_cas_miss (v:=x) (old:=v) (n:=v+1) U U (by k_ne) U H.f_casU64 (Ξ L) (Ο L) (Ρ L) Ô (Τ L) U U U q u lk,λw=> ?_⟩
  .walk_nrm;have hF:=M;by_cases t:v%fY=0
   .rw[if_pos t];have t:v%4294967296=0:=t;have:y=0:=Z
    subst this;apply iX (l:=l) p hF (n:=150);iterate 3 w_go fC
    u_leave1 H.f_uCas fC hF
    iterate 15 w_go fC
    u_conv H.underlying_tPU32 H.room_tU32 (mQ.C hF.2.1).choose_spec fC hF
    refine Ì λo e=> ?_;replace hF:=fC hF e;clear e;refine mE (l:={l with w:=o}) p hF λr hF=>⟨s,U,_,λ_=>ć ρ fj U U (by k_ne) U H.f_raceWrite (x_raceWrite_n L) (x_raceWrite_b L) (x_raceWrite_x L) (x_raceWrite_f L) (by simp[þ,gP]),?_⟩;walk_nrm;apply iX (l:={l with w:=r}) p hF (n:=150);iterate 23 w_go fC
    refine Ì λo e=> ?_;replace hF:=fC hF e;clear e;refine mE (l:={l with w:=o}) p hF λr hF=>⟨s,U,U,λo q=>ĭ U U U H.f_semacquire (Ě L) (ě L) (Ĝ L) (ĝ L) (by simp[þ,gP]) q,_,λo n K q u=>(ō (n:=n) U U (by k_ne) U H.f_semacquire (Ě L) (ě L) (Ĝ L) (ĝ L) (by simp[þ,gP]) q K u).trans fP,?_⟩;walk_nrm;apply iX (l:={l with w:=r}) p hF (n:=50);iterate 6 w_go fC
    u_call H.f_uLoad (ŧ L) Ŷ fC hF
    iterate 9 w_go fC
    refine Ì λo e=> ?_;replace hF:=fC hF e;clear e;refine mE (l:={l with w:=o}) p hF λr hF=>⟨s,U,λx=>⟨_,λo q=>Ĉ U U (by k_ne) U H.f_loadU64 (İ L) (ı L) (Ĳ L) Ô (ĳ L) U q,?_⟩⟩;show fi P f (if x=0 then EB P f b j else λ_ _=>True) _ _;by_cases C:x=0
    .subst C;rw[if_pos U];walk_nrm;apply iX (l:={l with w:=r}) p hF (n:=50);iterate 3 w_go fC
     u_leave1 H.f_uLoad fC hF
     iterate 7 w_go fC
     refine Ì λo e=> ?_;replace hF:=fC hF e;clear e;refine rI (l:={l with w:=o}) p hF (Á U) U (λ_=>ē ð fj U U (by k_ne) U H.f_enable (Ĩ L) (ĩ L) (Ī L)<|ī L) λz hF=> ?_;have B:Ï l.d #[jw ð]=0:=by rw[s];rfl
     rw[B];walk_nrm;apply iX (l:={l with d:=0,w:=z}) p hF (n:=50);iterate 3 w_go fC
     u_conv H.underlying_tWgP H.room_tWg (mQ.r hF.2.1).choose_spec fC hF
     refine Ì λo e=> ?_;replace hF:=fC hF e;clear e;refine mE (l:={l with d:=0,w:=o}) p hF λr hF=>⟨U,U,_,λ_=>ć ľ fj U U (by k_ne) U H.f_acquire (Ŗ L) (ŗ L) (Ř L) (ř L) (by simp[þ,fM]),?_⟩;walk_nrm;apply iX (l:={l with d:=0,w:=r}) p hF (n:=50);iterate 9 w_go fC
     u_leave0 H.f_wait fC hF
     refine Ì λo e=> ?_;replace hF:=fC hF e;clear e;exact D _ hF
    .rw[if_neg C];exact .fB λ_ _=>trivial
   .rw[if_neg t];have t:¬v%4294967296=0:=t;have g6:(y==0)=É:=by simp;omega
    apply iX (l:=l) p hF (n:=150);iterate 3 w_go fC
    u_leave1 H.f_uCas fC hF
    iterate 34 w_go fC
    refine Ì λo e=> ?_;replace hF:=fC hF e;clear e;refine mE (l:={l with w:=o}) p hF λr hF=>⟨s,U,U,λo q=>ĭ U U U H.f_semacquire (Ě L) (ě L) (Ĝ L) (ĝ L) (by simp[þ,gP]) q,_,λo n K q u=>(ō (n:=n) U U (by k_ne) U H.f_semacquire (Ě L) (ě L) (Ĝ L) (ĝ L) (by simp[þ,gP]) q K u).trans fP,?_⟩;walk_nrm;apply iX (l:={l with w:=r}) p hF (n:=50);iterate 6 w_go fC
    u_call H.f_uLoad (ŧ L) Ŷ fC hF
    iterate 9 w_go fC
    refine Ì λo e=> ?_;replace hF:=fC hF e;clear e;refine mE (l:={l with w:=o}) p hF λr hF=>⟨s,U,λx=>⟨_,λo q=>Ĉ U U (by k_ne) U H.f_loadU64 (İ L) (ı L) (Ĳ L) Ô (ĳ L) U q,?_⟩⟩;show fi P f (if x=0 then EB P f b j else λ_ _=>True) _ _;by_cases C:x=0
    .subst C;rw[if_pos U];walk_nrm;apply iX (l:={l with w:=r}) p hF (n:=50);iterate 3 w_go fC
     u_leave1 H.f_uLoad fC hF
     iterate 7 w_go fC
     refine Ì λo e=> ?_;replace hF:=fC hF e;clear e;refine rI (l:={l with w:=o}) p hF (Á U) U (λ_=>ē ð fj U U (by k_ne) U H.f_enable (Ĩ L) (ĩ L) (Ī L)<|ī L) λz hF=> ?_;have B:Ï l.d #[jw ð]=0:=by rw[s];rfl
     rw[B];walk_nrm;apply iX (l:={l with d:=0,w:=z}) p hF (n:=50);iterate 3 w_go fC
     u_conv H.underlying_tWgP H.room_tWg (mQ.r hF.2.1).choose_spec fC hF
     refine Ì λo e=> ?_;replace hF:=fC hF e;clear e;refine mE (l:={l with d:=0,w:=o}) p hF λr hF=>⟨U,U,_,λ_=>ć ľ fj U U (by k_ne) U H.f_acquire (Ŗ L) (ŗ L) (Ř L) (ř L) (by simp[þ,fM]),?_⟩;walk_nrm;apply iX (l:={l with d:=0,w:=r}) p hF (n:=50);iterate 9 w_go fC
     u_leave0 H.f_wait fC hF
     refine Ì λo e=> ?_;replace hF:=fC hF e;clear e;exact D _ hF
    .rw[if_neg C];exact .fB λ_ _=>trivial
  .walk_nrm;have hF:True:=trivial;iterate 3 w_go fA
   u_leave1 H.f_uCas fA hF
   iterate 5 w_go fA
   exact Ì λ_ _=>⟨_,U,fj,fj⟩
end
section
variable{Ψ:Ð->Prop}{L:Ŋ}{l:fe}{e:Jd}{k:List Ź}
def ahW{D:Ð->Ð->Array ė->Prop}{b:Å->Ð->Prop}(h:Ĺ P yQ RT D b n g w):Ĺ P yQ RT D b n g u:=by
 cases n with
 |zero=>exact λa _=>h a trivial
 |succ n=>exact h.imp (λq a _=>q a trivial) λq=>⟨q.1,λa _=>q.2 a trivial⟩
def YF{D:Ð->Ð->Array ė->Prop}{b c:Å->Prop}(d:∀g,b g->∀w,Ĺ P yQ RT D (λg _=>c g) m g w):∀{n:Nat} {g:Å} {w:Ð},Ĺ P yQ RT D (λg _=>b g) n g w->Ĺ P yQ RT D (λg _=>c g) (n+m) g w:=by
 intro n
 induction n with
 |zero=>intro g w h;rw[Nat.zero_add];exact d g (h w trivial) w
 |succ n i=>
  intro g w h;rcases h with h|⟨j,h⟩
  .exact(d g (h w trivial) w).mono Z
  .rw[show n+1+m=(n+m)+1 by omega];refine Goes.step j λe r=> ?_;have a:=h e r;cases f:í P yQ g e with
   |go k l o=>
    rw[f,Ŵ]at a;rw[Ŵ];exact⟨a.1,i a.2⟩
   |_=>rw[f]at a;exact a.elim
def YG{S:Å->Prop}(f:∀g,S g->g.status=Æ)(h:∀w,Ĺ P yQ RT ã (λg _=>S g) (n+1) g w):g.status=Æ/\(S g\/∀a,∃b,í P yQ g a=Ŭ b a #[]/\∀w,Ĺ P yQ RT ã (λg _=>S g) n b w):=by
 by_cases d:S g
 .exact⟨f g d,À d⟩
 .rcases h default with q|⟨i,q⟩
  .exact absurd (q default trivial) d
  .refine⟨i,Á λa=> ?_⟩;have c:=q a trivial;cases e:í P yQ g a with
   |go b m o=>
    rw[e,Ŵ]at c;let⟨⟨j,k⟩,l⟩:=c;subst j k;exact⟨b,U,λw=>ahW l⟩
   |_=>rw[e]at c;exact c.elim
def ahX(H:ű P L)(B:60<=j)(D:lY Ψ l b)(E:SW Ψ l b l.w)(C:l.d=1)(F:∀a,SW Ψ l b a->fi P yQ e {l with d:=0,w:=a} (G (f.at (y.put ((Q[i]?).bind (·.dst))<|ŉ #[])<|È Q jJ::k) qX)) (I:n<=j) (h:∀w,Ĺ P yQ RT ã (λg _=>Q0 P L yQ b e (f.at y<|È Q (i::jJ)::k) qX l g) n g w):P8 P yQ j b e (.gd n) l g:=by
 refine⟨C,λp g=>match p with
  |.gd n=>n<=j/\∀w,Ĺ P yQ RT ã (λg _=>Q0 P L yQ b e (f.at y<|È Q (i::jJ)::k) qX l g) n g w
  |.ld v m=>m<=j/\fY<=v/\∀w,Ĺ P yQ RT ã (λg _=>YD P L yQ b e (f.at y (È Q (i::jJ)::k)) qX l v g) m g w,⟨I,h⟩,λp g J=> ?_⟩
 match p,J with
 |.gd (n+1),⟨h1,h2⟩=>
  let⟨r,u⟩:=YG (λg h=>h.1) h2;refine⟨r,h1,u.imp (λq=>⟨ô _,λw a _=>q⟩) λq a=> ?_⟩;let⟨s,c,o⟩:=q a;exact⟨s,c,Z,o⟩
 |.gd 0,⟨_,h2⟩=>
  have q:=h2 default default trivial;refine⟨q.1,λv=> ?_⟩;let⟨s,c,o,x⟩:=q.2 v;refine⟨s,c,?_⟩;by_cases z:0<=v/\v<fY
  .rw[if_pos z];exact λt=>o ⟨z.1,t⟩
  .rw[if_neg z];exact λt=>⟨60,B,B,t.1,x t⟩
 |.ld v (m+1),⟨h1,h0,h2⟩=>
  let⟨r,u⟩:=YG (λg h=>h.1) h2;refine⟨r,h0,h1,u.imp (λq=>⟨ô _,h0,λw a _=>q⟩) λq a=> ?_⟩;let⟨s,c,o⟩:=q a;exact⟨s,c,Z,h0,o⟩
 |.ld v 0,⟨_,h0,h2⟩=>
  let⟨r,⟨m,c,o⟩,q,x,s⟩:=h2 default default trivial;exact⟨r,h0,⟨m,c,o⟩,q,x,40,Z,Z,λw=>YF (λg t=>YE H D E C F t)<|s w⟩
def YH(H:ű P L)(o:60<=j)(a:lY Ψ l b)(hF:SW Ψ l b l.w)(p:l.d=0)(h:∀c,SW Ψ l b c->fi P yQ e {l with d:=0,w:=c} (G (f.at (y.put ((Q[i]?).bind (·.dst))<|ŉ #[])<|È Q jJ::k) qX)): fi P yQ (qI P yQ j b e .iW) l (G ((base L.wait).at ⟨#[ü<|Ä ⟨b,0,Í⟩,Â,Â,Â,Â,Â,Â,Â,Â,Â,Â,Â,Â,Â,Â,Â,Â,Â,Â,Â,Â,Â,Â,Â,Â,Â,Â,Â,Â,Â,Â,Â,Â,Â,Â,Â,Â,Â,Â,Â,Â,Â,Â,Â,Â,Â,Â,Â,Â,Â,Â,Â,Â,Â,Â,Â,Â,Â,Â,Â,Â,Â,Â,Â,Â,Â,Â,Â,Â,Â,Â,Â,Â,Â,Â,Â,Â,Â,Â,Â,Â,Â,Â,Â],[]⟩ [ļ<|Ų L])<|f.at y (È Q (i::jJ)::k)::qX):=by
 lib_facts;simp only[Ų,waitFn,Č];apply iX a hF (n:=40);iterate 3 w_go fC
 refine Ì λc q=> ?_;replace hF:=fC hF q;refine rI a hF (À U) U (λ_=>ē ù fj U U (by k_ne) U H.f_disable (Œ L) (œ L) (Ŕ L)<|ŕ L) λt hF=> ?_;walk_nrm;have r:Ï l.d #[jw ù]=1:=by rw[p];rfl
 rw[r];refine mE a hF λm hF=>⟨40,Z,ahX (l:={l with d:=1,w:=m}) H o a hF U h Z λw=>YF (λg s=>YE (l:={l with d:=1,w:=m}) H a hF U h s) ?_⟩;replace hF:True:=trivial;iterate 3 w_go fA
 exact Ì λ_ _=>⟨_,U,fj,fj⟩
end
section
variable(P:ġ)(e:Bool)(b:Nat)(J:Jd)
def rd1:Jd:=λl g=>l.d=1/\Hf P e (.read<|gP b) J l g
def Lz:Jd:=λl g=>l.d=1/\PQ P e (fM b) fY (λs=>if s=fY then fi P e (rd1 P e b J)else if fY<s/\s<1000000*fY/\s%fY=0 then fi P e J else λ_ _=>True) l g
end
def ahY(F:Ph)(j:Nat)(a:Nat->Nat):Qb F j a=Lz F.P Î F.C (K6 F j a):=rfl
section
variable{Ψ:Ð->Prop}{P:ġ}{L:Ŋ}{e:Bool}{b:Nat}{l:fe}{f:Jd}{c:Ā}{k:List Ź}
def YI(H:ű P L)(h:lY Ψ l b)(hF:SW Ψ l b l.w)(E:l.d=0)(t:∀g,SW Ψ l b g->fi P e f {l with d:=0,w:=g} (G (c.at (y.put ((Q[i]?).bind (·.dst))<|ŉ #[])<|È Q jJ::k) qX)): fi P e (Lz P e b f) l (G ((base L.add).at ⟨#[ü<|Ä ⟨b,0,Í⟩,é Ņ 1,Â,Â,Â,Â,Â,Â,Â,Â,Â,Â,Â,Â,Â,Â,Â,Â,Â,Â,Â,Â,Â,Â,Â,Â,Â,Â,Â,Â,Â,Â,Â,Â,Â,Â,Â,Â,Â,Â,Â,Â,Â,Â,Â,Â,Â,Â,Â,Â,Â,Â,Â,Â,Â,Â,Â,Â,Â,Â,Â,Â,Â,Â,Â,Â,Â,Â,Â,Â,Â,Â,Â,Â,Â,Â,Â,Â,Â,Â,Â,Â,Â,Â,Â,Â,Â,Â,Â,Â,Â,Â,Â,Â,Â,Â,Â,Â,Â,Â,Â,Â,Â,Â,Â,Â,Â,Â,Â,Â,Â,Â,Â,Â,Â,Â,Â],[]⟩ [ļ<|body_add L])<|c.at y (È Q (i::jJ)::k)::qX):=by
 lib_facts;simp only[body_add,addFn,Č];apply iX h hF (n:=40);iterate 12 w_go fC
 refine Ì λg a=> ?_;replace hF:=fC hF a;clear a;refine rI (l:={l with w:=g}) h hF (À U) U (λ_=>ē ù fj U U (by k_ne) U H.f_disable (Œ L) (œ L) (Ŕ L)<|ŕ L) λj hF=> ?_;walk_nrm;have F:Ï l.d #[jw ù]=1:=by rw[E];rfl
 rw[F];apply iX (l:={l with d:=1,w:=j}) h hF (n:=50);iterate 2 w_go fC
 u_defer fC hF
 iterate 8 w_go fC
 u_bub fC hF
 iterate 11 w_go fC
 u_call H.f_uAdd (nm_uAdd L) uAddFn fC hF
 iterate 10 w_go fC
 refine Ì λg a=> ?_;replace hF:=fC hF a;clear a;refine mE (l:={l with d:=1,w:=g}) h hF λq hF=>⟨U,U,λv=>⟨_,λg I J=>(Ō U U (by k_ne) U H.f_addU64 (Κ L) (Λ L) (Μ L) Ô (Ν L) U U I J).trans fP,?_⟩⟩;walk_nrm;have u:Ô.wrap (v+4294967296)=Ô.wrap (v+fY):=rfl;rw[u];clear u;obtain⟨s,x⟩:∃s,Ô.wrap (v+fY)=s:=⟨_,U⟩;simp only[x];clear x v;by_cases m:s=fY
 .rw[if_pos m];have o:s=4294967296:=m;clear m;subst o;apply iX (l:={l with d:=1,w:=q}) h hF (n:=150);iterate 3 w_go fC
  u_leave1 H.f_uAdd fC hF
  iterate 48 w_go fC
  u_conv H.underlying_tPU32 H.room_tU32 (mQ.C hF.2.1).choose_spec fC hF
  refine Ì λg a=> ?_;replace hF:=fC hF a;clear a;refine mE (l:={l with d:=1,w:=g}) h hF λq hF=>⟨U,U,_,λ_=>ć .read fj U U (by k_ne) U H.f_raceRead (x_raceRead_n L) (x_raceRead_b L) (x_raceRead_x L) (x_raceRead_f L) (by simp[þ,gP]),?_⟩;walk_nrm;apply iX (l:={l with d:=1,w:=q}) h hF (n:=150);iterate 39 w_go fC
  refine Ì λg a=> ?_;replace hF:=fC hF a;clear a;refine rI (l:={l with d:=1,w:=g}) h hF (Á U) U (λw=>EY ð fj U H.f_enable (Ĩ L) (ĩ L) (Ī L) (ī L) w) λj hF=> ?_;have r:Ï 1 #[jw ð]=0:=rfl;rw[r];apply iX (l:={l with d:=0,w:=j}) h hF (n:=10);u_leave0 H.f_add fC hF;refine Ì λg a=> ?_;replace hF:=fC hF a;clear a;exact t _ hF
 .rw[if_neg m];by_cases o:fY<s/\s<1000000*fY/\s%fY=0
  .rw[if_pos o];let⟨z,B,C⟩:=o;have N:(4294967296:Int)<s:=z;have D:s<1000000*4294967296:=B;have K:s%4294967296=0:=C;clear m z B C;have O:=EZ s Z D Z;have M:=E1 s Z D Z;rw[K]at M;obtain⟨p,S⟩:∃p,(s/4294967296+2147483648)%4294967296-2147483648=p:=⟨_,U⟩;have T:¬p<0:=Z
   have V:0<p:=Z
   have W:(p==1)=É:=by simp;omega
   apply iX (l:={l with d:=1,w:=q}) h hF (n:=150);iterate 3 w_go fC
   u_leave1 H.f_uAdd fC hF
   iterate 83 w_go fC
   refine Ì λg a=> ?_;replace hF:=fC hF a;clear a;refine rI (l:={l with d:=1,w:=g}) h hF (Á U) U (λw=>EY ð fj U H.f_enable (Ĩ L) (ĩ L) (Ī L) (ī L) w) λj hF=> ?_;have r:Ï 1 #[jw ð]=0:=rfl;rw[r];apply iX (l:={l with d:=0,w:=j}) h hF (n:=10);u_leave0 H.f_add fC hF;refine Ì λg a=> ?_;replace hF:=fC hF a;clear a;exact t _ hF
  .rw[if_neg o];trivial
end
def AN:χ->Nat->χ
 |.seq a _,0=>a
 |.seq _ b,_=>b
 |π _ a _,0=>a
 |π _ _ b,_=>b
 |υ _ a,_=>a
 |.loop a,_=>a
 |c,_=>c
def kY(f:Func)(l:List Nat):χ:=l.foldl AN<|f.body.getD ah
def pj(f:Ļ)(a b:Array ì):ż:={target:=.fn (.func f) a,args:=b}
def nW(P:ġ):Ā:={(default:Ā)with fn:=P.funcs.size,defers:=[],mode:=.panicking [Ś]}
section
variable{b:Ā}{a:ś}
def YJ{h:Array ĺ}(c:Q[i]?=Ä o)(j:ä o (Ħ Q a.tmps)=Î)(k:b.kind≠Ė) (e:o.op=.defer {callee:=Ĥ qQ,args:=#[],argTypes:=h}) (g:a.eval qQ=.func (.func F) #[] d): í P yQ (G (b.at a<|È Q (i::jJ)::L) qX) w=Ŭ (G (b.at (Ş ⟨a.tmps,pj F d #[]::a.defers⟩ o.dst Â)<|È Q jJ::L) qX) w #[]:=by
 have l:(à a.eval o).run P w=.ok (.defer<|pj F d #[]) w:=by unfold à;simp[e,Ń,č,g,pj]
 have m:(à a.eval o).events P w #[]=#[]:=by unfold à;simp[e,Ń,č,g]
 have n:(b.at ⟨a.tmps,pj F d #[]::a.defers⟩<|È Q (i::jJ)::L).finish Â=b.at (Ş ⟨a.tmps,pj F d #[]::a.defers⟩ o.dst Â) (È Q jJ::L):=by rw[Ĭ,c];rfl
 have p:(b.kind==Ė)=É:=by simpa using k
 rw[Υ c j,<-n];simp[stepG.apply,l,m,G,Frame.at,p,ğ,ċ]
def YK{l:Array ĺ}(m:Q[i]?=Ä o)(n:ä o (Ħ Q a.tmps)=Î)(p:b.kind≠Ė) (h:o.op=ţ {callee:=Ĥ qQ,args:=#[],argTypes:=l}) (j:a.eval qQ=.func (.func F) #[] d) (e:P.funcs[F]?=Ä s) (q:(s.name== "runtime.NumGoroutine")=É) (g:s.body=Ä wX): í P yQ (G (b.at a<|È Q (i::jJ)::L) qX) w=Ŭ (G ((base F).at {tmps:=d++æ (s.ntmps-d.size) Â,defers:=[]} [ļ wX])<|b.at a (È Q (i::jJ)::L)::qX) w #[]:=by
 have k:¬s.name= "runtime.NumGoroutine":=by simpa using q
 have r:(à a.eval o).run P w=.ok (.enter F d) w:=by unfold à;simp[h,Ń,č,j,Ũ,ũ,e,k,g]
 have t:(à a.eval o).events P w #[]=#[]:=by unfold à;simp[h,Ń,č,j,Ũ,ũ,e,k,g]
 rw[Α m n p r,<-enter_at d e g];unfold listed;rw[t,ċ]
def ahZ{g:Array ĺ}(d:Q[i]?=Ä o)(h:ä o (Ħ Q a.tmps)=Î)(j:b.kind=Ŏ)(k:b.roundOf=Í)(l:f.mode=ý) (e:o.op=ţ {callee:=.builtin .recover,args:=#[],argTypes:=g}) (q:o.type=t): í P yQ (G (b.at a<|È Q (i::jJ)::L)<|f::qX) w=Ŭ (G (b.at (a.put o.dst ą)<|È Q jJ::L)<|f::qX) w #[]:=by
 have m:(à a.eval o).run P w=.ok .recover w:=by unfold à;simp[e,Ń,Ũ,builtin]
 have n:(à a.eval o).events P w #[]=#[]:=by unfold à;simp[e,Ń,Ũ,builtin]
 have p:(b.at a<|È Q (i::jJ)::L).finish ą=b.at (a.put o.dst ą) (È Q jJ::L):=by rw[Ĭ,d];rfl
 rw[Υ d h,<-p];simp[stepG.apply,m,n,G,Frame.at,j,ğ,ċ,k,tryRecover,l]
def ah0{e:List ż}(i:a.defers=pj F d #[]::e)(g:P.funcs[F]?=Ä s)(j:(s.name== "runtime.NumGoroutine")=É)(h:s.body=Ä wX): í P yQ (G {b.at a L with mode:=ý} qX) w= Ŭ (G ((baseD F).at {tmps:=d++æ (s.ntmps-d.size) Â,defers:=[]} [ļ wX])<|{b.at ⟨a.tmps,e⟩ L with mode:=ý}::qX) w #[]:=by
 have k:¬s.name= "runtime.NumGoroutine":=by simpa using j
 rw[<-enter_atD d g h];simp[G,í,Χ,ŷ,Frame.at,i,pj,Ũ,ũ,g,k,h,ğ,ċ]
def YL(a:P.funcs[F]?=Ä s)(e:(s.name== "runtime.NumGoroutine")=É)(b:s.body=Ä wX): í P yQ (born P<|pj F d #[]) w=Ŭ (G ((baseD F).at {tmps:=d++æ (s.ntmps-d.size) Â,defers:=[]} [ļ wX]) [nW P]) w #[]:=by
 have g:¬s.name= "runtime.NumGoroutine":=by simpa using e
 rw[<-enter_atD d a b];simp[G,í,Χ,ŷ,born,nW,pj,Ũ,ũ,a,g,b,ğ,ċ]
def ah1(d:b.kind=Ŏ)(e:a.defers=[])(f:P.funcs[b.fn]?=Ä s)(c:s.results=#[]): í P yQ (G {b.at a L with mode:=ý} [nW P]) w=Ŭ (G (nW P) []) w:=by have g:=results_none c a.tmps P w;have h:=events_results_none (P:=P) (w:=w) c a.tmps #[];simp[G,í,Χ,doReturn,Frame.at,d,e,f,g,h,nW,Ś,seen,ğ]
def ah2(w:Ð):í P É (G (nW P) []) w=Ŭ {frame:=nW P,callers:=[],status:=ë,dying:=Í} w:=by simp[G,í,Χ,nW,Ś,Frame.catches];rfl
def ah3:pX P 0 (G (nW P) []):=⟨1,.ctl U ah2 ⟨U,U⟩⟩
def ah4(c:b.kind=Ŏ)(d:a.defers=[])(e:P.funcs[b.fn]?=Ä s)(f:s.results=#[]):pX P 0 (G {b.at a L with mode:=ý} [nW P]):= Ly U (λ_=>ah1 c d e f) ah3
def ah5(e:b.kind=Ŏ)(g:a.defers=[])(h:P.funcs[b.fn]?=Ä s)(j:s.results=#[])(k:f.mode=ý)(l:pX P i (G f qX)):pX P i (G {b.at a L with mode:=ý}<|f::qX):= let⟨n,q⟩:=l;⟨n+1,.leaveD e g h j k q⟩
end
def ah6(d:Nat)(t:ĺ)(w:Ð)(a:Array ė)(h:P.underlying t=Ä (.interface<|P.methodsAt t)):(Ω (d+1) t ą ą).events P w a=a:=by simp[Ω,run_underlying h,go_sem]
def ah7(t:ĺ)(w:Ð)(a:Array ė)(h:P.underlying t=Ä (.interface<|P.methodsAt t)):(Op.equal t ą ą).events P w a=a:=ah6 9999 t w a h
def ah8(t:ĺ)(w:Ð)(a:Array ė)(h:P.underlying t=Ä (.interface<|P.methodsAt t)):(binOp .neq t ą ą).events P w a=a:=by simp only[binOp];simp[ah7 t w a h]
section
variable{J:Jd}{l:fe}{b:Ā}{a:ś}
def jS(l:fe):Prop:=∀j,l.O j->j<l.w.heap.size
def fW(a:jS l)(b:Ĺ P yQ RT ã (λc _=>fi P yQ J l c) n g l.w):fi P yQ J l g:= QZ b (λ_ _ _=>trivial) a λ_ _ r h=>h.jL r
def vy(k:Q[i]?=Ä o)(m:ä o (Ħ Q a.tmps)=Î)(n:b.kind≠Ė) (h:∀c,fH l l.w c->uponK o a (λq e=>∃d,mr l d c e (listed P b.fn a o c)/\fi P yQ J d (G (b.at q<|È Q jJ::L) qX)) ((à a.eval o).run P c)): fi P yQ J l (G (b.at a<|È Q (i::jJ)::L) qX):=by
 refine .mk U λc r=> ?_;have f:=h c r;revert f;generalize p:(à a.eval o).run P c=res;intro f;match res,f with
 |.ok (.value v) e,⟨d,g,j⟩=>exact⟨_,e,_,d,ő k m n p,g,j⟩
 |.ok .skip e,⟨d,g,j⟩=>exact⟨_,e,_,d,Ţ k m n p,g,j⟩
def uj(l:fe)(e:ė):Prop:=yz l e/\e.loc≠ź ù/\e.loc≠ź ð
def LA(h:∀e∈V,uj l e)(d:Nat):Ï d V=d:=ņ (λe a=>⟨(h e a).2.1,(h e a).2.2⟩) d
def ah9(b:∀j,l.O j->j<w.heap.size)(c:¬l.q)(a:∀e∈V,uj l e):mr l {l with w:=w} w w V:= ⟨Ç _,λ_ h=>À h,b,U,U,U,U,λ_ _ _ _=>rfl,λ_ _ _ _=>rfl,λ_ _ _=>rfl,U,U,U,λe h=>(a e h).1,(LA a _).symm,U,λq=>absurd q c,U⟩
def oM(d:Q[i]?=Ä o)(f:ä o (Ħ Q a.tmps)=Î)(g:b.kind≠Ė)(j:jS l)(k:¬l.q) (m:∀c,fH l l.w c->(à a.eval o).run P c=.ok (.value v) c) (n:∀c,fH l l.w c->∀e∈(à a.eval o).events P c #[],uj l e) (p:fi P yQ J l (G (b.at (a.put o.dst v)<|È Q jJ::L) qX)):fi P yQ J l (G (b.at a<|È Q (i::jJ)::L) qX):=by refine vy d f g λc r=> ?_;rw[m c r];exact⟨_,ah9 (lX j r) k λe h=>n c r e<|ε h,p.jL r⟩
def gW(l:fe)(x:đ):Prop:=l.M x.block\/l.C x
def gW.r{x:đ}(h:gW l x){w₁:Ð}(r:fH l l.w w₁):w₁.cell? x=l.w.cell? x:=h.elim (λq=>gK<|r.I _ q)<|r.N x
def gW.C{x:đ}(h:gW l x):uj l ⟨ā x,É,É⟩:=by
 refine⟨À ⟨x,U,?_⟩,fj,fj⟩;rcases h with(q|q)|(q|q)
 .exact À q
 .exact Á<|Á ⟨À q,U,U⟩
 .exact Á<|À q
 .exact Á<|Á ⟨Á q,U,U⟩
def pn{x:đ}(f:Q[i]?=Ä o)(g:ä o (Ħ Q a.tmps)=Î)(j:b.kind≠Ė)(k:jS l)(m:¬l.q)(c:gW l x)(d:l.w.cell? x=Ä v) (n:∀w,w.cell? x=Ä v->(à a.eval o).run P w=.ok (.value v) w) (p:∀w,w.cell? x=Ä v->(à a.eval o).events P w #[]=#[⟨ā x,É,É⟩]) (s:fi P yQ J l (G (b.at (a.put o.dst v)<|È Q jJ::L) qX)):fi P yQ J l (G (b.at a<|È Q (i::jJ)::L) qX):= oM f g j k m (λw r=>n w<|(c.r r).trans d) (λw r e h=>by
  rw[p w<|(c.r r).trans d]at h;have:e=⟨ā x,É,É⟩:=by simpa using h
  subst this;exact c.C) s
def qf(l:fe)(x:đ):Prop:=l.O x.block\/l.r x
def qf.C(h:qf l p):gW l p:=h.elim (λq=>À<|À q) λq=>Á<|À q
def qf.r{x:đ}(h:qf l x):uj l ⟨ā x,Î,É⟩:=⟨À ⟨x,U,h.elim À λq=>Á<|À q⟩,fj,fj⟩
end
end Go.Proofs.Y.fv
namespace Go.Proofs.Y.fv
open Go Go.Conc Go.Proofs.Y.Lift
section
variable{J:Jd}{l:fe}{b:Ā}{cs:List Ā}{ops:Array Ľ}
def Q5(a:∀j,l.O j->j<w.heap.size)(b:¬l.q):mr l {l with w:={w with drawn:=w.drawn+1}} w {w with drawn:=w.drawn+1} #[]:= ⟨Ç _,λ_ h=>À h,a,U,U,U,U,λ_ _ _ _=>rfl,λ_ _ _ _=>rfl,λ_ _ _=>rfl,U,U,U,λe c=>by simp at c,by simp[Ï],U,λq=>absurd q b,U⟩
def jr(listed:Array Bool):Nat:=listed.countP λx=> !x
def LB{listed:Array Bool}(h:listed.getD i Î=É):jr (listed.setIfInBounds i Î)+1=jr listed:=by
 have a:i<listed.size:=by
  rcases ø i listed.size with q|q
  .exact q
  .simp[ê q]at h
 have q:listed[i]=É:=by simpa[a]using h
 unfold jr;have b:0<listed.countP (λx=> !x):=Array.countP_pos_iff.2 ⟨É,by rw[<-q];exact Array.getElem_mem a,U⟩;rw[Array.setIfInBounds,dif_pos a,Array.countP_set a,q];simp only[Bool.not_false,Bool.not_true,if_true,Bool.false_eq_true,if_false];omega
def Q6{md:ß}{listed:Array Bool}(c:listed.size=ops.size)(h:jr listed=0):Ó md ops listed=[]:=by rw[List.eq_nil_iff_forall_not_mem];intro j a;let⟨b,o,d,_⟩:=Ď.1 a;have:=LB b;omega
def YM{md:ß}(I:Array Bool->ś->fe->Prop) (p:∀c a l i k,I c a l->i∈Ó md ops c->fi P yQ (λh m=>∃f,m=G (b.at f<|È ops k::L) cs/\I (c.setIfInBounds i Î) f h) l (G (b.at a<|È ops (i::k)::L) cs)) (n:∀c a l,I c a l->c.size=ops.size->Ó md ops c=[]->fi P yQ J l (G (b.at a<|È ops []::L) cs)): ∀(d t:Nat) (c:Array Bool) (a:ś) (l:fe),c.size=ops.size->jr c<=d->I c a l->fi P yQ J l (G (b.at a<|È ops (ă md ops d t c [])::L) cs):=by
 intro d
 induction d with
 |zero=>
  intro t c a l e q g;simpa[ă]using n c a l g e<|Q6 e Z
 |succ d r=>
  intro t c a l e q g;simp only[ă];change fi P yQ J l (G (b.at a (È ops (match(Ó md ops c)[t%(Ó md ops c).length]? with
   |some i=>ă md ops d (t/(Ó md ops c).length) (c.setIfInBounds i Î) [i]
   |none=>[].reverse)::L)) cs)
  cases j:(Ó md ops c)[t%(Ó md ops c).length]? with
  |none=>
   have s:Ó md ops c=[]:=by
    cases u:Ó md ops c with
    |nil=>rfl
    |cons x o=>
     rw[u]at j;have v:t%(x::o).length<(x::o).length:=Θ _ fj;simp at j;simp at v;omega
   simpa using n c a l g e s
  |some i=>
   simp only[];rw[linearise_go_acc,List.reverse_singleton,List.singleton_append];have o:=List.mem_of_getElem? j;refine(p c a l i _ g o).lN ?_;rintro h m ⟨f,rfl,s⟩;exact r _ _ f h (by simpa using e) (by have:=LB (Ď.1 o).1;omega) s
def E3(n:Nat):jr (æ n É)=n:=by unfold jr;rw[Array.countP_replicate];simp
def LC{id:Nat}(I:Array Bool->ś->fe->Prop)(m:jS l)(n:¬l.q) (f:∀d,fH l l.w d->I (æ ops.size É) y {l with w:={d with drawn:=d.drawn+1}}) (g:∀e c y l i h,I c y l->i∈Ó e ops c->fi P yQ (λo p=>∃j,p=G (b.at j<|È ops h::L) cs/\I (c.setIfInBounds i Î) j o) l (G (b.at y<|È ops (i::h)::L) cs)) (k:∀e c y l,I c y l->c.size=ops.size->Ó e ops c=[]->fi P yQ J l (G (b.at y<|È ops []::L) cs)): fi P yQ J l (G (b.at y<|ļ (ĥ id ops Î)::L) cs):=by
 refine .mk U λd r=>⟨_,_,_,_,stepG_region_draw,Q5 (lX m r) n,?_⟩;unfold Region.schedule;split
 .exact YM I (g _) (k _) _ _ _ _ _ fj (by rw[E3];exact Ç _)<|f d r
 .exact YM I (g _) (k _) _ _ _ _ _ fj (by rw[E3];exact Ç _)<|f d r
end
def vz(e:Edge):Bool:=match e.ground with|.textOnly _=>É|.gcOnly _=>É|_=>Î
def YN{md:ß}{e:Edge}(h:vz e=Î):Ÿ md e=Î:=by unfold vz at h;unfold Ÿ;revert h;cases e.ground<;>simp
structure lC(ops:Array Ľ)(t0:Array ì)(val:Nat->ì)(listed:Array Bool)(a:ś):Prop where
 M:a.defers=[]
 N:a.tmps.size=t0.size
 b:∀d,(∀j o,ops[j]?=Ä o->listed.getD j É=Î->o.dst≠Ä d)->a.tmps[d]?=t0[d]?
 r:∀j o d,ops[j]?=Ä o->listed.getD j É=Î->o.dst=Ä d->a.tmps[d]?=Ä (val j)
 S:∀j o e,ops[j]?=Ä o->listed.getD j É=Î->e∈o.after->vz e=Î->listed.getD e.on É=Î
def qL(a:Array Ľ)(n:Nat):Bool:=(ζ a.size).all λi=>match(a.getD i default).dst with
 |none=>Î
 |some d=>decide (d<n)&&(ζ a.size).all λj=>i==j||(a.getD j default).dst !=Ä d
section
variable{ops:Array Ľ}{t0:Array ì}{val:Nat->ì}{listed:Array Bool}{a:ś}
def YO(h:qL ops t0.size=Î)(a:ops[i]?=Ä o)(b:o.dst=Ä n):n<t0.size:=by have:=(ď.1 h) i<|ū.2<|(Ò.1 a).1;simp[a,b]at this;exact this.1
def YP(h:qL ops t0.size=Î){d:Nat}{a:Ľ}(b:ops[i]?=Ä o)(c:ops[j]?=Ä a)(f:j≠i)(g:o.dst=Ä d):a.dst≠Ä d:=by
 have:=(ď.1 h) i<|ū.2<|(Ò.1 b).1;simp[b,g]at this;rcases this.2 j ((Ò.1 c).1)with e|e
 .exact absurd e.symm f
 .simpa[c]using e
def lC.C(h:lC ops t0 val listed a){d:Nat}(b:ops.toList.all (λo=>o.dst !=Ä d)=Î):a.tmps[d]?=t0[d]?:= h.b d λj o c _ e=>by have:=ď.1 b o<|ÿ.2<|Array.mem_of_getElem? c;simp[e]at this
def Q7(h:(listed.setIfInBounds i Î).getD j É=Î):j=i\/listed.getD j É=Î:=by
 by_cases e:i=j
 .exact À e.symm
 .rw[getD_set_ne É e]at h;exact Á h
def lC.fZ(h:lC ops t0 val listed a)(p:qL ops t0.size=Î){md:ß}(l:ops[i]?=Ä o)(r:i∈Ó md ops listed)(x:o.dst≠Í->v=val i):lC ops t0 val (listed.setIfInBounds i Î) (a.put o.dst v):=by
 have n:=(Ď.1 r).1;have s:∀j c e,ops[j]?=Ä c->(listed.setIfInBounds i Î).getD j É=Î->e∈c.after->vz e=Î->(listed.setIfInBounds i Î).getD e.on É=Î:=λj c e b f t u=>by
  rcases Q7 f with rfl|q
  .let⟨_,g,z,d⟩:=Ď.1 r;rw[b]at z;obtain rfl:=Ã z;exact Ġ<|d e t<|YN u
  .exact Ġ<|h.S j c e b q t u
 have y:(listed.setIfInBounds i Î).getD i É=Î:=by
  have z:i<listed.size:=by
   rcases ø i listed.size with q|q
   .exact q
   .simp[ê q]at n
  simp[z]
 cases k:o.dst with
 |none=>
  refine⟨h.M,h.N,λd m=>h.b d λj c b f=>m j c b<|Ġ f,λj c d b f g=> ?_,s⟩;rcases Q7 f with rfl|q
  .rw[l]at b;obtain rfl:=Ã b;rw[k]at g;cases g
  .exact h.r j c d b q g
 |some e=>
  refine⟨h.M,by simp[Ş,h.N],λd m=> ?_,λj c d b f g=> ?_,s⟩
  .simp only[Ş];rw[á (λq=>m i o l y<|by rw[k,q])];exact h.b d λj c b f=>m j c b<|Ġ f
  .simp only[Ş];rcases Q7 f with rfl|q
   .rw[l]at b;obtain rfl:=Ã b;rw[k]at g;obtain rfl:=Ã g;have z:e<a.tmps.size:=by rw[h.N];exact YO p l k
    simp[z,(x<|by rw[k];simp)]
   .have B:e≠d:=by
     rintro rfl;by_cases w:j=i
     .subst w;rcases ø j listed.size with z|z
      .simp[z]at n q;rw[n]at q;cases q
      .simp[ê z]at q
     .exact YP p l b w k g
    rw[á B];exact h.r j c d b q g
def lC.YQ(h:lC ops t0 val listed a){b:Nat->ì}(e:∀j,listed.getD j É=Î->b j=val j):lC ops t0 b listed a:= ⟨h.M,h.N,h.b,λj o d f c g=>(by rw[e j c];exact h.r j o d f c g),h.S⟩
def ia{md:ß}(h:i∈Ó md ops listed)(c:ops[i]?=Ä o)(d:o.after.toList.any (λe=>e.on==j&&vz e)=Î):listed.getD j É=Î:=by let⟨_,k,b,f⟩:=Ď.1 h;rw[c]at b;obtain rfl:=Ã b;let⟨e,g,a⟩:=ŏ.1 d;simp only[Ő,beq_iff_eq]at a;rw[<-a.1];exact f e (ÿ.1 g)<|YN a.2
def lC.I(h:lC ops t0 val listed a)(c:ops[i]?=Ä o)(d:listed.getD i É=Î)(f:o.after.toList.any (λe=>e.on==j&&vz e)=Î):listed.getD j É=Î:=by let⟨e,g,b⟩:=ŏ.1 f;simp only[Ő,beq_iff_eq]at b;rw[<-b.1];exact h.S i o e c d (ÿ.1 g) b.2
def xh(h:listed.getD i Î=É):¬listed.getD i É=Î:=by
 rcases ø i listed.size with z|z
 .simp[z]at h|-;exact h
 .simp[ê z]at h
def LD(md:ß)(ops:Array Ľ):List Nat->List Nat->Bool
 |[],_=>Î
 |i::r,seen=>(match ops[i]? with|some o=>o.after.toList.all (λe=> !Region.binds md e||seen.contains e.on)|none=>É)&&LD md ops r (i::seen)
def po{md:ß}(h:Ó md ops listed=[])(n:listed.size=ops.size):∀(b a:List Nat),LD md ops b a=Î->(∀i∈a,listed.getD i É=Î)->∀i∈b,listed.getD i É=Î:=by
 intro b
 induction b with
 |nil=>intro a _ _ i c;cases c
 |cons j r p=>
  intro a s g i c;let⟨d,t⟩:=Bool.and_eq_true_iff.1 (show(_&&_)=Î from s);have l:listed.getD j É=Î:=by
   split at d
   .rename_i o m;have u:j<listed.size:=by rw[n];exact(Ò.1 m).1
    by_cases f:listed.getD j Î=É
    .have:j∈Ó md ops listed:=Ď.2 ⟨f,o,m,λe v w=>by
      have:=ď.1 d e (ÿ.2 v);rw[w]at this;simp at this;exact g _ this⟩
     rw[h]at this;cases this
    .simp[u]at f|-;exact f
   .cases d
  rcases Ű.1 c with rfl|q
  .exact l
  .exact p (j::a) t (λk x=>(Ű.1 x).elim (λe=>e▸l)<|g k) i q
def lC.Y(t:Array ì)(val:Nat->ì)(n:Nat):lC ops t val (æ n É) ⟨t,[]⟩:=by
 have a:∀j,¬(æ n É).getD j É=Î:=λj q=>by
  rcases ø j n with z|z
  .simp[z]at q
  .simp[ê (show(æ n É).size<=j by simpa using z)]at q
 exact⟨U,U,λ_ _=>rfl,λj _ _ _ z=>absurd z<|a j,λj _ _ _ z=>absurd z<|a j⟩
def zg{md:ß}(h:i∈Ó md ops listed):i<ops.size:=by let⟨_,o,a,_⟩:=Ď.1 h;exact(Ò.1 a).1
def Q8{md:ß}(h:i∈Ó md ops listed):listed.getD i Î=É:=(Ď.1 h).1
end
def YR(h:a.spot.isSome=Î):w.cell? a=Í:=by
 unfold World.cell?;cases w.heap[a.block]? with
 |none=>rfl
 |some o=>cases o<;>simp[h]
def Cq{x y:đ}(b:x.spot=Í)(h:y≠x):(w.setCell x v).cell? y=w.cell? y:=by
 by_cases a:y.spot.isSome=Î
 .rw[YR a,YR a]
 .apply yE;let⟨d,i,j⟩:=x;let⟨f,k,c⟩:=y;simp only at b a|-;have:c=Í:=by cases c<;>simp_all
  subst b this;by_cases e:d=f
  .exact Á λg=>h<|by rw[e,g]
  .exact À e
section
variable{J:Jd}{l:fe}{b:Ā}{a:ś}{cs:List Ā}{ops:Array Ľ}
def YS(c:p.spot=Í)(g:(w.cell? p).isSome=Î)(d:(u.cell? p).isSome=Î)(r:fH l w u):fH l (w.setCell p v) (u.setCell p v):=by
 refine⟨by rw[jO,jO];exact r.r,λj f=> ?_,λy b=> ?_,λy b=> ?_,λy b h=> ?_⟩
 .by_cases e:j=p.block
  .subst e;unfold World.setCell;simp only[Array.getElem?_modify];rw[r.I _ f]
  .rw[ll e,ll e];exact r.I j f
 .by_cases e:y=p
  .subst e;let⟨a,i⟩:=î.1 g;let⟨m,k⟩:=î.1 d;rw[tO i,tO k]
  .rw[Cq c e,Cq c e];exact r.N y b
 .rw[sP,sP];exact r.Y y b
 .by_cases e:y=p
  .subst e;exact yF d
  .rw[Cq c e]at h|-;exact r.S y b h
def YT(f:p.spot=Í)(g:∀j,l.O j->j<w.heap.size)(i:¬l.q)(c:qf l p)(d:∀e∈V,uj l e):mr l {l with w:=w.setCell p v} w (w.setCell p v) V:=by
 refine⟨by rw[jO];exact Ç _,λ_ h=>À h,λj k=>by rw[jO];exact g j k,U,U,U,U,λj _ a b=>ll λe=>c.elim (λq=>a<|e▸q) λq=>b p e.symm q,λy _ a b=>Cq f λe=> ?_,λ_ _ _=>P4,U,U,U,λe h=>(d e h).1,(LA d _).symm,U,λq=>absurd q i,U⟩
 .subst e;exact c.elim a b
def aia(m:ops[i]?=Ä o)(n:ä o (Ħ ops a.tmps)=Î)(s:b.kind≠Ė)(t:jS l)(u:¬l.q)(g:p.spot=Í)(c:qf l p)(j:(l.w.cell? p).isSome=Î)(y:o.dst=Í)(z:l.w.frozen? p=É) (B:∀w,(w.cell? p).isSome=Î->w.frozen? p=É->(à a.eval o).run P w=.ok .skip (w.setCell p v)) (C:∀w,(w.cell? p).isSome=Î->w.frozen? p=É->(à a.eval o).events P w #[]=#[⟨ā p,Î,É⟩]) (D:fi P yQ J {l with w:=l.w.setCell p v} (G (b.at a<|È ops jJ::L) cs)):fi P yQ J l (G (b.at a<|È ops (i::jJ)::L) cs):=by
 refine vy m n s λd r=> ?_;have f:(d.cell? p).isSome=Î:=by rwa[c.C.r r]
 have k:d.frozen? p=É:=by rw[<-z];exact c.C.elim (λq=>wT<|r.I _ q)<|r.Y p
 rw[B d f k];refine⟨_,YT g (lX t r) u c λe h=> ?_,?_⟩
 .have:=ε h;rw[C d f k]at this;have:e=⟨ā p,Î,É⟩:=by simpa using this
  subst this;exact c.r
 .have:(a.put o.dst Â)=a:=by rw[y];rfl
  rw[this];exact D.jL<|za<|YS g j f r
end
def lZ(l:fe):fe:={l with O:=λ_=>False,I:=l.M,r:=λ_=>False,N:=l.C}
def qM(l x:fe):fe:={x with O:=λb=>x.O b\/l.O b,I:=l.I,r:=l.r,N:=l.N}
structure kg(l l':fe):Prop where
 O:∀j,l.O j->l'.O j
 Y:∀j,l'.O j->l.O j\/l.w.heap.size<=j
 I:l'.I=l.I
 N:l'.r=l.r
 S:l'.N=l.N
 K:l'.K=l.K
 q:l'.q=l.q
 r:fH l l.w l'.w
 fx:jS l'
def kg.fT{l:fe}(h:jS l):kg l l:=⟨λ_ h=>h,λ_ h=>À h,U,U,U,U,U,fH.fT _ _,h⟩
def kg.C{l a:fe}(h:kg l a):a.C=l.C:=by unfold fe.C;rw[h.N,h.S]
def kg.M{l a:fe}(h:kg l a)(c:l.M b):a.M b:=c.imp (h.O b)<|by rw[h.I];exact id
def kg.G{l d:fe}(h:kg l d)(r:fH d w u):fH l w u:=⟨r.r,λj e=>r.I j<|h.M e,λx b=>r.N x (by rwa[h.C]),λx b=>r.Y x (by rwa[h.C]),λx b=>r.S x<|by rwa[h.K]⟩
def kg.jL{l a:fe}(h:kg l a){w₁:Ð}(r:fH a a.w w₁):kg l {a with w:=w₁}:= ⟨h.O,h.Y,h.I,h.N,h.S,h.K,h.q,h.r.fg<|h.G r,lX h.fx r⟩
def gw.jL{l:fe}(s:gw l){w₁:Ð}(h:l.w.heap.size<=w₁.heap.size):gw {l with w:=w₁}:= ⟨s.c,s.Y,s.N,λb d=>Ê (s.fx b d) h,λa c=>Ê (s.I a c) h,λa c=>let⟨e,f,g⟩:=s.S a c;⟨e,Ê f h,g⟩⟩
def gw.r{l:fe}(s:gw l):jS l:=λj a=>s.fx j<|À a
section
variable{J:Jd}
def aib{l x:fe}(d:x.I=l.M)(f:x.r=λ_=>False)(g:x.N=l.C){e:ė}(h:yz x e):yz (qM l x) e:=by
 rcases h with⟨a,b,c⟩|h|h|h|h|⟨a,b,c⟩
 .refine À ⟨a,b,?_⟩;rcases c with q|q|⟨q|q,z⟩
  .exact À<|À q
  .rw[f]at q;exact q.elim
  .rw[d]at q;rcases q with q|q
   .exact À<|Á q
   .exact Á<|Á ⟨À q,z⟩
  .rw[g]at q;rcases q with q|q
   .exact Á<|À q
   .exact Á<|Á ⟨Á q,z⟩
 .exact Á<|À h
 .exact Á<|Á<|À h
 .exact Á<|Á<|Á<|À h
 .exact Á<|Á<|Á<|Á<|À h
 .exact Á<|Á<|Á<|Á<|Á ⟨a,À b,c⟩
def YU{l x:fe}(a:x.I=l.M):(qM l x).M=x.M:=by
 funext b;refine propext ⟨λh=> ?_,λh=> ?_⟩
 .rcases h with(q|q)|q
  .exact À q
  .exact Á<|by rw[a];exact À q
  .exact Á<|by rw[a];exact Á q
 .rcases h with q|q
  .exact À<|À q
  .rw[a]at q;exact q.elim (λz=>À<|Á z) Á
def LF{l x:fe}(c:x.r=λ_=>False)(b:x.N=l.C):(qM l x).C=x.C:=by
 funext a;refine propext ⟨λh=>Á (by rwa[b]),λh=> ?_⟩;rcases h with q|q
 .rw[c]at q;exact q.elim
 .rwa[b]at q
def fi.aic{l:fe}(s:gw l){x:fe}(h:fi P yQ J x g):x.I=l.M->x.r=(λ_=>False)->x.N=l.C->x.K=l.K->x.q=l.q->fH l l.w x.w->(∀j,x.O j->l.w.heap.size<=j)->jS x-> fi P yQ (λb c=>∃a,J a c/\b=qM l a/\kg l b/\a.I=l.M/\a.N=l.C/\a.r=λ_=>False) (qM l x) g:=by
 induction h with
 |@fB x g h=>
  intro m f d o B p v E;refine .fB λc r=>⟨{x with w:=c},(h c ⟨r.r,λj b=>r.I j (by rwa[YU m]),λy a=>r.N y (by rwa[LF f d]),λy a=>r.Y y (by rwa[LF f d]),r.S⟩),U,?_,m,d,f⟩
  .refine⟨λj b=>Á b,λj b=>b.elim (λq=>Á<|v j q) À,U,U,U,o,B,p.fg ⟨r.r,λj b=>r.I j (b.elim (λq=>À<|Á q) Á),λy a=>r.N y a,λy a=>r.Y y a,λy a=>r.S y ?_⟩,λj b=> ?_⟩
   .show x.K y;rwa[o]
   .refine Ê ?_ r.r;rcases b with q|q
    .exact E j q
    .exact Ê (s.fx j<|À q) p.r
 |@jv x g G' W' E' L' iH h hd _ ih=>
  intro m f d o B p v E;refine .mk iH λc r=> ?_;have i:fH x x.w c:=⟨r.r,λj b=>r.I j (by rwa[YU m]),λy a=>r.N y (by rwa[LF f d]),λy a=>r.Y y (by rwa[LF f d]),r.S⟩;have D:=hd c i;have n:=Ù p.r i.r;have z:∀j,j<l.w.heap.size->¬x.O j:=λj b q=>by have:=v j q;omega
  have t:∀y:đ,¬x.r y:=λy q=>by rwa[f]at q
  have F:fH l c (W' c):=⟨D.C,λj b=>D.jR j (Ê (s.fx j b) n) (z j<|s.fx j b) λy _=>t y,λy a=>D.N y (Ê (s.I y a) n) (z _<|s.I y a)<|t y,λy a=>KS<|D.Y y (Ê (s.I y a) n)<|z _<|s.I y a,λy a q=>by rwa[D.N y (Ê (s.S y a).2.1 n) (z _ (s.S y a).2.1)<|t y]⟩;refine⟨G' c,W' c,E' c,qM l<|L' c,h c i,?_,(ih c i (D.I.trans m) (D.r.trans f) (D.M.trans d) (D.k.trans o) (D.q.trans B) (by rw[D.b];exact(p.fg ⟨i.r,λj b=>i.I j (Á<|by rwa[m]),λy a=>i.N y (Á<|by rwa[d]),λy a=>i.Y y (Á<|by rwa[d]),λy a=>i.S y<|by rwa[o]⟩).fg F) (λj b=>(D.S j b).elim (v j) λq=>Ù n q) λj b=>by rw[D.b];exact D.fx j b)⟩
  .refine⟨D.C,λj b=> ?_,λj b=> ?_,U,U,U,D.k,λj b u G=>D.jR j b (λq=>u<|À q) λy _=>t y,λy a u G=>D.N y a (λq=>u<|À q)<|t y,λy a u=>D.Y y a λq=>u<|À q,D.f,D.g,D.m,λe H=>aib (D.I.trans m) (D.r.trans f) (D.M.trans d)<|D.c e H,D.h,D.q,λI=> ?_,D.b⟩
   .rcases b with q|q
    .exact(D.S j q).imp À id
    .exact À<|Á q
   .rcases b with q|q
    .exact D.fx j q
    .exact Ê (s.fx j<|À q)<|Ù n D.C
   .let⟨L,N,Q⟩:=D.i I;exact⟨L,N,by funext j;show((L' c).O j\/l.O j)=(x.O j\/l.O j);rw[Q]⟩
def fi.lZ{l:fe}(s:gw l)(h:fi P yQ J (fv.lZ l) g):fi P yQ (λe j=>∃b,J b j/\e=qM l b/\kg l e/\b.I=l.M/\b.N=l.C/\b.r=λ_=>False) l g:=by
 have:=h.aic s U U U U U (fH.fT _ _) (λj q=>q.elim) λj q=>q.elim;have e:qM l (fv.lZ l)=l:=by
  have:(λb=>False\/l.O b)=l.O:=by funext b;simp
  unfold qM fv.lZ;simp only[this]
 rwa[e]at this
end
structure iC(E:đ->Prop)(l l':fe):Prop where
 O:∀j,l.O j->l'.O j
 h:∀j,l'.O j->l.O j\/l.w.heap.size<=j
 Y:l'.I=l.I
 I:l'.r=l.r
 c:l'.N=l.N
 K:l'.K=l.K
 q:l'.q=l.q
 d:l'.d=l.d
 fx:jS l'
 f:l.w.heap.size<=l'.w.heap.size
 r:∀j,l.M j->l'.w.heap[j]?=l.w.heap[j]?
 e:∀a,l.C a->¬E a->l'.w.cell? a=l.w.cell? a
 S:∀a,l.C a->l'.w.frozen? a=l.w.frozen? a
 b:∀a,l.K a->(l.w.cell? a).isSome=Î->(l'.w.cell? a).isSome=Î
 g:∀a,E a->(l.w.cell? a).isSome=Î->(l'.w.cell? a).isSome=Î
section
variable{E:đ->Prop}{l l' l'':fe}
def iC.fT(h:jS l):iC E l l:=⟨λ_ h=>h,λ_ h=>À h,U,U,U,U,U,U,h,Ç _,λ_ _=>rfl,λ_ _ _=>rfl,λ_ _=>rfl,λ_ _ h=>h,λ_ _ h=>h⟩
def iC.C(h:iC E l l'):l'.C=l.C:=by unfold fe.C;rw[h.I,h.c]
def iC.M(h:iC E l l')(a:l.M b):l'.M b:=a.imp (h.O b)<|by rw[h.Y];exact id
def iC.Q9(h:iC E l l')(f:∀a,E a->l.r a)(k:kg l' l'')(g:l''.d=l'.d):iC E l l'':=by have e:=h.C;refine⟨λj c=>k.O j<|h.O j c,λj c=>(k.Y j c).elim (h.h j) λq=>Á<|Ù h.f q,k.I.trans h.Y,k.N.trans h.I,k.S.trans h.c,k.K.trans h.K,k.q.trans h.q,g.trans h.d,k.fx,Ù h.f k.r.r,λj c=>(k.r.I j<|h.M c).trans<|h.r j c,λa b i=>(k.r.N a<|by rwa[e]).trans<|h.e a b i,λa b=>(k.r.Y a<|by rwa[e]).trans<|h.S a b,λa b q=>k.r.S a (by rwa[h.K])<|h.b a b q,λa b q=> ?_⟩;rw[k.r.N a (by rw[e];exact À<|f a b)];exact h.g a b q
def iC.N(h:iC E l l')(b:∀a,E a->l.r a)(r:fH l' l'.w u):iC E l {l' with w:=u}:= h.Q9 b (l'':={l' with w:=u}) ((kg.fT h.fx).jL r) U
def iC.qC(h:iC E l l')(s:gw l)(i:∀a,E a->l.r a){x:đ}(f:E x)(k:x.spot=Í)(m:(l'.w.cell? x).isSome=Î):iC E l {l' with w:=l'.w.setCell x v}:=by
 refine⟨h.O,h.h,h.Y,h.I,h.c,h.K,h.q,h.d,λj c=> ?_,?_,λj c=>(ll λe=>s.N x (À<|i x f)<|e▸c).trans<|h.r j c,λa b g=>((Cq k λe=>g<|by rwa[e]).trans<|h.e a b g),λa b=>sP.trans<|h.S a b,λa b q=>yF<|h.b a b q,λa b q=>yF<|h.g a b q⟩
 .show j<(l'.w.setCell x v).heap.size;rw[jO];exact h.fx j c
 .show l.w.heap.size<=(l'.w.setCell x v).heap.size;rw[jO];exact h.f
def iC.G(h:iC E l l')(s:gw l):gw l' where
 c b hb:=by
  rw[h.Y];rcases h.h b hb with q|q
  .exact s.c b q
  .exact λz=>by have:=s.fx b<|Á z;omega
 Y a ha:=by rw[h.c];exact s.Y a<|by rwa[<-h.I]
 N a ha hb:=by
  rw[h.C]at ha;rcases hb with q|q
  .rcases h.h _ q with z|z
   .exact s.N a ha<|À z
   .have:=s.I a ha;omega
  .rw[h.Y]at q;exact s.N a ha<|Á q
 fx b hb:=by
  rcases hb with q|q
  .exact h.fx b q
  .rw[h.Y]at q;exact Ê (s.fx b<|Á q) h.f
 I a ha:=by rw[h.C]at ha;exact Ê (s.I a ha) h.f
 S a ha:=by
  rw[h.K]at ha;let⟨c,d,e⟩:=s.S a ha;refine⟨λq=> ?_,Ê d h.f,by rwa[h.I]⟩;rcases q with q|q
  .rcases h.h _ q with z|z
   .exact c<|À z
   .omega
  .rw[h.Y]at q;exact c<|Á q
end
section
variable{X:Type}{g:Array ì}{c:X->Nat->ì}{m:Array Bool->X->fe->Prop}{l:fe}{b:Ā}{a:ś}{k:List Ź}{cs:List Ā}{x:X}
def II(Q:Array Ľ)(g:Array ì)(c:X->Nat->ì)(m:Array Bool->X->fe->Prop)(wJ:Array Bool)(a:ś)(l:fe):Prop:=∃x,lC Q g (c x) wJ a/\m wJ x l
def LG(a:o.guard=Í)(y:Nat->Option Bool):ä o y=Î:=by unfold ä;rw[a]
def ik(h:qL Q g.size=Î)(j:lC Q g (c x) wJ a)(f:Q[i]?=Ä o)(n:o.guard=Í){md:ß}(p:i∈Ó md Q wJ)(s:b.kind≠Ė)(t:jS l)(u:¬l.q) (v:∀d,fH l l.w d->(à a.eval o).run P d=.ok (.value<|c x i) d) (y:∀d,fH l l.w d->∀e∈(à a.eval o).events P d #[],uj l e) (z:∀d,fH l l.w d->m (wJ.setIfInBounds i Î) x {l with w:=d}): fi P yQ (λB C=>∃r,C=G (b.at r<|È Q jJ::k) cs/\II Q g c m (wJ.setIfInBounds i Î) r B) l (G (b.at a<|È Q (i::jJ)::k) cs):= oM f (LG n _) s t u v y<|.fB λd r=>⟨_,U,x,j.fZ h f p λ_=>rfl,z d r⟩
def Ra(h:qL Q g.size=Î)(j:lC Q g (c x) wJ a)(f:Q[i]?=Ä o)(n:o.guard=Í)(e:o.dst=Í){md:ß}(p:i∈Ó md Q wJ)(s:b.kind≠Ė)(t:jS l)(u:¬l.q){y:đ}(z:y.spot=Í)(B:qf l y)(C:(l.w.cell? y).isSome=Î)(D:l.w.frozen? y=É) (E:∀w,(w.cell? y).isSome=Î->w.frozen? y=É->(à a.eval o).run P w=.ok .skip (w.setCell y v)) (F:∀w,(w.cell? y).isSome=Î->w.frozen? y=É->(à a.eval o).events P w #[]=#[⟨ā y,Î,É⟩]) (H:∀d,fH l (l.w.setCell y v) d->m (wJ.setIfInBounds i Î) x {l with w:=d}): fi P yQ (λI J=>∃r,J=G (b.at r<|È Q jJ::k) cs/\II Q g c m (wJ.setIfInBounds i Î) r I) l (G (b.at a<|È Q (i::jJ)::k) cs):=by refine aia f (LG n _) s t u z B C e D E F (.fB λd r=>⟨_,U,x,?_,H d<|za r⟩);have:=j.fZ h f p (v:=Â) λq=>absurd e q;rwa[e]at this
def YV(q:qL Q g.size=Î)(s:lC Q g (c x) wJ a)(p:Q[i]?=Ä o)(t:o.guard=Í){md:ß}(u:i∈Ó md Q wJ)(v:b.kind≠Ė)(y:jS l){f:Ļ}{args:Array ì} (z:∀w,(à a.eval o).run P w=.ok (.enter f args) w) (B:∀w,(à a.eval o).events P w #[]=#[]) (C:∀d,fH l l.w d->fi P yQ (λh n=>∃e,n=G ((b.at a<|È Q (i::jJ)::k).finish<|c e i) cs/\m (wJ.setIfInBounds i Î) e h/\∀j,wJ.getD j É=Î->c e j=c x j) {l with w:=d} (G (Β P f args .normal)<|b.at a (È Q (i::jJ)::k)::cs)): fi P yQ (λh n=>∃r,n=G (b.at r<|È Q jJ::k) cs/\II Q g c m (wJ.setIfInBounds i Î) r h) l (G (b.at a<|È Q (i::jJ)::k) cs):=by
 refine .mk U λd r=>⟨G (Β P f args .normal)<|b.at a (È Q (i::jJ)::k)::cs,d,#[],{l with w:=d},?_,QY d<|lX y r,?_⟩
 .rw[Α p (LG t _) v<|z d];unfold φ;rw[B d,ċ]
 .refine(C d r).fN ?_;rintro h n ⟨e,rfl,D,E⟩;refine⟨a.put o.dst<|c e i,?_,e,(s.YQ E).fZ q p u λ_=>rfl,D⟩;rw[Ĭ,p];rfl
end
end Go.Proofs.Y.fv
namespace Go.Proofs.YtgpphkdoanciiaaGreatDoor
open Go Go.Conc Go.Conc.Lib
def Lk:Ŋ:={add:=62,done:=65,wait:=53,relMerge:=105,disable:=68,enable:=70,inBubble:=76,associate:=106,fatal:=107,uOr:=108,uAdd:=109,raceRead:=110,uLoad:=69,uStore:=111,disassociate:=74,semrelease:=112,acquire:=71,isAssociated:=72,uCas:=73,raceWrite:=75,semacquire:=77,orU64:=150,addU64:=151,loadU64:=127,storeU64:=152,casU64:=128,tWgP:=162,tUP:=170,tAssoc:=202,tWg:=97,tAU:=94,tU64:=36,tUint:=168,tU32:=95,tPU32:=174,tPAU:=219,tPU64:=221,tNoCopy:=90,tANoCopy:=91,tAlign64:=92}
def qN:ű Ĵ Lk where
 f_add:=Tryz.func62;f_done:=Tryz.func65;f_wait:=Tryz.func53;f_relMerge:=Tryz.func105;f_disable:=Tryz.func68;f_enable:=Tryz.func70;f_inBubble:=Tryz.func76;f_associate:=Tryz.func106;f_fatal:=Tryz.func107;f_uOr:=Tryz.func108;f_uAdd:=Tryz.func109;f_raceRead:=Tryz.func110;f_uLoad:=Tryz.func69;f_uStore:=Tryz.func111;f_disassociate:=Tryz.func74;f_semrelease:=Tryz.func112;f_acquire:=Tryz.func71;f_isAssociated:=Tryz.func72;f_uCas:=Tryz.func73;f_raceWrite:=Tryz.func75;f_semacquire:=Tryz.func77;f_orU64:=Tryz.func150;f_addU64:=Tryz.func151;f_loadU64:=Tryz.func127;f_storeU64:=Tryz.func152;f_casU64:=Tryz.func128;underlying_tWgP:=Tryz.underlying162;runUnderlying_tWgP:=Tryz.runUnderlying162;sizeOf_tWgP:=Tryz.sizeOf162;isAgg_tWgP:=Tryz.isAgg162;zeroValue_tWgP:=Tryz.zeroValue162;underlying_tUP:=Tryz.underlying170;runUnderlying_tUP:=Tryz.runUnderlying170;sizeOf_tUP:=Tryz.sizeOf170;isAgg_tUP:=Tryz.isAgg170;zeroValue_tUP:=Tryz.zeroValue170;underlying_tI32:=Tryz.underlying202;runUnderlying_tI32:=Tryz.runUnderlying202;sizeOf_tI32:=Tryz.sizeOf202;isAgg_tI32:=Tryz.isAgg202;zeroValue_tI32:=Tryz.zeroValue202;underlying_tWg:=Tryz.underlying97;runUnderlying_tWg:=Tryz.runUnderlying97;sizeOf_tWg:=Tryz.sizeOf97;isAgg_tWg:=Tryz.isAgg97;zeroValue_tWg:=Tryz.zeroValue97;underlying_tAU:=Tryz.underlying94;runUnderlying_tAU:=Tryz.runUnderlying94;sizeOf_tAU:=Tryz.sizeOf94;isAgg_tAU:=Tryz.isAgg94;zeroValue_tAU:=Tryz.zeroValue94;underlying_tU64:=Tryz.underlying36;runUnderlying_tU64:=Tryz.runUnderlying36;sizeOf_tU64:=Tryz.sizeOf36;isAgg_tU64:=Tryz.isAgg36;zeroValue_tU64:=Tryz.zeroValue36;underlying_tSh:=Tryz.underlying168;runUnderlying_tSh:=Tryz.runUnderlying168;sizeOf_tSh:=Tryz.sizeOf168;isAgg_tSh:=Tryz.isAgg168;zeroValue_tSh:=Tryz.zeroValue168;underlying_tU32:=Tryz.underlying95;runUnderlying_tU32:=Tryz.runUnderlying95;sizeOf_tU32:=Tryz.sizeOf95;isAgg_tU32:=Tryz.isAgg95;zeroValue_tU32:=Tryz.zeroValue95;underlying_tPU32:=Tryz.underlying174;runUnderlying_tPU32:=Tryz.runUnderlying174;sizeOf_tPU32:=Tryz.sizeOf174;isAgg_tPU32:=Tryz.isAgg174;zeroValue_tPU32:=Tryz.zeroValue174;underlying_tPAU:=Tryz.underlying219;runUnderlying_tPAU:=Tryz.runUnderlying219;sizeOf_tPAU:=Tryz.sizeOf219;isAgg_tPAU:=Tryz.isAgg219;zeroValue_tPAU:=Tryz.zeroValue219;underlying_tPU64:=Tryz.underlying221;runUnderlying_tPU64:=Tryz.runUnderlying221;sizeOf_tPU64:=Tryz.sizeOf221;isAgg_tPU64:=Tryz.isAgg221;zeroValue_tPU64:=Tryz.zeroValue221;underlying_t0:=Tryz.underlying0;runUnderlying_t0:=Tryz.runUnderlying0;sizeOf_t0:=Tryz.sizeOf0;isAgg_t0:=Tryz.isAgg0;zeroValue_t0:=Tryz.zeroValue0;underlying_t3:=Tryz.underlying3;runUnderlying_t3:=Tryz.runUnderlying3;sizeOf_t3:=Tryz.sizeOf3;isAgg_t3:=Tryz.isAgg3;zeroValue_t3:=Tryz.zeroValue3;underlying_t4:=Tryz.underlying4;runUnderlying_t4:=Tryz.runUnderlying4;sizeOf_t4:=Tryz.sizeOf4;isAgg_t4:=Tryz.isAgg4;zeroValue_t4:=Tryz.zeroValue4;underlying_t9:=Tryz.underlying9;runUnderlying_t9:=Tryz.runUnderlying9;sizeOf_t9:=Tryz.sizeOf9;isAgg_t9:=Tryz.isAgg9;zeroValue_t9:=Tryz.zeroValue9;underlying_t20:=ń;runUnderlying_t20:=Tryz.runUnderlying20;sizeOf_t20:=Tryz.sizeOf20;isAgg_t20:=Tryz.isAgg20;zeroValue_t20:=Tryz.zeroValue20;underlying_t21:=Tryz.underlying21;runUnderlying_t21:=Tryz.runUnderlying21;sizeOf_t21:=Tryz.sizeOf21;isAgg_t21:=Tryz.isAgg21;zeroValue_t21:=Tryz.zeroValue21;room_tWg:=by decide+kernel
 room_tU32:=by decide+kernel
end Go.Proofs.YtgpphkdoanciiaaGreatDoor
namespace Go.Proofs.Y.fv
open Go Go.Conc Go.Proofs.Y.Lift Go.RowKit Go.Conc.Lib Go.ConcR.Gen
open Go.Proofs Go.Proofs.YtgpphkdoanciiaaGreatDoor
def YW:Array Ľ:=#[⟨Ä 3,.load 1<|Õ 1,1, "waitgroup.go:258",#[],Í⟩,
 ⟨Ä 4,ţ {callee:=Ĥ (Õ 3),args:=#[],argTypes:=#[]},0, "waitgroup.go:258",#[⟨0,â⟩],Í⟩]
section
variable{Ψ:Ð->Prop}{l:fe}
def YX(b:l.K ⟨i,0,Í⟩/\l.K ⟨i,1,Í⟩)(c:lY Ψ l i)(a:SW Ψ l i l.w)(e:l.d=0)(f:¬l.q)(j:gW l ⟨n,0,Í⟩)(k:l.w.cell? ⟨n,0,Í⟩=Ä (ü<|Ä ⟨i,0,Í⟩)): fi Ĵ É (λl g=>yH Ĵ É i (E2 Ĵ) (kx l) g) l (G ((baseD 63).at ⟨#[ü<|Ä ⟨n,0,Í⟩,v,x,z,jQ],[pj 64 #[ü<|Ä ⟨n,0,Í⟩] #[]]⟩ [È YW []]) [nW Ĵ]):=by
 apply fW (n:=30) a.1;have hF:=trivial;iterate 2 w_go fA
 u_c (ah0 U Γ fP U) fA hF
 walk_nrmf Tryz.f64;iterate 3 w_go fA
 u_c (ahZ U U U U U U U) fA hF
 walk_nrm;have m:=λw g=>ah8 20 w g ń;repeat w_go fA
 refine Ì λ_ _=> ?_;apply pn U U (by k_ne) a.1 f j k (λw h=>by go_simp) (λw h=>by simp[go_sem,h]);walk_nrm;apply fW (n:=30) a.1;u_call qN.f_done (nm_done Lk) doneFn fA hF;refine Ì λ_ _=> ?_;apply ahT qN b c a e;walk_nrm;apply Ly U λ_=>stepG_region_end;apply Ly U λ_=>stepG_end;refine ah5 U U Γ U U<|ah4 U U Tryz.func63 U
end
end Go.Proofs.Y.fv
