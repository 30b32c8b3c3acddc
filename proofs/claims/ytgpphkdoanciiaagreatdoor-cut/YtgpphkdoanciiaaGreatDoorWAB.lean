import Derived.Test.YtgpphkdoanciiaaGreatDoorWAA
import Derived.Conc.WgGenN3
import Derived.Conc.MuWords
import Derived.Conc.CompanyDraw
import Derived.Test.YtgpphkdoanciiaaGreatDoorRows
import Derived.Conc.WgLib
set_option linter.all false
set_option maxRecDepth 1000000
set_option maxHeartbeats 8000000
open Or renaming inl->À,inr->Á
open Go renaming undef->Â,Goroutine->Æ,deafBehind->Î,World->Ð,execOp->à,Trace->é,Value->ì,stepG->í,Frame->Ā,MemOp->Ć,mem_ready->Ď,Addr->đ,Event->ė,getD_set_true->Ġ,Program->ġ,yielded->Ħ,TypeId->ĺ,FuncId->Ļ,Oper->Ľ,resolve->Ń,goexitEntry->Ś,Act->ś,runT->Ŝ,invoke->Ũ,callFunc->ũ,callDeferred->ŷ,Item->Ź,Deferred->ż,Operand->Δ,unwind->Χ,Mark->κ,runNT->υ,Code->ω,Loc->aj
open Option.some renaming inj->Ã,injEq->Ŀ
open Option renaming some->Ä,none->Í,map_eq_some_iff->Ú,isSome_iff_exists->î,getD_some->Č
open Go.GoStatus renaming running->Å,blocked->Þ,finished->æ
open Nat renaming le_refl->Ç,lt_of_lt_of_le->Ê,le_of_eq->Ö,le_trans->Ù,le_mul_of_pos_right->ç,mul_le_mul_left->ñ,lt_of_not_le->ó,zero_le->ô,add_zero->ö,lt_or_ge->ø,le_of_not_lt->ĉ,and_two_pow_sub_one_eq_mod->Ċ,mul_le_mul_right->Ē,strongRecOn->Ĕ,add_mul_mod_self_right->Ę,mul_add->į,eq_zero_or_pos->ķ,mod_eq_of_lt->ň,and_assoc->Ů,add_mul->Ż,mod_lt->Θ
open Go.Item renaming inRegion->È,code->ļ,inBlock->ŝ,inLoop->ο
open Bool renaming false->É,true->Ï,and_eq_true->Ő
open Go.MemAct renaming ofEvent->Ë,touch?->Đ,mark->Ğ,start->ĸ,go->ar
open Go.Conc.Goes renaming stop->Ì
open Go.ConcN renaming sumTo->Ñ,wraps_u64_63->û,sumTo_congr->Į
open Array renaming getElem?_eq_some_iff->Ò,append_empty->Û,getElem?_eq_getElem->Ü,getElem?_setIfInBounds_ne->á,replicate->è,getElem?_eq_none->ë,mem_toList_iff->ÿ,getElem?_push->Ă
open Go.Region renaming ready->Ó,Mode->ß,wanted->å,binds->Ÿ
open Go.IntKind renaming u64->Ô,u32->â,i64->Ņ
open Go.Operand renaming tmp->Õ,const->ï,func->ł
open Go.Conc renaming mem_ofEvents->Ø,crowd->ò,semEvents->ú,woken->Ą,stepG_markAt->ć,stepG_load_atomic->Ĉ,seen_none->ċ,stepG_mark0->ē,stepG_semacquire_wait->ĭ,Goes->Ĺ,deafBehind_still->ņ,parked->Ň,stepG_semrelease->ŋ,stepG_add_atomic->Ō,stepG_semacquire->ō,stepG_value->ő,rcase->Š,stepG_none->Ţ,goes_go->Ŵ,stepG_enter->Α,QuitsD->Ε,touch_mute->Ζ,stepG_oper->Υ,mem_listed->ε,Knows->η,listed->ψ,Deaf->af
open Go.MemOp renaming ofEvents->Ý
open Go.Ground renaming data->ã,phase->ħ
open Go.ConcR renaming DC0->ä
open Go.Value renaming int->ê,pointer->ü,nilIface->ą,tuple->ŉ,bool->Ι
open Go.Mark renaming enable->ð,disable->ù,releaseMerge->Ķ,acquire->ľ,write->ς
open Ne renaming symm->õ
open Go.FrameMode renaming returning->ý
open Go.Act renaming eval->þ,put->Ş
open Go.Loc renaming cell->ā,mark->ź
open Go.Region.linearise renaming go->ă
open Go.Deferred renaming ofValue->č
open List renaming all_eq_true->ď,any_eq_true->ŏ,mem_range->ū,mem_cons->Ű,range->ζ
open Go.Goroutine renaming again->ĕ
open Go.CallKind renaming early->Ė,deferred->Ŏ
open Go.ConcR.Gen renaming x_semrelease_b->ę,x_semacquire_n->Ě,x_semacquire_b->ě,x_semacquire_x->Ĝ,x_semacquire_f->ĝ,x_enable_n->Ĩ,x_enable_b->ĩ,x_enable_x->Ī,x_enable_f->ī,x_loadU64_n->İ,x_loadU64_b->ı,x_loadU64_x->Ĳ,x_loadU64_f->ĳ,x_disable_n->Œ,x_disable_b->œ,x_disable_x->Ŕ,x_disable_f->ŕ,x_acquire_n->Ŗ,x_acquire_b->ŗ,x_acquire_x->Ř,x_acquire_f->ř,x_semrelease_n->Ť,x_semrelease_x->ť,x_semrelease_f->Ŧ,nm_uLoad->ŧ,mayWake_entry->ů,body_wait->Ų,x_addU64_n->Κ,x_addU64_b->Λ,x_addU64_x->Μ,x_addU64_f->Ν,x_casU64_n->Ξ,x_casU64_b->Ο,x_casU64_x->Ρ,x_casU64_f->Τ
open Go.GStep renaming after->ğ,go->Ŭ
open Go.Stepped renaming next->Ģ
open Go.Callee renaming value->Ĥ
open Go.Code renaming region->ĥ,cond->π,block->χ,skip->ai
open Go.Frame renaming finish_at->Ĭ,enter->Β
open Go.Proofs.Tryz renaming prog->Ĵ,underlying20->ń,func64->Γ
open Go.Op renaming move->Ł,call->ţ,fieldAddr->ŵ,nilCheck->Ž,binOp->ž,equalIn->Ω,assign->ξ
open Go.Conc.Lib renaming WgLink->Ŋ,WgLib->ű,uLoadFn->Ŷ
variable{i n j b k m J j9 j7 j6:Nat}{w u W jX:Ð}{v x z jQ:ì}{g:Æ}{a p:đ}{h c:Int}{e t T:ĺ}{d q:Array ì}{P:ġ}{y:ś}{B:ByteArray}{X:Nat->Prop}{O:Option đ}{l:List ì}{yQ:Bool}{K H:ś->Ð->Prop}{o:Ľ}{D:Nat->Nat}{E:Array Æ}{L:List Ź}{jJ:List Nat}{qX:List Ā}{qQ:Δ}{qJ:é}{zX:aj->Prop}{zQ:List Int}{zJ:Go.TypeInfo}{xX:Δ->ì}{xQ:Go.Tape}{xJ:Nat×Nat}{wX:ω}{wQ:Ć}{wJ:Array Bool}{vX:List ByteArray}{vQ:ì->Ð->Prop}{vJ:Go.Exit->ś->Ð->Prop}{yX:ß}{Q:Array Ľ}{f:Ā}{V:Array ė}{F:Ļ}{s:Go.Func}
namespace Go.Proofs.Y.fD
open Go Go.Conc Go.Proofs.Y.Lift
open Go.ConcN (sumTo)
section
variable{F:Ph}{σ:fV F}{S:Nat->Jd}{tr:Nat->gy}{c:Nat->iB}{lot:Nat->fh}{gs:Array Æ}{w':Ð}{t u:é}{sz:Nat}
def wY(h:F.M b):F.G (fM b)/\F.G (gQ b):=⟨⟨b,h,À U⟩,⟨b,h,Á U⟩⟩
def wZ(h:F.G a):σ.Y a.block:=by obtain⟨b,c,rfl|rfl⟩:=h<;>exact À c
def iI.Y(L:iI F σ lot sz w)(ok:F.Ok)(f:F.G a):∀i,i<sz->¬(lot i).C a:=by
 intro i g h;let⟨b,c,d⟩:=f;rcases L.gX i g a h with⟨k,_,e⟩|⟨p,_,e⟩
 .rcases d with rfl|rfl<;>simp[fM,gQ,jk]at e
 .rcases d with rfl|rfl
  .simp only[fM,jv]at e;injection e with e1 _ _;exact ok.I<|e1▸c
  .simp only[gQ,jv]at e;injection e with e1 _ _;exact ok.I<|e1▸c
def iI.sV(L:iI F σ lot sz w)(c:Ps F σ)(d:j+2<=σ.r):∀i,i<sz->∀a:đ,a.block=σ.I j->¬(lot i).C a:=by
 intro i f a b g;let⟨h,l,_⟩:=c.o j d;rcases L.gX i f a g with⟨k,m,e⟩|⟨p,_,e⟩
 .exact h<|by rw[<-b,e];exact Á ⟨k,m,U⟩
 .exact l<|by rw[<-b,e];rfl
def iI.af9(L:iI F σ lot sz w):∀i,i<sz->∀a,(lot i).C a->a.spot=Í:=by intro i b a c;rcases L.gX i b a c with⟨k,_,rfl⟩|⟨p,_,rfl⟩<;>rfl
def iI.PX(L:iI F σ lot sz w)(ok:F.Ok):∀i,i<sz->¬(lot i).r (jv F F.f):=by
 intro i a h;rcases L.gX i a _ (À h)with⟨k,b,e⟩|⟨p,c,e⟩
 .have:F.Y=F.I k:=by injection e
  exact ok.I<|by rw[this];exact Á ⟨k,b,U⟩
 .have:F.f=p:=by injection e
  exact c this.symm
structure Hd(F:Ph)(σ:fV F)(lot:Nat->fh)(sz:Nat)(w w':Ð):Prop where
 Eo:w.heap.size<=w'.heap.size
 C:∀b,b<w.heap.size->¬σ.Y b->(∀i,i<sz->¬(lot i).O b)->w'.heap[b]?=w.heap[b]?
 r:∀a:đ,((∃k,k<=F.m/\a=jk F.toFx k)\/∃p,a=jv F p)->(∀i,i<sz->¬(lot i).r a)->w'.cell? a=w.cell? a
 I:kU w' F.Y=kU w F.Y
 M:w'.os=w.os/\w'.output=w.output
def Wd.KX(W:Wd F σ w)(H:gU F)(L:iI F σ lot sz w)(a:Hd F σ lot sz w w')(f:σ.S.md<=F.m){d:GS}{e:Nat->GS}(g:ig w' F.C d)(h:∀k,k<=F.m->ig w' (F.I k) (e k))(i:∀j,j+2<=σ.r->w'.heap[σ.I j]?=w.heap[σ.I j]?):Wd F {σ with b:=d,a:=e} w' where
 C:=g;I:=h;jL j hj:=by have:=W.jL j hj;rwa[<-i j hj]at this
 M k hk:=⟨(W.M k hk).1,H.S _ _ _ _ _ (W.M k hk).2 (λb c=>a.C b (L.I k hk b c).1 (L.I k hk b c).2.1 (L.I k hk b c).2.2) (a.r _ (À ⟨k,Ù hk f,U⟩)<|L.N k hk) (a.r _ (Á ⟨_,U⟩)<|L.PX H.C) a.I a.M⟩;S k h1 h2:=(a.r _ (Á ⟨_,U⟩)<|L.g k h1 h2).trans<|W.S k h1 h2;N j hj r hr hd:=(a.r _ (Á ⟨_,U⟩)<|L.d j hj r hr hd).trans<|W.N j hj r hr hd
def KY(a:Ps F σ):σ.S.md<=F.m:=by
 cases h:σ.S with
 |kJ k=>exact(a.I k).1 h
 |mk k=>have:=((a.I k).2.1 h).2;simp only[jB.md];omega
 |dn k p=>exact((a.I k).2.2 p h).2
def KZ(a:Ps F σ):σ.S.rl<=σ.S.md:=by
 cases h:σ.S with
 |dn k p=>cases p<;>simp only[jB.rl,jB.md]<;>omega
 |_=>exact Ç _
def PY(a:jB):a.od<=a.rl:=by
 cases a with
 |dn k p=>cases p<;>simp only[jB.rl,jB.od]<;>omega
 |_=>exact Ç _
def Xq{x:Nat}(h:σ.ie x):σ.lT x:=by let⟨e,a,b⟩:=h;exact⟨e,a,by cases e<;>first|exact b|trivial⟩
def K0{l a:fh}(h:l=kA l)(b:mC l a w w' V):a=kA a:=by
 have j:l.q:=by rw[h];trivial
 have c:a.O=λ_=>False:=by rw[(b.i j).2.2,h];rfl
 have e:a.I=λ_=>False:=by rw[b.I,h];rfl
 have f:a.r=λ_=>False:=by rw[b.r,h];rfl
 have g:a.N=λ_=>False:=by rw[b.M,h];rfl
 have i:a.q=True:=by rw[b.q,h];rfl
 obtain⟨O,k,m,n,d,q,o⟩:=a;simp only at c e f g i;subst c e f g i;rfl
def iI.fu(L:iI F σ lot gs.size w)(C:iT F.S (λi=>i<gs.size) σ.Y lot w t){m:fh}(M:i<gs.size)(f:mC (lot i) m w w' V):iI F σ (gw lot i m) gs.size w':=by
 have D:∀x,σ.lT x->i=F.L+x->m=kA m:=λx p e=>K0 (e▸L.S x p) f;have E:=λc g=>K0 (L.c i c g) f;have G:∀k a,(gw lot i m k).C a↔(lot k).C a:=λk a=>by
  by_cases e:k=i
  .subst e;rw[gY];unfold fh.C;rw[f.r,f.M]
  .rw[gJ lot _ e]
 have n:∀k,(gw lot i m k).r=(lot k).r:=λk=>by
  by_cases e:k=i
  .subst e;rw[gY,f.r]
  .rw[gJ lot _ e]
 have s:∀k,(gw lot i m k).N=(lot k).N:=λk=>by
  by_cases e:k=i
  .subst e;rw[gY,f.M]
  .rw[gJ lot _ e]
 have u:∀k,(gw lot i m k).I=(lot k).I:=λk=>by
  by_cases e:k=i
  .subst e;rw[gY,f.I]
  .rw[gJ lot _ e]
 refine⟨λk l a v=>L.gX k l a<|(G k a).1 v,λx c g a v=>by rw[n];exact L.o x c g a v,λh=>by rw[s,u];exact L.lO h,λh k c g=>by rw[n];exact L.e h k c g,λh o=>by rw[s,u];exact L.f h o,λj d o r y c=>by rw[n];exact L.h j d o r y c,λj d o=>by rw[s,u];exact L.l j d o,λx p=> ?_,λk l=> ?_,λk c g=> ?_,λk l b H=> ?_,λk l j d=>by rw[n];exact L.N k l j d,λk c g j d=>by rw[n];exact L.g k c g j d,λj d r y I k l=>by rw[n];exact L.d j d r y I k l⟩
 .by_cases e:F.L+x=i
  .rw[e,gY];exact D x p e.symm
  .rw[gJ lot _ e];exact L.S x p
 .by_cases e:k=i
  .subst e;rw[gY,f.q];exact L.M k l
  .rw[gJ lot _ e];exact L.M k l
 .by_cases e:k=i
  .subst e;rw[gY];exact E c g
  .rw[gJ lot _ e];exact L.c k c g
 .let⟨J,K,B⟩:=L.I k l b H;refine⟨Ê J f.C,K,λj d=> ?_⟩;by_cases e:j=i
  .subst e;rw[gY];intro q;rcases f.S b q with z|z
   .exact B j d z
   .omega
  .rw[gJ lot _ e];exact B j d
def aga(C:iT F.S (λi=>i<gs.size) σ.Y lot w t){h:fh}(d:i<gs.size)(c:mC (lot i) h w w' V):Hd F σ lot gs.size w w':= ⟨c.C,λb j e f=>c.jV b j (f i d) λa g q=>e<|g▸C.e i d a (À q),λa g f=>by
   have e:σ.Y a.block:=by
    rcases g with⟨k,l,rfl⟩|⟨p,rfl⟩
    .exact À<|Á ⟨k,l,U⟩
    .exact Á<|À U
   exact c.N a (C.N _ e) (λq=>C.I i d _ (À q) e)<|f i d,
  c.Y (jv F 0) (C.N _ (Á (À U))) λq=>C.I i d _ (À q) (Á (À U)),c.f,c.g⟩
def Xr(L:iI F σ lot gs.size w)(ok:F.Ok)(C:iT F.S (λi=>i<gs.size) σ.Y lot w t){g:fh}(e:i<gs.size)(c:mC (lot i) g w w' V)(f:F.M b){G:GS}(h:ig w b G):ig w' b G:=by have a:σ.Y b:=À f;have d:=λq=>C.I i e _ (À q) a;have j:=L.Y ok (wY f).1 i e;have k:=L.Y ok (wY f).2 i e;exact h.vv (c.N (fM b) (C.N _ a) d λq=>j<|À q) (c.N (gQ b) (C.N _ a) d λq=>k<|À q) (KH<|c.Y (fM b) (C.N _ a) d)<|KH<|c.Y (gQ b) (C.N _ a) d
def agb(L:iI F σ lot gs.size w)(e:Ps F σ)(C:iT F.S (λi=>i<gs.size) σ.Y lot w t){f:fh}(b:i<gs.size)(g:mC (lot i) f w w' V)(c:j+2<=σ.r):w'.heap[σ.I j]?=w.heap[σ.I j]?:=by have d:σ.Y (σ.I j):=Á<|Á ⟨j,c,U⟩;exact g.jV _ (C.N _ d) (λq=>C.I i b _ (À q) d) λa h q=>L.sV e c i b a h<|À q
def agc(L:iI F σ lot gs.size w)(H:Ps F σ)(ok:F.Ok)(C:iT F.S (λi=>i<gs.size) σ.Y lot w t)(Q:gs.size=F.L+σ.r){n:fh}{u:Array ė}{B:Ļ}{D:String}(p:i<gs.size)(l:mC (lot i) n w w' u): KV F.toFx σ.r (σ.S.rl) σ.V σ.d σ.ie t (Ý i B D u) i:=by
 have K:∀x,σ.ie x->i=F.L+x->n=kA n:=λx m e=>K0 (e▸L.S x (Xq m)) l;have M:=λd s=>K0 (L.c i d s) l;have E:∀c∈Ý i B D u,∀a,c.act.touch?=Ä a->∃y:đ,a.loc=ā y/\(n.O y.block\/n.r y\/((n.I y.block\/n.N y)/\a.write=É)):=λc g a o=>by obtain⟨e,j,rfl⟩:=Ø g;exact W9 (l.c e j) o
 have I:n=kA n->∀c∈Ý i B D u,c.act.touch?=Í:=λe c g=>by
  cases h:c.act.touch? with
  |none=>rfl
  |some a=>
   let⟨y,_,q⟩:=E c g a h;rw[e]at q;rcases q with q|q|⟨q|q,_⟩<;>exact q.elim
 refine⟨λc g _ _=>oB c g,?_,λc g a x o G m=> ?_,λc g a y o J G k d s=> ?_,λc g b _ e=> ?_,λx m N=> ?_⟩
 .by_cases h:i=0
  .exact À h
  .by_cases f:i<F.L
   .exact Á<|Á<|I<|M Z f
   .exact Á<|À ⟨i-F.L,Z,Z⟩
 .exfalso;let⟨y,h,q⟩:=E c g a o;rw[G]at h;injection h with h;subst h;have f:=wZ (σ:=σ) m;have r:=L.Y ok m i p;rcases q with q|q|⟨q|q,_⟩
  .rcases l.S _ q with z|z
   .exact C.I i p _ (À z) f
   .have:=C.N _ f;omega
  .exact r<|À<|by rwa[<-l.r]
  .exact C.I i p _ (Á<|by rwa[<-l.I]) f
  .exact r<|Á<|by rwa[<-l.M]
 .have h:=Ù s<|KZ H;let⟨x,m,q⟩:=E c g a o;rw[G]at m;injection m with m;subst m;rcases q with q|q|⟨_,q⟩
  .refine⟨λv=> ?_,λe=> ?_⟩
   .let⟨P,_,r⟩:=L.I k h _ v;rcases l.S _ q with z|z
    .exact r i p z
    .omega
   .have f:σ.Y y.block:=by rw[e];exact À<|Á ⟨k,Ù h<|KY H,U⟩
    rcases l.S _ q with z|z
    .exact C.I i p _ (À z) f
    .have:=C.N _ f;omega
  .refine⟨λv=> ?_,λe=> ?_⟩
   .exact(L.I k h _ v).2.1<|C.e i p y<|À<|by rwa[<-l.r]
   .exact L.N k h i p<|by rwa[<-l.r,<-e]
  .rw[q]at J;cases J
 .obtain⟨h,j,rfl⟩:=Ø g;have r:=l.c h j;let⟨v,P,T⟩:=h;simp only[Ë]at e;rcases r with⟨a,d,_⟩|d|⟨f,d⟩|d|d|⟨a,_,d|d|d|d⟩<;>(simp only at d;subst d;simp at e)
 .by_cases e:F.L+x=i
  .have f:=I<|K x N e.symm;refine⟨λr h=>h.app λj T W v=> ?_,λ_ c g a o=>by rw[f c g]at o;cases o⟩;let⟨z,P,_⟩:=v;rcases mS (show touchAt (t++_) j=Ä z from P)with⟨q,_⟩|⟨_,c,d,s,_⟩
   .omega
   .rw[f c d]at s;cases s
  .exact⟨λr h=>h.appOther oB<|õ e,λf=>absurd f e⟩
end
abbrev uf:=Nat×Nat×gy
def yy(x y:uf):Prop:=x.1<y.1\/(x.1=y.1/\(x.2.1<y.2.1\/(x.2.1=y.2.1/\Xc x.2.2 y.2.2)))
def Xs:WellFounded yy:=by
 refine⟨λx=> ?_⟩;let⟨a,b,c⟩:=x
 induction a using Ĕ generalizing b c with
 |_ a j=>
  induction b using Ĕ generalizing c with
  |_ b k=>
   induction Xd.apply c with
   |intro c _ l=>
    refine⟨_,λy h=> ?_⟩;let⟨m,f,e⟩:=y;rcases h with h|⟨d,h|⟨g,i⟩⟩
    .exact j m h f e
    .simp only at d h;subst d;exact k f h e
    .simp only at d g i;subst d g;exact l e i
def agd(x:uf):¬yy x x:=by
 intro h
 induction Xs.apply x with
 |intro x _ a=>exact a x h h
def DY(n:Nat)(f g:Nat->uf):Prop:=∃i,i<n/\yy (f i) (g i)/\∀j,j<n->j≠i->f j=g j\/yy (f j) (g j)
def Xt:∀(n:Nat) (g:Nat->uf),Acc (DY n) g
 |0,g=>⟨_,λf ⟨i,h,_⟩=>absurd h Z⟩
 |n+1,g=>by
  have k:∀(x:uf) (h:Nat->uf),∀g:Nat->uf,g n=x->(∀j,j<n->g j=h j)->Acc (DY<|n+1) g:=by
   intro x
   induction Xs.apply x with
   |intro x _ l=>
    intro h
    induction Xt n h with
    |intro h _ m=>
     intro g b c;refine⟨_,λf ⟨i,r,a,d⟩=> ?_⟩;by_cases e:f n=g n
     .have s:i≠n:=by
       intro q;subst q;rw[e]at a;exact agd _ a
      refine m f ⟨i,Z,by rwa[<-c i Z],λj o p=> ?_⟩ f (e.trans b) λ_ _=>rfl;rw[<-c j o];exact d j Z p
     .have:yy (f n) x:=by
       rw[<-b];by_cases q:n=i
       .rwa[q]
       .exact(d n Z q).resolve_left e
      exact l _ this f f U λ_ _=>rfl
  exact k (g n) g g U λ_ _=>rfl
abbrev Mu:=(Nat->uf)×Nat
def pE(n:Nat)(x y:Mu):Prop:=DY n x.1 y.1\/((∀j,j<n->x.1 j=y.1 j)/\x.2<y.2)
def agf(n:Nat):WellFounded (pE n):=by
 have e:∀h:Nat->uf,∀k:Nat,∀g:Nat->uf,(∀j,j<n->g j=h j)->Acc (pE n) (g,k):=by
  intro h
  induction Xt n h with
  |intro h _ l=>
   intro k
   induction k using Ĕ with
   |_ k m=>
    intro g a;refine⟨_,λy q=> ?_⟩;let⟨f,b⟩:=y;rcases q with⟨i,c,o,x⟩|⟨p,r⟩
    .exact l f ⟨i,c,by rwa[<-a i c],λj d s=>by rw[<-a j d];exact x j d s⟩ b f λ_ _=>rfl
    .exact m b r f λj x=>(p j x).trans<|a j x
 exact⟨λx=>e x.1 x.2 x.1 λ_ _=>rfl⟩
section
variable(F:Ph)
def jK.rk(n:Nat):jK->Nat
 |.jH=>n+1011
 |.iF=>n+1010
 |.gG W=>min W (n+1000)+4
 |.jf W=>min W (n+1000)+3
 |.iC r=>min r (n+1000)+2
def jr.rk:jr->Nat
 |.iZ=>7
 |.lX _=>6
 |.wr=>5
 |.kz=>4
 |.gG=>3
 |.lb=>2
def fX.rk(F:Ph):fX->Nat
 |.iF j=>F.q+F.n+20+4*(F.n-j)+7
 |.rd j=>F.q+F.n+20+4*(F.n-j)+6
 |.lC j=>F.q+F.n+20+4*(F.n-j)+5
 |.go j=>F.q+F.n+20+4*(F.n-j)+4
 |.iL r=>r+F.n+11
 |.kV r=>r+10
 |.fC p=>p.rk+2
 |.gi=>0
def jB.rk(F:Ph):jB->Nat
 |.kJ k=>(F.n+3000)*(F.m+2-k)+2900
 |.mk k=>(F.n+3000)*(F.m+3-k)+2800
 |.dn k p=>(F.n+3000)*(F.m+2-k)+2901+p.rk F.n
def gO.rk(F:Ph):gO->Nat
 |.nz r=>(F.n+3000)*(F.q+3-r)
 |.fC r p=>(F.n+3000)*(F.q+3-r)-20+p.rk
 |.jM r=>(F.n+3000)*(F.q+3-r)-30
 |.oQ r=>(F.n+3000)*(F.q+3-r)-40
def ij.rk(F:Ph):ij->Nat×Nat
 |.oT=>(F.n+2900,0)
 |.gi p=>(p.rk F.n,0)
 |.jh N=>(0,N)
end
def SP.rk(B:Nat)(st:Int):SP->Nat
 |.gk k=>B+2+k
 |.ld v k=>if st=v then k+1 else 2*B+3+k
def jr.lu(B:Nat)(st:Int):jr->Nat
 |.lX p=>p.rk B st
 |_=>0
section
variable{F:Ph}
def fV.iU(σ:fV F)(tr:Nat->gy)(i:Nat):uf:=
 if i=0 then(σ.M.rk F,0,tr 0)
 else if i<F.L then(0,σ.h i,.fF)
 else match σ.N (i-F.L)with
  |some e=>((e.rk F).1,(e.rk F).2,tr i)
  |none=>if i=F.L then(σ.S.rk F,0,tr i)else((σ.C<|i-F.L-1).rk F,0,tr i)
def fV.lu(σ:fV F)(i:Nat):Nat:=
 if i=0 then(match σ.M with|.fC p=>p.lu F.B σ.b.st|_=>0)
 else if i<=F.L then 0
 else match σ.C (i-F.L-1)with|.fC r p=>p.lu F.B (σ.a<|F.r<|i-F.L-1+r*F.n).st|_=>0
def gp(gs:Array Æ)(i:Nat):Nat:=if(gs[i]?).any (·.status==.running)then 1 else 0
def Ph.N(F:Ph):Nat:=F.L+F.n+1
def fV.mu(σ:fV F)(a:Nat->gy)(b:Array Æ):Mu:=(σ.iU a,Ñ F.N λi=>(F.N+1)*σ.lu i+gp b i)
end
def He{c x:Æ}(h:(Ą P g c w x).status=Þ):Ą P g c w x=x/\x.status=Þ:=by
 unfold Ą at h|-;split at h
 .rename_i b;rw[if_pos b];unfold ĕ at h|-;split at h
  .rename_i d e;simp only at h|-;split at h
   .cases h
   .rename_i f;simp only[d,e];exact⟨by rw[if_neg f],trivial⟩
  .cases h
  .cases h
  .rename_i d e f;exact⟨U,h⟩
 .rename_i b;rw[if_neg b];exact⟨U,h⟩
section
variable{F:Ph}{σ:fV F}{S:Nat->Jd}{tr:Nat->gy}{d:Nat->iB}{lot:Nat->fh}{gs gs':Array Æ}{w':Ð}{t u:é}{sl:Option (Nat×Nat)}
def fl.G5(h:fl F σ gs w)(o:gs'[i]?=Ä g)(p:g.status≠Þ)(t:∀k,k≠i->∃a f:Æ,gs'[k]?=gs[k]?.map (Ą F.P a f w'))(u:∀j,j+2<=σ.r->w'.heap[σ.I j]?=w.heap[σ.I j]?):fl F σ gs' w':=by
 intro k x b l;by_cases e:k=i
 .subst e;rw[o]at b;obtain rfl:=Ã b;exact absurd l p
 .let⟨a,f,q⟩:=t k e;rw[q]at b;obtain⟨y,v,rfl⟩:=Ú.1 b;let⟨_,z⟩:=He l;rcases h k y v z with h1|⟨j,c,m,n,d|⟨r,B,s,C,d,D⟩⟩
  .exact À h1
  .exact Á ⟨j,c,m,n,À d⟩
  .exact Á ⟨j,c,m,n,Á ⟨r,B,s,C,d,by rwa[u j c]⟩⟩
def lD{J:Jd}(a:∀l g,J l g->g.status=Å\/g.status=æ){l:fh}(h:fp P yQ J l g):g.status=Å\/g.status=æ:=by
 cases h with
 |fF h=>exact a _ _<|h _<|fK.fW _ _
 |jO _ _ _ _ b=>exact À b
def agh(H:gU F)(p:PI F m zX σ S tr d lot gs w t){i:Nat}(hi:i<gs.size):∀l g,S i l g->g.status=Å\/g.status=æ:=by
 have dn:∀(main:Bool) (b:Nat) (J:Jd),(∀l g,J l g->g.status=Å\/g.status=æ)->∀(p:jK) l g,Ej F.P main b J p l g->g.status=Å\/g.status=æ:=by
  intro main b J hJ p l g h;cases p with
  |jH=>exact À h.2.1
  |iF=>exact À h.2.1
  |gG W=>exact À h.2.1
  |jf W=>exact À h.2.1
  |iC r=>cases r with
   |zero=>exact hJ l g h
   |succ r=>exact À h.2.1
 have wt:∀(main:Bool) (b:Nat) (J:Jd) (p:jr) l g,qT F.P main F.B b J p l g->g.status=Å:=by
  intro main b J p l g h;cases p with
  |iZ=>let⟨k,_,_,T,h1,h2⟩:=h;exact(h2 _ _ h1).1
  |lX p=>let⟨_,T,h1,h2⟩:=h;exact(h2 _ _ h1).1
  |wr=>exact h.2.1
  |kz=>exact h.2.1
  |gG=>exact h.2.1
  |lb=>exact h.2.1
 have lv:∀l g,Em F l g->g.status=Å\/g.status=æ:=λl g ⟨N,h⟩=>h.status;intro l g h;by_cases e0:i=0
 .subst e0;rw[p.h.1]at h;cases hm:σ.M with
  |go j=>rw[hm]at h;exact À<|H.I _ _ _ _ h
  |lC j=>rw[hm]at h;let⟨c,h⟩:=h;exact À<|H.I _ _ _ _ h
  |rd j=>rw[hm]at h;exact À h.2.1
  |iF j=>rw[hm]at h;exact À h.2.1
  |iL r=>
   rw[hm]at h;have cl:∀r l g,AF F σ.I r l g->g.status=Å:=λr l g h=>by
    cases r with
    |zero=>exact wt _ _ _ .iZ _ _ h
    |succ r=>exact h.1
   cases r with
   |zero=>exact À<|cl _ _ _ h
   |succ r=>exact À h.1
  |kV r=>
   rw[hm]at h;cases r with
   |zero=>exact À<|wt _ _ _ .iZ _ _ h
   |succ r=>exact À h.1
  |fC p=>rw[hm]at h;exact À<|wt _ _ _ _ _ _ h
  |gi=>rw[hm]at h;exact À<|H.M _ _ _ h
 by_cases e1:i<F.L
 .rw[(p.l i Z e1).1]at h;exact QuitsD.status h
 have jx:=p.b;obtain⟨x,rfl⟩:∃x,i=F.L+x:=⟨i-F.L,Z⟩;cases he:σ.N x with
 |some e=>
  rw[(p.k x e Z he).1]at h;cases e with
  |oT=>exact À h.2.1
  |gi p=>exact dn _ _ _ lv _ _ _ h
  |jh N=>exact QuitsD.status h
 |none=>
  cases x with
  |zero=>
   rw[ö,(p.m Z he).1]at h;cases hm:σ.S with
   |kJ k=>rw[hm]at h;exact À<|H.N _ _ _ h
   |mk k=>rw[hm]at h;let⟨s',V,_,_,_,_,h⟩:=h;exact À h.2.1
   |dn k p=>rw[hm]at h;exact dn _ _ _ (λl g h=>lD (λl g h=>À<|H.N _ _ _ h) h) _ _ _ h
  |succ j=>
   rw[show F.L+(j+1)=F.L+1+j by omega,(p.g j Z he).1]at h;cases hm:σ.C j with
   |nz r=>rw[hm]at h;exact À h.1
   |fC r p=>rw[hm]at h;exact À<|wt _ _ _ _ _ _ h
   |jM r=>rw[hm]at h;exact À<|H.Y _ _ _ _ h
   |oQ r=>rw[hm]at h;exact À h.2.1
def agi{T:gy}(h:k≠i):σ.iU (fA tr i T) k=σ.iU tr k:=by
 unfold fV.iU;split
 .rename_i e;subst e;rw[fL tr _ h]
 .split
  .rfl
  .rw[fL tr _ h]
def agj{k:Ð->gy}(a:tr i=.jO k)(b:¬(0<i/\i<F.L)):yy (σ.iU (fA tr i<|k w) i) (σ.iU tr i):=by
 unfold fV.iU;split
 .rename_i e;subst e;rw[gD,a];exact Á ⟨U,Á ⟨U,w,U⟩⟩
 .split
  .exact absurd ⟨Z,‹_›⟩ b
  .rw[gD,a];split
   .exact Á ⟨U,Á ⟨U,w,U⟩⟩
   .split<;>exact Á ⟨U,Á ⟨U,w,U⟩⟩
def PI.fu(H:gU F)(p:PI F m zX σ S tr d lot gs w t){k:Ð->gy}(E:gs[i]?=Ä g)(f:tr i=.jO k): ∃gs' w' u e q,Ŝ F.P (ò gs w sl) i=(Ģ<|ò gs' w' sl,u)/\gs'.size=gs.size/\PI F m zX σ S e d q gs' w' (t++u)/\pE F.N (σ.mu e gs') (σ.mu tr gs):=by
 have c:=(Ò.1 E).1;let⟨gs',w',X,Y,J,v,⟨g',K,M⟩,O,h,Q⟩:=p.I.fu (sl:=sl) E f<|agh H p c;have G:¬(0<i/\i<F.L):=λ⟨a,b⟩=>by rw[(p.l i a b).2.1]at f;cases f
 have C:=p.I.r;have T:=aga (σ:=σ) C c h;have I:∀j,j+2<=σ.r->w'.heap[σ.I j]?=w.heap[σ.I j]?:=λj y=>agb p.a p.C C c h y;have V:i<F.N:=by
  have:=p.b;have:σ.r<=F.n+1:=by
   unfold fV.r;cases e:σ.M with
   |go j=>have:=p.C.C j<|À e;simp only[fX.sp];omega
   |lC j=>have:=p.C.C j<|Á<|À e;simp only[fX.sp];omega
   |rd j=>have:=p.C.C j<|Á<|Á<|À e;simp only[fX.sp];omega
   |iF j=>have:=p.C.C j<|Á<|Á<|Á e;simp only[fX.sp];omega
   |_=>simp only[fX.sp];omega
  unfold Ph.N;omega
 refine⟨gs',w',_,_,_,J,v,⟨v.trans p.b,Q,p.h,p.m,p.g,λx e l o=> ?_,λs l o=> ?_,?_,p.M.KX H p.a T (KY p.C) (Xr p.a H.C C c h (À U) p.M.C) (λs q=>Xr p.a H.C C c h (Á ⟨s,q,U⟩)<|p.M.I s q) I,p.C,p.d.C<|agc p.a p.C H.C C p.b c h,p.c.G5 K (by rcases M with q|q<;>rw[q]<;>simp) O I,λj r l o W=>(p.f j r l o W).app _⟩,À ⟨i,V,agj f G,λj _ y=>À<|agi y⟩⟩
 .let⟨z,B,D⟩:=p.k x e l o;refine⟨z,B,λq=> ?_⟩;have:=D q;rw[fL tr _ (λe=>by rw[<-e,this]at f;cases f)];exact this
 .let⟨z,B,D⟩:=p.l s l o;refine⟨z,?_,D⟩;rw[fL tr _ (λe=>by subst e;exact G ⟨l,o⟩)];exact B
 .have:=p.a.fu C c h;rwa[<-v]at this
end
end Go.Proofs.Y.fD
namespace Go.Proofs.Y.fD
open Go Go.Conc Go.Proofs.Y.Lift
open Go.ConcN (sumTo sumTo_congr)
def agk{J b:Jd}(c:∀l g,J l g->b l g):∀{T:gy} {l:fh} {g:Æ},k9 P yQ J T l g->k9 P yQ b T l g:=by
 intro T
 induction T with
 |fF=>exact λh a r=>c _ _<|h a r
 |jO k d=>
  intro l g h;refine⟨h.1,λa r=> ?_⟩;let⟨e,f,i,j,m,n,o⟩:=h.2 a r;exact⟨e,f,i,j,m,n,d a o⟩
section
variable{F:Ph}{σ σ':fV F}{S:Nat->Jd}{tr d:Nat->gy}{kp:Nat->iB}{c:Nat->fh}{gs gs':Array Æ}{u:é}{sl:Option (Nat×Nat)}
def gN.kJ{Y:Nat->Prop}(a:gN P n Y S tr kp c gs w qJ){J:Jd}(h:∀l g,S i l g->J l g):gN P n Y (fA S i J) tr kp c gs w qJ:=by
 refine⟨a.r,λk x f=> ?_,a.I⟩;let⟨g0,b,d⟩:=a.C k x f;by_cases e:k=i
 .subst e;rw[gD];exact⟨g0,agk h b,d⟩
 .rw[fL S _ e];exact⟨g0,b,d⟩
def Ep:σ.iU tr 0=(σ.M.rk F,0,tr 0):=by simp[fV.iU]
def K1(ok:F.Ok){x:Nat}{e:ij}(a:σ.N x=Ä e):σ.iU tr (F.L+x)=((e.rk F).1,(e.rk F).2,tr<|F.L+x):=by have:=ok.r;unfold fV.iU;rw[if_neg Z,if_neg Z,show F.L+x-F.L=x by omega,a]
def PZ(ok:F.Ok)(a:σ.N 0=Í):σ.iU tr F.L=(σ.S.rk F,0,tr F.L):=by have:=ok.r;unfold fV.iU;rw[if_neg Z,if_neg Z,show F.L-F.L=0 by omega,a,if_pos U]
def ug(ok:F.Ok)(a:σ.N (j+1)=Í):σ.iU tr (F.L+1+j)=((σ.C j).rk F,0,tr<|F.L+1+j):=by have:=ok.r;unfold fV.iU;rw[if_neg Z,if_neg Z,show F.L+1+j-F.L=j+1 by omega,a,if_neg Z];rfl
def yz(g:k=0->σ'.M.rk F=σ.M.rk F)(h:0<k->k<F.L->σ'.h k=σ.h k)(i:F.L<=k->σ'.N (k-F.L)=σ.N (k-F.L))(j:k=F.L->σ.N 0=Í->σ'.S.rk F=σ.S.rk F)(l:F.L<k->σ.N (k-F.L)=Í->(σ'.C<|k-F.L-1).rk F=(σ.C<|k-F.L-1).rk F)(b:d k=tr k):σ'.iU d k=σ.iU tr k:=by
 unfold fV.iU;by_cases c:k=0
 .subst c;rw[if_pos U,if_pos U,g U,b]
 .rw[if_neg c,if_neg c];by_cases a:k<F.L
  .rw[if_pos a,if_pos a,h Z a]
  .rw[if_neg a,if_neg a,i Z];cases f:σ.N (k-F.L)with
   |some e=>simp only;rw[b]
   |none=>
    simp only;by_cases e:k=F.L
    .rw[if_pos e,if_pos e,b,j e (by rw[<-f,e];simp)]
    .rw[if_neg e,if_neg e,b,l Z f]
def Hf(a:i<F.N)(h:yy (σ'.iU d i) (σ.iU tr i))(b:∀k,k≠i->σ'.iU d k=σ.iU tr k):pE F.N (σ'.mu d gs') (σ.mu tr gs):= À ⟨i,a,h,λj _ c=>À<|b j c⟩
def Er(a:Ps F σ):σ.r<=F.n+1:=by
 unfold fV.r;cases b:σ.M with
 |go j=>have:=a.C j<|À b;simp only[fX.sp];omega
 |lC j=>have:=a.C j<|Á<|À b;simp only[fX.sp];omega
 |rd j=>have:=a.C j<|Á<|Á<|À b;simp only[fX.sp];omega
 |iF j=>have:=a.C j<|Á<|Á<|Á b;simp only[fX.sp];omega
 |_=>simp only[fX.sp];omega
def PI.G(p:PI F b zX σ S tr kp c gs w qJ)(h:i<gs.size):i<F.N:=by have:=p.b;have:=Er p.C;unfold Ph.N;omega
def gS(σ:fV F)(j:Nat)(x:gO):fV F:={σ with C:=fA σ.C j x}
def jR(j:Nat)(x:gO):(gS σ j x).C j=x:=gD _ _ _
def iP(x:gO)(h:i≠j):(gS σ j x).C i=σ.C i:=fL _ _ h
def Xu{x:gO}(h:∀k,x.gE F j k=(σ.C j).gE F j k)(k:Nat):(Ñ F.n λi=>((gS σ j x).C i).gE F i k)=Ñ F.n λi=>(σ.C i).gE F i k:=by
 refine Į λi _=> ?_;by_cases e:i=j
 .subst e;rw[jR,h]
 .rw[iP x e]
def Es(ok:F.Ok){x:gO}{T:gy}(b:F.L+1+j<F.N)(a:σ.N (j+1)=Í)(h:x.rk F<(σ.C j).rk F):pE F.N ((gS σ j x).mu (fA tr (F.L+1+j) T) gs') (σ.mu tr gs):=by
 refine Hf b (À ?_) λk c=>yz (λ_=>rfl) (λ_ _=>rfl) (λ_=>rfl) (λ_ _=>rfl) (λd _=> ?_)<|fL tr _ c
 .rwa[ug ok (σ:=gS σ j x) (show(gS σ j x).N (j+1)=Í from a),ug ok a,jR]
 .rw[iP x Z]
def Ps.G(h:Ps F σ){x:gO}(m:j+2<=σ.r)(d:σ.N (j+1)=Í)(c:∀k,x.gE F j k=(σ.C j).gE F j k)(f:∀r,((∃p,x=.fC r p)\/x=.jM r\/x=.oQ r)->j+r*F.n<F.q) (g:∀r,(x=.fC r .gG\/x=.fC r .lb\/x=.jM r)->F.r (j+r*F.n)<=σ.S.od) (i:∀r,x=.fC r .gG->∃a b,σ.a (F.r<|j+r*F.n)=.gR a b) (l:∀r,x=.fC r .wr->σ.d (F.r<|j+r*F.n)=Ä j):Ps F (gS σ j x) where
 v:=h.v;C:=h.C;E:=h.E;K:=h.K;J:=h.J;I:=h.I;z j' oU:=by have:σ.r<j'+2:=oU;rw[iP x Z];exact h.z j' oU
 d j' r oU hx:=by
  by_cases e:j'=j
  .subst e;rw[jR]at hx;exact f r hx
  .rw[iP x e]at hx;exact h.d j' r oU hx
 l j' oU hx:=by
  have e:j'≠j:=λe=>by subst e;exact hx d
  rw[iP x e];exact h.l j' oU hx
 f:=h.f;h:=h.h;M:=h.M;o:=h.o;t:=h.t;g:=h.g;u:=h.u;N:=h.N;B:=h.B;e k h1 h2 h3:=by rw[Xu c];exact h.e k h1 h2 h3
 Y k h1 h2:=by rw[Xu c];exact h.Y k h1 h2
 w j' r oU hx:=by
  by_cases e:j'=j
  .subst e;rw[jR]at hx;exact g r hx
  .rw[iP x e]at hx;exact h.w j' r oU hx
 H j' r oU hx:=by
  by_cases e:j'=j
  .subst e;rw[jR]at hx;exact i r hx
  .rw[iP x e]at hx;exact h.H j' r oU hx
 L:=h.L;S:=h.S;y:=h.y;D j' r oU hx:=by
  by_cases e:j'=j
  .subst e;rw[jR]at hx;exact l r hx
  .rw[iP x e]at hx;exact h.D j' r oU hx
def vx(σ:fV F)(j:Nat)(x:gO)(k:Nat)(G:GS)(a:Nat->Option Nat):fV F:={gS σ j x with a:=fA σ.a k G,d:=a}
def Ps.Xv(h:Ps F σ){x:gO}{G:GS}{l:Nat->Option Nat}(T:j+2<=σ.r)(E:σ.N (j+1)=Í)(H:∀c,c≠k->x.gE F j c=(σ.C j).gE F j c) (I:1<=k->σ.S.od<k->G=.cl 1 (Ñ F.n λi=>((fD.gS σ j x).C i).gE F i k)) (J:k<=σ.S.od->(∃W,(σ.S=.dn k (.gG W)\/σ.S=.dn k (.jf W))/\G=.jI W/\W=Ñ F.n λi=>((fD.gS σ j x).C i).gE F i k)\/(∃r s,σ.S=.dn k (.iC r)/\0<r/\G=.gR r s/\r+s=Ñ F.n λi=>((fD.gS σ j x).C i).gE F i k)\/((∀p,σ.S≠ .dn k p)/\((G=.cl 0 0/\(Ñ F.n λi=>((fD.gS σ j x).C i).gE F i k)=0)\/∃s,G=.gR 0 s/\s=Ñ F.n λi=>((fD.gS σ j x).C i).gE F i k))) (K:(∃a b,σ.a k=.gR a b)->∃a b,G=.gR a b) (L:G=.cl 1 0->l k=Í) (B:∀c,c≠k->l c=σ.d c) (M:∀y,σ.d k=Ä y->l k=Ä y) (N:∀r,((∃p,x=.fC r p)\/x=.jM r\/x=.oQ r)->j+r*F.n<F.q) (O:∀r,(x=.fC r .gG\/x=.fC r .lb\/x=.jM r)->F.r (j+r*F.n)<=σ.S.od) (P:∀r,x=.fC r .gG->∃a b,fA σ.a k G (F.r<|j+r*F.n)=.gR a b) (Q:∀r,x=.fC r .wr->l (F.r<|j+r*F.n)=Ä j):Ps F (vx σ j x k G l):=by
 have C:∀c,c≠k->(Ñ F.n λi=>((vx σ j x k G l).C i).gE F i c)=Ñ F.n λi=>(σ.C i).gE F i c:=λc z=>by
  refine Į λi _=> ?_;by_cases e:i=j
  .subst e;show((fD.gS σ i x).C i).gE F i c=_;rw[jR,H c z]
  .show((fD.gS σ j x).C i).gE F i c=_;rw[iP x e]
 have v:∀c,c≠k->(vx σ j x k G l).a c=σ.a c:=λc z=>fL _ _ z;have gs:(vx σ j x k G l).a k=G:=gD _ _ _;have w:(vx σ j x k G l).C j=x:=jR _ _;have o:∀d,d≠j->(vx σ j x k G l).C d=σ.C d:=λd g=>iP x g;refine⟨h.v,h.C,h.E,h.K,h.J,h.I,λd g=> ?_,λd r g f=> ?_,λd g f=> ?_,h.f,h.h,h.M,h.o,h.t,h.g,h.u,h.N,h.B,λc t m D=> ?_,λc t m=> ?_,λd r g f=> ?_,λd r g f=> ?_,h.L,h.S,λc t m=> ?_,λd r g f=> ?_⟩
 .have:σ.r<d+2:=g;rw[o d Z];exact h.z d g
 .by_cases e:d=j
  .subst e;rw[w]at f;exact N r f
  .rw[o d e]at f;exact h.d d r g f
 .have e:d≠j:=λe=>by subst e;exact f E
  rw[o d e];exact h.l d g f
 .by_cases e:c=k
  .subst e;rw[gs];exact I t D
  .rw[v c e,C c e];exact h.e c t m D
 .by_cases e:c=k
  .subst e;rw[gs];exact J m
  .rw[v c e,C c e];exact h.Y c t m
 .by_cases e:d=j
  .subst e;rw[w]at f;exact O r f
  .rw[o d e]at f;exact h.w d r g f
 .by_cases e:d=j
  .subst e;rw[w]at f;exact P r f
  .rw[o d e]at f;have:=h.H d r g f;by_cases u:F.r (d+r*F.n)=k
   .rw[u]at this|-;rw[gs];exact K this
   .rw[v _ u];exact this
 .by_cases e:c=k
  .subst e;rw[gs]at m;exact L m
  .rw[v c e]at m;show l c=Í;rw[B c e];exact h.y c t m
 .by_cases e:d=j
  .subst e;rw[w]at f;exact Q r f
  .rw[o d e]at f;have:=h.D d r g f;show l _=Ä d;by_cases u:F.r (d+r*F.n)=k
   .rw[u]at this|-;exact M _ this
   .rw[B _ u];exact this
def iI.r(h:iI F σ c n w){x:gO}(g:x.kB=(σ.C j).kB):iI F (gS σ j x) c n w:=by
 have f:∀a,((fD.gS σ j x).C a).kB=(σ.C a).kB:=λa=>by
  by_cases e:a=j
  .subst e;rw[jR,g]
  .rw[iP x e]
 exact⟨h.gX,h.o,h.lO,h.e,h.f,λa e b r d i=>h.h a e b r d (by rwa[<-f]),h.l,h.S,h.M,h.c,h.I,h.N,h.g,λa e r b d=>h.d a e r b<|by rwa[<-f]⟩
def Wd.Y(h:Wd F σ w){x:gO}(b:x.kB=(σ.C j).kB)(c:x.iO=(σ.C j).iO):Wd F (gS σ j x) w:=by
 have d:∀a,((fD.gS σ j x).C a).kB=(σ.C a).kB:=λa=>by
  by_cases e:a=j
  .subst e;rw[jR,b]
  .rw[iP x e]
 have f:∀a,((fD.gS σ j x).C a).iO=(σ.C a).iO:=λa=>by
  by_cases e:a=j
  .subst e;rw[jR,c]
  .rw[iP x e]
 exact⟨h.C,h.I,λa e=>by rw[f];exact h.jL a e,h.M,h.S,λa e r g i=>h.N a e r g<|by rwa[<-d]⟩
structure qU(F:Ph)(σ:fV F)(S:Nat->Jd)(tr:Nat->gy)(kp:Nat->iB):Prop where
 M:S 0=JM F σ.I σ.M/\kp 0=kM σ.M
 Y:0<σ.r->σ.N 0=Í->S F.L=JI F σ.c σ.S/\kp F.L=.no
 I:∀j,j+2<=σ.r->σ.N (j+1)=Í->S (F.L+1+j)=JW F (σ.I j) j (σ.C j)/\kp (F.L+1+j)=kW F (σ.I j) (σ.C j)
 C:∀x e,x<σ.r->σ.N x=Ä e->S (F.L+x)=JE F e/\kp (F.L+x)=.no/\((∃N,e=.jh N)->tr (F.L+x)=.fF)
 r:∀i,0<i->i<F.L->S i=oS F.P (σ.h i)/\tr i=.fF/\kp i=.no
def PI.N(p:PI F b zX σ S tr kp c gs w qJ):qU F σ S tr kp:=⟨p.h,p.m,p.g,p.k,p.l⟩
def PI.r(a:qU F σ S tr kp)(d:gs.size=F.L+σ.r)(e:gN F.P F.S σ.Y S tr kp c gs w qJ)(f:iI F σ c gs.size w)(g:Wd F σ w)(h:Ps F σ)(i:TI F.toFx b zX σ.r σ.S.rl σ.V σ.e σ.d σ.ie σ.f qJ)(k:fl F σ gs w) (l:∀j r,j+2<=σ.r->σ.C j=.jM r->1<=F.r (j+r*F.n)->η qJ (F.L+1+j) (σ.e<|F.r<|j+r*F.n)):PI F b zX σ S tr kp c gs w qJ:=⟨d,e,a.M,a.Y,a.I,a.C,a.r,f,g,h,i,k,l⟩
def qU.N(h:qU F σ S tr kp)(ok:F.Ok){x:gO}{T:gy}(k:j+2<=σ.r)(f:σ.N (j+1)=Í):qU F (gS σ j x) (fA S (F.L+1+j)<|JW F (σ.I j) j x) (fA tr (F.L+1+j) T) (fA kp (F.L+1+j)<|kW F (σ.I j) x):=by
 have:=ok.r;refine⟨by rw[fL S _ Z,fL kp _ Z];exact h.M,λb a=>by rw[fL S _ Z,fL kp _ Z];exact h.Y b a,λd b a=> ?_,λy e b a=> ?_,λi b a=>by rw[fL S _ Z,fL kp _ Z,fL tr _ Z];exact h.r i b a⟩
 .by_cases e:d=j
  .subst e;rw[gD,gD,jR];exact⟨U,U⟩
  .rw[fL S _ Z,fL kp _ Z,iP x e];exact h.I d b a
 .have c:F.L+y≠F.L+1+j:=λe=>by
   have g:y=j+1:=Z
   subst g;have:σ.N (j+1)=Ä _:=a;rw[f]at this;cases this
  rw[fL S _ c,fL kp _ c,fL tr _ c];exact h.C y e b a
end
def uh(F:Fx)(e:ė):Prop:=(∃(x:đ) (a:Bool),F.G x/\e=⟨ā x,a,Ï⟩)\/e.loc=ź ù\/e.loc=ź ð
def Hg{F:Fx}{e:ė}(h:uh F e){b:Touch}(a:(Ë e).touch?=Ä b):∃x,F.G x/\b.loc=ā x/\b.kind=.atomic:=by
 let⟨g,c,i⟩:=e;rcases h with⟨x,j,d,f⟩|h|h
 .injection f with e1 e2 e3;subst e1 e2 e3;have:(Ë ⟨ā x,c,Ï⟩).touch?=Ä ⟨ā x,c,.atomic⟩:=by cases c<;>rfl
  rw[this]at a;obtain rfl:=Ã a;exact⟨x,d,U,U⟩
 .simp only at h;subst h;simp[Ë,Đ]at a
 .simp only at h;subst h;simp[Ë,Đ]at a
section
variable{F:Ph}{σ σ':fV F}{S:Nat->Jd}{tr l:Nat->gy}{f:Nat->iB}{c:Nat->fh}{gs gs':Array Æ}{u:é}{m:Option (Nat×Nat)}
def yA(σ:fV F)(i:Nat):Prop:=i=0\/∃x,x<σ.r/\i=F.L+x
def gN.N{Y:Nat->Prop}(e:gN P n Y S tr f c gs w qJ)(h:gs[i]?=Ä g)(j:g.status=Å)(k:tr i=.fF)(a:f i=.no\/f i=.iC):∀b,fK (c i) (c i).w b->S i {c i with w:=b} g:=by
 let⟨g0,hF,d,_,_⟩:=e.C i g h;rw[k]at hF;have:g=g0:=by
  rcases a with a|a<;>rw[a]at d<;>cases d
  .rfl
  .rfl
  .cases j
 subst this;exact hF
def Xw(b:TI F.toFx j zX σ.r σ.S.rl σ.V σ.e σ.d σ.ie σ.f qJ)(c:yA σ i)(d:n<j)(a:qJ.g? n=Ä 0):η qJ i n:=by
 rcases c with rfl|⟨x,e,rfl⟩
 .let⟨h,f,g⟩:=Ú.1 a;have:=knows_own f;rwa[g]at this
 .exact b.AA x e n d a
def agl(h:∀d,¬Race d qJ)(f:TI F.toFx j zX σ.r σ.S.rl σ.V σ.e σ.d σ.ie σ.f qJ)(k:yA σ i){g:Array ė}{l:Ļ}{m:String}(n:∀e∈g,uh F.toFx e):∀d,¬Race d (qJ++Ý i l m g):=by
 refine Pp h oB λB o b r=> ?_;obtain⟨e,s,rfl⟩:=Ø o;let⟨x,t,u,v⟩:=Hg (n e s) r;refine Á (Á ⟨v,λp a w q c=> ?_⟩);rcases f.M p a x w (q.trans u) t with⟨y,z⟩|q|⟨q,_⟩
 .exact Xw f k y z
 .rw[q]at c;cases c
 .rw[q]at c;cases c
def agm(L:iI F σ c gs.size w)(ok:F.Ok)(C:iT F.S (λi=>i<gs.size) σ.Y c w qJ)(f:∀e∈V,uh F.toFx e):∀e∈V,(∀b,(Ë e).touch?=Ä b->G3 (λi=>i<gs.size) σ.Y c b)/\(Ë e).low w.heap.size:=by
 intro e g;refine⟨λb j=> ?_,?_⟩
 .let⟨x,a,d,_⟩:=Hg (f e g) j;exact À ⟨x,d,wZ a,λk h=>L.Y ok a k h⟩
 .rcases f e g with⟨x,k,a,d⟩|h|h
  .subst d;have:=C.N _<|wZ (σ:=σ) a;cases k<;>exact this
  .let⟨l,k,m⟩:=e;simp only at h;subst h;trivial
  .let⟨l,k,m⟩:=e;simp only at h;subst h;trivial
def AG(d:Nat)(a:Array ė):Prop:=∀(j:Nat) (e:ė),a[j]?=Ä e->(Ë e).touch?=Í\/((∃b c,e=⟨ā b,c,Ï⟩)/\0<Î d (a.extract 0 j))
def agn(L:iI F σ c gs.size w)(u:Ps F σ)(C:iT F.S (λi=>i<gs.size) σ.Y c w qJ)(z:yA σ i){j:Array ė}{p:Ļ}{q:String}(m:∀e∈j,uh F.toFx e) (B:∀x,σ.ie x->i=F.L+x->(∀e∈j,∀b,(Ë e).touch?=Ä b->∃y:đ,b.loc=ā y/\y.block=F.C)/\AG (af qJ i) j):KV F.toFx σ.r σ.S.rl σ.V σ.d σ.ie qJ (Ý i p q j) i:=by
 refine⟨λl d _ _=>oB l d,z.imp id À,λl d a x g _ _=> ?_,λl d a y g _ D k s n=> ?_,λl d b _ e=> ?_,λx H E=> ?_⟩
 .obtain⟨e,f,rfl⟩:=Ø d;let⟨_,_,_,o⟩:=Hg (m e f) g;exact À o
 .obtain⟨e,f,rfl⟩:=Ø d;let⟨x,r,h,_⟩:=Hg (m e f) g;rw[D]at h;injection h with h;subst h;refine⟨λv=>(L.I k (Ù n<|KZ u) _ v).2.1<|wZ r,λe=> ?_⟩;obtain⟨b,_,t|t⟩:=r<;>(rw[t]at e;simp[fM,gQ,jk]at e)
 .obtain⟨r,f,rfl⟩:=Ø d;simp only at e;rcases m r f with⟨x,v,_,rfl⟩|h|h
  .cases v<;>simp[Ë]at e
  .let⟨t,v,G⟩:=r;simp only at h;subst h;simp[Ë]at e
  .let⟨t,v,G⟩:=r;simp only at h;subst h;simp[Ë]at e
 .by_cases e:F.L+x=i
  .let⟨s,n⟩:=B x E e.symm;subst e;refine⟨λr h=>h.appOwn p q j n,λ_ l d a g=> ?_⟩;obtain⟨e,f,rfl⟩:=Ø d;let⟨_,_,_,o⟩:=Hg (m e f) g;exact⟨s e f a g,o⟩
  .exact⟨λr h=>h.appOther oB<|õ e,λt=>absurd t e⟩
def yB(a:F.M b):∀e∈#[ky<|fM b],uh F.toFx e:=by
 intro e c;have:e=ky (fM b):=by simpa using c
 subst this;exact À ⟨_,É,(wY a).1,U⟩
def Xx(a:F.M b):∀e∈#[mT<|fM b],uh F.toFx e:=by
 intro e c;have:e=mT (fM b):=by simpa using c
 subst this;exact À ⟨_,Ï,(wY a).1,U⟩
def AH(a:F.M b):∀e∈#[ky<|fM b,mT<|fM b],uh F.toFx e:=by
 intro e c;simp at c;rcases c with rfl|rfl
 .exact À ⟨_,É,(wY a).1,U⟩
 .exact À ⟨_,Ï,(wY a).1,U⟩
def Hh(a:F.M b):∀e∈ú (gQ b),uh F.toFx e:=by
 intro e c;simp[ú]at c;rcases c with rfl|rfl|rfl|rfl
 .exact Á<|À U
 .exact À ⟨_,É,(wY a).2,U⟩
 .exact À ⟨_,Ï,(wY a).2,U⟩
 .exact Á<|Á U
def Hi(d:Nat):Î d #[ky a,mT a]=d/\Î d #[ky a]=d/\Î d #[mT a]=d/\Î d (ú a)=d:=by refine⟨U,U,U,?_⟩;simp[Î,ú]
def K2:AG 1 #[ky a,mT a]/\AG 1 #[ky a]/\AG 1 #[mT a]/\AG 1 (ú a):=by
 refine⟨λj e b=> ?_,λj e b=> ?_,λj e b=> ?_,λj e b=> ?_⟩
 .match j,b with
  |0,b=>obtain rfl:=Ã b;exact Á ⟨⟨a,É,U⟩,by simp[Î]⟩
  |1,b=>obtain rfl:=Ã b;exact Á ⟨⟨a,Ï,U⟩,by simp[Î,ky]⟩
  |j+2,b=>simp at b
 .match j,b with
  |0,b=>obtain rfl:=Ã b;exact Á ⟨⟨a,É,U⟩,by simp[Î]⟩
  |j+1,b=>simp at b
 .match j,b with
  |0,b=>obtain rfl:=Ã b;exact Á ⟨⟨a,Ï,U⟩,by simp[Î]⟩
  |j+1,b=>simp at b
 .match j,b with
  |0,b=>obtain rfl:=Ã b;exact À U
  |1,b=>obtain rfl:=Ã b;exact Á ⟨⟨a,É,U⟩,by simp[Î,ú]⟩
  |2,b=>obtain rfl:=Ã b;exact Á ⟨⟨a,Ï,U⟩,by simp[Î,ú]⟩
  |3,b=>obtain rfl:=Ã b;exact À U
  |j+4,b=>simp[ú]at b
def agp(ok:F.Ok)(g:F.G a)(v:ì):Hd F σ c gs.size w (w.setCell a v):=by
 have i:=wZ (σ:=σ) g;refine⟨Ö jT.symm,λb _ f _=>lr λe=>f<|e▸i,λd j _=>yu ?_,PK,U,U⟩;let⟨b,f,h⟩:=g;rcases j with⟨k,_,rfl⟩|⟨p,rfl⟩
 .right;rcases h with rfl|rfl<;>simp[fM,gQ,jk]
 .left;rcases h with rfl|rfl<;>exact λe=>ok.I (by have l:b=F.Y:=e;rwa[<-l])
def agq(L:iI F σ c gs.size w)(ok:F.Ok)(d:F.G a)(v:ì):qa (λi=>i<gs.size) σ.Y c w (w.setCell a v):= afX (wZ d) (by obtain⟨b,_,rfl|rfl⟩:=d<;>rfl) (λk i=>L.Y ok d k i) λk i b e=>L.af9 k i b e
def agr(c:Ps F σ)(d:F.G a)(v:ì)(f:j+2<=σ.r):(w.setCell a v).heap[σ.I j]?=w.heap[σ.I j]?:= lr λe=>(c.o j f).1 (by obtain⟨b,g,rfl|rfl⟩:=d<;>(rwa[e]))
def ags(h:a=fM b\/a=gQ b):a.block=b:=by rcases h with rfl|rfl<;>rfl
def iI.C(L:iI F σ c n w){d:Nat}{w0:Ð}(u:w.heap.size<=W.heap.size):iI F σ (gw c i {c i with d:=d,w:=w0}) n W:=by
 have e:∀k,(gw c i {c i with d:=d,w:=w0} k).O=(c k).O/\(gw c i {c i with d:=d,w:=w0} k).I=(c k).I/\(gw c i {c i with d:=d,w:=w0} k).r=(c k).r/\(gw c i {c i with d:=d,w:=w0} k).N=(c k).N/\(gw c i {c i with d:=d,w:=w0} k).q=(c k).q:=λk=>by
  by_cases h:k=i
  .subst h;rw[gY];exact⟨U,U,U,U,U⟩
  .rw[gJ c _ h];exact⟨U,U,U,U,U⟩
 have t:∀k,c k=kA (c k)->gw c i {c i with d:=d,w:=w0} k=kA (gw c i {c i with d:=d,w:=w0} k):=λk f=>by
  by_cases h:k=i
  .subst h;rw[gY];have a:(c k).O=λ_=>False:=by rw[f];rfl
   have b:(c k).I=λ_=>False:=by rw[f];rfl
   have g:(c k).r=λ_=>False:=by rw[f];rfl
   have j:(c k).N=λ_=>False:=by rw[f];rfl
   have l:(c k).q=True:=by rw[f];rfl
   simp only[kA,a,b,g,j,l]
  .rwa[gJ c _ h]
 refine⟨λk f a o=>L.gX k f a (by unfold fh.C at o|-;rwa[(e k).2.2.1,(e k).2.2.2.1]at o),λx g m a o=>by rw[(e 0).2.2.1];exact L.o x g m a o,λh=>by rw[(e 0).2.2.2.1,(e 0).2.1];exact L.lO h,λh k g m=>by rw[(e _).2.2.1];exact L.e h k g m,λh p=>by rw[(e _).2.2.2.1,(e _).2.1];exact L.f h p,λj l p r s g=>by rw[(e _).2.2.1];exact L.h j l p r s g,λj l p=>by rw[(e _).2.2.2.1,(e _).2.1];exact L.l j l p,λx v=>t _<|L.S x v,λk f=>by rw[(e k).2.2.2.2];exact L.M k f,λk g m=>t _<|L.c k g m,λk f b y=> ?_,λk f j l=>by rw[(e j).2.2.1];exact L.N k f j l,λk g m j l=>by rw[(e j).2.2.1];exact L.g k g m j l,λj l r s g k f=>by rw[(e k).2.2.1];exact L.d j l r s g k f⟩;let⟨z,B,D⟩:=L.I k f b y;exact⟨Ê z u,B,λj l=>by rw[(e j).1];exact D j l⟩
end
section
variable{F:Ph}{σ σ':fV F}{S:Nat->Jd}{tr c:Nat->gy}{a:Nat->iB}{lot:Nat->fh}{gs gs':Array Æ}{u:é}{sl:Option (Nat×Nat)}
def kC(b:Nat)(w W:Ð):Prop:=W=w\/∃x v,(x=fM b\/x=gQ b)/\W=w.setCell x v
def kC.Eo(h:kC b w W):W.heap.size=w.heap.size:=by
 rcases h with rfl|⟨x,v,_,rfl⟩
 .rfl
 .exact jT
def kC.KX(h:kC b w W)(ok:F.Ok)(a:F.M b):Hd F σ lot gs.size w W:=by
 rcases h with rfl|⟨x,v,c,rfl⟩
 .exact⟨Ç _,λ_ _ _ _=>rfl,λ_ _ _=>rfl,U,U,U⟩
 .exact agp ok ⟨b,a,c⟩ v
def kC.r(h:kC b w W)(L:iI F σ lot gs.size w)(ok:F.Ok)(a:F.M b):qa (λi=>i<gs.size) σ.Y lot w W:=by
 rcases h with rfl|⟨x,v,i,rfl⟩
 .exact qa.fW _ _ _ _
 .exact agq L ok ⟨b,a,i⟩ v
def kC.C(h:kC b w W)(a:Ps F σ)(c:F.M b)(d:j+2<=σ.r):W.heap[σ.I j]?=w.heap[σ.I j]?:=by
 rcases h with rfl|⟨x,v,e,rfl⟩
 .rfl
 .exact agr a ⟨b,c,e⟩ v d
def kC.M(h:kC b w W)(c:i≠b){G:GS}(a:ig w i G):ig W i G:=by
 rcases h with rfl|⟨x,v,d,rfl⟩
 .exact a
 .exact a.iU<|by rw[ags d];exact õ c
def kC.I(h:kC b w W)(H:gU F)(L:iI F σ lot gs.size w)(d:Ps F σ)(a:Wd F σ w)(f:F.M b){Ga:GS}{Gg:Nat->GS}(g:(b=F.C->ig W F.C Ga)/\(b≠F.C->Ga=σ.b))(i:∀k,k<=F.m->(b=F.I k->ig W (F.I k) (Gg k))/\(b≠F.I k->Gg k=σ.a k)):Wd F {σ with b:=Ga,a:=Gg} W:=by
 refine a.KX H L (h.KX H.C f) (KY d) ?_ (λk c=> ?_) λj e=>h.C d f e
 .by_cases e:b=F.C
  .exact g.1 e
  .rw[g.2 e];exact h.M (õ e) a.C
 .by_cases e:b=F.I k
  .exact(i k c).1 e
  .rw[(i k c).2 e];exact h.M (õ e)<|a.I k c
def PI.Y(H:gU F)(p:PI F b zX σ S tr a lot gs w qJ){c:Æ}{f:Array ė}{J:Jd}{T:gy}(K:iB)(q:gs[i]?=Ä g)(j:yA σ i)(r:F.M n)(s:í F.P (i==0) g w=Ŭ c W f)(l:kC n w W)(h:∀e∈f,uh F.toFx e)(m:Î (lot i).d f=(lot i).d) (t:∀x,σ.ie x->i=F.L+x->(∀e∈f,∀n,(Ë e).touch?=Ä n->∃y:đ,n.loc=ā y/\y.block=F.C)/\AG (af qJ i) f) (hF:k9 F.P (i==0) J T {lot i with w:=W} c) (v:c.status=Å\/c.status=æ): ∃gs' u,Ŝ F.P (ò gs w sl) i=(Ģ<|ò gs' W sl,u)/\gs'.size=gs.size/\gs'[i]?=Ä c/\(∀k,k≠i->gs'[k]?=gs[k]?.map (Ą F.P g c W))/\ gN F.P F.S σ.Y (fA S i J) (fA tr i T) (fA a i K) (gw lot i {lot i with w:=W}) gs' W (qJ++u)/\TI F.toFx b zX σ.r σ.S.rl σ.V σ.e σ.d σ.ie σ.f (qJ++u)/\iI F σ (gw lot i {lot i with w:=W}) gs'.size W:=by have C:=p.I.r;obtain⟨gs',z,k,B,D,o⟩:=p.I.qR q s (l.r p.a H.C r) (by rwa[m]) v (agm p.a H.C C h)<|agl C.l p.d j h;rw[m]at o;refine⟨gs',_,z,k,B,D,o,p.d.C<|agn p.a p.C C j h t,?_⟩;rw[k];exact p.a.C<|Ö l.Eo.symm
def fl.qR(B:fl F σ gs w){f:Æ}(v:gs'[i]?=Ä f)(z:f.status≠Þ)(C:∀k,k≠i->gs'[k]?=gs[k]?.map (Ą F.P g f W))(D:∀j,j+2<=σ.r->W.heap[σ.I j]?=w.heap[σ.I j]?) (m:σ'.r=σ.r) (E:σ'.I=σ.I) (o:∀x,F.L+x≠i->σ'.N x=σ.N x) (G:i≠0->σ'.M=σ.M) (p:∀j,F.L+1+j≠i->σ'.C j=σ.C j) (H:i≠0->σ.M=.fC .kz->σ.b.sm=0->σ'.b.sm=0\/∀x,gs'[0]?=Ä x->x.status≠Þ) (I:∀j r,F.L+1+j≠i->σ.C j=.fC r .kz->(σ.a<|F.r<|j+r*F.n).sm=0->(σ'.a<|F.r<|j+r*F.n).sm=0\/∀x,gs'[F.L+1+j]?=Ä x->x.status≠Þ):fl F σ' gs' W:=by
 intro k x b d;by_cases e:k=i
 .subst e;rw[v]at b;obtain rfl:=Ã b;exact absurd d z
 .have t:=b;rw[C k e]at b;obtain⟨y,J,rfl⟩:=Ú.1 b;let⟨_,K⟩:=He d;rcases B k y J K with⟨M,c,a⟩|⟨j,h,u,c,⟨r,a,l⟩|⟨r,N,s,O,a,l⟩⟩
  .subst M;refine À ⟨U,by rwa[G<|õ e],?_⟩;rcases H (õ e) c a with q|q
   .exact q
   .exact absurd d<|q _ t
  .subst c;refine Á ⟨j,by rwa[m],by rwa[o _ Z],U,À ⟨r,by rwa[p j e],?_⟩⟩;rcases I j r e a l with q|q
   .exact q
   .exact absurd d<|q _ t
  .subst c;exact Á ⟨j,by rwa[m],by rwa[o _ Z],U,Á ⟨r,N,s,O,by rwa[p j e],by rwa[E,D j h]⟩⟩
def Et(a:j+2<=σ.r):yA σ (F.L+1+j):=Á ⟨j+1,Z,Z⟩
def K3(b:σ.N (j+1)=Í):∀x,σ.ie x->F.L+1+j=F.L+x->False:=λx ⟨e,a,_⟩ h2=>by
 have:x=j+1:=Z
 subst this;rw[b]at a;cases a
def Hj(ok:F.Ok)(h:i<F.q):F.M (F.I<|F.r i):=Á ⟨F.r i,ok.M i h,U⟩
def iM(a:gs[i]?=Ä g):i<gs.size:=(Ò.1 a).1
end
def w7{f f':Nat->Nat}:∀{n:Nat},j<n->(∀i,i≠j->f' i=f i)->Ñ n f'+f j=Ñ n f+f' j
 |n+1,h,hf=>by
  simp only[Ñ];rcases ø j n with gH|a
  .have:=w7 (n:=n) gH hf;rw[hf n Z];omega
  .obtain rfl:j=n:=Z
   rw[Į λi b=>hf i Z];omega
def Hk{f:Nat->Nat}:∀{n:Nat},(∀i,f i<=1)->Ñ n f<=n
 |0,_=>Ç _
 |n+1,h=>by simp only[Ñ];have:=Hk (n:=n) h;have:=h n;omega
def P0{f:Nat->Nat}:∀{n:Nat},j<n->f j<=Ñ n f
 |n+1,h=>by
  simp only[Ñ];rcases ø j n with gH|a
  .have:=P0 (f:=f) (n:=n) gH;omega
  .obtain rfl:j=n:=Z
   omega
def Hl{f:Nat->Nat}:∀n:Nat,(Ñ n λi=>f i+D i)=Ñ n f+Ñ n D
 |0=>rfl
 |n+1=>by simp only[Ñ];rw[Hl n];omega
def P1{f:Nat->Nat}(c:Nat):∀n:Nat,(Ñ n λi=>c*f i)=c*Ñ n f
 |0=>by simp[Ñ]
 |n+1=>by simp only[Ñ];rw[P1 c n,į]
section
variable{F:Ph}{σ σ':fV F}{S:Nat->Jd}{tr z:Nat->gy}{C:Nat->iB}{o:Nat->fh}{gs gs':Array Æ}{u:é}{sl:Option (Nat×Nat)}
def j1(F:Ph)(b:Nat)(zX:aj->Prop)(σ:fV F)(tr:Nat->gy)(gs:Array Æ)(w:Ð)(qJ:é)(sl:Option (Nat×Nat))(i:Nat):Prop:=
 ∃(σ':fV F) (a:Nat->Jd) (z:Nat->gy) (c:Nat->iB) (d:Nat->fh) (gs':Array Æ) (W:Ð) (u:é),Ŝ F.P (ò gs w sl) i=(Ģ<|ò gs' W sl,u)/\gs'.size=gs.size/\(σ'.M=.gi->σ.M=.gi)/\PI F b zX σ' a z c d gs' W (qJ++u)/\pE F.N (σ'.mu z gs') (σ.mu tr gs)
def rM(F:Ph)(b:Nat)(zX:aj->Prop)(σ:fV F)(tr:Nat->gy)(gs:Array Æ)(w:Ð)(qJ:é):Prop:=
 ∃(σ':fV F) (a:Nat->Jd) (z:Nat->gy) (c:Nat->iB) (d:Nat->fh),(σ'.M=.gi->σ.M=.gi)/\PI F b zX σ' a z c d gs w qJ/\pE F.N (σ'.mu z gs) (σ.mu tr gs)
def agt(i:Nat):gp gs i<=1:=by unfold gp;split<;>omega
def Xy(a:∀k,k<F.N->σ'.iU z k=σ.iU tr k)(b:i<F.N)(g:σ'.lu i<σ.lu i)(c:∀k,k≠i->σ'.lu k=σ.lu k):pE F.N (σ'.mu z gs') (σ.mu tr gs):=by
 refine Á ⟨a,?_⟩;show(Ñ F.N λi=>(F.N+1)*σ'.lu i+gp gs' i)<Ñ F.N λi=>(F.N+1)*σ.lu i+gp gs i;rw[Hl,Hl,P1,P1];have h:=w7 b c;have j:=Hk (f:=gp gs') (n:=F.N) agt;have d:Ñ F.N σ'.lu+1<=Ñ F.N σ.lu:=Z
 have e:(F.N+1)*(Ñ F.N σ'.lu+1)<=(F.N+1)*Ñ F.N σ.lu:=ñ _ d;rw[į]at e;omega
def P3(a:∀k,k<F.N->σ.iU z k=σ.iU tr k)(b:i<F.N)(d:gp gs i=1)(e:gp gs' i=0)(c:∀k,k≠i->gp gs' k=gp gs k):pE F.N (σ.mu z gs') (σ.mu tr gs):=by refine Á ⟨a,?_⟩;show(Ñ F.N λi=>(F.N+1)*σ.lu i+gp gs' i)<Ñ F.N λi=>(F.N+1)*σ.lu i+gp gs i;rw[Hl,Hl];have:=w7 b c;omega
def Xz(ok:F.Ok)(j:Nat):σ.lu (F.L+1+j)=match σ.C j with|.fC r p=>p.lu F.B (σ.a<|F.r<|j+r*F.n).st|_=>0:=by have:=ok.r;unfold fV.lu;rw[if_neg Z,if_neg Z,show F.L+1+j-F.L-1=j by omega]<;>cases σ.C j<;>rfl
def agu{x:gO}(a:k≠F.L+1+j):(gS σ j x).lu k=σ.lu k:=by
 unfold fV.lu;split
 .rfl
 .split
  .rfl
  .rw[iP x Z];rfl
def agv(ok:F.Ok){r:Nat}{p a:SP}{T:gy}(d:F.L+1+j<F.N)(b:σ.N (j+1)=Í)(c:σ.C j=.fC r (.lX p))(f:tr (F.L+1+j)=.fF)(g:T=.fF)(h:a.rk F.B (σ.a<|F.r<|j+r*F.n).st<p.rk F.B (σ.a<|F.r<|j+r*F.n).st): pE F.N ((gS σ j<|.fC r (.lX a)).mu (fA tr (F.L+1+j) T) gs') (σ.mu tr gs):=by
 refine Xy (λk _=> ?_) d ?_ λk e=>agu e
 .by_cases e:k=F.L+1+j
  .subst e;rw[ug ok (σ:=gS σ j _) (show(gS σ j _).N (j+1)=Í from b),ug ok b,jR,gD,c,f,g];rfl
  .refine yz (λ_=>rfl) (λ_ _=>rfl) (λ_=>rfl) (λ_ _=>rfl) (λi _=> ?_)<|fL tr _ e;rw[iP _ Z]
 .rwa[Xz ok,Xz ok,jR,c]
def PI.Eu(H:gU F)(p:PI F b zX σ S tr C o gs w qJ){v:jr}(d:j+2<=σ.r)(e:σ.N (j+1)=Í)(f:gs[F.L+1+j]?=Ä g)(h:g.status=Å)(k:tr (F.L+1+j)=.fF)(l:σ.C j=.fC i v): ∀w₁,fK (o<|F.L+1+j) (o<|F.L+1+j).w w₁->qT F.P É F.B (F.I<|F.r<|j+i*F.n) (F.e (σ.I j)<|j+i*F.n) v {o (F.L+1+j)with w:=w₁} g:=by
 let⟨a,c⟩:=p.g j d e;rw[l]at a c;have m:C (F.L+1+j)=.no\/C (F.L+1+j)=.iC:=by rw[c];cases v<;>first|exact À U|exact Á U
 intro w₁ i;have:=p.I.N f h k m w₁ i;rwa[a]at this
def yC(ok:F.Ok)(j:Nat):(F.L+1+j==0)=É:=by have:=ok.r;simp
def PI.P4(H:gU F)(p:PI F b zX σ S tr C o gs w qJ){x:gO}{l:fh}{T:gy}(B:j+2<=σ.r)(u:σ.N (j+1)=Í)(f:gs[F.L+1+j]?=Ä g)(v:g.status=Å\/g.status=æ) (D:iT F.S (λi=>i<gs.size) σ.Y (gw o (F.L+1+j) l) w qJ) (hF:k9 F.P É (JW F (σ.I j) j x) T l g) (E:iI F (gS σ j x) (gw o (F.L+1+j) l) gs.size w) (G:Wd F (gS σ j x) w) (I:Ps F (gS σ j x)) (J:x.rk F<(σ.C j).rk F) (M:∀r,x≠ .jM r):rM F b zX σ tr gs w qJ:=by
 have N:=p.I.M (K:=kW F (σ.I j) x) f v D (by rwa[yC H.C]);refine⟨gS σ j x,_,_,_,_,λh=>h,.r (p.N.N H.C B u) p.b N E G I p.d (λk y m n=> ?_) λc r t a d=> ?_,Es H.C (p.G<|iM f) u J⟩
 .by_cases e:k=F.L+1+j
  .subst e;rw[f]at m;obtain rfl:=Ã m;rcases v with q|q<;>rw[q]at n<;>cases n
  .rcases p.c k y m n with t|⟨c,q,z,a,d|⟨r,O,s,Q,d,V⟩⟩
   .exact À t
   .exact Á ⟨c,q,z,a,À<|by rwa[iP x Z]⟩
   .exact Á ⟨c,q,z,a,Á ⟨r,O,s,Q,by rwa[iP x Z],V⟩⟩
 .by_cases e:c=j
  .subst e;rw[jR]at a;exact absurd a<|M r
  .rw[iP x e]at a;exact p.f c r t a d
def PI.agw(H:gU F)(p:PI F b zX σ S tr C o gs w qJ){r:Nat}(e:j+2<=σ.r)(l:σ.N (j+1)=Í)(m:gs[F.L+1+j]?=Ä g)(n:g.status=Å)(s:tr (F.L+1+j)=.fF)(c:σ.C j=.fC r .iZ):rM F b zX σ tr gs w qJ:=by
 have t:=p.Eu H e l m n s c;have f:=iM m;let⟨k,B,u,v⟩:=t w<|p.I.r.r _ f;have y:=p.C.d j r e<|À ⟨_,c⟩;have z:iT F.S (λi=>i<gs.size) σ.Y (gw o (F.L+1+j) {o (F.L+1+j)with w:=w}) w qJ:=p.I.r.C f (λ_ q=>q) (λa q=>À<|Á q) (λ_ q=>q) (λa q=>À<|Á q) U U U (p.I.r.m _ f)<|p.I.r.g _ f;refine p.P4 H (x:=.fC r (.lX (.gk k))) (T:=.fF) e l m (À n) z (λh a=>⟨u,KJ v a⟩) ?_ (p.M.Y (by rw[c];rfl)<|by rw[c];rfl) (p.C.G e l (λk=>by rw[c];rfl) (λa h=> ?_) (λa h=> ?_) (λa h=>by cases h) λa h=>by cases h) (by rw[c];simp only[gO.rk,jr.rk];omega) λa h=>by cases h
 .have:=(p.a.r (x:=.fC r (.lX (.gk k)))<|by rw[c];rfl).C (i:=F.L+1+j) (d:=(o<|F.L+1+j).d) (w0:=w)<|Ç _;exact this
 .rcases h with⟨_,h⟩|h|h<;>cases h;exact y
 .rcases h with h|h|h<;>cases h
def XA{y z:Int->Jd}{p:SP}{l:fh}{G:GS}(h:Eh P yQ (fM b) i y z p l g)(j:ig w b G):g.status=Å/\ ((∃f a e,í P yQ g w=Ŭ a w e/\(e=#[]\/e=#[ky<|fM b])/\Eh P yQ (fM b) i y z f l a/\f.rk i G.st<p.rk i G.st)\/ (∃a,í P yQ g w=Ŭ a w #[ky<|fM b]/\(∀c q,G=.cl c q->c=0)/\fp P yQ (y G.st) l a)\/ (∃a c q,G=.cl c q/\0<c/\í P yQ g w=Ŭ a (w.setCell (fM b)<|ê Ô<|Ô.wrap<|G.st+1) #[ky<|fM b,mT<|fM b]/\fp P yQ (z G.st) l a)):=by
 let⟨T,C,x⟩:=h;let⟨J,d⟩:=x p g C;refine⟨J,?_⟩;have D:∀u,T u g->(∀n,u≠ .gk (n+1))->(∀v n,u≠ .ld v (n+1))->u.rk i G.st<=p.rk i G.st->((∃f a e,í P yQ g w=Ŭ a w e/\(e=#[]\/e=#[ky<|fM b])/\Eh P yQ (fM b) i y z f l a/\f.rk i G.st<p.rk i G.st)\/ (∃a,í P yQ g w=Ŭ a w #[ky<|fM b]/\(∀c q,G=.cl c q->c=0)/\fp P yQ (y G.st) l a)\/ (∃a c q,G=.cl c q/\0<c/\í P yQ g w=Ŭ a (w.setCell (fM b)<|ê Ô<|Ô.wrap<|G.st+1) #[ky<|fM b,mT<|fM b]/\fp P yQ (z G.st) l a)):=by
  intro u C K L F;have d:=(x u g C).2;match u,d with
  |.gk (n+1),_=>exact absurd U<|K n
  |.ld v (n+1),_=>exact absurd U<|L v n
  |.gk 0,d=>
   let⟨a,o,k⟩:=d G.st;by_cases f:0<=G.st/\G.st<gd
   .rw[if_pos f]at k;have e:G.st<1000000:=by
     have t:=j.r;cases G with
     |cl c q=>
      let⟨H,I,m⟩:=t;simp only[GS.st,gd]at f|-;have:c=0:=Z
      have:=m this;omega
     |jI q=>simp only[GS.ok]at t;simp only[GS.st];omega
     |gR r s=>simp only[GS.st];omega
    exact Á<|À ⟨a,o w j.C,j.af2.1 f,k e⟩
   .rw[if_neg f]at k;have e:gd<=G.st/\G.st<gd*2147483648/\G.st%gd<1000000:=by
     have t:=j.r;cases G with
     |cl c q=>
      let⟨H,I,_⟩:=t;simp only[GS.st,gd]at f|-;omega
     |jI q=>simp only[GS.ok]at t;simp only[GS.st,gd]at f;omega
     |gR r s=>simp only[GS.st,gd]at f;omega
    let⟨m,M,E⟩:=k e;exact À ⟨.ld G.st m,a,_,o w j.C,Á U,⟨T,E,x⟩,Ê (by simp only[SP.rk,if_true];omega) F⟩
  |.ld v 0,⟨f,⟨a,o,k⟩,g'',E,n,hn,h4⟩=>
   by_cases e:G.st=v
   .subst e;have:∃c q,G=.cl c q/\0<c:=by
     have t:=j.r;cases G with
     |cl c q=>
      refine⟨c,q,U,?_⟩;let⟨H,I,_⟩:=t;simp only[GS.st,gd]at f;omega
     |jI q=>simp only[GS.ok]at t;simp only[GS.st,gd]at f;omega
     |gR r s=>simp only[GS.st,gd]at f;omega
    let⟨c,q,r,s⟩:=this;exact Á<|Á ⟨a,c,q,r,s,o w j.C j.I,k⟩
   .exact À ⟨.gk n,g'',_,E w G.st e j.C j.I,Á U,⟨T,h4,x⟩,Ê (by simp only[SP.rk,if_neg e];omega) F⟩
 match p,d with
 |.gk (n+1),⟨hn,d⟩=>
  rcases d with d|d
  .exact D (.gk 0) d (λn q=>by cases q) (λv n q=>by cases q)<|by simp only[SP.rk];omega
  .let⟨a,o,k⟩:=d w;exact À ⟨.gk n,a,#[],o,À U,⟨T,k,x⟩,by simp only[SP.rk];omega⟩
 |.gk 0,_=>exact D (.gk 0) C (λn q=>by cases q) (λv n q=>by cases q)<|Ç _
 |.ld v (m+1),⟨_,M,d⟩=>
  rcases d with d|d
  .exact D (.ld v 0) d (λn q=>by cases q) (λv n q=>by cases q)<|by simp only[SP.rk];split<;>omega
  .let⟨a,o,k⟩:=d w;exact À ⟨.ld v m,a,#[],o,À U,⟨T,k,x⟩,by simp only[SP.rk];split<;>omega⟩
 |.ld v 0,_=>exact D (.ld v 0) C (λn q=>by cases q) (λv n q=>by cases q)<|Ç _
def PI.agx(H:gU F)(p:PI F b zX σ S tr C o gs w qJ){r:Nat}{v:SP}(G:j+2<=σ.r)(z:σ.N (j+1)=Í)(hi:gs[F.L+1+j]?=Ä g)(jd:g.status=Å)(ht:tr (F.L+1+j)=.fF)(s:σ.C j=.fC r (.lX v)):j1 F b zX σ tr gs w qJ sl (F.L+1+j):=by
 have hJ:=p.Eu H G z hi jd ht s;have gH:=iM hi;have mE:=p.C.d j r G<|À ⟨_,s⟩;have N:=Hj H.C mE;have X:=H.C.M _ mE;have hG:=p.M.I _ X;obtain⟨hd,oR⟩:=hJ w<|p.I.r.r _ gH;have yD:j<F.n:=by have:=Er p.C;omega
 have ns:=K3 (σ:=σ) z;have mw:=yC H.C j;have ui:=p.G gH;have hdl:=hd;obtain⟨_,oR⟩:=XA oR hG;rcases oR with⟨p',g',es,h1,I,h3,h4⟩|⟨g',h1,I,h3⟩|⟨g',c,K,Q,uj,h1,I⟩
 .have hes:∀e∈es,uh F.toFx e:=by
   rcases I with rfl|rfl
   .intro e z;simp at z
   .exact yB N
  have hde:Î (o<|F.L+1+j).d es=(o<|F.L+1+j).d:=by rcases I with rfl|rfl<;>rfl
  obtain⟨T',P5,AJ⟩:=h3;obtain⟨gs',u,q1,V,q3,q4,q5,q6,q7⟩:=p.Y (J:=JW F (σ.I j) j<|.fC r (.lX p')) (T:=.fF) H (kW F (σ.I j)<|.fC r (.lX p')) hi (Et G) N (by rwa[mw]) (À U) hes hde (λx hs e=>(ns x hs e).elim) (by rw[mw];exact λw₁ oV=>⟨hd,KJ ⟨T',P5,AJ⟩ oV⟩)<|À (AJ _ _ P5).1;refine⟨gS σ j<|.fC r (.lX p'),_,_,_,_,gs',w,u,q1,V,λh=>h,.r (p.N.N H.C G z) (V.trans p.b) q5 (q7.r<|by rw[s];rfl) (p.M.Y (by rw[s];rfl)<|by rw[s];rfl) (p.C.G G z (λk=>by rw[s];rfl) (λm h=> ?_) (λm h=> ?_) (λm h=>by cases h) λm h=>by cases h) q6 ?_ λt m O E Y=> ?_,agv H.C ui z s ht rfl h4⟩
  .rcases h with⟨_,h⟩|h|h<;>cases h;exact mE
  .rcases h with h|h|h<;>cases h
  .exact p.c.qR (σ':=gS σ j _) q3 (by rw[(AJ _ _ P5).1];simp) q4 (λ_ _=>rfl) U U (λ_ _=>rfl) (λ_=>rfl) (λt e=>iP _ Z) (λ_ _ h=>À h) λ_ _ _ _ h=>À h
  .have e:t≠j:=λe=>by subst e;rw[jR]at E;cases E
   rw[iP _ e]at E;exact(p.f t m O E Y).app u
 .obtain⟨T,hT⟩:=jq h3;have lQ:=lD (λl g h=>À h.2.1) h3;obtain⟨gs',u,q1,V,q3,q4,q5,q6,q7⟩:=p.Y H (kW F (σ.I j)<|.fC r .lb) hi (Et G) N (by rwa[mw]) (À U) (yB N) U (λx hs e=>(ns x hs e).elim) (by rwa[mw]) lQ;refine⟨gS σ j<|.fC r .lb,_,_,_,_,gs',w,u,q1,V,λh=>h,.r (p.N.N H.C G z) (V.trans p.b) q5 (q7.r<|by rw[s];rfl) (p.M.Y (by rw[s];rfl)<|by rw[s];rfl) (p.C.G G z (λk=>by rw[s];rfl) (λm h=> ?_) (λm h=> ?_) (λm h=>by cases h) λm h=>by cases h) q6 ?_ λt m O E Y=> ?_,Es H.C ui z<|by rw[s];simp only[gO.rk,jr.rk];omega⟩
  .rcases h with⟨_,h⟩|h|h<;>cases h;exact mE
  .have:m=r:=by rcases h with h|h|h<;>cases h;rfl
   subst this;refine ĉ λAK=> ?_;have:=I _ _<|p.C.e _ Z X AK;omega
  .exact p.c.qR (σ':=gS σ j _) q3 (by rcases lQ with q|q<;>rw[q]<;>simp) q4 (λ_ _=>rfl) U U (λ_ _=>rfl) (λ_=>rfl) (λt e=>iP _ Z) (λ_ _ h=>À h) λ_ _ _ _ h=>À h
  .have e:t≠j:=λe=>by subst e;rw[jR]at E;cases E
   rw[iP _ e]at E;exact(p.f t m O E Y).app u
 .have hcd:σ.S.od<F.r (j+r*F.n):=by
   refine ó λhle=> ?_;rcases p.C.Y _ X hle with⟨W,_,q,_⟩|⟨_,_,_,_,q,_⟩|⟨_,⟨q,_⟩|⟨_,q,_⟩⟩<;>(rw[Q]at q;cases q);omega
  have rN:1<=F.r (j+r*F.n):=Z
  have AL:=p.C.e _ rN X hcd;have e0:=Q.symm.trans AL;injection e0 with e1 e2;subst e1;have XB:K<=F.n:=by rw[e2];exact Hk λi=>by cases σ.C i<;>simp only[gO.gE]<;>first|omega|(split<;>first|omega|(rename_i q _;cases q<;>simp[jr.rL]))
  have AN:=H.C.gf;have yE:=(Q▸hG:ig w (F.I<|F.r<|j+r*F.n) (.cl 1 K)).Xl Z Z;obtain⟨hv,yE⟩:=yE;have lQ:=Q▸h1;obtain⟨x,Ev,AO,XC,Ew,hx4⟩:∃(x:jr) (Ev:Nat->Option Nat),(x=.wr\/x=.kz)/\fp F.P É (qT F.P É F.B (F.I<|F.r<|j+r*F.n) (F.e (σ.I j)<|j+r*F.n) x) {o (F.L+1+j)with w:=w} g'/\((∀M,M≠F.r (j+r*F.n)->Ev M=σ.d M)/\∀y,σ.d (F.r<|j+r*F.n)=Ä y->Ev (F.r<|j+r*F.n)=Ä y)/\(x=.wr->Ev (F.r<|j+r*F.n)=Ä j):=by
   by_cases hz:K=0
   .subst hz;refine⟨.wr,fA σ.d (F.r<|j+r*F.n)<|Ä j,À U,?_,⟨λM tY=>fL _ _ tY,λy hy=> ?_⟩,λ_=>gD _ _ _⟩
    .have:σ.a (F.r<|j+r*F.n)=.cl 1 0:=Q;rw[this]at I;have e:(GS.cl 1 0).st%gd=0:=A
     simp only[e,if_true]at I;exact I
    .rw[p.C.y _ X Q]at hy;cases hy
   .refine⟨.kz,σ.d,Á U,?_,⟨λ_ _=>rfl,λ_ h=>h⟩,λh=>by cases h⟩;have:σ.a (F.r<|j+r*F.n)=.cl 1 K:=Q;rw[this]at I;have e:¬(GS.cl 1 K).st%gd=0:=by simp only[GS.st,gd];omega
    simp only[e,if_false]at I;exact I
  have hxw:x.rL=1:=by rcases AO with rfl|rfl<;>rfl
  have K4:=XC.jP (w₁:=w.setCell (fM<|F.I<|F.r<|j+r*F.n)<|ê Ô<|Ô.wrap<|(GS.cl 1 K).st+1) (by have D:=(kC.r (Á ⟨fM<|F.I<|F.r<|j+r*F.n,_,À U,U⟩:kC (F.I<|F.r<|j+r*F.n) w (w.setCell (fM<|F.I<|F.r<|j+r*F.n)<|ê Ô<|Ô.wrap<|(GS.cl 1 K).st+1)) p.a H.C N);exact⟨Ö D.r.symm,λf kL=>D.jV f<|p.I.r.I _ gH f kL,λa ha=>D.M _ gH a ha,λa ha=>D.N _ gH a ha,λa _=>D.I a⟩);obtain⟨T,hT⟩:=jq K4;have XD:=lD (λl g h=>by rcases AO with rfl|rfl<;>exact À h.2.1) XC;have P7:kC (F.I<|F.r<|j+r*F.n) w (w.setCell (fM<|F.I<|F.r<|j+r*F.n)<|ê Ô<|Ô.wrap<|(GS.cl 1 K).st+1):=Á ⟨_,_,À U,U⟩;obtain⟨gs',u,q1,V,q3,q4,q5,q6,q7⟩:=p.Y H (kW F (σ.I j)<|.fC r x) hi (Et G) N (by rwa[mw]) P7 (AH N) U (λx hs e=>(ns x hs e).elim) (by rwa[mw]) XD;have sX:=w7 (f':=λi=>((gS σ j<|.fC r x).C i).gE F i<|F.r<|j+r*F.n) yD (λi ly=>by rw[iP _ ly]);simp only[jR,s]at sX;have AP:gO.gE F j (F.r<|j+r*F.n) (.fC r x)=1:=by simp only[gO.gE,if_true,hxw]
  have sY:gO.gE F j (F.r<|j+r*F.n) (.fC r (.lX v))=0:=by simp only[gO.gE,if_true];rfl
  rw[AP,sY]at sX;refine⟨vx σ j (.fC r x) (F.r<|j+r*F.n) (.cl 1 (K+1)) Ev,_,_,_,_,gs',_,u,q1,V,λh=>h,.r ?_ (V.trans p.b) q5 ?_ ?_ (p.C.Xv G z (λM tY=> ?_) (λ_ _=> ?_) (λh=>by omega) (λ⟨a,f,h⟩=> ?_) (λh=>by injection h with _ h;omega) Ew.1 Ew.2 (λm h=> ?_) (λm h=> ?_) (λm h=> ?_) λm h=> ?_) (q6.af5 λM y hy=> ?_) ?_ λt m O E Y=> ?_,?_⟩
  .have:=p.N.N (x:=.fC r x) (T:=T) H.C G z;exact⟨this.M,this.Y,this.I,this.C,this.r⟩
  .have:=q7.r (x:=.fC r x) (by rw[s];rfl);exact⟨this.gX,this.o,this.lO,this.e,this.f,this.h,this.l,this.S,this.M,this.c,this.I,this.N,this.g,this.d⟩
  .have W1:=P7.I H p.a p.C p.M N (Gg:=fA σ.a (F.r<|j+r*F.n)<|.cl 1 (K+1)) ⟨λe=>absurd e<|H.C.N _ X,λ_=>rfl⟩ λM tY=>⟨λe=> ?_,λe=>fL _ _ λe'=>e<|by rw[e']⟩
   .have W2:=W1.Y (x:=.fC r x) (by show _=(σ.C j).kB;rw[s];rfl) (by show _=(σ.C j).iO;rw[s];rfl);exact⟨W2.C,W2.I,W2.jL,W2.M,W2.S,W2.N⟩
   .have e':=H.C.S _ _ X tY e;rwa[<-e',gD]
  .rw[s];simp only[gO.gE,if_neg<|õ tY]
  .congr 1;rw[<-e2]at sX;omega
  .rw[Q]at h;cases h
  .rcases h with⟨_,h⟩|h|h<;>cases h;exact mE
  .rcases h with h|h|h<;>cases h<;>(rcases AO with h|h<;>cases h)
  .cases h;rcases AO with h|h<;>cases h
  .cases h;exact hx4 U
  .by_cases e:M=F.r (j+r*F.n)
   .subst e;exact Ew.2 y hy
   .show Ev M=Ä y;rwa[Ew.1 M e]
  .refine p.c.qR (σ':=vx σ j _ _ _ _) q3 (by rcases XD with q|q<;>rw[q]<;>simp) q4 (λt oU=>P7.C p.C N oU) U U (λ_ _=>rfl) (λ_=>rfl) (λt e=>iP _ Z) (λ_ _ h=>À h) λt m _ _ h=>À ?_;by_cases e:F.r (t+m*F.n)=F.r (j+r*F.n)
   .show(fA σ.a _ _ _).sm=0;rw[e,gD];rfl
   .show(fA σ.a _ _ _).sm=0;rwa[fL _ _ e]
  .have e:t≠j:=λe=>by
    subst e;have:(gS σ t<|.fC r x).C t=.jM m:=E;rw[jR]at this;cases this
   have AQ:(gS σ j<|.fC r x).C t=.jM m:=E;rw[iP _ e]at AQ;exact(p.f t m O AQ Y).app u
  .have:=Es (σ:=σ) (tr:=tr) (gs:=gs) (gs':=gs') (x:=.fC r x) (T:=T) H.C ui z (by rw[s];rcases AO with rfl|rfl<;>simp only[gO.rk,jr.rk]<;>omega);rcases this with⟨i,O,E,Y⟩|⟨O,_⟩
   .exact À ⟨i,O,E,Y⟩
   .exfalso;have:=O _ ui;change(gS σ j<|.fC r x).iU (fA tr (F.L+1+j) T) (F.L+1+j)=σ.iU tr (F.L+1+j)at this;rw[ug H.C (σ:=gS σ j _) (show(gS σ j _).N (j+1)=Í from z),ug H.C z,jR,s]at this;injection this with e _;rcases AO with rfl|rfl<;>simp only[gO.rk,jr.rk]at e<;>omega
end
section
variable{F:Ph}{σ σ':fV F}{S:Nat->Jd}{o B:Nat->gy}{s:Nat->iB}{c:Nat->fh}{f:Array Æ}{u:é}{sl:Option (Nat×Nat)}
def PI.P8(H:gU F)(p:PI F j zX σ S o s c E w qJ){x:gO}{a:Æ}{T:gy}(z:i+2<=σ.r)(l:σ.N (i+1)=Í)(B:E[F.L+1+i]?=Ä g)(C:Ŝ F.P (ò E w sl) (F.L+1+i)=(Ģ<|ò f w sl,u))(m:f.size=E.size)(D:f[F.L+1+i]?=Ä a)(G:a.status=Å\/a.status=æ)(I:∀k,k≠F.L+1+i->f[k]?=E[k]?.map (Ą F.P g a w)) (J:gN F.P F.S σ.Y (fA S (F.L+1+i)<|JW F (σ.I i) i x) (fA o (F.L+1+i) T) (fA s (F.L+1+i)<|kW F (σ.I i) x) (gw c (F.L+1+i) {c (F.L+1+i)with w:=w}) f w (qJ++u)) (K:TI F.toFx j zX σ.r σ.S.rl σ.V σ.e σ.d σ.ie σ.f (qJ++u)) (M:iI F σ (gw c (F.L+1+i) {c (F.L+1+i)with w:=w}) f.size w) (t:x.kB=(σ.C i).kB) (N:x.iO=(σ.C i).iO) (O:Ps F (gS σ i x)) (Q:x.rk F<(σ.C i).rk F) (W:∀r,x=.jM r->1<=F.r (i+r*F.n)->η (qJ++u) (F.L+1+i) (σ.e<|F.r<|i+r*F.n)):j1 F j zX σ o E w qJ sl (F.L+1+i):=by
 refine⟨gS σ i x,_,_,_,_,f,w,u,C,m,λh=>h,.r (p.N.N H.C z l) (m.trans p.b) J (M.r t) (p.M.Y t N) O K ?_ λd v X b y=> ?_,Es H.C (p.G<|iM B) l Q⟩
 .exact p.c.qR (σ':=gS σ i _) D (by rcases G with q|q<;>rw[q]<;>simp) I (λ_ _=>rfl) U U (λ_ _=>rfl) (λ_=>rfl) (λd e=>iP _ Z) (λ_ _ h=>À h) λ_ _ _ _ h=>À h
 .by_cases e:d=i
  .subst e;rw[jR]at b;exact W v b y
  .rw[iP _ e]at b;exact(p.f d v X b y).app u
def P9{r:Nat}{v:jr}(h:v.rL=0):gO.gE F j k (.fC r v)=0:=by simp only[gO.gE,h];split<;>rfl
def xa{a:Ć}(h:a∈#[wQ]):a=wQ:=by simpa using h
def agy{i:Nat}{fn:Ļ}{pos:String}{m:κ}:∃y:Ć,Ý i fn pos #[jA m]=#[y]/\y.g=i/\y.act=Ğ m:=⟨{g:=i,fn,pos,act:=Ğ m},by simp[Ý,jA,Ë],U,U⟩
def PI.AR(H:gU F)(p:PI F j zX σ S o s c E w qJ){a:Æ}{m:κ}{J:Jd}{T:gy}(K:iB)(v:E[i]?=Ä g)(x:í F.P (i==0) g w=Ŭ a w #[jA m])(z:m≠ù)(B:m≠ð) (C:∀y:Ć,y.act=Ğ m->(∀b,y.act.touch?=Ä b->G3 (λi=>i<E.size) σ.Y c b)/\y.act.low w.heap.size) (D:∀y:Ć,y.g=i->y.act=Ğ m->∀G,¬Race G (qJ++#[y])) (hF:k9 F.P (i==0) J T {c i with w:=w} a) (I:a.status=Å\/a.status=æ): ∃f y,y.g=i/\y.act=Ğ m/\Ŝ F.P (ò E w sl) i=(Ģ<|ò f w sl,#[y])/\f.size=E.size/\f[i]?=Ä a/\(∀k,k≠i->f[k]?=E[k]?.map (Ą F.P g a w))/\ gN F.P F.S σ.Y (fA S i J) (fA o i T) (fA s i K) (gw c i {c i with w:=w}) f w (qJ++#[y])/\iI F σ (gw c i {c i with w:=w}) f.size w:=by
 obtain⟨y,l,n,h⟩:=agy;have r:Î (c i).d #[jA m]=(c i).d:=ņ (λe k=>by
  have:e=jA m:=by simpa using k
  subst this;exact⟨λq=>z (by injection q),λq=>B (by injection q)⟩) _
 have L:∀e∈#[jA m],Ë e=y.act:=λe k=>by
  have:e=jA m:=by simpa using k
  subst this;rw[h];rfl
 obtain⟨f,q,t,M,N,u⟩:=p.I.qR v x (qa.fW _ _ _ _) (by rwa[r]) I (λe k=>by rw[L e k];exact C y h) (by rw[l];exact D y n h);rw[r,l]at u;rw[l]at q;refine⟨f,y,n,h,q,t,M,N,u,?_⟩;rw[t];exact p.a.C<|Ç _
def Qa(H:gU F)(p:PI F j zX σ S o s c E w qJ)(hb:F.M b)(B:yA σ i){m:κ}(M:m=.read (gQ b)\/m=ς (gQ b))(Q:F.PQ σ.d (gQ b) (Ä i))(T:∀x,σ.ie x->i≠F.L+x): (∀y:Ć,y.act=Ğ m->(∀b,y.act.touch?=Ä b->G3 (λi=>i<E.size) σ.Y c b)/\y.act.low w.heap.size)/\(∀y:Ć,y.g=i->y.act=Ğ m->∀N,¬Race N (qJ++#[y]))/\∀y:Ć,y.g=i->y.act=Ğ m->TI F.toFx j zX σ.r σ.S.rl σ.V σ.e σ.d σ.ie σ.f (qJ++#[y]):=by
 have C:=p.I.r;have D:∀y:Ć,y.act=Ğ m->∀a,y.act.touch?=Ä a->a.loc=ā (gQ b)/\a.kind=.said:=λy t a h=>by rw[t]at h;rcases M with rfl|rfl<;>simp[Đ]at h<;>subst h<;>exact⟨U,U⟩
 have u:=(wY hb).2;refine⟨λy t=>⟨λa h=>À ⟨_,(D y t a h).1,wZ u,λk B=>p.a.Y H.C u k B⟩,?_⟩,λy G t=>λN=> ?_,λy G t=> ?_⟩
 .have:=C.N _<|wZ (σ:=σ) u;rw[t];rcases M with rfl|rfl<;>exact this
 .refine noRace_append (C.l N) (λd f=>by rw[xa f,G]) λq a h d f z hz W=> ?_;have:d=y:=by simpa using f
  subst this;let⟨l,O⟩:=D d t z hz;rcases p.d.M q a _ h (W.1.trans l) u with⟨I,n⟩|r|⟨_,r⟩
  .exact Xw p.d B I n
  .let⟨_,_,_,v⟩:=W;rw[r,O]at v;rcases v with v|v|⟨_,v,_⟩<;>cases v
  .have e:qJ.g? q=Ä i:=by
    rcases Q with⟨J,K⟩|⟨k,v,J,K,s3,s4⟩
    .rcases r with⟨_,n⟩|⟨k,v,P,n,_,_⟩
     .rw[n,K]
     .rw[J]at n;exact absurd (by injection n with n _ _;exact n.symm)<|H.C.N k P
    .rcases r with⟨I,_⟩|⟨k',j',P,n,X,r4⟩
     .rw[K]at I;exact absurd (by injection I)<|H.C.N k J
     .rw[K]at n;have:k=k':=H.C.S _ _ J P (by injection n);subst this;rw[s3]at X;obtain rfl:=Ã X;rw[r4,s4]
   let⟨K,v,J⟩:=Ú.1 e;have:=knows_own v;rwa[J]at this
 .refine p.d.C ⟨λd f a _=>by rw[xa f,G],B.imp id À,λd f a x h n J=> ?_,λd f a z h P n k W I=> ?_,λd f X _ e=> ?_,λx J q=>⟨λr K=>K.appOther (λd f=>by rw[xa f,G])<|T x q,λe=>absurd e.symm<|T x q⟩⟩
  .have:d=y:=by simpa using f
   subst this;let⟨l,O⟩:=D d t a h;rw[n]at l;injection l with l;subst l;exact Á ⟨O,Q⟩
  .have:d=y:=by simpa using f
   subst this;let⟨l,_⟩:=D d t a h;rw[n]at l;injection l with l;subst l;exact⟨λv=>(p.a.I k (Ù I<|KZ p.C) _ v).2.1<|wZ u,λe=>by simp[gQ,jk]at e⟩
  .have:d=y:=by simpa using f
   subst this;rw[t]at e;rcases M with rfl|rfl<;>simp at e
def PI.agz(H:gU F)(p:PI F j zX σ S o s c E w qJ){r:Nat}(b:i+2<=σ.r)(d:σ.N (i+1)=Í)(q:E[F.L+1+i]?=Ä g)(z:g.status=Å)(B:o (F.L+1+i)=.fF)(a:σ.C i=.fC r .wr):j1 F j zX σ o E w qJ sl (F.L+1+i):=by
 have C:=iM q;let⟨hd,_,g',D,u⟩:=p.Eu H b d q z B a w<|p.I.r.r _ C;have t:=p.C.d i r b<|À ⟨_,a⟩;have G:=Hj H.C t;have I:=H.C.M _ t;have v:=yC H.C i;have K:=K3 (σ:=σ) d;let⟨M,N,O⟩:=Qa H p G (Et b) (m:=ς<|gQ<|F.I<|F.r<|i+r*F.n) (Á U) (Á ⟨_,i,I,U,p.C.D i r b a,U⟩) λx h e=>K x h e;let⟨T,P⟩:=jq u;have x:=lD (λl g h=>À h.2.1) u;obtain⟨f,y,l,Q,V,W,X,Y,q5,q7⟩:=p.AR (J:=JW F (σ.I i) i<|.fC r .kz) H (kW F (σ.I i)<|.fC r .kz) q (by rw[v];exact D w) ft ft M N (by rwa[v]) x;refine p.P8 H b d q V W X x Y q5 (O y l Q) q7 (by rw[a];rfl) (by rw[a];rfl) (p.C.G b d (λk=>by rw[a];rfl) (λe h=> ?_) (λe h=> ?_) (λe h=>by cases h) λe h=>by cases h) (by rw[a];simp only[gO.rk,jr.rk];omega) λe h=>by cases h
 .rcases h with⟨_,h⟩|h|h<;>cases h;exact t
 .rcases h with h|h|h<;>cases h
def PI.agA(H:gU F)(p:PI F j zX σ S o s c E w qJ){r:Nat}(m:i+2<=σ.r)(n:σ.N (i+1)=Í)(q:E[F.L+1+i]?=Ä g)(D:g.status=Å)(G:o (F.L+1+i)=.fF)(d:σ.C i=.fC r .gG):j1 F j zX σ o E w qJ sl (F.L+1+i):=by
 have I:=iM q;let⟨hd,_,K⟩:=p.Eu H m n q D G d w<|p.I.r.r _ I;have t:=p.C.d i r m<|À ⟨_,d⟩;have y:=Hj H.C t;have M:=H.C.M _ t;have z:=yC H.C i;let⟨a,b,N⟩:=p.C.H i r m d;have B:=p.M.I _ M;rw[N]at B;let⟨g',O,v⟩:=K 0;simp only[if_true]at v;let⟨T,P⟩:=jq v;have C:=lD (λl g h=>À h.2.1) v;obtain⟨f,u,l,Q,V,W,X,Y,q7⟩:=p.Y (J:=JW F (σ.I i) i<|.fC r .lb) H (kW F (σ.I i)<|.fC r .lb) q (Et m) y (by rw[z];exact O w B.C) (À U) (yB y) U (λx k e=>(K3 n x k e).elim) (by rwa[z]) C;refine p.P8 H m n q l Q V C W X Y q7 (by rw[d];rfl) (by rw[d];rfl) (p.C.G m n (λk=>by rw[d];rfl) (λe h=> ?_) (λe h=> ?_) (λe h=>by cases h) λe h=>by cases h) (by rw[d];simp only[gO.rk,jr.rk];omega) λe h=>by cases h
 .rcases h with⟨_,h⟩|h|h<;>cases h;exact t
 .rcases h with h|h|h<;>cases h;exact p.C.w i r m<|À d
def PI.agB(H:gU F)(p:PI F j zX σ S o s c E w qJ){r:Nat}(d:i+2<=σ.r)(t:σ.N (i+1)=Í)(q:E[F.L+1+i]?=Ä g)(K:g.status=Å)(M:o (F.L+1+i)=.fF)(a:σ.C i=.fC r .lb):j1 F j zX σ o E w qJ sl (F.L+1+i):=by
 have B:=iM q;let⟨N,_,g',O,C⟩:=p.Eu H d t q K M a w<|p.I.r.r _ B;have u:=p.C.d i r d<|À ⟨_,a⟩;have D:=Hj H.C u;have Qb:=H.C.M _ u;have G:=yC H.C i;have P:=(p.I.r.f _ B).trans N;have v:∀y:Ć,y.act=Ğ (ľ<|fM<|F.I<|F.r<|i+r*F.n)->y.act.touch?=Í:=λy m=>by rw[m];rfl
 let⟨T,Q⟩:=jq C;have I:=lD (λl g h=>À<|H.Y _ _ _ _ h) C;obtain⟨f,y,V,x,W,X,Y,q4,q5,q7⟩:=p.AR (J:=JW F (σ.I i) i<|.jM r) H (kW F (σ.I i)<|.jM r) q (by rw[G];exact O w) ft ft (λy m=>⟨λz b=>(by rw[v y m]at b;cases b),by rw[m];exact p.I.r.N _<|À D⟩) (λy _ m=>Ax p.I.r.l λk l=>by rw[xa l];exact v y m) (by rwa[G]) I;have z:=p.d.C (yx (λk l=>by rw[xa l];exact v y x) (λk l b _ e=>by
  have:k=y:=by simpa using l
  rw[this,x]at e;simp at e))
 refine p.P8 H d t q W X Y I q4 q5 z q7 (by rw[a];rfl) (by rw[a];rfl) (p.C.G d t (λk=>by rw[a,P9 U];rfl) (λb h=> ?_) (λb h=> ?_) (λb h=>by cases h) λb h=>by cases h) (by rw[a];simp only[gO.rk,jr.rk];omega) λb h k=> ?_
 .rcases h with⟨_,h⟩|h|h<;>cases h;exact u
 .rcases h with h|h|h<;>cases h;exact p.C.w i r d<|Á<|À a
 .cases h;have l:=p.C.w i r d<|Á<|À a;let⟨b,e,z3⟩:=p.d.Y _ k<|Ù l<|PY _;exact Xo b e z3 (p.d.c _ D) V x P
end
section
variable{F:Ph}{σ σ':fV F}{S:Nat->Jd}{tr o:Nat->gy}{f:Nat->iB}{d:Nat->fh}{gs gs':Array Æ}{u:é}{sl:Option (Nat×Nat)}
def XF{G:GS}(h:G.sm≠0):∃a s,G=.gR a (s+1):=by
 cases G with
 |cl c b=>exact absurd U h
 |jI b=>exact absurd U h
 |gR a s=>cases s with
  |zero=>exact absurd U h
  |succ s=>exact⟨a,s,U⟩
def Ex(h:gs[i]?=Ä g):gp gs i=if g.status=Å then 1 else 0:=by unfold gp;rw[h];simp
def Qc(h:gs'[i]?=gs[i]?):gp gs' i=gp gs i:=by unfold gp;rw[h]
theorem PI.agC(H:gU F)(p:PI F n zX σ S tr f d gs w qJ){j r:Nat}{g:Æ}(t:j+2<=σ.r)(m:σ.N (j+1)=Í)(v:gs[F.L+1+j]?=Ä g)(z:g.status=Å)(ht:tr (F.L+1+j)=.fF)(c:σ.C j=.fC r .kz):j1 F n zX σ tr gs w qJ sl (F.L+1+j):=by
 have B:=iM v;have hJ:=p.Eu H t m v z ht c;obtain⟨hd,_,ho,Qd,g',h1,h2⟩:=hJ w<|p.I.r.r _ B;have O:=p.C.d j r t<|À ⟨_,c⟩;have C:=Hj H.C O;have E:=H.C.M _ O;have Q:=yC H.C j;have V:=p.G B;have yD:j<F.n:=by have:=Er p.C;omega
 have hG:=p.M.I _ E;by_cases J:(σ.a<|F.r<|j+r*F.n).sm=0
 .have q:=hG.M;rw[J]at q;obtain⟨X,G⟩:=p.g j t m;rw[c]at X G;have yF:=Qd w q;obtain⟨gs',q1,o,K,q4⟩:=Pv v (by rwa[Q]);have b:∀x,Ą F.P g {g with status:=Þ} w x=x:=by
   intro x;unfold Ą;rw[if_neg ft]
  have l:∀k,k≠F.L+1+j->gs'[k]?=gs[k]?:=by
   intro k a;rw[q4 k a];cases gs[k]? with
   |none=>rfl
   |some x=>simp[b]
  have s:gN F.P F.S σ.Y S tr f d gs' w (qJ++#[]):=by
   rw[Û];obtain⟨g0,D,W,M,N⟩:=p.I.C _ g v;have I:g=g0:=by
    rw[G]at W;cases W with
    |gp=>rfl
    |nZ h ho=>cases z
   subst I;refine⟨?_,λk y a=> ?_,λk a=>p.I.I k<|by rwa[<-o]⟩
   .rw[show(λi=>i<gs'.size)=(λi=>i<gs.size) by rw[o]];exact p.I.r
   .by_cases e:k=F.L+1+j
    .subst e;rw[K]at a;obtain rfl:=Ã a;refine⟨g,D,?_,À z,Á ht⟩;rw[G];exact .nZ z ho
    .rw[l k e]at a;exact p.I.C k y a
  refine⟨σ,S,tr,f,d,gs',w,#[],q1,o,λh=>h,.r p.N (o.trans p.b) s (by rw[o];exact p.a) p.M p.C (by rw[Û];exact p.d) (λk y a kL=> ?_) (by rw[Û];exact p.f),P3 (λ_ _=>rfl) V (by rw[Ex v,if_pos z]) (by rw[Ex K,if_neg ft]) λk a=>Qc<|l k a⟩;by_cases e:k=F.L+1+j
  .subst e;exact Á ⟨j,t,m,U,À ⟨r,c,J⟩⟩
  .rw[l k e]at a;exact p.c k y a kL
 .obtain⟨a,s,y⟩:=XF J;have Hm:=y▸hG;have yE:=Hm.kz;have Qe:((GS.gR a<|s+1).sm:Int)≠0:=by simp only[GS.sm];omega
  have yF:=h1 w _ Qe Hm.M Hm.N;have M:kC (F.I<|F.r<|j+r*F.n) w (w.setCell (gQ<|F.I<|F.r<|j+r*F.n)<|ê â<|(GS.gR a<|s+1).sm-1):=Á ⟨_,_,Á U,U⟩;have D:=M.r p.a H.C C;have K4:=h2.jP (w₁:=w.setCell (gQ<|F.I<|F.r<|j+r*F.n)<|ê â<|(GS.gR a<|s+1).sm-1) ⟨Ö D.r.symm,λb kL=>D.jV b<|p.I.r.I _ B b kL,λa ha=>D.M _ B a ha,λa ha=>D.N _ B a ha,λa _=>D.I a⟩;obtain⟨T,hT⟩:=jq K4;have lQ:=lD (λl g h=>À h.2.1) h2;obtain⟨gs',u,q1,o,K,q4,q5,q6,q7⟩:=p.Y H (kW F (σ.I j)<|.fC r .gG) v (Et t) C (by rwa[Q]) M (Hh C) (Hi _).2.2.2 (λx q e=>(K3 m x q e).elim) (by rwa[Q]) lQ;have hle:F.r (j+r*F.n)<=σ.S.od:=by refine ĉ λq=> ?_;have:=p.C.e _ Z E q;rw[y]at this;cases this
  have sX:=w7 (f':=λi=>((gS σ j<|.fC r .gG).C i).gE F i<|F.r<|j+r*F.n) yD (λi q=>by rw[iP _ q]);simp only[jR,c]at sX;have X:gO.gE F j (F.r<|j+r*F.n) (.fC r .gG)=0:=by simp only[gO.gE,if_true];rfl
  have G:gO.gE F j (F.r<|j+r*F.n) (.fC r .kz)=1:=by simp only[gO.gE,if_true];rfl
  rw[X,G]at sX;refine⟨vx σ j (.fC r .gG) (F.r<|j+r*F.n) (.gR a s) σ.d,_,_,_,_,gs',_,u,q1,o,λh=>h,.r ?_ (o.trans p.b) q5 ?_ ?_ (p.C.Xv t m (λq W=> ?_) (λ_ h=>by omega) (λ_=> ?_) (λ_=>⟨a,s,U⟩) (λh=>by cases h) (λ_ _=>rfl) (λ_ h=>h) (λk h=> ?_) (λk h=> ?_) (λk h=> ?_) λk h=>by cases h) q6 ?_ λl k I N a3=> ?_,?_⟩
  .have:=p.N.N (x:=.fC r .gG) (T:=T) H.C t m;exact⟨this.M,this.Y,this.I,this.C,this.r⟩
  .have:=q7.r (x:=.fC r .gG) (by rw[c];rfl);exact⟨this.gX,this.o,this.lO,this.e,this.f,this.h,this.l,this.S,this.M,this.c,this.I,this.N,this.g,this.d⟩
  .have W1:=M.I H p.a p.C p.M C (Gg:=fA σ.a (F.r<|j+r*F.n)<|.gR a s) ⟨λe=>absurd e<|H.C.N _ E,λ_=>rfl⟩ λq W=>⟨λe=> ?_,λe=>fL _ _ λe'=>e<|by rw[e']⟩
   .have q:=W1.Y (x:=.fC r .gG) (by show _=(σ.C j).kB;rw[c];rfl) (by show _=(σ.C j).iO;rw[c];rfl);exact⟨q.C,q.I,q.jL,q.M,q.S,q.N⟩
   .have e':=H.C.S _ _ E W e;rwa[<-e',gD]
  .rw[c];simp only[gO.gE,if_neg<|õ W]
  .rcases p.C.Y _ E hle with⟨W,_,q,_⟩|⟨r1,s1,z1,z2,q,z3⟩|⟨z1,⟨q,_⟩|⟨s1,q,z3⟩⟩
   .rw[y]at q;cases q
   .rw[y]at q;injection q with e1 e2;subst e1 e2;exact Á<|À ⟨a,s,z1,z2,U,Z⟩
   .rw[y]at q;cases q
   .rw[y]at q;injection q with e1 e2;subst e1 e2;exact Á<|Á ⟨z1,Á ⟨s,U,Z⟩⟩
  .rcases h with⟨_,h⟩|h|h<;>cases h;exact O
  .rcases h with h|h|h<;>cases h;exact hle
  .cases h;exact⟨a,s,gD _ _ _⟩
  .refine p.c.qR (σ':=vx σ j _ _ _ _) K (by rcases lQ with q|q<;>rw[q]<;>simp) q4 (λl q=>M.C p.C C q) U U (λ_ _=>rfl) (λ_=>rfl) (λl e=>iP _ Z) (λ_ _ h=>À h) λl k _ _ h=>À ?_;by_cases e:F.r (l+k*F.n)=F.r (j+r*F.n)
   .rw[e]at h;exact absurd h J
   .show(fA σ.a _ _ _).sm=0;rwa[fL _ _ e]
  .have e:l≠j:=λe=>by
    subst e;have:(gS σ l<|.fC r .gG).C l=.jM k:=N;rw[jR]at this;cases this
   have q:(gS σ j<|.fC r .gG).C l=.jM k:=N;rw[iP _ e]at q;exact(p.f l k I q a3).app u
  .have:=Es (σ:=σ) (tr:=tr) (gs:=gs) (gs':=gs') (x:=.fC r .gG) (T:=T) H.C V m (by rw[c];simp only[gO.rk,jr.rk];omega);rcases this with⟨i,I,N,a3⟩|⟨I,_⟩
   .exact À ⟨i,I,N,a3⟩
   .exfalso;have:=I _ V;change(gS σ j<|.fC r .gG).iU (fA tr (F.L+1+j) T) (F.L+1+j)=σ.iU tr (F.L+1+j)at this;rw[ug H.C (σ:=gS σ j _) (show(gS σ j _).N (j+1)=Í from m),ug H.C m,jR,c]at this;injection this with e _;simp only[gO.rk,jr.rk]at e;omega
def iI.agD(L:iI F σ d i w){l:fh}(G:∀b,l.O b->(d n).O b)(H:∀b,(d n).I b->l.I b)(I:∀a,l.r a->(d n).r a)(J:∀a,(d n).r a->l.r a)(K:∀a,(d n).N a->l.N a)(M:∀a,l.C a->(∃k,k<=F.m/\a=jk F.toFx k)\/∃p,p≠F.f/\a=jv F p)(N:l.q=(d n).q)(o:¬l.q):iI F σ (gw d n l) i w:=by
 have D:∀k,d k=kA (d k)->k≠n:=λk g e=>by
  subst e;have:(d k).q:=by rw[g];trivial
  exact o<|N▸this
 have P:∀k b,(gw d n l k).O b->(d k).O b:=λk b h=>by
  by_cases e:k=n
  .subst e;rw[gY]at h;exact G b h
  .rwa[gJ d _ e]at h
 have t:∀k a,(gw d n l k).r a↔(d k).r a:=λk a=>by
  by_cases e:k=n
  .subst e;rw[gY];exact⟨I a,J a⟩
  .rw[gJ d _ e]
 have y:∀k b,(d k).I b->(gw d n l k).I b:=λk b h=>by
  by_cases e:k=n
  .subst e;rw[gY];exact H b h
  .rwa[gJ d _ e]
 have z:∀k a,(d k).N a->(gw d n l k).N a:=λk a h=>by
  by_cases e:k=n
  .subst e;rw[gY];exact K a h
  .rwa[gJ d _ e]
 refine⟨λk g a v=> ?_,λx c s a v=>(t _ _).2<|L.o x c s a v,λh=>⟨z _ _ (L.lO h).1,λb o=>y _ _<|(L.lO h).2 b o⟩,λh k c s=>⟨(t _ _).2 (L.e h k c s).1,(t _ _).2 (L.e h k c s).2⟩,λh u=>⟨z _ _ (L.f h u).1,λb o=>y _ _<|(L.f h u).2 b o⟩,λj f u r B c=>(t _ _).2<|L.h j f u r B c,λj f u=>⟨z _ _ (L.l j f u).1,λb o=>y _ _<|(L.l j f u).2 b o⟩,λx E=> ?_,λk g=> ?_,λk c s=> ?_,λk g b o=> ?_,λk g j f h=>L.N k g j f<|(t _ _).1 h,λk c s j f h=>L.g k c s j f<|(t _ _).1 h,λj f r B c k g h=>L.d j f r B c k g<|(t _ _).1 h⟩
 .by_cases e:k=n
  .subst e;rw[gY]at v;exact M a v
  .rw[gJ d _ e]at v;exact L.gX k g a v
 .rw[gJ d _<|D _<|L.S x E];exact L.S x E
 .by_cases e:k=n
  .subst e;rwa[gY]
  .rw[gJ d _ e];exact L.M k g
 .rw[gJ d _<|D _<|L.c k c s];exact L.c k c s
 .let⟨Q,T,V⟩:=L.I k g b o;exact⟨Q,T,λj f h=>V j f<|P j b h⟩
def PI.agE(H:gU F)(p:PI F n zX σ S tr f d gs w qJ){r:Nat}(o:j+2<=σ.r)(s:σ.N (j+1)=Í)(x:gs[F.L+1+j]?=Ä g)(y:g.status=Å)(K:tr (F.L+1+j)=.fF)(m:σ.C j=.jM r):rM F n zX σ tr gs w qJ:=by
 have l:=iM x;have C:=p.I.r;obtain⟨z,B⟩:=p.g j o s;rw[m]at z B;have D:=p.I.N x y K (À B) w<|C.r _ l;rw[z]at D;have u:=p.C.d j r o<|Á<|À m;have E:=H.C.M _ u;have G:=p.C.w j r o<|Á<|Á m;have t:=Ù G<|Ù (PY _)<|KZ p.C;obtain⟨M,N⟩:=p.M.M _ t;have I:=λa c=>by
  by_cases h:1<=F.r (j+r*F.n)
  .exact(p.d.I _ h (Ù G<|PY _) a c).af3<|p.f j r o m h
  .have e:F.r (j+r*F.n)=0:=Z
   obtain⟨i,b⟩:=p.a.l j o s;rw[e]at c;rcases c with c|rfl
   .rw[p.C.v]at c;exact(C.S _ l).C a<|b _ c
   .exact(C.S _ l).r _ i
 have O:=p.a.M (F.L+1+j) (Á ⟨j+1,Z,Z,λ⟨e,v,_⟩=>by rw[s]at v;cases v⟩);have J:iT F.S (λi=>i<gs.size) σ.Y (gw d (F.L+1+j) {d (F.L+1+j)with I:=λb=>(d<|F.L+1+j).I b\/σ.V (F.r<|j+r*F.n) b,N:=λa=>(d<|F.L+1+j).N a\/a=jk F.toFx (F.r<|j+r*F.n),w:=w}) w qJ:=by
  refine C.C l (λ_ q=>q) (λb q=> ?_) (λ_ q=>q) (λa q=> ?_) U U U (λb e q=> ?_) λa c q=> ?_
  .rcases q with q|q
   .exact À<|Á q
   .obtain⟨i,T,P⟩:=p.a.I _ t b q;exact Á ⟨i,T,λk h=>P k h,λa c=>I a<|À<|by rwa[c]⟩
  .rcases q with q|rfl
   .exact À<|Á q
   .exact Á ⟨À<|Á ⟨_,E,U⟩,λk h=>p.a.N _ t k h,I _<|Á U⟩
  .rcases q with q|q
   .exact C.m _ l b e q
   .exact(p.a.I _ t b q).2.2 _ l e
  .rcases q with q|rfl
   .exact C.g _ l a c q
   .exact p.a.N _ t _ l c
 have i:=J.M l;rw[gY]at i;have P:=H.e (σ.I j) j r _ _ _ g u D {d (F.L+1+j)with I:=λb=>(d<|F.L+1+j).I b\/σ.V (F.r<|j+r*F.n) b,N:=λa=>(d<|F.L+1+j).N a\/a=jk F.toFx (F.r<|j+r*F.n),w:=w} i U (λb q=>q) U U U U U M N (Á U) (p.a.h j o s r u<|by rw[m];exact Ç _);obtain⟨T,Q⟩:=jq P;refine p.P4 H o s x (À y) J Q ?_ (p.M.Y (by rw[m];rfl)<|by rw[m];rfl) (p.C.G o s (λk=>by rw[m];rfl) (λe h=> ?_) (λe h=> ?_) (λe h=>by cases h) λe h=>by cases h) ?_ λe h=>by cases h
 .refine(p.a.r<|by rw[m];rfl).agD (λ_ q=>q) (λ_ q=>À q) (λ_ q=>q) (λ_ q=>q) (λ_ q=>À q) (λa c=> ?_) U O;rcases c with q|q|rfl
  .exact p.a.gX _ l a<|À q
  .exact p.a.gX _ l a<|Á q
  .exact À ⟨_,E,U⟩
 .rcases h with⟨_,h⟩|h|h<;>cases h;exact u
 .rcases h with h|h|h<;>cases h
 .rw[m];simp only[gO.rk];have e:F.n+3000<=(F.n+3000)*(F.q+3-r):=ç _ (by
   have:r<=F.q:=by have v:=H.C.C;have:r*1<=r*F.n:=ñ _ v;omega
   omega)
  omega
def PI.agF(H:gU F)(p:PI F n zX σ S tr f d gs w qJ){r:Nat}(E:j+2<=σ.r)(G:σ.N (j+1)=Í)(T:gs[F.L+1+j]?=Ä g)(X:g.status=Å)(ht:tr (F.L+1+j)=.fF)(u:σ.C j=.oQ r):rM F n zX σ tr gs w qJ:=by
 have D:=iM T;have C:=p.I.r;let⟨AP,sY⟩:=p.g j E G;rw[u]at AP sY;have hJ:=p.I.N T X ht<|À sY;rw[AP]at hJ;let⟨hcell,hrecv⟩:=hJ w<|C.r _ D;have mE:=p.C.d j r E<|Á<|Á u;have vy:=p.a.M (F.L+1+j) (Á ⟨j+1,Z,Z,λ⟨e,c,_⟩=>by rw[G]at c;cases c⟩);have K5:=p.a.h j E G r mE (by rw[u];exact Ç _);have K6:r<=F.q:=by have c:=H.C.C;have:r*1<=r*F.n:=ñ _ c;omega
 have Hn:iT F.S (λi=>i<gs.size) σ.Y (gw d (F.L+1+j)<|vw F {d (F.L+1+j)with w:=w}<|j+r*F.n) w qJ:=by
  refine C.C D (λ_ q=>q) (λb q=>À<|Á q) (λ_ q=>q.1) (λa q=> ?_) U U U (λb t q=>C.m _ D b t q) λa s q=> ?_
  .rcases q with q|rfl
   .exact À<|Á q
   .exact À<|À K5
  .rcases q with q|q
   .exact C.g _ D a s.1 q
   .exact s.2 q
 have hF:k9 F.P É (JW F (σ.I j) j<|.nz (r+1)) .fF (vw F {d (F.L+1+j)with w:=w}<|j+r*F.n) g:=λw₁ oV=>by let⟨N,W,h,k⟩:=hrecv;exact⟨N,W,h,λx=>(k x).jP oV⟩
 refine p.P4 H E G T (À X) Hn hF ?_ ?_ (p.C.G E G (λk=>by rw[u];rfl) (λm h=> ?_) (λm h=> ?_) (λm h=>by cases h) λm h=>by cases h) ?_ λm h=>by cases h
 .have L:=p.a;have I:∀k a,(gw d (F.L+1+j) (vw F {d (F.L+1+j)with w:=w}<|j+r*F.n) k).r a->(d k).r a:=λk a h=>by
   by_cases e:k=F.L+1+j
   .subst e;rw[gY]at h;exact h.1
   .rwa[gJ d _ e]at h
  have J:∀k a,(d k).r a->a≠jv F (F.a<|j+r*F.n)->(gw d (F.L+1+j) (vw F {d (F.L+1+j)with w:=w}<|j+r*F.n) k).r a:=λk a h kI=>by
   by_cases e:k=F.L+1+j
   .subst e;rw[gY];exact⟨h,kI⟩
   .rwa[gJ d _ e]
  have V:∀k a,(d k).N a->(gw d (F.L+1+j) (vw F {d (F.L+1+j)with w:=w}<|j+r*F.n) k).N a:=λk a h=>by
   by_cases e:k=F.L+1+j
   .subst e;rw[gY];exact À h
   .rwa[gJ d _ e]
  have K:∀k,(gw d (F.L+1+j) (vw F {d (F.L+1+j)with w:=w}<|j+r*F.n) k).I=(d k).I/\(gw d (F.L+1+j) (vw F {d (F.L+1+j)with w:=w}<|j+r*F.n) k).O=(d k).O/\(gw d (F.L+1+j) (vw F {d (F.L+1+j)with w:=w}<|j+r*F.n) k).q=(d k).q:=λk=>by
   by_cases e:k=F.L+1+j
   .subst e;rw[gY];exact⟨U,U,U⟩
   .rw[gJ d _ e];exact⟨U,U,U⟩
  have nb:∀k,d k=kA (d k)->k≠F.L+1+j:=λk W e=>by
   subst e;have:(d<|F.L+1+j).q:=by rw[W];trivial
   exact vy this
  have M:∀k,k≠F.L+1+j->k<gs.size->∀a,(d k).r a->a≠jv F (F.a<|j+r*F.n):=λk W Ho a s e=>C.h _ _ Ho D W a s (by rw[e];exact À K5);have h0:0≠F.L+1+j:=by have:=H.C.r;omega
  refine⟨λk W a s=> ?_,λx c v a s=>J _ _ (L.o x c v a s) (M 0 h0 (by have:=p.b;have:=H.C.r;omega) a<|L.o x c v a s),λh=>⟨V _ _ (L.lO h).1,λb t=>by rw[(K 0).1];exact(L.lO h).2 b t⟩,λh k c v=> ?_,λh B=>⟨V _ _ (L.f h B).1,λb t=>by rw[(K _).1];exact(L.f h B).2 b t⟩,λl o B m y c=> ?_,λl o B=>⟨V _ _ (L.l l o B).1,λb t=>by rw[(K _).1];exact(L.l l o B).2 b t⟩,λx AS=>by rw[gJ d _<|nb _<|L.S x AS];exact L.S x AS,λk W=>by rw[(K k).2.2];exact L.M k W,λk c v=>by rw[gJ d _<|nb _<|L.c k c v];exact L.c k c v,λk W b t=>⟨(L.I k W b t).1,(L.I k W b t).2.1,λi z=>by rw[(K i).2.1];exact(L.I k W b t).2.2 i z⟩,λk W i z h=>L.N k W i z<|I _ _ h,λk c v i z h=>L.g k c v i z<|I _ _ h,λl o m y c i z h=> ?_⟩
  .by_cases e:k=F.L+1+j
   .subst e;rw[gY]at s;rcases s with q|q|q
    .exact L.gX _ D a<|À q.1
    .exact L.gX _ D a<|Á q
    .exact Á ⟨_,H.C.Y.2 _ (by assumption),q⟩
   .rw[gJ d _ e]at s;exact L.gX k W a s
  .have N:F.L<gs.size:=by have:=p.b;have:0<σ.r:=h;omega
   have:=L.e h k c v;exact⟨J _ _ this.1<|M _ Z N _ this.1,J _ _ this.2<|M _ Z N _ this.2⟩
  .by_cases e:l=j
   .subst e;rw[jR]at c;simp only[gO.kB]at c;refine J _ _ (L.h l o B m y<|by rw[u];simp only[gO.kB];omega) λq=> ?_;have e1:F.a (l+m*F.n)=F.a (l+r*F.n):=by injection q
    have N:=H.C.a _ _ y mE e1;have Q:m*F.n=r*F.n:=Z
    have:=Nat.eq_of_mul_eq_mul_right H.C.C Q;omega
   .rw[iP _ e]at c;have q:=L.h l o B m y c;have xb:l+2<=σ.r:=o;exact J _ _ q<|M _ Z (by have:=p.b;omega) _ q
  .by_cases e:l=j
   .subst e;rw[jR]at c;simp only[gO.kB]at c;by_cases N:m=r
    .subst N;by_cases Q:i=F.L+1+l
     .subst Q;rw[gY]at h;exact h.2 U
     .exact M i Q z _ (I _ _ h) U
    .exact L.d l o m y (by rw[u];simp only[gO.kB];omega) i z<|I _ _ h
   .rw[iP _ e]at c;exact L.d l o m y c i z<|I _ _ h
 .have W:=p.M;refine⟨W.C,W.I,λl o=> ?_,W.M,W.S,λl o m y c=> ?_⟩
  .by_cases e:l=j
   .subst e;have:=W.jL l o;rw[u]at this;rw[jR];exact this
   .rw[iP _ e];exact W.jL l o
  .by_cases e:l=j
   .subst e;rw[jR]at c;simp only[gO.kB]at c;by_cases N:m=r
    .subst N;exact hcell
    .exact W.N l o m y<|by rw[u];simp only[gO.kB];omega
   .rw[iP _ e]at c;exact W.N l o m y c
 .rcases h with⟨_,h⟩|h|h<;>cases h
 .rcases h with h|h|h<;>cases h
 .rw[u];simp only[gO.rk];have e:F.q+3-r=(F.q+3-(r+1))+1:=Z
  rw[e,į];omega
end
def agG{α:Type}(f:Nat->α)(i:Nat)(x y:α):fA (fA f i x) i y=fA f i y:=by funext k;unfold fA;split<;>rfl
section
variable{F:Ph}{σ σ':fV F}{S:Nat->Jd}{tr o:Nat->gy}{d:Nat->iB}{lot:Nat->fh}{gs gs':Array Æ}{u:é}{sl:Option (Nat×Nat)}{sz:Nat}
def qe{r:Nat}{a:Bool}(h:b≠i):(w.setChan i n q yQ j r a).heap[b]?=w.heap[b]?:=by unfold World.setChan;exact á<|õ h
def K7{r:Nat}{a:Bool}(h:i<w.heap.size):(w.setChan i n q yQ j r a).heap[i]?=Ä (.chan n q yQ j r a):=by unfold World.setChan;simp[h]
def Hp{r:Nat}{a:Bool}:(w.setChan i n q yQ j r a).heap.size=w.heap.size:=by unfold World.setChan;simp
def agH(f:Ps F σ)(c:j+2<=σ.r){cap s r:Nat}{buf:Array ì}{cl tm:Bool}:Hd F σ lot sz w (w.setChan (σ.I j) cap buf cl s r tm):=by
 let⟨g,d,_⟩:=f.o j c;refine⟨Ö Hp.symm,λb _ h _=>qe λe=>h<|Á<|Á ⟨j,c,e⟩,λa i _=>gM (qe λe=> ?_),wS (qe λe=>d e.symm),U,U⟩;rcases i with⟨k,l,rfl⟩|⟨p,rfl⟩
 .exact g<|Á ⟨k,l,e.symm⟩
 .exact d e.symm
def XG(a:Ps F σ)(c:j+2<=σ.r){cap s r:Nat}{buf:Array ì}{cl tm:Bool}(d:F.M b){G:GS}(h:ig w b G):ig (w.setChan (σ.I j) cap buf cl s r tm) b G:=by have e:b≠σ.I j:=λe=>(a.o j c).1<|e▸d;exact h.vv (gM<|qe e) (gM<|qe e) (wT<|qe e)<|wT<|qe e
def Wd.G(W:Wd F σ w)(H:gU F)(L:iI F σ lot sz w)(g:Ps F σ)(h:j+2<=σ.r){cap s r:Nat}{buf:Array ì}{cl tm:Bool}: (∀k,k<=σ.S.md->nA F k (σ.c k)/\F.d k (σ.c k) (σ.V k) (w.setChan (σ.I j) cap buf cl s r tm))/\(∀k,1<=k->k<=σ.S.md->(w.setChan (σ.I j) cap buf cl s r tm).cell? (jv F (F.b k))=Ä (.string (F.o k)))/\(∀c,c+2<=σ.r->∀d,c+d*F.n<F.q->d<(σ.C c).kB->(w.setChan (σ.I j) cap buf cl s r tm).cell? (jv F (F.a (c+d*F.n)))=Ä (.string (F.k (c+d*F.n))))/\ig (w.setChan (σ.I j) cap buf cl s r tm) F.C σ.b/\(∀k,k<=F.m->ig (w.setChan (σ.I j) cap buf cl s r tm) (F.I k) (σ.a k)):=by have e:=agH (lot:=lot) (sz:=sz) (w:=w) g h (cap:=cap) (s:=s) (r:=r) (buf:=buf) (cl:=cl) (tm:=tm);refine⟨λk a=>⟨(W.M k a).1,H.S _ _ _ _ _ (W.M k a).2 (λb f=>e.C b (L.I k a b f).1 (L.I k a b f).2.1 (L.I k a b f).2.2) (e.r _ (À ⟨k,Ù a (KY g),U⟩) (L.N k a)) (e.r _ (Á ⟨_,U⟩) (L.PX H.C)) e.I e.M⟩,λk b f=>(e.r _ (Á ⟨_,U⟩) (L.g k b f)).trans (W.S k b f),λc b d f i=>(e.r _ (Á ⟨_,U⟩) (L.d c b d f i)).trans (W.N c b d f i),XG g h (À U) W.C,λk a=>XG g h (Á ⟨k,a,U⟩) (W.I k a)⟩
def iI.Ey(L:iI F σ lot sz w)(h:w.heap.size<=W.heap.size):iI F σ lot sz W:= ⟨L.gX,L.o,L.lO,L.e,L.f,L.h,L.l,L.S,L.M,L.c,λk a b c=>⟨Ê (L.I k a b c).1 h,(L.I k a b c).2⟩,L.N,L.g,L.d⟩
def K8(c:TI F.toFx i zX σ.r σ.S.rl σ.V σ.e σ.d σ.ie σ.f qJ)(h:wW u):TI F.toFx i zX σ.r σ.S.rl σ.V σ.e σ.d σ.ie σ.f (qJ++u):= c.C<|yx (λa b=>(h a b).1) λa b _ _=>(h a b).2 _
def gV(σ:fV F)(x:Nat)(e:ij):fV F:={σ with N:=fA σ.N x (Ä e)}
def qU.G(h:qU F σ S tr d)(ok:F.Ok){x:Nat}{e:ij}{T:gy}(k:(∃N,e=.jh N)->T=.fF):qU F (fD.gV σ x e) (fA S (F.L+x)<|JE F e) (fA tr (F.L+x) T) (fA d (F.L+x) .no):=by
 have:=ok.r;have c:∀y,y≠x->(fD.gV σ x e).N y=σ.N y:=λy l=>fL _ _ l;have f:(fD.gV σ x e).N x=Ä e:=gD _ _ _;refine⟨by rw[fL S _ Z,fL d _ Z];exact h.M,λb a=> ?_,λj b a=> ?_,λy m b a=> ?_,λi b a=>by rw[fL S _ Z,fL d _ Z,fL tr _ Z];exact h.r i b a⟩
 .have g:x≠0:=λq=>by subst q;rw[f]at a;cases a
  rw[c 0<|õ g]at a;rw[fL S _ Z,fL d _ Z];exact h.Y b a
 .have g:x≠j+1:=λq=>by subst q;rw[f]at a;cases a
  rw[c _<|õ g]at a;rw[fL S _ Z,fL d _ Z];exact h.I j b a
 .by_cases q:y=x
  .subst q;rw[f]at a;obtain rfl:=Ã a;rw[gD,gD,gD];exact⟨U,U,k⟩
  .rw[c y q]at a;rw[fL S _ Z,fL d _ Z,fL tr _ Z];exact h.C y m b a
def rO(F:Ph)(σ:fV F)(x:Nat):Nat×Nat:=match σ.N x with
 |some e=>e.rk F
 |none=>if x=0 then(σ.S.rk F,0)else((σ.C<|x-1).rk F,0)
def agI(ok:F.Ok)(x:Nat):σ.iU tr (F.L+x)=((rO F σ x).1,(rO F σ x).2,tr<|F.L+x):=by
 have:=ok.r;unfold rO;cases a:σ.N x with
 |some e=>rw[K1 ok a]
 |none=>
  cases x with
  |zero=>rw[ö,PZ ok a];simp
  |succ j=>rw[show F.L+(j+1)=F.L+1+j by omega,ug ok a];simp
def Ez(ok:F.Ok){x:Nat}{e:ij}{T:gy}(b:F.L+x<F.N)(h:(e.rk F).1<(rO F σ x).1\/((e.rk F).1=(rO F σ x).1/\(e.rk F).2<(rO F σ x).2)):pE F.N ((fD.gV σ x e).mu (fA tr (F.L+x) T) gs') (σ.mu tr gs):=by
 refine Hf b ?_ λk c=>yz (λ_=>rfl) (λ_ _=>rfl) (λa=>fL _ _ Z) (λ_ _=>rfl) (λ_ _=>rfl)<|fL tr _ c;rw[K1 ok (σ:=fD.gV σ x e)<|gD _ _ _,agI ok];rcases h with h|⟨a,d⟩
 .exact À h
 .exact Á ⟨a,À d⟩
def agJ{e:ij}(h:e.kK=lY (σ.N i))(y:Nat):(fD.gV σ i e).G y=σ.G y:=by
 unfold fV.G;by_cases q:y=i
 .subst q;show(if y<σ.M.ad F.n then lY (fA σ.N y (Ä e) y)else 0)=_;rw[gD];show(if y<σ.M.ad F.n then e.kK else 0)=_;rw[h]
 .show(if y<σ.M.ad F.n then lY (fA σ.N i (Ä e) y)else 0)=_;rw[fL _ _ q]
def agK{e:ij}(h:e.kK=lY (σ.N i)):Ñ (F.n+1) (fD.gV σ i e).G=Ñ (F.n+1) σ.G:=Į λy _=>agJ h y
def Ps.gV(h:Ps F σ){x:Nat}{e:ij}(K:x<σ.r)(z:e.kK=lY (σ.N x))(o:∀p,σ.N x=Ä (.gi p)->∀W,p≠ .gG W/\p≠ .jf W/\p≠ .iC W)(B:∀p,e=.gi p->∀W,p≠ .gG W/\p≠ .jf W/\p≠ .iC W) (C:∀j,x=j+1->j<σ.M.jj F.n/\∃r,σ.C j=.nz r/\∀i,j+i*F.n<F.q->i<r) (D:x=0->σ.S=.kJ F.m):Ps F (fD.gV σ x e):=by
 have b:∀y,y≠x->(fD.gV σ x e).N y=σ.N y:=λy a=>fL _ _ a;have E:(fD.gV σ x e).N x=Ä e:=gD _ _ _;have l:=agK (σ:=σ) z;refine⟨h.v,h.C,h.E,h.K,h.J,h.I,h.z,h.d,λj G f=> ?_,λf=> ?_,λy a=> ?_,h.M,h.o,λc g k=>by rw[l];exact h.t c g k,λg k=> ?_,λr s k=> ?_,λy p a=> ?_,λH=>by rw[l];exact h.B H,h.e,h.Y,h.w,h.H,h.L,h.S,h.y,h.D⟩
 .by_cases q:j+1=x
  .exact C j q.symm
  .rw[b _ q]at f;exact h.l j G f
 .by_cases q:0=x
  .exact D q.symm
  .rw[b _ q]at f;exact h.f f
 .have:σ.r<=y:=a;rw[b y Z];exact h.h y a
 .rw[l];let⟨t,u,y,v,w,d⟩:=h.g g k;refine⟨t,u,y,v,w,?_⟩;have:y≠x:=λq=>by
   subst q;rcases d with d|d
   .exact(o _ d g).1 U
   .exact(o _ d g).2.1 U
  rwa[b y this]
 .rw[l];let⟨t,u,v⟩:=h.u r s k;refine⟨t,u,λd=> ?_⟩;let⟨y,I,J,w⟩:=v d;have:y≠x:=λq=>by subst q;exact(o _ w r).2.2 U
  exact⟨y,I,J,by rwa[b y this]⟩
 .by_cases q:y=x
  .subst q;rw[E]at a;have t:=B p<|Ã a;exact⟨λW w=>(w.elim (t W).1 (t W).2.1).elim,λr d=>((t r).2.2 d).elim⟩
  .rw[b y q]at a;exact h.N y p a
def XH{x:Nat}{e:ij}(h:i≠x):(fD.gV σ x e).ie i↔σ.ie i:=by unfold fV.ie;show(∃a,fA σ.N x (Ä e) i=Ä a/\a.ie)↔_;rw[fL _ _ h]
def agL{e:ij}:(fD.gV σ i e).ie i↔e.ie:=by unfold fV.ie;show(∃a,fA σ.N i (Ä e) i=Ä a/\a.ie)↔_;rw[gD];exact⟨λ⟨a,b,c⟩=>by cases b;exact c,λh=>⟨e,U,h⟩⟩
def agM{e:ij}(h:e.ie↔σ.ie i)(y:Nat):(fD.gV σ i e).ie y↔σ.ie y:=by
 by_cases q:y=i
 .subst q;rwa[agL]
 .exact XH q
def XJ{e:ij}(h:e.lT↔σ.lT i)(y:Nat):(fD.gV σ i e).lT y↔σ.lT y:=by
 unfold fV.lT at h|-;show(∃a,fA σ.N i (Ä e) y=Ä a/\a.lT)↔_;by_cases q:y=i
 .subst q;rw[gD];exact⟨λ⟨a,b,c⟩=>h.1 (by cases b;exact c),λd=>⟨e,U,h.2 d⟩⟩
 .rw[fL _ _ q]
def iI.gV(L:iI F σ lot sz w){x:Nat}{e:ij}(h:e.lT↔σ.lT x):iI F (fD.gV σ x e) lot sz w:=by
 have d:∀y,(fD.gV σ x e).N y=Í->σ.N y=Í:=λy c=>by
  by_cases q:y=x
  .subst q;have:fA σ.N y (Ä e) y=Í:=c;rw[gD]at this;cases this
  .have:fA σ.N x (Ä e) y=Í:=c;rwa[fL _ _ q]at this
 exact⟨L.gX,L.o,L.lO,L.e,λa b=>L.f a<|d _ b,λj a b=>L.h j a<|d _ b,λj a b=>L.l j a<|d _ b,λy c=>L.S y<|(XJ h y).1 c,λi f=>L.M i (f.imp id λ⟨y,a,b,g⟩=>⟨y,a,b,λq=>g<|(XJ h y).2 q⟩),L.c,L.I,L.N,L.g,L.d⟩
def Wd.gV(W:Wd F σ w){x:Nat}{e:ij}:Wd F (fD.gV σ x e) w:=⟨W.C,W.I,W.jL,W.M,W.S,W.N⟩
def TI.G(a:TI F.toFx i zX σ.r σ.S.rl σ.V σ.e σ.d σ.ie σ.f qJ){x:Nat}{e:ij}(h:e.ie↔σ.ie x):TI F.toFx i zX (fD.gV σ x e).r (fD.gV σ x e).S.rl (fD.gV σ x e).V (fD.gV σ x e).e (fD.gV σ x e).d (fD.gV σ x e).ie (fD.gV σ x e).f qJ:= {a with r:=λy b c=>a.r y b ((agM h y).1 c)}
def PI.agN(H:gU F)(p:PI F i zX σ S tr d lot gs w qJ){r:Nat}(t:j+2<=σ.r)(o:σ.N (j+1)=Í)(M:gs[F.L+1+j]?=Ä g)(jd:g.status=Å)(ht:tr (F.L+1+j)=.fF)(D:σ.C j=.nz r):j1 F i zX σ tr gs w qJ sl (F.L+1+j):=by
 have gH:=iM M;have C:=p.I.r;have mw:=yC H.C j;have ui:=p.G gH;obtain⟨AP,sY⟩:=p.g j t o;rw[D]at AP sY;have Qf:S (F.L+1+j)=wU F.P (F.L+1+j==0) (σ.I j) F.z λx=>match x with
  |some v=>λl g=>v=F.c (j+r*F.n)->qT F.P É F.B (F.I<|F.r<|j+r*F.n) (F.e (σ.I j)<|j+r*F.n) .iZ l g
  |none=>AB F:=by rwa[mw]
 have hY:σ.Y (σ.I j):=Á<|Á ⟨j,t,U⟩;obtain⟨buf,s,E,uk,XK,yH,yI⟩:=p.M.jL j t;rw[D]at E XK yH yI;simp only[gO.iO]at E XK yH yI;have EA:=C.N _ hY;by_cases AK:r<s
 .have K9:=yI 0 Z;rw[ö]at K9;have mE:j+r*F.n<F.q:=by
   have:=(uk r).1 AK;have:σ.M.mD F.q<=F.q:=by cases σ.M<;>simp only[fX.mD]<;>omega
   omega
  obtain⟨gs',u,T,g',O,f,Q,V,I,W,q7⟩:=p.I.nz M jd sY ht Qf hY E K9<|kW F (σ.I j)<|.fC r .iZ;have q8:=q7.kJ (λl g h=>by rw[gD]at h;exact h U);rw[agG]at q8;obtain⟨z1,z2,z3,z4,z5⟩:=p.M.G H p.a p.C t;refine⟨gS σ j<|.fC r .iZ,_,_,_,_,gs',_,u,O,f,λh=>h,.r (p.N.N H.C t o) (f.trans p.b) q8 ?_ ⟨z4,z5,λv m=> ?_,z1,z2,λv m c oz a=> ?_⟩ (p.C.G t o (λk=>by rw[D,P9 U];rfl) (λc h=> ?_) (λc h=> ?_) (λc h=>by cases h) λc h=>by cases h) (K8 p.d W) (λk y b G=> ?_) λv c a1 J a3=> ?_,Es H.C ui o ?_⟩
  .rw[f];exact((p.a.r<|by rw[D];rfl).Ey<|Ö Hp.symm)
  .by_cases e:v=j
   .subst e;rw[jR];refine⟨buf.extract 1 buf.size,s,K7 EA,uk,AK,by rw[Array.size_extract];simp only[gO.iO];omega,λl ly=> ?_⟩;simp only[gO.iO]at ly|-;rw[Array.getElem?_extract];rw[if_pos Z];have:=yI (1+l) Z;rw[this,show r+(1+l)=r+1+l by omega]
   .rw[iP _ e];obtain⟨K,X,y1,y2⟩:=p.M.jL v m;refine⟨K,X,?_,y2⟩;show(w.setChan (σ.I j) _ _ _ _ _ _).heap[σ.I v]?=_;rwa[qe λq=>e<|p.C.M _ _ m t q]
  .by_cases e:v=j
   .subst e;rw[jR]at a;exact z3 v m c oz<|by rwa[D]
   .rw[iP _ e]at a;exact z3 v m c oz a
  .rcases h with⟨_,h⟩|h|h<;>cases h;exact mE
  .rcases h with h|h|h<;>cases h
  .by_cases e:k=F.L+1+j
   .subst e;rw[Q]at b;obtain rfl:=Ã b;rw[V]at G;cases G
   .rw[I k e]at b;rcases p.c k y b G with a|⟨v,m,yJ,K,X|⟨r1,cap,s1,c,X,h4⟩⟩
    .exact À a
    .exact Á ⟨v,m,yJ,K,À<|by rwa[iP _ Z]⟩
    .have e2:v≠j:=Z
     exact Á ⟨v,m,yJ,K,Á ⟨r1,cap,s1,c,by rwa[iP _ e2],by show(w.setChan (σ.I j) _ _ _ _ _ _).heap[σ.I v]?=_;rwa[qe λq=>e2<|p.C.M _ _ m t q]⟩⟩
  .have e:v≠j:=λe=>by subst e;rw[jR]at J;cases J
   rw[iP _ e]at J;exact(p.f v c a1 J a3).app u
  .rw[D];simp only[gO.rk,jr.rk];have hm:F.n+3000<=(F.n+3000)*(F.q+3-r):=ç _ (by
    have a:=H.C.C;have:r*1<=r*F.n:=ñ _ a;omega)
   omega
 .have Qg:buf=#[]:=Array.size_eq_zero_iff.1 Z;subst Qg;have agO:r=s:=Z
  by_cases nt:j<σ.M.jj F.n
  .rw[show decide (j<σ.M.jj F.n)=Ï by simpa using nt]at E;obtain⟨gs',u,T,g',O,f,Q,V,I,W,q7⟩:=p.I.jj (sl:=sl) M jd sY ht Qf hY E .no;have XL:F.L+1+j=F.L+(j+1):=Z
   have Hq:σ.M.mD F.q=F.q:=by revert nt;cases σ.M<;>simp only[fX.jj,fX.mD]<;>intro h<;>first|trivial|omega
   have Qh:¬σ.ie (j+1):=λ⟨e,a,_⟩=>by rw[o]at a;cases a
   have Hr:ij.ie .oT↔σ.ie (j+1):=⟨λh=>h.elim,λh=>(Qh h).elim⟩;refine⟨fD.gV σ (j+1) .oT,_,_,_,_,gs',w,u,O,f,λh=>h,.r (p.N.G H.C λ⟨N,h⟩=>by cases h) (f.trans p.b) (by rwa[<-XL]) (by rw[f];exact p.a.gV ⟨λh=>h.elim,λ⟨e,a,_⟩=>by rw[o]at a;cases a⟩) p.M.gV (p.C.gV Z (by rw[o];rfl) (λp' h=>by rw[o]at h;cases h) (λp' h=>by cases h) (λv h=> ?_) λh=>by omega) ((K8 p.d W).G Hr) (λk y b G=> ?_) λv c a1 J a3=>(p.f v c a1 J a3).app u,Ez H.C (by rwa[<-XL])<|À ?_⟩
   .have:v=j:=Z
    subst this;exact⟨nt,r,D,λl ly=>by rw[agO];exact(uk l).2<|by rwa[Hq]⟩
   .by_cases e:k=F.L+1+j
    .subst e;rw[Q]at b;obtain rfl:=Ã b;rw[V]at G;cases G
    .rw[I k e]at b;have l:∀v,F.L+1+v=k->(fD.gV σ (j+1) .oT).N (v+1)=σ.N (v+1):=λv h=>fL _ _ Z;rcases p.c k y b G with a|⟨v,m,yJ,K,X⟩
     .exact À a
     .exact Á ⟨v,m,by rwa[l v K.symm],K,X⟩
   .unfold rO;rw[o];simp only[ij.rk];rw[if_neg Z,Nat.add_sub_cancel,D];simp only[gO.rk];have hm:F.n+3000<=(F.n+3000)*(F.q+3-r):=ç _ (by
     have a:=H.C.C;rcases ķ r with l|l
     .omega
     .have K:=(uk (r-1)).1 Z;have:(r-1)*1<=(r-1)*F.n:=ñ _ a;omega)
    omega
  .rw[show decide (j<σ.M.jj F.n)=É by simpa using nt]at E;obtain⟨gs',g',O,f,Q,V,I,W⟩:=p.I.afV M jd sY ht Qf E;refine⟨σ,S,tr,d,lot,gs',w,#[],O,f,λh=>h,.r p.N (f.trans p.b) (by rwa[Û]) (by rw[f];exact p.a) p.M p.C (by rw[Û];exact p.d) (λk y b l=> ?_) (by rw[Û];exact p.f),P3 (λ_ _=>rfl) ui (by rw[Ex M,if_pos jd]) (by rw[Ex Q,if_neg (by rw[V];simp)]) λk b=>Qc<|I k b⟩;by_cases e:k=F.L+1+j
   .subst e;exact Á ⟨j,t,o,U,Á ⟨r,F.q,s,r,D,E⟩⟩
   .rw[I k e]at b;exact p.c k y b l
end
section
variable{F:Ph}{σ σ':fV F}{S:Nat->Jd}{tr v:Nat->gy}{m:Nat->iB}{f:Nat->fh}{gs gs':Array Æ}{u:é}{o:Option (Nat×Nat)}
def AT(ok:F.Ok)(x:Nat):(F.L+x==0)=É:=by have:=ok.r;simp;omega
def Hs(a:i<σ.r):yA σ (F.L+i):=Á ⟨i,a,U⟩
def PI.AU(p:PI F n zX σ S tr m f gs w qJ){x:Nat}{e:ij}(b:x<σ.r)(c:σ.N x=Ä e)(d:gs[F.L+x]?=Ä g)(h:g.status=Å)(i:tr (F.L+x)=.fF):∀a,fK (f<|F.L+x) (f<|F.L+x).w a->JE F e {f (F.L+x)with w:=a} g:=by let⟨j,k,_⟩:=p.k x e b c;intro a r;have:=p.I.N d h i (À k) a r;rwa[j]at this
def Qi(B:fl F σ gs w){x:Nat}{e:ij}(c:∀k y,gs[k]?=Ä y->y.status=Þ->k≠F.L+x):fl F (fD.gV σ x e) gs w:=by
 intro k y a b;have i:=c k y a b;rcases B k y a b with h1|⟨j,d,f,g,h⟩
 .exact À h1
 .refine Á ⟨j,d,?_,g,h⟩;show fA σ.N x (Ä e) (j+1)=Í;rwa[fL _ _ Z]
def PI.agP(H:gU F)(p:PI F n zX σ S tr m f gs w qJ)(hx:J<σ.r)(s:σ.N J=Ä .oT)(D:gs[F.L+J]?=Ä g)(I:g.status=Å)(ht:tr (F.L+J)=.fF):rM F n zX σ tr gs w qJ:=by
 have M:=iM D;have C:=p.I.r;have hJ:=p.AU hx s D I ht w<|C.r _ M;have mc:=AT H.C J;have Qh:¬σ.ie J:=λ⟨e,d,c⟩=>by rw[s]at d;cases d;exact c
 have Hr:ij.ie (.gi .jH)↔σ.ie J:=⟨λh=>h.elim,λh=>(Qh h).elim⟩;have Hn:iT F.S (λi=>i<gs.size) σ.Y (gw f (F.L+J)<|kA {f (F.L+J)with w:=w}) w qJ:= C.C M (λ_ q=>q.elim) (λ_ q=>q.elim) (λ_ q=>q.elim) (λ_ q=>q.elim) U U U (λ_ q=>q.elim) λ_ q=>q.elim;have hF:k9 F.P (F.L+J==0) (JE F<|.gi .jH) .fF (kA {f (F.L+J)with w:=w}) g:=by rw[mc];intro l u;let⟨W,a,b,j,k⟩:=hJ;exact⟨W,a,b,j,k.jP u⟩
 have hS:=p.I.M (K:=.no) D (À I) Hn hF;refine⟨fD.gV σ J<|.gi .jH,_,_,_,_,λh=>h,.r (p.N.G H.C λ⟨N,h⟩=>by cases h) p.b hS ?_ p.M.gV (p.C.gV hx (by rw[s];rfl) (λu h=>by rw[s]at h;cases h) (λu h W=>by cases h;exact⟨ft,ft,ft⟩) (λj h=> ?_) λh=> ?_) (p.d.G Hr) (Qi p.c λk y W v e=> ?_) p.f,Ez H.C (p.G M)<|À ?_⟩
 .have L:=p.a;have E:(gw f (F.L+J)<|kA {f (F.L+J)with w:=w}) (F.L+J)=kA {f (F.L+J)with w:=w}:=gY _ _ _;have l:∀k,k≠F.L+J->(gw f (F.L+J)<|kA {f (F.L+J)with w:=w}) k=f k:=λk W=>gJ f _ W;have Q:(0:Nat)≠F.L+J:=by have:=H.C.r;omega
  have T:∀k a,(gw f (F.L+J) (kA {f (F.L+J)with w:=w}) k).r a->(f k).r a:=λk a h=>by
   by_cases q:k=F.L+J
   .subst q;rw[E]at h;exact h.elim
   .rwa[l k q]at h
  have sO:∀k a,(gw f (F.L+J) (kA {f (F.L+J)with w:=w}) k).O a->(f k).O a:=λk a h=>by
   by_cases q:k=F.L+J
   .subst q;rw[E]at h;exact h.elim
   .rwa[l k q]at h
  have G:(fD.gV σ J<|.gi .jH).N J=Ä (.gi .jH):=gD _ _ _;have B:∀y,y≠J->(fD.gV σ J<|.gi .jH).N y=σ.N y:=λy V=>fL _ _ V;refine⟨λk W a z=> ?_,λy d c a z=>by rw[l 0 Q];exact L.o y d c a z,λh=>by rw[l 0 Q];exact L.lO h,λh k d c=> ?_,λd c=> ?_,λj d c r t X=> ?_,λj d c=> ?_,λy V=> ?_,λi o=> ?_,λk d c=>by rw[l k Z];exact L.c k d c,λk W b v=>⟨(L.I k W b v).1,(L.I k W b v).2.1,λi o h=>(L.I k W b v).2.2 i o<|sO _ _ h⟩,λk W i o h=>L.N k W i o<|T _ _ h,λk d c i o h=>L.g k d c i o<|T _ _ h,λj d r c t i o h=>L.d j d r c t i o<|T _ _ h⟩
  .by_cases q:k=F.L+J
   .subst q;rw[E]at z;rcases z with h|h<;>exact h.elim
   .rw[l k q]at z;exact L.gX k W a z
  .by_cases q:F.L=F.L+J
   .have u:J=0:=Z
    subst u;have:=p.C.f (by rw[s];simp);have vz:σ.S.md<k:=d;rw[this]at vz;simp only[jB.md]at vz;omega
   .rw[l _ q];exact L.e h k d c
  .by_cases q:F.L=F.L+J
   .have u:J=0:=Z
    subst u;rw[G]at c;cases c
   .rw[l _ q];exact L.f d<|by rwa[<-B 0 Z]
  .by_cases q:F.L+1+j=F.L+J
   .have u:J=j+1:=Z
    subst u;rw[G]at c;cases c
   .rw[l _ q];exact L.h j d (by rwa[<-B (j+1) Z]) r t X
  .by_cases q:F.L+1+j=F.L+J
   .have u:J=j+1:=Z
    subst u;rw[G]at c;cases c
   .rw[l _ q];exact L.l j d<|by rwa[<-B (j+1) Z]
  .by_cases q:F.L+y=F.L+J
   .rw[q,E];rfl
   .rw[l _ q];exact L.S y (by let⟨u,d,c⟩:=V;exact⟨u,by rwa[<-B y Z],c⟩)
  .by_cases q:i=F.L+J
   .subst q;rcases o with q|⟨y,d,c,t⟩
    .exact absurd q.symm Q
    .have:y=J:=Z
     subst this;exact absurd ⟨_,G,trivial⟩ t
   .rw[l _ q];refine L.M i<|o.imp id λ⟨y,d,c,t⟩=>⟨y,d,c,λ⟨u,X,h5⟩=>t ⟨u,by rwa[B y Z],h5⟩⟩
 .have:=p.C.l j Z (by rw[<-h,s];simp);exact this
 .exact p.C.f<|by rw[<-h,s];simp
 .subst e;rw[D]at W;obtain rfl:=Ã W;rw[I]at v;cases v
 .unfold rO;rw[s];simp only[ij.rk,jK.rk];omega
def AV(σ:fV F)(x:Nat)(e:ij)(G:GS)(a:Option Nat):fV F:={fD.gV σ x e with b:=G,g:=a}
def Ps.Ht(h:Ps F σ){e:ij}{G:GS}{la:Option Nat}(w:i<σ.r)(D:∃z,σ.N i=Ä z)(E:∀y,y≠i->∀p,σ.N y=Ä (.gi p)->∀W,p≠ .gG W/\p≠ .jf W/\p≠ .iC W) (H:∀c d,G=.cl c d->c=Ñ (F.n+1) (fD.gV σ i e).G/\d=σ.M.gE) (I:∀d,G=.jI d->Ñ (F.n+1) (fD.gV σ i e).G=0/\d=σ.M.gE/\la=Ä i/\(e=.gi (.gG d)\/e=.gi (.jf d))) (J:∀r s,G=.gR r s->Ñ (F.n+1) (fD.gV σ i e).G=0/\r+s=σ.M.gE/\(0<r->la=Ä i/\e=.gi (.iC r))) (K:∀p,e=.gi p->(∀W,p=.gG W\/p=.jf W->la=Ä i/\G=.jI W)/\(∀r,p=.iC r->0<r/\la=Ä i/\∃s,G=.gR r s)) (L:σ.M=.fC .gG\/σ.M=.fC .lb\/σ.M=.gi->Ñ (F.n+1) (fD.gV σ i e).G=0) (M:σ.M=.fC .gG->∃a b,G=.gR a b) (N:(∀p,σ.M≠ .fC p)->σ.M≠ .gi->∃c,G=.cl c 0):Ps F (AV σ i e G la):=by
 have k:∀y,y≠i->(AV σ i e G la).N y=σ.N y:=λy f=>fL _ _ f;have o:(AV σ i e G la).N i=Ä e:=gD _ _ _;let⟨z,B⟩:=D;refine⟨h.v,h.C,h.E,h.K,h.J,h.I,h.z,h.d,λj C g=> ?_,λg=> ?_,λy f=> ?_,h.M,h.o,H,λd t=> ?_,λr s t=> ?_,λy p f=> ?_,L,h.e,h.Y,h.w,h.H,M,N,h.y,h.D⟩
 .by_cases q:j+1=i
  .exact h.l j C<|by rw[q,B];simp
  .rw[k _ q]at g;exact h.l j C g
 .by_cases q:0=i
  .exact h.f<|by rw[q,B];simp
  .rw[k _ q]at g;exact h.f g
 .have:σ.r<=y:=f;rw[k y Z];exact h.h y f
 .let⟨u,v,l,m⟩:=I d t;exact⟨u,v,i,w,l,by rw[o];exact m.imp (λq=>by rw[q]) λq=>by rw[q]⟩
 .let⟨u,v,l⟩:=J r s t;exact⟨u,v,λm=>⟨i,w,(l m).1,by rw[o,(l m).2]⟩⟩
 .by_cases q:y=i
  .subst q;rw[o]at f;exact K p<|Ã f
  .rw[k y q]at f;have l:=E y q p f;exact⟨λW u=>(u.elim (l W).1 (l W).2.1).elim,λr m=>((l r).2.2 m).elim⟩
def agQ{G:GS}(a:ig W F.C G)(h:Wd F {σ with b:=G,a:=σ.a} W){x:Nat}{e:ij}{b:Option Nat}:Wd F (AV σ x e G b) W:=⟨a,h.I,h.jL,h.M,h.S,h.N⟩
def PI.Hu(H:gU F)(p:PI F n zX σ S tr m f gs w qJ){x:Nat}{a e:ij}{G:GS}{la:Option Nat}{c:Æ}{T:gy}(hx:x<σ.r)(d:σ.N x=Ä a)(t:a.ie)(I:e.ie)(J:e.lT)(v:gs[F.L+x]?=Ä g)(z:kC F.C w W)(B:ig W F.C G)(K:Ŝ F.P (ò gs w o) (F.L+x)=(Ģ<|ò gs' W o,u))(C:gs'.size=gs.size)(M:gs'[F.L+x]?=Ä c)(O:c.status=Å\/c.status=æ)(Q:∀k,k≠F.L+x->gs'[k]?=gs[k]?.map (Ą F.P g c W)) (X:gN F.P F.S σ.Y (fA S (F.L+x)<|JE F e) (fA tr (F.L+x) T) (fA m (F.L+x) .no) (gw f (F.L+x) {f (F.L+x)with w:=W}) gs' W (qJ++u)) (q6:TI F.toFx n zX σ.r σ.S.rl σ.V σ.e σ.d σ.ie σ.f (qJ++u)) (q7:iI F σ (gw f (F.L+x) {f (F.L+x)with w:=W}) gs'.size W) (hT:(∃N,e=.jh N)->T=.fF) (hP:Ps F (AV σ x e G la)) (D:(e.rk F).1<(a.rk F).1\/((e.rk F).1=(a.rk F).1/\(e.rk F).2<(a.rk F).2)) (AN:σ.M=.fC .kz->σ.b.sm=0->G.sm=0\/∀y,gs'[0]?=Ä y->y.status≠Þ):j1 F n zX σ tr gs w qJ o (F.L+x):=by
 have Hr:e.ie↔σ.ie x:=⟨λ_=>⟨a,d,t⟩,λ_=>I⟩;have Qj:e.lT↔σ.lT x:=⟨λ_=>Xq ⟨a,d,t⟩,λ_=>J⟩;have h0:(0:Nat)≠F.L+x:=by have:=H.C.r;omega
 have E:F.M F.C:=À U;have W1:=z.I H p.a p.C p.M E ⟨λ_=>B,λq=>absurd U q⟩ λk b=>⟨λq=>absurd q.symm<|H.C.N k b,λ_=>rfl⟩;refine⟨AV σ x e G la,_,_,_,_,gs',W,u,K,C,λh=>h,.r ?_ (C.trans p.b) X ?_ (agQ B W1) hP ?_ ?_ λj r b l s=>(p.f j r b l s).app u,?_⟩
 .have:=p.N.G (x:=x) H.C hT;exact⟨this.M,this.Y,this.I,this.C,this.r⟩
 .have:=q7.gV Qj;exact⟨this.gX,this.o,this.lO,this.e,this.f,this.h,this.l,this.S,this.M,this.c,this.I,this.N,this.g,this.d⟩
 .exact q6.G Hr
 .refine p.c.qR (σ':=AV σ x e G la) M (by rcases O with q|q<;>rw[q]<;>simp) Q (λj i=>z.C p.C E i) U U (λy i=>fL _ _ Z) (λ_=>rfl) (λ_ _=>rfl) (λ_ i j=>AN i j) λ_ _ _ _ h=>À h
 .have j:rO F σ x=a.rk F:=by unfold rO;rw[d]
  have:=Ez (σ:=σ) (tr:=tr) (gs:=gs) (gs':=gs') (T:=T) H.C (p.G<|iM v) (by rwa[j]);rcases this with⟨i,b,l,s⟩|⟨b,_⟩
  .exact À ⟨i,b,l,s⟩
  .exfalso;have:=b _<|p.G<|iM v;change(fD.gV σ x e).iU (fA tr (F.L+x) T) (F.L+x)=σ.iU tr (F.L+x)at this;rw[K1 H.C (σ:=fD.gV σ x e)<|gD _ _ _,K1 H.C d]at this;injection this with b1 b2;injection b2 with b2 _;rcases D with q|⟨_,q⟩<;>omega
def agR(h:V=#[ky<|fM F.C,mT<|fM F.C]\/V=#[ky<|fM F.C]\/V=#[mT<|fM F.C]\/V=ú (gQ F.C)):∀e∈V,∀b,(Ë e).touch?=Ä b->∃y:đ,b.loc=ā y/\y.block=F.C:=by
 intro e c b d;have:∃x:đ,x.block=F.C/\(e.loc=ā x\/e.loc=ź ù\/e.loc=ź ð):=by
  rcases h with rfl|rfl|rfl|rfl
  .simp at c;rcases c with rfl|rfl<;>exact⟨fM F.C,U,À U⟩
  .simp at c;subst c;exact⟨fM F.C,U,À U⟩
  .simp at c;subst c;exact⟨fM F.C,U,À U⟩
  .simp[ú]at c;rcases c with rfl|rfl|rfl|rfl
   .exact⟨gQ F.C,U,Á<|À U⟩
   .exact⟨gQ F.C,U,À U⟩
   .exact⟨gQ F.C,U,À U⟩
   .exact⟨gQ F.C,U,Á<|Á U⟩
 let⟨x,i,a⟩:=this;let⟨j,f,g⟩:=e;rcases a with a|a|a
 .simp only at a;subst a;have:(Ë ⟨ā x,f,g⟩).touch?=Ä ⟨ā x,f,if g then .atomic else .plain⟩:=by cases f<;>cases g<;>rfl
  rw[this]at d;obtain rfl:=Ã d;exact⟨x,U,i⟩
 .simp only at a;subst a;simp[Ë,Đ]at d
 .simp only at a;subst a;simp[Ë,Đ]at d
def Hv(p:PI F n zX σ S tr m f gs w qJ)(a:F.L+i<gs.size)(c:(f<|F.L+i).d=1)(h:V=#[ky<|fM F.C,mT<|fM F.C]\/V=#[ky<|fM F.C]\/V=#[mT<|fM F.C]\/V=ú (gQ F.C)): ∀y,σ.ie y->F.L+i=F.L+y->(∀e∈V,∀b,(Ë e).touch?=Ä b->∃y:đ,b.loc=ā y/\y.block=F.C)/\AG (af qJ<|F.L+i) V:=by
 intro y _ _;refine⟨agR h,?_⟩;rw[p.I.r.f _ a,c];rcases h with rfl|rfl|rfl|rfl
 .exact K2.1
 .exact K2.2.1
 .exact K2.2.2.1
 .exact K2.2.2.2
def PI.agS(H:gU F)(p:PI F n zX σ S tr m f gs w qJ){x:Nat}(i:x<σ.r)(a:σ.N x=Ä (.gi .jH))(k:gs[F.L+x]?=Ä g)(E:g.status=Å)(G:tr (F.L+x)=.fF):j1 F n zX σ tr gs w qJ o (F.L+x):=by
 have s:=iM k;have C:=p.I.r;let⟨I,_,g',c,d⟩:=p.AU i a k E G w<|C.r _ s;have t:=AT H.C x;have J:=(C.f _ s).trans I;have K:F.M F.C:=À U;have u:∀y:Ć,y.act=Ğ (Ķ<|fM F.C)->y.act.touch?=Í:=λy b=>by rw[b];rfl
 have M:¬σ.ie x:=λ⟨e,c,d⟩=>by rw[a]at c;cases c;exact d
 let⟨T,O⟩:=jq d;have v:=lD (λl g h=>À h.2.1) d;obtain⟨gs',y,P,Q,V,B,X,Y,q5,q7⟩:=p.AR H .no k (by rw[t];exact c w) ft ft (λy b=>⟨λz l=>(by rw[u y b]at l;cases l),by rw[b];exact C.N _<|À K⟩) (λy _ b=>Ax C.l λq j=>by rw[xa j];exact u y b) (by rwa[t]) v;have D:=p.d.af8 i P Q J M;have Qj:ij.lT (.gi .iF)↔σ.lT x:=⟨λ_=>⟨_,a,trivial⟩,λ_=>trivial⟩;refine⟨{fD.gV σ x (.gi .iF)with f:=fA σ.f x qJ.size},_,_,_,_,gs',w,#[y],V,B,λh=>h,.r ?_ (B.trans p.b) q5 ?_ ?_ ?_ ?_ ?_ λj r q W a3=>(p.f j r q W a3).app _,Ez H.C (p.G s)<|À ?_⟩
 .have:=p.N.G (x:=x) (e:=.gi .iF) (T:=T) H.C (λ⟨N,h⟩=>by cases h);exact⟨this.M,this.Y,this.I,this.C,this.r⟩
 .have:=q7.gV (x:=x) (e:=.gi .iF) Qj;exact⟨this.gX,this.o,this.lO,this.e,this.f,this.h,this.l,this.S,this.M,this.c,this.I,this.N,this.g,this.d⟩
 .exact⟨p.M.C,p.M.I,p.M.jL,p.M.M,p.M.S,p.M.N⟩
 .have h:=p.C.gV (x:=x) (e:=.gi .iF) i (by rw[a];rfl) (λq h W=>by rw[a]at h;cases h;exact⟨ft,ft,ft⟩) (λq h W=>by cases h;exact⟨ft,ft,ft⟩) (λj h=>p.C.l j Z<|by rw[<-h,a];simp) (λh=>p.C.f<|by rw[<-h,a];simp);exact⟨h.v,h.C,h.E,h.K,h.J,h.I,h.z,h.d,h.l,h.f,h.h,h.M,h.o,h.t,h.g,h.u,h.N,h.B,h.e,h.Y,h.w,h.H,h.L,h.S,h.y,h.D⟩
 .refine{D with r:=λz l j=>D.r z l ?_};by_cases q:z=x
  .exact Á q
  .exact À<|(XH q).1 j
 .refine p.c.qR (σ':={fD.gV σ x (.gi .iF)with f:=fA σ.f x qJ.size}) X (by rcases v with q|q<;>rw[q]<;>simp) Y (λ_ _=>rfl) U U (λy b=>fL _ _ Z) (λ_=>rfl) (λ_ _=>rfl) (λ_ _ h=>À h) λ_ _ _ _ h=>À h
 .unfold rO;rw[a];simp only[ij.rk,jK.rk];omega
end
section
variable{F:Ph}{σ J:fV F}{S:Nat->Jd}{m K:Nat->gy}{B:Nat->iB}{o:Nat->fh}{I:Array Æ}{u:é}{G:Option (Nat×Nat)}
def XM{N:Nat}{l:fh}(h:Ε P N l.d g):k9 P É (oS P N) .fF l g:=λ_ _=>h
def XO(a:Ps F σ):σ.r<=σ.M.ad F.n:=by unfold fV.r;cases σ.M<;>simp only[fX.sp,fX.ad]<;>omega
def Hw(b:Ps F σ){e:ij}(d:i<σ.r):Ñ (F.n+1) (fD.gV σ i e).G+lY (σ.N i)=Ñ (F.n+1) σ.G+e.kK:=by
 have g:=XO b;have h:=Er b;have:=w7 (f:=σ.G) (f':=(fD.gV σ i e).G) (j:=i) (n:=F.n+1) Z (λa c=>by unfold fV.G;show(if a<σ.M.ad F.n then lY (fA σ.N i (Ä e) a)else 0)=_;rw[fL _ _ c]);have a:σ.G i=lY (σ.N i):=by unfold fV.G;rw[if_pos Z]
 have c:(fD.gV σ i e).G i=e.kK:=by unfold fV.G;show(if i<σ.M.ad F.n then lY (fA σ.N i (Ä e) i)else 0)=_;rw[if_pos Z,gD];rfl
 rwa[a,c]at this
def XP(b:Ps F σ)(h:σ.b=.cl i n):∀y p,σ.N y=Ä (.gi p)->∀W,p≠ .gG W/\p≠ .jf W/\p≠ .iC W:=by
 intro y p d W;let⟨a,e⟩:=b.N y p d;refine⟨λq=> ?_,λq=> ?_,λq=> ?_⟩
 .have:=(a W<|À q).2;rw[h]at this;cases this
 .have:=(a W<|Á q).2;rw[h]at this;cases this
 .let⟨_,_,s,this⟩:=e W q;rw[h]at this;cases this
def Qk(c:Ps F σ)(h:σ.g=Ä i):∀y,y≠i->∀p,σ.N y=Ä (.gi p)->∀W,p≠ .gG W/\p≠ .jf W/\p≠ .iC W:=by
 intro y a p d W;let⟨b,e⟩:=c.N y p d;refine⟨λq=> ?_,λq=> ?_,λq=> ?_⟩
 .have:=(b W<|À q).1;rw[h]at this;exact a (Ã this).symm
 .have:=(b W<|Á q).1;rw[h]at this;exact a (Ã this).symm
 .have:=(e W q).2.1;rw[h]at this;exact a (Ã this).symm
def PI.agT(p:PI F n zX σ S m B o E w qJ)(e:i<σ.r)(d:σ.N i=Ä (.gi .iF)):∃c a,σ.b=.cl (c+1) a/\c+1=Ñ (F.n+1) σ.G/\a=σ.M.gE/\¬(σ.M=.fC .gG\/σ.M=.fC .lb\/σ.M=.gi):=by
 have g:1<=Ñ (F.n+1) σ.G:=by
  have q:=XO p.C;have r:=Er p.C;have:=P0 (f:=σ.G) (j:=i) (n:=F.n+1) Z;have s:σ.G i=1:=by unfold fV.G;rw[if_pos Z,d];rfl
  omega
 obtain⟨c,a,b⟩:∃c a,σ.b=.cl (c+1) a:=by
  cases q:σ.b with
  |cl c a=>
   have:=(p.C.t c a q).1;exact⟨c-1,a,by congr 1;omega⟩
  |jI a=>have:=(p.C.g a q).1;omega
  |gR r s=>have:=(p.C.u r s q).1;omega
 let⟨r,s⟩:=p.C.t _ _ b;exact⟨c,a,b,r,s,λq=>by have:=p.C.B q;omega⟩
def PI.agU(H:gU F)(p:PI F n zX σ S m B o E w qJ)(t:i<σ.r)(J:σ.N i=Ä (.gi .iF))(K:E[F.L+i]?=Ä g)(jd:g.status=Å)(ht:m (F.L+i)=.fF)(V:σ.b=.cl (j+1) k)(yK:j+1=Ñ (F.n+1) σ.G)(La:k=σ.M.gE)(Hx:¬(σ.M=.fC .gG\/σ.M=.fC .lb\/σ.M=.gi))(hl:j=0/\0<k):j1 F n zX σ m E w qJ G (F.L+i):=by
 have z:=iM K;have C:=p.I.r;let⟨hd,_,um⟩:=p.AU t J K jd ht w<|C.r _ z;have oW:=hd;have mc:=AT H.C i;have X:F.M F.C:=À U;have M:=V▸p.M.C;let⟨ev,Y⟩:=M.jN;have key:=um (GS.cl (j+1) k).st;rw[ev]at key Y;obtain⟨d,O⟩:∃d,(GS.jN<|.cl (j+1) k).st=d:=⟨_,U⟩;rw[O]at key;let⟨g',h1,h2⟩:=key;have yF:=h1 w M.C M.I;rw[<-O]at yF;let⟨k1,k2,k3⟩:=M.r;have Q:kC F.C w (w.setCell (fM F.C)<|ê Ô (GS.jN<|.cl (j+1) k).st):=Á ⟨_,_,À U,U⟩;have D:=Q.r p.a H.C X;have qf:fK {o (F.L+i)with w:=w} w (w.setCell (fM F.C)<|ê Ô (GS.jN<|.cl (j+1) k).st):=⟨Ö D.r.symm,λb kL=>D.jV b<|C.I _ z b kL,λa ha=>D.M _ z a ha,λa ha=>D.N _ z a ha,λa _=>D.I a⟩;have ed:GS.jN (.cl (j+1) k)=.jI k:=by simp only[GS.jN,if_pos hl]
 rw[ed]at yF Y Q D qf O;have f:fp F.P É (KS F.P É F.C (Em F) k) {o (F.L+i)with w:=w} g':=by
  have e0:d=(k:Int):=O.symm;have e1:¬(d=0\/(gd<=d/\d<1000000*gd/\d%gd<1000000)):=by simp only[gd];omega
  have e2:0<d/\d<1000000:=Z
  have e3:d.toNat=k:=Z
  simp only[if_neg e1,if_pos e2,e3]at h2;exact h2
 let⟨T,hT⟩:=jq<|f.jP qf;have lQ:=lD (λl g h=>À h.2.1) f;obtain⟨I,u,q1,q2,q3,q4,q5,q6,q7⟩:=p.Y H .no K (Hs t) X (by rwa[mc]) Q (AH X) U (Hv p z oW<|À U) (by rwa[mc]) lQ;have yL:=Hw p.C (e:=.gi (.gG k)) t;rw[J]at yL;have hz:Ñ (F.n+1) (fD.gV σ i<|.gi (.gG k)).G=0:=by simp only[lY,ij.kK,jK.kK]at yL;omega
 refine p.Hu H (e:=.gi (.gG k)) (la:=Ä i) t J trivial trivial trivial K Q Y q1 q2 q3 lQ q4 q5 q6 q7 (λ⟨N,h⟩=>by cases h) (p.C.Ht t ⟨_,J⟩ (λy _ p' hy W=>XP p.C V y p' hy W) (λc' Ql h=>by cases h) (λQl h=> ?_) (λr s h=>by cases h) (λp' h=> ?_) (λq=>absurd q Hx) (λq=>absurd (À q) Hx) λq1 q2=> ?_) (À ?_) λ_ _=>À rfl
 .injection h with h;subst h;exact⟨hz,La,U,À U⟩
 .cases h;exact⟨λW f=>(by rcases f with f|f<;>cases f;exact⟨U,U⟩),λr hr=>by cases hr⟩
 .let⟨c',h'⟩:=p.C.S q1 q2;rw[V]at h';injection h' with _ h';omega
 .simp only[ij.rk,jK.rk];have:k<=1:=by
   rw[La];cases σ.M<;>simp only[fX.gE]<;>first|omega|(rename_i v;cases v<;>simp[jr.rL])
  omega
def PI.agV(H:gU F)(p:PI F n zX σ S m B o E w qJ)(f:i<σ.r)(t:σ.N i=Ä (.gi .iF))(v:E[F.L+i]?=Ä g)(jd:g.status=Å)(ht:m (F.L+i)=.fF)(M:σ.b=.cl (j+1) k)(yK:j+1=Ñ (F.n+1) σ.G)(La:k=σ.M.gE)(Hx:¬(σ.M=.fC .gG\/σ.M=.fC .lb\/σ.M=.gi))(hl:¬(j=0/\0<k)):j1 F n zX σ m E w qJ G (F.L+i):=by
 have l:=iM v;have C:=p.I.r;let⟨hd,_,um⟩:=p.AU f t v jd ht w<|C.r _ l;have oW:=hd;have mc:=AT H.C i;have O:F.M F.C:=À U;have z:=M▸p.M.C;let⟨ev,P⟩:=z.jN;have Q:=um (GS.cl (j+1) k).st;rw[ev]at Q P;obtain⟨d,J⟩:∃d,(GS.jN<|.cl (j+1) k).st=d:=⟨_,U⟩;rw[J]at Q;let⟨g',h1,h2⟩:=Q;have T:=h1 w z.C z.I;rw[<-J]at T;let⟨k1,k2,k3⟩:=z.r;have K:kC F.C w (w.setCell (fM F.C)<|ê Ô (GS.jN<|.cl (j+1) k).st):=Á ⟨_,_,À U,U⟩;have D:=K.r p.a H.C O;have qf:fK {o (F.L+i)with w:=w} w (w.setCell (fM F.C)<|ê Ô (GS.jN<|.cl (j+1) k).st):=⟨Ö D.r.symm,λb kL=>D.jV b<|C.I _ l b kL,λa V=>D.M _ l a V,λa V=>D.N _ l a V,λa _=>D.I a⟩;have ed:GS.jN (.cl (j+1) k)=.cl j k:=by simp only[GS.jN,if_neg hl]
 rw[ed]at T P K D qf J;obtain⟨N,hN⟩:Em F {o (F.L+i)with w:=w} g':=by
  have q:d=(j:Int)*gd+(k:Int):=J.symm;have h:d=0\/(gd<=d/\d<1000000*gd/\d%gd<1000000):=by simp only[gd]at q|-;omega
  simp only[if_pos h]at h2;exact h2
 have lQ:=hN.status;obtain⟨I,u,X,Y,q3,q4,q5,q6,q7⟩:=p.Y H .no v (Hs f) O (by rwa[mc]) K (AH O) U (Hv p l oW<|À U) (by rw[mc];exact XM hN) lQ;have yL:=Hw p.C (e:=.jh N) f;rw[t]at yL;have hz:Ñ (F.n+1) (fD.gV σ i<|.jh N).G=j:=by simp only[lY,ij.kK,jK.kK]at yL;omega
 refine p.Hu H (e:=.jh N) (la:=σ.g) f t trivial trivial trivial v K P X Y q3 lQ q4 q5 q6 q7 (λ_=>rfl) (p.C.Ht f ⟨_,t⟩ (λy _ q h W=>XP p.C M y q h W) (λy r h=> ?_) (λr h=>by cases h) (λr s h=>by cases h) (λq h=>by cases h) (λq=>absurd q Hx) (λq=>absurd (À q) Hx) λX Y=> ?_) (À ?_) λ_ _=>À rfl
 .injection h with h q;subst h q;exact⟨hz.symm,La⟩
 .let⟨y,q⟩:=p.C.S X Y;rw[M]at q;injection q with _ q;exact⟨j,by rw[q]⟩
 .simp only[ij.rk,jK.rk];omega
def PI.agW(H:gU F)(p:PI F n zX σ S m B o E w qJ)(a:i<σ.r)(b:σ.N i=Ä (.gi .iF))(d:E[F.L+i]?=Ä g)(e:g.status=Å)(f:m (F.L+i)=.fF):j1 F n zX σ m E w qJ G (F.L+i):=by
 let⟨c,r,h,j,k,l⟩:=p.agT a b;by_cases q:c=0/\0<r
 .exact p.agU H a b d e f h j k l q
 .exact p.agV H a b d e f h j k l q
def PI.agX(H:gU F)(p:PI F n zX σ S m B o E w qJ)(c:i<σ.r)(d:σ.N i=Ä (.gi (.gG j)))(f:E[F.L+i]?=Ä g)(Q:g.status=Å)(V:m (F.L+i)=.fF):j1 F n zX σ m E w qJ G (F.L+i):=by
 have z:=iM f;have C:=p.I.r;let⟨X,_,Y⟩:=p.AU c d f Q V w<|C.r _ z;have oW:=X;have D:=AT H.C i;have J:F.M F.C:=À U;let⟨t,k⟩:=(p.C.N i _ d).1 j<|À U;have K:=k▸p.M.C;let⟨g',h1,v⟩:=Y (j:Int);simp only[if_true]at v;let⟨T,hT⟩:=jq v;have M:=lD (λl g h=>À h.2.1) v;obtain⟨I,u,l,y,q3,q4,q5,q6,q7⟩:=p.Y H .no f (Hs c) J (by rw[D];exact h1 w K.C) (À U) (yB J) U (Hv p z oW<|Á<|À U) (by rwa[D]) M;have O:=Hw p.C (e:=.gi (.jf j)) c;rw[d]at O;let⟨b1,b2,_⟩:=p.C.g j k;have P:Ñ (F.n+1) (fD.gV σ i<|.gi (.jf j)).G=0:=by simp only[lY,ij.kK,jK.kK]at O;omega
 refine p.Hu H (e:=.gi (.jf j)) (la:=σ.g) c d trivial trivial trivial f (À U) K l y q3 M q4 q5 q6 q7 (λ⟨N,h⟩=>by cases h) (p.C.Ht c ⟨_,d⟩ (Qk p.C t) (λc' a h=>by cases h) (λa h=> ?_) (λr s h=>by cases h) (λa h=> ?_) (λ_=>P) (λq=> ?_) λl y=> ?_) (À ?_) λ_ h=>À rfl
 .injection h with h;subst h;exact⟨P,b2,t,Á U⟩
 .cases h;exact⟨λs a=>(by rcases a with a|a<;>cases a;exact⟨t,U⟩),λr b=>by cases b⟩
 .let⟨a,b,h⟩:=p.C.L q;rw[k]at h;cases h
 .let⟨c',a⟩:=p.C.S l y;rw[k]at a;cases a
 .simp only[ij.rk,jK.rk];omega
def PI.agY(H:gU F)(p:PI F n zX σ S m B o E w qJ)(c:i<σ.r)(d:σ.N i=Ä (.gi (.jf j)))(k:E[F.L+i]?=Ä g)(X:g.status=Å)(Y:m (F.L+i)=.fF):j1 F n zX σ m E w qJ G (F.L+i):=by
 have f:=iM k;have C:=p.I.r;let⟨hd,_,g',h1,M⟩:=p.AU c d k X Y w<|C.r _ f;have oW:=hd;have O:=AT H.C i;have v:F.M F.C:=À U;let⟨y,z⟩:=(p.C.N i _ d).1 j<|Á U;have t:=z▸p.M.C;have Qm:=t.r.1;have J:kC F.C w (w.setCell (fM F.C)<|ê Ô 0):=Á ⟨_,_,À U,U⟩;have D:=J.r p.a H.C v;let⟨T,hT⟩:=jq (M.jP ⟨Ö D.r.symm,λb l=>D.jV b<|C.I _ f b l,λa h=>D.M _ f a h,λa h=>D.N _ f a h,λa _=>D.I a⟩);have P:=lD (λl g h=>by
  cases j with
  |zero=>omega
  |succ j=>exact À h.2.1) M
 obtain⟨I,u,l,K,q3,q4,q5,q6,q7⟩:=p.Y H .no k (Hs c) v (by rw[O];exact h1 w _ t.C t.I) J (Xx v) U (Hv p f oW<|Á<|Á<|À U) (by rwa[O]) P;have Q:=Hw p.C (e:=.gi (.iC j)) c;rw[d]at Q;let⟨b1,b2,_⟩:=p.C.g j z;have V:Ñ (F.n+1) (fD.gV σ i<|.gi (.iC j)).G=0:=by simp only[lY,ij.kK,jK.kK]at Q;omega
 refine p.Hu H (e:=.gi (.iC j)) (la:=σ.g) c d trivial trivial trivial k J t.Xm l K q3 P q4 q5 q6 q7 (λ⟨N,h⟩=>by cases h) (p.C.Ht c ⟨_,d⟩ (Qk p.C y) (λc' a h=>by cases h) (λa h=>by cases h) (λr s h=> ?_) (λa h=> ?_) (λ_=>V) (λq=>⟨j,0,rfl⟩) λl K=> ?_) (À ?_) λ_ h=>À rfl
 .injection h with h a;subst h a;exact⟨V,Z,λ_=>⟨y,U⟩⟩
 .cases h;exact⟨λs b=>(by rcases b with b|b<;>cases b),λr q=>by cases q;exact⟨Qm,y,0,U⟩⟩
 .let⟨c',a⟩:=p.C.S l K;rw[z]at a;cases a
 .simp only[ij.rk,jK.rk];omega
def XQ(p:PI F n zX σ S m B o E w qJ){a y:Æ}(d:mayWake F.P g=Ï)(f:a.status=Å)(i:E[k]?=Ä y)(j:B k=.iC):(Ą F.P g a W y).status≠Þ:=by
 intro h;let⟨e,l⟩:=He h;let⟨g0,_,b,c,_⟩:=p.I.C k y i;rw[j]at b;cases b with
 |gp=>rw[l]at c;rcases c with q|q<;>cases q
 |nZ r q=>
  unfold Ą at h;rw[if_pos (by simp[d,f])]at h;unfold ĕ at h;simp only[q]at h;cases h
def PI.agZ(H:gU F)(p:PI F n zX σ S m B o E w qJ)(c:i<σ.r)(d:σ.N i=Ä (.gi (.iC j)))(k:E[F.L+i]?=Ä g)(jd:g.status=Å)(ht:m (F.L+i)=.fF):j1 F n zX σ m E w qJ G (F.L+i):=by
 have f:=iM k;have C:=p.I.r;have hJ:=p.AU c d k jd ht w<|C.r _ f;let⟨hr0,J,s,K⟩:=(p.C.N i _ d).2 j U;obtain⟨j,rfl⟩:∃M,j=M+1:=⟨j-1,Z⟩;let⟨hd,_,Qo,g',O,h1,h2⟩:=hJ;have oW:=hd;have mc:=AT H.C i;have Q:F.M F.C:=À U;have V:=K▸p.M.C;have W:kC F.C w (w.setCell (gQ F.C)<|ê â<|â.wrap<|(GS.gR (j+1) s).sm+1):=Á ⟨_,_,Á U,U⟩;have D:=W.r p.a H.C Q;have qf:fK {o (F.L+i)with w:=w} w (w.setCell (gQ F.C)<|ê â<|â.wrap<|(GS.gR (j+1) s).sm+1):=⟨Ö D.r.symm,λb kL=>D.jV b<|C.I _ f b kL,λa X=>D.M _ f a X,λa X=>D.N _ f a X,λa _=>D.I a⟩;let⟨b1,b2,_⟩:=p.C.u _ _ K;have rP:=p.h.2;obtain⟨e,T,hF,Y,yM,he3,XR⟩:∃(e:ij) (T:gy),k9 F.P É (JE F e) T {o (F.L+i)with w:=w.setCell (gQ F.C) (ê â<|â.wrap<|(GS.gR (j+1) s).sm+1)} g'/\(e.ie/\e.lT/\e.kK=0)/\((∃N,e=.jh N)->T=.fF)/\((e.rk F).1<((ij.gi<|.iC (j+1)).rk F).1)/\((j=0/\∃N,e=.jh N)\/(0<j/\e=.gi (.iC j))):=by
  cases j with
  |zero=>
   obtain⟨N,hN⟩:Em F {o (F.L+i)with w:=w} g':=h2;exact⟨.jh N,.fF,XM hN,⟨trivial,trivial,U⟩,λ_=>rfl,by simp only[ij.rk,jK.rk];omega,À ⟨U,N,U⟩⟩
  |succ j=>
   have h3:=h2;let⟨T,hT⟩:=jq<|h3.jP qf;have XB:j+1+1+s<=1:=by rw[b2];cases σ.M<;>simp only[fX.gE]<;>first|omega|(rename_i v;cases v<;>simp[jr.rL])
   omega
 obtain⟨I,u,q1,q2,q3,q4,q5,q6,q7⟩:=p.Y H .no k (Hs c) Q (by rw[mc];exact h1 w _ V.M V.N) W (Hh Q) (Hi _).2.2.2 (Hv p f oW<|Á<|Á<|Á U) (by rwa[mc])<|À O;have yL:=Hw p.C (e:=e) c;rw[d,Y.2.2]at yL;have hz:Ñ (F.n+1) (fD.gV σ i e).G=0:=by simp only[lY,ij.kK,jK.kK]at yL;omega
 refine p.Hu H (la:=σ.g) c d trivial Y.1 Y.2.1 k W V.jH q1 q2 q3 (À O) q4 q5 q6 q7 yM (p.C.Ht c ⟨_,d⟩ (Qk p.C J) (λc' Ql h=>by cases h) (λQl h=>by cases h) (λM s' h=> ?_) (λp' h=> ?_) (λ_=>hz) (λq=>⟨j,s+1,rfl⟩) λq1 q2=> ?_) (À he3) λhm _=>Á λy hy=> ?_
 .injection h with h l;subst h l;refine⟨hz,Z,λhr=>⟨J,?_⟩⟩;rcases XR with⟨q,_⟩|⟨_,q⟩
  .omega
  .exact q
 .subst h;rcases XR with⟨_,N,q⟩|⟨hr,q⟩
  .cases q
  .cases q;exact⟨λW' t=>(by rcases t with t|t<;>cases t),λM oz=>by cases oz;exact⟨hr,J,s+1,U⟩⟩
 .let⟨c',l⟩:=p.C.S q1 q2;rw[K]at l;cases l
 .have h0:(0:Nat)≠F.L+i:=by have:=H.C.r;omega
  rw[q4 0 h0]at hy;obtain⟨z,Hz,rfl⟩:=Ú.1 hy;exact XQ p Qo O Hz<|by rw[rP,hm];rfl
end
section
variable{F:Ph}{σ σ':fV F}{S:Nat->Jd}{f z:Nat->gy}{l:Nat->iB}{o:Nat->fh}{v:Array Æ}{u:é}{D:Option (Nat×Nat)}
def AW(ok:F.Ok):(F.L==0)=É:=by have:=ok.r;simp;omega
def EB(h:0<σ.r):yA σ F.L:=Á ⟨0,h,U⟩
def EC(b:σ.N 0=Í):∀x,σ.ie x->F.L=F.L+x->False:=λx ⟨e,a,_⟩ h2=>by
 have:x=0:=Z
 subst this;rw[b]at a;cases a
def PI.AX(p:PI F n zX σ S f l o E w qJ)(b:0<σ.r)(c:σ.N 0=Í)(d:E[F.L]?=Ä g)(e:g.status=Å)(h:f F.L=.fF):∀a,fK (o F.L) (o F.L).w a->JI F σ.c σ.S {o F.L with w:=a} g:=by let⟨i,j⟩:=p.m b c;intro a r;have:=p.I.N d e h (À j) a r;rwa[i]at this
def qU.Lb(h:qU F σ S f l)(ok:F.Ok){ip:jB}{sg:Nat->F.γ}{T:gy}(c:σ.N 0=Í):qU F {σ with S:=ip,c:=sg} (fA S F.L<|JI F sg ip) (fA f F.L T) (fA l F.L .no):=by
 have:=ok.r;refine⟨by rw[fL S _ Z,fL l _ Z];exact h.M,λb a=>by rw[gD,gD];exact⟨U,U⟩,λj b a=>by rw[fL S _ Z,fL l _ Z];exact h.I j b a,λy e b a=> ?_,λi b a=>by rw[fL S _ Z,fL l _ Z,fL f _ Z];exact h.r i b a⟩;have d:y≠0:=λq=>by subst q;have:σ.N 0=Ä e:=a;rw[c]at this;cases this
 rw[fL S _ Z,fL l _ Z,fL f _ Z];exact h.C y e b a
def Lc(ok:F.Ok){T:gy}(d:F.L<F.N)(a:σ.N 0=Í)(b:σ'.N=σ.N)(e:σ'.M=σ.M)(g:σ'.h=σ.h)(i:σ'.C=σ.C)(h:σ'.S.rk F<σ.S.rk F):pE F.N (σ'.mu (fA f F.L T) v) (σ.mu f E):=by refine Hf d (À ?_) λk c=>yz (λ_=>by rw[e]) (λ_ _=>by rw[g]) (λ_=>by rw[b]) (λq=>absurd q c) (λ_ _=>by rw[i])<|fL f _ c;rw[PZ ok (σ:=σ') (by rwa[b]),PZ ok a];exact h
def Qp(B:fl F σ E w)(c:σ'.M=σ.M)(d:σ'.r=σ.r)(e:σ'.N=σ.N)(f:σ'.C=σ.C)(g:σ'.I=σ.I)(h:σ'.b=σ.b)(i:σ'.a=σ.a):fl F σ' E w:=by
 intro k y l m;rcases B k y l m with⟨n,a,b⟩|⟨j,o,p,a,b⟩
 .exact À ⟨n,by rwa[c],by rwa[h]⟩
 .refine Á ⟨j,by rwa[d],by rwa[e],a,?_⟩;rwa[f,i,g]
def Ps.Ld(h:Ps F σ){ip:jB}{G:GS}(i:σ.N 0=Í)(y:0<σ.r)(l:∀c,(ip=.kJ c->c<=F.m)/\(ip=.mk c->1<=c/\c<=F.m)/\∀p,ip=.dn c p->1<=c/\c<=F.m) (o:∀c,1<=c->c<=F.m->ip.od<c->fA σ.a k G c=.cl 1 (Ñ F.n λj=>(σ.C j).gE F j c)) (t:∀c,c<=F.m->c<=ip.od->(∃W,(ip=.dn c (.gG W)\/ip=.dn c (.jf W))/\fA σ.a k G c=.jI W/\W=Ñ F.n λj=>(σ.C j).gE F j c)\/(∃r s,ip=.dn c (.iC r)/\0<r/\fA σ.a k G c=.gR r s/\r+s=Ñ F.n λj=>(σ.C j).gE F j c)\/((∀p,ip≠ .dn c p)/\((fA σ.a k G c=.cl 0 0/\(Ñ F.n λj=>(σ.C j).gE F j c)=0)\/∃s,fA σ.a k G c=.gR 0 s/\s=Ñ F.n λj=>(σ.C j).gE F j c))) (u:σ.S.od<=ip.od) (v:(∃a b,σ.a k=.gR a b)->∃a b,G=.gR a b) (w:G=.cl 1 0->σ.d k=Í) {sg:Nat->F.γ} {V:Nat->Nat->Prop} (x:V 0=F.i) {pk:Nat->Nat}:Ps F {σ with S:=ip,a:=fA σ.a k G,c:=sg,V:=V,e:=pk}:=by
 refine⟨x,h.C,h.E,h.K,λq=> ?_,l,h.z,h.d,h.l,λq=>absurd i q,h.h,h.M,h.o,h.t,h.g,h.u,h.N,h.B,o,t,λj r d f=>Ù (h.w j r d f) u,λj r d f=> ?_,h.L,h.S,λc d f=> ?_,h.D⟩
 .have:σ.r=0:=q;omega
 .have:=h.H j r d f;show∃a b,fA σ.a k G _=_;by_cases e:F.r (j+r*F.n)=k
  .rw[e]at this|-;rw[gD];exact v this
  .rw[fL _ _ e];exact this
 .have g:fA σ.a k G c=.cl 1 0:=f;by_cases e:c=k
  .subst e;rw[gD]at g;exact w g
  .rw[fL _ _ e]at g;exact h.y c d g
def PI.ag0(H:gU F)(p:PI F n zX σ S f l o E w qJ)(B:0<σ.r)(u:σ.N 0=Í)(D:E[F.L]?=Ä g)(I:g.status=Å)(ht:f F.L=.fF)(t:σ.S=.kJ k):rM F n zX σ f E w qJ:=by
 have z:=iM D;have C:=p.I.r;have M:=p.AX B u D I ht w<|C.r _ z;rw[t]at M;have Qb:=(p.C.I k).1 t;have Q:=AW H.C;have X:iT F.S (λi=>i<E.size) σ.Y (gw o F.L {o F.L with w:=w}) w qJ:=C.C z (λ_ q=>q) (λb q=>À<|Á q) (λ_ q=>q) (λa q=>À<|Á q) U U U (C.m _ z)<|C.g _ z;have XS:=p.a.C (i:=F.L) (d:=(o F.L).d) (w0:=w)<|Ç _;have v:σ.S.md=k:=by rw[t];rfl
 by_cases AK:k<F.m
 .let⟨HA,AY⟩:=p.M.M k (by rw[v];exact Ç _);let⟨r1,r2⟩:=p.a.f B u;rw[v]at r1 r2;let⟨o1,o2⟩:=p.a.e B (k+1) (by rw[v];omega) AK;let⟨T,O⟩:=jq<|H.f k _ _ _ g AK M (C.M z) HA AY r2 r1 o1 o2 σ.c U;have P:=p.I.M (J:=JI F σ.c<|.mk (k+1)) (T:=T) (K:=.no) D (À I) X (by rwa[Q]);have y:fA σ.a 0 (σ.a 0)=σ.a:=by funext j;unfold fA;split<;>simp[*]
  refine⟨{σ with S:=.mk (k+1)},_,_,_,_,λh=>h,.r (p.N.Lb H.C (sg:=σ.c) u) p.b P ?_ ?_ ?_ ?_ (Qp p.c U U U U U U U) p.f,Lc H.C (p.G z) u U U U U ?_⟩
  .have L:=XS;exact⟨L.gX,L.o,L.lO,λa e b c=>L.e a e (by rwa[v]) c,λa b=>by have:=L.f a b;rwa[v]at this,L.h,L.l,L.S,L.M,L.c,λe b=>L.I e (by rwa[v]),λe b=>L.N e (by rwa[v]),λe a b=>L.g e a (by rwa[v]),L.d⟩
  .have W:=p.M;exact⟨W.C,W.I,W.jL,λe b=>W.M e (by rwa[v]),λe a b=>W.S e a (by rwa[v]),W.N⟩
  .have:=p.C.Ld (k:=0) (ip:=.mk (k+1)) (G:=σ.a 0) (sg:=σ.c) (V:=σ.V) (pk:=σ.e) u B (λe=>⟨λq=>(by cases q),λq=>(by cases q;exact⟨Z,Z⟩),λp q=>by cases q⟩) (λe a b c=> ?_) (λe a b=> ?_) (by rw[t];exact Ç _) id (λq=>p.C.y 0 (ô _) q) p.C.v
   .rwa[y]at this
   .rw[y];exact p.C.e e a b<|by rwa[t]
   .rw[y];rcases p.C.Y e a (by rwa[t])with⟨W,q,_⟩|⟨r,s,q,_⟩|q
    .rw[t]at q;rcases q with q|q<;>cases q
    .rw[t]at q;cases q
    .exact Á<|Á ⟨λp q=>(by cases q),q.2⟩
  .have:σ.S.rl=(jB.mk<|k+1).rl:=by rw[t];rfl
   have a:=p.d;rwa[this]at a
  .rw[t];simp only[jB.rk];have:F.m+3-(k+1)=F.m+2-k:=Z
   rw[this];omega
 .have q:k=F.m:=Z
  subst q;let⟨T,O⟩:=jq<|H.h _ g M<|C.M z;have P:=p.I.M (J:=JE F .oT) (T:=T) (K:=.no) D (À I) X (by rwa[Q]);have s:¬σ.ie 0:=λ⟨e,a,_⟩=>by rw[u]at a;cases a
  have W:¬σ.lT 0:=λ⟨e,a,_⟩=>by rw[u]at a;cases a
  refine⟨fD.gV σ 0 .oT,_,_,_,_,λh=>h,.r (p.N.G (x:=0) H.C λ⟨N,h⟩=>by cases h) p.b P (XS.gV ⟨λh=>h.elim,λh=>(W h).elim⟩) p.M.gV (p.C.gV B (by rw[u];rfl) (λb h=>by rw[u]at h;cases h) (λb h=>by cases h) (λj h=>by omega) λ_=>t) (p.d.G ⟨λh=>h.elim,λh=>(s h).elim⟩) (Qi p.c λk y b c e=> ?_) p.f,Ez H.C (p.G z)<|À ?_⟩
  .subst e;rw[ö,D]at b;obtain rfl:=Ã b;rw[I]at c;cases c
  .unfold rO;rw[u];simp only[ij.rk,if_true,t,jB.rk];have:F.m+2-F.m=2:=Z
   rw[this];omega
end
section
variable{F:Ph}{σ σ':fV F}{S:Nat->Jd}{f D:Nat->gy}{o:Nat->iB}{d:Nat->fh}{v:Array Æ}{u:é}{B:Option (Nat×Nat)}
def XT(ok:F.Ok)(a:k<=F.m):jk F.toFx k≠jv F i:=λe=>ok.I (by
 have:F.I k=F.Y:=by injection e
 rw[<-this];exact Á ⟨k,a,U⟩)
def ag1(ok:F.Ok)(a:k<=F.m)(b:i<=F.m)(h:jk F.toFx k=jk F.toFx i):k=i:=ok.S k i a b<|by injection h
def ag2(h:jv F i=jv F n):i=n:=by injection h
def PI.ag3(H:gU F)(p:PI F n zX σ S f o d E w qJ)(h0:0<σ.r)(N:σ.N 0=Í)(hi:E[F.L]?=Ä g)(jd:g.status=Å)(ht:f F.L=.fF)(v:σ.S=.mk k):rM F n zX σ f E w qJ:=by
 have y:=iM hi;have C:=p.I.r;have hJ:=p.AX h0 N hi jd ht w<|C.r _ y;rw[v]at hJ;let⟨k1,J⟩:=(p.C.I k).2.1 v;have mi:=AW H.C;have B:σ.S.md=k-1:=by rw[v];rfl
 let⟨M,z,hn,AY,XU,hcell,hdone⟩:=hJ;let⟨o1,o2⟩:=p.a.e h0 k (by rw[B];omega) J;have Hn:iT F.S (λi=>i<E.size) σ.Y (gw d F.L<|qd F {d F.L with w:=w} k) w qJ:=by
  refine C.C y (λ_ q=>q.elim) (λb q=>À q) (λ_ q=>q.1) (λa q=> ?_) U U U (λ_ q=>q.elim) λa s q=> ?_
  .rcases q with q|rfl|rfl
   .exact À<|Á q
   .exact À<|À o2
   .exact À<|À o1
  .rcases q with q|q|q
   .exact C.g _ y a s.1 q
   .exact s.2.1 q
   .exact s.2.2 q
 have hF:k9 F.P (F.L==0) (JI F (fA σ.c k M)<|.dn k .jH) .fF (qd F {d F.L with w:=w} k) g:=by rw[mi];intro I c;let⟨Q,X,W,a3,e⟩:=hdone;exact⟨Q,X,W,a3,e.jP c⟩
 have hS:=p.I.M (K:=.no) hi (À jd) Hn hF;have hG:fA σ.a 0 (σ.a 0)=σ.a:=by funext j;unfold fA;split<;>simp[*]
 have Vn:∀l,l≠k->fA σ.V k z l=σ.V l:=λl h=>fL _ _ h;have Vs:fA σ.V k z k=z:=gD _ _ _;refine⟨{σ with S:=.dn k .jH,c:=fA σ.c k M,V:=fA σ.V k z},_,_,_,_,λh=>h,.r ?_ p.b hS ?_ ?_ ?_ ?_ (Qp p.c U U U U U U U) p.f,Lc H.C (p.G y) N U U U U ?_⟩
 .have:=p.N.Lb (ip:=.dn k .jH) (sg:=fA σ.c k M) (T:=.fF) H.C N;exact⟨this.M,this.Y,this.I,this.C,this.r⟩
 .have L:=p.a;have D:(gw d F.L<|qd F {d F.L with w:=w} k) F.L=qd F {d F.L with w:=w} k:=gY _ _ _;have W:∀i,i≠F.L->(gw d F.L<|qd F {d F.L with w:=w} k) i=d i:=λi h=>gJ d _ h;have XV:(0:Nat)≠F.L:=by have:=H.C.r;omega
  have Qq:∀i a,(gw d F.L (qd F {d F.L with w:=w} k) i).r a->(d i).r a:=λi a h=>by
   by_cases q:i=F.L
   .subst q;rw[D]at h;exact h.1
   .rwa[W i q]at h
  have sO:∀i b,(gw d F.L (qd F {d F.L with w:=w} k) i).O b->(d i).O b/\i≠F.L:=λi b h=>by
   by_cases q:i=F.L
   .subst q;rw[D]at h;exact h.elim
   .rw[W i q]at h;exact⟨h,q⟩
  have XW:∀i,i<E.size->∀a,(a=jv F (F.b k)\/a=jk F.toFx k)->¬(gw d F.L (qd F {d F.L with w:=w} k) i).r a:=λi c a s h=>by
   by_cases q:i=F.L
   .subst q;rw[D]at h;rcases s with s|s
    .exact h.2.1 s
    .exact h.2.2 s
   .rw[W i q]at h;refine C.h i F.L c y q a h<|À ?_;rcases s with rfl|rfl
    .exact o2
    .exact o1
  refine⟨λi c a s=> ?_,λx t u a s=>by rw[W 0 XV];exact L.o x t u a s,λh=>by rw[W 0 XV];exact L.lO h,λh l t u=> ?_,λh yJ=> ?_,λj hj yJ r hr t=>by rw[W _ Z];exact L.h j hj yJ r hr t,λj hj yJ=>by rw[W _ Z];exact L.l j hj yJ,λx AS=> ?_,λi c=> ?_,λi t u=>by rw[W i Z];exact L.c i t u,λl G b hb=> ?_,λl G i c h=> ?_,λl t u i c h=> ?_,λj hj r hr t i c h=>L.d j hj r hr t i c<|Qq _ _ h⟩
  .by_cases q:i=F.L
   .subst q;rw[D]at s;rcases s with q|q|q|q
    .exact L.gX _ y a<|À q.1
    .exact L.gX _ y a<|Á q
    .exact Á ⟨_,H.C.Y.1 _ Z Z,q⟩
    .exact À ⟨k,J,q⟩
   .rw[W i q]at s;exact L.gX i c a s
  .rw[D];have vz:k<l:=t;let⟨I,q2⟩:=L.e h l (by rw[B];omega) u;exact⟨⟨I,XT H.C u,λe=>by have:=ag1 H.C u J e;omega⟩,⟨q2,λe=>by have:=H.C.pi l k Z u k1 J<|ag2 e;omega,λe=>XT H.C J e.symm⟩⟩
  .rw[D];show(qd F _ k).N (jk F.toFx k)/\∀b,fA σ.V k z k b->(qd F _ k).I b;rw[Vs];exact⟨Á<|Á U,XU⟩
  .have:F.L+x≠F.L:=λq=>by
    have I:x=0:=Z
    subst I;let⟨e,t,_⟩:=AS;rw[N]at t;cases t
   rw[W _ this];exact L.S x AS
  .by_cases q:i=F.L
   .subst q;rw[D];exact L.M _ c
   .rw[W _ q];exact L.M i c
  .have rN:l<=k:=G;by_cases q:l=k
   .subst q;have I:fA σ.V l z l b:=hb;rw[Vs]at I;have hM:=XU b I;refine⟨C.fx _ y b hM,C.I _ y b hM,λi c h=> ?_⟩;let⟨Q,X⟩:=sO i b h;exact C.o i F.L c y X b Q hM
   .have I:fA σ.V k z l b:=hb;rw[Vn l q]at I;let⟨Q,X,a3⟩:=L.I l (by rw[B];omega) b I;exact⟨Q,X,λi c h=>a3 i c (sO i b h).1⟩
  .have rN:l<=k:=G;by_cases q:l=k
   .subst q;exact XW i c _ (Á U) h
   .exact L.N l (by rw[B];omega) i c<|Qq _ _ h
  .have rN:l<=k:=u;by_cases q:l=k
   .subst q;exact XW i c _ (À U) h
   .exact L.g l t (by rw[B];omega) i c<|Qq _ _ h
 .have W:=p.M;refine⟨W.C,W.I,W.jL,λl G=> ?_,λl t G=> ?_,W.N⟩
  .have rN:l<=k:=G;show nA F l (fA σ.c k M l)/\F.d l (fA σ.c k M l) (fA σ.V k z l) w;by_cases q:l=k
   .subst q;rw[gD,gD];refine⟨?_,AY⟩;have:=(W.M (l-1)<|by rw[B];exact Ç _).1;have u:=nA.El this hn;rwa[show l-1+1=l by omega]at u
   .rw[fL _ _ q,fL _ _ q];exact W.M l<|by rw[B];omega
  .have rN:l<=k:=G;by_cases q:l=k
   .subst q;exact hcell
   .exact W.S l t<|by rw[B];omega
 .have:=p.C.Ld (ip:=.dn k .jH) (sg:=fA σ.c k M) (V:=fA σ.V k z) (pk:=σ.e) N h0 (λl=>⟨λq=>(by cases q),λq=>(by cases q),λp q=>by cases q;exact⟨k1,J⟩⟩) (λl a b c=> ?_) (λl a b=> ?_) (by rw[v];exact Ç _) id (λq=>p.C.y 0 (ô _) q)<|by rw[Vn 0 Z];exact p.C.v
  .rwa[hG]at this
  .rw[hG];exact p.C.e l a b<|by rwa[v]
  .rw[hG];have I:l<=k-1:=b;rcases p.C.Y l a (by rwa[v])with⟨W,q,_⟩|⟨r,s,q,_⟩|q
   .rw[v]at q;rcases q with q|q<;>cases q
   .rw[v]at q;cases q
   .exact Á<|Á ⟨λp q=>(by cases q;omega),q.2⟩
 .have c:=p.d;have e:σ.S.rl=k-1:=by rw[v];rfl
  rw[e]at c;refine{c with I:=λl a b x AS=> ?_};have I:l<=k-1:=b;refine c.I l a b x (AS.imp (λq=> ?_) id);rwa[<-Vn l Z]
 .rw[v];simp only[jB.rk,jK.rk];have:F.m+3-k=(F.m+2-k)+1:=Z
  rw[this,į];omega
def PI.ag4(H:gU F)(p:PI F n zX σ S f o d E w qJ)(x:0<σ.r)(m:σ.N 0=Í)(D:E[F.L]?=Ä g)(jd:g.status=Å)(ht:f F.L=.fF)(e:σ.S=.dn k .jH):j1 F n zX σ f E w qJ B F.L:=by
 have t:=iM D;have C:=p.I.r;have J:=p.AX x m D jd ht w<|C.r _ t;rw[e]at J;let⟨k1,K⟩:=(p.C.I k).2.2 _ e;have M:=AW H.C;let⟨hd,_,g',h1,N⟩:=J;have n5:=(C.f _ t).trans hd;have hb:F.M (F.I k):=Á ⟨k,K,U⟩;have O:∀y:Ć,y.act=Ğ (Ķ<|fM<|F.I k)->y.act.touch?=Í:=λy i=>by rw[i];rfl
 let⟨T,hT⟩:=jq N;have P:=lD (λl g h=>À h.2.1) N;obtain⟨v,y,y1,y2,q1,Q,q3,q4,q5,q7⟩:=p.AR H .no D (by rw[M];exact h1 w) ft ft (λy i=>⟨λz l=>(by rw[O y i]at l;cases l),by rw[i];exact C.N _<|À hb⟩) (λy _ i=>Ax C.l λl u=>by rw[xa u];exact O y i) (by rwa[M]) P;have z:σ.S.md=k:=by rw[e];rfl
 have Qr:σ.S.rl=k-1:=by rw[e];rfl
 let⟨V,X⟩:=p.a.f x m;rw[z]at V X;have Y:=p.d;rw[Qr]at Y;have G:k-1+1=k:=Z
 have Le:=Y.af7 y1 (by rwa[G]) n5 (by
  rw[G];intro a l;rcases l with l|rfl
  .exact(C.S _ t).C a<|X _ l
  .exact(C.S _ t).r _ V)
 rw[G]at Le;have I:fA σ.a 0 (σ.a 0)=σ.a:=by funext j;unfold fA;split<;>simp[*]
 refine⟨{σ with S:=.dn k .iF,e:=fA σ.e k qJ.size},_,_,_,_,v,w,#[y],q1,Q,λh=>h,.r ?_ (Q.trans p.b) q5 ?_ ?_ ?_ Le ?_ λj r a1 a2 a3=> ?_,Lc H.C (p.G t) m U U U U ?_⟩
 .have:=p.N.Lb (ip:=.dn k .iF) (sg:=σ.c) (T:=T) H.C m;exact⟨this.M,this.Y,this.I,this.C,this.r⟩
 .have L:=q7;exact⟨L.gX,L.o,L.lO,λa l b c=>L.e a l (by rwa[z]) c,λa b=>by have:=L.f a b;rwa[z]at this,L.h,L.l,L.S,L.M,L.c,λl b=>L.I l (by rwa[z]),λl b=>L.N l (by rwa[z]),λl a b=>L.g l a (by rwa[z]),L.d⟩
 .have W:=p.M;exact⟨W.C,W.I,W.jL,λl b=>W.M l (by rwa[z]),λl a b=>W.S l a (by rwa[z]),W.N⟩
 .have:=p.C.Ld (ip:=.dn k .iF) (sg:=σ.c) (pk:=fA σ.e k qJ.size) m x (λl=>⟨λq=>(by cases q),λq=>(by cases q),λp q=>by cases q;exact⟨k1,K⟩⟩) (λl a b c=> ?_) (λl a b=> ?_) (by rw[e];exact Ç _) id (λq=>p.C.y 0 (ô _) q) p.C.v
  .rwa[I]at this
  .rw[I];exact p.C.e l a b<|by rwa[e]
  .rw[I];have c:l<=k-1:=b;rcases p.C.Y l a (by rwa[e])with⟨W,q,_⟩|⟨r,s,q,_⟩|q
   .rw[e]at q;rcases q with q|q<;>cases q
   .rw[e]at q;cases q
   .exact Á<|Á ⟨λp q=>(by cases q;omega),q.2⟩
 .exact p.c.qR (σ':={σ with S:=.dn k .iF,e:=fA σ.e k qJ.size}) q3 (by rcases P with q|q<;>rw[q]<;>simp) q4 (λ_ _=>rfl) U U (λ_ _=>rfl) (λ_=>rfl) (λ_ _=>rfl) (λ_ _ h=>À h) λ_ _ _ _ h=>À h
 .have u:=p.C.w j r a1<|Á<|Á a2;rw[e]at u;simp only[jB.od]at u;show η _ _ (fA σ.e k qJ.size _);rw[fL _ _ Z];exact(p.f j r a1 a2 a3).app _
 .rw[e];simp only[jB.rk,jK.rk];omega
end
section
variable{F:Ph}{σ σ':fV F}{S:Nat->Jd}{o K:Nat->gy}{B:Nat->iB}{v:Nat->fh}{f:Array Æ}{u:é}{I:Option (Nat×Nat)}
def AZ(σ:fV F)(ip:jB)(k:Nat)(G:GS):fV F:={σ with S:=ip,a:=fA σ.a k G}
def PI.ED(H:gU F)(p:PI F j zX σ S o B v E w qJ){d:jK}{ip:jB}{G:GS}{s:Æ}{T:gy}(h0:0<σ.r)(C:σ.N 0=Í)(t:σ.S=.dn k d)(N:d≠ .jH)(O:E[F.L]?=Ä g)(D:kC (F.I k) w W)(Q:ig W (F.I k) G)(X:Ŝ F.P (ò E w I) F.L=(Ģ<|ò f W I,u))(J:f.size=E.size)(q3:f[F.L]?=Ä s)(lQ:s.status=Å\/s.status=æ)(q4:∀k,k≠F.L->f[k]?=E[k]?.map (Ą F.P g s W)) (q5:gN F.P F.S σ.Y (fA S F.L<|JI F σ.c ip) (fA o F.L T) (fA B F.L .no) (gw v F.L {v F.L with w:=W}) f W (qJ++u)) (q6:TI F.toFx j zX σ.r σ.S.rl σ.V σ.e σ.d σ.ie σ.f (qJ++u)) (q7:iI F σ (gw v F.L {v F.L with w:=W}) f.size W) (x:ip.md=k/\ip.rl=k) (hP:Ps F (AZ σ ip k G)) (hrk:ip.rk F<σ.S.rk F) (AN:∀i r,σ.C i=.fC r .kz->F.r (i+r*F.n)=k->(σ.a k).sm=0->G.sm=0\/∀y,f[F.L+1+i]?=Ä y->y.status≠Þ):j1 F j zX σ o E w qJ I F.L:=by
 let⟨k1,z⟩:=(p.C.I k).2.2 _ t;have K:F.M (F.I k):=Á ⟨k,z,U⟩;have M:σ.S.md=k:=by rw[t];rfl
 have Qr:σ.S.rl=k:=by rw[t];cases d<;>first|rfl|exact absurd U N
 have m:=D.I H p.a p.C p.M K ⟨λq=>absurd q<|H.C.N k z,λ_=>rfl⟩ (λl a=>⟨λq=>by rwa[<-H.C.S _ _ z a q,gD],λq=>fL _ _ λe=>q<|by rw[e]⟩);refine⟨AZ σ ip k G,_,_,_,_,f,W,u,X,J,λh=>h,.r ?_ (J.trans p.b) q5 ?_ ?_ hP ?_ ?_ λi r a b c=>(p.f i r a b c).app u,Lc H.C (p.G<|iM O) C U U U U hrk⟩
 .have:=p.N.Lb (ip:=ip) (sg:=σ.c) (T:=T) H.C C;exact⟨this.M,this.Y,this.I,this.C,this.r⟩
 .have L:=q7;have e:(AZ σ ip k G).S.md=σ.S.md:=by rw[M];exact x.1
  exact⟨L.gX,L.o,L.lO,λa l b c=>L.e a l (by rwa[<-e]) c,λa b=>by have:=L.f a b;rwa[<-e]at this,L.h,L.l,L.S,L.M,L.c,λl b=>L.I l (by rwa[<-e]),λl b=>L.N l (by rwa[<-e]),λl a b=>L.g l a (by rwa[<-e]),L.d⟩
 .have e:(AZ σ ip k G).S.md=σ.S.md:=by rw[M];exact x.1
  exact⟨m.C,m.I,m.jL,λl b=>m.M l (by show l<=σ.S.md;rwa[<-e]),λl a b=>m.S l a (by show l<=σ.S.md;rwa[<-e]),m.N⟩
 .have e:(AZ σ ip k G).S.rl=σ.S.rl:=by rw[Qr];exact x.2
  rwa[e]
 .refine p.c.qR (σ':=AZ σ ip k G) q3 (by rcases lQ with q|q<;>rw[q]<;>simp) q4 (λi a=>D.C p.C K a) U U (λ_ _=>rfl) (λ_=>rfl) (λ_ _=>rfl) (λ_ _ h=>À h) λi r _ b a=> ?_;show(fA σ.a k G _).sm=0\/_;by_cases q:F.r (i+r*F.n)=k
  .rw[q]at a|-;rw[gD];exact AN i r b q a
  .rw[fL _ _ q];exact À a
def PI.EE(p:PI F j zX σ S o B v E w qJ){d:jK}{f:jB}{G:GS}(x:0<σ.r)(y:σ.N 0=Í)(i:σ.S=.dn k d)(t:f=.kJ k\/∃l,f=.dn k l)(m:f.od=k)(C:(∃W,(f=.dn k (.gG W)\/f=.dn k (.jf W))/\G=.jI W/\W=Ñ F.n λe=>(σ.C e).gE F e k)\/(∃r s,f=.dn k (.iC r)/\0<r/\G=.gR r s/\r+s=Ñ F.n λe=>(σ.C e).gE F e k)\/((∀p,f≠ .dn k p)/\((G=.cl 0 0/\(Ñ F.n λe=>(σ.C e).gE F e k)=0)\/∃s,G=.gR 0 s/\s=Ñ F.n λe=>(σ.C e).gE F e k))) (D:(∃a b,σ.a k=.gR a b)->∃a b,G=.gR a b) (H:G≠ .cl 1 0):Ps F (AZ σ f k G):=by
 let⟨I,u⟩:=(p.C.I k).2.2 _ i;have J:k-1<=σ.S.od/\σ.S.od<=k:=by rw[i];cases d<;>simp only[jB.od]<;>omega
 have:=p.C.Ld (sg:=σ.c) (pk:=σ.e) y x (λg=> ?_) (λg a b c=> ?_) (λg a b=> ?_) (by rw[m];exact J.2) D (λq=>absurd q H) p.C.v
 .exact this
 .rcases t with rfl|⟨l,rfl⟩
  .exact⟨λq=>(by cases q;exact u),λq=>(by cases q),λp q=>by cases q⟩
  .exact⟨λq=>(by cases q),λq=>(by cases q),λp q=>by cases q;exact⟨I,u⟩⟩
 .rw[m]at c;rw[fL _ _ Z];exact p.C.e g a b Z
 .by_cases q:g=k
  .subst q;rwa[gD]
  .rw[fL _ _ q];rw[m]at b;refine Á<|Á ⟨λc h=> ?_,?_⟩
   .rcases t with rfl|⟨l,rfl⟩<;>cases h;exact q U
   .rcases p.C.Y g a Z with⟨W,z,_⟩|⟨r,s,z,_⟩|z
    .rw[i]at z;rcases z with z|z<;>(injection z with z _;exact absurd z.symm q)
    .rw[i]at z;injection z with z _;exact absurd z.symm q
    .exact z.2
def PI.ag5(H:gU F)(p:PI F j zX σ S o B v E w qJ)(i:0<σ.r)(m:σ.N 0=Í)(s:E[F.L]?=Ä g)(jd:g.status=Å)(ht:o F.L=.fF)(d:σ.S=.dn k .iF):j1 F j zX σ o E w qJ I F.L:=by
 have N:=iM s;have C:=p.I.r;have hJ:=p.AX i m s jd ht w<|C.r _ N;rw[d]at hJ;obtain⟨k1,Y⟩:=(p.C.I k).2.2 _ d;have O:=AW H.C;have y:F.M (F.I k):=Á ⟨k,Y,U⟩;obtain⟨hd,_,um⟩:=hJ;have hc:=p.C.e k k1 Y (by rw[d];simp only[jB.od];omega);obtain⟨W,hW⟩:∃W,(Ñ F.n λa=>(σ.C a).gE F a k)=W:=⟨_,U⟩;rw[hW]at hc;have Q:=hc▸p.M.I k Y;obtain⟨ev,z⟩:=Q.jN;have key:=um (GS.cl (0+1) W).st;rw[ev]at key z;obtain⟨c,t⟩:∃c,(GS.jN<|.cl (0+1) W).st=c:=⟨_,U⟩;rw[t]at key;obtain⟨g',h1,V⟩:=key;have G:=h1 w Q.C Q.I;rw[<-t]at G;obtain⟨k1',k2,k3⟩:=Q.r;have r:kC (F.I k) w (w.setCell (fM<|F.I k)<|ê Ô (GS.jN<|.cl (0+1) W).st):=Á ⟨_,_,À U,U⟩;have D:=r.r p.a H.C y;have X:fK {v F.L with w:=w} w (w.setCell (fM<|F.I k)<|ê Ô (GS.jN<|.cl (0+1) W).st):=⟨Ö D.r.symm,λb kL=>D.jV b<|C.I _ N b kL,λa ha=>D.M _ N a ha,λa ha=>D.N _ N a ha,λa _=>D.I a⟩;have XX:¬∃a b,σ.a k=.gR a b:=λ⟨a,b,q⟩=>by rw[hc]at q;cases q
 by_cases hl:0<W
 .have ed:GS.jN (.cl (0+1) W)=.jI W:=by simp only[GS.jN];rw[if_pos ⟨trivial,hl⟩]
  rw[ed]at G z r D X t;have K:fp F.P É (KS F.P É (F.I k) (fp F.P É<|F.h k) W) {v F.L with w:=w} g':=by
   have e0:c=(W:Int):=t.symm;have e:¬(c=0\/(gd<=c/\c<1000000*gd/\c%gd<1000000)):=by simp only[gd];omega
   have h:0<c/\c<1000000:=Z
   have l:c.toNat=W:=Z
   simp only[if_neg e,if_pos h,l]at V;exact V
  obtain⟨T,hT⟩:=jq<|K.jP X;have M:=lD (λl g h=>À h.2.1) K;obtain⟨f,u,q1,q2,q3,q4,q5,q6,q7⟩:=p.Y (J:=JI F σ.c<|.dn k (.gG W)) H .no s (EB i) y (by rwa[O]) r (AH y) U (λx hs e=>(EC m x hs e).elim) (by rwa[O]) M;refine p.ED H i m d ft s r z q1 q2 q3 M q4 q5 q6 q7 ⟨U,U⟩ (p.EE i m d (Á ⟨_,U⟩) U (À ⟨W,À U,U,hW.symm⟩) (λq=>absurd q XX) ft) ?_ λ_ _ _ _ _=>À U;rw[d];simp only[jB.rk,jK.rk];omega
 .have Qm:W=0:=Z
  subst Qm;have ed:GS.jN (.cl (0+1) 0)=.cl 0 0:=U;rw[ed]at G z r D X t;have K:fp F.P É (F.h k) {v F.L with w:=w} g':=by have e0:=t.symm;simp only[e0,true_or,if_true]at V;exact V
  obtain⟨T,hT⟩:=jq<|K.jP X;have M:=lD (λl g h=>À<|H.N _ _ _ h) K;obtain⟨f,u,q1,q2,q3,q4,q5,q6,q7⟩:=p.Y (J:=JI F σ.c<|.kJ k) H .no s (EB i) y (by rwa[O]) r (AH y) U (λx hs e=>(EC m x hs e).elim) (by rwa[O]) M;refine p.ED H i m d ft s r z q1 q2 q3 M q4 q5 q6 q7 ⟨U,U⟩ (p.EE i m d (À U) U (Á<|Á ⟨λp q=>(by cases q),À ⟨rfl,hW⟩⟩) (λq=>absurd q XX) ft) ?_ λ_ _ _ _ _=>À rfl;rw[d];simp only[jB.rk,jK.rk];omega
def PI.XY(p:PI F j zX σ S o B v E w qJ)(b:σ.S=.dn k (.gG i)\/σ.S=.dn k (.jf i)):σ.a k=.jI i/\i=Ñ F.n λa=>(σ.C a).gE F a k:=by
 have c:k<=F.m:=by rcases b with b|b<;>exact((p.C.I k).2.2 _ b).2
 rcases p.C.Y k c (by rcases b with b|b<;>(rw[b];exact Ç _))with⟨d,z,e,f⟩|⟨r,s,z,_⟩|⟨z,_⟩
 .have:d=i:=by rcases b with b|b<;>(rw[b]at z;rcases z with z|z<;>cases z<;>rfl)
  subst this;exact⟨e,f⟩
 .rcases b with b|b<;>(rw[b]at z;cases z)
 .rcases b with b|b<;>exact absurd b<|z _
def PI.ag6(H:gU F)(p:PI F j zX σ S o B v E w qJ)(d:0<σ.r)(m:σ.N 0=Í)(n:E[F.L]?=Ä g)(M:g.status=Å)(N:o F.L=.fF)(c:σ.S=.dn k (.gG i)):j1 F j zX σ o E w qJ I F.L:=by have O:=iM n;have C:=p.I.r;have s:=p.AX d m n M N w<|C.r _ O;rw[c]at s;let⟨k1,t⟩:=(p.C.I k).2.2 _ c;have y:=AW H.C;have z:F.M (F.I k):=Á ⟨k,t,U⟩;let⟨hd,_,P⟩:=s;let⟨D,Q⟩:=p.XY<|À c;have G:=D▸p.M.I k t;let⟨g',V,r⟩:=P (i:Int);simp only[if_true]at r;let⟨T,X⟩:=jq r;have K:=lD (λl g h=>À h.2.1) r;obtain⟨f,u,h,l,Y,q4,q5,q6,q7⟩:=p.Y (J:=JI F σ.c<|.dn k (.jf i)) H .no n (EB d) z (by rw[y];exact V w G.C) (À U) (yB z) U (λx a e=>(EC m x a e).elim) (by rwa[y]) K;refine p.ED H d m c ft n (À U) G h l Y K q4 q5 q6 q7 ⟨U,U⟩ (p.EE d m c (Á ⟨_,U⟩) U (À ⟨i,Á U,U,Q⟩) (λ⟨a,b,q⟩=>by rw[D]at q;cases q) ft) ?_ λ_ _ _ _ _=>À rfl;rw[c];simp only[jB.rk,jK.rk];omega
def PI.ag7(H:gU F)(p:PI F j zX σ S o B v E w qJ)(d:0<σ.r)(m:σ.N 0=Í)(n:E[F.L]?=Ä g)(M:g.status=Å)(N:o F.L=.fF)(c:σ.S=.dn k (.jf i)):j1 F j zX σ o E w qJ I F.L:=by
 have q:=iM n;have C:=p.I.r;have y:=p.AX d m n M N w<|C.r _ q;rw[c]at y;let⟨k1,z⟩:=(p.C.I k).2.2 _ c;have G:=AW H.C;have s:F.M (F.I k):=Á ⟨k,z,U⟩;let⟨hd,_,g',O,K⟩:=y;let⟨P,Q⟩:=p.XY<|Á c;have r:=P▸p.M.I k z;have V:=r.r.1;have t:kC (F.I k) w (w.setCell (fM<|F.I k)<|ê Ô 0):=Á ⟨_,_,À U,U⟩;have D:=t.r p.a H.C s;let⟨T,X⟩:=jq (K.jP ⟨Ö D.r.symm,λb h=>D.jV b<|C.I _ q b h,λa e=>D.M _ q a e,λa e=>D.N _ q a e,λa _=>D.I a⟩);have a:=lD (λl g h=>by
  cases i with
  |zero=>omega
  |succ i=>exact À h.2.1) K
 obtain⟨f,u,h,b,l,Y,q5,q6,q7⟩:=p.Y (J:=JI F σ.c<|.dn k (.iC i)) H .no n (EB d) s (by rw[G];exact O w _ r.C r.I) t (Xx s) U (λx hs e=>(EC m x hs e).elim) (by rwa[G]) a;refine p.ED H d m c ft n t r.Xm h b l a Y q5 q6 q7 ⟨U,U⟩ (p.EE d m c (Á ⟨_,U⟩) U (Á<|À ⟨i,0,U,V,U,by rwa[ö]⟩) (λ_=>⟨i,0,U⟩) ft) ?_ λ_ _ _ _ _=>À U;rw[c];simp only[jB.rk,jK.rk];omega
def PI.ag8(H:gU F)(p:PI F j zX σ S o B v E w qJ)(l:0<σ.r)(t:σ.N 0=Í)(G:E[F.L]?=Ä g)(jd:g.status=Å)(ht:o F.L=.fF)(d:σ.S=.dn k (.iC j9)):j1 F j zX σ o E w qJ I F.L:=by
 have V:=iM G;have C:=p.I.r;have hJ:=p.AX l t G jd ht w<|C.r _ V;rw[d]at hJ;obtain⟨k1,X⟩:=(p.C.I k).2.2 _ d;have W:=AW H.C;have N:F.M (F.I k):=Á ⟨k,X,U⟩;obtain⟨s,hr0,hc,sX⟩:∃s,0<j9/\σ.a k=.gR j9 s/\j9+s=Ñ F.n λc=>(σ.C c).gE F c k:=by
  rcases p.C.Y k X (by rw[d];exact Ç _)with⟨W',z,z1,z2⟩|⟨K,s,z,z1,z2,z3⟩|⟨z,_⟩
  .rw[d]at z;rcases z with z|z<;>cases z
  .rw[d]at z;injection z with _ z;injection z with z;subst z;exact⟨s,z1,z2,z3⟩
  .exact absurd d<|z _
 obtain⟨j9,rfl⟩:∃K,j9=K+1:=⟨j9-1,Z⟩;obtain⟨hd,_,Qo,g',O,h1,h2⟩:=hJ;have M:=hc▸p.M.I k X;have Q:kC (F.I k) w (w.setCell (gQ<|F.I k)<|ê â<|â.wrap<|(GS.gR (j9+1) s).sm+1):=Á ⟨_,_,Á U,U⟩;have D:=Q.r p.a H.C N;have qf:fK {v F.L with w:=w} w (w.setCell (gQ<|F.I k)<|ê â<|â.wrap<|(GS.gR (j9+1) s).sm+1):=⟨Ö D.r.symm,λb kL=>D.jV b<|C.I _ V b kL,λa Y=>D.M _ V a Y,λa Y=>D.N _ V a Y,λa _=>D.I a⟩;have wake:∀f:Array Æ,(∀k,k≠F.L->f[k]?=E[k]?.map (Ą F.P g g'<|w.setCell (gQ<|F.I k)<|ê â<|â.wrap<|(GS.gR (j9+1) s).sm+1))\/(∀m,m≠F.L->f[m]?=E[m]?.map (Ą F.P g g'<|w.setCell (gQ<|F.I k)<|ê â<|â.wrap<|(GS.gR (j9+1) s).sm+1))->∀c K,σ.C c=.fC K .kz->F.r (c+K*F.n)=k->(σ.a k).sm=0->(GS.gR j9<|s+1).sm=0\/∀y,f[F.L+1+c]?=Ä y->y.status≠Þ:=by
  intro f h c K hj _ _;refine Á λy hy=> ?_;by_cases XZ:c+2<=σ.r
  .by_cases Lf:σ.N (c+1)=Í
   .obtain⟨_,hk⟩:=p.g c XZ Lf;rw[hj]at hk;rcases h with h|h<;>
    .rw[h _ Z]at hy;obtain⟨z,Hz,rfl⟩:=Ú.1 hy;exact XQ p Qo O Hz hk
   .obtain⟨_,r0,q,_⟩:=p.C.l c XZ Lf;rw[hj]at q;cases q
  .have:=p.C.z c Z;rw[hj]at this;cases this
 cases j9 with
 |zero=>
  have h3:=h2;obtain⟨T,hT⟩:=jq<|h3.jP qf;obtain⟨f,u,q1,q2,q3,h,q5,q6,q7⟩:=p.Y (J:=JI F σ.c<|.kJ k) H .no G (EB l) N (by rw[W];exact h1 w _ M.M M.N) Q (Hh N) (Hi _).2.2.2 (λx hs e=>(EC t x hs e).elim) (by rwa[W])<|À O;refine p.ED H l t d ft G Q M.jH q1 q2 q3 (À O) h q5 q6 q7 ⟨U,U⟩ (p.EE l t d (À U) U (Á<|Á ⟨λp q=>(by cases q),Á ⟨s+1,rfl,Z⟩⟩) (λ_=>⟨0,s+1,rfl⟩) ft) ?_<|wake f<|Á h;rw[d];simp only[jB.rk,jK.rk];omega
 |succ j9=>
  have h3:=h2;obtain⟨T,hT⟩:=jq<|h3.jP qf;obtain⟨f,u,q1,q2,q3,h,q5,q6,q7⟩:=p.Y (J:=JI F σ.c<|.dn k (.iC (j9+1))) H .no G (EB l) N (by rw[W];exact h1 w _ M.M M.N) Q (Hh N) (Hi _).2.2.2 (λx hs e=>(EC t x hs e).elim) (by rwa[W])<|À O;refine p.ED H l t d ft G Q M.jH q1 q2 q3 (À O) h q5 q6 q7 ⟨U,U⟩ (p.EE l t d (Á ⟨_,U⟩) U (Á<|À ⟨j9+1,s+1,U,Z,U,Z⟩) (λ_=>⟨j9+1,s+1,U⟩) ft) ?_<|wake f<|Á h;rw[d];simp only[jB.rk,jK.rk];have:Ñ F.n (λc=>(σ.C c).gE F c k)<=F.n:=Hk λi=>by cases σ.C i<;>simp only[gO.gE]<;>first|omega|(split<;>first|omega|(rename_i q _;cases q<;>simp[jr.rL]))
  omega
def PI.ag9(H:gU F)(p:PI F j zX σ S o B v E w qJ){N:Nat}(z:i<σ.r)(a:σ.N i=Ä (.jh N))(C:E[F.L+i]?=Ä g)(O:g.status=Å):j1 F j zX σ o E w qJ I (F.L+i):=by
 let⟨P,d,s⟩:=p.k i _ z a;have s:=s ⟨N,U⟩;have hL:=H.C.r;obtain⟨f,Q,t,hn,T,m,V,D,G⟩:=p.I.Px C Z O d s P;have J:=iM C;have W:ij.lT (.jh t)↔σ.lT i:=⟨λ_=>⟨_,a,trivial⟩,λ_=>trivial⟩;have X:ij.ie (.jh t)↔σ.ie i:=⟨λ_=>⟨_,a,trivial⟩,λ_=>trivial⟩;have K:∀c∈Ý (F.L+i) g.frame.fn g.frame.place Q,c.act.touch?=Í/\∀b,F.M b->c.act≠Ğ (.release<|fM b):=λc l=>by obtain⟨e,h,rfl⟩:=Ø l;refine⟨Ζ<|D e h,λb _ q=> ?_⟩;have:=D e h;let⟨k,y,n⟩:=e;cases k<;>simp_all[Event.mute,Ë]
 obtain⟨n,u⟩:∃n,f[F.L+i]?=Ä n:=⟨f[F.L+i]'(by rwa[m]),Ü _⟩;have M:n.status≠Þ:=by
  let⟨g0,y,h,k,r⟩:=G.C _ n u;rw[d]at h;cases h with
  |gp=>rcases k with q|q<;>rw[q]<;>simp
 have Y:fA o (F.L+i) .fF=o:=by funext q;unfold fA;split<;>simp[*]
 have e2:fA B (F.L+i) .no=B:=by funext q;unfold fA;split<;>simp[*]
 refine⟨fD.gV σ i<|.jh t,_,_,_,_,f,w,_,T,m,λh=>h,.r (p.N.G H.C λ_=>rfl) (m.trans p.b) (by rwa[Y,e2]) (by rw[m];exact(p.a.C<|Ç _).gV W) p.M.gV (p.C.gV z (by rw[a];rfl) (λk h=>by rw[a]at h;cases h) (λk h=>by cases h) (λq h=>p.C.l q Z<|by rw[<-h,a];simp) λh=>p.C.f<|by rw[<-h,a];simp) ((p.d.C<|yx (λc l=>(K c l).1) λc l=>(K c l).2).G X) (Qi (p.c.G5 u M V λ_ _=>rfl) λk y d hb e=> ?_) λq r k y a3=>(p.f q r k y a3).app _,Ez H.C (p.G J)<|Á ?_⟩
 .subst e;rw[u]at d;obtain rfl:=Ã d;exact M hb
 .unfold rO;rw[a];simp only[ij.rk];exact⟨trivial,Z⟩
def PI.aha(H:gU F)(p:PI F j zX σ S o B v E w qJ)(N:0<i)(u:i<F.L)(x:E[i]?=Ä g)(O:g.status=Å):j1 F j zX σ o E w qJ I i:=by
 let⟨Q,z,l⟩:=p.l i N u;obtain⟨f,C,n,X,T,s,V,D,G⟩:=p.I.Px x Z O l z Q;have J:=iM x;have K:∀c∈Ý i g.frame.fn g.frame.place C,c.act.touch?=Í/\∀b,F.M b->c.act≠Ğ (.release<|fM b):=λc m=>by obtain⟨e,a,rfl⟩:=Ø m;refine⟨Ζ<|D e a,λb _ q=> ?_⟩;have:=D e a;let⟨h,k,y⟩:=e;cases h<;>simp_all[Event.mute,Ë]
 obtain⟨t,M⟩:∃t,f[i]?=Ä t:=⟨f[i]'(by rwa[s]),Ü _⟩;have W:t.status≠Þ:=by
  let⟨g0,k,a,h,y⟩:=G.C _ t M;rw[l]at a;cases a with
  |gp=>rcases h with q|q<;>rw[q]<;>simp
 refine⟨{σ with h:=fA σ.h i n},_,_,_,_,f,w,_,T,s,λh=>h,.r ?_ (s.trans p.b) G ?_ ⟨p.M.C,p.M.I,p.M.jL,p.M.M,p.M.S,p.M.N⟩ ?_ (p.d.C<|yx (λc m=>(K c m).1) λc m=>(K c m).2) (Qp (p.c.G5 M W V λ_ _=>rfl) U U U U U U U) λq r a k y=>(p.f q r a k y).app _,Hf (p.G J) ?_ λk l=> ?_⟩
 .have h:=p.N;refine⟨by rw[fL S _ Z];exact h.M,λa b=>by rw[fL S _ Z];exact h.Y a b,λq a b=>by rw[fL S _ Z];exact h.I q a b,λy e a b=>by rw[fL S _ Z];exact h.C y e a b,λq a b=> ?_⟩;by_cases e:q=i
  .subst e;rw[gD];exact⟨by show _=oS F.P (fA σ.h q n q);rw[gD],z,l⟩
  .rw[fL S _ e];refine⟨?_,(h.r q a b).2⟩;show _=oS F.P (fA σ.h i n q);rw[fL _ _ e];exact(h.r q a b).1
 .rw[s];have L:=p.a.C (i:=i) (d:=Î (v i).d C) (w0:=w)<|Ç _;exact⟨L.gX,L.o,L.lO,L.e,L.f,L.h,L.l,L.S,L.M,L.c,L.I,L.N,L.g,L.d⟩
 .have h:=p.C;exact⟨h.v,h.C,h.E,h.K,h.J,h.I,h.z,h.d,h.l,h.f,h.h,h.M,h.o,h.t,h.g,h.u,h.N,h.B,h.e,h.Y,h.w,h.H,h.L,h.S,h.y,h.D⟩
 .unfold fV.iU;rw[if_neg Z,if_pos u,if_neg Z,if_pos u];refine Á ⟨U,À ?_⟩;show fA σ.h i n i<σ.h i;rw[gD];omega
 .exact yz (λ_=>rfl) (λ_ _=>fL _ _ l) (λ_=>rfl) (λ_ _=>rfl) (λ_ _=>rfl) U
end
section
variable{F:Ph}{σ I:fV F}{S:Nat->Jd}{d J:Nat->gy}{m:Nat->iB}{f:Nat->fh}{o:Array Æ}{u:é}{D:Option (Nat×Nat)}
def iA(σ:fV F)(x:fX)(G:GS)(dk:Nat->Nat):fV F:={σ with M:=x,b:=G,I:=dk}
structure iY(σ:fV F)(x:fX)(C:Nat->Nat):Prop where
 r:x.sp F.n=σ.r
 C:∀j,j+2<=σ.r->C j=σ.I j
def A0{x:fX}{G:GS}{d:Nat->Nat}(a:iY σ x d):(iA σ x G d).Y=σ.Y:=by have e:(iA σ x G d).r=σ.r:=a.r;funext b;unfold fV.Y;rw[e];refine propext<|or_congr Iff.rfl<|or_congr Iff.rfl ⟨λ⟨j,c,f⟩=>⟨j,c,f.trans<|a.C j c⟩,λ⟨j,c,f⟩=>⟨j,c,f.trans (a.C j c).symm⟩⟩
def iI.G(L:iI F σ f i w){x:fX}{G:GS}{d:Nat->Nat}(a:iY σ x d):iI F (iA σ x G d) f i w:=by have e:(fD.iA σ x G d).r=σ.r:=a.r;exact⟨L.gX,λy g=>L.o y Z,λh=>L.lO Z,λh=>L.e Z,λh=>L.f Z,λj h=>L.h j Z,λj h=>L.l j Z,L.S,λc l=>L.M c (l.imp id λ⟨y,g,b⟩=>⟨y,Z,b⟩),L.c,λk m b n=>by rw[A0 a];exact L.I k m b n,L.N,L.g,λj h=>L.d j Z⟩
def Wd.r{G:GS}(W:Wd F {σ with b:=G,a:=σ.a} w){x:fX}{dk:Nat->Nat}(a:iY σ x dk)(c:x.mD F.q=σ.M.mD F.q)(d:x.jj F.n=σ.M.jj F.n):Wd F (iA σ x G dk) w:=by
 have e:(fD.iA σ x G dk).r=σ.r:=a.r;refine⟨W.C,W.I,λj f=> ?_,W.M,W.S,λj f=>W.N j<|show j+2<=σ.r by omega⟩;have b:j+2<=σ.r:=Z
 have:=W.jL j b;show∃g s,w.heap[dk j]?=Ä (.chan F.q g (decide<|j<x.jj F.n) s (σ.C j).iO É)/\ua F.n j (x.mD F.q) s/\_;rw[a.C j b,c,d];exact this
def Qs{x:fX}{G:GS}{dk:Nat->Nat}(h:x.ad F.n=σ.M.ad F.n):(iA σ x G dk).G=σ.G:=by
 funext y;show(if y<x.ad F.n then _ else _)=if y<σ.M.ad F.n then _ else _
 rw[h];rfl
def Ps.iA(h:Ps F σ){x:fX}{G:GS}{dk:Nat->Nat}(d:iY σ x dk)(o:σ.M.jj F.n<=x.jj F.n)(t:∀j,x=.go j\/x=.lC j\/x=.rd j\/x=.iF j->j<=F.n)(u:∀j,x=.lC j\/x=.rd j\/x=.iF j->1<=j)(v:∀r,(x=.iL r->r<=F.q)/\(x=.kV r->r<=F.n)) (w:∀c f,G=.cl c f->c=Ñ (F.n+1) (fD.iA σ x G dk).G/\f=x.gE) (z:∀f,G=.jI f->Ñ (F.n+1) (fD.iA σ x G dk).G=0/\f=x.gE/\∃y,y<σ.r/\σ.g=Ä y/\(σ.N y=Ä (.gi (.gG f))\/σ.N y=Ä (.gi (.jf f)))) (B:∀r s,G=.gR r s->Ñ (F.n+1) (fD.iA σ x G dk).G=0/\r+s=x.gE/\(0<r->∃y,y<σ.r/\σ.g=Ä y/\σ.N y=Ä (.gi (.iC r)))) (C:∀y p,σ.N y=Ä (.gi p)->(∀W,p=.gG W\/p=.jf W->σ.g=Ä y/\G=.jI W)/\(∀r,p=.iC r->0<r/\σ.g=Ä y/\∃s,G=.gR r s)) (D:x=.fC .gG\/x=.fC .lb\/x=.gi->Ñ (F.n+1) (fD.iA σ x G dk).G=0) (E:x=.fC .gG->∃a b,G=.gR a b) (H:(∀p,x≠ .fC p)->x≠ .gi->∃c,G=.cl c 0):Ps F (fD.iA σ x G dk):=by
 have e:(fD.iA σ x G dk).r=σ.r:=d.r;refine⟨h.v,t,u,v,λq=>h.J Z,h.I,λj q=>h.z j Z,λj r q=>h.d j r Z,λj q I=> ?_,h.f,λy q=>h.h y Z,λj g M N J=> ?_,λj q=> ?_,w,λf i=> ?_,λr s i=> ?_,C,D,h.e,h.Y,λj r q=>h.w j r Z,λj r q=>h.H j r Z,E,H,h.y,λj r q=>h.D j r Z⟩
 .let⟨a,b⟩:=h.l j Z I;exact⟨Ê a o,b⟩
 .have k:dk j=dk g:=J;rw[d.C j Z,d.C g Z]at k;exact h.M j g Z Z k
 .show¬F.M (dk j)/\dk j≠F.Y/\F.S<=dk j;rw[d.C j Z];exact h.o j Z
 .let⟨k,l,y,m,K⟩:=z f i;exact⟨k,l,y,Z,K⟩
 .let⟨k,l,m⟩:=B r s i;refine⟨k,l,λK=> ?_⟩;let⟨y,O,L⟩:=m K;exact⟨y,Z,L⟩
def Ps.r(h:Ps F σ){x:fX}{dk:Nat->Nat}(d:iY σ x dk)(g:σ.M.jj F.n<=x.jj F.n)(i:x.ad F.n=σ.M.ad F.n)(f:x.gE=σ.M.gE)(k:∀j,x=.go j\/x=.lC j\/x=.rd j\/x=.iF j->j<=F.n)(l:∀j,x=.lC j\/x=.rd j\/x=.iF j->1<=j)(m:∀r,(x=.iL r->r<=F.q)/\(x=.kV r->r<=F.n)) (o:x=.fC .gG\/x=.fC .lb\/x=.gi->Ñ (F.n+1) σ.G=0) (s:x=.fC .gG->∃a b,σ.b=.gR a b) (t:(∀p,x≠ .fC p)->x≠ .gi->∃c,σ.b=.cl c 0):Ps F (fD.iA σ x σ.b dk):=by
 have e:=Qs (σ:=σ) (G:=σ.b) (dk:=dk) i;refine h.iA d g k l m ?_ ?_ ?_ h.N ?_ s t
 .rw[e,f];exact h.t
 .rw[e,f];exact h.g
 .rw[e,f];exact h.u
 .rwa[e]
def qU.iA(h:qU F σ S d m)(ok:F.Ok){x:fX}{G:GS}{dk:Nat->Nat}{T:gy}(a:iY σ x dk):qU F (fD.iA σ x G dk) (fA S 0<|JM F dk x) (fA d 0 T) (fA m 0<|kM x):=by have:=ok.r;have e:(fD.iA σ x G dk).r=σ.r:=a.r;refine⟨by rw[gD,gD];exact⟨U,U⟩,λc b=>by rw[fL S _ Z,fL m _ Z];exact h.Y Z b,λj c b=> ?_,λy f c b=>by rw[fL S _ Z,fL m _ Z,fL d _ Z];exact h.C y f Z b,λi c b=>by rw[fL S _ Z,fL m _ Z,fL d _ Z];exact h.r i c b⟩;rw[fL S _ Z,fL m _ Z];show _=JW F (dk j) j (σ.C j)/\_=kW F (dk j) (σ.C j);rw[a.C j Z];exact h.I j Z b
def rQ{x:fX}{G:GS}{dk:Nat->Nat}{T:gy}(h:x.rk F<σ.M.rk F):pE F.N ((iA σ x G dk).mu (fA d 0 T) o) (σ.mu d E):=by refine Hf (by unfold Ph.N;omega) (À ?_) λk a=>yz (λh=>absurd h a) (λ_ _=>rfl) (λ_=>rfl) (λ_ _=>rfl) (λ_ _=>rfl)<|fL d _ a;rwa[Ep,Ep]
def X0:σ.lu 0=match σ.M with|.fC p=>p.lu F.B σ.b.st|_=>0:=by unfold fV.lu;rw[if_pos U]<;>cases σ.M<;>rfl
def ahb{p a:SP}(b:σ.M=.fC (.lX p))(f:d 0=.fF)(h:a.rk F.B σ.b.st<p.rk F.B σ.b.st):pE F.N ((iA σ (.fC (.lX a)) σ.b σ.I).mu (fA d 0 .fF) o) (σ.mu d E):=by
 refine Xy (i:=0) (λk _=> ?_) (by unfold Ph.N;omega) ?_ λk c=> ?_
 .by_cases e:k=0
  .subst e;rw[Ep,Ep,gD,b,f];rfl
  .exact yz (λh=>absurd h e) (λ_ _=>rfl) (λ_=>rfl) (λ_ _=>rfl) (λ_ _=>rfl)<|fL d _ e
 .rwa[X0,X0,b]
 .unfold fV.lu;rw[if_neg c,if_neg c];rfl
def PI.sZ(p:PI F b zX σ S d m f E w qJ)(c:E[0]?=Ä g)(e:g.status=Å)(h:d 0=.fF):∀a,fK (f 0) (f 0).w a->JM F σ.I σ.M {f 0 with w:=a} g:=by
 let⟨i,j⟩:=p.h;have k:m 0=.no\/m 0=.iC:=by
  rw[j];cases σ.M with
  |fC v=>cases v<;>first|exact À U|exact Á U
  |_=>exact À U
 intro a r;have:=p.I.N c e h k a r;rwa[i]at this
def yN(ok:F.Ok):∀x,σ.ie x->0=F.L+x->False:=λx _ e=>by have:=ok.r;omega
def PI.yO(H:gU F)(p:PI F b zX σ S d m f E w qJ){x:fX}{G:GS}{dk:Nat->Nat}{c:Æ}{T:gy}(a:iY σ x dk)(I:Ŝ F.P (ò E w D) 0=(Ģ<|ò o W D,u))(t:o.size=E.size)(J:o[0]?=Ä c)(K:c.status=Å\/c.status=æ)(L:∀k,k≠0->o[k]?=E[k]?.map (Ą F.P g c W))(M:∀j,j+2<=σ.r->W.heap[σ.I j]?=w.heap[σ.I j]?) (O:gN F.P F.S σ.Y (fA S 0<|JM F dk x) (fA d 0 T) (fA m 0<|kM x) (gw f 0 {f 0 with w:=W}) o W (qJ++u)) (Q:TI F.toFx b zX σ.r σ.S.rl σ.V σ.e σ.d σ.ie σ.f (qJ++u)) (X:iI F σ (gw f 0 {f 0 with w:=W}) o.size W) (hW:Wd F (iA σ x G dk) W) (hP:Ps F (iA σ x G dk)) (ui:pE F.N ((iA σ x G dk).mu (fA d 0 T) o) (σ.mu d E)) (hxf:x=.gi->σ.M=.gi):j1 F b zX σ d E w qJ D 0:=by
 have e:(iA σ x G dk).r=σ.r:=a.r;refine⟨iA σ x G dk,_,_,_,_,o,W,u,I,t,hxf,.r (p.N.iA H.C a) (by rw[e];exact t.trans p.b) (by rwa[A0 a]) (X.G a) hW hP (by rwa[e]) ?_ λq i n h l=>(p.f q i Z h l).app u,ui⟩;intro k y h l;by_cases n:k=0
 .subst n;rw[J]at h;obtain rfl:=Ã h;rcases K with q|q<;>rw[q]at l<;>cases l
 .rw[L k n]at h;obtain⟨z,hz,rfl⟩:=Ú.1 h;let⟨_,hzb⟩:=He l;rcases p.c k z hz hzb with⟨h1,_⟩|⟨j,v,B,C,q|⟨r,cap,s,i,q,h4⟩⟩
  .exact absurd h1 n
  .exact Á ⟨j,Z,B,C,À q⟩
  .refine Á ⟨j,Z,B,C,Á ⟨r,cap,s,i,q,?_⟩⟩;show W.heap[dk j]?=_;rwa[a.C j v,M j v]
def PI.Lg(H:gU F)(p:PI F b zX σ S d m f E w qJ){x:fX}{h:Nat->Nat}{T:gy}(c:iY σ x h)(o:E[0]?=Ä g)(B:g.status=Å)(hF:k9 F.P Ï (JM F h x) T {f 0 with w:=w} g)(t:x.mD F.q=σ.M.mD F.q)(l:x.jj F.n=σ.M.jj F.n)(I:Ps F (iA σ x σ.b h))(J:pE F.N ((iA σ x σ.b h).mu (fA d 0 T) E) (σ.mu d E))(L:x=.gi->σ.M=.gi):rM F b zX σ d E w qJ:=by
 have u:=iM o;have C:=p.I.r;have e:(iA σ x σ.b h).r=σ.r:=c.r;have M:iT F.S (λi=>i<E.size) σ.Y (gw f 0 {f 0 with w:=w}) w qJ:=C.C u (λ_ q=>q) (λa q=>À<|Á q) (λ_ q=>q) (λa q=>À<|Á q) U U U (C.m _ u)<|C.g _ u;have O:=p.I.M (K:=kM x) o (À B) M hF;refine⟨iA σ x σ.b h,_,_,_,_,L,.r (p.N.iA H.C c) (by rw[e];exact p.b) (by rwa[A0 c]) ((p.a.C<|Ç _).G c) (Wd.r p.M c t l) I (by rw[e];exact p.d) (λk y a i=> ?_) λj v D s z=>p.f j v Z s z,J⟩;by_cases D:k=0
 .subst D;rw[o]at a;obtain rfl:=Ã a;rw[B]at i;cases i
 .rcases p.c k y a i with⟨t,_⟩|⟨j,Q,G,l,z|⟨r,V,s,v,z,W⟩⟩
  .exact absurd t D
  .exact Á ⟨j,Z,G,l,À z⟩
  .refine Á ⟨j,Z,G,l,Á ⟨r,V,s,v,z,?_⟩⟩;show w.heap[h j]?=_;rwa[c.C j Q]
def mQ{x:fX}(h:x.sp F.n=σ.M.sp F.n):iY σ x σ.I:=⟨h,λ_ _=>rfl⟩
def nD:F.M F.C:=À U
def PI.ahc(H:gU F)(p:PI F b zX σ S d m f E w qJ)(k:E[0]?=Ä g)(l:g.status=Å)(o:d 0=.fF)(e:σ.M=.lC j):rM F b zX σ d E w qJ:=by
 have s:=iM k;have i:=p.sZ k l o w<|p.I.r.r _ s;rw[e]at i;let⟨c,i⟩:=i;have t:=p.C.C j<|Á<|À e;have x:=p.C.E j<|À e;have u:σ.r=j:=by unfold fV.r;rw[e];rfl
 have a:iY σ (.go j) (fA σ.I (j-1) c):=⟨u.symm,λn h=>fL _ _ Z⟩;refine p.Lg H (T:=.fF) a k l (λr q=>H.Hc _ _ _ _ _ i q) (by rw[e];rfl) (by rw[e];rfl) (p.C.r a (by rw[e];exact Ç _) (by rw[e];rfl) (by rw[e];rfl) (λn h=> ?_) (λn h=> ?_) (λr=>⟨λh=>(by cases h),λh=>(by cases h)⟩) (λh=>by rcases h with h|h|h<;>cases h) (λh=>by cases h) λ_ _=>p.C.S (λv q=>by rw[e]at q;cases q) λq=>by rw[e]at q;cases q) (rQ<|by rw[e];simp only[fX.rk];omega) λh=>by cases h
 .rcases h with h|h|h|h<;>cases h;exact t
 .rcases h with h|h|h<;>cases h
def PI.ahd(H:gU F)(p:PI F b zX σ S d m f E w qJ)(k:E[0]?=Ä g)(t:g.status=Å)(u:d 0=.fF)(i:σ.M=.rd j):j1 F b zX σ d E w qJ D 0:=by
 have z:=iM k;have n:=p.sZ k t u w<|p.I.r.r _ z;rw[i]at n;let⟨W,_,X,B,s⟩:=n;have C:=p.C.C j<|Á<|Á<|À i;have G:=p.C.E j<|Á<|À i;have I:σ.r=j:=by unfold fV.r;rw[i];rfl
 have a:iY σ (.lC j) σ.I:=⟨I.symm,λ_ _=>rfl⟩;let⟨J,K,L⟩:=Qa H p nD (À U) (À U) (À ⟨U,U⟩) λx c e=>yN H.C x c e;let⟨T,x⟩:=jq s;have e:=lD (λl g ⟨c,h⟩=>À<|H.I _ _ _ _ h) s;obtain⟨o,y,c,l,M,N,O,P,Q,V⟩:=p.AR H (kM<|.lC j) k (B w) ft ft J K x e;refine p.yO H a M N O e P (λ_ _=>rfl) Q (L y c l) V (Wd.r p.M a (by rw[i];rfl)<|by rw[i];rfl) (p.C.r a (by rw[i];exact Ç _) (by rw[i];rfl) (by rw[i];rfl) (λq h=> ?_) (λq h=> ?_) (λr=>⟨λh=>(by cases h),λh=>(by cases h)⟩) (λh=>by rcases h with h|h|h<;>cases h) (λh=>by cases h) λ_ _=>p.C.S (λv q=>by rw[i]at q;cases q) λq=>by rw[i]at q;cases q) (rQ<|by rw[i];simp only[fX.rk];omega) λh=>by cases h
 .rcases h with h|h|h|h<;>cases h;exact C
 .rcases h with h|h|h<;>cases h;exact G
end
section
variable{F:Ph}{σ I:fV F}{S:Nat->Jd}{m K:Nat->gy}{z:Nat->iB}{o:Nat->fh}{B:Array Æ}{u:é}{C:Option (Nat×Nat)}
def ahe(y:Nat):σ.G y<=1:=by
 unfold fV.G;split
 .cases σ.N y with
  |none=>exact Ç _
  |some e=>cases e with
   |oT=>exact Ç _
   |gi p=>cases p<;>simp[lY,ij.kK,jK.kK]
   |jh N=>simp[lY,ij.kK]
 .omega
def X1(v:Int):kC F.C w (w.setCell (fM F.C)<|ê Ô v):=Á ⟨_,_,À U,U⟩
def Qt(H:gU F)(p:PI F n zX σ S m z o E w qJ)(h:kC F.C w W){G:GS}(a:ig W F.C G):Wd F {σ with b:=G,a:=σ.a} W:= h.I H p.a p.C p.M nD (Ga:=G) (Gg:=σ.a) ⟨λ_=>a,λe=>absurd U e⟩ λb c=>⟨λe=>absurd e.symm<|H.C.N b c,λ_=>rfl⟩
def Qu(H:gU F)(p:PI F n zX σ S m z o E w qJ)(h:kC F.C w W)(c:i<E.size):fK {o i with w:=w} w W:=by have D:=h.r p.a H.C nD;exact⟨Ö D.r.symm,λb e=>D.jV b<|p.I.r.I _ c b e,λa d=>D.M _ c a d,λa d=>D.N _ c a d,λa _=>D.I a⟩
def yP{l:fh}{b:Ð}(r:fK {l with w:=W} jX b):fK l jX b:=⟨r.r,r.I,r.N,r.Y,r.S⟩
def PI.ahf(H:gU F)(p:PI F n zX σ S m z o E w qJ)(t:E[0]?=Ä g)(Y:g.status=Å)(ht:m 0=.fF)(a:σ.M=.iF j):j1 F n zX σ m E w qJ C 0:=by
 have N:=iM t;have O:=p.sZ t Y ht w<|p.I.r.r _ N;rw[a]at O;let⟨hd,_,hA⟩:=O;have hj:=p.C.C j<|Á<|Á<|Á a;have hj1:=p.C.E j<|Á<|Á a;have oR:σ.r=j:=by unfold fV.r;rw[a];rfl
 have AN:=H.C.gf;let⟨c,D⟩:=p.C.S (λv q=>by rw[a]at q;cases q) (λq=>by rw[a]at q;cases q);let⟨yK,_⟩:=p.C.t c 0 D;have hcn:c<=F.n+1:=by rw[yK];exact Hk ahe
 have G:=D▸p.M.C;let⟨hv,I⟩:=G.af0 Z;have J:=hA (GS.cl c 0).st;rw[hv]at J I;obtain⟨b,Q⟩:∃b,(GS.cl (c+1) 0).st=b:=⟨_,U⟩;rw[Q]at J I;let⟨K,h1,d⟩:=J;have yF:=h1 w G.C G.I;have k:=X1 (F:=F) (w:=w) b;have qf:=Qu H p k N;have L:b=(c+1:Int)*gd:=by rw[<-Q];simp only[GS.st,gd];omega
 obtain⟨x,v,M⟩:∃x:fX,(x=.rd j\/x=.lC j)/\fp F.P Ï (JM F σ.I x) {o 0 with w:=w} K:=by
  by_cases l:c=0
  .have e:b=gd:=by rw[L,l];simp[gd]
   simp only[if_pos e]at d;exact⟨.rd j,À U,d⟩
  .have r:¬b=gd:=by simp only[gd]at L|-;omega
   have s:gd<b/\b<1000000*gd/\b%gd=0:=by simp only[gd]at L|-;omega
   simp only[if_neg r,if_pos s]at d;exact⟨.lC j,Á U,d⟩
 let⟨T,hT⟩:=jq<|M.jP qf;have V:K.status=Å\/K.status=æ:=by
  rcases v with rfl|rfl
  .exact lD (λl g h=>À h.2.1) M
  .exact lD (λl g ⟨c,h⟩=>À<|H.I _ _ _ _ h) M
 obtain⟨B,u,q1,q2,q3,q4,q5,q6,q7⟩:=p.Y H (kM x) t (À U) nD yF k (AH nD) U (λx l e=>(yN H.C x l e).elim) hT V;have l:x.ad F.n=j+1:=by rcases v with rfl|rfl<;>rfl
 have X:σ.M.ad F.n=j:=by rw[a];rfl
 have uo:x.sp F.n=j:=by rcases v with rfl|rfl<;>rfl
 have hxr:x.gE=0:=by rcases v with rfl|rfl<;>rfl
 have e:iY σ x σ.I:=⟨uo.trans oR.symm,λ_ _=>rfl⟩;have sX:Ñ (F.n+1) (iA σ x (.cl (c+1) 0) σ.I).G=c+1:=by
  have h:=w7 (f:=σ.G) (f':=(iA σ x (.cl (c+1) 0) σ.I).G) (j:=j) (n:=F.n+1) Z (λi y=>by
   show(if i<x.ad F.n then lY (σ.N i)else 0)=if i<σ.M.ad F.n then lY (σ.N i)else 0
   rw[l,X];by_cases q:i<j
   .rw[if_pos q,if_pos Z]
   .rw[if_neg q,if_neg Z])
  have r:σ.G j=0:=by unfold fV.G;rw[X,if_neg Z]
  have s:(iA σ x (.cl (c+1) 0) σ.I).G j=1:=by show(if j<x.ad F.n then lY (σ.N j)else 0)=1;rw[l,if_pos Z,p.C.h j Z];rfl
  rw[r,s]at h;omega
 refine p.yO H e q1 q2 q3 V q4 (λr s=>k.C p.C nD s) q5 q6 q7 (Wd.r (Qt H p k I) e (by rw[a];rcases v with rfl|rfl<;>rfl) (by rw[a];rcases v with rfl|rfl<;>rfl)) (p.C.iA e (by rw[a];exact ô _) (λr h=> ?_) (λr h=> ?_) (λr=>⟨λh=> ?_,λh=> ?_⟩) (λi s h=> ?_) (λs h=>by cases h) (λr s h=>by cases h) (λy i h=> ?_) (λh=> ?_) (λh=> ?_) λ_ _=>⟨_,rfl⟩) (rQ (by rw[a];rcases v with rfl|rfl<;>simp only[fX.rk]<;>omega)) (λh=>by rcases v with rfl|rfl<;>cases h)
 .rcases v with rfl|rfl<;>rcases h with h|h|h|h<;>cases h<;>exact hj
 .rcases v with rfl|rfl<;>rcases h with h|h|h<;>cases h<;>exact hj1
 .rcases v with rfl|rfl<;>cases h
 .rcases v with rfl|rfl<;>cases h
 .cases h;exact⟨sX.symm,hxr.symm⟩
 .have:=p.C.N y i h;rw[D]at this;exact⟨λW q=>(by have:=(this.1 W q).2;cases this),λr hr=>(by let⟨_,_,s,h⟩:=this.2 r hr;cases h)⟩
 .rcases v with rfl|rfl<;>rcases h with h|h|h<;>cases h
 .rcases v with rfl|rfl<;>cases h
def PI.ahg(H:gU F)(p:PI F n zX σ S m z o E w qJ)(c:E[0]?=Ä g)(d:g.status=Å)(f:m 0=.fF)(b:σ.M=.iL 0):rM F n zX σ m E w qJ:=by
 have e:=p.sZ c d f;rw[b]at e;have i:=iM c;have a:iY σ (.kV F.n) σ.I:=mQ (by rw[b];rfl);refine p.Lg H (T:=.fF) a c d (λh q=>e h<|(p.I.r.r _ i).fj<|yP q) (by rw[b];simp[fX.mD]) (by rw[b];simp[fX.jj]) (p.C.r a (by rw[b];exact ô _) (by rw[b];rfl) (by rw[b];rfl) (λq h=> ?_) (λq h=> ?_) (λr=>⟨λh=>(by cases h),λh=> ?_⟩) (λh=>by rcases h with h|h|h<;>cases h) (λh=>by cases h) λ_ _=>p.C.S (λv q=>by rw[b]at q;cases q) λq=>by rw[b]at q;cases q) (rQ<|by rw[b];simp only[fX.rk];omega) λh=>by cases h
 .rcases h with h|h|h|h<;>cases h
 .rcases h with h|h|h<;>cases h
 .cases h;exact Ç _
def PI.ahh(H:gU F)(p:PI F n zX σ S m z o E w qJ)(c:E[0]?=Ä g)(d:g.status=Å)(f:m 0=.fF)(b:σ.M=.kV 0):rM F n zX σ m E w qJ:=by
 have e:=p.sZ c d f;rw[b]at e;have i:=iM c;have a:iY σ (.fC .iZ) σ.I:=mQ (by rw[b];rfl);refine p.Lg H (T:=.fF) a c d (λh r=>e h<|(p.I.r.r _ i).fj<|yP r) (by rw[b];rfl) (by rw[b];simp[fX.jj]) (p.C.r a (by rw[b];simp[fX.jj]) (by rw[b];rfl) (by rw[b];rfl) (λr h=> ?_) (λr h=> ?_) (λr=>⟨λh=>(by cases h),λh=>(by cases h)⟩) (λh=>by rcases h with h|h|h<;>cases h) (λh=>by cases h) λh _=>absurd rfl<|h _) (rQ<|by rw[b];simp only[fX.rk,jr.rk];omega) λh=>by cases h
 .rcases h with h|h|h|h<;>cases h
 .rcases h with h|h|h<;>cases h
def A1{v:jr}:∀j,(fX.fC v=.go j\/fX.fC v=.lC j\/fX.fC v=.rd j\/fX.fC v=.iF j)->j<=F.n:=λj h=>by rcases h with h|h|h|h<;>cases h
def A2{v:jr}:∀j,(fX.fC v=.lC j\/fX.fC v=.rd j\/fX.fC v=.iF j)->1<=j:=λj h=>by rcases h with h|h|h<;>cases h
def A3{v:jr}:∀r,(fX.fC v=.iL r->r<=F.q)/\(fX.fC v=.kV r->r<=F.n):=λr=>⟨λh=>(by cases h),λh=>(by cases h)⟩
def PI.ahi(H:gU F)(p:PI F n zX σ S m z o E w qJ)(c:E[0]?=Ä g)(d:g.status=Å)(f:m 0=.fF)(b:σ.M=.fC .iZ):rM F n zX σ m E w qJ:=by have i:=iM c;have e:=p.sZ c d f w<|p.I.r.r _ i;rw[b]at e;let⟨k,q,j,l⟩:=e;have a:iY σ (.fC (.lX (.gk k))) σ.I:=mQ (by rw[b];rfl);exact p.Lg H (T:=.fF) a c d (λr h=>⟨j,KJ l h⟩) (by rw[b];rfl) (by rw[b];rfl) (p.C.r a (by rw[b];exact Ç _) (by rw[b];rfl) (by rw[b];rfl) A1 A2 A3 (λh=>by rcases h with h|h|h<;>cases h) (λh=>by cases h) λh _=>absurd rfl<|h _) (rQ<|by rw[b];simp only[fX.rk,jr.rk];omega) λh=>by cases h
def PI.ahj(H:gU F)(p:PI F n zX σ S m z o E w qJ){v:SP}(k:E[0]?=Ä g)(jd:g.status=Å)(ht:m 0=.fF)(b:σ.M=.fC (.lX v)):j1 F n zX σ m E w qJ C 0:=by
 have gH:=iM k;have hJ:=p.sZ k jd ht w<|p.I.r.r _ gH;rw[b]at hJ;obtain⟨hd,Y⟩:=hJ;have hG:=p.M.C;obtain⟨_,Y⟩:=XA Y hG;have nt:σ.M.jj F.n<=F.n:=by rw[b];exact Ç _
 rcases Y with⟨q,g',es,j,f,Q,h4⟩|⟨g',j,f,Q⟩|⟨g',c,i,t,uj,j,f⟩
 .have r:∀e∈es,uh F.toFx e:=by
   rcases f with rfl|rfl
   .intro e W;simp at W
   .exact yB nD
  have s:Î (o 0).d es=(o 0).d:=by rcases f with rfl|rfl<;>rfl
  obtain⟨P,W,l⟩:=Q;obtain⟨B,u,D,I,K,L,M,N,O⟩:=p.Y (J:=JM F σ.I<|.fC (.lX q)) (T:=.fF) H (kM<|.fC (.lX q)) k (À U) nD j (À U) r s (λx y e=>(yN H.C x y e).elim) (λh a=>⟨hd,KJ ⟨P,W,l⟩ a⟩)<|À (l _ _ W).1;have a:iY σ (.fC (.lX q)) σ.I:=mQ (by rw[b];rfl);exact p.yO H a D I K (À (l _ _ W).1) L (λ_ _=>rfl) M N O (Wd.r p.M a (by rw[b];rfl)<|by rw[b];rfl) (p.C.r a nt (by rw[b];rfl) (by rw[b];rfl) A1 A2 A3 (λh=>by rcases h with h|h|h<;>cases h) (λh=>by cases h) λh _=>absurd rfl<|h _) (ahb b ht h4) λh=>by cases h
 .obtain⟨T,hT⟩:=jq Q;have P:=lD (λl g h=>À h.2.1) Q;obtain⟨B,u,D,I,K,L,M,N,O⟩:=p.Y H (kM<|.fC .lb) k (À U) nD j (À U) (yB nD) U (λx y e=>(yN H.C x y e).elim) hT P;have a:iY σ (.fC .lb) σ.I:=mQ (by rw[b];rfl);refine p.yO H a D I K P L (λ_ _=>rfl) M N O (Wd.r p.M a (by rw[b];rfl)<|by rw[b];rfl) (p.C.r a nt (by rw[b];rfl) (by rw[b];rfl) A1 A2 A3 (λ_=> ?_) (λh=>by cases h) λh _=>absurd rfl<|h _) (rQ<|by rw[b];simp only[fX.rk,jr.rk];omega) (λh=>by cases h);cases W:σ.b with
  |cl c i=>have:=f c i W;have:=(p.C.t c i W).1;omega
  |jI i=>exact(p.C.g i W).1
  |gR r s=>exact(p.C.u r s W).1
 .obtain⟨e1,V⟩:=p.C.t c i t;rw[b]at V;have V:i=0:=V;subst V;have Hm:=t▸hG;obtain⟨hv,yE⟩:=Hm.Xl uj Z;rw[t,hv]at j;rw[hv]at yE;rw[t]at f;have e:(GS.cl c 0).st%gd=0:=by simp only[GS.st,gd];omega
  simp only[e,if_true]at f;have X:=X1 (F:=F) (w:=w) (GS.cl c<|0+1).st;have qf:=Qu H p X gH;obtain⟨T,hT⟩:=jq<|f.jP qf;have P:=lD (λl g h=>À h.2.1) f;obtain⟨B,u,D,I,K,L,M,N,O⟩:=p.Y H (kM<|.fC .wr) k (À U) nD j X (AH nD) U (λx y e=>(yN H.C x y e).elim) hT P;have a:iY σ (.fC .wr) σ.I:=mQ (by rw[b];rfl);have l:=Qs (σ:=σ) (x:=.fC .wr) (G:=.cl c (0+1)) (dk:=σ.I) (by rw[b];rfl);refine p.yO H a D I K P L (λy W=>X.C p.C nD W) M N O (Wd.r (Qt H p X yE) a (by rw[b];rfl)<|by rw[b];rfl) (p.C.iA a nt A1 A2 A3 (λW i h=> ?_) (λi h=>by cases h) (λr s h=>by cases h) (λy q h=> ?_) (λh=>by rcases h with h|h|h<;>cases h) (λh=>by cases h) λh _=>absurd rfl<|h _) (rQ<|by rw[b];simp only[fX.rk,jr.rk];omega) λh=>by cases h
  .rw[l];cases h;exact⟨e1,U⟩
  .have:=p.C.N y q h;rw[t]at this;exact⟨λW hW=>(by have:=(this.1 W hW).2;cases this),λr hr=>(by obtain⟨_,_,s,h⟩:=this.2 r hr;cases h)⟩
def PI.ahk(H:gU F)(p:PI F n zX σ S m z o E w qJ)(c:E[0]?=Ä g)(i:g.status=Å)(j:m 0=.fF)(b:σ.M=.fC .wr):j1 F n zX σ m E w qJ C 0:=by have k:=iM c;have d:=p.sZ c i j w<|p.I.r.r _ k;rw[b]at d;let⟨L,_,M,q,f⟩:=d;have a:iY σ (.fC .kz) σ.I:=mQ (by rw[b];rfl);let⟨r,s,t⟩:=Qa H p nD (À U) (Á U) (À ⟨U,U⟩) λx h e=>yN H.C x h e;let⟨T,x⟩:=jq f;have e:=lD (λl g h=>À h.2.1) f;obtain⟨B,y,l,u,v,D,G,I,J,K⟩:=p.AR H (kM<|.fC .kz) c (q w) ft ft r s x e;exact p.yO H a v D G e I (λ_ _=>rfl) J (t y l u) K (Wd.r p.M a (by rw[b];rfl)<|by rw[b];rfl) (p.C.r a (by rw[b];exact Ç _) (by rw[b];rfl) (by rw[b];rfl) A1 A2 A3 (λh=>by rcases h with h|h|h<;>cases h) (λh=>by cases h) λh _=>absurd rfl<|h _) (rQ<|by rw[b];simp only[fX.rk,jr.rk];omega) λh=>by cases h
def PI.ahl(H:gU F)(p:PI F n zX σ S m z o E w qJ)(f:E[0]?=Ä g)(r:g.status=Å)(s:m 0=.fF)(d:σ.M=.fC .gG):j1 F n zX σ m E w qJ C 0:=by have t:=iM f;have j:=p.sZ f r s w<|p.I.r.r _ t;rw[d]at j;let⟨P,_,v⟩:=j;let⟨a,b,y⟩:=p.C.L d;have k:=p.M.C;rw[y]at k;let⟨Q,D,i⟩:=v 0;simp only[if_true]at i;have c:iY σ (.fC .lb) σ.I:=mQ (by rw[d];rfl);let⟨T,G⟩:=jq i;have q:=lD (λl g h=>À h.2.1) i;obtain⟨B,u,l,I,J,K,L,M,N⟩:=p.Y H (kM<|.fC .lb) f (À U) nD (D w k.C) (À U) (yB nD) U (λx O e=>(yN H.C x O e).elim) G q;exact p.yO H c l I J q K (λ_ _=>rfl) L M N (Wd.r p.M c (by rw[d];rfl)<|by rw[d];rfl) (p.C.r c (by rw[d];exact Ç _) (by rw[d];rfl) (by rw[d];rfl) A1 A2 A3 (λ_=>p.C.B<|À d) (λh=>by cases h) λh _=>absurd rfl<|h _) (rQ<|by rw[d];simp only[fX.rk,jr.rk];omega) λh=>by cases h
theorem PI.ahm(H:gU F)(p:PI F n zX σ S m z o E w qJ){g:Æ}(d:E[0]?=Ä g)(f:g.status=Å)(J:m 0=.fF)(b:σ.M=.fC .kz):j1 F n zX σ m E w qJ C 0:=by
 have K:=iM d;have L:=p.sZ d f J w<|p.I.r.r _ K;rw[b]at L;obtain⟨hd,_,M,Qd,g',h1,O⟩:=L;have Q:=p.M.C;have ui:0<F.N:=by unfold Ph.N;omega
 by_cases j:σ.b.sm=0
 .have s:=Q.M;rw[j]at s;obtain⟨T,l⟩:=p.h;rw[b]at T l;have t:=Qd w s;obtain⟨B,v,c,q,D⟩:=Pv d t;have V:∀x,Ą F.P g {g with status:=Þ} w x=x:=by
   intro x;unfold Ą;rw[if_neg ft]
  have r:∀k,k≠0->B[k]?=E[k]?:=by
   intro k a;rw[D k a];cases E[k]? with
   |none=>rfl
   |some x=>simp[V]
  have W:gN F.P F.S σ.Y S m z o B w (qJ++#[]):=by
   rw[Û];obtain⟨g0,X,I,f3,f4⟩:=p.I.C _ g d;have hg:g=g0:=by
    rw[l]at I;cases I with
    |gp=>rfl
    |nZ h M=>cases f
   subst hg;refine⟨?_,λk y a=> ?_,λk a=>p.I.I k<|by rwa[<-c]⟩
   .rw[show(λi=>i<B.size)=(λi=>i<E.size) by rw[c]];exact p.I.r
   .by_cases e:k=0
    .subst e;rw[q]at a;obtain rfl:=Ã a;refine⟨g,X,?_,À f,Á J⟩;rw[l];exact .nZ f M
    .rw[r k e]at a;exact p.I.C k y a
  refine⟨σ,S,m,z,o,B,w,#[],v,c,λh=>h,.r p.N (c.trans p.b) W (by rw[c];exact p.a) p.M p.C (by rw[Û];exact p.d) (λk y a i=> ?_) (by rw[Û];exact p.f),P3 (λ_ _=>rfl) ui (by rw[Ex d,if_pos f]) (by rw[Ex q,if_neg ft]) λk a=>Qc<|r k a⟩;by_cases e:k=0
  .subst e;exact À ⟨U,b,j⟩
  .rw[r k e]at a;exact p.c k y a i
 .obtain⟨a,s,k⟩:=XF j;have I:=k▸Q;have yE:=I.kz;have Qe:((GS.gR a<|s+1).sm:Int)≠0:=by simp only[GS.sm];omega
  have t:=h1 w _ Qe I.M I.N;have i:kC F.C w (w.setCell (gQ F.C)<|ê â<|(GS.gR a<|s+1).sm-1):=Á ⟨_,_,Á U,U⟩;have qf:=Qu H p i K;obtain⟨T,hT⟩:=jq<|O.jP qf;have V:=lD (λl g h=>À h.2.1) O;obtain⟨B,u,v,c,q,D,q5,q6,q7⟩:=p.Y H (kM<|.fC .gG) d (À U) nD t i (Hh nD) (Hi _).2.2.2 (λx l e=>(yN H.C x l e).elim) hT V;obtain⟨X,l,b3⟩:=p.C.u a (s+1) k;rw[b]at l;have l:a+(s+1)=1:=l;have ha:a=0:=Z
  have hs0:s=0:=Z
  subst ha hs0;have e:iY σ (.fC .gG) σ.I:=mQ (by rw[b];rfl);have eo:=Qs (σ:=σ) (x:=.fC .gG) (G:=.gR 0 0) (dk:=σ.I) (by rw[b];rfl);refine p.yO H e v c q V D (λW r=>i.C p.C nD r) q5 q6 q7 (Wd.r (Qt H p i yE) e (by rw[b];rfl)<|by rw[b];rfl) (p.C.iA e (by rw[b];exact Ç _) A1 A2 A3 (λW r h=>by cases h) (λr h=>by cases h) (λr s h=> ?_) (λy p' h=> ?_) (λ_=>by rwa[eo]) (λ_=>⟨0,0,U⟩) λh _=>absurd U<|h _) (rQ<|by rw[b];simp only[fX.rk,jr.rk];omega) λh=>by cases h
  .rw[eo];cases h;exact⟨X,U,λh=>by omega⟩
  .have:=p.C.N y p' h;rw[k]at this;exact⟨λW hW=>(by have:=(this.1 W hW).2;cases this),λr hr=>(by obtain⟨j,_,s,h⟩:=this.2 r hr;injection h with h _;omega)⟩
end
section
variable{S:Nat->Jd}{a:Nat->gy}{b:Nat->iB}{d:Nat->fh}
def gN.ahn(p:gN P i X S a b d E w qJ)(q:E[k]?=Ä g)(h:yr n É g):∃z,b k=.sV n z:=by
 let⟨j,t,u,f,r,l,v,s⟩:=h;let⟨g0,_,m,o,_⟩:=p.C k g q;generalize b k=K at m;cases m with
 |gp=>rw[j]at o;rcases o with e|e<;>cases e
 |nZ h e=>simp only[e]at f;cases f
 |tX e z h=>
  simp only[Ň,Ŀ,Prod.mk.injEq]at f;rw[<-f.1]at l;have:r=Š e z:=by simpa using l
  subst this;have:e=n:=by simpa[Š]using s
  subst this;exact⟨z,U⟩
 |nu e z h=>cases j
def gN.X2(l:gN P i X S a b d E w qJ){x:Æ}(m:E[k]?=Ä x)(f:x.status=Þ)(o:b k=.sV n z):∃g0,x=Ň g0 #[Š n z] (.recv Ï):=by
 let⟨g0,_,g,j,_⟩:=l.C k x m;rw[o]at g;cases g with
 |gp=>rw[f]at j;rcases j with e|e<;>cases e
 |tX _ _ h=>exact⟨g0,U⟩
 |nu _ _ h=>cases f
def aho{g0:Æ}:yr i É (Ň g0 #[Š i z]<|.recv Ï):= ⟨U,_,_,U,Š i z,ft,U,by simp[Š]⟩
def ahp{g0:Æ}{r:Nat}(h:w.heap[i]?=Ä (.chan n q Ï j r yQ)):((Ň g0 #[Š i z]<|.recv Ï).again w).status=Å:=by unfold ĕ Ň;simp[Š,h]
def ahq(h:(g.again w).status=Þ):g.again w=g/\g.status=Þ:=by
 unfold ĕ at h|-;split at h
 .rename_i a b;simp only at h|-;split at h
  .cases h
  .rename_i c;simp only[a,b];exact⟨by rw[if_neg c],trivial⟩
 .cases h
 .cases h
 .rename_i a b c;exact⟨U,h⟩
end
section
variable{F:Ph}{σ o:fV F}{S:Nat->Jd}{a D:Nat->gy}{b:Nat->iB}{d:Nat->fh}{f:Array Æ}{u:é}{m:Option (Nat×Nat)}
def PI.X3(p:PI F j zX σ S a b d E w qJ){x:Æ}(m:E[k]?=Ä x)(h:yr i É x):∃f,f+2<=σ.r/\σ.N (f+1)=Í/\k=F.L+1+f/\σ.I f=i/\∃r,σ.C f=.nz r:=by
 let⟨z,g⟩:=p.I.ahn m h;have q:=iM m;by_cases n:k=0
 .subst n;rw[p.h.2]at g;revert g;cases σ.M with
  |fC v=>cases v<;>intro h<;>cases h
  |_=>intro h;cases h
 by_cases o:k<F.L
 .rw[(p.l k Z o).2.2]at g;cases g
 have s:=p.b;obtain⟨y,rfl⟩:∃y,k=F.L+y:=⟨k-F.L,Z⟩;cases l:σ.N y with
 |some e=>rw[(p.k y e Z l).2.1]at g;cases g
 |none=>
  cases y with
  |zero=>rw[ö,(p.m Z l).2]at g;cases g
  |succ f=>
   rw[show F.L+(f+1)=F.L+1+f by omega,(p.g f Z l).2]at g;cases e:σ.C f with
   |nz r=>
    rw[e]at g;injection g with g _;exact⟨f,Z,l,Z,g,r,e⟩
   |fC r v=>rw[e]at g;cases v<;>cases g
   |jM r=>rw[e]at g;cases g
   |oQ r=>rw[e]at g;cases g
def X4(h:ua n j i k)(d:1<=n)(a:j=i%n):i=j+k*n:=by
 have e:i=j+i/n*n:=by rw[a,Nat.mul_comm];exact(Nat.mod_add_div i n).symm
 have b:k=i/n:=by
  refine Nat.le_antisymm (ĉ λq=> ?_)<|ĉ λq=> ?_
  .have:=(h<|i/n).1 q;omega
  .have f:=mt (h k).2 Z;have c:(k+1)*n<=i/n*n:=Ē n q;rw[Ż]at c;omega
 rwa[b]
def X5(h:ua n j i k)(b:1<=n)(c:j=i%n):ua n j (i+1) (k+1):=by
 have e:=X4 h b c;intro a;constructor
 .intro q;have:a*n<=k*n:=Ē n Z;omega
 .intro q;refine ó λd=> ?_;have:(k+1)*n<=a*n:=Ē n d;rw[Ż]at this;omega
def X6(h:ua n j i k)(b:j<n)(c:j≠i%n):ua n j (i+1) k:=by
 intro a;rw[h a];constructor
 .omega
 .intro q;have:j+a*n≠i:=λe=>c (by rw[<-e,Ę,ň b]);omega
def PI.ahr(H:gU F)(p:PI F j zX σ S a b d E w qJ){r:Nat}(hi:E[0]?=Ä g)(jd:g.status=Å)(ht:a 0=.fF)(D:σ.M=.iL (r+1)):j1 F j zX σ a E w qJ m 0:=by
 have gH:=iM hi;have C:=p.I.r;have hn:=H.C.C;have hL:=H.C.r;have K6:=(p.C.K<|r+1).1 D;have oR:σ.r=F.n+1:=by unfold fV.r;rw[D];rfl
 obtain⟨hs,hk⟩:=p.h;rw[D]at hs hk;obtain⟨Q,hQ⟩:∃Q,Q=F.q-(r+1):=⟨_,U⟩;obtain⟨c,hj⟩:∃c,c=Q%F.n:=⟨_,U⟩;have hs:S 0=Ay F.P (0==0) (σ.I c) (F.c Q) (Hb F σ.I r):=by rw[hs,hj,hQ];rfl
 have yD:c<F.n:=by rw[hj];exact Θ _ hn
 have V:c+2<=σ.r:=Z
 have hY:σ.Y (σ.I c):=Á<|Á ⟨c,V,U⟩;obtain⟨W,s,hc,uk,Lh,yH,yI⟩:=p.M.jL c V;have nt:decide (c<σ.M.jj F.n)=É:=by rw[D];simp[fX.jj]
 rw[nt]at hc;have Hq:σ.M.mD F.q=Q:=by rw[D,hQ];rfl
 rw[Hq]at uk;have eQ:=X4 uk hn hj;have hsQ:s<=s*F.n:=ç _ hn;have X7:(fX.iL r).mD F.q=Q+1:=by simp only[fX.mD];omega
 have EA:=C.N _ hY;have X8:∀o,(fX.iL r=.go o\/fX.iL r=.lC o\/fX.iL r=.rd o\/fX.iL r=.iF o)->o<=F.n:=λo h=>by rcases h with h|h|h|h<;>cases h
 have X9:∀o,(fX.iL r=.lC o\/fX.iL r=.rd o\/fX.iL r=.iF o)->1<=o:=λo h=>by rcases h with h|h|h<;>cases h
 have Ya:∀M,(fX.iL r=.iL M->M<=F.q)/\(fX.iL r=.kV M->M<=F.n):=λM=>⟨λh=>(by cases h;omega),λh=>(by cases h)⟩;have aM:=p.C.S (λv q=>by rw[D]at q;cases q) (λq=>by rw[D]at q;cases q);have hLs:=p.b;by_cases hp:∃(k:Nat) (x:Æ),E[k]?=Ä x/\yr (σ.I c) É x
 .obtain⟨k,gj,Ei,mF⟩:=hp;obtain⟨o,oU,he,rfl,A4,M,A5⟩:=p.X3 Ei mF;have ej:=p.C.M _ _ oU V A4;subst ej;have hb:=mF.1;obtain⟨KO,KN⟩:=p.g o oU he;rw[A5]at KO KN;have mw:=yC H.C o;have ahs:S (F.L+1+o)=wU F.P (F.L+1+o==0) (σ.I o) F.z λx=>match x with
   |some v=>λl g=>v=F.c (o+M*F.n)->qT F.P É F.B (F.I<|F.r<|o+M*F.n) (F.e (σ.I o)<|o+M*F.n) .iZ l g
   |none=>AB F:=by rw[mw];exact KO
  have kI:F.L+1+o≠0:=Z
  have PG:a (F.L+1+o)=.fF:=by obtain⟨g0,_,i,e,h4⟩:=p.I.C _ gj Ei;refine h4.resolve_left λq=> ?_;subst q;rw[hb]at e;rcases e with q|q<;>cases q
  have Qg:W=#[]:=by
   rcases p.c _ gj Ei hb with⟨h1,_⟩|⟨t,_,_,h2,⟨G,X,_⟩|⟨G,cap,i,e,X,h4⟩⟩
   .exact absurd h1 kI
   .have:t=o:=Z
    subst this;rw[A5]at X;cases X
   .have:t=o:=Z
    subst this;rw[hc]at h4;injection h4 with h4;injection h4
  subst Qg;rw[A5]at hc Lh yH;simp only[gO.iO]at hc Lh yH;have hsr:s=M:=by simp at yH;omega
  subst hsr;obtain⟨f,u,T,Tj,g',gj',q1,q2,q3,q4,q5,q6,q7,q8,q9⟩:=p.I.afW hi hk ht hs hY hc kI Ei hb KN PG ahs (kW F (σ.I o)<|.fC s .iZ) (λI K O e i=>by obtain⟨j3,a1,_,a3,y,_⟩:=p.X3 e i;have:=p.C.M _ _ a1 V y;omega);have Yb:=q9.kJ (J:=JW F (σ.I o) o<|.fC s .iZ) (λl g h=>by rw[fL _ _ kI,gD]at h;exact h<|by rw[eQ]);have Qv:fA (fA (fA S (F.L+1+o) ((match(Ä (F.c Q):Option ì)with
   |some v=>λl g=>v=F.c (o+s*F.n)->qT F.P É F.B (F.I<|F.r<|o+s*F.n) (F.e (σ.I o)<|o+s*F.n) .iZ l g
   |none=>AB F))) 0 (Hb F σ.I r)) (F.L+1+o) (JW F (σ.I o) o (.fC s .iZ))=fA (fA S (F.L+1+o) (JW F (σ.I o) o (.fC s .iZ))) 0 (JM F σ.I (.iL r)):=by
   funext k;by_cases I:k=F.L+1+o
   .subst I;rw[gD,fL _ _ kI,gD]
   .by_cases k2:k=0
    .subst k2;rw[fL _ _<|õ kI,gD,gD];rfl
    .rw[fL _ _ I,fL _ _ k2,fL _ _ I,fL _ _ k2,fL _ _ I]
  rw[Qv]at Yb;have mE:o+s*F.n<F.q:=Z
  have Pw:=p.C.G (x:=.fC s .iZ) V he (λk=>by rw[A5,P9 U];rfl) (λG h=>by rcases h with⟨_,h⟩|h|h<;>cases h;exact mE) (λG h=>by rcases h with h|h|h<;>cases h) (λG h=>by cases h) (λG h=>by cases h);have l:iY (gS σ o<|.fC s .iZ) (.iL r) σ.I:=⟨by show _=σ.M.sp F.n;rw[D];rfl,λ_ _=>rfl⟩;have e:(iA (gS σ o<|.fC s .iZ) (.iL r) σ.b σ.I).r=σ.r:=l.r;obtain⟨z1,z2,z3,z4,z5⟩:=p.M.G H p.a p.C V;refine⟨iA (gS σ o<|.fC s .iZ) (.iL r) σ.b σ.I,_,_,_,_,f,_,u,q1,q2,(λh=>by have h:=h;cases h),.r ((p.N.N H.C V he).iA H.C l) (by rw[e];exact q2.trans p.b) (by rw[A0 l];exact Yb) ?_ ⟨z4,z5,λt xb=> ?_,z1,z2,λt xb G Av h1=> ?_⟩ (Pw.r l (by show σ.M.jj F.n<=_;rw[D];exact ô _) (by show _=σ.M.ad F.n;rw[D];rfl) (by show _=σ.M.gE;rw[D];rfl) X8 X9 Ya (λh=>by rcases h with h|h|h<;>cases h) (λh=>by cases h) λ_ _=>aM) (by rw[e];exact K8 p.d q8) (λk y O kL=> ?_) λt G a1 a2 a3=> ?_,?_⟩
  .rw[q2];exact(((p.a.r<|by rw[A5];rfl).G l).Ey<|Ö Hp.symm)
  .have uq:t+2<=σ.r:=Z
   show∃W K,(w.setChan (σ.I o) _ _ _ _ _ _).heap[σ.I t]?=Ä (.chan F.q W (decide<|t<(fX.iL r).jj F.n) K ((gS σ o<|.fC s .iZ).C t).iO É)/\ua F.n t ((fX.iL r).mD F.q) K/\((gS σ o<|.fC s .iZ).C t).iO<=K/\W.size=K-((gS σ o<|.fC s .iZ).C t).iO/\∀i,i<K-((gS σ o<|.fC s .iZ).C t).iO->W[i]?=Ä (F.c<|t+(((gS σ o<|.fC s .iZ).C t).iO+i)*F.n);rw[X7];by_cases v:t=o
   .subst v;rw[jR];refine⟨#[],s+1,by rw[K7 EA];rfl,X5 uk hn hj,Ç _,by simp[gO.iO],λi ly=> ?_⟩;have hi2:i<s+1-(s+1):=ly;omega
   .rw[iP _ v,qe λq=>v<|p.C.M _ _ uq V q];obtain⟨Qw,K,y1,y2,y3⟩:=p.M.jL t uq;rw[Hq]at y2;refine⟨Qw,K,?_,X6 y2 Z Z,y3⟩;rw[y1,D];rfl
  .have uq:t+2<=σ.r:=Z
   have vz:G<((gS σ o<|.fC s .iZ).C t).kB:=h1;by_cases v:t=o
   .subst v;rw[jR]at vz;exact z3 t uq G Av<|by rw[A5];exact vz
   .rw[iP _ v]at vz;exact z3 t uq G Av vz
  .by_cases I:k=0
   .subst I;rw[q3]at O;obtain rfl:=Ã O;rw[q4]at kL;cases kL
   .by_cases k2:k=F.L+1+o
    .subst k2;rw[q5]at O;obtain rfl:=Ã O;rw[q6]at kL;cases kL
    .rw[q7 k I k2]at O;rcases p.c k y O kL with⟨h1,_⟩|⟨t,xb,yM,h2,X|⟨r1,cap,s1,M,X,h4⟩⟩
     .exact absurd h1 I
     .exact Á ⟨t,Z,yM,h2,À (by show∃G,(gS σ o _).C t=_/\_;rw[iP _ Z];exact X)⟩
     .have v:t≠o:=Z
      exact Á ⟨t,Z,yM,h2,Á ⟨r1,cap,s1,M,by show(gS σ o _).C t=_;rw[iP _ v];exact X,by show(w.setChan (σ.I o) _ _ _ _ _ _).heap[σ.I t]?=_;rw[qe λq=>v<|p.C.M _ _ xb V q];exact h4⟩⟩
  .have AQ:(gS σ o<|.fC s .iZ).C t=.jM G:=a2;have v:t≠o:=λe=>by subst e;rw[jR]at AQ;cases AQ
   rw[iP _ v]at AQ;exact(p.f t G Z AQ a3).app u
  .refine À ⟨0,by unfold Ph.N;omega,À ?_,λk rN yR=> ?_⟩
   .show((iA (gS σ o<|.fC s .iZ) (.iL r) σ.b σ.I).iU _ 0).1<(σ.iU a 0).1;rw[Ep,Ep,D];show(fX.iL r).rk F<(fX.iL<|r+1).rk F;simp only[fX.rk];omega
   .show(iA (gS σ o<|.fC s .iZ) (.iL r) σ.b σ.I).iU _ k=σ.iU a k\/yy ((iA (gS σ o<|.fC s .iZ) (.iL r) σ.b σ.I).iU _ k) (σ.iU a k);by_cases k2:k=F.L+1+o
    .subst k2;refine Á<|À ?_;rw[ug H.C (σ:=iA (gS σ o<|.fC s .iZ) (.iL r) σ.b σ.I) (show σ.N (o+1)=Í from he),ug H.C he];show((gS σ o<|.fC s .iZ).C o).rk F<(σ.C o).rk F;rw[jR,A5];simp only[gO.rk,jr.rk];have hm:F.n+3000<=(F.n+3000)*(F.q+3-s):=ç _ Z;omega
    .refine À (yz (λh=>absurd h yR) (λ_ _=>rfl) (λ_=>rfl) (λ_ _=>rfl) (λh1 _=> ?_)<|by rw[fL _ _ yR,fL _ _ k2]);show((gS σ o<|.fC s .iZ).C _).rk F=_;rw[iP _ Z]
 .have Qx:W.size<F.q:=Z
  obtain⟨f,u,T,g',q1,q2,q3,q4,q5,q6,q7⟩:=p.I.iL hi hk ht hs hY hc Qx λk x Yc mF=>hp ⟨k,x,Yc,mF⟩;have e0:b=fA b 0 (kM<|.iL r):=by
   funext k;by_cases I:k=0
   .subst I;rw[gD,hk];rfl
   .rw[fL _ _ I]
  rw[e0]at q7;have l:iY σ (.iL r) σ.I:=mQ (by rw[D];rfl);have e:(iA σ (.iL r) σ.b σ.I).r=σ.r:=l.r;obtain⟨z1,z2,z3,z4,z5⟩:=p.M.G H p.a p.C V;refine⟨iA σ (.iL r) σ.b σ.I,_,_,_,_,f,_,u,q1,q2,(λh=>by have h:=h;cases h),.r (p.N.iA H.C l) (by rw[e];exact q2.trans p.b) (by rw[A0 l];exact q7) ?_ ⟨z4,z5,λt xb=> ?_,z1,z2,λt xb=>z3 t Z⟩ (p.C.r l (by rw[D];exact ô _) (by rw[D];rfl) (by rw[D];rfl) X8 X9 Ya (λh=>by rcases h with h|h|h<;>cases h) (λh=>by cases h) λ_ _=>aM) (by rw[e];exact K8 p.d q6) (λk y O kL=> ?_) λt G a1 a2 a3=>(p.f t G Z a2 a3).app u,rQ<|by rw[D];simp only[fX.rk];omega⟩
  .rw[q2];exact((p.a.G l).Ey<|Ö Hp.symm)
  .have uq:t+2<=σ.r:=Z
   show∃W K,(w.setChan (σ.I c) _ _ _ _ _ _).heap[σ.I t]?=Ä (.chan F.q W (decide<|t<(fX.iL r).jj F.n) K (σ.C t).iO É)/\ua F.n t ((fX.iL r).mD F.q) K/\(σ.C t).iO<=K/\W.size=K-(σ.C t).iO/\∀i,i<K-(σ.C t).iO->W[i]?=Ä (F.c<|t+((σ.C t).iO+i)*F.n);rw[X7];by_cases v:t=c
   .subst v;refine⟨W.push<|F.c Q,s+1,by rw[K7 EA];rfl,X5 uk hn hj,Z,by rw[Array.size_push];omega,λi ly=> ?_⟩;rw[Ă];by_cases G:i=W.size
    .rw[if_pos G,eQ,show(σ.C t).iO+i=s by omega]
    .rw[if_neg G];exact yI i Z
   .rw[qe λq=>v<|p.C.M _ _ uq V q];obtain⟨Qw,K,y1,y2,y3⟩:=p.M.jL t uq;rw[Hq]at y2;refine⟨Qw,K,?_,X6 y2 Z Z,y3⟩;rw[y1,D];rfl
  .by_cases I:k=0
   .subst I;rw[q3]at O;obtain rfl:=Ã O;rw[q4]at kL;cases kL
   .rw[q5 k I]at O;rcases p.c k y O kL with⟨h1,_⟩|⟨t,xb,yM,h2,X|⟨r1,cap,s1,M,X,h4⟩⟩
    .exact absurd h1 I
    .exact Á ⟨t,Z,yM,h2,À X⟩
    .have v:t≠c:=λe=>by
      subst e;have G:=(p.g t xb yM).2;rw[X,<-h2]at G;obtain⟨g0,i⟩:=p.I.X2 O kL G;exact hp ⟨k,y,O,by rw[i];exact aho⟩
     exact Á ⟨t,Z,yM,h2,Á ⟨r1,cap,s1,M,X,by show(w.setChan (σ.I c) _ _ _ _ _ _).heap[σ.I t]?=_;rw[qe λq=>v<|p.C.M _ _ xb V q];exact h4⟩⟩
end
section
variable{F:Ph}{σ o:fV F}{S:Nat->Jd}{d B:Nat->gy}{m:Nat->iB}{D:Nat->fh}{c:Array Æ}{u:é}{sl:Option (Nat×Nat)}
def PI.aht(H:gU F)(p:PI F n zX σ S d m D E w qJ)(hi:E[0]?=Ä g)(ht:d 0=.fF)(l:σ.M=.kV (J+1)):j1 F n zX σ d E w qJ sl 0:=by
 have C:=p.I.r;have hn:=H.C.C;have hL:=H.C.r;have PH:=(p.C.K<|J+1).2 l;have oR:σ.r=F.n+1:=by unfold fV.r;rw[l];rfl
 obtain⟨N,hk⟩:=p.h;rw[l]at N hk;obtain⟨j,hj⟩:∃j,j=F.n-(J+1):=⟨_,U⟩;have N:S 0=KI F.P (0==0) (σ.I j) (AF F σ.I J):=by rw[N,hj];rfl
 have G:j+2<=σ.r:=Z
 have hY:σ.Y (σ.I j):=Á<|Á ⟨j,G,U⟩;obtain⟨O,s,hc,uk,Lh,yH,yI⟩:=p.M.jL j G;have nt:decide (j<σ.M.jj F.n)=É:=by rw[l];simp only[fX.jj];exact decide_eq_false Z
 rw[nt]at hc;have EA:=C.N _ hY;have AL:(w.setChan (σ.I j) F.q O Ï s (σ.C j).iO É).heap[σ.I j]?=Ä (.chan F.q O Ï s (σ.C j).iO É):=K7 EA;have aM:=p.C.S (λv q=>by rw[l]at q;cases q) (λq=>by rw[l]at q;cases q);obtain⟨c,u,T,g',q1,Q,q3,q4,q5,q6,q7,q8,q9⟩:=p.I.kV hi hk ht N hY (p.C.o j G).2.2 hc;have e0:m=fA m 0 (kM<|.kV J):=by
  funext k;by_cases I:k=0
  .subst I;rw[gD,hk];rfl
  .rw[fL _ _ I]
 rw[e0]at q9;have v:iY σ (.kV J) σ.I:=mQ (by rw[l];rfl);have e:(iA σ (.kV J) σ.b σ.I).r=σ.r:=v.r;obtain⟨z1,z2,z3,z4,z5⟩:=p.M.G H p.a p.C G;have Le:=p.d.C ⟨λo t a _=>q6 o t,À U,λo t a x ha K _=> ?_,λo t a y ha _ K=> ?_,λo t b _=>q8 o t _,λx _ _=>⟨λJ hr=>hr.appOther q6 Z,λe=>by omega⟩⟩;refine⟨iA σ (.kV J) σ.b σ.I,_,_,_,_,c,_,u,q1,Q,(λh=>by have h:=h;cases h),.r (p.N.iA H.C v) (by rw[e];exact Q.trans p.b) (by rwa[A0 v]) ?_ ⟨z4,z5,λf V=> ?_,z1,z2,λf V=>z3 f Z⟩ (p.C.r v (by rw[l];simp only[fX.jj];omega) (by rw[l];rfl) (by rw[l];rfl) (λi h=> ?_) (λi h=> ?_) (λr'=>⟨λh=>(by cases h),λh=> ?_⟩) (λh=>by rcases h with h|h|h<;>cases h) (λh=>by cases h) λ_ _=>aM) (by rwa[e]) (λk y L W=> ?_) λf i X B M=>(p.f f i Z B M).app u,rQ<|by rw[l];simp only[fX.rk];omega⟩
 .rw[Q];exact((p.a.C<|Ö Hp.symm).G v)
 .have uq:f+2<=σ.r:=Z
  show∃M B,(w.setChan (σ.I j) F.q O Ï s (σ.C j).iO É).heap[σ.I f]?=Ä (.chan F.q M (decide<|f<(fX.kV J).jj F.n) B (σ.C f).iO É)/\ua F.n f ((fX.kV J).mD F.q) B/\(σ.C f).iO<=B/\M.size=B-(σ.C f).iO/\∀i,i<B-(σ.C f).iO->M[i]?=Ä (F.c<|f+((σ.C f).iO+i)*F.n);have ahu:(fX.kV J).mD F.q=σ.M.mD F.q:=by rw[l];rfl
  rw[ahu];by_cases X:f=j
  .subst X;refine⟨O,s,?_,uk,Lh,yH,yI⟩;rw[AL,show decide (f<(fX.kV J).jj F.n)=Ï from decide_eq_true (by simp only[fX.jj];omega)]
  .rw[qe λq=>X<|p.C.M _ _ uq G q];obtain⟨M,B,y1,y2⟩:=p.M.jL f uq;refine⟨M,B,?_,y2⟩;rw[y1,l];have:decide (f<(fX.kV<|J+1).jj F.n)=decide (f<(fX.kV J).jj F.n):=by
    apply decide_eq_decide.2;simp only[fX.jj];omega
   rw[this]
 .rcases h with h|h|h|h<;>cases h
 .rcases h with h|h|h<;>cases h
 .cases h;omega
 .by_cases I:k=0
  .subst I;rw[q3]at L;obtain rfl:=Ã L;rw[q4]at W;cases W
  .obtain⟨h,B⟩:∃h,E[k]?=Ä h:=by
    have:=iM L;rw[Q]at this;exact⟨_,Ü this⟩
   rw[q5 k h I B]at L;obtain rfl:=Ã L;obtain⟨_,Qy⟩:=ahq W;rcases p.c k h B Qy with⟨h1,_⟩|⟨f,V,M,h2,i|⟨r1,cap,s1,r',i,h4⟩⟩
   .exact absurd h1 I
   .exact Á ⟨f,Z,M,h2,À i⟩
   .have X:f≠j:=λe=>by
     subst e;have Li:=(p.g f V M).2;rw[i,<-h2]at Li;obtain⟨g0,rR⟩:=p.I.X2 B Qy Li;have:=ahp (g0:=g0) (z:=F.z) AL;rw[<-rR,W]at this;cases this
    exact Á ⟨f,Z,M,h2,Á ⟨r1,cap,s1,r',i,by show(w.setChan (σ.I j) _ _ _ _ _ _).heap[σ.I f]?=_;rwa[qe λq=>X<|p.C.M _ _ V G q]⟩⟩
 .rw[(q7 o t a ha).1]at K;cases K
 .rw[(q7 o t a ha).1]at K;cases K
def Lj(F:Ph)(zX:aj->Prop)(qJ:é):Prop:=
 (∀p a,touchAt qJ p=Ä a->a.loc.isMemory=Ï->η qJ 0 p\/((zX a.loc\/∃x:đ,a.loc=ā x/\x.block=F.C)/\a.kind=.atomic))/\qJ.HandedOver
def Qz{f:Nat->Nat}:∀{n:Nat},Ñ n f=0->∀i,i<n->f i=0
 |n+1,h,i,hi=>by
  simp only[Ñ]at h;rcases ø i n with q|q
  .exact Qz Z i q
  .have:i=n:=Z
   subst this;omega
def PI.ahv(H:gU F)(p:PI F n zX σ S d m D E w qJ)(s:E[0]?=Ä g)(M:g.status=Å)(O:d 0=.fF)(f:σ.M=.fC .lb): ∃(o:fV F) (b:Nat->Jd) (B:Nat->gy) (j:Nat->iB) (h:Nat->fh) (c:Array Æ) (W:Ð) (u:é),Ŝ F.P (ò E w sl) 0=(Ģ<|ò c W sl,u)/\c.size=E.size/\PI F n zX o b B j h c W (qJ++u)/\o.M=.gi/\Lj F zX (qJ++u):=by
 have I:=iM s;have J:=p.sZ s M O w<|p.I.r.r _ I;rw[f]at J;let⟨Q,_,g',t,r⟩:=J;have V:=(p.I.r.f _ I).trans Q;have v:∀y:Ć,y.act=Ğ (ľ<|fM F.C)->y.act.touch?=Í:=λy i=>by rw[i];rfl
 have oR:σ.r=F.n+1:=by unfold fV.r;rw[f];rfl
 have a:iY σ .gi σ.I:=mQ (by rw[f];rfl);have e:(iA σ .gi σ.b σ.I).r=σ.r:=a.r;let⟨T,X⟩:=jq r;have K:=lD (λl g h=>À<|H.M _ _ _ h) r;obtain⟨c,y,Y,C,q1,L,q3,q4,q5,q7⟩:=p.AR H (kM .gi) s (t w) ft ft (λy i=>⟨λz l=>(by rw[v y i]at l;cases l),by rw[i];exact p.I.r.N _<|À nD⟩) (λy _ i=>Ax p.I.r.l λk j=>by rw[xa j];exact v y i) X K;have Le:=p.d.C (yx (λk j=>by rw[xa j];exact v y C) (λk j b _ e=>by
  have:k=y:=by simpa using j
  rw[this,C]at e;simp at e))
 have l:=p.C.B<|Á<|À f;refine⟨iA σ .gi σ.b σ.I,_,_,_,_,c,w,_,q1,L,.r (p.N.iA H.C a) (by rw[e];exact L.trans p.b) (by rwa[A0 a]) (q7.G a) (Wd.r p.M a (by rw[f];rfl)<|by rw[f];rfl) (p.C.r a (by rw[f];exact Ç _) (by rw[f];rfl) (by rw[f];rfl) (λb h=> ?_) (λb h=> ?_) (λb=>⟨λh=>(by cases h),λh=>(by cases h)⟩) (λ_=>l) (λh=>by cases h) λ_ h=>absurd rfl h) (by rwa[e]) ?_ λb j q k N=>(p.f b j Z k N).app _,U,p.d.kV Y C V λx uo=> ?_⟩
 .rcases h with h|h|h|h<;>cases h
 .rcases h with h|h|h<;>cases h
 .intro k z b N;by_cases G:k=0
  .subst G;rw[q3]at b;obtain rfl:=Ã b;rcases K with q|q<;>rw[q]at N<;>cases N
  .rw[q4 k G]at b;obtain⟨q,Hz,rfl⟩:=Ú.1 b;let⟨_,hzb⟩:=He N;rcases p.c k q Hz hzb with⟨t,_⟩|⟨j,hj,h,r,h3⟩
   .exact absurd t G
   .exact Á ⟨j,Z,h,r,h3⟩
 .have b:=Qz l x Z;have k:σ.M.ad F.n=F.n+1:=by rw[f];rfl
  unfold fV.G at b;rw[k,if_pos Z]at b;cases h:σ.N x with
  |none=>rw[h]at b;cases b
  |some j=>
   rw[h]at b;refine⟨j,h,?_⟩;cases j with
   |oT=>cases b
   |gi N=>cases N with
    |jH=>cases b
    |_=>trivial
   |jh N=>trivial
end
section
variable{B:Nat->Prop}{S:Nat->Jd}{D:Nat->gy}{G:Nat->iB}{f:Nat->fh}{sl:Option (Nat×Nat)}
def Yd{y:Ć}(b:wQ.act=ar k)(c:y.act=ĸ):wW #[wQ,y]:=by
 intro d a;simp at a;rcases a with rfl|rfl
 .rw[b];exact⟨U,ft⟩
 .rw[c];exact⟨U,ft⟩
def iT.Ha(h:iT i (λm=>m<n) X f w qJ){E:fh}{y:Ć}(G:0<n)(V:wQ.g=0/\wQ.act=ar n)(W:y.g=n/\y.act=ĸ)(n5:af qJ 0=0)(A4:af qJ n=0)(L:∀b,¬E.O b)(lR:∀b,E.I b->(f 0).I b) (I:∀a,E.r a->X a.block/\(∀k,k<n->¬(f k).C a)/\qP qJ 0 (ā a)) (J:∀a,E.N a->(f 0).N a) (lK:∀a,E.K a->(f 0).K a) (lKO:∀k,k<n->∀a,(f k).K a->¬E.r a) (ld:E.d=0) (lw:E.w=w) (Y:∀b,X b->B b) (Ye:∀b,B b->X b\/(b<w.heap.size/\∀m,m<n->¬(f m).M b)):iT i (λm=>m<n+1) B (gw f n E) w (qJ++#[wQ,y]):=by
 have N:=Yd V.2 W.2;have v:∀m,m<n+1->m=n\/m<n:=λm t=>by omega
 have D:gw f n E n=E:=gY _ _ _;have z:∀m,m<n->gw f n E m=f m:=λm t=>gJ f _ Z;have P:∀b,E.M b->(f 0).I b:=λb s=>s.elim (λq=>absurd q (L b)) (lR b);have Yf:=λm t b s Om=>(Ye b Om).elim (h.I m t b s) (λq=>q.2 m t s);refine⟨λm j t Q T b s=> ?_,λm j t Q T a r=> ?_,λm t b s=> ?_,λm t a r=> ?_,λm t b s=> ?_,λm t a r=> ?_,λm t b s=> ?_,λb s=> ?_,λm t=> ?_,λm t=> ?_,λm t=> ?_,Ax h.l λu F=>(N u F).1,λu F=> ?_,λp a c r hl hk=> ?_,λm t a r=> ?_⟩
 .rcases v m t with rfl|o
  .rw[D]at s;exact absurd s (L b)
  .rw[z m o]at s;rcases v j Q with rfl|H
   .rw[D];intro q;by_cases e:m=0
    .subst e;exact h.m _ o b s (P b q)
    .exact h.o m 0 o G e b s (Á (P b q))
   .rw[z j H];exact h.o m j o H T b s
 .rcases v m t with rfl|o
  .rw[D]at r;rcases v j Q with rfl|H
   .exact absurd U T
   .rw[z j H];exact(I a r).2.1 j H
  .rw[z m o]at r;rcases v j Q with rfl|H
   .rw[D];rintro(q|q)
    .exact(I a q).2.1 m o (À r)
    .by_cases e:m=0
     .subst e;exact h.g _ o a r (J a q)
     .exact h.h m 0 o G e a r (Á (J a q))
   .rw[z j H];exact h.h m j o H T a r
 .rcases v m t with rfl|o
  .rw[D]at s;exact absurd s (L b)
  .rw[z m o]at s|-;exact h.m m o b s
 .rcases v m t with rfl|o
  .rw[D]at r|-;exact λq=>(I a r).2.1 0 G (Á (J a q))
  .rw[z m o]at r|-;exact h.g m o a r
 .rcases v m t with rfl|o
  .rw[D]at s;exact Yf 0 G b (Á (P b s))
  .rw[z m o]at s;exact Yf m o b s
 .rcases v m t with rfl|o
  .rw[D]at r;exact Y _ (r.elim (λq=>(I a q).1) (λq=>h.e 0 G a (Á (J a q))))
  .rw[z m o]at r;exact Y _ (h.e m o a r)
 .rcases v m t with rfl|o
  .rw[D]at s;exact h.fx 0 G b (Á (P b s))
  .rw[z m o]at s;exact h.fx m o b s
 .exact(Ye b s).elim (h.N b) (λq=>q.1)
 .rcases v m t with rfl|o
  .rw[D,lw];exact fK.fW _ _
  .rw[z m o];exact h.r m o
 .rcases v m t with rfl|o
  .rw[D];have e:=λl=>af6 V W n5 A4 (l:=l);exact⟨λa r=>absurd r (L _),λa r=>(e _).2 ((h.S 0 G).C a (lR _ r)),λa r=>(e _).1 (I a r).2.2,λa r=>(e _).2 ((h.S 0 G).r a (J _ r))⟩
  .rw[z m o];have e:∀u∈#[wQ,y],∀b,u.act.touch?=Ä b->False:=λu F b s=>by rw[(N u F).1]at s;cases s
   exact⟨λa r=>((h.S m o).fu a r).C λu F b s _=>(e u F b s).elim,λa r=>((h.S m o).C a r).r λu F b s _ _=>(e u F b s).elim,λa r=>((h.S m o).I a r).C λu F b s _=>(e u F b s).elim,λa r=>((h.S m o).r a r).r λu F b s _ _=>(e u F b s).elim⟩
 .rw[KL N];rcases v m t with rfl|o
  .rwa[D,ld]
  .rw[z m o];exact h.f m o
 .refine(Array.mem_append.1 F).elim (h.q u) λq=> ?_;simp at q;rcases q with rfl|rfl
  .rw[V.2];trivial
  .rw[W.2];trivial
 .rcases mS r with⟨_,e⟩|⟨_,u,e,H,_⟩
  .exact h.s p a c e hl hk
  .rw[(N u e).1]at H;cases H
 .obtain⟨e,o,H⟩:∃e,e<n/\(f e).K a:=by
   rcases v m t with rfl|o
   .rw[D]at r;exact⟨0,G,lK a r⟩
   .rw[z m o]at r;exact⟨m,o,r⟩
  let⟨z1,z2⟩:=h.n e o a H;refine⟨Y _ z1,λk hk q=> ?_⟩;rcases v k hk with rfl|tY
  .rw[D]at q;exact lKO e o a H q
  .rw[z k tY]at q;exact z2 k tY q
def gN.Ha(q:gN P i X S D G f E w qJ){c b:Æ}{J r:Jd}{T s:gy}{K Kc:iB}{m n:fh}(t:E[0]?=Ä g)(L:í P Ï g w=.spawn c b w #[]) (M:∀x y:Ć,(x.g=0/\x.act=ar E.size)->(y.g=E.size/\y.act=ĸ)->iT i (λa=>a<E.size+1) B (gw (gw f 0 m) E.size n) w (qJ++#[x,y])) (hF:k9 P Ï J T m c) (N:c.status=Å) (O:k9 P É r s n b) (Q:b.status=Å): ∃d x y,(x.g=0/\x.act=ar E.size)/\(y.g=E.size/\y.act=ĸ)/\Ŝ P (ò E w sl) 0=(Ģ<|ò d w sl,#[x,y])/\d.size=E.size+1/\d[0]?=Ä c/\d[E.size]?=Ä b/\(∀k,k≠0->k<E.size->d[k]?=E[k]?)/\ gN P i B (fA (fA S 0 J) E.size r) (fA (fA D 0 T) E.size s) (fA (fA G 0 K) E.size Kc) (gw (gw f 0 m) E.size n) d w (qJ++#[x,y]):=by
 have V:=(Ò.1 t).1;have u:=runT_crowd_spawn (sl:=sl) t L;obtain⟨x,v⟩:∃x:Ć,x={g:=0,fn:=g.frame.fn,pos:=g.frame.place,act:=ar E.size}:=⟨_,U⟩;obtain⟨y,C⟩:∃y:Ć,y={g:=E.size,fn:=b.frame.fn,pos:=g.frame.place,act:=ĸ}:=⟨_,U⟩;have e:((Ý 0 g.frame.fn g.frame.place #[]).push {g:=0,fn:=g.frame.fn,pos:=g.frame.place,act:=ar E.size}).push {g:=E.size,fn:=b.frame.fn,pos:=g.frame.place,act:=ĸ}=#[x,y]:=by rw[v,C];simp[Ý]
 rw[e]at u;have o:x.g=0/\x.act=ar E.size:=by rw[v];exact⟨U,U⟩
 have p:y.g=E.size/\y.act=ĸ:=by rw[C];exact⟨U,U⟩
 have F:((E.setIfInBounds 0 c).push b)[0]?=Ä c:=by rw[Ă,if_neg (by simp;omega),Array.getElem?_setIfInBounds_self_of_lt V]
 have H:((E.setIfInBounds 0 c).push b)[E.size]?=Ä b:=by rw[Ă,if_pos ft]
 have I:∀k,k≠0->k<E.size->((E.setIfInBounds 0 c).push b)[k]?=E[k]?:=λk W h2=>by rw[Ă,if_neg (by simp;omega),á<|õ W]
 refine⟨_,x,y,o,p,u,ft,F,H,I,?_,λk z d=> ?_,λj Y=> ?_⟩
 .rw[show(λa=>a<((E.setIfInBounds 0 c).push b).size)=(λa=>a<E.size+1) by simp];exact M x y o p
 .have Ho:k<E.size+1:=by have:=(Ò.1 d).1;simpa using this
  by_cases l:k=E.size
  .subst l;rw[H]at d;obtain rfl:=Ã d;rw[gD,gD,gD,gY,show(E.size==0)=É from beq_eq_false_iff_ne.2 Z];exact⟨b,O,.gp,À Q,À U⟩
  .rw[fL _ _ l,fL _ _ l,fL _ _ l,gJ _ _ l];by_cases h:k=0
   .subst h;rw[F]at d;obtain rfl:=Ã d;rw[gD,gD,gD,gY];exact⟨c,hF,.gp,À N,À U⟩
   .rw[I k h Z]at d;rw[fL _ _ h,fL _ _ h,fL _ _ h,gJ _ _ h];exact q.C k z d
 .rw[KL<|Yd o.2 p.2];exact q.I j<|by simp at Y;omega
end
section
variable{F:Ph}{σ I:fV F}{S:Nat->Jd}{D N:Nat->gy}{G:Nat->iB}{f:Nat->fh}{o:Array Æ}{u:é}{sl:Option (Nat×Nat)}
def ahw(ok:F.Ok)(h:i≠n)(c:lS F i a)(d:lS F n a):False:=by
 have m:∀{i n:Nat},i=0->n≠0->lS F i a->lS F n a->False:=by
  intro i n f g c d;unfold lS at c d;rw[if_pos f]at c;rw[if_neg g]at d;let⟨k,p,o,e⟩:=c;let⟨b,l,q,j⟩:=d;rcases e with e|e
  .rw[j]at e;have:F.Y=F.I k:=by injection e
   exact ok.I<|Á ⟨k,o,this⟩
  .rw[j]at e;exact ok.PW b k l p o<|by injection e
 by_cases f:i=0
 .exact m f Z c d
 .by_cases g:n=0
  .exact m g f d c
  .unfold lS at c d;rw[if_neg f]at c;rw[if_neg g]at d;let⟨b,l,q,j⟩:=c;let⟨o,k,p,e⟩:=d;rw[j]at e;have:=ok.a _ _ l k (by injection e);subst this;omega
def ahx(ok:F.Ok)(h:lS F i a):(∃k,k<=F.m/\a=jk F.toFx k)\/∃p,p≠F.f/\a=jv F p:=by
 unfold lS at h;by_cases c:i=0
 .rw[if_pos c]at h;obtain⟨k,e,d,b|b⟩:=h
  .exact À ⟨k,d,b⟩
  .exact Á ⟨_,ok.Y.1 k e d,b⟩
 .rw[if_neg c]at h;let⟨k,b,_,d⟩:=h;exact Á ⟨_,ok.Y.2 k b,d⟩
def vA(F:Ph)(j:Nat):fX:=if j<F.n then .iF (j+1)else .iL F.q
def yS(σ:fV F)(j:Nat):fV F:={σ with M:=vA F j}
def PI.ahy(H:gU F)(p:PI F j zX σ S D G f E w qJ)(hi:E[0]?=Ä g)(jd:g.status=Å)(ht:D 0=.fF)(hx:σ.M=.go m): ∃(I:fV F) (c:Nat->Jd) (N:Nat->gy) (r:Nat->iB) (s:Nat->fh) (o:Array Æ) (W:Ð) (u:é),Ŝ F.P (ò E w sl) 0=(Ģ<|ò o W sl,u)/\o.size=E.size+1/\I.M≠ .gi/\PI F j zX I c N r s o W (qJ++u):=by
 have gH:=iM hi;have C:=p.I.r;have L:=p.a;have hL1:=H.C.r;have hn:=H.C.C;have yD:=p.C.C m<|À hx;have oR:σ.r=m:=by unfold fV.r;rw[hx];rfl
 have jx:E.size=F.L+m:=by rw[p.b,oR]
 have hJ:=p.sZ hi jd ht w<|C.r _ gH;rw[hx]at hJ;obtain⟨hd,g',child,X,Yg,Av,yF,hX,A6,ahz,ahA⟩:=H.go m σ.I _ g yD hJ<|C.M gH;have hd:=hd;have hX:=hX;have A6:=A6;have n5:=(C.f _ gH).trans hd;have A4:=p.I.I _<|Ç _;have nq:=L.M 0<|À U;obtain⟨m',uu⟩:∃m',m'=vA F m:=⟨_,U⟩;have uw:(m<F.n/\m'=.iF (m+1))\/(m=F.n/\m'=.iL F.q):=by
  rw[uu];unfold vA;by_cases q:m<F.n
  .exact À ⟨q,if_pos q⟩
  .exact Á ⟨Z,if_neg q⟩
 have as7:m'.sp F.n=m+1:=by rcases uw with⟨_,rfl⟩|⟨q,rfl⟩<;>simp only[fX.sp];omega
 have ahB:m'.ad F.n=m+1:=by rcases uw with⟨_,rfl⟩|⟨q,rfl⟩<;>simp only[fX.ad];omega
 have QA:m'.mD F.q=0:=by rcases uw with⟨_,rfl⟩|⟨q,rfl⟩<;>simp[fX.mD]
 have hmh:m'.jj F.n=0:=by rcases uw with⟨_,rfl⟩|⟨q,rfl⟩<;>rfl
 have hmr:m'.gE=0:=by rcases uw with⟨_,rfl⟩|⟨q,rfl⟩<;>rfl
 have HB:(∀v,m'≠ .fC v)/\m'≠ .gi:=by rcases uw with⟨_,rfl⟩|⟨q,rfl⟩<;>exact⟨λv h=>(by cases h),λh=>(by cases h)⟩
 have hkM:kM m'=.no:=by rcases uw with⟨_,rfl⟩|⟨q,rfl⟩<;>rfl
 obtain⟨l0,mG⟩:∃l0:fh,l0={f 0 with O:=λb=>(f 0).O b/\¬X b/\(1<=m->b≠σ.I (m-1)),I:=λb=>X b\/(f 0).I b,r:=λa=>(f 0).r a/\¬lS F m a,w:=w}:=⟨_,U⟩;obtain⟨lc,kr⟩:∃lc:fh,lc={O:=λ_=>False,I:=λb=>X b\/(f 0).I b,r:=lS F m,N:=(f 0).N,K:=(f 0).K,d:=0,q:=False,w:=w}:=⟨_,U⟩;have Yh:iT F.S (λi=>i<E.size) σ.Y (gw f 0 l0) w qJ:=by
  rw[mG];refine C.C gH (λ_ q=>q.1) (λb q=>À<|q.elim (λz=>À<|hX b z) Á) (λ_ q=>q.1) (λa q=>À<|Á q) U U U (λb Q q=> ?_) λa J q=>C.g _ gH a J.1 q;rcases q with q|q
  .exact Q.2.1 q
  .exact C.m _ gH b Q.1 q
 have z0:gw f 0 l0 0=l0:=gY _ _ _;have A7:=L.o m Z yD;have nF:(yS σ m).r=m+1:=by show(vA F m).sp F.n=_;rwa[<-uu]
 have Yi:∀b,(yS σ m).Y b->σ.Y b\/(1<=m/\b=σ.I (m-1)):=λb Q=>by
  rcases Q with q|q|⟨l,t,B⟩
  .exact À<|À q
  .exact À<|Á<|À q
  .rw[nF]at t;by_cases e:l+1=m
   .exact Á ⟨Z,by rw[B,show l=m-1 by omega];rfl⟩
   .exact À<|Á<|Á ⟨l,Z,B⟩
 have QB:∀x y:Ć,(x.g=0/\x.act=ar E.size)->(y.g=E.size/\y.act=ĸ)->iT F.S (λi=>i<E.size+1) (yS σ m).Y (gw (gw f 0 l0) E.size lc) w (qJ++#[x,y]):=λx y Ll Lm=>by
  refine Yh.Ha gH Ll Lm n5 A4 (by rw[kr];exact λb q=>q) (by rw[z0,kr,mG];exact λb q=>q) (λa J=> ?_) (by rw[z0,kr,mG];exact λb q=>q) (by rw[z0,kr,mG];exact λb q=>q) (λk hk a J q=> ?_) (by rw[kr]) (by rw[kr]) (λb Q=> ?_) λb Q=> ?_
  .have r:lS F m a:=by rwa[kr]at J
   have c:=A7 a r;refine⟨C.e 0 gH a<|À c,λk hk q=> ?_,(C.S 0 gH).I a c⟩;by_cases e:k=0
   .subst e;rw[z0,mG]at q;rcases q with q|q
    .exact q.2 r
    .exact C.g 0 gH a c q
   .rw[gJ _ _ e]at q;exact C.h 0 k gH hk (õ e) a c q
  .have c:(f k).K a:=by
    by_cases e:k=0
    .subst e;rwa[z0,mG]at J
    .rwa[gJ _ _ e]at J
   rw[kr]at q;exact(C.n k hk a c).2 0 gH<|A7 a q
  .rcases Q with q|q|⟨l,t,B⟩
   .exact À q
   .exact Á<|À q
   .exact Á<|Á ⟨l,by rw[nF];omega,B⟩
  .rcases Yi b Q with q|⟨t,rfl⟩
   .exact À q
   .obtain⟨a1,a2,a3,a4⟩:=A6 t;refine Á ⟨C.fx 0 gH _<|À a1,λi ly q=> ?_⟩;by_cases e:i=0
    .subst e;rw[z0,mG]at q;rcases q with q|q|q
     .exact q.2.2 t U
     .exact a2 q
     .exact C.m 0 gH _ a1 q
    .rw[gJ _ _ e]at q;exact C.o 0 i gH ly (õ e) _ a1 q
 have hWm:fp F.P Ï (JM F σ.I m') l0 g':=by
  have r:=Yh.M gH;rw[z0]at r;have s:{l0 with w:=w}=l0:=by rw[mG]
  rw[s]at r;have:=ahA l0 r (by rw[mG]) (λb q=>by rwa[mG]) (by rw[mG]) (by rwa[mG]) (by rw[mG]) (by rw[mG]) (by rw[mG]) (λa q=>by rw[mG]at q;exact q.1);rw[uu];unfold vA;exact this
 have QC:∀b,lc.M b->(f 0).M b:=λb Q=>by
  rw[kr]at Q;rcases Q with q|q|q
  .exact q.elim
  .exact À<|hX b q
  .exact Á q
 have Yj:∀a,lc.C a->(f 0).C a:=λa J=>by rw[kr]at J;exact J.elim (λq=>À<|A7 a q) Á
 have QD:lc.w=w:=by rw[kr]
 have ahC:gB lc:=⟨λb Q=>(by rw[kr]at Q;exact Q.elim),λa J q=>(by rw[kr]at J q;exact C.g 0 gH a (A7 a J) q),λa J Q=>C.I 0 gH _ (QC _ Q)<|C.e 0 gH a<|Yj a J,λb Q=>(by rw[QD];exact C.fx 0 gH b<|QC b Q),λa J=>(by rw[QD];exact C.N _<|C.e 0 gH a<|Yj a J),λa J=>by
  have c:(f 0).K a:=by rwa[kr]at J
  obtain⟨k1,k2⟩:=C.n 0 gH a c;exact⟨λq=>C.I 0 gH _ (QC _ q) k1,by rw[QD];exact C.N _ k1,λq=>by rw[kr]at q;exact k2 0 gH (A7 a q)⟩⟩
 have hWc:=ahz lc ahC (λb q=>by rwa[kr]) (by rw[kr]) (by rw[kr]) (by rw[kr];exact λq=>q) (λb=>by rw[kr];exact λq=>q) (by rw[kr]) (by rw[kr]) (λa q=>A7 a<|by rwa[kr]at q);obtain⟨T,hT⟩:=jq hWm;obtain⟨Tc,hTc⟩:=jq hWc;obtain⟨o,x,y,Ll,Lm,q1,q2,q3,q4,q5,q6⟩:=p.I.Ha (Kc:=if m=0 then .no else kW F (σ.I<|m-1) (.nz 0)) hi (yF w) QB hT Yg hTc Av;have cs:∀i,i<E.size+1->i=E.size\/i=0\/(i≠0/\i<E.size):=λi hi=>by omega
 have es:gw (gw f 0 l0) E.size lc E.size=lc:=gY _ _ _;have e0:gw (gw f 0 l0) E.size lc 0=l0:=by rwa[gJ _ _ Z]
 have en:∀i,i≠0->i≠E.size->gw (gw f 0 l0) E.size lc i=f i:=λi t B=>by rw[gJ _ _ B,gJ _ _ t]
 have xc:=p.C.z;have Lf:=p.C.h m Z;have ahD:∀y,σ.lT y->y<m:=λy ⟨e,t,_⟩=>ó λq=>by rw[p.C.h y Z]at t;cases t
 have QF:∀i,i<E.size+1->∀a,(gw (gw f 0 l0) E.size lc i).r a->∃k,k<E.size/\(f k).r a:=λi hi a J=>by
  rcases cs i hi with rfl|rfl|⟨t,B⟩
  .rw[es,kr]at J;exact⟨0,gH,A7 a J⟩
  .rw[e0,mG]at J;exact⟨0,gH,J.1⟩
  .rw[en i t Z]at J;exact⟨i,B,J⟩
 refine⟨yS σ m,_,_,_,_,o,w,_,q1,q2,(by show vA F m≠ .gi;rw[<-uu];exact HB.2),.r ⟨?_,λt B=> ?_,λl t B=> ?_,λy e t B=> ?_,λi t B=> ?_⟩ (by rw[q2,nF,jx];omega) q6 ?_ ?_ ?_ ?_ (λk z hk Q=> ?_) λl r2 a1 a2 a3=> ?_⟩
 .have c:(0:Nat)≠E.size:=Z
  rw[fL _ _ c,gD,fL _ _ c,gD];rw[uu];exact⟨U,U⟩
 .by_cases e:m=0
  .have c:E.size=F.L:=Z
   rw[c,gD,gD,if_pos e,if_pos e];show F.h 0=JI F σ.c σ.S/\_;rw[p.C.J Z];exact⟨U,U⟩
  .rw[fL _ _ Z,fL _ _ Z,fL _ _ Z,fL _ _ Z];exact p.m Z B
 .rw[nF]at t;by_cases e:l+1=m
  .have c:F.L+1+l=E.size:=Z
   rw[c,gD,gD,if_neg Z,if_neg Z];show En F (σ.I<|m-1) (m-1) 0=JW F (σ.I l) l (σ.C l)/\_=kW F (σ.I l) (σ.C l);rw[xc l Z,show m-1=l by omega];exact⟨U,U⟩
  .rw[fL _ _ Z,fL _ _ Z,fL _ _ Z,fL _ _ Z];exact p.g l Z B
 .have s:=ó λq=>by
   have r:σ.N y=Ä e:=B;rw[p.C.h y Z]at r;cases r
  rw[fL _ _ Z,fL _ _ Z,fL _ _ Z,fL _ _ Z,fL _ _ Z,fL _ _ Z];exact p.k y e Z B
 .rw[fL _ _ Z,fL _ _ Z,fL _ _ Z,fL _ _ Z,fL _ _ Z,fL _ _ Z];exact p.l i t B
 .rw[q2];obtain⟨f1,f2⟩:=L.lO Z;refine⟨λi ly a J=> ?_,λy t B a J=> ?_,λ_=> ?_,λ_ k t B=> ?_,λ_ B=> ?_,λl t B r h3 h4=> ?_,λl t B=> ?_,λy s=> ?_,λi ly=> ?_,λi t B=> ?_,λk hk b Q=> ?_,λk hk i ly q=> ?_,λk t B i ly q=> ?_,λl t r B h3 i ly q=> ?_⟩
  .rcases cs i ly with rfl|rfl|⟨t,B⟩
   .rw[es,kr]at J;rcases J with q|q
    .exact ahx H.C q
    .exact L.gX 0 gH a<|Á q
   .rw[e0,mG]at J;rcases J with q|q
    .exact L.gX 0 gH a<|À q.1
    .exact L.gX 0 gH a<|Á q
   .rw[en i t Z]at J;exact L.gX i B a J
  .rw[nF]at t;rw[e0,mG];exact⟨L.o y Z B a J,λq=>ahw H.C Z q J⟩
  .rw[e0,mG];exact⟨f1,λb Q=>Á<|f2 b Q⟩
  .have vz:=t;by_cases e:m=0
   .have c:F.L=E.size:=Z
    rw[c,es,kr];exact⟨by show lS F m _;unfold lS;rw[if_pos e];exact⟨k,Z,B,À U⟩,by show lS F m _;unfold lS;rw[if_pos e];exact⟨k,Z,B,Á U⟩⟩
   .rw[en F.L Z Z];exact L.e Z k vz B
  .by_cases e:m=0
   .have c:F.L=E.size:=Z
    rw[c,es,kr];show(f 0).N (jk F.toFx σ.S.md)/\∀b,σ.V σ.S.md b->X b\/(f 0).I b;rw[p.C.J Z];show(f 0).N (jk F.toFx 0)/\∀b,σ.V 0 b->X b\/(f 0).I b;rw[p.C.v];exact⟨f1,λb Q=>Á<|f2 b Q⟩
   .rw[en F.L Z Z];exact L.f Z B
  .rw[nF]at t;by_cases e:l+1=m
   .have c:F.L+1+l=E.size:=Z
    rw[c,es,kr];show lS F m _;unfold lS;rw[if_neg Z];exact⟨_,h3,by rw[Ę,ň Z];omega,U⟩
   .rw[en _ Z Z];exact L.h l Z B r h3 h4
  .rw[nF]at t;by_cases e:l+1=m
   .have c:F.L+1+l=E.size:=Z
    rw[c,es,kr];exact⟨f1,λb Q=>Á<|f2 b Q⟩
   .rw[en _ Z Z];exact L.l l Z B
  .have:=ahD y s;rw[en _ Z Z];exact L.S y s
  .rcases ly with rfl|⟨y,t,rfl,h3⟩
   .rwa[e0,mG]
   .rw[nF]at t;by_cases e:y=m
    .subst e;rw[<-jx,es,kr];exact λq=>q
    .rw[en _ Z Z];exact L.M _<|Á ⟨y,Z,U,h3⟩
  .rw[en i Z Z];exact L.c i t B
  .obtain⟨b1,b2,c⟩:=L.I k hk b Q;refine⟨b1,λq=> ?_,λi ly q=> ?_⟩
   .rcases Yi b q with q|⟨t,rfl⟩
    .exact b2 q
    .exact c 0 gH (A6 t).1
   .rcases cs i ly with rfl|rfl|⟨t,B⟩
    .rwa[es,kr]at q
    .rw[e0,mG]at q;exact c 0 gH q.1
    .rw[en i t Z]at q;exact c i B q
  .obtain⟨c,a1,a2⟩:=QF i ly _ q;exact L.N k hk c a1 a2
  .obtain⟨c,a1,a2⟩:=QF i ly _ q;exact L.g k t B c a1 a2
  .rw[nF]at t;have oX:r<(σ.C l).kB:=h3;obtain⟨c,a1,a2⟩:=QF i ly _ q;by_cases e:l+1=m
   .rw[xc l Z]at oX;simp only[gO.kB]at oX;omega
   .exact L.d l Z r B oX c a1 a2
 .have c:=p.M;refine⟨c.C,c.I,λl t=> ?_,c.M,c.S,λl t r B h3=> ?_⟩
  .rw[nF]at t;show∃buf s,w.heap[σ.I l]?=Ä (.chan F.q buf (decide<|l<(vA F m).jj F.n) s (σ.C l).iO É)/\ua F.n l ((vA F m).mD F.q) s/\(σ.C l).iO<=s/\buf.size=s-(σ.C l).iO/\∀i,i<s-(σ.C l).iO->buf[i]?=Ä (F.c<|l+((σ.C l).iO+i)*F.n);rw[<-uu,hmh,QA];by_cases e:l+1=m
   .rw[xc l Z];obtain⟨a1,a2,a3,a4⟩:=A6 Z;rw[show m-1=l by omega]at a3;refine⟨#[],0,by rw[a3];rfl,λi=>⟨λq=>by omega,λq=>by omega⟩,Ç _,U,λi ly=> ?_⟩;simp only[gO.iO]at ly;omega
   .have:=c.jL l Z;rwa[hx]at this
  .rw[nF]at t;have oX:r<(σ.C l).kB:=h3;by_cases e:l+1=m
   .rw[xc l Z]at oX;simp only[gO.kB]at oX;omega
   .exact c.N l Z r B oX
 .have h:=p.C;have eo:(yS σ m).G=σ.G:=by
   funext y;have t:(yS σ m).M.ad F.n=σ.M.ad F.n:=by show(vA F m).ad F.n=_;rw[<-uu,ahB,hx];rfl
   unfold fV.G;rw[t];rfl
  have QG:(yS σ m).M.gE=σ.M.gE:=by show(vA F m).gE=_;rw[<-uu,hmr,hx];rfl
  have emp:(yS σ m).M=m':=uu.symm;refine⟨h.v,λl q=> ?_,λl q=> ?_,λr=>⟨λq=> ?_,λq=> ?_⟩,λq=>by omega,h.I,λl q=>h.z l Z,λl r rS qg=> ?_,λl rS qg=> ?_,h.f,λy q=>h.h y Z,λl j3 rS qg q3'=> ?_,λl q=> ?_,λc reg hc=> ?_,λreg hc=> ?_,λr s hc=> ?_,h.N,λq=> ?_,h.e,h.Y,λl r rS qg=> ?_,λl r rS qg=> ?_,λq=> ?_,λ_ _=>h.S (λv q=>by rw[hx]at q;cases q) (λq=>by rw[hx]at q;cases q),h.y,λl r rS qg=> ?_⟩
  .rw[emp]at q;rcases uw with⟨_,rfl⟩|⟨_,rfl⟩<;>rcases q with q|q|q|q<;>cases q;omega
  .rw[emp]at q;rcases uw with⟨_,rfl⟩|⟨_,rfl⟩<;>rcases q with q|q|q<;>cases q;omega
  .rw[emp]at q;rcases uw with⟨_,rfl⟩|⟨_,rfl⟩<;>cases q;exact Ç _
  .rw[emp]at q;rcases uw with⟨_,rfl⟩|⟨_,rfl⟩<;>cases q
  .rw[nF]at rS;by_cases e:l+1=m
   .have oY:(∃p,σ.C l=.fC r p)\/σ.C l=.jM r\/σ.C l=.oQ r:=qg;rw[xc l Z]at oY;rcases oY with⟨_,q⟩|q|q<;>cases q
   .exact h.d l r Z qg
  .rw[nF]at rS;have oY:σ.N (l+1)≠Í:=qg;have:l+1<m:=ó λq=>oY<|h.h _ Z;obtain⟨a,_⟩:=h.l l Z oY;rw[hx]at a;simp only[fX.jj]at a;omega
  .rw[nF]at rS qg;have QH:σ.I l=σ.I j3:=q3';have key:∀a b,a+1=m->b+2<=σ.r->σ.I a=σ.I b->False:=λa b J Q he=>by
    have t:=(A6 Z).1;rw[show m-1=a by omega,he]at t;exact C.I 0 gH _ (À t)<|Á<|Á ⟨b,Q,U⟩
   by_cases e:l+1=m
   .by_cases e':j3+1=m
    .omega
    .exact(key l j3 e Z QH).elim
   .by_cases e':j3+1=m
    .exact(key j3 l e' Z QH.symm).elim
    .exact h.M l j3 Z Z QH
  .rw[nF]at q;show¬F.M (σ.I l)/\σ.I l≠F.Y/\F.S<=σ.I l;by_cases e:l+1=m
   .obtain⟨a1,_,_,a4⟩:=A6 Z;rw[show m-1=l by omega]at a1 a4;have Yk:=C.I 0 gH _<|À a1;exact⟨λq=>Yk<|À q,λq=>Yk<|Á<|À q,a4⟩
   .exact h.o l Z
  .rw[eo,QG];exact h.t c reg hc
  .rw[eo,QG];obtain⟨a1,a2,y,a3,a4⟩:=h.g reg hc;exact⟨a1,a2,y,Z,a4⟩
  .rw[eo,QG];obtain⟨a1,a2,a3⟩:=h.u r s hc;refine⟨a1,a2,λhr=> ?_⟩;obtain⟨y,b1,b2⟩:=a3 hr;exact⟨y,Z,b2⟩
  .rw[emp]at q;rcases q with q|q|q
   .exact absurd q<|HB.1 _
   .exact absurd q<|HB.1 _
   .exact absurd q HB.2
  .rw[nF]at rS;by_cases e:l+1=m
   .have oY:σ.C l=.fC r .gG\/σ.C l=.fC r .lb\/σ.C l=.jM r:=qg;rw[xc l Z]at oY;rcases oY with q|q|q<;>cases q
   .exact h.w l r Z qg
  .rw[nF]at rS;by_cases e:l+1=m
   .have oY:σ.C l=.fC r .gG:=qg;rw[xc l Z]at oY;cases oY
   .exact h.H l r Z qg
  .rw[emp]at q;exact absurd q<|HB.1 _
  .rw[nF]at rS;by_cases e:l+1=m
   .have oY:σ.C l=.fC r .wr:=qg;rw[xc l Z]at oY;cases oY
   .exact h.D l r Z qg
 .rw[nF];have c:=p.d;rw[oR]at c;rw[jx]at Ll Lm A4;exact c.Ha Ll Lm n5 A4 (λ⟨e,t,_⟩=>by rw[Lf]at t;cases t) λy ⟨e,t,_⟩=>ó λq=>by rw[p.C.h y Z]at t;cases t
 .have r:=iM hk;rcases cs k Z with rfl|rfl|⟨k1,k2⟩
  .rw[q4]at hk;obtain rfl:=Ã hk;rw[Av]at Q;cases Q
  .rw[q3]at hk;obtain rfl:=Ã hk;rw[Yg]at Q;cases Q
  .rw[q5 k k1 k2]at hk;rcases p.c k z hk Q with⟨t,_⟩|⟨l,s,c,B,h3⟩
   .exact absurd t k1
   .exact Á ⟨l,Z,c,B,h3⟩
 .rw[nF]at a1;by_cases e:l+1=m
  .have oY:σ.C l=.jM r2:=a2;rw[xc l Z]at oY;cases oY
  .exact(p.f l r2 Z a2 a3).app _
end
section
variable{F:Ph}{σ σ':fV F}{S:Nat->Jd}{tr o:Nat->gy}{m:Nat->iB}{lot:Nat->fh}{gs gs':Array Æ}{w':Ð}{t u:é}{sl:Option (Nat×Nat)}{sz:Nat}
def PI.at(H:gU F)(p:PI F i zX σ S tr m lot gs w t)(d:Nat):PI F i zX σ S tr m lot gs (w.at d) t:= ⟨p.b,p.I.at d,p.h,p.m,p.g,p.k,p.l,p.a.Ey<|Ç _,⟨⟨p.M.C.C,p.M.C.M,p.M.C.I,p.M.C.N,p.M.C.r⟩,λk a=>⟨(p.M.I k a).C,(p.M.I k a).M,(p.M.I k a).I,(p.M.I k a).N,(p.M.I k a).r⟩,p.M.jL,λk a=>⟨(p.M.M k a).1,H.S _ _ _ _ _ (p.M.M k a).2 (λ_ _=>rfl) U U U ⟨U,U⟩⟩,p.M.S,p.M.N⟩,p.C,p.d,p.c,p.f⟩
def Go1(F:Ph)(i:Nat)(zX:aj->Prop)(gs:Array Æ)(w:Ð)(t:é)(sl:Option (Nat×Nat))(a:Nat):Prop:=
 ∃(σ':fV F) (b:Nat->Jd) (o:Nat->gy) (c:Nat->iB) (d:Nat->fh) (gs':Array Æ) (w':Ð) (u:é),Ŝ F.P (ò gs w sl) a=(Ģ<|ò gs' w' sl,u)/\gs'.size=gs.size+1/\σ'.M≠ .gi/\PI F i zX σ' b o c d gs' w' (t++u)
def ahE(F:Ph)(i:Nat)(zX:aj->Prop)(gs:Array Æ)(w:Ð)(t:é)(sl:Option (Nat×Nat))(a:Nat):Prop:=
 ∃(σ':fV F) (b:Nat->Jd) (o:Nat->gy) (c:Nat->iB) (d:Nat->fh) (gs':Array Æ) (w':Ð) (u:é),Ŝ F.P (ò gs w sl) a=(Ģ<|ò gs' w' sl,u)/\gs'.size=gs.size/\PI F i zX σ' b o c d gs' w' (t++u)/\σ'.M=.gi/\Lj F zX (t++u)
def PI.ahF(H:gU F)(p:PI F i zX σ S tr m lot gs w t)(l:σ.M≠ .gi)(a:gs[n]?=Ä g)(c:g.status=Å):j1 F i zX σ tr gs w t sl n\/rM F i zX σ tr gs w t\/Go1 F i zX gs w t sl n\/ahE F i zX gs w t sl n:=by
 have z:=iM a;have B:=p.b;cases b:tr n with
 |jO k=>
  obtain⟨gs',w',u,o,e,d,f,j,q⟩:=p.fu H a b;exact À ⟨σ,S,o,m,e,gs',w',u,d,f,λh=>h,j,q⟩
 |fF=>
  by_cases s:n=0
  .subst s;cases h:σ.M with
   |go j=>exact Á<|Á<|À<|p.ahy H a c b h
   |lC j=>exact Á<|À<|p.ahc H a c b h
   |rd j=>exact À<|p.ahd H a c b h
   |iF j=>exact À<|p.ahf H a c b h
   |iL r=>cases r with
    |zero=>exact Á<|À<|p.ahg H a c b h
    |succ r=>exact À<|p.ahr H a c b h
   |kV r=>cases r with
    |zero=>exact Á<|À<|p.ahh H a c b h
    |succ r=>exact À<|p.aht H a b h
   |fC v=>cases v with
    |iZ=>exact Á<|À<|p.ahi H a c b h
    |lX q=>exact À<|p.ahj H a c b h
    |wr=>exact À<|p.ahk H a c b h
    |kz=>exact À<|p.ahm H a c b h
    |gG=>exact À<|p.ahl H a c b h
    |lb=>exact Á<|Á<|Á<|p.ahv H a c b h
   |gi=>exact absurd h l
  by_cases y:n<F.L
  .exact À<|p.aha H Z y a c
  obtain⟨x,rfl⟩:∃x,n=F.L+x:=⟨n-F.L,Z⟩;have f:x<σ.r:=Z
  cases d:σ.N x with
  |some e=>cases e with
   |oT=>exact Á<|À<|p.agP H f d a c b
   |gi v=>cases v with
    |jH=>exact À<|p.agS H f d a c b
    |iF=>exact À<|p.agW H f d a c b
    |gG W=>exact À<|p.agX H f d a c b
    |jf W=>exact À<|p.agY H f d a c b
    |iC r=>exact À<|p.agZ H f d a c b
   |jh N=>exact À<|p.ag9 H f d a c
  |none=>cases x with
   |zero=>
    rw[ö]at a b|-;cases h:σ.S with
    |kJ k=>exact Á<|À<|p.ag0 H f d a c b h
    |mk k=>exact Á<|À<|p.ag3 H f d a c b h
    |dn k v=>cases v with
     |jH=>exact À<|p.ag4 H f d a c b h
     |iF=>exact À<|p.ag5 H f d a c b h
     |gG W=>exact À<|p.ag6 H f d a c b h
     |jf W=>exact À<|p.ag7 H f d a c b h
     |iC r=>exact À<|p.ag8 H f d a c b h
   |succ j=>
    rw[show F.L+(j+1)=F.L+1+j by omega]at a b|-;have e:j+2<=σ.r:=Z
    cases h:σ.C j with
    |nz r=>exact À<|p.agN H e d a c b h
    |fC r v=>cases v with
     |iZ=>exact Á<|À<|p.agw H e d a c b h
     |lX q=>exact À<|p.agx H e d a c b h
     |wr=>exact À<|p.agz H e d a c b h
     |kz=>exact À<|p.agC H e d a c b h
     |gG=>exact À<|p.agA H e d a c b h
     |lb=>exact À<|p.agB H e d a c b h
    |jM r=>exact Á<|À<|p.agE H e d a c b h
    |oQ r=>exact Á<|À<|p.agF H e d a c b h
def ahG{J:Jd}{T:gy}{l:fh}(a:∀l g,J l g->g.status=Å)(h:k9 P yQ J T l g):g.status=Å:=by
 cases T with
 |fF=>exact a _ _<|h _<|fK.fW _ _
 |jO k=>exact h.1
def gN.Y{Y:Nat->Prop}(c:gN P n Y S tr m lot gs w t)(d:gs[i]?=Ä g)(e:∀l g,S i l g->g.status=Å)(a:g.status≠Þ):g.status=Å:=by
 let⟨g0,f,b,_,_⟩:=c.C i g d;have h:=ahG e f;generalize m i=K at b;cases b with
 |gp=>exact h
 |nZ _ _=>exact absurd U a
 |tX _ _ _=>exact absurd U a
 |nu _ _ _=>rfl
def Yl{J:Jd}{p:jK}(a:∀r,p=.iC r->0<r){l:fh}(h:Ej P yQ b J p l g):g.status=Å:=by
 cases p with
 |jH=>exact h.2.1
 |iF=>exact h.2.1
 |gG W=>exact h.2.1
 |jf W=>exact h.2.1
 |iC r=>cases r with
  |zero=>exact absurd (a 0 U) Z
  |succ r=>exact h.2.1
def QI{J:Jd}{p:jr}{l:fh}(h:qT P yQ i b J p l g):g.status=Å:=by
 cases p with
 |iZ=>let⟨k,_,_,T,a,c⟩:=h;exact(c _ _ a).1
 |lX p=>let⟨_,T,a,c⟩:=h;exact(c _ _ a).1
 |wr=>exact h.2.1
 |kz=>exact h.2.1
 |gG=>exact h.2.1
 |lb=>exact h.2.1
def Ym{l:fh}(h:AF F D i l g):g.status=Å:=by
 cases i with
 |zero=>exact QI h
 |succ i=>exact h.1
def ahH(H:gU F){x:fX}{l:fh}(h:JM F D x l g):g.status=Å:=by
 cases x with
 |go j=>exact H.I _ _ _ _ h
 |lC j=>let⟨c,h⟩:=h;exact H.I _ _ _ _ h
 |rd j=>exact h.2.1
 |iF j=>exact h.2.1
 |iL r=>cases r with
  |zero=>exact Ym h
  |succ r=>exact h.1
 |kV r=>exact Ym h
 |fC v=>exact QI h
 |gi=>exact H.M _ _ _ h
def PI.Ah(p:PI F i zX σ S tr m lot gs w t){x:Nat}(a:x<σ.r):∃g,gs[F.L+x]?=Ä g:=by have:=p.b;exact⟨_,Ü Z⟩
def PI.HC(H:gU F)(p:PI F i zX σ S tr m lot gs w t)(d:0<σ.r)(e:σ.N 0=Í):∃(a:Nat) (g:Æ),gs[a]?=Ä g/\g.status=Å:=by
 have n:=H.C.r;let⟨g,c⟩:=p.Ah d;rw[ö]at c;refine⟨F.L,g,c,p.I.Y c (λl g h=> ?_) λl=> ?_⟩
 .rw[(p.m d e).1]at h;cases j:σ.S with
  |kJ k=>rw[j]at h;exact H.N _ _ _ h
  |mk k=>rw[j]at h;let⟨a,V,_,_,_,_,h⟩:=h;exact h.2.1
  |dn k v=>
   rw[j]at h;refine Yl (λr V=> ?_) h;subst V;let⟨_,_,r⟩:=p.C.I k;let⟨a,b⟩:=r _ j;rcases p.C.Y k b (by rw[j];exact Ç _)with⟨W,q|q,_⟩|⟨o,s,q,f,_⟩|⟨q,_⟩
   .rw[j]at q;cases q
   .rw[j]at q;cases q
   .rw[j]at q;cases q;exact f
   .exact absurd j<|q _
 .rcases p.c _ g c l with⟨q,_⟩|⟨j,_,_,q,_⟩<;>omega
def PI.Ln(H:gU F)(p:PI F i zX σ S tr m lot gs w t){x:Nat}{e:ij}(c:x<σ.r)(a:σ.N x=Ä e)(d:∀N,e≠ .jh N):∃(h:Nat) (g:Æ),gs[h]?=Ä g/\g.status=Å:=by
 have f:=H.C.r;let⟨g,b⟩:=p.Ah c;refine⟨F.L+x,g,b,p.I.Y b (λl g h=> ?_) λl=> ?_⟩
 .rw[(p.k x e c a).1]at h;cases e with
  |oT=>exact h.2.1
  |gi v=>exact Yl (λr j=>by subst j;exact((p.C.N x _ a).2 r U).1) h
  |jh N=>exact absurd U<|d N
 .rcases p.c _ g b l with⟨q,_⟩|⟨j,_,h,q,_⟩
  .omega
  .have:x=j+1:=Z
   subst this;rw[a]at h;cases h
def Yn{f:Nat->Nat}:∀{n:Nat},0<Ñ n f->∃i,i<n/\0<f i
 |0,h=>absurd h<|Nat.lt_irrefl _
 |n+1,h=>by
  simp only[Ñ]at h;by_cases q:0<f n
  .exact⟨n,Z,q⟩
  .let⟨i,b,a⟩:=Yn (f:=f) (n:=n) Z;exact⟨i,Z,a⟩
def PI.ahI(H:gU F)(p:PI F i zX σ S tr m lot gs w t):∃(l:Nat) (g:Æ),gs[l]?=Ä g/\g.status=Å:=by
 have hL:=H.C.r;have jx:=p.b;obtain⟨g,D⟩:∃g,gs[0]?=Ä g:=⟨_,Ü Z⟩;by_cases P:g.status=Þ
 .rcases p.c 0 g D P with⟨_,u,Q⟩|⟨j,_,_,q,_⟩
  .have oR:σ.r=F.n+1:=by unfold fV.r;rw[u];rfl
   have Y:σ.M.ad F.n=F.n+1:=by rw[u];rfl
   have QJ:σ.M.gE=1:=by rw[u];rfl
   have T:=p.M.C.r;cases o:σ.b with
   |cl c E=>
    let⟨h1,h2⟩:=p.C.t c E o;rw[o]at T;let⟨_,_,G⟩:=T;have V:0<c:=by
     rcases ķ c with q|q
     .have:=G q;omega
     .exact q
    rw[h1]at V;let⟨x,d,y⟩:=Yn V;unfold fV.G at y;rw[Y,if_pos d]at y;cases z:σ.N x with
    |some e=>
     rw[z]at y;exact p.Ln H Z z λN q=>by subst q;simp[lY,ij.kK]at y
    |none=>cases x with
     |zero=>exact p.HC H Z z
     |succ j=>
      let⟨I,B⟩:=p.Ah (x:=j+1) Z;rw[show F.L+(j+1)=F.L+1+j by omega]at B;have J:j+2<=σ.r:=Z
      by_cases X:I.status=Þ
      .rcases p.c _ I B X with⟨q,_⟩|⟨a,_,_,q,⟨r,b,C⟩|⟨r,cap,s,r',b,C⟩⟩
       .omega
       .have:a=j:=Z
        subst this;have mE:=p.C.d a r J<|À ⟨_,b⟩;have Qb:=H.C.M _ mE;have XB:1<=Ñ F.n λl=>(σ.C l).gE F l (F.r<|a+r*F.n):=by
         have:=P0 (f:=λl=>(σ.C l).gE F l<|F.r<|a+r*F.n) (j:=a) (n:=F.n) Z;simp only[b]at this;have h:gO.gE F a (F.r<|a+r*F.n) (.fC r .kz)=1:=by simp only[gO.gE,if_true];rfl
         rwa[h]at this
        by_cases K:F.r (a+r*F.n)<=σ.S.od
        .have M:∀k v,σ.S=.dn k v->σ.N 0=Í:=λk v h=>by
          cases O:σ.N 0 with
          |none=>rfl
          |some e=>have:=p.C.f (by rw[O];simp);rw[this]at h;cases h
         rcases p.C.Y _ Qb K with⟨W,q|q,_⟩|⟨r',s,q,_⟩|⟨_,⟨_,q⟩|⟨s,q1,q2⟩⟩
         .exact p.HC H Z<|M _ _ q
         .exact p.HC H Z<|M _ _ q
         .exact p.HC H Z<|M _ _ q
         .omega
         .rw[q1]at C;simp only[GS.sm]at C;omega
        .apply p.HC H Z;cases O:σ.N 0 with
         |none=>rfl
         |some e=>
          have:=p.C.f (by rw[O];simp);rw[this]at K;simp only[jB.od]at K;omega
       .have:a=j:=Z
        subst this;let⟨e,k,l,_⟩:=p.M.jL a J;rw[C,u]at l;injection l with l;injection l with _ _ AL _ _ _;have:decide (a<(fX.fC .kz).jj F.n)=Ï:=decide_eq_true (by simp only[fX.jj];omega);rw[this]at AL;cases AL
      .refine⟨_,I,B,p.I.Y B (λl g h=> ?_) X⟩;rw[(p.g j J z).1]at h;cases a:σ.C j with
       |nz r=>rw[a]at h;exact h.1
       |fC r v=>rw[a]at h;exact QI h
       |jM r=>rw[a]at h;exact H.Y _ _ _ _ h
       |oQ r=>rw[a]at h;exact h.2.1
   |jI E=>
    let⟨_,_,x,d,_,b⟩:=p.C.g E o;rcases b with b|b
    .exact p.Ln H d b λN q=>by cases q
    .exact p.Ln H d b λN q=>by cases q
   |gR r s=>
    let⟨_,h2,G⟩:=p.C.u r s o;rw[o]at Q;simp only[GS.sm]at Q;let⟨x,d,_,b⟩:=G Z;exact p.Ln H d b λN q=>by cases q
  .omega
 .refine⟨0,g,D,p.I.Y D (λl g h=> ?_) P⟩;rw[p.h.1]at h;exact ahH H h
def PI.Lp(p:PI F i zX σ S tr m lot gs w t):∀g∈gs,awake g:=by
 intro g e;obtain⟨a,f,rfl⟩:=Array.mem_iff_getElem.1 e;let⟨g0,_,c,d,_⟩:=p.I.C a _<|Ü f;intro τ b;generalize gs[a]=g at c b;generalize m a=K at c;cases c with
 |gp=>rw[b]at d;rcases d with q|q<;>cases q
 |nZ _ _=>cases b
 |tX _ _ _=>cases b
 |nu _ _ _=>cases b
def ahJ(H:gU F):∀(k:Nat) (μ:Mu) (σ:fV F) (S:Nat->Jd) (tr:Nat->gy) (m:Nat->iB) (lot:Nat->fh) (gs:Array Æ) (w:Ð) (sl:Option (Nat×Nat)) (t:é),F.n+1-σ.r=k->σ.mu tr gs=μ->PI F i zX σ S tr m lot gs w t->σ.M≠ .gi-> ∃(N:Nat) (σ':fV F) (b:Nat->Jd) (o:Nat->gy) (c:Nat->iB) (d:Nat->fh) (gs':Array Æ) (w':Ð) (r:Option (Nat×Nat)) (a:é),υ F.P N (ò gs w sl) t=(Ģ<|ò gs' w' r,a)/\PI F i zX σ' b o c d gs' w' a/\σ'.M=.gi/\Lj F zX a:=by
 intro k
 induction k using Ĕ with
 |_ k Y=>
  intro μ
  induction (agf F.N).apply μ with
  |intro μ _ T=>
   intro σ S tr m lot gs w sl t hk V p z;let⟨a,g,d,r,hi,jd,B⟩:=crowd_pick (P:=F.P) (w:=w) (sl:=sl) p.Lp<|p.ahI H;have p':=p.at H d;have jx:=p.b;rcases p'.ahF H (sl:=r) z hi jd with⟨c,e,f,h,j,s,v,u,x,W,l,b,y⟩|⟨c,e,f,h,j,l,b,y⟩|⟨c,e,f,h,j,s,v,u,x,W,l,b⟩|⟨c,e,f,h,j,s,v,u,x,W,l,b,y⟩
   .have X:=b.b;let⟨N,C,D,E,G,I,J,K,L,M,O,Q⟩:=T _ (V▸y) c e f h j s v r (t++u) Z U b λq=>z<|l q;exact⟨N+1,C,D,E,G,I,J,K,L,M,by simp only[υ,B,x];exact O,Q⟩
   .have X:=b.b;have h6:=b.at H w.drawn;exact T _ (V▸y) c e f h j gs w sl t Z U h6 λq=>z<|l q
   .have X:=b.b;have q:=Er b.C;let⟨N,C,D,E,G,I,J,K,L,M,O,Q⟩:=Y (F.n+1-c.r) Z _ c e f h j s v r (t++u) U U b l;exact⟨N+1,C,D,E,G,I,J,K,L,M,by simp only[υ,B,x];exact O,Q⟩
   .exact⟨1,c,e,f,h,j,s,v,r,t++u,by simp only[υ,B,x],l,b,y⟩
end
end Go.Proofs.Y.fD
namespace Go.Proofs.Y.fD
open Go Go.Conc Go.Proofs.Y.Lift Go.RowKit Go.Conc.Lib Go.ConcR.Gen
section
variable{J:Jd}{l:fh}
def QK(w:Ð)(b:∀j,l.O j->j<w.heap.size):mC l {l with w:=w} w w #[]:= ⟨Ç _,λ_ h=>À h,b,U,U,U,U,λ_ _ _ _=>rfl,λ_ _ _ _=>rfl,λ_ _ _=>rfl,U,U,U,λe a=>by simp at a,by simp[Î],U,λ_=>⟨U,λe a=>by simp at a,U⟩,U⟩
def mH(a:∀j,l.O j->j<l.w.heap.size){w₁:Ð}(r:fK l l.w w₁):∀j,l.O j->j<w₁.heap.size:=λj b=>Ê (a j b) r.r
def QL{R:Ð->Ð->Prop}{m:Æ->Ð->Prop}:∀{n:Nat} {g:Æ} {l:fh},Ĺ P yQ R ä m n g l.w->(∀w c,fK l w c->R w c)->(∀j,l.O j->j<l.w.heap.size)->(∀c d,fK l l.w c->m d c->fp P yQ J {l with w:=c} d)->fp P yQ J l g:=by
 intro n
 induction n with
 |zero=>
  intro g l h j i e;exact(fp.fF λc r=>e c g r<|h c<|j _ _ r).fj
 |succ n p=>
  intro g l h j i e;rcases h with h|⟨s,h⟩
  .exact(fp.fF λc r=>e c g r<|h c<|j _ _ r).fj
  .refine .mk s λc r=> ?_;have f:=h c<|j _ _ r;cases o:í P yQ g c with
   |go d k y=>
    rw[o,Ŵ]at f;let⟨⟨t,u⟩,v⟩:=f;subst t u;exact⟨d,k,#[],{l with w:=k},U,QK k<|mH i r,p v (λa b q=>j a b<|yP q) (mH i r) λa b q x=>e a b (r.fj<|yP q) x⟩
   |_=>rw[o]at f;exact f.elim
def ahK{m:κ}(b:m=ù\/m=ð)(w:Ð)(c:∀j,l.O j->j<w.heap.size):mC l {l with d:=Î l.d #[jA m],w:=w} w w #[jA m]:=by
 refine⟨Ç _,λ_ h=>À h,c,U,U,U,U,λ_ _ _ _=>rfl,λ_ _ _ _=>rfl,λ_ _ _=>rfl,U,U,U,λe a=> ?_,U,U,λ_=>⟨U,λe a=> ?_,U⟩,U⟩
 .have:e=jA m:=by simpa using a
  subst this;rcases b with rfl|rfl
  .exact Á<|Á<|Á<|À U
  .exact Á<|Á<|Á<|Á<|À U
 .have:e=jA m:=by simpa using a
  subst this;rcases b with rfl|rfl<;>rfl
def fp.ahL{m:κ}{b:Æ}(c:m=ù\/m=ð)(e:g.status=Å)(f:∀j,l.O j->j<l.w.heap.size)(h:∀a,í P yQ g a=Ŭ b a #[jA m])(i:∀a,fK l l.w a->fp P yQ J {l with d:=Î l.d #[jA m],w:=a} b):fp P yQ J l g:= .mk e λa r=>⟨b,a,_,_,h a,ahK c a<|mH f r,i a r⟩
def mU(b:Nat)(w:Ð):Prop:=(w.cell? ⟨b,0,Í⟩).isSome=Ï/\(w.cell? ⟨b,1,Í⟩).isSome=Ï
def mU.r(h:mU b w):∃v,w.cell? ⟨b,0,Í⟩=Ä v:=î.1 h.1
def mU.C(h:mU b w):∃v,w.cell? ⟨b,1,Í⟩=Ä v:=î.1 h.2
def RS(Ψ:Ð->Prop)(b:Nat)(w a:Ð):Prop:=w.heap.size<=a.heap.size/\(mU b w->mU b a)/\(Ψ w->Ψ a)
def SW(Ψ:Ð->Prop)(l:fh)(b:Nat)(w:Ð):Prop:=(∀j,l.O j->j<w.heap.size)/\mU b w/\Ψ w
def fE{Ψ:Ð->Prop}(h:SW Ψ l b w)(r:RS Ψ b w u):SW Ψ l b u:=⟨λj a=>Ê (h.1 j a) r.1,r.2.1 h.2.1,r.2.2 h.2.2⟩
def lZ(Ψ:Ð->Prop)(l:fh)(b:Nat):Prop:=(l.K ⟨b,0,Í⟩\/l.M b)/\(l.K ⟨b,1,Í⟩\/l.M b)/\∀w c:Ð,w.heap.size<=c.heap.size->(∀j,l.M j->c.heap[j]?=w.heap[j]?)->(∀a,l.C a->c.cell? a=w.cell? a)->(∀a,l.C a->c.frozen? a=w.frozen? a)->(∀a,l.K a->(w.cell? a).isSome=Ï->(c.cell? a).isSome=Ï)->Ψ w->Ψ c
def lZ.r{Ψ:Ð->Prop}(h:lZ Ψ l b)(r:fK l w u):RS Ψ b w u:=⟨r.r,λq=>⟨h.1.elim (λk=>r.S _ k q.1) λm=>(by rw[gM<|r.I b m];exact q.1),h.2.1.elim (λk=>r.S _ k q.2) λm=>(by rw[gM<|r.I b m];exact q.2)⟩,h.2.2 w u r.r r.I r.N r.Y r.S⟩
def ja{Ψ:Ð->Prop}(a:lZ Ψ l b)(hF:SW Ψ l b l.w)(c:Ĺ P yQ (RS Ψ b) ä (λd e=>fp P yQ J {l with w:=e} d) n g l.w):fp P yQ J l g:= QL c (λ_ _ r=>a.r r) hF.1 λ_ _ _ h=>h
def mI{Ψ:Ð->Prop}(c:lZ Ψ l b)(hF:SW Ψ l b l.w)(h:∀a,SW Ψ l b a->J {l with w:=a} g):fp P yQ J l g:=.fF λa r=>h a<|fE hF<|c.r r
def rT{Ψ:Ð->Prop}(e:lZ Ψ l b)(hF:SW Ψ l b l.w){m:κ}{c:Æ}(f:m=ù\/m=ð)(i:g.status=Å)(h:∀a,í P yQ g a=Ŭ c a #[jA m])(j:∀a,SW Ψ l b a->fp P yQ J {l with d:=Î l.d #[jA m],w:=a} c):fp P yQ J l g:= .ahL f i hF.1 h λa r=>j a<|fE hF<|e.r r
end
section
variable{b:Ā}{i:List ż}
def EF(m:κ)(c:∀g,m≠.extern g)(d:y.defers=dcall F #[]::i)(e:P.funcs[F]?=Ä s)(f:(s.name== "runtime.NumGoroutine")=É)(j:s.body.isNone=Ï)(k:Extern.findNext s=Í) (l:Extern.find s=Ä λ_=>do mark m;pure Extern.Race.none_) (w:Ð):í P yQ (G {b.at y L with mode:=ý} qX) w=Ŭ (G {b.at ⟨y.tmps,i⟩ L with mode:=ý} qX) w #[jA m]:= stepG_unwind_entry (v:=ŉ #[]) d e f j k l (by simp[Extern.Race.none_,jA]) (by simp[jA])<|by intro x a;simp[jA]at a;subst a;exact⟨U,λg h=>c g<|Loc.mark.inj h⟩
end
def Yo(s:Nat)(h:s%4294967296<2147483648):s&&&2147483648=0:=by
 have e:(2147483648:Nat)=(2^32-1)&&&2147483648:=A
 have a:(2:Nat)^32=4294967296:=A
 rw[e,<-Ů,Ċ,a];have b:s%4294967296=(s%4294967296)&&&(2^31-1):=by rw[Ċ];have c:(2:Nat)^31=2147483648:=A;rw[c];omega
 rw[b,Ů];have d:(2^31-1)&&&2147483648=0:=A
 rw[d];simp
def EG(s:Int)(a:0<=s)(b:s<1000000*4294967296)(h:s%4294967296<1000000):bits .and Ô s 2147483648=0:=by obtain⟨n,rfl⟩:=Int.eq_ofNat_of_zero_le a;have h:=(bits_nat Ô 63 A û n 2147483648 Z A).1;rw[Yo n Z]at h;simpa using h
def EH(s:Int)(a:0<=s)(c:s<1000000*4294967296)(h:s%4294967296<1000000):bits .and Ô s 2147483647=s%4294967296:=by
 have h:=bits_mask Ô 63 A û 31 A s a Z;have e:((2:Int)^31-1)=2147483647:=A
 have b:((2:Int)^31)=2147483648:=A
 rw[e,b]at h;rw[h];omega
section
variable{b:Ā}{a:ś}{k:List Ź}{cs:List Ā}{d:Nat}
def qh(P:ġ)(d:Nat)(g:Æ):Prop:=∃N,Ε P N d g
def EI(P:ġ):Jd:=λl g=>qh P l.d g
def Lq{a:Æ}(b:g.status=Å)(h:∀w,í P É g w=Ŭ a w)(c:qh P d a):qh P d g:=let⟨n,q⟩:=c;⟨n+1,.ctl b h q⟩
def as8(f:Q[i]?=Ä o)(g:å o (Ħ Q a.tmps)=Ï)(j:b.kind≠Ė) (h:∀(w:Ð) (K:ś->Ð->Prop),K y w->uponK o a K ((à a.eval o).run P w)) (n:∀w,(à a.eval o).events P w #[]=#[]) (p:qh P d (G (b.at y<|È Q jJ::k) cs)):qh P d (G (b.at a<|È Q (i::jJ)::k) cs):=by
 refine Lq U (λw=> ?_) p;have e:=h w (λx c=>x=y/\c=w) ⟨U,U⟩;have l:listed P b.fn a o w=#[]:=by unfold listed;rw[n w,ċ]
 revert e;generalize m:(à a.eval o).run P w=r;intro e;match r,e with
 |.ok (.value v) w',⟨c,x⟩=>subst x;rw[ő f g j m,l,c]
 |.ok .skip w',⟨c,x⟩=>subst x;rw[Ţ f g j m,l,c]
def HF:∀{n m d:Nat} {g:Æ},n<=m->Ε P n d g->Ε P m d g
 |0,0,_,_,_,h=>h
 |0,_+1,_,_,_,h=>À h
 |_+1,0,_,_,e,_=>absurd e Z
 |_+1,_+1,_,_,e,h=>h.imp id λ⟨a,b,c,f,i,j⟩=>⟨a,b,c,f,i,HF (Nat.le_of_succ_le_succ e) j⟩
def uy{n:Nat}{ops:Array Oper}{i:Nat}{rest:List Nat}{o:Oper}{a':Act}(hq:QuitsD P n d (G (b.at a'<|.inRegion ops rest::k) cs))(ho:ops[i]?=some o:=by rfl)(hw:Region.wanted o (yielded ops a.tmps)=true:=by rfl)(hk:b.kind≠.early:=by k_ne) (h:∀(w:World) (K:Act->World->Prop),K a' w->uponK o a K ((execOp a.eval o).run P w):=by intro w K hK;go_simp;(try w_num);exact hK) (he:∀w,(execOp a.eval o).events P w #[]=#[]:=by intro _;simp[go_sem, *]): QuitsD P (n+1) d (G (b.at a<|.inRegion ops (i::rest)::k) cs):=by
 refine QuitsD.ctl U (λw=> ?_) hq;have h1:=h w (λx y=>x=a'/\y=w) ⟨U,U⟩;have h2:listed P b.fn a o w=#[]:=by unfold listed;rw[he w,ċ]
 revert h1;generalize hr:(à a.eval o).run P w=r;intro h1;match r,h1 with
 |.ok (.value v) w',⟨e1,e2⟩=>subst e2;rw[ő ho hw hk hr,h2,e1]
 |.ok .skip w',⟨e1,e2⟩=>subst e2;rw[Ţ ho hw hk hr,h2,e1]
end
section
variable{Ψ:Ð->Prop}{L:Ŋ}{b:Nat}{l:fh}{a:ś}{ops:Array Ľ}{rest:List Nat}{k:List Ź}{cs:List Ā}
def ahM(H:ű P L)(g:lZ Ψ l b)(h:qh P 0 (G (f.at (a.put ((ops[i]?).bind (·.dst))<|ŉ #[])<|È ops rest::k) cs)): ∀(r:Nat) (c:Int) (j m o p q s t u v x y z B C D E F I J K M N O Q T V W X Y n7 pF pG oZ o0 oD qi qj qk qm qn qo qp qt n8 n9 oa rU A8 A9 Ba Bb Bc Bd Be Bf Bg Bh Bj Bl Bm Bn Bo Bp Bq Br Bs Bt Bu Bv Bw Bx By Bz BA BB BD BF BG BH BJ BK BL BM BN BO BP BQ BR BS BT BU BV BW BX BY BZ B1 B2 B3 B4 B5 B6 B7 B8 B9 Ca Cb Cc Cd Ce Cf Cg Ch Ci:ì) (e:Ð),SW Ψ l b e->(c<=(r:Int)+1/\(r:Int)+1<=c)->r+1<1000000-> fp P É (G7 P É b (EI P)<|r+1) {l with d:=1,w:=e} (G ((base L.add).at ⟨#[ü<|Ä ⟨b,0,Í⟩,j,m,o,p,q,s,t,ê â c,u,v,x,y,z,B,C,D,E,F,I,J,K,M,N,O,Q,T,V,W,X,Y,n7,pF,pG,oZ,o0,oD,qi,qj,qk,qm,qn,qo,qp,qt,n8,n9,oa,rU,A8,A9,Ba,Bb,Bc,Bd,Be,Bf,Bg,Bh,Bj,Bl,Bm,Bn,Bo,Bp,Bq,Br,Bs,Bt,Bu,Bv,Bw,Bx,By,Bz,BA,BB,BD,BF,BG,BH,BJ,BK,BL,BM,BN,BO,BP,BQ,BR,BS,BT,BU,BV,BW,BX,BY,BZ,B1,B2,B3,B4,B5,B6,B7,B8,B9,Ca,Cb,Cc,Cd,Ce,Cf,Cg,Ch,ü<|Ä ⟨b,1,Í⟩,Ci],[dcall L.enable #[]]⟩ [È #[{dst:=Ä 113,op:=Ł<|Õ 0,type:=L.tWgP,pos:= "waitgroup.go:142",after:=#[],guard:=Í},{dst:=Ä 114,op:=Ž<|Õ 113,type:=0,pos:= "waitgroup.go:142",after:=#[{on:=0,ground:=ã}],guard:=Í},{dst:=Ä 115,op:=ŵ L.tWg (Õ 114) 2,type:=0,pos:= "waitgroup.go:142",after:=#[{on:=1,ground:=ã}],guard:=Í},{dst:=Ä 116,op:= ţ {callee:=Ĥ<|ł L.semrelease,args:= #[Õ 115,ï<|Ι É,ï<|ê Ņ 0],argTypes:=#[L.tPU32,4,3]},type:=0,pos:= "waitgroup.go:142",after:=#[{on:=2,ground:=ã}],guard:=Í}] [3],ŝ 2,ļ<|ĥ 33 #[{dst:=Ä 111,op:=Ł<|Õ 8,type:=L.tU32,pos:= "waitgroup.go:141",after:=#[],guard:=Í},{dst:=Ä 112,op:=ž BinOp.sub L.tU32 (Õ 111) (ï<|ê â 1) L.tU32,type:=L.tU32,pos:= "waitgroup.go:141",after:=#[{on:=0,ground:=ã}],guard:=Í},{dst:=Ä 8,op:=ξ<|Õ 112,type:=L.tU32,pos:= "waitgroup.go:141",after:= #[{on:=1,ground:=ã},{on:=0,ground:=ħ},{on:=1,ground:=ħ}],guard:=Í}] É,ο<|((ĥ 32 #[{dst:=Ä 109,op:=Ł<|Õ 8,type:=L.tU32,pos:= "waitgroup.go:141",after:=#[],guard:=Í},{dst:=Ä 110,op:= ž BinOp.neq L.tU32 (Õ 109) (ï<|ê â 0) L.tU32,type:=4,pos:= "waitgroup.go:141",after:=#[{on:=0,ground:=ã}],guard:=Í}] É).seq<|π (Õ 110) ai<|Code.exit 1).seq<|(χ 2<|ĥ 34 #[{dst:=Ä 113,op:=Ł<|Õ 0,type:=L.tWgP,pos:= "waitgroup.go:142",after:=#[],guard:=Í},{dst:=Ä 114,op:=Ž<|Õ 113,type:=0,pos:= "waitgroup.go:142",after:=#[{on:=0,ground:=ã}],guard:=Í},{dst:=Ä 115,op:=ŵ L.tWg (Õ 114) 2,type:=0,pos:= "waitgroup.go:142",after:=#[{on:=1,ground:=ã}],guard:=Í},{dst:=Ä 116,op:= ţ {callee:=Ĥ<|ł L.semrelease,args:= #[Õ 115,ï<|Ι É,ï<|ê Ņ 0],argTypes:=#[L.tPU32,4,3]},type:=0,pos:= "waitgroup.go:142",after:=#[{on:=2,ground:=ã}],guard:=Í}] É).seq<|ĥ 33 #[{dst:=Ä 111,op:=Ł<|Õ 8,type:=L.tU32,pos:= "waitgroup.go:141",after:=#[],guard:=Í},{dst:=Ä 112,op:= ž BinOp.sub L.tU32 (Õ 111) (ï<|ê â 1) L.tU32,type:=L.tU32,pos:= "waitgroup.go:141",after:=#[{on:=0,ground:=ã}],guard:=Í},{dst:=Ä 8,op:=ξ<|Õ 112,type:=L.tU32,pos:= "waitgroup.go:141",after:= #[{on:=1,ground:=ã},{on:=0,ground:=ħ},{on:=1,ground:=ħ}],guard:=Í}] É,ŝ 1])<|(base L.done).at {tmps:= #[ü<|Ä {block:=b,off:=0},Â,ü<|Ä {block:=b,off:=0},Â],defers:=[]} [È #[{dst:=Ä 2,op:=Ł<|Õ 0,type:=L.tWgP,pos:= "waitgroup.go:156",after:=#[],guard:=Í},{dst:=Ä 3,op:= ţ {callee:=Ĥ<|ł L.add,args:=#[Õ 2,ï<|ê Ņ<|-1],argTypes:=#[L.tWgP,3]},type:=0,pos:= "waitgroup.go:156",after:=#[{on:=0,ground:=ã}],guard:=Í}] [1]]::f.at a (È ops (i::rest)::k)::cs):=by
 intro r;lib_facts
 induction r with
 |zero=>
  intro c j m o p q s t u v x y z B C D E F I J K M N O Q T V W X Y n7 pF pG oZ o0 oD qi qj qk qm qn qo qp qt n8 n9 oa rU A8 A9 Ba Bb Bc Bd Be Bf Bg Bh Bj Bl Bm Bn Bo Bp Bq Br Bs Bt Bu Bv Bw Bx By Bz BA BB BD BF BG BH BJ BK BL BM BN BO BP BQ BR BS BT BU BV BW BX BY BZ B1 B2 B3 B4 B5 B6 B7 B8 B9 Ca Cb Cc Cd Ce Cf Cg Ch Ci e hF HJ gH;have e1:c=1:=Z
  subst e1;clear HJ gH;refine mI (l:={l with d:=1,w:=e}) g hF λpC hF=>⟨U,U,ů U U H.f_semrelease<|ę L,_,U,λe n hc hf=>(ŋ U U (by k_ne) U H.f_semrelease (Ť L) (ę L) (ť L) (Ŧ L) (by simp[þ,gQ]) hc hf).trans fR,?_⟩;walk_nrm;show qh P 1 _;let⟨n,h⟩:=h;refine⟨n+150,?_⟩;repeat(first|refine uy ?_|q_go)
  q_en H L
  q_leave0 H.f_add
  repeat(first|refine uy ?_|q_go)
  q_leave0 H.f_done
  exact HF Z h
 |succ r ih=>
  intro c j m o p q s t u v x y z B C D E F I J K M N O Q T V W X Y n7 pF pG oZ o0 oD qi qj qk qm qn qo qp qt n8 n9 oa rU A8 A9 Ba Bb Bc Bd Be Bf Bg Bh Bj Bl Bm Bn Bo Bp Bq Br Bs Bt Bu Bv Bw Bx By Bz BA BB BD BF BG BH BJ BK BL BM BN BO BP BQ BR BS BT BU BV BW BX BY BZ B1 B2 B3 B4 B5 B6 B7 B8 B9 Ca Cb Cc Cd Ce Cf Cg Ch Ci e hF HJ gH;have g1:(c-1)%4294967296=c-1:=Z
  have g2:(c-1 !=0)=Ï:=by simp;omega
  refine mI (l:={l with d:=1,w:=e}) g hF λpC hF=>⟨U,U,ů U U H.f_semrelease<|ę L,_,U,λe n hc hf=>(ŋ U U (by k_ne) U H.f_semrelease (Ť L) (ę L) (ť L) (Ŧ L) (by simp[þ,gQ]) hc hf).trans fR,?_⟩;walk_nrm;apply ja (l:={l with d:=1,w:=pC}) g hF (n:=50);iterate 22 w_go fE
  refine Ì λe Yp=> ?_;replace hF:=fE hF Yp;clear Yp;exact ih (c-1) _ _ _ _ _ _ _ _ _ _ _ _ _ _ _ _ _ _ _ _ _ _ _ _ _ _ _ _ _ _ _ _ _ _ _ _ _ _ _ _ _ _ _ _ _ _ _ _ _ _ _ _ _ _ _ _ _ _ _ _ _ _ _ _ _ _ _ _ _ _ _ _ _ _ _ _ _ _ _ _ _ _ _ _ _ _ _ _ _ _ _ _ _ _ _ _ _ _ _ _ _ _ _ _ _ _ _ _ _ _ _ _ _ _ e hF Z Z
end
section
variable{Ψ:Ð->Prop}{L:Ŋ}{l:fh}{k:List Ź}
def ahN(H:ű P L)(J:l.K ⟨b,0,Í⟩/\l.K ⟨b,1,Í⟩)(z:lZ Ψ l b)(hF:SW Ψ l b l.w)(B:l.d=0)(m:qh P 0 (G (f.at (y.put ((Q[i]?).bind (·.dst))<|ŉ #[])<|È Q jJ::k) qX)): fp P É (λl g=>yw P É b (EI P) (kA l) g) l (G ((base L.done).at ⟨#[ü<|Ä ⟨b,0,Í⟩,Â,Â,Â],[]⟩ [ļ<|body_done L])<|f.at y (È Q (i::jJ)::k)::qX):=by
 lib_facts;simp only[body_done,doneFn,Č];apply ja z hF (n:=40);iterate 2 w_go fE
 u_call H.f_add (nm_add L) addFn fE hF
 iterate 11 w_go fE
 u_conv H.underlying_tWgP H.room_tWg (mU.r hF.2.1).choose_spec fE hF
 refine Ì λa g=> ?_;replace hF:=fE hF g;clear g;refine mI (l:={l with w:=a}) z hF λc hF=>⟨B,U,_,λ_=>ć Ķ ft U U (by k_ne) U H.f_relMerge (x_relMerge_n L) (x_relMerge_b L) (x_relMerge_x L) (x_relMerge_f L) (by simp[þ,fM]),?_⟩;walk_nrm;have e:lZ (λ_=>True) (kA {l with w:=c}) b:=⟨À J.1,À J.2,λ_ _ _ _ _ _ _ _=>trivial⟩;have C:SW (λ_=>True) (kA {l with w:=c}) b (kA {l with w:=c}).w:=⟨λj h=>h.elim,hF.2.1,trivial⟩;have M:(kA {l with w:=c}).d=0:=B;generalize kA {l with w:=c}=l2 at e C M|-;replace hF:=C;clear C z B;apply ja e hF (n:=10);iterate 3 w_go fE
 refine Ì λa g=> ?_;replace hF:=fE hF g;clear g;refine rT (l:={l2 with w:=a}) e hF (À U) U (λ_=>ē ù ft U U (by k_ne) U H.f_disable (Œ L) (œ L) (Ŕ L)<|ŕ L) λV hF=> ?_;walk_nrm;have W:Î l2.d #[jA ù]=1:=by rw[M];rfl
 rw[W];apply ja (l:={l2 with d:=1,w:=V}) e hF (n:=50);iterate 2 w_go fE
 u_defer fE hF
 iterate 8 w_go fE
 u_bub fE hF
 iterate 11 w_go fE
 u_call H.f_uAdd (nm_uAdd L) uAddFn fE hF
 iterate 10 w_go fE
 refine Ì λa g=> ?_;replace hF:=fE hF g;clear g;refine mI (l:={l2 with d:=1,w:=a}) e hF λc hF=>⟨U,U,λv=>⟨_,λa q D=>(Ō U U (by k_ne) U H.f_addU64 (Κ L) (Λ L) (Μ L) Ô (Ν L) U U q D).trans fR,?_⟩⟩;walk_nrm;have N:Ô.wrap (v+18446744069414584320)=Ô.wrap (v+qS):=rfl;rw[N];clear N;obtain⟨s,E⟩:∃s,Ô.wrap (v+qS)=s:=⟨_,U⟩;simp only[E];have F:0<=s:=by rw[<-E];have:Ô.wrap (v+qS)=(v+qS)%18446744073709551616:=rfl;rw[this];omega
 clear E v;by_cases p:s=0\/(gd<=s/\s<1000000*gd/\s%gd<1000000)
 .rw[if_pos p];by_cases o:s=0
  .subst o;clear p F;show qh P 1 _;let⟨n,m⟩:=m;refine⟨n+150,?_⟩;repeat(first|refine uy ?_|q_go)
   q_leave1 H.f_uAdd
   repeat(first|refine uy ?_|q_go)
   q_en H L
   q_leave0 H.f_add
   repeat(first|refine uy ?_|q_go)
   q_leave0 H.f_done
   exact HF Z m
  .have X:=p.resolve_left o;clear p o F;let⟨Y,c5,c6⟩:=X;have q4:(4294967296:Int)<=s:=Y;have I:s<1000000*4294967296:=c5;have O:s%4294967296<1000000:=c6;have f1:=EG s Z I O;have t:=EH s Z I O;obtain⟨x,g1⟩:∃x,(s/4294967296+2147483648)%4294967296-2147483648=x:=⟨_,U⟩;have g2:¬x<0:=Z
   have g3:0<x:=Z
   by_cases u:s%4294967296=0
   .rw[u]at t;show qh P 1 _;let⟨n,m⟩:=m;refine⟨n+150,?_⟩;repeat(first|refine uy ?_|q_go)
    q_leave1 H.f_uAdd
    repeat(first|refine uy ?_|q_go)
    q_en H L
    q_leave0 H.f_add
    repeat(first|refine uy ?_|q_go)
    q_leave0 H.f_done
    exact HF Z m
   .obtain⟨r,g4⟩:∃r,s%4294967296=r:=⟨_,U⟩;rw[g4]at t u;have T:r%4294967296=r:=Z
    have g6:(r !=0)=Ï:=by simpa using u
    show qh P 1 _;let⟨n,m⟩:=m;refine⟨n+150,?_⟩;repeat(first|refine uy ?_|q_go)
    q_leave1 H.f_uAdd
    repeat(first|refine uy ?_|q_go)
    q_en H L
    q_leave0 H.f_add
    repeat(first|refine uy ?_|q_go)
    q_leave0 H.f_done
    exact HF Z m
 .rw[if_neg p];by_cases o:0<s/\s<1000000
  .rw[if_pos o];let⟨q4,I⟩:=o;clear p F;have f1:=EG s Z Z Z;have t:=EH s Z Z Z;have g1:(s/4294967296+2147483648)%4294967296-2147483648=0:=Z
   have T:s%4294967296=s:=Z
   rw[T]at t;have g6:(s !=0)=Ï:=by simp;omega
   have Y:(s==0)=É:=by simp;omega
   have O:(s.toNat:Int)=s:=Z
   apply ja (l:={l2 with d:=1,w:=c}) e hF (n:=150);iterate 3 w_go fE
   u_leave1 H.f_uAdd fE hF
   iterate 89 w_go fE
   u_call H.f_uLoad (ŧ L) Ŷ fE hF
   iterate 9 w_go fE
   refine Ì λa g=> ?_;replace hF:=fE hF g;clear g;refine mI (l:={l2 with d:=1,w:=a}) e hF λc hF=>⟨U,U,λv=>⟨_,λa q=>Ĉ U U (by k_ne) U H.f_loadU64 (İ L) (ı L) (Ĳ L) Ô (ĳ L) U q,?_⟩⟩;show fp P É (if v=(s.toNat:Int)then KR P É b (EI P) s.toNat else λ_ _=>True) _ _;by_cases u:v=(s.toNat:Int)
   .rw[if_pos u];rw[O]at u;subst u;walk_nrm;have g8:(v !=v)=É:=ft
    apply ja (l:={l2 with d:=1,w:=c}) e hF (n:=150);iterate 3 w_go fE
    u_leave1 H.f_uLoad fE hF
    iterate 10 w_go fE
    u_call H.f_uStore (nm_uStore L) uStoreFn fE hF
    iterate 5 w_go fE
    refine Ì λa g=> ?_;replace hF:=fE hF g;clear g;refine mI (l:={l2 with d:=1,w:=a}) e hF λc hF=>⟨U,U,_,λa x q D=>stepG_store_atomic U U (by k_ne) U H.f_storeU64 (x_storeU64_n L) (x_storeU64_b L) (x_storeU64_x L) (x_storeU64_f L) U U q D,?_⟩;walk_nrm;obtain⟨r,X⟩:∃r,v.toNat=r+1:=⟨v.toNat-1,Z⟩;rw[X];apply ja (l:={l2 with d:=1,w:=c}) e hF (n:=150);iterate 2 w_go fE
    u_leave0 H.f_uStore fE hF
    iterate 24 w_go fE
    refine Ì λa g=> ?_;replace hF:=fE hF g;clear g;exact ahM H e m r v _ _ _ _ _ _ _ _ _ _ _ _ _ _ _ _ _ _ _ _ _ _ _ _ _ _ _ _ _ _ _ _ _ _ _ _ _ _ _ _ _ _ _ _ _ _ _ _ _ _ _ _ _ _ _ _ _ _ _ _ _ _ _ _ _ _ _ _ _ _ _ _ _ _ _ _ _ _ _ _ _ _ _ _ _ _ _ _ _ _ _ _ _ _ _ _ _ _ _ _ _ _ _ _ _ _ _ _ _ _ _ _ _ _ a hF Z Z
   .rw[if_neg u];exact .fF λ_ _=>trivial
  .rw[if_neg o];trivial
end
def RT(_ _:Ð):Prop:=True
def fB{w₁:Ð}(_:True)(_:RT w w₁):True:=trivial
def ahO(s:Int)(a:0<=s)(b:s<9223372036854775808)(h:s%4294967296<1000000):bits .and Ô s 2147483648=0:=by obtain⟨n,rfl⟩:=Int.eq_ofNat_of_zero_le a;have h:=(bits_nat Ô 63 A û n 2147483648 Z A).1;rw[Yo n Z]at h;simpa using h
def ahP(s:Int)(a:0<=s)(c:s<9223372036854775808)(h:s%4294967296<1000000):bits .and Ô s 2147483647=s%4294967296:=by
 have h:=bits_mask Ô 63 A û 31 A s a Z;have e:((2:Int)^31-1)=2147483647:=A
 have b:((2:Int)^31)=2147483648:=A
 rw[e,b]at h;rw[h];omega
section
variable(P:ġ)(L:Ŋ)(f:Bool)(b:Nat)(j:Jd)(c:Ā)(m:List Ā)(l:fh)
def Yq(g:Æ):Prop:=∃T:Array ì,g=G ((base L.wait).at ⟨T,[]⟩ [ļ<|L7 L,ο<|L7 L,ŝ 0]) (c::m)/\T.size=84/\T[0]?=Ä (ü<|Ä ⟨b,0,Í⟩)
def Yr(v:Int)(g:Æ):Prop:=g.status=Å/\
 (∃a,(∀w:Ð,w.cell? (fM b)=Ä (ê Ô v)->w.frozen? (fM b)=É->í P f g w=Ŭ a (w.setCell (fM b)<|ê Ô<|Ô.wrap<|v+1) #[ky<|fM b,mT<|fM b])/\fp P f (if v%gd=0 then PN P f b j else KT P f b j) l a)/\
 ∃a,(∀(w:Ð) (x:Int),x≠v->w.cell? (fM b)=Ä (ê Ô x)->w.frozen? (fM b)=É->í P f g w=Ŭ a w #[ky<|fM b])/\∀w,Ĺ P f RT ä (λg _=>Yq L b c m g) 10 a w
def QM(g:Æ):Prop:=g.status=Å/\∀v,∃a,(∀w:Ð,w.cell? (fM b)=Ä (ê Ô v)->í P f g w=Ŭ a w #[ky<|fM b])/\(0<=v/\v<1000000->fp P f (Ek P f b j) l a)/\
 ((gd<=v/\v<gd*2147483648/\v%gd<1000000)->∀w,Ĺ P f RT ä (λg _=>Yr P L f b j c m l v g) 60 a w)
end
section
variable{Ψ:Ð->Prop}{P:ġ}{L:Ŋ}{f:Bool}{b:Nat}{l:fh}{j:Jd}{c:Ā}{a:ś}{k:List Ź}{m:List Ā}
def Ys(H:ű P L)(p:lZ Ψ l b)(M:SW Ψ l b l.w)(s:l.d=1)(D:∀o,SW Ψ l b o->fp P f j {l with d:=0,w:=o} (G (c.at (a.put ((Q[i]?).bind (·.dst))<|ŉ #[])<|È Q jJ::k) m)) (h:Yq L b (c.at a<|È Q (i::jJ)::k) m g) (w:Ð):Ĺ P f RT ä (λg _=>QM P L f b j (c.at a<|È Q (i::jJ)::k) m l g) 30 g w:=by
 lib_facts;obtain⟨T,rfl,X,N⟩:=h;obtain⟨v0,v1,v2,v3,v4,v5,v6,v7,v8,v9,v10,v11,v12,v13,v14,v15,v16,v17,v18,v19,v20,v21,v22,v23,v24,v25,v26,v27,v28,v29,v30,v31,v32,v33,v34,v35,v36,v37,v38,v39,v40,v41,v42,v43,v44,v45,v46,v47,v48,v49,v50,v51,v52,v53,v54,v55,v56,v57,v58,v59,v60,v61,v62,v63,v64,v65,v66,v67,v68,v69,v70,v71,v72,v73,v74,v75,v76,v77,v78,v79,v80,v81,v82,v83,rfl⟩:=array84 T X;simp only[List.getElem?_toArray,List.getElem?_cons_zero,Ŀ]at N;subst N;have hF:True:=trivial;simp only[L7,Ų,waitFn,Č];iterate 6 w_go fB
 u_call H.f_uLoad (ŧ L) Ŷ fB hF
 iterate 9 w_go fB
 refine Ì λo e=> ?_;clear e hF o;refine⟨U,λv=>⟨_,λo q=>Ĉ U U (by k_ne) U H.f_loadU64 (İ L) (ı L) (Ĳ L) Ô (ĳ L) U q,λE=> ?_,λE w=> ?_⟩⟩
 .walk_nrm;let⟨u,x⟩:=E;have Y:=EG v Z Z Z;have F:=EH v Z Z Z;have g1:(v/4294967296+2147483648)%4294967296-2147483648=0:=Z
  have O:v%4294967296=v:=Z
  rw[O]at F;have hF:=M;apply ja (l:=l) p hF (n:=150);iterate 3 w_go fE
  u_leave1 H.f_uLoad fE hF
  iterate 27 w_go fE
  refine Ì λo e=> ?_;replace hF:=fE hF e;clear e;refine rT (l:={l with w:=o}) p hF (Á U) U (λ_=>ē ð ft U U (by k_ne) U H.f_enable (Ĩ L) (ĩ L) (Ī L)<|ī L) λz hF=> ?_;have B:Î l.d #[jA ð]=0:=by rw[s];rfl
  rw[B];walk_nrm;apply ja (l:={l with d:=0,w:=z}) p hF (n:=50);iterate 3 w_go fE
  u_conv H.underlying_tWgP H.room_tWg (mU.r hF.2.1).choose_spec fE hF
  refine Ì λo e=> ?_;replace hF:=fE hF e;clear e;refine mI (l:={l with d:=0,w:=o}) p hF λr hF=>⟨U,U,_,λ_=>ć ľ ft U U (by k_ne) U H.f_acquire (Ŗ L) (ŗ L) (Ř L) (ř L) (by simp[þ,fM]),?_⟩;walk_nrm;by_cases t:v=0
  .subst t;apply ja (l:={l with d:=0,w:=r}) p hF (n:=50);iterate 19 w_go fE
   u_leave0 H.f_wait fE hF
   refine Ì λo e=> ?_;replace hF:=fE hF e;clear e;exact D _ hF
  .have g6:(v==0)=É:=by simp;omega
   apply ja (l:={l with d:=0,w:=r}) p hF (n:=50);iterate 19 w_go fE
   u_leave0 H.f_wait fE hF
   refine Ì λo e=> ?_;replace hF:=fE hF e;clear e;exact D _ hF
 .walk_nrm;let⟨V,W,c6⟩:=E;have q4:(4294967296:Int)<=v:=V;have q5:v<4294967296*2147483648:=W;have I:v%4294967296<1000000:=c6;clear V W;have F:=ahP v Z Z I;obtain⟨J,g1⟩:∃J,(v/4294967296+2147483648)%4294967296-2147483648=J:=⟨_,U⟩;have g2:(J==0)=É:=by simp;omega
  have g3:(v+1)%18446744073709551616=v+1:=Z
  have xd:Ô.wrap (v+1)=v+1:=KQ Z Z;obtain⟨y,g4⟩:∃y,v%4294967296=y:=⟨_,U⟩;have Y:=ahO v Z Z I;rw[g4]at F I;have O:y%4294967296=y:=Z
  have hF:True:=trivial;iterate 3 w_go fB
  u_leave1 H.f_uLoad fB hF
  iterate 32 w_go fB
  u_call H.f_uCas (nm_uCas L) uCasFn fB hF
  iterate 11 w_go fB
  refine Ì λo e=> ?_;clear e hF o;refine⟨U,⟨_,λo q u=>(stepG_cas_hit (v:=v) (n:=v+1) U U (by k_ne) U H.f_casU64 (Ξ L) (Ο L) (Ρ L) Ô (Τ L) U U U q u).trans (by rw[xd];rfl),?_⟩,_,λo x kI q u=>stepG_cas_miss (v:=x) (old:=v) (n:=v+1) U U (by k_ne) U H.f_casU64 (Ξ L) (Ο L) (Ρ L) Ô (Τ L) U U U q u kI,λw=> ?_⟩
  .walk_nrm;have hF:=M;by_cases t:v%gd=0
   .rw[if_pos t];have t:v%4294967296=0:=t;have:y=0:=Z
    subst this;apply ja (l:=l) p hF (n:=150);iterate 3 w_go fE
    u_leave1 H.f_uCas fE hF
    iterate 15 w_go fE
    u_conv H.underlying_tPU32 H.room_tU32 (mU.C hF.2.1).choose_spec fE hF
    refine Ì λo e=> ?_;replace hF:=fE hF e;clear e;refine mI (l:={l with w:=o}) p hF λr hF=>⟨s,U,_,λ_=>ć ς ft U U (by k_ne) U H.f_raceWrite (x_raceWrite_n L) (x_raceWrite_b L) (x_raceWrite_x L) (x_raceWrite_f L) (by simp[þ,gQ]),?_⟩;walk_nrm;apply ja (l:={l with w:=r}) p hF (n:=150);iterate 23 w_go fE
    refine Ì λo e=> ?_;replace hF:=fE hF e;clear e;refine mI (l:={l with w:=o}) p hF λr hF=>⟨s,U,U,λo q=>ĭ U U U H.f_semacquire (Ě L) (ě L) (Ĝ L) (ĝ L) (by simp[þ,gQ]) q,_,λo n K q u=>(ō (n:=n) U U (by k_ne) U H.f_semacquire (Ě L) (ě L) (Ĝ L) (ĝ L) (by simp[þ,gQ]) q K u).trans fR,?_⟩;walk_nrm;apply ja (l:={l with w:=r}) p hF (n:=50);iterate 6 w_go fE
    u_call H.f_uLoad (ŧ L) Ŷ fE hF
    iterate 9 w_go fE
    refine Ì λo e=> ?_;replace hF:=fE hF e;clear e;refine mI (l:={l with w:=o}) p hF λr hF=>⟨s,U,λx=>⟨_,λo q=>Ĉ U U (by k_ne) U H.f_loadU64 (İ L) (ı L) (Ĳ L) Ô (ĳ L) U q,?_⟩⟩;show fp P f (if x=0 then Ek P f b j else λ_ _=>True) _ _;by_cases C:x=0
    .subst C;rw[if_pos U];walk_nrm;apply ja (l:={l with w:=r}) p hF (n:=50);iterate 3 w_go fE
     u_leave1 H.f_uLoad fE hF
     iterate 7 w_go fE
     refine Ì λo e=> ?_;replace hF:=fE hF e;clear e;refine rT (l:={l with w:=o}) p hF (Á U) U (λ_=>ē ð ft U U (by k_ne) U H.f_enable (Ĩ L) (ĩ L) (Ī L)<|ī L) λz hF=> ?_;have B:Î l.d #[jA ð]=0:=by rw[s];rfl
     rw[B];walk_nrm;apply ja (l:={l with d:=0,w:=z}) p hF (n:=50);iterate 3 w_go fE
     u_conv H.underlying_tWgP H.room_tWg (mU.r hF.2.1).choose_spec fE hF
     refine Ì λo e=> ?_;replace hF:=fE hF e;clear e;refine mI (l:={l with d:=0,w:=o}) p hF λr hF=>⟨U,U,_,λ_=>ć ľ ft U U (by k_ne) U H.f_acquire (Ŗ L) (ŗ L) (Ř L) (ř L) (by simp[þ,fM]),?_⟩;walk_nrm;apply ja (l:={l with d:=0,w:=r}) p hF (n:=50);iterate 9 w_go fE
     u_leave0 H.f_wait fE hF
     refine Ì λo e=> ?_;replace hF:=fE hF e;clear e;exact D _ hF
    .rw[if_neg C];exact .fF λ_ _=>trivial
   .rw[if_neg t];have t:¬v%4294967296=0:=t;have g6:(y==0)=É:=by simp;omega
    apply ja (l:=l) p hF (n:=150);iterate 3 w_go fE
    u_leave1 H.f_uCas fE hF
    iterate 34 w_go fE
    refine Ì λo e=> ?_;replace hF:=fE hF e;clear e;refine mI (l:={l with w:=o}) p hF λr hF=>⟨s,U,U,λo q=>ĭ U U U H.f_semacquire (Ě L) (ě L) (Ĝ L) (ĝ L) (by simp[þ,gQ]) q,_,λo n K q u=>(ō (n:=n) U U (by k_ne) U H.f_semacquire (Ě L) (ě L) (Ĝ L) (ĝ L) (by simp[þ,gQ]) q K u).trans fR,?_⟩;walk_nrm;apply ja (l:={l with w:=r}) p hF (n:=50);iterate 6 w_go fE
    u_call H.f_uLoad (ŧ L) Ŷ fE hF
    iterate 9 w_go fE
    refine Ì λo e=> ?_;replace hF:=fE hF e;clear e;refine mI (l:={l with w:=o}) p hF λr hF=>⟨s,U,λx=>⟨_,λo q=>Ĉ U U (by k_ne) U H.f_loadU64 (İ L) (ı L) (Ĳ L) Ô (ĳ L) U q,?_⟩⟩;show fp P f (if x=0 then Ek P f b j else λ_ _=>True) _ _;by_cases C:x=0
    .subst C;rw[if_pos U];walk_nrm;apply ja (l:={l with w:=r}) p hF (n:=50);iterate 3 w_go fE
     u_leave1 H.f_uLoad fE hF
     iterate 7 w_go fE
     refine Ì λo e=> ?_;replace hF:=fE hF e;clear e;refine rT (l:={l with w:=o}) p hF (Á U) U (λ_=>ē ð ft U U (by k_ne) U H.f_enable (Ĩ L) (ĩ L) (Ī L)<|ī L) λz hF=> ?_;have B:Î l.d #[jA ð]=0:=by rw[s];rfl
     rw[B];walk_nrm;apply ja (l:={l with d:=0,w:=z}) p hF (n:=50);iterate 3 w_go fE
     u_conv H.underlying_tWgP H.room_tWg (mU.r hF.2.1).choose_spec fE hF
     refine Ì λo e=> ?_;replace hF:=fE hF e;clear e;refine mI (l:={l with d:=0,w:=o}) p hF λr hF=>⟨U,U,_,λ_=>ć ľ ft U U (by k_ne) U H.f_acquire (Ŗ L) (ŗ L) (Ř L) (ř L) (by simp[þ,fM]),?_⟩;walk_nrm;apply ja (l:={l with d:=0,w:=r}) p hF (n:=50);iterate 9 w_go fE
     u_leave0 H.f_wait fE hF
     refine Ì λo e=> ?_;replace hF:=fE hF e;clear e;exact D _ hF
    .rw[if_neg C];exact .fF λ_ _=>trivial
  .walk_nrm;have hF:True:=trivial;iterate 3 w_go fB
   u_leave1 H.f_uCas fB hF
   iterate 5 w_go fB
   exact Ì λ_ _=>⟨_,U,ft,ft⟩
end
section
variable{Ψ:Ð->Prop}{L:Ŋ}{l:fh}{e:Jd}{k:List Ź}
def ahQ{D:Ð->Ð->Array ė->Prop}{b:Æ->Ð->Prop}(h:Ĺ P yQ RT D b n g w):Ĺ P yQ RT D b n g u:=by
 cases n with
 |zero=>exact λa _=>h a trivial
 |succ n=>exact h.imp (λq a _=>q a trivial) λq=>⟨q.1,λa _=>q.2 a trivial⟩
def Yt{D:Ð->Ð->Array ė->Prop}{b c:Æ->Prop}(d:∀g,b g->∀w,Ĺ P yQ RT D (λg _=>c g) m g w):∀{n:Nat} {g:Æ} {w:Ð},Ĺ P yQ RT D (λg _=>b g) n g w->Ĺ P yQ RT D (λg _=>c g) (n+m) g w:=by
 intro n
 induction n with
 |zero=>intro g w h;rw[Nat.zero_add];exact d g (h w trivial) w
 |succ n i=>
  intro g w h;rcases h with h|⟨j,h⟩
  .exact(d g (h w trivial) w).mono Z
  .rw[show n+1+m=(n+m)+1 by omega];refine Goes.step j λe r=> ?_;have a:=h e r;cases f:í P yQ g e with
   |go k l o=>
    rw[f,Ŵ]at a;rw[Ŵ];exact⟨a.1,i a.2⟩
   |_=>rw[f]at a;exact a.elim
def Yu{S:Æ->Prop}(f:∀g,S g->g.status=Å)(h:∀w,Ĺ P yQ RT ä (λg _=>S g) (n+1) g w):g.status=Å/\(S g\/∀a,∃b,í P yQ g a=Ŭ b a #[]/\∀w,Ĺ P yQ RT ä (λg _=>S g) n b w):=by
 by_cases d:S g
 .exact⟨f g d,À d⟩
 .rcases h default with q|⟨i,q⟩
  .exact absurd (q default trivial) d
  .refine⟨i,Á λa=> ?_⟩;have c:=q a trivial;cases e:í P yQ g a with
   |go b m o=>
    rw[e,Ŵ]at c;let⟨⟨j,k⟩,l⟩:=c;subst j k;exact⟨b,U,λw=>ahQ l⟩
   |_=>rw[e]at c;exact c.elim
def ahR(H:ű P L)(B:60<=j)(D:lZ Ψ l b)(E:SW Ψ l b l.w)(C:l.d=1)(F:∀a,SW Ψ l b a->fp P yQ e {l with d:=0,w:=a} (G (f.at (y.put ((Q[i]?).bind (·.dst))<|ŉ #[])<|È Q jJ::k) qX)) (I:n<=j) (h:∀w,Ĺ P yQ RT ä (λg _=>QM P L yQ b e (f.at y<|È Q (i::jJ)::k) qX l g) n g w):PO P yQ j b e (.gk n) l g:=by
 refine⟨C,λp g=>match p with
  |.gk n=>n<=j/\∀w,Ĺ P yQ RT ä (λg _=>QM P L yQ b e (f.at y<|È Q (i::jJ)::k) qX l g) n g w
  |.ld v m=>m<=j/\gd<=v/\∀w,Ĺ P yQ RT ä (λg _=>Yr P L yQ b e (f.at y (È Q (i::jJ)::k)) qX l v g) m g w,⟨I,h⟩,λp g J=> ?_⟩
 match p,J with
 |.gk (n+1),⟨h1,h2⟩=>
  let⟨r,u⟩:=Yu (λg h=>h.1) h2;refine⟨r,h1,u.imp (λq=>⟨ô _,λw a _=>q⟩) λq a=> ?_⟩;let⟨s,c,o⟩:=q a;exact⟨s,c,Z,o⟩
 |.gk 0,⟨_,h2⟩=>
  have q:=h2 default default trivial;refine⟨q.1,λv=> ?_⟩;let⟨s,c,o,x⟩:=q.2 v;refine⟨s,c,?_⟩;by_cases z:0<=v/\v<gd
  .rw[if_pos z];exact λt=>o ⟨z.1,t⟩
  .rw[if_neg z];exact λt=>⟨60,B,B,t.1,x t⟩
 |.ld v (m+1),⟨h1,h0,h2⟩=>
  let⟨r,u⟩:=Yu (λg h=>h.1) h2;refine⟨r,h0,h1,u.imp (λq=>⟨ô _,h0,λw a _=>q⟩) λq a=> ?_⟩;let⟨s,c,o⟩:=q a;exact⟨s,c,Z,h0,o⟩
 |.ld v 0,⟨_,h0,h2⟩=>
  have q:=h2 default default trivial;let⟨r,⟨m,c,o⟩,s,x,t⟩:=q;exact⟨r,h0,⟨m,c,o⟩,s,x,40,Z,Z,λw=>Yt (λg u=>Ys H D E C F u)<|t w⟩
def Yv(H:ű P L)(o:60<=j)(a:lZ Ψ l b)(hF:SW Ψ l b l.w)(p:l.d=0)(h:∀c,SW Ψ l b c->fp P yQ e {l with d:=0,w:=c} (G (f.at (y.put ((Q[i]?).bind (·.dst))<|ŉ #[])<|È Q jJ::k) qX)): fp P yQ (qT P yQ j b e .iZ) l (G ((base L.wait).at ⟨#[ü<|Ä ⟨b,0,Í⟩,Â,Â,Â,Â,Â,Â,Â,Â,Â,Â,Â,Â,Â,Â,Â,Â,Â,Â,Â,Â,Â,Â,Â,Â,Â,Â,Â,Â,Â,Â,Â,Â,Â,Â,Â,Â,Â,Â,Â,Â,Â,Â,Â,Â,Â,Â,Â,Â,Â,Â,Â,Â,Â,Â,Â,Â,Â,Â,Â,Â,Â,Â,Â,Â,Â,Â,Â,Â,Â,Â,Â,Â,Â,Â,Â,Â,Â,Â,Â,Â,Â,Â,Â],[]⟩ [ļ<|Ų L])<|f.at y (È Q (i::jJ)::k)::qX):=by
 lib_facts;simp only[Ų,waitFn,Č];apply ja a hF (n:=40);iterate 3 w_go fE
 refine Ì λc q=> ?_;replace hF:=fE hF q;refine rT a hF (À U) U (λ_=>ē ù ft U U (by k_ne) U H.f_disable (Œ L) (œ L) (Ŕ L)<|ŕ L) λt hF=> ?_;walk_nrm;have r:Î l.d #[jA ù]=1:=by rw[p];rfl
 rw[r];refine mI a hF λm hF=>⟨40,Z,ahR (l:={l with d:=1,w:=m}) H o a hF U h Z λw=>Yt (λg s=>Ys (l:={l with d:=1,w:=m}) H a hF U h s) ?_⟩;replace hF:True:=trivial;iterate 3 w_go fB
 exact Ì λ_ _=>⟨_,U,ft,ft⟩
end
section
variable(P:ġ)(e:Bool)(b:Nat)(J:Jd)
def rd1:Jd:=λl g=>l.d=1/\G4 P e (.read<|gQ b) J l g
def Lr:Jd:=λl g=>l.d=1/\Pt P e (fM b) gd (λs=>if s=gd then fp P e (rd1 P e b J)else if gd<s/\s<1000000*gd/\s%gd=0 then fp P e J else λ_ _=>True) l g
end
def ahS(F:Ph)(j:Nat)(a:Nat->Nat):PV F j a=Lr F.P Ï F.C (KW F j a):=rfl
section
variable{Ψ:Ð->Prop}{P:ġ}{L:Ŋ}{e:Bool}{b:Nat}{l:fh}{f:Jd}{c:Ā}{k:List Ź}
def Yw(H:ű P L)(h:lZ Ψ l b)(hF:SW Ψ l b l.w)(E:l.d=0)(t:∀g,SW Ψ l b g->fp P e f {l with d:=0,w:=g} (G (c.at (y.put ((Q[i]?).bind (·.dst))<|ŉ #[])<|È Q jJ::k) qX)): fp P e (Lr P e b f) l (G ((base L.add).at ⟨#[ü<|Ä ⟨b,0,Í⟩,ê Ņ 1,Â,Â,Â,Â,Â,Â,Â,Â,Â,Â,Â,Â,Â,Â,Â,Â,Â,Â,Â,Â,Â,Â,Â,Â,Â,Â,Â,Â,Â,Â,Â,Â,Â,Â,Â,Â,Â,Â,Â,Â,Â,Â,Â,Â,Â,Â,Â,Â,Â,Â,Â,Â,Â,Â,Â,Â,Â,Â,Â,Â,Â,Â,Â,Â,Â,Â,Â,Â,Â,Â,Â,Â,Â,Â,Â,Â,Â,Â,Â,Â,Â,Â,Â,Â,Â,Â,Â,Â,Â,Â,Â,Â,Â,Â,Â,Â,Â,Â,Â,Â,Â,Â,Â,Â,Â,Â,Â,Â,Â,Â,Â,Â,Â,Â,Â],[]⟩ [ļ<|body_add L])<|c.at y (È Q (i::jJ)::k)::qX):=by
 lib_facts;simp only[body_add,addFn,Č];apply ja h hF (n:=40);iterate 12 w_go fE
 refine Ì λg a=> ?_;replace hF:=fE hF a;clear a;refine rT (l:={l with w:=g}) h hF (À U) U (λ_=>ē ù ft U U (by k_ne) U H.f_disable (Œ L) (œ L) (Ŕ L)<|ŕ L) λj hF=> ?_;walk_nrm;have F:Î l.d #[jA ù]=1:=by rw[E];rfl
 rw[F];apply ja (l:={l with d:=1,w:=j}) h hF (n:=50);iterate 2 w_go fE
 u_defer fE hF
 iterate 8 w_go fE
 u_bub fE hF
 iterate 11 w_go fE
 u_call H.f_uAdd (nm_uAdd L) uAddFn fE hF
 iterate 10 w_go fE
 refine Ì λg a=> ?_;replace hF:=fE hF a;clear a;refine mI (l:={l with d:=1,w:=g}) h hF λq hF=>⟨U,U,λv=>⟨_,λg I J=>(Ō U U (by k_ne) U H.f_addU64 (Κ L) (Λ L) (Μ L) Ô (Ν L) U U I J).trans fR,?_⟩⟩;walk_nrm;have u:Ô.wrap (v+4294967296)=Ô.wrap (v+gd):=rfl;rw[u];clear u;obtain⟨s,x⟩:∃s,Ô.wrap (v+gd)=s:=⟨_,U⟩;simp only[x];clear x v;by_cases m:s=gd
 .rw[if_pos m];have o:s=4294967296:=m;clear m;subst o;apply ja (l:={l with d:=1,w:=q}) h hF (n:=150);iterate 3 w_go fE
  u_leave1 H.f_uAdd fE hF
  iterate 48 w_go fE
  u_conv H.underlying_tPU32 H.room_tU32 (mU.C hF.2.1).choose_spec fE hF
  refine Ì λg a=> ?_;replace hF:=fE hF a;clear a;refine mI (l:={l with d:=1,w:=g}) h hF λq hF=>⟨U,U,_,λ_=>ć .read ft U U (by k_ne) U H.f_raceRead (x_raceRead_n L) (x_raceRead_b L) (x_raceRead_x L) (x_raceRead_f L) (by simp[þ,gQ]),?_⟩;walk_nrm;apply ja (l:={l with d:=1,w:=q}) h hF (n:=150);iterate 39 w_go fE
  refine Ì λg a=> ?_;replace hF:=fE hF a;clear a;refine rT (l:={l with d:=1,w:=g}) h hF (Á U) U (λw=>EF ð ft U H.f_enable (Ĩ L) (ĩ L) (Ī L) (ī L) w) λj hF=> ?_;have r:Î 1 #[jA ð]=0:=rfl;rw[r];apply ja (l:={l with d:=0,w:=j}) h hF (n:=10);u_leave0 H.f_add fE hF;refine Ì λg a=> ?_;replace hF:=fE hF a;clear a;exact t _ hF
 .rw[if_neg m];by_cases o:gd<s/\s<1000000*gd/\s%gd=0
  .rw[if_pos o];let⟨z,B,C⟩:=o;have N:(4294967296:Int)<s:=z;have D:s<1000000*4294967296:=B;have K:s%4294967296=0:=C;clear m z B C;have O:=EG s Z D Z;have M:=EH s Z D Z;rw[K]at M;obtain⟨p,T⟩:∃p,(s/4294967296+2147483648)%4294967296-2147483648=p:=⟨_,U⟩;have V:¬p<0:=Z
   have W:0<p:=Z
   have X:(p==1)=É:=by simp;omega
   apply ja (l:={l with d:=1,w:=q}) h hF (n:=150);iterate 3 w_go fE
   u_leave1 H.f_uAdd fE hF
   iterate 83 w_go fE
   refine Ì λg a=> ?_;replace hF:=fE hF a;clear a;refine rT (l:={l with d:=1,w:=g}) h hF (Á U) U (λw=>EF ð ft U H.f_enable (Ĩ L) (ĩ L) (Ī L) (ī L) w) λj hF=> ?_;have r:Î 1 #[jA ð]=0:=rfl;rw[r];apply ja (l:={l with d:=0,w:=j}) h hF (n:=10);u_leave0 H.f_add fE hF;refine Ì λg a=> ?_;replace hF:=fE hF a;clear a;exact t _ hF
  .rw[if_neg o];trivial
end
def AA:ω->Nat->ω
 |.seq a _,0=>a
 |.seq _ b,_=>b
 |π _ a _,0=>a
 |π _ _ b,_=>b
 |χ _ a,_=>a
 |.loop a,_=>a
 |c,_=>c
def kX(f:Func)(l:List Nat):ω:=l.foldl AA<|f.body.getD ai
def pH(f:Ļ)(a b:Array ì):ż:={target:=.fn (.func f) a,args:=b}
def oc(P:ġ):Ā:={(default:Ā)with fn:=P.funcs.size,defers:=[],mode:=.panicking [Ś]}
section
variable{b:Ā}{a:ś}
def Yx{h:Array ĺ}(c:Q[i]?=Ä o)(j:å o (Ħ Q a.tmps)=Ï)(k:b.kind≠Ė) (e:o.op=.defer {callee:=Ĥ qQ,args:=#[],argTypes:=h}) (g:a.eval qQ=.func (.func F) #[] d): í P yQ (G (b.at a<|È Q (i::jJ)::L) qX) w=Ŭ (G (b.at (Ş ⟨a.tmps,pH F d #[]::a.defers⟩ o.dst Â)<|È Q jJ::L) qX) w #[]:=by
 have l:(à a.eval o).run P w=.ok (.defer<|pH F d #[]) w:=by unfold à;simp[e,Ń,č,g,pH]
 have m:(à a.eval o).events P w #[]=#[]:=by unfold à;simp[e,Ń,č,g]
 have n:(b.at ⟨a.tmps,pH F d #[]::a.defers⟩<|È Q (i::jJ)::L).finish Â=b.at (Ş ⟨a.tmps,pH F d #[]::a.defers⟩ o.dst Â) (È Q jJ::L):=by rw[Ĭ,c];rfl
 have p:(b.kind==Ė)=É:=by simpa using k
 rw[Υ c j,<-n];simp[stepG.apply,l,m,G,Frame.at,p,ğ,ċ]
def Yy{l:Array ĺ}(m:Q[i]?=Ä o)(n:å o (Ħ Q a.tmps)=Ï)(p:b.kind≠Ė) (h:o.op=ţ {callee:=Ĥ qQ,args:=#[],argTypes:=l}) (j:a.eval qQ=.func (.func F) #[] d) (e:P.funcs[F]?=Ä s) (q:(s.name== "runtime.NumGoroutine")=É) (g:s.body=Ä wX): í P yQ (G (b.at a<|È Q (i::jJ)::L) qX) w=Ŭ (G ((base F).at {tmps:=d++è (s.ntmps-d.size) Â,defers:=[]} [ļ wX])<|b.at a (È Q (i::jJ)::L)::qX) w #[]:=by
 have k:¬s.name= "runtime.NumGoroutine":=by simpa using q
 have r:(à a.eval o).run P w=.ok (.enter F d) w:=by unfold à;simp[h,Ń,č,j,Ũ,ũ,e,k,g]
 have t:(à a.eval o).events P w #[]=#[]:=by unfold à;simp[h,Ń,č,j,Ũ,ũ,e,k,g]
 rw[Α m n p r,<-enter_at d e g];unfold listed;rw[t,ċ]
def ahT{g:Array ĺ}(d:Q[i]?=Ä o)(h:å o (Ħ Q a.tmps)=Ï)(j:b.kind=Ŏ)(k:b.roundOf=Í)(l:f.mode=ý) (e:o.op=ţ {callee:=.builtin .recover,args:=#[],argTypes:=g}) (q:o.type=t): í P yQ (G (b.at a<|È Q (i::jJ)::L)<|f::qX) w=Ŭ (G (b.at (a.put o.dst ą)<|È Q jJ::L)<|f::qX) w #[]:=by
 have m:(à a.eval o).run P w=.ok .recover w:=by unfold à;simp[e,Ń,Ũ,builtin]
 have n:(à a.eval o).events P w #[]=#[]:=by unfold à;simp[e,Ń,Ũ,builtin]
 have p:(b.at a<|È Q (i::jJ)::L).finish ą=b.at (a.put o.dst ą) (È Q jJ::L):=by rw[Ĭ,d];rfl
 rw[Υ d h,<-p];simp[stepG.apply,m,n,G,Frame.at,j,ğ,ċ,k,tryRecover,l]
def ahU{e:List ż}(i:a.defers=pH F d #[]::e)(g:P.funcs[F]?=Ä s)(j:(s.name== "runtime.NumGoroutine")=É)(h:s.body=Ä wX): í P yQ (G {b.at a L with mode:=ý} qX) w= Ŭ (G ((baseD F).at {tmps:=d++è (s.ntmps-d.size) Â,defers:=[]} [ļ wX])<|{b.at ⟨a.tmps,e⟩ L with mode:=ý}::qX) w #[]:=by
 have k:¬s.name= "runtime.NumGoroutine":=by simpa using j
 rw[<-enter_atD d g h];simp[G,í,Χ,ŷ,Frame.at,i,pH,Ũ,ũ,g,k,h,ğ,ċ]
def Yz(a:P.funcs[F]?=Ä s)(e:(s.name== "runtime.NumGoroutine")=É)(b:s.body=Ä wX): í P yQ (born P<|pH F d #[]) w=Ŭ (G ((baseD F).at {tmps:=d++è (s.ntmps-d.size) Â,defers:=[]} [ļ wX]) [oc P]) w #[]:=by
 have g:¬s.name= "runtime.NumGoroutine":=by simpa using e
 rw[<-enter_atD d a b];simp[G,í,Χ,ŷ,born,oc,pH,Ũ,ũ,a,g,b,ğ,ċ]
def ahV(d:b.kind=Ŏ)(e:a.defers=[])(f:P.funcs[b.fn]?=Ä s)(c:s.results=#[]): í P yQ (G {b.at a L with mode:=ý} [oc P]) w=Ŭ (G (oc P) []) w:=by have g:=results_none c a.tmps P w;have h:=events_results_none (P:=P) (w:=w) c a.tmps #[];simp[G,í,Χ,doReturn,Frame.at,d,e,f,g,h,oc,Ś,seen,ğ]
def ahW(w:Ð):í P É (G (oc P) []) w=Ŭ {frame:=oc P,callers:=[],status:=æ,dying:=Í} w:=by simp[G,í,Χ,oc,Ś,Frame.catches];rfl
def ahX:qh P 0 (G (oc P) []):=⟨1,.ctl U ahW ⟨U,U⟩⟩
def ahY(c:b.kind=Ŏ)(d:a.defers=[])(e:P.funcs[b.fn]?=Ä s)(f:s.results=#[]):qh P 0 (G {b.at a L with mode:=ý} [oc P]):= Lq U (λ_=>ahV c d e f) ahX
def ahZ(e:b.kind=Ŏ)(g:a.defers=[])(h:P.funcs[b.fn]?=Ä s)(j:s.results=#[])(k:f.mode=ý)(l:qh P i (G f qX)):qh P i (G {b.at a L with mode:=ý}<|f::qX):= let⟨n,q⟩:=l;⟨n+1,.leaveD e g h j k q⟩
end
def ah0(d:Nat)(t:ĺ)(w:Ð)(a:Array ė)(h:P.underlying t=Ä (.interface<|P.methodsAt t)):(Ω (d+1) t ą ą).events P w a=a:=by simp[Ω,run_underlying h,go_sem]
def ah1(t:ĺ)(w:Ð)(a:Array ė)(h:P.underlying t=Ä (.interface<|P.methodsAt t)):(Op.equal t ą ą).events P w a=a:=ah0 9999 t w a h
def ah2(t:ĺ)(w:Ð)(a:Array ė)(h:P.underlying t=Ä (.interface<|P.methodsAt t)):(binOp .neq t ą ą).events P w a=a:=by simp only[binOp];simp[ah1 t w a h]
section
variable{J:Jd}{l:fh}{b:Ā}{a:ś}
def j2(l:fh):Prop:=∀j,l.O j->j<l.w.heap.size
def fZ(a:j2 l)(b:Ĺ P yQ RT ä (λc _=>fp P yQ J l c) n g l.w):fp P yQ J l g:= QL b (λ_ _ _=>trivial) a λ_ _ r h=>h.jP r
def vB(k:Q[i]?=Ä o)(m:å o (Ħ Q a.tmps)=Ï)(n:b.kind≠Ė) (h:∀c,fK l l.w c->uponK o a (λq e=>∃d,mC l d c e (listed P b.fn a o c)/\fp P yQ J d (G (b.at q<|È Q jJ::L) qX)) ((à a.eval o).run P c)): fp P yQ J l (G (b.at a<|È Q (i::jJ)::L) qX):=by
 refine .mk U λc r=> ?_;have f:=h c r;revert f;generalize p:(à a.eval o).run P c=res;intro f;match res,f with
 |.ok (.value v) e,⟨d,g,j⟩=>exact⟨_,e,_,d,ő k m n p,g,j⟩
 |.ok .skip e,⟨d,g,j⟩=>exact⟨_,e,_,d,Ţ k m n p,g,j⟩
def xe(l:fh)(e:ė):Prop:=yq l e/\e.loc≠ź ù/\e.loc≠ź ð
def Ls(h:∀e∈V,xe l e)(d:Nat):Î d V=d:=ņ (λe a=>⟨(h e a).2.1,(h e a).2.2⟩) d
def ah3(b:∀j,l.O j->j<w.heap.size)(c:¬l.q)(a:∀e∈V,xe l e):mC l {l with w:=w} w w V:= ⟨Ç _,λ_ h=>À h,b,U,U,U,U,λ_ _ _ _=>rfl,λ_ _ _ _=>rfl,λ_ _ _=>rfl,U,U,U,λe h=>(a e h).1,(Ls a _).symm,U,λq=>absurd q c,U⟩
def oe(d:Q[i]?=Ä o)(f:å o (Ħ Q a.tmps)=Ï)(g:b.kind≠Ė)(j:j2 l)(k:¬l.q) (m:∀c,fK l l.w c->(à a.eval o).run P c=.ok (.value v) c) (n:∀c,fK l l.w c->∀e∈(à a.eval o).events P c #[],xe l e) (p:fp P yQ J l (G (b.at (a.put o.dst v)<|È Q jJ::L) qX)):fp P yQ J l (G (b.at a<|È Q (i::jJ)::L) qX):=by refine vB d f g λc r=> ?_;rw[m c r];exact⟨_,ah3 (mH j r) k λe h=>n c r e<|ε h,p.jP r⟩
def gZ(l:fh)(x:đ):Prop:=l.M x.block\/l.C x
def gZ.r{x:đ}(h:gZ l x){w₁:Ð}(r:fK l l.w w₁):w₁.cell? x=l.w.cell? x:=h.elim (λq=>gM<|r.I _ q)<|r.N x
def gZ.C{x:đ}(h:gZ l x):xe l ⟨ā x,É,É⟩:=by
 refine⟨À ⟨x,U,?_⟩,ft,ft⟩;rcases h with(q|q)|(q|q)
 .exact À q
 .exact Á<|Á ⟨À q,U,U⟩
 .exact Á<|À q
 .exact Á<|Á ⟨Á q,U,U⟩
def nG{x:đ}(f:Q[i]?=Ä o)(g:å o (Ħ Q a.tmps)=Ï)(j:b.kind≠Ė)(k:j2 l)(m:¬l.q)(c:gZ l x)(d:l.w.cell? x=Ä v) (n:∀w,w.cell? x=Ä v->(à a.eval o).run P w=.ok (.value v) w) (p:∀w,w.cell? x=Ä v->(à a.eval o).events P w #[]=#[⟨ā x,É,É⟩]) (s:fp P yQ J l (G (b.at (a.put o.dst v)<|È Q jJ::L) qX)):fp P yQ J l (G (b.at a<|È Q (i::jJ)::L) qX):= oe f g j k m (λw r=>n w<|(c.r r).trans d) (λw r e h=>by
  rw[p w<|(c.r r).trans d]at h;have:e=⟨ā x,É,É⟩:=by simpa using h
  subst this;exact c.C) s
def qu(l:fh)(x:đ):Prop:=l.O x.block\/l.r x
def qu.C(h:qu l p):gZ l p:=h.elim (λq=>À<|À q) λq=>Á<|À q
def qu.r{x:đ}(h:qu l x):xe l ⟨ā x,Ï,É⟩:=⟨À ⟨x,U,h.elim À λq=>Á<|À q⟩,ft,ft⟩
end
end Go.Proofs.Y.fD
namespace Go.Proofs.Y.fD
open Go Go.Conc Go.Proofs.Y.Lift
section
variable{J:Jd}{l:fh}{b:Ā}{cs:List Ā}{ops:Array Ľ}
def QO(a:∀j,l.O j->j<w.heap.size)(b:¬l.q):mC l {l with w:={w with drawn:=w.drawn+1}} w {w with drawn:=w.drawn+1} #[]:= ⟨Ç _,λ_ h=>À h,a,U,U,U,U,λ_ _ _ _=>rfl,λ_ _ _ _=>rfl,λ_ _ _=>rfl,U,U,U,λe c=>by simp at c,by simp[Î],U,λq=>absurd q b,U⟩
def jh(listed:Array Bool):Nat:=listed.countP λx=> !x
def Lt{listed:Array Bool}(h:listed.getD i Ï=É):jh (listed.setIfInBounds i Ï)+1=jh listed:=by
 have a:i<listed.size:=by
  rcases ø i listed.size with q|q
  .exact q
  .simp[ë q]at h
 have q:listed[i]=É:=by simpa[a]using h
 unfold jh;have b:0<listed.countP (λx=> !x):=Array.countP_pos_iff.2 ⟨É,by rw[<-q];exact Array.getElem_mem a,U⟩;rw[Array.setIfInBounds,dif_pos a,Array.countP_set a,q];simp only[Bool.not_false,Bool.not_true,if_true,Bool.false_eq_true,if_false];omega
def QP{md:ß}{listed:Array Bool}(c:listed.size=ops.size)(h:jh listed=0):Ó md ops listed=[]:=by rw[List.eq_nil_iff_forall_not_mem];intro j a;let⟨b,o,d,_⟩:=Ď.1 a;have:=Lt b;omega
def YA{md:ß}(I:Array Bool->ś->fh->Prop) (p:∀c a l i k,I c a l->i∈Ó md ops c->fp P yQ (λh m=>∃f,m=G (b.at f<|È ops k::L) cs/\I (c.setIfInBounds i Ï) f h) l (G (b.at a<|È ops (i::k)::L) cs)) (n:∀c a l,I c a l->c.size=ops.size->Ó md ops c=[]->fp P yQ J l (G (b.at a<|È ops []::L) cs)): ∀(d t:Nat) (c:Array Bool) (a:ś) (l:fh),c.size=ops.size->jh c<=d->I c a l->fp P yQ J l (G (b.at a<|È ops (ă md ops d t c [])::L) cs):=by
 intro d
 induction d with
 |zero=>
  intro t c a l e q g;simpa[ă]using n c a l g e<|QP e Z
 |succ d r=>
  intro t c a l e q g;simp only[ă];change fp P yQ J l (G (b.at a (È ops (match(Ó md ops c)[t%(Ó md ops c).length]? with
   |some i=>ă md ops d (t/(Ó md ops c).length) (c.setIfInBounds i Ï) [i]
   |none=>[].reverse)::L)) cs)
  cases j:(Ó md ops c)[t%(Ó md ops c).length]? with
  |none=>
   have s:Ó md ops c=[]:=by
    cases u:Ó md ops c with
    |nil=>rfl
    |cons x o=>
     rw[u]at j;have v:t%(x::o).length<(x::o).length:=Θ _ ft;simp at j;simp at v;omega
   simpa using n c a l g e s
  |some i=>
   simp only[];rw[linearise_go_acc,List.reverse_singleton,List.singleton_append];have o:=List.mem_of_getElem? j;refine(p c a l i _ g o).mA ?_;rintro h m ⟨f,rfl,s⟩;exact r _ _ f h (by simpa using e) (by have:=Lt (Ď.1 o).1;omega) s
def EJ(n:Nat):jh (è n É)=n:=by unfold jh;rw[Array.countP_replicate];simp
def QR{id:Nat}(I:Array Bool->ś->fh->Prop)(m:j2 l)(n:¬l.q) (f:∀d,fK l l.w d->I (è ops.size É) y {l with w:={d with drawn:=d.drawn+1}}) (g:∀e c y l i h,I c y l->i∈Ó e ops c->fp P yQ (λo p=>∃j,p=G (b.at j<|È ops h::L) cs/\I (c.setIfInBounds i Ï) j o) l (G (b.at y<|È ops (i::h)::L) cs)) (k:∀e c y l,I c y l->c.size=ops.size->Ó e ops c=[]->fp P yQ J l (G (b.at y<|È ops []::L) cs)): fp P yQ J l (G (b.at y<|ļ (ĥ id ops Ï)::L) cs):=by
 refine .mk U λd r=>⟨_,_,_,_,stepG_region_draw,QO (mH m r) n,?_⟩;unfold Region.schedule;split
 .exact YA I (g _) (k _) _ _ _ _ _ ft (by rw[EJ];exact Ç _)<|f d r
 .exact YA I (g _) (k _) _ _ _ _ _ ft (by rw[EJ];exact Ç _)<|f d r
end
def yT(e:Edge):Bool:=match e.ground with|.textOnly _=>É|.gcOnly _=>É|_=>Ï
def YB{md:ß}{e:Edge}(h:yT e=Ï):Ÿ md e=Ï:=by unfold yT at h;unfold Ÿ;revert h;cases e.ground<;>simp
structure mV(ops:Array Ľ)(t0:Array ì)(val:Nat->ì)(listed:Array Bool)(a:ś):Prop where
 S:a.defers=[]
 M:a.tmps.size=t0.size
 Y:∀d,(∀j o,ops[j]?=Ä o->listed.getD j É=Ï->o.dst≠Ä d)->a.tmps[d]?=t0[d]?
 r:∀j o d,ops[j]?=Ä o->listed.getD j É=Ï->o.dst=Ä d->a.tmps[d]?=Ä (val j)
 N:∀j o e,ops[j]?=Ä o->listed.getD j É=Ï->e∈o.after->yT e=Ï->listed.getD e.on É=Ï
def s5(a:Array Ľ)(n:Nat):Bool:=(ζ a.size).all λi=>match(a.getD i default).dst with
 |none=>Ï
 |some d=>decide (d<n)&&(ζ a.size).all λj=>i==j||(a.getD j default).dst !=Ä d
section
variable{ops:Array Ľ}{t0:Array ì}{val:Nat->ì}{listed:Array Bool}{a:ś}
def ah4(h:s5 ops t0.size=Ï)(a:ops[i]?=Ä o)(b:o.dst=Ä n):n<t0.size:=by have c:=(Ò.1 a).1;have:=(ď.1 h) i<|ū.2 c;simp[a,b]at this;exact this.1
def ah5(h:s5 ops t0.size=Ï){a:Ľ}(b:ops[i]?=Ä o)(c:ops[j]?=Ä a)(f:j≠i)(g:o.dst=Ä n):a.dst≠Ä n:=by
 have k:=(Ò.1 b).1;have l:=(Ò.1 c).1;have:=(ď.1 h) i<|ū.2 k;simp[b,g]at this;rcases this.2 j l with e|e
 .exact absurd e.symm f
 .simpa[c]using e
def mV.C(h:mV ops t0 val listed a){d:Nat}(b:ops.toList.all (λo=>o.dst !=Ä d)=Ï):a.tmps[d]?=t0[d]?:= h.Y d λj o c _ e=>by have:=ď.1 b o<|ÿ.2<|Array.mem_of_getElem? c;simp[e]at this
def QS(h:(listed.setIfInBounds i Ï).getD j É=Ï):j=i\/listed.getD j É=Ï:=by
 by_cases e:i=j
 .exact À e.symm
 .rw[getD_set_ne É e]at h;exact Á h
def mV.gh(h:mV ops t0 val listed a)(r:s5 ops t0.size=Ï){md:ß}(l:ops[i]?=Ä o)(s:i∈Ó md ops listed)(y:o.dst≠Í->v=val i):mV ops t0 val (listed.setIfInBounds i Ï) (a.put o.dst v):=by
 have n:=(Ď.1 s).1;have t:∀j c e,ops[j]?=Ä c->(listed.setIfInBounds i Ï).getD j É=Ï->e∈c.after->yT e=Ï->(listed.setIfInBounds i Ï).getD e.on É=Ï:=λj c e b f u w=>by
  rcases QS f with rfl|q
  .let⟨_,g,z,d⟩:=Ď.1 s;rw[b]at z;obtain rfl:=Ã z;exact Ġ<|d e u<|YB w
  .exact Ġ<|h.N j c e b q u w
 have B:(listed.setIfInBounds i Ï).getD i É=Ï:=by
  have z:i<listed.size:=by
   rcases ø i listed.size with q|q
   .exact q
   .simp[ë q]at n
  simp[z]
 cases k:o.dst with
 |none=>
  refine⟨h.S,h.M,λd m=>h.Y d λj c b f=>m j c b<|Ġ f,λj c d b f g=> ?_,t⟩;rcases QS f with rfl|q
  .rw[l]at b;obtain rfl:=Ã b;rw[k]at g;cases g
  .exact h.r j c d b q g
 |some e=>
  have C:=y (by rw[k];simp);refine⟨h.S,by simp[Ş,h.M],λd m=> ?_,λj c d b f g=> ?_,t⟩
  .have p:e≠d:=λq=>m i o l B (by rw[k,q]);simp only[Ş];rw[á p];exact h.Y d λj c b f=>m j c b<|Ġ f
  .simp only[Ş];rcases QS f with rfl|q
   .rw[l]at b;obtain rfl:=Ã b;rw[k]at g;obtain rfl:=Ã g;have z:e<a.tmps.size:=by rw[h.M];exact ah4 r l k
    simp[z,C]
   .have p:e≠d:=by
     rintro rfl;by_cases x:j=i
     .subst x;rcases ø j listed.size with z|z
      .simp[z]at n q;rw[n]at q;cases q
      .simp[ë z]at q
     .exact ah5 r l b x k g
    rw[á p];exact h.r j c d b q g
def mV.YC(h:mV ops t0 val listed a){b:Nat->ì}(e:∀j,listed.getD j É=Ï->b j=val j):mV ops t0 b listed a:= ⟨h.S,h.M,h.Y,λj o d f c g=>(by rw[e j c];exact h.r j o d f c g),h.N⟩
def iq{md:ß}(h:i∈Ó md ops listed)(c:ops[i]?=Ä o)(d:o.after.toList.any (λe=>e.on==j&&yT e)=Ï):listed.getD j É=Ï:=by let⟨_,k,b,f⟩:=Ď.1 h;rw[c]at b;obtain rfl:=Ã b;let⟨e,g,a⟩:=ŏ.1 d;simp only[Ő,beq_iff_eq]at a;rw[<-a.1];exact f e (ÿ.1 g)<|YB a.2
def mV.I(h:mV ops t0 val listed a)(c:ops[i]?=Ä o)(d:listed.getD i É=Ï)(f:o.after.toList.any (λe=>e.on==j&&yT e)=Ï):listed.getD j É=Ï:=by let⟨e,g,b⟩:=ŏ.1 f;simp only[Ő,beq_iff_eq]at b;rw[<-b.1];exact h.N i o e c d (ÿ.1 g) b.2
def xf(h:listed.getD i Ï=É):¬listed.getD i É=Ï:=by
 rcases ø i listed.size with z|z
 .simp[z]at h|-;exact h
 .simp[ë z]at h
def YD(md:ß)(ops:Array Ľ):List Nat->List Nat->Bool
 |[],_=>Ï
 |i::r,seen=>(match ops[i]? with|some o=>o.after.toList.all (λe=> !Region.binds md e||seen.contains e.on)|none=>É)&&YD md ops r (i::seen)
def qw{md:ß}(h:Ó md ops listed=[])(n:listed.size=ops.size):∀(b a:List Nat),YD md ops b a=Ï->(∀i∈a,listed.getD i É=Ï)->∀i∈b,listed.getD i É=Ï:=by
 intro b
 induction b with
 |nil=>intro a _ _ i c;cases c
 |cons j r p=>
  intro a s g i c;let⟨d,t⟩:=Bool.and_eq_true_iff.1 (show(_&&_)=Ï from s);have l:listed.getD j É=Ï:=by
   split at d
   .rename_i o m;have u:j<listed.size:=by rw[n];exact(Ò.1 m).1
    by_cases f:listed.getD j Ï=É
    .have:j∈Ó md ops listed:=Ď.2 ⟨f,o,m,λe v w=>by
      have:=ď.1 d e (ÿ.2 v);rw[w]at this;simp at this;exact g _ this⟩
     rw[h]at this;cases this
    .simp[u]at f|-;exact f
   .cases d
  rcases Ű.1 c with rfl|q
  .exact l
  .exact p (j::a) t (λk x=>(Ű.1 x).elim (λe=>e▸l)<|g k) i q
def mV.G(t:Array ì)(val:Nat->ì)(n:Nat):mV ops t val (è n É) ⟨t,[]⟩:=by
 have a:∀j,¬(è n É).getD j É=Ï:=λj q=>by
  rcases ø j n with z|z
  .simp[z]at q
  .simp[ë (show(è n É).size<=j by simpa using z)]at q
 exact⟨U,U,λ_ _=>rfl,λj _ _ _ z=>absurd z<|a j,λj _ _ _ z=>absurd z<|a j⟩
def EK{md:ß}(h:i∈Ó md ops listed):i<ops.size:=by let⟨_,o,a,_⟩:=Ď.1 h;exact(Ò.1 a).1
def QU{md:ß}(h:i∈Ó md ops listed):listed.getD i Ï=É:=(Ď.1 h).1
end
def YE(h:a.spot.isSome=Ï):w.cell? a=Í:=by
 unfold World.cell?;cases w.heap[a.block]? with
 |none=>rfl
 |some o=>cases o<;>simp[h]
def Cj{x y:đ}(b:x.spot=Í)(h:y≠x):(w.setCell x v).cell? y=w.cell? y:=by
 by_cases a:y.spot.isSome=Ï
 .rw[YE a,YE a]
 .apply yu;let⟨d,i,j⟩:=x;let⟨f,k,c⟩:=y;simp only at b a|-;have:c=Í:=by cases c<;>simp_all
  subst b this;by_cases e:d=f
  .exact Á λg=>h<|by rw[e,g]
  .exact À e
section
variable{J:Jd}{l:fh}{b:Ā}{a:ś}{cs:List Ā}{ops:Array Ľ}
def YF(c:p.spot=Í)(g:(w.cell? p).isSome=Ï)(d:(u.cell? p).isSome=Ï)(r:fK l w u):fK l (w.setCell p v) (u.setCell p v):=by
 refine⟨by rw[jT,jT];exact r.r,λj f=> ?_,λy b=> ?_,λy b=> ?_,λy b h=> ?_⟩
 .by_cases e:j=p.block
  .subst e;unfold World.setCell;simp only[Array.getElem?_modify];rw[r.I _ f]
  .rw[lr e,lr e];exact r.I j f
 .by_cases e:y=p
  .subst e;let⟨a,i⟩:=î.1 g;let⟨m,k⟩:=î.1 d;rw[tZ i,tZ k]
  .rw[Cj c e,Cj c e];exact r.N y b
 .rw[sW,sW];exact r.Y y b
 .by_cases e:y=p
  .subst e;exact yv d
  .rw[Cj c e]at h|-;exact r.S y b h
def YG(f:p.spot=Í)(g:∀j,l.O j->j<w.heap.size)(i:¬l.q)(c:qu l p)(d:∀e∈V,xe l e):mC l {l with w:=w.setCell p v} w (w.setCell p v) V:=by
 refine⟨by rw[jT];exact Ç _,λ_ h=>À h,λj k=>by rw[jT];exact g j k,U,U,U,U,λj _ a b=>lr λe=> ?_,λy _ a b=>Cj f λe=> ?_,λ_ _ _=>PK,U,U,U,λe h=>(d e h).1,(Ls d _).symm,U,λq=>absurd q i,U⟩
 .exact c.elim (λq=>a<|e▸q) λq=>b p e.symm q
 .subst e;exact c.elim a b
def ah6(m:ops[i]?=Ä o)(n:å o (Ħ ops a.tmps)=Ï)(s:b.kind≠Ė)(t:j2 l)(u:¬l.q)(g:p.spot=Í)(d:qu l p)(j:(l.w.cell? p).isSome=Ï)(y:o.dst=Í)(z:l.w.frozen? p=É) (B:∀w,(w.cell? p).isSome=Ï->w.frozen? p=É->(à a.eval o).run P w=.ok .skip (w.setCell p v)) (C:∀w,(w.cell? p).isSome=Ï->w.frozen? p=É->(à a.eval o).events P w #[]=#[⟨ā p,Ï,É⟩]) (D:fp P yQ J {l with w:=l.w.setCell p v} (G (b.at a<|È ops jJ::L) cs)):fp P yQ J l (G (b.at a<|È ops (i::jJ)::L) cs):=by
 refine vB m n s λc r=> ?_;have f:(c.cell? p).isSome=Ï:=by rwa[d.C.r r]
 have k:c.frozen? p=É:=by rw[<-z];exact d.C.elim (λq=>wT<|r.I _ q)<|r.Y p
 rw[B c f k];refine⟨_,YG g (mH t r) u d λe h=> ?_,?_⟩
 .have:=ε h;rw[C c f k]at this;have:e=⟨ā p,Ï,É⟩:=by simpa using this
  subst this;exact d.r
 .have:(a.put o.dst Â)=a:=by rw[y];rfl
  rw[this];have E:fK {l with w:=l.w.setCell p v} (l.w.setCell p v) (c.setCell p v):=yP<|YF g j f r;exact D.jP E
end
def ma(l:fh):fh:={l with O:=λ_=>False,I:=l.M,r:=λ_=>False,N:=l.C}
def pI(l x:fh):fh:={x with O:=λb=>x.O b\/l.O b,I:=l.I,r:=l.r,N:=l.N}
structure kN(l l':fh):Prop where
 O:∀j,l.O j->l'.O j
 Y:∀j,l'.O j->l.O j\/l.w.heap.size<=j
 I:l'.I=l.I
 N:l'.r=l.r
 S:l'.N=l.N
 K:l'.K=l.K
 q:l'.q=l.q
 r:fK l l.w l'.w
 fx:j2 l'
def kN.fW{l:fh}(h:j2 l):kN l l:=⟨λ_ h=>h,λ_ h=>À h,U,U,U,U,U,fK.fW _ _,h⟩
def kN.C{l a:fh}(h:kN l a):a.C=l.C:=by unfold fh.C;rw[h.N,h.S]
def kN.M{l a:fh}(h:kN l a)(c:l.M b):a.M b:=c.imp (h.O b)<|by rw[h.I];exact id
def kN.G{l d:fh}(h:kN l d)(r:fK d w u):fK l w u:=⟨r.r,λj e=>r.I j<|h.M e,λx b=>r.N x (by rwa[h.C]),λx b=>r.Y x (by rwa[h.C]),λx b=>r.S x<|by rwa[h.K]⟩
def kN.jP{l a:fh}(h:kN l a){w₁:Ð}(r:fK a a.w w₁):kN l {a with w:=w₁}:= ⟨h.O,h.Y,h.I,h.N,h.S,h.K,h.q,h.r.fj<|h.G r,mH h.fx r⟩
def gB.jP{l:fh}(s:gB l){w₁:Ð}(h:l.w.heap.size<=w₁.heap.size):gB {l with w:=w₁}:= ⟨s.c,s.Y,s.N,λb d=>Ê (s.fx b d) h,λa c=>Ê (s.I a c) h,λa c=>let⟨e,f,g⟩:=s.S a c;⟨e,Ê f h,g⟩⟩
def gB.r{l:fh}(s:gB l):j2 l:=λj a=>s.fx j<|À a
section
variable{J:Jd}
def ah7{l x:fh}(d:x.I=l.M)(f:x.r=λ_=>False)(g:x.N=l.C){e:ė}(h:yq x e):yq (pI l x) e:=by
 rcases h with⟨a,b,c⟩|h|h|h|h|⟨a,b,c⟩
 .refine À ⟨a,b,?_⟩;rcases c with q|q|⟨q|q,z⟩
  .exact À<|À q
  .rw[f]at q;exact q.elim
  .rw[d]at q;rcases q with q|q
   .exact À<|Á q
   .exact Á<|Á ⟨À q,z⟩
  .rw[g]at q;rcases q with q|q
   .exact Á<|À q
   .exact Á<|Á ⟨Á q,z⟩
 .exact Á<|À h
 .exact Á<|Á<|À h
 .exact Á<|Á<|Á<|À h
 .exact Á<|Á<|Á<|Á<|À h
 .exact Á<|Á<|Á<|Á<|Á ⟨a,À b,c⟩
def YH{l x:fh}(a:x.I=l.M):(pI l x).M=x.M:=by
 funext b;refine propext ⟨λh=> ?_,λh=> ?_⟩
 .rcases h with(q|q)|q
  .exact À q
  .exact Á<|by rw[a];exact À q
  .exact Á<|by rw[a];exact Á q
 .rcases h with q|q
  .exact À<|À q
  .rw[a]at q;exact q.elim (λz=>À<|Á z) Á
def Lu{l x:fh}(c:x.r=λ_=>False)(b:x.N=l.C):(pI l x).C=x.C:=by
 funext a;refine propext ⟨λh=>Á (by rwa[b]),λh=> ?_⟩;rcases h with q|q
 .rw[c]at q;exact q.elim
 .rwa[b]at q
def fp.ah8{l:fh}(s:gB l){x:fh}(h:fp P yQ J x g):x.I=l.M->x.r=(λ_=>False)->x.N=l.C->x.K=l.K->x.q=l.q->fK l l.w x.w->(∀j,x.O j->l.w.heap.size<=j)->j2 x-> fp P yQ (λb c=>∃a,J a c/\b=pI l a/\kN l b/\a.I=l.M/\a.N=l.C/\a.r=λ_=>False) (pI l x) g:=by
 induction h with
 |@fF x g h=>
  intro m f d o B p v E;refine .fF λc r=>⟨{x with w:=c},?_,U,?_,m,d,f⟩
  .exact h c ⟨r.r,λj b=>r.I j (by rwa[YH m]),λy a=>r.N y (by rwa[Lu f d]),λy a=>r.Y y (by rwa[Lu f d]),r.S⟩
  .refine⟨λj b=>Á b,λj b=>b.elim (λq=>Á<|v j q) À,U,U,U,o,B,p.fj ⟨r.r,λj b=>r.I j ?_,λy a=>r.N y ?_,λy a=>r.Y y ?_,λy a=>r.S y ?_⟩,λj b=> ?_⟩
   .exact b.elim (λq=>À<|Á q) Á
   .exact a
   .exact a
   .show x.K y;rwa[o]
   .refine Ê ?_ r.r;rcases b with q|q
    .exact E j q
    .exact Ê (s.fx j<|À q) p.r
 |@jO x g G' W' E' L' jd h hd _ ih=>
  intro m f d o B p v E;refine .mk jd λc r=> ?_;have i:fK x x.w c:=⟨r.r,λj b=>r.I j (by rwa[YH m]),λy a=>r.N y (by rwa[Lu f d]),λy a=>r.Y y (by rwa[Lu f d]),r.S⟩;have D:=hd c i;have n:=Ù p.r i.r;have F:=p.fj ⟨i.r,λj b=>i.I j (Á<|by rwa[m]),λy a=>i.N y (Á<|by rwa[d]),λy a=>i.Y y (Á<|by rwa[d]),λy a=>i.S y<|by rwa[o]⟩;have z:∀j,j<l.w.heap.size->¬x.O j:=λj b q=>by have:=v j q;omega
  have t:∀y:đ,¬x.r y:=λy q=>by rwa[f]at q
  have G:fK l c (W' c):=⟨D.C,λj b=>D.jV j (Ê (s.fx j b) n) (z j<|s.fx j b) λy _=>t y,λy a=>D.N y (Ê (s.I y a) n) (z _<|s.I y a)<|t y,λy a=>KH<|D.Y y (Ê (s.I y a) n)<|z _<|s.I y a,λy a q=>by rwa[D.N y (Ê (s.S y a).2.1 n) (z _ (s.S y a).2.1)<|t y]⟩;have H:=λj b=>(D.S j b).elim (v j) λq=>Ù n q;have I:j2 (L' c):=λj b=>by rw[D.b];exact D.fx j b
  refine⟨G' c,W' c,E' c,pI l<|L' c,h c i,?_,?_⟩
  .refine⟨D.C,λj b=> ?_,λj b=> ?_,U,U,U,D.k,λj b u L=> ?_,λy a u L=> ?_,λy a u=> ?_,D.f,D.g,D.m,λe N=>ah7 (D.I.trans m) (D.r.trans f) (D.M.trans d)<|D.c e N,D.h,D.q,λQ=> ?_,D.b⟩
   .rcases b with q|q
    .exact(D.S j q).imp À id
    .exact À<|Á q
   .rcases b with q|q
    .exact D.fx j q
    .exact Ê (s.fx j<|À q)<|Ù n D.C
   .exact D.jV j b (λq=>u<|À q) λy _=>t y
   .exact D.N y a (λq=>u<|À q)<|t y
   .exact D.Y y a λq=>u<|À q
   .let⟨T,V,W⟩:=D.i Q;exact⟨T,V,by funext j;show((L' c).O j\/l.O j)=(x.O j\/l.O j);rw[W]⟩
  .exact ih c i (D.I.trans m) (D.r.trans f) (D.M.trans d) (D.k.trans o) (D.q.trans B) (by rw[D.b];exact F.fj G) H I
def fp.ma{l:fh}(s:gB l)(h:fp P yQ J (fD.ma l) g):fp P yQ (λe j=>∃b,J b j/\e=pI l b/\kN l e/\b.I=l.M/\b.N=l.C/\b.r=λ_=>False) l g:=by
 have:=h.ah8 s U U U U U (fK.fW _ _) (λj q=>q.elim) λj q=>q.elim;have e:pI l (fD.ma l)=l:=by
  have:(λb=>False\/l.O b)=l.O:=by funext b;simp
  unfold pI fD.ma;simp only[this]
 rwa[e]at this
end
structure iG(E:đ->Prop)(l l':fh):Prop where
 O:∀j,l.O j->l'.O j
 h:∀j,l'.O j->l.O j\/l.w.heap.size<=j
 Y:l'.I=l.I
 I:l'.r=l.r
 c:l'.N=l.N
 K:l'.K=l.K
 q:l'.q=l.q
 d:l'.d=l.d
 fx:j2 l'
 f:l.w.heap.size<=l'.w.heap.size
 r:∀j,l.M j->l'.w.heap[j]?=l.w.heap[j]?
 e:∀a,l.C a->¬E a->l'.w.cell? a=l.w.cell? a
 S:∀a,l.C a->l'.w.frozen? a=l.w.frozen? a
 b:∀a,l.K a->(l.w.cell? a).isSome=Ï->(l'.w.cell? a).isSome=Ï
 g:∀a,E a->(l.w.cell? a).isSome=Ï->(l'.w.cell? a).isSome=Ï
section
variable{E:đ->Prop}{l l' l'':fh}
def iG.fW(h:j2 l):iG E l l:=⟨λ_ h=>h,λ_ h=>À h,U,U,U,U,U,U,h,Ç _,λ_ _=>rfl,λ_ _ _=>rfl,λ_ _=>rfl,λ_ _ h=>h,λ_ _ h=>h⟩
def iG.C(h:iG E l l'):l'.C=l.C:=by unfold fh.C;rw[h.I,h.c]
def iG.M(h:iG E l l')(a:l.M b):l'.M b:=a.imp (h.O b)<|by rw[h.Y];exact id
def iG.QV(h:iG E l l')(f:∀a,E a->l.r a)(k:kN l' l'')(g:l''.d=l'.d):iG E l l'':=by have e:=h.C;refine⟨λj c=>k.O j<|h.O j c,λj c=>(k.Y j c).elim (h.h j) λq=>Á<|Ù h.f q,k.I.trans h.Y,k.N.trans h.I,k.S.trans h.c,k.K.trans h.K,k.q.trans h.q,g.trans h.d,k.fx,Ù h.f k.r.r,λj c=>(k.r.I j<|h.M c).trans<|h.r j c,λa b i=>(k.r.N a<|by rwa[e]).trans<|h.e a b i,λa b=>(k.r.Y a<|by rwa[e]).trans<|h.S a b,λa b q=>k.r.S a (by rwa[h.K])<|h.b a b q,λa b q=> ?_⟩;rw[k.r.N a (by rw[e];exact À<|f a b)];exact h.g a b q
def iG.N(h:iG E l l')(b:∀a,E a->l.r a)(r:fK l' l'.w u):iG E l {l' with w:=u}:= h.QV b (l'':={l' with w:=u}) ((kN.fW h.fx).jP r) U
def iG.vC(h:iG E l l')(s:gB l)(i:∀a,E a->l.r a){x:đ}(f:E x)(k:x.spot=Í)(n:(l'.w.cell? x).isSome=Ï):iG E l {l' with w:=l'.w.setCell x v}:=by
 refine⟨h.O,h.h,h.Y,h.I,h.c,h.K,h.q,h.d,λj c=> ?_,?_,λj c=> ?_,λa b g=> ?_,λa b=> ?_,λa b q=>yv<|h.b a b q,λa b q=>yv<|h.g a b q⟩
 .show j<(l'.w.setCell x v).heap.size;rw[jT];exact h.fx j c
 .show l.w.heap.size<=(l'.w.setCell x v).heap.size;rw[jT];exact h.f
 .have m:j≠x.block:=λe=>s.N x (À<|i x f)<|e▸c;exact(lr m).trans<|h.r j c
 .exact(Cj k λe=>g<|by rwa[e]).trans<|h.e a b g
 .exact sW.trans<|h.S a b
def iG.G(h:iG E l l')(s:gB l):gB l' where
 c b hb:=by
  rw[h.Y];rcases h.h b hb with q|q
  .exact s.c b q
  .exact λz=>by have:=s.fx b<|Á z;omega
 Y a ha:=by rw[h.c];exact s.Y a<|by rwa[<-h.I]
 N a ha hb:=by
  rw[h.C]at ha;rcases hb with q|q
  .rcases h.h _ q with z|z
   .exact s.N a ha<|À z
   .have:=s.I a ha;omega
  .rw[h.Y]at q;exact s.N a ha<|Á q
 fx b hb:=by
  rcases hb with q|q
  .exact h.fx b q
  .rw[h.Y]at q;exact Ê (s.fx b<|Á q) h.f
 I a ha:=by rw[h.C]at ha;exact Ê (s.I a ha) h.f
 S a ha:=by
  rw[h.K]at ha;let⟨c,d,e⟩:=s.S a ha;refine⟨λq=> ?_,Ê d h.f,by rwa[h.I]⟩;rcases q with q|q
  .rcases h.h _ q with z|z
   .exact c<|À z
   .omega
  .rw[h.Y]at q;exact c<|Á q
end
section
variable{X:Type}{g:Array ì}{c:X->Nat->ì}{m:Array Bool->X->fh->Prop}{l:fh}{b:Ā}{a:ś}{k:List Ź}{cs:List Ā}{x:X}
def II(Q:Array Ľ)(g:Array ì)(c:X->Nat->ì)(m:Array Bool->X->fh->Prop)(wJ:Array Bool)(a:ś)(l:fh):Prop:=∃x,mV Q g (c x) wJ a/\m wJ x l
def Lv(a:o.guard=Í)(y:Nat->Option Bool):å o y=Ï:=by unfold å;rw[a]
def iu(h:s5 Q g.size=Ï)(j:mV Q g (c x) wJ a)(f:Q[i]?=Ä o)(n:o.guard=Í){md:ß}(p:i∈Ó md Q wJ)(s:b.kind≠Ė)(t:j2 l)(u:¬l.q) (v:∀d,fK l l.w d->(à a.eval o).run P d=.ok (.value<|c x i) d) (y:∀d,fK l l.w d->∀e∈(à a.eval o).events P d #[],xe l e) (z:∀d,fK l l.w d->m (wJ.setIfInBounds i Ï) x {l with w:=d}): fp P yQ (λB C=>∃r,C=G (b.at r<|È Q jJ::k) cs/\II Q g c m (wJ.setIfInBounds i Ï) r B) l (G (b.at a<|È Q (i::jJ)::k) cs):= oe f (Lv n _) s t u v y<|.fF λd r=>⟨_,U,x,j.gh h f p λ_=>rfl,z d r⟩
def QW(h:s5 Q g.size=Ï)(j:mV Q g (c x) wJ a)(f:Q[i]?=Ä o)(n:o.guard=Í)(e:o.dst=Í){md:ß}(p:i∈Ó md Q wJ)(s:b.kind≠Ė)(t:j2 l)(u:¬l.q){y:đ}(z:y.spot=Í)(B:qu l y)(C:(l.w.cell? y).isSome=Ï)(D:l.w.frozen? y=É) (E:∀w,(w.cell? y).isSome=Ï->w.frozen? y=É->(à a.eval o).run P w=.ok .skip (w.setCell y v)) (F:∀w,(w.cell? y).isSome=Ï->w.frozen? y=É->(à a.eval o).events P w #[]=#[⟨ā y,Ï,É⟩]) (H:∀d,fK l (l.w.setCell y v) d->m (wJ.setIfInBounds i Ï) x {l with w:=d}): fp P yQ (λI J=>∃r,J=G (b.at r<|È Q jJ::k) cs/\II Q g c m (wJ.setIfInBounds i Ï) r I) l (G (b.at a<|È Q (i::jJ)::k) cs):=by refine ah6 f (Lv n _) s t u z B C e D E F (.fF λd r=>⟨_,U,x,?_,H d<|yP r⟩);have:=j.gh h f p (v:=Â) λq=>absurd e q;rwa[e]at this
def YI(q:s5 Q g.size=Ï)(s:mV Q g (c x) wJ a)(p:Q[i]?=Ä o)(t:o.guard=Í){md:ß}(u:i∈Ó md Q wJ)(v:b.kind≠Ė)(y:j2 l){f:Ļ}{args:Array ì} (z:∀w,(à a.eval o).run P w=.ok (.enter f args) w) (B:∀w,(à a.eval o).events P w #[]=#[]) (C:∀d,fK l l.w d->fp P yQ (λh n=>∃e,n=G ((b.at a<|È Q (i::jJ)::k).finish<|c e i) cs/\m (wJ.setIfInBounds i Ï) e h/\∀j,wJ.getD j É=Ï->c e j=c x j) {l with w:=d} (G (Β P f args .normal)<|b.at a (È Q (i::jJ)::k)::cs)): fp P yQ (λh n=>∃r,n=G (b.at r<|È Q jJ::k) cs/\II Q g c m (wJ.setIfInBounds i Ï) r h) l (G (b.at a<|È Q (i::jJ)::k) cs):=by
 refine .mk U λd r=>⟨G (Β P f args .normal)<|b.at a (È Q (i::jJ)::k)::cs,d,#[],{l with w:=d},?_,QK d<|mH y r,?_⟩
 .rw[Α p (Lv t _) v<|z d];unfold ψ;rw[B d,ċ]
 .refine(C d r).fQ ?_;rintro h n ⟨e,rfl,D,E⟩;refine⟨a.put o.dst<|c e i,?_,e,(s.YC E).gh q p u λ_=>rfl,D⟩;rw[Ĭ,p];rfl
end
end Go.Proofs.Y.fD
namespace Go.Proofs.YtgpphkdoanciiaaGreatDoor
open Go Go.Conc Go.Conc.Lib
def Lk:Ŋ:={add:=62,done:=65,wait:=53,relMerge:=105,disable:=68,enable:=70,inBubble:=76,associate:=106,fatal:=107,uOr:=108,uAdd:=109,raceRead:=110,uLoad:=69,uStore:=111,disassociate:=74,semrelease:=112,acquire:=71,isAssociated:=72,uCas:=73,raceWrite:=75,semacquire:=77,orU64:=150,addU64:=151,loadU64:=127,storeU64:=152,casU64:=128,tWgP:=162,tUP:=170,tAssoc:=202,tWg:=97,tAU:=94,tU64:=36,tUint:=168,tU32:=95,tPU32:=174,tPAU:=219,tPU64:=221,tNoCopy:=90,tANoCopy:=91,tAlign64:=92}
def qV:ű Ĵ Lk where
 f_add:=Tryz.func62;f_done:=Tryz.func65;f_wait:=Tryz.func53;f_relMerge:=Tryz.func105;f_disable:=Tryz.func68;f_enable:=Tryz.func70;f_inBubble:=Tryz.func76;f_associate:=Tryz.func106;f_fatal:=Tryz.func107;f_uOr:=Tryz.func108;f_uAdd:=Tryz.func109;f_raceRead:=Tryz.func110;f_uLoad:=Tryz.func69;f_uStore:=Tryz.func111;f_disassociate:=Tryz.func74;f_semrelease:=Tryz.func112;f_acquire:=Tryz.func71;f_isAssociated:=Tryz.func72;f_uCas:=Tryz.func73;f_raceWrite:=Tryz.func75;f_semacquire:=Tryz.func77;f_orU64:=Tryz.func150;f_addU64:=Tryz.func151;f_loadU64:=Tryz.func127;f_storeU64:=Tryz.func152;f_casU64:=Tryz.func128;underlying_tWgP:=Tryz.underlying162;runUnderlying_tWgP:=Tryz.runUnderlying162;sizeOf_tWgP:=Tryz.sizeOf162;isAgg_tWgP:=Tryz.isAgg162;zeroValue_tWgP:=Tryz.zeroValue162;underlying_tUP:=Tryz.underlying170;runUnderlying_tUP:=Tryz.runUnderlying170;sizeOf_tUP:=Tryz.sizeOf170;isAgg_tUP:=Tryz.isAgg170;zeroValue_tUP:=Tryz.zeroValue170;underlying_tI32:=Tryz.underlying202;runUnderlying_tI32:=Tryz.runUnderlying202;sizeOf_tI32:=Tryz.sizeOf202;isAgg_tI32:=Tryz.isAgg202;zeroValue_tI32:=Tryz.zeroValue202;underlying_tWg:=Tryz.underlying97;runUnderlying_tWg:=Tryz.runUnderlying97;sizeOf_tWg:=Tryz.sizeOf97;isAgg_tWg:=Tryz.isAgg97;zeroValue_tWg:=Tryz.zeroValue97;underlying_tAU:=Tryz.underlying94;runUnderlying_tAU:=Tryz.runUnderlying94;sizeOf_tAU:=Tryz.sizeOf94;isAgg_tAU:=Tryz.isAgg94;zeroValue_tAU:=Tryz.zeroValue94;underlying_tU64:=Tryz.underlying36;runUnderlying_tU64:=Tryz.runUnderlying36;sizeOf_tU64:=Tryz.sizeOf36;isAgg_tU64:=Tryz.isAgg36;zeroValue_tU64:=Tryz.zeroValue36;underlying_tSh:=Tryz.underlying168;runUnderlying_tSh:=Tryz.runUnderlying168;sizeOf_tSh:=Tryz.sizeOf168;isAgg_tSh:=Tryz.isAgg168;zeroValue_tSh:=Tryz.zeroValue168;underlying_tU32:=Tryz.underlying95;runUnderlying_tU32:=Tryz.runUnderlying95;sizeOf_tU32:=Tryz.sizeOf95;isAgg_tU32:=Tryz.isAgg95;zeroValue_tU32:=Tryz.zeroValue95;underlying_tPU32:=Tryz.underlying174;runUnderlying_tPU32:=Tryz.runUnderlying174;sizeOf_tPU32:=Tryz.sizeOf174;isAgg_tPU32:=Tryz.isAgg174;zeroValue_tPU32:=Tryz.zeroValue174;underlying_tPAU:=Tryz.underlying219;runUnderlying_tPAU:=Tryz.runUnderlying219;sizeOf_tPAU:=Tryz.sizeOf219;isAgg_tPAU:=Tryz.isAgg219;zeroValue_tPAU:=Tryz.zeroValue219;underlying_tPU64:=Tryz.underlying221;runUnderlying_tPU64:=Tryz.runUnderlying221;sizeOf_tPU64:=Tryz.sizeOf221;isAgg_tPU64:=Tryz.isAgg221;zeroValue_tPU64:=Tryz.zeroValue221;underlying_t0:=Tryz.underlying0;runUnderlying_t0:=Tryz.runUnderlying0;sizeOf_t0:=Tryz.sizeOf0;isAgg_t0:=Tryz.isAgg0;zeroValue_t0:=Tryz.zeroValue0;underlying_t3:=Tryz.underlying3;runUnderlying_t3:=Tryz.runUnderlying3;sizeOf_t3:=Tryz.sizeOf3;isAgg_t3:=Tryz.isAgg3;zeroValue_t3:=Tryz.zeroValue3;underlying_t4:=Tryz.underlying4;runUnderlying_t4:=Tryz.runUnderlying4;sizeOf_t4:=Tryz.sizeOf4;isAgg_t4:=Tryz.isAgg4;zeroValue_t4:=Tryz.zeroValue4;underlying_t9:=Tryz.underlying9;runUnderlying_t9:=Tryz.runUnderlying9;sizeOf_t9:=Tryz.sizeOf9;isAgg_t9:=Tryz.isAgg9;zeroValue_t9:=Tryz.zeroValue9;underlying_t20:=ń;runUnderlying_t20:=Tryz.runUnderlying20;sizeOf_t20:=Tryz.sizeOf20;isAgg_t20:=Tryz.isAgg20;zeroValue_t20:=Tryz.zeroValue20;underlying_t21:=Tryz.underlying21;runUnderlying_t21:=Tryz.runUnderlying21;sizeOf_t21:=Tryz.sizeOf21;isAgg_t21:=Tryz.isAgg21;zeroValue_t21:=Tryz.zeroValue21;room_tWg:=by decide+kernel
 room_tU32:=by decide+kernel
end Go.Proofs.YtgpphkdoanciiaaGreatDoor
namespace Go.Proofs.Y.fD
open Go Go.Conc Go.Proofs.Y.Lift Go.RowKit Go.Conc.Lib Go.ConcR.Gen
open Go.Proofs Go.Proofs.YtgpphkdoanciiaaGreatDoor
def YJ:Array Ľ:=#[⟨Ä 3,.load 1<|Õ 1,1, "waitgroup.go:258",#[],Í⟩,
 ⟨Ä 4,ţ {callee:=Ĥ (Õ 3),args:=#[],argTypes:=#[]},0, "waitgroup.go:258",#[⟨0,ã⟩],Í⟩]
section
variable{Ψ:Ð->Prop}{l:fh}
def YK(b:l.K ⟨i,0,Í⟩/\l.K ⟨i,1,Í⟩)(c:lZ Ψ l i)(a:SW Ψ l i l.w)(e:l.d=0)(f:¬l.q)(j:gZ l ⟨n,0,Í⟩)(k:l.w.cell? ⟨n,0,Í⟩=Ä (ü<|Ä ⟨i,0,Í⟩)): fp Ĵ É (λl g=>yw Ĵ É i (EI Ĵ) (kA l) g) l (G ((baseD 63).at ⟨#[ü<|Ä ⟨n,0,Í⟩,v,x,z,jQ],[pH 64 #[ü<|Ä ⟨n,0,Í⟩] #[]]⟩ [È YJ []]) [oc Ĵ]):=by
 apply fZ (n:=30) a.1;have hF:=trivial;iterate 2 w_go fB
 u_c (ahU U Γ fR U) fB hF
 walk_nrmf Tryz.f64;iterate 3 w_go fB
 u_c (ahT U U U U U U U) fB hF
 walk_nrm;have m:=λw g=>ah2 20 w g ń;repeat w_go fB
 refine Ì λ_ _=> ?_;apply nG U U (by k_ne) a.1 f j k (λw h=>by go_simp) (λw h=>by simp[go_sem,h]);walk_nrm;apply fZ (n:=30) a.1;u_call qV.f_done (nm_done Lk) doneFn fB hF;refine Ì λ_ _=> ?_;apply ahN qV b c a e;walk_nrm;apply Lq U λ_=>stepG_region_end;apply Lq U λ_=>stepG_end;apply ahZ U U Γ U U;exact ahY U U Tryz.func63 U
end
end Go.Proofs.Y.fD
