import Derived.Test.YtgpphkdoanciiabGreatDoorWAB
import Derived.WalkKit
import Derived.Conc.TokenWalk
import Derived.Test.YtgpphkdoanciiabGreatDoorChecked
import Derived.WalkSpells
import Derived.WalkLawsBesides
import Derived.Deep.Light
import Derived.Maps.AppendAt
import Derived.RegionTactic
import Derived.Deep.RegionWith
import Derived.Deep.QuietTactic
import Derived.BigQuiet
import Derived.Deep.RegionHeld3
import Derived.WalkMore
import Derived.Deep.MidRow
import Derived.Great.Walk
import Derived.Lib.UnsafeStr
import Derived.Lib.BufferWrite
import Derived.Laws.Tables
import Derived.Laws.Bits64
set_option linter.all false
set_option maxRecDepth 1000000
set_option maxHeartbeats 8000000
open Go.Proofs.Tryz renaming prog->À,f29->Ę,t9->Ĝ,ntmps50->Ģ,func50->į,ntmps189->Ķ,ntmps138->ķ,underlying76->Ļ,underlying54->Ľ,func189->Ņ,underlying98->Ň,func138->ň,ntmps97->ŉ,func97->œ,f35->Ś,ntmps193->Ţ,ntmps194->ţ,ntmps152->Ť,ntmps180->ť,ntmps153->Ŧ,ntmps154->ŧ,ntmps171->Ũ,type148->Ű,func151->Ŵ,func193->ŷ,func194->ź,func152->Ż,func180->ż,func153->Ž,func154->ž,func171->ſ,func29->Δ,func35->Ε,t148->Υ,f151->Ω
open Option renaming some->Á,none->Ã,map_eq_some_iff->Ð,isSome_iff_exists->ú,map->Ĺ
open Go.Value renaming pointer->Â,int->Æ,slice->È,bool->Õ,string->Ø,tuple->Ý,agg->ê,cells->ó,ownBlock->đ,chan->Ŀ
open And renaming intro->Ä
open Go renaming undef->Å,Value->É,World->Î,Calls->Ù,Goroutine->Ú,Addr->Û,heap_alloc_new->æ,TypeId->ç,bodyPost_ret->ï,Frame->ò,execOp->ô,Operand->ą,info_parts->ć,Program->ċ,wpList_load_mid->Č,all_oneCell_toArray->Ď,Oper->ĕ,wpList_store_mid->Ě,setRow_other->Ğ,FuncId->ĥ,size_madeCells->Ĩ,grownCap->Ī,setRow_heap->Ĭ,maxLen->ĸ,results->ļ,cell_two_new->ń,Code->Ŋ,Act->ŋ,getD_set_ne->Ŏ,grownCap_ge->ő,run_append_grow->Ŗ,run_loadVar_mid->Ř,callFunc->Ŝ,Ending->ŝ,growslice_fits->Ş,ready_mono->ş,wpList->Š,madeCells->ũ,mem_ready->Ū,wpOp_step->ŭ,resolve->ų,wpList_plain->ŵ,cell_one_new->Ÿ,yielded->Ź,runNT->Ζ,invoke->Κ,Trace->Μ,TypeInfo->Ν,Event->Ξ,builtin->Ρ,Item->ν,Loc->ξ
open Or renaming inl->Ç,inr->Ê
open Go.IntKind renaming u64->Ë,i64->Í,u32->Γ,wrap_u64->δ
open Go.Ending renaming returned->Ì
open Go.Obj renaming cells->Ï
open Bool renaming true->Ñ,false->Ò,false_eq_true->Ā
open Nat renaming le_trans->Ó,add_sub_cancel->î,mod_lt->Đ,le_add_right->ě,add_mul->ĩ,mul_one->Į,sub_zero->Ł,sub_self->Ų
open Go.Region renaming ready->Ô,Mode->ù,wanted->û,binds->Ġ
open Go.Item renaming inRegion->Ö,code->č,inBlock->ĺ,inLoop->ů
open List renaming eq_nil_of_length_eq_zero->Ü,range->Þ,length_append->ä,range_succ->ð,drop_eq_getElem_cons->ö,mem_filter->ü,length_set->ý,filter_append->ÿ,getD_eq_getElem?_getD->Ĕ,length_filter_le->Ħ,mem_append_left->ī,getElem?_set_ne->ĭ,map_congr_left->İ,nodup_range->ō,length_nil->ŗ
open Go.World renaming block_lt_of_cell?->ß,cell?->ã,setCell->ì,alloc->í,ownsRow_nil->Ă,drew->Ē,freeze->ġ,frozen?->ı
open Go.Operand renaming tmp->à,func->Ι
open Go.Ground renaming data->á
open Go.Region.linearise renaming go->â
open Go.MemAct renaming ofEvent->å
open Go.Builtin renaming zeroCells->è,unsafeString_->Β,append_->ε,min->κ,copy_->ο
open Go.Extern.Bytes renaming loadBytes->é,bytesOf->õ,asByte->ø
open Go.Extern.BytealgIndexByte renaming indexByte->ë
open Go.Lib renaming byteCells->ñ
open Go.Exit renaming noGoto_ret->þ,panic->Λ,normal->Τ
open Go.RowKit.Below renaming heap_setCell->ā,heap_alloc->Ć
open Go.TypeDesc renaming isRow->ă
open Go.Great renaming wpList_runTo->Ą
open False renaming elim->Ĉ
open Go.GoStatus renaming running->ĉ,finished->ū
open Go.Conc renaming mem_ofEvents->Ċ,crowd->ĳ,deafBehind_still->Ō,handedOver_app->ś,listed->ι
open Go.RowKit renaming intOf->ď
open Go.Instr renaming fill->ē,makeSlice->ģ,index->Œ
open Go.Result renaming andThen_ok->Ė,ok->Η
open Go.Next renaming value->ė
open Array renaming all_toList->ę,replicate->ŕ
open Go.Sem renaming run_bind->ĝ,run_pure->Ŷ,run->υ
open Go.Oper renaming wp->ğ
open Go.Obj.cells renaming injEq->Ĥ
open Go.Code renaming region->ħ
open Go.Loc renaming cell->Ĳ
open Go.Act renaming eval->ľ,put->ς
open Eq renaming trans->ŀ,refl->φ
open Go.Addr renaming add_lit->ł,add_mid->Α
open Go.Frame renaming enter->ŏ,finish_at->Ŕ
open Go.Op renaming operands->Ő,build->ř,call->š,alloc->ζ,load->ρ
variable{i n j b k m J j9 j7 j6:Nat}{w u W jX:Î}{v x z jQ:É}{g:Ú}{a p:Û}{h c:Int}{e t T:ç}{d q:Array É}{P:ċ}{y:ŋ}{B:ByteArray}{X:Nat->Prop}{O:Option Û}{l:List É}{yQ:Bool}{cX cQ:ŋ->Î->Prop}{o:ĕ}{D:Nat->Nat}{E:Array Ú}{L:List ν}{jJ:List Nat}{qX:List ò}{qQ:ą}{qJ:Μ}{zX:ξ->Prop}{zQ:List Int}{zJ:Ν}{xX:ą->É}{xQ:Go.Tape}{xJ:Nat×Nat}{wX:Ŋ}{wQ:Go.MemOp}{wJ:Array Bool}{vX:List ByteArray}{vQ:É->Î->Prop}{vJ:Go.Exit->ŋ->Î->Prop}{yX:ù}{Q:Array ĕ}{f:ò}{V:Array Ξ}{F:ĥ}{s:Go.Func}{gX gQ:Type}{gJ kX:List (Nat×Int)}{bJ:List (Int×Bool)}{kJ:Option (Nat×Nat)}{pX:Î->Prop}{pQ:Option É}{pJ:ĥ->Prop}{fX:List ĕ}{fQ:Nat->Int}{fJ:Nat->ByteArray}{bX:Array ç}{bQ:Prop}
namespace Go.Proofs.Y
namespace fO
open Conc Lift RowKit Conc.Lib ConcR.Gen
open YtgpphkdoanciiabGreatDoor
def uP(l:fx)(b:Nat):fx:={l with O:=λj=>l.O j/\j≠b,K:=λa=>l.K a\/a=⟨b,0,Ã⟩\/a=⟨b,1,Ã⟩}
def oT(l x:fx)(b:Nat):fx:={x with O:=λj=>x.O j\/j=b,K:=l.K}
section
variable{S:Jd}{l:fx}
def fF.Sn(W:∀a,l.K a->a.block≠b){x:fx}(h:fF P yQ S x g):¬x.M b->(∀a,x.C a->a.block≠b)->x.K=(uP l b).K->b<x.w.heap.size->(x.w.cell? ⟨b,0,Ã⟩).isSome=Ñ->(x.w.cell? ⟨b,1,Ã⟩).isSome=Ñ->kC x-> fF P yQ (λG H=>∃d,S d H/\G=oT l d b/\¬d.M b/\(∀a,d.C a->a.block≠b)/\d.K=(uP l b).K/\b<d.w.heap.size/\d.w.heap[b]?=x.w.heap[b]?/\d.q=x.q/\kC d) (oT l x b) g:=by
 have u:∀{x:fx} {c:Î},x.K=(uP l b).K->(x.w.cell? ⟨b,0,Ã⟩).isSome=Ñ->(x.w.cell? ⟨b,1,Ã⟩).isSome=Ñ->gd (oT l x b) x.w c->gd x x.w c:=λ{x c} f i m r=>
  ⟨r.r,λj p=>r.I j<|p.imp Ç id,r.N,r.Y,λa o q=>by rw[f]at o;obtain z|z|z:=o;exact r.S a z q;rw[z,iE<|r.I b<|Ç<|Ê U];exact i;rw[z,iE<|r.I b<|Ç<|Ê U];exact m⟩
 induction h with
 |@fS x g h=>
  intro s t f v i m I;refine .fS λc r=>⟨{x with w:=c},h c<|u f i m r,U,s,t,f,ff v r.r,r.I b<|Ç<|Ê U,U,o5 I<|u f i m r⟩|@kx x g G' W' E' L' jh h hd _ ih=>
  intro s t f v i m I;refine .mk jh λc r=> ?_;have B:=u f i m r;have D:=hd c B;have E:=ff v r.r;have J:=λq=>s<|Ç q;have L:=D.lB b E J λa e q=>t a (Ç q) e;have F:(L' c).w.heap[b]?=x.w.heap[b]?:=by rw[D.N];exact L.trans<|r.I b<|Ç<|Ê U
  refine⟨G' c,W' c,E' c,oT l (L' c) b,h c B,?_,?_⟩;refine⟨D.C,λj q=> ?_,λj q=> ?_,D.rd,D.r,D.I,U,λj p y n=>D.lB j p (λq=>y<|Ç q) n,λa o y n=>D.S a o (λq=>y<|Ç q) n,λa o y=>D.Y a o λq=>y<|Ç q,D.c,D.f,D.i,λe N=> ?_,D.g,D.q,λq=> ?_,D.N⟩;obtain q|q:=q;exact(D.M j q).imp Ç id;exact Ç<|Ê q;obtain q|q:=q;exact D.fM j q;rw[q];exact ff E D.C;obtain⟨a,y,n⟩|h|h|h|h|⟨a,y,n⟩:=D.b e N;exact Ç ⟨a,y,n.imp Ç id⟩;exact Ê<|Ç h;exact Ê<|Ê<|Ç h;exact Ê<|Ê<|Ê<|Ç h;exact Ê<|Ê<|Ê<|Ê<|Ç h;exact Ê<|Ê<|Ê<|Ê<|Ê ⟨a,Ç y,n⟩;let⟨Q,T,V⟩:=D.h q;exact⟨Q,T,by funext j;show((L' c).O j\/j=b)=(x.O j\/j=b);rw[V]⟩;refine(ih c B (λq=>q.elim (λz=>(D.M b z).elim J λy=>by omega) λz=>s<|Ê<|by rw[<-D.rd];exact z) (λa q=>t a<|q.imp (by rw[D.r];exact id)<|by rw[D.I];exact id) (D.k.trans f) (by rw[D.N];exact ff E D.C) (by rw[iE F];exact i) (by rw[iE F];exact m) λj p=>by rw[D.N];exact D.fM j p).fG ?_;rintro G H ⟨d,y,e,j,n,o,p,z,N,Q⟩;exact⟨d,y,e,j,n,o,p,z.trans F,N.trans D.q,Q⟩
end
section
variable{L:WgLink}{l:fx}{J:Jd}{k:List ν}{ty:ç}
structure ajU(b:Nat)(cc:Array É)(ty:ç)(l l':fx):Prop where
 r:iz (λj=>j=b) l l'
 O:l'.O=l.O
 C:l'.w.heap[b]?=Á (Ï (cc.setIfInBounds 0<|Æ Ë 4294967296) ty)
theorem Zz(a:l.O b)(w:Î)(d:Nat):oT l {uP l b with d:=d,w:=w} b={l with d:=d,w:=w}:=by
 have:(λj=>(l.O j/\j≠b)\/j=b)=l.O:=by grind
 unfold oT uP;simp only[this]
def ZA{C:Array É}(H:WgLib P L)(s:gT l)(hq:¬l.q)(Y:l.d=0)(x:l.O b)(M:l.w.heap[b]?=Á (Ï C ty))(N:C[0]?=Á (Æ Ë 0))(o:(C[1]?).isSome=Ñ)(hT:∀B,ajU b C ty l B->fF P yQ J B (G (f.at (y.put ((Q[i]?).bind (·.dst))<|Ý #[])<|Ö Q jJ::k) qX)): fF P yQ J l (G ((base L.add).at ⟨#[Â<|Á ⟨b,0,Ã⟩,Æ Í 1,Å,Å,Å,Å,Å,Å,Å,Å,Å,Å,Å,Å,Å,Å,Å,Å,Å,Å,Å,Å,Å,Å,Å,Å,Å,Å,Å,Å,Å,Å,Å,Å,Å,Å,Å,Å,Å,Å,Å,Å,Å,Å,Å,Å,Å,Å,Å,Å,Å,Å,Å,Å,Å,Å,Å,Å,Å,Å,Å,Å,Å,Å,Å,Å,Å,Å,Å,Å,Å,Å,Å,Å,Å,Å,Å,Å,Å,Å,Å,Å,Å,Å,Å,Å,Å,Å,Å,Å,Å,Å,Å,Å,Å,Å,Å,Å,Å,Å,Å,Å,Å,Å,Å,Å,Å,Å,Å,Å,Å,Å,Å,Å,Å,Å,Å],[]⟩ [č<|body_add L])<|f.at y (Ö Q (i::jJ)::k)::qX):=by
 have e0:l.w.cell? ⟨b,0,Ã⟩=Á (Æ Ë 0):=by simp[ã,M,N]
 have e1:(l.w.cell? ⟨b,1,Ã⟩).isSome=Ñ:=by let⟨u,D⟩:=ú.1 o;simp[ã,M,D]
 have S:∀y:Û,l.K y->y.block≠b:=λy T e=>(s.N y T).1<|Ç<|e▸x;let J1:Jd:=λB g'=>g'=G (f.at (y.put ((Q[i]?).bind (·.dst))<|Ý #[])<|Ö Q jJ::k) qX/\B={uP l b with d:=0,w:=B.w}/\gd (uP l b) l.w B.w
 have hW:fF P yQ (LP P yQ b J1) (uP l b) (G ((base L.add).at ⟨#[Â<|Á ⟨b,0,Ã⟩,Æ Í 1,Å,Å,Å,Å,Å,Å,Å,Å,Å,Å,Å,Å,Å,Å,Å,Å,Å,Å,Å,Å,Å,Å,Å,Å,Å,Å,Å,Å,Å,Å,Å,Å,Å,Å,Å,Å,Å,Å,Å,Å,Å,Å,Å,Å,Å,Å,Å,Å,Å,Å,Å,Å,Å,Å,Å,Å,Å,Å,Å,Å,Å,Å,Å,Å,Å,Å,Å,Å,Å,Å,Å,Å,Å,Å,Å,Å,Å,Å,Å,Å,Å,Å,Å,Å,Å,Å,Å,Å,Å,Å,Å,Å,Å,Å,Å,Å,Å,Å,Å,Å,Å,Å,Å,Å,Å,Å,Å,Å,Å,Å,Å,Å,Å,Å,Å],[]⟩ [č<|body_add L])<|f.at y (Ö Q (i::jJ)::k)::qX):=by refine YS (Ψ:=λw=>gd (uP l b) l.w w) H ⟨Ç<|Ê<|Ç U,Ç<|Ê<|Ê U,λw n o t a g m h=>h.fA ⟨o,t,a,g,m⟩⟩ ⟨λj c=>s.fM j<|Ç c.1,⟨by rw[show(uP l b).w=l.w from rfl,e0];rfl,e1⟩,gd.gy _ _⟩ Y λn v=> .fS λp r=>⟨U,U,v.2.2.fA ⟨r.r,r.I,r.N,r.Y,r.S⟩⟩
 have hstart:=hW.Sn S (λq=>q.elim (λz=>z.2 U) λz=>s.c b x z) (λy T e=>s.S y T<|Ç<|e▸x) U (s.fM b<|Ç x) (by rw[show(uP l b).w=l.w from rfl,e0];rfl) e1 λj c=>s.fM j<|Ç c.1;rw[show oT l (uP l b) b=l from Zz x l.w l.d]at hstart;apply hstart.nH;rintro l1 g1 ⟨E,⟨uQ,ajV,hA⟩,rfl,ZB,ZC,ni,hlt1,wB,qj,lo1⟩;let⟨g2,ZD,V⟩:=hA 0;have rW:Ë.wrap (0+gK)=gK:=by rw[show(0:Int)+gK=gK from rfl];exact La A A
 rw[rW]at V ZD;rw[if_pos U]at V;have hqx:¬E.q:=by rwa[qj]
 refine .mk ajV λn r=> ?_;have F:=(r.I b<|Ç<|Ê U).trans<|wB.trans M;have c0:n.cell? (gu b)=Á (Æ Ë 0):=by simp[ã,gu,F,N]
 have avY:=ff hlt1 r.r;have W:(n.setCell (gu b)<|Æ Ë gK).heap[b]?=Á (Ï (C.setIfInBounds 0<|Æ Ë 4294967296) ty):=by simp[ì,fh,gu,F,gK]
 have rx:gd E E.w (n.setCell (gu b)<|Æ Ë gK):=by refine⟨by rw[ml];exact r.r,λj c=>((oV λe=>ZB (by have t:j=b:=e;rwa[<-t])).trans<|r.I j<|c.imp Ç id),λa g=>(iE<|oV<|ZC a g).trans<|r.N a g,λa g=>vH.trans<|r.Y a g,λa g q=> ?_⟩;rw[ni]at g;apply Co;obtain z|z|z:=g;exact r.S a z q;rw[z,iE<|r.I b<|Ç<|Ê U];rwa[z]at q;rw[z,iE<|r.I b<|Ç<|Ê U];rwa[z]at q
 refine⟨g2,_,_,oT l {E with w:=n.setCell (gu b) (Æ Ë gK)} b,ZD n c0 (by simp[ı,gu,F]),?_,?_⟩;refine⟨by rw[ml];exact eE _,λ_ h=>Ç h,λj h=> ?_,U,U,U,U,λj _ o _=>oV λe=>o<|Ê e,λa _ o _=>iE (oV λe=>o<|Ê e),λ_ _ _=>Pz,U,U,U,λe t=> ?_,?_,U,λq=>absurd q hqx,U⟩;rw[ml];obtain h|h:=h;exact ff (lo1 j h) r.r;rwa[h];have:e=lP (gu b)\/e=oH (gu b):=fN t;obtain rfl|rfl:=this;exact Ç ⟨gu b,U,Ç<|Ê U⟩;exact Ç ⟨gu b,U,Ç<|Ê U⟩;exact(Ō (λe t=>by have:e=lP (gu b)\/e=oH (gu b):=fN t;obtain rfl|rfl:=this<;>exact⟨by simp[lP,oH],by simp[lP,oH]⟩) _).symm;have z1:((n.setCell (gu b)<|Æ Ë gK).cell? ⟨b,1,Ã⟩).isSome=Ñ:=by let⟨u,D⟩:=ú.1 o;exact Co<|by simp[ã,F,D]
 have ajW:=(V.mF rx).Sn S ZB ZC ni (by show b<(n.setCell (gu b)<|Æ Ë gK).heap.size;rwa[ml]) (Co<|by rw[show(⟨b,0,Ã⟩:Û)=gu b from rfl,c0];rfl) z1 (λj c=>by show j<(n.setCell (gu b)<|Æ Ë gK).heap.size;rw[ml];exact ff (lo1 j c) r.r);apply ajW.nH;rintro l2 g3 ⟨v,⟨ry,ajX,g4,ajY,hN2⟩,rfl,nM2,nC2,sN,Di,X,r9,lo2⟩;have ajZ:¬v.q:=by rwa[r9]
 refine .mk ajX λp m=> ?_;have I:∀a:Û,a.block=b->p.cell? a=v.w.cell? a:=λa e=>iE<|m.I a.block<|Ç<|Ê e;have rx2:gd v v.w p:=⟨m.r,λj c=>m.I j<|c.imp Ç id,m.N,m.Y,λa g q=>by rw[sN]at g;obtain z|z|z:=g;exact m.S a z q;rwa[I a (by rw[z])];rwa[I a (by rw[z])]⟩;refine⟨g4,p,_,oT l {v with w:=p} b,ajY p,?_,?_⟩;refine⟨eE _,λ_ h=>Ç h,λj h=> ?_,U,U,U,U,λ_ _ _ _=>U,λ_ _ _ _=>U,λ_ _ _=>U,U,U,U,λe t=> ?_,?_,U,λq=>absurd q ajZ,U⟩;obtain h|h:=h;exact ff (lo2 j h) m.r;rw[h];exact ff Di m.r;have:e=kV (.read<|iJ b):=fN t;rw[this];exact Ê<|Ê<|Ê<|Ê<|Ê ⟨iJ b,Ê U,Ç U⟩;exact(Ō (λe t=>by have:e=kV (.read<|iJ b):=fN t;rw[this];exact⟨by simp[kV],by simp[kV]⟩) _).symm;have z:(p.cell? ⟨b,0,Ã⟩).isSome=Ñ:=by rw[I _ U];have:v.w.heap[b]?=_:=X.trans W;simp[ã,this,(fp.1 N).1]
 have y1:(p.cell? ⟨b,1,Ã⟩).isSome=Ñ:=by rw[I _ U];have:v.w.heap[b]?=_:=X.trans W;let⟨u,D⟩:=ú.1 o;simp[ã,this,(fp.1 D).1]
 have u:=(hN2.mF rx2).Sn S nM2 nC2 sN (ff Di m.r) z y1 λj c=>ff (lo2 j c) m.r;apply u.nH;rintro l3 g5 ⟨x3,⟨rfl,D,t⟩,rfl,nM3,nC3,IF,aj0,Fq,Dd,lo3⟩;rw[D,Zz x];have Fs:=Fq.trans<|(m.I b<|Ç<|Ê U).trans<|X.trans W;refine hT _ ⟨⟨λ_ h=>h,λ_ h=>Ç h,U,U,U,U,U,Y.symm,λj c=>ff (s.fM j<|Ç c) t.r,t.r,λj c hn=>t.I j (c.imp (λq=>⟨q,hn⟩) id),t.N,t.Y,λa g=>t.S a<|Ç g⟩,U,Fs⟩
end
noncomputable def So:Ŋ:=mr Ę [1,1,1]
noncomputable def ZE:Ŋ:=mr Ę [1,1,0,1,0,0,1,1,0,0,1,1,1]
noncomputable def Sp:Ŋ:=mr Ę [1,1,0,1,0,0,1,1,0,0,1,1,0,1]
noncomputable def IG:Ŋ:=mr Ę [1,1,0,1,0,0]
noncomputable def Sq:Ŋ:=mr Ę [1,1,0,1,0,0,1,1,1]
noncomputable def Dj (t:Array É) (a:List ò):Ú:=G ((base 29).at ⟨t,[]⟩ [č IG,ů IG,ĺ 0,č So]) a
noncomputable def IH (t:Array É) (a:List ò):Ú:=G ((base 29).at ⟨t,[]⟩ [č Sp,č ZE,ĺ 1,č Sq,ů IG,ĺ 0,č So]) a
structure PT(iv qv rs:É)(lg R i:Nat)(t:Array É):Prop where
 r:t.size=48
 N:t[4]?=Á iv
 S:t[5]?=Á qv
 Y:t[6]?=Á (Â<|Á ⟨lg,0,Ã⟩)
 C:t[13]?=Á rs
 I:t[14]?=Á (Æ Í R)
 M:t[15]?=Á (Æ Í i)
def Me(t:Array É)(h:t.size=48):∃a b c d e f g i j k l m n o p q r s u v w x y z B C D E F G H I J K L M N O P Q S T V W X Y rZ r7:É,t=#[a,b,c,d,e,f,g,i,j,k,l,m,n,o,p,q,r,s,u,v,w,x,y,z,B,C,D,E,F,G,H,I,J,K,L,M,N,O,P,Q,S,T,V,W,X,Y,rZ,r7]:=by obtain⟨_,rfl⟩:=xF t h;exact⟨_,_,_,_,_,_,_,_,_,_,_,_,_,_,_,_,_,_,_,_,_,_,_,_,_,_,_,_,_,_,_,_,_,_,_,_,_,_,_,_,_,_,_,_,_,_,_,_,U⟩
section
variable{J:Jd}{l:fx}{t:Array É}{iv qv:É}{lg R:Nat}{kd:Int}
def aj1(c:gT l)(h:¬l.q)(a:PT iv qv (È (Á ⟨j,0,Ã⟩) R n) lg R i t)(P:i<R)(Q:R<1000)(s:l.M j)(u:l.w.cell? ⟨j,i,Ã⟩=Á (Â<|Á ⟨b,0,Ã⟩))(k:l.M b)(v:l.w.cell? ⟨b,4,Ã⟩=Á (Æ Í kd))(x:∀f e d,iz fB l f->l.w.heap.size<=d->iO f d (Ï #[Â<|Á ⟨b,0,Ã⟩,Æ Í i,Â<|Á ⟨lg,0,Ã⟩,Â Ã] 148)->PT iv qv (È (Á ⟨j,0,Ã⟩) R n) lg R i e->e[9]?=Á (Â<|Á ⟨d,0,Ã⟩)->e[28]?=Á (Õ<|decide<|kd≠1)->fF À Ñ J f (IH e qX)): fF À Ñ J l (Dj t qX):=by
 obtain⟨S,T,V,W,m,o,z,X,Y,y9,zf,A4,A5,B,C,D,A7,A8,A9,zg,zh,xH,xI,xK,zi,xC,yY,sP,sQ,tK,tL,tM,xD,vT,vU,uL,uM,vV,vW,vY,vZ,we,wh,wi,wj,wm,rZ,r7,rfl⟩:=Me t a.r;obtain rfl:iv=m:=(show m=iv by simpa using a.N).symm;obtain rfl:qv=o:=(show o=qv by simpa using a.S).symm;obtain rfl:z=Â (Á ⟨lg,0,Ã⟩):=fN a.Y;obtain rfl:B=È (Á ⟨j,0,Ã⟩) R n:=fN a.C;obtain rfl:C=Æ Í R:=fN a.I;obtain rfl:D=Æ Í i:=fN a.M;have avZ:(i:Int)<(R:Int):=Z;have hF:True:=trivial;have xL:∀y:Û,False->l.r y:=λy E=>E.elim;apply gY c.r;simp only[Dj];conv in IG=>whnf
 repeat w_go fW
 apply gZ;apply ru u (Ç s) c.r h;walk_nrm;apply gY c.r;repeat w_go fW
 apply gZ;refine o8 (λp=>Â<|Á ⟨p,0,Ã⟩) (Ï #[Â Ã,Æ Í 0,Â Ã,Â Ã] 148) c h λDc d F G r H I=> ?_;walk_nrm;refine Ig (Â<|Á ⟨b,0,Ã⟩) (Æ Í i) (Â<|Á ⟨lg,0,Ã⟩) (Â Ã) G H I λK L N p O=> ?_;have g:=F.H c r L;apply gY p.r;repeat w_go fW
 apply gZ;apply ru ((iE<|g.r b k id).trans v) (Ç<|g.M k) p.r O;walk_nrm;apply gY p.r;iterate 2 w_go fW
 apply gZ;apply x K _ d g r N ⟨U,U,U,U,U,U,U⟩ U;simp;rfl
end
section
variable{J:Jd}{l:fx}{a:List É}
def aj2(o:gT l)(p:¬l.q)(f:PT v x z b j i d)(W:i<j)(X:j<1000)(C:d[9]?=Á (Â<|Á ⟨m,0,Ã⟩))(D:d[28]?=Á (Õ Ñ))(Y:n<1000)(r:iO l m (Ï #[Â<|Á ⟨k,0,Ã⟩,Æ Í i,Â<|Á ⟨b,0,Ã⟩,Â Ã] 148))(E:l.w.ownsRow 0 148 4 x n a)(F:∀c,x.ownBlock=Á c->l.O c)(G:∀g s h,iz (λe=>Á e=x.ownBlock) l g->g.w.ownsRow 0 148 4 h (n+1) (a++[Â<|Á ⟨k,0,Ã⟩,Æ Í i,Â<|Á ⟨b,0,Ã⟩,Â Ã])->(∀c,h.ownBlock=Á c->g.O c)->(∀c,h.ownBlock=Á c->x.ownBlock=Á c\/l.w.heap.size<=c)->PT v h z b j (i+1) s->fF À Ñ J g (Dj s qX)): fF À Ñ J l (IH d qX):=by
 obtain⟨y0,y1,y2,y3,t,u,H,y7,y8,I,zf,A4,A5,y,K,L,A7,A8,A9,zg,zh,xH,xI,xK,zi,xC,yY,sP,M,tK,tL,tM,xD,vT,vU,uL,uM,vV,vW,vY,vZ,we,wh,wi,wj,wm,rZ,r7,rfl⟩:=Me d f.r;obtain rfl:v=t:=(show t=v by simpa using f.N).symm;obtain rfl:x=u:=(show u=x by simpa using f.S).symm;obtain rfl:H=Â (Á ⟨b,0,Ã⟩):=fN f.Y;obtain rfl:I=Â (Á ⟨m,0,Ã⟩):=fN C;obtain rfl:z=y:=(show y=z by simpa using f.C).symm;obtain rfl:K=Æ Í j:=fN f.I;obtain rfl:L=Æ Í i:=fN f.M;obtain rfl:M=Õ Ñ:=fN D;have hF:True:=trivial;apply gY o.r;simp only[IH];conv in Sp=>whnf
 conv in Sq=>whnf
 repeat w_go fW
 apply gZ;apply Fb r.S r.M o p;walk_nrm;refine L0 [Â<|Á ⟨k,0,Ã⟩,Æ Í i,Â<|Á ⟨b,0,Ã⟩,Â Ã] ⟨E,F⟩ Ļ Ű (by simp[Υ];omega) (by simp only[ĸ];omega) o p λN P px Q B S T Fo=> ?_;walk_nrm;have V:Í.wrap ((i:Int)+1)=((i+1:Nat):Int):=by rw[Db Z Z];omega
 apply gY T.r;repeat w_go fW
 apply gZ;refine G N _ P Q B.r B.fE S ⟨U,U,U,U,U,U,?_⟩;simp[V]
def aj3(o:gT l)(L:¬l.q)(hd:l.d=0)(h:PT v x z b j i d)(hiR:i<j)(hR:j<1000)(h9:d[9]?=Á (Â<|Á ⟨m,0,Ã⟩))(h28:d[28]?=Á (Õ Ò))(hn:n<1000)(M:iO l m (Ï #[Â<|Á ⟨k,0,Ã⟩,Æ Í i,Â<|Á ⟨b,0,Ã⟩,Â Ã] 148))(N:l.w.ownsRow 0 148 4 v n a)(hO:∀c,v.ownBlock=Á c->l.O c)(wy:v.ownBlock≠Á m)(hJ:∀r P s g,iz (λf=>Á f=v.ownBlock\/f=m) l r->r.w.ownsRow 0 148 4 s (n+1) (a++[Â<|Á ⟨k,0,Ã⟩,Æ Í i,Â<|Á ⟨b,0,Ã⟩,Â<|Á ⟨g,0,Ã⟩])->(∀c,s.ownBlock=Á c->r.O c)->(∀c,s.ownBlock=Á c->v.ownBlock=Á c\/g<c)->l.w.heap.size<=g->iO r g (Ï #[Æ Ë 4294967296,Æ Γ 0,È Ã 0 0] 96)->PT s x z g j (i+1) P->fF À Ñ J r (Dj P qX)): fF À Ñ J l (IH d qX):=by
 obtain⟨y0,y1,y2,y3,Q,S,y6,y7,y8,y9,zf,A4,A5,T,Im,A6,A7,A8,A9,zg,zh,xH,xI,xK,zi,xC,yY,sP,sQ,tK,tL,tM,xD,vT,vU,uL,uM,vV,vW,vY,vZ,we,wh,wi,wj,wm,rZ,r7,rfl⟩:=Me d h.r;obtain rfl:v=Q:=(show Q=v by simpa using h.N).symm;obtain rfl:x=S:=(show S=x by simpa using h.S).symm;obtain rfl:y6=Â (Á ⟨b,0,Ã⟩):=fN h.Y;obtain rfl:y9=Â (Á ⟨m,0,Ã⟩):=fN h9;obtain rfl:z=T:=(show T=z by simpa using h.C).symm;obtain rfl:Im=Æ Í j:=fN h.I;obtain rfl:A6=Æ Í i:=fN h.M;obtain rfl:sQ=Õ Ò:=fN h28;have hF:True:=trivial;apply gY o.r;simp only[IH];conv in Sp=>whnf
 conv in ZE=>whnf
 conv in Sq=>whnf
 repeat w_go fW
 apply gZ;refine o8 (λp=>Â<|Á ⟨p,0,Ã⟩) (Ï #[Æ Ë 0,Æ Γ 0,È Ã 0 0] 96) o L λDc g t u F G V=> ?_;walk_nrm;have htl:m<l.w.heap.size:=o.fM m<|Ç M.fE;have W:=M.C t id;apply gY G.r;iterate 7 w_go fW
 u_call sR.f_add (nm_add Lk) addFn fW hF
 apply gZ;refine ZA sR G V (by rwa[t.d]) u.fE u.r U U λy H=> ?_;walk_nrm;have B:iz (λf=>f=g) Dc y:=H.r;have C:=t.H o F B;have X:=W.C B Z;have I:iO y g (Ï #[Æ Ë 4294967296,Æ Γ 0,È Ã 0 0] 96):=⟨B.O g u.fE,H.C⟩;have D:=C.N o;have Y:¬y.q:=by rwa[C.q]
 have hgl:g<y.w.heap.size:=D.fM g<|Ç I.fE;clear H B W u t G V;apply gY D.r;iterate 5 w_go fW
 apply gZ;apply Ie 3 (Â<|Á ⟨g,0,Ã⟩) X D Y;walk_nrm;intro ajT K t3 E Dd;have Fl:=(C.fG λ_ _ q=>q.elim).fA K;have g3:=I.C K Z;have R3:=Df.C ⟨N,hO⟩ Fl λf e p=>wy<|p▸e;have av0:=E.fM g<|Ç g3.fE;clear X I C D Y K;apply gY E.r;iterate 3 w_go fW
 apply gZ;apply Fb t3.S t3.M E Dd;walk_nrm;refine L0 [Â<|Á ⟨k,0,Ã⟩,Æ Í i,Â<|Á ⟨b,0,Ã⟩,Â<|Á ⟨g,0,Ã⟩] R3 Ļ Ű (by simp[Υ];omega) (by simp only[ĸ];omega) E Dd λMb Ma px IC R5 Be Mf Fo=> ?_;walk_nrm;have hw:Í.wrap ((i:Int)+1)=((i+1:Nat):Int):=by rw[Db Z Z];omega
 have g5:=g3.C IC<|Zq N F;have hA6:iz (λf=>Á f=v.ownBlock\/f=m) l Mb:=(Fl.fG λ_ _ q=>Ê q).fA (IC.fG λ_ _ q=>Ç q);apply gY Mf.r;repeat w_go fW
 apply gZ;refine hJ Mb _ Ma g hA6 R5.r R5.fE (λc e=>(Be c e).imp id λq=>by omega) F g5 ⟨U,U,U,U,U,U,?_⟩;simp[hw]
end
def iP(kd:Nat->Int)(i:Nat):List Nat:=(Þ i).filter λj=>decide<|kd j=1
def kq(kd:Nat->Int)(i:Nat):List Nat:=(Þ i).filter λj=>decide<|kd j≠1
def gw(kd:Nat->Int)(i:Nat):Nat:=(iP kd i).length
def tI(rq g:Nat->Nat)(p:Nat×Nat):List É:=[Â<|Á ⟨rq p.1,0,Ã⟩,Æ Í p.1,Â<|Á ⟨g p.2,0,Ã⟩,Â<|Á ⟨g<|p.2+1,0,Ã⟩]
def tQ(kd:Nat->Int)(rq g:Nat->Nat)(p:Nat):List É:=[Â<|Á ⟨rq p,0,Ã⟩,Æ Í p,Â<|Á ⟨g<|gw kd p,0,Ã⟩,Â Ã]
def lk(kd:Nat->Int)(rq g:Nat->Nat)(i:Nat):List É:=(iP kd i).zipIdx.flatMap<|tI rq g
def oe(kd:Nat->Int)(rq g:Nat->Nat)(i:Nat):List É:=(kq kd i).flatMap<|tQ kd rq g
section
variable{kd:Nat->Int}{rq g:Nat->Nat}
def uR(h:kd i=1):iP kd (i+1)=iP kd i++[i]:=by simp[iP,ð,ÿ,h]
def xN(h:kd i≠1):iP kd (i+1)=iP kd i:=by simp[iP,ð,ÿ,h]
def Sr(h:kd i=1):kq kd (i+1)=kq kd i:=by simp[kq,ð,ÿ,h]
theorem Ss(h:kd i≠1):kq kd (i+1)=kq kd i++[i]:=by simp[kq,ð,ÿ,h]
def Mg:∀i,gw kd i<=i:=λi=>by unfold gw iP;exact Ó (Ħ _ _) fD
def aj4:∀i,(kq kd i).length<=i:=λi=>by unfold kq;exact Ó (Ħ _ _) fD
def ZF(h:j<=i):gw kd j<=gw kd i:=by
 induction i with
 |zero=>
  have:j=0:=Z;rw[this];exact eE _|succ i c=>
  by_cases e:j=i+1;rw[e];exact eE _;have a:=c Z;by_cases b:kd i=1;unfold gw at a|-;rw[uR b];simp;omega;unfold gw at a|-;rwa[xN b]
def aj5(h:kd i=1):lk kd rq g (i+1)=lk kd rq g i++tI rq g (i,gw kd i):=by unfold lk;rw[uR h,List.zipIdx_append,cM];simp[gw]
def aj6(h:kd i≠1):lk kd rq g (i+1)=lk kd rq g i:=by unfold lk;rw[xN h]
def aj7(h:kd i=1):oe kd rq g (i+1)=oe kd rq g i:=by unfold oe;rw[Sr h]
theorem aj8(h:kd i≠1):oe kd rq g (i+1)=oe kd rq g i++tQ kd rq g i:=by unfold oe;grind [Ss]
def Sv{f a:gX->List É}:∀(l:List gX),(∀x∈l,f x=a x)->l.flatMap f=l.flatMap a|[],_=>rfl|x::l,h=>by rw[eL,eL,h x eZ,Sv l λy b=>h y<|fi _ b]
def aj9(h:∀k,k<=gw kd i->D k=g k):lk kd rq D i=lk kd rq g i:=by
 unfold lk;refine Sv _ λx a=> ?_;let⟨p,k⟩:=x;have b:=(List.mem_zipIdx a).2.1;have c:k<gw kd i:=by unfold gw;omega
 simp[tI,h k Z,h (k+1) Z]
def akb(h:∀k,k<=gw kd i->D k=g k):oe kd rq D i=oe kd rq g i:=by
 unfold oe;refine Sv _ λp a=> ?_;have b:p<i:=by have:=(ü.1 a).1;simpa using this
 simp[tQ,h (gw kd p)<|ZF Z]
def Sw{f:gX->List É}(a:∀x,(f x).length=4)(b:i<4):∀(l:List gX)(k:Nat)(x:gX),l[k]?=Á x->(l.flatMap f)[k*4+i]?=(f x)[i]?|[],k,x,h=>by simp at h|y::l,0,x,h=>by obtain rfl:y=x:=fN h;rw[eL,eR (by rw[a];omega)];simp|y::l,k+1,x,h=>by rw[eL,eT (by rw[a];omega),a,show(k+1)*4+i-4=k*4+i by omega];exact Sw a b l k x<|fN h
end
abbrev Sx:Obj:=Ï #[Æ Ë 4294967296,Æ Γ 0,È Ã 0 0] 96
structure Bf(kd:Nat->Int)(rq g:Nat->Nat)(S i:Nat)(iv qv:É)(l0 l:fx):Prop where
 r:iz fB l0 l
 lk:l.w.ownsRow 0 148 4 iv (gw kd i) (lk kd rq g i)
 oe:l.w.ownsRow 0 148 4 qv (kq kd i).length (oe kd rq g i)
 C:∀k,iv.ownBlock=Á k->l.O k/\l0.w.heap.size<=k
 I:∀k,qv.ownBlock=Á k->l.O k/\l0.w.heap.size<=k
 M:∀k,iv.ownBlock=Á k->qv.ownBlock≠Á k
 N:∀k,1<=k->k<=gw kd i->iO l (g k) Sx/\l0.w.heap.size<=g k/\iv.ownBlock≠Á (g k)/\qv.ownBlock≠Á (g k)
 g0:g 0<l0.w.heap.size
 S:g 0=S
 Y:∀k k',k<k'->k'<=gw kd i->g k<g k'
section
variable{kd:Nat->Int}{rq g:Nat->Nat}{iv qv:É}{l0 l a m:fx}
theorem Bf.akc(h:Bf kd rq g n i iv qv l0 l)(y:gT l0)(s:gT l)(r:kd i≠1)(c:iz fB l a)(d:iz (λb=>Á b=qv.ownBlock) a m)(G:m.w.ownsRow 0 148 4 v ((kq kd i).length+1) (fO.oe kd rq g i++tQ kd rq g i))(B:∀k,v.ownBlock=Á k->m.O k)(C:∀k,v.ownBlock=Á k->qv.ownBlock=Á k\/a.w.heap.size<=k):Bf kd rq g n (i+1) iv v l0 m:=by
 have o:gw kd (i+1)=gw kd i:=by unfold gw;rw[xN r]
 have t:∀{j},l.O j->qv.ownBlock≠Á j->v.ownBlock≠Á j:=λ{j} p hn e=>by have:=ff (s.fM _<|Ç p) c.I;grind
 refine⟨(h.r.fA c).Ic d λj p e=> ?_,?_,?_,λk e=>⟨d.O k<|c.O k (h.C k e).1,(h.C k e).2⟩,λk e=>⟨B k e,?_⟩,λk e=>t (h.C k e).1<|h.M k e,λk q f=> ?_,h.g0,h.S,λk D q f=>h.Y k D q<|by rwa[<-o]⟩;have:=(h.I j e.symm).2;have:=y.fM j p;omega;rw[o,aj6 r];refine wA h.lk λk e=>(d.r k (Ç<|c.O k (h.C k e).1) λz=>h.M k e z.symm).trans<|c.r k (Ç (h.C k e).1) id;grind [Ss,aj8];have:=h.r.I;have:=c.I;exact(C k e).elim (λz=>(h.I k z).2) λz=>by omega
 rw[o]at f;let⟨u,E,F,x⟩:=h.N k q f;exact⟨(u.C c id).C d λz=>x z.symm,E,F,t u.fE x⟩
theorem Bf.lY{tb:Nat}(h:Bf kd rq g n i iv qv l0 l)(F:gT l0)(s:gT l)(c:kd i=1)(d:iz fB l a)(M:l.w.heap.size<=tb)(p:iz (λb=>Á b=iv.ownBlock\/b=tb) a m)(G:m.w.ownsRow 0 148 4 v (gw kd i+1) (fO.lk kd rq g i++[Â<|Á ⟨rq i,0,Ã⟩,Æ Í i,Â<|Á ⟨g<|gw kd i,0,Ã⟩,Â<|Á ⟨J,0,Ã⟩]))(H:∀k,v.ownBlock=Á k->m.O k)(t:∀k,v.ownBlock=Á k->iv.ownBlock=Á k\/J<k)(N:a.w.heap.size<=J)(I:iO m J Sx):Bf kd rq (λk=>if k<=gw kd i then g k else J) n (i+1) v qv l0 m:=by
 have u:gw kd (i+1)=gw kd i+1:=by unfold gw;rw[uR c];simp
 have P:=h.r.I;have Q:=d.I;have f:∀{j},l.O j->j<l.w.heap.size:=λq=>s.fM _<|Ç q;have x:∀{j},l.O j->iv.ownBlock≠Á j->v.ownBlock≠Á j:=λ{j} q hn e=>by grind
 have B:∀k,k<=gw kd i->(if k<=gw kd i then g k else J)=g k:=λk c=>if_pos c;refine⟨(h.r.fA d).Ic p λj q e=> ?_,?_,?_,λk e=>⟨H k e,?_⟩,λk e=>⟨p.O k<|d.O k (h.I k e).1,(h.I k e).2⟩,λk e z=>x (h.I k z).1 (λy=>h.M k y z) e,λk r C=> ?_,?_,?_,λk D r C=> ?_⟩;have:=F.fM j q;obtain e|e:=e;have:=(h.C j e.symm).2;omega;omega;rw[u,aj5 c,aj9 B];simpa[tI,show¬(gw kd i+1<=gw kd i) by omega]using G;rw[Sr c,aj7 c,akb B];refine wA h.oe λk e=> ?_;refine(p.r k (Ç<|d.O k (h.I k e).1) ?_).trans<|d.r k (Ç (h.I k e).1) id;rintro(z|z);exact h.M k z.symm e;have:=f (h.I k e).1;omega;exact(t k e).elim (λz=>(h.C k z).2) λz=>by omega
 by_cases y:k<=gw kd i;simp only[if_pos y];let⟨o,K,E,L⟩:=h.N k r y;refine⟨(o.C d id).C p ?_,K,x o.fE E,L⟩;rintro(z|z);exact E z.symm;have:=f o.fE;omega;simp only[if_neg y];refine⟨I,Z,λe=> ?_,λe=> ?_⟩;exact(t J e).elim (λz=>by have:=f (h.C J z).1;omega) λz=>by omega
 have:=f (h.I J e).1;omega;simp only[eD,if_true];exact h.g0;simp only[eD,if_true];exact h.S;rw[u]at C;by_cases y:D<=gw kd i;simp only[if_pos y,if_pos (show k<=gw kd i by omega)];exact h.Y k D r y;simp only[if_neg y,if_pos (show k<=gw kd i by omega)];by_cases E:k=0;subst E;have:=h.g0;omega;let⟨o,_⟩:=h.N k Z Z;have:=f o.fE;omega
end
section
variable{J:Jd}{ra:Option Û}{rb cr R:Nat}{cs:List ò}{kd:Nat->Int}{rq:Nat->Nat}{l0:fx}
def Sy(j:gT l0)(u:¬l0.q)(v:l0.d=0)(m:R<1000)(p:0<R->ra=Á ⟨rb,0,Ã⟩)(x:0<R->l0.M rb)(y:∀i,i<R->l0.w.cell? ⟨rb,i,Ã⟩=Á (Â<|Á ⟨rq i,0,Ã⟩))(r:∀i,i<R->l0.M (rq i))(z:∀i,i<R->l0.w.cell? ⟨rq i,4,Ã⟩=Á (Æ Í<|kd i))(B:∀g N P a b,Bf kd rq g n R a b l0 N->PT a b (È ra R cr) (g<|gw kd R) R R P->fF À Ñ J N (Dj P cs)): ∀d i,R=i+d->∀g l t a b,Bf kd rq g n i a b l0 l->PT a b (È ra R cr) (g<|gw kd i) R i t->fF À Ñ J l (Dj t cs)
 |0,i,hi,g,l,t,a,b,hP,hT=>by obtain rfl:R=i:=hi;exact B g l t a b hP hT
 |d+1,i,hi,g,l,t,a,b,hP,hT=>by
  have f:i<R:=Z;have o:=hP.r.N j;have Q:¬l.q:=by rwa[hP.r.q]
  have S:=x Z;refine aj1 o Q (by rwa[<-p Z]) f m (hP.r.M S) ((iE<|hP.r.r rb S id).trans<|y i f) (hP.r.M<|r i f) ((iE<|hP.r.r _ (r i f) id).trans<|z i f) λl1 t1 T c wy V C W s=> ?_;rw[<-p Z]at C;have X:=c.N o;have Y:¬l1.q:=by rwa[c.q]
  have hc:=Mg (kd:=kd) i;have hcq:=aj4 (kd:=kd) i;by_cases h:kd i=1;rw[decide_eq_false<|fN h]at s;refine aj3 X Y (by rwa[c.d,hP.r.d]) C f m W s Z V (wA hP.lk λk e=>c.r k (Ç (hP.C k e).1) id) (λk e=>c.O k (hP.C k e).1) (λe=>by have:=o.fM T<|Ç (hP.C T e).1;omega) λD E iv' gt F G H I hgt hg K=> ?_;apply Sy j u v m p x y r z B d (i+1) Z _ D E iv' b (hP.lY j o h c wy F G H I hgt hg);have L:gw kd (i+1)=gw kd i+1:=by unfold gw;rw[uR h];simp
  rw[L];simp only[show¬(gw kd i+1<=gw kd i) by omega,if_false];exact K;rw[decide_eq_true<|fN h]at s;refine aj2 X Y C f m W s Z V (wA hP.oe λk e=>c.r k (Ç (hP.I k e).1) id) (λk e=>c.O k (hP.I k e).1) λD E e F G H I K=> ?_;apply Sy j u v m p x y r z B d (i+1) Z _ D E a e (hP.akc j o h c F G H I);have L:gw kd (i+1)=gw kd i:=by unfold gw;rw[xN h]
  rwa[L]
end
noncomputable def ZG:Ŋ:=mr Ę []
noncomputable def ZH (a b:É) (c:List ò):Ú:=G ((base 29).at ⟨#[a,b,Å,Å,Å,Å,Å,Å,Å,Å,Å,Å,Å,Å,Å,Å,Å,Å,Å,Å,Å,Å,Å,Å,Å,Å,Å,Å,Å,Å,Å,Å,Å,Å,Å,Å,Å,Å,Å,Å,Å,Å,Å,Å,Å,Å,Å,Å],[]⟩ [č ZG]) c
def akd{c:ò}{d:ŋ}{k:List ν}{K:Ú->Î->Array Ξ->Prop}{t u v:Tmp}(g:f.kind=.normal)(j:y.defers=[])(l:P.funcs[f.fn]?=Á s)(e:s.results=#[.tmp t,.tmp u,.tmp v])(h:K (G (c.at (d.put ((Q[i]?).bind (·.dst))<|Ý #[y.tmps.getD t Å,y.tmps.getD u Å,y.tmps.getD v Å])<|Ö Q jJ::k) qX) w #[]): (stepG P yQ (G {f.at y L with mode:=.returning}<|c.at d (Ö Q (i::jJ)::k)::qX) w).goes K:=by rwa[stepG_leave g j l (v:=Ý #[y.tmps.getD t Å,y.tmps.getD u Å,y.tmps.getD v Å]) (by simp[ļ,e,go_sem]) (by simp[ļ,e,go_sem]),Ŕ]
structure IJ(kd:Nat->Int)(rq g:Nat->Nat)(R:Nat)(iv qv sv:É)(l l':fx):Prop where
 N:iz fB l l'
 lk:l'.w.ownsRow 0 148 4 iv (gw kd R) (lk kd rq g R)
 oe:l'.w.ownsRow 0 148 4 qv (kq kd R).length (oe kd rq g R)
 r:∀k,iv.ownBlock=Á k->l'.O k/\l.w.heap.size<=k
 C:∀k,qv.ownBlock=Á k->l'.O k/\l.w.heap.size<=k
 dis:∀k,iv.ownBlock=Á k->qv.ownBlock≠Á k
 S:iO l' (g 0) (Ï #[Æ Ë 0,Æ Γ 0,sv] 96)
 I:∀k,1<=k->k<=gw kd R->iO l' (g k) Sx
 M:∀k,k<=gw kd R->l.w.heap.size<=g k/\iv.ownBlock≠Á (g k)/\qv.ownBlock≠Á (g k)
 Y:∀k k',k<k'->k'<=gw kd R->g k<g k'
section
variable{J:Jd}{l:fx}{ra:Option Û}{rb cr R:Nat}{sa:Option Û}{sn sc:Nat}{k:List ν}{kd:Nat->Int}{rq:Nat->Nat}
def ake(r:gT l)(C:¬l.q)(D:l.d=0)(E:R<1000)(F:0<R->ra=Á ⟨rb,0,Ã⟩)(s:0<R->l.M rb)(H:∀i,i<R->l.w.cell? ⟨rb,i,Ã⟩=Á (Â<|Á ⟨rq i,0,Ã⟩))(t:∀i,i<R->l.M (rq i))(I:∀i,i<R->l.w.cell? ⟨rq i,4,Ã⟩=Á (Æ Í<|kd i))(K:∀g n b c,IJ kd rq g R b c (È sa sn sc) l n->fF À Ñ J n (G (f.at (y.put ((Q[i]?).bind (·.dst))<|Ý #[b,c,Â<|Á ⟨g<|gw kd R,0,Ã⟩])<|Ö Q jJ::k) qX)): fF À Ñ J l (ZH (È ra R cr) (È sa sn sc)<|f.at y (Ö Q (i::jJ)::k)::qX):=by
 have hF:=trivial;apply gY r.r;simp only[ZH];conv in ZG=>whnf
 repeat w_go fW
 apply gZ;refine o8 (λp=>Â<|Á ⟨p,0,Ã⟩) (Ï #[Æ Ë 0,Æ Γ 0,È sa sn sc] 96) r C λL u p v N j O=> ?_;walk_nrm;apply gY j.r;repeat w_bar fW
 w_go fW
 apply gZ;have P:=j.fM u<|Ç v.fE;refine Sy j O (by rwa[p.d]) E F (λh=>p.M<|s h) (λi h=>(iE<|p.r rb (s Z) id).trans<|H i h) (λi h=>p.M<|t i h) (λi h=>(iE<|p.r _ (t i h) id).trans<|I i h) (λg n S b c h a=> ?_) R 0 Z (λ_=>u) L _ (È Ã 0 0) (È Ã 0 0) ⟨iz.gy j.r,⟨U,Ç ⟨U,U⟩⟩,⟨U,Ç ⟨U,U⟩⟩,λk e=>(by cases e),λk e=>(by cases e),λk e=>(by cases e),λk o m=> ?_,P,rfl,λk T o m=> ?_⟩ ⟨rfl,rfl,rfl,rfl,rfl,rfl,rfl⟩
 .have V:=h.r.N j;obtain⟨y0,y1,y2,y3,x,z,W,y7,y8,y9,zf,A4,A5,X,Y,A6,A7,A8,A9,zg,zh,xH,xI,xK,zi,xC,yY,sP,sQ,tK,tL,tM,xD,vT,vU,uL,uM,vV,vW,vY,vZ,we,wh,wi,wj,wm,rZ,r7,rfl⟩:=Me S a.r;obtain rfl:b=x:=(show x=b by simpa using a.N).symm;obtain rfl:c=z:=(show z=c by simpa using a.S).symm;obtain rfl:W=Â (Á ⟨g<|gw kd R,0,Ã⟩):=fN a.Y;obtain rfl:X=È ra R cr:=fN a.C;obtain rfl:Y=Æ Í R:=fN a.I;obtain rfl:A6=Æ Í R:=fN a.M;have iu:¬((R:Int)<(R:Int)):=Z;apply gY V.r;simp only[Dj];conv in IG=>whnf
  conv in So=>whnf
  repeat w_go fW
  u_in fW hF
  refine akd U U Δ U ⟨by u_nil,?_⟩;walk_nrm;apply gZ;have B:=h.S;refine K g n b c ⟨p.fA h.r,h.lk,h.oe,λk e=>⟨(h.C k e).1,Ó p.I (h.C k e).2⟩,λk e=>⟨(h.I k e).1,Ó p.I (h.I k e).2⟩,h.M,B▸v.C h.r id,λk o m=>(h.N k o m).1,λk hk=> ?_,h.Y⟩;by_cases h0:k=0;subst h0;rw[B];exact⟨N,λe=>by have:=(h.C _ e).2;omega,λe=>by have:=(h.I _ e).2;omega⟩;let⟨_,a2,a3,a4⟩:=h.N k Z hk;exact⟨Ó p.I a2,a3,a4⟩
 have:k<=0:=m;omega;have:T<=0:=m;omega
end
noncomputable def ZI:Ŋ:=mr Tryz.f20 []
noncomputable def Ft (a b:É) (n:Nat) (c:List ò):Ú:=G ((base 20).at ⟨#[a,b,Æ Í n,Å,Å,Å,Å,Å,Å,Å,Å,Å,Å,Å,Å,Å,Å,Å,Å,Å,Å,Å,Å,Å,Å,Å,Å,Å,Å,Å,Å,Å,Å,Å,Å,Å,Å,Å,Å,Å,Å,Å,Å,Å,Å,Å,Å,Å,Å],[]⟩ [č ZI]) c
def IJ.Ic{kd:Nat->Int}{rq:Nat->Nat}{R:Nat}{l a b:fx}(h:IJ kd rq D R v x z l a)(k:iz fB a b):IJ kd rq D R v x z l b:=⟨h.N.fA k,wA h.lk λj e=>k.r j (Ç (h.r j e).1) id,wA h.oe λj e=>k.r j (Ç (h.C j e).1) id,λj e=>⟨k.O j (h.r j e).1,(h.r j e).2⟩,λj e=>⟨k.O j (h.C j e).1,(h.C j e).2⟩,h.dis,h.S.C k id,λj c d=>(h.I j c d).C k id,h.M,h.Y⟩
abbrev IK(R:Nat):Obj:=Ï (ũ (ó<|Ø ⟨#[]⟩) R) 9
structure Mh(kd:Nat->Int)(rq g:Nat->Nat)(R:Nat)(iv qv sv:É)(an ba bi all bw bf:Nat)(l lp l':fx):Prop where
 C:iz fB l l'
 r:IJ kd rq g R iv qv sv lp l'
 I:iO l' an (IK R)
 Y:iO l' ba (Ï #[È (Á ⟨an,0,Ã⟩) R R] 54)
 b:iO l' bi (Ï #[iv] 76)
 iA:iO l' all (Ï #[Æ Ë 4294967296,Æ Γ 0] 88)
 c:iO l' bw (Ï #[Â<|Á ⟨all,0,Ã⟩] 155)
 a:iO l' bf (Ï #[.func (.func 31) #[] #[Â<|Á ⟨bi,0,Ã⟩,Â<|Á ⟨ba,0,Ã⟩]] 1)
 M:l.w.heap.size<=an/\an<ba/\ba<lp.w.heap.size
 N:∀k,k<=gw kd R->g k<bi
 o3:∀k,iv.ownBlock=Á k->k<bi
 o4:∀k,qv.ownBlock=Á k->k<bi
 S:bi<all/\all<bw/\bw<bf
section
variable{J:Jd}{l:fx}{ra:Option Û}{rb cr R:Nat}{sa:Option Û}{sn sc:Nat}{kd:Nat->Int}{rq:Nat->Nat}
def akf(x:gT l)(hq:¬l.q)(hd:l.d=0)(hR:R<1000)(Fu:0<R->ra=Á ⟨rb,0,Ã⟩)(Bg:0<R->l.M rb)(Sz:∀i,i<R->l.w.cell? ⟨rb,i,Ã⟩=Á (Â<|Á ⟨rq i,0,Ã⟩))(Lt:∀i,i<R->l.M (rq i))(SA:∀i,i<R->l.w.cell? ⟨rq i,4,Ã⟩=Á (Æ Í<|kd i))(hJ:∀g lp l' t S y z r B a C D v1,Mh kd rq g R S y (È sa sn sc) z r B a C D l lp l'->IA r a (g<|gw kd R) n y t->J l' (Dh (Â<|Á ⟨a,0,Ã⟩) v1 (Â<|Á ⟨a,0,Ã⟩) (Ý #[]) C D<|Fj t::qX)): fF À Ñ J l (Ft (È sa sn sc) (È ra R cr) n qX):=by
 have hF:True:=trivial;have ZJ:À.info? 9=Á Ĝ:=Tryz.type9;have Qo:∀w:Î,(ģ 54 (Æ Í (R:Int))<|Æ Í (R:Int)).run À w=Η (È (Á ⟨w.heap.size,0,Ã⟩) R R) (w.alloc<|IK R):=λw=>by have:=run_makeSlice (P:=À) w 54 9 Ĝ (Ø ⟨#[]⟩) Ľ ZJ U Í Í (R:Int) (R:Int) Z Z (by simp[Ĝ];omega) (by simp[Ĝ];omega) Z;simpa[Ĝ]using this
 have hme:∀w:Î,(ģ 54 (Æ Í (R:Int))<|Æ Í (R:Int)).events À w #[]=#[]:=λw=>
  events_make (P:=À) w 54 9 Ĝ (Ø ⟨#[]⟩) Ľ ZJ U Í Í (R:Int) (R:Int) Z Z (by simp[Ĝ];omega) Z (by simp[Ĝ];omega) _
 apply gY x.r;simp only[Ft];conv in ZI=>whnf
 repeat w_go fW
 apply gZ;refine o8 (λp=>È (Á ⟨p,0,Ã⟩) R R) (IK R) x hq (λb z j s c tR qj=> ?_) (hr:=λw=>by have b:=Qo w;go_simp) (he:=λw=>by have b:=hme w;simp[go_sem,b]);walk_nrm;have lan:=tR.fM z<|Ç s.fE;refine o8 (λp=>Â<|Á ⟨p,0,Ã⟩) (Ï #[È Ã 0 0] 54) tR qj λl2 r T u hba Ba r9=> ?_;walk_nrm;have lba:=Ba.fM r<|Ç u.fE;apply Ie 0 (È (Á ⟨z,0,Ã⟩) R R) u Ba r9;walk_nrm;intro l3 K u ZK akg;have v:=(j.fA T).H x Z K;replace s:=(s.C T id).C K Z;have s3:=K.I;clear j T K;apply gY ZK.r;iterate 5 w_go fW
 u_call Δ gq Ę fW hF
 apply gZ;refine ake (l:=l3) (kd:=kd) (rq:=rq) (ra:=ra) (rb:=rb) (cr:=cr) (R:=R) (sa:=sa) (sn:=sn) (sc:=sc) ZK akg (by rwa[v.d]) hR Fu (λh=>v.M<|Bg h) (λi b=>(iE<|v.r rb (Bg Z) id).trans<|Sz i b) (λi b=>v.M<|Lt i b) (λi b=>(iE<|v.r _ (Lt i b) id).trans<|SA i b) λg E S y f=> ?_;walk_nrm;have L:=v.fA f.N;replace s:=s.C f.N id;replace u:=u.C f.N id;have s4:=f.N.I;have m:=L.N x;have akh:¬E.q:=by rwa[L.q]
 obtain⟨F,G,rfl⟩:∃F G,S=È F (gw kd R) G:=by obtain⟨c,e⟩|⟨b,k,o,c,_⟩:=f.lk.2;exact⟨Ã,0,by rwa[e]⟩;exact⟨_,_,c⟩
 have og:∀k,k<=gw kd R->g k<E.w.heap.size:=λk V=>by by_cases c:k=0;subst c;exact m.fM _<|Ç f.S.fE;exact m.fM _<|Ç (f.I k Z V).fE
 have oi:∀k,(È F (gw kd R) G).ownBlock=Á k->k<E.w.heap.size:=λk e=>m.fM _<|Ç (f.r k e).1;have oq:∀k,y.ownBlock=Á k->k<E.w.heap.size:=λk e=>m.fM _<|Ç (f.C k e).1;apply gY m.r;iterate 4 w_go fW
 apply gZ;refine o8 (λp=>Â<|Á ⟨p,0,Ã⟩) (Ï #[È Ã 0 0] 76) m akh λl5 B k5 N SB Mf Fo=> ?_;walk_nrm;have lbi:=Mf.fM B<|Ç N.fE;apply Ie 0 (È F (gw kd R) G) N Mf Fo;walk_nrm;intro l6 k6 N Fp Md;have s6:=k6.I;apply gY Fp.r;iterate 5 w_go fW
 apply gZ;refine o8 (λp=>Â<|Á ⟨p,0,Ã⟩) (Ï #[Æ Ë 0,Æ Γ 0] 88) Fp Md λl7 a k7 c4 Fv W Sm=> ?_;walk_nrm;have av1:=W.fM a<|Ç c4.fE;apply gY W.r;iterate 4 w_go fW
 u_call Tryz.func30 gq Tryz.f30 fW hF
 iterate 2 w_go fW
 apply gZ;refine o8 (λp=>Â<|Á ⟨p,0,Ã⟩) (Ï #[Â<|Á ⟨a,0,Ã⟩] 155) W Sm λl8 C k8 H IE ZL hq8=> ?_;walk_nrm;have lbw:=ZL.fM C<|Ç H.fE;refine o8 (λp=>Â<|Á ⟨p,0,Ã⟩) (Ï #[.func (.func 31) #[] #[Â<|Á ⟨B,0,Ã⟩,Â<|Á ⟨r,0,Ã⟩]] 1) ZL hq8 λl9 D X c6 Zw p ZM=> ?_;walk_nrm;have ZN:=k7.fA<|k8.fA X;have kB:=(k5.H m SB k6).fA ZN;have lbf:=p.fM D<|Ç c6.fE;replace H:=H.C X id;apply gY p.r;iterate 3 w_go fW
 apply gZ;apply qi 0 H p ZM;walk_nrm;apply gY p.r;u_call sR.f_add (nm_add Lk) addFn fW hF;apply gZ;have Y:=c4.C (k8.fA X) id;refine ZA sR p ZM (by rwa[kB.d,L.d]) Y.fE Y.r U U λQ hC=> ?_;walk_nrm;have j:iz (λb=>b=a) l9 Q:=hC.r;have hB:=kB.H m Z j;have hA:=L.fA hB;apply gY (hA.N x).r;iterate 3 w_go fW
 apply gZ;refine .fS λZO SC=> ?_;have I:∀{b:Nat} {o:Obj},iO Q b o->iO ({Q with w:=ZO}:fx) b o:=λh=>⟨h.fE,(SC.I _<|Ç h.fE).trans h.r⟩;have ZQ:=λ{b o} (c:iO E b o)=>I<|c.C hB id;exact hJ g l3 {Q with w:=ZO} _ (È F (gw kd R) G) y z r B a C D _ ⟨hA.G SC,f.Ic<|hB.G SC,ZQ s,ZQ u,I<|(N.C ZN id).C j Z,I ⟨j.O a Y.fE,hC.C⟩,I<|H.C j Z,I<|c6.C j Z,⟨Z,Z,Z⟩,λk V=>by have:=og k V;omega,λk e=>by have:=oi k e;omega,λk e=>by have:=oq k e;omega,⟨Z,Z,Z⟩⟩ ⟨U,U,U,U,U,U⟩
end
def aki{md:ù}{listed:Array Bool}(h:Ô md Q listed=[]):∀(a t:Nat),â md Q a t listed []=[]:=by
 intro a t;cases a with
 |zero=>rfl|succ a=>
  simp only[â];change(match(Ô md Q listed)[t%(Ô md Q listed).length]? with|some i=>â md Q a (t/(Ô md Q listed).length) (listed.setIfInBounds i Ñ) [i]|none=>[].reverse)=[]
  rw[h];rfl
section
variable{J:Jd}{l:fx}
def ZR{md:ù}(I:Array Bool->ŋ->fx->Prop)(p:∀b a l i k,I b a l->b.size=Q.size->i∈Ô md Q b->(Ô md Q (b.setIfInBounds i Ñ)=[]->k=[])->fF P yQ (λg m=>(∃h,m=G (f.at h<|Ö Q k::L) qX/\I (b.setIfInBounds i Ñ) h g)\/fF P yQ J g m) l (G (f.at a<|Ö Q (i::k)::L) qX))(o:∀b a l,I b a l->b.size=Q.size->Ô md Q b=[]->fF P yQ J l (G (f.at a<|Ö Q []::L) qX)): ∀(c t:Nat)(b:Array Bool)(a:ŋ)(l:fx),b.size=Q.size->kl b<=c->I b a l->fF P yQ J l (G (f.at a<|Ö Q (â md Q c t b [])::L) qX):=by
 intro c
 induction c with
 |zero=>
  intro t b a l d q j;simpa[â]using o b a l j d<|RX d Z|succ c r=>
  intro t b a l d q j;simp only[â];change fF P yQ J l (G (f.at a (Ö Q (match(Ô md Q b)[t%(Ô md Q b).length]? with|some i=>â md Q c (t/(Ô md Q b).length) (b.setIfInBounds i Ñ) [i]|none=>[].reverse)::L)) qX)
  cases n:(Ô md Q b)[t%(Ô md Q b).length]? with
  |none=>
   have s:Ô md Q b=[]:=by
    cases u:Ô md Q b with
    |nil=>rfl|cons x e=>
     rw[u]at n;have v:t%(x::e).length<(x::e).length:=Đ _ fD;simp at n;simp at v;omega
   simpa using o b a l j d s
  |some i=>
   simp only[];rw[linearise_go_acc,ez,eh];have x:=eU n;refine(p b a l i _ j d x λe=>aki e _ _).nH ?_;rintro g m (⟨h,rfl,hI'⟩|hW);exact r _ _ h g (fN d) (by have:=LU (Ū.1 x).1;omega) hI';exact hW
def akj{id:Nat}(I:Array Bool->ŋ->fx->Prop)(o:kC l)(p:¬l.q)(g:∀c,gd l l.w c->I (ŕ Q.size Ò) y {l with w:={c with drawn:=c.drawn+1}})(h:∀d b y l i e,I b y l->b.size=Q.size->i∈Ô d Q b->(Ô d Q (b.setIfInBounds i Ñ)=[]->e=[])->fF P yQ (λj k=>(∃m,k=G (f.at m<|Ö Q e::L) qX/\I (b.setIfInBounds i Ñ) m j)\/fF P yQ J j k) l (G (f.at y<|Ö Q (i::e)::L) qX))(n:∀d b y l,I b y l->b.size=Q.size->Ô d Q b=[]->fF P yQ J l (G (f.at y<|Ö Q []::L) qX)): fF P yQ J l (G (f.at y<|č (ħ id Q Ñ)::L) qX):=by refine .mk U λc r=>⟨_,_,_,_,stepG_region_draw,RV (o5 o r) p,?_⟩;unfold Region.schedule;split;exact ZR I (h _) (n _) _ _ _ _ _ fD (by rw[E7];exact eE _)<|g c r;exact ZR I (h _) (n _) _ _ _ _ _ fD (by rw[E7];exact eE _)<|g c r
def akk{id:Nat}{h:Array É}(s:List É)(S:Nat)(b:List Nat)(F:kC l)(H:¬l.q)(z:f.kind≠.early)(B:tO Q h.size=Ñ)(N:Fc Q=Ñ)(O:Ii Q [S] b=Ñ)(V:(Þ Q.size).all (λj=>j==S||b.contains j)=Ñ)(W:∀t,C6 t Q (Þ Q.size) []=Ñ)(X:S<Q.size)(I:(Q[S]?).bind (·.dst)=Ã)(Y:∀T,T=lj Q.toList s h->C9 (λi o=>i=S\/o.guard=Ã/\∀c,ju fB l c->∀g,gd c c.w g->(ô (ľ ⟨T,[]⟩) o).run P g=Η (ė<|jT Q T i) g/\∀e∈(ô (ľ ⟨T,[]⟩) o).events P g #[],r8 c e) 0 Q.toList)(hn:∀c,ju fB l c->fF P yQ J c (G (f.at ⟨lj Q.toList s h,[]⟩<|Ö Q [S]::L) qX)):fF P yQ J l (G (f.at ⟨h,[]⟩<|č (ħ id Q Ñ)::L) qX):=by
 refine akj (λk a c=>lD Q h (jT Q<|lj Q.toList s h) k a/\ju fB l c/\¬k.getD S Ò=Ñ) F H (λg r=>⟨lD.M _ _ _,(ju.gy F).N (λ_ q=>q.elim) ⟨r.r,r.I,r.N,r.Y,r.S⟩,by simp[fq,fc];split<;>simp⟩) (λt k a c i d C K u D=> ?_) λt k a c C K D=> ?_;let⟨n,m,h8⟩:=C;obtain⟨o,v⟩:∃o,Q[i]?=Á o:=⟨_,fj<|AZ u⟩;by_cases e:i=S;subst e;have M:∀j,j∈Þ Q.size->j≠i->k.getD j Ò=Ñ:=λj x mP=>n.G b [i] O (λL z o e p d y=>by rw[eY.1 z]at p;exact zd u p<|du.2 ⟨e,eS.2 d,by simp[y]⟩) j (by simpa[mP]using eI.1 V j x);obtain rfl:=D (by rw[ea];intro j x;have d:=aji x;have Mi:=AZ x;by_cases E:j=i;subst E;simp[show j<k.size by omega]at d;rw[Ŏ Ñ<|cR E]at d;exact R0 d<|M j (dZ.2 Mi) E);obtain rfl:a=⟨lj Q.toList s h,[]⟩:=by let⟨tm,df⟩:=a;have p:=n.I;simp only at p;subst p;congr 1;exact cx λd=>n.Y (oI _ _ _).2 (oI _ _ _).1 B λj o E hdj=>M j (dZ.2 (fp.1 E).1)<|by rintro rfl;rw[E]at I;simp[hdj]at I
 exact .fS λg r=>Ê (hn _<|m.N (λ_ q=>q.elim) r);let⟨d,_⟩:=n.N (oI _ _ _).2 (oI _ _ _).1 B N u v;have E:=Fe _ _ _ _ (Y _ U) (show Q.toList[i]?=Á o by rwa[eV]);rw[dQ]at E;let⟨p,y⟩:=E.resolve_left e;exact AW v (A1 p _) z m.fM (by rwa[m.q]) (λg r=>by rw[d];exact(y _ m g r).1) (λg r=>by rw[d];exact(y _ m g r).2) (.fS λg r=>Ç ⟨_,U,n.fR B v u λ_=>U,m.N (λ_ q=>q.elim) r,by rwa[Ŏ Ò e]⟩);exact absurd (C7 D K _ [] (W t) (λ_ q=>by cases q) S<|dZ.2 X) C.2.2
end
noncomputable def Mj:Ŋ:=mr Ś [1,1,0,0]
noncomputable def ZS:Ŋ:=mr Ś [1]
noncomputable def Mk:Ŋ:=mr Ś [0,1,0,0]
noncomputable def Dk (t:Array É) (a:List ò):Ú:=G ((base 35).at ⟨t,[]⟩ [č Mk,ů Mk,ĺ 0,č ZS]) a
structure DT(dv:É)(qb:Option Û)(q cq i:Nat)(t:Array É):Prop where
 r:t.size=32
 C:t[1]?=Á dv
 t8:t[8]?=Á (È qb q cq)
 M:t[9]?=Á (Æ Í q)
 I:t[10]?=Á (Æ Í i)
def Ml(t:Array É)(h:t.size=32):∃a b c d e f g i j k l m n o p q r s u v w x y z B C D E F G H I:É,t=#[a,b,c,d,e,f,g,i,j,k,l,m,n,o,p,q,r,s,u,v,w,x,y,z,B,C,D,E,F,G,H,I]:=by obtain⟨_,rfl⟩:=xF t h;exact⟨_,_,_,_,_,_,_,_,_,_,_,_,_,_,_,_,_,_,_,_,_,_,_,_,_,_,_,_,_,_,_,_,U⟩
section
variable{N:Jd}{l:fx}{a:Option Û}
theorem akl(s:gT l)(E:¬l.q)(h:DT (È (Á ⟨J,0,Ã⟩) n j) (Á ⟨j6,0,Ã⟩) b m i d)(hiq:i<b)(x:b<1000)(hn:0<n)(IL:n<1000)(z:l.O J)(cd:l.w.cell? ⟨J,i%n,Ã⟩=Á (Ŀ<|Á k))(SF:l.M j6)(i0:l.w.cell? ⟨j6,i*4,Ã⟩=Á (Â a))(i1:l.w.cell? ⟨j6,i*4+1,Ã⟩=Á (Æ Í j7))(i2:l.w.cell? ⟨j6,i*4+2,Ã⟩=Á (Â<|Á ⟨j9,0,Ã⟩))(i3:l.w.cell? ⟨j6,i*4+3,Ã⟩=Á (Â O))(hN:∀f F,ju fB l f->DT (È (Á ⟨J,0,Ã⟩) n j) (Á ⟨j6,0,Ã⟩) b m (i+1) F->fF À Ñ N f (Dk F qX)): fF À Ñ (G9 À Ñ k (ê #[Â a,Æ Í j7,Â<|Á ⟨j9,0,Ã⟩,Â O]) N) l (Dk d qX):=by
 obtain⟨y0,y1,y2,y3,y4,y5,y6,y7,y8,y9,zf,A4,A5,Il,Im,A6,A7,A8,A9,zg,zh,xH,xI,xK,zi,xC,yY,sP,sQ,tK,tL,tM,rfl⟩:=Ml d h.r;obtain rfl:y1=È (Á ⟨J,0,Ã⟩) n j:=fN h.C;obtain rfl:y8=È (Á ⟨j6,0,Ã⟩) b m:=fN h.t8;obtain rfl:y9=Æ Í b:=fN h.M;obtain rfl:zf=Æ Í i:=fN h.I;have xL:∀y:Û,False->l.r y:=λy ha=>ha.elim;have av2:(i:Int)<(b:Int):=Z;have hF:True:=trivial;simp only[Dk];conv in Mk=>whnf
 apply gY s.r;repeat w_go fW
 apply gZ;have R9:∀c,jO l ⟨j6,c,Ã⟩:=λc=>Ç SF;apply Fb R9 ⟨i0,i1,i2,i3⟩ s E;walk_nrm;refine o8 (λp=>Â<|Á ⟨p,0,Ã⟩) (Ï #[Â Ã,Æ Í 0,Â Ã,Â Ã] 148) s E λDc q H I wy B x=> ?_;walk_nrm;apply gY B.r;w_go fW;apply gZ;refine Ig (Â a) (Æ Í j7) (Â<|Á ⟨j9,0,Ã⟩) (Â O) I B x λK L C P r9=> ?_;have t:=(H.H s wy L).toE xL;have Q:=C.fE;let⟨c0,S,V,W⟩:=C.M;rw[dQ]at S V W;clear I H L C B x;have cd2:K.w.cell? ⟨J,i%n,Ã⟩=Á (Ŀ<|Á k):=(iE<|t.r J<|Ç z).trans cd;apply gY P.r;w_go fW;apply gZ;have X:i%n<n:=Đ _ hn;have Y:((i%n:Nat):Int)<(n:Int):=Z
 have ZT:¬(n:Int)=0:=Z;have akm:¬n=0:=Z;have ZU:Int.tmod (i:Int) (n:Int)=((i%n:Nat):Int):=by rw[eX Z];simp
 have rm:Í.wrap ((i%n:Nat):Int)=((i%n:Nat):Int):=Db Z Z;have D:∀f,ju fB K f->∀g,gd f f.w g->(g.cell? ⟨q,0,Ã⟩=Á (Â a)/\g.cell? ⟨q,1,Ã⟩=Á (Æ Í j7)/\g.cell? ⟨q,2,Ã⟩=Á (Â<|Á ⟨j9,0,Ã⟩)/\g.cell? ⟨q,3,Ã⟩=Á (Â O)/\g.cell? ⟨J,i%n,Ã⟩=Á (Ŀ<|Á k))/\(∀c,jO f ⟨q,c,Ã⟩)/\jO f ⟨J,i%n,Ã⟩:=λf o g r=>by have u:∀c,jO f ⟨q,c,Ã⟩:=λc=>Ç<|Ç<|o.O q Q;have v:jO f ⟨J,i%n,Ã⟩:=Ç<|Ç<|o.O J<|t.O J z;have p:=λc=>((u c).r r).trans<|iE<|o.r q<|Ç Q;exact⟨⟨(p 0).trans c0,(p 1).trans S,(p 2).trans V,(p 3).trans W,(v.r r).trans<|(iE<|o.r J<|Ç<|t.O J z).trans cd2⟩,u,v⟩
 generalize i%n=im at X Y ZU rm D;refine akk [È (Á ⟨J,0,Ã⟩) n j,Æ Í i,È (Á ⟨J,0,Ã⟩) n j,Æ Í n,Æ Í im,Â<|Á ⟨J,im,Ã⟩,Ŀ<|Á k,ê #[Â a,Æ Í j7,Â<|Á ⟨j9,0,Ã⟩,Â O],Å] 8 [6,7,5,0,4,1,3,2] P.r r9 ji gq gq gq gq (λT=>by cases T<;>rfl) A U (λT h=> ?_) λf o=> ?_
 .simp only[lj]at h;simp at h;subst h;iterate 8 refine⟨Ê ⟨U,λf o g r=>⟨by
   let⟨⟨d0,d1,d2,d3,d4⟩,_⟩:=D f o g r;simp only[jT];go_simp,λe T=>by
   let⟨⟨d0,d1,d2,d3,d4⟩,u,v⟩:=D f o g r;simp[go_sem,ZT,akm,ZU,rm,X,Y,d0,d1,d2,d3,d4]at T<;>first|(subst T;exact v.rd)|(obtain rfl|rfl|rfl|rfl:=T<;>exact(u _).rd)⟩⟩,?_⟩
  exact⟨Ç U,trivial⟩
 .have u:=t.fA o;simp only[lj];simp;refine .fS λg r=>⟨U,U,λv=>⟨Ý #[],?_⟩,?_⟩;refine(stepG_comm (cases:=#[scase k (ê #[Â a,Æ Í j7,Â<|Á ⟨j9,0,Ã⟩,Â O])<|Ý #[]]) (blocking:=Ñ) (shape:=.send) (w':=v) rfl rfl ji ?_).trans ?_;simp[go_sem,ô,scase,ľ];simp[ι,go_sem,ô,ľ,seen_none];have e:∀(d:Array É) T p,({G ((base 35).at ⟨d,[]⟩<|Ö T [8]::p) qX with frame:=(G ((base 35).at ⟨d,[]⟩<|Ö T [8]::p) qX).frame.finish Å}:Ú)=G ((base 35).at (ς ⟨d,[]⟩ ((T[8]?).bind (·.dst)) Å)<|Ö T []::p) qX:=λd T p=>by
   have:(G ((base 35).at ⟨d,[]⟩<|Ö T [8]::p) qX).frame.finish Å=(base 35).at (ς ⟨d,[]⟩ ((T[8]?).bind (·.dst)) Å) (Ö T []::p):=Ŕ _ _ _ _ _ _ _;rw[this];rfl
  rw[e];walk_nrm;apply gY (u.N (λ_ b=>b.elim) r).fM;iterate 7 w_go fW
  apply gZ;refine hN _ _ (u.N (λ_ b=>b.elim) r) ⟨U,U,U,U,?_⟩;simp;grind [Db]
end
noncomputable def Dl (t:Array É) (a:List ò):Ú:=G ((base 35).at ⟨t,[]⟩ [č Mj,ů Mj,ĺ 2]) a
structure ET(dv:É)(n j:Nat)(t:Array É):Prop where
 r:t.size=32
 akn:t[24]?=Á dv
 C:t[25]?=Á (Æ Í n)
 I:t[26]?=Á (Æ Í j)
def IN(t:Array É):ò:=(base 20).at ⟨t,[]⟩ [Ö L3 [2],č<|(ħ 13 L4 Ò).seq L5]
def Fw(t:Array É)(a:List ò):Ú:=G ((base 20).at ⟨t,[]⟩ [Ö L4 [],č L5]) a
structure SE(ba all pS:Nat)(t:Array É):Prop where
 r:t.size=49
 I:t[8]?=Á (Â<|Á ⟨ba,0,Ã⟩)
 C:t[11]?=Á (Â<|Á ⟨pS,0,Ã⟩)
 Sk:t[12]?=Á (Â<|Á ⟨all,0,Ã⟩)
section
variable{J a N:Jd}{l:fx}{t:Array É}{ba all pS:Nat}{dv:É}
def ako(e:kC l)(a:ST ba all pS n n (È O k j9) dv t)(f:∀b d,DT dv O k j9 0 b->SE ba all pS d->fF À Ñ J l (Dk b<|IN d::qX)):fF À Ñ J l (Dg t qX):=by
 obtain⟨p,q,r,s,u,v,w,x,g,y,h,i,j,c,z,B,C,D,E,F,G,H,I,K,L,M,N,m,o,P,Q,S,T,V,W,X,Y,vV,vW,vY,vZ,we,wh,wi,wj,wm,rZ,r7,yZ,rfl⟩:=IB t a.r;obtain rfl:g=Â (Á ⟨ba,0,Ã⟩):=fN a.a;obtain rfl:h=È O k j9:=fN a.C;obtain rfl:i=Â (Á ⟨pS,0,Ã⟩):=fN a.I;obtain rfl:j=Â (Á ⟨all,0,Ã⟩):=fN a.M;obtain rfl:dv=c:=(show c=dv by simpa using a.N).symm;obtain rfl:m=Æ Í n:=fN a.S;obtain rfl:o=Æ Í n:=fN a.Y;have hF:True:=trivial;apply gY e;simp only[Dg,Fi,Si];iterate 7 w_go fW
 simp only[L8,L3];iterate 4 w_go fW
 u_call Ε gq Ś fW hF
 iterate 9 w_go fW
 apply gZ;exact f _ _ ⟨U,U,U,U,U⟩ ⟨U,U,U,U⟩
def akp(d:kC l)(a:DT (È (Á ⟨j7,0,Ã⟩) n b) O k j9 k t)(e:∀c,ET (È (Á ⟨j7,0,Ã⟩) n b) n 0 c->fF À Ñ J l (Dl c qX)):fF À Ñ J l (Dk t qX):=by
 obtain⟨i,f,j,m,o,p,q,r,s,g,h,u,v,w,x,y,z,B,C,D,E,F,G,H,I,K,L,M,N,P,Q,S,rfl⟩:=Ml t a.r;obtain rfl:f=È (Á ⟨j7,0,Ã⟩) n b:=fN a.C;obtain rfl:g=Æ Í k:=fN a.M;obtain rfl:h=Æ Í k:=fN a.I;have hF:True:=trivial;apply gY d;simp only[Dk];conv in Mk=>whnf
 iterate 7 w_go fW
 conv in ZS=>whnf
 iterate 8 w_go fW
 apply gZ;exact e _ ⟨U,U,U,U⟩
def akq(a:gT l)(g:¬l.q)(c:ET (È (Á ⟨j7,0,Ã⟩) n b) n j t)(y:j<n)(z:n<1000)(i:l.O j7)(o:l.w.cell? ⟨j7,j,Ã⟩=Á (Ŀ<|Á m))(p:∀d e,ju fB l d->ET (È (Á ⟨j7,0,Ã⟩) n b) n (j+1) e->fF À Ñ N d (Dl e qX)):fF À Ñ (K3 À Ñ m N) l (Dl t qX):=by
 obtain⟨B,C,D,F,G,H,I,J,K,L,M,P,Q,S,T,V,W,X,Y,zg,zh,xH,xI,xK,q,u,v,sP,sQ,tK,tL,tM,rfl⟩:=Ml t c.r;obtain rfl:q=È (Á ⟨j7,0,Ã⟩) n b:=fN c.akn;obtain rfl:u=Æ Í n:=fN c.C;obtain rfl:v=Æ Í j:=fN c.I;have hF:True:=trivial;apply gY a.r;simp only[Dl];conv in Mj=>whnf
 repeat w_go fW
 apply gZ;apply ru o (Ç<|Ç i) a.r g;walk_nrm;apply gY a.r;iterate 4 w_go fW
 apply gZ;refine .fS λw₁ x=>⟨U,U,_,U,λG4 cap buf s r tm h=>(stepG_close U U ji U U h gq).trans U,?_⟩;walk_nrm;have f:=(ju.gy (E:=fB) a.r).N (λ_ k=>k.elim) x;apply gY f.fM;iterate 7 w_go fW
 apply gZ;refine p _ _ f ⟨U,U,U,?_⟩;simp;exact Db Z Z
def akr(e:gT l)(g:l.d=0)(p:60<=i)(f:ET dv n n t)(c:SE ba all pS d)(j:l.K ⟨all,0,Ã⟩/\l.K ⟨all,1,Ã⟩)(q:o6 all l.w)(r:∀m o,ju fB l m->SE ba all pS o->a m (Fw o qX)):fF À Ñ (sL À Ñ i all a .jG) l (Dl t<|IN d::qX):=by
 obtain⟨G,H,I,J,L,M,N,P,Q,S,T,V,W,X,Y,A6,A7,A8,A9,zg,zh,xH,xI,xK,zi,s,u,sP,sQ,tK,tL,tM,rfl⟩:=Ml t f.r;obtain rfl:s=Æ Í n:=fN f.C;obtain rfl:u=Æ Í n:=fN f.I;have hF:True:=trivial;apply gY e.r;simp only[Dl,IN,L3];conv in Mj=>whnf
 iterate 8 w_go fW
 obtain⟨z0,z1,z2,z3,z4,z5,z6,z7,v,z9,ZV,x,y,z13,z14,z15,z16,z17,z18,z19,z20,z21,z22,z23,z24,z25,z26,z27,z28,z29,z30,z31,z32,z33,z34,z35,z36,z37,z38,z39,z40,z41,z42,z43,z44,z45,z46,z47,z48,rfl⟩:=IB d c.r;obtain rfl:v=Â (Á ⟨ba,0,Ã⟩):=fN c.I;obtain rfl:x=Â (Á ⟨pS,0,Ã⟩):=fN c.C;obtain rfl:y=Â (Á ⟨all,0,Ã⟩):=fN c.Sk;u_leave0 Ε fW hF;simp only[L4];iterate 3 w_go fW
 u_call sR.f_wait (nm_wait Lk) waitFn fW hF
 apply gZ;refine YR sR p (⟨Ç j.1,Ç j.2,λw z b B C D F h=>h.fA ⟨b,B,C,D,F⟩⟩) ⟨e.r,q,gd.gy _ _⟩ g λz B=> ?_;walk_nrm;refine .fS λC b=> ?_;have h:=(ju.gy (E:=fB) e.r).N (λ_ k=>k.elim)<|B.2.2.fA ⟨b.r,b.I,b.N,b.Y,b.S⟩;exact r {l with d:=0,w:=C} _ ⟨h.O,h.h,h.S,h.I,h.c,h.K,h.q,g.symm,h.fM,h.f,h.r,h.e,h.b,h.Y,h.g⟩ ⟨U,U,U,U⟩
end
def xO(a:Nat)(b c:É)(_:Unit):Nat->É|0=>b|1|2=>Â<|Á ⟨a,0,Ã⟩|3=>Â<|Á ⟨a,2,Ã⟩|4=>c|5=>b|_=>c
def Mm(a:fx)(_:Array Bool)(_:Unit)(l:fx):Prop:=iz fB a l
section
variable{J:Jd}{g:fx}{h:Option Û}
def aks(K:¬g.q)(N:q.size=49)(P:q[8]?=Á (Â<|Á ⟨m,0,Ã⟩))(Q:q[11]?=Á (Â<|Á ⟨j9,0,Ã⟩))(E:g.M m)(F:jO g ⟨j9,2,Ã⟩)(S:g.w.cell? ⟨m,0,Ã⟩=Á (È O b n))(T:g.w.cell? ⟨j9,2,Ã⟩=Á (È h j6 j7))(md:ù)(listed:Array Bool)(y:ŋ)(l:fx)(i:Nat)(jJ:List Nat)(V:II zk q (xO j9 (È O b n)<|È h j6 j7) (Mm g) listed y l)(k:i∈Ô md zk listed): fF À Ñ (λc d=>∃a,d=G ((base 20).at a<|Ö zk jJ::L) qX/\II zk q (xO j9 (È O b n)<|È h j6 j7) (Mm g) (listed.setIfInBounds i Ñ) a c) l (G ((base 20).at y<|Ö zk (i::jJ)::L) qX):=by
 let⟨x,j,p⟩:=V;have s:tO zk q.size=Ñ:=by rw[N];decide
 have H:=AZ k;have t:=p.fM;have u:¬l.q:=by rwa[show l.q=g.q from p.q]
 have W:=(j.gA A).trans P;have X:=(j.gA A).trans Q;have B:jO l ⟨m,0,Ã⟩:=Ç<|p.M E;have D:jO l ⟨j9,2,Ã⟩:=F.imp (λa=>p.M a) λa=>by rwa[p.C]
 have I:=(iE<|p.r m E id).trans S;have J:l.w.cell? ⟨j9,2,Ã⟩=Á (È h j6 j7):=by refine ŀ ?_ T;obtain a|a:=F;exact iE<|p.r _ a id;exact p.f _ a
 have v:∀{c:Nat},∀d,gd l l.w d->Mm g (listed.setIfInBounds c Ñ) () {l with w:=d}:=λd r=>p.G r;have Y:zk.size=7:=A;rw[Y]at H;match i,H with
 |0,_=>
  refine C8 (o:=Ir) s j U U k ji t u (λd r=> ?_) (λd r e f=> ?_) v;have z:=(B.r r).trans I;simp only[xO,Ir];go_simp;have z:=(B.r r).trans I;simp[go_sem,Ir,W,z]at f;subst f;exact B.rd|4,_=>
  have h47:y.tmps[47]?=Á (Â<|Á ⟨j9,2,Ã⟩):=j.r 3 Iu 47 U (zd k U U) U;refine C8 (o:=Iv) s j U U k ji t u (λd r=> ?_) (λd r e f=> ?_) v;have z:=(D.r r).trans J;simp only[xO,Iv];go_simp;have z:=(D.r r).trans J;simp[go_sem,Iv,h47,z]at f;subst f;exact D.rd|1,_=>
  refine C8 (o:=Is) s j U U k ji t u (λd r=> ?_) (λd r e f=> ?_) v;simp only[xO,Is];go_simp;simp[go_sem,Is,X]at f|2,_=>
  have z:y.tmps[45]?=Á (Â<|Á ⟨j9,0,Ã⟩):=j.r 1 Is 45 U (zd k U U) U;refine C8 (o:=It) s j U U k ji t u (λd r=> ?_) (λd r e f=> ?_) v;simp only[xO,It];go_simp;simp[go_sem,It,z]at f|3,_=>
  have z:y.tmps[46]?=Á (Â<|Á ⟨j9,0,Ã⟩):=j.r 2 It 46 U (zd k U U) U;refine C8 (o:=Iu) s j U U k ji t u (λd r=> ?_) (λd r e f=> ?_) v;simp only[xO,Iu];go_simp;simp[go_sem,Iu,z]at f|5,_=>
  have z:y.tmps[44]?=Á (È O b n):=j.r 0 Ir 44 U (zd k U U) U;refine C8 (o:=Iw) s j U U k ji t u (λd r=> ?_) (λd r e f=> ?_) v;simp only[xO,Iw];go_simp;simp[go_sem,Iw,z]at f|6,_=>
  have z:y.tmps[48]?=Á (È h j6 j7):=j.r 4 Iv 48 U (zd k U U) U;refine C8 (o:=Ix) s j U U k ji t u (λd r=> ?_) (λd r e f=> ?_) v;simp only[xO,Ix];go_simp;simp[go_sem,Ix,z]at f
def akt(c:gT g)(t:¬g.q)(e:SE m j j9 d)(B:g.M m)(C:jO g ⟨j9,2,Ã⟩)(D:g.w.cell? ⟨m,0,Ã⟩=Á (È O b n))(E:g.w.cell? ⟨j9,2,Ã⟩=Á (È h j6 j7))(F:∀u,iz fB g u->fF À Ñ J u (G (f.at (y.put ((Q[i]?).bind (·.dst))<|Ý #[È O b n,È h j6 j7])<|Ö Q jJ::L) qX)): fF À Ñ J g (Fw d<|f.at y (Ö Q (i::jJ)::L)::qX):=by
 have hF:=trivial;apply gY c.r;simp only[Fw,L5];iterate 2 w_go fW
 apply gZ;refine RY (II zk d (xO j9 (È O b n)<|È h j6 j7)<|Mm g) c.r t (λl a=>⟨(),lD.M _ _ _,(iz.gy c.r).G ⟨a.r,a.I,a.N,a.Y,a.S⟩⟩) (λk o y l i jJ p a=>aks t e.r e.I e.C B C D E k o y l i jJ p a) λk o H I p r s=> ?_;let⟨x,l,K⟩:=p;have v:∀i∈Þ 7,o.getD i Ò=Ñ:=by cases k;exact C7 s r (Þ 7) [] gq (λi a=>by cases a);exact λi a=>C7 s r [0,5,1,2,3,4,6] [] gq (λi a=>by cases a) i (by have:=dZ.1 a;revert i;decide);exact C7 s r (Þ 7) [] gq λi a=>by cases a
 let⟨a,N⟩:=H;obtain rfl:N=[]:=l.I;have P:a[6]?=Á (È O b n):=l.r 5 Iw 6 U (v 5 A) U;have S:a[7]?=Á (È h j6 j7):=l.r 6 Ix 7 U (v 6 A) U;have X:=l.S.trans e.r;have z:=K;have T:=z.N c;have V:a.getD 6 Å=È O b n:=by simp[fq,P]
 have W:a.getD 7 Å=È h j6 j7:=by simp[fq,S]
 apply gY T.r;iterate 2 w_go fW
 u_in fW hF
 refine goes_leave2 U U Tryz.func20 U ⟨by u_nil,?_⟩;rw[V,W];refine Goes.stop λ_ _=>F I z
end
structure SD where
 L:Nat
 f:Nat
 n:Nat
 m:Nat
 q:Nat
 N:Nat
 I:Nat
 C:Nat->Nat
 M:Nat
 S:Nat
 p:Nat
 t:Option Û
 s:Nat
 k:Option Û
 j:Nat
 l:Nat->Option Û
 a:Nat->Nat
 h:Nat->Option Û
 c:Nat->Nat
 b:Nat->Nat
 e:List ò
 RB:Nat->Prop
 RC:Î->Prop
 o:Î->Prop
 γ:Type
 v:γ
 u:Nat->Prop
 g:Nat->γ->γ->Prop
 RD:γ->É->(Nat->Prop)->Î->Prop
 d:Nat->ByteArray
 i:Nat->ByteArray
def SD.Y(D:SD):Fx:=⟨D.L,D.m,D.I,D.C⟩
def SD.aku(D:SD)(i:Nat):É:=ê #[Â<|D.h i,Æ Í<|D.c i,Â<|Á ⟨D.C<|D.b i,0,Ã⟩,Â Ã]
structure nj(D:SD)(S:Nat->Prop)(l:fx):Prop where
 C:∀b,D.Y.M b->l.K ⟨b,0,Ã⟩/\l.K ⟨b,1,Ã⟩
 I:∀b,D.Y.M b->o6 b l.w
 Y:S D.S
 c:l.w.cell? ⟨D.S,0,Ã⟩=Á (È (Á ⟨D.M,0,Ã⟩) D.N D.N)
 e:S D.p
 f:l.w.cell? ⟨D.p,0,Ã⟩=Á (È D.t D.m D.s)
 g:∀k,k<D.m->∃b,D.t=Á ⟨b,0,Ã⟩/\S b/\l.w.cell? ⟨b,k*4,Ã⟩=Á (Â<|D.l<|k+1)/\l.w.cell? ⟨b,k*4+1,Ã⟩=Á (Æ Í<|D.a<|k+1)/\l.w.cell? ⟨b,k*4+2,Ã⟩=Á (Â<|Á ⟨D.C k,0,Ã⟩)/\l.w.cell? ⟨b,k*4+3,Ã⟩=Á (Â<|Á ⟨D.C<|k+1,0,Ã⟩)
 h:∀i,i<D.q->∃b,D.k=Á ⟨b,0,Ã⟩/\S b/\l.w.cell? ⟨b,i*4,Ã⟩=Á (Â<|D.h i)/\l.w.cell? ⟨b,i*4+1,Ã⟩=Á (Æ Í<|D.c i)/\l.w.cell? ⟨b,i*4+2,Ã⟩=Á (Â<|Á ⟨D.C<|D.b i,0,Ã⟩)/\l.w.cell? ⟨b,i*4+3,Ã⟩=Á (Â Ã)
 r:∀a,l.r a->(l.w.cell? a).isSome=Ñ/\l.w.frozen? a=Ò
 M:∀b,D.RB b->S b
 d:D.RC l.w
structure SD.Ok(D:SD):Prop where
 r:∀w w',D.RC w->(∀b,D.RB b->w'.heap[b]?=w.heap[b]?)->D.RC w'
 ioS:∀w w',D.o w->(w'.os=w.os/\w'.output=w.output)->D.o w'
 zm:∀s sl V w w',D.RD s sl V w->(∀b,V b->w'.heap[b]?=w.heap[b]?)->D.RD s sl V w'
 C:1<=D.n
 L1:1<=D.L
 gL:D.n+D.q+D.m<1000
 N1:D.N<1000
 M:∀i,D.b i<=D.m
 Y:∀i,i<D.q->D.c i<D.N
 S:∀k,1<=k->k<=D.m->D.a k<D.N
 akv:∀k,k<=D.m->D.C k≠D.I
 akw:∀k k',k<=D.m->k'<=D.m->D.C k=D.C k'->k=k'
 I:¬D.Y.M D.M
 pq:∀i i',i<D.q->i'<D.q->D.c i=D.c i'->i=i'
 pi:∀k k',1<=k->k<=D.m->1<=k'->k'<=D.m->D.a k=D.a k'->k=k'
 PN:∀i k,i<D.q->1<=k->k<=D.m->D.c i≠D.a k
 gA:∀b,D.Y.M b\/b=D.M->D.f<=b
section
variable{D:SD}{S:Nat->Prop}{l f:fx}
def nj.fG(h:nj D S l)(ok:D.Ok)(e:∀b,S b->X b)(c:∀b,S b->f.w.heap[b]?=l.w.heap[b]?)(q:f.K=l.K)(p:∀a,l.K a->(l.w.cell? a).isSome=Ñ->(f.w.cell? a).isSome=Ñ)(r:∀a,f.r a->(f.w.cell? a).isSome=Ñ/\f.w.frozen? a=Ò):nj D X f where
 C b hg:=by rw[q];exact h.C b hg
 I b hg:=⟨p _ (h.C b hg).1 (h.I b hg).1,p _ (h.C b hg).2 (h.I b hg).2⟩;Y:=e _ h.Y;c:=(iE<|c _ h.Y).trans h.c;e:=e _ h.e;f:=(iE<|c _ h.e).trans h.f;g k hk:=by let⟨b,g,d,j,m,n,o⟩:=h.g k hk;exact⟨b,g,e b d,(iE<|c b d).trans j,(iE<|c b d).trans m,(iE<|c b d).trans n,(iE<|c b d).trans o⟩
 h i hi:=by let⟨b,g,d,j,m,n,o⟩:=h.h i hi;exact⟨b,g,e b d,(iE<|c b d).trans j,(iE<|c b d).trans m,(iE<|c b d).trans n,(iE<|c b d).trans o⟩
 r:=r;M b d:=e b<|h.M b d;d:=ok.r _ _ h.d λb d=>c b<|h.M b d
def nj.H(h:nj D S l)(ok:D.Ok)(c:∀b,S b->l.M b)(r:gd l l.w u):nj D S {l with w:=u}:=h.fG ok (λ_ q=>q) (λb q=>r.I b<|c b q) U r.S λa q=>by have:=h.r a q;exact⟨by show(u.cell? a).isSome=Ñ;rw[r.N a<|Ç q];exact this.1,(r.Y a<|Ç q).trans this.2⟩
def nj.K{E:Û->Prop}(h:nj D S l)(ok:D.Ok)(g:∀b,S b->l.M b)(c:ju E l f):nj D S f:=h.fG ok (λ_ q=>q) (λb q=>c.r b<|g b q) c.K c.Y λa q=>by rw[c.I]at q;let⟨d,i⟩:=h.r a q;refine⟨?_,(c.b a<|Ç q).trans i⟩;by_cases e:E a;exact c.g a e d;rwa[c.e a (Ç q) e]
def nj.akx(h:nj D S l)(ok:D.Ok)(d:∀b,S b->l.M b/\¬X b)(c:iz X l f):nj D S f:=h.fG ok (λ_ q=>q) (λb q=>c.r b (d b q).1 (d b q).2) c.K c.e λa q=>by rw[c.Y]at q;let⟨e,g⟩:=h.r a q;exact⟨by rwa[c.f a<|Ç q],(c.g a<|Ç q).trans g⟩
def nj.N(h:nj D S l)(a:∀b,S b->X b):nj D X l:=⟨h.C,h.I,a _ h.Y,h.c,a _ h.e,h.f,λk c=>let⟨b,d,e,f⟩:=h.g k c;⟨b,d,a b e,f⟩,λk c=>let⟨b,d,e,f⟩:=h.h k c;⟨b,d,a b e,f⟩,h.r,λb q=>a b<|h.M b q,h.d⟩
end
section
variable(D:SD)
def kz(a:Nat->Nat)(j:Nat):List É:=(Þ j).map λi=>Ŀ<|Á<|a i
def Dm(k:Nat):Jd:=λl g=>l.d=0/\¬l.q/\nj D l.M l/\∃t a b c e f h i j n o,Da D.M D.N D.t D.m D.s k t/\l.M a/\l.w.cell? ⟨a,0,Ã⟩=Á (Â<|Á ⟨D.I,0,Ã⟩)/\g=A2 t [Sd h i j n o,Bb a b c e f,pN À]
def ZW(c i:Nat):Jd:=λl g=>l.d=0/\¬l.q/\nj D l.M l/\∃t a b e f h j k m n o p,QT D.M D.N c t/\t[4]?=Á (Â<|Á ⟨a,0,Ã⟩)/\l.O a/\l.w.cell? ⟨a,0,Ã⟩=Á (Â<|D.h i)/\l.w.cell? ⟨a,1,Ã⟩=Á (Æ Í<|D.c i)/\l.w.cell? ⟨a,2,Ã⟩=Á (Â<|Á ⟨D.C<|D.b i,0,Ã⟩)/\l.M b/\l.w.cell? ⟨b,0,Ã⟩=Á (Â<|Á ⟨D.I,0,Ã⟩)/\g=LX t [Ip k m n o p,Bb b e f h j,pN À]
def aky:Jd:=λl g=>nj D l.M l/\∃t a b c,IA D.S D.I (D.C D.m) D.n (È D.k D.q D.j) t/\iO l a (Ï #[Â<|Á ⟨D.I,0,Ã⟩] 155)/\iO l b (Ï #[.func (.func 31) #[] #[Â<|Á ⟨D.p,0,Ã⟩,Â<|Á ⟨D.S,0,Ã⟩]] 1)/\g=Dh (Â<|Á ⟨D.I,0,Ã⟩) c (Â<|Á ⟨D.I,0,Ã⟩) (Ý #[]) a b (Fj t::D.e)
def akz(j:Nat)(a:Nat->Nat):Jd:=λl g=>nj D l.I l/\∃t e c b d f,ST D.S D.I (D.C D.m) D.n (j-1) (È D.k D.q D.j) e t/\Zr D.S D.I D.q e (kz a j) (a<|j-1) c b d l/\a (j-1)<c/\c<b/\b<d/\(∀k,e.ownBlock=Á k->k≠a (j-1)/\k≠c/\k≠b/\k≠d)/\D.f<=a (j-1)/\g=Dh (Â<|Á ⟨D.I,0,Ã⟩) f (Â<|Á ⟨D.I,0,Ã⟩) (Ý #[]) b d (L9 t::D.e)
def Mn(j:Nat)(a:Nat->Nat):Jd:=λl g=>l.d=0/\¬l.q/\D.f<=l.w.heap.size/\((j=0/\aky D l g)\/(1<=j/\akz D j a l g))
def ZX:Jd:=λl g=>l.d=0/\¬l.q/\nj D l.I l/\∃a,SE D.S D.I (D.C D.m) a/\g=Fw a D.e
def SD.r(P:ċ):Ph where
 toFx:=D.Y
 P:=P
 S:=D.f
 n:=D.n
 q:=D.q
 Y:=D.M
 f:=D.N
 r:=D.b
 a:=D.c
 b:=D.a
 c:=D.aku
 z:=zT
 B:=60
 γ:=D.γ
 l:=D.v
 i:=D.u
 p:=D.g
 d:=λk s V w=>(∃a,w.cell? ⟨D.C k,2,Ã⟩=Á a/\D.RD s a V w)/\(k=0->w.cell? ⟨D.M,D.N,Ã⟩=Ã/\mo w D.M=Á (0,0)/\D.o w)
 o:=D.d
 k:=D.i
 g:=Mn D
 h:=Dm D
 e:=ZW D
 j:=λ_=>ZX D
end
def Fy(D:SD):Prop:=∀k s e V l,k<D.m->oW (D.r À) k s->D.RD s e V l.w->(∀b,V b->l.M b)->gT l->¬l.q->(∀b,D.RB b->l.M b)->D.RC l.w->∀f g,fF À Ò (λa j=>a.d=l.d/\∃p n c,j=G (f.finish<|Ý #[È p n c,Ø<|D.d<|k+1]) g/\∃h i,D.g k s h/\D.RD h (È p n c) i a.w/\∀b,i b->a.M b) (nR l)<|G (ŏ À 50 #[e,Â<|D.l<|k+1] .normal)<|f::g
def Fz(D:SD):Prop:=∀i s a V l,i<D.q->oW (D.r À) (D.b i) s->D.RD s a V l.w->(∀b,V b->l.M b)->gT l->¬l.q->(∀b,D.RB b->l.M b)->D.RC l.w->∀b c,fF À Ò (λe f=>e.d=l.d/\f=G (b.finish<|Ø<|D.i i) c) (nR l)<|G (ŏ À 51 #[a,Â<|D.h i] .normal)<|b::c
section
variable{D:SD}
def IP(k:Nat)(a:k<=D.m):D.Y.M (D.C k):=Ê ⟨k,a,U⟩
def Bh:D.Y.M D.I:=Ç U
def akA(ok:D.Ok):(D.r À).Ok:=⟨ok.C,ok.L1,ok.gL,λi _=>ok.M i,ok.akv,ok.akw,ok.I,ok.pq,ok.pi,ok.PN,ok.gA,⟨λk a b e=>by have c:D.a k=D.N:=e;have:=ok.S k a b;omega,λi d e=>by have c:D.c i=D.N:=e;have:=ok.Y i d;omega⟩⟩
theorem akB(ok:D.Ok)(CK:Fy D):∀k s V l g,k<D.m->Dm D k l g->gT l->oW (D.r À) k s->(D.r À).d k s V l.w->(∀b,V b->l.I b)->l.N (jS D.Y k)->l.r (jS D.Y<|k+1)->l.r (j4 (D.r À)<|D.a<|k+1)->∀B:Nat->D.γ,B k=s->fF À Ò (JI (D.r À) B<|.mk (k+1)) l g:=by
 intro k s V l g o hJ tP SG CN hV SH C E B hsg;obtain⟨hd,F,f,t,G,v1,v2,v3,v4,u0,u1,u2,u3,u4,hT,IE,cbw,rfl⟩:=hJ;let⟨⟨sl,Mp,sd⟩,_⟩:=CN;let⟨b,A3,hbM,i0,i1,i2,i3⟩:=f.g k o;have vN:=ok.gL;have mP:(⟨D.C<|k+1,2,Ã⟩:Û)≠⟨D.M,D.a<|k+1,Ã⟩:=λe=>ok.I (by injection e with H _ _;rw[<-H];exact IP (k+1) o);have Cx:Da D.M D.N (Á ⟨b,0,Ã⟩) D.m D.s k t:=by rwa[<-A3]
 have⟨oc1,oz1⟩:=f.r _ C;have⟨oc2,oz2⟩:=f.r _ E;have xL:∀a:Û,(a=⟨D.C<|k+1,2,Ã⟩\/a=⟨D.M,D.a<|k+1,Ã⟩)->l.r a:=λa p=>by obtain rfl|rfl:=p;exact C;exact E
 have r:=f.C _<|IP (k+1) o;have ZY:=f.I _<|IP (k+1) o;refine fF.fG (Stop:=λl g=>(∃i n,D.g k s i/\(D.r À).d (k+1) i n l.w/\(∀b,n b->l.M b)/\l.w.cell? ⟨D.M,D.a<|k+1,Ã⟩=Á (Ø<|D.d<|k+1))/\Ay À Ò (D.C<|k+1) (fF À Ò<|Dm D<|k+1) (rV (D.r À) l<|k+1) g) (λl g h=> ?_) ?_;let⟨⟨i,n,I,J,L,O⟩,P⟩:=h;exact⟨i,n,by subst hsg;exact I,J,L,O,P⟩;refine ajt (Q:=λv x y=>x=D.d (k+1)/\∃i n,D.g k s i/\D.RD i v n y.w/\∀b,n b->y.M b) (τ:=λl=>rV (D.r À) l<|k+1) tP F hd Cx o Z (by have:=ok.N1;omega) (ok.S (k+1) Z o) hbM i0 i1 i2 i3 SH Mp C E oc1 oc2 oz1 oz2 mP (λc v j u=> ?_) λc x v hQ h18 ZZ=> ?_;refine(CK k s sl V c o SG (ok.zm _ _ _ _ _ sd λb x=>v.r b<|Ê<|hV b x) (λb x=>v.M<|Ê<|hV b x) (v.H tP) (by rwa[v.q]) (λb x=>v.M<|f.M b x) (ok.r _ _ f.d λb x=>v.r b<|f.M b x) j u).fG ?_;grind;let⟨y,⟨hstr,i,n,wC,akC,Z0⟩,hy⟩:=hQ;rw[hstr]at ZZ;have Z1:o6 (D.C<|k+1) c.w:=⟨v.Y _ r.1 ZY.1,v.Y _ r.2 ZY.2⟩;refine⟨⟨Ç (by rw[v.K];exact r.1),Ç (by rw[v.K];exact r.2),λ_ _ _ _ _ _ _ _=>trivial⟩,⟨v.fM,Z1,trivial⟩,⟨i,n,wC,⟨⟨_,h18,ok.zm _ _ _ _ _ akC λb x=>(hy b<|Z0 b x).2⟩,λe=>by omega⟩,λb x=>(hy b<|Z0 b x).1,ZZ⟩,v.d.trans hd,λw=>gd (rV (D.r À) c<|k+1) c.w w,⟨Ç (by show c.K _;rw[v.K];exact r.1),Ç (by show c.K _;rw[v.K];exact r.2),λw w₁ I J L O P h=>h.fA ⟨I,J,L,O,P⟩⟩,⟨λj h=>h.elim,Z1,gd.gy _ _⟩,λG4 t' akD XZ=> ?_⟩;refine .fS λS u=> ?_;have z:=akD.2.2.fA ⟨u.r,u.I,u.N,u.Y,u.S⟩;have x:=λb x=>(z.I b<|Ê<|v.M x).trans<|v.r b x;have Z2:∀b,l.M b->({rV (D.r À) c (k+1)with d:=0,w:=S}:fx).M b:=λb x=>Ê<|v.M x;refine⟨U,by show¬c.q;rwa[v.q],f.fG ok Z2 x (by show c.K=l.K;exact v.K) (λa p h=>z.S a (by show c.K a;rwa[v.K])<|v.Y a p h) λa p=> ?_,t',G,v1,v2,v3,v4,u0,u1,u2,u3,u4,by rwa[A3],Z2 G IE,(iE<|x G IE).trans cbw,U⟩;obtain⟨T,W,X⟩:c.r a/\a≠⟨D.M,D.a<|k+1,Ã⟩/\a≠⟨D.C<|k+1,2,Ã⟩:=p;have Y:l.r a:=by rwa[<-v.I]
 let⟨H,e2⟩:=f.r a Y;refine⟨?_,?_⟩;show(S.cell? a).isSome=Ñ;rwa[z.N a<|Ç ⟨T,W,X⟩,v.e a (Ç Y) λq=>q.elim X W];show S.frozen? a=Ò;rwa[z.Y a<|Ç ⟨T,W,X⟩,v.b a<|Ç Y]
def akE:∀l g,Dm D D.m l g->gT l->fF À Ò (Cs<|D.r À) l g:=by intro l g c d;obtain⟨e,f,b,t,k,n,o,p,q,r,s,u,v,w,h,i,j,rfl⟩:=c;have a:=b.C _<|Bh;exact ajB (Ψ:=λ_=>True) h a ⟨Ç a.1,Ç a.2,λ_ _ _ _ _ _ _ _=>trivial⟩ ⟨d.r,b.I _ Bh,trivial⟩ e f (Ç i) j
def Z3(ok:D.Ok){r:Nat}{l:fx}{t:Array É}{g h m o p:É}(B:gT l)(s:¬l.q)(C:l.d=0)(a:nj D l.M l)(E:QT D.M D.N i t)(f:l.M k)(u:l.w.cell? ⟨k,0,Ã⟩=Á (Â<|Á ⟨D.I,0,Ã⟩)): EJ (D.r À) i j r l (Bd t [Ip g h m o p,Bb k v x z jQ,pN À]):=by have y:=ok.M<|j+r*D.n;refine ajF B s C E (eE _) U (a.C _<|IP _ y) (a.I _<|IP _ y) (a.C _ Bh) (a.I _ Bh) (Ç f) u λQ F G e H I J K L O P=>(⟨H,by rwa[e.q],(a.K ok (λ_ q=>q) e).N λb q=>e.M q,G,F,k,v,x,z,jQ,g,h,m,o,p,O,P,I,J,K,L,e.M f,(iE<|e.r k f).trans u,U⟩)
theorem akF(ok:D.Ok)(W:Fz D):∀c j r s V l g,j+r*D.n<D.q->ZW D c (j+r*D.n) l g->∀f:fx,gT f->f.O=l.O->(∀b,l.I b\/V b->f.I b)->f.w=l.w->f.d=l.d->f.q=l.q->f.r=l.r->f.K=l.K->oW (D.r À) (D.b<|j+r*D.n) s->(D.r À).d (D.b<|j+r*D.n) s V l.w->f.N (jS D.Y<|D.b<|j+r*D.n)->f.r (j4 (D.r À)<|D.c<|j+r*D.n)->fF À Ò (JW (D.r À) c j<|.qx r) f g:=by
 intro c j r s V l g E X f v F y o Y xG Ls hK SG CN SH p;obtain⟨hd,hq,G,t,tb,u,v1,v2,v3,v4,u0,u1,u2,u3,u4,hT,h4,hOt,H,I,J,L,N,rfl⟩:=X;let⟨⟨sl,P,S⟩,_⟩:=CN;have B:∀b,l.M b->f.M b:=λb q=>q.elim (λz=>Ç<|by rwa[F]) λz=>Ê<|y b<|Ç z;have m:=G.fG ok B (λb _=>by rw[o]) hK (λa _ h=>by rwa[o]) λa q=>by rw[o];exact G.r a<|by rwa[<-Ls]
 have C:¬f.q:=by rwa[xG]
 rw[<-o]at H I J N P S;let⟨e2,z2⟩:=m.r _ p;refine ajH (Q:=λx=>x=D.i (j+r*D.n)) v C hT h4 (by rwa[F]) H I J SH P p e2 z2 (ok.Y _ E) (λi e k T=> ?_) λi x t' e hx hcx Cx=> ?_;refine(W _ s sl V i E SG (ok.zm _ _ _ _ _ S λb x=>e.r b<|Ê<|y b<|Ê x) (λb x=>e.M<|Ê<|y b<|Ê x) (e.H v) (by rwa[e.q]) (λb x=>e.M<|m.M b x) (ok.r _ _ m.d λb x=>e.r b<|m.M b x) k T).fG ?_;grind;have T:=(m.K ok (λ_ q=>q) e).N λb q=>e.M q;refine⟨hcx.trans (by rw[hx];rfl),?_⟩;have k:=e.H v;have akG:gT (xv (D.r À) i<|j+r*D.n):=by refine⟨k.c,λa x=> ?_,λa x=> ?_,k.fM,λa x=> ?_,λa x=> ?_⟩;rintro(q|q);exact k.Y a x.1 q;exact x.2 q;apply k.S a;obtain q|q|q:=x;exact Ç q.1;exact Ê q;rw[q];exact Ç (by rwa[e.I]);apply k.I a;obtain q|q|q:=x;exact Ç q.1;exact Ê q;rw[q];exact Ç (by rwa[e.I]);let⟨k1,k2,k3⟩:=k.N a x;exact⟨k1,k2,λq=>k3 q.1⟩
 refine Z3 ok akG (by show¬i.q;rwa[e.q]) (by show i.d=0;rwa[e.d,Y]) (T.fG ok (λ_ q=>q) (λ_ _=>U) U (λ_ _ h=>h) λa q=>T.r a q.1) Cx (by show i.M u;exact e.M<|B u L)<|(iE<|e.r u<|B u L).trans N
end
section
variable{D:SD}{dk:Nat->Nat}{dv:É}{l f:fx}
structure MF(D:SD)(dk:Nat->Nat)(dv:É)(l:fx):Prop where
 C:gT l
 q:¬l.q
 d:l.d=0
 r:nj D l.I l
 I:∃db c,dv=È (Á ⟨db,0,Ã⟩) D.n c/\l.O db/\∀i,i<D.n->l.w.cell? ⟨db,i,Ã⟩=Á (Ŀ<|Á<|dk i)
def MF.M(h:MF D dk dv l)(ok:D.Ok)(a:ju fB l f):MF D dk dv f where
 C:=a.H h.C;q:=by rw[a.q];exact h.q
 d:=a.d.trans h.d;r:=(h.r.K ok (λ_ q=>Ê q) a).N λb q=>by rwa[a.S]
 I:=by let⟨e,c,j,g,k⟩:=h.I;exact⟨e,c,j,a.O e g,λi m=>(iE<|a.r e<|Ç g).trans<|k i m⟩
def akH(ok:D.Ok):∀r,r<=D.n->∀l t b,MF D dk dv l->ET dv D.n (D.n-r) t->SE D.S D.I (D.C D.m) b->fF À Ñ (Ct (D.r À) dk r) l (Dl t<|IN b::D.e):=by
 intro r
 induction r with
 |zero=>
  intro _ l t b a e g;rw[Ł]at e;refine akr a.C a.d (eE _) e g (a.r.C _ Bh) (a.r.I _ Bh) λf i h j=> ?_;have c:=a.M ok h;exact⟨c.d,c.q,c.r,i,j,U⟩|succ r j=>
  intro s l t b a e g;obtain⟨u,c,rfl,k,o⟩:=a.I;have v:=ok.gL;refine akq a.C a.q e Z Z k (o (D.n-(r+1)) Z) λf p h i=> ?_;refine j Z f p b (a.M ok h) ?_ g;rwa[show D.n-(r+1)+1=D.n-r by omega]at i
def akI(ok:D.Ok):∀r,r<=D.q->∀l t d,MF D dk dv l->DT dv D.k D.q D.j (D.q-r) t->SE D.S D.I (D.C D.m) d->fF À Ñ (Hh (D.r À) dk r) l (Dk t<|IN d::D.e):=by
 intro r
 induction r with
 |zero=>
  intro _ l t d a e h;rw[Ł]at e;obtain⟨j,c,rfl,k,o⟩:=a.I;refine akp a.C.r e λi g=>akH ok D.n (eE _) l i d a ?_ h;rwa[Ų]|succ r s=>
  intro C l t d a e h;obtain⟨j,c,rfl,k,o⟩:=a.I;have E:=ok.gL;have F:=ok.C;let⟨b,p,u,v,w,x,y⟩:=a.r.h (D.q-(r+1)) Z;have z:DT (È (Á ⟨j,0,Ã⟩) D.n c) (Á ⟨b,0,Ã⟩) D.q D.j (D.q-(r+1)) t:=by rwa[<-p]
  refine akl a.C a.q z Z Z Z Z k (o _<|Đ _ Z) (Ê u) v w x y λf i B g=> ?_;refine s Z f i d (a.M ok B) ?_ h;rwa[show D.q-(r+1)+1=D.q-r by omega,<-p]at g
theorem akJ(dk:Nat->Nat)(j a:Nat):kz (fP dk j a) (j+1)=kz dk j++[Ŀ<|Á a]:=by unfold kz;grind [ð,İ,gi,ig]
def akK(dk:Nat->Nat)(j:Nat):(kz dk j).length=j:=by simp[kz]
def akL(dk:Nat->Nat)(j i:Nat)(h:i<j):(kz dk j)[i]?=Á (Ŀ<|Á<|dk i):=by simp[kz,h]
theorem Z4(ok:D.Ok){t:Array É}(K:j<=D.n)(a:gT l)(o:¬l.q)(p:l.d=0)(h:nj D l.I l)(x:D.f<=l.w.heap.size)(v:ST D.S D.I (D.C D.m) D.n j (È D.k D.q D.j) dv t)(r:l.w.ownsRow 0 92 1 dv j (kz dk j))(s:∀k,dv.ownBlock=Á k->l.O k): fF À Ñ (JM (D.r À) dk<|if j<D.n then .jl (j+1)else .jr D.q) l (Dg t D.e):=by
 have L:=ok.gL;by_cases u:j<D.n
 .rw[if_pos u];show fF À Ñ (PL (D.r À) (j+1) dk) l _;rw[ai5];refine ajS a o p v u Z Z (h.C _ Bh) (h.I _ Bh) r s λf i y z B C E F c G H M N I J P=> ?_;refine⟨y,c.d.trans p,by rwa[c.q],Ó x c.I,Ê ⟨Z,(h.akx ok (λb g=>⟨Ê g,λe=>a.c b (s b e.symm) g⟩) c).N λb q=>(by rwa[c.S]),i,E,z,B,C,F,?_,?_,?_,I,J,?_,?_,U⟩⟩;rwa[î];rwa[î,akJ,ig];grind [î,ig];grind [î,ig];grind [î,ig,Ó]
 .have e:j=D.n:=Z;subst e;rw[if_neg u];have y:∃b c,dv=È (Á ⟨b,0,Ã⟩) D.n c/\l.O b/\∀i,i<D.n->l.w.cell? ⟨b,i,Ã⟩=Á (Ŀ<|Á<|dk i):=by obtain⟨_,C⟩|⟨g,z,E,rfl,_⟩:=r.2;have:=ok.C;omega;refine⟨g,z,U,s g U,λi B=> ?_⟩;have:=r.cells U i _<|akL dk D.n i B;grind [ł]
  refine ako a.r v λg z B C=>(akI ok D.q (eE _) l g z ⟨a,o,p,h,y⟩ (by rwa[Ų]) C)
def akM(ok:D.Ok)(h:Dm D k l g)(r:gd l l.w u):Dm D k {l with w:=u} g:=by obtain⟨c,d,e,t,a,f,i,j,m,n,o,p,s,v,x,b,y,rfl⟩:=h;exact⟨c,d,e.H ok (λ_ q=>q) r,t,a,f,i,j,m,n,o,p,s,v,x,b,(iE<|r.I a b).trans y,U⟩
def iO.N{o:Obj}(h:iO l b o)(r:gd l l.w u):iO {l with w:=u} b o:=⟨h.fE,(r.I b<|Ç h.fE).trans h.r⟩
def Hi(ok:D.Ok)(h:Mn D j dk l g)(r:gd l l.w u):Mn D j dk {l with w:=u} g:=by let⟨m,n,o,h⟩:=h;refine⟨m,n,Ó o r.r,?_⟩;obtain⟨p,b,t,c,d,f,i,s,v,rfl⟩|⟨x,b,t,dv,y,c,d,f,i,a,z,B,C,E,F,rfl⟩:=h;exact Ç ⟨p,b.H ok (λ_ q=>q) r,t,c,d,f,i,s.N r,v.N r,U⟩;exact Ê ⟨x,b.H ok (λ_ q=>Ê q) r,t,dv,y,c,d,f,i,⟨wA a.S λk e=>r.I k<|Ç<|a.M k e,a.M,a.r.N r,a.C.N r,a.N.N r,a.I.N r⟩,z,B,C,E,F,U⟩
theorem akN(ok:D.Ok):∀j dk l g,j<=D.n->Mn D j dk l g->gT l->l.d=0/\∃(G H:Ú)(X:Nat->Prop),G.status=ĉ/\H.status=ĉ/\(∀u,stepG À Ñ g u=.spawn G H u #[])/\(∀b,X b->l.O b)/\ (1<=j->l.O (dk<|j-1)/\¬X (dk<|j-1)/\l.w.heap[dk<|j-1]?=Á (.chan D.q #[] Ò 0 0 Ò)/\D.f<=dk (j-1))/\ (∀f:fx,gT f->(∀b,X b\/l.I b->f.I b)->f.w=l.w->f.d=0->¬f.q->(∀b,¬f.O b)->f.K=l.K->f.N=l.N->(∀a,f.r a->l.r a)->fF À Ò (if j=0 then Dm D 0 else EJ (D.r À) (dk<|j-1) (j-1) 0) f H)/\ (∀f:fx,gT f->f.O=(λb=>l.O b/\¬X b/\(1<=j->b≠dk (j-1)))->(∀b,X b\/l.I b->f.I b)->f.w=l.w->f.d=0->f.q=l.q->f.K=l.K->f.N=l.N->(∀a,f.r a->l.r a)->fF À Ñ (JM (D.r À) dk<|if j<D.n then .jl (j+1)else .jr D.q) f G):=by
 intro j dk l g L h tP;let⟨hd,N,P,h⟩:=h;refine⟨hd,?_⟩;obtain⟨rfl,o,t,x,C,v1,I,Q,S,rfl⟩|⟨h1,o,t,dv,T,x,C,v1,I,c,x1,x2,x3,x4,x5,rfl⟩:=h
 .refine⟨_,_,l.O,U,U,λu=>Zp _ _ _ _ _ _ _ u,λ_ q=>q,λq=>by omega,λf i m X y p E z J B=> ?_,λf i E m X y p z J B=> ?_⟩;rw[if_pos U];have e:=λb q=>m b q;have s:nj D f.M f:=o.fG ok (λb q=>Ê<|e b q) (λb _=>by rw[X]) z (λa _ h=>by rwa[X]) λa q=>by rw[X];exact o.r a<|B a q
  refine ajA i.r p (Ç<|Ê<|e C<|Ç S.fE) (Ç s.e) (Ç s.Y) (by rw[X];exact S.I U) s.f s.c λF V W Y w4 u0 u1 u2 u3 u4 v=> .fS λu r=>akM ok ⟨y,p,s,F,x,V,W,Y,w4,u0,u1,u2,u3,u4,v,Ê<|e x<|Ç Q.fE,by rw[X];exact Q.I U,U⟩ r;refine ajQ i.r I λF v=>(Z4 ok L i (by rwa[p]) y (o.fG ok (λb q=>m b q) (λb _=>by rw[X]) z (λa _ h=>by rwa[X]) λa q=>by rw[X];exact o.r a<|B a q) (by rwa[X]) v (Ă _ _ _ _) λk e=>by cases e)
 .refine⟨_,_,λb=>b=T\/b=x\/b=C,U,U,λu=>Zp _ _ _ _ _ _ _ u,λb q=> ?_,λ_=>⟨c.r.fE,?_,c.r.r,x5⟩,λf i m X y p E z J B=> ?_,λf i E m X y p z J B=> ?_⟩;obtain rfl|rfl|rfl:=q;exact c.C.fE;exact c.N.fE;exact c.I.fE;grind;rw[if_neg Z];have s:nj D f.M f:=o.fG ok (λb q=>Ê<|m b<|Ê q) (λb _=>by rw[X]) z (λa _ h=>by rwa[X]) λa q=>by rw[X];exact o.r a<|B a q
  have Z5:f.M x:=Ê<|m x<|Ç<|Ê<|Ç U;refine ajE i.r p (Ç<|Ê<|m C<|Ç<|Ê<|Ê U) (Ç<|Ê<|m T<|Ç<|Ç U) (Ç s.Y) (by rw[X];exact c.I.I U) (by rw[X];exact c.C.I U) s.c λF V W Y w4 u0 u1 u2 u3 u4 v=> .fS λu r=>(Z3 ok (i.mF r.r) p y (s.H ok (λ_ q=>q) r) v Z5<|(iE<|r.I x Z5).trans<|by rw[X];exact c.N.I U);have s:=ok.gL;refine ajR i.r I Z λF v=> ?_;rw[show j-1+1=j by omega]at v;have r:=c.S;rw[akK]at r;refine Z4 ok L i (by rwa[p]) y (o.fG ok (λb q=>m b<|Ê q) (λb _=>by rw[X]) z (λa _ h=>by rwa[X]) λa q=>by rw[X];exact o.r a<|B a q) (by rwa[X]) v (by rwa[X]) λk e=> ?_;rw[E];let⟨a,V,W,Y⟩:=x4 k e;refine⟨c.M k e,?_,λ_=>a⟩;grind
def akO(ok:D.Ok)(b:Fy D)(d:Fz D):iL (D.r À) where
 C:=akA ok;S k s V w w' h hV hc hz hf zn:=by let⟨⟨a,f,m⟩,t⟩:=h;exact⟨⟨a,hc.trans f,ok.zm _ _ _ _ _ m hV⟩,λe=>⟨hz.trans (t e).1,hf.trans (t e).2.1,ok.ioS _ _ (t e).2.2 zn⟩⟩
 Hi j dk l g w₁ h r:=Hi ok h r;I j dk l g h:=by let⟨_,_,_,h⟩:=h;obtain⟨_,_,t,e,f,a,_,_,_,rfl⟩|⟨_,_,t,dv,m,e,f,a,_,_,_,_,_,_,_,rfl⟩:=h<;>rfl
 N k l g h:=by obtain⟨_,_,_,t,e,a,f,m,n,o,p,q,u,v,_,_,_,rfl⟩:=h;rfl
 Y c i l g h:=by obtain⟨_,_,_,t,tb,e,a,f,m,n,o,p,q,u,v,_,_,_,_,_,_,_,_,rfl⟩:=h;rfl
 M dk l g h:=by obtain⟨_,_,_,f,_,rfl⟩:=h;rfl
 go:=akN ok;e:=akB ok b;f:=akE;iA:=akF ok d
end
open Go.ConcN (sumTo sumTo_congr)
structure lT(P:ċ)(Y:Nat->Prop)(j2:ξ->Prop)(H:Nat)(J:Jd)(T:gW)(lv:Nat->Nat)(lot:Nat->fx)(gs:Array Ú)(w:Î)(t:Μ):Prop where
 C:1<=gs.size
 r:iB P 0 Y (λi=>if i=0 then J else ri P (lv i)) (λi=>if i=0 then T else .fS) (λ_=> .no) lot gs w t
 b:∀i,0<i->i<gs.size->lot i=lR (lot i)
 c:¬(lot 0).q
 I:∀p a,touchAt t p=Á a->a.loc.isMemory=Ñ->Knows t 0 p\/(j2 a.loc/\a.kind=.atomic)
 N:∀p a x,touchAt t p=Á a->a.loc=Ĳ x->t.g? p=Á 0\/x.block<H
 S:∀a:Û,H<=a.block->NoRelease a t
 M:t.HandedOver
abbrev tS(P:ċ):=lT P λ_=>False
structure sS(l l':fx)(w w':Î):Prop where
 r:w.heap.size<=w'.heap.size
 N:∀j,l'.O j->l.O j\/w.heap.size<=j
 rd:l'.I=l.I
 S:l'.r=l.r
 b:l'.N=l.N
 k:l'.K=l.K
 lB:∀j,j<w.heap.size->¬l.O j->(∀a:Û,a.block=j->¬l.r a)->w'.heap[j]?=w.heap[j]?
 M:∀a:Û,a.block<w.heap.size->¬l.O a.block->¬l.r a->w'.cell? a=w.cell? a
 Y:∀j,j<w.heap.size->¬l.O j->mo w' j=mo w j
 C:w'.os=w.os
 I:w'.output=w.output
 c:w'.tape=w.tape
theorem sS.gy(l:fx)(w:Î):sS l l w w:=⟨eE _,λ_ h=>Ç h,U,U,U,U,λ_ _ _ _=>U,λ_ _ _ _=>U,λ_ _ _=>U,U,U,U⟩
def sS.fA{l e i:fx}{w':Î}(h:sS l e w w')(k:sS e i w' u):sS l i w u:=by
 have f:∀j,j<w.heap.size->¬l.O j->¬e.O j:=λj c b q=>(h.N j q).elim b λz=>by omega
 refine⟨Ó h.r k.r,λj q=> ?_,k.rd.trans h.rd,k.S.trans h.S,k.b.trans h.b,k.k.trans h.k,λj c b d=>((k.lB j (ff c h.r) (f j c b)<|by rwa[h.S]).trans<|h.lB j c b d),λa g b d=>((k.M a (ff g h.r) (f _ g b)<|by rwa[h.S]).trans<|h.M a g b d),λj c b=>(k.Y j (ff c h.r)<|f j c b).trans<|h.Y j c b,k.C.trans h.C,k.I.trans h.I,k.c.trans h.c⟩;obtain z|z:=k.N j q;exact h.N j z;exact Ê<|Ó h.r z
def n7.akP{l a:fx}(h:n7 l a w u V):sS l a w u:=⟨h.C,h.M,h.rd,h.r,h.I,h.k,h.lB,h.S,λj b c=>h.Y ⟨j,0,Ã⟩ b c,h.c,h.f,h.i⟩
def sS.at{l l':fx}{w':Î}{d:Nat}(h:sS l l' (w.at d) w'):sS l l' w w':=⟨h.r,h.N,h.rd,h.S,h.b,h.k,h.lB,h.M,h.Y,h.C,h.I,h.c⟩
section
variable{Y:Nat->Prop}{j2:ξ->Prop}{H:Nat}{J:Jd}{T:gW}{lv:Nat->Nat}{lot:Nat->fx}{gs:Array Ú}{t:Μ}{sl:Option (Nat×Nat)}
def lT.at(c:lT P Y j2 H J T lv lot gs w t)(d:Nat):lT P Y j2 H J T lv lot gs (w.at d) t:=⟨c.C,c.r.at d,c.b,c.c,c.I,c.N,c.S,c.M⟩
def akQ{l:fx}{e:Ξ}(h:xr l e)(a:Û):å e≠.mark (.release a):=by let⟨c,wr,d⟩:=e;obtain⟨x,b,_⟩|h|⟨f,h⟩|h|h|⟨x,_,h⟩:=h;simp only at b;subst b;simp[å];simp only at h;subst h;simp[å];simp only at h;subst h;simp[å];simp only at h;subst h;simp[å];simp only at h;subst h;simp[å];simp only at h;obtain rfl|rfl|rfl|rfl:=h<;>simp[å]
theorem akR{e:Ξ}(h:e.mute=Ñ)(a:Û):å e≠.mark (.release a):=by let⟨b,wr,c⟩:=e;cases b<;>simp_all[Event.mute];rename_i m;cases m<;>simp_all[å]
theorem lT.akS{k:Î->gW}(c:lT P Y j2 H J (.kx k) lv lot gs w t)(o:∀l g,J l g->g.status=ĉ\/g.status=ū)(r:gs[0]?=Á g): ∃e b d u,runT P (ĳ gs w sl) 0=(.next<|ĳ b d sl,u)/\b.size=gs.size/\sS (lot 0) (e 0) w d/\lT P Y j2 H J (k w) lv e b d (t++u):=by
 obtain⟨b,d,G,s,v,f,I,K,j,y⟩:=c.r.fE r U λl g h=>o l g h;refine⟨gV lot 0 s,b,d,_,v,f,by rw[iI];exact j.akP,by rw[f];exact c.C,?_,λi z B=> ?_,?_,λp a h C=> ?_,λp a x h D=> ?_,λa h=>(c.S a h).app λu m=> ?_,ś c.M λu m=>Ç<|qf u m⟩;have e:fP (λi=>if i=0 then(.kx k:gW)else .fS) 0 (k w)=λi=>if i=0 then k w else .fS:=by funext i;unfold fP;grind
 rwa[<-e];rw[iq lot _ Z];exact c.b i z (by rwa[<-f]);rw[iI,j.q];exact c.c;obtain⟨_,e⟩|⟨_,u,e,E,n⟩:=oG h;exact(c.I p a e C).imp (·.app _) id;have:=knows_own n;grind [qf];obtain⟨F,e⟩|⟨_,u,e,E,n⟩:=oG h;rw[g?_old F];exact c.N p a x e D;apply Ç;unfold Trace.g?;grind [qf];obtain⟨e,n,rfl⟩:=Ċ m;exact akQ (j.b e n) a
theorem lT.Z6(c:lT P Y j2 H J T lv lot gs w t)(q:gs[i]?=Á g)(b:i≠0)(y:g.status=ĉ): ∃a e f u,runT P (ĳ gs w sl) i=(.next<|ĳ f w sl,u)/\f.size=gs.size/\sumTo gs.size a+1=sumTo gs.size lv/\e 0=lot 0/\lT P Y j2 H J T a e f w (t++u):=by
 have z:=(fp.1 q).1;obtain⟨f,r,m,M,B,o,N,C,D⟩:=c.r.Pq (n:=lv i) q b y U (by simp[b]) (by simp[b]);have E:∀u∈MemOp.ofEvents i g.frame.fn g.frame.place r,u.act.touch?=Ã:=λu h=>by obtain⟨e,s,rfl⟩:=Ċ h;exact touch_mute<|C e s
 refine⟨fP lv i m,gV lot i {lot i with d:=deafBehind (lot i).d r,w:=w},f,_,B,o,?_,iq lot _<|cR b,by rw[o];exact c.C,?_,λj v F=> ?_,?_,λp a k G=> ?_,λp a x k I=> ?_,λa k=>(c.S a k).app λu h=> ?_,ś c.M λu h=>Ê<|E u h⟩;grind [yP,gi,ig];have l:fP (λi=>if i=0 then J else ri P (lv i)) i (ri P m)=λj=>if j=0 then J else ri P (fP lv i m j):=by funext j;unfold fP;grind
 rwa[<-l];by_cases e:j=i;subst e;rw[iI];have:=c.b j v z;rw[this];rfl;rw[iq lot _ e];exact c.b j v (by rwa[<-o]);rw[iq lot _<|cR b];exact c.c;obtain⟨_,l⟩|⟨_,u,l,K,_⟩:=oG k;exact(c.I p a l G).imp (·.app _) id;grind;obtain⟨L,l⟩|⟨_,u,l,K,_⟩:=oG k;rw[g?_old L];exact c.N p a x l I;grind;obtain⟨e,s,rfl⟩:=Ċ h;grind [akR]
def lT.G(c:lT P Y j2 H J T lv lot gs w t):∀g∈gs,awake g:=by
 intro g e;obtain⟨i,f,rfl⟩:=Array.mem_iff_getElem.1 e;let⟨g0,_,b,a,_⟩:=c.r.C i _<|fj f;intro τ d;generalize gs[i]=g at b d;cases b with|gS=>obtain a|a:=a<;>rw[d]at a<;>cases a
theorem lT.K(K:∀l g,J l g->g.status=ĉ\/g.status=ū):∀(T:gW)(s:Nat)(lv:Nat->Nat)(lot:Nat->fx)(gs:Array Ú)(w:Î)(sl:Option (Nat×Nat)) (t:Μ),sumTo gs.size lv=s->lT P Y j2 H J T lv lot gs w t-> ∃N h b a f e c,Ζ P N (ĳ gs w sl) t=(.next<|ĳ a f e,c)/\a.size=gs.size/\sS (lot 0) (b 0) w f/\lT P Y j2 H J .fS h b a f c:=by
 intro T
 induction Xx.apply T with
 |intro T _ L=>
  intro s
  induction s using Nat.strongRecOn with
  |_ s M=>
   intro lv lot gs w sl t V c;cases C:T with
   |fS=>
    subst C;exact⟨0,lv,lot,gs,w,sl,t,U,U,sS.gy _ _,c⟩|kx k=>
    subst C;have W:=c.C;obtain⟨g0,D⟩:∃g,gs[0]?=Á g:=⟨_,fj Z⟩;have O:g0.status=ĉ:=by let⟨S,d,i,_,_⟩:=c.r.C 0 g0 D;grind [agY]
    let⟨i,g,d,e,E,Q,F⟩:=crowd_pick (P:=P) (w:=w) (sl:=sl) c.G ⟨0,g0,D,O⟩;by_cases G:i=0;subst G;let⟨b,a,f,u,n,j,S,I⟩:=(c.at d).akS (sl:=e) K E;let⟨N,o,p,q,r,v,x,y,z,m,B⟩:=L (k<|w.at d) ⟨_,U⟩ _ lv b a f e (t++u) U I;exact⟨N+1,o,p,q,r,v,x,by simp only[Ζ,F,n];exact y,z.trans j,S.at.fA m,B⟩;let⟨h,b,a,u,n,j,I,f,S⟩:=(c.at d).Z6 (sl:=e) E G Q;let⟨N,o,p,q,r,v,x,y,z,m,B⟩:=M (sumTo a.size h) (by rw[j];omega) h b a (w.at d) e (t++u) U S;exact⟨N+1,o,p,q,r,v,x,by simp only[Ζ,F,n];exact y,z.trans j,by rw[f]at m;exact m.at,B⟩
end
section
variable{F:Ph}{E:gE F}{S:Nat->Jd}{tr:Nat->gW}{o:Nat->jc}{f:Nat->fx}{gs:Array Ú}
def PI.kl(p:PI F i zX E S tr o f gs w qJ)(c:E.N=.gN):E.r=F.n+1/\∀x,x<F.n+1->∃N,E.M x=Á (.kl N):=by
 refine⟨(by rw[gE.r,c];rfl),λx g=> ?_⟩;have a:=Qm (p.C.B<|Ê<|Ê c) x g;have j:x<E.N.ad F.n:=by rwa[c]
 rw[gE.H,if_pos j]at a;have l:E.N.ik=0:=by rw[c];rfl
 cases d:E.M x with
 |none=>rw[d]at a;simp[nP]at a|some e=>
  rw[d]at a;simp only[nP]at a;cases e with
  |qA=>simp[iW.mH]at a|kl N=>exact⟨N,U⟩|gN q=>
   let⟨h,k⟩:=p.C.N x q d;cases q with
   |kv|jl=>simp[iW.mH,kI.mH]at a|ij W=>
    let⟨_,b⟩:=h W<|Ç U;have r:=p.M.C.r;rw[b]at r;have:=(p.C.g W b).2.1;simp only[GS.ok]at r;omega|jN W=>
    let⟨_,b⟩:=h W<|Ê U;have r:=p.M.C.r;rw[b]at r;have:=(p.C.g W b).2.1;simp only[GS.ok]at r;omega|jd r=>
    let⟨W,_,s,b⟩:=k r U;have:=(p.C.u r s b).2.1;omega
def zo(l:fx):fx:={l with O:=λ_=>False,I:=λ_=>False,r:=λ_=>False,N:=λ_=>False,K:=λ_=>False,q:=True}
def xp(f:Nat->fx)(l:fx):Nat->fx:=λi=>if i=0 then l else zo (f i)
def SI(f:Nat->fx)(l:fx):xp f l 0=l:=rfl
def xP(f:Nat->fx)(l:fx)(h:i≠0):xp f l i=zo (f i):=if_neg h
def IQ{l:fx}(h:i≠0):¬(xp f l i).M b:=by rw[xP f l h];exact λq=>q.elim id id
def IT{l:fx}(h:i≠0):¬(xp f l i).C a:=by rw[xP f l h];exact λq=>q.elim id id
def jD.Y{Y I:Nat->Prop}(C:jD n I Y f w qJ)(u:I 0){l:fx}(v:n<=m)(x:∀b,l.O b->¬l.I b)(y:∀a,l.r a->¬l.N a)(B:∀b,l.M b->¬X b)(D:∀a,l.C a->X a.block)(E:∀b,l.M b->b<w.heap.size)(F:∀b,X b->b<w.heap.size)(G:gd l l.w w)(H:Pk qJ 0 l)(J:l.d=(f 0).d)(t:∀a,l.K a->X a.block/\¬l.r a):jD m I X (xp f l) w qJ:=by refine⟨λi j g L s b o=> ?_,λi j g L s a e=> ?_,λi g b o=> ?_,λi g a e=> ?_,λi g b o=> ?_,λi g a e=> ?_,λi g b o=> ?_,F,λi g=> ?_,λi g=> ?_,λi g=> ?_,C.l,C.q,λp a c N r P=>ff (C.s p a c N r P) v,λi g a e=> ?_⟩;by_cases h:j=0;subst h;exact absurd (Ç o)<|IQ s;exact IQ h;by_cases h:j=0;subst h;exact absurd (Ç e)<|IT s;exact IT h;by_cases h:i=0;subst h;exact x b o;exact absurd (Ç o)<|IQ h;by_cases h:i=0;subst h;exact y a e;exact absurd (Ç e)<|IT h;by_cases h:i=0;subst h;exact B b o;exact absurd o<|IQ h;by_cases h:i=0;subst h;exact D a e;exact absurd e<|IT h;by_cases h:i=0;subst h;exact E b o;exact absurd o<|IQ h;by_cases h:i=0;subst h;exact G;rw[xP f l h];exact⟨(C.r i g).r,λj q=>q.elim (λz=>z.elim) λz=>z.elim,λa q=>q.elim (λz=>z.elim) λz=>z.elim,λa q=>q.elim (λz=>z.elim) λz=>z.elim,λa q=>q.elim⟩;by_cases h:i=0;subst h;exact H;rw[xP f l h];exact⟨λa e=>e.elim,λa e=>e.elim,λa e=>e.elim,λa e=>e.elim⟩;by_cases h:i=0;subst h;rw[SI,J];exact C.f 0 u;rw[xP f l h];exact C.f i g;by_cases h:i=0;subst h;refine⟨(t a e).1,λk z q=> ?_⟩;by_cases r:k=0;subst r;exact(t a e).2 q;exact absurd (Ç q)<|IT r;rw[xP f l h]at e;exact e.elim
theorem PI.akT(p:PI F i zX E S tr o f gs w qJ)(m:E.N=.gN)(r:AU F zX qJ)(y:F.S=0)(M:1<=F.L): ∃z:Nat->Nat,lT F.P E.Y (λk=>zX k\/∃x:Û,k=Ĳ x/\x.block=F.C) w.heap.size (F.j E.I) (tr 0) z (xp f<|f 0) gs w qJ:=by
 let⟨B,s⟩:=p.kl m;have O:gs.size=F.L+(F.n+1):=by rw[p.b,B]
 have C:=p.I.r;have c:0<gs.size:=Z;refine⟨λb=>if h:F.L<=b/\b<F.L+(F.n+1)then Classical.choose (s (b-F.L) Z)else E.h b,Z,⟨?_,λb x t=> ?_,p.I.I⟩,λb Q _=> ?_,p.a.M 0<|Ç U,λq a d D=> ?_,λq a x d G=>Ê<|Xv C.q d G,λa d q u=> ?_,r.2⟩;rw[y]at C;exact C.Y c (eE _) (C.m 0 c) (C.g 0 c) (C.I 0 c) (C.e 0 c) (C.fM 0 c) C.N (C.r 0 c) (C.S 0 c) U λa d=>⟨(C.n 0 c a d).1,(C.n 0 c a d).2 0 c⟩;let⟨k,j,l,v,H⟩:=p.I.C b x t;by_cases h:b=0;subst h;rw[p.h.1,m]at j;rw[p.h.2,m]at l;exact⟨k,j,l,v,H⟩;have T:=(fp.1 t).1;simp only[h,if_false];rw[xP f _ h];have I:∀N,S b=ri F.P N->tr b=.fS->o b=.no->∃k,mG F.P (b==0) (ri F.P N) .fS (zo<|f b) k/\yK k .no x/\(k.status=ĉ\/k.status=ū)/\(x=k\/True):=λN z e g=>by rw[z,e]at j;rw[g]at l;exact⟨k,λJ _=>j _<|gd.gy _ _,l,v,Ê trivial⟩
 by_cases J:b<F.L;let⟨z,e,g⟩:=p.l b Z J;grind;have K:F.L<=b/\b<F.L+(F.n+1):=Z
 simp only[K,dif_pos,and_self];let⟨z,e,g⟩:=p.k (b-F.L) _ Z<|Classical.choose_spec<|s (b-F.L) Z;rw[show F.L+(b-F.L)=b by omega]at z e g;exact I _ z (g ⟨_,U⟩) e;rw[xP f _ Z];rfl
 .obtain z|⟨z,k⟩:=r.1 q a d D;all_goals grind
 unfold Trace.act? at u;let⟨k,z,g⟩:=Ð.1 u;have:=C.q k<|fg z;rw[g]at this;have e:a.block<w.heap.size:=this;omega
theorem lT.Y{Y:Nat->Prop}{J:Jd}{s:gW}(c:lT P Y zX n J s D f gs w qJ)(t:(f 0).d=0)(o:gs[0]?=Á g)(u:g.status=ĉ){p:Jd}{T:gW}{l:fx}(v:l.w=w)(y:l.d=0)(B:¬l.q)(k:∀b,¬l.I b)(r:∀a,¬l.r a)(m:∀a,¬l.N a)(C:∀a,¬l.K a)(E:∀b,l.O b->b<w.heap.size/\∀x:Û,x.block=b->¬zX (Ĳ x))(F:mG P Ñ p T l g): tS P zX n p T D (xp f l) gs w qJ:=by
 refine⟨c.C,⟨?_,λi x j=> ?_,c.r.I⟩,λi o _=> ?_,B,c.I,c.N,c.S,c.M⟩
 .refine(c.r.r).Y c.C (eE _) (λb _=>k b) (λa _=>m a) (λ_ _=>id) (λa e=>e.elim (λq=>absurd q<|r a) λq=>absurd q<|m a) (λb z=>z.elim (λq=>(E b q).1) λq=>absurd q<|k b) (λ_ h=>h.elim) (by rw[v];exact gd.gy _ _) ⟨λa e G x j I=> ?_,λa e=>(k _ e).elim,λa e=>(r a e).elim,λa e=>(m a e).elim⟩ (by rw[y,t]) λa e=>absurd e<|C a;obtain z|⟨z,_⟩:=c.I G x j (by rw[I];rfl);all_goals grind
 by_cases h:i=0;subst h;rw[o]at j;obtain rfl:=dh j;exact⟨g,F,.gS,Ç u,Ç U⟩;let⟨g0,e,G,I,z⟩:=c.r.C i x j;simp only[h,if_false]at e z|-;rw[xP f _ h];exact⟨g0,λL _=>e _<|gd.gy _ _,G,I,z⟩;rw[xP f _ Z];rfl
end
section
variable{F:Ph}{H:Nat}{J:Jd}{f:Nat->fx}{gs:Array Ú}
structure SJ(F:Ph)(H:Nat)(l0 l:fx)(w:Î):Prop where
 fE:∀b,l.O b->l0.O b/\¬(F.M b\/b=F.Y)
 rd:∀b,l.I b->l0.O b/\¬(F.M b\/b=F.Y)/\¬l.O b
 r:∀a,l.r a↔∃x,x<=F.n/\nK F x a
 C:∀a,l.N a↔a=jS F.toFx 0
 k:∀a,l.K a->F.H a
 I:∀b,F.M b\/b=F.Y->l0.O b
 M:∀b,F.M b->H<=b
 f:l.w=w
 d:l.d=0
 q:¬l.q
 N:∀b,F.i b->l.I b
 S:iR w F.C (.cl 1 0)
 Y:iR w (F.I 0) (.cl 0 0)
 c:∀k,1<=k->k<=F.m->iR w (F.I k) (.cl 1 0)
 e:F.d 0 F.l F.i w
def nT(F:Ph)(D:Nat->Nat)(a:Nat->Nat):gE F where
 N:=.go 0
 S:=.lY 0
 C:=λ_=> .oU 0
 M:=λ_=>Ã
 I:=a
 c:=λ_=>F.l
 V:=λk=>if k=0 then F.i else λ_=>False
 e:=λ_=>0
 d:=λ_=>Ã
 f:=λ_=>0
 b:=.cl 1 0
 a:=λk=>if k=0 then .cl 0 0 else .cl 1 0
 g:=Ã
 h:=D
theorem Mq(ok:F.Ok)(h:nK F i a):(∃k,1<=k/\k<=F.m/\a=jS F.toFx k)\/∃p,p≠F.f/\a=j4 F p:=by unfold nK at h;split at h;obtain⟨k,c,d,b|b⟩:=h;grind;exact Ê ⟨_,ok.Y.1 k c d,b⟩;let⟨k,c,_,b⟩:=h;exact Ê ⟨_,ok.Y.2 _ (by assumption),b⟩
def Z7(ok:F.Ok)(h:nK F i (jS F.toFx 0)):False:=by
 obtain⟨k,c,b,a⟩|⟨p,_,a⟩:=Mq ok h;have:F.I 0=F.I k:=by injection a
 have:=ok.S 0 k Z b this;omega;have:F.I 0=F.Y:=by injection a
 exact ok.C<|by rw[<-this];exact Ê ⟨0,Z,U⟩
theorem tS.akU(X:iL F)(c:tS F.P zX H J .fS D f gs w qJ)(hL:F.L=gs.size)(hB:F.S=0)(E:gs[0]?=Á g){l:fx}(st:SJ F H (f 0) l w)(oY:(f 0).d=0)(u:Nat->Nat)(hgo:F.g 0 u l g): PI F qJ.size zX (nT F D u) (λi=>if i=0 then F.g 0 u else ri F.P (D i)) (λ_=> .fS) (λ_=> .no) (λi=>if i=0 then l else zo (f i)) gs w qJ:=by
 have S:=X.C;have C:=c.r.r;have jV:=c.C;have T:0<gs.size:=Z;have y:(nT F D u).r=0:=U;have hY:∀b,(nT F D u).Y b↔(F.M b\/b=F.Y):=λb=>by
  constructor
  .rintro(q|q|⟨j,B,_⟩);all_goals grind
  rintro(q|q);exact Ç q;exact Ê<|Ç q
 have Z8:∀a,l.C a->F.M a.block\/a.block=F.Y:=λa o=>by obtain q|q:=o;let⟨x,_,G⟩:=(st.r a).1 q;obtain⟨k,B,t,rfl⟩|⟨p,_,rfl⟩:=Mq S G;exact Ç<|Ê ⟨k,t,U⟩;exact Ê U;rw[(st.C a).1 q];exact Ç<|Ê ⟨0,Z,U⟩
 have nC:∀i,i≠0->∀a,¬((λi=>if i=0 then l else zo (f i)) i).C a:=λi h a q=>by simp only[h,if_false]at q;exact q.elim id id
 have nM:∀i,i≠0->∀b,¬((λi=>if i=0 then l else zo (f i)) i).M b:=λi h b q=>by simp only[h,if_false]at q;exact q.elim id id
 have hM0:∀b,l.M b->(f 0).O b/\¬(F.M b\/b=F.Y):=λb q=>q.elim (st.fE b) λz=>⟨(st.rd b z).1,(st.rd b z).2.1⟩;have Qp:jD F.S (λi=>i<gs.size) (nT F D u).Y (λi=>if i=0 then l else zo (f i)) w qJ:=by
  refine⟨λi j E hj N b v=> ?_,λi j E hj N a o=> ?_,λi E b v=> ?_,λi E a o=> ?_,λi E b v=> ?_,λi E a o=> ?_,λi E b v=> ?_,λb v=>C.fM 0 T b<|Ç<|st.I b<|(hY b).1 v,λi E=> ?_,λi E=> ?_,λi E=> ?_,C.l,C.q,λq a e B t I=> ?_,λi E a o=> ?_⟩;by_cases h:j=0;subst h;simp only[N,if_false]at v;exact v.elim;exact nM j h b;by_cases h:j=0;subst h;simp only[N,if_false]at o;exact o.elim;exact nC j h a;by_cases h:i=0;subst h;simp only[if_true]at v|-;exact λq=>(st.rd b q).2.2 v;simp only[h,if_false]at v;exact v.elim;by_cases h:i=0;subst h;simp only[if_true]at o|-;intro q;rw[(st.C a).1 q]at o;let⟨x,_,G⟩:=(st.r _).1 o;exact Z7 S G;simp only[h,if_false]at o;exact o.elim
  .by_cases h:i=0;all_goals simp_all
  .by_cases h:i=0;all_goals simp_all
  by_cases h:i=0;subst h;simp only[if_true]at v;exact C.fM 0 T b<|Ç (hM0 b v).1;simp_all;by_cases h:i=0;subst h;simp only[if_true];rw[st.f];exact gd.gy _ _;simp only[h,if_false];exact⟨(C.r i E).r,λj q=>q.elim (λz=>z.elim) λz=>z.elim,λa q=>q.elim (λz=>z.elim) λz=>z.elim,λa q=>q.elim (λz=>z.elim) λz=>z.elim,λa q=>q.elim⟩;by_cases h:i=0;subst h;simp only[if_true];have s:=(C.S 0 T).fE;exact⟨λa o=>s a (st.fE _ o).1,λa o=>(s a (st.rd _ o).1).r,λa o=>s a<|st.I _<|Z8 a<|Ç o,λa o=>(s a<|st.I _<|Z8 a<|Ê o).r⟩;simp only[h,if_false];exact⟨λa o=>o.elim,λa o=>o.elim,λa o=>o.elim,λa o=>o.elim⟩;by_cases h:i=0;subst h;simp only[if_true];rw[C.f 0 T,oY,st.d];simp only[h,if_false];exact C.f i E;have:=C.s q a e B t I;omega;by_cases h:i=0;subst h;simp only[if_true]at o;let⟨b,v,s⟩:=st.k a o;have Q:a.block=b:=by obtain rfl|rfl:=s<;>rfl
  refine⟨by rw[hY,Q];exact Ç v,λk K q=> ?_⟩;by_cases t:k=0;subst t;simp only[if_true]at q;let⟨x,_,G⟩:=(st.r a).1 q;obtain⟨k',_,_,I⟩|⟨p',_,I⟩:=Mq S G;obtain W|W:=s<;>rw[W]at I<;>simp[gu,iJ,jS]at I;have:a.block=F.Y:=by rw[I];rfl
  exact S.C (by rwa[<-this,Q]);simp only[t,if_false]at q;exact q;simp only[h,if_false]at o;exact o.elim
 have Z9:iB F.P F.S (nT F D u).Y (λi=>if i=0 then F.g 0 u else ri F.P (D i)) (λ_=> .fS) (λ_=> .no) (λi=>if i=0 then l else zo (f i)) gs w qJ:=by refine⟨Qp,λi x G=> ?_,c.r.I⟩;by_cases h:i=0;subst h;rw[E]at G;obtain rfl:=dh G;simp only[if_true];exact⟨g,λs r=>X.Hi 0 u l g s hgo r,.gS,Ç<|X.I 0 u l g hgo,Ç U⟩;let⟨g0,Q,q2,N,q4⟩:=c.r.C i x G;simp only[h,if_false]at Q|-;exact⟨g0,λs _=>Q _<|gd.gy _ _,q2,N,Ê trivial⟩
 have akV:jm F (nT F D u) (λi=>if i=0 then l else zo (f i)) gs.size w:=by
  refine⟨λi E a o=> ?_,λx _ t a o=> ?_,λ_=> ?_,λh=>absurd h (by rw[y];omega),λh=>absurd h (by rw[y];omega),λj h=>absurd h (by rw[y];omega),λj h=>absurd h (by rw[y];omega),λx ⟨e,B,_⟩=>(by cases B),λi h=> ?_,λi B t=> ?_,λk K b v=> ?_,λk K i E q=> ?_,λk B t=> ?_,λj h=>absurd h<|by rw[y];omega⟩;by_cases h:i=0;subst h;simp only[if_true]at o;obtain q|q:=o;let⟨x,_,G⟩:=(st.r a).1 q;grind [Mq];exact Ç ⟨0,Z,(st.C a).1 q⟩;simp_all;simp only[if_true];exact(st.r a).2 ⟨x,t,o⟩;simp only[if_true];exact⟨(st.C _).2 U,st.N⟩;obtain rfl|⟨x,G,_⟩:=h;simp only[if_true];exact st.q;grind;have:i≠0:=Z
  simp only[this,if_false];rfl;have Q:k=0:=by have:k<=0:=K;omega
  subst Q;have B:=st.N b v;refine⟨C.fM 0 T b<|Ç (st.rd b B).1,by rw[hY];exact(st.rd b B).2.1,λi E q=> ?_⟩;by_cases h:i=0;subst h;simp only[if_true]at q;exact(st.rd b B).2.2 q;simp only[h,if_false]at q;exact q;have Q:k=0:=by have:k<=0:=K;omega
  subst Q;by_cases h:i=0;subst h;simp only[if_true]at q;let⟨x,_,G⟩:=(st.r _).1 q;exact Z7 S G;simp only[h,if_false]at q;exact q;have:k<=0:=t;omega
 have gg:∀k,k<=F.m->iR w (F.I k) ((nT F D u).a k):=λk K=>by
  by_cases h:k=0;subst h;exact st.Y;have:(nT F D u).a k=.cl 1 0:=by simp[nT,h]
  rw[this];exact st.c k Z K
 have wdd:Wd F (nT F D u) w:=by
  refine⟨st.S,gg,λj h=>absurd h (by rw[y];omega),λk K=> ?_,λk B t=> ?_,λj h=>absurd h<|by rw[y];omega⟩;have Q:k=0:=by have:k<=0:=K;omega
  subst Q;exact⟨.xn,st.e⟩;have:k<=0:=t;omega
 have a_:∀k,(sumTo F.n λj=>((nT F D u).C j).ik F j k)=0:=λk=>by
  have:∀n,(sumTo n λ_=>0)=0:=λn=>by
   induction n with|zero=>rfl|succ n s=>simp[sumTo,s]
  exact this F.n
 have akW:sumTo (F.n+1) (nT F D u).H=1:=by
  have B:=yP (f':=(nT F D u).H) (j:=0) (n:=F.n+1) Z (λi E=>by have:¬i<1:=Z;show(if i<1 then _ else _)=0;rw[if_neg this]);have t:∀n,(sumTo n λ_=>0)=0:=λn=>by
   induction n with|zero=>rfl|succ n s=>simp[sumTo,s]
  rw[t]at B;have I:(nT F D u).H 0=1:=U;omega
 have pss:Ps F (nT F D u):=by
  refine⟨U,λj h=> ?_,λj h=> ?_,λr=>⟨λh=>(by cases h),λh=>(by cases h)⟩,λ_=>U,λk=>⟨λh=> ?_,λh=>(by cases h),λp h=>by cases h⟩,λ_ _=>U,λj r h=>absurd h (by rw[y];omega),λj h=>absurd h (by rw[y];omega),λh=>absurd U h,λ_ _=>U,λj j' h=>absurd h (by rw[y];omega),λj h=>absurd h (by rw[y];omega),λc reg h=> ?_,λreg h=>(by cases h),λr s h=>(by cases h),λx p h=>(by cases h),λh=> ?_,λk B t I=> ?_,λk B t=> ?_,λj r h=>absurd h (by rw[y];omega),λj r h=>absurd h (by rw[y];omega),λh=>(by cases h),λ_ _=>⟨1,rfl⟩,λ_ _ _=>U,λj r h=>absurd h<|by rw[y];omega⟩;obtain h|h|h|h:=h<;>cases h;omega;obtain h|h|h:=h<;>cases h;cases h;omega;cases h;exact⟨akW.symm,U⟩;obtain h|h|h:=h<;>cases h;rw[a_];have:k≠0:=Z;simp[nT,this];have Q:k=0:=by have:k<=0:=t;omega
  subst Q;exact Ê<|Ê ⟨λp h=>(by cases h),Ç ⟨rfl,a_ 0⟩⟩
 have s:TI F.toFx qJ.size zX (nT F D u).r (nT F D u).S.rl (nT F D u).V (nT F D u).e (nT F D u).d (nT F D u).K (nT F D u).f qJ:=by
  refine⟨eE _,λp a x o Q hc=> ?_,λx h=>absurd h (by rw[y];omega),λk B t=> ?_,λk B t=> ?_,λb v=>c.S _<|st.M b v,λx h=>absurd h (by rw[y];omega),λp a B t=> ?_,λp a _ t I=>c.I p a t I,λp g _ t I W=>c.M p g t I W⟩;let⟨b,v,G⟩:=hc;have Ql:x.block=b:=by obtain rfl|rfl:=G<;>rfl
  obtain q|q:=c.N p a x o Q;exact Ç ⟨PK o,q⟩;have:=st.M b v;omega;have:k<=0:=t;omega;have:k<=0:=t;omega;have:=PK t;omega
 refine⟨by rw[y,hL];rfl,Z9,⟨by simp only[if_true];rfl,U⟩,λh=>absurd h (by rw[y];omega),λj h=>absurd h (by rw[y];omega),λx e h=>absurd h (by rw[y];omega),λi B t=>⟨?_,U,U⟩,akV,wdd,pss,s,λi x G v=> ?_,λj r h=>absurd h<|by rw[y];omega⟩;have:i≠0:=Z;simp only[this,if_false];rfl;let⟨g0,_,q2,N,_⟩:=Z9.C i x G;cases q2 with|gS=>obtain N|N:=N<;>rw[v]at N<;>cases N
end
section
variable{kd:Nat->Int}{R:Nat}
theorem IU(h:i∈iP kd R):i<R/\kd i=1:=by have:=ü.1 h;grind
theorem IV(h:i∈kq kd R):i<R/\kd i≠1:=by have:=ü.1 h;grind
def akX:(iP kd R).Nodup:=ō.filter _
def akY:(kq kd R).Nodup:=ō.filter _
def Dp(h:k<jJ.length):jJ[k]?=Á (jJ.getD k 0):=by simp[List.getD,h]
def xR{l:List Nat}(h:k<l.length):l.getD k 0∈l:=eU<|Dp h
def b_(c:jJ.Nodup)(a:i<jJ.length)(d:j<jJ.length)(h:jJ.getD i 0=jJ.getD j 0):i=j:=by have b:=Dp a;rw[h]at b;exact(List.getElem?_inj a c).1<|b.trans (Dp d).symm
def c_:∀R,(iP kd R).length+(kq kd R).length=R|0=>rfl|R+1=>by have:=c_ R;by_cases h:kd R=1;rw[uR h,Sr h];simp;omega;rw[xN h,Ss h];simp;omega
end
structure zq where
 γ:Type
 C:γ
 M:Nat->γ->γ->Prop
 RD:γ->É->(Nat->Prop)->Î->Prop
 I:Nat->ByteArray
 r:Nat->Prop
def Mr(M:zq)(L n R:Nat)(kd:Nat->Int)(rq g:Nat->Nat)(a b:Option Û)(c d e f h j:Nat)(l:List ò)(RB:Nat->Prop)(RC ft:Î->Prop):SD where
 L:=L
 f:=0
 n:=n
 m:=gw kd R
 q:=(kq kd R).length
 N:=R
 I:=j
 C:=g
 M:=e
 S:=f
 p:=h
 t:=a
 s:=c
 k:=b
 j:=d
 l:=λk=>Á ⟨rq<|(iP kd R).getD (k-1) 0,0,Ã⟩
 a:=λk=>(iP kd R).getD (k-1) 0
 h:=λi=>Á ⟨rq<|(kq kd R).getD i 0,0,Ã⟩
 c:=λi=>(kq kd R).getD i 0
 b:=λi=>if i<(kq kd R).length then gw kd ((kq kd R).getD i 0)else 0
 e:=l
 RB:=RB
 RC:=RC
 o:=ft
 γ:=M.γ
 v:=M.C
 u:=M.r
 g:=M.M
 RD:=M.RD
 d:=λk=>M.I<|(iP kd R).getD (k-1) 0
 i:=λi=>M.I<|(kq kd R).getD i 0
section
variable{M:zq}{L R:Nat}{kd:Nat->Int}{a:Nat->Nat}{c:Option Û}{cs:List ò}{RB:Nat->Prop}{RC ft:Î->Prop}{l d f:fx}
def akZ(h:Mh kd a D R (È O (gw kd R) j7) (È c (kq kd R).length j6) v j b J i j9 m l d f)(F:∀w p,RC w->(∀g,RB g->p.heap[g]?=w.heap[g]?)->RC p)(G:∀w p,ft w->(p.os=w.os/\p.output=w.output)->ft p)(H:∀s B V w p,M.RD s B V w->(∀g,V g->p.heap[g]?=w.heap[g]?)->M.RD s B V p)(I:1<=n)(K:1<=L)(X:n+R<1000):(Mr M L n R kd a D O c j7 j6 j b J i cs RB RC ft).Ok:=by have Y:=c_ (kd:=kd) R;have hc:(iP kd R).length=gw kd R:=rfl;let⟨a1,a2,a3⟩:=h.M;let⟨a4,a5,a6⟩:=h.S;have z:∀k,k<=gw kd R->d.w.heap.size<=D k/\D k<J:=λk r=>⟨(h.r.M k r).1,h.N k r⟩;have SB:=Ó (z 0 Z).1<|dp (z 0 Z).2;refine⟨F,G,H,I,K,?_,?_,λo=> ?_,λo t=>(IV<|xR t).1,λk C x=> ?_,λk r e=> ?_,λk u r N e=> ?_,?_,λo i' t P e=>b_ akY t P e,λk u C x h3 Q e=> ?_,λo k t C x e=> ?_,λg _=>eD g⟩;show n+(kq kd R).length+gw kd R<1000;omega;show R<1000;omega;show(if o<(kq kd R).length then gw kd ((kq kd R).getD o 0)else 0)<=gw kd R;split;rename_i t;exact ZF<|dp (IV<|xR t).1;omega;refine(IU<|xR ?_).1;have:k<=gw kd R:=x;omega;have:=(z k r).2;have y:D k=i:=e;omega;have y:D k=D u:=e;have S:=r;have T:=N;obtain q|q|q:=Nat.lt_trichotomy k u;have:=h.r.Y k u q T;omega;exact q;have:=h.r.Y u k q S;omega;rintro(e|⟨k,r,e⟩);have y:j=i:=e;omega;have y:j=D k:=e;have:=(z k r).1;omega;have W:k<=gw kd R:=x;have h4':u<=gw kd R:=Q;have:=b_ akX Z Z e;omega;have W:k<=gw kd R:=x;have y:(kq kd R).getD o 0=(iP kd R).getD (k-1) 0:=e;have E:=(IV<|xR t).2;rw[y]at E;exact E<|(IU (kd:=kd) (R:=R)<|xR (k:=k-1) Z).2
end
abbrev lU(M:zq)(L n R:Nat)(kd:Nat->Int)(rq g:Nat->Nat)(c d:Option Û)(e f h a i j:Nat)(cs:List ò)(l:fx):SD:=Mr M L n R kd rq g c d e f h a i j cs (λb=>l.O b\/b=a) (λw=>∀b,l.O b->w.heap[b]?=l.w.heap[b]?) λw=>w.os=l.w.os/\w.output=l.w.output
def Ms(D:SD)(l:fx):fx:={l with O:=λb=>l.O b/\¬(D.Y.M b\/b=D.M)/\¬D.RB b,I:=D.RB,r:=λa=>∃x,x<=D.n/\nK (D.r À) x a,N:=λa=>a=jS D.Y 0,K:=D.Y.H}
section
variable{M:zq}{L:Nat}{o:Nat->Nat}{r:Option Û}{u:Nat}{cs:List ò}{l y f:fx}
def Mt{cs:Array É}(h:w.heap[b]?=Á (Ï cs e)):w.frozen? ⟨b,i,Ã⟩=Ò:=by simp[ı,h]
def SK{cs:Array É}(h:w.heap[b]?=Á (Ï cs e))(a:cs[0]?=Á (Æ Ë<|(i:Int)*gK+0))(d:cs[1]?=Á (Æ Γ 0))(f:i<1000000):iR w b (.cl i 0):=by refine⟨?_,?_,Mt h,Mt h,(⟨f,Z,λ_=>U⟩)⟩;simp[ã,gu,h,a,GS.st];simp[ã,iJ,h,d,GS.sm]
def ak0(h:Mh fQ o D j (È O (gw fQ j) j6) (È r (kq fQ j).length u) v k m j9 b j7 J l y f)(s:gT l)(Mv:∀g,¬l.I g)(V:¬l.q)(W:l.d=0)(hH:i<=l.w.heap.size)(hV:∀g,M.r g->l.O g)(sd:M.RD M.C v M.r f.w)(zn:f.w.os=l.w.os/\f.w.output=l.w.output)(hn:1<=n)(hs:n+j<1000){t:Array É}(hT:IA m b (D<|gw fQ j) n (È r (kq fQ j).length u) t)(dk:Nat->Nat): SJ ((lU M L n j fQ o D O r j6 u k m j9 b cs l).r À) i f (Ms (lU M L n j fQ o D O r j6 u k m j9 b cs l) f) f.w/\ ((lU M L n j fQ o D O r j6 u k m j9 b cs l).r À).g 0 dk (Ms (lU M L n j fQ o D O r j6 u k m j9 b cs l) f) (Dh (Â<|Á ⟨b,0,Ã⟩) jQ (Â<|Á ⟨b,0,Ã⟩) (Ý #[]) j7 J<|Fj t::cs):=by
 let⟨a1,a2,a3⟩:=h.M;let⟨a4,a5,a6⟩:=h.S;have K:∀B,B<=gw fQ j->y.w.heap.size<=D B/\D B<j9:=λB C=>⟨(h.r.M B C).1,h.N B C⟩;have SB:=Ó (K 0 Z).1<|dp (K 0 Z).2;have X:=λg q=>s.fM g<|Ç q;have hc:(iP fQ j).length=gw fQ j:=rfl;have P:∀g,(lU M L n j fQ o D O r j6 u k m j9 b cs l).Y.M g\/g=k->g=b\/(∃B,B<=gw fQ j/\g=D B)\/g=k:=λg q=>by obtain(q|⟨B,Q,Y⟩)|q:=q;exact Ç q;exact Ê<|Ç ⟨B,Q,Y⟩;exact Ê<|Ê q
 have G:∀g,(lU M L n j fQ o D O r j6 u k m j9 b cs l).Y.M g\/g=k->l.w.heap.size<=g/\g≠m/\g≠j9/\g≠j7/\g≠J/\(∀B,(È O (gw fQ j) j6).ownBlock=Á B->g≠B)/\(∀B,(È r (kq fQ j).length u).ownBlock=Á B->g≠B):=λg q=>by obtain rfl|⟨B,C,rfl⟩|rfl:=P g q;exact⟨Z,Z,Z,Z,Z,λB e=>by have:=h.o3 B e;omega,λB e=>by have:=h.o4 B e;omega⟩;have:=K B C;exact⟨Z,Z,Z,Z,Z,λp e z=>(h.r.M B C).2.1<|z▸e,λp e z=>(h.r.M B C).2.2<|z▸e⟩;exact⟨Z,Z,Z,Z,Z,λB e=>by have:=(h.r.r B e).2;omega,λB e=>by have:=(h.r.C B e).2;omega⟩
 have ak1:∀g,(lU M L n j fQ o D O r j6 u k m j9 b cs l).Y.M g\/g=k->f.O g:=λg q=>by obtain rfl|⟨B,C,rfl⟩|rfl:=P g q;exact h.iA.fE;by_cases x:B=0;subst x;exact h.r.S.fE;exact(h.r.I B Z C).fE;exact h.I.fE
 have I:∀g,f.O g->l.w.heap.size<=g->g≠m->¬((lU M L n j fQ o D O r j6 u k m j9 b cs l).Y.M g\/g=k)->(Ms (lU M L n j fQ o D O r j6 u k m j9 b cs l) f).O g:=λg Q Y q4 q3=>⟨Q,q3,λq=>q.elim (λq=>by have:=X g q;omega) q4⟩;have d_:iR f.w b (.cl 1 0):=SK h.iA.r U U Z;have Mw:iR f.w (D 0) (.cl 0 0):=SK h.r.S.r U U Z;have f_:∀B,1<=B->B<=gw fQ j->iR f.w (D B) (.cl 1 0):=λB H N=>SK (h.r.I B H N).r U U Z;have S:∀g c,iR f.w g c->o6 g f.w:=λg c q=>⟨by rw[show(⟨g,0,Ã⟩:Û)=gu g from rfl,q.C];rfl,by rw[show(⟨g,1,Ã⟩:Û)=iJ g from rfl,q.I];rfl⟩;refine⟨⟨λg q=>⟨q.1,q.2.1⟩,λg q=>⟨?_,λz=> ?_,λz=>z.2.2 q⟩,λa=>Iff.rfl,λa=>Iff.rfl,λa q=>q,λg q=>ak1 g q,λg q=>Ó hH (G g<|Ç q).1,U,h.C.d.trans W,by show¬f.q;rwa[h.C.q],λg q=>Ç<|hV g q,d_,Mw,f_,⟨⟨v,h.r.S.I U,sd⟩,λ_=> ?_⟩⟩,?_⟩;obtain q|q:=q;exact h.C.O g q;rw[q];exact h.Y.fE;obtain q|q:=q;have:=(G g z).1;have:=X g q;omega;exact(G g z).2.1 q;refine⟨?_,by rw[mo,show f.w.heap[(lU M L n j fQ o D O r j6 u k m j9 b cs l).M]?=Á (IK j)from h.I.r],zn⟩;show f.w.cell? ⟨k,j,Ã⟩=Ã;simp only[ã,h.I.r,IK,eW,Ā,if_false];exact dj (by rw[Ĩ];exact eE _);refine⟨h.C.d.trans W,by show¬f.q;rwa[h.C.q],eD _,Ç ⟨U,⟨λg q=>⟨⟨g,q,Ç U⟩,⟨g,q,Ê U⟩⟩,λg q=> ?_,Ê<|Ê U,h.Y.I U,(Ç<|I j9 h.b.fE Z Z λz=>(G j9 z).2.2.1 U),h.b.I U,λB C=> ?_,λe hi=> ?_,λa q=> ?_,λg q=>Ê q,λg q=>h.C.r g (Ç q) id⟩,t,j7,J,jQ,hT,⟨(I j7 h.c.fE Z Z λz=>(G j7 z).2.2.2.1 U),h.c.r⟩,⟨(I J h.a.fE Z Z λz=>(G J z).2.2.2.2.1 U),h.a.r⟩,U⟩⟩;obtain rfl|⟨B,C,rfl⟩|rfl:=P g<|Ç q;exact S _ _ d_;by_cases x:B=0;subst x;exact S _ _ Mw;exact S _ _<|f_ B Z C;exact absurd q λz=>by obtain z|⟨B,x,E⟩:=z;have F:g=b:=z;omega;have F:g=D B:=E;have:=(K B x).1;omega
 have rU:B<gw fQ j:=C;obtain⟨_,e2⟩|⟨g,cap,cur,T,_,hcur,hrest⟩:=h.r.lk.2;omega;have A3:O=Á ⟨g,0,Ã⟩:=by injection T
 subst A3;have x:=h.r.lk.cells U;have hz:(iP fQ j).zipIdx[B]?=Á ((iP fQ j).getD B 0,B):=by rw[List.getElem?_zipIdx,Dp Z];simp
 have E:∀c,c<4->(lk fQ o D j)[B*4+c]?=(tI o D ((iP fQ j).getD B 0,B))[c]?:=λc q=>Sw (λ_=>U) q _ B _ hz;have F:∀p,(⟨g,0,Ã⟩:Û).add p=⟨g,p,Ã⟩:=λp=>by rw[ł,dQ]
 refine⟨g,U,Ç (I g (h.r.r g U).1 (Ó Z (h.r.r g U).2) (by have:=(h.r.r g U).2;omega) λz=>(G g z).2.2.2.2.2.1 g U U),?_,?_,?_,?_⟩;have:=x (B*4+0) _<|E 0 Z;rwa[F]at this;have:=x (B*4+1) _<|E 1 Z;rwa[F]at this;have:=x (B*4+2) _<|E 2 Z;rwa[F]at this;have:=x (B*4+3) _<|E 3 Z;rwa[F]at this;have mR:e<(kq fQ j).length:=hi;obtain⟨_,e2⟩|⟨g,cap,cur,T,_,hcur,hrest⟩:=h.r.oe.2;omega;have SF:r=Á ⟨g,0,Ã⟩:=by injection T
 subst SF;have x:=h.r.oe.cells U;have E:∀c,c<4->(oe fQ o D j)[e*4+c]?=(tQ fQ o D<|(kq fQ j).getD e 0)[c]?:=λc q=>Sw (λ_=>U) q _ e _<|Dp mR;have F:∀p,(⟨g,0,Ã⟩:Û).add p=⟨g,p,Ã⟩:=λp=>by rw[ł,dQ]
 refine⟨g,U,Ç (I g (h.r.C g U).1 (Ó Z (h.r.C g U).2) (by have:=(h.r.C g U).2;omega) λz=>(G g z).2.2.2.2.2.2 g U U),?_,?_,?_,?_⟩;have:=x (e*4+0) _<|E 0 Z;rwa[F]at this;have:=x (e*4+1) _<|E 1 Z;rwa[F]at this;have:=x (e*4+2) _<|E 2 Z;rw[F]at this;show f.w.cell? ⟨g,e*4+2,Ã⟩=Á (Â<|Á ⟨D (if e<(kq fQ j).length then gw fQ ((kq fQ j).getD e 0)else 0),0,Ã⟩);rw[if_pos mR];exact this;have:=x (e*4+3) _<|E 3 Z;rwa[F]at this;have T:∀p,p<j->(f.w.cell? ⟨k,p,Ã⟩).isSome=Ñ/\f.w.frozen? ⟨k,p,Ã⟩=Ò:=λp hp=>by
  refine⟨?_,Mt h.I.r⟩;have:p<(ũ (ó<|Ø ⟨#[]⟩) j).size:=by rwa[Ĩ]
  simp[ã,h.I.r,this]
 let⟨x,_,E⟩:=q;unfold nK at E;split at E;obtain⟨B,H,N,rfl|rfl⟩:=E;have F:=N;refine⟨?_,Mt (h.r.I B H F).r⟩;show(f.w.cell? ⟨D B,2,Ã⟩).isSome=Ñ;rw[(h.r.I B H F).I U];rfl;have F:B<=gw fQ j:=N;exact T _ (IU<|xR Z).1;obtain⟨e,H,_,rfl⟩:=E;exact T _ (IV<|xR H).1
end
open Go.ConcN (sumTo sumTo_congr)
def Mx(kd:Nat->Int)(rq:Nat->Nat)(R n:Nat)(f:É)(l:fx)(cs:List ò):Jd:=λh i=>
 ∃g j t k b m c o a d e p,Mh kd rq g R k b f m c o a d e l j h/\IA c a (g<|gw kd R) n b t/\i=Dh (Â<|Á ⟨a,0,Ã⟩) p (Â<|Á ⟨a,0,Ã⟩) (Ý #[]) d e (Fj t::cs)
theorem g_(h:w.ownsRow i e j v n l):∃b c,v=È b n c:=by obtain⟨a,d⟩|⟨b,f,g,a,_⟩:=h.2;all_goals grind
section
variable{F:Ph}{E:gE F}{S:Nat->Jd}{y:Nat->gW}{B:Nat->jc}{u:Nat->fx}{f:Array Ú}
theorem PI.ak2(p:PI F j9 zX E S y B u f w qJ)(c:E.N=.gN)(d:1<=F.n):E.S=.lY F.m/\(∀i,i<F.q->w.cell? (j4 F<|F.a i)=Á (Ø<|F.k i)/\∀k,k<f.size->¬(u k).r (j4 F<|F.a i)):=by
 let⟨l,a⟩:=p.kl c;refine⟨p.C.f (by let⟨N,h⟩:=a 0 Z;rw[h];simp),λi k=> ?_⟩;have o:i%F.n<F.n:=Đ _ d;have e:i%F.n+i/F.n*F.n=i:=by rw[Nat.mul_comm];exact bT i F.n
 let⟨N,h⟩:=a (i%F.n+1) Z;let⟨_,r,g,j⟩:=p.C.l (i%F.n) Z (by rw[h];simp);have b:i/F.n<(E.C<|i%F.n).lS:=by rw[g];exact(j (i/F.n)<|by rwa[e])
 have s:=p.M.N (i%F.n) Z (i/F.n) (by rwa[e]) b;have t:=p.a.d (i%F.n) Z (i/F.n) (by rwa[e]) b;grind
end
structure ak3(D:SD)(l:fx)(w:Î)(g:Ú):Prop where
 I:∀b,l.O b->w.heap[b]?=l.w.heap[b]?
 cba:w.cell? ⟨D.S,0,Ã⟩=Á (È (Á ⟨D.M,0,Ã⟩) D.N D.N)
 lY:∀k,1<=k->k<=D.m->w.cell? ⟨D.M,D.a k,Ã⟩=Á (Ø<|D.d k)
 SL:∀i,i<D.q->w.cell? ⟨D.M,D.c i,Ã⟩=Á (Ø<|D.i i)
 IW:∃s sl V,oW (D.r À) D.m s/\w.cell? ⟨D.C D.m,2,Ã⟩=Á sl/\D.RD s sl V w/\∀b,V b->b<w.heap.size/\b≠D.I
 fM:D.M<w.heap.size/\D.S<w.heap.size/\D.C D.m<w.heap.size
 r:D.M≠D.I/\D.S≠D.I/\D.C D.m≠D.I
 ak4:∃ts,SE D.S D.I (D.C D.m) ts/\g=Fw ts D.e
 C:w.cell? ⟨D.M,D.N,Ã⟩=Ã/\mo w D.M=Á (0,0)
 io:w.os=l.w.os/\w.output=l.w.output
section
variable{M:zq}{o:Nat->Nat}{cs:List ò}{l:fx}{G:Nat->Nat}{u:Nat->fx}{f:Array Ú}
theorem ak5(c:tS À zX j (Mx fQ o J n v l cs) .fS G u f w qJ)(Q:Option (Nat×Nat))(s:gT l)(Mv:∀b,¬l.I b)(hq:¬l.q)(hd:l.d=0)(hH:j<=l.w.heap.size)(hV:∀b,M.r b->l.O b)(sd:∀s Q V w F,M.RD s Q V w->(∀b,V b->F.heap[b]?=w.heap[b]?)->M.RD s Q V F)(Dq:M.RD M.C v M.r l.w)(zn:w.os=l.w.os/\w.output=l.w.output)(hn:1<=n)(hs:n+J<1000)(hA:∀g r t y B e m p h,l.w.heap.size<=m->Fy (lU M f.size n J fQ o g r t y B e m p h cs l)/\Fz (lU M f.size n J fQ o g r t y B e m p h cs l)): ∃g r t y B e m p h,(l.w.heap.size<=e/\l.w.heap.size<=m/\l.w.heap.size<=h/\∀k,k<=gw fQ J->l.w.heap.size<=g k)/\ ∃N Y a H C i F I D z,Ζ À N (ĳ f w Q) qJ=(.next<|ĳ i F I,D)/\i.size=f.size+(n+1)/\i[0]?=Á z/\a<=F.heap.size/\h<a/\j<=a/\(C 0).d=0/\z.status=ĉ/\ lT À Y (λE=>zX E\/∃x:Û,E=Ĳ x/\x.block=h) a (ZX<|lU M f.size n J fQ o g r t y B e m p h cs l) .fS H C i F D/\ak3 (lU M f.size n J fQ o g r t y B e m p h cs l) l F z:=by
 have h0:=c.C;obtain⟨g0,rn⟩:∃g,f[0]?=Á g:=⟨_,fj h0⟩;let⟨g1,q1,q2,q3,_⟩:=c.r.C 0 g0 rn;obtain rfl:g0=g1:=by cases q2;rfl
 have hz:=q1 w<|c.r.r.r 0 h0;let⟨g,lp,tt,iv,qv,e,m,p,h,bw,bf,S,D,hT,hg⟩:=hz;obtain⟨r,y,rfl⟩:=g_ D.r.lk;obtain⟨t,B,rfl⟩:=g_ D.r.oe;let⟨a1,a2,a3⟩:=D.M;let⟨a4,a5,a6⟩:=D.S;have SN:∀k,k<=gw fQ J->lp.w.heap.size<=g k/\g k<p:=λk T=>⟨(D.r.M k T).1,D.N k T⟩;have av3:=SN 0 Z;have ak6:=sd _ _ _ _ _ Dq λb q=>D.C.r b (Ç<|hV b q) id;obtain⟨st,hgo⟩:=ak0 D s Mv hq hd hH hV ak6 zn hn hs hT λ_=>0;have ok:=akZ (L:=f.size) (cs:=cs) (RB:=λb=>l.O b\/b=m) (RC:=λw=>∀b,l.O b->w.heap[b]?=l.w.heap[b]?) D (λw F K W b a=>(W b<|Ç a).trans<|K b a) (ft:=λw=>w.os=l.w.os/\w.output=l.w.output) (λw F K W=>⟨W.1.trans K.1,W.2.trans K.2⟩) sd hn Z hs;let⟨hAdd,ak7⟩:=hA g r t y B e m p h Z;have Hy:=akO ok hAdd ak7;have uQ:=D.C.d.trans hd;have st':SJ ((lU M f.size n J fQ o g r t y B e m p h cs l).r À) j (u 0) (Ms (lU M f.size n J fQ o g r t y B e m p h cs l) {u 0 with w:=w}) w:=⟨st.fE,st.rd,st.r,st.C,st.k,st.I,st.M,st.f,st.d,st.q,st.N,st.S,st.Y,st.c,st.e⟩;rw[<-hg]at hgo;have p0:=c.akU Hy U U rn st' uQ (λ_=>0) hgo;let⟨N1,E,S1,tr1,kp1,av4,gs1,w1,h_,t1,r1,x,hf,he⟩:=aiV Hy _ _ _ _ _ _ _ f w Q qJ U U p0 (by intro q;cases q);let⟨qy,_⟩:=x.kl hf;let⟨se,c1⟩:=x.akT hf he U h0;let⟨N2,My,SO,gs2,w2,Mz,t2,r2,z2,N,X⟩:=c1.K (λa i z=>Ç<|Hy.M E.I a i z) (tr1 0) _ se _ gs1 w1 h_ t1 U;have sf:gs1.size=f.size+(n+1):=by rw[x.b,qy];rfl
 have MA:=X.C;obtain⟨g2,MB⟩:∃g,gs2[0]?=Á g:=⟨_,fj MA⟩;let⟨g3,u1,u2,u3,_⟩:=X.r.C 0 g2 MB;obtain rfl:g2=g3:=by cases u2;rfl
 have hE:=u1 w2<|X.r.r.r 0 MA;let⟨e1,e2,dat,ts,IX,hge⟩:=hE;have P:0<gs1.size:=Z
 have C:=x.I.r;have hY:=λb q z=>C.I 0 P b (Ç z) q;have H:E.Y e:=Ê<|Ç U;have yG:∀k,k<=gw fQ J->E.Y (g k):=λk T=>Ç<|Ê ⟨k,T,U⟩;have i_:E.Y h:=Ç<|Ç U;let⟨hip,ak8⟩:=x.ak2 hf hn;have hmd:E.S.md=gw fQ J:=by rw[hip];rfl
 let⟨H7,⟨j_,SQ,MC⟩,_⟩:=x.M.M (gw fQ J) Z;have I:=C.N;refine⟨g,r,t,y,B,e,m,p,h,⟨a1,Z,Z,λk T=>by have:=SN k T;omega⟩,N1+N2,E.Y,w1.heap.size,My,SO,gs2,w2,Mz,t2,g2,?_,Z,MB,N.r,I h i_,?_,e1,Hy.M E.I _ _<|u1 w2<|X.r.r.r 0 MA,X,⟨dat.d,dat.c,λk K W=> ?_,λi hi=> ?_,?_,?_,(⟨show e≠h by omega,show m≠h by omega,show g (gw fQ J)≠h by have:=SN (gw fQ J)<|eE _;omega⟩),⟨ts,IX,hge⟩,?_,?_⟩⟩;rwa[runNT_add,show Ζ À N1 (ĳ f w Q) qJ=_ from r1];grind;have a:k<=gw fQ J:=W;refine ŀ (N.M ⟨e,_,Ã⟩ (I e H) (hY e H)<|x.a.g k K Z 0 P)<|x.M.S k K Z;let⟨S,v2⟩:=ak8 i hi;exact ŀ (N.M ⟨e,_,Ã⟩ (I e H) (hY e H)<|v2 0 P) S;refine⟨E.c<|gw fQ J,j_,E.V<|gw fQ J,H7,(ŀ (N.M ⟨g<|gw fQ J,2,Ã⟩ (I _<|yG _<|eE _) (hY _<|yG _<|eE _)<|x.a.N (gw fQ J) Z 0 P) SQ),sd _ _ _ _ _ MC λb q=> ?_,λb q=> ?_⟩;let⟨S,v2,v3⟩:=x.a.I (gw fQ J) Z b q;exact N.lB b S (v3 0 P) λa ha z=>v2<|ha▸C.e 0 P a (Ç z);let⟨S,v2,v3⟩:=x.a.I (gw fQ J) Z b q;exact⟨ff S N.r,λz=>v2<|z▸i_⟩;refine⟨ff (I e H) N.r,X.r.r.fM 0 MA m<|Ê dat.Y,ff (I _<|yG _<|eE _) N.r⟩;let⟨a,y2,_⟩:=(x.M.M 0<|eD _).2.2 U;exact⟨ŀ (N.M ⟨e,J,Ã⟩ (I e H) (hY e H)<|x.a.PO Hy.C 0 P) a,(N.Y e (I e H)<|hY e H).trans y2⟩;let⟨_,_,a⟩:=(x.M.M 0<|eD _).2.2 U;exact⟨N.C.trans a.1,N.I.trans a.2⟩
end
def SR(a:ξ->Prop)(w:Î):fx where
 O:=λb=>b<w.heap.size/\∀x:Û,x.block=b->¬a (Ĳ x)
 I:=λ_=>False
 r:=λ_=>False
 N:=λ_=>False
 K:=λ_=>False
 q:=False
 d:=0
 w:=w
def k_(a:ξ->Prop)(w:Î):gT (SR a w):=⟨λ_ _ h=>h,λ_ h=>h.elim,λ_ h=>h.elim (λq=>q.elim) λq=>q.elim,λ_ h=>h.elim (λq=>q.1) λq=>q.elim,λ_ h=>h.elim (λq=>q.elim) λq=>q.elim,λ_ h=>h.elim⟩
structure xS(j2:ξ->Prop)(H:Nat)(l:fx):Prop where
 r:∀x:Û,j2 (Ĳ x)->x.block<H
 fE:∀b,l.O b->∀x:Û,x.block=b->¬j2 (Ĳ x)
 C:H<=l.w.heap.size
inductive Bj(M:zq):Nat->M.γ->Prop|xn:Bj M 0 M.C|EI {k:Nat} {s s':M.γ} (h:Bj M k s) (hn:M.M k s s'):Bj M (k+1) s'
structure G2(M:zq)(R:Nat)(kd:Nat->Int)(l:fx)(an:Nat)(sl:É)(l':fx):Prop where
 FA:∀b,l.O b->l'.O b/\l'.w.heap[b]?=l.w.heap[b]?
 lS:l'.O an/\∀p,p<R->l'.w.cell? ⟨an,p,Ã⟩=Á (Ø<|M.I p)
 IW:∃s V,Bj M (gw kd R) s/\M.RD s sl V l'.w/\∀b,V b->l'.O b
 d:l'.d=0
 q:¬l'.q
 rd:∀b,¬l'.I b
 xT:(∀a,¬l'.r a)/\(∀a,¬l'.N a)/\∀a,¬l'.K a
 Es:l'.w.cell? ⟨an,R,Ã⟩=Ã/\mo l'.w an=Á (0,0)
section
variable{M:zq}{R H:Nat}{kd:Nat->Int}{e:Nat->Nat}{f:List ò}{l:fx}{j2:ξ->Prop}{o:Nat->fx}
def ak9{a:Option Û}{s:M.γ}(h:oW ((lU M i n R kd e D O a j b m J j9 j7 qX l).r À) k s):Bj M k s:=by
 have c:∀(k:Nat)(s:((lU M i n R kd e D O a j b m J j9 j7 qX l).r À).γ),oW ((lU M i n R kd e D O a j b m J j9 j7 qX l).r À) k s->Bj M k s:=λk s h=>by
  induction h with|xn=>exact .xn|EI _ d f=>exact .EI f d
 exact c k s h
def ala{J:(ξ->Prop)->Nat->Jd}{cf:ò}{a:ŋ}(Lw:qX=cf.at a (Ö Q (i::jJ)::L)::f)(c:tS À j2 H (Mx kd e R n v l qX) .fS D o E w qJ)(F:Option (Nat×Nat))(s:gT l)(Mv:∀b,¬l.I b)(hq:¬l.q)(hd:l.d=0)(S:xS j2 H l)(hV:∀b,M.r b->l.O b)(sd:∀s F V w u,M.RD s F V w->(∀b,V b->u.heap[b]?=w.heap[b]?)->M.RD s F V u)(alb:∀s F V w,M.RD s F V w->(∃p m c,F=È p m c)/\∀b,V b->l.O b\/l.w.heap.size<=b)(Dq:M.RD M.C v M.r l.w)(zn:w.os=l.w.os/\w.output=l.w.output)(hn:1<=n)(hs:n+R<1000)(hA:∀g ib qb ci cq B ba bi I,l.w.heap.size<=ba->Fy (lU M E.size n R kd e g ib qb ci cq B ba bi I qX l)/\Fz (lU M E.size n R kd e g ib qb ci cq B ba bi I qX l))(hJ:∀FC C W B p m c,xS FC C W->gT W->G2 M R kd l B (È p m c) W->fF À Ñ (J FC C) W (G (cf.at (a.put ((Q[i]?).bind (·.dst))<|Ý #[È (Á ⟨B,0,Ã⟩) R R,È p m c])<|Ö Q jJ::L) f)): ∃N FC C T pT IY gs' u uS t',Ζ À N (ĳ E w F) qJ=(.next<|ĳ gs' u uS,t')/\(u.os=l.w.os/\u.output=l.w.output)/\tS À FC C (J FC C) T pT IY gs' u t':=by
 let⟨g,ib,qb,ci,cq,B,ba,bi,I,⟨b1,b2,b3,b4⟩,N,Y,C,pT,IY,gs',u,uS,t',g',r,z1,z2,z3,z4,z5,z6,z7,cY,t⟩:=ak5 c F s Mv hq hd S.C hV sd Dq zn hn hs hA;let⟨st,j_,V,H7,SQ,MC,MD⟩:=t.IW;obtain⟨⟨sp,sm,sc,rfl⟩,m_⟩:=alb _ _ _ _ MC;obtain⟨ts,IX,rfl⟩:=t.ak4;have hH:=S.C;have n_:=λb q=>s.fM b<|Ç q;have X:∀b,(l.O b\/l.w.heap.size<=b)->b<u.heap.size->b≠I->(SR (λj=>j2 j\/∃x:Û,j=Ĳ x/\x.block=I) u).O b:=λb hb iu mP=>by refine⟨iu,λx hx=> ?_⟩;rintro(q|⟨y,P,q2⟩);obtain hb|hb:=hb;exact S.fE b hb x hx q;have:=S.r x q;omega;injection P with P;subst P;omega
 have IZ:=λb q=>by have h:=t.I b q;rw[fj<|n_ b q]at h;exact(fp.1 h).1
 have keep:=λb q=>X b (Ç q) (IZ b q) (by have:=n_ b q;omega);have ME:=X B (Ê b1) t.fM.1 t.r.1;have alc:fF À Ñ (J (λj=>j2 j\/∃x:Û,j=Ĳ x/\x.block=I) C) (SR (λj=>j2 j\/∃x:Û,j=Ĳ x/\x.block=I) u) (Fw ts qX):=by rw[Lw];refine akt (k_ _ _) (λq=>q) IX (Ç<|X ba (Ê b2) t.fM.2.1 t.r.2.1) (Ç<|Ç<|X _ (Ê<|b4 _<|eE _) t.fM.2.2 t.r.2.2) t.cba SQ λW h=> ?_;refine hJ (λj=>j2 j\/∃x:Û,j=Ĳ x/\x.block=I) C W B sp sm sc ⟨λx q=> ?_,λb q x hx=> ?_,Ó z3 h.I⟩ (h.N<|k_ _ _) ⟨λb q=>⟨h.O b<|keep b q,(h.r b (Ç<|keep b q) id).trans<|t.I b q⟩,⟨h.O B ME,λp hp=> ?_⟩,⟨st,V,ak9 H7,sd _ _ _ _ _ MC λb q=>h.r b (Ç<|X b (m_ b q) (MD b q).1 (MD b q).2) id,λb q=>h.O b<|X b (m_ b q) (MD b q).1 (MD b q).2⟩,h.d,?_,λb q=> ?_,⟨λa q=> ?_,λa q=> ?_,λa q=> ?_⟩,⟨(iE<|h.r B (Ç ME) id).trans t.C.1,(yH<|h.r B (Ç ME) id).trans t.C.2⟩⟩;obtain q|⟨y,P,q2⟩:=q;exact ff (S.r x q) z5;injection P with P;subst P;omega;obtain q|q:=h.c b q;exact q.2 x hx;have j:u.heap.size<=b:=q;rintro(z|⟨y,z1,z2⟩);have:=S.r x z;omega;injection z1 with z1;subst z1;omega;refine(iE<|h.r B (Ç ME) id).trans ?_;by_cases hk:kd p=1;have hm:p∈iP kd R:=ü.2 ⟨dZ.2 hp,fN hk⟩;let⟨j,y⟩:=ek hm;have P:=(eP.1 y).1;have:=t.lY (j+1) Z (show j+1<=gw kd R from P);have e2:(iP kd R).getD (j+1-1) 0=p:=dh<|(Dp P).symm.trans y;simp only[lU,Mr,e2]at this;exact this;have hm:p∈kq kd R:=ü.2 ⟨dZ.2 hp,fN hk⟩;let⟨j,y⟩:=ek hm;have P:=(eP.1 y).1;have:=t.SL j P;simp only[lU,Mr,dh<|(Dp P).symm.trans y]at this;exact this;rw[h.q];exact id;rw[h.S]at q;exact q;rw[h.Y]at q;exact q;rw[h.b]at q;exact q;rw[h.K]at q;exact q
 let⟨T,h⟩:=j1 alc;exact⟨N,_,C,T,pT,_,gs',u,uS,t',r,t.io,cY.Y z6 z2 z7 U U id (λ_=>id) (λ_=>id) (λ_=>id) (λ_=>id) (λb q=>q) h⟩
end
def nk(V:Nat->Prop)(base:Nat):fL:=⟨λi j=>i=j/\V i,base⟩
def ald(V:Nat->Prop)(base:Nat):Bi (nk V base):=⟨λ_ _ _ h k=>h.1.symm.trans k.1,λ_ _ _ h k=>h.1.trans k.1.symm,λi j h=>by rw[h.1]⟩
def mT(j:Nat):Bool:=j==3||j==4
def wD(c:Array É):Array É:=c.extract 0 16
def ale(c:Array É):(wD c).size=min 16 c.size:=by simp[wD]
open Classical in
noncomputable def qD (a:Nat->Prop) (j:Nat):Obj->Obj|Ï c e b=>if a j then(if mT j=Ñ then Ï (wD c) e (0,(wD c).size)else Ï c e (0,c.size))else Ï c e b|_=>Ï #[] 0
noncomputable def kL (Sh:Nat->Prop) (w:Î):Î:={w with heap:=w.heap.mapIdx (qD Sh)}
section
variable{V Sh:Nat->Prop}{base:Nat}
def Dr(j:Nat):(kL Sh w).heap[j]?=(w.heap[j]?).map (qD Sh j):=by simp[kL,Array.getElem?_mapIdx]
def o_:kU (kL Sh w):=λi o h=>by
 rw[Dr]at h;obtain⟨x,_,rfl⟩:=Ð.1 h;cases x<;>simp only[qD]<;>try exact id
 split;split<;>exact id;exact id
structure zr(V Sh:Nat->Prop)(base:Nat)(w:Î):Prop where
 r:∀b,V b->∃c e fr,w.heap[b]?=Á (Ï c e fr)/\fr.2<=c.size/\gD (nk V base) c c/\(Sh b->0<c.size/\(mT b=Ñ->(e=298\/e=299)/\fr.2<=16)/\(mT b=Ò->En c))
 fM:base<=w.heap.size
def alf(h:zr V Sh base w):rP (nk V base) Sh (kL Sh w) w:=by
 refine⟨U,U,ald V base,by show base<=(w.heap.mapIdx<|qD Sh).size;rw[Array.size_mapIdx];exact h.fM,h.fM,λi j n=> ?_⟩;obtain⟨rfl,o⟩:=n;let⟨c,e,a,b,l,f,p⟩:=h.r i o;have g:(kL Sh w).heap[i]?=Á (qD Sh i<|Ï c e a):=by rw[Dr,b];rfl
 by_cases s:Sh i;let⟨r,t,u⟩:=p s;cases d:mT i with
 |true=>
  let⟨v,x⟩:=t d;have y:=ale c;have hcut:Gz e (wD c).size:=⟨v,Z⟩;refine⟨wD c,c,e,(0,(wD c).size),a,?_,b,⟨λk z m=> ?_,Z,Ê ⟨s,hcut⟩⟩,λ_=>⟨U,eE _,by show a.2<=(wD c).size;omega,Z,Ê hcut⟩,λq=>absurd s q,eE _⟩;show(kL Sh w).heap[i]?=_;rw[g];simp[qD,s,d];have:(wD c)[k]=c[k]:=by simp[wD]
  rw[this];exact f.C k m m|false=>
  refine⟨c,c,e,(0,c.size),a,?_,b,qV.N f,λ_=>⟨U,eE _,l,r,Ç<|u d⟩,λq=>absurd s q,eE _⟩;rw[g];simp[qD,s,d]
 .refine⟨c,c,e,a,a,?_,b,qV.N f,λq=>absurd q s,λ_=>U,l⟩;rw[g];simp[qD,s]
end
section
variable{a:Nat->Prop}{Post:É->Î->Prop}{l:fx}{V:Nat->Prop}
theorem Bl(y:pI P)(B:rf P a X)(hF:vE P X)(C:xo Post){k:Array É}(D:X F)(E:P.funcs[F]?=Á s)(H:s.body=Á wX)(r:gT l)(I:¬l.q)(n:∀b,V b->l.M b)(J:zr V (λj=>V j/\¬l.O j) P.globals.size l.w)(K:∀g,a g->V g)(L:gD (nk V P.globals.size) k k)(N:∀T,Ù P F k (World.tp (kL (λj=>V j/\¬l.O j) l.w) T 0) fun|Ì v,e=>Post v e/\kU e|_,_=>False)(t:Bool)(o:ò)(p:List ò): fF P t (λh u=>∃(Y:fL)(e:Î)(v m:É),(nk V P.globals.size).r Y/\rP Y (λj=>V j/\¬l.O j) e h.w/\fI Y v m/\Post v e/\u=G (o.finish m) p/\(∀i j,Y i j->h.M j/\(V j\/l.O j\/l.w.heap.size<=j))/\(∀j,l.O j->h.O j)/\h.d=l.d) l (G (ŏ P F k .normal)<|o::p):=by refine(agT (afU y B hF C D E H o_ N (Y:=nk V P.globals.size) U (λg q=>⟨U,K g q⟩) L (alf J) (λj q=>r.fM j<|n j q.1) (λi j _ q=>(n j q.1).resolve_left q.2) t o p) l U (λj q=> ?_) (λ_ q=>q) (λj q=>r.fM j<|Ç q) I).fG ?_;obtain⟨⟨i,rfl,x⟩,Q⟩:=q;grind;rintro h u ⟨O',⟨Y,e,v,m,S,rfl,W,q3,q4,q5⟩,Q,h3,h4,h5,h6,h7,h8,h9,h10,h11,h12⟩;refine⟨Y,e,v,m,S,W,q3,q4,q5,λi j SS=> ?_,h4,h10⟩;by_cases z:V j/\¬l.O j;exact⟨Ê (by rw[h7];exact(n j z.1).resolve_left z.2),Ç z.1⟩;have x:=h3 j ⟨⟨i,SS⟩,z⟩;exact⟨Ç x,Ê<|h6 j x⟩
end
section
variable{l:fx}{V GL:Nat->Prop}
def Ds(s:gT l):gT (nR l):=by refine⟨λ_ h=>h.elim,λ_ h=>h.elim,λa c d=>s.S a (c.resolve_left id)<|d.resolve_left id,λb d=>s.fM b<|d.resolve_left id,λa c=>s.I a<|c.resolve_left id,λa c=>⟨λq=>(s.N a c).1<|q.resolve_left id,(s.N a c).2.1,id⟩⟩
structure FD(GL:Nat->Prop)(f:ĥ)(args:Array É)(l:fx)(V:Nat->Prop)(Post:É->Î->Prop):Prop where
 N:∀b,V b->l.M b
 S:zr V V À.globals.size l.w
 I:∀g,GL g->V g
 r:gD (nk V À.globals.size) args args
 C:∀T,Ù À f args (World.tp (kL V l.w) T 0) fun|Ì v,u'=>Post v u'/\kU u'|_,_=>False
def alg(m:pI À)(n:rf À GL X)(hF:vE À X)(e:X 51){D:SD}(h:∀i s d W l,i<D.q->oW (D.r À) (D.b i) s->D.RD s d W l.w->(∀b,W b->l.M b)->gT l->¬l.q->(∀b,D.RB b->l.M b)->D.RC l.w->∃V,FD GL 51 #[d,Â<|D.h i] l V λv _=>v=Ø (D.i i)):Fz D:=by
 intro i s d W l o p r t f g x y z B;let⟨V,a⟩:=h i s d W l o p r t f g x y;let⟨G,c,C,E⟩:=hF 51 e;have k:(λj=>V j/\¬(nR l).O j)=V:=by funext j;exact propext ⟨λq=>q.1,λq=>⟨q,id⟩⟩
 refine(Bl m n hF (λv u T D h=>h) e C E (Ds f) g (λb q=>Ê<|a.N b q) (by rw[k];exact a.S) a.I a.r (by rw[k];exact a.C) Ò z B).fG ?_;rintro H I ⟨Y,J,v,K,_,_,j,u,T,_,_,F⟩;subst u;cases j;exact⟨F,T⟩
theorem alh(P:pI À)(Q:rf À GL X)(hF:vE À X)(B:X 50){D:SD}(Rg:D.γ->É->Î->Prop)(hRg:∀s a u T n,Rg s a u->Rg s a (World.tp u T n))(h:∀k s a W l,k<D.m->oW (D.r À) k s->D.RD s a W l.w->(∀b,W b->l.M b)->gT l->¬l.q->(∀b,D.RB b->l.M b)->D.RC l.w->∃V,FD GL 50 #[a,Â<|D.l<|k+1] l V (λv u=>∃p n c d,v=Ý #[È p n c,Ø<|D.d<|k+1]/\D.g k s d/\Rg d (È p n c) u)/\ ∀Y S u w d a C,rP Y S u w->fI Y a C->Rg d a u->(∀i j,Y i j->V j\/l.w.heap.size<=j)->∃e,D.RD d C e w/\∀b,e b->∃i,Y i b):Fy D:=by
 intro k s a W l hk hr sd hW E F hRB hRC cl mO;let⟨V,f,tr⟩:=h k s a W l hk hr sd hW E F hRB hRC;let⟨fn,c,hf,g⟩:=hF 50 B;have G:(λj=>V j/\¬(nR l).O j)=V:=by funext j;exact propext ⟨λq=>q.1,λq=>⟨q,id⟩⟩
 refine(Bl P Q hF (λv u T D h=> ?_) B hf g (Ds E) F (λb q=>Ê<|f.N b q) (by rw[G];exact f.S) f.I f.r (by rw[G];exact f.C) Ò cl mO).fG ?_;grind;rintro l' g' ⟨Y,u',v,v',_,q2,q3,⟨p,n,c,d,rfl,H,h3⟩,I,o,_,J⟩;cases q3 with
 |@nG _ cs'' hs lC=>
  let⟨ls⟩:=cs'';match ls,hs with
  |[x,y],_=>
   have r:=lC 0 fD fD;have K:=lC 1 fD fD;simp at r K;cases K;let⟨e,L,N⟩:=tr Y _ u' l'.w d _ x q2 r h3 λi j SS=>(o i j SS).2.imp id λz=>z.resolve_left id;cases r with|oP=>exact⟨J,Ã,n,c,I,d,e,H,L,λb g=>by let⟨i,t⟩:=N b g;exact(o i b t).1⟩|lh=>exact⟨J,_,n,c,I,d,e,H,L,λb g=>by let⟨i,t⟩:=N b g;exact(o i b t).1⟩
end
end fO
namespace Lift
def FE(a:Nat->Bool):ą->Bool|.const (ê cs)|.const (Ý cs)=>cs.toList.all EA|x=>yF a x
def p_(a:Nat->Bool)(x:ą):FE a x=yF a x:=by
 cases x with
 |const v=>cases v<;>simp[FE,yF,O1,ę]
 |_=>rfl
def MG(P:ċ)(a:Nat->Bool)(b c:ĥ->Bool)(o:ĕ):Bool:=(EB P b o.op&&o.op.operands.toList.all (FE a))||(Pg P c o.op&&o.op.operands.toList.all (FE a))
def MH(a:Nat->Bool)(b c:ĥ->Bool)(o:ĕ):MG P a b c o=ED P a b c o:=by have:(FE a)=yF a:=funext<|p_ a;simp[MG,ED,O8,this,ę]
def sT(P:ċ)(a:Nat->Bool)(b d:ĥ->Bool):Ŋ->Bool|.ret|.skip|.label _|.exit _|.goto _=>Ñ|.seq x y=>sT P a b d x&&sT P a b d y|.cond c x y=>FE a c&&sT P a b d x&&sT P a b d y|.block _ c|.loop c|.scope c=>sT P a b d c|ħ _ c _=>c.toList.all<|MG P a b d|.refuse _=>Ñ|_=>Ò
def Bm(a:Nat->Bool)(b d:ĥ->Bool):∀c:Ŋ,sT P a b d c=pL P a b d c|.ret|.skip|.label _|.exit _|.goto _|.refuse _|.rangeFunc _ _ _ _=>rfl|.seq x y=>by simp only[sT,pL,Bm a b d x,Bm a b d y]|.cond c x y=>by simp only[sT,pL,p_,Bm a b d x,Bm a b d y]|.block _ c|.loop c|.scope c=>by simp only[sT,pL,Bm a b d c]|ħ _ x _=>by have:MG P a b d=ED P a b d:=funext<|MH a b d;simp only[sT,pL,this,ę]
end Lift
namespace fO
open Conc Lift RowKit Conc.Lib ConcR.Gen
open YtgpphkdoanciiabGreatDoor
def q_:List Nat:=[17,21,27,37,38,39,44,50,51,62,63,87,97,98,99,100,101,102,103,104,105,106,107,108,109,110,137,138,139,140,141,142,143,144,145,146,152,153,154,155,156,157,158,159,160,161,162,170,171,172,173,174,175,176,177,178,180,181,182,183,184,185,186,187,188,189,190,191,192,193,194,195]
def zt(g:Nat):Bool:=[1,2,3,4].contains g
def zu(f:Nat):Bool:=q_.contains f
def Bn(f:Nat):Bool:=[113,114].contains f
def Dt(P:ċ)(f:Nat):Bool:=match P.funcs[f]? with
 |some a=>match a.body with|some c=>sT P zt zu Bn c|none=>Ò
 |none=>Ò
def ali:q_.all (Dt À)=Ñ:=by rfl
def q'(h:zu i=Ñ):Dt À i=Ñ:=(eI.1 ali) i<|by simpa[zu]using h
def alj(h:Dt P i=Ñ):∃a c,P.funcs[i]?=Á a/\a.body=Á c:=by unfold Dt at h;split at h;rename_i a b;split at h;rename_i c d;exact⟨a,c,b,d⟩;cases h;cases h
def alk(h:Dt P i=Ñ)(a:P.funcs[i]?=Á s)(b:s.body=Á wX):sT P zt zu Bn wX=Ñ:=by rw[Dt,a]at h;simp only[b]at h;exact h
def r_:vE À (λf=>zu f=Ñ):=λ_ h=>alj<|q' h
def alm[B7 P](h:∀f,zu f=Ñ->Dt P f=Ñ)(a:G6 P Bn):rf P (λg=>zt g=Ñ) (λf=>zu f=Ñ):=λf g e c b d=>by have:=alk (h f g) b d;rw[Bm]at this;exact xq a this
instance av5:B7 À:=⟨λe n h=>by
 have h1:À.cellsOf 298=32:=fK
 have h2:À.cellsOf 299=64:=fK
 obtain⟨rfl|rfl,h3⟩:=h
 .rw[h1];omega
 .rw[h2];omega⟩
def aln(a:G6 À Bn):rf À (λg=>zt g=Ñ) (λf=>zu f=Ñ):=alm (λ_ h=>q' h) a
def FF:G6 À Bn:=λf h=>by
 have:f=113\/f=114:=by simpa[Bn]using h
 obtain rfl|rfl:=this;exact⟨_,Extern.AbiNoEscape.same,Tryz.func113,gq,gq,gq,gq,λ_ v a h=>agl v a h,agm⟩;exact⟨_,Extern.BytealgMakeNoZero.makeNoZero #[3] #[98],Tryz.func114,gq,gq,gq,gq,λ_ v a h=>agn #[3] 98 v a h,agp #[3] 98⟩
def t_:rf À (λg=>zt g=Ñ) (λf=>zu f=Ñ):=aln FF
end fO
namespace Lift
open Conc
section
variable{Y:fL}
def alo{e:Array É->Sem É}{y:ą}(c:o.op=š {callee:=.value<|Ι F,args:=#[qQ,y],argTypes:=bX})(l:P.funcs[F]?=Á s)(m:(s.name== "runtime.NumGoroutine")=Ò)(q:s.body.isNone=Ñ)(r:Extern.findNext s=Ã)(t:Extern.find s=Á e)(hrel:∀(Y:fL)(v g z i:É),fI Y v g->fI Y z i->gh P fI Y (e #[v,z]) (e #[g,i]))(B:∀v z,fZ P<|e #[v,z])(C:∀y∈o.op.operands,n5 X y):oC P X pJ o:=by
 have b:∀a:ŋ,ô a.eval o=Ŝ F #[a.eval qQ,a.eval y]:=by intro a;rw[ô,c];simp only[ų,ľ,Deferred.ofValue,Κ,pure_bind,cA,dK,eJ,dR,dG]
 have j:∀(v z:É)(u:Î),(Ŝ F #[v,z]).run P u=(mark (.extern F)>>=λ_=>e #[v,z]>>=λy=>pure (ė y):Sem Next).run P u:=by intro v z u;unfold Ŝ;simp_all
 refine W6 (λY a w _ _ _ h=> ?_) (λa=> ?_) (λa u n D d=> ?_) C;rw[b,b];have E:=h qQ (by rw[c];simp[Ő,Call.operands]);have G:=h y (by rw[c];simp[Ő,Call.operands]);unfold Ŝ;refine .gA (ga tx ?_);rintro J p K w ⟨H,I⟩;rw[H,I];simp only[l,m,q,r,t,Ā,if_false,if_true];apply ga (V:=kj) (.Em (Ê ⟨F,U⟩) (.fY U));intro L _ _ k _;exact oB<|hrel _ _ _ _ _ ((E.fG w).fG k)<|(G.fG w).fG k;rw[b];exact KL (j _ _) (jC (OU _) λ_=>nJ<|B _ _);rw[b,j,ĝ]at d;simp only[mark,υ,Ė]at d;have:υ P (e #[a.eval qQ,a.eval y]>>=λy=>pure (ė y):Sem Next) u=Η n D:=d;rw[ĝ]at this;cases h:(e #[a.eval qQ,a.eval y]).run P u with
 |ok v w=>rw[h]at this;cases this;exact⟨v,U⟩
 |halt z w=>rw[h]at this;cases this
def u_:∀(n:Nat) {Y:fL} {a b:Û} (c:ByteArray),iN Y a b->gh P kj Y (é a n c) (é b n c)
 |0,_,_,_,_,_=> .fY U
 |n+1,Y,a,b,c,h=>by
  unfold é;apply ga (Ky h);intro f v g d e;cases e<;>first|exact .gB|skip
  rename_i k z;cases k<;>first|exact .gB|skip
  exact u_ n _<|(h.fG d).r 1
theorem w_:∀(n:Nat)(a:Û)(b:ByteArray),fZ P<|é a n b|0,_,_=>jL _|n+1,a,b=>by unfold é;refine jC (KJ _ _) λv=> ?_;split;exact w_ n _ _;exact qd _
def alp(h:fI Y v x):gh P kj Y (õ v) (õ x):=by
 cases h<;>first|exact .gB|exact .fY U|skip
 exact u_ _ _<|by assumption
theorem alq(v:É):fZ P (õ v):=by unfold õ;grind [jL,w_,qd]
def alr(h:fI Y v x):gh P kj Y (ø v) (ø x):=by
 cases h<;>first|exact .gB|skip
 rename_i k z;cases k<;>first|exact .gB|exact .fY U
theorem als(v:É):fZ P (ø v):=by unfold ø;grind [jL,qd]
def alu(v a z b:É)(h:fI Y v a)(k:fI Y z b):gh P fI Y (ë #[v,z]) (ë #[a,b]):=by apply ga (alp h);rintro j s d e f;obtain rfl:s=d:=f;apply ga (alr<|k.fG e);rintro l c g m i;obtain rfl:c=g:=i;split;exact .fY (.iZ _ _);exact .fY (.iZ _ _)
theorem alv(v z:É):fZ P (ë #[v,z]):=by refine jC (alq v) λs=>jC (als z) λc=> ?_;grind [jL]
end
end Lift
namespace fO
open Conc Lift
open YtgpphkdoanciiabGreatDoor
def SU:List Nat:=[9,40,7,6,17,27,44,21,37,38,39,62,63,19,28,45,78,79,80,81,82,83,84,85,86,87,88,129,130,131,132,133,15,22,23,24,25,26,41,42,43,64,65,66,67,68,69,70,71,72,73,74,75,76,77,115,116,117,118,119,120,121,122,123,124,125,126,127,128,147,148,149,150,163,164,165,166,167,168,179]
def Bo(f:Nat):Bool:=SU.contains f||f==151
def MI(_:Nat):Bool:=Ò
def MJ(P:ċ)(f:Nat):Bool:=match P.funcs[f]? with
 |some a=>match a.body with|some c=>sT P MI Bo Bn c|none=>Ò
 |none=>Ò
def alx:SU.all (MJ À)=Ñ:=by rfl
def y_(h:SU.contains i=Ñ):MJ À i=Ñ:=(eI.1 alx) i<|fN h
theorem z_(h:MJ P i=Ñ):∃a c,P.funcs[i]?=Á a/\a.body=Á c/\sT P MI Bo Bn c=Ñ:=by unfold MJ at h;grind
def uT:vE À (λf=>Bo f=Ñ):=λf h=>by obtain q|q:=cW.1 h;let⟨a,c,b,d,_⟩:=z_<|y_ q;exact⟨a,c,b,d⟩;rw[beq_iff_eq]at q;subst q;exact⟨_,_,Ŵ,U⟩
def aly(h:Ω.body=Á wX):lX À (λg=>MI g=Ñ) (λf=>Bo f=Ñ) wX:=by unfold Ω at h;cases h;refine .uC (xq FF<|by rw[<-Bm];rfl) (.uC (.vB _ _ λo f=> ?_) .qe);simp only[List.mem_toArray,eK,dr,or_false]at f;obtain rfl|rfl|rfl|rfl:=f;exact K1 FF (by rw[<-MH];rfl);exact K1 FF (by rw[<-MH];rfl);exact alo U Tryz.func169 gq gq gq gq (λ_ v g z o=>alu v g z o) alv λy g=>KV (by simp[Ő,Call.operands]at g;obtain rfl|rfl|rfl:=g<;>rfl);exact K1 FF<|by rw[<-MH];rfl
def FG:rf À (λg=>MI g=Ñ) (λf=>Bo f=Ñ):=λf h i c g a=>by obtain q|q:=cW.1 h;let⟨j,k,b,d,e⟩:=z_<|y_ q;rw[g]at b;cases b;rw[a]at d;cases d;rw[Bm]at e;exact xq FF e;rw[beq_iff_eq]at q;subst q;rw[Ŵ]at g;cases g;exact aly a
end fO
namespace gO
open RowKit Lift
def Hd(p:Prop):Prop:=p
def Hd.oQ{p:Prop}(h:Hd p):p:=h
def fv{p:Prop}(h:p):Hd p:=h
section
variable{f:ĥ}{args:Array É}{Q:ŝ->Î->Prop}
def iT(h:Ù P f args w λe a=>e=Ì v/\a=w)(k:Q (Ì v) w):Ù P f args w Q:=h.mono<|by rintro e a ⟨rfl,rfl⟩;exact k
def gl{R:Î->Prop}(h:Ù P f args w λe a=>e=Ì v/\R a)(k:∀a,R a->Q (Ì v) a):Ù P f args w Q:=h.mono<|by rintro e a ⟨rfl,h⟩;exact k a h
end
abbrev iF(i:Ν):=(i.zero,i.size,i.bytes)
def SV{b:Bool}(h:yQ=b):Ì (Õ yQ)=Ì (Õ b):=by rw[h]
def Du{k:IntKind}{b:Int}(h:c=b):Ì (Æ k c)=Ì (Æ k b):=by rw[h]
def A_{b:ByteArray}(h:B=b):Ì (Ø B)=Ì (Ø b):=by rw[h]
def kN:É->Bool|Æ .u8 _=>Ò|Æ _ _|Õ _=>Ñ|_=>Ò
def my(T:ç):Bool:=T==250||T==239
def tT(m:Nat)(w:Î):Prop:=∀(b:Nat)(c:Array É)(T:ç)(v:Nat×Nat),m<=b->w.heap[b]?=Á (Ï c T v)->my T=Ñ->0<c.size/\∀v∈c.toList,kN v=Ñ
def NF(b:Nat)(w:Î):Prop:=∀(c:Array É)(T:ç)(a:Nat×Nat),w.heap[b]?=Á (Ï c T a)->my T=Ò
structure fw(X:Nat->Prop)(w w':Î):Prop where
 M:w.heap.size<=w'.heap.size
 N:∀k,k<w.heap.size->¬X k->w'.heap[k]?=w.heap[k]?
 iH:kU w->kU w'
 S:∀m,tT m w->tT m w'
section
variable{Y:Nat->Prop}{w' d:Î}
theorem fw.gy(X:Nat->Prop)(w:Î):fw X w w:=⟨eE _,λ_ _ _=>U,id,λ_=>id⟩
def fw.fA(h:fw X W jX)(k:fw X jX d):fw X W d:=⟨Ó h.M k.M,λi b c=>(k.N i (ff b h.M) c).trans<|h.N i b c,λa=>k.iH<|h.iH a,λm a=>k.S m<|h.S m a⟩
def fw.fG(h:fw X w w')(b:∀k,k<w.heap.size->X k->Y k):fw Y w w':=⟨h.M,λk a c=>h.N k a λx=>c<|b k a x,h.iH,h.S⟩
def fw.C(h:fw X W jX)(k:fw Y jX d)(hy:∀i,i<W.heap.size->Y i->X i):fw X W d:=⟨Ó h.M k.M,λi b c=>(k.N i (ff b h.M) λy=>c<|hy i b y).trans<|h.N i b c,λa=>k.iH<|h.iH a,λm a=>k.S m<|h.S m a⟩
def alz(a:kU w)(p:Û)(v:É):kU (w.setCell p v):=by
 intro i o h;by_cases e:i=p.block;subst e;unfold ì at h;simp only[fh,if_true]at h;cases b:w.heap[p.block]? with
 |none=>rw[b]at h;cases h
 |some d=>
  have:=a _ _ b;rw[b]at h;cases d with|cells c t z=>simp only[dT,dI]at h;subst h;exact λx=>x|_=>exact absurd trivial this
 .rw[ā _ _ _ _<|fN e]at h;exact a i o h
theorem I0(a:kU w)(b:Array É)(t:ç)(z:Nat×Nat):kU (w.alloc<|Ï b t z):=by
 intro i o h;by_cases e:i<w.heap.size;rw[Ć _ _ _ e]at h;exact a i o h;by_cases c:i=w.heap.size;subst c;rw[æ]at h;cases h;exact λx=>x;have:(w.alloc<|Ï b t z).heap.size<=i:=by simp;omega
 grind
def alA(a:tT m w)(p:Û)(v:É)(f:kN v=Ñ\/NF p.block w):tT m (w.setCell p v):=by
 intro i c T k g h b;by_cases e:i=p.block;subst e;unfold ì at h;simp only[fh,if_true]at h;cases d:w.heap[p.block]? with
 |none=>rw[d]at h;cases h
 |some l=>
  rw[d]at h;cases l with
  |cells o t z=>
   simp only[dT,dI,Ĥ]at h;obtain⟨n,rfl,rfl⟩:=h;obtain f|f:=f;subst n;split;exact a _ _ _ _ g d b;refine⟨by rw[dy];exact(a _ _ _ _ g d b).1,λu j=> ?_⟩;rw[dF]at j;obtain q|q:=eO j;exact(a _ _ _ _ g d b).2 u q;rwa[q];rw[f _ _ _ d]at b;cases b
  |_=>cases h
 .rw[ā _ _ _ _<|fN e]at h;exact a i c T k g h b
theorem I1(a:tT m w)(b:Array É)(t:ç)(z:Nat×Nat)(j:my t=Ò\/0<b.size/\∀v∈b.toList,kN v=Ñ):tT m (w.alloc<|Ï b t z):=by
 intro i c T d f h g;by_cases e:i<w.heap.size;rw[Ć _ _ _ e]at h;exact a i c T d f h g;by_cases k:i=w.heap.size;grind [æ];have:(w.alloc<|Ï b t z).heap.size<=i:=by simp;omega
 grind
def fw.I{p:Addr}(hx:X p.block)(v:Value)(hv:kN v=true\/NF p.block w:=by first|exact Or.inl (by rfl)|exact Or.inr<|by assumption):fw X w (w.setCell p v):=⟨fD,λk _ hk=>ā _ _ _ _ (by intro e;subst e;exact hk hx),λa=>alz a p v,λ_ a=>alA a p v hv⟩
def fw.gP(X:Nat->Prop)(w:World)(cs:Array Value)(t:TypeId)(hf:my t=false\/0<cs.size/\∀v∈cs.toList,kN v=true:=by first|exact Or.inl (by decide)|exact Or.inr ⟨by simp,by simp[kN]⟩):fw X w (w.alloc<|.cells cs t):=⟨fD,λk hk _=>Ć _ _ _ hk,λa=>I0 a cs t (0,0),λ_ a=>I1 a cs t (0,0) hf⟩
def fw.iQ(X:Nat->Prop)(w:Î)(n:Nat):fw X w (w.drewN n):=⟨eE _,λ_ _ _=>U,id,λ_=>id⟩
def fw.gM(X:Nat->Prop)(w:Î):fw X w w.drew:=⟨eE _,λ_ _ _=>U,id,λ_=>id⟩
def kp{X:Nat->Prop}{w w':World}(h:fw X w w':=by repeat' (first|(with_reducible exact fw.gy _ _)|(with_reducible refine fw.fA ?_<|fw.iQ _ _ _)|(with_reducible refine fw.fA ?_<|fw.gM _ _)|(with_reducible refine fw.fA ?_<|fw.gP _ _ _ _))):fw X w w':=h
def fw.r(h:fw X w w')(b:w.cell? a=Á v)(c:¬X a.block):w'.cell? a=Á v:=by rwa[World.cell?_of_block<|h.N _ (ß w a b) c]
end
def I2{u:É}(h:j≠b):(w.setCell ⟨j,i,Ã⟩ u).cell? ⟨b,n,Ã⟩=w.cell? ⟨b,n,Ã⟩:=World.cell?_setCell_other _ _ _ _<|by intro e;injection e with e1 e2;exact h e1
def fy(j:Nat)(vs:List É)(T:ç)(w:Î):Prop:=w.heap[j]?=Á (Ï vs.toArray T (0,0))
section
variable{vs:List É}{w':Î}
def fy.N(w:Î)(vs:List É)(T:ç):fy w.heap.size vs T (w.alloc<|Ï vs.toArray T):=æ w _
def fy.M(h:fy j vs T w):j<w.heap.size:=by obtain a|a:=ey j w.heap.size;exact a;rw[fy,dj a]at h;cases h
def fy.r(h:fy j vs T w)(i:Nat)(v:É)(a:vs[i]?=Á v):w.cell? ⟨j,i,Ã⟩=Á v:=by unfold fy at h;simp only[ã,h,eW,Ā,if_false,eu];exact a
def fy.I(h:fy j vs T w)(i:Nat):w.frozen? ⟨j,i,Ã⟩=Ò:=by unfold fy at h;simp[ı,h]
def fy.Al(h:fy j vs T w)(e:w'.heap[j]?=w.heap[j]?):fy j vs T w':=by unfold fy;rwa[e]
def fy.C(h:fy j vs T w)(k:fw X w w')(a:¬X j):fy j vs T w':=h.Al<|k.N j h.M a
theorem fy.fR(h:fy j vs T w)(i:Nat)(u:É):fy j (vs.set i u) T (w.setCell ⟨j,i,Ã⟩ u):=by unfold fy at h|-;unfold ì;grind
def fy.S(h:fy j vs T w)(hT:my T=false:=by decide):NF j w:=λc T' fr q=>by unfold fy at h;rw[h]at q;cases q;exact hT
theorem fy.H(h:fy j vs T w)(k:fy i l e w)(a:T≠e):j≠i:=by rintro rfl;unfold fy at h k;grind
end
section
variable{w':Î}{base:Nat}{size:Nat}{xs:List É}
def alB(h:w.ownsRow base e size v n xs)(k:∀j,v.ownBlock=Á j->w'.heap[j]?=w.heap[j]?):w'.ownsRow base e size v n xs:=by let⟨c,a⟩:=h;refine⟨c,?_⟩;obtain a|⟨g,d,f,b,i,l,r⟩:=a;exact Ç a;refine Ê ⟨g,d,f,b,i,?_,r⟩;rw[k g (by rw[b];rfl)];exact l
def ia(h:w.ownsRow base e size v n xs)(k:fw X w w')(b:∀j,v.ownBlock=Á j->¬X j):w'.ownsRow base e size v n xs:=alB h λj a=>k.N j (h.lt j a).2<|b j a
theorem jj(h:w.ownsRow base e size v n xs):∃a c,v=È a n c:=by obtain⟨b,d⟩|⟨g,f,i,b,_⟩:=h.2;all_goals grind
theorem lN(h:w.ownsRow base e size v n xs)(a:v.ownBlock=Á j):∃b,w.heap[j]?=Á (Ï b e (0,0)):=by obtain⟨c,_⟩|⟨g,f,b,c,_,d,_⟩:=h.2;rw[c]at a;cases a;rw[c]at a;cases a;exact⟨b,d⟩
theorem iG(h:w.ownsRow base e size v n xs)(k:fy j l T w)(a:e≠T):v.ownBlock≠Á j:=by intro q;let⟨b,c⟩:=lN h q;unfold fy at k;grind
theorem I3(h:w.ownsRow base e size v n xs)(k:w.ownsRow i t b x m l)(a:e≠t)(c:v.ownBlock=Á j):x.ownBlock≠Á j:=by grind [lN]
theorem SX{n:Nat}(h:v∈(è d n).toList):v∈d.toList:=by unfold è at h;grind [Array.toList_map,getElem,Đ]
structure nU(w:Î)(base:Nat)(e:ç)(size:Nat)(v:É)(n:Nat)(xs:List É)(m:Nat)(news:List É)(v':É)(w':Î):Prop where
 fE:w'.ownsRow base e size v' (n+m) (xs++news)
 r:fw (λk=>v.ownBlock=Á k) w w'
 C:v'.ownBlock=v.ownBlock\/v'.ownBlock=Á w.heap.size
 I:∀v0 n0 zv,w.ownsRow base e size v0 n0 zv->(v0.ownBlock=v.ownBlock->n0<=n)->w'.ownsRow base e size v0 n0 zv
def nU.alC(c:w.ownsRow base e size v n xs)(f:l.length=m*size)(g:base<=w.heap.size)(j:n+m<=i)(o:i<=ĸ)(p:d.size=i*size)(q:d.toList.take ((n+m)*size)=xs++l)(r:my e=Ò\/0<d.size/\∀v∈d.toList,kN v=Ñ): nU w base e size v n xs m l (È (Á ⟨w.heap.size,0,Ã⟩) (n+m) i) (w.drew.alloc<|Ï d e):=by have b:∀X,fw X w (w.drew.alloc<|Ï d e):=λX=>⟨fD,λk s _=>Ć _ _ _ s,λa=>I0 a d e (0,0),λ_ a=>I1 a d e (0,0) r⟩;refine⟨⟨by rw[ä,c.1,f,ĩ],Ê ⟨w.heap.size,i,d,U,g,æ w.drew _,j,o,p,q⟩⟩,b _,Ê U,λt u x h _=>ia h (b λ_=>False) λ_ _=>id⟩
theorem SY{ty:ç}{bytes:Nat}(F:P.underlying t=Á (.slice e))(G:P.info? e=Á zJ)(Q:zJ.zero=Á z)(hsize:zJ.size=size)(pP:zJ.bytes=bytes)(mS:z.cells.size=size)(p:w.ownsRow base e size v n xs)(a:Û)(c:Nat)(b:List É)(hm:0<m)(r:b.length=m*size)(H:∀j u,b[j]?=Á u->w.cell? (a.add j)=Á u)(h1:∀u∈b,u.oneCell'=Ñ)(S:n+m<=ĸ)(V:(n+m)*bytes<=140737488355328)(Dv:base<=w.heap.size)(W:my e=Ò\/(0<b.length/\(∀u∈xs++b,kN u=Ñ)/\∀u∈z.cells.toList,kN u=Ñ)): ∃x w',(ε #[t,t] ty #[v,È (Á a) m c]).run P w=Η x w'/\nU w base e size v n xs m b x w':=by
 subst hsize;subst pP;have alD:n+m<=9223372036854775807:=by simp only[ĸ]at S;omega
 have hlen:(xs++b).length=(n+m)*zJ.size:=by rw[ä,p.1,r,ĩ]
 have av6:=p;have tk:∀d,((xs.toArray++b.toArray++è z.cells (Ī w (n+m) d e-(n+m))).toList.take ((n+m)*zJ.size)=xs++b):=λd=>by grind
 have sz:∀d,(xs.toArray++b.toArray++è z.cells (Ī w (n+m) d e-(n+m))).size=Ī w (n+m) d e*zJ.size:=λd=>by have x:=ő w (n+m) d e;simp only[b7,eN,size_zeroCells,mS,p.1,r,<-ĩ];congr 1;omega
 have alE:∀d,my e=Ò\/0<(xs.toArray++b.toArray++è z.cells (Ī w (n+m) d e-(n+m))).size/\∀v∈(xs.toArray++b.toArray++è z.cells (Ī w (n+m) d e-(n+m))).toList,kN v=Ñ:=λd=>by
  cases s:my e with
  |false=>exact Ç U|true=>
   obtain q|⟨x,B,I⟩:=W;rw[q]at s;cases s;refine Ê ⟨by simp only[b7,eN];omega,λv f=> ?_⟩;simp only[cL,dx]at f;obtain(f|f)|f:=f;exact B v<|ī _ f;exact B v<|List.mem_append_right _ f;exact I v<|SX f
 have gr:=λd=>nU.alC p r Dv (ő w (n+m) d e) (grownCap_le_maxLen w (n+m) d e S) (sz d) (tk d)<|alE d;obtain⟨rfl,rfl⟩|⟨g,y,h,rfl,hbg,C,hnc,hcm,X,htake⟩:=p.2;have J:=Ü (by simpa using p.1);subst J;have Y:=run_append_nil w t ty e zJ z F G Q a m c b r H hm Z (by have x:=V;simp only[dQ]at x;omega);grind;by_cases K:n+m<=y;have SZ:n*zJ.size+b.length<=h.size:=by rw[r,X,<-ĩ];exact eB _ K
 have Y:=run_append_room w t ty e zJ F G g n y h C a m c b r H h1 K SZ;have E:=Ĭ w g h (h.toList.take (n*zJ.size)++b++h.toList.drop (n*zJ.size+b.length)).toArray e _ C;have L:=λk (M:k≠g)=>Ğ w g k (h.toList.take (n*zJ.size)++b++h.toList.drop (n*zJ.size+b.length)).toArray M;have N:(h.toList.take (n*zJ.size)++b++h.toList.drop (n*zJ.size+b.length)).toArray.size=h.size:=by grind
 have kp:fw (λk=>đ (È (Á ⟨g,0,Ã⟩) n y)=Á k) w (w.setRow g (h.toList.take (n*zJ.size)++b++h.toList.drop (n*zJ.size+b.length)).toArray):=by refine⟨fD,λk _ M=>L k λe=>M (by simp[đ,e]),λal q o l=> ?_,λm' hF q c T fr O l s=> ?_⟩;rotate_left;by_cases D:q=g;subst D;rw[E]at l;cases l;obtain qq|⟨_,B,_⟩:=W;grind;refine⟨by rw[N];exact(hF _ _ _ _ O C s).1,λu x=> ?_⟩;simp only[dx]at x;obtain(x|x)|x:=x;grind;grind;exact(hF _ _ _ _ O C s).2 u<|List.mem_of_mem_drop x;rw[L q D]at l;exact hF q c T fr O l s;by_cases D:q=g;subst D;rw[E]at l;cases l;exact λx=>x;rw[L q D]at l;exact al q o l
 refine⟨_,_,Y,⟨hlen,Ê ⟨g,y,_,U,hbg,E,K,hcm,by rw[N,X],?_⟩⟩,kp,Ç U,λo q zv x s=> ?_⟩;grind;by_cases f:o.ownBlock=Á g;let⟨B,I⟩:=x;refine⟨B,?_⟩;obtain⟨rfl,_⟩|⟨g0,D,av7,rfl,O,l,T,b4,b5,b6⟩:=I;cases f;have:g0=g:=by simpa[đ]using f
 subst this;rw[C]at l;cases l;refine Ê ⟨g0,D,_,U,O,E,T,b4,by rw[N,b5],?_⟩;rw[htake];have av8:q*zJ.size<=n*zJ.size:=eB _<|s f;grind;exact ia x kp λj l J=>f (by rw[l];simpa[đ]using J.symm);exact⟨_,_,(Ŗ w t ty e zJ z F G Q ⟨g,0,Ã⟩ n y xs p.1 (p.cells U) a m c b r H Z Z<|Ş Z V),gr y⟩
def xU{P:Program}{ops:Array Oper}{rest:List Oper}{o:Oper}{a:Act}{Q:Exit->Act->World->Prop}(I4:o.guard=none)(s x:Operand)(t:TypeId)(ho:o.op=.call {callee:=.builtin .append,args:=#[s,x],argTypes:=#[t,t]}){i:TypeInfo}{z:Value}{bytes:Nat}(ht:P.underlying t=some (.slice e))(hi:P.info? e=some i)(hz:i.zero=some z)(hsize:i.size=size)(pP:i.bytes=bytes)(mS:z.cells.size=size)(hs:a.eval s=v)(zj:w.ownsRow base e size v n xs)(ad:Addr){m c:Nat}(news:List Value)(hx:a.eval x=.slice (some ad) m c)(hm:0<m)(hl:news.length=m*size)(S0:∀j u,news[j]?=some u->w.cell? (ad.add j)=some u)(h1:∀u∈news,u.oneCell'=true)(Dw:n+m<=maxLen)(Dx:(n+m)*bytes<=140737488355328)(Dv:base<=w.heap.size)(h:∀v' w',nU w base e size v n xs m news v' w'->wpList P ops Q rest (a.put o.dst v') w')(hfl:my e=false\/(0<news.length/\(∀u∈xs++news,kN u=true)/\∀u∈z.cells.toList,kN u=true):=by first|exact Or.inl (by decide)|exact Or.inr ⟨by simp,by simp[kN],by simp[kN,Value.cells]⟩): wpList P ops Q (o::rest) a w:=by refine ŵ I4 λK hK=> ?_;let⟨v',w',hr,h2⟩:=SY (ty:=o.type) ht hi hz hsize pP mS zj ad c news hm hl S0 h1 Dw Dx Dv hfl;unfold ğ ô;simp only[ho,ų,Κ,Ρ,ĝ,Ŷ,Ė,eJ,dR,dG,hs,hx,hr];exact hK _ _<|h v' w' h2
end
structure I5 where
 fC:Int
 C:ByteArray
 r:Nat->Int
abbrev St:=Nat->I5
def St.fR(s:St)(i:Nat)(a:I5):St:=λj=>if j=i then a else s j
def St.fC(s:St)(i:Nat)(b:Int):St:=s.fR i {s i with fC:=b}
def St.r(s:St)(i:Nat)(p:ByteArray):St:=s.fR i {s i with C:=p}
def St.C(s:St)(i j:Nat)(v:Int):St:=s.fR i {s i with r:=λk=>if k=j then v else(s i).r k}
def jW(n:Int):É:=Æ Ë n
def kt(n:Int):É:=Æ Í n
def si(s:St)(i:Nat):É:=if i%18=0 then jW (s<|i/18).fC else if i%18=1 then Ø (s<|i/18).C else jW ((s<|i/18).r<|i%18-2)
def tU(s:St)(a:É)(i:Nat):É:=if 144<=i then a else si s i
theorem sU(s:St)(a:É)(h:i<144):tU s a i=si s i:=by rw[tU,if_neg Z]
def jY(s:St)(lv:É):List É:=(Þ 145).map<|tU s lv
theorem oh(s:St)(lv:É):(jY s lv).length=145:=by simp[jY]
theorem I6(s:St)(a:É)(h:i<145):(jY s a)[i]?=Á (tU s a i):=by unfold jY;grind
theorem A'{s:St}(h:l.length=145)(a:∀i,i<145->l[i]?=Á (tU s v i)):l=jY s v:=by apply dP;grind [I6,oh]
section
variable(s:St)(lv:É)
def I7(h:i<8):tU s lv (i*18)=jW (s i).fC:=by rw[sU _ _ Z,si,if_pos Z,show i*18/18=i from by omega]
def ML(h:i<8):tU s lv (i*18+1)=Ø (s i).C:=by rw[sU _ _ Z,si,if_neg Z,if_pos Z,show(i*18+1)/18=i from by omega]
def MN(h:i<8)(a:j<16):tU s lv (i*18+2+j)=jW ((s i).r j):=by rw[sU _ _ Z,si,if_neg Z,if_neg Z,show(i*18+2+j)/18=i from by omega,show(i*18+2+j)%18-2=j from by omega]
theorem MO:tU s lv 144=lv:=by unfold tU;grind
theorem alF(v:É):(jY s lv).set 144 v=jY s v:=by refine A' (by rw[ý,oh]) λi a=> ?_;by_cases e:i=144;grind [oh,MO];rw[ĭ<|cR e,I6 _ _ a,sU _ _ Z,sU _ _ Z]
theorem S2(f:i<144){c:St}(g:tU c lv i=v)(h:∀b,b<144->b≠i->si c b=si s b):(jY s lv).set i v=jY c lv:=by refine A' (by rw[ý,oh]) λb d=> ?_;by_cases e:b=i;grind [oh];rw[ĭ<|cR e,I6 _ _ d];grind [sU,MO]
def B_(h:i<8)(b:Int):(jY s lv).set (i*18) (jW b)=jY (s.fC i b) lv:=by refine S2 s lv Z ?_ λk a c=> ?_;rw[I7 _ _ h];simp[St.fC,St.fR];unfold si;by_cases e:k/18=i;have:k%18≠0:=Z;simp[St.fC,St.fR,e,this];simp[St.fC,St.fR,e]
def alG(h:i<8)(p:ByteArray):(jY s lv).set (i*18+1) (Ø p)=jY (s.r i p) lv:=by refine S2 s lv Z ?_ λk a b=> ?_;rw[ML _ _ h];simp[St.r,St.fR];unfold si;by_cases e:k/18=i;have:k%18≠1:=Z;simp[St.r,St.fR,e,this];simp[St.r,St.fR,e]
def alH(h:i<8)(c:j<16)(v:Int):(jY s lv).set (i*18+2+j) (jW v)=jY (s.C i j v) lv:=by refine S2 s lv Z ?_ λk d f=> ?_;rw[MN _ _ h c];simp[St.C,St.fR];unfold si;by_cases e:k/18=i;by_cases a:k%18=0;simp[St.C,St.fR,e,a];by_cases b:k%18=1;simp[St.C,St.fR,e,b];have:k%18-2≠j:=Z;simp[St.C,St.fR,e,a,b,this];simp[St.C,St.fR,e]
end
def jk(b:Nat)(T:ç)(tl:List É)(s:St)(lv:É)(w:Î):Prop:=fy b (jY s lv++tl) T w
section
variable{tl:List É}{s:St}{lv:É}{w':Î}
def jk.nL(h:jk b T tl s lv w)(a:i<145):w.cell? ⟨b,i,Ã⟩=Á (tU s lv i):=fy.r h i _<|by rw[eR (by rwa[oh]),I6 _ _ a]
def jk.A0(h:jk b T tl s lv w)(c:i<145){a:St}(e:(jY s lv).set i v=jY a x):jk b T tl a x (w.setCell ⟨b,i,Ã⟩ v):=by have:=fy.fR h i v;rw[ei _ _ (show i<(jY s lv).length by rwa[oh]),e]at this;exact this
def jk.fC(h:jk b T tl s lv w)(a:i<8):w.cell? ⟨b,i*18,Ã⟩=Á (Æ Ë (s i).fC):=by rw[h.nL Z,I7 _ _ a];rfl
def jk.FH(h:jk b T tl s lv w)(a:i<8):w.cell? ⟨b,i*18+1,Ã⟩=Á (Ø (s i).C):=by rw[h.nL Z,ML _ _ a]
def jk.alI(h:jk b T tl s lv w)(a:i<8)(c:j<16):w.cell? ⟨b,i*18+2+j,Ã⟩=Á (Æ Ë<|(s i).r j):=by rw[h.nL Z,MN _ _ a c];rfl
def jk.wE(h:jk b T tl s lv w):w.cell? ⟨b,144,Ã⟩=Á lv:=by rw[h.nL Z,MO]
def jk.Bp(h:jk b T tl s lv w)(a:i<8)(x:Int):jk b T tl (s.fC i x) lv (w.setCell ⟨b,i*18,Ã⟩<|Æ Ë x):=h.A0 Z<|B_ s lv a x
def jk.alJ(h:jk b T tl s lv w)(a:i<8)(x:ByteArray):jk b T tl (s.r i x) lv (w.setCell ⟨b,i*18+1,Ã⟩<|Ø x):=h.A0 Z<|alG s lv a x
def jk.S3(h:jk b T tl s lv w)(a:i<8)(c:j<16)(x:Int):jk b T tl (s.C i j x) lv (w.setCell ⟨b,i*18+2+j,Ã⟩<|Æ Ë x):=h.A0 Z<|alH s lv a c x
def jk.alK(h:jk b T tl s lv w)(v:É):jk b T tl s v (w.setCell ⟨b,144,Ã⟩ v):=h.A0 Z<|alF s lv v
end
def uU(b:Bool):Int:=if b then 1 else 0
def I8(b:Bool)(w:Î):Ù À 143 #[Õ b] w λe a=>e=Ì (Æ Ë<|uU b)/\a=w:=by
 go_enter Tryz.func143,Tryz.ntmps143;go_wp2;all_goals go_ret
 all_goals refine⟨Du ?_,U⟩
 all_goals simp[uU, *]
def alL(b o:Nat)(s:Int)(c:0<=s)(d:s<18446744073709551616)(w:Î):Ù À 192 #[Â<|Á ⟨b,o,Ã⟩,Æ Ë s] w λe a=>e=Ì (Â<|Á ⟨b,o+2+(s%16).toNat,Ã⟩)/\a=w:=by
 go_enter Tryz.func192,Tryz.ntmps192;go_wp2;all_goals go_ret
 exact⟨U,U⟩
def wu(n:Int):Int:=Ë.wrap n
def sj{n:Int}(a:0<=n)(b:n<18446744073709551616):wu n=n:=by show n%18446744073709551616=n;omega
def MP(n:Int):wu n=n%18446744073709551616:=rfl
def alM(n:Int):0<=wu n:=by rw[MP];omega
def alN(n:Int):wu n<18446744073709551616:=by rw[MP];omega
def xV(k p q:Int):Int:=
 if k=2 then wu (p+q)else if k=3 then wu (p-q)else if k=4 then wu (p*q)
 else if k=5 then(if q=0 then 0 else p/q)else if k=6 then uU (decide<|p<q)else uU (decide<|p=q)
def alO(k p q:Int)(b:0<=p)(c:p<18446744073709551616)(d:0<=q)(f:q<18446744073709551616)(w:Î):Ù À 195 #[Æ Í k,Æ Ë p,Æ Ë q] w λe a=>e=Ì (Æ Ë<|xV k p q)/\a=w:=by
 go_enter Tryz.func195,Tryz.ntmps195;go_wp2_with (go_at_call 143;refine iT (I8 _ _) ?_);all_goals simp only[beq_iff_eq,beq_eq_false_iff_ne,ne_eq]at*
 all_goals first|(exfalso;simp_all;done)|(go_ret;refine⟨Du ?_,U⟩;simp[xV,wu, *];done)|(go_ret;refine⟨Du ?_,U⟩;simp[xV,wu, *];rfl)
structure RC where
 x:Nat
 y:Nat
 k:Int
 d:Int
 g:Int
def om(a:Nat)(c:RC)(b:É):List É:=[Â<|Á ⟨a,0,Ã⟩,Æ Í c.x,Æ Í c.y,Æ Ë c.k,Æ Í c.d,Æ Ë c.g,b]
def lE(l:List Int):List É:=l.map jW
theorem alP{base:Nat}(h:w.ownsRow base e 1 (È O (n+1) i) (n+1) (l++[x])):w.ownsRow base e 1 (È O n i) n l:=by let⟨d,b⟩:=h;simp only[ä,eH,ŗ,Į]at d;refine⟨Z,?_⟩;obtain⟨b,_⟩|⟨g,q,f,b,j,k,r,m,o,p⟩:=b;cases b;cases b;refine Ê ⟨g,i,f,U,j,k,Z,m,o,?_⟩;have:=congrArg (List.take n) p;grind
def MQ{base:Nat}(h:w.ownsRow base e 1 (È O (n+1) i) (n+1) (l++[x])):∃g,O=Á ⟨g,0,Ã⟩/\w.cell? ⟨g,n,Ã⟩=Á x/\n+1<=i:=by let⟨f,d⟩:=h;simp only[ä,eH,ŗ,Į]at f;obtain⟨d,_⟩|⟨g,o,p,d,q,j,k,r,s,m⟩:=d;cases d;cases d;refine⟨g,U,?_,k⟩;have:=congrArg (λb=>b[n]?) m;simp only[Į]at this;rw[eM Z,eT Z,show n-l.length=0 by omega]at this;simp only[ã,j];simpa using this
def MR(j d:Nat)(c:RC)(f:É)(base:Nat)(b:List Int)(p:Int)(w:Î)(i:fy d (om j c f) 276 w)(h:w.ownsRow base 23 1 f (b.length+1) (lE b++[jW p]))(k:b.length<=1000): Ù À 188 #[Â<|Á ⟨d,0,Ã⟩] w λe g=>e=Ì (Æ Ë p)/\∃a,g=w.setCell ⟨d,6,Ã⟩ a/\w.ownsRow base 23 1 a b.length (lE b)/\a.ownBlock=f.ownBlock:=by obtain⟨a,cp,rfl⟩:=jj h;obtain⟨g,rfl,l,m⟩:=MQ h;have e:=alP h;have o:=i.r 6 _ U;have q:=i.I 6;have H:=fv e;generalize b.length=n at*;go_enter Tryz.func188,Tryz.ntmps188;go_wp2;go_ret;refine⟨U,_,U,?_,U⟩;simpa using H.oQ
def FI:(À.info? 23).map iF=Á (Á<|Æ Ë 0,1,8):=fK
def B'(q b:Nat)(c:RC)(d:É)(base:Nat)(l:List É)(n:Nat)(f m:Nat)(cp:Nat)(a:List É)(w:Î)(g:fy b (om q c d) 276 w)(o:w.ownsRow base 23 1 d n l)(E:n+m<=1000)(r:0<m)(s:a.length=m)(t:∀j u,a[j]?=Á u->w.cell? ((⟨f,0,Ã⟩:Û).add j)=Á u)(v:∀u∈a,u.oneCell'=Ñ)(x:base<=w.heap.size): Ù À 187 #[Â<|Á ⟨b,0,Ã⟩,È (Á ⟨f,0,Ã⟩) m cp] w λe p=>e=Ì (Ý #[])/\∃i k,nU w base 23 1 d n l m a i k/\p=k.setCell ⟨b,6,Ã⟩ i:=by let⟨F,y,z,B,C⟩:=ć FI;have D:=g.r 6 _ U;have p:=iG o g A;have H:=fv g;go_enter Tryz.func187,Tryz.ntmps187;go_wp2_with (at_builtin;refine xU U _ _ 224 U Tryz.underlying224 y z B C U U o ⟨f,0,Ã⟩ a U r (by rw[s,Į]) t v (by unfold ĸ;omega) Z x ?_;intro i k e;obtain⟨G,I,rfl⟩:=jj e.fE;have J:=e.r.r D p;have K:=(H.C e.r p).I 6);go_end0;exact⟨U,_,_,e,U⟩
def je(l:List (Nat×Int)):List É:=l.flatMap λp=>[kt p.1,jW p.2]
structure jZ where
 r:Nat
 T:ç
 C:List É
structure jZ.Ok(E:jZ):Prop where
 M:E.T≠23
 r:E.T≠250
 I:E.T≠276
 N:E.T≠294
 alQ:E.T≠245
 alR:E.T≠239
def jZ.Ok.C{E:jZ}(h:E.Ok):my E.T=Ò:=by rw[my,beq_eq_false_iff_ne.2 h.r,beq_eq_false_iff_ne.2 h.alR];rfl
structure R(E:jZ)(rb:Nat)(c:RC)(sv lv:É)(ss:List Int)(s:St)(ls:List (Nat×Int))(w:Î):Prop where
 r:fy rb (om E.r c sv) 276 w
 I:w.ownsRow 0 23 1 sv ss.length (lE ss)
 C:jk E.r E.T E.C s lv w
 M:w.ownsRow 0 250 2 lv ls.length (je ls)
structure Tr(E:jZ)(rb:Nat)(sv lv:É)(n:Nat)(w:Î)(lO pT:É)(n':Nat)(w':Î):Prop where
 r:fw (λk=>k=E.r\/k=rb\/sv.ownBlock=Á k\/lv.ownBlock=Á k) w w'
 s:∀j,lO.ownBlock=Á j->sv.ownBlock=Á j\/w.heap.size<=j
 l:∀j,pT.ownBlock=Á j->lv.ownBlock=Á j\/w.heap.size<=j
 C:∀v0 n0 zv,w.ownsRow 0 250 2 v0 n0 zv->(v0.ownBlock=lv.ownBlock->n0<=n)->w'.ownsRow 0 250 2 v0 n0 zv/\(v0.ownBlock=pT.ownBlock->n0<=n')
section
variable{E:jZ}{rb:Nat}{c:RC}{sv lv f o:É}{ss:List Int}{s:St}{ls:List (Nat×Int)}
theorem Tr.gy(E:jZ)(rb:Nat)(sv lv:É)(n:Nat)(w:Î):Tr E rb sv lv n w sv lv n w:=⟨fw.gy _ _,λ_ h=>Ç h,λ_ h=>Ç h,λ_ _ _ h k=>⟨h,k⟩⟩
theorem Tr.fA(h:Tr E rb sv lv n w f z b u)(k:Tr E rb f z b u o jQ m W):Tr E rb sv lv n w o jQ m W:=by refine⟨h.r.C k.r ?_,λj a=> ?_,λj a=> ?_,λc d g p q=> ?_⟩;rintro i r (e|e|e|e);exact Ç e;grind;exact Ê<|Ê<|Ç<|(h.s i e).resolve_right Z;exact Ê<|Ê<|Ê<|(h.l i e).resolve_right Z;obtain e|e:=k.s j a;exact h.s j e;exact Ê<|Ó h.r.M e;obtain e|e:=k.l j a;exact h.l j e;exact Ê<|Ó h.r.M e;let⟨e,i⟩:=h.C c d g p q;exact k.C c d g e i
def Tr.I(k:fw X w u)(c:∀i,i<w.heap.size->X i->i=E.r\/i=rb\/sv.ownBlock=Á i)(d:∀j,f.ownBlock=Á j->sv.ownBlock=Á j\/w.heap.size<=j)(g:∀i a,X i->w.heap[i]?≠Á (Ï a 250 (0,0))):Tr E rb sv lv n w f lv n u:=⟨k.fG λi h q=>(c i h q).elim Ç λe=>Ê (e.elim Ç λe=>Ê<|Ç e),d,λj q=>Ç q,λp r s b l=>⟨ia b k λj m q=>by let⟨a,o⟩:=lN b m;exact g j a q o,l⟩⟩
def Tr.alS{Y:Nat->Prop}(t:Tr E rb sv lv n w f z b u)(k:fw Y u W)(m:∀i,Y i->w.heap.size<=i)(o:∀i a,Y i->u.heap[i]?≠Á (Ï a 250 (0,0))):Tr E rb sv lv n w f z b W:=⟨t.r.C k λi v q=>absurd (m i q) Z,t.s,t.l,λc d e g h=>⟨ia (t.C c d e g h).1 k λj p q=>by let⟨a,r⟩:=lN (t.C c d e g h).1 p;exact o j a q r,(t.C c d e g h).2⟩⟩
def R.alT(ok:E.Ok)(h:R E rb c sv lv ss s ls w)(a:fy j l 245 w)(k:fw (λi=>i=j) w u):R E rb c sv lv ss s ls u:=⟨h.r.C k<|fy.H h.r a A,ia h.I k λi q r=>iG h.I a A (by rw[q,r]),h.C.C k<|fy.H h.C a ok.alQ,ia h.M k λi q r=>iG h.M a A<|by rw[q,r]⟩
theorem R.N(ok:E.Ok)(h:R E rb c sv lv ss s ls w)(i:Nat){c':RC}{lO:É}{ss':List Int}(e:(om E.r c sv).set i v=om E.r c' lO)(b:w.ownsRow 0 23 1 lO ss'.length (lE ss'))(d:∀j,lO.ownBlock=Á j->sv.ownBlock=Á j): R E rb c' lO lv ss' s ls (w.setCell ⟨rb,i,Ã⟩ v)/\Tr E rb sv lv ls.length w lO lv ls.length (w.setCell ⟨rb,i,Ã⟩ v):=by have a:=fw.I (X:=λk=>k=rb) (p:=⟨rb,i,Ã⟩) U v<|Ê h.r.S;refine⟨⟨by have:=h.r.fR i v;rwa[e]at this,ia b a λj q r=>iG b h.r A (by rw[q,r]),h.C.C a<|fy.H h.C h.r ok.I,ia h.M a λj q r=>iG h.M h.r A<|by rw[q,r]⟩,Tr.I a (λi _ q=>Ê<|Ç q) (λj q=>Ç<|d j q) λi f q g=> ?_⟩;have k:=h.r;unfold fy at k;grind
def R.S(ok:E.Ok)(h:R E rb c sv lv ss s ls w)(i:Nat){d:St}(k:jk E.r E.T E.C d lv (w.setCell ⟨E.r,i,Ã⟩ v)): R E rb c sv lv ss d ls (w.setCell ⟨E.r,i,Ã⟩ v)/\Tr E rb sv lv ls.length w sv lv ls.length (w.setCell ⟨E.r,i,Ã⟩ v):=by have b:=fw.I (X:=λk=>k=E.r) (p:=⟨E.r,i,Ã⟩) U v<|Ê<|fy.S h.C ok.C;refine⟨⟨h.r.C b (fy.H h.C h.r ok.I).symm,ia h.I b λj q r=>iG h.I h.C ok.M.symm (by rw[q,r]),k,ia h.M b λj q r=>iG h.M h.C ok.r.symm<|by rw[q,r]⟩,Tr.I b (λi _ q=>Ç q) (λj q=>Ç q) λi e q a=> ?_⟩;rw[q,h.C]at a;injection a with a;injection a with _ a;exact ok.r a
theorem R.Y(ok:E.Ok)(h:R E rb c sv lv ss s ls w){ns:List Int}{u:Î}(o:ns.length=m)(a:nU w 0 23 1 sv ss.length (lE ss) m (lE ns) v u): R E rb c v lv (ss++ns) s ls (u.setCell ⟨rb,6,Ã⟩ v)/\Tr E rb sv lv ls.length w v lv ls.length (u.setCell ⟨rb,6,Ã⟩ v):=by
 subst o;have d:∀{i:Nat} {f:Array É} {T:ç},sv.ownBlock=Á i->w.heap[i]?=Á (Ï f T (0,0))->T=23:=λ{i f T} q l=>by let⟨g,e⟩:=lN h.I q;grind
 have b:R E rb c sv lv ss s ls u:=⟨h.r.C a.r λq=>absurd (d q h.r) A,a.I _ _ _ h.I λ_=>eE _,h.C.C a.r λq=>ok.M<|d q h.C,ia h.M a.r λj q r=>by let⟨g,e⟩:=lN h.M q;exact absurd (d r e) A⟩;have n:u.ownsRow 0 23 1 v (ss++ns).length (lE<|ss++ns):=by have:=a.fE;rwa[show lE ss++lE ns=lE (ss++ns) by simp[lE],show ss.length+ns.length=(ss++ns).length by simp]at this
 have g:=fw.I (X:=λk=>k=rb) (p:=⟨rb,6,Ã⟩) U v<|Ê b.r.S;refine⟨⟨b.r.fR 6 v,ia n g λj q r=>iG n b.r A (by rw[q,r]),b.C.C g<|fy.H b.C b.r ok.I,ia b.M g λj q r=>iG b.M b.r A<|by rw[q,r]⟩,(Tr.I a.r (λi _ q=>Ê<|Ê q) (λj q=>a.C.elim (λe=>Ç<|by rwa[<-e]) λe=>Ê<|by rw[e]at q;cases q;exact eE _) λi f q l=>absurd (d q l) A).fA<|Tr.I g (λi _ q=>Ê<|Ç q) (λj q=>Ç q) λi f q l=> ?_⟩;have e:=b.r;unfold fy at e;grind
end
section
variable{E:jZ}{rb:Nat}{c:RC}{sv lv:É}{s:St}{ls:List (Nat×Int)}
def R.fH(h:R E rb c sv lv zQ s ls w)(k:fw fB w u):R E rb c sv lv zQ s ls u:=⟨h.r.C k id,ia h.I k λ_ _=>id,h.C.C k id,ia h.M k λ_ _=>id⟩
def Tr.fH(k:fw fB w u):Tr E rb sv lv n w sv lv n u:=Tr.I k (λ_ _=>Ĉ) (λ_ q=>Ç q) λ_ _=>Ĉ
end
def jx:List (Int×Int×Int):=[(0,0,0),(1,0,1),(1,2,1),(1,2,1),(2,2,1),(2,2,1),(1,2,1),(1,2,1),(1,1,2),(1,2,2),(1,1,0),(1,0,1),(1,0,1),(1,0,1),(1,0,1),(3,1,1),(6,2,0),(2,2,0),(8,2,1),(4,1,0),(8,3,2),(1,1,0),(1,0,0)]
structure lr(w:Î):Prop where
 M:∃cs fz,w.heap[2]?=Á (Ï cs 294 fz)
 I:∀(k:Nat)(r:Int×Int×Int),jx[k]?=Á r->w.cell? ⟨2,k*3,Ã⟩=Á (Æ Ë r.1)/\w.cell? ⟨2,k*3+1,Ã⟩=Á (Æ Í r.2.1)/\w.cell? ⟨2,k*3+2,Ã⟩=Á (Æ Í r.2.2)
theorem lr.r(h:lr w)(k:fw X w u)(a:¬X 2):lr u:=by
 let⟨b,c,d⟩:=h.M;have e:2<w.heap.size:=by grind
 refine⟨⟨b,c,by rwa[k.N 2 e a]⟩,λi r f=> ?_⟩;let⟨g,j,l⟩:=h.I i r f;exact⟨k.r g a,k.r j a,k.r l a⟩
theorem lr.C(h:lr w)(a:w.heap[j]?=Á (Ï d T xJ))(b:T≠294):j≠2:=by rintro rfl;let⟨c,e,f⟩:=h.M;grind
def lr.N{E:jZ}(ok:E.Ok){rb:Nat}{c:RC}{sv lv lO:É}{s:St}(h:lr w)(r:R E rb c sv lv zQ s gJ w)(t:Tr E rb sv lv n w lO v i u):lr u:=by apply h.r t.r;rintro(e|e|e|e);exact h.C r.C ok.N e.symm;exact h.C r.r A e.symm;let⟨a,q⟩:=lN r.I e;exact h.C q A U;let⟨a,q⟩:=lN r.M e;exact h.C q A U
theorem MS:∀(k:Nat)(r:Int×Int×Int),jx[k]?=Á r->0<=r.1/\r.1<=8/\0<=r.2.1/\r.2.1<=3/\0<=r.2.2/\r.2.2<=2:=by have h:∀r∈jx,0<=r.1/\r.1<=8/\0<=r.2.1/\r.2.1<=3/\0<=r.2.2/\r.2.2<=2:=A;grind
def qE(g:Int)(n:Nat)(b a c:Int):Bool:= !(decide (g<b)||(decide ((n:Int)-a<0)||decide (32<(n:Int)-a+c)))
def S5(E:jZ)(f:Nat)(c:RC)(a d:É)(i:List Int)(s:St)(e:List (Nat×Int))(w:Î)(j:Int)(b:Bool)(h:Î):Prop:=
 R E f (if b then{c with g:=c.g-j}else c) a d i s e h/\Tr E f a d e.length w a d e.length h
section
variable{E:jZ}{rb:Nat}{c:RC}{sv lv:É}{w':Î}{s:St}{ls:List (Nat×Int)}
def S6(a:R E rb c sv lv zQ s ls w)(k:fw fB w w'):S5 E rb c sv lv zQ s ls w h Ò w':=⟨a.fH k,Tr.fH k⟩
def alU(ok:E.Ok)(a:R E rb c sv lv zQ s ls w){g:Int}(d:c.g=g)(e:w'=u.setCell ⟨rb,5,Ã⟩ (Æ Ë<|g-h))(k:fw fB w u):S5 E rb c sv lv zQ s ls w h Ñ w':=by subst d e;have b:=a.fH k;let⟨f,i⟩:=b.N ok 5 (c':={c with g:=c.g-h}) U b.I λ_ q=>q;exact⟨f,(Tr.fH k).fA i⟩
end
def alV(E:jZ)(ok:E.Ok)(m:Nat)(c:RC)(q r:É)(d:List Int)(s:St)(t:List (Nat×Int))(w:Î)(h:R E m c q r d s t w)(u:lr w)(k:Nat)(f b i:Int)(o:jx[k]?=Á (f,b,i))(y:d.length<=1000)(P:0<=c.g)(Q:c.g<18446744073709551616): Ù À 186 #[Â<|Á ⟨m,0,Ã⟩,Æ Í k] w λe a=>e=Ì (Õ<|qE c.g d.length f b i)/\S5 E m c q r d s t w f (qE c.g d.length f b i) a:=by
 let⟨z,B,C⟩:=u.I k _ o;obtain⟨a,cp,rfl⟩:=jj h.I;have D:=h.r.r 6 _ U;have S:=h.r.r 5 _ U;have T:=h.r.I 5;have V:=h.r.M;have W:k<23:=(eP.1 o).1;let⟨F,G,I,J,K,L⟩:=MS k _ o;simp only at F G I J K L z B C;obtain⟨n,j⟩:∃n,d.length=n:=⟨_,U⟩;rw[j]at D y;have e:qE c.g d.length f b i= !(decide (c.g<f)||(decide ((n:Int)-b<0)||decide (32<(n:Int)-b+i))):=by rw[j];rfl
 have H:=fv<|Ä h<|Ä j e;clear u h j e;generalize M:c.g=g at*;go_enter Tryz.func186,Tryz.ntmps186;go_wp2;go_quiet (fail);go_wp2;by_cases v:g<f
 .go_quiet (fail)
  go_wp2;let⟨h,j,e⟩:=H.oQ;have l:qE g d.length f b i=Ò:=by rw[e];simp[v]
  go_ret;rw[l];refine⟨U,S6 h ?_⟩;exact kp
 .have N:=decide_eq_false v;by_cases x:(n:Int)-b<0
  .go_quiet (fail)
   go_wp2;let⟨h,j,e⟩:=H.oQ;have l:qE g d.length f b i=Ò:=by rw[e];simp[x]
   go_ret;rw[l];refine⟨U,S6 h ?_⟩;exact kp
  have O:=decide_eq_false x;go_quiet (fail);go_wp2
  .have p:32<(n:Int)-b+i:=by assumption
   let⟨h,j,e⟩:=H.oQ;have l:qE g d.length f b i=Ò:=by rw[e];simp[p]
   go_ret;rw[l];refine⟨U,S6 h ?_⟩;exact kp
  go_region
  go_wp2;have p:(n:Int)-b+i<=32:=by assumption
  let⟨h,j,e⟩:=H.oQ;have l:qE g d.length f b i=Ñ:=by rw[e];simp[N,O,p]
  go_ret;rw[l];refine⟨U,alU ok h M U ?_⟩;exact kp
def qk(s:St)(y:Nat)(q p:Int):Int×St:=
 if(s y).fC<p then(0,s)else(1,(s.fC y<|(s y).fC-p).fC (q%8).toNat<|wu<|(s.fC y ((s y).fC-p) (q%8).toNat).fC+p)
def Bq(E:jZ)(e:Nat)(c:RC)(a b:É)(g:List Int)(s:St)(d:List (Nat×Int))(w:Î)(h:St)(f:Î):Prop:=
 R E e c a b g h d f/\Tr E e a b d.length w a b d.length f
section
variable{E:jZ}{rb:Nat}{c:RC}{sv lv:É}{w':Î}{s a d:St}
def Bq.fH(h:R E rb c sv lv zQ s gJ w)(k:fw fB w w'):Bq E rb c sv lv zQ s gJ w s w':=⟨h.fH k,Tr.fH k⟩
def Bq.fC(ok:E.Ok)(h:Bq E rb c sv lv zQ s gJ w a u)(d:i<8)(x:Int):Bq E rb c sv lv zQ s gJ w (a.fC i x) (u.setCell ⟨E.r,i*18,Ã⟩<|Æ Ë x):=by let⟨b,e⟩:=h;let⟨f,g⟩:=b.S ok (i*18)<|b.C.Bp d x;exact⟨f,e.fA g⟩
end
def alW(E:jZ)(ok:E.Ok)(rb:Nat)(c:RC)(sv lv:É)(d:List Int)(s:St)(f:List (Nat×Int))(w:Î)(h:R E rb c sv lv d s f w)(q p:Int)(j:0<=q)(k:q<18446744073709551616)(l:0<=p)(n:p<18446744073709551616)(a:c.y<8)(o:0<=(s c.y).fC)(r:(s c.y).fC<18446744073709551616): Ù À 193 #[Â<|Á ⟨rb,0,Ã⟩,Æ Ë q,Æ Ë p] w λe g=>e=Ì (Æ Ë (qk s c.y q p).1)/\Bq E rb c sv lv d s f w (qk s c.y q p).2 g:=by
 have t:=h.r.r 0 _ U;have u:=h.r.r 2 _ U;have v:=h.r.M;have x:=fy.M h.C;have z:=h.C.fC a;have B:=fy.I h.C<|c.y*18;have g:(q%8).toNat<8:=Z;have H:=fv h;by_cases i:(s c.y).fC<p
 .have e:qk s c.y q p=(0,s):=by rw[qk,if_pos i]
  rw[e];generalize(s c.y).fC=b at*;generalize c.y=y at*;go_enter ŷ,Ţ;go_wp2;go_quiet (fail);go_wp2;go_ret;refine⟨U,Bq.fH H ?_⟩;exact kp
 .have e:qk s c.y q p=(1,(s.fC c.y<|(s c.y).fC-p).fC (q%8).toNat<|wu<|(s.fC c.y ((s c.y).fC-p) (q%8).toNat).fC+p):=by rw[qk,if_neg i]
  rw[e];have C:=λm=>((h.fH<|fw.iQ _ w m).C.Bp a<|(s c.y).fC-p).fC g;have D:∀m,((w.drewN m).setCell ⟨E.r,c.y*18,Ã⟩<|Æ Ë<|(s c.y).fC-p).frozen? ⟨E.r,(q%8).toNat*18,Ã⟩=Ò:=λm=>fy.I ((h.fH<|fw.iQ _ w m).C.Bp a<|(s c.y).fC-p) _;generalize(s.fC c.y ((s c.y).fC-p) (q%8).toNat).fC=b2 at*;generalize(s c.y).fC=b at*;go_enter ŷ,Ţ;go_wp2;go_quiet (fail);go_wp2;go_ret;refine⟨U,((Bq.fH H ?_).fC ok a _).fC ok g _⟩;exact kp
def zw(E:jZ)(rb:Nat)(sv lv:É)(n:Nat)(w:Î)(c:RC)(f:List Int)(s:St)(a:List (Nat×Int))(b:Î):Prop:=
 ∃d e,R E rb c d e f s a b/\Tr E rb sv lv n w d e a.length b
section
variable{E:jZ}{rb:Nat}{c a:RC}{sv lv:É}{w':Î}{b:List Int}{s d:St}{ls:List (Nat×Int)}{p:Int}
def R.oQ(h:R E rb c sv lv zQ s ls w):zw E rb sv lv ls.length w c zQ s ls w:=⟨sv,lv,h,Tr.gy _ _ _ _ _ _⟩
def Br(ok:E.Ok)(h:R E rb c sv lv (zQ++[p]) s ls w)(f:zQ.length<=900):Ù À 188 #[Â<|Á ⟨rb,0,Ã⟩] w λe w'=>e=Ì (Æ Ë p)/\ ∃lO,R E rb c lO lv zQ s ls w'/\Tr E rb sv lv ls.length w lO lv ls.length w':=by have a:=h.I;rw[show lE (zQ++[p])=lE zQ++[jW p] by simp[lE],show(zQ++[p]).length=zQ.length+1 by simp]at a;refine(MR E.r rb c sv 0 zQ p w h.r a Z).mono ?_;rintro e w' ⟨rfl,lO,rfl,b,d⟩;exact⟨U,lO,h.N ok 6 U b λj q=>by rwa[<-d]⟩
def C_(ok:E.Ok)(h:R E rb c sv lv zQ s ls w)(g:zQ.length<=900)(x:Int):Ù À 187 #[Â<|Á ⟨rb,0,Ã⟩,È (Á ⟨w.heap.size,0,Ã⟩) 1 1] (w.alloc<|Ï #[Æ Ë x] 23) λe w'=>e=Ì (Ý #[])/\ ∃lO,R E rb c lO lv (zQ++[x]) s ls w'/\Tr E rb sv lv ls.length w lO lv ls.length w':=by have k:=fw.gP fB w #[Æ Ë x] 23;have b:=h.fH k;refine(B' E.r rb c sv 0 (lE zQ) zQ.length w.heap.size 1 1 [Æ Ë x] _ b.r b.I Z Z U (Ÿ _ _ _) (λa d=>by simp at d;subst d;rfl)<|eD _).mono ?_;rintro e w' ⟨rfl,lO,u,a,rfl⟩;let⟨d,f⟩:=b.Y ok (ns:=[x]) U a;exact⟨U,lO,d,(Tr.fH k).fA f⟩
def C'(ok:E.Ok)(h:R E rb c sv lv zQ s ls w)(i:zQ.length<=900)(x y:Int):Ù À 187 #[Â<|Á ⟨rb,0,Ã⟩,È (Á ⟨w.heap.size,0,Ã⟩) 2 2] (w.alloc<|Ï #[Æ Ë x,Æ Ë y] 23) λe w'=>e=Ì (Ý #[])/\ ∃b,R E rb c b lv (zQ++[x,y]) s ls w'/\Tr E rb sv lv ls.length w b lv ls.length w':=by have k:=fw.gP fB w #[Æ Ë x,Æ Ë y] 23;have d:=h.fH k;refine(B' E.r rb c sv 0 (lE zQ) zQ.length w.heap.size 2 2 [Æ Ë x,Æ Ë y] _ d.r d.I Z Z U (ń _ _ _ _) (λa f=>by simp at f;obtain rfl|rfl:=f<;>rfl)<|eD _).mono ?_;rintro e w' ⟨rfl,b,u,a,rfl⟩;let⟨f,g⟩:=d.Y ok (ns:=[x,y]) U a;exact⟨U,b,f,(Tr.fH k).fA g⟩
end
structure iY(E:jZ)(lv:É)(n:Nat)(w:Î)(s:St)(ls:List (Nat×Int))(w':Î)(pT:É):Prop where
 r:jk E.r E.T E.C s pT w'
 I:w'.ownsRow 0 250 2 pT ls.length (je ls)
 C:fw (λk=>k=E.r\/lv.ownBlock=Á k) w w'
 l:∀j,pT.ownBlock=Á j->lv.ownBlock=Á j\/w.heap.size<=j
 M:∀v0 n0 zv,w.ownsRow 0 250 2 v0 n0 zv->(v0.ownBlock=lv.ownBlock->n0<=n)->w'.ownsRow 0 250 2 v0 n0 zv/\(v0.ownBlock=pT.ownBlock->n0<=ls.length)
structure mU where
 r:Int
 C:Bool
 M:Int
 s:St
 I:List (Nat×Int)
abbrev kZ:=St->List (Nat×Int)->Nat->Nat->Int->Int->mU
def gL(n:Int):Prop:=0<=n/\n<18446744073709551616
def il(c:Int):Nat:=
 if 48<=c/\c<=57 then 1 else if c=43 then 2 else if c=45 then 3 else if c=42 then 4 else if c=47 then 5 else if c=60 then 6 else if c=61 then 7
 else if c=100 then 8 else if c=120 then 9 else if c=112 then 10 else if c=107 then 11 else if c=99 then 12 else if c=121 then 13 else if c=98 then 14
 else if c=108 then 15 else if c=116 then 16 else if c=106 then 17 else if c=118 then 18 else if c=101 then 19 else if c=111 then 20 else if c=114 then 21 else if c=102 then 22 else 0
def xW(c:UInt8):Bool:=decide<|il (c.toNat:Int)≠0
structure ic(s:St):Prop where
 fC:∀i,gL (s i).fC
 C:∀i j,gL<|(s i).r j
 I:∀i,(s i).C.size<=40/\∀c∈(s i).C.data.toList,xW c=Ñ
def fV(l:List Int):Int:=l.getLastD 0
theorem D_(l:List Int)(h:0<l.length):l=l.dropLast++[fV l]:=by
 have a:l≠[]:=by intro e;subst e;simp at h
 unfold fV;grind [List.dropLast_concat_getLast]
def nV{R:Î->Prop}(h:Ù P F d w λe a=>e=Ì v/\R a)(k:∀a,R a->vQ v a):Ù P F d w λe a=>∃v,e=Ì v/\vQ v a:=gl h λa q=>⟨v,U,k a q⟩
def FJ{P:Program}{ops:Array Oper}{o:Oper}{a:Act}{w:World}{K:Act->World->Prop}{Q:Exit->Act->World->Prop}{E:Prop}{base:Nat}{e:TypeId}{size n:Nat}{v:Value}{xs:List Value}(hg:o.guard=none)(s x:Operand)(t:TypeId)(oF:o.op=Op.call {callee:=Callee.builtin Builtin.append,args:=#[s,x],argTypes:=#[t,t]}){i:TypeInfo}{z:Value}{bytes:Nat}(ht:P.underlying t=some (.slice e))(hi:P.info? e=some i)(hz:i.zero=some z)(hsize:i.size=size)(pP:i.bytes=bytes)(mS:z.cells.size=size)(hs:a.eval s=v)(zj:w.ownsRow base e size v n xs)(ad:Addr){m c:Nat}(news:List Value)(hx:a.eval x=.slice (some ad) m c)(hm:0<m)(hl:news.length=m*size)(S0:∀j u,news[j]?=some u->w.cell? (ad.add j)=some u)(h1:∀u∈news,u.oneCell'=true)(Dw:n+m<=maxLen)(Dx:(n+m)*bytes<=140737488355328)(Dv:base<=w.heap.size)(h:∀v' w',nU w base e size v n xs m news v' w'->K (a.put o.dst v') w')(hfl:my e=false\/(0<news.length/\(∀u∈xs++news,kN u=true)/\∀u∈z.cells.toList,kN u=true):=by first|exact Or.inl (by decide)|exact Or.inr ⟨by simp,by simp[kN],by simp[kN,Value.cells]⟩): if Region.wanted o (yielded ops a.tmps)=true then Oper.wp P o a w K Q else E:=by
 have hw:û o (Ź ops a.tmps)=Ñ:=by simp[û,hg]
 rw[if_pos hw];let⟨v',w',hr,h2⟩:=SY (ty:=o.type) ht hi hz hsize pP mS zj ad c news hm hl S0 h1 Dw Dx Dv hfl;simp[ğ,ô,oF,ų,Κ,Ρ,hs,hx,hr,Result.andThen];exact h v' w' h2
def alX:(À.info? 250).map iF=Á (Á<|ê #[Æ Í 0,Æ Ë 0],2,16):=fK
def S7(b:List (Nat×Int)):∀u∈je b,kN u=Ñ:=λu a=>by unfold je at a;let⟨e,_,h⟩:=cw.1 a;simp[kt,jW]at h;obtain rfl|rfl:=h<;>rfl
section
variable{E:jZ}{c:RC}{d lv:É}{s:St}{ls:List (Nat×Int)}{p:Int}{y:Nat}
theorem R.alY(ok:E.Ok)(h:R E J c d lv zQ s ls w)(a:nU w 0 250 2 lv ls.length (je ls) 1 [Æ Í y,Æ Ë p] jQ W): (R E J c d lv zQ s ls W/\W.ownsRow 0 250 2 jQ (ls++[(y,p)]).length (je<|ls++[(y,p)]))/\ R E J c d jQ zQ s (ls++[(y,p)]) (W.setCell ⟨E.r,144,Ã⟩ jQ)/\Tr E J d lv ls.length w d jQ (ls++[(y,p)]).length (W.setCell ⟨E.r,144,Ã⟩ jQ):=by
 have g:∀{i:Nat} {m:Array É} {T:ç},lv.ownBlock=Á i->w.heap[i]?=Á (Ï m T (0,0))->T=250:=λ{i m T} q hc=>by let⟨k,e⟩:=lN h.M q;grind
 have b:R E J c d lv zQ s ls W:=⟨h.r.C a.r λq=>absurd (g q h.r) A,ia h.I a.r (λj q r=>by let⟨k,e⟩:=lN h.I q;exact absurd (g r e) A),h.C.C a.r λq=>ok.r<|g q h.C,a.I _ _ _ h.M λ_=>eE _⟩;have l:W.ownsRow 0 250 2 jQ (ls++[(y,p)]).length (je<|ls++[(y,p)]):=by have:=a.fE;rwa[show je ls++[Æ Í y,Æ Ë p]=je (ls++[(y,p)]) by simp[je,kt,jW],show ls.length+1=(ls++[(y,p)]).length by simp]at this
 have f:=fw.I (X:=λk=>k=E.r) (p:=⟨E.r,144,Ã⟩) U jQ<|Ê<|fy.S b.C ok.C;refine⟨⟨b,l⟩,⟨b.r.C f (fy.H b.C b.r ok.I).symm,ia b.I f λj q r=>iG b.I b.C ok.M.symm (by rw[q,r]),b.C.alK jQ,ia l f λj q r=>iG l b.C ok.r.symm<|by rw[q,r]⟩,?_,λj q=>Ç q,λj q=> ?_,λo t u n v=> ?_⟩;refine(a.r.fG λk _ q=>Ê<|Ê<|Ê q).C f λi _ q=>Ç q
 .obtain e|e:=a.C;all_goals grind
 have k:=a.I o t u n v;refine⟨ia k f λj q r=>iG k b.C ok.r.symm (by rw[q,r]),λq=> ?_⟩;obtain e|e:=a.C;grind;rw[e]at q;have:=(n.lt _ q).2;omega
end
section
variable{md:ù}{ops:Array ĕ}{Q:Exit->ŋ->Î->Prop}{S:Î->Prop}{X:List Nat}
def mV(P:ċ)(md:ù)(ops:Array ĕ)(Q:Exit->ŋ->Î->Prop)(S:Î->Prop)(X:List Nat):Nat->Array Bool->ŋ->Î->Prop
 |0,listed,a,w=>Ô md ops listed=[]/\Q Τ a w
 |fuel+1,listed,a,w=>(Ô md ops listed=[]->Q Τ a w)/\
  ∀i∈Ô md ops listed,wpOp P ops Q i (λc b=>(i∉X->S b)/\mV P md ops Q S X fuel (listed.setIfInBounds i Ñ) c b) a w
def D':∀(b:Nat)(listed:Array Bool)(a:ŋ)(w:Î),mV P md ops Q S X b listed a w->wpAny P md ops Q b listed a w|0,_,_,_,h=>h|b+1,_,_,_,h=>⟨h.1,λi c=>wpOp_mono (λd e q=>D' b _ d e q.2)<|h.2 i c⟩
def uH(md:ù)(ops:Array ĕ)(X:List Nat)(i:Nat):Bool:=X.all λx=>match ops[x]? with|some o=>o.after.toList.any λe=>Ġ md e&&e.on==i|none=>Ñ
theorem alZ{listed:Array Bool}(a:uH md ops X i=Ñ)(c:ops[j]?=Á o)(d:listed.getD i Ò=Ò)(f:∀e∈o.after,Ġ md e=Ñ->listed.getD e.on Ò=Ñ):j∉X:=by intro b;have g:=eI.1 a j b;grind
theorem al0{m:ĕ}(x:ops[i]?=Á m)(y:∀(j:Nat)(o:ĕ) n b,ops[j]?=Á o->o.op≠.select n b)(E:uH md ops X i=Ñ)(F:∀c a w,Q (Λ c) (a.put m.dst v) w->Q (Λ c) a w): ∀(p:Nat)(d:Array Bool)(a:ŋ)(w:Î),(∀j g,ops[j]?=Á g->j≠i->d.getD j Ñ=Ò->(∀e∈g.after,Ġ md e=Ñ->e.on≠i)->m.apart ops g=Ñ)-> i∈Ô md ops d->YieldsIf P ops S m v a->S w->mV P md ops Q S X p (d.setIfInBounds i Ñ) (a.put m.dst v) w->mV P md ops Q S X (p+1) d a w:=by
 have G:∀{d:Array Bool},i∈Ô md ops d->d.getD i Ò=Ò:=λ{d} l=>by have D:=(Ū.1 l).1;grind
 intro p
 induction p with
 |zero=>
  intro d a w _ l s r H;refine⟨λh=>absurd (h▸l) fD,λj t=> ?_⟩;by_cases f:j=i;subst f;exact s.wpOp x r ⟨λ_=>r,H⟩;exact absurd (H.1▸ş t f) fD|succ p I=>
  intro d a w z l s r H;refine⟨λh=>absurd (h▸l) fD,λj t=> ?_⟩;by_cases f:j=i;subst f;exact s.wpOp x r ⟨λ_=>r,H⟩;let⟨B,g,u,J⟩:=Ū.1 t;have K:∀e∈g.after,Ġ md e=Ñ->e.on≠i:=λe V W Y=>by grind
  refine wpOp_mono (λD L q=>⟨q.2.1,I (d.setIfInBounds j Ñ) D L (λk M N O C T=>z k M N O ?_ T) (ş l<|cR f) q.1 (q.2.1<|alZ E u (G l) J) ?_⟩) (wpOp_putIf u (z j g u f B K) (λn b=>y i m n b x) (λn b=>y j g n b u) F s<|H.2 j<|ş t f);by_cases D:j=k;subst D;exact B;rwa[Ŏ Ñ D]at C;rw[Array.setIfInBounds_comm _ _ f];exact q.2.2
def I9{oi:ĕ}{listed:Array Bool}(b:ops[i]?=Á oi)(d:Region.noSelect ops=Ñ)(e:Region.free md ops listed i=Ñ)(f:(Ô md ops listed).contains i=Ñ)(g:uH md ops X i=Ñ)(j:∀c y w,Q (Λ c) (y.put oi.dst v) w->Q (Λ c) y w)(k:S w)(l:YieldsIf P ops S oi v y)(h:mV P md ops Q S X n (listed.setIfInBounds i Ñ) (y.put oi.dst v) w):mV P md ops Q S X (n+1) listed y w:=al0 b (Region.noSelect_spec d) g j n listed y w (Region.free_spec b e) (fN f) l k h
def S8{listed:Array Bool}(c:Ô md ops listed=[i])(e:ops[i]?=Á o)(h:∀b:ŋ->Î->Prop,Shut (∀y w,(i∉X->S w)->mV P md ops Q S X n (listed.setIfInBounds i Ñ) y w->b y w)->if û o (Ź ops y.tmps)=Ñ then ğ P o y w b Q else b (y.put o.dst Å) w):mV P md ops Q S X (n+1) listed y w:=by refine⟨λq=>absurd (c▸q) fD,λj d=> ?_⟩;rw[c]at d;have:j=i:=fN d;subst this;exact ŭ e λb f=>h b λy w g k=>f y w ⟨g,k⟩
def ix:List ĕ->Nat->Option ĕ|[],_=>Ã|o::_,0=>Á o|_::l,n+1=>ix l n
def E_:∀{l:List ĕ} {i:Nat} {o:ĕ},ix l i=Á o->l.toArray[i]?=Á o
 |[],_,_,h=>by cases h
 |o::l,0,_,h=>by simpa[ix]using h|o::l,n+1,_,h=>by simpa using E_ (l:=l) h
def FK(h:ix ops.toList i=Á o):ops[i]?=Á o:=by simpa using E_ h
def FL{a b:Act}(h:a=b:=by(try simp only[Act.put,List.setIfInBounds_toArray,List.set_cons_zero,List.set_cons_succ]);rfl):a=b:=h
def tk{oi:Oper}{v:Value}{fuel:Nat}{listed:Array Bool}{a0 a a':Act}{w:World}(hS:S w)(i:Nat:=ops.size-1-fuel)(h:mV P md ops Q S X fuel (listed.setIfInBounds i true) a' w)(h0:a0=a:=by exact FL)(hi:ix ops.toList i=some oi:=by rfl)(hs:Region.noSelect ops=true:=by kernel_rfl)(hf:Region.free md ops listed i=true:=by kernel_rfl)(hr:(Region.ready md ops listed).contains i=true:=by kernel_rfl)(hw:uH md ops X i=true:=by kernel_rfl)(hQ:∀v c a w,Q (.panic c) (a.put oi.dst v) w->Q (.panic c) a w:=by exact λ_ _ _ _ h=>h)(hn:Region.wanted oi (yielded ops a.tmps)=true:=by rfl)(hy:∀w,S w->(execOp a.eval oi).run P w=.ok (.value v) w:=by intro w h;revert h;simp only[and_imp];intros;go_simp;try(with_reducible rfl))(ha:a.put oi.dst v=a':=by exact FL):mV P md ops Q S X (fuel+1) listed a0 w:=h0▸I9 (FK hi) hs hf hr hw (hQ v) hS (Ç ⟨hn,hy⟩) (ha▸h)
def np(i:Nat){o:Oper}{fuel:Nat}{listed:Array Bool}{a0 a:Act}{w:World}(h:∀K':Act->World->Prop,Shut (∀a w,(i∉X->S w)->mV P md ops Q S X fuel (listed.setIfInBounds i true) a w->K' a w)->if Region.wanted o (yielded ops a.tmps)=true then Oper.wp P o a w K' Q else K' (a.put o.dst undef) w)(h0:a0=a:=by exact FL)(hr:Region.ready md ops listed=[i]:=by kernel_rfl)(ho:ix ops.toList i=some o:=by rfl):mV P md ops Q S X (fuel+1) listed a0 w:=h0▸S8 hr (FK ho) h
def F_{oi oj:ĕ}{listed:Array Bool}(g:Ô md ops listed=[i,j])(h:ops[i]?=Á oi)(l:ops[j]?=Á oj)(m:∀b:ŋ->Î->Prop,Shut (∀y w,(i∉X->S w)->mV P md ops Q S X n (listed.setIfInBounds i Ñ) y w->b y w)->if û oi (Ź ops y.tmps)=Ñ then ğ P oi y w b Q else b (y.put oi.dst Å) w)(o:∀b:ŋ->Î->Prop,Shut (∀y w,(j∉X->S w)->mV P md ops Q S X n (listed.setIfInBounds j Ñ) y w->b y w)->if û oj (Ź ops y.tmps)=Ñ then ğ P oj y w b Q else b (y.put oj.dst Å) w):mV P md ops Q S X (n+1) listed y w:=by refine⟨λq=>absurd (g▸q) fD,λk c=> ?_⟩;rw[g]at c;obtain rfl|c:=eK.1 c;exact ŭ h λb d=>m b λy w e f=>d y w ⟨e,f⟩;have:k=j:=fN c;subst this;exact ŭ l λb d=>o b λy w e f=>d y w ⟨e,f⟩
def MU{listed:Array Bool}(b:Ô md ops listed=[])(h:Q Τ y w):∀c,mV P md ops Q S X c listed y w|0=>⟨b,h⟩|_+1=>⟨λ_=>h,by rw[b];simp⟩
def jM(i:Nat){o:Oper}{fuel:Nat}{listed:Array Bool}{a0 a a':Act}{w w':World}(hS:i∉X->S w')(h:mV P md ops Q S X fuel (listed.setIfInBounds i true) a' w')(h0:a0=a:=by exact FL)(hr:Region.ready md ops listed=[i]:=by kernel_rfl)(ho:ix ops.toList i=some o:=by rfl)(he:∀K:Act->World->Prop,Shut (K a' w')->if Region.wanted o (yielded ops a.tmps)=true then Oper.wp P o a w K Q else K (a.put o.dst undef) w:=by intro K hK;go_simp;exact hK.out):mV P md ops Q S X (fuel+1) listed a0 w:=h0▸S8 hr (FK ho) λK hK=>he K<|hK _ _ hS h
def nN(i:Nat){o:Oper}{f:FuncId}{vs:Array Value}{fuel:Nat}{listed:Array Bool}{a0 a:Act}{w:World}(h:Calls P f vs w λe w'=>∃v,e=.returned v/\(i∉X->S w')/\mV P md ops Q S X fuel (listed.setIfInBounds i true) (a.put o.dst v) w')(h0:a0=a:=by exact FL)(hr:Region.ready md ops listed=[i]:=by kernel_rfl)(ho:ix ops.toList i=some o:=by rfl)(hg:o.guard=none:=by rfl)(he:(execOp a.eval o).run P w=.ok (.enter f vs) w:=by go_simp;try exact⟨rfl,rfl⟩):mV P md ops Q S X (fuel+1) listed a0 w:=h0▸S8 hr (FK ho) λK hK=>by rw[if_pos (by simp[û,hg])];rw[ğ,he,Oper.upon_enter];apply h.mono;rintro e w' ⟨v,rfl,k⟩;exact hK _ _ k.1 k.2
def ma{fuel:Nat}{listed:Array Bool}{a0 a:Act}{w:World}(h:Q .normal a w)(h0:a0=a:=by exact FL)(hr:Region.ready md ops listed=[]:=by kernel_rfl):mV P md ops Q S X fuel listed a0 w:=h0▸MU hr h fuel
def mI{id:Nat}(S:Î->Prop)(X:List Nat)(b:P.follows .mixedOrders=Ñ)(h:mV P .any ops Q S X ops.size (ŕ ops.size Ò) y w.drew):(ħ id ops Ñ).wp P Q y w:=wp_region_any b<|D' _ _ _ _ h
end
section
variable{E:jZ}{rb:Nat}{c:RC}{sv lv:É}{s:St}
def al1(ok:E.Ok)(a:R E rb c sv lv (zQ++[h]) s gJ w)(x:zQ.length<=800)(z:c.y<8)(B:gJ.length<=1000000): Ù À 189 #[Â<|Á ⟨rb,0,Ã⟩,Æ Í 19] w λe b=>e=Ì (Ý #[])/\zw E rb sv lv gJ.length w c zQ s (gJ++[(c.y,h)]) b:=by
 have C:w.cell? ⟨rb,0,Ã⟩=Á (Â<|Á ⟨E.r,0,Ã⟩):=a.r.r 0 _ U;have D:w.cell? ⟨rb,2,Ã⟩=Á (Æ Í c.y):=a.r.r 2 _ U;have F:=a.r.M;have G:=fy.M a.C;let⟨I,g,i,j,k⟩:=ć alX;have f:=fv<|Ä g<|Ä i<|Ä j k;have H:=fv a;clear a g i j k;go_enter Ņ,Ķ;go_wp2;go_quiet (fail);go_wp2_with fail;refine mI (λb=>b.cell? ⟨rb,0,Ã⟩=Á (Â<|Á ⟨E.r,0,Ã⟩)/\b.cell? ⟨rb,2,Ã⟩=Á (Æ Í c.y)/\b.cell? ⟨E.r,144,Ã⟩=Á lv) [22] fK ?_;iterate 16 apply tk (fv<|Ä ((H.fH<|(fw.iQ _ _ nq).fA<|fw.gM _ _).r.r 0 _ rfl)<|Ä ((H.fH<|(fw.iQ _ _ nq).fA<|fw.gM _ _).r.r 2 _ rfl) (H.fH<|(fw.iQ _ _ nq).fA<|fw.gM _ _).C.wE).oQ
 refine nN 16 ?_;refine nV (Br ok (H.fH<|(fw.iQ _ _ _).fA<|fw.gM _ _) Z) λl ⟨J,b,r⟩=>⟨λ_=>⟨b.r.r 0 _ U,b.r.r 2 _ U,b.C.wE⟩,?_⟩;refine jM 17 (λ_=>⟨b.r.r 0 _ U,b.r.r 2 _ U,b.C.wE⟩) ?_;have d:=b.fH<|fw.gP fB l #[Æ Í c.y,Æ Ë h] 250;refine jM 18 (λ_=>⟨d.r.r 0 _ U,d.r.r 2 _ U,d.C.wE⟩) ?_;apply np 19;intro K o;refine FJ (hfl:=Ê ⟨fD,λu e=>(dx.1 e).elim (S7 gJ u) (λq=>by simp at q;obtain rfl|rfl:=q<;>rfl),by simp[kN,ó]⟩) (base:=0) (n:=gJ.length) (xs:=je gJ) (m:=1) gq _ _ 134 gq Tryz.underlying134 f.1 f.2.1 f.2.2.1 f.2.2.2 U gq d.M ⟨l.heap.size,0,Ã⟩ [Æ Í c.y,Æ Ë h] gq Z U (ń _ _ _ _) (λu e=>by simp at e;obtain rfl|rfl:=e<;>rfl) (by unfold ĸ;omega) Z (eD _) ?_;intro L M u;obtain⟨N,O,rfl⟩:=jj u.fE;let⟨⟨e,_⟩,t,v⟩:=d.alY ok u;apply o.out _ _ λ_=>⟨e.r.r 0 _ U,e.r.r 2 _ U,e.C.wE⟩;clear o K;have p:=e.C.wE;have P:=fy.I e.C 144;refine jM 20 (λ_=>⟨e.r.r 0 _ U,e.r.r 2 _ U,p⟩) ?_;refine jM 21 (λ_=>⟨e.r.r 0 _ U,e.r.r 2 _ U,p⟩) ?_;refine jM 22 (λq=>absurd fD q) ?_;refine ma ?_;go_wp2;go_end0;exact⟨U,_,_,t,(((Tr.fH<|(fw.iQ _ _ _).fA<|fw.gM _ _).fA r).fA<|Tr.fH<|fw.gP _ _ _ _).fA v⟩
end
structure RT where
 r:List Int
 s:St
 C:List (Nat×Int)
 g:Int
def jy(F:kZ)(c:RC)(t:RT)(q p k:Int):Int×Int×RT:=
 if c.d=4 then(0,0,t)else
  ((F t.s t.C c.y (q%8).toNat (min p t.g) k).M,uU (F t.s t.C c.y (q%8).toNat (min p t.g) k).C,
    {t with s:=(F t.s t.C c.y (q%8).toNat (min p t.g) k).s,C:=(F t.s t.C c.y (q%8).toNat (min p t.g) k).I,g:=t.g-(F t.s t.C c.y (q%8).toNat (min p t.g) k).r})
def fU(l:List Int):List Int:=l.dropLast
def lu(F:kZ)(c:RC)(a:Nat)(t:RT):RT:=
 if a=8 then{t with r:=fU t.r++[fV t.r,fV t.r]}
 else if a=9 then{t with r:=fU (fU t.r)++[fV t.r,fV<|fU t.r]}
 else if a=10 then{t with r:=fU t.r}
 else if a=11 then{t with r:=t.r++[c.k]}
 else if a=12 then{t with r:=t.r++[(c.x:Int)]}
 else if a=13 then{t with r:=t.r++[(c.y:Int)]}
 else if a=14 then{t with r:=t.r++[(t.s c.y).fC]}
 else if a=15 then{t with r:=fU t.r++[(t.s c.y).r (fV t.r%16).toNat]}
 else if a=16 then{t with r:=fU<|fU t.r,s:=t.s.C c.y (fV t.r%16).toNat (fV<|fU t.r)}
 else if a=18 then{t with r:=fU (fU t.r)++[(qk t.s c.y (fV t.r)<|fV<|fU t.r).1],s:=(qk t.s c.y (fV t.r)<|fV<|fU t.r).2}
 else if a=19 then{t with r:=fU t.r,C:=t.C++[(c.y,fV t.r)]}
 else if a=20 then
  {(jy F c t (fV t.r) (fV<|fU t.r)<|fV<|fU<|fU t.r).2.2 with r:=fU (fU<|fU t.r)++[(jy F c t (fV t.r) (fV<|fU t.r)<|fV<|fU<|fU t.r).1,(jy F c t (fV t.r) (fV<|fU t.r)<|fV<|fU<|fU t.r).2.1]}
 else{t with r:=fU (fU t.r)++[xV a (fV<|fU t.r)<|fV t.r]}
structure S9(ls:List (Nat×Int))(g:Int)(e:mU):Prop where
 C:0<=e.r
 r:e.r<=g
 N:ic e.s
 M:gL e.M
 I:(e.I.length:Int)<=ls.length+e.r
def qF(F:kZ):Prop:=∀s a x y g k,ic s->x<8->y<8->gL k->0<=g->g<=100000->(a.length:Int)+g<=1000000->S9 a g (F s a x y g k)
def xY(F:kZ)(d:Int):Prop:=∀(E:jZ),E.Ok->∀(s:St)(b:É)(a:List (Nat×Int))(x y:Nat)(g k:Int)(w:Î),jk E.r E.T E.C s b w->w.ownsRow 0 250 2 b a.length (je a)->lr w->ic s->x<8->y<8->0<=g->g<=100000->gL k->(a.length:Int)+g<=1000000->
 Ù À 157 #[Â<|Á ⟨E.r,0,Ã⟩,Æ Í x,Æ Í y,Æ Ë g,Æ Ë k,Æ Í d] w λe c=>
  e=Ì (ê #[Æ Ë (F s a x y g k).r,Õ (F s a x y g k).C,Æ Ë (F s a x y g k).M])/\∃f,iY E b a.length w (F s a x y g k).s (F s a x y g k).I c f
section
variable{E:jZ}{rb:Nat}{c:RC}{sv lv:É}{s a:St}{ls:List (Nat×Int)}{q p:Int}
theorem R.al2(ok:E.Ok)(b:R E rb c sv lv zQ s ls w)(r:iY E lv ls.length w a gJ u v):R E rb c sv v zQ a gJ u/\Tr E rb sv lv ls.length w sv v gJ.length u:=by
 have f:∀{j:Nat} {g:Array É} {T:ç},w.heap[j]?=Á (Ï g T (0,0))->T≠E.T->T≠250->¬(j=E.r\/lv.ownBlock=Á j):=λ{j g T} d h1 h2=>by rintro(e|e);rw[e,b.C]at d;grind;let⟨k,i⟩:=lN b.M e;grind
 refine⟨⟨b.r.C r.C<|f b.r ok.I.symm A,ia b.I r.C λj d=> ?_,r.r,r.I⟩,r.C.fG λh _ q=>q.elim Ç λq=>Ê<|Ê<|Ê q,λj q=>Ç q,r.l,r.M⟩;let⟨k,i⟩:=lN b.I d;exact f i ok.M.symm A
def al3(ok:E.Ok)(a:R E rb c sv lv zQ s ls w)(b:c.d=4): Ù À 194 #[Â<|Á ⟨rb,0,Ã⟩,Æ Ë q,Æ Ë p,Æ Ë h] w λe u=>e=Ì (Ý #[Æ Ë 0,Æ Ë 0])/\u=w:=by
 have e:w.cell? ⟨rb,4,Ã⟩=Á (Æ Í 4):=by have:=a.r.r 4 (Æ Í c.d) U;rwa[b]at this
 go_enter ź,ţ;go_wp2;go_ret2;exact⟨U,U⟩
end
section
variable{E:jZ}{c:RC}{s a:St}{q p:Int}{F:kZ}
def al4(E:jZ)(n:Nat)(c:RC)(jQ x:É)(zQ:List Int)(gJ:List (Nat×Int))(w W:Î)(r:mU)(u:Î):Prop:=
 ∃z,iY E x gJ.length W r.s r.I u z/\R E n c jQ z zQ r.s r.I u/\Tr E n jQ x gJ.length w jQ z r.I.length u
def al5(p g:Int):(if g<p then g else p)=min p g:=by rw[Int.min_def];split<;>split<;>omega
def Ja(a:0<=h)(b:h<9223372036854775808):Í.wrap h=h:=by show(if(Í.signed&&decide (h%(2^64:Int)≥(2^63:Int)))=Ñ then h%(2^64:Int)-2^64 else h%(2^64:Int))=h;rw[(Int.emod_eq_of_lt a Z),if_neg];simp;omega
def al6{q:Int}(h:gL q):Í.wrap (q.tmod 8)=((q%8).toNat:Int):=by
 rw[eX h.1];have:Í.wrap (q%8)=q%8:=by exact Ja Z Z
 rw[this];omega
def al7(a:0<=h)(b:h<4):Í.wrap (h+1)=h+1:=by exact Ja Z Z
def al8(ok:E.Ok)(a:R E n c jQ x zQ s gJ w)(f:0<=c.d)(i:c.d<4)(hF:xY F (c.d+1))(j:lr w)(k:ic s)(l:c.y<8)(b:gL q)(m:gL p)(o:gL h)(B:0<=c.g)(C:c.g<=100000)(D:(gJ.length:Int)+c.g<=1000000)(W:Î)(kW:fw fB w W): Ù À 157 #[Â<|Á ⟨E.r,0,Ã⟩,Æ Í c.y,Æ Í<|Í.wrap<|q.tmod 8,Æ Ë<|min p c.g,Æ Ë h,Æ Í<|Í.wrap<|c.d+1] W λe u=>
  e=Ì (ê #[Æ Ë (F s gJ c.y (q%8).toNat (min p c.g) h).r,Õ (F s gJ c.y (q%8).toNat (min p c.g) h).C,Æ Ë (F s gJ c.y (q%8).toNat (min p c.g) h).M])/\al4 E n c jQ x zQ gJ w W (F s gJ c.y (q%8).toNat (min p c.g) h) u:=by
 have e:=a.fH kW;rw[al6 b,al7 f i];have G:=m.1;have H:=b.1;refine gl (hF E ok s x gJ c.y (q%8).toNat (min p c.g) h W e.C e.M (j.r kW id) k l Z Z Z o Z) λu ⟨z,r⟩=> ?_;let⟨t,v⟩:=e.al2 ok r;exact⟨U,z,r,t,(Tr.fH kW).fA v⟩
def al9(h:R E n c jQ x zQ s gJ w)(r:iY E x i (Ē<|í w<|Ï l.toArray T) a kX u z):fy w.heap.size l T u:=by apply fy.C (w:=Ē<|í w<|Ï l.toArray T) (fy.N w l T) r.C;rintro(e|e);have:=fy.M h.C;omega;have:=(h.M.lt _ e).2;omega
def Ta{lO:É}(ok:E.Ok)(a:R E n c jQ x zQ s gJ u)(t:Tr E n lO z b w jQ x k u)(g:w.heap.size<=j)(d:fy j l 245 u)(i:Nat)(v:É): R E n c jQ x zQ s gJ (u.setCell ⟨j,i,Ã⟩ v)/\Tr E n lO z b w jQ x k (u.setCell ⟨j,i,Ã⟩ v)/\fy j (l.set i v) 245 (u.setCell ⟨j,i,Ã⟩ v):=by have e:fw (λh=>h=j) u (u.setCell ⟨j,i,Ã⟩ v):=fw.I (X:=λh=>h=j) (p:=⟨j,i,Ã⟩) U v<|Ê d.S;refine⟨a.alT ok d e,t.alS e (λi q=>by omega) λi m q f=> ?_,d.fR i v⟩;unfold fy at d;rw[q,d]at f;cases f
def ama(ok:E.Ok)(a:R E n c jQ x zQ s gJ w)(oY:0<=c.d)(hd:c.d<4)(hF:xY F (c.d+1))(hI:qF F)(hr:lr w)(O:ic s)(hx:c.x<8)(hy:c.y<8)(P:gL q)(Q:gL p)(hk:gL h)(rn:0<=c.g)(rz:c.g<=100000)(hlen:(gJ.length:Int)+c.g<=1000000): Ù À 194 #[Â<|Á ⟨n,0,Ã⟩,Æ Ë q,Æ Ë p,Æ Ë h] w λe u=>e=Ì (Ý #[Æ Ë (F s gJ c.y (q%8).toNat (min p c.g) h).M,Æ Ë<|uU (F s gJ c.y (q%8).toNat (min p c.g) h).C])/\zw E n jQ x gJ.length w {c with g:=c.g-(F s gJ c.y (q%8).toNat (min p c.g) h).r} zQ (F s gJ c.y (q%8).toNat (min p c.g) h).s (F s gJ c.y (q%8).toNat (min p c.g) h).I u:=by
 have c0:w.cell? ⟨n,0,Ã⟩=Á (Â<|Á ⟨E.r,0,Ã⟩):=a.r.r 0 _ U;have c2:w.cell? ⟨n,2,Ã⟩=Á (Æ Í c.y):=a.r.r 2 _ U;have c4:w.cell? ⟨n,4,Ã⟩=Á (Æ Í c.d):=a.r.r 4 _ U;have c5:w.cell? ⟨n,5,Ã⟩=Á (Æ Ë c.g):=a.r.r 5 _ U;have iu:=a.r.M;have Di:=fy.M a.C;have hq0:=P.1;have qj:=P.2;have F':=Q.1;have Jb:=Q.2;have call:=al8 ok a oY hd hF hr O hy P Q hk rn rz hlen;have S:=hI s gJ c.y (q%8).toNat (min p c.g) h O hy Z hk Z Z Z;have L:=S.C;have M:=S.r;clear S;generalize F s gJ c.y (q%8).toNat (min p c.g) h=r at*;have H:=fv<|Ä a<|Ä call<|Ä L M;have Dy:(c.d==4)=Ò:=by rw[beq_eq_false_iff_ne];omega
 clear a hr O hlen call L M;go_enter ź,ţ;go_wp2_with fail;have f:=fv<|Ä ((H.1.fH<|fw.gM _ _).r.r 0 _ rfl)<|Ä ((H.1.fH<|fw.gM _ _).r.r 2 _ rfl)<|Ä ((H.1.fH<|fw.gM _ _).r.r 4 _ rfl)<|(H.1.fH<|fw.gM _ _).r.r 5 _ rfl;refine mI (λu=>u.cell? ⟨n,0,Ã⟩=Á (Â<|Á ⟨E.r,0,Ã⟩)/\u.cell? ⟨n,2,Ã⟩=Á (Æ Í c.y)/\u.cell? ⟨n,4,Ã⟩=Á (Æ Í c.d)/\u.cell? ⟨n,5,Ã⟩=Á (Æ Ë c.g)) [25] fK ?_;iterate 16 apply tk f
 refine I9 (i:=16) (oi:={dst:=Á 32,op:=š {callee:=Go.Callee.builtin κ,args:=#[à 27,à 31],argTypes:=#[23,23]},type:=23,pos:= "run.go:186",after:=#[{on:=11,ground:=á},{on:=15,ground:=á}],guard:=Ã}) (v:=Æ Ë<|min p c.g) U fK fK fK fK (λ_ _ _ a=>a) f (Ç ⟨gq,?amb⟩) ?av9
 case amb=>(intro w hSw;let⟨q0,q2,q4,q5⟩:=hSw;go_simp<;>rw[al5])
 apply tk f 17;apply tk f 18;apply tk f 19;apply tk f 20;apply tk f 21;apply tk f 22;refine F_ (i:=23) (j:=24) (oi:={dst:=Á 39,op:=š {callee:=Go.Callee.value<|Ι 157,args:=#[à 19,à 23,à 26,à 32,à 33,à 38],argTypes:=#[260,3,3,23,23,3]},type:=245,pos:= "run.go:186",after:=#[{on:=3,ground:=á},{on:=7,ground:=á},{on:=10,ground:=á},{on:=16,ground:=á},{on:=17,ground:=á},{on:=22,ground:=á}],guard:=Ã}) (oj:={dst:=Á 10,op:=ζ 245,type:=0,pos:= "run.go:186",after:=#[],guard:=Ã}) fK U U ?_ ?_
 .intro K B;go_simp;go_at_call 157;refine gl (H.2.1 _ kp) λo ⟨se,N,l,C⟩=> ?_;dsimp only;refine B.out _ _ (λ_=>⟨l.r.r 0 _ U,l.r.r 2 _ U,l.r.r 4 _ U,l.r.r 5 _ U⟩) ?_;clear B K;have D:=l.fH<|fw.gP fB o #[Æ Ë 0,Õ Ò,Æ Ë 0] 245;refine jM 24 (λ_=>⟨D.r.r 0 _ U,D.r.r 2 _ U,D.r.r 4 _ U,D.r.r 5 _ U⟩) ?_;refine jM 25 (λq=>absurd fD q) ?_;refine ma ?_;have T:=fw.gP fB o #[Æ Ë r.r,Õ r.C,Æ Ë r.M] 245;have m:=l.fH T;have G:=C.fA<|Tr.fH T;have k:fy o.heap.size [Æ Ë r.r,Õ r.C,Æ Ë r.M] 245 _:=fy.N o _ 245;generalize í o (Ï #[Æ Ë r.r,Õ r.C,Æ Ë r.M] 245)=W at*;generalize o.heap.size=b at*;clear D T l C N;have v0:=k.r 0 _ U;have V:=k.r 1 _ U;have X:=k.r 2 _ U;have z5:W.cell? ⟨n,5,Ã⟩=Á (Æ Ë c.g):=m.r.r 5 _ U;have y5:=m.r.I 5;have zl:=m.r.M;have zb:=k.M;have L:=H.2.2.1;have M:=H.2.2.2;have I:=fy.H m.r k A;have Y:=(I2 (w:=W) (i:=5) (u:=Æ Ë<|c.g-r.r) I).trans V;have y2:=(I2 (w:=W) (i:=5) (u:=Æ Ë<|c.g-r.r) I).trans X;have z:=fv<|Ä m G;clear m G k f;go_wp2;go_region;go_wp2_with fail;have f:=fv<|Ä Y y2;refine mI (λu=>u.cell? ⟨b,1,Ã⟩=Á (Õ r.C)/\u.cell? ⟨b,2,Ã⟩=Á (Æ Ë r.M)) [] fK ?_;iterate 5 apply tk f
  refine nN 5 ?_;refine nV (I8 _ _) λw2 Dz=> ?_;subst w2;refine⟨λ_=>f,?_⟩;refine tk f 6 ?_;refine tk f 7 ?_;refine ma ?_;go_wp2;go_ret2;let⟨n1,n2⟩:=z.1.N ok 5 (v:=Æ Ë<|c.g-r.r) (c':={c with g:=c.g-r.r}) (lO:=jQ) (ss':=zQ) U z.1.I λ_ q=>q;have J:=(fw.gM fB<|W.setCell ⟨n,5,Ã⟩<|Æ Ë<|c.g-r.r).fA<|fw.gM fB _;exact⟨U,_,_,n1.fH J,(z.2.fA n2).fA<|Tr.fH J⟩
 .intro K B;go_simp;refine B.out _ _ (λ_=>⟨(H.1.fH<|((fw.gM _ _).fA<|fw.gP _ _ _ _)).r.r 0 _ U,(H.1.fH<|((fw.gM _ _).fA<|fw.gP _ _ _ _)).r.r 2 _ U,(H.1.fH<|((fw.gM _ _).fA<|fw.gP _ _ _ _)).r.r 4 _ U,(H.1.fH<|((fw.gM _ _).fA<|fw.gP _ _ _ _)).r.r 5 _ U⟩) ?_;clear B K;refine nN 23 ?_;refine nV (H.2.1 (Ē<|í w<|Ï #[Æ Ë 0,Õ Ò,Æ Ë 0] 245) kp) λo ⟨se,N,l,C⟩=>⟨λ_=>⟨l.r.r 0 _ U,l.r.r 2 _ U,l.r.r 4 _ U,l.r.r 5 _ U⟩,?_⟩;have t:=al9 H.1 N;have k0:=t.r 0 _ U;have k1:=t.r 1 _ U;have k2:=t.r 2 _ U;have f0:=t.I 0;have f1:=t.I 1;have f2:=t.I 2;refine jM 25 (λq=>absurd fD q) ?_;refine ma ?_;let⟨a1,a2,a3⟩:=Ta ok l C (eE _) t 0<|Æ Ë r.r;let⟨b1,b2,b3⟩:=Ta ok a1 a2 (eE _) a3 1<|Õ r.C;let⟨m,G,k⟩:=Ta ok b1 b2 (eE _) b3 2<|Æ Ë r.M;generalize ì (ì (ì o ⟨w.heap.size,0,Ã⟩<|Æ Ë r.r) ⟨w.heap.size,1,Ã⟩<|Õ r.C) ⟨w.heap.size,2,Ã⟩ (Æ Ë r.M)=W at*;replace k:fy w.heap.size [Æ Ë r.r,Õ r.C,Æ Ë r.M] 245 W:=k;clear a1 a2 a3 b1 b2 b3 t k0 k1 k2 f0 f1 f2 l C N;have v0:=k.r 0 _ U;have V:=k.r 1 _ U;have X:=k.r 2 _ U;have z5:W.cell? ⟨n,5,Ã⟩=Á (Æ Ë c.g):=m.r.r 5 _ U;have y5:=m.r.I 5;have zl:=m.r.M;have zb:=k.M;have L:=H.2.2.1;have M:=H.2.2.2;have I:=fy.H m.r k A;have Y:=(I2 (w:=W) (i:=5) (u:=Æ Ë<|c.g-r.r) I).trans V;have y2:=(I2 (w:=W) (i:=5) (u:=Æ Ë<|c.g-r.r) I).trans X;have z:=fv<|Ä m G;clear m G k f;go_wp2;go_region;go_wp2_with fail;have f:=fv<|Ä Y y2;refine mI (λu=>u.cell? ⟨w.heap.size,1,Ã⟩=Á (Õ r.C)/\u.cell? ⟨w.heap.size,2,Ã⟩=Á (Æ Ë r.M)) [] fK ?_;iterate 5 apply tk f
  refine nN 5 ?_;refine nV (I8 _ _) λw2 Dz=> ?_;subst w2;refine⟨λ_=>f,?_⟩;refine tk f 6 ?_;refine tk f 7 ?_;refine ma ?_;go_wp2;go_ret2;let⟨n1,n2⟩:=z.1.N ok 5 (v:=Æ Ë<|c.g-r.r) (c':={c with g:=c.g-r.r}) (lO:=jQ) (ss':=zQ) U z.1.I λ_ q=>q;have J:=(fw.gM fB<|W.setCell ⟨n,5,Ã⟩<|Æ Ë<|c.g-r.r).fA<|fw.gM fB _;exact⟨U,_,_,n1.fH J,(z.2.fA n2).fA<|Tr.fH J⟩
end
section
variable{E:jZ}{rb:Nat}{c:RC}{sv lv:É}{s f:St}{q p:Int}{F:kZ}
def wF(c:RC)(g:Int):RC:={c with g:=g}
def amc(ok:E.Ok)(a:R E rb c sv lv zQ s gJ w)(f:0<=c.d)(D:c.d<=4)(hF:c.d<4->xY F (c.d+1))(i:qF F)(j:lr w)(k:ic s)(l:c.x<8)(m:c.y<8)(n:gL q)(o:gL p)(r:gL h)(v:0<=c.g)(z:c.g<=100000)(B:(gJ.length:Int)+c.g<=1000000)(t:RT)(C:t=(jy F c ⟨zQ,s,gJ,c.g⟩ q p h).2.2): Ù À 194 #[Â<|Á ⟨rb,0,Ã⟩,Æ Ë q,Æ Ë p,Æ Ë h] w λe u=>e=Ì (Ý #[Æ Ë (jy F c ⟨zQ,s,gJ,c.g⟩ q p h).1,Æ Ë (jy F c ⟨zQ,s,gJ,c.g⟩ q p h).2.1])/\zw E rb sv lv gJ.length w (wF c t.g) zQ t.s t.C u:=by
 subst C;by_cases b:c.d=4;have e:jy F c ⟨zQ,s,gJ,c.g⟩ q p h=(0,0,⟨zQ,s,gJ,c.g⟩):=by rw[jy,if_pos b]
 rw[e];refine iT (al3 ok a b) ?_;exact⟨U,a.oQ⟩;have e:jy F c ⟨zQ,s,gJ,c.g⟩ q p h=((F s gJ c.y (q%8).toNat (min p c.g) h).M,uU (F s gJ c.y (q%8).toNat (min p c.g) h).C,⟨zQ,(F s gJ c.y (q%8).toNat (min p c.g) h).s,(F s gJ c.y (q%8).toNat (min p c.g) h).I,c.g-(F s gJ c.y (q%8).toNat (min p c.g) h).r⟩):=by rw[jy,if_neg b]
 rw[e];exact ama ok a f Z (hF Z) i j k l m n o r v z B
def amd(ok:E.Ok)(f:R E rb c sv lv (((zQ++[h])++[p])++[q]) s gJ w)(X:zQ.length<=800)(l:0<=c.d)(m:c.d<=4)(hF:c.d<4->xY F (c.d+1))(o:qF F)(r:lr w)(v:ic s)(z:c.x<8)(B:c.y<8)(C:gL q)(D:gL p)(G:gL h)(I:0<=c.g)(J:c.g<=100000)(K:(gJ.length:Int)+c.g<=1000000)(t:RT)(L:t=(jy F c ⟨zQ,s,gJ,c.g⟩ q p h).2.2)(a b:Int)(i:a=(jy F c ⟨zQ,s,gJ,c.g⟩ q p h).1)(j:b=(jy F c ⟨zQ,s,gJ,c.g⟩ q p h).2.1): Ù À 189 #[Â<|Á ⟨rb,0,Ã⟩,Æ Í 20] w λe u=>e=Ì (Ý #[])/\zw E rb sv lv gJ.length w (wF c t.g) (zQ++[a,b]) t.s t.C u:=by have Y:=f.r.r 0 _ U;have c2:=f.r.r 2 _ U;have iu:=f.r.M;have Di:=fy.M f.C;have H:=fv<|Ä f<|Ä r<|Ä hF o;go_enter Ņ,Ķ;go_wp2;go_quiet (fail);go_wp2_with fail;go_at_call 188;refine gl (Br ok (H.1.fH<|fw.iQ fB w nq) (by first|omega|(simp;omega))) λw1 ⟨Jc,M,N⟩=> ?_;go_wp2_with fail;go_at_call 188;refine gl (Br ok M (by first|omega|(simp;omega))) λw2 ⟨MV,O,P⟩=> ?_;go_wp2_with fail;go_at_call 188;refine gl (Br ok O (by first|omega|(simp;omega))) λw3 ⟨G_,Q,S⟩=> ?_;have e:=(((Tr.fH (E:=E) (rb:=rb) (sv:=sv) (lv:=lv) (n:=gJ.length)<|fw.iQ fB w nq).fA N).fA P).fA S;go_wp2_with fail;go_at_call 194;refine gl (amc ok Q l m H.2.2.1 H.2.2.2 (H.2.1.N ok H.1 e) v z B C D G I J K t L) λw4 ⟨sv4,lv4,T,V⟩=> ?_;rw[<-i,<-j];go_wp2_with fail;go_at_call 187;refine gl (C' ok T (by first|omega|(simp;omega)) _ _) λw5 ⟨sv5,k,W⟩=> ?_;go_wp2;go_end0;rw[<-i,<-j]at k;exact⟨U,_,_,k,(e.fA V).fA W⟩
end
def ot{l:List Int}(h:∀p∈l,gL p):gL (fV l):=by by_cases a:0<l.length;apply h _;rw[D_ l a];simp[fV];have:l=[]:=Ü Z;subst this;exact⟨A,A⟩
def nW{l:List Int}(h:∀p∈l,gL p):∀p∈fU l,gL p:=λp a=>h p<|List.dropLast_subset l a
def lF(l:List Int):(fU l).length=l.length-1:=by simp[fU]
def uV{l:List Int}(h:0<l.length):fU l++[fV l]=l:=(D_ l h).symm
theorem ame(F:kZ)(c:RC)(l b:List Int)(s:St)(a:List (Nat×Int))(g q p k:Int): (jy F c ⟨l,s,a,g⟩ q p k).1=(jy F c ⟨b,s,a,g⟩ q p k).1/\(jy F c ⟨l,s,a,g⟩ q p k).2.1=(jy F c ⟨b,s,a,g⟩ q p k).2.1/\(jy F c ⟨l,s,a,g⟩ q p k).2.2.s=(jy F c ⟨b,s,a,g⟩ q p k).2.2.s/\ (jy F c ⟨l,s,a,g⟩ q p k).2.2.C=(jy F c ⟨b,s,a,g⟩ q p k).2.2.C/\(jy F c ⟨l,s,a,g⟩ q p k).2.2.g=(jy F c ⟨b,s,a,g⟩ q p k).2.2.g:=by unfold jy;grind
section
variable{E:jZ}{rb:Nat}{c:RC}{sv lv:É}{s:St}{F:kZ}
def amf(ok:E.Ok)(h:R E rb c sv lv zQ s gJ w)(hn:zQ.length<=700)(K:0<=c.d)(L:c.d<=4)(hF:c.d<4->xY F (c.d+1))(D:qF F)(G:lr w)(B:ic s)(M:c.x<8)(q:c.y<8)(u:∀p∈zQ,gL p)(N:0<=c.g)(O:c.g<=100000)(P:(gJ.length:Int)+c.g<=1000000)(k:Nat)(wG:2<=k)(ni:k<=20)(awc:k≠17)(Q I S:Int)(b:jx[k]?=Á (Q,I,S))(Bs:I<=zQ.length)(t:RT)(T:t=lu F c k ⟨zQ,s,gJ,c.g⟩): Ù À 189 #[Â<|Á ⟨rb,0,Ã⟩,Æ Í k] w λe V=>e=Ì (Ý #[])/\zw E rb sv lv gJ.length w (wF c t.g) t.r t.s t.C V:=by
 subst T;have o:=ot u;have r:=ot<|nW u;have W:=ot<|nW<|nW u;have l1:=lF zQ;have l2:=lF<|fU zQ;have l3:=lF<|fU<|fU zQ;by_cases X:k=20;subst X;let⟨Y,e2,e3,e4,e5⟩:=ame F c zQ (fU<|fU<|fU zQ) s gJ c.g (fV zQ) (fV<|fU zQ)<|fV<|fU<|fU zQ;have e:lu F c 20 ⟨zQ,s,gJ,c.g⟩=⟨fU (fU<|fU zQ)++[(jy F c ⟨zQ,s,gJ,c.g⟩ (fV zQ) (fV<|fU zQ)<|fV<|fU<|fU zQ).1,(jy F c ⟨zQ,s,gJ,c.g⟩ (fV zQ) (fV<|fU zQ)<|fV<|fU<|fU zQ).2.1],(jy F c ⟨zQ,s,gJ,c.g⟩ (fV zQ) (fV<|fU zQ)<|fV<|fU<|fU zQ).2.2.s,(jy F c ⟨zQ,s,gJ,c.g⟩ (fV zQ) (fV<|fU zQ)<|fV<|fU<|fU zQ).2.2.C,(jy F c ⟨zQ,s,gJ,c.g⟩ (fV zQ) (fV<|fU zQ)<|fV<|fU<|fU zQ).2.2.g⟩:=U;rw[e,Y,e2,e3,e4,e5];simp[jx]at b;exact amd ok (by rwa[uV Z,uV Z,uV Z]) Z K L hF D G B M q o r W N O P _ U _ _ U U;by_cases k19:k=19;subst k19;simp[jx]at b;rw[<-uV (l:=zQ) Z]at h;have l0:(fU zQ).length<=800:=Z
 exact al1 ok h l0 q Z;have c0:=h.r.r 0 _ U;have c1:=h.r.r 1 _ U;have c2:=h.r.r 2 _ U;have c3:=h.r.r 3 _ U;have d1:=h.C.fC q;have iu:=h.r.M;have Di:=fy.M h.C;have v:=fv<|Ä h<|Ä B b;clear h hF D G B u b;go_enter Ņ,Ķ;go_wp2;go_quiet (fail);have H:=fv<|Ä (v.1.fH<|fw.iQ _ w nq)<|Tr.fH (E:=E) (rb:=rb) (sv:=sv) (lv:=lv) (n:=gJ.length)<|fw.iQ _ w nq;have cases:(k=2\/k=3\/k=4\/k=5\/k=6\/k=7)\/(k=9\/k=16\/k=18)\/(k=8\/k=10\/k=15)\/k=11\/k=12\/k=13\/k=14:=Z;have b:=v.2.2;obtain a|a|a|a:=cases
 case' inl=>
  have e:=fv (show lu F c k ⟨zQ,s,gJ,c.g⟩=⟨fU (fU zQ)++[xV k (fV<|fU zQ)<|fV zQ],s,gJ,c.g⟩ by obtain rfl|rfl|rfl|rfl|rfl|rfl:=a<;>rfl);rw[<-uV (l:=zQ) (by obtain rfl|rfl|rfl|rfl|rfl|rfl:=a<;>(simp[jx]at b;omega)),<-uV (l:=fU zQ) (by obtain rfl|rfl|rfl|rfl|rfl|rfl:=a<;>(simp[jx]at b;omega))]at H;have z:∀m:Int,8<=m->((k:Int)==m)=Ò:=λm h=>by rw[beq_eq_false_iff_ne];omega
  have e8:=z 8 A;have e9:=z 9 A;have Yz:=z 10 A;clear z
 case' inr.inl=>
  rw[<-uV (l:=zQ) (by obtain rfl|rfl|rfl:=a<;>(simp[jx]at b;omega)),<-uV (l:=fU zQ) (by obtain rfl|rfl|rfl:=a<;>(simp[jx]at b;omega))]at H;obtain rfl|rfl|rfl:=a
 case' inr.inr.inl=>
  rw[<-uV (l:=zQ) (by obtain rfl|rfl|rfl:=a<;>(simp[jx]at b;omega))]at H;obtain rfl|rfl|rfl:=a
 case' inr.inr.inr=>
  obtain rfl|rfl|rfl|rfl:=a
 all_goals
  clear b;go_wp2_with (first|(go_at_call 188;refine gl (Br ok H.1 (by first|omega|(simp;omega))) λC ⟨J,f,i⟩=> ?_;replace H:=fv<|Ä f<|H.2.fA i;clear f i)|(go_at_call 187;with_reducible refine gl (C' ok H.oQ.1 Z _ _) λC ⟨J,f,i⟩=> ?_;replace H:=fv<|Ä f<|H.oQ.2.fA i;clear f i)|(go_at_call 187;refine gl (C_ ok H.1 Z _) λC ⟨J,f,i⟩=> ?_;replace H:=fv<|Ä f<|H.2.fA i;clear f i)|(go_at_call 195;refine iT (alO k _ _ r.1 r.2 o.1 o.2 _) ?_)|(go_at_call 193;refine gl (alW E ok rb c _ lv _ s gJ _ H.1 _ _ o.1 o.2 r.1 r.2 q (v.2.1.fC _).1 (v.2.1.fC _).2) λC ⟨f,i⟩=> ?_;replace H:=fv<|Ä f<|H.2.fA i;clear f i)|(go_at_call 192;refine iT (alL E.r (c.y*18) _ o.1 o.2 _) ?_;have d2:=H.1.C.alI q (j:=(fV zQ%16).toNat) (by have:=o.1;omega);have f2:=fy.I H.1.C (c.y*18+2+(fV zQ%16).toNat)))
  go_end0;first|(rw[e.oQ];exact⟨U,_,_,H⟩)|exact⟨U,_,_,H⟩|(let⟨r1,r2⟩:=H.1.S ok (c.y*18+2+(fV zQ%16).toNat) (H.1.C.S3 q (by have:=o.1;omega)<|fV<|fU zQ);exact⟨U,_,_,r1,H.2.fA r2⟩)
end
def Bt(c:Int)(w:Î):Ù À 87 #[Æ .u8 c] w λe a=>e=Ì (Æ Í<|il c)/\a=w:=by
 go_enter Tryz.func87,Tryz.ntmps87;go_wp2;all_goals go_ret
 all_goals refine⟨Du ?_,U⟩
 all_goals simp only[beq_iff_eq,beq_eq_false_iff_ne,ne_eq]at*
 all_goals(try subst c)
 all_goals first|rfl|(unfold il;simp[*];done)|(unfold il;rw[if_neg Z];simp[*])
def jf(k:Nat):Int×Int×Int:=(jx[k]?).getD (0,0,0)
def DC(P:ByteArray)(a:Int):Int:=((P.data.getD a.toNat 0).toNat:Int)
def mJ(P:ByteArray)(a:Int):Nat:=il<|DC P a
def nt(F:kZ)(c:RC)(P:ByteArray):Nat->Int->RT->Int×Bool×RT
 |0,_,t=>(0,Ò,t)|f+1,pl,t=>
  if pl=P.size then(0,Ñ,t)
  else if(P.size:Int)<pl then(0,Ò,{t with g:=0})
  else if qE t.g t.r.length (jf<|mJ P pl).1 (jf<|mJ P pl).2.1 (jf<|mJ P pl).2.2=Ò then(0,Ò,{t with g:=0})
  else if mJ P pl=1 then nt F c P f (pl+1) {t with r:=t.r++[DC P pl-48],g:=t.g-(jf<|mJ P pl).1}
  else if mJ P pl=17 then
   if fV (fU t.r)=0 then nt F c P f (pl+1) {t with r:=fU<|fU t.r,g:=t.g-(jf<|mJ P pl).1}else nt F c P f (fV t.r) {t with r:=fU<|fU t.r,g:=t.g-(jf<|mJ P pl).1}
  else if mJ P pl=21 then(fV t.r,Ñ,{t with r:=fU t.r,g:=t.g-(jf<|mJ P pl).1})
  else if mJ P pl=22 then(0,Ò,{t with g:=t.g-(jf<|mJ P pl).1})
  else nt F c P f (pl+1) (lu F c (mJ P pl) {t with g:=t.g-(jf<|mJ P pl).1})
structure mW(t:RT):Prop where
 r:∀p∈t.r,gL p
 M:t.r.length<=32
 s:ic t.s
 g0:0<=t.g
 C:t.g<=100000
 I:(t.C.length:Int)+t.g<=1000000
def amg[Decidable bQ](c:i<=m)(d:b<=m):(if bQ then i else b)<=m:=by split;exact c;exact d
def MW(c:Int):il c<=22:=by unfold il;repeat' (first|refine amg A ?_|decide)
def wH:gL 0:=⟨A,A⟩
def amh:gL 1:=⟨A,A⟩
theorem Tb(h:k<=22):jx[k]?=Á (jf k):=by
 unfold jf;have:k<jx.length:=by show k<23;omega
 grind
def uW(n:Int):gL (wu n):=⟨alM n,alN n⟩
def H_(b:Bool):gL (uU b):=by cases b<;>exact⟨A,A⟩
def ami{q:Int}(a:gL c)(d:gL q):gL (xV h c q):=by
 unfold xV;repeat' split
 all_goals first|exact uW _|exact H_ _|exact⟨A,A⟩|skip
 rename_i e;have b:=a.1;exact⟨Int.ediv_nonneg b d.1,Int.lt_of_le_of_lt (Int.ediv_le_self _ b) a.2⟩
def ic.fR{s:St}(h:ic s){a:I5}(b:gL a.fC)(d:∀j,gL<|a.r j)(e:a.C.size<=40/\∀c∈a.C.data.toList,xW c=Ñ):ic (s.fR i a):=by refine⟨λj=> ?_,λj k=> ?_,λj=> ?_⟩<;>unfold St.fR<;>split;exact b;exact h.fC j;exact d k;exact h.C j k;exact e;exact h.I j
def ic.r{s:St}(h:ic s)(i:Nat){b:Int}(a:gL b):ic (s.fC i b):=h.fR a (h.C i)<|h.I i
def ic.S3{s:St}(h:ic s)(i j:Nat)(a:gL c):ic (s.C i j c):=by refine h.fR (h.fC i) (λk=> ?_)<|h.I i;show gL (if k=j then c else(s i).r k);split;exact a;exact h.C i k
def amj{s:St}(h:ic s)(y:Nat){p:Int}(a:gL p):gL (qk s y c p).1/\ic (qk s y c p).2:=by unfold qk;split;exact⟨wH,h⟩;rename_i d;have b:=h.fC y;have e:=a.1;refine⟨amh,ic.r (ic.r h y ⟨Z,by have:=b.2;omega⟩) _<|uW _⟩
def I_(h:n<8):gL (n:Int):=⟨Z,Z⟩
section
variable{F:kZ}{c:RC}{t:RT}
def tV{l:List Int}(h:∀p∈l,gL p)(k:∀p∈zQ,gL p):∀p∈l++zQ,gL p:=λp a=>(dx.1 a).elim (h p)<|k p
def xZ{a:Int}(h:gL a):∀p∈[a],gL p:=λp b=>by simp at b;subst b;exact h
def Td{a b:Int}(h:gL a)(k:gL b):∀p∈[a,b],gL p:=λp c=>by simp at c;obtain rfl|rfl:=c;exact h;exact k
def amk(b:qF F)(a:mW t)(d:c.y<8){p k:Int}(f:gL h)(i:gL p)(j:gL k): gL (jy F c t h p k).1/\gL (jy F c t h p k).2.1/\ic (jy F c t h p k).2.2.s/\0<=(jy F c t h p k).2.2.g/\(jy F c t h p k).2.2.g<=t.g/\((jy F c t h p k).2.2.C.length:Int)+(jy F c t h p k).2.2.g<=(t.C.length:Int)+t.g:=by
 unfold jy;split;exact⟨wH,wH,a.s,a.g0,cK _,cK _⟩
 .have l:0<=min p t.g:=by have:=i.1;have:=a.g0;omega
  have m:=a.C;have n:=a.I;have o:=f.1;have e:=b t.s t.C c.y (h%8).toNat (min p t.g) k a.s d Z j l Z Z;have r:=e.C;have u:=e.r;have v:=e.I;refine⟨e.M,H_ _,e.N,?_,?_,?_⟩;all_goals simp only
  all_goals have:=a.g0
  all_goals omega
theorem Te(v:qF F)(w:c.x<8)(r:c.y<8)(z:gL c.k)(P:2<=k)(Q:k<=20)(S:k≠17){o u:Int}(d:jx[k]?=Á (h,o,u)){g:Int}(T:t.g=g-h)(a:mW t)(V:(t.C.length:Int)+g<=1000000)(W:o<=t.r.length)(X:(t.r.length:Int)-o+u<=32): mW (lu F c k t)/\(lu F c k t).g<=t.g/\((lu F c k t).C.length:Int)+(lu F c k t).g<=t.C.length+g:=by
 have i:=ot a.r;have j:=ot<|nW a.r;have B:=ot<|nW<|nW a.r;have m:=nW a.r;have n:=nW m;have C:=nW n;have f:=lF t.r;have q:=lF<|fU t.r;have Y:=lF<|fU<|fU t.r;have g1:=a.C;obtain⟨D,E,G,H,I,J⟩:=MS k _ d;simp only at D E G H I J;have len:=a.M;have b:∀{l:List Int},(∀p∈l,gL p)->l.length<=32->mW {t with r:=l}:=λp K=>⟨p,K,a.s,a.g0,a.C,a.I⟩;have cases:(k=2\/k=3\/k=4\/k=5\/k=6\/k=7)\/k=8\/k=9\/k=10\/k=11\/k=12\/k=13\/k=14\/k=15\/k=16\/k=18\/k=19\/k=20:=Z;obtain hq|rfl|rfl|rfl|rfl|rfl|rfl|rfl|rfl|rfl|rfl|rfl|rfl:=cases;have e:lu F c k t={t with r:=fU (fU t.r)++[xV k (fV<|fU t.r)<|fV t.r]}:=by obtain rfl|rfl|rfl|rfl|rfl|rfl:=hq<;>rfl
 rw[e];exact⟨b (tV n<|xZ<|ami j i) (by simp[f,q];omega),cK _,by simp only;omega⟩;exact⟨b (tV m<|Td i i) (by simp[f];simp[jx]at d;omega),cK _,by show(t.C.length:Int)+t.g<=_;omega⟩;exact⟨b (tV n<|Td i j) (by simp[f,q];omega),cK _,by show(t.C.length:Int)+t.g<=_;omega⟩;exact⟨b m (by rw[f];omega),cK _,by show(t.C.length:Int)+t.g<=_;omega⟩;exact⟨b (tV a.r<|xZ z) (by simp;simp[jx]at d;omega),cK _,by show(t.C.length:Int)+t.g<=_;omega⟩;exact⟨b (tV a.r<|xZ<|I_ w) (by simp;simp[jx]at d;omega),cK _,by show(t.C.length:Int)+t.g<=_;omega⟩;exact⟨b (tV a.r<|xZ<|I_ r) (by simp;simp[jx]at d;omega),cK _,by show(t.C.length:Int)+t.g<=_;omega⟩;exact⟨b (tV a.r<|xZ<|a.s.fC _) (by simp;simp[jx]at d;omega),cK _,by show(t.C.length:Int)+t.g<=_;omega⟩;exact⟨b (tV m<|xZ<|a.s.C _ _) (by simp[f];omega),cK _,by show(t.C.length:Int)+t.g<=_;omega⟩;exact⟨⟨n,by show(fU<|fU t.r).length<=32;omega,a.s.S3 _ _ j,a.g0,a.C,a.I⟩,cK _,by show(t.C.length:Int)+t.g<=_;omega⟩;obtain⟨e,L⟩:=amj a.s c.y j;exact⟨⟨tV n<|xZ e,by show(fU (fU t.r)++[_]).length<=32;simp[f,q];omega,L,a.g0,a.C,a.I⟩,cK _,by show(t.C.length:Int)+t.g<=_;omega⟩;have e:h=4:=by simp[jx]at d;omega
 refine⟨⟨m,by show(fU t.r).length<=32;omega,a.s,a.g0,a.C,?_⟩,cK _,?_⟩;show((t.C++[_]).length:Int)+t.g<=_;simp;omega;show((t.C++[_]).length:Int)+t.g<=_;simp;omega;obtain⟨e,L,M,N,O,w6⟩:=amk v a r i j B;refine⟨⟨tV C<|Td e L,?_,M,N,?_,?_⟩,O,?_⟩;show(fU (fU<|fU t.r)++[_,_]).length<=32;grind;show(jy F c t _ _ _).2.2.g<=_;omega;show((jy F c t _ _ _).2.2.C.length:Int)+(jy F c t _ _ _).2.2.g<=_;omega;show((jy F c t _ _ _).2.2.C.length:Int)+(jy F c t _ _ _).2.2.g<=_;omega
end
def Je(a:Nat)(w:Î):Nat:=match w.cell? ⟨a,5,Ã⟩with|some (Æ _ n)=>n.toNat|_=>0
def R.H{E:jZ}{c:RC}{s:St}(h:R E i c v x zQ s gJ w):Je i w=c.g.toNat:=by rw[Je,h.r.r 5 _ U]
def MX(a:n<B.size):DC B (n:Int)=((B[n]'a).toNat:Int):=by rw[DC,dO];have b:n<B.data.size:=a;simp only[Array.getD,b,dif_pos];rfl
theorem MY{s:St}(b:ic s)(y:Nat)(a:n<(s y).C.size):1<=mJ (s y).C (n:Int):=by
 rw[mJ,MX a];have c:((s y).C[n]'a)∈(s y).C.data.toList:=by have:(s y).C[n]'a=(s y).C.data[n]'a:=U;grind [Array.getElem_mem]
 have:=(b.I y).2 _ c;unfold xW at this;have:=of_decide_eq_true this;omega
def I'{b a d:Int}(h:qE c n b a d=Ñ):b<=c/\a<=n/\(n:Int)-a+d<=32:=by unfold qE at h;simp at h;omega
def aml[Decidable bQ](c:i≠m)(d:b≠m):(if bQ then i else b)≠m:=by split;exact c;exact d
def Tf(h:il c=1):48<=c/\c<=57:=by by_cases a:48<=c/\c<=57;exact a;exfalso;revert h;rw[il,if_neg a];repeat' (first|refine aml A ?_|decide)
def Tg(a:1<=k)(b:k<=22):1<=(jf k).1:=by have h:∀k:Fin 23,1<=k.val->1<=(jf k.val).1:=A;exact h ⟨k,Z⟩ a
section
variable{E:jZ}{c:RC}{F:kZ}{lv:É}{s:St}
def ou(F:kZ)(c:RC)(s:St)(gJ:List (Nat×Int)):Int×Bool×RT:=nt F c (s c.y).C (c.g.toNat+1) 0 ⟨[],s,gJ,c.g⟩
def amm(ok:E.Ok)(h:R E i c v lv [] s gJ w)(oY:0<=c.d)(hd:c.d<=4)(hF:c.d<4->xY F (c.d+1))(hI:qF F)(O:lr w)(hs:ic s)(hx:c.x<8)(hy:c.y<8)(MZ:gL c.k)(rn:0<=c.g)(rz:c.g<=100000)(hlen:(gJ.length:Int)+c.g<=1000000): Ù À 175 #[Â<|Á ⟨i,0,Ã⟩] w λe Q=>e=Ì (Ý #[Æ Ë (ou F c s gJ).1,Õ (ou F c s gJ).2.1])/\zw E i v lv gJ.length w (wF c (ou F c s gJ).2.2.g) (ou F c s gJ).2.2.r (ou F c s gJ).2.2.s (ou F c s gJ).2.2.C Q:=by
 have c0:=h.r.r 0 _ U;have c2:=h.r.r 2 _ U;have d1:=h.C.FH hy;have iu:=h.r.M;have Di:=fy.M h.C;have hP:=(hs.I c.y).1;obtain⟨res,zx⟩:∃r,ou F c s gJ=r:=⟨_,U⟩;rw[zx];unfold ou at zx;have H:=fv (Ä hI<|Ä hF<|Ä (λn V=>MY hs c.y (n:=n) V)<|Ä (Ä h<|Ä hs O) zx);clear hI hF h O hs zx;generalize hPP:(s c.y).C=P at*;go_enter Tryz.func175,Tryz.ntmps175;go_wp2;go_step3;go_wp2;go_quiet (fail);go_wp2;go_step3;go_wp2;go_loopw [2,3,6] (λx y a wr=>x=Æ Ë 0/\y=Õ Ò/\∃(J:Int)(t:RT)(S:Nat),a=Æ Ë J/\gL J/\zw E i v lv gJ.length w (wF c t.g) t.r t.s t.C wr/\mW t/\lr wr/\t.g.toNat<S/\nt F c P S J t=res) λ_ _ _ wr=>Je i wr
 case atStart=>
  exact⟨U,U,0,⟨[],s,gJ,c.g⟩,c.g.toNat+1,U,wH,⟨v,lv,H.2.2.2.1.1.fH<|fw.iQ fB w _,Tr.fH<|fw.iQ fB w _⟩,⟨fD,fD,H.2.2.2.1.2.1,rn,rz,hlen⟩,H.2.2.2.1.2.2.r (fw.iQ fB w _) id,fD,H.2.2.2.2⟩
 case round=>
  obtain⟨rfl,rfl,J,t,S,rfl,xu,⟨Jc,se,K,W⟩,o,O,hfu,j⟩:=hrel;clear c0 c2 d1 iu Di hPP hlen;have g0:=o.g0;have g1:=o.C;have hl:=o.M;have Ti:=o.I;have F':=xu.1;obtain⟨f,rfl⟩:∃f,S=f+1:=⟨S-1,Z⟩;unfold nt at j;have c5:wr.cell? ⟨i,5,Ã⟩=Á (Æ Ë t.g):=K.r.r 5 _ U;have f5:=K.r.I 5;by_cases h1:J=P.size
  .rw[if_pos h1]at j;subst j h1;have m:=fv<|Ä K W;clear K W o O;go_wp2;(try rw[þ]);go_ret2;exact⟨U,_,_,m⟩
  rw[if_neg h1]at j;have e1:=beq_eq_false_iff_ne.2 h1;by_cases G:(P.size:Int)<J
  .rw[if_pos G]at j;subst j;let⟨z,r2⟩:=K.N ok 5 (v:=Æ Ë 0) (c':=wF c 0) (lO:=Jc) (ss':=t.r) U K.I λ_ q=>q;have m:=fv<|Ä z<|W.fA r2;clear K W o O z r2;go_wp2;(try rw[þ]);go_ret2;exact⟨U,_,_,m⟩
  rw[if_neg G]at j;obtain⟨n,rfl⟩:∃n:Nat,J=n:=⟨J.toNat,Z⟩;have V:n<P.size:=Z;have e2:=decide_eq_false G;have IL:(n:Int)<(P.size:Int):=Z;have k1:=H.2.2.1 n V;have J_:=MX V;have wG:il ((P[n]'V).toNat:Int)=mJ P (n:Int):=by rw[mJ,J_]
  have k2:mJ P (n:Int)<=22:=MW _;have hk:=Tb k2;have Tk:=Tg k1 k2;let⟨b1,b2,b3,b4,b5,b6⟩:=MS _ _ hk;generalize mJ P (n:Int)=k at*;generalize jf k=ro at*;let⟨u,Y,pu⟩:=ro;simp only at j hk Tk b1 b2 b3 b4 b5 b6;have B:=alV E ok i (wF c t.g) Jc se t.r t.s t.C wr K O k u Y pu hk Z g0 (by show t.g<_;omega);obtain⟨bc,M0⟩:∃b,qE t.g t.r.length u Y pu=b:=⟨_,U⟩;rw[show qE (wF c t.g).g t.r.length u Y pu=bc from M0]at B;have J':∀(Q:Î)(X:Int)(L:RT)(lO pT:É),u<=t.g->gL X->R E i (wF c L.g) lO pT L.r L.s L.C Q->Tr E i Jc se t.C.length wr lO pT L.C.length Q->mW L->L.g<=t.g-u->nt F c P f X L=res->(∃(J:Int)(t:RT)(S:Nat),Æ Ë X=Æ Ë J/\gL J/\zw E i v lv gJ.length w (wF c t.g) t.r t.s t.C Q/\mW t/\lr Q/\t.g.toNat<S/\nt F c P S J t=res)/\Je i Q<Je i wr:=by intro Q X L lO pT q1 q2 q3 q4 q5 q6 q7;refine⟨⟨X,L,f,U,q2,⟨lO,pT,q3,W.fA q4⟩,q5,O.N ok K q4,Z,q7⟩,?_⟩;rw[q3.H,K.H];show L.g.toNat<t.g.toNat;omega
  have m:=fv<|Ä K<|Ä W<|Ä O<|Ä B<|Ä o<|Ä hk wG;have HN:=fv J';have C:=fv j;clear K W O B o hk wG J' j c5 f5 J_;go_wp2_with (go_at_call 87;refine iT (Bt _ _) ?_;rw[m.oQ.2.2.2.2.2.2]);go_at_call 186;refine gl m.2.2.2.1 λw1 ⟨z,t1⟩=> ?_;cases bc
  .have c5:w1.cell? ⟨i,5,Ã⟩=Á (Æ Ë t.g):=z.r.r 5 _ U;have f5:=z.r.I 5;have j:=C.oQ;rw[if_pos M0]at j;subst j;let⟨r2,r3⟩:=R.N ok z 5 (v:=Æ Ë 0) (c':=wF c 0) (lO:=Jc) (ss':=t.r) U z.I λ_ q=>q;have I:=fv<|Ä r2<|(m.2.1.fA t1).fA r3;clear z t1 r2 r3;go_wp2;(try rw[þ]);go_ret2;exact⟨U,_,_,I⟩
  rw[if_pos U]at z;let⟨hcg,Bs,Tl⟩:=I' M0;have j:=C.oQ;rw[if_neg (by rw[M0];decide)]at j;have I:=fv<|Ä z t1;have x6:gL ((n:Int)+1):=⟨Z,Z⟩;clear z t1 C;by_cases h4:k=1
  .rw[if_pos h4]at j;subst h4;have M1:=Tf m.2.2.2.2.2.2;rw[MX V]at j;have C:=fv j;clear j;let⟨dg1,dg2⟩:=M1;go_wp2_with (go_at_call 87;refine iT (Bt _ _) ?_;rw[m.oQ.2.2.2.2.2.2]);go_at_call 187;refine gl (C_ ok I.1 Z _) λw2 ⟨MV,G,M⟩=> ?_;have o:=m.2.2.2.2.1;have N:=fv (HN.oQ _ _ {t with r:=t.r++[((P[n]'V).toNat:Int)-48],g:=t.g-u} _ _ hcg x6 G (I.2.fA M) ⟨tV o.r<|xZ ⟨Z,Z⟩,by have:=m.2.2.2.2.2.1;simp[jx]at this;simp;omega,o.s,by show 0<=t.g-u;omega,by show t.g-u<=100000;omega,by show(t.C.length:Int)+(t.g-u)<=1000000;omega⟩ (cK _) C);clear G M o;go_wp2;go_roundw
   case rel=>exact⟨U,U,N.1⟩
   case measure=>exact N.2
  rw[if_neg h4]at j;by_cases h5:k=17
  .rw[if_pos h5]at j;subst h5;have o:=m.2.2.2.2.1;have amn:Y=2:=by have:=m.2.2.2.2.2.1;simp[jx]at this;omega
   have z:=I.1;rw[<-uV (l:=t.r) Z,<-uV (l:=fU t.r) (by rw[lF];omega)]at z;have Jf:=lF t.r;have K_:=lF<|fU t.r;have C:=fv (Ä z<|Ä j<|Ä (ot o.r)<|show mW {t with r:=fU<|fU t.r,g:=t.g-u}from⟨nW<|nW o.r,by show(fU<|fU t.r).length<=32;omega,o.s,by show 0<=t.g-u;omega,by show t.g-u<=100000;omega,by show(t.C.length:Int)+(t.g-u)<=1000000;omega⟩);clear j o z;obtain⟨p,hp⟩:∃p,fV (fU t.r)=p:=⟨_,U⟩;rw[hp]at C;go_wp2_with (go_at_call 87;refine iT (Bt _ _) ?_;rw[m.oQ.2.2.2.2.2.2]);go_at_call 188;refine gl (Br ok C.1<|by simp;omega) λw2 ⟨MV,G,M⟩=> ?_;go_wp2_with fail;go_at_call 188;refine gl (Br ok G Z) λw3 ⟨G_,h3,t3⟩=> ?_;have N:=fv λX q2=>HN.oQ _ X {t with r:=fU<|fU t.r,g:=t.g-u} _ _ hcg q2 h3 ((I.2.fA M).fA t3) C.2.2.2<|cK _;clear G M h3 t3;by_cases T:p=0
   .have N:=fv (N.oQ _ x6 (by have:=C.2.1;rwa[if_pos T]at this));subst T;go_wp2;go_roundw
    case rel=>exact⟨U,U,N.1⟩
    case measure=>exact N.2
   have N:=fv (N.oQ _ C.2.2.1 (by have:=C.2.1;rwa[if_neg T]at this));have e3:=bne_iff_ne.2 T;go_wp2;go_roundw
   case rel=>exact⟨U,U,N.1⟩
   case measure=>exact N.2
  rw[if_neg h5]at j;by_cases T:k=21
  .rw[if_pos T]at j;subst T j;have amn:Y=1:=by have:=m.2.2.2.2.2.1;simp[jx]at this;omega
   have z:=I.1;rw[<-uV (l:=t.r) Z]at z;have Jf:=lF t.r;have C:=fv z;clear z;go_wp2_with (go_at_call 87;refine iT (Bt _ _) ?_;rw[m.oQ.2.2.2.2.2.2]);go_at_call 188;refine gl (Br ok C Z) λw2 ⟨MV,G,M⟩=> ?_;have HS2:=fv<|Ä G<|(m.2.1.fA I.2).fA M;clear G M;go_wp2;(try rw[þ]);go_ret2;exact⟨U,_,_,HS2⟩
  rw[if_neg T]at j;by_cases h7:k=22
  .rw[if_pos h7]at j;subst h7 j;go_wp2_with (go_at_call 87;refine iT (Bt _ _) ?_;rw[m.oQ.2.2.2.2.2.2]);(try rw[þ]);go_ret2;exact⟨U,_,_,I.1,m.2.1.fA I.2⟩
  rw[if_neg h7]at j;have o:=m.2.2.2.2.1;let⟨d1,d2,d3⟩:=Te (t:={t with g:=t.g-u}) H.1 hx hy MZ Z Z h5 m.2.2.2.2.2.1 U ⟨o.r,o.M,o.s,by show 0<=t.g-u;omega,by show t.g-u<=100000;omega,by show(t.C.length:Int)+(t.g-u)<=1000000;omega⟩ Ti Bs Tl;have L_:((k:Int)==1)=Ò:=by rw[beq_eq_false_iff_ne];omega
  have D:=amf ok I.1 Z oY hd H.2.1 H.1 (m.2.2.1.N ok m.1 I.2) o.s hx hy o.r (by show 0<=t.g-u;omega) (by show t.g-u<=100000;omega) (by show(t.C.length:Int)+(t.g-u)<=1000000;omega) k Z Z h5 u Y pu m.2.2.2.2.2.1 Bs _ U;have C:=fv<|Ä D<|Ä d1<|Ä d2 j;clear D d1 d2 d3 j o;go_wp2_with (go_at_call 87;refine iT (Bt _ _) ?_;rw[m.oQ.2.2.2.2.2.2]);go_at_call 189;refine gl C.1 λw2 ⟨MV,My,G,M⟩=> ?_;have N:=fv<|HN.oQ _ _ _ _ _ hcg x6 G (I.2.fA M) C.2.1 C.2.2.1 C.2.2.2;clear G M;go_wp2;go_roundw
  case rel=>exact⟨U,U,N.1⟩
  case measure=>exact N.2
end
def FM(a:o.op=ζ T)(b:P.info? T=Á zJ)(c:zJ.zero=Á z): (ô xX o).run P w=Η (ė<|Â<|Á ⟨w.heap.size,0,Ã⟩) (w.alloc<|Ï z.cells T):=by simp[ô,a,Instr.alloc,zeroValue,typeInfo,b,c,newVar,newRow]
def x7:∀(e a d:List É)(w:Î)(c:List É),c.length=e.length->fy b (a++c++d) T w->fy b (a++e++d) T (w.setCells b a.length e)
 |[],a,d,w,c,hl,h=>by have:c=[]:=Ü<|fN hl;subst this;exact h
 |v::r,a,d,w,c,hl,h=>by
  match c,hl,h with
  |x::c,hl,h=>
   have f:=h.fR a.length v;rw[show(a++x::c++d).set a.length v=(a++[v])++c++d by simp]at f;have:=x7 r (a++[v]) d _ c (fN hl) f;rw[show(a++[v]).length=a.length+1 by simp]at this;rw[show a++v::r++d=a++[v]++r++d by simp];exact this
def NF.A0(h:NF b w)(p:Û)(v:É):NF b (w.setCell p v):=λc T d q=>by
 by_cases e:b=p.block;subst e;unfold ì at q;simp only[fh,if_true]at q;cases a:w.heap[p.block]? with
 |none=>rw[a]at q;cases q
 |some f=>
  rw[a]at q;cases f with
  |cells g t z=>
   simp only[dT,dI,Ĥ]at q;rw[<-q.2.1];exact h _ _ _ a|_=>cases q
 .rw[ā _ _ _ _<|fN e]at q;exact h c T d q
def uX:∀(vs:List É)(o:Nat)(w:Î),NF b w->fw (λk=>k=b) w (w.setCells b o vs)|[],_,w,_=>fw.gy _ w|v::r,o,w,h=>(fw.I (X:=λk=>k=b) (p:=⟨b,o,Ã⟩) U v<|Ê h).fA<|uX r (o+1) _<|h.A0 _ _
def fy.K{vs:List É}(h:fy j vs T w)(a:n<=vs.length):w.there j 0 n:=λi b=>by refine⟨?_,h.I _⟩;rw[h.r (0+i) (vs[0+i]'Z)<|fe Z];rfl
def fy.Y{vs tl:List É}(h:fy j (vs++tl) T w):w.rangeAt j 0 vs:=λi v a=>by apply h.r (0+i) v;rwa[dQ,eR (eP.1 a).1]
def Tm{P:Program}{ops:Array Oper}{rest:List Oper}{o1 o2:Oper}{a:Act}{w:World}{Q:Exit->Act->World->Prop}(g1:o1.guard=none)(g2:o2.guard=none)(T:TypeId)(h1:o1.op=.alloc T)(d:Tmp)(hd:o1.dst=some d)(x y:Operand)(h2:o2.op=.store T x y)(ry:o2.dst=none){i:TypeInfo}{z:Value}(hi:P.info? T=some i)(hz:i.zero=some z)(cs:List Value)(jV:i.size=cs.length)(mS:z.cells.size=cs.length)(hx:(a.put (some d)<|.pointer<|some ⟨w.heap.size,0,none⟩).eval x=.pointer (some ⟨w.heap.size,0,none⟩))(hy:(a.put (some d)<|.pointer<|some ⟨w.heap.size,0,none⟩).eval y=.agg cs.toArray)(M3:∀v∈cs,v.oneCell'=true)(h:∀w',fy w.heap.size cs T w'->fw fB w w'->w'.heap.size=w.heap.size+1->wpList P ops Q rest (a.put (some d)<|.pointer<|some ⟨w.heap.size,0,none⟩) w')(hT:my T=false:=by decide):wpList P ops Q (o1::o2::rest) a w:=by
 apply Ą g1 (Á d) hd _ _ (FM h1 hi hz);have hB:fy w.heap.size z.cells.toList T (w.alloc<|Ï z.cells T):=by have:=fy.N w z.cells.toList T;simpa using this
 refine Ě g2 T x y h2 w.heap.size 0 cs.toArray hx hy (hB.K<|by simp[mS]) (by rw[hi];simp[jV]) (Ď M3) ?_;rw[ry];have Jg:=x7 cs [] [] (w.alloc<|Ï z.cells T) z.cells.toList (by simpa using mS) (by simpa using hB);refine h _ (by simpa using Jg) ?_ ?_;refine(fw.gP fB w _ _<|Ç hT).C (uX _ _ _<|hB.S hT) λk hk e=> ?_;omega;have:∀(vs:List É)(o:Nat)(w:Î)(b:Nat),(w.setCells b o vs).heap.size=w.heap.size:=by
  intro vs
  induction vs with|nil=>intro o w b;rfl|cons v r ih=>intro o w b;rw[World.setCells,ih];simp
 simp[this]
section
variable{c:RC}{F:kZ}
structure Bu(t:RT)(r:Int×Bool×RT):Prop where
 M:gL r.1
 s:ic r.2.2.s
 g0:0<=r.2.2.g
 C:r.2.2.g<=t.g
 I:(r.2.2.C.length:Int)+r.2.2.g<=t.C.length+t.g
def Bu.r{t a:RT}{r:Int×Bool×RT}(h:Bu a r)(b:a.g<=t.g)(c:(a.C.length:Int)+a.g<=t.C.length+t.g):Bu t r:=⟨h.M,h.s,h.g0,Int.le_trans h.C b,Int.le_trans h.I c⟩
def FN{J:St->List (Nat×Int)->Prop}(u:B.size<=40)(d:∀n,n<B.size->1<=mJ B (n:Int))(h:qF F)(i:c.x<8)(j:c.y<8)(m:gL c.k)(o:∀(k:Nat)(t:RT),k<=20->mW t->J t.s t.C->J (lu F c k t).s (lu F c k t).C):∀(p:Nat)(b:Int)(t:RT),gL b->mW t->J t.s t.C->Bu t (nt F c B p b t)/\J (nt F c B p b t).2.2.s (nt F c B p b t).2.2.C
 |0,_,t,_,ht,hj=>⟨⟨wH,ht.s,ht.g0,cK _,cK _⟩,hj⟩
 |f+1,b,t,xu,ht,hj=>by
  have S:=ht.g0;have g1:=ht.C;have T:=ht.M;have V:=ht.I;have L:Bu t (0,Ò,{t with g:=0})/\J t.s t.C:=⟨⟨wH,ht.s,cK _,S,by show(t.C.length:Int)+0<=_;omega⟩,hj⟩;unfold nt;by_cases M:b=B.size;rw[if_pos M];exact⟨⟨wH,ht.s,ht.g0,cK _,cK _⟩,hj⟩;rw[if_neg M];by_cases N:(B.size:Int)<b;rwa[if_pos N];rw[if_neg N];have F':=xu.1;obtain⟨n,rfl⟩:∃n:Nat,b=n:=⟨b.toNat,Z⟩;have W:n<B.size:=Z;have k1:=d n W;have X:mJ B (n:Int)<=22:=MW _;have v:=Tb X;let⟨Y,b2,b3,b4,b5,b6⟩:=MS _ _ v;have amo:mJ B (n:Int)=1->48<=DC B (n:Int)/\DC B (n:Int)<=57:=Tf;generalize mJ B (n:Int)=k at*;generalize Tn:jf k=ro at*;let⟨a,w,z⟩:=ro;simp only at v Y b2 b3 b4 b5 b6|-;by_cases C:qE t.g t.r.length a w z=Ò;rwa[if_pos C];rw[if_neg C];have yW:qE t.g t.r.length a w z=Ñ:=by cases e:qE t.g t.r.length a w z with|true=>rfl|false=>exact absurd e C
  let⟨hcg,Bs,Tl⟩:=I' yW;have D:gL ((n:Int)+1):=⟨Z,Z⟩;have E:∀{l:List Int},(∀p∈l,gL p)->l.length<=32->mW {t with r:=l,g:=t.g-a}:=λG H=>⟨G,H,ht.s,by show 0<=t.g-a;omega,by show t.g-a<=100000;omega,by show(t.C.length:Int)+(t.g-a)<=1000000;omega⟩;have I:∀{l:List Int} {r:Int×Bool×RT},Bu {t with r:=l,g:=t.g-a} r/\J r.2.2.s r.2.2.C->Bu t r/\J r.2.2.s r.2.2.C:=λq=>⟨q.1.r (by show t.g-a<=t.g;omega) (by show(t.C.length:Int)+(t.g-a)<=_;omega),q.2⟩;by_cases p:k=1;rw[if_pos p];have:=amo p;subst p;refine I<|FN u d h i j m o f _ _ D (E (tV ht.r<|xZ ⟨Z,Z⟩) ?_) hj;simp[jx]at v;simp;omega;rw[if_neg p];by_cases K:k=17;rw[if_pos K];have O:=E (nW<|nW ht.r) (by rw[lF,lF];omega);split;exact I<|FN u d h i j m o f _ _ D O hj;exact I<|FN u d h i j m o f _ _ (ot ht.r) O hj;rw[if_neg K];by_cases O:k=21;rw[if_pos O];exact⟨⟨ot ht.r,ht.s,by show 0<=t.g-a;omega,by show t.g-a<=t.g;omega,by show(t.C.length:Int)+(t.g-a)<=_;omega⟩,hj⟩;rw[if_neg O];by_cases P:k=22;rw[if_pos P];exact⟨⟨wH,ht.s,by show 0<=t.g-a;omega,by show t.g-a<=t.g;omega,by show(t.C.length:Int)+(t.g-a)<=_;omega⟩,hj⟩;rw[if_neg P];have Q:=E ht.r T;let⟨d1,d2,d3⟩:=Te (t:={t with g:=t.g-a}) h i j m Z Z K v U Q V Bs Tl;let⟨G,H⟩:=FN u d h i j m o f _ _ D d1<|o k _ Z Q hj;exact⟨G.r (Int.le_trans d2<|by show t.g-a<=t.g;omega) d3,H⟩
def To{s:St}(b:qF F)(a:ic s)(d:c.x<8)(hy:c.y<8)(e:gL c.k)(f:0<=c.g)(h:c.g<=100000)(i:(gJ.length:Int)+c.g<=1000000):Bu ⟨[],s,gJ,c.g⟩ (ou F c s gJ):=(FN (J:=λ_ _=>True) (a.I c.y).1 (λn j=>MY a c.y j) b d hy e (λ_ _ _ _ _=>trivial) _ _ _ wH ⟨fD,fD,a,f,h,i⟩ trivial).1
end
def amq:(À.underlying 136).map ă=Á Ñ:=fK
def M_:(À.info? 136).map (λi=>(i.size,i.zero.map (·.cells.size)))=Á (145,Á 145):=fK
def FP(h:(P.info? e).map (λi=>(i.size,i.zero.map (·.cells.size)))=Á (n,Á m)):∃i z,P.info? e=Á i/\i.size=n/\i.zero=Á z/\z.cells.size=m:=by let⟨i,a,h⟩:=Ð.1 h;simp only[dJ,Ð]at h;let⟨b,z,c,d⟩:=h;exact⟨i,z,a,b,c,d⟩
def Tp(s:St){lv:É}(b:lv.oneCell'=Ñ):∀v∈jY s lv,v.oneCell'=Ñ:=λv c=>by
 obtain⟨i,a,rfl⟩:=cJ c;rw[oh]at a;have:=I6 s lv a;rw[fe (by rwa[oh])]at this;injection this with this;rw[this];unfold tU si;repeat' split
 all_goals first|exact b|rfl
def M4{t:Tmp}{d:TypeDesc}(h:s.results=#[.cell t T])(a:q.getD t Å=Â (Á ⟨b,0,Ã⟩))(c:w.rangeAt b 0 l)(e:P.underlying T=Á d)(f:d.isRow=Ñ)(g:(P.info? T).map (·.size)=Á l.length): (ļ s q).run P w=Η (ê l.toArray) w:=by rw[fq]at a;simp only[ļ,h];simp[a,asAddr,Ř w b 0 T l d c e f g]
def Tq:(À.underlying 245).map ă=Á Ñ:=fK
def Ts:(À.info? 245).map (·.size)=Á 3:=fK
def amr{e:Array ĕ}{a:ŋ}(g:o.guard=Ã)(d:ç)(x y:ą)(i:o.op=.store d x y)(b:Nat)(c:List É)(j:a.eval x=Â (Á ⟨b,0,Ã⟩))(k:a.eval y=ê c.toArray)(l:w.there b 0 c.toArray.size)(m:(P.info? d).map (·.size)=Á c.toArray.size)(n:c.toArray.all (·.oneCell')=Ñ)(h:∀f,f=w.setCells b 0 c->Š P e vJ fX (a.put o.dst Å) f):Š P e vJ (o::fX) a w:=Ě g d x y i b 0 c.toArray j k l m n<|h _ U
def qG(F:kZ)(c:RC)(s:St)(a:List (Nat×Int)):mU:=
 ⟨c.g-(ou F c s a).2.2.g,(ou F c s a).2.1,(ou F c s a).1,if(ou F c s a).2.1 then(ou F c s a).2.2.s else s,if(ou F c s a).2.1 then(ou F c s a).2.2.C else a⟩
section
variable{E:jZ}{c:RC}{lv:É}{s:St}{F:kZ}
def ams(k:fw fB w u)(t:Tr E i (È Ã 0 0) lv n u x v gJ.length W)(m:w.heap.size<=i)(r:R E i c x v zQ s gJ W):iY E lv n w s gJ W v:=by refine⟨r.C,r.M,?_,λj q=>(t.l j q).imp id λe=>Ó k.M e,λb d f g h=>t.C b d f (ia g k λ_ _=>id) h⟩;refine(k.fG λ_ _=>Ĉ).C t.r ?_;rintro a o (e|e|e|e);exact Ç e;omega;cases e;exact Ê e
def iY.N{Y:Nat->Prop}(r:iY E lv n w s gJ W v)(k:fw Y W jX)(h:∀i,Y i->w.heap.size<=i)(m:∀i d,Y i->W.heap[i]?≠Á (Ï d 250 (0,0)))(o:¬Y E.r):iY E lv n w s gJ jX v:=by
 have e:∀{a b c},W.ownsRow 0 250 2 a b c->jX.ownsRow 0 250 2 a b c:=λ{a b c} q=>ia q k λj p y=>by let⟨d,t⟩:=lN q p;exact m j d y t
 exact⟨r.r.C k o,e r.I,r.C.C k λi u y=>absurd (h i y) Z,r.l,λa b c f g=>⟨e (r.M a b c f g).1,(r.M a b c f g).2⟩⟩
def iY.oc{a:St}(ok:E.Ok)(k:w.ownsRow 0 250 2 lv kX.length (je kX))(r:iY E lv kX.length w s gJ W v):iY E lv kX.length w a kX (W.setCells E.r 0<|jY a lv) lv:=by have f:=uX (b:=E.r) (jY a lv) 0 W<|fy.S r.r ok.C;have g:∀{c d e},W.ownsRow 0 250 2 c d e->(W.setCells E.r 0<|jY a lv).ownsRow 0 250 2 c d e:=λ{c d e} q=>ia q f λj l y=>iG q r.r ok.r.symm (by rw[l,y]);have m:=x7 (T:=E.T) (b:=E.r) (jY a lv) [] E.C W (jY s v) (by rw[oh,oh]) (by have h:=r.r;unfold jk at h;simpa using h);refine⟨by unfold jk;simpa using m,g (r.M _ _ _ k λ_=>eE _).1,r.C.C f λi _ q=>Ç q,λj q=>Ç q,λc d e n h=>⟨g (r.M c d e n h).1,h⟩⟩
def M'(ok:E.Ok)(oY:0<=c.d)(hd:c.d<=4)(hF:c.d<4->xY F (c.d+1))(hI:qF F)(B:jk E.r E.T E.C s lv w)(G:w.ownsRow 0 250 2 lv gJ.length (je gJ))(hr:lr w)(hs:ic s)(hx:c.x<8)(hy:c.y<8)(MZ:gL c.k)(rn:0<=c.g)(rz:c.g<=100000)(hlen:(gJ.length:Int)+c.g<=1000000): Ù À 157 #[Â<|Á ⟨E.r,0,Ã⟩,Æ Í c.x,Æ Í c.y,Æ Ë c.g,Æ Ë c.k,Æ Í c.d] w λe a=>
  e=Ì (ê #[Æ Ë (qG F c s gJ).r,Õ (qG F c s gJ).C,Æ Ë (qG F c s gJ).M])/\∃v,iY E lv gJ.length w (qG F c s gJ).s (qG F c s gJ).I a v:=by
 let⟨dd,Bv,wI⟩:=Ð.1 amq;let⟨i0,z0,I,J,mX,mS⟩:=FP M_;have M3:=Tp s (lv:=lv) (by obtain⟨a,cp,rfl⟩:=jj G;rfl);have iu:=fy.M B;have N_:(À.info? 136).map (·.size)=Á (jY s lv).length:=by rw[I,oh];simp[J]
 have k0:=fw.gP fB w #[Æ Ë 0,Õ Ò,Æ Ë 0] 245;have qh:(w.alloc<|Ï #[Æ Ë 0,Õ Ò,Æ Ë 0] 245).rangeAt E.r 0 (jY s lv):=fy.Y<|B.C k0 id;have f:=fv<|Ä Bv<|Ä wI<|Ä N_<|Ä qh<|Ä I<|Ä mX<|Ä (J.trans (oh s lv).symm)<|Ä (mS.trans (oh s lv).symm) M3;have H:=fv<|Ä B<|Ä G<|Ä hr<|Ä hF<|Ä hI hs;clear Bv wI I J mX mS M3 N_ qh B G hr hF hI hs k0;obtain⟨a,b,t,K⟩:∃a b t,ou F c s gJ=(a,b,t):=⟨_,_,_,U⟩;have jh:qG F c s gJ=⟨c.g-t.g,b,a,if b then t.s else s,if b then t.C else gJ⟩:=by rw[qG,K]
 rw[jh];have C:=To H.2.2.2.2.1 H.2.2.2.2.2 hx hy MZ rn rz hlen;rw[K]at C;have tg0:0<=t.g:=C.g0;have tg1:t.g<=c.g:=C.C;clear C;go_enter Tryz.func157,Tryz.ntmps157;go_wp2_with (first|(with_reducible refine Č U 136 _ U E.r 0 U (jY s lv) dd f.oQ.2.2.2.1 f.oQ.1 f.oQ.2.1 f.oQ.2.2.1 ?_)|(with_reducible refine Tm U U 136 U 13 U _ _ U U f.oQ.2.2.2.2.1 f.oQ.2.2.2.2.2.1 (jY s lv) f.oQ.2.2.2.2.2.2.1 f.oQ.2.2.2.2.2.2.2.1 U U f.oQ.2.2.2.2.2.2.2.2 ?_;intro m DF L sf))
 have Bg:m.heap.size=w.heap.size+1+1:=by simpa using sf
 have wB:fy (w.heap.size+1) (jY s lv) 136 m:=by simpa using DF
 have r:fw fB w (m.alloc<|Ï #[Â<|Á ⟨E.r,0,Ã⟩,Æ Í c.x,Æ Í c.y,Æ Ë c.k,Æ Í c.d,Æ Ë c.g,È Ã 0 0] 276):=((fw.gP _ _ _ _).fA L).fA<|fw.gP _ _ _ _;have k1:=fw.gP fB m #[Â<|Á ⟨E.r,0,Ã⟩,Æ Í c.x,Æ Í c.y,Æ Ë c.k,Æ Í c.d,Æ Ë c.g,È Ã 0 0] 276;have hR:R E (w.heap.size+1+1) c (È Ã 0 0) lv [] s gJ (m.alloc<|Ï #[Â<|Á ⟨E.r,0,Ã⟩,Æ Í c.x,Æ Í c.y,Æ Ë c.k,Æ Í c.d,Æ Ë c.g,È Ã 0 0] 276):=⟨by rw[<-Bg];exact fy.N m (om E.r c<|È Ã 0 0) 276,Ă _ _ _ _,H.1.C r id,ia H.2.1 r λ_ _=>id⟩;have xy:fy w.heap.size [Æ Ë 0,Õ Ò,Æ Ë 0] 245 m:=(fy.N w [Æ Ë 0,Õ Ò,Æ Ë 0] 245).C L id;have S:=amm (F:=F) ok hR oY hd H.2.2.2.1 H.2.2.2.2.1 (H.2.2.1.r r id) H.2.2.2.2.2 hx hy MZ rn rz hlen;rw[K]at S;go_at_call 175;apply S.mono;clear S;rintro e W ⟨rfl,G_,Tt,u,M⟩;have N':=ams r M Z u;have N:∀{j:Nat} {O:List É} {T:ç},fy j O T m->w.heap.size<=j->fy j O T W:=λ{j O T} hB hj=>by refine(hB.C k1 id).C M.r ?_;have:=hB.M;rintro(q|q|q|q);omega;omega;cases q;have:=(H.2.1.lt j q).2;omega
 have n:=N xy<|eE _;have O_:=N wB Z;have e0:=n.r 0 _ U;have e1:=n.r 1 _ U;have e2:=n.r 2 _ U;have f0:=n.I 0;have f1:=n.I 1;have f2:=n.I 2;have g5:W.cell? ⟨w.heap.size+1+1,5,Ã⟩=Á (Æ Ë t.g):=u.r.r 5 _ U;have aj0:=u.r.M;have l:=fv<|Ä N'<|Ä u<|Ä n O_;clear N' u M n O_ N hR xy wB r k1 DF L sf Bg;cases b with
 |true=>
  go_wp2_with fail
  let⟨d2,P,Q⟩:=Ð.1 Tq;have o:=((l.2.2.1.fR 0<|Æ Ë<|c.g-t.g).fR 1<|Õ Ñ).fR 2<|Æ Ë a;apply ï (M4 U U (fy.Y (tl:=[]) (vs:=[Æ Ë<|c.g-t.g,Õ Ñ,Æ Ë a]) o) P Q Ts) U;refine⟨U,Tt,l.1.N (Y:=λk=>k=w.heap.size) (((fw.I (X:=λk=>k=w.heap.size) (p:=⟨w.heap.size,0,Ã⟩) U _).fA<|fw.I (X:=λk=>k=w.heap.size) (p:=⟨w.heap.size,1,Ã⟩) U _).fA<|fw.I (X:=λk=>k=w.heap.size) (p:=⟨w.heap.size,2,Ã⟩) U _) (λi q=>by omega) (λi cur q z=> ?_) Z⟩;have D:W.heap[w.heap.size]?=_:=l.2.2.1;rw[q,D]at z;cases z
 |false=>
  have rg:W.rangeAt (w.heap.size+1) 0 (jY s lv):=fy.Y (tl:=[]) (by simpa using l.2.2.2);have th:W.there E.r 0 (jY s lv).toArray.size:=by have:=l.1.r;unfold jk at this;exact this.K<|by simp only[eN,ä,oh];omega
  have P_:(À.info? 136).map (·.size)=Á (jY s lv).toArray.size:=by rw[f.oQ.2.2.1];simp
  have Fv:=Ď f.2.2.2.2.2.2.2.2;have HNF:=fv<|fy.S l.2.1.C ok.C;have D:=fv<|Ä rg<|Ä th<|Ä P_ Fv;clear rg th P_ Fv;go_wp2_with (first|(with_reducible refine Č U 136 _ U (w.heap.size+1) 0 U (jY s lv) dd D.oQ.1 f.oQ.1 f.oQ.2.1 f.oQ.2.2.1 ?_)|(with_reducible refine amr U 136 _ _ U E.r (jY s lv) U U D.oQ.2.1 D.oQ.2.2.1 D.oQ.2.2.2 ?_;intro jX V;have kb:fw (λk=>k=E.r) W jX:=(by rw[V];exact uX _ _ _ HNF.oQ);have o:=l.oQ.2.2.1.C kb Z;have p0:=o.r 0 _ U;have p1:=o.r 1 _ U;have p2:=o.r 2 _ U;have y0:=o.I 0;have y1:=o.I 1;have y2:=o.I 2;have Bw:=l.oQ.2.1.r.C kb Z;have p5:jX.cell? ⟨w.heap.size+1+1,5,Ã⟩=Á (Æ Ë t.g):=Bw.r 5 _ U;have hl4:=Bw.M;have P':=fv o;clear kb o Bw;have HW:=fv V;clear V))
  let⟨d2,P,Q⟩:=Ð.1 Tq;apply ï (M4 U U (fy.Y (tl:=[]) (vs:=[Æ Ë<|c.g-t.g,Õ Ò,Æ Ë a])<|((P'.fR 0<|Æ Ë<|c.g-t.g).fR 1<|Õ Ò).fR 2<|Æ Ë a) P Q Ts) U;have o:iY E lv gJ.length w s gJ jX lv:=by rw[HW.oQ];exact l.1.oc ok H.2.1
  refine⟨U,lv,o.N (Y:=λk=>k=w.heap.size) (((fw.I (X:=λk=>k=w.heap.size) (p:=⟨w.heap.size,0,Ã⟩) U _).fA<|fw.I (X:=λk=>k=w.heap.size) (p:=⟨w.heap.size,1,Ã⟩) U _).fA<|fw.I (X:=λk=>k=w.heap.size) (p:=⟨w.heap.size,2,Ã⟩) U _) (λi q=>by omega) (λi cur q z=> ?_) Z⟩;rw[q,P'.oQ]at z;cases z
end
def sk:Nat->kZ|0=>λs a _ _ _ _=>⟨0,Ò,0,s,a⟩|n+1=>λs a x y g k=>qG (sk n) ⟨x,y,k,4-(n:Int),g⟩ s a
theorem amt{F:kZ}(b:qF F){c:RC}{s:St}(a:ic s)(d:c.x<8)(e:c.y<8)(f:gL c.k)(i:0<=c.g)(j:c.g<=100000)(l:(gJ.length:Int)+c.g<=1000000):S9 gJ c.g (qG F c s gJ):=by have h:=To b a d e f i j l;have o:=h.g0;have m:=h.C;have n:=h.I;simp only at m n;unfold qG;refine⟨by simp only;omega,by simp only;omega,?_,h.M,?_⟩;simp only;split;exact h.s;exact a;grind
def DG:∀n,qF<|sk n|0=>λs a x y g k b _ _ _ d _ _=>⟨cK _,d,b,wH,by show(a.length:Int)<=a.length+0;omega⟩|n+1=>λs a x y g k b d e f h i j=>amt (c:=⟨x,y,k,4-(n:Int),g⟩) (DG n) b d e f h i j
def Q_:∀n,n<=3->xY (sk<|n+1) (4-(n:Int))|0,_=>λE a s t u x y g k w b d f i j l m o p r=>M' (c:=⟨x,y,k,4-((0:Nat):Int),g⟩) (F:=sk 0) a (show(0:Int)<=4-((0:Nat):Int) by decide) (show(4:Int)-((0:Nat):Int)<=4 by decide) (λq=>absurd q<|show¬(4:Int)-((0:Nat):Int)<4 by decide) (DG 0) b d f i j l p m o r|n+1,h=>λE a s t u x y g k w b d f i j l m o p r=>by have e:(4:Int)-((n+1:Nat):Int)+1=4-(n:Int):=Z;exact M' a (by show 0<=4-((n+1:Nat):Int);omega) (by show 4-((n+1:Nat):Int)<=4;omega) (λ_=>by show xY _ (4-((n+1:Nat):Int)+1);rw[e];exact(Q_ n Z)) (DG<|n+1) b d f i j l p m o r
def gS:kZ:=sk 4
def FQ:qF gS:=DG 4
def Q':xY gS 1:=Q_ 3 A
def jk.qz{tl:List É}{s:St}(h:jk b T tl s v w)(k:fw X w u)(a:¬X b):jk b T tl s v u:=fy.C h k a
section
variable{E:jZ}{lv:É}{w1:Î}{s f d:St}{ls:List (Nat×Int)}
theorem iY.gy(a:jk E.r E.T E.C s lv w)(b:w.ownsRow 0 250 2 lv ls.length (je ls)):iY E lv ls.length w s ls w lv:=⟨a,b,fw.gy _ _,λ_ q=>Ç q,λ_ _ _ c d=>⟨c,d⟩⟩
def iY.fA(h:iY E lv n w f gJ w1 v)(k:iY E v gJ.length w1 d kX u jQ):iY E lv n w d kX u jQ:=by refine⟨k.r,k.I,h.C.C k.C ?_,λj q=> ?_,λa b c g m=> ?_⟩;rintro i o (e|e);exact Ç e;exact Ê<|(h.l i e).resolve_right Z;obtain e|e:=k.l j q;exact h.l j e;exact Ê<|Ó h.C.M e;let⟨e,i⟩:=h.M a b c g m;exact k.M a b c e i
def iY.fH(h:iY E lv n w s ls w1 v)(k:fw fB w1 u):iY E lv n w s ls u v:=h.N k (λ_=>Ĉ) (λ_ _=>Ĉ) id
def iY.S(ok:E.Ok)(h:iY E lv n w s ls w1 v)(i:Nat)(k:jk E.r E.T E.C d v (w1.setCell ⟨E.r,i,Ã⟩ x)):iY E lv n w d ls (w1.setCell ⟨E.r,i,Ã⟩ x) v:=by have e:=fw.I (X:=λk=>k=E.r) (p:=⟨E.r,i,Ã⟩) U x<|Ê<|fy.S h.r ok.C;have f:∀{a b c},w1.ownsRow 0 250 2 a b c->(w1.setCell ⟨E.r,i,Ã⟩ x).ownsRow 0 250 2 a b c:=λ{a b c} q=>ia q e λj o y=>iG q h.r ok.r.symm (by rw[o,y]);exact⟨k,f h.I,h.C.C e λi _ q=>Ç q,h.l,λa b c g m=>⟨f (h.M a b c g m).1,(h.M a b c g m).2⟩⟩
def iY.fC(ok:E.Ok)(h:iY E lv n w s ls w1 v)(a:i<8)(x:Int):iY E lv n w (s.fC i x) ls (w1.setCell ⟨E.r,i*18,Ã⟩<|Æ Ë x) v:=h.S ok _<|h.r.Bp a x
def iY.FH(ok:E.Ok)(h:iY E lv n w s ls w1 v)(a:i<8)(x:ByteArray):iY E lv n w (s.r i x) ls (w1.setCell ⟨E.r,i*18+1,Ã⟩<|Ø x) v:=h.S ok _<|h.r.alJ a x
end
def uY(s:St)(x y:Nat)(n:Int):Bool×St:=
 if(s x).fC<n+10 then(Ò,s)else(Ñ,(s.fC x<|(s x).fC-(n+10)).fC y<|wu<|(s.fC x ((s x).fC-(n+10)) y).fC+n)
section
variable{E:jZ}{lv:É}{s:St}{ls:List (Nat×Int)}
def amu(ok:E.Ok)(c:jk E.r E.T E.C s lv w)(g:w.ownsRow 0 250 2 lv ls.length (je ls))(f:ic s)(x y:Nat)(n:Int)(a:x<8)(d:y<8)(i:0<=n)(j:n<=1000000): Ù À 152 #[Â<|Á ⟨E.r,0,Ã⟩,Æ Í x,Æ Í y,Æ Ë n] w λe m=>e=Ì (Õ (uY s x y n).1)/\iY E lv ls.length w (uY s x y n).2 ls m lv:=by
 have k:=c.fC a;have l:=fy.I c<|x*18;have o:=(f.fC x).1;have p:=(f.fC x).2;have q:∀m,((w.drewN m).setCell ⟨E.r,x*18,Ã⟩<|Æ Ë<|(s x).fC-(n+10)).cell? ⟨E.r,y*18,Ã⟩=Á (Æ Ë (s.fC x ((s x).fC-(n+10)) y).fC):=λm=>((c.qz (fw.iQ fB w m) id).Bp a _).fC d;have r:∀m,((w.drewN m).setCell ⟨E.r,x*18,Ã⟩<|Æ Ë<|(s x).fC-(n+10)).frozen? ⟨E.r,y*18,Ã⟩=Ò:=λm=>fy.I ((c.qz (fw.iQ fB w m) id).Bp a _) _;have t:=(c.Bp a<|(s x).fC-(n+10)).fC d;have u:=fy.I (c.Bp a<|(s x).fC-(n+10))<|y*18;have H:=fv<|iY.gy c g;unfold uY;by_cases e:(s x).fC<n+10
 .rw[if_pos e];generalize(s x).fC=b at*;go_enter Ż,Ť;go_wp2;go_ret;exact⟨U,H⟩
 .rw[if_neg e];generalize(s.fC x ((s x).fC-(n+10)) y).fC=b2 at*;generalize(s x).fC=b at*;go_enter Ż,Ť;go_wp2;go_region;go_wp2;go_region;go_wp2;go_ret;refine⟨U,?_⟩;first|exact((H.fC ok a _).fC ok d _).fH<|fw.iQ _ _ _|exact(((H.fH<|fw.iQ _ _ _).fC ok a _).fC ok d _)|exact(((H.fH<|fw.gM _ _).fC ok a _).fH<|fw.gM _ _).fC ok d _|exact((H.fC ok a _).fC ok d _).still<|(Keep.drew _ _).trans<|Keep.drew _ _
end
def amv(a:kU w)(p:Û)(n:Nat):kU (w.freeze p n):=by
 unfold ġ;split;exact a;intro i o h;simp only[fh]at h;split at h;cases b:w.heap[i]? with
 |none=>rw[b]at h;cases h
 |some d=>
  have:=a _ _ b;rw[b]at h;cases d with|cells c t z=>simp only[dT,dI]at h;subst h;exact λx=>x|_=>exact absurd trivial this
 .exact a i o h
def R_(a:tT m w)(p:Û)(n:Nat):tT m (w.freeze p n):=by
 unfold ġ;split;exact a;intro i c T f e h b;simp only[fh]at h;split at h;cases d:w.heap[i]? with
 |none=>rw[d]at h;cases h
 |some g=>
  rw[d]at h;cases g with
  |cells j t z=>
   simp only[dT,dI,Ĥ]at h;rw[<-h.1];rw[<-h.2.1]at b;exact a _ _ _ _ e d b|_=>cases h
 .exact a i c T f e h b
theorem amw{w w1:World}{g:Nat}{cur Y:Array Value}{e:TypeId}{z:Nat×Nat}(hw:fw fB w w1)(hg:w1.heap[g]?=some (.cells cur e z))(awd:w.heap.size<=g)(he:my e=false:=by decide):fw fB w (w1.setRow g Y):=by refine⟨fN hw.M,λk hk _=>(Ğ w1 g k Y Z).trans<|hw.N k hk id,λal i o ho=> ?_,λm a i c T fr hm h hT=> ?_⟩;rotate_left;by_cases hi:i=g;subst hi;rw[Ĭ w1 i cur Y e z hg]at h;grind;rw[Ğ w1 g i Y hi]at h;exact hw.S m a i c T fr hm h hT;by_cases hi:i=g;subst hi;rw[Ĭ w1 i cur Y e z hg]at ho;cases ho;exact λx=>x;rw[Ğ w1 g i Y hi]at ho;exact hw.iH al i o ho
def amx(b:fw fB w u)(e:w.heap.size<=p.block):fw fB w (u.freeze p n):=by refine⟨?_,λk c _=> ?_,λd=>amv (b.iH d) p n,λm a=>R_ (b.S m a) p n⟩;unfold ġ;split;exact b.M;simpa using b.M;unfold ġ;split;exact b.N k c id;simp only[fh];rw[if_neg Z];exact b.N k c id
def Tv:(À.info? 5).map iF=Á (Á<|Æ .u8 0,1,1):=fK
def amy(n:Nat)(e:n<=1000000):∃M:Array É,M.size=n/\∀W:Î,(ģ 98 (Æ Í (n:Int))<|Æ Í (n:Int)).run À W=Η (È (Á ⟨W.heap.size,0,Ã⟩) n n) (W.alloc<|Ï M 5):=by let⟨i,a,b,c,d⟩:=ć Tv;refine⟨ũ (Æ .u8 0).cells<|(n:Int).toNat*i.size,by rw[Ĩ,c];simp,λW=> ?_⟩;simpa using run_make W 98 5 i (Æ .u8 0) Ň a b Í Í n n Z Z (by rw[d];omega) Z
theorem amz{M:Array É}(e:M.size=B.size)(b:W.heap[i]?=Á (Ï M 5 (0,0))): (ο #[98,9] 3 #[È (Á ⟨i,0,Ã⟩) B.size B.size,Ø B]).run À W=Η (goInt B.size) (W.setRow i (ñ B.data.toList).toArray):=by let⟨a,c,_,d,_⟩:=ć Tv;have h:=Lib.run_copy_row_string W 98 9 3 5 i 0 B.size B.size B M 5 Ň (by rw[c];simp[d]) b (eE _) Z;grind [List.drop_of_length_le]
def amA(d:B.size≠0)(m:B.size<=1000000)(c:W.heap[i]?=Á (Ï (ñ B.data.toList).toArray 5 (0,0))): (Β #[170,3] 9 #[Â<|Á ⟨i,0,Ã⟩,Æ Í (B.size:Int)]).run À W=Η (Ø B) (W.freeze ⟨i,0,Ã⟩ B.size):=by
 let⟨a,f,_,k,_⟩:=ć Tv;have b:=Lib.size_eq B;have l:(ñ B.data.toList).toArray.size=B.size:=by rw[eN,Lib.byteCells_length,<-b]
 have h:=Lib.run_unsafeString_row W 170 3 9 5 Tryz.underlying170 (by simp[Program.cellsOf,f,k]) i B.size (by rw[World.shape?,c];simp only[l]) B.data.toList (by intro e;rw[e]at b;exact d b) Z Z (λj x e=>Lib.cells_of_row c _ j _<|by rw[eG<|eE _];simp[ñ,e]);rwa[<-b]at h
def amB(s:ByteArray)(a:s.size<=1000000)(w:Î):Ù À 180 #[Ø s] w λe c=>e=Ì (Ø s)/\fw fB w c:=by
 by_cases b:s.size=0
 .have d:=bM<|dY b;subst d;go_enter ż,ť;go_wp2;go_ret;exact⟨U,fw.gy _ _⟩
 let⟨M,d,mk⟩:=amy s.size a;have g:=amz d<|æ w<|Ï M 5;have h:=amA b a<|Ĭ (w.alloc<|Ï M 5) w.heap.size M (ñ s.data.toList).toArray 5 (0,0)<|æ w _;have f:=fv<|amx (p:=⟨w.heap.size,0,Ã⟩) (n:=s.size) (amw (Y:=(ñ s.data.toList).toArray) (fw.gP fB w M 5) (æ w _)<|eE _)<|eE _;generalize(ñ s.data.toList).toArray=Y at*;go_enter ż,ť;go_wp2;go_ret;exact⟨U,f⟩
def amC(s:ByteArray)(a:s.size<=1000000)(w:Î):Ù À 170 #[Ø s] w λe b=>e=Ì (Ø s)/\fw fB w b:=by go_enter Tryz.func170,Tryz.ntmps170;go_wp2_with (go_at_call 180;refine gl (amB s a _) λd c=> ?_);go_ret;exact⟨U,c⟩
def uZ(s:St)(x:Nat)(p:ByteArray):Bool×St:=
 if(s x).fC<20 then(Ò,s)else(Ñ,(s.fC x<|(s x).fC-20).r x p)
def DI{t u:Tmp}{cs:List É}{d:TypeDesc}(h:s.results=#[.cell t T,.tmp u])(a:q.getD t Å=Â (Á ⟨b,0,Ã⟩))(c:w.rangeAt b 0 cs)(e:P.underlying T=Á d)(f:d.isRow=Ñ)(g:(P.info? T).map (·.size)=Á cs.length): (ļ s q).run P w=Η (Ý #[ê cs.toArray,q.getD u Å]) w:=by rw[fq]at a;simp only[ļ,h];simp[a,asAddr,Ř w b 0 T cs d c e f g]
def Tw:(À.underlying 239).map ă=Á Ñ:=fK
def Jh:(À.info? 239).map (·.size)=Á 2:=fK
section
variable{E:jZ}{lv:É}{s:St}{ls:List (Nat×Int)}
def amD(ok:E.Ok)(c:jk E.r E.T E.C s lv w)(g:w.ownsRow 0 250 2 lv ls.length (je ls))(d:ic s)(x:Nat)(p:ByteArray)(a:x<8)(i:p.size<=1000000): Ù À 153 #[Â<|Á ⟨E.r,0,Ã⟩,Æ Í x,Ø p] w λe f=>e=Ì (Õ (uZ s x p).1)/\iY E lv ls.length w (uZ s x p).2 ls f lv:=by
 have k:=c.fC a;have l:=fy.I c<|x*18;have m:=(d.fC x).1;have n:=(d.fC x).2;have o:(0:Int)<=(x:Int):=Z;have q:(x:Int)<8:=Z;have H:=fv<|iY.gy c g;unfold uZ;by_cases f:(s x).fC<20
 .rw[if_pos f];generalize(s x).fC=b at*;go_enter Ž,Ŧ;go_wp2;go_ret;exact⟨U,H⟩
 .rw[if_neg f];generalize(s x).fC=b at*;go_enter Ž,Ŧ;go_wp2;go_region;go_wp2;go_region_held3 (λ_=>True) (trivial) (first|(go_at_call 170;refine gl (amC p i _) λr j=> ?_;dsimp only;have e:=((H.fC ok a (b-20)).fH (fw.iQ fB _ 2)).fH j;have t:=e.r.FH a;have u:=fy.I e.r (x*18+1)))
  go_wp2
  go_ret;exact⟨U,e.FH ok a p⟩
def x8(s:St)(ls:List (Nat×Int))(x y:Nat)(n k:Int):(Int×Bool)×Bool×St×List (Nat×Int):=
 if n<10\/400<n\/(s x).fC<n then((0,Ò),Ò,s,ls)
 else(((gS (s.fC x<|(s x).fC-n) ls x y (n-10) k).r+10,(gS (s.fC x<|(s x).fC-n) ls x y (n-10) k).C),Ñ,
  (gS (s.fC x ((s x).fC-n)) ls x y (n-10) k).s.fC x (wu (((gS (s.fC x ((s x).fC-n)) ls x y (n-10) k).s x).fC+(n-((gS (s.fC x ((s x).fC-n)) ls x y (n-10) k).r+10)))),(gS (s.fC x ((s x).fC-n)) ls x y (n-10) k).I)
def amE(a:jk E.r E.T E.C s lv w)(d:w.ownsRow 0 250 2 lv ls.length (je ls))(x y:Nat)(n k:Int)(f:x<8)(m:0<=n)(g:n<10\/400<n\/(s x).fC<n): Ù À 154 #[Â<|Á ⟨E.r,0,Ã⟩,Æ Í x,Æ Í y,Æ Ë n,Æ Ë k] w λe i=>e=Ì (Ý #[ê #[Æ Ë 0,Õ Ò],Õ Ò])/\iY E lv ls.length w s ls i lv:=by
 have o:=fy.M a;have p:=a.fC f;have q:(0:Int)<=(x:Int):=Z;have r:(x:Int)<8:=Z;let⟨t,j,l⟩:=Ð.1 Tw;have H:=fv<|Ä (iY.gy a d)<|Ä j l;generalize(s x).fC=b at*;obtain c|c|c:=g
 case' inr.inl=>have u:¬n<10:=Z
 case' inr.inr=>by_cases v:n<10;case' neg=>by_cases z:400<n
 all_goals
  go_enter ž,ŧ;go_wp2_with fail;apply ï (DI U U (fy.Y (vs:=[Æ Ë 0,Õ Ò])<|fy.N w [Æ Ë 0,Õ Ò] 239) H.2.1 H.2.2 Jh) U;exact⟨U,H.1.fH<|fw.gP fB w #[Æ Ë 0,Õ Ò] 239⟩
def amF(ok:E.Ok)(a:jk E.r E.T E.C s lv w)(m:w.ownsRow 0 250 2 lv ls.length (je ls))(o:lr w)(g:ic s)(x y:Nat)(n k:Int)(c:x<8)(D:y<8)(F:gL k)(ZT:10<=n)(IL:n<=400)(awe:n<=(s x).fC)(hlen:(ls.length:Int)+n<=1000000)(r:mU)(t:r=gS (s.fC x<|(s x).fC-n) ls x y (n-10) k): Ù À 154 #[Â<|Á ⟨E.r,0,Ã⟩,Æ Í x,Æ Í y,Æ Ë n,Æ Ë k] w λe u=>e=Ì (Ý #[ê #[Æ Ë<|r.r+10,Õ r.C],Õ Ñ])/\∃v,iY E lv ls.length w (r.s.fC x<|wu<|(r.s x).fC+(n-(r.r+10))) r.I u v:=by
 have iu:=fy.M a;have d1:=a.fC c;have f1:=fy.I a<|x*18;have X8:(0:Int)<=(x:Int):=Z;have CC:(x:Int)<8:=Z;have b0:=(g.fC x).1;have b1:=(g.fC x).2;have z:ic (s.fC x<|(s x).fC-n):=g.r x ⟨Z,Z⟩;have j:=FQ _ ls x y (n-10) k z c D F Z Z Z;have G:=iY.gy a m;have C:∀W l,iY E lv ls.length w (s.fC x<|(s x).fC-n) ls W l->lr W->Ù À 157 #[Â<|Á ⟨E.r,0,Ã⟩,Æ Í x,Æ Í y,Æ Ë<|n-10,Æ Ë k,Æ Í 1] W λe u=>e=Ì (ê #[Æ Ë r.r,Õ r.C,Æ Ë r.M])/\∃v,iY E l ls.length W r.s r.I u v:=λW l I Q=>by rw[t];exact Q' E ok _ l ls x y (n-10) k W I.r I.I Q z c D Z Z F Z
 rw[<-t]at j;have u0:=j.C;have u1:=j.r;let⟨d2,J,K⟩:=Ð.1 Tw;have L:∀i,lr (w.setCell ⟨E.r,i,Ã⟩<|Æ Ë<|(s x).fC-n):=λi=>o.r (fw.I (X:=λk=>k=E.r) U _) λq=>o.C a ok.N q.symm;have H:=fv<|Ä G<|Ä C<|Ä L<|Ä J<|Ä K m;clear a m o g z j G C L J K t;generalize(s x).fC=b at*;have e1:decide (n<10)=Ò:=decide_eq_false Z;have e2:decide (400<n)=Ò:=decide_eq_false Z;have e3:decide (b<n)=Ò:=decide_eq_false Z;generalize S:(r.s x).fC=b2;go_enter ž,ŧ;go_wp2_with fail;have M:=(H.1.fC ok c<|b-n).fH<|fw.gP fB _ #[Æ Ë 0,Õ Ò] 239;go_at_call 157;refine gl (H.2.1 _ _ M<|(H.2.2.1 _).r (fw.gP fB _ _ _) id) λV ⟨Y,f⟩=> ?_;have d:fy w.heap.size [Æ Ë 0,Õ Ò] 239 V:=by
  have B:fy w.heap.size [Æ Ë 0,Õ Ò] 239 ((w.setCell ⟨E.r,x*18,Ã⟩<|Æ Ë<|b-n).alloc<|Ï #[Æ Ë 0,Õ Ò] 239):=by have:=fy.N (w.setCell ⟨E.r,x*18,Ã⟩<|Æ Ë<|b-n) [Æ Ë 0,Õ Ò] 239;simpa using this
  apply B.C f.C;rintro(q|q);omega;have:=(H.2.2.2.2.2.lt _ q).2;omega
 have m1:=f.r.fC c;have z1:=fy.I f.r<|x*18;have M5:=fy.M f.r;have Jf:=d.M;have c0:=d.r 0 _ U;have c1:=d.r 1 _ U;have y0:=d.I 0;have y1:=d.I 1;have N:=fv<|Ä (M.fA f) d;rw[S]at m1;go_wp2;go_region;go_wp2_with fail;have O:=N.2.C (fw.I (X:=λk=>k=E.r) (p:=⟨E.r,x*18,Ã⟩) U<|Æ Ë<|wu<|b2+(n-(r.r+10))) Z;have q2:=(N.1.fC ok c<|wu<|b2+(n-(r.r+10))).N ((fw.I (X:=λk=>k=w.heap.size) (p:=⟨w.heap.size,0,Ã⟩) U<|Æ Ë<|r.r+10).fA<|fw.I (X:=λk=>k=w.heap.size) (p:=⟨w.heap.size,1,Ã⟩) U<|Õ r.C) (λi q=>by omega) (λi cur q P=>by have B:=O;rw[q,B]at P;cases P) Z;have B:∀W:Î,∀P,fw fB W ((W.alloc<|Ï P 245).drew):=λW P=>(fw.gP _ _ _ _).fA<|fw.gM _ _;apply ï (DI U U (fy.Y (vs:=[Æ Ë<|r.r+10,Õ r.C])<|(((O.fR 0<|Æ Ë<|r.r+10).fR 1<|Õ r.C)).C (B _ #[Æ Ë<|r.r+10,Õ r.C,Æ Ë r.M]) id) H.2.2.2.1 H.2.2.2.2.1 Jh) U;exact⟨U,Y,q2.fH<|B _ _⟩
end
structure Tx where
 x:Nat
 y:Nat
 n:Int
 k:Int
 C:Int
 r:ByteArray
structure sr(a:Nat)(t:Tx)(w:Î):Prop where
 b:∃cs fz,w.heap[a]?=Á (Ï cs 193 fz)
 r:w.cell? ⟨a,0,Ã⟩=Á (Æ Í t.x)
 C:w.cell? ⟨a,1,Ã⟩=Á (Æ Í t.y)
 I:w.cell? ⟨a,2,Ã⟩=Á (Æ Í t.n)
 M:w.cell? ⟨a,3,Ã⟩=Á (Æ Í t.k)
 S:w.cell? ⟨a,4,Ã⟩=Á (Æ Í t.C)
 N:w.cell? ⟨a,5,Ã⟩=Á (Ø t.r)
structure Tx.Ok(t:Tx):Prop where
 x:t.x<8
 y:t.y<8
 I:0<=t.n
 M:t.n<1000000
 r:0<=t.k
 C:t.k<1000000
 N:t.r.size<=40/\∀c∈t.r.data.toList,xW c=Ñ
def sr.K{t:Tx}(h:sr i t w):i<w.heap.size:=ß w _ h.r
def sr.Y{t:Tx}(h:sr i t w)(k:fw X w u)(b:¬X i):sr i t u:=by let⟨c,d,e⟩:=h.b;exact⟨⟨c,d,by rwa[k.N i h.K b]⟩,k.r h.r b,k.r h.C b,k.r h.I b,k.r h.M b,k.r h.S b,k.r h.N b⟩
def sr.H{t:Tx}(h:sr i t w)(c:w.heap[j]?=Á (Ï d T xJ))(e:T≠193):i≠j:=by rintro rfl;let⟨f,g,b⟩:=h.b;rw[c]at b;cases b;exact e U
def sr.G{E:jZ}{t:Tx}{s b:St}{ls:List (Nat×Int)}(c:E.T≠193)(h:sr i t w)(d:jk E.r E.T E.C b v w)(e:w.ownsRow 0 250 2 v gJ.length (je gJ))(r:iY E v n w s ls u x):sr i t u:=by apply h.Y r.C;rintro(q|q);exact h.H d c q;let⟨g,f⟩:=lN e q;exact h.H f A U
def nX(s:St)(ls:List (Nat×Int))(t:Tx):(Int×Bool)×Bool×St×List (Nat×Int):=
 if t.C=1 then((10,Ñ),(uY s t.x t.y t.n).1,(uY s t.x t.y t.n).2,ls)
 else if t.C=2 then((20,Ñ),(uZ s t.x t.r).1,(uZ s t.x t.r).2,ls)
 else x8 s ls t.x t.y t.n t.k
def R'(E:jZ)(a:É)(n:Nat)(w:Î)(o:(Int×Bool)×Bool×St×List (Nat×Int))(e:ŝ)(b:Î):Prop:=
 e=Ì (Ý #[ê #[Æ Ë o.1.1,Õ o.1.2],Õ o.2.1])/\∃c,iY E a n w o.2.2.1 o.2.2.2 b c
structure S_(C:List (Nat×Int))(o:(Int×Bool)×Bool×St×List (Nat×Int)):Prop where
 g0:0<=o.1.1
 r:o.1.1<=400
 s:ic o.2.2.1
 C:o.2.2.2.length<=C.length+400
def ya(ls:List (Nat×Int)):Prop:=∀e∈ls,e.1<8/\gL e.2
def S'(a:0<=h)(b:h<1000000):Ë.wrap h=h:=by show wu h=h;exact sj a Z
def amG{E:jZ}{s:St}{ls:List (Nat×Int)}(ok:E.Ok)(b:jk E.r E.T E.C s v w)(c:w.ownsRow 0 250 2 v ls.length (je ls))(f:lr w)(g:ic s)(x y:Nat)(n k:Int)(d:x<8)(i:y<8)(j:gL k)(l:0<=n)(m:(ls.length:Int)+400<=1000000): Ù À 154 #[Â<|Á ⟨E.r,0,Ã⟩,Æ Í x,Æ Í y,Æ Ë n,Æ Ë k] w (R' E v ls.length w<|x8 s ls x y n k):=by unfold x8;by_cases a:n<10\/400<n\/(s x).fC<n;rw[if_pos a];exact(amE b c x y n k d l a).mono λe o h=>⟨h.1,v,h.2⟩;rw[if_neg a];exact amF ok b c f g x y n k d i j Z Z Z Z _ U
def iY.amH{E:jZ}{s:St}{ls:List (Nat×Int)}(k:fw fB w W)(r:iY E v n W s ls u x):iY E v n w s ls u x:=⟨r.r,r.I,(k.fG λ_ _=>Ĉ).C r.C λ_ _ q=>q,λj q=>(r.l j q).imp id λe=>Ó k.M e,λa b c d f=>r.M a b c (ia d k λ_ _=>id) f⟩
section
variable{E:jZ}{lv:É}{s:St}{ls:List (Nat×Int)}{a:Nat}{t:Tx}
def amI{se:Value}{w1:World}{n:Nat}{s1:St}{wK:List (Nat×Int)}(r:iY E lv n w s1 wK w1 se)(hB:fy w.heap.size [.int .u64 0,.bool false] 239 w1)(hlb:E.r<w.heap.size)(v0 v1:Value)(hf0:kN v0=true:=by rfl)(hf1:kN v1=true:=by rfl): iY E lv n w s1 wK ((w1.setCell ⟨w.heap.size,0,none⟩ v0).setCell ⟨w.heap.size,1,none⟩ v1) se/\fy w.heap.size [v0,v1] 239 ((w1.setCell ⟨w.heap.size,0,none⟩ v0).setCell ⟨w.heap.size,1,none⟩ v1):=by refine⟨r.N (Y:=λk=>k=w.heap.size) ((fw.I (X:=λk=>k=w.heap.size) (p:=⟨w.heap.size,0,Ã⟩) U v0<|Ç hf0).fA<|fw.I (X:=λk=>k=w.heap.size) (p:=⟨w.heap.size,1,Ã⟩) U v1<|Ç hf1) (λi q=>by omega) (λi cur q hc=> ?_) Z,(hB.fR 0 v0).fR 1 v1⟩;rw[q,hB]at hc;cases hc
def amJ{W:Î}{a:St}{cs:List É}(b:jX=(w.alloc<|Ï cs.toArray T).drewN 1\/jX=w.alloc (Ï cs.toArray T))(c:w.ownsRow 0 250 2 lv ls.length (je ls))(e:E.r<w.heap.size)(r:iY E lv n jX a gJ u v):fy w.heap.size cs T u:=by
 have d:fy w.heap.size cs T jX:=by obtain rfl|rfl:=b;exact fy.N w cs T;exact fy.N w cs T
 apply d.C r.C;rintro(q|q);omega;have:=(c.lt _ q).2;omega
def amK(ok:E.Ok)(V:E.T≠193)(z:jk E.r E.T E.C s lv w)(B:w.ownsRow 0 250 2 lv ls.length (je ls))(J:lr w)(m:ic s)(i:sr a t w)(e:t.Ok)(hlen:(ls.length:Int)+400<=1000000): Ù À 138 #[Â<|Á ⟨E.r,0,Ã⟩,Â<|Á ⟨a,0,Ã⟩] w (R' E lv ls.length w<|nX s ls t):=by
 have Y:=fy.M z;have hla:=i.K;have N:=i.r;have O:=i.C;have P:=i.I;have Q:=i.M;have c4:=i.S;have S:=i.N;have hn:=S' e.I e.M;have hk:=S' e.r e.C;let⟨d2,ry,wz⟩:=Ð.1 Tw;have r:=fv<|Ä ry wz;clear ry wz;have C:=(fw.gP fB w #[Æ Ë 0,Õ Ò] 239).fA<|fw.gM _ _;have j:=z.qz C id;have l:=ia B C λ_ _=>id;have c:=i.Y C id;have K:=J.r C id;have H:=fv (Ä (λ(u:Î) (d:St) (q:List (Nat×Int)) (D:É) (f:iY E lv ls.length _ d q u D)=>Ä (sr.G V c j l f)<|Ä (amJ (W:=w) (cs:=[Æ Ë 0,Õ Ò]) (Ç rfl) B Y f) λ(g:Int) (b:Bool)=>(sr.G V c j l f).Y ((fw.I (X:=λk=>k=w.heap.size) (p:=⟨w.heap.size,0,Ã⟩) rfl<|Æ Ë g).fA<|fw.I (X:=λk=>k=w.heap.size) (p:=⟨w.heap.size,1,Ã⟩) rfl<|Õ b) Z) λ(u:Î) (d:St) (q:List (Nat×Int)) (D:É) (g:Int) (b:Bool) (f:iY E lv ls.length _ d q u D) d=>amI (iY.amH C f) d Y (Æ Ë g)<|Õ b);have v:=fv<|Ä c.r<|Ä c.C<|Ä c.I<|Ä c.M c.N;unfold nX;by_cases L:t.C=1
 .rw[if_pos L];rw[L]at c4;have F:=fv (amu (ls:=ls) ok j l m t.x t.y t.n e.x e.y e.I (by have:=e.M;omega));clear z B J m i e j l K c;go_enter ň,ķ;go_wp2_with fail;clear N O P Q S;refine mI (λb=>b.cell? ⟨a,0,Ã⟩=Á (Æ Í t.x)/\b.cell? ⟨a,1,Ã⟩=Á (Æ Í t.y)/\b.cell? ⟨a,2,Ã⟩=Á (Æ Í t.n)/\b.cell? ⟨a,3,Ã⟩=Á (Æ Í t.k)/\b.cell? ⟨a,5,Ã⟩=Á (Ø t.r)) [22] fK ?_;iterate 20 apply tk v
  refine nN 20 ?_;refine nV F λu f=> ?_;let⟨c,d,g⟩:=H.1 _ _ _ _ f;refine⟨λ_=>⟨c.r,c.C,c.I,c.M,c.N⟩,?_⟩;have e0:=d.r 0 _ U;have e1:=d.r 1 _ U;have y0:=d.I 0;have y1:=d.I 1;replace g:=g 10 Ñ;refine jM 21 (λ_=>⟨g.r,g.C,g.I,g.M,g.N⟩) ?_;refine jM 22 (λq=>absurd fD q) ?_;refine ma ?_;go_wp2_with fail;let⟨G,I⟩:=H.2 _ _ _ _ 10 Ñ f d;apply ï (DI U U (fy.Y (tl:=[]) (vs:=[Æ Ë 10,Õ Ñ]) I) r.1 r.2 Jh) U;exact⟨U,lv,G⟩
 rw[if_neg L];have z1:=beq_eq_false_iff_ne.2 L;by_cases M:t.C=2
 .rw[if_pos M];rw[M]at c4;have F:=fv (amD (ls:=ls) ok j l m t.x t.r e.x (by have:=e.N.1;omega));clear z B J m i e j l K c;go_enter ň,ķ;go_wp2_with fail;clear N O P Q S;refine mI (λb=>b.cell? ⟨a,0,Ã⟩=Á (Æ Í t.x)/\b.cell? ⟨a,1,Ã⟩=Á (Æ Í t.y)/\b.cell? ⟨a,2,Ã⟩=Á (Æ Í t.n)/\b.cell? ⟨a,3,Ã⟩=Á (Æ Í t.k)/\b.cell? ⟨a,5,Ã⟩=Á (Ø t.r)) [15] fK ?_;iterate 13 apply tk v
  refine nN 13 ?_;refine nV F λu f=> ?_;let⟨c,d,g⟩:=H.1 _ _ _ _ f;refine⟨λ_=>⟨c.r,c.C,c.I,c.M,c.N⟩,?_⟩;have e0:=d.r 0 _ U;have e1:=d.r 1 _ U;have y0:=d.I 0;have y1:=d.I 1;replace g:=g 20 Ñ;refine jM 14 (λ_=>⟨g.r,g.C,g.I,g.M,g.N⟩) ?_;refine jM 15 (λq=>absurd fD q) ?_;refine ma ?_;go_wp2_with fail;let⟨G,I⟩:=H.2 _ _ _ _ 20 Ñ f d;apply ï (DI U U (fy.Y (tl:=[]) (vs:=[Æ Ë 20,Õ Ñ]) I) r.1 r.2 Jh) U;exact⟨U,lv,G⟩
 rw[if_neg M];have z2:=beq_eq_false_iff_ne.2 M;have F:=fv (amG (ls:=ls) ok j l K m t.x t.y t.n t.k e.x e.y ⟨e.r,by have:=e.C;omega⟩ e.I hlen);clear z B J m i e j l K c;generalize x8 s ls t.x t.y t.n t.k=o at*;go_enter ň,ķ;go_wp2_with fail;clear N O P Q S;refine mI (λb=>b.cell? ⟨a,0,Ã⟩=Á (Æ Í t.x)/\b.cell? ⟨a,1,Ã⟩=Á (Æ Í t.y)/\b.cell? ⟨a,2,Ã⟩=Á (Æ Í t.n)/\b.cell? ⟨a,3,Ã⟩=Á (Æ Í t.k)/\b.cell? ⟨a,5,Ã⟩=Á (Ø t.r)) [26,27] fK ?_;iterate 23 apply tk v
 refine nN 23 ?_;refine nV F λu ⟨D,f⟩=> ?_;let⟨c,d,g⟩:=H.1 _ _ _ _ f;have v:=fv<|Ä c.r<|Ä c.C<|Ä c.I<|Ä c.M c.N;clear c g;refine⟨λ_=>v,?_⟩;have e0:=d.r 0 _ U;have e1:=d.r 1 _ U;have y0:=d.I 0;have y1:=d.I 1;iterate 2 apply tk v
 refine jM 26 (λq=>absurd fD q) ?_;refine jM 27 (λq=>absurd fD q) ?_;refine ma ?_;go_wp2_with fail;let⟨G,I⟩:=H.2 _ _ _ _ o.1.1 o.1.2 f d;apply ï (DI U U (fy.Y (tl:=[]) (vs:=[Æ Ë o.1.1,Õ o.1.2]) I) r.1 r.2 Jh) U;exact⟨U,D,G⟩
end
def T_:∀(d a b c:List É)(k:Nat),b.length=d.length->(d.zipIdx k).foldl (λ(q:Array É) (p:Value×Nat)=>q.setIfInBounds (a.length-k+p.2) p.1) (a++b++c).toArray=(a++d++c).toArray\/a.length<k
 |[],a,b,c,k,h=>by have:b=[]:=Ü<|fN h;subst this;exact Ç U
 |v::r,a,b,c,k,h=>by
  obtain q|q:=ey a.length k;exact Ê q;match b,h with
  |x::b,h=>
   apply Ç;have p:=(T_ r (a++[v]) b c (k+1)<|fN h).resolve_right (by simp;omega);simp only[bZ,dS];rw[show a.length-k+k=a.length by omega,dH,show(a++x::b++c).set a.length v=a++[v]++b++c by simp];rw[show(a++[v]).length-(k+1)=a.length-k by simp]at p;rw[p];simp
theorem zy{place:Nat->Option (Nat×Nat)}{pre old suf:List É}{size:Nat}{rest:List (Nat×Value)}(a:place i=Á (pre.length,size))(b:v.cells.size=size)(c:old.length=size): ē place (pre++old++suf).toArray ((i,v)::rest)=ē place (pre++v.cells.toList++suf).toArray rest:=by rw[Instr.fill.eq_2];simp only[a];rw[if_neg (by simp only[eN,ä,eg,decide_eq_true_eq,not_or];omega)];have:=(T_ v.cells.toList pre old suf 0<|by rw[c,dU,b]).resolve_right Z;simp only[Ł]at this;grind [Array.toList_zipIdx]
def amL:((À.info? 136).bind (·.zero)).map (λz=>z.cells.toList.drop 144)=Á [È Ã 0 0]:=fK
def amM:((À.info? 136).bind (·.zero)).map (λz=>z.cells.size)=Á 145:=fK
def U_:((À.info? 139).bind (·.zero)).map (λz=>z.cells.toList.drop 145)=Á [Æ Í 0,È Ã 0 0]:=fK
def V_:((À.info? 139).bind (·.zero)).map (λz=>z.cells.size)=Á 147:=fK
def Bx(P:ċ)(t:ç):Option (List<|Nat×Nat):=match P.underlying t with|some (.struct fs)=>fs.toList.mapM λf=>(P.info? f.type).map λi=>(f.offset,i.size)|_=>Ã
def amN:Bx À 136=Á [(0,144),(144,1)]:=fK
def W_:Bx À 139=Á [(0,145),(145,1),(146,1)]:=fK
def DJ{c:List (Nat×Nat)}(a:Bx P t=Á c)(b:(P.info? t).bind (·.zero)=Á z)(e:List (Nat×Value)):P.built t e=ē (c.toArray[·]?) z.cells e:=by
 unfold Bx at a;unfold Program.built;cases f:P.info? t with
 |none=>rw[f]at b;cases b
 |some h=>
  rw[f]at b;have b:h.zero=Á z:=b;cases g:P.underlying t with
  |none=>rw[g]at a;cases a
  |some d=>
   rw[g]at a;cases d<;>first|(cases a;done)|skip
   simp only at a;simp only[b,a]
theorem Ji{suf:List É}(h:((P.info? t).bind (·.zero)).map (λz=>z.cells.toList.drop n)=Á suf)(a:((P.info? t).bind (·.zero)).map (λz=>z.cells.size)=Á m)(c:n<=m):∃z old,(P.info? t).bind (·.zero)=Á z/\old.length=n/\z.cells=(old++suf).toArray:=by
 let⟨z,b,d⟩:=Ð.1 h;rw[b]at a;have a:z.cells.size=m:=by injection a
 refine⟨z,z.cells.toList.take n,b,by rw[dB,dU,a];omega,?_⟩;grind
theorem amO(h:l.length=144):À.built 136 [(0,ê l.toArray)]=Á (l++[È Ã 0 0]).toArray:=by let⟨z,d,a,b,c⟩:=Ji amL amM A;rw[DJ amN a,c];have:=zy (place:=λi=>[(0,144),(144,1)].toArray[i]?) (pre:=[]) (suf:=[È Ã 0 0]) (i:=0) (v:=ê l.toArray) (rest:=[]) U (by show l.toArray.size=144;simp[h]) b;simpa[ē,ó]using this
theorem amQ(h:l.length=145)(a:v.cells=#[v]):À.built 139 [(0,ê l.toArray),(1,v)]=Á (l++[v,È Ã 0 0]).toArray:=by let⟨z,g,c,d,f⟩:=Ji U_ V_ A;rw[DJ W_ c,f];have b:=zy (place:=λi=>[(0,145),(145,1),(146,1)].toArray[i]?) (pre:=[]) (suf:=[Æ Í 0,È Ã 0 0]) (i:=0) (v:=ê l.toArray) (rest:=[(1,v)]) U (by show l.toArray.size=145;simp[h]) d;simp only[ec]at b;rw[b];have e:(ê l.toArray).cells.toList=l:=rfl;rw[e];rw[show(l++[Æ Í 0,È Ã 0 0])=l++[Æ Í 0]++[È Ã 0 0] by simp,(zy (place:=λi=>[(0,145),(145,1),(146,1)].toArray[i]?) (old:=[Æ Í 0]) (suf:=[È Ã 0 0]) (i:=1) (rest:=[]) (by show Á (145,1)=Á (l.length,1);rw[h]) (by rw[a];rfl) U)];simp[ē,a]
def iU(s:St):List É:=(Þ 144).map<|si s
def tW(s:St):(iU s).length=144:=by simp[iU]
theorem By(s:St)(lv:É):jY s lv=iU s++[lv]:=by unfold jY iU;grind [ð,İ,sU,MO]
def oJ{x:ą}{cs:Array É}(a:o.op=.box T x)(b:xX x=ê cs):(ô xX o).run P w=Η (ė<|Â<|Á ⟨w.heap.size,0,Ã⟩) (w.alloc<|Ï cs T):=by simp[ô,a,b,Instr.box,newVar,newRow,ó]
theorem zz{a:Array (Nat×Operand)}{cs:Array É}(b:o.op=ř T a)(h:P.built T (a.map λ(i,x)=>(i,xX x)).toList=Á cs):(ô xX o).run P w=Η (ė<|ê cs) w:=by have:=run_build w T (a.map λ(i,x)=>(i,xX x)) cs h;unfold ô;simp_all
theorem Ty(a:o.op=ř 136 #[(0,qQ)])(b:xX qQ=ê l.toArray)(c:l.length=144):(ô xX o).run À w=Η (ė<|ê (l++[È Ã 0 0]).toArray) w:=by grind [zz,amO]
theorem amR{y:ą}(a:o.op=ř 139 #[(0,qQ),(1,y)])(b:xX qQ=ê l.toArray)(c:xX y=v)(d:l.length=145)(e:v.cells=#[v]):(ô xX o).run À w=Η (ė<|ê (l++[v,È Ã 0 0]).toArray) w:=by apply zz a;grind [amQ]
def Tz:(À.underlying 132).map ă=Á Ñ:=fK
def X_:(À.info? 132).map (·.size)=Á 144:=fK
structure qH(vb:Nat)(s:St)(h:Int)(w:Î):Prop where
 C:w.rangeAt vb 0 (iU s)
 h:w.cell? ⟨vb,145,Ã⟩=Á (Æ Í h)
def qH.r{s:St}(a:qH i s h w)(k:fw X w u)(b:¬X i):qH i s h u:=⟨λj v c=>k.r (a.C j v c) b,k.r a.h b⟩
def yb(l:List (Int×Bool)):List É:=l.flatMap λp=>[Æ Ë p.1,Õ p.2]
structure NX(B:Nat)(h:Int)(lv uv:É)(s:St)(ls:List (Nat×Int))(us:List (Int×Bool))(w0 w:Î):Prop where
 r:jk B 139 [Æ Í h,uv] s lv w
 C:w.ownsRow 0 250 2 lv ls.length (je ls)
 I:w.ownsRow 0 239 2 uv us.length (yb us)
 M:fw fB w0 w
 N:w0.heap.size<=B
 S:∀j,lv.ownBlock=Á j->w0.heap.size<=j
 Y:∀j,uv.ownBlock=Á j->w0.heap.size<=j
def NX.jG(w:Î)(s:St)(h:Int):NX w.heap.size h (È Ã 0 0) (È Ã 0 0) s [] [] w ((í w<|Ï (iU s++[È Ã 0 0,Æ Í h,È Ã 0 0]).toArray 139).drew):=by refine⟨?_,Ă _ _ _ _,Ă _ _ _ _,(fw.gP _ _ _ _).fA<|fw.gM _ _,eE _,(λj q=>nomatch q),(λj q=>nomatch q)⟩;rw[jk,By,show iU s++[È Ã 0 0]++[Æ Í h,È Ã 0 0]=iU s++[È Ã 0 0,Æ Í h,È Ã 0 0] by simp];exact fy.N w _ 139
section
variable{B:Nat}{lv:É}{s b:St}
def TA(B:Nat)(h:Int)(jQ:É):jZ:=⟨B,139,[Æ Í h,jQ]⟩
def X'(B:Nat)(h:Int)(jQ:É):(TA B h jQ).Ok:=⟨by show(139:Nat)≠23;decide,by show(139:Nat)≠250;decide,by show(139:Nat)≠276;decide,by show(139:Nat)≠294;decide,by show(139:Nat)≠245;decide,by show(139:Nat)≠239;decide⟩
def NX.fH(x:NX B h lv jQ s gJ bJ u w)(k:fw fB w W):NX B h lv jQ s gJ bJ u W:=⟨x.r.qz k id,ia x.C k λ_ _=>id,ia x.I k λ_ _=>id,x.M.fA k,x.N,x.S,x.Y⟩
def NX.K(x:NX B h lv jQ s gJ bJ u w)(r:iY (TA B h jQ) lv gJ.length w b kX W z):NX B h z jQ b kX bJ u W:=by have c:=x.r;refine⟨r.r,r.I,ia x.I r.C ?_,x.M.C r.C ?_,x.N,λj q=> ?_,x.Y⟩;rintro j i (q|q);let⟨d,a⟩:=lN x.I i;have e:j=B:=q;rw[e,c]at a;cases a;exact I3 x.I x.C A i q;rintro i a (q|q);have:=x.N;have e:i=B:=q;omega;have:=x.S i q;omega;obtain e|e:=r.l j q;exact x.S j e;exact Ó x.M.M e
def NX.fC(x:NX B h lv jQ s gJ bJ u w)(a:i<8)(v:Int):NX B h lv jQ (s.fC i v) gJ bJ u (w.setCell ⟨B,i*18,Ã⟩<|Æ Ë v):=x.K<|(iY.gy (E:=TA B h jQ) x.r x.C).fC (X' _ _ _) a v
def Y_(bJ:List (Int×Bool)):∀u∈yb bJ,kN u=Ñ:=λu a=>by unfold yb at a;let⟨e,_,h⟩:=cw.1 a;simp at h;obtain rfl|rfl:=h<;>rfl
def amS:(À.info? 239).map iF=Á (Á<|ê #[Æ Ë 0,Õ Ò],2,16):=fK
def NX.H(x:NX B h lv jQ s gJ bJ u w):w.cell? ⟨B,146,Ã⟩=Á jQ:=fy.r x.r 146 _<|by rw[eT (by rw[oh];omega),oh];rfl
def NX.amT(x:NX B h lv jQ s gJ bJ u w)(a:nU w 0 239 2 jQ bJ.length (yb bJ) 1 [Æ Ë c,Õ yQ] v W): NX B h lv jQ s gJ bJ u W/\NX B h lv v s gJ (bJ++[(c,yQ)]) u (W.setCell ⟨B,146,Ã⟩ v):=by
 have f:∀{i:Nat} {l:Array É} {T:ç},jQ.ownBlock=Á i->w.heap[i]?=Á (Ï l T (0,0))->T=239:=λ{i l T} q hc=>by let⟨k,e⟩:=lN x.I q;rw[hc]at e;cases e;rfl
 have m:=x.M.C a.r λi o q=>by have:=x.Y i q;omega
 have b:NX B h lv jQ s gJ bJ u W:=⟨x.r.qz a.r λq=>absurd (f q x.r) A,ia x.C a.r (λj q r=>by let⟨k,e⟩:=lN x.C q;exact absurd (f r e) A),a.I _ _ _ x.I λ_=>eE _,m,x.N,x.S,x.Y⟩;have n:W.ownsRow 0 239 2 v (bJ++[(c,yQ)]).length (yb<|bJ++[(c,yQ)]):=by have:=a.fE;rwa[show yb bJ++[Æ Ë c,Õ yQ]=yb (bJ++[(c,yQ)]) by simp[yb],show bJ.length+1=(bJ++[(c,yQ)]).length by simp]at this
 have d:fw (λk=>k=B) W (W.setCell ⟨B,146,Ã⟩ v):=fw.I (X:=λk=>k=B) (p:=⟨B,146,Ã⟩) U v<|Ê<|fy.S b.r;have k:=fy.fR b.r 146 v;rw[eF _ _ (by rw[oh];omega),oh]at k;refine⟨b,k,ia b.C d λj q r=>iG b.C b.r A (by rw[q,r]),ia n d λj q r=>iG n b.r A (by rw[q,r]),m.C d λi o q=>by have:=x.N;omega,x.N,x.S,λj q=> ?_⟩;obtain e|e:=a.C;exact x.Y j (by rwa[<-e]);rw[e]at q;cases q;exact x.M.M
end
def va(m:Nat):St->List (Nat×Int)->List (Int×Bool)->List Tx->Option (St×List (Nat×Int)×List (Int×Bool))|s,ls,us,[]=>Á (s,ls,us)|s,ls,us,t::r=>if(nX s ls t).2.1 then va m ((nX s ls t).2.2.1.fC m<|wu<|((nX s ls t).2.2.1 m).fC+(nX s ls t).1.1) (nX s ls t).2.2.2 (us++[(nX s ls t).1]) r else Ã
def amU{s:St}(b:ic s)(x y:Nat)(c:0<=h):ic (uY s x y h).2:=by unfold uY;split;exact b;rename_i a;have:=(b.fC x).2;exact(b.r x ⟨Z,Z⟩).r y<|uW _
def amV{s:St}(a:ic s)(x:Nat)(e:B.size<=40/\∀c∈B.data.toList,xW c=Ñ):ic (uZ s x B).2:=by unfold uZ;split;exact a;rename_i h;have:=(a.fC x).2;have d:=a.r x (b:=(s x).fC-20) ⟨Z,Z⟩;exact d.fR (d.fC x) (d.C x) e
def amW{s:St}(d:ic s)(f:i<8)(g:j<8)(l:gL c)(o:(gJ.length:Int)+400<=1000000):S_ gJ (x8 s gJ i j h c):=by unfold x8;split;exact⟨cK _,by show(0:Int)<=400;decide,d,ě _ _⟩;rename_i a;have p:=(d.fC i).2;have m:=d.r i (b:=(s i).fC-h) ⟨Z,Z⟩;have e:=FQ _ gJ i j (h-10) c m f g l Z Z Z;have q:=e.C;have r:=e.r;have t:=e.I;exact⟨by show 0<=_+10;omega,by show _+10<=400;omega,e.N.r i<|uW _,by show(gS _ _ _ _ _ _).I.length<=_;omega⟩
def Z_{s:St}(b:ic s){ls:List (Nat×Int)}{t:Tx}(a:t.Ok)(c:(ls.length:Int)+400<=1000000):S_ ls (nX s ls t):=by unfold nX;split;exact⟨by show(0:Int)<=10;decide,by show(10:Int)<=400;decide,amU b _ _ a.I,ě _ _⟩;split;exact⟨by show(0:Int)<=20;decide,by show(20:Int)<=400;decide,amV b _ a.N,ě _ _⟩;exact amW b a.x a.y ⟨a.r,by have:=a.C;omega⟩ c
structure FT(bp:Option Û)(n:Nat)(rA:List (Nat×Tx))(w:Î):Prop where
 C:n=rA.length
 r:∀(j a:Nat)(t:Tx),rA[j]?=Á (a,t)->∃tb te,bp=Á ⟨tb,te,Ã⟩/\w.cell? ⟨tb,te+j,Ã⟩=Á (Â<|Á ⟨a,0,Ã⟩)/\sr a t w/\t.Ok
def FT.I{b:List (Nat×Tx)}(h:FT O n b w)(k:fw fB w u):FT O n b u:=⟨h.C,λj a t q=>by let⟨tb,c,d,e,f,g⟩:=h.r j a t q;exact⟨tb,c,d,k.r e id,f.Y k id,g⟩⟩
def ov(a:List (Nat×Tx)):List Tx:=a.map (·.2)
section
variable{bp:Option Û}{cp:Nat}{rA:List (Nat×Tx)}{d:Option (St×List (Nat×Int)×List (Int×Bool))}
def o9(m:Nat)(s:St)(rA:List Tx):Option (St×List (Nat×Int)×List (Int×Bool)):=
 (va m s [] [] rA).map λr=>(r.1.fC m<|wu<|(r.1 m).fC+50,r.2)
def FU(h:Int)(w:Î)(r:Option (St×List (Nat×Int)×List (Int×Bool)))(e:ŝ)(a:Î):Prop:=
 (r=Ã/\e=Ì (Â Ã)/\fw fB w a)\/
 ∃s b c i d f,r=Á (s,b,c)/\e=Ì (Â<|Á ⟨i,0,Ã⟩)/\NX i (h+1) d f s b c w a/\ic s
theorem amX{s:St}(f:qH b s h w)(hh0:0<=h)(hh1:h<=1000)(k:ic s)(hT:FT bp n rA w)(hr:lr w)(hn:n<=1000)(I:m<8): Ù À 99 #[Â<|Á ⟨b,0,Ã⟩,Æ Í m,È bp n cp] w (FU h w<|o9 m s<|ov rA):=by
 let⟨dd,Bv,wI⟩:=Ð.1 Tz;have jV:(À.info? 132).map (·.size)=Á (iU s).length:=by rw[tW];exact X_
 have l:=fv<|Ä Bv<|Ä wI jV;have qw:=(f.r (fw.gM fB w) id).C;have Z':=(f.r (fw.gM fB w) id).h;have rm:Í.wrap (h+1)=h+1:=Ja Z Z;have e:=fv<|Ä qw Z';have Q:=ß w _ f.h;have H:=fv<|Ä f<|Ä k<|Ä hT hr;have wC:o9 m s (ov rA)=(va m s [] []<|ov rA).map λr=>(r.1.fC m<|wu<|(r.1 m).fC+50,r.2):=rfl;rw[wC];clear Bv wI qw Z' f jV k hT hr wC;generalize hg:va m s [] [] (ov rA)=d;have HG:=fv hg;clear hg;go_enter Tryz.func99,Tryz.ntmps99;go_wp2_with fail;refine mI (λD=>D.rangeAt b 0 (iU s)/\D.cell? ⟨b,145,Ã⟩=Á (Æ Í h)) [] fK ?_;iterate 4 apply tk e
 apply I9 (i:=4) (oi:={dst:=Á 16,op:=ρ 132<|à 15,type:=132,pos:= "block.go:30",after:=#[{on:=3,ground:=á}],guard:=Ã}) U fK fK fK fK (λ_ _ _ h=>h) e (yieldsIf_load_mid gq 132 _ U b 0 U (iU s) dd (λw h=>h.1) l.1 l.2.1 l.2.2);apply I9 (i:=5) (oi:={dst:=Á 17,op:=ř 136 #[(0,à 16)],type:=136,pos:= "block.go:30",after:=#[{on:=4,ground:=á}],guard:=Ã}) U fK fK fK fK (λ_ _ _ h=>h) e (Ç ⟨gq,λ_ _=>Ty U U<|tW s⟩);apply tk e 6;apply tk e 7;apply tk e 8;apply tk e 9;apply tk e 10;apply I9 (i:=11) U fK fK fK fK (λ_ _ _ h=>h) e (Ç ⟨gq,λ_ _=>amR U U U (by simp[tW]) U⟩);have J:=fv<|(H.1.r (fw.gM fB w) id).r (fw.gP fB _ ((iU s++[È Ã 0 0])++[Æ Í<|h+1,È Ã 0 0]).toArray 139) id;apply np 12;intro K S;rw[if_pos gq];rw[ğ,oJ U U,Oper.upon_value];apply S.out _ _ λ_=>⟨J.C,J.h⟩;refine jM 13 (λ_=>⟨J.C,J.h⟩) ?_;refine ma ?_;go_wp2_with fail;have x0:=NX.jG w s<|h+1;generalize ê (iU s).toArray=z16;generalize ê (iU s++[È Ã 0 0]).toArray=z17;generalize ê (iU s++[È Ã 0 0,Æ Í<|h+1,È Ã 0 0]).toArray=z23;go_loopw [27] (λi wr=>∃(j:Nat)(s:St)(v:List (Nat×Int))(us:List (Int×Bool))(T L:É),i=Æ Í j/\j<=n/\NX w.heap.size (h+1) T L s v us w wr/\ic s/\v.length<=400*j/\us.length=j/\va m s v us ((ov rA).drop j)=d) λi _=>n-(ď i).toNat
 case atStart=>exact⟨0,s,[],[],_,_,U,eD _,x0,H.2.1,fD,U,HG⟩
 case round=>
  clear x0 HG e l J;obtain⟨j,s,v,us,T,L,rfl,hj,x,k,Ti,Fh,z⟩:=hrel;obtain⟨wo,rfl⟩:∃wo,wo=wr:=⟨_,U⟩;have V:=H.2.2.1.C;by_cases xw:j=n
  .have N:(ov rA).drop j=[]:=di (by rw[ov,dw,<-V];omega);rw[N]at z;subst z xw;have d1:=x.r.fC I;have f1:=fy.I x.r<|m*18;have M5:=fy.M x.r;have b0:=(k.fC m).1;have b1:=(k.fC m).2;have hm0:(0:Int)<=(m:Int):=Z;have hm1:(m:Int)<8:=Z;have y:=fv<|Ä x k;generalize hbb:(s m).fC=b at*;go_wp2;go_region;go_wp2;go_ret;refine Ê ⟨s.fC m<|wu<|(s m).fC+50,v,us,w.heap.size,T,L,U,U,?_,y.2.r m<|uW _⟩;rw[hbb];first|exact(y.1.fC I<|wu<|b+50).fH<|fw.gM _ _|exact(y.1.still<|Keep.drew _ _).fC I<|wu<|b+50
  .have Q:j<n:=Z;obtain⟨⟨a,t⟩,W⟩:∃p,rA[j]?=Á p:=⟨_,fe<|by rw[<-V];exact Q⟩;have N:(ov rA).drop j=t::(ov rA).drop (j+1):=by
    have ht:(ov rA)[j]?=Á t:=by rw[ov,dN,W];rfl
    grind [ö]
   obtain⟨tb,tq,rfl,hc,Bs,X⟩:=(H.2.2.1.I x.M).r j a t W;have hlen:(v.length:Int)+400<=1000000:=Z;have E:=Z_ k X hlen;rw[N]at z;unfold va at z;have C:=amK (X' _ _ _) (by show(139:Nat)≠193;decide) x.r x.C (H.2.2.2.r x.M id) k Bs X hlen;obtain⟨g,c,Y,s1,O,ho⟩:∃g c Y s1 O,nX s v t=((g,c),Y,s1,O):=⟨_,_,_,_,_,U⟩;rw[ho]at z E C;have rn:0<=g:=E.g0;have rz:g<=400:=E.r;have F:=E.s;have awf:O.length<=v.length+400:=E.C;have e1:(0:Int)<=(j:Int):=Z;have e2:(j:Int)<(n:Int):=Z;have awg:=fy.M x.r;have M:=fv<|Ä x<|Ä C<|Ä z F;have HU:=fv Fh;have hu1:us.length<=1000:=Z;clear Fh;clear x C z Bs X k ho E N W F V;go_wp2_with fail;go_at_call 138;refine gl M.2.1 λo ⟨se,r1⟩=> ?_;have B:=M.1.K r1;have F:=M.2.2.2;cases Y with
   |false=>
    have y:=fv B;clear B;go_wp2;go_ret;exact Ç ⟨by rw[<-M.oQ.2.2.1];rfl,U,y.M.fA<|fw.gP _ _ _ _⟩|true=>
    have m1:=B.r.fC I;have z1:=fy.I B.r<|m*18;have M5:=fy.M B.r;have b0:=(F.fC m).1;have b1:=(F.fC m).2;have hub:L.ownBlock≠Á o.heap.size:=λq=>by have:=(B.I.lt _ q).2;omega
    have y:=fv<|Ä B F;generalize hb:(s1 m).fC=b at*;have hm0:(0:Int)<=(m:Int):=Z;have hm1:(m:Int)<8:=Z;go_wp2;go_region;have hx8:=(y.1.fC I<|wu<|b+g).fH<|(fw.gP fB _ #[Æ Ë g,Õ c] 239).fA<|fw.gM _ _;have hU:fy o.heap.size [Æ Ë g,Õ c] 239 (Ē<|í (o.setCell ⟨w.heap.size,m*18,Ã⟩<|Æ Ë<|wu<|b+g)<|Ï #[Æ Ë g,Õ c] 239):=by have:=fy.N (o.setCell ⟨w.heap.size,m*18,Ã⟩<|Æ Ë<|wu<|b+g) [Æ Ë g,Õ c] 239;have h0:fy o.heap.size [Æ Ë g,Õ c] 239 (í (o.setCell ⟨w.heap.size,m*18,Ã⟩<|Æ Ë<|wu<|b+g)<|Ï #[Æ Ë g,Õ c] 239):=fN this;exact h0
    go_wp2_with fail
    change Code.wp À _ _ _ (Ē<|í (o.setCell ⟨w.heap.size,m*18,Ã⟩<|Æ Ë<|wu<|b+g)<|Ï #[Æ Ë g,Õ c] 239);generalize Ē (í (o.setCell ⟨w.heap.size,m*18,Ã⟩<|Æ Ë<|wu<|b+g)<|Ï #[Æ Ë g,Õ c] 239)=w8 at*;generalize o.heap.size=ub at*;have x9:=hx8.fH<|fw.gM fB w8;have U9:=hU.C (fw.gM fB w8) id;let⟨i0,pe,mX,Bz,BA⟩:=ć amS;have l:=fv<|Ä pe<|Ä mX<|Ä Bz BA;have e:=fv<|Ä x9.H<|Ä (U9.r 0 _ rfl)<|U9.r 1 _ rfl;have HN:=fv<|Ä x9 U9;refine mI (λD=>D.cell? ⟨w.heap.size,146,Ã⟩=Á L/\D.cell? ⟨ub,0,Ã⟩=Á (Æ Ë g)/\D.cell? ⟨ub,1,Ã⟩=Á (Õ c)) [10] fK ?_;iterate 6 apply tk e
    have y1:=HN.1.fH<|fw.gP fB _ #[Æ Ë g,Õ c] 239;have V1:=HN.2.C (fw.gP fB _ #[Æ Ë g,Õ c] 239) id;refine jM 6 (λ_=>⟨y1.H,V1.r 0 _ U,V1.r 1 _ U⟩) ?_;apply np 7;intro K S;refine FJ (hfl:=Ê ⟨fD,λu P=>(dx.1 P).elim (Y_ us u) (λq=>by simp at q;obtain rfl|rfl:=q<;>rfl),by simp[kN,ó]⟩) gq _ _ 137 gq Tryz.underlying137 l.1 l.2.1 l.2.2.1 l.2.2.2 U gq y1.I ⟨_,0,Ã⟩ [Æ Ë g,Õ c] gq Z U (ń _ _ _ _) (λu P=>by simp at P;obtain rfl|rfl:=P<;>rfl) (by unfold ĸ;omega) Z (eD _) ?_;intro uv1 w9 f;obtain⟨a2,cp2,rfl⟩:=jj f.fE;let⟨n1,n2⟩:=y1.amT f;have G:=V1.C f.r hub;apply S.out _ _ λ_=>⟨n1.H,G.r 0 _ U,G.r 1 _ U⟩;have dl:=n1.H;have fz:=fy.I n1.r 146;refine jM 8 (λ_=>⟨dl,G.r 0 _ U,G.r 1 _ U⟩) ?_;refine jM 9 (λ_=>⟨dl,G.r 0 _ U,G.r 1 _ U⟩) ?_;refine jM 10 (λq=>absurd fD q) ?_;refine ma ?_;go_wp2_with fail;subst hb;go_roundw
    case rel=>exact⟨j+1,_,O,us++[(g,c)],se,_,by go_num,Q,n2,y.2.r m<|uW _,Z,by simp[HU.oQ],M.2.2.1⟩
    case measure=>simp[ď];omega
end
def pg(i:Nat):ByteArray:=if i<10 then⟨#[(48+i).toUInt8]⟩else⟨#[(48+i/10).toUInt8,(48+i%10).toUInt8]⟩
def amY:∀k:Fin 10,(⟨#[48,49,50,51,52,53,54,55,56,57,97,98,99,100,101,102,103,104,105,106,107,108,109,110,111,112,113,114,115,116,117,118,119,120,121,122]⟩:ByteArray).extract k.val (k.val+1)=pg k.val:=by decide+kernel
def amZ:∀k:Fin 100,k.val<10\/(⟨#[48,48,48,49,48,50,48,51,48,52,48,53,48,54,48,55,48,56,48,57,49,48,49,49,49,50,49,51,49,52,49,53,49,54,49,55,49,56,49,57,50,48,50,49,50,50,50,51,50,52,50,53,50,54,50,55,50,56,50,57,51,48,51,49,51,50,51,51,51,52,51,53,51,54,51,55,51,56,51,57,52,48,52,49,52,50,52,51,52,52,52,53,52,54,52,55,52,56,52,57,53,48,53,49,53,50,53,51,53,52,53,53,53,54,53,55,53,56,53,57,54,48,54,49,54,50,54,51,54,52,54,53,54,54,54,55,54,56,54,57,55,48,55,49,55,50,55,51,55,52,55,53,55,54,55,55,55,56,55,57,56,48,56,49,56,50,56,51,56,52,56,53,56,54,56,55,56,56,56,57,57,48,57,49,57,50,57,51,57,52,57,53,57,54,57,55,57,56,57,57]⟩:ByteArray).extract (k.val*2) (k.val*2+2)=pg k.val:=by decide+kernel
theorem am0(i:Nat)(h:i<10)(w:Î):Ù À 171 #[Æ Í i] w λe a=>e=Ì (Ø<|pg i)/\a=w:=by
 go_enter ſ,Ũ;go_wp2;all_goals go_ret
 refine⟨A_<|amY ⟨i,h⟩,U⟩
theorem am1(i:Nat)(h:i<100)(b:10<=i)(w:Î):Ù À 171 #[Æ Í i] w λe a=>e=Ì (Ø<|pg i)/\a=w:=by
 go_enter ſ,Ũ;go_wp2;all_goals go_ret
 refine⟨A_ ((amZ ⟨i,h⟩).resolve_left<|by show¬i<10;omega),U⟩
theorem am2(i:Nat)(h:i<100)(w:Î):Ù À 171 #[Æ Í i] w λe a=>e=Ì (Ø<|pg i)/\a=w:=by grind [am0,am1]
def am3(i:Nat)(h:i<100)(w:Î):Ù À 155 #[Æ Í i,Æ Í 10] w λe a=>e=Ì (Ø<|pg i)/\a=w:=by go_enter Tryz.func155,Tryz.ntmps155;go_wp2_with (go_at_call 171;refine iT (am2 i h _) ?_);go_ret;exact⟨U,U⟩
def aac(i:Nat)(h:i<100)(w:Î):Ù À 101 #[Æ Í i] w λe a=>e=Ì (Ø<|pg i)/\a=w:=by
 go_enter Tryz.func101,Tryz.ntmps101;go_wp2_with (first|(go_at_call 155;refine iT (am3 i h _) ?_)|go_in)
 go_ret;exact⟨U,U⟩
def pK(i:Nat):ByteArray:=⟨#[33]⟩++pg i
def FV(i:Nat)(h:i<10)(w:Î):Ù À 98 #[Æ Í i] w λe a=>e=Ì (Ø<|pK i)/\a=w:=by
 have b:(pg i).size=1:=by rw[pg,if_pos h];rfl
 go_enter Tryz.func98,Tryz.ntmps98;go_wp2_with (go_at_call 101;refine iT (aac i Z _) ?_);go_ret;exact⟨U,U⟩
def tb(n c:Nat):Nat:=(n^^^c)*1099511628211%18446744073709551616
def Jj(n c:Nat):tb n c<18446744073709551616:=Đ _ Z
def aad(n c:Nat)(a:n<18446744073709551616)(f:c<256)(w:Î):Ù À 162 #[Æ Ë n,Æ .u8 c] w λe b=>e=Ì (Æ Ë<|tb n c)/\b=w:=by
 go_enter Tryz.func162,Tryz.ntmps162;go_wp2;go_ret;refine⟨?_,U⟩;have d:Ë.wrap (((n^^^c:Nat):Int)*1099511628211)=((tb n c:Nat):Int):=by rw[δ];unfold tb;omega
 rw[bits_xor_u64_nat n c a Z,d];rfl
def tn(m:Nat):Nat->Nat->Nat|n,0=>n|n,j+1=>tn m (tb n<|m/2^(8*j)%256) j
def aae(m:Nat):∀(j n:Nat),n<18446744073709551616->tn m n j<18446744073709551616|0,_,h=>h|j+1,_,_=>aae m j _<|Jj _ _
def oK(n m:Nat):Nat:=tn m n 8
theorem DK(n m:Nat)(a:n<18446744073709551616):oK n m<18446744073709551616:=aae m 8 n a
def Jk(n m:Nat)(f:n<18446744073709551616)(o:m<18446744073709551616)(w:Î):Ù À 161 #[Æ Ë n,Æ Ë m] w λe g=>e=Ì (Æ Ë<|oK n m)/\g=w:=by
 generalize k:oK n m=r;go_enter Tryz.func161,Tryz.ntmps161;go_wp2;go_loop [0,5] (λa i=>∃h j:Nat,j<=8/\h<18446744073709551616/\tn m h j=r/\i=Æ Í (((8*j:Nat):Int)-8)/\a=Æ Ë h) λ_ i=>(ď i+8).toNat
 case atStart=>exact⟨n,8,eE _,f,k,U,U⟩
 case round=>
  obtain⟨h,j,p,l,b,rfl,rfl⟩:=hrel;cases j with
  |zero=>
   subst b;go_wp2;go_ret;exact⟨U,U⟩|succ j=>
   rw[show(((8*(j+1):Nat):Int)-8)=((8*j:Nat):Int) by omega];have q:(0:Int)<=((8*j:Nat):Int):=Z;have s:((8*j:Nat):Int)<64:=Z;have T:=aad h (m/2^(8*j)%256) l Z w;have d:((m/2^(8*j)%256:Nat):Int)=(m:Int)/2^(8*j)%256:=fD;rw[d]at T;have H:=fv<|Ä T b;clear T d b;generalize c:8*j=j8 at*;go_wp2_with (go_at_call 162;refine iT H.1 ?_);go_round
   case rel=>exact⟨_,j,Z,Jj _ _,by subst c;exact H.2,by subst c;go_num,by subst c;rfl⟩
   case measure=>simp[ď];omega
def M6(p q:Nat):Nat:=oK (oK 14695981039346656037 p) q
def am4(p q:Nat):M6 p q<18446744073709551616:=DK _ _<|DK _ _ Z
def pr(l:List Nat)(t:Nat):Nat:=M6 (l.getD (2*t) 0)<|l.getD (2*t+1) 0
def aaf(l:List Nat)(t:Nat):M6 (l.getD (2*t) 0) (l.getD (2*t+1) 0)=pr l t:=by unfold pr;exact φ _
def lk(l:List Nat)(i:Nat):List Nat:=(Þ l.length).map λt=>if t<i then pr l t else l.getD t 0
def pU(l:List Nat):List Nat:=(Þ<|l.length/2).map<|pr l
def j5(l:List Nat):List É:=l.map λ(x:Nat)=>Æ Ë x
def wL(l:List Nat):Prop:=∀t,l.getD t 0<18446744073709551616
theorem Jl(l:List Nat)(i:Nat):(lk l i).length=l.length:=by simp[lk]
theorem M7(l:List Nat)(i t:Nat)(h:t<l.length):(lk l i)[t]?=Á (if t<i then pr l t else l.getD t 0):=by simp[lk,dW h]
theorem am5(l:List Nat):lk l 0=l:=by refine dP λt=> ?_;grind [M7,Jl]
theorem am6(l:List Nat)(i:Nat)(h:i<l.length):(lk l i).set i (pr l i)=lk l (i+1):=by refine dP λt=> ?_;grind [M7,Jl,ý]
theorem am7(l:List Nat):lk l (l.length/2)=pU l++l.drop (l.length/2):=by
 refine dP λt=> ?_;have b:(pU l).length=l.length/2:=by simp[pU]
 by_cases a:t<l.length;rw[M7 _ _ t a];by_cases q:t<l.length/2;rw[if_pos q,eR Z];simp[pU,dW q];grind;grind [Jl,ä,List.length_drop]
def am8(l:List Nat)(t:Nat):pr l t<18446744073709551616:=by rw[<-aaf];exact am4 _ _
def FW{l:List Nat}{N:Nat}(a:0<N)(h:∀x∈l,x<N)(t:Nat):l.getD t 0<N:=by
 rw[Ĕ];cases e:l[t]? with|none=>exact a|some x=>exact h x<|eU e
def TB(l:List Nat):wL (pU l):=FW Z λx a=>by unfold pU at a;obtain⟨t,_,rfl⟩:=cI.1 a;exact am8 l t
def pV:Nat->List Nat->Nat|0,l=>l.getD 0 0|k+1,l=>pV k<|pU l
def TC(l:List Nat)(i x:Nat):j5 (l.set i x)=(j5 l).set i (Æ Ë x):=by simp[j5,List.map_set]
theorem Jm(l:List Nat)(i x:Nat)(h:l[i]?=Á x):(j5 l)[i]?=Á (Æ Ë x):=by simp[j5,h]
def aag:É->Nat|È _ n _=>n|_=>0
def aah{cp:Nat}{l:List Nat}{junk:List É}(m:l.length=2^k)(s:l.length<=16)(z:l.length<=cp)(o:wL l)(a:fy b (j5 l++junk) T w): Ù À 146 #[È (Á ⟨b,0,Ã⟩) l.length cp] w λe B=>e=Ì (Æ Ë<|pV k l)/\fw (λi=>i=b) w B:=by
 have H:=fv<|Ä m<|Ä s<|Ä z<|Ä o a;clear m s z o a;generalize N:pV k l=r;have O:=fv N;clear N;generalize P:l.length=n;go_enter Tryz.func146,Tryz.ntmps146;go_wp2;go_loopw [0] (λx wr=>∃(k:Nat)(l:List Nat)(junk:List É),x=È (Á ⟨b,0,Ã⟩) l.length cp/\l.length=2^k/\l.length<=16/\l.length<=cp/\wL l/\fw (λk=>k=b) w wr/\fy b (j5 l++junk) T wr/\pV k l=r) λx _=>aag x
 case atStart=>exact⟨k,l,junk,by rw[P],H.1,H.2.1,H.2.2.1,H.2.2.2.1,fw.gy _ _,H.2.2.2.2,O⟩
 case round=>
  clear H O P l junk;obtain⟨k,l,junk,rfl,m,s,z,o,g,a,C⟩:=hrel;obtain⟨D,rfl⟩:∃D,D=wr:=⟨_,U⟩;cases k with
  |zero=>
   have Y:D.cell? ⟨b,0,Ã⟩=Á (Æ Ë<|l.getD 0 0):=a.r 0 _ (by rw[eR (by simp[j5];omega)];exact Jm _ _ _<|by rw[Ĕ,fe Z];rfl);rw[show l.getD 0 0=r from C]at Y;rw[m];have HK:=fv g;clear g a o m C s;go_wp2;go_ret;exact⟨U,HK⟩|succ k=>
   have Q:2*2^k=l.length:=by rw[m,bL];omega
   have F:0<2^k:=Nat.pow_pos Z;have S:(pU l).length=2^k:=by rw[pU,dw,bY];omega
   have G:=am7 l;rw[show l.length/2=2^k by omega]at G;have c:=fv<|Ä S<|Ä g<|Ä C<|Ä a<|Ä o G;clear g C o a S m G;obtain⟨d,I⟩:∃d,d=2^k:=⟨_,U⟩;rw[<-I]at c Q F;obtain⟨j,J⟩:∃j,l.length=j:=⟨_,U⟩;have u:=fv<|Ä I J;rw[J]at Q s z|-;clear I J;have e2:(j:Int).tdiv 2=(d:Int):=by rw[dM Z];omega
   have e3:(0:Int)<=(d:Int):=Z;have e4:(d:Int)<=(cp:Int):=Z;go_wp2_with fail;rw[show decide ((1:Int)<(j:Int))=Ñ from decide_eq_true Z];go_loopw [12] (λy V=>∃i:Nat,i<=d/\y=Æ Í i/\fw (λk=>k=b) D V/\fy b (j5 (lk l i)++junk) T V) λy _=>d-(ď y).toNat
   case atStart=>exact⟨0,eD _,U,fw.gy _ _,by rw[am5];exact c.2.2.2.1⟩
   case round=>
    obtain⟨i,hi,rfl,g,a⟩:=hrel;by_cases he:i=d
    .subst he;have v:=fv<|Ä g a;clear g a;go_wp2;go_roundw
     case rel=>
      refine⟨k,pU l,j5 (l.drop i)++junk,by rw[c.oQ.1],c.1.trans u.1,by rw[c.oQ.1];omega,by rw[c.oQ.1];omega,TB l,c.2.1.fA v.1,?_,c.2.2.1⟩;have q:=v.2;rw[c.oQ.2.2.2.2.2]at q;rw[<-dL];simpa[j5]using q
     case measure=>simp[aag];omega
    .have iu:i<d:=Z;have E:=λt (h1:i<=t) (h3:t<j)=>
      a.r t _<|by rw[eR (by simp[j5,Jl,u.oQ.2];omega)];exact Jm _ _ _<|by rw[M7 l i t (by rwa[u.oQ.2]),if_neg Z]
     have c0:=E i Z Z;have c1:=E (2*i) Z Z;have c2:=E (2*i+1) Z Z;have f0:=a.I i;have K:=a.fR i<|Æ Ë<|pr l i;rw[ei _ _ (by simp[j5,Jl,u.oQ.2];omega),<-TC,am6 l i (by rw[u.oQ.2];omega)]at K;have F:=c.2.2.2.2.1<|2*i;have hq:=c.2.2.2.2.1<|2*i+1;have L:=aaf l i;have v:=fv<|Ä g K;clear g a K E;generalize l.getD (2*i) 0=p at*;generalize l.getD (2*i+1) 0=q at*;generalize l.getD i 0=v0 at*;unfold M6 at L;have e0:(0:Int)<=(i:Int):=Z;have e1:(i:Int)<(d:Int):=Z;have e2:(2:Int)*(i:Int)+1<(j:Int):=Z;have t1:((2:Int)*(i:Int)).toNat=2*i:=Z;have t2:((2:Int)*(i:Int)+1).toNat=2*i+1:=Z;have FX:Í.wrap (2*(i:Int))=2*(i:Int):=Ja Z Z;have W:Í.wrap (2*(i:Int)+1)=2*(i:Int)+1:=Ja Z Z;have b1:(0:Int)<=2*(i:Int):=Z;have b2:2*(i:Int)<(j:Int):=Z;have b3:(0:Int)<=2*(i:Int)+1:=Z;have b4:(i:Int)<(j:Int):=Z;have HZ:=fv L;clear L;go_wp2_with fail;have f:=fv<|Ä c1 c2;refine mI (λB=>B.cell? ⟨b,2*i,Ã⟩=Á (Æ Ë p)/\B.cell? ⟨b,2*i+1,Ã⟩=Á (Æ Ë q)) [16] fK ?_;iterate 7 apply tk f
     apply tk f 8;apply tk f 9;apply tk f 10;apply tk f 11;apply tk f 12;apply tk f 13;refine nN 7 ?_;refine nV (Jk 14695981039346656037 p Z F _) λM W=> ?_;subst M;refine⟨λ_=>f,?_⟩;refine nN 14 ?_;refine nV (Jk (oK 14695981039346656037 p) q (DK _ _ Z) hq _) λM W=> ?_;subst M;refine⟨λ_=>f,?_⟩;refine tk f 15 ?_;refine jM 16 (λq=>absurd fD q) ?_;refine ma ?_;go_wp2;go_roundw
     case rel=>exact⟨i+1,iu,by go_num,(v.1.fA<|fw.I (X:=λk=>k=b) U _).fA<|fw.gM _ _,by rw[HZ.oQ];exact v.2.C (fw.gM fB _) id⟩
     case measure=>simp[ď];omega
def am9:À.underlying 109=Á (.array 16 23):=fK
def ana{p:Int}(w:Î)(c:i<16)(e:d[i]?=Á (Æ Ë p)):(Œ 109 (ê d)<|Æ Í (i:Int)).run À w=Η (Æ Ë p) w:=by have a:(0:Int)<=(i:Int):=Z;have b:(i:Int)<16:=Z;simp[Œ,run_underlying am9,asIntOf,go_sem,a,b];go_simp
def lf(x:Nat):Nat:=oK 14695981039346656037 x
theorem BB(x:Nat):lf x<18446744073709551616:=DK _ _ Z
def aai(x:Nat):oK 14695981039346656037 x=lf x:=by unfold lf;exact φ _
def pj(l:List Nat)(i:Nat):List Nat:=(Þ 16).map λt=>if t<i then lf (l.getD t 0)else 0
theorem FY(l:List Nat)(i:Nat):(pj l i).length=16:=by simp[pj]
theorem TD(l:List Nat)(i t:Nat)(h:t<16):(pj l i)[t]?=Á (if t<i then lf (l.getD t 0)else 0):=by simp[pj,dW h]
theorem anb(l:List Nat)(i:Nat)(h:i<16):(pj l i).set i (lf<|l.getD i 0)=pj l (i+1):=by refine dP λt=> ?_;grind [TD,FY,ý]
def aaj(l:List Nat):wL (pj l 16):=FW Z λx a=>by unfold pj at a;obtain⟨t,_,rfl⟩:=cI.1 a;split;exact BB _;omega
def su(n:Nat)(l:List UInt8):Nat:=l.foldl (λn c=>tb n c.toNat) n
def anc{c:UInt8}(w:Î)(a:B.data.toList[i]?=Á c):(Œ 9 (Ø B)<|Æ Í (i:Int)).run À w=Η (Æ .u8 (c.toNat:Nat)) w:=by
 have e:(0:Int)<=(i:Int):=Z;let⟨b,d⟩:=eP.1 a;have f:i<B.size:=fN b
 have g:B[i]=c:=by rw[<-d];exact(cH _).symm
 go_simp
abbrev zA:List É:=[Æ Ë 0,Æ Ë 0,Æ Ë 0,Æ Ë 0,Æ Ë 0,Æ Ë 0,Æ Ë 0,Æ Ë 0,Æ Ë 0,Æ Ë 0,Æ Ë 0,Æ Ë 0,Æ Ë 0,Æ Ë 0,Æ Ë 0,Æ Ë 0]
def Jn(B:Nat)(P:ByteArray)(a:List Nat):Nat:=su (oK (lf B)<|pV 4<|pj a 16) P.data.toList
def M8:∀(k:Nat)(l:List Nat),wL l->pV k l<18446744073709551616|0,_,h=>h 0|k+1,l,_=>M8 k (pU l)<|TB l
def ane:(À.underlying 109).map ă=Á Ñ:=fK
def anf:(À.info? 109).map (·.size)=Á 16:=fK
def ang(l:List Nat):j5 (pj l 0)=zA:=by rfl
def sw{b:Array ĕ}{x:ą}(T:ç)(_:o.op=ρ T x)(h:Š P b vJ (o::fX) y w):Š P b vJ (o::fX) y w:=h
theorem anh{P:ByteArray}(a:j9<18446744073709551616)(hP:P.size<=1000000)(hl:jJ.length=16)(F:wL jJ)(r:w.cell? ⟨m,J,Ã⟩=Á (Æ Ë j9))(G:w.cell? ⟨m,J+1,Ã⟩=Á (Ø P))(I:∀(j x:Nat),jJ[j]?=Á x->w.cell? ⟨m,J+2+j,Ã⟩=Á (Æ Ë x)): Ù À 145 #[Â<|Á ⟨m,J,Ã⟩] w λe d=>e=Ì (Æ Ë<|Jn j9 P jJ)/\fw fB w d:=by
 let⟨dd,K,L⟩:=Ð.1 ane;have c:=ß w _ r;have M:w.rangeAt m (J+2) (j5 jJ):=λj v u=>by rw[j5,dN]at u;obtain⟨x,h1,rfl⟩:=Ð.1 u;exact I j x h1
 have N:∀j,j<16->(j5 jJ).toArray[j]?=Á (Æ Ë<|jJ.getD j 0):=λj O=>by grind [Jm]
 have Q:∀W,fy w.heap.size (j5<|pj jJ 16) 109 W->Ù À 146 #[È (Á ⟨w.heap.size,0,Ã⟩) 16 16] W λe d=>e=Ì (Æ Ë<|pV 4<|pj jJ 16)/\fw (λi=>i=w.heap.size) W d:=λW hW=>by have t:=aah (w:=W) (b:=w.heap.size) (cp:=16) (k:=4) (T:=109) (l:=pj jJ 16) (junk:=[]) (by rw[FY]) (by rw[FY];omega) (by rw[FY];omega) (aaj jJ) (by rwa[ep]);rwa[FY]at t
 have S:=M8 4 (pj jJ 16)<|aaj jJ;unfold Jn;generalize pV 4 (pj jJ 16)=t at*;have V:∀W,Ù À 161 #[Æ Ë 14695981039346656037,Æ Ë j9] W λe d=>e=Ì (Æ Ë<|lf j9)/\d=W:=λW=>by rw[<-aai];exact Jk 14695981039346656037 j9 Z a W
 have Y:∀W,Ù À 161 #[Æ Ë<|lf j9,Æ Ë t] W λe d=>e=Ì (Æ Ë<|oK (lf j9) t)/\d=W:=λW=>Jk (lf j9) t (BB j9) S W;have x6:=DK (lf j9) t<|BB j9;generalize oK (lf j9) t=n2 at*;generalize lf j9=n1 at*;have H:=fv<|Ä r<|Ä G<|Ä Q<|Ä V<|Ä Y<|Ä N F;have s:=fv (Ä M<|Ä K<|Ä L<|anf.trans<|congrArg Á<|show 16=(j5 jJ).length by simp[j5,hl]);clear Q V Y S F r G N K L M I;go_enter Tryz.func145,Tryz.ntmps145;go_wp2_with (apply sw 109 U;refine Č U 109 _ U m (J+2) U (j5 jJ) dd (λj v q=>(fw.gP fB _ _ _).r (s.1 j v q) id) s.2.1 s.2.2.1 s.2.2.2 ?_);go_loopw [12] (λi wr=>∃j:Nat,j<=16/\i=Æ Í j/\fw fB w wr/\fy w.heap.size (j5<|pj jJ j) 109 wr) λi _=>16-(ď i).toNat
 case atStart=>exact⟨0,eD _,U,fw.gP fB w zA.toArray 109,by rw[ang];exact fy.N w zA 109⟩
 case round=>
  obtain⟨j,O,rfl,g,a⟩:=hrel;by_cases y:j=16
  .subst y;have g0:=g.r H.1 id;have HV:=fv<|Ä g a;clear g a;go_wp2_with (first|(go_at_call 146;refine gl (H.2.2.1 _ HV.2) λw2 sN=> ?_;have D:=HV.1.C sN (λi hi q=>by omega);have g1:=D.r H.2.1 id;have HK:=fv D;clear sN D)|(go_at_call 161;with_reducible refine iT (H.oQ.2.2.2.2.1 _) ?_)|(go_at_call 161;refine iT (H.2.2.2.1 _) ?_))
   go_loop [6,35] (λx i=>∃n j:Nat,j<=P.size/\n<18446744073709551616/\x=Æ Ë n/\i=Æ Í j/\su n (P.data.toList.drop j)=su n2 P.data.toList) λ_ i=>P.size-(ď i).toNat
   case atStart=>exact⟨n2,0,eD _,x6,U,U,U⟩
   case round=>
    obtain⟨n,j,O,hn,rfl,rfl,f⟩:=hrel;have jV:P.data.toList.length=P.size:=fD;by_cases y:j=P.size
    .rw[di Z]at f;subst y;have HR:=fv f;clear f;go_wp2;go_ret;exact⟨by rw[<-HR.oQ];rfl,HK⟩
    .have c:j<P.size:=Z;have M9:j<P.data.toList.length:=Z;rw[ö M9]at f;have hix:=λW=>anc W<|fe M9;have Cz:=(P.data.toList[j]).toNat_lt;have T:=λW=>aad n (P.data.toList[j]).toNat hn Z W;have HT:=fv (Ä T<|show su (tb n (P.data.toList[j]).toNat) (P.data.toList.drop<|j+1)=_ from f);clear T f;generalize(P.data.toList[j]).toNat=cn at*;have e0:(0:Int)<=(j:Int):=Z;have e1:(j:Int)<(P.size:Int):=Z;have e2:(P.size:Int)<=1000000:=Z;go_wp2_with (go_at_call 162;refine iT (HT.1 _) ?_);go_round
     case rel=>exact⟨_,j+1,c,Jj _ _,U,by go_num,HT.2⟩
     case measure=>simp[ď];omega
  .have c:j<16:=Z;have hAi:=H.2.2.2.2.2.1 j c;have hix:=λW=>ana W c hAi;have r:=a.r j _ (Jm _ _ _<|by rw[TD jJ j j c,if_neg Z]);have f0:=a.I j;have hp:=H.2.2.2.2.2.2 j;have E:=a.fR j<|Æ Ë<|lf<|jJ.getD j 0;rw[<-TC,anb jJ j c]at E;have C:=λW=>Jk 14695981039346656037 (jJ.getD j 0) Z hp W;rw[aai]at C;generalize lf (jJ.getD j 0)=z at*;generalize jJ.getD j 0=p at*;have HB:=fv (Ä (g.C (fw.I (X:=λk=>k=w.heap.size) (p:=⟨w.heap.size,j,Ã⟩) rfl<|Æ Ë z) λi hi q=>by omega) E);have HC:=fv C;clear g a E hAi C;go_wp2_with (go_at_call 161;refine iT (HC _) ?_);go_roundw
   case rel=>exact⟨j+1,c,by go_num,HB.1,HB.2⟩
   case measure=>simp[ď];omega
abbrev zB:List É:=[Æ Ë 0,Æ Ë 0,Æ Ë 0,Æ Ë 0,Æ Ë 0,Æ Ë 0,Æ Ë 0,Æ Ë 0]
def qI(D:Nat->Nat)(i:Nat):List Nat:=(Þ 8).map λt=>if t<i then D t else 0
theorem FZ(D:Nat->Nat)(i:Nat):(qI D i).length=8:=by simp[qI]
theorem TE(D:Nat->Nat)(i t:Nat)(h:t<8):(qI D i)[t]?=Á (if t<i then D t else 0):=by simp[qI,dW h]
theorem ani(D:Nat->Nat)(i:Nat)(h:i<8):(qI D i).set i (D i)=qI D (i+1):=by refine dP λt=> ?_;grind [TE,FZ,ý]
def aak(b:∀i,D i<18446744073709551616):wL (qI D 8):=FW Z λx a=>by unfold qI at a;obtain⟨t,_,rfl⟩:=cI.1 a;split;exact b _;omega
def anj(D:Nat->Nat):j5 (qI D 0)=zB:=by rfl
def Jo(D:Nat->Nat):Nat:=pV 3<|qI D 8
def ank(s:∀a,D a<18446744073709551616)(C:∀a,a<8->∀W,fw (λk=>k=w.heap.size) (w.alloc<|Ï zB.toArray 107) W->Ù À 145 #[Â<|Á ⟨i,a*18,Ã⟩] W λe b=>e=Ì (Æ Ë<|D a)/\fw fB W b): Ù À 106 #[Â<|Á ⟨i,0,Ã⟩] w λe b=>e=Ì (Æ Ë<|Jo D)/\fw fB w b:=by
 have T:∀W,fy w.heap.size (j5<|qI D 8) 107 W->Ù À 146 #[È (Á ⟨w.heap.size,0,Ã⟩) 8 8] W λe b=>e=Ì (Æ Ë<|pV 3<|qI D 8)/\fw (λa=>a=w.heap.size) W b:=λW u=>by have t:=aah (cp:=8) (k:=3) (by rw[FZ]) (by rw[FZ];omega) (by rw[FZ];omega) (aak s) (by rwa[ep]);rwa[FZ]at t
 unfold Jo;have H:=fv<|Ä C T;clear C T;generalize pV 3 (qI D 8)=t at*;go_enter Tryz.func106,Tryz.ntmps106;go_wp2;go_loopw [5] (λx wr=>∃a:Nat,a<=8/\x=Æ Í a/\fw (λk=>k=w.heap.size) (w.alloc<|Ï zB.toArray 107) wr/\fy w.heap.size (j5<|qI D a) 107 wr) λx _=>8-(ď x).toNat
 case atStart=>exact⟨0,eD _,U,fw.gy _ _,by rw[anj];exact fy.N w zB 107⟩
 case round=>
  obtain⟨a,m,rfl,d,f⟩:=hrel;by_cases v:a=8
  .subst v;have n:=(fw.gP fB w zB.toArray 107).C d λa m q=>by omega
   have o:=fv<|Ä n f;clear n f d;go_wp2_with (go_at_call 146;refine gl (H.2 _ o.2) λy p=> ?_;have r:=o.1.C p (λa m q=>by omega);have g:=fv r;clear p r);go_ret;exact⟨U,g⟩
  .have j:a<8:=Z;have c:=fv<|Ä d f;clear d f;go_wp2_with (go_at_call 145;refine gl (H.1 a j _ c.1) λz l=> ?_;have B:=(c.2.C l id).r a _<|Jm _ _ _<|TE D a a j;have E:=(c.2.C l id).I a;have g:=fv l;clear l);go_roundw
   case rel=>exact⟨a+1,j,by go_num,(c.1.fA<|g.fG λ_ _=>Ĉ).fA (fw.I (X:=λk=>k=w.heap.size) U _),by rw[<-ani D a j,TC];exact(c.2.C g id).fR a<|Æ Ë<|D a⟩
   case measure=>simp[ď];omega
def wM(a:I5):List Nat:=(Þ 16).map λj=>(a.r j).toNat
def BD(a:I5):Nat:=Jn a.fC.toNat a.C<|wM a
def BE(s:St):Nat:=Jo λi=>BD<|s i
theorem aal(l:List UInt8):∀n,n<18446744073709551616->su n l<18446744073709551616:=by
 induction l with|nil=>exact λn h=>h|cons c r h=>exact λn _=>h _<|Jj _ _
theorem TF(B:Nat)(P:ByteArray)(a:List Nat):Jn B P a<18446744073709551616:=by unfold Jn;grind [aal,DK,BB]
def TG(s:St)(h:i<144):(iU s)[i]?=Á (si s i):=by simp[iU,dW h]
def qH.anl{s:St}(m:qH n s h W)(a:ic s)(i:Nat)(f:i<8): Ù À 145 #[Â<|Á ⟨n,i*18,Ã⟩] W λe b=>e=Ì (Æ Ë<|BD<|s i)/\fw fB W b:=by
 have g:=λj d=>by have:=m.C j _<|TG s d;simpa using this
 have b:=a.fC i;have k:=g (i*18) Z;have l:=g (i*18+1) Z;rw[<-sU s (È Ã 0 0) Z,I7 _ _ f]at k;rw[<-sU s (È Ã 0 0) Z,ML _ _ f]at l;refine anh (by have e:=b.1;have c:=b.2;omega) (by have:=(a.I i).1;omega) (by simp[wM]) ?_ ?_ l ?_;refine FW Z λx e=> ?_;unfold wM at e;obtain⟨t,_,rfl⟩:=cI.1 e;have c:=(a.C i t).2;omega;rw[k];rw[jW,dc b.1];intro j x e;have d:j<16:=by have:=(eP.1 e).1;simpa[wM]using this
 have c:=g (i*18+2+j) Z;rw[<-sU s (È Ã 0 0) Z,MN _ _ f d]at c;have t:((s i).r j).toNat=x:=by simpa[wM,dW d]using e
 rw[c,<-t];rw[jW,dc (a.C i j).1]
def anm{s:St}(b:qH i s h w)(c:ic s): Ù À 106 #[Â<|Á ⟨i,0,Ã⟩] w λe d=>e=Ì (Æ Ë<|BE s)/\fw fB w d:=ank (λa=>TF _ _ _) λa f W k=>((b.r (fw.gP fB w _ _) id).r k<|by show i≠w.heap.size;exact Nat.ne_of_lt<|ß w _ b.h).anl c a f
def kg(i:Nat):St:=λj=>⟨if j<i then 1000 else 0,⟨#[]⟩,λ_=>0⟩
theorem aam(i:Nat):kg (i+1)=(kg i).fC i 1000:=by funext j;unfold kg St.fC St.fR;grind
def ano(s:St)(a:i<8)(x:Int):(iU s).set (i*18) (Æ Ë x)=iU (s.fC i x):=by have h:=B_ s (È Ã 0 0) a x;rw[By,By,ei _ _ (by rw[tW];omega)]at h;exact List.append_cancel_right h
def anp(s:St)(a:i<8):(iU s)[i*18]?=Á (Æ Ë (s i).fC):=by rw[TG s Z,<-sU s (È Ã 0 0) Z,I7 _ _ a];rfl
def anq:(À.info? 132).map (λi=>(i.size,i.zero.map λz=>z.cells.toList))=Á (144,Á<|iU<|kg 0):=fK
def anr(s:St):∀v∈iU s,v.oneCell'=Ñ:=λv a=>Tp s (lv:=È Ã 0 0) U v<|by rw[By];exact ī _ a
def ant(w:Î):Ù À 44 #[] w λe F=>e=Ì (ê (iU<|kg 8).toArray)/\fw fB w F:=by
 let⟨G,n,o⟩:=Ð.1 Tz;let⟨O,f,p⟩:=Ð.1 anq;simp only[dJ]at p;let⟨r,t⟩:=p;let⟨I,u,v⟩:=Ð.1 t;have y:I.cells=(iU<|kg 0).toArray:=by rw[<-v]
 have z:∀s,(À.info? 132).map (·.size)=Á (iU s).length:=λs=>by rw[f,tW];simp[r]
 have g:=fw.gP fB (w.alloc<|Ï (iU<|kg 0).toArray 132) (iU<|kg 0).toArray 132;have B:=(fy.N w (iU<|kg 0) 132).C g id;have C:fy (w.heap.size+1) (iU<|kg 0) 132 ((w.alloc<|Ï (iU<|kg 0).toArray 132).alloc<|Ï (iU<|kg 0).toArray 132):=by have:=fy.N (w.alloc<|Ï (iU<|kg 0).toArray 132) (iU<|kg 0) 132;simpa using this
 have a:=fv<|Ä n<|Ä o<|Ä f<|Ä u<|Ä y z;have H:=fv<|Ä ((fw.gP fB w (iU<|kg 0).toArray 132).fA g)<|Ä B C;clear g B C n o f r t u v y z;go_enter Tryz.func44,Tryz.ntmps44;go_wp2_with (first|(with_reducible refine Ą U (Á 0) U _ _ (FM U a.oQ.2.2.1 a.oQ.2.2.2.1) ?_;rw[a.oQ.2.2.2.2.1])|(with_reducible refine Ą U (Á 1) U _ _ (FM U a.oQ.2.2.1 a.oQ.2.2.2.1) ?_;rw[a.oQ.2.2.2.2.1]))
 generalize(w.alloc<|Ï (iU<|kg 0).toArray 132).alloc (Ï (iU<|kg 0).toArray 132)=wa at*;go_loopw [3] (λx wr=>∃i:Nat,i<=8/\x=Æ Í i/\fw (λk=>k=w.heap.size+1) wa wr/\fy (w.heap.size+1) (iU<|kg i) 132 wr) λx _=>8-(ď x).toNat
 case atStart=>exact⟨0,eD _,U,fw.gy _ _,H.2.2⟩
 case round=>
  obtain⟨i,D,rfl,c,b⟩:=hrel;by_cases j:i<8
  .have P:=b.r _ _<|anp (kg i) j;have Q:=b.I<|i*18;have l:=b.fR (i*18)<|Æ Ë 1000;rw[ano _ j,<-aam]at l;have E:=fv<|Ä c l;clear c b l;go_wp2;go_roundw
   case rel=>exact⟨i+1,j,by go_num,E.1.fA (fw.I (X:=λk=>k=w.heap.size+1) U _),E.2⟩
   case measure=>simp[ď];omega
  obtain rfl:i=8:=Z;have m:=H.2.1.C c Z;have J:=fy.Y (by rw[ep];exact b);have K:wr.there w.heap.size 0 (iU<|kg 8).toArray.size:=m.K (by simp[tW]);have L:=x7 (iU<|kg 8) [] [] wr (iU<|kg 0) (by rw[tW,tW]) (by simpa using m);have M:=(H.1.C c λi D q=>by omega).C (uX (iU<|kg 8) 0 wr m.S) λi D q=>by omega
  have d:=fv<|Ä M<|Ä L<|Ä J K;go_wp2_with (first|(with_reducible refine Č U 132 _ U (w.heap.size+1) 0 U (iU<|kg 8) G d.oQ.2.2.1 a.oQ.1 a.oQ.2.1 (a.oQ.2.2.2.2.2 _) ?_)|(with_reducible refine Ě U 132 _ _ U w.heap.size 0 (iU (kg 8)).toArray U U d.oQ.2.2.2 (by rw[a.oQ.2.2.2.2.2 (kg 8)];simp) (Ď (anr _)) ?_))
  have N:fy w.heap.size (iU (kg 8)++[]) 132 (wr.setCells w.heap.size 0<|iU<|kg 8):=by simpa using d.2.1
  refine ï (M4 U U (fy.Y N) a.1 a.2.1<|a.2.2.2.2.2 _) U<|⟨U,d.1⟩
structure gf where
 s:St
 C:List (Nat×Int)
 r:List (Int×Bool)
 h:Int
def BF(a:Û)(k:Nat)(d:List É)(w:Î):Prop:=
 ∃p c,w.cell? a=Á (È p k c)/\∀(j:Nat)(x:É),d[j]?=Á x->∃b o,p=Á ⟨b,o,Ã⟩/\w.cell? ⟨b,o+j,Ã⟩=Á x
def BF.r(h:BF a k l w)(q:fw fB w u):BF a k l u:=by let⟨p,c,d,e⟩:=h;exact⟨p,c,q.r d id,λj x f=>by let⟨b,o,g,i⟩:=e j x f;exact⟨b,o,g,q.r i id⟩⟩
structure tX(b:Nat)(v:gf)(w:Î):Prop where
 r:qH b v.s v.h w
 C:ic v.s
 I:0<=v.h
 M:v.h<=40
 N:BF ⟨b,144,Ã⟩ v.C.length (je v.C) w
 S:BF ⟨b,146,Ã⟩ v.r.length (yb v.r) w
def tX.Y{v:gf}(h:tX b v w)(q:fw fB w u):tX b v u:=⟨h.r.r q id,h.C,h.I,h.M,h.N.r q,h.S.r q⟩
structure sV(bp:Option Û)(n:Nat)(vs:List (Nat×gf))(w:Î):Prop where
 r:n=vs.length
 C:∀(j b:Nat)(v:gf),vs[j]?=Á (b,v)->∃sb so,bp=Á ⟨sb,so,Ã⟩/\w.cell? ⟨sb,so+j,Ã⟩=Á (Â<|Á ⟨b,0,Ã⟩)/\tX b v w
def sV.I{a:List (Nat×gf)}(h:sV O n a w)(q:fw fB w u):sV O n a u:=⟨h.r,λj b v e=>by let⟨c,d,f,g,i⟩:=h.C j b v e;exact⟨c,d,f,q.r g id,i.Y q⟩⟩
def zC(a b:Nat×gf):Nat×gf:=if a.2.h<b.2.h then b else a
def wN(d:Nat×gf)(a:List (Nat×gf)):Nat×gf:=a.foldl zC d
def anu{cp:Nat}{a:List (Nat×gf)}{d:Nat×gf}(m:sV O n a w)(F:n<=1000)(o:a[0]?=Á d): Ù À 137 #[È O n cp] w λe C=>e=Ì (Â<|Á ⟨(wN d a).1,0,Ã⟩)/\fw fB w C:=by
 obtain⟨G,H,rfl,k,c⟩:=m.C 0 d.1 d.2 o;have I:0<n:=by rw[m.r];exact(eP.1 o).1
 generalize x:wN d a=r;have q:=fv m;clear m;simp only[dm]at k;go_enter Tryz.func137,Tryz.ntmps137;go_wp2;go_loopw [3,11] (λp i wr=>∃(j:Nat)(e:Nat×gf),j<=n/\fw fB w wr/\tX e.1 e.2 w/\wN e (a.drop j)=r/\p=Â (Á ⟨e.1,0,Ã⟩)/\i=Æ Í j) λ_ i _=>n-(ď i).toNat
 case atStart=>exact⟨0,d,eD _,fw.gy _ _,c,x,U,U⟩
 case round=>
  obtain⟨j,⟨D,y⟩,J,f,s,l,rfl,rfl⟩:=hrel;clear x k c o;by_cases t:j<n
  .obtain⟨⟨b,v⟩,u⟩:∃p,a[j]?=Á p:=⟨_,fe<|by rwa[<-q.oQ.r]⟩;let⟨K,L,E,k,c⟩:=q.C j b v u;cases E;let⟨z,e⟩:=eP.1 u;rw[ö z,e]at l;have M:=f.r k id;have N:=f.r c.r.h id;have P:=f.r s.r.h id;have g:=fv<|Ä l<|Ä f<|Ä c s;clear l f c s k u e z;by_cases B:y.h<v.h;all_goals
    go_wp2
    go_quiet (fail)
    go_wp2_with fail
   exact⟨⟨j+1,(b,v),t,g.2.1.fA<|fw.iQ _ _ _,g.2.2.1,by rw[<-g.oQ.1];simp[wN,zC,B],U,by go_num⟩,by simp[ď];omega⟩;exact⟨⟨j+1,(D,y),t,g.2.1.fA<|fw.iQ _ _ _,g.2.2.2,by rw[<-g.oQ.1];simp only[wN,zC,List.foldl,if_neg<|Int.not_lt.2 B],U,by go_num⟩,by simp[ď];omega⟩
  .rw[di (by rw[<-q.oQ.r];omega)]at l;obtain rfl:j=n:=Z;subst l;go_wp2;go_ret;exact⟨U,f⟩
def pn(a:List (Nat×gf))(b:Int):Option (Nat×gf):=
 if b=-1 then(a[0]?).map λd=>wN d a else a[b.toNat]?
def vd(b:Option Nat):É:=Â<|b.map λb=>⟨b,0,Ã⟩
section
variable{cp:Nat}{a:List (Nat×gf)}
def Na(f:sV O n a w)(j:n<=1000)(l:0<n)(c:Int)(o:-1<=c): Ù À 97 #[È O n cp,Æ Í c] w λe b=>e=Ì (vd ((pn a c).map (·.1)))/\fw fB w b:=by
 by_cases i:c=-1
 .subst i;obtain⟨d,b⟩:∃d,a[0]?=Á d:=⟨_,fe<|by rwa[<-f.r]⟩;have e:pn a (-1)=Á (wN d a):=by rw[pn,if_pos U,b];rfl
  rw[e];go_enter œ,ŉ;go_wp2_with (go_at_call 137;refine(fv<|anu (cp:=cp) f j b).oQ.mono ?_;rintro e k ⟨rfl,g⟩);go_ret;exact⟨U,g⟩
 .obtain⟨k,rfl⟩:∃k:Nat,c=k:=⟨c.toNat,Z⟩;have e:pn a (k:Int)=a[k]?:=by rw[pn,if_neg i,dO]
  rw[e];by_cases g:k<n
  .obtain⟨⟨b,v⟩,d⟩:∃p,a[k]?=Á p:=⟨_,fe<|by rwa[<-f.r]⟩;let⟨q,r,m,s,t⟩:=f.C k b v d;rw[d];subst m;go_enter œ,ŉ;go_wp2;go_ret;exact⟨U,fw.gy _ _⟩
  rw[(da<|by rw[<-f.r];omega)];go_enter œ,ŉ;go_wp2;go_ret;exact⟨U,fw.gy _ _⟩
end
theorem aan(a:List (Nat×gf)):∀(l:List (Nat×gf))(d:Nat×gf),d∈a->(∀x∈l,x∈a)->wN d l∈a|[],d,hd,_=>hd|x::l,d,hd,hl=>by show wN (zC d x) l∈a;refine aan a l _ ?_ λy b=>hl y<|fi _ b;unfold zC;split;exact hl x eZ;exact hd
theorem Jp{a:List (Nat×gf)}{p:Nat×gf}(h:pn a c=Á p):p∈a:=by unfold pn at h;grind [Ð,aan,List.mem_of_getElem]
def sV.M{a:List (Nat×gf)}(h:sV O n a w){p:Nat×gf}(b:p∈a):tX p.1 p.2 w:=by let⟨j,c⟩:=ek b;let⟨_,_,_,_,d⟩:=h.C j p.1 p.2 c;exact d
theorem aao(c:w.cell? ⟨b,i,Ã⟩=Á v)(h:w.ownsRow 0 e j v n l):BF ⟨b,i,Ã⟩ n l w:=by obtain⟨rfl,rfl⟩|⟨g,f,k,rfl,_,m,_,_,_,o⟩:=h.2;have d:=Ü (by simpa using h.1);subst d;exact⟨Ã,0,c,λa x q=>by simp at q⟩;refine⟨_,_,c,λa x q=>⟨g,0,U,?_⟩⟩;have:=h.cells U a x q;grind [Α]
def NX.anv{s:St}{us:List (Int×Bool)}(x:NX i h v z s gJ us u w)(b:ic s)(c:0<=h)(d:h<=40):tX i ⟨s,gJ,us,h⟩ w:=by have a:fy i (jY s v++[Æ Í h,z]) 139 w:=x.r;refine⟨⟨?_,a.r 145 _<|by rw[eT (by rw[oh];omega),oh];rfl⟩,b,c,d,aao x.r.wE x.C,aao x.H x.I⟩;rw[By,dL]at a;exact a.Y
def anw:(À.info? 128).map iF=Á (Á<|Â Ã,1,8):=fK
def anx{p:Array ĕ}(B:o.guard=Ã)(s x:ą)(t:ç)(C:o.op=š {callee:=.builtin .append,args:=#[s,x],argTypes:=#[t,t]})(D:P.underlying t=Á (.slice e))(E:P.info? e=Á zJ)(F:zJ.zero=Á z)(r:zJ.size=1)(G:zJ.bytes=8)(g k n:Nat)(b:List É)(H:b.length=n)(I:∀j v,b[j]?=Á v->w.cell? ((⟨g,k,Ã⟩:Û).add j)=Á v)(J:y.eval s=È (Á ⟨g,k,Ã⟩) n n)(l:Nat)(v:É)(L:y.eval x=È (Á ⟨l,0,Ã⟩) 1 1)(M:∀j u,[v][j]?=Á u->w.cell? ((⟨l,0,Ã⟩:Û).add j)=Á u)(W:n<=1000)(N:my e=Ò)(h:∀c f,n+1<=c->fw fB w f->(∃m:Array É,f.heap[w.heap.size]?=Á (Ï m e (0,0))/\0<m.size/\∀u∈m.toList,u∈b\/u=v\/u∈z.cells.toList)->(∀j u,(b++[v])[j]?=Á u->f.cell? ⟨w.heap.size,0+j,Ã⟩=Á u)->Š P p vJ fX (y.put o.dst<|È (Á ⟨w.heap.size,0,Ã⟩) (n+1) c) f):Š P p vJ (o::fX) y w:=by refine ŵ B λK O=> ?_;have S:=Ŗ w t o.type e zJ z D E F ⟨g,k,Ã⟩ n n b (by rw[H,r];omega) I ⟨l,0,Ã⟩ 1 1 [v] (by rw[r];rfl) M Z Z (Ş Z<|by rw[G];omega);unfold ğ ô;simp only[C,ų,Κ,Ρ,ĝ,Ŷ,Ė,eJ,dR,dG,J,L,S];refine O _ _ (h _ _ (ő w (n+1) n e) ((fw.gM _ _).fA<|fw.gP _ _ _ _<|Ç N) ⟨_,æ w.drew _,by simp;omega,λu d=>by simp only[cL,dx]at d;obtain(q|q)|q:=d;exact Ç q;exact Ê<|Ç<|fN q;exact Ê<|Ê<|SX q⟩ λj u d=> ?_);have T:(w.drew.alloc<|Ï (b.toArray++[v].toArray++è z.cells (Ī w (n+1) n e-(n+1))) e).heap[w.heap.size]?=_:=æ w.drew _;simp only[ã,T,eW,Ā,if_false,dQ];have V:=(eP.1 d).1;rw[Array.getElem?_append_left<|fN V];simpa using d
def ve(v:É)(T:ç)(w:Î):Prop:=v=È Ã 0 0\/∃g n c a,v=È (Á ⟨g,0,Ã⟩) n c/\w.heap[g]?=Á (Ï a T (0,0))
def ve.I(h:w.ownsRow 0 T i v n l):ve v T w:=by obtain⟨q,_⟩|⟨g,a,b,c,_,d,_⟩:=h.2;exact Ç q;exact Ê ⟨g,_,a,b,c,d⟩
def ve.C(h:ve v T w)(k:fw fB w u):ve v T u:=by obtain q|⟨g,n,c,b,d,a⟩:=h;exact Ç q;refine Ê ⟨g,n,c,b,d,?_⟩;rwa[k.N g (fp.1 a).1 id]
def tY(a:List (Nat×gf)):List É:=a.map λp=>Â<|Á ⟨p.1,0,Ã⟩
structure TH(vs:List (Nat×gf))(B:Nat)(w w':Î)(g:Nat):Prop where
 C:w.heap.size<=g
 r:∃cur:Array É,w'.heap[g]?=Á (Ï cur 128 (0,0))/\0<cur.size/\∀u∈cur.toList,u∈tY vs\/u=Â (Á ⟨B,0,Ã⟩)\/u=Â Ã
structure TJ(B:Nat)(s:St)(h:Int)(w w':Î):Prop where
 C:w.heap.size<=B
 r:∃lv uv,fy B (jY s lv++[Æ Í h,uv]) 139 w'/\ve lv 250 w'/\ve uv 239 w'/\(∀j,lv.ownBlock=Á j->w.heap.size<=j)/\∀j,uv.ownBlock=Á j->w.heap.size<=j
section
variable{bp:Option Û}{cp:Nat}{vs:List (Nat×gf)}
def anz(a b:Nat)(d:n<=1000)(f:n<=cp):Ù À 139 #[È (Á ⟨a,b,Ã⟩) n cp] w λe c=>e=Ì (È (Á ⟨a,b,Ã⟩) n n)/\c=w:=by go_enter Tryz.func139,Tryz.ntmps139;go_wp2;go_ret;exact⟨U,U⟩
def anB(b:sV bp n vs w)(f:n<=1000)(l:0<n)(m:n<=cp)(B:Nat): Ù À 100 #[È bp n cp,Â<|Á ⟨B,0,Ã⟩] w λe a=>∃g c,e=Ì (È (Á ⟨g,0,Ã⟩) (n+1) c)/\n+1<=c/\fw fB w a/\TH vs B w a g/\∀j u,(tY vs++[Â<|Á ⟨B,0,Ã⟩])[j]?=Á u->a.cell? ⟨g,0+j,Ã⟩=Á u:=by
 let⟨I,r,s,t,x⟩:=ć anw;obtain⟨d,y⟩:∃d,vs[0]?=Á d:=⟨_,fe<|by rwa[<-b.r]⟩;let⟨e,g,i,_,_⟩:=b.C 0 d.1 d.2 y;have z:∀(o:Obj)(j:Nat)(v:É),(tY vs)[j]?=Á v->(w.alloc o).cell? ((⟨e,g,Ã⟩:Û).add j)=Á v:=λo j v q=>by rw[tY,dN]at q;obtain⟨p,C,rfl⟩:=Ð.1 q;let⟨D,E,H,k,_⟩:=b.C j p.1 p.2 C;rw[i]at H;cases H;rwa[Α,World.cell?_alloc_lt _ _ _<|ß w _ k]
 have H:=fv (Ä z<|Ä r<|Ä s<|Ä t<|Ä x<|show(tY vs).length=n by rw[tY,dw];exact b.r.symm);subst i;go_enter Tryz.func100,Tryz.ntmps100;go_wp2_with (first|(go_at_call 139;refine gl (anz e g f m) λa k=> ?_;subst a)|(at_builtin;apply anx U _ _ 56 U Tryz.underlying56 H.2.1 H.2.2.1 H.2.2.2.1 H.2.2.2.2.1 e g n (tY vs) H.2.2.2.2.2 (H.1 _) U w.heap.size (Â (Á ⟨B,0,Ã⟩)) U (Ÿ _ _ _) f A;intro c D a k p C))
 go_ret;refine⟨_,_,U,a,(fw.gP _ _ _ _).fA k,⟨fD,by let⟨c,D,E,F⟩:=p;exact⟨c,fN D,E,λu G=>(F u G).elim Ç λq=>q.elim (λq=>Ê<|Ç q) λq=>Ê<|Ê<|by simpa[ó]using q⟩⟩,λj u q=>by have:=C j u q;simpa using this⟩
end
structure DL(r:Nat)(v:Int)(x:Nat)(bp:Option Û)(n cp:Nat)(w:Î):Prop where
 M:w.cell? ⟨r,0,Ã⟩=Á (Æ Í x)
 N:w.cell? ⟨r,5,Ã⟩=Á (Æ Í v)
 I:w.cell? ⟨r,8,Ã⟩=Á (È bp n cp)
def DL.C{r:Nat}{cp:Nat}(h:DL r c i O n cp w)(k:fw fB w u):DL r c i O n cp u:=⟨k.r h.M id,k.r h.N id,k.r h.I id⟩
def sW(a:List (Nat×gf))(v:Int)(x:Nat)(b:List Tx):Option gf×ByteArray:=
 match pn a v with
 |none=>(Ã,pK 3)
 |some p=>if a.length=40 then(Ã,pK 4)else match o9 x p.2.s b with|none=>(Ã,pK 5)|some r=>(Á ⟨r.1,r.2.1,r.2.2,p.2.h+1⟩,pg a.length)
def Nb(c:É)(d:List (Nat×gf))(w:Î):Prop:=∃a n b,c=È a n b/\n<=b/\sV a n d w
def TK(f:List (Nat×gf))(i:É)(w:Î)(o:Option gf×ByteArray)(e:ŝ)(a:Î):Prop:=
 fw fB w a/\((o.1=Ã/\e=Ì (Ý #[i,Ø o.2]))\/∃v b d,o.1=Á v/\e=Ì (Ý #[d,Ø o.2])/\Nb d (f++[(b,v)]) a/\TJ b v.s v.h w a/\∃g n c,d=È (Á ⟨g,0,Ã⟩) n c/\TH f b w a g)
def anC{c:List (Nat×gf)}{v:gf}(e:sV O n c w)(f:tX j v w)(h:∀a u,(tY c++[Â<|Á ⟨j,0,Ã⟩])[a]?=Á u->w.cell? ⟨i,0+a,Ã⟩=Á u):sV (Á ⟨i,0,Ã⟩) (n+1) (c++[(j,v)]) w:=by
 refine⟨by rw[e.r];simp,λa b u q=>⟨i,0,U,?_,?_⟩⟩;apply h a _;have:tY c++[Â<|Á ⟨j,0,Ã⟩]=tY (c++[(j,v)]):=by simp[tY]
 rw[this];rw[tY,dN,q];rfl;obtain d|d:=ey a c.length;rw[eR d]at q;let⟨_,_,_,_,k⟩:=e.C a b u q;exact k;rw[eT d]at q;have k:a-c.length=0:=by have:=(eP.1 q).1;simp at this;omega
 rw[k]at q;cases q;exact f
def anD{e:ŝ}(a:FU h W Ã e u)(k:fw fB w W):e=Ì (Â Ã)/\fw fB w u:=by obtain⟨_,b,c⟩|⟨_,_,_,_,_,_,q,_⟩:=a;exact⟨b,k.fA c⟩;cases q
def anE{e:ŝ}{s:St}{us:List (Int×Bool)}(a:FU h W (Á (s,gJ,us)) e u)(g:0<=h)(i:h<40)(k:fw fB w W):∃B,e=Ì (Â<|Á ⟨B,0,Ã⟩)/\fw fB w u/\tX B ⟨s,gJ,us,h+1⟩ u/\TJ B s (h+1) w u:=by obtain⟨q,_⟩|⟨l,m,n,B,b,c,q,d,x,f⟩:=a;cases q;cases q;exact⟨B,d,k.fA x.M,x.anv f Z Z,Ó k.M x.N,b,c,x.r,ve.I x.C,ve.I x.I,λj q=>Ó k.M<|x.S j q,λj q=>Ó k.M<|x.Y j q⟩
section
variable{bp:Option Û}{cp r x:Nat}{v:Int}{vs:List (Nat×gf)}{f:List (Nat×Tx)}
def anF{p:Nat×gf}(F:Ù À 97 #[È bp n cp,Æ Í v] w λe a=>e=Ì (vd<|Á p.1)/\fw fB w a)(f:DL r v x O b i w)(m:((n:Int)==40)=Ò)(N:∀W,fw fB w W->Ù À 99 #[Â<|Á ⟨p.1,0,Ã⟩,Æ Í x,È O b i] W (FU p.2.h W Ã)): Ù À 50 #[È bp n cp,Â<|Á ⟨r,0,Ã⟩] w (TK vs (È bp n cp) w (Ã,pK 5)):=by
 have o:=f.N;have H:=fv<|Ä F<|Ä N f;go_enter į,Ģ;go_wp2_with (go_at_call 97;refine gl H.1 λd c=> ?_;dsimp only[vd,Ĺ]);have g:=fv<|Ä ((H.2.2.C c).C<|fw.gM fB _).M ((H.2.2.C c).C<|fw.gM fB _).I;go_region_held3 (λa=>a.cell? ⟨r,0,Ã⟩=Á (Æ Í x)/\a.cell? ⟨r,8,Ã⟩=Á (È O b i)) (first|exact g.oQ|exact j) (first|(go_at_call 99;refine(H.2.1 _ (c.fA kp)).mono ?_;rintro e k l;obtain⟨rfl,d⟩:e=Ì (Â Ã)/\fw fB w k:=anD l (c.fA kp);dsimp only;have j:=fv (Ä (H.2.2.C d).M (H.2.2.C d).I)))
 go_wp2_with (first|(go_at_call 98;refine gl (FV 5 A _) λa c=> ?_;subst a))
 go_ret2;exact⟨d,Ç ⟨U,U⟩⟩
def anG{p:Nat×gf}{f:St}(g:sV bp n vs w)(M:n<=40)(m:0<n)(o:n<=cp)(q:0<=p.2.h)(s:p.2.h<40)(F:Ù À 97 #[È bp n cp,Æ Í v] w λe a=>e=Ì (vd<|Á p.1)/\fw fB w a)(j:DL r v x O b i w)(P:((n:Int)==40)=Ò)(N:∀W,fw fB w W->Ù À 99 #[Â<|Á ⟨p.1,0,Ã⟩,Æ Í x,È O b i] W (FU p.2.h W<|Á (f,gJ,bJ))): Ù À 50 #[È bp n cp,Â<|Á ⟨r,0,Ã⟩] w (TK vs (È bp n cp) w (Á ⟨f,gJ,bJ,p.2.h+1⟩,pg vs.length)):=by
 have Q:=j.N;rw[<-g.r];have H:=fv<|Ä F<|Ä N<|Ä j g;go_enter į,Ģ;go_wp2_with (go_at_call 97;refine gl H.1 λl d=> ?_;dsimp only[vd,Ĺ]);have t:=fv<|Ä ((H.2.2.1.C d).C<|fw.gM fB _).M ((H.2.2.1.C d).C<|fw.gM fB _).I;go_region_held3 (λa=>a.cell? ⟨r,0,Ã⟩=Á (Æ Í x)/\a.cell? ⟨r,8,Ã⟩=Á (È O b i)) (first|exact t.oQ|exact l) (first|(go_at_call 99;refine(H.2.1 _ (d.fA kp)).mono ?_;rintro e z u;obtain⟨B,rfl,c,y,k⟩:=anE (w:=w) u q s (d.fA kp);dsimp only;have l:=fv (Ä (H.2.2.1.C c).M (H.2.2.1.C c).I)))
 have W:=anB (H.2.2.2.I c) Z m o B;have u:=fv W;go_wp2_with (first|(go_at_call 100;apply u.mono;rintro e D ⟨E,G,rfl,z,d,l,C⟩)|(go_at_call 101;refine gl (aac n Z _) λa D=> ?_;subst a))
 go_ret2;refine⟨c.fA d,Ê ⟨_,B,_,U,U,⟨_,_,_,U,z,?_⟩,⟨k.C,by let⟨D,E,G,I,J,K,L⟩:=k.r;exact⟨D,E,G.C d id,I.C d,J.C d,K,L⟩⟩,_,_,_,U,Ó c.M l.C,l.r⟩⟩;exact anC ((H.2.2.2.I c).I d) (y.Y d) C
def anH(a:sV bp n vs w)(B:n<=40)(g:0<n)(C:n<=cp)(o:∀p∈vs,p.2.h<40)(d:DL r v x O b i w)(t:FT O b f w)(D:b<=1000)(u:lr w)(E:x<8)(y:-1<=v): Ù À 50 #[È bp n cp,Â<|Á ⟨r,0,Ã⟩] w (TK vs (È bp n cp) w<|sW vs v x<|ov f):=by
 have K:=d.N;unfold sW;cases e:pn vs v with
 |none=>
  have F:=Na (cp:=cp) a Z g v y;rw[e]at F;have H:=fv F;go_enter į,Ģ;go_wp2_with (first|(go_at_call 97;refine gl H λG q=> ?_;dsimp only[vd,Ĺ])|(go_at_call 98;refine gl (FV 3 A _) λj I=> ?_;subst j))
  go_ret2;exact⟨q,Ç ⟨U,U⟩⟩|some p=>
  have l:=Jp e;have c:=a.M l;have F:=Na (cp:=cp) a Z g v y;rw[e]at F;have N:∀W,fw fB w W->Ù À 99 #[Â<|Á ⟨p.1,0,Ã⟩,Æ Í x,È O b i] W (FU p.2.h W<|o9 x p.2.s<|ov f):=λW k=>
   amX (c.r.r k id) c.I (by have:=c.M;omega) c.C (t.I k) (u.r k id) D E
  have J:=a.r;by_cases z:n=40
  .simp only;rw[if_pos Z];have H:=fv F;clear F N a d t u o c e l J;have m:((n:Int)==40)=Ñ:=by rw[z];rfl
   clear z;go_enter į,Ģ;go_wp2_with (first|(go_at_call 97;refine gl H λG q=> ?_;dsimp only[vd,Ĺ])|(go_at_call 98;refine gl (FV 4 A _) λj I=> ?_;subst j))
   go_ret2;exact⟨q,Ç ⟨U,U⟩⟩
  simp only;rw[if_neg Z];have m:((n:Int)==40)=Ò:=by rw[beq_eq_false_iff_ne];omega
  have G:=o p l;have H:=c.I;cases j:o9 x p.2.s (ov f)with
  |none=>
   rw[j]at N;exact anF F d m N|some q=>
   let⟨I,L,M⟩:=q;rw[j]at N;exact anG a B g C H G F d m N
end
theorem anI(h:l.length=145):À.built 139 [(0,ê l.toArray)]=Á (l++[Æ Í 0,È Ã 0 0]).toArray:=by let⟨z,d,a,b,c⟩:=Ji U_ V_ A;rw[DJ W_ a,c];have:=zy (place:=λi=>[(0,145),(145,1),(146,1)].toArray[i]?) (pre:=[]) (suf:=[Æ Í 0,È Ã 0 0]) (i:=0) (v:=ê l.toArray) (rest:=[]) U (by show l.toArray.size=145;simp[h]) b;simpa[ē,ó]using this
theorem anJ(a:o.op=ř 139 #[(0,qQ)])(b:xX qQ=ê l.toArray)(c:l.length=145):(ô xX o).run À w=Η (ė<|ê (l++[Æ Í 0,È Ã 0 0]).toArray) w:=by grind [zz,anI]
def kh:gf:=⟨kg 8,[],[],0⟩
def aap:ic (kg 8):=by refine⟨λi=> ?_,λi j=>⟨cK _,show(0:Int)<18446744073709551616 by decide⟩,λi=>⟨show(0:Nat)<=40 by decide,λc a=>by cases a⟩⟩;show gL (if i<8 then 1000 else 0);split<;>exact⟨A,A⟩
theorem anK{s:St}(b:ic s)(h:fy i (iU s++[È Ã 0 0]++[Æ Í 0,È Ã 0 0]) 139 w):tX i ⟨s,[],[],0⟩ w:=by have c:=tW s;refine⟨⟨λj v d=> ?_,?_⟩,b,cK _,show(0:Int)<=40 by decide,?_,?_⟩;rw[dQ];apply h.r j v;grind;apply h.r 145 _;simp_all;refine⟨Ã,0,h.r 144 _ ?_,λj x a=>by cases a⟩;grind;refine⟨Ã,0,h.r 146 _ ?_,λj x a=>by cases a⟩;simp_all
end gO
end Go.Proofs.Y
