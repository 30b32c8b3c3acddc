import Derived.Test.YtgpphkdoanciiaaGreatDoorWAB
import Derived.Conc.AppendWalk
import Derived.Conc.TokenWalk
set_option linter.all false
set_option maxRecDepth 1000000
set_option maxHeartbeats 8000000
open Go.Value renaming pointer->À,slice->Æ,int->É,oneCell'->Ú,string->á,chan->ê,tuple->ñ,func->ď,agg->Ě,bool->ĭ,cells->Ε
open Option renaming none->Á,some->Â,isSome_iff_exists->Ö,map_eq_some_iff->Ī,isSome_none->Ľ,getD_some->ő
open Or renaming inl->Ã,inr->Ç
open Go.Proofs.Tryz renaming prog->Ä,t155->Ċ,f46->ģ,t9->ĩ,func47->į,underlying101->ŀ,type155->Ň,underlying85->ň,underlying25->ŉ,f52->ũ,t101->Ŵ,func167->ż,func63->ž,func48->ſ,func49->Α,func50->Β,func51->Γ,func46->Δ,func52->Ζ,f167->ε,f49->ι,f63->κ,f47->ν
open Go renaming undef->Å,Value->Ð,World->Þ,Goroutine->à,events_store->â,Addr->ã,Oper->å,Frame->ç,getD_set_ne->é,deafBehind->Đ,execOp->đ,Program->Ġ,Code->ġ,Operand->Į,FuncId->ł,maxLen->Ŧ,size_madeCells->Ŭ,callFunc->ŭ,Act->Ů,Item->ů,yielded->Ź,TypeId->Ž,runNT->Η,Obj->Θ,Trace->Μ,TypeInfo->Ν,Event->Ξ,resolve->Ο,Loc->ξ
open Nat renaming lt_of_lt_of_le->È,le_trans->Ø,le_refl->Û,add_sub_cancel->ú,zero_le->ĉ,zero_add->Ė,mod_lt->Ł,lt_succ_of_lt->Ń,le_of_lt->Ō,reduceAdd->ű,sub_zero->ź,sub_self->Ż
open Go.Obj renaming cells->Ê,chan->Ũ
open Go.Conc.Goes renaming stop->Ë
open Go.Ground renaming phase->Ì,data->Õ,textOnly->Ý,gcOnly->ø,chain->Ÿ
open Bool renaming false->Í,true->Ó,false_eq_true->ĝ,or_eq_true_iff->ĵ
open Go.IntKind renaming i64->Î,u64->ì,u32->û,wrap_i64->Χ
open Go.Item renaming inRegion->Ï,inBlock->ï,code->ö,inLoop->ā
open Go.Departure renaming lateStores->Ñ
open Go.Operand renaming tmp->Ò,const->ò,func->ċ
open Option.some renaming inj->Ô
open Go.World renaming cell?->Ù,frozen?->ð,setCell->Ą,alloc->Ŗ
open Go.Region renaming ready->Ü,Mode->ă,wanted->ğ
open Go.Code renaming region->ß,block->Ħ,cond->ŗ,skip->Ř,exit->ř,ret->ς
open List renaming range->ä,mem_range->ù,range_succ->ą,mem_filter->Ć,filter_append->ć,flatMap_cons->Č,setIfInBounds_toArray->Ĝ,getElem?_eq_some_iff->Ğ,length_filter_le->Ĭ,mem_of_getElem?->İ,getElem?_of_mem->ı,flatMap_append->Ĵ,set_cons_succ->ľ,set_cons_zero->Ŀ,size_toArray->ņ,length_cons->Œ,nodup_range->Ŕ,all_eq_true->ŕ,length_nil->Ŝ
open Array renaming getElem?_eq_some_iff->æ,getElem?_eq_getElem->è,getElem?_modify->î,getD_eq_getD_getElem?->ė,all_toList->Ĥ
open Go.Op renaming fieldAddr->ë,move->ý,load->č,call->Ď,nilCheck->ĕ,assign->ĳ,binOp->ń,operands->Ś,extract->Š,indexAddr->š,makeFunc->ų,store->ŷ
open Go.Region.linearise renaming go->í
open Go.MemAct renaming ofEvent->ó
open Go.Extern.Bytes renaming loadBytes->ô,bytesOf->ÿ,asByte->Ă
open Go.Extern.BytealgIndexByte renaming indexByte->õ
open Go.Callee renaming value->ü,builtin->ŧ
open Go.Fn renaming func->þ
open Go.Loc renaming cell->Ā
open Go.Frame renaming enter->Ĉ,finish_at->ī
open Go.Instr renaming build->Ē,makeSlice->ş
open Go.GoStatus renaming running->ē,finished->ŵ
open Go.Conc renaming mem_ofEvents->Ĕ,mem_listed->ě,seen_none->Ĳ,crowd->Ķ,stepG_region->Ņ,events_call_body->ŏ,stepG_semrelease->Ő,deafBehind_still->œ,listed->Ū,handedOver_app->ū,stepG_seq->Ų,stepG_comm->Λ
open Go.ConcR.Gen renaming x_semrelease_b->Ę,x_enable_n->Ĺ,x_enable_b->ĺ,x_enable_x->Ļ,x_enable_f->ļ,x_semrelease_n->ţ,x_semrelease_x->Ť,x_semrelease_f->ť,mayWake_entry->Ű,nm_add->Κ
open Go.Act renaming eval->ę,put->π
open Go.Deferred renaming ofValue->Ģ
open Go.CallKind renaming normal->ĥ,early->Ι
open Go.Mark renaming enable->ħ
open Go.Addr renaming add_lit->Ĩ
open Eq renaming trans->Ŋ
open Go.Sem renaming run_bind->ō,events_bind->Ş,run->φ
variable{i n j b k m J j9 j7 j6:Nat}{w u W jX:Þ}{v x z jQ:Ð}{g:à}{a p:ã}{h c:Int}{e t T:Ž}{d q:Array Ð}{P:Ġ}{y:Ů}{B:ByteArray}{X:Nat->Prop}{O:Option ã}{l:List Ð}{yQ:Bool}{K H:Ů->Þ->Prop}{o:å}{D:Nat->Nat}{E:Array à}{L:List ů}{jJ:List Nat}{qX:List ç}{qQ:Į}{qJ:Μ}{zX:ξ->Prop}{zQ:List Int}{zJ:Ν}{xX:Į->Ð}{xQ:Go.Tape}{xJ:Nat×Nat}{wX:ġ}{wQ:Go.MemOp}{wJ:Array Bool}{vX:List ByteArray}{vQ:Ð->Þ->Prop}{vJ:Go.Exit->Ů->Þ->Prop}{yX:ă}{Q:Array å}{f:ç}{V:Array Ξ}{F:ł}{s:Go.Func}
namespace Go.Proofs.Y.fK
open Go Go.Conc Go.Proofs.Y.Lift Go.RowKit Go.Conc.Lib Go.ConcR.Gen
open Go.Proofs Go.Proofs.YtgpphkdoanciiaaGreatDoor
def Le:å:=⟨Â 13,ë 155 (Ò 5) 3,0, "work.go:57",#[],Á⟩
def Ig:å:=⟨Â 14,č 86<|Ò 13,86, "work.go:57",#[⟨0,Õ⟩],Á⟩
def Lf:å:=⟨Â 15,ý<|Ò 1,25, "work.go:57",#[{on:=18,ground:=ø Ñ}],Á⟩
def Lg:å:=⟨Â 16,ë 155 (Ò 5) 1,0, "work.go:57",#[{on:=18,ground:=ø Ñ}],Á⟩
def Ih:å:=⟨Â 17,č 3<|Ò 16,3, "work.go:57",#[⟨3,Õ⟩,{on:=18,ground:=ø Ñ}],Á⟩
def Lh:å:=⟨Â 18,ë 155 (Ò 5) 2,0, "work.go:57",#[],Á⟩
def Ii:å:=⟨Â 19,č 86<|Ò 18,86, "work.go:57",#[⟨5,Õ⟩],Á⟩
def Ij:å:=⟨Â 20,ĕ<|Ò 19,0, "work.go:57",#[⟨6,Õ⟩],Á⟩
def Ik:å:=⟨Â 21,ë 105 (Ò 20) 1,0, "work.go:57",#[⟨7,Õ⟩],Á⟩
def Il:å:=⟨Â 22,č 65<|Ò 21,65, "work.go:57",#[⟨8,Õ⟩],Á⟩
def Li:å:=⟨Â 23,ë 155 (Ò 5) 0,0, "work.go:57",#[],Á⟩
def Im:å:=⟨Â 24,č 148<|Ò 23,148, "work.go:57",#[⟨10,Õ⟩],Á⟩
def FE:å:=⟨Â 25,Ď {callee:=ü<|ċ 66,args:=#[Ò 22,Ò 24],argTypes:=#[65,148]},163, "work.go:57",#[⟨9,Õ⟩,⟨11,Õ⟩],Á⟩
def zH:å:=⟨Â 12,ý<|Ò 25,163, "work.go:57",#[⟨12,Õ⟩],Á⟩
def FF:å:=⟨Â 26,Š (Ò 12) 0,65, "work.go:57",#[⟨13,Õ⟩],Á⟩
def FG:å:=⟨Â 27,Š (Ò 12) 1,9, "work.go:57",#[⟨13,Õ⟩,{on:=18,ground:=ø Ñ}],Á⟩
def Io:å:=⟨Â 28,ĕ<|Ò 14,0, "work.go:57",#[⟨1,Õ⟩,⟨0,Ì⟩,⟨1,Ì⟩,{on:=2,ground:=Ý Ñ},{on:=3,ground:=Ý Ñ},{on:=4,ground:=Ý Ñ},⟨5,Ì⟩,⟨6,Ì⟩,⟨7,Ì⟩,⟨8,Ì⟩,⟨9,Ì⟩,⟨10,Ì⟩,⟨11,Ì⟩,⟨12,Ì⟩,⟨13,Ì⟩,⟨14,Ì⟩,{on:=15,ground:=Ý Ñ}],Á⟩
def Ip:å:=⟨Â 29,ë 105 (Ò 28) 1,0, "work.go:57",#[⟨16,Õ⟩,⟨0,Ì⟩,⟨1,Ì⟩,{on:=2,ground:=Ý Ñ},{on:=3,ground:=Ý Ñ},{on:=4,ground:=Ý Ñ},⟨5,Ì⟩,⟨6,Ì⟩,⟨7,Ì⟩,⟨8,Ì⟩,⟨9,Ì⟩,⟨10,Ì⟩,⟨11,Ì⟩,⟨12,Ì⟩,⟨13,Ì⟩,⟨14,Ì⟩,{on:=15,ground:=Ý Ñ}],Á⟩
def FH:å:=⟨Á,ŷ 65 (Ò 29)<|Ò 26,0, "work.go:57",#[⟨17,Õ⟩,⟨14,Õ⟩,⟨12,Ÿ⟩,⟨0,Ì⟩,⟨1,Ì⟩,{on:=2,ground:=Ý Ñ},{on:=3,ground:=Ý Ñ},{on:=4,ground:=Ý Ñ},⟨5,Ì⟩,⟨6,Ì⟩,⟨7,Ì⟩,⟨8,Ì⟩,⟨9,Ì⟩,⟨10,Ì⟩,⟨11,Ì⟩,⟨12,Ì⟩,⟨13,Ì⟩,⟨14,Ì⟩,{on:=15,ground:=Ý Ñ}],Á⟩
def FI:å:=⟨Â 30,š 25 (Ò 15)<|Ò 17,0, "work.go:57",#[⟨2,Õ⟩,⟨4,Õ⟩,⟨0,Ì⟩,⟨1,Ì⟩,⟨2,Ì⟩,⟨3,Ì⟩,⟨4,Ì⟩,⟨5,Ì⟩,⟨6,Ì⟩,⟨7,Ì⟩,⟨8,Ì⟩,⟨9,Ì⟩,⟨10,Ì⟩,⟨11,Ì⟩,⟨12,Ì⟩,⟨13,Ì⟩,⟨14,Ì⟩,⟨15,Ì⟩,⟨16,Ì⟩,⟨17,Ì⟩,⟨18,Ì⟩],Á⟩
def FJ:å:=⟨Á,ŷ 9 (Ò 30)<|Ò 27,0, "work.go:57",#[⟨19,Õ⟩,⟨15,Õ⟩,⟨18,Ÿ⟩,⟨0,Ì⟩,⟨1,Ì⟩,⟨2,Ì⟩,⟨3,Ì⟩,⟨4,Ì⟩,⟨5,Ì⟩,⟨6,Ì⟩,⟨7,Ì⟩,⟨8,Ì⟩,⟨9,Ì⟩,⟨10,Ì⟩,⟨11,Ì⟩,⟨12,Ì⟩,⟨13,Ì⟩,⟨14,Ì⟩,⟨15,Ì⟩,⟨16,Ì⟩,⟨17,Ì⟩,⟨18,Ì⟩],Á⟩
def Ct:Array å:=#[Le,Ig,Lf,Lg,Ih,Lh,Ii,Ij,Ik,Il,Li,Im,FE,zH,FF,FG,Io,Ip,FH,FI,FJ]
def pD(tb a b c N d:Nat)(e f:Ð)(x:(Option Addr×Nat×Nat)×ByteArray):Nat->Ð
 |0=>À<|Â ⟨tb,3,Á⟩
 |1=>À<|Â ⟨b,0,Á⟩
 |2=>Æ (Â ⟨c,0,Á⟩) N N
 |3=>À<|Â ⟨tb,1,Á⟩
 |4=>É Î d
 |5=>À<|Â ⟨tb,2,Á⟩
 |6=>À<|Â ⟨a,0,Á⟩
 |7=>À<|Â ⟨a,0,Á⟩
 |8=>À<|Â ⟨a,2,Á⟩
 |9=>f
 |10=>À<|Â ⟨tb,0,Á⟩
 |11=>e
 |12=>ñ #[Æ x.1.1 x.1.2.1 x.1.2.2,á x.2]
 |13=>ñ #[Æ x.1.1 x.1.2.1 x.1.2.2,á x.2]
 |14=>Æ x.1.1 x.1.2.1 x.1.2.2
 |15=>á x.2
 |16=>À<|Â ⟨b,0,Á⟩
 |17=>À<|Â ⟨b,2,Á⟩
 |19=>À<|Â ⟨c,d,Á⟩
 |_=>Å
structure Iq(jm:fj)(ga gb an pl:Nat)(xa:Ð)(Q:Ð->ByteArray->fj->Prop)(listed:Array Bool)(x:(Option Addr×Nat×Nat)×ByteArray)(l:fj):Prop where
 gf:jB (λa=>a=⟨gb,2,Á⟩\/a=⟨an,pl,Á⟩) jm l
 zI:listed.getD 12 Í=Ó->∃y,Q (Æ x.1.1 x.1.2.1 x.1.2.2) x.2 y/\(∀b,y.M b->l.M b/\l.w.heap[b]?=y.w.heap[b]?)
 UU:listed.getD 18 Í=Ó->l.w.cell? ⟨gb,2,Á⟩=Â (Æ x.1.1 x.1.2.1 x.1.2.2)
 UW:listed.getD 20 Í=Ó->l.w.cell? ⟨an,pl,Á⟩=Â (á x.2)
def Iq.ft{d l:fj}{Q:Ð->ByteArray->fj->Prop}{listed:Array Bool}{x:(Option Addr×Nat×Nat)×ByteArray}(h:Iq d n j b k v Q listed x l)(m:i≠12)(o:i≠18)(p:i≠20)(e:d.Oc ⟨j,2,Á⟩/\d.Oc ⟨b,k,Á⟩)(w₁:Þ)(r:fU l l.w w₁):Iq d n j b k v Q (listed.setIfInBounds i Ó) x {l with w:=w₁}:=by
 have s:∀a,(a=⟨j,2,Á⟩\/a=⟨b,k,Á⟩)->d.Oc a:=λa t=>by rcases t with rfl|rfl;exact e.1;exact e.2
 refine⟨h.gf.fZ s r,λq=> ?_,λq=> ?_,λq=> ?_⟩
 .rw[é Í m]at q;let⟨y,u,f⟩:=h.zI q;exact⟨y,u,λc g=>⟨(f c g).1,(r.fu c (f c g).1).trans (f c g).2⟩⟩
 .rw[é Í o]at q;exact(r.fg _<|by rw[h.gf.C];exact Ã e.1).trans<|h.UU q
 .rw[é Í p]at q;exact(r.fg _<|by rw[h.gf.C];exact Ã e.2).trans<|h.UW q
section
variable{J:Jd}{jm:fj}{ga gb an pl:Nat}{xa:Ð}{Q:Ð->ByteArray->fj->Prop}{k:List ů}{cs:List ç}
def akt(T:ic jm)(hq:¬jm.q)(ht:d.size=37)(FK:d[1]?=Â (Æ (Â ⟨an,0,Á⟩) i i))(UX:d[5]?=Â (À<|Â ⟨n,0,Á⟩))(hO:jm.O n) (c0:jm.w.cell? ⟨n,0,Á⟩=Â v) (c1:jm.w.cell? ⟨n,1,Á⟩=Â (É Î pl)) (Y:jm.w.cell? ⟨n,2,Á⟩=Â (À<|Â ⟨ga,0,Á⟩)) (c3:jm.w.cell? ⟨n,3,Á⟩=Â (À<|Â ⟨gb,0,Á⟩)) (yo:jm.Rc ⟨ga,2,Á⟩) (pM:jm.w.cell? ⟨ga,2,Á⟩=Â xa) (H:jm.Oc ⟨gb,2,Á⟩) (I:jm.Oc ⟨an,pl,Á⟩) (e1:(jm.w.cell? ⟨gb,2,Á⟩).isSome=Ó) (e2:(jm.w.cell? ⟨an,pl,Á⟩).isSome=Ó) (z1:jm.w.frozen? ⟨gb,2,Á⟩=Í) (z2:jm.w.frozen? ⟨an,pl,Á⟩=Í) (vi:pl<i) (hN:i<1000000) (nD:(⟨gb,2,Á⟩:ã)≠⟨an,pl,Á⟩) (yh:∀l,jB (λa=>a=⟨gb,2,Á⟩\/a=⟨an,pl,Á⟩) jm l->∀J nZ,fA Ä Í (λl' g'=>l'.d=l.d/\∃p g c str,g'=G (J.finish<|ñ #[Æ p g c,á str]) nZ/\Q (Æ p g c) str l') (oB l)<|G (Ĉ Ä 66 #[xa,v] ĥ)<|J::nZ) (md:ă) (listed:Array Bool) (a:Ů) (l:fj) (m:Nat) (rest:List Nat) (hI:II Ct d (pD n ga gb an i pl v xa) (Iq jm ga gb an pl xa Q) listed a l) (E:m∈Ü md Ct listed): fA Ä Í (λl' g'=>∃u,g'=G ((base 49).at u<|Ï Ct rest::k) cs/\II Ct d (pD n ga gb an i pl v xa) (Iq jm ga gb an pl xa Q) (listed.setIfInBounds m Ó) u l') l (G ((base 49).at a<|Ï Ct (m::rest)::k) cs):=by
 let⟨x,t,D⟩:=hI;have L:w7 Ct d.size=Ó:=by rw[ht];decide
 have W:=US E;have iy:=Ie E;have M:=D.gf.fG;have N:¬l.q:=by rwa[D.gf.q]
 have X:∀y:ã,(y=⟨gb,2,Á⟩\/y=⟨an,pl,Á⟩)->jm.Oc y:=λy ha=>by rcases ha with rfl|rfl;exact H;exact I
 have qP:a.tmps[1]?=Â (Æ (Â ⟨an,0,Á⟩) i i):=(t.gd A).trans FK;have vL:a.tmps[5]?=Â (À<|Â ⟨n,0,Á⟩):=(t.gd A).trans UX;have J:∀j s,jm.w.cell? ⟨n,j,Á⟩=Â s->iW l ⟨n,j,Á⟩/\l.w.cell? ⟨n,j,Á⟩=Â s:=λj s h=>⟨Ã<|Ã<|D.gf.O n hO,by rwa[iF<|D.gf.fu n<|Ã hO]⟩;have UY:¬((⟨ga,2,Á⟩:ã)=⟨gb,2,Á⟩\/(⟨ga,2,Á⟩:ã)=⟨an,pl,Á⟩):=λq=>by
  rcases q with q|q
  .exact T.lE _ H<|q▸yo
  .exact T.lE _ I<|q▸yo
 have Lj:iW l ⟨ga,2,Á⟩/\l.w.cell? ⟨ga,2,Á⟩=Â xa:=⟨Ç (Ç<|by rwa[D.gf.Rc]),by rwa[D.gf.fg _ (Ç yo) UY]⟩;have UZ:(pl:Int)<(i:Int):=Z
 have kV:Ct.size=21:=A
 rw[kV]at iy;match m,iy with
 |0,_=>
  refine jk (o:=Le) L t U U E (by k_ne) M N (λB r=> ?_) (λB r e F=> ?_)<|D.ft A A A ⟨H,I⟩
  .simp only[pD,Le];go_simp
  .simp[go_sem,Le,vL]at F
 |1,_=>
  have u:a.tmps[13]?=Â (À<|Â ⟨n,3,Á⟩):=t.fN 0 Le 13 U (jj (o:=Ig) E U U) U;refine jk (o:=Ig) L t U U E (by k_ne) M N (λB r=> ?_) (λB r e F=> ?_)<|D.ft A A A ⟨H,I⟩
  .have K:B.cell? ⟨n,3,Á⟩=Â (À<|Â ⟨gb,0,Á⟩):=((J 3 _ c3).1.fg r).trans (J 3 _ c3).2;simp only[pD,Ig];go_simp
  .have K:B.cell? ⟨n,3,Á⟩=Â (À<|Â ⟨gb,0,Á⟩):=((J 3 _ c3).1.fg r).trans (J 3 _ c3).2;have b:e=⟨Ā ⟨n,3,Á⟩,Í,Í⟩:=by simp[go_sem,Ig,K,u]at F;exact F
   subst b;exact(J 3 _ c3).1.rd
 |2,_=>
  refine jk (o:=Lf) L t U U E (by k_ne) M N (λB r=> ?_) (λB r e F=> ?_)<|D.ft A A A ⟨H,I⟩
  .simp only[pD,Lf];go_simp
  .simp[go_sem,Lf,qP]at F
 |3,_=>
  refine jk (o:=Lg) L t U U E (by k_ne) M N (λB r=> ?_) (λB r e F=> ?_)<|D.ft A A A ⟨H,I⟩
  .simp only[pD,Lg];go_simp
  .simp[go_sem,Lg,vL]at F
 |4,_=>
  have u:a.tmps[16]?=Â (À<|Â ⟨n,1,Á⟩):=t.fN 3 Lg 16 U (jj (o:=Ih) E U U) U;refine jk (o:=Ih) L t U U E (by k_ne) M N (λB r=> ?_) (λB r e F=> ?_)<|D.ft A A A ⟨H,I⟩
  .have K:B.cell? ⟨n,1,Á⟩=Â (É Î pl):=((J 1 _ c1).1.fg r).trans (J 1 _ c1).2;simp only[pD,Ih];go_simp
  .have K:B.cell? ⟨n,1,Á⟩=Â (É Î pl):=((J 1 _ c1).1.fg r).trans (J 1 _ c1).2;have b:e=⟨Ā ⟨n,1,Á⟩,Í,Í⟩:=by simp[go_sem,Ih,K,u]at F;exact F
   subst b;exact(J 1 _ c1).1.rd
 |5,_=>
  refine jk (o:=Lh) L t U U E (by k_ne) M N (λB r=> ?_) (λB r e F=> ?_)<|D.ft A A A ⟨H,I⟩
  .simp only[pD,Lh];go_simp
  .simp[go_sem,Lh,vL]at F
 |6,_=>
  have u:a.tmps[18]?=Â (À<|Â ⟨n,2,Á⟩):=t.fN 5 Lh 18 U (jj (o:=Ii) E U U) U;refine jk (o:=Ii) L t U U E (by k_ne) M N (λB r=> ?_) (λB r e F=> ?_)<|D.ft A A A ⟨H,I⟩
  .have K:B.cell? ⟨n,2,Á⟩=Â (À<|Â ⟨ga,0,Á⟩):=((J 2 _ Y).1.fg r).trans (J 2 _ Y).2;simp only[pD,Ii];go_simp
  .have K:B.cell? ⟨n,2,Á⟩=Â (À<|Â ⟨ga,0,Á⟩):=((J 2 _ Y).1.fg r).trans (J 2 _ Y).2;have b:e=⟨Ā ⟨n,2,Á⟩,Í,Í⟩:=by simp[go_sem,Ii,K,u]at F;exact F
   subst b;exact(J 2 _ Y).1.rd
 |7,_=>
  have u:a.tmps[19]?=Â (À<|Â ⟨ga,0,Á⟩):=t.fN 6 Ii 19 U (jj (o:=Ij) E U U) U;refine jk (o:=Ij) L t U U E (by k_ne) M N (λB r=> ?_) (λB r e F=> ?_)<|D.ft A A A ⟨H,I⟩
  .simp only[pD,Ij];go_simp
  .simp[go_sem,Ij,u]at F
 |8,_=>
  have u:a.tmps[20]?=Â (À<|Â ⟨ga,0,Á⟩):=t.fN 7 Ij 20 U (jj (o:=Ik) E U U) U;refine jk (o:=Ik) L t U U E (by k_ne) M N (λB r=> ?_) (λB r e F=> ?_)<|D.ft A A A ⟨H,I⟩
  .simp only[pD,Ik];go_simp
  .simp[go_sem,Ik,u]at F
 |9,_=>
  have u:a.tmps[21]?=Â (À<|Â ⟨ga,2,Á⟩):=t.fN 8 Ik 21 U (jj (o:=Il) E U U) U;refine jk (o:=Il) L t U U E (by k_ne) M N (λB r=> ?_) (λB r e F=> ?_)<|D.ft A A A ⟨H,I⟩
  .have K:B.cell? ⟨ga,2,Á⟩=Â (xa):=(Lj.1.fg r).trans Lj.2;simp only[pD,Il];go_simp
  .have K:B.cell? ⟨ga,2,Á⟩=Â (xa):=(Lj.1.fg r).trans Lj.2;have b:e=⟨Ā ⟨ga,2,Á⟩,Í,Í⟩:=by simp[go_sem,Il,K,u]at F;exact F
   subst b;exact Lj.1.rd
 |10,_=>
  refine jk (o:=Li) L t U U E (by k_ne) M N (λB r=> ?_) (λB r e F=> ?_)<|D.ft A A A ⟨H,I⟩
  .simp only[pD,Li];go_simp
  .simp[go_sem,Li,vL]at F
 |11,_=>
  have u:a.tmps[23]?=Â (À<|Â ⟨n,0,Á⟩):=t.fN 10 Li 23 U (jj (o:=Im) E U U) U;refine jk (o:=Im) L t U U E (by k_ne) M N (λB r=> ?_) (λB r e F=> ?_)<|D.ft A A A ⟨H,I⟩
  .have K:B.cell? ⟨n,0,Á⟩=Â (v):=((J 0 _ c0).1.fg r).trans (J 0 _ c0).2;simp only[pD,Im];go_simp
  .have K:B.cell? ⟨n,0,Á⟩=Â (v):=((J 0 _ c0).1.fg r).trans (J 0 _ c0).2;have b:e=⟨Ā ⟨n,0,Á⟩,Í,Í⟩:=by simp[go_sem,Im,K,u]at F;exact F
   subst b;exact(J 0 _ c0).1.rd
 |12,_=>
  have U0:a.tmps[22]?=Â (xa):=t.fN 9 Il 22 U (jj (o:=FE) E U U) U;have Po:a.tmps[24]?=Â (v):=t.fN 11 Im 24 U (jj (o:=FE) E U U) U;refine aaN (o:=FE) L t U U E (by k_ne) M (f:=66) (args:=#[xa,v]) (λw=>by simp only[FE];go_simp) (λw=>ŏ (o:=FE) U Tryz.func66 U U #[]) λB r=> ?_;have V:=D.gf.fZ X r;refine((yh _ V _ _).oB<|V.gk T).ft ?_;rintro l' g' ⟨y,⟨hy0,p,g,c,str,rfl,hQ⟩,rfl,hA,hyR,aku,akv⟩;refine⟨((p,g,c),str),U,⟨V.gf X hA hy0,λ_=>⟨y,hQ,λb P=>⟨?_,U⟩⟩,λq=> ?_,λq=> ?_⟩,λj u=> ?_⟩
  .rcases P with q|q
   .exact Ã<|Ã q
   .rw[hyR]at q;exact q.elim (λz=>Ã<|Ç z) Ç
  .rw[é Í A]at q;exact absurd (t.uz (o:=FH) U q U)<|AX W
  .rw[é Í A]at q;exact absurd (t.uz (o:=FJ) U q U)<|AX W
  .match j,u with
   |12,u=>exact absurd u<|AX W
   |13,u=>exact absurd (t.uz (o:=zH) U u U)<|AX W
   |14,u=>exact absurd (t.uz (o:=zH) U (t.uz (j:=13) (o:=FF) U u U) U)<|AX W
   |15,u=>exact absurd (t.uz (o:=zH) U (t.uz (j:=13) (o:=FG) U u U) U)<|AX W
   |0,_|1,_|2,_|3,_|4,_|5,_|6,_|7,_|8,_|9,_|10,_|11,_|16,_|17,_|18,_|19,_|20,_|g+21,_=>rfl
 |13,_=>
  have u:a.tmps[25]?=Â (ñ #[Æ x.1.1 x.1.2.1 x.1.2.2,á x.2]):=t.fN 12 FE 25 U (jj (o:=zH) E U U) U;refine jk (o:=zH) L t U U E (by k_ne) M N (λB r=> ?_) (λB r e F=> ?_)<|D.ft A A A ⟨H,I⟩
  .simp only[pD,zH];go_simp
  .simp[go_sem,zH,u]at F
 |14,_=>
  have u:a.tmps[12]?=Â (ñ #[Æ x.1.1 x.1.2.1 x.1.2.2,á x.2]):=t.fN 13 zH 12 U (jj (o:=FF) E U U) U;refine jk (o:=FF) L t U U E (by k_ne) M N (λB r=> ?_) (λB r e F=> ?_)<|D.ft A A A ⟨H,I⟩
  .simp only[pD,FF];go_simp
  .simp[go_sem,FF,u]at F
 |15,_=>
  have u:a.tmps[12]?=Â (ñ #[Æ x.1.1 x.1.2.1 x.1.2.2,á x.2]):=t.fN 13 zH 12 U (jj (o:=FG) E U U) U;refine jk (o:=FG) L t U U E (by k_ne) M N (λB r=> ?_) (λB r e F=> ?_)<|D.ft A A A ⟨H,I⟩
  .simp only[pD,FG];go_simp
  .simp[go_sem,FG,u]at F
 |16,_=>
  have u:a.tmps[14]?=Â (À<|Â ⟨gb,0,Á⟩):=t.fN 1 Ig 14 U (jj (o:=Io) E U U) U;refine jk (o:=Io) L t U U E (by k_ne) M N (λB r=> ?_) (λB r e F=> ?_)<|D.ft A A A ⟨H,I⟩
  .simp only[pD,Io];go_simp
  .simp[go_sem,Io,u]at F
 |17,_=>
  have u:a.tmps[28]?=Â (À<|Â ⟨gb,0,Á⟩):=t.fN 16 Io 28 U (jj (o:=Ip) E U U) U;refine jk (o:=Ip) L t U U E (by k_ne) M N (λB r=> ?_) (λB r e F=> ?_)<|D.ft A A A ⟨H,I⟩
  .simp only[pD,Ip];go_simp
  .simp[go_sem,Ip,u]at F
 |18,_=>
  have h29:a.tmps[29]?=Â (À<|Â ⟨gb,2,Á⟩):=t.fN 17 Ip 29 U (jj (o:=FH) E U U) U;have U1:a.tmps[26]?=Â (Æ x.1.1 x.1.2.1 x.1.2.2):=t.fN 14 FF 26 U (jj (o:=FH) E U U) U;have V:(l.w.cell? ⟨gb,2,Á⟩).isSome=Ó:=D.gf.rM _ (Ã U) e1;have FL:l.w.frozen? ⟨gb,2,Á⟩=Í:=(D.gf.fC _<|Ã H).trans z1;have nk:tB l ⟨gb,2,Á⟩:=Ç (by rwa[D.gf.Oc]);refine UT (o:=FH) (y:=⟨gb,2,Á⟩) (v:=Æ x.1.1 x.1.2.1 x.1.2.2) L t U U U E (by k_ne) M N U nk V FL (λw K hz=> ?_) (λw K hz=> ?_) λB r=> ?_
  .let⟨u,hu⟩:=Ö.1 K;simp only[FH];go_simp
  .let⟨u,hu⟩:=Ö.1 K;simp[go_sem,FH,h29,U1,â _ _ _ _ _ _ (show Ú (Æ x.1.1 x.1.2.1 x.1.2.2)=Ó from rfl),hu,hz]
  .have hA:=D.gf.iB T X (x:=⟨gb,2,Á⟩) (v:=Æ x.1.1 x.1.2.1 x.1.2.2) (Ã U) U V;refine⟨hA.fZ X ⟨r.fh,r.fu,r.fg,r.fC,r.ia⟩,λq=> ?_,λq=> ?_,λq=> ?_⟩
   .rw[é Í A]at q;let⟨y,y1,z⟩:=D.zI q;refine⟨y,y1,λb P=>⟨(z b P).1,?_⟩⟩;have U2:b≠(⟨gb,2,Á⟩:ã).block:=λe=>(D.gf.gk T).fX ⟨gb,2,Á⟩ (by rw[D.gf.C];exact Ã H)<|e▸(z b P).1;exact(r.fu b (z b P).1).trans<|(nG U2).trans (z b P).2
   .exact(r.fg _ (by rw[D.gf.C];first|exact Ã H|exact Ã I)).trans<|xN (Ö.1 V).choose_spec
   .rw[é Í A]at q;exact(r.fg ⟨an,pl,Á⟩<|by rw[D.gf.C];exact Ã I).trans<|(FD U λe=>nD e.symm).trans<|D.UW q
 |19,_=>
  have h15:a.tmps[15]?=Â (Æ (Â ⟨an,0,Á⟩) i i):=t.fN 2 Lf 15 U (jj (o:=FI) E U U) U;have h17:a.tmps[17]?=Â (É Î pl):=t.fN 4 Ih 17 U (jj (o:=FI) E U U) U;refine jk (o:=FI) L t U U E (by k_ne) M N (λB r=> ?_) (λB r e F=> ?_)<|D.ft A A A ⟨H,I⟩
  .simp only[pD,FI];go_simp
  .simp[go_sem,FI,vi,UZ,h15,h17]at F
 |20,_=>
  have F:a.tmps[30]?=Â (À<|Â ⟨an,pl,Á⟩):=t.fN 19 FI 30 U (jj (o:=FJ) E U U) U;have U3:a.tmps[27]?=Â (á x.2):=t.fN 15 FG 27 U (jj (o:=FJ) E U U) U;have V:(l.w.cell? ⟨an,pl,Á⟩).isSome=Ó:=D.gf.rM _ (Ç U) e2;have FL:l.w.frozen? ⟨an,pl,Á⟩=Í:=(D.gf.fC _<|Ã I).trans z2;have nk:tB l ⟨an,pl,Á⟩:=Ç (by rwa[D.gf.Oc]);refine UT (o:=FJ) (y:=⟨an,pl,Á⟩) (v:=á x.2) L t U U U E (by k_ne) M N U nk V FL (λw K hz=> ?_) (λw K hz=> ?_) λB r=> ?_
  .let⟨u,hu⟩:=Ö.1 K;simp only[FJ];go_simp
  .let⟨u,hu⟩:=Ö.1 K;simp[go_sem,FJ,F,U3,â _ _ _ _ _ _ (show Ú (á x.2)=Ó from rfl),hu,hz]
  .have hA:=D.gf.iB T X (x:=⟨an,pl,Á⟩) (v:=á x.2) (Ç U) U V;refine⟨hA.fZ X ⟨r.fh,r.fu,r.fg,r.fC,r.ia⟩,λq=> ?_,λq=> ?_,λq=> ?_⟩
   .rw[é Í A]at q;let⟨y,y1,z⟩:=D.zI q;refine⟨y,y1,λb P=>⟨(z b P).1,?_⟩⟩;have U2:b≠(⟨an,pl,Á⟩:ã).block:=λe=>(D.gf.gk T).fX ⟨an,pl,Á⟩ (by rw[D.gf.C];exact Ã I)<|e▸(z b P).1;exact(r.fu b (z b P).1).trans<|(nG U2).trans (z b P).2
   .rw[é Í A]at q;exact(r.fg ⟨gb,2,Á⟩<|by rw[D.gf.C];exact Ã H).trans<|(FD U<|nD).trans<|D.UU q
   .exact(r.fg _ (by rw[D.gf.C];first|exact Ã H|exact Ã I)).trans<|xN (Ö.1 V).choose_spec
 |g+21,h=>exact absurd h Z
end
section
variable{E:ã->Prop}{l c g:fj}
def jB.fl(h:jB E l c)(k:jB E c g):jB E l g:=by have f:=h.C;exact⟨λj e=>k.O j<|h.O j e,λj e=>(k.fN j e).elim (h.fN j) λq=>Ç<|Ø h.fh q,k.Rd.trans h.Rd,k.Oc.trans h.Oc,k.Rc.trans h.Rc,k.K.trans h.K,k.q.trans h.q,k.d.trans h.d,k.fG,Ø h.fh k.fh,λj e=>(k.fu j<|h.M e).trans<|h.fu j e,λa b i=>(k.fg a (by rwa[f]) i).trans<|h.fg a b i,λa b=>(k.fC a<|by rwa[f]).trans<|h.fC a b,λa b q=>k.ia a (by rwa[h.K])<|h.ia a b q,λa b q=>k.rM a b<|h.rM a b q⟩
end
def iM(l:fj)(w₁:Þ)(o:Θ):fj:={l with O:=λb=>l.O b\/b=w₁.heap.size,w:=w₁.alloc o}
def Cu{o:Θ}(h:j<w.heap.size):(w.alloc o).heap[j]?=w.heap[j]?:=by unfold Ŗ;rw[Array.getElem?_push_lt h];exact(è h).symm
def qy{o:Θ}:(w.alloc o).heap[w.heap.size]?=Â o:=by unfold Ŗ;simp
def Pp{o:Θ}:(w.alloc o).heap.size=w.heap.size+1:=by unfold Ŗ;simp
section
variable{J:Jd}{l:fj}{k:List ů}{cs:List ç}{ob:Θ}{E:ã->Prop}
def aaQ(b:∀j,l.O j->j<w.heap.size)(c:¬l.q):oO l (iM l w ob) w (w.alloc ob) #[]:= ⟨by rw[Pp];omega,λj h=>h.imp id λe=>by omega,λj h=>by rw[Pp];exact h.elim (λq=>Ń<|b j q) λe=>by omega,U,U,U,U,λj d _ _=>Cu d,λx a _ _=>iF<|Cu a,λx a _=>zv<|Cu a,U,U,U,λe f=>by simp at f,by simp[Đ,iM],U,λq=>absurd q c,U⟩
def Ll(b:Q[i]?=Â o)(c:ğ o (Ź Q y.tmps)=Ó)(d:f.kind≠Ι)(e:lG l)(g:¬l.q) (h:∀w,(đ y.eval o).run P w=.ok (.value<|À<|Â ⟨w.heap.size,0,Á⟩) (w.alloc ob)) (j:∀w,(đ y.eval o).events P w #[]=#[]) (m:∀a,fU l l.w a->fA P yQ J (iM l a ob) (G (f.at (y.put o.dst<|À<|Â ⟨a.heap.size,0,Á⟩)<|Ï Q jJ::k) cs)):fA P yQ J l (G (f.at y<|Ï Q (i::jJ)::k) cs):=by
 refine yl b c d λa r=> ?_;rw[h a];refine⟨_,?_,m a r⟩;have:listed P f.fn y o a=#[]:=by unfold listed;rw[j a,Ĳ]
 rw[this];exact aaQ (oA e r) g
def Pq(s:ic l)(c:∀y,E y->l.Oc y)(r:fU l l.w u):jB E l (iM l u ob):=by
 have b:=r.fh;refine⟨λj h=>Ã h,λj h=>h.imp id λe=>by omega,U,U,U,U,U,U,λj h=> ?_,?_,λj d=> ?_,λx a _=> ?_,λx a=> ?_,λx a q=> ?_,λx a q=> ?_⟩
 .show j<(u.alloc ob).heap.size;rw[Pp];exact h.elim (λq=>Ń<|È (s.fG j<|Ã q) b) λe=>by omega
 .show l.w.heap.size<=(u.alloc ob).heap.size;rw[Pp];omega
 .exact(Cu<|È (s.fG j d) b).trans<|r.fu j d
 .exact(iF<|Cu<|È (s.nK x a) b).trans<|r.fg x a
 .exact(AH<|Cu<|È (s.nK x a) b).trans<|r.fC x a
 .show((u.alloc ob).cell? x).isSome=Ó;rw[iF<|Cu<|È (s.k9 x a).2.1 b];exact r.ia x a q
 .show((u.alloc ob).cell? x).isSome=Ó;rwa[iF<|Cu<|È (s.nK x<|Ã<|c x a) b,r.fg x<|Ã<|c x a]
def Pr{w':Þ}{p:Nat}(g:∀j,l.O j->j<w.heap.size)(i:¬l.q)(b:l.O p)(k:w'.heap.size=w.heap.size)(c:∀j,j≠p->w'.heap[j]?=w.heap[j]?)(d:w'.os=w.os/\w'.output=w.output/\w'.tape=w.tape)(f:∀e∈V,zG l e):oO l {l with w:=w'} w w' V:=by refine⟨Z,λ_ h=>Ã h,λj h=>by rw[k];exact g j h,U,U,U,U,λj _ a _=>c j λe=>a<|e▸b,λx _ a _=>iF (c _ λe=>a<|e▸b),λx _ a=>zv (c _ λe=>a<|e▸b),d.1,d.2.1,d.2.2,λe h=>(f e h).1,(Ld f _).symm,U,λq=>absurd q i,U⟩
end
def jS(w:Þ)(p:Nat)(v0 v1 v2 v3:Ð):Þ:=(((w.setCell ⟨p,0,Á⟩ v0).setCell ⟨p,1,Á⟩ v1).setCell ⟨p,2,Á⟩ v2).setCell ⟨p,3,Á⟩ v3
section
variable{p:Nat}{v0 v1 v2 v3:Ð}
def AY:(jS w p v0 v1 v2 v3).heap.size=w.heap.size:=by unfold jS;rw[ln,ln,ln,ln]
def Cv(h:j≠p):(jS w p v0 v1 v2 v3).heap[j]?=w.heap[j]?:=by unfold jS;rw[nG h,nG h,nG h,nG h]
def U4(c:w.cell? ⟨p,0,Á⟩=Â v)(d:w.cell? ⟨p,1,Á⟩=Â x)(e:w.cell? ⟨p,2,Á⟩=Â z)(f:w.cell? ⟨p,3,Á⟩=Â jQ): (jS w p v0 v1 v2 v3).cell? ⟨p,0,Á⟩=Â v0/\(jS w p v0 v1 v2 v3).cell? ⟨p,1,Á⟩=Â v1/\(jS w p v0 v1 v2 v3).cell? ⟨p,2,Á⟩=Â v2/\(jS w p v0 v1 v2 v3).cell? ⟨p,3,Á⟩=Â v3:=by
 have b:∀(w:Þ) (i j:Nat) (a:Ð),i≠j->(w.setCell ⟨p,i,Á⟩ a).cell? ⟨p,j,Á⟩=w.cell? ⟨p,j,Á⟩:=λw i j a h=>B4<|Ç h;unfold jS;refine⟨?_,?_,?_,?_⟩
 .rw[b _ 3 0 _ A,b _ 2 0 _ A,b _ 1 0 _ A];exact xN c
 .rw[b _ 3 1 _ A,b _ 2 1 _ A];exact xN<|(b _ 0 1 _ A).trans d
 .rw[b _ 3 2 _ A];exact xN<|(b _ 1 2 _ A).trans<|(b _ 0 2 _ A).trans e
 .exact xN<|(b _ 2 3 _ A).trans<|(b _ 1 3 _ A).trans<|(b _ 0 3 _ A).trans f
def U5{E:ã->Prop}{l e:fj}(s:ic l)(f:∀a,E a->l.Oc a)(h:jB E l e){w':Þ}(r:fU e e.w u)(k:l.w.heap.size<=p)(g:w'.heap.size=u.heap.size)(i:∀j,j≠p->w'.heap[j]?=u.heap[j]?):jB E l {e with w:=w'}:=by
 have b:=h.fZ f r;have c:∀{j:Nat},j<l.w.heap.size->w'.heap[j]?=u.heap[j]?:=λ{j} q=>i j Z;refine⟨b.O,b.fN,b.Rd,b.Oc,b.Rc,b.K,b.q,b.d,λj q=> ?_,?_,λj q=> ?_,λa q n=> ?_,λa q=> ?_,λa q z=> ?_,λa q z=> ?_⟩
 .show j<w'.heap.size;rw[g];exact b.fG j q
 .show l.w.heap.size<=w'.heap.size;rw[g];exact b.fh
 .exact(c<|s.fG j q).trans<|b.fu j q
 .exact(iF<|c<|s.nK a q).trans<|b.fg a q n
 .exact(AH<|c<|s.nK a q).trans<|b.fC a q
 .show(w'.cell? a).isSome=Ó;rw[iF<|c (s.k9 a q).2.1];exact b.ia a q z
 .show(w'.cell? a).isSome=Ó;rw[iF<|c<|s.nK a<|Ã<|f a q];exact b.rM a q z
end
def arrU(t:Array Ð)(h:t.size=n):∃u:Nat->Ð,t=((ä n).map u).toArray:=by subst h;refine⟨λi=>t.getD i Å,Array.ext fB λi a _=> ?_⟩;simp[Array.getD,a]
def U6(t:Array Ð)(h:t.size=37):∃a b c d e f g i j k l m n o p q r s u v w x y z B C D E F G H I J K L M N:Ð,t=#[a,b,c,d,e,f,g,i,j,k,l,m,n,o,p,q,r,s,u,v,w,x,y,z,B,C,D,E,F,G,H,I,J,K,L,M,N]:=by obtain⟨_,rfl⟩:=arrU t h;exact⟨_,_,_,_,_,_,_,_,_,_,_,_,_,_,_,_,_,_,_,_,_,_,_,_,_,_,_,_,_,_,_,_,_,_,_,_,_,U⟩
end Go.Proofs.Y.fK
namespace Go.Proofs.Y.fK
open Go Go.Conc Go.Proofs.Y.Lift Go.RowKit Go.Conc.Lib Go.ConcR.Gen
section
variable{Ψ:Þ->Prop}{L:WgLink}{l:fj}{e:Jd}{k:List ů}
def akw(H:WgLib P L)(h:nP Ψ l b)(hT:∀a,SW Ψ l b a->fA P Í e {l with d:=0,w:=a} (G (f.at (y.put ((Q[i]?).bind (·.dst))<|ñ #[])<|Ï Q jJ::k) qX)): ∀(r:Nat) (c:Int) (j m o p q s t u v x z B C D E F I J K M N O T V W X Y qR qS oZ qu qw pV pW pA qL qM rG rH rI rJ rK nQ mH mI mJ pB vB vC vD vE vF vG vH vI vK Ey Ez EA EB EC ED EE EF EG EH EI EJ EK EL EM EN EO EP ER ES EU EV EW EX EY EZ E0 E1 E2 E3 E4 E5 E6 E7 E8 E9 Fa Fb Fc Fe Ff Fg Fh Fi Fj Fl Fo Fp Fq Fs Ft Fu Fv Fw Fy Fz FA FB:Ð) (a:Þ),SW Ψ l b a->(c<=(r:Int)+1/\(r:Int)+1<=c)->r+1<1000000-> fA P Í (KF P Í b (fA P Í e)<|r+1) {l with d:=1,w:=a} (G ((base L.add).at ⟨#[À<|Â ⟨b,0,Á⟩,j,m,o,p,q,s,t,É û c,u,v,x,z,B,C,D,E,F,I,J,K,M,N,O,T,V,W,X,Y,qR,qS,oZ,qu,qw,pV,pW,pA,qL,qM,rG,rH,rI,rJ,rK,nQ,mH,mI,mJ,pB,vB,vC,vD,vE,vF,vG,vH,vI,vK,Ey,Ez,EA,EB,EC,ED,EE,EF,EG,EH,EI,EJ,EK,EL,EM,EN,EO,EP,ER,ES,EU,EV,EW,EX,EY,EZ,E0,E1,E2,E3,E4,E5,E6,E7,E8,E9,Fa,Fb,Fc,Fe,Ff,Fg,Fh,Fi,Fj,Fl,Fo,Fp,Fq,Fs,Ft,Fu,Fv,Fw,Fy,Fz,FA,À<|Â ⟨b,1,Á⟩,FB],[dcall L.enable #[]]⟩ [Ï #[{dst:=Â 113,op:=ý<|Ò 0,type:=L.tWgP,pos:= "waitgroup.go:142",after:=#[],guard:=Á},{dst:=Â 114,op:=ĕ<|Ò 113,type:=0,pos:= "waitgroup.go:142",after:=#[{on:=0,ground:=Õ}],guard:=Á},{dst:=Â 115,op:=ë L.tWg (Ò 114) 2,type:=0,pos:= "waitgroup.go:142",after:=#[{on:=1,ground:=Õ}],guard:=Á},{dst:=Â 116,op:= Ď {callee:=ü<|ċ L.semrelease,args:= #[Ò 115,ò<|ĭ Í,ò<|É Î 0],argTypes:=#[L.tPU32,4,3]},type:=0,pos:= "waitgroup.go:142",after:=#[{on:=2,ground:=Õ}],guard:=Á}] [3],ï 2,ö<|ß 33 #[{dst:=Â 111,op:=ý<|Ò 8,type:=L.tU32,pos:= "waitgroup.go:141",after:=#[],guard:=Á},{dst:=Â 112,op:=ń BinOp.sub L.tU32 (Ò 111) (ò<|É û 1) L.tU32,type:=L.tU32,pos:= "waitgroup.go:141",after:=#[{on:=0,ground:=Õ}],guard:=Á},{dst:=Â 8,op:=ĳ<|Ò 112,type:=L.tU32,pos:= "waitgroup.go:141",after:= #[{on:=1,ground:=Õ},{on:=0,ground:=Ì},{on:=1,ground:=Ì}],guard:=Á}] Í,ā<|((ß 32 #[{dst:=Â 109,op:=ý<|Ò 8,type:=L.tU32,pos:= "waitgroup.go:141",after:=#[],guard:=Á},{dst:=Â 110,op:= ń BinOp.neq L.tU32 (Ò 109) (ò<|É û 0) L.tU32,type:=4,pos:= "waitgroup.go:141",after:=#[{on:=0,ground:=Õ}],guard:=Á}] Í).seq<|ŗ (Ò 110) Ř<|ř 1).seq<|(Ħ 2<|ß 34 #[{dst:=Â 113,op:=ý<|Ò 0,type:=L.tWgP,pos:= "waitgroup.go:142",after:=#[],guard:=Á},{dst:=Â 114,op:=ĕ<|Ò 113,type:=0,pos:= "waitgroup.go:142",after:=#[{on:=0,ground:=Õ}],guard:=Á},{dst:=Â 115,op:=ë L.tWg (Ò 114) 2,type:=0,pos:= "waitgroup.go:142",after:=#[{on:=1,ground:=Õ}],guard:=Á},{dst:=Â 116,op:= Ď {callee:=ü<|ċ L.semrelease,args:= #[Ò 115,ò<|ĭ Í,ò<|É Î 0],argTypes:=#[L.tPU32,4,3]},type:=0,pos:= "waitgroup.go:142",after:=#[{on:=2,ground:=Õ}],guard:=Á}] Í).seq<|ß 33 #[{dst:=Â 111,op:=ý<|Ò 8,type:=L.tU32,pos:= "waitgroup.go:141",after:=#[],guard:=Á},{dst:=Â 112,op:= ń BinOp.sub L.tU32 (Ò 111) (ò<|É û 1) L.tU32,type:=L.tU32,pos:= "waitgroup.go:141",after:=#[{on:=0,ground:=Õ}],guard:=Á},{dst:=Â 8,op:=ĳ<|Ò 112,type:=L.tU32,pos:= "waitgroup.go:141",after:= #[{on:=1,ground:=Õ},{on:=0,ground:=Ì},{on:=1,ground:=Ì}],guard:=Á}] Í,ï 1])<|(base L.done).at {tmps:= #[À<|Â {block:=b,off:=0},Å,À<|Â {block:=b,off:=0},Å],defers:=[]} [Ï #[{dst:=Â 2,op:=ý<|Ò 0,type:=L.tWgP,pos:= "waitgroup.go:156",after:=#[],guard:=Á},{dst:=Â 3,op:= Ď {callee:=ü<|ċ L.add,args:=#[Ò 2,ò<|É Î<|-1],argTypes:=#[L.tWgP,3]},type:=0,pos:= "waitgroup.go:156",after:=#[{on:=0,ground:=Õ}],guard:=Á}] [1]]::f.at y (Ï Q (i::jJ)::k)::qX):=by
 intro r;lib_facts
 induction r with
 |zero=>
  intro c j m o p q s t u v x z B C D E F I J K M N O T V W X Y qR qS oZ qu qw pV pW pA qL qM rG rH rI rJ rK nQ mH mI mJ pB vB vC vD vE vF vG vH vI vK Ey Ez EA EB EC ED EE EF EG EH EI EJ EK EL EM EN EO EP ER ES EU EV EW EX EY EZ E0 E1 E2 E3 E4 E5 E6 E7 E8 E9 Fa Fb Fc Fe Ff Fg Fh Fi Fj Fl Fo Fp Fq Fs Ft Fu Fv Fw Fy Fz FA FB a hF Lc iy;have e1:c=1:=Z
  subst e1;clear Lc iy;refine oY (l:={l with d:=1,w:=a}) h hF λs5 hF=>⟨U,U,Ű U U H.f_semrelease<|Ę L,_,U,λa n hc hf=>(Ő U U (by k_ne) U H.f_semrelease (ţ L) (Ę L) (Ť L) (ť L) (by simp[ę,iP]) hc hf).trans gG,?_⟩;walk_nrm;apply jW (l:={l with d:=1,w:=s5}) h hF (n:=50);iterate 17 w_go fM
  refine Ë λa g=> ?_;replace hF:=fM hF g;clear g;refine vA (l:={l with d:=1,w:=a}) h hF (Ç U) U (λw=>H7 ħ fB U H.f_enable (Ĺ L) (ĺ L) (Ļ L) (ļ L) w) λAZ hF=> ?_;have qt:Đ 1 #[kK ħ]=0:=rfl;rw[qt];apply jW (l:={l with d:=0,w:=AZ}) h hF (n:=10);u_leave0 H.f_add fM hF;iterate 2 w_go fM
  u_leave0 H.f_done fM hF
  refine Ë λa g=> ?_;replace hF:=fM hF g;clear g;exact hT _ hF
 |succ r ih=>
  intro c j m o p q s t u v x z B C D E F I J K M N O T V W X Y qR qS oZ qu qw pV pW pA qL qM rG rH rI rJ rK nQ mH mI mJ pB vB vC vD vE vF vG vH vI vK Ey Ez EA EB EC ED EE EF EG EH EI EJ EK EL EM EN EO EP ER ES EU EV EW EX EY EZ E0 E1 E2 E3 E4 E5 E6 E7 E8 E9 Fa Fb Fc Fe Ff Fg Fh Fi Fj Fl Fo Fp Fq Fs Ft Fu Fv Fw Fy Fz FA FB a hF Lc iy;have g1:(c-1)%4294967296=c-1:=Z
  have g2:(c-1 !=0)=Ó:=by simp;omega
  refine oY (l:={l with d:=1,w:=a}) h hF λs5 hF=>⟨U,U,Ű U U H.f_semrelease<|Ę L,_,U,λa n hc hf=>(Ő U U (by k_ne) U H.f_semrelease (ţ L) (Ę L) (Ť L) (ť L) (by simp[ę,iP]) hc hf).trans gG,?_⟩;walk_nrm;apply jW (l:={l with d:=1,w:=s5}) h hF (n:=50);iterate 22 w_go fM
  refine Ë λa g=> ?_;replace hF:=fM hF g;clear g;exact ih (c-1) _ _ _ _ _ _ _ _ _ _ _ _ _ _ _ _ _ _ _ _ _ _ _ _ _ _ _ _ _ _ _ _ _ _ _ _ _ _ _ _ _ _ _ _ _ _ _ _ _ _ _ _ _ _ _ _ _ _ _ _ _ _ _ _ _ _ _ _ _ _ _ _ _ _ _ _ _ _ _ _ _ _ _ _ _ _ _ _ _ _ _ _ _ _ _ _ _ _ _ _ _ _ _ _ _ _ _ _ _ _ _ _ _ _ a hF Z Z
end
section
variable{Ψ:Þ->Prop}{L:WgLink}{l:fj}{e:Jd}{k:List ů}
def U7(Ψ:Þ->Prop)(l:fj)(b:Nat)(w:Þ):Prop:=SW Ψ l b w/\fU l l.w w
def sC(a:nP Ψ l b)(h:U7 Ψ l b w)(r:fU l w u):U7 Ψ l b u:=⟨fM h.1<|a.rs r,h.2.fl r⟩
def akx{J:Jd}(a:SW Ψ l b l.w)(c:Goes P yQ (fU l) Go.ConcR.DC0 (λd e=>fA P yQ J {l with w:=e} d) n g l.w):fA P yQ J l g:= UM c (λ_ _ r=>r) a.1 λ_ _ _ h=>h
def aky(H:WgLib P L)(τ:fj->fj)(Φ:fj->Prop)(h:nP Ψ l b)(D:SW Ψ l b l.w) (O:∀a,fU l l.w a->Φ {l with w:=a}/\(τ {l with w:=a}).d=0/\∃z:Þ->Prop,nP z (τ {l with w:=a}) b/\SW z (τ {l with w:=a}) b (τ {l with w:=a}).w/\ ∀j,SW z (τ {l with w:=a}) b j->fA P Í e {τ {l with w:=a}with d:=0,w:=j} (G (f.at (y.put ((Q[i]?).bind (·.dst))<|ñ #[])<|Ï Q jJ::k) qX)): fA P Í (λl g=>Φ l/\B6 P Í b (fA P Í e) (τ l) g) l (G ((base L.done).at ⟨#[À<|Â ⟨b,0,Á⟩,Å,Å,Å],[]⟩ [ö<|body_done L])<|f.at y (Ï Q (i::jJ)::k)::qX):=by
 lib_facts;simp only[body_done,doneFn,ő];have hF:U7 Ψ l b l.w:=⟨D,fU.fY _ _⟩;apply akx D (n:=40);u_reg (sC h) hF;u_op (sC h) hF;u_call H.f_add (Κ L) addFn (sC h) hF;u_c Ų (sC h) hF;u_cond Ó (sC h) hF;u_c Ų (sC h) hF;u_c Ų (sC h) hF;u_reg (sC h) hF;u_op (sC h) hF;u_op (sC h) hF;u_c stepG_region_end (sC h) hF;u_cond Ó (sC h) hF;u_reg (sC h) hF;u_op (sC h) hF;u_conv H.underlying_tWgP H.room_tWg (pz.c0 hF.1.2.1).choose_spec (sC h) hF;refine Ë λa g=> ?_;replace hF:=sC h hF g;clear g;refine .fO λj r=> ?_;let⟨T,E,z,c,F,q⟩:=O j<|hF.2.fl<|Cp r;refine⟨T,E,U,_,λ_=>stepG_markAt .releaseMerge fB U U (by k_ne) U H.f_relMerge (x_relMerge_n L) (x_relMerge_b L) (x_relMerge_x L) (x_relMerge_f L) (by simp[ę,gp]),?_⟩;walk_nrm;show fA P Í (TR P Í b<|fA P Í e) (τ {l with w:=j}) _;clear T r;generalize τ {l with w:=j}=l2 at c F E q|-;replace hF:=F;clear F h D O;apply jW c hF (n:=10);iterate 3 w_go fM
 refine Ë λa g=> ?_;replace hF:=fM hF g;clear g;refine vA (l:={l2 with w:=a}) c hF (Ã U) U (λ_=>stepG_mark0 .disable fB U U (by k_ne) U H.f_disable (x_disable_n L) (x_disable_b L) (x_disable_x L)<|x_disable_f L) λm hF=> ?_;walk_nrm;have Y:Đ l2.d #[kK .disable]=1:=by rw[E];rfl
 rw[Y];apply jW (l:={l2 with d:=1,w:=m}) c hF (n:=50);iterate 2 w_go fM
 u_defer fM hF
 iterate 8 w_go fM
 u_bub fM hF
 iterate 11 w_go fM
 u_call H.f_uAdd (nm_uAdd L) uAddFn fM hF
 iterate 10 w_go fM
 refine Ë λa g=> ?_;replace hF:=fM hF g;clear g;refine oY (l:={l2 with d:=1,w:=a}) c hF λj hF=>⟨U,U,λv=>⟨_,λa t I=>(stepG_add_atomic U U (by k_ne) U H.f_addU64 (x_addU64_n L) (x_addU64_b L) (x_addU64_x L) ì (x_addU64_f L) U U t I).trans gG,?_⟩⟩;walk_nrm;have V:ì.wrap (v+18446744069414584320)=ì.wrap (v+uo):=rfl;rw[V];clear V;obtain⟨s,J⟩:∃s,ì.wrap (v+uo)=s:=⟨_,U⟩;simp only[J];have K:0<=s:=by rw[<-J];have:ì.wrap (v+uo)=(v+uo)%18446744073709551616:=rfl;rw[this];omega
 clear J v;by_cases p:s=0\/(gO<=s/\s<1000000*gO/\s%gO<1000000)
 .rw[if_pos p];by_cases o:s=0
  .subst o;clear p K;apply jW (l:={l2 with d:=1,w:=j}) c hF (n:=150);iterate 3 w_go fM
   u_leave1 H.f_uAdd fM hF
   iterate 83 w_go fM
   refine Ë λa g=> ?_;replace hF:=fM hF g;clear g;refine vA (l:={l2 with d:=1,w:=a}) c hF (Ç U) U (λw=>H7 ħ fB U H.f_enable (Ĺ L) (ĺ L) (Ļ L) (ļ L) w) λm hF=> ?_;have x:Đ 1 #[kK ħ]=0:=rfl;rw[x];apply jW (l:={l2 with d:=0,w:=m}) c hF (n:=10);u_leave0 H.f_add fM hF;iterate 2 w_go fM
   u_leave0 H.f_done fM hF
   refine Ë λa g=> ?_;replace hF:=fM hF g;clear g;exact q _ hF
  .have c3:=p.resolve_left o;clear p o K;let⟨c4,c5,c6⟩:=c3;have q4:(4294967296:Int)<=s:=c4;have M:s<1000000*4294967296:=c5;have W:s%4294967296<1000000:=c6;have f1:=H8 s Z M W;have B:=H9 s Z M W;obtain⟨C,g1⟩:∃C,(s/4294967296+2147483648)%4294967296-2147483648=C:=⟨_,U⟩;have g2:¬C<0:=Z
   have g3:0<C:=Z
   by_cases N:s%4294967296=0
   .rw[N]at B;apply jW (l:={l2 with d:=1,w:=j}) c hF (n:=150);iterate 3 w_go fM
    u_leave1 H.f_uAdd fM hF
    iterate 83 w_go fM
    refine Ë λa g=> ?_;replace hF:=fM hF g;clear g;refine vA (l:={l2 with d:=1,w:=a}) c hF (Ç U) U (λw=>H7 ħ fB U H.f_enable (Ĺ L) (ĺ L) (Ļ L) (ļ L) w) λm hF=> ?_;have x:Đ 1 #[kK ħ]=0:=rfl;rw[x];apply jW (l:={l2 with d:=0,w:=m}) c hF (n:=10);u_leave0 H.f_add fM hF;iterate 2 w_go fM
    u_leave0 H.f_done fM hF
    refine Ë λa g=> ?_;replace hF:=fM hF g;clear g;exact q _ hF
   .obtain⟨u,g4⟩:∃u,s%4294967296=u:=⟨_,U⟩;rw[g4]at B N;have X:u%4294967296=u:=Z
    have g6:(u !=0)=Ó:=by simpa using N
    apply jW (l:={l2 with d:=1,w:=j}) c hF (n:=150);iterate 3 w_go fM
    u_leave1 H.f_uAdd fM hF
    iterate 83 w_go fM
    refine Ë λa g=> ?_;replace hF:=fM hF g;clear g;refine vA (l:={l2 with d:=1,w:=a}) c hF (Ç U) U (λw=>H7 ħ fB U H.f_enable (Ĺ L) (ĺ L) (Ļ L) (ļ L) w) λm hF=> ?_;have x:Đ 1 #[kK ħ]=0:=rfl;rw[x];apply jW (l:={l2 with d:=0,w:=m}) c hF (n:=10);u_leave0 H.f_add fM hF;iterate 2 w_go fM
    u_leave0 H.f_done fM hF
    refine Ë λa g=> ?_;replace hF:=fM hF g;clear g;exact q _ hF
 .rw[if_neg p];by_cases o:0<s/\s<1000000
  .rw[if_pos o];let⟨q4,M⟩:=o;clear p K;have f1:=H8 s Z Z Z;have B:=H9 s Z Z Z;have g1:(s/4294967296+2147483648)%4294967296-2147483648=0:=Z
   have X:s%4294967296=s:=Z
   rw[X]at B;have g6:(s !=0)=Ó:=by simp;omega
   have W:(s==0)=Í:=by simp;omega
   have C:(s.toNat:Int)=s:=Z
   apply jW (l:={l2 with d:=1,w:=j}) c hF (n:=150);iterate 3 w_go fM
   u_leave1 H.f_uAdd fM hF
   iterate 89 w_go fM
   u_call H.f_uLoad (nm_uLoad L) uLoadFn fM hF
   iterate 9 w_go fM
   refine Ë λa g=> ?_;replace hF:=fM hF g;clear g;refine oY (l:={l2 with d:=1,w:=a}) c hF λj hF=>⟨U,U,λv=>⟨_,λa t=>stepG_load_atomic U U (by k_ne) U H.f_loadU64 (x_loadU64_n L) (x_loadU64_b L) (x_loadU64_x L) ì (x_loadU64_f L) U t,?_⟩⟩;show fA P Í (if v=(s.toNat:Int)then Oz P Í b (fA P Í e) s.toNat else λ_ _=>True) _ _;by_cases u:v=(s.toNat:Int)
   .rw[if_pos u];rw[C]at u;subst u;walk_nrm;have g8:(v !=v)=Í:=fB
    apply jW (l:={l2 with d:=1,w:=j}) c hF (n:=150);iterate 3 w_go fM
    u_leave1 H.f_uLoad fM hF
    iterate 10 w_go fM
    u_call H.f_uStore (nm_uStore L) uStoreFn fM hF
    iterate 5 w_go fM
    refine Ë λa g=> ?_;replace hF:=fM hF g;clear g;refine oY (l:={l2 with d:=1,w:=a}) c hF λj hF=>⟨U,U,_,λa x t I=>stepG_store_atomic U U (by k_ne) U H.f_storeU64 (x_storeU64_n L) (x_storeU64_b L) (x_storeU64_x L) (x_storeU64_f L) U U t I,?_⟩;walk_nrm;obtain⟨r,N⟩:∃r,v.toNat=r+1:=⟨v.toNat-1,Z⟩;rw[N];apply jW (l:={l2 with d:=1,w:=j}) c hF (n:=150);iterate 2 w_go fM
    u_leave0 H.f_uStore fM hF
    iterate 24 w_go fM
    refine Ë λa g=> ?_;replace hF:=fM hF g;clear g;exact akw H c q r v _ _ _ _ _ _ _ _ _ _ _ _ _ _ _ _ _ _ _ _ _ _ _ _ _ _ _ _ _ _ _ _ _ _ _ _ _ _ _ _ _ _ _ _ _ _ _ _ _ _ _ _ _ _ _ _ _ _ _ _ _ _ _ _ _ _ _ _ _ _ _ _ _ _ _ _ _ _ _ _ _ _ _ _ _ _ _ _ _ _ _ _ _ _ _ _ _ _ _ _ _ _ _ _ _ _ _ _ _ _ _ _ _ _ a hF Z Z
   .rw[if_neg u];exact .fO λ_ _=>trivial
  .rw[if_neg o];trivial
end
end Go.Proofs.Y.fK
namespace Go.Proofs.Y.fK
open Go Go.Conc Go.Proofs.Y.Lift Go.RowKit Go.Conc.Lib Go.ConcR.Gen
open Go.Proofs Go.Proofs.YtgpphkdoanciiaaGreatDoor
noncomputable def Pt:ġ:=rL ι [1,0,0]
noncomputable def Cw (t:Array Ð) (a:List ç):à:=G ((base 49).at ⟨t,[]⟩ [ö Pt,ā Pt,ï 0]) a
structure FM(an N:Nat)(ib:Option ã)(m c kk:Nat)(t:Array Ð):Prop where
 fh:t.size=37
 t1:t[1]?=Â (Æ (Â ⟨an,0,Á⟩) N N)
 t6:t[6]?=Â (Æ ib m c)
 t7:t[7]?=Â (É Î m)
 t8:t[8]?=Â (É Î kk)
def FN{x:Int}(a:0<=x)(b:x<1000000):Î.wrap x=x:=by rw[Χ];omega
section
variable{f:Jd}{l:fj}{t:Array Ð}{an N ib c kk:Nat}{Q:Ð->ByteArray->fj->Prop}{τ:fj->fj}{Φ:fj->Prop}
def akz(D:ic l)(W:¬l.q)(hd:l.d=0)(X:FM an N (Â ⟨ib,0,Á⟩) m c kk t)(hkk:kk<m)(hm:m<1000)(hN:N<1000000)(vi:j<N)(Cx:l.M ib) (i0:l.w.cell? ⟨ib,kk*4,Á⟩=Â (À O)) (i1:l.w.cell? ⟨ib,kk*4+1,Á⟩=Â (É Î j)) (i2:l.w.cell? ⟨ib,kk*4+2,Á⟩=Â (À<|Â ⟨i,0,Á⟩)) (i3:l.w.cell? ⟨ib,kk*4+3,Á⟩=Â (À<|Â ⟨n,0,Á⟩)) (yo:l.Rc ⟨i,2,Á⟩) (pM:l.w.cell? ⟨i,2,Á⟩=Â v) (o1:l.Oc ⟨n,2,Á⟩) (o2:l.Oc ⟨an,j,Á⟩) (e1:(l.w.cell? ⟨n,2,Á⟩).isSome=Ó) (e2:(l.w.cell? ⟨an,j,Á⟩).isSome=Ó) (z1:l.w.frozen? ⟨n,2,Á⟩=Í) (z2:l.w.frozen? ⟨an,j,Á⟩=Í) (nD:(⟨n,2,Á⟩:ã)≠⟨an,j,Á⟩) (yh:∀u,jB (λa=>a=⟨n,2,Á⟩\/a=⟨an,j,Á⟩) l u->∀cl nZ,fA Ä Í (λl'' g'=>l''.d=u.d/\∃p k c str,g'=G (cl.finish<|ñ #[Æ p k c,á str]) nZ/\Q (Æ p k c) str l'') (oB u)<|G (Ĉ Ä 66 #[v,À O] ĥ)<|cl::nZ) (DX:∀u (x:(Option Addr×Nat×Nat)×ByteArray),jB (λa=>a=⟨n,2,Á⟩\/a=⟨an,j,Á⟩) l u->(∃y,Q (Æ x.1.1 x.1.2.1 x.1.2.2) x.2 y/\(∀b,y.M b->u.M b/\u.w.heap[b]?=y.w.heap[b]?))->u.w.cell? ⟨n,2,Á⟩=Â (Æ x.1.1 x.1.2.1 x.1.2.2)->u.w.cell? ⟨an,j,Á⟩=Â (á x.2)-> nP (λ_=>True) u n/\SW (λ_=>True) u n u.w/\Φ u/\(τ u).d=0/\∃E:Þ->Prop,nP E (τ u) n/\SW E (τ u) n (τ u).w/\∀s Y,SW E (τ u) n s->FM an N (Â ⟨ib,0,Á⟩) m c (kk+1) Y->fA Ä Í f {τ u with d:=0,w:=s} (Cw Y qX)): fA Ä Í (λl g=>Φ l/\B6 Ä Í n (fA Ä Í f) (τ l) g) l (Cw t qX):=by
 obtain⟨y0,y1,y2,y3,y4,y5,y6,y7,y8,y9,vM,yp,xb,sD,tD,sF,xc,uB,uC,uD,tE,tF,tH,tJ,uE,vN,xd,tK,rN,qR,qS,oZ,qu,qw,pV,pW,pA,rfl⟩:=U6 t X.fh;obtain rfl:y1=Æ (Â ⟨an,0,Á⟩) N N:=by simpa using X.t1
 obtain rfl:y6=Æ (Â ⟨ib,0,Á⟩) m c:=by simpa using X.t6
 obtain rfl:y7=É Î m:=by simpa using X.t7
 obtain rfl:y8=É Î kk:=by simpa using X.t8
 have vP:∀y:ã,(y=⟨n,2,Á⟩\/y=⟨an,j,Á⟩)->l.Oc y:=λy ha=>by rcases ha with rfl|rfl;exact o1;exact o2
 have avh:(kk:Int)<(m:Int):=Z
 simp only[Cw];conv in Pt=>whnf
 refine gZ (n:=30) D.lw ?_;have hF:True:=trivial;repeat w_go fS
 refine Ë λ_ _=> ?_;have B:∀g,iW l ⟨ib,g,Á⟩:=λg=>Ã Cx;refine ym (v:=Ě #[À O,É Î j,À<|Â ⟨i,0,Á⟩,À<|Â ⟨n,0,Á⟩]) U U (by k_ne) D.lw W (λo r=> ?_) (λo r e F=> ?_) ?_
 .have J:=((B<|kk*4).fg r).trans i0;have K:=((B<|kk*4+1).fg r).trans i1;have L:=((B<|kk*4+2).fg r).trans i2;have P:=((B<|kk*4+3).fg r).trans i3;go_simp
 .have J:=((B<|kk*4).fg r).trans i0;have K:=((B<|kk*4+1).fg r).trans i1;have L:=((B<|kk*4+2).fg r).trans i2;have P:=((B<|kk*4+3).fg r).trans i3;simp[go_sem,J,K,L,P]at F;rcases F with rfl|rfl|rfl|rfl
  .exact(B _).rd
  .exact(B _).rd
  .exact(B _).rd
  .exact(B _).rd
 walk_nrm;refine Ll (ob:=Ê #[À Á,É Î 0,À Á,À Á] 155) U U (by k_ne) D.lw W (λw=>by go_simp) (λw=>by simp[go_sem]) λo rC=> ?_;walk_nrm;have yq:jB (λa=>a=⟨n,2,Á⟩\/a=⟨an,j,Á⟩) l (iM l o<|Ê #[À Á,É Î 0,À Á,À Á] 155):=Pq D vP rC;have qP:(iM l o<|Ê #[À Á,É Î 0,À Á,À Á] 155).w.heap[o.heap.size]?=Â (Ê #[À Á,É Î 0,À Á,À Á] 155):=qy;have xe:l.w.heap.size<=o.heap.size:=rC.fh;have I:(iM l o<|Ê #[À Á,É Î 0,À Á,À Á] 155).O o.heap.size:=Ç U;generalize iM l o (Ê #[À Á,É Î 0,À Á,À Á] 155)=l₁ at yq qP I|-;generalize o.heap.size=tb at qP I xe|-;refine yl U U (by k_ne) λs vR=> ?_;have T:s.heap[tb]?=_:=(vR.fu tb<|Ã I).trans qP;have J:s.cell? ⟨tb,0,Á⟩=Â (À Á):=by simp[Ù,T]
 have K:s.cell? ⟨tb,1,Á⟩=Â (É Î 0):=by simp[Ù,T]
 have L:s.cell? ⟨tb,2,Á⟩=Â (À Á):=by simp[Ù,T]
 have P:s.cell? ⟨tb,3,Á⟩=Â (À Á):=by simp[Ù,T]
 have hz:∀g,s.frozen? ⟨tb,g,Á⟩=Í:=λg=>by simp[ð,T]
 go_simp;refine⟨{l₁ with w:=jS s tb (À O) (É Î j) (À<|Â ⟨i,0,Á⟩) (À<|Â ⟨n,0,Á⟩)},Pr (p:=tb) (oA yq.fG vR) (by rwa[yq.q]) I AY (λg H=>Cv H) ⟨U,U,U⟩ λe F=> ?_,?_⟩
 .have h:=ě F;have e:∀g,tB l₁ ⟨tb,g,Á⟩:=λg=>Ã I;simp[go_sem,â _ _ _ _ _ _ (show Ú (À O)=Ó from rfl),â _ _ _ _ _ _ (show Ú (À<|Â ⟨i,0,Á⟩)=Ó from rfl),â _ _ _ _ _ _ (show Ú (À<|Â ⟨n,0,Á⟩)=Ó from rfl),J,K,L,P,hz]at h;rcases h with rfl|rfl|rfl|rfl
  .exact(e _).wr
  .exact(e _).wr
  .exact(e _).wr
  .exact(e _).wr
 let⟨c0,c1,c2,c3⟩:=U4 (v0:=À O) (v1:=É Î j) (v2:=À<|Â ⟨i,0,Á⟩) (v3:=À<|Â ⟨n,0,Á⟩) J K L P;have C:=U5 (w':=jS s tb (À O) (É Î j) (À<|Â ⟨i,0,Á⟩)<|À<|Â ⟨n,0,Á⟩) D vP yq vR xe AY λg H=>Cv H;have FO:({l₁ with w:=jS s tb (À O) (É Î j) (À<|Â ⟨i,0,Á⟩) (À<|Â ⟨n,0,Á⟩)}:fj).O tb:=I;replace c0:({l₁ with w:=jS s tb (À O) (É Î j) (À<|Â ⟨i,0,Á⟩) (À<|Â ⟨n,0,Á⟩)}:fj).w.cell? ⟨tb,0,Á⟩=_:=c0;replace c1:({l₁ with w:=jS s tb (À O) (É Î j) (À<|Â ⟨i,0,Á⟩) (À<|Â ⟨n,0,Á⟩)}:fj).w.cell? ⟨tb,1,Á⟩=_:=c1;replace c2:({l₁ with w:=jS s tb (À O) (É Î j) (À<|Â ⟨i,0,Á⟩) (À<|Â ⟨n,0,Á⟩)}:fj).w.cell? ⟨tb,2,Á⟩=_:=c2;replace c3:({l₁ with w:=jS s tb (À O) (É Î j) (À<|Â ⟨i,0,Á⟩) (À<|Â ⟨n,0,Á⟩)}:fj).w.cell? ⟨tb,3,Á⟩=_:=c3;generalize({l₁ with w:=jS s tb (À O) (É Î j) (À<|Â ⟨i,0,Á⟩) (À<|Â ⟨n,0,Á⟩)}:fj)=l₂ at c0 c1 c2 c3 C FO|-;clear qP I yq T J K L P hz vR s l₁ rC o;have vS:=C.gk D;have rO:¬l₂.q:=by rwa[C.q]
 have akA:l₂.Rc ⟨i,2,Á⟩:=by rwa[C.Rc]
 have nE:¬((⟨i,2,Á⟩:ã)=⟨n,2,Á⟩\/(⟨i,2,Á⟩:ã)=⟨an,j,Á⟩):=λq=>by
  rcases q with q|q
  .exact D.lE _ o1<|q▸yo
  .exact D.lE _ o2<|q▸yo
 have akB:l₂.w.cell? ⟨i,2,Á⟩=Â v:=(C.fg _ (Ç yo) nE).trans pM;have U8:∀y:ã,(y=⟨n,2,Á⟩\/y=⟨an,j,Á⟩)->l₂.Oc y:=λy hy=>by rw[C.Oc];exact vP y hy
 refine gZ (n:=5) vS.lw ?_;iterate 2 w_go fS
 refine Ë λ_ _=> ?_;refine UQ (II Ct #[y0,Æ (Â ⟨an,0,Á⟩) N N,y2,y3,y4,À<|Â ⟨tb,0,Á⟩,Æ (Â ⟨ib,0,Á⟩) m c,É Î m,É Î kk,ĭ Ó,À<|Â ⟨ib,kk*4,Á⟩,Ě #[À O,É Î j,À<|Â ⟨i,0,Á⟩,À<|Â ⟨n,0,Á⟩],xb,sD,tD,sF,xc,uB,uC,uD,tE,tF,tH,tJ,uE,vN,xd,tK,rN,qR,qS,oZ,qu,qw,pV,pW,pA] (pD tb i n an N j (À O) v)<|Iq l₂ i n an j v Q) vS.lw rO (λh H=> ?_) (λmd listed a l e z hI F=>akt vS rO U U U FO c0 c1 c2 c3 akA akB (U8 _<|Ã U) (U8 _<|Ç U) (C.rM _ (Ã U) e1) (C.rM _ (Ç U) e2) ((C.fC _<|Ã o1).trans z1) ((C.fC _<|Ã o2).trans z2) vi hN nD (λu h=>yh u<|C.fl h) md listed a l e z hI F) λmd listed a z hI kV yr=> ?_
 .refine⟨((Á,0,0),ByteArray.empty),pC.jy _ _ _,(jB.fY vS.lw).fZ U8 ⟨H.fh,H.fu,H.fg,H.fC,H.ia⟩,λq=> ?_,λq=> ?_,λq=> ?_⟩<;>exact absurd q A
 let⟨x,H,V⟩:=hI;have uF:∀e∈ä 21,listed.getD e Í=Ó:=by
  cases md
  .exact tC yr kV (ä 21) [] gG λe F=>by cases F
  .exact λe F=>tC yr kV [0,1,5,6,7,8,9,10,11,12,13,14,16,17,18,2,3,4,15,19,20] [] gG (λe F=>by cases F) e (by have:=ù.1 F;revert e;decide)
  .exact tC yr kV (ä 21) [] gG λe F=>by cases F
 have Lm:=C.fl V.gf;have Ln:=Lm.gk D;have yt:¬z.q:=by rwa[Lm.q]
 let⟨F,ds⟩:=a;obtain rfl:ds=[]:=H.Cs;have b1:F[1]?=Â (Æ (Â ⟨an,0,Á⟩) N N):=H.gd (d:=1) A;have b5:F[5]?=Â (À<|Â ⟨tb,0,Á⟩):=H.gd (d:=5) A;have b6:F[6]?=Â (Æ (Â ⟨ib,0,Á⟩) m c):=H.gd (d:=6) A;have b7:F[7]?=Â (É Î m):=H.gd (d:=7) A;have b8:F[8]?=Â (É Î kk):=H.gd (d:=8) A;obtain⟨x0,x1,x2,x3,x4,x5,x6,x7,x8,x9,x10,x11,x12,x13,x14,x15,x16,x17,x18,x19,x20,x21,x22,x23,x24,x25,x26,x27,x28,x29,x30,x31,x32,x33,x34,x35,x36,rfl⟩:=U6 F H.fh;obtain rfl:x1=Æ (Â ⟨an,0,Á⟩) N N:=by simpa using b1
 obtain rfl:x5=À (Â ⟨tb,0,Á⟩):=by simpa using b5
 obtain rfl:x6=Æ (Â ⟨ib,0,Á⟩) m c:=by simpa using b6
 obtain rfl:x7=É Î m:=by simpa using b7
 obtain rfl:x8=É Î kk:=by simpa using b8
 have U9:=V.zI<|uF 12 A;have akC:=V.UU<|uF 18 A;have akD:=V.UW<|uF 20 A;have d3:z.w.cell? ⟨tb,3,Á⟩=Â (À<|Â ⟨n,0,Á⟩):=(iF<|V.gf.fu tb<|Ã FO).trans c3;have s3:iW z ⟨tb,3,Á⟩:=Ã<|Ã<|V.gf.O tb FO;clear H uF b1 b5 b6 b7 b8;refine gZ (n:=9) Ln.lw ?_;iterate 3 w_go fS
 refine Ë λ_ _=> ?_;refine qN (x:=⟨tb,3,Á⟩) U U (by k_ne) Ln.lw yt s3 d3 (λw h=>by go_simp) (λw h=>by simp[go_sem,h]) ?_;walk_nrm;refine gZ (n:=9) Ln.lw ?_;iterate 2 w_go fS
 u_call uA.f_done (nm_done Lk) doneFn fS hF
 refine Ë λ_ _=> ?_;have vT:∀o,fU z z.w o->nP (λ_=>True) {z with w:=o} n/\SW (λ_=>True) {z with w:=o} n o/\Φ {z with w:=o}/\(τ {z with w:=o}).d=0/\∃E:Þ->Prop,nP E (τ {z with w:=o}) n/\SW E (τ {z with w:=o}) n (τ {z with w:=o}).w/\∀s Y,SW E (τ {z with w:=o}) n s->FM an N (Â ⟨ib,0,Á⟩) m c (kk+1) Y->fA Ä Í f {τ {z with w:=o}with d:=0,w:=s} (Cw Y qX):=λo r=>by
  refine DX {z with w:=o} x (Lm.fZ vP r) ?_ ?_ ?_
  .let⟨y,y1,y2⟩:=U9;exact⟨y,y1,λb h=>⟨(y2 b h).1,(r.fu b (y2 b h).1).trans (y2 b h).2⟩⟩
  .exact(r.fg _<|Ã<|by rwa[Lm.Oc]).trans akC
  .exact(r.fg _<|Ã<|by rwa[Lm.Oc]).trans akD
 let⟨k1,k2,_⟩:=vT z.w<|fU.fY _ _;refine aky uA τ Φ k1 k2 λo r=> ?_;let⟨_,_,f1,f4,E,f2,f3,f5⟩:=vT o r;refine⟨f1,f4,E,f2,f3,λs h=> ?_⟩;walk_nrm;refine gZ (n:=30) h.1 ?_;iterate 7 w_go fS
 refine Ë λ_ _=> ?_;refine f5 s _ h ⟨U,U,U,U,?_⟩;simp;exact FN Z Z
end
def akE:Array å:=#[⟨Â 2,č 85<|Ò 0,85, "work.go:24",#[],Á⟩,
 ⟨Â 3,č 25<|Ò 1,25, "work.go:24",#[],Á⟩,
 ⟨Â 4,Ď {callee:=ü (ċ 49),args:=#[Ò 2,Ò 3],argTypes:=#[85,25]},0, "work.go:24",#[⟨0,Õ⟩,⟨1,Õ⟩],Á⟩]
def Cy(a:Nat)(b c d e:Ð):ç:=(baseD 63).at ⟨#[À<|Â ⟨a,0,Á⟩,b,c,d,e],[sB 64 #[À<|Â ⟨a,0,Á⟩] #[]]⟩ [Ï aaO [1]]
def zK(a b c d e:Ð):ç:=(base 48).at ⟨#[a,b,c,d,e],[]⟩ [Ï akE [2]]
section
variable{Ψ:Þ->Prop}{J:Jd}{l:fj}{a e f o p:Ð}
def akF(c:lG l)(g:¬l.q)(k:iW l ⟨j9,0,Á⟩)(r:iW l ⟨j7,0,Á⟩)(s:iW l ⟨b,0,Á⟩)(t:l.w.cell? ⟨j9,0,Á⟩=Â (ď (þ 48) #[] #[À<|Â ⟨j7,0,Á⟩,À<|Â ⟨b,0,Á⟩]))(u:l.w.cell? ⟨j7,0,Á⟩=Â (Æ O m n))(y:l.w.cell? ⟨b,0,Á⟩=Â (Æ (Â ⟨j,0,Á⟩) i i)) (B:∀d a e f o v x z jQ p,FM j i O m n 0 d->fA Ä Í J l (Cw d [zK v x z jQ p,Cy j6 a e f o,qx Ä])): fA Ä Í J l (born Ä<|sB 63 #[À<|Â ⟨j6,0,Á⟩,À<|Â ⟨j9,0,Á⟩] #[]):=by
 apply gZ (n:=30) c;have hF:=trivial;u_c (aaD ž gG U) fS hF;walk_nrmf κ;iterate 3 w_go fS
 u_c (aaB U U (by k_ne) U U) fS hF
 walk_nrm;repeat w_go fS
 refine Ë λ_ _=> ?_;apply qN U U (by k_ne) c g k t (λw h=>by go_simp) (λw h=>by simp[go_sem,h]);walk_nrm;apply gZ (n:=30) c;u_c (aaC U U (by k_ne) U U ſ gG U) fS hF;walk_nrmf Tryz.f48;w_go fS;refine Ë λ_ _=> ?_;apply qN U U (by k_ne) c g r u (λw h=>by go_simp) (λw h=>by simp[go_sem,h]);walk_nrm;apply qN U U (by k_ne) c g s y (λw h=>by go_simp) (λw h=>by simp[go_sem,h]);walk_nrm;apply gZ (n:=30) c;u_call Α gG ι fS hF;iterate 8 w_go fS
 refine Ë λ_ _=> ?_;exact B _ _ _ _ _ _ _ _ _ _ ⟨U,U,U,U,U⟩
def akG(b:FM j i O m n m d)(h:l.K ⟨k,0,Á⟩/\l.K ⟨k,1,Á⟩)(r:nP Ψ l k)(c:SW Ψ l k l.w)(s:l.d=0)(t:¬l.q)(u:iW l ⟨j6,0,Á⟩)(y:l.w.cell? ⟨j6,0,Á⟩=Â (À<|Â ⟨k,0,Á⟩)): fA Ä Í (λl g=>B6 Ä Í k (Ia Ä) (mo l) g) l (Cw d [zK v x z jQ p,Cy j6 a e f o,qx Ä]):=by
 obtain⟨C,D,E,F,G,H,I,g,B,J,L,M,N,P,Q,T,V,W,X,Y,tE,tF,tH,tJ,uE,vN,xd,tK,rN,qR,qS,oZ,qu,qw,pV,pW,pA,rfl⟩:=U6 d b.fh;obtain rfl:g=É Î m:=by simpa using b.t7
 obtain rfl:B=É Î m:=by simpa using b.t8
 have hmm:¬(m:Int)<(m:Int):=Z
 simp only[Cw];conv in Pt=>whnf
 apply gZ (n:=40) c.1;have hF:=trivial;iterate 8 w_go fS
 u_leave0 Α fS hF
 iterate 2 w_go fS
 u_leave0 ſ fS hF
 refine Ë λ_ _=> ?_;exact aaP h r c s t u y
end
def Lp:å:=⟨Â 14,ý<|Ò 1,25, "work.go:65",#[],Á⟩
def Lq:å:=⟨Â 15,ë 155 (Ò 4) 1,0, "work.go:65",#[],Á⟩
def Ir:å:=⟨Â 16,č 3<|Ò 15,3, "work.go:65",#[⟨1,Õ⟩],Á⟩
def Lr:å:=⟨Â 17,ë 155 (Ò 4) 2,0, "work.go:65",#[],Á⟩
def Is:å:=⟨Â 18,č 86<|Ò 17,86, "work.go:65",#[⟨3,Õ⟩],Á⟩
def It:å:=⟨Â 19,ĕ<|Ò 18,0, "work.go:65",#[⟨4,Õ⟩],Á⟩
def Iu:å:=⟨Â 20,ë 105 (Ò 19) 1,0, "work.go:65",#[⟨5,Õ⟩],Á⟩
def Iv:å:=⟨Â 21,č 65<|Ò 20,65, "work.go:65",#[⟨6,Õ⟩],Á⟩
def Ls:å:=⟨Â 22,ë 155 (Ò 4) 0,0, "work.go:65",#[],Á⟩
def Iw:å:=⟨Â 23,č 148<|Ò 22,148, "work.go:65",#[⟨8,Õ⟩],Á⟩
def FP:å:=⟨Â 24,Ď {callee:=ü<|ċ 67,args:=#[Ò 21,Ò 23],argTypes:=#[65,148]},9, "work.go:65",#[⟨7,Õ⟩,⟨9,Õ⟩],Á⟩
def FQ:å:=⟨Â 25,š 25 (Ò 14)<|Ò 16,0, "work.go:65",#[⟨0,Õ⟩,⟨2,Õ⟩,⟨0,Ì⟩,⟨1,Ì⟩,⟨2,Ì⟩,⟨3,Ì⟩,⟨4,Ì⟩,⟨5,Ì⟩,⟨6,Ì⟩,⟨7,Ì⟩,⟨8,Ì⟩,⟨9,Ì⟩,⟨10,Ì⟩],Á⟩
def FR:å:=⟨Á,ŷ 9 (Ò 25)<|Ò 24,0, "work.go:65",#[⟨11,Õ⟩,⟨10,Õ⟩,⟨10,Ÿ⟩,⟨0,Ì⟩,⟨1,Ì⟩,⟨2,Ì⟩,⟨3,Ì⟩,⟨4,Ì⟩,⟨5,Ì⟩,⟨6,Ì⟩,⟨7,Ì⟩,⟨8,Ì⟩,⟨9,Ì⟩,⟨10,Ì⟩],Á⟩
def zL:Array å:=#[Lp,Lq,Ir,Lr,Is,It,Iu,Iv,Ls,Iw,FP,FQ,FR]
def uG(tb a b N c:Nat)(d e:Ð)(x:ByteArray):Nat->Ð
 |0=>Æ (Â ⟨b,0,Á⟩) N N
 |1=>À<|Â ⟨tb,1,Á⟩
 |2=>É Î c
 |3=>À<|Â ⟨tb,2,Á⟩
 |4=>À<|Â ⟨a,0,Á⟩
 |5=>À<|Â ⟨a,0,Á⟩
 |6=>À<|Â ⟨a,2,Á⟩
 |7=>e
 |8=>À<|Â ⟨tb,0,Á⟩
 |9=>d
 |10=>á x
 |11=>À<|Â ⟨b,c,Á⟩
 |_=>Å
structure Ix(jm:fj)(an pl:Nat)(Q:ByteArray->Prop)(listed:Array Bool)(x:ByteArray)(l:fj):Prop where
 gf:jB (λa=>a=⟨an,pl,Á⟩) jm l
 zI:listed.getD 10 Í=Ó->Q x
 Iy:listed.getD 12 Í=Ó->l.w.cell? ⟨an,pl,Á⟩=Â (á x)
def Ix.ft{b l:fj}{Q:ByteArray->Prop}{listed:Array Bool}{x:ByteArray}(h:Ix b n j Q listed x l)(d:i≠10)(e:i≠12)(c:b.Oc ⟨n,j,Á⟩)(w₁:Þ)(r:fU l l.w w₁):Ix b n j Q (listed.setIfInBounds i Ó) x {l with w:=w₁}:=by
 refine⟨h.gf.fZ (λa q=>by rwa[q]) r,λq=> ?_,λq=> ?_⟩
 .rw[é Í d]at q;exact h.zI q
 .rw[é Í e]at q;exact(r.fg _<|by rw[h.gf.C];exact Ã c).trans<|h.Iy q
section
variable{J:Jd}{jm:fj}{an pl:Nat}{Q:ByteArray->Prop}{k:List ů}{cs:List ç}
def akH(V:ic jm)(hq:¬jm.q)(ht:d.size=26)(FK:d[1]?=Â (Æ (Â ⟨an,0,Á⟩) i i))(Lt:d[4]?=Â (À<|Â ⟨j,0,Á⟩))(hO:jm.O j) (c0:jm.w.cell? ⟨j,0,Á⟩=Â v) (c1:jm.w.cell? ⟨j,1,Á⟩=Â (É Î pl)) (K:jm.w.cell? ⟨j,2,Á⟩=Â (À<|Â ⟨n,0,Á⟩)) (W:jm.Rc ⟨n,2,Á⟩) (pM:jm.w.cell? ⟨n,2,Á⟩=Â z) (D:jm.Oc ⟨an,pl,Á⟩) (e2:(jm.w.cell? ⟨an,pl,Á⟩).isSome=Ó) (z2:jm.w.frozen? ⟨an,pl,Á⟩=Í) (vi:pl<i) (akI:∀l,jB (λa=>a=⟨an,pl,Á⟩) jm l->∀B nZ,fA Ä Í (λM N=>M.d=l.d/\∃P,N=G (B.finish<|á P) nZ/\Q P) (oB l)<|G (Ĉ Ä 67 #[z,v] ĥ)<|B::nZ) (md:ă) (listed:Array Bool) (a:Ů) (l:fj) (b:Nat) (rest:List Nat) (hI:II zL d (uG j n an i pl v z) (Ix jm an pl Q) listed a l) (s:b∈Ü md zL listed): fA Ä Í (λM N=>∃J,N=G ((base 51).at J<|Ï zL rest::k) cs/\II zL d (uG j n an i pl v z) (Ix jm an pl Q) (listed.setIfInBounds b Ó) J M) l (G ((base 51).at a<|Ï zL (b::rest)::k) cs):=by
 let⟨x,p,t⟩:=hI;have F:w7 zL d.size=Ó:=by rw[ht];decide
 have hun:=US s;have iy:=Ie s;have H:=t.gf.fG;have I:¬l.q:=by rwa[t.gf.q]
 have T:∀y:ã,y=⟨an,pl,Á⟩->jm.Oc y:=λy ha=>by rwa[ha]
 have qP:a.tmps[1]?=Â (Æ (Â ⟨an,0,Á⟩) i i):=(p.gd A).trans FK;have X:a.tmps[4]?=Â (À<|Â ⟨j,0,Á⟩):=(p.gd A).trans Lt;have B:∀c g,jm.w.cell? ⟨j,c,Á⟩=Â g->iW l ⟨j,c,Á⟩/\l.w.cell? ⟨j,c,Á⟩=Â g:=λc g h=>⟨Ã<|Ã<|t.gf.O j hO,by rwa[iF<|t.gf.fu j<|Ã hO]⟩;have UY:¬((⟨n,2,Á⟩:ã)=⟨an,pl,Á⟩):=λq=>V.lE _ D<|q▸W;have L:iW l ⟨n,2,Á⟩/\l.w.cell? ⟨n,2,Á⟩=Â z:=⟨Ç (Ç<|by rwa[t.gf.Rc]),by rwa[t.gf.fg _ (Ç W) UY]⟩;have UZ:(pl:Int)<(i:Int):=Z
 have kV:zL.size=13:=A
 rw[kV]at iy;match b,iy with
 |0,_=>
  refine jk (o:=Lp) F p U U s (by k_ne) H I (λm r=> ?_) (λm r e u=> ?_)<|t.ft A A D
  .simp only[uG,Lp];go_simp
  .simp[go_sem,Lp,qP]at u
 |1,_=>
  refine jk (o:=Lq) F p U U s (by k_ne) H I (λm r=> ?_) (λm r e u=> ?_)<|t.ft A A D
  .simp only[uG,Lq];go_simp
  .simp[go_sem,Lq,X]at u
 |2,_=>
  have Y:a.tmps[15]?=Â (À<|Â ⟨j,1,Á⟩):=p.fN 1 Lq 15 U (jj (o:=Ir) s U U) U;refine jk (o:=Ir) F p U U s (by k_ne) H I (λm r=> ?_) (λm r e u=> ?_)<|t.ft A A D
  .have E:m.cell? ⟨j,1,Á⟩=Â (É Î pl):=((B 1 _ c1).1.fg r).trans (B 1 _ c1).2;simp only[uG,Ir];go_simp
  .have E:m.cell? ⟨j,1,Á⟩=Â (É Î pl):=((B 1 _ c1).1.fg r).trans (B 1 _ c1).2;have J:e=⟨Ā ⟨j,1,Á⟩,Í,Í⟩:=by simp[go_sem,Ir,E,Y]at u;exact u
   subst J;exact(B 1 _ c1).1.rd
 |3,_=>
  refine jk (o:=Lr) F p U U s (by k_ne) H I (λm r=> ?_) (λm r e u=> ?_)<|t.ft A A D
  .simp only[uG,Lr];go_simp
  .simp[go_sem,Lr,X]at u
 |4,_=>
  have Y:a.tmps[17]?=Â (À<|Â ⟨j,2,Á⟩):=p.fN 3 Lr 17 U (jj (o:=Is) s U U) U;refine jk (o:=Is) F p U U s (by k_ne) H I (λm r=> ?_) (λm r e u=> ?_)<|t.ft A A D
  .have E:m.cell? ⟨j,2,Á⟩=Â (À<|Â ⟨n,0,Á⟩):=((B 2 _ K).1.fg r).trans (B 2 _ K).2;simp only[uG,Is];go_simp
  .have E:m.cell? ⟨j,2,Á⟩=Â (À<|Â ⟨n,0,Á⟩):=((B 2 _ K).1.fg r).trans (B 2 _ K).2;have J:e=⟨Ā ⟨j,2,Á⟩,Í,Í⟩:=by simp[go_sem,Is,E,Y]at u;exact u
   subst J;exact(B 2 _ K).1.rd
 |5,_=>
  have Y:a.tmps[18]?=Â (À<|Â ⟨n,0,Á⟩):=p.fN 4 Is 18 U (jj (o:=It) s U U) U;refine jk (o:=It) F p U U s (by k_ne) H I (λm r=> ?_) (λm r e u=> ?_)<|t.ft A A D
  .simp only[uG,It];go_simp
  .simp[go_sem,It,Y]at u
 |6,_=>
  have Y:a.tmps[19]?=Â (À<|Â ⟨n,0,Á⟩):=p.fN 5 It 19 U (jj (o:=Iu) s U U) U;refine jk (o:=Iu) F p U U s (by k_ne) H I (λm r=> ?_) (λm r e u=> ?_)<|t.ft A A D
  .simp only[uG,Iu];go_simp
  .simp[go_sem,Iu,Y]at u
 |7,_=>
  have Y:a.tmps[20]?=Â (À<|Â ⟨n,2,Á⟩):=p.fN 6 Iu 20 U (jj (o:=Iv) s U U) U;refine jk (o:=Iv) F p U U s (by k_ne) H I (λm r=> ?_) (λm r e u=> ?_)<|t.ft A A D
  .have E:m.cell? ⟨n,2,Á⟩=Â (z):=(L.1.fg r).trans L.2;simp only[uG,Iv];go_simp
  .have E:m.cell? ⟨n,2,Á⟩=Â (z):=(L.1.fg r).trans L.2;have J:e=⟨Ā ⟨n,2,Á⟩,Í,Í⟩:=by simp[go_sem,Iv,E,Y]at u;exact u
   subst J;exact L.1.rd
 |8,_=>
  refine jk (o:=Ls) F p U U s (by k_ne) H I (λm r=> ?_) (λm r e u=> ?_)<|t.ft A A D
  .simp only[uG,Ls];go_simp
  .simp[go_sem,Ls,X]at u
 |9,_=>
  have Y:a.tmps[22]?=Â (À<|Â ⟨j,0,Á⟩):=p.fN 8 Ls 22 U (jj (o:=Iw) s U U) U;refine jk (o:=Iw) F p U U s (by k_ne) H I (λm r=> ?_) (λm r e u=> ?_)<|t.ft A A D
  .have E:m.cell? ⟨j,0,Á⟩=Â (v):=((B 0 _ c0).1.fg r).trans (B 0 _ c0).2;simp only[uG,Iw];go_simp
  .have E:m.cell? ⟨j,0,Á⟩=Â (v):=((B 0 _ c0).1.fg r).trans (B 0 _ c0).2;have J:e=⟨Ā ⟨j,0,Á⟩,Í,Í⟩:=by simp[go_sem,Iw,E,Y]at u;exact u
   subst J;exact(B 0 _ c0).1.rd
 |10,_=>
  have Va:a.tmps[21]?=Â (z):=p.fN 7 Iv 21 U (jj (o:=FP) s U U) U;have h23:a.tmps[23]?=Â (v):=p.fN 9 Iw 23 U (jj (o:=FP) s U U) U;refine aaN (o:=FP) F p U U s (by k_ne) H (f:=67) (args:=#[z,v]) (λw=>by simp only[FP];go_simp) (λw=>ŏ (o:=FP) U Tryz.func67 U U #[]) λm r=> ?_;have J:=t.gf.fZ T r;refine((akI _ J _ _).oB<|J.gk V).ft ?_;rintro M N ⟨y,⟨hy0,P,rfl,hQ⟩,rfl,Y,hyR,aku,akv⟩;refine⟨P,U,⟨J.gf T Y hy0,λ_=>hQ,λq=> ?_⟩,λc hj=> ?_⟩
  .rw[é Í A]at q;exact absurd (p.uz (o:=FR) U q U)<|AX hun
  .match c,hj with
   |10,hj=>exact absurd hj<|AX hun
   |0,_|1,_|2,_|3,_|4,_|5,_|6,_|7,_|8,_|9,_|11,_|12,_|n+13,_=>rfl
 |11,_=>
  have J:a.tmps[14]?=Â (Æ (Â ⟨an,0,Á⟩) i i):=p.fN 0 Lp 14 U (jj (o:=FQ) s U U) U;have h16:a.tmps[16]?=Â (É Î pl):=p.fN 2 Ir 16 U (jj (o:=FQ) s U U) U;refine jk (o:=FQ) F p U U s (by k_ne) H I (λm r=> ?_) (λm r e u=> ?_)<|t.ft A A D
  .simp only[uG,FQ];go_simp
  .simp[go_sem,FQ,vi,UZ,J,h16]at u
 |12,_=>
  have h25:a.tmps[25]?=Â (À<|Â ⟨an,pl,Á⟩):=p.fN 11 FQ 25 U (jj (o:=FR) s U U) U;have Po:a.tmps[24]?=Â (á x):=p.fN 10 FP 24 U (jj (o:=FR) s U U) U;have J:(l.w.cell? ⟨an,pl,Á⟩).isSome=Ó:=t.gf.rM _ U e2;have FL:l.w.frozen? ⟨an,pl,Á⟩=Í:=(t.gf.fC _<|Ã D).trans z2;have nk:tB l ⟨an,pl,Á⟩:=Ç (by rwa[t.gf.Oc]);refine UT (o:=FR) (y:=⟨an,pl,Á⟩) (v:=á x) F p U U U s (by k_ne) H I U nk J FL (λw E e=> ?_) (λw E e=> ?_) λm r=> ?_
  .let⟨u,hu⟩:=Ö.1 E;simp only[FR];go_simp
  .let⟨u,hu⟩:=Ö.1 E;simp[go_sem,FR,h25,Po,â _ _ _ _ _ _ (show Ú (á x)=Ó from rfl),hu,e]
  .have Y:=t.gf.iB V T (x:=⟨an,pl,Á⟩) (v:=á x) U U J;refine⟨Y.fZ T ⟨r.fh,r.fu,r.fg,r.fC,r.ia⟩,λq=> ?_,λq=> ?_⟩
   .rw[é Í A]at q;exact t.zI q
   .exact(r.fg _<|by rw[t.gf.C];exact Ã D).trans<|xN (Ö.1 J).choose_spec
 |n+13,h=>exact absurd h Z
end
def Cz:Array å:=#[⟨Â 6,.recv 165 (Ò 5) Ó,0, "work.go:63",#[],Á⟩,⟨Â 7,Š (Ò 6) 1,4, "work.go:63",#[⟨0,Õ⟩],Á⟩]
def aaR:Array å:=#[⟨Â 8,Š (Ò 6) 0,155, "work.go:63",#[],Á⟩,⟨Â 4,.alloc 155,0, "work.go:63",#[],Á⟩,⟨Á,ŷ 155 (Ò 4)<|Ò 8,0, "work.go:63",#[⟨1,Õ⟩,⟨0,Õ⟩,⟨0,Ì⟩,⟨1,Ì⟩],Á⟩]
def Vb:Array å:=#[⟨Â 9,ë 155 (Ò 4) 2,0, "work.go:64",#[],Á⟩,⟨Â 10,č 86<|Ò 9,86, "work.go:64",#[⟨0,Õ⟩],Á⟩,⟨Â 11,ĕ<|Ò 10,0, "work.go:64",#[⟨1,Õ⟩],Á⟩,⟨Â 12,ë 105 (Ò 11) 0,0, "work.go:64",#[⟨2,Õ⟩],Á⟩,⟨Â 13,Ď {callee:=ü<|ċ 53,args:=#[Ò 12],argTypes:=#[97]},0, "work.go:64",#[⟨3,Õ⟩],Á⟩]
def Iz:ġ:=((ŗ (Ò 7) Ř<|ř 0).seq<|Ħ 1<|(ß 2 aaR Í).seq<|(ß 3 Vb Í).seq<|ß 4 zL Ó)
def FT:ġ:=(ß 1 Cz Í).seq Iz
def akJ:Array å:=#[⟨Â 2,č 101<|Ò 0,101, "work.go:30",#[],Á⟩,
 ⟨Â 3,č 25<|Ò 1,25, "work.go:30",#[],Á⟩,
 ⟨Â 4,Ď {callee:=ü (ċ 51),args:=#[Ò 2,Ò 3],argTypes:=#[165,25]},0, "work.go:30",#[⟨0,Õ⟩,⟨1,Õ⟩],Á⟩]
def Lu(a b c d e:Ð):ç:=(base 50).at ⟨#[a,b,c,d,e],[]⟩ [Ï akJ [2]]
def qAt(t:Array Ð)(a:List ç):à:=G ((base 51).at ⟨t,[]⟩ [ö FT,ā FT,ï 0]) a
def CB(t:Array Ð)(a:List ç):à:=G ((base 51).at ⟨t,[]⟩ [Ï Cz [0,1],ö Iz,ā FT,ï 0]) a
def Pu(t:Array Ð)(a:List ç):à:=G ((base 51).at ⟨t,[]⟩ [Ï Vb [],ö<|ß 4 zL Ó,ï 1,ā FT,ï 0]) a
def Vd(t:Array Ð)(a:List ç):à:=G ((base 51).at ⟨t,[]⟩ [Ï Cz [1],ö Iz,ā FT,ï 0]) a
def aaS(t:Array Ð)(v:Ð)(a:List ç):({CB t a with frame:=(CB t a).frame.finish v}:à)=Vd (t.setIfInBounds 6 v) a:=by have:(CB t a).frame.finish v=(base 51).at (π ⟨t,[]⟩ (Â 6) v) [Ï Cz [1],ö Iz,ā FT,ï 0]:=ī _ _ _ _ _ _ _;rw[this];rfl
def zT:Ð:=Ě #[À Á,É Î 0,À Á,À Á]
structure QT(an N ch:Nat)(t:Array Ð):Prop where
 fh:t.size=26
 t1:t[1]?=Â (Æ (Â ⟨an,0,Á⟩) N N)
 t5:t[5]?=Â (ê<|Â ch)
def akK(t:Array Ð)(h:t.size=26):∃a b c d e f g i j k l m n o p q r s u v w x y z B C:Ð,t=#[a,b,c,d,e,f,g,i,j,k,l,m,n,o,p,q,r,s,u,v,w,x,y,z,B,C]:=by obtain⟨_,rfl⟩:=arrU t h;exact⟨_,_,_,_,_,_,_,_,_,_,_,_,_,_,_,_,_,_,_,_,_,_,_,_,_,_,U⟩
section
variable{Ψ:Þ->Prop}{J u:Jd}{l:fj}{t:Array Ð}{ch an N:Nat}{a:Option ã}{Q:ByteArray->Prop}{o p r s c f:Ð}{τ:fj->fj}
def aaT(a:lG l)(b:fA Ä Í J l (CB t qX)):fA Ä Í J l (qAt t qX):=by apply gZ (n:=5) a;have hF:=trivial;simp only[qAt,FT];w_go fS;u_c Ņ fS hF;exact Ë λ_ _=>b
def akL(a:lG l)(d:¬l.q)(e:iW l ⟨k,0,Á⟩)(g:iW l ⟨b,0,Á⟩)(i:iW l ⟨n,0,Á⟩)(j:l.w.cell? ⟨k,0,Á⟩=Â (ď (þ 50) #[] #[À<|Â ⟨b,0,Á⟩,À<|Â ⟨n,0,Á⟩]))(u:l.w.cell? ⟨b,0,Á⟩=Â (ê<|Â ch))(v:l.w.cell? ⟨n,0,Á⟩=Â (Æ (Â ⟨an,0,Á⟩) N N)) (y:∀t o p r s x z jQ c f,QT an N ch t->fA Ä Í J l (CB t [Lu x z jQ c f,Cy m o p r s,qx Ä])): fA Ä Í J l (born Ä<|sB 63 #[À<|Â ⟨m,0,Á⟩,À<|Â ⟨k,0,Á⟩] #[]):=by
 apply gZ (n:=30) a;have hF:=trivial;u_c (aaD ž gG U) fS hF;walk_nrmf κ;iterate 3 w_go fS
 u_c (aaB U U (by k_ne) U U) fS hF
 walk_nrm;repeat w_go fS
 refine Ë λ_ _=> ?_;apply qN U U (by k_ne) a d e j (λw h=>by go_simp) (λw h=>by simp[go_sem,h]);walk_nrm;apply gZ (n:=30) a;u_c (aaC U U (by k_ne) U U Β gG U) fS hF;walk_nrmf Tryz.f50;w_go fS;refine Ë λ_ _=> ?_;apply qN U U (by k_ne) a d g u (λw h=>by go_simp) (λw h=>by simp[go_sem,h]);walk_nrm;apply qN U U (by k_ne) a d i v (λw h=>by go_simp) (λw h=>by simp[go_sem,h]);walk_nrm;apply gZ (n:=30) a;u_call Γ gG Tryz.f51 fS hF;iterate 6 w_go fS
 refine Ë λ_ _=> ?_;exact aaT a<|y _ _ _ _ _ _ _ _ _ _ ⟨U,U,U⟩
def akM{task:Ð}(G:ic l)(M:¬l.q)(P:l.d=0)(hT:QT an N ch t)(hB:60<=i)(akN:task=Ě #[À a,É Î j7,À<|Â ⟨j9,0,Á⟩,À O])(Q:l.K ⟨j9,0,Á⟩/\l.K ⟨j9,1,Á⟩)(Lv:pz j9 l.w) (Ve:l.K ⟨j,0,Á⟩/\l.K ⟨j,1,Á⟩) (hsa:pz j l.w) (hs:iW l ⟨m,0,Á⟩) (hc:l.w.cell? ⟨m,0,Á⟩=Â (À<|Â ⟨j,0,Á⟩)) (akO:∀H k t',jB (λ_=>False) l H->H.d=0->H.O k->H.w.cell? ⟨k,0,Á⟩=Â (À a)->H.w.cell? ⟨k,1,Á⟩=Â (É Î j7)->H.w.cell? ⟨k,2,Á⟩=Â (À<|Â ⟨j9,0,Á⟩)->QT an N ch t'->t'[4]?=Â (À<|Â ⟨k,0,Á⟩)->u H (Pu t' [Lu x z jQ c f,Cy m o p r s,qx Ä])): AJ Ä Í ch zT (λb=>match b with
  |some v=>λl g=>v=task->uq Ä Í i j9 u .jy l g
  |none=>λl g=>B6 Ä Í j (Ia Ä) (mo l) g) l (CB t [Lu x z jQ c f,Cy m o p r s,qx Ä]):=by
 obtain⟨y0,y1,y2,y3,y4,y5,y6,y7,y8,y9,vM,yp,xb,sD,tD,sF,xc,uB,uC,uD,tE,tF,tH,tJ,uE,vN,rfl⟩:=akK t hT.fh;obtain rfl:y1=Æ (Â ⟨an,0,Á⟩) N N:=by simpa using hT.t1
 obtain rfl:y5=ê (Â ch):=by simpa using hT.t5
 have hF:=trivial;refine⟨U,U,λD=> ?_,λb=> ?_⟩
 .refine(Λ (cases:=#[rcase ch zT]) (blocking:=Ó) (shape:=.recv Ó) (w':=D) rfl rfl (by k_ne) ?_).trans ?_
  .simp[go_sem,Cz,đ,rcase,zT]
  .simp[listed,go_sem,Cz,đ,Ĳ];rfl
 cases b with
 |none=>
  rw[aaS];simp only[Vd,Iz,Cz,Option.getD_none,Ľ,Ĝ,ľ,Ŀ];apply gZ (n:=30) G.lw;iterate 6 w_go fS
  u_leave0 Γ fS hF
  iterate 2 w_go fS
  u_leave0 Β fS hF
  refine Ë λ_ _=> ?_;exact aaP (Ψ:=λ_=>True) Ve ⟨Ã Ve.1,Ã Ve.2,λ_ _ _ _ _ _ _ _=>trivial⟩ ⟨G.lw,hsa,trivial⟩ P M hs hc
 |some v=>
  by_cases hv:v=task
  .subst hv;subst akN;apply fA.ft λl g h _=>h;rw[aaS];simp only[Vd,Iz,Cz,ő,Option.isSome_some,Ĝ,ľ,Ŀ];apply gZ (n:=30) G.lw;iterate 7 w_go fS
   u_c Ņ fS hF
   simp only[aaR,ņ,Œ,Ŝ,ű,Ė,ä,List.range.loop];w_go fS;refine Ë λ_ _=> ?_;have vP:∀y:ã,False->l.Oc y:=λy ha=>ha.elim;refine Ll (ob:=Ê #[À Á,É Î 0,À Á,À Á] 155) U U (by k_ne) G.lw M (λw=>by go_simp) (λw=>by simp[go_sem]) λD rC=> ?_;walk_nrm;have T:jB (λ_=>False) l (iM l D<|Ê #[À Á,É Î 0,À Á,À Á] 155):=Pq G vP rC;have qP:(iM l D<|Ê #[À Á,É Î 0,À Á,À Á] 155).w.heap[D.heap.size]?=Â (Ê #[À Á,É Î 0,À Á,À Á] 155):=qy;have xe:=rC.fh;have I:(iM l D<|Ê #[À Á,É Î 0,À Á,À Á] 155).O D.heap.size:=Ç U;generalize iM l D (Ê #[À Á,É Î 0,À Á,À Á] 155)=l₁ at T qP I|-;generalize D.heap.size=k at qP I xe|-;refine yl U U (by k_ne) λC vR=> ?_;have J:=(vR.fu k<|Ã I).trans qP;have IA:C.cell? ⟨k,0,Á⟩=Â (À Á):=by simp[Ù,J]
   have AV:C.cell? ⟨k,1,Á⟩=Â (É Î 0):=by simp[Ù,J]
   have uH:C.cell? ⟨k,2,Á⟩=Â (À Á):=by simp[Ù,J]
   have yu:C.cell? ⟨k,3,Á⟩=Â (À Á):=by simp[Ù,J]
   have hz:∀g,C.frozen? ⟨k,g,Á⟩=Í:=λg=>by simp[ð,J]
   go_simp;refine⟨{l₁ with w:=jS C k (À a) (É Î j7) (À<|Â ⟨j9,0,Á⟩) (À O)},Pr (oA T.fG vR) (by rwa[T.q]) I AY (λg F=>Cv F) ⟨U,U,U⟩ λe L=> ?_,?_⟩
   .have E:=ě L;have B:∀g,tB l₁ ⟨k,g,Á⟩:=λg=>Ã I;simp[go_sem,â _ _ _ _ _ _ (show Ú (À a)=Ó from rfl),â _ _ _ _ _ _ (show Ú (À<|Â ⟨j9,0,Á⟩)=Ó from rfl),â _ _ _ _ _ _ (show Ú (À O)=Ó from rfl),IA,AV,uH,yu,hz]at E;rcases E with rfl|rfl|rfl|rfl
    .exact(B _).wr
    .exact(B _).wr
    .exact(B _).wr
    .exact(B _).wr
   obtain⟨V,W,L,c3⟩:=U4 IA AV uH yu;have E:=U5 (w':=jS C k (À a) (É Î j7) (À<|Â ⟨j9,0,Á⟩)<|À O) G vP T vR xe AY λg F=>Cv F;have X:({l₁ with w:=jS C k (À a) (É Î j7) (À<|Â ⟨j9,0,Á⟩) (À O)}:fj).O k:=I;replace V:({l₁ with w:=jS C k (À a) (É Î j7) (À<|Â ⟨j9,0,Á⟩) (À O)}:fj).w.cell? ⟨k,0,Á⟩=_:=V;replace W:({l₁ with w:=jS C k (À a) (É Î j7) (À<|Â ⟨j9,0,Á⟩) (À O)}:fj).w.cell? ⟨k,1,Á⟩=_:=W;replace L:({l₁ with w:=jS C k (À a) (É Î j7) (À<|Â ⟨j9,0,Á⟩) (À O)}:fj).w.cell? ⟨k,2,Á⟩=_:=L;generalize({l₁ with w:=jS C k (À a) (É Î j7) (À<|Â ⟨j9,0,Á⟩) (À O)}:fj)=l₂ at V W L E X|-;have Y:=E.gk G;have rO:¬l₂.q:=by rwa[E.q]
   apply gZ (n:=9) Y.lw;iterate 2 w_go fS
   u_c Ņ fS hF
   simp only[Vb,ņ,Œ,Ŝ,ű,Ė,ä,List.range.loop];w_go fS;refine Ë λ_ _=> ?_;apply qN U U (by k_ne) Y.lw rO (Ã<|Ã X) L (λw h=>by go_simp) (λw h=>by simp[go_sem,h]);walk_nrm;apply gZ (n:=9) Y.lw;iterate 2 w_go fS
   u_call uA.f_wait (nm_wait Lk) waitFn fS hF
   refine Ë λ_ _=> ?_;have k2:nP (λw=>fU l₂ l₂.w w) l₂ j9:=⟨Ã (by rw[E.K];exact Q.1),Ã (by rw[E.K];exact Q.2),λw D h1 h2 h3 h4 h5 h=>h.fl ⟨h1,h2,h3,h4,h5⟩⟩;have s2:SW (λw=>fU l₂ l₂.w w) l₂ j9 l₂.w:=⟨Y.lw,⟨E.ia _ Q.1 Lv.1,E.ia _ Q.2 Lv.2⟩,fU.fY _ _⟩;refine aaz uA hB k2 s2 (E.d.trans P) λD aaU=> ?_;walk_nrm;refine .fO λAZ F=> ?_;have B:=E.fZ vP<|aaU.2.2.fl ⟨F.fh,F.fu,F.fg,F.fC,F.ia⟩;have hdd:=E.d.trans P;have FU:jB (λ_=>False) l ({l₂ with d:=0,w:=AZ}:fj):=⟨B.O,B.fN,B.Rd,B.Oc,B.Rc,B.K,B.q,P.symm,B.fG,B.fh,B.fu,B.fg,B.fC,B.ia,B.rM⟩;have rr:=aaU.2.2.fl ⟨F.fh,F.fu,F.fg,F.fC,F.ia⟩;have cc:∀g,AZ.cell? ⟨k,g,Á⟩=l₂.w.cell? ⟨k,g,Á⟩:=λg=>iF<|rr.fu k<|Ã X;exact akO {l₂ with d:=0,w:=AZ} k _ FU U X ((cc 0).trans V) ((cc 1).trans W) ((cc 2).trans L) ⟨U,U,U⟩ U
  .exact .fO λ_ _ e=>absurd e hv
end
section
variable{J:Jd}{l:fj}{Q:ByteArray->Prop}
def akP(f:ic l)(C:¬l.q)(g:QT n i j d)(L:d[4]?=Â (À<|Â ⟨m,0,Á⟩))(M:l.O m) (c0:l.w.cell? ⟨m,0,Á⟩=Â (À O)) (c1:l.w.cell? ⟨m,1,Á⟩=Â (É Î k)) (N:l.w.cell? ⟨m,2,Á⟩=Â (À<|Â ⟨b,0,Á⟩)) (P:l.Rc ⟨b,2,Á⟩) (T:l.w.cell? ⟨b,2,Á⟩=Â v) (p:l.Oc ⟨n,k,Á⟩) (V:(l.w.cell? ⟨n,k,Á⟩).isSome=Ó) (W:l.w.frozen? ⟨n,k,Á⟩=Í) (X:k<i) (Y:∀e,jB (λa=>a=⟨n,k,Á⟩) l e->∀D E,fA Ä Í (λl'' g'=>l''.d=e.d/\∃F,g'=G (D.finish<|á F) E/\Q F) (oB e)<|G (Ĉ Ä 67 #[v,À O] ĥ)<|D::E) (hJ:∀e x H,jB (λa=>a=⟨n,k,Á⟩) l e->Q x->e.w.cell? ⟨n,k,Á⟩=Â (á x)->QT n i j H->J e (CB H qX)): fA Ä Í J l (Pu d qX):=by
 have I:∀y:ã,y=⟨n,k,Á⟩->l.Oc y:=λy ha=>by rwa[ha]
 have hF:=trivial;apply gZ (n:=3) f.lw;simp only[Pu];w_go fS;refine Ë λ_ _=> ?_;refine UQ (II zL d (uG m b n i k (À O) v)<|Ix l n k Q) f.lw C (λo h=> ?_) (λs t a l c o u r=>akH f C g.fh g.t1 L M c0 c1 N P T p V W X Y s t a l c o u r) λs t a lX u z B=> ?_
 .refine⟨ByteArray.empty,pC.jy _ _ _,(jB.fY f.lw).fZ I ⟨h.fh,h.fu,h.fg,h.fC,h.ia⟩,λq=> ?_,λq=> ?_⟩<;>exact absurd q A
 let⟨x,o,h⟩:=u;have K:∀c∈ä 13,t.getD c Í=Ó:=by
  cases s
  .exact tC B z (ä 13) [] gG λc r=>by cases r
  .exact tC B z (ä 13) [] gG λc r=>by cases r
  .exact tC B z (ä 13) [] gG λc r=>by cases r
 have s:=h.gf.gk f;let⟨z,B⟩:=a;obtain rfl:B=[]:=o.Cs;have b1:=(o.gd A).trans g.t1;have b5:=(o.gd A).trans g.t5;have bs:=o.fh.trans g.fh;have akQ:=h.zI<|K 10 A;have U9:=h.Iy<|K 12 A;apply gZ (n:=9) s.lw;iterate 3 w_go fS
 refine Ë λ_ _=> ?_;refine aaT s.lw (.fO λw₁ r=> ?_);exact hJ {lX with w:=w₁} x z (h.gf.fZ I r) akQ ((r.fg _<|Ã<|by rwa[h.gf.Oc]).trans U9) ⟨bs,b1,b5⟩
end
structure gU(X:Nat->Prop)(l l':fj):Prop where
 O:∀j,l.O j->l'.O j
 fN:∀j,l'.O j->l.O j\/l.w.heap.size<=j
 Rd:l'.Rd=l.Rd
 Oc:l'.Oc=l.Oc
 Rc:l'.Rc=l.Rc
 K:l'.K=l.K
 q:l'.q=l.q
 d:l'.d=l.d
 fG:lG l'
 fh:l.w.heap.size<=l'.w.heap.size
 fu:∀j,l.M j->¬X j->l'.w.heap[j]?=l.w.heap[j]?
 fg:∀a,l.C a->l'.w.cell? a=l.w.cell? a
 fC:∀a,l.C a->l'.w.frozen? a=l.w.frozen? a
 ia:∀a,l.K a->(l.w.cell? a).isSome=Ó->(l'.w.cell? a).isSome=Ó
section
variable{l l' l'':fj}
def gU.fY(h:lG l):gU X l l:=⟨λ_ h=>h,λ_ h=>Ã h,U,U,U,U,U,U,h,Û _,λ_ _ _=>rfl,λ_ _=>rfl,λ_ _=>rfl,λ_ _ h=>h⟩
def gU.C(h:gU X l l'):l'.C=l.C:=by unfold fj.C;rw[h.Oc,h.Rc]
def gU.M(h:gU X l l')(a:l.M b):l'.M b:=a.imp (h.O b)<|by rw[h.Rd];exact id
def gU.fl(h:gU X l l')(k:gU X l' l''):gU X l l'':=by have e:=h.C;exact⟨λj c=>k.O j<|h.O j c,λj c=>(k.fN j c).elim (h.fN j) λq=>Ç<|Ø h.fh q,k.Rd.trans h.Rd,k.Oc.trans h.Oc,k.Rc.trans h.Rc,k.K.trans h.K,k.q.trans h.q,k.d.trans h.d,k.fG,Ø h.fh k.fh,λj c f=>(k.fu j (h.M c) f).trans<|h.fu j c f,λa b=>(k.fg a<|by rwa[e]).trans<|h.fg a b,λa b=>(k.fC a<|by rwa[e]).trans<|h.fC a b,λa b q=>k.ia a (by rwa[h.K])<|h.ia a b q⟩
def gU.fZ(h:gU X l l'){w₁:Þ}(r:fU l' l'.w w₁):gU X l {l' with w:=w₁}:= h.fl ⟨λ_ q=>q,λ_ q=>Ã q,U,U,U,U,U,U,oA h.fG r,r.fh,λj a _=>r.fu j a,r.fg,r.fC,r.ia⟩
def gU.ft{a:Nat->Prop}(h:gU X l l')(c:∀j,l.M j->X j->a j):gU a l l':=⟨h.O,h.fN,h.Rd,h.Oc,h.Rc,h.K,h.q,h.d,h.fG,h.fh,λj b e=>h.fu j b λq=>e<|c j b q,h.fg,h.fC,h.ia⟩
def gU.gk(h:gU X l l')(s:ic l):ic l' where
 lD b hb:=by
  rw[h.Rd];rcases h.fN b hb with q|q
  .exact s.lD b q
  .exact λz=>by have:=s.fG b<|Ç z;omega
 lE a ha:=by rw[h.Rc];exact s.lE a<|by rwa[<-h.Oc]
 fX a ha hb:=by
  rw[h.C]at ha;rcases hb with q|q
  .rcases h.fN _ q with z|z
   .exact s.fX a ha<|Ã z
   .have:=s.nK a ha;omega
  .rw[h.Rd]at q;exact s.fX a ha<|Ç q
 fG b hb:=by
  rcases hb with q|q
  .exact h.fG b q
  .rw[h.Rd]at q;exact È (s.fG b<|Ç q) h.fh
 nK a ha:=by rw[h.C]at ha;exact È (s.nK a ha) h.fh
 k9 a ha:=by
  rw[h.K]at ha;let⟨c,d,e⟩:=s.k9 a ha;refine⟨λq=> ?_,È d h.fh,by rwa[h.Oc]⟩;rcases q with q|q
  .rcases h.fN _ q with z|z
   .exact c<|Ã z
   .omega
  .rw[h.Rd]at q;exact c<|Ç q
def qT{ob:Θ}(s:ic l){w₁:Þ}(r:fU l l.w w₁):gU X l (iM l w₁ ob):=by have h:=Pq (E:=λ_=>False) (ob:=ob) s (λ_ q=>q.elim) r;exact⟨h.O,h.fN,h.Rd,h.Oc,h.Rc,h.K,h.q,h.d,h.fG,h.fh,λj b _=>h.fu j b,λa c=>h.fg a c id,h.fC,h.ia⟩
def Pv{w':Þ}{p:Nat}(s:ic l)(r:fU l l.w u)(c:l.O p)(g:X p)(d:w'.heap.size=u.heap.size)(b:∀j,j≠p->w'.heap[j]?=u.heap[j]?):gU X l {l with w:=w'}:=by
 have f:∀a:ã,l.C a->a.block≠p:=λa h e=>s.fX a h<|Ã<|e▸c;refine⟨λ_ q=>q,λ_ q=>Ã q,U,U,U,U,U,U,λj q=> ?_,?_,λj q n=> ?_,λa q=> ?_,λa q=> ?_,λa q z=> ?_⟩
 .show j<w'.heap.size;rw[d];exact È (s.fG j<|Ã q) r.fh
 .show l.w.heap.size<=w'.heap.size;rw[d];exact r.fh
 .exact(b j λe=>n<|e▸g).trans<|r.fu j q
 .exact(iF<|b _<|f a q).trans<|r.fg a q
 .exact(AH<|b _<|f a q).trans<|r.fC a q
 .show(w'.cell? a).isSome=Ó;rw[iF (b a.block λe=>(s.k9 a q).1<|Ã<|e▸c)];exact r.ia a q z
end
section
variable{main:Bool}{J:Jd}{l:fj}{b:ç}{a:Ů}{k:List ů}{cs:List ç}{rest:List Nat}{ob:Θ}
def uI{V:Nat->Ð}(d:Q[i]?=Â o)(e:ğ o (Ź Q a.tmps)=Ó)(f:b.kind≠Ι)(g:lG l)(h:¬l.q) (j:∀w,(đ a.eval o).run P w=.ok (.value<|V w.heap.size) (w.alloc ob)) (m:∀w,(đ a.eval o).events P w #[]=#[]) (n:∀c,fU l l.w c->fA P main J (iM l c ob) (G (b.at (a.put o.dst<|V c.heap.size)<|Ï Q rest::k) cs)):fA P main J l (G (b.at a<|Ï Q (i::rest)::k) cs):=by
 refine yl d e f λc r=> ?_;rw[j c];refine⟨_,?_,n c r⟩;have:listed P b.fn a o c=#[]:=by unfold listed;rw[m c,Ĳ]
 rw[this];exact aaQ (oA g r) h
def Lw{p off:Nat}{u:Ð}(m:Q[i]?=Â o)(n:ğ o (Ź Q a.tmps)=Ó)(s:b.kind≠Ι)(t:lG l)(x:¬l.q)(c:l.O p)(f:l.w.cell? ⟨p,off,Á⟩=Â u)(y:l.w.frozen? ⟨p,off,Á⟩=Í)(z:o.dst=Á) (B:∀w,w.cell? ⟨p,off,Á⟩=Â u->w.frozen? ⟨p,off,Á⟩=Í->(đ a.eval o).run P w=.ok .skip (w.setCell ⟨p,off,Á⟩ v)) (C:∀w,w.cell? ⟨p,off,Á⟩=Â u->w.frozen? ⟨p,off,Á⟩=Í->(đ a.eval o).events P w #[]=#[⟨Ā ⟨p,off,Á⟩,Ó,Í⟩]) (D:fA P main J {l with w:=l.w.setCell ⟨p,off,Á⟩ v} (G (b.at a<|Ï Q rest::k) cs)):fA P main J l (G (b.at a<|Ï Q (i::rest)::k) cs):=by
 have E:iW l ⟨p,off,Á⟩:=Ã<|Ã c;refine yl m n s λg r=> ?_;have d:=(E.fg r).trans f;have j:=(AH<|r.fu p<|Ã c).trans y;rw[B g d j];refine⟨_,aaL U (oA t r) x (Ã c) λe h=> ?_,?_⟩
 .have:=ě h;rw[C g d j]at this;have:e=⟨Ā ⟨p,off,Á⟩,Ó,Í⟩:=by simpa using this
  subst this;exact tB.wr<|Ã c
 .have:(a.put o.dst Å)=a:=by rw[z];rfl
  rw[this];exact D.fZ<|Cp<|aaK U (by rw[f];rfl) (by rw[d];rfl) r
def o0(l:fj)(w₁ a:Þ):fj:={l with O:=λb=>l.O b\/(w₁.heap.size<=b/\b<a.heap.size),w:=a}
def Vf(s:ic l){w₁:Þ}(r:fU l l.w w₁){a:Option Nat}(d:w₁.grownBy u a)(c:∀k,a=Â k->l.O k/\X k):gU X l (o0 l w₁ u):=by
 have i:=r.fh;have m:=d.size;have b:∀j,j<l.w.heap.size->Â j≠a->u.heap[j]?=w₁.heap[j]?:=λj o g=>d.block j Z g;have f:∀x:ã,l.C x->Â x.block≠a:=λx h e=>s.fX x h<|Ã (c _ e.symm).1;refine⟨λ_ q=>Ã q,λj q=>q.imp id λz=>by omega,U,U,U,U,U,U,λj q=> ?_,?_,λj q n=> ?_,λx q=> ?_,λx q=> ?_,λx q z=> ?_⟩
 .show j<u.heap.size;rcases q with q|q
  .have:=s.fG j<|Ã q;omega
  .exact q.2
 .show l.w.heap.size<=u.heap.size;omega
 .exact(b j (s.fG j q) λe=>n (c j e.symm).2).trans<|r.fu j q
 .exact(iF<|b _ (s.nK x q)<|f x q).trans<|r.fg x q
 .exact(AH<|b _ (s.nK x q)<|f x q).trans<|r.fC x q
 .show(u.cell? x).isSome=Ó;rw[iF (b x.block (s.k9 x q).2.1 λe=>(s.k9 x q).1<|Ã (c _ e.symm).1)];exact r.ia x q z
def rP{w₁:Þ}{sz:Nat}{xs:List Ð}(h:w.ownsRow i e sz v n xs)(a:∀k,v.ownBlock=Â k->w₁.heap[k]?=w.heap[k]?):w₁.ownsRow i e sz v n xs:=by refine⟨h.1,h.2.imp id ?_⟩;rintro⟨g,b,c,rfl,d,f,j⟩;exact⟨g,b,c,U,d,(a g U).trans f,j⟩
def one_at(h:w.cell? ⟨i,0,Á⟩=Â v):∀j y,[v][j]?=Â y->w.cell? ⟨i,j,Á⟩=Â y
 |0,_,e=>Ô e▸h
 |_+1,_,e=>by cases e
def ak6{r a:List Ð}(f:P.underlying t=Â (.slice e))(h:P.info? e=Â zJ)(s:zJ.zero=Â z)(k:zJ.size=j9)(B:a.length=j9)(E:(n+1)*zJ.bytes<=140737488355328)(F:n+1<=Ŧ) (l:w.ownsRow 0 e j9 v n r) (o:∀j y,a[j]?=Â y->w.cell? ((⟨m,0,Á⟩:ã).add j)=Â y) (G:∀u∈a,u.oneCell'=Ó) (b:(Builtin.append_ #[t,t] T #[v,Æ (Â ⟨m,0,Á⟩) 1 i]).run P w=.ok x W):x.ownBlock=v.ownBlock\/x.ownBlock=Â w.heap.size:=by
 have p:a.length=1*zJ.size:=by rw[k,B];omega
 have K:n+1<=9223372036854775807:=by simp only[Ŧ]at F;omega
 rcases l.2 with⟨rfl,rfl⟩|⟨g,q,C,rfl,_,H,L,M,I,N⟩
 .have d:=run_append_nil (P:=P) w t T e zJ z f h s ⟨m,0,Á⟩ 1 i a p o Z Z Z;rw[d]at b;cases b;exact Ç U
 .by_cases D:n+1<=q
  .have J:n*zJ.size+a.length<=C.size:=by
    rw[I,k,B,show n*j9+j9=(n+1)*j9 by rw[Nat.add_mul];omega];exact Nat.mul_le_mul_right _ D
   have d:=run_append_room (P:=P) w t T e zJ f h g n q C H ⟨m,0,Á⟩ 1 i a p o G D J;rw[d]at b;cases b;exact Ã U
  .have d:=run_append_grow (P:=P) w t T e zJ z f h s ⟨g,0,Á⟩ n q r (by rw[k];exact l.1) (l.cells (g:=g) U) ⟨m,0,Á⟩ 1 i a p o Z Z<|growslice_fits Z E;rw[d]at b;cases b;exact Ç U
def abe{x:Į}{inf:Ν}{c px sz:Nat}{xs us:List Ð}(ho:Q[i]?=Â o)(hw:ğ o (Ź Q a.tmps)=Ó)(hk:b.kind≠Ι)(sn:ic l)(hq:¬l.q) (W:o.op=Ď {callee:=ŧ .append,args:=#[qQ,x],argTypes:=#[t,t]}) (X:a.eval qQ=v) (Y:a.eval x=Æ (Â ⟨px,0,Á⟩) 1 c) (E:P.underlying t=Â (.slice e)) (F:P.info? e=Â inf) (H:inf.zero=Â z) (I:inf.size=sz) (kV:0<sz) (P0:us.length=sz) (tL:z.cells.size=sz) (K:(n+1)*inf.bytes<=140737488355328) (L:n+1<=Ŧ) (nk:l.w.ownsRow 0 e sz v n xs) (C:∀k,v.ownBlock=Â k->l.O k) (Lx:l.O px) (hu:∀j u,us[j]?=Â u->l.w.cell? ⟨px,j,Á⟩=Â u) (f:∀u∈us,u.oneCell'=Ó) (hn:∀d B g,fU l l.w d->g.ownsRow 0 e sz B (n+1) (xs++us)->d.grownBy g v.ownBlock->(∀k,B.ownBlock=Â k->(o0 l d g).O k)->(B.ownBlock=v.ownBlock\/B.ownBlock=Â d.heap.size)->fA P main J (o0 l d g) (G (b.at (a.put o.dst B)<|Ï Q rest::k) cs)): fA P main J l (G (b.at a<|Ï Q (i::rest)::k) cs):=by
 refine yl ho hw hk λd r=> ?_;have hM:∀k,l.O k->d.heap[k]?=l.w.heap[k]?:=λk q=>r.fu k<|Ã q;have M:=rP nk (w₁:=d) λk q=>hM k<|C k q;have N:∀j w,us[j]?=Â w->d.cell? ((⟨px,0,Á⟩:ã).add j)=Â w:=λj w h=>by rw[Ĩ,Ė];exact(iF<|hM px Lx).trans<|hu j w h
 have F8:us.length=1*sz:=Z
 let⟨B,g,jE,hown',p,yr⟩:=run_append_own (P:=P) d 0 t o.type e inf z sz inf.bytes E F H I U tL kV v n xs M ⟨px,0,Á⟩ 1 c us F8 N f L K<|ĉ _;have Hm:=events_append_where (P:=P) d 0 t o.type e inf z sz inf.bytes E F H I U v n xs M ⟨px,0,Á⟩ 1 c us F8 N f L K;have uJ:=ak6 E F H I P0 K L M N f jE;refine uponK_append qQ x t W X Y jE ⟨o0 l d g,?_,hn d B g r hown' p (λk q=> ?_) uJ⟩
 .have D3:=oA sn.lw r;have he:∀D∈listed P b.fn a o d,zG (o0 l d g) D:=λD T=>by
   have h2:=ě T;rw[events_append_op qQ x t W X Y]at h2;rcases Hm D h2 with⟨ad,V,y⟩|⟨m,rfl,Vg⟩
   .refine⟨Ã ⟨ad,V,Ã ?_⟩,by rw[V];simp,by rw[V];simp⟩;rcases y with⟨_,y⟩|y
    .exact Ã<|by rwa[y]
    .exact Ã<|C _ y.symm
   .have vy:m=.noRoom:=Vg;subst vy;exact⟨Ç<|Ã U,fB,fB⟩
  refine⟨p.size,λj q=>q.imp id λz=>z.1,λj q=> ?_,U,U,U,U,λj V f _=>p.block j V λe=>f<|C j e.symm,λy m f _=>iF (p.block _ m λe=>f<|C _ e.symm),λy m f=>zv (p.block _ m λe=>f<|C _ e.symm),p.os,p.output,p.tape,λD T=>(he D T).1,(Ld he _).symm,U,λq=>absurd q hq,U⟩;rcases q with q|q
  .exact È (D3 j q) p.size
  .exact q.2
 .have y:k<g.heap.size:=(hown'.lt k q).2;rcases uJ with m|m
  .exact Ã<|C k<|by rwa[<-m]
  .rw[m]at q;obtain rfl:=Ô q;exact Ç ⟨Û _,y⟩
end
def aaV:Array å:=#[⟨Â 25,ų (þ 48) #[] #[Ò 9,Ò 8],1, "work.go:24",#[],Á⟩,⟨Â 26,Ď {callee:=ü<|ċ 47,args:=#[Ò 12,Ò 25],argTypes:=#[97,1]},0, "work.go:24",#[⟨0,Õ⟩],Á⟩]
def aaW:Array å:=#[⟨Â 13,ĳ<|ò<|Æ Á 0 0,100, "work.go:25",#[],Á⟩]
def aaX:Array å:=#[⟨Â 27,ý<|Ò 2,3, "work.go:26",#[],Á⟩,⟨Â 28,ý<|ò<|É Î 0,3, "work.go:26",#[],Á⟩]
def Vh:Array å:=#[⟨Â 29,ń .lss 3 (Ò 28) (Ò 27) 3,4, "work.go:26",#[],Á⟩]
def aaY:Array å:=#[⟨Â 30,ý<|Ò 10,85, "work.go:28",#[],Á⟩,⟨Â 31,Ď {callee:=ŧ .len,args:=#[Ò 30],argTypes:=#[85]},3, "work.go:28",#[⟨0,Õ⟩],Á⟩,⟨Â 32,.makeChan 101<|Ò 31,101, "work.go:28",#[⟨1,Õ⟩],Á⟩,⟨Â 14,.alloc 101,0, "work.go:28",#[],Á⟩,⟨Á,ŷ 101 (Ò 14)<|Ò 32,0, "work.go:28",#[⟨3,Õ⟩,⟨2,Õ⟩,⟨0,Ì⟩,⟨1,Ì⟩,⟨2,Ì⟩,⟨3,Ì⟩],Á⟩]
def aaZ:Array å:=#[⟨Â 33,ý<|Ò 13,100, "work.go:29",#[],Á⟩,⟨Â 34,č 101<|Ò 14,101, "work.go:29",#[],Á⟩,⟨Â 35,.buildSlice 100 1 #[(0,Ò 34)],100, "work.go:29",#[⟨1,Õ⟩],Á⟩,⟨Â 36,Ď {callee:=ŧ .append,args:=#[Ò 33,Ò 35],argTypes:=#[100,100]},100, "work.go:29",#[⟨0,Õ⟩,⟨2,Õ⟩],Á⟩,⟨Â 13,ĳ<|Ò 36,100, "work.go:29",#[⟨3,Õ⟩,⟨3,Ÿ⟩,⟨0,Ì⟩,⟨1,Ì⟩,⟨2,Ì⟩,⟨3,Ì⟩],Á⟩]
def Px:Array å:=#[⟨Â 37,ų (þ 50) #[] #[Ò 14,Ò 8],1, "work.go:30",#[],Á⟩,⟨Â 38,Ď {callee:=ü<|ċ 47,args:=#[Ò 12,Ò 37],argTypes:=#[97,1]},0, "work.go:30",#[⟨0,Õ⟩],Á⟩]
def Vi:Array å:=#[⟨Â 39,ń .add 3 (Ò 28) (ò<|É Î 1) 3,3, "work.go:26",#[],Á⟩,⟨Â 28,ý<|Ò 39,3, "work.go:26",#[⟨0,Õ⟩],Á⟩]
def Py:Array å:=#[⟨Â 40,ý<|Ò 10,85, "work.go:32",#[],Á⟩,⟨Â 41,ý<|Ò 13,100, "work.go:32",#[],Á⟩,⟨Â 42,Ď {callee:=ü<|ċ 52,args:=#[Ò 40,Ò 41],argTypes:=#[85,100]},0, "work.go:32",#[⟨0,Õ⟩,⟨1,Õ⟩],Á⟩]
def Pz:Array å:=#[⟨Â 43,Ď {callee:=ü<|ċ 53,args:=#[Ò 12],argTypes:=#[97]},0, "work.go:33",#[],Á⟩]
def Ly:å:=⟨Â 44,č 25<|Ò 8,25, "work.go:34",#[],Á⟩
def Lz:å:=⟨Â 45,ý<|Ò 11,86, "work.go:34",#[{on:=5,ground:=ø Ñ}],Á⟩
def LA:å:=⟨Â 46,ĕ<|Ò 45,0, "work.go:34",#[⟨1,Õ⟩,{on:=5,ground:=ø Ñ}],Á⟩
def LB:å:=⟨Â 47,ë 105 (Ò 46) 1,0, "work.go:34",#[⟨2,Õ⟩,{on:=5,ground:=ø Ñ}],Á⟩
def LC:å:=⟨Â 48,č 65<|Ò 47,65, "work.go:34",#[⟨3,Õ⟩,{on:=5,ground:=ø Ñ}],Á⟩
def LD:å:=⟨Â 6,ĳ<|Ò 44,25, "work.go:34",#[⟨0,Õ⟩,⟨0,Ì⟩,{on:=1,ground:=Ý Ñ},{on:=2,ground:=Ý Ñ},{on:=3,ground:=Ý Ñ},{on:=4,ground:=Ý Ñ}],Á⟩
def LF:å:=⟨Â 7,ĳ<|Ò 48,65, "work.go:34",#[⟨4,Õ⟩,⟨5,Ÿ⟩,⟨0,Ì⟩,⟨1,Ì⟩,⟨2,Ì⟩,⟨3,Ì⟩,⟨4,Ì⟩,⟨5,Ì⟩],Á⟩
def A0:Array å:=#[Ly,Lz,LA,LB,LC,LD,LF]
def PE:ġ:=(ß 14 A0 Ó).seq ς
def PF:ġ:=(ß 12 Py Í).seq<|(ß 13 Pz Í).seq PE
def IB:ġ:=(ß 7 Vh Í).seq<|(ŗ (Ò 29) Ř<|ř 0).seq<|(Ħ 1<|(ß 8 aaY Í).seq<|(ß 9 aaZ Í).seq<|ß 10 Px Í).seq<|ß 11 Vi Í
def sA:ġ:=(ß 5 aaW Í).seq<|((ß 6 aaX Í).seq<|Ħ 0 IB.loop).seq PF
def FV(t:Array Ð)(a:List ç):à:=G ((base 37).at ⟨t,[]⟩ [ö IB,ā IB,ï 0,ö PF]) a
def IC(t:Array Ð):ç:=(base 37).at ⟨t,[]⟩ [Ï aaV [1],ö sA]
def PG(t:Array Ð):ç:=(base 37).at ⟨t,[]⟩ [Ï Px [1],ï 1,ö<|ß 11 Vi Í,ā IB,ï 0,ö PF]
def LG:Array å:=#[⟨Â 6,ų (þ 63) #[] #[Ò 2,Ò 3],1, "waitgroup.go:238",#[],Á⟩,
 ⟨Á,.go {callee:=ü (Ò 6),args:=#[],argTypes:=#[]},0, "waitgroup.go:238",#[⟨0,Õ⟩],Á⟩]
def tG(c d e f:Ð)(a b:Nat):Array Ð:=#[c,d,À<|Â ⟨a,0,Á⟩,À<|Â ⟨b,0,Á⟩,e,f,ď (þ 63) #[] #[À<|Â ⟨a,0,Á⟩,À<|Â ⟨b,0,Á⟩]]
def FW(a b c d:Ð)(e f:Nat)(g:List ç):à:=G ((base 47).at ⟨tG a b c d e f,[]⟩ [Ï LG [1]]) g
def LH(a b c d:Ð)(e f:Nat)(g:List ç):à:=G ((base 47).at ⟨tG a b c d e f,[]⟩ [Ï LG []]) g
def aa0(c e f g:Ð)(a b:Nat)(h:List ç)(w:Þ):stepG Ä Ó (FW c e f g a b h) w=.spawn (LH c e f g a b h) (born Ä<|sB 63 #[À<|Â ⟨a,0,Á⟩,À<|Â ⟨b,0,Á⟩] #[]) w #[]:=by
 refine(stepG_spawn (d:=sB 63 #[À<|Â ⟨a,0,Á⟩,À<|Â ⟨b,0,Á⟩] #[]) (w':=w) U U (by k_ne) ?_ U).trans ?_
 .simp[LG,đ,Ο,Ģ,ę,tG,sB]
 .have:listed Ä (base 47).fn ⟨tG c e f g a b,[]⟩ LG[1] w=#[]:=by
   unfold listed;simp[LG,đ,Ο,Ģ,ę,tG,Ĳ]
  rw[this];rfl
structure ST(ba all qz n j:Nat)(qs dv:Ð)(t:Array Ð):Prop where
 fh:t.size=49
 t8:t[8]?=Â (À<|Â ⟨ba,0,Á⟩)
 CC:t[10]?=Â qs
 CF:t[11]?=Â (À<|Â ⟨qz,0,Á⟩)
 FX:t[12]?=Â (À<|Â ⟨all,0,Á⟩)
 CG:t[13]?=Â dv
 Vj:t[27]?=Â (É Î n)
 Vk:t[28]?=Â (É Î j)
structure LJ(ba all qz n:Nat)(qs:Ð)(t:Array Ð):Prop where
 fh:t.size=49
 t2:t[2]?=Â (É Î n)
 t8:t[8]?=Â (À<|Â ⟨ba,0,Á⟩)
 CC:t[10]?=Â qs
 CF:t[11]?=Â (À<|Â ⟨qz,0,Á⟩)
 FX:t[12]?=Â (À<|Â ⟨all,0,Á⟩)
def LK(t:Array Ð)(h:t.size=49):∃a b c d e f g i j k l m n o p q r s u v w x y z B C D E F G H I J K L M N O P Q T V W X Y mH mI mJ pB:Ð,t=#[a,b,c,d,e,f,g,i,j,k,l,m,n,o,p,q,r,s,u,v,w,x,y,z,B,C,D,E,F,G,H,I,J,K,L,M,N,O,P,Q,T,V,W,X,Y,mH,mI,mJ,pB]:=by obtain⟨_,rfl⟩:=arrU t h;exact⟨_,_,_,_,_,_,_,_,_,_,_,_,_,_,_,_,_,_,_,_,_,_,_,_,_,_,_,_,_,_,_,_,_,_,_,_,_,_,_,_,_,_,_,_,_,_,_,_,_,U⟩
section
variable{Ψ:Þ->Prop}{J a:Jd}{l:fj}{t:Array Ð}{ba all qz:Nat}{qs dv:Ð}
def akT(d:lG l)(a:LJ ba all qz n qs t)(e:∀c,ST ba all qz n 0 qs (Æ Á 0 0) c->fA Ä Ó J l (FV c qX)):fA Ä Ó J l (LH v x z jQ b i<|IC t::qX):=by
 obtain⟨m,o,f,p,q,r,s,u,g,w,h,j,k,y,B,C,D,E,F,G,H,I,K,L,M,N,O,P,Q,T,V,W,X,Y,pV,pW,pA,qL,qM,rG,rH,rI,rJ,rK,nQ,mH,mI,mJ,pB,rfl⟩:=LK t a.fh;obtain rfl:f=É Î n:=by simpa using a.t2
 obtain rfl:g=À (Â ⟨ba,0,Á⟩):=by simpa using a.t8
 obtain rfl:h=qs:=by simpa using a.CC
 obtain rfl:j=À (Â ⟨qz,0,Á⟩):=by simpa using a.CF
 obtain rfl:k=À (Â ⟨all,0,Á⟩):=by simpa using a.FX
 apply gZ (n:=40) d;have hF:=trivial;simp only[LH,IC,aaV];iterate 2 w_go fS
 u_leave0 į fS hF
 simp only[sA,aaW,aaX];iterate 13 w_go fS
 refine Ë λ_ _=> ?_;exact e _ ⟨U,U,U,U,U,U,U,U⟩
def akU(d:lG l)(a:ST ba all qz n j qs dv t)(q:j<1000)(e:∀c,ST ba all qz n (j+1) qs dv c->fA Ä Ó J l (FV c qX)):fA Ä Ó J l (LH v x z jQ b i<|PG t::qX):=by
 obtain⟨r,s,u,w,y,B,C,D,f,E,g,h,k,m,F,G,H,I,K,L,M,N,O,P,Q,T,V,o,p,W,X,Y,qu,qw,pV,pW,pA,qL,qM,rG,rH,rI,rJ,rK,nQ,mH,mI,mJ,pB,rfl⟩:=LK t a.fh;obtain rfl:f=À (Â ⟨ba,0,Á⟩):=by simpa using a.t8
 obtain rfl:g=qs:=by simpa using a.CC
 obtain rfl:h=À (Â ⟨qz,0,Á⟩):=by simpa using a.CF
 obtain rfl:k=À (Â ⟨all,0,Á⟩):=by simpa using a.FX
 obtain rfl:m=dv:=by simpa using a.CG
 obtain rfl:o=É Î n:=by simpa using a.Vj
 obtain rfl:p=É Î j:=by simpa using a.Vk
 apply gZ (n:=40) d;have hF:=trivial;simp only[LH,PG,Px];iterate 2 w_go fS
 u_leave0 į fS hF
 simp only[Vi];iterate 7 w_go fS
 refine Ë λ_ _=> ?_;refine e _ ⟨U,U,U,U,U,U,U,?_⟩;simp;exact FN Z Z
end
section
variable{l l' l'':fj}
def gU.gS(h:gU X l l')(s:ic l){p off:Nat}(c:l.w.heap.size<=p):gU X l {l' with w:=l'.w.setCell ⟨p,off,Á⟩ v}:=by
 have b:∀j,j<l.w.heap.size->(l'.w.setCell ⟨p,off,Á⟩ v).heap[j]?=l'.w.heap[j]?:=λj e=>nG (by show j≠p;omega);refine⟨h.O,h.fN,h.Rd,h.Oc,h.Rc,h.K,h.q,h.d,λj q=> ?_,?_,λj q n=>(b j<|s.fG j q).trans<|h.fu j q n,λa q=>(iF<|b _<|s.nK a q).trans<|h.fg a q,λa q=>wT.trans<|h.fC a q,λa q z=>B5<|h.ia a q z⟩
 .show j<(l'.w.setCell ⟨p,off,Á⟩ v).heap.size;rw[ln];exact h.fG j q
 .show l.w.heap.size<=(l'.w.setCell ⟨p,off,Á⟩ v).heap.size;rw[ln];exact h.fh
structure jh(l:fj)(b:Nat)(o:Θ):Prop where
 fD:l.O b
 is:l.w.heap[b]?=Â o
def jh.gf{o:Θ}(h:jh l b o)(k:gU X l l')(a:¬X b):jh l' b o:=⟨k.O b h.fD,(k.fu b (Ã h.fD) a).trans h.is⟩
def jh.fg{cs:Array Ð}(h:jh l b (Ê cs e xJ))(a:cs[i]?=Â v):l.w.cell? ⟨b,i,Á⟩=Â v:=by simp[Ù,h.is,a]
end
def aa1{sz:Nat}{xs:List Ð}(h:w.ownsRow i e sz v n xs)(a:w.heap.size<=b):¬(Â b=v.ownBlock):=λq=>by have:=(h.lt b q.symm).2;omega
structure aa2(ba all q:Nat)(FY:Ð)(xs:List Ð)(ch bd bw bf:Nat)(l':fj):Prop where
 jf:l'.w.ownsRow 0 101 1 FY xs.length xs
 Vl:∀k,FY.ownBlock=Â k->l'.O k
 mh:jh l' ch (Ũ q #[] Í 0 0 Í)
 Vm:jh l' bd (Ê #[ê<|Â ch] 101)
 wg:jh l' bw (Ê #[À<|Â ⟨all,0,Á⟩] 162)
 fv:jh l' bf (Ê #[ď (þ 50) #[] #[À<|Â ⟨bd,0,Á⟩,À<|Â ⟨ba,0,Á⟩]] 1)
section
variable{g:Jd}{l:fj}{ba all q:Nat}{f:Option ã}{xs:List Ð}{cs:List ç}
def akV(s:ic l)(D:¬l.q)(hd:l.d=0)(E:ST ba all J n j (Æ f q m) x d)(Ce:j<n)(hn:n<1000)(xf:q<1000)(PH:l.K ⟨all,0,Á⟩/\l.K ⟨all,1,Á⟩)(Lv:pz all l.w) (nk:l.w.ownsRow 0 101 1 x j xs) (hO:∀k,x.ownBlock=Â k->l.O k) (hJ0:∀l' t' a i t Q y v1,gU (λb=>Â b=x.ownBlock) l l'->ST ba all J n j (Æ f q m) y t'->aa2 ba all q y (xs++[ê<|Â a]) a i t Q l'->l.w.heap.size<=a->a<i->i<t->t<Q->(∀k,y.ownBlock=Â k->k≠a/\k≠i/\k≠t/\k≠Q)->g l' (FW (À<|Â ⟨all,0,Á⟩) v1 (À<|Â ⟨all,0,Á⟩) (ñ #[]) t Q<|PG t'::cs)): fA Ä Ó (Pk Ä Ó all g) l (FV d cs):=by
 obtain⟨y0,y1,y2,y3,y4,y5,y6,y7,y8,y9,vM,yp,xb,sD,tD,sF,xc,uB,uC,uD,tE,tF,tH,tJ,uE,vN,xd,tK,rN,qR,qS,oZ,qu,qw,pV,pW,pA,qL,qM,rG,rH,rI,rJ,rK,nQ,mH,mI,mJ,pB,rfl⟩:=LK d E.fh;obtain rfl:y8=À (Â ⟨ba,0,Á⟩):=by simpa using E.t8
 obtain rfl:vM=Æ f q m:=by simpa using E.CC
 obtain rfl:yp=À (Â ⟨J,0,Á⟩):=by simpa using E.CF
 obtain rfl:xb=À (Â ⟨all,0,Á⟩):=by simpa using E.FX
 obtain rfl:x=sD:=(show sD=x by simpa using E.CG).symm;obtain rfl:tK=É Î n:=by simpa using E.Vj
 obtain rfl:rN=É Î j:=by simpa using E.Vk
 have akW:(j:Int)<(n:Int):=Z
 have hF:True:=trivial;apply gZ (n:=40) s.lw;simp only[FV,IB,Vh,aaY];repeat w_go fS
 refine Ë λ_ _=> ?_;have IF:Ä.info? 155=Â Ċ:=Ň;refine uI (V:=λp=>ê<|Â p) (ob:=Ũ q #[] Í 0 0 Í) U U (by k_ne) s.lw D (λw=> ?_) (λw=> ?_) λI rC=> ?_
 .have e:=run_makeChan (P:=Ä) (w:=w) ŀ IF Î q Z (by simp[Ċ];omega);go_simp
 .have e:=events_makeChan (P:=Ä) (w:=w) ŀ IF Î q Z (by simp[Ċ];omega) #[];simp[go_sem,e]
 walk_nrm;have yq:gU (λ_=>False) l (iM l I<|Ũ q #[] Í 0 0 Í):=qT s rC;have c1:jh (iM l I<|Ũ q #[] Í 0 0 Í) I.heap.size (Ũ q #[] Í 0 0 Í):=⟨Ç U,qy⟩;have hch:l.w.heap.size<=I.heap.size:=rC.fh;generalize iM l I (Ũ q #[] Í 0 0 Í)=l₁ at yq c1|-;generalize I.heap.size=a at c1 hch|-;have A1:=yq.gk s;have aa3:¬l₁.q:=by rwa[yq.q]
 refine uI (V:=λp=>À<|Â ⟨p,0,Á⟩) (ob:=Ê #[ê Á] 101) U U (by k_ne) A1.lw aa3 (λw=>by go_simp) (λw=>by simp[go_sem]) λT vR=> ?_;walk_nrm;have LL:gU (λ_=>False) l (iM l₁ T<|Ê #[ê Á] 101):=yq.fl<|qT A1 vR;have c2:=c1.gf (qT (X:=λ_=>False) (ob:=Ê #[ê Á] 101) A1 vR) id;have F:jh (iM l₁ T<|Ê #[ê Á] 101) T.heap.size (Ê #[ê Á] 101):=⟨Ç U,qy⟩;have N0:a<T.heap.size:=È (A1.fG a<|Ã c1.fD) vR.fh;generalize iM l₁ T (Ê #[ê Á] 101)=l₂ at LL c2 F|-;generalize T.heap.size=i at F N0|-;clear c1 yq aa3 A1 vR l₁;have vS:=LL.gk s;have rO:¬l₂.q:=by rwa[LL.q]
 refine Lw (p:=i) (off:=0) (v:=ê<|Â a) (u:=ê Á) U U (by k_ne) vS.lw rO F.fD (F.fg U) (by simp[ð,F.is]) U (λw h1 h2=>by go_simp) (λw h1 h2=>by simp[go_sem,h1,h2]) ?_;have L:gU (λ_=>False) l {l₂ with w:=l₂.w.setCell ⟨i,0,Á⟩ (ê<|Â a)}:=LL.gS s Z;have c3:jh {l₂ with w:=l₂.w.setCell ⟨i,0,Á⟩ (ê<|Â a)} a (Ũ q #[] Í 0 0 Í):=⟨c2.fD,(nG<|by show a≠i;omega).trans c2.is⟩;have W:jh {l₂ with w:=l₂.w.setCell ⟨i,0,Á⟩ (ê<|Â a)} i (Ê #[ê<|Â a] 101):=⟨F.fD,by show(l₂.w.setCell ⟨i,0,Á⟩<|ê<|Â a).heap[i]?=_;unfold Ą;simp[î,F.is]⟩;generalize({l₂ with w:=l₂.w.setCell ⟨i,0,Á⟩ (ê<|Â a)}:fj)=lX at L c3 W|-;clear c2 F LL vS rO l₂;have M:=L.gk s;have yt:¬lX.q:=by rwa[L.q]
 have CH:∀k,x.ownBlock=Â k->lX.O k:=λk e=>L.O k<|hO k e;have PK:lX.w.ownsRow 0 101 1 x j xs:=rP nk λk e=>L.fu k (Ã<|hO k e) id;apply gZ (n:=10) M.lw;simp only[aaZ,Px];iterate 4 w_go fS
 refine Ë λ_ _=> ?_;apply qN (x:=⟨i,0,Á⟩) U U (by k_ne) M.lw yt (Ã<|Ã W.fD) (W.fg U) (λw h=>by go_simp) (λw h=>by simp[go_sem,h]);walk_nrm;refine uI (V:=λp=>Æ (Â ⟨p,0,Á⟩) 1 1) (ob:=Ê #[ê<|Â a] 101) U U (by k_ne) M.lw yt (λw=>by go_simp) (λw=>by simp[go_sem]) λG FZ=> ?_;walk_nrm;have FU:gU (λ_=>False) l (iM lX G<|Ê #[ê<|Â a] 101):=L.fl<|qT M FZ;have k4:=qT (X:=λ_=>False) (ob:=Ê #[ê<|Â a] 101) M FZ;have c4:=c3.gf k4 id;have d4:=W.gf k4 id;have Y:jh (iM lX G<|Ê #[ê<|Â a] 101) G.heap.size (Ê #[ê<|Â a] 101):=⟨Ç U,qy⟩;have Lx:i<G.heap.size:=È (M.fG i<|Ã W.fD) FZ.fh;have A2:∀k,x.ownBlock=Â k->(iM lX G<|Ê #[ê<|Â a] 101).O k:=λk e=>Ã<|CH k e;have F0:=rP PK (w₁:=(iM lX G<|Ê #[ê<|Â a] 101).w) λk e=>k4.fu k (Ã<|CH k e) id;generalize iM lX G (Ê #[ê<|Â a] 101)=l₄ at FU c4 d4 Y A2 F0|-;generalize G.heap.size=px at Y Lx|-;clear c3 W L M yt CH PK k4 FZ lX;have CI:=FU.gk s;have F1:¬l₄.q:=by rwa[FU.q]
 have akX:Ä.info? 101=Â Ŵ:=Tryz.type101;refine abe (v:=x) (us:=[ê<|Â a]) (px:=px) (c:=1) (n:=j) (xs:=xs) (inf:=Ŵ) (z:=ê Á) U U (by k_ne) CI F1 U U U Tryz.underlying100 akX U U Nat.one_pos U U (by simp[Ŵ];omega) (by simp only[Ŧ];omega) F0 A2 Y.fD (one_at<|Y.fg U) (λ_ o=>List.mem_singleton.1 o▸rfl) λvU y N F2 wR LN zM uJ=> ?_;walk_nrm;have aa4:∀b,l.w.heap.size<=b->¬(Â b=x.ownBlock):=λb hb=>aa1 nk hb;have k5:gU (λb=>Â b=x.ownBlock) l₄ (o0 l₄ vU N):=Vf CI F2 LN λk e=>⟨A2 k e,e.symm⟩;have zN:gU (λb=>Â b=x.ownBlock) l (o0 l₄ vU N):=(FU.ft λ_ _ q=>q.elim).fl k5;have c5:=c4.gf k5<|aa4 a Z;have d5:=d4.gf k5<|aa4 i Z;have hl4:px<vU.heap.size:=È (CI.fG px<|Ã Y.fD) F2.fh;have PL:∀k,y.ownBlock=Â k->k<N.heap.size/\k≠a/\k≠i:=λk e=>by
  have o:=(wR.lt k e).2;rcases uJ with z|z
  .rw[z]at e;have:=(nk.lt k e).2;exact⟨o,Z,Z⟩
  .rw[z]at e;obtain rfl:=Ô e;exact⟨o,Z,Z⟩
 have A3:(o0 l₄ vU N).w.ownsRow 0 101 1 y (j+1) (xs++[ê<|Â a]):=wR;have Vo:(o0 l₄ vU N).w.heap.size=N.heap.size:=U;generalize o0 l₄ vU N=xg at zN c5 d5 A3 zM Vo|-;rw[<-Vo]at PL;clear k5 LN wR uJ c4 d4 Y FU CI F1 A2 F0 F2 l₄ Vo;have A4:=zN.gk s;have hq5:¬xg.q:=by rwa[zN.q]
 apply gZ (n:=20) A4.lw;iterate 4 w_go fS
 u_call į gG ν fS hF
 iterate 2 w_go fS
 refine Ë λ_ _=> ?_;refine uI (V:=λp=>À<|Â ⟨p,0,Á⟩) (ob:=Ê #[À<|Â ⟨all,0,Á⟩] 162) U U (by k_ne) A4.lw hq5 (λw=>by go_simp) (λw=>by simp[go_sem]) λB PN=> ?_;walk_nrm;have k6:=qT (X:=λ_=>False) (ob:=Ê #[À<|Â ⟨all,0,Á⟩] 162) A4 PN;have F3:gU (λb=>Â b=x.ownBlock) l (iM xg B<|Ê #[À<|Â ⟨all,0,Á⟩] 162):=zN.fl (k6.ft λ_ _ q=>q.elim);have c6:=c5.gf k6 id;have d6:=d5.gf k6 id;have g6:jh (iM xg B<|Ê #[À<|Â ⟨all,0,Á⟩] 162) B.heap.size (Ê #[À<|Â ⟨all,0,Á⟩] 162):=⟨Ç U,qy⟩;have F4:i<B.heap.size:=È (A4.fG i<|Ã d5.fD) PN.fh;have LO:∀k,y.ownBlock=Â k->k<B.heap.size/\k≠a/\k≠i:=λk e=>⟨È (PL k e).1 PN.fh,(PL k e).2⟩;have PO:∀k,y.ownBlock=Â k->(iM xg B<|Ê #[À<|Â ⟨all,0,Á⟩] 162).O k:=λk e=>Ã<|zM k e;have Vp:=rP A3 (w₁:=(iM xg B<|Ê #[À<|Â ⟨all,0,Á⟩] 162).w) λk e=>k6.fu k (Ã<|zM k e) id;generalize iM xg B (Ê #[À<|Â ⟨all,0,Á⟩] 162)=F5 at F3 c6 d6 g6 PO Vp|-;generalize B.heap.size=t at g6 F4 LO|-;clear k6 c5 d5 zN A4 hq5 zM A3 PL PN xg;have PQ:=F3.gk s;have hq6:¬F5.q:=by rwa[F3.q]
 refine uI (V:=λp=>À<|Â ⟨p,0,Á⟩) (ob:=Ê #[ď (þ 50) #[] #[À<|Â ⟨i,0,Á⟩,À<|Â ⟨ba,0,Á⟩]] 1) U U (by k_ne) PQ.lw hq6 (λw=>by go_simp) (λw=>by simp[go_sem]) λH Vq=> ?_;walk_nrm;have k7:=qT (X:=λ_=>False) (ob:=Ê #[ď (þ 50) #[] #[À<|Â ⟨i,0,Á⟩,À<|Â ⟨ba,0,Á⟩]] 1) PQ Vq;have C:gU (λb=>Â b=x.ownBlock) l (iM F5 H<|Ê #[ď (þ 50) #[] #[À<|Â ⟨i,0,Á⟩,À<|Â ⟨ba,0,Á⟩]] 1):=F3.fl (k7.ft λ_ _ q=>q.elim);have c7:=c6.gf k7 id;have d7:=d6.gf k7 id;have g7:=g6.gf k7 id;have f7:jh (iM F5 H<|Ê #[ď (þ 50) #[] #[À<|Â ⟨i,0,Á⟩,À<|Â ⟨ba,0,Á⟩]] 1) H.heap.size (Ê #[ď (þ 50) #[] #[À<|Â ⟨i,0,Á⟩,À<|Â ⟨ba,0,Á⟩]] 1):=⟨Ç U,qy⟩;have PU:t<H.heap.size:=È (PQ.fG t<|Ã g6.fD) Vq.fh;have Vr:∀k,y.ownBlock=Â k->(iM F5 H<|Ê #[ď (þ 50) #[] #[À<|Â ⟨i,0,Á⟩,À<|Â ⟨ba,0,Á⟩]] 1).O k:=λk e=>Ã<|PO k e;have aa5:=rP Vp (w₁:=(iM F5 H<|Ê #[ď (þ 50) #[] #[À<|Â ⟨i,0,Á⟩,À<|Â ⟨ba,0,Á⟩]] 1).w) λk e=>k7.fu k (Ã<|PO k e) id;generalize iM F5 H (Ê #[ď (þ 50) #[] #[À<|Â ⟨i,0,Á⟩,À<|Â ⟨ba,0,Á⟩]] 1)=tM at C c7 d7 g7 f7 Vr aa5|-;generalize H.heap.size=Q at f7 PU|-;clear k7 c6 d6 g6 F3 PQ hq6 PO Vp Vq F5;have PV:=C.gk s;have hq7:¬tM.q:=by rwa[C.q]
 apply gZ (n:=10) PV.lw;iterate 3 w_go fS
 refine Ë λ_ _=> ?_;apply qN (x:=⟨t,0,Á⟩) U U (by k_ne) PV.lw hq7 (Ã<|Ã g7.fD) (g7.fg U) (λw h=>by go_simp) (λw h=>by simp[go_sem,h]);walk_nrm;apply gZ (n:=10) PV.lw;u_call uA.f_add (Κ Lk) addFn fS hF;refine Ë λ_ _=> ?_;have k2:nP (λw=>fU tM tM.w w) tM all:=⟨Ã (by rw[C.K];exact PH.1),Ã (by rw[C.K];exact PH.2),λw I h1 h2 h3 h4 h5 h=>h.fl ⟨h1,h2,h3,h4,h5⟩⟩;have s2:SW (λw=>fU tM tM.w w) tM all tM.w:=⟨PV.lw,⟨C.ia _ PH.1 Lv.1,C.ia _ PH.2 Lv.2⟩,fU.fY _ _⟩;refine aaA uA k2 s2 (C.d.trans hd) λakY aa6=> ?_;walk_nrm;apply gZ (l:={tM with d:=0,w:=akY}) (n:=10) aa6.1;iterate 3 w_go fS
 refine Ë λ_ _=> ?_;refine .fO λF6 A5=> ?_;have rr:fU tM tM.w F6:=aa6.2.2.fl ⟨A5.fh,A5.fu,A5.fg,A5.fC,A5.ia⟩;have r:=C.fZ rr;have hd8:l.d=0:=hd;have hA9:gU (λb=>Â b=x.ownBlock) l ({tM with d:=0,w:=F6}:fj):=⟨r.O,r.fN,r.Rd,r.Oc,r.Rc,r.K,r.q,hd8.symm,r.fG,r.fh,r.fu,r.fg,r.fC,r.ia⟩;have at9:∀{b:Nat} {o:Θ},jh tM b o->jh ({tM with d:=0,w:=F6}:fj) b o:=λh=>⟨h.fD,(rr.fu _<|Ã h.fD).trans h.is⟩;have hlen:(xs++[ê<|Â a]).length=j+1:=by have:=nk.1;simp;omega
 refine hJ0 {tM with d:=0,w:=F6} _ a i t Q y _ hA9 ⟨U,U,U,U,U,U,U,U⟩ ⟨?_,Vr,at9 c7,at9 d7,at9 g7,at9 f7⟩ hch N0 F4 PU λk e=>⟨(LO k e).2.1,(LO k e).2.2,by have:=(LO k e).1;omega,by have:=(LO k e).1;omega⟩;rw[hlen];exact rP aa5 λk e=>rr.fu k<|Ã<|Vr k e
end
def uK(l:fj)(b:Nat):fj:={l with O:=λj=>l.O j/\j≠b,K:=λa=>l.K a\/a=⟨b,0,Á⟩\/a=⟨b,1,Á⟩}
def pN(l x:fj)(b:Nat):fj:={x with O:=λj=>x.O j\/j=b,K:=l.K}
section
variable{S:Jd}{l:fj}
def fA.Vt(hK:∀a,l.K a->a.block≠b){x:fj}(h:fA P yQ S x g):¬x.M b->(∀a,x.C a->a.block≠b)->x.K=(uK l b).K->b<x.w.heap.size->(x.w.cell? ⟨b,0,Á⟩).isSome=Ó->(x.w.cell? ⟨b,1,Á⟩).isSome=Ó->lG x-> fA P yQ (λG H=>∃d,S d H/\G=pN l d b/\¬d.M b/\(∀a,d.C a->a.block≠b)/\d.K=(uK l b).K/\b<d.w.heap.size/\d.w.heap[b]?=x.w.heap[b]?/\d.q=x.q/\lG d) (pN l x b) g:=by
 have u:∀{x:fj} {c:Þ},x.K=(uK l b).K->(x.w.cell? ⟨b,0,Á⟩).isSome=Ó->(x.w.cell? ⟨b,1,Á⟩).isSome=Ó->fU (pN l x b) x.w c->fU x x.w c:=λ{x c} f i m r=>
  ⟨r.fh,λj p=>r.fu j<|p.imp Ã id,r.fg,r.fC,λa o q=>by
   rw[f]at o;rcases o with z|z|z
   .exact r.ia a z q
   .rw[z,iF<|r.fu b<|Ã<|Ç U];exact i
   .rw[z,iF (r.fu b (Ã (Ç U)))];exact m⟩
 induction h with
 |@fO x g h=>
  intro s t f v i m I;refine .fO λc r=>⟨{x with w:=c},h c<|u f i m r,U,s,t,f,È v r.fh,r.fu b<|Ã<|Ç U,U,oA I<|u f i m r⟩
 |@kD x g G' W' E' L' jE h hd _ ih=>
  intro s t f v i m I;refine .mk jE λc r=> ?_;have B:=u f i m r;have D:=hd c B;have E:=È v r.fh;have J:=λq=>s<|Ã q;have L:=λa e q=>t a (Ã q) e;have N:=r.fu b<|Ã<|Ç U;have Q:=D.lr b E J L;have T:¬(L' c).M b:=λq=>q.elim (λz=>(D.fN b z).elim J λy=>by omega) λz=>s (Ç<|by rw[<-D.rd];exact z);have V:∀a,(L' c).C a->a.block≠b:=λa q=>t a (q.imp (by rw[D.oc];exact id)<|by rw[D.rc];exact id);have F:(L' c).w.heap[b]?=x.w.heap[b]?:=by rw[D.AF];exact Q.trans N
  refine⟨G' c,W' c,E' c,pN l (L' c) b,h c B,?_,?_⟩
  .refine⟨D.fh,λj q=> ?_,λj q=> ?_,D.rd,D.oc,D.rc,U,λj p y n=>D.lr j p (λq=>y<|Ã q) n,λa o y n=>D.fg a o (λq=>y<|Ã q) n,λa o y=>D.fC a o λq=>y<|Ã q,D.os,D.mR,D.lU,λe W=> ?_,D.mT,D.q,λq=> ?_,D.AF⟩
   .rcases q with q|q
    .exact(D.fN j q).imp Ã id
    .exact Ã<|Ç q
   .rcases q with q|q
    .exact D.fG j q
    .rw[q];exact È E D.fh
   .rcases D.wS e W with⟨a,y,n⟩|h|h|h|h|⟨a,y,n⟩
    .exact Ã ⟨a,y,n.imp Ã id⟩
    .exact Ç<|Ã h
    .exact Ç<|Ç<|Ã h
    .exact Ç<|Ç<|Ç<|Ã h
    .exact Ç<|Ç<|Ç<|Ç<|Ã h
    .exact Ç<|Ç<|Ç<|Ç<|Ç ⟨a,Ã y,n⟩
   .let⟨X,Y,z3⟩:=D.On q;exact⟨X,Y,by funext j;show((L' c).O j\/j=b)=(x.O j\/j=b);rw[z3]⟩
  .refine(ih c B T V (D.k.trans f) (by rw[D.AF];exact È E D.fh) (by rw[iF F];exact i) (by rw[iF F];exact m) λj p=>by rw[D.AF];exact D.fG j p).ft ?_;rintro G H ⟨d,y,j,n,o,p,W,X,Y,q9⟩;exact⟨d,y,j,n,o,p,W,X.trans F,Y.trans D.q,q9⟩
end
section
variable{L:WgLink}{l:fj}{J:Jd}{c:ç}{k:List ů}{ty:Ž}
structure akZ(b:Nat)(cc:Array Ð)(ty:Ž)(l l':fj):Prop where
 gf:gU (λj=>j=b) l l'
 O:l'.O=l.O
 is:l'.w.heap[b]?=Â (Ê (cc.setIfInBounds 0<|É ì 4294967296) ty)
def aa7(a:l.O b)(w:Þ)(d:Nat):pN l {uK l b with d:=d,w:=w} b={l with d:=d,w:=w}:=by
 have:(λj=>(l.O j/\j≠b)\/j=b)=l.O:=by
  funext j;refine propext ⟨λh=>h.elim (·.1) λe=>e▸a,λh=> ?_⟩;by_cases e:j=b
  .exact Ç e
  .exact Ã ⟨h,e⟩
 unfold pN uK;simp only[this]
def aa8{D:Array Ð}(H:WgLib P L)(s:ic l)(hq:¬l.q)(hd:l.d=0)(x:l.O b)(T:l.w.heap[b]?=Â (Ê D ty))(V:D[0]?=Â (É ì 0))(o:(D[1]?).isSome=Ó) (hT:∀B,akZ b D ty l B->fA P yQ J B (G (c.at (y.put ((Q[i]?).bind (·.dst))<|ñ #[])<|Ï Q jJ::k) qX)): fA P yQ J l (G ((base L.add).at ⟨#[À<|Â ⟨b,0,Á⟩,É Î 1,Å,Å,Å,Å,Å,Å,Å,Å,Å,Å,Å,Å,Å,Å,Å,Å,Å,Å,Å,Å,Å,Å,Å,Å,Å,Å,Å,Å,Å,Å,Å,Å,Å,Å,Å,Å,Å,Å,Å,Å,Å,Å,Å,Å,Å,Å,Å,Å,Å,Å,Å,Å,Å,Å,Å,Å,Å,Å,Å,Å,Å,Å,Å,Å,Å,Å,Å,Å,Å,Å,Å,Å,Å,Å,Å,Å,Å,Å,Å,Å,Å,Å,Å,Å,Å,Å,Å,Å,Å,Å,Å,Å,Å,Å,Å,Å,Å,Å,Å,Å,Å,Å,Å,Å,Å,Å,Å,Å,Å,Å,Å,Å,Å,Å,Å],[]⟩ [ö<|body_add L])<|c.at y (Ï Q (i::jJ)::k)::qX):=by
 have e0:l.w.cell? ⟨b,0,Á⟩=Â (É ì 0):=by simp[Ù,T,V]
 have e1:(l.w.cell? ⟨b,1,Á⟩).isSome=Ó:=by let⟨u,E⟩:=Ö.1 o;simp[Ù,T,E]
 have W:∀y:ã,l.K y->y.block≠b:=λy X e=>(s.k9 y X).1<|Ã<|e▸x;have iy:=s.fG b<|Ã x;have nM:¬(uK l b).M b:=λq=>q.elim (λz=>z.2 U) λz=>s.lD b x z;have nC:∀y:ã,(uK l b).C y->y.block≠b:=λy X e=>s.fX y X<|Ã<|e▸x;let J1:Jd:=λB g'=>g'=G (c.at (y.put ((Q[i]?).bind (·.dst))<|ñ #[])<|Ï Q jJ::k) qX/\B={uK l b with d:=0,w:=B.w}/\fU (uK l b) l.w B.w
 have hW:fA P yQ (Pk P yQ b J1) (uK l b) (G ((base L.add).at ⟨#[À<|Â ⟨b,0,Á⟩,É Î 1,Å,Å,Å,Å,Å,Å,Å,Å,Å,Å,Å,Å,Å,Å,Å,Å,Å,Å,Å,Å,Å,Å,Å,Å,Å,Å,Å,Å,Å,Å,Å,Å,Å,Å,Å,Å,Å,Å,Å,Å,Å,Å,Å,Å,Å,Å,Å,Å,Å,Å,Å,Å,Å,Å,Å,Å,Å,Å,Å,Å,Å,Å,Å,Å,Å,Å,Å,Å,Å,Å,Å,Å,Å,Å,Å,Å,Å,Å,Å,Å,Å,Å,Å,Å,Å,Å,Å,Å,Å,Å,Å,Å,Å,Å,Å,Å,Å,Å,Å,Å,Å,Å,Å,Å,Å,Å,Å,Å,Å,Å,Å,Å,Å,Å,Å],[]⟩ [ö<|body_add L])<|c.at y (Ï Q (i::jJ)::k)::qX):=by refine aaA (Ψ:=λw=>fU (uK l b) l.w w) H ⟨Ã<|Ç<|Ã U,Ã<|Ç<|Ç U,λw g o t a m n h=>h.fl ⟨o,t,a,m,n⟩⟩ ⟨λj f=>s.fG j<|Ã f.1,⟨by rw[show(uK l b).w=l.w from rfl,e0];rfl,e1⟩,fU.fY _ _⟩ hd λg v=> ?_;exact .fO λp r=>⟨U,U,v.2.2.fl ⟨r.fh,r.fu,r.fg,r.fC,r.ia⟩⟩
 have hstart:=hW.Vt W nM nC U iy (by rw[show(uK l b).w=l.w from rfl,e0];rfl) e1 λj f=>s.fG j<|Ã f.1;rw[show pN l (uK l b) b=l from aa7 x l.w l.d]at hstart;apply hstart.oM;rintro l1 g1 ⟨F,⟨rD,ak0,hA⟩,rfl,nM1,nC1,vq,hlt1,qP,xf,lo1⟩;let⟨g2,aa9,Y⟩:=hA 0;have wY:ì.wrap (0+gO)=gO:=by rw[show(0:Int)+gO=gO from rfl];exact Oy A A
 rw[wY]at Y aa9;rw[if_pos U]at Y;have hqx:¬F.q:=by rwa[xf]
 refine .mk ak0 λg r=> ?_;have I:=(r.fu b<|Ã<|Ç U).trans<|qP.trans T;have c0:g.cell? (gp b)=Â (É ì 0):=by simp[Ù,gp,I,V]
 have f0:g.frozen? (gp b)=Í:=by simp[ð,gp,I]
 have avi:=È hlt1 r.fh;have LP:(g.setCell (gp b)<|É ì gO).heap[b]?=Â (Ê (D.setIfInBounds 0<|É ì 4294967296) ty):=by unfold Ą;simp[î,gp,I,gO]
 have rx:fU F F.w (g.setCell (gp b)<|É ì gO):=by
  refine⟨by rw[ln];exact r.fh,λj f=> ?_,λa m=> ?_,λa m=> ?_,λa m q=> ?_⟩
  .have t:=λe=>nM1 (by have n:j=b:=e;rwa[<-n]);exact(nG t).trans<|r.fu j<|f.imp Ã id
  .exact(iF<|nG<|nC1 a m).trans<|r.fg a m
  .exact wT.trans<|r.fC a m
  .rw[vq]at m;refine B5 ?_;rcases m with z|z|z
   .exact r.ia a z q
   .rw[z,iF<|r.fu b<|Ã<|Ç U];rwa[z]at q
   .rw[z,iF<|r.fu b<|Ã<|Ç U];rwa[z]at q
 refine⟨g2,_,_,pN l {F with w:=g.setCell (gp b) (É ì gO)} b,aa9 g c0 f0,?_,?_⟩
 .refine⟨by rw[ln];exact Û _,λ_ h=>Ã h,λj h=> ?_,U,U,U,U,λj _ o _=>nG λe=>o<|Ç e,λa _ o _=>iF (nG λe=>o<|Ç e),λ_ _ _=>TQ,U,U,U,λe t=> ?_,?_,U,λq=>absurd q hqx,U⟩
  .rw[ln];rcases h with h|h
   .exact È (lo1 j h) r.fh
   .rwa[h]
  .have:e=mg (gp b)\/e=py (gp b):=by simpa using t
   rcases this with rfl|rfl
   .exact Ã ⟨gp b,U,Ã<|Ç U⟩
   .exact Ã ⟨gp b,U,Ã<|Ç U⟩
  .exact(œ (λe t=>by
    have:e=mg (gp b)\/e=py (gp b):=by simpa using t
    rcases this with rfl|rfl<;>exact⟨by simp[mg,py],by simp[mg,py]⟩) _).symm
 have hW2:=Y.fZ rx;have z0:((g.setCell (gp b)<|É ì gO).cell? ⟨b,0,Á⟩).isSome=Ó:=B5 (by rw[show(⟨b,0,Á⟩:ã)=gp b from rfl,c0];rfl);have z1:((g.setCell (gp b)<|É ì gO).cell? ⟨b,1,Á⟩).isSome=Ó:=by let⟨u,E⟩:=Ö.1 o;exact B5<|by simp[Ù,I,E]
 have ak1:=hW2.Vt W nM1 nC1 vq (by show b<(g.setCell (gp b)<|É ì gO).heap.size;rwa[ln]) z0 z1 (λj f=>by show j<(g.setCell (gp b)<|É ì gO).heap.size;rw[ln];exact È (lo1 j f) r.fh);apply ak1.oM;rintro l2 g3 ⟨v,⟨pE,ak2,g4,ak3,hN2⟩,rfl,nM2,nC2,Cq,PW,hb2,rO,lo2⟩;have ak4:¬v.q:=by rwa[rO]
 refine .mk ak2 λp n=> ?_;have ak5:=(n.fu b<|Ã<|Ç U).trans<|hb2.trans LP;have N:∀a:ã,a.block=b->p.cell? a=v.w.cell? a:=λa e=>iF<|n.fu a.block<|Ã<|Ç e;have rx2:fU v v.w p:=⟨n.fh,λj f=>n.fu j<|f.imp Ã id,n.fg,n.fC,λa m q=>by
  rw[Cq]at m;rcases m with z|z|z
  .exact n.ia a z q
  .rwa[N a (by rw[z])]
  .rwa[N a (by rw[z])]⟩
 refine⟨g4,p,_,pN l {v with w:=p} b,ak3 p,?_,?_⟩
 .refine⟨Û _,λ_ h=>Ã h,λj h=> ?_,U,U,U,U,λ_ _ _ _=>rfl,λ_ _ _ _=>rfl,λ_ _ _=>rfl,U,U,U,λe t=> ?_,?_,U,λq=>absurd q ak4,U⟩
  .rcases h with h|h
   .exact È (lo2 j h) n.fh
   .rw[h];exact È PW n.fh
  .have:e=kK (.read<|iP b):=by simpa using t
   rw[this];exact Ç<|Ç<|Ç<|Ç<|Ç ⟨iP b,Ç U,Ã U⟩
  .exact(œ (λe t=>by
    have:e=kK (.read<|iP b):=by simpa using t
    rw[this];exact⟨by simp[kK],by simp[kK]⟩) _).symm
 have hW3:=hN2.fZ rx2;have y0:(p.cell? ⟨b,0,Á⟩).isSome=Ó:=by rw[N _ U];have:v.w.heap[b]?=_:=hb2.trans LP;have t:=(æ.1 V).1;simp[Ù,this,t]
 have y1:(p.cell? ⟨b,1,Á⟩).isSome=Ó:=by rw[N _ U];have:v.w.heap[b]?=_:=hb2.trans LP;let⟨u,E⟩:=Ö.1 o;have t:=(æ.1 E).1;simp[Ù,this,t]
 have u:=hW3.Vt W nM2 nC2 Cq (È PW n.fh) y0 y1 λj f=>È (lo2 j f) n.fh;apply u.oM;rintro l3 g5 ⟨x3,⟨rfl,E,t⟩,rfl,nM3,nC3,hk3,abb,hb3,yt,lo3⟩;rw[E,aa7 x];have Vu:=hb3.trans ak5;refine hT _ ⟨⟨λ_ h=>h,λ_ h=>Ã h,U,U,U,U,U,hd.symm,λj f=>È (s.fG j<|Ã f) t.fh,t.fh,λj f hn=>t.fu j ?_,t.fg,t.fC,λa m=>t.ia a<|Ã m⟩,U,Vu⟩;exact f.imp (λq=>⟨q,hn⟩) id
end
noncomputable def Vv:ġ:=rL ģ [1,1,1]
noncomputable def abd:ġ:=rL ģ [1,1,0,1,0,0,1,1,0,0,1,1,1]
noncomputable def Vw:ġ:=rL ģ [1,1,0,1,0,0,1,1,0,0,1,1,0,1]
noncomputable def LQ:ġ:=rL ģ [1,1,0,1,0,0]
noncomputable def Vx:ġ:=rL ģ [1,1,0,1,0,0,1,1,1]
noncomputable def F7 (t:Array Ð) (a:List ç):à:=G ((base 46).at ⟨t,[]⟩ [ö LQ,ā LQ,ï 0,ö Vv]) a
noncomputable def LU (t:Array Ð) (a:List ç):à:=G ((base 46).at ⟨t,[]⟩ [ö Vw,ö abd,ï 1,ö Vx,ā LQ,ï 0,ö Vv]) a
structure PT(iv qv rs:Ð)(lg R i:Nat)(t:Array Ð):Prop where
 fh:t.size=48
 t4:t[4]?=Â iv
 t5:t[5]?=Â qv
 t6:t[6]?=Â (À<|Â ⟨lg,0,Á⟩)
 CG:t[13]?=Â rs
 PX:t[14]?=Â (É Î R)
 PY:t[15]?=Â (É Î i)
def PZ(t:Array Ð)(h:t.size=48):∃a b c d e f g i j k l m n o p q r s u v w x y z B C D E F G H I J K L M N O P Q T V W X Y mH mI mJ:Ð,t=#[a,b,c,d,e,f,g,i,j,k,l,m,n,o,p,q,r,s,u,v,w,x,y,z,B,C,D,E,F,G,H,I,J,K,L,M,N,O,P,Q,T,V,W,X,Y,mH,mI,mJ]:=by obtain⟨_,rfl⟩:=arrU t h;exact⟨_,_,_,_,_,_,_,_,_,_,_,_,_,_,_,_,_,_,_,_,_,_,_,_,_,_,_,_,_,_,_,_,_,_,_,_,_,_,_,_,_,_,_,_,_,_,_,_,U⟩
def ak7(w:Þ)(a c:Option ã)(b:Int):(Ē 155 #[(0,À a),(1,É Î b),(2,À c)]).run Ä w=.ok (Ě #[À a,É Î b,À c,À Á]) w:=run_build w 155 _ _ gG
def ak8(w:Þ)(a c:Option ã)(b:Int):(Ē 155 #[(0,À a),(1,É Î b),(2,À c)]).events Ä w #[]=#[]:=by unfold Ē;simp only[Ş];simp[go_sem]
section
variable{p:Nat}{v0 v1 v2 v3:Ð}
def ak9(h:w.heap[p]?=Â (Ê #[v,x,z,jQ] e)):(jS w p v0 v1 v2 v3).heap[p]?=Â (Ê #[v0,v1,v2,v3] e):=by unfold jS Ą;simp[î,h]
def gU.jS{l c:fj}(h:gU X l c)(s:ic l)(r:fU c c.w u)(f:l.w.heap.size<=p):gU X l {c with w:=fK.jS u p v0 v1 v2 v3}:=by
 have b:=h.fZ r;have e:∀{j:Nat},j<l.w.heap.size->(fK.jS u p v0 v1 v2 v3).heap[j]?=u.heap[j]?:=λ{j} q=>Cv Z;refine⟨b.O,b.fN,b.Rd,b.Oc,b.Rc,b.K,b.q,b.d,λj q=> ?_,?_,λj q n=>(e<|s.fG j q).trans<|b.fu j q n,λa q=>(iF<|e<|s.nK a q).trans<|b.fg a q,λa q=>(AH<|e<|s.nK a q).trans<|b.fC a q,λa q z=> ?_⟩
 .show j<(fK.jS u p v0 v1 v2 v3).heap.size;rw[AY];exact b.fG j q
 .show l.w.heap.size<=(fK.jS u p v0 v1 v2 v3).heap.size;rw[AY];exact b.fh
 .show((fK.jS u p v0 v1 v2 v3).cell? a).isSome=Ó;rw[iF<|e (s.k9 a q).2.1];exact b.ia a q z
def jh.rly{l:fj}{o:Θ}(h:jh l b o)(r:fU l l.w u):jh {l with w:=u} b o:=⟨h.fD,(r.fu b<|Ã h.fD).trans h.is⟩
end
section
variable{J:Jd}{l:fj}{t:Array Ð}{iv qv:Ð}{lg R:Nat}{kd:Int}
def ala(f:ic l)(o:¬l.q)(k:PT iv qv (Æ (Â ⟨j,0,Á⟩) R n) lg R i t)(hiR:i<R)(hR:R<1000)(V:l.M j)(W:l.w.cell? ⟨j,i,Á⟩=Â (À<|Â ⟨b,0,Á⟩))(F:l.M b)(X:l.w.cell? ⟨b,4,Á⟩=Â (É Î kd)) (Y:∀B u a,gU (λ_=>False) l B->l.w.heap.size<=a->jh B a (Ê #[À<|Â ⟨b,0,Á⟩,É Î i,À<|Â ⟨lg,0,Á⟩,À Á] 155)->PT iv qv (Æ (Â ⟨j,0,Á⟩) R n) lg R i u->u[9]?=Â (À<|Â ⟨a,0,Á⟩)->u[28]?=Â (ĭ<|decide<|kd≠1)->fA Ä Ó J B (LU u qX)): fA Ä Ó J l (F7 t qX):=by
 obtain⟨y0,y1,y2,y3,G,H,y6,y7,y8,y9,vM,yp,xb,sD,tD,sF,xc,uB,uC,uD,tE,tF,tH,tJ,uE,vN,xd,tK,rN,qR,qS,oZ,qu,qw,pV,pW,pA,qL,qM,rG,rH,rI,rJ,rK,nQ,mH,mI,mJ,rfl⟩:=PZ t k.fh;obtain rfl:iv=G:=(show G=iv by simpa using k.t4).symm;obtain rfl:qv=H:=(show H=qv by simpa using k.t5).symm;obtain rfl:y6=À (Â ⟨lg,0,Á⟩):=by simpa using k.t6
 obtain rfl:sD=Æ (Â ⟨j,0,Á⟩) R n:=by simpa using k.CG
 obtain rfl:tD=É Î R:=by simpa using k.PX
 obtain rfl:sF=É Î i:=by simpa using k.PY
 have avj:(i:Int)<(R:Int):=Z
 have hF:True:=trivial;have vP:∀y:ã,False->l.Oc y:=λy ha=>ha.elim;apply gZ (n:=40) f.lw;simp only[F7];conv in LQ=>whnf
 repeat w_go fS
 refine Ë λ_ _=> ?_;apply qN (x:=⟨j,i,Á⟩) U U (by k_ne) f.lw o (Ã V) W (λw h=>by go_simp) (λw h=>by simp[go_sem,h]);walk_nrm;apply gZ (n:=40) f.lw;repeat w_go fS
 refine Ë λ_ _=> ?_;refine ym (v:=Ě #[À<|Â ⟨b,0,Á⟩,É Î i,À<|Â ⟨lg,0,Á⟩,À Á]) U U (by k_ne) f.lw o (λc r=> ?_) (λc r e C=> ?_) ?_
 .have r:=ak7 c (Â ⟨b,0,Á⟩) (Â ⟨lg,0,Á⟩) i;go_simp
 .have r:=ak8 c (Â ⟨b,0,Á⟩) (Â ⟨lg,0,Á⟩) i;simp[go_sem,r]at C
 walk_nrm;refine Ll (ob:=Ê #[À Á,É Î 0,À Á,À Á] 155) U U (by k_ne) f.lw o (λw=>by go_simp) (λw=>by simp[go_sem]) λc D=> ?_;walk_nrm;have s:gU (λ_=>False) l (iM l c<|Ê #[À Á,É Î 0,À Á,À Á] 155):=qT f D;have m:jh (iM l c<|Ê #[À Á,É Î 0,À Á,À Á] 155) c.heap.size (Ê #[À Á,É Î 0,À Á,À Á] 155):=⟨Ç U,qy⟩;have E:l.w.heap.size<=c.heap.size:=D.fh;generalize iM l c (Ê #[À Á,É Î 0,À Á,À Á] 155)=l₁ at s m|-;generalize c.heap.size=a at m E|-;have I:=s.gk f;have K:¬l₁.q:=by rwa[s.q]
 refine yl U U (by k_ne) λd z=> ?_;have g:=m.rly z;replace g:d.heap[a]?=_:=g.is;have L:d.cell? ⟨a,0,Á⟩=Â (À Á):=by simp[Ù,g]
 have N:d.cell? ⟨a,1,Á⟩=Â (É Î 0):=by simp[Ù,g]
 have O:d.cell? ⟨a,2,Á⟩=Â (À Á):=by simp[Ù,g]
 have P:d.cell? ⟨a,3,Á⟩=Â (À Á):=by simp[Ù,g]
 have Q:∀r,d.frozen? ⟨a,r,Á⟩=Í:=λr=>by simp[ð,g]
 go_simp;refine⟨{l₁ with w:=jS d a (À<|Â ⟨b,0,Á⟩) (É Î i) (À<|Â ⟨lg,0,Á⟩) (À Á)},Pr (p:=a) (oA I.lw z) K m.fD AY (λr T=>Cv T) ⟨U,U,U⟩ λe C=> ?_,?_⟩
 .have T:=ě C;have e:∀r,tB l₁ ⟨a,r,Á⟩:=λr=>Ã m.fD;simp[go_sem,â _ _ _ _ _ _ (show Ú (À<|Â ⟨b,0,Á⟩)=Ó from rfl),â _ _ _ _ _ _ (show Ú (À<|Â ⟨lg,0,Á⟩)=Ó from rfl),â _ _ _ _ _ _ (show Ú (À Á)=Ó from rfl),L,N,O,P,Q]at T;rcases T with rfl|rfl|rfl|rfl
  .exact(e _).wr
  .exact(e _).wr
  .exact(e _).wr
  .exact(e _).wr
 have e:gU (λ_=>False) l ({l₁ with w:=jS d a (À<|Â ⟨b,0,Á⟩) (É Î i) (À<|Â ⟨lg,0,Á⟩) (À Á)}:fj):=s.jS f z E;have T:jh ({l₁ with w:=jS d a (À<|Â ⟨b,0,Á⟩) (É Î i) (À<|Â ⟨lg,0,Á⟩) (À Á)}:fj) a (Ê #[À<|Â ⟨b,0,Á⟩,É Î i,À<|Â ⟨lg,0,Á⟩,À Á] 155):=⟨m.fD,ak9 g⟩;generalize({l₁ with w:=jS d a (À<|Â ⟨b,0,Á⟩) (É Î i) (À<|Â ⟨lg,0,Á⟩) (À Á)}:fj)=l₂ at e T|-;clear m s I K g L N O P Q z d l₁ D c;have C:=e.gk f;have rO:¬l₂.q:=by rwa[e.q]
 apply gZ (n:=20) C.lw;repeat w_go fS
 refine Ë λ_ _=> ?_;apply qN (x:=⟨b,4,Á⟩) U U (by k_ne) C.lw rO (Ã<|e.M F) ((iF<|e.fu b F id).trans X) (λw h=>by go_simp) (λw h=>by simp[go_sem,h]);walk_nrm;apply gZ (n:=20) C.lw;iterate 2 w_go fS
 refine Ë λ_ _=> ?_;apply Y l₂ _ a e E T ⟨U,U,U,U,U,U,U⟩ U;simp;rfl
end
section
variable{J:Jd}{l:fj}{xs:List Ð}
def alb(s:ic l)(E:¬l.q)(o:PT v x z b j i d)(hiR:i<j)(hR:j<1000)(h9:d[9]?=Â (À<|Â ⟨m,0,Á⟩))(LV:d[28]?=Â (ĭ Ó))(hn:n<1000) (h:jh l m (Ê #[À<|Â ⟨k,0,Á⟩,É Î i,À<|Â ⟨b,0,Á⟩,À Á] 155)) (nk:l.w.ownsRow 0 155 4 x n xs) (K:∀a,x.ownBlock=Â a->l.O a) (hJ:∀B L t,gU (λf=>Â f=x.ownBlock) l B->B.w.ownsRow 0 155 4 t (n+1) (xs++[À<|Â ⟨k,0,Á⟩,É Î i,À<|Â ⟨b,0,Á⟩,À Á])->(∀a,t.ownBlock=Â a->B.O a)->(t.ownBlock=x.ownBlock\/∃a,t.ownBlock=Â a/\l.w.heap.size<=a)->PT v t z b j (i+1) L->fA Ä Ó J B (F7 L qX)): fA Ä Ó J l (LU d qX):=by
 obtain⟨y0,y1,y2,y3,M,N,y6,y7,y8,y9,vM,yp,xb,P,tD,sF,xc,uB,uC,uD,tE,tF,tH,tJ,uE,vN,xd,tK,rN,qR,qS,oZ,qu,qw,pV,pW,pA,qL,qM,rG,rH,rI,rJ,rK,nQ,mH,mI,mJ,rfl⟩:=PZ d o.fh;obtain rfl:v=M:=(show M=v by simpa using o.t4).symm;obtain rfl:x=N:=(show N=x by simpa using o.t5).symm;obtain rfl:y6=À (Â ⟨b,0,Á⟩):=by simpa using o.t6
 obtain rfl:y9=À (Â ⟨m,0,Á⟩):=by simpa using h9
 obtain rfl:z=P:=(show P=z by simpa using o.CG).symm;obtain rfl:tD=É Î j:=by simpa using o.PX
 obtain rfl:sF=É Î i:=by simpa using o.PY
 obtain rfl:rN=ĭ Ó:=by simpa using LV
 have hF:True:=trivial;apply gZ (n:=40) s.lw;simp only[LU];conv in Vw=>whnf
 conv in Vx=>whnf
 repeat w_go fS
 refine Ë λ_ _=> ?_;refine ym (v:=Ě #[À<|Â ⟨k,0,Á⟩,É Î i,À<|Â ⟨b,0,Á⟩,À Á]) U U (by k_ne) s.lw E (λp r=> ?_) (λp r e y=> ?_) ?_
 .skip;have C:p.cell? ⟨m,0,Á⟩=Â (À<|Â ⟨k,0,Á⟩):=(iW.fg (show iW l ⟨m,0,Á⟩from Ã<|Ã h.fD) r).trans<|h.fg U;have D:p.cell? ⟨m,1,Á⟩=Â (É Î i):=(iW.fg (show iW l ⟨m,1,Á⟩from Ã<|Ã h.fD) r).trans<|h.fg U;have F:p.cell? ⟨m,2,Á⟩=Â (À<|Â ⟨b,0,Á⟩):=(iW.fg (show iW l ⟨m,2,Á⟩from Ã<|Ã h.fD) r).trans<|h.fg U;have G:p.cell? ⟨m,3,Á⟩=Â (À Á):=(iW.fg (show iW l ⟨m,3,Á⟩from Ã<|Ã h.fD) r).trans<|h.fg U;go_simp
 .have u:∀g,iW l ⟨m,g,Á⟩:=λg=>Ã<|Ã h.fD;have C:p.cell? ⟨m,0,Á⟩=Â (À<|Â ⟨k,0,Á⟩):=(iW.fg (show iW l ⟨m,0,Á⟩from Ã<|Ã h.fD) r).trans<|h.fg U;have D:p.cell? ⟨m,1,Á⟩=Â (É Î i):=(iW.fg (show iW l ⟨m,1,Á⟩from Ã<|Ã h.fD) r).trans<|h.fg U;have F:p.cell? ⟨m,2,Á⟩=Â (À<|Â ⟨b,0,Á⟩):=(iW.fg (show iW l ⟨m,2,Á⟩from Ã<|Ã h.fD) r).trans<|h.fg U;have G:p.cell? ⟨m,3,Á⟩=Â (À Á):=(iW.fg (show iW l ⟨m,3,Á⟩from Ã<|Ã h.fD) r).trans<|h.fg U;simp[go_sem,C,D,F,G]at y;rcases y with rfl|rfl|rfl|rfl
  .exact(u _).rd
  .exact(u _).rd
  .exact(u _).rd
  .exact(u _).rd
 walk_nrm;refine uI (V:=λp=>Æ (Â ⟨p,0,Á⟩) 1 1) (ob:=Ê #[À<|Â ⟨k,0,Á⟩,É Î i,À<|Â ⟨b,0,Á⟩,À Á] 155) U U (by k_ne) s.lw E (λw=>by go_simp) (λw=>by simp[go_sem]) λr Q=> ?_;walk_nrm;have p:=qT (X:=λ_=>False) (ob:=Ê #[À<|Â ⟨k,0,Á⟩,É Î i,À<|Â ⟨b,0,Á⟩,À Á] 155) s Q;have y:jh (iM l r<|Ê #[À<|Â ⟨k,0,Á⟩,É Î i,À<|Â ⟨b,0,Á⟩,À Á] 155) r.heap.size (Ê #[À<|Â ⟨k,0,Á⟩,É Î i,À<|Â ⟨b,0,Á⟩,À Á] 155):=⟨Ç U,qy⟩;have C:∀a,x.ownBlock=Â a->(iM l r<|Ê #[À<|Â ⟨k,0,Á⟩,É Î i,À<|Â ⟨b,0,Á⟩,À Á] 155).O a:=λa e=>Ã<|K a e;have F:=rP nk (w₁:=(iM l r<|Ê #[À<|Â ⟨k,0,Á⟩,É Î i,À<|Â ⟨b,0,Á⟩,À Á] 155).w) λa e=>p.fu a (Ã<|K a e) id;generalize iM l r (Ê #[À<|Â ⟨k,0,Á⟩,É Î i,À<|Â ⟨b,0,Á⟩,À Á] 155)=l₄ at p y C F|-;generalize r.heap.size=px at y|-;have G:=p.gk s;have T:¬l₄.q:=by rwa[p.q]
 have IF:Ä.info? 155=Â Ċ:=Ň;refine abe (v:=x) (us:=[À<|Â ⟨k,0,Á⟩,É Î i,À<|Â ⟨b,0,Á⟩,À Á]) (px:=px) (c:=1) (n:=n) (sz:=4) (xs:=xs) (inf:=Ċ) (z:=Ě #[À Á,É Î 0,À Á,À Á]) U U (by k_ne) G T U U U ň IF U U Z U U (by simp[Ċ];omega) (by simp only[Ŧ];omega) F C y.fD (λg u D=>y.fg<|by simpa using D) (by simp[Ú]) λu g D H W Y zM uJ=> ?_;walk_nrm;have k5:gU (λf=>Â f=x.ownBlock) l₄ (o0 l₄ u D):=Vf G H Y λa e=>⟨C a e,e.symm⟩;have I:gU (λf=>Â f=x.ownBlock) l (o0 l₄ u D):=(p.ft λ_ _ q=>q.elim).fl k5;have Vy:g.ownBlock=x.ownBlock\/∃a,g.ownBlock=Â a/\l.w.heap.size<=a:=uJ.imp id λq=>⟨_,q,Ø p.fh H.fh⟩;have A3:(o0 l₄ u D).w.ownsRow 0 155 4 g (n+1) (xs++[À<|Â ⟨k,0,Á⟩,É Î i,À<|Â ⟨b,0,Á⟩,À Á]):=W;generalize o0 l₄ u D=xg at I A3 zM|-;clear p k5 Y W uJ y G T C F H Q;have A4:=I.gk s;have hw:Î.wrap ((i:Int)+1)=((i+1:Nat):Int):=by rw[FN Z Z];omega
 apply gZ (n:=40) A4.lw;repeat w_go fS
 refine Ë λ_ _=> ?_;refine hJ xg _ g I A3 zM Vy ⟨U,U,U,U,U,U,?_⟩;simp[hw]
def alc(G:ic l)(hq:¬l.q)(hd:l.d=0)(I:PT v x z b j i d)(hiR:i<j)(hR:j<1000)(h9:d[9]?=Â (À<|Â ⟨m,0,Á⟩))(LV:d[28]?=Â (ĭ Í))(hn:n<1000) (h0:jh l m (Ê #[À<|Â ⟨k,0,Á⟩,É Î i,À<|Â ⟨b,0,Á⟩,À Á] 155)) (nk:l.w.ownsRow 0 155 4 v n xs) (hO:∀f,v.ownBlock=Â f->l.O f) (xe:v.ownBlock≠Â m) (hJ:∀W t' Y s,gU (λg=>Â g=v.ownBlock\/g=m) l W->W.w.ownsRow 0 155 4 Y (n+1) (xs++[À<|Â ⟨k,0,Á⟩,É Î i,À<|Â ⟨b,0,Á⟩,À<|Â ⟨s,0,Á⟩])->(∀f,Y.ownBlock=Â f->W.O f)->(Y.ownBlock=v.ownBlock\/∃f,Y.ownBlock=Â f/\s<f)->l.w.heap.size<=s->jh W s (Ê #[É ì 4294967296,É û 0,Æ Á 0 0] 105)->PT Y x z s j (i+1) t'->fA Ä Ó J W (F7 t' qX)): fA Ä Ó J l (LU d qX):=by
 obtain⟨y0,y1,y2,y3,y4,y5,y6,y7,y8,y9,vM,yp,xb,sD,tD,sF,xc,uB,uC,uD,tE,tF,tH,tJ,uE,vN,xd,tK,rN,qR,qS,oZ,qu,qw,pV,pW,pA,qL,qM,rG,rH,rI,rJ,rK,nQ,mH,mI,mJ,rfl⟩:=PZ d I.fh;obtain rfl:v=y4:=(show y4=v by simpa using I.t4).symm;obtain rfl:x=y5:=(show y5=x by simpa using I.t5).symm;obtain rfl:y6=À (Â ⟨b,0,Á⟩):=by simpa using I.t6
 obtain rfl:y9=À (Â ⟨m,0,Á⟩):=by simpa using h9
 obtain rfl:z=sD:=(show sD=z by simpa using I.CG).symm;obtain rfl:tD=É Î j:=by simpa using I.PX
 obtain rfl:sF=É Î i:=by simpa using I.PY
 obtain rfl:rN=ĭ Í:=by simpa using LV
 have hF:True:=trivial;apply gZ (n:=40) G.lw;simp only[LU];conv in Vw=>whnf
 conv in abd=>whnf
 conv in Vx=>whnf
 repeat w_go fS
 refine Ë λ_ _=> ?_;refine Ll (ob:=Ê #[É ì 0,É û 0,Æ Á 0 0] 105) U U (by k_ne) G.lw hq (λw=>by go_simp) (λw=>by simp[go_sem]) λD rC=> ?_;walk_nrm;have t:gU (λ_=>False) l (iM l D<|Ê #[É ì 0,É û 0,Æ Á 0 0] 105):=qT G rC;have F:jh (iM l D<|Ê #[É ì 0,É û 0,Æ Á 0 0] 105) D.heap.size (Ê #[É ì 0,É û 0,Æ Á 0 0] 105):=⟨Ç U,qy⟩;have LW:l.w.heap.size<=D.heap.size:=rC.fh;generalize iM l D (Ê #[É ì 0,É û 0,Æ Á 0 0] 105)=l₁ at t F|-;generalize D.heap.size=s at F LW|-;clear rC D;have A1:=t.gk G;have xf:¬l₁.q:=by rwa[t.q]
 have htl:m<l.w.heap.size:=G.fG m<|Ã h0.fD;have t1:=h0.gf t id;apply gZ (n:=40) A1.lw;iterate 7 w_go fS
 u_call uA.f_add (Κ Lk) addFn fS hF
 refine Ë λ_ _=> ?_;refine aa8 uA A1 xf (by rwa[t.d]) F.fD F.is U U λy hC=> ?_;walk_nrm;have E:gU (λg=>g=s) l₁ y:=hC.gf;have P1:gU (λ_=>False) l y:=⟨λf q=>E.O f<|t.O f q,λf q=>(E.fN f q).elim (t.fN f) λh=>Ç<|Ø t.fh h,E.Rd.trans t.Rd,E.Oc.trans t.Oc,E.Rc.trans t.Rc,E.K.trans t.K,E.q.trans t.q,E.d.trans t.d,E.fG,Ø t.fh E.fh,λo hj nx=>(E.fu o (t.M hj) λe=>by have:=G.fG o hj;omega).trans<|t.fu o hj nx,λa H=>(E.fg a<|by rwa[t.C]).trans<|t.fg a H,λa H=>(E.fC a<|by rwa[t.C]).trans<|t.fC a H,λa H h=>E.ia a (by rwa[t.K])<|t.ia a H h⟩;have L:=t1.gf E Z;have N:jh y s (Ê #[É ì 4294967296,É û 0,Æ Á 0 0] 105):=⟨E.O s F.fD,hC.is⟩;have vS:=P1.gk G;have rO:¬y.q:=by rwa[P1.q]
 have hgl:s<y.w.heap.size:=vS.fG s<|Ã N.fD;clear hC E t1 F t A1 xf l₁;apply gZ (n:=40) vS.lw;iterate 5 w_go fS
 refine Ë λ_ _=> ?_;refine Lw (p:=m) (off:=3) (v:=À<|Â ⟨s,0,Á⟩) (u:=À Á) U U (by k_ne) vS.lw rO L.fD (L.fg U) (by simp[ð,L.is]) U (λw r T=>by go_simp) (λw r T=>by simp[go_sem,â _ _ _ _ _ _ (show Ú (À<|Â ⟨s,0,Á⟩)=Ó from rfl),r,T]) ?_;have P:gU (λg=>g=m) l {y with w:=y.w.setCell ⟨m,3,Á⟩ (À<|Â ⟨s,0,Á⟩)}:=(P1.ft λ_ _ q=>q.elim).fl (Pv (p:=m) vS (fU.fY _ _) L.fD U ln λo hj=>nG hj);have B:jh {y with w:=y.w.setCell ⟨m,3,Á⟩ (À<|Â ⟨s,0,Á⟩)} m (Ê #[À<|Â ⟨k,0,Á⟩,É Î i,À<|Â ⟨b,0,Á⟩,À<|Â ⟨s,0,Á⟩] 155):=⟨L.fD,by show(y.w.setCell ⟨m,3,Á⟩<|À<|Â ⟨s,0,Á⟩).heap[m]?=_;unfold Ą;simp[î,L.is]⟩;have g3:jh {y with w:=y.w.setCell ⟨m,3,Á⟩ (À<|Â ⟨s,0,Á⟩)} s (Ê #[É ì 4294967296,É û 0,Æ Á 0 0] 105):=⟨N.fD,(nG<|by show s≠m;omega).trans N.is⟩;have ald:s<({y with w:=y.w.setCell ⟨m,3,Á⟩ (À<|Â ⟨s,0,Á⟩)}:fj).w.heap.size:=by show s<(y.w.setCell ⟨m,3,Á⟩<|À<|Â ⟨s,0,Á⟩).heap.size;rwa[ln]
 generalize({y with w:=y.w.setCell ⟨m,3,Á⟩ (À<|Â ⟨s,0,Á⟩)}:fj)=lX at P B g3 ald|-;clear L N P1 vS rO hgl y;have Q:=P.gk G;have yt:¬lX.q:=by rwa[P.q]
 have CH:∀f,v.ownBlock=Â f->lX.O f:=λf e=>P.O f<|hO f e;have PK:lX.w.ownsRow 0 155 4 v n xs:=rP nk λf e=>P.fu f (Ã<|hO f e) λh=>xe<|h▸e;apply gZ (n:=40) Q.lw;iterate 3 w_go fS
 refine Ë λ_ _=> ?_;refine ym (v:=Ě #[À<|Â ⟨k,0,Á⟩,É Î i,À<|Â ⟨b,0,Á⟩,À<|Â ⟨s,0,Á⟩]) U U (by k_ne) Q.lw yt (λD r=> ?_) (λD r e he=> ?_) ?_
 .skip;have g0:D.cell? ⟨m,0,Á⟩=Â (À<|Â ⟨k,0,Á⟩):=(iW.fg (show iW lX ⟨m,0,Á⟩from Ã<|Ã B.fD) r).trans<|B.fg U;have F:D.cell? ⟨m,1,Á⟩=Â (É Î i):=(iW.fg (show iW lX ⟨m,1,Á⟩from Ã<|Ã B.fD) r).trans<|B.fg U;have N:D.cell? ⟨m,2,Á⟩=Â (À<|Â ⟨b,0,Á⟩):=(iW.fg (show iW lX ⟨m,2,Á⟩from Ã<|Ã B.fD) r).trans<|B.fg U;have g3:D.cell? ⟨m,3,Á⟩=Â (À<|Â ⟨s,0,Á⟩):=(iW.fg (show iW lX ⟨m,3,Á⟩from Ã<|Ã B.fD) r).trans<|B.fg U;go_simp
 .have T:∀o,iW lX ⟨m,o,Á⟩:=λo=>Ã<|Ã B.fD;have g0:D.cell? ⟨m,0,Á⟩=Â (À<|Â ⟨k,0,Á⟩):=(iW.fg (show iW lX ⟨m,0,Á⟩from Ã<|Ã B.fD) r).trans<|B.fg U;have F:D.cell? ⟨m,1,Á⟩=Â (É Î i):=(iW.fg (show iW lX ⟨m,1,Á⟩from Ã<|Ã B.fD) r).trans<|B.fg U;have N:D.cell? ⟨m,2,Á⟩=Â (À<|Â ⟨b,0,Á⟩):=(iW.fg (show iW lX ⟨m,2,Á⟩from Ã<|Ã B.fD) r).trans<|B.fg U;have g3:D.cell? ⟨m,3,Á⟩=Â (À<|Â ⟨s,0,Á⟩):=(iW.fg (show iW lX ⟨m,3,Á⟩from Ã<|Ã B.fD) r).trans<|B.fg U;simp[go_sem,g0,F,N,g3]at he;rcases he with rfl|rfl|rfl|rfl
  .exact(T _).rd
  .exact(T _).rd
  .exact(T _).rd
  .exact(T _).rd
 walk_nrm;refine uI (V:=λp=>Æ (Â ⟨p,0,Á⟩) 1 1) (ob:=Ê #[À<|Â ⟨k,0,Á⟩,É Î i,À<|Â ⟨b,0,Á⟩,À<|Â ⟨s,0,Á⟩] 155) U U (by k_ne) Q.lw yt (λw=>by go_simp) (λw=>by simp[go_sem]) λT FZ=> ?_;walk_nrm;have r:=qT (X:=λ_=>False) (ob:=Ê #[À<|Â ⟨k,0,Á⟩,É Î i,À<|Â ⟨b,0,Á⟩,À<|Â ⟨s,0,Á⟩] 155) Q FZ;have p4:jh (iM lX T<|Ê #[À<|Â ⟨k,0,Á⟩,É Î i,À<|Â ⟨b,0,Á⟩,À<|Â ⟨s,0,Á⟩] 155) T.heap.size (Ê #[À<|Â ⟨k,0,Á⟩,É Î i,À<|Â ⟨b,0,Á⟩,À<|Â ⟨s,0,Á⟩] 155):=⟨Ç U,qy⟩;have A2:∀f,v.ownBlock=Â f->(iM lX T<|Ê #[À<|Â ⟨k,0,Á⟩,É Î i,À<|Â ⟨b,0,Á⟩,À<|Â ⟨s,0,Á⟩] 155).O f:=λf e=>Ã<|CH f e;have F0:=rP PK (w₁:=(iM lX T<|Ê #[À<|Â ⟨k,0,Á⟩,É Î i,À<|Â ⟨b,0,Á⟩,À<|Â ⟨s,0,Á⟩] 155).w) λf e=>r.fu f (Ã<|CH f e) id;generalize iM lX T (Ê #[À<|Â ⟨k,0,Á⟩,É Î i,À<|Â ⟨b,0,Á⟩,À<|Â ⟨s,0,Á⟩] 155)=l₄ at r p4 A2 F0|-;generalize T.heap.size=px at p4|-;have CI:=r.gk Q;have F1:¬l₄.q:=by rwa[r.q]
 have IF:Ä.info? 155=Â Ċ:=Ň;refine abe (v:=v) (us:=[À<|Â ⟨k,0,Á⟩,É Î i,À<|Â ⟨b,0,Á⟩,À<|Â ⟨s,0,Á⟩]) (px:=px) (c:=1) (n:=n) (sz:=4) (xs:=xs) (inf:=Ċ) (z:=Ě #[À Á,É Î 0,À Á,À Á]) U U (by k_ne) CI F1 U U U ň IF U U Z U U (by simp[Ċ];omega) (by simp only[Ŧ];omega) F0 A2 p4.fD (λo u hu=>p4.fg<|by simpa using hu) (by simp[Ú]) λvU FY P3 F2 wR LN zM uJ=> ?_;walk_nrm;have k5:gU (λg=>Â g=v.ownBlock) l₄ (o0 l₄ vU P3):=Vf CI F2 LN λf e=>⟨A2 f e,e.symm⟩;have zN:gU (λg=>Â g=v.ownBlock) lX (o0 l₄ vU P3):=(r.ft λ_ _ q=>q.elim).fl k5;have Vy:FY.ownBlock=v.ownBlock\/∃f,FY.ownBlock=Â f/\lX.w.heap.size<=f:=uJ.imp id λq=>⟨_,q,Ø r.fh F2.fh⟩;have A3:(o0 l₄ vU P3).w.ownsRow 0 155 4 FY (n+1) (xs++[À<|Â ⟨k,0,Á⟩,É Î i,À<|Â ⟨b,0,Á⟩,À<|Â ⟨s,0,Á⟩]):=wR;generalize o0 l₄ vU P3=xg at zN A3 zM|-;clear r k5 LN wR uJ p4 CI F1 A2 F0 F2 FZ;have A4:=zN.gk Q;have hw:Î.wrap ((i:Int)+1)=((i+1:Nat):Int):=by rw[FN Z Z];omega
 have g5:=g3.gf zN<|aa1 nk LW;have F3:gU (λg=>Â g=v.ownBlock\/g=m) l xg:=(P.ft λ_ _ q=>Ç q).fl (zN.ft λ_ _ q=>Ã q);apply gZ (n:=40) A4.lw;repeat w_go fS
 refine Ë λ_ _=> ?_;refine hJ xg _ FY s F3 A3 zM (Vy.imp id λ⟨f,q1,q2⟩=>⟨f,q1,Z⟩) LW g5 ⟨U,U,U,U,U,U,?_⟩;simp[hw]
end
def jq(kd:Nat->Int)(i:Nat):List Nat:=(ä i).filter λj=>decide<|kd j=1
def kN(kd:Nat->Int)(i:Nat):List Nat:=(ä i).filter λj=>decide<|kd j≠1
def gD(kd:Nat->Int)(i:Nat):Nat:=(jq kd i).length
def tI(a g:Nat->Nat)(p:Nat×Nat):List Ð:=[À<|Â ⟨a p.1,0,Á⟩,É Î p.1,À<|Â ⟨g p.2,0,Á⟩,À<|Â ⟨g<|p.2+1,0,Á⟩]
def tQ(kd:Nat->Int)(a g:Nat->Nat)(p:Nat):List Ð:=[À<|Â ⟨a p,0,Á⟩,É Î p,À<|Â ⟨g<|gD kd p,0,Á⟩,À Á]
def lj(kd:Nat->Int)(rq g:Nat->Nat)(i:Nat):List Ð:=(jq kd i).zipIdx.flatMap<|tI rq g
def o6(kd:Nat->Int)(a g:Nat->Nat)(i:Nat):List Ð:=(kN kd i).flatMap<|tQ kd a g
section
variable{kd:Nat->Int}{rq g:Nat->Nat}
def F9(h:kd i=1):jq kd (i+1)=jq kd i++[i]:=by simp[jq,ą,ć,h]
def Gb(h:kd i≠1):jq kd (i+1)=jq kd i:=by simp[jq,ą,ć,h]
def Vz(h:kd i=1):kN kd (i+1)=kN kd i:=by simp[kN,ą,ć,h]
def VA(h:kd i≠1):kN kd (i+1)=kN kd i++[i]:=by simp[kN,ą,ć,h]
def VB:∀i,gD kd i<=i:=λi=>by unfold gD jq;exact Ø (Ĭ _ _) fB
def ale:∀i,(kN kd i).length<=i:=λi=>by unfold kN;exact Ø (Ĭ _ _) fB
def abf(h:j<=i):gD kd j<=gD kd i:=by
 induction i with
 |zero=>
  have:j=0:=Z
  rw[this];exact Û _
 |succ i c=>
  by_cases e:j=i+1
  .rw[e];exact Û _
  .have a:=c Z;by_cases b:kd i=1
   .unfold gD at a|-;rw[F9 b];simp;omega
   .unfold gD at a|-;rwa[Gb b]
def alf(h:kd i=1):lj kd rq g (i+1)=lj kd rq g i++tI rq g (i,gD kd i):=by unfold lj;rw[F9 h,List.zipIdx_append,Ĵ];simp[gD]
def alg(h:kd i≠1):lj kd rq g (i+1)=lj kd rq g i:=by unfold lj;rw[Gb h]
def alh(h:kd i=1):o6 kd rq g (i+1)=o6 kd rq g i:=by unfold o6;rw[Vz h]
def ali(h:kd i≠1):o6 kd rq g (i+1)=o6 kd rq g i++tQ kd rq g i:=by unfold o6;rw[VA h,Ĵ];simp
def VC{α:Type}{f a:α->List Ð}:∀(l:List α),(∀x∈l,f x=a x)->l.flatMap f=l.flatMap a
 |[],_=>rfl
 |x::l,h=>by rw[Č,Č,h x List.mem_cons_self,VC l λy b=>h y<|List.mem_cons_of_mem _ b]
def alj(h:∀k,k<=gD kd i->D k=g k):lj kd rq D i=lj kd rq g i:=by
 unfold lj;refine VC _ λx a=> ?_;let⟨p,k⟩:=x;have b:=(List.mem_zipIdx a).2.1;have c:k<gD kd i:=by unfold gD;omega
 simp[tI,h k Z,h (k+1) Z]
def alk(h:∀k,k<=gD kd i->D k=g k):o6 kd rq D i=o6 kd rq g i:=by
 unfold o6;refine VC _ λp a=> ?_;have b:p<i:=by have:=(Ć.1 a).1;simpa using this
 simp[tQ,h (gD kd p)<|abf Z]
def VD{α:Type}{f:α->List Ð}(a:∀x,(f x).length=4)(b:i<4):∀(l:List α) (k:Nat) (x:α),l[k]?=Â x->(l.flatMap f)[k*4+i]?=(f x)[i]?
 |[],k,x,h=>by simp at h
 |y::l,0,x,h=>by
  obtain rfl:y=x:=by simpa using h
  rw[Č,List.getElem?_append_left (by rw[a];omega)];simp
 |y::l,k+1,x,h=>by rw[Č,List.getElem?_append_right (by rw[a];omega),a,show(k+1)*4+i-4=k*4+i by omega];exact VD a b l k x<|by simpa using h
end
section
variable{Y:Nat->Prop}{l m n:fj}
def gU.A6(h:gU X l m)(k:gU Y m n)(e:∀j,l.M j->¬Y j):gU X l n:= ⟨λj q=>k.O j<|h.O j q,λj q=>(k.fN j q).elim (h.fN j) λz=>Ç<|Ø h.fh z,k.Rd.trans h.Rd,k.Oc.trans h.Oc,k.Rc.trans h.Rc,k.K.trans h.K,k.q.trans h.q,k.d.trans h.d,k.fG,Ø h.fh k.fh,λj c f=>(k.fu j (h.M c)<|e j c).trans<|h.fu j c f,λa b=>(k.fg a<|by rwa[h.C]).trans<|h.fg a b,λa b=>(k.fC a<|by rwa[h.C]).trans<|h.fC a b,λa b z=>k.ia a (by rwa[h.K])<|h.ia a b z⟩
end
abbrev VE:Θ:=Ê #[É ì 4294967296,É û 0,Æ Á 0 0] 105
structure CJ(kd:Nat->Int)(rq g:Nat->Nat)(gz i:Nat)(iv qv:Ð)(l0 l:fj):Prop where
 gf:gU (λ_=>False) l0 l
 lj:l.w.ownsRow 0 155 4 iv (gD kd i) (lj kd rq g i)
 o6:l.w.ownsRow 0 155 4 qv (kN kd i).length (o6 kd rq g i)
 iO:∀k,iv.ownBlock=Â k->l.O k/\l0.w.heap.size<=k
 qO:∀k,qv.ownBlock=Â k->l.O k/\l0.w.heap.size<=k
 Gc:∀k,iv.ownBlock=Â k->qv.ownBlock≠Â k
 gK:∀k,1<=k->k<=gD kd i->jh l (g k) VE/\l0.w.heap.size<=g k/\iv.ownBlock≠Â (g k)/\qv.ownBlock≠Â (g k)
 g0:g 0<l0.w.heap.size
 gz:g 0=gz
 up:∀k k',k<k'->k'<=gD kd i->g k<g k'
section
variable{kd:Nat->Int}{rq g:Nat->Nat}{gz:Nat}{iv qv:Ð}{l0 l m n:fj}
def CJ.alm(h:CJ kd rq g gz i iv qv l0 l)(B:ic l0)(s:ic l)(d:kd i≠1)(a:gU (λ_=>False) l m)(f:gU (λb=>Â b=qv.ownBlock) m n)(C:n.w.ownsRow 0 155 4 v ((kN kd i).length+1) (fK.o6 kd rq g i++tQ kd rq g i))(D:∀k,v.ownBlock=Â k->n.O k)(t:v.ownBlock=qv.ownBlock\/∃k,v.ownBlock=Â k/\m.w.heap.size<=k):CJ kd rq g gz (i+1) iv v l0 n:=by
 have p:gD kd (i+1)=gD kd i:=by unfold gD;rw[Gb d]
 have E:∀{j},l.O j->j<m.w.heap.size:=λc=>È (s.fG _<|Ã c) a.fh;have u:∀{j},l.O j->qv.ownBlock≠Â j->v.ownBlock≠Â j:=λ{j} c hn e=>by
  rcases t with z|⟨k,q,y⟩
  .rw[z]at e;exact hn e
  .rw[q]at e;have:=Ô e;have:=E c;omega
 refine⟨(h.gf.fl a).A6 f λj c e=> ?_,?_,?_,λk e=>⟨f.O k<|a.O k (h.iO k e).1,(h.iO k e).2⟩,λk e=>⟨D k e,?_⟩,λk e=>u (h.iO k e).1<|h.Gc k e,λk r o=> ?_,h.g0,h.gz,λk x r o=>h.up k x r<|by rwa[<-p]⟩
 .have:=(h.qO j e.symm).2;have:=B.fG j c;omega
 .rw[p,alg d];refine rP h.lj λk e=> ?_;exact(f.fu k (Ã<|a.O k (h.iO k e).1) λz=>h.Gc k e z.symm).trans<|a.fu k (Ã (h.iO k e).1) id
 .rw[VA d,ali d];simpa using C
 .rcases t with z|⟨x,q,y⟩
  .rw[z]at e;exact(h.qO k e).2
  .rw[q]at e;have:=Ô e;have:=h.gf.fh;have:=a.fh;omega
 .rw[p]at o;let⟨q,F,G,y⟩:=h.gK k r o;exact⟨(q.gf a id).gf f λz=>y z.symm,F,G,u q.fD y⟩
def CJ.lO{tb:Nat}(h:CJ kd rq g gz i iv qv l0 l)(G:ic l0)(s:ic l)(a:kd i=1)(c:gU (λ_=>False) l m)(N:l.w.heap.size<=tb)(q:gU (λb=>Â b=iv.ownBlock\/b=tb) m n)(H:n.w.ownsRow 0 155 4 v (gD kd i+1) (fK.lj kd rq g i++[À<|Â ⟨rq i,0,Á⟩,É Î i,À<|Â ⟨g<|gD kd i,0,Á⟩,À<|Â ⟨J,0,Á⟩]))(I:∀k,v.ownBlock=Â k->n.O k)(t:v.ownBlock=iv.ownBlock\/∃k,v.ownBlock=Â k/\J<k)(P:m.w.heap.size<=J)(K:jh n J VE):CJ kd rq (λk=>if k<=gD kd i then g k else J) gz (i+1) v qv l0 n:=by
 have x:gD kd (i+1)=gD kd i+1:=by unfold gD;rw[F9 a];simp
 have Q:=h.gf.fh;have T:=c.fh;have d:∀{j},l.O j->j<l.w.heap.size:=λf=>s.fG _<|Ã f;have B:∀{j},l.O j->iv.ownBlock≠Â j->v.ownBlock≠Â j:=λ{j} f hn e=>by
  rcases t with z|⟨k,o,C⟩
  .rw[z]at e;exact hn e
  .rw[o]at e;have:=Ô e;have:=d f;omega
 have D:∀k,k<=gD kd i->(if k<=gD kd i then g k else J)=g k:=λk a=>if_pos a;refine⟨(h.gf.fl c).A6 q λj f e=> ?_,?_,?_,λk e=>⟨I k e,?_⟩,λk e=>⟨q.O k<|c.O k (h.qO k e).1,(h.qO k e).2⟩,λk e z=> ?_,λk u E=> ?_,?_,?_,λk r u E=> ?_⟩
 .have:=G.fG j f;rcases e with e|e
  .have:=(h.iO j e.symm).2;omega
  .omega
 .rw[x,alf a,alj D];simpa[tI,show¬(gD kd i+1<=gD kd i) by omega]using H
 .rw[Vz a,alh a,alk D];refine rP h.o6 λk e=> ?_;refine(q.fu k (Ã<|c.O k (h.qO k e).1) ?_).trans<|c.fu k (Ã (h.qO k e).1) id;rintro(z|z)
  .exact h.Gc k z.symm e
  .have:=d (h.qO k e).1;omega
 .rcases t with z|⟨r,o,C⟩
  .rw[z]at e;exact(h.iO k e).2
  .rw[o]at e;have:=Ô e;omega
 .exact B (h.qO k z).1 (λy=>h.Gc k y z) e
 .by_cases y:k<=gD kd i
  .simp only[if_pos y];let⟨p,L,F,M⟩:=h.gK k u y;refine⟨(p.gf c id).gf q ?_,L,B p.fD F,M⟩;rintro(z|z)
   .exact F z.symm
   .have:=d p.fD;omega
  .simp only[if_neg y];refine⟨K,Z,λe=> ?_,λe=> ?_⟩
   .rcases t with z|⟨r,o,C⟩
    .rw[z]at e;have:=d (h.iO J e).1;omega
    .rw[o]at e;have:=Ô e;omega
   .have:=d (h.qO J e).1;omega
 .simp only[ĉ,if_true];exact h.g0
 .simp only[ĉ,if_true];exact h.gz
 .rw[x]at E;by_cases y:r<=gD kd i
  .simp only[if_pos y,if_pos (show k<=gD kd i by omega)];exact h.up k r u y
  .simp only[if_neg y,if_pos (show k<=gD kd i by omega)];by_cases o:k=0
   .subst o;have:=h.g0;omega
   .let⟨p,_⟩:=h.gK k Z Z;have:=d p.fD;omega
end
section
variable{J:Jd}{ra:Option ã}{rb cr R gz:Nat}{cs:List ç}{kd:Nat->Int}{rq:Nat->Nat}{l0:fj}
def VF(j:ic l0)(s:¬l0.q)(u:l0.d=0)(m:R<1000)(o:0<R->ra=Â ⟨rb,0,Á⟩)(v:0<R->l0.M rb)(x:∀i,i<R->l0.w.cell? ⟨rb,i,Á⟩=Â (À<|Â ⟨rq i,0,Á⟩))(p:∀i,i<R->l0.M (rq i))(y:∀i,i<R->l0.w.cell? ⟨rq i,4,Á⟩=Â (É Î<|kd i)) (z:∀g N P a b,CJ kd rq g gz R a b l0 N->PT a b (Æ ra R cr) (g<|gD kd R) R R P->fA Ä Ó J N (F7 P cs)): ∀d i,R=i+d->∀g l t a b,CJ kd rq g gz i a b l0 l->PT a b (Æ ra R cr) (g<|gD kd i) R i t->fA Ä Ó J l (F7 t cs)
 |0,i,hi,g,l,t,a,b,hP,hT=>by obtain rfl:R=i:=hi;exact z g l t a b hP hT
 |d+1,i,hi,g,l,t,a,b,hP,hT=>by
  have f:i<R:=Z
  have n:=hP.gf.gk j;have Q:¬l.q:=by rwa[hP.gf.q]
  have T:=v Z;have hTr:PT a b (Æ (Â ⟨rb,0,Á⟩) R cr) (g<|gD kd i) R i t:=by rwa[<-o Z]
  refine ala n Q hTr f m (hP.gf.M T) ((iF<|hP.gf.fu rb T id).trans<|x i f) (hP.gf.M<|p i f) ((iF<|hP.gf.fu _ (p i f) id).trans<|y i f) λl1 t1 V c xe W B X r=> ?_;rw[<-o Z]at B;have Y:=c.gk n;have xf:¬l1.q:=by rwa[c.q]
  have hI1:=rP hP.lj λk e=>c.fu k (Ã (hP.iO k e).1) id;have hQ1:=rP hP.o6 λk e=>c.fu k (Ã (hP.qO k e).1) id;have hc:=VB (kd:=kd) i;have hcq:=ale (kd:=kd) i;by_cases h:kd i=1
  .rw[decide_eq_false (by simpa using h)]at r;refine alc Y xf (by rwa[c.d,hP.gf.d]) B f m X r Z W hI1 (λk e=>c.O k (hP.iO k e).1) (λe=>by have:=n.fG V<|Ã (hP.iO V e).1;omega) λC D iv' gt E F G H LW hg I=> ?_;have K:=hP.lO j n h c xe E F G H LW hg;apply VF j s u m o v x p y z d (i+1) Z _ C D iv' b K;have L:gD kd (i+1)=gD kd i+1:=by unfold gD;rw[F9 h];simp
   rw[L];simp only[show¬(gD kd i+1<=gD kd i) by omega,if_false];exact I
  .rw[decide_eq_true (by simpa using h)]at r;refine alb Y xf B f m X r Z W hQ1 (λk e=>c.O k (hP.qO k e).1) λC D qv' E F G H I=> ?_;have K:=hP.alm j n h c E F G H;apply VF j s u m o v x p y z d (i+1) Z _ C D a qv' K;have L:gD kd (i+1)=gD kd i:=by unfold gD;rw[Gb h]
   rwa[L]
end
noncomputable def abg:ġ:=rL ģ []
noncomputable def pIn (rs a:Ð) (b:List ç):à:=G ((base 46).at ⟨#[rs,a,Å,Å,Å,Å,Å,Å,Å,Å,Å,Å,Å,Å,Å,Å,Å,Å,Å,Å,Å,Å,Å,Å,Å,Å,Å,Å,Å,Å,Å,Å,Å,Å,Å,Å,Å,Å,Å,Å,Å,Å,Å,Å,Å,Å,Å,Å],[]⟩ [ö abg]) b
def aln{c:ç}{d:Ů}{k:List ů}{K:à->Þ->Array Ξ->Prop}{t u v:Tmp}(g:f.kind=ĥ)(j:y.defers=[])(l:P.funcs[f.fn]?=Â s)(e:s.results=#[.tmp t,.tmp u,.tmp v]) (h:K (G (c.at (d.put ((Q[i]?).bind (·.dst))<|ñ #[y.tmps.getD t Å,y.tmps.getD u Å,y.tmps.getD v Å])<|Ï Q jJ::k) qX) w #[]): (stepG P yQ (G {f.at y L with mode:=.returning}<|c.at d (Ï Q (i::jJ)::k)::qX) w).goes K:=by rwa[stepG_leave g j l (v:=ñ #[y.tmps.getD t Å,y.tmps.getD u Å,y.tmps.getD v Å]) (by simp[results,e,go_sem]) (by simp[results,e,go_sem]),ī]
structure LX(kd:Nat->Int)(rq g:Nat->Nat)(R:Nat)(iv qv sv:Ð)(l l':fj):Prop where
 gf:gU (λ_=>False) l l'
 lj:l'.w.ownsRow 0 155 4 iv (gD kd R) (lj kd rq g R)
 o6:l'.w.ownsRow 0 155 4 qv (kN kd R).length (o6 kd rq g R)
 iO:∀k,iv.ownBlock=Â k->l'.O k/\l.w.heap.size<=k
 qO:∀k,qv.ownBlock=Â k->l'.O k/\l.w.heap.size<=k
 Gc:∀k,iv.ownBlock=Â k->qv.ownBlock≠Â k
 CK:jh l' (g 0) (Ê #[É ì 0,É û 0,sv] 105)
 gK:∀k,1<=k->k<=gD kd R->jh l' (g k) VE
 gl:∀k,k<=gD kd R->l.w.heap.size<=g k/\iv.ownBlock≠Â (g k)/\qv.ownBlock≠Â (g k)
 up:∀k k',k<k'->k'<=gD kd R->g k<g k'
def alo(w:Þ)(a:Option ã)(b c:Nat):(Ē 105 #[(1,Æ a b c)]).run Ä w=.ok (Ě #[É ì 0,É û 0,Æ a b c]) w:=run_build w 105 _ _ gG
def alp(w:Þ)(a:Option ã)(b c:Nat):(Ē 105 #[(1,Æ a b c)]).events Ä w #[]=#[]:=by unfold Ē;simp only[Ş];simp[go_sem]
section
variable{J:Jd}{l:fj}{ra:Option ã}{rb cr R:Nat}{sa:Option ã}{sn sc:Nat}{k:List ů}{kd:Nat->Int}{rq:Nat->Nat}
def alq(j:ic l)(u:¬l.q)(I:l.d=0)(K:R<1000)(L:0<R->ra=Â ⟨rb,0,Á⟩)(z:0<R->l.M rb)(N:∀i,i<R->l.w.cell? ⟨rb,i,Á⟩=Â (À<|Â ⟨rq i,0,Á⟩))(B:∀i,i<R->l.M (rq i))(O:∀i,i<R->l.w.cell? ⟨rq i,4,Á⟩=Â (É Î<|kd i)) (P:∀g s b c,LX kd rq g R b c (Æ sa sn sc) l s->fA Ä Ó J s (G (f.at (y.put ((Q[i]?).bind (·.dst))<|ñ #[b,c,À<|Â ⟨g<|gD kd R,0,Á⟩])<|Ï Q jJ::k) qX)): fA Ä Ó J l (pIn (Æ ra R cr) (Æ sa sn sc)<|f.at y (Ï Q (i::jJ)::k)::qX):=by
 have hF:=trivial;apply gZ (n:=40) j.lw;simp only[pIn];conv in abg=>whnf
 repeat w_go fS
 refine Ë λ_ _=> ?_;refine ym (v:=Ě #[É ì 0,É û 0,Æ sa sn sc]) U U (by k_ne) j.lw u (λa r=> ?_) (λa r e p=> ?_) ?_
 .have h:=alo a sa sn sc;go_simp
 .have h:=alp a sa sn sc;simp[go_sem,h]at p
 walk_nrm;refine uI (V:=λp=>À<|Â ⟨p,0,Á⟩) (ob:=Ê #[É ì 0,É û 0,Æ sa sn sc] 105) U U (by k_ne) j.lw u (λw=>by go_simp) (λw=>by simp[go_sem]) λa C=> ?_;walk_nrm;have p:gU (λ_=>False) l (iM l a<|Ê #[É ì 0,É û 0,Æ sa sn sc] 105):=qT j C;have t:jh (iM l a<|Ê #[É ì 0,É û 0,Æ sa sn sc] 105) a.heap.size (Ê #[É ì 0,É û 0,Æ sa sn sc] 105):=⟨Ç U,qy⟩;have D:=C.fh;generalize iM l a (Ê #[É ì 0,É û 0,Æ sa sn sc] 105)=l₁ at p t|-;generalize a.heap.size=gt at t D|-;have m:=p.gk j;have T:¬l₁.q:=by rwa[p.q]
 apply gZ (n:=40) m.lw;repeat w_bar fS
 w_go fS
 refine Ë λ_ _=> ?_;have W:=m.fG gt<|Ã t.fD;refine VF m T (by rwa[p.d]) K L (λh=>p.M<|z h) (λi h=>(iF<|p.fu rb (z Z) id).trans<|N i h) (λi h=>p.M<|B i h) (λi h=>(iF<|p.fu _ (B i h) id).trans<|O i h) (λg s X b c h r=> ?_) R 0 Z (λ_=>gt) l₁ _ (Æ Á 0 0) (Æ Á 0 0) ⟨gU.fY m.lw,⟨U,Ã ⟨U,U⟩⟩,⟨U,Ã ⟨U,U⟩⟩,λk e=>(by cases e),λk e=>(by cases e),λk e=>(by cases e),λk x o=> ?_,W,rfl,λk Y x o=> ?_⟩ ⟨rfl,rfl,rfl,rfl,rfl,rfl,rfl⟩
 .have s':=h.gf.gk m;obtain⟨y0,y1,y2,y3,E,F,y6,y7,y8,y9,vM,yp,xb,sD,tD,sF,xc,uB,uC,uD,tE,tF,tH,tJ,uE,vN,xd,tK,rN,qR,qS,oZ,qu,qw,pV,pW,pA,qL,qM,rG,rH,rI,rJ,rK,nQ,mH,mI,mJ,rfl⟩:=PZ X r.fh;obtain rfl:b=E:=(show E=b by simpa using r.t4).symm;obtain rfl:c=F:=(show F=c by simpa using r.t5).symm;obtain rfl:y6=À (Â ⟨g<|gD kd R,0,Á⟩):=by simpa using r.t6
  obtain rfl:sD=Æ ra R cr:=by simpa using r.CG
  obtain rfl:tD=É Î R:=by simpa using r.PX
  obtain rfl:sF=É Î R:=by simpa using r.PY
  have iy:¬((R:Int)<(R:Int)):=Z
  apply gZ (n:=40) s'.lw;simp only[F7];conv in LQ=>whnf
  conv in Vv=>whnf
  repeat w_go fS
  u_in fS hF
  refine aln U U Δ U ⟨by u_nil,?_⟩;walk_nrm;refine Ë λ_ _=> ?_;have H:=h.gz;refine P g s b c ⟨p.fl h.gf,h.lj,h.o6,λk e=>⟨(h.iO k e).1,Ø p.fh (h.iO k e).2⟩,λk e=>⟨(h.qO k e).1,Ø p.fh (h.qO k e).2⟩,h.Gc,H▸t.gf h.gf id,λk x o=>(h.gK k x o).1,λk hk=> ?_,h.up⟩;by_cases h0:k=0
  .subst h0;rw[H];exact⟨D,λe=>by have:=(h.iO _ e).2;omega,λe=>by have:=(h.qO _ e).2;omega⟩
  .let⟨_,a2,a3,a4⟩:=h.gK k Z hk;exact⟨Ø p.fh a2,a3,a4⟩
 .have:k<=0:=o;omega
 .have:Y<=0:=o;omega
end
noncomputable def abh:ġ:=rL Tryz.f37 []
noncomputable def IG (a rs:Ð) (n:Nat) (b:List ç):à:=G ((base 37).at ⟨#[a,rs,É Î n,Å,Å,Å,Å,Å,Å,Å,Å,Å,Å,Å,Å,Å,Å,Å,Å,Å,Å,Å,Å,Å,Å,Å,Å,Å,Å,Å,Å,Å,Å,Å,Å,Å,Å,Å,Å,Å,Å,Å,Å,Å,Å,Å,Å,Å,Å],[]⟩ [ö abh]) b
def LX.A6{kd:Nat->Int}{rq:Nat->Nat}{R:Nat}{l a b:fj}(h:LX kd rq D R v x z l a)(k:gU (λ_=>False) a b):LX kd rq D R v x z l b:= ⟨h.gf.fl k,rP h.lj λj e=>k.fu j (Ã (h.iO j e).1) id,rP h.o6 λj e=>k.fu j (Ã (h.qO j e).1) id,λj e=>⟨k.O j (h.iO j e).1,(h.iO j e).2⟩,λj e=>⟨k.O j (h.qO j e).1,(h.qO j e).2⟩,h.Gc,h.CK.gf k id,λj c d=>(h.gK j c d).gf k id,h.gl,h.up⟩
abbrev A7(R:Nat):Θ:=Ê (madeCells (Ε<|á ⟨#[]⟩) R) 9
structure P4(kd:Nat->Int)(rq g:Nat->Nat)(R:Nat)(iv qv sv:Ð)(an ba bi all bw bf:Nat)(l lp l':fj):Prop where
 gf:gU (λ_=>False) l l'
 mW:LX kd rq g R iv qv sv lp l'
 LY:jh l' an (A7 R)
 yv:jh l' ba (Ê #[Æ (Â ⟨an,0,Á⟩) R R] 25)
 Gd:jh l' bi (Ê #[iv] 85)
 j5:jh l' all (Ê #[É ì 4294967296,É û 0] 97)
 IH:jh l' bw (Ê #[À<|Â ⟨all,0,Á⟩] 162)
 cbf:jh l' bf (Ê #[ď (þ 48) #[] #[À<|Â ⟨bi,0,Á⟩,À<|Â ⟨ba,0,Á⟩]] 1)
 o1:l.w.heap.size<=an/\an<ba/\ba<lp.w.heap.size
 o2:∀k,k<=gD kd R->g k<bi
 o3:∀k,iv.ownBlock=Â k->k<bi
 o4:∀k,qv.ownBlock=Â k->k<bi
 o5:bi<all/\all<bw/\bw<bf
section
variable{J:Jd}{l:fj}{ra:Option ã}{rb cr R:Nat}{sa:Option ã}{sn sc:Nat}{kd:Nat->Int}{rq:Nat->Nat}
def alr(C:ic l)(G:¬l.q)(hd:l.d=0)(hR:R<1000)(LZ:0<R->ra=Â ⟨rb,0,Á⟩)(Ge:0<R->l.M rb)(L0:∀i,i<R->l.w.cell? ⟨rb,i,Á⟩=Â (À<|Â ⟨rq i,0,Á⟩))(OX:∀i,i<R->l.M (rq i))(L3:∀i,i<R->l.w.cell? ⟨rq i,4,Á⟩=Â (É Î<|kd i)) (hJ:∀g lp l' t iv qv H y z D Y bf v1,P4 kd rq g R iv qv (Æ sa sn sc) H y z D Y bf l lp l'->LJ y D (g<|gD kd R) n qv t->J l' (FW (À<|Â ⟨D,0,Á⟩) v1 (À<|Â ⟨D,0,Á⟩) (ñ #[]) Y bf<|IC t::qX)): fA Ä Ó J l (IG (Æ sa sn sc) (Æ ra R cr) n qX):=by
 have hF:True:=trivial;have hi9:Ä.info? 9=Â ĩ:=Tryz.type9;have UC:∀w:Þ,(ş 25 (É Î (R:Int))<|É Î (R:Int)).run Ä w=.ok (Æ (Â ⟨w.heap.size,0,Á⟩) R R) (w.alloc<|A7 R):=λw=>by have:=run_makeSlice (P:=Ä) w 25 9 ĩ (á ⟨#[]⟩) ŉ hi9 U Î Î (R:Int) (R:Int) Z Z (by simp[ĩ];omega) (by simp[ĩ];omega) Z;simpa[ĩ]using this
 have hme:∀w:Þ,(ş 25 (É Î (R:Int))<|É Î (R:Int)).events Ä w #[]=#[]:=λw=>
  events_make (P:=Ä) w 25 9 ĩ (á ⟨#[]⟩) ŉ hi9 U Î Î (R:Int) (R:Int) Z Z (by simp[ĩ];omega) Z (by simp[ĩ];omega) _
 apply gZ (n:=40) C.lw;simp only[IG];conv in abh=>whnf
 repeat w_go fS
 refine Ë λ_ _=> ?_;refine uI (V:=λp=>Æ (Â ⟨p,0,Á⟩) R R) (ob:=A7 R) U U (by k_ne) C.lw G (λw=>by have k:=UC w;go_simp) (λw=>by have k:=hme w;simp[go_sem,k]) λc m=> ?_;walk_nrm;have a:=qT (X:=λ_=>False) (ob:=A7 R) C m;have r:jh (iM l c<|A7 R) c.heap.size (A7 R):=⟨Ç U,qy⟩;have han:l.w.heap.size<=c.heap.size:=m.fh;generalize iM l c (A7 R)=l1 at a r|-;generalize c.heap.size=H at r han|-;clear m c;have VG:gU (λ_=>False) l l1:=a;have VH:=VG.gk C;have als:¬l1.q:=by rwa[VG.q]
 have avk:l.w.heap.size<=l1.w.heap.size:=a.fh;clear a;have lan:=VH.fG H<|Ã r.fD;refine uI (V:=λp=>À<|Â ⟨p,0,Á⟩) (ob:=Ê #[Æ Á 0 0] 25) U U (by k_ne) VH.lw als (λw=>by go_simp) (λw=>by simp[go_sem]) λc m=> ?_;walk_nrm;have a:=qT (X:=λ_=>False) (ob:=Ê #[Æ Á 0 0] 25) VH m;have f:jh (iM l1 c<|Ê #[Æ Á 0 0] 25) c.heap.size (Ê #[Æ Á 0 0] 25):=⟨Ç U,qy⟩;have hba:l1.w.heap.size<=c.heap.size:=m.fh;generalize iM l1 c (Ê #[Æ Á 0 0] 25)=l2 at a f|-;generalize c.heap.size=y at f hba|-;clear m c;have VI:gU (λ_=>False) l l2:=VG.fl a;replace r:=r.gf a id;have VJ:=VI.gk C;have alu:¬l2.q:=by rwa[VI.q]
 have avl:l1.w.heap.size<=l2.w.heap.size:=a.fh;clear a;have lba:=VJ.fG y<|Ã f.fD;refine Lw (p:=y) (off:=0) (v:=Æ (Â ⟨H,0,Á⟩) R R) (u:=Æ Á 0 0) U U (by k_ne) VJ.lw alu f.fD (f.fg U) (by simp[ð,f.is]) U (λw o F=>by go_simp) (λw o F=>by simp[go_sem,â _ _ _ _ _ _ (show Ú (Æ (Â ⟨H,0,Á⟩) R R)=Ó from rfl),o,F]) ?_;have a:=Pv (X:=λb=>b=y) (p:=y) (w':=l2.w.setCell ⟨y,0,Á⟩<|Æ (Â ⟨H,0,Á⟩) R R) VJ (fU.fY _ _) f.fD U ln λj E=>nG E;replace f:jh ({l2 with w:=l2.w.setCell ⟨y,0,Á⟩ (Æ (Â ⟨H,0,Á⟩) R R)}:fj) y (Ê #[Æ (Â ⟨H,0,Á⟩) R R] 25):=⟨f.fD,by show(l2.w.setCell ⟨y,0,Á⟩<|Æ (Â ⟨H,0,Á⟩) R R).heap[y]?=_;unfold Ą;simp[î,f.is]⟩;generalize({l2 with w:=l2.w.setCell ⟨y,0,Á⟩ (Æ (Â ⟨H,0,Á⟩) R R)}:fj)=l3 at a f|-;have T:gU (λ_=>False) l l3:=VI.A6 a λj E e=>by have:=C.fG j E;omega
 replace r:=r.gf a Z;have abj:=T.gk C;have alv:¬l3.q:=by rwa[T.q]
 have avm:l2.w.heap.size<=l3.w.heap.size:=a.fh;clear a;apply gZ (n:=20) abj.lw;iterate 5 w_go fS
 u_call Δ gG ģ fS hF
 refine Ë λ_ _=> ?_;refine alq (l:=l3) (kd:=kd) (rq:=rq) (ra:=ra) (rb:=rb) (cr:=cr) (R:=R) (sa:=sa) (sn:=sn) (sc:=sc) abj alv (by rwa[T.d]) hR LZ (λh=>T.M<|Ge h) (λi k=>(iF<|T.fu rb (Ge Z) id).trans<|L0 i k) (λi k=>T.M<|OX i k) (λi k=>(iF<|T.fu _ (OX i k) id).trans<|L3 i k) λg B iv qv W=> ?_;walk_nrm;have a:=W.gf;have VK:gU (λ_=>False) l B:=T.fl a;replace r:=r.gf a id;replace f:=f.gf a id;have L:=VK.gk C;have alx:¬B.q:=by rwa[VK.q]
 have avn:l3.w.heap.size<=B.w.heap.size:=a.fh;clear a;have aly:gU (λ_=>False) B B:=gU.fY L.lw;obtain⟨I,K,rfl⟩:∃I K,iv=Æ I (gD kd R) K:=by
  rcases W.lj.2 with⟨k,s⟩|⟨b,N,Q,k,_⟩
  .exact⟨Á,0,by rwa[s]⟩
  .exact⟨_,_,k⟩
 have og:∀k,k<=gD kd R->g k<B.w.heap.size:=λk hk=>by
  by_cases s:k=0
  .subst s;exact L.fG _<|Ã W.CK.fD
  .exact L.fG _<|Ã (W.gK k Z hk).fD
 have oi:∀k,(Æ I (gD kd R) K).ownBlock=Â k->k<B.w.heap.size:=λk e=>L.fG _<|Ã (W.iO k e).1;have oq:∀k,qv.ownBlock=Â k->k<B.w.heap.size:=λk e=>L.fG _<|Ã (W.qO k e).1;apply gZ (n:=20) L.lw;iterate 4 w_go fS
 refine Ë λ_ _=> ?_;refine uI (V:=λp=>À<|Â ⟨p,0,Á⟩) (ob:=Ê #[Æ Á 0 0] 85) U U (by k_ne) L.lw alx (λw=>by go_simp) (λw=>by simp[go_sem]) λc m=> ?_;walk_nrm;have a:=qT (X:=λ_=>False) (ob:=Ê #[Æ Á 0 0] 85) L m;have s:jh (iM B c<|Ê #[Æ Á 0 0] 85) c.heap.size (Ê #[Æ Á 0 0] 85):=⟨Ç U,qy⟩;have VL:B.w.heap.size<=c.heap.size:=m.fh;generalize iM B c (Ê #[Æ Á 0 0] 85)=l5 at a s|-;generalize c.heap.size=z at s VL|-;clear m c;have VM:gU (λ_=>False) l l5:=VK.fl a;have alz:gU (λ_=>False) B l5:=aly.fl a;replace r:=r.gf a id;replace f:=f.gf a id;have VN:=VM.gk C;have alA:¬l5.q:=by rwa[VM.q]
 have avo:B.w.heap.size<=l5.w.heap.size:=a.fh;clear a;have lbi:=VN.fG z<|Ã s.fD;refine Lw (p:=z) (off:=0) (v:=Æ I (gD kd R) K) (u:=Æ Á 0 0) U U (by k_ne) VN.lw alA s.fD (s.fg U) (by simp[ð,s.is]) U (λw o F=>by go_simp) (λw o F=>by simp[go_sem,â _ _ _ _ _ _ (show Ú (Æ I (gD kd R) K)=Ó from rfl),o,F]) ?_;have a:=Pv (X:=λb=>b=z) (p:=z) (w':=l5.w.setCell ⟨z,0,Á⟩<|Æ I (gD kd R) K) VN (fU.fY _ _) s.fD U ln λj E=>nG E;replace s:jh ({l5 with w:=l5.w.setCell ⟨z,0,Á⟩ (Æ I (gD kd R) K)}:fj) z (Ê #[Æ I (gD kd R) K] 85):=⟨s.fD,by show(l5.w.setCell ⟨z,0,Á⟩<|Æ I (gD kd R) K).heap[z]?=_;unfold Ą;simp[î,s.is]⟩;generalize({l5 with w:=l5.w.setCell ⟨z,0,Á⟩ (Æ I (gD kd R) K)}:fj)=l6 at a s|-;have VO:gU (λ_=>False) l l6:=VM.A6 a λj E e=>by have:=C.fG j E;omega
 have alB:gU (λ_=>False) B l6:=alz.A6 a λj E e=>by have:=L.fG j E;omega
 replace r:=r.gf a Z;replace f:=f.gf a Z;have VP:=VO.gk C;have alC:¬l6.q:=by rwa[VO.q]
 have avp:l5.w.heap.size<=l6.w.heap.size:=a.fh;clear a;apply gZ (n:=20) VP.lw;iterate 5 w_go fS
 refine Ë λ_ _=> ?_;refine uI (V:=λp=>À<|Â ⟨p,0,Á⟩) (ob:=Ê #[É ì 0,É û 0] 97) U U (by k_ne) VP.lw alC (λw=>by go_simp) (λw=>by simp[go_sem]) λc m=> ?_;walk_nrm;have a:=qT (X:=λ_=>False) (ob:=Ê #[É ì 0,É û 0] 97) VP m;have F:jh (iM l6 c<|Ê #[É ì 0,É û 0] 97) c.heap.size (Ê #[É ì 0,É û 0] 97):=⟨Ç U,qy⟩;have uF:l6.w.heap.size<=c.heap.size:=m.fh;generalize iM l6 c (Ê #[É ì 0,É û 0] 97)=l7 at a F|-;generalize c.heap.size=D at F uF|-;clear m c;have VQ:gU (λ_=>False) l l7:=VO.fl a;have alD:gU (λ_=>False) B l7:=alB.fl a;replace r:=r.gf a id;replace f:=f.gf a id;replace s:=s.gf a id;have P5:=VQ.gk C;have alE:¬l7.q:=by rwa[VQ.q]
 have avq:l6.w.heap.size<=l7.w.heap.size:=a.fh;clear a;have avr:=P5.fG D<|Ã F.fD;apply gZ (n:=20) P5.lw;iterate 4 w_go fS
 u_call į gG ν fS hF
 iterate 2 w_go fS
 refine Ë λ_ _=> ?_;refine uI (V:=λp=>À<|Â ⟨p,0,Á⟩) (ob:=Ê #[À<|Â ⟨D,0,Á⟩] 162) U U (by k_ne) P5.lw alE (λw=>by go_simp) (λw=>by simp[go_sem]) λc m=> ?_;walk_nrm;have a:=qT (X:=λ_=>False) (ob:=Ê #[À<|Â ⟨D,0,Á⟩] 162) P5 m;have N:jh (iM l7 c<|Ê #[À<|Â ⟨D,0,Á⟩] 162) c.heap.size (Ê #[À<|Â ⟨D,0,Á⟩] 162):=⟨Ç U,qy⟩;have F4:l7.w.heap.size<=c.heap.size:=m.fh;generalize iM l7 c (Ê #[À<|Â ⟨D,0,Á⟩] 162)=l8 at a N|-;generalize c.heap.size=Y at N F4|-;clear m c;have VR:gU (λ_=>False) l l8:=VQ.fl a;have alF:gU (λ_=>False) B l8:=alD.fl a;replace r:=r.gf a id;replace f:=f.gf a id;replace s:=s.gf a id;replace F:=F.gf a id;have VS:=VR.gk C;have alG:¬l8.q:=by rwa[VR.q]
 have avs:l7.w.heap.size<=l8.w.heap.size:=a.fh;clear a;have lbw:=VS.fG Y<|Ã N.fD;refine uI (V:=λp=>À<|Â ⟨p,0,Á⟩) (ob:=Ê #[ď (þ 48) #[] #[À<|Â ⟨z,0,Á⟩,À<|Â ⟨y,0,Á⟩]] 1) U U (by k_ne) VS.lw alG (λw=>by go_simp) (λw=>by simp[go_sem]) λc m=> ?_;walk_nrm;have a:=qT (X:=λ_=>False) (ob:=Ê #[ď (þ 48) #[] #[À<|Â ⟨z,0,Á⟩,À<|Â ⟨y,0,Á⟩]] 1) VS m;have c6:jh (iM l8 c<|Ê #[ď (þ 48) #[] #[À<|Â ⟨z,0,Á⟩,À<|Â ⟨y,0,Á⟩]] 1) c.heap.size (Ê #[ď (þ 48) #[] #[À<|Â ⟨z,0,Á⟩,À<|Â ⟨y,0,Á⟩]] 1):=⟨Ç U,qy⟩;have PU:l8.w.heap.size<=c.heap.size:=m.fh;generalize iM l8 c (Ê #[ď (þ 48) #[] #[À<|Â ⟨z,0,Á⟩,À<|Â ⟨y,0,Á⟩]] 1)=l9 at a c6|-;generalize c.heap.size=bf at c6 PU|-;clear m c;have P7:gU (λ_=>False) l l9:=VR.fl a;have alH:gU (λ_=>False) B l9:=alF.fl a;replace r:=r.gf a id;replace f:=f.gf a id;replace s:=s.gf a id;replace F:=F.gf a id;replace N:=N.gf a id;have L4:=P7.gk C;have abk:¬l9.q:=by rwa[P7.q]
 have avt:l8.w.heap.size<=l9.w.heap.size:=a.fh;clear a;have lbf:=L4.fG bf<|Ã c6.fD;apply gZ (n:=20) L4.lw;iterate 3 w_go fS
 refine Ë λ_ _=> ?_;apply qN (x:=⟨Y,0,Á⟩) U U (by k_ne) L4.lw abk (Ã<|Ã N.fD) (N.fg U) (λw h=>by go_simp) (λw h=>by simp[go_sem,h]);walk_nrm;apply gZ (n:=20) L4.lw;u_call uA.f_add (Κ Lk) addFn fS hF;refine Ë λ_ _=> ?_;refine aa8 uA L4 abk (by rwa[P7.d]) F.fD F.is U U λQ hC=> ?_;walk_nrm;have a:gU (λb=>b=D) l9 Q:=hC.gf;replace F:jh Q D (Ê #[É ì 4294967296,É û 0] 97):=⟨hC.gf.O D F.fD,hC.is⟩;have VT:gU (λ_=>False) l Q:=P7.A6 a λj E e=>by have:=C.fG j E;omega
 have alI:gU (λ_=>False) B Q:=alH.A6 a λj E e=>by have:=L.fG j E;omega
 replace r:=r.gf a Z;replace f:=f.gf a Z;replace s:=s.gf a Z;replace N:=N.gf a Z;replace c6:=c6.gf a Z;have alJ:=VT.gk C;have avu:¬Q.q:=by rwa[VT.q]
 have avv:l9.w.heap.size<=Q.w.heap.size:=a.fh;clear a;apply gZ (n:=20) alJ.lw;iterate 3 w_go fS
 refine Ë λ_ _=> ?_;refine .fO λF6 A5=> ?_;have at9:∀{b:Nat} {o:Θ},jh Q b o->jh ({Q with w:=F6}:fj) b o:=λh=>⟨h.fD,(A5.fu _<|Ã h.fD).trans h.is⟩;exact hJ g l3 {Q with w:=F6} _ (Æ I (gD kd R) K) qv H y z D Y bf _ ⟨VT.fZ A5,W.A6<|alI.fZ A5,at9 r,at9 f,at9 s,at9 F,at9 N,at9 c6,⟨Z,Z,Z⟩,λk hk=>by have:=og k hk;omega,λk e=>by have:=oi k e;omega,λk e=>by have:=oq k e;omega,⟨Z,Z,Z⟩⟩ ⟨U,U,U,U,U,U⟩
end
def alK{md:ă}{listed:Array Bool}(h:Ü md Q listed=[]):∀(a t:Nat),í md Q a t listed []=[]:=by
 intro a t;cases a with
 |zero=>rfl
 |succ a=>
  simp only[í];change(match(Ü md Q listed)[t%(Ü md Q listed).length]? with
   |some i=>í md Q a (t/(Ü md Q listed).length) (listed.setIfInBounds i Ó) [i]
   |none=>[].reverse)=[]
  rw[h];rfl
section
variable{J:Jd}{l:fj}
def abl{md:ă}(I:Array Bool->Ů->fj->Prop) (p:∀b a l i k,I b a l->b.size=Q.size->i∈Ü md Q b->(Ü md Q (b.setIfInBounds i Ó)=[]->k=[])->fA P yQ (λg m=>(∃h,m=G (f.at h<|Ï Q k::L) qX/\I (b.setIfInBounds i Ó) h g)\/fA P yQ J g m) l (G (f.at a<|Ï Q (i::k)::L) qX)) (o:∀b a l,I b a l->b.size=Q.size->Ü md Q b=[]->fA P yQ J l (G (f.at a<|Ï Q []::L) qX)): ∀(c t:Nat) (b:Array Bool) (a:Ů) (l:fj),b.size=Q.size->ko b<=c->I b a l->fA P yQ J l (G (f.at a<|Ï Q (í md Q c t b [])::L) qX):=by
 intro c
 induction c with
 |zero=>
  intro t b a l d q j;simpa[í]using o b a l j d<|UP d Z
 |succ c r=>
  intro t b a l d q j;simp only[í];change fA P yQ J l (G (f.at a (Ï Q (match(Ü md Q b)[t%(Ü md Q b).length]? with
   |some i=>í md Q c (t/(Ü md Q b).length) (b.setIfInBounds i Ó) [i]
   |none=>[].reverse)::L)) qX)
  cases n:(Ü md Q b)[t%(Ü md Q b).length]? with
  |none=>
   have s:Ü md Q b=[]:=by
    cases u:Ü md Q b with
    |nil=>rfl
    |cons x e=>
     rw[u]at n;have v:t%(x::e).length<(x::e).length:=Ł _ fB;simp at n;simp at v;omega
   simpa using o b a l j d s
  |some i=>
   simp only[];rw[linearise_go_acc,List.reverse_singleton,List.singleton_append];have x:=İ n;refine(p b a l i _ j d x λe=>alK e _ _).oM ?_;rintro g m (⟨h,rfl,hI'⟩|hW)
   .exact r _ _ h g (by simpa using d) (by have:=Pl (mem_ready.1 x).1;omega) hI'
   .exact hW
def alL{id:Nat}(I:Array Bool->Ů->fj->Prop)(o:lG l)(p:¬l.q) (g:∀c,fU l l.w c->I (Array.replicate Q.size Í) y {l with w:={c with drawn:=c.drawn+1}}) (h:∀d b y l i e,I b y l->b.size=Q.size->i∈Ü d Q b->(Ü d Q (b.setIfInBounds i Ó)=[]->e=[])->fA P yQ (λj k=>(∃m,k=G (f.at m<|Ï Q e::L) qX/\I (b.setIfInBounds i Ó) m j)\/fA P yQ J j k) l (G (f.at y<|Ï Q (i::e)::L) qX)) (n:∀d b y l,I b y l->b.size=Q.size->Ü d Q b=[]->fA P yQ J l (G (f.at y<|Ï Q []::L) qX)): fA P yQ J l (G (f.at y<|ö (ß id Q Ó)::L) qX):=by
 refine .mk U λc r=>⟨_,_,_,_,stepG_region_draw,UO (oA o r) p,?_⟩;unfold Region.schedule;split
 .exact abl I (h _) (n _) _ _ _ _ _ fB (by rw[Ic];exact Û _)<|g c r
 .exact abl I (h _) (n _) _ _ _ _ _ fB (by rw[Ic];exact Û _)<|g c r
end
def Gf:å:=⟨Â 15,ý<|Ò 1,100, "work.go:72",#[],Á⟩
def Gi:å:=⟨Â 16,ý<|Ò 4,3, "work.go:72",#[],Á⟩
def Gj:å:=⟨Â 17,ý<|Ò 1,100, "work.go:72",#[],Á⟩
def A8:å:=⟨Â 18,Ď {callee:=ŧ .len,args:=#[Ò 17],argTypes:=#[100]},3, "work.go:72",#[⟨2,Õ⟩],Á⟩
def yw:å:=⟨Â 19,ń .rem 3 (Ò 16) (Ò 18) 3,3, "work.go:72",#[⟨1,Õ⟩,⟨3,Õ⟩],Á⟩
def yx:å:=⟨Â 20,š 100 (Ò 15)<|Ò 19,0, "work.go:72",#[⟨0,Õ⟩,⟨4,Õ⟩],Á⟩
def A9:å:=⟨Â 21,č 101<|Ò 20,101, "work.go:72",#[⟨5,Õ⟩],Á⟩
def Gk:å:=⟨Â 22,č 155<|Ò 5,155, "work.go:72",#[],Á⟩
def Ba:å:=⟨Á,.send (Ò 21)<|Ò 22,0, "work.go:72",#[⟨6,Õ⟩,⟨7,Õ⟩],Á⟩
def qA:Array å:=#[Gf,Gi,Gj,A8,yw,yx,A9,Gk,Ba]
noncomputable def P8:ġ:=rL ũ [1,1,0,0]
noncomputable def abm:ġ:=rL ũ [1]
noncomputable def P9:ġ:=rL ũ [0,1,0,0]
noncomputable def Gl (t:Array Ð) (a:List ç):à:=G ((base 52).at ⟨t,[]⟩ [ö P9,ā P9,ï 0,ö abm]) a
structure DT(dv:Ð)(qb:Option ã)(q cq i:Nat)(t:Array Ð):Prop where
 fh:t.size=32
 t1:t[1]?=Â dv
 t8:t[8]?=Â (Æ qb q cq)
 t9:t[9]?=Â (É Î q)
 CC:t[10]?=Â (É Î i)
def L5(t:Array Ð)(h:t.size=32):∃a b c d e f g i j k l m n o p q r s u v w x y z B C D E F G H I:Ð,t=#[a,b,c,d,e,f,g,i,j,k,l,m,n,o,p,q,r,s,u,v,w,x,y,z,B,C,D,E,F,G,H,I]:=by obtain⟨_,rfl⟩:=arrU t h;exact⟨_,_,_,_,_,_,_,_,_,_,_,_,_,_,_,_,_,_,_,_,_,_,_,_,_,_,_,_,_,_,_,_,U⟩
def yy(c n i a d:Nat)(b tk:Ð)(_:Unit):Nat->Ð
 |0=>b
 |1=>É Î i
 |2=>b
 |3=>É Î n
 |4=>É Î a
 |5=>À<|Â ⟨c,a,Á⟩
 |6=>ê<|Â d
 |7=>tk
 |_=>Å
def Qa(a:fj)(listed:Array Bool)(_:Unit)(l:fj):Prop:=jB (λ_=>False) a l/\¬listed.getD 8 Í=Ó
section
variable{J N:Jd}{p:fj}{g s:Nat}{u:Option ã}
def alM(IJ:ic p)(hq:¬p.q)(ht:d.size=32)(FK:d[1]?=Â (Æ (Â ⟨j9,0,Á⟩) n j))(Lt:d[4]?=Â (É Î i))(UX:d[5]?=Â (À<|Â ⟨g,0,Á⟩))(z:p.O g)(V:p.O j9)(hn:0<n)(yz:n<1000)(hi1:i<1000) (him:i%n=j6) (W:p.w.cell? ⟨j9,j6,Á⟩=Â (ê<|Â m)) (c0:p.w.cell? ⟨g,0,Á⟩=Â (À u)) (c1:p.w.cell? ⟨g,1,Á⟩=Â (É Î s)) (X:p.w.cell? ⟨g,2,Á⟩=Â (À<|Â ⟨j7,0,Á⟩)) (Y:p.w.cell? ⟨g,3,Á⟩=Â (À O)) (hJ:∀l H,jB (λ_=>False) p l->H.size=32->(∀c,c<15->H[c]?=d[c]?)->D1 Ä Ó m (Ě #[À u,É Î s,À<|Â ⟨j7,0,Á⟩,À O]) N l (G ((base 52).at ⟨H,[]⟩<|Ï qA [8]::L) qX)->J l (G ((base 52).at ⟨H,[]⟩<|Ï qA [8]::L) qX)) (hN:∀l H,jB (λ_=>False) p l->H.size=32->(∀c,c<15->H[c]?=d[c]?)->fA Ä Ó N l (G ((base 52).at ⟨H,[]⟩<|Ï qA []::L) qX)) (md:ă) (listed:Array Bool) (a:Ů) (l:fj) (i':Nat) (rest:List Nat) (hI:II qA d (yy j9 n i j6 m (Æ (Â ⟨j9,0,Á⟩) n j)<|Ě #[À u,É Î s,À<|Â ⟨j7,0,Á⟩,À O]) (Qa p) listed a l) (kV:listed.size=qA.size) (C:i'∈Ü md qA listed) (L8:Ü md qA (listed.setIfInBounds i' Ó)=[]->rest=[]): fA Ä Ó (λD F=>(∃Q,F=G ((base 52).at Q<|Ï qA rest::L) qX/\II qA d (yy j9 n i j6 m (Æ (Â ⟨j9,0,Á⟩) n j)<|Ě #[À u,É Î s,À<|Â ⟨j7,0,Á⟩,À O]) (Qa p) (listed.setIfInBounds i' Ó) Q D)\/fA Ä Ó J D F) l (G ((base 52).at a<|Ï qA (i'::rest)::L) qX):=by
 let⟨x,t,T,h8⟩:=hI;have I:w7 qA d.size=Ó:=by rw[ht];decide
 have iy:=Ie C;have K:=T.fG;have M:¬l.q:=by rwa[T.q]
 have qP:a.tmps[1]?=Â (Æ (Â ⟨j9,0,Á⟩) n j):=(t.gd A).trans FK;have Vu:a.tmps[4]?=Â (É Î i):=(t.gd A).trans Lt;have vL:a.tmps[5]?=Â (À<|Â ⟨g,0,Á⟩):=(t.gd A).trans UX;have y:∀b f v,p.O b->p.w.cell? ⟨b,f,Á⟩=Â v->iW l ⟨b,f,Á⟩/\l.w.cell? ⟨b,f,Á⟩=Â v:=λb f v E h=>⟨Ã<|Ã<|T.O b E,by rwa[iF<|T.fu b<|Ã E]⟩;have P:∀{k:Nat},k≠8->∀B,fU l l.w B->Qa p (listed.setIfInBounds k Ó) () {l with w:=B}:=λhm B r=>⟨T.fZ (λ_ q=>q.elim) r,by rwa[é Í hm]⟩;have alN:j6<n:=by rw[<-him];exact Ł _ hn
 have alO:(j6:Int)<(n:Int):=Z
 have L9:¬(n:Int)=0:=Z
 have alP:¬n=0:=Z
 have htm:Int.tmod (i:Int) (n:Int)=(j6:Int):=by rw[Int.tmod_eq_emod_of_nonneg Z,<-him];simp
 have oW:Î.wrap (j6:Int)=(j6:Int):=FN Z Z;have Qb:qA.size=9:=A
 rw[Qb]at iy;match i',iy with
 |0,_=>
  refine(jk (o:=Gf) I t U U C (by k_ne) K M (λB r=> ?_) (λB r e D=> ?_)<|P A).ft λ_ _ h=>Ã h
  .simp only[yy,Gf];go_simp
  .simp[go_sem,Gf,qP]at D
 |1,_=>
  refine(jk (o:=Gi) I t U U C (by k_ne) K M (λB r=> ?_) (λB r e D=> ?_)<|P A).ft λ_ _ h=>Ã h
  .simp only[yy,Gi];go_simp
  .simp[go_sem,Gi,Vu]at D
 |2,_=>
  refine(jk (o:=Gj) I t U U C (by k_ne) K M (λB r=> ?_) (λB r e D=> ?_)<|P A).ft λ_ _ h=>Ã h
  .simp only[yy,Gj];go_simp
  .simp[go_sem,Gj,qP]at D
 |3,_=>
  have F:a.tmps[17]?=Â (Æ (Â ⟨j9,0,Á⟩) n j):=t.fN 2 Gj 17 U (jj (o:=A8) C U U) U;refine(jk (o:=A8) I t U U C (by k_ne) K M (λB r=> ?_) (λB r e D=> ?_)<|P A).ft λ_ _ h=>Ã h
  .simp only[yy,A8];go_simp
  .simp[go_sem,A8,F]at D
 |4,_=>
  have F:a.tmps[16]?=Â (É Î i):=t.fN 1 Gi 16 U (jj (o:=yw) C U U) U;have Q:a.tmps[18]?=Â (É Î n):=t.fN 3 A8 18 U (jj (o:=yw) C U U) U;refine(jk (o:=yw) I t U U C (by k_ne) K M (λB r=> ?_) (λB r e D=> ?_)<|P A).ft λ_ _ h=>Ã h
  .simp only[yy,yw];go_simp
  .simp[go_sem,yw,F,Q,L9,alP,htm,oW]at D
 |5,_=>
  have F:a.tmps[15]?=Â (Æ (Â ⟨j9,0,Á⟩) n j):=t.fN 0 Gf 15 U (jj (o:=yx) C U U) U;have Q:a.tmps[19]?=Â (É Î j6):=t.fN 4 yw 19 U (jj (o:=yx) C U U) U;refine(jk (o:=yx) I t U U C (by k_ne) K M (λB r=> ?_) (λB r e D=> ?_)<|P A).ft λ_ _ h=>Ã h
  .simp only[yy,yx];go_simp
  .simp[go_sem,yx,F,Q,alN,alO]at D
 |6,_=>
  have Q:a.tmps[20]?=Â (À<|Â ⟨j9,j6,Á⟩):=t.fN 5 yx 20 U (jj (o:=A9) C U U) U;refine(jk (o:=A9) I t U U C (by k_ne) K M (λB r=> ?_) (λB r e D=> ?_)<|P A).ft λ_ _ h=>Ã h
  .have F:=((y j9 _ _ V W).1.fg r).trans (y j9 _ _ V W).2;simp only[yy,A9];go_simp
  .have F:=((y j9 _ _ V W).1.fg r).trans (y j9 _ _ V W).2;have hee:e=⟨Ā ⟨j9,j6,Á⟩,Í,Í⟩:=by simp[go_sem,A9,F,Q]at D;exact D
   subst hee;exact(y j9 _ _ V W).1.rd
 |7,_=>
  refine(jk (o:=Gk) I t U U C (by k_ne) K M (λB r=> ?_) (λB r e D=> ?_)<|P A).ft λ_ _ h=>Ã h
  .have F:=((y g _ _ z c0).1.fg r).trans (y g _ _ z c0).2;have Q:=((y g _ _ z c1).1.fg r).trans (y g _ _ z c1).2;have uH:=((y g _ _ z X).1.fg r).trans (y g _ _ z X).2;have yu:=((y g _ _ z Y).1.fg r).trans (y g _ _ z Y).2;simp only[yy,Gk];go_simp
  .have F:=((y g _ _ z c0).1.fg r).trans (y g _ _ z c0).2;have Q:=((y g _ _ z c1).1.fg r).trans (y g _ _ z c1).2;have uH:=((y g _ _ z X).1.fg r).trans (y g _ _ z X).2;have yu:=((y g _ _ z Y).1.fg r).trans (y g _ _ z Y).2;simp[go_sem,Gk,vL,F,Q,uH,yu]at D;rcases D with rfl|rfl|rfl|rfl
   .exact(y g _ _ z c0).1.rd
   .exact(y g _ _ z c1).1.rd
   .exact(y g _ _ z X).1.rd
   .exact(y g _ _ z Y).1.rd
 |8,_=>
  have d6:=jj (j:=6) (o:=Ba) C U U;have d7:=jj (j:=7) (o:=Ba) C U U;have Va:a.tmps[21]?=Â (ê<|Â m):=t.fN 6 A9 21 U d6 U;have U0:a.tmps[22]?=Â (Ě #[À u,É Î s,À<|Â ⟨j7,0,Á⟩,À O]):=t.fN 7 Gk 22 U d7 U;have d5:=t.uz (j:=5) (o:=A9) U d6 U;have d0:=t.uz (j:=0) (o:=yx) U d5 U;have d4:=t.uz (j:=4) (o:=yx) U d5 U;have d1:=t.uz (j:=1) (o:=yw) U d4 U;have d3:=t.uz (j:=3) (o:=yw) U d4 U;have d2:=t.uz (j:=2) (o:=A8) U d3 U;have uF:Ü md qA (listed.setIfInBounds 8 Ó)=[]:=by
   rw[List.eq_nil_iff_forall_not_mem];intro f hj;have yA:=Ie hj;have F:=US hj;rw[Qb]at yA;by_cases Q:f=8
   .subst Q;have D:8<listed.size:=by rw[kV,Qb];decide
    simp[D]at F
   .rw[é Ó<|Ne.symm Q]at F;have D:=AX F;match f,yA,Q with
    |0,_,_=>exact D d0
    |1,_,_=>exact D d1
    |2,_,_=>exact D d2
    |3,_,_=>exact D d3
    |4,_,_=>exact D d4
    |5,_,_=>exact D d5
    |6,_,_=>exact D d6
    |7,_,_=>exact D d7
    |8,_,h=>exact h U
  obtain rfl:=L8 uF;let⟨F,ds⟩:=a;obtain rfl:ds=[]:=t.Cs;have Ma:F.size=32:=t.fh.trans ht;have Qc:∀c,c<15->F[c]?=d[c]?:=λc hd=>t.ja c λf o E _ e=>by
   have yA:=(æ.1 E).1;rw[Qb]at yA;match f,yA with
   |0,_=>
    have D:o=Gf:=(Ô<|show Â Gf=Â o from E).symm;rw[D]at e;have Q:15=c:=Ô (show Â 15=Â c from e);omega
   |1,_=>
    have D:o=Gi:=(Ô<|show Â Gi=Â o from E).symm;rw[D]at e;have Q:16=c:=Ô (show Â 16=Â c from e);omega
   |2,_=>
    have D:o=Gj:=(Ô<|show Â Gj=Â o from E).symm;rw[D]at e;have Q:17=c:=Ô (show Â 17=Â c from e);omega
   |3,_=>
    have D:o=A8:=(Ô<|show Â A8=Â o from E).symm;rw[D]at e;have Q:18=c:=Ô (show Â 18=Â c from e);omega
   |4,_=>
    have D:o=yw:=(Ô<|show Â yw=Â o from E).symm;rw[D]at e;have Q:19=c:=Ô (show Â 19=Â c from e);omega
   |5,_=>
    have D:o=yx:=(Ô<|show Â yx=Â o from E).symm;rw[D]at e;have Q:20=c:=Ô (show Â 20=Â c from e);omega
   |6,_=>
    have D:o=A9:=(Ô<|show Â A9=Â o from E).symm;rw[D]at e;have Q:21=c:=Ô (show Â 21=Â c from e);omega
   |7,_=>
    have D:o=Gk:=(Ô<|show Â Gk=Â o from E).symm;rw[D]at e;have Q:22=c:=Ô (show Â 22=Â c from e);omega
   |8,_=>
    have D:o=Ba:=(Ô<|show Â Ba=Â o from E).symm;rw[D]at e;cases(show Á=Â c from e)
  refine .fO λB r=>Ç (.fO λs5 D=> ?_);have Q:jB (λ_=>False) p ({l with w:=s5}:fj):=T.fZ (λ_ q=>q.elim)<|r.fl ⟨D.fh,D.fu,D.fg,D.fC,D.ia⟩;refine hJ _ F Q Ma Qc ⟨U,U,λD=>⟨ñ #[],?_⟩,?_⟩
  .refine(Λ (cases:=#[scase m (Ě #[À u,É Î s,À<|Â ⟨j7,0,Á⟩,À O])<|ñ #[]]) (blocking:=Ó) (shape:=.send) (w':=D) (o:=Ba) rfl rfl (by k_ne) ?_).trans ?_
   .simp[go_sem,Ba,đ,scase,ę,Va,U0]
   .have:Ū Ä (base 52).fn ⟨F,[]⟩ Ba D=#[]:=by
     unfold Ū;simp[go_sem,Ba,đ,ę,Va,U0,Ĳ]
    rw[this]
  .have e:({G ((base 52).at ⟨F,[]⟩<|Ï qA [8]::L) qX with frame:=(G ((base 52).at ⟨F,[]⟩<|Ï qA [8]::L) qX).frame.finish Å}:à)=G ((base 52).at ⟨F,[]⟩<|Ï qA []::L) qX:=by
    have:(G ((base 52).at ⟨F,[]⟩<|Ï qA [8]::L) qX).frame.finish Å=(base 52).at (π ⟨F,[]⟩ Á Å) (Ï qA []::L):=ī _ _ _ _ _ _ _;rw[this];rfl
   rw[e];exact hN _ F Q Ma Qc
 |n+9,h=>exact absurd h Z
end
section
variable{N:Jd}{l:fj}{f:Option ã}
def alQ(s:ic l)(K:¬l.q)(G:DT (Æ (Â ⟨J,0,Á⟩) n j) (Â ⟨j6,0,Á⟩) b m i d)(hiq:i<b)(xf:b<1000)(hn:0<n)(yz:n<1000)(hdb:l.O J)(cd:l.w.cell? ⟨J,i%n,Á⟩=Â (ê<|Â k))(VU:l.M j6) (i0:l.w.cell? ⟨j6,i*4,Á⟩=Â (À f)) (i1:l.w.cell? ⟨j6,i*4+1,Á⟩=Â (É Î j7)) (i2:l.w.cell? ⟨j6,i*4+2,Á⟩=Â (À<|Â ⟨j9,0,Á⟩)) (i3:l.w.cell? ⟨j6,i*4+3,Á⟩=Â (À O)) (hN:∀t H,jB (λ_=>False) l t->DT (Æ (Â ⟨J,0,Á⟩) n j) (Â ⟨j6,0,Á⟩) b m (i+1) H->fA Ä Ó N t (Gl H qX)): fA Ä Ó (D1 Ä Ó k (Ě #[À f,É Î j7,À<|Â ⟨j9,0,Á⟩,À O]) N) l (Gl d qX):=by
 obtain⟨y0,y1,y2,y3,y4,y5,y6,y7,y8,y9,vM,yp,xb,sD,tD,sF,xc,uB,uC,uD,tE,tF,tH,tJ,uE,vN,xd,tK,rN,qR,qS,oZ,rfl⟩:=L5 d G.fh;obtain rfl:y1=Æ (Â ⟨J,0,Á⟩) n j:=by simpa using G.t1
 obtain rfl:y8=Æ (Â ⟨j6,0,Á⟩) b m:=by simpa using G.t8
 obtain rfl:y9=É Î b:=by simpa using G.t9
 obtain rfl:vM=É Î i:=by simpa using G.CC
 have vP:∀y:ã,False->l.Oc y:=λy ha=>ha.elim;have avw:(i:Int)<(b:Int):=Z
 have hF:True:=trivial;simp only[Gl];conv in P9=>whnf
 apply gZ (n:=30) s.lw;repeat w_go fS
 refine Ë λ_ _=> ?_;have g:∀c,iW l ⟨j6,c,Á⟩:=λc=>Ã VU;refine ym (v:=Ě #[À f,É Î j7,À<|Â ⟨j9,0,Á⟩,À O]) U U (by k_ne) s.lw K (λo r=> ?_) (λo r e h=> ?_) ?_
 .have u:=((g<|i*4).fg r).trans i0;have z:=((g<|i*4+1).fg r).trans i1;have B:=((g<|i*4+2).fg r).trans i2;have C:=((g<|i*4+3).fg r).trans i3;go_simp
 .have u:=((g<|i*4).fg r).trans i0;have z:=((g<|i*4+1).fg r).trans i1;have B:=((g<|i*4+2).fg r).trans i2;have C:=((g<|i*4+3).fg r).trans i3;simp[go_sem,u,z,B,C]at h;rcases h with rfl|rfl|rfl|rfl
  .exact(g _).rd
  .exact(g _).rd
  .exact(g _).rd
  .exact(g _).rd
 walk_nrm;refine Ll (ob:=Ê #[À Á,É Î 0,À Á,À Á] 155) U U (by k_ne) s.lw K (λw=>by go_simp) (λw=>by simp[go_sem]) λo Y=> ?_;walk_nrm;have D:jB (λ_=>False) l (iM l o<|Ê #[À Á,É Î 0,À Á,À Á] 155):=Pq s vP Y;have L:(iM l o<|Ê #[À Á,É Î 0,À Á,À Á] 155).w.heap[o.heap.size]?=Â (Ê #[À Á,É Î 0,À Á,À Á] 155):=qy;have xe:l.w.heap.size<=o.heap.size:=Y.fh;have q:(iM l o<|Ê #[À Á,É Î 0,À Á,À Á] 155).O o.heap.size:=Ç U;generalize iM l o (Ê #[À Á,É Î 0,À Á,À Á] 155)=l₁ at D L q|-;generalize o.heap.size=tb at L q xe|-;apply gZ (n:=3) D.fG;w_go fS;refine Ë λ_ _=> ?_;refine yl U U (by k_ne) λr P=> ?_;have E:r.heap[tb]?=_:=(P.fu tb<|Ã q).trans L;have u:r.cell? ⟨tb,0,Á⟩=Â (À Á):=by simp[Ù,E]
 have z:r.cell? ⟨tb,1,Á⟩=Â (É Î 0):=by simp[Ù,E]
 have B:r.cell? ⟨tb,2,Á⟩=Â (À Á):=by simp[Ù,E]
 have C:r.cell? ⟨tb,3,Á⟩=Â (À Á):=by simp[Ù,E]
 have hz:∀c,r.frozen? ⟨tb,c,Á⟩=Í:=λc=>by simp[ð,E]
 go_simp;refine⟨{l₁ with w:=jS r tb (À f) (É Î j7) (À<|Â ⟨j9,0,Á⟩) (À O)},Pr (p:=tb) (oA D.fG P) (by rwa[D.q]) q AY (λc x=>Cv x) ⟨U,U,U⟩ λe h=> ?_,?_⟩
 .have a:=ě h;have e:∀c,tB l₁ ⟨tb,c,Á⟩:=λc=>Ã q;simp[go_sem,â _ _ _ _ _ _ (show Ú (À f)=Ó from rfl),â _ _ _ _ _ _ (show Ú (À<|Â ⟨j9,0,Á⟩)=Ó from rfl),â _ _ _ _ _ _ (show Ú (À O)=Ó from rfl),u,z,B,C,hz]at a;rcases a with rfl|rfl|rfl|rfl
  .exact(e _).wr
  .exact(e _).wr
  .exact(e _).wr
  .exact(e _).wr
 let⟨Q,T,V,W⟩:=U4 (v0:=À f) (v1:=É Î j7) (v2:=À<|Â ⟨j9,0,Á⟩) (v3:=À O) u z B C;have F:=U5 (w':=jS r tb (À f) (É Î j7) (À<|Â ⟨j9,0,Á⟩)<|À O) s vP D P xe AY λc x=>Cv x;have FO:({l₁ with w:=jS r tb (À f) (É Î j7) (À<|Â ⟨j9,0,Á⟩) (À O)}:fj).O tb:=q;replace Q:({l₁ with w:=jS r tb (À f) (É Î j7) (À<|Â ⟨j9,0,Á⟩) (À O)}:fj).w.cell? ⟨tb,0,Á⟩=_:=Q;replace T:({l₁ with w:=jS r tb (À f) (É Î j7) (À<|Â ⟨j9,0,Á⟩) (À O)}:fj).w.cell? ⟨tb,1,Á⟩=_:=T;replace V:({l₁ with w:=jS r tb (À f) (É Î j7) (À<|Â ⟨j9,0,Á⟩) (À O)}:fj).w.cell? ⟨tb,2,Á⟩=_:=V;replace W:({l₁ with w:=jS r tb (À f) (É Î j7) (À<|Â ⟨j9,0,Á⟩) (À O)}:fj).w.cell? ⟨tb,3,Á⟩=_:=W;generalize({l₁ with w:=jS r tb (À f) (É Î j7) (À<|Â ⟨j9,0,Á⟩) (À O)}:fj)=l₂ at Q T V W F FO|-;clear L q D E u z B C hz P r l₁ Y o;have X:=F.gk s;have rO:¬l₂.q:=by rwa[F.q]
 have cd2:l₂.w.cell? ⟨J,i%n,Á⟩=Â (ê<|Â k):=(iF<|F.fu J<|Ã hdb).trans cd;apply gZ (n:=5) X.lw;w_go fS;refine Ë λ_ _=> ?_;refine alL (II qA #[y0,Æ (Â ⟨J,0,Á⟩) n j,y2,y3,É Î i,À<|Â ⟨tb,0,Á⟩,y6,y7,Æ (Â ⟨j6,0,Á⟩) b m,É Î b,É Î i,ĭ Ó,É Î i,À<|Â ⟨j6,i*4,Á⟩,Ě #[À f,É Î j7,À<|Â ⟨j9,0,Á⟩,À O],sF,xc,uB,uC,uD,tE,tF,tH,tJ,uE,vN,xd,tK,rN,qR,qS,oZ] (yy J n i (i%n) k (Æ (Â ⟨J,0,Á⟩) n j)<|Ě #[À f,É Î j7,À<|Â ⟨j9,0,Á⟩,À O])<|Qa l₂) X.lw rO (λa x=> ?_) (λmd listed a t i' rest hI I e L8=>alM (J:=D1 Ä Ó k (Ě #[À f,É Î j7,À<|Â ⟨j9,0,Á⟩,À O]) N) (N:=N) X rO U U U U FO (F.O J hdb) hn yz Z U cd2 Q T V W (λl H _ _ _ h=>h) (λt H hA hs h=> ?_) md listed a t i' rest hI I e L8) λmd listed a lX hI I yr=> ?_
 .exact⟨(),pC.jy _ _ _,(jB.fY X.lw).fZ (λ_ b=>b.elim) ⟨x.fh,x.fu,x.fg,x.fC,x.ia⟩,A⟩
 .have x:=F.fl hA;have a:=(h 1 A).trans (show _=Â (Æ (Â ⟨J,0,Á⟩) n j)from U);have o8:=(h 8 A).trans (show _=Â (Æ (Â ⟨j6,0,Á⟩) b m)from U);have o9:=(h 9 A).trans (show _=Â (É Î b)from U);have o10:=(h 10 A).trans (show _=Â (É Î i)from U);clear h;obtain⟨x0,x1,x2,x3,x4,x5,x6,x7,x8,x9,x10,x11,x12,x13,x14,x15,x16,x17,x18,x19,x20,x21,x22,x23,x24,x25,x26,x27,x28,x29,x30,x31,rfl⟩:=L5 H hs;obtain rfl:x1=Æ (Â ⟨J,0,Á⟩) n j:=by simpa using a
  obtain rfl:x8=Æ (Â ⟨j6,0,Á⟩) b m:=by simpa using o8
  obtain rfl:x9=É Î b:=by simpa using o9
  obtain rfl:x10=É Î i:=by simpa using o10
  apply gZ (n:=9) x.fG;iterate 7 w_go fS
  refine Ë λ_ _=> ?_;refine hN t _ x ⟨U,U,U,U,?_⟩;simp;exact FN Z Z
 .let⟨x,hR,hS3,a⟩:=hI;have h:∀i∈ä 9,listed.getD i Í=Ó:=by
   cases md
   .exact tC yr I (ä 9) [] gG λi e=>by cases e
   .exact tC yr I (ä 9) [] gG λi e=>by cases e
   .exact tC yr I (ä 9) [] gG λi e=>by cases e
  exact absurd (h 8 A) a
end
noncomputable def Gm (t:Array Ð) (a:List ç):à:=G ((base 52).at ⟨t,[]⟩ [ö P8,ā P8,ï 2]) a
structure ET(dv:Ð)(n j:Nat)(t:Array Ð):Prop where
 fh:t.size=32
 alR:t[24]?=Â dv
 abn:t[25]?=Â (É Î n)
 abo:t[26]?=Â (É Î j)
def Mb(t:Array Ð):ç:=(base 37).at ⟨t,[]⟩ [Ï Py [2],ö<|(ß 13 Pz Í).seq PE]
def IK(t:Array Ð)(a:List ç):à:=G ((base 37).at ⟨t,[]⟩ [Ï Pz [],ö PE]) a
structure SE(ba all qz:Nat)(t:Array Ð):Prop where
 fh:t.size=49
 t8:t[8]?=Â (À<|Â ⟨ba,0,Á⟩)
 CF:t[11]?=Â (À<|Â ⟨qz,0,Á⟩)
 FX:t[12]?=Â (À<|Â ⟨all,0,Á⟩)
section
variable{J a N:Jd}{l:fj}{t:Array Ð}{ba all qz:Nat}{dv:Ð}
def alS(e:lG l)(a:ST ba all qz n n (Æ O k j9) dv t)(f:∀b d,DT dv O k j9 0 b->SE ba all qz d->fA Ä Ó J l (Gl b<|Mb d::qX)):fA Ä Ó J l (FV t qX):=by
 obtain⟨p,q,r,s,u,v,w,x,g,y,h,i,j,c,z,B,C,D,E,F,G,H,I,K,L,M,N,m,o,P,Q,T,V,W,X,Y,pA,qL,qM,rG,rH,rI,rJ,rK,nQ,mH,mI,mJ,pB,rfl⟩:=LK t a.fh;obtain rfl:g=À (Â ⟨ba,0,Á⟩):=by simpa using a.t8
 obtain rfl:h=Æ O k j9:=by simpa using a.CC
 obtain rfl:i=À (Â ⟨qz,0,Á⟩):=by simpa using a.CF
 obtain rfl:j=À (Â ⟨all,0,Á⟩):=by simpa using a.FX
 obtain rfl:dv=c:=(show c=dv by simpa using a.CG).symm;obtain rfl:m=É Î n:=by simpa using a.Vj
 obtain rfl:o=É Î n:=by simpa using a.Vk
 have hmm:¬(n:Int)<(n:Int):=Z
 have hF:True:=trivial;apply gZ (n:=40) e;simp only[FV,IB,Vh];iterate 7 w_go fS
 simp only[PF,Py];iterate 4 w_go fS
 u_call Ζ gG ũ fS hF
 iterate 9 w_go fS
 refine Ë λ_ _=> ?_;exact f _ _ ⟨U,U,U,U,U⟩ ⟨U,U,U,U⟩
def alT(d:lG l)(a:DT (Æ (Â ⟨j7,0,Á⟩) n b) O k j9 k t)(e:∀c,ET (Æ (Â ⟨j7,0,Á⟩) n b) n 0 c->fA Ä Ó J l (Gm c qX)):fA Ä Ó J l (Gl t qX):=by
 obtain⟨i,f,j,m,o,p,q,r,s,g,h,u,v,w,x,y,z,B,C,D,E,F,G,H,I,K,L,M,N,P,Q,T,rfl⟩:=L5 t a.fh;obtain rfl:f=Æ (Â ⟨j7,0,Á⟩) n b:=by simpa using a.t1
 obtain rfl:g=É Î k:=by simpa using a.t9
 obtain rfl:h=É Î k:=by simpa using a.CC
 have V:¬(k:Int)<(k:Int):=Z
 have hF:True:=trivial;apply gZ (n:=40) d;simp only[Gl];conv in P9=>whnf
 iterate 7 w_go fS
 conv in abm=>whnf
 iterate 8 w_go fS
 refine Ë λ_ _=> ?_;exact e _ ⟨U,U,U,U⟩
def alU(a:ic l)(g:¬l.q)(c:ET (Æ (Â ⟨j7,0,Á⟩) n b) n j t)(z:j<n)(B:n<1000)(i:l.O j7)(o:l.w.cell? ⟨j7,j,Á⟩=Â (ê<|Â m)) (p:∀d e,jB (λ_=>False) l d->ET (Æ (Â ⟨j7,0,Á⟩) n b) n (j+1) e->fA Ä Ó N d (Gm e qX)):fA Ä Ó (Oo Ä Ó m N) l (Gm t qX):=by
 obtain⟨C,D,F,G,H,I,J,K,L,M,P,Q,T,V,W,X,Y,uB,uC,uD,tE,tF,tH,tJ,q,u,v,tK,rN,qR,qS,oZ,rfl⟩:=L5 t c.fh;obtain rfl:q=Æ (Â ⟨j7,0,Á⟩) n b:=by simpa using c.alR
 obtain rfl:u=É Î n:=by simpa using c.abn
 obtain rfl:v=É Î j:=by simpa using c.abo
 have akW:(j:Int)<(n:Int):=Z
 have hF:True:=trivial;apply gZ (n:=40) a.lw;simp only[Gm];conv in P8=>whnf
 repeat w_go fS
 refine Ë λ_ _=> ?_;apply qN (x:=⟨j7,j,Á⟩) U U (by k_ne) a.lw g (Ã<|Ã i) o (λw h=>by go_simp) (λw h=>by simp[go_sem,h]);walk_nrm;apply gZ (n:=40) a.lw;iterate 4 w_go fS
 refine Ë λ_ _=> ?_;refine .fO λw₁ y=>⟨U,U,_,U,λs5 cap buf s r tm h=>(stepG_close U U (by k_ne) U U h gG).trans U,?_⟩;walk_nrm;have f:=(jB.fY (E:=λ_=>False) a.lw).fZ (λ_ k=>k.elim) y;apply gZ (n:=20) f.fG;iterate 7 w_go fS
 refine Ë λ_ _=> ?_;refine p _ _ f ⟨U,U,U,?_⟩;simp;exact FN Z Z
def alV(f:ic l)(j:l.d=0)(r:60<=i)(g:ET dv n n t)(e:SE ba all qz d)(m:l.K ⟨all,0,Á⟩/\l.K ⟨all,1,Á⟩)(s:pz all l.w) (u:∀o p,jB (λ_=>False) l o->SE ba all qz p->a o (IK p qX)):fA Ä Ó (uq Ä Ó i all a .jy) l (Gm t<|Mb d::qX):=by
 obtain⟨N,P,Q,T,V,W,X,Y,y8,y9,vM,yp,xb,sD,tD,sF,xc,uB,uC,uD,tE,tF,tH,tJ,uE,v,x,tK,rN,qR,qS,oZ,rfl⟩:=L5 t g.fh;obtain rfl:v=É Î n:=by simpa using g.abn
 obtain rfl:x=É Î n:=by simpa using g.abo
 have hmm:¬(n:Int)<(n:Int):=Z
 have hF:True:=trivial;apply gZ (n:=40) f.lw;simp only[Gm,Mb,Py];conv in P8=>whnf
 iterate 8 w_go fS
 obtain⟨z0,z1,z2,z3,z4,z5,z6,z7,y,z9,z10,z,B,z13,z14,z15,z16,z17,z18,z19,z20,z21,z22,z23,z24,z25,z26,z27,z28,z29,z30,z31,z32,z33,z34,z35,z36,z37,z38,z39,z40,z41,z42,z43,z44,z45,z46,z47,z48,rfl⟩:=LK d e.fh;obtain rfl:y=À (Â ⟨ba,0,Á⟩):=by simpa using e.t8
 obtain rfl:z=À (Â ⟨qz,0,Á⟩):=by simpa using e.CF
 obtain rfl:B=À (Â ⟨all,0,Á⟩):=by simpa using e.FX
 u_leave0 Ζ fS hF
 simp only[Pz];iterate 3 w_go fS
 u_call uA.f_wait (nm_wait Lk) waitFn fS hF
 refine Ë λ_ _=> ?_;have C:nP (λw=>fU l l.w w) l all:=⟨Ã m.1,Ã m.2,λw D F G H I J h=>h.fl ⟨F,G,H,I,J⟩⟩;refine aaz uA r C ⟨f.lw,s,fU.fY _ _⟩ j λD L=> ?_;walk_nrm;refine .fO λq c=> ?_;have b:=(jB.fY (E:=λ_=>False) f.lw).fZ (λ_ k=>k.elim)<|L.2.2.fl ⟨c.fh,c.fu,c.fg,c.fC,c.ia⟩;have M:jB (λ_=>False) l ({l with d:=0,w:=q}:fj):=⟨b.O,b.fN,b.Rd,b.Oc,b.Rc,b.K,b.q,j.symm,b.fG,b.fh,b.fu,b.fg,b.fC,b.ia,b.rM⟩;exact u {l with d:=0,w:=q} _ M ⟨U,U,U,U⟩
end
def zO(a:Nat)(b c:Ð)(_:Unit):Nat->Ð
 |0=>b
 |1=>À<|Â ⟨a,0,Á⟩
 |2=>À<|Â ⟨a,0,Á⟩
 |3=>À<|Â ⟨a,2,Á⟩
 |4=>c
 |5=>b
 |_=>c
def Qd(a:fj)(_:Array Bool)(_:Unit)(l:fj):Prop:=gU (λ_=>False) a l
section
variable{J:Jd}{g:fj}{h:Option ã}
def alW(K:¬g.q)(N:q.size=49)(P:q[8]?=Â (À<|Â ⟨m,0,Á⟩))(Q:q[11]?=Â (À<|Â ⟨j9,0,Á⟩))(E:g.M m)(F:iW g ⟨j9,2,Á⟩)(c0:g.w.cell? ⟨m,0,Á⟩=Â (Æ O b n))(c1:g.w.cell? ⟨j9,2,Á⟩=Â (Æ h j6 j7)) (md:ă) (listed:Array Bool) (y:Ů) (l:fj) (i:Nat) (jJ:List Nat) (T:II A0 q (zO j9 (Æ O b n)<|Æ h j6 j7) (Qd g) listed y l) (k:i∈Ü md A0 listed): fA Ä Ó (λc d=>∃a,d=G ((base 37).at a<|Ï A0 jJ::L) qX/\II A0 q (zO j9 (Æ O b n)<|Æ h j6 j7) (Qd g) (listed.setIfInBounds i Ó) a c) l (G ((base 37).at y<|Ï A0 (i::jJ)::L) qX):=by
 let⟨x,j,p⟩:=T;have s:w7 A0 q.size=Ó:=by rw[N];decide
 have H:=Ie k;have t:=p.fG;have u:¬l.q:=by rwa[show l.q=g.q from p.q]
 have V:=(j.gd A).trans P;have W:=(j.gd A).trans Q;have B:iW l ⟨m,0,Á⟩:=Ã<|p.M E;have D:iW l ⟨j9,2,Á⟩:=F.imp (λa=>p.M a) λa=>by rwa[p.C]
 have I:=(iF<|p.fu m E id).trans c0;have J:l.w.cell? ⟨j9,2,Á⟩=Â (Æ h j6 j7):=by
  refine Ŋ ?_ c1;rcases F with a|a
  .exact iF<|p.fu _ a id
  .exact p.fg _ a
 have v:∀{c:Nat},∀d,fU l l.w d->Qd g (listed.setIfInBounds c Ó) () {l with w:=d}:=λd r=>p.fZ r;have X:A0.size=7:=A
 rw[X]at H;match i,H with
 |0,_=>
  refine jk (o:=Ly) s j U U k (by k_ne) t u (λd r=> ?_) (λd r e f=> ?_) v
  .have z:=(B.fg r).trans I;simp only[zO,Ly];go_simp
  .have z:=(B.fg r).trans I;simp[go_sem,Ly,V,z]at f;subst f;exact B.rd
 |4,_=>
  have Y:y.tmps[47]?=Â (À<|Â ⟨j9,2,Á⟩):=j.fN 3 LB 47 U (jj k U U) U;refine jk (o:=LC) s j U U k (by k_ne) t u (λd r=> ?_) (λd r e f=> ?_) v
  .have z:=(D.fg r).trans J;simp only[zO,LC];go_simp
  .have z:=(D.fg r).trans J;simp[go_sem,LC,Y,z]at f;subst f;exact D.rd
 |1,_=>
  refine jk (o:=Lz) s j U U k (by k_ne) t u (λd r=> ?_) (λd r e f=> ?_) v
  .simp only[zO,Lz];go_simp
  .simp[go_sem,Lz,W]at f
 |2,_=>
  have z:y.tmps[45]?=Â (À<|Â ⟨j9,0,Á⟩):=j.fN 1 Lz 45 U (jj k U U) U;refine jk (o:=LA) s j U U k (by k_ne) t u (λd r=> ?_) (λd r e f=> ?_) v
  .simp only[zO,LA];go_simp
  .simp[go_sem,LA,z]at f
 |3,_=>
  have z:y.tmps[46]?=Â (À<|Â ⟨j9,0,Á⟩):=j.fN 2 LA 46 U (jj k U U) U;refine jk (o:=LB) s j U U k (by k_ne) t u (λd r=> ?_) (λd r e f=> ?_) v
  .simp only[zO,LB];go_simp
  .simp[go_sem,LB,z]at f
 |5,_=>
  have z:y.tmps[44]?=Â (Æ O b n):=j.fN 0 Ly 44 U (jj k U U) U;refine jk (o:=LD) s j U U k (by k_ne) t u (λd r=> ?_) (λd r e f=> ?_) v
  .simp only[zO,LD];go_simp
  .simp[go_sem,LD,z]at f
 |6,_=>
  have z:y.tmps[48]?=Â (Æ h j6 j7):=j.fN 4 LC 48 U (jj k U U) U;refine jk (o:=LF) s j U U k (by k_ne) t u (λd r=> ?_) (λd r e f=> ?_) v
  .simp only[zO,LF];go_simp
  .simp[go_sem,LF,z]at f
def alX(c:ic g)(t:¬g.q)(e:SE m j j9 d)(B:g.M m)(C:iW g ⟨j9,2,Á⟩)(c0:g.w.cell? ⟨m,0,Á⟩=Â (Æ O b n))(c1:g.w.cell? ⟨j9,2,Á⟩=Â (Æ h j6 j7)) (D:∀u,gU (λ_=>False) g u->fA Ä Ó J u (G (f.at (y.put ((Q[i]?).bind (·.dst))<|ñ #[Æ O b n,Æ h j6 j7])<|Ï Q jJ::L) qX)): fA Ä Ó J g (IK d<|f.at y (Ï Q (i::jJ)::L)::qX):=by
 have hF:=trivial;apply gZ (n:=9) c.lw;simp only[IK,PE];iterate 2 w_go fS
 refine Ë λ_ _=> ?_;refine UQ (II A0 d (zO j9 (Æ O b n)<|Æ h j6 j7)<|Qd g) c.lw t (λl a=>⟨(),pC.jy _ _ _,(gU.fY c.lw).fZ ⟨a.fh,a.fu,a.fg,a.fC,a.ia⟩⟩) (λk o y l i jJ p a=>alW t e.fh e.t8 e.CF B C c0 c1 k o y l i jJ p a) λk o E F p r s=> ?_;let⟨x,l,H⟩:=p;have v:∀i∈ä 7,o.getD i Í=Ó:=by
  cases k
  .exact tC s r (ä 7) [] gG λi a=>by cases a
  .exact λi a=>tC s r [0,5,1,2,3,4,6] [] gG (λi a=>by cases a) i (by have:=ù.1 a;revert i;decide)
  .exact tC s r (ä 7) [] gG λi a=>by cases a
 let⟨a,I⟩:=E;obtain rfl:I=[]:=l.Cs;have K:a[6]?=Â (Æ O b n):=l.fN 5 LD 6 U (v 5 A) U;have N:a[7]?=Â (Æ h j6 j7):=l.fN 6 LF 7 U (v 6 A) U;have W:=l.fh.trans e.fh;have z:=H;have P:=z.gk c;have T:a.getD 6 Å=Æ O b n:=by simp[ė,K]
 have V:a.getD 7 Å=Æ h j6 j7:=by simp[ė,N]
 apply gZ (n:=9) P.lw;iterate 2 w_go fS
 u_in fS hF
 refine goes_leave2 U U Tryz.func37 U ⟨by u_nil,?_⟩;rw[T,V];refine Ë λ_ _=> ?_;exact D F z
end
structure SD where
 L:Nat
 B0:Nat
 n:Nat
 m:Nat
 q:Nat
 N:Nat
 fL:Nat
 gK:Nat->Nat
 an:Nat
 ba:Nat
 bi:Nat
 ib:Option ã
 ci:Nat
 qb:Option ã
 cq:Nat
 Qe:Nat->Option ã
 pi:Nat->Nat
 IL:Nat->Option ã
 pq:Nat->Nat
 gq:Nat->Nat
 cs:List ç
 RB:Nat->Prop
 RC:Þ->Prop
 fc:Þ->Prop
 γ:Type
 s0:γ
 V0:Nat->Prop
 uu:Nat->γ->γ->Prop
 RD:γ->Ð->(Nat->Prop)->Þ->Prop
 vn:Nat->ByteArray
 wV:Nat->ByteArray
def SD.fx(D:SD):Fx:=⟨D.L,D.m,D.fL,D.gK⟩
def SD.sk(D:SD)(i:Nat):Ð:=Ě #[À<|D.IL i,É Î<|D.pq i,À<|Â ⟨D.gK<|D.gq i,0,Á⟩,À Á]
structure nR(D:SD)(S:Nat->Prop)(l:fj):Prop where
 kn:∀b,D.fx.jg b->l.K ⟨b,0,Á⟩/\l.K ⟨b,1,Á⟩
 zP:∀b,D.fx.jg b->pz b l.w
 ba:S D.ba
 yv:l.w.cell? ⟨D.ba,0,Á⟩=Â (Æ (Â ⟨D.an,0,Á⟩) D.N D.N)
 bi:S D.bi
 Gd:l.w.cell? ⟨D.bi,0,Á⟩=Â (Æ D.ib D.m D.ci)
 ib:∀k,k<D.m->∃b,D.ib=Â ⟨b,0,Á⟩/\S b/\l.w.cell? ⟨b,k*4,Á⟩=Â (À<|D.Qe<|k+1)/\l.w.cell? ⟨b,k*4+1,Á⟩=Â (É Î<|D.pi<|k+1)/\l.w.cell? ⟨b,k*4+2,Á⟩=Â (À<|Â ⟨D.gK k,0,Á⟩)/\l.w.cell? ⟨b,k*4+3,Á⟩=Â (À<|Â ⟨D.gK<|k+1,0,Á⟩)
 qb:∀i,i<D.q->∃b,D.qb=Â ⟨b,0,Á⟩/\S b/\l.w.cell? ⟨b,i*4,Á⟩=Â (À<|D.IL i)/\l.w.cell? ⟨b,i*4+1,Á⟩=Â (É Î<|D.pq i)/\l.w.cell? ⟨b,i*4+2,Á⟩=Â (À<|Â ⟨D.gK<|D.gq i,0,Á⟩)/\l.w.cell? ⟨b,i*4+3,Á⟩=Â (À Á)
 oc:∀a,l.Oc a->(l.w.cell? a).isSome=Ó/\l.w.frozen? a=Í
 rb:∀b,D.RB b->S b
 rc:D.RC l.w
structure SD.Ok(D:SD):Prop where
 VW:∀w w',D.RC w->(∀b,D.RB b->w'.heap[b]?=w.heap[b]?)->D.RC w'
 ioS:∀w w',D.fc w->(w'.os=w.os/\w'.output=w.output)->D.fc w'
 Qf:∀s sl V w w',D.RD s sl V w->(∀b,V b->w'.heap[b]?=w.heap[b]?)->D.RD s sl V w'
 n1:1<=D.n
 L1:1<=D.L
 gP:D.n+D.q+D.m<1000
 N1:D.N<1000
 gq:∀i,D.gq i<=D.m
 pqN:∀i,i<D.q->D.pq i<D.N
 piN:∀k,1<=k->k<=D.m->D.pi k<D.N
 AO:∀k,k<=D.m->D.gK k≠D.fL
 j4:∀k k',k<=D.m->k'<=D.m->D.gK k=D.gK k'->k=k'
 xT:¬D.fx.jg D.an
 pq:∀i i',i<D.q->i'<D.q->D.pq i=D.pq i'->i=i'
 pi:∀k k',1<=k->k<=D.m->1<=k'->k'<=D.m->D.pi k=D.pi k'->k=k'
 TY:∀i k,i<D.q->1<=k->k<=D.m->D.pq i≠D.pi k
 gd:∀b,D.fx.jg b\/b=D.an->D.B0<=b
section
variable{D:SD}{S:Nat->Prop}{l f:fj}
def nR.ft(h:nR D S l)(ok:D.Ok)(e:∀b,S b->X b)(c:∀b,S b->f.w.heap[b]?=l.w.heap[b]?)(q:f.K=l.K)(p:∀a,l.K a->(l.w.cell? a).isSome=Ó->(f.w.cell? a).isSome=Ó)(r:∀a,f.Oc a->(f.w.cell? a).isSome=Ó/\f.w.frozen? a=Í):nR D X f where
 kn b hg:=by rw[q];exact h.kn b hg
 zP b hg:=⟨p _ (h.kn b hg).1 (h.zP b hg).1,p _ (h.kn b hg).2 (h.zP b hg).2⟩;ba:=e _ h.ba;yv:=(iF<|c _ h.ba).trans h.yv;bi:=e _ h.bi;Gd:=(iF<|c _ h.bi).trans h.Gd;ib k hk:=by let⟨b,g,d,j,m,n,o⟩:=h.ib k hk;exact⟨b,g,e b d,(iF<|c b d).trans j,(iF<|c b d).trans m,(iF<|c b d).trans n,(iF<|c b d).trans o⟩
 qb i hi:=by let⟨b,g,d,j,m,n,o⟩:=h.qb i hi;exact⟨b,g,e b d,(iF<|c b d).trans j,(iF<|c b d).trans m,(iF<|c b d).trans n,(iF<|c b d).trans o⟩
 oc:=r;rb b d:=e b<|h.rb b d;rc:=ok.VW _ _ h.rc λb d=>c b<|h.rb b d
def nR.fZ(h:nR D S l)(ok:D.Ok)(c:∀b,S b->l.M b){w₁:Þ}(r:fU l l.w w₁):nR D S {l with w:=w₁}:= h.ft ok (λ_ q=>q) (λb q=>r.fu b<|c b q) U r.ia λa q=>by have:=h.oc a q;exact⟨by show(w₁.cell? a).isSome=Ó;rw[r.fg a<|Ã q];exact this.1,(r.fC a<|Ã q).trans this.2⟩
def nR.Gn{E:ã->Prop}(h:nR D S l)(ok:D.Ok)(g:∀b,S b->l.M b)(c:jB E l f):nR D S f:= h.ft ok (λ_ q=>q) (λb q=>c.fu b<|g b q) c.K c.ia λa q=>by
  rw[c.Oc]at q;let⟨d,i⟩:=h.oc a q;refine⟨?_,(c.fC a<|Ã q).trans i⟩;by_cases e:E a
  .exact c.rM a e d
  .rwa[c.fg a (Ã q) e]
def nR.alY(h:nR D S l)(ok:D.Ok)(d:∀b,S b->l.M b/\¬X b)(c:gU X l f):nR D S f:= h.ft ok (λ_ q=>q) (λb q=>c.fu b (d b q).1 (d b q).2) c.K c.ia λa q=>by rw[c.Oc]at q;let⟨e,g⟩:=h.oc a q;exact⟨by rwa[c.fg a<|Ã q],(c.fC a<|Ã q).trans g⟩
def nR.Qg(h:nR D S l)(a:∀b,S b->X b):nR D X l:=⟨h.kn,h.zP,a _ h.ba,h.yv,a _ h.bi,h.Gd,λk c=>let⟨b,d,e,f⟩:=h.ib k c;⟨b,d,a b e,f⟩,λk c=>let⟨b,d,e,f⟩:=h.qb k c;⟨b,d,a b e,f⟩,h.oc,λb q=>a b<|h.rb b q,h.rc⟩
end
section
variable(D:SD)
def kU(a:Nat->Nat)(j:Nat):List Ð:=(ä j).map λi=>ê<|Â<|a i
def Gp(k:Nat):Jd:=λl g=>l.d=0/\¬l.q/\nR D l.M l/\∃t a b c e f h i j n o,FM D.an D.N D.ib D.m D.ci k t/\l.M a/\l.w.cell? ⟨a,0,Á⟩=Â (À<|Â ⟨D.fL,0,Á⟩)/\g=Cw t [zK h i j n o,Cy a b c e f,qx Ä]
def abp(c i:Nat):Jd:=λl g=>l.d=0/\¬l.q/\nR D l.M l/\∃t a b e f h j k m n o p,QT D.an D.N c t/\t[4]?=Â (À<|Â ⟨a,0,Á⟩)/\l.O a/\l.w.cell? ⟨a,0,Á⟩=Â (À<|D.IL i)/\l.w.cell? ⟨a,1,Á⟩=Â (É Î<|D.pq i)/\l.w.cell? ⟨a,2,Á⟩=Â (À<|Â ⟨D.gK<|D.gq i,0,Á⟩)/\l.M b/\l.w.cell? ⟨b,0,Á⟩=Â (À<|Â ⟨D.fL,0,Á⟩)/\g=Pu t [Lu k m n o p,Cy b e f h j,qx Ä]
def alZ:Jd:=λl g=>nR D l.M l/\∃t a b c,LJ D.ba D.fL (D.gK D.m) D.n (Æ D.qb D.q D.cq) t/\jh l a (Ê #[À<|Â ⟨D.fL,0,Á⟩] 162)/\jh l b (Ê #[ď (þ 48) #[] #[À<|Â ⟨D.bi,0,Á⟩,À<|Â ⟨D.ba,0,Á⟩]] 1)/\g=FW (À<|Â ⟨D.fL,0,Á⟩) c (À<|Â ⟨D.fL,0,Á⟩) (ñ #[]) a b (IC t::D.cs)
def al0(j:Nat)(a:Nat->Nat):Jd:=λl g=>nR D l.Rd l/\∃t e c b d f,ST D.ba D.fL (D.gK D.m) D.n (j-1) (Æ D.qb D.q D.cq) e t/\aa2 D.ba D.fL D.q e (kU a j) (a<|j-1) c b d l/\a (j-1)<c/\c<b/\b<d/\(∀k,e.ownBlock=Â k->k≠a (j-1)/\k≠c/\k≠b/\k≠d)/\D.B0<=a (j-1)/\g=FW (À<|Â ⟨D.fL,0,Á⟩) f (À<|Â ⟨D.fL,0,Á⟩) (ñ #[]) b d (PG t::D.cs)
def Qh(j:Nat)(a:Nat->Nat):Jd:=λl g=>l.d=0/\¬l.q/\D.B0<=l.w.heap.size/\((j=0/\alZ D l g)\/(1<=j/\al0 D j a l g))
def abq:Jd:=λl g=>l.d=0/\¬l.q/\nR D l.Rd l/\∃a,SE D.ba D.fL (D.gK D.m) a/\g=IK a D.cs
def SD.ph(P:Ġ):Ph where
 toFx:=D.fx
 P:=P
 B0:=D.B0
 n:=D.n
 q:=D.q
 iG:=D.an
 kJ:=D.N
 gq:=D.gq
 pq:=D.pq
 pi:=D.pi
 sk:=D.sk
 z:=zT
 B:=60
 γ:=D.γ
 s0:=D.s0
 V0:=D.V0
 uu:=D.uu
 vm:=λk s V w=>(∃a,w.cell? ⟨D.gK k,2,Á⟩=Â a/\D.RD s a V w)/\(k=0->w.cell? ⟨D.an,D.N,Á⟩=Á/\mS w D.an=Â (0,0)/\D.fc w)
 vn:=D.vn
 wV:=D.wV
 xO:=Qh D
 xP:=Gp D
 xR:=abp D
 HC:=λ_=>abq D
end
def IN(D:SD):Prop:=∀k s e V l,k<D.m->pP (D.ph Ä) k s->D.RD s e V l.w->(∀b,V b->l.M b)->ic l->¬l.q->(∀b,D.RB b->l.M b)->D.RC l.w->∀f g,fA Ä Í (λa j=>a.d=l.d/\∃p n c,j=G (f.finish<|ñ #[Æ p n c,á<|D.vn<|k+1]) g/\∃h i,D.uu k s h/\D.RD h (Æ p n c) i a.w/\∀b,i b->a.M b) (oB l)<|G (Ĉ Ä 66 #[e,À<|D.Qe<|k+1] ĥ)<|f::g
def IP(D:SD):Prop:=∀i s a V l,i<D.q->pP (D.ph Ä) (D.gq i) s->D.RD s a V l.w->(∀b,V b->l.M b)->ic l->¬l.q->(∀b,D.RB b->l.M b)->D.RC l.w->∀b c,fA Ä Í (λe f=>e.d=l.d/\f=G (b.finish<|á<|D.wV i) c) (oB l)<|G (Ĉ Ä 67 #[a,À<|D.IL i] ĥ)<|b::c
section
variable{D:SD}
def Mc(k:Nat)(a:k<=D.m):D.fx.jg (D.gK k):=Ç ⟨k,a,U⟩
def CL:D.fx.jg D.fL:=Ã U
def al1(ok:D.Ok):(D.ph Ä).Ok:=⟨ok.n1,ok.L1,ok.gP,λi _=>ok.gq i,ok.AO,ok.j4,ok.xT,ok.pq,ok.pi,ok.TY,ok.gd,⟨λk a b e=>by have c:D.pi k=D.N:=e;have:=ok.piN k a b;omega,λi d e=>by have c:D.pq i=D.N:=e;have:=ok.pqN i d;omega⟩⟩
def al2(ok:D.Ok)(yh:IN D):∀k s V l g,k<D.m->Gp D k l g->ic l->pP (D.ph Ä) k s->(D.ph Ä).vm k s V l.w->(∀b,V b->l.Rd b)->l.Rc (ki D.fx k)->l.Oc (ki D.fx<|k+1)->l.Oc (kz (D.ph Ä)<|D.pi<|k+1)->∀C:Nat->D.γ,C k=s->fA Ä Í (JI (D.ph Ä) C<|.mk (k+1)) l g:=by
 intro k s V l g u hJ IJ VX Eo hV yo E F C hsg;obtain⟨hd,G,i,t,H,v1,v2,v3,v4,u0,u1,u2,u3,u4,hT,F4,IH,rfl⟩:=hJ;let⟨⟨sl,hsl,uL⟩,_⟩:=Eo;let⟨b,Cx,hbM,i0,i1,i2,i3⟩:=i.ib k u;have Ee:=ok.gP;have nD:(⟨D.gK<|k+1,2,Á⟩:ã)≠⟨D.an,D.pi<|k+1,Á⟩:=λe=>ok.xT (by injection e with I _ _;rw[<-I];exact Mc (k+1) u);have Eb:FM D.an D.N (Â ⟨b,0,Á⟩) D.m D.ci k t:=by rwa[<-Cx]
 have⟨oc1,oz1⟩:=i.oc _ E;have⟨oc2,oz2⟩:=i.oc _ F;have vP:∀a:ã,(a=⟨D.gK<|k+1,2,Á⟩\/a=⟨D.an,D.pi<|k+1,Á⟩)->l.Oc a:=λa z=>by rcases z with rfl|rfl;exact E;exact F
 have B:=i.kn _<|Mc (k+1) u;have abr:=i.zP _<|Mc (k+1) u;refine fA.ft (Stop:=λl g=>(∃o r,D.uu k s o/\(D.ph Ä).vm (k+1) o r l.w/\(∀b,r b->l.M b)/\l.w.cell? ⟨D.an,D.pi<|k+1,Á⟩=Â (á<|D.vn<|k+1))/\B6 Ä Í (D.gK<|k+1) (fA Ä Í<|Gp D<|k+1) (s9 (D.ph Ä) l<|k+1) g) (λl g h=> ?_) ?_
 .let⟨⟨o,r,J,L,O,P⟩,T⟩:=h;exact⟨o,r,by subst hsg;exact J,L,O,P,T⟩
 refine akz (Q:=λv c y=>c=D.vn (k+1)/\∃o r,D.uu k s o/\D.RD o v r y.w/\∀b,r b->y.M b) (τ:=λl=>s9 (D.ph Ä) l<|k+1) IJ G hd Eb u Z (by have:=ok.N1;omega) (ok.piN (k+1) Z u) hbM i0 i1 i2 i3 yo hsl E F oc1 oc2 oz1 oz2 nD (λf v c n=> ?_) λf x v hQ h18 h20=> ?_
 .refine(yh k s sl V f u VX (ok.Qf _ _ _ _ _ uL λb x=>v.fu b<|Ç<|hV b x) (λb x=>v.M<|Ç<|hV b x) (v.gk IJ) (by rwa[v.q]) (λb x=>v.M<|i.rb b x) (ok.VW _ _ i.rc λb x=>v.fu b<|i.rb b x) c n).ft ?_;rintro X Y ⟨W,p,n,c,rfl,j⟩;exact⟨W,p,n,c,_,U,U,j⟩
 .let⟨y,⟨hstr,o,r,hnx,al3,hVy⟩,hy⟩:=hQ;rw[hstr]at h20;have W:=v.d.trans hd;have abt:pz (D.gK<|k+1) f.w:=⟨v.ia _ B.1 abr.1,v.ia _ B.2 abr.2⟩;refine⟨⟨Ã (by rw[v.K];exact B.1),Ã (by rw[v.K];exact B.2),λ_ _ _ _ _ _ _ _=>trivial⟩,⟨v.fG,abt,trivial⟩,⟨o,r,hnx,⟨⟨_,h18,ok.Qf _ _ _ _ _ al3 λb x=>(hy b<|hVy b x).2⟩,λe=>by omega⟩,λb x=>(hy b<|hVy b x).1,h20⟩,W,λw=>fU (s9 (D.ph Ä) f<|k+1) f.w w,⟨Ã (by show f.K _;rw[v.K];exact B.1),Ã (by show f.K _;rw[v.K];exact B.2),λw w₁ J L O P T h=>h.fl ⟨J,L,O,P,T⟩⟩,⟨λj h=>h.elim,abt,fU.fY _ _⟩,λs5 t' al4 OV=> ?_⟩;refine .fO λp c=> ?_;have n:=al4.2.2.fl ⟨c.fh,c.fu,c.fg,c.fC,c.ia⟩;have x:=λb x=>(n.fu b<|Ç<|v.M x).trans<|v.fu b x;have hMM:∀b,l.M b->({s9 (D.ph Ä) f (k+1)with d:=0,w:=p}:fj).M b:=λb x=>Ç<|v.M x;refine⟨U,by show¬f.q;rwa[v.q],i.ft ok hMM x (by show f.K=l.K;exact v.K) (λa z h=>n.ia a (by show f.K a;rwa[v.K])<|v.ia a z h) λa z=> ?_,t',H,v1,v2,v3,v4,u0,u1,u2,u3,u4,by rwa[Cx],hMM H F4,(iF<|x H F4).trans IH,U⟩;obtain⟨X,Y,a3⟩:f.Oc a/\a≠⟨D.an,D.pi<|k+1,Á⟩/\a≠⟨D.gK<|k+1,2,Á⟩:=z;have a4:l.Oc a:=by rwa[<-v.Oc]
  let⟨I,e2⟩:=i.oc a a4;have hc:=n.fg a<|Ã ⟨X,Y,a3⟩;have hz:=n.fC a<|Ã ⟨X,Y,a3⟩;refine⟨?_,?_⟩
  .show(p.cell? a).isSome=Ó;rwa[hc,v.fg a (Ã a4) λq=>q.elim a3 Y]
  .show p.frozen? a=Í;rwa[hz,v.fC a<|Ã a4]
def al5:∀l g,Gp D D.m l g->ic l->fA Ä Í (D7<|D.ph Ä) l g:=by intro l g c d;obtain⟨e,f,b,t,k,n,o,p,q,r,s,u,v,w,h,i,j,rfl⟩:=c;have a:=b.kn _<|CL;exact akG (Ψ:=λ_=>True) h a ⟨Ã a.1,Ã a.2,λ_ _ _ _ _ _ _ _=>trivial⟩ ⟨d.lw,b.zP _ CL,trivial⟩ e f (Ã i) j
def abu(ok:D.Ok){r:Nat}{l:fj}{t:Array Ð}{g h m o p:Ð}(B:ic l)(s:¬l.q)(C:l.d=0)(a:nR D l.M l)(E:QT D.an D.N i t)(f:l.M k)(u:l.w.cell? ⟨k,0,Á⟩=Â (À<|Â ⟨D.fL,0,Á⟩)): HL (D.ph Ä) i j r l (CB t [Lu g h m o p,Cy k v x z jQ,qx Ä]):=by have y:=ok.gq<|j+r*D.n;refine akM B s C E (Û _) U (a.kn _<|Mc _ y) (a.zP _<|Mc _ y) (a.kn _ CL) (a.zP _ CL) (Ã f) u λQ F G e H I J K L O P=> ?_;exact⟨H,by rwa[e.q],(a.Gn ok (λ_ q=>q) e).Qg λb q=>e.M q,G,F,k,v,x,z,jQ,g,h,m,o,p,O,P,I,J,K,L,e.M f,(iF<|e.fu k f).trans u,U⟩
def al6(ok:D.Ok)(W:IP D):∀c j r s V l g,j+r*D.n<D.q->abp D c (j+r*D.n) l g->∀i:fj,ic i->i.O=l.O->(∀b,l.Rd b\/V b->i.Rd b)->i.w=l.w->i.d=l.d->i.q=l.q->i.Oc=l.Oc->i.K=l.K->pP (D.ph Ä) (D.gq<|j+r*D.n) s->(D.ph Ä).vm (D.gq<|j+r*D.n) s V l.w->i.Rc (ki D.fx<|D.gq<|j+r*D.n)->i.Oc (kz (D.ph Ä)<|D.pq<|j+r*D.n)->fA Ä Í (JW (D.ph Ä) c j<|.mf r) i g:=by
 intro c j r s V l g F X i y G B u Y VY OW hK VX Eo yo o;obtain⟨hd,hq,H,t,tb,v,v1,v2,v3,v4,u0,u1,u2,u3,u4,hT,h4,hOt,c0,c1,I,J,L,rfl⟩:=X;let⟨⟨sl,N,P⟩,_⟩:=Eo;have C:∀b,l.M b->i.M b:=λb q=>q.elim (λz=>Ã<|by rwa[G]) λz=>Ç<|B b<|Ã z;have p:=H.ft ok C (λb _=>by rw[u]) hK (λa _ h=>by rwa[u]) λa q=>by rw[u];exact H.oc a<|by rwa[<-OW]
 have E:¬i.q:=by rwa[VY]
 rw[<-u]at c0 c1 I L N P;let⟨e2,z2⟩:=p.oc _ o;refine akP (Q:=λx=>x=D.wV (j+r*D.n)) y E hT h4 (by rwa[G]) c0 c1 I yo N o e2 z2 (ok.pqN _ F) (λk f e m=> ?_) λk x T f hx hcx Eb=> ?_
 .refine(W _ s sl V k F VX (ok.Qf _ _ _ _ _ P λb x=>f.fu b<|Ç<|B b<|Ç x) (λb x=>f.M<|Ç<|B b<|Ç x) (f.gk y) (by rwa[f.q]) (λb x=>f.M<|p.rb b x) (ok.VW _ _ p.rc λb x=>f.fu b<|p.rb b x) e m).ft ?_;rintro m T ⟨x,e⟩;exact⟨x,_,e,U⟩
 .have hEo:∀a:ã,a=⟨D.an,D.pq<|j+r*D.n,Á⟩->i.Oc a:=λa e=>by rwa[e]
  have T:=(p.Gn ok (λ_ q=>q) f).Qg λb q=>f.M q;refine⟨hcx.trans (by rw[hx];rfl),?_⟩;have m:=f.gk y;have Ln:ic (zz (D.ph Ä) k<|j+r*D.n):=by
   refine⟨m.lD,λa x=> ?_,λa x=> ?_,m.fG,λa x=> ?_,λa x=> ?_⟩
   .rintro(q|q)
    .exact m.lE a x.1 q
    .exact x.2 q
   .refine m.fX a ?_;rcases x with q|q|q
    .exact Ã q.1
    .exact Ç q
    .rw[q];exact Ã<|by rwa[f.Oc]
   .refine m.nK a ?_;rcases x with q|q|q
    .exact Ã q.1
    .exact Ç q
    .rw[q];exact Ã<|by rwa[f.Oc]
   .let⟨k1,k2,k3⟩:=m.k9 a x;exact⟨k1,k2,λq=>k3 q.1⟩
  refine abu ok Ln (by show¬k.q;rwa[f.q]) (by show k.d=0;rwa[f.d,Y]) ?_ Eb (by show k.M v;exact f.M<|C v J)<|(iF<|f.fu v<|C v J).trans L;exact T.ft ok (λ_ q=>q) (λ_ _=>rfl) U (λ_ _ h=>h) λa q=>T.oc a q.1
end
section
variable{D:SD}{dk:Nat->Nat}{dv:Ð}{l f:fj}
structure MF(D:SD)(dk:Nat->Nat)(dv:Ð)(l:fj):Prop where
 gk:ic l
 q:¬l.q
 d:l.d=0
 IQ:nR D l.Rd l
 jf:∃db c,dv=Æ (Â ⟨db,0,Á⟩) D.n c/\l.O db/\∀i,i<D.n->l.w.cell? ⟨db,i,Á⟩=Â (ê<|Â<|dk i)
def MF.Gn(h:MF D dk dv l)(ok:D.Ok)(a:jB (λ_=>False) l f):MF D dk dv f where
 gk:=a.gk h.gk;q:=by rw[a.q];exact h.q
 d:=a.d.trans h.d;IQ:=(h.IQ.Gn ok (λ_ q=>Ç q) a).Qg λb q=>by rwa[a.Rd]
 jf:=by let⟨e,c,j,g,k⟩:=h.jf;exact⟨e,c,j,a.O e g,λi m=>(iF<|a.fu e<|Ã g).trans<|k i m⟩
def al7(ok:D.Ok):∀r,r<=D.n->∀l t b,MF D dk dv l->ET dv D.n (D.n-r) t->SE D.ba D.fL (D.gK D.m) b->fA Ä Ó (D8 (D.ph Ä) dk r) l (Gm t<|Mb b::D.cs):=by
 intro r
 induction r with
 |zero=>
  intro _ l t b a e g;rw[ź]at e;refine alV a.gk a.d (Û _) e g (a.IQ.kn _ CL) (a.IQ.zP _ CL) λf i h j=> ?_;have c:=a.Gn ok h;exact⟨c.d,c.q,c.IQ,i,j,U⟩
 |succ r j=>
  intro s l t b a e g;obtain⟨u,c,rfl,k,o⟩:=a.jf;have v:=ok.gP;refine alU a.gk a.q e Z Z k (o (D.n-(r+1)) Z) λf p h i=> ?_;refine j Z f p b (a.Gn ok h) ?_ g;rwa[show D.n-(r+1)+1=D.n-r by omega]at i
def al8(ok:D.Ok):∀r,r<=D.q->∀l t d,MF D dk dv l->DT dv D.qb D.q D.cq (D.q-r) t->SE D.ba D.fL (D.gK D.m) d->fA Ä Ó (KI (D.ph Ä) dk r) l (Gl t<|Mb d::D.cs):=by
 intro r
 induction r with
 |zero=>
  intro _ l t d a e h;rw[ź]at e;obtain⟨j,c,rfl,k,o⟩:=a.jf;refine alT a.gk.lw e λi g=>al7 ok D.n (Û _) l i d a ?_ h;rwa[Ż]
 |succ r s=>
  intro C l t d a e h;obtain⟨j,c,rfl,k,o⟩:=a.jf;have E:=ok.gP;have F:=ok.n1;let⟨b,p,u,v,w,x,y⟩:=a.IQ.qb (D.q-(r+1)) Z;have z:DT (Æ (Â ⟨j,0,Á⟩) D.n c) (Â ⟨b,0,Á⟩) D.q D.cq (D.q-(r+1)) t:=by rwa[<-p]
  refine alQ a.gk a.q z Z Z Z Z k (o _<|Ł _ Z) (Ç u) v w x y λf i B g=> ?_;refine s Z f i d (a.Gn ok B) ?_ h;rwa[show D.q-(r+1)+1=D.q-r by omega,<-p]at g
def al9(dk:Nat->Nat)(j a:Nat):kU (fI dk j a) (j+1)=kU dk j++[ê<|Â a]:=by
 unfold kU;rw[ą,List.map_append];congr 1
 .refine List.map_congr_left λi b=> ?_;rw[fW];have:=ù.1 b;omega
 .simp[il]
def ama(dk:Nat->Nat)(j:Nat):(kU dk j).length=j:=by simp[kU]
def amb(dk:Nat->Nat)(j i:Nat)(h:i<j):(kU dk j)[i]?=Â (ê<|Â<|dk i):=by simp[kU,h]
def abv(ok:D.Ok){t:Array Ð}(Q:j<=D.n)(a:ic l)(o:¬l.q)(p:l.d=0)(h:nR D l.Rd l)(v:D.B0<=l.w.heap.size)(x:ST D.ba D.fL (D.gK D.m) D.n j (Æ D.qb D.q D.cq) dv t)(r:l.w.ownsRow 0 101 1 dv j (kU dk j))(s:∀k,dv.ownBlock=Â k->l.O k): fA Ä Ó (JM (D.ph Ä) dk<|if j<D.n then .iX (j+1)else .jH D.q) l (FV t D.cs):=by
 have T:=ok.gP;by_cases u:j<D.n
 .rw[if_pos u];show fA Ä Ó (TX (D.ph Ä) (j+1) dk) l _;rw[akb];refine akV a o p x u Z Z (h.kn _ CL) (h.zP _ CL) r s λf i y z B C E F c G H I J K L N=> ?_;have P:∀b,l.Rd b->l.M b/\¬(Â b=dv.ownBlock):=λb g=>⟨Ç g,λe=>a.lD b (s b e.symm) g⟩;refine⟨y,c.d.trans p,by rwa[c.q],Ø v c.fh,Ç ⟨Z,(h.alY ok P c).Qg λb q=>(by rwa[c.Rd]),i,E,z,B,C,F,?_,?_,?_,K,L,?_,?_,U⟩⟩
  .rwa[ú]
  .rwa[ú,al9,il]
  .rwa[ú,il]
  .rwa[ú,il]
  .rw[ú,il];exact Ø v I
 .have e:j=D.n:=Z
  subst e;rw[if_neg u];have y:∃b c,dv=Æ (Â ⟨b,0,Á⟩) D.n c/\l.O b/\∀i,i<D.n->l.w.cell? ⟨b,i,Á⟩=Â (ê<|Â<|dk i):=by
   rcases r.2 with⟨_,C⟩|⟨g,z,E,rfl,_⟩
   .have:=ok.n1;omega
   .refine⟨g,z,U,s g U,λi B=> ?_⟩;have:=r.cells U i _<|amb dk D.n i B;rw[Ĩ]at this;simpa using this
  refine alS a.lw x λg z B C=> ?_;exact al8 ok D.q (Û _) l g z ⟨a,o,p,h,y⟩ (by rwa[Ż]) C
def amc(ok:D.Ok)(h:Gp D k l g)(r:fU l l.w u):Gp D k {l with w:=u} g:=by obtain⟨c,d,e,t,a,f,i,j,m,n,o,p,s,v,x,b,y,rfl⟩:=h;exact⟨c,d,e.fZ ok (λ_ q=>q) r,t,a,f,i,j,m,n,o,p,s,v,x,b,(iF<|r.fu a b).trans y,U⟩
def jh.fZ{o:Θ}(h:jh l b o){w₁:Þ}(r:fU l l.w w₁):jh {l with w:=w₁} b o:=⟨h.fD,(r.fu b<|Ã h.fD).trans h.is⟩
def KJ(ok:D.Ok)(h:Qh D j dk l g)(r:fU l l.w u):Qh D j dk {l with w:=u} g:=by
 let⟨m,n,o,h⟩:=h;refine⟨m,n,Ø o r.fh,?_⟩;rcases h with⟨p,b,t,c,d,f,i,s,v,rfl⟩|⟨x,b,t,dv,y,c,d,f,i,a,z,B,C,E,F,rfl⟩
 .exact Ã ⟨p,b.fZ ok (λ_ q=>q) r,t,c,d,f,i,s.fZ r,v.fZ r,U⟩
 .exact Ç ⟨x,b.fZ ok (λ_ q=>Ç q) r,t,dv,y,c,d,f,i,⟨rP a.jf λk e=>r.fu k<|Ã<|a.Vl k e,a.Vl,a.mh.fZ r,a.Vm.fZ r,a.wg.fZ r,a.fv.fZ r⟩,z,B,C,E,F,U⟩
def amd(ok:D.Ok):∀j dk l g,j<=D.n->Qh D j dk l g->ic l->l.d=0/\∃(G H:à) (X:Nat->Prop),G.status=ē/\H.status=ē/\(∀u,stepG Ä Ó g u=.spawn G H u #[])/\(∀b,X b->l.O b)/\ (1<=j->l.O (dk<|j-1)/\¬X (dk<|j-1)/\l.w.heap[dk<|j-1]?=Â (Ũ D.q #[] Í 0 0 Í)/\D.B0<=dk (j-1))/\ (∀f:fj,ic f->(∀b,X b\/l.Rd b->f.Rd b)->f.w=l.w->f.d=0->¬f.q->(∀b,¬f.O b)->f.K=l.K->f.Rc=l.Rc->(∀a,f.Oc a->l.Oc a)->fA Ä Í (if j=0 then Gp D 0 else HL (D.ph Ä) (dk<|j-1) (j-1) 0) f H)/\ (∀f:fj,ic f->f.O=(λb=>l.O b/\¬X b/\(1<=j->b≠dk (j-1)))->(∀b,X b\/l.Rd b->f.Rd b)->f.w=l.w->f.d=0->f.q=l.q->f.K=l.K->f.Rc=l.Rc->(∀a,f.Oc a->l.Oc a)->fA Ä Ó (JM (D.ph Ä) dk<|if j<D.n then .iX (j+1)else .jH D.q) f G):=by
 intro j dk l g L h IJ;let⟨hd,N,P,h⟩:=h;refine⟨hd,?_⟩;rcases h with⟨rfl,p,t,v,C,v1,I,Q,T,rfl⟩|⟨h1,p,t,dv,V,v,C,v1,I,i,x1,x2,x3,x4,x5,rfl⟩
 .refine⟨_,_,l.O,U,U,λu=>aa0 _ _ _ _ _ _ _ u,λ_ q=>q,λq=>by omega,λf m o X y s E z J B=> ?_,λf m E o X y s z J B=> ?_⟩
  .rw[if_pos U];have e:=λb q=>o b q;have c:nR D f.M f:=p.ft ok (λb q=>Ç<|e b q) (λb _=>by rw[X]) z (λa _ h=>by rwa[X]) λa q=>by rw[X];exact p.oc a<|B a q
   refine akF m.lw s (Ã<|Ç<|e C<|Ã T.fD) (Ã c.bi) (Ã c.ba) (by rw[X];exact T.fg U) c.Gd c.yv λF W Y w3 w4 u0 u1 u2 u3 u4 x=> .fO λu r=>amc ok ⟨y,s,c,F,v,W,Y,w3,w4,u0,u1,u2,u3,u4,x,Ç<|e v<|Ã Q.fD,by rw[X];exact Q.fg U,U⟩ r
  .refine akT m.lw I λF x=> ?_;have c:=p.ft ok (λb q=>o b q) (λb _=>by rw[X]) z (λa _ h=>by rwa[X]) λa q=>by rw[X];exact p.oc a<|B a q
   exact abv ok L m (by rwa[s]) y c (by rwa[X]) x (World.ownsRow_nil _ _ _ _) λk e=>by cases e
 .refine⟨_,_,λb=>b=V\/b=v\/b=C,U,U,λu=>aa0 _ _ _ _ _ _ _ u,λb q=> ?_,λ_=>⟨i.mh.fD,?_,i.mh.is,x5⟩,λf m o X y s E z J B=> ?_,λf m E o X y s z J B=> ?_⟩
  .rcases q with rfl|rfl|rfl
   .exact i.Vm.fD
   .exact i.wg.fD
   .exact i.fv.fD
  .rintro(q|q|q)<;>omega
  .rw[if_neg Z];have c:nR D f.M f:=p.ft ok (λb q=>Ç<|o b<|Ç q) (λb _=>by rw[X]) z (λa _ h=>by rwa[X]) λa q=>by rw[X];exact p.oc a<|B a q
   have hMw:f.M v:=Ç<|o v<|Ã<|Ç<|Ã U;have IH:f.w.cell? ⟨v,0,Á⟩=Â (À<|Â ⟨D.fL,0,Á⟩):=by rw[X];exact i.wg.fg U
   refine akL m.lw s (Ã<|Ç<|o C<|Ã<|Ç<|Ç U) (Ã<|Ç<|o V<|Ã<|Ã U) (Ã c.ba) (by rw[X];exact i.fv.fg U) (by rw[X];exact i.Vm.fg U) c.yv λF W Y w3 w4 u0 u1 u2 u3 u4 x=> .fO λu r=> ?_;exact abu ok (m.fZ r.fh) s y (c.fZ ok (λ_ q=>q) r) x hMw<|(iF<|r.fu v hMw).trans IH
  .have Ee:=ok.gP;refine akU m.lw I Z λF x=> ?_;rw[show j-1+1=j by omega]at x;have c:=p.ft ok (λb q=>o b<|Ç q) (λb _=>by rw[X]) z (λa _ h=>by rwa[X]) λa q=>by rw[X];exact p.oc a<|B a q
   have r:=i.jf;rw[ama]at r;refine abv ok L m (by rwa[s]) y c (by rwa[X]) x (by rwa[X]) λk e=> ?_;rw[E];let⟨W,Y,n3,n4⟩:=x4 k e;refine⟨i.Vl k e,?_,λ_=>W⟩;rintro(q|q|q)
   .exact Y q
   .exact n3 q
   .exact n4 q
def ame(ok:D.Ok)(b:IN D)(d:IP D):iT (D.ph Ä) where
 ok:=al1 ok;OJ k s V w w' h hV hc hz hf Bb:=by let⟨⟨a,f,m⟩,t⟩:=h;exact⟨⟨a,hc.trans f,ok.Qf _ _ _ _ _ m hV⟩,λe=>⟨hz.trans (t e).1,hf.trans (t e).2.1,ok.ioS _ _ (t e).2.2 Bb⟩⟩
 KJ j dk l g w₁ h r:=KJ ok h r;B8 j dk l g h:=by let⟨_,_,_,h⟩:=h;rcases h with⟨_,_,t,e,f,a,_,_,_,rfl⟩|⟨_,_,t,dv,m,e,f,a,_,_,_,_,_,_,_,rfl⟩<;>rfl
 mV k l g h:=by obtain⟨_,_,_,t,e,a,f,m,n,o,p,q,u,v,_,_,_,rfl⟩:=h;rfl
 OL c i l g h:=by obtain⟨_,_,_,t,tb,e,a,f,m,n,o,p,q,u,v,_,_,_,_,_,_,_,_,rfl⟩:=h;rfl
 HM dk l g h:=by obtain⟨_,_,_,f,_,rfl⟩:=h;rfl
 go:=amd ok;lO:=al2 ok b;I':=al5;j5:=al6 ok d
end
end Go.Proofs.Y.fK
namespace Go.Proofs.Y.fK
open Go Go.Conc Go.Proofs.Y.Lift
open Go.ConcN (sumTo sumTo_congr)
structure my(P:Ġ)(Y:Nat->Prop)(ky:ξ->Prop)(H:Nat)(J:Jd)(T:gY)(lv:Nat->Nat)(lot:Nat->fj)(gs:Array à)(w:Þ)(t:Μ):Prop where
 fh:1<=gs.size
 gw:iI P 0 Y (λi=>if i=0 then J else ru P (lv i)) (λi=>if i=0 then T else .fO) (λ_=> .no) lot gs w t
 kq:∀i,0<i->i<gs.size->lot i=mo (lot i)
 mG:¬(lot 0).q
 IT:∀p a,touchAt t p=Â a->a.loc.isMemory=Ó->Knows t 0 p\/(ky a.loc/\a.kind=.atomic)
 ni:∀p a x,touchAt t p=Â a->a.loc=Ā x->t.g? p=Â 0\/x.block<H
 vl:∀a:ã,H<=a.block->NoRelease a t
 zy:t.HandedOver
abbrev vV(P:Ġ):=my P λ_=>False
structure uM(l l':fj)(w w':Þ):Prop where
 fh:w.heap.size<=w'.heap.size
 fN:∀j,l'.O j->l.O j\/w.heap.size<=j
 rd:l'.Rd=l.Rd
 oc:l'.Oc=l.Oc
 rc:l'.Rc=l.Rc
 k:l'.K=l.K
 lr:∀j,j<w.heap.size->¬l.O j->(∀a:ã,a.block=j->¬l.Oc a)->w'.heap[j]?=w.heap[j]?
 fg:∀a:ã,a.block<w.heap.size->¬l.O a.block->¬l.Oc a->w'.cell? a=w.cell? a
 fC:∀j,j<w.heap.size->¬l.O j->mS w' j=mS w j
 os:w'.os=w.os
 mR:w'.output=w.output
 lU:w'.tape=w.tape
def uM.fY(l:fj)(w:Þ):uM l l w w:=⟨Û _,λ_ h=>Ã h,U,U,U,U,λ_ _ _ _=>rfl,λ_ _ _ _=>rfl,λ_ _ _=>rfl,U,U,U⟩
def uM.fl{l e i:fj}{w':Þ}(h:uM l e w w')(k:uM e i w' u):uM l i w u:=by
 have f:∀j,j<w.heap.size->¬l.O j->¬e.O j:=λj c b q=>(h.fN j q).elim b λz=>by omega
 refine⟨Ø h.fh k.fh,λj q=> ?_,k.rd.trans h.rd,k.oc.trans h.oc,k.rc.trans h.rc,k.k.trans h.k,λj c b d=> ?_,λa g b d=> ?_,λj c b=>(k.fC j (È c h.fh)<|f j c b).trans<|h.fC j c b,k.os.trans h.os,k.mR.trans h.mR,k.lU.trans h.lU⟩
 .rcases k.fN j q with z|z
  .exact h.fN j z
  .exact Ç<|Ø h.fh z
 .exact(k.lr j (È c h.fh) (f j c b)<|by rwa[h.oc]).trans<|h.lr j c b d
 .exact(k.fg a (È g h.fh) (f _ g b)<|by rwa[h.oc]).trans<|h.fg a g b d
def oO.amf{l a:fj}(h:oO l a w u V):uM l a w u:=⟨h.fh,h.fN,h.rd,h.oc,h.rc,h.k,h.lr,h.fg,λj b c=>h.fC ⟨j,0,Á⟩ b c,h.os,h.mR,h.lU⟩
def uM.at{l a:fj}{w':Þ}{d:Nat}(h:uM l a (w.at d) w'):uM l a w w':=⟨h.fh,h.fN,h.rd,h.oc,h.rc,h.k,h.lr,h.fg,h.fC,h.os,h.mR,h.lU⟩
section
variable{Y:Nat->Prop}{ky:ξ->Prop}{H:Nat}{J:Jd}{T:gY}{lv:Nat->Nat}{lot:Nat->fj}{gs:Array à}{t:Μ}{sl:Option (Nat×Nat)}
def my.at(c:my P Y ky H J T lv lot gs w t)(d:Nat):my P Y ky H J T lv lot gs (w.at d) t:=⟨c.fh,c.gw.at d,c.kq,c.mG,c.IT,c.ni,c.vl,c.zy⟩
def amg{l:fj}{e:Ξ}(h:B1 l e)(a:ã):ó e≠.mark (.release a):=by
 let⟨c,wr,d⟩:=e;rcases h with⟨x,b,_⟩|h|⟨f,h⟩|h|h|⟨x,_,h⟩
 .simp only at b;subst b;simp[ó]
 .simp only at h;subst h;simp[ó]
 .simp only at h;subst h;simp[ó]
 .simp only at h;subst h;simp[ó]
 .simp only at h;subst h;simp[ó]
 .simp only at h;rcases h with rfl|rfl|rfl|rfl<;>simp[ó]
def amh{e:Ξ}(h:e.mute=Ó)(a:ã):ó e≠.mark (.release a):=by let⟨b,wr,c⟩:=e;cases b<;>simp_all[Event.mute];rename_i m;cases m<;>simp_all[ó]
def my.ami{k:Þ->gY}(c:my P Y ky H J (.kD k) lv lot gs w t)(o:∀l g,J l g->g.status=ē\/g.status=ŵ)(r:gs[0]?=Â g): ∃e b d u,runT P (Ķ gs w sl) 0=(.next<|Ķ b d sl,u)/\b.size=gs.size/\uM (lot 0) (e 0) w d/\my P Y ky H J (k w) lv e b d (t++u):=by
 obtain⟨b,d,G,s,v,j,I,K,m,y⟩:=c.gw.fD r U λl g h=>o l g h;refine⟨gX lot 0 s,b,d,_,v,j,by rw[iV];exact m.amf,by rw[j];exact c.fh,?_,λi z B=> ?_,?_,λp a f C=> ?_,λp a x f D=> ?_,λa f=>(c.vl a f).app λu n=> ?_,ū c.zy λu n=>Ã<|qK u n⟩
 .have e:fI (λi=>if i=0 then(.kD k:gY)else .fO) 0 (k w)=λi=>if i=0 then k w else .fO:=by
   funext i;unfold fI;by_cases h:i=0<;>simp[h]
  rwa[<-e]
 .rw[iC lot _ Z];exact c.kq i z<|by rwa[<-j]
 .rw[iV,m.q];exact c.mG
 .rcases pw f with⟨_,e⟩|⟨_,u,e,E,h⟩
  .exact(c.IT p a e C).imp (·.app _) id
  .have:=knows_own h;rw[qK u e]at this;exact Ã this
 .rcases pw f with⟨F,e⟩|⟨_,u,e,E,h⟩
  .rw[g?_old F];exact c.ni p a x e D
  .apply Ã;unfold Trace.g?;rw[h];simp[qK u e]
 .obtain⟨e,h,rfl⟩:=Ĕ n;exact amg (m.wS e h) a
def my.abw(c:my P Y ky H J T lv lot gs w t)(y:gs[i]?=Â g)(b:i≠0)(D:g.status=ē): ∃h a f u,runT P (Ķ gs w sl) i=(.next<|Ķ f w sl,u)/\f.size=gs.size/\sumTo gs.size h+1=sumTo gs.size lv/\a 0=lot 0/\my P Y ky H J T h a f w (t++u):=by
 have z:=(æ.1 y).1;obtain⟨f,B,k,M,E,r,N,C,F⟩:=c.gw.TJ (n:=lv i) y b D U (by simp[b]) (by simp[b]);have s:∀u∈MemOp.ofEvents i g.frame.fn g.frame.place B,u.act.touch?=Á:=λu l=>by obtain⟨e,v,rfl⟩:=Ĕ l;exact touch_mute<|C e v
 refine⟨fI lv i k,gX lot i {lot i with d:=Đ (lot i).d B,w:=w},f,_,E,r,?_,?_,by rw[r];exact c.fh,?_,λj q G=> ?_,?_,λp a m I=> ?_,λp a x m K=> ?_,λa m=>(c.vl a m).app λu l=> ?_,ū c.zy λu l=>Ç<|s u l⟩
 .have:=AS (f':=fI lv i k) z λj q=>fW lv k q;rw[il]at this;omega
 .exact iC lot _<|Ne.symm b
 .have o:fI (λi=>if i=0 then J else ru P (lv i)) i (ru P k)=λj=>if j=0 then J else ru P (fI lv i k j):=by
   funext j;unfold fI;by_cases h:j=i
   .subst h;simp[b]
   .simp[h]
  rwa[<-o]
 .by_cases e:j=i
  .subst e;rw[iV];have:=c.kq j q z;rw[this];rfl
  .rw[iC lot _ e];exact c.kq j q<|by rwa[<-r]
 .rw[iC lot _<|Ne.symm b];exact c.mG
 .rcases pw m with⟨_,h⟩|⟨_,u,h,o,_⟩
  .exact(c.IT p a h I).imp (·.app _) id
  .rw[s u h]at o;cases o
 .rcases pw m with⟨L,h⟩|⟨_,u,h,o,_⟩
  .rw[g?_old L];exact c.ni p a x h K
  .rw[s u h]at o;cases o
 .obtain⟨e,v,rfl⟩:=Ĕ l;exact amh (C e v) a
def my.Pg(c:my P Y ky H J T lv lot gs w t):∀g∈gs,awake g:=by
 intro g e;obtain⟨i,f,rfl⟩:=Array.mem_iff_getElem.1 e;let⟨g0,_,b,a,_⟩:=c.gw.kv i _<|è f;intro τ d;generalize gs[i]=g at b d;cases b with
 |gR=>rcases a with a|a<;>rw[d]at a<;>cases a
def my.mf(K:∀l g,J l g->g.status=ē\/g.status=ŵ):∀(T:gY) (s:Nat) (lv:Nat->Nat) (lot:Nat->fj) (gs:Array à) (w:Þ) (sl:Option (Nat×Nat)) (t:Μ),sumTo gs.size lv=s->my P Y ky H J T lv lot gs w t-> ∃N h b a f e c,Η P N (Ķ gs w sl) t=(.next<|Ķ a f e,c)/\a.size=gs.size/\uM (lot 0) (b 0) w f/\my P Y ky H J .fO h b a f c:=by
 intro T
 induction A'.apply T with
 |intro T _ L=>
  intro s
  induction s using Nat.strongRecOn with
  |_ s M=>
   intro lv lot gs w sl t W c;cases C:T with
   |fO=>
    subst C;exact⟨0,lv,lot,gs,w,sl,t,U,U,uM.fY _ _,c⟩
   |kD k=>
    subst C;have X:=c.fh;obtain⟨g0,D⟩:∃g,gs[0]?=Â g:=⟨_,è Z⟩;have O:g0.status=ē:=by
     let⟨V,d,i,_,_⟩:=c.gw.kv 0 g0 D;cases i with
     |gR=>exact aic d
    let⟨i,g,d,e,E,Q,F⟩:=crowd_pick (P:=P) (w:=w) (sl:=sl) c.Pg ⟨0,g0,D,O⟩;by_cases G:i=0
    .subst G;let⟨b,a,f,u,n,j,V,I⟩:=(c.at d).ami (sl:=e) K E;let⟨N,o,p,q,r,v,x,y,z,m,B⟩:=L (k<|w.at d) ⟨_,U⟩ _ lv b a f e (t++u) U I;exact⟨N+1,o,p,q,r,v,x,by simp only[Η,F,n];exact y,z.trans j,V.at.fl m,B⟩
    .let⟨h,b,a,u,n,j,I,f,V⟩:=(c.at d).abw (sl:=e) E G Q;let⟨N,o,p,q,r,v,x,y,z,m,B⟩:=M (sumTo a.size h) (by rw[j];omega) h b a (w.at d) e (t++u) U V;exact⟨N+1,o,p,q,r,v,x,by simp only[Η,F,n];exact y,z.trans j,by rw[f]at m;exact m.at,B⟩
end
section
variable{F:Ph}{σ:gF F}{S:Nat->Jd}{tr:Nat->gY}{o:Nat->jw}{f:Nat->fj}{gs:Array à}
def PI.ko(p:PI F i zX σ S tr o f gs w qJ)(c:σ.mp=.gC):σ.sp=F.n+1/\∀x,x<F.n+1->∃N,σ.ed x=Â (.ko N):=by
 have j:σ.sp=F.n+1:=by unfold gF.sp;rw[c];rfl
 refine⟨j,λx g=> ?_⟩;have a:=UB (p.ps.xV<|Ç<|Ç c) x g;have k:x<σ.mp.ad F.n:=by rwa[c]
 unfold gF.hD at a;rw[if_pos k]at a;have m:σ.mp.iq=0:=by rw[c];rfl
 cases d:σ.ed x with
 |none=>rw[d]at a;simp[oy]at a
 |some e=>
  rw[d]at a;simp only[oy]at a;cases e with
  |ry=>simp[jd.hD]at a
  |ko N=>exact⟨N,U⟩
  |gC q=>
   let⟨h,l⟩:=p.ps.qo x q d;cases q with
   |gy=>simp[jd.hD,kT.hD]at a
   |iX=>simp[jd.hD,kT.hD]at a
   |ig W=>
    let⟨_,b⟩:=h W<|Ã U;have r:=p.wd.fL.ok;rw[b]at r;have:=(p.ps.sw W b).2.1;simp only[GS.ok]at r;omega
   |j1 W=>
    let⟨_,b⟩:=h W<|Ç U;have r:=p.wd.fL.ok;rw[b]at r;have:=(p.ps.sw W b).2.1;simp only[GS.ok]at r;omega
   |jx r=>
    let⟨W,_,s,b⟩:=l r U;have:=(p.ps.tg r s b).2.1;omega
def Bc(l:fj):fj:={l with O:=λ_=>False,Rd:=λ_=>False,Oc:=λ_=>False,Rc:=λ_=>False,K:=λ_=>False,q:=True}
def vg(f:Nat->fj)(l:fj):Nat->fj:=λi=>if i=0 then l else Bc (f i)
def VZ(f:Nat->fj)(l:fj):vg f l 0=l:=rfl
def zR(f:Nat->fj)(l:fj)(h:i≠0):vg f l i=Bc (f i):=if_neg h
def Md{l:fj}(h:i≠0):¬(vg f l i).M b:=by rw[zR f l h];exact λq=>q.elim id id
def Me{l:fj}(h:i≠0):¬(vg f l i).C a:=by rw[zR f l h];exact λq=>q.elim id id
def jR.vg{Y I:Nat->Prop}(C:jR n I Y f w qJ)(u:I 0){l:fj}(v:n<=m)(x:∀b,l.O b->¬l.Rd b)(y:∀a,l.Oc a->¬l.Rc a)(B:∀b,l.M b->¬X b)(D:∀a,l.C a->X a.block)(E:∀b,l.M b->b<w.heap.size)(F:∀b,X b->b<w.heap.size)(G:fU l l.w w)(H:TB qJ 0 l)(J:l.d=(f 0).d)(t:∀a,l.K a->X a.block/\¬l.Oc a):jR m I X (vg f l) w qJ:=by
 refine⟨λi j g L s b o=> ?_,λi j g L s a e=> ?_,λi g b o=> ?_,λi g a e=> ?_,λi g b o=> ?_,λi g a e=> ?_,λi g b o=> ?_,F,λi g=> ?_,λi g=> ?_,λi g=> ?_,C.rp,C.xK,λp a c N r P=>È (C.AG p a c N r P) v,λi g a e=> ?_⟩
 .by_cases h:j=0
  .subst h;exact absurd (Ã o)<|Md s
  .exact Md h
 .by_cases h:j=0
  .subst h;exact absurd (Ã e)<|Me s
  .exact Me h
 .by_cases h:i=0
  .subst h;exact x b o
  .exact absurd (Ã o)<|Md h
 .by_cases h:i=0
  .subst h;exact y a e
  .exact absurd (Ã e)<|Me h
 .by_cases h:i=0
  .subst h;exact B b o
  .exact absurd o<|Md h
 .by_cases h:i=0
  .subst h;exact D a e
  .exact absurd e<|Me h
 .by_cases h:i=0
  .subst h;exact E b o
  .exact absurd o<|Md h
 .by_cases h:i=0
  .subst h;exact G
  .rw[zR f l h];exact⟨(C.gy i g).fh,λj q=>q.elim (λz=>z.elim) λz=>z.elim,λa q=>q.elim (λz=>z.elim) λz=>z.elim,λa q=>q.elim (λz=>z.elim) λz=>z.elim,λa q=>q.elim⟩
 .by_cases h:i=0
  .subst h;exact H
  .rw[zR f l h];exact⟨λa e=>e.elim,λa e=>e.elim,λa e=>e.elim,λa e=>e.elim⟩
 .by_cases h:i=0
  .subst h;rw[VZ,J];exact C.mT 0 u
  .rw[zR f l h];exact C.mT i g
 .by_cases h:i=0
  .subst h;refine⟨(t a e).1,λk z q=> ?_⟩;by_cases r:k=0
   .subst r;exact(t a e).2 q
   .exact absurd (Ã q)<|Me r
  .rw[zR f l h]at e;exact e.elim
def PI.amj(p:PI F i zX σ S tr o f gs w qJ)(m:σ.mp=.gC)(r:Pa F zX qJ)(B:F.B0=0)(M:1<=F.L): ∃z:Nat->Nat,my F.P σ.Y (λk=>zX k\/∃x:ã,k=Ā x/\x.block=F.fL) w.heap.size (F.HC σ.dk) (tr 0) z (vg f<|f 0) gs w qJ:=by
 let⟨D,s⟩:=p.ko m;have O:gs.size=F.L+(F.n+1):=by rw[p.fh,D]
 have C:=p.gw.ie;have c:0<gs.size:=Z
 refine⟨λb=>if h:F.L<=b/\b<F.L+(F.n+1)then Classical.choose (s (b-F.L) Z)else σ.lv b,Z,⟨?_,λb x t=> ?_,p.gw.vh⟩,λb Q _=> ?_,p.iD.mG 0<|Ã U,λq a d E=> ?_,λq a x d G=>Ç<|z_ C.xK d G,λa d q u=> ?_,r.2⟩
 .rw[B]at C;exact C.vg c (Û _) (C.lD 0 c) (C.lE 0 c) (C.fX 0 c) (C.ju 0 c) (C.fG 0 c) C.kE (C.gy 0 c) (C.lu 0 c) U λa d=>⟨(C.k9 0 c a d).1,(C.k9 0 c a d).2 0 c⟩
 .let⟨k,j,l,v,H⟩:=p.gw.kv b x t;by_cases h:b=0
  .subst h;rw[p.s0.1,m]at j;rw[p.s0.2,m]at l;exact⟨k,j,l,v,H⟩
  .have T:=(æ.1 t).1;simp only[h,if_false];rw[zR f _ h];have y:∀N,S b=ru F.P N->tr b=.fO->o b=.no->∃k,na F.P (b==0) (ru F.P N) .fO (Bc<|f b) k/\AK k .no x/\(k.status=ē\/k.status=ŵ)/\(x=k\/True):=λN z e g=>by
    rw[z,e]at j;rw[g]at l;exact⟨k,λJ _=>j _<|fU.fY _ _,l,v,Ç trivial⟩
   by_cases I:b<F.L
   .let⟨z,e,g⟩:=p.sO b Z I;have J:¬(F.L<=b/\b<F.L+(F.n+1)):=Z
    simp only[J,dif_neg,not_false_eq_true];exact y _ z e g
   .have J:F.L<=b/\b<F.L+(F.n+1):=Z
    simp only[J,dif_pos,and_self];have K:=Classical.choose_spec<|s (b-F.L) Z;let⟨z,e,g⟩:=p.sE (b-F.L) _ Z K;rw[show F.L+(b-F.L)=b by omega]at z e g;exact y _ z (g ⟨_,U⟩) e
 .rw[zR f _ Z];rfl
 .rcases r.1 q a d E with z|⟨z,k⟩
  .exact Ã z
  .exact Ç ⟨z,k⟩
 .unfold Trace.act? at u;let⟨k,z,J⟩:=Ī.1 u;have:=C.xK k<|Array.mem_of_getElem? z;rw[J]at this;have e:a.block<w.heap.size:=this;omega
def my.abx{Y:Nat->Prop}{J:Jd}{u:gY}(c:my P Y zX n J u D f gs w qJ)(v:(f 0).d=0)(o:gs[0]?=Â g)(y:g.status=ē){p:Jd}{T:gY}{l:fj}(B:l.w=w)(E:l.d=0)(F:¬l.q)(k:∀b,¬l.Rd b)(r:∀a,¬l.Oc a)(m:∀a,¬l.Rc a)(G:∀a,¬l.K a)(s:∀b,l.O b->b<w.heap.size/\∀x:ã,x.block=b->¬zX (Ā x))(I:na P Ó p T l g): vV P zX n p T D (vg f l) gs w qJ:=by
 have C:=c.gw.ie;have L:=c.fh;refine⟨c.fh,⟨?_,λi x j=> ?_,c.gw.vh⟩,λi o _=> ?_,F,c.IT,c.ni,c.vl,c.zy⟩
 .refine C.vg L (Û _) (λb _=>k b) (λa _=>m a) (λ_ _=>id) (λa e=>e.elim (λq=>absurd q<|r a) λq=>absurd q<|m a) (λb t=>t.elim (λq=>(s b q).1) λq=>absurd q<|k b) (λ_ h=>h.elim) (by rw[B];exact fU.fY _ _) ⟨λa e M x j t=> ?_,λa e=>(k _ e).elim,λa e=>(r a e).elim,λa e=>(m a e).elim⟩ (by rw[E,v]) λa e=>absurd e<|G a;rcases c.IT M x j (by rw[t];rfl)with z|⟨z,_⟩
  .exact z
  .rw[t]at z;exact absurd z<|(s _ e).2 a U
 .by_cases h:i=0
  .subst h;rw[o]at j;obtain rfl:=Ô j;exact⟨g,I,.gR,Ã y,Ã U⟩
  .let⟨g0,e,z,M,t⟩:=c.gw.kv i x j;simp only[h,if_false]at e t|-;rw[zR f _ h];exact⟨g0,λN _=>e _<|fU.fY _ _,z,M,t⟩
 .rw[zR f _ Z];rfl
end
section
variable{F:Ph}{H:Nat}{J:Jd}{f:Nat->fj}{gs:Array à}
structure V1(F:Ph)(H:Nat)(l0 l:fj)(w:Þ):Prop where
 fD:∀b,l.O b->l0.O b/\¬(F.jg b\/b=F.iG)
 rd:∀b,l.Rd b->l0.O b/\¬(F.jg b\/b=F.iG)/\¬l.O b
 oc:∀a,l.Oc a↔∃x,x<=F.n/\oe F x a
 rc:∀a,l.Rc a↔a=ki F.toFx 0
 k:∀a,l.K a->F.vk a
 yO:∀b,F.jg b\/b=F.iG->l0.O b
 V3:∀b,F.jg b->H<=b
 wd:l.w=w
 d:l.d=0
 q:¬l.q
 v0:∀b,F.V0 b->l.Rd b
 fL:jc w F.fL (.cl 1 0)
 CK:jc w (F.gK 0) (.cl 0 0)
 j4:∀k,1<=k->k<=F.m->jc w (F.gK k) (.cl 1 0)
 aby:F.vm 0 F.s0 F.V0 w
def oC(F:Ph)(D:Nat->Nat)(a:Nat->Nat):gF F where
 mp:=.go 0
 ip:=.lO 0
 wp:=λ_=> .pO 0
 ed:=λ_=>Á
 dk:=a
 sg:=λ_=>F.s0
 V:=λk=>if k=0 then F.V0 else λ_=>False
 pk:=λ_=>0
 fs:=λ_=>Á
 ql:=λ_=>0
 Ga:=.cl 1 0
 Gg:=λk=>if k=0 then .cl 0 0 else .cl 1 0
 la:=Á
 lv:=D
def Qi(ok:F.Ok)(h:oe F i a):(∃k,1<=k/\k<=F.m/\a=ki F.toFx k)\/∃p,p≠F.kJ/\a=kz F p:=by
 unfold oe at h;split at h
 .obtain⟨k,c,d,b|b⟩:=h
  .exact Ã ⟨k,c,d,b⟩
  .exact Ç ⟨_,ok.kJ.1 k c d,b⟩
 .let⟨k,c,_,b⟩:=h;exact Ç ⟨_,ok.kJ.2 _ (by assumption),b⟩
def abz(ok:F.Ok)(h:oe F i (ki F.toFx 0)):False:=by
 rcases Qi ok h with⟨k,c,b,a⟩|⟨p,_,a⟩
 .have:F.gK 0=F.gK k:=by injection a
  have:=ok.j4 0 k Z b this;omega
 .have:F.gK 0=F.iG:=by injection a
  exact ok.xT<|by rw[<-this];exact Ç ⟨0,Z,U⟩
def vV.amk(Hy:iT F)(c:vV F.P zX H J .fO D f gs w qJ)(hL:F.L=gs.size)(hB:F.B0=0)(G:gs[0]?=Â g){l:fj}(st:V1 F H (f 0) l w)(qt:(f 0).d=0)(v:Nat->Nat)(hgo:F.xO 0 v l g): PI F qJ.size zX (oC F D v) (λi=>if i=0 then F.xO 0 v else ru F.P (D i)) (λ_=> .fO) (λ_=> .no) (λi=>if i=0 then l else Bc (f i)) gs w qJ:=by
 have N:=Hy.ok;have C:=c.gw.ie;have kV:=c.fh;have W:0<gs.size:=Z
 have hn:=N.n1;have y:(oC F D v).sp=0:=U;have X:∀b,(oC F D v).Y b↔(F.jg b\/b=F.iG):=λb=>by
  constructor
  .rintro(q|q|⟨j,B,_⟩)
   .exact Ã q
   .exact Ç q
   .rw[y]at B;omega
  .rintro(q|q)
   .exact Ã q
   .exact Ç<|Ã q
 have V4:∀a,l.C a->F.jg a.block\/a.block=F.iG:=λa o=>by
  rcases o with q|q
  .let⟨x,_,E⟩:=(st.oc a).1 q;rcases Qi N E with⟨k,B,t,rfl⟩|⟨p,_,rfl⟩
   .exact Ã<|Ç ⟨k,t,U⟩
   .exact Ç U
  .rw[(st.rc a).1 q];exact Ã<|Ç ⟨0,Z,U⟩
 have nC:∀i,i≠0->∀a,¬((λi=>if i=0 then l else Bc (f i)) i).C a:=λi h a q=>by simp only[h,if_false]at q;exact q.elim id id
 have nM:∀i,i≠0->∀b,¬((λi=>if i=0 then l else Bc (f i)) i).M b:=λi h b q=>by simp only[h,if_false]at q;exact q.elim id id
 have hM0:∀b,l.M b->(f 0).O b/\¬(F.jg b\/b=F.iG):=λb q=>q.elim (st.fD b) λz=>⟨(st.rd b z).1,(st.rd b z).2.1⟩;have UD:jR F.B0 (λi=>i<gs.size) (oC F D v).Y (λi=>if i=0 then l else Bc (f i)) w qJ:=by
  refine⟨λi j G hj Q b u=> ?_,λi j G hj Q a o=> ?_,λi G b u=> ?_,λi G a o=> ?_,λi G b u=> ?_,λi G a o=> ?_,λi G b u=> ?_,λb u=> ?_,λi G=> ?_,λi G=> ?_,λi G=> ?_,C.rp,C.xK,λq a e B t I=> ?_,λi G a o=> ?_⟩
  .by_cases h:j=0
   .subst h;simp only[Q,if_false]at u;exact u.elim
   .exact nM j h b
  .by_cases h:j=0
   .subst h;simp only[Q,if_false]at o;exact o.elim
   .exact nC j h a
  .by_cases h:i=0
   .subst h;simp only[if_true]at u|-;exact λq=>(st.rd b q).2.2 u
   .simp only[h,if_false]at u;exact u.elim
  .by_cases h:i=0
   .subst h;simp only[if_true]at o|-;intro q;rw[(st.rc a).1 q]at o;let⟨x,_,E⟩:=(st.oc _).1 o;exact abz N E
   .simp only[h,if_false]at o;exact o.elim
  .by_cases h:i=0
   .subst h;simp only[if_true]at u;rw[X];exact(hM0 b u).2
   .exact absurd u<|nM i h b
  .by_cases h:i=0
   .subst h;simp only[if_true]at o;rw[X];exact V4 a o
   .exact absurd o<|nC i h a
  .by_cases h:i=0
   .subst h;simp only[if_true]at u;exact C.fG 0 W b<|Ã (hM0 b u).1
   .exact absurd u<|nM i h b
  .exact C.fG 0 W b<|Ã<|st.yO b<|(X b).1 u
  .by_cases h:i=0
   .subst h;simp only[if_true];rw[st.wd];exact fU.fY _ _
   .simp only[h,if_false];exact⟨(C.gy i G).fh,λj q=>q.elim (λz=>z.elim) λz=>z.elim,λa q=>q.elim (λz=>z.elim) λz=>z.elim,λa q=>q.elim (λz=>z.elim) λz=>z.elim,λa q=>q.elim⟩
  .by_cases h:i=0
   .subst h;simp only[if_true];have s:=(C.lu 0 W).fD;exact⟨λa o=>s a (st.fD _ o).1,λa o=>(s a (st.rd _ o).1).r,λa o=>s a<|st.yO _<|V4 a<|Ã o,λa o=>(s a<|st.yO _<|V4 a<|Ç o).r⟩
   .simp only[h,if_false];exact⟨λa o=>o.elim,λa o=>o.elim,λa o=>o.elim,λa o=>o.elim⟩
  .by_cases h:i=0
   .subst h;simp only[if_true];rw[C.mT 0 W,qt,st.d]
   .simp only[h,if_false];exact C.mT i G
  .have:=C.AG q a e B t I;omega
  .by_cases h:i=0
   .subst h;simp only[if_true]at o;let⟨b,u,s⟩:=st.k a o;have T:a.block=b:=by rcases s with rfl|rfl<;>rfl
    refine⟨by rw[X,T];exact Ã u,λk K q=> ?_⟩;by_cases t:k=0
    .subst t;simp only[if_true]at q;let⟨x,_,E⟩:=(st.oc a).1 q;rcases Qi N E with⟨k',_,_,I⟩|⟨p',_,I⟩
     .rcases s with h4|h4<;>rw[h4]at I<;>simp[gp,iP,ki]at I
     .have:a.block=F.iG:=by rw[I];rfl
      exact N.xT<|by rwa[<-this,T]
    .simp only[t,if_false]at q;exact q
   .simp only[h,if_false]at o;exact o.elim
 have abA:iI F.P F.B0 (oC F D v).Y (λi=>if i=0 then F.xO 0 v else ru F.P (D i)) (λ_=> .fO) (λ_=> .no) (λi=>if i=0 then l else Bc (f i)) gs w qJ:=by
  refine⟨UD,λi x E=> ?_,c.gw.vh⟩;by_cases h:i=0
  .subst h;rw[G]at E;obtain rfl:=Ô E;simp only[if_true];exact⟨g,λs r=>Hy.KJ 0 v l g s hgo r,.gR,Ã<|Hy.B8 0 v l g hgo,Ã U⟩
  .let⟨g0,T,q2,Q,q4⟩:=c.gw.kv i x E;simp only[h,if_false]at T|-;exact⟨g0,λs _=>T _<|fU.fY _ _,q2,Q,Ç trivial⟩
 have aml:jF F (oC F D v) (λi=>if i=0 then l else Bc (f i)) gs.size w:=by
  refine⟨λi G a o=> ?_,λx _ t a o=> ?_,λ_=> ?_,λh=>absurd h (by rw[y];omega),λh=>absurd h (by rw[y];omega),λj h=>absurd h (by rw[y];omega),λj h=>absurd h (by rw[y];omega),λx ⟨e,B,_⟩=>(by cases B),λi h=> ?_,λi B t=> ?_,λk K b u=> ?_,λk K i G q=> ?_,λk B t=> ?_,λj h=>absurd h<|by rw[y];omega⟩
  .by_cases h:i=0
   .subst h;simp only[if_true]at o;rcases o with q|q
    .let⟨x,_,E⟩:=(st.oc a).1 q;rcases Qi N E with⟨k,_,t,I⟩|I
     .exact Ã ⟨k,t,I⟩
     .exact Ç I
    .exact Ã ⟨0,Z,(st.rc a).1 q⟩
   .exact absurd o<|nC i h a
  .simp only[if_true];exact(st.oc a).2 ⟨x,t,o⟩
  .simp only[if_true];exact⟨(st.rc _).2 U,st.v0⟩
  .rcases h with rfl|⟨x,E,_⟩
   .simp only[if_true];exact st.q
   .rw[y]at E;omega
  .have:i≠0:=Z
   simp only[this,if_false];rfl
  .have T:k=0:=by have:k<=0:=K;omega
   subst T;have s:=u;have B:=st.v0 b s;refine⟨C.fG 0 W b<|Ã (st.rd b B).1,by rw[X];exact(st.rd b B).2.1,λi G q=> ?_⟩;by_cases h:i=0
   .subst h;simp only[if_true]at q;exact(st.rd b B).2.2 q
   .simp only[h,if_false]at q;exact q
  .have T:k=0:=by have:k<=0:=K;omega
   subst T;by_cases h:i=0
   .subst h;simp only[if_true]at q;let⟨x,_,E⟩:=(st.oc _).1 q;exact abz N E
   .simp only[h,if_false]at q;exact q
  .have:k<=0:=t;omega
 have gg:∀k,k<=F.m->jc w (F.gK k) ((oC F D v).Gg k):=λk K=>by
  by_cases h:k=0
  .subst h;exact st.CK
  .have:(oC F D v).Gg k=.cl 1 0:=by simp[oC,h]
   rw[this];exact st.j4 k Z K
 have wdd:Wd F (oC F D v) w:=by
  refine⟨st.fL,gg,λj h=>absurd h (by rw[y];omega),λk K=> ?_,λk B t=> ?_,λj h=>absurd h<|by rw[y];omega⟩
  .have T:k=0:=by have:k<=0:=K;omega
   subst T;exact⟨.si,st.aby⟩
  .have:k<=0:=t;omega
 have abB:∀k,(sumTo F.n λj=>((oC F D v).wp j).iq F j k)=0:=λk=>by
  have:∀n,(sumTo n λ_=>0)=0:=λn=>by
   induction n with
   |zero=>rfl
   |succ n s=>simp[sumTo,s]
  exact this F.n
 have amm:sumTo (F.n+1) (oC F D v).hD=1:=by
  have B:=AS (f':=(oC F D v).hD) (j:=0) (n:=F.n+1) Z (λi G=>by
   have:¬i<1:=Z
   show(if i<1 then _ else _)=0;rw[if_neg this])
  have t:∀n,(sumTo n λ_=>0)=0:=λn=>by
   induction n with
   |zero=>rfl
   |succ n s=>simp[sumTo,s]
  rw[t]at B;have I:(oC F D v).hD 0=1:=U;omega
 have pss:Ps F (oC F D v):=by
  refine⟨U,λj h=> ?_,λj h=> ?_,λr=>⟨λh=>(by cases h),λh=>(by cases h)⟩,λ_=>rfl,λk=>⟨λh=> ?_,λh=>(by cases h),λp h=>by cases h⟩,λ_ _=>rfl,λj r h=>absurd h (by rw[y];omega),λj h=>absurd h (by rw[y];omega),λh=>absurd U h,λ_ _=>rfl,λj j' h=>absurd h (by rw[y];omega),λj h=>absurd h (by rw[y];omega),λc reg h=> ?_,λreg h=>(by cases h),λr s h=>(by cases h),λx p h=>(by cases h),λh=> ?_,λk B t I=> ?_,λk B t=> ?_,λj r h=>absurd h (by rw[y];omega),λj r h=>absurd h (by rw[y];omega),λh=>(by cases h),λ_ _=>⟨1,rfl⟩,λ_ _ _=>rfl,λj r h=>absurd h<|by rw[y];omega⟩
  .rcases h with h|h|h|h<;>cases h;omega
  .rcases h with h|h|h<;>cases h
  .cases h;omega
  .cases h;exact⟨amm.symm,U⟩
  .rcases h with h|h|h<;>cases h
  .rw[abB];have:k≠0:=Z
   simp[oC,this]
  .have T:k=0:=by have:k<=0:=t;omega
   subst T;exact Ç<|Ç ⟨λp h=>(by cases h),Ã ⟨rfl,abB 0⟩⟩
 have s:TI F.toFx qJ.size zX (oC F D v).sp (oC F D v).ip.rl (oC F D v).V (oC F D v).pk (oC F D v).fs (oC F D v).jb (oC F D v).ql qJ:=by
  refine⟨Û _,λp a x o T hc=> ?_,λx h=>absurd h (by rw[y];omega),λk B t=> ?_,λk B t=> ?_,λb u=>c.vl _<|st.V3 b u,λx h=>absurd h (by rw[y];omega),λp a B t=> ?_,λp a _ t I=>c.IT p a t I,λp g _ t I h4=>c.zy p g t I h4⟩
  .let⟨b,u,E⟩:=hc;have UA:x.block=b:=by rcases E with rfl|rfl<;>rfl
   rcases c.ni p a x o T with q|q
   .exact Ã ⟨TW o,q⟩
   .have:=st.V3 b u;omega
  .have:k<=0:=t;omega
  .have:k<=0:=t;omega
  .have:=TW t;omega
 refine⟨by rw[y,hL];rfl,abA,⟨by simp only[if_true];rfl,U⟩,λh=>absurd h (by rw[y];omega),λj h=>absurd h (by rw[y];omega),λx e h=>absurd h (by rw[y];omega),λi B t=>⟨?_,U,U⟩,aml,wdd,pss,s,λi x E u=> ?_,λj r h=>absurd h<|by rw[y];omega⟩
 .have:i≠0:=Z
  simp only[this,if_false];rfl
 .let⟨g0,_,q2,Q,_⟩:=abA.kv i x E;cases q2 with
  |gR=>rcases Q with Q|Q<;>rw[u]at Q<;>cases Q
end
end Go.Proofs.Y.fK
namespace Go.Proofs.Y.fK
open Go Go.Conc Go.Proofs.Y.Lift Go.RowKit Go.Conc.Lib Go.ConcR.Gen
open Go.Proofs Go.Proofs.YtgpphkdoanciiaaGreatDoor
section
variable{kd:Nat->Int}{R:Nat}
def Mf(h:i∈jq kd R):i<R/\kd i=1:=by have:=Ć.1 h;exact⟨ù.1 this.1,by simpa using this.2⟩
def Mg(h:i∈kN kd R):i<R/\kd i≠1:=by have:=Ć.1 h;exact⟨ù.1 this.1,by simpa using this.2⟩
def amn:(jq kd R).Nodup:=Ŕ.filter _
def amo:(kN kd R).Nodup:=Ŕ.filter _
def Gq(h:k<jJ.length):jJ[k]?=Â (jJ.getD k 0):=by simp[List.getD,h]
def zS{l:List Nat}(h:k<l.length):l.getD k 0∈l:=İ<|Gq h
def abC(c:jJ.Nodup)(a:i<jJ.length)(d:j<jJ.length)(h:jJ.getD i 0=jJ.getD j 0):i=j:=by have b:=Gq a;have e:=Gq d;rw[h]at b;exact(List.getElem?_inj a c).1<|b.trans e.symm
def abD:∀R,(jq kd R).length+(kN kd R).length=R
 |0=>rfl
 |R+1=>by
  have:=abD R;by_cases h:kd R=1
  .rw[F9 h,Vz h];simp;omega
  .rw[Gb h,VA h];simp;omega
end
structure Bd where
 γ:Type
 s0:γ
 uu:Nat->γ->γ->Prop
 RD:γ->Ð->(Nat->Prop)->Þ->Prop
 Gr:Nat->ByteArray
 V0:Nat->Prop
def Qj(M:Bd)(L n R:Nat)(kd:Nat->Int)(a g:Nat->Nat)(b c:Option ã)(d e f h j l:Nat)(o:List ç)(p:Nat->Prop)(RC fc:Þ->Prop):SD where
 L:=L
 B0:=0
 n:=n
 m:=gD kd R
 q:=(kN kd R).length
 N:=R
 fL:=l
 gK:=g
 an:=f
 ba:=h
 bi:=j
 ib:=b
 ci:=d
 qb:=c
 cq:=e
 Qe:=λk=>Â ⟨a<|(jq kd R).getD (k-1) 0,0,Á⟩
 pi:=λk=>(jq kd R).getD (k-1) 0
 IL:=λi=>Â ⟨a<|(kN kd R).getD i 0,0,Á⟩
 pq:=λi=>(kN kd R).getD i 0
 gq:=λi=>if i<(kN kd R).length then gD kd ((kN kd R).getD i 0)else 0
 cs:=o
 RB:=p
 RC:=RC
 fc:=fc
 γ:=M.γ
 s0:=M.s0
 V0:=M.V0
 uu:=M.uu
 RD:=M.RD
 vn:=λk=>M.Gr<|(jq kd R).getD (k-1) 0
 wV:=λi=>M.Gr<|(kN kd R).getD i 0
section
variable{M:Bd}{L R:Nat}{kd:Nat->Int}{a:Nat->Nat}{c:Option ã}{cs:List ç}{RB:Nat->Prop}{RC fc:Þ->Prop}{l d f:fj}
def amq(h:P4 kd a D R (Æ O (gD kd R) j7) (Æ c (kN kd R).length j6) v j b J i j9 m l d f)(F:∀w p,RC w->(∀g,RB g->p.heap[g]?=w.heap[g]?)->RC p)(G:∀w p,fc w->(p.os=w.os/\p.output=w.output)->fc p)(H:∀s B V w p,M.RD s B V w->(∀g,V g->p.heap[g]?=w.heap[g]?)->M.RD s B V p)(I:1<=n)(K:1<=L)(hs:n+R<1000):(Qj M L n R kd a D O c j7 j6 j b J i cs RB RC fc).Ok:=by
 have hb:=abD (kd:=kd) R;have hc:(jq kd R).length=gD kd R:=U;let⟨a1,a2,a3⟩:=h.o1;let⟨a4,a5,a6⟩:=h.o5;have z:∀k,k<=gD kd R->d.w.heap.size<=D k/\D k<J:=λk r=>⟨(h.mW.gl k r).1,h.o2 k r⟩;have VL:=Ø (z 0 Z).1<|Ō (z 0 Z).2;refine⟨F,G,H,I,K,?_,?_,λo=> ?_,λo t=> ?_,λk C x=> ?_,λk r e=> ?_,λk u r N e=> ?_,?_,λo i' t P e=>abC amo t P e,λk u C x h3 Q e=> ?_,λo k t C x e=> ?_,λg _=>ĉ g⟩
 .show n+(kN kd R).length+gD kd R<1000;omega
 .show R<1000;omega
 .show(if o<(kN kd R).length then gD kd ((kN kd R).getD o 0)else 0)<=gD kd R;split
  .rename_i t;exact abf<|Ō (Mg<|zS t).1
  .omega
 .exact(Mg<|zS t).1
 .refine(Mf<|zS ?_).1;have:k<=gD kd R:=x;omega
 .have:=(z k r).2;have y:D k=i:=e;omega
 .have y:D k=D u:=e;have T:=r;have W:=N;rcases Nat.lt_trichotomy k u with q|q|q
  .have:=h.mW.up k u q W;omega
  .exact q
  .have:=h.mW.up u k q T;omega
 .rintro(e|⟨k,r,e⟩)
  .have y:j=i:=e;omega
  .have y:j=D k:=e;have:=(z k r).1;omega
 .have X:k<=gD kd R:=x;have h4':u<=gD kd R:=Q;have:=abC amn Z Z e;omega
 .have X:k<=gD kd R:=x;have y:(kN kd R).getD o 0=(jq kd R).getD (k-1) 0:=e;have E:=(Mg<|zS t).2;have Y:=(Mf (kd:=kd) (R:=R)<|zS (k:=k-1) Z).2;rw[y]at E;exact E Y
end
abbrev mA(M:Bd)(L n R:Nat)(kd:Nat->Int)(c g:Nat->Nat)(d e:Option ã)(f h i a j k:Nat)(cs:List ç)(l:fj):SD:=Qj M L n R kd c g d e f h i a j k cs (λb=>l.O b\/b=a) (λw=>∀b,l.O b->w.heap[b]?=l.w.heap[b]?) λw=>w.os=l.w.os/\w.output=l.w.output
def Qk(D:SD)(l:fj):fj:={l with O:=λb=>l.O b/\¬(D.fx.jg b\/b=D.an)/\¬D.RB b,Rd:=D.RB,Oc:=λa=>∃x,x<=D.n/\oe (D.ph Ä) x a,Rc:=λa=>a=ki D.fx 0,K:=D.fx.vk}
section
variable{M:Bd}{L:Nat}{f:Nat->Int}{r:Nat->Nat}{u:Option ã}{y:Nat}{cs:List ç}{l B o:fj}
def Ql{cs:Array Ð}(h:w.heap[b]?=Â (Ê cs e)):w.frozen? ⟨b,i,Á⟩=Í:=by simp[ð,h]
def V5{cs:Array Ð}(h:w.heap[b]?=Â (Ê cs e))(a:cs[0]?=Â (É ì<|(i:Int)*gO+0))(d:cs[1]?=Â (É û 0))(f:i<1000000):jc w b (.cl i 0):=by
 refine⟨?_,?_,Ql h,Ql h,?_⟩
 .simp[Ù,gp,h,a,GS.st]
 .simp[Ù,iP,h,d,GS.sm]
 .exact⟨f,Z,λ_=>rfl⟩
def amr(h:P4 f r D j (Æ O (gD f j) j6) (Æ u (kN f j).length y) v k m j9 b j7 J l B o)(s:ic l)(Qm:∀g,¬l.Rd g)(X:¬l.q)(Y:l.d=0)(hH:i<=l.w.heap.size)(hV:∀g,M.V0 g->l.O g)(uL:M.RD M.s0 v M.V0 o.w)(Bb:o.w.os=l.w.os/\o.w.output=l.w.output)(hn:1<=n)(hs:n+j<1000){t:Array Ð}(hT:LJ m b (D<|gD f j) n (Æ u (kN f j).length y) t)(dk:Nat->Nat): V1 ((mA M L n j f r D O u j6 y k m j9 b cs l).ph Ä) i o (Qk (mA M L n j f r D O u j6 y k m j9 b cs l) o) o.w/\ ((mA M L n j f r D O u j6 y k m j9 b cs l).ph Ä).xO 0 dk (Qk (mA M L n j f r D O u j6 y k m j9 b cs l) o) (FW (À<|Â ⟨b,0,Á⟩) jQ (À<|Â ⟨b,0,Á⟩) (ñ #[]) j7 J<|IC t::cs):=by
 let⟨a1,a2,a3⟩:=h.o1;let⟨a4,a5,a6⟩:=h.o5;have N:∀C,C<=gD f j->B.w.heap.size<=D C/\D C<j9:=λC E=>⟨(h.mW.gl C E).1,h.o2 C E⟩;have VL:=Ø (N 0 Z).1<|Ō (N 0 Z).2;have old:=λg q=>s.fG g<|Ã q;have hc:(jq f j).length=gD f j:=rfl;have Q:∀g,(mA M L n j f r D O u j6 y k m j9 b cs l).fx.jg g\/g=k->g=b\/(∃C,C<=gD f j/\g=D C)\/g=k:=λg q=>by
  rcases q with(q|⟨C,T,q2⟩)|q
  .exact Ã q
  .exact Ç<|Ã ⟨C,T,q2⟩
  .exact Ç<|Ç q
 have H:∀g,(mA M L n j f r D O u j6 y k m j9 b cs l).fx.jg g\/g=k->l.w.heap.size<=g/\g≠m/\g≠j9/\g≠j7/\g≠J/\(∀C,(Æ O (gD f j) j6).ownBlock=Â C->g≠C)/\(∀C,(Æ u (kN f j).length y).ownBlock=Â C->g≠C):=λg q=>by
  rcases Q g q with rfl|⟨C,E,rfl⟩|rfl
  .exact⟨Z,Z,Z,Z,Z,λC e=>by have:=h.o3 C e;omega,λC e=>by have:=h.o4 C e;omega⟩
  .have:=N C E;exact⟨Z,Z,Z,Z,Z,λp e z=>(h.mW.gl C E).2.1<|z▸e,λp e z=>(h.mW.gl C E).2.2<|z▸e⟩
  .exact⟨Z,Z,Z,Z,Z,λC e=>by have:=(h.mW.iO C e).2;omega,λC e=>by have:=(h.mW.qO C e).2;omega⟩
 have ams:∀g,(mA M L n j f r D O u j6 y k m j9 b cs l).fx.jg g\/g=k->o.O g:=λg q=>by
  rcases Q g q with rfl|⟨C,E,rfl⟩|rfl
  .exact h.j5.fD
  .by_cases x:C=0
   .subst x;exact h.mW.CK.fD
   .exact(h.mW.gK C Z E).fD
  .exact h.LY.fD
 have K:∀g,o.O g->l.w.heap.size<=g->g≠m->¬((mA M L n j f r D O u j6 y k m j9 b cs l).fx.jg g\/g=k)->(Qk (mA M L n j f r D O u j6 y k m j9 b cs l) o).O g:=λg T q2 q4 q3=>⟨T,q3,λq=>q.elim (λq=>by have:=old g q;omega) q4⟩;have abE:jc o.w b (.cl 1 0):=V5 h.j5.is U U Z;have gg0:jc o.w (D 0) (.cl 0 0):=V5 h.mW.CK.is U U Z;have ggk:∀C,1<=C->C<=gD f j->jc o.w (D C) (.cl 1 0):=λC I P=>V5 (h.mW.gK C I P).is U U Z;have V:∀g c,jc o.w g c->pz g o.w:=λg c q=>⟨by rw[show(⟨g,0,Á⟩:ã)=gp g from rfl,q.st];rfl,by rw[show(⟨g,1,Á⟩:ã)=iP g from rfl,q.sm];rfl⟩;refine⟨⟨λg q=>⟨q.1,q.2.1⟩,λg q=>⟨?_,λz=> ?_,λz=>z.2.2 q⟩,λa=>Iff.rfl,λa=>Iff.rfl,λa q=>q,λg q=>ams g q,λg q=>Ø hH (H g<|Ã q).1,U,h.gf.d.trans Y,by show¬o.q;rwa[h.gf.q],λg q=>Ã<|hV g q,abE,gg0,ggk,⟨⟨v,h.mW.CK.fg U,uL⟩,λ_=> ?_⟩⟩,?_⟩
 .rcases q with q|q
  .exact h.gf.O g q
  .rw[q];exact h.yv.fD
 .rcases q with q|q
  .have:=(H g z).1;have:=old g q;omega
  .exact(H g z).2.1 q
 .refine⟨?_,by unfold mS;rw[show o.w.heap[(mA M L n j f r D O u j6 y k m j9 b cs l).an]?=Â (A7 j)from h.LY.is],Bb⟩;show o.w.cell? ⟨k,j,Á⟩=Á;simp only[Ù,h.LY.is,A7,Ľ,ĝ,if_false];exact Array.getElem?_eq_none<|by rw[Ŭ];exact Û _
 refine⟨h.gf.d.trans Y,by show¬o.q;rwa[h.gf.q],ĉ _,Ã ⟨U,⟨λg q=>⟨⟨g,q,Ã U⟩,⟨g,q,Ç U⟩⟩,λg q=> ?_,?_,h.yv.fg U,?_,h.Gd.fg U,λC E=> ?_,λe hi=> ?_,λa q=> ?_,λg q=>Ç q,λg q=> ?_⟩,t,j7,J,jQ,hT,⟨?_,h.IH.is⟩,⟨?_,h.cbf.is⟩,U⟩⟩
 .rcases Q g (Ã q)with rfl|⟨C,E,rfl⟩|rfl
  .exact V _ _ abE
  .by_cases x:C=0
   .subst x;exact V _ _ gg0
   .exact V _ _<|ggk C Z E
  .exact absurd q λz=>by
    rcases z with z|⟨C,x,F⟩
    .have G:g=b:=z;omega
    .have G:g=D C:=F;have:=(N C x).1;omega
 .exact Ç<|Ç U
 .exact Ã<|K j9 h.Gd.fD Z Z λz=>(H j9 z).2.2.1 U
 .have xM:C<gD f j:=E;rcases h.mW.lj.2 with⟨_,e2⟩|⟨g,cap,cur,W,_,hcur,L8⟩
  .omega
  .have Cx:O=Â ⟨g,0,Á⟩:=by injection W
   subst Cx;have x:=h.mW.lj.cells U;have hz:(jq f j).zipIdx[C]?=Â ((jq f j).getD C 0,C):=by rw[List.getElem?_zipIdx,Gq Z];simp
   have F:∀c,c<4->(lj f r D j)[C*4+c]?=(tI r D ((jq f j).getD C 0,C))[c]?:=λc q=>VD (λ_=>rfl) q _ C _ hz;have G:∀p,(⟨g,0,Á⟩:ã).add p=⟨g,p,Á⟩:=λp=>by rw[Ĩ,Ė]
   refine⟨g,U,Ã (K g (h.mW.iO g U).1 (Ø Z (h.mW.iO g U).2) (by have:=(h.mW.iO g U).2;omega) λz=>(H g z).2.2.2.2.2.1 g U U),?_,?_,?_,?_⟩
   .have:=x (C*4+0) _<|F 0 Z;rwa[G]at this
   .have:=x (C*4+1) _<|F 1 Z;rwa[G]at this
   .have:=x (C*4+2) _<|F 2 Z;rwa[G]at this
   .have:=x (C*4+3) _<|F 3 Z;rwa[G]at this
 .have nH:e<(kN f j).length:=hi;rcases h.mW.o6.2 with⟨_,e2⟩|⟨g,cap,cur,W,_,hcur,L8⟩
  .omega
  .have VU:u=Â ⟨g,0,Á⟩:=by injection W
   subst VU;have x:=h.mW.o6.cells U;have F:∀c,c<4->(o6 f r D j)[e*4+c]?=(tQ f r D<|(kN f j).getD e 0)[c]?:=λc q=>VD (λ_=>rfl) q _ e _<|Gq nH;have G:∀p,(⟨g,0,Á⟩:ã).add p=⟨g,p,Á⟩:=λp=>by rw[Ĩ,Ė]
   refine⟨g,U,Ã (K g (h.mW.qO g U).1 (Ø Z (h.mW.qO g U).2) (by have:=(h.mW.qO g U).2;omega) λz=>(H g z).2.2.2.2.2.2 g U U),?_,?_,?_,?_⟩
   .have:=x (e*4+0) _<|F 0 Z;rwa[G]at this
   .have:=x (e*4+1) _<|F 1 Z;rwa[G]at this
   .have:=x (e*4+2) _<|F 2 Z;rw[G]at this;show o.w.cell? ⟨g,e*4+2,Á⟩=Â (À<|Â ⟨D (if e<(kN f j).length then gD f ((kN f j).getD e 0)else 0),0,Á⟩);rw[if_pos nH];exact this
   .have:=x (e*4+3) _<|F 3 Z;rwa[G]at this
 .have W:∀p,p<j->(o.w.cell? ⟨k,p,Á⟩).isSome=Ó/\o.w.frozen? ⟨k,p,Á⟩=Í:=λp hp=>by
   refine⟨?_,Ql h.LY.is⟩;have:p<(madeCells (Ε<|á ⟨#[]⟩) j).size:=by rwa[Ŭ]
   simp[Ù,h.LY.is,this]
  let⟨x,_,F⟩:=q;unfold oe at F;split at F
  .obtain⟨C,I,P,rfl|rfl⟩:=F
   .have G:=P;refine⟨?_,Ql (h.mW.gK C I G).is⟩;show(o.w.cell? ⟨D C,2,Á⟩).isSome=Ó;rw[(h.mW.gK C I G).fg U];rfl
   .have G:C<=gD f j:=P;exact W _ (Mf<|zS Z).1
  .obtain⟨e,I,_,rfl⟩:=F;exact W _ (Mg<|zS I).1
 .exact h.gf.fu g (Ã q) id
 .exact K j7 h.IH.fD Z Z λz=>(H j7 z).2.2.2.1 U
 .exact K J h.cbf.fD Z Z λz=>(H J z).2.2.2.2.1 U
end
end Go.Proofs.Y.fK
namespace Go.Proofs.Y.fK
open Go Go.Conc Go.Proofs.Y.Lift Go.RowKit Go.Conc.Lib Go.ConcR.Gen
open Go.Proofs Go.Proofs.YtgpphkdoanciiaaGreatDoor
open Go.ConcN (sumTo sumTo_congr)
def Qo(kd:Nat->Int)(f:Nat->Nat)(R n:Nat)(h:Ð)(l:fj)(cs:List ç):Jd:=λi j=>
 ∃g k t m b o c p a d e q,P4 kd f g R m b h o c p a d e l k i/\LJ c a (g<|gD kd R) n b t/\j=FW (À<|Â ⟨a,0,Á⟩) q (À<|Â ⟨a,0,Á⟩) (ñ #[]) d e (IC t::cs)
def abF(h:w.ownsRow i e j v n l):∃b c,v=Æ b n c:=by
 rcases h.2 with⟨a,d⟩|⟨b,f,g,a,_⟩
 .exact⟨Á,0,by rwa[d]⟩
 .exact⟨_,_,a⟩
section
variable{F:Ph}{σ:gF F}{S:Nat->Jd}{y:Nat->gY}{B:Nat->jw}{u:Nat->fj}
def PI.amt(p:PI F j9 zX σ S y B u E w qJ)(f:σ.mp=.gC)(g:1<=F.n):σ.ip=.lO F.m/\(∀i,i<F.q->w.cell? (kz F<|F.pq i)=Â (á<|F.wV i)/\∀k,k<E.size->¬(u k).Oc (kz F<|F.pq i)):=by
 let⟨s,a⟩:=p.ko f;refine⟨p.ps.rz (by let⟨N,h⟩:=a 0 Z;rw[h];simp),λi k=> ?_⟩;have t:i%F.n<F.n:=Ł _ g;have e:i%F.n+i/F.n*F.n=i:=by rw[Nat.mul_comm];exact Nat.mod_add_div i F.n
 let⟨N,h⟩:=a (i%F.n+1) Z;let⟨_,r,j,l⟩:=p.ps.sr (i%F.n) Z (by rw[h];simp);have o:=l (i/F.n) (by rwa[e]);have b:i/F.n<(σ.wp<|i%F.n).iG:=by rwa[j]
 have c:=p.wd.pQ (i%F.n) Z (i/F.n) (by rwa[e]) b;have d:=p.iD.oz (i%F.n) Z (i/F.n) (by rwa[e]) b;rw[e]at c d;exact⟨c,d⟩
end
structure amu(D:SD)(l:fj)(w:Þ)(g:à):Prop where
 ja:∀b,l.O b->w.heap[b]?=l.w.heap[b]?
 yv:w.cell? ⟨D.ba,0,Á⟩=Â (Æ (Â ⟨D.an,0,Á⟩) D.N D.N)
 lO:∀k,1<=k->k<=D.m->w.cell? ⟨D.an,D.pi k,Á⟩=Â (á<|D.vn k)
 V7:∀i,i<D.q->w.cell? ⟨D.an,D.pq i,Á⟩=Â (á<|D.wV i)
 CM:∃s sl V,pP (D.ph Ä) D.m s/\w.cell? ⟨D.gK D.m,2,Á⟩=Â sl/\D.RD s sl V w/\∀b,V b->b<w.heap.size/\b≠D.fL
 fG:D.an<w.heap.size/\D.ba<w.heap.size/\D.gK D.m<w.heap.size
 ne:D.an≠D.fL/\D.ba≠D.fL/\D.gK D.m≠D.fL
 kt:∃ts,SE D.ba D.fL (D.gK D.m) ts/\g=IK ts D.cs
 kJ:w.cell? ⟨D.an,D.N,Á⟩=Á/\mS w D.an=Â (0,0)
 io:w.os=l.w.os/\w.output=l.w.output
section
variable{M:Bd}{f:Nat->Int}{o:Nat->Nat}{cs:List ç}{l:fj}{G:Nat->Nat}{u:Nat->fj}
def amv(c:vV Ä zX j (Qo f o J n v l cs) .fO G u E w qJ)(Q:Option (Nat×Nat))(s:ic l)(Qm:∀b,¬l.Rd b)(hq:¬l.q)(hd:l.d=0)(hH:j<=l.w.heap.size)(hV:∀b,M.V0 b->l.O b)(uL:∀s Q V w F,M.RD s Q V w->(∀b,V b->F.heap[b]?=w.heap[b]?)->M.RD s Q V F)(Gs:M.RD M.s0 v M.V0 l.w)(Bb:w.os=l.w.os/\w.output=l.w.output)(hn:1<=n)(hs:n+J<1000) (hA:∀g r t y B e m p h,l.w.heap.size<=m->IN (mA M E.size n J f o g r t y B e m p h cs l)/\IP (mA M E.size n J f o g r t y B e m p h cs l)): ∃g r t y B e m p h,(l.w.heap.size<=e/\l.w.heap.size<=m/\l.w.heap.size<=h/\∀k,k<=gD f J->l.w.heap.size<=g k)/\ ∃N Y a I C i F K D z,Η Ä N (Ķ E w Q) qJ=(.next<|Ķ i F K,D)/\i.size=E.size+(n+1)/\i[0]?=Â z/\a<=F.heap.size/\h<a/\j<=a/\(C 0).d=0/\z.status=ē/\ my Ä Y (λH=>zX H\/∃x:ã,H=Ā x/\x.block=h) a (abq<|mA M E.size n J f o g r t y B e m p h cs l) .fO I C i F D/\amu (mA M E.size n J f o g r t y B e m p h cs l) l F z:=by
 have h0:=c.fh;obtain⟨g0,vx⟩:∃g,E[0]?=Â g:=⟨_,è h0⟩;let⟨g1,q1,q2,q3,_⟩:=c.gw.kv 0 g0 vx;obtain rfl:g0=g1:=by cases q2;rfl
 have hz:=q1 w<|c.gw.ie.gy 0 h0;let⟨g,lp,tt,iv,qv,e,m,p,h,bw,bf,T,D,hT,hg⟩:=hz;obtain⟨r,y,rfl⟩:=abF D.mW.lj;obtain⟨t,B,rfl⟩:=abF D.mW.o6;let⟨a1,a2,a3⟩:=D.o1;let⟨a4,a5,a6⟩:=D.o5;have V8:∀k,k<=gD f J->lp.w.heap.size<=g k/\g k<p:=λk W=>⟨(D.mW.gl k W).1,D.o2 k W⟩;have avx:=V8 0 Z;have amw:=uL _ _ _ _ _ Gs λb q=>D.gf.fu b (Ã<|hV b q) id;obtain⟨st,hgo⟩:=amr D s Qm hq hd hH hV amw Bb hn hs hT λ_=>0;have ok:=amq (L:=E.size) (cs:=cs) (RB:=λb=>l.O b\/b=m) (RC:=λw=>∀b,l.O b->w.heap[b]?=l.w.heap[b]?) D (λw F K X b a=>(X b<|Ã a).trans<|K b a) (fc:=λw=>w.os=l.w.os/\w.output=l.w.output) (λw F K X=>⟨X.1.trans K.1,X.2.trans K.2⟩) uL hn Z hs;let⟨hAdd,amx⟩:=hA g r t y B e m p h Z;have Hy:=ame ok hAdd amx;have rD:=D.gf.d.trans hd;have st':V1 ((mA M E.size n J f o g r t y B e m p h cs l).ph Ä) j (u 0) (Qk (mA M E.size n J f o g r t y B e m p h cs l) {u 0 with w:=w}) w:=⟨st.fD,st.rd,st.oc,st.rc,st.k,st.yO,st.V3,st.wd,st.d,st.q,st.v0,st.fL,st.CK,st.j4,st.aby⟩;rw[<-hg]at hgo;have p0:=c.amk Hy U U vx st' rD (λ_=>0) hgo;let⟨N1,σ,S1,tr1,kp1,avy,gs1,w1,sl1,t1,r1,x,hf,he⟩:=aj2 Hy _ _ _ _ _ _ _ E w Q qJ U U p0 (by intro q;cases q);let⟨rm,_⟩:=x.ko hf;let⟨CN,c1⟩:=x.amj hf he U h0;let⟨N2,Qp,V9,gs2,w2,Gt,t2,r2,z2,N,c2⟩:=c1.mf (λa i z=>Ã<|Hy.HM σ.dk a i z) (tr1 0) _ CN _ gs1 w1 sl1 t1 U;have Wa:gs1.size=E.size+(n+1):=by rw[x.fh,rm];rfl
 have Qq:=c2.fh;obtain⟨g2,Qr⟩:∃g,gs2[0]?=Â g:=⟨_,è Qq⟩;let⟨g3,u1,u2,u3,_⟩:=c2.gw.kv 0 g2 Qr;obtain rfl:g2=g3:=by cases u2;rfl
 have hE:=u1 w2<|c2.gw.ie.gy 0 Qq;let⟨e1,e2,dat,ts,uN,Wb⟩:=hE;have P:0<gs1.size:=Z
 have C:=x.gw.ie;have hY:=λb q z=>C.fX 0 P b (Ã z) q;have H:σ.Y e:=Ç<|Ã U;have yG:∀k,k<=gD f J->σ.Y (g k):=λk W=>Ã<|Ç ⟨k,W,U⟩;have Wc:σ.Y h:=Ã<|Ã U;let⟨hip,amy⟩:=x.amt hf hn;have hmd:σ.ip.md=gD f J:=by rw[hip];rfl
 let⟨K7,⟨slv,Wg,Qs⟩,_⟩:=x.wd.nj (gD f J) Z;have I:=C.kE;refine⟨g,r,t,y,B,e,m,p,h,⟨a1,Z,Z,λk W=>by have:=V8 k W;omega⟩,N1+N2,σ.Y,w1.heap.size,Qp,V9,gs2,w2,Gt,t2,g2,?_,Z,Qr,N.fh,I h Wc,?_,e1,Hy.HM σ.dk _ _<|u1 w2<|c2.gw.ie.gy 0 Qq,c2,⟨dat.rc,dat.yv,λk K X=> ?_,λi hi=> ?_,?_,?_,?_,⟨ts,uN,Wb⟩,?_,?_⟩⟩
 .rwa[runNT_add,show Η Ä N1 (Ķ E w Q) qJ=_ from r1]
 .have:=I h Wc;omega
 .have a:k<=gD f J:=X;apply Ŋ (N.fg ⟨e,_,Á⟩ (I e H) (hY e H)<|x.iD.oT k K Z 0 P);exact x.wd.qm k K Z
 .let⟨T,v2⟩:=amy i hi;exact Ŋ (N.fg ⟨e,_,Á⟩ (I e H) (hY e H)<|v2 0 P) T
 .refine⟨σ.sg<|gD f J,slv,σ.V<|gD f J,K7,?_,uL _ _ _ _ _ Qs λb q=> ?_,λb q=> ?_⟩
  .exact Ŋ (N.fg ⟨g<|gD f J,2,Á⟩ (I _<|yG _<|Û _) (hY _<|yG _<|Û _)<|x.iD.nN (gD f J) Z 0 P) Wg
  .let⟨T,v2,v3⟩:=x.iD.kF (gD f J) Z b q;exact N.lr b T (v3 0 P) λa ha z=>v2<|ha▸C.ju 0 P a (Ã z)
  .let⟨T,v2,v3⟩:=x.iD.kF (gD f J) Z b q;exact⟨È T N.fh,λz=>v2<|z▸Wc⟩
 .refine⟨È (I e H) N.fh,?_,È (I _<|yG _<|Û _) N.fh⟩;exact c2.gw.ie.fG 0 Qq m<|Ç dat.ba
 .exact⟨show e≠h by omega,show m≠h by omega,show g (gD f J)≠h by have:=V8 (gD f J)<|Û _;omega⟩
 .let⟨a,y2,_⟩:=(x.wd.nj 0<|ĉ _).2.2 U;exact⟨Ŋ (N.fg ⟨e,J,Á⟩ (I e H) (hY e H)<|x.iD.T0 Hy.ok 0 P) a,(N.fC e (I e H)<|hY e H).trans y2⟩
 .let⟨_,_,a⟩:=(x.wd.nj 0<|ĉ _).2.2 U;exact⟨N.os.trans a.1,N.mR.trans a.2⟩
end
def Wh(a:ξ->Prop)(w:Þ):fj where
 O:=λb=>b<w.heap.size/\∀x:ã,x.block=b->¬a (Ā x)
 Rd:=λ_=>False
 Oc:=λ_=>False
 Rc:=λ_=>False
 K:=λ_=>False
 q:=False
 d:=0
 w:=w
def abG(a:ξ->Prop)(w:Þ):ic (Wh a w):= ⟨λ_ _ h=>h,λ_ h=>h.elim,λ_ h=>h.elim (λq=>q.elim) λq=>q.elim,λ_ h=>h.elim (λq=>q.1) λq=>q.elim,λ_ h=>h.elim (λq=>q.elim) λq=>q.elim,λ_ h=>h.elim⟩
structure zU(ky:ξ->Prop)(H:Nat)(l:fj):Prop where
 ja:∀x:ã,ky (Ā x)->x.block<H
 fD:∀b,l.O b->∀x:ã,x.block=b->¬ky (Ā x)
 fh:H<=l.w.heap.size
inductive CO(M:Bd):Nat->M.γ->Prop
 |si:CO M 0 M.s0
 |HF {k:Nat} {s s':M.γ} (h:CO M k s) (hn:M.uu k s s'):CO M (k+1) s'
structure Kw(M:Bd)(R:Nat)(kd:Nat->Int)(l:fj)(an:Nat)(sl:Ð)(l':fj):Prop where
 fi:∀b,l.O b->l'.O b/\l'.w.heap[b]?=l.w.heap[b]?
 iG:l'.O an/\∀p,p<R->l'.w.cell? ⟨an,p,Á⟩=Â (á<|M.Gr p)
 CM:∃s V,CO M (gD kd R) s/\M.RD s sl V l'.w/\∀b,V b->l'.O b
 d:l'.d=0
 q:¬l'.q
 rd:∀b,¬l'.Rd b
 kq:(∀a,¬l'.Oc a)/\(∀a,¬l'.Rc a)/\∀a,¬l'.K a
 kJ:l'.w.cell? ⟨an,R,Á⟩=Á/\mS l'.w an=Â (0,0)
section
variable{M:Bd}{R H:Nat}{kd:Nat->Int}{f:Nat->Nat}{o:List ç}{l:fj}{ky:ξ->Prop}{u:Nat->fj}
def amz{a:Option ã}{s:M.γ}(h:pP ((mA M i n R kd f D O a j b m J j9 j7 qX l).ph Ä) k s):CO M k s:=by
 have c:∀(k:Nat) (s:((mA M i n R kd f D O a j b m J j9 j7 qX l).ph Ä).γ),pP ((mA M i n R kd f D O a j b m J j9 j7 qX l).ph Ä) k s->CO M k s:=λk s h=>by
  induction h with
  |si=>exact .si
  |HF _ d e=>exact .HF e d
 exact c k s h
def amA{J:(ξ->Prop)->Nat->Jd}{cf:ç}{a:Ů}(Ck:qX=cf.at a (Ï Q (i::jJ)::L)::o)(c:vV Ä ky H (Qo kd f R n v l qX) .fO D u E w qJ)(I:Option (Nat×Nat))(s:ic l)(Qm:∀b,¬l.Rd b)(hq:¬l.q)(hd:l.d=0)(W:zU ky H l)(hV:∀b,M.V0 b->l.O b)(uL:∀s I V w B,M.RD s I V w->(∀b,V b->B.heap[b]?=w.heap[b]?)->M.RD s I V B)(amB:∀s I V w,M.RD s I V w->(∃p m c,I=Æ p m c)/\∀b,V b->l.O b\/l.w.heap.size<=b)(Gs:M.RD M.s0 v M.V0 l.w)(Bb:w.os=l.w.os/\w.output=l.w.output)(hn:1<=n)(hs:n+R<1000) (hA:∀g ib qb ci cq C ba bi P,l.w.heap.size<=ba->IN (mA M E.size n R kd f g ib qb ci cq C ba bi P qX l)/\IP (mA M E.size n R kd f g ib qb ci cq C ba bi P qX l)) (hJ:∀IU F X C p m c,zU IU F X->ic X->Kw M R kd l C (Æ p m c) X->fA Ä Ó (J IU F) X (G (cf.at (a.put ((Q[i]?).bind (·.dst))<|ñ #[Æ (Â ⟨C,0,Á⟩) R R,Æ p m c])<|Ï Q jJ::L) o)): ∃N IU F T kO Mh gs' B xh t',Η Ä N (Ķ E w I) qJ=(.next<|Ķ gs' B xh,t')/\(B.os=l.w.os/\B.output=l.w.output)/\vV Ä IU F (J IU F) T kO Mh gs' B t':=by
 let⟨g,ib,qb,ci,cq,C,ba,bi,P,⟨b1,b2,b3,b4⟩,N,Y,F,kO,Mh,gs',B,xh,t',g',r,z1,z2,z3,z4,z5,z6,z7,cY,t⟩:=amv c I s Qm hq hd W.fh hV uL Gs Bb hn hs hA;let⟨st,slv,V,K7,Wg,Qs,Qt⟩:=t.CM;obtain⟨⟨sp,sm,sc,rfl⟩,hVo⟩:=amB _ _ _ _ Qs;obtain⟨ts,uN,rfl⟩:=t.kt;have hH:=W.fh;have abH:=λb q=>s.fG b<|Ã q;have free:∀b,(l.O b\/l.w.heap.size<=b)->b<B.heap.size->b≠P->(Wh (λe=>ky e\/∃x:ã,e=Ā x/\x.block=P) B).O b:=λb hb iy nD=>by
  refine⟨iy,λx hx=> ?_⟩;rintro(q|⟨y,j,q2⟩)
  .rcases hb with hb|hb
   .exact W.fD b hb x hx q
   .have:=W.ja x q;omega
  .injection j with j;subst j;omega
 have D3:=λb q=>by have h:=t.ja b q;have h2:=abH b q;rw[è h2]at h;exact(æ.1 h).1
 have keep:=λb q=>free b (Ã q) (D3 b q) (by have:=abH b q;omega);have Qu:=free C (Ç b1) t.fG.1 t.ne.1;have amC:=free ba (Ç b2) t.fG.2.1 t.ne.2.1;have hOg:=free _ (Ç<|b4 _<|Û _) t.fG.2.2 t.ne.2.2;have amD:fA Ä Ó (J (λe=>ky e\/∃x:ã,e=Ā x/\x.block=P) F) (Wh (λe=>ky e\/∃x:ã,e=Ā x/\x.block=P) B) (IK ts qX):=by
  rw[Ck];refine alX (abG _ _) (λq=>q) uN (Ã amC) (Ã<|Ã hOg) t.yv Wg λX h=> ?_;refine hJ (λe=>ky e\/∃x:ã,e=Ā x/\x.block=P) F X C sp sm sc ⟨λx q=> ?_,λb q x hx=> ?_,Ø z3 h.fh⟩ (h.gk<|abG _ _) ⟨λb q=>⟨h.O b<|keep b q,(h.fu b (Ã<|keep b q) id).trans<|t.ja b q⟩,⟨h.O C Qu,λp hp=> ?_⟩,⟨st,V,amz K7,uL _ _ _ _ _ Qs λb q=>h.fu b (Ã<|free b (hVo b q) (Qt b q).1 (Qt b q).2) id,λb q=>h.O b<|free b (hVo b q) (Qt b q).1 (Qt b q).2⟩,h.d,?_,λb q=> ?_,⟨λa q=> ?_,λa q=> ?_,λa q=> ?_⟩,⟨(iF<|h.fu C (Ã Qu) id).trans t.kJ.1,(zv<|h.fu C (Ã Qu) id).trans t.kJ.2⟩⟩
  .rcases q with q|⟨y,j,q2⟩
   .exact È (W.ja x q) z5
   .injection j with j;subst j;omega
  .rcases h.fN b q with q|q
   .exact q.2 x hx
   .have e:B.heap.size<=b:=q;rintro(z|⟨y,z1,z2⟩)
    .have:=W.ja x z;omega
    .injection z1 with z1;subst z1;omega
  .refine(iF<|h.fu C (Ã Qu) id).trans ?_;by_cases hk:kd p=1
   .have hm:p∈jq kd R:=Ć.2 ⟨ù.2 hp,by simpa using hk⟩;let⟨j,y⟩:=ı hm;have yA:=(Ğ.1 y).1;have e:=Ô<|(Gq yA).symm.trans y;have:=t.lO (j+1) Z (show j+1<=gD kd R from yA);have e2:(jq kd R).getD (j+1-1) 0=p:=e;simp only[mA,Qj,e2]at this;exact this
   .have hm:p∈kN kd R:=Ć.2 ⟨ù.2 hp,by simpa using hk⟩;let⟨j,y⟩:=ı hm;have yA:=(Ğ.1 y).1;have e:=Ô<|(Gq yA).symm.trans y;have:=t.V7 j yA;simp only[mA,Qj,e]at this;exact this
  .rw[h.q];exact id
  .rw[h.Rd]at q;exact q
  .rw[h.Oc]at q;exact q
  .rw[h.Rc]at q;exact q
  .rw[h.K]at q;exact q
 let⟨T,e⟩:=ku amD;exact⟨N,_,F,T,kO,_,gs',B,xh,t',r,t.io,cY.abx z6 z2 z7 U U id (λ_=>id) (λ_=>id) (λ_=>id) (λ_=>id) (λb q=>q) e⟩
end
end Go.Proofs.Y.fK
namespace Go.Proofs.Y.fK
open Go Go.Conc Go.Proofs.Y.Lift Go.RowKit Go.Conc.Lib Go.ConcR.Gen
open Go.Proofs Go.Proofs.YtgpphkdoanciiaaGreatDoor
def tN(V:Nat->Prop)(base:Nat):fE:=⟨λi j=>i=j/\V i,base⟩
def amE(V:Nat->Prop)(base:Nat):Bi (tN V base):= ⟨λ_ _ _ h k=>h.1.symm.trans k.1,λ_ _ _ h k=>h.1.trans k.1.symm,λi j h=>by rw[h.1]⟩
def nI(j:Nat):Bool:=j==3||j==4
def yB(c:Array Ð):Array Ð:=c.extract 0 16
def amF(c:Array Ð):(yB c).size=min 16 c.size:=by simp[yB]
open Classical in
noncomputable def sG (a:Nat->Prop) (j:Nat):Θ->Θ
 |Ê c e b=>if a j then(if nI j=Ó then Ê (yB c) e (0,(yB c).size)else Ê c e (0,c.size))else Ê c e b
 |_=>Ê #[] 0
noncomputable def nn (Sh:Nat->Prop) (w:Þ):Þ:={w with heap:=w.heap.mapIdx (sG Sh)}
section
variable{V Sh:Nat->Prop}{base:Nat}
def IV(j:Nat):(nn Sh w).heap[j]?=(w.heap[j]?).map (sG Sh j):=by simp[nn,Array.getElem?_mapIdx]
def abI:lN (nn Sh w):=λi o h=>by
 rw[IV]at h;obtain⟨x,_,rfl⟩:=Ī.1 h;cases x<;>simp only[sG]<;>try exact id
 split
 .split<;>exact id
 .exact id
structure Qv(V Sh:Nat->Prop)(base:Nat)(w:Þ):Prop where
 kt:∀b,V b->∃c e fr,w.heap[b]?=Â (Ê c e fr)/\fr.2<=c.size/\gA (tN V base) c c/\(Sh b->0<c.size/\(nI b=Ó->(e=304\/e=305)/\fr.2<=16)/\(nI b=Í->Hh c))
 fG:base<=w.heap.size
def amG(h:Qv V Sh base w):vf (tN V base) Sh (nn Sh w) w:=by
 refine⟨U,U,amE V base,by show base<=(w.heap.mapIdx<|sG Sh).size;rw[Array.size_mapIdx];exact h.fG,h.fG,λi j o=> ?_⟩;obtain⟨rfl,p⟩:=o;let⟨c,e,a,b,l,f,r⟩:=h.kt i p;have g:(nn Sh w).heap[i]?=Â (sG Sh i<|Ê c e a):=by rw[IV,b];rfl
 by_cases s:Sh i
 .let⟨t,u,v⟩:=r s;cases d:nI i with
  |true=>
   let⟨x,y⟩:=u d;have z:=amF c;have m:J8 e (yB c).size:=⟨x,Z⟩;refine⟨yB c,c,e,(0,(yB c).size),a,?_,b,⟨λk B n=> ?_,Z,Ç ⟨s,m⟩⟩,λ_=>⟨U,Û _,by show a.2<=(yB c).size;omega,Z,Ç m⟩,λq=>absurd s q,Û _⟩
   .show(nn Sh w).heap[i]?=_;rw[g];simp[sG,s,d]
   .have:(yB c)[k]=c[k]:=by simp[yB]
    rw[this];exact f.kt k n n
  |false=>
   refine⟨c,c,e,(0,c.size),a,?_,b,rX.of f,λ_=>⟨U,Û _,l,t,Ã<|v d⟩,λq=>absurd s q,Û _⟩;rw[g];simp[sG,s,d]
 .refine⟨c,c,e,a,a,?_,b,rX.of f,λq=>absurd q s,λ_=>rfl,l⟩;rw[g];simp[sG,s]
end
section
variable{a:Nat->Prop}{l:fj}{V:Nat->Prop}
def IW(B:qg P)(C:se P a X)(hF:xI P X)(D:AA vQ){k:Array Ð}(E:X F)(H:P.funcs[F]?=Â s)(I:s.body=Â wX)(r:ic l)(J:¬l.q) (n:∀b,V b->l.M b) (K:Qv V (λj=>V j/\¬l.O j) P.globals.size l.w) (L:∀g,a g->V g) (N:gA (tN V P.globals.size) k k) (Q:∀T,Calls P F k (World.tp (nn (λj=>V j/\¬l.O j) l.w) T 0) fun|.returned v,e=>vQ v e/\lN e|_,_=>False) (t:Bool) (o:ç) (p:List ç): fA P t (λh u=>∃(ρ:fE) (e:Þ) (v m:Ð),(tN V P.globals.size).le ρ/\vf ρ (λj=>V j/\¬l.O j) e h.w/\fy ρ v m/\vQ v e/\u=G (o.finish m) p/\(∀i j,ρ i j->h.M j/\(V j\/l.O j\/l.w.heap.size<=j))/\(∀j,l.O j->h.O j)/\h.d=l.d) l (G (Ĉ P F k ĥ)<|o::p):=by
 have W:=aha B C hF D E H I abI Q (ρ:=tN V P.globals.size) U (λg q=>⟨U,L g q⟩) N (amG K) (λj q=>r.fG j<|n j q.1) (λi j _ q=>(n j q.1).resolve_left q.2) t o p;refine(ah7 W l U (λj q=> ?_) (λ_ q=>q) (λj q=>r.fG j<|Ã q) J).ft ?_
 .obtain⟨⟨i,rfl,y⟩,x⟩:=q;exact Classical.byContradiction λz=>x ⟨y,z⟩
 .rintro h u ⟨O',⟨ρ,e,v,m,Y,rfl,q2,q3,q4,q5⟩,x,h3,h4,h5,h6,h7,h8,h9,h10,h11,h12⟩;refine⟨ρ,e,v,m,Y,q2,q3,q4,q5,λi j Wi=> ?_,h4,h10⟩;by_cases z:V j/\¬l.O j
  .exact⟨Ç (by rw[h7];exact(n j z.1).resolve_left z.2),Ã z.1⟩
  .have y:=h3 j ⟨⟨i,Wi⟩,z⟩;exact⟨Ã y,Ç<|h6 j y⟩
end
section
variable{l:fj}{V GL:Nat->Prop}
def IX(s:ic l):ic (oB l):=by
 refine⟨λ_ h=>h.elim,λ_ h=>h.elim,λa c d=> ?_,λb d=> ?_,λa c=> ?_,λa c=> ?_⟩
 .exact s.fX a (c.resolve_left id)<|d.resolve_left id
 .exact s.fG b<|d.resolve_left id
 .exact s.nK a<|c.resolve_left id
 .exact⟨λq=>(s.k9 a c).1<|q.resolve_left id,(s.k9 a c).2.1,id⟩
structure IY(GL:Nat->Prop)(f:ł)(args:Array Ð)(l:fj)(V:Nat->Prop)(mZ:Ð->Þ->Prop):Prop where
 Wj:∀b,V b->l.M b
 Wk:Qv V V Ä.globals.size l.w
 gl:∀g,GL g->V g
 Wl:gA (tN V Ä.globals.size) args args
 zq:∀T,Calls Ä f args (World.tp (nn V l.w) T 0) fun|.returned v,u'=>mZ v u'/\lN u'|_,_=>False
def amH(m:qg Ä)(n:se Ä GL X)(hF:xI Ä X)(e:X 67){D:SD}(h:∀i s d W l,i<D.q->pP (D.ph Ä) (D.gq i) s->D.RD s d W l.w->(∀b,W b->l.M b)->ic l->¬l.q->(∀b,D.RB b->l.M b)->D.RC l.w->∃V,IY GL 67 #[d,À<|D.IL i] l V λv _=>v=á (D.wV i)):IP D:=by
 intro i s d W l o p r t f g x y z B;let⟨V,a⟩:=h i s d W l o p r t f g x y;let⟨G,c,C,E⟩:=hF 67 e;have k:(λj=>V j/\¬(oB l).O j)=V:=by funext j;exact propext ⟨λq=>q.1,λq=>⟨q,id⟩⟩
 refine(IW m n hF (λv u T D h=>h) e C E (IX f) g (λb q=>Ç<|a.Wj b q) (by rw[k];exact a.Wk) a.gl a.Wl (by rw[k];exact a.zq) Í z B).ft ?_;rintro H I ⟨ρ,J,v,K,_,_,j,u,T,_,_,F⟩;subst u;cases j;exact⟨F,T⟩
def amI(Q:qg Ä)(Y:se Ä GL X)(hF:xI Ä X)(E:X 66){D:SD}(Rg:D.γ->Ð->Þ->Prop)(hRg:∀s d u T n,Rg s d u->Rg s d (World.tp u T n)) (h:∀k s d W l,k<D.m->pP (D.ph Ä) k s->D.RD s d W l.w->(∀b,W b->l.M b)->ic l->¬l.q->(∀b,D.RB b->l.M b)->D.RC l.w->∃V,IY GL 66 #[d,À<|D.Qe<|k+1] l V (λv u=>∃p n c a,v=ñ #[Æ p n c,á<|D.vn<|k+1]/\D.uu k s a/\Rg a (Æ p n c) u)/\ ∀ρ Sh u w a d F,vf ρ Sh u w->fy ρ d F->Rg a d u->(∀i j,ρ i j->V j\/l.w.heap.size<=j)->∃e,D.RD a F e w/\∀b,e b->∃i,ρ i b):IN D:=by
 intro k s d W l hk hr uL hW G H hRB hRC cl nZ;let⟨V,f,tr⟩:=h k s d W l hk hr uL hW G H hRB hRC;let⟨fn,c,hf,g⟩:=hF 66 E;have I:(λj=>V j/\¬(oB l).O j)=V:=by funext j;exact propext ⟨λq=>q.1,λq=>⟨q,id⟩⟩
 refine(IW Q Y hF (λv u T D h=> ?_) E hf g (IX G) H (λb q=>Ç<|f.Wj b q) (by rw[I];exact f.Wk) f.gl f.Wl (by rw[I];exact f.zq) Í cl nZ).ft ?_
 .let⟨p,n,c,a,t,o,r⟩:=h;exact⟨p,n,c,a,t,o,hRg _ _ _ _ _ r⟩
 .rintro l' g' ⟨ρ,u',v,v',_,q2,q3,⟨p,n,c,a,rfl,o,r⟩,J,t,_,K⟩;cases q3 with
  |@qe _ cs'' hs pT=>
   let⟨ls⟩:=cs'';match ls,hs with
   |[x,y],_=>
    have B:=pT 0 fB fB;have L:=pT 1 fB fB;simp at B L;cases L;let⟨e,N,P⟩:=tr ρ _ u' l'.w a _ x q2 B r λi j Wi=>(t i j Wi).2.imp id λz=>z.resolve_left id;cases B with
    |qd=>exact⟨K,Á,n,c,J,a,e,o,N,λb g=>by let⟨i,C⟩:=P b g;exact(t i b C).1⟩
    |mP=>exact⟨K,_,n,c,J,a,e,o,N,λb g=>by let⟨i,C⟩:=P b g;exact(t i b C).1⟩
end
end Go.Proofs.Y.fK
namespace Go.Proofs.Y.Lift
open Go
def IZ(a:Nat->Bool):Į->Bool
 |ò (Ě cs)=>cs.toList.all BX
 |ò (ñ cs)=>cs.toList.all BX
 |x=>AB a x
def abJ(a:Nat->Bool)(x:Į):IZ a x=AB a x:=by
 cases x with
 |const v=>cases v<;>simp[IZ,AB,Ti,Ĥ]
 |_=>rfl
def Qw(P:Ġ)(a:Nat->Bool)(b c:ł->Bool)(o:å):Bool:=(Hs P b o.op&&o.op.operands.toList.all (IZ a))||(Tz P c o.op&&o.op.operands.toList.all (IZ a))
def Qx(a:Nat->Bool)(b c:ł->Bool)(o:å):Qw P a b c o=Hu P a b c o:=by have:(IZ a)=AB a:=funext<|abJ a;simp[Qw,Hu,Tq,this,Ĥ]
def uO(P:Ġ)(a:Nat->Bool)(b d:ł->Bool):ġ->Bool
 |ς|Ř|.label _|ř _|.goto _=>Ó
 |.seq x y=>uO P a b d x&&uO P a b d y
 |ŗ c x y=>IZ a c&&uO P a b d x&&uO P a b d y
 |Ħ _ c|.loop c|.scope c=>uO P a b d c
 |ß _ c _=>c.toList.all<|Qw P a b d
 |.refuse _=>Ó
 |_=>Í
def CP(a:Nat->Bool)(b d:ł->Bool):∀c:ġ,uO P a b d c=qj P a b d c
 |ς|Ř|.label _|ř _|.goto _|.refuse _|.rangeFunc _ _ _ _=>rfl
 |.seq x y=>by simp only[uO,qj,CP a b d x,CP a b d y]
 |ŗ c x y=>by simp only[uO,qj,abJ,CP a b d x,CP a b d y]
 |Ħ _ c|.loop c|.scope c=>by simp only[uO,qj,CP a b d c]
 |ß _ x _=>by have:Qw P a b d=Hu P a b d:=funext<|Qx a b d;simp only[uO,qj,this,Ĥ]
end Go.Proofs.Y.Lift
namespace Go.Proofs.Y.fK
open Go Go.Conc Go.Proofs.Y.Lift Go.RowKit Go.Conc.Lib Go.ConcR.Gen
open Go.Proofs Go.Proofs.YtgpphkdoanciiaaGreatDoor
def fsL:List Nat:=[35,38,44,54,55,56,60,66,67,78,79,103,113,114,115,116,117,118,119,120,121,122,123,124,125,126,153,154,155,156,157,158,159,160,161,162,168,169,170,171,172,173,174,175,176,177,178,186,187,188,189,190,191,192,193,194,196,197,198,199,200,201,202,203,204,205,206,207,208,209,210,211]
def Be(g:Nat):Bool:=[1,2,3,4].contains g
def Bf(f:Nat):Bool:=fsL.contains f
def CQ(f:Nat):Bool:=[129,130].contains f
def Gu(P:Ġ)(f:Nat):Bool:=match P.funcs[f]? with
 |some a=>match a.body with
  |some c=>uO P Be Bf CQ c
  |none=>Í
 |none=>Í
def amJ:fsL.all (Gu Ä)=Ó:=by rfl
def abK(h:Bf i=Ó):Gu Ä i=Ó:=(ŕ.1 amJ) i<|by simpa[Bf]using h
def amK(h:Gu P i=Ó):∃a c,P.funcs[i]?=Â a/\a.body=Â c:=by
 unfold Gu at h;split at h
 .rename_i a b;split at h
  .rename_i c d;exact⟨a,c,b,d⟩
  .cases h
 .cases h
def amL(h:Gu P i=Ó)(a:P.funcs[i]?=Â s)(b:s.body=Â wX):uO P Be Bf CQ wX=Ó:=by unfold Gu at h;rw[a]at h;simp only[b]at h;exact h
def abL:xI Ä (λf=>Bf f=Ó):=λ_ h=>amK<|abK h
def amM[Dx P](h:∀f,Bf f=Ó->Gu P f=Ó)(a:KB P CQ):se P (λg=>Be g=Ó) (λf=>Bf f=Ó):=λf g e c b d=>by have:=amL (h f g) b d;rw[CP]at this;exact zu a this
instance avz:Dx Ä:=⟨λe n h=>by
 have h1:Ä.cellsOf 304=32:=fF
 have h2:Ä.cellsOf 305=64:=fF
 obtain⟨rfl|rfl,h3⟩:=h
 .rw[h1];omega
 .rw[h2];omega⟩
def amN(a:KB Ä CQ):se Ä (λg=>Be g=Ó) (λf=>Bf f=Ó):=amM (λ_ h=>abK h) a
def I0:KB Ä CQ:=λf h=>by
 have:f=129\/f=130:=by simpa[CQ]using h
 rcases this with rfl|rfl
 .exact⟨_,Extern.AbiNoEscape.same,Tryz.func129,gG,gG,gG,gG,λ_ v a h=>ahy v a h,ahz⟩
 .exact⟨_,Extern.BytealgMakeNoZero.makeNoZero #[3] #[107],Tryz.func130,gG,gG,gG,gG,λ_ v a h=>ahA #[3] 107 v a h,ahB #[3] 107⟩
def abM:se Ä (λg=>Be g=Ó) (λf=>Bf f=Ó):=amN I0
end Go.Proofs.Y.fK
namespace Go.Proofs.Y.Lift
open Go Go.Conc
section
variable{ρ:fE}{b:ł->Prop}
def amO{e:Array Ð->Sem Ð}{y:Į}{C:Array Ž}(d:o.op=Ď {callee:=ü<|ċ F,args:=#[qQ,y],argTypes:=C})(i:P.funcs[F]?=Â s)(j:(s.name== "runtime.NumGoroutine")=Í)(k:s.body.isNone=Ó)(l:Extern.findNext s=Á)(m:Extern.find s=Â e) (D:∀(ρ:fE) (v q z r:Ð),fy ρ v q->fy ρ z r->fT P fy ρ (e #[v,z]) (e #[q,r])) (E:∀v z,fP P<|e #[v,z]) (G:∀y∈o.op.operands,oN X y):pn P X b o:=by
 have c:∀a:Ů,đ a.eval o=ŭ F #[a.eval qQ,a.eval y]:=by intro a;unfold đ;rw[d];simp only[Ο,ę,Ģ,invoke,pure_bind,Array.empty_append,Array.append_empty,List.map_toArray,List.map_cons,List.map_nil]
 have t:∀(v z:Ð) (u:Þ),(ŭ F #[v,z]).run P u=(mark (.extern F)>>=λ_=>e #[v,z]>>=λy=>pure (Next.value y):Sem Next).run P u:=by intro v z u;unfold ŭ;rw[ō,run_program];simp only[Result.andThen_ok,i,j,k,l,m,ĝ,if_false,if_true]
 refine Z6 (λρ a w _ _ _ h=> ?_) (λa=> ?_) (λa u n H g=> ?_) G
 .rw[c,c];have I:=h qQ (by rw[d];simp[Ś,Call.operands]);have J:=h y (by rw[d];simp[Ś,Call.operands]);unfold ŭ;refine .gd (fR uZ ?_);rintro M p N w ⟨K,L⟩;rw[K,L];simp only[i,j,k,l,m,ĝ,if_false,if_true];apply fR (V:=kC) (.Hg (Ç ⟨F,U⟩) (.fQ U));intro O _ _ B _;exact pj<|D _ _ _ _ _ ((I.ft w).ft B)<|(J.ft w).ft B
 .rw[c];exact NN (t _ _)<|gW (Kq _) λ_=>n9<|E _ _
 .rw[c,t,ō]at g;simp only[mark,φ,Result.andThen_ok]at g;have:φ P (e #[a.eval qQ,a.eval y]>>=λy=>pure (Next.value y):Sem Next) u=.ok n H:=g;rw[ō]at this;cases h:(e #[a.eval qQ,a.eval y]).run P u with
  |ok v w=>rw[h]at this;cases this;exact⟨v,U⟩
  |halt z w=>rw[h]at this;cases this
def abN:∀(n:Nat) {ρ:fE} {a b:ã} (c:ByteArray),iZ ρ a b->fT P kC ρ (ô a n c) (ô b n c)
 |0,_,_,_,_,_=> .fQ U
 |n+1,ρ,a,b,c,h=>by
  unfold ô;refine fR (NA h) ?_;intro f v g d e;cases e<;>first|exact .gB|skip
  rename_i k z;cases k<;>first|exact .gB|skip
  exact abN n _<|(h.ft d).iX 1
def abO:∀(n:Nat) (a:ã) (b:ByteArray),fP P<|ô a n b
 |0,_,_=>ij _
 |n+1,a,b=>by
  unfold ô;refine gW (Kr _ _) λv=> ?_;split
  .exact abO n _ _
  .exact kg _
def amP(h:fy ρ v x):fT P kC ρ (ÿ v) (ÿ x):=by
 cases h<;>first|exact .gB|exact .fQ U|skip
 exact abN _ _<|by assumption
def amQ(v:Ð):fP P (ÿ v):=by
 unfold ÿ;split
 .exact ij _
 .exact ij _
 .exact abO _ _ _
 .exact kg _
def amR(h:fy ρ v x):fT P kC ρ (Ă v) (Ă x):=by
 cases h<;>first|exact .gB|skip
 rename_i k z;cases k<;>first|exact .gB|exact .fQ U
def amS(v:Ð):fP P (Ă v):=by
 unfold Ă;split
 .exact ij _
 .exact kg _
def amT(v a z b:Ð)(h:fy ρ v a)(k:fy ρ z b):fT P fy ρ (õ #[v,z]) (õ #[a,b]):=by
 apply fR (amP h);rintro j s d e f;obtain rfl:s=d:=f;apply fR (amR<|k.ft e);rintro l c g m i;obtain rfl:c=g:=i;split
 .exact .fQ (.iL _ _)
 .exact .fQ (.iL _ _)
def amU(v z:Ð):fP P (õ #[v,z]):=by
 refine gW (amQ v) λs=>gW (amS z) λc=> ?_;split
 .exact ij _
 .exact ij _
end
end Go.Proofs.Y.Lift
namespace Go.Proofs.Y.fK
open Go Go.Conc Go.Proofs.Y.Lift
open Go.Proofs Go.Proofs.YtgpphkdoanciiaaGreatDoor
def Wm:List Nat:=[16,18,21,23,24,25,28,29,30,31,35,44,60,38,54,55,56,78,79,36,45,61,94,95,96,97,98,99,100,101,102,103,104,145,146,147,148,149]
def Mi(f:Nat):Bool:=Wm.contains f||f==167
def Qy(_:Nat):Bool:=Í
def Qz(P:Ġ)(f:Nat):Bool:=match P.funcs[f]? with
 |some a=>match a.body with
  |some c=>uO P Qy Mi CQ c
  |none=>Í
 |none=>Í
def amV:Wm.all (Qz Ä)=Ó:=by rfl
def abP(h:Wm.contains i=Ó):Qz Ä i=Ó:=(ŕ.1 amV) i<|by simpa using h
def abQ(h:Qz P i=Ó):∃a c,P.funcs[i]?=Â a/\a.body=Â c/\uO P Qy Mi CQ c=Ó:=by
 unfold Qz at h;split at h
 .rename_i a b;split at h
  .rename_i c d;exact⟨a,c,b,d,h⟩
  .cases h
 .cases h
def CR:xI Ä (λf=>Mi f=Ó):=λf h=>by
 rcases ĵ.1 h with q|q
 .let⟨a,c,b,d,_⟩:=abQ<|abP q;exact⟨a,c,b,d⟩
 .rw[beq_iff_eq]at q;subst q;exact⟨_,_,ż,U⟩
def amW(h:ε.body=Â wX):mF Ä (λg=>Qy g=Ó) (λf=>Mi f=Ó) wX:=by
 unfold ε at h;cases h;refine .va (zu I0<|by rw[<-CP];rfl) (.va (.xH _ _ λo f=> ?_) .ri);simp only[List.mem_toArray,List.mem_cons,List.not_mem_nil,or_false]at f;rcases f with rfl|rfl|rfl|rfl
 .exact Ol I0<|by rw[<-Qx];rfl
 .exact Ol I0<|by rw[<-Qx];rfl
 .exact amO U Tryz.func185 gG gG gG gG (λ_ v g z o=>amT v g z o) amU λy g=>Od (by simp[Ś,Call.operands]at g;rcases g with rfl|rfl|rfl<;>rfl)
 .exact Ol I0<|by rw[<-Qx];rfl
def QA:se Ä (λg=>Qy g=Ó) (λf=>Mi f=Ó):=λf h i c g a=>by
 rcases ĵ.1 h with q|q
 .let⟨j,k,b,d,e⟩:=abQ<|abP q;rw[g]at b;cases b;rw[a]at d;cases d;rw[CP]at e;exact zu I0 e
 .rw[beq_iff_eq]at q;subst q;rw[ż]at g;cases g;exact amW a
end Go.Proofs.Y.fK
