import Derived.Test.YtgpphkdoanciiaaGreatDoorWAB
import Derived.Conc.AppendWalk
import Derived.Conc.TokenWalk
set_option linter.all false
set_option maxRecDepth 1000000
set_option maxHeartbeats 8000000
open Go.Value renaming pointer->À,slice->Æ,int->É,oneCell'->Ú,string->á,chan->é,tuple->ñ,func->ď,agg->Ě,bool->ĭ,cells->Δ
open Option renaming none->Á,some->Â,isSome_iff_exists->Ö,map_eq_some_iff->Ī,isSome_none->Ľ,getD_some->ő
open Or renaming inl->Ã,inr->Ç
open Go.Proofs.Tryz renaming prog->Ä,t155->Ċ,f46->ģ,t9->ĩ,func47->į,underlying101->ŀ,type155->Ň,underlying85->ň,underlying25->ŉ,f52->Ū,func167->ź,func63->Ž,func48->ž,func49->ſ,func50->Α,func51->Β,func46->Γ,func52->Ε,t101->Χ,f167->ε,f49->ι,f63->κ,f47->ν
open Go renaming undef->Å,Value->Ð,World->Þ,Goroutine->à,events_store->â,Addr->ã,Oper->å,getD_set_ne->è,Frame->ê,deafBehind->Đ,execOp->đ,Program->Ġ,Code->ġ,Operand->Į,FuncId->ł,Act->Š,maxLen->ŧ,size_madeCells->ŭ,callFunc->Ů,yielded->ŷ,TypeId->Ż,Item->ż,runNT->Ζ,Obj->Η,Trace->Λ,TypeInfo->Μ,Event->Ν,resolve->Ξ,Loc->ξ
open Nat renaming lt_of_lt_of_le->È,le_trans->Ø,le_refl->Û,add_sub_cancel->ú,zero_le->ĉ,zero_add->Ė,mod_lt->Ł,lt_succ_of_lt->Ń,le_of_lt->Ō,reduceAdd->Ű,sub_zero->Ÿ,sub_self->Ź
open Go.Obj renaming cells->Ê,chan->ũ
open Go.Conc.Goes renaming stop->Ë
open Go.Ground renaming phase->Ì,data->Õ,textOnly->Ý,gcOnly->ø,chain->Ŷ
open Bool renaming false->Í,true->Ó,false_eq_true->ĝ,or_eq_true_iff->ĵ
open Go.IntKind renaming i64->Î,u64->ì,u32->û,wrap_i64->Υ
open Go.Item renaming inRegion->Ï,inBlock->ï,code->ö,inLoop->ā
open Go.Departure renaming lateStores->Ñ
open Go.Operand renaming tmp->Ò,const->ò,func->ċ
open Option.some renaming inj->Ô
open Go.World renaming cell?->Ù,frozen?->ð,setCell->Ą,alloc->Ŗ
open Go.Region renaming ready->Ü,Mode->ă,wanted->ğ
open Go.Code renaming region->ß,block->Ħ,cond->ŗ,skip->Ř,exit->ř,ret->ς
open List renaming range->ä,mem_range->ù,range_succ->ą,mem_filter->Ć,filter_append->ć,flatMap_cons->Č,setIfInBounds_toArray->Ĝ,getElem?_eq_some_iff->Ğ,length_filter_le->Ĭ,mem_of_getElem?->İ,getElem?_of_mem->ı,flatMap_append->Ĵ,set_cons_succ->ľ,set_cons_zero->Ŀ,size_toArray->ņ,length_cons->Œ,nodup_range->Ŕ,all_eq_true->ŕ,length_nil->Ŝ
open Array renaming getElem?_eq_some_iff->æ,getElem?_eq_getElem->ç,getElem?_modify->î,getD_eq_getD_getElem?->ė,all_toList->Ĥ
open Go.Op renaming fieldAddr->ë,move->ý,load->č,call->Ď,nilCheck->ĕ,assign->ĳ,binOp->ń,operands->Ś,extract->š,indexAddr->Ţ,makeFunc->Ų,store->ŵ
open Go.Region.linearise renaming go->í
open Go.MemAct renaming ofEvent->ó
open Go.Extern.Bytes renaming loadBytes->ô,bytesOf->ÿ,asByte->Ă
open Go.Extern.BytealgIndexByte renaming indexByte->õ
open Go.Callee renaming value->ü,builtin->Ũ
open Go.Fn renaming func->þ
open Go.Loc renaming cell->Ā
open Go.Frame renaming enter->Ĉ,finish_at->ī
open Go.Instr renaming build->Ē,makeSlice->ş
open Go.GoStatus renaming running->ē,finished->ų
open Go.Conc renaming mem_ofEvents->Ĕ,mem_listed->ě,seen_none->Ĳ,crowd->Ķ,stepG_region->Ņ,events_call_body->ŏ,stepG_semrelease->Ő,deafBehind_still->œ,listed->ū,handedOver_app->Ŭ,stepG_seq->ű,stepG_comm->Κ
open Go.ConcR.Gen renaming x_semrelease_b->Ę,x_enable_n->Ĺ,x_enable_b->ĺ,x_enable_x->Ļ,x_enable_f->ļ,x_semrelease_n->Ť,x_semrelease_x->ť,x_semrelease_f->Ŧ,mayWake_entry->ů,nm_add->Ι
open Go.Act renaming eval->ę,put->π
open Go.Deferred renaming ofValue->Ģ
open Go.CallKind renaming normal->ĥ,early->Θ
open Go.Mark renaming enable->ħ
open Go.Addr renaming add_lit->Ĩ
open Eq renaming trans->Ŋ
open Go.Sem renaming run_bind->ō,events_bind->Ş,run->φ
variable{i n j b k m J j9 j7 j6:Nat}{w u W jX:Þ}{v x z jQ:Ð}{g:à}{a p:ã}{h c:Int}{e t T:Ż}{d q:Array Ð}{P:Ġ}{y:Š}{B:ByteArray}{X:Nat->Prop}{O:Option ã}{l:List Ð}{yQ:Bool}{K H:Š->Þ->Prop}{o:å}{D:Nat->Nat}{E:Array à}{L:List ż}{jJ:List Nat}{qX:List ê}{qQ:Į}{qJ:Λ}{zX:ξ->Prop}{zQ:List Int}{zJ:Μ}{xX:Į->Ð}{xQ:Go.Tape}{xJ:Nat×Nat}{wX:ġ}{wQ:Go.MemOp}{wJ:Array Bool}{vX:List ByteArray}{vQ:Ð->Þ->Prop}{vJ:Go.Exit->Š->Þ->Prop}{yX:ă}{Q:Array å}{f:ê}{V:Array Ν}{F:ł}{s:Go.Func}
namespace Go.Proofs.Y.fD
open Go Go.Conc Go.Proofs.Y.Lift Go.RowKit Go.Conc.Lib Go.ConcR.Gen
open Go.Proofs Go.Proofs.YtgpphkdoanciiaaGreatDoor
def HL:å:=⟨Â 13,ë 155 (Ò 5) 3,0, "work.go:57",#[],Á⟩
def EL:å:=⟨Â 14,č 86<|Ò 13,86, "work.go:57",#[⟨0,Õ⟩],Á⟩
def HM:å:=⟨Â 15,ý<|Ò 1,25, "work.go:57",#[{on:=18,ground:=ø Ñ}],Á⟩
def HN:å:=⟨Â 16,ë 155 (Ò 5) 1,0, "work.go:57",#[{on:=18,ground:=ø Ñ}],Á⟩
def EM:å:=⟨Â 17,č 3<|Ò 16,3, "work.go:57",#[⟨3,Õ⟩,{on:=18,ground:=ø Ñ}],Á⟩
def HO:å:=⟨Â 18,ë 155 (Ò 5) 2,0, "work.go:57",#[],Á⟩
def EN:å:=⟨Â 19,č 86<|Ò 18,86, "work.go:57",#[⟨5,Õ⟩],Á⟩
def EO:å:=⟨Â 20,ĕ<|Ò 19,0, "work.go:57",#[⟨6,Õ⟩],Á⟩
def EP:å:=⟨Â 21,ë 105 (Ò 20) 1,0, "work.go:57",#[⟨7,Õ⟩],Á⟩
def ER:å:=⟨Â 22,č 65<|Ò 21,65, "work.go:57",#[⟨8,Õ⟩],Á⟩
def HP:å:=⟨Â 23,ë 155 (Ò 5) 0,0, "work.go:57",#[],Á⟩
def ES:å:=⟨Â 24,č 148<|Ò 23,148, "work.go:57",#[⟨10,Õ⟩],Á⟩
def Ck:å:=⟨Â 25,Ď {callee:=ü<|ċ 66,args:=#[Ò 22,Ò 24],argTypes:=#[65,148]},163, "work.go:57",#[⟨9,Õ⟩,⟨11,Õ⟩],Á⟩
def vD:å:=⟨Â 12,ý<|Ò 25,163, "work.go:57",#[⟨12,Õ⟩],Á⟩
def Cl:å:=⟨Â 26,š (Ò 12) 0,65, "work.go:57",#[⟨13,Õ⟩],Á⟩
def Cm:å:=⟨Â 27,š (Ò 12) 1,9, "work.go:57",#[⟨13,Õ⟩,{on:=18,ground:=ø Ñ}],Á⟩
def EU:å:=⟨Â 28,ĕ<|Ò 14,0, "work.go:57",#[⟨1,Õ⟩,⟨0,Ì⟩,⟨1,Ì⟩,{on:=2,ground:=Ý Ñ},{on:=3,ground:=Ý Ñ},{on:=4,ground:=Ý Ñ},⟨5,Ì⟩,⟨6,Ì⟩,⟨7,Ì⟩,⟨8,Ì⟩,⟨9,Ì⟩,⟨10,Ì⟩,⟨11,Ì⟩,⟨12,Ì⟩,⟨13,Ì⟩,⟨14,Ì⟩,{on:=15,ground:=Ý Ñ}],Á⟩
def EV:å:=⟨Â 29,ë 105 (Ò 28) 1,0, "work.go:57",#[⟨16,Õ⟩,⟨0,Ì⟩,⟨1,Ì⟩,{on:=2,ground:=Ý Ñ},{on:=3,ground:=Ý Ñ},{on:=4,ground:=Ý Ñ},⟨5,Ì⟩,⟨6,Ì⟩,⟨7,Ì⟩,⟨8,Ì⟩,⟨9,Ì⟩,⟨10,Ì⟩,⟨11,Ì⟩,⟨12,Ì⟩,⟨13,Ì⟩,⟨14,Ì⟩,{on:=15,ground:=Ý Ñ}],Á⟩
def Cn:å:=⟨Á,ŵ 65 (Ò 29)<|Ò 26,0, "work.go:57",#[⟨17,Õ⟩,⟨14,Õ⟩,⟨12,Ŷ⟩,⟨0,Ì⟩,⟨1,Ì⟩,{on:=2,ground:=Ý Ñ},{on:=3,ground:=Ý Ñ},{on:=4,ground:=Ý Ñ},⟨5,Ì⟩,⟨6,Ì⟩,⟨7,Ì⟩,⟨8,Ì⟩,⟨9,Ì⟩,⟨10,Ì⟩,⟨11,Ì⟩,⟨12,Ì⟩,⟨13,Ì⟩,⟨14,Ì⟩,{on:=15,ground:=Ý Ñ}],Á⟩
def Co:å:=⟨Â 30,Ţ 25 (Ò 15)<|Ò 17,0, "work.go:57",#[⟨2,Õ⟩,⟨4,Õ⟩,⟨0,Ì⟩,⟨1,Ì⟩,⟨2,Ì⟩,⟨3,Ì⟩,⟨4,Ì⟩,⟨5,Ì⟩,⟨6,Ì⟩,⟨7,Ì⟩,⟨8,Ì⟩,⟨9,Ì⟩,⟨10,Ì⟩,⟨11,Ì⟩,⟨12,Ì⟩,⟨13,Ì⟩,⟨14,Ì⟩,⟨15,Ì⟩,⟨16,Ì⟩,⟨17,Ì⟩,⟨18,Ì⟩],Á⟩
def Cp:å:=⟨Á,ŵ 9 (Ò 30)<|Ò 27,0, "work.go:57",#[⟨19,Õ⟩,⟨15,Õ⟩,⟨18,Ŷ⟩,⟨0,Ì⟩,⟨1,Ì⟩,⟨2,Ì⟩,⟨3,Ì⟩,⟨4,Ì⟩,⟨5,Ì⟩,⟨6,Ì⟩,⟨7,Ì⟩,⟨8,Ì⟩,⟨9,Ì⟩,⟨10,Ì⟩,⟨11,Ì⟩,⟨12,Ì⟩,⟨13,Ì⟩,⟨14,Ì⟩,⟨15,Ì⟩,⟨16,Ì⟩,⟨17,Ì⟩,⟨18,Ì⟩],Á⟩
def yU:Array å:=#[HL,EL,HM,HN,EM,HO,EN,EO,EP,ER,HP,ES,Ck,vD,Cl,Cm,EU,EV,Cn,Co,Cp]
def mW(tb a b c N d:Nat)(e f:Ð)(x:(Option Addr×Nat×Nat)×ByteArray):Nat->Ð
 |0=>À<|Â ⟨tb,3,Á⟩
 |1=>À<|Â ⟨b,0,Á⟩
 |2=>Æ (Â ⟨c,0,Á⟩) N N
 |3=>À<|Â ⟨tb,1,Á⟩
 |4=>É Î d
 |5=>À<|Â ⟨tb,2,Á⟩
 |6=>À<|Â ⟨a,0,Á⟩
 |7=>À<|Â ⟨a,0,Á⟩
 |8=>À<|Â ⟨a,2,Á⟩
 |9=>f
 |10=>À<|Â ⟨tb,0,Á⟩
 |11=>e
 |12=>ñ #[Æ x.1.1 x.1.2.1 x.1.2.2,á x.2]
 |13=>ñ #[Æ x.1.1 x.1.2.1 x.1.2.2,á x.2]
 |14=>Æ x.1.1 x.1.2.1 x.1.2.2
 |15=>á x.2
 |16=>À<|Â ⟨b,0,Á⟩
 |17=>À<|Â ⟨b,2,Á⟩
 |19=>À<|Â ⟨c,d,Á⟩
 |_=>Å
structure EW(iw:fh)(ga gb an pl:Nat)(s6:Ð)(Q:Ð->ByteArray->fh->Prop)(listed:Array Bool)(x:(Option Addr×Nat×Nat)×ByteArray)(l:fh):Prop where
 r:iG (λa=>a=⟨gb,2,Á⟩\/a=⟨an,pl,Á⟩) iw l
 vE:listed.getD 12 Í=Ó->∃y,Q (Æ x.1.1 x.1.2.1 x.1.2.2) x.2 y/\(∀b,y.M b->l.M b/\l.w.heap[b]?=y.w.heap[b]?)
 I:listed.getD 18 Í=Ó->l.w.cell? ⟨gb,2,Á⟩=Â (Æ x.1.1 x.1.2.1 x.1.2.2)
 N:listed.getD 20 Í=Ó->l.w.cell? ⟨an,pl,Á⟩=Â (á x.2)
def EW.C{d l:fh}{Q:Ð->ByteArray->fh->Prop}{listed:Array Bool}{x:(Option Addr×Nat×Nat)×ByteArray}(h:EW d n j b k v Q listed x l)(o:i≠12)(p:i≠18)(s:i≠20)(e:d.r ⟨j,2,Á⟩/\d.r ⟨b,k,Á⟩)(m:Þ)(r:fK l l.w m):EW d n j b k v Q (listed.setIfInBounds i Ó) x {l with w:=m}:=by
 have t:∀a,(a=⟨j,2,Á⟩\/a=⟨b,k,Á⟩)->d.r a:=λa u=>by rcases u with rfl|rfl;exact e.1;exact e.2
 refine⟨h.r.N t r,λq=> ?_,λq=> ?_,λq=> ?_⟩
 .rw[è Í o]at q;let⟨y,z,f⟩:=h.vE q;exact⟨y,z,λc g=>⟨(f c g).1,(r.I c (f c g).1).trans (f c g).2⟩⟩
 .rw[è Í p]at q;exact(r.N _<|by rw[h.r.C];exact Ã e.1).trans<|h.I q
 .rw[è Í s]at q;exact(r.N _<|by rw[h.r.C];exact Ã e.2).trans<|h.N q
section
variable{J:Jd}{iw:fh}{ga gb an pl:Nat}{s6:Ð}{Q:Ð->ByteArray->fh->Prop}
def ah9(T:gB iw)(hq:¬iw.q)(ht:d.size=37)(Cq:d[1]?=Â (Æ (Â ⟨an,0,Á⟩) i i))(QX:d[5]?=Â (À<|Â ⟨n,0,Á⟩))(hO:iw.O n) (Y:iw.w.cell? ⟨n,0,Á⟩=Â v) (c1:iw.w.cell? ⟨n,1,Á⟩=Â (É Î pl)) (c2:iw.w.cell? ⟨n,2,Á⟩=Â (À<|Â ⟨ga,0,Á⟩)) (c3:iw.w.cell? ⟨n,3,Á⟩=Â (À<|Â ⟨gb,0,Á⟩)) (uz:iw.N ⟨ga,2,Á⟩) (nt:iw.w.cell? ⟨ga,2,Á⟩=Â s6) (F:iw.r ⟨gb,2,Á⟩) (H:iw.r ⟨an,pl,Á⟩) (e1:(iw.w.cell? ⟨gb,2,Á⟩).isSome=Ó) (e2:(iw.w.cell? ⟨an,pl,Á⟩).isSome=Ó) (z1:iw.w.frozen? ⟨gb,2,Á⟩=Í) (z2:iw.w.frozen? ⟨an,pl,Á⟩=Í) (qc:pl<i) (hN:i<1000000) (kI:(⟨gb,2,Á⟩:ã)≠⟨an,pl,Á⟩) (um:∀l,iG (λa=>a=⟨gb,2,Á⟩\/a=⟨an,pl,Á⟩) iw l->∀I lN,fp Ä Í (λl' g'=>l'.d=l.d/\∃p g c str,g'=G (I.finish<|ñ #[Æ p g c,á str]) lN/\Q (Æ p g c) str l') (ma l)<|G (Ĉ Ä 66 #[s6,v] ĥ)<|I::lN) (md:ă) (listed:Array Bool) (a:Š) (l:fh) (k:Nat) (rest:List Nat) (hI:II yU d (mW n ga gb an i pl v s6) (EW iw ga gb an pl s6 Q) listed a l) (D:k∈Ü md yU listed): fp Ä Í (λl' g'=>∃u,g'=G ((base 49).at u<|Ï yU rest::L) qX/\II yU d (mW n ga gb an i pl v s6) (EW iw ga gb an pl s6 Q) (listed.setIfInBounds k Ó) u l') l (G ((base 49).at a<|Ï yU (k::rest)::L) qX):=by
 let⟨x,s,B⟩:=hI;have K:s5 yU d.size=Ó:=by rw[ht];decide
 have W:=QU D;have gH:=EK D;have M:=B.r.fx;have N:¬l.q:=by rwa[B.r.q]
 have X:∀y:ã,(y=⟨gb,2,Á⟩\/y=⟨an,pl,Á⟩)->iw.r y:=λy ha=>by rcases ha with rfl|rfl;exact F;exact H
 have oE:a.tmps[1]?=Â (Æ (Â ⟨an,0,Á⟩) i i):=(s.C A).trans Cq;have rV:a.tmps[5]?=Â (À<|Â ⟨n,0,Á⟩):=(s.C A).trans QX;have I:∀j m,iw.w.cell? ⟨n,j,Á⟩=Â m->gZ l ⟨n,j,Á⟩/\l.w.cell? ⟨n,j,Á⟩=Â m:=λj m h=>⟨Ã<|Ã<|B.r.O n hO,by rwa[gM<|B.r.r n<|Ã hO]⟩;have QY:¬((⟨ga,2,Á⟩:ã)=⟨gb,2,Á⟩\/(⟨ga,2,Á⟩:ã)=⟨an,pl,Á⟩):=λq=>by
  rcases q with q|q
  .exact T.Y _ F<|q▸uz
  .exact T.Y _ H<|q▸uz
 have HQ:gZ l ⟨ga,2,Á⟩/\l.w.cell? ⟨ga,2,Á⟩=Â s6:=⟨Ç (Ç<|by rwa[B.r.c]),by rwa[B.r.e _ (Ç uz) QY]⟩;have QZ:(pl:Int)<(i:Int):=Z
 have jx:yU.size=21:=A
 rw[jx]at gH;match k,gH with
 |0,_=>
  refine iu (o:=HL) K s U U D (by k_ne) M N (λt r=> ?_) (λt r e E=> ?_)<|B.C A A A ⟨F,H⟩
  .simp only[mW,HL];go_simp
  .simp[go_sem,HL,rV]at E
 |1,_=>
  have u:a.tmps[13]?=Â (À<|Â ⟨n,3,Á⟩):=s.r 0 HL 13 U (iq (o:=EL) D U U) U;refine iu (o:=EL) K s U U D (by k_ne) M N (λt r=> ?_) (λt r e E=> ?_)<|B.C A A A ⟨F,H⟩
  .have J:t.cell? ⟨n,3,Á⟩=Â (À<|Â ⟨gb,0,Á⟩):=((I 3 _ c3).1.r r).trans (I 3 _ c3).2;simp only[mW,EL];go_simp
  .have J:t.cell? ⟨n,3,Á⟩=Â (À<|Â ⟨gb,0,Á⟩):=((I 3 _ c3).1.r r).trans (I 3 _ c3).2;have b:e=⟨Ā ⟨n,3,Á⟩,Í,Í⟩:=by simp[go_sem,EL,J,u]at E;exact E
   subst b;exact(I 3 _ c3).1.C
 |2,_=>
  refine iu (o:=HM) K s U U D (by k_ne) M N (λt r=> ?_) (λt r e E=> ?_)<|B.C A A A ⟨F,H⟩
  .simp only[mW,HM];go_simp
  .simp[go_sem,HM,oE]at E
 |3,_=>
  refine iu (o:=HN) K s U U D (by k_ne) M N (λt r=> ?_) (λt r e E=> ?_)<|B.C A A A ⟨F,H⟩
  .simp only[mW,HN];go_simp
  .simp[go_sem,HN,rV]at E
 |4,_=>
  have u:a.tmps[16]?=Â (À<|Â ⟨n,1,Á⟩):=s.r 3 HN 16 U (iq (o:=EM) D U U) U;refine iu (o:=EM) K s U U D (by k_ne) M N (λt r=> ?_) (λt r e E=> ?_)<|B.C A A A ⟨F,H⟩
  .have J:t.cell? ⟨n,1,Á⟩=Â (É Î pl):=((I 1 _ c1).1.r r).trans (I 1 _ c1).2;simp only[mW,EM];go_simp
  .have J:t.cell? ⟨n,1,Á⟩=Â (É Î pl):=((I 1 _ c1).1.r r).trans (I 1 _ c1).2;have b:e=⟨Ā ⟨n,1,Á⟩,Í,Í⟩:=by simp[go_sem,EM,J,u]at E;exact E
   subst b;exact(I 1 _ c1).1.C
 |5,_=>
  refine iu (o:=HO) K s U U D (by k_ne) M N (λt r=> ?_) (λt r e E=> ?_)<|B.C A A A ⟨F,H⟩
  .simp only[mW,HO];go_simp
  .simp[go_sem,HO,rV]at E
 |6,_=>
  have u:a.tmps[18]?=Â (À<|Â ⟨n,2,Á⟩):=s.r 5 HO 18 U (iq (o:=EN) D U U) U;refine iu (o:=EN) K s U U D (by k_ne) M N (λt r=> ?_) (λt r e E=> ?_)<|B.C A A A ⟨F,H⟩
  .have J:t.cell? ⟨n,2,Á⟩=Â (À<|Â ⟨ga,0,Á⟩):=((I 2 _ c2).1.r r).trans (I 2 _ c2).2;simp only[mW,EN];go_simp
  .have J:t.cell? ⟨n,2,Á⟩=Â (À<|Â ⟨ga,0,Á⟩):=((I 2 _ c2).1.r r).trans (I 2 _ c2).2;have b:e=⟨Ā ⟨n,2,Á⟩,Í,Í⟩:=by simp[go_sem,EN,J,u]at E;exact E
   subst b;exact(I 2 _ c2).1.C
 |7,_=>
  have u:a.tmps[19]?=Â (À<|Â ⟨ga,0,Á⟩):=s.r 6 EN 19 U (iq (o:=EO) D U U) U;refine iu (o:=EO) K s U U D (by k_ne) M N (λt r=> ?_) (λt r e E=> ?_)<|B.C A A A ⟨F,H⟩
  .simp only[mW,EO];go_simp
  .simp[go_sem,EO,u]at E
 |8,_=>
  have u:a.tmps[20]?=Â (À<|Â ⟨ga,0,Á⟩):=s.r 7 EO 20 U (iq (o:=EP) D U U) U;refine iu (o:=EP) K s U U D (by k_ne) M N (λt r=> ?_) (λt r e E=> ?_)<|B.C A A A ⟨F,H⟩
  .simp only[mW,EP];go_simp
  .simp[go_sem,EP,u]at E
 |9,_=>
  have u:a.tmps[21]?=Â (À<|Â ⟨ga,2,Á⟩):=s.r 8 EP 21 U (iq (o:=ER) D U U) U;refine iu (o:=ER) K s U U D (by k_ne) M N (λt r=> ?_) (λt r e E=> ?_)<|B.C A A A ⟨F,H⟩
  .have J:t.cell? ⟨ga,2,Á⟩=Â (s6):=(HQ.1.r r).trans HQ.2;simp only[mW,ER];go_simp
  .have J:t.cell? ⟨ga,2,Á⟩=Â (s6):=(HQ.1.r r).trans HQ.2;have b:e=⟨Ā ⟨ga,2,Á⟩,Í,Í⟩:=by simp[go_sem,ER,J,u]at E;exact E
   subst b;exact HQ.1.C
 |10,_=>
  refine iu (o:=HP) K s U U D (by k_ne) M N (λt r=> ?_) (λt r e E=> ?_)<|B.C A A A ⟨F,H⟩
  .simp only[mW,HP];go_simp
  .simp[go_sem,HP,rV]at E
 |11,_=>
  have u:a.tmps[23]?=Â (À<|Â ⟨n,0,Á⟩):=s.r 10 HP 23 U (iq (o:=ES) D U U) U;refine iu (o:=ES) K s U U D (by k_ne) M N (λt r=> ?_) (λt r e E=> ?_)<|B.C A A A ⟨F,H⟩
  .have J:t.cell? ⟨n,0,Á⟩=Â (v):=((I 0 _ Y).1.r r).trans (I 0 _ Y).2;simp only[mW,ES];go_simp
  .have J:t.cell? ⟨n,0,Á⟩=Â (v):=((I 0 _ Y).1.r r).trans (I 0 _ Y).2;have b:e=⟨Ā ⟨n,0,Á⟩,Í,Í⟩:=by simp[go_sem,ES,J,u]at E;exact E
   subst b;exact(I 0 _ Y).1.C
 |12,_=>
  have HR:a.tmps[22]?=Â (s6):=s.r 9 ER 22 U (iq (o:=Ck) D U U) U;have Lw:a.tmps[24]?=Â (v):=s.r 11 ES 24 U (iq (o:=Ck) D U U) U;refine YI (o:=Ck) K s U U D (by k_ne) M (f:=66) (args:=#[s6,v]) (λw=>by simp only[Ck];go_simp) (λw=>ŏ (o:=Ck) U Tryz.func66 U U #[]) λt r=> ?_;have V:=B.r.N X r;refine((um _ V _ _).ma<|V.G T).fQ ?_;rintro l' g' ⟨y,⟨hy0,p,g,c,str,rfl,hQ⟩,rfl,hA,YL,aia,aib⟩;refine⟨((p,g,c),str),U,⟨V.QV X hA hy0,λ_=>⟨y,hQ,λb P=>⟨?_,U⟩⟩,λq=> ?_,λq=> ?_⟩,λj u=> ?_⟩
  .rcases P with q|q
   .exact Ã<|Ã q
   .rw[YL]at q;exact q.elim (λz=>Ã<|Ç z) Ç
  .rw[è Í A]at q;exact absurd (s.I (o:=Cn) U q U)<|xf W
  .rw[è Í A]at q;exact absurd (s.I (o:=Cp) U q U)<|xf W
  .match j,u with
   |12,u=>exact absurd u<|xf W
   |13,u=>exact absurd (s.I (o:=vD) U u U)<|xf W
   |14,u=>exact absurd (s.I (o:=vD) U (s.I (j:=13) (o:=Cl) U u U) U)<|xf W
   |15,u=>exact absurd (s.I (o:=vD) U (s.I (j:=13) (o:=Cm) U u U) U)<|xf W
   |0,_|1,_|2,_|3,_|4,_|5,_|6,_|7,_|8,_|9,_|10,_|11,_|16,_|17,_|18,_|19,_|20,_|g+21,_=>rfl
 |13,_=>
  have u:a.tmps[25]?=Â (ñ #[Æ x.1.1 x.1.2.1 x.1.2.2,á x.2]):=s.r 12 Ck 25 U (iq (o:=vD) D U U) U;refine iu (o:=vD) K s U U D (by k_ne) M N (λt r=> ?_) (λt r e E=> ?_)<|B.C A A A ⟨F,H⟩
  .simp only[mW,vD];go_simp
  .simp[go_sem,vD,u]at E
 |14,_=>
  have u:a.tmps[12]?=Â (ñ #[Æ x.1.1 x.1.2.1 x.1.2.2,á x.2]):=s.r 13 vD 12 U (iq (o:=Cl) D U U) U;refine iu (o:=Cl) K s U U D (by k_ne) M N (λt r=> ?_) (λt r e E=> ?_)<|B.C A A A ⟨F,H⟩
  .simp only[mW,Cl];go_simp
  .simp[go_sem,Cl,u]at E
 |15,_=>
  have u:a.tmps[12]?=Â (ñ #[Æ x.1.1 x.1.2.1 x.1.2.2,á x.2]):=s.r 13 vD 12 U (iq (o:=Cm) D U U) U;refine iu (o:=Cm) K s U U D (by k_ne) M N (λt r=> ?_) (λt r e E=> ?_)<|B.C A A A ⟨F,H⟩
  .simp only[mW,Cm];go_simp
  .simp[go_sem,Cm,u]at E
 |16,_=>
  have u:a.tmps[14]?=Â (À<|Â ⟨gb,0,Á⟩):=s.r 1 EL 14 U (iq (o:=EU) D U U) U;refine iu (o:=EU) K s U U D (by k_ne) M N (λt r=> ?_) (λt r e E=> ?_)<|B.C A A A ⟨F,H⟩
  .simp only[mW,EU];go_simp
  .simp[go_sem,EU,u]at E
 |17,_=>
  have u:a.tmps[28]?=Â (À<|Â ⟨gb,0,Á⟩):=s.r 16 EU 28 U (iq (o:=EV) D U U) U;refine iu (o:=EV) K s U U D (by k_ne) M N (λt r=> ?_) (λt r e E=> ?_)<|B.C A A A ⟨F,H⟩
  .simp only[mW,EV];go_simp
  .simp[go_sem,EV,u]at E
 |18,_=>
  have h29:a.tmps[29]?=Â (À<|Â ⟨gb,2,Á⟩):=s.r 17 EV 29 U (iq (o:=Cn) D U U) U;have h26:a.tmps[26]?=Â (Æ x.1.1 x.1.2.1 x.1.2.2):=s.r 14 Cl 26 U (iq (o:=Cn) D U U) U;have V:(l.w.cell? ⟨gb,2,Á⟩).isSome=Ó:=B.r.g _ (Ã U) e1;have Cr:l.w.frozen? ⟨gb,2,Á⟩=Í:=(B.r.S _<|Ã F).trans z1;have lE:qu l ⟨gb,2,Á⟩:=Ç (by rwa[B.r.I]);refine QW (o:=Cn) (y:=⟨gb,2,Á⟩) (v:=Æ x.1.1 x.1.2.1 x.1.2.2) K s U U U D (by k_ne) M N U lE V Cr (λw J hz=> ?_) (λw J hz=> ?_) λt r=> ?_
  .let⟨u,hu⟩:=Ö.1 J;simp only[Cn];go_simp
  .let⟨u,hu⟩:=Ö.1 J;simp[go_sem,Cn,h29,h26,â _ _ _ _ _ _ (show Ú (Æ x.1.1 x.1.2.1 x.1.2.2)=Ó from rfl),hu,hz]
  .have hA:=B.r.vC T X (x:=⟨gb,2,Á⟩) (v:=Æ x.1.1 x.1.2.1 x.1.2.2) (Ã U) U V;refine⟨hA.N X ⟨r.r,r.I,r.N,r.Y,r.S⟩,λq=> ?_,λq=> ?_,λq=> ?_⟩
   .rw[è Í A]at q;let⟨y,y1,z⟩:=B.vE q;refine⟨y,y1,λb P=>⟨(z b P).1,?_⟩⟩;have Q0:b≠(⟨gb,2,Á⟩:ã).block:=λe=>(B.r.G T).N ⟨gb,2,Á⟩ (by rw[B.r.C];exact Ã F)<|e▸(z b P).1;exact(r.I b (z b P).1).trans<|(lr Q0).trans (z b P).2
   .exact(r.N _ (by rw[B.r.C];first|exact Ã F|exact Ã H)).trans<|tZ (Ö.1 V).choose_spec
   .rw[è Í A]at q;exact(r.N ⟨an,pl,Á⟩<|by rw[B.r.C];exact Ã H).trans<|(Cj U λe=>kI e.symm).trans<|B.N q
 |19,_=>
  have Q5:a.tmps[15]?=Â (Æ (Â ⟨an,0,Á⟩) i i):=s.r 2 HM 15 U (iq (o:=Co) D U U) U;have Q6:a.tmps[17]?=Â (É Î pl):=s.r 4 EM 17 U (iq (o:=Co) D U U) U;refine iu (o:=Co) K s U U D (by k_ne) M N (λt r=> ?_) (λt r e E=> ?_)<|B.C A A A ⟨F,H⟩
  .simp only[mW,Co];go_simp
  .simp[go_sem,Co,qc,QZ,Q5,Q6]at E
 |20,_=>
  have E:a.tmps[30]?=Â (À<|Â ⟨an,pl,Á⟩):=s.r 19 Co 30 U (iq (o:=Cp) D U U) U;have h27:a.tmps[27]?=Â (á x.2):=s.r 15 Cm 27 U (iq (o:=Cp) D U U) U;have V:(l.w.cell? ⟨an,pl,Á⟩).isSome=Ó:=B.r.g _ (Ç U) e2;have Cr:l.w.frozen? ⟨an,pl,Á⟩=Í:=(B.r.S _<|Ã H).trans z2;have lE:qu l ⟨an,pl,Á⟩:=Ç (by rwa[B.r.I]);refine QW (o:=Cp) (y:=⟨an,pl,Á⟩) (v:=á x.2) K s U U U D (by k_ne) M N U lE V Cr (λw J hz=> ?_) (λw J hz=> ?_) λt r=> ?_
  .let⟨u,hu⟩:=Ö.1 J;simp only[Cp];go_simp
  .let⟨u,hu⟩:=Ö.1 J;simp[go_sem,Cp,E,h27,â _ _ _ _ _ _ (show Ú (á x.2)=Ó from rfl),hu,hz]
  .have hA:=B.r.vC T X (x:=⟨an,pl,Á⟩) (v:=á x.2) (Ç U) U V;refine⟨hA.N X ⟨r.r,r.I,r.N,r.Y,r.S⟩,λq=> ?_,λq=> ?_,λq=> ?_⟩
   .rw[è Í A]at q;let⟨y,y1,z⟩:=B.vE q;refine⟨y,y1,λb P=>⟨(z b P).1,?_⟩⟩;have Q0:b≠(⟨an,pl,Á⟩:ã).block:=λe=>(B.r.G T).N ⟨an,pl,Á⟩ (by rw[B.r.C];exact Ã H)<|e▸(z b P).1;exact(r.I b (z b P).1).trans<|(lr Q0).trans (z b P).2
   .rw[è Í A]at q;exact(r.N ⟨gb,2,Á⟩<|by rw[B.r.C];exact Ã F).trans<|(Cj U<|kI).trans<|B.I q
   .exact(r.N _ (by rw[B.r.C];first|exact Ã F|exact Ã H)).trans<|tZ (Ö.1 V).choose_spec
 |g+21,h=>exact absurd h Z
end
section
variable{E:ã->Prop}{l c g:fh}
def iG.fj(h:iG E l c)(k:iG E c g):iG E l g:=by have f:=h.C;exact⟨λj e=>k.O j<|h.O j e,λj e=>(k.h j e).elim (h.h j) λq=>Ç<|Ø h.f q,k.Y.trans h.Y,k.I.trans h.I,k.c.trans h.c,k.K.trans h.K,k.q.trans h.q,k.d.trans h.d,k.fx,Ø h.f k.f,λj e=>(k.r j<|h.M e).trans<|h.r j e,λa b i=>(k.e a (by rwa[f]) i).trans<|h.e a b i,λa b=>(k.S a<|by rwa[f]).trans<|h.S a b,λa b q=>k.b a (by rwa[h.K])<|h.b a b q,λa b q=>k.g a b<|h.g a b q⟩
end
def gK(l:fh)(w₁:Þ)(o:Η):fh:={l with O:=λb=>l.O b\/b=w₁.heap.size,w:=w₁.alloc o}
def yV{o:Η}(h:j<w.heap.size):(w.alloc o).heap[j]?=w.heap[j]?:=by unfold Ŗ;rw[Array.getElem?_push_lt h];exact(ç h).symm
def mX{o:Η}:(w.alloc o).heap[w.heap.size]?=Â o:=by unfold Ŗ;simp
def Lx{o:Η}:(w.alloc o).heap.size=w.heap.size+1:=by unfold Ŗ;simp
section
variable{J:Jd}{l:fh}{a:Š}{k:List ż}{cs:List ê}{ob:Η}{E:ã->Prop}
def YM(b:∀j,l.O j->j<w.heap.size)(c:¬l.q):mC l (gK l w ob) w (w.alloc ob) #[]:= ⟨by rw[Lx];omega,λj h=>h.imp id λe=>by omega,λj h=>by rw[Lx];exact h.elim (λq=>Ń<|b j q) λe=>by omega,U,U,U,U,λj d _ _=>yV d,λx a _ _=>gM<|yV a,λx a _=>wS<|yV a,U,U,U,λe f=>by simp at f,by simp[Đ,gK],U,λq=>absurd q c,U⟩
def HS(c:Q[i]?=Â o)(d:ğ o (ŷ Q a.tmps)=Ó)(e:f.kind≠Θ)(g:j2 l)(h:¬l.q) (j:∀w,(đ a.eval o).run P w=.ok (.value<|À<|Â ⟨w.heap.size,0,Á⟩) (w.alloc ob)) (m:∀w,(đ a.eval o).events P w #[]=#[]) (n:∀b,fK l l.w b->fp P yQ J (gK l b ob) (G (f.at (a.put o.dst<|À<|Â ⟨b.heap.size,0,Á⟩)<|Ï Q jJ::k) cs)):fp P yQ J l (G (f.at a<|Ï Q (i::jJ)::k) cs):=by
 refine vB c d e λb r=> ?_;rw[j b];refine⟨_,?_,n b r⟩;have:listed P f.fn a o b=#[]:=by unfold listed;rw[m b,Ĳ]
 rw[this];exact YM (mH g r) h
def Ly(s:gB l)(d:∀a,E a->l.r a)(r:fK l l.w u):iG E l (gK l u ob):=by
 have c:=r.r;refine⟨λj h=>Ã h,λj h=>h.imp id λe=>by omega,U,U,U,U,U,U,λj h=> ?_,?_,λj f=> ?_,λx b _=> ?_,λx b=> ?_,λx b q=> ?_,λx b q=> ?_⟩
 .show j<(u.alloc ob).heap.size;rw[Lx];exact h.elim (λq=>Ń<|È (s.fx j<|Ã q) c) λe=>by omega
 .show l.w.heap.size<=(u.alloc ob).heap.size;rw[Lx];omega
 .exact(yV<|È (s.fx j f) c).trans<|r.I j f
 .exact(gM<|yV<|È (s.I x b) c).trans<|r.N x b
 .exact(wT<|yV<|È (s.I x b) c).trans<|r.Y x b
 .show((u.alloc ob).cell? x).isSome=Ó;rw[gM<|yV<|È (s.S x b).2.1 c];exact r.S x b q
 .show((u.alloc ob).cell? x).isSome=Ó;rwa[gM<|yV<|È (s.I x<|Ã<|d x b) c,r.N x<|Ã<|d x b]
def Lz{w':Þ}{p:Nat}(g:∀j,l.O j->j<w.heap.size)(i:¬l.q)(b:l.O p)(k:w'.heap.size=w.heap.size)(c:∀j,j≠p->w'.heap[j]?=w.heap[j]?)(d:w'.os=w.os/\w'.output=w.output/\w'.tape=w.tape)(f:∀e∈V,xe l e):mC l {l with w:=w'} w w' V:=by refine⟨Z,λ_ h=>Ã h,λj h=>by rw[k];exact g j h,U,U,U,U,λj _ a _=>c j λe=>a<|e▸b,λx _ a _=>gM (c _ λe=>a<|e▸b),λx _ a=>wS (c _ λe=>a<|e▸b),d.1,d.2.1,d.2.2,λe h=>(f e h).1,(Ls f _).symm,U,λq=>absurd q i,U⟩
end
def iV(w:Þ)(p:Nat)(v0 v1 v2 v3:Ð):Þ:=(((w.setCell ⟨p,0,Á⟩ v0).setCell ⟨p,1,Á⟩ v1).setCell ⟨p,2,Á⟩ v2).setCell ⟨p,3,Á⟩ v3
section
variable{p:Nat}{v0 v1 v2 v3:Ð}
def xg:(iV w p v0 v1 v2 v3).heap.size=w.heap.size:=by unfold iV;rw[jT,jT,jT,jT]
def yW(h:j≠p):(iV w p v0 v1 v2 v3).heap[j]?=w.heap[j]?:=by unfold iV;rw[lr h,lr h,lr h,lr h]
def Q7(c:w.cell? ⟨p,0,Á⟩=Â v)(d:w.cell? ⟨p,1,Á⟩=Â x)(e:w.cell? ⟨p,2,Á⟩=Â z)(f:w.cell? ⟨p,3,Á⟩=Â jQ): (iV w p v0 v1 v2 v3).cell? ⟨p,0,Á⟩=Â v0/\(iV w p v0 v1 v2 v3).cell? ⟨p,1,Á⟩=Â v1/\(iV w p v0 v1 v2 v3).cell? ⟨p,2,Á⟩=Â v2/\(iV w p v0 v1 v2 v3).cell? ⟨p,3,Á⟩=Â v3:=by
 have b:∀(w:Þ) (i j:Nat) (a:Ð),i≠j->(w.setCell ⟨p,i,Á⟩ a).cell? ⟨p,j,Á⟩=w.cell? ⟨p,j,Á⟩:=λw i j a h=>yu<|Ç h;unfold iV;refine⟨?_,?_,?_,?_⟩
 .rw[b _ 3 0 _ A,b _ 2 0 _ A,b _ 1 0 _ A];exact tZ c
 .rw[b _ 3 1 _ A,b _ 2 1 _ A];exact tZ<|(b _ 0 1 _ A).trans d
 .rw[b _ 3 2 _ A];exact tZ<|(b _ 1 2 _ A).trans<|(b _ 0 2 _ A).trans e
 .exact tZ<|(b _ 2 3 _ A).trans<|(b _ 1 3 _ A).trans<|(b _ 0 3 _ A).trans f
def Q8{E:ã->Prop}{l e:fh}(s:gB l)(f:∀a,E a->l.r a)(h:iG E l e){w':Þ}(r:fK e e.w u)(k:l.w.heap.size<=p)(g:w'.heap.size=u.heap.size)(i:∀j,j≠p->w'.heap[j]?=u.heap[j]?):iG E l {e with w:=w'}:=by
 have b:=h.N f r;have c:∀{j:Nat},j<l.w.heap.size->w'.heap[j]?=u.heap[j]?:=λ{j} q=>i j Z;refine⟨b.O,b.h,b.Y,b.I,b.c,b.K,b.q,b.d,λj q=> ?_,?_,λj q=> ?_,λa q n=> ?_,λa q=> ?_,λa q z=> ?_,λa q z=> ?_⟩
 .show j<w'.heap.size;rw[g];exact b.fx j q
 .show l.w.heap.size<=w'.heap.size;rw[g];exact b.f
 .exact(c<|s.fx j q).trans<|b.r j q
 .exact(gM<|c<|s.I a q).trans<|b.e a q n
 .exact(wT<|c<|s.I a q).trans<|b.S a q
 .show(w'.cell? a).isSome=Ó;rw[gM<|c (s.S a q).2.1];exact b.b a q z
 .show(w'.cell? a).isSome=Ó;rw[gM<|c<|s.I a<|Ã<|f a q];exact b.g a q z
end
def s7(t:Array Ð)(h:t.size=n):∃u:Nat->Ð,t=((ä n).map u).toArray:=by subst h;refine⟨λi=>t.getD i Å,Array.ext ft λi a _=> ?_⟩;simp[Array.getD,a]
def Q9(t:Array Ð)(h:t.size=37):∃a b c d e f g i j k l m n o p q r s u v w x y z B C D E F G H I J K L M N:Ð,t=#[a,b,c,d,e,f,g,i,j,k,l,m,n,o,p,q,r,s,u,v,w,x,y,z,B,C,D,E,F,G,H,I,J,K,L,M,N]:=by obtain⟨_,rfl⟩:=s7 t h;exact⟨_,_,_,_,_,_,_,_,_,_,_,_,_,_,_,_,_,_,_,_,_,_,_,_,_,_,_,_,_,_,_,_,_,_,_,_,_,U⟩
end Go.Proofs.Y.fD
namespace Go.Proofs.Y.fD
open Go Go.Conc Go.Proofs.Y.Lift Go.RowKit Go.Conc.Lib Go.ConcR.Gen
section
variable{Ψ:Þ->Prop}{L:WgLink}{l:fh}{e:Jd}{k:List ż}
def aic(H:WgLib P L)(h:lZ Ψ l b)(hT:∀a,SW Ψ l b a->fp P Í e {l with d:=0,w:=a} (G (f.at (y.put ((Q[i]?).bind (·.dst))<|ñ #[])<|Ï Q jJ::k) qX)): ∀(r:Nat) (c:Int) (j m o p q s t u v x z B C D E F I J K M N O T V W X Y qx qy n7 pF pG oZ o0 oD qi qj qk qm qn qo qp qt n8 n9 oa rU A8 A9 Ba Bb Bc Bd Be Bf Bg Bh Bj Bl Bm Bn Bo Bp Bq Br Bs Bt Bu Bv Bw Bx By Bz BA BB BD BF BG BH BJ BK BL BM BN BO BP BQ BR BS BT BU BV BW BX BY BZ B1 B2 B3 B4 B5 B6 B7 B8 B9 Ca Cb Cc Cd Ce Cf Cg Ch Ci:Ð) (a:Þ),SW Ψ l b a->(c<=(r:Int)+1/\(r:Int)+1<=c)->r+1<1000000-> fp P Í (G7 P Í b (fp P Í e)<|r+1) {l with d:=1,w:=a} (G ((base L.add).at ⟨#[À<|Â ⟨b,0,Á⟩,j,m,o,p,q,s,t,É û c,u,v,x,z,B,C,D,E,F,I,J,K,M,N,O,T,V,W,X,Y,qx,qy,n7,pF,pG,oZ,o0,oD,qi,qj,qk,qm,qn,qo,qp,qt,n8,n9,oa,rU,A8,A9,Ba,Bb,Bc,Bd,Be,Bf,Bg,Bh,Bj,Bl,Bm,Bn,Bo,Bp,Bq,Br,Bs,Bt,Bu,Bv,Bw,Bx,By,Bz,BA,BB,BD,BF,BG,BH,BJ,BK,BL,BM,BN,BO,BP,BQ,BR,BS,BT,BU,BV,BW,BX,BY,BZ,B1,B2,B3,B4,B5,B6,B7,B8,B9,Ca,Cb,Cc,Cd,Ce,Cf,Cg,Ch,À<|Â ⟨b,1,Á⟩,Ci],[dcall L.enable #[]]⟩ [Ï #[{dst:=Â 113,op:=ý<|Ò 0,type:=L.tWgP,pos:= "waitgroup.go:142",after:=#[],guard:=Á},{dst:=Â 114,op:=ĕ<|Ò 113,type:=0,pos:= "waitgroup.go:142",after:=#[{on:=0,ground:=Õ}],guard:=Á},{dst:=Â 115,op:=ë L.tWg (Ò 114) 2,type:=0,pos:= "waitgroup.go:142",after:=#[{on:=1,ground:=Õ}],guard:=Á},{dst:=Â 116,op:= Ď {callee:=ü<|ċ L.semrelease,args:= #[Ò 115,ò<|ĭ Í,ò<|É Î 0],argTypes:=#[L.tPU32,4,3]},type:=0,pos:= "waitgroup.go:142",after:=#[{on:=2,ground:=Õ}],guard:=Á}] [3],ï 2,ö<|ß 33 #[{dst:=Â 111,op:=ý<|Ò 8,type:=L.tU32,pos:= "waitgroup.go:141",after:=#[],guard:=Á},{dst:=Â 112,op:=ń BinOp.sub L.tU32 (Ò 111) (ò<|É û 1) L.tU32,type:=L.tU32,pos:= "waitgroup.go:141",after:=#[{on:=0,ground:=Õ}],guard:=Á},{dst:=Â 8,op:=ĳ<|Ò 112,type:=L.tU32,pos:= "waitgroup.go:141",after:= #[{on:=1,ground:=Õ},{on:=0,ground:=Ì},{on:=1,ground:=Ì}],guard:=Á}] Í,ā<|((ß 32 #[{dst:=Â 109,op:=ý<|Ò 8,type:=L.tU32,pos:= "waitgroup.go:141",after:=#[],guard:=Á},{dst:=Â 110,op:= ń BinOp.neq L.tU32 (Ò 109) (ò<|É û 0) L.tU32,type:=4,pos:= "waitgroup.go:141",after:=#[{on:=0,ground:=Õ}],guard:=Á}] Í).seq<|ŗ (Ò 110) Ř<|ř 1).seq<|(Ħ 2<|ß 34 #[{dst:=Â 113,op:=ý<|Ò 0,type:=L.tWgP,pos:= "waitgroup.go:142",after:=#[],guard:=Á},{dst:=Â 114,op:=ĕ<|Ò 113,type:=0,pos:= "waitgroup.go:142",after:=#[{on:=0,ground:=Õ}],guard:=Á},{dst:=Â 115,op:=ë L.tWg (Ò 114) 2,type:=0,pos:= "waitgroup.go:142",after:=#[{on:=1,ground:=Õ}],guard:=Á},{dst:=Â 116,op:= Ď {callee:=ü<|ċ L.semrelease,args:= #[Ò 115,ò<|ĭ Í,ò<|É Î 0],argTypes:=#[L.tPU32,4,3]},type:=0,pos:= "waitgroup.go:142",after:=#[{on:=2,ground:=Õ}],guard:=Á}] Í).seq<|ß 33 #[{dst:=Â 111,op:=ý<|Ò 8,type:=L.tU32,pos:= "waitgroup.go:141",after:=#[],guard:=Á},{dst:=Â 112,op:= ń BinOp.sub L.tU32 (Ò 111) (ò<|É û 1) L.tU32,type:=L.tU32,pos:= "waitgroup.go:141",after:=#[{on:=0,ground:=Õ}],guard:=Á},{dst:=Â 8,op:=ĳ<|Ò 112,type:=L.tU32,pos:= "waitgroup.go:141",after:= #[{on:=1,ground:=Õ},{on:=0,ground:=Ì},{on:=1,ground:=Ì}],guard:=Á}] Í,ï 1])<|(base L.done).at {tmps:= #[À<|Â {block:=b,off:=0},Å,À<|Â {block:=b,off:=0},Å],defers:=[]} [Ï #[{dst:=Â 2,op:=ý<|Ò 0,type:=L.tWgP,pos:= "waitgroup.go:156",after:=#[],guard:=Á},{dst:=Â 3,op:= Ď {callee:=ü<|ċ L.add,args:=#[Ò 2,ò<|É Î<|-1],argTypes:=#[L.tWgP,3]},type:=0,pos:= "waitgroup.go:156",after:=#[{on:=0,ground:=Õ}],guard:=Á}] [1]]::f.at y (Ï Q (i::jJ)::k)::qX):=by
 intro r;lib_facts
 induction r with
 |zero=>
  intro c j m o p q s t u v x z B C D E F I J K M N O T V W X Y qx qy n7 pF pG oZ o0 oD qi qj qk qm qn qo qp qt n8 n9 oa rU A8 A9 Ba Bb Bc Bd Be Bf Bg Bh Bj Bl Bm Bn Bo Bp Bq Br Bs Bt Bu Bv Bw Bx By Bz BA BB BD BF BG BH BJ BK BL BM BN BO BP BQ BR BS BT BU BV BW BX BY BZ B1 B2 B3 B4 B5 B6 B7 B8 B9 Ca Cb Cc Cd Ce Cf Cg Ch Ci a hF HJ gH;have e1:c=1:=Z
  subst e1;clear HJ gH;refine mI (l:={l with d:=1,w:=a}) h hF λpC hF=>⟨U,U,ů U U H.f_semrelease<|Ę L,_,U,λa n hc hf=>(Ő U U (by k_ne) U H.f_semrelease (Ť L) (Ę L) (ť L) (Ŧ L) (by simp[ę,gQ]) hc hf).trans fR,?_⟩;walk_nrm;apply ja (l:={l with d:=1,w:=pC}) h hF (n:=50);iterate 17 w_go fE
  refine Ë λa g=> ?_;replace hF:=fE hF g;clear g;refine rT (l:={l with d:=1,w:=a}) h hF (Ç U) U (λw=>EF ħ ft U H.f_enable (Ĺ L) (ĺ L) (Ļ L) (ļ L) w) λyY hF=> ?_;have n5:Đ 1 #[jA ħ]=0:=rfl;rw[n5];apply ja (l:={l with d:=0,w:=yY}) h hF (n:=10);u_leave0 H.f_add fE hF;iterate 2 w_go fE
  u_leave0 H.f_done fE hF
  refine Ë λa g=> ?_;replace hF:=fE hF g;clear g;exact hT _ hF
 |succ r ih=>
  intro c j m o p q s t u v x z B C D E F I J K M N O T V W X Y qx qy n7 pF pG oZ o0 oD qi qj qk qm qn qo qp qt n8 n9 oa rU A8 A9 Ba Bb Bc Bd Be Bf Bg Bh Bj Bl Bm Bn Bo Bp Bq Br Bs Bt Bu Bv Bw Bx By Bz BA BB BD BF BG BH BJ BK BL BM BN BO BP BQ BR BS BT BU BV BW BX BY BZ B1 B2 B3 B4 B5 B6 B7 B8 B9 Ca Cb Cc Cd Ce Cf Cg Ch Ci a hF HJ gH;have g1:(c-1)%4294967296=c-1:=Z
  have g2:(c-1 !=0)=Ó:=by simp;omega
  refine mI (l:={l with d:=1,w:=a}) h hF λpC hF=>⟨U,U,ů U U H.f_semrelease<|Ę L,_,U,λa n hc hf=>(Ő U U (by k_ne) U H.f_semrelease (Ť L) (Ę L) (ť L) (Ŧ L) (by simp[ę,gQ]) hc hf).trans fR,?_⟩;walk_nrm;apply ja (l:={l with d:=1,w:=pC}) h hF (n:=50);iterate 22 w_go fE
  refine Ë λa g=> ?_;replace hF:=fE hF g;clear g;exact ih (c-1) _ _ _ _ _ _ _ _ _ _ _ _ _ _ _ _ _ _ _ _ _ _ _ _ _ _ _ _ _ _ _ _ _ _ _ _ _ _ _ _ _ _ _ _ _ _ _ _ _ _ _ _ _ _ _ _ _ _ _ _ _ _ _ _ _ _ _ _ _ _ _ _ _ _ _ _ _ _ _ _ _ _ _ _ _ _ _ _ _ _ _ _ _ _ _ _ _ _ _ _ _ _ _ _ _ _ _ _ _ _ _ _ _ _ a hF Z Z
end
section
variable{Ψ:Þ->Prop}{L:WgLink}{l:fh}{e:Jd}{k:List ż}
def Ra(Ψ:Þ->Prop)(l:fh)(b:Nat)(w:Þ):Prop:=SW Ψ l b w/\fK l l.w w
def pJ(a:lZ Ψ l b)(h:Ra Ψ l b w)(r:fK l w u):Ra Ψ l b u:=⟨fE h.1<|a.r r,h.2.fj r⟩
def aie{J:Jd}(a:SW Ψ l b l.w)(c:Goes P yQ (fK l) Go.ConcR.DC0 (λd e=>fp P yQ J {l with w:=e} d) n g l.w):fp P yQ J l g:= QL c (λ_ _ r=>r) a.1 λ_ _ _ h=>h
def aif(H:WgLib P L)(τ:fh->fh)(Φ:fh->Prop)(h:lZ Ψ l b)(D:SW Ψ l b l.w) (O:∀a,fK l l.w a->Φ {l with w:=a}/\(τ {l with w:=a}).d=0/\∃z:Þ->Prop,lZ z (τ {l with w:=a}) b/\SW z (τ {l with w:=a}) b (τ {l with w:=a}).w/\ ∀j,SW z (τ {l with w:=a}) b j->fp P Í e {τ {l with w:=a}with d:=0,w:=j} (G (f.at (y.put ((Q[i]?).bind (·.dst))<|ñ #[])<|Ï Q jJ::k) qX)): fp P Í (λl g=>Φ l/\yw P Í b (fp P Í e) (τ l) g) l (G ((base L.done).at ⟨#[À<|Â ⟨b,0,Á⟩,Å,Å,Å],[]⟩ [ö<|body_done L])<|f.at y (Ï Q (i::jJ)::k)::qX):=by
 lib_facts;simp only[body_done,doneFn,ő];have hF:Ra Ψ l b l.w:=⟨D,fK.fW _ _⟩;apply aie D (n:=40);u_reg (pJ h) hF;u_op (pJ h) hF;u_call H.f_add (Ι L) addFn (pJ h) hF;u_c ű (pJ h) hF;u_cond Ó (pJ h) hF;u_c ű (pJ h) hF;u_c ű (pJ h) hF;u_reg (pJ h) hF;u_op (pJ h) hF;u_op (pJ h) hF;u_c stepG_region_end (pJ h) hF;u_cond Ó (pJ h) hF;u_reg (pJ h) hF;u_op (pJ h) hF;u_conv H.underlying_tWgP H.room_tWg (mU.r hF.1.2.1).choose_spec (pJ h) hF;refine Ë λa g=> ?_;replace hF:=pJ h hF g;clear g;refine .fF λj r=> ?_;let⟨T,E,z,c,F,q⟩:=O j<|hF.2.fj<|yP r;refine⟨T,E,U,_,λ_=>stepG_markAt .releaseMerge ft U U (by k_ne) U H.f_relMerge (x_relMerge_n L) (x_relMerge_b L) (x_relMerge_x L) (x_relMerge_f L) (by simp[ę,fM]),?_⟩;walk_nrm;show fp P Í (PL P Í b<|fp P Í e) (τ {l with w:=j}) _;clear T r;generalize τ {l with w:=j}=l2 at c F E q|-;replace hF:=F;clear F h D O;apply ja c hF (n:=10);iterate 3 w_go fE
 refine Ë λa g=> ?_;replace hF:=fE hF g;clear g;refine rT (l:={l2 with w:=a}) c hF (Ã U) U (λ_=>stepG_mark0 .disable ft U U (by k_ne) U H.f_disable (x_disable_n L) (x_disable_b L) (x_disable_x L)<|x_disable_f L) λm hF=> ?_;walk_nrm;have Y:Đ l2.d #[jA .disable]=1:=by rw[E];rfl
 rw[Y];apply ja (l:={l2 with d:=1,w:=m}) c hF (n:=50);iterate 2 w_go fE
 u_defer fE hF
 iterate 8 w_go fE
 u_bub fE hF
 iterate 11 w_go fE
 u_call H.f_uAdd (nm_uAdd L) uAddFn fE hF
 iterate 10 w_go fE
 refine Ë λa g=> ?_;replace hF:=fE hF g;clear g;refine mI (l:={l2 with d:=1,w:=a}) c hF λj hF=>⟨U,U,λv=>⟨_,λa t I=>(stepG_add_atomic U U (by k_ne) U H.f_addU64 (x_addU64_n L) (x_addU64_b L) (x_addU64_x L) ì (x_addU64_f L) U U t I).trans fR,?_⟩⟩;walk_nrm;have V:ì.wrap (v+18446744069414584320)=ì.wrap (v+qS):=rfl;rw[V];clear V;obtain⟨s,J⟩:∃s,ì.wrap (v+qS)=s:=⟨_,U⟩;simp only[J];have K:0<=s:=by rw[<-J];have:ì.wrap (v+qS)=(v+qS)%18446744073709551616:=rfl;rw[this];omega
 clear J v;by_cases p:s=0\/(gd<=s/\s<1000000*gd/\s%gd<1000000)
 .rw[if_pos p];by_cases o:s=0
  .subst o;clear p K;apply ja (l:={l2 with d:=1,w:=j}) c hF (n:=150);iterate 3 w_go fE
   u_leave1 H.f_uAdd fE hF
   iterate 83 w_go fE
   refine Ë λa g=> ?_;replace hF:=fE hF g;clear g;refine rT (l:={l2 with d:=1,w:=a}) c hF (Ç U) U (λw=>EF ħ ft U H.f_enable (Ĺ L) (ĺ L) (Ļ L) (ļ L) w) λm hF=> ?_;have x:Đ 1 #[jA ħ]=0:=rfl;rw[x];apply ja (l:={l2 with d:=0,w:=m}) c hF (n:=10);u_leave0 H.f_add fE hF;iterate 2 w_go fE
   u_leave0 H.f_done fE hF
   refine Ë λa g=> ?_;replace hF:=fE hF g;clear g;exact q _ hF
  .have c3:=p.resolve_left o;clear p o K;let⟨c4,c5,c6⟩:=c3;have q4:(4294967296:Int)<=s:=c4;have M:s<1000000*4294967296:=c5;have W:s%4294967296<1000000:=c6;have f1:=EG s Z M W;have B:=EH s Z M W;obtain⟨C,g1⟩:∃C,(s/4294967296+2147483648)%4294967296-2147483648=C:=⟨_,U⟩;have g2:¬C<0:=Z
   have g3:0<C:=Z
   by_cases N:s%4294967296=0
   .rw[N]at B;apply ja (l:={l2 with d:=1,w:=j}) c hF (n:=150);iterate 3 w_go fE
    u_leave1 H.f_uAdd fE hF
    iterate 83 w_go fE
    refine Ë λa g=> ?_;replace hF:=fE hF g;clear g;refine rT (l:={l2 with d:=1,w:=a}) c hF (Ç U) U (λw=>EF ħ ft U H.f_enable (Ĺ L) (ĺ L) (Ļ L) (ļ L) w) λm hF=> ?_;have x:Đ 1 #[jA ħ]=0:=rfl;rw[x];apply ja (l:={l2 with d:=0,w:=m}) c hF (n:=10);u_leave0 H.f_add fE hF;iterate 2 w_go fE
    u_leave0 H.f_done fE hF
    refine Ë λa g=> ?_;replace hF:=fE hF g;clear g;exact q _ hF
   .obtain⟨u,g4⟩:∃u,s%4294967296=u:=⟨_,U⟩;rw[g4]at B N;have X:u%4294967296=u:=Z
    have g6:(u !=0)=Ó:=by simpa using N
    apply ja (l:={l2 with d:=1,w:=j}) c hF (n:=150);iterate 3 w_go fE
    u_leave1 H.f_uAdd fE hF
    iterate 83 w_go fE
    refine Ë λa g=> ?_;replace hF:=fE hF g;clear g;refine rT (l:={l2 with d:=1,w:=a}) c hF (Ç U) U (λw=>EF ħ ft U H.f_enable (Ĺ L) (ĺ L) (Ļ L) (ļ L) w) λm hF=> ?_;have x:Đ 1 #[jA ħ]=0:=rfl;rw[x];apply ja (l:={l2 with d:=0,w:=m}) c hF (n:=10);u_leave0 H.f_add fE hF;iterate 2 w_go fE
    u_leave0 H.f_done fE hF
    refine Ë λa g=> ?_;replace hF:=fE hF g;clear g;exact q _ hF
 .rw[if_neg p];by_cases o:0<s/\s<1000000
  .rw[if_pos o];let⟨q4,M⟩:=o;clear p K;have f1:=EG s Z Z Z;have B:=EH s Z Z Z;have g1:(s/4294967296+2147483648)%4294967296-2147483648=0:=Z
   have X:s%4294967296=s:=Z
   rw[X]at B;have g6:(s !=0)=Ó:=by simp;omega
   have W:(s==0)=Í:=by simp;omega
   have C:(s.toNat:Int)=s:=Z
   apply ja (l:={l2 with d:=1,w:=j}) c hF (n:=150);iterate 3 w_go fE
   u_leave1 H.f_uAdd fE hF
   iterate 89 w_go fE
   u_call H.f_uLoad (nm_uLoad L) uLoadFn fE hF
   iterate 9 w_go fE
   refine Ë λa g=> ?_;replace hF:=fE hF g;clear g;refine mI (l:={l2 with d:=1,w:=a}) c hF λj hF=>⟨U,U,λv=>⟨_,λa t=>stepG_load_atomic U U (by k_ne) U H.f_loadU64 (x_loadU64_n L) (x_loadU64_b L) (x_loadU64_x L) ì (x_loadU64_f L) U t,?_⟩⟩;show fp P Í (if v=(s.toNat:Int)then KR P Í b (fp P Í e) s.toNat else λ_ _=>True) _ _;by_cases u:v=(s.toNat:Int)
   .rw[if_pos u];rw[C]at u;subst u;walk_nrm;have g8:(v !=v)=Í:=ft
    apply ja (l:={l2 with d:=1,w:=j}) c hF (n:=150);iterate 3 w_go fE
    u_leave1 H.f_uLoad fE hF
    iterate 10 w_go fE
    u_call H.f_uStore (nm_uStore L) uStoreFn fE hF
    iterate 5 w_go fE
    refine Ë λa g=> ?_;replace hF:=fE hF g;clear g;refine mI (l:={l2 with d:=1,w:=a}) c hF λj hF=>⟨U,U,_,λa x t I=>stepG_store_atomic U U (by k_ne) U H.f_storeU64 (x_storeU64_n L) (x_storeU64_b L) (x_storeU64_x L) (x_storeU64_f L) U U t I,?_⟩;walk_nrm;obtain⟨r,N⟩:∃r,v.toNat=r+1:=⟨v.toNat-1,Z⟩;rw[N];apply ja (l:={l2 with d:=1,w:=j}) c hF (n:=150);iterate 2 w_go fE
    u_leave0 H.f_uStore fE hF
    iterate 24 w_go fE
    refine Ë λa g=> ?_;replace hF:=fE hF g;clear g;exact aic H c q r v _ _ _ _ _ _ _ _ _ _ _ _ _ _ _ _ _ _ _ _ _ _ _ _ _ _ _ _ _ _ _ _ _ _ _ _ _ _ _ _ _ _ _ _ _ _ _ _ _ _ _ _ _ _ _ _ _ _ _ _ _ _ _ _ _ _ _ _ _ _ _ _ _ _ _ _ _ _ _ _ _ _ _ _ _ _ _ _ _ _ _ _ _ _ _ _ _ _ _ _ _ _ _ _ _ _ _ _ _ _ _ _ _ _ a hF Z Z
   .rw[if_neg u];exact .fF λ_ _=>trivial
  .rw[if_neg o];trivial
end
end Go.Proofs.Y.fD
namespace Go.Proofs.Y.fD
open Go Go.Conc Go.Proofs.Y.Lift Go.RowKit Go.Conc.Lib Go.ConcR.Gen
open Go.Proofs Go.Proofs.YtgpphkdoanciiaaGreatDoor
noncomputable def LA:ġ:=kX ι [1,0,0]
noncomputable def yZ (t:Array Ð) (a:List ê):à:=G ((base 49).at ⟨t,[]⟩ [ö LA,ā LA,ï 0]) a
structure Cs(an N:Nat)(ib:Option ã)(m c kk:Nat)(t:Array Ð):Prop where
 r:t.size=37
 t1:t[1]?=Â (Æ (Â ⟨an,0,Á⟩) N N)
 t6:t[6]?=Â (Æ ib m c)
 C:t[7]?=Â (É Î m)
 I:t[8]?=Â (É Î kk)
def Ct{x:Int}(a:0<=x)(b:x<1000000):Î.wrap x=x:=by rw[Υ];omega
section
variable{f:Jd}{l:fh}{t:Array Ð}{an N ib c kk:Nat}{Q:Ð->ByteArray->fh->Prop}{τ:fh->fh}{Φ:fh->Prop}
def aii(D:gB l)(W:¬l.q)(hd:l.d=0)(X:Cs an N (Â ⟨ib,0,Á⟩) m c kk t)(hkk:kk<m)(hm:m<1000)(hN:N<1000000)(qc:j<N)(za:l.M ib) (i0:l.w.cell? ⟨ib,kk*4,Á⟩=Â (À O)) (i1:l.w.cell? ⟨ib,kk*4+1,Á⟩=Â (É Î j)) (i2:l.w.cell? ⟨ib,kk*4+2,Á⟩=Â (À<|Â ⟨i,0,Á⟩)) (i3:l.w.cell? ⟨ib,kk*4+3,Á⟩=Â (À<|Â ⟨n,0,Á⟩)) (uz:l.N ⟨i,2,Á⟩) (nt:l.w.cell? ⟨i,2,Á⟩=Â v) (o1:l.r ⟨n,2,Á⟩) (o2:l.r ⟨an,j,Á⟩) (e1:(l.w.cell? ⟨n,2,Á⟩).isSome=Ó) (e2:(l.w.cell? ⟨an,j,Á⟩).isSome=Ó) (z1:l.w.frozen? ⟨n,2,Á⟩=Í) (z2:l.w.frozen? ⟨an,j,Á⟩=Í) (kI:(⟨n,2,Á⟩:ã)≠⟨an,j,Á⟩) (um:∀u,iG (λa=>a=⟨n,2,Á⟩\/a=⟨an,j,Á⟩) l u->∀cl lN,fp Ä Í (λl'' g'=>l''.d=u.d/\∃p k c str,g'=G (cl.finish<|ñ #[Æ p k c,á str]) lN/\Q (Æ p k c) str l'') (ma u)<|G (Ĉ Ä 66 #[v,À O] ĥ)<|cl::lN) (Au:∀u (x:(Option Addr×Nat×Nat)×ByteArray),iG (λa=>a=⟨n,2,Á⟩\/a=⟨an,j,Á⟩) l u->(∃y,Q (Æ x.1.1 x.1.2.1 x.1.2.2) x.2 y/\(∀b,y.M b->u.M b/\u.w.heap[b]?=y.w.heap[b]?))->u.w.cell? ⟨n,2,Á⟩=Â (Æ x.1.1 x.1.2.1 x.1.2.2)->u.w.cell? ⟨an,j,Á⟩=Â (á x.2)-> lZ (λ_=>True) u n/\SW (λ_=>True) u n u.w/\Φ u/\(τ u).d=0/\∃E:Þ->Prop,lZ E (τ u) n/\SW E (τ u) n (τ u).w/\∀s Y,SW E (τ u) n s->Cs an N (Â ⟨ib,0,Á⟩) m c (kk+1) Y->fp Ä Í f {τ u with d:=0,w:=s} (yZ Y qX)): fp Ä Í (λl g=>Φ l/\yw Ä Í n (fp Ä Í f) (τ l) g) l (yZ t qX):=by
 obtain⟨y0,y1,y2,y3,y4,y5,y6,y7,y8,y9,xh,zd,xi,rW,rX,qW,vF,uA,uB,uC,s8,s9,td,tf,uD,vG,xj,tg,qY,qx,qy,n7,pF,pG,oZ,o0,oD,rfl⟩:=Q9 t X.r;obtain rfl:y1=Æ (Â ⟨an,0,Á⟩) N N:=by simpa using X.t1
 obtain rfl:y6=Æ (Â ⟨ib,0,Á⟩) m c:=by simpa using X.t6
 obtain rfl:y7=É Î m:=by simpa using X.C
 obtain rfl:y8=É Î kk:=by simpa using X.I
 have rY:∀y:ã,(y=⟨n,2,Á⟩\/y=⟨an,j,Á⟩)->l.r y:=λy ha=>by rcases ha with rfl|rfl;exact o1;exact o2
 have as9:(kk:Int)<(m:Int):=Z
 simp only[yZ];conv in LA=>whnf
 refine fZ (n:=30) D.r ?_;have hF:True:=trivial;repeat w_go fB
 refine Ë λ_ _=> ?_;have B:∀g,gZ l ⟨ib,g,Á⟩:=λg=>Ã za;refine oe (v:=Ě #[À O,É Î j,À<|Â ⟨i,0,Á⟩,À<|Â ⟨n,0,Á⟩]) U U (by k_ne) D.r W (λo r=> ?_) (λo r e F=> ?_) ?_
 .have J:=((B<|kk*4).r r).trans i0;have K:=((B<|kk*4+1).r r).trans i1;have L:=((B<|kk*4+2).r r).trans i2;have P:=((B<|kk*4+3).r r).trans i3;go_simp
 .have J:=((B<|kk*4).r r).trans i0;have K:=((B<|kk*4+1).r r).trans i1;have L:=((B<|kk*4+2).r r).trans i2;have P:=((B<|kk*4+3).r r).trans i3;simp[go_sem,J,K,L,P]at F;rcases F with rfl|rfl|rfl|rfl
  .exact(B _).C
  .exact(B _).C
  .exact(B _).C
  .exact(B _).C
 walk_nrm;refine HS (ob:=Ê #[À Á,É Î 0,À Á,À Á] 155) U U (by k_ne) D.r W (λw=>by go_simp) (λw=>by simp[go_sem]) λo oV=> ?_;walk_nrm;have uE:iG (λa=>a=⟨n,2,Á⟩\/a=⟨an,j,Á⟩) l (gK l o<|Ê #[À Á,É Î 0,À Á,À Á] 155):=Ly D rY oV;have oE:(gK l o<|Ê #[À Á,É Î 0,À Á,À Á] 155).w.heap[o.heap.size]?=Â (Ê #[À Á,É Î 0,À Á,À Á] 155):=mX;have tj:l.w.heap.size<=o.heap.size:=oV.r;have I:(gK l o<|Ê #[À Á,É Î 0,À Á,À Á] 155).O o.heap.size:=Ç U;generalize gK l o (Ê #[À Á,É Î 0,À Á,À Á] 155)=l₁ at uE oE I|-;generalize o.heap.size=tb at oE I tj|-;refine vB U U (by k_ne) λs oh=> ?_;have T:s.heap[tb]?=_:=(oh.I tb<|Ã I).trans oE;have J:s.cell? ⟨tb,0,Á⟩=Â (À Á):=by simp[Ù,T]
 have K:s.cell? ⟨tb,1,Á⟩=Â (É Î 0):=by simp[Ù,T]
 have L:s.cell? ⟨tb,2,Á⟩=Â (À Á):=by simp[Ù,T]
 have P:s.cell? ⟨tb,3,Á⟩=Â (À Á):=by simp[Ù,T]
 have hz:∀g,s.frozen? ⟨tb,g,Á⟩=Í:=λg=>by simp[ð,T]
 go_simp;refine⟨{l₁ with w:=iV s tb (À O) (É Î j) (À<|Â ⟨i,0,Á⟩) (À<|Â ⟨n,0,Á⟩)},Lz (p:=tb) (mH uE.fx oh) (by rwa[uE.q]) I xg (λg H=>yW H) ⟨U,U,U⟩ λe F=> ?_,?_⟩
 .have h:=ě F;have e:∀g,qu l₁ ⟨tb,g,Á⟩:=λg=>Ã I;simp[go_sem,â _ _ _ _ _ _ (show Ú (À O)=Ó from rfl),â _ _ _ _ _ _ (show Ú (À<|Â ⟨i,0,Á⟩)=Ó from rfl),â _ _ _ _ _ _ (show Ú (À<|Â ⟨n,0,Á⟩)=Ó from rfl),J,K,L,P,hz]at h;rcases h with rfl|rfl|rfl|rfl
  .exact(e _).r
  .exact(e _).r
  .exact(e _).r
  .exact(e _).r
 let⟨c0,c1,c2,c3⟩:=Q7 (v0:=À O) (v1:=É Î j) (v2:=À<|Â ⟨i,0,Á⟩) (v3:=À<|Â ⟨n,0,Á⟩) J K L P;have C:=Q8 (w':=iV s tb (À O) (É Î j) (À<|Â ⟨i,0,Á⟩)<|À<|Â ⟨n,0,Á⟩) D rY uE oh tj xg λg H=>yW H;have Cu:({l₁ with w:=iV s tb (À O) (É Î j) (À<|Â ⟨i,0,Á⟩) (À<|Â ⟨n,0,Á⟩)}:fh).O tb:=I;replace c0:({l₁ with w:=iV s tb (À O) (É Î j) (À<|Â ⟨i,0,Á⟩) (À<|Â ⟨n,0,Á⟩)}:fh).w.cell? ⟨tb,0,Á⟩=_:=c0;replace c1:({l₁ with w:=iV s tb (À O) (É Î j) (À<|Â ⟨i,0,Á⟩) (À<|Â ⟨n,0,Á⟩)}:fh).w.cell? ⟨tb,1,Á⟩=_:=c1;replace c2:({l₁ with w:=iV s tb (À O) (É Î j) (À<|Â ⟨i,0,Á⟩) (À<|Â ⟨n,0,Á⟩)}:fh).w.cell? ⟨tb,2,Á⟩=_:=c2;replace c3:({l₁ with w:=iV s tb (À O) (É Î j) (À<|Â ⟨i,0,Á⟩) (À<|Â ⟨n,0,Á⟩)}:fh).w.cell? ⟨tb,3,Á⟩=_:=c3;generalize({l₁ with w:=iV s tb (À O) (É Î j) (À<|Â ⟨i,0,Á⟩) (À<|Â ⟨n,0,Á⟩)}:fh)=l₂ at c0 c1 c2 c3 C Cu|-;clear oE I uE T J K L P hz oh s l₁ oV o;have rZ:=C.G D;have qz:¬l₂.q:=by rwa[C.q]
 have aij:l₂.N ⟨i,2,Á⟩:=by rwa[C.c]
 have nE:¬((⟨i,2,Á⟩:ã)=⟨n,2,Á⟩\/(⟨i,2,Á⟩:ã)=⟨an,j,Á⟩):=λq=>by
  rcases q with q|q
  .exact D.Y _ o1<|q▸uz
  .exact D.Y _ o2<|q▸uz
 have aik:l₂.w.cell? ⟨i,2,Á⟩=Â v:=(C.e _ (Ç uz) nE).trans nt;have Rb:∀y:ã,(y=⟨n,2,Á⟩\/y=⟨an,j,Á⟩)->l₂.r y:=λy hy=>by rw[C.I];exact rY y hy
 refine fZ (n:=5) rZ.r ?_;iterate 2 w_go fB
 refine Ë λ_ _=> ?_;refine QR (II yU #[y0,Æ (Â ⟨an,0,Á⟩) N N,y2,y3,y4,À<|Â ⟨tb,0,Á⟩,Æ (Â ⟨ib,0,Á⟩) m c,É Î m,É Î kk,ĭ Ó,À<|Â ⟨ib,kk*4,Á⟩,Ě #[À O,É Î j,À<|Â ⟨i,0,Á⟩,À<|Â ⟨n,0,Á⟩],xi,rW,rX,qW,vF,uA,uB,uC,s8,s9,td,tf,uD,vG,xj,tg,qY,qx,qy,n7,pF,pG,oZ,o0,oD] (mW tb i n an N j (À O) v)<|EW l₂ i n an j v Q) rZ.r qz (λh H=> ?_) (λmd listed a l e z hI F=>ah9 rZ qz U U U Cu c0 c1 c2 c3 aij aik (Rb _<|Ã U) (Rb _<|Ç U) (C.g _ (Ã U) e1) (C.g _ (Ç U) e2) ((C.S _<|Ã o1).trans z1) ((C.S _<|Ã o2).trans z2) qc hN kI (λu h=>um u<|C.fj h) md listed a l e z hI F) λmd listed a z hI jx vH=> ?_
 .refine⟨((Á,0,0),ByteArray.empty),mV.G _ _ _,(iG.fW rZ.r).N Rb ⟨H.r,H.I,H.N,H.Y,H.S⟩,λq=> ?_,λq=> ?_,λq=> ?_⟩<;>exact absurd q A
 let⟨x,H,V⟩:=hI;have qZ:∀e∈ä 21,listed.getD e Í=Ó:=by
  cases md
  .exact qw vH jx (ä 21) [] fR λe F=>by cases F
  .exact λe F=>qw vH jx [0,1,5,6,7,8,9,10,11,12,13,14,16,17,18,2,3,4,15,19,20] [] fR (λe F=>by cases F) e (by have:=ù.1 F;revert e;decide)
  .exact qw vH jx (ä 21) [] fR λe F=>by cases F
 have HT:=C.fj V.r;have HU:=HT.G D;have uF:¬z.q:=by rwa[HT.q]
 let⟨F,ds⟩:=a;obtain rfl:ds=[]:=H.S;have b1:F[1]?=Â (Æ (Â ⟨an,0,Á⟩) N N):=H.C (d:=1) A;have b5:F[5]?=Â (À<|Â ⟨tb,0,Á⟩):=H.C (d:=5) A;have b6:F[6]?=Â (Æ (Â ⟨ib,0,Á⟩) m c):=H.C (d:=6) A;have b7:F[7]?=Â (É Î m):=H.C (d:=7) A;have b8:F[8]?=Â (É Î kk):=H.C (d:=8) A;obtain⟨x0,x1,x2,x3,x4,x5,x6,x7,x8,x9,YN,x11,x12,x13,x14,x15,x16,x17,x18,x19,x20,x21,x22,x23,x24,x25,x26,x27,x28,x29,x30,x31,x32,x33,x34,x35,x36,rfl⟩:=Q9 F H.M;obtain rfl:x1=Æ (Â ⟨an,0,Á⟩) N N:=by simpa using b1
 obtain rfl:x5=À (Â ⟨tb,0,Á⟩):=by simpa using b5
 obtain rfl:x6=Æ (Â ⟨ib,0,Á⟩) m c:=by simpa using b6
 obtain rfl:x7=É Î m:=by simpa using b7
 obtain rfl:x8=É Î kk:=by simpa using b8
 have Rc:=V.vE<|qZ 12 A;have ail:=V.I<|qZ 18 A;have ain:=V.N<|qZ 20 A;have d3:z.w.cell? ⟨tb,3,Á⟩=Â (À<|Â ⟨n,0,Á⟩):=(gM<|V.r.r tb<|Ã Cu).trans c3;have s3:gZ z ⟨tb,3,Á⟩:=Ã<|Ã<|V.r.O tb Cu;clear H qZ b1 b5 b6 b7 b8;refine fZ (n:=9) HU.r ?_;iterate 3 w_go fB
 refine Ë λ_ _=> ?_;refine nG (x:=⟨tb,3,Á⟩) U U (by k_ne) HU.r uF s3 d3 (λw h=>by go_simp) (λw h=>by simp[go_sem,h]) ?_;walk_nrm;refine fZ (n:=9) HU.r ?_;iterate 2 w_go fB
 u_call qV.f_done (nm_done Lk) doneFn fB hF
 refine Ë λ_ _=> ?_;have sd:∀o,fK z z.w o->lZ (λ_=>True) {z with w:=o} n/\SW (λ_=>True) {z with w:=o} n o/\Φ {z with w:=o}/\(τ {z with w:=o}).d=0/\∃E:Þ->Prop,lZ E (τ {z with w:=o}) n/\SW E (τ {z with w:=o}) n (τ {z with w:=o}).w/\∀s Y,SW E (τ {z with w:=o}) n s->Cs an N (Â ⟨ib,0,Á⟩) m c (kk+1) Y->fp Ä Í f {τ {z with w:=o}with d:=0,w:=s} (yZ Y qX):=λo r=>by
  refine Au {z with w:=o} x (HT.N rY r) ?_ ?_ ?_
  .let⟨y,y1,y2⟩:=Rc;exact⟨y,y1,λb h=>⟨(y2 b h).1,(r.I b (y2 b h).1).trans (y2 b h).2⟩⟩
  .exact(r.N _<|Ã<|by rwa[HT.I]).trans ail
  .exact(r.N _<|Ã<|by rwa[HT.I]).trans ain
 let⟨k1,k2,_⟩:=sd z.w<|fK.fW _ _;refine aif qV τ Φ k1 k2 λo r=> ?_;let⟨_,_,f1,f4,E,f2,f3,f5⟩:=sd o r;refine⟨f1,f4,E,f2,f3,λs h=> ?_⟩;walk_nrm;refine fZ (n:=30) h.1 ?_;iterate 7 w_go fB
 refine Ë λ_ _=> ?_;refine f5 s _ h ⟨U,U,U,U,?_⟩;simp;exact Ct Z Z
end
def aio:Array å:=#[⟨Â 2,č 85<|Ò 0,85, "work.go:24",#[],Á⟩,
 ⟨Â 3,č 25<|Ò 1,25, "work.go:24",#[],Á⟩,
 ⟨Â 4,Ď {callee:=ü (ċ 49),args:=#[Ò 2,Ò 3],argTypes:=#[85,25]},0, "work.go:24",#[⟨0,Õ⟩,⟨1,Õ⟩],Á⟩]
def ze(a:Nat)(b c d e:Ð):ê:=(baseD 63).at ⟨#[À<|Â ⟨a,0,Á⟩,b,c,d,e],[pH 64 #[À<|Â ⟨a,0,Á⟩] #[]]⟩ [Ï YJ [1]]
def vI(a b c d e:Ð):ê:=(base 48).at ⟨#[a,b,c,d,e],[]⟩ [Ï aio [2]]
section
variable{Ψ:Þ->Prop}{J:Jd}{l:fh}{a e f o p:Ð}
def aip(c:j2 l)(g:¬l.q)(k:gZ l ⟨j9,0,Á⟩)(r:gZ l ⟨j7,0,Á⟩)(s:gZ l ⟨b,0,Á⟩)(t:l.w.cell? ⟨j9,0,Á⟩=Â (ď (þ 48) #[] #[À<|Â ⟨j7,0,Á⟩,À<|Â ⟨b,0,Á⟩]))(u:l.w.cell? ⟨j7,0,Á⟩=Â (Æ O m n))(y:l.w.cell? ⟨b,0,Á⟩=Â (Æ (Â ⟨j,0,Á⟩) i i)) (B:∀d a e f o v x z jQ p,Cs j i O m n 0 d->fp Ä Í J l (yZ d [vI v x z jQ p,ze j6 a e f o,oc Ä])): fp Ä Í J l (born Ä<|pH 63 #[À<|Â ⟨j6,0,Á⟩,À<|Â ⟨j9,0,Á⟩] #[]):=by
 apply fZ (n:=30) c;have hF:=trivial;u_c (Yz Ž fR U) fB hF;walk_nrmf κ;iterate 3 w_go fB
 u_c (Yx U U (by k_ne) U U) fB hF
 walk_nrm;repeat w_go fB
 refine Ë λ_ _=> ?_;apply nG U U (by k_ne) c g k t (λw h=>by go_simp) (λw h=>by simp[go_sem,h]);walk_nrm;apply fZ (n:=30) c;u_c (Yy U U (by k_ne) U U ž fR U) fB hF;walk_nrmf Tryz.f48;w_go fB;refine Ë λ_ _=> ?_;apply nG U U (by k_ne) c g r u (λw h=>by go_simp) (λw h=>by simp[go_sem,h]);walk_nrm;apply nG U U (by k_ne) c g s y (λw h=>by go_simp) (λw h=>by simp[go_sem,h]);walk_nrm;apply fZ (n:=30) c;u_call ſ fR ι fB hF;iterate 8 w_go fB
 refine Ë λ_ _=> ?_;exact B _ _ _ _ _ _ _ _ _ _ ⟨U,U,U,U,U⟩
def aiq(b:Cs j i O m n m d)(h:l.K ⟨k,0,Á⟩/\l.K ⟨k,1,Á⟩)(r:lZ Ψ l k)(c:SW Ψ l k l.w)(s:l.d=0)(t:¬l.q)(u:gZ l ⟨j6,0,Á⟩)(y:l.w.cell? ⟨j6,0,Á⟩=Â (À<|Â ⟨k,0,Á⟩)): fp Ä Í (λl g=>yw Ä Í k (EI Ä) (kA l) g) l (yZ d [vI v x z jQ p,ze j6 a e f o,oc Ä]):=by
 obtain⟨C,D,E,F,G,H,I,g,B,J,L,M,N,P,Q,T,V,W,X,Y,s8,s9,td,tf,uD,vG,xj,tg,qY,qx,qy,n7,pF,pG,oZ,o0,oD,rfl⟩:=Q9 d b.r;obtain rfl:g=É Î m:=by simpa using b.C
 obtain rfl:B=É Î m:=by simpa using b.I
 have hmm:¬(m:Int)<(m:Int):=Z
 simp only[yZ];conv in LA=>whnf
 apply fZ (n:=40) c.1;have hF:=trivial;iterate 8 w_go fB
 u_leave0 ſ fB hF
 iterate 2 w_go fB
 u_leave0 ž fB hF
 refine Ë λ_ _=> ?_;exact YK h r c s t u y
end
def HY:å:=⟨Â 14,ý<|Ò 1,25, "work.go:65",#[],Á⟩
def HZ:å:=⟨Â 15,ë 155 (Ò 4) 1,0, "work.go:65",#[],Á⟩
def EX:å:=⟨Â 16,č 3<|Ò 15,3, "work.go:65",#[⟨1,Õ⟩],Á⟩
def H0:å:=⟨Â 17,ë 155 (Ò 4) 2,0, "work.go:65",#[],Á⟩
def EY:å:=⟨Â 18,č 86<|Ò 17,86, "work.go:65",#[⟨3,Õ⟩],Á⟩
def EZ:å:=⟨Â 19,ĕ<|Ò 18,0, "work.go:65",#[⟨4,Õ⟩],Á⟩
def E0:å:=⟨Â 20,ë 105 (Ò 19) 1,0, "work.go:65",#[⟨5,Õ⟩],Á⟩
def E1:å:=⟨Â 21,č 65<|Ò 20,65, "work.go:65",#[⟨6,Õ⟩],Á⟩
def H2:å:=⟨Â 22,ë 155 (Ò 4) 0,0, "work.go:65",#[],Á⟩
def E2:å:=⟨Â 23,č 148<|Ò 22,148, "work.go:65",#[⟨8,Õ⟩],Á⟩
def Cv:å:=⟨Â 24,Ď {callee:=ü<|ċ 67,args:=#[Ò 21,Ò 23],argTypes:=#[65,148]},9, "work.go:65",#[⟨7,Õ⟩,⟨9,Õ⟩],Á⟩
def Cw:å:=⟨Â 25,Ţ 25 (Ò 14)<|Ò 16,0, "work.go:65",#[⟨0,Õ⟩,⟨2,Õ⟩,⟨0,Ì⟩,⟨1,Ì⟩,⟨2,Ì⟩,⟨3,Ì⟩,⟨4,Ì⟩,⟨5,Ì⟩,⟨6,Ì⟩,⟨7,Ì⟩,⟨8,Ì⟩,⟨9,Ì⟩,⟨10,Ì⟩],Á⟩
def Cx:å:=⟨Á,ŵ 9 (Ò 25)<|Ò 24,0, "work.go:65",#[⟨11,Õ⟩,⟨10,Õ⟩,⟨10,Ŷ⟩,⟨0,Ì⟩,⟨1,Ì⟩,⟨2,Ì⟩,⟨3,Ì⟩,⟨4,Ì⟩,⟨5,Ì⟩,⟨6,Ì⟩,⟨7,Ì⟩,⟨8,Ì⟩,⟨9,Ì⟩,⟨10,Ì⟩],Á⟩
def vK:Array å:=#[HY,HZ,EX,H0,EY,EZ,E0,E1,H2,E2,Cv,Cw,Cx]
def re(tb a b N c:Nat)(d e:Ð)(x:ByteArray):Nat->Ð
 |0=>Æ (Â ⟨b,0,Á⟩) N N
 |1=>À<|Â ⟨tb,1,Á⟩
 |2=>É Î c
 |3=>À<|Â ⟨tb,2,Á⟩
 |4=>À<|Â ⟨a,0,Á⟩
 |5=>À<|Â ⟨a,0,Á⟩
 |6=>À<|Â ⟨a,2,Á⟩
 |7=>e
 |8=>À<|Â ⟨tb,0,Á⟩
 |9=>d
 |10=>á x
 |11=>À<|Â ⟨b,c,Á⟩
 |_=>Å
structure E3(iw:fh)(an pl:Nat)(Q:ByteArray->Prop)(listed:Array Bool)(x:ByteArray)(l:fh):Prop where
 r:iG (λa=>a=⟨an,pl,Á⟩) iw l
 vE:listed.getD 10 Í=Ó->Q x
 I:listed.getD 12 Í=Ó->l.w.cell? ⟨an,pl,Á⟩=Â (á x)
def E3.C{b l:fh}{Q:ByteArray->Prop}{listed:Array Bool}{x:ByteArray}(h:E3 b n j Q listed x l)(e:i≠10)(f:i≠12)(c:b.r ⟨n,j,Á⟩)(d:Þ)(r:fK l l.w d):E3 b n j Q (listed.setIfInBounds i Ó) x {l with w:=d}:=by
 refine⟨h.r.N (λa q=>by rwa[q]) r,λq=> ?_,λq=> ?_⟩
 .rw[è Í e]at q;exact h.vE q
 .rw[è Í f]at q;exact(r.N _<|by rw[h.r.C];exact Ã c).trans<|h.I q
section
variable{J:Jd}{iw:fh}{an pl:Nat}{Q:ByteArray->Prop}
def air(X:gB iw)(hq:¬iw.q)(ht:d.size=26)(Cq:d[1]?=Â (Æ (Â ⟨an,0,Á⟩) i i))(H3:d[4]?=Â (À<|Â ⟨j,0,Á⟩))(hO:iw.O j) (J:iw.w.cell? ⟨j,0,Á⟩=Â v) (K:iw.w.cell? ⟨j,1,Á⟩=Â (É Î pl)) (M:iw.w.cell? ⟨j,2,Á⟩=Â (À<|Â ⟨n,0,Á⟩)) (Y:iw.N ⟨n,2,Á⟩) (nt:iw.w.cell? ⟨n,2,Á⟩=Â z) (B:iw.r ⟨an,pl,Á⟩) (e2:(iw.w.cell? ⟨an,pl,Á⟩).isSome=Ó) (z2:iw.w.frozen? ⟨an,pl,Á⟩=Í) (qc:pl<i) (Re:∀l,iG (λa=>a=⟨an,pl,Á⟩) iw l->∀t lN,fp Ä Í (λP T=>P.d=l.d/\∃V,T=G (t.finish<|á V) lN/\Q V) (ma l)<|G (Ĉ Ä 67 #[z,v] ĥ)<|t::lN) (md:ă) (listed:Array Bool) (a:Š) (l:fh) (b:Nat) (rest:List Nat) (hI:II vK d (re j n an i pl v z) (E3 iw an pl Q) listed a l) (p:b∈Ü md vK listed): fp Ä Í (λP T=>∃I,T=G ((base 51).at I<|Ï vK rest::L) qX/\II vK d (re j n an i pl v z) (E3 iw an pl Q) (listed.setIfInBounds b Ó) I P) l (G ((base 51).at a<|Ï vK (b::rest)::L) qX):=by
 let⟨x,m,s⟩:=hI;have E:s5 vK d.size=Ó:=by rw[ht];decide
 have YO:=QU p;have gH:=EK p;have F:=s.r.fx;have H:¬l.q:=by rwa[s.r.q]
 have W:∀y:ã,y=⟨an,pl,Á⟩->iw.r y:=λy ha=>by rwa[ha]
 have oE:a.tmps[1]?=Â (Æ (Â ⟨an,0,Á⟩) i i):=(m.C A).trans Cq;have Cy:a.tmps[4]?=Â (À<|Â ⟨j,0,Á⟩):=(m.C A).trans H3;have t:∀c g,iw.w.cell? ⟨j,c,Á⟩=Â g->gZ l ⟨j,c,Á⟩/\l.w.cell? ⟨j,c,Á⟩=Â g:=λc g h=>⟨Ã<|Ã<|s.r.O j hO,by rwa[gM<|s.r.r j<|Ã hO]⟩;have QY:¬((⟨n,2,Á⟩:ã)=⟨an,pl,Á⟩):=λq=>X.Y _ B<|q▸Y;have N:gZ l ⟨n,2,Á⟩/\l.w.cell? ⟨n,2,Á⟩=Â z:=⟨Ç (Ç<|by rwa[s.r.c]),by rwa[s.r.e _ (Ç Y) QY]⟩;have QZ:(pl:Int)<(i:Int):=Z
 have jx:vK.size=13:=A
 rw[jx]at gH;match b,gH with
 |0,_=>
  refine iu (o:=HY) E m U U p (by k_ne) F H (λk r=> ?_) (λk r e u=> ?_)<|s.C A A B
  .simp only[re,HY];go_simp
  .simp[go_sem,HY,oE]at u
 |1,_=>
  refine iu (o:=HZ) E m U U p (by k_ne) F H (λk r=> ?_) (λk r e u=> ?_)<|s.C A A B
  .simp only[re,HZ];go_simp
  .simp[go_sem,HZ,Cy]at u
 |2,_=>
  have Q5:a.tmps[15]?=Â (À<|Â ⟨j,1,Á⟩):=m.r 1 HZ 15 U (iq (o:=EX) p U U) U;refine iu (o:=EX) E m U U p (by k_ne) F H (λk r=> ?_) (λk r e u=> ?_)<|s.C A A B
  .have D:k.cell? ⟨j,1,Á⟩=Â (É Î pl):=((t 1 _ K).1.r r).trans (t 1 _ K).2;simp only[re,EX];go_simp
  .have D:k.cell? ⟨j,1,Á⟩=Â (É Î pl):=((t 1 _ K).1.r r).trans (t 1 _ K).2;have I:e=⟨Ā ⟨j,1,Á⟩,Í,Í⟩:=by simp[go_sem,EX,D,Q5]at u;exact u
   subst I;exact(t 1 _ K).1.C
 |3,_=>
  refine iu (o:=H0) E m U U p (by k_ne) F H (λk r=> ?_) (λk r e u=> ?_)<|s.C A A B
  .simp only[re,H0];go_simp
  .simp[go_sem,H0,Cy]at u
 |4,_=>
  have Q6:a.tmps[17]?=Â (À<|Â ⟨j,2,Á⟩):=m.r 3 H0 17 U (iq (o:=EY) p U U) U;refine iu (o:=EY) E m U U p (by k_ne) F H (λk r=> ?_) (λk r e u=> ?_)<|s.C A A B
  .have D:k.cell? ⟨j,2,Á⟩=Â (À<|Â ⟨n,0,Á⟩):=((t 2 _ M).1.r r).trans (t 2 _ M).2;simp only[re,EY];go_simp
  .have D:k.cell? ⟨j,2,Á⟩=Â (À<|Â ⟨n,0,Á⟩):=((t 2 _ M).1.r r).trans (t 2 _ M).2;have I:e=⟨Ā ⟨j,2,Á⟩,Í,Í⟩:=by simp[go_sem,EY,D,Q6]at u;exact u
   subst I;exact(t 2 _ M).1.C
 |5,_=>
  have Rf:a.tmps[18]?=Â (À<|Â ⟨n,0,Á⟩):=m.r 4 EY 18 U (iq (o:=EZ) p U U) U;refine iu (o:=EZ) E m U U p (by k_ne) F H (λk r=> ?_) (λk r e u=> ?_)<|s.C A A B
  .simp only[re,EZ];go_simp
  .simp[go_sem,EZ,Rf]at u
 |6,_=>
  have h19:a.tmps[19]?=Â (À<|Â ⟨n,0,Á⟩):=m.r 5 EZ 19 U (iq (o:=E0) p U U) U;refine iu (o:=E0) E m U U p (by k_ne) F H (λk r=> ?_) (λk r e u=> ?_)<|s.C A A B
  .simp only[re,E0];go_simp
  .simp[go_sem,E0,h19]at u
 |7,_=>
  have LB:a.tmps[20]?=Â (À<|Â ⟨n,2,Á⟩):=m.r 6 E0 20 U (iq (o:=E1) p U U) U;refine iu (o:=E1) E m U U p (by k_ne) F H (λk r=> ?_) (λk r e u=> ?_)<|s.C A A B
  .have D:k.cell? ⟨n,2,Á⟩=Â (z):=(N.1.r r).trans N.2;simp only[re,E1];go_simp
  .have D:k.cell? ⟨n,2,Á⟩=Â (z):=(N.1.r r).trans N.2;have I:e=⟨Ā ⟨n,2,Á⟩,Í,Í⟩:=by simp[go_sem,E1,D,LB]at u;exact u
   subst I;exact N.1.C
 |8,_=>
  refine iu (o:=H2) E m U U p (by k_ne) F H (λk r=> ?_) (λk r e u=> ?_)<|s.C A A B
  .simp only[re,H2];go_simp
  .simp[go_sem,H2,Cy]at u
 |9,_=>
  have HR:a.tmps[22]?=Â (À<|Â ⟨j,0,Á⟩):=m.r 8 H2 22 U (iq (o:=E2) p U U) U;refine iu (o:=E2) E m U U p (by k_ne) F H (λk r=> ?_) (λk r e u=> ?_)<|s.C A A B
  .have D:k.cell? ⟨j,0,Á⟩=Â (v):=((t 0 _ J).1.r r).trans (t 0 _ J).2;simp only[re,E2];go_simp
  .have D:k.cell? ⟨j,0,Á⟩=Â (v):=((t 0 _ J).1.r r).trans (t 0 _ J).2;have I:e=⟨Ā ⟨j,0,Á⟩,Í,Í⟩:=by simp[go_sem,E2,D,HR]at u;exact u
   subst I;exact(t 0 _ J).1.C
 |10,_=>
  have Rh:a.tmps[21]?=Â (z):=m.r 7 E1 21 U (iq (o:=Cv) p U U) U;have h23:a.tmps[23]?=Â (v):=m.r 9 E2 23 U (iq (o:=Cv) p U U) U;refine YI (o:=Cv) E m U U p (by k_ne) F (f:=67) (args:=#[z,v]) (λw=>by simp only[Cv];go_simp) (λw=>ŏ (o:=Cv) U Tryz.func67 U U #[]) λk r=> ?_;have I:=s.r.N W r;refine((Re _ I _ _).ma<|I.G X).fQ ?_;rintro P T ⟨y,⟨hy0,V,rfl,hQ⟩,rfl,hA,YL,aia,aib⟩;refine⟨V,U,⟨I.QV W hA hy0,λ_=>hQ,λq=> ?_⟩,λc hj=> ?_⟩
  .rw[è Í A]at q;exact absurd (m.I (o:=Cx) U q U)<|xf YO
  .match c,hj with
   |10,hj=>exact absurd hj<|xf YO
   |0,_|1,_|2,_|3,_|4,_|5,_|6,_|7,_|8,_|9,_|11,_|12,_|n+13,_=>rfl
 |11,_=>
  have I:a.tmps[14]?=Â (Æ (Â ⟨an,0,Á⟩) i i):=m.r 0 HY 14 U (iq (o:=Cw) p U U) U;have h16:a.tmps[16]?=Â (É Î pl):=m.r 2 EX 16 U (iq (o:=Cw) p U U) U;refine iu (o:=Cw) E m U U p (by k_ne) F H (λk r=> ?_) (λk r e u=> ?_)<|s.C A A B
  .simp only[re,Cw];go_simp
  .simp[go_sem,Cw,qc,QZ,I,h16]at u
 |12,_=>
  have h25:a.tmps[25]?=Â (À<|Â ⟨an,pl,Á⟩):=m.r 11 Cw 25 U (iq (o:=Cx) p U U) U;have Lw:a.tmps[24]?=Â (á x):=m.r 10 Cv 24 U (iq (o:=Cx) p U U) U;have I:(l.w.cell? ⟨an,pl,Á⟩).isSome=Ó:=s.r.g _ U e2;have Cr:l.w.frozen? ⟨an,pl,Á⟩=Í:=(s.r.S _<|Ã B).trans z2;have lE:qu l ⟨an,pl,Á⟩:=Ç (by rwa[s.r.I]);refine QW (o:=Cx) (y:=⟨an,pl,Á⟩) (v:=á x) E m U U U p (by k_ne) F H U lE I Cr (λw D e=> ?_) (λw D e=> ?_) λk r=> ?_
  .let⟨u,hu⟩:=Ö.1 D;simp only[Cx];go_simp
  .let⟨u,hu⟩:=Ö.1 D;simp[go_sem,Cx,h25,Lw,â _ _ _ _ _ _ (show Ú (á x)=Ó from rfl),hu,e]
  .have hA:=s.r.vC X W (x:=⟨an,pl,Á⟩) (v:=á x) U U I;refine⟨hA.N W ⟨r.r,r.I,r.N,r.Y,r.S⟩,λq=> ?_,λq=> ?_⟩
   .rw[è Í A]at q;exact s.vE q
   .exact(r.N _<|by rw[s.r.C];exact Ã B).trans<|tZ (Ö.1 I).choose_spec
 |n+13,h=>exact absurd h Z
end
def zf:Array å:=#[⟨Â 6,.recv 165 (Ò 5) Ó,0, "work.go:63",#[],Á⟩,⟨Â 7,š (Ò 6) 1,4, "work.go:63",#[⟨0,Õ⟩],Á⟩]
def YP:Array å:=#[⟨Â 8,š (Ò 6) 0,155, "work.go:63",#[],Á⟩,⟨Â 4,.alloc 155,0, "work.go:63",#[],Á⟩,⟨Á,ŵ 155 (Ò 4)<|Ò 8,0, "work.go:63",#[⟨1,Õ⟩,⟨0,Õ⟩,⟨0,Ì⟩,⟨1,Ì⟩],Á⟩]
def Ri:Array å:=#[⟨Â 9,ë 155 (Ò 4) 2,0, "work.go:64",#[],Á⟩,⟨Â 10,č 86<|Ò 9,86, "work.go:64",#[⟨0,Õ⟩],Á⟩,⟨Â 11,ĕ<|Ò 10,0, "work.go:64",#[⟨1,Õ⟩],Á⟩,⟨Â 12,ë 105 (Ò 11) 0,0, "work.go:64",#[⟨2,Õ⟩],Á⟩,⟨Â 13,Ď {callee:=ü<|ċ 53,args:=#[Ò 12],argTypes:=#[97]},0, "work.go:64",#[⟨3,Õ⟩],Á⟩]
def E4:ġ:=((ŗ (Ò 7) Ř<|ř 0).seq<|Ħ 1<|(ß 2 YP Í).seq<|(ß 3 Ri Í).seq<|ß 4 vK Ó)
def Cz:ġ:=(ß 1 zf Í).seq E4
def ais:Array å:=#[⟨Â 2,č 101<|Ò 0,101, "work.go:30",#[],Á⟩,
 ⟨Â 3,č 25<|Ò 1,25, "work.go:30",#[],Á⟩,
 ⟨Â 4,Ď {callee:=ü (ċ 51),args:=#[Ò 2,Ò 3],argTypes:=#[165,25]},0, "work.go:30",#[⟨0,Õ⟩,⟨1,Õ⟩],Á⟩]
def H4(a b c d e:Ð):ê:=(base 50).at ⟨#[a,b,c,d,e],[]⟩ [Ï ais [2]]
def YQ(t:Array Ð)(a:List ê):à:=G ((base 51).at ⟨t,[]⟩ [ö Cz,ā Cz,ï 0]) a
def zg(t:Array Ð)(a:List ê):à:=G ((base 51).at ⟨t,[]⟩ [Ï zf [0,1],ö E4,ā Cz,ï 0]) a
def LC(t:Array Ð)(a:List ê):à:=G ((base 51).at ⟨t,[]⟩ [Ï Ri [],ö<|ß 4 vK Ó,ï 1,ā Cz,ï 0]) a
def Rj(t:Array Ð)(a:List ê):à:=G ((base 51).at ⟨t,[]⟩ [Ï zf [1],ö E4,ā Cz,ï 0]) a
def YR(t:Array Ð)(v:Ð)(a:List ê):({zg t a with frame:=(zg t a).frame.finish v}:à)=Rj (t.setIfInBounds 6 v) a:=by have:(zg t a).frame.finish v=(base 51).at (π ⟨t,[]⟩ (Â 6) v) [Ï zf [1],ö E4,ā Cz,ï 0]:=ī _ _ _ _ _ _ _;rw[this];rfl
def zT:Ð:=Ě #[À Á,É Î 0,À Á,À Á]
structure QT(an N ch:Nat)(t:Array Ð):Prop where
 r:t.size=26
 C:t[1]?=Â (Æ (Â ⟨an,0,Á⟩) N N)
 I:t[5]?=Â (é<|Â ch)
def ait(t:Array Ð)(h:t.size=26):∃a b c d e f g i j k l m n o p q r s u v w x y z B C:Ð,t=#[a,b,c,d,e,f,g,i,j,k,l,m,n,o,p,q,r,s,u,v,w,x,y,z,B,C]:=by obtain⟨_,rfl⟩:=s7 t h;exact⟨_,_,_,_,_,_,_,_,_,_,_,_,_,_,_,_,_,_,_,_,_,_,_,_,_,_,U⟩
section
variable{Ψ:Þ->Prop}{J u:Jd}{l:fh}{t:Array Ð}{ch an N:Nat}{a:Option ã}{Q:ByteArray->Prop}{o p r s c f:Ð}{τ:fh->fh}
def YS(a:j2 l)(b:fp Ä Í J l (zg t qX)):fp Ä Í J l (YQ t qX):=by apply fZ (n:=5) a;have hF:=trivial;simp only[YQ,Cz];w_go fB;u_c Ņ fB hF;exact Ë λ_ _=>b
def aiu(a:j2 l)(d:¬l.q)(e:gZ l ⟨k,0,Á⟩)(g:gZ l ⟨b,0,Á⟩)(i:gZ l ⟨n,0,Á⟩)(j:l.w.cell? ⟨k,0,Á⟩=Â (ď (þ 50) #[] #[À<|Â ⟨b,0,Á⟩,À<|Â ⟨n,0,Á⟩]))(u:l.w.cell? ⟨b,0,Á⟩=Â (é<|Â ch))(v:l.w.cell? ⟨n,0,Á⟩=Â (Æ (Â ⟨an,0,Á⟩) N N)) (y:∀t o p r s x z jQ c f,QT an N ch t->fp Ä Í J l (zg t [H4 x z jQ c f,ze m o p r s,oc Ä])): fp Ä Í J l (born Ä<|pH 63 #[À<|Â ⟨m,0,Á⟩,À<|Â ⟨k,0,Á⟩] #[]):=by
 apply fZ (n:=30) a;have hF:=trivial;u_c (Yz Ž fR U) fB hF;walk_nrmf κ;iterate 3 w_go fB
 u_c (Yx U U (by k_ne) U U) fB hF
 walk_nrm;repeat w_go fB
 refine Ë λ_ _=> ?_;apply nG U U (by k_ne) a d e j (λw h=>by go_simp) (λw h=>by simp[go_sem,h]);walk_nrm;apply fZ (n:=30) a;u_c (Yy U U (by k_ne) U U Α fR U) fB hF;walk_nrmf Tryz.f50;w_go fB;refine Ë λ_ _=> ?_;apply nG U U (by k_ne) a d g u (λw h=>by go_simp) (λw h=>by simp[go_sem,h]);walk_nrm;apply nG U U (by k_ne) a d i v (λw h=>by go_simp) (λw h=>by simp[go_sem,h]);walk_nrm;apply fZ (n:=30) a;u_call Β fR Tryz.f51 fB hF;iterate 6 w_go fB
 refine Ë λ_ _=> ?_;exact YS a<|y _ _ _ _ _ _ _ _ _ _ ⟨U,U,U⟩
def aiv{task:Ð}(G:gB l)(M:¬l.q)(P:l.d=0)(hT:QT an N ch t)(hB:60<=i)(aiw:task=Ě #[À a,É Î j7,À<|Â ⟨j9,0,Á⟩,À O])(Q:l.K ⟨j9,0,Á⟩/\l.K ⟨j9,1,Á⟩)(H5:mU j9 l.w) (Rk:l.K ⟨j,0,Á⟩/\l.K ⟨j,1,Á⟩) (hsa:mU j l.w) (hs:gZ l ⟨m,0,Á⟩) (hc:l.w.cell? ⟨m,0,Á⟩=Â (À<|Â ⟨j,0,Á⟩)) (aix:∀H k t',iG (λ_=>False) l H->H.d=0->H.O k->H.w.cell? ⟨k,0,Á⟩=Â (À a)->H.w.cell? ⟨k,1,Á⟩=Â (É Î j7)->H.w.cell? ⟨k,2,Á⟩=Â (À<|Â ⟨j9,0,Á⟩)->QT an N ch t'->t'[4]?=Â (À<|Â ⟨k,0,Á⟩)->u H (LC t' [H4 x z jQ c f,ze m o p r s,oc Ä])): wU Ä Í ch zT (λb=>match b with
  |some v=>λl g=>v=task->qT Ä Í i j9 u .iZ l g
  |none=>λl g=>yw Ä Í j (EI Ä) (kA l) g) l (zg t [H4 x z jQ c f,ze m o p r s,oc Ä]):=by
 obtain⟨y0,y1,y2,y3,y4,y5,y6,y7,y8,y9,xh,zd,xi,rW,rX,qW,vF,uA,uB,uC,s8,s9,td,tf,uD,vG,rfl⟩:=ait t hT.r;obtain rfl:y1=Æ (Â ⟨an,0,Á⟩) N N:=by simpa using hT.C
 obtain rfl:y5=é (Â ch):=by simpa using hT.I
 have hF:=trivial;refine⟨U,U,λD=> ?_,λb=> ?_⟩
 .refine(Κ (cases:=#[rcase ch zT]) (blocking:=Ó) (shape:=.recv Ó) (w':=D) rfl rfl (by k_ne) ?_).trans ?_
  .simp[go_sem,zf,đ,rcase,zT]
  .simp[listed,go_sem,zf,đ,Ĳ];rfl
 cases b with
 |none=>
  rw[YR];simp only[Rj,E4,zf,Option.getD_none,Ľ,Ĝ,ľ,Ŀ];apply fZ (n:=30) G.r;iterate 6 w_go fB
  u_leave0 Β fB hF
  iterate 2 w_go fB
  u_leave0 Α fB hF
  refine Ë λ_ _=> ?_;exact YK (Ψ:=λ_=>True) Rk ⟨Ã Rk.1,Ã Rk.2,λ_ _ _ _ _ _ _ _=>trivial⟩ ⟨G.r,hsa,trivial⟩ P M hs hc
 |some v=>
  by_cases hv:v=task
  .subst hv;subst aiw;apply fp.fQ λl g h _=>h;rw[YR];simp only[Rj,E4,zf,ő,Option.isSome_some,Ĝ,ľ,Ŀ];apply fZ (n:=30) G.r;iterate 7 w_go fB
   u_c Ņ fB hF
   simp only[YP,ņ,Œ,Ŝ,Ű,Ė,ä,List.range.loop];w_go fB;refine Ë λ_ _=> ?_;have rY:∀y:ã,False->l.r y:=λy ha=>ha.elim;refine HS (ob:=Ê #[À Á,É Î 0,À Á,À Á] 155) U U (by k_ne) G.r M (λw=>by go_simp) (λw=>by simp[go_sem]) λD oV=> ?_;walk_nrm;have T:iG (λ_=>False) l (gK l D<|Ê #[À Á,É Î 0,À Á,À Á] 155):=Ly G rY oV;have oE:(gK l D<|Ê #[À Á,É Î 0,À Á,À Á] 155).w.heap[D.heap.size]?=Â (Ê #[À Á,É Î 0,À Á,À Á] 155):=mX;have tj:=oV.r;have I:(gK l D<|Ê #[À Á,É Î 0,À Á,À Á] 155).O D.heap.size:=Ç U;generalize gK l D (Ê #[À Á,É Î 0,À Á,À Á] 155)=l₁ at T oE I|-;generalize D.heap.size=k at oE I tj|-;refine vB U U (by k_ne) λC oh=> ?_;have J:=(oh.I k<|Ã I).trans oE;have E5:C.cell? ⟨k,0,Á⟩=Â (À Á):=by simp[Ù,J]
   have xd:C.cell? ⟨k,1,Á⟩=Â (É Î 0):=by simp[Ù,J]
   have rf:C.cell? ⟨k,2,Á⟩=Â (À Á):=by simp[Ù,J]
   have uG:C.cell? ⟨k,3,Á⟩=Â (À Á):=by simp[Ù,J]
   have hz:∀g,C.frozen? ⟨k,g,Á⟩=Í:=λg=>by simp[ð,J]
   go_simp;refine⟨{l₁ with w:=iV C k (À a) (É Î j7) (À<|Â ⟨j9,0,Á⟩) (À O)},Lz (mH T.fx oh) (by rwa[T.q]) I xg (λg F=>yW F) ⟨U,U,U⟩ λe L=> ?_,?_⟩
   .have E:=ě L;have B:∀g,qu l₁ ⟨k,g,Á⟩:=λg=>Ã I;simp[go_sem,â _ _ _ _ _ _ (show Ú (À a)=Ó from rfl),â _ _ _ _ _ _ (show Ú (À<|Â ⟨j9,0,Á⟩)=Ó from rfl),â _ _ _ _ _ _ (show Ú (À O)=Ó from rfl),E5,xd,rf,uG,hz]at E;rcases E with rfl|rfl|rfl|rfl
    .exact(B _).r
    .exact(B _).r
    .exact(B _).r
    .exact(B _).r
   obtain⟨V,W,L,c3⟩:=Q7 E5 xd rf uG;have E:=Q8 (w':=iV C k (À a) (É Î j7) (À<|Â ⟨j9,0,Á⟩)<|À O) G rY T oh tj xg λg F=>yW F;have X:({l₁ with w:=iV C k (À a) (É Î j7) (À<|Â ⟨j9,0,Á⟩) (À O)}:fh).O k:=I;replace V:({l₁ with w:=iV C k (À a) (É Î j7) (À<|Â ⟨j9,0,Á⟩) (À O)}:fh).w.cell? ⟨k,0,Á⟩=_:=V;replace W:({l₁ with w:=iV C k (À a) (É Î j7) (À<|Â ⟨j9,0,Á⟩) (À O)}:fh).w.cell? ⟨k,1,Á⟩=_:=W;replace L:({l₁ with w:=iV C k (À a) (É Î j7) (À<|Â ⟨j9,0,Á⟩) (À O)}:fh).w.cell? ⟨k,2,Á⟩=_:=L;generalize({l₁ with w:=iV C k (À a) (É Î j7) (À<|Â ⟨j9,0,Á⟩) (À O)}:fh)=l₂ at V W L E X|-;have Y:=E.G G;have qz:¬l₂.q:=by rwa[E.q]
   apply fZ (n:=9) Y.r;iterate 2 w_go fB
   u_c Ņ fB hF
   simp only[Ri,ņ,Œ,Ŝ,Ű,Ė,ä,List.range.loop];w_go fB;refine Ë λ_ _=> ?_;apply nG U U (by k_ne) Y.r qz (Ã<|Ã X) L (λw h=>by go_simp) (λw h=>by simp[go_sem,h]);walk_nrm;apply fZ (n:=9) Y.r;iterate 2 w_go fB
   u_call qV.f_wait (nm_wait Lk) waitFn fB hF
   refine Ë λ_ _=> ?_;have k2:lZ (λw=>fK l₂ l₂.w w) l₂ j9:=⟨Ã (by rw[E.K];exact Q.1),Ã (by rw[E.K];exact Q.2),λw D h1 h2 h3 h4 h5 h=>h.fj ⟨h1,h2,h3,h4,h5⟩⟩;have s2:SW (λw=>fK l₂ l₂.w w) l₂ j9 l₂.w:=⟨Y.r,⟨E.b _ Q.1 H5.1,E.b _ Q.2 H5.2⟩,fK.fW _ _⟩;refine Yv qV hB k2 s2 (E.d.trans P) λD YT=> ?_;walk_nrm;refine .fF λyY F=> ?_;have B:=E.N rY<|YT.2.2.fj ⟨F.r,F.I,F.N,F.Y,F.S⟩;have hdd:=E.d.trans P;have CB:iG (λ_=>False) l ({l₂ with d:=0,w:=yY}:fh):=⟨B.O,B.h,B.Y,B.I,B.c,B.K,B.q,P.symm,B.fx,B.f,B.r,B.e,B.S,B.b,B.g⟩;have rr:=YT.2.2.fj ⟨F.r,F.I,F.N,F.Y,F.S⟩;have cc:∀g,yY.cell? ⟨k,g,Á⟩=l₂.w.cell? ⟨k,g,Á⟩:=λg=>gM<|rr.I k<|Ã X;exact aix {l₂ with d:=0,w:=yY} k _ CB U X ((cc 0).trans V) ((cc 1).trans W) ((cc 2).trans L) ⟨U,U,U⟩ U
  .exact .fF λ_ _ e=>absurd e hv
end
section
variable{J:Jd}{l:fh}{Q:ByteArray->Prop}
def aiy(f:gB l)(C:¬l.q)(g:QT n i j d)(L:d[4]?=Â (À<|Â ⟨m,0,Á⟩))(M:l.O m) (N:l.w.cell? ⟨m,0,Á⟩=Â (À O)) (P:l.w.cell? ⟨m,1,Á⟩=Â (É Î k)) (T:l.w.cell? ⟨m,2,Á⟩=Â (À<|Â ⟨b,0,Á⟩)) (V:l.N ⟨b,2,Á⟩) (W:l.w.cell? ⟨b,2,Á⟩=Â v) (p:l.r ⟨n,k,Á⟩) (X:(l.w.cell? ⟨n,k,Á⟩).isSome=Ó) (Y:l.w.frozen? ⟨n,k,Á⟩=Í) (qc:k<i) (Re:∀e,iG (λa=>a=⟨n,k,Á⟩) l e->∀D E,fp Ä Í (λl'' g'=>l''.d=e.d/\∃F,g'=G (D.finish<|á F) E/\Q F) (ma e)<|G (Ĉ Ä 67 #[v,À O] ĥ)<|D::E) (hJ:∀e x H,iG (λa=>a=⟨n,k,Á⟩) l e->Q x->e.w.cell? ⟨n,k,Á⟩=Â (á x)->QT n i j H->J e (zg H qX)): fp Ä Í J l (LC d qX):=by
 have I:∀y:ã,y=⟨n,k,Á⟩->l.r y:=λy ha=>by rwa[ha]
 have hF:=trivial;apply fZ (n:=3) f.r;simp only[LC];w_go fB;refine Ë λ_ _=> ?_;refine QR (II vK d (re m b n i k (À O) v)<|E3 l n k Q) f.r C (λo h=> ?_) (λs t a l c o u r=>air f C g.r g.C L M N P T V W p X Y qc Re s t a l c o u r) λs t a kt u z B=> ?_
 .refine⟨ByteArray.empty,mV.G _ _ _,(iG.fW f.r).N I ⟨h.r,h.I,h.N,h.Y,h.S⟩,λq=> ?_,λq=> ?_⟩<;>exact absurd q A
 let⟨x,o,h⟩:=u;have K:∀c∈ä 13,t.getD c Í=Ó:=by
  cases s
  .exact qw B z (ä 13) [] fR λc r=>by cases r
  .exact qw B z (ä 13) [] fR λc r=>by cases r
  .exact qw B z (ä 13) [] fR λc r=>by cases r
 have s:=h.r.G f;let⟨z,B⟩:=a;obtain rfl:B=[]:=o.S;have b1:=(o.C A).trans g.C;have b5:=(o.C A).trans g.I;have bs:=o.M.trans g.r;have aiz:=h.vE<|K 10 A;have Rc:=h.I<|K 12 A;apply fZ (n:=9) s.r;iterate 3 w_go fB
 refine Ë λ_ _=> ?_;refine YS s.r (.fF λw₁ r=> ?_);exact hJ {kt with w:=w₁} x z (h.r.N I r) aiz ((r.N _<|Ã<|by rwa[h.r.I]).trans Rc) ⟨bs,b1,b5⟩
end
structure gl(X:Nat->Prop)(l l':fh):Prop where
 O:∀j,l.O j->l'.O j
 c:∀j,l'.O j->l.O j\/l.w.heap.size<=j
 S:l'.I=l.I
 Y:l'.r=l.r
 b:l'.N=l.N
 K:l'.K=l.K
 q:l'.q=l.q
 d:l'.d=l.d
 fx:j2 l'
 I:l.w.heap.size<=l'.w.heap.size
 r:∀j,l.M j->¬X j->l'.w.heap[j]?=l.w.heap[j]?
 f:∀a,l.C a->l'.w.cell? a=l.w.cell? a
 g:∀a,l.C a->l'.w.frozen? a=l.w.frozen? a
 e:∀a,l.K a->(l.w.cell? a).isSome=Ó->(l'.w.cell? a).isSome=Ó
section
variable{l l' l'':fh}
def gl.fW(h:j2 l):gl X l l:=⟨λ_ h=>h,λ_ h=>Ã h,U,U,U,U,U,U,h,Û _,λ_ _ _=>rfl,λ_ _=>rfl,λ_ _=>rfl,λ_ _ h=>h⟩
def gl.C(h:gl X l l'):l'.C=l.C:=by unfold fh.C;rw[h.Y,h.b]
def gl.M(h:gl X l l')(a:l.M b):l'.M b:=a.imp (h.O b)<|by rw[h.S];exact id
def gl.fj(h:gl X l l')(k:gl X l' l''):gl X l l'':=by have e:=h.C;exact⟨λj c=>k.O j<|h.O j c,λj c=>(k.c j c).elim (h.c j) λq=>Ç<|Ø h.I q,k.S.trans h.S,k.Y.trans h.Y,k.b.trans h.b,k.K.trans h.K,k.q.trans h.q,k.d.trans h.d,k.fx,Ø h.I k.I,λj c f=>(k.r j (h.M c) f).trans<|h.r j c f,λa b=>(k.f a<|by rwa[e]).trans<|h.f a b,λa b=>(k.g a<|by rwa[e]).trans<|h.g a b,λa b q=>k.e a (by rwa[h.K])<|h.e a b q⟩
def gl.G(h:gl X l l'){w₁:Þ}(r:fK l' l'.w w₁):gl X l {l' with w:=w₁}:= h.fj ⟨λ_ q=>q,λ_ q=>Ã q,U,U,U,U,U,U,mH h.fx r,r.r,λj a _=>r.I j a,r.N,r.Y,r.S⟩
def gl.fQ{a:Nat->Prop}(h:gl X l l')(c:∀j,l.M j->X j->a j):gl a l l':=⟨h.O,h.c,h.S,h.Y,h.b,h.K,h.q,h.d,h.fx,h.I,λj b e=>h.r j b λq=>e<|c j b q,h.f,h.g,h.e⟩
def gl.N(h:gl X l l')(s:gB l):gB l' where
 c b hb:=by
  rw[h.S];rcases h.c b hb with q|q
  .exact s.c b q
  .exact λz=>by have:=s.fx b<|Ç z;omega
 Y a ha:=by rw[h.b];exact s.Y a<|by rwa[<-h.Y]
 N a ha hb:=by
  rw[h.C]at ha;rcases hb with q|q
  .rcases h.c _ q with z|z
   .exact s.N a ha<|Ã z
   .have:=s.I a ha;omega
  .rw[h.S]at q;exact s.N a ha<|Ç q
 fx b hb:=by
  rcases hb with q|q
  .exact h.fx b q
  .rw[h.S]at q;exact È (s.fx b<|Ç q) h.I
 I a ha:=by rw[h.C]at ha;exact È (s.I a ha) h.I
 S a ha:=by
  rw[h.K]at ha;let⟨c,d,e⟩:=s.S a ha;refine⟨λq=> ?_,È d h.I,by rwa[h.Y]⟩;rcases q with q|q
  .rcases h.c _ q with z|z
   .exact c<|Ã z
   .omega
  .rw[h.S]at q;exact c<|Ç q
def mY{ob:Η}(s:gB l){w₁:Þ}(r:fK l l.w w₁):gl X l (gK l w₁ ob):=by have h:=Ly (E:=λ_=>False) (ob:=ob) s (λ_ q=>q.elim) r;exact⟨h.O,h.h,h.Y,h.I,h.c,h.K,h.q,h.d,h.fx,h.f,λj b _=>h.r j b,λa c=>h.e a c id,h.S,h.b⟩
def LD{w':Þ}{p:Nat}(s:gB l)(r:fK l l.w u)(c:l.O p)(g:X p)(d:w'.heap.size=u.heap.size)(b:∀j,j≠p->w'.heap[j]?=u.heap[j]?):gl X l {l with w:=w'}:=by
 have f:∀a:ã,l.C a->a.block≠p:=λa h e=>s.N a h<|Ã<|e▸c;refine⟨λ_ q=>q,λ_ q=>Ã q,U,U,U,U,U,U,λj q=> ?_,?_,λj q n=> ?_,λa q=> ?_,λa q=> ?_,λa q z=> ?_⟩
 .show j<w'.heap.size;rw[d];exact È (s.fx j<|Ã q) r.r
 .show l.w.heap.size<=w'.heap.size;rw[d];exact r.r
 .exact(b j λe=>n<|e▸g).trans<|r.I j q
 .exact(gM<|b _<|f a q).trans<|r.N a q
 .exact(wT<|b _<|f a q).trans<|r.Y a q
 .show(w'.cell? a).isSome=Ó;rw[gM (b a.block λe=>(s.S a q).1<|Ã<|e▸c)];exact r.S a q z
end
section
variable{J:Jd}{l:fh}{a:Š}{k:List ż}{cs:List ê}{ob:Η}
def pK{V:Nat->Ð}(c:Q[i]?=Â o)(d:ğ o (ŷ Q a.tmps)=Ó)(e:f.kind≠Θ)(g:j2 l)(h:¬l.q) (j:∀w,(đ a.eval o).run P w=.ok (.value<|V w.heap.size) (w.alloc ob)) (m:∀w,(đ a.eval o).events P w #[]=#[]) (n:∀b,fK l l.w b->fp P yQ J (gK l b ob) (G (f.at (a.put o.dst<|V b.heap.size)<|Ï Q jJ::k) cs)):fp P yQ J l (G (f.at a<|Ï Q (i::jJ)::k) cs):=by
 refine vB c d e λb r=> ?_;rw[j b];refine⟨_,?_,n b r⟩;have:listed P f.fn a o b=#[]:=by unfold listed;rw[m b,Ĳ]
 rw[this];exact YM (mH g r) h
def H6{p off:Nat}{u:Ð}(m:Q[i]?=Â o)(n:ğ o (ŷ Q a.tmps)=Ó)(s:f.kind≠Θ)(t:j2 l)(x:¬l.q)(b:l.O p)(d:l.w.cell? ⟨p,off,Á⟩=Â u)(y:l.w.frozen? ⟨p,off,Á⟩=Í)(z:o.dst=Á) (B:∀w,w.cell? ⟨p,off,Á⟩=Â u->w.frozen? ⟨p,off,Á⟩=Í->(đ a.eval o).run P w=.ok .skip (w.setCell ⟨p,off,Á⟩ v)) (C:∀w,w.cell? ⟨p,off,Á⟩=Â u->w.frozen? ⟨p,off,Á⟩=Í->(đ a.eval o).events P w #[]=#[⟨Ā ⟨p,off,Á⟩,Ó,Í⟩]) (D:fp P yQ J {l with w:=l.w.setCell ⟨p,off,Á⟩ v} (G (f.at a<|Ï Q jJ::k) cs)):fp P yQ J l (G (f.at a<|Ï Q (i::jJ)::k) cs):=by
 have E:gZ l ⟨p,off,Á⟩:=Ã<|Ã b;refine vB m n s λg r=> ?_;have c:=(E.r r).trans d;have j:=(wT<|r.I p<|Ã b).trans y;rw[B g c j];refine⟨_,YG U (mH t r) x (Ã b) λe h=> ?_,?_⟩
 .have:=ě h;rw[C g c j]at this;have:e=⟨Ā ⟨p,off,Á⟩,Ó,Í⟩:=by simpa using this
  subst this;exact qu.r<|Ã b
 .have:(a.put o.dst Å)=a:=by rw[z];rfl
  rw[this];exact D.jP<|yP<|YF U (by rw[d];rfl) (by rw[c];rfl) r
def mZ(l:fh)(w₁ a:Þ):fh:={l with O:=λf=>l.O f\/(w₁.heap.size<=f/\f<a.heap.size),w:=a}
def LF(s:gB l){w₁:Þ}(r:fK l l.w w₁){a:Option Nat}(d:w₁.grownBy u a)(c:∀k,a=Â k->l.O k/\X k):gl X l (mZ l w₁ u):=by
 have i:=r.r;have m:=d.size;have b:∀j,j<l.w.heap.size->Â j≠a->u.heap[j]?=w₁.heap[j]?:=λj o g=>d.block j Z g;have f:∀x:ã,l.C x->Â x.block≠a:=λx h e=>s.N x h<|Ã (c _ e.symm).1;refine⟨λ_ q=>Ã q,λj q=>q.imp id λz=>by omega,U,U,U,U,U,U,λj q=> ?_,?_,λj q n=> ?_,λx q=> ?_,λx q=> ?_,λx q z=> ?_⟩
 .show j<u.heap.size;rcases q with q|q
  .have:=s.fx j<|Ã q;omega
  .exact q.2
 .show l.w.heap.size<=u.heap.size;omega
 .exact(b j (s.fx j q) λe=>n (c j e.symm).2).trans<|r.I j q
 .exact(gM<|b _ (s.I x q)<|f x q).trans<|r.N x q
 .exact(wT<|b _ (s.I x q)<|f x q).trans<|r.Y x q
 .show(u.cell? x).isSome=Ó;rw[gM (b x.block (s.S x q).2.1 λe=>(s.S x q).1<|Ã (c _ e.symm).1)];exact r.S x q z
def om{w₁:Þ}{sz:Nat}{xs:List Ð}(h:w.ownsRow i e sz v n xs)(a:∀k,v.ownBlock=Â k->w₁.heap[k]?=w.heap[k]?):w₁.ownsRow i e sz v n xs:=by refine⟨h.1,h.2.imp id ?_⟩;rintro⟨g,b,c,rfl,d,f,j⟩;exact⟨g,b,c,U,d,(a g U).trans f,j⟩
def Rl{p:Nat}{u:Ð}(h:w.cell? ⟨p,0,Á⟩=Â u):∀j y,[u][j]?=Â y->w.cell? ⟨p,j,Á⟩=Â y
 |0,_,e=>Ô e▸h
 |_+1,_,e=>by cases e
def aiA{s a:List Ð}(h:P.underlying t=Â (.slice e))(k:P.info? e=Â zJ)(B:zJ.zero=Â z)(l:zJ.size=m)(C:a.length=m)(F:(n+1)*zJ.bytes<=140737488355328)(G:n+1<=ŧ) (o:w.ownsRow 0 e m v n s) (p:∀j y,a[j]?=Â y->w.cell? ((⟨b,0,Á⟩:ã).add j)=Â y) (H:∀u∈a,u.oneCell'=Ó) (d:(Builtin.append_ #[t,t] T #[v,Æ (Â ⟨b,0,Á⟩) 1 i]).run P w=.ok x W):x.ownBlock=v.ownBlock\/x.ownBlock=Â w.heap.size:=by
 have q:a.length=1*zJ.size:=by rw[l,C];omega
 have L:n+1<=9223372036854775807:=by simp only[ŧ]at G;omega
 rcases o.2 with⟨rfl,rfl⟩|⟨g,r,D,rfl,_,I,M,N,J,O⟩
 .have f:=run_append_nil (P:=P) w t T e zJ z h k B ⟨b,0,Á⟩ 1 i a q p Z Z Z;rw[f]at d;cases d;exact Ç U
 .by_cases E:n+1<=r
  .have K:n*zJ.size+a.length<=D.size:=by
    rw[J,l,C,show n*m+m=(n+1)*m by rw[Nat.add_mul];omega];exact Nat.mul_le_mul_right _ E
   have f:=run_append_room (P:=P) w t T e zJ h k g n r D I ⟨b,0,Á⟩ 1 i a q p H E K;rw[f]at d;cases d;exact Ã U
  .have f:=run_append_grow (P:=P) w t T e zJ z h k B ⟨g,0,Á⟩ n r s (by rw[l];exact o.1) (o.cells (g:=g) U) ⟨b,0,Á⟩ 1 i a q p Z Z<|growslice_fits Z F;rw[f]at d;cases d;exact Ç U
def H7{x:Į}{inf:Μ}{c px sz:Nat}{xs us:List Ð}(ho:Q[i]?=Â o)(hw:ğ o (ŷ Q a.tmps)=Ó)(hk:f.kind≠Θ)(sn:gB l)(hq:¬l.q) (W:o.op=Ď {callee:=Ũ .append,args:=#[qQ,x],argTypes:=#[t,t]}) (X:a.eval qQ=v) (Y:a.eval x=Æ (Â ⟨px,0,Á⟩) 1 c) (E:P.underlying t=Â (.slice e)) (F:P.info? e=Â inf) (H:inf.zero=Â z) (I:inf.size=sz) (jx:0<sz) (LG:us.length=sz) (se:z.cells.size=sz) (K:(n+1)*inf.bytes<=140737488355328) (L:n+1<=ŧ) (lE:l.w.ownsRow 0 e sz v n xs) (C:∀k,v.ownBlock=Â k->l.O k) (Rm:l.O px) (hu:∀j u,us[j]?=Â u->l.w.cell? ⟨px,j,Á⟩=Â u) (d:∀u∈us,u.oneCell'=Ó) (hn:∀b B g,fK l l.w b->g.ownsRow 0 e sz B (n+1) (xs++us)->b.grownBy g v.ownBlock->(∀k,B.ownBlock=Â k->(mZ l b g).O k)->(B.ownBlock=v.ownBlock\/B.ownBlock=Â b.heap.size)->fp P yQ J (mZ l b g) (G (f.at (a.put o.dst B)<|Ï Q jJ::k) cs)): fp P yQ J l (G (f.at a<|Ï Q (i::jJ)::k) cs):=by
 refine vB ho hw hk λb r=> ?_;have hM:∀k,l.O k->b.heap[k]?=l.w.heap[k]?:=λk q=>r.I k<|Ã q;have M:=om lE (w₁:=b) λk q=>hM k<|C k q;have N:∀j w,us[j]?=Â w->b.cell? ((⟨px,0,Á⟩:ã).add j)=Â w:=λj w h=>by rw[Ĩ,Ė];exact(gM<|hM px Rm).trans<|hu j w h
 have CC:us.length=1*sz:=Z
 let⟨B,g,jd,hown',p,vH⟩:=run_append_own (P:=P) b 0 t o.type e inf z sz inf.bytes E F H I U se jx v n xs M ⟨px,0,Á⟩ 1 c us CC N d L K<|ĉ _;have Ke:=events_append_where (P:=P) b 0 t o.type e inf z sz inf.bytes E F H I U v n xs M ⟨px,0,Á⟩ 1 c us CC N d L K;have uH:=aiA E F H I LG K L M N d jd;refine uponK_append qQ x t W X Y jd ⟨mZ l b g,?_,hn b B g r hown' p (λk q=> ?_) uH⟩
 .have G6:=mH sn.r r;have he:∀D∈listed P f.fn a o b,xe (mZ l b g) D:=λD T=>by
   have h2:=ě T;rw[events_append_op qQ x t W X Y]at h2;rcases Ke D h2 with⟨ad,V,y⟩|⟨m,rfl,aiB⟩
   .refine⟨Ã ⟨ad,V,Ã ?_⟩,by rw[V];simp,by rw[V];simp⟩;rcases y with⟨_,y⟩|y
    .exact Ã<|by rwa[y]
    .exact Ã<|C _ y.symm
   .have uu:m=.noRoom:=aiB;subst uu;exact⟨Ç<|Ã U,ft,ft⟩
  refine⟨p.size,λj q=>q.imp id λz=>z.1,λj q=> ?_,U,U,U,U,λj V d _=>p.block j V λe=>d<|C j e.symm,λy m d _=>gM (p.block _ m λe=>d<|C _ e.symm),λy m d=>wS (p.block _ m λe=>d<|C _ e.symm),p.os,p.output,p.tape,λD T=>(he D T).1,(Ls he _).symm,U,λq=>absurd q hq,U⟩;rcases q with q|q
  .exact È (G6 j q) p.size
  .exact q.2
 .have y:k<g.heap.size:=(hown'.lt k q).2;rcases uH with m|m
  .exact Ã<|C k<|by rwa[<-m]
  .rw[m]at q;obtain rfl:=Ô q;exact Ç ⟨Û _,y⟩
end
def YU:Array å:=#[⟨Â 25,Ų (þ 48) #[] #[Ò 9,Ò 8],1, "work.go:24",#[],Á⟩,⟨Â 26,Ď {callee:=ü<|ċ 47,args:=#[Ò 12,Ò 25],argTypes:=#[97,1]},0, "work.go:24",#[⟨0,Õ⟩],Á⟩]
def YV:Array å:=#[⟨Â 13,ĳ<|ò<|Æ Á 0 0,100, "work.go:25",#[],Á⟩]
def YW:Array å:=#[⟨Â 27,ý<|Ò 2,3, "work.go:26",#[],Á⟩,⟨Â 28,ý<|ò<|É Î 0,3, "work.go:26",#[],Á⟩]
def Rn:Array å:=#[⟨Â 29,ń .lss 3 (Ò 28) (Ò 27) 3,4, "work.go:26",#[],Á⟩]
def YX:Array å:=#[⟨Â 30,ý<|Ò 10,85, "work.go:28",#[],Á⟩,⟨Â 31,Ď {callee:=Ũ .len,args:=#[Ò 30],argTypes:=#[85]},3, "work.go:28",#[⟨0,Õ⟩],Á⟩,⟨Â 32,.makeChan 101<|Ò 31,101, "work.go:28",#[⟨1,Õ⟩],Á⟩,⟨Â 14,.alloc 101,0, "work.go:28",#[],Á⟩,⟨Á,ŵ 101 (Ò 14)<|Ò 32,0, "work.go:28",#[⟨3,Õ⟩,⟨2,Õ⟩,⟨0,Ì⟩,⟨1,Ì⟩,⟨2,Ì⟩,⟨3,Ì⟩],Á⟩]
def YY:Array å:=#[⟨Â 33,ý<|Ò 13,100, "work.go:29",#[],Á⟩,⟨Â 34,č 101<|Ò 14,101, "work.go:29",#[],Á⟩,⟨Â 35,.buildSlice 100 1 #[(0,Ò 34)],100, "work.go:29",#[⟨1,Õ⟩],Á⟩,⟨Â 36,Ď {callee:=Ũ .append,args:=#[Ò 33,Ò 35],argTypes:=#[100,100]},100, "work.go:29",#[⟨0,Õ⟩,⟨2,Õ⟩],Á⟩,⟨Â 13,ĳ<|Ò 36,100, "work.go:29",#[⟨3,Õ⟩,⟨3,Ŷ⟩,⟨0,Ì⟩,⟨1,Ì⟩,⟨2,Ì⟩,⟨3,Ì⟩],Á⟩]
def LH:Array å:=#[⟨Â 37,Ų (þ 50) #[] #[Ò 14,Ò 8],1, "work.go:30",#[],Á⟩,⟨Â 38,Ď {callee:=ü<|ċ 47,args:=#[Ò 12,Ò 37],argTypes:=#[97,1]},0, "work.go:30",#[⟨0,Õ⟩],Á⟩]
def Ro:Array å:=#[⟨Â 39,ń .add 3 (Ò 28) (ò<|É Î 1) 3,3, "work.go:26",#[],Á⟩,⟨Â 28,ý<|Ò 39,3, "work.go:26",#[⟨0,Õ⟩],Á⟩]
def LJ:Array å:=#[⟨Â 40,ý<|Ò 10,85, "work.go:32",#[],Á⟩,⟨Â 41,ý<|Ò 13,100, "work.go:32",#[],Á⟩,⟨Â 42,Ď {callee:=ü<|ċ 52,args:=#[Ò 40,Ò 41],argTypes:=#[85,100]},0, "work.go:32",#[⟨0,Õ⟩,⟨1,Õ⟩],Á⟩]
def LK:Array å:=#[⟨Â 43,Ď {callee:=ü<|ċ 53,args:=#[Ò 12],argTypes:=#[97]},0, "work.go:33",#[],Á⟩]
def H8:å:=⟨Â 44,č 25<|Ò 8,25, "work.go:34",#[],Á⟩
def H9:å:=⟨Â 45,ý<|Ò 11,86, "work.go:34",#[{on:=5,ground:=ø Ñ}],Á⟩
def Ia:å:=⟨Â 46,ĕ<|Ò 45,0, "work.go:34",#[⟨1,Õ⟩,{on:=5,ground:=ø Ñ}],Á⟩
def Ib:å:=⟨Â 47,ë 105 (Ò 46) 1,0, "work.go:34",#[⟨2,Õ⟩,{on:=5,ground:=ø Ñ}],Á⟩
def Ic:å:=⟨Â 48,č 65<|Ò 47,65, "work.go:34",#[⟨3,Õ⟩,{on:=5,ground:=ø Ñ}],Á⟩
def Ie:å:=⟨Â 6,ĳ<|Ò 44,25, "work.go:34",#[⟨0,Õ⟩,⟨0,Ì⟩,{on:=1,ground:=Ý Ñ},{on:=2,ground:=Ý Ñ},{on:=3,ground:=Ý Ñ},{on:=4,ground:=Ý Ñ}],Á⟩
def Ig:å:=⟨Â 7,ĳ<|Ò 48,65, "work.go:34",#[⟨4,Õ⟩,⟨5,Ŷ⟩,⟨0,Ì⟩,⟨1,Ì⟩,⟨2,Ì⟩,⟨3,Ì⟩,⟨4,Ì⟩,⟨5,Ì⟩],Á⟩
def xk:Array å:=#[H8,H9,Ia,Ib,Ic,Ie,Ig]
def LL:ġ:=(ß 14 xk Ó).seq ς
def LN:ġ:=(ß 12 LJ Í).seq<|(ß 13 LK Í).seq LL
def E6:ġ:=(ß 7 Rn Í).seq<|(ŗ (Ò 29) Ř<|ř 0).seq<|(Ħ 1<|(ß 8 YX Í).seq<|(ß 9 YY Í).seq<|ß 10 LH Í).seq<|ß 11 Ro Í
def sA:ġ:=(ß 5 YV Í).seq<|((ß 6 YW Í).seq<|Ħ 0 E6.loop).seq LN
def CH(t:Array Ð)(a:List ê):à:=G ((base 37).at ⟨t,[]⟩ [ö E6,ā E6,ï 0,ö LN]) a
def E7(t:Array Ð):ê:=(base 37).at ⟨t,[]⟩ [Ï YU [1],ö sA]
def LO(t:Array Ð):ê:=(base 37).at ⟨t,[]⟩ [Ï LH [1],ï 1,ö<|ß 11 Ro Í,ā E6,ï 0,ö LN]
def Ih:Array å:=#[⟨Â 6,Ų (þ 63) #[] #[Ò 2,Ò 3],1, "waitgroup.go:238",#[],Á⟩,
 ⟨Á,.go {callee:=ü (Ò 6),args:=#[],argTypes:=#[]},0, "waitgroup.go:238",#[⟨0,Õ⟩],Á⟩]
def tG(c d e f:Ð)(a b:Nat):Array Ð:=#[c,d,À<|Â ⟨a,0,Á⟩,À<|Â ⟨b,0,Á⟩,e,f,ď (þ 63) #[] #[À<|Â ⟨a,0,Á⟩,À<|Â ⟨b,0,Á⟩]]
def CI(a b c d:Ð)(e f:Nat)(g:List ê):à:=G ((base 47).at ⟨tG a b c d e f,[]⟩ [Ï Ih [1]]) g
def Ii(a b c d:Ð)(e f:Nat)(g:List ê):à:=G ((base 47).at ⟨tG a b c d e f,[]⟩ [Ï Ih []]) g
def YZ(c e f g:Ð)(a b:Nat)(h:List ê)(w:Þ):stepG Ä Ó (CI c e f g a b h) w=.spawn (Ii c e f g a b h) (born Ä<|pH 63 #[À<|Â ⟨a,0,Á⟩,À<|Â ⟨b,0,Á⟩] #[]) w #[]:=by
 refine(stepG_spawn (d:=pH 63 #[À<|Â ⟨a,0,Á⟩,À<|Â ⟨b,0,Á⟩] #[]) (w':=w) U U (by k_ne) ?_ U).trans ?_
 .simp[Ih,đ,Ξ,Ģ,ę,tG,pH]
 .have:listed Ä (base 47).fn ⟨tG c e f g a b,[]⟩ Ih[1] w=#[]:=by
   unfold listed;simp[Ih,đ,Ξ,Ģ,ę,tG,Ĳ]
  rw[this];rfl
structure ST(ba all ot n j:Nat)(qs dv:Ð)(t:Array Ð):Prop where
 r:t.size=49
 a:t[8]?=Â (À<|Â ⟨ba,0,Á⟩)
 C:t[10]?=Â qs
 I:t[11]?=Â (À<|Â ⟨ot,0,Á⟩)
 M:t[12]?=Â (À<|Â ⟨all,0,Á⟩)
 N:t[13]?=Â dv
 S:t[27]?=Â (É Î n)
 Y:t[28]?=Â (É Î j)
structure Ij(ba all ot n:Nat)(qs:Ð)(t:Array Ð):Prop where
 Eo:t.size=49
 t2:t[2]?=Â (É Î n)
 t8:t[8]?=Â (À<|Â ⟨ba,0,Á⟩)
 aiC:t[10]?=Â qs
 aiD:t[11]?=Â (À<|Â ⟨ot,0,Á⟩)
 Rp:t[12]?=Â (À<|Â ⟨all,0,Á⟩)
def Ik(t:Array Ð)(h:t.size=49):∃a b c d e f g i j k l m n o p q r s u v w x y z B C D E F G H I J K L M N O P Q T V W X Y n8 n9 oa rU:Ð,t=#[a,b,c,d,e,f,g,i,j,k,l,m,n,o,p,q,r,s,u,v,w,x,y,z,B,C,D,E,F,G,H,I,J,K,L,M,N,O,P,Q,T,V,W,X,Y,n8,n9,oa,rU]:=by obtain⟨_,rfl⟩:=s7 t h;exact⟨_,_,_,_,_,_,_,_,_,_,_,_,_,_,_,_,_,_,_,_,_,_,_,_,_,_,_,_,_,_,_,_,_,_,_,_,_,_,_,_,_,_,_,_,_,_,_,_,_,U⟩
section
variable{Ψ:Þ->Prop}{J a:Jd}{l:fh}{t:Array Ð}{ba all ot:Nat}{qs dv:Ð}
def aiE(d:j2 l)(a:Ij ba all ot n qs t)(e:∀c,ST ba all ot n 0 qs (Æ Á 0 0) c->fp Ä Ó J l (CH c qX)):fp Ä Ó J l (Ii v x z jQ b i<|E7 t::qX):=by
 obtain⟨m,o,f,p,q,r,s,u,g,w,h,j,k,y,B,C,D,E,F,G,H,I,K,L,M,N,O,P,Q,T,V,W,X,Y,oZ,o0,oD,qi,qj,qk,qm,qn,qo,qp,qt,n8,n9,oa,rU,rfl⟩:=Ik t a.Eo;obtain rfl:f=É Î n:=by simpa using a.t2
 obtain rfl:g=À (Â ⟨ba,0,Á⟩):=by simpa using a.t8
 obtain rfl:h=qs:=by simpa using a.aiC
 obtain rfl:j=À (Â ⟨ot,0,Á⟩):=by simpa using a.aiD
 obtain rfl:k=À (Â ⟨all,0,Á⟩):=by simpa using a.Rp
 apply fZ (n:=40) d;have hF:=trivial;simp only[Ii,E7,YU];iterate 2 w_go fB
 u_leave0 į fB hF
 simp only[sA,YV,YW];iterate 13 w_go fB
 refine Ë λ_ _=> ?_;exact e _ ⟨U,U,U,U,U,U,U,U⟩
def aiF(d:j2 l)(a:ST ba all ot n j qs dv t)(q:j<1000)(e:∀c,ST ba all ot n (j+1) qs dv c->fp Ä Ó J l (CH c qX)):fp Ä Ó J l (Ii v x z jQ b i<|LO t::qX):=by
 obtain⟨r,s,u,w,y,B,C,D,f,E,g,h,k,m,F,G,H,I,K,L,M,N,O,P,Q,T,V,o,p,W,X,Y,pF,pG,oZ,o0,oD,qi,qj,qk,qm,qn,qo,qp,qt,n8,n9,oa,rU,rfl⟩:=Ik t a.r;obtain rfl:f=À (Â ⟨ba,0,Á⟩):=by simpa using a.a
 obtain rfl:g=qs:=by simpa using a.C
 obtain rfl:h=À (Â ⟨ot,0,Á⟩):=by simpa using a.I
 obtain rfl:k=À (Â ⟨all,0,Á⟩):=by simpa using a.M
 obtain rfl:m=dv:=by simpa using a.N
 obtain rfl:o=É Î n:=by simpa using a.S
 obtain rfl:p=É Î j:=by simpa using a.Y
 apply fZ (n:=40) d;have hF:=trivial;simp only[Ii,LO,LH];iterate 2 w_go fB
 u_leave0 į fB hF
 simp only[Ro];iterate 7 w_go fB
 refine Ë λ_ _=> ?_;refine e _ ⟨U,U,U,U,U,U,U,?_⟩;simp;exact Ct Z Z
end
section
variable{l l' y:fh}
def gl.gh(h:gl X l l')(s:gB l){p off:Nat}(c:l.w.heap.size<=p):gl X l {l' with w:=l'.w.setCell ⟨p,off,Á⟩ v}:=by
 have b:∀j,j<l.w.heap.size->(l'.w.setCell ⟨p,off,Á⟩ v).heap[j]?=l'.w.heap[j]?:=λj e=>lr (by show j≠p;omega);refine⟨h.O,h.c,h.S,h.Y,h.b,h.K,h.q,h.d,λj q=> ?_,?_,λj q n=>(b j<|s.fx j q).trans<|h.r j q n,λa q=>(gM<|b _<|s.I a q).trans<|h.f a q,λa q=>sW.trans<|h.g a q,λa q z=>yv<|h.e a q z⟩
 .show j<(l'.w.setCell ⟨p,off,Á⟩ v).heap.size;rw[jT];exact h.fx j q
 .show l.w.heap.size<=(l'.w.setCell ⟨p,off,Á⟩ v).heap.size;rw[jT];exact h.I
structure ia(l:fh)(b:Nat)(o:Η):Prop where
 fu:l.O b
 I:l.w.heap[b]?=Â o
def ia.r{o:Η}(h:ia l b o)(k:gl X l l')(a:¬X b):ia l' b o:=⟨k.O b h.fu,(k.r b (Ã h.fu) a).trans h.I⟩
def ia.C(h:ia l b (Ê d e xJ))(a:d[i]?=Â v):l.w.cell? ⟨b,i,Á⟩=Â v:=by simp[Ù,h.I,a]
end
def Y0{sz:Nat}{xs:List Ð}(h:w.ownsRow i e sz v n xs)(a:w.heap.size<=b):¬(Â b=v.ownBlock):=λq=>by have:=(h.lt b q.symm).2;omega
structure Y1(ba all q:Nat)(CJ:Ð)(xs:List Ð)(ch bd bw bf:Nat)(l':fh):Prop where
 S:l'.w.ownsRow 0 101 1 CJ xs.length xs
 M:∀k,CJ.ownBlock=Â k->l'.O k
 r:ia l' ch (ũ q #[] Í 0 0 Í)
 C:ia l' bd (Ê #[é<|Â ch] 101)
 N:ia l' bw (Ê #[À<|Â ⟨all,0,Á⟩] 162)
 I:ia l' bf (Ê #[ď (þ 50) #[] #[À<|Â ⟨bd,0,Á⟩,À<|Â ⟨ba,0,Á⟩]] 1)
section
variable{g:Jd}{l:fh}{t:Array Ð}{ba all q:Nat}{f:Option ã}{xs:List Ð}
def aiG(y:gB l)(F:¬l.q)(hd:l.d=0)(G:ST ba all m n j (Æ f q i) x t)(yD:j<n)(hn:n<1000)(tq:q<1000)(LP:l.K ⟨all,0,Á⟩/\l.K ⟨all,1,Á⟩)(H5:mU all l.w) (lE:l.w.ownsRow 0 101 1 x j xs) (hO:∀k,x.ownBlock=Â k->l.O k) (hJ0:∀l' t' a r B T C v1,gl (λb=>Â b=x.ownBlock) l l'->ST ba all m n j (Æ f q i) C t'->Y1 ba all q C (xs++[é<|Â a]) a r B T l'->l.w.heap.size<=a->a<r->r<B->B<T->(∀k,C.ownBlock=Â k->k≠a/\k≠r/\k≠B/\k≠T)->g l' (CI (À<|Â ⟨all,0,Á⟩) v1 (À<|Â ⟨all,0,Á⟩) (ñ #[]) B T<|LO t'::qX)): fp Ä Ó (Lr Ä Ó all g) l (CH t qX):=by
 obtain⟨y0,y1,y2,y3,y4,y5,y6,y7,y8,y9,xh,zd,xi,rW,rX,qW,vF,uA,uB,uC,s8,s9,td,tf,uD,vG,xj,tg,qY,qx,qy,n7,pF,pG,oZ,o0,oD,qi,qj,qk,qm,qn,qo,qp,qt,n8,n9,oa,rU,rfl⟩:=Ik t G.r;obtain rfl:y8=À (Â ⟨ba,0,Á⟩):=by simpa using G.a
 obtain rfl:xh=Æ f q i:=by simpa using G.C
 obtain rfl:zd=À (Â ⟨m,0,Á⟩):=by simpa using G.I
 obtain rfl:xi=À (Â ⟨all,0,Á⟩):=by simpa using G.M
 obtain rfl:x=rW:=(show rW=x by simpa using G.N).symm;obtain rfl:tg=É Î n:=by simpa using G.S
 obtain rfl:qY=É Î j:=by simpa using G.Y
 have ata:(j:Int)<(n:Int):=Z
 have hF:True:=trivial;apply fZ (n:=40) y.r;simp only[CH,E6,Rn,YX];repeat w_go fB
 refine Ë λ_ _=> ?_;have E8:Ä.info? 155=Â Ċ:=Ň;refine pK (V:=λp=>é<|Â p) (ob:=ũ q #[] Í 0 0 Í) U U (by k_ne) y.r F (λw=> ?_) (λw=> ?_) λL oV=> ?_
 .have D:=run_makeChan (P:=Ä) (w:=w) ŀ E8 Î q Z (by simp[Ċ];omega);go_simp
 .simp[go_sem,(events_makeChan (P:=Ä) (w:=w) ŀ E8 Î q Z (by simp[Ċ];omega) #[])]
 walk_nrm;have uE:gl (λ_=>False) l (gK l L<|ũ q #[] Í 0 0 Í):=mY y oV;have c1:ia (gK l L<|ũ q #[] Í 0 0 Í) L.heap.size (ũ q #[] Í 0 0 Í):=⟨Ç U,mX⟩;have Y2:l.w.heap.size<=L.heap.size:=oV.r;generalize gK l L (ũ q #[] Í 0 0 Í)=l₁ at uE c1|-;generalize L.heap.size=a at c1 Y2|-;have tu:=uE.N y;have Y3:¬l₁.q:=by rwa[uE.q]
 refine pK (V:=λp=>À<|Â ⟨p,0,Á⟩) (ob:=Ê #[é Á] 101) U U (by k_ne) tu.r Y3 (λw=>by go_simp) (λw=>by simp[go_sem]) λW oh=> ?_;walk_nrm;have Il:gl (λ_=>False) l (gK l₁ W<|Ê #[é Á] 101):=uE.fj<|mY tu oh;have c2:=c1.r (mY (X:=λ_=>False) (ob:=Ê #[é Á] 101) tu oh) id;have H:ia (gK l₁ W<|Ê #[é Á] 101) W.heap.size (Ê #[é Á] 101):=⟨Ç U,mX⟩;have Kt:a<W.heap.size:=È (tu.fx a<|Ã c1.fu) oh.r;generalize gK l₁ W (Ê #[é Á] 101)=l₂ at Il c2 H|-;generalize W.heap.size=r at H Kt|-;clear c1 uE Y3 tu oh l₁;have rZ:=Il.N y;have qz:¬l₂.q:=by rwa[Il.q]
 refine H6 (p:=r) (off:=0) (v:=é<|Â a) (u:=é Á) U U (by k_ne) rZ.r qz H.fu (H.C U) (by simp[ð,H.I]) U (λw o s=>by go_simp) (λw o s=>by simp[go_sem,o,s]) ?_;have M:gl (λ_=>False) l {l₂ with w:=l₂.w.setCell ⟨r,0,Á⟩ (é<|Â a)}:=Il.gh y Z;have c3:ia {l₂ with w:=l₂.w.setCell ⟨r,0,Á⟩ (é<|Â a)} a (ũ q #[] Í 0 0 Í):=⟨c2.fu,(lr<|by show a≠r;omega).trans c2.I⟩;have Y:ia {l₂ with w:=l₂.w.setCell ⟨r,0,Á⟩ (é<|Â a)} r (Ê #[é<|Â a] 101):=⟨H.fu,by show(l₂.w.setCell ⟨r,0,Á⟩<|é<|Â a).heap[r]?=_;unfold Ą;simp[î,H.I]⟩;generalize({l₂ with w:=l₂.w.setCell ⟨r,0,Á⟩ (é<|Â a)}:fh)=kt at M c3 Y|-;clear c2 H Il rZ qz l₂;have N:=M.N y;have uF:¬kt.q:=by rwa[M.q]
 have E9:∀k,x.ownBlock=Â k->kt.O k:=λk e=>M.O k<|hO k e;have LQ:kt.w.ownsRow 0 101 1 x j xs:=om lE λk e=>M.r k (Ã<|hO k e) id;apply fZ (n:=10) N.r;simp only[YY,LH];iterate 4 w_go fB
 refine Ë λ_ _=> ?_;apply nG (x:=⟨r,0,Á⟩) U U (by k_ne) N.r uF (Ã<|Ã Y.fu) (Y.C U) (λw h=>by go_simp) (λw h=>by simp[go_sem,h]);walk_nrm;refine pK (V:=λp=>Æ (Â ⟨p,0,Á⟩) 1 1) (ob:=Ê #[é<|Â a] 101) U U (by k_ne) N.r uF (λw=>by go_simp) (λw=>by simp[go_sem]) λI CK=> ?_;walk_nrm;have CB:gl (λ_=>False) l (gK kt I<|Ê #[é<|Â a] 101):=M.fj<|mY N CK;have k4:=mY (X:=λ_=>False) (ob:=Ê #[é<|Â a] 101) N CK;have c4:=c3.r k4 id;have d4:=Y.r k4 id;have p4:ia (gK kt I<|Ê #[é<|Â a] 101) I.heap.size (Ê #[é<|Â a] 101):=⟨Ç U,mX⟩;have Rm:r<I.heap.size:=È (N.fx r<|Ã Y.fu) CK.r;have xl:∀k,x.ownBlock=Â k->(gK kt I<|Ê #[é<|Â a] 101).O k:=λk e=>Ã<|E9 k e;have CL:=om LQ (w₁:=(gK kt I<|Ê #[é<|Â a] 101).w) λk e=>k4.r k (Ã<|E9 k e) id;generalize gK kt I (Ê #[é<|Â a] 101)=l₄ at CB c4 d4 p4 xl CL|-;generalize I.heap.size=px at p4 Rm|-;clear c3 Y M N uF E9 LQ k4 CK kt;have zh:=CB.N y;have CM:¬l₄.q:=by rwa[CB.q]
 refine H7 (v:=x) (us:=[é<|Â a]) (px:=px) (c:=1) (n:=j) (xs:=xs) (inf:=Χ) (z:=é Á) U U (by k_ne) zh CM U U U Tryz.underlying100 Tryz.type101 U U Nat.one_pos U U (by simp[Χ];omega) (by simp only[ŧ];omega) CL xl p4.fu (Rl<|p4.C U) (λ_ D=>List.mem_singleton.1 D▸rfl) λtw C Q CN p7 Im vL uH=> ?_;walk_nrm;have Y4:∀b,l.w.heap.size<=b->¬(Â b=x.ownBlock):=λb hb=>Y0 lE hb;have k5:gl (λb=>Â b=x.ownBlock) l₄ (mZ l₄ tw Q):=LF zh CN Im λk e=>⟨xl k e,e.symm⟩;have vM:gl (λb=>Â b=x.ownBlock) l (mZ l₄ tw Q):=(CB.fQ λ_ _ q=>q.elim).fj k5;have c5:=c4.r k5<|Y4 a Z;have d5:=d4.r k5<|Y4 r Z;have hl4:px<tw.heap.size:=È (zh.fx px<|Ã p4.fu) CN.r;have LU:∀k,C.ownBlock=Â k->k<Q.heap.size/\k≠a/\k≠r:=λk e=>by
  have D:=(p7.lt k e).2;rcases uH with z|z
  .rw[z]at e;have:=(lE.lt k e).2;exact⟨D,Z,Z⟩
  .rw[z]at e;obtain rfl:=Ô e;exact⟨D,Z,Z⟩
 have xm:(mZ l₄ tw Q).w.ownsRow 0 101 1 C (j+1) (xs++[é<|Â a]):=p7;have LV:(mZ l₄ tw Q).w.heap.size=Q.heap.size:=U;generalize mZ l₄ tw Q=tx at vM c5 d5 xm vL LV|-;rw[<-LV]at LU;clear k5 Im p7 uH c4 d4 p4 CB zh CM xl CL CN l₄ LV;have sf:=vM.N y;have Y5:¬tx.q:=by rwa[vM.q]
 apply fZ (n:=20) sf.r;iterate 4 w_go fB
 u_call į fR ν fB hF
 iterate 2 w_go fB
 refine Ë λ_ _=> ?_;refine pK (V:=λp=>À<|Â ⟨p,0,Á⟩) (ob:=Ê #[À<|Â ⟨all,0,Á⟩] 162) U U (by k_ne) sf.r Y5 (λw=>by go_simp) (λw=>by simp[go_sem]) λD LW=> ?_;walk_nrm;have k6:=mY (X:=λ_=>False) (ob:=Ê #[À<|Â ⟨all,0,Á⟩] 162) sf LW;have CO:gl (λb=>Â b=x.ownBlock) l (gK tx D<|Ê #[À<|Â ⟨all,0,Á⟩] 162):=vM.fj (k6.fQ λ_ _ q=>q.elim);have c6:=c5.r k6 id;have d6:=d5.r k6 id;have g6:ia (gK tx D<|Ê #[À<|Â ⟨all,0,Á⟩] 162) D.heap.size (Ê #[À<|Â ⟨all,0,Á⟩] 162):=⟨Ç U,mX⟩;have CP:r<D.heap.size:=È (sf.fx r<|Ã d5.fu) LW.r;have Io:∀k,C.ownBlock=Â k->k<D.heap.size/\k≠a/\k≠r:=λk e=>⟨È (LU k e).1 LW.r,(LU k e).2⟩;have LX:∀k,C.ownBlock=Â k->(gK tx D<|Ê #[À<|Â ⟨all,0,Á⟩] 162).O k:=λk e=>Ã<|vL k e;have Rq:=om xm (w₁:=(gK tx D<|Ê #[À<|Â ⟨all,0,Á⟩] 162).w) λk e=>k6.r k (Ã<|vL k e) id;generalize gK tx D (Ê #[À<|Â ⟨all,0,Á⟩] 162)=CQ at CO c6 d6 g6 LX Rq|-;generalize D.heap.size=B at g6 CP Io|-;clear k6 c5 d5 vM sf Y5 vL xm LU LW tx;have LY:=CO.N y;have Y6:¬CQ.q:=by rwa[CO.q]
 refine pK (V:=λp=>À<|Â ⟨p,0,Á⟩) (ob:=Ê #[ď (þ 50) #[] #[À<|Â ⟨r,0,Á⟩,À<|Â ⟨ba,0,Á⟩]] 1) U U (by k_ne) LY.r Y6 (λw=>by go_simp) (λw=>by simp[go_sem]) λJ Rr=> ?_;walk_nrm;have k7:=mY (X:=λ_=>False) (ob:=Ê #[ď (þ 50) #[] #[À<|Â ⟨r,0,Á⟩,À<|Â ⟨ba,0,Á⟩]] 1) LY Rr;have E:gl (λb=>Â b=x.ownBlock) l (gK CQ J<|Ê #[ď (þ 50) #[] #[À<|Â ⟨r,0,Á⟩,À<|Â ⟨ba,0,Á⟩]] 1):=CO.fj (k7.fQ λ_ _ q=>q.elim);have c7:=c6.r k7 id;have d7:=d6.r k7 id;have g7:=g6.r k7 id;have f7:ia (gK CQ J<|Ê #[ď (þ 50) #[] #[À<|Â ⟨r,0,Á⟩,À<|Â ⟨ba,0,Á⟩]] 1) J.heap.size (Ê #[ď (þ 50) #[] #[À<|Â ⟨r,0,Á⟩,À<|Â ⟨ba,0,Á⟩]] 1):=⟨Ç U,mX⟩;have LZ:B<J.heap.size:=È (LY.fx B<|Ã g6.fu) Rr.r;have Rs:∀k,C.ownBlock=Â k->(gK CQ J<|Ê #[ď (þ 50) #[] #[À<|Â ⟨r,0,Á⟩,À<|Â ⟨ba,0,Á⟩]] 1).O k:=λk e=>Ã<|LX k e;have Y7:=om Rq (w₁:=(gK CQ J<|Ê #[ď (þ 50) #[] #[À<|Â ⟨r,0,Á⟩,À<|Â ⟨ba,0,Á⟩]] 1).w) λk e=>k7.r k (Ã<|LX k e) id;generalize gK CQ J (Ê #[ď (þ 50) #[] #[À<|Â ⟨r,0,Á⟩,À<|Â ⟨ba,0,Á⟩]] 1)=CR at E c7 d7 g7 f7 Rs Y7|-;generalize J.heap.size=T at f7 LZ|-;clear k7 c6 d6 g6 CO LY Y6 LX Rq Rr CQ;have L0:=E.N y;apply fZ (n:=10) L0.r;iterate 3 w_go fB
 refine Ë λ_ _=> ?_;apply nG (x:=⟨B,0,Á⟩) U U (by k_ne) L0.r (by rwa[E.q]) (Ã<|Ã g7.fu) (g7.C U) (λw h=>by go_simp) (λw h=>by simp[go_sem,h]);walk_nrm;apply fZ (n:=10) L0.r;u_call qV.f_add (Ι Lk) addFn fB hF;refine Ë λ_ _=> ?_;refine Yw qV (⟨Ã (by rw[E.K];exact LP.1),Ã (by rw[E.K];exact LP.2),λw L o s h3 h4 h5 h=>h.fj ⟨o,s,h3,h4,h5⟩⟩) (⟨L0.r,⟨E.e _ LP.1 H5.1,E.e _ LP.2 H5.2⟩,fK.fW _ _⟩) (E.d.trans hd) λRt Y8=> ?_;walk_nrm;apply fZ (l:={CR with d:=0,w:=Rt}) (n:=10) Y8.1;iterate 3 w_go fB
 refine Ë λ_ _=> ?_;refine .fF λCS xn=> ?_;have rr:fK CR CR.w CS:=Y8.2.2.fj ⟨xn.r,xn.I,xn.N,xn.Y,xn.S⟩;have s:=E.G rr;have hA9:gl (λb=>Â b=x.ownBlock) l ({CR with d:=0,w:=CS}:fh):=⟨s.O,s.c,s.S,s.Y,s.b,s.K,s.q,hd.symm,s.fx,s.I,s.r,s.f,s.g,s.e⟩;have at9:∀{b:Nat} {o:Η},ia CR b o->ia ({CR with d:=0,w:=CS}:fh) b o:=λh=>⟨h.fu,(rr.I _<|Ã h.fu).trans h.I⟩;have hlen:(xs++[é<|Â a]).length=j+1:=by have:=lE.1;simp;omega
 refine hJ0 {CR with d:=0,w:=CS} _ a r B T C _ hA9 ⟨U,U,U,U,U,U,U,U⟩ ⟨?_,Rs,at9 c7,at9 d7,at9 g7,at9 f7⟩ Y2 Kt CP LZ λk e=>⟨(Io k e).2.1,(Io k e).2.2,by have:=(Io k e).1;omega,by have:=(Io k e).1;omega⟩;rw[hlen];exact om Y7 λk e=>rr.I k<|Ã<|Rs k e
end
def rh(l:fh)(b:Nat):fh:={l with O:=λj=>l.O j/\j≠b,K:=λa=>l.K a\/a=⟨b,0,Á⟩\/a=⟨b,1,Á⟩}
def nu(l x:fh)(b:Nat):fh:={x with O:=λj=>x.O j\/j=b,K:=l.K}
section
variable{S:Jd}{l:fh}
def fp.Ru(hK:∀a,l.K a->a.block≠b){x:fh}(h:fp P yQ S x g):¬x.M b->(∀a,x.C a->a.block≠b)->x.K=(rh l b).K->b<x.w.heap.size->(x.w.cell? ⟨b,0,Á⟩).isSome=Ó->(x.w.cell? ⟨b,1,Á⟩).isSome=Ó->j2 x-> fp P yQ (λG H=>∃d,S d H/\G=nu l d b/\¬d.M b/\(∀a,d.C a->a.block≠b)/\d.K=(rh l b).K/\b<d.w.heap.size/\d.w.heap[b]?=x.w.heap[b]?/\d.q=x.q/\j2 d) (nu l x b) g:=by
 have u:∀{x:fh} {c:Þ},x.K=(rh l b).K->(x.w.cell? ⟨b,0,Á⟩).isSome=Ó->(x.w.cell? ⟨b,1,Á⟩).isSome=Ó->fK (nu l x b) x.w c->fK x x.w c:=λ{x c} f i m r=>
  ⟨r.r,λj p=>r.I j<|p.imp Ã id,r.N,r.Y,λa o q=>by
   rw[f]at o;rcases o with z|z|z
   .exact r.S a z q
   .rw[z,gM<|r.I b<|Ã<|Ç U];exact i
   .rw[z,gM (r.I b (Ã (Ç U)))];exact m⟩
 induction h with
 |@fF x g h=>
  intro s t f v i m I;refine .fF λc r=>⟨{x with w:=c},h c<|u f i m r,U,s,t,f,È v r.r,r.I b<|Ã<|Ç U,U,mH I<|u f i m r⟩
 |@jO x g G' W' E' L' jd h hd _ ih=>
  intro s t f v i m I;refine .mk jd λc r=> ?_;have B:=u f i m r;have D:=hd c B;have E:=È v r.r;have J:=λq=>s<|Ã q;have L:=λa e q=>t a (Ã q) e;have N:=r.I b<|Ã<|Ç U;have Q:=D.jV b E J L;have T:¬(L' c).M b:=λq=>q.elim (λz=>(D.S b z).elim J λy=>by omega) λz=>s (Ç<|by rw[<-D.I];exact z);have V:∀a,(L' c).C a->a.block≠b:=λa q=>t a (q.imp (by rw[D.r];exact id)<|by rw[D.M];exact id);have F:(L' c).w.heap[b]?=x.w.heap[b]?:=by rw[D.b];exact Q.trans N
  refine⟨G' c,W' c,E' c,nu l (L' c) b,h c B,?_,?_⟩
  .refine⟨D.C,λj q=> ?_,λj q=> ?_,D.I,D.r,D.M,U,λj p y n=>D.jV j p (λq=>y<|Ã q) n,λa o y n=>D.N a o (λq=>y<|Ã q) n,λa o y=>D.Y a o λq=>y<|Ã q,D.f,D.g,D.m,λe W=> ?_,D.h,D.q,λq=> ?_,D.b⟩
   .rcases q with q|q
    .exact(D.S j q).imp Ã id
    .exact Ã<|Ç q
   .rcases q with q|q
    .exact D.fx j q
    .rw[q];exact È E D.C
   .rcases D.c e W with⟨a,y,n⟩|h|h|h|h|⟨a,y,n⟩
    .exact Ã ⟨a,y,n.imp Ã id⟩
    .exact Ç<|Ã h
    .exact Ç<|Ç<|Ã h
    .exact Ç<|Ç<|Ç<|Ã h
    .exact Ç<|Ç<|Ç<|Ç<|Ã h
    .exact Ç<|Ç<|Ç<|Ç<|Ç ⟨a,Ã y,n⟩
   .let⟨X,Y,z3⟩:=D.i q;exact⟨X,Y,by funext j;show((L' c).O j\/j=b)=(x.O j\/j=b);rw[z3]⟩
  .refine(ih c B T V (D.k.trans f) (by rw[D.b];exact È E D.C) (by rw[gM F];exact i) (by rw[gM F];exact m) λj p=>by rw[D.b];exact D.fx j p).fQ ?_;rintro G H ⟨d,y,j,n,o,p,W,X,Y,q9⟩;exact⟨d,y,j,n,o,p,W,X.trans F,Y.trans D.q,q9⟩
end
section
variable{L:WgLink}{l:fh}{J:Jd}{c:ê}{k:List ż}{ty:Ż}
structure aiH(b:Nat)(cc:Array Ð)(ty:Ż)(l l':fh):Prop where
 r:gl (λj=>j=b) l l'
 O:l'.O=l.O
 C:l'.w.heap[b]?=Â (Ê (cc.setIfInBounds 0<|É ì 4294967296) ty)
def Y9(a:l.O b)(w:Þ)(d:Nat):nu l {rh l b with d:=d,w:=w} b={l with d:=d,w:=w}:=by
 have:(λj=>(l.O j/\j≠b)\/j=b)=l.O:=by
  funext j;refine propext ⟨λh=>h.elim (·.1) λe=>e▸a,λh=> ?_⟩;by_cases e:j=b
  .exact Ç e
  .exact Ã ⟨h,e⟩
 unfold nu rh;simp only[this]
def Za{D:Array Ð}(H:WgLib P L)(s:gB l)(hq:¬l.q)(hd:l.d=0)(x:l.O b)(T:l.w.heap[b]?=Â (Ê D ty))(V:D[0]?=Â (É ì 0))(o:(D[1]?).isSome=Ó) (hT:∀B,aiH b D ty l B->fp P yQ J B (G (c.at (y.put ((Q[i]?).bind (·.dst))<|ñ #[])<|Ï Q jJ::k) qX)): fp P yQ J l (G ((base L.add).at ⟨#[À<|Â ⟨b,0,Á⟩,É Î 1,Å,Å,Å,Å,Å,Å,Å,Å,Å,Å,Å,Å,Å,Å,Å,Å,Å,Å,Å,Å,Å,Å,Å,Å,Å,Å,Å,Å,Å,Å,Å,Å,Å,Å,Å,Å,Å,Å,Å,Å,Å,Å,Å,Å,Å,Å,Å,Å,Å,Å,Å,Å,Å,Å,Å,Å,Å,Å,Å,Å,Å,Å,Å,Å,Å,Å,Å,Å,Å,Å,Å,Å,Å,Å,Å,Å,Å,Å,Å,Å,Å,Å,Å,Å,Å,Å,Å,Å,Å,Å,Å,Å,Å,Å,Å,Å,Å,Å,Å,Å,Å,Å,Å,Å,Å,Å,Å,Å,Å,Å,Å,Å,Å,Å,Å],[]⟩ [ö<|body_add L])<|c.at y (Ï Q (i::jJ)::k)::qX):=by
 have e0:l.w.cell? ⟨b,0,Á⟩=Â (É ì 0):=by simp[Ù,T,V]
 have e1:(l.w.cell? ⟨b,1,Á⟩).isSome=Ó:=by let⟨u,E⟩:=Ö.1 o;simp[Ù,T,E]
 have W:∀y:ã,l.K y->y.block≠b:=λy X e=>(s.S y X).1<|Ã<|e▸x;have gH:=s.fx b<|Ã x;have nM:¬(rh l b).M b:=λq=>q.elim (λz=>z.2 U) λz=>s.c b x z;have nC:∀y:ã,(rh l b).C y->y.block≠b:=λy X e=>s.N y X<|Ã<|e▸x;let J1:Jd:=λB g'=>g'=G (c.at (y.put ((Q[i]?).bind (·.dst))<|ñ #[])<|Ï Q jJ::k) qX/\B={rh l b with d:=0,w:=B.w}/\fK (rh l b) l.w B.w
 have hW:fp P yQ (Lr P yQ b J1) (rh l b) (G ((base L.add).at ⟨#[À<|Â ⟨b,0,Á⟩,É Î 1,Å,Å,Å,Å,Å,Å,Å,Å,Å,Å,Å,Å,Å,Å,Å,Å,Å,Å,Å,Å,Å,Å,Å,Å,Å,Å,Å,Å,Å,Å,Å,Å,Å,Å,Å,Å,Å,Å,Å,Å,Å,Å,Å,Å,Å,Å,Å,Å,Å,Å,Å,Å,Å,Å,Å,Å,Å,Å,Å,Å,Å,Å,Å,Å,Å,Å,Å,Å,Å,Å,Å,Å,Å,Å,Å,Å,Å,Å,Å,Å,Å,Å,Å,Å,Å,Å,Å,Å,Å,Å,Å,Å,Å,Å,Å,Å,Å,Å,Å,Å,Å,Å,Å,Å,Å,Å,Å,Å,Å,Å,Å,Å,Å,Å,Å],[]⟩ [ö<|body_add L])<|c.at y (Ï Q (i::jJ)::k)::qX):=by refine Yw (Ψ:=λw=>fK (rh l b) l.w w) H ⟨Ã<|Ç<|Ã U,Ã<|Ç<|Ç U,λw g o t a m n h=>h.fj ⟨o,t,a,m,n⟩⟩ ⟨λj f=>s.fx j<|Ã f.1,⟨by rw[show(rh l b).w=l.w from rfl,e0];rfl,e1⟩,fK.fW _ _⟩ hd λg v=> ?_;exact .fF λp r=>⟨U,U,v.2.2.fj ⟨r.r,r.I,r.N,r.Y,r.S⟩⟩
 have hstart:=hW.Ru W nM nC U gH (by rw[show(rh l b).w=l.w from rfl,e0];rfl) e1 λj f=>s.fx j<|Ã f.1;rw[show nu l (rh l b) b=l from Y9 x l.w l.d]at hstart;apply hstart.mA;rintro l1 g1 ⟨F,⟨oW,aiI,hA⟩,rfl,Zb,Zc,rN,hlt1,oE,tq,lo1⟩;let⟨g2,Zd,Y⟩:=hA 0;have sY:ì.wrap (0+gd)=gd:=by rw[show(0:Int)+gd=gd from rfl];exact KQ A A
 rw[sY]at Y Zd;rw[if_pos U]at Y;have hqx:¬F.q:=by rwa[tq]
 refine .mk aiI λg r=> ?_;have I:=(r.I b<|Ã<|Ç U).trans<|oE.trans T;have c0:g.cell? (fM b)=Â (É ì 0):=by simp[Ù,fM,I,V]
 have f0:g.frozen? (fM b)=Í:=by simp[ð,fM,I]
 have atb:=È hlt1 r.r;have Ip:(g.setCell (fM b)<|É ì gd).heap[b]?=Â (Ê (D.setIfInBounds 0<|É ì 4294967296) ty):=by unfold Ą;simp[î,fM,I,gd]
 have rx:fK F F.w (g.setCell (fM b)<|É ì gd):=by
  refine⟨by rw[jT];exact r.r,λj f=> ?_,λa m=> ?_,λa m=> ?_,λa m q=> ?_⟩
  .have t:=λe=>Zb (by have n:j=b:=e;rwa[<-n]);exact(lr t).trans<|r.I j<|f.imp Ã id
  .exact(gM<|lr<|Zc a m).trans<|r.N a m
  .exact sW.trans<|r.Y a m
  .rw[rN]at m;refine yv ?_;rcases m with z|z|z
   .exact r.S a z q
   .rw[z,gM<|r.I b<|Ã<|Ç U];rwa[z]at q
   .rw[z,gM<|r.I b<|Ã<|Ç U];rwa[z]at q
 refine⟨g2,_,_,nu l {F with w:=g.setCell (fM b) (É ì gd)} b,Zd g c0 f0,?_,?_⟩
 .refine⟨by rw[jT];exact Û _,λ_ h=>Ã h,λj h=> ?_,U,U,U,U,λj _ o _=>lr λe=>o<|Ç e,λa _ o _=>gM (lr λe=>o<|Ç e),λ_ _ _=>PK,U,U,U,λe t=> ?_,?_,U,λq=>absurd q hqx,U⟩
  .rw[jT];rcases h with h|h
   .exact È (lo1 j h) r.r
   .rwa[h]
  .have:e=ky (fM b)\/e=mT (fM b):=by simpa using t
   rcases this with rfl|rfl
   .exact Ã ⟨fM b,U,Ã<|Ç U⟩
   .exact Ã ⟨fM b,U,Ã<|Ç U⟩
  .exact(œ (λe t=>by
    have:e=ky (fM b)\/e=mT (fM b):=by simpa using t
    rcases this with rfl|rfl<;>exact⟨by simp[ky,mT],by simp[ky,mT]⟩) _).symm
 have hW2:=Y.jP rx;have z0:((g.setCell (fM b)<|É ì gd).cell? ⟨b,0,Á⟩).isSome=Ó:=yv (by rw[show(⟨b,0,Á⟩:ã)=fM b from rfl,c0];rfl);have z1:((g.setCell (fM b)<|É ì gd).cell? ⟨b,1,Á⟩).isSome=Ó:=by let⟨u,E⟩:=Ö.1 o;exact yv<|by simp[Ù,I,E]
 have aiJ:=hW2.Ru W Zb Zc rN (by show b<(g.setCell (fM b)<|É ì gd).heap.size;rwa[jT]) z0 z1 (λj f=>by show j<(g.setCell (fM b)<|É ì gd).heap.size;rw[jT];exact È (lo1 j f) r.r);apply aiJ.mA;rintro l2 g3 ⟨v,⟨na,aiK,g4,aiL,hN2⟩,rfl,nM2,nC2,yR,L3,hb2,qz,lo2⟩;have aiM:¬v.q:=by rwa[qz]
 refine .mk aiK λp n=> ?_;have aiN:=(n.I b<|Ã<|Ç U).trans<|hb2.trans Ip;have N:∀a:ã,a.block=b->p.cell? a=v.w.cell? a:=λa e=>gM<|n.I a.block<|Ã<|Ç e;have rx2:fK v v.w p:=⟨n.r,λj f=>n.I j<|f.imp Ã id,n.N,n.Y,λa m q=>by
  rw[yR]at m;rcases m with z|z|z
  .exact n.S a z q
  .rwa[N a (by rw[z])]
  .rwa[N a (by rw[z])]⟩
 refine⟨g4,p,_,nu l {v with w:=p} b,aiL p,?_,?_⟩
 .refine⟨Û _,λ_ h=>Ã h,λj h=> ?_,U,U,U,U,λ_ _ _ _=>rfl,λ_ _ _ _=>rfl,λ_ _ _=>rfl,U,U,U,λe t=> ?_,?_,U,λq=>absurd q aiM,U⟩
  .rcases h with h|h
   .exact È (lo2 j h) n.r
   .rw[h];exact È L3 n.r
  .have:e=jA (.read<|gQ b):=by simpa using t
   rw[this];exact Ç<|Ç<|Ç<|Ç<|Ç ⟨gQ b,Ç U,Ã U⟩
  .exact(œ (λe t=>by
    have:e=jA (.read<|gQ b):=by simpa using t
    rw[this];exact⟨by simp[jA],by simp[jA]⟩) _).symm
 have hW3:=hN2.jP rx2;have y0:(p.cell? ⟨b,0,Á⟩).isSome=Ó:=by rw[N _ U];have:v.w.heap[b]?=_:=hb2.trans Ip;have t:=(æ.1 V).1;simp[Ù,this,t]
 have y1:(p.cell? ⟨b,1,Á⟩).isSome=Ó:=by rw[N _ U];have:v.w.heap[b]?=_:=hb2.trans Ip;let⟨u,E⟩:=Ö.1 o;have t:=(æ.1 E).1;simp[Ù,this,t]
 have u:=hW3.Ru W nM2 nC2 yR (È L3 n.r) y0 y1 λj f=>È (lo2 j f) n.r;apply u.mA;rintro l3 g5 ⟨x3,⟨rfl,E,t⟩,rfl,nM3,nC3,Ze,Zf,hb3,uF,lo3⟩;rw[E,Y9 x];have Cy:=hb3.trans aiN;refine hT _ ⟨⟨λ_ h=>h,λ_ h=>Ã h,U,U,U,U,U,hd.symm,λj f=>È (s.fx j<|Ã f) t.r,t.r,λj f hn=>t.I j ?_,t.N,t.Y,λa m=>t.S a<|Ã m⟩,U,Cy⟩;exact f.imp (λq=>⟨q,hn⟩) id
end
noncomputable def Rv:ġ:=kX ģ [1,1,1]
noncomputable def Zg:ġ:=kX ģ [1,1,0,1,0,0,1,1,0,0,1,1,1]
noncomputable def Rw:ġ:=kX ģ [1,1,0,1,0,0,1,1,0,0,1,1,0,1]
noncomputable def Iq:ġ:=kX ģ [1,1,0,1,0,0]
noncomputable def Rx:ġ:=kX ģ [1,1,0,1,0,0,1,1,1]
noncomputable def CU (t:Array Ð) (a:List ê):à:=G ((base 46).at ⟨t,[]⟩ [ö Iq,ā Iq,ï 0,ö Rv]) a
noncomputable def Ir (t:Array Ð) (a:List ê):à:=G ((base 46).at ⟨t,[]⟩ [ö Rw,ö Zg,ï 1,ö Rx,ā Iq,ï 0,ö Rv]) a
structure PT(iv qv rs:Ð)(lg R i:Nat)(t:Array Ð):Prop where
 r:t.size=48
 N:t[4]?=Â iv
 S:t[5]?=Â qv
 Y:t[6]?=Â (À<|Â ⟨lg,0,Á⟩)
 C:t[13]?=Â rs
 I:t[14]?=Â (É Î R)
 M:t[15]?=Â (É Î i)
def L4(t:Array Ð)(h:t.size=48):∃a b c d e f g i j k l m n o p q r s u v w x y z B C D E F G H I J K L M N O P Q T V W X Y n8 n9 oa:Ð,t=#[a,b,c,d,e,f,g,i,j,k,l,m,n,o,p,q,r,s,u,v,w,x,y,z,B,C,D,E,F,G,H,I,J,K,L,M,N,O,P,Q,T,V,W,X,Y,n8,n9,oa]:=by obtain⟨_,rfl⟩:=s7 t h;exact⟨_,_,_,_,_,_,_,_,_,_,_,_,_,_,_,_,_,_,_,_,_,_,_,_,_,_,_,_,_,_,_,_,_,_,_,_,_,_,_,_,_,_,_,_,_,_,_,_,U⟩
def aiO(w:Þ)(a c:Option ã)(b:Int):(Ē 155 #[(0,À a),(1,É Î b),(2,À c)]).run Ä w=.ok (Ě #[À a,É Î b,À c,À Á]) w:=run_build w 155 _ _ fR
def aiP(w:Þ)(a c:Option ã)(b:Int):(Ē 155 #[(0,À a),(1,É Î b),(2,À c)]).events Ä w #[]=#[]:=by unfold Ē;simp only[Ş];simp[go_sem]
section
variable{p:Nat}{v0 v1 v2 v3:Ð}
def aiQ(h:w.heap[p]?=Â (Ê #[v,x,z,jQ] e)):(iV w p v0 v1 v2 v3).heap[p]?=Â (Ê #[v0,v1,v2,v3] e):=by unfold iV Ą;simp[î,h]
def gl.iV{l c:fh}(h:gl X l c)(s:gB l)(r:fK c c.w u)(f:l.w.heap.size<=p):gl X l {c with w:=fD.iV u p v0 v1 v2 v3}:=by
 have b:=h.G r;have e:∀{j:Nat},j<l.w.heap.size->(fD.iV u p v0 v1 v2 v3).heap[j]?=u.heap[j]?:=λ{j} q=>yW Z;refine⟨b.O,b.c,b.S,b.Y,b.b,b.K,b.q,b.d,λj q=> ?_,?_,λj q n=>(e<|s.fx j q).trans<|b.r j q n,λa q=>(gM<|e<|s.I a q).trans<|b.f a q,λa q=>(wT<|e<|s.I a q).trans<|b.g a q,λa q z=> ?_⟩
 .show j<(fD.iV u p v0 v1 v2 v3).heap.size;rw[xg];exact b.fx j q
 .show l.w.heap.size<=(fD.iV u p v0 v1 v2 v3).heap.size;rw[xg];exact b.I
 .show((fD.iV u p v0 v1 v2 v3).cell? a).isSome=Ó;rw[gM<|e (s.S a q).2.1];exact b.e a q z
def ia.rly{l:fh}{o:Η}(h:ia l b o)(r:fK l l.w u):ia {l with w:=u} b o:=⟨h.fu,(r.I b<|Ã h.fu).trans h.I⟩
end
section
variable{J:Jd}{l:fh}{t:Array Ð}{iv qv:Ð}{lg R:Nat}{kd:Int}
def aiR(f:gB l)(o:¬l.q)(k:PT iv qv (Æ (Â ⟨j,0,Á⟩) R n) lg R i t)(Zh:i<R)(hR:R<1000)(V:l.M j)(W:l.w.cell? ⟨j,i,Á⟩=Â (À<|Â ⟨b,0,Á⟩))(F:l.M b)(X:l.w.cell? ⟨b,4,Á⟩=Â (É Î kd)) (Y:∀B u a,gl (λ_=>False) l B->l.w.heap.size<=a->ia B a (Ê #[À<|Â ⟨b,0,Á⟩,É Î i,À<|Â ⟨lg,0,Á⟩,À Á] 155)->PT iv qv (Æ (Â ⟨j,0,Á⟩) R n) lg R i u->u[9]?=Â (À<|Â ⟨a,0,Á⟩)->u[28]?=Â (ĭ<|decide<|kd≠1)->fp Ä Ó J B (Ir u qX)): fp Ä Ó J l (CU t qX):=by
 obtain⟨y0,y1,y2,y3,G,H,y6,y7,y8,y9,xh,zd,xi,rW,rX,qW,vF,uA,uB,uC,s8,s9,td,tf,uD,vG,xj,tg,qY,qx,qy,n7,pF,pG,oZ,o0,oD,qi,qj,qk,qm,qn,qo,qp,qt,n8,n9,oa,rfl⟩:=L4 t k.r;obtain rfl:iv=G:=(show G=iv by simpa using k.N).symm;obtain rfl:qv=H:=(show H=qv by simpa using k.S).symm;obtain rfl:y6=À (Â ⟨lg,0,Á⟩):=by simpa using k.Y
 obtain rfl:rW=Æ (Â ⟨j,0,Á⟩) R n:=by simpa using k.C
 obtain rfl:rX=É Î R:=by simpa using k.I
 obtain rfl:qW=É Î i:=by simpa using k.M
 have atc:(i:Int)<(R:Int):=Z
 have hF:True:=trivial;have rY:∀y:ã,False->l.r y:=λy ha=>ha.elim;apply fZ (n:=40) f.r;simp only[CU];conv in Iq=>whnf
 repeat w_go fB
 refine Ë λ_ _=> ?_;apply nG (x:=⟨j,i,Á⟩) U U (by k_ne) f.r o (Ã V) W (λw h=>by go_simp) (λw h=>by simp[go_sem,h]);walk_nrm;apply fZ (n:=40) f.r;repeat w_go fB
 refine Ë λ_ _=> ?_;refine oe (v:=Ě #[À<|Â ⟨b,0,Á⟩,É Î i,À<|Â ⟨lg,0,Á⟩,À Á]) U U (by k_ne) f.r o (λc r=> ?_) (λc r e C=> ?_) ?_
 .have T:=aiO c (Â ⟨b,0,Á⟩) (Â ⟨lg,0,Á⟩) i;go_simp
 .simp[go_sem,aiP c (Â ⟨b,0,Á⟩) (Â ⟨lg,0,Á⟩) i]at C
 walk_nrm;refine HS (ob:=Ê #[À Á,É Î 0,À Á,À Á] 155) U U (by k_ne) f.r o (λw=>by go_simp) (λw=>by simp[go_sem]) λc D=> ?_;walk_nrm;have s:gl (λ_=>False) l (gK l c<|Ê #[À Á,É Î 0,À Á,À Á] 155):=mY f D;have m:ia (gK l c<|Ê #[À Á,É Î 0,À Á,À Á] 155) c.heap.size (Ê #[À Á,É Î 0,À Á,À Á] 155):=⟨Ç U,mX⟩;have E:l.w.heap.size<=c.heap.size:=D.r;generalize gK l c (Ê #[À Á,É Î 0,À Á,À Á] 155)=l₁ at s m|-;generalize c.heap.size=a at m E|-;have I:=s.N f;have K:¬l₁.q:=by rwa[s.q]
 refine vB U U (by k_ne) λd z=> ?_;have g:=m.rly z;replace g:d.heap[a]?=_:=g.I;have L:d.cell? ⟨a,0,Á⟩=Â (À Á):=by simp[Ù,g]
 have N:d.cell? ⟨a,1,Á⟩=Â (É Î 0):=by simp[Ù,g]
 have O:d.cell? ⟨a,2,Á⟩=Â (À Á):=by simp[Ù,g]
 have P:d.cell? ⟨a,3,Á⟩=Â (À Á):=by simp[Ù,g]
 have Q:∀r,d.frozen? ⟨a,r,Á⟩=Í:=λr=>by simp[ð,g]
 go_simp;refine⟨{l₁ with w:=iV d a (À<|Â ⟨b,0,Á⟩) (É Î i) (À<|Â ⟨lg,0,Á⟩) (À Á)},Lz (p:=a) (mH I.r z) K m.fu xg (λr T=>yW T) ⟨U,U,U⟩ λe C=> ?_,?_⟩
 .have T:=ě C;have e:∀r,qu l₁ ⟨a,r,Á⟩:=λr=>Ã m.fu;simp[go_sem,â _ _ _ _ _ _ (show Ú (À<|Â ⟨b,0,Á⟩)=Ó from rfl),â _ _ _ _ _ _ (show Ú (À<|Â ⟨lg,0,Á⟩)=Ó from rfl),â _ _ _ _ _ _ (show Ú (À Á)=Ó from rfl),L,N,O,P,Q]at T;rcases T with rfl|rfl|rfl|rfl
  .exact(e _).r
  .exact(e _).r
  .exact(e _).r
  .exact(e _).r
 have e:gl (λ_=>False) l ({l₁ with w:=iV d a (À<|Â ⟨b,0,Á⟩) (É Î i) (À<|Â ⟨lg,0,Á⟩) (À Á)}:fh):=s.iV f z E;have T:ia ({l₁ with w:=iV d a (À<|Â ⟨b,0,Á⟩) (É Î i) (À<|Â ⟨lg,0,Á⟩) (À Á)}:fh) a (Ê #[À<|Â ⟨b,0,Á⟩,É Î i,À<|Â ⟨lg,0,Á⟩,À Á] 155):=⟨m.fu,aiQ g⟩;generalize({l₁ with w:=iV d a (À<|Â ⟨b,0,Á⟩) (É Î i) (À<|Â ⟨lg,0,Á⟩) (À Á)}:fh)=l₂ at e T|-;clear m s I K g L N O P Q z d l₁ D c;have C:=e.N f;apply fZ (n:=20) C.r;repeat w_go fB
 refine Ë λ_ _=> ?_;apply nG (x:=⟨b,4,Á⟩) U U (by k_ne) C.r (by rwa[e.q]) (Ã<|e.M F) ((gM<|e.r b F id).trans X) (λw h=>by go_simp) (λw h=>by simp[go_sem,h]);walk_nrm;apply fZ (n:=20) C.r;iterate 2 w_go fB
 refine Ë λ_ _=> ?_;apply Y l₂ _ a e E T ⟨U,U,U,U,U,U,U⟩ U;simp;rfl
end
section
variable{J:Jd}{l:fh}{xs:List Ð}
def aiS(s:gB l)(E:¬l.q)(o:PT v x z b j i d)(Zh:i<j)(hR:j<1000)(h9:d[9]?=Â (À<|Â ⟨m,0,Á⟩))(Ry:d[28]?=Â (ĭ Ó))(hn:n<1000) (h:ia l m (Ê #[À<|Â ⟨k,0,Á⟩,É Î i,À<|Â ⟨b,0,Á⟩,À Á] 155)) (lE:l.w.ownsRow 0 155 4 x n xs) (K:∀a,x.ownBlock=Â a->l.O a) (hJ:∀B L t,gl (λf=>Â f=x.ownBlock) l B->B.w.ownsRow 0 155 4 t (n+1) (xs++[À<|Â ⟨k,0,Á⟩,É Î i,À<|Â ⟨b,0,Á⟩,À Á])->(∀a,t.ownBlock=Â a->B.O a)->(t.ownBlock=x.ownBlock\/∃a,t.ownBlock=Â a/\l.w.heap.size<=a)->PT v t z b j (i+1) L->fp Ä Ó J B (CU L qX)): fp Ä Ó J l (Ir d qX):=by
 obtain⟨y0,y1,y2,y3,M,N,y6,y7,y8,y9,xh,zd,xi,P,rX,qW,vF,uA,uB,uC,s8,s9,td,tf,uD,vG,xj,tg,qY,qx,qy,n7,pF,pG,oZ,o0,oD,qi,qj,qk,qm,qn,qo,qp,qt,n8,n9,oa,rfl⟩:=L4 d o.r;obtain rfl:v=M:=(show M=v by simpa using o.N).symm;obtain rfl:x=N:=(show N=x by simpa using o.S).symm;obtain rfl:y6=À (Â ⟨b,0,Á⟩):=by simpa using o.Y
 obtain rfl:y9=À (Â ⟨m,0,Á⟩):=by simpa using h9
 obtain rfl:z=P:=(show P=z by simpa using o.C).symm;obtain rfl:rX=É Î j:=by simpa using o.I
 obtain rfl:qW=É Î i:=by simpa using o.M
 obtain rfl:qY=ĭ Ó:=by simpa using Ry
 have hF:True:=trivial;apply fZ (n:=40) s.r;simp only[Ir];conv in Rw=>whnf
 conv in Rx=>whnf
 repeat w_go fB
 refine Ë λ_ _=> ?_;refine oe (v:=Ě #[À<|Â ⟨k,0,Á⟩,É Î i,À<|Â ⟨b,0,Á⟩,À Á]) U U (by k_ne) s.r E (λp r=> ?_) (λp r e y=> ?_) ?_
 .skip;have C:p.cell? ⟨m,0,Á⟩=Â (À<|Â ⟨k,0,Á⟩):=(gZ.r (show gZ l ⟨m,0,Á⟩from Ã<|Ã h.fu) r).trans<|h.C U;have D:p.cell? ⟨m,1,Á⟩=Â (É Î i):=(gZ.r (show gZ l ⟨m,1,Á⟩from Ã<|Ã h.fu) r).trans<|h.C U;have F:p.cell? ⟨m,2,Á⟩=Â (À<|Â ⟨b,0,Á⟩):=(gZ.r (show gZ l ⟨m,2,Á⟩from Ã<|Ã h.fu) r).trans<|h.C U;have G:p.cell? ⟨m,3,Á⟩=Â (À Á):=(gZ.r (show gZ l ⟨m,3,Á⟩from Ã<|Ã h.fu) r).trans<|h.C U;go_simp
 .have u:∀g,gZ l ⟨m,g,Á⟩:=λg=>Ã<|Ã h.fu;have C:p.cell? ⟨m,0,Á⟩=Â (À<|Â ⟨k,0,Á⟩):=(gZ.r (show gZ l ⟨m,0,Á⟩from Ã<|Ã h.fu) r).trans<|h.C U;have D:p.cell? ⟨m,1,Á⟩=Â (É Î i):=(gZ.r (show gZ l ⟨m,1,Á⟩from Ã<|Ã h.fu) r).trans<|h.C U;have F:p.cell? ⟨m,2,Á⟩=Â (À<|Â ⟨b,0,Á⟩):=(gZ.r (show gZ l ⟨m,2,Á⟩from Ã<|Ã h.fu) r).trans<|h.C U;have G:p.cell? ⟨m,3,Á⟩=Â (À Á):=(gZ.r (show gZ l ⟨m,3,Á⟩from Ã<|Ã h.fu) r).trans<|h.C U;simp[go_sem,C,D,F,G]at y;rcases y with rfl|rfl|rfl|rfl
  .exact(u _).C
  .exact(u _).C
  .exact(u _).C
  .exact(u _).C
 walk_nrm;refine pK (V:=λp=>Æ (Â ⟨p,0,Á⟩) 1 1) (ob:=Ê #[À<|Â ⟨k,0,Á⟩,É Î i,À<|Â ⟨b,0,Á⟩,À Á] 155) U U (by k_ne) s.r E (λw=>by go_simp) (λw=>by simp[go_sem]) λr Q=> ?_;walk_nrm;have p:=mY (X:=λ_=>False) (ob:=Ê #[À<|Â ⟨k,0,Á⟩,É Î i,À<|Â ⟨b,0,Á⟩,À Á] 155) s Q;have y:ia (gK l r<|Ê #[À<|Â ⟨k,0,Á⟩,É Î i,À<|Â ⟨b,0,Á⟩,À Á] 155) r.heap.size (Ê #[À<|Â ⟨k,0,Á⟩,É Î i,À<|Â ⟨b,0,Á⟩,À Á] 155):=⟨Ç U,mX⟩;have C:∀a,x.ownBlock=Â a->(gK l r<|Ê #[À<|Â ⟨k,0,Á⟩,É Î i,À<|Â ⟨b,0,Á⟩,À Á] 155).O a:=λa e=>Ã<|K a e;have F:=om lE (w₁:=(gK l r<|Ê #[À<|Â ⟨k,0,Á⟩,É Î i,À<|Â ⟨b,0,Á⟩,À Á] 155).w) λa e=>p.r a (Ã<|K a e) id;generalize gK l r (Ê #[À<|Â ⟨k,0,Á⟩,É Î i,À<|Â ⟨b,0,Á⟩,À Á] 155)=l₄ at p y C F|-;generalize r.heap.size=px at y|-;have G:=p.N s;have T:¬l₄.q:=by rwa[p.q]
 have E8:Ä.info? 155=Â Ċ:=Ň;refine H7 (v:=x) (us:=[À<|Â ⟨k,0,Á⟩,É Î i,À<|Â ⟨b,0,Á⟩,À Á]) (px:=px) (c:=1) (n:=n) (sz:=4) (xs:=xs) (inf:=Ċ) (z:=Ě #[À Á,É Î 0,À Á,À Á]) U U (by k_ne) G T U U U ň E8 U U Z U U (by simp[Ċ];omega) (by simp only[ŧ];omega) F C y.fu (λg u D=>y.C<|by simpa using D) (by simp[Ú]) λu g D H W Y vL uH=> ?_;walk_nrm;have k5:gl (λf=>Â f=x.ownBlock) l₄ (mZ l₄ u D):=LF G H Y λa e=>⟨C a e,e.symm⟩;have I:gl (λf=>Â f=x.ownBlock) l (mZ l₄ u D):=(p.fQ λ_ _ q=>q.elim).fj k5;have Rz:g.ownBlock=x.ownBlock\/∃a,g.ownBlock=Â a/\l.w.heap.size<=a:=uH.imp id λq=>⟨_,q,Ø p.I H.r⟩;have xm:(mZ l₄ u D).w.ownsRow 0 155 4 g (n+1) (xs++[À<|Â ⟨k,0,Á⟩,É Î i,À<|Â ⟨b,0,Á⟩,À Á]):=W;generalize mZ l₄ u D=tx at I xm vL|-;clear p k5 Y W uH y G T C F H Q;have sf:=I.N s;have hw:Î.wrap ((i:Int)+1)=((i+1:Nat):Int):=by rw[Ct Z Z];omega
 apply fZ (n:=40) sf.r;repeat w_go fB
 refine Ë λ_ _=> ?_;refine hJ tx _ g I xm vL Rz ⟨U,U,U,U,U,U,?_⟩;simp[hw]
def aiT(G:gB l)(hq:¬l.q)(hd:l.d=0)(I:PT v x z b j i d)(Zh:i<j)(hR:j<1000)(h9:d[9]?=Â (À<|Â ⟨m,0,Á⟩))(Ry:d[28]?=Â (ĭ Í))(hn:n<1000) (h0:ia l m (Ê #[À<|Â ⟨k,0,Á⟩,É Î i,À<|Â ⟨b,0,Á⟩,À Á] 155)) (lE:l.w.ownsRow 0 155 4 v n xs) (hO:∀f,v.ownBlock=Â f->l.O f) (tj:v.ownBlock≠Â m) (hJ:∀W t' Y s,gl (λg=>Â g=v.ownBlock\/g=m) l W->W.w.ownsRow 0 155 4 Y (n+1) (xs++[À<|Â ⟨k,0,Á⟩,É Î i,À<|Â ⟨b,0,Á⟩,À<|Â ⟨s,0,Á⟩])->(∀f,Y.ownBlock=Â f->W.O f)->(Y.ownBlock=v.ownBlock\/∃f,Y.ownBlock=Â f/\s<f)->l.w.heap.size<=s->ia W s (Ê #[É ì 4294967296,É û 0,Æ Á 0 0] 105)->PT Y x z s j (i+1) t'->fp Ä Ó J W (CU t' qX)): fp Ä Ó J l (Ir d qX):=by
 obtain⟨y0,y1,y2,y3,y4,y5,y6,y7,y8,y9,xh,zd,xi,rW,rX,qW,vF,uA,uB,uC,s8,s9,td,tf,uD,vG,xj,tg,qY,qx,qy,n7,pF,pG,oZ,o0,oD,qi,qj,qk,qm,qn,qo,qp,qt,n8,n9,oa,rfl⟩:=L4 d I.r;obtain rfl:v=y4:=(show y4=v by simpa using I.N).symm;obtain rfl:x=y5:=(show y5=x by simpa using I.S).symm;obtain rfl:y6=À (Â ⟨b,0,Á⟩):=by simpa using I.Y
 obtain rfl:y9=À (Â ⟨m,0,Á⟩):=by simpa using h9
 obtain rfl:z=rW:=(show rW=z by simpa using I.C).symm;obtain rfl:rX=É Î j:=by simpa using I.I
 obtain rfl:qW=É Î i:=by simpa using I.M
 obtain rfl:qY=ĭ Í:=by simpa using Ry
 have hF:True:=trivial;apply fZ (n:=40) G.r;simp only[Ir];conv in Rw=>whnf
 conv in Zg=>whnf
 conv in Rx=>whnf
 repeat w_go fB
 refine Ë λ_ _=> ?_;refine HS (ob:=Ê #[É ì 0,É û 0,Æ Á 0 0] 105) U U (by k_ne) G.r hq (λw=>by go_simp) (λw=>by simp[go_sem]) λD oV=> ?_;walk_nrm;have t:gl (λ_=>False) l (gK l D<|Ê #[É ì 0,É û 0,Æ Á 0 0] 105):=mY G oV;have F:ia (gK l D<|Ê #[É ì 0,É û 0,Æ Á 0 0] 105) D.heap.size (Ê #[É ì 0,É û 0,Æ Á 0 0] 105):=⟨Ç U,mX⟩;have Is:l.w.heap.size<=D.heap.size:=oV.r;generalize gK l D (Ê #[É ì 0,É û 0,Æ Á 0 0] 105)=l₁ at t F|-;generalize D.heap.size=s at F Is|-;clear oV D;have tu:=t.N G;have tq:¬l₁.q:=by rwa[t.q]
 have htl:m<l.w.heap.size:=G.fx m<|Ã h0.fu;have t1:=h0.r t id;apply fZ (n:=40) tu.r;iterate 7 w_go fB
 u_call qV.f_add (Ι Lk) addFn fB hF
 refine Ë λ_ _=> ?_;refine Za qV tu tq (by rwa[t.d]) F.fu F.I U U λy hC=> ?_;walk_nrm;have E:gl (λg=>g=s) l₁ y:=hC.r;have L5:gl (λ_=>False) l y:=⟨λf q=>E.O f<|t.O f q,λf q=>(E.c f q).elim (t.c f) λh=>Ç<|Ø t.I h,E.S.trans t.S,E.Y.trans t.Y,E.b.trans t.b,E.K.trans t.K,E.q.trans t.q,E.d.trans t.d,E.fx,Ø t.I E.I,λo hj nx=>(E.r o (t.M hj) λe=>by have:=G.fx o hj;omega).trans<|t.r o hj nx,λa H=>(E.f a<|by rwa[t.C]).trans<|t.f a H,λa H=>(E.g a<|by rwa[t.C]).trans<|t.g a H,λa H h=>E.e a (by rwa[t.K])<|t.e a H h⟩;have L:=t1.r E Z;have N:ia y s (Ê #[É ì 4294967296,É û 0,Æ Á 0 0] 105):=⟨E.O s F.fu,hC.C⟩;have rZ:=L5.N G;have qz:¬y.q:=by rwa[L5.q]
 have hgl:s<y.w.heap.size:=rZ.fx s<|Ã N.fu;clear hC E t1 F t tu tq l₁;apply fZ (n:=40) rZ.r;iterate 5 w_go fB
 refine Ë λ_ _=> ?_;refine H6 (p:=m) (off:=3) (v:=À<|Â ⟨s,0,Á⟩) (u:=À Á) U U (by k_ne) rZ.r qz L.fu (L.C U) (by simp[ð,L.I]) U (λw r T=>by go_simp) (λw r T=>by simp[go_sem,â _ _ _ _ _ _ (show Ú (À<|Â ⟨s,0,Á⟩)=Ó from rfl),r,T]) ?_;have P:gl (λg=>g=m) l {y with w:=y.w.setCell ⟨m,3,Á⟩ (À<|Â ⟨s,0,Á⟩)}:=(L5.fQ λ_ _ q=>q.elim).fj (LD (p:=m) rZ (fK.fW _ _) L.fu U jT λo hj=>lr hj);have B:ia {y with w:=y.w.setCell ⟨m,3,Á⟩ (À<|Â ⟨s,0,Á⟩)} m (Ê #[À<|Â ⟨k,0,Á⟩,É Î i,À<|Â ⟨b,0,Á⟩,À<|Â ⟨s,0,Á⟩] 155):=⟨L.fu,by show(y.w.setCell ⟨m,3,Á⟩<|À<|Â ⟨s,0,Á⟩).heap[m]?=_;unfold Ą;simp[î,L.I]⟩;have g3:ia {y with w:=y.w.setCell ⟨m,3,Á⟩ (À<|Â ⟨s,0,Á⟩)} s (Ê #[É ì 4294967296,É û 0,Æ Á 0 0] 105):=⟨N.fu,(lr<|by show s≠m;omega).trans N.I⟩;have aiU:s<({y with w:=y.w.setCell ⟨m,3,Á⟩ (À<|Â ⟨s,0,Á⟩)}:fh).w.heap.size:=by show s<(y.w.setCell ⟨m,3,Á⟩<|À<|Â ⟨s,0,Á⟩).heap.size;rwa[jT]
 generalize({y with w:=y.w.setCell ⟨m,3,Á⟩ (À<|Â ⟨s,0,Á⟩)}:fh)=kt at P B g3 aiU|-;clear L N L5 rZ qz hgl y;have Q:=P.N G;have uF:¬kt.q:=by rwa[P.q]
 have E9:∀f,v.ownBlock=Â f->kt.O f:=λf e=>P.O f<|hO f e;have LQ:kt.w.ownsRow 0 155 4 v n xs:=om lE λf e=>P.r f (Ã<|hO f e) λh=>tj<|h▸e;apply fZ (n:=40) Q.r;iterate 3 w_go fB
 refine Ë λ_ _=> ?_;refine oe (v:=Ě #[À<|Â ⟨k,0,Á⟩,É Î i,À<|Â ⟨b,0,Á⟩,À<|Â ⟨s,0,Á⟩]) U U (by k_ne) Q.r uF (λD r=> ?_) (λD r e he=> ?_) ?_
 .skip;have g0:D.cell? ⟨m,0,Á⟩=Â (À<|Â ⟨k,0,Á⟩):=(gZ.r (show gZ kt ⟨m,0,Á⟩from Ã<|Ã B.fu) r).trans<|B.C U;have F:D.cell? ⟨m,1,Á⟩=Â (É Î i):=(gZ.r (show gZ kt ⟨m,1,Á⟩from Ã<|Ã B.fu) r).trans<|B.C U;have N:D.cell? ⟨m,2,Á⟩=Â (À<|Â ⟨b,0,Á⟩):=(gZ.r (show gZ kt ⟨m,2,Á⟩from Ã<|Ã B.fu) r).trans<|B.C U;have g3:D.cell? ⟨m,3,Á⟩=Â (À<|Â ⟨s,0,Á⟩):=(gZ.r (show gZ kt ⟨m,3,Á⟩from Ã<|Ã B.fu) r).trans<|B.C U;go_simp
 .have T:∀o,gZ kt ⟨m,o,Á⟩:=λo=>Ã<|Ã B.fu;have g0:D.cell? ⟨m,0,Á⟩=Â (À<|Â ⟨k,0,Á⟩):=(gZ.r (show gZ kt ⟨m,0,Á⟩from Ã<|Ã B.fu) r).trans<|B.C U;have F:D.cell? ⟨m,1,Á⟩=Â (É Î i):=(gZ.r (show gZ kt ⟨m,1,Á⟩from Ã<|Ã B.fu) r).trans<|B.C U;have N:D.cell? ⟨m,2,Á⟩=Â (À<|Â ⟨b,0,Á⟩):=(gZ.r (show gZ kt ⟨m,2,Á⟩from Ã<|Ã B.fu) r).trans<|B.C U;have g3:D.cell? ⟨m,3,Á⟩=Â (À<|Â ⟨s,0,Á⟩):=(gZ.r (show gZ kt ⟨m,3,Á⟩from Ã<|Ã B.fu) r).trans<|B.C U;simp[go_sem,g0,F,N,g3]at he;rcases he with rfl|rfl|rfl|rfl
  .exact(T _).C
  .exact(T _).C
  .exact(T _).C
  .exact(T _).C
 walk_nrm;refine pK (V:=λp=>Æ (Â ⟨p,0,Á⟩) 1 1) (ob:=Ê #[À<|Â ⟨k,0,Á⟩,É Î i,À<|Â ⟨b,0,Á⟩,À<|Â ⟨s,0,Á⟩] 155) U U (by k_ne) Q.r uF (λw=>by go_simp) (λw=>by simp[go_sem]) λT CK=> ?_;walk_nrm;have r:=mY (X:=λ_=>False) (ob:=Ê #[À<|Â ⟨k,0,Á⟩,É Î i,À<|Â ⟨b,0,Á⟩,À<|Â ⟨s,0,Á⟩] 155) Q CK;have p4:ia (gK kt T<|Ê #[À<|Â ⟨k,0,Á⟩,É Î i,À<|Â ⟨b,0,Á⟩,À<|Â ⟨s,0,Á⟩] 155) T.heap.size (Ê #[À<|Â ⟨k,0,Á⟩,É Î i,À<|Â ⟨b,0,Á⟩,À<|Â ⟨s,0,Á⟩] 155):=⟨Ç U,mX⟩;have xl:∀f,v.ownBlock=Â f->(gK kt T<|Ê #[À<|Â ⟨k,0,Á⟩,É Î i,À<|Â ⟨b,0,Á⟩,À<|Â ⟨s,0,Á⟩] 155).O f:=λf e=>Ã<|E9 f e;have CL:=om LQ (w₁:=(gK kt T<|Ê #[À<|Â ⟨k,0,Á⟩,É Î i,À<|Â ⟨b,0,Á⟩,À<|Â ⟨s,0,Á⟩] 155).w) λf e=>r.r f (Ã<|E9 f e) id;generalize gK kt T (Ê #[À<|Â ⟨k,0,Á⟩,É Î i,À<|Â ⟨b,0,Á⟩,À<|Â ⟨s,0,Á⟩] 155)=l₄ at r p4 xl CL|-;generalize T.heap.size=px at p4|-;have zh:=r.N Q;have CM:¬l₄.q:=by rwa[r.q]
 have E8:Ä.info? 155=Â Ċ:=Ň;refine H7 (v:=v) (us:=[À<|Â ⟨k,0,Á⟩,É Î i,À<|Â ⟨b,0,Á⟩,À<|Â ⟨s,0,Á⟩]) (px:=px) (c:=1) (n:=n) (sz:=4) (xs:=xs) (inf:=Ċ) (z:=Ě #[À Á,É Î 0,À Á,À Á]) U U (by k_ne) zh CM U U U ň E8 U U Z U U (by simp[Ċ];omega) (by simp only[ŧ];omega) CL xl p4.fu (λo u hu=>p4.C<|by simpa using hu) (by simp[Ú]) λtw CJ L8 CN p7 Im vL uH=> ?_;walk_nrm;have k5:gl (λg=>Â g=v.ownBlock) l₄ (mZ l₄ tw L8):=LF zh CN Im λf e=>⟨xl f e,e.symm⟩;have vM:gl (λg=>Â g=v.ownBlock) kt (mZ l₄ tw L8):=(r.fQ λ_ _ q=>q.elim).fj k5;have Rz:CJ.ownBlock=v.ownBlock\/∃f,CJ.ownBlock=Â f/\kt.w.heap.size<=f:=uH.imp id λq=>⟨_,q,Ø r.I CN.r⟩;have xm:(mZ l₄ tw L8).w.ownsRow 0 155 4 CJ (n+1) (xs++[À<|Â ⟨k,0,Á⟩,É Î i,À<|Â ⟨b,0,Á⟩,À<|Â ⟨s,0,Á⟩]):=p7;generalize mZ l₄ tw L8=tx at vM xm vL|-;clear r k5 Im p7 uH p4 zh CM xl CL CN CK;have sf:=vM.N Q;have hw:Î.wrap ((i:Int)+1)=((i+1:Nat):Int):=by rw[Ct Z Z];omega
 have g5:=g3.r vM<|Y0 lE Is;have CO:gl (λg=>Â g=v.ownBlock\/g=m) l tx:=(P.fQ λ_ _ q=>Ç q).fj (vM.fQ λ_ _ q=>Ã q);apply fZ (n:=40) sf.r;repeat w_go fB
 refine Ë λ_ _=> ?_;refine hJ tx _ CJ s CO xm vL (Rz.imp id λ⟨f,q1,q2⟩=>⟨f,q1,Z⟩) Is g5 ⟨U,U,U,U,U,U,?_⟩;simp[hw]
end
def ic(kd:Nat->Int)(i:Nat):List Nat:=(ä i).filter λj=>decide<|kd j=1
def jC(kd:Nat->Int)(i:Nat):List Nat:=(ä i).filter λj=>decide<|kd j≠1
def fO(kd:Nat->Int)(i:Nat):Nat:=(ic kd i).length
def tI(a g:Nat->Nat)(p:Nat×Nat):List Ð:=[À<|Â ⟨a p.1,0,Á⟩,É Î p.1,À<|Â ⟨g p.2,0,Á⟩,À<|Â ⟨g<|p.2+1,0,Á⟩]
def tQ(kd:Nat->Int)(a g:Nat->Nat)(p:Nat):List Ð:=[À<|Â ⟨a p,0,Á⟩,É Î p,À<|Â ⟨g<|fO kd p,0,Á⟩,À Á]
def jS(kd:Nat->Int)(rq g:Nat->Nat)(i:Nat):List Ð:=(ic kd i).zipIdx.flatMap<|tI rq g
def mJ(kd:Nat->Int)(a g:Nat->Nat)(i:Nat):List Ð:=(jC kd i).flatMap<|tQ kd a g
section
variable{kd:Nat->Int}{rq g:Nat->Nat}
def tA(h:kd i=1):ic kd (i+1)=ic kd i++[i]:=by simp[ic,ą,ć,h]
def vN(h:kd i≠1):ic kd (i+1)=ic kd i:=by simp[ic,ą,ć,h]
def RE(h:kd i=1):jC kd (i+1)=jC kd i:=by simp[jC,ą,ć,h]
def RF(h:kd i≠1):jC kd (i+1)=jC kd i++[i]:=by simp[jC,ą,ć,h]
def RG:∀i,fO kd i<=i:=λi=>by unfold fO ic;exact Ø (Ĭ _ _) ft
def aiV:∀i,(jC kd i).length<=i:=λi=>by unfold jC;exact Ø (Ĭ _ _) ft
def Zi(h:j<=i):fO kd j<=fO kd i:=by
 induction i with
 |zero=>
  have:j=0:=Z
  rw[this];exact Û _
 |succ i c=>
  by_cases e:j=i+1
  .rw[e];exact Û _
  .have a:=c Z;by_cases b:kd i=1
   .unfold fO at a|-;rw[tA b];simp;omega
   .unfold fO at a|-;rwa[vN b]
def aiW(h:kd i=1):jS kd rq g (i+1)=jS kd rq g i++tI rq g (i,fO kd i):=by unfold jS;rw[tA h,List.zipIdx_append,Ĵ];simp[fO]
def aiX(h:kd i≠1):jS kd rq g (i+1)=jS kd rq g i:=by unfold jS;rw[vN h]
def aiY(h:kd i=1):mJ kd rq g (i+1)=mJ kd rq g i:=by unfold mJ;rw[RE h]
def aiZ(h:kd i≠1):mJ kd rq g (i+1)=mJ kd rq g i++tQ kd rq g i:=by unfold mJ;rw[RF h,Ĵ];simp
def RH{α:Type}{f a:α->List Ð}:∀(l:List α),(∀x∈l,f x=a x)->l.flatMap f=l.flatMap a
 |[],_=>rfl
 |x::l,h=>by rw[Č,Č,h x List.mem_cons_self,RH l λy b=>h y<|List.mem_cons_of_mem _ b]
def ai0(h:∀k,k<=fO kd i->D k=g k):jS kd rq D i=jS kd rq g i:=by
 unfold jS;refine RH _ λx a=> ?_;let⟨p,k⟩:=x;have b:=(List.mem_zipIdx a).2.1;have c:k<fO kd i:=by unfold fO;omega
 simp[tI,h k Z,h (k+1) Z]
def ai1(h:∀k,k<=fO kd i->D k=g k):mJ kd rq D i=mJ kd rq g i:=by
 unfold mJ;refine RH _ λp a=> ?_;have b:p<i:=by have:=(Ć.1 a).1;simpa using this
 simp[tQ,h (fO kd p)<|Zi Z]
def RJ{α:Type}{f:α->List Ð}(a:∀x,(f x).length=4)(b:i<4):∀(l:List α) (k:Nat) (x:α),l[k]?=Â x->(l.flatMap f)[k*4+i]?=(f x)[i]?
 |[],k,x,h=>by simp at h
 |y::l,0,x,h=>by
  obtain rfl:y=x:=by simpa using h
  rw[Č,List.getElem?_append_left (by rw[a];omega)];simp
 |y::l,k+1,x,h=>by rw[Č,List.getElem?_append_right (by rw[a];omega),a,show(k+1)*4+i-4=k*4+i by omega];exact RJ a b l k x<|by simpa using h
end
section
variable{Y:Nat->Prop}{l m o:fh}
def gl.vO(h:gl X l m)(k:gl Y m o)(e:∀j,l.M j->¬Y j):gl X l o:= ⟨λj q=>k.O j<|h.O j q,λj q=>(k.c j q).elim (h.c j) λz=>Ç<|Ø h.I z,k.S.trans h.S,k.Y.trans h.Y,k.b.trans h.b,k.K.trans h.K,k.q.trans h.q,k.d.trans h.d,k.fx,Ø h.I k.I,λj c f=>(k.r j (h.M c)<|e j c).trans<|h.r j c f,λa b=>(k.f a<|by rwa[h.C]).trans<|h.f a b,λa b=>(k.g a<|by rwa[h.C]).trans<|h.g a b,λa b z=>k.e a (by rwa[h.K])<|h.e a b z⟩
end
abbrev RL:Η:=Ê #[É ì 4294967296,É û 0,Æ Á 0 0] 105
structure zi(kd:Nat->Int)(rq g:Nat->Nat)(S i:Nat)(iv qv:Ð)(l0 l:fh):Prop where
 r:gl (λ_=>False) l0 l
 jS:l.w.ownsRow 0 155 4 iv (fO kd i) (jS kd rq g i)
 mJ:l.w.ownsRow 0 155 4 qv (jC kd i).length (mJ kd rq g i)
 C:∀k,iv.ownBlock=Â k->l.O k/\l0.w.heap.size<=k
 I:∀k,qv.ownBlock=Â k->l.O k/\l0.w.heap.size<=k
 M:∀k,iv.ownBlock=Â k->qv.ownBlock≠Â k
 N:∀k,1<=k->k<=fO kd i->ia l (g k) RL/\l0.w.heap.size<=g k/\iv.ownBlock≠Â (g k)/\qv.ownBlock≠Â (g k)
 g0:g 0<l0.w.heap.size
 S:g 0=S
 Y:∀k k',k<k'->k'<=fO kd i->g k<g k'
section
variable{kd:Nat->Int}{rq g:Nat->Nat}{iv qv:Ð}{l0 l m o:fh}
def zi.ai2(h:zi kd rq g n i iv qv l0 l)(C:gB l0)(s:gB l)(d:kd i≠1)(a:gl (λ_=>False) l m)(f:gl (λb=>Â b=qv.ownBlock) m o)(D:o.w.ownsRow 0 155 4 v ((jC kd i).length+1) (fD.mJ kd rq g i++tQ kd rq g i))(E:∀k,v.ownBlock=Â k->o.O k)(u:v.ownBlock=qv.ownBlock\/∃k,v.ownBlock=Â k/\m.w.heap.size<=k):zi kd rq g n (i+1) iv v l0 o:=by
 have q:fO kd (i+1)=fO kd i:=by unfold fO;rw[vN d]
 have F:∀{j},l.O j->j<m.w.heap.size:=λc=>È (s.fx _<|Ã c) a.I;have x:∀{j},l.O j->qv.ownBlock≠Â j->v.ownBlock≠Â j:=λ{j} c hn e=>by
  rcases u with z|⟨k,r,B⟩
  .rw[z]at e;exact hn e
  .rw[r]at e;have:=Ô e;have:=F c;omega
 refine⟨(h.r.fj a).vO f λj c e=> ?_,?_,?_,λk e=>⟨f.O k<|a.O k (h.C k e).1,(h.C k e).2⟩,λk e=>⟨E k e,?_⟩,λk e=>x (h.C k e).1<|h.M k e,λk t p=> ?_,h.g0,h.S,λk y t p=>h.Y k y t<|by rwa[<-q]⟩
 .have:=(h.I j e.symm).2;have:=C.fx j c;omega
 .rw[q,aiX d];refine om h.jS λk e=> ?_;exact(f.r k (Ã<|a.O k (h.C k e).1) λz=>h.M k e z.symm).trans<|a.r k (Ã (h.C k e).1) id
 .rw[RF d,aiZ d];simpa using D
 .rcases u with z|⟨y,r,B⟩
  .rw[z]at e;exact(h.I k e).2
  .rw[r]at e;have:=Ô e;have:=h.r.I;have:=a.I;omega
 .rw[q]at p;let⟨r,G,H,B⟩:=h.N k t p;exact⟨(r.r a id).r f λz=>B z.symm,G,H,x r.fu B⟩
def zi.kJ{tb:Nat}(h:zi kd rq g n i iv qv l0 l)(H:gB l0)(s:gB l)(a:kd i=1)(c:gl (λ_=>False) l m)(P:l.w.heap.size<=tb)(r:gl (λb=>Â b=iv.ownBlock\/b=tb) m o)(I:o.w.ownsRow 0 155 4 v (fO kd i+1) (fD.jS kd rq g i++[À<|Â ⟨rq i,0,Á⟩,É Î i,À<|Â ⟨g<|fO kd i,0,Á⟩,À<|Â ⟨J,0,Á⟩]))(K:∀k,v.ownBlock=Â k->o.O k)(u:v.ownBlock=iv.ownBlock\/∃k,v.ownBlock=Â k/\J<k)(Q:m.w.heap.size<=J)(L:ia o J RL):zi kd rq (λk=>if k<=fO kd i then g k else J) n (i+1) v qv l0 o:=by
 have B:fO kd (i+1)=fO kd i+1:=by unfold fO;rw[tA a];simp
 have T:=h.r.I;have V:=c.I;have d:∀{j},l.O j->j<l.w.heap.size:=λf=>s.fx _<|Ã f;have C:∀{j},l.O j->iv.ownBlock≠Â j->v.ownBlock≠Â j:=λ{j} f hn e=>by
  rcases u with z|⟨k,p,D⟩
  .rw[z]at e;exact hn e
  .rw[p]at e;have:=Ô e;have:=d f;omega
 have E:∀k,k<=fO kd i->(if k<=fO kd i then g k else J)=g k:=λk a=>if_pos a;refine⟨(h.r.fj c).vO r λj f e=> ?_,?_,?_,λk e=>⟨K k e,?_⟩,λk e=>⟨r.O k<|c.O k (h.I k e).1,(h.I k e).2⟩,λk e z=> ?_,λk x F=> ?_,?_,?_,λk t x F=> ?_⟩
 .have:=H.fx j f;rcases e with e|e
  .have:=(h.C j e.symm).2;omega
  .omega
 .rw[B,aiW a,ai0 E];simpa[tI,show¬(fO kd i+1<=fO kd i) by omega]using I
 .rw[RE a,aiY a,ai1 E];refine om h.mJ λk e=> ?_;refine(r.r k (Ã<|c.O k (h.I k e).1) ?_).trans<|c.r k (Ã (h.I k e).1) id;rintro(z|z)
  .exact h.M k z.symm e
  .have:=d (h.I k e).1;omega
 .rcases u with z|⟨t,p,D⟩
  .rw[z]at e;exact(h.C k e).2
  .rw[p]at e;have:=Ô e;omega
 .exact C (h.I k z).1 (λy=>h.M k y z) e
 .by_cases y:k<=fO kd i
  .simp only[if_pos y];let⟨q,M,G,N⟩:=h.N k x y;refine⟨(q.r c id).r r ?_,M,C q.fu G,N⟩;rintro(z|z)
   .exact G z.symm
   .have:=d q.fu;omega
  .simp only[if_neg y];refine⟨L,Z,λe=> ?_,λe=> ?_⟩
   .rcases u with z|⟨t,p,D⟩
    .rw[z]at e;have:=d (h.C J e).1;omega
    .rw[p]at e;have:=Ô e;omega
   .have:=d (h.I J e).1;omega
 .simp only[ĉ,if_true];exact h.g0
 .simp only[ĉ,if_true];exact h.S
 .rw[B]at F;by_cases y:t<=fO kd i
  .simp only[if_pos y,if_pos (show k<=fO kd i by omega)];exact h.Y k t x y
  .simp only[if_neg y,if_pos (show k<=fO kd i by omega)];by_cases p:k=0
   .subst p;have:=h.g0;omega
   .let⟨q,_⟩:=h.N k Z Z;have:=d q.fu;omega
end
section
variable{J:Jd}{ra:Option ã}{rb cr R:Nat}{cs:List ê}{kd:Nat->Int}{rq:Nat->Nat}{l0:fh}
def RN(j:gB l0)(u:¬l0.q)(v:l0.d=0)(m:R<1000)(p:0<R->ra=Â ⟨rb,0,Á⟩)(x:0<R->l0.M rb)(y:∀i,i<R->l0.w.cell? ⟨rb,i,Á⟩=Â (À<|Â ⟨rq i,0,Á⟩))(r:∀i,i<R->l0.M (rq i))(z:∀i,i<R->l0.w.cell? ⟨rq i,4,Á⟩=Â (É Î<|kd i)) (B:∀g P Q a b,zi kd rq g n R a b l0 P->PT a b (Æ ra R cr) (g<|fO kd R) R R Q->fp Ä Ó J P (CU Q cs)): ∀d i,R=i+d->∀g l t a b,zi kd rq g n i a b l0 l->PT a b (Æ ra R cr) (g<|fO kd i) R i t->fp Ä Ó J l (CU t cs)
 |0,i,hi,g,l,t,a,b,hP,hT=>by obtain rfl:R=i:=hi;exact B g l t a b hP hT
 |d+1,i,hi,g,l,t,a,b,hP,hT=>by
  have f:i<R:=Z
  have o:=hP.r.N j;have T:¬l.q:=by rwa[hP.r.q]
  have V:=x Z;have hTr:PT a b (Æ (Â ⟨rb,0,Á⟩) R cr) (g<|fO kd i) R i t:=by rwa[<-p Z]
  refine aiR o T hTr f m (hP.r.M V) ((gM<|hP.r.r rb V id).trans<|y i f) (hP.r.M<|r i f) ((gM<|hP.r.r _ (r i f) id).trans<|z i f) λl1 t1 W c tj X C Y s=> ?_;rw[<-p Z]at C;have tu:=c.N o;have tq:¬l1.q:=by rwa[c.q]
  have hI1:=om hP.jS λk e=>c.r k (Ã (hP.C k e).1) id;have L9:=om hP.mJ λk e=>c.r k (Ã (hP.I k e).1) id;have hc:=RG (kd:=kd) i;have hcq:=aiV (kd:=kd) i;by_cases h:kd i=1
  .rw[decide_eq_false (by simpa using h)]at s;refine aiT tu tq (by rwa[c.d,hP.r.d]) C f m Y s Z X hI1 (λk e=>c.O k (hP.C k e).1) (λe=>by have:=o.fx W<|Ã (hP.C W e).1;omega) λD E iv' gt F G H I Is hg K=> ?_;have L:=hP.kJ j o h c tj F G H I Is hg;apply RN j u v m p x y r z B d (i+1) Z _ D E iv' b L;have N:fO kd (i+1)=fO kd i+1:=by unfold fO;rw[tA h];simp
   rw[N];simp only[show¬(fO kd i+1<=fO kd i) by omega,if_false];exact K
  .rw[decide_eq_true (by simpa using h)]at s;refine aiS tu tq C f m Y s Z X L9 (λk e=>c.O k (hP.I k e).1) λD E qv' F G H I K=> ?_;have L:=hP.ai2 j o h c F G H I;apply RN j u v m p x y r z B d (i+1) Z _ D E a qv' L;have N:fO kd (i+1)=fO kd i:=by unfold fO;rw[vN h]
   rwa[N]
end
noncomputable def Zj:ġ:=kX ģ []
noncomputable def Zk (a b:Ð) (c:List ê):à:=G ((base 46).at ⟨#[a,b,Å,Å,Å,Å,Å,Å,Å,Å,Å,Å,Å,Å,Å,Å,Å,Å,Å,Å,Å,Å,Å,Å,Å,Å,Å,Å,Å,Å,Å,Å,Å,Å,Å,Å,Å,Å,Å,Å,Å,Å,Å,Å,Å,Å,Å,Å],[]⟩ [ö Zj]) c
def ai3{c:ê}{d:Š}{k:List ż}{K:à->Þ->Array Ν->Prop}{t u v:Tmp}(g:f.kind=ĥ)(j:y.defers=[])(l:P.funcs[f.fn]?=Â s)(e:s.results=#[.tmp t,.tmp u,.tmp v]) (h:K (G (c.at (d.put ((Q[i]?).bind (·.dst))<|ñ #[y.tmps.getD t Å,y.tmps.getD u Å,y.tmps.getD v Å])<|Ï Q jJ::k) qX) w #[]): (stepG P yQ (G {f.at y L with mode:=.returning}<|c.at d (Ï Q (i::jJ)::k)::qX) w).goes K:=by rwa[stepG_leave g j l (v:=ñ #[y.tmps.getD t Å,y.tmps.getD u Å,y.tmps.getD v Å]) (by simp[results,e,go_sem]) (by simp[results,e,go_sem]),ī]
structure It(kd:Nat->Int)(rq g:Nat->Nat)(R:Nat)(iv qv sv:Ð)(l l':fh):Prop where
 Y:gl (λ_=>False) l l'
 jS:l'.w.ownsRow 0 155 4 iv (fO kd R) (jS kd rq g R)
 mJ:l'.w.ownsRow 0 155 4 qv (jC kd R).length (mJ kd rq g R)
 r:∀k,iv.ownBlock=Â k->l'.O k/\l.w.heap.size<=k
 C:∀k,qv.ownBlock=Â k->l'.O k/\l.w.heap.size<=k
 dis:∀k,iv.ownBlock=Â k->qv.ownBlock≠Â k
 N:ia l' (g 0) (Ê #[É ì 0,É û 0,sv] 105)
 I:∀k,1<=k->k<=fO kd R->ia l' (g k) RL
 M:∀k,k<=fO kd R->l.w.heap.size<=g k/\iv.ownBlock≠Â (g k)/\qv.ownBlock≠Â (g k)
 S:∀k k',k<k'->k'<=fO kd R->g k<g k'
def ai4(w:Þ)(a:Option ã)(b c:Nat):(Ē 105 #[(1,Æ a b c)]).run Ä w=.ok (Ě #[É ì 0,É û 0,Æ a b c]) w:=run_build w 105 _ _ fR
def ai5(w:Þ)(a:Option ã)(b c:Nat):(Ē 105 #[(1,Æ a b c)]).events Ä w #[]=#[]:=by unfold Ē;simp only[Ş];simp[go_sem]
section
variable{J:Jd}{l:fh}{ra:Option ã}{rb cr R:Nat}{sa:Option ã}{sn sc:Nat}{k:List ż}{kd:Nat->Int}{rq:Nat->Nat}
def ai6(j:gB l)(u:¬l.q)(I:l.d=0)(K:R<1000)(L:0<R->ra=Â ⟨rb,0,Á⟩)(z:0<R->l.M rb)(N:∀i,i<R->l.w.cell? ⟨rb,i,Á⟩=Â (À<|Â ⟨rq i,0,Á⟩))(B:∀i,i<R->l.M (rq i))(O:∀i,i<R->l.w.cell? ⟨rq i,4,Á⟩=Â (É Î<|kd i)) (P:∀g s b c,It kd rq g R b c (Æ sa sn sc) l s->fp Ä Ó J s (G (f.at (y.put ((Q[i]?).bind (·.dst))<|ñ #[b,c,À<|Â ⟨g<|fO kd R,0,Á⟩])<|Ï Q jJ::k) qX)): fp Ä Ó J l (Zk (Æ ra R cr) (Æ sa sn sc)<|f.at y (Ï Q (i::jJ)::k)::qX):=by
 have hF:=trivial;apply fZ (n:=40) j.r;simp only[Zk];conv in Zj=>whnf
 repeat w_go fB
 refine Ë λ_ _=> ?_;refine oe (v:=Ě #[É ì 0,É û 0,Æ sa sn sc]) U U (by k_ne) j.r u (λa r=> ?_) (λa r e p=> ?_) ?_
 .have h:=ai4 a sa sn sc;go_simp
 .have h:=ai5 a sa sn sc;simp[go_sem,h]at p
 walk_nrm;refine pK (V:=λp=>À<|Â ⟨p,0,Á⟩) (ob:=Ê #[É ì 0,É û 0,Æ sa sn sc] 105) U U (by k_ne) j.r u (λw=>by go_simp) (λw=>by simp[go_sem]) λa C=> ?_;walk_nrm;have p:gl (λ_=>False) l (gK l a<|Ê #[É ì 0,É û 0,Æ sa sn sc] 105):=mY j C;have t:ia (gK l a<|Ê #[É ì 0,É û 0,Æ sa sn sc] 105) a.heap.size (Ê #[É ì 0,É û 0,Æ sa sn sc] 105):=⟨Ç U,mX⟩;have D:=C.r;generalize gK l a (Ê #[É ì 0,É û 0,Æ sa sn sc] 105)=l₁ at p t|-;generalize a.heap.size=gt at t D|-;have m:=p.N j;have T:¬l₁.q:=by rwa[p.q]
 apply fZ (n:=40) m.r;repeat w_bar fB
 w_go fB
 refine Ë λ_ _=> ?_;have W:=m.fx gt<|Ã t.fu;refine RN m T (by rwa[p.d]) K L (λh=>p.M<|z h) (λi h=>(gM<|p.r rb (z Z) id).trans<|N i h) (λi h=>p.M<|B i h) (λi h=>(gM<|p.r _ (B i h) id).trans<|O i h) (λg s X b c h r=> ?_) R 0 Z (λ_=>gt) l₁ _ (Æ Á 0 0) (Æ Á 0 0) ⟨gl.fW m.r,⟨U,Ã ⟨U,U⟩⟩,⟨U,Ã ⟨U,U⟩⟩,λk e=>(by cases e),λk e=>(by cases e),λk e=>(by cases e),λk x o=> ?_,W,rfl,λk Y x o=> ?_⟩ ⟨rfl,rfl,rfl,rfl,rfl,rfl,rfl⟩
 .have s':=h.r.N m;obtain⟨y0,y1,y2,y3,E,F,y6,y7,y8,y9,xh,zd,xi,rW,rX,qW,vF,uA,uB,uC,s8,s9,td,tf,uD,vG,xj,tg,qY,qx,qy,n7,pF,pG,oZ,o0,oD,qi,qj,qk,qm,qn,qo,qp,qt,n8,n9,oa,rfl⟩:=L4 X r.r;obtain rfl:b=E:=(show E=b by simpa using r.N).symm;obtain rfl:c=F:=(show F=c by simpa using r.S).symm;obtain rfl:y6=À (Â ⟨g<|fO kd R,0,Á⟩):=by simpa using r.Y
  obtain rfl:rW=Æ ra R cr:=by simpa using r.C
  obtain rfl:rX=É Î R:=by simpa using r.I
  obtain rfl:qW=É Î R:=by simpa using r.M
  have gH:¬((R:Int)<(R:Int)):=Z
  apply fZ (n:=40) s'.r;simp only[CU];conv in Iq=>whnf
  conv in Rv=>whnf
  repeat w_go fB
  u_in fB hF
  refine ai3 U U Γ U ⟨by u_nil,?_⟩;walk_nrm;refine Ë λ_ _=> ?_;have H:=h.S;refine P g s b c ⟨p.fj h.r,h.jS,h.mJ,λk e=>⟨(h.C k e).1,Ø p.I (h.C k e).2⟩,λk e=>⟨(h.I k e).1,Ø p.I (h.I k e).2⟩,h.M,H▸t.r h.r id,λk x o=>(h.N k x o).1,λk hk=> ?_,h.Y⟩;by_cases h0:k=0
  .subst h0;rw[H];exact⟨D,λe=>by have:=(h.C _ e).2;omega,λe=>by have:=(h.I _ e).2;omega⟩
  .let⟨_,a2,a3,a4⟩:=h.N k Z hk;exact⟨Ø p.I a2,a3,a4⟩
 .have:k<=0:=o;omega
 .have:Y<=0:=o;omega
end
noncomputable def Zl:ġ:=kX Tryz.f37 []
noncomputable def Fa (a b:Ð) (n:Nat) (c:List ê):à:=G ((base 37).at ⟨#[a,b,É Î n,Å,Å,Å,Å,Å,Å,Å,Å,Å,Å,Å,Å,Å,Å,Å,Å,Å,Å,Å,Å,Å,Å,Å,Å,Å,Å,Å,Å,Å,Å,Å,Å,Å,Å,Å,Å,Å,Å,Å,Å,Å,Å,Å,Å,Å,Å],[]⟩ [ö Zl]) c
def It.vO{kd:Nat->Int}{rq:Nat->Nat}{R:Nat}{l a b:fh}(h:It kd rq D R v x z l a)(k:gl (λ_=>False) a b):It kd rq D R v x z l b:= ⟨h.Y.fj k,om h.jS λj e=>k.r j (Ã (h.r j e).1) id,om h.mJ λj e=>k.r j (Ã (h.C j e).1) id,λj e=>⟨k.O j (h.r j e).1,(h.r j e).2⟩,λj e=>⟨k.O j (h.C j e).1,(h.C j e).2⟩,h.dis,h.N.r k id,λj c d=>(h.I j c d).r k id,h.M,h.S⟩
abbrev xo(R:Nat):Η:=Ê (madeCells (Δ<|á ⟨#[]⟩) R) 9
structure Ma(kd:Nat->Int)(rq g:Nat->Nat)(R:Nat)(iv qv sv:Ð)(an ba bi all bw bf:Nat)(l lp l':fh):Prop where
 C:gl (λ_=>False) l l'
 r:It kd rq g R iv qv sv lp l'
 I:ia l' an (xo R)
 a:ia l' ba (Ê #[Æ (Â ⟨an,0,Á⟩) R R] 25)
 c:ia l' bi (Ê #[iv] 85)
 Y:ia l' all (Ê #[É ì 4294967296,É û 0] 97)
 d:ia l' bw (Ê #[À<|Â ⟨all,0,Á⟩] 162)
 b:ia l' bf (Ê #[ď (þ 48) #[] #[À<|Â ⟨bi,0,Á⟩,À<|Â ⟨ba,0,Á⟩]] 1)
 M:l.w.heap.size<=an/\an<ba/\ba<lp.w.heap.size
 N:∀k,k<=fO kd R->g k<bi
 o3:∀k,iv.ownBlock=Â k->k<bi
 o4:∀k,qv.ownBlock=Â k->k<bi
 S:bi<all/\all<bw/\bw<bf
section
variable{J:Jd}{l:fh}{ra:Option ã}{rb cr R:Nat}{sa:Option ã}{sn sc:Nat}{kd:Nat->Int}{rq:Nat->Nat}
def ai7(C:gB l)(G:¬l.q)(hd:l.d=0)(hR:R<1000)(Iu:0<R->ra=Â ⟨rb,0,Á⟩)(CV:0<R->l.M rb)(Iv:∀i,i<R->l.w.cell? ⟨rb,i,Á⟩=Â (À<|Â ⟨rq i,0,Á⟩))(K6:∀i,i<R->l.M (rq i))(Iw:∀i,i<R->l.w.cell? ⟨rq i,4,Á⟩=Â (É Î<|kd i)) (hJ:∀g lp l' t iv qv H y z D Y bf v1,Ma kd rq g R iv qv (Æ sa sn sc) H y z D Y bf l lp l'->Ij y D (g<|fO kd R) n qv t->J l' (CI (À<|Â ⟨D,0,Á⟩) v1 (À<|Â ⟨D,0,Á⟩) (ñ #[]) Y bf<|E7 t::qX)): fp Ä Ó J l (Fa (Æ sa sn sc) (Æ ra R cr) n qX):=by
 have hF:True:=trivial;have Zm:Ä.info? 9=Â ĩ:=Tryz.type9;have QA:∀w:Þ,(ş 25 (É Î (R:Int))<|É Î (R:Int)).run Ä w=.ok (Æ (Â ⟨w.heap.size,0,Á⟩) R R) (w.alloc<|xo R):=λw=>by have:=run_makeSlice (P:=Ä) w 25 9 ĩ (á ⟨#[]⟩) ŉ Zm U Î Î (R:Int) (R:Int) Z Z (by simp[ĩ];omega) (by simp[ĩ];omega) Z;simpa[ĩ]using this
 have hme:∀w:Þ,(ş 25 (É Î (R:Int))<|É Î (R:Int)).events Ä w #[]=#[]:=λw=>
  events_make (P:=Ä) w 25 9 ĩ (á ⟨#[]⟩) ŉ Zm U Î Î (R:Int) (R:Int) Z Z (by simp[ĩ];omega) Z (by simp[ĩ];omega) _
 apply fZ (n:=40) C.r;simp only[Fa];conv in Zl=>whnf
 repeat w_go fB
 refine Ë λ_ _=> ?_;refine pK (V:=λp=>Æ (Â ⟨p,0,Á⟩) R R) (ob:=xo R) U U (by k_ne) C.r G (λw=>by have k:=QA w;go_simp) (λw=>by have k:=hme w;simp[go_sem,k]) λc m=> ?_;walk_nrm;have a:=mY (X:=λ_=>False) (ob:=xo R) C m;have r:ia (gK l c<|xo R) c.heap.size (xo R):=⟨Ç U,mX⟩;have han:l.w.heap.size<=c.heap.size:=m.r;generalize gK l c (xo R)=l1 at a r|-;generalize c.heap.size=H at r han|-;clear m c;have RO:gl (λ_=>False) l l1:=a;have RP:=RO.N C;have ai8:¬l1.q:=by rwa[RO.q]
 have atd:l.w.heap.size<=l1.w.heap.size:=a.I;clear a;have lan:=RP.fx H<|Ã r.fu;refine pK (V:=λp=>À<|Â ⟨p,0,Á⟩) (ob:=Ê #[Æ Á 0 0] 25) U U (by k_ne) RP.r ai8 (λw=>by go_simp) (λw=>by simp[go_sem]) λc m=> ?_;walk_nrm;have a:=mY (X:=λ_=>False) (ob:=Ê #[Æ Á 0 0] 25) RP m;have f:ia (gK l1 c<|Ê #[Æ Á 0 0] 25) c.heap.size (Ê #[Æ Á 0 0] 25):=⟨Ç U,mX⟩;have Zn:l1.w.heap.size<=c.heap.size:=m.r;generalize gK l1 c (Ê #[Æ Á 0 0] 25)=l2 at a f|-;generalize c.heap.size=y at f Zn|-;clear m c;have RR:gl (λ_=>False) l l2:=RO.fj a;replace r:=r.r a id;have RU:=RR.N C;have ai9:¬l2.q:=by rwa[RR.q]
 have ate:l1.w.heap.size<=l2.w.heap.size:=a.I;clear a;have lba:=RU.fx y<|Ã f.fu;refine H6 (p:=y) (off:=0) (v:=Æ (Â ⟨H,0,Á⟩) R R) (u:=Æ Á 0 0) U U (by k_ne) RU.r ai9 f.fu (f.C U) (by simp[ð,f.I]) U (λw o F=>by go_simp) (λw o F=>by simp[go_sem,â _ _ _ _ _ _ (show Ú (Æ (Â ⟨H,0,Á⟩) R R)=Ó from rfl),o,F]) ?_;have a:=LD (X:=λb=>b=y) (p:=y) (w':=l2.w.setCell ⟨y,0,Á⟩<|Æ (Â ⟨H,0,Á⟩) R R) RU (fK.fW _ _) f.fu U jT λj E=>lr E;replace f:ia ({l2 with w:=l2.w.setCell ⟨y,0,Á⟩ (Æ (Â ⟨H,0,Á⟩) R R)}:fh) y (Ê #[Æ (Â ⟨H,0,Á⟩) R R] 25):=⟨f.fu,by show(l2.w.setCell ⟨y,0,Á⟩<|Æ (Â ⟨H,0,Á⟩) R R).heap[y]?=_;unfold Ą;simp[î,f.I]⟩;generalize({l2 with w:=l2.w.setCell ⟨y,0,Á⟩ (Æ (Â ⟨H,0,Á⟩) R R)}:fh)=l3 at a f|-;have T:gl (λ_=>False) l l3:=RR.vO a λj E e=>by have:=C.fx j E;omega
 replace r:=r.r a Z;have Zo:=T.N C;have aja:¬l3.q:=by rwa[T.q]
 have atf:l2.w.heap.size<=l3.w.heap.size:=a.I;clear a;apply fZ (n:=20) Zo.r;iterate 5 w_go fB
 u_call Γ fR ģ fB hF
 refine Ë λ_ _=> ?_;refine ai6 (l:=l3) (kd:=kd) (rq:=rq) (ra:=ra) (rb:=rb) (cr:=cr) (R:=R) (sa:=sa) (sn:=sn) (sc:=sc) Zo aja (by rwa[T.d]) hR Iu (λh=>T.M<|CV h) (λi k=>(gM<|T.r rb (CV Z) id).trans<|Iv i k) (λi k=>T.M<|K6 i k) (λi k=>(gM<|T.r _ (K6 i k) id).trans<|Iw i k) λg B iv qv W=> ?_;walk_nrm;have a:=W.Y;have RV:gl (λ_=>False) l B:=T.fj a;replace r:=r.r a id;replace f:=f.r a id;have L:=RV.N C;have ajb:¬B.q:=by rwa[RV.q]
 have atg:l3.w.heap.size<=B.w.heap.size:=a.I;clear a;have ajc:gl (λ_=>False) B B:=gl.fW L.r;obtain⟨I,K,rfl⟩:∃I K,iv=Æ I (fO kd R) K:=by
  rcases W.jS.2 with⟨k,s⟩|⟨b,N,Q,k,_⟩
  .exact⟨Á,0,by rwa[s]⟩
  .exact⟨_,_,k⟩
 have og:∀k,k<=fO kd R->g k<B.w.heap.size:=λk hk=>by
  by_cases s:k=0
  .subst s;exact L.fx _<|Ã W.N.fu
  .exact L.fx _<|Ã (W.I k Z hk).fu
 have oi:∀k,(Æ I (fO kd R) K).ownBlock=Â k->k<B.w.heap.size:=λk e=>L.fx _<|Ã (W.r k e).1;have oq:∀k,qv.ownBlock=Â k->k<B.w.heap.size:=λk e=>L.fx _<|Ã (W.C k e).1;apply fZ (n:=20) L.r;iterate 4 w_go fB
 refine Ë λ_ _=> ?_;refine pK (V:=λp=>À<|Â ⟨p,0,Á⟩) (ob:=Ê #[Æ Á 0 0] 85) U U (by k_ne) L.r ajb (λw=>by go_simp) (λw=>by simp[go_sem]) λc m=> ?_;walk_nrm;have a:=mY (X:=λ_=>False) (ob:=Ê #[Æ Á 0 0] 85) L m;have s:ia (gK B c<|Ê #[Æ Á 0 0] 85) c.heap.size (Ê #[Æ Á 0 0] 85):=⟨Ç U,mX⟩;have RY:B.w.heap.size<=c.heap.size:=m.r;generalize gK B c (Ê #[Æ Á 0 0] 85)=l5 at a s|-;generalize c.heap.size=z at s RY|-;clear m c;have RZ:gl (λ_=>False) l l5:=RV.fj a;have ajd:gl (λ_=>False) B l5:=ajc.fj a;replace r:=r.r a id;replace f:=f.r a id;have R0:=RZ.N C;have aje:¬l5.q:=by rwa[RZ.q]
 have ath:B.w.heap.size<=l5.w.heap.size:=a.I;clear a;have lbi:=R0.fx z<|Ã s.fu;refine H6 (p:=z) (off:=0) (v:=Æ I (fO kd R) K) (u:=Æ Á 0 0) U U (by k_ne) R0.r aje s.fu (s.C U) (by simp[ð,s.I]) U (λw o F=>by go_simp) (λw o F=>by simp[go_sem,â _ _ _ _ _ _ (show Ú (Æ I (fO kd R) K)=Ó from rfl),o,F]) ?_;have a:=LD (X:=λb=>b=z) (p:=z) (w':=l5.w.setCell ⟨z,0,Á⟩<|Æ I (fO kd R) K) R0 (fK.fW _ _) s.fu U jT λj E=>lr E;replace s:ia ({l5 with w:=l5.w.setCell ⟨z,0,Á⟩ (Æ I (fO kd R) K)}:fh) z (Ê #[Æ I (fO kd R) K] 85):=⟨s.fu,by show(l5.w.setCell ⟨z,0,Á⟩<|Æ I (fO kd R) K).heap[z]?=_;unfold Ą;simp[î,s.I]⟩;generalize({l5 with w:=l5.w.setCell ⟨z,0,Á⟩ (Æ I (fO kd R) K)}:fh)=l6 at a s|-;have R1:gl (λ_=>False) l l6:=RZ.vO a λj E e=>by have:=C.fx j E;omega
 have ajf:gl (λ_=>False) B l6:=ajd.vO a λj E e=>by have:=L.fx j E;omega
 replace r:=r.r a Z;replace f:=f.r a Z;have R2:=R1.N C;have ajg:¬l6.q:=by rwa[R1.q]
 have ati:l5.w.heap.size<=l6.w.heap.size:=a.I;clear a;apply fZ (n:=20) R2.r;iterate 5 w_go fB
 refine Ë λ_ _=> ?_;refine pK (V:=λp=>À<|Â ⟨p,0,Á⟩) (ob:=Ê #[É ì 0,É û 0] 97) U U (by k_ne) R2.r ajg (λw=>by go_simp) (λw=>by simp[go_sem]) λc m=> ?_;walk_nrm;have a:=mY (X:=λ_=>False) (ob:=Ê #[É ì 0,É û 0] 97) R2 m;have F:ia (gK l6 c<|Ê #[É ì 0,É û 0] 97) c.heap.size (Ê #[É ì 0,É û 0] 97):=⟨Ç U,mX⟩;have qZ:l6.w.heap.size<=c.heap.size:=m.r;generalize gK l6 c (Ê #[É ì 0,É û 0] 97)=l7 at a F|-;generalize c.heap.size=D at F qZ|-;clear m c;have R3:gl (λ_=>False) l l7:=R1.fj a;have ajh:gl (λ_=>False) B l7:=ajf.fj a;replace r:=r.r a id;replace f:=f.r a id;replace s:=s.r a id;have Mb:=R3.N C;have aji:¬l7.q:=by rwa[R3.q]
 have atj:l6.w.heap.size<=l7.w.heap.size:=a.I;clear a;have atl:=Mb.fx D<|Ã F.fu;apply fZ (n:=20) Mb.r;iterate 4 w_go fB
 u_call į fR ν fB hF
 iterate 2 w_go fB
 refine Ë λ_ _=> ?_;refine pK (V:=λp=>À<|Â ⟨p,0,Á⟩) (ob:=Ê #[À<|Â ⟨D,0,Á⟩] 162) U U (by k_ne) Mb.r aji (λw=>by go_simp) (λw=>by simp[go_sem]) λc m=> ?_;walk_nrm;have a:=mY (X:=λ_=>False) (ob:=Ê #[À<|Â ⟨D,0,Á⟩] 162) Mb m;have N:ia (gK l7 c<|Ê #[À<|Â ⟨D,0,Á⟩] 162) c.heap.size (Ê #[À<|Â ⟨D,0,Á⟩] 162):=⟨Ç U,mX⟩;have CP:l7.w.heap.size<=c.heap.size:=m.r;generalize gK l7 c (Ê #[À<|Â ⟨D,0,Á⟩] 162)=l8 at a N|-;generalize c.heap.size=Y at N CP|-;clear m c;have R4:gl (λ_=>False) l l8:=R3.fj a;have ajj:gl (λ_=>False) B l8:=ajh.fj a;replace r:=r.r a id;replace f:=f.r a id;replace s:=s.r a id;replace F:=F.r a id;have R5:=R4.N C;have ajk:¬l8.q:=by rwa[R4.q]
 have atm:l7.w.heap.size<=l8.w.heap.size:=a.I;clear a;have lbw:=R5.fx Y<|Ã N.fu;refine pK (V:=λp=>À<|Â ⟨p,0,Á⟩) (ob:=Ê #[ď (þ 48) #[] #[À<|Â ⟨z,0,Á⟩,À<|Â ⟨y,0,Á⟩]] 1) U U (by k_ne) R5.r ajk (λw=>by go_simp) (λw=>by simp[go_sem]) λc m=> ?_;walk_nrm;have a:=mY (X:=λ_=>False) (ob:=Ê #[ď (þ 48) #[] #[À<|Â ⟨z,0,Á⟩,À<|Â ⟨y,0,Á⟩]] 1) R5 m;have c6:ia (gK l8 c<|Ê #[ď (þ 48) #[] #[À<|Â ⟨z,0,Á⟩,À<|Â ⟨y,0,Á⟩]] 1) c.heap.size (Ê #[ď (þ 48) #[] #[À<|Â ⟨z,0,Á⟩,À<|Â ⟨y,0,Á⟩]] 1):=⟨Ç U,mX⟩;have LZ:l8.w.heap.size<=c.heap.size:=m.r;generalize gK l8 c (Ê #[ď (þ 48) #[] #[À<|Â ⟨z,0,Á⟩,À<|Â ⟨y,0,Á⟩]] 1)=l9 at a c6|-;generalize c.heap.size=bf at c6 LZ|-;clear m c;have Mc:gl (λ_=>False) l l9:=R4.fj a;have ajl:gl (λ_=>False) B l9:=ajj.fj a;replace r:=r.r a id;replace f:=f.r a id;replace s:=s.r a id;replace F:=F.r a id;replace N:=N.r a id;have Ix:=Mc.N C;have Zp:¬l9.q:=by rwa[Mc.q]
 have atn:l8.w.heap.size<=l9.w.heap.size:=a.I;clear a;have lbf:=Ix.fx bf<|Ã c6.fu;apply fZ (n:=20) Ix.r;iterate 3 w_go fB
 refine Ë λ_ _=> ?_;apply nG (x:=⟨Y,0,Á⟩) U U (by k_ne) Ix.r Zp (Ã<|Ã N.fu) (N.C U) (λw h=>by go_simp) (λw h=>by simp[go_sem,h]);walk_nrm;apply fZ (n:=20) Ix.r;u_call qV.f_add (Ι Lk) addFn fB hF;refine Ë λ_ _=> ?_;refine Za qV Ix Zp (by rwa[Mc.d]) F.fu F.I U U λQ hC=> ?_;walk_nrm;have a:gl (λb=>b=D) l9 Q:=hC.r;replace F:ia Q D (Ê #[É ì 4294967296,É û 0] 97):=⟨hC.r.O D F.fu,hC.C⟩;have R6:gl (λ_=>False) l Q:=Mc.vO a λj E e=>by have:=C.fx j E;omega
 have ajm:gl (λ_=>False) B Q:=ajl.vO a λj E e=>by have:=L.fx j E;omega
 replace r:=r.r a Z;replace f:=f.r a Z;replace s:=s.r a Z;replace N:=N.r a Z;replace c6:=c6.r a Z;have ajn:=R6.N C;have ato:¬Q.q:=by rwa[R6.q]
 have atp:l9.w.heap.size<=Q.w.heap.size:=a.I;clear a;apply fZ (n:=20) ajn.r;iterate 3 w_go fB
 refine Ë λ_ _=> ?_;refine .fF λCS xn=> ?_;have at9:∀{b:Nat} {o:Η},ia Q b o->ia ({Q with w:=CS}:fh) b o:=λh=>⟨h.fu,(xn.I _<|Ã h.fu).trans h.I⟩;exact hJ g l3 {Q with w:=CS} _ (Æ I (fO kd R) K) qv H y z D Y bf _ ⟨R6.G xn,W.vO<|ajm.G xn,at9 r,at9 f,at9 s,at9 F,at9 N,at9 c6,⟨Z,Z,Z⟩,λk hk=>by have:=og k hk;omega,λk e=>by have:=oi k e;omega,λk e=>by have:=oq k e;omega,⟨Z,Z,Z⟩⟩ ⟨U,U,U,U,U,U⟩
end
def ajo{md:ă}{listed:Array Bool}(h:Ü md Q listed=[]):∀(a t:Nat),í md Q a t listed []=[]:=by
 intro a t;cases a with
 |zero=>rfl
 |succ a=>
  simp only[í];change(match(Ü md Q listed)[t%(Ü md Q listed).length]? with
   |some i=>í md Q a (t/(Ü md Q listed).length) (listed.setIfInBounds i Ó) [i]
   |none=>[].reverse)=[]
  rw[h];rfl
section
variable{J:Jd}{l:fh}
def Zq{md:ă}(I:Array Bool->Š->fh->Prop) (p:∀b a l i k,I b a l->b.size=Q.size->i∈Ü md Q b->(Ü md Q (b.setIfInBounds i Ó)=[]->k=[])->fp P yQ (λg m=>(∃h,m=G (f.at h<|Ï Q k::L) qX/\I (b.setIfInBounds i Ó) h g)\/fp P yQ J g m) l (G (f.at a<|Ï Q (i::k)::L) qX)) (o:∀b a l,I b a l->b.size=Q.size->Ü md Q b=[]->fp P yQ J l (G (f.at a<|Ï Q []::L) qX)): ∀(c t:Nat) (b:Array Bool) (a:Š) (l:fh),b.size=Q.size->jh b<=c->I b a l->fp P yQ J l (G (f.at a<|Ï Q (í md Q c t b [])::L) qX):=by
 intro c
 induction c with
 |zero=>
  intro t b a l d q j;simpa[í]using o b a l j d<|QP d Z
 |succ c r=>
  intro t b a l d q j;simp only[í];change fp P yQ J l (G (f.at a (Ï Q (match(Ü md Q b)[t%(Ü md Q b).length]? with
   |some i=>í md Q c (t/(Ü md Q b).length) (b.setIfInBounds i Ó) [i]
   |none=>[].reverse)::L)) qX)
  cases n:(Ü md Q b)[t%(Ü md Q b).length]? with
  |none=>
   have s:Ü md Q b=[]:=by
    cases u:Ü md Q b with
    |nil=>rfl
    |cons x e=>
     rw[u]at n;have v:t%(x::e).length<(x::e).length:=Ł _ ft;simp at n;simp at v;omega
   simpa using o b a l j d s
  |some i=>
   simp only[];rw[linearise_go_acc,List.reverse_singleton,List.singleton_append];have x:=İ n;refine(p b a l i _ j d x λe=>ajo e _ _).mA ?_;rintro g m (⟨h,rfl,hI'⟩|hW)
   .exact r _ _ h g (by simpa using d) (by have:=Lt (mem_ready.1 x).1;omega) hI'
   .exact hW
def ajp{id:Nat}(I:Array Bool->Š->fh->Prop)(o:j2 l)(p:¬l.q) (g:∀c,fK l l.w c->I (Array.replicate Q.size Í) y {l with w:={c with drawn:=c.drawn+1}}) (h:∀d b y l i e,I b y l->b.size=Q.size->i∈Ü d Q b->(Ü d Q (b.setIfInBounds i Ó)=[]->e=[])->fp P yQ (λj k=>(∃m,k=G (f.at m<|Ï Q e::L) qX/\I (b.setIfInBounds i Ó) m j)\/fp P yQ J j k) l (G (f.at y<|Ï Q (i::e)::L) qX)) (n:∀d b y l,I b y l->b.size=Q.size->Ü d Q b=[]->fp P yQ J l (G (f.at y<|Ï Q []::L) qX)): fp P yQ J l (G (f.at y<|ö (ß id Q Ó)::L) qX):=by
 refine .mk U λc r=>⟨_,_,_,_,stepG_region_draw,QO (mH o r) p,?_⟩;unfold Region.schedule;split
 .exact Zq I (h _) (n _) _ _ _ _ _ ft (by rw[EJ];exact Û _)<|g c r
 .exact Zq I (h _) (n _) _ _ _ _ _ ft (by rw[EJ];exact Û _)<|g c r
end
def CW:å:=⟨Â 15,ý<|Ò 1,100, "work.go:72",#[],Á⟩
def CX:å:=⟨Â 16,ý<|Ò 4,3, "work.go:72",#[],Á⟩
def CY:å:=⟨Â 17,ý<|Ò 1,100, "work.go:72",#[],Á⟩
def xp:å:=⟨Â 18,Ď {callee:=Ũ .len,args:=#[Ò 17],argTypes:=#[100]},3, "work.go:72",#[⟨2,Õ⟩],Á⟩
def uI:å:=⟨Â 19,ń .rem 3 (Ò 16) (Ò 18) 3,3, "work.go:72",#[⟨1,Õ⟩,⟨3,Õ⟩],Á⟩
def uJ:å:=⟨Â 20,Ţ 100 (Ò 15)<|Ò 19,0, "work.go:72",#[⟨0,Õ⟩,⟨4,Õ⟩],Á⟩
def xq:å:=⟨Â 21,č 101<|Ò 20,101, "work.go:72",#[⟨5,Õ⟩],Á⟩
def CZ:å:=⟨Â 22,č 155<|Ò 5,155, "work.go:72",#[],Á⟩
def xr:å:=⟨Á,.send (Ò 21)<|Ò 22,0, "work.go:72",#[⟨6,Õ⟩,⟨7,Õ⟩],Á⟩
def ou:Array å:=#[CW,CX,CY,xp,uI,uJ,xq,CZ,xr]
noncomputable def Md:ġ:=kX Ū [1,1,0,0]
noncomputable def Zr:ġ:=kX Ū [1]
noncomputable def Me:ġ:=kX Ū [0,1,0,0]
noncomputable def qA (t:Array Ð) (a:List ê):à:=G ((base 52).at ⟨t,[]⟩ [ö Me,ā Me,ï 0,ö Zr]) a
structure DT(dv:Ð)(qb:Option ã)(q cq i:Nat)(t:Array Ð):Prop where
 r:t.size=32
 C:t[1]?=Â dv
 t8:t[8]?=Â (Æ qb q cq)
 M:t[9]?=Â (É Î q)
 I:t[10]?=Â (É Î i)
def Iy(t:Array Ð)(h:t.size=32):∃a b c d e f g i j k l m n o p q r s u v w x y z B C D E F G H I:Ð,t=#[a,b,c,d,e,f,g,i,j,k,l,m,n,o,p,q,r,s,u,v,w,x,y,z,B,C,D,E,F,G,H,I]:=by obtain⟨_,rfl⟩:=s7 t h;exact⟨_,_,_,_,_,_,_,_,_,_,_,_,_,_,_,_,_,_,_,_,_,_,_,_,_,_,_,_,_,_,_,_,U⟩
def uK(c n i a d:Nat)(b tk:Ð)(_:Unit):Nat->Ð
 |0=>b
 |1=>É Î i
 |2=>b
 |3=>É Î n
 |4=>É Î a
 |5=>À<|Â ⟨c,a,Á⟩
 |6=>é<|Â d
 |7=>tk
 |_=>Å
def Mf(a:fh)(listed:Array Bool)(_:Unit)(l:fh):Prop:=iG (λ_=>False) a l/\¬listed.getD 8 Í=Ó
section
variable{J N:Jd}{p:fh}{g c:Nat}{s:Option ã}
def ajq(Fb:gB p)(hq:¬p.q)(ht:d.size=32)(Cq:d[1]?=Â (Æ (Â ⟨m,0,Á⟩) n c))(H3:d[4]?=Â (É Î i))(QX:d[5]?=Â (À<|Â ⟨g,0,Á⟩))(z:p.O g)(V:p.O m)(hn:0<n)(uL:n<1000)(hi1:i<1000) (Zs:i%n=j7) (W:p.w.cell? ⟨m,j7,Á⟩=Â (é<|Â j)) (X:p.w.cell? ⟨g,0,Á⟩=Â (À s)) (Y:p.w.cell? ⟨g,1,Á⟩=Â (É Î j6)) (c2:p.w.cell? ⟨g,2,Á⟩=Â (À<|Â ⟨j9,0,Á⟩)) (c3:p.w.cell? ⟨g,3,Á⟩=Â (À O)) (hJ:∀l H,iG (λ_=>False) p l->H.size=32->(∀f,f<15->H[f]?=d[f]?)->Ay Ä Ó j (Ě #[À s,É Î j6,À<|Â ⟨j9,0,Á⟩,À O]) N l (G ((base 52).at ⟨H,[]⟩<|Ï ou [8]::L) qX)->J l (G ((base 52).at ⟨H,[]⟩<|Ï ou [8]::L) qX)) (hN:∀l H,iG (λ_=>False) p l->H.size=32->(∀f,f<15->H[f]?=d[f]?)->fp Ä Ó N l (G ((base 52).at ⟨H,[]⟩<|Ï ou []::L) qX)) (md:ă) (listed:Array Bool) (a:Š) (l:fh) (i':Nat) (rest:List Nat) (hI:II ou d (uK m n i j7 j (Æ (Â ⟨m,0,Á⟩) n c)<|Ě #[À s,É Î j6,À<|Â ⟨j9,0,Á⟩,À O]) (Mf p) listed a l) (jx:listed.size=ou.size) (C:i'∈Ü md ou listed) (Iz:Ü md ou (listed.setIfInBounds i' Ó)=[]->rest=[]): fp Ä Ó (λD F=>(∃Q,F=G ((base 52).at Q<|Ï ou rest::L) qX/\II ou d (uK m n i j7 j (Æ (Â ⟨m,0,Á⟩) n c)<|Ě #[À s,É Î j6,À<|Â ⟨j9,0,Á⟩,À O]) (Mf p) (listed.setIfInBounds i' Ó) Q D)\/fp Ä Ó J D F) l (G ((base 52).at a<|Ï ou (i'::rest)::L) qX):=by
 let⟨x,u,T,h8⟩:=hI;have I:s5 ou d.size=Ó:=by rw[ht];decide
 have gH:=EK C;have K:=T.fx;have M:¬l.q:=by rwa[T.q]
 have oE:a.tmps[1]?=Â (Æ (Â ⟨m,0,Á⟩) n c):=(u.C A).trans Cq;have Cy:a.tmps[4]?=Â (É Î i):=(u.C A).trans H3;have rV:a.tmps[5]?=Â (À<|Â ⟨g,0,Á⟩):=(u.C A).trans QX;have y:∀b k v,p.O b->p.w.cell? ⟨b,k,Á⟩=Â v->gZ l ⟨b,k,Á⟩/\l.w.cell? ⟨b,k,Á⟩=Â v:=λb k v E h=>⟨Ã<|Ã<|T.O b E,by rwa[gM<|T.r b<|Ã E]⟩;have P:∀{t:Nat},t≠8->∀B,fK l l.w B->Mf p (listed.setIfInBounds t Ó) () {l with w:=B}:=λhm B r=>⟨T.N (λ_ q=>q.elim) r,by rwa[è Í hm]⟩;have ajr:j7<n:=by rw[<-Zs];exact Ł _ hn
 have ajs:(j7:Int)<(n:Int):=Z
 have IA:¬(n:Int)=0:=Z
 have ajt:¬n=0:=Z
 have htm:Int.tmod (i:Int) (n:Int)=(j7:Int):=by rw[Int.tmod_eq_emod_of_nonneg Z,<-Zs];simp
 have mE:Î.wrap (j7:Int)=(j7:Int):=Ct Z Z;have Mg:ou.size=9:=A
 rw[Mg]at gH;match i',gH with
 |0,_=>
  refine(iu (o:=CW) I u U U C (by k_ne) K M (λB r=> ?_) (λB r e D=> ?_)<|P A).fQ λ_ _ h=>Ã h
  .simp only[uK,CW];go_simp
  .simp[go_sem,CW,oE]at D
 |1,_=>
  refine(iu (o:=CX) I u U U C (by k_ne) K M (λB r=> ?_) (λB r e D=> ?_)<|P A).fQ λ_ _ h=>Ã h
  .simp only[uK,CX];go_simp
  .simp[go_sem,CX,Cy]at D
 |2,_=>
  refine(iu (o:=CY) I u U U C (by k_ne) K M (λB r=> ?_) (λB r e D=> ?_)<|P A).fQ λ_ _ h=>Ã h
  .simp only[uK,CY];go_simp
  .simp[go_sem,CY,oE]at D
 |3,_=>
  have F:a.tmps[17]?=Â (Æ (Â ⟨m,0,Á⟩) n c):=u.r 2 CY 17 U (iq (o:=xp) C U U) U;refine(iu (o:=xp) I u U U C (by k_ne) K M (λB r=> ?_) (λB r e D=> ?_)<|P A).fQ λ_ _ h=>Ã h
  .simp only[uK,xp];go_simp
  .simp[go_sem,xp,F]at D
 |4,_=>
  have F:a.tmps[16]?=Â (É Î i):=u.r 1 CX 16 U (iq (o:=uI) C U U) U;have Q:a.tmps[18]?=Â (É Î n):=u.r 3 xp 18 U (iq (o:=uI) C U U) U;refine(iu (o:=uI) I u U U C (by k_ne) K M (λB r=> ?_) (λB r e D=> ?_)<|P A).fQ λ_ _ h=>Ã h
  .simp only[uK,uI];go_simp
  .simp[go_sem,uI,F,Q,IA,ajt,htm,mE]at D
 |5,_=>
  have F:a.tmps[15]?=Â (Æ (Â ⟨m,0,Á⟩) n c):=u.r 0 CW 15 U (iq (o:=uJ) C U U) U;have Q:a.tmps[19]?=Â (É Î j7):=u.r 4 uI 19 U (iq (o:=uJ) C U U) U;refine(iu (o:=uJ) I u U U C (by k_ne) K M (λB r=> ?_) (λB r e D=> ?_)<|P A).fQ λ_ _ h=>Ã h
  .simp only[uK,uJ];go_simp
  .simp[go_sem,uJ,F,Q,ajr,ajs]at D
 |6,_=>
  have Q:a.tmps[20]?=Â (À<|Â ⟨m,j7,Á⟩):=u.r 5 uJ 20 U (iq (o:=xq) C U U) U;refine(iu (o:=xq) I u U U C (by k_ne) K M (λB r=> ?_) (λB r e D=> ?_)<|P A).fQ λ_ _ h=>Ã h
  .have F:=((y m _ _ V W).1.r r).trans (y m _ _ V W).2;simp only[uK,xq];go_simp
  .have F:=((y m _ _ V W).1.r r).trans (y m _ _ V W).2;have hee:e=⟨Ā ⟨m,j7,Á⟩,Í,Í⟩:=by simp[go_sem,xq,F,Q]at D;exact D
   subst hee;exact(y m _ _ V W).1.C
 |7,_=>
  refine(iu (o:=CZ) I u U U C (by k_ne) K M (λB r=> ?_) (λB r e D=> ?_)<|P A).fQ λ_ _ h=>Ã h
  .have F:=((y g _ _ z X).1.r r).trans (y g _ _ z X).2;have Q:=((y g _ _ z Y).1.r r).trans (y g _ _ z Y).2;have rf:=((y g _ _ z c2).1.r r).trans (y g _ _ z c2).2;have uG:=((y g _ _ z c3).1.r r).trans (y g _ _ z c3).2;simp only[uK,CZ];go_simp
  .have F:=((y g _ _ z X).1.r r).trans (y g _ _ z X).2;have Q:=((y g _ _ z Y).1.r r).trans (y g _ _ z Y).2;have rf:=((y g _ _ z c2).1.r r).trans (y g _ _ z c2).2;have uG:=((y g _ _ z c3).1.r r).trans (y g _ _ z c3).2;simp[go_sem,CZ,rV,F,Q,rf,uG]at D;rcases D with rfl|rfl|rfl|rfl
   .exact(y g _ _ z X).1.C
   .exact(y g _ _ z Y).1.C
   .exact(y g _ _ z c2).1.C
   .exact(y g _ _ z c3).1.C
 |8,_=>
  have d6:=iq (j:=6) (o:=xr) C U U;have d7:=iq (j:=7) (o:=xr) C U U;have Rh:a.tmps[21]?=Â (é<|Â j):=u.r 6 xq 21 U d6 U;have HR:a.tmps[22]?=Â (Ě #[À s,É Î j6,À<|Â ⟨j9,0,Á⟩,À O]):=u.r 7 CZ 22 U d7 U;have d5:=u.I (j:=5) (o:=xq) U d6 U;have d0:=u.I (j:=0) (o:=uJ) U d5 U;have d4:=u.I (j:=4) (o:=uJ) U d5 U;have d1:=u.I (j:=1) (o:=uI) U d4 U;have d3:=u.I (j:=3) (o:=uI) U d4 U;have d2:=u.I (j:=2) (o:=xp) U d3 U;have qZ:Ü md ou (listed.setIfInBounds 8 Ó)=[]:=by
   rw[List.eq_nil_iff_forall_not_mem];intro k hj;have uM:=EK hj;have F:=QU hj;rw[Mg]at uM;by_cases Q:k=8
   .subst Q;have D:8<listed.size:=by rw[jx,Mg];decide
    simp[D]at F
   .rw[è Ó<|Ne.symm Q]at F;have D:=xf F;match k,uM,Q with
    |0,_,_=>exact D d0
    |1,_,_=>exact D d1
    |2,_,_=>exact D d2
    |3,_,_=>exact D d3
    |4,_,_=>exact D d4
    |5,_,_=>exact D d5
    |6,_,_=>exact D d6
    |7,_,_=>exact D d7
    |8,_,h=>exact h U
  obtain rfl:=Iz qZ;let⟨F,ds⟩:=a;obtain rfl:ds=[]:=u.S;have IB:F.size=32:=u.M.trans ht;have Mh:∀f,f<15->F[f]?=d[f]?:=λf hd=>u.Y f λk o E _ e=>by
   have uM:=(æ.1 E).1;rw[Mg]at uM;match k,uM with
   |0,_=>
    have D:o=CW:=(Ô<|show Â CW=Â o from E).symm;rw[D]at e;have Q:15=f:=Ô (show Â 15=Â f from e);omega
   |1,_=>
    have D:o=CX:=(Ô<|show Â CX=Â o from E).symm;rw[D]at e;have Q:16=f:=Ô (show Â 16=Â f from e);omega
   |2,_=>
    have D:o=CY:=(Ô<|show Â CY=Â o from E).symm;rw[D]at e;have Q:17=f:=Ô (show Â 17=Â f from e);omega
   |3,_=>
    have D:o=xp:=(Ô<|show Â xp=Â o from E).symm;rw[D]at e;have Q:18=f:=Ô (show Â 18=Â f from e);omega
   |4,_=>
    have D:o=uI:=(Ô<|show Â uI=Â o from E).symm;rw[D]at e;have Q:19=f:=Ô (show Â 19=Â f from e);omega
   |5,_=>
    have D:o=uJ:=(Ô<|show Â uJ=Â o from E).symm;rw[D]at e;have Q:20=f:=Ô (show Â 20=Â f from e);omega
   |6,_=>
    have D:o=xq:=(Ô<|show Â xq=Â o from E).symm;rw[D]at e;have Q:21=f:=Ô (show Â 21=Â f from e);omega
   |7,_=>
    have D:o=CZ:=(Ô<|show Â CZ=Â o from E).symm;rw[D]at e;have Q:22=f:=Ô (show Â 22=Â f from e);omega
   |8,_=>
    have D:o=xr:=(Ô<|show Â xr=Â o from E).symm;rw[D]at e;cases(show Á=Â f from e)
  refine .fF λB r=>Ç (.fF λpC D=> ?_);have Q:iG (λ_=>False) p ({l with w:=pC}:fh):=T.N (λ_ q=>q.elim)<|r.fj ⟨D.r,D.I,D.N,D.Y,D.S⟩;refine hJ _ F Q IB Mh ⟨U,U,λD=>⟨ñ #[],?_⟩,?_⟩
  .refine(Κ (cases:=#[scase j (Ě #[À s,É Î j6,À<|Â ⟨j9,0,Á⟩,À O])<|ñ #[]]) (blocking:=Ó) (shape:=.send) (w':=D) (o:=xr) rfl rfl (by k_ne) ?_).trans ?_
   .simp[go_sem,xr,đ,scase,ę,Rh,HR]
   .have:ū Ä (base 52).fn ⟨F,[]⟩ xr D=#[]:=by
     unfold ū;simp[go_sem,xr,đ,ę,Rh,HR,Ĳ]
    rw[this]
  .have e:({G ((base 52).at ⟨F,[]⟩<|Ï ou [8]::L) qX with frame:=(G ((base 52).at ⟨F,[]⟩<|Ï ou [8]::L) qX).frame.finish Å}:à)=G ((base 52).at ⟨F,[]⟩<|Ï ou []::L) qX:=by
    have:(G ((base 52).at ⟨F,[]⟩<|Ï ou [8]::L) qX).frame.finish Å=(base 52).at (π ⟨F,[]⟩ Á Å) (Ï ou []::L):=ī _ _ _ _ _ _ _;rw[this];rfl
   rw[e];exact hN _ F Q IB Mh
 |n+9,h=>exact absurd h Z
end
section
variable{N:Jd}{l:fh}{f:Option ã}
def R7(s:gB l)(K:¬l.q)(G:DT (Æ (Â ⟨J,0,Á⟩) n j) (Â ⟨j6,0,Á⟩) b m i d)(hiq:i<b)(tq:b<1000)(hn:0<n)(uL:n<1000)(Zt:l.O J)(cd:l.w.cell? ⟨J,i%n,Á⟩=Â (é<|Â k))(R8:l.M j6) (i0:l.w.cell? ⟨j6,i*4,Á⟩=Â (À f)) (i1:l.w.cell? ⟨j6,i*4+1,Á⟩=Â (É Î j7)) (i2:l.w.cell? ⟨j6,i*4+2,Á⟩=Â (À<|Â ⟨j9,0,Á⟩)) (i3:l.w.cell? ⟨j6,i*4+3,Á⟩=Â (À O)) (hN:∀t H,iG (λ_=>False) l t->DT (Æ (Â ⟨J,0,Á⟩) n j) (Â ⟨j6,0,Á⟩) b m (i+1) H->fp Ä Ó N t (qA H qX)): fp Ä Ó (Ay Ä Ó k (Ě #[À f,É Î j7,À<|Â ⟨j9,0,Á⟩,À O]) N) l (qA d qX):=by
 obtain⟨y0,y1,y2,y3,y4,y5,y6,y7,y8,y9,xh,zd,xi,rW,rX,qW,vF,uA,uB,uC,s8,s9,td,tf,uD,vG,xj,tg,qY,qx,qy,n7,rfl⟩:=Iy d G.r;obtain rfl:y1=Æ (Â ⟨J,0,Á⟩) n j:=by simpa using G.C
 obtain rfl:y8=Æ (Â ⟨j6,0,Á⟩) b m:=by simpa using G.t8
 obtain rfl:y9=É Î b:=by simpa using G.M
 obtain rfl:xh=É Î i:=by simpa using G.I
 have rY:∀y:ã,False->l.r y:=λy ha=>ha.elim;have atq:(i:Int)<(b:Int):=Z
 have hF:True:=trivial;simp only[qA];conv in Me=>whnf
 apply fZ (n:=30) s.r;repeat w_go fB
 refine Ë λ_ _=> ?_;have g:∀c,gZ l ⟨j6,c,Á⟩:=λc=>Ã R8;refine oe (v:=Ě #[À f,É Î j7,À<|Â ⟨j9,0,Á⟩,À O]) U U (by k_ne) s.r K (λo r=> ?_) (λo r e h=> ?_) ?_
 .have u:=((g<|i*4).r r).trans i0;have z:=((g<|i*4+1).r r).trans i1;have B:=((g<|i*4+2).r r).trans i2;have C:=((g<|i*4+3).r r).trans i3;go_simp
 .have u:=((g<|i*4).r r).trans i0;have z:=((g<|i*4+1).r r).trans i1;have B:=((g<|i*4+2).r r).trans i2;have C:=((g<|i*4+3).r r).trans i3;simp[go_sem,u,z,B,C]at h;rcases h with rfl|rfl|rfl|rfl
  .exact(g _).C
  .exact(g _).C
  .exact(g _).C
  .exact(g _).C
 walk_nrm;refine HS (ob:=Ê #[À Á,É Î 0,À Á,À Á] 155) U U (by k_ne) s.r K (λw=>by go_simp) (λw=>by simp[go_sem]) λo Y=> ?_;walk_nrm;have D:iG (λ_=>False) l (gK l o<|Ê #[À Á,É Î 0,À Á,À Á] 155):=Ly s rY Y;have L:(gK l o<|Ê #[À Á,É Î 0,À Á,À Á] 155).w.heap[o.heap.size]?=Â (Ê #[À Á,É Î 0,À Á,À Á] 155):=mX;have tj:l.w.heap.size<=o.heap.size:=Y.r;have q:(gK l o<|Ê #[À Á,É Î 0,À Á,À Á] 155).O o.heap.size:=Ç U;generalize gK l o (Ê #[À Á,É Î 0,À Á,À Á] 155)=l₁ at D L q|-;generalize o.heap.size=tb at L q tj|-;apply fZ (n:=3) D.fx;w_go fB;refine Ë λ_ _=> ?_;refine vB U U (by k_ne) λr P=> ?_;have E:r.heap[tb]?=_:=(P.I tb<|Ã q).trans L;have u:r.cell? ⟨tb,0,Á⟩=Â (À Á):=by simp[Ù,E]
 have z:r.cell? ⟨tb,1,Á⟩=Â (É Î 0):=by simp[Ù,E]
 have B:r.cell? ⟨tb,2,Á⟩=Â (À Á):=by simp[Ù,E]
 have C:r.cell? ⟨tb,3,Á⟩=Â (À Á):=by simp[Ù,E]
 have hz:∀c,r.frozen? ⟨tb,c,Á⟩=Í:=λc=>by simp[ð,E]
 go_simp;refine⟨{l₁ with w:=iV r tb (À f) (É Î j7) (À<|Â ⟨j9,0,Á⟩) (À O)},Lz (p:=tb) (mH D.fx P) (by rwa[D.q]) q xg (λc x=>yW x) ⟨U,U,U⟩ λe h=> ?_,?_⟩
 .have a:=ě h;have e:∀c,qu l₁ ⟨tb,c,Á⟩:=λc=>Ã q;simp[go_sem,â _ _ _ _ _ _ (show Ú (À f)=Ó from rfl),â _ _ _ _ _ _ (show Ú (À<|Â ⟨j9,0,Á⟩)=Ó from rfl),â _ _ _ _ _ _ (show Ú (À O)=Ó from rfl),u,z,B,C,hz]at a;rcases a with rfl|rfl|rfl|rfl
  .exact(e _).r
  .exact(e _).r
  .exact(e _).r
  .exact(e _).r
 let⟨Q,T,V,W⟩:=Q7 (v0:=À f) (v1:=É Î j7) (v2:=À<|Â ⟨j9,0,Á⟩) (v3:=À O) u z B C;have F:=Q8 (w':=iV r tb (À f) (É Î j7) (À<|Â ⟨j9,0,Á⟩)<|À O) s rY D P tj xg λc x=>yW x;have Cu:({l₁ with w:=iV r tb (À f) (É Î j7) (À<|Â ⟨j9,0,Á⟩) (À O)}:fh).O tb:=q;replace Q:({l₁ with w:=iV r tb (À f) (É Î j7) (À<|Â ⟨j9,0,Á⟩) (À O)}:fh).w.cell? ⟨tb,0,Á⟩=_:=Q;replace T:({l₁ with w:=iV r tb (À f) (É Î j7) (À<|Â ⟨j9,0,Á⟩) (À O)}:fh).w.cell? ⟨tb,1,Á⟩=_:=T;replace V:({l₁ with w:=iV r tb (À f) (É Î j7) (À<|Â ⟨j9,0,Á⟩) (À O)}:fh).w.cell? ⟨tb,2,Á⟩=_:=V;replace W:({l₁ with w:=iV r tb (À f) (É Î j7) (À<|Â ⟨j9,0,Á⟩) (À O)}:fh).w.cell? ⟨tb,3,Á⟩=_:=W;generalize({l₁ with w:=iV r tb (À f) (É Î j7) (À<|Â ⟨j9,0,Á⟩) (À O)}:fh)=l₂ at Q T V W F Cu|-;clear L q D E u z B C hz P r l₁ Y o;have X:=F.G s;have qz:¬l₂.q:=by rwa[F.q]
 have cd2:l₂.w.cell? ⟨J,i%n,Á⟩=Â (é<|Â k):=(gM<|F.r J<|Ã Zt).trans cd;apply fZ (n:=5) X.r;w_go fB;refine Ë λ_ _=> ?_;refine ajp (II ou #[y0,Æ (Â ⟨J,0,Á⟩) n j,y2,y3,É Î i,À<|Â ⟨tb,0,Á⟩,y6,y7,Æ (Â ⟨j6,0,Á⟩) b m,É Î b,É Î i,ĭ Ó,É Î i,À<|Â ⟨j6,i*4,Á⟩,Ě #[À f,É Î j7,À<|Â ⟨j9,0,Á⟩,À O],qW,vF,uA,uB,uC,s8,s9,td,tf,uD,vG,xj,tg,qY,qx,qy,n7] (uK J n i (i%n) k (Æ (Â ⟨J,0,Á⟩) n j)<|Ě #[À f,É Î j7,À<|Â ⟨j9,0,Á⟩,À O])<|Mf l₂) X.r qz (λa x=> ?_) (λmd listed a t i' rest hI I e Iz=>ajq (J:=Ay Ä Ó k (Ě #[À f,É Î j7,À<|Â ⟨j9,0,Á⟩,À O]) N) (N:=N) X qz U U U U Cu (F.O J Zt) hn uL Z U cd2 Q T V W (λl H _ _ _ h=>h) (λt H hA hs h=> ?_) md listed a t i' rest hI I e Iz) λmd listed a kt hI I vH=> ?_
 .exact⟨(),mV.G _ _ _,(iG.fW X.r).N (λ_ b=>b.elim) ⟨x.r,x.I,x.N,x.Y,x.S⟩,A⟩
 .have x:=F.fj hA;have a:=(h 1 A).trans (show _=Â (Æ (Â ⟨J,0,Á⟩) n j)from U);have o8:=(h 8 A).trans (show _=Â (Æ (Â ⟨j6,0,Á⟩) b m)from U);have o9:=(h 9 A).trans (show _=Â (É Î b)from U);have o10:=(h 10 A).trans (show _=Â (É Î i)from U);clear h;obtain⟨x0,x1,x2,x3,x4,x5,x6,x7,x8,x9,YN,x11,x12,x13,x14,x15,x16,x17,x18,x19,x20,x21,x22,x23,x24,x25,x26,x27,x28,x29,x30,x31,rfl⟩:=Iy H hs;obtain rfl:x1=Æ (Â ⟨J,0,Á⟩) n j:=by simpa using a
  obtain rfl:x8=Æ (Â ⟨j6,0,Á⟩) b m:=by simpa using o8
  obtain rfl:x9=É Î b:=by simpa using o9
  obtain rfl:YN=É Î i:=by simpa using o10
  apply fZ (n:=9) x.fx;iterate 7 w_go fB
  refine Ë λ_ _=> ?_;refine hN t _ x ⟨U,U,U,U,?_⟩;simp;exact Ct Z Z
 .let⟨x,hR,hS3,a⟩:=hI;have h:∀i∈ä 9,listed.getD i Í=Ó:=by
   cases md
   .exact qw vH I (ä 9) [] fR λi e=>by cases e
   .exact qw vH I (ä 9) [] fR λi e=>by cases e
   .exact qw vH I (ä 9) [] fR λi e=>by cases e
  exact absurd (h 8 A) a
end
noncomputable def C0 (t:Array Ð) (a:List ê):à:=G ((base 52).at ⟨t,[]⟩ [ö Md,ā Md,ï 2]) a
structure ET(dv:Ð)(n j:Nat)(t:Array Ð):Prop where
 r:t.size=32
 aju:t[24]?=Â dv
 C:t[25]?=Â (É Î n)
 I:t[26]?=Â (É Î j)
def IC(t:Array Ð):ê:=(base 37).at ⟨t,[]⟩ [Ï LJ [2],ö<|(ß 13 LK Í).seq LL]
def Fc(t:Array Ð)(a:List ê):à:=G ((base 37).at ⟨t,[]⟩ [Ï LK [],ö LL]) a
structure SE(ba all ot:Nat)(t:Array Ð):Prop where
 r:t.size=49
 I:t[8]?=Â (À<|Â ⟨ba,0,Á⟩)
 C:t[11]?=Â (À<|Â ⟨ot,0,Á⟩)
 Rp:t[12]?=Â (À<|Â ⟨all,0,Á⟩)
section
variable{J a N:Jd}{l:fh}{t:Array Ð}{ba all ot:Nat}{dv:Ð}
def ajv(e:j2 l)(a:ST ba all ot n n (Æ O k j9) dv t)(f:∀b d,DT dv O k j9 0 b->SE ba all ot d->fp Ä Ó J l (qA b<|IC d::qX)):fp Ä Ó J l (CH t qX):=by
 obtain⟨p,q,r,s,u,v,w,x,g,y,h,i,j,c,z,B,C,D,E,F,G,H,I,K,L,M,N,m,o,P,Q,T,V,W,X,Y,oD,qi,qj,qk,qm,qn,qo,qp,qt,n8,n9,oa,rU,rfl⟩:=Ik t a.r;obtain rfl:g=À (Â ⟨ba,0,Á⟩):=by simpa using a.a
 obtain rfl:h=Æ O k j9:=by simpa using a.C
 obtain rfl:i=À (Â ⟨ot,0,Á⟩):=by simpa using a.I
 obtain rfl:j=À (Â ⟨all,0,Á⟩):=by simpa using a.M
 obtain rfl:dv=c:=(show c=dv by simpa using a.N).symm;obtain rfl:m=É Î n:=by simpa using a.S
 obtain rfl:o=É Î n:=by simpa using a.Y
 have hF:True:=trivial;apply fZ (n:=40) e;simp only[CH,E6,Rn];iterate 7 w_go fB
 simp only[LN,LJ];iterate 4 w_go fB
 u_call Ε fR Ū fB hF
 iterate 9 w_go fB
 refine Ë λ_ _=> ?_;exact f _ _ ⟨U,U,U,U,U⟩ ⟨U,U,U,U⟩
def ajw(d:j2 l)(a:DT (Æ (Â ⟨j7,0,Á⟩) n b) O k j9 k t)(e:∀c,ET (Æ (Â ⟨j7,0,Á⟩) n b) n 0 c->fp Ä Ó J l (C0 c qX)):fp Ä Ó J l (qA t qX):=by
 obtain⟨i,f,j,m,o,p,q,r,s,g,h,u,v,w,x,y,z,B,C,D,E,F,G,H,I,K,L,M,N,P,Q,T,rfl⟩:=Iy t a.r;obtain rfl:f=Æ (Â ⟨j7,0,Á⟩) n b:=by simpa using a.C
 obtain rfl:g=É Î k:=by simpa using a.M
 obtain rfl:h=É Î k:=by simpa using a.I
 have hF:True:=trivial;apply fZ (n:=40) d;simp only[qA];conv in Me=>whnf
 iterate 7 w_go fB
 conv in Zr=>whnf
 iterate 8 w_go fB
 refine Ë λ_ _=> ?_;exact e _ ⟨U,U,U,U⟩
def ajx(a:gB l)(g:¬l.q)(c:ET (Æ (Â ⟨j7,0,Á⟩) n b) n j t)(z:j<n)(B:n<1000)(i:l.O j7)(o:l.w.cell? ⟨j7,j,Á⟩=Â (é<|Â m)) (p:∀d e,iG (λ_=>False) l d->ET (Æ (Â ⟨j7,0,Á⟩) n b) n (j+1) e->fp Ä Ó N d (C0 e qX)):fp Ä Ó (KI Ä Ó m N) l (C0 t qX):=by
 obtain⟨C,D,F,G,H,I,J,K,L,M,P,Q,T,V,W,X,Y,uA,uB,uC,s8,s9,td,tf,q,u,v,tg,qY,qx,qy,n7,rfl⟩:=Iy t c.r;obtain rfl:q=Æ (Â ⟨j7,0,Á⟩) n b:=by simpa using c.aju
 obtain rfl:u=É Î n:=by simpa using c.C
 obtain rfl:v=É Î j:=by simpa using c.I
 have hF:True:=trivial;apply fZ (n:=40) a.r;simp only[C0];conv in Md=>whnf
 repeat w_go fB
 refine Ë λ_ _=> ?_;apply nG (x:=⟨j7,j,Á⟩) U U (by k_ne) a.r g (Ã<|Ã i) o (λw h=>by go_simp) (λw h=>by simp[go_sem,h]);walk_nrm;apply fZ (n:=40) a.r;iterate 4 w_go fB
 refine Ë λ_ _=> ?_;refine .fF λw₁ y=>⟨U,U,_,U,λpC cap buf s r tm h=>(stepG_close U U (by k_ne) U U h fR).trans U,?_⟩;walk_nrm;have f:=(iG.fW (E:=λ_=>False) a.r).N (λ_ k=>k.elim) y;apply fZ (n:=20) f.fx;iterate 7 w_go fB
 refine Ë λ_ _=> ?_;refine p _ _ f ⟨U,U,U,?_⟩;simp;exact Ct Z Z
def ajy(e:gB l)(g:l.d=0)(p:60<=i)(f:ET dv n n t)(c:SE ba all ot d)(j:l.K ⟨all,0,Á⟩/\l.K ⟨all,1,Á⟩)(q:mU all l.w) (r:∀m o,iG (λ_=>False) l m->SE ba all ot o->a m (Fc o qX)):fp Ä Ó (qT Ä Ó i all a .iZ) l (C0 t<|IC d::qX):=by
 obtain⟨G,H,I,J,L,M,N,P,Q,T,V,W,X,Y,rX,qW,vF,uA,uB,uC,s8,s9,td,tf,uD,s,u,tg,qY,qx,qy,n7,rfl⟩:=Iy t f.r;obtain rfl:s=É Î n:=by simpa using f.C
 obtain rfl:u=É Î n:=by simpa using f.I
 have hF:True:=trivial;apply fZ (n:=40) e.r;simp only[C0,IC,LJ];conv in Md=>whnf
 iterate 8 w_go fB
 obtain⟨z0,z1,z2,z3,z4,z5,z6,z7,v,z9,z10,x,y,z13,z14,z15,z16,z17,z18,z19,z20,z21,z22,z23,z24,z25,z26,z27,z28,z29,z30,z31,z32,z33,z34,z35,z36,z37,z38,z39,z40,z41,z42,z43,z44,z45,z46,z47,z48,rfl⟩:=Ik d c.r;obtain rfl:v=À (Â ⟨ba,0,Á⟩):=by simpa using c.I
 obtain rfl:x=À (Â ⟨ot,0,Á⟩):=by simpa using c.C
 obtain rfl:y=À (Â ⟨all,0,Á⟩):=by simpa using c.Rp
 u_leave0 Ε fB hF
 simp only[LK];iterate 3 w_go fB
 u_call qV.f_wait (nm_wait Lk) waitFn fB hF
 refine Ë λ_ _=> ?_;refine Yv qV p (⟨Ã j.1,Ã j.2,λw z b B C D F h=>h.fj ⟨b,B,C,D,F⟩⟩) ⟨e.r,q,fK.fW _ _⟩ g λz B=> ?_;walk_nrm;refine .fF λC b=> ?_;have h:=(iG.fW (E:=λ_=>False) e.r).N (λ_ k=>k.elim)<|B.2.2.fj ⟨b.r,b.I,b.N,b.Y,b.S⟩;exact r {l with d:=0,w:=C} _ ⟨h.O,h.h,h.Y,h.I,h.c,h.K,h.q,g.symm,h.fx,h.f,h.r,h.e,h.S,h.b,h.g⟩ ⟨U,U,U,U⟩
end
def vP(a:Nat)(b c:Ð)(_:Unit):Nat->Ð
 |0=>b
 |1=>À<|Â ⟨a,0,Á⟩
 |2=>À<|Â ⟨a,0,Á⟩
 |3=>À<|Â ⟨a,2,Á⟩
 |4=>c
 |5=>b
 |_=>c
def Mi(a:fh)(_:Array Bool)(_:Unit)(l:fh):Prop:=gl (λ_=>False) a l
section
variable{J:Jd}{g:fh}{h:Option ã}
def ajz(K:¬g.q)(N:q.size=49)(P:q[8]?=Â (À<|Â ⟨m,0,Á⟩))(Q:q[11]?=Â (À<|Â ⟨j9,0,Á⟩))(E:g.M m)(F:gZ g ⟨j9,2,Á⟩)(T:g.w.cell? ⟨m,0,Á⟩=Â (Æ O b n))(V:g.w.cell? ⟨j9,2,Á⟩=Â (Æ h j6 j7)) (md:ă) (listed:Array Bool) (y:Š) (l:fh) (i:Nat) (jJ:List Nat) (W:II xk q (vP j9 (Æ O b n)<|Æ h j6 j7) (Mi g) listed y l) (k:i∈Ü md xk listed): fp Ä Ó (λc d=>∃a,d=G ((base 37).at a<|Ï xk jJ::L) qX/\II xk q (vP j9 (Æ O b n)<|Æ h j6 j7) (Mi g) (listed.setIfInBounds i Ó) a c) l (G ((base 37).at y<|Ï xk (i::jJ)::L) qX):=by
 let⟨x,j,p⟩:=W;have s:s5 xk q.size=Ó:=by rw[N];decide
 have H:=EK k;have t:=p.fx;have u:¬l.q:=by rwa[show l.q=g.q from p.q]
 have X:=(j.C A).trans P;have Y:=(j.C A).trans Q;have B:gZ l ⟨m,0,Á⟩:=Ã<|p.M E;have D:gZ l ⟨j9,2,Á⟩:=F.imp (λa=>p.M a) λa=>by rwa[p.C]
 have I:=(gM<|p.r m E id).trans T;have J:l.w.cell? ⟨j9,2,Á⟩=Â (Æ h j6 j7):=by
  refine Ŋ ?_ V;rcases F with a|a
  .exact gM<|p.r _ a id
  .exact p.f _ a
 have v:∀{c:Nat},∀d,fK l l.w d->Mi g (listed.setIfInBounds c Ó) () {l with w:=d}:=λd r=>p.G r;have ajA:xk.size=7:=A
 rw[ajA]at H;match i,H with
 |0,_=>
  refine iu (o:=H8) s j U U k (by k_ne) t u (λd r=> ?_) (λd r e f=> ?_) v
  .have z:=(B.r r).trans I;simp only[vP,H8];go_simp
  .have z:=(B.r r).trans I;simp[go_sem,H8,X,z]at f;subst f;exact B.C
 |4,_=>
  have h47:y.tmps[47]?=Â (À<|Â ⟨j9,2,Á⟩):=j.r 3 Ib 47 U (iq k U U) U;refine iu (o:=Ic) s j U U k (by k_ne) t u (λd r=> ?_) (λd r e f=> ?_) v
  .have z:=(D.r r).trans J;simp only[vP,Ic];go_simp
  .have z:=(D.r r).trans J;simp[go_sem,Ic,h47,z]at f;subst f;exact D.C
 |1,_=>
  refine iu (o:=H9) s j U U k (by k_ne) t u (λd r=> ?_) (λd r e f=> ?_) v
  .simp only[vP,H9];go_simp
  .simp[go_sem,H9,Y]at f
 |2,_=>
  have z:y.tmps[45]?=Â (À<|Â ⟨j9,0,Á⟩):=j.r 1 H9 45 U (iq k U U) U;refine iu (o:=Ia) s j U U k (by k_ne) t u (λd r=> ?_) (λd r e f=> ?_) v
  .simp only[vP,Ia];go_simp
  .simp[go_sem,Ia,z]at f
 |3,_=>
  have z:y.tmps[46]?=Â (À<|Â ⟨j9,0,Á⟩):=j.r 2 Ia 46 U (iq k U U) U;refine iu (o:=Ib) s j U U k (by k_ne) t u (λd r=> ?_) (λd r e f=> ?_) v
  .simp only[vP,Ib];go_simp
  .simp[go_sem,Ib,z]at f
 |5,_=>
  have z:y.tmps[44]?=Â (Æ O b n):=j.r 0 H8 44 U (iq k U U) U;refine iu (o:=Ie) s j U U k (by k_ne) t u (λd r=> ?_) (λd r e f=> ?_) v
  .simp only[vP,Ie];go_simp
  .simp[go_sem,Ie,z]at f
 |6,_=>
  have z:y.tmps[48]?=Â (Æ h j6 j7):=j.r 4 Ic 48 U (iq k U U) U;refine iu (o:=Ig) s j U U k (by k_ne) t u (λd r=> ?_) (λd r e f=> ?_) v
  .simp only[vP,Ig];go_simp
  .simp[go_sem,Ig,z]at f
def ajB(c:gB g)(t:¬g.q)(e:SE m j j9 d)(B:g.M m)(C:gZ g ⟨j9,2,Á⟩)(D:g.w.cell? ⟨m,0,Á⟩=Â (Æ O b n))(E:g.w.cell? ⟨j9,2,Á⟩=Â (Æ h j6 j7)) (F:∀u,gl (λ_=>False) g u->fp Ä Ó J u (G (f.at (y.put ((Q[i]?).bind (·.dst))<|ñ #[Æ O b n,Æ h j6 j7])<|Ï Q jJ::L) qX)): fp Ä Ó J g (Fc d<|f.at y (Ï Q (i::jJ)::L)::qX):=by
 have hF:=trivial;apply fZ (n:=9) c.r;simp only[Fc,LL];iterate 2 w_go fB
 refine Ë λ_ _=> ?_;refine QR (II xk d (vP j9 (Æ O b n)<|Æ h j6 j7)<|Mi g) c.r t (λl a=>⟨(),mV.G _ _ _,(gl.fW c.r).G ⟨a.r,a.I,a.N,a.Y,a.S⟩⟩) (λk o y l i jJ p a=>ajz t e.r e.I e.C B C D E k o y l i jJ p a) λk o H I p r s=> ?_;let⟨x,l,K⟩:=p;have v:∀i∈ä 7,o.getD i Í=Ó:=by
  cases k
  .exact qw s r (ä 7) [] fR λi a=>by cases a
  .exact λi a=>qw s r [0,5,1,2,3,4,6] [] fR (λi a=>by cases a) i (by have:=ù.1 a;revert i;decide)
  .exact qw s r (ä 7) [] fR λi a=>by cases a
 let⟨a,N⟩:=H;obtain rfl:N=[]:=l.S;have P:a[6]?=Â (Æ O b n):=l.r 5 Ie 6 U (v 5 A) U;have T:a[7]?=Â (Æ h j6 j7):=l.r 6 Ig 7 U (v 6 A) U;have Y:=l.M.trans e.r;have z:=K;have V:=z.N c;have W:a.getD 6 Å=Æ O b n:=by simp[ė,P]
 have X:a.getD 7 Å=Æ h j6 j7:=by simp[ė,T]
 apply fZ (n:=9) V.r;iterate 2 w_go fB
 u_in fB hF
 refine goes_leave2 U U Tryz.func37 U ⟨by u_nil,?_⟩;rw[W,X];refine Ë λ_ _=> ?_;exact F I z
end
structure SD where
 L:Nat
 f:Nat
 n:Nat
 m:Nat
 q:Nat
 N:Nat
 I:Nat
 C:Nat->Nat
 an:Nat
 S:Nat
 p:Nat
 t:Option ã
 s:Nat
 k:Option ã
 j:Nat
 l:Nat->Option ã
 Y:Nat->Nat
 h:Nat->Option ã
 a:Nat->Nat
 b:Nat->Nat
 e:List ê
 c:Nat->Prop
 RC:Þ->Prop
 o:Þ->Prop
 γ:Type
 v:γ
 u:Nat->Prop
 g:Nat->γ->γ->Prop
 RD:γ->Ð->(Nat->Prop)->Þ->Prop
 d:Nat->ByteArray
 i:Nat->ByteArray
def SD.M(D:SD):Fx:=⟨D.L,D.m,D.I,D.C⟩
def SD.ajC(D:SD)(i:Nat):Ð:=Ě #[À<|D.h i,É Î<|D.a i,À<|Â ⟨D.C<|D.b i,0,Á⟩,À Á]
structure lF(D:SD)(S:Nat->Prop)(l:fh):Prop where
 C:∀b,D.M.M b->l.K ⟨b,0,Á⟩/\l.K ⟨b,1,Á⟩
 M:∀b,D.M.M b->mU b l.w
 c:S D.S
 d:l.w.cell? ⟨D.S,0,Á⟩=Â (Æ (Â ⟨D.an,0,Á⟩) D.N D.N)
 f:S D.p
 g:l.w.cell? ⟨D.p,0,Á⟩=Â (Æ D.t D.m D.s)
 h:∀k,k<D.m->∃b,D.t=Â ⟨b,0,Á⟩/\S b/\l.w.cell? ⟨b,k*4,Á⟩=Â (À<|D.l<|k+1)/\l.w.cell? ⟨b,k*4+1,Á⟩=Â (É Î<|D.Y<|k+1)/\l.w.cell? ⟨b,k*4+2,Á⟩=Â (À<|Â ⟨D.C k,0,Á⟩)/\l.w.cell? ⟨b,k*4+3,Á⟩=Â (À<|Â ⟨D.C<|k+1,0,Á⟩)
 j:∀i,i<D.q->∃b,D.k=Â ⟨b,0,Á⟩/\S b/\l.w.cell? ⟨b,i*4,Á⟩=Â (À<|D.h i)/\l.w.cell? ⟨b,i*4+1,Á⟩=Â (É Î<|D.a i)/\l.w.cell? ⟨b,i*4+2,Á⟩=Â (À<|Â ⟨D.C<|D.b i,0,Á⟩)/\l.w.cell? ⟨b,i*4+3,Á⟩=Â (À Á)
 r:∀a,l.r a->(l.w.cell? a).isSome=Ó/\l.w.frozen? a=Í
 Y:∀b,D.c b->S b
 e:D.RC l.w
structure SD.Ok(D:SD):Prop where
 C:∀w w',D.RC w->(∀b,D.c b->w'.heap[b]?=w.heap[b]?)->D.RC w'
 ioS:∀w w',D.o w->(w'.os=w.os/\w'.output=w.output)->D.o w'
 r:∀s sl V w w',D.RD s sl V w->(∀b,V b->w'.heap[b]?=w.heap[b]?)->D.RD s sl V w'
 I:1<=D.n
 L1:1<=D.L
 gf:D.n+D.q+D.m<1000
 N1:D.N<1000
 S:∀i,D.b i<=D.m
 a:∀i,i<D.q->D.a i<D.N
 Y:∀k,1<=k->k<=D.m->D.Y k<D.N
 ajD:∀k,k<=D.m->D.C k≠D.I
 ajE:∀k k',k<=D.m->k'<=D.m->D.C k=D.C k'->k=k'
 M:¬D.M.M D.an
 pq:∀i i',i<D.q->i'<D.q->D.a i=D.a i'->i=i'
 pi:∀k k',1<=k->k<=D.m->1<=k'->k'<=D.m->D.Y k=D.Y k'->k=k'
 PW:∀i k,i<D.q->1<=k->k<=D.m->D.a i≠D.Y k
 gu:∀b,D.M.M b\/b=D.an->D.f<=b
section
variable{D:SD}{S:Nat->Prop}{l f:fh}
def lF.I(h:lF D S l)(ok:D.Ok)(e:∀b,S b->X b)(c:∀b,S b->f.w.heap[b]?=l.w.heap[b]?)(q:f.K=l.K)(p:∀a,l.K a->(l.w.cell? a).isSome=Ó->(f.w.cell? a).isSome=Ó)(r:∀a,f.r a->(f.w.cell? a).isSome=Ó/\f.w.frozen? a=Í):lF D X f where
 C b hg:=by rw[q];exact h.C b hg
 M b hg:=⟨p _ (h.C b hg).1 (h.M b hg).1,p _ (h.C b hg).2 (h.M b hg).2⟩;c:=e _ h.c;d:=(gM<|c _ h.c).trans h.d;f:=e _ h.f;g:=(gM<|c _ h.f).trans h.g;h k hk:=by let⟨b,g,d,j,m,n,o⟩:=h.h k hk;exact⟨b,g,e b d,(gM<|c b d).trans j,(gM<|c b d).trans m,(gM<|c b d).trans n,(gM<|c b d).trans o⟩
 j i hi:=by let⟨b,g,d,j,m,n,o⟩:=h.j i hi;exact⟨b,g,e b d,(gM<|c b d).trans j,(gM<|c b d).trans m,(gM<|c b d).trans n,(gM<|c b d).trans o⟩
 r:=r;Y b d:=e b<|h.Y b d;e:=ok.C _ _ h.e λb d=>c b<|h.Y b d
def lF.G(h:lF D S l)(ok:D.Ok)(c:∀b,S b->l.M b)(r:fK l l.w u):lF D S {l with w:=u}:= h.I ok (λ_ q=>q) (λb q=>r.I b<|c b q) U r.S λa q=>by have:=h.r a q;exact⟨by show(u.cell? a).isSome=Ó;rw[r.N a<|Ã q];exact this.1,(r.Y a<|Ã q).trans this.2⟩
def lF.R9{E:ã->Prop}(h:lF D S l)(ok:D.Ok)(g:∀b,S b->l.M b)(c:iG E l f):lF D S f:= h.I ok (λ_ q=>q) (λb q=>c.r b<|g b q) c.K c.b λa q=>by
  rw[c.I]at q;let⟨d,i⟩:=h.r a q;refine⟨?_,(c.S a<|Ã q).trans i⟩;by_cases e:E a
  .exact c.g a e d
  .rwa[c.e a (Ã q) e]
def lF.ajF(h:lF D S l)(ok:D.Ok)(d:∀b,S b->l.M b/\¬X b)(c:gl X l f):lF D S f:= h.I ok (λ_ q=>q) (λb q=>c.r b (d b q).1 (d b q).2) c.K c.e λa q=>by rw[c.Y]at q;let⟨e,g⟩:=h.r a q;exact⟨by rwa[c.f a<|Ã q],(c.g a<|Ã q).trans g⟩
def lF.N(h:lF D S l)(a:∀b,S b->X b):lF D X l:=⟨h.C,h.M,a _ h.c,h.d,a _ h.f,h.g,λk c=>let⟨b,d,e,f⟩:=h.h k c;⟨b,d,a b e,f⟩,λk c=>let⟨b,d,e,f⟩:=h.j k c;⟨b,d,a b e,f⟩,h.r,λb q=>a b<|h.Y b q,h.e⟩
end
section
variable(D:SD)
def jL(a:Nat->Nat)(j:Nat):List Ð:=(ä j).map λi=>é<|Â<|a i
def C3(k:Nat):Jd:=λl g=>l.d=0/\¬l.q/\lF D l.M l/\∃t a b c e f h i j n o,Cs D.an D.N D.t D.m D.s k t/\l.M a/\l.w.cell? ⟨a,0,Á⟩=Â (À<|Â ⟨D.I,0,Á⟩)/\g=yZ t [vI h i j n o,ze a b c e f,oc Ä]
def Zu(c i:Nat):Jd:=λl g=>l.d=0/\¬l.q/\lF D l.M l/\∃t a b e f h j k m n o p,QT D.an D.N c t/\t[4]?=Â (À<|Â ⟨a,0,Á⟩)/\l.O a/\l.w.cell? ⟨a,0,Á⟩=Â (À<|D.h i)/\l.w.cell? ⟨a,1,Á⟩=Â (É Î<|D.a i)/\l.w.cell? ⟨a,2,Á⟩=Â (À<|Â ⟨D.C<|D.b i,0,Á⟩)/\l.M b/\l.w.cell? ⟨b,0,Á⟩=Â (À<|Â ⟨D.I,0,Á⟩)/\g=LC t [H4 k m n o p,ze b e f h j,oc Ä]
def ajG:Jd:=λl g=>lF D l.M l/\∃t a b c,Ij D.S D.I (D.C D.m) D.n (Æ D.k D.q D.j) t/\ia l a (Ê #[À<|Â ⟨D.I,0,Á⟩] 162)/\ia l b (Ê #[ď (þ 48) #[] #[À<|Â ⟨D.p,0,Á⟩,À<|Â ⟨D.S,0,Á⟩]] 1)/\g=CI (À<|Â ⟨D.I,0,Á⟩) c (À<|Â ⟨D.I,0,Á⟩) (ñ #[]) a b (E7 t::D.e)
def ajH(j:Nat)(a:Nat->Nat):Jd:=λl g=>lF D l.I l/\∃t e c b d f,ST D.S D.I (D.C D.m) D.n (j-1) (Æ D.k D.q D.j) e t/\Y1 D.S D.I D.q e (jL a j) (a<|j-1) c b d l/\a (j-1)<c/\c<b/\b<d/\(∀k,e.ownBlock=Â k->k≠a (j-1)/\k≠c/\k≠b/\k≠d)/\D.f<=a (j-1)/\g=CI (À<|Â ⟨D.I,0,Á⟩) f (À<|Â ⟨D.I,0,Á⟩) (ñ #[]) b d (LO t::D.e)
def Mj(j:Nat)(a:Nat->Nat):Jd:=λl g=>l.d=0/\¬l.q/\D.f<=l.w.heap.size/\((j=0/\ajG D l g)\/(1<=j/\ajH D j a l g))
def Zv:Jd:=λl g=>l.d=0/\¬l.q/\lF D l.I l/\∃a,SE D.S D.I (D.C D.m) a/\g=Fc a D.e
def SD.r(P:Ġ):Ph where
 toFx:=D.M
 P:=P
 S:=D.f
 n:=D.n
 q:=D.q
 Y:=D.an
 f:=D.N
 r:=D.b
 a:=D.a
 b:=D.Y
 c:=D.ajC
 z:=zT
 B:=60
 γ:=D.γ
 l:=D.v
 i:=D.u
 p:=D.g
 d:=λk s V w=>(∃a,w.cell? ⟨D.C k,2,Á⟩=Â a/\D.RD s a V w)/\(k=0->w.cell? ⟨D.an,D.N,Á⟩=Á/\kU w D.an=Â (0,0)/\D.o w)
 o:=D.d
 k:=D.i
 g:=Mj D
 h:=C3 D
 e:=Zu D
 j:=λ_=>Zv D
end
def Fe(D:SD):Prop:=∀k s e V l,k<D.m->nA (D.r Ä) k s->D.RD s e V l.w->(∀b,V b->l.M b)->gB l->¬l.q->(∀b,D.c b->l.M b)->D.RC l.w->∀f g,fp Ä Í (λa j=>a.d=l.d/\∃p n c,j=G (f.finish<|ñ #[Æ p n c,á<|D.d<|k+1]) g/\∃h i,D.g k s h/\D.RD h (Æ p n c) i a.w/\∀b,i b->a.M b) (ma l)<|G (Ĉ Ä 66 #[e,À<|D.l<|k+1] ĥ)<|f::g
def Ff(D:SD):Prop:=∀i s a V l,i<D.q->nA (D.r Ä) (D.b i) s->D.RD s a V l.w->(∀b,V b->l.M b)->gB l->¬l.q->(∀b,D.c b->l.M b)->D.RC l.w->∀b c,fp Ä Í (λe f=>e.d=l.d/\f=G (b.finish<|á<|D.i i) c) (ma l)<|G (Ĉ Ä 67 #[a,À<|D.h i] ĥ)<|b::c
section
variable{D:SD}
def IF(k:Nat)(a:k<=D.m):D.M.M (D.C k):=Ç ⟨k,a,U⟩
def zj:D.M.M D.I:=Ã U
def ajI(ok:D.Ok):(D.r Ä).Ok:=⟨ok.I,ok.L1,ok.gf,λi _=>ok.S i,ok.ajD,ok.ajE,ok.M,ok.pq,ok.pi,ok.PW,ok.gu,⟨λk a b e=>by have c:D.Y k=D.N:=e;have:=ok.Y k a b;omega,λi d e=>by have c:D.a i=D.N:=e;have:=ok.a i d;omega⟩⟩
def ajJ(ok:D.Ok)(um:Fe D):∀k s V l g,k<D.m->C3 D k l g->gB l->nA (D.r Ä) k s->(D.r Ä).d k s V l.w->(∀b,V b->l.I b)->l.N (jk D.M k)->l.r (jk D.M<|k+1)->l.r (jv (D.r Ä)<|D.Y<|k+1)->∀C:Nat->D.γ,C k=s->fp Ä Í (JI (D.r Ä) C<|.mk (k+1)) l g:=by
 intro k s V l g u hJ Fb Sb AY hV uz E F C hsg;obtain⟨hd,G,i,t,H,v1,v2,v3,v4,u0,u1,u2,u3,u4,hT,CP,Sc,rfl⟩:=hJ;let⟨⟨sl,hsl,ri⟩,_⟩:=AY;let⟨b,za,hbM,i0,i1,i2,i3⟩:=i.h k u;have AN:=ok.gf;have kI:(⟨D.C<|k+1,2,Á⟩:ã)≠⟨D.an,D.Y<|k+1,Á⟩:=λe=>ok.M (by injection e with I _ _;rw[<-I];exact IF (k+1) u);have AJ:Cs D.an D.N (Â ⟨b,0,Á⟩) D.m D.s k t:=by rwa[<-za]
 have⟨oc1,oz1⟩:=i.r _ E;have⟨oc2,oz2⟩:=i.r _ F;have rY:∀a:ã,(a=⟨D.C<|k+1,2,Á⟩\/a=⟨D.an,D.Y<|k+1,Á⟩)->l.r a:=λa z=>by rcases z with rfl|rfl;exact E;exact F
 have B:=i.C _<|IF (k+1) u;have Zw:=i.M _<|IF (k+1) u;refine fp.fQ (Stop:=λl g=>(∃o r,D.g k s o/\(D.r Ä).d (k+1) o r l.w/\(∀b,r b->l.M b)/\l.w.cell? ⟨D.an,D.Y<|k+1,Á⟩=Â (á<|D.d<|k+1))/\yw Ä Í (D.C<|k+1) (fp Ä Í<|C3 D<|k+1) (qd (D.r Ä) l<|k+1) g) (λl g h=> ?_) ?_
 .let⟨⟨o,r,J,L,O,P⟩,T⟩:=h;exact⟨o,r,by subst hsg;exact J,L,O,P,T⟩
 refine aii (Q:=λv c y=>c=D.d (k+1)/\∃o r,D.g k s o/\D.RD o v r y.w/\∀b,r b->y.M b) (τ:=λl=>qd (D.r Ä) l<|k+1) Fb G hd AJ u Z (by have:=ok.N1;omega) (ok.Y (k+1) Z u) hbM i0 i1 i2 i3 uz hsl E F oc1 oc2 oz1 oz2 kI (λf v c n=> ?_) λf x v hQ Rf LB=> ?_
 .refine(um k s sl V f u Sb (ok.r _ _ _ _ _ ri λb x=>v.r b<|Ç<|hV b x) (λb x=>v.M<|Ç<|hV b x) (v.G Fb) (by rwa[v.q]) (λb x=>v.M<|i.Y b x) (ok.C _ _ i.e λb x=>v.r b<|i.Y b x) c n).fQ ?_;rintro X Y ⟨W,p,n,c,rfl,j⟩;exact⟨W,p,n,c,_,U,U,j⟩
 .let⟨y,⟨hstr,o,r,hnx,ajK,Zx⟩,hy⟩:=hQ;rw[hstr]at LB;have W:=v.d.trans hd;have Zy:mU (D.C<|k+1) f.w:=⟨v.b _ B.1 Zw.1,v.b _ B.2 Zw.2⟩;refine⟨⟨Ã (by rw[v.K];exact B.1),Ã (by rw[v.K];exact B.2),λ_ _ _ _ _ _ _ _=>trivial⟩,⟨v.fx,Zy,trivial⟩,⟨o,r,hnx,⟨⟨_,Rf,ok.r _ _ _ _ _ ajK λb x=>(hy b<|Zx b x).2⟩,λe=>by omega⟩,λb x=>(hy b<|Zx b x).1,LB⟩,W,λw=>fK (qd (D.r Ä) f<|k+1) f.w w,⟨Ã (by show f.K _;rw[v.K];exact B.1),Ã (by show f.K _;rw[v.K];exact B.2),λw w₁ J L O P T h=>h.fj ⟨J,L,O,P,T⟩⟩,⟨λj h=>h.elim,Zy,fK.fW _ _⟩,λpC t' ajL K4=> ?_⟩;refine .fF λp c=> ?_;have n:=ajL.2.2.fj ⟨c.r,c.I,c.N,c.Y,c.S⟩;have x:=λb x=>(n.I b<|Ç<|v.M x).trans<|v.r b x;have Zz:∀b,l.M b->({qd (D.r Ä) f (k+1)with d:=0,w:=p}:fh).M b:=λb x=>Ç<|v.M x;refine⟨U,by show¬f.q;rwa[v.q],i.I ok Zz x (by show f.K=l.K;exact v.K) (λa z h=>n.S a (by show f.K a;rwa[v.K])<|v.b a z h) λa z=> ?_,t',H,v1,v2,v3,v4,u0,u1,u2,u3,u4,by rwa[za],Zz H CP,(gM<|x H CP).trans Sc,U⟩;obtain⟨X,Y,a3⟩:f.r a/\a≠⟨D.an,D.Y<|k+1,Á⟩/\a≠⟨D.C<|k+1,2,Á⟩:=z;have a4:l.r a:=by rwa[<-v.I]
  let⟨I,e2⟩:=i.r a a4;have hc:=n.N a<|Ã ⟨X,Y,a3⟩;have hz:=n.Y a<|Ã ⟨X,Y,a3⟩;refine⟨?_,?_⟩
  .show(p.cell? a).isSome=Ó;rwa[hc,v.e a (Ã a4) λq=>q.elim a3 Y]
  .show p.frozen? a=Í;rwa[hz,v.S a<|Ã a4]
def ajM:∀l g,C3 D D.m l g->gB l->fp Ä Í (AB<|D.r Ä) l g:=by intro l g c d;obtain⟨e,f,b,t,k,n,o,p,q,r,s,u,v,w,h,i,j,rfl⟩:=c;have a:=b.C _<|zj;exact aiq (Ψ:=λ_=>True) h a ⟨Ã a.1,Ã a.2,λ_ _ _ _ _ _ _ _=>trivial⟩ ⟨d.r,b.M _ zj,trivial⟩ e f (Ã i) j
def ZA(ok:D.Ok){r:Nat}{l:fh}{t:Array Ð}{g h m o p:Ð}(B:gB l)(s:¬l.q)(C:l.d=0)(a:lF D l.M l)(E:QT D.an D.N i t)(f:l.M k)(u:l.w.cell? ⟨k,0,Á⟩=Â (À<|Â ⟨D.I,0,Á⟩)): En (D.r Ä) i j r l (zg t [H4 g h m o p,ze k v x z jQ,oc Ä]):=by have y:=ok.S<|j+r*D.n;refine aiv B s C E (Û _) U (a.C _<|IF _ y) (a.M _<|IF _ y) (a.C _ zj) (a.M _ zj) (Ã f) u λQ F G e H I J K L O P=> ?_;exact⟨H,by rwa[e.q],(a.R9 ok (λ_ q=>q) e).N λb q=>e.M q,G,F,k,v,x,z,jQ,g,h,m,o,p,O,P,I,J,K,L,e.M f,(gM<|e.r k f).trans u,U⟩
def ajN(ok:D.Ok)(Y:Ff D):∀c j r s V l g,j+r*D.n<D.q->Zu D c (j+r*D.n) l g->∀i:fh,gB i->i.O=l.O->(∀b,l.I b\/V b->i.I b)->i.w=l.w->i.d=l.d->i.q=l.q->i.r=l.r->i.K=l.K->nA (D.r Ä) (D.b<|j+r*D.n) s->(D.r Ä).d (D.b<|j+r*D.n) s V l.w->i.N (jk D.M<|D.b<|j+r*D.n)->i.r (jv (D.r Ä)<|D.a<|j+r*D.n)->fp Ä Í (JW (D.r Ä) c j<|.oQ r) i g:=by
 intro c j r s V l g F hJ i y G B u hd' Sd K5 hK Sb AY uz o;obtain⟨hd,hq,H,t,tb,v,v1,v2,v3,v4,u0,u1,u2,u3,u4,hT,h4,hOt,I,J,L,N,P,rfl⟩:=hJ;let⟨⟨sl,T,W⟩,_⟩:=AY;have C:∀b,l.M b->i.M b:=λb q=>q.elim (λz=>Ã<|by rwa[G]) λz=>Ç<|B b<|Ã z;have p:=H.I ok C (λb _=>by rw[u]) hK (λa _ h=>by rwa[u]) λa q=>by rw[u];exact H.r a<|by rwa[<-K5]
 have E:¬i.q:=by rwa[Sd]
 rw[<-u]at I J L P T W;let⟨e2,z2⟩:=p.r _ o;refine aiy (Q:=λx=>x=D.i (j+r*D.n)) y E hT h4 (by rwa[G]) I J L uz T o e2 z2 (ok.a _ F) (λk f e m=> ?_) λk x X f hx hcx AJ=> ?_
 .refine(Y _ s sl V k F Sb (ok.r _ _ _ _ _ W λb x=>f.r b<|Ç<|B b<|Ç x) (λb x=>f.M<|Ç<|B b<|Ç x) (f.G y) (by rwa[f.q]) (λb x=>f.M<|p.Y b x) (ok.C _ _ p.e λb x=>f.r b<|p.Y b x) e m).fQ ?_;rintro m X ⟨x,e⟩;exact⟨x,_,e,U⟩
 .have hEo:∀a:ã,a=⟨D.an,D.a<|j+r*D.n,Á⟩->i.r a:=λa e=>by rwa[e]
  have X:=(p.R9 ok (λ_ q=>q) f).N λb q=>f.M q;refine⟨hcx.trans (by rw[hx];rfl),?_⟩;have m:=f.G y;have HU:gB (vw (D.r Ä) k<|j+r*D.n):=by
   refine⟨m.c,λa x=> ?_,λa x=> ?_,m.fx,λa x=> ?_,λa x=> ?_⟩
   .rintro(q|q)
    .exact m.Y a x.1 q
    .exact x.2 q
   .refine m.N a ?_;rcases x with q|q|q
    .exact Ã q.1
    .exact Ç q
    .rw[q];exact Ã<|by rwa[f.I]
   .refine m.I a ?_;rcases x with q|q|q
    .exact Ã q.1
    .exact Ç q
    .rw[q];exact Ã<|by rwa[f.I]
   .let⟨k1,k2,k3⟩:=m.S a x;exact⟨k1,k2,λq=>k3 q.1⟩
  refine ZA ok HU (by show¬k.q;rwa[f.q]) (by show k.d=0;rwa[f.d,hd']) ?_ AJ (by show k.M v;exact f.M<|C v N)<|(gM<|f.r v<|C v N).trans P;exact X.I ok (λ_ q=>q) (λ_ _=>rfl) U (λ_ _ h=>h) λa q=>X.r a q.1
end
section
variable{D:SD}{dk:Nat->Nat}{dv:Ð}{l f:fh}
structure MF(D:SD)(dk:Nat->Nat)(dv:Ð)(l:fh):Prop where
 C:gB l
 q:¬l.q
 d:l.d=0
 r:lF D l.I l
 I:∃db c,dv=Æ (Â ⟨db,0,Á⟩) D.n c/\l.O db/\∀i,i<D.n->l.w.cell? ⟨db,i,Á⟩=Â (é<|Â<|dk i)
def MF.M(h:MF D dk dv l)(ok:D.Ok)(a:iG (λ_=>False) l f):MF D dk dv f where
 C:=a.G h.C;q:=by rw[a.q];exact h.q
 d:=a.d.trans h.d;r:=(h.r.R9 ok (λ_ q=>Ç q) a).N λb q=>by rwa[a.Y]
 I:=by let⟨e,c,j,g,k⟩:=h.I;exact⟨e,c,j,a.O e g,λi m=>(gM<|a.r e<|Ã g).trans<|k i m⟩
def ajO(ok:D.Ok):∀r,r<=D.n->∀l t b,MF D dk dv l->ET dv D.n (D.n-r) t->SE D.S D.I (D.C D.m) b->fp Ä Ó (AF (D.r Ä) dk r) l (C0 t<|IC b::D.e):=by
 intro r
 induction r with
 |zero=>
  intro _ l t b a e g;rw[Ÿ]at e;refine ajy a.C a.d (Û _) e g (a.r.C _ zj) (a.r.M _ zj) λf i h j=> ?_;have c:=a.M ok h;exact⟨c.d,c.q,c.r,i,j,U⟩
 |succ r j=>
  intro s l t b a e g;obtain⟨u,c,rfl,k,o⟩:=a.I;have v:=ok.gf;refine ajx a.C a.q e Z Z k (o (D.n-(r+1)) Z) λf p h i=> ?_;refine j Z f p b (a.M ok h) ?_ g;rwa[show D.n-(r+1)+1=D.n-r by omega]at i
def ajP(ok:D.Ok):∀r,r<=D.q->∀l t d,MF D dk dv l->DT dv D.k D.q D.j (D.q-r) t->SE D.S D.I (D.C D.m) d->fp Ä Ó (Hb (D.r Ä) dk r) l (qA t<|IC d::D.e):=by
 intro r
 induction r with
 |zero=>
  intro _ l t d a e h;rw[Ÿ]at e;obtain⟨j,c,rfl,k,o⟩:=a.I;refine ajw a.C.r e λi g=>ajO ok D.n (Û _) l i d a ?_ h;rwa[Ź]
 |succ r s=>
  intro C l t d a e h;obtain⟨j,c,rfl,k,o⟩:=a.I;have E:=ok.gf;have F:=ok.I;let⟨b,p,u,v,w,x,y⟩:=a.r.j (D.q-(r+1)) Z;have z:DT (Æ (Â ⟨j,0,Á⟩) D.n c) (Â ⟨b,0,Á⟩) D.q D.j (D.q-(r+1)) t:=by rwa[<-p]
  refine R7 a.C a.q z Z Z Z Z k (o _<|Ł _ Z) (Ç u) v w x y λf i B g=> ?_;refine s Z f i d (a.M ok B) ?_ h;rwa[show D.q-(r+1)+1=D.q-r by omega,<-p]at g
def ajQ(dk:Nat->Nat)(j a:Nat):jL (fA dk j a) (j+1)=jL dk j++[é<|Â a]:=by
 unfold jL;rw[ą,List.map_append];congr 1
 .refine List.map_congr_left λi b=> ?_;rw[fL];have:=ù.1 b;omega
 .simp[gD]
def ajR(dk:Nat->Nat)(j:Nat):(jL dk j).length=j:=by simp[jL]
def ajS(dk:Nat->Nat)(j i:Nat)(h:i<j):(jL dk j)[i]?=Â (é<|Â<|dk i):=by simp[jL,h]
def ZB(ok:D.Ok){t:Array Ð}(Q:j<=D.n)(a:gB l)(o:¬l.q)(p:l.d=0)(h:lF D l.I l)(v:D.f<=l.w.heap.size)(x:ST D.S D.I (D.C D.m) D.n j (Æ D.k D.q D.j) dv t)(r:l.w.ownsRow 0 101 1 dv j (jL dk j))(s:∀k,dv.ownBlock=Â k->l.O k): fp Ä Ó (JM (D.r Ä) dk<|if j<D.n then .iF (j+1)else .iL D.q) l (CH t D.e):=by
 have T:=ok.gf;by_cases u:j<D.n
 .rw[if_pos u];show fp Ä Ó (PV (D.r Ä) (j+1) dk) l _;rw[ahS];refine aiG a o p x u Z Z (h.C _ zj) (h.M _ zj) r s λf i y z B C E F c G H I J K L N=> ?_;have P:∀b,l.I b->l.M b/\¬(Â b=dv.ownBlock):=λb g=>⟨Ç g,λe=>a.c b (s b e.symm) g⟩;refine⟨y,c.d.trans p,by rwa[c.q],Ø v c.I,Ç ⟨Z,(h.ajF ok P c).N λb q=>(by rwa[c.S]),i,E,z,B,C,F,?_,?_,?_,K,L,?_,?_,U⟩⟩
  .rwa[ú]
  .rwa[ú,ajQ,gD]
  .rwa[ú,gD]
  .rwa[ú,gD]
  .rw[ú,gD];exact Ø v I
 .have e:j=D.n:=Z
  subst e;rw[if_neg u];have y:∃b c,dv=Æ (Â ⟨b,0,Á⟩) D.n c/\l.O b/\∀i,i<D.n->l.w.cell? ⟨b,i,Á⟩=Â (é<|Â<|dk i):=by
   rcases r.2 with⟨_,C⟩|⟨g,z,E,rfl,_⟩
   .have:=ok.I;omega
   .refine⟨g,z,U,s g U,λi B=> ?_⟩;have:=r.cells U i _<|ajS dk D.n i B;rw[Ĩ]at this;simpa using this
  refine ajv a.r x λg z B C=> ?_;exact ajP ok D.q (Û _) l g z ⟨a,o,p,h,y⟩ (by rwa[Ź]) C
def ajT(ok:D.Ok)(h:C3 D k l g)(r:fK l l.w u):C3 D k {l with w:=u} g:=by obtain⟨c,d,e,t,a,f,i,j,m,n,o,p,s,v,x,b,y,rfl⟩:=h;exact⟨c,d,e.G ok (λ_ q=>q) r,t,a,f,i,j,m,n,o,p,s,v,x,b,(gM<|r.I a b).trans y,U⟩
def ia.M{o:Η}(h:ia l b o)(r:fK l l.w u):ia {l with w:=u} b o:=⟨h.fu,(r.I b<|Ã h.fu).trans h.I⟩
def Hc(ok:D.Ok)(h:Mj D j dk l g)(r:fK l l.w u):Mj D j dk {l with w:=u} g:=by
 let⟨m,n,o,h⟩:=h;refine⟨m,n,Ø o r.r,?_⟩;rcases h with⟨p,b,t,c,d,f,i,s,v,rfl⟩|⟨x,b,t,dv,y,c,d,f,i,a,z,B,C,E,F,rfl⟩
 .exact Ã ⟨p,b.G ok (λ_ q=>q) r,t,c,d,f,i,s.M r,v.M r,U⟩
 .exact Ç ⟨x,b.G ok (λ_ q=>Ç q) r,t,dv,y,c,d,f,i,⟨om a.S λk e=>r.I k<|Ã<|a.M k e,a.M,a.r.M r,a.C.M r,a.N.M r,a.I.M r⟩,z,B,C,E,F,U⟩
def ajU(ok:D.Ok):∀j dk l g,j<=D.n->Mj D j dk l g->gB l->l.d=0/\∃(G H:à) (X:Nat->Prop),G.status=ē/\H.status=ē/\(∀u,stepG Ä Ó g u=.spawn G H u #[])/\(∀b,X b->l.O b)/\ (1<=j->l.O (dk<|j-1)/\¬X (dk<|j-1)/\l.w.heap[dk<|j-1]?=Â (ũ D.q #[] Í 0 0 Í)/\D.f<=dk (j-1))/\ (∀f:fh,gB f->(∀b,X b\/l.I b->f.I b)->f.w=l.w->f.d=0->¬f.q->(∀b,¬f.O b)->f.K=l.K->f.N=l.N->(∀a,f.r a->l.r a)->fp Ä Í (if j=0 then C3 D 0 else En (D.r Ä) (dk<|j-1) (j-1) 0) f H)/\ (∀f:fh,gB f->f.O=(λb=>l.O b/\¬X b/\(1<=j->b≠dk (j-1)))->(∀b,X b\/l.I b->f.I b)->f.w=l.w->f.d=0->f.q=l.q->f.K=l.K->f.N=l.N->(∀a,f.r a->l.r a)->fp Ä Ó (JM (D.r Ä) dk<|if j<D.n then .iF (j+1)else .iL D.q) f G):=by
 intro j dk l g L h Fb;let⟨hd,N,P,h⟩:=h;refine⟨hd,?_⟩;rcases h with⟨rfl,p,t,v,C,v1,I,Q,T,rfl⟩|⟨h1,p,t,dv,V,v,C,v1,I,i,x1,x2,x3,x4,x5,rfl⟩
 .refine⟨_,_,l.O,U,U,λu=>YZ _ _ _ _ _ _ _ u,λ_ q=>q,λq=>by omega,λf m o X y s E z J B=> ?_,λf m E o X y s z J B=> ?_⟩
  .rw[if_pos U];have e:=λb q=>o b q;have c:lF D f.M f:=p.I ok (λb q=>Ç<|e b q) (λb _=>by rw[X]) z (λa _ h=>by rwa[X]) λa q=>by rw[X];exact p.r a<|B a q
   refine aip m.r s (Ã<|Ç<|e C<|Ã T.fu) (Ã c.f) (Ã c.c) (by rw[X];exact T.C U) c.g c.d λF W Y w3 w4 u0 u1 u2 u3 u4 x=> .fF λu r=>ajT ok ⟨y,s,c,F,v,W,Y,w3,w4,u0,u1,u2,u3,u4,x,Ç<|e v<|Ã Q.fu,by rw[X];exact Q.C U,U⟩ r
  .refine aiE m.r I λF x=> ?_;have c:=p.I ok (λb q=>o b q) (λb _=>by rw[X]) z (λa _ h=>by rwa[X]) λa q=>by rw[X];exact p.r a<|B a q
   exact ZB ok L m (by rwa[s]) y c (by rwa[X]) x (World.ownsRow_nil _ _ _ _) λk e=>by cases e
 .refine⟨_,_,λb=>b=V\/b=v\/b=C,U,U,λu=>YZ _ _ _ _ _ _ _ u,λb q=> ?_,λ_=>⟨i.r.fu,?_,i.r.I,x5⟩,λf m o X y s E z J B=> ?_,λf m E o X y s z J B=> ?_⟩
  .rcases q with rfl|rfl|rfl
   .exact i.C.fu
   .exact i.N.fu
   .exact i.I.fu
  .rintro(q|q|q)<;>omega
  .rw[if_neg Z];have c:lF D f.M f:=p.I ok (λb q=>Ç<|o b<|Ç q) (λb _=>by rw[X]) z (λa _ h=>by rwa[X]) λa q=>by rw[X];exact p.r a<|B a q
   have ZC:f.M v:=Ç<|o v<|Ã<|Ç<|Ã U;have Sc:f.w.cell? ⟨v,0,Á⟩=Â (À<|Â ⟨D.I,0,Á⟩):=by rw[X];exact i.N.C U
   refine aiu m.r s (Ã<|Ç<|o C<|Ã<|Ç<|Ç U) (Ã<|Ç<|o V<|Ã<|Ã U) (Ã c.c) (by rw[X];exact i.I.C U) (by rw[X];exact i.C.C U) c.d λF W Y w3 w4 u0 u1 u2 u3 u4 x=> .fF λu r=> ?_;exact ZA ok (m.jP r.r) s y (c.G ok (λ_ q=>q) r) x ZC<|(gM<|r.I v ZC).trans Sc
  .have AN:=ok.gf;refine aiF m.r I Z λF x=> ?_;rw[show j-1+1=j by omega]at x;have c:=p.I ok (λb q=>o b<|Ç q) (λb _=>by rw[X]) z (λa _ h=>by rwa[X]) λa q=>by rw[X];exact p.r a<|B a q
   have r:=i.S;rw[ajR]at r;refine ZB ok L m (by rwa[s]) y c (by rwa[X]) x (by rwa[X]) λk e=> ?_;rw[E];let⟨W,Y,n3,n4⟩:=x4 k e;refine⟨i.M k e,?_,λ_=>W⟩;rintro(q|q|q)
   .exact Y q
   .exact n3 q
   .exact n4 q
def ajV(ok:D.Ok)(b:Fe D)(d:Ff D):gU (D.r Ä) where
 C:=ajI ok;S k s V w w' h hV hc hz hf xt:=by let⟨⟨a,f,m⟩,t⟩:=h;exact⟨⟨a,hc.trans f,ok.r _ _ _ _ _ m hV⟩,λe=>⟨hz.trans (t e).1,hf.trans (t e).2.1,ok.ioS _ _ (t e).2.2 xt⟩⟩
 Hc j dk l g w₁ h r:=Hc ok h r;I j dk l g h:=by let⟨_,_,_,h⟩:=h;rcases h with⟨_,_,t,e,f,a,_,_,_,rfl⟩|⟨_,_,t,dv,m,e,f,a,_,_,_,_,_,_,_,rfl⟩<;>rfl
 N k l g h:=by obtain⟨_,_,_,t,e,a,f,m,n,o,p,q,u,v,_,_,_,rfl⟩:=h;rfl
 Y c i l g h:=by obtain⟨_,_,_,t,tb,e,a,f,m,n,o,p,q,u,v,_,_,_,_,_,_,_,_,rfl⟩:=h;rfl
 M dk l g h:=by obtain⟨_,_,_,f,_,rfl⟩:=h;rfl
 go:=ajU ok;f:=ajJ ok b;h:=ajM;e:=ajN ok d
end
end Go.Proofs.Y.fD
namespace Go.Proofs.Y.fD
open Go Go.Conc Go.Proofs.Y.Lift
open Go.ConcN (sumTo sumTo_congr)
structure kD(P:Ġ)(Y:Nat->Prop)(ju:ξ->Prop)(H:Nat)(J:Jd)(T:gy)(lv:Nat->Nat)(lot:Nat->fh)(gs:Array à)(w:Þ)(t:Λ):Prop where
 C:1<=gs.size
 r:gN P 0 Y (λi=>if i=0 then J else oS P (lv i)) (λi=>if i=0 then T else .fF) (λ_=> .no) lot gs w t
 c:∀i,0<i->i<gs.size->lot i=kA (lot i)
 d:¬(lot 0).q
 M:∀p a,touchAt t p=Â a->a.loc.isMemory=Ó->Knows t 0 p\/(ju a.loc/\a.kind=.atomic)
 S:∀p a x,touchAt t p=Â a->a.loc=Ā x->t.g? p=Â 0\/x.block<H
 b:∀a:ã,H<=a.block->NoRelease a t
 N:t.HandedOver
abbrev si(P:Ġ):=kD P λ_=>False
structure rj(l l':fh)(w w':Þ):Prop where
 r:w.heap.size<=w'.heap.size
 N:∀j,l'.O j->l.O j\/w.heap.size<=j
 c:l'.I=l.I
 S:l'.r=l.r
 b:l'.N=l.N
 k:l'.K=l.K
 jV:∀j,j<w.heap.size->¬l.O j->(∀a:ã,a.block=j->¬l.r a)->w'.heap[j]?=w.heap[j]?
 M:∀a:ã,a.block<w.heap.size->¬l.O a.block->¬l.r a->w'.cell? a=w.cell? a
 Y:∀j,j<w.heap.size->¬l.O j->kU w' j=kU w j
 C:w'.os=w.os
 I:w'.output=w.output
 d:w'.tape=w.tape
def rj.fW(l:fh)(w:Þ):rj l l w w:=⟨Û _,λ_ h=>Ã h,U,U,U,U,λ_ _ _ _=>rfl,λ_ _ _ _=>rfl,λ_ _ _=>rfl,U,U,U⟩
def rj.fj{l e i:fh}{w':Þ}(h:rj l e w w')(k:rj e i w' u):rj l i w u:=by
 have f:∀j,j<w.heap.size->¬l.O j->¬e.O j:=λj c b q=>(h.N j q).elim b λz=>by omega
 refine⟨Ø h.r k.r,λj q=> ?_,k.c.trans h.c,k.S.trans h.S,k.b.trans h.b,k.k.trans h.k,λj c b d=> ?_,λa g b d=> ?_,λj c b=>(k.Y j (È c h.r)<|f j c b).trans<|h.Y j c b,k.C.trans h.C,k.I.trans h.I,k.d.trans h.d⟩
 .rcases k.N j q with z|z
  .exact h.N j z
  .exact Ç<|Ø h.r z
 .exact(k.jV j (È c h.r) (f j c b)<|by rwa[h.S]).trans<|h.jV j c b d
 .exact(k.M a (È g h.r) (f _ g b)<|by rwa[h.S]).trans<|h.M a g b d
def mC.ajW{l a:fh}(h:mC l a w u V):rj l a w u:=⟨h.C,h.S,h.I,h.r,h.M,h.k,h.jV,h.N,λj b c=>h.Y ⟨j,0,Á⟩ b c,h.f,h.g,h.m⟩
def rj.G{l a:fh}(h:rj l a (w.at i) u):rj l a w u:=⟨h.r,h.N,h.c,h.S,h.b,h.k,h.jV,h.M,h.Y,h.C,h.I,h.d⟩
section
variable{Y:Nat->Prop}{ju:ξ->Prop}{H:Nat}{J:Jd}{T:gy}{lv:Nat->Nat}{lot:Nat->fh}{gs:Array à}{t:Λ}{sl:Option (Nat×Nat)}
def kD.I(c:kD P Y ju H J T lv lot gs w t)(d:Nat):kD P Y ju H J T lv lot gs (w.at d) t:=⟨c.C,c.r.at d,c.c,c.d,c.M,c.S,c.b,c.N⟩
def ajX{l:fh}{e:Ν}(h:yq l e)(a:ã):ó e≠.mark (.release a):=by
 let⟨c,d,g⟩:=e;rcases h with⟨x,b,_⟩|h|⟨f,h⟩|h|h|⟨x,_,h⟩
 .simp only at b;subst b;simp[ó]
 .simp only at h;subst h;simp[ó]
 .simp only at h;subst h;simp[ó]
 .simp only at h;subst h;simp[ó]
 .simp only at h;subst h;simp[ó]
 .simp only at h;rcases h with rfl|rfl|rfl|rfl<;>simp[ó]
def ajY{e:Ν}(h:e.mute=Ó)(a:ã):ó e≠.mark (.release a):=by let⟨b,c,d⟩:=e;cases b<;>simp_all[Event.mute];rename_i m;cases m<;>simp_all[ó]
def kD.ajZ{k:Þ->gy}(c:kD P Y ju H J (.jO k) lv lot gs w t)(o:∀l g,J l g->g.status=ē\/g.status=ų)(r:gs[0]?=Â g): ∃e b d u,runT P (Ķ gs w sl) 0=(.next<|Ķ b d sl,u)/\b.size=gs.size/\rj (lot 0) (e 0) w d/\kD P Y ju H J (k w) lv e b d (t++u):=by
 obtain⟨b,d,G,s,v,j,I,K,m,y⟩:=c.r.fu r U λl g h=>o l g h;refine⟨gw lot 0 s,b,d,_,v,j,by rw[gY];exact m.ajW,by rw[j];exact c.C,?_,λi z B=> ?_,?_,λp a f C=> ?_,λp a x f D=> ?_,λa f=>(c.b a f).app λu n=> ?_,Ŭ c.N λu n=>Ã<|oB u n⟩
 .have e:fA (λi=>if i=0 then(.jO k:gy)else .fF) 0 (k w)=λi=>if i=0 then k w else .fF:=by
   funext i;unfold fA;by_cases h:i=0<;>simp[h]
  rwa[<-e]
 .rw[gJ lot _ Z];exact c.c i z<|by rwa[<-j]
 .rw[gY,m.q];exact c.d
 .rcases mS f with⟨_,e⟩|⟨_,u,e,E,h⟩
  .exact(c.M p a e C).imp (·.app _) id
  .have:=knows_own h;rw[oB u e]at this;exact Ã this
 .rcases mS f with⟨F,e⟩|⟨_,u,e,E,h⟩
  .rw[g?_old F];exact c.S p a x e D
  .apply Ã;unfold Trace.g?;rw[h];simp[oB u e]
 .obtain⟨e,h,rfl⟩:=Ĕ n;exact ajX (m.c e h) a
def kD.ZD(c:kD P Y ju H J T lv lot gs w t)(y:gs[i]?=Â g)(b:i≠0)(D:g.status=ē): ∃h a f u,runT P (Ķ gs w sl) i=(.next<|Ķ f w sl,u)/\f.size=gs.size/\sumTo gs.size h+1=sumTo gs.size lv/\a 0=lot 0/\kD P Y ju H J T h a f w (t++u):=by
 have z:=(æ.1 y).1;obtain⟨f,B,k,M,E,r,N,C,F⟩:=c.r.Px (n:=lv i) y b D U (by simp[b]) (by simp[b]);have s:∀u∈MemOp.ofEvents i g.frame.fn g.frame.place B,u.act.touch?=Á:=λu l=>by obtain⟨e,v,rfl⟩:=Ĕ l;exact touch_mute<|C e v
 refine⟨fA lv i k,gw lot i {lot i with d:=Đ (lot i).d B,w:=w},f,_,E,r,?_,?_,by rw[r];exact c.C,?_,λj q G=> ?_,?_,λp a m I=> ?_,λp a x m K=> ?_,λa m=>(c.b a m).app λu l=> ?_,Ŭ c.N λu l=>Ç<|s u l⟩
 .have:=w7 (f':=fA lv i k) z λj q=>fL lv k q;rw[gD]at this;omega
 .exact gJ lot _<|Ne.symm b
 .have o:fA (λi=>if i=0 then J else oS P (lv i)) i (oS P k)=λj=>if j=0 then J else oS P (fA lv i k j):=by
   funext j;unfold fA;by_cases h:j=i
   .subst h;simp[b]
   .simp[h]
  rwa[<-o]
 .by_cases e:j=i
  .subst e;rw[gY];have:=c.c j q z;rw[this];rfl
  .rw[gJ lot _ e];exact c.c j q<|by rwa[<-r]
 .rw[gJ lot _<|Ne.symm b];exact c.d
 .rcases mS m with⟨_,h⟩|⟨_,u,h,o,_⟩
  .exact(c.M p a h I).imp (·.app _) id
  .rw[s u h]at o;cases o
 .rcases mS m with⟨L,h⟩|⟨_,u,h,o,_⟩
  .rw[g?_old L];exact c.S p a x h K
  .rw[s u h]at o;cases o
 .obtain⟨e,v,rfl⟩:=Ĕ l;exact ajY (C e v) a
def kD.Lp(c:kD P Y ju H J T lv lot gs w t):∀g∈gs,awake g:=by
 intro g e;obtain⟨i,f,rfl⟩:=Array.mem_iff_getElem.1 e;let⟨g0,_,b,a,_⟩:=c.r.C i _<|ç f;intro τ d;generalize gs[i]=g at b d;cases b with
 |gp=>rcases a with a|a<;>rw[d]at a<;>cases a
def kD.G(K:∀l g,J l g->g.status=ē\/g.status=ų):∀(T:gy) (s:Nat) (lv:Nat->Nat) (lot:Nat->fh) (gs:Array à) (w:Þ) (sl:Option (Nat×Nat)) (t:Λ),sumTo gs.size lv=s->kD P Y ju H J T lv lot gs w t-> ∃N h b a f e c,Ζ P N (Ķ gs w sl) t=(.next<|Ķ a f e,c)/\a.size=gs.size/\rj (lot 0) (b 0) w f/\kD P Y ju H J .fF h b a f c:=by
 intro T
 induction Xd.apply T with
 |intro T _ L=>
  intro s
  induction s using Nat.strongRecOn with
  |_ s M=>
   intro lv lot gs w sl t W c;cases C:T with
   |fF=>
    subst C;exact⟨0,lv,lot,gs,w,sl,t,U,U,rj.fW _ _,c⟩
   |jO k=>
    subst C;have X:=c.C;obtain⟨g0,D⟩:∃g,gs[0]?=Â g:=⟨_,ç Z⟩;have O:g0.status=ē:=by
     let⟨V,d,i,_,_⟩:=c.r.C 0 g0 D;cases i with
     |gp=>exact afR d
    let⟨i,g,d,e,E,Q,F⟩:=crowd_pick (P:=P) (w:=w) (sl:=sl) c.Lp ⟨0,g0,D,O⟩;by_cases G:i=0
    .subst G;let⟨b,a,f,u,n,j,V,I⟩:=(c.I d).ajZ (sl:=e) K E;let⟨N,o,p,q,r,v,x,y,z,m,B⟩:=L (k<|w.at d) ⟨_,U⟩ _ lv b a f e (t++u) U I;exact⟨N+1,o,p,q,r,v,x,by simp only[Ζ,F,n];exact y,z.trans j,V.G.fj m,B⟩
    .let⟨h,b,a,u,n,j,I,f,V⟩:=(c.I d).ZD (sl:=e) E G Q;let⟨N,o,p,q,r,v,x,y,z,m,B⟩:=M (sumTo a.size h) (by rw[j];omega) h b a (w.at d) e (t++u) U V;exact⟨N+1,o,p,q,r,v,x,by simp only[Ζ,F,n];exact y,z.trans j,by rw[f]at m;exact m.G,B⟩
end
section
variable{F:Ph}{σ:fV F}{S:Nat->Jd}{tr:Nat->gy}{o:Nat->iB}{f:Nat->fh}{gs:Array à}
def PI.jh(p:PI F i zX σ S tr o f gs w qJ)(c:σ.M=.gi):σ.r=F.n+1/\∀x,x<F.n+1->∃N,σ.N x=Â (.jh N):=by
 have j:σ.r=F.n+1:=by unfold fV.r;rw[c];rfl
 refine⟨j,λx g=> ?_⟩;have a:=Qz (p.C.B<|Ç<|Ç c) x g;have k:x<σ.M.ad F.n:=by rwa[c]
 unfold fV.G at a;rw[if_pos k]at a;have m:σ.M.gE=0:=by rw[c];rfl
 cases d:σ.N x with
 |none=>rw[d]at a;simp[lY]at a
 |some e=>
  rw[d]at a;simp only[lY]at a;cases e with
  |oT=>simp[ij.kK]at a
  |jh N=>exact⟨N,U⟩
  |gi q=>
   let⟨h,l⟩:=p.C.N x q d;cases q with
   |jH=>simp[ij.kK,jK.kK]at a
   |iF=>simp[ij.kK,jK.kK]at a
   |gG W=>
    let⟨_,b⟩:=h W<|Ã U;have r:=p.M.C.r;rw[b]at r;have:=(p.C.g W b).2.1;simp only[GS.ok]at r;omega
   |jf W=>
    let⟨_,b⟩:=h W<|Ç U;have r:=p.M.C.r;rw[b]at r;have:=(p.C.g W b).2.1;simp only[GS.ok]at r;omega
   |iC r=>
    let⟨W,_,s,b⟩:=l r U;have:=(p.C.u r s b).2.1;omega
def xu(l:fh):fh:={l with O:=λ_=>False,I:=λ_=>False,r:=λ_=>False,N:=λ_=>False,K:=λ_=>False,q:=True}
def vq(f:Nat->fh)(l:fh):Nat->fh:=λi=>if i=0 then l else xu (f i)
def Se(f:Nat->fh)(l:fh):vq f l 0=l:=rfl
def vR(f:Nat->fh)(l:fh)(h:i≠0):vq f l i=xu (f i):=if_neg h
def IG{l:fh}(h:i≠0):¬(vq f l i).M b:=by rw[vR f l h];exact λq=>q.elim id id
def IH{l:fh}(h:i≠0):¬(vq f l i).C a:=by rw[vR f l h];exact λq=>q.elim id id
def iT.Y{Y I:Nat->Prop}(C:iT n I Y f w qJ)(u:I 0){l:fh}(v:n<=m)(x:∀b,l.O b->¬l.I b)(y:∀a,l.r a->¬l.N a)(B:∀b,l.M b->¬X b)(D:∀a,l.C a->X a.block)(E:∀b,l.M b->b<w.heap.size)(F:∀b,X b->b<w.heap.size)(G:fK l l.w w)(H:Pq qJ 0 l)(J:l.d=(f 0).d)(t:∀a,l.K a->X a.block/\¬l.r a):iT m I X (vq f l) w qJ:=by
 refine⟨λi j g L s b o=> ?_,λi j g L s a e=> ?_,λi g b o=> ?_,λi g a e=> ?_,λi g b o=> ?_,λi g a e=> ?_,λi g b o=> ?_,F,λi g=> ?_,λi g=> ?_,λi g=> ?_,C.l,C.q,λp a c N r P=>È (C.s p a c N r P) v,λi g a e=> ?_⟩
 .by_cases h:j=0
  .subst h;exact absurd (Ã o)<|IG s
  .exact IG h
 .by_cases h:j=0
  .subst h;exact absurd (Ã e)<|IH s
  .exact IH h
 .by_cases h:i=0
  .subst h;exact x b o
  .exact absurd (Ã o)<|IG h
 .by_cases h:i=0
  .subst h;exact y a e
  .exact absurd (Ã e)<|IH h
 .by_cases h:i=0
  .subst h;exact B b o
  .exact absurd o<|IG h
 .by_cases h:i=0
  .subst h;exact D a e
  .exact absurd e<|IH h
 .by_cases h:i=0
  .subst h;exact E b o
  .exact absurd o<|IG h
 .by_cases h:i=0
  .subst h;exact G
  .rw[vR f l h];exact⟨(C.r i g).r,λj q=>q.elim (λz=>z.elim) λz=>z.elim,λa q=>q.elim (λz=>z.elim) λz=>z.elim,λa q=>q.elim (λz=>z.elim) λz=>z.elim,λa q=>q.elim⟩
 .by_cases h:i=0
  .subst h;exact H
  .rw[vR f l h];exact⟨λa e=>e.elim,λa e=>e.elim,λa e=>e.elim,λa e=>e.elim⟩
 .by_cases h:i=0
  .subst h;rw[Se,J];exact C.f 0 u
  .rw[vR f l h];exact C.f i g
 .by_cases h:i=0
  .subst h;refine⟨(t a e).1,λk z q=> ?_⟩;by_cases r:k=0
   .subst r;exact(t a e).2 q
   .exact absurd (Ã q)<|IH r
  .rw[vR f l h]at e;exact e.elim
def PI.aj0(p:PI F i zX σ S tr o f gs w qJ)(m:σ.M=.gi)(r:Lj F zX qJ)(B:F.S=0)(M:1<=F.L): ∃z:Nat->Nat,kD F.P σ.Y (λk=>zX k\/∃x:ã,k=Ā x/\x.block=F.C) w.heap.size (F.j σ.I) (tr 0) z (vq f<|f 0) gs w qJ:=by
 let⟨D,s⟩:=p.jh m;have O:gs.size=F.L+(F.n+1):=by rw[p.b,D]
 have C:=p.I.r;have c:0<gs.size:=Z
 refine⟨λb=>if h:F.L<=b/\b<F.L+(F.n+1)then Classical.choose (s (b-F.L) Z)else σ.h b,Z,⟨?_,λb x t=> ?_,p.I.I⟩,λb Q _=> ?_,p.a.M 0<|Ã U,λq a d E=> ?_,λq a x d G=>Ç<|Xb C.q d G,λa d q u=> ?_,r.2⟩
 .rw[B]at C;exact C.Y c (Û _) (C.m 0 c) (C.g 0 c) (C.I 0 c) (C.e 0 c) (C.fx 0 c) C.N (C.r 0 c) (C.S 0 c) U λa d=>⟨(C.n 0 c a d).1,(C.n 0 c a d).2 0 c⟩
 .let⟨k,j,l,v,H⟩:=p.I.C b x t;by_cases h:b=0
  .subst h;rw[p.h.1,m]at j;rw[p.h.2,m]at l;exact⟨k,j,l,v,H⟩
  .have T:=(æ.1 t).1;simp only[h,if_false];rw[vR f _ h];have y:∀N,S b=oS F.P N->tr b=.fF->o b=.no->∃k,k9 F.P (b==0) (oS F.P N) .fF (xu<|f b) k/\wV k .no x/\(k.status=ē\/k.status=ų)/\(x=k\/True):=λN z e g=>by
    rw[z,e]at j;rw[g]at l;exact⟨k,λJ _=>j _<|fK.fW _ _,l,v,Ç trivial⟩
   by_cases I:b<F.L
   .let⟨z,e,g⟩:=p.l b Z I;have J:¬(F.L<=b/\b<F.L+(F.n+1)):=Z
    simp only[J,dif_neg,not_false_eq_true];exact y _ z e g
   .have J:F.L<=b/\b<F.L+(F.n+1):=Z
    simp only[J,dif_pos,and_self];have K:=Classical.choose_spec<|s (b-F.L) Z;let⟨z,e,g⟩:=p.k (b-F.L) _ Z K;rw[show F.L+(b-F.L)=b by omega]at z e g;exact y _ z (g ⟨_,U⟩) e
 .rw[vR f _ Z];rfl
 .rcases r.1 q a d E with z|⟨z,k⟩
  .exact Ã z
  .exact Ç ⟨z,k⟩
 .unfold Trace.act? at u;let⟨k,z,J⟩:=Ī.1 u;have:=C.q k<|Array.mem_of_getElem? z;rw[J]at this;have e:a.block<w.heap.size:=this;omega
def kD.Y{Y:Nat->Prop}{J:Jd}{u:gy}(c:kD P Y zX n J u D f gs w qJ)(v:(f 0).d=0)(o:gs[0]?=Â g)(y:g.status=ē){p:Jd}{T:gy}{l:fh}(B:l.w=w)(E:l.d=0)(F:¬l.q)(k:∀b,¬l.I b)(r:∀a,¬l.r a)(m:∀a,¬l.N a)(G:∀a,¬l.K a)(s:∀b,l.O b->b<w.heap.size/\∀x:ã,x.block=b->¬zX (Ā x))(I:k9 P Ó p T l g): si P zX n p T D (vq f l) gs w qJ:=by
 have C:=c.r.r;have L:=c.C;refine⟨c.C,⟨?_,λi x j=> ?_,c.r.I⟩,λi o _=> ?_,F,c.M,c.S,c.b,c.N⟩
 .refine C.Y L (Û _) (λb _=>k b) (λa _=>m a) (λ_ _=>id) (λa e=>e.elim (λq=>absurd q<|r a) λq=>absurd q<|m a) (λb t=>t.elim (λq=>(s b q).1) λq=>absurd q<|k b) (λ_ h=>h.elim) (by rw[B];exact fK.fW _ _) ⟨λa e M x j t=> ?_,λa e=>(k _ e).elim,λa e=>(r a e).elim,λa e=>(m a e).elim⟩ (by rw[E,v]) λa e=>absurd e<|G a;rcases c.M M x j (by rw[t];rfl)with z|⟨z,_⟩
  .exact z
  .rw[t]at z;exact absurd z<|(s _ e).2 a U
 .by_cases h:i=0
  .subst h;rw[o]at j;obtain rfl:=Ô j;exact⟨g,I,.gp,Ã y,Ã U⟩
  .let⟨g0,e,z,M,t⟩:=c.r.C i x j;simp only[h,if_false]at e t|-;rw[vR f _ h];exact⟨g0,λN _=>e _<|fK.fW _ _,z,M,t⟩
 .rw[vR f _ Z];rfl
end
section
variable{F:Ph}{H:Nat}{J:Jd}{f:Nat->fh}{gs:Array à}
structure Sf(F:Ph)(H:Nat)(l0 l:fh)(w:Þ):Prop where
 fu:∀b,l.O b->l0.O b/\¬(F.M b\/b=F.Y)
 r:∀b,l.I b->l0.O b/\¬(F.M b\/b=F.Y)/\¬l.O b
 C:∀a,l.r a↔∃x,x<=F.n/\lS F x a
 I:∀a,l.N a↔a=jk F.toFx 0
 k:∀a,l.K a->F.G a
 M:∀b,F.M b\/b=F.Y->l0.O b
 N:∀b,F.M b->H<=b
 g:l.w=w
 d:l.d=0
 q:¬l.q
 S:∀b,F.i b->l.I b
 Y:ig w F.C (.cl 1 0)
 c:ig w (F.I 0) (.cl 0 0)
 e:∀k,1<=k->k<=F.m->ig w (F.I k) (.cl 1 0)
 f:F.d 0 F.l F.i w
def mb(F:Ph)(D:Nat->Nat)(a:Nat->Nat):fV F where
 M:=.go 0
 S:=.kJ 0
 C:=λ_=> .nz 0
 N:=λ_=>Á
 I:=a
 c:=λ_=>F.l
 V:=λk=>if k=0 then F.i else λ_=>False
 e:=λ_=>0
 d:=λ_=>Á
 f:=λ_=>0
 b:=.cl 1 0
 a:=λk=>if k=0 then .cl 0 0 else .cl 1 0
 g:=Á
 h:=D
def Mk(ok:F.Ok)(h:lS F i a):(∃k,1<=k/\k<=F.m/\a=jk F.toFx k)\/∃p,p≠F.f/\a=jv F p:=by
 unfold lS at h;split at h
 .obtain⟨k,c,d,b|b⟩:=h
  .exact Ã ⟨k,c,d,b⟩
  .exact Ç ⟨_,ok.Y.1 k c d,b⟩
 .let⟨k,c,_,b⟩:=h;exact Ç ⟨_,ok.Y.2 _ (by assumption),b⟩
def ZE(ok:F.Ok)(h:lS F i (jk F.toFx 0)):False:=by
 rcases Mk ok h with⟨k,c,b,a⟩|⟨p,_,a⟩
 .have:F.I 0=F.I k:=by injection a
  have:=ok.S 0 k Z b this;omega
 .have:F.I 0=F.Y:=by injection a
  exact ok.I<|by rw[<-this];exact Ç ⟨0,Z,U⟩
def si.aj1(Hy:gU F)(c:si F.P zX H J .fF D f gs w qJ)(hL:F.L=gs.size)(hB:F.S=0)(G:gs[0]?=Â g){l:fh}(st:Sf F H (f 0) l w)(n5:(f 0).d=0)(v:Nat->Nat)(hgo:F.g 0 v l g): PI F qJ.size zX (mb F D v) (λi=>if i=0 then F.g 0 v else oS F.P (D i)) (λ_=> .fF) (λ_=> .no) (λi=>if i=0 then l else xu (f i)) gs w qJ:=by
 have N:=Hy.C;have C:=c.r.r;have jx:=c.C;have W:0<gs.size:=Z
 have hn:=N.C;have y:(mb F D v).r=0:=U;have X:∀b,(mb F D v).Y b↔(F.M b\/b=F.Y):=λb=>by
  constructor
  .rintro(q|q|⟨j,B,_⟩)
   .exact Ã q
   .exact Ç q
   .rw[y]at B;omega
  .rintro(q|q)
   .exact Ã q
   .exact Ç<|Ã q
 have Sg:∀a,l.C a->F.M a.block\/a.block=F.Y:=λa o=>by
  rcases o with q|q
  .let⟨x,_,E⟩:=(st.C a).1 q;rcases Mk N E with⟨k,B,t,rfl⟩|⟨p,_,rfl⟩
   .exact Ã<|Ç ⟨k,t,U⟩
   .exact Ç U
  .rw[(st.I a).1 q];exact Ã<|Ç ⟨0,Z,U⟩
 have nC:∀i,i≠0->∀a,¬((λi=>if i=0 then l else xu (f i)) i).C a:=λi h a q=>by simp only[h,if_false]at q;exact q.elim id id
 have nM:∀i,i≠0->∀b,¬((λi=>if i=0 then l else xu (f i)) i).M b:=λi h b q=>by simp only[h,if_false]at q;exact q.elim id id
 have ZF:∀b,l.M b->(f 0).O b/\¬(F.M b\/b=F.Y):=λb q=>q.elim (st.fu b) λz=>⟨(st.r b z).1,(st.r b z).2.1⟩;have QB:iT F.S (λi=>i<gs.size) (mb F D v).Y (λi=>if i=0 then l else xu (f i)) w qJ:=by
  refine⟨λi j G hj Q b u=> ?_,λi j G hj Q a o=> ?_,λi G b u=> ?_,λi G a o=> ?_,λi G b u=> ?_,λi G a o=> ?_,λi G b u=> ?_,λb u=> ?_,λi G=> ?_,λi G=> ?_,λi G=> ?_,C.l,C.q,λq a e B t I=> ?_,λi G a o=> ?_⟩
  .by_cases h:j=0
   .subst h;simp only[Q,if_false]at u;exact u.elim
   .exact nM j h b
  .by_cases h:j=0
   .subst h;simp only[Q,if_false]at o;exact o.elim
   .exact nC j h a
  .by_cases h:i=0
   .subst h;simp only[if_true]at u|-;exact λq=>(st.r b q).2.2 u
   .simp only[h,if_false]at u;exact u.elim
  .by_cases h:i=0
   .subst h;simp only[if_true]at o|-;intro q;rw[(st.I a).1 q]at o;let⟨x,_,E⟩:=(st.C _).1 o;exact ZE N E
   .simp only[h,if_false]at o;exact o.elim
  .by_cases h:i=0
   .subst h;simp only[if_true]at u;rw[X];exact(ZF b u).2
   .exact absurd u<|nM i h b
  .by_cases h:i=0
   .subst h;simp only[if_true]at o;rw[X];exact Sg a o
   .exact absurd o<|nC i h a
  .by_cases h:i=0
   .subst h;simp only[if_true]at u;exact C.fx 0 W b<|Ã (ZF b u).1
   .exact absurd u<|nM i h b
  .exact C.fx 0 W b<|Ã<|st.M b<|(X b).1 u
  .by_cases h:i=0
   .subst h;simp only[if_true];rw[st.g];exact fK.fW _ _
   .simp only[h,if_false];exact⟨(C.r i G).r,λj q=>q.elim (λz=>z.elim) λz=>z.elim,λa q=>q.elim (λz=>z.elim) λz=>z.elim,λa q=>q.elim (λz=>z.elim) λz=>z.elim,λa q=>q.elim⟩
  .by_cases h:i=0
   .subst h;simp only[if_true];have s:=(C.S 0 W).fu;exact⟨λa o=>s a (st.fu _ o).1,λa o=>(s a (st.r _ o).1).r,λa o=>s a<|st.M _<|Sg a<|Ã o,λa o=>(s a<|st.M _<|Sg a<|Ç o).r⟩
   .simp only[h,if_false];exact⟨λa o=>o.elim,λa o=>o.elim,λa o=>o.elim,λa o=>o.elim⟩
  .by_cases h:i=0
   .subst h;simp only[if_true];rw[C.f 0 W,n5,st.d]
   .simp only[h,if_false];exact C.f i G
  .have:=C.s q a e B t I;omega
  .by_cases h:i=0
   .subst h;simp only[if_true]at o;let⟨b,u,s⟩:=st.k a o;have T:a.block=b:=by rcases s with rfl|rfl<;>rfl
    refine⟨by rw[X,T];exact Ã u,λk K q=> ?_⟩;by_cases t:k=0
    .subst t;simp only[if_true]at q;let⟨x,_,E⟩:=(st.C a).1 q;rcases Mk N E with⟨k',_,_,I⟩|⟨p',_,I⟩
     .rcases s with h4|h4<;>rw[h4]at I<;>simp[fM,gQ,jk]at I
     .have:a.block=F.Y:=by rw[I];rfl
      exact N.I<|by rwa[<-this,T]
    .simp only[t,if_false]at q;exact q
   .simp only[h,if_false]at o;exact o.elim
 have ZG:gN F.P F.S (mb F D v).Y (λi=>if i=0 then F.g 0 v else oS F.P (D i)) (λ_=> .fF) (λ_=> .no) (λi=>if i=0 then l else xu (f i)) gs w qJ:=by
  refine⟨QB,λi x E=> ?_,c.r.I⟩;by_cases h:i=0
  .subst h;rw[G]at E;obtain rfl:=Ô E;simp only[if_true];exact⟨g,λs r=>Hy.Hc 0 v l g s hgo r,.gp,Ã<|Hy.I 0 v l g hgo,Ã U⟩
  .let⟨g0,T,q2,Q,q4⟩:=c.r.C i x E;simp only[h,if_false]at T|-;exact⟨g0,λs _=>T _<|fK.fW _ _,q2,Q,Ç trivial⟩
 have aj2:iI F (mb F D v) (λi=>if i=0 then l else xu (f i)) gs.size w:=by
  refine⟨λi G a o=> ?_,λx _ t a o=> ?_,λ_=> ?_,λh=>absurd h (by rw[y];omega),λh=>absurd h (by rw[y];omega),λj h=>absurd h (by rw[y];omega),λj h=>absurd h (by rw[y];omega),λx ⟨e,B,_⟩=>(by cases B),λi h=> ?_,λi B t=> ?_,λk K b u=> ?_,λk K i G q=> ?_,λk B t=> ?_,λj h=>absurd h<|by rw[y];omega⟩
  .by_cases h:i=0
   .subst h;simp only[if_true]at o;rcases o with q|q
    .let⟨x,_,E⟩:=(st.C a).1 q;rcases Mk N E with⟨k,_,t,I⟩|I
     .exact Ã ⟨k,t,I⟩
     .exact Ç I
    .exact Ã ⟨0,Z,(st.I a).1 q⟩
   .exact absurd o<|nC i h a
  .simp only[if_true];exact(st.C a).2 ⟨x,t,o⟩
  .simp only[if_true];exact⟨(st.I _).2 U,st.S⟩
  .rcases h with rfl|⟨x,E,_⟩
   .simp only[if_true];exact st.q
   .rw[y]at E;omega
  .have:i≠0:=Z
   simp only[this,if_false];rfl
  .have T:k=0:=by have:k<=0:=K;omega
   subst T;have s:=u;have B:=st.S b s;refine⟨C.fx 0 W b<|Ã (st.r b B).1,by rw[X];exact(st.r b B).2.1,λi G q=> ?_⟩;by_cases h:i=0
   .subst h;simp only[if_true]at q;exact(st.r b B).2.2 q
   .simp only[h,if_false]at q;exact q
  .have T:k=0:=by have:k<=0:=K;omega
   subst T;by_cases h:i=0
   .subst h;simp only[if_true]at q;let⟨x,_,E⟩:=(st.C _).1 q;exact ZE N E
   .simp only[h,if_false]at q;exact q
  .have:k<=0:=t;omega
 have gg:∀k,k<=F.m->ig w (F.I k) ((mb F D v).a k):=λk K=>by
  by_cases h:k=0
  .subst h;exact st.c
  .have:(mb F D v).a k=.cl 1 0:=by simp[mb,h]
   rw[this];exact st.e k Z K
 have wdd:Wd F (mb F D v) w:=by
  refine⟨st.Y,gg,λj h=>absurd h (by rw[y];omega),λk K=> ?_,λk B t=> ?_,λj h=>absurd h<|by rw[y];omega⟩
  .have T:k=0:=by have:k<=0:=K;omega
   subst T;exact⟨.vp,st.f⟩
  .have:k<=0:=t;omega
 have ZH:∀k,(sumTo F.n λj=>((mb F D v).C j).gE F j k)=0:=λk=>by
  have:∀n,(sumTo n λ_=>0)=0:=λn=>by
   induction n with
   |zero=>rfl
   |succ n s=>simp[sumTo,s]
  exact this F.n
 have aj3:sumTo (F.n+1) (mb F D v).G=1:=by
  have B:=w7 (f':=(mb F D v).G) (j:=0) (n:=F.n+1) Z (λi G=>by
   have:¬i<1:=Z
   show(if i<1 then _ else _)=0;rw[if_neg this])
  have t:∀n,(sumTo n λ_=>0)=0:=λn=>by
   induction n with
   |zero=>rfl
   |succ n s=>simp[sumTo,s]
  rw[t]at B;have I:(mb F D v).G 0=1:=U;omega
 have pss:Ps F (mb F D v):=by
  refine⟨U,λj h=> ?_,λj h=> ?_,λr=>⟨λh=>(by cases h),λh=>(by cases h)⟩,λ_=>rfl,λk=>⟨λh=> ?_,λh=>(by cases h),λp h=>by cases h⟩,λ_ _=>rfl,λj r h=>absurd h (by rw[y];omega),λj h=>absurd h (by rw[y];omega),λh=>absurd U h,λ_ _=>rfl,λj j' h=>absurd h (by rw[y];omega),λj h=>absurd h (by rw[y];omega),λc reg h=> ?_,λreg h=>(by cases h),λr s h=>(by cases h),λx p h=>(by cases h),λh=> ?_,λk B t I=> ?_,λk B t=> ?_,λj r h=>absurd h (by rw[y];omega),λj r h=>absurd h (by rw[y];omega),λh=>(by cases h),λ_ _=>⟨1,rfl⟩,λ_ _ _=>rfl,λj r h=>absurd h<|by rw[y];omega⟩
  .rcases h with h|h|h|h<;>cases h;omega
  .rcases h with h|h|h<;>cases h
  .cases h;omega
  .cases h;exact⟨aj3.symm,U⟩
  .rcases h with h|h|h<;>cases h
  .rw[ZH];have:k≠0:=Z
   simp[mb,this]
  .have T:k=0:=by have:k<=0:=t;omega
   subst T;exact Ç<|Ç ⟨λp h=>(by cases h),Ã ⟨rfl,ZH 0⟩⟩
 have s:TI F.toFx qJ.size zX (mb F D v).r (mb F D v).S.rl (mb F D v).V (mb F D v).e (mb F D v).d (mb F D v).ie (mb F D v).f qJ:=by
  refine⟨Û _,λp a x o T hc=> ?_,λx h=>absurd h (by rw[y];omega),λk B t=> ?_,λk B t=> ?_,λb u=>c.b _<|st.N b u,λx h=>absurd h (by rw[y];omega),λp a B t=> ?_,λp a _ t I=>c.M p a t I,λp g _ t I h4=>c.N p g t I h4⟩
  .let⟨b,u,E⟩:=hc;have Qy:x.block=b:=by rcases E with rfl|rfl<;>rfl
   rcases c.S p a x o T with q|q
   .exact Ã ⟨PU o,q⟩
   .have:=st.N b u;omega
  .have:k<=0:=t;omega
  .have:k<=0:=t;omega
  .have:=PU t;omega
 refine⟨by rw[y,hL];rfl,ZG,⟨by simp only[if_true];rfl,U⟩,λh=>absurd h (by rw[y];omega),λj h=>absurd h (by rw[y];omega),λx e h=>absurd h (by rw[y];omega),λi B t=>⟨?_,U,U⟩,aj2,wdd,pss,s,λi x E u=> ?_,λj r h=>absurd h<|by rw[y];omega⟩
 .have:i≠0:=Z
  simp only[this,if_false];rfl
 .let⟨g0,_,q2,Q,_⟩:=ZG.C i x E;cases q2 with
  |gp=>rcases Q with Q|Q<;>rw[u]at Q<;>cases Q
end
end Go.Proofs.Y.fD
namespace Go.Proofs.Y.fD
open Go Go.Conc Go.Proofs.Y.Lift Go.RowKit Go.Conc.Lib Go.ConcR.Gen
open Go.Proofs Go.Proofs.YtgpphkdoanciiaaGreatDoor
section
variable{kd:Nat->Int}{R:Nat}
def IJ(h:i∈ic kd R):i<R/\kd i=1:=by have:=Ć.1 h;exact⟨ù.1 this.1,by simpa using this.2⟩
def IK(h:i∈jC kd R):i<R/\kd i≠1:=by have:=Ć.1 h;exact⟨ù.1 this.1,by simpa using this.2⟩
def aj4:(ic kd R).Nodup:=Ŕ.filter _
def aj5:(jC kd R).Nodup:=Ŕ.filter _
def C4(h:k<jJ.length):jJ[k]?=Â (jJ.getD k 0):=by simp[List.getD,h]
def vS{l:List Nat}(h:k<l.length):l.getD k 0∈l:=İ<|C4 h
def ZI(c:jJ.Nodup)(a:i<jJ.length)(d:j<jJ.length)(h:jJ.getD i 0=jJ.getD j 0):i=j:=by have b:=C4 a;have e:=C4 d;rw[h]at b;exact(List.getElem?_inj a c).1<|b.trans e.symm
def ZJ:∀R,(ic kd R).length+(jC kd R).length=R
 |0=>rfl
 |R+1=>by
  have:=ZJ R;by_cases h:kd R=1
  .rw[tA h,RE h];simp;omega
  .rw[vN h,RF h];simp;omega
end
structure xv where
 γ:Type
 C:γ
 M:Nat->γ->γ->Prop
 RD:γ->Ð->(Nat->Prop)->Þ->Prop
 I:Nat->ByteArray
 r:Nat->Prop
def Ml(M:xv)(L n R:Nat)(kd:Nat->Int)(a g:Nat->Nat)(b c:Option ã)(d e f h j l:Nat)(o:List ê)(p:Nat->Prop)(RC fe:Þ->Prop):SD where
 L:=L
 f:=0
 n:=n
 m:=fO kd R
 q:=(jC kd R).length
 N:=R
 I:=l
 C:=g
 an:=f
 S:=h
 p:=j
 t:=b
 s:=d
 k:=c
 j:=e
 l:=λk=>Â ⟨a<|(ic kd R).getD (k-1) 0,0,Á⟩
 Y:=λk=>(ic kd R).getD (k-1) 0
 h:=λi=>Â ⟨a<|(jC kd R).getD i 0,0,Á⟩
 a:=λi=>(jC kd R).getD i 0
 b:=λi=>if i<(jC kd R).length then fO kd ((jC kd R).getD i 0)else 0
 e:=o
 c:=p
 RC:=RC
 o:=fe
 γ:=M.γ
 v:=M.C
 u:=M.r
 g:=M.M
 RD:=M.RD
 d:=λk=>M.I<|(ic kd R).getD (k-1) 0
 i:=λi=>M.I<|(jC kd R).getD i 0
section
variable{M:xv}{L R:Nat}{kd:Nat->Int}{a:Nat->Nat}{c:Option ã}{cs:List ê}{RB:Nat->Prop}{RC fe:Þ->Prop}{l d f:fh}
def aj6(h:Ma kd a D R (Æ O (fO kd R) j7) (Æ c (jC kd R).length j6) v j b J i j9 m l d f)(F:∀w p,RC w->(∀g,RB g->p.heap[g]?=w.heap[g]?)->RC p)(G:∀w p,fe w->(p.os=w.os/\p.output=w.output)->fe p)(H:∀s B V w p,M.RD s B V w->(∀g,V g->p.heap[g]?=w.heap[g]?)->M.RD s B V p)(I:1<=n)(K:1<=L)(hs:n+R<1000):(Ml M L n R kd a D O c j7 j6 j b J i cs RB RC fe).Ok:=by
 have hb:=ZJ (kd:=kd) R;have hc:(ic kd R).length=fO kd R:=U;let⟨a1,a2,a3⟩:=h.M;let⟨a4,a5,a6⟩:=h.S;have z:∀k,k<=fO kd R->d.w.heap.size<=D k/\D k<J:=λk r=>⟨(h.r.M k r).1,h.N k r⟩;have RY:=Ø (z 0 Z).1<|Ō (z 0 Z).2;refine⟨F,G,H,I,K,?_,?_,λo=> ?_,λo t=> ?_,λk C x=> ?_,λk r e=> ?_,λk u r N e=> ?_,?_,λo i' t P e=>ZI aj5 t P e,λk u C x h3 Q e=> ?_,λo k t C x e=> ?_,λg _=>ĉ g⟩
 .show n+(jC kd R).length+fO kd R<1000;omega
 .show R<1000;omega
 .show(if o<(jC kd R).length then fO kd ((jC kd R).getD o 0)else 0)<=fO kd R;split
  .rename_i t;exact Zi<|Ō (IK<|vS t).1
  .omega
 .exact(IK<|vS t).1
 .refine(IJ<|vS ?_).1;have:k<=fO kd R:=x;omega
 .have:=(z k r).2;have y:D k=i:=e;omega
 .have y:D k=D u:=e;have T:=r;have W:=N;rcases Nat.lt_trichotomy k u with q|q|q
  .have:=h.r.S k u q W;omega
  .exact q
  .have:=h.r.S u k q T;omega
 .rintro(e|⟨k,r,e⟩)
  .have y:j=i:=e;omega
  .have y:j=D k:=e;have:=(z k r).1;omega
 .have X:k<=fO kd R:=x;have h4':u<=fO kd R:=Q;have:=ZI aj4 Z Z e;omega
 .have X:k<=fO kd R:=x;have y:(jC kd R).getD o 0=(ic kd R).getD (k-1) 0:=e;have E:=(IK<|vS t).2;have Y:=(IJ (kd:=kd) (R:=R)<|vS (k:=k-1) Z).2;rw[y]at E;exact E Y
end
abbrev kE(M:xv)(L n R:Nat)(kd:Nat->Int)(c g:Nat->Nat)(d e:Option ã)(f h i a j k:Nat)(cs:List ê)(l:fh):SD:=Ml M L n R kd c g d e f h i a j k cs (λb=>l.O b\/b=a) (λw=>∀b,l.O b->w.heap[b]?=l.w.heap[b]?) λw=>w.os=l.w.os/\w.output=l.w.output
def Mm(D:SD)(l:fh):fh:={l with O:=λb=>l.O b/\¬(D.M.M b\/b=D.an)/\¬D.c b,I:=D.c,r:=λa=>∃x,x<=D.n/\lS (D.r Ä) x a,N:=λa=>a=jk D.M 0,K:=D.M.G}
section
variable{M:xv}{L:Nat}{f:Nat->Int}{r:Nat->Nat}{u:Option ã}{y:Nat}{cs:List ê}{l B o:fh}
def Mn{cs:Array Ð}(h:w.heap[b]?=Â (Ê cs e)):w.frozen? ⟨b,i,Á⟩=Í:=by simp[ð,h]
def Si{cs:Array Ð}(h:w.heap[b]?=Â (Ê cs e))(a:cs[0]?=Â (É ì<|(i:Int)*gd+0))(d:cs[1]?=Â (É û 0))(f:i<1000000):ig w b (.cl i 0):=by
 refine⟨?_,?_,Mn h,Mn h,?_⟩
 .simp[Ù,fM,h,a,GS.st]
 .simp[Ù,gQ,h,d,GS.sm]
 .exact⟨f,Z,λ_=>rfl⟩
def aj7(h:Ma f r D j (Æ O (fO f j) j6) (Æ u (jC f j).length y) v k m j9 b j7 J l B o)(s:gB l)(Mp:∀g,¬l.I g)(X:¬l.q)(Y:l.d=0)(hH:i<=l.w.heap.size)(hV:∀g,M.r g->l.O g)(ri:M.RD M.C v M.r o.w)(xt:o.w.os=l.w.os/\o.w.output=l.w.output)(hn:1<=n)(hs:n+j<1000){t:Array Ð}(hT:Ij m b (D<|fO f j) n (Æ u (jC f j).length y) t)(dk:Nat->Nat): Sf ((kE M L n j f r D O u j6 y k m j9 b cs l).r Ä) i o (Mm (kE M L n j f r D O u j6 y k m j9 b cs l) o) o.w/\ ((kE M L n j f r D O u j6 y k m j9 b cs l).r Ä).g 0 dk (Mm (kE M L n j f r D O u j6 y k m j9 b cs l) o) (CI (À<|Â ⟨b,0,Á⟩) jQ (À<|Â ⟨b,0,Á⟩) (ñ #[]) j7 J<|E7 t::cs):=by
 let⟨a1,a2,a3⟩:=h.M;let⟨a4,a5,a6⟩:=h.S;have N:∀C,C<=fO f j->B.w.heap.size<=D C/\D C<j9:=λC E=>⟨(h.r.M C E).1,h.N C E⟩;have RY:=Ø (N 0 Z).1<|Ō (N 0 Z).2;have old:=λg q=>s.fx g<|Ã q;have hc:(ic f j).length=fO f j:=rfl;have Q:∀g,(kE M L n j f r D O u j6 y k m j9 b cs l).M.M g\/g=k->g=b\/(∃C,C<=fO f j/\g=D C)\/g=k:=λg q=>by
  rcases q with(q|⟨C,T,q2⟩)|q
  .exact Ã q
  .exact Ç<|Ã ⟨C,T,q2⟩
  .exact Ç<|Ç q
 have H:∀g,(kE M L n j f r D O u j6 y k m j9 b cs l).M.M g\/g=k->l.w.heap.size<=g/\g≠m/\g≠j9/\g≠j7/\g≠J/\(∀C,(Æ O (fO f j) j6).ownBlock=Â C->g≠C)/\(∀C,(Æ u (jC f j).length y).ownBlock=Â C->g≠C):=λg q=>by
  rcases Q g q with rfl|⟨C,E,rfl⟩|rfl
  .exact⟨Z,Z,Z,Z,Z,λC e=>by have:=h.o3 C e;omega,λC e=>by have:=h.o4 C e;omega⟩
  .have:=N C E;exact⟨Z,Z,Z,Z,Z,λp e z=>(h.r.M C E).2.1<|z▸e,λp e z=>(h.r.M C E).2.2<|z▸e⟩
  .exact⟨Z,Z,Z,Z,Z,λC e=>by have:=(h.r.r C e).2;omega,λC e=>by have:=(h.r.C C e).2;omega⟩
 have aj8:∀g,(kE M L n j f r D O u j6 y k m j9 b cs l).M.M g\/g=k->o.O g:=λg q=>by
  rcases Q g q with rfl|⟨C,E,rfl⟩|rfl
  .exact h.Y.fu
  .by_cases x:C=0
   .subst x;exact h.r.N.fu
   .exact(h.r.I C Z E).fu
  .exact h.I.fu
 have K:∀g,o.O g->l.w.heap.size<=g->g≠m->¬((kE M L n j f r D O u j6 y k m j9 b cs l).M.M g\/g=k)->(Mm (kE M L n j f r D O u j6 y k m j9 b cs l) o).O g:=λg T q2 q4 q3=>⟨T,q3,λq=>q.elim (λq=>by have:=old g q;omega) q4⟩;have ZK:ig o.w b (.cl 1 0):=Si h.Y.I U U Z;have ZL:ig o.w (D 0) (.cl 0 0):=Si h.r.N.I U U Z;have ZM:∀C,1<=C->C<=fO f j->ig o.w (D C) (.cl 1 0):=λC I P=>Si (h.r.I C I P).I U U Z;have V:∀g c,ig o.w g c->mU g o.w:=λg c q=>⟨by rw[show(⟨g,0,Á⟩:ã)=fM g from rfl,q.C];rfl,by rw[show(⟨g,1,Á⟩:ã)=gQ g from rfl,q.M];rfl⟩;refine⟨⟨λg q=>⟨q.1,q.2.1⟩,λg q=>⟨?_,λz=> ?_,λz=>z.2.2 q⟩,λa=>Iff.rfl,λa=>Iff.rfl,λa q=>q,λg q=>aj8 g q,λg q=>Ø hH (H g<|Ã q).1,U,h.C.d.trans Y,by show¬o.q;rwa[h.C.q],λg q=>Ã<|hV g q,ZK,ZL,ZM,⟨⟨v,h.r.N.C U,ri⟩,λ_=> ?_⟩⟩,?_⟩
 .rcases q with q|q
  .exact h.C.O g q
  .rw[q];exact h.a.fu
 .rcases q with q|q
  .have:=(H g z).1;have:=old g q;omega
  .exact(H g z).2.1 q
 .refine⟨?_,by unfold kU;rw[show o.w.heap[(kE M L n j f r D O u j6 y k m j9 b cs l).an]?=Â (xo j)from h.I.I],xt⟩;show o.w.cell? ⟨k,j,Á⟩=Á;simp only[Ù,h.I.I,xo,Ľ,ĝ,if_false];exact Array.getElem?_eq_none<|by rw[ŭ];exact Û _
 refine⟨h.C.d.trans Y,by show¬o.q;rwa[h.C.q],ĉ _,Ã ⟨U,⟨λg q=>⟨⟨g,q,Ã U⟩,⟨g,q,Ç U⟩⟩,λg q=> ?_,?_,h.a.C U,?_,h.c.C U,λC E=> ?_,λe hi=> ?_,λa q=> ?_,λg q=>Ç q,λg q=> ?_⟩,t,j7,J,jQ,hT,⟨?_,h.d.I⟩,⟨?_,h.b.I⟩,U⟩⟩
 .rcases Q g (Ã q)with rfl|⟨C,E,rfl⟩|rfl
  .exact V _ _ ZK
  .by_cases x:C=0
   .subst x;exact V _ _ ZL
   .exact V _ _<|ZM C Z E
  .exact absurd q λz=>by
    rcases z with z|⟨C,x,F⟩
    .have G:g=b:=z;omega
    .have G:g=D C:=F;have:=(N C x).1;omega
 .exact Ç<|Ç U
 .exact Ã<|K j9 h.c.fu Z Z λz=>(H j9 z).2.2.1 U
 .have tY:C<fO f j:=E;rcases h.r.jS.2 with⟨_,e2⟩|⟨g,cap,cur,W,_,hcur,Iz⟩
  .omega
  .have za:O=Â ⟨g,0,Á⟩:=by injection W
   subst za;have x:=h.r.jS.cells U;have hz:(ic f j).zipIdx[C]?=Â ((ic f j).getD C 0,C):=by rw[List.getElem?_zipIdx,C4 Z];simp
   have F:∀c,c<4->(jS f r D j)[C*4+c]?=(tI r D ((ic f j).getD C 0,C))[c]?:=λc q=>RJ (λ_=>rfl) q _ C _ hz;have G:∀p,(⟨g,0,Á⟩:ã).add p=⟨g,p,Á⟩:=λp=>by rw[Ĩ,Ė]
   refine⟨g,U,Ã (K g (h.r.r g U).1 (Ø Z (h.r.r g U).2) (by have:=(h.r.r g U).2;omega) λz=>(H g z).2.2.2.2.2.1 g U U),?_,?_,?_,?_⟩
   .have:=x (C*4+0) _<|F 0 Z;rwa[G]at this
   .have:=x (C*4+1) _<|F 1 Z;rwa[G]at this
   .have:=x (C*4+2) _<|F 2 Z;rwa[G]at this
   .have:=x (C*4+3) _<|F 3 Z;rwa[G]at this
 .have ly:e<(jC f j).length:=hi;rcases h.r.mJ.2 with⟨_,e2⟩|⟨g,cap,cur,W,_,hcur,Iz⟩
  .omega
  .have R8:u=Â ⟨g,0,Á⟩:=by injection W
   subst R8;have x:=h.r.mJ.cells U;have F:∀c,c<4->(mJ f r D j)[e*4+c]?=(tQ f r D<|(jC f j).getD e 0)[c]?:=λc q=>RJ (λ_=>rfl) q _ e _<|C4 ly;have G:∀p,(⟨g,0,Á⟩:ã).add p=⟨g,p,Á⟩:=λp=>by rw[Ĩ,Ė]
   refine⟨g,U,Ã (K g (h.r.C g U).1 (Ø Z (h.r.C g U).2) (by have:=(h.r.C g U).2;omega) λz=>(H g z).2.2.2.2.2.2 g U U),?_,?_,?_,?_⟩
   .have:=x (e*4+0) _<|F 0 Z;rwa[G]at this
   .have:=x (e*4+1) _<|F 1 Z;rwa[G]at this
   .have:=x (e*4+2) _<|F 2 Z;rw[G]at this;show o.w.cell? ⟨g,e*4+2,Á⟩=Â (À<|Â ⟨D (if e<(jC f j).length then fO f ((jC f j).getD e 0)else 0),0,Á⟩);rw[if_pos ly];exact this
   .have:=x (e*4+3) _<|F 3 Z;rwa[G]at this
 .have W:∀p,p<j->(o.w.cell? ⟨k,p,Á⟩).isSome=Ó/\o.w.frozen? ⟨k,p,Á⟩=Í:=λp hp=>by
   refine⟨?_,Mn h.I.I⟩;have:p<(madeCells (Δ<|á ⟨#[]⟩) j).size:=by rwa[ŭ]
   simp[Ù,h.I.I,this]
  let⟨x,_,F⟩:=q;unfold lS at F;split at F
  .obtain⟨C,I,P,rfl|rfl⟩:=F
   .have G:=P;refine⟨?_,Mn (h.r.I C I G).I⟩;show(o.w.cell? ⟨D C,2,Á⟩).isSome=Ó;rw[(h.r.I C I G).C U];rfl
   .have G:C<=fO f j:=P;exact W _ (IJ<|vS Z).1
  .obtain⟨e,I,_,rfl⟩:=F;exact W _ (IK<|vS I).1
 .exact h.C.r g (Ã q) id
 .exact K j7 h.d.fu Z Z λz=>(H j7 z).2.2.2.1 U
 .exact K J h.b.fu Z Z λz=>(H J z).2.2.2.2.1 U
end
end Go.Proofs.Y.fD
namespace Go.Proofs.Y.fD
open Go Go.Conc Go.Proofs.Y.Lift Go.RowKit Go.Conc.Lib Go.ConcR.Gen
open Go.Proofs Go.Proofs.YtgpphkdoanciiaaGreatDoor
open Go.ConcN (sumTo sumTo_congr)
def Mq(kd:Nat->Int)(f:Nat->Nat)(R n:Nat)(h:Ð)(l:fh)(cs:List ê):Jd:=λi j=>
 ∃g k t m b o c p a d e q,Ma kd f g R m b h o c p a d e l k i/\Ij c a (g<|fO kd R) n b t/\j=CI (À<|Â ⟨a,0,Á⟩) q (À<|Â ⟨a,0,Á⟩) (ñ #[]) d e (E7 t::cs)
def ZN(h:w.ownsRow i e j v n l):∃b c,v=Æ b n c:=by
 rcases h.2 with⟨a,d⟩|⟨b,f,g,a,_⟩
 .exact⟨Á,0,by rwa[d]⟩
 .exact⟨_,_,a⟩
section
variable{F:Ph}{σ:fV F}{S:Nat->Jd}{y:Nat->gy}{B:Nat->iB}{u:Nat->fh}
def PI.aj9(p:PI F j9 zX σ S y B u E w qJ)(f:σ.M=.gi)(g:1<=F.n):σ.S=.kJ F.m/\(∀i,i<F.q->w.cell? (jv F<|F.a i)=Â (á<|F.k i)/\∀k,k<E.size->¬(u k).r (jv F<|F.a i)):=by
 let⟨s,a⟩:=p.jh f;refine⟨p.C.f (by let⟨N,h⟩:=a 0 Z;rw[h];simp),λi k=> ?_⟩;have t:i%F.n<F.n:=Ł _ g;have e:i%F.n+i/F.n*F.n=i:=by rw[Nat.mul_comm];exact Nat.mod_add_div i F.n
 let⟨N,h⟩:=a (i%F.n+1) Z;let⟨_,r,j,l⟩:=p.C.l (i%F.n) Z (by rw[h];simp);have o:=l (i/F.n) (by rwa[e]);have b:i/F.n<(σ.C<|i%F.n).kB:=by rwa[j]
 have c:=p.M.N (i%F.n) Z (i/F.n) (by rwa[e]) b;have d:=p.a.d (i%F.n) Z (i/F.n) (by rwa[e]) b;rw[e]at c d;exact⟨c,d⟩
end
structure akb(D:SD)(l:fh)(w:Þ)(g:à):Prop where
 I:∀b,l.O b->w.heap[b]?=l.w.heap[b]?
 cba:w.cell? ⟨D.S,0,Á⟩=Â (Æ (Â ⟨D.an,0,Á⟩) D.N D.N)
 kJ:∀k,1<=k->k<=D.m->w.cell? ⟨D.an,D.Y k,Á⟩=Â (á<|D.d k)
 Sj:∀i,i<D.q->w.cell? ⟨D.an,D.a i,Á⟩=Â (á<|D.i i)
 IL:∃s sl V,nA (D.r Ä) D.m s/\w.cell? ⟨D.C D.m,2,Á⟩=Â sl/\D.RD s sl V w/\∀b,V b->b<w.heap.size/\b≠D.I
 fx:D.an<w.heap.size/\D.S<w.heap.size/\D.C D.m<w.heap.size
 r:D.an≠D.I/\D.S≠D.I/\D.C D.m≠D.I
 Sk:∃ts,SE D.S D.I (D.C D.m) ts/\g=Fc ts D.e
 C:w.cell? ⟨D.an,D.N,Á⟩=Á/\kU w D.an=Â (0,0)
 io:w.os=l.w.os/\w.output=l.w.output
section
variable{M:xv}{f:Nat->Int}{o:Nat->Nat}{cs:List ê}{l:fh}{G:Nat->Nat}{u:Nat->fh}
def akc(c:si Ä zX j (Mq f o J n v l cs) .fF G u E w qJ)(Q:Option (Nat×Nat))(s:gB l)(Mp:∀b,¬l.I b)(hq:¬l.q)(hd:l.d=0)(hH:j<=l.w.heap.size)(hV:∀b,M.r b->l.O b)(ri:∀s Q V w F,M.RD s Q V w->(∀b,V b->F.heap[b]?=w.heap[b]?)->M.RD s Q V F)(C5:M.RD M.C v M.r l.w)(xt:w.os=l.w.os/\w.output=l.w.output)(hn:1<=n)(hs:n+J<1000) (hA:∀g r t y B e m p h,l.w.heap.size<=m->Fe (kE M E.size n J f o g r t y B e m p h cs l)/\Ff (kE M E.size n J f o g r t y B e m p h cs l)): ∃g r t y B e m p h,(l.w.heap.size<=e/\l.w.heap.size<=m/\l.w.heap.size<=h/\∀k,k<=fO f J->l.w.heap.size<=g k)/\ ∃N Y a I C i F K D z,Ζ Ä N (Ķ E w Q) qJ=(.next<|Ķ i F K,D)/\i.size=E.size+(n+1)/\i[0]?=Â z/\a<=F.heap.size/\h<a/\j<=a/\(C 0).d=0/\z.status=ē/\ kD Ä Y (λH=>zX H\/∃x:ã,H=Ā x/\x.block=h) a (Zv<|kE M E.size n J f o g r t y B e m p h cs l) .fF I C i F D/\akb (kE M E.size n J f o g r t y B e m p h cs l) l F z:=by
 have h0:=c.C;obtain⟨g0,rR⟩:∃g,E[0]?=Â g:=⟨_,ç h0⟩;let⟨g1,q1,q2,q3,_⟩:=c.r.C 0 g0 rR;obtain rfl:g0=g1:=by cases q2;rfl
 have hz:=q1 w<|c.r.r.r 0 h0;let⟨g,lp,tt,iv,qv,e,m,p,h,bw,bf,T,D,hT,hg⟩:=hz;obtain⟨r,y,rfl⟩:=ZN D.r.jS;obtain⟨t,B,rfl⟩:=ZN D.r.mJ;let⟨a1,a2,a3⟩:=D.M;let⟨a4,a5,a6⟩:=D.S;have Sl:∀k,k<=fO f J->lp.w.heap.size<=g k/\g k<p:=λk W=>⟨(D.r.M k W).1,D.N k W⟩;have atr:=Sl 0 Z;have akd:=ri _ _ _ _ _ C5 λb q=>D.C.r b (Ã<|hV b q) id;obtain⟨st,hgo⟩:=aj7 D s Mp hq hd hH hV akd xt hn hs hT λ_=>0;have ok:=aj6 (L:=E.size) (cs:=cs) (RB:=λb=>l.O b\/b=m) (RC:=λw=>∀b,l.O b->w.heap[b]?=l.w.heap[b]?) D (λw F K X b a=>(X b<|Ã a).trans<|K b a) (fe:=λw=>w.os=l.w.os/\w.output=l.w.output) (λw F K X=>⟨X.1.trans K.1,X.2.trans K.2⟩) ri hn Z hs;let⟨hAdd,ake⟩:=hA g r t y B e m p h Z;have Hy:=ajV ok hAdd ake;have oW:=D.C.d.trans hd;have st':Sf ((kE M E.size n J f o g r t y B e m p h cs l).r Ä) j (u 0) (Mm (kE M E.size n J f o g r t y B e m p h cs l) {u 0 with w:=w}) w:=⟨st.fu,st.r,st.C,st.I,st.k,st.M,st.N,st.g,st.d,st.q,st.S,st.Y,st.c,st.e,st.f⟩;rw[<-hg]at hgo;have p0:=c.aj1 Hy U U rR st' oW (λ_=>0) hgo;let⟨N1,σ,S1,tr1,kp1,atu,gs1,w1,ZO,t1,r1,x,hf,he⟩:=ahJ Hy _ _ _ _ _ _ _ E w Q qJ U U p0 (by intro q;cases q);let⟨oR,_⟩:=x.jh hf;let⟨zk,c1⟩:=x.aj0 hf he U h0;let⟨N2,Mr,Sm,gs2,w2,zm,t2,r2,z2,N,c2⟩:=c1.G (λa i z=>Ã<|Hy.M σ.I a i z) (tr1 0) _ zk _ gs1 w1 ZO t1 U;have Sn:gs1.size=E.size+(n+1):=by rw[x.b,oR];rfl
 have Ms:=c2.C;obtain⟨g2,Mt⟩:∃g,gs2[0]?=Â g:=⟨_,ç Ms⟩;let⟨g3,u1,u2,u3,_⟩:=c2.r.C 0 g2 Mt;obtain rfl:g2=g3:=by cases u2;rfl
 have hE:=u1 w2<|c2.r.r.r 0 Ms;let⟨e1,e2,dat,ts,rm,So⟩:=hE;have P:0<gs1.size:=Z
 have C:=x.I.r;have hY:=λb q z=>C.I 0 P b (Ã z) q;have H:σ.Y e:=Ç<|Ã U;have yG:∀k,k<=fO f J->σ.Y (g k):=λk W=>Ã<|Ç ⟨k,W,U⟩;have Sp:σ.Y h:=Ã<|Ã U;let⟨hip,akf⟩:=x.aj9 hf hn;have hmd:σ.S.md=fO f J:=by rw[hip];rfl
 let⟨HA,⟨ZQ,Sq,Mv⟩,_⟩:=x.M.M (fO f J) Z;have I:=C.N;refine⟨g,r,t,y,B,e,m,p,h,⟨a1,Z,Z,λk W=>by have:=Sl k W;omega⟩,N1+N2,σ.Y,w1.heap.size,Mr,Sm,gs2,w2,zm,t2,g2,?_,Z,Mt,N.r,I h Sp,?_,e1,Hy.M σ.I _ _<|u1 w2<|c2.r.r.r 0 Ms,c2,⟨dat.e,dat.d,λk K X=> ?_,λi hi=> ?_,?_,?_,?_,⟨ts,rm,So⟩,?_,?_⟩⟩
 .rwa[runNT_add,show Ζ Ä N1 (Ķ E w Q) qJ=_ from r1]
 .have:=I h Sp;omega
 .have a:k<=fO f J:=X;apply Ŋ (N.M ⟨e,_,Á⟩ (I e H) (hY e H)<|x.a.g k K Z 0 P);exact x.M.S k K Z
 .let⟨T,v2⟩:=akf i hi;exact Ŋ (N.M ⟨e,_,Á⟩ (I e H) (hY e H)<|v2 0 P) T
 .refine⟨σ.c<|fO f J,ZQ,σ.V<|fO f J,HA,?_,ri _ _ _ _ _ Mv λb q=> ?_,λb q=> ?_⟩
  .exact Ŋ (N.M ⟨g<|fO f J,2,Á⟩ (I _<|yG _<|Û _) (hY _<|yG _<|Û _)<|x.a.N (fO f J) Z 0 P) Sq
  .let⟨T,v2,v3⟩:=x.a.I (fO f J) Z b q;exact N.jV b T (v3 0 P) λa ha z=>v2<|ha▸C.e 0 P a (Ã z)
  .let⟨T,v2,v3⟩:=x.a.I (fO f J) Z b q;exact⟨È T N.r,λz=>v2<|z▸Sp⟩
 .refine⟨È (I e H) N.r,?_,È (I _<|yG _<|Û _) N.r⟩;exact c2.r.r.fx 0 Ms m<|Ç dat.c
 .exact⟨show e≠h by omega,show m≠h by omega,show g (fO f J)≠h by have:=Sl (fO f J)<|Û _;omega⟩
 .let⟨a,y2,_⟩:=(x.M.M 0<|ĉ _).2.2 U;exact⟨Ŋ (N.M ⟨e,J,Á⟩ (I e H) (hY e H)<|x.a.PX Hy.C 0 P) a,(N.Y e (I e H)<|hY e H).trans y2⟩
 .let⟨_,_,a⟩:=(x.M.M 0<|ĉ _).2.2 U;exact⟨N.C.trans a.1,N.I.trans a.2⟩
end
def Sr(a:ξ->Prop)(w:Þ):fh where
 O:=λb=>b<w.heap.size/\∀x:ã,x.block=b->¬a (Ā x)
 I:=λ_=>False
 r:=λ_=>False
 N:=λ_=>False
 K:=λ_=>False
 q:=False
 d:=0
 w:=w
def ZR(a:ξ->Prop)(w:Þ):gB (Sr a w):= ⟨λ_ _ h=>h,λ_ h=>h.elim,λ_ h=>h.elim (λq=>q.elim) λq=>q.elim,λ_ h=>h.elim (λq=>q.1) λq=>q.elim,λ_ h=>h.elim (λq=>q.elim) λq=>q.elim,λ_ h=>h.elim⟩
structure vT(ju:ξ->Prop)(H:Nat)(l:fh):Prop where
 r:∀x:ã,ju (Ā x)->x.block<H
 fu:∀b,l.O b->∀x:ã,x.block=b->¬ju (Ā x)
 C:H<=l.w.heap.size
inductive zn(M:xv):Nat->M.γ->Prop
 |vp:zn M 0 M.C
 |El {k:Nat} {s s':M.γ} (h:zn M k s) (hn:M.M k s s'):zn M (k+1) s'
structure GX(M:xv)(R:Nat)(kd:Nat->Int)(l:fh)(an:Nat)(sl:Ð)(l':fh):Prop where
 vv:∀b,l.O b->l'.O b/\l'.w.heap[b]?=l.w.heap[b]?
 kB:l'.O an/\∀p,p<R->l'.w.cell? ⟨an,p,Á⟩=Â (á<|M.I p)
 IL:∃s V,zn M (fO kd R) s/\M.RD s sl V l'.w/\∀b,V b->l'.O b
 d:l'.d=0
 q:¬l'.q
 rd:∀b,¬l'.I b
 Fg:(∀a,¬l'.r a)/\(∀a,¬l'.N a)/\∀a,¬l'.K a
 D4:l'.w.cell? ⟨an,R,Á⟩=Á/\kU l'.w an=Â (0,0)
section
variable{M:xv}{R H:Nat}{kd:Nat->Int}{f:Nat->Nat}{o:List ê}{l:fh}{ju:ξ->Prop}{u:Nat->fh}
def akg{a:Option ã}{s:M.γ}(h:nA ((kE M i n R kd f D O a j b m J j9 j7 qX l).r Ä) k s):zn M k s:=by
 have c:∀(k:Nat) (s:((kE M i n R kd f D O a j b m J j9 j7 qX l).r Ä).γ),nA ((kE M i n R kd f D O a j b m J j9 j7 qX l).r Ä) k s->zn M k s:=λk s h=>by
  induction h with
  |vp=>exact .vp
  |El _ d e=>exact .El e d
 exact c k s h
def akh{J:(ξ->Prop)->Nat->Jd}{cf:ê}{a:Š}(yK:qX=cf.at a (Ï Q (i::jJ)::L)::o)(c:si Ä ju H (Mq kd f R n v l qX) .fF D u E w qJ)(I:Option (Nat×Nat))(s:gB l)(Mp:∀b,¬l.I b)(hq:¬l.q)(hd:l.d=0)(W:vT ju H l)(hV:∀b,M.r b->l.O b)(ri:∀s I V w B,M.RD s I V w->(∀b,V b->B.heap[b]?=w.heap[b]?)->M.RD s I V B)(aki:∀s I V w,M.RD s I V w->(∃p m c,I=Æ p m c)/\∀b,V b->l.O b\/l.w.heap.size<=b)(C5:M.RD M.C v M.r l.w)(xt:w.os=l.w.os/\w.output=l.w.output)(hn:1<=n)(hs:n+R<1000) (hA:∀g ib qb ci cq C ba bi P,l.w.heap.size<=ba->Fe (kE M E.size n R kd f g ib qb ci cq C ba bi P qX l)/\Ff (kE M E.size n R kd f g ib qb ci cq C ba bi P qX l)) (hJ:∀Fh F X C p m c,vT Fh F X->gB X->GX M R kd l C (Æ p m c) X->fp Ä Ó (J Fh F) X (G (cf.at (a.put ((Q[i]?).bind (·.dst))<|ñ #[Æ (Â ⟨C,0,Á⟩) R R,Æ p m c])<|Ï Q jJ::L) o)): ∃N Fh F T jD IN gs' B tB t',Ζ Ä N (Ķ E w I) qJ=(.next<|Ķ gs' B tB,t')/\(B.os=l.w.os/\B.output=l.w.output)/\si Ä Fh F (J Fh F) T jD IN gs' B t':=by
 let⟨g,ib,qb,ci,cq,C,ba,bi,P,⟨b1,b2,b3,b4⟩,N,Y,F,jD,IN,gs',B,tB,t',g',r,z1,z2,z3,z4,z5,z6,z7,cY,t⟩:=akc c I s Mp hq hd W.C hV ri C5 xt hn hs hA;let⟨st,ZQ,V,HA,Sq,Mv,Mw⟩:=t.IL;obtain⟨⟨sp,sm,sc,rfl⟩,ZS⟩:=aki _ _ _ _ Mv;obtain⟨ts,rm,rfl⟩:=t.Sk;have hH:=W.C;have ZT:=λb q=>s.fx b<|Ã q;have free:∀b,(l.O b\/l.w.heap.size<=b)->b<B.heap.size->b≠P->(Sr (λe=>ju e\/∃x:ã,e=Ā x/\x.block=P) B).O b:=λb hb gH kI=>by
  refine⟨gH,λx hx=> ?_⟩;rintro(q|⟨y,j,q2⟩)
  .rcases hb with hb|hb
   .exact W.fu b hb x hx q
   .have:=W.r x q;omega
  .injection j with j;subst j;omega
 have G6:=λb q=>by have h:=t.I b q;have h2:=ZT b q;rw[ç h2]at h;exact(æ.1 h).1
 have keep:=λb q=>free b (Ã q) (G6 b q) (by have:=ZT b q;omega);have Mx:=free C (Ç b1) t.fx.1 t.r.1;have akj:=free ba (Ç b2) t.fx.2.1 t.r.2.1;have hOg:=free _ (Ç<|b4 _<|Û _) t.fx.2.2 t.r.2.2;have akk:fp Ä Ó (J (λe=>ju e\/∃x:ã,e=Ā x/\x.block=P) F) (Sr (λe=>ju e\/∃x:ã,e=Ā x/\x.block=P) B) (Fc ts qX):=by
  rw[yK];refine ajB (ZR _ _) (λq=>q) rm (Ã akj) (Ã<|Ã hOg) t.cba Sq λX h=> ?_;refine hJ (λe=>ju e\/∃x:ã,e=Ā x/\x.block=P) F X C sp sm sc ⟨λx q=> ?_,λb q x hx=> ?_,Ø z3 h.I⟩ (h.N<|ZR _ _) ⟨λb q=>⟨h.O b<|keep b q,(h.r b (Ã<|keep b q) id).trans<|t.I b q⟩,⟨h.O C Mx,λp hp=> ?_⟩,⟨st,V,akg HA,ri _ _ _ _ _ Mv λb q=>h.r b (Ã<|free b (ZS b q) (Mw b q).1 (Mw b q).2) id,λb q=>h.O b<|free b (ZS b q) (Mw b q).1 (Mw b q).2⟩,h.d,?_,λb q=> ?_,⟨λa q=> ?_,λa q=> ?_,λa q=> ?_⟩,⟨(gM<|h.r C (Ã Mx) id).trans t.C.1,(wS<|h.r C (Ã Mx) id).trans t.C.2⟩⟩
  .rcases q with q|⟨y,j,q2⟩
   .exact È (W.r x q) z5
   .injection j with j;subst j;omega
  .rcases h.c b q with q|q
   .exact q.2 x hx
   .have e:B.heap.size<=b:=q;rintro(z|⟨y,z1,z2⟩)
    .have:=W.r x z;omega
    .injection z1 with z1;subst z1;omega
  .refine(gM<|h.r C (Ã Mx) id).trans ?_;by_cases hk:kd p=1
   .have hm:p∈ic kd R:=Ć.2 ⟨ù.2 hp,by simpa using hk⟩;let⟨j,y⟩:=ı hm;have uM:=(Ğ.1 y).1;have e:=Ô<|(C4 uM).symm.trans y;have:=t.kJ (j+1) Z (show j+1<=fO kd R from uM);have e2:(ic kd R).getD (j+1-1) 0=p:=e;simp only[kE,Ml,e2]at this;exact this
   .have hm:p∈jC kd R:=Ć.2 ⟨ù.2 hp,by simpa using hk⟩;let⟨j,y⟩:=ı hm;have uM:=(Ğ.1 y).1;have e:=Ô<|(C4 uM).symm.trans y;have:=t.Sj j uM;simp only[kE,Ml,e]at this;exact this
  .rw[h.q];exact id
  .rw[h.S]at q;exact q
  .rw[h.Y]at q;exact q
  .rw[h.b]at q;exact q
  .rw[h.K]at q;exact q
 let⟨T,e⟩:=jq akk;exact⟨N,_,F,T,jD,_,gs',B,tB,t',r,t.io,cY.Y z6 z2 z7 U U id (λ_=>id) (λ_=>id) (λ_=>id) (λ_=>id) (λb q=>q) e⟩
end
end Go.Proofs.Y.fD
namespace Go.Proofs.Y.fD
open Go Go.Conc Go.Proofs.Y.Lift Go.RowKit Go.Conc.Lib Go.ConcR.Gen
open Go.Proofs Go.Proofs.YtgpphkdoanciiaaGreatDoor
def qB(V:Nat->Prop)(base:Nat):fv:=⟨λi j=>i=j/\V i,base⟩
def akl(V:Nat->Prop)(base:Nat):Bi (qB V base):= ⟨λ_ _ _ h k=>h.1.symm.trans k.1,λ_ _ _ h k=>h.1.trans k.1.symm,λi j h=>by rw[h.1]⟩
def lz(j:Nat):Bool:=j==3||j==4
def uN(c:Array Ð):Array Ð:=c.extract 0 16
def akm(c:Array Ð):(uN c).size=min 16 c.size:=by simp[uN]
open Classical in
noncomputable def pL (a:Nat->Prop) (j:Nat):Η->Η
 |Ê c e b=>if a j then(if lz j=Ó then Ê (uN c) e (0,(uN c).size)else Ê c e (0,c.size))else Ê c e b
 |_=>Ê #[] 0
noncomputable def lh (Sh:Nat->Prop) (w:Þ):Þ:={w with heap:=w.heap.mapIdx (pL Sh)}
section
variable{V Sh:Nat->Prop}{base:Nat}
def Fi(j:Nat):(lh Sh w).heap[j]?=(w.heap[j]?).map (pL Sh j):=by simp[lh,Array.getElem?_mapIdx]
def ZU:kl (lh Sh w):=λi o h=>by
 rw[Fi]at h;obtain⟨x,_,rfl⟩:=Ī.1 h;cases x<;>simp only[pL]<;>try exact id
 split
 .split<;>exact id
 .exact id
structure My(V Sh:Nat->Prop)(base:Nat)(w:Þ):Prop where
 Sk:∀b,V b->∃c e fr,w.heap[b]?=Â (Ê c e fr)/\fr.2<=c.size/\fT (qB V base) c c/\(Sh b->0<c.size/\(lz b=Ó->(e=304\/e=305)/\fr.2<=16)/\(lz b=Í->D1 c))
 fx:base<=w.heap.size
def akn(h:My V Sh base w):rK (qB V base) Sh (lh Sh w) w:=by
 refine⟨U,U,akl V base,by show base<=(w.heap.mapIdx<|pL Sh).size;rw[Array.size_mapIdx];exact h.fx,h.fx,λi j o=> ?_⟩;obtain⟨rfl,p⟩:=o;let⟨c,e,a,b,l,f,r⟩:=h.Sk i p;have g:(lh Sh w).heap[i]?=Â (pL Sh i<|Ê c e a):=by rw[Fi,b];rfl
 by_cases s:Sh i
 .let⟨t,u,v⟩:=r s;cases d:lz i with
  |true=>
   let⟨x,y⟩:=u d;have z:=akm c;have m:Gs e (uN c).size:=⟨x,Z⟩;refine⟨uN c,c,e,(0,(uN c).size),a,?_,b,⟨λk B n=> ?_,Z,Ç ⟨s,m⟩⟩,λ_=>⟨U,Û _,by show a.2<=(uN c).size;omega,Z,Ç m⟩,λq=>absurd s q,Û _⟩
   .show(lh Sh w).heap[i]?=_;rw[g];simp[pL,s,d]
   .have:(uN c)[k]=c[k]:=by simp[uN]
    rw[this];exact f.C k n n
  |false=>
   refine⟨c,c,e,(0,c.size),a,?_,b,po.M f,λ_=>⟨U,Û _,l,t,Ã<|v d⟩,λq=>absurd s q,Û _⟩;rw[g];simp[pL,s,d]
 .refine⟨c,c,e,a,a,?_,b,po.M f,λq=>absurd q s,λ_=>rfl,l⟩;rw[g];simp[pL,s]
end
section
variable{a:Nat->Prop}{l:fh}{V:Nat->Prop}
def Fj(B:nV P)(C:pA P a X)(hF:tW P X)(D:wP vQ){k:Array Ð}(E:X F)(H:P.funcs[F]?=Â s)(I:s.body=Â wX)(r:gB l)(J:¬l.q) (n:∀b,V b->l.M b) (K:My V (λj=>V j/\¬l.O j) P.globals.size l.w) (L:∀g,a g->V g) (N:fT (qB V P.globals.size) k k) (Q:∀T,Calls P F k (World.tp (lh (λj=>V j/\¬l.O j) l.w) T 0) fun|.returned v,e=>vQ v e/\kl e|_,_=>False) (t:Bool) (o:ê) (p:List ê): fp P t (λh u=>∃(ρ:fv) (e:Þ) (v m:Ð),(qB V P.globals.size).r ρ/\rK ρ (λj=>V j/\¬l.O j) e h.w/\fq ρ v m/\vQ v e/\u=G (o.finish m) p/\(∀i j,ρ i j->h.M j/\(V j\/l.O j\/l.w.heap.size<=j))/\(∀j,l.O j->h.O j)/\h.d=l.d) l (G (Ĉ P F k ĥ)<|o::p):=by
 have W:=aeO B C hF D E H I ZU Q (ρ:=qB V P.globals.size) U (λg q=>⟨U,L g q⟩) N (akn K) (λj q=>r.fx j<|n j q.1) (λi j _ q=>(n j q.1).resolve_left q.2) t o p;refine(afM W l U (λj q=> ?_) (λ_ q=>q) (λj q=>r.fx j<|Ã q) J).fQ ?_
 .obtain⟨⟨i,rfl,y⟩,x⟩:=q;exact Classical.byContradiction λz=>x ⟨y,z⟩
 .rintro h u ⟨O',⟨ρ,e,v,m,Y,rfl,q2,q3,q4,q5⟩,x,h3,h4,h5,h6,h7,h8,h9,h10,h11,ZV⟩;refine⟨ρ,e,v,m,Y,q2,q3,q4,q5,λi j Ss=> ?_,h4,h10⟩;by_cases z:V j/\¬l.O j
  .exact⟨Ç (by rw[h7];exact(n j z.1).resolve_left z.2),Ã z.1⟩
  .have y:=h3 j ⟨⟨i,Ss⟩,z⟩;exact⟨Ã y,Ç<|h6 j y⟩
end
section
variable{l:fh}{V GL:Nat->Prop}
def Fl(s:gB l):gB (ma l):=by
 refine⟨λ_ h=>h.elim,λ_ h=>h.elim,λa c d=> ?_,λb d=> ?_,λa c=> ?_,λa c=> ?_⟩
 .exact s.N a (c.resolve_left id)<|d.resolve_left id
 .exact s.fx b<|d.resolve_left id
 .exact s.I a<|c.resolve_left id
 .exact⟨λq=>(s.S a c).1<|q.resolve_left id,(s.S a c).2.1,id⟩
structure Fo(GL:Nat->Prop)(f:ł)(args:Array Ð)(l:fh)(V:Nat->Prop)(kZ:Ð->Þ->Prop):Prop where
 N:∀b,V b->l.M b
 S:My V V Ä.globals.size l.w
 I:∀g,GL g->V g
 r:fT (qB V Ä.globals.size) args args
 C:∀T,Calls Ä f args (World.tp (lh V l.w) T 0) fun|.returned v,u'=>kZ v u'/\kl u'|_,_=>False
def ako(m:nV Ä)(n:pA Ä GL X)(hF:tW Ä X)(e:X 67){D:SD}(h:∀i s d W l,i<D.q->nA (D.r Ä) (D.b i) s->D.RD s d W l.w->(∀b,W b->l.M b)->gB l->¬l.q->(∀b,D.c b->l.M b)->D.RC l.w->∃V,Fo GL 67 #[d,À<|D.h i] l V λv _=>v=á (D.i i)):Ff D:=by
 intro i s d W l o p r t f g x y z B;let⟨V,a⟩:=h i s d W l o p r t f g x y;let⟨G,c,C,E⟩:=hF 67 e;have k:(λj=>V j/\¬(ma l).O j)=V:=by funext j;exact propext ⟨λq=>q.1,λq=>⟨q,id⟩⟩
 refine(Fj m n hF (λv u T D h=>h) e C E (Fl f) g (λb q=>Ç<|a.N b q) (by rw[k];exact a.S) a.I a.r (by rw[k];exact a.C) Í z B).fQ ?_;rintro H I ⟨ρ,J,v,K,_,_,j,u,T,_,_,F⟩;subst u;cases j;exact⟨F,T⟩
def akp(Q:nV Ä)(Y:pA Ä GL X)(hF:tW Ä X)(E:X 66){D:SD}(Rg:D.γ->Ð->Þ->Prop)(hRg:∀s d u T n,Rg s d u->Rg s d (World.tp u T n)) (h:∀k s d W l,k<D.m->nA (D.r Ä) k s->D.RD s d W l.w->(∀b,W b->l.M b)->gB l->¬l.q->(∀b,D.c b->l.M b)->D.RC l.w->∃V,Fo GL 66 #[d,À<|D.l<|k+1] l V (λv u=>∃p n c a,v=ñ #[Æ p n c,á<|D.d<|k+1]/\D.g k s a/\Rg a (Æ p n c) u)/\ ∀ρ Sh u w a d F,rK ρ Sh u w->fq ρ d F->Rg a d u->(∀i j,ρ i j->V j\/l.w.heap.size<=j)->∃e,D.RD a F e w/\∀b,e b->∃i,ρ i b):Fe D:=by
 intro k s d W l hk hr ri hW G H hRB hRC cl lN;let⟨V,f,tr⟩:=h k s d W l hk hr ri hW G H hRB hRC;let⟨fn,c,hf,g⟩:=hF 66 E;have I:(λj=>V j/\¬(ma l).O j)=V:=by funext j;exact propext ⟨λq=>q.1,λq=>⟨q,id⟩⟩
 refine(Fj Q Y hF (λv u T D h=> ?_) E hf g (Fl G) H (λb q=>Ç<|f.N b q) (by rw[I];exact f.S) f.I f.r (by rw[I];exact f.C) Í cl lN).fQ ?_
 .let⟨p,n,c,a,t,o,r⟩:=h;exact⟨p,n,c,a,t,o,hRg _ _ _ _ _ r⟩
 .rintro l' g' ⟨ρ,u',v,v',_,q2,q3,⟨p,n,c,a,rfl,o,r⟩,J,t,_,K⟩;cases q3 with
  |@nT _ cs'' hs mF=>
   let⟨ls⟩:=cs'';match ls,hs with
   |[x,y],_=>
    have B:=mF 0 ft ft;have L:=mF 1 ft ft;simp at B L;cases L;let⟨e,N,P⟩:=tr ρ _ u' l'.w a _ x q2 B r λi j Ss=>(t i j Ss).2.imp id λz=>z.resolve_left id;cases B with
    |nS=>exact⟨K,Á,n,c,J,a,e,o,N,λb g=>by let⟨i,C⟩:=P b g;exact(t i b C).1⟩
    |kT=>exact⟨K,_,n,c,J,a,e,o,N,λb g=>by let⟨i,C⟩:=P b g;exact(t i b C).1⟩
end
end Go.Proofs.Y.fD
namespace Go.Proofs.Y.Lift
open Go
def Fp(a:Nat->Bool):Į->Bool
 |ò (Ě cs)=>cs.toList.all yn
 |ò (ñ cs)=>cs.toList.all yn
 |x=>wR a x
def ZW(a:Nat->Bool)(x:Į):Fp a x=wR a x:=by
 cases x with
 |const v=>cases v<;>simp[Fp,wR,O8,Ĥ]
 |_=>rfl
def Mz(P:Ġ)(a:Nat->Bool)(b c:ł->Bool)(o:å):Bool:=(Ed P b o.op&&o.op.operands.toList.all (Fp a))||(Po P c o.op&&o.op.operands.toList.all (Fp a))
def MA(a:Nat->Bool)(b c:ł->Bool)(o:å):Mz P a b c o=Ef P a b c o:=by have:(Fp a)=wR a:=funext<|ZW a;simp[Mz,Ef,Pj,this,Ĥ]
def rn(P:Ġ)(a:Nat->Bool)(b d:ł->Bool):ġ->Bool
 |ς|Ř|.label _|ř _|.goto _=>Ó
 |.seq x y=>rn P a b d x&&rn P a b d y
 |ŗ c x y=>Fp a c&&rn P a b d x&&rn P a b d y
 |Ħ _ c|.loop c|.scope c=>rn P a b d c
 |ß _ c _=>c.toList.all<|Mz P a b d
 |.refuse _=>Ó
 |_=>Í
def zo(a:Nat->Bool)(b d:ł->Bool):∀c:ġ,rn P a b d c=nY P a b d c
 |ς|Ř|.label _|ř _|.goto _|.refuse _|.rangeFunc _ _ _ _=>rfl
 |.seq x y=>by simp only[rn,nY,zo a b d x,zo a b d y]
 |ŗ c x y=>by simp only[rn,nY,ZW,zo a b d x,zo a b d y]
 |Ħ _ c|.loop c|.scope c=>by simp only[rn,nY,zo a b d c]
 |ß _ x _=>by have:Mz P a b d=Ef P a b d:=funext<|MA a b d;simp only[rn,nY,this,Ĥ]
end Go.Proofs.Y.Lift
namespace Go.Proofs.Y.fD
open Go Go.Conc Go.Proofs.Y.Lift Go.RowKit Go.Conc.Lib Go.ConcR.Gen
open Go.Proofs Go.Proofs.YtgpphkdoanciiaaGreatDoor
def ZX:List Nat:=[35,38,44,54,55,56,60,66,67,78,79,103,113,114,115,116,117,118,119,120,121,122,123,124,125,126,153,154,155,156,157,158,159,160,161,162,168,169,170,171,172,173,174,175,176,177,178,186,187,188,189,190,191,192,193,194,196,197,198,199,200,201,202,203,204,205,206,207,208,209,210,211]
def xw(g:Nat):Bool:=[1,2,3,4].contains g
def xx(f:Nat):Bool:=ZX.contains f
def zp(f:Nat):Bool:=[129,130].contains f
def C6(P:Ġ)(f:Nat):Bool:=match P.funcs[f]? with
 |some a=>match a.body with
  |some c=>rn P xw xx zp c
  |none=>Í
 |none=>Í
def akq:ZX.all (C6 Ä)=Ó:=by rfl
def ZY(h:xx i=Ó):C6 Ä i=Ó:=(ŕ.1 akq) i<|by simpa[xx]using h
def akr(h:C6 P i=Ó):∃a c,P.funcs[i]?=Â a/\a.body=Â c:=by
 unfold C6 at h;split at h
 .rename_i a b;split at h
  .rename_i c d;exact⟨a,c,b,d⟩
  .cases h
 .cases h
def aks(h:C6 P i=Ó)(a:P.funcs[i]?=Â s)(b:s.body=Â wX):rn P xw xx zp wX=Ó:=by unfold C6 at h;rw[a]at h;simp only[b]at h;exact h
def ZZ:tW Ä (λf=>xx f=Ó):=λ_ h=>akr<|ZY h
def akt[Ag P](h:∀f,xx f=Ó->C6 P f=Ó)(a:G2 P zp):pA P (λg=>xw g=Ó) (λf=>xx f=Ó):=λf g e c b d=>by have:=aks (h f g) b d;rw[zo]at this;exact vt a this
instance atv:Ag Ä:=⟨λe n h=>by
 have h1:Ä.cellsOf 304=32:=fw
 have h2:Ä.cellsOf 305=64:=fw
 obtain⟨rfl|rfl,h3⟩:=h
 .rw[h1];omega
 .rw[h2];omega⟩
def aku(a:G2 Ä zp):pA Ä (λg=>xw g=Ó) (λf=>xx f=Ó):=akt (λ_ h=>ZY h) a
def Fq:G2 Ä zp:=λf h=>by
 have:f=129\/f=130:=by simpa[zp]using h
 rcases this with rfl|rfl
 .exact⟨_,Extern.AbiNoEscape.same,Tryz.func129,fR,fR,fR,fR,λ_ v a h=>afc v a h,afd⟩
 .exact⟨_,Extern.BytealgMakeNoZero.makeNoZero #[3] #[107],Tryz.func130,fR,fR,fR,fR,λ_ v a h=>afe #[3] 107 v a h,aff #[3] 107⟩
def Z0:pA Ä (λg=>xw g=Ó) (λf=>xx f=Ó):=aku Fq
end Go.Proofs.Y.fD
namespace Go.Proofs.Y.Lift
open Go Go.Conc
section
variable{ρ:fv}{b:ł->Prop}
def akv{e:Array Ð->Sem Ð}{y:Į}{C:Array Ż}(d:o.op=Ď {callee:=ü<|ċ F,args:=#[qQ,y],argTypes:=C})(i:P.funcs[F]?=Â s)(j:(s.name== "runtime.NumGoroutine")=Í)(k:s.body.isNone=Ó)(l:Extern.findNext s=Á)(m:Extern.find s=Â e) (D:∀(ρ:fv) (v q z r:Ð),fq ρ v q->fq ρ z r->fJ P fq ρ (e #[v,z]) (e #[q,r])) (E:∀v z,fG P<|e #[v,z]) (G:∀y∈o.op.operands,mB X y):mP P X b o:=by
 have c:∀a:Š,đ a.eval o=Ů F #[a.eval qQ,a.eval y]:=by intro a;unfold đ;rw[d];simp only[Ξ,ę,Ģ,invoke,pure_bind,Array.empty_append,Array.append_empty,List.map_toArray,List.map_cons,List.map_nil]
 have t:∀(v z:Ð) (u:Þ),(Ů F #[v,z]).run P u=(mark (.extern F)>>=λ_=>e #[v,z]>>=λy=>pure (Next.value y):Sem Next).run P u:=by intro v z u;unfold Ů;rw[ō,run_program];simp only[Result.andThen_ok,i,j,k,l,m,ĝ,if_false,if_true]
 refine WJ (λρ a w _ _ _ h=> ?_) (λa=> ?_) (λa u n H g=> ?_) G
 .rw[c,c];have I:=h qQ (by rw[d];simp[Ś,Call.operands]);have J:=h y (by rw[d];simp[Ś,Call.operands]);unfold Ů;refine .gu (fI rC ?_);rintro M p N w ⟨K,L⟩;rw[K,L];simp only[i,j,k,l,m,ĝ,if_false,if_true];apply fI (V:=jw) (.DZ (Ç ⟨F,U⟩) (.fH U));intro O _ _ B _;exact mO<|D _ _ _ _ _ ((I.fQ w).fQ B)<|(J.fQ w).fQ B
 .rw[c];exact Kj (t _ _)<|gq (GN _) λ_=>lP<|E _ _
 .rw[c,t,ō]at g;simp only[mark,φ,Result.andThen_ok]at g;have:φ P (e #[a.eval qQ,a.eval y]>>=λy=>pure (Next.value y):Sem Next) u=.ok n H:=g;rw[ō]at this;cases h:(e #[a.eval qQ,a.eval y]).run P u with
  |ok v w=>rw[h]at this;cases this;exact⟨v,U⟩
  |halt z w=>rw[h]at this;cases this
def Z1:∀(n:Nat) {ρ:fv} {a b:ã} (c:ByteArray),hD ρ a b->fJ P jw ρ (ô a n c) (ô b n c)
 |0,_,_,_,_,_=> .fH U
 |n+1,ρ,a,b,c,h=>by
  unfold ô;refine fI (J6 h) ?_;intro f v g d e;cases e<;>first|exact .fS|skip
  rename_i k z;cases k<;>first|exact .fS|skip
  exact Z1 n _<|(h.r d).C 1
def Z2:∀(n:Nat) (a:ã) (b:ByteArray),fG P<|ô a n b
 |0,_,_=>gC _
 |n+1,a,b=>by
  unfold ô;refine gq (GO _ _) λv=> ?_;split
  .exact Z2 n _ _
  .exact ji _
def akw(h:fq ρ v x):fJ P jw ρ (ÿ v) (ÿ x):=by
 cases h<;>first|exact .fS|exact .fH U|skip
 exact Z1 _ _<|by assumption
def akx(v:Ð):fG P (ÿ v):=by
 unfold ÿ;split
 .exact gC _
 .exact gC _
 .exact Z2 _ _ _
 .exact ji _
def aky(h:fq ρ v x):fJ P jw ρ (Ă v) (Ă x):=by
 cases h<;>first|exact .fS|skip
 rename_i k z;cases k<;>first|exact .fS|exact .fH U
def akz(v:Ð):fG P (Ă v):=by
 unfold Ă;split
 .exact gC _
 .exact ji _
def akA(v a z b:Ð)(h:fq ρ v a)(k:fq ρ z b):fJ P fq ρ (õ #[v,z]) (õ #[a,b]):=by
 apply fI (akw h);rintro j s d e f;obtain rfl:s=d:=f;apply fI (aky<|k.fQ e);rintro l c g m i;obtain rfl:c=g:=i;split
 .exact .fH (.iK _ _)
 .exact .fH (.iK _ _)
def akB(v z:Ð):fG P (õ #[v,z]):=by
 refine gq (akx v) λs=>gq (akz z) λc=> ?_;split
 .exact gC _
 .exact gC _
end
end Go.Proofs.Y.Lift
namespace Go.Proofs.Y.fD
open Go Go.Conc Go.Proofs.Y.Lift
open Go.Proofs Go.Proofs.YtgpphkdoanciiaaGreatDoor
def Sv:List Nat:=[16,18,21,23,24,25,28,29,30,31,35,44,60,38,54,55,56,78,79,36,45,61,94,95,96,97,98,99,100,101,102,103,104,145,146,147,148,149]
def Fs(f:Nat):Bool:=Sv.contains f||f==167
def MB(_:Nat):Bool:=Í
def MC(P:Ġ)(f:Nat):Bool:=match P.funcs[f]? with
 |some a=>match a.body with
  |some c=>rn P MB Fs zp c
  |none=>Í
 |none=>Í
def akC:Sv.all (MC Ä)=Ó:=by rfl
def Z3(h:Sv.contains i=Ó):MC Ä i=Ó:=(ŕ.1 akC) i<|by simpa using h
def Z4(h:MC P i=Ó):∃a c,P.funcs[i]?=Â a/\a.body=Â c/\rn P MB Fs zp c=Ó:=by
 unfold MC at h;split at h
 .rename_i a b;split at h
  .rename_i c d;exact⟨a,c,b,d,h⟩
  .cases h
 .cases h
def zq:tW Ä (λf=>Fs f=Ó):=λf h=>by
 rcases ĵ.1 h with q|q
 .let⟨a,c,b,d,_⟩:=Z4<|Z3 q;exact⟨a,c,b,d⟩
 .rw[beq_iff_eq]at q;subst q;exact⟨_,_,ź,U⟩
def akD(h:ε.body=Â wX):kH Ä (λg=>MB g=Ó) (λf=>Fs f=Ó) wX:=by
 unfold ε at h;cases h;refine .rH (vt Fq<|by rw[<-zo];rfl) (.rH (.tV _ _ λo f=> ?_) .vm);simp only[List.mem_toArray,List.mem_cons,List.not_mem_nil,or_false]at f;rcases f with rfl|rfl|rfl|rfl
 .exact KG Fq<|by rw[<-MA];rfl
 .exact KG Fq<|by rw[<-MA];rfl
 .exact akv U Tryz.func185 fR fR fR fR (λ_ v g z o=>akA v g z o) akB λy g=>KA (by simp[Ś,Call.operands]at g;rcases g with rfl|rfl|rfl<;>rfl)
 .exact KG Fq<|by rw[<-MA];rfl
def MD:pA Ä (λg=>MB g=Ó) (λf=>Fs f=Ó):=λf h i c g a=>by
 rcases ĵ.1 h with q|q
 .let⟨j,k,b,d,e⟩:=Z4<|Z3 q;rw[g]at b;cases b;rw[a]at d;cases d;rw[zo]at e;exact vt Fq e
 .rw[beq_iff_eq]at q;subst q;rw[ź]at g;cases g;exact akD a
end Go.Proofs.Y.fD
