import Derived.Test.YtgpphkdoanciiaaGreatDoorWAB
import Derived.Conc.AppendWalk
import Derived.Conc.TokenWalk
set_option linter.all false
set_option maxRecDepth 1000000
set_option maxHeartbeats 8000000
open Go.Value renaming pointer->À,slice->Æ,int->Ê,oneCell'->Ø,string->à,chan->è,tuple->ñ,func->Ĉ,agg->Đ,bool->ŝ,cells->Ŵ
open Option renaming none->Á,some->Â,isSome_iff_exists->Ô,map_eq_some_iff->ġ,isSome_none->ı,getD_some->Ń
open Or renaming inl->Ã,inr->Ç
open Go.Proofs.Tryz renaming prog->Ä,t155->Ą,f46->Ĝ,t9->Ġ,func47->Ħ,underlying101->Ĵ,type155->ļ,underlying85->Ľ,underlying25->ľ,f52->Ŗ,func167->Ŭ,func63->Ů,func48->ů,func49->Ű,func50->ű,func51->Ų,func46->ų,func52->ŵ,t101->Δ,f167->Ζ,f49->Ι,f63->Κ,f47->Μ
open Go renaming undef->Å,Value->Ï,Goroutine->Ý,World->ß,events_store->á,Addr->â,Oper->å,getD_set_ne->ç,Frame->é,execOp->ĉ,Program->ė,Code->Ę,Operand->Ĥ,deafBehind->į,FuncId->ķ,Act->ŏ,maxLen->œ,size_madeCells->ř,callFunc->Ś,yielded->ţ,TypeId->ŭ,runNT->Ŷ,Item->ŷ,Obj->Ÿ,Trace->ż,TypeInfo->Ž,Event->ž,resolve->ſ,Loc->Ν
open Nat renaming lt_of_lt_of_le->È,le_trans->Õ,le_refl->Ú,add_sub_cancel->ø,zero_le->ă,zero_add->č,mod_lt->ĵ,lt_succ_of_lt->Ĺ,le_of_lt->Ł,reduceAdd->ś,sub_zero->ũ,sub_self->Ū
open Go.Obj renaming cells->É,chan->ŕ
open Go.Conc.Goes renaming stop->Ë
open Bool renaming false->Ì,true->Ò,or_eq_true_iff->ī,false_eq_true->Ķ
open Go.Ground renaming phase->Í,data->Ü,textOnly->Þ,gcOnly->õ,chain->Ţ
open Go.IntKind renaming i64->Î,u64->ê,u32->Ď,wrap_i64->Γ
open Go.Departure renaming lateStores->Ð
open Go.Item renaming inRegion->Ñ,inBlock->ô,code->ö,inLoop->ą
open Option.some renaming inj->Ó
open Go.World renaming cell?->Ö,frozen?->î,setCell->þ,alloc->ň
open Go.Operand renaming tmp->Ù,func->ĸ,const->Ũ
open Go.Region renaming ready->Û,Mode->ý,wanted->Ė
open List renaming range->ã,range_succ->ÿ,mem_filter->Ā,filter_append->ā,flatMap_cons->Ć,mem_range->Ē,setIfInBounds_toArray->ē,getElem?_eq_some_iff->Ĕ,length_filter_le->ģ,mem_of_getElem?->ħ,getElem?_of_mem->Ĩ,set_cons_succ->Ĳ,set_cons_zero->ĳ,size_toArray->Ļ,length_cons->ń,nodup_range->ņ,all_eq_true->Ň,length_nil->ŋ
open Go.Code renaming region->ä,block->İ,cond->Ť,skip->ť,exit->Ŧ,ret->Ρ
open Array renaming getElem?_eq_some_iff->æ,getElem?_eq_getElem->ì,getElem?_modify->í,getD_eq_getD_getElem?->ď,all_toList->ĝ
open Go.Region.linearise renaming go->ë
open Go.MemAct renaming ofEvent->ï
open Go.Op renaming fieldAddr->ð,load->ć,move->ę,call->Ě,nilCheck->ĩ,operands->ŉ,extract->Ő,indexAddr->ő,makeFunc->Ş,store->š,assign->ŧ,binOp->Λ
open Go.Extern.Bytes renaming loadBytes->ò,bytesOf->ú,asByte->ü
open Go.Extern.BytealgIndexByte renaming indexByte->ó
open Go.Fn renaming func->ù
open Go.Loc renaming cell->û
open Go.Frame renaming enter->Ă,finish_at->Ģ
open Go.Instr renaming build->Ċ,makeSlice->Ŏ
open Go.GoStatus renaming running->ċ,finished->ş
open Go.Conc renaming mem_ofEvents->Č,mem_listed->đ,seen_none->Ī,crowd->Ĭ,stepG_region->ĺ,events_call_body->ł,deafBehind_still->Ņ,listed->ŗ,handedOver_app->Ř,stepG_seq->Ŝ,stepG_comm->Ż
open Go.Callee renaming value->ĕ,builtin->Ŕ
open Go.Deferred renaming ofValue->ě
open Go.CallKind renaming normal->Ğ,early->Ź
open Go.Addr renaming add_lit->ğ
open Go.Act renaming eval->ĥ,put->Ο
open Eq renaming trans->Ŀ
variable{i n j b k m J j9 j7 j6:Nat}{w u W jX:ß}{v x z jQ:Ï}{g:Ý}{a p:â}{h c:Int}{e t T:ŭ}{d q:Array Ï}{P:ė}{y:ŏ}{B:ByteArray}{X:Nat->Prop}{O:Option â}{l:List Ï}{yQ:Bool}{K H:ŏ->ß->Prop}{o:å}{D:Nat->Nat}{E:Array Ý}{L:List ŷ}{jJ:List Nat}{qX:List é}{qQ:Ĥ}{qJ:ż}{zX:Ν->Prop}{zQ:List Int}{zJ:Ž}{xX:Ĥ->Ï}{xQ:Go.Tape}{xJ:Nat×Nat}{wX:Ę}{wQ:Go.MemOp}{wJ:Array Bool}{vX:List ByteArray}{vQ:Ï->ß->Prop}{vJ:Go.Exit->ŏ->ß->Prop}{yX:ý}{Q:Array å}{f:é}{V:Array ž}{F:ķ}{s:Go.Func}
namespace Go.Proofs.Y.fx
open Go Go.Conc Go.Proofs.Y.Lift Go.RowKit Go.Conc.Lib Go.ConcR.Gen
open Go.Proofs Go.Proofs.YtgpphkdoanciiaaGreatDoor
def Hc:å:=⟨Â 13,ð 155 (Ù 5) 3,0, "work.go:57",#[],Á⟩
def Ej:å:=⟨Â 14,ć 86<|Ù 13,86, "work.go:57",#[⟨0,Ü⟩],Á⟩
def Hd:å:=⟨Â 15,ę<|Ù 1,25, "work.go:57",#[{on:=18,ground:=õ Ð}],Á⟩
def He:å:=⟨Â 16,ð 155 (Ù 5) 1,0, "work.go:57",#[{on:=18,ground:=õ Ð}],Á⟩
def Ek:å:=⟨Â 17,ć 3<|Ù 16,3, "work.go:57",#[⟨3,Ü⟩,{on:=18,ground:=õ Ð}],Á⟩
def Hf:å:=⟨Â 18,ð 155 (Ù 5) 2,0, "work.go:57",#[],Á⟩
def El:å:=⟨Â 19,ć 86<|Ù 18,86, "work.go:57",#[⟨5,Ü⟩],Á⟩
def Em:å:=⟨Â 20,ĩ<|Ù 19,0, "work.go:57",#[⟨6,Ü⟩],Á⟩
def En:å:=⟨Â 21,ð 105 (Ù 20) 1,0, "work.go:57",#[⟨7,Ü⟩],Á⟩
def Eo:å:=⟨Â 22,ć 65<|Ù 21,65, "work.go:57",#[⟨8,Ü⟩],Á⟩
def Hg:å:=⟨Â 23,ð 155 (Ù 5) 0,0, "work.go:57",#[],Á⟩
def Ep:å:=⟨Â 24,ć 148<|Ù 23,148, "work.go:57",#[⟨10,Ü⟩],Á⟩
def BA:å:=⟨Â 25,Ě {callee:=ĕ<|ĸ 66,args:=#[Ù 22,Ù 24],argTypes:=#[65,148]},163, "work.go:57",#[⟨9,Ü⟩,⟨11,Ü⟩],Á⟩
def vI:å:=⟨Â 12,ę<|Ù 25,163, "work.go:57",#[⟨12,Ü⟩],Á⟩
def BB:å:=⟨Â 26,Ő (Ù 12) 0,65, "work.go:57",#[⟨13,Ü⟩],Á⟩
def BD:å:=⟨Â 27,Ő (Ù 12) 1,9, "work.go:57",#[⟨13,Ü⟩,{on:=18,ground:=õ Ð}],Á⟩
def Er:å:=⟨Â 28,ĩ<|Ù 14,0, "work.go:57",#[⟨1,Ü⟩,⟨0,Í⟩,⟨1,Í⟩,{on:=2,ground:=Þ Ð},{on:=3,ground:=Þ Ð},{on:=4,ground:=Þ Ð},⟨5,Í⟩,⟨6,Í⟩,⟨7,Í⟩,⟨8,Í⟩,⟨9,Í⟩,⟨10,Í⟩,⟨11,Í⟩,⟨12,Í⟩,⟨13,Í⟩,⟨14,Í⟩,{on:=15,ground:=Þ Ð}],Á⟩
def Es:å:=⟨Â 29,ð 105 (Ù 28) 1,0, "work.go:57",#[⟨16,Ü⟩,⟨0,Í⟩,⟨1,Í⟩,{on:=2,ground:=Þ Ð},{on:=3,ground:=Þ Ð},{on:=4,ground:=Þ Ð},⟨5,Í⟩,⟨6,Í⟩,⟨7,Í⟩,⟨8,Í⟩,⟨9,Í⟩,⟨10,Í⟩,⟨11,Í⟩,⟨12,Í⟩,⟨13,Í⟩,⟨14,Í⟩,{on:=15,ground:=Þ Ð}],Á⟩
def BF:å:=⟨Á,š 65 (Ù 29)<|Ù 26,0, "work.go:57",#[⟨17,Ü⟩,⟨14,Ü⟩,⟨12,Ţ⟩,⟨0,Í⟩,⟨1,Í⟩,{on:=2,ground:=Þ Ð},{on:=3,ground:=Þ Ð},{on:=4,ground:=Þ Ð},⟨5,Í⟩,⟨6,Í⟩,⟨7,Í⟩,⟨8,Í⟩,⟨9,Í⟩,⟨10,Í⟩,⟨11,Í⟩,⟨12,Í⟩,⟨13,Í⟩,⟨14,Í⟩,{on:=15,ground:=Þ Ð}],Á⟩
def BG:å:=⟨Â 30,ő 25 (Ù 15)<|Ù 17,0, "work.go:57",#[⟨2,Ü⟩,⟨4,Ü⟩,⟨0,Í⟩,⟨1,Í⟩,⟨2,Í⟩,⟨3,Í⟩,⟨4,Í⟩,⟨5,Í⟩,⟨6,Í⟩,⟨7,Í⟩,⟨8,Í⟩,⟨9,Í⟩,⟨10,Í⟩,⟨11,Í⟩,⟨12,Í⟩,⟨13,Í⟩,⟨14,Í⟩,⟨15,Í⟩,⟨16,Í⟩,⟨17,Í⟩,⟨18,Í⟩],Á⟩
def BH:å:=⟨Á,š 9 (Ù 30)<|Ù 27,0, "work.go:57",#[⟨19,Ü⟩,⟨15,Ü⟩,⟨18,Ţ⟩,⟨0,Í⟩,⟨1,Í⟩,⟨2,Í⟩,⟨3,Í⟩,⟨4,Í⟩,⟨5,Í⟩,⟨6,Í⟩,⟨7,Í⟩,⟨8,Í⟩,⟨9,Í⟩,⟨10,Í⟩,⟨11,Í⟩,⟨12,Í⟩,⟨13,Í⟩,⟨14,Í⟩,⟨15,Í⟩,⟨16,Í⟩,⟨17,Í⟩,⟨18,Í⟩],Á⟩
def zw:Array å:=#[Hc,Ej,Hd,He,Ek,Hf,El,Em,En,Eo,Hg,Ep,BA,vI,BB,BD,Er,Es,BF,BG,BH]
def na(tb a b c N d:Nat)(e f:Ï)(x:(Option Addr×Nat×Nat)×ByteArray):Nat->Ï
 |0=>À<|Â ⟨tb,3,Á⟩
 |1=>À<|Â ⟨b,0,Á⟩
 |2=>Æ (Â ⟨c,0,Á⟩) N N
 |3=>À<|Â ⟨tb,1,Á⟩
 |4=>Ê Î d
 |5=>À<|Â ⟨tb,2,Á⟩
 |6=>À<|Â ⟨a,0,Á⟩
 |7=>À<|Â ⟨a,0,Á⟩
 |8=>À<|Â ⟨a,2,Á⟩
 |9=>f
 |10=>À<|Â ⟨tb,0,Á⟩
 |11=>e
 |12=>ñ #[Æ x.1.1 x.1.2.1 x.1.2.2,à x.2]
 |13=>ñ #[Æ x.1.1 x.1.2.1 x.1.2.2,à x.2]
 |14=>Æ x.1.1 x.1.2.1 x.1.2.2
 |15=>à x.2
 |16=>À<|Â ⟨b,0,Á⟩
 |17=>À<|Â ⟨b,2,Á⟩
 |19=>À<|Â ⟨c,d,Á⟩
 |_=>Å
structure Et(iw:ff)(ga gb an pl:Nat)(s9:Ï)(Q:Ï->ByteArray->ff->Prop)(listed:Array Bool)(x:(Option Addr×Nat×Nat)×ByteArray)(l:ff):Prop where
 r:iH (λa=>a=⟨gb,2,Á⟩\/a=⟨an,pl,Á⟩) iw l
 vK:listed.getD 12 Ì=Ò->∃y,Q (Æ x.1.1 x.1.2.1 x.1.2.2) x.2 y/\(∀b,y.M b->l.M b/\l.w.heap[b]?=y.w.heap[b]?)
 I:listed.getD 18 Ì=Ò->l.w.cell? ⟨gb,2,Á⟩=Â (Æ x.1.1 x.1.2.1 x.1.2.2)
 N:listed.getD 20 Ì=Ò->l.w.cell? ⟨an,pl,Á⟩=Â (à x.2)
def Et.C{d l:ff}{Q:Ï->ByteArray->ff->Prop}{listed:Array Bool}{x:(Option Addr×Nat×Nat)×ByteArray}(h:Et d n j b k v Q listed x l)(o:i≠12)(p:i≠18)(s:i≠20)(e:d.r ⟨j,2,Á⟩/\d.r ⟨b,k,Á⟩)(m:ß)(r:fI l l.w m):Et d n j b k v Q (listed.setIfInBounds i Ò) x {l with w:=m}:=by
 have t:∀a,(a=⟨j,2,Á⟩\/a=⟨b,k,Á⟩)->d.r a:=λa u=>by rcases u with rfl|rfl;exact e.1;exact e.2
 refine⟨h.r.N t r,λq=> ?_,λq=> ?_,λq=> ?_⟩
 .rw[ç Ì o]at q;let⟨y,z,f⟩:=h.vK q;exact⟨y,z,λc g=>⟨(f c g).1,(r.I c (f c g).1).trans (f c g).2⟩⟩
 .rw[ç Ì p]at q;exact(r.N _<|by rw[h.r.C];exact Ã e.1).trans<|h.I q
 .rw[ç Ì s]at q;exact(r.N _<|by rw[h.r.C];exact Ã e.2).trans<|h.N q
section
variable{J:Jd}{iw:ff}{ga gb an pl:Nat}{s9:Ï}{Q:Ï->ByteArray->ff->Prop}
def ajn(S:gC iw)(hq:¬iw.q)(ht:d.size=37)(BJ:d[1]?=Â (Æ (Â ⟨an,0,Á⟩) i i))(RL:d[5]?=Â (À<|Â ⟨n,0,Á⟩))(hO:iw.O n) (X:iw.w.cell? ⟨n,0,Á⟩=Â v) (Y:iw.w.cell? ⟨n,1,Á⟩=Â (Ê Î pl)) (c2:iw.w.cell? ⟨n,2,Á⟩=Â (À<|Â ⟨ga,0,Á⟩)) (c3:iw.w.cell? ⟨n,3,Á⟩=Â (À<|Â ⟨gb,0,Á⟩)) (uI:iw.N ⟨ga,2,Á⟩) (p9:iw.w.cell? ⟨ga,2,Á⟩=Â s9) (F:iw.r ⟨gb,2,Á⟩) (H:iw.r ⟨an,pl,Á⟩) (e1:(iw.w.cell? ⟨gb,2,Á⟩).isSome=Ò) (e2:(iw.w.cell? ⟨an,pl,Á⟩).isSome=Ò) (z1:iw.w.frozen? ⟨gb,2,Á⟩=Ì) (z2:iw.w.frozen? ⟨an,pl,Á⟩=Ì) (rO:pl<i) (hN:i<1000000) (ll:(⟨gb,2,Á⟩:â)≠⟨an,pl,Á⟩) (uk:∀l,iH (λa=>a=⟨gb,2,Á⟩\/a=⟨an,pl,Á⟩) iw l->∀I lX,fl Ä Ì (λl' g'=>l'.d=l.d/\∃p g c str,g'=G (I.finish<|ñ #[Æ p g c,à str]) lX/\Q (Æ p g c) str l') (mo l)<|G (Ă Ä 66 #[s9,v] Ğ)<|I::lX) (md:ý) (listed:Array Bool) (a:ŏ) (l:ff) (k:Nat) (rest:List Nat) (hI:II zw d (na n ga gb an i pl v s9) (Et iw ga gb an pl s9 Q) listed a l) (D:k∈Û md zw listed): fl Ä Ì (λl' g'=>∃u,g'=G ((base 49).at u<|Ñ zw rest::L) qX/\II zw d (na n ga gb an i pl v s9) (Et iw ga gb an pl s9 Q) (listed.setIfInBounds k Ò) u l') l (G ((base 49).at a<|Ñ zw (k::rest)::L) qX):=by
 let⟨x,s,B⟩:=hI;have K:uH zw d.size=Ò:=by rw[ht];decide
 have V:=RG D;have gV:=Ei D;have M:=B.r.fA;have N:¬l.q:=by rwa[B.r.q]
 have W:∀y:â,(y=⟨gb,2,Á⟩\/y=⟨an,pl,Á⟩)->iw.r y:=λy ha=>by rcases ha with rfl|rfl;exact F;exact H
 have mq:a.tmps[1]?=Â (Æ (Â ⟨an,0,Á⟩) i i):=(s.C A).trans BJ;have rX:a.tmps[5]?=Â (À<|Â ⟨n,0,Á⟩):=(s.C A).trans RL;have I:∀j m,iw.w.cell? ⟨n,j,Á⟩=Â m->ic l ⟨n,j,Á⟩/\l.w.cell? ⟨n,j,Á⟩=Â m:=λj m h=>⟨Ã<|Ã<|B.r.O n hO,by rwa[gO<|B.r.r n<|Ã hO]⟩;have RN:¬((⟨ga,2,Á⟩:â)=⟨gb,2,Á⟩\/(⟨ga,2,Á⟩:â)=⟨an,pl,Á⟩):=λq=>by
  rcases q with q|q
  .exact S.Y _ F<|q▸uI
  .exact S.Y _ H<|q▸uI
 have Hh:ic l ⟨ga,2,Á⟩/\l.w.cell? ⟨ga,2,Á⟩=Â s9:=⟨Ç (Ç<|by rwa[B.r.c]),by rwa[B.r.e _ (Ç uI) RN]⟩;have RO:(pl:Int)<(i:Int):=Z
 have kq:zw.size=21:=A
 rw[kq]at gV;match k,gV with
 |0,_=>
  refine iu (o:=Hc) K s U U D (by k_ne) M N (λt r=> ?_) (λt r e E=> ?_)<|B.C A A A ⟨F,H⟩
  .simp only[na,Hc];go_simp
  .simp[go_sem,Hc,rX]at E
 |1,_=>
  have u:a.tmps[13]?=Â (À<|Â ⟨n,3,Á⟩):=s.r 0 Hc 13 U (im (o:=Ej) D U U) U;refine iu (o:=Ej) K s U U D (by k_ne) M N (λt r=> ?_) (λt r e E=> ?_)<|B.C A A A ⟨F,H⟩
  .have J:t.cell? ⟨n,3,Á⟩=Â (À<|Â ⟨gb,0,Á⟩):=((I 3 _ c3).1.r r).trans (I 3 _ c3).2;simp only[na,Ej];go_simp
  .have J:t.cell? ⟨n,3,Á⟩=Â (À<|Â ⟨gb,0,Á⟩):=((I 3 _ c3).1.r r).trans (I 3 _ c3).2;have b:e=⟨û ⟨n,3,Á⟩,Ì,Ì⟩:=by simp[go_sem,Ej,J,u]at E;exact E
   subst b;exact(I 3 _ c3).1.rd
 |2,_=>
  refine iu (o:=Hd) K s U U D (by k_ne) M N (λt r=> ?_) (λt r e E=> ?_)<|B.C A A A ⟨F,H⟩
  .simp only[na,Hd];go_simp
  .simp[go_sem,Hd,mq]at E
 |3,_=>
  refine iu (o:=He) K s U U D (by k_ne) M N (λt r=> ?_) (λt r e E=> ?_)<|B.C A A A ⟨F,H⟩
  .simp only[na,He];go_simp
  .simp[go_sem,He,rX]at E
 |4,_=>
  have u:a.tmps[16]?=Â (À<|Â ⟨n,1,Á⟩):=s.r 3 He 16 U (im (o:=Ek) D U U) U;refine iu (o:=Ek) K s U U D (by k_ne) M N (λt r=> ?_) (λt r e E=> ?_)<|B.C A A A ⟨F,H⟩
  .have J:t.cell? ⟨n,1,Á⟩=Â (Ê Î pl):=((I 1 _ Y).1.r r).trans (I 1 _ Y).2;simp only[na,Ek];go_simp
  .have J:t.cell? ⟨n,1,Á⟩=Â (Ê Î pl):=((I 1 _ Y).1.r r).trans (I 1 _ Y).2;have b:e=⟨û ⟨n,1,Á⟩,Ì,Ì⟩:=by simp[go_sem,Ek,J,u]at E;exact E
   subst b;exact(I 1 _ Y).1.rd
 |5,_=>
  refine iu (o:=Hf) K s U U D (by k_ne) M N (λt r=> ?_) (λt r e E=> ?_)<|B.C A A A ⟨F,H⟩
  .simp only[na,Hf];go_simp
  .simp[go_sem,Hf,rX]at E
 |6,_=>
  have u:a.tmps[18]?=Â (À<|Â ⟨n,2,Á⟩):=s.r 5 Hf 18 U (im (o:=El) D U U) U;refine iu (o:=El) K s U U D (by k_ne) M N (λt r=> ?_) (λt r e E=> ?_)<|B.C A A A ⟨F,H⟩
  .have J:t.cell? ⟨n,2,Á⟩=Â (À<|Â ⟨ga,0,Á⟩):=((I 2 _ c2).1.r r).trans (I 2 _ c2).2;simp only[na,El];go_simp
  .have J:t.cell? ⟨n,2,Á⟩=Â (À<|Â ⟨ga,0,Á⟩):=((I 2 _ c2).1.r r).trans (I 2 _ c2).2;have b:e=⟨û ⟨n,2,Á⟩,Ì,Ì⟩:=by simp[go_sem,El,J,u]at E;exact E
   subst b;exact(I 2 _ c2).1.rd
 |7,_=>
  have u:a.tmps[19]?=Â (À<|Â ⟨ga,0,Á⟩):=s.r 6 El 19 U (im (o:=Em) D U U) U;refine iu (o:=Em) K s U U D (by k_ne) M N (λt r=> ?_) (λt r e E=> ?_)<|B.C A A A ⟨F,H⟩
  .simp only[na,Em];go_simp
  .simp[go_sem,Em,u]at E
 |8,_=>
  have u:a.tmps[20]?=Â (À<|Â ⟨ga,0,Á⟩):=s.r 7 Em 20 U (im (o:=En) D U U) U;refine iu (o:=En) K s U U D (by k_ne) M N (λt r=> ?_) (λt r e E=> ?_)<|B.C A A A ⟨F,H⟩
  .simp only[na,En];go_simp
  .simp[go_sem,En,u]at E
 |9,_=>
  have u:a.tmps[21]?=Â (À<|Â ⟨ga,2,Á⟩):=s.r 8 En 21 U (im (o:=Eo) D U U) U;refine iu (o:=Eo) K s U U D (by k_ne) M N (λt r=> ?_) (λt r e E=> ?_)<|B.C A A A ⟨F,H⟩
  .have J:t.cell? ⟨ga,2,Á⟩=Â (s9):=(Hh.1.r r).trans Hh.2;simp only[na,Eo];go_simp
  .have J:t.cell? ⟨ga,2,Á⟩=Â (s9):=(Hh.1.r r).trans Hh.2;have b:e=⟨û ⟨ga,2,Á⟩,Ì,Ì⟩:=by simp[go_sem,Eo,J,u]at E;exact E
   subst b;exact Hh.1.rd
 |10,_=>
  refine iu (o:=Hg) K s U U D (by k_ne) M N (λt r=> ?_) (λt r e E=> ?_)<|B.C A A A ⟨F,H⟩
  .simp only[na,Hg];go_simp
  .simp[go_sem,Hg,rX]at E
 |11,_=>
  have u:a.tmps[23]?=Â (À<|Â ⟨n,0,Á⟩):=s.r 10 Hg 23 U (im (o:=Ep) D U U) U;refine iu (o:=Ep) K s U U D (by k_ne) M N (λt r=> ?_) (λt r e E=> ?_)<|B.C A A A ⟨F,H⟩
  .have J:t.cell? ⟨n,0,Á⟩=Â (v):=((I 0 _ X).1.r r).trans (I 0 _ X).2;simp only[na,Ep];go_simp
  .have J:t.cell? ⟨n,0,Á⟩=Â (v):=((I 0 _ X).1.r r).trans (I 0 _ X).2;have b:e=⟨û ⟨n,0,Á⟩,Ì,Ì⟩:=by simp[go_sem,Ep,J,u]at E;exact E
   subst b;exact(I 0 _ X).1.rd
 |12,_=>
  have Hi:a.tmps[22]?=Â (s9):=s.r 9 Eo 22 U (im (o:=BA) D U U) U;have K6:a.tmps[24]?=Â (v):=s.r 11 Ep 24 U (im (o:=BA) D U U) U;refine Zu (o:=BA) K s U U D (by k_ne) M (f:=66) (args:=#[s9,v]) (λw=>by simp only[BA];go_simp) (λw=>ł (o:=BA) U Tryz.func66 U U #[]) λt r=> ?_;have T:=B.r.N W r;refine((uk _ T _ _).mo<|T.G S).fT ?_;rintro l' g' ⟨y,⟨hy0,p,g,c,str,rfl,hQ⟩,rfl,hA,Zx,ajo,ajp⟩;refine⟨((p,g,c),str),U,⟨T.RH W hA hy0,λ_=>⟨y,hQ,λb P=>⟨?_,U⟩⟩,λq=> ?_,λq=> ?_⟩,λj u=> ?_⟩
  .rcases P with q|q
   .exact Ã<|Ã q
   .rw[Zx]at q;exact q.elim (λz=>Ã<|Ç z) Ç
  .rw[ç Ì A]at q;exact absurd (s.I (o:=BF) U q U)<|xy V
  .rw[ç Ì A]at q;exact absurd (s.I (o:=BH) U q U)<|xy V
  .match j,u with
   |12,u=>exact absurd u<|xy V
   |13,u=>exact absurd (s.I (o:=vI) U u U)<|xy V
   |14,u=>exact absurd (s.I (o:=vI) U (s.I (j:=13) (o:=BB) U u U) U)<|xy V
   |15,u=>exact absurd (s.I (o:=vI) U (s.I (j:=13) (o:=BD) U u U) U)<|xy V
   |0,_|1,_|2,_|3,_|4,_|5,_|6,_|7,_|8,_|9,_|10,_|11,_|16,_|17,_|18,_|19,_|20,_|g+21,_=>rfl
 |13,_=>
  have u:a.tmps[25]?=Â (ñ #[Æ x.1.1 x.1.2.1 x.1.2.2,à x.2]):=s.r 12 BA 25 U (im (o:=vI) D U U) U;refine iu (o:=vI) K s U U D (by k_ne) M N (λt r=> ?_) (λt r e E=> ?_)<|B.C A A A ⟨F,H⟩
  .simp only[na,vI];go_simp
  .simp[go_sem,vI,u]at E
 |14,_=>
  have u:a.tmps[12]?=Â (ñ #[Æ x.1.1 x.1.2.1 x.1.2.2,à x.2]):=s.r 13 vI 12 U (im (o:=BB) D U U) U;refine iu (o:=BB) K s U U D (by k_ne) M N (λt r=> ?_) (λt r e E=> ?_)<|B.C A A A ⟨F,H⟩
  .simp only[na,BB];go_simp
  .simp[go_sem,BB,u]at E
 |15,_=>
  have u:a.tmps[12]?=Â (ñ #[Æ x.1.1 x.1.2.1 x.1.2.2,à x.2]):=s.r 13 vI 12 U (im (o:=BD) D U U) U;refine iu (o:=BD) K s U U D (by k_ne) M N (λt r=> ?_) (λt r e E=> ?_)<|B.C A A A ⟨F,H⟩
  .simp only[na,BD];go_simp
  .simp[go_sem,BD,u]at E
 |16,_=>
  have u:a.tmps[14]?=Â (À<|Â ⟨gb,0,Á⟩):=s.r 1 Ej 14 U (im (o:=Er) D U U) U;refine iu (o:=Er) K s U U D (by k_ne) M N (λt r=> ?_) (λt r e E=> ?_)<|B.C A A A ⟨F,H⟩
  .simp only[na,Er];go_simp
  .simp[go_sem,Er,u]at E
 |17,_=>
  have u:a.tmps[28]?=Â (À<|Â ⟨gb,0,Á⟩):=s.r 16 Er 28 U (im (o:=Es) D U U) U;refine iu (o:=Es) K s U U D (by k_ne) M N (λt r=> ?_) (λt r e E=> ?_)<|B.C A A A ⟨F,H⟩
  .simp only[na,Es];go_simp
  .simp[go_sem,Es,u]at E
 |18,_=>
  have h29:a.tmps[29]?=Â (À<|Â ⟨gb,2,Á⟩):=s.r 17 Es 29 U (im (o:=BF) D U U) U;have h26:a.tmps[26]?=Â (Æ x.1.1 x.1.2.1 x.1.2.2):=s.r 14 BB 26 U (im (o:=BF) D U U) U;have T:(l.w.cell? ⟨gb,2,Á⟩).isSome=Ò:=B.r.g _ (Ã U) e1;have BK:l.w.frozen? ⟨gb,2,Á⟩=Ì:=(B.r.S _<|Ã F).trans z1;have lO:qk l ⟨gb,2,Á⟩:=Ç (by rwa[B.r.I]);refine RJ (o:=BF) (y:=⟨gb,2,Á⟩) (v:=Æ x.1.1 x.1.2.1 x.1.2.2) K s U U U D (by k_ne) M N U lO T BK (λw J hz=> ?_) (λw J hz=> ?_) λt r=> ?_
  .let⟨u,hu⟩:=Ô.1 J;simp only[BF];go_simp
  .let⟨u,hu⟩:=Ô.1 J;simp[go_sem,BF,h29,h26,á _ _ _ _ _ _ (show Ø (Æ x.1.1 x.1.2.1 x.1.2.2)=Ò from rfl),hu,hz]
  .have hA:=B.r.qK S W (x:=⟨gb,2,Á⟩) (v:=Æ x.1.1 x.1.2.1 x.1.2.2) (Ã U) U T;refine⟨hA.N W ⟨r.r,r.I,r.N,r.Y,r.S⟩,λq=> ?_,λq=> ?_,λq=> ?_⟩
   .rw[ç Ì A]at q;let⟨y,y1,z⟩:=B.vK q;refine⟨y,y1,λb P=>⟨(z b P).1,?_⟩⟩;have RP:b≠(⟨gb,2,Á⟩:â).block:=λe=>(B.r.G S).N ⟨gb,2,Á⟩ (by rw[B.r.C];exact Ã F)<|e▸(z b P).1;exact(r.I b (z b P).1).trans<|(lD RP).trans (z b P).2
   .exact(r.N _ (by rw[B.r.C];first|exact Ã F|exact Ã H)).trans<|AZ (Ô.1 T).choose_spec
   .rw[ç Ì A]at q;exact(r.N ⟨an,pl,Á⟩<|by rw[B.r.C];exact Ã H).trans<|(Bz U λe=>ll e.symm).trans<|B.N q
 |19,_=>
  have RR:a.tmps[15]?=Â (Æ (Â ⟨an,0,Á⟩) i i):=s.r 2 Hd 15 U (im (o:=BG) D U U) U;have RU:a.tmps[17]?=Â (Ê Î pl):=s.r 4 Ek 17 U (im (o:=BG) D U U) U;refine iu (o:=BG) K s U U D (by k_ne) M N (λt r=> ?_) (λt r e E=> ?_)<|B.C A A A ⟨F,H⟩
  .simp only[na,BG];go_simp
  .simp[go_sem,BG,rO,RO,RR,RU]at E
 |20,_=>
  have E:a.tmps[30]?=Â (À<|Â ⟨an,pl,Á⟩):=s.r 19 BG 30 U (im (o:=BH) D U U) U;have h27:a.tmps[27]?=Â (à x.2):=s.r 15 BD 27 U (im (o:=BH) D U U) U;have T:(l.w.cell? ⟨an,pl,Á⟩).isSome=Ò:=B.r.g _ (Ç U) e2;have BK:l.w.frozen? ⟨an,pl,Á⟩=Ì:=(B.r.S _<|Ã H).trans z2;have lO:qk l ⟨an,pl,Á⟩:=Ç (by rwa[B.r.I]);refine RJ (o:=BH) (y:=⟨an,pl,Á⟩) (v:=à x.2) K s U U U D (by k_ne) M N U lO T BK (λw J hz=> ?_) (λw J hz=> ?_) λt r=> ?_
  .let⟨u,hu⟩:=Ô.1 J;simp only[BH];go_simp
  .let⟨u,hu⟩:=Ô.1 J;simp[go_sem,BH,E,h27,á _ _ _ _ _ _ (show Ø (à x.2)=Ò from rfl),hu,hz]
  .have hA:=B.r.qK S W (x:=⟨an,pl,Á⟩) (v:=à x.2) (Ç U) U T;refine⟨hA.N W ⟨r.r,r.I,r.N,r.Y,r.S⟩,λq=> ?_,λq=> ?_,λq=> ?_⟩
   .rw[ç Ì A]at q;let⟨y,y1,z⟩:=B.vK q;refine⟨y,y1,λb P=>⟨(z b P).1,?_⟩⟩;have RP:b≠(⟨an,pl,Á⟩:â).block:=λe=>(B.r.G S).N ⟨an,pl,Á⟩ (by rw[B.r.C];exact Ã H)<|e▸(z b P).1;exact(r.I b (z b P).1).trans<|(lD RP).trans (z b P).2
   .rw[ç Ì A]at q;exact(r.N ⟨gb,2,Á⟩<|by rw[B.r.C];exact Ã F).trans<|(Bz U<|ll).trans<|B.I q
   .exact(r.N _ (by rw[B.r.C];first|exact Ã F|exact Ã H)).trans<|AZ (Ô.1 T).choose_spec
 |g+21,h=>exact absurd h Z
end
section
variable{E:â->Prop}{l c g:ff}
def iH.fi(h:iH E l c)(k:iH E c g):iH E l g:=by have f:=h.C;exact⟨λj e=>k.O j<|h.O j e,λj e=>(k.h j e).elim (h.h j) λq=>Ç<|Õ h.f q,k.Y.trans h.Y,k.I.trans h.I,k.c.trans h.c,k.K.trans h.K,k.q.trans h.q,k.d.trans h.d,k.fA,Õ h.f k.f,λj e=>(k.r j<|h.M e).trans<|h.r j e,λa b i=>(k.e a (by rwa[f]) i).trans<|h.e a b i,λa b=>(k.S a<|by rwa[f]).trans<|h.S a b,λa b q=>k.b a (by rwa[h.K])<|h.b a b q,λa b q=>k.g a b<|h.g a b q⟩
end
def gK(l:ff)(w₁:ß)(o:Ÿ):ff:={l with O:=λb=>l.O b\/b=w₁.heap.size,w:=w₁.alloc o}
theorem zx{o:Ÿ}(h:j<w.heap.size):(w.alloc o).heap[j]?=w.heap[j]?:=by unfold ň;grind
theorem ng{o:Ÿ}:(w.alloc o).heap[w.heap.size]?=Â o:=by unfold ň;simp
def K7{o:Ÿ}:(w.alloc o).heap.size=w.heap.size+1:=by unfold ň;simp
section
variable{J:Jd}{l:ff}{a:ŏ}{k:List ŷ}{cs:List é}{ob:Ÿ}{E:â->Prop}
def Zy(b:∀j,l.O j->j<w.heap.size)(c:¬l.q):mI l (gK l w ob) w (w.alloc ob) #[]:= ⟨by rw[K7];omega,λj h=>h.imp id λe=>by omega,λj h=>by rw[K7];exact h.elim (λq=>Ĺ<|b j q) λe=>by omega,U,U,U,U,λj d _ _=>zx d,λx a _ _=>gO<|zx a,λx a _=>xh<|zx a,U,U,U,λe f=>by simp at f,by simp[į,gK],U,λq=>absurd q c,U⟩
def Hj(c:Q[i]?=Â o)(d:Ė o (ţ Q a.tmps)=Ò)(e:f.kind≠Ź)(g:kr l)(h:¬l.q) (j:∀w,(ĉ a.eval o).run P w=.ok (.value<|À<|Â ⟨w.heap.size,0,Á⟩) (w.alloc ob)) (m:∀w,(ĉ a.eval o).events P w #[]=#[]) (n:∀b,fI l l.w b->fl P yQ J (gK l b ob) (G (f.at (a.put o.dst<|À<|Â ⟨b.heap.size,0,Á⟩)<|Ñ Q jJ::k) cs)):fl P yQ J l (G (f.at a<|Ñ Q (i::jJ)::k) cs):=by
 refine vH c d e λb r=> ?_;rw[j b];refine⟨_,?_,n b r⟩;have:listed P f.fn a o b=#[]:=by unfold listed;rw[m b,Ī]
 rw[this];exact Zy (mM g r) h
def K8(s:gC l)(d:∀a,E a->l.r a)(r:fI l l.w u):iH E l (gK l u ob):=by
 have c:=r.r;refine⟨λj h=>Ã h,λj h=>h.imp id λe=>by omega,U,U,U,U,U,U,λj h=> ?_,?_,λj f=>(zx<|È (s.fA j f) c).trans<|r.I j f,λx b _=>(gO<|zx<|È (s.I x b) c).trans<|r.N x b,λx b=>(xi<|zx<|È (s.I x b) c).trans<|r.Y x b,λx b q=> ?_,λx b q=> ?_⟩
 .show j<(u.alloc ob).heap.size;rw[K7];exact h.elim (λq=>Ĺ<|È (s.fA j<|Ã q) c) λe=>by omega
 .show l.w.heap.size<=(u.alloc ob).heap.size;rw[K7];omega
 .show((u.alloc ob).cell? x).isSome=Ò;rw[gO<|zx<|È (s.S x b).2.1 c];exact r.S x b q
 .show((u.alloc ob).cell? x).isSome=Ò;rwa[gO<|zx<|È (s.I x<|Ã<|d x b) c,r.N x<|Ã<|d x b]
def K9{w':ß}{p:Nat}(g:∀j,l.O j->j<w.heap.size)(i:¬l.q)(b:l.O p)(k:w'.heap.size=w.heap.size)(c:∀j,j≠p->w'.heap[j]?=w.heap[j]?)(d:w'.os=w.os/\w'.output=w.output/\w'.tape=w.tape)(f:∀e∈V,xx l e):mI l {l with w:=w'} w w' V:=by refine⟨Z,λ_ h=>Ã h,λj h=>by rw[k];exact g j h,U,U,U,U,λj _ a _=>c j λe=>a<|e▸b,λx _ a _=>gO (c _ λe=>a<|e▸b),λx _ a=>xh (c _ λe=>a<|e▸b),d.1,d.2.1,d.2.2,λe h=>(f e h).1,(K2 f _).symm,U,λq=>absurd q i,U⟩
end
def iY(w:ß)(p:Nat)(v0 v1 v2 v3:Ï):ß:=(((w.setCell ⟨p,0,Á⟩ v0).setCell ⟨p,1,Á⟩ v1).setCell ⟨p,2,Á⟩ v2).setCell ⟨p,3,Á⟩ v3
section
variable{p:Nat}{v0 v1 v2 v3:Ï}
def xA:(iY w p v0 v1 v2 v3).heap.size=w.heap.size:=by unfold iY;rw[j4,j4,j4,j4]
def zy(h:j≠p):(iY w p v0 v1 v2 v3).heap[j]?=w.heap[j]?:=by unfold iY;rw[lD h,lD h,lD h,lD h]
theorem RV(b:w.cell? ⟨p,0,Á⟩=Â v)(c:w.cell? ⟨p,1,Á⟩=Â x)(d:w.cell? ⟨p,2,Á⟩=Â z)(e:w.cell? ⟨p,3,Á⟩=Â jQ): (iY w p v0 v1 v2 v3).cell? ⟨p,0,Á⟩=Â v0/\(iY w p v0 v1 v2 v3).cell? ⟨p,1,Á⟩=Â v1/\(iY w p v0 v1 v2 v3).cell? ⟨p,2,Á⟩=Â v2/\(iY w p v0 v1 v2 v3).cell? ⟨p,3,Á⟩=Â v3:=by have f:∀(w:ß) (i j:Nat) (a:Ï),i≠j->(w.setCell ⟨p,i,Á⟩ a).cell? ⟨p,j,Á⟩=w.cell? ⟨p,j,Á⟩:=λw i j a h=>yT<|Ç h;unfold iY;grind [AZ]
def RY{E:â->Prop}{l e:ff}(s:gC l)(f:∀a,E a->l.r a)(h:iH E l e){w':ß}(r:fI e e.w u)(k:l.w.heap.size<=p)(g:w'.heap.size=u.heap.size)(i:∀j,j≠p->w'.heap[j]?=u.heap[j]?):iH E l {e with w:=w'}:=by
 have b:=h.N f r;have c:∀{j:Nat},j<l.w.heap.size->w'.heap[j]?=u.heap[j]?:=λ{j} q=>i j Z;refine⟨b.O,b.h,b.Y,b.I,b.c,b.K,b.q,b.d,λj q=> ?_,?_,λj q=>(c<|s.fA j q).trans<|b.r j q,λa q n=>(gO<|c<|s.I a q).trans<|b.e a q n,λa q=>(xi<|c<|s.I a q).trans<|b.S a q,λa q z=> ?_,λa q z=> ?_⟩
 .show j<w'.heap.size;rw[g];exact b.fA j q
 .show l.w.heap.size<=w'.heap.size;rw[g];exact b.f
 .show(w'.cell? a).isSome=Ò;rw[gO<|c (s.S a q).2.1];exact b.b a q z
 .show(w'.cell? a).isSome=Ò;rw[gO<|c<|s.I a<|Ã<|f a q];exact b.g a q z
end
def uJ(t:Array Ï)(h:t.size=n):∃u:Nat->Ï,t=((ã n).map u).toArray:=by subst h;refine⟨λi=>t.getD i Å,Array.ext fq λi a _=> ?_⟩;simp_all
def RZ(t:Array Ï)(h:t.size=37):∃a b c d e f g i j k l m n o p q r s u v w x y z B C D E F G H I J K L M N:Ï,t=#[a,b,c,d,e,f,g,i,j,k,l,m,n,o,p,q,r,s,u,v,w,x,y,z,B,C,D,E,F,G,H,I,J,K,L,M,N]:=by obtain⟨_,rfl⟩:=uJ t h;exact⟨_,_,_,_,_,_,_,_,_,_,_,_,_,_,_,_,_,_,_,_,_,_,_,_,_,_,_,_,_,_,_,_,_,_,_,_,_,U⟩
end Go.Proofs.Y.fx
namespace Go.Proofs.Y.fx
open Go Go.Conc Go.Proofs.Y.Lift Go.RowKit Go.Conc.Lib Go.ConcR.Gen
section
variable{Ψ:ß->Prop}{L:WgLink}{l:ff}{e:Jd}{k:List ŷ}
def R0(Ψ:ß->Prop)(l:ff)(b:Nat)(w:ß):Prop:=SW Ψ l b w/\fI l l.w w
def pJ(a:ml Ψ l b)(h:R0 Ψ l b w)(r:fI l w u):R0 Ψ l b u:=⟨fM h.1<|a.r r,h.2.fi r⟩
def ajq{J:Jd}(a:SW Ψ l b l.w)(c:Goes P yQ (fI l) Go.ConcR.DC0 (λd e=>fl P yQ J {l with w:=e} d) n g l.w):fl P yQ J l g:= Qf c (λ_ _ r=>r) a.1 λ_ _ _ h=>h
def ajr(H:WgLib P L)(τ:ff->ff)(Φ:ff->Prop)(c:ml Ψ l b)(z:SW Ψ l b l.w) (N:∀a,fI l l.w a->Φ {l with w:=a}/\(τ {l with w:=a}).d=0/\∃q:ß->Prop,ml q (τ {l with w:=a}) b/\SW q (τ {l with w:=a}) b (τ {l with w:=a}).w/\ ∀j,SW q (τ {l with w:=a}) b j->fl P Ì e {τ {l with w:=a}with d:=0,w:=j} (G (f.at (y.put ((Q[i]?).bind (·.dst))<|ñ #[])<|Ñ Q jJ::k) qX)): fl P Ì (λl g=>Φ l/\yV P Ì b (fl P Ì e) (τ l) g) l (G ((base L.done).at ⟨#[À<|Â ⟨b,0,Á⟩,Å,Å,Å],[]⟩ [ö<|body_done L])<|f.at y (Ñ Q (i::jJ)::k)::qX):=by
 lib_facts;simp only[body_done,doneFn,Ń];have hF:R0 Ψ l b l.w:=⟨z,fI.gd _ _⟩;apply ajq z (n:=40);u_reg (pJ c) hF;u_op (pJ c) hF;u_call H.f_add (nm_add L) addFn (pJ c) hF;u_c Ŝ (pJ c) hF;u_cond Ò (pJ c) hF;u_c Ŝ (pJ c) hF;u_c Ŝ (pJ c) hF;u_reg (pJ c) hF;u_op (pJ c) hF;u_op (pJ c) hF;u_c stepG_region_end (pJ c) hF;u_cond Ò (pJ c) hF;u_reg (pJ c) hF;u_op (pJ c) hF;u_conv H.underlying_tWgP H.room_tWg (nJ.r hF.1.2.1).choose_spec (pJ c) hF;refine Ë λa g=> ?_;replace hF:=pJ c hF g;clear g;refine .fD λj r=> ?_;let⟨O,B,q,h,C,D⟩:=N j<|hF.2.fi<|zo r;refine⟨O,B,U,_,λ_=>stepG_markAt .releaseMerge fq U U (by k_ne) U H.f_relMerge (x_relMerge_n L) (x_relMerge_b L) (x_relMerge_x L) (x_relMerge_f L) (by simp[ĥ,fQ]),?_⟩;walk_nrm;show fl P Ì (O9 P Ì b<|fl P Ì e) (τ {l with w:=j}) _;clear O r;generalize τ {l with w:=j}=l2 at h C B D|-;replace hF:=C;clear C c z N;apply jN h hF (n:=10);iterate 3 w_go fM
 refine Ë λa g=> ?_;replace hF:=fM hF g;clear g;refine vG (l:={l2 with w:=a}) h hF (Ã U) U (λ_=>stepG_mark0 .disable fq U U (by k_ne) U H.f_disable (x_disable_n L) (x_disable_b L) (x_disable_x L)<|x_disable_f L) λE hF=> ?_;walk_nrm;have W:į l2.d #[j0 .disable]=1:=by rw[B];rfl
 rw[W];apply jN (l:={l2 with d:=1,w:=E}) h hF (n:=50);iterate 2 w_go fM
 u_defer fM hF
 iterate 8 w_go fM
 u_bub fM hF
 iterate 11 w_go fM
 u_call H.f_uAdd (nm_uAdd L) uAddFn fM hF
 iterate 10 w_go fM
 refine Ë λa g=> ?_;replace hF:=fM hF g;clear g;refine n8 (l:={l2 with d:=1,w:=a}) h hF λj hF=>⟨U,U,λv=>⟨_,λa p F=>(stepG_add_atomic U U (by k_ne) U H.f_addU64 (x_addU64_n L) (x_addU64_b L) (x_addU64_x L) ê (x_addU64_f L) U U p F).trans fS,?_⟩⟩;walk_nrm;have S:ê.wrap (v+18446744069414584320)=ê.wrap (v+qR):=rfl;rw[S];clear S;obtain⟨s,I⟩:∃s,ê.wrap (v+qR)=s:=⟨_,U⟩;simp only[I];have J:0<=s:=by rw[<-I];have:ê.wrap (v+qR)=(v+qR)%18446744073709551616:=rfl;rw[this];omega
 clear I v;by_cases o:s=0\/(gi<=s/\s<1000000*gi/\s%gi<1000000)
 .rw[if_pos o];by_cases m:s=0;focus
   subst m;clear o J
  rotate_left;focus
   have X:=o.resolve_left m;clear o m J;let⟨Y,c5,c6⟩:=X;have q4:(4294967296:Int)<=s:=Y;have K:s<1000000*4294967296:=c5;have T:s%4294967296<1000000:=c6;have f1:=Ee s Z K T;have t:=Ef s Z K T;obtain⟨u,g1⟩:∃u,(s/4294967296+2147483648)%4294967296-2147483648=u:=⟨_,U⟩;have g2:¬u<0:=Z
   have g3:0<u:=Z
   by_cases M:s%4294967296=0;focus rw[M]at t
   rotate_left;focus
    obtain⟨x,g4⟩:∃x,s%4294967296=x:=⟨_,U⟩;rw[g4]at t M;have V:x%4294967296=x:=Z
    have g6:(x !=0)=Ò:=by simpa using M
  all_goals
   apply jN (l:={l2 with d:=1,w:=j}) h hF (n:=150);iterate 3 w_go fM
   u_leave1 H.f_uAdd fM hF
   iterate 83 w_go fM
   refine Ë λa g=> ?_;replace hF:=fM hF g;clear g;refine vG (l:={l2 with d:=1,w:=a}) h hF (Ç U) U (λw=>KW .enable fq U H.f_enable (x_enable_n L) (x_enable_b L) (x_enable_x L) (x_enable_f L) w) λE hF=> ?_;have u:į 1 #[j0 .enable]=0:=rfl;rw[u];apply jN (l:={l2 with d:=0,w:=E}) h hF (n:=10);u_leave0 H.f_add fM hF;iterate 2 w_go fM
   u_leave0 H.f_done fM hF
   refine Ë λa g=> ?_;replace hF:=fM hF g;clear g;exact D _ hF
 .rw[if_neg o];by_cases m:0<s/\s<1000000
  .rw[if_pos m];let⟨q4,K⟩:=m;clear o J;have f1:=Ee s Z Z Z;have t:=Ef s Z Z Z;have g1:(s/4294967296+2147483648)%4294967296-2147483648=0:=Z
   have V:s%4294967296=s:=Z
   rw[V]at t;have g6:(s !=0)=Ò:=by simp;omega
   have X:(s==0)=Ì:=by simp;omega
   have M:(s.toNat:Int)=s:=Z
   apply jN (l:={l2 with d:=1,w:=j}) h hF (n:=150);iterate 3 w_go fM
   u_leave1 H.f_uAdd fM hF
   iterate 89 w_go fM
   u_call H.f_uLoad (nm_uLoad L) uLoadFn fM hF
   iterate 9 w_go fM
   refine Ë λa g=> ?_;replace hF:=fM hF g;clear g;refine n8 (l:={l2 with d:=1,w:=a}) h hF λj hF=>⟨U,U,λv=>⟨_,λa p=>stepG_load_atomic U U (by k_ne) U H.f_loadU64 (x_loadU64_n L) (x_loadU64_b L) (x_loadU64_x L) ê (x_loadU64_f L) U p,?_⟩⟩;show fl P Ì (if v=(s.toNat:Int)then Ks P Ì b (fl P Ì e) s.toNat else λ_ _=>True) _ _;by_cases u:v=(s.toNat:Int)
   .rw[if_pos u];rw[M]at u;subst u;walk_nrm;have Y:(v !=v)=Ì:=fq
    apply jN (l:={l2 with d:=1,w:=j}) h hF (n:=150);iterate 3 w_go fM
    u_leave1 H.f_uLoad fM hF
    iterate 10 w_go fM
    u_call H.f_uStore (nm_uStore L) uStoreFn fM hF
    iterate 5 w_go fM
    refine Ë λa g=> ?_;replace hF:=fM hF g;clear g;refine n8 (l:={l2 with d:=1,w:=a}) h hF λj hF=>⟨U,U,_,λa x p F=>stepG_store_atomic U U (by k_ne) U H.f_storeU64 (x_storeU64_n L) (x_storeU64_b L) (x_storeU64_x L) (x_storeU64_f L) U U p F,?_⟩;walk_nrm;obtain⟨r,T⟩:∃r,v.toNat=r+1:=⟨v.toNat-1,Z⟩;rw[T];apply jN (l:={l2 with d:=1,w:=j}) h hF (n:=150);iterate 2 w_go fM
    u_leave0 H.f_uStore fM hF
    iterate 24 w_go fM
    refine Ë λa g=> ?_;replace hF:=fM hF g;clear g;apply aiY H h D r v<;>first|exact hF|omega
   .rw[if_neg u];exact .fD λ_ _=>trivial
  .rw[if_neg m];trivial
end
end Go.Proofs.Y.fx
namespace Go.Proofs.Y.fx
open Go Go.Conc Go.Proofs.Y.Lift Go.RowKit Go.Conc.Lib Go.ConcR.Gen
open Go.Proofs Go.Proofs.YtgpphkdoanciiaaGreatDoor
noncomputable def La:Ę:=kJ Ι [1,0,0]
noncomputable def zz (t:Array Ï) (a:List é):Ý:=G ((base 49).at ⟨t,[]⟩ [ö La,ą La,ô 0]) a
structure BL(an N:Nat)(ib:Option â)(m c kk:Nat)(t:Array Ï):Prop where
 r:t.size=37
 t1:t[1]?=Â (Æ (Â ⟨an,0,Á⟩) N N)
 t6:t[6]?=Â (Æ ib m c)
 C:t[7]?=Â (Ê Î m)
 I:t[8]?=Â (Ê Î kk)
theorem BM{x:Int}(a:0<=x)(b:x<1000000):Î.wrap x=x:=by rw[Γ];omega
section
variable{f:Jd}{l:ff}{t:Array Ï}{an N ib c kk:Nat}{Q:Ï->ByteArray->ff->Prop}{τ:ff->ff}{Φ:ff->Prop}
def ajs(D:gC l)(V:¬l.q)(hd:l.d=0)(W:BL an N (Â ⟨ib,0,Á⟩) m c kk t)(hkk:kk<m)(hm:m<1000)(hN:N<1000000)(rO:j<N)(zC:l.M ib) (i0:l.w.cell? ⟨ib,kk*4,Á⟩=Â (À O)) (i1:l.w.cell? ⟨ib,kk*4+1,Á⟩=Â (Ê Î j)) (i2:l.w.cell? ⟨ib,kk*4+2,Á⟩=Â (À<|Â ⟨i,0,Á⟩)) (i3:l.w.cell? ⟨ib,kk*4+3,Á⟩=Â (À<|Â ⟨n,0,Á⟩)) (uI:l.N ⟨i,2,Á⟩) (p9:l.w.cell? ⟨i,2,Á⟩=Â v) (o1:l.r ⟨n,2,Á⟩) (o2:l.r ⟨an,j,Á⟩) (e1:(l.w.cell? ⟨n,2,Á⟩).isSome=Ò) (e2:(l.w.cell? ⟨an,j,Á⟩).isSome=Ò) (z1:l.w.frozen? ⟨n,2,Á⟩=Ì) (z2:l.w.frozen? ⟨an,j,Á⟩=Ì) (ll:(⟨n,2,Á⟩:â)≠⟨an,j,Á⟩) (uk:∀u,iH (λa=>a=⟨n,2,Á⟩\/a=⟨an,j,Á⟩) l u->∀cl lX,fl Ä Ì (λl'' g'=>l''.d=u.d/\∃p k c str,g'=G (cl.finish<|ñ #[Æ p k c,à str]) lX/\Q (Æ p k c) str l'') (mo u)<|G (Ă Ä 66 #[v,À O] Ğ)<|cl::lX) (AV:∀u (x:(Option Addr×Nat×Nat)×ByteArray),iH (λa=>a=⟨n,2,Á⟩\/a=⟨an,j,Á⟩) l u->(∃y,Q (Æ x.1.1 x.1.2.1 x.1.2.2) x.2 y/\(∀b,y.M b->u.M b/\u.w.heap[b]?=y.w.heap[b]?))->u.w.cell? ⟨n,2,Á⟩=Â (Æ x.1.1 x.1.2.1 x.1.2.2)->u.w.cell? ⟨an,j,Á⟩=Â (à x.2)-> ml (λ_=>True) u n/\SW (λ_=>True) u n u.w/\Φ u/\(τ u).d=0/\∃E:ß->Prop,ml E (τ u) n/\SW E (τ u) n (τ u).w/\∀s X,SW E (τ u) n s->BL an N (Â ⟨ib,0,Á⟩) m c (kk+1) X->fl Ä Ì f {τ u with d:=0,w:=s} (zz X qX)): fl Ä Ì (λl g=>Φ l/\yV Ä Ì n (fl Ä Ì f) (τ l) g) l (zz t qX):=by
 obtain⟨y0,y1,Y,y3,y4,y5,y6,y7,y8,y9,xB,zD,xC,rY,td,qZ,vL,vM,uK,uL,uM,tf,tg,tj,rT,s6,rU,pH,oC,qf,qg,qh,uw,s7,s8,rV,qV,rfl⟩:=RZ t W.r;obtain rfl:y1=Æ (Â ⟨an,0,Á⟩) N N:=by simpa using W.t1
 obtain rfl:y6=Æ (Â ⟨ib,0,Á⟩) m c:=by simpa using W.t6
 obtain rfl:y7=Ê Î m:=by simpa using W.C
 obtain rfl:y8=Ê Î kk:=by simpa using W.I
 have rZ:∀y:â,(y=⟨n,2,Á⟩\/y=⟨an,j,Á⟩)->l.r y:=λy ha=>by rcases ha with rfl|rfl;exact o1;exact o2
 have au7:(kk:Int)<(m:Int):=Z
 simp only[zz];conv in La=>whnf
 refine fN (n:=30) D.r ?_;have hF:True:=trivial;repeat w_go fu
 refine Ë λ_ _=> ?_;have B:∀g,ic l ⟨ib,g,Á⟩:=λg=>Ã zC;refine oa (v:=Đ #[À O,Ê Î j,À<|Â ⟨i,0,Á⟩,À<|Â ⟨n,0,Á⟩]) U U (by k_ne) D.r V (λo r=> ?_) (λo r e F=> ?_) ?_
 .have J:=((B<|kk*4).r r).trans i0;have K:=((B<|kk*4+1).r r).trans i1;have L:=((B<|kk*4+2).r r).trans i2;have P:=((B<|kk*4+3).r r).trans i3;go_simp
 .have J:=((B<|kk*4).r r).trans i0;have K:=((B<|kk*4+1).r r).trans i1;have L:=((B<|kk*4+2).r r).trans i2;have P:=((B<|kk*4+3).r r).trans i3;simp[go_sem,J,K,L,P]at F;rcases F with rfl|rfl|rfl|rfl
  .exact(B _).rd
  .exact(B _).rd
  .exact(B _).rd
  .exact(B _).rd
 walk_nrm;refine Hj (ob:=É #[À Á,Ê Î 0,À Á,À Á] 155) U U (by k_ne) D.r V (λw=>by go_simp) (λw=>by simp[go_sem]) λo kI=> ?_;walk_nrm;have uN:iH (λa=>a=⟨n,2,Á⟩\/a=⟨an,j,Á⟩) l (gK l o<|É #[À Á,Ê Î 0,À Á,À Á] 155):=K8 D rZ kI;have mq:(gK l o<|É #[À Á,Ê Î 0,À Á,À Á] 155).w.heap[o.heap.size]?=Â (É #[À Á,Ê Î 0,À Á,À Á] 155):=ng;have tq:l.w.heap.size<=o.heap.size:=kI.r;have I:(gK l o<|É #[À Á,Ê Î 0,À Á,À Á] 155).O o.heap.size:=Ç U;generalize gK l o (É #[À Á,Ê Î 0,À Á,À Á] 155)=l₁ at uN mq I|-;generalize o.heap.size=tb at mq I tq|-;refine vH U U (by k_ne) λs oD=> ?_;have S:s.heap[tb]?=_:=(oD.I tb<|Ã I).trans mq;have J:s.cell? ⟨tb,0,Á⟩=Â (À Á):=by simp[Ö,S]
 have K:s.cell? ⟨tb,1,Á⟩=Â (Ê Î 0):=by simp[Ö,S]
 have L:s.cell? ⟨tb,2,Á⟩=Â (À Á):=by simp[Ö,S]
 have P:s.cell? ⟨tb,3,Á⟩=Â (À Á):=by simp[Ö,S]
 have hz:∀g,s.frozen? ⟨tb,g,Á⟩=Ì:=λg=>by simp[î,S]
 go_simp;refine⟨{l₁ with w:=iY s tb (À O) (Ê Î j) (À<|Â ⟨i,0,Á⟩) (À<|Â ⟨n,0,Á⟩)},K9 (p:=tb) (mM uN.fA oD) (by rwa[uN.q]) I xA (λg H=>zy H) ⟨U,U,U⟩ λe F=> ?_,?_⟩
 .have h:=đ F;have e:∀g,qk l₁ ⟨tb,g,Á⟩:=λg=>Ã I;simp[go_sem,á _ _ _ _ _ _ (show Ø (À O)=Ò from rfl),á _ _ _ _ _ _ (show Ø (À<|Â ⟨i,0,Á⟩)=Ò from rfl),á _ _ _ _ _ _ (show Ø (À<|Â ⟨n,0,Á⟩)=Ò from rfl),J,K,L,P,hz]at h;rcases h with rfl|rfl|rfl|rfl
  .exact(e _).r
  .exact(e _).r
  .exact(e _).r
  .exact(e _).r
 let⟨c0,c1,c2,c3⟩:=RV (v0:=À O) (v1:=Ê Î j) (v2:=À<|Â ⟨i,0,Á⟩) (v3:=À<|Â ⟨n,0,Á⟩) J K L P;have C:=RY (w':=iY s tb (À O) (Ê Î j) (À<|Â ⟨i,0,Á⟩)<|À<|Â ⟨n,0,Á⟩) D rZ uN oD tq xA λg H=>zy H;have BN:({l₁ with w:=iY s tb (À O) (Ê Î j) (À<|Â ⟨i,0,Á⟩) (À<|Â ⟨n,0,Á⟩)}:ff).O tb:=I;replace c0:({l₁ with w:=iY s tb (À O) (Ê Î j) (À<|Â ⟨i,0,Á⟩) (À<|Â ⟨n,0,Á⟩)}:ff).w.cell? ⟨tb,0,Á⟩=_:=c0;replace c1:({l₁ with w:=iY s tb (À O) (Ê Î j) (À<|Â ⟨i,0,Á⟩) (À<|Â ⟨n,0,Á⟩)}:ff).w.cell? ⟨tb,1,Á⟩=_:=c1;replace c2:({l₁ with w:=iY s tb (À O) (Ê Î j) (À<|Â ⟨i,0,Á⟩) (À<|Â ⟨n,0,Á⟩)}:ff).w.cell? ⟨tb,2,Á⟩=_:=c2;replace c3:({l₁ with w:=iY s tb (À O) (Ê Î j) (À<|Â ⟨i,0,Á⟩) (À<|Â ⟨n,0,Á⟩)}:ff).w.cell? ⟨tb,3,Á⟩=_:=c3;generalize({l₁ with w:=iY s tb (À O) (Ê Î j) (À<|Â ⟨i,0,Á⟩) (À<|Â ⟨n,0,Á⟩)}:ff)=l₂ at c0 c1 c2 c3 C BN|-;clear mq I uN S J K L P hz oD s l₁ kI o;have sd:=C.G D;have qn:¬l₂.q:=by rwa[C.q]
 have ajt:l₂.N ⟨i,2,Á⟩:=by rwa[C.c]
 have nE:¬((⟨i,2,Á⟩:â)=⟨n,2,Á⟩\/(⟨i,2,Á⟩:â)=⟨an,j,Á⟩):=λq=>by
  rcases q with q|q
  .exact D.Y _ o1<|q▸uI
  .exact D.Y _ o2<|q▸uI
 have aju:l₂.w.cell? ⟨i,2,Á⟩=Â v:=(C.e _ (Ç uI) nE).trans p9;have R1:∀y:â,(y=⟨n,2,Á⟩\/y=⟨an,j,Á⟩)->l₂.r y:=λy hy=>by rw[C.I];exact rZ y hy
 refine fN (n:=5) sd.r ?_;iterate 2 w_go fu
 refine Ë λ_ _=> ?_;refine RE (II zw #[y0,Æ (Â ⟨an,0,Á⟩) N N,Y,y3,y4,À<|Â ⟨tb,0,Á⟩,Æ (Â ⟨ib,0,Á⟩) m c,Ê Î m,Ê Î kk,ŝ Ò,À<|Â ⟨ib,kk*4,Á⟩,Đ #[À O,Ê Î j,À<|Â ⟨i,0,Á⟩,À<|Â ⟨n,0,Á⟩],xC,rY,td,qZ,vL,vM,uK,uL,uM,tf,tg,tj,rT,s6,rU,pH,oC,qf,qg,qh,uw,s7,s8,rV,qV] (na tb i n an N j (À O) v)<|Et l₂ i n an j v Q) sd.r qn (λh H=> ?_) (λmd listed a l e z hI F=>ajn sd qn U U U BN c0 c1 c2 c3 ajt aju (R1 _<|Ã U) (R1 _<|Ç U) (C.g _ (Ã U) e1) (C.g _ (Ç U) e2) ((C.S _<|Ã o1).trans z1) ((C.S _<|Ã o2).trans z2) rO hN ll (λu h=>uk u<|C.fi h) md listed a l e z hI F) λmd listed a z hI kq zE=> ?_
 .refine⟨((Á,0,0),ByteArray.empty),mZ.G _ _ _,(iH.gd sd.r).N R1 ⟨H.r,H.I,H.N,H.Y,H.S⟩,λq=> ?_,λq=> ?_,λq=> ?_⟩<;>exact absurd q A
 let⟨x,H,T⟩:=hI;have nK:∀e∈ã 21,listed.getD e Ì=Ò:=by
  cases md
  .exact qm zE kq (ã 21) [] fS λe F=>by cases F
  .exact λe F=>qm zE kq [0,1,5,6,7,8,9,10,11,12,13,14,16,17,18,2,3,4,15,19,20] [] fS (λe F=>by cases F) e (by have:=Ē.1 F;revert e;decide)
  .exact qm zE kq (ã 21) [] fS λe F=>by cases F
 have Hk:=C.fi T.r;have Hl:=Hk.G D;have xD:¬z.q:=by rwa[Hk.q]
 let⟨F,ds⟩:=a;obtain rfl:ds=[]:=H.M;have b1:F[1]?=Â (Æ (Â ⟨an,0,Á⟩) N N):=H.C (d:=1) A;have b5:F[5]?=Â (À<|Â ⟨tb,0,Á⟩):=H.C (d:=5) A;have b6:F[6]?=Â (Æ (Â ⟨ib,0,Á⟩) m c):=H.C (d:=6) A;have b7:F[7]?=Â (Ê Î m):=H.C (d:=7) A;have b8:F[8]?=Â (Ê Î kk):=H.C (d:=8) A;obtain⟨x0,x1,x2,x3,x4,x5,x6,x7,x8,x9,Zz,x11,x12,x13,x14,x15,x16,x17,x18,x19,x20,x21,x22,x23,x24,x25,x26,x27,x28,x29,x30,x31,x32,x33,x34,x35,x36,rfl⟩:=RZ F H.S;obtain rfl:x1=Æ (Â ⟨an,0,Á⟩) N N:=by simpa using b1
 obtain rfl:x5=À (Â ⟨tb,0,Á⟩):=by simpa using b5
 obtain rfl:x6=Æ (Â ⟨ib,0,Á⟩) m c:=by simpa using b6
 obtain rfl:x7=Ê Î m:=by simpa using b7
 obtain rfl:x8=Ê Î kk:=by simpa using b8
 have ajv:=T.vK<|nK 12 A;have ajw:=T.I<|nK 18 A;have ajx:=T.N<|nK 20 A;have d3:z.w.cell? ⟨tb,3,Á⟩=Â (À<|Â ⟨n,0,Á⟩):=(gO<|T.r.r tb<|Ã BN).trans c3;have s3:ic z ⟨tb,3,Á⟩:=Ã<|Ã<|T.r.O tb BN;clear H nK b1 b5 b6 b7 b8;refine fN (n:=9) Hl.r ?_;iterate 3 w_go fu
 refine Ë λ_ _=> ?_;refine o5 (x:=⟨tb,3,Á⟩) U U (by k_ne) Hl.r xD s3 d3 (λw h=>by go_simp) (λw h=>by simp[go_sem,h]) ?_;walk_nrm;refine fN (n:=9) Hl.r ?_;iterate 2 w_go fu
 u_call qY.f_done (nm_done Lk) doneFn fu hF
 refine Ë λ_ _=> ?_;have xE:∀o,fI z z.w o->ml (λ_=>True) {z with w:=o} n/\SW (λ_=>True) {z with w:=o} n o/\Φ {z with w:=o}/\(τ {z with w:=o}).d=0/\∃E:ß->Prop,ml E (τ {z with w:=o}) n/\SW E (τ {z with w:=o}) n (τ {z with w:=o}).w/\∀s X,SW E (τ {z with w:=o}) n s->BL an N (Â ⟨ib,0,Á⟩) m c (kk+1) X->fl Ä Ì f {τ {z with w:=o}with d:=0,w:=s} (zz X qX):=λo r=>by
  refine AV {z with w:=o} x (Hk.N rZ r) ?_ ?_ ?_
  .let⟨y,y1,Y⟩:=ajv;exact⟨y,y1,λb h=>⟨(Y b h).1,(r.I b (Y b h).1).trans (Y b h).2⟩⟩
  .exact(r.N _<|Ã<|by rwa[Hk.I]).trans ajw
  .exact(r.N _<|Ã<|by rwa[Hk.I]).trans ajx
 let⟨k1,k2,_⟩:=xE z.w<|fI.gd _ _;refine ajr qY τ Φ k1 k2 λo r=> ?_;let⟨_,_,f1,f4,E,f2,f3,f5⟩:=xE o r;refine⟨f1,f4,E,f2,f3,λs h=> ?_⟩;walk_nrm;refine fN (n:=30) h.1 ?_;iterate 7 w_go fu
 refine Ë λ_ _=> ?_;refine f5 s _ h ⟨U,U,U,U,?_⟩;simp;exact BM Z Z
end
def ajy:Array å:=#[⟨Â 2,ć 85<|Ù 0,85, "work.go:24",#[],Á⟩,
 ⟨Â 3,ć 25<|Ù 1,25, "work.go:24",#[],Á⟩,
 ⟨Â 4,Ě {callee:=ĕ (ĸ 49),args:=#[Ù 2,Ù 3],argTypes:=#[85,25]},0, "work.go:24",#[⟨0,Ü⟩,⟨1,Ü⟩],Á⟩]
def zF(a:Nat)(b c d e:Ï):é:=(baseD 63).at ⟨#[À<|Â ⟨a,0,Á⟩,b,c,d,e],[pI 64 #[À<|Â ⟨a,0,Á⟩] #[]]⟩ [Ñ Zv [1]]
def vN(a b c d e:Ï):é:=(base 48).at ⟨#[a,b,c,d,e],[]⟩ [Ñ ajy [2]]
section
variable{Ψ:ß->Prop}{J:Jd}{l:ff}{a e f o p:Ï}
def ajz(c:kr l)(g:¬l.q)(k:ic l ⟨j9,0,Á⟩)(r:ic l ⟨j7,0,Á⟩)(s:ic l ⟨b,0,Á⟩)(t:l.w.cell? ⟨j9,0,Á⟩=Â (Ĉ (ù 48) #[] #[À<|Â ⟨j7,0,Á⟩,À<|Â ⟨b,0,Á⟩]))(u:l.w.cell? ⟨j7,0,Á⟩=Â (Æ O m n))(y:l.w.cell? ⟨b,0,Á⟩=Â (Æ (Â ⟨j,0,Á⟩) i i)) (B:∀d a e f o v x z jQ p,BL j i O m n 0 d->fl Ä Ì J l (zz d [vN v x z jQ p,zF j6 a e f o,n9 Ä])): fl Ä Ì J l (born Ä<|pI 63 #[À<|Â ⟨j6,0,Á⟩,À<|Â ⟨j9,0,Á⟩] #[]):=by
 apply fN (n:=30) c;have hF:=trivial;u_c (Zm Ů fS U) fu hF;walk_nrmf Κ;iterate 3 w_go fu
 u_c (Zk U U (by k_ne) U U) fu hF
 walk_nrm;repeat w_go fu
 refine Ë λ_ _=> ?_;apply o5 U U (by k_ne) c g k t (λw h=>by go_simp) (λw h=>by simp[go_sem,h]);walk_nrm;apply fN (n:=30) c;u_c (Zl U U (by k_ne) U U ů fS U) fu hF;walk_nrmf Tryz.f48;w_go fu;refine Ë λ_ _=> ?_;apply o5 U U (by k_ne) c g r u (λw h=>by go_simp) (λw h=>by simp[go_sem,h]);walk_nrm;apply o5 U U (by k_ne) c g s y (λw h=>by go_simp) (λw h=>by simp[go_sem,h]);walk_nrm;apply fN (n:=30) c;u_call Ű fS Ι fu hF;iterate 8 w_go fu
 refine Ë λ_ _=> ?_;exact B _ _ _ _ _ _ _ _ _ _ ⟨U,U,U,U,U⟩
def ajA(b:BL j i O m n m d)(h:l.K ⟨k,0,Á⟩/\l.K ⟨k,1,Á⟩)(r:ml Ψ l k)(c:SW Ψ l k l.w)(s:l.d=0)(t:¬l.q)(u:ic l ⟨j6,0,Á⟩)(y:l.w.cell? ⟨j6,0,Á⟩=Â (À<|Â ⟨k,0,Á⟩)): fl Ä Ì (λl g=>yV Ä Ì k (Eg Ä) (kF l) g) l (zz d [vN v x z jQ p,zF j6 a e f o,n9 Ä]):=by
 obtain⟨C,D,E,F,G,H,I,g,B,J,L,M,N,P,Q,S,T,V,W,X,Y,tf,tg,tj,rT,s6,rU,pH,oC,qf,qg,qh,uw,s7,s8,rV,qV,rfl⟩:=RZ d b.r;obtain rfl:g=Ê Î m:=by simpa using b.C
 obtain rfl:B=Ê Î m:=by simpa using b.I
 have hmm:¬(m:Int)<(m:Int):=Z
 simp only[zz];conv in La=>whnf
 apply fN (n:=40) c.1;have hF:=trivial;iterate 8 w_go fu
 u_leave0 Ű fu hF
 iterate 2 w_go fu
 u_leave0 ů fu hF
 refine Ë λ_ _=> ?_;exact Zw h r c s t u y
end
def Hm:å:=⟨Â 14,ę<|Ù 1,25, "work.go:65",#[],Á⟩
def Hn:å:=⟨Â 15,ð 155 (Ù 4) 1,0, "work.go:65",#[],Á⟩
def Eu:å:=⟨Â 16,ć 3<|Ù 15,3, "work.go:65",#[⟨1,Ü⟩],Á⟩
def Ho:å:=⟨Â 17,ð 155 (Ù 4) 2,0, "work.go:65",#[],Á⟩
def Ev:å:=⟨Â 18,ć 86<|Ù 17,86, "work.go:65",#[⟨3,Ü⟩],Á⟩
def Ew:å:=⟨Â 19,ĩ<|Ù 18,0, "work.go:65",#[⟨4,Ü⟩],Á⟩
def Ex:å:=⟨Â 20,ð 105 (Ù 19) 1,0, "work.go:65",#[⟨5,Ü⟩],Á⟩
def Ey:å:=⟨Â 21,ć 65<|Ù 20,65, "work.go:65",#[⟨6,Ü⟩],Á⟩
def Hp:å:=⟨Â 22,ð 155 (Ù 4) 0,0, "work.go:65",#[],Á⟩
def Ez:å:=⟨Â 23,ć 148<|Ù 22,148, "work.go:65",#[⟨8,Ü⟩],Á⟩
def BO:å:=⟨Â 24,Ě {callee:=ĕ<|ĸ 67,args:=#[Ù 21,Ù 23],argTypes:=#[65,148]},9, "work.go:65",#[⟨7,Ü⟩,⟨9,Ü⟩],Á⟩
def BP:å:=⟨Â 25,ő 25 (Ù 14)<|Ù 16,0, "work.go:65",#[⟨0,Ü⟩,⟨2,Ü⟩,⟨0,Í⟩,⟨1,Í⟩,⟨2,Í⟩,⟨3,Í⟩,⟨4,Í⟩,⟨5,Í⟩,⟨6,Í⟩,⟨7,Í⟩,⟨8,Í⟩,⟨9,Í⟩,⟨10,Í⟩],Á⟩
def BQ:å:=⟨Á,š 9 (Ù 25)<|Ù 24,0, "work.go:65",#[⟨11,Ü⟩,⟨10,Ü⟩,⟨10,Ţ⟩,⟨0,Í⟩,⟨1,Í⟩,⟨2,Í⟩,⟨3,Í⟩,⟨4,Í⟩,⟨5,Í⟩,⟨6,Í⟩,⟨7,Í⟩,⟨8,Í⟩,⟨9,Í⟩,⟨10,Í⟩],Á⟩
def vO:Array å:=#[Hm,Hn,Eu,Ho,Ev,Ew,Ex,Ey,Hp,Ez,BO,BP,BQ]
def re(tb a b N c:Nat)(d e:Ï)(x:ByteArray):Nat->Ï
 |0=>Æ (Â ⟨b,0,Á⟩) N N
 |1=>À<|Â ⟨tb,1,Á⟩
 |2=>Ê Î c
 |3=>À<|Â ⟨tb,2,Á⟩
 |4=>À<|Â ⟨a,0,Á⟩
 |5=>À<|Â ⟨a,0,Á⟩
 |6=>À<|Â ⟨a,2,Á⟩
 |7=>e
 |8=>À<|Â ⟨tb,0,Á⟩
 |9=>d
 |10=>à x
 |11=>À<|Â ⟨b,c,Á⟩
 |_=>Å
structure EA(iw:ff)(an pl:Nat)(Q:ByteArray->Prop)(listed:Array Bool)(x:ByteArray)(l:ff):Prop where
 r:iH (λa=>a=⟨an,pl,Á⟩) iw l
 vK:listed.getD 10 Ì=Ò->Q x
 I:listed.getD 12 Ì=Ò->l.w.cell? ⟨an,pl,Á⟩=Â (à x)
def EA.C{b l:ff}{Q:ByteArray->Prop}{listed:Array Bool}{x:ByteArray}(h:EA b n j Q listed x l)(e:i≠10)(f:i≠12)(c:b.r ⟨n,j,Á⟩)(d:ß)(r:fI l l.w d):EA b n j Q (listed.setIfInBounds i Ò) x {l with w:=d}:=by
 refine⟨h.r.N (λa q=>by rwa[q]) r,λq=> ?_,λq=> ?_⟩
 .rw[ç Ì e]at q;exact h.vK q
 .rw[ç Ì f]at q;exact(r.N _<|by rw[h.r.C];exact Ã c).trans<|h.I q
section
variable{J:Jd}{iw:ff}{an pl:Nat}{Q:ByteArray->Prop}
def ajB(W:gC iw)(hq:¬iw.q)(ht:d.size=26)(BJ:d[1]?=Â (Æ (Â ⟨an,0,Á⟩) i i))(Hq:d[4]?=Â (À<|Â ⟨j,0,Á⟩))(hO:iw.O j) (J:iw.w.cell? ⟨j,0,Á⟩=Â v) (K:iw.w.cell? ⟨j,1,Á⟩=Â (Ê Î pl)) (M:iw.w.cell? ⟨j,2,Á⟩=Â (À<|Â ⟨n,0,Á⟩)) (X:iw.N ⟨n,2,Á⟩) (p9:iw.w.cell? ⟨n,2,Á⟩=Â z) (B:iw.r ⟨an,pl,Á⟩) (e2:(iw.w.cell? ⟨an,pl,Á⟩).isSome=Ò) (z2:iw.w.frozen? ⟨an,pl,Á⟩=Ì) (rO:pl<i) (R2:∀l,iH (λa=>a=⟨an,pl,Á⟩) iw l->∀t lX,fl Ä Ì (λP S=>P.d=l.d/\∃T,S=G (t.finish<|à T) lX/\Q T) (mo l)<|G (Ă Ä 67 #[z,v] Ğ)<|t::lX) (md:ý) (listed:Array Bool) (a:ŏ) (l:ff) (b:Nat) (rest:List Nat) (hI:II vO d (re j n an i pl v z) (EA iw an pl Q) listed a l) (p:b∈Û md vO listed): fl Ä Ì (λP S=>∃I,S=G ((base 51).at I<|Ñ vO rest::L) qX/\II vO d (re j n an i pl v z) (EA iw an pl Q) (listed.setIfInBounds b Ò) I P) l (G ((base 51).at a<|Ñ vO (b::rest)::L) qX):=by
 let⟨x,m,s⟩:=hI;have E:uH vO d.size=Ò:=by rw[ht];decide
 have ZA:=RG p;have gV:=Ei p;have F:=s.r.fA;have H:¬l.q:=by rwa[s.r.q]
 have V:∀y:â,y=⟨an,pl,Á⟩->iw.r y:=λy ha=>by rwa[ha]
 have mq:a.tmps[1]?=Â (Æ (Â ⟨an,0,Á⟩) i i):=(m.C A).trans BJ;have Y:a.tmps[4]?=Â (À<|Â ⟨j,0,Á⟩):=(m.C A).trans Hq;have t:∀c g,iw.w.cell? ⟨j,c,Á⟩=Â g->ic l ⟨j,c,Á⟩/\l.w.cell? ⟨j,c,Á⟩=Â g:=λc g h=>⟨Ã<|Ã<|s.r.O j hO,by rwa[gO<|s.r.r j<|Ã hO]⟩;have RN:¬((⟨n,2,Á⟩:â)=⟨an,pl,Á⟩):=λq=>W.Y _ B<|q▸X;have N:ic l ⟨n,2,Á⟩/\l.w.cell? ⟨n,2,Á⟩=Â z:=⟨Ç (Ç<|by rwa[s.r.c]),by rwa[s.r.e _ (Ç X) RN]⟩;have RO:(pl:Int)<(i:Int):=Z
 have kq:vO.size=13:=A
 rw[kq]at gV;match b,gV with
 |0,_=>
  refine iu (o:=Hm) E m U U p (by k_ne) F H (λk r=> ?_) (λk r e u=> ?_)<|s.C A A B
  .simp only[re,Hm];go_simp
  .simp[go_sem,Hm,mq]at u
 |1,_=>
  refine iu (o:=Hn) E m U U p (by k_ne) F H (λk r=> ?_) (λk r e u=> ?_)<|s.C A A B
  .simp only[re,Hn];go_simp
  .simp[go_sem,Hn,Y]at u
 |2,_=>
  have RR:a.tmps[15]?=Â (À<|Â ⟨j,1,Á⟩):=m.r 1 Hn 15 U (im (o:=Eu) p U U) U;refine iu (o:=Eu) E m U U p (by k_ne) F H (λk r=> ?_) (λk r e u=> ?_)<|s.C A A B
  .have D:k.cell? ⟨j,1,Á⟩=Â (Ê Î pl):=((t 1 _ K).1.r r).trans (t 1 _ K).2;simp only[re,Eu];go_simp
  .have D:k.cell? ⟨j,1,Á⟩=Â (Ê Î pl):=((t 1 _ K).1.r r).trans (t 1 _ K).2;have I:e=⟨û ⟨j,1,Á⟩,Ì,Ì⟩:=by simp[go_sem,Eu,D,RR]at u;exact u
   subst I;exact(t 1 _ K).1.rd
 |3,_=>
  refine iu (o:=Ho) E m U U p (by k_ne) F H (λk r=> ?_) (λk r e u=> ?_)<|s.C A A B
  .simp only[re,Ho];go_simp
  .simp[go_sem,Ho,Y]at u
 |4,_=>
  have RU:a.tmps[17]?=Â (À<|Â ⟨j,2,Á⟩):=m.r 3 Ho 17 U (im (o:=Ev) p U U) U;refine iu (o:=Ev) E m U U p (by k_ne) F H (λk r=> ?_) (λk r e u=> ?_)<|s.C A A B
  .have D:k.cell? ⟨j,2,Á⟩=Â (À<|Â ⟨n,0,Á⟩):=((t 2 _ M).1.r r).trans (t 2 _ M).2;simp only[re,Ev];go_simp
  .have D:k.cell? ⟨j,2,Á⟩=Â (À<|Â ⟨n,0,Á⟩):=((t 2 _ M).1.r r).trans (t 2 _ M).2;have I:e=⟨û ⟨j,2,Á⟩,Ì,Ì⟩:=by simp[go_sem,Ev,D,RU]at u;exact u
   subst I;exact(t 2 _ M).1.rd
 |5,_=>
  have R3:a.tmps[18]?=Â (À<|Â ⟨n,0,Á⟩):=m.r 4 Ev 18 U (im (o:=Ew) p U U) U;refine iu (o:=Ew) E m U U p (by k_ne) F H (λk r=> ?_) (λk r e u=> ?_)<|s.C A A B
  .simp only[re,Ew];go_simp
  .simp[go_sem,Ew,R3]at u
 |6,_=>
  have h19:a.tmps[19]?=Â (À<|Â ⟨n,0,Á⟩):=m.r 5 Ew 19 U (im (o:=Ex) p U U) U;refine iu (o:=Ex) E m U U p (by k_ne) F H (λk r=> ?_) (λk r e u=> ?_)<|s.C A A B
  .simp only[re,Ex];go_simp
  .simp[go_sem,Ex,h19]at u
 |7,_=>
  have Lb:a.tmps[20]?=Â (À<|Â ⟨n,2,Á⟩):=m.r 6 Ex 20 U (im (o:=Ey) p U U) U;refine iu (o:=Ey) E m U U p (by k_ne) F H (λk r=> ?_) (λk r e u=> ?_)<|s.C A A B
  .have D:k.cell? ⟨n,2,Á⟩=Â (z):=(N.1.r r).trans N.2;simp only[re,Ey];go_simp
  .have D:k.cell? ⟨n,2,Á⟩=Â (z):=(N.1.r r).trans N.2;have I:e=⟨û ⟨n,2,Á⟩,Ì,Ì⟩:=by simp[go_sem,Ey,D,Lb]at u;exact u
   subst I;exact N.1.rd
 |8,_=>
  refine iu (o:=Hp) E m U U p (by k_ne) F H (λk r=> ?_) (λk r e u=> ?_)<|s.C A A B
  .simp only[re,Hp];go_simp
  .simp[go_sem,Hp,Y]at u
 |9,_=>
  have Hi:a.tmps[22]?=Â (À<|Â ⟨j,0,Á⟩):=m.r 8 Hp 22 U (im (o:=Ez) p U U) U;refine iu (o:=Ez) E m U U p (by k_ne) F H (λk r=> ?_) (λk r e u=> ?_)<|s.C A A B
  .have D:k.cell? ⟨j,0,Á⟩=Â (v):=((t 0 _ J).1.r r).trans (t 0 _ J).2;simp only[re,Ez];go_simp
  .have D:k.cell? ⟨j,0,Á⟩=Â (v):=((t 0 _ J).1.r r).trans (t 0 _ J).2;have I:e=⟨û ⟨j,0,Á⟩,Ì,Ì⟩:=by simp[go_sem,Ez,D,Hi]at u;exact u
   subst I;exact(t 0 _ J).1.rd
 |10,_=>
  have R4:a.tmps[21]?=Â (z):=m.r 7 Ey 21 U (im (o:=BO) p U U) U;have h23:a.tmps[23]?=Â (v):=m.r 9 Ez 23 U (im (o:=BO) p U U) U;refine Zu (o:=BO) E m U U p (by k_ne) F (f:=67) (args:=#[z,v]) (λw=>by simp only[BO];go_simp) (λw=>ł (o:=BO) U Tryz.func67 U U #[]) λk r=> ?_;have I:=s.r.N V r;refine((R2 _ I _ _).mo<|I.G W).fT ?_;rintro P S ⟨y,⟨hy0,T,rfl,hQ⟩,rfl,hA,Zx,ajo,ajp⟩;refine⟨T,U,⟨I.RH V hA hy0,λ_=>hQ,λq=> ?_⟩,λc hj=> ?_⟩
  .rw[ç Ì A]at q;exact absurd (m.I (o:=BQ) U q U)<|xy ZA
  .match c,hj with
   |10,hj=>exact absurd hj<|xy ZA
   |0,_|1,_|2,_|3,_|4,_|5,_|6,_|7,_|8,_|9,_|11,_|12,_|n+13,_=>rfl
 |11,_=>
  have I:a.tmps[14]?=Â (Æ (Â ⟨an,0,Á⟩) i i):=m.r 0 Hm 14 U (im (o:=BP) p U U) U;have h16:a.tmps[16]?=Â (Ê Î pl):=m.r 2 Eu 16 U (im (o:=BP) p U U) U;refine iu (o:=BP) E m U U p (by k_ne) F H (λk r=> ?_) (λk r e u=> ?_)<|s.C A A B
  .simp only[re,BP];go_simp
  .simp[go_sem,BP,rO,RO,I,h16]at u
 |12,_=>
  have h25:a.tmps[25]?=Â (À<|Â ⟨an,pl,Á⟩):=m.r 11 BP 25 U (im (o:=BQ) p U U) U;have K6:a.tmps[24]?=Â (à x):=m.r 10 BO 24 U (im (o:=BQ) p U U) U;have I:(l.w.cell? ⟨an,pl,Á⟩).isSome=Ò:=s.r.g _ U e2;have BK:l.w.frozen? ⟨an,pl,Á⟩=Ì:=(s.r.S _<|Ã B).trans z2;have lO:qk l ⟨an,pl,Á⟩:=Ç (by rwa[s.r.I]);refine RJ (o:=BQ) (y:=⟨an,pl,Á⟩) (v:=à x) E m U U U p (by k_ne) F H U lO I BK (λw D e=> ?_) (λw D e=> ?_) λk r=> ?_
  .let⟨u,hu⟩:=Ô.1 D;simp only[BQ];go_simp
  .let⟨u,hu⟩:=Ô.1 D;simp[go_sem,BQ,h25,K6,á _ _ _ _ _ _ (show Ø (à x)=Ò from rfl),hu,e]
  .have hA:=s.r.qK W V (x:=⟨an,pl,Á⟩) (v:=à x) U U I;refine⟨hA.N V ⟨r.r,r.I,r.N,r.Y,r.S⟩,λq=> ?_,λq=> ?_⟩
   .rw[ç Ì A]at q;exact s.vK q
   .exact(r.N _<|by rw[s.r.C];exact Ã B).trans<|AZ (Ô.1 I).choose_spec
 |n+13,h=>exact absurd h Z
end
def zG:Array å:=#[⟨Â 6,.recv 165 (Ù 5) Ò,0, "work.go:63",#[],Á⟩,⟨Â 7,Ő (Ù 6) 1,4, "work.go:63",#[⟨0,Ü⟩],Á⟩]
def ZB:Array å:=#[⟨Â 8,Ő (Ù 6) 0,155, "work.go:63",#[],Á⟩,⟨Â 4,.alloc 155,0, "work.go:63",#[],Á⟩,⟨Á,š 155 (Ù 4)<|Ù 8,0, "work.go:63",#[⟨1,Ü⟩,⟨0,Ü⟩,⟨0,Í⟩,⟨1,Í⟩],Á⟩]
def R5:Array å:=#[⟨Â 9,ð 155 (Ù 4) 2,0, "work.go:64",#[],Á⟩,⟨Â 10,ć 86<|Ù 9,86, "work.go:64",#[⟨0,Ü⟩],Á⟩,⟨Â 11,ĩ<|Ù 10,0, "work.go:64",#[⟨1,Ü⟩],Á⟩,⟨Â 12,ð 105 (Ù 11) 0,0, "work.go:64",#[⟨2,Ü⟩],Á⟩,⟨Â 13,Ě {callee:=ĕ<|ĸ 53,args:=#[Ù 12],argTypes:=#[97]},0, "work.go:64",#[⟨3,Ü⟩],Á⟩]
def EB:Ę:=((Ť (Ù 7) ť<|Ŧ 0).seq<|İ 1<|(ä 2 ZB Ì).seq<|(ä 3 R5 Ì).seq<|ä 4 vO Ò)
def BR:Ę:=(ä 1 zG Ì).seq EB
def ajC:Array å:=#[⟨Â 2,ć 101<|Ù 0,101, "work.go:30",#[],Á⟩,
 ⟨Â 3,ć 25<|Ù 1,25, "work.go:30",#[],Á⟩,
 ⟨Â 4,Ě {callee:=ĕ (ĸ 51),args:=#[Ù 2,Ù 3],argTypes:=#[165,25]},0, "work.go:30",#[⟨0,Ü⟩,⟨1,Ü⟩],Á⟩]
def Hr(a b c d e:Ï):é:=(base 50).at ⟨#[a,b,c,d,e],[]⟩ [Ñ ajC [2]]
def ZC(t:Array Ï)(a:List é):Ý:=G ((base 51).at ⟨t,[]⟩ [ö BR,ą BR,ô 0]) a
def zH(t:Array Ï)(a:List é):Ý:=G ((base 51).at ⟨t,[]⟩ [Ñ zG [0,1],ö EB,ą BR,ô 0]) a
def Lc(t:Array Ï)(a:List é):Ý:=G ((base 51).at ⟨t,[]⟩ [Ñ R5 [],ö<|ä 4 vO Ò,ô 1,ą BR,ô 0]) a
def R6(t:Array Ï)(a:List é):Ý:=G ((base 51).at ⟨t,[]⟩ [Ñ zG [1],ö EB,ą BR,ô 0]) a
def ZD(t:Array Ï)(v:Ï)(a:List é):({zH t a with frame:=(zH t a).frame.finish v}:Ý)=R6 (t.setIfInBounds 6 v) a:=by have:(zH t a).frame.finish v=(base 51).at (Ο ⟨t,[]⟩ (Â 6) v) [Ñ zG [1],ö EB,ą BR,ô 0]:=Ģ _ _ _ _ _ _ _;rw[this];rfl
def zT:Ï:=Đ #[À Á,Ê Î 0,À Á,À Á]
structure QT(an N ch:Nat)(t:Array Ï):Prop where
 r:t.size=26
 C:t[1]?=Â (Æ (Â ⟨an,0,Á⟩) N N)
 I:t[5]?=Â (è<|Â ch)
def ajD(t:Array Ï)(h:t.size=26):∃a b c d e f g i j k l m n o p q r s u v w x y z B C:Ï,t=#[a,b,c,d,e,f,g,i,j,k,l,m,n,o,p,q,r,s,u,v,w,x,y,z,B,C]:=by obtain⟨_,rfl⟩:=uJ t h;exact⟨_,_,_,_,_,_,_,_,_,_,_,_,_,_,_,_,_,_,_,_,_,_,_,_,_,_,U⟩
section
variable{Ψ:ß->Prop}{J u:Jd}{l:ff}{t:Array Ï}{ch an N:Nat}{a:Option â}{Q:ByteArray->Prop}{o p r s c f:Ï}{τ:ff->ff}
def ZE(a:kr l)(b:fl Ä Ì J l (zH t qX)):fl Ä Ì J l (ZC t qX):=by apply fN (n:=5) a;have hF:=trivial;simp only[ZC,BR];w_go fu;u_c ĺ fu hF;exact Ë λ_ _=>b
def ajE(a:kr l)(d:¬l.q)(e:ic l ⟨k,0,Á⟩)(g:ic l ⟨b,0,Á⟩)(i:ic l ⟨n,0,Á⟩)(j:l.w.cell? ⟨k,0,Á⟩=Â (Ĉ (ù 50) #[] #[À<|Â ⟨b,0,Á⟩,À<|Â ⟨n,0,Á⟩]))(u:l.w.cell? ⟨b,0,Á⟩=Â (è<|Â ch))(v:l.w.cell? ⟨n,0,Á⟩=Â (Æ (Â ⟨an,0,Á⟩) N N)) (y:∀t o p r s x z jQ c f,QT an N ch t->fl Ä Ì J l (zH t [Hr x z jQ c f,zF m o p r s,n9 Ä])): fl Ä Ì J l (born Ä<|pI 63 #[À<|Â ⟨m,0,Á⟩,À<|Â ⟨k,0,Á⟩] #[]):=by
 apply fN (n:=30) a;have hF:=trivial;u_c (Zm Ů fS U) fu hF;walk_nrmf Κ;iterate 3 w_go fu
 u_c (Zk U U (by k_ne) U U) fu hF
 walk_nrm;repeat w_go fu
 refine Ë λ_ _=> ?_;apply o5 U U (by k_ne) a d e j (λw h=>by go_simp) (λw h=>by simp[go_sem,h]);walk_nrm;apply fN (n:=30) a;u_c (Zl U U (by k_ne) U U ű fS U) fu hF;walk_nrmf Tryz.f50;w_go fu;refine Ë λ_ _=> ?_;apply o5 U U (by k_ne) a d g u (λw h=>by go_simp) (λw h=>by simp[go_sem,h]);walk_nrm;apply o5 U U (by k_ne) a d i v (λw h=>by go_simp) (λw h=>by simp[go_sem,h]);walk_nrm;apply fN (n:=30) a;u_call Ų fS Tryz.f51 fu hF;iterate 6 w_go fu
 refine Ë λ_ _=> ?_;exact ZE a<|y _ _ _ _ _ _ _ _ _ _ ⟨U,U,U⟩
def ajF{Y:Ï}(G:gC l)(M:¬l.q)(P:l.d=0)(hT:QT an N ch t)(hB:60<=i)(ajG:Y=Đ #[À a,Ê Î j7,À<|Â ⟨j9,0,Á⟩,À O])(Q:l.K ⟨j9,0,Á⟩/\l.K ⟨j9,1,Á⟩)(Hs:nJ j9 l.w) (R7:l.K ⟨j,0,Á⟩/\l.K ⟨j,1,Á⟩) (hsa:nJ j l.w) (hs:ic l ⟨m,0,Á⟩) (hc:l.w.cell? ⟨m,0,Á⟩=Â (À<|Â ⟨j,0,Á⟩)) (ajH:∀H k t',iH fh l H->H.d=0->H.O k->H.w.cell? ⟨k,0,Á⟩=Â (À a)->H.w.cell? ⟨k,1,Á⟩=Â (Ê Î j7)->H.w.cell? ⟨k,2,Á⟩=Â (À<|Â ⟨j9,0,Á⟩)->QT an N ch t'->t'[4]?=Â (À<|Â ⟨k,0,Á⟩)->u H (Lc t' [Hr x z jQ c f,zF m o p r s,n9 Ä])): xj Ä Ì ch zT (λb=>match b with
  |some v=>λl g=>v=Y->qS Ä Ì i j9 u .jc l g
  |none=>λl g=>yV Ä Ì j (Eg Ä) (kF l) g) l (zH t [Hr x z jQ c f,zF m o p r s,n9 Ä]):=by
 obtain⟨y0,y1,y2,y3,y4,y5,y6,y7,y8,y9,xB,zD,xC,rY,td,qZ,vL,vM,uK,uL,uM,tf,tg,tj,rT,s6,rfl⟩:=ajD t hT.r;obtain rfl:y1=Æ (Â ⟨an,0,Á⟩) N N:=by simpa using hT.C
 obtain rfl:y5=è (Â ch):=by simpa using hT.I
 have hF:=trivial;refine⟨U,U,λD=> ?_,λb=> ?_⟩
 .refine(Ż (cases:=#[rcase ch zT]) (blocking:=Ò) (shape:=.recv Ò) (w':=D) rfl rfl (by k_ne) ?_).trans ?_
  .simp[go_sem,zG,ĉ,rcase,zT]
  .simp[listed,go_sem,zG,ĉ,Ī];rfl
 cases b with
 |none=>
  rw[ZD];simp only[R6,EB,zG,Option.getD_none,ı,ē,Ĳ,ĳ];apply fN (n:=30) G.r;iterate 6 w_go fu
  u_leave0 Ų fu hF
  iterate 2 w_go fu
  u_leave0 ű fu hF
  refine Ë λ_ _=> ?_;exact Zw (Ψ:=λ_=>True) R7 ⟨Ã R7.1,Ã R7.2,λ_ _ _ _ _ _ _ _=>trivial⟩ ⟨G.r,hsa,trivial⟩ P M hs hc
 |some v=>
  by_cases hv:v=Y
  .subst hv;subst ajG;apply fl.fT λl g h _=>h;rw[ZD];simp only[R6,EB,zG,Ń,Option.isSome_some,ē,Ĳ,ĳ];apply fN (n:=30) G.r;iterate 7 w_go fu
   u_c ĺ fu hF
   simp only[ZB,Ļ,ń,ŋ,ś,č,ã,List.range.loop];w_go fu;refine Ë λ_ _=> ?_;have rZ:∀y:â,False->l.r y:=λy ha=>ha.elim;refine Hj (ob:=É #[À Á,Ê Î 0,À Á,À Á] 155) U U (by k_ne) G.r M (λw=>by go_simp) (λw=>by simp[go_sem]) λD kI=> ?_;walk_nrm;have S:iH fh l (gK l D<|É #[À Á,Ê Î 0,À Á,À Á] 155):=K8 G rZ kI;have mq:(gK l D<|É #[À Á,Ê Î 0,À Á,À Á] 155).w.heap[D.heap.size]?=Â (É #[À Á,Ê Î 0,À Á,À Á] 155):=ng;have tq:=kI.r;have I:(gK l D<|É #[À Á,Ê Î 0,À Á,À Á] 155).O D.heap.size:=Ç U;generalize gK l D (É #[À Á,Ê Î 0,À Á,À Á] 155)=l₁ at S mq I|-;generalize D.heap.size=k at mq I tq|-;refine vH U U (by k_ne) λC oD=> ?_;have J:=(oD.I k<|Ã I).trans mq;have EC:C.cell? ⟨k,0,Á⟩=Â (À Á):=by simp[Ö,J]
   have zu:C.cell? ⟨k,1,Á⟩=Â (Ê Î 0):=by simp[Ö,J]
   have rf:C.cell? ⟨k,2,Á⟩=Â (À Á):=by simp[Ö,J]
   have uO:C.cell? ⟨k,3,Á⟩=Â (À Á):=by simp[Ö,J]
   have hz:∀g,C.frozen? ⟨k,g,Á⟩=Ì:=λg=>by simp[î,J]
   go_simp;refine⟨{l₁ with w:=iY C k (À a) (Ê Î j7) (À<|Â ⟨j9,0,Á⟩) (À O)},K9 (mM S.fA oD) (by rwa[S.q]) I xA (λg F=>zy F) ⟨U,U,U⟩ λe L=> ?_,?_⟩
   .have E:=đ L;have B:∀g,qk l₁ ⟨k,g,Á⟩:=λg=>Ã I;simp[go_sem,á _ _ _ _ _ _ (show Ø (À a)=Ò from rfl),á _ _ _ _ _ _ (show Ø (À<|Â ⟨j9,0,Á⟩)=Ò from rfl),á _ _ _ _ _ _ (show Ø (À O)=Ò from rfl),EC,zu,rf,uO,hz]at E;rcases E with rfl|rfl|rfl|rfl
    .exact(B _).r
    .exact(B _).r
    .exact(B _).r
    .exact(B _).r
   obtain⟨T,V,L,c3⟩:=RV EC zu rf uO;have E:=RY (w':=iY C k (À a) (Ê Î j7) (À<|Â ⟨j9,0,Á⟩)<|À O) G rZ S oD tq xA λg F=>zy F;have W:({l₁ with w:=iY C k (À a) (Ê Î j7) (À<|Â ⟨j9,0,Á⟩) (À O)}:ff).O k:=I;replace T:({l₁ with w:=iY C k (À a) (Ê Î j7) (À<|Â ⟨j9,0,Á⟩) (À O)}:ff).w.cell? ⟨k,0,Á⟩=_:=T;replace V:({l₁ with w:=iY C k (À a) (Ê Î j7) (À<|Â ⟨j9,0,Á⟩) (À O)}:ff).w.cell? ⟨k,1,Á⟩=_:=V;replace L:({l₁ with w:=iY C k (À a) (Ê Î j7) (À<|Â ⟨j9,0,Á⟩) (À O)}:ff).w.cell? ⟨k,2,Á⟩=_:=L;generalize({l₁ with w:=iY C k (À a) (Ê Î j7) (À<|Â ⟨j9,0,Á⟩) (À O)}:ff)=l₂ at T V L E W|-;have X:=E.G G;have qn:¬l₂.q:=by rwa[E.q]
   apply fN (n:=9) X.r;iterate 2 w_go fu
   u_c ĺ fu hF
   simp only[R5,Ļ,ń,ŋ,ś,č,ã,List.range.loop];w_go fu;refine Ë λ_ _=> ?_;apply o5 U U (by k_ne) X.r qn (Ã<|Ã W) L (λw h=>by go_simp) (λw h=>by simp[go_sem,h]);walk_nrm;apply fN (n:=9) X.r;iterate 2 w_go fu
   u_call qY.f_wait (nm_wait Lk) waitFn fu hF
   refine Ë λ_ _=> ?_;have k2:ml (λw=>fI l₂ l₂.w w) l₂ j9:=⟨Ã (by rw[E.K];exact Q.1),Ã (by rw[E.K];exact Q.2),λw D h1 h2 h3 h4 h5 h=>h.fi ⟨h1,h2,h3,h4,h5⟩⟩;have s2:SW (λw=>fI l₂ l₂.w w) l₂ j9 l₂.w:=⟨X.r,⟨E.b _ Q.1 Hs.1,E.b _ Q.2 Hs.2⟩,fI.gd _ _⟩;refine Zi qY hB k2 s2 (E.d.trans P) λD ZF=> ?_;walk_nrm;refine .fD λzt F=> ?_;have B:=E.N rZ<|ZF.2.2.fi ⟨F.r,F.I,F.N,F.Y,F.S⟩;have hdd:=E.d.trans P;have BS:iH fh l ({l₂ with d:=0,w:=zt}:ff):=⟨B.O,B.h,B.Y,B.I,B.c,B.K,B.q,P.symm,B.fA,B.f,B.r,B.e,B.S,B.b,B.g⟩;have rr:=ZF.2.2.fi ⟨F.r,F.I,F.N,F.Y,F.S⟩;have cc:∀g,zt.cell? ⟨k,g,Á⟩=l₂.w.cell? ⟨k,g,Á⟩:=λg=>gO<|rr.I k<|Ã W;exact ajH {l₂ with d:=0,w:=zt} k _ BS U W ((cc 0).trans T) ((cc 1).trans V) ((cc 2).trans L) ⟨U,U,U⟩ U
  .exact .fD λ_ _ e=>absurd e hv
end
section
variable{J:Jd}{l:ff}{t:Array Ï}{Q:ByteArray->Prop}
def qo(f:gC l)(D:¬l.q)(g:QT n i j t)(M:t[4]?=Â (À<|Â ⟨m,0,Á⟩))(N:l.O m) (P:l.w.cell? ⟨m,0,Á⟩=Â (À O)) (S:l.w.cell? ⟨m,1,Á⟩=Â (Ê Î k)) (T:l.w.cell? ⟨m,2,Á⟩=Â (À<|Â ⟨b,0,Á⟩)) (V:l.N ⟨b,2,Á⟩) (W:l.w.cell? ⟨b,2,Á⟩=Â v) (p:l.r ⟨n,k,Á⟩) (X:(l.w.cell? ⟨n,k,Á⟩).isSome=Ò) (Y:l.w.frozen? ⟨n,k,Á⟩=Ì) (rO:k<i) (R2:∀e,iH (λa=>a=⟨n,k,Á⟩) l e->∀E F,fl Ä Ì (λl'' g'=>l''.d=e.d/\∃H,g'=G (E.finish<|à H) F/\Q H) (mo e)<|G (Ă Ä 67 #[v,À O] Ğ)<|E::F) (hJ:∀e x I,iH (λa=>a=⟨n,k,Á⟩) l e->Q x->e.w.cell? ⟨n,k,Á⟩=Â (à x)->QT n i j I->J e (zH I qX)): fl Ä Ì J l (Lc t qX):=by
 have K:∀y:â,y=⟨n,k,Á⟩->l.r y:=λy ha=>by rwa[ha]
 have hF:=trivial;apply fN (n:=3) f.r;simp only[Lc];w_go fu;refine Ë λ_ _=> ?_;refine RE (II vO t (re m b n i k (À O) v)<|EA l n k Q) f.r D (λo h=> ?_) (λs u a l c o z r=>ajB f D g.r g.C M N P S T V W p X Y rO R2 s u a l c o z r) λs u a kB z B C=> ?_
 .refine⟨ByteArray.empty,mZ.G _ _ _,(iH.gd f.r).N K ⟨h.r,h.I,h.N,h.Y,h.S⟩,λq=> ?_,λq=> ?_⟩<;>exact absurd q A
 let⟨x,o,h⟩:=z;have L:∀c∈ã 13,u.getD c Ì=Ò:=by
  cases s
  .exact qm C B (ã 13) [] fS λc r=>by cases r
  .exact qm C B (ã 13) [] fS λc r=>by cases r
  .exact qm C B (ã 13) [] fS λc r=>by cases r
 have s:=h.r.G f;let⟨B,C⟩:=a;obtain rfl:C=[]:=o.M;apply fN (n:=9) s.r;iterate 3 w_go fu
 refine Ë λ_ _=> ?_;refine ZE s.r<|.fD λw₁ r=>(hJ {kB with w:=w₁} x B (h.r.N K r) (h.vK<|L 10 A) ((r.N _<|Ã<|by rwa[h.r.I]).trans<|h.I<|L 12 A) ⟨o.S.trans g.r,((o.C A).trans g.C),((o.C A).trans g.I)⟩)
end
structure gq(X:Nat->Prop)(l l':ff):Prop where
 O:∀j,l.O j->l'.O j
 c:∀j,l'.O j->l.O j\/l.w.heap.size<=j
 S:l'.I=l.I
 Y:l'.r=l.r
 b:l'.N=l.N
 K:l'.K=l.K
 q:l'.q=l.q
 d:l'.d=l.d
 fA:kr l'
 I:l.w.heap.size<=l'.w.heap.size
 r:∀j,l.M j->¬X j->l'.w.heap[j]?=l.w.heap[j]?
 f:∀a,l.C a->l'.w.cell? a=l.w.cell? a
 g:∀a,l.C a->l'.w.frozen? a=l.w.frozen? a
 e:∀a,l.K a->(l.w.cell? a).isSome=Ò->(l'.w.cell? a).isSome=Ò
section
variable{l l' l'':ff}
theorem gq.gd(h:kr l):gq X l l:=⟨λ_ h=>h,λ_ h=>Ã h,U,U,U,U,U,U,h,Ú _,λ_ _ _=>rfl,λ_ _=>rfl,λ_ _=>rfl,λ_ _ h=>h⟩
def gq.C(h:gq X l l'):l'.C=l.C:=by unfold ff.C;rw[h.Y,h.b]
def gq.M(h:gq X l l')(a:l.M b):l'.M b:=a.imp (h.O b)<|by rw[h.S];exact id
def gq.fi(h:gq X l l')(k:gq X l' l''):gq X l l'':=by have e:=h.C;exact⟨λj c=>k.O j<|h.O j c,λj c=>(k.c j c).elim (h.c j) λq=>Ç<|Õ h.I q,k.S.trans h.S,k.Y.trans h.Y,k.b.trans h.b,k.K.trans h.K,k.q.trans h.q,k.d.trans h.d,k.fA,Õ h.I k.I,λj c f=>(k.r j (h.M c) f).trans<|h.r j c f,λa b=>(k.f a<|by rwa[e]).trans<|h.f a b,λa b=>(k.g a<|by rwa[e]).trans<|h.g a b,λa b q=>k.e a (by rwa[h.K])<|h.e a b q⟩
def gq.G(h:gq X l l'){w₁:ß}(r:fI l' l'.w w₁):gq X l {l' with w:=w₁}:= h.fi ⟨λ_ q=>q,λ_ q=>Ã q,U,U,U,U,U,U,mM h.fA r,r.r,λj a _=>r.I j a,r.N,r.Y,r.S⟩
def gq.fT{a:Nat->Prop}(h:gq X l l')(c:∀j,l.M j->X j->a j):gq a l l':=⟨h.O,h.c,h.S,h.Y,h.b,h.K,h.q,h.d,h.fA,h.I,λj b e=>h.r j b λq=>e<|c j b q,h.f,h.g,h.e⟩
def gq.N(h:gq X l l')(s:gC l):gC l' where
 c b hb:=by
  rw[h.S];rcases h.c b hb with q|q
  .exact s.c b q
  .exact λz=>by have:=s.fA b<|Ç z;omega
 Y a ha:=by rw[h.b];exact s.Y a<|by rwa[<-h.Y]
 N a ha hb:=by
  rw[h.C]at ha;rcases hb with q|q
  .rcases h.c _ q with z|z
   .exact s.N a ha<|Ã z
   .have:=s.I a ha;omega
  .rw[h.S]at q;exact s.N a ha<|Ç q
 fA b hb:=by
  rcases hb with q|q
  .exact h.fA b q
  .rw[h.S]at q;exact È (s.fA b<|Ç q) h.I
 I a ha:=by rw[h.C]at ha;exact È (s.I a ha) h.I
 S a ha:=by
  rw[h.K]at ha;let⟨c,d,e⟩:=s.S a ha;refine⟨λq=> ?_,È d h.I,by rwa[h.Y]⟩;rcases q with q|q
  .rcases h.c _ q with z|z
   .exact c<|Ã z
   .omega
  .rw[h.S]at q;exact c<|Ç q
def nh{ob:Ÿ}(s:gC l){w₁:ß}(r:fI l l.w w₁):gq X l (gK l w₁ ob):=by have h:=K8 (E:=fh) (ob:=ob) s (λ_ q=>q.elim) r;exact⟨h.O,h.h,h.Y,h.I,h.c,h.K,h.q,h.d,h.fA,h.f,λj b _=>h.r j b,λa c=>h.e a c id,h.S,h.b⟩
def Ld{w':ß}{p:Nat}(s:gC l)(r:fI l l.w u)(c:l.O p)(g:X p)(d:w'.heap.size=u.heap.size)(b:∀j,j≠p->w'.heap[j]?=u.heap[j]?):gq X l {l with w:=w'}:=by
 have f:∀a:â,l.C a->a.block≠p:=λa h e=>s.N a h<|Ã<|e▸c;refine⟨λ_ q=>q,λ_ q=>Ã q,U,U,U,U,U,U,λj q=> ?_,?_,λj q n=>(b j λe=>n<|e▸g).trans<|r.I j q,λa q=>(gO<|b _<|f a q).trans<|r.N a q,λa q=>(xi<|b _<|f a q).trans<|r.Y a q,λa q z=> ?_⟩
 .show j<w'.heap.size;rw[d];exact È (s.fA j<|Ã q) r.r
 .show l.w.heap.size<=w'.heap.size;rw[d];exact r.r
 .show(w'.cell? a).isSome=Ò;rw[gO (b a.block λe=>(s.S a q).1<|Ã<|e▸c)];exact r.S a q z
end
section
variable{J:Jd}{l:ff}{a:ŏ}{k:List ŷ}{cs:List é}{ob:Ÿ}
def pK{V:Nat->Ï}(c:Q[i]?=Â o)(d:Ė o (ţ Q a.tmps)=Ò)(e:f.kind≠Ź)(g:kr l)(h:¬l.q) (j:∀w,(ĉ a.eval o).run P w=.ok (.value<|V w.heap.size) (w.alloc ob)) (m:∀w,(ĉ a.eval o).events P w #[]=#[]) (n:∀b,fI l l.w b->fl P yQ J (gK l b ob) (G (f.at (a.put o.dst<|V b.heap.size)<|Ñ Q jJ::k) cs)):fl P yQ J l (G (f.at a<|Ñ Q (i::jJ)::k) cs):=by
 refine vH c d e λb r=> ?_;rw[j b];refine⟨_,?_,n b r⟩;have:listed P f.fn a o b=#[]:=by unfold listed;rw[m b,Ī]
 rw[this];exact Zy (mM g r) h
def Ht{p off:Nat}{u:Ï}(m:Q[i]?=Â o)(n:Ė o (ţ Q a.tmps)=Ò)(s:f.kind≠Ź)(t:kr l)(x:¬l.q)(b:l.O p)(d:l.w.cell? ⟨p,off,Á⟩=Â u)(y:l.w.frozen? ⟨p,off,Á⟩=Ì)(z:o.dst=Á) (B:∀w,w.cell? ⟨p,off,Á⟩=Â u->w.frozen? ⟨p,off,Á⟩=Ì->(ĉ a.eval o).run P w=.ok .skip (w.setCell ⟨p,off,Á⟩ v)) (C:∀w,w.cell? ⟨p,off,Á⟩=Â u->w.frozen? ⟨p,off,Á⟩=Ì->(ĉ a.eval o).events P w #[]=#[⟨û ⟨p,off,Á⟩,Ò,Ì⟩]) (D:fl P yQ J {l with w:=l.w.setCell ⟨p,off,Á⟩ v} (G (f.at a<|Ñ Q jJ::k) cs)):fl P yQ J l (G (f.at a<|Ñ Q (i::jJ)::k) cs):=by
 have E:ic l ⟨p,off,Á⟩:=Ã<|Ã b;refine vH m n s λg r=> ?_;have c:=(E.r r).trans d;have j:=(xi<|r.I p<|Ã b).trans y;rw[B g c j];refine⟨_,Zs U (mM t r) x (Ã b) λe h=> ?_,?_⟩
 .have:=đ h;rw[C g c j]at this;have:e=⟨û ⟨p,off,Á⟩,Ò,Ì⟩:=by simpa using this
  subst this;exact qk.r<|Ã b
 .have:(a.put o.dst Å)=a:=by rw[z];rfl
  rw[this];exact D.kg<|zo<|Zr U (by rw[d];rfl) (by rw[c];rfl) r
def ni(l:ff)(w₁ a:ß):ff:={l with O:=λf=>l.O f\/(w₁.heap.size<=f/\f<a.heap.size),w:=a}
def Le(s:gC l){w₁:ß}(r:fI l l.w w₁){a:Option Nat}(d:w₁.grownBy u a)(c:∀k,a=Â k->l.O k/\X k):gq X l (ni l w₁ u):=by
 have i:=r.r;have m:=d.size;have b:∀j,j<l.w.heap.size->Â j≠a->u.heap[j]?=w₁.heap[j]?:=λj o g=>d.block j Z g;have f:∀x:â,l.C x->Â x.block≠a:=λx h e=>s.N x h<|Ã (c _ e.symm).1;refine⟨λ_ q=>Ã q,λj q=>q.imp id λz=>by omega,U,U,U,U,U,U,λj q=> ?_,?_,λj q n=>(b j (s.fA j q) λe=>n (c j e.symm).2).trans<|r.I j q,λx q=>(gO<|b _ (s.I x q)<|f x q).trans<|r.N x q,λx q=>(xi<|b _ (s.I x q)<|f x q).trans<|r.Y x q,λx q z=> ?_⟩
 .show j<u.heap.size;rcases q with q|q
  .have:=s.fA j<|Ã q;omega
  .exact q.2
 .show l.w.heap.size<=u.heap.size;omega
 .show(u.cell? x).isSome=Ò;rw[gO (b x.block (s.S x q).2.1 λe=>(s.S x q).1<|Ã (c _ e.symm).1)];exact r.S x q z
def oc{w₁:ß}{sz:Nat}{xs:List Ï}(h:w.ownsRow i e sz v n xs)(a:∀k,v.ownBlock=Â k->w₁.heap[k]?=w.heap[k]?):w₁.ownsRow i e sz v n xs:=by refine⟨h.1,h.2.imp id ?_⟩;rintro⟨g,b,c,rfl,d,f,j⟩;exact⟨g,b,c,U,d,(a g U).trans f,j⟩
def R8{p:Nat}{u:Ï}(h:w.cell? ⟨p,0,Á⟩=Â u):∀j y,[u][j]?=Â y->w.cell? ⟨p,j,Á⟩=Â y
 |0,_,e=>Ó e▸h
 |_+1,_,e=>by cases e
def ajI{s a:List Ï}(h:P.underlying t=Â (.slice e))(k:P.info? e=Â zJ)(B:zJ.zero=Â z)(l:zJ.size=m)(C:a.length=m)(F:(n+1)*zJ.bytes<=140737488355328)(G:n+1<=œ) (o:w.ownsRow 0 e m v n s) (p:∀j y,a[j]?=Â y->w.cell? ((⟨b,0,Á⟩:â).add j)=Â y) (H:∀u∈a,u.oneCell'=Ò) (d:(Builtin.append_ #[t,t] T #[v,Æ (Â ⟨b,0,Á⟩) 1 i]).run P w=.ok x W):x.ownBlock=v.ownBlock\/x.ownBlock=Â w.heap.size:=by
 have q:a.length=1*zJ.size:=by rw[l,C];omega
 have L:n+1<=9223372036854775807:=by simp only[œ]at G;omega
 rcases o.2 with⟨rfl,rfl⟩|⟨g,r,D,rfl,_,I,M,N,J,O⟩
 .have f:=run_append_nil (P:=P) w t T e zJ z h k B ⟨b,0,Á⟩ 1 i a q p Z Z Z;rw[f]at d;cases d;exact Ç U
 .by_cases E:n+1<=r
  .have K:n*zJ.size+a.length<=D.size:=by
    rw[J,l,C,show n*m+m=(n+1)*m by rw[Nat.add_mul];omega];exact Nat.mul_le_mul_right _ E
   have f:=run_append_room (P:=P) w t T e zJ h k g n r D I ⟨b,0,Á⟩ 1 i a q p H E K;rw[f]at d;cases d;exact Ã U
  .have f:=run_append_grow (P:=P) w t T e zJ z h k B ⟨g,0,Á⟩ n r s (by rw[l];exact o.1) (o.cells (g:=g) U) ⟨b,0,Á⟩ 1 i a q p Z Z<|growslice_fits Z F;rw[f]at d;cases d;exact Ç U
theorem Hu{x:Ĥ}{inf:Ž}{c px sz:Nat}{xs us:List Ï}(ho:Q[i]?=Â o)(hw:Ė o (ţ Q a.tmps)=Ò)(hk:f.kind≠Ź)(sn:gC l)(hq:¬l.q) (V:o.op=Ě {callee:=Ŕ .append,args:=#[qQ,x],argTypes:=#[t,t]}) (W:a.eval qQ=v) (X:a.eval x=Æ (Â ⟨px,0,Á⟩) 1 c) (E:P.underlying t=Â (.slice e)) (F:P.info? e=Â inf) (H:inf.zero=Â z) (I:inf.size=sz) (kq:0<sz) (Lf:us.length=sz) (se:z.cells.size=sz) (K:(n+1)*inf.bytes<=140737488355328) (L:n+1<=œ) (lO:l.w.ownsRow 0 e sz v n xs) (C:∀k,v.ownBlock=Â k->l.O k) (ZG:l.O px) (hu:∀j u,us[j]?=Â u->l.w.cell? ⟨px,j,Á⟩=Â u) (d:∀u∈us,u.oneCell'=Ò) (hn:∀b B g,fI l l.w b->g.ownsRow 0 e sz B (n+1) (xs++us)->b.grownBy g v.ownBlock->(∀k,B.ownBlock=Â k->(ni l b g).O k)->(B.ownBlock=v.ownBlock\/B.ownBlock=Â b.heap.size)->fl P yQ J (ni l b g) (G (f.at (a.put o.dst B)<|Ñ Q jJ::k) cs)): fl P yQ J l (G (f.at a<|Ñ Q (i::jJ)::k) cs):=by
 refine vH ho hw hk λb r=> ?_;have hM:∀k,l.O k->b.heap[k]?=l.w.heap[k]?:=λk q=>r.I k<|Ã q;have M:=oc lO (w₁:=b) λk q=>hM k<|C k q;have N:∀j w,us[j]?=Â w->b.cell? ((⟨px,0,Á⟩:â).add j)=Â w:=λj w h=>by rw[ğ,č];grind [gO]
 have Y:us.length=1*sz:=Z
 let⟨B,g,iN,hown',p,zE⟩:=run_append_own (P:=P) b 0 t o.type e inf z sz inf.bytes E F H I U se kq v n xs M ⟨px,0,Á⟩ 1 c us Y N d L K<|ă _;have uP:=ajI E F H I Lf K L M N d iN;refine uponK_append qQ x t V W X iN ⟨ni l b g,?_,hn b B g r hown' p (λk q=> ?_) uP⟩
 .have he:∀D∈listed P f.fn a o b,xx (ni l b g) D:=λD S=>by
   have h2:=đ S;rw[events_append_op qQ x t V W X]at h2;rcases(events_append_where (P:=P) b 0 t o.type e inf z sz inf.bytes E F H I rfl v n xs M ⟨px,0,Á⟩ 1 c us Y N d L K) D h2 with⟨ad,T,y⟩|⟨m,rfl,ajJ⟩
   .refine⟨Ã ⟨ad,T,Ã ?_⟩,by rw[T];simp,by rw[T];simp⟩;rcases y with⟨_,y⟩|y
    .exact Ã<|by rwa[y]
    .exact Ã<|C _ y.symm
   .have uo:m=.noRoom:=ajJ;subst uo;exact⟨Ç<|Ã U,fq,fq⟩
  refine⟨p.size,λj q=>q.imp id λz=>z.1,λj q=> ?_,U,U,U,U,λj T d _=>p.block j T λe=>d<|C j e.symm,λy m d _=>gO (p.block _ m λe=>d<|C _ e.symm),λy m d=>xh (p.block _ m λe=>d<|C _ e.symm),p.os,p.output,p.tape,λD S=>(he D S).1,(K2 he _).symm,U,λq=>absurd q hq,U⟩;rcases q with q|q
  .exact È ((mM sn.r r) j q) p.size
  .exact q.2
 .have y:k<g.heap.size:=(hown'.lt k q).2;rcases uP with m|m
  .exact Ã<|C k<|by rwa[<-m]
  .rw[m]at q;obtain rfl:=Ó q;exact Ç ⟨Ú _,y⟩
end
def ZH:Array å:=#[⟨Â 25,Ş (ù 48) #[] #[Ù 9,Ù 8],1, "work.go:24",#[],Á⟩,⟨Â 26,Ě {callee:=ĕ<|ĸ 47,args:=#[Ù 12,Ù 25],argTypes:=#[97,1]},0, "work.go:24",#[⟨0,Ü⟩],Á⟩]
def ZI:Array å:=#[⟨Â 13,ŧ<|Ũ<|Æ Á 0 0,100, "work.go:25",#[],Á⟩]
def ZJ:Array å:=#[⟨Â 27,ę<|Ù 2,3, "work.go:26",#[],Á⟩,⟨Â 28,ę<|Ũ<|Ê Î 0,3, "work.go:26",#[],Á⟩]
def R9:Array å:=#[⟨Â 29,Λ .lss 3 (Ù 28) (Ù 27) 3,4, "work.go:26",#[],Á⟩]
def ZK:Array å:=#[⟨Â 30,ę<|Ù 10,85, "work.go:28",#[],Á⟩,⟨Â 31,Ě {callee:=Ŕ .len,args:=#[Ù 30],argTypes:=#[85]},3, "work.go:28",#[⟨0,Ü⟩],Á⟩,⟨Â 32,.makeChan 101<|Ù 31,101, "work.go:28",#[⟨1,Ü⟩],Á⟩,⟨Â 14,.alloc 101,0, "work.go:28",#[],Á⟩,⟨Á,š 101 (Ù 14)<|Ù 32,0, "work.go:28",#[⟨3,Ü⟩,⟨2,Ü⟩,⟨0,Í⟩,⟨1,Í⟩,⟨2,Í⟩,⟨3,Í⟩],Á⟩]
def ZL:Array å:=#[⟨Â 33,ę<|Ù 13,100, "work.go:29",#[],Á⟩,⟨Â 34,ć 101<|Ù 14,101, "work.go:29",#[],Á⟩,⟨Â 35,.buildSlice 100 1 #[(0,Ù 34)],100, "work.go:29",#[⟨1,Ü⟩],Á⟩,⟨Â 36,Ě {callee:=Ŕ .append,args:=#[Ù 33,Ù 35],argTypes:=#[100,100]},100, "work.go:29",#[⟨0,Ü⟩,⟨2,Ü⟩],Á⟩,⟨Â 13,ŧ<|Ù 36,100, "work.go:29",#[⟨3,Ü⟩,⟨3,Ţ⟩,⟨0,Í⟩,⟨1,Í⟩,⟨2,Í⟩,⟨3,Í⟩],Á⟩]
def Lg:Array å:=#[⟨Â 37,Ş (ù 50) #[] #[Ù 14,Ù 8],1, "work.go:30",#[],Á⟩,⟨Â 38,Ě {callee:=ĕ<|ĸ 47,args:=#[Ù 12,Ù 37],argTypes:=#[97,1]},0, "work.go:30",#[⟨0,Ü⟩],Á⟩]
def Sb:Array å:=#[⟨Â 39,Λ .add 3 (Ù 28) (Ũ<|Ê Î 1) 3,3, "work.go:26",#[],Á⟩,⟨Â 28,ę<|Ù 39,3, "work.go:26",#[⟨0,Ü⟩],Á⟩]
def Lh:Array å:=#[⟨Â 40,ę<|Ù 10,85, "work.go:32",#[],Á⟩,⟨Â 41,ę<|Ù 13,100, "work.go:32",#[],Á⟩,⟨Â 42,Ě {callee:=ĕ<|ĸ 52,args:=#[Ù 40,Ù 41],argTypes:=#[85,100]},0, "work.go:32",#[⟨0,Ü⟩,⟨1,Ü⟩],Á⟩]
def Li:Array å:=#[⟨Â 43,Ě {callee:=ĕ<|ĸ 53,args:=#[Ù 12],argTypes:=#[97]},0, "work.go:33",#[],Á⟩]
def Hv:å:=⟨Â 44,ć 25<|Ù 8,25, "work.go:34",#[],Á⟩
def Hw:å:=⟨Â 45,ę<|Ù 11,86, "work.go:34",#[{on:=5,ground:=õ Ð}],Á⟩
def Hx:å:=⟨Â 46,ĩ<|Ù 45,0, "work.go:34",#[⟨1,Ü⟩,{on:=5,ground:=õ Ð}],Á⟩
def Hz:å:=⟨Â 47,ð 105 (Ù 46) 1,0, "work.go:34",#[⟨2,Ü⟩,{on:=5,ground:=õ Ð}],Á⟩
def HA:å:=⟨Â 48,ć 65<|Ù 47,65, "work.go:34",#[⟨3,Ü⟩,{on:=5,ground:=õ Ð}],Á⟩
def HC:å:=⟨Â 6,ŧ<|Ù 44,25, "work.go:34",#[⟨0,Ü⟩,⟨0,Í⟩,{on:=1,ground:=Þ Ð},{on:=2,ground:=Þ Ð},{on:=3,ground:=Þ Ð},{on:=4,ground:=Þ Ð}],Á⟩
def HF:å:=⟨Â 7,ŧ<|Ù 48,65, "work.go:34",#[⟨4,Ü⟩,⟨5,Ţ⟩,⟨0,Í⟩,⟨1,Í⟩,⟨2,Í⟩,⟨3,Í⟩,⟨4,Í⟩,⟨5,Í⟩],Á⟩
def xF:Array å:=#[Hv,Hw,Hx,Hz,HA,HC,HF]
def Lj:Ę:=(ä 14 xF Ò).seq Ρ
def Ll:Ę:=(ä 12 Lh Ì).seq<|(ä 13 Li Ì).seq Lj
def ED:Ę:=(ä 7 R9 Ì).seq<|(Ť (Ù 29) ť<|Ŧ 0).seq<|(İ 1<|(ä 8 ZK Ì).seq<|(ä 9 ZL Ì).seq<|ä 10 Lg Ì).seq<|ä 11 Sb Ì
def sA:Ę:=(ä 5 ZI Ì).seq<|((ä 6 ZJ Ì).seq<|İ 0 ED.loop).seq Ll
def BT(t:Array Ï)(a:List é):Ý:=G ((base 37).at ⟨t,[]⟩ [ö ED,ą ED,ô 0,ö Ll]) a
def EE(t:Array Ï):é:=(base 37).at ⟨t,[]⟩ [Ñ ZH [1],ö sA]
def Lm(t:Array Ï):é:=(base 37).at ⟨t,[]⟩ [Ñ Lg [1],ô 1,ö<|ä 11 Sb Ì,ą ED,ô 0,ö Ll]
def HG:Array å:=#[⟨Â 6,Ş (ù 63) #[] #[Ù 2,Ù 3],1, "waitgroup.go:238",#[],Á⟩,
 ⟨Á,.go {callee:=ĕ (Ù 6),args:=#[],argTypes:=#[]},0, "waitgroup.go:238",#[⟨0,Ü⟩],Á⟩]
def tG(c d e f:Ï)(a b:Nat):Array Ï:=#[c,d,À<|Â ⟨a,0,Á⟩,À<|Â ⟨b,0,Á⟩,e,f,Ĉ (ù 63) #[] #[À<|Â ⟨a,0,Á⟩,À<|Â ⟨b,0,Á⟩]]
def BU(a b c d:Ï)(e f:Nat)(g:List é):Ý:=G ((base 47).at ⟨tG a b c d e f,[]⟩ [Ñ HG [1]]) g
def HJ(a b c d:Ï)(e f:Nat)(g:List é):Ý:=G ((base 47).at ⟨tG a b c d e f,[]⟩ [Ñ HG []]) g
def ZM(c e f g:Ï)(a b:Nat)(h:List é)(w:ß):stepG Ä Ò (BU c e f g a b h) w=.spawn (HJ c e f g a b h) (born Ä<|pI 63 #[À<|Â ⟨a,0,Á⟩,À<|Â ⟨b,0,Á⟩] #[]) w #[]:=by
 refine(stepG_spawn (d:=pI 63 #[À<|Â ⟨a,0,Á⟩,À<|Â ⟨b,0,Á⟩] #[]) (w':=w) U U (by k_ne) ?_ U).trans ?_
 .simp[HG,ĉ,ſ,ě,ĥ,tG,pI]
 .have:listed Ä (base 47).fn ⟨tG c e f g a b,[]⟩ HG[1] w=#[]:=by
   unfold listed;simp[HG,ĉ,ſ,ě,ĥ,tG,Ī]
  rw[this];rfl
structure ST(ba all oe n j:Nat)(qs dv:Ï)(t:Array Ï):Prop where
 r:t.size=49
 a:t[8]?=Â (À<|Â ⟨ba,0,Á⟩)
 C:t[10]?=Â qs
 I:t[11]?=Â (À<|Â ⟨oe,0,Á⟩)
 M:t[12]?=Â (À<|Â ⟨all,0,Á⟩)
 N:t[13]?=Â dv
 S:t[27]?=Â (Ê Î n)
 Y:t[28]?=Â (Ê Î j)
structure HL(ba all oe n:Nat)(qs:Ï)(t:Array Ï):Prop where
 DU:t.size=49
 t2:t[2]?=Â (Ê Î n)
 t8:t[8]?=Â (À<|Â ⟨ba,0,Á⟩)
 ajK:t[10]?=Â qs
 ajL:t[11]?=Â (À<|Â ⟨oe,0,Á⟩)
 Sc:t[12]?=Â (À<|Â ⟨all,0,Á⟩)
def HM(t:Array Ï)(h:t.size=49):∃a b c d e f g i j k l m n o p q r s u v w x y z B C D E F G H I J K L M N O P Q S T V W X Y qi qj xw:Ï,t=#[a,b,c,d,e,f,g,i,j,k,l,m,n,o,p,q,r,s,u,v,w,x,y,z,B,C,D,E,F,G,H,I,J,K,L,M,N,O,P,Q,S,T,V,W,X,Y,qi,qj,xw]:=by obtain⟨_,rfl⟩:=uJ t h;exact⟨_,_,_,_,_,_,_,_,_,_,_,_,_,_,_,_,_,_,_,_,_,_,_,_,_,_,_,_,_,_,_,_,_,_,_,_,_,_,_,_,_,_,_,_,_,_,_,_,_,U⟩
section
variable{Ψ:ß->Prop}{J a:Jd}{l:ff}{t:Array Ï}{ba all oe:Nat}{qs dv:Ï}
def ajM(d:kr l)(a:HL ba all oe n qs t)(e:∀c,ST ba all oe n 0 qs (Æ Á 0 0) c->fl Ä Ò J l (BT c qX)):fl Ä Ò J l (HJ v x z jQ b i<|EE t::qX):=by
 obtain⟨m,o,f,p,q,r,s,u,g,w,h,j,k,y,B,C,D,E,F,G,H,I,K,L,M,N,O,P,Q,S,T,V,W,X,Y,rV,qV,uy,uz,uA,uB,uC,uD,uE,uF,uG,qi,qj,xw,rfl⟩:=HM t a.DU;obtain rfl:f=Ê Î n:=by simpa using a.t2
 obtain rfl:g=À (Â ⟨ba,0,Á⟩):=by simpa using a.t8
 obtain rfl:h=qs:=by simpa using a.ajK
 obtain rfl:j=À (Â ⟨oe,0,Á⟩):=by simpa using a.ajL
 obtain rfl:k=À (Â ⟨all,0,Á⟩):=by simpa using a.Sc
 apply fN (n:=40) d;have hF:=trivial;simp only[HJ,EE,ZH];iterate 2 w_go fu
 u_leave0 Ħ fu hF
 simp only[sA,ZI,ZJ];iterate 13 w_go fu
 refine Ë λ_ _=> ?_;exact e _ ⟨U,U,U,U,U,U,U,U⟩
theorem ajN(d:kr l)(a:ST ba all oe n j qs dv t)(q:j<1000)(e:∀c,ST ba all oe n (j+1) qs dv c->fl Ä Ò J l (BT c qX)):fl Ä Ò J l (HJ v x z jQ b i<|Lm t::qX):=by
 obtain⟨r,s,u,w,y,B,C,D,f,E,g,h,k,m,F,G,H,I,K,L,M,N,O,P,Q,S,T,o,p,V,W,X,Y,s7,s8,rV,qV,uy,uz,uA,uB,uC,uD,uE,uF,uG,qi,qj,xw,rfl⟩:=HM t a.r;obtain rfl:f=À (Â ⟨ba,0,Á⟩):=by simpa using a.a
 obtain rfl:g=qs:=by simpa using a.C
 obtain rfl:h=À (Â ⟨oe,0,Á⟩):=by simpa using a.I
 obtain rfl:k=À (Â ⟨all,0,Á⟩):=by simpa using a.M
 obtain rfl:m=dv:=by simpa using a.N
 obtain rfl:o=Ê Î n:=by simpa using a.S
 obtain rfl:p=Ê Î j:=by simpa using a.Y
 apply fN (n:=40) d;have hF:=trivial;simp only[HJ,Lm,Lg];iterate 2 w_go fu
 u_leave0 Ħ fu hF
 simp only[Sb];iterate 7 w_go fu
 refine Ë λ_ _=> ?_;refine e _ ⟨U,U,U,U,U,U,U,?_⟩;simp;grind [BM]
end
section
variable{l l' y:ff}
def gq.fV(h:gq X l l')(s:gC l){p off:Nat}(c:l.w.heap.size<=p):gq X l {l' with w:=l'.w.setCell ⟨p,off,Á⟩ v}:=by
 have b:∀j,j<l.w.heap.size->(l'.w.setCell ⟨p,off,Á⟩ v).heap[j]?=l'.w.heap[j]?:=λj e=>lD (by show j≠p;omega);refine⟨h.O,h.c,h.S,h.Y,h.b,h.K,h.q,h.d,λj q=> ?_,?_,λj q n=>(b j<|s.fA j q).trans<|h.r j q n,λa q=>(gO<|b _<|s.I a q).trans<|h.f a q,λa q=>sW.trans<|h.g a q,λa q z=>yU<|h.e a q z⟩
 .show j<(l'.w.setCell ⟨p,off,Á⟩ v).heap.size;rw[j4];exact h.fA j q
 .show l.w.heap.size<=(l'.w.setCell ⟨p,off,Á⟩ v).heap.size;rw[j4];exact h.I
structure ig(l:ff)(b:Nat)(o:Ÿ):Prop where
 ft:l.O b
 I:l.w.heap[b]?=Â o
def ig.r{o:Ÿ}(h:ig l b o)(k:gq X l l')(a:¬X b):ig l' b o:=⟨k.O b h.ft,(k.r b (Ã h.ft) a).trans h.I⟩
def ig.C(h:ig l b (É d e xJ))(a:d[i]?=Â v):l.w.cell? ⟨b,i,Á⟩=Â v:=by simp[Ö,h.I,a]
end
def ZN{sz:Nat}{xs:List Ï}(h:w.ownsRow i e sz v n xs)(a:w.heap.size<=b):¬(Â b=v.ownBlock):=λq=>by have:=(h.lt b q.symm).2;omega
structure ZO(ba all q:Nat)(BV:Ï)(xs:List Ï)(ch bd bw bf:Nat)(l':ff):Prop where
 S:l'.w.ownsRow 0 101 1 BV xs.length xs
 M:∀k,BV.ownBlock=Â k->l'.O k
 r:ig l' ch (ŕ q #[] Ì 0 0 Ì)
 C:ig l' bd (É #[è<|Â ch] 101)
 N:ig l' bw (É #[À<|Â ⟨all,0,Á⟩] 162)
 I:ig l' bf (É #[Ĉ (ù 50) #[] #[À<|Â ⟨bd,0,Á⟩,À<|Â ⟨ba,0,Á⟩]] 1)
section
variable{g:Jd}{l:ff}{t:Array Ï}{ba all q:Nat}{f:Option â}{xs:List Ï}
def ajO(y:gC l)(F:¬l.q)(hd:l.d=0)(G:ST ba all m n j (Æ f q i) x t)(vE:j<n)(hn:n<1000)(BW:q<1000)(Ln:l.K ⟨all,0,Á⟩/\l.K ⟨all,1,Á⟩)(Hs:nJ all l.w) (lO:l.w.ownsRow 0 101 1 x j xs) (hO:∀k,x.ownBlock=Â k->l.O k) (hJ0:∀l' t' a r B S C v1,gq (λb=>Â b=x.ownBlock) l l'->ST ba all m n j (Æ f q i) C t'->ZO ba all q C (xs++[è<|Â a]) a r B S l'->l.w.heap.size<=a->a<r->r<B->B<S->(∀k,C.ownBlock=Â k->k≠a/\k≠r/\k≠B/\k≠S)->g l' (BU (À<|Â ⟨all,0,Á⟩) v1 (À<|Â ⟨all,0,Á⟩) (ñ #[]) B S<|Lm t'::qX)): fl Ä Ò (K1 Ä Ò all g) l (BT t qX):=by
 obtain⟨y0,y1,y2,y3,y4,y5,y6,y7,y8,y9,xB,zD,xC,rY,td,qZ,vL,vM,uK,uL,uM,tf,tg,tj,rT,s6,rU,pH,oC,qf,qg,qh,uw,s7,s8,rV,qV,uy,uz,uA,uB,uC,uD,uE,uF,uG,qi,qj,xw,rfl⟩:=HM t G.r;obtain rfl:y8=À (Â ⟨ba,0,Á⟩):=by simpa using G.a
 obtain rfl:xB=Æ f q i:=by simpa using G.C
 obtain rfl:zD=À (Â ⟨m,0,Á⟩):=by simpa using G.I
 obtain rfl:xC=À (Â ⟨all,0,Á⟩):=by simpa using G.M
 obtain rfl:x=rY:=(show rY=x by simpa using G.N).symm;obtain rfl:pH=Ê Î n:=by simpa using G.S
 obtain rfl:oC=Ê Î j:=by simpa using G.Y
 have au8:(j:Int)<(n:Int):=Z
 have hF:True:=trivial;apply fN (n:=40) y.r;simp only[BT,ED,R9,ZK];repeat w_go fu
 refine Ë λ_ _=> ?_;have EF:Ä.info? 155=Â Ą:=ļ;refine pK (V:=λp=>è<|Â p) (ob:=ŕ q #[] Ì 0 0 Ì) U U (by k_ne) y.r F (λw=> ?_) (λw=> ?_) λL kI=> ?_
 .have D:=run_makeChan (P:=Ä) (w:=w) Ĵ EF Î q Z (by simp[Ą];omega);go_simp
 .simp[go_sem,(events_makeChan (P:=Ä) (w:=w) Ĵ EF Î q Z (by simp[Ą];omega) #[])]
 walk_nrm;have uN:gq fh l (gK l L<|ŕ q #[] Ì 0 0 Ì):=nh y kI;have c1:ig (gK l L<|ŕ q #[] Ì 0 0 Ì) L.heap.size (ŕ q #[] Ì 0 0 Ì):=⟨Ç U,ng⟩;have ZQ:l.w.heap.size<=L.heap.size:=kI.r;generalize gK l L (ŕ q #[] Ì 0 0 Ì)=l₁ at uN c1|-;generalize L.heap.size=a at c1 ZQ|-;have xG:=uN.N y;have ZR:¬l₁.q:=by rwa[uN.q]
 refine pK (V:=λp=>À<|Â ⟨p,0,Á⟩) (ob:=É #[è Á] 101) U U (by k_ne) xG.r ZR (λw=>by go_simp) (λw=>by simp[go_sem]) λT oD=> ?_;walk_nrm;have HN:gq fh l (gK l₁ T<|É #[è Á] 101):=uN.fi<|nh xG oD;have c2:=c1.r (nh (X:=fh) (ob:=É #[è Á] 101) xG oD) id;have H:ig (gK l₁ T<|É #[è Á] 101) T.heap.size (É #[è Á] 101):=⟨Ç U,ng⟩;have J3:a<T.heap.size:=È (xG.fA a<|Ã c1.ft) oD.r;generalize gK l₁ T (É #[è Á] 101)=l₂ at HN c2 H|-;generalize T.heap.size=r at H J3|-;clear c1 uN ZR xG oD l₁;have sd:=HN.N y;have qn:¬l₂.q:=by rwa[HN.q]
 refine Ht (p:=r) (off:=0) (v:=è<|Â a) (u:=è Á) U U (by k_ne) sd.r qn H.ft (H.C U) (by simp[î,H.I]) U (λw o s=>by go_simp) (λw o s=>by simp[go_sem,o,s]) ?_;have M:gq fh l {l₂ with w:=l₂.w.setCell ⟨r,0,Á⟩ (è<|Â a)}:=HN.fV y Z;have c3:ig {l₂ with w:=l₂.w.setCell ⟨r,0,Á⟩ (è<|Â a)} a (ŕ q #[] Ì 0 0 Ì):=⟨c2.ft,(lD<|by show a≠r;omega).trans c2.I⟩;have W:ig {l₂ with w:=l₂.w.setCell ⟨r,0,Á⟩ (è<|Â a)} r (É #[è<|Â a] 101):=⟨H.ft,by show(l₂.w.setCell ⟨r,0,Á⟩<|è<|Â a).heap[r]?=_;unfold þ;simp[í,H.I]⟩;generalize({l₂ with w:=l₂.w.setCell ⟨r,0,Á⟩ (è<|Â a)}:ff)=kB at M c3 W|-;clear c2 H HN sd qn l₂;have N:=M.N y;have xD:¬kB.q:=by rwa[M.q]
 have EG:∀k,x.ownBlock=Â k->kB.O k:=λk e=>M.O k<|hO k e;have Lp:kB.w.ownsRow 0 101 1 x j xs:=oc lO λk e=>M.r k (Ã<|hO k e) id;apply fN (n:=10) N.r;simp only[ZL,Lg];iterate 4 w_go fu
 refine Ë λ_ _=> ?_;apply o5 (x:=⟨r,0,Á⟩) U U (by k_ne) N.r xD (Ã<|Ã W.ft) (W.C U) (λw h=>by go_simp) (λw h=>by simp[go_sem,h]);walk_nrm;refine pK (V:=λp=>Æ (Â ⟨p,0,Á⟩) 1 1) (ob:=É #[è<|Â a] 101) U U (by k_ne) N.r xD (λw=>by go_simp) (λw=>by simp[go_sem]) λI BX=> ?_;walk_nrm;have BS:gq fh l (gK kB I<|É #[è<|Â a] 101):=M.fi<|nh N BX;have k4:=nh (X:=fh) (ob:=É #[è<|Â a] 101) N BX;have c4:=c3.r k4 id;have d4:=W.r k4 id;have Y:ig (gK kB I<|É #[è<|Â a] 101) I.heap.size (É #[è<|Â a] 101):=⟨Ç U,ng⟩;have ZG:r<I.heap.size:=È (N.fA r<|Ã W.ft) BX.r;have xH:∀k,x.ownBlock=Â k->(gK kB I<|É #[è<|Â a] 101).O k:=λk e=>Ã<|EG k e;have BY:=oc Lp (w₁:=(gK kB I<|É #[è<|Â a] 101).w) λk e=>k4.r k (Ã<|EG k e) id;generalize gK kB I (É #[è<|Â a] 101)=l₄ at BS c4 d4 Y xH BY|-;generalize I.heap.size=px at Y ZG|-;clear c3 W M N xD EG Lp k4 BX kB;have zI:=BS.N y;have BZ:¬l₄.q:=by rwa[BS.q]
 refine Hu (v:=x) (us:=[è<|Â a]) (px:=px) (c:=1) (n:=j) (xs:=xs) (inf:=Δ) (z:=è Á) U U (by k_ne) zI BZ U U U Tryz.underlying100 Tryz.type101 U U Nat.one_pos U U (by simp[Δ];omega) (by simp only[œ];omega) BY xH Y.ft (R8<|Y.C U) (λ_ D=>List.mem_singleton.1 D▸rfl) λrh C Q B1 sU HO B2 uP=> ?_;walk_nrm;have ZS:∀b,l.w.heap.size<=b->¬(Â b=x.ownBlock):=λb hb=>ZN lO hb;have k5:gq (λb=>Â b=x.ownBlock) l₄ (ni l₄ rh Q):=Le zI B1 HO λk e=>⟨xH k e,e.symm⟩;have vP:gq (λb=>Â b=x.ownBlock) l (ni l₄ rh Q):=(BS.fT λ_ _ q=>q.elim).fi k5;have c5:=c4.r k5<|ZS a Z;have d5:=d4.r k5<|ZS r Z;have hl4:px<rh.heap.size:=È (zI.fA px<|Ã Y.ft) B1.r;have Lq:∀k,C.ownBlock=Â k->k<Q.heap.size/\k≠a/\k≠r:=λk e=>by
  have D:=(sU.lt k e).2;rcases uP with z|z
  .rw[z]at e;have:=(lO.lt k e).2;exact⟨D,Z,Z⟩
  .rw[z]at e;obtain rfl:=Ó e;exact⟨D,Z,Z⟩
 have xI:(ni l₄ rh Q).w.ownsRow 0 101 1 C (j+1) (xs++[è<|Â a]):=sU;have Sd:(ni l₄ rh Q).w.heap.size=Q.heap.size:=U;generalize ni l₄ rh Q=tu at vP c5 d5 xI B2 Sd|-;rw[<-Sd]at Lq;clear k5 HO sU uP c4 d4 Y BS zI BZ xH BY B1 l₄ Sd;have sf:=vP.N y;have ZT:¬tu.q:=by rwa[vP.q]
 apply fN (n:=20) sf.r;iterate 4 w_go fu
 u_call Ħ fS Μ fu hF
 iterate 2 w_go fu
 refine Ë λ_ _=> ?_;refine pK (V:=λp=>À<|Â ⟨p,0,Á⟩) (ob:=É #[À<|Â ⟨all,0,Á⟩] 162) U U (by k_ne) sf.r ZT (λw=>by go_simp) (λw=>by simp[go_sem]) λD Lr=> ?_;walk_nrm;have k6:=nh (X:=fh) (ob:=É #[À<|Â ⟨all,0,Á⟩] 162) sf Lr;have B3:gq (λb=>Â b=x.ownBlock) l (gK tu D<|É #[À<|Â ⟨all,0,Á⟩] 162):=vP.fi (k6.fT λ_ _ q=>q.elim);have c6:=c5.r k6 id;have d6:=d5.r k6 id;have g6:ig (gK tu D<|É #[À<|Â ⟨all,0,Á⟩] 162) D.heap.size (É #[À<|Â ⟨all,0,Á⟩] 162):=⟨Ç U,ng⟩;have B4:r<D.heap.size:=È (sf.fA r<|Ã d5.ft) Lr.r;have HP:∀k,C.ownBlock=Â k->k<D.heap.size/\k≠a/\k≠r:=λk e=>⟨È (Lq k e).1 Lr.r,(Lq k e).2⟩;have Ls:∀k,C.ownBlock=Â k->(gK tu D<|É #[À<|Â ⟨all,0,Á⟩] 162).O k:=λk e=>Ã<|B2 k e;have Se:=oc xI (w₁:=(gK tu D<|É #[À<|Â ⟨all,0,Á⟩] 162).w) λk e=>k6.r k (Ã<|B2 k e) id;generalize gK tu D (É #[À<|Â ⟨all,0,Á⟩] 162)=B5 at B3 c6 d6 g6 Ls Se|-;generalize D.heap.size=B at g6 B4 HP|-;clear k6 c5 d5 vP sf ZT B2 xI Lq Lr tu;have Lt:=B3.N y;have ZU:¬B5.q:=by rwa[B3.q]
 refine pK (V:=λp=>À<|Â ⟨p,0,Á⟩) (ob:=É #[Ĉ (ù 50) #[] #[À<|Â ⟨r,0,Á⟩,À<|Â ⟨ba,0,Á⟩]] 1) U U (by k_ne) Lt.r ZU (λw=>by go_simp) (λw=>by simp[go_sem]) λJ Sf=> ?_;walk_nrm;have k7:=nh (X:=fh) (ob:=É #[Ĉ (ù 50) #[] #[À<|Â ⟨r,0,Á⟩,À<|Â ⟨ba,0,Á⟩]] 1) Lt Sf;have E:gq (λb=>Â b=x.ownBlock) l (gK B5 J<|É #[Ĉ (ù 50) #[] #[À<|Â ⟨r,0,Á⟩,À<|Â ⟨ba,0,Á⟩]] 1):=B3.fi (k7.fT λ_ _ q=>q.elim);have c7:=c6.r k7 id;have d7:=d6.r k7 id;have g7:=g6.r k7 id;have f7:ig (gK B5 J<|É #[Ĉ (ù 50) #[] #[À<|Â ⟨r,0,Á⟩,À<|Â ⟨ba,0,Á⟩]] 1) J.heap.size (É #[Ĉ (ù 50) #[] #[À<|Â ⟨r,0,Á⟩,À<|Â ⟨ba,0,Á⟩]] 1):=⟨Ç U,ng⟩;have Lu:B<J.heap.size:=È (Lt.fA B<|Ã g6.ft) Sf.r;have Sg:∀k,C.ownBlock=Â k->(gK B5 J<|É #[Ĉ (ù 50) #[] #[À<|Â ⟨r,0,Á⟩,À<|Â ⟨ba,0,Á⟩]] 1).O k:=λk e=>Ã<|Ls k e;have ZV:=oc Se (w₁:=(gK B5 J<|É #[Ĉ (ù 50) #[] #[À<|Â ⟨r,0,Á⟩,À<|Â ⟨ba,0,Á⟩]] 1).w) λk e=>k7.r k (Ã<|Ls k e) id;generalize gK B5 J (É #[Ĉ (ù 50) #[] #[À<|Â ⟨r,0,Á⟩,À<|Â ⟨ba,0,Á⟩]] 1)=B6 at E c7 d7 g7 f7 Sg ZV|-;generalize J.heap.size=S at f7 Lu|-;clear k7 c6 d6 g6 B3 Lt ZU Ls Se Sf B5;have Lv:=E.N y;apply fN (n:=10) Lv.r;iterate 3 w_go fu
 refine Ë λ_ _=> ?_;apply o5 (x:=⟨B,0,Á⟩) U U (by k_ne) Lv.r (by rwa[E.q]) (Ã<|Ã g7.ft) (g7.C U) (λw h=>by go_simp) (λw h=>by simp[go_sem,h]);walk_nrm;apply fN (n:=10) Lv.r;u_call qY.f_add (nm_add Lk) addFn fu hF;refine Ë λ_ _=> ?_;refine Zj qY (⟨Ã (by rw[E.K];exact Ln.1),Ã (by rw[E.K];exact Ln.2),λw L o s h3 h4 h5 h=>h.fi ⟨o,s,h3,h4,h5⟩⟩) (⟨Lv.r,⟨E.e _ Ln.1 Hs.1,E.e _ Ln.2 Hs.2⟩,fI.gd _ _⟩) (E.d.trans hd) λSi ZW=> ?_;walk_nrm;apply fN (l:={B6 with d:=0,w:=Si}) (n:=10) ZW.1;iterate 3 w_go fu
 refine Ë λ_ _=> ?_;refine .fD λB7 xK=> ?_;have rr:fI B6 B6.w B7:=ZW.2.2.fi ⟨xK.r,xK.I,xK.N,xK.Y,xK.S⟩;have s:=E.G rr;have hA9:gq (λb=>Â b=x.ownBlock) l ({B6 with d:=0,w:=B7}:ff):=⟨s.O,s.c,s.S,s.Y,s.b,s.K,s.q,hd.symm,s.fA,s.I,s.r,s.f,s.g,s.e⟩;have at9:∀{b:Nat} {o:Ÿ},ig B6 b o->ig ({B6 with d:=0,w:=B7}:ff) b o:=λh=>⟨h.ft,(rr.I _<|Ã h.ft).trans h.I⟩;have hlen:(xs++[è<|Â a]).length=j+1:=by have:=lO.1;simp;omega
 refine hJ0 {B6 with d:=0,w:=B7} _ a r B S C _ hA9 ⟨U,U,U,U,U,U,U,U⟩ ⟨?_,Sg,at9 c7,at9 d7,at9 g7,at9 f7⟩ ZQ J3 B4 Lu λk e=>⟨(HP k e).2.1,(HP k e).2.2,by have:=(HP k e).1;omega,by have:=(HP k e).1;omega⟩;rw[hlen];exact oc ZV λk e=>rr.I k<|Ã<|Sg k e
end
def tw(l:ff)(b:Nat):ff:={l with O:=λj=>l.O j/\j≠b,K:=λa=>l.K a\/a=⟨b,0,Á⟩\/a=⟨b,1,Á⟩}
def nD(l x:ff)(b:Nat):ff:={x with O:=λj=>x.O j\/j=b,K:=l.K}
section
variable{S:Jd}{l:ff}
def fl.Sj(W:∀a,l.K a->a.block≠b){x:ff}(h:fl P yQ S x g):¬x.M b->(∀a,x.C a->a.block≠b)->x.K=(tw l b).K->b<x.w.heap.size->(x.w.cell? ⟨b,0,Á⟩).isSome=Ò->(x.w.cell? ⟨b,1,Á⟩).isSome=Ò->kr x-> fl P yQ (λG H=>∃d,S d H/\G=nD l d b/\¬d.M b/\(∀a,d.C a->a.block≠b)/\d.K=(tw l b).K/\b<d.w.heap.size/\d.w.heap[b]?=x.w.heap[b]?/\d.q=x.q/\kr d) (nD l x b) g:=by
 have u:∀{x:ff} {c:ß},x.K=(tw l b).K->(x.w.cell? ⟨b,0,Á⟩).isSome=Ò->(x.w.cell? ⟨b,1,Á⟩).isSome=Ò->fI (nD l x b) x.w c->fI x x.w c:=λ{x c} f i m r=>
  ⟨r.r,λj p=>r.I j<|p.imp Ã id,r.N,r.Y,λa o q=>by
   rw[f]at o;rcases o with z|z|z
   .exact r.S a z q
   .rw[z,gO<|r.I b<|Ã<|Ç U];exact i
   .rw[z,gO (r.I b (Ã (Ç U)))];exact m⟩
 induction h with
 |@fD x g h=>
  intro s t f v i m I;refine .fD λc r=>⟨{x with w:=c},h c<|u f i m r,U,s,t,f,È v r.r,r.I b<|Ã<|Ç U,U,mM I<|u f i m r⟩
 |@jR x g G' W' E' L' iN h hd _ ih=>
  intro s t f v i m I;refine .mk iN λc r=> ?_;have B:=u f i m r;have D:=hd c B;have E:=È v r.r;have J:=λq=>s<|Ã q;have L:=D.jZ b E J λa e q=>t a (Ã q) e;have F:(L' c).w.heap[b]?=x.w.heap[b]?:=by rw[D.Y];exact L.trans<|r.I b<|Ã<|Ç U
  refine⟨G' c,W' c,E' c,nD l (L' c) b,h c B,?_,?_⟩
  .refine⟨D.C,λj q=> ?_,λj q=> ?_,D.rd,D.r,D.I,U,λj p y n=>D.jZ j p (λq=>y<|Ã q) n,λa o y n=>D.M a o (λq=>y<|Ã q) n,λa o y=>D.S a o λq=>y<|Ã q,D.c,D.f,D.i,λe N=> ?_,D.g,D.q,λq=> ?_,D.Y⟩
   .rcases q with q|q
    .exact(D.N j q).imp Ã id
    .exact Ã<|Ç q
   .rcases q with q|q
    .exact D.fA j q
    .rw[q];exact È E D.C
   .rcases D.b e N with⟨a,y,n⟩|h|h|h|h|⟨a,y,n⟩
    .exact Ã ⟨a,y,n.imp Ã id⟩
    .exact Ç<|Ã h
    .exact Ç<|Ç<|Ã h
    .exact Ç<|Ç<|Ç<|Ã h
    .exact Ç<|Ç<|Ç<|Ç<|Ã h
    .exact Ç<|Ç<|Ç<|Ç<|Ç ⟨a,Ã y,n⟩
   .let⟨Q,T,V⟩:=D.h q;exact⟨Q,T,by funext j;show((L' c).O j\/j=b)=(x.O j\/j=b);rw[V]⟩
  .refine(ih c B (λq=>q.elim (λz=>(D.N b z).elim J λy=>by omega) λz=>s<|Ç<|by rw[<-D.rd];exact z) (λa q=>t a<|q.imp (by rw[D.r];exact id)<|by rw[D.I];exact id) (D.k.trans f) (by rw[D.Y];exact È E D.C) (by rw[gO F];exact i) (by rw[gO F];exact m) λj p=>by rw[D.Y];exact D.fA j p).fT ?_;rintro G H ⟨d,y,e,j,n,o,p,z,N,Q⟩;exact⟨d,y,e,j,n,o,p,z.trans F,N.trans D.q,Q⟩
end
section
variable{L:WgLink}{l:ff}{J:Jd}{c:é}{k:List ŷ}{ty:ŭ}
structure ajP(b:Nat)(cc:Array Ï)(ty:ŭ)(l l':ff):Prop where
 r:gq (λj=>j=b) l l'
 O:l'.O=l.O
 C:l'.w.heap[b]?=Â (É (cc.setIfInBounds 0<|Ê ê 4294967296) ty)
theorem ZX(a:l.O b)(w:ß)(d:Nat):nD l {tw l b with d:=d,w:=w} b={l with d:=d,w:=w}:=by
 have:(λj=>(l.O j/\j≠b)\/j=b)=l.O:=by grind
 unfold nD tw;simp only[this]
def ZY{C:Array Ï}(H:WgLib P L)(s:gC l)(hq:¬l.q)(Y:l.d=0)(x:l.O b)(M:l.w.heap[b]?=Â (É C ty))(N:C[0]?=Â (Ê ê 0))(o:(C[1]?).isSome=Ò) (hT:∀B,ajP b C ty l B->fl P yQ J B (G (c.at (y.put ((Q[i]?).bind (·.dst))<|ñ #[])<|Ñ Q jJ::k) qX)): fl P yQ J l (G ((base L.add).at ⟨#[À<|Â ⟨b,0,Á⟩,Ê Î 1,Å,Å,Å,Å,Å,Å,Å,Å,Å,Å,Å,Å,Å,Å,Å,Å,Å,Å,Å,Å,Å,Å,Å,Å,Å,Å,Å,Å,Å,Å,Å,Å,Å,Å,Å,Å,Å,Å,Å,Å,Å,Å,Å,Å,Å,Å,Å,Å,Å,Å,Å,Å,Å,Å,Å,Å,Å,Å,Å,Å,Å,Å,Å,Å,Å,Å,Å,Å,Å,Å,Å,Å,Å,Å,Å,Å,Å,Å,Å,Å,Å,Å,Å,Å,Å,Å,Å,Å,Å,Å,Å,Å,Å,Å,Å,Å,Å,Å,Å,Å,Å,Å,Å,Å,Å,Å,Å,Å,Å,Å,Å,Å,Å,Å,Å],[]⟩ [ö<|body_add L])<|c.at y (Ñ Q (i::jJ)::k)::qX):=by
 have e0:l.w.cell? ⟨b,0,Á⟩=Â (Ê ê 0):=by simp[Ö,M,N]
 have e1:(l.w.cell? ⟨b,1,Á⟩).isSome=Ò:=by let⟨u,D⟩:=Ô.1 o;simp[Ö,M,D]
 have S:∀y:â,l.K y->y.block≠b:=λy T e=>(s.S y T).1<|Ã<|e▸x;let J1:Jd:=λB g'=>g'=G (c.at (y.put ((Q[i]?).bind (·.dst))<|ñ #[])<|Ñ Q jJ::k) qX/\B={tw l b with d:=0,w:=B.w}/\fI (tw l b) l.w B.w
 have hW:fl P yQ (K1 P yQ b J1) (tw l b) (G ((base L.add).at ⟨#[À<|Â ⟨b,0,Á⟩,Ê Î 1,Å,Å,Å,Å,Å,Å,Å,Å,Å,Å,Å,Å,Å,Å,Å,Å,Å,Å,Å,Å,Å,Å,Å,Å,Å,Å,Å,Å,Å,Å,Å,Å,Å,Å,Å,Å,Å,Å,Å,Å,Å,Å,Å,Å,Å,Å,Å,Å,Å,Å,Å,Å,Å,Å,Å,Å,Å,Å,Å,Å,Å,Å,Å,Å,Å,Å,Å,Å,Å,Å,Å,Å,Å,Å,Å,Å,Å,Å,Å,Å,Å,Å,Å,Å,Å,Å,Å,Å,Å,Å,Å,Å,Å,Å,Å,Å,Å,Å,Å,Å,Å,Å,Å,Å,Å,Å,Å,Å,Å,Å,Å,Å,Å,Å,Å],[]⟩ [ö<|body_add L])<|c.at y (Ñ Q (i::jJ)::k)::qX):=by refine Zj (Ψ:=λw=>fI (tw l b) l.w w) H ⟨Ã<|Ç<|Ã U,Ã<|Ç<|Ç U,λw n o t a g m h=>h.fi ⟨o,t,a,g,m⟩⟩ ⟨λj f=>s.fA j<|Ã f.1,⟨by rw[show(tw l b).w=l.w from rfl,e0];rfl,e1⟩,fI.gd _ _⟩ Y λn v=> .fD λp r=>⟨U,U,v.2.2.fi ⟨r.r,r.I,r.N,r.Y,r.S⟩⟩
 have hstart:=hW.Sj S (λq=>q.elim (λz=>z.2 U) λz=>s.c b x z) (λy T e=>s.N y T<|Ã<|e▸x) U (s.fA b<|Ã x) (by rw[show(tw l b).w=l.w from rfl,e0];rfl) e1 λj f=>s.fA j<|Ã f.1;rw[show nD l (tw l b) b=l from ZX x l.w l.d]at hstart;apply hstart.lL;rintro l1 g1 ⟨E,⟨B8,ajQ,hA⟩,rfl,ZZ,Z0,qU,hlt1,mq,BW,lo1⟩;let⟨g2,Z1,V⟩:=hA 0;have sZ:ê.wrap (0+gi)=gi:=by rw[show(0:Int)+gi=gi from rfl];exact Kr A A
 rw[sZ]at V Z1;rw[if_pos U]at V;have hqx:¬E.q:=by rwa[BW]
 refine .mk ajQ λn r=> ?_;have F:=(r.I b<|Ã<|Ç U).trans<|mq.trans M;have c0:n.cell? (fQ b)=Â (Ê ê 0):=by simp[Ö,fQ,F,N]
 have au9:=È hlt1 r.r;have W:(n.setCell (fQ b)<|Ê ê gi).heap[b]?=Â (É (C.setIfInBounds 0<|Ê ê 4294967296) ty):=by unfold þ;simp[í,fQ,F,gi]
 have rx:fI E E.w (n.setCell (fQ b)<|Ê ê gi):=by
  refine⟨by rw[j4];exact r.r,λj f=>((lD λe=>ZZ (by have t:j=b:=e;rwa[<-t])).trans<|r.I j<|f.imp Ã id),λa g=>(gO<|lD<|Z0 a g).trans<|r.N a g,λa g=>sW.trans<|r.Y a g,λa g q=> ?_⟩
  .rw[qU]at g;refine yU ?_;rcases g with z|z|z
   .exact r.S a z q
   .rw[z,gO<|r.I b<|Ã<|Ç U];rwa[z]at q
   .rw[z,gO<|r.I b<|Ã<|Ç U];rwa[z]at q
 refine⟨g2,_,_,nD l {E with w:=n.setCell (fQ b) (Ê ê gi)} b,Z1 n c0 (by simp[î,fQ,F]),?_,?_⟩
 .refine⟨by rw[j4];exact Ú _,λ_ h=>Ã h,λj h=> ?_,U,U,U,U,λj _ o _=>lD λe=>o<|Ç e,λa _ o _=>gO (lD λe=>o<|Ç e),λ_ _ _=>O8,U,U,U,λe t=> ?_,?_,U,λq=>absurd q hqx,U⟩
  .rw[j4];rcases h with h|h
   .exact È (lo1 j h) r.r
   .rwa[h]
  .have:e=kD (fQ b)\/e=mY (fQ b):=by simpa using t
   rcases this with rfl|rfl
   .exact Ã ⟨fQ b,U,Ã<|Ç U⟩
   .exact Ã ⟨fQ b,U,Ã<|Ç U⟩
  .exact(Ņ (λe t=>by
    have:e=kD (fQ b)\/e=mY (fQ b):=by simpa using t
    rcases this with rfl|rfl<;>exact⟨by simp[kD,mY],by simp[kD,mY]⟩) _).symm
 have z1:((n.setCell (fQ b)<|Ê ê gi).cell? ⟨b,1,Á⟩).isSome=Ò:=by let⟨u,D⟩:=Ô.1 o;exact yU<|by simp[Ö,F,D]
 have ajR:=(V.kg rx).Sj S ZZ Z0 qU (by show b<(n.setCell (fQ b)<|Ê ê gi).heap.size;rwa[j4]) (yU<|by rw[show(⟨b,0,Á⟩:â)=fQ b from rfl,c0];rfl) z1 (λj f=>by show j<(n.setCell (fQ b)<|Ê ê gi).heap.size;rw[j4];exact È (lo1 j f) r.r);apply ajR.lL;rintro l2 g3 ⟨v,⟨o6,ajS,g4,ajT,hN2⟩,rfl,nM2,nC2,zq,Lw,X,qn,lo2⟩;have ajU:¬v.q:=by rwa[qn]
 refine .mk ajS λp m=> ?_;have I:∀a:â,a.block=b->p.cell? a=v.w.cell? a:=λa e=>gO<|m.I a.block<|Ã<|Ç e;have rx2:fI v v.w p:=⟨m.r,λj f=>m.I j<|f.imp Ã id,m.N,m.Y,λa g q=>by
  rw[zq]at g;rcases g with z|z|z
  .exact m.S a z q
  .rwa[I a (by rw[z])]
  .rwa[I a (by rw[z])]⟩
 refine⟨g4,p,_,nD l {v with w:=p} b,ajT p,?_,?_⟩
 .refine⟨Ú _,λ_ h=>Ã h,λj h=> ?_,U,U,U,U,λ_ _ _ _=>rfl,λ_ _ _ _=>rfl,λ_ _ _=>rfl,U,U,U,λe t=> ?_,?_,U,λq=>absurd q ajU,U⟩
  .rcases h with h|h
   .exact È (lo2 j h) m.r
   .rw[h];exact È Lw m.r
  .have:e=j0 (.read<|gZ b):=by simpa using t
   rw[this];exact Ç<|Ç<|Ç<|Ç<|Ç ⟨gZ b,Ç U,Ã U⟩
  .exact(Ņ (λe t=>by
    have:e=j0 (.read<|gZ b):=by simpa using t
    rw[this];exact⟨by simp[j0],by simp[j0]⟩) _).symm
 have z:(p.cell? ⟨b,0,Á⟩).isSome=Ò:=by rw[I _ U];have:v.w.heap[b]?=_:=X.trans W;simp[Ö,this,(æ.1 N).1]
 have y1:(p.cell? ⟨b,1,Á⟩).isSome=Ò:=by rw[I _ U];have:v.w.heap[b]?=_:=X.trans W;let⟨u,D⟩:=Ô.1 o;simp[Ö,this,(æ.1 D).1]
 have u:=(hN2.kg rx2).Sj S nM2 nC2 zq (È Lw m.r) z y1 λj f=>È (lo2 j f) m.r;apply u.lL;rintro l3 g5 ⟨x3,⟨rfl,D,t⟩,rfl,nM3,nC3,hk3,ajV,hb3,xD,lo3⟩;rw[D,ZX x];have Sk:=hb3.trans<|(m.I b<|Ã<|Ç U).trans<|X.trans W;refine hT _ ⟨⟨λ_ h=>h,λ_ h=>Ã h,U,U,U,U,U,Y.symm,λj f=>È (s.fA j<|Ã f) t.r,t.r,λj f hn=>t.I j (f.imp (λq=>⟨q,hn⟩) id),t.N,t.Y,λa g=>t.S a<|Ã g⟩,U,Sk⟩
end
noncomputable def Sl:Ę:=kJ Ĝ [1,1,1]
noncomputable def Z2:Ę:=kJ Ĝ [1,1,0,1,0,0,1,1,0,0,1,1,1]
noncomputable def Sm:Ę:=kJ Ĝ [1,1,0,1,0,0,1,1,0,0,1,1,0,1]
noncomputable def HQ:Ę:=kJ Ĝ [1,1,0,1,0,0]
noncomputable def Sn:Ę:=kJ Ĝ [1,1,0,1,0,0,1,1,1]
noncomputable def B9 (t:Array Ï) (a:List é):Ý:=G ((base 46).at ⟨t,[]⟩ [ö HQ,ą HQ,ô 0,ö Sl]) a
noncomputable def HR (t:Array Ï) (a:List é):Ý:=G ((base 46).at ⟨t,[]⟩ [ö Sm,ö Z2,ô 1,ö Sn,ą HQ,ô 0,ö Sl]) a
structure PT(iv qv rs:Ï)(lg R i:Nat)(t:Array Ï):Prop where
 r:t.size=48
 N:t[4]?=Â iv
 S:t[5]?=Â qv
 Y:t[6]?=Â (À<|Â ⟨lg,0,Á⟩)
 C:t[13]?=Â rs
 I:t[14]?=Â (Ê Î R)
 M:t[15]?=Â (Ê Î i)
def Lx(t:Array Ï)(h:t.size=48):∃a b c d e f g i j k l m n o p q r s u v w x y z B C D E F G H I J K L M N O P Q S T V W X Y qi qj:Ï,t=#[a,b,c,d,e,f,g,i,j,k,l,m,n,o,p,q,r,s,u,v,w,x,y,z,B,C,D,E,F,G,H,I,J,K,L,M,N,O,P,Q,S,T,V,W,X,Y,qi,qj]:=by obtain⟨_,rfl⟩:=uJ t h;exact⟨_,_,_,_,_,_,_,_,_,_,_,_,_,_,_,_,_,_,_,_,_,_,_,_,_,_,_,_,_,_,_,_,_,_,_,_,_,_,_,_,_,_,_,_,_,_,_,_,U⟩
def ajW(w:ß)(a c:Option â)(b:Int):(Ċ 155 #[(0,À a),(1,Ê Î b),(2,À c)]).run Ä w=.ok (Đ #[À a,Ê Î b,À c,À Á]) w:=run_build w 155 _ _ fS
def ajX(w:ß)(a c:Option â)(b:Int):(Ċ 155 #[(0,À a),(1,Ê Î b),(2,À c)]).events Ä w #[]=#[]:=by unfold Ċ;simp only[Sem.events_bind];simp[go_sem]
section
variable{p:Nat}{v0 v1 v2 v3:Ï}
def ajY(h:w.heap[p]?=Â (É #[v,x,z,jQ] e)):(iY w p v0 v1 v2 v3).heap[p]?=Â (É #[v0,v1,v2,v3] e):=by unfold iY þ;simp[í,h]
def gq.iY{l c:ff}(h:gq X l c)(s:gC l)(r:fI c c.w u)(f:l.w.heap.size<=p):gq X l {c with w:=fx.iY u p v0 v1 v2 v3}:=by
 have b:=h.G r;have e:∀{j:Nat},j<l.w.heap.size->(fx.iY u p v0 v1 v2 v3).heap[j]?=u.heap[j]?:=λ{j} q=>zy Z;refine⟨b.O,b.c,b.S,b.Y,b.b,b.K,b.q,b.d,λj q=> ?_,?_,λj q n=>(e<|s.fA j q).trans<|b.r j q n,λa q=>(gO<|e<|s.I a q).trans<|b.f a q,λa q=>(xi<|e<|s.I a q).trans<|b.g a q,λa q z=> ?_⟩
 .show j<(fx.iY u p v0 v1 v2 v3).heap.size;rw[xA];exact b.fA j q
 .show l.w.heap.size<=(fx.iY u p v0 v1 v2 v3).heap.size;rw[xA];exact b.I
 .show((fx.iY u p v0 v1 v2 v3).cell? a).isSome=Ò;rw[gO<|e (s.S a q).2.1];exact b.e a q z
def ig.rly{l:ff}{o:Ÿ}(h:ig l b o)(r:fI l l.w u):ig {l with w:=u} b o:=⟨h.ft,(r.I b<|Ã h.ft).trans h.I⟩
end
section
variable{J:Jd}{l:ff}{t:Array Ï}{iv qv:Ï}{lg R:Nat}{kd:Int}
def ajZ(f:gC l)(o:¬l.q)(k:PT iv qv (Æ (Â ⟨j,0,Á⟩) R n) lg R i t)(Z3:i<R)(hR:R<1000)(T:l.M j)(V:l.w.cell? ⟨j,i,Á⟩=Â (À<|Â ⟨b,0,Á⟩))(F:l.M b)(W:l.w.cell? ⟨b,4,Á⟩=Â (Ê Î kd)) (X:∀B u a,gq fh l B->l.w.heap.size<=a->ig B a (É #[À<|Â ⟨b,0,Á⟩,Ê Î i,À<|Â ⟨lg,0,Á⟩,À Á] 155)->PT iv qv (Æ (Â ⟨j,0,Á⟩) R n) lg R i u->u[9]?=Â (À<|Â ⟨a,0,Á⟩)->u[28]?=Â (ŝ<|decide<|kd≠1)->fl Ä Ò J B (HR u qX)): fl Ä Ò J l (B9 t qX):=by
 obtain⟨y0,y1,y2,y3,G,H,Y,y7,y8,y9,xB,zD,xC,rY,td,qZ,vL,vM,uK,uL,uM,tf,tg,tj,rT,s6,rU,pH,oC,qf,qg,qh,uw,s7,s8,rV,qV,uy,uz,uA,uB,uC,uD,uE,uF,uG,qi,qj,rfl⟩:=Lx t k.r;obtain rfl:iv=G:=(show G=iv by simpa using k.N).symm;obtain rfl:qv=H:=(show H=qv by simpa using k.S).symm;obtain rfl:Y=À (Â ⟨lg,0,Á⟩):=by simpa using k.Y
 obtain rfl:rY=Æ (Â ⟨j,0,Á⟩) R n:=by simpa using k.C
 obtain rfl:td=Ê Î R:=by simpa using k.I
 obtain rfl:qZ=Ê Î i:=by simpa using k.M
 have ava:(i:Int)<(R:Int):=Z
 have hF:True:=trivial;have rZ:∀y:â,False->l.r y:=λy ha=>ha.elim;apply fN (n:=40) f.r;simp only[B9];conv in HQ=>whnf
 repeat w_go fu
 refine Ë λ_ _=> ?_;apply o5 (x:=⟨j,i,Á⟩) U U (by k_ne) f.r o (Ã T) V (λw h=>by go_simp) (λw h=>by simp[go_sem,h]);walk_nrm;apply fN (n:=40) f.r;repeat w_go fu
 refine Ë λ_ _=> ?_;refine oa (v:=Đ #[À<|Â ⟨b,0,Á⟩,Ê Î i,À<|Â ⟨lg,0,Á⟩,À Á]) U U (by k_ne) f.r o (λc r=> ?_) (λc r e C=> ?_) ?_
 .have S:=ajW c (Â ⟨b,0,Á⟩) (Â ⟨lg,0,Á⟩) i;go_simp
 .simp[go_sem,ajX c (Â ⟨b,0,Á⟩) (Â ⟨lg,0,Á⟩) i]at C
 walk_nrm;refine Hj (ob:=É #[À Á,Ê Î 0,À Á,À Á] 155) U U (by k_ne) f.r o (λw=>by go_simp) (λw=>by simp[go_sem]) λc D=> ?_;walk_nrm;have s:gq fh l (gK l c<|É #[À Á,Ê Î 0,À Á,À Á] 155):=nh f D;have m:ig (gK l c<|É #[À Á,Ê Î 0,À Á,À Á] 155) c.heap.size (É #[À Á,Ê Î 0,À Á,À Á] 155):=⟨Ç U,ng⟩;have E:l.w.heap.size<=c.heap.size:=D.r;generalize gK l c (É #[À Á,Ê Î 0,À Á,À Á] 155)=l₁ at s m|-;generalize c.heap.size=a at m E|-;have I:=s.N f;have K:¬l₁.q:=by rwa[s.q]
 refine vH U U (by k_ne) λd z=> ?_;have g:=m.rly z;replace g:d.heap[a]?=_:=g.I;have L:d.cell? ⟨a,0,Á⟩=Â (À Á):=by simp[Ö,g]
 have N:d.cell? ⟨a,1,Á⟩=Â (Ê Î 0):=by simp[Ö,g]
 have O:d.cell? ⟨a,2,Á⟩=Â (À Á):=by simp[Ö,g]
 have P:d.cell? ⟨a,3,Á⟩=Â (À Á):=by simp[Ö,g]
 have Q:∀r,d.frozen? ⟨a,r,Á⟩=Ì:=λr=>by simp[î,g]
 go_simp;refine⟨{l₁ with w:=iY d a (À<|Â ⟨b,0,Á⟩) (Ê Î i) (À<|Â ⟨lg,0,Á⟩) (À Á)},K9 (p:=a) (mM I.r z) K m.ft xA (λr S=>zy S) ⟨U,U,U⟩ λe C=> ?_,?_⟩
 .have S:=đ C;have e:∀r,qk l₁ ⟨a,r,Á⟩:=λr=>Ã m.ft;simp[go_sem,á _ _ _ _ _ _ (show Ø (À<|Â ⟨b,0,Á⟩)=Ò from rfl),á _ _ _ _ _ _ (show Ø (À<|Â ⟨lg,0,Á⟩)=Ò from rfl),á _ _ _ _ _ _ (show Ø (À Á)=Ò from rfl),L,N,O,P,Q]at S;rcases S with rfl|rfl|rfl|rfl
  .exact(e _).r
  .exact(e _).r
  .exact(e _).r
  .exact(e _).r
 have e:gq fh l ({l₁ with w:=iY d a (À<|Â ⟨b,0,Á⟩) (Ê Î i) (À<|Â ⟨lg,0,Á⟩) (À Á)}:ff):=s.iY f z E;have S:ig ({l₁ with w:=iY d a (À<|Â ⟨b,0,Á⟩) (Ê Î i) (À<|Â ⟨lg,0,Á⟩) (À Á)}:ff) a (É #[À<|Â ⟨b,0,Á⟩,Ê Î i,À<|Â ⟨lg,0,Á⟩,À Á] 155):=⟨m.ft,ajY g⟩;generalize({l₁ with w:=iY d a (À<|Â ⟨b,0,Á⟩) (Ê Î i) (À<|Â ⟨lg,0,Á⟩) (À Á)}:ff)=l₂ at e S|-;clear m s I K g L N O P Q z d l₁ D c;have C:=e.N f;apply fN (n:=20) C.r;repeat w_go fu
 refine Ë λ_ _=> ?_;apply o5 (x:=⟨b,4,Á⟩) U U (by k_ne) C.r (by rwa[e.q]) (Ã<|e.M F) ((gO<|e.r b F id).trans W) (λw h=>by go_simp) (λw h=>by simp[go_sem,h]);walk_nrm;apply fN (n:=20) C.r;iterate 2 w_go fu
 refine Ë λ_ _=> ?_;apply X l₂ _ a e E S ⟨U,U,U,U,U,U,U⟩ U;simp;rfl
end
section
variable{J:Jd}{l:ff}{xs:List Ï}
def aj0(s:gC l)(E:¬l.q)(o:PT v x z b j i d)(Z3:i<j)(hR:j<1000)(h9:d[9]?=Â (À<|Â ⟨m,0,Á⟩))(So:d[28]?=Â (ŝ Ò))(hn:n<1000) (h:ig l m (É #[À<|Â ⟨k,0,Á⟩,Ê Î i,À<|Â ⟨b,0,Á⟩,À Á] 155)) (lO:l.w.ownsRow 0 155 4 x n xs) (K:∀a,x.ownBlock=Â a->l.O a) (hJ:∀B L t,gq (λf=>Â f=x.ownBlock) l B->B.w.ownsRow 0 155 4 t (n+1) (xs++[À<|Â ⟨k,0,Á⟩,Ê Î i,À<|Â ⟨b,0,Á⟩,À Á])->(∀a,t.ownBlock=Â a->B.O a)->(t.ownBlock=x.ownBlock\/∃a,t.ownBlock=Â a/\l.w.heap.size<=a)->PT v t z b j (i+1) L->fl Ä Ò J B (B9 L qX)): fl Ä Ò J l (HR d qX):=by
 obtain⟨y0,y1,y2,y3,M,N,y6,y7,y8,y9,xB,zD,xC,P,td,qZ,vL,vM,uK,uL,uM,tf,tg,tj,rT,s6,rU,pH,oC,qf,qg,qh,uw,s7,s8,rV,qV,uy,uz,uA,uB,uC,uD,uE,uF,uG,qi,qj,rfl⟩:=Lx d o.r;obtain rfl:v=M:=(show M=v by simpa using o.N).symm;obtain rfl:x=N:=(show N=x by simpa using o.S).symm;obtain rfl:y6=À (Â ⟨b,0,Á⟩):=by simpa using o.Y
 obtain rfl:y9=À (Â ⟨m,0,Á⟩):=by simpa using h9
 obtain rfl:z=P:=(show P=z by simpa using o.C).symm;obtain rfl:td=Ê Î j:=by simpa using o.I
 obtain rfl:qZ=Ê Î i:=by simpa using o.M
 obtain rfl:oC=ŝ Ò:=by simpa using So
 have hF:True:=trivial;apply fN (n:=40) s.r;simp only[HR];conv in Sm=>whnf
 conv in Sn=>whnf
 repeat w_go fu
 refine Ë λ_ _=> ?_;refine oa (v:=Đ #[À<|Â ⟨k,0,Á⟩,Ê Î i,À<|Â ⟨b,0,Á⟩,À Á]) U U (by k_ne) s.r E (λp r=> ?_) (λp r e y=> ?_) ?_
 .skip;have C:p.cell? ⟨m,0,Á⟩=Â (À<|Â ⟨k,0,Á⟩):=(ic.r (show ic l ⟨m,0,Á⟩from Ã<|Ã h.ft) r).trans<|h.C U;have D:p.cell? ⟨m,1,Á⟩=Â (Ê Î i):=(ic.r (show ic l ⟨m,1,Á⟩from Ã<|Ã h.ft) r).trans<|h.C U;have F:p.cell? ⟨m,2,Á⟩=Â (À<|Â ⟨b,0,Á⟩):=(ic.r (show ic l ⟨m,2,Á⟩from Ã<|Ã h.ft) r).trans<|h.C U;have G:p.cell? ⟨m,3,Á⟩=Â (À Á):=(ic.r (show ic l ⟨m,3,Á⟩from Ã<|Ã h.ft) r).trans<|h.C U;go_simp
 .have u:∀g,ic l ⟨m,g,Á⟩:=λg=>Ã<|Ã h.ft;have C:p.cell? ⟨m,0,Á⟩=Â (À<|Â ⟨k,0,Á⟩):=(ic.r (show ic l ⟨m,0,Á⟩from Ã<|Ã h.ft) r).trans<|h.C U;have D:p.cell? ⟨m,1,Á⟩=Â (Ê Î i):=(ic.r (show ic l ⟨m,1,Á⟩from Ã<|Ã h.ft) r).trans<|h.C U;have F:p.cell? ⟨m,2,Á⟩=Â (À<|Â ⟨b,0,Á⟩):=(ic.r (show ic l ⟨m,2,Á⟩from Ã<|Ã h.ft) r).trans<|h.C U;have G:p.cell? ⟨m,3,Á⟩=Â (À Á):=(ic.r (show ic l ⟨m,3,Á⟩from Ã<|Ã h.ft) r).trans<|h.C U;simp[go_sem,C,D,F,G]at y;rcases y with rfl|rfl|rfl|rfl
  .exact(u _).rd
  .exact(u _).rd
  .exact(u _).rd
  .exact(u _).rd
 walk_nrm;refine pK (V:=λp=>Æ (Â ⟨p,0,Á⟩) 1 1) (ob:=É #[À<|Â ⟨k,0,Á⟩,Ê Î i,À<|Â ⟨b,0,Á⟩,À Á] 155) U U (by k_ne) s.r E (λw=>by go_simp) (λw=>by simp[go_sem]) λr Q=> ?_;walk_nrm;have p:=nh (X:=fh) (ob:=É #[À<|Â ⟨k,0,Á⟩,Ê Î i,À<|Â ⟨b,0,Á⟩,À Á] 155) s Q;have y:ig (gK l r<|É #[À<|Â ⟨k,0,Á⟩,Ê Î i,À<|Â ⟨b,0,Á⟩,À Á] 155) r.heap.size (É #[À<|Â ⟨k,0,Á⟩,Ê Î i,À<|Â ⟨b,0,Á⟩,À Á] 155):=⟨Ç U,ng⟩;have C:∀a,x.ownBlock=Â a->(gK l r<|É #[À<|Â ⟨k,0,Á⟩,Ê Î i,À<|Â ⟨b,0,Á⟩,À Á] 155).O a:=λa e=>Ã<|K a e;have F:=oc lO (w₁:=(gK l r<|É #[À<|Â ⟨k,0,Á⟩,Ê Î i,À<|Â ⟨b,0,Á⟩,À Á] 155).w) λa e=>p.r a (Ã<|K a e) id;generalize gK l r (É #[À<|Â ⟨k,0,Á⟩,Ê Î i,À<|Â ⟨b,0,Á⟩,À Á] 155)=l₄ at p y C F|-;generalize r.heap.size=px at y|-;have G:=p.N s;have S:¬l₄.q:=by rwa[p.q]
 have EF:Ä.info? 155=Â Ą:=ļ;refine Hu (v:=x) (us:=[À<|Â ⟨k,0,Á⟩,Ê Î i,À<|Â ⟨b,0,Á⟩,À Á]) (px:=px) (c:=1) (n:=n) (sz:=4) (xs:=xs) (inf:=Ą) (z:=Đ #[À Á,Ê Î 0,À Á,À Á]) U U (by k_ne) G S U U U Ľ EF U U Z U U (by simp[Ą];omega) (by simp only[œ];omega) F C y.ft (λg u D=>y.C<|by simpa using D) (by simp[Ø]) λu g D H T W Y uP=> ?_;walk_nrm;have k5:gq (λf=>Â f=x.ownBlock) l₄ (ni l₄ u D):=Le G H W λa e=>⟨C a e,e.symm⟩;have I:gq (λf=>Â f=x.ownBlock) l (ni l₄ u D):=(p.fT λ_ _ q=>q.elim).fi k5;have Sp:g.ownBlock=x.ownBlock\/∃a,g.ownBlock=Â a/\l.w.heap.size<=a:=uP.imp id λq=>⟨_,q,Õ p.I H.r⟩;have xI:(ni l₄ u D).w.ownsRow 0 155 4 g (n+1) (xs++[À<|Â ⟨k,0,Á⟩,Ê Î i,À<|Â ⟨b,0,Á⟩,À Á]):=T;generalize ni l₄ u D=tu at I xI Y|-;clear p k5 W T uP y G S C F H Q;have sf:=I.N s;have hw:Î.wrap ((i:Int)+1)=((i+1:Nat):Int):=by rw[BM Z Z];omega
 apply fN (n:=40) sf.r;repeat w_go fu
 refine Ë λ_ _=> ?_;refine hJ tu _ g I xI Y Sp ⟨U,U,U,U,U,U,?_⟩;simp[hw]
def aj1(G:gC l)(hq:¬l.q)(hd:l.d=0)(I:PT v x z b j i d)(Z3:i<j)(hR:j<1000)(h9:d[9]?=Â (À<|Â ⟨m,0,Á⟩))(So:d[28]?=Â (ŝ Ì))(hn:n<1000) (h0:ig l m (É #[À<|Â ⟨k,0,Á⟩,Ê Î i,À<|Â ⟨b,0,Á⟩,À Á] 155)) (lO:l.w.ownsRow 0 155 4 v n xs) (hO:∀f,v.ownBlock=Â f->l.O f) (tq:v.ownBlock≠Â m) (hJ:∀T t' W s,gq (λg=>Â g=v.ownBlock\/g=m) l T->T.w.ownsRow 0 155 4 W (n+1) (xs++[À<|Â ⟨k,0,Á⟩,Ê Î i,À<|Â ⟨b,0,Á⟩,À<|Â ⟨s,0,Á⟩])->(∀f,W.ownBlock=Â f->T.O f)->(W.ownBlock=v.ownBlock\/∃f,W.ownBlock=Â f/\s<f)->l.w.heap.size<=s->ig T s (É #[Ê ê 4294967296,Ê Ď 0,Æ Á 0 0] 105)->PT W x z s j (i+1) t'->fl Ä Ò J T (B9 t' qX)): fl Ä Ò J l (HR d qX):=by
 obtain⟨y0,y1,y2,y3,y4,y5,y6,y7,y8,y9,xB,zD,xC,rY,td,qZ,vL,vM,uK,uL,uM,tf,tg,tj,rT,s6,rU,pH,oC,qf,qg,qh,uw,s7,s8,rV,qV,uy,uz,uA,uB,uC,uD,uE,uF,uG,qi,qj,rfl⟩:=Lx d I.r;obtain rfl:v=y4:=(show y4=v by simpa using I.N).symm;obtain rfl:x=y5:=(show y5=x by simpa using I.S).symm;obtain rfl:y6=À (Â ⟨b,0,Á⟩):=by simpa using I.Y
 obtain rfl:y9=À (Â ⟨m,0,Á⟩):=by simpa using h9
 obtain rfl:z=rY:=(show rY=z by simpa using I.C).symm;obtain rfl:td=Ê Î j:=by simpa using I.I
 obtain rfl:qZ=Ê Î i:=by simpa using I.M
 obtain rfl:oC=ŝ Ì:=by simpa using So
 have hF:True:=trivial;apply fN (n:=40) G.r;simp only[HR];conv in Sm=>whnf
 conv in Z2=>whnf
 conv in Sn=>whnf
 repeat w_go fu
 refine Ë λ_ _=> ?_;refine Hj (ob:=É #[Ê ê 0,Ê Ď 0,Æ Á 0 0] 105) U U (by k_ne) G.r hq (λw=>by go_simp) (λw=>by simp[go_sem]) λD kI=> ?_;walk_nrm;have t:gq fh l (gK l D<|É #[Ê ê 0,Ê Ď 0,Æ Á 0 0] 105):=nh G kI;have F:ig (gK l D<|É #[Ê ê 0,Ê Ď 0,Æ Á 0 0] 105) D.heap.size (É #[Ê ê 0,Ê Ď 0,Æ Á 0 0] 105):=⟨Ç U,ng⟩;have HT:l.w.heap.size<=D.heap.size:=kI.r;generalize gK l D (É #[Ê ê 0,Ê Ď 0,Æ Á 0 0] 105)=l₁ at t F|-;generalize D.heap.size=s at F HT|-;clear kI D;have xG:=t.N G;have BW:¬l₁.q:=by rwa[t.q]
 have htl:m<l.w.heap.size:=G.fA m<|Ã h0.ft;have t1:=h0.r t id;apply fN (n:=40) xG.r;iterate 7 w_go fu
 u_call qY.f_add (nm_add Lk) addFn fu hF
 refine Ë λ_ _=> ?_;refine ZY qY xG BW (by rwa[t.d]) F.ft F.I U U λy hC=> ?_;walk_nrm;have E:gq (λg=>g=s) l₁ y:=hC.r;have Ly:gq fh l y:=⟨λf q=>E.O f<|t.O f q,λf q=>(E.c f q).elim (t.c f) λh=>Ç<|Õ t.I h,E.S.trans t.S,E.Y.trans t.Y,E.b.trans t.b,E.K.trans t.K,E.q.trans t.q,E.d.trans t.d,E.fA,Õ t.I E.I,λo Y nx=>(E.r o (t.M Y) λe=>by have:=G.fA o Y;omega).trans<|t.r o Y nx,λa H=>(E.f a<|by rwa[t.C]).trans<|t.f a H,λa H=>(E.g a<|by rwa[t.C]).trans<|t.g a H,λa H h=>E.e a (by rwa[t.K])<|t.e a H h⟩;have L:=t1.r E Z;have N:ig y s (É #[Ê ê 4294967296,Ê Ď 0,Æ Á 0 0] 105):=⟨E.O s F.ft,hC.C⟩;have sd:=Ly.N G;have qn:¬y.q:=by rwa[Ly.q]
 have hgl:s<y.w.heap.size:=sd.fA s<|Ã N.ft;clear hC E t1 F t xG BW l₁;apply fN (n:=40) sd.r;iterate 5 w_go fu
 refine Ë λ_ _=> ?_;refine Ht (p:=m) (off:=3) (v:=À<|Â ⟨s,0,Á⟩) (u:=À Á) U U (by k_ne) sd.r qn L.ft (L.C U) (by simp[î,L.I]) U (λw r S=>by go_simp) (λw r S=>by simp[go_sem,á _ _ _ _ _ _ (show Ø (À<|Â ⟨s,0,Á⟩)=Ò from rfl),r,S]) ?_;have P:gq (λg=>g=m) l {y with w:=y.w.setCell ⟨m,3,Á⟩ (À<|Â ⟨s,0,Á⟩)}:=(Ly.fT λ_ _ q=>q.elim).fi (Ld (p:=m) sd (fI.gd _ _) L.ft U j4 λo Y=>lD Y);have B:ig {y with w:=y.w.setCell ⟨m,3,Á⟩ (À<|Â ⟨s,0,Á⟩)} m (É #[À<|Â ⟨k,0,Á⟩,Ê Î i,À<|Â ⟨b,0,Á⟩,À<|Â ⟨s,0,Á⟩] 155):=⟨L.ft,by show(y.w.setCell ⟨m,3,Á⟩<|À<|Â ⟨s,0,Á⟩).heap[m]?=_;unfold þ;simp[í,L.I]⟩;have g3:ig {y with w:=y.w.setCell ⟨m,3,Á⟩ (À<|Â ⟨s,0,Á⟩)} s (É #[Ê ê 4294967296,Ê Ď 0,Æ Á 0 0] 105):=⟨N.ft,(lD<|by show s≠m;omega).trans N.I⟩;have aj2:s<({y with w:=y.w.setCell ⟨m,3,Á⟩ (À<|Â ⟨s,0,Á⟩)}:ff).w.heap.size:=by show s<(y.w.setCell ⟨m,3,Á⟩<|À<|Â ⟨s,0,Á⟩).heap.size;rwa[j4]
 generalize({y with w:=y.w.setCell ⟨m,3,Á⟩ (À<|Â ⟨s,0,Á⟩)}:ff)=kB at P B g3 aj2|-;clear L N Ly sd qn hgl y;have Q:=P.N G;have xD:¬kB.q:=by rwa[P.q]
 have EG:∀f,v.ownBlock=Â f->kB.O f:=λf e=>P.O f<|hO f e;have Lp:kB.w.ownsRow 0 155 4 v n xs:=oc lO λf e=>P.r f (Ã<|hO f e) λh=>tq<|h▸e;apply fN (n:=40) Q.r;iterate 3 w_go fu
 refine Ë λ_ _=> ?_;refine oa (v:=Đ #[À<|Â ⟨k,0,Á⟩,Ê Î i,À<|Â ⟨b,0,Á⟩,À<|Â ⟨s,0,Á⟩]) U U (by k_ne) Q.r xD (λD r=> ?_) (λD r e he=> ?_) ?_
 .skip;have g0:D.cell? ⟨m,0,Á⟩=Â (À<|Â ⟨k,0,Á⟩):=(ic.r (show ic kB ⟨m,0,Á⟩from Ã<|Ã B.ft) r).trans<|B.C U;have F:D.cell? ⟨m,1,Á⟩=Â (Ê Î i):=(ic.r (show ic kB ⟨m,1,Á⟩from Ã<|Ã B.ft) r).trans<|B.C U;have N:D.cell? ⟨m,2,Á⟩=Â (À<|Â ⟨b,0,Á⟩):=(ic.r (show ic kB ⟨m,2,Á⟩from Ã<|Ã B.ft) r).trans<|B.C U;have g3:D.cell? ⟨m,3,Á⟩=Â (À<|Â ⟨s,0,Á⟩):=(ic.r (show ic kB ⟨m,3,Á⟩from Ã<|Ã B.ft) r).trans<|B.C U;go_simp
 .have S:∀o,ic kB ⟨m,o,Á⟩:=λo=>Ã<|Ã B.ft;have g0:D.cell? ⟨m,0,Á⟩=Â (À<|Â ⟨k,0,Á⟩):=(ic.r (show ic kB ⟨m,0,Á⟩from Ã<|Ã B.ft) r).trans<|B.C U;have F:D.cell? ⟨m,1,Á⟩=Â (Ê Î i):=(ic.r (show ic kB ⟨m,1,Á⟩from Ã<|Ã B.ft) r).trans<|B.C U;have N:D.cell? ⟨m,2,Á⟩=Â (À<|Â ⟨b,0,Á⟩):=(ic.r (show ic kB ⟨m,2,Á⟩from Ã<|Ã B.ft) r).trans<|B.C U;have g3:D.cell? ⟨m,3,Á⟩=Â (À<|Â ⟨s,0,Á⟩):=(ic.r (show ic kB ⟨m,3,Á⟩from Ã<|Ã B.ft) r).trans<|B.C U;simp[go_sem,g0,F,N,g3]at he;rcases he with rfl|rfl|rfl|rfl
  .exact(S _).rd
  .exact(S _).rd
  .exact(S _).rd
  .exact(S _).rd
 walk_nrm;refine pK (V:=λp=>Æ (Â ⟨p,0,Á⟩) 1 1) (ob:=É #[À<|Â ⟨k,0,Á⟩,Ê Î i,À<|Â ⟨b,0,Á⟩,À<|Â ⟨s,0,Á⟩] 155) U U (by k_ne) Q.r xD (λw=>by go_simp) (λw=>by simp[go_sem]) λS BX=> ?_;walk_nrm;have r:=nh (X:=fh) (ob:=É #[À<|Â ⟨k,0,Á⟩,Ê Î i,À<|Â ⟨b,0,Á⟩,À<|Â ⟨s,0,Á⟩] 155) Q BX;have p4:ig (gK kB S<|É #[À<|Â ⟨k,0,Á⟩,Ê Î i,À<|Â ⟨b,0,Á⟩,À<|Â ⟨s,0,Á⟩] 155) S.heap.size (É #[À<|Â ⟨k,0,Á⟩,Ê Î i,À<|Â ⟨b,0,Á⟩,À<|Â ⟨s,0,Á⟩] 155):=⟨Ç U,ng⟩;have xH:∀f,v.ownBlock=Â f->(gK kB S<|É #[À<|Â ⟨k,0,Á⟩,Ê Î i,À<|Â ⟨b,0,Á⟩,À<|Â ⟨s,0,Á⟩] 155).O f:=λf e=>Ã<|EG f e;have BY:=oc Lp (w₁:=(gK kB S<|É #[À<|Â ⟨k,0,Á⟩,Ê Î i,À<|Â ⟨b,0,Á⟩,À<|Â ⟨s,0,Á⟩] 155).w) λf e=>r.r f (Ã<|EG f e) id;generalize gK kB S (É #[À<|Â ⟨k,0,Á⟩,Ê Î i,À<|Â ⟨b,0,Á⟩,À<|Â ⟨s,0,Á⟩] 155)=l₄ at r p4 xH BY|-;generalize S.heap.size=px at p4|-;have zI:=r.N Q;have BZ:¬l₄.q:=by rwa[r.q]
 have EF:Ä.info? 155=Â Ą:=ļ;refine Hu (v:=v) (us:=[À<|Â ⟨k,0,Á⟩,Ê Î i,À<|Â ⟨b,0,Á⟩,À<|Â ⟨s,0,Á⟩]) (px:=px) (c:=1) (n:=n) (sz:=4) (xs:=xs) (inf:=Ą) (z:=Đ #[À Á,Ê Î 0,À Á,À Á]) U U (by k_ne) zI BZ U U U Ľ EF U U Z U U (by simp[Ą];omega) (by simp only[œ];omega) BY xH p4.ft (λo u hu=>p4.C<|by simpa using hu) (by simp[Ø]) λrh BV Lz B1 sU HO B2 uP=> ?_;walk_nrm;have k5:gq (λg=>Â g=v.ownBlock) l₄ (ni l₄ rh Lz):=Le zI B1 HO λf e=>⟨xH f e,e.symm⟩;have vP:gq (λg=>Â g=v.ownBlock) kB (ni l₄ rh Lz):=(r.fT λ_ _ q=>q.elim).fi k5;have Sp:BV.ownBlock=v.ownBlock\/∃f,BV.ownBlock=Â f/\kB.w.heap.size<=f:=uP.imp id λq=>⟨_,q,Õ r.I B1.r⟩;have xI:(ni l₄ rh Lz).w.ownsRow 0 155 4 BV (n+1) (xs++[À<|Â ⟨k,0,Á⟩,Ê Î i,À<|Â ⟨b,0,Á⟩,À<|Â ⟨s,0,Á⟩]):=sU;generalize ni l₄ rh Lz=tu at vP xI B2|-;clear r k5 HO sU uP p4 zI BZ xH BY B1 BX;have sf:=vP.N Q;have hw:Î.wrap ((i:Int)+1)=((i+1:Nat):Int):=by rw[BM Z Z];omega
 have g5:=g3.r vP<|ZN lO HT;have B3:gq (λg=>Â g=v.ownBlock\/g=m) l tu:=(P.fT λ_ _ q=>Ç q).fi (vP.fT λ_ _ q=>Ã q);apply fN (n:=40) sf.r;repeat w_go fu
 refine Ë λ_ _=> ?_;refine hJ tu _ BV s B3 xI B2 (Sp.imp id λ⟨f,q1,q2⟩=>⟨f,q1,Z⟩) HT g5 ⟨U,U,U,U,U,U,?_⟩;simp[hw]
end
def ia(kd:Nat->Int)(i:Nat):List Nat:=(ã i).filter λj=>decide<|kd j=1
def jE(kd:Nat->Int)(i:Nat):List Nat:=(ã i).filter λj=>decide<|kd j≠1
def fO(kd:Nat->Int)(i:Nat):Nat:=(ia kd i).length
def tI(a g:Nat->Nat)(p:Nat×Nat):List Ï:=[À<|Â ⟨a p.1,0,Á⟩,Ê Î p.1,À<|Â ⟨g p.2,0,Á⟩,À<|Â ⟨g<|p.2+1,0,Á⟩]
def tQ(kd:Nat->Int)(a g:Nat->Nat)(p:Nat):List Ï:=[À<|Â ⟨a p,0,Á⟩,Ê Î p,À<|Â ⟨g<|fO kd p,0,Á⟩,À Á]
def jT(kd:Nat->Int)(rq g:Nat->Nat)(i:Nat):List Ï:=(ia kd i).zipIdx.flatMap<|tI rq g
def mN(kd:Nat->Int)(a g:Nat->Nat)(i:Nat):List Ï:=(jE kd i).flatMap<|tQ kd a g
section
variable{kd:Nat->Int}{rq g:Nat->Nat}
def tx(h:kd i=1):ia kd (i+1)=ia kd i++[i]:=by simp[ia,ÿ,ā,h]
def vR(h:kd i≠1):ia kd (i+1)=ia kd i:=by simp[ia,ÿ,ā,h]
def Sq(h:kd i=1):jE kd (i+1)=jE kd i:=by simp[jE,ÿ,ā,h]
theorem Sr(h:kd i≠1):jE kd (i+1)=jE kd i++[i]:=by simp[jE,ÿ,ā,h]
def Ss:∀i,fO kd i<=i:=λi=>by unfold fO ia;exact Õ (ģ _ _) fq
def aj3:∀i,(jE kd i).length<=i:=λi=>by unfold jE;exact Õ (ģ _ _) fq
def Z4(h:j<=i):fO kd j<=fO kd i:=by
 induction i with
 |zero=>
  have:j=0:=Z
  rw[this];exact Ú _
 |succ i c=>
  by_cases e:j=i+1
  .rw[e];exact Ú _
  .have a:=c Z;by_cases b:kd i=1
   .unfold fO at a|-;rw[tx b];simp;omega
   .unfold fO at a|-;rwa[vR b]
def aj4(h:kd i=1):jT kd rq g (i+1)=jT kd rq g i++tI rq g (i,fO kd i):=by unfold jT;rw[tx h,List.zipIdx_append,List.flatMap_append];simp[fO]
def aj5(h:kd i≠1):jT kd rq g (i+1)=jT kd rq g i:=by unfold jT;rw[vR h]
def aj6(h:kd i=1):mN kd rq g (i+1)=mN kd rq g i:=by unfold mN;rw[Sq h]
theorem aj7(h:kd i≠1):mN kd rq g (i+1)=mN kd rq g i++tQ kd rq g i:=by unfold mN;grind [Sr]
def Sv{α:Type}{f a:α->List Ï}:∀(l:List α),(∀x∈l,f x=a x)->l.flatMap f=l.flatMap a
 |[],_=>rfl
 |x::l,h=>by rw[Ć,Ć,h x List.mem_cons_self,Sv l λy b=>h y<|List.mem_cons_of_mem _ b]
def aj8(h:∀k,k<=fO kd i->D k=g k):jT kd rq D i=jT kd rq g i:=by
 unfold jT;refine Sv _ λx a=> ?_;let⟨p,k⟩:=x;have b:=(List.mem_zipIdx a).2.1;have c:k<fO kd i:=by unfold fO;omega
 simp[tI,h k Z,h (k+1) Z]
def aj9(h:∀k,k<=fO kd i->D k=g k):mN kd rq D i=mN kd rq g i:=by
 unfold mN;refine Sv _ λp a=> ?_;have b:p<i:=by have:=(Ā.1 a).1;simpa using this
 simp[tQ,h (fO kd p)<|Z4 Z]
def Sw{α:Type}{f:α->List Ï}(a:∀x,(f x).length=4)(b:i<4):∀(l:List α) (k:Nat) (x:α),l[k]?=Â x->(l.flatMap f)[k*4+i]?=(f x)[i]?
 |[],k,x,h=>by simp at h
 |y::l,0,x,h=>by
  obtain rfl:y=x:=by simpa using h
  rw[Ć,List.getElem?_append_left (by rw[a];omega)];simp
 |y::l,k+1,x,h=>by rw[Ć,List.getElem?_append_right (by rw[a];omega),a,show(k+1)*4+i-4=k*4+i by omega];exact Sw a b l k x<|by simpa using h
end
section
variable{Y:Nat->Prop}{l m o:ff}
def gq.vS(h:gq X l m)(k:gq Y m o)(e:∀j,l.M j->¬Y j):gq X l o:= ⟨λj q=>k.O j<|h.O j q,λj q=>(k.c j q).elim (h.c j) λz=>Ç<|Õ h.I z,k.S.trans h.S,k.Y.trans h.Y,k.b.trans h.b,k.K.trans h.K,k.q.trans h.q,k.d.trans h.d,k.fA,Õ h.I k.I,λj c f=>(k.r j (h.M c)<|e j c).trans<|h.r j c f,λa b=>(k.f a<|by rwa[h.C]).trans<|h.f a b,λa b=>(k.g a<|by rwa[h.C]).trans<|h.g a b,λa b z=>k.e a (by rwa[h.K])<|h.e a b z⟩
end
abbrev Sx:Ÿ:=É #[Ê ê 4294967296,Ê Ď 0,Æ Á 0 0] 105
structure zK(kd:Nat->Int)(rq g:Nat->Nat)(S i:Nat)(iv qv:Ï)(l0 l:ff):Prop where
 r:gq fh l0 l
 jT:l.w.ownsRow 0 155 4 iv (fO kd i) (jT kd rq g i)
 mN:l.w.ownsRow 0 155 4 qv (jE kd i).length (mN kd rq g i)
 C:∀k,iv.ownBlock=Â k->l.O k/\l0.w.heap.size<=k
 I:∀k,qv.ownBlock=Â k->l.O k/\l0.w.heap.size<=k
 M:∀k,iv.ownBlock=Â k->qv.ownBlock≠Â k
 N:∀k,1<=k->k<=fO kd i->ig l (g k) Sx/\l0.w.heap.size<=g k/\iv.ownBlock≠Â (g k)/\qv.ownBlock≠Â (g k)
 g0:g 0<l0.w.heap.size
 S:g 0=S
 Y:∀k k',k<k'->k'<=fO kd i->g k<g k'
section
variable{kd:Nat->Int}{rq g:Nat->Nat}{iv qv:Ï}{l0 l m o:ff}
theorem zK.akb(h:zK kd rq g n i iv qv l0 l)(C:gC l0)(s:gC l)(t:kd i≠1)(a:gq fh l m)(d:gq (λb=>Â b=qv.ownBlock) m o)(G:o.w.ownsRow 0 155 4 v ((jE kd i).length+1) (fx.mN kd rq g i++tQ kd rq g i))(D:∀k,v.ownBlock=Â k->o.O k)(u:v.ownBlock=qv.ownBlock\/∃k,v.ownBlock=Â k/\m.w.heap.size<=k):zK kd rq g n (i+1) iv v l0 o:=by
 have p:fO kd (i+1)=fO kd i:=by unfold fO;rw[vR t]
 have x:∀{j},l.O j->qv.ownBlock≠Â j->v.ownBlock≠Â j:=λ{j} c hn e=>by
  rcases u with z|⟨k,q,B⟩
  .grind
  .rw[q]at e;have:=Ó e;have:=(λc=>È (s.fA _<|Ã c) a.I) c;omega
 refine⟨(h.r.fi a).vS d λj c e=> ?_,?_,?_,λk e=>⟨d.O k<|a.O k (h.C k e).1,(h.C k e).2⟩,λk e=>⟨D k e,?_⟩,λk e=>x (h.C k e).1<|h.M k e,λk r f=> ?_,h.g0,h.S,λk y r f=>h.Y k y r<|by rwa[<-p]⟩
 .have:=(h.I j e.symm).2;have:=C.fA j c;omega
 .rw[p,aj5 t];refine oc h.jT λk e=>(d.r k (Ã<|a.O k (h.C k e).1) λz=>h.M k e z.symm).trans<|a.r k (Ã (h.C k e).1) id
 .grind [Sr,aj7]
 .rcases u with z|⟨y,q,B⟩
  .rw[z]at e;exact(h.I k e).2
  .rw[q]at e;have:=Ó e;have:=h.r.I;have:=a.I;omega
 .rw[p]at f;let⟨q,E,F,B⟩:=h.N k r f;exact⟨(q.r a id).r d λz=>B z.symm,E,F,x q.ft B⟩
theorem zK.kR{tb:Nat}(h:zK kd rq g n i iv qv l0 l)(F:gC l0)(s:gC l)(a:kd i=1)(c:gq fh l m)(P:l.w.heap.size<=tb)(p:gq (λb=>Â b=iv.ownBlock\/b=tb) m o)(G:o.w.ownsRow 0 155 4 v (fO kd i+1) (fx.jT kd rq g i++[À<|Â ⟨rq i,0,Á⟩,Ê Î i,À<|Â ⟨g<|fO kd i,0,Á⟩,À<|Â ⟨J,0,Á⟩]))(H:∀k,v.ownBlock=Â k->o.O k)(u:v.ownBlock=iv.ownBlock\/∃k,v.ownBlock=Â k/\J<k)(Q:m.w.heap.size<=J)(I:ig o J Sx):zK kd rq (λk=>if k<=fO kd i then g k else J) n (i+1) v qv l0 o:=by
 have x:fO kd (i+1)=fO kd i+1:=by unfold fO;rw[tx a];simp
 have S:=h.r.I;have T:=c.I;have d:∀{j},l.O j->j<l.w.heap.size:=λq=>s.fA _<|Ã q;have B:∀{j},l.O j->iv.ownBlock≠Â j->v.ownBlock≠Â j:=λ{j} q hn e=>by grind
 have C:∀k,k<=fO kd i->(if k<=fO kd i then g k else J)=g k:=λk a=>if_pos a;refine⟨(h.r.fi c).vS p λj q e=> ?_,?_,?_,λk e=>⟨H k e,?_⟩,λk e=>⟨p.O k<|c.O k (h.I k e).1,(h.I k e).2⟩,λk e z=>B (h.I k z).1 (λy=>h.M k y z) e,λk t D=> ?_,?_,?_,λk r t D=> ?_⟩
 .have:=F.fA j q;rcases e with e|e
  .have:=(h.C j e.symm).2;omega
  .omega
 .rw[x,aj4 a,aj8 C];simpa[tI,show¬(fO kd i+1<=fO kd i) by omega]using G
 .rw[Sq a,aj6 a,aj9 C];refine oc h.mN λk e=> ?_;refine(p.r k (Ã<|c.O k (h.I k e).1) ?_).trans<|c.r k (Ã (h.I k e).1) id;rintro(z|z)
  .exact h.M k z.symm e
  .have:=d (h.I k e).1;omega
 .rcases u with z|⟨r,K,L⟩
  .rw[z]at e;exact(h.C k e).2
  .grind
 .by_cases y:k<=fO kd i
  .simp only[if_pos y];let⟨f,M,E,N⟩:=h.N k t y;refine⟨(f.r c id).r p ?_,M,B f.ft E,N⟩;rintro(z|z)
   .exact E z.symm
   .have:=d f.ft;omega
  .simp only[if_neg y];refine⟨I,Z,λe=> ?_,λe=> ?_⟩
   .rcases u with z|⟨r,K,L⟩
    .rw[z]at e;have:=d (h.C J e).1;omega
    .grind
   .have:=d (h.I J e).1;omega
 .simp only[ă,if_true];exact h.g0
 .simp only[ă,if_true];exact h.S
 .rw[x]at D;by_cases y:r<=fO kd i
  .simp only[if_pos y,if_pos (show k<=fO kd i by omega)];exact h.Y k r t y
  .simp only[if_neg y,if_pos (show k<=fO kd i by omega)];by_cases E:k=0
   .subst E;have:=h.g0;omega
   .let⟨f,_⟩:=h.N k Z Z;have:=d f.ft;omega
end
section
variable{J:Jd}{ra:Option â}{rb cr R:Nat}{cs:List é}{kd:Nat->Int}{rq:Nat->Nat}{l0:ff}
def Sy(j:gC l0)(u:¬l0.q)(v:l0.d=0)(m:R<1000)(p:0<R->ra=Â ⟨rb,0,Á⟩)(x:0<R->l0.M rb)(y:∀i,i<R->l0.w.cell? ⟨rb,i,Á⟩=Â (À<|Â ⟨rq i,0,Á⟩))(r:∀i,i<R->l0.M (rq i))(z:∀i,i<R->l0.w.cell? ⟨rq i,4,Á⟩=Â (Ê Î<|kd i)) (B:∀g N P a b,zK kd rq g n R a b l0 N->PT a b (Æ ra R cr) (g<|fO kd R) R R P->fl Ä Ò J N (B9 P cs)): ∀d i,R=i+d->∀g l t a b,zK kd rq g n i a b l0 l->PT a b (Æ ra R cr) (g<|fO kd i) R i t->fl Ä Ò J l (B9 t cs)
 |0,i,hi,g,l,t,a,b,hP,hT=>by obtain rfl:R=i:=hi;exact B g l t a b hP hT
 |d+1,i,hi,g,l,t,a,b,hP,hT=>by
  have f:i<R:=Z
  have o:=hP.r.N j;have Q:¬l.q:=by rwa[hP.r.q]
  have S:=x Z;refine ajZ o Q (by rwa[<-p Z]) f m (hP.r.M S) ((gO<|hP.r.r rb S id).trans<|y i f) (hP.r.M<|r i f) ((gO<|hP.r.r _ (r i f) id).trans<|z i f) λl1 t1 T c tq V C W s=> ?_;rw[<-p Z]at C;have X:=c.N o;have Y:¬l1.q:=by rwa[c.q]
  have hc:=Ss (kd:=kd) i;have hcq:=aj3 (kd:=kd) i;by_cases h:kd i=1
  .rw[decide_eq_false (by simpa using h)]at s;refine aj1 X Y (by rwa[c.d,hP.r.d]) C f m W s Z V (oc hP.jT λk e=>c.r k (Ã (hP.C k e).1) id) (λk e=>c.O k (hP.C k e).1) (λe=>by have:=o.fA T<|Ã (hP.C T e).1;omega) λD E iv' gt F G H I HT hg K=> ?_;apply Sy j u v m p x y r z B d (i+1) Z _ D E iv' b (hP.kR j o h c tq F G H I HT hg);have L:fO kd (i+1)=fO kd i+1:=by unfold fO;rw[tx h];simp
   rw[L];simp only[show¬(fO kd i+1<=fO kd i) by omega,if_false];exact K
  .rw[decide_eq_true (by simpa using h)]at s;refine aj0 X Y C f m W s Z V (oc hP.mN λk e=>c.r k (Ã (hP.I k e).1) id) (λk e=>c.O k (hP.I k e).1) λD E e F G H I K=> ?_;apply Sy j u v m p x y r z B d (i+1) Z _ D E a e (hP.akb j o h c F G H I);have L:fO kd (i+1)=fO kd i:=by unfold fO;rw[vR h]
   rwa[L]
end
noncomputable def Z5:Ę:=kJ Ĝ []
noncomputable def Z6 (a b:Ï) (c:List é):Ý:=G ((base 46).at ⟨#[a,b,Å,Å,Å,Å,Å,Å,Å,Å,Å,Å,Å,Å,Å,Å,Å,Å,Å,Å,Å,Å,Å,Å,Å,Å,Å,Å,Å,Å,Å,Å,Å,Å,Å,Å,Å,Å,Å,Å,Å,Å,Å,Å,Å,Å,Å,Å],[]⟩ [ö Z5]) c
def akc{c:é}{d:ŏ}{k:List ŷ}{K:Ý->ß->Array ž->Prop}{t u v:Tmp}(g:f.kind=Ğ)(j:y.defers=[])(l:P.funcs[f.fn]?=Â s)(e:s.results=#[.tmp t,.tmp u,.tmp v]) (h:K (G (c.at (d.put ((Q[i]?).bind (·.dst))<|ñ #[y.tmps.getD t Å,y.tmps.getD u Å,y.tmps.getD v Å])<|Ñ Q jJ::k) qX) w #[]): (stepG P yQ (G {f.at y L with mode:=.returning}<|c.at d (Ñ Q (i::jJ)::k)::qX) w).goes K:=by rwa[stepG_leave g j l (v:=ñ #[y.tmps.getD t Å,y.tmps.getD u Å,y.tmps.getD v Å]) (by simp[results,e,go_sem]) (by simp[results,e,go_sem]),Ģ]
structure HU(kd:Nat->Int)(rq g:Nat->Nat)(R:Nat)(iv qv sv:Ï)(l l':ff):Prop where
 Y:gq fh l l'
 jT:l'.w.ownsRow 0 155 4 iv (fO kd R) (jT kd rq g R)
 mN:l'.w.ownsRow 0 155 4 qv (jE kd R).length (mN kd rq g R)
 r:∀k,iv.ownBlock=Â k->l'.O k/\l.w.heap.size<=k
 C:∀k,qv.ownBlock=Â k->l'.O k/\l.w.heap.size<=k
 dis:∀k,iv.ownBlock=Â k->qv.ownBlock≠Â k
 N:ig l' (g 0) (É #[Ê ê 0,Ê Ď 0,sv] 105)
 I:∀k,1<=k->k<=fO kd R->ig l' (g k) Sx
 M:∀k,k<=fO kd R->l.w.heap.size<=g k/\iv.ownBlock≠Â (g k)/\qv.ownBlock≠Â (g k)
 S:∀k k',k<k'->k'<=fO kd R->g k<g k'
def akd(w:ß)(a:Option â)(b c:Nat):(Ċ 105 #[(1,Æ a b c)]).run Ä w=.ok (Đ #[Ê ê 0,Ê Ď 0,Æ a b c]) w:=run_build w 105 _ _ fS
def ake(w:ß)(a:Option â)(b c:Nat):(Ċ 105 #[(1,Æ a b c)]).events Ä w #[]=#[]:=by unfold Ċ;simp only[Sem.events_bind];simp[go_sem]
section
variable{J:Jd}{l:ff}{ra:Option â}{rb cr R:Nat}{sa:Option â}{sn sc:Nat}{k:List ŷ}{kd:Nat->Int}{rq:Nat->Nat}
def akf(j:gC l)(u:¬l.q)(I:l.d=0)(K:R<1000)(L:0<R->ra=Â ⟨rb,0,Á⟩)(z:0<R->l.M rb)(N:∀i,i<R->l.w.cell? ⟨rb,i,Á⟩=Â (À<|Â ⟨rq i,0,Á⟩))(B:∀i,i<R->l.M (rq i))(O:∀i,i<R->l.w.cell? ⟨rq i,4,Á⟩=Â (Ê Î<|kd i)) (P:∀g s b c,HU kd rq g R b c (Æ sa sn sc) l s->fl Ä Ò J s (G (f.at (y.put ((Q[i]?).bind (·.dst))<|ñ #[b,c,À<|Â ⟨g<|fO kd R,0,Á⟩])<|Ñ Q jJ::k) qX)): fl Ä Ò J l (Z6 (Æ ra R cr) (Æ sa sn sc)<|f.at y (Ñ Q (i::jJ)::k)::qX):=by
 have hF:=trivial;apply fN (n:=40) j.r;simp only[Z6];conv in Z5=>whnf
 repeat w_go fu
 refine Ë λ_ _=> ?_;refine oa (v:=Đ #[Ê ê 0,Ê Ď 0,Æ sa sn sc]) U U (by k_ne) j.r u (λa r=> ?_) (λa r e p=> ?_) ?_
 .have h:=akd a sa sn sc;go_simp
 .have h:=ake a sa sn sc;simp[go_sem,h]at p
 walk_nrm;refine pK (V:=λp=>À<|Â ⟨p,0,Á⟩) (ob:=É #[Ê ê 0,Ê Ď 0,Æ sa sn sc] 105) U U (by k_ne) j.r u (λw=>by go_simp) (λw=>by simp[go_sem]) λa C=> ?_;walk_nrm;have p:gq fh l (gK l a<|É #[Ê ê 0,Ê Ď 0,Æ sa sn sc] 105):=nh j C;have t:ig (gK l a<|É #[Ê ê 0,Ê Ď 0,Æ sa sn sc] 105) a.heap.size (É #[Ê ê 0,Ê Ď 0,Æ sa sn sc] 105):=⟨Ç U,ng⟩;have D:=C.r;generalize gK l a (É #[Ê ê 0,Ê Ď 0,Æ sa sn sc] 105)=l₁ at p t|-;generalize a.heap.size=gt at t D|-;have m:=p.N j;have S:¬l₁.q:=by rwa[p.q]
 apply fN (n:=40) m.r;repeat w_bar fu
 w_go fu
 refine Ë λ_ _=> ?_;have T:=m.fA gt<|Ã t.ft;refine Sy m S (by rwa[p.d]) K L (λh=>p.M<|z h) (λi h=>(gO<|p.r rb (z Z) id).trans<|N i h) (λi h=>p.M<|B i h) (λi h=>(gO<|p.r _ (B i h) id).trans<|O i h) (λg s W b c h r=> ?_) R 0 Z (λ_=>gt) l₁ _ (Æ Á 0 0) (Æ Á 0 0) ⟨gq.gd m.r,⟨U,Ã ⟨U,U⟩⟩,⟨U,Ã ⟨U,U⟩⟩,λk e=>(by cases e),λk e=>(by cases e),λk e=>(by cases e),λk x o=> ?_,T,rfl,λk X x o=> ?_⟩ ⟨rfl,rfl,rfl,rfl,rfl,rfl,rfl⟩
 .have Y:=h.r.N m;obtain⟨y0,y1,y2,y3,E,F,y6,y7,y8,y9,xB,zD,xC,rY,td,qZ,vL,vM,uK,uL,uM,tf,tg,tj,rT,s6,rU,pH,oC,qf,qg,qh,uw,s7,s8,rV,qV,uy,uz,uA,uB,uC,uD,uE,uF,uG,qi,qj,rfl⟩:=Lx W r.r;obtain rfl:b=E:=(show E=b by simpa using r.N).symm;obtain rfl:c=F:=(show F=c by simpa using r.S).symm;obtain rfl:y6=À (Â ⟨g<|fO kd R,0,Á⟩):=by simpa using r.Y
  obtain rfl:rY=Æ ra R cr:=by simpa using r.C
  obtain rfl:td=Ê Î R:=by simpa using r.I
  obtain rfl:qZ=Ê Î R:=by simpa using r.M
  have gV:¬((R:Int)<(R:Int)):=Z
  apply fN (n:=40) Y.r;simp only[B9];conv in HQ=>whnf
  conv in Sl=>whnf
  repeat w_go fu
  u_in fu hF
  refine akc U U ų U ⟨by u_nil,?_⟩;walk_nrm;refine Ë λ_ _=> ?_;have H:=h.S;refine P g s b c ⟨p.fi h.r,h.jT,h.mN,λk e=>⟨(h.C k e).1,Õ p.I (h.C k e).2⟩,λk e=>⟨(h.I k e).1,Õ p.I (h.I k e).2⟩,h.M,H▸t.r h.r id,λk x o=>(h.N k x o).1,λk hk=> ?_,h.Y⟩;by_cases h0:k=0
  .subst h0;rw[H];exact⟨D,λe=>by have:=(h.C _ e).2;omega,λe=>by have:=(h.I _ e).2;omega⟩
  .let⟨_,a2,a3,a4⟩:=h.N k Z hk;exact⟨Õ p.I a2,a3,a4⟩
 .have:k<=0:=o;omega
 .have:X<=0:=o;omega
end
noncomputable def Z7:Ę:=kJ Tryz.f37 []
noncomputable def EH (a b:Ï) (n:Nat) (c:List é):Ý:=G ((base 37).at ⟨#[a,b,Ê Î n,Å,Å,Å,Å,Å,Å,Å,Å,Å,Å,Å,Å,Å,Å,Å,Å,Å,Å,Å,Å,Å,Å,Å,Å,Å,Å,Å,Å,Å,Å,Å,Å,Å,Å,Å,Å,Å,Å,Å,Å,Å,Å,Å,Å,Å,Å],[]⟩ [ö Z7]) c
def HU.vS{kd:Nat->Int}{rq:Nat->Nat}{R:Nat}{l a b:ff}(h:HU kd rq D R v x z l a)(k:gq fh a b):HU kd rq D R v x z l b:= ⟨h.Y.fi k,oc h.jT λj e=>k.r j (Ã (h.r j e).1) id,oc h.mN λj e=>k.r j (Ã (h.C j e).1) id,λj e=>⟨k.O j (h.r j e).1,(h.r j e).2⟩,λj e=>⟨k.O j (h.C j e).1,(h.C j e).2⟩,h.dis,h.N.r k id,λj c d=>(h.I j c d).r k id,h.M,h.S⟩
abbrev xL(R:Nat):Ÿ:=É (madeCells (Ŵ<|à ⟨#[]⟩) R) 9
structure LA(kd:Nat->Int)(rq g:Nat->Nat)(R:Nat)(iv qv sv:Ï)(an ba bi all bw bf:Nat)(l lp l':ff):Prop where
 C:gq fh l l'
 r:HU kd rq g R iv qv sv lp l'
 I:ig l' an (xL R)
 a:ig l' ba (É #[Æ (Â ⟨an,0,Á⟩) R R] 25)
 c:ig l' bi (É #[iv] 85)
 Y:ig l' all (É #[Ê ê 4294967296,Ê Ď 0] 97)
 d:ig l' bw (É #[À<|Â ⟨all,0,Á⟩] 162)
 b:ig l' bf (É #[Ĉ (ù 48) #[] #[À<|Â ⟨bi,0,Á⟩,À<|Â ⟨ba,0,Á⟩]] 1)
 M:l.w.heap.size<=an/\an<ba/\ba<lp.w.heap.size
 N:∀k,k<=fO kd R->g k<bi
 o3:∀k,iv.ownBlock=Â k->k<bi
 o4:∀k,qv.ownBlock=Â k->k<bi
 S:bi<all/\all<bw/\bw<bf
section
variable{J:Jd}{l:ff}{ra:Option â}{rb cr R:Nat}{sa:Option â}{sn sc:Nat}{kd:Nat->Int}{rq:Nat->Nat}
def akg(C:gC l)(G:¬l.q)(hd:l.d=0)(hR:R<1000)(HY:0<R->ra=Â ⟨rb,0,Á⟩)(vT:0<R->l.M rb)(HZ:∀i,i<R->l.w.cell? ⟨rb,i,Á⟩=Â (À<|Â ⟨rq i,0,Á⟩))(KG:∀i,i<R->l.M (rq i))(H0:∀i,i<R->l.w.cell? ⟨rq i,4,Á⟩=Â (Ê Î<|kd i)) (hJ:∀g lp l' t iv qv H y z D W bf v1,LA kd rq g R iv qv (Æ sa sn sc) H y z D W bf l lp l'->HL y D (g<|fO kd R) n qv t->J l' (BU (À<|Â ⟨D,0,Á⟩) v1 (À<|Â ⟨D,0,Á⟩) (ñ #[]) W bf<|EE t::qX)): fl Ä Ò J l (EH (Æ sa sn sc) (Æ ra R cr) n qX):=by
 have hF:True:=trivial;have Z8:Ä.info? 9=Â Ġ:=Tryz.type9;have P4:∀w:ß,(Ŏ 25 (Ê Î (R:Int))<|Ê Î (R:Int)).run Ä w=.ok (Æ (Â ⟨w.heap.size,0,Á⟩) R R) (w.alloc<|xL R):=λw=>by have:=run_makeSlice (P:=Ä) w 25 9 Ġ (à ⟨#[]⟩) ľ Z8 U Î Î (R:Int) (R:Int) Z Z (by simp[Ġ];omega) (by simp[Ġ];omega) Z;simpa[Ġ]using this
 have hme:∀w:ß,(Ŏ 25 (Ê Î (R:Int))<|Ê Î (R:Int)).events Ä w #[]=#[]:=λw=>
  events_make (P:=Ä) w 25 9 Ġ (à ⟨#[]⟩) ľ Z8 U Î Î (R:Int) (R:Int) Z Z (by simp[Ġ];omega) Z (by simp[Ġ];omega) _
 apply fN (n:=40) C.r;simp only[EH];conv in Z7=>whnf
 repeat w_go fu
 refine Ë λ_ _=> ?_;refine pK (V:=λp=>Æ (Â ⟨p,0,Á⟩) R R) (ob:=xL R) U U (by k_ne) C.r G (λw=>by have k:=P4 w;go_simp) (λw=>by have k:=hme w;simp[go_sem,k]) λc m=> ?_;walk_nrm;have a:=nh (X:=fh) (ob:=xL R) C m;have r:ig (gK l c<|xL R) c.heap.size (xL R):=⟨Ç U,ng⟩;have han:l.w.heap.size<=c.heap.size:=m.r;generalize gK l c (xL R)=l1 at a r|-;generalize c.heap.size=H at r han|-;clear m c;have Sz:gq fh l l1:=a;have SA:=Sz.N C;have akh:¬l1.q:=by rwa[Sz.q]
 have avb:l.w.heap.size<=l1.w.heap.size:=a.I;clear a;have lan:=SA.fA H<|Ã r.ft;refine pK (V:=λp=>À<|Â ⟨p,0,Á⟩) (ob:=É #[Æ Á 0 0] 25) U U (by k_ne) SA.r akh (λw=>by go_simp) (λw=>by simp[go_sem]) λc m=> ?_;walk_nrm;have a:=nh (X:=fh) (ob:=É #[Æ Á 0 0] 25) SA m;have f:ig (gK l1 c<|É #[Æ Á 0 0] 25) c.heap.size (É #[Æ Á 0 0] 25):=⟨Ç U,ng⟩;have Z9:l1.w.heap.size<=c.heap.size:=m.r;generalize gK l1 c (É #[Æ Á 0 0] 25)=l2 at a f|-;generalize c.heap.size=y at f Z9|-;clear m c;have SB:gq fh l l2:=Sz.fi a;replace r:=r.r a id;have SC:=SB.N C;have aki:¬l2.q:=by rwa[SB.q]
 have avc:l1.w.heap.size<=l2.w.heap.size:=a.I;clear a;have lba:=SC.fA y<|Ã f.ft;refine Ht (p:=y) (off:=0) (v:=Æ (Â ⟨H,0,Á⟩) R R) (u:=Æ Á 0 0) U U (by k_ne) SC.r aki f.ft (f.C U) (by simp[î,f.I]) U (λw o F=>by go_simp) (λw o F=>by simp[go_sem,á _ _ _ _ _ _ (show Ø (Æ (Â ⟨H,0,Á⟩) R R)=Ò from rfl),o,F]) ?_;have a:=Ld (X:=λb=>b=y) (p:=y) (w':=l2.w.setCell ⟨y,0,Á⟩<|Æ (Â ⟨H,0,Á⟩) R R) SC (fI.gd _ _) f.ft U j4 λj E=>lD E;replace f:ig ({l2 with w:=l2.w.setCell ⟨y,0,Á⟩ (Æ (Â ⟨H,0,Á⟩) R R)}:ff) y (É #[Æ (Â ⟨H,0,Á⟩) R R] 25):=⟨f.ft,by show(l2.w.setCell ⟨y,0,Á⟩<|Æ (Â ⟨H,0,Á⟩) R R).heap[y]?=_;unfold þ;simp[í,f.I]⟩;generalize({l2 with w:=l2.w.setCell ⟨y,0,Á⟩ (Æ (Â ⟨H,0,Á⟩) R R)}:ff)=l3 at a f|-;have S:gq fh l l3:=SB.vS a λj E e=>by have:=C.fA j E;omega
 replace r:=r.r a Z;have a_:=S.N C;have akj:¬l3.q:=by rwa[S.q]
 have avd:l2.w.heap.size<=l3.w.heap.size:=a.I;clear a;apply fN (n:=20) a_.r;iterate 5 w_go fu
 u_call ų fS Ĝ fu hF
 refine Ë λ_ _=> ?_;refine akf (l:=l3) (kd:=kd) (rq:=rq) (ra:=ra) (rb:=rb) (cr:=cr) (R:=R) (sa:=sa) (sn:=sn) (sc:=sc) a_ akj (by rwa[S.d]) hR HY (λh=>S.M<|vT h) (λi k=>(gO<|S.r rb (vT Z) id).trans<|HZ i k) (λi k=>S.M<|KG i k) (λi k=>(gO<|S.r _ (KG i k) id).trans<|H0 i k) λg B iv qv T=> ?_;walk_nrm;have a:=T.Y;have SF:gq fh l B:=S.fi a;replace r:=r.r a id;replace f:=f.r a id;have L:=SF.N C;have akk:¬B.q:=by rwa[SF.q]
 have ave:l3.w.heap.size<=B.w.heap.size:=a.I;clear a;have akl:gq fh B B:=gq.gd L.r;obtain⟨I,K,rfl⟩:∃I K,iv=Æ I (fO kd R) K:=by
  rcases T.jT.2 with⟨k,s⟩|⟨b,N,Q,k,_⟩
  .exact⟨Á,0,by rwa[s]⟩
  .exact⟨_,_,k⟩
 have og:∀k,k<=fO kd R->g k<B.w.heap.size:=λk hk=>by
  by_cases s:k=0
  .subst s;exact L.fA _<|Ã T.N.ft
  .exact L.fA _<|Ã (T.I k Z hk).ft
 have oi:∀k,(Æ I (fO kd R) K).ownBlock=Â k->k<B.w.heap.size:=λk e=>L.fA _<|Ã (T.r k e).1;have oq:∀k,qv.ownBlock=Â k->k<B.w.heap.size:=λk e=>L.fA _<|Ã (T.C k e).1;apply fN (n:=20) L.r;iterate 4 w_go fu
 refine Ë λ_ _=> ?_;refine pK (V:=λp=>À<|Â ⟨p,0,Á⟩) (ob:=É #[Æ Á 0 0] 85) U U (by k_ne) L.r akk (λw=>by go_simp) (λw=>by simp[go_sem]) λc m=> ?_;walk_nrm;have a:=nh (X:=fh) (ob:=É #[Æ Á 0 0] 85) L m;have s:ig (gK B c<|É #[Æ Á 0 0] 85) c.heap.size (É #[Æ Á 0 0] 85):=⟨Ç U,ng⟩;have SG:B.w.heap.size<=c.heap.size:=m.r;generalize gK B c (É #[Æ Á 0 0] 85)=l5 at a s|-;generalize c.heap.size=z at s SG|-;clear m c;have SH:gq fh l l5:=SF.fi a;have akm:gq fh B l5:=akl.fi a;replace r:=r.r a id;replace f:=f.r a id;have SJ:=SH.N C;have akn:¬l5.q:=by rwa[SH.q]
 have avf:B.w.heap.size<=l5.w.heap.size:=a.I;clear a;have lbi:=SJ.fA z<|Ã s.ft;refine Ht (p:=z) (off:=0) (v:=Æ I (fO kd R) K) (u:=Æ Á 0 0) U U (by k_ne) SJ.r akn s.ft (s.C U) (by simp[î,s.I]) U (λw o F=>by go_simp) (λw o F=>by simp[go_sem,á _ _ _ _ _ _ (show Ø (Æ I (fO kd R) K)=Ò from rfl),o,F]) ?_;have a:=Ld (X:=λb=>b=z) (p:=z) (w':=l5.w.setCell ⟨z,0,Á⟩<|Æ I (fO kd R) K) SJ (fI.gd _ _) s.ft U j4 λj E=>lD E;replace s:ig ({l5 with w:=l5.w.setCell ⟨z,0,Á⟩ (Æ I (fO kd R) K)}:ff) z (É #[Æ I (fO kd R) K] 85):=⟨s.ft,by show(l5.w.setCell ⟨z,0,Á⟩<|Æ I (fO kd R) K).heap[z]?=_;unfold þ;simp[í,s.I]⟩;generalize({l5 with w:=l5.w.setCell ⟨z,0,Á⟩ (Æ I (fO kd R) K)}:ff)=l6 at a s|-;have SK:gq fh l l6:=SH.vS a λj E e=>by have:=C.fA j E;omega
 have ako:gq fh B l6:=akm.vS a λj E e=>by have:=L.fA j E;omega
 replace r:=r.r a Z;replace f:=f.r a Z;have SL:=SK.N C;have akp:¬l6.q:=by rwa[SK.q]
 have avg:l5.w.heap.size<=l6.w.heap.size:=a.I;clear a;apply fN (n:=20) SL.r;iterate 5 w_go fu
 refine Ë λ_ _=> ?_;refine pK (V:=λp=>À<|Â ⟨p,0,Á⟩) (ob:=É #[Ê ê 0,Ê Ď 0] 97) U U (by k_ne) SL.r akp (λw=>by go_simp) (λw=>by simp[go_sem]) λc m=> ?_;walk_nrm;have a:=nh (X:=fh) (ob:=É #[Ê ê 0,Ê Ď 0] 97) SL m;have F:ig (gK l6 c<|É #[Ê ê 0,Ê Ď 0] 97) c.heap.size (É #[Ê ê 0,Ê Ď 0] 97):=⟨Ç U,ng⟩;have nK:l6.w.heap.size<=c.heap.size:=m.r;generalize gK l6 c (É #[Ê ê 0,Ê Ď 0] 97)=l7 at a F|-;generalize c.heap.size=D at F nK|-;clear m c;have SN:gq fh l l7:=SK.fi a;have akq:gq fh B l7:=ako.fi a;replace r:=r.r a id;replace f:=f.r a id;replace s:=s.r a id;have LB:=SN.N C;have akr:¬l7.q:=by rwa[SN.q]
 have avh:l6.w.heap.size<=l7.w.heap.size:=a.I;clear a;have avi:=LB.fA D<|Ã F.ft;apply fN (n:=20) LB.r;iterate 4 w_go fu
 u_call Ħ fS Μ fu hF
 iterate 2 w_go fu
 refine Ë λ_ _=> ?_;refine pK (V:=λp=>À<|Â ⟨p,0,Á⟩) (ob:=É #[À<|Â ⟨D,0,Á⟩] 162) U U (by k_ne) LB.r akr (λw=>by go_simp) (λw=>by simp[go_sem]) λc m=> ?_;walk_nrm;have a:=nh (X:=fh) (ob:=É #[À<|Â ⟨D,0,Á⟩] 162) LB m;have N:ig (gK l7 c<|É #[À<|Â ⟨D,0,Á⟩] 162) c.heap.size (É #[À<|Â ⟨D,0,Á⟩] 162):=⟨Ç U,ng⟩;have B4:l7.w.heap.size<=c.heap.size:=m.r;generalize gK l7 c (É #[À<|Â ⟨D,0,Á⟩] 162)=l8 at a N|-;generalize c.heap.size=W at N B4|-;clear m c;have SO:gq fh l l8:=SN.fi a;have aks:gq fh B l8:=akq.fi a;replace r:=r.r a id;replace f:=f.r a id;replace s:=s.r a id;replace F:=F.r a id;have SQ:=SO.N C;have akt:¬l8.q:=by rwa[SO.q]
 have avj:l7.w.heap.size<=l8.w.heap.size:=a.I;clear a;have lbw:=SQ.fA W<|Ã N.ft;refine pK (V:=λp=>À<|Â ⟨p,0,Á⟩) (ob:=É #[Ĉ (ù 48) #[] #[À<|Â ⟨z,0,Á⟩,À<|Â ⟨y,0,Á⟩]] 1) U U (by k_ne) SQ.r akt (λw=>by go_simp) (λw=>by simp[go_sem]) λc m=> ?_;walk_nrm;have a:=nh (X:=fh) (ob:=É #[Ĉ (ù 48) #[] #[À<|Â ⟨z,0,Á⟩,À<|Â ⟨y,0,Á⟩]] 1) SQ m;have Y:ig (gK l8 c<|É #[Ĉ (ù 48) #[] #[À<|Â ⟨z,0,Á⟩,À<|Â ⟨y,0,Á⟩]] 1) c.heap.size (É #[Ĉ (ù 48) #[] #[À<|Â ⟨z,0,Á⟩,À<|Â ⟨y,0,Á⟩]] 1):=⟨Ç U,ng⟩;have Lu:l8.w.heap.size<=c.heap.size:=m.r;generalize gK l8 c (É #[Ĉ (ù 48) #[] #[À<|Â ⟨z,0,Á⟩,À<|Â ⟨y,0,Á⟩]] 1)=l9 at a Y|-;generalize c.heap.size=bf at Y Lu|-;clear m c;have LC:gq fh l l9:=SO.fi a;have aku:gq fh B l9:=aks.fi a;replace r:=r.r a id;replace f:=f.r a id;replace s:=s.r a id;replace F:=F.r a id;replace N:=N.r a id;have H2:=LC.N C;have b_:¬l9.q:=by rwa[LC.q]
 have avk:l8.w.heap.size<=l9.w.heap.size:=a.I;clear a;have lbf:=H2.fA bf<|Ã Y.ft;apply fN (n:=20) H2.r;iterate 3 w_go fu
 refine Ë λ_ _=> ?_;apply o5 (x:=⟨W,0,Á⟩) U U (by k_ne) H2.r b_ (Ã<|Ã N.ft) (N.C U) (λw h=>by go_simp) (λw h=>by simp[go_sem,h]);walk_nrm;apply fN (n:=20) H2.r;u_call qY.f_add (nm_add Lk) addFn fu hF;refine Ë λ_ _=> ?_;refine ZY qY H2 b_ (by rwa[LC.d]) F.ft F.I U U λQ hC=> ?_;walk_nrm;have a:gq (λb=>b=D) l9 Q:=hC.r;replace F:ig Q D (É #[Ê ê 4294967296,Ê Ď 0] 97):=⟨hC.r.O D F.ft,hC.C⟩;have SR:gq fh l Q:=LC.vS a λj E e=>by have:=C.fA j E;omega
 have akv:gq fh B Q:=aku.vS a λj E e=>by have:=L.fA j E;omega
 replace r:=r.r a Z;replace f:=f.r a Z;replace s:=s.r a Z;replace N:=N.r a Z;replace Y:=Y.r a Z;have akw:=SR.N C;have avl:¬Q.q:=by rwa[SR.q]
 have avm:l9.w.heap.size<=Q.w.heap.size:=a.I;clear a;apply fN (n:=20) akw.r;iterate 3 w_go fu
 refine Ë λ_ _=> ?_;refine .fD λB7 xK=> ?_;have at9:∀{b:Nat} {o:Ÿ},ig Q b o->ig ({Q with w:=B7}:ff) b o:=λh=>⟨h.ft,(xK.I _<|Ã h.ft).trans h.I⟩;exact hJ g l3 {Q with w:=B7} _ (Æ I (fO kd R) K) qv H y z D W bf _ ⟨SR.G xK,T.vS<|akv.G xK,at9 r,at9 f,at9 s,at9 F,at9 N,at9 Y,⟨Z,Z,Z⟩,λk hk=>by have:=og k hk;omega,λk e=>by have:=oi k e;omega,λk e=>by have:=oq k e;omega,⟨Z,Z,Z⟩⟩ ⟨U,U,U,U,U,U⟩
end
def akx{md:ý}{listed:Array Bool}(h:Û md Q listed=[]):∀(a t:Nat),ë md Q a t listed []=[]:=by
 intro a t;cases a with
 |zero=>rfl
 |succ a=>
  simp only[ë];change(match(Û md Q listed)[t%(Û md Q listed).length]? with
   |some i=>ë md Q a (t/(Û md Q listed).length) (listed.setIfInBounds i Ò) [i]
   |none=>[].reverse)=[]
  rw[h];rfl
section
variable{J:Jd}{l:ff}
def c_{md:ý}(I:Array Bool->ŏ->ff->Prop) (p:∀b a l i k,I b a l->b.size=Q.size->i∈Û md Q b->(Û md Q (b.setIfInBounds i Ò)=[]->k=[])->fl P yQ (λg m=>(∃h,m=G (f.at h<|Ñ Q k::L) qX/\I (b.setIfInBounds i Ò) h g)\/fl P yQ J g m) l (G (f.at a<|Ñ Q (i::k)::L) qX)) (o:∀b a l,I b a l->b.size=Q.size->Û md Q b=[]->fl P yQ J l (G (f.at a<|Ñ Q []::L) qX)): ∀(c t:Nat) (b:Array Bool) (a:ŏ) (l:ff),b.size=Q.size->jz b<=c->I b a l->fl P yQ J l (G (f.at a<|Ñ Q (ë md Q c t b [])::L) qX):=by
 intro c
 induction c with
 |zero=>
  intro t b a l d q j;simpa[ë]using o b a l j d<|Rz d Z
 |succ c r=>
  intro t b a l d q j;simp only[ë];change fl P yQ J l (G (f.at a (Ñ Q (match(Û md Q b)[t%(Û md Q b).length]? with
   |some i=>ë md Q c (t/(Û md Q b).length) (b.setIfInBounds i Ò) [i]
   |none=>[].reverse)::L)) qX)
  cases n:(Û md Q b)[t%(Û md Q b).length]? with
  |none=>
   have s:Û md Q b=[]:=by
    cases u:Û md Q b with
    |nil=>rfl
    |cons x e=>
     rw[u]at n;have v:t%(x::e).length<(x::e).length:=ĵ _ fq;simp at n;simp at v;omega
   simpa using o b a l j d s
  |some i=>
   simp only[];rw[linearise_go_acc,List.reverse_singleton,List.singleton_append];have x:=ħ n;refine(p b a l i _ j d x λe=>akx e _ _).lL ?_;rintro g m (⟨h,rfl,hI'⟩|hW)
   .exact r _ _ h g (by simpa using d) (by have:=K3 (mem_ready.1 x).1;omega) hI'
   .exact hW
def aky{id:Nat}(I:Array Bool->ŏ->ff->Prop)(o:kr l)(p:¬l.q) (g:∀c,fI l l.w c->I (Array.replicate Q.size Ì) y {l with w:={c with drawn:=c.drawn+1}}) (h:∀d b y l i e,I b y l->b.size=Q.size->i∈Û d Q b->(Û d Q (b.setIfInBounds i Ò)=[]->e=[])->fl P yQ (λj k=>(∃m,k=G (f.at m<|Ñ Q e::L) qX/\I (b.setIfInBounds i Ò) m j)\/fl P yQ J j k) l (G (f.at y<|Ñ Q (i::e)::L) qX)) (n:∀d b y l,I b y l->b.size=Q.size->Û d Q b=[]->fl P yQ J l (G (f.at y<|Ñ Q []::L) qX)): fl P yQ J l (G (f.at y<|ö (ä id Q Ò)::L) qX):=by
 refine .mk U λc r=>⟨_,_,_,_,stepG_region_draw,Ry (mM o r) p,?_⟩;unfold Region.schedule;split
 .exact c_ I (h _) (n _) _ _ _ _ _ fq (by rw[Eh];exact Ú _)<|g c r
 .exact c_ I (h _) (n _) _ _ _ _ _ fq (by rw[Eh];exact Ú _)<|g c r
end
def Ca:å:=⟨Â 15,ę<|Ù 1,100, "work.go:72",#[],Á⟩
def Cb:å:=⟨Â 16,ę<|Ù 4,3, "work.go:72",#[],Á⟩
def Cc:å:=⟨Â 17,ę<|Ù 1,100, "work.go:72",#[],Á⟩
def xM:å:=⟨Â 18,Ě {callee:=Ŕ .len,args:=#[Ù 17],argTypes:=#[100]},3, "work.go:72",#[⟨2,Ü⟩],Á⟩
def uQ:å:=⟨Â 19,Λ .rem 3 (Ù 16) (Ù 18) 3,3, "work.go:72",#[⟨1,Ü⟩,⟨3,Ü⟩],Á⟩
def uR:å:=⟨Â 20,ő 100 (Ù 15)<|Ù 19,0, "work.go:72",#[⟨0,Ü⟩,⟨4,Ü⟩],Á⟩
def xN:å:=⟨Â 21,ć 101<|Ù 20,101, "work.go:72",#[⟨5,Ü⟩],Á⟩
def Cd:å:=⟨Â 22,ć 155<|Ù 5,155, "work.go:72",#[],Á⟩
def xO:å:=⟨Á,.send (Ù 21)<|Ù 22,0, "work.go:72",#[⟨6,Ü⟩,⟨7,Ü⟩],Á⟩
def oh:Array å:=#[Ca,Cb,Cc,xM,uQ,uR,xN,Cd,xO]
noncomputable def LD:Ę:=kJ Ŗ [1,1,0,0]
noncomputable def d_:Ę:=kJ Ŗ [1]
noncomputable def LF:Ę:=kJ Ŗ [0,1,0,0]
noncomputable def vU (t:Array Ï) (a:List é):Ý:=G ((base 52).at ⟨t,[]⟩ [ö LF,ą LF,ô 0,ö d_]) a
structure DT(dv:Ï)(qb:Option â)(q cq i:Nat)(t:Array Ï):Prop where
 r:t.size=32
 C:t[1]?=Â dv
 t8:t[8]?=Â (Æ qb q cq)
 M:t[9]?=Â (Ê Î q)
 I:t[10]?=Â (Ê Î i)
def H3(t:Array Ï)(h:t.size=32):∃a b c d e f g i j k l m n o p q r s u v w x y z B C D E F G H I:Ï,t=#[a,b,c,d,e,f,g,i,j,k,l,m,n,o,p,q,r,s,u,v,w,x,y,z,B,C,D,E,F,G,H,I]:=by obtain⟨_,rfl⟩:=uJ t h;exact⟨_,_,_,_,_,_,_,_,_,_,_,_,_,_,_,_,_,_,_,_,_,_,_,_,_,_,_,_,_,_,_,_,U⟩
def uS(c n i a d:Nat)(b tk:Ï)(_:Unit):Nat->Ï
 |0=>b
 |1=>Ê Î i
 |2=>b
 |3=>Ê Î n
 |4=>Ê Î a
 |5=>À<|Â ⟨c,a,Á⟩
 |6=>è<|Â d
 |7=>tk
 |_=>Å
def LG(a:ff)(listed:Array Bool)(_:Unit)(l:ff):Prop:=iH fh a l/\¬listed.getD 8 Ì=Ò
section
variable{J N:Jd}{p:ff}{g s:Nat}{u:Option â}
def akz(EI:gC p)(hq:¬p.q)(ht:d.size=32)(BJ:d[1]?=Â (Æ (Â ⟨j9,0,Á⟩) n j))(Hq:d[4]?=Â (Ê Î i))(RL:d[5]?=Â (À<|Â ⟨g,0,Á⟩))(z:p.O g)(T:p.O j9)(hn:0<n)(vV:n<1000)(hi1:i<1000) (f_:i%n=j6) (V:p.w.cell? ⟨j9,j6,Á⟩=Â (è<|Â m)) (W:p.w.cell? ⟨g,0,Á⟩=Â (À u)) (X:p.w.cell? ⟨g,1,Á⟩=Â (Ê Î s)) (Y:p.w.cell? ⟨g,2,Á⟩=Â (À<|Â ⟨j7,0,Á⟩)) (c3:p.w.cell? ⟨g,3,Á⟩=Â (À O)) (hJ:∀l H,iH fh p l->H.size=32->(∀c,c<15->H[c]?=d[c]?)->AY Ä Ò m (Đ #[À u,Ê Î s,À<|Â ⟨j7,0,Á⟩,À O]) N l (G ((base 52).at ⟨H,[]⟩<|Ñ oh [8]::L) qX)->J l (G ((base 52).at ⟨H,[]⟩<|Ñ oh [8]::L) qX)) (hN:∀l H,iH fh p l->H.size=32->(∀c,c<15->H[c]?=d[c]?)->fl Ä Ò N l (G ((base 52).at ⟨H,[]⟩<|Ñ oh []::L) qX)) (md:ý) (listed:Array Bool) (a:ŏ) (l:ff) (i':Nat) (rest:List Nat) (hI:II oh d (uS j9 n i j6 m (Æ (Â ⟨j9,0,Á⟩) n j)<|Đ #[À u,Ê Î s,À<|Â ⟨j7,0,Á⟩,À O]) (LG p) listed a l) (kq:listed.size=oh.size) (C:i'∈Û md oh listed) (H4:Û md oh (listed.setIfInBounds i' Ò)=[]->rest=[]): fl Ä Ò (λD F=>(∃Q,F=G ((base 52).at Q<|Ñ oh rest::L) qX/\II oh d (uS j9 n i j6 m (Æ (Â ⟨j9,0,Á⟩) n j)<|Đ #[À u,Ê Î s,À<|Â ⟨j7,0,Á⟩,À O]) (LG p) (listed.setIfInBounds i' Ò) Q D)\/fl Ä Ò J D F) l (G ((base 52).at a<|Ñ oh (i'::rest)::L) qX):=by
 let⟨x,t,S,h8⟩:=hI;have I:uH oh d.size=Ò:=by rw[ht];decide
 have gV:=Ei C;have K:=S.fA;have M:¬l.q:=by rwa[S.q]
 have mq:a.tmps[1]?=Â (Æ (Â ⟨j9,0,Á⟩) n j):=(t.C A).trans BJ;have Sk:a.tmps[4]?=Â (Ê Î i):=(t.C A).trans Hq;have rX:a.tmps[5]?=Â (À<|Â ⟨g,0,Á⟩):=(t.C A).trans RL;have y:∀b f v,p.O b->p.w.cell? ⟨b,f,Á⟩=Â v->ic l ⟨b,f,Á⟩/\l.w.cell? ⟨b,f,Á⟩=Â v:=λb f v E h=>⟨Ã<|Ã<|S.O b E,by rwa[gO<|S.r b<|Ã E]⟩;have P:∀{k:Nat},k≠8->∀B,fI l l.w B->LG p (listed.setIfInBounds k Ò) () {l with w:=B}:=λhm B r=>⟨S.N (λ_ q=>q.elim) r,by rwa[ç Ì hm]⟩;have akA:j6<n:=by rw[<-f_];exact ĵ _ hn
 have akB:(j6:Int)<(n:Int):=Z
 have H5:¬(n:Int)=0:=Z
 have akC:¬n=0:=Z
 have htm:Int.tmod (i:Int) (n:Int)=(j6:Int):=by rw[Int.tmod_eq_emod_of_nonneg Z,<-f_];simp
 have oY:Î.wrap (j6:Int)=(j6:Int):=BM Z Z;have LH:oh.size=9:=A
 rw[LH]at gV;match i',gV with
 |0,_=>
  refine(iu (o:=Ca) I t U U C (by k_ne) K M (λB r=> ?_) (λB r e D=> ?_)<|P A).fT λ_ _ h=>Ã h
  .simp only[uS,Ca];go_simp
  .simp[go_sem,Ca,mq]at D
 |1,_=>
  refine(iu (o:=Cb) I t U U C (by k_ne) K M (λB r=> ?_) (λB r e D=> ?_)<|P A).fT λ_ _ h=>Ã h
  .simp only[uS,Cb];go_simp
  .simp[go_sem,Cb,Sk]at D
 |2,_=>
  refine(iu (o:=Cc) I t U U C (by k_ne) K M (λB r=> ?_) (λB r e D=> ?_)<|P A).fT λ_ _ h=>Ã h
  .simp only[uS,Cc];go_simp
  .simp[go_sem,Cc,mq]at D
 |3,_=>
  have F:a.tmps[17]?=Â (Æ (Â ⟨j9,0,Á⟩) n j):=t.r 2 Cc 17 U (im (o:=xM) C U U) U;refine(iu (o:=xM) I t U U C (by k_ne) K M (λB r=> ?_) (λB r e D=> ?_)<|P A).fT λ_ _ h=>Ã h
  .simp only[uS,xM];go_simp
  .simp[go_sem,xM,F]at D
 |4,_=>
  have F:a.tmps[16]?=Â (Ê Î i):=t.r 1 Cb 16 U (im (o:=uQ) C U U) U;have Q:a.tmps[18]?=Â (Ê Î n):=t.r 3 xM 18 U (im (o:=uQ) C U U) U;refine(iu (o:=uQ) I t U U C (by k_ne) K M (λB r=> ?_) (λB r e D=> ?_)<|P A).fT λ_ _ h=>Ã h
  .simp only[uS,uQ];go_simp
  .simp[go_sem,uQ,F,Q,H5,akC,htm,oY]at D
 |5,_=>
  have F:a.tmps[15]?=Â (Æ (Â ⟨j9,0,Á⟩) n j):=t.r 0 Ca 15 U (im (o:=uR) C U U) U;have Q:a.tmps[19]?=Â (Ê Î j6):=t.r 4 uQ 19 U (im (o:=uR) C U U) U;refine(iu (o:=uR) I t U U C (by k_ne) K M (λB r=> ?_) (λB r e D=> ?_)<|P A).fT λ_ _ h=>Ã h
  .simp only[uS,uR];go_simp
  .simp[go_sem,uR,F,Q,akA,akB]at D
 |6,_=>
  have Q:a.tmps[20]?=Â (À<|Â ⟨j9,j6,Á⟩):=t.r 5 uR 20 U (im (o:=xN) C U U) U;refine(iu (o:=xN) I t U U C (by k_ne) K M (λB r=> ?_) (λB r e D=> ?_)<|P A).fT λ_ _ h=>Ã h
  .have F:=((y j9 _ _ T V).1.r r).trans (y j9 _ _ T V).2;simp only[uS,xN];go_simp
  .have F:=((y j9 _ _ T V).1.r r).trans (y j9 _ _ T V).2;have hee:e=⟨û ⟨j9,j6,Á⟩,Ì,Ì⟩:=by simp[go_sem,xN,F,Q]at D;exact D
   subst hee;exact(y j9 _ _ T V).1.rd
 |7,_=>
  refine(iu (o:=Cd) I t U U C (by k_ne) K M (λB r=> ?_) (λB r e D=> ?_)<|P A).fT λ_ _ h=>Ã h
  .have F:=((y g _ _ z W).1.r r).trans (y g _ _ z W).2;have Q:=((y g _ _ z X).1.r r).trans (y g _ _ z X).2;have rf:=((y g _ _ z Y).1.r r).trans (y g _ _ z Y).2;have uO:=((y g _ _ z c3).1.r r).trans (y g _ _ z c3).2;simp only[uS,Cd];go_simp
  .have F:=((y g _ _ z W).1.r r).trans (y g _ _ z W).2;have Q:=((y g _ _ z X).1.r r).trans (y g _ _ z X).2;have rf:=((y g _ _ z Y).1.r r).trans (y g _ _ z Y).2;have uO:=((y g _ _ z c3).1.r r).trans (y g _ _ z c3).2;simp[go_sem,Cd,rX,F,Q,rf,uO]at D;rcases D with rfl|rfl|rfl|rfl
   .exact(y g _ _ z W).1.rd
   .exact(y g _ _ z X).1.rd
   .exact(y g _ _ z Y).1.rd
   .exact(y g _ _ z c3).1.rd
 |8,_=>
  have d6:=im (j:=6) (o:=xO) C U U;have d7:=im (j:=7) (o:=xO) C U U;have R4:a.tmps[21]?=Â (è<|Â m):=t.r 6 xN 21 U d6 U;have Hi:a.tmps[22]?=Â (Đ #[À u,Ê Î s,À<|Â ⟨j7,0,Á⟩,À O]):=t.r 7 Cd 22 U d7 U;have d5:=t.I (j:=5) (o:=xN) U d6 U;have d0:=t.I (j:=0) (o:=uR) U d5 U;have d4:=t.I (j:=4) (o:=uR) U d5 U;have d1:=t.I (j:=1) (o:=uQ) U d4 U;have d3:=t.I (j:=3) (o:=uQ) U d4 U;have d2:=t.I (j:=2) (o:=xM) U d3 U;have nK:Û md oh (listed.setIfInBounds 8 Ò)=[]:=by
   rw[List.eq_nil_iff_forall_not_mem];intro f hj;have Ce:=Ei hj;have F:=RG hj;rw[LH]at Ce;by_cases Q:f=8
   .subst Q;have D:8<listed.size:=by rw[kq,LH];decide
    simp[D]at F
   .rw[ç Ò<|Ne.symm Q]at F;have D:=xy F;match f,Ce,Q with
    |0,_,_=>exact D d0
    |1,_,_=>exact D d1
    |2,_,_=>exact D d2
    |3,_,_=>exact D d3
    |4,_,_=>exact D d4
    |5,_,_=>exact D d5
    |6,_,_=>exact D d6
    |7,_,_=>exact D d7
    |8,_,h=>exact h U
  obtain rfl:=H4 nK;let⟨F,ds⟩:=a;obtain rfl:ds=[]:=t.M;have H6:F.size=32:=t.S.trans ht;have LJ:∀c,c<15->F[c]?=d[c]?:=λc hd=>t.b c λf o E _ e=>by
   have Ce:=(æ.1 E).1;rw[LH]at Ce;match f,Ce with
   |0,_=>
    have D:o=Ca:=(Ó<|show Â Ca=Â o from E).symm;rw[D]at e;have Q:15=c:=Ó (show Â 15=Â c from e);omega
   |1,_=>
    have D:o=Cb:=(Ó<|show Â Cb=Â o from E).symm;rw[D]at e;have Q:16=c:=Ó (show Â 16=Â c from e);omega
   |2,_=>
    have D:o=Cc:=(Ó<|show Â Cc=Â o from E).symm;rw[D]at e;have Q:17=c:=Ó (show Â 17=Â c from e);omega
   |3,_=>
    have D:o=xM:=(Ó<|show Â xM=Â o from E).symm;rw[D]at e;have Q:18=c:=Ó (show Â 18=Â c from e);omega
   |4,_=>
    have D:o=uQ:=(Ó<|show Â uQ=Â o from E).symm;rw[D]at e;have Q:19=c:=Ó (show Â 19=Â c from e);omega
   |5,_=>
    have D:o=uR:=(Ó<|show Â uR=Â o from E).symm;rw[D]at e;have Q:20=c:=Ó (show Â 20=Â c from e);omega
   |6,_=>
    have D:o=xN:=(Ó<|show Â xN=Â o from E).symm;rw[D]at e;have Q:21=c:=Ó (show Â 21=Â c from e);omega
   |7,_=>
    have D:o=Cd:=(Ó<|show Â Cd=Â o from E).symm;rw[D]at e;have Q:22=c:=Ó (show Â 22=Â c from e);omega
   |8,_=>
    have D:o=xO:=(Ó<|show Â xO=Â o from E).symm;rw[D]at e;cases(show Á=Â c from e)
  refine .fD λB r=>Ç (.fD λxe D=> ?_);have Q:iH fh p ({l with w:=xe}:ff):=S.N (λ_ q=>q.elim)<|r.fi ⟨D.r,D.I,D.N,D.Y,D.S⟩;refine hJ _ F Q H6 LJ ⟨U,U,λD=>⟨ñ #[],?_⟩,?_⟩
  .refine(Ż (cases:=#[scase m (Đ #[À u,Ê Î s,À<|Â ⟨j7,0,Á⟩,À O])<|ñ #[]]) (blocking:=Ò) (shape:=.send) (w':=D) (o:=xO) rfl rfl (by k_ne) ?_).trans ?_
   .simp[go_sem,xO,ĉ,scase,ĥ,R4,Hi]
   .have:ŗ Ä (base 52).fn ⟨F,[]⟩ xO D=#[]:=by
     unfold ŗ;simp[go_sem,xO,ĉ,ĥ,R4,Hi,Ī]
    rw[this]
  .have e:({G ((base 52).at ⟨F,[]⟩<|Ñ oh [8]::L) qX with frame:=(G ((base 52).at ⟨F,[]⟩<|Ñ oh [8]::L) qX).frame.finish Å}:Ý)=G ((base 52).at ⟨F,[]⟩<|Ñ oh []::L) qX:=by
    have:(G ((base 52).at ⟨F,[]⟩<|Ñ oh [8]::L) qX).frame.finish Å=(base 52).at (Ο ⟨F,[]⟩ Á Å) (Ñ oh []::L):=Ģ _ _ _ _ _ _ _;rw[this];rfl
   rw[e];exact hN _ F Q H6 LJ
 |n+9,h=>exact absurd h Z
end
section
variable{N:Jd}{l:ff}{f:Option â}
theorem akD(s:gC l)(K:¬l.q)(G:DT (Æ (Â ⟨J,0,Á⟩) n j) (Â ⟨j6,0,Á⟩) b m i d)(hiq:i<b)(BW:b<1000)(hn:0<n)(vV:n<1000)(g_:l.O J)(cd:l.w.cell? ⟨J,i%n,Á⟩=Â (è<|Â k))(SS:l.M j6) (i0:l.w.cell? ⟨j6,i*4,Á⟩=Â (À f)) (i1:l.w.cell? ⟨j6,i*4+1,Á⟩=Â (Ê Î j7)) (i2:l.w.cell? ⟨j6,i*4+2,Á⟩=Â (À<|Â ⟨j9,0,Á⟩)) (i3:l.w.cell? ⟨j6,i*4+3,Á⟩=Â (À O)) (hN:∀t H,iH fh l t->DT (Æ (Â ⟨J,0,Á⟩) n j) (Â ⟨j6,0,Á⟩) b m (i+1) H->fl Ä Ò N t (vU H qX)): fl Ä Ò (AY Ä Ò k (Đ #[À f,Ê Î j7,À<|Â ⟨j9,0,Á⟩,À O]) N) l (vU d qX):=by
 obtain⟨y0,y1,y2,y3,y4,y5,y6,y7,y8,y9,xB,zD,xC,rY,td,qZ,vL,vM,uK,uL,uM,tf,tg,tj,rT,s6,rU,pH,oC,qf,qg,qh,rfl⟩:=H3 d G.r;obtain rfl:y1=Æ (Â ⟨J,0,Á⟩) n j:=by simpa using G.C
 obtain rfl:y8=Æ (Â ⟨j6,0,Á⟩) b m:=by simpa using G.t8
 obtain rfl:y9=Ê Î b:=by simpa using G.M
 obtain rfl:xB=Ê Î i:=by simpa using G.I
 have rZ:∀y:â,False->l.r y:=λy ha=>ha.elim;have avn:(i:Int)<(b:Int):=Z
 have hF:True:=trivial;simp only[vU];conv in LF=>whnf
 apply fN (n:=30) s.r;repeat w_go fu
 refine Ë λ_ _=> ?_;have g:∀c,ic l ⟨j6,c,Á⟩:=λc=>Ã SS;refine oa (v:=Đ #[À f,Ê Î j7,À<|Â ⟨j9,0,Á⟩,À O]) U U (by k_ne) s.r K (λo r=> ?_) (λo r e h=> ?_) ?_
 .have u:=((g<|i*4).r r).trans i0;have z:=((g<|i*4+1).r r).trans i1;have B:=((g<|i*4+2).r r).trans i2;have C:=((g<|i*4+3).r r).trans i3;go_simp
 .have u:=((g<|i*4).r r).trans i0;have z:=((g<|i*4+1).r r).trans i1;have B:=((g<|i*4+2).r r).trans i2;have C:=((g<|i*4+3).r r).trans i3;simp[go_sem,u,z,B,C]at h;rcases h with rfl|rfl|rfl|rfl
  .exact(g _).rd
  .exact(g _).rd
  .exact(g _).rd
  .exact(g _).rd
 walk_nrm;refine Hj (ob:=É #[À Á,Ê Î 0,À Á,À Á] 155) U U (by k_ne) s.r K (λw=>by go_simp) (λw=>by simp[go_sem]) λo X=> ?_;walk_nrm;have D:iH fh l (gK l o<|É #[À Á,Ê Î 0,À Á,À Á] 155):=K8 s rZ X;have L:(gK l o<|É #[À Á,Ê Î 0,À Á,À Á] 155).w.heap[o.heap.size]?=Â (É #[À Á,Ê Î 0,À Á,À Á] 155):=ng;have tq:l.w.heap.size<=o.heap.size:=X.r;have q:(gK l o<|É #[À Á,Ê Î 0,À Á,À Á] 155).O o.heap.size:=Ç U;generalize gK l o (É #[À Á,Ê Î 0,À Á,À Á] 155)=l₁ at D L q|-;generalize o.heap.size=tb at L q tq|-;apply fN (n:=3) D.fA;w_go fu;refine Ë λ_ _=> ?_;refine vH U U (by k_ne) λr P=> ?_;have E:r.heap[tb]?=_:=(P.I tb<|Ã q).trans L;have u:r.cell? ⟨tb,0,Á⟩=Â (À Á):=by simp[Ö,E]
 have z:r.cell? ⟨tb,1,Á⟩=Â (Ê Î 0):=by simp[Ö,E]
 have B:r.cell? ⟨tb,2,Á⟩=Â (À Á):=by simp[Ö,E]
 have C:r.cell? ⟨tb,3,Á⟩=Â (À Á):=by simp[Ö,E]
 have hz:∀c,r.frozen? ⟨tb,c,Á⟩=Ì:=λc=>by simp[î,E]
 go_simp;refine⟨{l₁ with w:=iY r tb (À f) (Ê Î j7) (À<|Â ⟨j9,0,Á⟩) (À O)},K9 (p:=tb) (mM D.fA P) (by rwa[D.q]) q xA (λc x=>zy x) ⟨U,U,U⟩ λe h=> ?_,?_⟩
 .have a:=đ h;have e:∀c,qk l₁ ⟨tb,c,Á⟩:=λc=>Ã q;simp[go_sem,á _ _ _ _ _ _ (show Ø (À f)=Ò from rfl),á _ _ _ _ _ _ (show Ø (À<|Â ⟨j9,0,Á⟩)=Ò from rfl),á _ _ _ _ _ _ (show Ø (À O)=Ò from rfl),u,z,B,C,hz]at a;rcases a with rfl|rfl|rfl|rfl
  .exact(e _).r
  .exact(e _).r
  .exact(e _).r
  .exact(e _).r
 let⟨Q,S,T,V⟩:=RV (v0:=À f) (v1:=Ê Î j7) (v2:=À<|Â ⟨j9,0,Á⟩) (v3:=À O) u z B C;have F:=RY (w':=iY r tb (À f) (Ê Î j7) (À<|Â ⟨j9,0,Á⟩)<|À O) s rZ D P tq xA λc x=>zy x;have BN:({l₁ with w:=iY r tb (À f) (Ê Î j7) (À<|Â ⟨j9,0,Á⟩) (À O)}:ff).O tb:=q;replace Q:({l₁ with w:=iY r tb (À f) (Ê Î j7) (À<|Â ⟨j9,0,Á⟩) (À O)}:ff).w.cell? ⟨tb,0,Á⟩=_:=Q;replace S:({l₁ with w:=iY r tb (À f) (Ê Î j7) (À<|Â ⟨j9,0,Á⟩) (À O)}:ff).w.cell? ⟨tb,1,Á⟩=_:=S;replace T:({l₁ with w:=iY r tb (À f) (Ê Î j7) (À<|Â ⟨j9,0,Á⟩) (À O)}:ff).w.cell? ⟨tb,2,Á⟩=_:=T;replace V:({l₁ with w:=iY r tb (À f) (Ê Î j7) (À<|Â ⟨j9,0,Á⟩) (À O)}:ff).w.cell? ⟨tb,3,Á⟩=_:=V;generalize({l₁ with w:=iY r tb (À f) (Ê Î j7) (À<|Â ⟨j9,0,Á⟩) (À O)}:ff)=l₂ at Q S T V F BN|-;clear L q D E u z B C hz P r l₁ X o;have W:=F.G s;have qn:¬l₂.q:=by rwa[F.q]
 have cd2:l₂.w.cell? ⟨J,i%n,Á⟩=Â (è<|Â k):=(gO<|F.r J<|Ã g_).trans cd;apply fN (n:=5) W.r;w_go fu;refine Ë λ_ _=> ?_;refine aky (II oh #[y0,Æ (Â ⟨J,0,Á⟩) n j,y2,y3,Ê Î i,À<|Â ⟨tb,0,Á⟩,y6,y7,Æ (Â ⟨j6,0,Á⟩) b m,Ê Î b,Ê Î i,ŝ Ò,Ê Î i,À<|Â ⟨j6,i*4,Á⟩,Đ #[À f,Ê Î j7,À<|Â ⟨j9,0,Á⟩,À O],qZ,vL,vM,uK,uL,uM,tf,tg,tj,rT,s6,rU,pH,oC,qf,qg,qh] (uS J n i (i%n) k (Æ (Â ⟨J,0,Á⟩) n j)<|Đ #[À f,Ê Î j7,À<|Â ⟨j9,0,Á⟩,À O])<|LG l₂) W.r qn (λa x=> ?_) (λY listed a t i' rest hI I e H4=>akz (J:=AY Ä Ò k (Đ #[À f,Ê Î j7,À<|Â ⟨j9,0,Á⟩,À O]) N) (N:=N) W qn U U U U BN (F.O J g_) hn vV Z U cd2 Q S T V (λl H _ _ _ h=>h) (λt H hA hs h=> ?_) Y listed a t i' rest hI I e H4) λY listed a kB hI I zE=> ?_
 .exact⟨(),mZ.G _ _ _,(iH.gd W.r).N (λ_ b=>b.elim) ⟨x.r,x.I,x.N,x.Y,x.S⟩,A⟩
 .have x:=F.fi hA;have a:=(h 1 A).trans (show _=Â (Æ (Â ⟨J,0,Á⟩) n j)from U);have o8:=(h 8 A).trans (show _=Â (Æ (Â ⟨j6,0,Á⟩) b m)from U);have o9:=(h 9 A).trans (show _=Â (Ê Î b)from U);have o10:=(h 10 A).trans (show _=Â (Ê Î i)from U);clear h;obtain⟨x0,x1,x2,x3,x4,x5,x6,x7,x8,x9,Zz,x11,x12,x13,x14,x15,x16,x17,x18,x19,x20,x21,x22,x23,x24,x25,x26,x27,x28,x29,x30,x31,rfl⟩:=H3 H hs;obtain rfl:x1=Æ (Â ⟨J,0,Á⟩) n j:=by simpa using a
  obtain rfl:x8=Æ (Â ⟨j6,0,Á⟩) b m:=by simpa using o8
  obtain rfl:x9=Ê Î b:=by simpa using o9
  obtain rfl:Zz=Ê Î i:=by simpa using o10
  apply fN (n:=9) x.fA;iterate 7 w_go fu
  refine Ë λ_ _=> ?_;refine hN t _ x ⟨U,U,U,U,?_⟩;simp;grind [BM]
 .let⟨x,a,h,h8⟩:=hI;have nK:∀i∈ã 9,listed.getD i Ì=Ò:=by
   cases Y
   .exact qm zE I (ã 9) [] fS λi e=>by cases e
   .exact qm zE I (ã 9) [] fS λi e=>by cases e
   .exact qm zE I (ã 9) [] fS λi e=>by cases e
  grind
end
noncomputable def vW (t:Array Ï) (a:List é):Ý:=G ((base 52).at ⟨t,[]⟩ [ö LD,ą LD,ô 2]) a
structure ET(dv:Ï)(n j:Nat)(t:Array Ï):Prop where
 r:t.size=32
 akE:t[24]?=Â dv
 C:t[25]?=Â (Ê Î n)
 I:t[26]?=Â (Ê Î j)
def H7(t:Array Ï):é:=(base 37).at ⟨t,[]⟩ [Ñ Lh [2],ö<|(ä 13 Li Ì).seq Lj]
def EJ(t:Array Ï)(a:List é):Ý:=G ((base 37).at ⟨t,[]⟩ [Ñ Li [],ö Lj]) a
structure SE(ba all oe:Nat)(t:Array Ï):Prop where
 r:t.size=49
 I:t[8]?=Â (À<|Â ⟨ba,0,Á⟩)
 C:t[11]?=Â (À<|Â ⟨oe,0,Á⟩)
 Sc:t[12]?=Â (À<|Â ⟨all,0,Á⟩)
section
variable{J a N:Jd}{l:ff}{t:Array Ï}{ba all oe B:Nat}{dv:Ï}
def akF(f:kr l)(a:ST ba all oe n n (Æ O b m) dv t)(g:∀c d,DT dv O b m 0 c->SE ba all oe d->fl Ä Ò J l (vU c<|H7 d::qX)):fl Ä Ò J l (BT t qX):=by
 obtain⟨q,r,s,u,v,w,x,y,h,z,i,j,k,e,B,C,D,E,F,G,H,I,K,L,M,N,P,o,p,Q,S,T,V,W,X,Y,qV,uy,uz,uA,uB,uC,uD,uE,uF,uG,qi,qj,xw,rfl⟩:=HM t a.r;obtain rfl:h=À (Â ⟨ba,0,Á⟩):=by simpa using a.a
 obtain rfl:i=Æ O b m:=by simpa using a.C
 obtain rfl:j=À (Â ⟨oe,0,Á⟩):=by simpa using a.I
 obtain rfl:k=À (Â ⟨all,0,Á⟩):=by simpa using a.M
 obtain rfl:dv=e:=(show e=dv by simpa using a.N).symm;obtain rfl:o=Ê Î n:=by simpa using a.S
 obtain rfl:p=Ê Î n:=by simpa using a.Y
 have hF:True:=trivial;apply fN (n:=40) f;simp only[BT,ED,R9];iterate 7 w_go fu
 simp only[Ll,Lh];iterate 4 w_go fu
 u_call ŵ fS Ŗ fu hF
 iterate 9 w_go fu
 refine Ë λ_ _=> ?_;exact g _ _ ⟨U,U,U,U,U⟩ ⟨U,U,U,U⟩
def akG(d:kr l)(a:DT (Æ (Â ⟨j9,0,Á⟩) n i) O b m b t)(e:∀c,ET (Æ (Â ⟨j9,0,Á⟩) n i) n 0 c->fl Ä Ò J l (vW c qX)):fl Ä Ò J l (vU t qX):=by
 obtain⟨j,f,k,o,p,q,r,s,u,g,h,v,w,x,y,z,B,C,D,E,F,G,H,I,K,L,M,N,P,Q,S,T,rfl⟩:=H3 t a.r;obtain rfl:f=Æ (Â ⟨j9,0,Á⟩) n i:=by simpa using a.C
 obtain rfl:g=Ê Î b:=by simpa using a.M
 obtain rfl:h=Ê Î b:=by simpa using a.I
 have hF:True:=trivial;apply fN (n:=40) d;simp only[vU];conv in LF=>whnf
 iterate 7 w_go fu
 conv in d_=>whnf
 iterate 8 w_go fu
 refine Ë λ_ _=> ?_;exact e _ ⟨U,U,U,U⟩
def akH(a:gC l)(g:¬l.q)(c:ET (Æ (Â ⟨j9,0,Á⟩) n i) n j t)(z:j<n)(B:n<1000)(m:l.O j9)(o:l.w.cell? ⟨j9,j,Á⟩=Â (è<|Â k)) (p:∀d e,iH fh l d->ET (Æ (Â ⟨j9,0,Á⟩) n i) n (j+1) e->fl Ä Ò N d (vW e qX)):fl Ä Ò (Kk Ä Ò k N) l (vW t qX):=by
 obtain⟨C,D,F,G,H,I,J,K,L,M,P,Q,S,T,V,W,X,Y,uK,uL,uM,tf,tg,tj,q,u,v,pH,oC,qf,qg,qh,rfl⟩:=H3 t c.r;obtain rfl:q=Æ (Â ⟨j9,0,Á⟩) n i:=by simpa using c.akE
 obtain rfl:u=Ê Î n:=by simpa using c.C
 obtain rfl:v=Ê Î j:=by simpa using c.I
 have hF:True:=trivial;apply fN (n:=40) a.r;simp only[vW];conv in LD=>whnf
 repeat w_go fu
 refine Ë λ_ _=> ?_;apply o5 (x:=⟨j9,j,Á⟩) U U (by k_ne) a.r g (Ã<|Ã m) o (λw h=>by go_simp) (λw h=>by simp[go_sem,h]);walk_nrm;apply fN (n:=40) a.r;iterate 4 w_go fu
 refine Ë λ_ _=> ?_;refine .fD λw₁ y=>⟨U,U,_,U,λxe cap buf s r tm h=>(stepG_close U U (by k_ne) U U h fS).trans U,?_⟩;walk_nrm;have f:=(iH.gd (E:=fh) a.r).N (λ_ b=>b.elim) y;apply fN (n:=20) f.fA;iterate 7 w_go fu
 refine Ë λ_ _=> ?_;refine p _ _ f ⟨U,U,U,?_⟩;simp;exact BM Z Z
def akI(f:gC l)(i:l.d=0)(o:60<=B)(g:ET dv n n t)(e:SE ba all oe d)(j:l.K ⟨all,0,Á⟩/\l.K ⟨all,1,Á⟩)(p:nJ all l.w) (q:∀k m,iH fh l k->SE ba all oe m->a k (EJ m qX)):fl Ä Ò (qS Ä Ò B all a .jc) l (vW t<|H7 d::qX):=by
 obtain⟨G,H,I,J,L,M,N,P,Q,S,T,V,W,X,Y,qZ,vL,vM,uK,uL,uM,tf,tg,tj,rT,r,s,pH,oC,qf,qg,qh,rfl⟩:=H3 t g.r;obtain rfl:r=Ê Î n:=by simpa using g.C
 obtain rfl:s=Ê Î n:=by simpa using g.I
 have hF:True:=trivial;apply fN (n:=40) f.r;simp only[vW,H7,Lh];conv in LD=>whnf
 iterate 8 w_go fu
 obtain⟨z0,z1,z2,z3,z4,z5,z6,z7,u,z9,z10,v,x,z13,z14,z15,z16,z17,z18,z19,z20,z21,z22,z23,z24,z25,z26,z27,z28,z29,z30,z31,z32,z33,z34,z35,z36,z37,z38,z39,z40,z41,z42,z43,z44,z45,z46,z47,z48,rfl⟩:=HM d e.r;obtain rfl:u=À (Â ⟨ba,0,Á⟩):=by simpa using e.I
 obtain rfl:v=À (Â ⟨oe,0,Á⟩):=by simpa using e.C
 obtain rfl:x=À (Â ⟨all,0,Á⟩):=by simpa using e.Sc
 u_leave0 ŵ fu hF
 simp only[Li];iterate 3 w_go fu
 u_call qY.f_wait (nm_wait Lk) waitFn fu hF
 refine Ë λ_ _=> ?_;refine Zi qY o (⟨Ã j.1,Ã j.2,λw y c z C D F h=>h.fi ⟨c,z,C,D,F⟩⟩) ⟨f.r,p,fI.gd _ _⟩ i λy z=> ?_;walk_nrm;refine .fD λC c=> ?_;have h:=(iH.gd (E:=fh) f.r).N (λ_ b=>b.elim)<|z.2.2.fi ⟨c.r,c.I,c.N,c.Y,c.S⟩;exact q {l with d:=0,w:=C} _ ⟨h.O,h.h,h.Y,h.I,h.c,h.K,h.q,i.symm,h.fA,h.f,h.r,h.e,h.S,h.b,h.g⟩ ⟨U,U,U,U⟩
end
def vY(a:Nat)(b c:Ï)(_:Unit):Nat->Ï
 |0=>b
 |1=>À<|Â ⟨a,0,Á⟩
 |2=>À<|Â ⟨a,0,Á⟩
 |3=>À<|Â ⟨a,2,Á⟩
 |4=>c
 |5=>b
 |_=>c
def LK(a:ff)(_:Array Bool)(_:Unit)(l:ff):Prop:=gq fh a l
section
variable{J:Jd}{g:ff}{h:Option â}
def akJ(K:¬g.q)(N:q.size=49)(P:q[8]?=Â (À<|Â ⟨m,0,Á⟩))(Q:q[11]?=Â (À<|Â ⟨j9,0,Á⟩))(E:g.M m)(F:ic g ⟨j9,2,Á⟩)(S:g.w.cell? ⟨m,0,Á⟩=Â (Æ O b n))(T:g.w.cell? ⟨j9,2,Á⟩=Â (Æ h j6 j7)) (md:ý) (listed:Array Bool) (y:ŏ) (l:ff) (i:Nat) (jJ:List Nat) (V:II xF q (vY j9 (Æ O b n)<|Æ h j6 j7) (LK g) listed y l) (k:i∈Û md xF listed): fl Ä Ò (λc d=>∃a,d=G ((base 37).at a<|Ñ xF jJ::L) qX/\II xF q (vY j9 (Æ O b n)<|Æ h j6 j7) (LK g) (listed.setIfInBounds i Ò) a c) l (G ((base 37).at y<|Ñ xF (i::jJ)::L) qX):=by
 let⟨x,j,p⟩:=V;have s:uH xF q.size=Ò:=by rw[N];decide
 have H:=Ei k;have t:=p.fA;have u:¬l.q:=by rwa[show l.q=g.q from p.q]
 have W:=(j.C A).trans P;have X:=(j.C A).trans Q;have B:ic l ⟨m,0,Á⟩:=Ã<|p.M E;have D:ic l ⟨j9,2,Á⟩:=F.imp (λa=>p.M a) λa=>by rwa[p.C]
 have I:=(gO<|p.r m E id).trans S;have J:l.w.cell? ⟨j9,2,Á⟩=Â (Æ h j6 j7):=by
  refine Ŀ ?_ T;rcases F with a|a
  .exact gO<|p.r _ a id
  .exact p.f _ a
 have v:∀{c:Nat},∀d,fI l l.w d->LK g (listed.setIfInBounds c Ò) () {l with w:=d}:=λd r=>p.G r;have Y:xF.size=7:=A
 rw[Y]at H;match i,H with
 |0,_=>
  refine iu (o:=Hv) s j U U k (by k_ne) t u (λd r=> ?_) (λd r e f=> ?_) v
  .have z:=(B.r r).trans I;simp only[vY,Hv];go_simp
  .have z:=(B.r r).trans I;simp[go_sem,Hv,W,z]at f;subst f;exact B.rd
 |4,_=>
  have h47:y.tmps[47]?=Â (À<|Â ⟨j9,2,Á⟩):=j.r 3 Hz 47 U (im k U U) U;refine iu (o:=HA) s j U U k (by k_ne) t u (λd r=> ?_) (λd r e f=> ?_) v
  .have z:=(D.r r).trans J;simp only[vY,HA];go_simp
  .have z:=(D.r r).trans J;simp[go_sem,HA,h47,z]at f;subst f;exact D.rd
 |1,_=>
  refine iu (o:=Hw) s j U U k (by k_ne) t u (λd r=> ?_) (λd r e f=> ?_) v
  .simp only[vY,Hw];go_simp
  .simp[go_sem,Hw,X]at f
 |2,_=>
  have z:y.tmps[45]?=Â (À<|Â ⟨j9,0,Á⟩):=j.r 1 Hw 45 U (im k U U) U;refine iu (o:=Hx) s j U U k (by k_ne) t u (λd r=> ?_) (λd r e f=> ?_) v
  .simp only[vY,Hx];go_simp
  .simp[go_sem,Hx,z]at f
 |3,_=>
  have z:y.tmps[46]?=Â (À<|Â ⟨j9,0,Á⟩):=j.r 2 Hx 46 U (im k U U) U;refine iu (o:=Hz) s j U U k (by k_ne) t u (λd r=> ?_) (λd r e f=> ?_) v
  .simp only[vY,Hz];go_simp
  .simp[go_sem,Hz,z]at f
 |5,_=>
  have z:y.tmps[44]?=Â (Æ O b n):=j.r 0 Hv 44 U (im k U U) U;refine iu (o:=HC) s j U U k (by k_ne) t u (λd r=> ?_) (λd r e f=> ?_) v
  .simp only[vY,HC];go_simp
  .simp[go_sem,HC,z]at f
 |6,_=>
  have z:y.tmps[48]?=Â (Æ h j6 j7):=j.r 4 HA 48 U (im k U U) U;refine iu (o:=HF) s j U U k (by k_ne) t u (λd r=> ?_) (λd r e f=> ?_) v
  .simp only[vY,HF];go_simp
  .simp[go_sem,HF,z]at f
def akK(c:gC g)(t:¬g.q)(e:SE m j j9 d)(B:g.M m)(C:ic g ⟨j9,2,Á⟩)(D:g.w.cell? ⟨m,0,Á⟩=Â (Æ O b n))(E:g.w.cell? ⟨j9,2,Á⟩=Â (Æ h j6 j7)) (F:∀u,gq fh g u->fl Ä Ò J u (G (f.at (y.put ((Q[i]?).bind (·.dst))<|ñ #[Æ O b n,Æ h j6 j7])<|Ñ Q jJ::L) qX)): fl Ä Ò J g (EJ d<|f.at y (Ñ Q (i::jJ)::L)::qX):=by
 have hF:=trivial;apply fN (n:=9) c.r;simp only[EJ,Lj];iterate 2 w_go fu
 refine Ë λ_ _=> ?_;refine RE (II xF d (vY j9 (Æ O b n)<|Æ h j6 j7)<|LK g) c.r t (λl a=>⟨(),mZ.G _ _ _,(gq.gd c.r).G ⟨a.r,a.I,a.N,a.Y,a.S⟩⟩) (λk o y l i jJ p a=>akJ t e.r e.I e.C B C D E k o y l i jJ p a) λk o H I p r s=> ?_;let⟨x,l,K⟩:=p;have v:∀i∈ã 7,o.getD i Ì=Ò:=by
  cases k
  .exact qm s r (ã 7) [] fS λi a=>by cases a
  .exact λi a=>qm s r [0,5,1,2,3,4,6] [] fS (λi a=>by cases a) i (by have:=Ē.1 a;revert i;decide)
  .exact qm s r (ã 7) [] fS λi a=>by cases a
 let⟨a,N⟩:=H;obtain rfl:N=[]:=l.M;have P:a[6]?=Â (Æ O b n):=l.r 5 HC 6 U (v 5 A) U;have S:a[7]?=Â (Æ h j6 j7):=l.r 6 HF 7 U (v 6 A) U;have X:=l.S.trans e.r;have z:=K;have T:=z.N c;have V:a.getD 6 Å=Æ O b n:=by simp[ď,P]
 have W:a.getD 7 Å=Æ h j6 j7:=by simp[ď,S]
 apply fN (n:=9) T.r;iterate 2 w_go fu
 u_in fu hF
 refine goes_leave2 U U Tryz.func37 U ⟨by u_nil,?_⟩;rw[V,W];refine Ë λ_ _=>F I z
end
structure SD where
 L:Nat
 g:Nat
 n:Nat
 m:Nat
 q:Nat
 N:Nat
 I:Nat
 C:Nat->Nat
 M:Nat
 S:Nat
 s:Nat
 u:Option â
 t:Nat
 l:Option â
 k:Nat
 o:Nat->Option â
 a:Nat->Nat
 i:Nat->Option â
 c:Nat->Nat
 b:Nat->Nat
 f:List é
 d:Nat->Prop
 RC:ß->Prop
 p:ß->Prop
 γ:Type
 w:γ
 v:Nat->Prop
 h:Nat->γ->γ->Prop
 RD:γ->Ï->(Nat->Prop)->ß->Prop
 e:Nat->ByteArray
 j:Nat->ByteArray
def SD.Y(D:SD):Fx:=⟨D.L,D.m,D.I,D.C⟩
def SD.akL(D:SD)(i:Nat):Ï:=Đ #[À<|D.i i,Ê Î<|D.c i,À<|Â ⟨D.C<|D.b i,0,Á⟩,À Á]
structure lP(D:SD)(S:Nat->Prop)(l:ff):Prop where
 C:∀b,D.Y.M b->l.K ⟨b,0,Á⟩/\l.K ⟨b,1,Á⟩
 M:∀b,D.Y.M b->nJ b l.w
 c:S D.S
 d:l.w.cell? ⟨D.S,0,Á⟩=Â (Æ (Â ⟨D.M,0,Á⟩) D.N D.N)
 f:S D.s
 g:l.w.cell? ⟨D.s,0,Á⟩=Â (Æ D.u D.m D.t)
 h:∀k,k<D.m->∃b,D.u=Â ⟨b,0,Á⟩/\S b/\l.w.cell? ⟨b,k*4,Á⟩=Â (À<|D.o<|k+1)/\l.w.cell? ⟨b,k*4+1,Á⟩=Â (Ê Î<|D.a<|k+1)/\l.w.cell? ⟨b,k*4+2,Á⟩=Â (À<|Â ⟨D.C k,0,Á⟩)/\l.w.cell? ⟨b,k*4+3,Á⟩=Â (À<|Â ⟨D.C<|k+1,0,Á⟩)
 j:∀i,i<D.q->∃b,D.l=Â ⟨b,0,Á⟩/\S b/\l.w.cell? ⟨b,i*4,Á⟩=Â (À<|D.i i)/\l.w.cell? ⟨b,i*4+1,Á⟩=Â (Ê Î<|D.c i)/\l.w.cell? ⟨b,i*4+2,Á⟩=Â (À<|Â ⟨D.C<|D.b i,0,Á⟩)/\l.w.cell? ⟨b,i*4+3,Á⟩=Â (À Á)
 r:∀a,l.r a->(l.w.cell? a).isSome=Ò/\l.w.frozen? a=Ì
 Y:∀b,D.d b->S b
 e:D.RC l.w
structure SD.Ok(D:SD):Prop where
 C:∀w w',D.RC w->(∀b,D.d b->w'.heap[b]?=w.heap[b]?)->D.RC w'
 ioS:∀w w',D.p w->(w'.os=w.os/\w'.output=w.output)->D.p w'
 r:∀s sl V w w',D.RD s sl V w->(∀b,V b->w'.heap[b]?=w.heap[b]?)->D.RD s sl V w'
 I:1<=D.n
 L1:1<=D.L
 gp:D.n+D.q+D.m<1000
 N1:D.N<1000
 S:∀i,D.b i<=D.m
 a:∀i,i<D.q->D.c i<D.N
 Y:∀k,1<=k->k<=D.m->D.a k<D.N
 akM:∀k,k<=D.m->D.C k≠D.I
 akN:∀k k',k<=D.m->k'<=D.m->D.C k=D.C k'->k=k'
 M:¬D.Y.M D.M
 pq:∀i i',i<D.q->i'<D.q->D.c i=D.c i'->i=i'
 pi:∀k k',1<=k->k<=D.m->1<=k'->k'<=D.m->D.a k=D.a k'->k=k'
 Pk:∀i k,i<D.q->1<=k->k<=D.m->D.c i≠D.a k
 gy:∀b,D.Y.M b\/b=D.M->D.g<=b
section
variable{D:SD}{S:Nat->Prop}{l f:ff}
def lP.I(h:lP D S l)(ok:D.Ok)(e:∀b,S b->X b)(c:∀b,S b->f.w.heap[b]?=l.w.heap[b]?)(q:f.K=l.K)(p:∀a,l.K a->(l.w.cell? a).isSome=Ò->(f.w.cell? a).isSome=Ò)(r:∀a,f.r a->(f.w.cell? a).isSome=Ò/\f.w.frozen? a=Ì):lP D X f where
 C b hg:=by rw[q];exact h.C b hg
 M b hg:=⟨p _ (h.C b hg).1 (h.M b hg).1,p _ (h.C b hg).2 (h.M b hg).2⟩;c:=e _ h.c;d:=(gO<|c _ h.c).trans h.d;f:=e _ h.f;g:=(gO<|c _ h.f).trans h.g;h k hk:=by let⟨b,g,d,j,m,n,o⟩:=h.h k hk;exact⟨b,g,e b d,(gO<|c b d).trans j,(gO<|c b d).trans m,(gO<|c b d).trans n,(gO<|c b d).trans o⟩
 j i hi:=by let⟨b,g,d,j,m,n,o⟩:=h.j i hi;exact⟨b,g,e b d,(gO<|c b d).trans j,(gO<|c b d).trans m,(gO<|c b d).trans n,(gO<|c b d).trans o⟩
 r:=r;Y b d:=e b<|h.Y b d;e:=ok.C _ _ h.e λb d=>c b<|h.Y b d
def lP.G(h:lP D S l)(ok:D.Ok)(c:∀b,S b->l.M b)(r:fI l l.w u):lP D S {l with w:=u}:= h.I ok (λ_ q=>q) (λb q=>r.I b<|c b q) U r.S λa q=>by have:=h.r a q;exact⟨by show(u.cell? a).isSome=Ò;rw[r.N a<|Ã q];exact this.1,(r.Y a<|Ã q).trans this.2⟩
def lP.SU{E:â->Prop}(h:lP D S l)(ok:D.Ok)(g:∀b,S b->l.M b)(c:iH E l f):lP D S f:= h.I ok (λ_ q=>q) (λb q=>c.r b<|g b q) c.K c.b λa q=>by
  rw[c.I]at q;let⟨d,i⟩:=h.r a q;refine⟨?_,(c.S a<|Ã q).trans i⟩;by_cases e:E a
  .exact c.g a e d
  .rwa[c.e a (Ã q) e]
def lP.akO(h:lP D S l)(ok:D.Ok)(d:∀b,S b->l.M b/\¬X b)(c:gq X l f):lP D S f:= h.I ok (λ_ q=>q) (λb q=>c.r b (d b q).1 (d b q).2) c.K c.e λa q=>by rw[c.Y]at q;let⟨e,g⟩:=h.r a q;exact⟨by rwa[c.f a<|Ã q],(c.g a<|Ã q).trans g⟩
def lP.N(h:lP D S l)(a:∀b,S b->X b):lP D X l:=⟨h.C,h.M,a _ h.c,h.d,a _ h.f,h.g,λk c=>let⟨b,d,e,f⟩:=h.h k c;⟨b,d,a b e,f⟩,λk c=>let⟨b,d,e,f⟩:=h.j k c;⟨b,d,a b e,f⟩,h.r,λb q=>a b<|h.Y b q,h.e⟩
end
section
variable(D:SD)
def jM(a:Nat->Nat)(j:Nat):List Ï:=(ã j).map λi=>è<|Â<|a i
def Cf(k:Nat):Jd:=λl g=>l.d=0/\¬l.q/\lP D l.M l/\∃t a b c e f h i j n o,BL D.M D.N D.u D.m D.t k t/\l.M a/\l.w.cell? ⟨a,0,Á⟩=Â (À<|Â ⟨D.I,0,Á⟩)/\g=zz t [vN h i j n o,zF a b c e f,n9 Ä]
def h_(c i:Nat):Jd:=λl g=>l.d=0/\¬l.q/\lP D l.M l/\∃t a b e f h j k m n o p,QT D.M D.N c t/\t[4]?=Â (À<|Â ⟨a,0,Á⟩)/\l.O a/\l.w.cell? ⟨a,0,Á⟩=Â (À<|D.i i)/\l.w.cell? ⟨a,1,Á⟩=Â (Ê Î<|D.c i)/\l.w.cell? ⟨a,2,Á⟩=Â (À<|Â ⟨D.C<|D.b i,0,Á⟩)/\l.M b/\l.w.cell? ⟨b,0,Á⟩=Â (À<|Â ⟨D.I,0,Á⟩)/\g=Lc t [Hr k m n o p,zF b e f h j,n9 Ä]
def akP:Jd:=λl g=>lP D l.M l/\∃t a b c,HL D.S D.I (D.C D.m) D.n (Æ D.l D.q D.k) t/\ig l a (É #[À<|Â ⟨D.I,0,Á⟩] 162)/\ig l b (É #[Ĉ (ù 48) #[] #[À<|Â ⟨D.s,0,Á⟩,À<|Â ⟨D.S,0,Á⟩]] 1)/\g=BU (À<|Â ⟨D.I,0,Á⟩) c (À<|Â ⟨D.I,0,Á⟩) (ñ #[]) a b (EE t::D.f)
def akQ(j:Nat)(a:Nat->Nat):Jd:=λl g=>lP D l.I l/\∃t e c b d f,ST D.S D.I (D.C D.m) D.n (j-1) (Æ D.l D.q D.k) e t/\ZO D.S D.I D.q e (jM a j) (a<|j-1) c b d l/\a (j-1)<c/\c<b/\b<d/\(∀k,e.ownBlock=Â k->k≠a (j-1)/\k≠c/\k≠b/\k≠d)/\D.g<=a (j-1)/\g=BU (À<|Â ⟨D.I,0,Á⟩) f (À<|Â ⟨D.I,0,Á⟩) (ñ #[]) b d (Lm t::D.f)
def LL(j:Nat)(a:Nat->Nat):Jd:=λl g=>l.d=0/\¬l.q/\D.g<=l.w.heap.size/\((j=0/\akP D l g)\/(1<=j/\akQ D j a l g))
def h':Jd:=λl g=>l.d=0/\¬l.q/\lP D l.I l/\∃a,SE D.S D.I (D.C D.m) a/\g=EJ a D.f
def SD.r(P:ė):Ph where
 toFx:=D.Y
 P:=P
 S:=D.g
 n:=D.n
 q:=D.q
 Y:=D.M
 f:=D.N
 r:=D.b
 a:=D.c
 b:=D.a
 c:=D.akL
 z:=zT
 B:=60
 γ:=D.γ
 l:=D.w
 i:=D.v
 p:=D.h
 d:=λk s V w=>(∃a,w.cell? ⟨D.C k,2,Á⟩=Â a/\D.RD s a V w)/\(k=0->w.cell? ⟨D.M,D.N,Á⟩=Á/\kY w D.M=Â (0,0)/\D.p w)
 o:=D.e
 k:=D.j
 g:=LL D
 h:=Cf D
 e:=h_ D
 j:=λ_=>h' D
end
def EK(D:SD):Prop:=∀k s e V l,k<D.m->nG (D.r Ä) k s->D.RD s e V l.w->(∀b,V b->l.M b)->gC l->¬l.q->(∀b,D.d b->l.M b)->D.RC l.w->∀f g,fl Ä Ì (λa j=>a.d=l.d/\∃p n c,j=G (f.finish<|ñ #[Æ p n c,à<|D.e<|k+1]) g/\∃h i,D.h k s h/\D.RD h (Æ p n c) i a.w/\∀b,i b->a.M b) (mo l)<|G (Ă Ä 66 #[e,À<|D.o<|k+1] Ğ)<|f::g
def EL(D:SD):Prop:=∀i s a V l,i<D.q->nG (D.r Ä) (D.b i) s->D.RD s a V l.w->(∀b,V b->l.M b)->gC l->¬l.q->(∀b,D.d b->l.M b)->D.RC l.w->∀b c,fl Ä Ì (λe f=>e.d=l.d/\f=G (b.finish<|à<|D.j i) c) (mo l)<|G (Ă Ä 67 #[a,À<|D.i i] Ğ)<|b::c
section
variable{D:SD}
def H8(k:Nat)(a:k<=D.m):D.Y.M (D.C k):=Ç ⟨k,a,U⟩
def zL:D.Y.M D.I:=Ã U
def akR(ok:D.Ok):(D.r Ä).Ok:=⟨ok.I,ok.L1,ok.gp,λi _=>ok.S i,ok.akM,ok.akN,ok.M,ok.pq,ok.pi,ok.Pk,ok.gy,⟨λk a b e=>by have c:D.a k=D.N:=e;have:=ok.Y k a b;omega,λi d e=>by have c:D.c i=D.N:=e;have:=ok.a i d;omega⟩⟩
theorem akS(ok:D.Ok)(uk:EK D):∀k s V l g,k<D.m->Cf D k l g->gC l->nG (D.r Ä) k s->(D.r Ä).d k s V l.w->(∀b,V b->l.I b)->l.N (jj D.Y k)->l.r (jj D.Y<|k+1)->l.r (ju (D.r Ä)<|D.a<|k+1)->∀B:Nat->D.γ,B k=s->fl Ä Ì (JI (D.r Ä) B<|.mk (k+1)) l g:=by
 intro k s V l g o hJ EI SV Bo hV uI C E B hsg;obtain⟨hd,F,f,t,G,v1,v2,v3,v4,u0,u1,u2,u3,u4,hT,B4,cbw,rfl⟩:=hJ;let⟨⟨sl,hsl,ri⟩,_⟩:=Bo;let⟨b,zC,hbM,i0,i1,i2,i3⟩:=f.h k o;have GU:=ok.gp;have ll:(⟨D.C<|k+1,2,Á⟩:â)≠⟨D.M,D.a<|k+1,Á⟩:=λe=>ok.M (by injection e with H _ _;rw[<-H];exact H8 (k+1) o);have A9:BL D.M D.N (Â ⟨b,0,Á⟩) D.m D.t k t:=by rwa[<-zC]
 have⟨oc1,oz1⟩:=f.r _ C;have⟨oc2,oz2⟩:=f.r _ E;have rZ:∀a:â,(a=⟨D.C<|k+1,2,Á⟩\/a=⟨D.M,D.a<|k+1,Á⟩)->l.r a:=λa p=>by rcases p with rfl|rfl;exact C;exact E
 have r:=f.C _<|H8 (k+1) o;have i_:=f.M _<|H8 (k+1) o;refine fl.fT (Stop:=λl g=>(∃i n,D.h k s i/\(D.r Ä).d (k+1) i n l.w/\(∀b,n b->l.M b)/\l.w.cell? ⟨D.M,D.a<|k+1,Á⟩=Â (à<|D.e<|k+1))/\yV Ä Ì (D.C<|k+1) (fl Ä Ì<|Cf D<|k+1) (qc (D.r Ä) l<|k+1) g) (λl g h=> ?_) ?_
 .let⟨⟨i,n,I,J,L,O⟩,P⟩:=h;exact⟨i,n,by subst hsg;exact I,J,L,O,P⟩
 refine ajs (Q:=λv x y=>x=D.e (k+1)/\∃i n,D.h k s i/\D.RD i v n y.w/\∀b,n b->y.M b) (τ:=λl=>qc (D.r Ä) l<|k+1) EI F hd A9 o Z (by have:=ok.N1;omega) (ok.Y (k+1) Z o) hbM i0 i1 i2 i3 uI hsl C E oc1 oc2 oz1 oz2 ll (λc v j u=> ?_) λc x v hQ R3 Lb=> ?_
 .refine(uk k s sl V c o SV (ok.r _ _ _ _ _ ri λb x=>v.r b<|Ç<|hV b x) (λb x=>v.M<|Ç<|hV b x) (v.G EI) (by rwa[v.q]) (λb x=>v.M<|f.Y b x) (ok.C _ _ f.e λb x=>v.r b<|f.Y b x) j u).fT ?_;grind
 .let⟨y,⟨hstr,i,n,hnx,akT,j_⟩,hy⟩:=hQ;rw[hstr]at Lb;have k_:nJ (D.C<|k+1) c.w:=⟨v.b _ r.1 i_.1,v.b _ r.2 i_.2⟩;refine⟨⟨Ã (by rw[v.K];exact r.1),Ã (by rw[v.K];exact r.2),λ_ _ _ _ _ _ _ _=>trivial⟩,⟨v.fA,k_,trivial⟩,⟨i,n,hnx,⟨⟨_,R3,ok.r _ _ _ _ _ akT λb x=>(hy b<|j_ b x).2⟩,λe=>by omega⟩,λb x=>(hy b<|j_ b x).1,Lb⟩,v.d.trans hd,λw=>fI (qc (D.r Ä) c<|k+1) c.w w,⟨Ã (by show c.K _;rw[v.K];exact r.1),Ã (by show c.K _;rw[v.K];exact r.2),λw w₁ I J L O P h=>h.fi ⟨I,J,L,O,P⟩⟩,⟨λj h=>h.elim,k_,fI.gd _ _⟩,λxe t' akU D3=> ?_⟩;refine .fD λS u=> ?_;have z:=akU.2.2.fi ⟨u.r,u.I,u.N,u.Y,u.S⟩;have x:=λb x=>(z.I b<|Ç<|v.M x).trans<|v.r b x;have m_:∀b,l.M b->({qc (D.r Ä) c (k+1)with d:=0,w:=S}:ff).M b:=λb x=>Ç<|v.M x;refine⟨U,by show¬c.q;rwa[v.q],f.I ok m_ x (by show c.K=l.K;exact v.K) (λa p h=>z.S a (by show c.K a;rwa[v.K])<|v.b a p h) λa p=> ?_,t',G,v1,v2,v3,v4,u0,u1,u2,u3,u4,by rwa[zC],m_ G B4,(gO<|x G B4).trans cbw,U⟩;obtain⟨T,W,X⟩:c.r a/\a≠⟨D.M,D.a<|k+1,Á⟩/\a≠⟨D.C<|k+1,2,Á⟩:=p;have Y:l.r a:=by rwa[<-v.I]
  let⟨H,e2⟩:=f.r a Y;refine⟨?_,?_⟩
  .show(S.cell? a).isSome=Ò;rwa[z.N a<|Ã ⟨T,W,X⟩,v.e a (Ã Y) λq=>q.elim X W]
  .show S.frozen? a=Ì;rwa[z.Y a<|Ã ⟨T,W,X⟩,v.S a<|Ã Y]
def akV:∀l g,Cf D D.m l g->gC l->fl Ä Ì (A5<|D.r Ä) l g:=by intro l g c d;obtain⟨e,f,b,t,k,n,o,p,q,r,s,u,v,w,h,i,j,rfl⟩:=c;have a:=b.C _<|zL;exact ajA (Ψ:=λ_=>True) h a ⟨Ã a.1,Ã a.2,λ_ _ _ _ _ _ _ _=>trivial⟩ ⟨d.r,b.M _ zL,trivial⟩ e f (Ã i) j
def n_(ok:D.Ok){r:Nat}{l:ff}{t:Array Ï}{g h m o p:Ï}(B:gC l)(s:¬l.q)(C:l.d=0)(a:lP D l.M l)(E:QT D.M D.N i t)(f:l.M k)(u:l.w.cell? ⟨k,0,Á⟩=Â (À<|Â ⟨D.I,0,Á⟩)): DR (D.r Ä) i j r l (zH t [Hr g h m o p,zF k v x z jQ,n9 Ä]):=by have y:=ok.S<|j+r*D.n;refine ajF B s C E (Ú _) U (a.C _<|H8 _ y) (a.M _<|H8 _ y) (a.C _ zL) (a.M _ zL) (Ã f) u λQ F G e H I J K L O P=>(⟨H,by rwa[e.q],(a.SU ok (λ_ q=>q) e).N λb q=>e.M q,G,F,k,v,x,z,jQ,g,h,m,o,p,O,P,I,J,K,L,e.M f,(gO<|e.r k f).trans u,U⟩)
theorem akW(ok:D.Ok)(W:EL D):∀c j r s V l g,j+r*D.n<D.q->h_ D c (j+r*D.n) l g->∀f:ff,gC f->f.O=l.O->(∀b,l.I b\/V b->f.I b)->f.w=l.w->f.d=l.d->f.q=l.q->f.r=l.r->f.K=l.K->nG (D.r Ä) (D.b<|j+r*D.n) s->(D.r Ä).d (D.b<|j+r*D.n) s V l.w->f.N (jj D.Y<|D.b<|j+r*D.n)->f.r (ju (D.r Ä)<|D.c<|j+r*D.n)->fl Ä Ì (JW (D.r Ä) c j<|.oU r) f g:=by
 intro c j r s V l g E X f v F y o Y hq' KF hK SV Bo uI p;obtain⟨hd,hq,G,t,tb,u,v1,v2,v3,v4,u0,u1,u2,u3,u4,hT,h4,hOt,H,I,J,L,N,rfl⟩:=X;let⟨⟨sl,P,S⟩,_⟩:=Bo;have B:∀b,l.M b->f.M b:=λb q=>q.elim (λz=>Ã<|by rwa[F]) λz=>Ç<|y b<|Ã z;have m:=G.I ok B (λb _=>by rw[o]) hK (λa _ h=>by rwa[o]) λa q=>by rw[o];exact G.r a<|by rwa[<-KF]
 have C:¬f.q:=by rwa[hq']
 rw[<-o]at H I J N P S;let⟨e2,z2⟩:=m.r _ p;refine qo (Q:=λx=>x=D.j (j+r*D.n)) v C hT h4 (by rwa[F]) H I J uI P p e2 z2 (ok.a _ E) (λi e k T=> ?_) λi x t' e hx hcx A9=> ?_
 .refine(W _ s sl V i E SV (ok.r _ _ _ _ _ S λb x=>e.r b<|Ç<|y b<|Ç x) (λb x=>e.M<|Ç<|y b<|Ç x) (e.G v) (by rwa[e.q]) (λb x=>e.M<|m.Y b x) (ok.C _ _ m.e λb x=>e.r b<|m.Y b x) k T).fT ?_;grind
 .have T:=(m.SU ok (λ_ q=>q) e).N λb q=>e.M q;refine⟨hcx.trans (by rw[hx];rfl),?_⟩;have k:=e.G v;have Hl:gC (vC (D.r Ä) i<|j+r*D.n):=by
   refine⟨k.c,λa x=> ?_,λa x=> ?_,k.fA,λa x=> ?_,λa x=> ?_⟩
   .rintro(q|q)
    .exact k.Y a x.1 q
    .exact x.2 q
   .refine k.N a ?_;rcases x with q|q|q
    .exact Ã q.1
    .exact Ç q
    .rw[q];exact Ã<|by rwa[e.I]
   .refine k.I a ?_;rcases x with q|q|q
    .exact Ã q.1
    .exact Ç q
    .rw[q];exact Ã<|by rwa[e.I]
   .let⟨k1,k2,k3⟩:=k.S a x;exact⟨k1,k2,λq=>k3 q.1⟩
  refine n_ ok Hl (by show¬i.q;rwa[e.q]) (by show i.d=0;rwa[e.d,Y]) (T.I ok (λ_ q=>q) (λ_ _=>rfl) U (λ_ _ h=>h) λa q=>T.r a q.1) A9 (by show i.M u;exact e.M<|B u L)<|(gO<|e.r u<|B u L).trans N
end
section
variable{D:SD}{dk:Nat->Nat}{dv:Ï}{l f:ff}
structure MF(D:SD)(dk:Nat->Nat)(dv:Ï)(l:ff):Prop where
 C:gC l
 q:¬l.q
 d:l.d=0
 r:lP D l.I l
 I:∃db c,dv=Æ (Â ⟨db,0,Á⟩) D.n c/\l.O db/\∀i,i<D.n->l.w.cell? ⟨db,i,Á⟩=Â (è<|Â<|dk i)
def MF.M(h:MF D dk dv l)(ok:D.Ok)(a:iH fh l f):MF D dk dv f where
 C:=a.G h.C;q:=by rw[a.q];exact h.q
 d:=a.d.trans h.d;r:=(h.r.SU ok (λ_ q=>Ç q) a).N λb q=>by rwa[a.Y]
 I:=by let⟨e,c,j,g,k⟩:=h.I;exact⟨e,c,j,a.O e g,λi m=>(gO<|a.r e<|Ã g).trans<|k i m⟩
def akX(ok:D.Ok):∀r,r<=D.n->∀l t b,MF D dk dv l->ET dv D.n (D.n-r) t->SE D.S D.I (D.C D.m) b->fl Ä Ò (A6 (D.r Ä) dk r) l (vW t<|H7 b::D.f):=by
 intro r
 induction r with
 |zero=>
  intro _ l t b a e g;rw[ũ]at e;refine akI a.C a.d (Ú _) e g (a.r.C _ zL) (a.r.M _ zL) λf i h j=> ?_;have c:=a.M ok h;exact⟨c.d,c.q,c.r,i,j,U⟩
 |succ r j=>
  intro s l t b a e g;obtain⟨u,c,rfl,k,o⟩:=a.I;have v:=ok.gp;refine akH a.C a.q e Z Z k (o (D.n-(r+1)) Z) λf p h i=> ?_;refine j Z f p b (a.M ok h) ?_ g;rwa[show D.n-(r+1)+1=D.n-r by omega]at i
def akY(ok:D.Ok):∀r,r<=D.q->∀l t d,MF D dk dv l->DT dv D.l D.q D.k (D.q-r) t->SE D.S D.I (D.C D.m) d->fl Ä Ò (GF (D.r Ä) dk r) l (vU t<|H7 d::D.f):=by
 intro r
 induction r with
 |zero=>
  intro _ l t d a e h;rw[ũ]at e;obtain⟨j,c,rfl,k,o⟩:=a.I;refine akG a.C.r e λi g=>akX ok D.n (Ú _) l i d a ?_ h;rwa[Ū]
 |succ r s=>
  intro C l t d a e h;obtain⟨j,c,rfl,k,o⟩:=a.I;have E:=ok.gp;have F:=ok.I;let⟨b,p,u,v,w,x,y⟩:=a.r.j (D.q-(r+1)) Z;have z:DT (Æ (Â ⟨j,0,Á⟩) D.n c) (Â ⟨b,0,Á⟩) D.q D.k (D.q-(r+1)) t:=by rwa[<-p]
  refine akD a.C a.q z Z Z Z Z k (o _<|ĵ _ Z) (Ç u) v w x y λf i B g=> ?_;refine s Z f i d (a.M ok B) ?_ h;rwa[show D.q-(r+1)+1=D.q-r by omega,<-p]at g
theorem akZ(dk:Nat->Nat)(j a:Nat):jM (fC dk j a) (j+1)=jM dk j++[è<|Â a]:=by unfold jM;grind [ÿ,List.map_congr_left,fK,gH]
def ak0(dk:Nat->Nat)(j:Nat):(jM dk j).length=j:=by simp[jM]
def ak1(dk:Nat->Nat)(j i:Nat)(h:i<j):(jM dk j)[i]?=Â (è<|Â<|dk i):=by simp[jM,h]
theorem o_(ok:D.Ok){t:Array Ï}(K:j<=D.n)(a:gC l)(o:¬l.q)(p:l.d=0)(h:lP D l.I l)(x:D.g<=l.w.heap.size)(v:ST D.S D.I (D.C D.m) D.n j (Æ D.l D.q D.k) dv t)(r:l.w.ownsRow 0 101 1 dv j (jM dk j))(s:∀k,dv.ownBlock=Â k->l.O k): fl Ä Ò (JM (D.r Ä) dk<|if j<D.n then .iJ (j+1)else .iO D.q) l (BT t D.f):=by
 have L:=ok.gp;by_cases u:j<D.n
 .rw[if_pos u];show fl Ä Ò (Pj (D.r Ä) (j+1) dk) l _;rw[ai5];refine ajO a o p v u Z Z (h.C _ zL) (h.M _ zL) r s λf i y z B C E F c G H M N I J P=> ?_;refine⟨y,c.d.trans p,by rwa[c.q],Õ x c.I,Ç ⟨Z,(h.akO ok (λb g=>⟨Ç g,λe=>a.c b (s b e.symm) g⟩) c).N λb q=>(by rwa[c.S]),i,E,z,B,C,F,?_,?_,?_,I,J,?_,?_,U⟩⟩
  .rwa[ø]
  .rwa[ø,akZ,gH]
  .grind [ø,gH]
  .grind [ø,gH]
  .grind [ø,gH,Õ]
 .have e:j=D.n:=Z
  subst e;rw[if_neg u];have y:∃b c,dv=Æ (Â ⟨b,0,Á⟩) D.n c/\l.O b/\∀i,i<D.n->l.w.cell? ⟨b,i,Á⟩=Â (è<|Â<|dk i):=by
   rcases r.2 with⟨_,C⟩|⟨g,z,E,rfl,_⟩
   .have:=ok.I;omega
   .refine⟨g,z,U,s g U,λi B=> ?_⟩;have:=r.cells U i _<|ak1 dk D.n i B;grind [ğ]
  refine akF a.r v λg z B C=>(akY ok D.q (Ú _) l g z ⟨a,o,p,h,y⟩ (by rwa[Ū]) C)
def ak2(ok:D.Ok)(h:Cf D k l g)(r:fI l l.w u):Cf D k {l with w:=u} g:=by obtain⟨c,d,e,t,a,f,i,j,m,n,o,p,s,v,x,b,y,rfl⟩:=h;exact⟨c,d,e.G ok (λ_ q=>q) r,t,a,f,i,j,m,n,o,p,s,v,x,b,(gO<|r.I a b).trans y,U⟩
def ig.M{o:Ÿ}(h:ig l b o)(r:fI l l.w u):ig {l with w:=u} b o:=⟨h.ft,(r.I b<|Ã h.ft).trans h.I⟩
def GG(ok:D.Ok)(h:LL D j dk l g)(r:fI l l.w u):LL D j dk {l with w:=u} g:=by
 let⟨m,n,o,h⟩:=h;refine⟨m,n,Õ o r.r,?_⟩;rcases h with⟨p,b,t,c,d,f,i,s,v,rfl⟩|⟨x,b,t,dv,y,c,d,f,i,a,z,B,C,E,F,rfl⟩
 .exact Ã ⟨p,b.G ok (λ_ q=>q) r,t,c,d,f,i,s.M r,v.M r,U⟩
 .exact Ç ⟨x,b.G ok (λ_ q=>Ç q) r,t,dv,y,c,d,f,i,⟨oc a.S λk e=>r.I k<|Ã<|a.M k e,a.M,a.r.M r,a.C.M r,a.N.M r,a.I.M r⟩,z,B,C,E,F,U⟩
theorem ak3(ok:D.Ok):∀j dk l g,j<=D.n->LL D j dk l g->gC l->l.d=0/\∃(G H:Ý) (X:Nat->Prop),G.status=ċ/\H.status=ċ/\(∀u,stepG Ä Ò g u=.spawn G H u #[])/\(∀b,X b->l.O b)/\ (1<=j->l.O (dk<|j-1)/\¬X (dk<|j-1)/\l.w.heap[dk<|j-1]?=Â (ŕ D.q #[] Ì 0 0 Ì)/\D.g<=dk (j-1))/\ (∀f:ff,gC f->(∀b,X b\/l.I b->f.I b)->f.w=l.w->f.d=0->¬f.q->(∀b,¬f.O b)->f.K=l.K->f.N=l.N->(∀a,f.r a->l.r a)->fl Ä Ì (if j=0 then Cf D 0 else DR (D.r Ä) (dk<|j-1) (j-1) 0) f H)/\ (∀f:ff,gC f->f.O=(λb=>l.O b/\¬X b/\(1<=j->b≠dk (j-1)))->(∀b,X b\/l.I b->f.I b)->f.w=l.w->f.d=0->f.q=l.q->f.K=l.K->f.N=l.N->(∀a,f.r a->l.r a)->fl Ä Ò (JM (D.r Ä) dk<|if j<D.n then .iJ (j+1)else .iO D.q) f G):=by
 intro j dk l g L h EI;let⟨hd,N,P,h⟩:=h;refine⟨hd,?_⟩;rcases h with⟨rfl,o,t,x,C,v1,I,Q,S,rfl⟩|⟨h1,o,t,dv,T,x,C,v1,I,c,x1,x2,x3,x4,x5,rfl⟩
 .refine⟨_,_,l.O,U,U,λu=>ZM _ _ _ _ _ _ _ u,λ_ q=>q,λq=>by omega,λf i m X y p E z J B=> ?_,λf i E m X y p z J B=> ?_⟩
  .rw[if_pos U];have e:=λb q=>m b q;have s:lP D f.M f:=o.I ok (λb q=>Ç<|e b q) (λb _=>by rw[X]) z (λa _ h=>by rwa[X]) λa q=>by rw[X];exact o.r a<|B a q
   refine ajz i.r p (Ã<|Ç<|e C<|Ã S.ft) (Ã s.f) (Ã s.c) (by rw[X];exact S.C U) s.g s.d λF V W Y w4 u0 u1 u2 u3 u4 v=> .fD λu r=>ak2 ok ⟨y,p,s,F,x,V,W,Y,w4,u0,u1,u2,u3,u4,v,Ç<|e x<|Ã Q.ft,by rw[X];exact Q.C U,U⟩ r
  .refine ajM i.r I λF v=>(o_ ok L i (by rwa[p]) y (o.I ok (λb q=>m b q) (λb _=>by rw[X]) z (λa _ h=>by rwa[X]) λa q=>by rw[X];exact o.r a<|B a q) (by rwa[X]) v (World.ownsRow_nil _ _ _ _) λk e=>by cases e)
 .refine⟨_,_,λb=>b=T\/b=x\/b=C,U,U,λu=>ZM _ _ _ _ _ _ _ u,λb q=> ?_,λ_=>⟨c.r.ft,?_,c.r.I,x5⟩,λf i m X y p E z J B=> ?_,λf i E m X y p z J B=> ?_⟩
  .rcases q with rfl|rfl|rfl
   .exact c.C.ft
   .exact c.N.ft
   .exact c.I.ft
  .grind
  .rw[if_neg Z];have s:lP D f.M f:=o.I ok (λb q=>Ç<|m b<|Ç q) (λb _=>by rw[X]) z (λa _ h=>by rwa[X]) λa q=>by rw[X];exact o.r a<|B a q
   have p_:f.M x:=Ç<|m x<|Ã<|Ç<|Ã U;refine ajE i.r p (Ã<|Ç<|m C<|Ã<|Ç<|Ç U) (Ã<|Ç<|m T<|Ã<|Ã U) (Ã s.c) (by rw[X];exact c.I.C U) (by rw[X];exact c.C.C U) s.d λF V W Y w4 u0 u1 u2 u3 u4 v=> .fD λu r=>(n_ ok (i.kg r.r) p y (s.G ok (λ_ q=>q) r) v p_<|(gO<|r.I x p_).trans<|by rw[X];exact c.N.C U)
  .have s:=ok.gp;refine ajN i.r I Z λF v=> ?_;rw[show j-1+1=j by omega]at v;have r:=c.S;rw[ak0]at r;refine o_ ok L i (by rwa[p]) y (o.I ok (λb q=>m b<|Ç q) (λb _=>by rw[X]) z (λa _ h=>by rwa[X]) λa q=>by rw[X];exact o.r a<|B a q) (by rwa[X]) v (by rwa[X]) λk e=> ?_;rw[E];let⟨a,V,W,Y⟩:=x4 k e;refine⟨c.M k e,?_,λ_=>a⟩;grind
def ak4(ok:D.Ok)(b:EK D)(d:EL D):gU (D.r Ä) where
 C:=akR ok;S k s V w w' h hV hc hz hf xP:=by let⟨⟨a,f,m⟩,t⟩:=h;exact⟨⟨a,hc.trans f,ok.r _ _ _ _ _ m hV⟩,λe=>⟨hz.trans (t e).1,hf.trans (t e).2.1,ok.ioS _ _ (t e).2.2 xP⟩⟩
 GG j dk l g w₁ h r:=GG ok h r;I j dk l g h:=by let⟨_,_,_,h⟩:=h;rcases h with⟨_,_,t,e,f,a,_,_,_,rfl⟩|⟨_,_,t,dv,m,e,f,a,_,_,_,_,_,_,_,rfl⟩<;>rfl
 N k l g h:=by obtain⟨_,_,_,t,e,a,f,m,n,o,p,q,u,v,_,_,_,rfl⟩:=h;rfl
 Y c i l g h:=by obtain⟨_,_,_,t,tb,e,a,f,m,n,o,p,q,u,v,_,_,_,_,_,_,_,_,rfl⟩:=h;rfl
 M dk l g h:=by obtain⟨_,_,_,f,_,rfl⟩:=h;rfl
 go:=ak3 ok;f:=akS ok b;h:=akV;e:=akW ok d
end
end Go.Proofs.Y.fx
namespace Go.Proofs.Y.fx
open Go Go.Conc Go.Proofs.Y.Lift
open Go.ConcN (sumTo sumTo_congr)
structure kK(P:ė)(Y:Nat->Prop)(jr:Ν->Prop)(H:Nat)(J:Jd)(T:gB)(lv:Nat->Nat)(lot:Nat->ff)(gs:Array Ý)(w:ß)(t:ż):Prop where
 C:1<=gs.size
 r:gP P 0 Y (λi=>if i=0 then J else pE P (lv i)) (λi=>if i=0 then T else .fD) (λ_=> .no) lot gs w t
 c:∀i,0<i->i<gs.size->lot i=kF (lot i)
 d:¬(lot 0).q
 M:∀p a,touchAt t p=Â a->a.loc.isMemory=Ò->Knows t 0 p\/(jr a.loc/\a.kind=.atomic)
 S:∀p a x,touchAt t p=Â a->a.loc=û x->t.g? p=Â 0\/x.block<H
 b:∀a:â,H<=a.block->NoRelease a t
 N:t.HandedOver
abbrev si(P:ė):=kK P λ_=>False
structure rj(l l':ff)(w w':ß):Prop where
 r:w.heap.size<=w'.heap.size
 N:∀j,l'.O j->l.O j\/w.heap.size<=j
 rd:l'.I=l.I
 S:l'.r=l.r
 b:l'.N=l.N
 k:l'.K=l.K
 jZ:∀j,j<w.heap.size->¬l.O j->(∀a:â,a.block=j->¬l.r a)->w'.heap[j]?=w.heap[j]?
 M:∀a:â,a.block<w.heap.size->¬l.O a.block->¬l.r a->w'.cell? a=w.cell? a
 Y:∀j,j<w.heap.size->¬l.O j->kY w' j=kY w j
 C:w'.os=w.os
 I:w'.output=w.output
 c:w'.tape=w.tape
theorem rj.gd(l:ff)(w:ß):rj l l w w:=⟨Ú _,λ_ h=>Ã h,U,U,U,U,λ_ _ _ _=>rfl,λ_ _ _ _=>rfl,λ_ _ _=>rfl,U,U,U⟩
def rj.fi{l e i:ff}{w':ß}(h:rj l e w w')(k:rj e i w' u):rj l i w u:=by
 have f:∀j,j<w.heap.size->¬l.O j->¬e.O j:=λj c b q=>(h.N j q).elim b λz=>by omega
 refine⟨Õ h.r k.r,λj q=> ?_,k.rd.trans h.rd,k.S.trans h.S,k.b.trans h.b,k.k.trans h.k,λj c b d=>((k.jZ j (È c h.r) (f j c b)<|by rwa[h.S]).trans<|h.jZ j c b d),λa g b d=>((k.M a (È g h.r) (f _ g b)<|by rwa[h.S]).trans<|h.M a g b d),λj c b=>(k.Y j (È c h.r)<|f j c b).trans<|h.Y j c b,k.C.trans h.C,k.I.trans h.I,k.c.trans h.c⟩
 .rcases k.N j q with z|z
  .exact h.N j z
  .exact Ç<|Õ h.r z
def mI.ak5{l a:ff}(h:mI l a w u V):rj l a w u:=⟨h.C,h.N,h.rd,h.r,h.I,h.k,h.jZ,h.M,λj b c=>h.S ⟨j,0,Á⟩ b c,h.c,h.f,h.i⟩
def rj.G{l a:ff}(h:rj l a (w.at i) u):rj l a w u:=⟨h.r,h.N,h.rd,h.S,h.b,h.k,h.jZ,h.M,h.Y,h.C,h.I,h.c⟩
section
variable{Y:Nat->Prop}{jr:Ν->Prop}{H:Nat}{J:Jd}{T:gB}{lv:Nat->Nat}{lot:Nat->ff}{gs:Array Ý}{t:ż}{sl:Option (Nat×Nat)}
def kK.I(c:kK P Y jr H J T lv lot gs w t)(d:Nat):kK P Y jr H J T lv lot gs (w.at d) t:=⟨c.C,c.r.at d,c.c,c.d,c.M,c.S,c.b,c.N⟩
def ak6{l:ff}{e:ž}(h:yP l e)(a:â):ï e≠.mark (.release a):=by
 let⟨c,d,g⟩:=e;rcases h with⟨x,b,_⟩|h|⟨f,h⟩|h|h|⟨x,_,h⟩
 .simp only at b;subst b;simp[ï]
 .simp only at h;subst h;simp[ï]
 .simp only at h;subst h;simp[ï]
 .simp only at h;subst h;simp[ï]
 .simp only at h;subst h;simp[ï]
 .simp only at h;rcases h with rfl|rfl|rfl|rfl<;>simp[ï]
theorem ak7{e:ž}(h:e.mute=Ò)(a:â):ï e≠.mark (.release a):=by let⟨b,c,d⟩:=e;cases b<;>simp_all[Event.mute];rename_i m;cases m<;>simp_all[ï]
theorem kK.ak8{k:ß->gB}(c:kK P Y jr H J (.jR k) lv lot gs w t)(o:∀l g,J l g->g.status=ċ\/g.status=ş)(r:gs[0]?=Â g): ∃e b d u,runT P (Ĭ gs w sl) 0=(.next<|Ĭ b d sl,u)/\b.size=gs.size/\rj (lot 0) (e 0) w d/\kK P Y jr H J (k w) lv e b d (t++u):=by
 obtain⟨b,d,G,s,v,f,I,K,j,y⟩:=c.r.ft r U λl g h=>o l g h;refine⟨gA lot 0 s,b,d,_,v,f,by rw[gX];exact j.ak5,by rw[f];exact c.C,?_,λi z B=> ?_,?_,λp a h C=> ?_,λp a x h D=> ?_,λa h=>(c.b a h).app λu m=> ?_,Ř c.N λu m=>Ã<|oA u m⟩
 .have e:fC (λi=>if i=0 then(.jR k:gB)else .fD) 0 (k w)=λi=>if i=0 then k w else .fD:=by
   funext i;unfold fC;grind
  rwa[<-e]
 .rw[gJ lot _ Z];exact c.c i z<|by rwa[<-f]
 .rw[gX,j.q];exact c.d
 .rcases mX h with⟨_,e⟩|⟨_,u,e,E,n⟩
  .exact(c.M p a e C).imp (·.app _) id
  .have:=knows_own n;grind [oA]
 .rcases mX h with⟨F,e⟩|⟨_,u,e,E,n⟩
  .rw[g?_old F];exact c.S p a x e D
  .apply Ã;unfold Trace.g?;grind [oA]
 .obtain⟨e,n,rfl⟩:=Č m;exact ak6 (j.b e n) a
theorem kK.q_(c:kK P Y jr H J T lv lot gs w t)(q:gs[i]?=Â g)(b:i≠0)(y:g.status=ċ): ∃a e f u,runT P (Ĭ gs w sl) i=(.next<|Ĭ f w sl,u)/\f.size=gs.size/\sumTo gs.size a+1=sumTo gs.size lv/\e 0=lot 0/\kK P Y jr H J T a e f w (t++u):=by
 have z:=(æ.1 q).1;obtain⟨f,r,m,M,B,o,N,C,D⟩:=c.r.O1 (n:=lv i) q b y U (by simp[b]) (by simp[b]);have E:∀u∈MemOp.ofEvents i g.frame.fn g.frame.place r,u.act.touch?=Á:=λu h=>by obtain⟨e,s,rfl⟩:=Č h;exact touch_mute<|C e s
 refine⟨fC lv i m,gA lot i {lot i with d:=į (lot i).d r,w:=w},f,_,B,o,?_,gJ lot _<|Ne.symm b,by rw[o];exact c.C,?_,λj v F=> ?_,?_,λp a k G=> ?_,λp a x k I=> ?_,λa k=>(c.b a k).app λu h=> ?_,Ř c.N λu h=>Ç<|E u h⟩
 .grind [xo,fK,gH]
 .have l:fC (λi=>if i=0 then J else pE P (lv i)) i (pE P m)=λj=>if j=0 then J else pE P (fC lv i m j):=by
   funext j;unfold fC;grind
  rwa[<-l]
 .by_cases e:j=i
  .subst e;rw[gX];have:=c.c j v z;rw[this];rfl
  .rw[gJ lot _ e];exact c.c j v<|by rwa[<-o]
 .rw[gJ lot _<|Ne.symm b];exact c.d
 .rcases mX k with⟨_,l⟩|⟨_,u,l,K,_⟩
  .exact(c.M p a l G).imp (·.app _) id
  .grind
 .rcases mX k with⟨L,l⟩|⟨_,u,l,K,_⟩
  .rw[g?_old L];exact c.S p a x l I
  .grind
 .obtain⟨e,s,rfl⟩:=Č h;grind [ak7]
def kK.KV(c:kK P Y jr H J T lv lot gs w t):∀g∈gs,awake g:=by
 intro g e;obtain⟨i,f,rfl⟩:=Array.mem_iff_getElem.1 e;let⟨g0,_,b,a,_⟩:=c.r.C i _<|ì f;intro τ d;generalize gs[i]=g at b d;cases b with
 |fX=>rcases a with a|a<;>rw[d]at a<;>cases a
theorem kK.G(K:∀l g,J l g->g.status=ċ\/g.status=ş):∀(T:gB) (s:Nat) (lv:Nat->Nat) (lot:Nat->ff) (gs:Array Ý) (w:ß) (sl:Option (Nat×Nat)) (t:ż),sumTo gs.size lv=s->kK P Y jr H J T lv lot gs w t-> ∃N h b a f e c,Ŷ P N (Ĭ gs w sl) t=(.next<|Ĭ a f e,c)/\a.size=gs.size/\rj (lot 0) (b 0) w f/\kK P Y jr H J .fD h b a f c:=by
 intro T
 induction X2.apply T with
 |intro T _ L=>
  intro s
  induction s using Nat.strongRecOn with
  |_ s M=>
   intro lv lot gs w sl t V c;cases C:T with
   |fD=>
    subst C;exact⟨0,lv,lot,gs,w,sl,t,U,U,rj.gd _ _,c⟩
   |jR k=>
    subst C;have W:=c.C;obtain⟨g0,D⟩:∃g,gs[0]?=Â g:=⟨_,ì Z⟩;have O:g0.status=ċ:=by let⟨S,d,i,_,_⟩:=c.r.C 0 g0 D;grind [ag1]
    let⟨i,g,d,e,E,Q,F⟩:=crowd_pick (P:=P) (w:=w) (sl:=sl) c.KV ⟨0,g0,D,O⟩;by_cases G:i=0
    .subst G;let⟨b,a,f,u,n,j,S,I⟩:=(c.I d).ak8 (sl:=e) K E;let⟨N,o,p,q,r,v,x,y,z,m,B⟩:=L (k<|w.at d) ⟨_,U⟩ _ lv b a f e (t++u) U I;exact⟨N+1,o,p,q,r,v,x,by simp only[Ŷ,F,n];exact y,z.trans j,S.G.fi m,B⟩
    .let⟨h,b,a,u,n,j,I,f,S⟩:=(c.I d).q_ (sl:=e) E G Q;let⟨N,o,p,q,r,v,x,y,z,m,B⟩:=M (sumTo a.size h) (by rw[j];omega) h b a (w.at d) e (t++u) U S;exact⟨N+1,o,p,q,r,v,x,by simp only[Ŷ,F,n];exact y,z.trans j,by rw[f]at m;exact m.G,B⟩
end
section
variable{F:Ph}{E:fZ F}{S:Nat->Jd}{tr:Nat->gB}{o:Nat->iD}{f:Nat->ff}{gs:Array Ý}
def PI.jz(p:PI F i zX E S tr o f gs w qJ)(c:E.M=.gl):E.r=F.n+1/\∀x,x<F.n+1->∃N,E.N x=Â (.jz N):=by
 refine⟨(by unfold fZ.r;rw[c];rfl),λx g=> ?_⟩;have a:=P3 (p.C.B<|Ç<|Ç c) x g;have j:x<E.M.ad F.n:=by rwa[c]
 unfold fZ.G at a;rw[if_pos j]at a;have l:E.M.gF=0:=by rw[c];rfl
 cases d:E.N x with
 |none=>rw[d]at a;simp[mj]at a
 |some e=>
  rw[d]at a;simp only[mj]at a;cases e with
  |oW=>simp[iq.kS]at a
  |jz N=>exact⟨N,U⟩
  |gl q=>
   let⟨h,k⟩:=p.C.N x q d;cases q with
   |jI=>simp[iq.kS,jL.kS]at a
   |iJ=>simp[iq.kS,jL.kS]at a
   |gD W=>
    let⟨_,b⟩:=h W<|Ã U;have r:=p.M.C.r;rw[b]at r;have:=(p.C.g W b).2.1;simp only[GS.ok]at r;omega
   |jg W=>
    let⟨_,b⟩:=h W<|Ç U;have r:=p.M.C.r;rw[b]at r;have:=(p.C.g W b).2.1;simp only[GS.ok]at r;omega
   |iE r=>
    let⟨W,_,s,b⟩:=k r U;have:=(p.C.u r s b).2.1;omega
def xR(l:ff):ff:={l with O:=λ_=>False,I:=λ_=>False,r:=λ_=>False,N:=λ_=>False,K:=λ_=>False,q:=True}
def vy(f:Nat->ff)(l:ff):Nat->ff:=λi=>if i=0 then l else xR (f i)
def SY(f:Nat->ff)(l:ff):vy f l 0=l:=rfl
def vZ(f:Nat->ff)(l:ff)(h:i≠0):vy f l i=xR (f i):=if_neg h
def H9{l:ff}(h:i≠0):¬(vy f l i).M b:=by rw[vZ f l h];exact λq=>q.elim id id
def Ia{l:ff}(h:i≠0):¬(vy f l i).C a:=by rw[vZ f l h];exact λq=>q.elim id id
def iW.Y{Y I:Nat->Prop}(C:iW n I Y f w qJ)(u:I 0){l:ff}(v:n<=m)(x:∀b,l.O b->¬l.I b)(y:∀a,l.r a->¬l.N a)(B:∀b,l.M b->¬X b)(D:∀a,l.C a->X a.block)(E:∀b,l.M b->b<w.heap.size)(F:∀b,X b->b<w.heap.size)(G:fI l l.w w)(H:OW qJ 0 l)(J:l.d=(f 0).d)(t:∀a,l.K a->X a.block/\¬l.r a):iW m I X (vy f l) w qJ:=by
 refine⟨λi j g L s b o=> ?_,λi j g L s a e=> ?_,λi g b o=> ?_,λi g a e=> ?_,λi g b o=> ?_,λi g a e=> ?_,λi g b o=> ?_,F,λi g=> ?_,λi g=> ?_,λi g=> ?_,C.l,C.q,λp a c N r P=>È (C.s p a c N r P) v,λi g a e=> ?_⟩
 .by_cases h:j=0
  .subst h;exact absurd (Ã o)<|H9 s
  .exact H9 h
 .by_cases h:j=0
  .subst h;exact absurd (Ã e)<|Ia s
  .exact Ia h
 .by_cases h:i=0
  .subst h;exact x b o
  .exact absurd (Ã o)<|H9 h
 .by_cases h:i=0
  .subst h;exact y a e
  .exact absurd (Ã e)<|Ia h
 .by_cases h:i=0
  .subst h;exact B b o
  .exact absurd o<|H9 h
 .by_cases h:i=0
  .subst h;exact D a e
  .exact absurd e<|Ia h
 .by_cases h:i=0
  .subst h;exact E b o
  .exact absurd o<|H9 h
 .by_cases h:i=0
  .subst h;exact G
  .rw[vZ f l h];exact⟨(C.r i g).r,λj q=>q.elim (λz=>z.elim) λz=>z.elim,λa q=>q.elim (λz=>z.elim) λz=>z.elim,λa q=>q.elim (λz=>z.elim) λz=>z.elim,λa q=>q.elim⟩
 .by_cases h:i=0
  .subst h;exact H
  .rw[vZ f l h];exact⟨λa e=>e.elim,λa e=>e.elim,λa e=>e.elim,λa e=>e.elim⟩
 .by_cases h:i=0
  .subst h;rw[SY,J];exact C.f 0 u
  .rw[vZ f l h];exact C.f i g
 .by_cases h:i=0
  .subst h;refine⟨(t a e).1,λk z q=> ?_⟩;by_cases r:k=0
   .subst r;exact(t a e).2 q
   .exact absurd (Ã q)<|Ia r
  .rw[vZ f l h]at e;exact e.elim
theorem PI.ak9(p:PI F i zX E S tr o f gs w qJ)(m:E.M=.gl)(r:KR F zX qJ)(y:F.S=0)(M:1<=F.L): ∃z:Nat->Nat,kK F.P E.Y (λk=>zX k\/∃x:â,k=û x/\x.block=F.C) w.heap.size (F.j E.I) (tr 0) z (vy f<|f 0) gs w qJ:=by
 let⟨B,s⟩:=p.jz m;have O:gs.size=F.L+(F.n+1):=by rw[p.b,B]
 have C:=p.I.r;have c:0<gs.size:=Z
 refine⟨λb=>if h:F.L<=b/\b<F.L+(F.n+1)then Classical.choose (s (b-F.L) Z)else E.h b,Z,⟨?_,λb x t=> ?_,p.I.I⟩,λb Q _=> ?_,p.a.M 0<|Ã U,λq a d D=> ?_,λq a x d G=>Ç<|X0 C.q d G,λa d q u=> ?_,r.2⟩
 .rw[y]at C;exact C.Y c (Ú _) (C.m 0 c) (C.g 0 c) (C.I 0 c) (C.e 0 c) (C.fA 0 c) C.N (C.r 0 c) (C.S 0 c) U λa d=>⟨(C.n 0 c a d).1,(C.n 0 c a d).2 0 c⟩
 .let⟨k,j,l,v,H⟩:=p.I.C b x t;by_cases h:b=0
  .subst h;rw[p.h.1,m]at j;rw[p.h.2,m]at l;exact⟨k,j,l,v,H⟩
  .have T:=(æ.1 t).1;simp only[h,if_false];rw[vZ f _ h];have I:∀N,S b=pE F.P N->tr b=.fD->o b=.no->∃k,ln F.P (b==0) (pE F.P N) .fD (xR<|f b) k/\xk k .no x/\(k.status=ċ\/k.status=ş)/\(x=k\/True):=λN z e g=>by
    rw[z,e]at j;rw[g]at l;exact⟨k,λJ _=>j _<|fI.gd _ _,l,v,Ç trivial⟩
   by_cases J:b<F.L
   .let⟨z,e,g⟩:=p.l b Z J;grind
   .have K:F.L<=b/\b<F.L+(F.n+1):=Z
    simp only[K,dif_pos,and_self];let⟨z,e,g⟩:=p.k (b-F.L) _ Z<|Classical.choose_spec<|s (b-F.L) Z;rw[show F.L+(b-F.L)=b by omega]at z e g;exact I _ z (g ⟨_,U⟩) e
 .rw[vZ f _ Z];rfl
 .rcases r.1 q a d D with z|⟨z,k⟩;all_goals grind
 .unfold Trace.act? at u;let⟨k,z,g⟩:=ġ.1 u;have:=C.q k<|Array.mem_of_getElem? z;rw[g]at this;have e:a.block<w.heap.size:=this;omega
theorem kK.Y{Y:Nat->Prop}{J:Jd}{s:gB}(c:kK P Y zX n J s D f gs w qJ)(t:(f 0).d=0)(o:gs[0]?=Â g)(u:g.status=ċ){p:Jd}{T:gB}{l:ff}(v:l.w=w)(y:l.d=0)(B:¬l.q)(k:∀b,¬l.I b)(r:∀a,¬l.r a)(m:∀a,¬l.N a)(C:∀a,¬l.K a)(E:∀b,l.O b->b<w.heap.size/\∀x:â,x.block=b->¬zX (û x))(F:ln P Ò p T l g): si P zX n p T D (vy f l) gs w qJ:=by
 refine⟨c.C,⟨?_,λi x j=> ?_,c.r.I⟩,λi o _=> ?_,B,c.M,c.S,c.b,c.N⟩
 .refine(c.r.r).Y c.C (Ú _) (λb _=>k b) (λa _=>m a) (λ_ _=>id) (λa e=>e.elim (λq=>absurd q<|r a) λq=>absurd q<|m a) (λb z=>z.elim (λq=>(E b q).1) λq=>absurd q<|k b) (λ_ h=>h.elim) (by rw[v];exact fI.gd _ _) ⟨λa e G x j I=> ?_,λa e=>(k _ e).elim,λa e=>(r a e).elim,λa e=>(m a e).elim⟩ (by rw[y,t]) λa e=>absurd e<|C a;rcases c.M G x j (by rw[I];rfl)with z|⟨z,_⟩;all_goals grind
 .by_cases h:i=0
  .subst h;rw[o]at j;obtain rfl:=Ó j;exact⟨g,F,.fX,Ã u,Ã U⟩
  .let⟨g0,e,G,I,z⟩:=c.r.C i x j;simp only[h,if_false]at e z|-;rw[vZ f _ h];exact⟨g0,λL _=>e _<|fI.gd _ _,G,I,z⟩
 .rw[vZ f _ Z];rfl
end
section
variable{F:Ph}{H:Nat}{J:Jd}{f:Nat->ff}{gs:Array Ý}
structure SZ(F:Ph)(H:Nat)(l0 l:ff)(w:ß):Prop where
 ft:∀b,l.O b->l0.O b/\¬(F.M b\/b=F.Y)
 rd:∀b,l.I b->l0.O b/\¬(F.M b\/b=F.Y)/\¬l.O b
 r:∀a,l.r a↔∃x,x<=F.n/\ma F x a
 C:∀a,l.N a↔a=jj F.toFx 0
 k:∀a,l.K a->F.G a
 I:∀b,F.M b\/b=F.Y->l0.O b
 M:∀b,F.M b->H<=b
 f:l.w=w
 d:l.d=0
 q:¬l.q
 N:∀b,F.i b->l.I b
 S:ij w F.C (.cl 1 0)
 Y:ij w (F.I 0) (.cl 0 0)
 c:∀k,1<=k->k<=F.m->ij w (F.I k) (.cl 1 0)
 e:F.d 0 F.l F.i w
def mr(F:Ph)(D:Nat->Nat)(a:Nat->Nat):fZ F where
 M:=.go 0
 S:=.kR 0
 C:=λ_=> .nF 0
 N:=λ_=>Á
 I:=a
 c:=λ_=>F.l
 V:=λk=>if k=0 then F.i else λ_=>False
 e:=λ_=>0
 d:=λ_=>Á
 f:=λ_=>0
 b:=.cl 1 0
 a:=λk=>if k=0 then .cl 0 0 else .cl 1 0
 g:=Á
 h:=D
theorem LN(ok:F.Ok)(h:ma F i a):(∃k,1<=k/\k<=F.m/\a=jj F.toFx k)\/∃p,p≠F.f/\a=ju F p:=by
 unfold ma at h;split at h
 .obtain⟨k,c,d,b|b⟩:=h
  .grind
  .exact Ç ⟨_,ok.Y.1 k c d,b⟩
 .let⟨k,c,_,b⟩:=h;exact Ç ⟨_,ok.Y.2 _ (by assumption),b⟩
def q'(ok:F.Ok)(h:ma F i (jj F.toFx 0)):False:=by
 rcases LN ok h with⟨k,c,b,a⟩|⟨p,_,a⟩
 .have:F.I 0=F.I k:=by injection a
  have:=ok.S 0 k Z b this;omega
 .have:F.I 0=F.Y:=by injection a
  exact ok.C<|by rw[<-this];exact Ç ⟨0,Z,U⟩
theorem si.ala(X:gU F)(c:si F.P zX H J .fD D f gs w qJ)(hL:F.L=gs.size)(hB:F.S=0)(E:gs[0]?=Â g){l:ff}(st:SZ F H (f 0) l w)(pG:(f 0).d=0)(u:Nat->Nat)(hgo:F.g 0 u l g): PI F qJ.size zX (mr F D u) (λi=>if i=0 then F.g 0 u else pE F.P (D i)) (λ_=> .fD) (λ_=> .no) (λi=>if i=0 then l else xR (f i)) gs w qJ:=by
 have S:=X.C;have C:=c.r.r;have kq:=c.C;have T:0<gs.size:=Z
 have y:(mr F D u).r=0:=U;have hY:∀b,(mr F D u).Y b↔(F.M b\/b=F.Y):=λb=>by
  constructor
  .rintro(q|q|⟨j,B,_⟩);all_goals grind
  .rintro(q|q)
   .exact Ã q
   .exact Ç<|Ã q
 have r_:∀a,l.C a->F.M a.block\/a.block=F.Y:=λa o=>by
  rcases o with q|q
  .let⟨x,_,G⟩:=(st.r a).1 q;rcases LN S G with⟨k,B,t,rfl⟩|⟨p,_,rfl⟩
   .exact Ã<|Ç ⟨k,t,U⟩
   .exact Ç U
  .rw[(st.C a).1 q];exact Ã<|Ç ⟨0,Z,U⟩
 have nC:∀i,i≠0->∀a,¬((λi=>if i=0 then l else xR (f i)) i).C a:=λi h a q=>by simp only[h,if_false]at q;exact q.elim id id
 have nM:∀i,i≠0->∀b,¬((λi=>if i=0 then l else xR (f i)) i).M b:=λi h b q=>by simp only[h,if_false]at q;exact q.elim id id
 have hM0:∀b,l.M b->(f 0).O b/\¬(F.M b\/b=F.Y):=λb q=>q.elim (st.ft b) λz=>⟨(st.rd b z).1,(st.rd b z).2.1⟩;have P5:iW F.S (λi=>i<gs.size) (mr F D u).Y (λi=>if i=0 then l else xR (f i)) w qJ:=by
  refine⟨λi j E hj N b v=> ?_,λi j E hj N a o=> ?_,λi E b v=> ?_,λi E a o=> ?_,λi E b v=> ?_,λi E a o=> ?_,λi E b v=> ?_,λb v=>C.fA 0 T b<|Ã<|st.I b<|(hY b).1 v,λi E=> ?_,λi E=> ?_,λi E=> ?_,C.l,C.q,λq a e B t I=> ?_,λi E a o=> ?_⟩
  .by_cases h:j=0
   .subst h;simp only[N,if_false]at v;exact v.elim
   .exact nM j h b
  .by_cases h:j=0
   .subst h;simp only[N,if_false]at o;exact o.elim
   .exact nC j h a
  .by_cases h:i=0
   .subst h;simp only[if_true]at v|-;exact λq=>(st.rd b q).2.2 v
   .simp only[h,if_false]at v;exact v.elim
  .by_cases h:i=0
   .subst h;simp only[if_true]at o|-;intro q;rw[(st.C a).1 q]at o;let⟨x,_,G⟩:=(st.r _).1 o;exact q' S G
   .simp only[h,if_false]at o;exact o.elim
  .by_cases h:i=0;all_goals simp_all
  .by_cases h:i=0;all_goals simp_all
  .by_cases h:i=0
   .subst h;simp only[if_true]at v;exact C.fA 0 T b<|Ã (hM0 b v).1
   .simp_all
  .by_cases h:i=0
   .subst h;simp only[if_true];rw[st.f];exact fI.gd _ _
   .simp only[h,if_false];exact⟨(C.r i E).r,λj q=>q.elim (λz=>z.elim) λz=>z.elim,λa q=>q.elim (λz=>z.elim) λz=>z.elim,λa q=>q.elim (λz=>z.elim) λz=>z.elim,λa q=>q.elim⟩
  .by_cases h:i=0
   .subst h;simp only[if_true];have s:=(C.S 0 T).ft;exact⟨λa o=>s a (st.ft _ o).1,λa o=>(s a (st.rd _ o).1).r,λa o=>s a<|st.I _<|r_ a<|Ã o,λa o=>(s a<|st.I _<|r_ a<|Ç o).r⟩
   .simp only[h,if_false];exact⟨λa o=>o.elim,λa o=>o.elim,λa o=>o.elim,λa o=>o.elim⟩
  .by_cases h:i=0
   .subst h;simp only[if_true];rw[C.f 0 T,pG,st.d]
   .simp only[h,if_false];exact C.f i E
  .have:=C.s q a e B t I;omega
  .by_cases h:i=0
   .subst h;simp only[if_true]at o;let⟨b,v,s⟩:=st.k a o;have Q:a.block=b:=by rcases s with rfl|rfl<;>rfl
    refine⟨by rw[hY,Q];exact Ã v,λk K q=> ?_⟩;by_cases t:k=0
    .subst t;simp only[if_true]at q;let⟨x,_,G⟩:=(st.r a).1 q;rcases LN S G with⟨k',_,_,I⟩|⟨p',_,I⟩
     .rcases s with W|W<;>rw[W]at I<;>simp[fQ,gZ,jj]at I
     .have:a.block=F.Y:=by rw[I];rfl
      exact S.C<|by rwa[<-this,Q]
    .simp only[t,if_false]at q;exact q
   .simp only[h,if_false]at o;exact o.elim
 have t_:gP F.P F.S (mr F D u).Y (λi=>if i=0 then F.g 0 u else pE F.P (D i)) (λ_=> .fD) (λ_=> .no) (λi=>if i=0 then l else xR (f i)) gs w qJ:=by
  refine⟨P5,λi x G=> ?_,c.r.I⟩;by_cases h:i=0
  .subst h;rw[E]at G;obtain rfl:=Ó G;simp only[if_true];exact⟨g,λs r=>X.GG 0 u l g s hgo r,.fX,Ã<|X.I 0 u l g hgo,Ã U⟩
  .let⟨g0,Q,q2,N,q4⟩:=c.r.C i x G;simp only[h,if_false]at Q|-;exact⟨g0,λs _=>Q _<|fI.gd _ _,q2,N,Ç trivial⟩
 have alb:iL F (mr F D u) (λi=>if i=0 then l else xR (f i)) gs.size w:=by
  refine⟨λi E a o=> ?_,λx _ t a o=> ?_,λ_=> ?_,λh=>absurd h (by rw[y];omega),λh=>absurd h (by rw[y];omega),λj h=>absurd h (by rw[y];omega),λj h=>absurd h (by rw[y];omega),λx ⟨e,B,_⟩=>(by cases B),λi h=> ?_,λi B t=> ?_,λk K b v=> ?_,λk K i E q=> ?_,λk B t=> ?_,λj h=>absurd h<|by rw[y];omega⟩
  .by_cases h:i=0
   .subst h;simp only[if_true]at o;rcases o with q|q
    .let⟨x,_,G⟩:=(st.r a).1 q;grind [LN]
    .exact Ã ⟨0,Z,(st.C a).1 q⟩
   .simp_all
  .simp only[if_true];exact(st.r a).2 ⟨x,t,o⟩
  .simp only[if_true];exact⟨(st.C _).2 U,st.N⟩
  .rcases h with rfl|⟨x,G,_⟩
   .simp only[if_true];exact st.q
   .grind
  .have:i≠0:=Z
   simp only[this,if_false];rfl
  .have Q:k=0:=by have:k<=0:=K;omega
   subst Q;have B:=st.N b v;refine⟨C.fA 0 T b<|Ã (st.rd b B).1,by rw[hY];exact(st.rd b B).2.1,λi E q=> ?_⟩;by_cases h:i=0
   .subst h;simp only[if_true]at q;exact(st.rd b B).2.2 q
   .simp only[h,if_false]at q;exact q
  .have Q:k=0:=by have:k<=0:=K;omega
   subst Q;by_cases h:i=0
   .subst h;simp only[if_true]at q;let⟨x,_,G⟩:=(st.r _).1 q;exact q' S G
   .simp only[h,if_false]at q;exact q
  .have:k<=0:=t;omega
 have gg:∀k,k<=F.m->ij w (F.I k) ((mr F D u).a k):=λk K=>by
  by_cases h:k=0
  .subst h;exact st.Y
  .have:(mr F D u).a k=.cl 1 0:=by simp[mr,h]
   rw[this];exact st.c k Z K
 have wdd:Wd F (mr F D u) w:=by
  refine⟨st.S,gg,λj h=>absurd h (by rw[y];omega),λk K=> ?_,λk B t=> ?_,λj h=>absurd h<|by rw[y];omega⟩
  .have Q:k=0:=by have:k<=0:=K;omega
   subst Q;exact⟨.vx,st.e⟩
  .have:k<=0:=t;omega
 have u_:∀k,(sumTo F.n λj=>((mr F D u).C j).gF F j k)=0:=λk=>by
  have:∀n,(sumTo n λ_=>0)=0:=λn=>by
   induction n with
   |zero=>rfl
   |succ n s=>simp[sumTo,s]
  exact this F.n
 have alc:sumTo (F.n+1) (mr F D u).G=1:=by
  have B:=xo (f':=(mr F D u).G) (j:=0) (n:=F.n+1) Z (λi E=>by
   have:¬i<1:=Z
   show(if i<1 then _ else _)=0;rw[if_neg this])
  have t:∀n,(sumTo n λ_=>0)=0:=λn=>by
   induction n with
   |zero=>rfl
   |succ n s=>simp[sumTo,s]
  rw[t]at B;have I:(mr F D u).G 0=1:=U;omega
 have pss:Ps F (mr F D u):=by
  refine⟨U,λj h=> ?_,λj h=> ?_,λr=>⟨λh=>(by cases h),λh=>(by cases h)⟩,λ_=>rfl,λk=>⟨λh=> ?_,λh=>(by cases h),λp h=>by cases h⟩,λ_ _=>rfl,λj r h=>absurd h (by rw[y];omega),λj h=>absurd h (by rw[y];omega),λh=>absurd U h,λ_ _=>rfl,λj j' h=>absurd h (by rw[y];omega),λj h=>absurd h (by rw[y];omega),λc reg h=> ?_,λreg h=>(by cases h),λr s h=>(by cases h),λx p h=>(by cases h),λh=> ?_,λk B t I=> ?_,λk B t=> ?_,λj r h=>absurd h (by rw[y];omega),λj r h=>absurd h (by rw[y];omega),λh=>(by cases h),λ_ _=>⟨1,rfl⟩,λ_ _ _=>rfl,λj r h=>absurd h<|by rw[y];omega⟩
  .rcases h with h|h|h|h<;>cases h;omega
  .rcases h with h|h|h<;>cases h
  .cases h;omega
  .cases h;exact⟨alc.symm,U⟩
  .rcases h with h|h|h<;>cases h
  .rw[u_];have:k≠0:=Z
   simp[mr,this]
  .have Q:k=0:=by have:k<=0:=t;omega
   subst Q;exact Ç<|Ç ⟨λp h=>(by cases h),Ã ⟨rfl,u_ 0⟩⟩
 have s:TI F.toFx qJ.size zX (mr F D u).r (mr F D u).S.rl (mr F D u).V (mr F D u).e (mr F D u).d (mr F D u).iB (mr F D u).f qJ:=by
  refine⟨Ú _,λp a x o Q hc=> ?_,λx h=>absurd h (by rw[y];omega),λk B t=> ?_,λk B t=> ?_,λb v=>c.b _<|st.M b v,λx h=>absurd h (by rw[y];omega),λp a B t=> ?_,λp a _ t I=>c.M p a t I,λp g _ t I W=>c.N p g t I W⟩
  .let⟨b,v,G⟩:=hc;have P1:x.block=b:=by rcases G with rfl|rfl<;>rfl
   rcases c.S p a x o Q with q|q
   .exact Ã ⟨Pg o,q⟩
   .have:=st.M b v;omega
  .have:k<=0:=t;omega
  .have:k<=0:=t;omega
  .have:=Pg t;omega
 refine⟨by rw[y,hL];rfl,t_,⟨by simp only[if_true];rfl,U⟩,λh=>absurd h (by rw[y];omega),λj h=>absurd h (by rw[y];omega),λx e h=>absurd h (by rw[y];omega),λi B t=>⟨?_,U,U⟩,alb,wdd,pss,s,λi x G v=> ?_,λj r h=>absurd h<|by rw[y];omega⟩
 .have:i≠0:=Z
  simp only[this,if_false];rfl
 .let⟨g0,_,q2,N,_⟩:=t_.C i x G;cases q2 with
  |fX=>rcases N with N|N<;>rw[v]at N<;>cases N
end
end Go.Proofs.Y.fx
namespace Go.Proofs.Y.fx
open Go Go.Conc Go.Proofs.Y.Lift Go.RowKit Go.Conc.Lib Go.ConcR.Gen
open Go.Proofs Go.Proofs.YtgpphkdoanciiaaGreatDoor
section
variable{kd:Nat->Int}{R:Nat}
theorem Ib(h:i∈ia kd R):i<R/\kd i=1:=by have:=Ā.1 h;grind
theorem Ic(h:i∈jE kd R):i<R/\kd i≠1:=by have:=Ā.1 h;grind
def ald:(ia kd R).Nodup:=ņ.filter _
def ale:(jE kd R).Nodup:=ņ.filter _
def Cg(h:k<jJ.length):jJ[k]?=Â (jJ.getD k 0):=by simp[List.getD,h]
def we{l:List Nat}(h:k<l.length):l.getD k 0∈l:=ħ<|Cg h
def w_(c:jJ.Nodup)(a:i<jJ.length)(d:j<jJ.length)(h:jJ.getD i 0=jJ.getD j 0):i=j:=by have b:=Cg a;rw[h]at b;exact(List.getElem?_inj a c).1<|b.trans (Cg d).symm
def y_:∀R,(ia kd R).length+(jE kd R).length=R
 |0=>rfl
 |R+1=>by
  have:=y_ R;by_cases h:kd R=1
  .rw[tx h,Sq h];simp;omega
  .rw[vR h,Sr h];simp;omega
end
structure xS where
 γ:Type
 C:γ
 M:Nat->γ->γ->Prop
 RD:γ->Ï->(Nat->Prop)->ß->Prop
 I:Nat->ByteArray
 r:Nat->Prop
def LO(M:xS)(L n R:Nat)(kd:Nat->Int)(a g:Nat->Nat)(b c:Option â)(d e f h j l:Nat)(o:List é)(p:Nat->Prop)(RC e9:ß->Prop):SD where
 L:=L
 g:=0
 n:=n
 m:=fO kd R
 q:=(jE kd R).length
 N:=R
 I:=l
 C:=g
 M:=f
 S:=h
 s:=j
 u:=b
 t:=d
 l:=c
 k:=e
 o:=λk=>Â ⟨a<|(ia kd R).getD (k-1) 0,0,Á⟩
 a:=λk=>(ia kd R).getD (k-1) 0
 i:=λi=>Â ⟨a<|(jE kd R).getD i 0,0,Á⟩
 c:=λi=>(jE kd R).getD i 0
 b:=λi=>if i<(jE kd R).length then fO kd ((jE kd R).getD i 0)else 0
 f:=o
 d:=p
 RC:=RC
 p:=e9
 γ:=M.γ
 w:=M.C
 v:=M.r
 h:=M.M
 RD:=M.RD
 e:=λk=>M.I<|(ia kd R).getD (k-1) 0
 j:=λi=>M.I<|(jE kd R).getD i 0
section
variable{M:xS}{L R:Nat}{kd:Nat->Int}{a:Nat->Nat}{c:Option â}{cs:List é}{RB:Nat->Prop}{RC e9:ß->Prop}{l d f:ff}
def alf(h:LA kd a D R (Æ O (fO kd R) j7) (Æ c (jE kd R).length j6) v j b J i j9 m l d f)(F:∀w p,RC w->(∀g,RB g->p.heap[g]?=w.heap[g]?)->RC p)(G:∀w p,e9 w->(p.os=w.os/\p.output=w.output)->e9 p)(H:∀s B V w p,M.RD s B V w->(∀g,V g->p.heap[g]?=w.heap[g]?)->M.RD s B V p)(I:1<=n)(K:1<=L)(X:n+R<1000):(LO M L n R kd a D O c j7 j6 j b J i cs RB RC e9).Ok:=by
 have Y:=y_ (kd:=kd) R;have hc:(ia kd R).length=fO kd R:=U;let⟨a1,a2,a3⟩:=h.M;let⟨a4,a5,a6⟩:=h.S;have z:∀k,k<=fO kd R->d.w.heap.size<=D k/\D k<J:=λk r=>⟨(h.r.M k r).1,h.N k r⟩;have SG:=Õ (z 0 Z).1<|Ł (z 0 Z).2;refine⟨F,G,H,I,K,?_,?_,λo=> ?_,λo t=>(Ic<|we t).1,λk C x=> ?_,λk r e=> ?_,λk u r N e=> ?_,?_,λo i' t P e=>w_ ale t P e,λk u C x h3 Q e=> ?_,λo k t C x e=> ?_,λg _=>ă g⟩
 .show n+(jE kd R).length+fO kd R<1000;omega
 .show R<1000;omega
 .show(if o<(jE kd R).length then fO kd ((jE kd R).getD o 0)else 0)<=fO kd R;split
  .rename_i t;exact Z4<|Ł (Ic<|we t).1
  .omega
 .refine(Ib<|we ?_).1;have:k<=fO kd R:=x;omega
 .have:=(z k r).2;have y:D k=i:=e;omega
 .have y:D k=D u:=e;have S:=r;have T:=N;rcases Nat.lt_trichotomy k u with q|q|q
  .have:=h.r.S k u q T;omega
  .exact q
  .have:=h.r.S u k q S;omega
 .rintro(e|⟨k,r,e⟩)
  .have y:j=i:=e;omega
  .have y:j=D k:=e;have:=(z k r).1;omega
 .have W:k<=fO kd R:=x;have h4':u<=fO kd R:=Q;have:=w_ ald Z Z e;omega
 .have W:k<=fO kd R:=x;have y:(jE kd R).getD o 0=(ia kd R).getD (k-1) 0:=e;have E:=(Ic<|we t).2;rw[y]at E;exact E<|(Ib (kd:=kd) (R:=R)<|we (k:=k-1) Z).2
end
abbrev kL(M:xS)(L n R:Nat)(kd:Nat->Int)(c g:Nat->Nat)(d e:Option â)(f h i a j k:Nat)(cs:List é)(l:ff):SD:=LO M L n R kd c g d e f h i a j k cs (λb=>l.O b\/b=a) (λw=>∀b,l.O b->w.heap[b]?=l.w.heap[b]?) λw=>w.os=l.w.os/\w.output=l.w.output
def LP(D:SD)(l:ff):ff:={l with O:=λb=>l.O b/\¬(D.Y.M b\/b=D.M)/\¬D.d b,I:=D.d,r:=λa=>∃x,x<=D.n/\ma (D.r Ä) x a,N:=λa=>a=jj D.Y 0,K:=D.Y.G}
section
variable{M:xS}{L:Nat}{f:Nat->Int}{r:Nat->Nat}{u:Option â}{y:Nat}{cs:List é}{l B o:ff}
def LQ{cs:Array Ï}(h:w.heap[b]?=Â (É cs e)):w.frozen? ⟨b,i,Á⟩=Ì:=by simp[î,h]
def S0{cs:Array Ï}(h:w.heap[b]?=Â (É cs e))(a:cs[0]?=Â (Ê ê<|(i:Int)*gi+0))(d:cs[1]?=Â (Ê Ď 0))(f:i<1000000):ij w b (.cl i 0):=by
 refine⟨?_,?_,LQ h,LQ h,(⟨f,Z,λ_=>rfl⟩)⟩
 .simp[Ö,fQ,h,a,GS.st]
 .simp[Ö,gZ,h,d,GS.sm]
def alg(h:LA f r D j (Æ O (fO f j) j6) (Æ u (jE f j).length y) v k m j9 b j7 J l B o)(s:gC l)(LU:∀g,¬l.I g)(W:¬l.q)(X:l.d=0)(hH:i<=l.w.heap.size)(hV:∀g,M.r g->l.O g)(ri:M.RD M.C v M.r o.w)(xP:o.w.os=l.w.os/\o.w.output=l.w.output)(hn:1<=n)(hs:n+j<1000){t:Array Ï}(hT:HL m b (D<|fO f j) n (Æ u (jE f j).length y) t)(dk:Nat->Nat): SZ ((kL M L n j f r D O u j6 y k m j9 b cs l).r Ä) i o (LP (kL M L n j f r D O u j6 y k m j9 b cs l) o) o.w/\ ((kL M L n j f r D O u j6 y k m j9 b cs l).r Ä).g 0 dk (LP (kL M L n j f r D O u j6 y k m j9 b cs l) o) (BU (À<|Â ⟨b,0,Á⟩) jQ (À<|Â ⟨b,0,Á⟩) (ñ #[]) j7 J<|EE t::cs):=by
 let⟨a1,a2,a3⟩:=h.M;let⟨a4,a5,a6⟩:=h.S;have N:∀C,C<=fO f j->B.w.heap.size<=D C/\D C<j9:=λC E=>⟨(h.r.M C E).1,h.N C E⟩;have SG:=Õ (N 0 Z).1<|Ł (N 0 Z).2;have Y:=λg q=>s.fA g<|Ã q;have hc:(ia f j).length=fO f j:=rfl;have Q:∀g,(kL M L n j f r D O u j6 y k m j9 b cs l).Y.M g\/g=k->g=b\/(∃C,C<=fO f j/\g=D C)\/g=k:=λg q=>by
  rcases q with(q|⟨C,S,q2⟩)|q
  .exact Ã q
  .exact Ç<|Ã ⟨C,S,q2⟩
  .exact Ç<|Ç q
 have H:∀g,(kL M L n j f r D O u j6 y k m j9 b cs l).Y.M g\/g=k->l.w.heap.size<=g/\g≠m/\g≠j9/\g≠j7/\g≠J/\(∀C,(Æ O (fO f j) j6).ownBlock=Â C->g≠C)/\(∀C,(Æ u (jE f j).length y).ownBlock=Â C->g≠C):=λg q=>by
  rcases Q g q with rfl|⟨C,E,rfl⟩|rfl
  .exact⟨Z,Z,Z,Z,Z,λC e=>by have:=h.o3 C e;omega,λC e=>by have:=h.o4 C e;omega⟩
  .have:=N C E;exact⟨Z,Z,Z,Z,Z,λp e z=>(h.r.M C E).2.1<|z▸e,λp e z=>(h.r.M C E).2.2<|z▸e⟩
  .exact⟨Z,Z,Z,Z,Z,λC e=>by have:=(h.r.r C e).2;omega,λC e=>by have:=(h.r.C C e).2;omega⟩
 have alh:∀g,(kL M L n j f r D O u j6 y k m j9 b cs l).Y.M g\/g=k->o.O g:=λg q=>by
  rcases Q g q with rfl|⟨C,E,rfl⟩|rfl
  .exact h.Y.ft
  .by_cases x:C=0
   .subst x;exact h.r.N.ft
   .exact(h.r.I C Z E).ft
  .exact h.I.ft
 have K:∀g,o.O g->l.w.heap.size<=g->g≠m->¬((kL M L n j f r D O u j6 y k m j9 b cs l).Y.M g\/g=k)->(LP (kL M L n j f r D O u j6 y k m j9 b cs l) o).O g:=λg S q2 q4 q3=>⟨S,q3,λq=>q.elim (λq=>by have:=Y g q;omega) q4⟩;have z_:ij o.w b (.cl 1 0):=S0 h.Y.I U U Z;have A_:ij o.w (D 0) (.cl 0 0):=S0 h.r.N.I U U Z;have A':∀C,1<=C->C<=fO f j->ij o.w (D C) (.cl 1 0):=λC I P=>S0 (h.r.I C I P).I U U Z;have T:∀g c,ij o.w g c->nJ g o.w:=λg c q=>⟨by rw[show(⟨g,0,Á⟩:â)=fQ g from rfl,q.C];rfl,by rw[show(⟨g,1,Á⟩:â)=gZ g from rfl,q.M];rfl⟩;refine⟨⟨λg q=>⟨q.1,q.2.1⟩,λg q=>⟨?_,λz=> ?_,λz=>z.2.2 q⟩,λa=>Iff.rfl,λa=>Iff.rfl,λa q=>q,λg q=>alh g q,λg q=>Õ hH (H g<|Ã q).1,U,h.C.d.trans X,by show¬o.q;rwa[h.C.q],λg q=>Ã<|hV g q,z_,A_,A',⟨⟨v,h.r.N.C U,ri⟩,λ_=> ?_⟩⟩,?_⟩
 .rcases q with q|q
  .exact h.C.O g q
  .rw[q];exact h.a.ft
 .rcases q with q|q
  .have:=(H g z).1;have:=Y g q;omega
  .exact(H g z).2.1 q
 .refine⟨?_,by unfold kY;rw[show o.w.heap[(kL M L n j f r D O u j6 y k m j9 b cs l).M]?=Â (xL j)from h.I.I],xP⟩;show o.w.cell? ⟨k,j,Á⟩=Á;simp only[Ö,h.I.I,xL,ı,Ķ,if_false];exact Array.getElem?_eq_none<|by rw[ř];exact Ú _
 refine⟨h.C.d.trans X,by show¬o.q;rwa[h.C.q],ă _,Ã ⟨U,⟨λg q=>⟨⟨g,q,Ã U⟩,⟨g,q,Ç U⟩⟩,λg q=> ?_,Ç<|Ç U,h.a.C U,(Ã<|K j9 h.c.ft Z Z λz=>(H j9 z).2.2.1 U),h.c.C U,λC E=> ?_,λe hi=> ?_,λa q=> ?_,λg q=>Ç q,λg q=>h.C.r g (Ã q) id⟩,t,j7,J,jQ,hT,⟨(K j7 h.d.ft Z Z λz=>(H j7 z).2.2.2.1 U),h.d.I⟩,⟨(K J h.b.ft Z Z λz=>(H J z).2.2.2.2.1 U),h.b.I⟩,U⟩⟩
 .rcases Q g (Ã q)with rfl|⟨C,E,rfl⟩|rfl
  .exact T _ _ z_
  .by_cases x:C=0
   .subst x;exact T _ _ A_
   .exact T _ _<|A' C Z E
  .exact absurd q λz=>by
    rcases z with z|⟨C,x,F⟩
    .have G:g=b:=z;omega
    .have G:g=D C:=F;have:=(N C x).1;omega
 .have tY:C<fO f j:=E;rcases h.r.jT.2 with⟨_,e2⟩|⟨g,cap,cur,V,_,hcur,H4⟩
  .omega
  .have zC:O=Â ⟨g,0,Á⟩:=by injection V
   subst zC;have x:=h.r.jT.cells U;have hz:(ia f j).zipIdx[C]?=Â ((ia f j).getD C 0,C):=by rw[List.getElem?_zipIdx,Cg Z];simp
   have F:∀c,c<4->(jT f r D j)[C*4+c]?=(tI r D ((ia f j).getD C 0,C))[c]?:=λc q=>Sw (λ_=>rfl) q _ C _ hz;have G:∀p,(⟨g,0,Á⟩:â).add p=⟨g,p,Á⟩:=λp=>by rw[ğ,č]
   refine⟨g,U,Ã (K g (h.r.r g U).1 (Õ Z (h.r.r g U).2) (by have:=(h.r.r g U).2;omega) λz=>(H g z).2.2.2.2.2.1 g U U),?_,?_,?_,?_⟩
   .have:=x (C*4+0) _<|F 0 Z;rwa[G]at this
   .have:=x (C*4+1) _<|F 1 Z;rwa[G]at this
   .have:=x (C*4+2) _<|F 2 Z;rwa[G]at this
   .have:=x (C*4+3) _<|F 3 Z;rwa[G]at this
 .have lF:e<(jE f j).length:=hi;rcases h.r.mN.2 with⟨_,e2⟩|⟨g,cap,cur,V,_,hcur,H4⟩
  .omega
  .have SS:u=Â ⟨g,0,Á⟩:=by injection V
   subst SS;have x:=h.r.mN.cells U;have F:∀c,c<4->(mN f r D j)[e*4+c]?=(tQ f r D<|(jE f j).getD e 0)[c]?:=λc q=>Sw (λ_=>rfl) q _ e _<|Cg lF;have G:∀p,(⟨g,0,Á⟩:â).add p=⟨g,p,Á⟩:=λp=>by rw[ğ,č]
   refine⟨g,U,Ã (K g (h.r.C g U).1 (Õ Z (h.r.C g U).2) (by have:=(h.r.C g U).2;omega) λz=>(H g z).2.2.2.2.2.2 g U U),?_,?_,?_,?_⟩
   .have:=x (e*4+0) _<|F 0 Z;rwa[G]at this
   .have:=x (e*4+1) _<|F 1 Z;rwa[G]at this
   .have:=x (e*4+2) _<|F 2 Z;rw[G]at this;show o.w.cell? ⟨g,e*4+2,Á⟩=Â (À<|Â ⟨D (if e<(jE f j).length then fO f ((jE f j).getD e 0)else 0),0,Á⟩);rw[if_pos lF];exact this
   .have:=x (e*4+3) _<|F 3 Z;rwa[G]at this
 .have V:∀p,p<j->(o.w.cell? ⟨k,p,Á⟩).isSome=Ò/\o.w.frozen? ⟨k,p,Á⟩=Ì:=λp hp=>by
   refine⟨?_,LQ h.I.I⟩;have:p<(madeCells (Ŵ<|à ⟨#[]⟩) j).size:=by rwa[ř]
   simp[Ö,h.I.I,this]
  let⟨x,_,F⟩:=q;unfold ma at F;split at F
  .obtain⟨C,I,P,rfl|rfl⟩:=F
   .have G:=P;refine⟨?_,LQ (h.r.I C I G).I⟩;show(o.w.cell? ⟨D C,2,Á⟩).isSome=Ò;rw[(h.r.I C I G).C U];rfl
   .have G:C<=fO f j:=P;exact V _ (Ib<|we Z).1
  .obtain⟨e,I,_,rfl⟩:=F;exact V _ (Ic<|we I).1
end
end Go.Proofs.Y.fx
namespace Go.Proofs.Y.fx
open Go Go.Conc Go.Proofs.Y.Lift Go.RowKit Go.Conc.Lib Go.ConcR.Gen
open Go.Proofs Go.Proofs.YtgpphkdoanciiaaGreatDoor
open Go.ConcN (sumTo sumTo_congr)
def LV(kd:Nat->Int)(f:Nat->Nat)(R n:Nat)(h:Ï)(l:ff)(cs:List é):Jd:=λi j=>
 ∃g k t m b o c p a d e q,LA kd f g R m b h o c p a d e l k i/\HL c a (g<|fO kd R) n b t/\j=BU (À<|Â ⟨a,0,Á⟩) q (À<|Â ⟨a,0,Á⟩) (ñ #[]) d e (EE t::cs)
theorem B_(h:w.ownsRow i e j v n l):∃b c,v=Æ b n c:=by rcases h.2 with⟨a,d⟩|⟨b,f,g,a,_⟩;all_goals grind
section
variable{F:Ph}{E:fZ F}{S:Nat->Jd}{B:Nat->gB}{G:Nat->iD}{y:Nat->ff}{o:Array Ý}
theorem PI.ali(p:PI F j9 zX E S B G y o w qJ)(c:E.M=.gl)(d:1<=F.n):E.S=.kR F.m/\(∀i,i<F.q->w.cell? (ju F<|F.a i)=Â (à<|F.k i)/\∀k,k<o.size->¬(y k).r (ju F<|F.a i)):=by
 let⟨j,a⟩:=p.jz c;refine⟨p.C.f (by let⟨N,h⟩:=a 0 Z;rw[h];simp),λi k=> ?_⟩;have l:i%F.n<F.n:=ĵ _ d;have e:i%F.n+i/F.n*F.n=i:=by rw[Nat.mul_comm];exact Nat.mod_add_div i F.n
 let⟨N,h⟩:=a (i%F.n+1) Z;let⟨_,r,f,g⟩:=p.C.l (i%F.n) Z (by rw[h];simp);have b:i/F.n<(E.C<|i%F.n).kG:=by rw[f];exact(g (i/F.n)<|by rwa[e])
 have s:=p.M.N (i%F.n) Z (i/F.n) (by rwa[e]) b;have t:=p.a.d (i%F.n) Z (i/F.n) (by rwa[e]) b;grind
end
structure alj(D:SD)(l:ff)(w:ß)(g:Ý):Prop where
 I:∀b,l.O b->w.heap[b]?=l.w.heap[b]?
 cba:w.cell? ⟨D.S,0,Á⟩=Â (Æ (Â ⟨D.M,0,Á⟩) D.N D.N)
 kR:∀k,1<=k->k<=D.m->w.cell? ⟨D.M,D.a k,Á⟩=Â (à<|D.e k)
 S2:∀i,i<D.q->w.cell? ⟨D.M,D.c i,Á⟩=Â (à<|D.j i)
 Ie:∃s sl V,nG (D.r Ä) D.m s/\w.cell? ⟨D.C D.m,2,Á⟩=Â sl/\D.RD s sl V w/\∀b,V b->b<w.heap.size/\b≠D.I
 fA:D.M<w.heap.size/\D.S<w.heap.size/\D.C D.m<w.heap.size
 r:D.M≠D.I/\D.S≠D.I/\D.C D.m≠D.I
 S3:∃ts,SE D.S D.I (D.C D.m) ts/\g=EJ ts D.f
 C:w.cell? ⟨D.M,D.N,Á⟩=Á/\kY w D.M=Â (0,0)
 io:w.os=l.w.os/\w.output=l.w.output
section
variable{M:xS}{f:Nat->Int}{u:Nat->Nat}{cs:List é}{l:ff}{I:Nat->Nat}{y:Nat->ff}{o:Array Ý}
theorem alk(c:si Ä zX j (LV f u J n v l cs) .fD I y o w qJ)(S:Option (Nat×Nat))(s:gC l)(LU:∀b,¬l.I b)(hq:¬l.q)(hd:l.d=0)(hH:j<=l.w.heap.size)(hV:∀b,M.r b->l.O b)(ri:∀s S V w G,M.RD s S V w->(∀b,V b->G.heap[b]?=w.heap[b]?)->M.RD s S V G)(Ch:M.RD M.C v M.r l.w)(xP:w.os=l.w.os/\w.output=l.w.output)(hn:1<=n)(hs:n+J<1000) (hA:∀g r t B D e m p h,l.w.heap.size<=m->EK (kL M o.size n J f u g r t B D e m p h cs l)/\EL (kL M o.size n J f u g r t B D e m p h cs l)): ∃g r t B D e m p h,(l.w.heap.size<=e/\l.w.heap.size<=m/\l.w.heap.size<=h/\∀k,k<=fO f J->l.w.heap.size<=g k)/\ ∃N Y a H C i G K E z,Ŷ Ä N (Ĭ o w S) qJ=(.next<|Ĭ i G K,E)/\i.size=o.size+(n+1)/\i[0]?=Â z/\a<=G.heap.size/\h<a/\j<=a/\(C 0).d=0/\z.status=ċ/\ kK Ä Y (λF=>zX F\/∃x:â,F=û x/\x.block=h) a (h'<|kL M o.size n J f u g r t B D e m p h cs l) .fD H C i G E/\alj (kL M o.size n J f u g r t B D e m p h cs l) l G z:=by
 have h0:=c.C;obtain⟨g0,xu⟩:∃g,o[0]?=Â g:=⟨_,ì h0⟩;let⟨g1,q1,q2,q3,_⟩:=c.r.C 0 g0 xu;obtain rfl:g0=g1:=by cases q2;rfl
 have hz:=q1 w<|c.r.r.r 0 h0;let⟨g,lp,tt,iv,qv,e,m,p,h,bw,bf,T,F,hT,hg⟩:=hz;obtain⟨r,B,rfl⟩:=B_ F.r.jT;obtain⟨t,D,rfl⟩:=B_ F.r.mN;let⟨a1,a2,a3⟩:=F.M;let⟨a4,a5,a6⟩:=F.S;have S4:∀k,k<=fO f J->lp.w.heap.size<=g k/\g k<p:=λk W=>⟨(F.r.M k W).1,F.N k W⟩;have avo:=S4 0 Z;have alm:=ri _ _ _ _ _ Ch λb q=>F.C.r b (Ã<|hV b q) id;obtain⟨st,hgo⟩:=alg F s LU hq hd hH hV alm xP hn hs hT λ_=>0;have ok:=alf (L:=o.size) (cs:=cs) (RB:=λb=>l.O b\/b=m) (RC:=λw=>∀b,l.O b->w.heap[b]?=l.w.heap[b]?) F (λw G P X b a=>(X b<|Ã a).trans<|P b a) (e9:=λw=>w.os=l.w.os/\w.output=l.w.output) (λw G P X=>⟨X.1.trans P.1,X.2.trans P.2⟩) ri hn Z hs;let⟨hAdd,aln⟩:=hA g r t B D e m p h Z;have Hy:=ak4 ok hAdd aln;have B8:=F.C.d.trans hd;have st':SZ ((kL M o.size n J f u g r t B D e m p h cs l).r Ä) j (y 0) (LP (kL M o.size n J f u g r t B D e m p h cs l) {y 0 with w:=w}) w:=⟨st.ft,st.rd,st.r,st.C,st.k,st.I,st.M,st.f,st.d,st.q,st.N,st.S,st.Y,st.c,st.e⟩;rw[<-hg]at hgo;have p0:=c.ala Hy U U xu st' B8 (λ_=>0) hgo;let⟨N1,E,S1,tr1,kp1,avp,gs1,w1,B',t1,r1,x,hf,he⟩:=aiV Hy _ _ _ _ _ _ _ o w S qJ U U p0 (by intro q;cases q);let⟨oV,_⟩:=x.jz hf;let⟨zM,c1⟩:=x.ak9 hf he U h0;let⟨N2,LW,S5,gs2,w2,LX,t2,r2,z2,N,c2⟩:=c1.G (λa i z=>Ã<|Hy.M E.I a i z) (tr1 0) _ zM _ gs1 w1 B' t1 U;have EM:gs1.size=o.size+(n+1):=by rw[x.b,oV];rfl
 have LY:=c2.C;obtain⟨g2,LZ⟩:∃g,gs2[0]?=Â g:=⟨_,ì LY⟩;let⟨g3,u1,u2,u3,_⟩:=c2.r.C 0 g2 LZ;obtain rfl:g2=g3:=by cases u2;rfl
 have hE:=u1 w2<|c2.r.r.r 0 LY;let⟨e1,e2,dat,ts,rm,hge⟩:=hE;have Q:0<gs1.size:=Z
 have C:=x.I.r;have hY:=λb q z=>C.I 0 Q b (Ã z) q;have H:E.Y e:=Ç<|Ã U;have yG:∀k,k<=fO f J->E.Y (g k):=λk W=>Ã<|Ç ⟨k,W,U⟩;have C_:E.Y h:=Ã<|Ã U;let⟨hip,alo⟩:=x.ali hf hn;have hmd:E.S.md=fO f J:=by rw[hip];rfl
 let⟨G8,⟨C',S6,L0⟩,_⟩:=x.M.M (fO f J) Z;have K:=C.N;refine⟨g,r,t,B,D,e,m,p,h,⟨a1,Z,Z,λk W=>by have:=S4 k W;omega⟩,N1+N2,E.Y,w1.heap.size,LW,S5,gs2,w2,LX,t2,g2,?_,Z,LZ,N.r,K h C_,?_,e1,Hy.M E.I _ _<|u1 w2<|c2.r.r.r 0 LY,c2,⟨dat.e,dat.d,λk P X=> ?_,λi hi=> ?_,?_,?_,(⟨show e≠h by omega,show m≠h by omega,show g (fO f J)≠h by have:=S4 (fO f J)<|Ú _;omega⟩),⟨ts,rm,hge⟩,?_,?_⟩⟩
 .rwa[runNT_add,show Ŷ Ä N1 (Ĭ o w S) qJ=_ from r1]
 .grind
 .have a:k<=fO f J:=X;refine Ŀ (N.M ⟨e,_,Á⟩ (K e H) (hY e H)<|x.a.g k P Z 0 Q)<|x.M.S k P Z
 .let⟨T,v2⟩:=alo i hi;exact Ŀ (N.M ⟨e,_,Á⟩ (K e H) (hY e H)<|v2 0 Q) T
 .refine⟨E.c<|fO f J,C',E.V<|fO f J,G8,(Ŀ (N.M ⟨g<|fO f J,2,Á⟩ (K _<|yG _<|Ú _) (hY _<|yG _<|Ú _)<|x.a.N (fO f J) Z 0 Q) S6),ri _ _ _ _ _ L0 λb q=> ?_,λb q=> ?_⟩
  .let⟨T,v2,v3⟩:=x.a.I (fO f J) Z b q;exact N.jZ b T (v3 0 Q) λa ha z=>v2<|ha▸C.e 0 Q a (Ã z)
  .let⟨T,v2,v3⟩:=x.a.I (fO f J) Z b q;exact⟨È T N.r,λz=>v2<|z▸C_⟩
 .refine⟨È (K e H) N.r,c2.r.r.fA 0 LY m<|Ç dat.c,È (K _<|yG _<|Ú _) N.r⟩
 .let⟨a,y2,_⟩:=(x.M.M 0<|ă _).2.2 U;exact⟨Ŀ (N.M ⟨e,J,Á⟩ (K e H) (hY e H)<|x.a.Pl Hy.C 0 Q) a,(N.Y e (K e H)<|hY e H).trans y2⟩
 .let⟨_,_,a⟩:=(x.M.M 0<|ă _).2.2 U;exact⟨N.C.trans a.1,N.I.trans a.2⟩
end
def S7(a:Ν->Prop)(w:ß):ff where
 O:=λb=>b<w.heap.size/\∀x:â,x.block=b->¬a (û x)
 I:=λ_=>False
 r:=λ_=>False
 N:=λ_=>False
 K:=λ_=>False
 q:=False
 d:=0
 w:=w
def D_(a:Ν->Prop)(w:ß):gC (S7 a w):= ⟨λ_ _ h=>h,λ_ h=>h.elim,λ_ h=>h.elim (λq=>q.elim) λq=>q.elim,λ_ h=>h.elim (λq=>q.1) λq=>q.elim,λ_ h=>h.elim (λq=>q.elim) λq=>q.elim,λ_ h=>h.elim⟩
structure wh(jr:Ν->Prop)(H:Nat)(l:ff):Prop where
 r:∀x:â,jr (û x)->x.block<H
 ft:∀b,l.O b->∀x:â,x.block=b->¬jr (û x)
 C:H<=l.w.heap.size
inductive zN(M:xS):Nat->M.γ->Prop
 |vx:zN M 0 M.C
 |DL {k:Nat} {s s':M.γ} (h:zN M k s) (hn:M.M k s s'):zN M (k+1) s'
structure Gr(M:xS)(R:Nat)(kd:Nat->Int)(l:ff)(an:Nat)(sl:Ï)(l':ff):Prop where
 vB:∀b,l.O b->l'.O b/\l'.w.heap[b]?=l.w.heap[b]?
 kG:l'.O an/\∀p,p<R->l'.w.cell? ⟨an,p,Á⟩=Â (à<|M.I p)
 Ie:∃s V,zN M (fO kd R) s/\M.RD s sl V l'.w/\∀b,V b->l'.O b
 d:l'.d=0
 q:¬l'.q
 rd:∀b,¬l'.I b
 xT:(∀a,¬l'.r a)/\(∀a,¬l'.N a)/\∀a,¬l'.K a
 Dm:l'.w.cell? ⟨an,R,Á⟩=Á/\kY l'.w an=Â (0,0)
section
variable{M:xS}{R H:Nat}{kd:Nat->Int}{e:Nat->Nat}{f:List é}{l:ff}{jr:Ν->Prop}{o:Nat->ff}
def alp{a:Option â}{s:M.γ}(h:nG ((kL M i n R kd e D O a j b m J j9 j7 qX l).r Ä) k s):zN M k s:=by
 have c:∀(k:Nat) (s:((kL M i n R kd e D O a j b m J j9 j7 qX l).r Ä).γ),nG ((kL M i n R kd e D O a j b m J j9 j7 qX l).r Ä) k s->zN M k s:=λk s h=>by
  induction h with
  |vx=>exact .vx
  |DL _ d f=>exact .DL f d
 exact c k s h
def alq{J:(Ν->Prop)->Nat->Jd}{cf:é}{a:ŏ}(G5:qX=cf.at a (Ñ Q (i::jJ)::L)::f)(c:si Ä jr H (LV kd e R n v l qX) .fD D o E w qJ)(F:Option (Nat×Nat))(s:gC l)(LU:∀b,¬l.I b)(hq:¬l.q)(hd:l.d=0)(S:wh jr H l)(hV:∀b,M.r b->l.O b)(ri:∀s F V w u,M.RD s F V w->(∀b,V b->u.heap[b]?=w.heap[b]?)->M.RD s F V u)(alr:∀s F V w,M.RD s F V w->(∃p m c,F=Æ p m c)/\∀b,V b->l.O b\/l.w.heap.size<=b)(Ch:M.RD M.C v M.r l.w)(xP:w.os=l.w.os/\w.output=l.w.output)(hn:1<=n)(hs:n+R<1000) (hA:∀g ib qb ci cq B ba bi I,l.w.heap.size<=ba->EK (kL M E.size n R kd e g ib qb ci cq B ba bi I qX l)/\EL (kL M E.size n R kd e g ib qb ci cq B ba bi I qX l)) (hJ:∀EN C W B p m c,wh EN C W->gC W->Gr M R kd l B (Æ p m c) W->fl Ä Ò (J EN C) W (G (cf.at (a.put ((Q[i]?).bind (·.dst))<|ñ #[Æ (Â ⟨B,0,Á⟩) R R,Æ p m c])<|Ñ Q jJ::L) f)): ∃N EN C T jF Ig gs' u tA t',Ŷ Ä N (Ĭ E w F) qJ=(.next<|Ĭ gs' u tA,t')/\(u.os=l.w.os/\u.output=l.w.output)/\si Ä EN C (J EN C) T jF Ig gs' u t':=by
 let⟨g,ib,qb,ci,cq,B,ba,bi,I,⟨b1,b2,b3,b4⟩,N,Y,C,jF,Ig,gs',u,tA,t',g',r,z1,z2,z3,z4,z5,z6,z7,cY,t⟩:=alk c F s LU hq hd S.C hV ri Ch xP hn hs hA;let⟨st,C',V,G8,S6,L0,L3⟩:=t.Ie;obtain⟨⟨sp,sm,sc,rfl⟩,D'⟩:=alr _ _ _ _ L0;obtain⟨ts,rm,rfl⟩:=t.S3;have hH:=S.C;have E_:=λb q=>s.fA b<|Ã q;have X:∀b,(l.O b\/l.w.heap.size<=b)->b<u.heap.size->b≠I->(S7 (λj=>jr j\/∃x:â,j=û x/\x.block=I) u).O b:=λb hb gV ll=>by
  refine⟨gV,λx hx=> ?_⟩;rintro(q|⟨y,P,q2⟩)
  .rcases hb with hb|hb
   .exact S.ft b hb x hx q
   .have:=S.r x q;omega
  .injection P with P;subst P;omega
 have als:=λb q=>by have h:=t.I b q;rw[ì<|E_ b q]at h;exact(æ.1 h).1
 have keep:=λb q=>X b (Ã q) (als b q) (by have:=E_ b q;omega);have L4:=X B (Ç b1) t.fA.1 t.r.1;have alu:fl Ä Ò (J (λj=>jr j\/∃x:â,j=û x/\x.block=I) C) (S7 (λj=>jr j\/∃x:â,j=û x/\x.block=I) u) (EJ ts qX):=by
  rw[G5];refine akK (D_ _ _) (λq=>q) rm (Ã<|X ba (Ç b2) t.fA.2.1 t.r.2.1) (Ã<|Ã<|X _ (Ç<|b4 _<|Ú _) t.fA.2.2 t.r.2.2) t.cba S6 λW h=> ?_;refine hJ (λj=>jr j\/∃x:â,j=û x/\x.block=I) C W B sp sm sc ⟨λx q=> ?_,λb q x hx=> ?_,Õ z3 h.I⟩ (h.N<|D_ _ _) ⟨λb q=>⟨h.O b<|keep b q,(h.r b (Ã<|keep b q) id).trans<|t.I b q⟩,⟨h.O B L4,λp hp=> ?_⟩,⟨st,V,alp G8,ri _ _ _ _ _ L0 λb q=>h.r b (Ã<|X b (D' b q) (L3 b q).1 (L3 b q).2) id,λb q=>h.O b<|X b (D' b q) (L3 b q).1 (L3 b q).2⟩,h.d,?_,λb q=> ?_,⟨λa q=> ?_,λa q=> ?_,λa q=> ?_⟩,⟨(gO<|h.r B (Ã L4) id).trans t.C.1,(xh<|h.r B (Ã L4) id).trans t.C.2⟩⟩
  .rcases q with q|⟨y,P,q2⟩
   .exact È (S.r x q) z5
   .injection P with P;subst P;omega
  .rcases h.c b q with q|q
   .exact q.2 x hx
   .have j:u.heap.size<=b:=q;rintro(z|⟨y,z1,z2⟩)
    .have:=S.r x z;omega
    .injection z1 with z1;subst z1;omega
  .refine(gO<|h.r B (Ã L4) id).trans ?_;by_cases hk:kd p=1
   .have hm:p∈ia kd R:=Ā.2 ⟨Ē.2 hp,by simpa using hk⟩;let⟨j,y⟩:=Ĩ hm;have P:=(Ĕ.1 y).1;have:=t.kR (j+1) Z (show j+1<=fO kd R from P);have e2:(ia kd R).getD (j+1-1) 0=p:=Ó<|(Cg P).symm.trans y;simp only[kL,LO,e2]at this;exact this
   .have hm:p∈jE kd R:=Ā.2 ⟨Ē.2 hp,by simpa using hk⟩;let⟨j,y⟩:=Ĩ hm;have P:=(Ĕ.1 y).1;have:=t.S2 j P;simp only[kL,LO,Ó<|(Cg P).symm.trans y]at this;exact this
  .rw[h.q];exact id
  .rw[h.S]at q;exact q
  .rw[h.Y]at q;exact q
  .rw[h.b]at q;exact q
  .rw[h.K]at q;exact q
 let⟨T,h⟩:=jq alu;exact⟨N,_,C,T,jF,_,gs',u,tA,t',r,t.io,cY.Y z6 z2 z7 U U id (λ_=>id) (λ_=>id) (λ_=>id) (λ_=>id) (λb q=>q) h⟩
end
end Go.Proofs.Y.fx
namespace Go.Proofs.Y.fx
open Go Go.Conc Go.Proofs.Y.Lift Go.RowKit Go.Conc.Lib Go.ConcR.Gen
open Go.Proofs Go.Proofs.YtgpphkdoanciiaaGreatDoor
def qp(V:Nat->Prop)(base:Nat):fv:=⟨λi j=>i=j/\V i,base⟩
def alv(V:Nat->Prop)(base:Nat):Bi (qp V base):= ⟨λ_ _ _ h k=>h.1.symm.trans k.1,λ_ _ _ h k=>h.1.trans k.1.symm,λi j h=>by rw[h.1]⟩
def lG(j:Nat):Bool:=j==3||j==4
def uT(c:Array Ï):Array Ï:=c.extract 0 16
def alx(c:Array Ï):(uT c).size=min 16 c.size:=by simp[uT]
open Classical in
noncomputable def pL (a:Nat->Prop) (j:Nat):Ÿ->Ÿ
 |É c e b=>if a j then(if lG j=Ò then É (uT c) e (0,(uT c).size)else É c e (0,c.size))else É c e b
 |_=>É #[] 0
noncomputable def lu (Sh:Nat->Prop) (w:ß):ß:={w with heap:=w.heap.mapIdx (pL Sh)}
section
variable{V Sh:Nat->Prop}{base:Nat}
def EO(j:Nat):(lu Sh w).heap[j]?=(w.heap[j]?).map (pL Sh j):=by simp[lu,Array.getElem?_mapIdx]
def F_:ko (lu Sh w):=λi o h=>by
 rw[EO]at h;obtain⟨x,_,rfl⟩:=ġ.1 h;cases x<;>simp only[pL]<;>try exact id
 split
 .split<;>exact id
 .exact id
structure L5(V Sh:Nat->Prop)(base:Nat)(w:ß):Prop where
 S3:∀b,V b->∃c e fr,w.heap[b]?=Â (É c e fr)/\fr.2<=c.size/\fW (qp V base) c c/\(Sh b->0<c.size/\(lG b=Ò->(e=304\/e=305)/\fr.2<=16)/\(lG b=Ì->Di c))
 fA:base<=w.heap.size
def aly(h:L5 V Sh base w):rN (qp V base) Sh (lu Sh w) w:=by
 refine⟨U,U,alv V base,by show base<=(w.heap.mapIdx<|pL Sh).size;rw[Array.size_mapIdx];exact h.fA,h.fA,λi j o=> ?_⟩;obtain⟨rfl,p⟩:=o;let⟨c,e,a,b,l,f,r⟩:=h.S3 i p;have g:(lu Sh w).heap[i]?=Â (pL Sh i<|É c e a):=by rw[EO,b];rfl
 by_cases s:Sh i
 .let⟨t,u,v⟩:=r s;cases d:lG i with
  |true=>
   let⟨x,y⟩:=u d;have z:=alx c;have m:F1 e (uT c).size:=⟨x,Z⟩;refine⟨uT c,c,e,(0,(uT c).size),a,?_,b,⟨λk B n=> ?_,Z,Ç ⟨s,m⟩⟩,λ_=>⟨U,Ú _,by show a.2<=(uT c).size;omega,Z,Ç m⟩,λq=>absurd s q,Ú _⟩
   .show(lu Sh w).heap[i]?=_;rw[g];simp[pL,s,d]
   .have:(uT c)[k]=c[k]:=by simp[uT]
    rw[this];exact f.C k n n
  |false=>
   refine⟨c,c,e,(0,c.size),a,?_,b,po.M f,λ_=>⟨U,Ú _,l,t,Ã<|v d⟩,λq=>absurd s q,Ú _⟩;rw[g];simp[pL,s,d]
 .refine⟨c,c,e,a,a,?_,b,po.M f,λq=>absurd q s,λ_=>rfl,l⟩;rw[g];simp[pL,s]
end
section
variable{a:Nat->Prop}{l:ff}{V:Nat->Prop}
theorem EP(y:nW P)(B:pA P a X)(hF:tW P X)(C:xf vQ){k:Array Ï}(D:X F)(E:P.funcs[F]?=Â s)(H:s.body=Â wX)(r:gC l)(I:¬l.q) (n:∀b,V b->l.M b) (J:L5 V (λj=>V j/\¬l.O j) P.globals.size l.w) (K:∀g,a g->V g) (L:fW (qp V P.globals.size) k k) (N:∀T,Calls P F k (World.tp (lu (λj=>V j/\¬l.O j) l.w) T 0) fun|.returned v,e=>vQ v e/\ko e|_,_=>False) (t:Bool) (o:é) (p:List é): fl P t (λh u=>∃(Y:fv) (e:ß) (v m:Ï),(qp V P.globals.size).r Y/\rN Y (λj=>V j/\¬l.O j) e h.w/\fp Y v m/\vQ v e/\u=G (o.finish m) p/\(∀i j,Y i j->h.M j/\(V j\/l.O j\/l.w.heap.size<=j))/\(∀j,l.O j->h.O j)/\h.d=l.d) l (G (Ă P F k Ğ)<|o::p):=by
 refine(agW (afT y B hF C D E H F_ N (Y:=qp V P.globals.size) U (λg q=>⟨U,K g q⟩) L (aly J) (λj q=>r.fA j<|n j q.1) (λi j _ q=>(n j q.1).resolve_left q.2) t o p) l U (λj q=> ?_) (λ_ q=>q) (λj q=>r.fA j<|Ã q) I).fT ?_
 .obtain⟨⟨i,rfl,x⟩,Q⟩:=q;grind
 .rintro h u ⟨O',⟨Y,e,v,m,S,rfl,W,q3,q4,q5⟩,Q,h3,h4,h5,h6,h7,h8,h9,zO,ER,h12⟩;refine⟨Y,e,v,m,S,W,q3,q4,q5,λi j S8=> ?_,h4,zO⟩;by_cases z:V j/\¬l.O j
  .exact⟨Ç (by rw[h7];exact(n j z.1).resolve_left z.2),Ã z.1⟩
  .have x:=h3 j ⟨⟨i,S8⟩,z⟩;exact⟨Ã x,Ç<|h6 j x⟩
end
section
variable{l:ff}{V GL:Nat->Prop}
def ES(s:gC l):gC (mo l):=by refine⟨λ_ h=>h.elim,λ_ h=>h.elim,λa c d=>s.N a (c.resolve_left id)<|d.resolve_left id,λb d=>s.fA b<|d.resolve_left id,λa c=>s.I a<|c.resolve_left id,λa c=>⟨λq=>(s.S a c).1<|q.resolve_left id,(s.S a c).2.1,id⟩⟩
structure EU(GL:Nat->Prop)(f:ķ)(args:Array Ï)(l:ff)(V:Nat->Prop)(kn:Ï->ß->Prop):Prop where
 N:∀b,V b->l.M b
 S:L5 V V Ä.globals.size l.w
 I:∀g,GL g->V g
 r:fW (qp V Ä.globals.size) args args
 C:∀T,Calls Ä f args (World.tp (lu V l.w) T 0) fun|.returned v,u'=>kn v u'/\ko u'|_,_=>False
def alz(m:nW Ä)(n:pA Ä GL X)(hF:tW Ä X)(e:X 67){D:SD}(h:∀i s d W l,i<D.q->nG (D.r Ä) (D.b i) s->D.RD s d W l.w->(∀b,W b->l.M b)->gC l->¬l.q->(∀b,D.d b->l.M b)->D.RC l.w->∃V,EU GL 67 #[d,À<|D.i i] l V λv _=>v=à (D.j i)):EL D:=by
 intro i s d W l o p r t f g x y z B;let⟨V,a⟩:=h i s d W l o p r t f g x y;let⟨G,c,C,E⟩:=hF 67 e;have k:(λj=>V j/\¬(mo l).O j)=V:=by funext j;exact propext ⟨λq=>q.1,λq=>⟨q,id⟩⟩
 refine(EP m n hF (λv u T D h=>h) e C E (ES f) g (λb q=>Ç<|a.N b q) (by rw[k];exact a.S) a.I a.r (by rw[k];exact a.C) Ì z B).fT ?_;rintro H I ⟨Y,J,v,K,_,_,j,u,T,_,_,F⟩;subst u;cases j;exact⟨F,T⟩
theorem alA(P:nW Ä)(Q:pA Ä GL X)(hF:tW Ä X)(B:X 66){D:SD}(Rg:D.γ->Ï->ß->Prop)(hRg:∀s a u T n,Rg s a u->Rg s a (World.tp u T n)) (h:∀k s a W l,k<D.m->nG (D.r Ä) k s->D.RD s a W l.w->(∀b,W b->l.M b)->gC l->¬l.q->(∀b,D.d b->l.M b)->D.RC l.w->∃V,EU GL 66 #[a,À<|D.o<|k+1] l V (λv u=>∃p n c d,v=ñ #[Æ p n c,à<|D.e<|k+1]/\D.h k s d/\Rg d (Æ p n c) u)/\ ∀Y S u w d a C,rN Y S u w->fp Y a C->Rg d a u->(∀i j,Y i j->V j\/l.w.heap.size<=j)->∃e,D.RD d C e w/\∀b,e b->∃i,Y i b):EK D:=by
 intro k s a W l hk hr ri hW E F hRB hRC cl lX;let⟨V,f,tr⟩:=h k s a W l hk hr ri hW E F hRB hRC;let⟨fn,c,hf,g⟩:=hF 66 B;have G:(λj=>V j/\¬(mo l).O j)=V:=by funext j;exact propext ⟨λq=>q.1,λq=>⟨q,id⟩⟩
 refine(EP P Q hF (λv u T D h=> ?_) B hf g (ES E) F (λb q=>Ç<|f.N b q) (by rw[G];exact f.S) f.I f.r (by rw[G];exact f.C) Ì cl lX).fT ?_
 .grind
 .rintro l' g' ⟨Y,u',v,v',_,q2,q3,⟨p,n,c,d,rfl,H,h3⟩,I,o,_,J⟩;cases q3 with
  |@nU _ cs'' hs mK=>
   let⟨ls⟩:=cs'';match ls,hs with
   |[x,y],_=>
    have r:=mK 0 fq fq;have K:=mK 1 fq fq;simp at r K;cases K;let⟨e,L,N⟩:=tr Y _ u' l'.w d _ x q2 r h3 λi j S8=>(o i j S8).2.imp id λz=>z.resolve_left id;cases r with
    |oz=>exact⟨J,Á,n,c,I,d,e,H,L,λb g=>by let⟨i,t⟩:=N b g;exact(o i b t).1⟩
    |kO=>exact⟨J,_,n,c,I,d,e,H,L,λb g=>by let⟨i,t⟩:=N b g;exact(o i b t).1⟩
end
end Go.Proofs.Y.fx
namespace Go.Proofs.Y.Lift
open Go
def EV(a:Nat->Bool):Ĥ->Bool
 |Ũ (Đ cs)=>cs.toList.all yL
 |Ũ (ñ cs)=>cs.toList.all yL
 |x=>xg a x
def F'(a:Nat->Bool)(x:Ĥ):EV a x=xg a x:=by
 cases x with
 |const v=>cases v<;>simp[EV,xg,OB,ĝ]
 |_=>rfl
def L8(P:ė)(a:Nat->Bool)(b c:ķ->Bool)(o:å):Bool:=(Dw P b o.op&&o.op.operands.toList.all (EV a))||(OU P c o.op&&o.op.operands.toList.all (EV a))
def L9(a:Nat->Bool)(b c:ķ->Bool)(o:å):L8 P a b c o=Dy P a b c o:=by have:(EV a)=xg a:=funext<|F' a;simp[L8,Dy,OM,this,ĝ]
def rn(P:ė)(a:Nat->Bool)(b d:ķ->Bool):Ę->Bool
 |Ρ|ť|.label _|Ŧ _|.goto _=>Ò
 |.seq x y=>rn P a b d x&&rn P a b d y
 |Ť c x y=>EV a c&&rn P a b d x&&rn P a b d y
 |İ _ c|.loop c|.scope c=>rn P a b d c
 |ä _ c _=>c.toList.all<|L8 P a b d
 |.refuse _=>Ò
 |_=>Ì
def zP(a:Nat->Bool)(b d:ķ->Bool):∀c:Ę,rn P a b d c=n5 P a b d c
 |Ρ|ť|.label _|Ŧ _|.goto _|.refuse _|.rangeFunc _ _ _ _=>rfl
 |.seq x y=>by simp only[rn,n5,zP a b d x,zP a b d y]
 |Ť c x y=>by simp only[rn,n5,F',zP a b d x,zP a b d y]
 |İ _ c|.loop c|.scope c=>by simp only[rn,n5,zP a b d c]
 |ä _ x _=>by have:L8 P a b d=Dy P a b d:=funext<|L9 a b d;simp only[rn,n5,this,ĝ]
end Go.Proofs.Y.Lift
namespace Go.Proofs.Y.fx
open Go Go.Conc Go.Proofs.Y.Lift Go.RowKit Go.Conc.Lib Go.ConcR.Gen
open Go.Proofs Go.Proofs.YtgpphkdoanciiaaGreatDoor
def G_:List Nat:=[35,38,44,54,55,56,60,66,67,78,79,103,113,114,115,116,117,118,119,120,121,122,123,124,125,126,153,154,155,156,157,158,159,160,161,162,168,169,170,171,172,173,174,175,176,177,178,186,187,188,189,190,191,192,193,194,196,197,198,199,200,201,202,203,204,205,206,207,208,209,210,211]
def xU(g:Nat):Bool:=[1,2,3,4].contains g
def xV(f:Nat):Bool:=G_.contains f
def zR(f:Nat):Bool:=[129,130].contains f
def Ci(P:ė)(f:Nat):Bool:=match P.funcs[f]? with
 |some a=>match a.body with
  |some c=>rn P xU xV zR c
  |none=>Ì
 |none=>Ì
def alB:G_.all (Ci Ä)=Ò:=by rfl
def H_(h:xV i=Ò):Ci Ä i=Ò:=(Ň.1 alB) i<|by simpa[xV]using h
def alC(h:Ci P i=Ò):∃a c,P.funcs[i]?=Â a/\a.body=Â c:=by
 unfold Ci at h;split at h
 .rename_i a b;split at h
  .rename_i c d;exact⟨a,c,b,d⟩
  .cases h
 .cases h
def alD(h:Ci P i=Ò)(a:P.funcs[i]?=Â s)(b:s.body=Â wX):rn P xU xV zR wX=Ò:=by unfold Ci at h;rw[a]at h;simp only[b]at h;exact h
def I_:tW Ä (λf=>xV f=Ò):=λ_ h=>alC<|H_ h
def alE[AG P](h:∀f,xV f=Ò->Ci P f=Ò)(a:Gu P zR):pA P (λg=>xU g=Ò) (λf=>xV f=Ò):=λf g e c b d=>by have:=alD (h f g) b d;rw[zP]at this;exact vz a this
instance avq:AG Ä:=⟨λe n h=>by
 have h1:Ä.cellsOf 304=32:=fw
 have h2:Ä.cellsOf 305=64:=fw
 obtain⟨rfl|rfl,h3⟩:=h
 .rw[h1];omega
 .rw[h2];omega⟩
def alF(a:Gu Ä zR):pA Ä (λg=>xU g=Ò) (λf=>xV f=Ò):=alE (λ_ h=>H_ h) a
def EW:Gu Ä zR:=λf h=>by
 have:f=129\/f=130:=by simpa[zR]using h
 rcases this with rfl|rfl
 .exact⟨_,Extern.AbiNoEscape.same,Tryz.func129,fS,fS,fS,fS,λ_ v a h=>agk v a h,agl⟩
 .exact⟨_,Extern.BytealgMakeNoZero.makeNoZero #[3] #[107],Tryz.func130,fS,fS,fS,fS,λ_ v a h=>agm #[3] 107 v a h,agn #[3] 107⟩
def I':pA Ä (λg=>xU g=Ò) (λf=>xV f=Ò):=alF EW
end Go.Proofs.Y.fx
namespace Go.Proofs.Y.Lift
open Go Go.Conc
section
variable{Y:fv}{b:ķ->Prop}
def alG{e:Array Ï->Sem Ï}{y:Ĥ}{m:Array ŭ}(d:o.op=Ě {callee:=ĕ<|ĸ F,args:=#[qQ,y],argTypes:=m})(q:P.funcs[F]?=Â s)(r:(s.name== "runtime.NumGoroutine")=Ì)(t:s.body.isNone=Ò)(B:Extern.findNext s=Á)(C:Extern.find s=Â e) (D:∀(Y:fv) (v i z j:Ï),fp Y v i->fp Y z j->fJ P fp Y (e #[v,z]) (e #[i,j])) (E:∀v z,fG P<|e #[v,z]) (G:∀y∈o.op.operands,mH X y):mU P X b o:=by
 have c:∀a:ŏ,ĉ a.eval o=Ś F #[a.eval qQ,a.eval y]:=by intro a;unfold ĉ;rw[d];simp only[ſ,ĥ,ě,invoke,pure_bind,Array.empty_append,Array.append_empty,List.map_toArray,List.map_cons,List.map_nil]
 have k:∀(v z:Ï) (u:ß),(Ś F #[v,z]).run P u=(mark (.extern F)>>=λ_=>e #[v,z]>>=λy=>pure (Next.value y):Sem Next).run P u:=by intro v z u;unfold Ś;simp_all
 refine Xw (λY a w _ _ _ h=> ?_) (λa=> ?_) (λa u n H g=> ?_) G
 .rw[c,c];have I:=h qQ (by rw[d];simp[ŉ,Call.operands]);have J:=h y (by rw[d];simp[ŉ,Call.operands]);unfold Ś;refine .gy (fH rE ?_);rintro M p N w ⟨K,L⟩;rw[K,L];simp only[q,r,t,B,C,Ķ,if_false,if_true];apply fH (V:=jy) (.Dh (Ç ⟨F,U⟩) (.fF U));intro O _ _ l _;exact mS<|D _ _ _ _ _ ((I.fT w).fT l)<|(J.fT w).fT l
 .rw[c];exact JP (k _ _)<|gw (Gk _) λ_=>lZ<|E _ _
 .rw[c,k,Sem.run_bind]at g;simp only[mark,Sem.run,Result.andThen_ok]at g;have:Sem.run P (e #[a.eval qQ,a.eval y]>>=λy=>pure (Next.value y):Sem Next) u=.ok n H:=g;rw[Sem.run_bind]at this;cases h:(e #[a.eval qQ,a.eval y]).run P u with
  |ok v w=>rw[h]at this;cases this;exact⟨v,U⟩
  |halt z w=>rw[h]at this;cases this
def J_:∀(n:Nat) {Y:fv} {a b:â} (c:ByteArray),ie Y a b->fJ P jy Y (ò a n c) (ò b n c)
 |0,_,_,_,_,_=> .fF U
 |n+1,Y,a,b,c,h=>by
  unfold ò;refine fH (JC h) ?_;intro f v g d e;cases e<;>first|exact .fU|skip
  rename_i k z;cases k<;>first|exact .fU|skip
  exact J_ n _<|(h.r d).C 1
theorem J':∀(n:Nat) (a:â) (b:ByteArray),fG P<|ò a n b
 |0,_,_=>gI _
 |n+1,a,b=>by
  unfold ò;refine gw (Gl _ _) λv=> ?_;split
  .exact J' n _ _
  .exact jh _
def alH(h:fp Y v x):fJ P jy Y (ú v) (ú x):=by
 cases h<;>first|exact .fU|exact .fF U|skip
 exact J_ _ _<|by assumption
theorem alI(v:Ï):fG P (ú v):=by unfold ú;grind [gI,J',jh]
def alJ(h:fp Y v x):fJ P jy Y (ü v) (ü x):=by
 cases h<;>first|exact .fU|skip
 rename_i k z;cases k<;>first|exact .fU|exact .fF U
theorem alK(v:Ï):fG P (ü v):=by unfold ü;grind [gI,jh]
def alL(v a z b:Ï)(h:fp Y v a)(k:fp Y z b):fJ P fp Y (ó #[v,z]) (ó #[a,b]):=by
 apply fH (alH h);rintro j s d e f;obtain rfl:s=d:=f;apply fH (alJ<|k.fT e);rintro l c g m i;obtain rfl:c=g:=i;split
 .exact .fF (.iG _ _)
 .exact .fF (.iG _ _)
theorem alM(v z:Ï):fG P (ó #[v,z]):=by refine gw (alI v) λs=>gw (alK z) λc=> ?_;grind [gI]
end
end Go.Proofs.Y.Lift
namespace Go.Proofs.Y.fx
open Go Go.Conc Go.Proofs.Y.Lift
open Go.Proofs Go.Proofs.YtgpphkdoanciiaaGreatDoor
def S9:List Nat:=[16,18,21,23,24,25,28,29,30,31,35,44,60,38,54,55,56,78,79,36,45,61,94,95,96,97,98,99,100,101,102,103,104,145,146,147,148,149]
def EX(f:Nat):Bool:=S9.contains f||f==167
def Ma(_:Nat):Bool:=Ì
def Mb(P:ė)(f:Nat):Bool:=match P.funcs[f]? with
 |some a=>match a.body with
  |some c=>rn P Ma EX zR c
  |none=>Ì
 |none=>Ì
def alN:S9.all (Mb Ä)=Ò:=by rfl
def K_(h:S9.contains i=Ò):Mb Ä i=Ò:=(Ň.1 alN) i<|by simpa using h
theorem L_(h:Mb P i=Ò):∃a c,P.funcs[i]?=Â a/\a.body=Â c/\rn P Ma EX zR c=Ò:=by unfold Mb at h;grind
def zS:tW Ä (λf=>EX f=Ò):=λf h=>by
 rcases ī.1 h with q|q
 .let⟨a,c,b,d,_⟩:=L_<|K_ q;exact⟨a,c,b,d⟩
 .rw[beq_iff_eq]at q;subst q;exact⟨_,_,Ŭ,U⟩
def alO(h:Ζ.body=Â wX):kQ Ä (λg=>Ma g=Ò) (λf=>EX f=Ò) wX:=by
 unfold Ζ at h;cases h;refine .rK (vz EW<|by rw[<-zP];rfl) (.rK (.tV _ _ λo f=> ?_) .vu);simp only[List.mem_toArray,List.mem_cons,List.not_mem_nil,or_false]at f;rcases f with rfl|rfl|rfl|rfl
 .exact Ki EW<|by rw[<-L9];rfl
 .exact Ki EW<|by rw[<-L9];rfl
 .exact alG U Tryz.func185 fS fS fS fS (λ_ v g z o=>alL v g z o) alM λy g=>Ka (by simp[ŉ,Call.operands]at g;rcases g with rfl|rfl|rfl<;>rfl)
 .exact Ki EW<|by rw[<-L9];rfl
def Mc:pA Ä (λg=>Ma g=Ò) (λf=>EX f=Ò):=λf h i c g a=>by
 rcases ī.1 h with q|q
 .let⟨j,k,b,d,e⟩:=L_<|K_ q;rw[g]at b;cases b;rw[a]at d;cases d;rw[zP]at e;exact vz EW e
 .rw[beq_iff_eq]at q;subst q;rw[Ŭ]at g;cases g;exact alO a
end Go.Proofs.Y.fx
