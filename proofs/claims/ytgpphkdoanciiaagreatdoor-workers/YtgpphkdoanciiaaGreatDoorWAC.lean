import Derived.Test.YtgpphkdoanciiaaGreatDoorWAB
import Derived.Conc.AppendWalk
import Derived.Conc.TokenWalk
set_option linter.all false
set_option maxRecDepth 1000000
set_option maxHeartbeats 8000000
open Go.Value renaming pointer->À,slice->Æ,int->Ê,oneCell'->Ø,string->à,chan->è,tuple->ñ,func->Ĉ,agg->Đ,bool->ŝ,cells->Ŵ
open Option renaming none->Á,some->Â,isSome_iff_exists->Ô,map_eq_some_iff->ġ,isSome_none->ı,getD_some->Ń
open Or renaming inl->Ã,inr->Ç
open Go.Proofs.Tryz renaming prog->Ä,t155->Ą,f46->Ĝ,t9->Ġ,func47->Ħ,underlying101->Ĵ,type155->ļ,underlying85->Ľ,underlying25->ľ,f52->Ŗ,func167->Ŭ,func63->Ů,func48->ů,func49->Ű,func50->ű,func51->Ų,func46->ų,func52->ŵ,t101->Δ,f167->Ζ,f49->Ι,f63->Κ,f47->Μ
open Go renaming undef->Å,Value->Ï,Goroutine->Ý,World->ß,events_store->á,Addr->â,Oper->å,getD_set_ne->ç,Frame->é,execOp->ĉ,Program->ė,Code->Ę,Operand->Ĥ,deafBehind->į,FuncId->ķ,Act->ŏ,maxLen->œ,size_madeCells->ř,callFunc->Ś,yielded->ţ,TypeId->ŭ,runNT->Ŷ,Item->ŷ,Obj->Ÿ,Trace->ż,TypeInfo->Ž,Event->ž,resolve->ſ,Loc->Ν
open Nat renaming lt_of_lt_of_le->È,le_trans->Õ,le_refl->Ú,add_sub_cancel->ø,zero_le->ă,zero_add->č,mod_lt->ĵ,lt_succ_of_lt->Ĺ,le_of_lt->Ł,reduceAdd->ś,sub_zero->ũ,sub_self->Ū
open Go.Obj renaming cells->É,chan->ŕ
open Go.Conc.Goes renaming stop->Ë
open Bool renaming false->Ì,true->Ò,or_eq_true_iff->ī,false_eq_true->Ķ
open Go.Ground renaming phase->Í,data->Ü,textOnly->Þ,gcOnly->õ,chain->Ţ
open Go.IntKind renaming i64->Î,u64->ê,u32->Ď,wrap_i64->Γ
open Go.Departure renaming lateStores->Ð
open Go.Item renaming inRegion->Ñ,inBlock->ô,code->ö,inLoop->ą
open Option.some renaming inj->Ó
open Go.World renaming cell?->Ö,frozen?->î,setCell->þ,alloc->ň
open Go.Operand renaming tmp->Ù,func->ĸ,const->Ũ
open Go.Region renaming ready->Û,Mode->ý,wanted->Ė
open List renaming range->ã,range_succ->ÿ,mem_filter->Ā,filter_append->ā,flatMap_cons->Ć,mem_range->Ē,setIfInBounds_toArray->ē,getElem?_eq_some_iff->Ĕ,length_filter_le->ģ,mem_of_getElem?->ħ,getElem?_of_mem->Ĩ,set_cons_succ->Ĳ,set_cons_zero->ĳ,size_toArray->Ļ,length_cons->ń,nodup_range->ņ,all_eq_true->Ň,length_nil->ŋ
open Go.Code renaming region->ä,block->İ,cond->Ť,skip->ť,exit->Ŧ,ret->Ρ
open Array renaming getElem?_eq_some_iff->æ,getElem?_eq_getElem->ì,getElem?_modify->í,getD_eq_getD_getElem?->ď,all_toList->ĝ
open Go.Region.linearise renaming go->ë
open Go.MemAct renaming ofEvent->ï
open Go.Op renaming fieldAddr->ð,load->ć,move->ę,call->Ě,nilCheck->ĩ,operands->ŉ,extract->Ő,indexAddr->ő,makeFunc->Ş,store->š,assign->ŧ,binOp->Λ
open Go.Extern.Bytes renaming loadBytes->ò,bytesOf->ú,asByte->ü
open Go.Extern.BytealgIndexByte renaming indexByte->ó
open Go.Fn renaming func->ù
open Go.Loc renaming cell->û
open Go.Frame renaming enter->Ă,finish_at->Ģ
open Go.Instr renaming build->Ċ,makeSlice->Ŏ
open Go.GoStatus renaming running->ċ,finished->ş
open Go.Conc renaming mem_ofEvents->Č,mem_listed->đ,seen_none->Ī,crowd->Ĭ,stepG_region->ĺ,events_call_body->ł,deafBehind_still->Ņ,listed->ŗ,handedOver_app->Ř,stepG_seq->Ŝ,stepG_comm->Ż
open Go.Callee renaming value->ĕ,builtin->Ŕ
open Go.Deferred renaming ofValue->ě
open Go.CallKind renaming normal->Ğ,early->Ź
open Go.Addr renaming add_lit->ğ
open Go.Act renaming eval->ĥ,put->Ο
open Eq renaming trans->Ŀ
variable{i n j b k m J j9 j7 j6:Nat}{w u W jX:ß}{v x z jQ:Ï}{g:Ý}{a p:â}{h c:Int}{e t T:ŭ}{d q:Array Ï}{P:ė}{y:ŏ}{B:ByteArray}{X:Nat->Prop}{O:Option â}{l:List Ï}{yQ:Bool}{K H:ŏ->ß->Prop}{o:å}{D:Nat->Nat}{E:Array Ý}{L:List ŷ}{jJ:List Nat}{qX:List é}{qQ:Ĥ}{qJ:ż}{zX:Ν->Prop}{zQ:List Int}{zJ:Ž}{xX:Ĥ->Ï}{xQ:Go.Tape}{xJ:Nat×Nat}{wX:Ę}{wQ:Go.MemOp}{wJ:Array Bool}{vX:List ByteArray}{vQ:Ï->ß->Prop}{vJ:Go.Exit->ŏ->ß->Prop}{yX:ý}{Q:Array å}{f:é}{V:Array ž}{F:ķ}{s:Go.Func}
namespace Go.Proofs.Y.fv
open Go Go.Conc Go.Proofs.Y.Lift Go.RowKit Go.Conc.Lib Go.ConcR.Gen
open Go.Proofs Go.Proofs.YtgpphkdoanciiaaGreatDoor
def FR:å:=⟨Â 13,ð 155 (Ù 5) 3,0, "work.go:57",#[],Á⟩
def CS:å:=⟨Â 14,ć 86<|Ù 13,86, "work.go:57",#[⟨0,Ü⟩],Á⟩
def FT:å:=⟨Â 15,ę<|Ù 1,25, "work.go:57",#[{on:=18,ground:=õ Ð}],Á⟩
def FU:å:=⟨Â 16,ð 155 (Ù 5) 1,0, "work.go:57",#[{on:=18,ground:=õ Ð}],Á⟩
def CU:å:=⟨Â 17,ć 3<|Ù 16,3, "work.go:57",#[⟨3,Ü⟩,{on:=18,ground:=õ Ð}],Á⟩
def FV:å:=⟨Â 18,ð 155 (Ù 5) 2,0, "work.go:57",#[],Á⟩
def CV:å:=⟨Â 19,ć 86<|Ù 18,86, "work.go:57",#[⟨5,Ü⟩],Á⟩
def CW:å:=⟨Â 20,ĩ<|Ù 19,0, "work.go:57",#[⟨6,Ü⟩],Á⟩
def CX:å:=⟨Â 21,ð 105 (Ù 20) 1,0, "work.go:57",#[⟨7,Ü⟩],Á⟩
def CY:å:=⟨Â 22,ć 65<|Ù 21,65, "work.go:57",#[⟨8,Ü⟩],Á⟩
def FW:å:=⟨Â 23,ð 155 (Ù 5) 0,0, "work.go:57",#[],Á⟩
def CZ:å:=⟨Â 24,ć 148<|Ù 23,148, "work.go:57",#[⟨10,Ü⟩],Á⟩
def Az:å:=⟨Â 25,Ě {callee:=ĕ<|ĸ 66,args:=#[Ù 22,Ù 24],argTypes:=#[65,148]},163, "work.go:57",#[⟨9,Ü⟩,⟨11,Ü⟩],Á⟩
def uS:å:=⟨Â 12,ę<|Ù 25,163, "work.go:57",#[⟨12,Ü⟩],Á⟩
def AA:å:=⟨Â 26,Ő (Ù 12) 0,65, "work.go:57",#[⟨13,Ü⟩],Á⟩
def AB:å:=⟨Â 27,Ő (Ù 12) 1,9, "work.go:57",#[⟨13,Ü⟩,{on:=18,ground:=õ Ð}],Á⟩
def C0:å:=⟨Â 28,ĩ<|Ù 14,0, "work.go:57",#[⟨1,Ü⟩,⟨0,Í⟩,⟨1,Í⟩,{on:=2,ground:=Þ Ð},{on:=3,ground:=Þ Ð},{on:=4,ground:=Þ Ð},⟨5,Í⟩,⟨6,Í⟩,⟨7,Í⟩,⟨8,Í⟩,⟨9,Í⟩,⟨10,Í⟩,⟨11,Í⟩,⟨12,Í⟩,⟨13,Í⟩,⟨14,Í⟩,{on:=15,ground:=Þ Ð}],Á⟩
def C3:å:=⟨Â 29,ð 105 (Ù 28) 1,0, "work.go:57",#[⟨16,Ü⟩,⟨0,Í⟩,⟨1,Í⟩,{on:=2,ground:=Þ Ð},{on:=3,ground:=Þ Ð},{on:=4,ground:=Þ Ð},⟨5,Í⟩,⟨6,Í⟩,⟨7,Í⟩,⟨8,Í⟩,⟨9,Í⟩,⟨10,Í⟩,⟨11,Í⟩,⟨12,Í⟩,⟨13,Í⟩,⟨14,Í⟩,{on:=15,ground:=Þ Ð}],Á⟩
def AF:å:=⟨Á,š 65 (Ù 29)<|Ù 26,0, "work.go:57",#[⟨17,Ü⟩,⟨14,Ü⟩,⟨12,Ţ⟩,⟨0,Í⟩,⟨1,Í⟩,{on:=2,ground:=Þ Ð},{on:=3,ground:=Þ Ð},{on:=4,ground:=Þ Ð},⟨5,Í⟩,⟨6,Í⟩,⟨7,Í⟩,⟨8,Í⟩,⟨9,Í⟩,⟨10,Í⟩,⟨11,Í⟩,⟨12,Í⟩,⟨13,Í⟩,⟨14,Í⟩,{on:=15,ground:=Þ Ð}],Á⟩
def AG:å:=⟨Â 30,ő 25 (Ù 15)<|Ù 17,0, "work.go:57",#[⟨2,Ü⟩,⟨4,Ü⟩,⟨0,Í⟩,⟨1,Í⟩,⟨2,Í⟩,⟨3,Í⟩,⟨4,Í⟩,⟨5,Í⟩,⟨6,Í⟩,⟨7,Í⟩,⟨8,Í⟩,⟨9,Í⟩,⟨10,Í⟩,⟨11,Í⟩,⟨12,Í⟩,⟨13,Í⟩,⟨14,Í⟩,⟨15,Í⟩,⟨16,Í⟩,⟨17,Í⟩,⟨18,Í⟩],Á⟩
def AH:å:=⟨Á,š 9 (Ù 30)<|Ù 27,0, "work.go:57",#[⟨19,Ü⟩,⟨15,Ü⟩,⟨18,Ţ⟩,⟨0,Í⟩,⟨1,Í⟩,⟨2,Í⟩,⟨3,Í⟩,⟨4,Í⟩,⟨5,Í⟩,⟨6,Í⟩,⟨7,Í⟩,⟨8,Í⟩,⟨9,Í⟩,⟨10,Í⟩,⟨11,Í⟩,⟨12,Í⟩,⟨13,Í⟩,⟨14,Í⟩,⟨15,Í⟩,⟨16,Í⟩,⟨17,Í⟩,⟨18,Í⟩],Á⟩
def yp:Array å:=#[FR,CS,FT,FU,CU,FV,CV,CW,CX,CY,FW,CZ,Az,uS,AA,AB,C0,C3,AF,AG,AH]
def mB(tb a b c N d:Nat)(e f:Ï)(x:(Option Addr×Nat×Nat)×ByteArray):Nat->Ï
 |0=>À<|Â ⟨tb,3,Á⟩
 |1=>À<|Â ⟨b,0,Á⟩
 |2=>Æ (Â ⟨c,0,Á⟩) N N
 |3=>À<|Â ⟨tb,1,Á⟩
 |4=>Ê Î d
 |5=>À<|Â ⟨tb,2,Á⟩
 |6=>À<|Â ⟨a,0,Á⟩
 |7=>À<|Â ⟨a,0,Á⟩
 |8=>À<|Â ⟨a,2,Á⟩
 |9=>f
 |10=>À<|Â ⟨tb,0,Á⟩
 |11=>e
 |12=>ñ #[Æ x.1.1 x.1.2.1 x.1.2.2,à x.2]
 |13=>ñ #[Æ x.1.1 x.1.2.1 x.1.2.2,à x.2]
 |14=>Æ x.1.1 x.1.2.1 x.1.2.2
 |15=>à x.2
 |16=>À<|Â ⟨b,0,Á⟩
 |17=>À<|Â ⟨b,2,Á⟩
 |19=>À<|Â ⟨c,d,Á⟩
 |_=>Å
structure C4(ia:e5)(ga gb an pl:Nat)(sr:Ï)(Q:Ï->ByteArray->e5->Prop)(listed:Array Bool)(x:(Option Addr×Nat×Nat)×ByteArray)(l:e5):Prop where
 r:iq (λa=>a=⟨gb,2,Á⟩\/a=⟨an,pl,Á⟩) ia l
 uT:listed.getD 12 Ì=Ò->∃y,Q (Æ x.1.1 x.1.2.1 x.1.2.2) x.2 y/\(∀b,y.M b->l.M b/\l.w.heap[b]?=y.w.heap[b]?)
 I:listed.getD 18 Ì=Ò->l.w.cell? ⟨gb,2,Á⟩=Â (Æ x.1.1 x.1.2.1 x.1.2.2)
 N:listed.getD 20 Ì=Ò->l.w.cell? ⟨an,pl,Á⟩=Â (à x.2)
def C4.C{d l:e5}{Q:Ï->ByteArray->e5->Prop}{listed:Array Bool}{x:(Option Addr×Nat×Nat)×ByteArray}(h:C4 d n j b k v Q listed x l)(o:i≠12)(p:i≠18)(s:i≠20)(e:d.r ⟨j,2,Á⟩/\d.r ⟨b,k,Á⟩)(m:ß)(r:fD l l.w m):C4 d n j b k v Q (listed.setIfInBounds i Ò) x {l with w:=m}:=by
 have t:∀a,(a=⟨j,2,Á⟩\/a=⟨b,k,Á⟩)->d.r a:=λa u=>by rcases u with rfl|rfl;exact e.1;exact e.2
 refine⟨h.r.N t r,λq=> ?_,λq=> ?_,λq=> ?_⟩
 .rw[ç Ì o]at q;let⟨y,z,f⟩:=h.uT q;exact⟨y,z,λc g=>⟨(f c g).1,(r.I c (f c g).1).trans (f c g).2⟩⟩
 .rw[ç Ì p]at q;exact(r.N _<|by rw[h.r.C];exact Ã e.1).trans<|h.I q
 .rw[ç Ì s]at q;exact(r.N _<|by rw[h.r.C];exact Ã e.2).trans<|h.N q
section
variable{J:Jd}{ia:e5}{ga gb an pl:Nat}{sr:Ï}{Q:Ï->ByteArray->e5->Prop}
def ag1(S:gl ia)(hq:¬ia.q)(ht:d.size=37)(AJ:d[1]?=Â (Æ (Â ⟨an,0,Á⟩) i i))(PV:d[5]?=Â (À<|Â ⟨n,0,Á⟩))(hO:ia.O n) (X:ia.w.cell? ⟨n,0,Á⟩=Â v) (Y:ia.w.cell? ⟨n,1,Á⟩=Â (Ê Î pl)) (c2:ia.w.cell? ⟨n,2,Á⟩=Â (À<|Â ⟨ga,0,Á⟩)) (c3:ia.w.cell? ⟨n,3,Á⟩=Â (À<|Â ⟨gb,0,Á⟩)) (tD:ia.N ⟨ga,2,Á⟩) (o7:ia.w.cell? ⟨ga,2,Á⟩=Â sr) (F:ia.r ⟨gb,2,Á⟩) (H:ia.r ⟨an,pl,Á⟩) (e1:(ia.w.cell? ⟨gb,2,Á⟩).isSome=Ò) (e2:(ia.w.cell? ⟨an,pl,Á⟩).isSome=Ò) (z1:ia.w.frozen? ⟨gb,2,Á⟩=Ì) (z2:ia.w.frozen? ⟨an,pl,Á⟩=Ì) (s6:pl<i) (hN:i<1000000) (kT:(⟨gb,2,Á⟩:â)≠⟨an,pl,Á⟩) (tq:∀l,iq (λa=>a=⟨gb,2,Á⟩\/a=⟨an,pl,Á⟩) ia l->∀I lk,fe Ä Ì (λl' g'=>l'.d=l.d/\∃p g c str,g'=G (I.finish<|ñ #[Æ p g c,à str]) lk/\Q (Æ p g c) str l') (lG l)<|G (Ă Ä 66 #[sr,v] Ğ)<|I::lk) (md:ý) (listed:Array Bool) (a:ŏ) (l:e5) (k:Nat) (rest:List Nat) (hI:II yp d (mB n ga gb an i pl v sr) (C4 ia ga gb an pl sr Q) listed a l) (D:k∈Û md yp listed): fe Ä Ì (λl' g'=>∃u,g'=G ((base 49).at u<|Ñ yp rest::L) qX/\II yp d (mB n ga gb an i pl v sr) (C4 ia ga gb an pl sr Q) (listed.setIfInBounds k Ò) u l') l (G ((base 49).at a<|Ñ yp (k::rest)::L) qX):=by
 let⟨x,s,B⟩:=hI;have K:tC yp d.size=Ò:=by rw[ht];decide
 have V:=PO D;have gH:=CR D;have M:=B.r.fl;have N:¬l.q:=by rwa[B.r.q]
 have W:∀y:â,(y=⟨gb,2,Á⟩\/y=⟨an,pl,Á⟩)->ia.r y:=λy ha=>by rcases ha with rfl|rfl;exact F;exact H
 have mQ:a.tmps[1]?=Â (Æ (Â ⟨an,0,Á⟩) i i):=(s.C A).trans AJ;have rh:a.tmps[5]?=Â (À<|Â ⟨n,0,Á⟩):=(s.C A).trans PV;have I:∀j m,ia.w.cell? ⟨n,j,Á⟩=Â m->gR l ⟨n,j,Á⟩/\l.w.cell? ⟨n,j,Á⟩=Â m:=λj m h=>⟨Ã<|Ã<|B.r.O n hO,by rwa[gE<|B.r.r n<|Ã hO]⟩;have PW:¬((⟨ga,2,Á⟩:â)=⟨gb,2,Á⟩\/(⟨ga,2,Á⟩:â)=⟨an,pl,Á⟩):=λq=>by
  rcases q with q|q
  .exact S.Y _ F<|q▸tD
  .exact S.Y _ H<|q▸tD
 have FX:gR l ⟨ga,2,Á⟩/\l.w.cell? ⟨ga,2,Á⟩=Â sr:=⟨Ç (Ç<|by rwa[B.r.c]),by rwa[B.r.e _ (Ç tD) PW]⟩;have PX:(pl:Int)<(i:Int):=Z
 have jV:yp.size=21:=A
 rw[jV]at gH;match k,gH with
 |0,_=>
  refine gZ (o:=FR) K s U U D (by k_ne) M N (λt r=> ?_) (λt r e E=> ?_)<|B.C A A A ⟨F,H⟩
  .simp only[mB,FR];go_simp
  .simp[go_sem,FR,rh]at E
 |1,_=>
  have u:a.tmps[13]?=Â (À<|Â ⟨n,3,Á⟩):=s.r 0 FR 13 U (gX (o:=CS) D U U) U;refine gZ (o:=CS) K s U U D (by k_ne) M N (λt r=> ?_) (λt r e E=> ?_)<|B.C A A A ⟨F,H⟩
  .have J:t.cell? ⟨n,3,Á⟩=Â (À<|Â ⟨gb,0,Á⟩):=((I 3 _ c3).1.r r).trans (I 3 _ c3).2;simp only[mB,CS];go_simp
  .have J:t.cell? ⟨n,3,Á⟩=Â (À<|Â ⟨gb,0,Á⟩):=((I 3 _ c3).1.r r).trans (I 3 _ c3).2;have b:e=⟨û ⟨n,3,Á⟩,Ì,Ì⟩:=by simp[go_sem,CS,J,u]at E;exact E
   subst b;exact(I 3 _ c3).1.C
 |2,_=>
  refine gZ (o:=FT) K s U U D (by k_ne) M N (λt r=> ?_) (λt r e E=> ?_)<|B.C A A A ⟨F,H⟩
  .simp only[mB,FT];go_simp
  .simp[go_sem,FT,mQ]at E
 |3,_=>
  refine gZ (o:=FU) K s U U D (by k_ne) M N (λt r=> ?_) (λt r e E=> ?_)<|B.C A A A ⟨F,H⟩
  .simp only[mB,FU];go_simp
  .simp[go_sem,FU,rh]at E
 |4,_=>
  have u:a.tmps[16]?=Â (À<|Â ⟨n,1,Á⟩):=s.r 3 FU 16 U (gX (o:=CU) D U U) U;refine gZ (o:=CU) K s U U D (by k_ne) M N (λt r=> ?_) (λt r e E=> ?_)<|B.C A A A ⟨F,H⟩
  .have J:t.cell? ⟨n,1,Á⟩=Â (Ê Î pl):=((I 1 _ Y).1.r r).trans (I 1 _ Y).2;simp only[mB,CU];go_simp
  .have J:t.cell? ⟨n,1,Á⟩=Â (Ê Î pl):=((I 1 _ Y).1.r r).trans (I 1 _ Y).2;have b:e=⟨û ⟨n,1,Á⟩,Ì,Ì⟩:=by simp[go_sem,CU,J,u]at E;exact E
   subst b;exact(I 1 _ Y).1.C
 |5,_=>
  refine gZ (o:=FV) K s U U D (by k_ne) M N (λt r=> ?_) (λt r e E=> ?_)<|B.C A A A ⟨F,H⟩
  .simp only[mB,FV];go_simp
  .simp[go_sem,FV,rh]at E
 |6,_=>
  have u:a.tmps[18]?=Â (À<|Â ⟨n,2,Á⟩):=s.r 5 FV 18 U (gX (o:=CV) D U U) U;refine gZ (o:=CV) K s U U D (by k_ne) M N (λt r=> ?_) (λt r e E=> ?_)<|B.C A A A ⟨F,H⟩
  .have J:t.cell? ⟨n,2,Á⟩=Â (À<|Â ⟨ga,0,Á⟩):=((I 2 _ c2).1.r r).trans (I 2 _ c2).2;simp only[mB,CV];go_simp
  .have J:t.cell? ⟨n,2,Á⟩=Â (À<|Â ⟨ga,0,Á⟩):=((I 2 _ c2).1.r r).trans (I 2 _ c2).2;have b:e=⟨û ⟨n,2,Á⟩,Ì,Ì⟩:=by simp[go_sem,CV,J,u]at E;exact E
   subst b;exact(I 2 _ c2).1.C
 |7,_=>
  have u:a.tmps[19]?=Â (À<|Â ⟨ga,0,Á⟩):=s.r 6 CV 19 U (gX (o:=CW) D U U) U;refine gZ (o:=CW) K s U U D (by k_ne) M N (λt r=> ?_) (λt r e E=> ?_)<|B.C A A A ⟨F,H⟩
  .simp only[mB,CW];go_simp
  .simp[go_sem,CW,u]at E
 |8,_=>
  have u:a.tmps[20]?=Â (À<|Â ⟨ga,0,Á⟩):=s.r 7 CW 20 U (gX (o:=CX) D U U) U;refine gZ (o:=CX) K s U U D (by k_ne) M N (λt r=> ?_) (λt r e E=> ?_)<|B.C A A A ⟨F,H⟩
  .simp only[mB,CX];go_simp
  .simp[go_sem,CX,u]at E
 |9,_=>
  have u:a.tmps[21]?=Â (À<|Â ⟨ga,2,Á⟩):=s.r 8 CX 21 U (gX (o:=CY) D U U) U;refine gZ (o:=CY) K s U U D (by k_ne) M N (λt r=> ?_) (λt r e E=> ?_)<|B.C A A A ⟨F,H⟩
  .have J:t.cell? ⟨ga,2,Á⟩=Â (sr):=(FX.1.r r).trans FX.2;simp only[mB,CY];go_simp
  .have J:t.cell? ⟨ga,2,Á⟩=Â (sr):=(FX.1.r r).trans FX.2;have b:e=⟨û ⟨ga,2,Á⟩,Ì,Ì⟩:=by simp[go_sem,CY,J,u]at E;exact E
   subst b;exact FX.1.C
 |10,_=>
  refine gZ (o:=FW) K s U U D (by k_ne) M N (λt r=> ?_) (λt r e E=> ?_)<|B.C A A A ⟨F,H⟩
  .simp only[mB,FW];go_simp
  .simp[go_sem,FW,rh]at E
 |11,_=>
  have u:a.tmps[23]?=Â (À<|Â ⟨n,0,Á⟩):=s.r 10 FW 23 U (gX (o:=CZ) D U U) U;refine gZ (o:=CZ) K s U U D (by k_ne) M N (λt r=> ?_) (λt r e E=> ?_)<|B.C A A A ⟨F,H⟩
  .have J:t.cell? ⟨n,0,Á⟩=Â (v):=((I 0 _ X).1.r r).trans (I 0 _ X).2;simp only[mB,CZ];go_simp
  .have J:t.cell? ⟨n,0,Á⟩=Â (v):=((I 0 _ X).1.r r).trans (I 0 _ X).2;have b:e=⟨û ⟨n,0,Á⟩,Ì,Ì⟩:=by simp[go_sem,CZ,J,u]at E;exact E
   subst b;exact(I 0 _ X).1.C
 |12,_=>
  have FY:a.tmps[22]?=Â (sr):=s.r 9 CY 22 U (gX (o:=Az) D U U) U;have JA:a.tmps[24]?=Â (v):=s.r 11 CZ 24 U (gX (o:=Az) D U U) U;refine Xs (o:=Az) K s U U D (by k_ne) M (f:=66) (args:=#[sr,v]) (λw=>by simp only[Az];go_simp) (λw=>ł (o:=Az) U Tryz.func66 U U #[]) λt r=> ?_;have T:=B.r.N W r;refine((tq _ T _ _).lG<|T.G S).fH ?_;rintro l' g' ⟨y,⟨hy0,p,g,c,str,rfl,hQ⟩,rfl,hA,Xv,ag2,ag3⟩;refine⟨((p,g,c),str),U,⟨T.PQ W hA hy0,λ_=>⟨y,hQ,λb P=>⟨?_,U⟩⟩,λq=> ?_,λq=> ?_⟩,λj u=> ?_⟩
  .rcases P with q|q
   .exact Ã<|Ã q
   .rw[Xv]at q;exact q.elim (λz=>Ã<|Ç z) Ç
  .rw[ç Ì A]at q;exact absurd (s.I (o:=AF) U q U)<|wy V
  .rw[ç Ì A]at q;exact absurd (s.I (o:=AH) U q U)<|wy V
  .match j,u with
   |12,u=>exact absurd u<|wy V
   |13,u=>exact absurd (s.I (o:=uS) U u U)<|wy V
   |14,u=>exact absurd (s.I (o:=uS) U (s.I (j:=13) (o:=AA) U u U) U)<|wy V
   |15,u=>exact absurd (s.I (o:=uS) U (s.I (j:=13) (o:=AB) U u U) U)<|wy V
   |0,_|1,_|2,_|3,_|4,_|5,_|6,_|7,_|8,_|9,_|10,_|11,_|16,_|17,_|18,_|19,_|20,_|g+21,_=>rfl
 |13,_=>
  have u:a.tmps[25]?=Â (ñ #[Æ x.1.1 x.1.2.1 x.1.2.2,à x.2]):=s.r 12 Az 25 U (gX (o:=uS) D U U) U;refine gZ (o:=uS) K s U U D (by k_ne) M N (λt r=> ?_) (λt r e E=> ?_)<|B.C A A A ⟨F,H⟩
  .simp only[mB,uS];go_simp
  .simp[go_sem,uS,u]at E
 |14,_=>
  have u:a.tmps[12]?=Â (ñ #[Æ x.1.1 x.1.2.1 x.1.2.2,à x.2]):=s.r 13 uS 12 U (gX (o:=AA) D U U) U;refine gZ (o:=AA) K s U U D (by k_ne) M N (λt r=> ?_) (λt r e E=> ?_)<|B.C A A A ⟨F,H⟩
  .simp only[mB,AA];go_simp
  .simp[go_sem,AA,u]at E
 |15,_=>
  have u:a.tmps[12]?=Â (ñ #[Æ x.1.1 x.1.2.1 x.1.2.2,à x.2]):=s.r 13 uS 12 U (gX (o:=AB) D U U) U;refine gZ (o:=AB) K s U U D (by k_ne) M N (λt r=> ?_) (λt r e E=> ?_)<|B.C A A A ⟨F,H⟩
  .simp only[mB,AB];go_simp
  .simp[go_sem,AB,u]at E
 |16,_=>
  have u:a.tmps[14]?=Â (À<|Â ⟨gb,0,Á⟩):=s.r 1 CS 14 U (gX (o:=C0) D U U) U;refine gZ (o:=C0) K s U U D (by k_ne) M N (λt r=> ?_) (λt r e E=> ?_)<|B.C A A A ⟨F,H⟩
  .simp only[mB,C0];go_simp
  .simp[go_sem,C0,u]at E
 |17,_=>
  have u:a.tmps[28]?=Â (À<|Â ⟨gb,0,Á⟩):=s.r 16 C0 28 U (gX (o:=C3) D U U) U;refine gZ (o:=C3) K s U U D (by k_ne) M N (λt r=> ?_) (λt r e E=> ?_)<|B.C A A A ⟨F,H⟩
  .simp only[mB,C3];go_simp
  .simp[go_sem,C3,u]at E
 |18,_=>
  have h29:a.tmps[29]?=Â (À<|Â ⟨gb,2,Á⟩):=s.r 17 C3 29 U (gX (o:=AF) D U U) U;have h26:a.tmps[26]?=Â (Æ x.1.1 x.1.2.1 x.1.2.2):=s.r 14 AA 26 U (gX (o:=AF) D U U) U;have T:(l.w.cell? ⟨gb,2,Á⟩).isSome=Ò:=B.r.g _ (Ã U) e1;have AK:l.w.frozen? ⟨gb,2,Á⟩=Ì:=(B.r.S _<|Ã F).trans z1;have kX:pw l ⟨gb,2,Á⟩:=Ç (by rwa[B.r.I]);refine PU (o:=AF) (y:=⟨gb,2,Á⟩) (v:=Æ x.1.1 x.1.2.1 x.1.2.2) K s U U U D (by k_ne) M N U kX T AK (λw J hz=> ?_) (λw J hz=> ?_) λt r=> ?_
  .let⟨u,hu⟩:=Ô.1 J;simp only[AF];go_simp
  .let⟨u,hu⟩:=Ô.1 J;simp[go_sem,AF,h29,h26,á _ _ _ _ _ _ (show Ø (Æ x.1.1 x.1.2.1 x.1.2.2)=Ò from rfl),hu,hz]
  .have hA:=B.r.pS S W (x:=⟨gb,2,Á⟩) (v:=Æ x.1.1 x.1.2.1 x.1.2.2) (Ã U) U T;refine⟨hA.N W ⟨r.r,r.I,r.N,r.Y,r.S⟩,λq=> ?_,λq=> ?_,λq=> ?_⟩
   .rw[ç Ì A]at q;let⟨y,y1,z⟩:=B.uT q;refine⟨y,y1,λb P=>⟨(z b P).1,?_⟩⟩;have PY:b≠(⟨gb,2,Á⟩:â).block:=λe=>(B.r.G S).N ⟨gb,2,Á⟩ (by rw[B.r.C];exact Ã F)<|e▸(z b P).1;exact(r.I b (z b P).1).trans<|(kP PY).trans (z b P).2
   .exact(r.N _ (by rw[B.r.C];first|exact Ã F|exact Ã H)).trans<|zU (Ô.1 T).choose_spec
   .rw[ç Ì A]at q;exact(r.N ⟨an,pl,Á⟩<|by rw[B.r.C];exact Ã H).trans<|(Ay U λe=>kT e.symm).trans<|B.N q
 |19,_=>
  have PZ:a.tmps[15]?=Â (Æ (Â ⟨an,0,Á⟩) i i):=s.r 2 FT 15 U (gX (o:=AG) D U U) U;have P0:a.tmps[17]?=Â (Ê Î pl):=s.r 4 CU 17 U (gX (o:=AG) D U U) U;refine gZ (o:=AG) K s U U D (by k_ne) M N (λt r=> ?_) (λt r e E=> ?_)<|B.C A A A ⟨F,H⟩
  .simp only[mB,AG];go_simp
  .simp[go_sem,AG,s6,PX,PZ,P0]at E
 |20,_=>
  have E:a.tmps[30]?=Â (À<|Â ⟨an,pl,Á⟩):=s.r 19 AG 30 U (gX (o:=AH) D U U) U;have h27:a.tmps[27]?=Â (à x.2):=s.r 15 AB 27 U (gX (o:=AH) D U U) U;have T:(l.w.cell? ⟨an,pl,Á⟩).isSome=Ò:=B.r.g _ (Ç U) e2;have AK:l.w.frozen? ⟨an,pl,Á⟩=Ì:=(B.r.S _<|Ã H).trans z2;have kX:pw l ⟨an,pl,Á⟩:=Ç (by rwa[B.r.I]);refine PU (o:=AH) (y:=⟨an,pl,Á⟩) (v:=à x.2) K s U U U D (by k_ne) M N U kX T AK (λw J hz=> ?_) (λw J hz=> ?_) λt r=> ?_
  .let⟨u,hu⟩:=Ô.1 J;simp only[AH];go_simp
  .let⟨u,hu⟩:=Ô.1 J;simp[go_sem,AH,E,h27,á _ _ _ _ _ _ (show Ø (à x.2)=Ò from rfl),hu,hz]
  .have hA:=B.r.pS S W (x:=⟨an,pl,Á⟩) (v:=à x.2) (Ç U) U T;refine⟨hA.N W ⟨r.r,r.I,r.N,r.Y,r.S⟩,λq=> ?_,λq=> ?_,λq=> ?_⟩
   .rw[ç Ì A]at q;let⟨y,y1,z⟩:=B.uT q;refine⟨y,y1,λb P=>⟨(z b P).1,?_⟩⟩;have PY:b≠(⟨an,pl,Á⟩:â).block:=λe=>(B.r.G S).N ⟨an,pl,Á⟩ (by rw[B.r.C];exact Ã H)<|e▸(z b P).1;exact(r.I b (z b P).1).trans<|(kP PY).trans (z b P).2
   .rw[ç Ì A]at q;exact(r.N ⟨gb,2,Á⟩<|by rw[B.r.C];exact Ã F).trans<|(Ay U<|kT).trans<|B.I q
   .exact(r.N _ (by rw[B.r.C];first|exact Ã F|exact Ã H)).trans<|zU (Ô.1 T).choose_spec
 |g+21,h=>exact absurd h Z
end
section
variable{E:â->Prop}{l c g:e5}
def iq.e8(h:iq E l c)(k:iq E c g):iq E l g:=by have f:=h.C;exact⟨λj e=>k.O j<|h.O j e,λj e=>(k.h j e).elim (h.h j) λq=>Ç<|Õ h.f q,k.Y.trans h.Y,k.I.trans h.I,k.c.trans h.c,k.K.trans h.K,k.q.trans h.q,k.d.trans h.d,k.fl,Õ h.f k.f,λj e=>(k.r j<|h.M e).trans<|h.r j e,λa b i=>(k.e a (by rwa[f]) i).trans<|h.e a b i,λa b=>(k.S a<|by rwa[f]).trans<|h.S a b,λa b q=>k.b a (by rwa[h.K])<|h.b a b q,λa b q=>k.g a b<|h.g a b q⟩
end
def gI(l:e5)(w₁:ß)(o:Ÿ):e5:={l with O:=λb=>l.O b\/b=w₁.heap.size,w:=w₁.alloc o}
theorem yq{o:Ÿ}(h:j<w.heap.size):(w.alloc o).heap[j]?=w.heap[j]?:=by unfold ň;grind
theorem nn{o:Ÿ}:(w.alloc o).heap[w.heap.size]?=Â o:=by unfold ň;simp
def JB{o:Ÿ}:(w.alloc o).heap.size=w.heap.size+1:=by unfold ň;simp
section
variable{J:Jd}{l:e5}{a:ŏ}{k:List ŷ}{cs:List é}{ob:Ÿ}{E:â->Prop}
def Xw(b:∀j,l.O j->j<w.heap.size)(c:¬l.q):lT l (gI l w ob) w (w.alloc ob) #[]:= ⟨by rw[JB];omega,λj h=>h.imp id λe=>by omega,λj h=>by rw[JB];exact h.elim (λq=>Ĺ<|b j q) λe=>by omega,U,U,U,U,λj d _ _=>yq d,λx a _ _=>gE<|yq a,λx a _=>vI<|yq a,U,U,U,λe f=>by simp at f,by simp[į,gI],U,λq=>absurd q c,U⟩
def FZ(c:Q[i]?=Â o)(d:Ė o (ţ Q a.tmps)=Ò)(e:f.kind≠Ź)(g:jW l)(h:¬l.q) (j:∀w,(ĉ a.eval o).run P w=.ok (.value<|À<|Â ⟨w.heap.size,0,Á⟩) (w.alloc ob)) (m:∀w,(ĉ a.eval o).events P w #[]=#[]) (n:∀b,fD l l.w b->fe P yQ J (gI l b ob) (G (f.at (a.put o.dst<|À<|Â ⟨b.heap.size,0,Á⟩)<|Ñ Q jJ::k) cs)):fe P yQ J l (G (f.at a<|Ñ Q (i::jJ)::k) cs):=by
 refine uR c d e λb r=> ?_;rw[j b];refine⟨_,?_,n b r⟩;have:listed P f.fn a o b=#[]:=by unfold listed;rw[m b,Ī]
 rw[this];exact Xw (lX g r) h
def JC(s:gl l)(d:∀a,E a->l.r a)(r:fD l l.w u):iq E l (gI l u ob):=by
 have c:=r.r;refine⟨λj h=>Ã h,λj h=>h.imp id λe=>by omega,U,U,U,U,U,U,λj h=> ?_,?_,λj f=>(yq<|È (s.fl j f) c).trans<|r.I j f,λx b _=>(gE<|yq<|È (s.I x b) c).trans<|r.N x b,λx b=>(vK<|yq<|È (s.I x b) c).trans<|r.Y x b,λx b q=> ?_,λx b q=> ?_⟩
 .show j<(u.alloc ob).heap.size;rw[JB];exact h.elim (λq=>Ĺ<|È (s.fl j<|Ã q) c) λe=>by omega
 .show l.w.heap.size<=(u.alloc ob).heap.size;rw[JB];omega
 .show((u.alloc ob).cell? x).isSome=Ò;rw[gE<|yq<|È (s.S x b).2.1 c];exact r.S x b q
 .show((u.alloc ob).cell? x).isSome=Ò;rwa[gE<|yq<|È (s.I x<|Ã<|d x b) c,r.N x<|Ã<|d x b]
def JD{w':ß}{p:Nat}(g:∀j,l.O j->j<w.heap.size)(i:¬l.q)(b:l.O p)(k:w'.heap.size=w.heap.size)(c:∀j,j≠p->w'.heap[j]?=w.heap[j]?)(d:w'.os=w.os/\w'.output=w.output/\w'.tape=w.tape)(f:∀e∈V,wx l e):lT l {l with w:=w'} w w' V:=by refine⟨Z,λ_ h=>Ã h,λj h=>by rw[k];exact g j h,U,U,U,U,λj _ a _=>c j λe=>a<|e▸b,λx _ a _=>gE (c _ λe=>a<|e▸b),λx _ a=>vI (c _ λe=>a<|e▸b),d.1,d.2.1,d.2.2,λe h=>(f e h).1,(Jw f _).symm,U,λq=>absurd q i,U⟩
end
def iL(w:ß)(p:Nat)(v0 v1 v2 v3:Ï):ß:=(((w.setCell ⟨p,0,Á⟩ v0).setCell ⟨p,1,Á⟩ v1).setCell ⟨p,2,Á⟩ v2).setCell ⟨p,3,Á⟩ v3
section
variable{p:Nat}{v0 v1 v2 v3:Ï}
def wz:(iL w p v0 v1 v2 v3).heap.size=w.heap.size:=by unfold iL;rw[jK,jK,jK,jK]
def yr(h:j≠p):(iL w p v0 v1 v2 v3).heap[j]?=w.heap[j]?:=by unfold iL;rw[kP h,kP h,kP h,kP h]
theorem P1(b:w.cell? ⟨p,0,Á⟩=Â v)(c:w.cell? ⟨p,1,Á⟩=Â x)(d:w.cell? ⟨p,2,Á⟩=Â z)(e:w.cell? ⟨p,3,Á⟩=Â jQ): (iL w p v0 v1 v2 v3).cell? ⟨p,0,Á⟩=Â v0/\(iL w p v0 v1 v2 v3).cell? ⟨p,1,Á⟩=Â v1/\(iL w p v0 v1 v2 v3).cell? ⟨p,2,Á⟩=Â v2/\(iL w p v0 v1 v2 v3).cell? ⟨p,3,Á⟩=Â v3:=by have f:∀(w:ß) (i j:Nat) (a:Ï),i≠j->(w.setCell ⟨p,i,Á⟩ a).cell? ⟨p,j,Á⟩=w.cell? ⟨p,j,Á⟩:=λw i j a h=>xR<|Ç h;unfold iL;grind [zU]
def P3{E:â->Prop}{l e:e5}(s:gl l)(f:∀a,E a->l.r a)(h:iq E l e){w':ß}(r:fD e e.w u)(k:l.w.heap.size<=p)(g:w'.heap.size=u.heap.size)(i:∀j,j≠p->w'.heap[j]?=u.heap[j]?):iq E l {e with w:=w'}:=by
 have b:=h.N f r;have c:∀{j:Nat},j<l.w.heap.size->w'.heap[j]?=u.heap[j]?:=λ{j} q=>i j Z;refine⟨b.O,b.h,b.Y,b.I,b.c,b.K,b.q,b.d,λj q=> ?_,?_,λj q=>(c<|s.fl j q).trans<|b.r j q,λa q n=>(gE<|c<|s.I a q).trans<|b.e a q n,λa q=>(vK<|c<|s.I a q).trans<|b.S a q,λa q z=> ?_,λa q z=> ?_⟩
 .show j<w'.heap.size;rw[g];exact b.fl j q
 .show l.w.heap.size<=w'.heap.size;rw[g];exact b.f
 .show(w'.cell? a).isSome=Ò;rw[gE<|c (s.S a q).2.1];exact b.b a q z
 .show(w'.cell? a).isSome=Ò;rw[gE<|c<|s.I a<|Ã<|f a q];exact b.g a q z
end
def C5(t:Array Ï)(h:t.size=n):∃u:Nat->Ï,t=((ã n).map u).toArray:=by subst h;refine⟨λi=>t.getD i Å,Array.ext fg λi a _=> ?_⟩;simp_all
def P4(t:Array Ï)(h:t.size=37):∃a b c d e f g i j k l m n o p q r s u v w x y z B C D E F G H I J K L M N:Ï,t=#[a,b,c,d,e,f,g,i,j,k,l,m,n,o,p,q,r,s,u,v,w,x,y,z,B,C,D,E,F,G,H,I,J,K,L,M,N]:=by obtain⟨_,rfl⟩:=C5 t h;exact⟨_,_,_,_,_,_,_,_,_,_,_,_,_,_,_,_,_,_,_,_,_,_,_,_,_,_,_,_,_,_,_,_,_,_,_,_,_,U⟩
end Go.Proofs.Y.fv
namespace Go.Proofs.Y.fv
open Go Go.Conc Go.Proofs.Y.Lift Go.RowKit Go.Conc.Lib Go.ConcR.Gen
section
variable{Ψ:ß->Prop}{L:WgLink}{l:e5}{e:Jd}{k:List ŷ}
def P5(Ψ:ß->Prop)(l:e5)(b:Nat)(w:ß):Prop:=SW Ψ l b w/\fD l l.w w
def oN(a:lF Ψ l b)(h:P5 Ψ l b w)(r:fD l w u):P5 Ψ l b u:=⟨fE h.1<|a.r r,h.2.e8 r⟩
def ag4{J:Jd}(a:SW Ψ l b l.w)(c:Goes P yQ (fD l) Go.ConcR.DC0 (λd e=>fe P yQ J {l with w:=e} d) n g l.w):fe P yQ J l g:= Ot c (λ_ _ r=>r) a.1 λ_ _ _ h=>h
def ag5(H:WgLib P L)(τ:e5->e5)(Φ:e5->Prop)(c:lF Ψ l b)(z:SW Ψ l b l.w) (N:∀a,fD l l.w a->Φ {l with w:=a}/\(τ {l with w:=a}).d=0/\∃q:ß->Prop,lF q (τ {l with w:=a}) b/\SW q (τ {l with w:=a}) b (τ {l with w:=a}).w/\ ∀j,SW q (τ {l with w:=a}) b j->fe P Ì e {τ {l with w:=a}with d:=0,w:=j} (G (f.at (y.put ((Q[i]?).bind (·.dst))<|ñ #[])<|Ñ Q jJ::k) qX)): fe P Ì (λl g=>Φ l/\xT P Ì b (fe P Ì e) (τ l) g) l (G ((base L.done).at ⟨#[À<|Â ⟨b,0,Á⟩,Å,Å,Å],[]⟩ [ö<|body_done L])<|f.at y (Ñ Q (i::jJ)::k)::qX):=by
 lib_facts;simp only[body_done,doneFn,Ń];have hF:P5 Ψ l b l.w:=⟨z,fD.fO _ _⟩;apply ag4 z (n:=40);u_reg (oN c) hF;u_op (oN c) hF;u_call H.f_add (nm_add L) addFn (oN c) hF;u_c Ŝ (oN c) hF;u_cond Ò (oN c) hF;u_c Ŝ (oN c) hF;u_c Ŝ (oN c) hF;u_reg (oN c) hF;u_op (oN c) hF;u_op (oN c) hF;u_c stepG_region_end (oN c) hF;u_cond Ò (oN c) hF;u_reg (oN c) hF;u_op (oN c) hF;u_conv H.underlying_tWgP H.room_tWg (mO.r hF.1.2.1).choose_spec (oN c) hF;refine Ë λa g=> ?_;replace hF:=oN c hF g;clear g;refine .fu λj r=> ?_;let⟨O,B,q,h,C,D⟩:=N j<|hF.2.e8<|yj r;refine⟨O,B,U,_,λ_=>stepG_markAt .releaseMerge fg U U (by k_ne) U H.f_relMerge (x_relMerge_n L) (x_relMerge_b L) (x_relMerge_x L) (x_relMerge_f L) (by simp[ĥ,fG]),?_⟩;walk_nrm;show fe P Ì (Nt P Ì b<|fe P Ì e) (τ {l with w:=j}) _;clear O r;generalize τ {l with w:=j}=l2 at h C B D|-;replace hF:=C;clear C c z N;apply jw h hF (n:=10);iterate 3 w_go fE
 refine Ë λa g=> ?_;replace hF:=fE hF g;clear g;refine uQ (l:={l2 with w:=a}) h hF (Ã U) U (λ_=>stepG_mark0 .disable fg U U (by k_ne) U H.f_disable (x_disable_n L) (x_disable_b L) (x_disable_x L)<|x_disable_f L) λE hF=> ?_;walk_nrm;have W:į l2.d #[jG .disable]=1:=by rw[B];rfl
 rw[W];apply jw (l:={l2 with d:=1,w:=E}) h hF (n:=50);iterate 2 w_go fE
 u_defer fE hF
 iterate 8 w_go fE
 u_bub fE hF
 iterate 11 w_go fE
 u_call H.f_uAdd (nm_uAdd L) uAddFn fE hF
 iterate 10 w_go fE
 refine Ë λa g=> ?_;replace hF:=fE hF g;clear g;refine nj (l:={l2 with d:=1,w:=a}) h hF λj hF=>⟨U,U,λv=>⟨_,λa p F=>(stepG_add_atomic U U (by k_ne) U H.f_addU64 (x_addU64_n L) (x_addU64_b L) (x_addU64_x L) ê (x_addU64_f L) U U p F).trans fR,?_⟩⟩;walk_nrm;have S:ê.wrap (v+18446744069414584320)=ê.wrap (v+pY):=rfl;rw[S];clear S;obtain⟨s,I⟩:∃s,ê.wrap (v+pY)=s:=⟨_,U⟩;simp only[I];have J:0<=s:=by rw[<-I];have:ê.wrap (v+pY)=(v+pY)%18446744073709551616:=rfl;rw[this];omega
 clear I v;by_cases o:s=0\/(fS<=s/\s<1000000*fS/\s%fS<1000000)
 .rw[if_pos o];by_cases m:s=0;focus
   subst m;clear o J
  rotate_left;focus
   have X:=o.resolve_left m;clear o m J;let⟨Y,c5,c6⟩:=X;have q4:(4294967296:Int)<=s:=Y;have K:s<1000000*4294967296:=c5;have T:s%4294967296<1000000:=c6;have f1:=CM s Z K T;have t:=CN s Z K T;obtain⟨u,g1⟩:∃u,(s/4294967296+2147483648)%4294967296-2147483648=u:=⟨_,U⟩;have g2:¬u<0:=Z
   have g3:0<u:=Z
   by_cases M:s%4294967296=0;focus rw[M]at t
   rotate_left;focus
    obtain⟨x,g4⟩:∃x,s%4294967296=x:=⟨_,U⟩;rw[g4]at t M;have V:x%4294967296=x:=Z
    have g6:(x !=0)=Ò:=by simpa using M
  all_goals
   apply jw (l:={l2 with d:=1,w:=j}) h hF (n:=150);iterate 3 w_go fE
   u_leave1 H.f_uAdd fE hF
   iterate 83 w_go fE
   refine Ë λa g=> ?_;replace hF:=fE hF g;clear g;refine uQ (l:={l2 with d:=1,w:=a}) h hF (Ç U) U (λw=>Jq .enable fg U H.f_enable (x_enable_n L) (x_enable_b L) (x_enable_x L) (x_enable_f L) w) λE hF=> ?_;have u:į 1 #[jG .enable]=0:=rfl;rw[u];apply jw (l:={l2 with d:=0,w:=E}) h hF (n:=10);u_leave0 H.f_add fE hF;iterate 2 w_go fE
   u_leave0 H.f_done fE hF
   refine Ë λa g=> ?_;replace hF:=fE hF g;clear g;exact D _ hF
 .rw[if_neg o];by_cases m:0<s/\s<1000000
  .rw[if_pos m];let⟨q4,K⟩:=m;clear o J;have f1:=CM s Z Z Z;have t:=CN s Z Z Z;have g1:(s/4294967296+2147483648)%4294967296-2147483648=0:=Z
   have V:s%4294967296=s:=Z
   rw[V]at t;have g6:(s !=0)=Ò:=by simp;omega
   have X:(s==0)=Ì:=by simp;omega
   have M:(s.toNat:Int)=s:=Z
   apply jw (l:={l2 with d:=1,w:=j}) h hF (n:=150);iterate 3 w_go fE
   u_leave1 H.f_uAdd fE hF
   iterate 89 w_go fE
   u_call H.f_uLoad (nm_uLoad L) uLoadFn fE hF
   iterate 9 w_go fE
   refine Ë λa g=> ?_;replace hF:=fE hF g;clear g;refine nj (l:={l2 with d:=1,w:=a}) h hF λj hF=>⟨U,U,λv=>⟨_,λa p=>stepG_load_atomic U U (by k_ne) U H.f_loadU64 (x_loadU64_n L) (x_loadU64_b L) (x_loadU64_x L) ê (x_loadU64_f L) U p,?_⟩⟩;show fe P Ì (if v=(s.toNat:Int)then IV P Ì b (fe P Ì e) s.toNat else λ_ _=>True) _ _;by_cases u:v=(s.toNat:Int)
   .rw[if_pos u];rw[M]at u;subst u;walk_nrm;have Y:(v !=v)=Ì:=fg
    apply jw (l:={l2 with d:=1,w:=j}) h hF (n:=150);iterate 3 w_go fE
    u_leave1 H.f_uLoad fE hF
    iterate 10 w_go fE
    u_call H.f_uStore (nm_uStore L) uStoreFn fE hF
    iterate 5 w_go fE
    refine Ë λa g=> ?_;replace hF:=fE hF g;clear g;refine nj (l:={l2 with d:=1,w:=a}) h hF λj hF=>⟨U,U,_,λa x p F=>stepG_store_atomic U U (by k_ne) U H.f_storeU64 (x_storeU64_n L) (x_storeU64_b L) (x_storeU64_x L) (x_storeU64_f L) U U p F,?_⟩;walk_nrm;obtain⟨r,T⟩:∃r,v.toNat=r+1:=⟨v.toNat-1,Z⟩;rw[T];apply jw (l:={l2 with d:=1,w:=j}) h hF (n:=150);iterate 2 w_go fE
    u_leave0 H.f_uStore fE hF
    iterate 24 w_go fE
    refine Ë λa g=> ?_;replace hF:=fE hF g;clear g;apply agC H h D r v<;>first|exact hF|omega
   .rw[if_neg u];exact .fu λ_ _=>trivial
  .rw[if_neg m];trivial
end
end Go.Proofs.Y.fv
namespace Go.Proofs.Y.fv
open Go Go.Conc Go.Proofs.Y.Lift Go.RowKit Go.Conc.Lib Go.ConcR.Gen
open Go.Proofs Go.Proofs.YtgpphkdoanciiaaGreatDoor
noncomputable def JF:Ę:=lY Ι [1,0,0]
noncomputable def yt (t:Array Ï) (a:List é):Ý:=G ((base 49).at ⟨t,[]⟩ [ö JF,ą JF,ô 0]) a
structure AL(an N:Nat)(ib:Option â)(m c kk:Nat)(t:Array Ï):Prop where
 r:t.size=37
 t1:t[1]?=Â (Æ (Â ⟨an,0,Á⟩) N N)
 t6:t[6]?=Â (Æ ib m c)
 C:t[7]?=Â (Ê Î m)
 I:t[8]?=Â (Ê Î kk)
theorem AN{x:Int}(a:0<=x)(b:x<1000000):Î.wrap x=x:=by rw[Γ];omega
section
variable{f:Jd}{l:e5}{t:Array Ï}{an N ib c kk:Nat}{Q:Ï->ByteArray->e5->Prop}{τ:e5->e5}{Φ:e5->Prop}
def ag6(D:gl l)(V:¬l.q)(hd:l.d=0)(W:AL an N (Â ⟨ib,0,Á⟩) m c kk t)(hkk:kk<m)(hm:m<1000)(hN:N<1000000)(s6:j<N)(yu:l.M ib) (i0:l.w.cell? ⟨ib,kk*4,Á⟩=Â (À O)) (i1:l.w.cell? ⟨ib,kk*4+1,Á⟩=Â (Ê Î j)) (i2:l.w.cell? ⟨ib,kk*4+2,Á⟩=Â (À<|Â ⟨i,0,Á⟩)) (i3:l.w.cell? ⟨ib,kk*4+3,Á⟩=Â (À<|Â ⟨n,0,Á⟩)) (tD:l.N ⟨i,2,Á⟩) (o7:l.w.cell? ⟨i,2,Á⟩=Â v) (o1:l.r ⟨n,2,Á⟩) (o2:l.r ⟨an,j,Á⟩) (e1:(l.w.cell? ⟨n,2,Á⟩).isSome=Ò) (e2:(l.w.cell? ⟨an,j,Á⟩).isSome=Ò) (z1:l.w.frozen? ⟨n,2,Á⟩=Ì) (z2:l.w.frozen? ⟨an,j,Á⟩=Ì) (kT:(⟨n,2,Á⟩:â)≠⟨an,j,Á⟩) (tq:∀u,iq (λa=>a=⟨n,2,Á⟩\/a=⟨an,j,Á⟩) l u->∀cl lk,fe Ä Ì (λl'' g'=>l''.d=u.d/\∃p k c str,g'=G (cl.finish<|ñ #[Æ p k c,à str]) lk/\Q (Æ p k c) str l'') (lG u)<|G (Ă Ä 66 #[v,À O] Ğ)<|cl::lk) (zO:∀u (x:(Option Addr×Nat×Nat)×ByteArray),iq (λa=>a=⟨n,2,Á⟩\/a=⟨an,j,Á⟩) l u->(∃y,Q (Æ x.1.1 x.1.2.1 x.1.2.2) x.2 y/\(∀b,y.M b->u.M b/\u.w.heap[b]?=y.w.heap[b]?))->u.w.cell? ⟨n,2,Á⟩=Â (Æ x.1.1 x.1.2.1 x.1.2.2)->u.w.cell? ⟨an,j,Á⟩=Â (à x.2)-> lF (λ_=>True) u n/\SW (λ_=>True) u n u.w/\Φ u/\(τ u).d=0/\∃E:ß->Prop,lF E (τ u) n/\SW E (τ u) n (τ u).w/\∀s X,SW E (τ u) n s->AL an N (Â ⟨ib,0,Á⟩) m c (kk+1) X->fe Ä Ì f {τ u with d:=0,w:=s} (yt X qX)): fe Ä Ì (λl g=>Φ l/\xT Ä Ì n (fe Ä Ì f) (τ l) g) l (yt t qX):=by
 obtain⟨y0,y1,Y,y3,y4,y5,y6,y7,y8,y9,uU,wA,uV,qd,ri,pz,tE,tF,rj,rm,rn,qe,qf,qg,pg,p7,pj,nJ,mP,oh,om,ot,qP,p8,p9,pn,po,rfl⟩:=P4 t W.r;obtain rfl:y1=Æ (Â ⟨an,0,Á⟩) N N:=by simpa using W.t1
 obtain rfl:y6=Æ (Â ⟨ib,0,Á⟩) m c:=by simpa using W.t6
 obtain rfl:y7=Ê Î m:=by simpa using W.C
 obtain rfl:y8=Ê Î kk:=by simpa using W.I
 have rp:∀y:â,(y=⟨n,2,Á⟩\/y=⟨an,j,Á⟩)->l.r y:=λy ha=>by rcases ha with rfl|rfl;exact o1;exact o2
 have arG:(kk:Int)<(m:Int):=Z
 simp only[yt];conv in JF=>whnf
 refine gi (n:=30) D.r ?_;have hF:True:=trivial;repeat w_go fA
 refine Ë λ_ _=> ?_;have B:∀g,gR l ⟨ib,g,Á⟩:=λg=>Ã yu;refine tB (v:=Đ #[À O,Ê Î j,À<|Â ⟨i,0,Á⟩,À<|Â ⟨n,0,Á⟩]) U U (by k_ne) D.r V (λo r=> ?_) (λo r e F=> ?_) ?_
 .have J:=((B<|kk*4).r r).trans i0;have K:=((B<|kk*4+1).r r).trans i1;have L:=((B<|kk*4+2).r r).trans i2;have P:=((B<|kk*4+3).r r).trans i3;go_simp
 .have J:=((B<|kk*4).r r).trans i0;have K:=((B<|kk*4+1).r r).trans i1;have L:=((B<|kk*4+2).r r).trans i2;have P:=((B<|kk*4+3).r r).trans i3;simp[go_sem,J,K,L,P]at F;rcases F with rfl|rfl|rfl|rfl
  .exact(B _).C
  .exact(B _).C
  .exact(B _).C
  .exact(B _).C
 walk_nrm;refine FZ (ob:=É #[À Á,Ê Î 0,À Á,À Á] 155) U U (by k_ne) D.r V (λw=>by go_simp) (λw=>by simp[go_sem]) λo oa=> ?_;walk_nrm;have tH:iq (λa=>a=⟨n,2,Á⟩\/a=⟨an,j,Á⟩) l (gI l o<|É #[À Á,Ê Î 0,À Á,À Á] 155):=JC D rp oa;have mQ:(gI l o<|É #[À Á,Ê Î 0,À Á,À Á] 155).w.heap[o.heap.size]?=Â (É #[À Á,Ê Î 0,À Á,À Á] 155):=nn;have su:l.w.heap.size<=o.heap.size:=oa.r;have I:(gI l o<|É #[À Á,Ê Î 0,À Á,À Á] 155).O o.heap.size:=Ç U;generalize gI l o (É #[À Á,Ê Î 0,À Á,À Á] 155)=l₁ at tH mQ I|-;generalize o.heap.size=tb at mQ I su|-;refine uR U U (by k_ne) λs ru=> ?_;have S:s.heap[tb]?=_:=(ru.I tb<|Ã I).trans mQ;have J:s.cell? ⟨tb,0,Á⟩=Â (À Á):=by simp[Ö,S]
 have K:s.cell? ⟨tb,1,Á⟩=Â (Ê Î 0):=by simp[Ö,S]
 have L:s.cell? ⟨tb,2,Á⟩=Â (À Á):=by simp[Ö,S]
 have P:s.cell? ⟨tb,3,Á⟩=Â (À Á):=by simp[Ö,S]
 have hz:∀g,s.frozen? ⟨tb,g,Á⟩=Ì:=λg=>by simp[î,S]
 go_simp;refine⟨{l₁ with w:=iL s tb (À O) (Ê Î j) (À<|Â ⟨i,0,Á⟩) (À<|Â ⟨n,0,Á⟩)},JD (p:=tb) (lX tH.fl ru) (by rwa[tH.q]) I wz (λg H=>yr H) ⟨U,U,U⟩ λe F=> ?_,?_⟩
 .have h:=đ F;have e:∀g,pw l₁ ⟨tb,g,Á⟩:=λg=>Ã I;simp[go_sem,á _ _ _ _ _ _ (show Ø (À O)=Ò from rfl),á _ _ _ _ _ _ (show Ø (À<|Â ⟨i,0,Á⟩)=Ò from rfl),á _ _ _ _ _ _ (show Ø (À<|Â ⟨n,0,Á⟩)=Ò from rfl),J,K,L,P,hz]at h;rcases h with rfl|rfl|rfl|rfl
  .exact(e _).r
  .exact(e _).r
  .exact(e _).r
  .exact(e _).r
 let⟨c0,c1,c2,c3⟩:=P1 (v0:=À O) (v1:=Ê Î j) (v2:=À<|Â ⟨i,0,Á⟩) (v3:=À<|Â ⟨n,0,Á⟩) J K L P;have C:=P3 (w':=iL s tb (À O) (Ê Î j) (À<|Â ⟨i,0,Á⟩)<|À<|Â ⟨n,0,Á⟩) D rp tH ru su wz λg H=>yr H;have AO:({l₁ with w:=iL s tb (À O) (Ê Î j) (À<|Â ⟨i,0,Á⟩) (À<|Â ⟨n,0,Á⟩)}:e5).O tb:=I;replace c0:({l₁ with w:=iL s tb (À O) (Ê Î j) (À<|Â ⟨i,0,Á⟩) (À<|Â ⟨n,0,Á⟩)}:e5).w.cell? ⟨tb,0,Á⟩=_:=c0;replace c1:({l₁ with w:=iL s tb (À O) (Ê Î j) (À<|Â ⟨i,0,Á⟩) (À<|Â ⟨n,0,Á⟩)}:e5).w.cell? ⟨tb,1,Á⟩=_:=c1;replace c2:({l₁ with w:=iL s tb (À O) (Ê Î j) (À<|Â ⟨i,0,Á⟩) (À<|Â ⟨n,0,Á⟩)}:e5).w.cell? ⟨tb,2,Á⟩=_:=c2;replace c3:({l₁ with w:=iL s tb (À O) (Ê Î j) (À<|Â ⟨i,0,Á⟩) (À<|Â ⟨n,0,Á⟩)}:e5).w.cell? ⟨tb,3,Á⟩=_:=c3;generalize({l₁ with w:=iL s tb (À O) (Ê Î j) (À<|Â ⟨i,0,Á⟩) (À<|Â ⟨n,0,Á⟩)}:e5)=l₂ at c0 c1 c2 c3 C AO|-;clear mQ I tH S J K L P hz ru s l₁ oa o;have rv:=C.G D;have pA:¬l₂.q:=by rwa[C.q]
 have ag7:l₂.N ⟨i,2,Á⟩:=by rwa[C.c]
 have nE:¬((⟨i,2,Á⟩:â)=⟨n,2,Á⟩\/(⟨i,2,Á⟩:â)=⟨an,j,Á⟩):=λq=>by
  rcases q with q|q
  .exact D.Y _ o1<|q▸tD
  .exact D.Y _ o2<|q▸tD
 have ag8:l₂.w.cell? ⟨i,2,Á⟩=Â v:=(C.e _ (Ç tD) nE).trans o7;have P7:∀y:â,(y=⟨n,2,Á⟩\/y=⟨an,j,Á⟩)->l₂.r y:=λy hy=>by rw[C.I];exact rp y hy
 refine gi (n:=5) rv.r ?_;iterate 2 w_go fA
 refine Ë λ_ _=> ?_;refine PL (II yp #[y0,Æ (Â ⟨an,0,Á⟩) N N,Y,y3,y4,À<|Â ⟨tb,0,Á⟩,Æ (Â ⟨ib,0,Á⟩) m c,Ê Î m,Ê Î kk,ŝ Ò,À<|Â ⟨ib,kk*4,Á⟩,Đ #[À O,Ê Î j,À<|Â ⟨i,0,Á⟩,À<|Â ⟨n,0,Á⟩],uV,qd,ri,pz,tE,tF,rj,rm,rn,qe,qf,qg,pg,p7,pj,nJ,mP,oh,om,ot,qP,p8,p9,pn,po] (mB tb i n an N j (À O) v)<|C4 l₂ i n an j v Q) rv.r pA (λh H=> ?_) (λmd listed a l e z hI F=>ag1 rv pA U U U AO c0 c1 c2 c3 ag7 ag8 (P7 _<|Ã U) (P7 _<|Ç U) (C.g _ (Ã U) e1) (C.g _ (Ç U) e2) ((C.S _<|Ã o1).trans z1) ((C.S _<|Ã o2).trans z2) s6 hN kT (λu h=>tq u<|C.e8 h) md listed a l e z hI F) λmd listed a z hI jV yv=> ?_
 .refine⟨((Á,0,0),ByteArray.empty),mA.G _ _ _,(iq.fO rv.r).N P7 ⟨H.r,H.I,H.N,H.Y,H.S⟩,λq=> ?_,λq=> ?_,λq=> ?_⟩<;>exact absurd q A
 let⟨x,H,T⟩:=hI;have pB:∀e∈ã 21,listed.getD e Ì=Ò:=by
  cases md
  .exact py yv jV (ã 21) [] fR λe F=>by cases F
  .exact λe F=>py yv jV [0,1,5,6,7,8,9,10,11,12,13,14,16,17,18,2,3,4,15,19,20] [] fR (λe F=>by cases F) e (by have:=Ē.1 F;revert e;decide)
  .exact py yv jV (ã 21) [] fR λe F=>by cases F
 have F0:=C.e8 T.r;have F1:=F0.G D;have wB:¬z.q:=by rwa[F0.q]
 let⟨F,ds⟩:=a;obtain rfl:ds=[]:=H.M;have b1:F[1]?=Â (Æ (Â ⟨an,0,Á⟩) N N):=H.C (d:=1) A;have b5:F[5]?=Â (À<|Â ⟨tb,0,Á⟩):=H.C (d:=5) A;have b6:F[6]?=Â (Æ (Â ⟨ib,0,Á⟩) m c):=H.C (d:=6) A;have b7:F[7]?=Â (Ê Î m):=H.C (d:=7) A;have b8:F[8]?=Â (Ê Î kk):=H.C (d:=8) A;obtain⟨x0,x1,x2,x3,x4,x5,x6,x7,x8,x9,Xx,x11,x12,x13,x14,x15,x16,x17,x18,x19,x20,x21,x22,x23,x24,x25,x26,x27,x28,x29,x30,x31,x32,x33,x34,x35,x36,rfl⟩:=P4 F H.S;obtain rfl:x1=Æ (Â ⟨an,0,Á⟩) N N:=by simpa using b1
 obtain rfl:x5=À (Â ⟨tb,0,Á⟩):=by simpa using b5
 obtain rfl:x6=Æ (Â ⟨ib,0,Á⟩) m c:=by simpa using b6
 obtain rfl:x7=Ê Î m:=by simpa using b7
 obtain rfl:x8=Ê Î kk:=by simpa using b8
 have ag9:=T.uT<|pB 12 A;have aha:=T.I<|pB 18 A;have ahb:=T.N<|pB 20 A;have d3:z.w.cell? ⟨tb,3,Á⟩=Â (À<|Â ⟨n,0,Á⟩):=(gE<|T.r.r tb<|Ã AO).trans c3;have s3:gR z ⟨tb,3,Á⟩:=Ã<|Ã<|T.r.O tb AO;clear H pB b1 b5 b6 b7 b8;refine gi (n:=9) F1.r ?_;iterate 3 w_go fA
 refine Ë λ_ _=> ?_;refine nK (x:=⟨tb,3,Á⟩) U U (by k_ne) F1.r wB s3 d3 (λw h=>by go_simp) (λw h=>by simp[go_sem,h]) ?_;walk_nrm;refine gi (n:=9) F1.r ?_;iterate 2 w_go fA
 u_call qc.f_done (nm_done Lk) doneFn fA hF
 refine Ë λ_ _=> ?_;have wC:∀o,fD z z.w o->lF (λ_=>True) {z with w:=o} n/\SW (λ_=>True) {z with w:=o} n o/\Φ {z with w:=o}/\(τ {z with w:=o}).d=0/\∃E:ß->Prop,lF E (τ {z with w:=o}) n/\SW E (τ {z with w:=o}) n (τ {z with w:=o}).w/\∀s X,SW E (τ {z with w:=o}) n s->AL an N (Â ⟨ib,0,Á⟩) m c (kk+1) X->fe Ä Ì f {τ {z with w:=o}with d:=0,w:=s} (yt X qX):=λo r=>by
  refine zO {z with w:=o} x (F0.N rp r) ?_ ?_ ?_
  .let⟨y,y1,Y⟩:=ag9;exact⟨y,y1,λb h=>⟨(Y b h).1,(r.I b (Y b h).1).trans (Y b h).2⟩⟩
  .exact(r.N _<|Ã<|by rwa[F0.I]).trans aha
  .exact(r.N _<|Ã<|by rwa[F0.I]).trans ahb
 let⟨k1,k2,_⟩:=wC z.w<|fD.fO _ _;refine ag5 qc τ Φ k1 k2 λo r=> ?_;let⟨_,_,f1,f4,E,f2,f3,f5⟩:=wC o r;refine⟨f1,f4,E,f2,f3,λs h=> ?_⟩;walk_nrm;refine gi (n:=30) h.1 ?_;iterate 7 w_go fA
 refine Ë λ_ _=> ?_;refine f5 s _ h ⟨U,U,U,U,?_⟩;simp;exact AN Z Z
end
def ahc:Array å:=#[⟨Â 2,ć 85<|Ù 0,85, "work.go:24",#[],Á⟩,
 ⟨Â 3,ć 25<|Ù 1,25, "work.go:24",#[],Á⟩,
 ⟨Â 4,Ě {callee:=ĕ (ĸ 49),args:=#[Ù 2,Ù 3],argTypes:=#[85,25]},0, "work.go:24",#[⟨0,Ü⟩,⟨1,Ü⟩],Á⟩]
def yw(a:Nat)(b c d e:Ï):é:=(baseD 63).at ⟨#[À<|Â ⟨a,0,Á⟩,b,c,d,e],[oM 64 #[À<|Â ⟨a,0,Á⟩] #[]]⟩ [Ñ Xt [1]]
def uW(a b c d e:Ï):é:=(base 48).at ⟨#[a,b,c,d,e],[]⟩ [Ñ ahc [2]]
section
variable{Ψ:ß->Prop}{J:Jd}{l:e5}{a e f o p:Ï}
def ahd(c:jW l)(g:¬l.q)(k:gR l ⟨j9,0,Á⟩)(r:gR l ⟨j7,0,Á⟩)(s:gR l ⟨b,0,Á⟩)(t:l.w.cell? ⟨j9,0,Á⟩=Â (Ĉ (ù 48) #[] #[À<|Â ⟨j7,0,Á⟩,À<|Â ⟨b,0,Á⟩]))(u:l.w.cell? ⟨j7,0,Á⟩=Â (Æ O m n))(y:l.w.cell? ⟨b,0,Á⟩=Â (Æ (Â ⟨j,0,Á⟩) i i)) (B:∀d a e f o v x z jQ p,AL j i O m n 0 d->fe Ä Ì J l (yt d [uW v x z jQ p,yw j6 a e f o,nk Ä])): fe Ä Ì J l (born Ä<|oM 63 #[À<|Â ⟨j6,0,Á⟩,À<|Â ⟨j9,0,Á⟩] #[]):=by
 apply gi (n:=30) c;have hF:=trivial;u_c (Xk Ů fR U) fA hF;walk_nrmf Κ;iterate 3 w_go fA
 u_c (Xi U U (by k_ne) U U) fA hF
 walk_nrm;repeat w_go fA
 refine Ë λ_ _=> ?_;apply nK U U (by k_ne) c g k t (λw h=>by go_simp) (λw h=>by simp[go_sem,h]);walk_nrm;apply gi (n:=30) c;u_c (Xj U U (by k_ne) U U ů fR U) fA hF;walk_nrmf Tryz.f48;w_go fA;refine Ë λ_ _=> ?_;apply nK U U (by k_ne) c g r u (λw h=>by go_simp) (λw h=>by simp[go_sem,h]);walk_nrm;apply nK U U (by k_ne) c g s y (λw h=>by go_simp) (λw h=>by simp[go_sem,h]);walk_nrm;apply gi (n:=30) c;u_call Ű fR Ι fA hF;iterate 8 w_go fA
 refine Ë λ_ _=> ?_;exact B _ _ _ _ _ _ _ _ _ _ ⟨U,U,U,U,U⟩
def ahe(b:AL j i O m n m d)(h:l.K ⟨k,0,Á⟩/\l.K ⟨k,1,Á⟩)(r:lF Ψ l k)(c:SW Ψ l k l.w)(s:l.d=0)(t:¬l.q)(u:gR l ⟨j6,0,Á⟩)(y:l.w.cell? ⟨j6,0,Á⟩=Â (À<|Â ⟨k,0,Á⟩)): fe Ä Ì (λl g=>xT Ä Ì k (CP Ä) (ki l) g) l (yt d [uW v x z jQ p,yw j6 a e f o,nk Ä]):=by
 obtain⟨C,D,E,F,G,H,I,g,B,J,L,M,N,P,Q,S,T,V,W,X,Y,qe,qf,qg,pg,p7,pj,nJ,mP,oh,om,ot,qP,p8,p9,pn,po,rfl⟩:=P4 d b.r;obtain rfl:g=Ê Î m:=by simpa using b.C
 obtain rfl:B=Ê Î m:=by simpa using b.I
 have hmm:¬(m:Int)<(m:Int):=Z
 simp only[yt];conv in JF=>whnf
 apply gi (n:=40) c.1;have hF:=trivial;iterate 8 w_go fA
 u_leave0 Ű fA hF
 iterate 2 w_go fA
 u_leave0 ů fA hF
 refine Ë λ_ _=> ?_;exact Xu h r c s t u y
end
def F2:å:=⟨Â 14,ę<|Ù 1,25, "work.go:65",#[],Á⟩
def F3:å:=⟨Â 15,ð 155 (Ù 4) 1,0, "work.go:65",#[],Á⟩
def C6:å:=⟨Â 16,ć 3<|Ù 15,3, "work.go:65",#[⟨1,Ü⟩],Á⟩
def F4:å:=⟨Â 17,ð 155 (Ù 4) 2,0, "work.go:65",#[],Á⟩
def C7:å:=⟨Â 18,ć 86<|Ù 17,86, "work.go:65",#[⟨3,Ü⟩],Á⟩
def C8:å:=⟨Â 19,ĩ<|Ù 18,0, "work.go:65",#[⟨4,Ü⟩],Á⟩
def C9:å:=⟨Â 20,ð 105 (Ù 19) 1,0, "work.go:65",#[⟨5,Ü⟩],Á⟩
def Da:å:=⟨Â 21,ć 65<|Ù 20,65, "work.go:65",#[⟨6,Ü⟩],Á⟩
def F5:å:=⟨Â 22,ð 155 (Ù 4) 0,0, "work.go:65",#[],Á⟩
def Db:å:=⟨Â 23,ć 148<|Ù 22,148, "work.go:65",#[⟨8,Ü⟩],Á⟩
def AP:å:=⟨Â 24,Ě {callee:=ĕ<|ĸ 67,args:=#[Ù 21,Ù 23],argTypes:=#[65,148]},9, "work.go:65",#[⟨7,Ü⟩,⟨9,Ü⟩],Á⟩
def AQ:å:=⟨Â 25,ő 25 (Ù 14)<|Ù 16,0, "work.go:65",#[⟨0,Ü⟩,⟨2,Ü⟩,⟨0,Í⟩,⟨1,Í⟩,⟨2,Í⟩,⟨3,Í⟩,⟨4,Í⟩,⟨5,Í⟩,⟨6,Í⟩,⟨7,Í⟩,⟨8,Í⟩,⟨9,Í⟩,⟨10,Í⟩],Á⟩
def AR:å:=⟨Á,š 9 (Ù 25)<|Ù 24,0, "work.go:65",#[⟨11,Ü⟩,⟨10,Ü⟩,⟨10,Ţ⟩,⟨0,Í⟩,⟨1,Í⟩,⟨2,Í⟩,⟨3,Í⟩,⟨4,Í⟩,⟨5,Í⟩,⟨6,Í⟩,⟨7,Í⟩,⟨8,Í⟩,⟨9,Í⟩,⟨10,Í⟩],Á⟩
def uX:Array å:=#[F2,F3,C6,F4,C7,C8,C9,Da,F5,Db,AP,AQ,AR]
def qh(tb a b N c:Nat)(d e:Ï)(x:ByteArray):Nat->Ï
 |0=>Æ (Â ⟨b,0,Á⟩) N N
 |1=>À<|Â ⟨tb,1,Á⟩
 |2=>Ê Î c
 |3=>À<|Â ⟨tb,2,Á⟩
 |4=>À<|Â ⟨a,0,Á⟩
 |5=>À<|Â ⟨a,0,Á⟩
 |6=>À<|Â ⟨a,2,Á⟩
 |7=>e
 |8=>À<|Â ⟨tb,0,Á⟩
 |9=>d
 |10=>à x
 |11=>À<|Â ⟨b,c,Á⟩
 |_=>Å
structure Dc(ia:e5)(an pl:Nat)(Q:ByteArray->Prop)(listed:Array Bool)(x:ByteArray)(l:e5):Prop where
 r:iq (λa=>a=⟨an,pl,Á⟩) ia l
 uT:listed.getD 10 Ì=Ò->Q x
 I:listed.getD 12 Ì=Ò->l.w.cell? ⟨an,pl,Á⟩=Â (à x)
def Dc.C{b l:e5}{Q:ByteArray->Prop}{listed:Array Bool}{x:ByteArray}(h:Dc b n j Q listed x l)(e:i≠10)(f:i≠12)(c:b.r ⟨n,j,Á⟩)(d:ß)(r:fD l l.w d):Dc b n j Q (listed.setIfInBounds i Ò) x {l with w:=d}:=by
 refine⟨h.r.N (λa q=>by rwa[q]) r,λq=> ?_,λq=> ?_⟩
 .rw[ç Ì e]at q;exact h.uT q
 .rw[ç Ì f]at q;exact(r.N _<|by rw[h.r.C];exact Ã c).trans<|h.I q
section
variable{J:Jd}{ia:e5}{an pl:Nat}{Q:ByteArray->Prop}
def ahf(W:gl ia)(hq:¬ia.q)(ht:d.size=26)(AJ:d[1]?=Â (Æ (Â ⟨an,0,Á⟩) i i))(F6:d[4]?=Â (À<|Â ⟨j,0,Á⟩))(hO:ia.O j) (J:ia.w.cell? ⟨j,0,Á⟩=Â v) (K:ia.w.cell? ⟨j,1,Á⟩=Â (Ê Î pl)) (M:ia.w.cell? ⟨j,2,Á⟩=Â (À<|Â ⟨n,0,Á⟩)) (X:ia.N ⟨n,2,Á⟩) (o7:ia.w.cell? ⟨n,2,Á⟩=Â z) (B:ia.r ⟨an,pl,Á⟩) (e2:(ia.w.cell? ⟨an,pl,Á⟩).isSome=Ò) (z2:ia.w.frozen? ⟨an,pl,Á⟩=Ì) (s6:pl<i) (P8:∀l,iq (λa=>a=⟨an,pl,Á⟩) ia l->∀t lk,fe Ä Ì (λP S=>P.d=l.d/\∃T,S=G (t.finish<|à T) lk/\Q T) (lG l)<|G (Ă Ä 67 #[z,v] Ğ)<|t::lk) (md:ý) (listed:Array Bool) (a:ŏ) (l:e5) (b:Nat) (rest:List Nat) (hI:II uX d (qh j n an i pl v z) (Dc ia an pl Q) listed a l) (p:b∈Û md uX listed): fe Ä Ì (λP S=>∃I,S=G ((base 51).at I<|Ñ uX rest::L) qX/\II uX d (qh j n an i pl v z) (Dc ia an pl Q) (listed.setIfInBounds b Ò) I P) l (G ((base 51).at a<|Ñ uX (b::rest)::L) qX):=by
 let⟨x,m,s⟩:=hI;have E:tC uX d.size=Ò:=by rw[ht];decide
 have Xy:=PO p;have gH:=CR p;have F:=s.r.fl;have H:¬l.q:=by rwa[s.r.q]
 have V:∀y:â,y=⟨an,pl,Á⟩->ia.r y:=λy ha=>by rwa[ha]
 have mQ:a.tmps[1]?=Â (Æ (Â ⟨an,0,Á⟩) i i):=(m.C A).trans AJ;have Y:a.tmps[4]?=Â (À<|Â ⟨j,0,Á⟩):=(m.C A).trans F6;have t:∀c g,ia.w.cell? ⟨j,c,Á⟩=Â g->gR l ⟨j,c,Á⟩/\l.w.cell? ⟨j,c,Á⟩=Â g:=λc g h=>⟨Ã<|Ã<|s.r.O j hO,by rwa[gE<|s.r.r j<|Ã hO]⟩;have PW:¬((⟨n,2,Á⟩:â)=⟨an,pl,Á⟩):=λq=>W.Y _ B<|q▸X;have N:gR l ⟨n,2,Á⟩/\l.w.cell? ⟨n,2,Á⟩=Â z:=⟨Ç (Ç<|by rwa[s.r.c]),by rwa[s.r.e _ (Ç X) PW]⟩;have PX:(pl:Int)<(i:Int):=Z
 have jV:uX.size=13:=A
 rw[jV]at gH;match b,gH with
 |0,_=>
  refine gZ (o:=F2) E m U U p (by k_ne) F H (λk r=> ?_) (λk r e u=> ?_)<|s.C A A B
  .simp only[qh,F2];go_simp
  .simp[go_sem,F2,mQ]at u
 |1,_=>
  refine gZ (o:=F3) E m U U p (by k_ne) F H (λk r=> ?_) (λk r e u=> ?_)<|s.C A A B
  .simp only[qh,F3];go_simp
  .simp[go_sem,F3,Y]at u
 |2,_=>
  have PZ:a.tmps[15]?=Â (À<|Â ⟨j,1,Á⟩):=m.r 1 F3 15 U (gX (o:=C6) p U U) U;refine gZ (o:=C6) E m U U p (by k_ne) F H (λk r=> ?_) (λk r e u=> ?_)<|s.C A A B
  .have D:k.cell? ⟨j,1,Á⟩=Â (Ê Î pl):=((t 1 _ K).1.r r).trans (t 1 _ K).2;simp only[qh,C6];go_simp
  .have D:k.cell? ⟨j,1,Á⟩=Â (Ê Î pl):=((t 1 _ K).1.r r).trans (t 1 _ K).2;have I:e=⟨û ⟨j,1,Á⟩,Ì,Ì⟩:=by simp[go_sem,C6,D,PZ]at u;exact u
   subst I;exact(t 1 _ K).1.C
 |3,_=>
  refine gZ (o:=F4) E m U U p (by k_ne) F H (λk r=> ?_) (λk r e u=> ?_)<|s.C A A B
  .simp only[qh,F4];go_simp
  .simp[go_sem,F4,Y]at u
 |4,_=>
  have P0:a.tmps[17]?=Â (À<|Â ⟨j,2,Á⟩):=m.r 3 F4 17 U (gX (o:=C7) p U U) U;refine gZ (o:=C7) E m U U p (by k_ne) F H (λk r=> ?_) (λk r e u=> ?_)<|s.C A A B
  .have D:k.cell? ⟨j,2,Á⟩=Â (À<|Â ⟨n,0,Á⟩):=((t 2 _ M).1.r r).trans (t 2 _ M).2;simp only[qh,C7];go_simp
  .have D:k.cell? ⟨j,2,Á⟩=Â (À<|Â ⟨n,0,Á⟩):=((t 2 _ M).1.r r).trans (t 2 _ M).2;have I:e=⟨û ⟨j,2,Á⟩,Ì,Ì⟩:=by simp[go_sem,C7,D,P0]at u;exact u
   subst I;exact(t 2 _ M).1.C
 |5,_=>
  have P9:a.tmps[18]?=Â (À<|Â ⟨n,0,Á⟩):=m.r 4 C7 18 U (gX (o:=C8) p U U) U;refine gZ (o:=C8) E m U U p (by k_ne) F H (λk r=> ?_) (λk r e u=> ?_)<|s.C A A B
  .simp only[qh,C8];go_simp
  .simp[go_sem,C8,P9]at u
 |6,_=>
  have h19:a.tmps[19]?=Â (À<|Â ⟨n,0,Á⟩):=m.r 5 C8 19 U (gX (o:=C9) p U U) U;refine gZ (o:=C9) E m U U p (by k_ne) F H (λk r=> ?_) (λk r e u=> ?_)<|s.C A A B
  .simp only[qh,C9];go_simp
  .simp[go_sem,C9,h19]at u
 |7,_=>
  have JG:a.tmps[20]?=Â (À<|Â ⟨n,2,Á⟩):=m.r 6 C9 20 U (gX (o:=Da) p U U) U;refine gZ (o:=Da) E m U U p (by k_ne) F H (λk r=> ?_) (λk r e u=> ?_)<|s.C A A B
  .have D:k.cell? ⟨n,2,Á⟩=Â (z):=(N.1.r r).trans N.2;simp only[qh,Da];go_simp
  .have D:k.cell? ⟨n,2,Á⟩=Â (z):=(N.1.r r).trans N.2;have I:e=⟨û ⟨n,2,Á⟩,Ì,Ì⟩:=by simp[go_sem,Da,D,JG]at u;exact u
   subst I;exact N.1.C
 |8,_=>
  refine gZ (o:=F5) E m U U p (by k_ne) F H (λk r=> ?_) (λk r e u=> ?_)<|s.C A A B
  .simp only[qh,F5];go_simp
  .simp[go_sem,F5,Y]at u
 |9,_=>
  have FY:a.tmps[22]?=Â (À<|Â ⟨j,0,Á⟩):=m.r 8 F5 22 U (gX (o:=Db) p U U) U;refine gZ (o:=Db) E m U U p (by k_ne) F H (λk r=> ?_) (λk r e u=> ?_)<|s.C A A B
  .have D:k.cell? ⟨j,0,Á⟩=Â (v):=((t 0 _ J).1.r r).trans (t 0 _ J).2;simp only[qh,Db];go_simp
  .have D:k.cell? ⟨j,0,Á⟩=Â (v):=((t 0 _ J).1.r r).trans (t 0 _ J).2;have I:e=⟨û ⟨j,0,Á⟩,Ì,Ì⟩:=by simp[go_sem,Db,D,FY]at u;exact u
   subst I;exact(t 0 _ J).1.C
 |10,_=>
  have Qa:a.tmps[21]?=Â (z):=m.r 7 Da 21 U (gX (o:=AP) p U U) U;have h23:a.tmps[23]?=Â (v):=m.r 9 Db 23 U (gX (o:=AP) p U U) U;refine Xs (o:=AP) E m U U p (by k_ne) F (f:=67) (args:=#[z,v]) (λw=>by simp only[AP];go_simp) (λw=>ł (o:=AP) U Tryz.func67 U U #[]) λk r=> ?_;have I:=s.r.N V r;refine((P8 _ I _ _).lG<|I.G W).fH ?_;rintro P S ⟨y,⟨hy0,T,rfl,hQ⟩,rfl,hA,Xv,ag2,ag3⟩;refine⟨T,U,⟨I.PQ V hA hy0,λ_=>hQ,λq=> ?_⟩,λc hj=> ?_⟩
  .rw[ç Ì A]at q;exact absurd (m.I (o:=AR) U q U)<|wy Xy
  .match c,hj with
   |10,hj=>exact absurd hj<|wy Xy
   |0,_|1,_|2,_|3,_|4,_|5,_|6,_|7,_|8,_|9,_|11,_|12,_|n+13,_=>rfl
 |11,_=>
  have I:a.tmps[14]?=Â (Æ (Â ⟨an,0,Á⟩) i i):=m.r 0 F2 14 U (gX (o:=AQ) p U U) U;have h16:a.tmps[16]?=Â (Ê Î pl):=m.r 2 C6 16 U (gX (o:=AQ) p U U) U;refine gZ (o:=AQ) E m U U p (by k_ne) F H (λk r=> ?_) (λk r e u=> ?_)<|s.C A A B
  .simp only[qh,AQ];go_simp
  .simp[go_sem,AQ,s6,PX,I,h16]at u
 |12,_=>
  have h25:a.tmps[25]?=Â (À<|Â ⟨an,pl,Á⟩):=m.r 11 AQ 25 U (gX (o:=AR) p U U) U;have JA:a.tmps[24]?=Â (à x):=m.r 10 AP 24 U (gX (o:=AR) p U U) U;have I:(l.w.cell? ⟨an,pl,Á⟩).isSome=Ò:=s.r.g _ U e2;have AK:l.w.frozen? ⟨an,pl,Á⟩=Ì:=(s.r.S _<|Ã B).trans z2;have kX:pw l ⟨an,pl,Á⟩:=Ç (by rwa[s.r.I]);refine PU (o:=AR) (y:=⟨an,pl,Á⟩) (v:=à x) E m U U U p (by k_ne) F H U kX I AK (λw D e=> ?_) (λw D e=> ?_) λk r=> ?_
  .let⟨u,hu⟩:=Ô.1 D;simp only[AR];go_simp
  .let⟨u,hu⟩:=Ô.1 D;simp[go_sem,AR,h25,JA,á _ _ _ _ _ _ (show Ø (à x)=Ò from rfl),hu,e]
  .have hA:=s.r.pS W V (x:=⟨an,pl,Á⟩) (v:=à x) U U I;refine⟨hA.N V ⟨r.r,r.I,r.N,r.Y,r.S⟩,λq=> ?_,λq=> ?_⟩
   .rw[ç Ì A]at q;exact s.uT q
   .exact(r.N _<|by rw[s.r.C];exact Ã B).trans<|zU (Ô.1 I).choose_spec
 |n+13,h=>exact absurd h Z
end
def yx:Array å:=#[⟨Â 6,.recv 165 (Ù 5) Ò,0, "work.go:63",#[],Á⟩,⟨Â 7,Ő (Ù 6) 1,4, "work.go:63",#[⟨0,Ü⟩],Á⟩]
def Xz:Array å:=#[⟨Â 8,Ő (Ù 6) 0,155, "work.go:63",#[],Á⟩,⟨Â 4,.alloc 155,0, "work.go:63",#[],Á⟩,⟨Á,š 155 (Ù 4)<|Ù 8,0, "work.go:63",#[⟨1,Ü⟩,⟨0,Ü⟩,⟨0,Í⟩,⟨1,Í⟩],Á⟩]
def Qb:Array å:=#[⟨Â 9,ð 155 (Ù 4) 2,0, "work.go:64",#[],Á⟩,⟨Â 10,ć 86<|Ù 9,86, "work.go:64",#[⟨0,Ü⟩],Á⟩,⟨Â 11,ĩ<|Ù 10,0, "work.go:64",#[⟨1,Ü⟩],Á⟩,⟨Â 12,ð 105 (Ù 11) 0,0, "work.go:64",#[⟨2,Ü⟩],Á⟩,⟨Â 13,Ě {callee:=ĕ<|ĸ 53,args:=#[Ù 12],argTypes:=#[97]},0, "work.go:64",#[⟨3,Ü⟩],Á⟩]
def Dd:Ę:=((Ť (Ù 7) ť<|Ŧ 0).seq<|İ 1<|(ä 2 Xz Ì).seq<|(ä 3 Qb Ì).seq<|ä 4 uX Ò)
def AS:Ę:=(ä 1 yx Ì).seq Dd
def ahg:Array å:=#[⟨Â 2,ć 101<|Ù 0,101, "work.go:30",#[],Á⟩,
 ⟨Â 3,ć 25<|Ù 1,25, "work.go:30",#[],Á⟩,
 ⟨Â 4,Ě {callee:=ĕ (ĸ 51),args:=#[Ù 2,Ù 3],argTypes:=#[165,25]},0, "work.go:30",#[⟨0,Ü⟩,⟨1,Ü⟩],Á⟩]
def F7(a b c d e:Ï):é:=(base 50).at ⟨#[a,b,c,d,e],[]⟩ [Ñ ahg [2]]
def XA(t:Array Ï)(a:List é):Ý:=G ((base 51).at ⟨t,[]⟩ [ö AS,ą AS,ô 0]) a
def yy(t:Array Ï)(a:List é):Ý:=G ((base 51).at ⟨t,[]⟩ [Ñ yx [0,1],ö Dd,ą AS,ô 0]) a
def JH(t:Array Ï)(a:List é):Ý:=G ((base 51).at ⟨t,[]⟩ [Ñ Qb [],ö<|ä 4 uX Ò,ô 1,ą AS,ô 0]) a
def Qc(t:Array Ï)(a:List é):Ý:=G ((base 51).at ⟨t,[]⟩ [Ñ yx [1],ö Dd,ą AS,ô 0]) a
def XB(t:Array Ï)(v:Ï)(a:List é):({yy t a with frame:=(yy t a).frame.finish v}:Ý)=Qc (t.setIfInBounds 6 v) a:=by have:(yy t a).frame.finish v=(base 51).at (Ο ⟨t,[]⟩ (Â 6) v) [Ñ yx [1],ö Dd,ą AS,ô 0]:=Ģ _ _ _ _ _ _ _;rw[this];rfl
def zT:Ï:=Đ #[À Á,Ê Î 0,À Á,À Á]
structure QT(an N ch:Nat)(t:Array Ï):Prop where
 r:t.size=26
 C:t[1]?=Â (Æ (Â ⟨an,0,Á⟩) N N)
 I:t[5]?=Â (è<|Â ch)
def ahh(t:Array Ï)(h:t.size=26):∃a b c d e f g i j k l m n o p q r s u v w x y z B C:Ï,t=#[a,b,c,d,e,f,g,i,j,k,l,m,n,o,p,q,r,s,u,v,w,x,y,z,B,C]:=by obtain⟨_,rfl⟩:=C5 t h;exact⟨_,_,_,_,_,_,_,_,_,_,_,_,_,_,_,_,_,_,_,_,_,_,_,_,_,_,U⟩
section
variable{Ψ:ß->Prop}{J u:Jd}{l:e5}{t:Array Ï}{ch an N:Nat}{a:Option â}{Q:ByteArray->Prop}{o p r s c f:Ï}{τ:e5->e5}
def XC(a:jW l)(b:fe Ä Ì J l (yy t qX)):fe Ä Ì J l (XA t qX):=by apply gi (n:=5) a;have hF:=trivial;simp only[XA,AS];w_go fA;u_c ĺ fA hF;exact Ë λ_ _=>b
def ahi(a:jW l)(d:¬l.q)(e:gR l ⟨k,0,Á⟩)(g:gR l ⟨b,0,Á⟩)(i:gR l ⟨n,0,Á⟩)(j:l.w.cell? ⟨k,0,Á⟩=Â (Ĉ (ù 50) #[] #[À<|Â ⟨b,0,Á⟩,À<|Â ⟨n,0,Á⟩]))(u:l.w.cell? ⟨b,0,Á⟩=Â (è<|Â ch))(v:l.w.cell? ⟨n,0,Á⟩=Â (Æ (Â ⟨an,0,Á⟩) N N)) (y:∀t o p r s x z jQ c f,QT an N ch t->fe Ä Ì J l (yy t [F7 x z jQ c f,yw m o p r s,nk Ä])): fe Ä Ì J l (born Ä<|oM 63 #[À<|Â ⟨m,0,Á⟩,À<|Â ⟨k,0,Á⟩] #[]):=by
 apply gi (n:=30) a;have hF:=trivial;u_c (Xk Ů fR U) fA hF;walk_nrmf Κ;iterate 3 w_go fA
 u_c (Xi U U (by k_ne) U U) fA hF
 walk_nrm;repeat w_go fA
 refine Ë λ_ _=> ?_;apply nK U U (by k_ne) a d e j (λw h=>by go_simp) (λw h=>by simp[go_sem,h]);walk_nrm;apply gi (n:=30) a;u_c (Xj U U (by k_ne) U U ű fR U) fA hF;walk_nrmf Tryz.f50;w_go fA;refine Ë λ_ _=> ?_;apply nK U U (by k_ne) a d g u (λw h=>by go_simp) (λw h=>by simp[go_sem,h]);walk_nrm;apply nK U U (by k_ne) a d i v (λw h=>by go_simp) (λw h=>by simp[go_sem,h]);walk_nrm;apply gi (n:=30) a;u_call Ų fR Tryz.f51 fA hF;iterate 6 w_go fA
 refine Ë λ_ _=> ?_;exact XC a<|y _ _ _ _ _ _ _ _ _ _ ⟨U,U,U⟩
def ahj{Y:Ï}(G:gl l)(M:¬l.q)(P:l.d=0)(hT:QT an N ch t)(hB:60<=i)(ahk:Y=Đ #[À a,Ê Î j7,À<|Â ⟨j9,0,Á⟩,À O])(Q:l.K ⟨j9,0,Á⟩/\l.K ⟨j9,1,Á⟩)(F8:mO j9 l.w) (Qd:l.K ⟨j,0,Á⟩/\l.K ⟨j,1,Á⟩) (hsa:mO j l.w) (hs:gR l ⟨m,0,Á⟩) (hc:l.w.cell? ⟨m,0,Á⟩=Â (À<|Â ⟨j,0,Á⟩)) (ahl:∀H k t',iq e9 l H->H.d=0->H.O k->H.w.cell? ⟨k,0,Á⟩=Â (À a)->H.w.cell? ⟨k,1,Á⟩=Â (Ê Î j7)->H.w.cell? ⟨k,2,Á⟩=Â (À<|Â ⟨j9,0,Á⟩)->QT an N ch t'->t'[4]?=Â (À<|Â ⟨k,0,Á⟩)->u H (JH t' [F7 x z jQ c f,yw m o p r s,nk Ä])): vL Ä Ì ch zT (λb=>match b with
  |some v=>λl g=>v=Y->pZ Ä Ì i j9 u .iP l g
  |none=>λl g=>xT Ä Ì j (CP Ä) (ki l) g) l (yy t [F7 x z jQ c f,yw m o p r s,nk Ä]):=by
 obtain⟨y0,y1,y2,y3,y4,y5,y6,y7,y8,y9,uU,wA,uV,qd,ri,pz,tE,tF,rj,rm,rn,qe,qf,qg,pg,p7,rfl⟩:=ahh t hT.r;obtain rfl:y1=Æ (Â ⟨an,0,Á⟩) N N:=by simpa using hT.C
 obtain rfl:y5=è (Â ch):=by simpa using hT.I
 have hF:=trivial;refine⟨U,U,λD=> ?_,λb=> ?_⟩
 .refine(Ż (cases:=#[rcase ch zT]) (blocking:=Ò) (shape:=.recv Ò) (w':=D) rfl rfl (by k_ne) ?_).trans ?_
  .simp[go_sem,yx,ĉ,rcase,zT]
  .simp[listed,go_sem,yx,ĉ,Ī];rfl
 cases b with
 |none=>
  rw[XB];simp only[Qc,Dd,yx,Option.getD_none,ı,ē,Ĳ,ĳ];apply gi (n:=30) G.r;iterate 6 w_go fA
  u_leave0 Ų fA hF
  iterate 2 w_go fA
  u_leave0 ű fA hF
  refine Ë λ_ _=> ?_;exact Xu (Ψ:=λ_=>True) Qd ⟨Ã Qd.1,Ã Qd.2,λ_ _ _ _ _ _ _ _=>trivial⟩ ⟨G.r,hsa,trivial⟩ P M hs hc
 |some v=>
  by_cases hv:v=Y
  .subst hv;subst ahk;apply fe.fH λl g h _=>h;rw[XB];simp only[Qc,Dd,yx,Ń,Option.isSome_some,ē,Ĳ,ĳ];apply gi (n:=30) G.r;iterate 7 w_go fA
   u_c ĺ fA hF
   simp only[Xz,Ļ,ń,ŋ,ś,č,ã,List.range.loop];w_go fA;refine Ë λ_ _=> ?_;have rp:∀y:â,False->l.r y:=λy ha=>ha.elim;refine FZ (ob:=É #[À Á,Ê Î 0,À Á,À Á] 155) U U (by k_ne) G.r M (λw=>by go_simp) (λw=>by simp[go_sem]) λD oa=> ?_;walk_nrm;have S:iq e9 l (gI l D<|É #[À Á,Ê Î 0,À Á,À Á] 155):=JC G rp oa;have mQ:(gI l D<|É #[À Á,Ê Î 0,À Á,À Á] 155).w.heap[D.heap.size]?=Â (É #[À Á,Ê Î 0,À Á,À Á] 155):=nn;have su:=oa.r;have I:(gI l D<|É #[À Á,Ê Î 0,À Á,À Á] 155).O D.heap.size:=Ç U;generalize gI l D (É #[À Á,Ê Î 0,À Á,À Á] 155)=l₁ at S mQ I|-;generalize D.heap.size=k at mQ I su|-;refine uR U U (by k_ne) λC ru=> ?_;have J:=(ru.I k<|Ã I).trans mQ;have De:C.cell? ⟨k,0,Á⟩=Â (À Á):=by simp[Ö,J]
   have yn:C.cell? ⟨k,1,Á⟩=Â (Ê Î 0):=by simp[Ö,J]
   have qi:C.cell? ⟨k,2,Á⟩=Â (À Á):=by simp[Ö,J]
   have tJ:C.cell? ⟨k,3,Á⟩=Â (À Á):=by simp[Ö,J]
   have hz:∀g,C.frozen? ⟨k,g,Á⟩=Ì:=λg=>by simp[î,J]
   go_simp;refine⟨{l₁ with w:=iL C k (À a) (Ê Î j7) (À<|Â ⟨j9,0,Á⟩) (À O)},JD (lX S.fl ru) (by rwa[S.q]) I wz (λg F=>yr F) ⟨U,U,U⟩ λe L=> ?_,?_⟩
   .have E:=đ L;have B:∀g,pw l₁ ⟨k,g,Á⟩:=λg=>Ã I;simp[go_sem,á _ _ _ _ _ _ (show Ø (À a)=Ò from rfl),á _ _ _ _ _ _ (show Ø (À<|Â ⟨j9,0,Á⟩)=Ò from rfl),á _ _ _ _ _ _ (show Ø (À O)=Ò from rfl),De,yn,qi,tJ,hz]at E;rcases E with rfl|rfl|rfl|rfl
    .exact(B _).r
    .exact(B _).r
    .exact(B _).r
    .exact(B _).r
   obtain⟨T,V,L,c3⟩:=P1 De yn qi tJ;have E:=P3 (w':=iL C k (À a) (Ê Î j7) (À<|Â ⟨j9,0,Á⟩)<|À O) G rp S ru su wz λg F=>yr F;have W:({l₁ with w:=iL C k (À a) (Ê Î j7) (À<|Â ⟨j9,0,Á⟩) (À O)}:e5).O k:=I;replace T:({l₁ with w:=iL C k (À a) (Ê Î j7) (À<|Â ⟨j9,0,Á⟩) (À O)}:e5).w.cell? ⟨k,0,Á⟩=_:=T;replace V:({l₁ with w:=iL C k (À a) (Ê Î j7) (À<|Â ⟨j9,0,Á⟩) (À O)}:e5).w.cell? ⟨k,1,Á⟩=_:=V;replace L:({l₁ with w:=iL C k (À a) (Ê Î j7) (À<|Â ⟨j9,0,Á⟩) (À O)}:e5).w.cell? ⟨k,2,Á⟩=_:=L;generalize({l₁ with w:=iL C k (À a) (Ê Î j7) (À<|Â ⟨j9,0,Á⟩) (À O)}:e5)=l₂ at T V L E W|-;have X:=E.G G;have pA:¬l₂.q:=by rwa[E.q]
   apply gi (n:=9) X.r;iterate 2 w_go fA
   u_c ĺ fA hF
   simp only[Qb,Ļ,ń,ŋ,ś,č,ã,List.range.loop];w_go fA;refine Ë λ_ _=> ?_;apply nK U U (by k_ne) X.r pA (Ã<|Ã W) L (λw h=>by go_simp) (λw h=>by simp[go_sem,h]);walk_nrm;apply gi (n:=9) X.r;iterate 2 w_go fA
   u_call qc.f_wait (nm_wait Lk) waitFn fA hF
   refine Ë λ_ _=> ?_;have k2:lF (λw=>fD l₂ l₂.w w) l₂ j9:=⟨Ã (by rw[E.K];exact Q.1),Ã (by rw[E.K];exact Q.2),λw D h1 h2 h3 h4 h5 h=>h.e8 ⟨h1,h2,h3,h4,h5⟩⟩;have s2:SW (λw=>fD l₂ l₂.w w) l₂ j9 l₂.w:=⟨X.r,⟨E.b _ Q.1 F8.1,E.b _ Q.2 F8.2⟩,fD.fO _ _⟩;refine Xg qc hB k2 s2 (E.d.trans P) λD XD=> ?_;walk_nrm;refine .fu λCO F=> ?_;have B:=E.N rp<|XD.2.2.e8 ⟨F.r,F.I,F.N,F.Y,F.S⟩;have hdd:=E.d.trans P;have AT:iq e9 l ({l₂ with d:=0,w:=CO}:e5):=⟨B.O,B.h,B.Y,B.I,B.c,B.K,B.q,P.symm,B.fl,B.f,B.r,B.e,B.S,B.b,B.g⟩;have rr:=XD.2.2.e8 ⟨F.r,F.I,F.N,F.Y,F.S⟩;have cc:∀g,CO.cell? ⟨k,g,Á⟩=l₂.w.cell? ⟨k,g,Á⟩:=λg=>gE<|rr.I k<|Ã W;exact ahl {l₂ with d:=0,w:=CO} k _ AT U W ((cc 0).trans T) ((cc 1).trans V) ((cc 2).trans L) ⟨U,U,U⟩ U
  .exact .fu λ_ _ e=>absurd e hv
end
section
variable{J:Jd}{l:e5}{Q:ByteArray->Prop}
def ahm(f:gl l)(C:¬l.q)(g:QT n i j d)(L:d[4]?=Â (À<|Â ⟨m,0,Á⟩))(M:l.O m) (N:l.w.cell? ⟨m,0,Á⟩=Â (À O)) (P:l.w.cell? ⟨m,1,Á⟩=Â (Ê Î k)) (S:l.w.cell? ⟨m,2,Á⟩=Â (À<|Â ⟨b,0,Á⟩)) (T:l.N ⟨b,2,Á⟩) (V:l.w.cell? ⟨b,2,Á⟩=Â v) (p:l.r ⟨n,k,Á⟩) (W:(l.w.cell? ⟨n,k,Á⟩).isSome=Ò) (X:l.w.frozen? ⟨n,k,Á⟩=Ì) (Y:k<i) (P8:∀e,iq (λa=>a=⟨n,k,Á⟩) l e->∀D E,fe Ä Ì (λl'' g'=>l''.d=e.d/\∃F,g'=G (D.finish<|à F) E/\Q F) (lG e)<|G (Ă Ä 67 #[v,À O] Ğ)<|D::E) (hJ:∀e x H,iq (λa=>a=⟨n,k,Á⟩) l e->Q x->e.w.cell? ⟨n,k,Á⟩=Â (à x)->QT n i j H->J e (yy H qX)): fe Ä Ì J l (JH d qX):=by
 have I:∀y:â,y=⟨n,k,Á⟩->l.r y:=λy ha=>by rwa[ha]
 have hF:=trivial;apply gi (n:=3) f.r;simp only[JH];w_go fA;refine Ë λ_ _=> ?_;refine PL (II uX d (qh m b n i k (À O) v)<|Dc l n k Q) f.r C (λo h=> ?_) (λs t a l c o u r=>ahf f C g.r g.C L M N P S T V p W X Y P8 s t a l c o u r) λs t a j4 u z B=> ?_
 .refine⟨ByteArray.empty,mA.G _ _ _,(iq.fO f.r).N I ⟨h.r,h.I,h.N,h.Y,h.S⟩,λq=> ?_,λq=> ?_⟩<;>exact absurd q A
 let⟨x,o,h⟩:=u;have K:∀c∈ã 13,t.getD c Ì=Ò:=by
  cases s
  .exact py B z (ã 13) [] fR λc r=>by cases r
  .exact py B z (ã 13) [] fR λc r=>by cases r
  .exact py B z (ã 13) [] fR λc r=>by cases r
 have s:=h.r.G f;let⟨z,B⟩:=a;obtain rfl:B=[]:=o.M;apply gi (n:=9) s.r;iterate 3 w_go fA
 refine Ë λ_ _=> ?_;refine XC s.r<|.fu λw₁ r=>(hJ {j4 with w:=w₁} x z (h.r.N I r) (h.uT<|K 10 A) ((r.N _<|Ã<|by rwa[h.r.I]).trans<|h.I<|K 12 A) ⟨o.S.trans g.r,((o.C A).trans g.C),((o.C A).trans g.I)⟩)
end
structure fX(X:Nat->Prop)(l l':e5):Prop where
 O:∀j,l.O j->l'.O j
 c:∀j,l'.O j->l.O j\/l.w.heap.size<=j
 S:l'.I=l.I
 Y:l'.r=l.r
 b:l'.N=l.N
 K:l'.K=l.K
 q:l'.q=l.q
 d:l'.d=l.d
 fl:jW l'
 I:l.w.heap.size<=l'.w.heap.size
 r:∀j,l.M j->¬X j->l'.w.heap[j]?=l.w.heap[j]?
 f:∀a,l.C a->l'.w.cell? a=l.w.cell? a
 g:∀a,l.C a->l'.w.frozen? a=l.w.frozen? a
 e:∀a,l.K a->(l.w.cell? a).isSome=Ò->(l'.w.cell? a).isSome=Ò
section
variable{l l' l'':e5}
theorem fX.fO(h:jW l):fX X l l:=⟨λ_ h=>h,λ_ h=>Ã h,U,U,U,U,U,U,h,Ú _,λ_ _ _=>rfl,λ_ _=>rfl,λ_ _=>rfl,λ_ _ h=>h⟩
def fX.C(h:fX X l l'):l'.C=l.C:=by unfold e5.C;rw[h.Y,h.b]
def fX.M(h:fX X l l')(a:l.M b):l'.M b:=a.imp (h.O b)<|by rw[h.S];exact id
def fX.e8(h:fX X l l')(k:fX X l' l''):fX X l l'':=by have e:=h.C;exact⟨λj c=>k.O j<|h.O j c,λj c=>(k.c j c).elim (h.c j) λq=>Ç<|Õ h.I q,k.S.trans h.S,k.Y.trans h.Y,k.b.trans h.b,k.K.trans h.K,k.q.trans h.q,k.d.trans h.d,k.fl,Õ h.I k.I,λj c f=>(k.r j (h.M c) f).trans<|h.r j c f,λa b=>(k.f a<|by rwa[e]).trans<|h.f a b,λa b=>(k.g a<|by rwa[e]).trans<|h.g a b,λa b q=>k.e a (by rwa[h.K])<|h.e a b q⟩
def fX.G(h:fX X l l'){w₁:ß}(r:fD l' l'.w w₁):fX X l {l' with w:=w₁}:= h.e8 ⟨λ_ q=>q,λ_ q=>Ã q,U,U,U,U,U,U,lX h.fl r,r.r,λj a _=>r.I j a,r.N,r.Y,r.S⟩
def fX.fH{a:Nat->Prop}(h:fX X l l')(c:∀j,l.M j->X j->a j):fX a l l':=⟨h.O,h.c,h.S,h.Y,h.b,h.K,h.q,h.d,h.fl,h.I,λj b e=>h.r j b λq=>e<|c j b q,h.f,h.g,h.e⟩
def fX.N(h:fX X l l')(s:gl l):gl l' where
 c b hb:=by
  rw[h.S];rcases h.c b hb with q|q
  .exact s.c b q
  .exact λz=>by have:=s.fl b<|Ç z;omega
 Y a ha:=by rw[h.b];exact s.Y a<|by rwa[<-h.Y]
 N a ha hb:=by
  rw[h.C]at ha;rcases hb with q|q
  .rcases h.c _ q with z|z
   .exact s.N a ha<|Ã z
   .have:=s.I a ha;omega
  .rw[h.S]at q;exact s.N a ha<|Ç q
 fl b hb:=by
  rcases hb with q|q
  .exact h.fl b q
  .rw[h.S]at q;exact È (s.fl b<|Ç q) h.I
 I a ha:=by rw[h.C]at ha;exact È (s.I a ha) h.I
 S a ha:=by
  rw[h.K]at ha;let⟨c,d,e⟩:=s.S a ha;refine⟨λq=> ?_,È d h.I,by rwa[h.Y]⟩;rcases q with q|q
  .rcases h.c _ q with z|z
   .exact c<|Ã z
   .omega
  .rw[h.S]at q;exact c<|Ç q
def nL{ob:Ÿ}(s:gl l){w₁:ß}(r:fD l l.w w₁):fX X l (gI l w₁ ob):=by have h:=JC (E:=e9) (ob:=ob) s (λ_ q=>q.elim) r;exact⟨h.O,h.h,h.Y,h.I,h.c,h.K,h.q,h.d,h.fl,h.f,λj b _=>h.r j b,λa c=>h.e a c id,h.S,h.b⟩
def JJ{w':ß}{p:Nat}(s:gl l)(r:fD l l.w u)(c:l.O p)(g:X p)(d:w'.heap.size=u.heap.size)(b:∀j,j≠p->w'.heap[j]?=u.heap[j]?):fX X l {l with w:=w'}:=by
 have f:∀a:â,l.C a->a.block≠p:=λa h e=>s.N a h<|Ã<|e▸c;refine⟨λ_ q=>q,λ_ q=>Ã q,U,U,U,U,U,U,λj q=> ?_,?_,λj q n=>(b j λe=>n<|e▸g).trans<|r.I j q,λa q=>(gE<|b _<|f a q).trans<|r.N a q,λa q=>(vK<|b _<|f a q).trans<|r.Y a q,λa q z=> ?_⟩
 .show j<w'.heap.size;rw[d];exact È (s.fl j<|Ã q) r.r
 .show l.w.heap.size<=w'.heap.size;rw[d];exact r.r
 .show(w'.cell? a).isSome=Ò;rw[gE (b a.block λe=>(s.S a q).1<|Ã<|e▸c)];exact r.S a q z
end
section
variable{J:Jd}{l:e5}{a:ŏ}{k:List ŷ}{cs:List é}{ob:Ÿ}
def qj{V:Nat->Ï}(c:Q[i]?=Â o)(d:Ė o (ţ Q a.tmps)=Ò)(e:f.kind≠Ź)(g:jW l)(h:¬l.q) (j:∀w,(ĉ a.eval o).run P w=.ok (.value<|V w.heap.size) (w.alloc ob)) (m:∀w,(ĉ a.eval o).events P w #[]=#[]) (n:∀b,fD l l.w b->fe P yQ J (gI l b ob) (G (f.at (a.put o.dst<|V b.heap.size)<|Ñ Q jJ::k) cs)):fe P yQ J l (G (f.at a<|Ñ Q (i::jJ)::k) cs):=by
 refine uR c d e λb r=> ?_;rw[j b];refine⟨_,?_,n b r⟩;have:listed P f.fn a o b=#[]:=by unfold listed;rw[m b,Ī]
 rw[this];exact Xw (lX g r) h
def F9{p off:Nat}{u:Ï}(m:Q[i]?=Â o)(n:Ė o (ţ Q a.tmps)=Ò)(s:f.kind≠Ź)(t:jW l)(x:¬l.q)(b:l.O p)(d:l.w.cell? ⟨p,off,Á⟩=Â u)(y:l.w.frozen? ⟨p,off,Á⟩=Ì)(z:o.dst=Á) (B:∀w,w.cell? ⟨p,off,Á⟩=Â u->w.frozen? ⟨p,off,Á⟩=Ì->(ĉ a.eval o).run P w=.ok .skip (w.setCell ⟨p,off,Á⟩ v)) (C:∀w,w.cell? ⟨p,off,Á⟩=Â u->w.frozen? ⟨p,off,Á⟩=Ì->(ĉ a.eval o).events P w #[]=#[⟨û ⟨p,off,Á⟩,Ò,Ì⟩]) (D:fe P yQ J {l with w:=l.w.setCell ⟨p,off,Á⟩ v} (G (f.at a<|Ñ Q jJ::k) cs)):fe P yQ J l (G (f.at a<|Ñ Q (i::jJ)::k) cs):=by
 have E:gR l ⟨p,off,Á⟩:=Ã<|Ã b;refine uR m n s λg r=> ?_;have c:=(E.r r).trans d;have j:=(vK<|r.I p<|Ã b).trans y;rw[B g c j];refine⟨_,Xq U (lX t r) x (Ã b) λe h=> ?_,?_⟩
 .have:=đ h;rw[C g c j]at this;have:e=⟨û ⟨p,off,Á⟩,Ò,Ì⟩:=by simpa using this
  subst this;exact pw.r<|Ã b
 .have:(a.put o.dst Å)=a:=by rw[z];rfl
  rw[this];exact D.jM<|yj<|Xp U (by rw[d];rfl) (by rw[c];rfl) r
def nN(l:e5)(w₁ a:ß):e5:={l with O:=λf=>l.O f\/(w₁.heap.size<=f/\f<a.heap.size),w:=a}
def Qe(s:gl l){w₁:ß}(r:fD l l.w w₁){a:Option Nat}(d:w₁.grownBy u a)(c:∀k,a=Â k->l.O k/\X k):fX X l (nN l w₁ u):=by
 have i:=r.r;have m:=d.size;have b:∀j,j<l.w.heap.size->Â j≠a->u.heap[j]?=w₁.heap[j]?:=λj o g=>d.block j Z g;have f:∀x:â,l.C x->Â x.block≠a:=λx h e=>s.N x h<|Ã (c _ e.symm).1;refine⟨λ_ q=>Ã q,λj q=>q.imp id λz=>by omega,U,U,U,U,U,U,λj q=> ?_,?_,λj q n=>(b j (s.fl j q) λe=>n (c j e.symm).2).trans<|r.I j q,λx q=>(gE<|b _ (s.I x q)<|f x q).trans<|r.N x q,λx q=>(vK<|b _ (s.I x q)<|f x q).trans<|r.Y x q,λx q z=> ?_⟩
 .show j<u.heap.size;rcases q with q|q
  .have:=s.fl j<|Ã q;omega
  .exact q.2
 .show l.w.heap.size<=u.heap.size;omega
 .show(u.cell? x).isSome=Ò;rw[gE (b x.block (s.S x q).2.1 λe=>(s.S x q).1<|Ã (c _ e.symm).1)];exact r.S x q z
def oO{w₁:ß}{sz:Nat}{xs:List Ï}(h:w.ownsRow i e sz v n xs)(a:∀k,v.ownBlock=Â k->w₁.heap[k]?=w.heap[k]?):w₁.ownsRow i e sz v n xs:=by refine⟨h.1,h.2.imp id ?_⟩;rintro⟨g,b,c,rfl,d,f,j⟩;exact⟨g,b,c,U,d,(a g U).trans f,j⟩
def ahn{p:Nat}{u:Ï}(h:w.cell? ⟨p,0,Á⟩=Â u):∀j y,[u][j]?=Â y->w.cell? ⟨p,j,Á⟩=Â y
 |0,_,e=>Ó e▸h
 |_+1,_,e=>by cases e
def aho{s a:List Ï}(h:P.underlying t=Â (.slice e))(k:P.info? e=Â zJ)(B:zJ.zero=Â z)(l:zJ.size=m)(C:a.length=m)(F:(n+1)*zJ.bytes<=140737488355328)(G:n+1<=œ) (o:w.ownsRow 0 e m v n s) (p:∀j y,a[j]?=Â y->w.cell? ((⟨b,0,Á⟩:â).add j)=Â y) (H:∀u∈a,u.oneCell'=Ò) (d:(Builtin.append_ #[t,t] T #[v,Æ (Â ⟨b,0,Á⟩) 1 i]).run P w=.ok x W):x.ownBlock=v.ownBlock\/x.ownBlock=Â w.heap.size:=by
 have q:a.length=1*zJ.size:=by rw[l,C];omega
 have L:n+1<=9223372036854775807:=by simp only[œ]at G;omega
 rcases o.2 with⟨rfl,rfl⟩|⟨g,r,D,rfl,_,I,M,N,J,O⟩
 .have f:=run_append_nil (P:=P) w t T e zJ z h k B ⟨b,0,Á⟩ 1 i a q p Z Z Z;rw[f]at d;cases d;exact Ç U
 .by_cases E:n+1<=r
  .have K:n*zJ.size+a.length<=D.size:=by
    rw[J,l,C,show n*m+m=(n+1)*m by rw[Nat.add_mul];omega];exact Nat.mul_le_mul_right _ E
   have f:=run_append_room (P:=P) w t T e zJ h k g n r D I ⟨b,0,Á⟩ 1 i a q p H E K;rw[f]at d;cases d;exact Ã U
  .have f:=run_append_grow (P:=P) w t T e zJ z h k B ⟨g,0,Á⟩ n r s (by rw[l];exact o.1) (o.cells (g:=g) U) ⟨b,0,Á⟩ 1 i a q p Z Z<|growslice_fits Z F;rw[f]at d;cases d;exact Ç U
theorem Qf{x:Ĥ}{inf:Ž}{c px sz:Nat}{xs us:List Ï}(ho:Q[i]?=Â o)(hw:Ė o (ţ Q a.tmps)=Ò)(hk:f.kind≠Ź)(sn:gl l)(hq:¬l.q) (V:o.op=Ě {callee:=Ŕ .append,args:=#[qQ,x],argTypes:=#[t,t]}) (W:a.eval qQ=v) (X:a.eval x=Æ (Â ⟨px,0,Á⟩) 1 c) (E:P.underlying t=Â (.slice e)) (F:P.info? e=Â inf) (H:inf.zero=Â z) (I:inf.size=sz) (jV:0<sz) (JK:us.length=sz) (ry:z.cells.size=sz) (K:(n+1)*inf.bytes<=140737488355328) (L:n+1<=œ) (kX:l.w.ownsRow 0 e sz v n xs) (C:∀k,v.ownBlock=Â k->l.O k) (XF:l.O px) (hu:∀j u,us[j]?=Â u->l.w.cell? ⟨px,j,Á⟩=Â u) (d:∀u∈us,u.oneCell'=Ò) (hn:∀b B g,fD l l.w b->g.ownsRow 0 e sz B (n+1) (xs++us)->b.grownBy g v.ownBlock->(∀k,B.ownBlock=Â k->(nN l b g).O k)->(B.ownBlock=v.ownBlock\/B.ownBlock=Â b.heap.size)->fe P yQ J (nN l b g) (G (f.at (a.put o.dst B)<|Ñ Q jJ::k) cs)): fe P yQ J l (G (f.at a<|Ñ Q (i::jJ)::k) cs):=by
 refine uR ho hw hk λb r=> ?_;have hM:∀k,l.O k->b.heap[k]?=l.w.heap[k]?:=λk q=>r.I k<|Ã q;have M:=oO kX (w₁:=b) λk q=>hM k<|C k q;have N:∀j w,us[j]?=Â w->b.cell? ((⟨px,0,Á⟩:â).add j)=Â w:=λj w h=>by rw[ğ,č];grind [gE]
 have Y:us.length=1*sz:=Z
 let⟨B,g,iB,hown',p,yv⟩:=run_append_own (P:=P) b 0 t o.type e inf z sz inf.bytes E F H I U ry jV v n xs M ⟨px,0,Á⟩ 1 c us Y N d L K<|ă _;have tK:=aho E F H I JK K L M N d iB;refine uponK_append qQ x t V W X iB ⟨nN l b g,?_,hn b B g r hown' p (λk q=> ?_) tK⟩
 .have he:∀D∈listed P f.fn a o b,wx (nN l b g) D:=λD S=>by
   have h2:=đ S;rw[events_append_op qQ x t V W X]at h2;rcases(events_append_where (P:=P) b 0 t o.type e inf z sz inf.bytes E F H I rfl v n xs M ⟨px,0,Á⟩ 1 c us Y N d L K) D h2 with⟨ad,T,y⟩|⟨m,rfl,ahp⟩
   .refine⟨Ã ⟨ad,T,Ã ?_⟩,by rw[T];simp,by rw[T];simp⟩;rcases y with⟨_,y⟩|y
    .exact Ã<|by rwa[y]
    .exact Ã<|C _ y.symm
   .have tw:m=.noRoom:=ahp;subst tw;exact⟨Ç<|Ã U,fg,fg⟩
  refine⟨p.size,λj q=>q.imp id λz=>z.1,λj q=> ?_,U,U,U,U,λj T d _=>p.block j T λe=>d<|C j e.symm,λy m d _=>gE (p.block _ m λe=>d<|C _ e.symm),λy m d=>vI (p.block _ m λe=>d<|C _ e.symm),p.os,p.output,p.tape,λD S=>(he D S).1,(Jw he _).symm,U,λq=>absurd q hq,U⟩;rcases q with q|q
  .exact È ((lX sn.r r) j q) p.size
  .exact q.2
 .have y:k<g.heap.size:=(hown'.lt k q).2;rcases tK with m|m
  .exact Ã<|C k<|by rwa[<-m]
  .rw[m]at q;obtain rfl:=Ó q;exact Ç ⟨Ú _,y⟩
end
def XG:Array å:=#[⟨Â 25,Ş (ù 48) #[] #[Ù 9,Ù 8],1, "work.go:24",#[],Á⟩,⟨Â 26,Ě {callee:=ĕ<|ĸ 47,args:=#[Ù 12,Ù 25],argTypes:=#[97,1]},0, "work.go:24",#[⟨0,Ü⟩],Á⟩]
def XH:Array å:=#[⟨Â 13,ŧ<|Ũ<|Æ Á 0 0,100, "work.go:25",#[],Á⟩]
def XJ:Array å:=#[⟨Â 27,ę<|Ù 2,3, "work.go:26",#[],Á⟩,⟨Â 28,ę<|Ũ<|Ê Î 0,3, "work.go:26",#[],Á⟩]
def Qg:Array å:=#[⟨Â 29,Λ .lss 3 (Ù 28) (Ù 27) 3,4, "work.go:26",#[],Á⟩]
def XK:Array å:=#[⟨Â 30,ę<|Ù 10,85, "work.go:28",#[],Á⟩,⟨Â 31,Ě {callee:=Ŕ .len,args:=#[Ù 30],argTypes:=#[85]},3, "work.go:28",#[⟨0,Ü⟩],Á⟩,⟨Â 32,.makeChan 101<|Ù 31,101, "work.go:28",#[⟨1,Ü⟩],Á⟩,⟨Â 14,.alloc 101,0, "work.go:28",#[],Á⟩,⟨Á,š 101 (Ù 14)<|Ù 32,0, "work.go:28",#[⟨3,Ü⟩,⟨2,Ü⟩,⟨0,Í⟩,⟨1,Í⟩,⟨2,Í⟩,⟨3,Í⟩],Á⟩]
def XL:Array å:=#[⟨Â 33,ę<|Ù 13,100, "work.go:29",#[],Á⟩,⟨Â 34,ć 101<|Ù 14,101, "work.go:29",#[],Á⟩,⟨Â 35,.buildSlice 100 1 #[(0,Ù 34)],100, "work.go:29",#[⟨1,Ü⟩],Á⟩,⟨Â 36,Ě {callee:=Ŕ .append,args:=#[Ù 33,Ù 35],argTypes:=#[100,100]},100, "work.go:29",#[⟨0,Ü⟩,⟨2,Ü⟩],Á⟩,⟨Â 13,ŧ<|Ù 36,100, "work.go:29",#[⟨3,Ü⟩,⟨3,Ţ⟩,⟨0,Í⟩,⟨1,Í⟩,⟨2,Í⟩,⟨3,Í⟩],Á⟩]
def JL:Array å:=#[⟨Â 37,Ş (ù 50) #[] #[Ù 14,Ù 8],1, "work.go:30",#[],Á⟩,⟨Â 38,Ě {callee:=ĕ<|ĸ 47,args:=#[Ù 12,Ù 37],argTypes:=#[97,1]},0, "work.go:30",#[⟨0,Ü⟩],Á⟩]
def Qh:Array å:=#[⟨Â 39,Λ .add 3 (Ù 28) (Ũ<|Ê Î 1) 3,3, "work.go:26",#[],Á⟩,⟨Â 28,ę<|Ù 39,3, "work.go:26",#[⟨0,Ü⟩],Á⟩]
def JN:Array å:=#[⟨Â 40,ę<|Ù 10,85, "work.go:32",#[],Á⟩,⟨Â 41,ę<|Ù 13,100, "work.go:32",#[],Á⟩,⟨Â 42,Ě {callee:=ĕ<|ĸ 52,args:=#[Ù 40,Ù 41],argTypes:=#[85,100]},0, "work.go:32",#[⟨0,Ü⟩,⟨1,Ü⟩],Á⟩]
def JO:Array å:=#[⟨Â 43,Ě {callee:=ĕ<|ĸ 53,args:=#[Ù 12],argTypes:=#[97]},0, "work.go:33",#[],Á⟩]
def Gb:å:=⟨Â 44,ć 25<|Ù 8,25, "work.go:34",#[],Á⟩
def Gc:å:=⟨Â 45,ę<|Ù 11,86, "work.go:34",#[{on:=5,ground:=õ Ð}],Á⟩
def Gd:å:=⟨Â 46,ĩ<|Ù 45,0, "work.go:34",#[⟨1,Ü⟩,{on:=5,ground:=õ Ð}],Á⟩
def Ge:å:=⟨Â 47,ð 105 (Ù 46) 1,0, "work.go:34",#[⟨2,Ü⟩,{on:=5,ground:=õ Ð}],Á⟩
def Gf:å:=⟨Â 48,ć 65<|Ù 47,65, "work.go:34",#[⟨3,Ü⟩,{on:=5,ground:=õ Ð}],Á⟩
def Gi:å:=⟨Â 6,ŧ<|Ù 44,25, "work.go:34",#[⟨0,Ü⟩,⟨0,Í⟩,{on:=1,ground:=Þ Ð},{on:=2,ground:=Þ Ð},{on:=3,ground:=Þ Ð},{on:=4,ground:=Þ Ð}],Á⟩
def Gj:å:=⟨Â 7,ŧ<|Ù 48,65, "work.go:34",#[⟨4,Ü⟩,⟨5,Ţ⟩,⟨0,Í⟩,⟨1,Í⟩,⟨2,Í⟩,⟨3,Í⟩,⟨4,Í⟩,⟨5,Í⟩],Á⟩
def wD:Array å:=#[Gb,Gc,Gd,Ge,Gf,Gi,Gj]
def JP:Ę:=(ä 14 wD Ò).seq Ρ
def JQ:Ę:=(ä 12 JN Ì).seq<|(ä 13 JO Ì).seq JP
def Df:Ę:=(ä 7 Qg Ì).seq<|(Ť (Ù 29) ť<|Ŧ 0).seq<|(İ 1<|(ä 8 XK Ì).seq<|(ä 9 XL Ì).seq<|ä 10 JL Ì).seq<|ä 11 Qh Ì
def sA:Ę:=(ä 5 XH Ì).seq<|((ä 6 XJ Ì).seq<|İ 0 Df.loop).seq JQ
def AU(t:Array Ï)(a:List é):Ý:=G ((base 37).at ⟨t,[]⟩ [ö Df,ą Df,ô 0,ö JQ]) a
def Dg(t:Array Ï):é:=(base 37).at ⟨t,[]⟩ [Ñ XG [1],ö sA]
def JR(t:Array Ï):é:=(base 37).at ⟨t,[]⟩ [Ñ JL [1],ô 1,ö<|ä 11 Qh Ì,ą Df,ô 0,ö JQ]
def Gk:Array å:=#[⟨Â 6,Ş (ù 63) #[] #[Ù 2,Ù 3],1, "waitgroup.go:238",#[],Á⟩,
 ⟨Á,.go {callee:=ĕ (Ù 6),args:=#[],argTypes:=#[]},0, "waitgroup.go:238",#[⟨0,Ü⟩],Á⟩]
def tG(c d e f:Ï)(a b:Nat):Array Ï:=#[c,d,À<|Â ⟨a,0,Á⟩,À<|Â ⟨b,0,Á⟩,e,f,Ĉ (ù 63) #[] #[À<|Â ⟨a,0,Á⟩,À<|Â ⟨b,0,Á⟩]]
def AV(a b c d:Ï)(e f:Nat)(g:List é):Ý:=G ((base 47).at ⟨tG a b c d e f,[]⟩ [Ñ Gk [1]]) g
def Gl(a b c d:Ï)(e f:Nat)(g:List é):Ý:=G ((base 47).at ⟨tG a b c d e f,[]⟩ [Ñ Gk []]) g
def XM(c e f g:Ï)(a b:Nat)(h:List é)(w:ß):stepG Ä Ò (AV c e f g a b h) w=.spawn (Gl c e f g a b h) (born Ä<|oM 63 #[À<|Â ⟨a,0,Á⟩,À<|Â ⟨b,0,Á⟩] #[]) w #[]:=by
 refine(stepG_spawn (d:=oM 63 #[À<|Â ⟨a,0,Á⟩,À<|Â ⟨b,0,Á⟩] #[]) (w':=w) U U (by k_ne) ?_ U).trans ?_
 .simp[Gk,ĉ,ſ,ě,ĥ,tG,oM]
 .have:listed Ä (base 47).fn ⟨tG c e f g a b,[]⟩ Gk[1] w=#[]:=by
   unfold listed;simp[Gk,ĉ,ſ,ě,ĥ,tG,Ī]
  rw[this];rfl
structure ST(ba all np n j:Nat)(qs dv:Ï)(t:Array Ï):Prop where
 r:t.size=49
 a:t[8]?=Â (À<|Â ⟨ba,0,Á⟩)
 C:t[10]?=Â qs
 I:t[11]?=Â (À<|Â ⟨np,0,Á⟩)
 M:t[12]?=Â (À<|Â ⟨all,0,Á⟩)
 N:t[13]?=Â dv
 S:t[27]?=Â (Ê Î n)
 Y:t[28]?=Â (Ê Î j)
structure Gm(ba all np n:Nat)(qs:Ï)(t:Array Ï):Prop where
 Cr:t.size=49
 t2:t[2]?=Â (Ê Î n)
 t8:t[8]?=Â (À<|Â ⟨ba,0,Á⟩)
 ahq:t[10]?=Â qs
 ahr:t[11]?=Â (À<|Â ⟨np,0,Á⟩)
 Qi:t[12]?=Â (À<|Â ⟨all,0,Á⟩)
def Gn(t:Array Ï)(h:t.size=49):∃a b c d e f g i j k l m n o p q r s u v w x y z B C D E F G H I J K L M N O P Q S T V W X Y mr my pv:Ï,t=#[a,b,c,d,e,f,g,i,j,k,l,m,n,o,p,q,r,s,u,v,w,x,y,z,B,C,D,E,F,G,H,I,J,K,L,M,N,O,P,Q,S,T,V,W,X,Y,mr,my,pv]:=by obtain⟨_,rfl⟩:=C5 t h;exact⟨_,_,_,_,_,_,_,_,_,_,_,_,_,_,_,_,_,_,_,_,_,_,_,_,_,_,_,_,_,_,_,_,_,_,_,_,_,_,_,_,_,_,_,_,_,_,_,_,_,U⟩
section
variable{Ψ:ß->Prop}{J a:Jd}{l:e5}{t:Array Ï}{ba all np:Nat}{qs dv:Ï}
def ahs(d:jW l)(a:Gm ba all np n qs t)(e:∀c,ST ba all np n 0 qs (Æ Á 0 0) c->fe Ä Ò J l (AU c qX)):fe Ä Ò J l (Gl v x z jQ b i<|Dg t::qX):=by
 obtain⟨m,o,f,p,q,r,s,u,g,w,h,j,k,y,B,C,D,E,F,G,H,I,K,L,M,N,O,P,Q,S,T,V,W,X,Y,pn,po,qR,qS,qT,qU,qV,qW,qY,qZ,re,mr,my,pv,rfl⟩:=Gn t a.Cr;obtain rfl:f=Ê Î n:=by simpa using a.t2
 obtain rfl:g=À (Â ⟨ba,0,Á⟩):=by simpa using a.t8
 obtain rfl:h=qs:=by simpa using a.ahq
 obtain rfl:j=À (Â ⟨np,0,Á⟩):=by simpa using a.ahr
 obtain rfl:k=À (Â ⟨all,0,Á⟩):=by simpa using a.Qi
 apply gi (n:=40) d;have hF:=trivial;simp only[Gl,Dg,XG];iterate 2 w_go fA
 u_leave0 Ħ fA hF
 simp only[sA,XH,XJ];iterate 13 w_go fA
 refine Ë λ_ _=> ?_;exact e _ ⟨U,U,U,U,U,U,U,U⟩
theorem aht(d:jW l)(a:ST ba all np n j qs dv t)(q:j<1000)(e:∀c,ST ba all np n (j+1) qs dv c->fe Ä Ò J l (AU c qX)):fe Ä Ò J l (Gl v x z jQ b i<|JR t::qX):=by
 obtain⟨r,s,u,w,y,B,C,D,f,E,g,h,k,m,F,G,H,I,K,L,M,N,O,P,Q,S,T,o,p,V,W,X,Y,p8,p9,pn,po,qR,qS,qT,qU,qV,qW,qY,qZ,re,mr,my,pv,rfl⟩:=Gn t a.r;obtain rfl:f=À (Â ⟨ba,0,Á⟩):=by simpa using a.a
 obtain rfl:g=qs:=by simpa using a.C
 obtain rfl:h=À (Â ⟨np,0,Á⟩):=by simpa using a.I
 obtain rfl:k=À (Â ⟨all,0,Á⟩):=by simpa using a.M
 obtain rfl:m=dv:=by simpa using a.N
 obtain rfl:o=Ê Î n:=by simpa using a.S
 obtain rfl:p=Ê Î j:=by simpa using a.Y
 apply gi (n:=40) d;have hF:=trivial;simp only[Gl,JR,JL];iterate 2 w_go fA
 u_leave0 Ħ fA hF
 simp only[Qh];iterate 7 w_go fA
 refine Ë λ_ _=> ?_;refine e _ ⟨U,U,U,U,U,U,U,?_⟩;simp;grind [AN]
end
section
variable{l l' y:e5}
def fX.fW(h:fX X l l')(s:gl l){p off:Nat}(c:l.w.heap.size<=p):fX X l {l' with w:=l'.w.setCell ⟨p,off,Á⟩ v}:=by
 have b:∀j,j<l.w.heap.size->(l'.w.setCell ⟨p,off,Á⟩ v).heap[j]?=l'.w.heap[j]?:=λj e=>kP (by show j≠p;omega);refine⟨h.O,h.c,h.S,h.Y,h.b,h.K,h.q,h.d,λj q=> ?_,?_,λj q n=>(b j<|s.fl j q).trans<|h.r j q n,λa q=>(gE<|b _<|s.I a q).trans<|h.f a q,λa q=>se.trans<|h.g a q,λa q z=>xS<|h.e a q z⟩
 .show j<(l'.w.setCell ⟨p,off,Á⟩ v).heap.size;rw[jK];exact h.fl j q
 .show l.w.heap.size<=(l'.w.setCell ⟨p,off,Á⟩ v).heap.size;rw[jK];exact h.I
structure gU(l:e5)(b:Nat)(o:Ÿ):Prop where
 fh:l.O b
 I:l.w.heap[b]?=Â o
def gU.r{o:Ÿ}(h:gU l b o)(k:fX X l l')(a:¬X b):gU l' b o:=⟨k.O b h.fh,(k.r b (Ã h.fh) a).trans h.I⟩
def gU.C(h:gU l b (É d e xJ))(a:d[i]?=Â v):l.w.cell? ⟨b,i,Á⟩=Â v:=by simp[Ö,h.I,a]
end
def XO{sz:Nat}{xs:List Ï}(h:w.ownsRow i e sz v n xs)(a:w.heap.size<=b):¬(Â b=v.ownBlock):=λq=>by have:=(h.lt b q.symm).2;omega
structure XP(ba all q:Nat)(AW:Ï)(xs:List Ï)(ch bd bw bf:Nat)(l':e5):Prop where
 S:l'.w.ownsRow 0 101 1 AW xs.length xs
 M:∀k,AW.ownBlock=Â k->l'.O k
 r:gU l' ch (ŕ q #[] Ì 0 0 Ì)
 C:gU l' bd (É #[è<|Â ch] 101)
 N:gU l' bw (É #[À<|Â ⟨all,0,Á⟩] 162)
 I:gU l' bf (É #[Ĉ (ù 50) #[] #[À<|Â ⟨bd,0,Á⟩,À<|Â ⟨ba,0,Á⟩]] 1)
section
variable{g:Jd}{l:e5}{ba all q:Nat}{f:Option â}{xs:List Ï}
def ahu(t:gl l)(E:¬l.q)(hd:l.d=0)(F:ST ba all m n j (Æ f q i) x d)(uO:j<n)(hn:n<1000)(AX:q<1000)(JS:l.K ⟨all,0,Á⟩/\l.K ⟨all,1,Á⟩)(F8:mO all l.w) (kX:l.w.ownsRow 0 101 1 x j xs) (hO:∀k,x.ownBlock=Â k->l.O k) (hJ0:∀l' t' a r y Q B v1,fX (λb=>Â b=x.ownBlock) l l'->ST ba all m n j (Æ f q i) B t'->XP ba all q B (xs++[è<|Â a]) a r y Q l'->l.w.heap.size<=a->a<r->r<y->y<Q->(∀k,B.ownBlock=Â k->k≠a/\k≠r/\k≠y/\k≠Q)->g l' (AV (À<|Â ⟨all,0,Á⟩) v1 (À<|Â ⟨all,0,Á⟩) (ñ #[]) y Q<|JR t'::qX)): fe Ä Ò (Jv Ä Ò all g) l (AU d qX):=by
 obtain⟨y0,y1,y2,y3,y4,y5,y6,y7,y8,y9,uU,wA,uV,qd,ri,pz,tE,tF,rj,rm,rn,qe,qf,qg,pg,p7,pj,nJ,mP,oh,om,ot,qP,p8,p9,pn,po,qR,qS,qT,qU,qV,qW,qY,qZ,re,mr,my,pv,rfl⟩:=Gn d F.r;obtain rfl:y8=À (Â ⟨ba,0,Á⟩):=by simpa using F.a
 obtain rfl:uU=Æ f q i:=by simpa using F.C
 obtain rfl:wA=À (Â ⟨m,0,Á⟩):=by simpa using F.I
 obtain rfl:uV=À (Â ⟨all,0,Á⟩):=by simpa using F.M
 obtain rfl:x=qd:=(show qd=x by simpa using F.N).symm;obtain rfl:nJ=Ê Î n:=by simpa using F.S
 obtain rfl:mP=Ê Î j:=by simpa using F.Y
 have arH:(j:Int)<(n:Int):=Z
 have hF:True:=trivial;apply gi (n:=40) t.r;simp only[AU,Df,Qg,XK];repeat w_go fA
 refine Ë λ_ _=> ?_;have Dh:Ä.info? 155=Â Ą:=ļ;refine qj (V:=λp=>è<|Â p) (ob:=ŕ q #[] Ì 0 0 Ì) U U (by k_ne) t.r E (λw=> ?_) (λw=> ?_) λJ oa=> ?_
 .have C:=run_makeChan (P:=Ä) (w:=w) Ĵ Dh Î q Z (by simp[Ą];omega);go_simp
 .simp[go_sem,(events_makeChan (P:=Ä) (w:=w) Ĵ Dh Î q Z (by simp[Ą];omega) #[])]
 walk_nrm;have tH:fX e9 l (gI l J<|ŕ q #[] Ì 0 0 Ì):=nL t oa;have c1:gU (gI l J<|ŕ q #[] Ì 0 0 Ì) J.heap.size (ŕ q #[] Ì 0 0 Ì):=⟨Ç U,nn⟩;have XQ:l.w.heap.size<=J.heap.size:=oa.r;generalize gI l J (ŕ q #[] Ì 0 0 Ì)=l₁ at tH c1|-;generalize J.heap.size=a at c1 XQ|-;have wE:=tH.N t;have XR:¬l₁.q:=by rwa[tH.q]
 refine qj (V:=λp=>À<|Â ⟨p,0,Á⟩) (ob:=É #[è Á] 101) U U (by k_ne) wE.r XR (λw=>by go_simp) (λw=>by simp[go_sem]) λS ru=> ?_;walk_nrm;have Gp:fX e9 l (gI l₁ S<|É #[è Á] 101):=tH.e8<|nL wE ru;have c2:=c1.r (nL (X:=e9) (ob:=É #[è Á] 101) wE ru) id;have G:gU (gI l₁ S<|É #[è Á] 101) S.heap.size (É #[è Á] 101):=⟨Ç U,nn⟩;have Ir:a<S.heap.size:=È (wE.fl a<|Ã c1.fh) ru.r;generalize gI l₁ S (É #[è Á] 101)=l₂ at Gp c2 G|-;generalize S.heap.size=r at G Ir|-;clear c1 tH XR wE ru l₁;have rv:=Gp.N t;have pA:¬l₂.q:=by rwa[Gp.q]
 refine F9 (p:=r) (off:=0) (v:=è<|Â a) (u:=è Á) U U (by k_ne) rv.r pA G.fh (G.C U) (by simp[î,G.I]) U (λw o s=>by go_simp) (λw o s=>by simp[go_sem,o,s]) ?_;have L:fX e9 l {l₂ with w:=l₂.w.setCell ⟨r,0,Á⟩ (è<|Â a)}:=Gp.fW t Z;have c3:gU {l₂ with w:=l₂.w.setCell ⟨r,0,Á⟩ (è<|Â a)} a (ŕ q #[] Ì 0 0 Ì):=⟨c2.fh,(kP<|by show a≠r;omega).trans c2.I⟩;have T:gU {l₂ with w:=l₂.w.setCell ⟨r,0,Á⟩ (è<|Â a)} r (É #[è<|Â a] 101):=⟨G.fh,by show(l₂.w.setCell ⟨r,0,Á⟩<|è<|Â a).heap[r]?=_;unfold þ;simp[í,G.I]⟩;generalize({l₂ with w:=l₂.w.setCell ⟨r,0,Á⟩ (è<|Â a)}:e5)=j4 at L c3 T|-;clear c2 G Gp rv pA l₂;have M:=L.N t;have wB:¬j4.q:=by rwa[L.q]
 have yz:∀k,x.ownBlock=Â k->j4.O k:=λk e=>L.O k<|hO k e;have JU:j4.w.ownsRow 0 101 1 x j xs:=oO kX λk e=>L.r k (Ã<|hO k e) id;apply gi (n:=10) M.r;simp only[XL,JL];iterate 4 w_go fA
 refine Ë λ_ _=> ?_;apply nK (x:=⟨r,0,Á⟩) U U (by k_ne) M.r wB (Ã<|Ã T.fh) (T.C U) (λw h=>by go_simp) (λw h=>by simp[go_sem,h]);walk_nrm;refine qj (V:=λp=>Æ (Â ⟨p,0,Á⟩) 1 1) (ob:=É #[è<|Â a] 101) U U (by k_ne) M.r wB (λw=>by go_simp) (λw=>by simp[go_sem]) λH AY=> ?_;walk_nrm;have AT:fX e9 l (gI j4 H<|É #[è<|Â a] 101):=L.e8<|nL M AY;have k4:=nL (X:=e9) (ob:=É #[è<|Â a] 101) M AY;have c4:=c3.r k4 id;have d4:=T.r k4 id;have W:gU (gI j4 H<|É #[è<|Â a] 101) H.heap.size (É #[è<|Â a] 101):=⟨Ç U,nn⟩;have XF:r<H.heap.size:=È (M.fl r<|Ã T.fh) AY.r;have wF:∀k,x.ownBlock=Â k->(gI j4 H<|É #[è<|Â a] 101).O k:=λk e=>Ã<|yz k e;have AZ:=oO JU (w₁:=(gI j4 H<|É #[è<|Â a] 101).w) λk e=>k4.r k (Ã<|yz k e) id;generalize gI j4 H (É #[è<|Â a] 101)=l₄ at AT c4 d4 W wF AZ|-;generalize H.heap.size=px at W XF|-;clear c3 T L M wB yz JU k4 AY j4;have yA:=AT.N t;have A0:¬l₄.q:=by rwa[AT.q]
 refine Qf (v:=x) (us:=[è<|Â a]) (px:=px) (c:=1) (n:=j) (xs:=xs) (inf:=Δ) (z:=è Á) U U (by k_ne) yA A0 U U U Tryz.underlying100 Tryz.type101 U U Nat.one_pos U U (by simp[Δ];omega) (by simp only[œ];omega) AZ wF W.fh (ahn<|W.C U) (λ_ C=>List.mem_singleton.1 C▸rfl) λY B N A1 rZ Gq A2 tK=> ?_;walk_nrm;have XS:∀b,l.w.heap.size<=b->¬(Â b=x.ownBlock):=λb hb=>XO kX hb;have k5:fX (λb=>Â b=x.ownBlock) l₄ (nN l₄ Y N):=Qe yA A1 Gq λk e=>⟨wF k e,e.symm⟩;have uY:fX (λb=>Â b=x.ownBlock) l (nN l₄ Y N):=(AT.fH λ_ _ q=>q.elim).e8 k5;have c5:=c4.r k5<|XS a Z;have d5:=d4.r k5<|XS r Z;have hl4:px<Y.heap.size:=È (yA.fl px<|Ã W.fh) A1.r;have JV:∀k,B.ownBlock=Â k->k<N.heap.size/\k≠a/\k≠r:=λk e=>by
  have C:=(rZ.lt k e).2;rcases tK with z|z
  .rw[z]at e;have:=(kX.lt k e).2;exact⟨C,Z,Z⟩
  .rw[z]at e;obtain rfl:=Ó e;exact⟨C,Z,Z⟩
 have wG:(nN l₄ Y N).w.ownsRow 0 101 1 B (j+1) (xs++[è<|Â a]):=rZ;have Qj:(nN l₄ Y N).w.heap.size=N.heap.size:=U;generalize nN l₄ Y N=sw at uY c5 d5 wG A2 Qj|-;rw[<-Qj]at JV;clear k5 Gq rZ tK c4 d4 W AT yA A0 wF AZ A1 l₄ Qj;have rz:=uY.N t;have XT:¬sw.q:=by rwa[uY.q]
 apply gi (n:=20) rz.r;iterate 4 w_go fA
 u_call Ħ fR Μ fA hF
 iterate 2 w_go fA
 refine Ë λ_ _=> ?_;refine qj (V:=λp=>À<|Â ⟨p,0,Á⟩) (ob:=É #[À<|Â ⟨all,0,Á⟩] 162) U U (by k_ne) rz.r XT (λw=>by go_simp) (λw=>by simp[go_sem]) λC JX=> ?_;walk_nrm;have k6:=nL (X:=e9) (ob:=É #[À<|Â ⟨all,0,Á⟩] 162) rz JX;have A3:fX (λb=>Â b=x.ownBlock) l (gI sw C<|É #[À<|Â ⟨all,0,Á⟩] 162):=uY.e8 (k6.fH λ_ _ q=>q.elim);have c6:=c5.r k6 id;have d6:=d5.r k6 id;have g6:gU (gI sw C<|É #[À<|Â ⟨all,0,Á⟩] 162) C.heap.size (É #[À<|Â ⟨all,0,Á⟩] 162):=⟨Ç U,nn⟩;have A4:r<C.heap.size:=È (rz.fl r<|Ã d5.fh) JX.r;have Gr:∀k,B.ownBlock=Â k->k<C.heap.size/\k≠a/\k≠r:=λk e=>⟨È (JV k e).1 JX.r,(JV k e).2⟩;have JY:∀k,B.ownBlock=Â k->(gI sw C<|É #[À<|Â ⟨all,0,Á⟩] 162).O k:=λk e=>Ã<|A2 k e;have Qk:=oO wG (w₁:=(gI sw C<|É #[À<|Â ⟨all,0,Á⟩] 162).w) λk e=>k6.r k (Ã<|A2 k e) id;generalize gI sw C (É #[À<|Â ⟨all,0,Á⟩] 162)=A5 at A3 c6 d6 g6 JY Qk|-;generalize C.heap.size=y at g6 A4 Gr|-;clear k6 c5 d5 uY rz XT A2 wG JV JX sw;have JZ:=A3.N t;have XU:¬A5.q:=by rwa[A3.q]
 refine qj (V:=λp=>À<|Â ⟨p,0,Á⟩) (ob:=É #[Ĉ (ù 50) #[] #[À<|Â ⟨r,0,Á⟩,À<|Â ⟨ba,0,Á⟩]] 1) U U (by k_ne) JZ.r XU (λw=>by go_simp) (λw=>by simp[go_sem]) λI Ql=> ?_;walk_nrm;have k7:=nL (X:=e9) (ob:=É #[Ĉ (ù 50) #[] #[À<|Â ⟨r,0,Á⟩,À<|Â ⟨ba,0,Á⟩]] 1) JZ Ql;have D:fX (λb=>Â b=x.ownBlock) l (gI A5 I<|É #[Ĉ (ù 50) #[] #[À<|Â ⟨r,0,Á⟩,À<|Â ⟨ba,0,Á⟩]] 1):=A3.e8 (k7.fH λ_ _ q=>q.elim);have c7:=c6.r k7 id;have d7:=d6.r k7 id;have g7:=g6.r k7 id;have f7:gU (gI A5 I<|É #[Ĉ (ù 50) #[] #[À<|Â ⟨r,0,Á⟩,À<|Â ⟨ba,0,Á⟩]] 1) I.heap.size (É #[Ĉ (ù 50) #[] #[À<|Â ⟨r,0,Á⟩,À<|Â ⟨ba,0,Á⟩]] 1):=⟨Ç U,nn⟩;have J0:y<I.heap.size:=È (JZ.fl y<|Ã g6.fh) Ql.r;have Qm:∀k,B.ownBlock=Â k->(gI A5 I<|É #[Ĉ (ù 50) #[] #[À<|Â ⟨r,0,Á⟩,À<|Â ⟨ba,0,Á⟩]] 1).O k:=λk e=>Ã<|JY k e;have XV:=oO Qk (w₁:=(gI A5 I<|É #[Ĉ (ù 50) #[] #[À<|Â ⟨r,0,Á⟩,À<|Â ⟨ba,0,Á⟩]] 1).w) λk e=>k7.r k (Ã<|JY k e) id;generalize gI A5 I (É #[Ĉ (ù 50) #[] #[À<|Â ⟨r,0,Á⟩,À<|Â ⟨ba,0,Á⟩]] 1)=A6 at D c7 d7 g7 f7 Qm XV|-;generalize I.heap.size=Q at f7 J0|-;clear k7 c6 d6 g6 A3 JZ XU JY Qk Ql A5;have J3:=D.N t;apply gi (n:=10) J3.r;iterate 3 w_go fA
 refine Ë λ_ _=> ?_;apply nK (x:=⟨y,0,Á⟩) U U (by k_ne) J3.r (by rwa[D.q]) (Ã<|Ã g7.fh) (g7.C U) (λw h=>by go_simp) (λw h=>by simp[go_sem,h]);walk_nrm;apply gi (n:=10) J3.r;u_call qc.f_add (nm_add Lk) addFn fA hF;refine Ë λ_ _=> ?_;refine Xh qc (⟨Ã (by rw[D.K];exact JS.1),Ã (by rw[D.K];exact JS.2),λw J o s h3 h4 h5 h=>h.e8 ⟨o,s,h3,h4,h5⟩⟩) (⟨J3.r,⟨D.e _ JS.1 F8.1,D.e _ JS.2 F8.2⟩,fD.fO _ _⟩) (D.d.trans hd) λahv XW=> ?_;walk_nrm;apply gi (l:={A6 with d:=0,w:=ahv}) (n:=10) XW.1;iterate 3 w_go fA
 refine Ë λ_ _=> ?_;refine .fu λA7 wH=> ?_;have rr:fD A6 A6.w A7:=XW.2.2.e8 ⟨wH.r,wH.I,wH.N,wH.Y,wH.S⟩;have s:=D.G rr;have hA9:fX (λb=>Â b=x.ownBlock) l ({A6 with d:=0,w:=A7}:e5):=⟨s.O,s.c,s.S,s.Y,s.b,s.K,s.q,hd.symm,s.fl,s.I,s.r,s.f,s.g,s.e⟩;have at9:∀{b:Nat} {o:Ÿ},gU A6 b o->gU ({A6 with d:=0,w:=A7}:e5) b o:=λh=>⟨h.fh,(rr.I _<|Ã h.fh).trans h.I⟩;have hlen:(xs++[è<|Â a]).length=j+1:=by have:=kX.1;simp;omega
 refine hJ0 {A6 with d:=0,w:=A7} _ a r y Q B _ hA9 ⟨U,U,U,U,U,U,U,U⟩ ⟨?_,Qm,at9 c7,at9 d7,at9 g7,at9 f7⟩ XQ Ir A4 J0 λk e=>⟨(Gr k e).2.1,(Gr k e).2.2,by have:=(Gr k e).1;omega,by have:=(Gr k e).1;omega⟩;rw[hlen];exact oO XV λk e=>rr.I k<|Ã<|Qm k e
end
def sx(l:e5)(b:Nat):e5:={l with O:=λj=>l.O j/\j≠b,K:=λa=>l.K a\/a=⟨b,0,Á⟩\/a=⟨b,1,Á⟩}
def mJ(l x:e5)(b:Nat):e5:={x with O:=λj=>x.O j\/j=b,K:=l.K}
section
variable{S:Jd}{l:e5}
def fe.Qo(W:∀a,l.K a->a.block≠b){x:e5}(h:fe P yQ S x g):¬x.M b->(∀a,x.C a->a.block≠b)->x.K=(sx l b).K->b<x.w.heap.size->(x.w.cell? ⟨b,0,Á⟩).isSome=Ò->(x.w.cell? ⟨b,1,Á⟩).isSome=Ò->jW x-> fe P yQ (λG H=>∃d,S d H/\G=mJ l d b/\¬d.M b/\(∀a,d.C a->a.block≠b)/\d.K=(sx l b).K/\b<d.w.heap.size/\d.w.heap[b]?=x.w.heap[b]?/\d.q=x.q/\jW d) (mJ l x b) g:=by
 have u:∀{x:e5} {c:ß},x.K=(sx l b).K->(x.w.cell? ⟨b,0,Á⟩).isSome=Ò->(x.w.cell? ⟨b,1,Á⟩).isSome=Ò->fD (mJ l x b) x.w c->fD x x.w c:=λ{x c} f i m r=>
  ⟨r.r,λj p=>r.I j<|p.imp Ã id,r.N,r.Y,λa o q=>by
   rw[f]at o;rcases o with z|z|z
   .exact r.S a z q
   .rw[z,gE<|r.I b<|Ã<|Ç U];exact i
   .rw[z,gE (r.I b (Ã (Ç U)))];exact m⟩
 induction h with
 |@fu x g h=>
  intro s t f v i m I;refine .fu λc r=>⟨{x with w:=c},h c<|u f i m r,U,s,t,f,È v r.r,r.I b<|Ã<|Ç U,U,lX I<|u f i m r⟩
 |@jA x g G' W' E' L' iB h hd _ ih=>
  intro s t f v i m I;refine .mk iB λc r=> ?_;have B:=u f i m r;have D:=hd c B;have E:=È v r.r;have J:=λq=>s<|Ã q;have L:=D.jF b E J λa e q=>t a (Ã q) e;have F:(L' c).w.heap[b]?=x.w.heap[b]?:=by rw[D.b];exact L.trans<|r.I b<|Ã<|Ç U
  refine⟨G' c,W' c,E' c,mJ l (L' c) b,h c B,?_,?_⟩
  .refine⟨D.C,λj q=> ?_,λj q=> ?_,D.I,D.r,D.M,U,λj p y n=>D.jF j p (λq=>y<|Ã q) n,λa o y n=>D.N a o (λq=>y<|Ã q) n,λa o y=>D.Y a o λq=>y<|Ã q,D.f,D.g,D.m,λe N=> ?_,D.h,D.q,λq=> ?_,D.b⟩
   .rcases q with q|q
    .exact(D.S j q).imp Ã id
    .exact Ã<|Ç q
   .rcases q with q|q
    .exact D.fl j q
    .rw[q];exact È E D.C
   .rcases D.c e N with⟨a,y,n⟩|h|h|h|h|⟨a,y,n⟩
    .exact Ã ⟨a,y,n.imp Ã id⟩
    .exact Ç<|Ã h
    .exact Ç<|Ç<|Ã h
    .exact Ç<|Ç<|Ç<|Ã h
    .exact Ç<|Ç<|Ç<|Ç<|Ã h
    .exact Ç<|Ç<|Ç<|Ç<|Ç ⟨a,Ã y,n⟩
   .let⟨Q,T,V⟩:=D.i q;exact⟨Q,T,by funext j;show((L' c).O j\/j=b)=(x.O j\/j=b);rw[V]⟩
  .refine(ih c B (λq=>q.elim (λz=>(D.S b z).elim J λy=>by omega) λz=>s<|Ç<|by rw[<-D.I];exact z) (λa q=>t a<|q.imp (by rw[D.r];exact id)<|by rw[D.M];exact id) (D.k.trans f) (by rw[D.b];exact È E D.C) (by rw[gE F];exact i) (by rw[gE F];exact m) λj p=>by rw[D.b];exact D.fl j p).fH ?_;rintro G H ⟨d,y,e,j,n,o,p,z,N,Q⟩;exact⟨d,y,e,j,n,o,p,z.trans F,N.trans D.q,Q⟩
end
section
variable{L:WgLink}{l:e5}{J:Jd}{c:é}{k:List ŷ}{ty:ŭ}
structure ahw(b:Nat)(cc:Array Ï)(ty:ŭ)(l l':e5):Prop where
 r:fX (λj=>j=b) l l'
 O:l'.O=l.O
 C:l'.w.heap[b]?=Â (É (cc.setIfInBounds 0<|Ê ê 4294967296) ty)
theorem XX(a:l.O b)(w:ß)(d:Nat):mJ l {sx l b with d:=d,w:=w} b={l with d:=d,w:=w}:=by
 have:(λj=>(l.O j/\j≠b)\/j=b)=l.O:=by grind
 unfold mJ sx;simp only[this]
def XY{C:Array Ï}(H:WgLib P L)(s:gl l)(hq:¬l.q)(Y:l.d=0)(x:l.O b)(M:l.w.heap[b]?=Â (É C ty))(N:C[0]?=Â (Ê ê 0))(o:(C[1]?).isSome=Ò) (hT:∀B,ahw b C ty l B->fe P yQ J B (G (c.at (y.put ((Q[i]?).bind (·.dst))<|ñ #[])<|Ñ Q jJ::k) qX)): fe P yQ J l (G ((base L.add).at ⟨#[À<|Â ⟨b,0,Á⟩,Ê Î 1,Å,Å,Å,Å,Å,Å,Å,Å,Å,Å,Å,Å,Å,Å,Å,Å,Å,Å,Å,Å,Å,Å,Å,Å,Å,Å,Å,Å,Å,Å,Å,Å,Å,Å,Å,Å,Å,Å,Å,Å,Å,Å,Å,Å,Å,Å,Å,Å,Å,Å,Å,Å,Å,Å,Å,Å,Å,Å,Å,Å,Å,Å,Å,Å,Å,Å,Å,Å,Å,Å,Å,Å,Å,Å,Å,Å,Å,Å,Å,Å,Å,Å,Å,Å,Å,Å,Å,Å,Å,Å,Å,Å,Å,Å,Å,Å,Å,Å,Å,Å,Å,Å,Å,Å,Å,Å,Å,Å,Å,Å,Å,Å,Å,Å,Å],[]⟩ [ö<|body_add L])<|c.at y (Ñ Q (i::jJ)::k)::qX):=by
 have e0:l.w.cell? ⟨b,0,Á⟩=Â (Ê ê 0):=by simp[Ö,M,N]
 have e1:(l.w.cell? ⟨b,1,Á⟩).isSome=Ò:=by let⟨u,D⟩:=Ô.1 o;simp[Ö,M,D]
 have S:∀y:â,l.K y->y.block≠b:=λy T e=>(s.S y T).1<|Ã<|e▸x;let J1:Jd:=λB g'=>g'=G (c.at (y.put ((Q[i]?).bind (·.dst))<|ñ #[])<|Ñ Q jJ::k) qX/\B={sx l b with d:=0,w:=B.w}/\fD (sx l b) l.w B.w
 have hW:fe P yQ (Jv P yQ b J1) (sx l b) (G ((base L.add).at ⟨#[À<|Â ⟨b,0,Á⟩,Ê Î 1,Å,Å,Å,Å,Å,Å,Å,Å,Å,Å,Å,Å,Å,Å,Å,Å,Å,Å,Å,Å,Å,Å,Å,Å,Å,Å,Å,Å,Å,Å,Å,Å,Å,Å,Å,Å,Å,Å,Å,Å,Å,Å,Å,Å,Å,Å,Å,Å,Å,Å,Å,Å,Å,Å,Å,Å,Å,Å,Å,Å,Å,Å,Å,Å,Å,Å,Å,Å,Å,Å,Å,Å,Å,Å,Å,Å,Å,Å,Å,Å,Å,Å,Å,Å,Å,Å,Å,Å,Å,Å,Å,Å,Å,Å,Å,Å,Å,Å,Å,Å,Å,Å,Å,Å,Å,Å,Å,Å,Å,Å,Å,Å,Å,Å,Å],[]⟩ [ö<|body_add L])<|c.at y (Ñ Q (i::jJ)::k)::qX):=by refine Xh (Ψ:=λw=>fD (sx l b) l.w w) H ⟨Ã<|Ç<|Ã U,Ã<|Ç<|Ç U,λw n o t a g m h=>h.e8 ⟨o,t,a,g,m⟩⟩ ⟨λj f=>s.fl j<|Ã f.1,⟨by rw[show(sx l b).w=l.w from rfl,e0];rfl,e1⟩,fD.fO _ _⟩ Y λn v=> .fu λp r=>⟨U,U,v.2.2.e8 ⟨r.r,r.I,r.N,r.Y,r.S⟩⟩
 have hstart:=hW.Qo S (λq=>q.elim (λz=>z.2 U) λz=>s.c b x z) (λy T e=>s.N y T<|Ã<|e▸x) U (s.fl b<|Ã x) (by rw[show(sx l b).w=l.w from rfl,e0];rfl) e1 λj f=>s.fl j<|Ã f.1;rw[show mJ l (sx l b) b=l from XX x l.w l.d]at hstart;apply hstart.lR;rintro l1 g1 ⟨E,⟨A8,ahx,hA⟩,rfl,XZ,X0,tu,hlt1,mQ,AX,lo1⟩;let⟨g2,X1,V⟩:=hA 0;have sj:ê.wrap (0+fS)=fS:=by rw[show(0:Int)+fS=fS from rfl];exact IU A A
 rw[sj]at V X1;rw[if_pos U]at V;have hqx:¬E.q:=by rwa[AX]
 refine .mk ahx λn r=> ?_;have F:=(r.I b<|Ã<|Ç U).trans<|mQ.trans M;have c0:n.cell? (fG b)=Â (Ê ê 0):=by simp[Ö,fG,F,N]
 have arI:=È hlt1 r.r;have W:(n.setCell (fG b)<|Ê ê fS).heap[b]?=Â (É (C.setIfInBounds 0<|Ê ê 4294967296) ty):=by unfold þ;simp[í,fG,F,fS]
 have rx:fD E E.w (n.setCell (fG b)<|Ê ê fS):=by
  refine⟨by rw[jK];exact r.r,λj f=>((kP λe=>XZ (by have t:j=b:=e;rwa[<-t])).trans<|r.I j<|f.imp Ã id),λa g=>(gE<|kP<|X0 a g).trans<|r.N a g,λa g=>se.trans<|r.Y a g,λa g q=> ?_⟩
  .rw[tu]at g;refine xS ?_;rcases g with z|z|z
   .exact r.S a z q
   .rw[z,gE<|r.I b<|Ã<|Ç U];rwa[z]at q
   .rw[z,gE<|r.I b<|Ã<|Ç U];rwa[z]at q
 refine⟨g2,_,_,mJ l {E with w:=n.setCell (fG b) (Ê ê fS)} b,X1 n c0 (by simp[î,fG,F]),?_,?_⟩
 .refine⟨by rw[jK];exact Ú _,λ_ h=>Ã h,λj h=> ?_,U,U,U,U,λj _ o _=>kP λe=>o<|Ç e,λa _ o _=>gE (kP λe=>o<|Ç e),λ_ _ _=>Ns,U,U,U,λe t=> ?_,?_,U,λq=>absurd q hqx,U⟩
  .rw[jK];rcases h with h|h
   .exact È (lo1 j h) r.r
   .rwa[h]
  .have:e=kg (fG b)\/e=mq (fG b):=by simpa using t
   rcases this with rfl|rfl
   .exact Ã ⟨fG b,U,Ã<|Ç U⟩
   .exact Ã ⟨fG b,U,Ã<|Ç U⟩
  .exact(Ņ (λe t=>by
    have:e=kg (fG b)\/e=mq (fG b):=by simpa using t
    rcases this with rfl|rfl<;>exact⟨by simp[kg,mq],by simp[kg,mq]⟩) _).symm
 have z1:((n.setCell (fG b)<|Ê ê fS).cell? ⟨b,1,Á⟩).isSome=Ò:=by let⟨u,D⟩:=Ô.1 o;exact xS<|by simp[Ö,F,D]
 have ahy:=(V.jM rx).Qo S XZ X0 tu (by show b<(n.setCell (fG b)<|Ê ê fS).heap.size;rwa[jK]) (xS<|by rw[show(⟨b,0,Á⟩:â)=fG b from rfl,c0];rfl) z1 (λj f=>by show j<(n.setCell (fG b)<|Ê ê fS).heap.size;rw[jK];exact È (lo1 j f) r.r);apply ahy.lR;rintro l2 g3 ⟨v,⟨ou,ahz,g4,ahA,hN2⟩,rfl,nM2,nC2,yl,J4,X,pA,lo2⟩;have ahB:¬v.q:=by rwa[pA]
 refine .mk ahz λp m=> ?_;have I:∀a:â,a.block=b->p.cell? a=v.w.cell? a:=λa e=>gE<|m.I a.block<|Ã<|Ç e;have rx2:fD v v.w p:=⟨m.r,λj f=>m.I j<|f.imp Ã id,m.N,m.Y,λa g q=>by
  rw[yl]at g;rcases g with z|z|z
  .exact m.S a z q
  .rwa[I a (by rw[z])]
  .rwa[I a (by rw[z])]⟩
 refine⟨g4,p,_,mJ l {v with w:=p} b,ahA p,?_,?_⟩
 .refine⟨Ú _,λ_ h=>Ã h,λj h=> ?_,U,U,U,U,λ_ _ _ _=>rfl,λ_ _ _ _=>rfl,λ_ _ _=>rfl,U,U,U,λe t=> ?_,?_,U,λq=>absurd q ahB,U⟩
  .rcases h with h|h
   .exact È (lo2 j h) m.r
   .rw[h];exact È J4 m.r
  .have:e=jG (.read<|gP b):=by simpa using t
   rw[this];exact Ç<|Ç<|Ç<|Ç<|Ç ⟨gP b,Ç U,Ã U⟩
  .exact(Ņ (λe t=>by
    have:e=jG (.read<|gP b):=by simpa using t
    rw[this];exact⟨by simp[jG],by simp[jG]⟩) _).symm
 have z:(p.cell? ⟨b,0,Á⟩).isSome=Ò:=by rw[I _ U];have:v.w.heap[b]?=_:=X.trans W;simp[Ö,this,(æ.1 N).1]
 have y1:(p.cell? ⟨b,1,Á⟩).isSome=Ò:=by rw[I _ U];have:v.w.heap[b]?=_:=X.trans W;let⟨u,D⟩:=Ô.1 o;simp[Ö,this,(æ.1 D).1]
 have u:=(hN2.jM rx2).Qo S nM2 nC2 yl (È J4 m.r) z y1 λj f=>È (lo2 j f) m.r;apply u.lR;rintro l3 g5 ⟨x3,⟨rfl,D,t⟩,rfl,nM3,nC3,hk3,ahC,hb3,wB,lo3⟩;rw[D,XX x];have Qp:=hb3.trans<|(m.I b<|Ã<|Ç U).trans<|X.trans W;refine hT _ ⟨⟨λ_ h=>h,λ_ h=>Ã h,U,U,U,U,U,Y.symm,λj f=>È (s.fl j<|Ã f) t.r,t.r,λj f hn=>t.I j (f.imp (λq=>⟨q,hn⟩) id),t.N,t.Y,λa g=>t.S a<|Ã g⟩,U,Qp⟩
end
noncomputable def Qq:Ę:=lY Ĝ [1,1,1]
noncomputable def X2:Ę:=lY Ĝ [1,1,0,1,0,0,1,1,0,0,1,1,1]
noncomputable def Qr:Ę:=lY Ĝ [1,1,0,1,0,0,1,1,0,0,1,1,0,1]
noncomputable def Gs:Ę:=lY Ĝ [1,1,0,1,0,0]
noncomputable def Qs:Ę:=lY Ĝ [1,1,0,1,0,0,1,1,1]
noncomputable def A9 (t:Array Ï) (a:List é):Ý:=G ((base 46).at ⟨t,[]⟩ [ö Gs,ą Gs,ô 0,ö Qq]) a
noncomputable def Gt (t:Array Ï) (a:List é):Ý:=G ((base 46).at ⟨t,[]⟩ [ö Qr,ö X2,ô 1,ö Qs,ą Gs,ô 0,ö Qq]) a
structure PT(iv qv rs:Ï)(lg R i:Nat)(t:Array Ï):Prop where
 r:t.size=48
 N:t[4]?=Â iv
 S:t[5]?=Â qv
 Y:t[6]?=Â (À<|Â ⟨lg,0,Á⟩)
 C:t[13]?=Â rs
 I:t[14]?=Â (Ê Î R)
 M:t[15]?=Â (Ê Î i)
def J5(t:Array Ï)(h:t.size=48):∃a b c d e f g i j k l m n o p q r s u v w x y z B C D E F G H I J K L M N O P Q S T V W X Y mr my:Ï,t=#[a,b,c,d,e,f,g,i,j,k,l,m,n,o,p,q,r,s,u,v,w,x,y,z,B,C,D,E,F,G,H,I,J,K,L,M,N,O,P,Q,S,T,V,W,X,Y,mr,my]:=by obtain⟨_,rfl⟩:=C5 t h;exact⟨_,_,_,_,_,_,_,_,_,_,_,_,_,_,_,_,_,_,_,_,_,_,_,_,_,_,_,_,_,_,_,_,_,_,_,_,_,_,_,_,_,_,_,_,_,_,_,_,U⟩
def ahD(w:ß)(a c:Option â)(b:Int):(Ċ 155 #[(0,À a),(1,Ê Î b),(2,À c)]).run Ä w=.ok (Đ #[À a,Ê Î b,À c,À Á]) w:=run_build w 155 _ _ fR
def ahE(w:ß)(a c:Option â)(b:Int):(Ċ 155 #[(0,À a),(1,Ê Î b),(2,À c)]).events Ä w #[]=#[]:=by unfold Ċ;simp only[Sem.events_bind];simp[go_sem]
section
variable{p:Nat}{v0 v1 v2 v3:Ï}
def ahF(h:w.heap[p]?=Â (É #[v,x,z,jQ] e)):(iL w p v0 v1 v2 v3).heap[p]?=Â (É #[v0,v1,v2,v3] e):=by unfold iL þ;simp[í,h]
def fX.iL{l c:e5}(h:fX X l c)(s:gl l)(r:fD c c.w u)(f:l.w.heap.size<=p):fX X l {c with w:=fv.iL u p v0 v1 v2 v3}:=by
 have b:=h.G r;have e:∀{j:Nat},j<l.w.heap.size->(fv.iL u p v0 v1 v2 v3).heap[j]?=u.heap[j]?:=λ{j} q=>yr Z;refine⟨b.O,b.c,b.S,b.Y,b.b,b.K,b.q,b.d,λj q=> ?_,?_,λj q n=>(e<|s.fl j q).trans<|b.r j q n,λa q=>(gE<|e<|s.I a q).trans<|b.f a q,λa q=>(vK<|e<|s.I a q).trans<|b.g a q,λa q z=> ?_⟩
 .show j<(fv.iL u p v0 v1 v2 v3).heap.size;rw[wz];exact b.fl j q
 .show l.w.heap.size<=(fv.iL u p v0 v1 v2 v3).heap.size;rw[wz];exact b.I
 .show((fv.iL u p v0 v1 v2 v3).cell? a).isSome=Ò;rw[gE<|e (s.S a q).2.1];exact b.e a q z
def gU.rly{l:e5}{o:Ÿ}(h:gU l b o)(r:fD l l.w u):gU {l with w:=u} b o:=⟨h.fh,(r.I b<|Ã h.fh).trans h.I⟩
end
section
variable{J:Jd}{l:e5}{t:Array Ï}{iv qv:Ï}{lg R:Nat}{kd:Int}
def ahG(f:gl l)(o:¬l.q)(k:PT iv qv (Æ (Â ⟨j,0,Á⟩) R n) lg R i t)(X3:i<R)(hR:R<1000)(T:l.M j)(V:l.w.cell? ⟨j,i,Á⟩=Â (À<|Â ⟨b,0,Á⟩))(F:l.M b)(W:l.w.cell? ⟨b,4,Á⟩=Â (Ê Î kd)) (X:∀B u a,fX e9 l B->l.w.heap.size<=a->gU B a (É #[À<|Â ⟨b,0,Á⟩,Ê Î i,À<|Â ⟨lg,0,Á⟩,À Á] 155)->PT iv qv (Æ (Â ⟨j,0,Á⟩) R n) lg R i u->u[9]?=Â (À<|Â ⟨a,0,Á⟩)->u[28]?=Â (ŝ<|decide<|kd≠1)->fe Ä Ò J B (Gt u qX)): fe Ä Ò J l (A9 t qX):=by
 obtain⟨y0,y1,y2,y3,G,H,Y,y7,y8,y9,uU,wA,uV,qd,ri,pz,tE,tF,rj,rm,rn,qe,qf,qg,pg,p7,pj,nJ,mP,oh,om,ot,qP,p8,p9,pn,po,qR,qS,qT,qU,qV,qW,qY,qZ,re,mr,my,rfl⟩:=J5 t k.r;obtain rfl:iv=G:=(show G=iv by simpa using k.N).symm;obtain rfl:qv=H:=(show H=qv by simpa using k.S).symm;obtain rfl:Y=À (Â ⟨lg,0,Á⟩):=by simpa using k.Y
 obtain rfl:qd=Æ (Â ⟨j,0,Á⟩) R n:=by simpa using k.C
 obtain rfl:ri=Ê Î R:=by simpa using k.I
 obtain rfl:pz=Ê Î i:=by simpa using k.M
 have arJ:(i:Int)<(R:Int):=Z
 have hF:True:=trivial;have rp:∀y:â,False->l.r y:=λy ha=>ha.elim;apply gi (n:=40) f.r;simp only[A9];conv in Gs=>whnf
 repeat w_go fA
 refine Ë λ_ _=> ?_;apply nK (x:=⟨j,i,Á⟩) U U (by k_ne) f.r o (Ã T) V (λw h=>by go_simp) (λw h=>by simp[go_sem,h]);walk_nrm;apply gi (n:=40) f.r;repeat w_go fA
 refine Ë λ_ _=> ?_;refine tB (v:=Đ #[À<|Â ⟨b,0,Á⟩,Ê Î i,À<|Â ⟨lg,0,Á⟩,À Á]) U U (by k_ne) f.r o (λc r=> ?_) (λc r e C=> ?_) ?_
 .have S:=ahD c (Â ⟨b,0,Á⟩) (Â ⟨lg,0,Á⟩) i;go_simp
 .simp[go_sem,ahE c (Â ⟨b,0,Á⟩) (Â ⟨lg,0,Á⟩) i]at C
 walk_nrm;refine FZ (ob:=É #[À Á,Ê Î 0,À Á,À Á] 155) U U (by k_ne) f.r o (λw=>by go_simp) (λw=>by simp[go_sem]) λc D=> ?_;walk_nrm;have s:fX e9 l (gI l c<|É #[À Á,Ê Î 0,À Á,À Á] 155):=nL f D;have m:gU (gI l c<|É #[À Á,Ê Î 0,À Á,À Á] 155) c.heap.size (É #[À Á,Ê Î 0,À Á,À Á] 155):=⟨Ç U,nn⟩;have E:l.w.heap.size<=c.heap.size:=D.r;generalize gI l c (É #[À Á,Ê Î 0,À Á,À Á] 155)=l₁ at s m|-;generalize c.heap.size=a at m E|-;have I:=s.N f;have K:¬l₁.q:=by rwa[s.q]
 refine uR U U (by k_ne) λd z=> ?_;have g:=m.rly z;replace g:d.heap[a]?=_:=g.I;have L:d.cell? ⟨a,0,Á⟩=Â (À Á):=by simp[Ö,g]
 have N:d.cell? ⟨a,1,Á⟩=Â (Ê Î 0):=by simp[Ö,g]
 have O:d.cell? ⟨a,2,Á⟩=Â (À Á):=by simp[Ö,g]
 have P:d.cell? ⟨a,3,Á⟩=Â (À Á):=by simp[Ö,g]
 have Q:∀r,d.frozen? ⟨a,r,Á⟩=Ì:=λr=>by simp[î,g]
 go_simp;refine⟨{l₁ with w:=iL d a (À<|Â ⟨b,0,Á⟩) (Ê Î i) (À<|Â ⟨lg,0,Á⟩) (À Á)},JD (p:=a) (lX I.r z) K m.fh wz (λr S=>yr S) ⟨U,U,U⟩ λe C=> ?_,?_⟩
 .have S:=đ C;have e:∀r,pw l₁ ⟨a,r,Á⟩:=λr=>Ã m.fh;simp[go_sem,á _ _ _ _ _ _ (show Ø (À<|Â ⟨b,0,Á⟩)=Ò from rfl),á _ _ _ _ _ _ (show Ø (À<|Â ⟨lg,0,Á⟩)=Ò from rfl),á _ _ _ _ _ _ (show Ø (À Á)=Ò from rfl),L,N,O,P,Q]at S;rcases S with rfl|rfl|rfl|rfl
  .exact(e _).r
  .exact(e _).r
  .exact(e _).r
  .exact(e _).r
 have e:fX e9 l ({l₁ with w:=iL d a (À<|Â ⟨b,0,Á⟩) (Ê Î i) (À<|Â ⟨lg,0,Á⟩) (À Á)}:e5):=s.iL f z E;have S:gU ({l₁ with w:=iL d a (À<|Â ⟨b,0,Á⟩) (Ê Î i) (À<|Â ⟨lg,0,Á⟩) (À Á)}:e5) a (É #[À<|Â ⟨b,0,Á⟩,Ê Î i,À<|Â ⟨lg,0,Á⟩,À Á] 155):=⟨m.fh,ahF g⟩;generalize({l₁ with w:=iL d a (À<|Â ⟨b,0,Á⟩) (Ê Î i) (À<|Â ⟨lg,0,Á⟩) (À Á)}:e5)=l₂ at e S|-;clear m s I K g L N O P Q z d l₁ D c;have C:=e.N f;apply gi (n:=20) C.r;repeat w_go fA
 refine Ë λ_ _=> ?_;apply nK (x:=⟨b,4,Á⟩) U U (by k_ne) C.r (by rwa[e.q]) (Ã<|e.M F) ((gE<|e.r b F id).trans W) (λw h=>by go_simp) (λw h=>by simp[go_sem,h]);walk_nrm;apply gi (n:=20) C.r;iterate 2 w_go fA
 refine Ë λ_ _=> ?_;apply X l₂ _ a e E S ⟨U,U,U,U,U,U,U⟩ U;simp;rfl
end
section
variable{J:Jd}{l:e5}{xs:List Ï}
def ahH(s:gl l)(E:¬l.q)(o:PT v x z b j i d)(X3:i<j)(hR:j<1000)(h9:d[9]?=Â (À<|Â ⟨m,0,Á⟩))(Qt:d[28]?=Â (ŝ Ò))(hn:n<1000) (h:gU l m (É #[À<|Â ⟨k,0,Á⟩,Ê Î i,À<|Â ⟨b,0,Á⟩,À Á] 155)) (kX:l.w.ownsRow 0 155 4 x n xs) (K:∀a,x.ownBlock=Â a->l.O a) (hJ:∀B L t,fX (λf=>Â f=x.ownBlock) l B->B.w.ownsRow 0 155 4 t (n+1) (xs++[À<|Â ⟨k,0,Á⟩,Ê Î i,À<|Â ⟨b,0,Á⟩,À Á])->(∀a,t.ownBlock=Â a->B.O a)->(t.ownBlock=x.ownBlock\/∃a,t.ownBlock=Â a/\l.w.heap.size<=a)->PT v t z b j (i+1) L->fe Ä Ò J B (A9 L qX)): fe Ä Ò J l (Gt d qX):=by
 obtain⟨y0,y1,y2,y3,M,N,y6,y7,y8,y9,uU,wA,uV,P,ri,pz,tE,tF,rj,rm,rn,qe,qf,qg,pg,p7,pj,nJ,mP,oh,om,ot,qP,p8,p9,pn,po,qR,qS,qT,qU,qV,qW,qY,qZ,re,mr,my,rfl⟩:=J5 d o.r;obtain rfl:v=M:=(show M=v by simpa using o.N).symm;obtain rfl:x=N:=(show N=x by simpa using o.S).symm;obtain rfl:y6=À (Â ⟨b,0,Á⟩):=by simpa using o.Y
 obtain rfl:y9=À (Â ⟨m,0,Á⟩):=by simpa using h9
 obtain rfl:z=P:=(show P=z by simpa using o.C).symm;obtain rfl:ri=Ê Î j:=by simpa using o.I
 obtain rfl:pz=Ê Î i:=by simpa using o.M
 obtain rfl:mP=ŝ Ò:=by simpa using Qt
 have hF:True:=trivial;apply gi (n:=40) s.r;simp only[Gt];conv in Qr=>whnf
 conv in Qs=>whnf
 repeat w_go fA
 refine Ë λ_ _=> ?_;refine tB (v:=Đ #[À<|Â ⟨k,0,Á⟩,Ê Î i,À<|Â ⟨b,0,Á⟩,À Á]) U U (by k_ne) s.r E (λp r=> ?_) (λp r e y=> ?_) ?_
 .skip;have C:p.cell? ⟨m,0,Á⟩=Â (À<|Â ⟨k,0,Á⟩):=(gR.r (show gR l ⟨m,0,Á⟩from Ã<|Ã h.fh) r).trans<|h.C U;have D:p.cell? ⟨m,1,Á⟩=Â (Ê Î i):=(gR.r (show gR l ⟨m,1,Á⟩from Ã<|Ã h.fh) r).trans<|h.C U;have F:p.cell? ⟨m,2,Á⟩=Â (À<|Â ⟨b,0,Á⟩):=(gR.r (show gR l ⟨m,2,Á⟩from Ã<|Ã h.fh) r).trans<|h.C U;have G:p.cell? ⟨m,3,Á⟩=Â (À Á):=(gR.r (show gR l ⟨m,3,Á⟩from Ã<|Ã h.fh) r).trans<|h.C U;go_simp
 .have u:∀g,gR l ⟨m,g,Á⟩:=λg=>Ã<|Ã h.fh;have C:p.cell? ⟨m,0,Á⟩=Â (À<|Â ⟨k,0,Á⟩):=(gR.r (show gR l ⟨m,0,Á⟩from Ã<|Ã h.fh) r).trans<|h.C U;have D:p.cell? ⟨m,1,Á⟩=Â (Ê Î i):=(gR.r (show gR l ⟨m,1,Á⟩from Ã<|Ã h.fh) r).trans<|h.C U;have F:p.cell? ⟨m,2,Á⟩=Â (À<|Â ⟨b,0,Á⟩):=(gR.r (show gR l ⟨m,2,Á⟩from Ã<|Ã h.fh) r).trans<|h.C U;have G:p.cell? ⟨m,3,Á⟩=Â (À Á):=(gR.r (show gR l ⟨m,3,Á⟩from Ã<|Ã h.fh) r).trans<|h.C U;simp[go_sem,C,D,F,G]at y;rcases y with rfl|rfl|rfl|rfl
  .exact(u _).C
  .exact(u _).C
  .exact(u _).C
  .exact(u _).C
 walk_nrm;refine qj (V:=λp=>Æ (Â ⟨p,0,Á⟩) 1 1) (ob:=É #[À<|Â ⟨k,0,Á⟩,Ê Î i,À<|Â ⟨b,0,Á⟩,À Á] 155) U U (by k_ne) s.r E (λw=>by go_simp) (λw=>by simp[go_sem]) λr Q=> ?_;walk_nrm;have p:=nL (X:=e9) (ob:=É #[À<|Â ⟨k,0,Á⟩,Ê Î i,À<|Â ⟨b,0,Á⟩,À Á] 155) s Q;have y:gU (gI l r<|É #[À<|Â ⟨k,0,Á⟩,Ê Î i,À<|Â ⟨b,0,Á⟩,À Á] 155) r.heap.size (É #[À<|Â ⟨k,0,Á⟩,Ê Î i,À<|Â ⟨b,0,Á⟩,À Á] 155):=⟨Ç U,nn⟩;have C:∀a,x.ownBlock=Â a->(gI l r<|É #[À<|Â ⟨k,0,Á⟩,Ê Î i,À<|Â ⟨b,0,Á⟩,À Á] 155).O a:=λa e=>Ã<|K a e;have F:=oO kX (w₁:=(gI l r<|É #[À<|Â ⟨k,0,Á⟩,Ê Î i,À<|Â ⟨b,0,Á⟩,À Á] 155).w) λa e=>p.r a (Ã<|K a e) id;generalize gI l r (É #[À<|Â ⟨k,0,Á⟩,Ê Î i,À<|Â ⟨b,0,Á⟩,À Á] 155)=l₄ at p y C F|-;generalize r.heap.size=px at y|-;have G:=p.N s;have S:¬l₄.q:=by rwa[p.q]
 have Dh:Ä.info? 155=Â Ą:=ļ;refine Qf (v:=x) (us:=[À<|Â ⟨k,0,Á⟩,Ê Î i,À<|Â ⟨b,0,Á⟩,À Á]) (px:=px) (c:=1) (n:=n) (sz:=4) (xs:=xs) (inf:=Ą) (z:=Đ #[À Á,Ê Î 0,À Á,À Á]) U U (by k_ne) G S U U U Ľ Dh U U Z U U (by simp[Ą];omega) (by simp only[œ];omega) F C y.fh (λg u D=>y.C<|by simpa using D) (by simp[Ø]) λu g D H T W Y tK=> ?_;walk_nrm;have k5:fX (λf=>Â f=x.ownBlock) l₄ (nN l₄ u D):=Qe G H W λa e=>⟨C a e,e.symm⟩;have I:fX (λf=>Â f=x.ownBlock) l (nN l₄ u D):=(p.fH λ_ _ q=>q.elim).e8 k5;have Qu:g.ownBlock=x.ownBlock\/∃a,g.ownBlock=Â a/\l.w.heap.size<=a:=tK.imp id λq=>⟨_,q,Õ p.I H.r⟩;have wG:(nN l₄ u D).w.ownsRow 0 155 4 g (n+1) (xs++[À<|Â ⟨k,0,Á⟩,Ê Î i,À<|Â ⟨b,0,Á⟩,À Á]):=T;generalize nN l₄ u D=sw at I wG Y|-;clear p k5 W T tK y G S C F H Q;have rz:=I.N s;have hw:Î.wrap ((i:Int)+1)=((i+1:Nat):Int):=by rw[AN Z Z];omega
 apply gi (n:=40) rz.r;repeat w_go fA
 refine Ë λ_ _=> ?_;refine hJ sw _ g I wG Y Qu ⟨U,U,U,U,U,U,?_⟩;simp[hw]
def ahI(G:gl l)(hq:¬l.q)(hd:l.d=0)(I:PT v x z b j i d)(X3:i<j)(hR:j<1000)(h9:d[9]?=Â (À<|Â ⟨m,0,Á⟩))(Qt:d[28]?=Â (ŝ Ì))(hn:n<1000) (h0:gU l m (É #[À<|Â ⟨k,0,Á⟩,Ê Î i,À<|Â ⟨b,0,Á⟩,À Á] 155)) (kX:l.w.ownsRow 0 155 4 v n xs) (hO:∀f,v.ownBlock=Â f->l.O f) (su:v.ownBlock≠Â m) (hJ:∀T t' W s,fX (λg=>Â g=v.ownBlock\/g=m) l T->T.w.ownsRow 0 155 4 W (n+1) (xs++[À<|Â ⟨k,0,Á⟩,Ê Î i,À<|Â ⟨b,0,Á⟩,À<|Â ⟨s,0,Á⟩])->(∀f,W.ownBlock=Â f->T.O f)->(W.ownBlock=v.ownBlock\/∃f,W.ownBlock=Â f/\s<f)->l.w.heap.size<=s->gU T s (É #[Ê ê 4294967296,Ê Ď 0,Æ Á 0 0] 105)->PT W x z s j (i+1) t'->fe Ä Ò J T (A9 t' qX)): fe Ä Ò J l (Gt d qX):=by
 obtain⟨y0,y1,y2,y3,y4,y5,y6,y7,y8,y9,uU,wA,uV,qd,ri,pz,tE,tF,rj,rm,rn,qe,qf,qg,pg,p7,pj,nJ,mP,oh,om,ot,qP,p8,p9,pn,po,qR,qS,qT,qU,qV,qW,qY,qZ,re,mr,my,rfl⟩:=J5 d I.r;obtain rfl:v=y4:=(show y4=v by simpa using I.N).symm;obtain rfl:x=y5:=(show y5=x by simpa using I.S).symm;obtain rfl:y6=À (Â ⟨b,0,Á⟩):=by simpa using I.Y
 obtain rfl:y9=À (Â ⟨m,0,Á⟩):=by simpa using h9
 obtain rfl:z=qd:=(show qd=z by simpa using I.C).symm;obtain rfl:ri=Ê Î j:=by simpa using I.I
 obtain rfl:pz=Ê Î i:=by simpa using I.M
 obtain rfl:mP=ŝ Ì:=by simpa using Qt
 have hF:True:=trivial;apply gi (n:=40) G.r;simp only[Gt];conv in Qr=>whnf
 conv in X2=>whnf
 conv in Qs=>whnf
 repeat w_go fA
 refine Ë λ_ _=> ?_;refine FZ (ob:=É #[Ê ê 0,Ê Ď 0,Æ Á 0 0] 105) U U (by k_ne) G.r hq (λw=>by go_simp) (λw=>by simp[go_sem]) λD oa=> ?_;walk_nrm;have t:fX e9 l (gI l D<|É #[Ê ê 0,Ê Ď 0,Æ Á 0 0] 105):=nL G oa;have F:gU (gI l D<|É #[Ê ê 0,Ê Ď 0,Æ Á 0 0] 105) D.heap.size (É #[Ê ê 0,Ê Ď 0,Æ Á 0 0] 105):=⟨Ç U,nn⟩;have Gu:l.w.heap.size<=D.heap.size:=oa.r;generalize gI l D (É #[Ê ê 0,Ê Ď 0,Æ Á 0 0] 105)=l₁ at t F|-;generalize D.heap.size=s at F Gu|-;clear oa D;have wE:=t.N G;have AX:¬l₁.q:=by rwa[t.q]
 have htl:m<l.w.heap.size:=G.fl m<|Ã h0.fh;have t1:=h0.r t id;apply gi (n:=40) wE.r;iterate 7 w_go fA
 u_call qc.f_add (nm_add Lk) addFn fA hF
 refine Ë λ_ _=> ?_;refine XY qc wE AX (by rwa[t.d]) F.fh F.I U U λy hC=> ?_;walk_nrm;have E:fX (λg=>g=s) l₁ y:=hC.r;have J6:fX e9 l y:=⟨λf q=>E.O f<|t.O f q,λf q=>(E.c f q).elim (t.c f) λh=>Ç<|Õ t.I h,E.S.trans t.S,E.Y.trans t.Y,E.b.trans t.b,E.K.trans t.K,E.q.trans t.q,E.d.trans t.d,E.fl,Õ t.I E.I,λo Y nx=>(E.r o (t.M Y) λe=>by have:=G.fl o Y;omega).trans<|t.r o Y nx,λa H=>(E.f a<|by rwa[t.C]).trans<|t.f a H,λa H=>(E.g a<|by rwa[t.C]).trans<|t.g a H,λa H h=>E.e a (by rwa[t.K])<|t.e a H h⟩;have L:=t1.r E Z;have N:gU y s (É #[Ê ê 4294967296,Ê Ď 0,Æ Á 0 0] 105):=⟨E.O s F.fh,hC.C⟩;have rv:=J6.N G;have pA:¬y.q:=by rwa[J6.q]
 have hgl:s<y.w.heap.size:=rv.fl s<|Ã N.fh;clear hC E t1 F t wE AX l₁;apply gi (n:=40) rv.r;iterate 5 w_go fA
 refine Ë λ_ _=> ?_;refine F9 (p:=m) (off:=3) (v:=À<|Â ⟨s,0,Á⟩) (u:=À Á) U U (by k_ne) rv.r pA L.fh (L.C U) (by simp[î,L.I]) U (λw r S=>by go_simp) (λw r S=>by simp[go_sem,á _ _ _ _ _ _ (show Ø (À<|Â ⟨s,0,Á⟩)=Ò from rfl),r,S]) ?_;have P:fX (λg=>g=m) l {y with w:=y.w.setCell ⟨m,3,Á⟩ (À<|Â ⟨s,0,Á⟩)}:=(J6.fH λ_ _ q=>q.elim).e8 (JJ (p:=m) rv (fD.fO _ _) L.fh U jK λo Y=>kP Y);have B:gU {y with w:=y.w.setCell ⟨m,3,Á⟩ (À<|Â ⟨s,0,Á⟩)} m (É #[À<|Â ⟨k,0,Á⟩,Ê Î i,À<|Â ⟨b,0,Á⟩,À<|Â ⟨s,0,Á⟩] 155):=⟨L.fh,by show(y.w.setCell ⟨m,3,Á⟩<|À<|Â ⟨s,0,Á⟩).heap[m]?=_;unfold þ;simp[í,L.I]⟩;have g3:gU {y with w:=y.w.setCell ⟨m,3,Á⟩ (À<|Â ⟨s,0,Á⟩)} s (É #[Ê ê 4294967296,Ê Ď 0,Æ Á 0 0] 105):=⟨N.fh,(kP<|by show s≠m;omega).trans N.I⟩;have ahJ:s<({y with w:=y.w.setCell ⟨m,3,Á⟩ (À<|Â ⟨s,0,Á⟩)}:e5).w.heap.size:=by show s<(y.w.setCell ⟨m,3,Á⟩<|À<|Â ⟨s,0,Á⟩).heap.size;rwa[jK]
 generalize({y with w:=y.w.setCell ⟨m,3,Á⟩ (À<|Â ⟨s,0,Á⟩)}:e5)=j4 at P B g3 ahJ|-;clear L N J6 rv pA hgl y;have Q:=P.N G;have wB:¬j4.q:=by rwa[P.q]
 have yz:∀f,v.ownBlock=Â f->j4.O f:=λf e=>P.O f<|hO f e;have JU:j4.w.ownsRow 0 155 4 v n xs:=oO kX λf e=>P.r f (Ã<|hO f e) λh=>su<|h▸e;apply gi (n:=40) Q.r;iterate 3 w_go fA
 refine Ë λ_ _=> ?_;refine tB (v:=Đ #[À<|Â ⟨k,0,Á⟩,Ê Î i,À<|Â ⟨b,0,Á⟩,À<|Â ⟨s,0,Á⟩]) U U (by k_ne) Q.r wB (λD r=> ?_) (λD r e he=> ?_) ?_
 .skip;have g0:D.cell? ⟨m,0,Á⟩=Â (À<|Â ⟨k,0,Á⟩):=(gR.r (show gR j4 ⟨m,0,Á⟩from Ã<|Ã B.fh) r).trans<|B.C U;have F:D.cell? ⟨m,1,Á⟩=Â (Ê Î i):=(gR.r (show gR j4 ⟨m,1,Á⟩from Ã<|Ã B.fh) r).trans<|B.C U;have N:D.cell? ⟨m,2,Á⟩=Â (À<|Â ⟨b,0,Á⟩):=(gR.r (show gR j4 ⟨m,2,Á⟩from Ã<|Ã B.fh) r).trans<|B.C U;have g3:D.cell? ⟨m,3,Á⟩=Â (À<|Â ⟨s,0,Á⟩):=(gR.r (show gR j4 ⟨m,3,Á⟩from Ã<|Ã B.fh) r).trans<|B.C U;go_simp
 .have S:∀o,gR j4 ⟨m,o,Á⟩:=λo=>Ã<|Ã B.fh;have g0:D.cell? ⟨m,0,Á⟩=Â (À<|Â ⟨k,0,Á⟩):=(gR.r (show gR j4 ⟨m,0,Á⟩from Ã<|Ã B.fh) r).trans<|B.C U;have F:D.cell? ⟨m,1,Á⟩=Â (Ê Î i):=(gR.r (show gR j4 ⟨m,1,Á⟩from Ã<|Ã B.fh) r).trans<|B.C U;have N:D.cell? ⟨m,2,Á⟩=Â (À<|Â ⟨b,0,Á⟩):=(gR.r (show gR j4 ⟨m,2,Á⟩from Ã<|Ã B.fh) r).trans<|B.C U;have g3:D.cell? ⟨m,3,Á⟩=Â (À<|Â ⟨s,0,Á⟩):=(gR.r (show gR j4 ⟨m,3,Á⟩from Ã<|Ã B.fh) r).trans<|B.C U;simp[go_sem,g0,F,N,g3]at he;rcases he with rfl|rfl|rfl|rfl
  .exact(S _).C
  .exact(S _).C
  .exact(S _).C
  .exact(S _).C
 walk_nrm;refine qj (V:=λp=>Æ (Â ⟨p,0,Á⟩) 1 1) (ob:=É #[À<|Â ⟨k,0,Á⟩,Ê Î i,À<|Â ⟨b,0,Á⟩,À<|Â ⟨s,0,Á⟩] 155) U U (by k_ne) Q.r wB (λw=>by go_simp) (λw=>by simp[go_sem]) λS AY=> ?_;walk_nrm;have r:=nL (X:=e9) (ob:=É #[À<|Â ⟨k,0,Á⟩,Ê Î i,À<|Â ⟨b,0,Á⟩,À<|Â ⟨s,0,Á⟩] 155) Q AY;have p4:gU (gI j4 S<|É #[À<|Â ⟨k,0,Á⟩,Ê Î i,À<|Â ⟨b,0,Á⟩,À<|Â ⟨s,0,Á⟩] 155) S.heap.size (É #[À<|Â ⟨k,0,Á⟩,Ê Î i,À<|Â ⟨b,0,Á⟩,À<|Â ⟨s,0,Á⟩] 155):=⟨Ç U,nn⟩;have wF:∀f,v.ownBlock=Â f->(gI j4 S<|É #[À<|Â ⟨k,0,Á⟩,Ê Î i,À<|Â ⟨b,0,Á⟩,À<|Â ⟨s,0,Á⟩] 155).O f:=λf e=>Ã<|yz f e;have AZ:=oO JU (w₁:=(gI j4 S<|É #[À<|Â ⟨k,0,Á⟩,Ê Î i,À<|Â ⟨b,0,Á⟩,À<|Â ⟨s,0,Á⟩] 155).w) λf e=>r.r f (Ã<|yz f e) id;generalize gI j4 S (É #[À<|Â ⟨k,0,Á⟩,Ê Î i,À<|Â ⟨b,0,Á⟩,À<|Â ⟨s,0,Á⟩] 155)=l₄ at r p4 wF AZ|-;generalize S.heap.size=px at p4|-;have yA:=r.N Q;have A0:¬l₄.q:=by rwa[r.q]
 have Dh:Ä.info? 155=Â Ą:=ļ;refine Qf (v:=v) (us:=[À<|Â ⟨k,0,Á⟩,Ê Î i,À<|Â ⟨b,0,Á⟩,À<|Â ⟨s,0,Á⟩]) (px:=px) (c:=1) (n:=n) (sz:=4) (xs:=xs) (inf:=Ą) (z:=Đ #[À Á,Ê Î 0,À Á,À Á]) U U (by k_ne) yA A0 U U U Ľ Dh U U Z U U (by simp[Ą];omega) (by simp only[œ];omega) AZ wF p4.fh (λo u hu=>p4.C<|by simpa using hu) (by simp[Ø]) λDi AW J7 A1 rZ Gq A2 tK=> ?_;walk_nrm;have k5:fX (λg=>Â g=v.ownBlock) l₄ (nN l₄ Di J7):=Qe yA A1 Gq λf e=>⟨wF f e,e.symm⟩;have uY:fX (λg=>Â g=v.ownBlock) j4 (nN l₄ Di J7):=(r.fH λ_ _ q=>q.elim).e8 k5;have Qu:AW.ownBlock=v.ownBlock\/∃f,AW.ownBlock=Â f/\j4.w.heap.size<=f:=tK.imp id λq=>⟨_,q,Õ r.I A1.r⟩;have wG:(nN l₄ Di J7).w.ownsRow 0 155 4 AW (n+1) (xs++[À<|Â ⟨k,0,Á⟩,Ê Î i,À<|Â ⟨b,0,Á⟩,À<|Â ⟨s,0,Á⟩]):=rZ;generalize nN l₄ Di J7=sw at uY wG A2|-;clear r k5 Gq rZ tK p4 yA A0 wF AZ A1 AY;have rz:=uY.N Q;have hw:Î.wrap ((i:Int)+1)=((i+1:Nat):Int):=by rw[AN Z Z];omega
 have g5:=g3.r uY<|XO kX Gu;have A3:fX (λg=>Â g=v.ownBlock\/g=m) l sw:=(P.fH λ_ _ q=>Ç q).e8 (uY.fH λ_ _ q=>Ã q);apply gi (n:=40) rz.r;repeat w_go fA
 refine Ë λ_ _=> ?_;refine hJ sw _ AW s A3 wG A2 (Qu.imp id λ⟨f,q1,q2⟩=>⟨f,q1,Z⟩) Gu g5 ⟨U,U,U,U,U,U,?_⟩;simp[hw]
end
def ig(kd:Nat->Int)(i:Nat):List Nat:=(ã i).filter λj=>decide<|kd j=1
def jj(kd:Nat->Int)(i:Nat):List Nat:=(ã i).filter λj=>decide<|kd j≠1
def fK(kd:Nat->Int)(i:Nat):Nat:=(ig kd i).length
def tI(a g:Nat->Nat)(p:Nat×Nat):List Ï:=[À<|Â ⟨a p.1,0,Á⟩,Ê Î p.1,À<|Â ⟨g p.2,0,Á⟩,À<|Â ⟨g<|p.2+1,0,Á⟩]
def tQ(kd:Nat->Int)(a g:Nat->Nat)(p:Nat):List Ï:=[À<|Â ⟨a p,0,Á⟩,Ê Î p,À<|Â ⟨g<|fK kd p,0,Á⟩,À Á]
def jC(kd:Nat->Int)(rq g:Nat->Nat)(i:Nat):List Ï:=(ig kd i).zipIdx.flatMap<|tI rq g
def lZ(kd:Nat->Int)(a g:Nat->Nat)(i:Nat):List Ï:=(jj kd i).flatMap<|tQ kd a g
section
variable{kd:Nat->Int}{rq g:Nat->Nat}
def Ba(h:kd i=1):ig kd (i+1)=ig kd i++[i]:=by simp[ig,ÿ,ā,h]
def Bb(h:kd i≠1):ig kd (i+1)=ig kd i:=by simp[ig,ÿ,ā,h]
def Qv(h:kd i=1):jj kd (i+1)=jj kd i:=by simp[jj,ÿ,ā,h]
theorem Qw(h:kd i≠1):jj kd (i+1)=jj kd i++[i]:=by simp[jj,ÿ,ā,h]
def Qx:∀i,fK kd i<=i:=λi=>by unfold fK ig;exact Õ (ģ _ _) fg
def ahK:∀i,(jj kd i).length<=i:=λi=>by unfold jj;exact Õ (ģ _ _) fg
def X4(h:j<=i):fK kd j<=fK kd i:=by
 induction i with
 |zero=>
  have:j=0:=Z
  rw[this];exact Ú _
 |succ i c=>
  by_cases e:j=i+1
  .rw[e];exact Ú _
  .have a:=c Z;by_cases b:kd i=1
   .unfold fK at a|-;rw[Ba b];simp;omega
   .unfold fK at a|-;rwa[Bb b]
def ahL(h:kd i=1):jC kd rq g (i+1)=jC kd rq g i++tI rq g (i,fK kd i):=by unfold jC;rw[Ba h,List.zipIdx_append,List.flatMap_append];simp[fK]
def ahM(h:kd i≠1):jC kd rq g (i+1)=jC kd rq g i:=by unfold jC;rw[Bb h]
def ahN(h:kd i=1):lZ kd rq g (i+1)=lZ kd rq g i:=by unfold lZ;rw[Qv h]
theorem ahO(h:kd i≠1):lZ kd rq g (i+1)=lZ kd rq g i++tQ kd rq g i:=by unfold lZ;grind [Qw]
def Qy{α:Type}{f a:α->List Ï}:∀(l:List α),(∀x∈l,f x=a x)->l.flatMap f=l.flatMap a
 |[],_=>rfl
 |x::l,h=>by rw[Ć,Ć,h x List.mem_cons_self,Qy l λy b=>h y<|List.mem_cons_of_mem _ b]
def ahP(h:∀k,k<=fK kd i->D k=g k):jC kd rq D i=jC kd rq g i:=by
 unfold jC;refine Qy _ λx a=> ?_;let⟨p,k⟩:=x;have b:=(List.mem_zipIdx a).2.1;have c:k<fK kd i:=by unfold fK;omega
 simp[tI,h k Z,h (k+1) Z]
def ahQ(h:∀k,k<=fK kd i->D k=g k):lZ kd rq D i=lZ kd rq g i:=by
 unfold lZ;refine Qy _ λp a=> ?_;have b:p<i:=by have:=(Ā.1 a).1;simpa using this
 simp[tQ,h (fK kd p)<|X4 Z]
def Qz{α:Type}{f:α->List Ï}(a:∀x,(f x).length=4)(b:i<4):∀(l:List α) (k:Nat) (x:α),l[k]?=Â x->(l.flatMap f)[k*4+i]?=(f x)[i]?
 |[],k,x,h=>by simp at h
 |y::l,0,x,h=>by
  obtain rfl:y=x:=by simpa using h
  rw[Ć,List.getElem?_append_left (by rw[a];omega)];simp
 |y::l,k+1,x,h=>by rw[Ć,List.getElem?_append_right (by rw[a];omega),a,show(k+1)*4+i-4=k*4+i by omega];exact Qz a b l k x<|by simpa using h
end
section
variable{Y:Nat->Prop}{l m o:e5}
def fX.wI(h:fX X l m)(k:fX Y m o)(e:∀j,l.M j->¬Y j):fX X l o:= ⟨λj q=>k.O j<|h.O j q,λj q=>(k.c j q).elim (h.c j) λz=>Ç<|Õ h.I z,k.S.trans h.S,k.Y.trans h.Y,k.b.trans h.b,k.K.trans h.K,k.q.trans h.q,k.d.trans h.d,k.fl,Õ h.I k.I,λj c f=>(k.r j (h.M c)<|e j c).trans<|h.r j c f,λa b=>(k.f a<|by rwa[h.C]).trans<|h.f a b,λa b=>(k.g a<|by rwa[h.C]).trans<|h.g a b,λa b z=>k.e a (by rwa[h.K])<|h.e a b z⟩
end
abbrev QA:Ÿ:=É #[Ê ê 4294967296,Ê Ď 0,Æ Á 0 0] 105
structure yB(kd:Nat->Int)(rq g:Nat->Nat)(S i:Nat)(iv qv:Ï)(l0 l:e5):Prop where
 r:fX e9 l0 l
 jC:l.w.ownsRow 0 155 4 iv (fK kd i) (jC kd rq g i)
 lZ:l.w.ownsRow 0 155 4 qv (jj kd i).length (lZ kd rq g i)
 C:∀k,iv.ownBlock=Â k->l.O k/\l0.w.heap.size<=k
 I:∀k,qv.ownBlock=Â k->l.O k/\l0.w.heap.size<=k
 M:∀k,iv.ownBlock=Â k->qv.ownBlock≠Â k
 N:∀k,1<=k->k<=fK kd i->gU l (g k) QA/\l0.w.heap.size<=g k/\iv.ownBlock≠Â (g k)/\qv.ownBlock≠Â (g k)
 g0:g 0<l0.w.heap.size
 S:g 0=S
 Y:∀k k',k<k'->k'<=fK kd i->g k<g k'
section
variable{kd:Nat->Int}{rq g:Nat->Nat}{iv qv:Ï}{l0 l m o:e5}
theorem yB.ahR(h:yB kd rq g n i iv qv l0 l)(C:gl l0)(s:gl l)(t:kd i≠1)(a:fX e9 l m)(d:fX (λb=>Â b=qv.ownBlock) m o)(G:o.w.ownsRow 0 155 4 v ((jj kd i).length+1) (fv.lZ kd rq g i++tQ kd rq g i))(D:∀k,v.ownBlock=Â k->o.O k)(u:v.ownBlock=qv.ownBlock\/∃k,v.ownBlock=Â k/\m.w.heap.size<=k):yB kd rq g n (i+1) iv v l0 o:=by
 have p:fK kd (i+1)=fK kd i:=by unfold fK;rw[Bb t]
 have x:∀{j},l.O j->qv.ownBlock≠Â j->v.ownBlock≠Â j:=λ{j} c hn e=>by
  rcases u with z|⟨k,q,B⟩
  .grind
  .rw[q]at e;have:=Ó e;have:=(λc=>È (s.fl _<|Ã c) a.I) c;omega
 refine⟨(h.r.e8 a).wI d λj c e=> ?_,?_,?_,λk e=>⟨d.O k<|a.O k (h.C k e).1,(h.C k e).2⟩,λk e=>⟨D k e,?_⟩,λk e=>x (h.C k e).1<|h.M k e,λk r f=> ?_,h.g0,h.S,λk y r f=>h.Y k y r<|by rwa[<-p]⟩
 .have:=(h.I j e.symm).2;have:=C.fl j c;omega
 .rw[p,ahM t];refine oO h.jC λk e=>(d.r k (Ã<|a.O k (h.C k e).1) λz=>h.M k e z.symm).trans<|a.r k (Ã (h.C k e).1) id
 .grind [Qw,ahO]
 .rcases u with z|⟨y,q,B⟩
  .rw[z]at e;exact(h.I k e).2
  .rw[q]at e;have:=Ó e;have:=h.r.I;have:=a.I;omega
 .rw[p]at f;let⟨q,E,F,B⟩:=h.N k r f;exact⟨(q.r a id).r d λz=>B z.symm,E,F,x q.fh B⟩
theorem yB.ky{tb:Nat}(h:yB kd rq g n i iv qv l0 l)(F:gl l0)(s:gl l)(a:kd i=1)(c:fX e9 l m)(P:l.w.heap.size<=tb)(p:fX (λb=>Â b=iv.ownBlock\/b=tb) m o)(G:o.w.ownsRow 0 155 4 v (fK kd i+1) (fv.jC kd rq g i++[À<|Â ⟨rq i,0,Á⟩,Ê Î i,À<|Â ⟨g<|fK kd i,0,Á⟩,À<|Â ⟨J,0,Á⟩]))(H:∀k,v.ownBlock=Â k->o.O k)(u:v.ownBlock=iv.ownBlock\/∃k,v.ownBlock=Â k/\J<k)(Q:m.w.heap.size<=J)(I:gU o J QA):yB kd rq (λk=>if k<=fK kd i then g k else J) n (i+1) v qv l0 o:=by
 have x:fK kd (i+1)=fK kd i+1:=by unfold fK;rw[Ba a];simp
 have S:=h.r.I;have T:=c.I;have d:∀{j},l.O j->j<l.w.heap.size:=λq=>s.fl _<|Ã q;have B:∀{j},l.O j->iv.ownBlock≠Â j->v.ownBlock≠Â j:=λ{j} q hn e=>by grind
 have C:∀k,k<=fK kd i->(if k<=fK kd i then g k else J)=g k:=λk a=>if_pos a;refine⟨(h.r.e8 c).wI p λj q e=> ?_,?_,?_,λk e=>⟨H k e,?_⟩,λk e=>⟨p.O k<|c.O k (h.I k e).1,(h.I k e).2⟩,λk e z=>B (h.I k z).1 (λy=>h.M k y z) e,λk t D=> ?_,?_,?_,λk r t D=> ?_⟩
 .have:=F.fl j q;rcases e with e|e
  .have:=(h.C j e.symm).2;omega
  .omega
 .rw[x,ahL a,ahP C];simpa[tI,show¬(fK kd i+1<=fK kd i) by omega]using G
 .rw[Qv a,ahN a,ahQ C];refine oO h.lZ λk e=> ?_;refine(p.r k (Ã<|c.O k (h.I k e).1) ?_).trans<|c.r k (Ã (h.I k e).1) id;rintro(z|z)
  .exact h.M k z.symm e
  .have:=d (h.I k e).1;omega
 .rcases u with z|⟨r,K,L⟩
  .rw[z]at e;exact(h.C k e).2
  .grind
 .by_cases y:k<=fK kd i
  .simp only[if_pos y];let⟨f,M,E,N⟩:=h.N k t y;refine⟨(f.r c id).r p ?_,M,B f.fh E,N⟩;rintro(z|z)
   .exact E z.symm
   .have:=d f.fh;omega
  .simp only[if_neg y];refine⟨I,Z,λe=> ?_,λe=> ?_⟩
   .rcases u with z|⟨r,K,L⟩
    .rw[z]at e;have:=d (h.C J e).1;omega
    .grind
   .have:=d (h.I J e).1;omega
 .simp only[ă,if_true];exact h.g0
 .simp only[ă,if_true];exact h.S
 .rw[x]at D;by_cases y:r<=fK kd i
  .simp only[if_pos y,if_pos (show k<=fK kd i by omega)];exact h.Y k r t y
  .simp only[if_neg y,if_pos (show k<=fK kd i by omega)];by_cases E:k=0
   .subst E;have:=h.g0;omega
   .let⟨f,_⟩:=h.N k Z Z;have:=d f.fh;omega
end
section
variable{J:Jd}{ra:Option â}{rb cr R:Nat}{cs:List é}{kd:Nat->Int}{rq:Nat->Nat}{l0:e5}
def QB(j:gl l0)(u:¬l0.q)(v:l0.d=0)(m:R<1000)(p:0<R->ra=Â ⟨rb,0,Á⟩)(x:0<R->l0.M rb)(y:∀i,i<R->l0.w.cell? ⟨rb,i,Á⟩=Â (À<|Â ⟨rq i,0,Á⟩))(r:∀i,i<R->l0.M (rq i))(z:∀i,i<R->l0.w.cell? ⟨rq i,4,Á⟩=Â (Ê Î<|kd i)) (B:∀g N P a b,yB kd rq g n R a b l0 N->PT a b (Æ ra R cr) (g<|fK kd R) R R P->fe Ä Ò J N (A9 P cs)): ∀d i,R=i+d->∀g l t a b,yB kd rq g n i a b l0 l->PT a b (Æ ra R cr) (g<|fK kd i) R i t->fe Ä Ò J l (A9 t cs)
 |0,i,hi,g,l,t,a,b,hP,hT=>by obtain rfl:R=i:=hi;exact B g l t a b hP hT
 |d+1,i,hi,g,l,t,a,b,hP,hT=>by
  have f:i<R:=Z
  have o:=hP.r.N j;have Q:¬l.q:=by rwa[hP.r.q]
  have S:=x Z;refine ahG o Q (by rwa[<-p Z]) f m (hP.r.M S) ((gE<|hP.r.r rb S id).trans<|y i f) (hP.r.M<|r i f) ((gE<|hP.r.r _ (r i f) id).trans<|z i f) λl1 t1 T c su V C W s=> ?_;rw[<-p Z]at C;have X:=c.N o;have Y:¬l1.q:=by rwa[c.q]
  have hc:=Qx (kd:=kd) i;have hcq:=ahK (kd:=kd) i;by_cases h:kd i=1
  .rw[decide_eq_false (by simpa using h)]at s;refine ahI X Y (by rwa[c.d,hP.r.d]) C f m W s Z V (oO hP.jC λk e=>c.r k (Ã (hP.C k e).1) id) (λk e=>c.O k (hP.C k e).1) (λe=>by have:=o.fl T<|Ã (hP.C T e).1;omega) λD E iv' gt F G H I Gu hg K=> ?_;apply QB j u v m p x y r z B d (i+1) Z _ D E iv' b (hP.ky j o h c su F G H I Gu hg);have L:fK kd (i+1)=fK kd i+1:=by unfold fK;rw[Ba h];simp
   rw[L];simp only[show¬(fK kd i+1<=fK kd i) by omega,if_false];exact K
  .rw[decide_eq_true (by simpa using h)]at s;refine ahH X Y C f m W s Z V (oO hP.lZ λk e=>c.r k (Ã (hP.I k e).1) id) (λk e=>c.O k (hP.I k e).1) λD E e F G H I K=> ?_;apply QB j u v m p x y r z B d (i+1) Z _ D E a e (hP.ahR j o h c F G H I);have L:fK kd (i+1)=fK kd i:=by unfold fK;rw[Bb h]
   rwa[L]
end
noncomputable def X5:Ę:=lY Ĝ []
noncomputable def X6 (a b:Ï) (c:List é):Ý:=G ((base 46).at ⟨#[a,b,Å,Å,Å,Å,Å,Å,Å,Å,Å,Å,Å,Å,Å,Å,Å,Å,Å,Å,Å,Å,Å,Å,Å,Å,Å,Å,Å,Å,Å,Å,Å,Å,Å,Å,Å,Å,Å,Å,Å,Å,Å,Å,Å,Å,Å,Å],[]⟩ [ö X5]) c
def ahS{c:é}{d:ŏ}{k:List ŷ}{K:Ý->ß->Array ž->Prop}{t u v:Tmp}(g:f.kind=Ğ)(j:y.defers=[])(l:P.funcs[f.fn]?=Â s)(e:s.results=#[.tmp t,.tmp u,.tmp v]) (h:K (G (c.at (d.put ((Q[i]?).bind (·.dst))<|ñ #[y.tmps.getD t Å,y.tmps.getD u Å,y.tmps.getD v Å])<|Ñ Q jJ::k) qX) w #[]): (stepG P yQ (G {f.at y L with mode:=.returning}<|c.at d (Ñ Q (i::jJ)::k)::qX) w).goes K:=by rwa[stepG_leave g j l (v:=ñ #[y.tmps.getD t Å,y.tmps.getD u Å,y.tmps.getD v Å]) (by simp[results,e,go_sem]) (by simp[results,e,go_sem]),Ģ]
structure Gv(kd:Nat->Int)(rq g:Nat->Nat)(R:Nat)(iv qv sv:Ï)(l l':e5):Prop where
 Y:fX e9 l l'
 jC:l'.w.ownsRow 0 155 4 iv (fK kd R) (jC kd rq g R)
 lZ:l'.w.ownsRow 0 155 4 qv (jj kd R).length (lZ kd rq g R)
 r:∀k,iv.ownBlock=Â k->l'.O k/\l.w.heap.size<=k
 C:∀k,qv.ownBlock=Â k->l'.O k/\l.w.heap.size<=k
 dis:∀k,iv.ownBlock=Â k->qv.ownBlock≠Â k
 N:gU l' (g 0) (É #[Ê ê 0,Ê Ď 0,sv] 105)
 I:∀k,1<=k->k<=fK kd R->gU l' (g k) QA
 M:∀k,k<=fK kd R->l.w.heap.size<=g k/\iv.ownBlock≠Â (g k)/\qv.ownBlock≠Â (g k)
 S:∀k k',k<k'->k'<=fK kd R->g k<g k'
def ahT(w:ß)(a:Option â)(b c:Nat):(Ċ 105 #[(1,Æ a b c)]).run Ä w=.ok (Đ #[Ê ê 0,Ê Ď 0,Æ a b c]) w:=run_build w 105 _ _ fR
def ahU(w:ß)(a:Option â)(b c:Nat):(Ċ 105 #[(1,Æ a b c)]).events Ä w #[]=#[]:=by unfold Ċ;simp only[Sem.events_bind];simp[go_sem]
section
variable{J:Jd}{l:e5}{ra:Option â}{rb cr R:Nat}{sa:Option â}{sn sc:Nat}{k:List ŷ}{kd:Nat->Int}{rq:Nat->Nat}
def ahV(j:gl l)(u:¬l.q)(I:l.d=0)(K:R<1000)(L:0<R->ra=Â ⟨rb,0,Á⟩)(z:0<R->l.M rb)(N:∀i,i<R->l.w.cell? ⟨rb,i,Á⟩=Â (À<|Â ⟨rq i,0,Á⟩))(B:∀i,i<R->l.M (rq i))(O:∀i,i<R->l.w.cell? ⟨rq i,4,Á⟩=Â (Ê Î<|kd i)) (P:∀g s b c,Gv kd rq g R b c (Æ sa sn sc) l s->fe Ä Ò J s (G (f.at (y.put ((Q[i]?).bind (·.dst))<|ñ #[b,c,À<|Â ⟨g<|fK kd R,0,Á⟩])<|Ñ Q jJ::k) qX)): fe Ä Ò J l (X6 (Æ ra R cr) (Æ sa sn sc)<|f.at y (Ñ Q (i::jJ)::k)::qX):=by
 have hF:=trivial;apply gi (n:=40) j.r;simp only[X6];conv in X5=>whnf
 repeat w_go fA
 refine Ë λ_ _=> ?_;refine tB (v:=Đ #[Ê ê 0,Ê Ď 0,Æ sa sn sc]) U U (by k_ne) j.r u (λa r=> ?_) (λa r e p=> ?_) ?_
 .have h:=ahT a sa sn sc;go_simp
 .have h:=ahU a sa sn sc;simp[go_sem,h]at p
 walk_nrm;refine qj (V:=λp=>À<|Â ⟨p,0,Á⟩) (ob:=É #[Ê ê 0,Ê Ď 0,Æ sa sn sc] 105) U U (by k_ne) j.r u (λw=>by go_simp) (λw=>by simp[go_sem]) λa C=> ?_;walk_nrm;have p:fX e9 l (gI l a<|É #[Ê ê 0,Ê Ď 0,Æ sa sn sc] 105):=nL j C;have t:gU (gI l a<|É #[Ê ê 0,Ê Ď 0,Æ sa sn sc] 105) a.heap.size (É #[Ê ê 0,Ê Ď 0,Æ sa sn sc] 105):=⟨Ç U,nn⟩;have D:=C.r;generalize gI l a (É #[Ê ê 0,Ê Ď 0,Æ sa sn sc] 105)=l₁ at p t|-;generalize a.heap.size=gt at t D|-;have m:=p.N j;have S:¬l₁.q:=by rwa[p.q]
 apply gi (n:=40) m.r;repeat w_bar fA
 w_go fA
 refine Ë λ_ _=> ?_;have T:=m.fl gt<|Ã t.fh;refine QB m S (by rwa[p.d]) K L (λh=>p.M<|z h) (λi h=>(gE<|p.r rb (z Z) id).trans<|N i h) (λi h=>p.M<|B i h) (λi h=>(gE<|p.r _ (B i h) id).trans<|O i h) (λg s W b c h r=> ?_) R 0 Z (λ_=>gt) l₁ _ (Æ Á 0 0) (Æ Á 0 0) ⟨fX.fO m.r,⟨U,Ã ⟨U,U⟩⟩,⟨U,Ã ⟨U,U⟩⟩,λk e=>(by cases e),λk e=>(by cases e),λk e=>(by cases e),λk x o=> ?_,T,rfl,λk X x o=> ?_⟩ ⟨rfl,rfl,rfl,rfl,rfl,rfl,rfl⟩
 .have Y:=h.r.N m;obtain⟨y0,y1,y2,y3,E,F,y6,y7,y8,y9,uU,wA,uV,qd,ri,pz,tE,tF,rj,rm,rn,qe,qf,qg,pg,p7,pj,nJ,mP,oh,om,ot,qP,p8,p9,pn,po,qR,qS,qT,qU,qV,qW,qY,qZ,re,mr,my,rfl⟩:=J5 W r.r;obtain rfl:b=E:=(show E=b by simpa using r.N).symm;obtain rfl:c=F:=(show F=c by simpa using r.S).symm;obtain rfl:y6=À (Â ⟨g<|fK kd R,0,Á⟩):=by simpa using r.Y
  obtain rfl:qd=Æ ra R cr:=by simpa using r.C
  obtain rfl:ri=Ê Î R:=by simpa using r.I
  obtain rfl:pz=Ê Î R:=by simpa using r.M
  have gH:¬((R:Int)<(R:Int)):=Z
  apply gi (n:=40) Y.r;simp only[A9];conv in Gs=>whnf
  conv in Qq=>whnf
  repeat w_go fA
  u_in fA hF
  refine ahS U U ų U ⟨by u_nil,?_⟩;walk_nrm;refine Ë λ_ _=> ?_;have H:=h.S;refine P g s b c ⟨p.e8 h.r,h.jC,h.lZ,λk e=>⟨(h.C k e).1,Õ p.I (h.C k e).2⟩,λk e=>⟨(h.I k e).1,Õ p.I (h.I k e).2⟩,h.M,H▸t.r h.r id,λk x o=>(h.N k x o).1,λk hk=> ?_,h.Y⟩;by_cases h0:k=0
  .subst h0;rw[H];exact⟨D,λe=>by have:=(h.C _ e).2;omega,λe=>by have:=(h.I _ e).2;omega⟩
  .let⟨_,a2,a3,a4⟩:=h.N k Z hk;exact⟨Õ p.I a2,a3,a4⟩
 .have:k<=0:=o;omega
 .have:X<=0:=o;omega
end
noncomputable def X7:Ę:=lY Tryz.f37 []
noncomputable def Dj (a b:Ï) (n:Nat) (c:List é):Ý:=G ((base 37).at ⟨#[a,b,Ê Î n,Å,Å,Å,Å,Å,Å,Å,Å,Å,Å,Å,Å,Å,Å,Å,Å,Å,Å,Å,Å,Å,Å,Å,Å,Å,Å,Å,Å,Å,Å,Å,Å,Å,Å,Å,Å,Å,Å,Å,Å,Å,Å,Å,Å,Å,Å],[]⟩ [ö X7]) c
def Gv.wI{kd:Nat->Int}{rq:Nat->Nat}{R:Nat}{l a b:e5}(h:Gv kd rq D R v x z l a)(k:fX e9 a b):Gv kd rq D R v x z l b:= ⟨h.Y.e8 k,oO h.jC λj e=>k.r j (Ã (h.r j e).1) id,oO h.lZ λj e=>k.r j (Ã (h.C j e).1) id,λj e=>⟨k.O j (h.r j e).1,(h.r j e).2⟩,λj e=>⟨k.O j (h.C j e).1,(h.C j e).2⟩,h.dis,h.N.r k id,λj c d=>(h.I j c d).r k id,h.M,h.S⟩
abbrev wK(R:Nat):Ÿ:=É (madeCells (Ŵ<|à ⟨#[]⟩) R) 9
structure J8(kd:Nat->Int)(rq g:Nat->Nat)(R:Nat)(iv qv sv:Ï)(an ba bi all bw bf:Nat)(l lp l':e5):Prop where
 C:fX e9 l l'
 r:Gv kd rq g R iv qv sv lp l'
 I:gU l' an (wK R)
 a:gU l' ba (É #[Æ (Â ⟨an,0,Á⟩) R R] 25)
 c:gU l' bi (É #[iv] 85)
 Y:gU l' all (É #[Ê ê 4294967296,Ê Ď 0] 97)
 d:gU l' bw (É #[À<|Â ⟨all,0,Á⟩] 162)
 b:gU l' bf (É #[Ĉ (ù 48) #[] #[À<|Â ⟨bi,0,Á⟩,À<|Â ⟨ba,0,Á⟩]] 1)
 M:l.w.heap.size<=an/\an<ba/\ba<lp.w.heap.size
 N:∀k,k<=fK kd R->g k<bi
 o3:∀k,iv.ownBlock=Â k->k<bi
 o4:∀k,qv.ownBlock=Â k->k<bi
 S:bi<all/\all<bw/\bw<bf
section
variable{J:Jd}{l:e5}{ra:Option â}{rb cr R:Nat}{sa:Option â}{sn sc:Nat}{kd:Nat->Int}{rq:Nat->Nat}
def ahW(C:gl l)(G:¬l.q)(hd:l.d=0)(hR:R<1000)(Gw:0<R->ra=Â ⟨rb,0,Á⟩)(uZ:0<R->l.M rb)(Gx:∀i,i<R->l.w.cell? ⟨rb,i,Á⟩=Â (À<|Â ⟨rq i,0,Á⟩))(Ja:∀i,i<R->l.M (rq i))(Gy:∀i,i<R->l.w.cell? ⟨rq i,4,Á⟩=Â (Ê Î<|kd i)) (hJ:∀g lp l' t iv qv H y z D W bf v1,J8 kd rq g R iv qv (Æ sa sn sc) H y z D W bf l lp l'->Gm y D (g<|fK kd R) n qv t->J l' (AV (À<|Â ⟨D,0,Á⟩) v1 (À<|Â ⟨D,0,Á⟩) (ñ #[]) W bf<|Dg t::qX)): fe Ä Ò J l (Dj (Æ sa sn sc) (Æ ra R cr) n qX):=by
 have hF:True:=trivial;have X8:Ä.info? 9=Â Ġ:=Tryz.type9;have Oe:∀w:ß,(Ŏ 25 (Ê Î (R:Int))<|Ê Î (R:Int)).run Ä w=.ok (Æ (Â ⟨w.heap.size,0,Á⟩) R R) (w.alloc<|wK R):=λw=>by have:=run_makeSlice (P:=Ä) w 25 9 Ġ (à ⟨#[]⟩) ľ X8 U Î Î (R:Int) (R:Int) Z Z (by simp[Ġ];omega) (by simp[Ġ];omega) Z;simpa[Ġ]using this
 have hme:∀w:ß,(Ŏ 25 (Ê Î (R:Int))<|Ê Î (R:Int)).events Ä w #[]=#[]:=λw=>
  events_make (P:=Ä) w 25 9 Ġ (à ⟨#[]⟩) ľ X8 U Î Î (R:Int) (R:Int) Z Z (by simp[Ġ];omega) Z (by simp[Ġ];omega) _
 apply gi (n:=40) C.r;simp only[Dj];conv in X7=>whnf
 repeat w_go fA
 refine Ë λ_ _=> ?_;refine qj (V:=λp=>Æ (Â ⟨p,0,Á⟩) R R) (ob:=wK R) U U (by k_ne) C.r G (λw=>by have k:=Oe w;go_simp) (λw=>by have k:=hme w;simp[go_sem,k]) λc m=> ?_;walk_nrm;have a:=nL (X:=e9) (ob:=wK R) C m;have r:gU (gI l c<|wK R) c.heap.size (wK R):=⟨Ç U,nn⟩;have han:l.w.heap.size<=c.heap.size:=m.r;generalize gI l c (wK R)=l1 at a r|-;generalize c.heap.size=H at r han|-;clear m c;have QC:fX e9 l l1:=a;have QD:=QC.N C;have ahX:¬l1.q:=by rwa[QC.q]
 have arK:l.w.heap.size<=l1.w.heap.size:=a.I;clear a;have lan:=QD.fl H<|Ã r.fh;refine qj (V:=λp=>À<|Â ⟨p,0,Á⟩) (ob:=É #[Æ Á 0 0] 25) U U (by k_ne) QD.r ahX (λw=>by go_simp) (λw=>by simp[go_sem]) λc m=> ?_;walk_nrm;have a:=nL (X:=e9) (ob:=É #[Æ Á 0 0] 25) QD m;have f:gU (gI l1 c<|É #[Æ Á 0 0] 25) c.heap.size (É #[Æ Á 0 0] 25):=⟨Ç U,nn⟩;have X9:l1.w.heap.size<=c.heap.size:=m.r;generalize gI l1 c (É #[Æ Á 0 0] 25)=l2 at a f|-;generalize c.heap.size=y at f X9|-;clear m c;have QF:fX e9 l l2:=QC.e8 a;replace r:=r.r a id;have QG:=QF.N C;have ahY:¬l2.q:=by rwa[QF.q]
 have arL:l1.w.heap.size<=l2.w.heap.size:=a.I;clear a;have lba:=QG.fl y<|Ã f.fh;refine F9 (p:=y) (off:=0) (v:=Æ (Â ⟨H,0,Á⟩) R R) (u:=Æ Á 0 0) U U (by k_ne) QG.r ahY f.fh (f.C U) (by simp[î,f.I]) U (λw o F=>by go_simp) (λw o F=>by simp[go_sem,á _ _ _ _ _ _ (show Ø (Æ (Â ⟨H,0,Á⟩) R R)=Ò from rfl),o,F]) ?_;have a:=JJ (X:=λb=>b=y) (p:=y) (w':=l2.w.setCell ⟨y,0,Á⟩<|Æ (Â ⟨H,0,Á⟩) R R) QG (fD.fO _ _) f.fh U jK λj E=>kP E;replace f:gU ({l2 with w:=l2.w.setCell ⟨y,0,Á⟩ (Æ (Â ⟨H,0,Á⟩) R R)}:e5) y (É #[Æ (Â ⟨H,0,Á⟩) R R] 25):=⟨f.fh,by show(l2.w.setCell ⟨y,0,Á⟩<|Æ (Â ⟨H,0,Á⟩) R R).heap[y]?=_;unfold þ;simp[í,f.I]⟩;generalize({l2 with w:=l2.w.setCell ⟨y,0,Á⟩ (Æ (Â ⟨H,0,Á⟩) R R)}:e5)=l3 at a f|-;have S:fX e9 l l3:=QF.wI a λj E e=>by have:=C.fl j E;omega
 replace r:=r.r a Z;have Ya:=S.N C;have ahZ:¬l3.q:=by rwa[S.q]
 have arM:l2.w.heap.size<=l3.w.heap.size:=a.I;clear a;apply gi (n:=20) Ya.r;iterate 5 w_go fA
 u_call ų fR Ĝ fA hF
 refine Ë λ_ _=> ?_;refine ahV (l:=l3) (kd:=kd) (rq:=rq) (ra:=ra) (rb:=rb) (cr:=cr) (R:=R) (sa:=sa) (sn:=sn) (sc:=sc) Ya ahZ (by rwa[S.d]) hR Gw (λh=>S.M<|uZ h) (λi k=>(gE<|S.r rb (uZ Z) id).trans<|Gx i k) (λi k=>S.M<|Ja i k) (λi k=>(gE<|S.r _ (Ja i k) id).trans<|Gy i k) λg B iv qv T=> ?_;walk_nrm;have a:=T.Y;have QH:fX e9 l B:=S.e8 a;replace r:=r.r a id;replace f:=f.r a id;have L:=QH.N C;have ah0:¬B.q:=by rwa[QH.q]
 have arN:l3.w.heap.size<=B.w.heap.size:=a.I;clear a;have ah1:fX e9 B B:=fX.fO L.r;obtain⟨I,K,rfl⟩:∃I K,iv=Æ I (fK kd R) K:=by
  rcases T.jC.2 with⟨k,s⟩|⟨b,N,Q,k,_⟩
  .exact⟨Á,0,by rwa[s]⟩
  .exact⟨_,_,k⟩
 have og:∀k,k<=fK kd R->g k<B.w.heap.size:=λk hk=>by
  by_cases s:k=0
  .subst s;exact L.fl _<|Ã T.N.fh
  .exact L.fl _<|Ã (T.I k Z hk).fh
 have oi:∀k,(Æ I (fK kd R) K).ownBlock=Â k->k<B.w.heap.size:=λk e=>L.fl _<|Ã (T.r k e).1;have oq:∀k,qv.ownBlock=Â k->k<B.w.heap.size:=λk e=>L.fl _<|Ã (T.C k e).1;apply gi (n:=20) L.r;iterate 4 w_go fA
 refine Ë λ_ _=> ?_;refine qj (V:=λp=>À<|Â ⟨p,0,Á⟩) (ob:=É #[Æ Á 0 0] 85) U U (by k_ne) L.r ah0 (λw=>by go_simp) (λw=>by simp[go_sem]) λc m=> ?_;walk_nrm;have a:=nL (X:=e9) (ob:=É #[Æ Á 0 0] 85) L m;have s:gU (gI B c<|É #[Æ Á 0 0] 85) c.heap.size (É #[Æ Á 0 0] 85):=⟨Ç U,nn⟩;have QI:B.w.heap.size<=c.heap.size:=m.r;generalize gI B c (É #[Æ Á 0 0] 85)=l5 at a s|-;generalize c.heap.size=z at s QI|-;clear m c;have QJ:fX e9 l l5:=QH.e8 a;have ah2:fX e9 B l5:=ah1.e8 a;replace r:=r.r a id;replace f:=f.r a id;have QK:=QJ.N C;have ah3:¬l5.q:=by rwa[QJ.q]
 have arO:B.w.heap.size<=l5.w.heap.size:=a.I;clear a;have lbi:=QK.fl z<|Ã s.fh;refine F9 (p:=z) (off:=0) (v:=Æ I (fK kd R) K) (u:=Æ Á 0 0) U U (by k_ne) QK.r ah3 s.fh (s.C U) (by simp[î,s.I]) U (λw o F=>by go_simp) (λw o F=>by simp[go_sem,á _ _ _ _ _ _ (show Ø (Æ I (fK kd R) K)=Ò from rfl),o,F]) ?_;have a:=JJ (X:=λb=>b=z) (p:=z) (w':=l5.w.setCell ⟨z,0,Á⟩<|Æ I (fK kd R) K) QK (fD.fO _ _) s.fh U jK λj E=>kP E;replace s:gU ({l5 with w:=l5.w.setCell ⟨z,0,Á⟩ (Æ I (fK kd R) K)}:e5) z (É #[Æ I (fK kd R) K] 85):=⟨s.fh,by show(l5.w.setCell ⟨z,0,Á⟩<|Æ I (fK kd R) K).heap[z]?=_;unfold þ;simp[í,s.I]⟩;generalize({l5 with w:=l5.w.setCell ⟨z,0,Á⟩ (Æ I (fK kd R) K)}:e5)=l6 at a s|-;have QL:fX e9 l l6:=QJ.wI a λj E e=>by have:=C.fl j E;omega
 have ah4:fX e9 B l6:=ah2.wI a λj E e=>by have:=L.fl j E;omega
 replace r:=r.r a Z;replace f:=f.r a Z;have QM:=QL.N C;have ah5:¬l6.q:=by rwa[QL.q]
 have arP:l5.w.heap.size<=l6.w.heap.size:=a.I;clear a;apply gi (n:=20) QM.r;iterate 5 w_go fA
 refine Ë λ_ _=> ?_;refine qj (V:=λp=>À<|Â ⟨p,0,Á⟩) (ob:=É #[Ê ê 0,Ê Ď 0] 97) U U (by k_ne) QM.r ah5 (λw=>by go_simp) (λw=>by simp[go_sem]) λc m=> ?_;walk_nrm;have a:=nL (X:=e9) (ob:=É #[Ê ê 0,Ê Ď 0] 97) QM m;have F:gU (gI l6 c<|É #[Ê ê 0,Ê Ď 0] 97) c.heap.size (É #[Ê ê 0,Ê Ď 0] 97):=⟨Ç U,nn⟩;have pB:l6.w.heap.size<=c.heap.size:=m.r;generalize gI l6 c (É #[Ê ê 0,Ê Ď 0] 97)=l7 at a F|-;generalize c.heap.size=D at F pB|-;clear m c;have QO:fX e9 l l7:=QL.e8 a;have ah6:fX e9 B l7:=ah4.e8 a;replace r:=r.r a id;replace f:=f.r a id;replace s:=s.r a id;have J9:=QO.N C;have ah7:¬l7.q:=by rwa[QO.q]
 have arQ:l6.w.heap.size<=l7.w.heap.size:=a.I;clear a;have arR:=J9.fl D<|Ã F.fh;apply gi (n:=20) J9.r;iterate 4 w_go fA
 u_call Ħ fR Μ fA hF
 iterate 2 w_go fA
 refine Ë λ_ _=> ?_;refine qj (V:=λp=>À<|Â ⟨p,0,Á⟩) (ob:=É #[À<|Â ⟨D,0,Á⟩] 162) U U (by k_ne) J9.r ah7 (λw=>by go_simp) (λw=>by simp[go_sem]) λc m=> ?_;walk_nrm;have a:=nL (X:=e9) (ob:=É #[À<|Â ⟨D,0,Á⟩] 162) J9 m;have N:gU (gI l7 c<|É #[À<|Â ⟨D,0,Á⟩] 162) c.heap.size (É #[À<|Â ⟨D,0,Á⟩] 162):=⟨Ç U,nn⟩;have A4:l7.w.heap.size<=c.heap.size:=m.r;generalize gI l7 c (É #[À<|Â ⟨D,0,Á⟩] 162)=l8 at a N|-;generalize c.heap.size=W at N A4|-;clear m c;have QP:fX e9 l l8:=QO.e8 a;have ah8:fX e9 B l8:=ah6.e8 a;replace r:=r.r a id;replace f:=f.r a id;replace s:=s.r a id;replace F:=F.r a id;have QR:=QP.N C;have ah9:¬l8.q:=by rwa[QP.q]
 have arS:l7.w.heap.size<=l8.w.heap.size:=a.I;clear a;have lbw:=QR.fl W<|Ã N.fh;refine qj (V:=λp=>À<|Â ⟨p,0,Á⟩) (ob:=É #[Ĉ (ù 48) #[] #[À<|Â ⟨z,0,Á⟩,À<|Â ⟨y,0,Á⟩]] 1) U U (by k_ne) QR.r ah9 (λw=>by go_simp) (λw=>by simp[go_sem]) λc m=> ?_;walk_nrm;have a:=nL (X:=e9) (ob:=É #[Ĉ (ù 48) #[] #[À<|Â ⟨z,0,Á⟩,À<|Â ⟨y,0,Á⟩]] 1) QR m;have Y:gU (gI l8 c<|É #[Ĉ (ù 48) #[] #[À<|Â ⟨z,0,Á⟩,À<|Â ⟨y,0,Á⟩]] 1) c.heap.size (É #[Ĉ (ù 48) #[] #[À<|Â ⟨z,0,Á⟩,À<|Â ⟨y,0,Á⟩]] 1):=⟨Ç U,nn⟩;have J0:l8.w.heap.size<=c.heap.size:=m.r;generalize gI l8 c (É #[Ĉ (ù 48) #[] #[À<|Â ⟨z,0,Á⟩,À<|Â ⟨y,0,Á⟩]] 1)=l9 at a Y|-;generalize c.heap.size=bf at Y J0|-;clear m c;have Ka:fX e9 l l9:=QP.e8 a;have aia:fX e9 B l9:=ah8.e8 a;replace r:=r.r a id;replace f:=f.r a id;replace s:=s.r a id;replace F:=F.r a id;replace N:=N.r a id;have Gz:=Ka.N C;have Yb:¬l9.q:=by rwa[Ka.q]
 have arT:l8.w.heap.size<=l9.w.heap.size:=a.I;clear a;have lbf:=Gz.fl bf<|Ã Y.fh;apply gi (n:=20) Gz.r;iterate 3 w_go fA
 refine Ë λ_ _=> ?_;apply nK (x:=⟨W,0,Á⟩) U U (by k_ne) Gz.r Yb (Ã<|Ã N.fh) (N.C U) (λw h=>by go_simp) (λw h=>by simp[go_sem,h]);walk_nrm;apply gi (n:=20) Gz.r;u_call qc.f_add (nm_add Lk) addFn fA hF;refine Ë λ_ _=> ?_;refine XY qc Gz Yb (by rwa[Ka.d]) F.fh F.I U U λQ hC=> ?_;walk_nrm;have a:fX (λb=>b=D) l9 Q:=hC.r;replace F:gU Q D (É #[Ê ê 4294967296,Ê Ď 0] 97):=⟨hC.r.O D F.fh,hC.C⟩;have QS:fX e9 l Q:=Ka.wI a λj E e=>by have:=C.fl j E;omega
 have aib:fX e9 B Q:=aia.wI a λj E e=>by have:=L.fl j E;omega
 replace r:=r.r a Z;replace f:=f.r a Z;replace s:=s.r a Z;replace N:=N.r a Z;replace Y:=Y.r a Z;have aic:=QS.N C;have arU:¬Q.q:=by rwa[QS.q]
 have arV:l9.w.heap.size<=Q.w.heap.size:=a.I;clear a;apply gi (n:=20) aic.r;iterate 3 w_go fA
 refine Ë λ_ _=> ?_;refine .fu λA7 wH=> ?_;have at9:∀{b:Nat} {o:Ÿ},gU Q b o->gU ({Q with w:=A7}:e5) b o:=λh=>⟨h.fh,(wH.I _<|Ã h.fh).trans h.I⟩;exact hJ g l3 {Q with w:=A7} _ (Æ I (fK kd R) K) qv H y z D W bf _ ⟨QS.G wH,T.wI<|aib.G wH,at9 r,at9 f,at9 s,at9 F,at9 N,at9 Y,⟨Z,Z,Z⟩,λk hk=>by have:=og k hk;omega,λk e=>by have:=oi k e;omega,λk e=>by have:=oq k e;omega,⟨Z,Z,Z⟩⟩ ⟨U,U,U,U,U,U⟩
end
def aie{md:ý}{listed:Array Bool}(h:Û md Q listed=[]):∀(a t:Nat),ë md Q a t listed []=[]:=by
 intro a t;cases a with
 |zero=>rfl
 |succ a=>
  simp only[ë];change(match(Û md Q listed)[t%(Û md Q listed).length]? with
   |some i=>ë md Q a (t/(Û md Q listed).length) (listed.setIfInBounds i Ò) [i]
   |none=>[].reverse)=[]
  rw[h];rfl
section
variable{J:Jd}{l:e5}
def Yc{md:ý}(I:Array Bool->ŏ->e5->Prop) (p:∀b a l i k,I b a l->b.size=Q.size->i∈Û md Q b->(Û md Q (b.setIfInBounds i Ò)=[]->k=[])->fe P yQ (λg m=>(∃h,m=G (f.at h<|Ñ Q k::L) qX/\I (b.setIfInBounds i Ò) h g)\/fe P yQ J g m) l (G (f.at a<|Ñ Q (i::k)::L) qX)) (o:∀b a l,I b a l->b.size=Q.size->Û md Q b=[]->fe P yQ J l (G (f.at a<|Ñ Q []::L) qX)): ∀(c t:Nat) (b:Array Bool) (a:ŏ) (l:e5),b.size=Q.size->jf b<=c->I b a l->fe P yQ J l (G (f.at a<|Ñ Q (ë md Q c t b [])::L) qX):=by
 intro c
 induction c with
 |zero=>
  intro t b a l d q j;simpa[ë]using o b a l j d<|PK d Z
 |succ c r=>
  intro t b a l d q j;simp only[ë];change fe P yQ J l (G (f.at a (Ñ Q (match(Û md Q b)[t%(Û md Q b).length]? with
   |some i=>ë md Q c (t/(Û md Q b).length) (b.setIfInBounds i Ò) [i]
   |none=>[].reverse)::L)) qX)
  cases n:(Û md Q b)[t%(Û md Q b).length]? with
  |none=>
   have s:Û md Q b=[]:=by
    cases u:Û md Q b with
    |nil=>rfl
    |cons x e=>
     rw[u]at n;have v:t%(x::e).length<(x::e).length:=ĵ _ fg;simp at n;simp at v;omega
   simpa using o b a l j d s
  |some i=>
   simp only[];rw[linearise_go_acc,List.reverse_singleton,List.singleton_append];have x:=ħ n;refine(p b a l i _ j d x λe=>aie e _ _).lR ?_;rintro g m (⟨h,rfl,hI'⟩|hW)
   .exact r _ _ h g (by simpa using d) (by have:=Jx (mem_ready.1 x).1;omega) hI'
   .exact hW
def aif{id:Nat}(I:Array Bool->ŏ->e5->Prop)(o:jW l)(p:¬l.q) (g:∀c,fD l l.w c->I (Array.replicate Q.size Ì) y {l with w:={c with drawn:=c.drawn+1}}) (h:∀d b y l i e,I b y l->b.size=Q.size->i∈Û d Q b->(Û d Q (b.setIfInBounds i Ò)=[]->e=[])->fe P yQ (λj k=>(∃m,k=G (f.at m<|Ñ Q e::L) qX/\I (b.setIfInBounds i Ò) m j)\/fe P yQ J j k) l (G (f.at y<|Ñ Q (i::e)::L) qX)) (n:∀d b y l,I b y l->b.size=Q.size->Û d Q b=[]->fe P yQ J l (G (f.at y<|Ñ Q []::L) qX)): fe P yQ J l (G (f.at y<|ö (ä id Q Ò)::L) qX):=by
 refine .mk U λc r=>⟨_,_,_,_,stepG_region_draw,PH (lX o r) p,?_⟩;unfold Region.schedule;split
 .exact Yc I (h _) (n _) _ _ _ _ _ fg (by rw[CQ];exact Ú _)<|g c r
 .exact Yc I (h _) (n _) _ _ _ _ _ fg (by rw[CQ];exact Ú _)<|g c r
end
def Bc:å:=⟨Â 15,ę<|Ù 1,100, "work.go:72",#[],Á⟩
def Bd:å:=⟨Â 16,ę<|Ù 4,3, "work.go:72",#[],Á⟩
def Be:å:=⟨Â 17,ę<|Ù 1,100, "work.go:72",#[],Á⟩
def wL:å:=⟨Â 18,Ě {callee:=Ŕ .len,args:=#[Ù 17],argTypes:=#[100]},3, "work.go:72",#[⟨2,Ü⟩],Á⟩
def tL:å:=⟨Â 19,Λ .rem 3 (Ù 16) (Ù 18) 3,3, "work.go:72",#[⟨1,Ü⟩,⟨3,Ü⟩],Á⟩
def tM:å:=⟨Â 20,ő 100 (Ù 15)<|Ù 19,0, "work.go:72",#[⟨0,Ü⟩,⟨4,Ü⟩],Á⟩
def wM:å:=⟨Â 21,ć 101<|Ù 20,101, "work.go:72",#[⟨5,Ü⟩],Á⟩
def Bf:å:=⟨Â 22,ć 155<|Ù 5,155, "work.go:72",#[],Á⟩
def wN:å:=⟨Á,.send (Ù 21)<|Ù 22,0, "work.go:72",#[⟨6,Ü⟩,⟨7,Ü⟩],Á⟩
def nt:Array å:=#[Bc,Bd,Be,wL,tL,tM,wM,Bf,wN]
noncomputable def Kb:Ę:=lY Ŗ [1,1,0,0]
noncomputable def Yd:Ę:=lY Ŗ [1]
noncomputable def Ke:Ę:=lY Ŗ [0,1,0,0]
noncomputable def Bg (t:Array Ï) (a:List é):Ý:=G ((base 52).at ⟨t,[]⟩ [ö Ke,ą Ke,ô 0,ö Yd]) a
structure DT(dv:Ï)(qb:Option â)(q cq i:Nat)(t:Array Ï):Prop where
 r:t.size=32
 C:t[1]?=Â dv
 t8:t[8]?=Â (Æ qb q cq)
 M:t[9]?=Â (Ê Î q)
 I:t[10]?=Â (Ê Î i)
def GA(t:Array Ï)(h:t.size=32):∃a b c d e f g i j k l m n o p q r s u v w x y z B C D E F G H I:Ï,t=#[a,b,c,d,e,f,g,i,j,k,l,m,n,o,p,q,r,s,u,v,w,x,y,z,B,C,D,E,F,G,H,I]:=by obtain⟨_,rfl⟩:=C5 t h;exact⟨_,_,_,_,_,_,_,_,_,_,_,_,_,_,_,_,_,_,_,_,_,_,_,_,_,_,_,_,_,_,_,_,U⟩
def tN(c n i a d:Nat)(b tk:Ï)(_:Unit):Nat->Ï
 |0=>b
 |1=>Ê Î i
 |2=>b
 |3=>Ê Î n
 |4=>Ê Î a
 |5=>À<|Â ⟨c,a,Á⟩
 |6=>è<|Â d
 |7=>tk
 |_=>Å
def Kf(a:e5)(listed:Array Bool)(_:Unit)(l:e5):Prop:=iq e9 a l/\¬listed.getD 8 Ì=Ò
section
variable{J N:Jd}{p:e5}{g s:Nat}{u:Option â}
def aii(Dk:gl p)(hq:¬p.q)(ht:d.size=32)(AJ:d[1]?=Â (Æ (Â ⟨j9,0,Á⟩) n j))(F6:d[4]?=Â (Ê Î i))(PV:d[5]?=Â (À<|Â ⟨g,0,Á⟩))(z:p.O g)(T:p.O j9)(hn:0<n)(u5:n<1000)(hi1:i<1000) (Ye:i%n=j6) (V:p.w.cell? ⟨j9,j6,Á⟩=Â (è<|Â m)) (W:p.w.cell? ⟨g,0,Á⟩=Â (À u)) (X:p.w.cell? ⟨g,1,Á⟩=Â (Ê Î s)) (Y:p.w.cell? ⟨g,2,Á⟩=Â (À<|Â ⟨j7,0,Á⟩)) (c3:p.w.cell? ⟨g,3,Á⟩=Â (À O)) (hJ:∀l H,iq e9 p l->H.size=32->(∀c,c<15->H[c]?=d[c]?)->zS Ä Ò m (Đ #[À u,Ê Î s,À<|Â ⟨j7,0,Á⟩,À O]) N l (G ((base 52).at ⟨H,[]⟩<|Ñ nt [8]::L) qX)->J l (G ((base 52).at ⟨H,[]⟩<|Ñ nt [8]::L) qX)) (hN:∀l H,iq e9 p l->H.size=32->(∀c,c<15->H[c]?=d[c]?)->fe Ä Ò N l (G ((base 52).at ⟨H,[]⟩<|Ñ nt []::L) qX)) (md:ý) (listed:Array Bool) (a:ŏ) (l:e5) (i':Nat) (rest:List Nat) (hI:II nt d (tN j9 n i j6 m (Æ (Â ⟨j9,0,Á⟩) n j)<|Đ #[À u,Ê Î s,À<|Â ⟨j7,0,Á⟩,À O]) (Kf p) listed a l) (jV:listed.size=nt.size) (C:i'∈Û md nt listed) (GB:Û md nt (listed.setIfInBounds i' Ò)=[]->rest=[]): fe Ä Ò (λD F=>(∃Q,F=G ((base 52).at Q<|Ñ nt rest::L) qX/\II nt d (tN j9 n i j6 m (Æ (Â ⟨j9,0,Á⟩) n j)<|Đ #[À u,Ê Î s,À<|Â ⟨j7,0,Á⟩,À O]) (Kf p) (listed.setIfInBounds i' Ò) Q D)\/fe Ä Ò J D F) l (G ((base 52).at a<|Ñ nt (i'::rest)::L) qX):=by
 let⟨x,t,S,h8⟩:=hI;have I:tC nt d.size=Ò:=by rw[ht];decide
 have gH:=CR C;have K:=S.fl;have M:¬l.q:=by rwa[S.q]
 have mQ:a.tmps[1]?=Â (Æ (Â ⟨j9,0,Á⟩) n j):=(t.C A).trans AJ;have Qp:a.tmps[4]?=Â (Ê Î i):=(t.C A).trans F6;have rh:a.tmps[5]?=Â (À<|Â ⟨g,0,Á⟩):=(t.C A).trans PV;have y:∀b f v,p.O b->p.w.cell? ⟨b,f,Á⟩=Â v->gR l ⟨b,f,Á⟩/\l.w.cell? ⟨b,f,Á⟩=Â v:=λb f v E h=>⟨Ã<|Ã<|S.O b E,by rwa[gE<|S.r b<|Ã E]⟩;have P:∀{k:Nat},k≠8->∀B,fD l l.w B->Kf p (listed.setIfInBounds k Ò) () {l with w:=B}:=λhm B r=>⟨S.N (λ_ q=>q.elim) r,by rwa[ç Ì hm]⟩;have aij:j6<n:=by rw[<-Ye];exact ĵ _ hn
 have aik:(j6:Int)<(n:Int):=Z
 have GD:¬(n:Int)=0:=Z
 have ail:¬n=0:=Z
 have htm:Int.tmod (i:Int) (n:Int)=(j6:Int):=by rw[Int.tmod_eq_emod_of_nonneg Z,<-Ye];simp
 have n9:Î.wrap (j6:Int)=(j6:Int):=AN Z Z;have Kg:nt.size=9:=A
 rw[Kg]at gH;match i',gH with
 |0,_=>
  refine(gZ (o:=Bc) I t U U C (by k_ne) K M (λB r=> ?_) (λB r e D=> ?_)<|P A).fH λ_ _ h=>Ã h
  .simp only[tN,Bc];go_simp
  .simp[go_sem,Bc,mQ]at D
 |1,_=>
  refine(gZ (o:=Bd) I t U U C (by k_ne) K M (λB r=> ?_) (λB r e D=> ?_)<|P A).fH λ_ _ h=>Ã h
  .simp only[tN,Bd];go_simp
  .simp[go_sem,Bd,Qp]at D
 |2,_=>
  refine(gZ (o:=Be) I t U U C (by k_ne) K M (λB r=> ?_) (λB r e D=> ?_)<|P A).fH λ_ _ h=>Ã h
  .simp only[tN,Be];go_simp
  .simp[go_sem,Be,mQ]at D
 |3,_=>
  have F:a.tmps[17]?=Â (Æ (Â ⟨j9,0,Á⟩) n j):=t.r 2 Be 17 U (gX (o:=wL) C U U) U;refine(gZ (o:=wL) I t U U C (by k_ne) K M (λB r=> ?_) (λB r e D=> ?_)<|P A).fH λ_ _ h=>Ã h
  .simp only[tN,wL];go_simp
  .simp[go_sem,wL,F]at D
 |4,_=>
  have F:a.tmps[16]?=Â (Ê Î i):=t.r 1 Bd 16 U (gX (o:=tL) C U U) U;have Q:a.tmps[18]?=Â (Ê Î n):=t.r 3 wL 18 U (gX (o:=tL) C U U) U;refine(gZ (o:=tL) I t U U C (by k_ne) K M (λB r=> ?_) (λB r e D=> ?_)<|P A).fH λ_ _ h=>Ã h
  .simp only[tN,tL];go_simp
  .simp[go_sem,tL,F,Q,GD,ail,htm,n9]at D
 |5,_=>
  have F:a.tmps[15]?=Â (Æ (Â ⟨j9,0,Á⟩) n j):=t.r 0 Bc 15 U (gX (o:=tM) C U U) U;have Q:a.tmps[19]?=Â (Ê Î j6):=t.r 4 tL 19 U (gX (o:=tM) C U U) U;refine(gZ (o:=tM) I t U U C (by k_ne) K M (λB r=> ?_) (λB r e D=> ?_)<|P A).fH λ_ _ h=>Ã h
  .simp only[tN,tM];go_simp
  .simp[go_sem,tM,F,Q,aij,aik]at D
 |6,_=>
  have Q:a.tmps[20]?=Â (À<|Â ⟨j9,j6,Á⟩):=t.r 5 tM 20 U (gX (o:=wM) C U U) U;refine(gZ (o:=wM) I t U U C (by k_ne) K M (λB r=> ?_) (λB r e D=> ?_)<|P A).fH λ_ _ h=>Ã h
  .have F:=((y j9 _ _ T V).1.r r).trans (y j9 _ _ T V).2;simp only[tN,wM];go_simp
  .have F:=((y j9 _ _ T V).1.r r).trans (y j9 _ _ T V).2;have hee:e=⟨û ⟨j9,j6,Á⟩,Ì,Ì⟩:=by simp[go_sem,wM,F,Q]at D;exact D
   subst hee;exact(y j9 _ _ T V).1.C
 |7,_=>
  refine(gZ (o:=Bf) I t U U C (by k_ne) K M (λB r=> ?_) (λB r e D=> ?_)<|P A).fH λ_ _ h=>Ã h
  .have F:=((y g _ _ z W).1.r r).trans (y g _ _ z W).2;have Q:=((y g _ _ z X).1.r r).trans (y g _ _ z X).2;have qi:=((y g _ _ z Y).1.r r).trans (y g _ _ z Y).2;have tJ:=((y g _ _ z c3).1.r r).trans (y g _ _ z c3).2;simp only[tN,Bf];go_simp
  .have F:=((y g _ _ z W).1.r r).trans (y g _ _ z W).2;have Q:=((y g _ _ z X).1.r r).trans (y g _ _ z X).2;have qi:=((y g _ _ z Y).1.r r).trans (y g _ _ z Y).2;have tJ:=((y g _ _ z c3).1.r r).trans (y g _ _ z c3).2;simp[go_sem,Bf,rh,F,Q,qi,tJ]at D;rcases D with rfl|rfl|rfl|rfl
   .exact(y g _ _ z W).1.C
   .exact(y g _ _ z X).1.C
   .exact(y g _ _ z Y).1.C
   .exact(y g _ _ z c3).1.C
 |8,_=>
  have d6:=gX (j:=6) (o:=wN) C U U;have d7:=gX (j:=7) (o:=wN) C U U;have Qa:a.tmps[21]?=Â (è<|Â m):=t.r 6 wM 21 U d6 U;have FY:a.tmps[22]?=Â (Đ #[À u,Ê Î s,À<|Â ⟨j7,0,Á⟩,À O]):=t.r 7 Bf 22 U d7 U;have d5:=t.I (j:=5) (o:=wM) U d6 U;have d0:=t.I (j:=0) (o:=tM) U d5 U;have d4:=t.I (j:=4) (o:=tM) U d5 U;have d1:=t.I (j:=1) (o:=tL) U d4 U;have d3:=t.I (j:=3) (o:=tL) U d4 U;have d2:=t.I (j:=2) (o:=wL) U d3 U;have pB:Û md nt (listed.setIfInBounds 8 Ò)=[]:=by
   rw[List.eq_nil_iff_forall_not_mem];intro f hj;have GF:=CR hj;have F:=PO hj;rw[Kg]at GF;by_cases Q:f=8
   .subst Q;have D:8<listed.size:=by rw[jV,Kg];decide
    simp[D]at F
   .rw[ç Ò<|Ne.symm Q]at F;have D:=wy F;match f,GF,Q with
    |0,_,_=>exact D d0
    |1,_,_=>exact D d1
    |2,_,_=>exact D d2
    |3,_,_=>exact D d3
    |4,_,_=>exact D d4
    |5,_,_=>exact D d5
    |6,_,_=>exact D d6
    |7,_,_=>exact D d7
    |8,_,h=>exact h U
  obtain rfl:=GB pB;let⟨F,ds⟩:=a;obtain rfl:ds=[]:=t.M;have GG:F.size=32:=t.S.trans ht;have Kh:∀c,c<15->F[c]?=d[c]?:=λc hd=>t.b c λf o E _ e=>by
   have GF:=(æ.1 E).1;rw[Kg]at GF;match f,GF with
   |0,_=>
    have D:o=Bc:=(Ó<|show Â Bc=Â o from E).symm;rw[D]at e;have Q:15=c:=Ó (show Â 15=Â c from e);omega
   |1,_=>
    have D:o=Bd:=(Ó<|show Â Bd=Â o from E).symm;rw[D]at e;have Q:16=c:=Ó (show Â 16=Â c from e);omega
   |2,_=>
    have D:o=Be:=(Ó<|show Â Be=Â o from E).symm;rw[D]at e;have Q:17=c:=Ó (show Â 17=Â c from e);omega
   |3,_=>
    have D:o=wL:=(Ó<|show Â wL=Â o from E).symm;rw[D]at e;have Q:18=c:=Ó (show Â 18=Â c from e);omega
   |4,_=>
    have D:o=tL:=(Ó<|show Â tL=Â o from E).symm;rw[D]at e;have Q:19=c:=Ó (show Â 19=Â c from e);omega
   |5,_=>
    have D:o=tM:=(Ó<|show Â tM=Â o from E).symm;rw[D]at e;have Q:20=c:=Ó (show Â 20=Â c from e);omega
   |6,_=>
    have D:o=wM:=(Ó<|show Â wM=Â o from E).symm;rw[D]at e;have Q:21=c:=Ó (show Â 21=Â c from e);omega
   |7,_=>
    have D:o=Bf:=(Ó<|show Â Bf=Â o from E).symm;rw[D]at e;have Q:22=c:=Ó (show Â 22=Â c from e);omega
   |8,_=>
    have D:o=wN:=(Ó<|show Â wN=Â o from E).symm;rw[D]at e;cases(show Á=Â c from e)
  refine .fu λB r=>Ç (.fu λxH D=> ?_);have Q:iq e9 p ({l with w:=xH}:e5):=S.N (λ_ q=>q.elim)<|r.e8 ⟨D.r,D.I,D.N,D.Y,D.S⟩;refine hJ _ F Q GG Kh ⟨U,U,λD=>⟨ñ #[],?_⟩,?_⟩
  .refine(Ż (cases:=#[scase m (Đ #[À u,Ê Î s,À<|Â ⟨j7,0,Á⟩,À O])<|ñ #[]]) (blocking:=Ò) (shape:=.send) (w':=D) (o:=wN) rfl rfl (by k_ne) ?_).trans ?_
   .simp[go_sem,wN,ĉ,scase,ĥ,Qa,FY]
   .have:ŗ Ä (base 52).fn ⟨F,[]⟩ wN D=#[]:=by
     unfold ŗ;simp[go_sem,wN,ĉ,ĥ,Qa,FY,Ī]
    rw[this]
  .have e:({G ((base 52).at ⟨F,[]⟩<|Ñ nt [8]::L) qX with frame:=(G ((base 52).at ⟨F,[]⟩<|Ñ nt [8]::L) qX).frame.finish Å}:Ý)=G ((base 52).at ⟨F,[]⟩<|Ñ nt []::L) qX:=by
    have:(G ((base 52).at ⟨F,[]⟩<|Ñ nt [8]::L) qX).frame.finish Å=(base 52).at (Ο ⟨F,[]⟩ Á Å) (Ñ nt []::L):=Ģ _ _ _ _ _ _ _;rw[this];rfl
   rw[e];exact hN _ F Q GG Kh
 |n+9,h=>exact absurd h Z
end
section
variable{N:Jd}{l:e5}{f:Option â}
theorem ain(s:gl l)(K:¬l.q)(G:DT (Æ (Â ⟨J,0,Á⟩) n j) (Â ⟨j6,0,Á⟩) b m i d)(hiq:i<b)(AX:b<1000)(hn:0<n)(u5:n<1000)(Yf:l.O J)(cd:l.w.cell? ⟨J,i%n,Á⟩=Â (è<|Â k))(QU:l.M j6) (i0:l.w.cell? ⟨j6,i*4,Á⟩=Â (À f)) (i1:l.w.cell? ⟨j6,i*4+1,Á⟩=Â (Ê Î j7)) (i2:l.w.cell? ⟨j6,i*4+2,Á⟩=Â (À<|Â ⟨j9,0,Á⟩)) (i3:l.w.cell? ⟨j6,i*4+3,Á⟩=Â (À O)) (hN:∀t H,iq e9 l t->DT (Æ (Â ⟨J,0,Á⟩) n j) (Â ⟨j6,0,Á⟩) b m (i+1) H->fe Ä Ò N t (Bg H qX)): fe Ä Ò (zS Ä Ò k (Đ #[À f,Ê Î j7,À<|Â ⟨j9,0,Á⟩,À O]) N) l (Bg d qX):=by
 obtain⟨y0,y1,y2,y3,y4,y5,y6,y7,y8,y9,uU,wA,uV,qd,ri,pz,tE,tF,rj,rm,rn,qe,qf,qg,pg,p7,pj,nJ,mP,oh,om,ot,rfl⟩:=GA d G.r;obtain rfl:y1=Æ (Â ⟨J,0,Á⟩) n j:=by simpa using G.C
 obtain rfl:y8=Æ (Â ⟨j6,0,Á⟩) b m:=by simpa using G.t8
 obtain rfl:y9=Ê Î b:=by simpa using G.M
 obtain rfl:uU=Ê Î i:=by simpa using G.I
 have rp:∀y:â,False->l.r y:=λy ha=>ha.elim;have arW:(i:Int)<(b:Int):=Z
 have hF:True:=trivial;simp only[Bg];conv in Ke=>whnf
 apply gi (n:=30) s.r;repeat w_go fA
 refine Ë λ_ _=> ?_;have g:∀c,gR l ⟨j6,c,Á⟩:=λc=>Ã QU;refine tB (v:=Đ #[À f,Ê Î j7,À<|Â ⟨j9,0,Á⟩,À O]) U U (by k_ne) s.r K (λo r=> ?_) (λo r e h=> ?_) ?_
 .have u:=((g<|i*4).r r).trans i0;have z:=((g<|i*4+1).r r).trans i1;have B:=((g<|i*4+2).r r).trans i2;have C:=((g<|i*4+3).r r).trans i3;go_simp
 .have u:=((g<|i*4).r r).trans i0;have z:=((g<|i*4+1).r r).trans i1;have B:=((g<|i*4+2).r r).trans i2;have C:=((g<|i*4+3).r r).trans i3;simp[go_sem,u,z,B,C]at h;rcases h with rfl|rfl|rfl|rfl
  .exact(g _).C
  .exact(g _).C
  .exact(g _).C
  .exact(g _).C
 walk_nrm;refine FZ (ob:=É #[À Á,Ê Î 0,À Á,À Á] 155) U U (by k_ne) s.r K (λw=>by go_simp) (λw=>by simp[go_sem]) λo X=> ?_;walk_nrm;have D:iq e9 l (gI l o<|É #[À Á,Ê Î 0,À Á,À Á] 155):=JC s rp X;have L:(gI l o<|É #[À Á,Ê Î 0,À Á,À Á] 155).w.heap[o.heap.size]?=Â (É #[À Á,Ê Î 0,À Á,À Á] 155):=nn;have su:l.w.heap.size<=o.heap.size:=X.r;have q:(gI l o<|É #[À Á,Ê Î 0,À Á,À Á] 155).O o.heap.size:=Ç U;generalize gI l o (É #[À Á,Ê Î 0,À Á,À Á] 155)=l₁ at D L q|-;generalize o.heap.size=tb at L q su|-;apply gi (n:=3) D.fl;w_go fA;refine Ë λ_ _=> ?_;refine uR U U (by k_ne) λr P=> ?_;have E:r.heap[tb]?=_:=(P.I tb<|Ã q).trans L;have u:r.cell? ⟨tb,0,Á⟩=Â (À Á):=by simp[Ö,E]
 have z:r.cell? ⟨tb,1,Á⟩=Â (Ê Î 0):=by simp[Ö,E]
 have B:r.cell? ⟨tb,2,Á⟩=Â (À Á):=by simp[Ö,E]
 have C:r.cell? ⟨tb,3,Á⟩=Â (À Á):=by simp[Ö,E]
 have hz:∀c,r.frozen? ⟨tb,c,Á⟩=Ì:=λc=>by simp[î,E]
 go_simp;refine⟨{l₁ with w:=iL r tb (À f) (Ê Î j7) (À<|Â ⟨j9,0,Á⟩) (À O)},JD (p:=tb) (lX D.fl P) (by rwa[D.q]) q wz (λc x=>yr x) ⟨U,U,U⟩ λe h=> ?_,?_⟩
 .have a:=đ h;have e:∀c,pw l₁ ⟨tb,c,Á⟩:=λc=>Ã q;simp[go_sem,á _ _ _ _ _ _ (show Ø (À f)=Ò from rfl),á _ _ _ _ _ _ (show Ø (À<|Â ⟨j9,0,Á⟩)=Ò from rfl),á _ _ _ _ _ _ (show Ø (À O)=Ò from rfl),u,z,B,C,hz]at a;rcases a with rfl|rfl|rfl|rfl
  .exact(e _).r
  .exact(e _).r
  .exact(e _).r
  .exact(e _).r
 let⟨Q,S,T,V⟩:=P1 (v0:=À f) (v1:=Ê Î j7) (v2:=À<|Â ⟨j9,0,Á⟩) (v3:=À O) u z B C;have F:=P3 (w':=iL r tb (À f) (Ê Î j7) (À<|Â ⟨j9,0,Á⟩)<|À O) s rp D P su wz λc x=>yr x;have AO:({l₁ with w:=iL r tb (À f) (Ê Î j7) (À<|Â ⟨j9,0,Á⟩) (À O)}:e5).O tb:=q;replace Q:({l₁ with w:=iL r tb (À f) (Ê Î j7) (À<|Â ⟨j9,0,Á⟩) (À O)}:e5).w.cell? ⟨tb,0,Á⟩=_:=Q;replace S:({l₁ with w:=iL r tb (À f) (Ê Î j7) (À<|Â ⟨j9,0,Á⟩) (À O)}:e5).w.cell? ⟨tb,1,Á⟩=_:=S;replace T:({l₁ with w:=iL r tb (À f) (Ê Î j7) (À<|Â ⟨j9,0,Á⟩) (À O)}:e5).w.cell? ⟨tb,2,Á⟩=_:=T;replace V:({l₁ with w:=iL r tb (À f) (Ê Î j7) (À<|Â ⟨j9,0,Á⟩) (À O)}:e5).w.cell? ⟨tb,3,Á⟩=_:=V;generalize({l₁ with w:=iL r tb (À f) (Ê Î j7) (À<|Â ⟨j9,0,Á⟩) (À O)}:e5)=l₂ at Q S T V F AO|-;clear L q D E u z B C hz P r l₁ X o;have W:=F.G s;have pA:¬l₂.q:=by rwa[F.q]
 have cd2:l₂.w.cell? ⟨J,i%n,Á⟩=Â (è<|Â k):=(gE<|F.r J<|Ã Yf).trans cd;apply gi (n:=5) W.r;w_go fA;refine Ë λ_ _=> ?_;refine aif (II nt #[y0,Æ (Â ⟨J,0,Á⟩) n j,y2,y3,Ê Î i,À<|Â ⟨tb,0,Á⟩,y6,y7,Æ (Â ⟨j6,0,Á⟩) b m,Ê Î b,Ê Î i,ŝ Ò,Ê Î i,À<|Â ⟨j6,i*4,Á⟩,Đ #[À f,Ê Î j7,À<|Â ⟨j9,0,Á⟩,À O],pz,tE,tF,rj,rm,rn,qe,qf,qg,pg,p7,pj,nJ,mP,oh,om,ot] (tN J n i (i%n) k (Æ (Â ⟨J,0,Á⟩) n j)<|Đ #[À f,Ê Î j7,À<|Â ⟨j9,0,Á⟩,À O])<|Kf l₂) W.r pA (λa x=> ?_) (λY listed a t i' rest hI I e GB=>aii (J:=zS Ä Ò k (Đ #[À f,Ê Î j7,À<|Â ⟨j9,0,Á⟩,À O]) N) (N:=N) W pA U U U U AO (F.O J Yf) hn u5 Z U cd2 Q S T V (λl H _ _ _ h=>h) (λt H hA hs h=> ?_) Y listed a t i' rest hI I e GB) λY listed a j4 hI I yv=> ?_
 .exact⟨(),mA.G _ _ _,(iq.fO W.r).N (λ_ b=>b.elim) ⟨x.r,x.I,x.N,x.Y,x.S⟩,A⟩
 .have x:=F.e8 hA;have a:=(h 1 A).trans (show _=Â (Æ (Â ⟨J,0,Á⟩) n j)from U);have o8:=(h 8 A).trans (show _=Â (Æ (Â ⟨j6,0,Á⟩) b m)from U);have o9:=(h 9 A).trans (show _=Â (Ê Î b)from U);have o10:=(h 10 A).trans (show _=Â (Ê Î i)from U);clear h;obtain⟨x0,x1,x2,x3,x4,x5,x6,x7,x8,x9,Xx,x11,x12,x13,x14,x15,x16,x17,x18,x19,x20,x21,x22,x23,x24,x25,x26,x27,x28,x29,x30,x31,rfl⟩:=GA H hs;obtain rfl:x1=Æ (Â ⟨J,0,Á⟩) n j:=by simpa using a
  obtain rfl:x8=Æ (Â ⟨j6,0,Á⟩) b m:=by simpa using o8
  obtain rfl:x9=Ê Î b:=by simpa using o9
  obtain rfl:Xx=Ê Î i:=by simpa using o10
  apply gi (n:=9) x.fl;iterate 7 w_go fA
  refine Ë λ_ _=> ?_;refine hN t _ x ⟨U,U,U,U,?_⟩;simp;grind [AN]
 .let⟨x,a,h,h8⟩:=hI;have pB:∀i∈ã 9,listed.getD i Ì=Ò:=by
   cases Y
   .exact py yv I (ã 9) [] fR λi e=>by cases e
   .exact py yv I (ã 9) [] fR λi e=>by cases e
   .exact py yv I (ã 9) [] fR λi e=>by cases e
  grind
end
noncomputable def Bh (t:Array Ï) (a:List é):Ý:=G ((base 52).at ⟨t,[]⟩ [ö Kb,ą Kb,ô 2]) a
structure ET(dv:Ï)(n j:Nat)(t:Array Ï):Prop where
 r:t.size=32
 aio:t[24]?=Â dv
 C:t[25]?=Â (Ê Î n)
 I:t[26]?=Â (Ê Î j)
def GH(t:Array Ï):é:=(base 37).at ⟨t,[]⟩ [Ñ JN [2],ö<|(ä 13 JO Ì).seq JP]
def Dl(t:Array Ï)(a:List é):Ý:=G ((base 37).at ⟨t,[]⟩ [Ñ JO [],ö JP]) a
structure SE(ba all np:Nat)(t:Array Ï):Prop where
 r:t.size=49
 I:t[8]?=Â (À<|Â ⟨ba,0,Á⟩)
 C:t[11]?=Â (À<|Â ⟨np,0,Á⟩)
 Qi:t[12]?=Â (À<|Â ⟨all,0,Á⟩)
section
variable{J a N:Jd}{l:e5}{t:Array Ï}{ba all np:Nat}{dv:Ï}
def aip(e:jW l)(a:ST ba all np n n (Æ O k j9) dv t)(f:∀b d,DT dv O k j9 0 b->SE ba all np d->fe Ä Ò J l (Bg b<|GH d::qX)):fe Ä Ò J l (AU t qX):=by
 obtain⟨p,q,r,s,u,v,w,x,g,y,h,i,j,c,z,B,C,D,E,F,G,H,I,K,L,M,N,m,o,P,Q,S,T,V,W,X,Y,qR,qS,qT,qU,qV,qW,qY,qZ,re,mr,my,pv,rfl⟩:=Gn t a.r;obtain rfl:g=À (Â ⟨ba,0,Á⟩):=by simpa using a.a
 obtain rfl:h=Æ O k j9:=by simpa using a.C
 obtain rfl:i=À (Â ⟨np,0,Á⟩):=by simpa using a.I
 obtain rfl:j=À (Â ⟨all,0,Á⟩):=by simpa using a.M
 obtain rfl:dv=c:=(show c=dv by simpa using a.N).symm;obtain rfl:m=Ê Î n:=by simpa using a.S
 obtain rfl:o=Ê Î n:=by simpa using a.Y
 have hF:True:=trivial;apply gi (n:=40) e;simp only[AU,Df,Qg];iterate 7 w_go fA
 simp only[JQ,JN];iterate 4 w_go fA
 u_call ŵ fR Ŗ fA hF
 iterate 9 w_go fA
 refine Ë λ_ _=> ?_;exact f _ _ ⟨U,U,U,U,U⟩ ⟨U,U,U,U⟩
def aiq(d:jW l)(a:DT (Æ (Â ⟨j7,0,Á⟩) n b) O k j9 k t)(e:∀c,ET (Æ (Â ⟨j7,0,Á⟩) n b) n 0 c->fe Ä Ò J l (Bh c qX)):fe Ä Ò J l (Bg t qX):=by
 obtain⟨i,f,j,m,o,p,q,r,s,g,h,u,v,w,x,y,z,B,C,D,E,F,G,H,I,K,L,M,N,P,Q,S,rfl⟩:=GA t a.r;obtain rfl:f=Æ (Â ⟨j7,0,Á⟩) n b:=by simpa using a.C
 obtain rfl:g=Ê Î k:=by simpa using a.M
 obtain rfl:h=Ê Î k:=by simpa using a.I
 have hF:True:=trivial;apply gi (n:=40) d;simp only[Bg];conv in Ke=>whnf
 iterate 7 w_go fA
 conv in Yd=>whnf
 iterate 8 w_go fA
 refine Ë λ_ _=> ?_;exact e _ ⟨U,U,U,U⟩
def air(a:gl l)(g:¬l.q)(c:ET (Æ (Â ⟨j7,0,Á⟩) n b) n j t)(z:j<n)(B:n<1000)(i:l.O j7)(o:l.w.cell? ⟨j7,j,Á⟩=Â (è<|Â m)) (p:∀d e,iq e9 l d->ET (Æ (Â ⟨j7,0,Á⟩) n b) n (j+1) e->fe Ä Ò N d (Bh e qX)):fe Ä Ò (IJ Ä Ò m N) l (Bh t qX):=by
 obtain⟨C,D,F,G,H,I,J,K,L,M,P,Q,S,T,V,W,X,Y,rj,rm,rn,qe,qf,qg,q,u,v,nJ,mP,oh,om,ot,rfl⟩:=GA t c.r;obtain rfl:q=Æ (Â ⟨j7,0,Á⟩) n b:=by simpa using c.aio
 obtain rfl:u=Ê Î n:=by simpa using c.C
 obtain rfl:v=Ê Î j:=by simpa using c.I
 have hF:True:=trivial;apply gi (n:=40) a.r;simp only[Bh];conv in Kb=>whnf
 repeat w_go fA
 refine Ë λ_ _=> ?_;apply nK (x:=⟨j7,j,Á⟩) U U (by k_ne) a.r g (Ã<|Ã i) o (λw h=>by go_simp) (λw h=>by simp[go_sem,h]);walk_nrm;apply gi (n:=40) a.r;iterate 4 w_go fA
 refine Ë λ_ _=> ?_;refine .fu λw₁ y=>⟨U,U,_,U,λxH cap buf s r tm h=>(stepG_close U U (by k_ne) U U h fR).trans U,?_⟩;walk_nrm;have f:=(iq.fO (E:=e9) a.r).N (λ_ k=>k.elim) y;apply gi (n:=20) f.fl;iterate 7 w_go fA
 refine Ë λ_ _=> ?_;refine p _ _ f ⟨U,U,U,?_⟩;simp;exact AN Z Z
def ais(e:gl l)(g:l.d=0)(p:60<=i)(f:ET dv n n t)(c:SE ba all np d)(j:l.K ⟨all,0,Á⟩/\l.K ⟨all,1,Á⟩)(q:mO all l.w) (r:∀m o,iq e9 l m->SE ba all np o->a m (Dl o qX)):fe Ä Ò (pZ Ä Ò i all a .iP) l (Bh t<|GH d::qX):=by
 obtain⟨G,H,I,J,L,M,N,P,Q,S,T,V,W,X,Y,pz,tE,tF,rj,rm,rn,qe,qf,qg,pg,s,u,nJ,mP,oh,om,ot,rfl⟩:=GA t f.r;obtain rfl:s=Ê Î n:=by simpa using f.C
 obtain rfl:u=Ê Î n:=by simpa using f.I
 have hF:True:=trivial;apply gi (n:=40) e.r;simp only[Bh,GH,JN];conv in Kb=>whnf
 iterate 8 w_go fA
 obtain⟨z0,z1,z2,z3,z4,z5,z6,z7,v,z9,z10,x,y,z13,z14,z15,z16,z17,z18,z19,z20,z21,z22,z23,z24,z25,z26,z27,z28,z29,z30,z31,z32,z33,z34,z35,z36,z37,z38,z39,z40,z41,z42,z43,z44,z45,z46,z47,z48,rfl⟩:=Gn d c.r;obtain rfl:v=À (Â ⟨ba,0,Á⟩):=by simpa using c.I
 obtain rfl:x=À (Â ⟨np,0,Á⟩):=by simpa using c.C
 obtain rfl:y=À (Â ⟨all,0,Á⟩):=by simpa using c.Qi
 u_leave0 ŵ fA hF
 simp only[JO];iterate 3 w_go fA
 u_call qc.f_wait (nm_wait Lk) waitFn fA hF
 refine Ë λ_ _=> ?_;refine Xg qc p (⟨Ã j.1,Ã j.2,λw z b B C D F h=>h.e8 ⟨b,B,C,D,F⟩⟩) ⟨e.r,q,fD.fO _ _⟩ g λz B=> ?_;walk_nrm;refine .fu λC b=> ?_;have h:=(iq.fO (E:=e9) e.r).N (λ_ k=>k.elim)<|B.2.2.e8 ⟨b.r,b.I,b.N,b.Y,b.S⟩;exact r {l with d:=0,w:=C} _ ⟨h.O,h.h,h.Y,h.I,h.c,h.K,h.q,g.symm,h.fl,h.f,h.r,h.e,h.S,h.b,h.g⟩ ⟨U,U,U,U⟩
end
def u6(a:Nat)(b c:Ï)(_:Unit):Nat->Ï
 |0=>b
 |1=>À<|Â ⟨a,0,Á⟩
 |2=>À<|Â ⟨a,0,Á⟩
 |3=>À<|Â ⟨a,2,Á⟩
 |4=>c
 |5=>b
 |_=>c
def Ki(a:e5)(_:Array Bool)(_:Unit)(l:e5):Prop:=fX e9 a l
section
variable{J:Jd}{g:e5}{h:Option â}
def ait(K:¬g.q)(N:q.size=49)(P:q[8]?=Â (À<|Â ⟨m,0,Á⟩))(Q:q[11]?=Â (À<|Â ⟨j9,0,Á⟩))(E:g.M m)(F:gR g ⟨j9,2,Á⟩)(S:g.w.cell? ⟨m,0,Á⟩=Â (Æ O b n))(T:g.w.cell? ⟨j9,2,Á⟩=Â (Æ h j6 j7)) (md:ý) (listed:Array Bool) (y:ŏ) (l:e5) (i:Nat) (jJ:List Nat) (V:II wD q (u6 j9 (Æ O b n)<|Æ h j6 j7) (Ki g) listed y l) (k:i∈Û md wD listed): fe Ä Ò (λc d=>∃a,d=G ((base 37).at a<|Ñ wD jJ::L) qX/\II wD q (u6 j9 (Æ O b n)<|Æ h j6 j7) (Ki g) (listed.setIfInBounds i Ò) a c) l (G ((base 37).at y<|Ñ wD (i::jJ)::L) qX):=by
 let⟨x,j,p⟩:=V;have s:tC wD q.size=Ò:=by rw[N];decide
 have H:=CR k;have t:=p.fl;have u:¬l.q:=by rwa[show l.q=g.q from p.q]
 have W:=(j.C A).trans P;have X:=(j.C A).trans Q;have B:gR l ⟨m,0,Á⟩:=Ã<|p.M E;have D:gR l ⟨j9,2,Á⟩:=F.imp (λa=>p.M a) λa=>by rwa[p.C]
 have I:=(gE<|p.r m E id).trans S;have J:l.w.cell? ⟨j9,2,Á⟩=Â (Æ h j6 j7):=by
  refine Ŀ ?_ T;rcases F with a|a
  .exact gE<|p.r _ a id
  .exact p.f _ a
 have v:∀{c:Nat},∀d,fD l l.w d->Ki g (listed.setIfInBounds c Ò) () {l with w:=d}:=λd r=>p.G r;have Y:wD.size=7:=A
 rw[Y]at H;match i,H with
 |0,_=>
  refine gZ (o:=Gb) s j U U k (by k_ne) t u (λd r=> ?_) (λd r e f=> ?_) v
  .have z:=(B.r r).trans I;simp only[u6,Gb];go_simp
  .have z:=(B.r r).trans I;simp[go_sem,Gb,W,z]at f;subst f;exact B.C
 |4,_=>
  have h47:y.tmps[47]?=Â (À<|Â ⟨j9,2,Á⟩):=j.r 3 Ge 47 U (gX k U U) U;refine gZ (o:=Gf) s j U U k (by k_ne) t u (λd r=> ?_) (λd r e f=> ?_) v
  .have z:=(D.r r).trans J;simp only[u6,Gf];go_simp
  .have z:=(D.r r).trans J;simp[go_sem,Gf,h47,z]at f;subst f;exact D.C
 |1,_=>
  refine gZ (o:=Gc) s j U U k (by k_ne) t u (λd r=> ?_) (λd r e f=> ?_) v
  .simp only[u6,Gc];go_simp
  .simp[go_sem,Gc,X]at f
 |2,_=>
  have z:y.tmps[45]?=Â (À<|Â ⟨j9,0,Á⟩):=j.r 1 Gc 45 U (gX k U U) U;refine gZ (o:=Gd) s j U U k (by k_ne) t u (λd r=> ?_) (λd r e f=> ?_) v
  .simp only[u6,Gd];go_simp
  .simp[go_sem,Gd,z]at f
 |3,_=>
  have z:y.tmps[46]?=Â (À<|Â ⟨j9,0,Á⟩):=j.r 2 Gd 46 U (gX k U U) U;refine gZ (o:=Ge) s j U U k (by k_ne) t u (λd r=> ?_) (λd r e f=> ?_) v
  .simp only[u6,Ge];go_simp
  .simp[go_sem,Ge,z]at f
 |5,_=>
  have z:y.tmps[44]?=Â (Æ O b n):=j.r 0 Gb 44 U (gX k U U) U;refine gZ (o:=Gi) s j U U k (by k_ne) t u (λd r=> ?_) (λd r e f=> ?_) v
  .simp only[u6,Gi];go_simp
  .simp[go_sem,Gi,z]at f
 |6,_=>
  have z:y.tmps[48]?=Â (Æ h j6 j7):=j.r 4 Gf 48 U (gX k U U) U;refine gZ (o:=Gj) s j U U k (by k_ne) t u (λd r=> ?_) (λd r e f=> ?_) v
  .simp only[u6,Gj];go_simp
  .simp[go_sem,Gj,z]at f
def aiu(c:gl g)(t:¬g.q)(e:SE m j j9 d)(B:g.M m)(C:gR g ⟨j9,2,Á⟩)(D:g.w.cell? ⟨m,0,Á⟩=Â (Æ O b n))(E:g.w.cell? ⟨j9,2,Á⟩=Â (Æ h j6 j7)) (F:∀u,fX e9 g u->fe Ä Ò J u (G (f.at (y.put ((Q[i]?).bind (·.dst))<|ñ #[Æ O b n,Æ h j6 j7])<|Ñ Q jJ::L) qX)): fe Ä Ò J g (Dl d<|f.at y (Ñ Q (i::jJ)::L)::qX):=by
 have hF:=trivial;apply gi (n:=9) c.r;simp only[Dl,JP];iterate 2 w_go fA
 refine Ë λ_ _=> ?_;refine PL (II wD d (u6 j9 (Æ O b n)<|Æ h j6 j7)<|Ki g) c.r t (λl a=>⟨(),mA.G _ _ _,(fX.fO c.r).G ⟨a.r,a.I,a.N,a.Y,a.S⟩⟩) (λk o y l i jJ p a=>ait t e.r e.I e.C B C D E k o y l i jJ p a) λk o H I p r s=> ?_;let⟨x,l,K⟩:=p;have v:∀i∈ã 7,o.getD i Ì=Ò:=by
  cases k
  .exact py s r (ã 7) [] fR λi a=>by cases a
  .exact λi a=>py s r [0,5,1,2,3,4,6] [] fR (λi a=>by cases a) i (by have:=Ē.1 a;revert i;decide)
  .exact py s r (ã 7) [] fR λi a=>by cases a
 let⟨a,N⟩:=H;obtain rfl:N=[]:=l.M;have P:a[6]?=Â (Æ O b n):=l.r 5 Gi 6 U (v 5 A) U;have S:a[7]?=Â (Æ h j6 j7):=l.r 6 Gj 7 U (v 6 A) U;have X:=l.S.trans e.r;have z:=K;have T:=z.N c;have V:a.getD 6 Å=Æ O b n:=by simp[ď,P]
 have W:a.getD 7 Å=Æ h j6 j7:=by simp[ď,S]
 apply gi (n:=9) T.r;iterate 2 w_go fA
 u_in fA hF
 refine goes_leave2 U U Tryz.func37 U ⟨by u_nil,?_⟩;rw[V,W];refine Ë λ_ _=>F I z
end
structure SD where
 L:Nat
 g:Nat
 n:Nat
 m:Nat
 q:Nat
 N:Nat
 I:Nat
 C:Nat->Nat
 M:Nat
 S:Nat
 s:Nat
 u:Option â
 t:Nat
 l:Option â
 k:Nat
 o:Nat->Option â
 a:Nat->Nat
 i:Nat->Option â
 c:Nat->Nat
 b:Nat->Nat
 f:List é
 d:Nat->Prop
 RC:ß->Prop
 p:ß->Prop
 γ:Type
 w:γ
 v:Nat->Prop
 h:Nat->γ->γ->Prop
 RD:γ->Ï->(Nat->Prop)->ß->Prop
 e:Nat->ByteArray
 j:Nat->ByteArray
def SD.Y(D:SD):Fx:=⟨D.L,D.m,D.I,D.C⟩
def SD.aiv(D:SD)(i:Nat):Ï:=Đ #[À<|D.i i,Ê Î<|D.c i,À<|Â ⟨D.C<|D.b i,0,Á⟩,À Á]
structure kY(D:SD)(S:Nat->Prop)(l:e5):Prop where
 C:∀b,D.Y.M b->l.K ⟨b,0,Á⟩/\l.K ⟨b,1,Á⟩
 M:∀b,D.Y.M b->mO b l.w
 c:S D.S
 d:l.w.cell? ⟨D.S,0,Á⟩=Â (Æ (Â ⟨D.M,0,Á⟩) D.N D.N)
 f:S D.s
 g:l.w.cell? ⟨D.s,0,Á⟩=Â (Æ D.u D.m D.t)
 h:∀k,k<D.m->∃b,D.u=Â ⟨b,0,Á⟩/\S b/\l.w.cell? ⟨b,k*4,Á⟩=Â (À<|D.o<|k+1)/\l.w.cell? ⟨b,k*4+1,Á⟩=Â (Ê Î<|D.a<|k+1)/\l.w.cell? ⟨b,k*4+2,Á⟩=Â (À<|Â ⟨D.C k,0,Á⟩)/\l.w.cell? ⟨b,k*4+3,Á⟩=Â (À<|Â ⟨D.C<|k+1,0,Á⟩)
 j:∀i,i<D.q->∃b,D.l=Â ⟨b,0,Á⟩/\S b/\l.w.cell? ⟨b,i*4,Á⟩=Â (À<|D.i i)/\l.w.cell? ⟨b,i*4+1,Á⟩=Â (Ê Î<|D.c i)/\l.w.cell? ⟨b,i*4+2,Á⟩=Â (À<|Â ⟨D.C<|D.b i,0,Á⟩)/\l.w.cell? ⟨b,i*4+3,Á⟩=Â (À Á)
 r:∀a,l.r a->(l.w.cell? a).isSome=Ò/\l.w.frozen? a=Ì
 Y:∀b,D.d b->S b
 e:D.RC l.w
structure SD.Ok(D:SD):Prop where
 C:∀w w',D.RC w->(∀b,D.d b->w'.heap[b]?=w.heap[b]?)->D.RC w'
 ioS:∀w w',D.p w->(w'.os=w.os/\w'.output=w.output)->D.p w'
 r:∀s sl V w w',D.RD s sl V w->(∀b,V b->w'.heap[b]?=w.heap[b]?)->D.RD s sl V w'
 I:1<=D.n
 L1:1<=D.L
 fV:D.n+D.q+D.m<1000
 N1:D.N<1000
 S:∀i,D.b i<=D.m
 a:∀i,i<D.q->D.c i<D.N
 Y:∀k,1<=k->k<=D.m->D.a k<D.N
 aiw:∀k,k<=D.m->D.C k≠D.I
 aix:∀k k',k<=D.m->k'<=D.m->D.C k=D.C k'->k=k'
 M:¬D.Y.M D.M
 pq:∀i i',i<D.q->i'<D.q->D.c i=D.c i'->i=i'
 pi:∀k k',1<=k->k<=D.m->1<=k'->k'<=D.m->D.a k=D.a k'->k=k'
 NA:∀i k,i<D.q->1<=k->k<=D.m->D.c i≠D.a k
 gd:∀b,D.Y.M b\/b=D.M->D.g<=b
section
variable{D:SD}{S:Nat->Prop}{l f:e5}
def kY.I(h:kY D S l)(ok:D.Ok)(e:∀b,S b->X b)(c:∀b,S b->f.w.heap[b]?=l.w.heap[b]?)(q:f.K=l.K)(p:∀a,l.K a->(l.w.cell? a).isSome=Ò->(f.w.cell? a).isSome=Ò)(r:∀a,f.r a->(f.w.cell? a).isSome=Ò/\f.w.frozen? a=Ì):kY D X f where
 C b hg:=by rw[q];exact h.C b hg
 M b hg:=⟨p _ (h.C b hg).1 (h.M b hg).1,p _ (h.C b hg).2 (h.M b hg).2⟩;c:=e _ h.c;d:=(gE<|c _ h.c).trans h.d;f:=e _ h.f;g:=(gE<|c _ h.f).trans h.g;h k hk:=by let⟨b,g,d,j,m,n,o⟩:=h.h k hk;exact⟨b,g,e b d,(gE<|c b d).trans j,(gE<|c b d).trans m,(gE<|c b d).trans n,(gE<|c b d).trans o⟩
 j i hi:=by let⟨b,g,d,j,m,n,o⟩:=h.j i hi;exact⟨b,g,e b d,(gE<|c b d).trans j,(gE<|c b d).trans m,(gE<|c b d).trans n,(gE<|c b d).trans o⟩
 r:=r;Y b d:=e b<|h.Y b d;e:=ok.C _ _ h.e λb d=>c b<|h.Y b d
def kY.G(h:kY D S l)(ok:D.Ok)(c:∀b,S b->l.M b)(r:fD l l.w u):kY D S {l with w:=u}:= h.I ok (λ_ q=>q) (λb q=>r.I b<|c b q) U r.S λa q=>by have:=h.r a q;exact⟨by show(u.cell? a).isSome=Ò;rw[r.N a<|Ã q];exact this.1,(r.Y a<|Ã q).trans this.2⟩
def kY.QV{E:â->Prop}(h:kY D S l)(ok:D.Ok)(g:∀b,S b->l.M b)(c:iq E l f):kY D S f:= h.I ok (λ_ q=>q) (λb q=>c.r b<|g b q) c.K c.b λa q=>by
  rw[c.I]at q;let⟨d,i⟩:=h.r a q;refine⟨?_,(c.S a<|Ã q).trans i⟩;by_cases e:E a
  .exact c.g a e d
  .rwa[c.e a (Ã q) e]
def kY.aiy(h:kY D S l)(ok:D.Ok)(d:∀b,S b->l.M b/\¬X b)(c:fX X l f):kY D S f:= h.I ok (λ_ q=>q) (λb q=>c.r b (d b q).1 (d b q).2) c.K c.e λa q=>by rw[c.Y]at q;let⟨e,g⟩:=h.r a q;exact⟨by rwa[c.f a<|Ã q],(c.g a<|Ã q).trans g⟩
def kY.N(h:kY D S l)(a:∀b,S b->X b):kY D X l:=⟨h.C,h.M,a _ h.c,h.d,a _ h.f,h.g,λk c=>let⟨b,d,e,f⟩:=h.h k c;⟨b,d,a b e,f⟩,λk c=>let⟨b,d,e,f⟩:=h.j k c;⟨b,d,a b e,f⟩,h.r,λb q=>a b<|h.Y b q,h.e⟩
end
section
variable(D:SD)
def jv(a:Nat->Nat)(j:Nat):List Ï:=(ã j).map λi=>è<|Â<|a i
def Bj(k:Nat):Jd:=λl g=>l.d=0/\¬l.q/\kY D l.M l/\∃t a b c e f h i j n o,AL D.M D.N D.u D.m D.t k t/\l.M a/\l.w.cell? ⟨a,0,Á⟩=Â (À<|Â ⟨D.I,0,Á⟩)/\g=yt t [uW h i j n o,yw a b c e f,nk Ä]
def Yg(c i:Nat):Jd:=λl g=>l.d=0/\¬l.q/\kY D l.M l/\∃t a b e f h j k m n o p,QT D.M D.N c t/\t[4]?=Â (À<|Â ⟨a,0,Á⟩)/\l.O a/\l.w.cell? ⟨a,0,Á⟩=Â (À<|D.i i)/\l.w.cell? ⟨a,1,Á⟩=Â (Ê Î<|D.c i)/\l.w.cell? ⟨a,2,Á⟩=Â (À<|Â ⟨D.C<|D.b i,0,Á⟩)/\l.M b/\l.w.cell? ⟨b,0,Á⟩=Â (À<|Â ⟨D.I,0,Á⟩)/\g=JH t [F7 k m n o p,yw b e f h j,nk Ä]
def aiz:Jd:=λl g=>kY D l.M l/\∃t a b c,Gm D.S D.I (D.C D.m) D.n (Æ D.l D.q D.k) t/\gU l a (É #[À<|Â ⟨D.I,0,Á⟩] 162)/\gU l b (É #[Ĉ (ù 48) #[] #[À<|Â ⟨D.s,0,Á⟩,À<|Â ⟨D.S,0,Á⟩]] 1)/\g=AV (À<|Â ⟨D.I,0,Á⟩) c (À<|Â ⟨D.I,0,Á⟩) (ñ #[]) a b (Dg t::D.f)
def aiA(j:Nat)(a:Nat->Nat):Jd:=λl g=>kY D l.I l/\∃t e c b d f,ST D.S D.I (D.C D.m) D.n (j-1) (Æ D.l D.q D.k) e t/\XP D.S D.I D.q e (jv a j) (a<|j-1) c b d l/\a (j-1)<c/\c<b/\b<d/\(∀k,e.ownBlock=Â k->k≠a (j-1)/\k≠c/\k≠b/\k≠d)/\D.g<=a (j-1)/\g=AV (À<|Â ⟨D.I,0,Á⟩) f (À<|Â ⟨D.I,0,Á⟩) (ñ #[]) b d (JR t::D.f)
def Kj(j:Nat)(a:Nat->Nat):Jd:=λl g=>l.d=0/\¬l.q/\D.g<=l.w.heap.size/\((j=0/\aiz D l g)\/(1<=j/\aiA D j a l g))
def Yh:Jd:=λl g=>l.d=0/\¬l.q/\kY D l.I l/\∃a,SE D.S D.I (D.C D.m) a/\g=Dl a D.f
def SD.r(P:ė):Ph where
 toFx:=D.Y
 P:=P
 S:=D.g
 n:=D.n
 q:=D.q
 Y:=D.M
 f:=D.N
 r:=D.b
 a:=D.c
 b:=D.a
 c:=D.aiv
 z:=zT
 B:=60
 γ:=D.γ
 l:=D.w
 i:=D.v
 p:=D.h
 d:=λk s V w=>(∃a,w.cell? ⟨D.C k,2,Á⟩=Â a/\D.RD s a V w)/\(k=0->w.cell? ⟨D.M,D.N,Á⟩=Á/\kE w D.M=Â (0,0)/\D.p w)
 o:=D.e
 k:=D.j
 g:=Kj D
 h:=Bj D
 e:=Yg D
 j:=λ_=>Yh D
end
def Dm(D:SD):Prop:=∀k s e V l,k<D.m->mL (D.r Ä) k s->D.RD s e V l.w->(∀b,V b->l.M b)->gl l->¬l.q->(∀b,D.d b->l.M b)->D.RC l.w->∀f g,fe Ä Ì (λa j=>a.d=l.d/\∃p n c,j=G (f.finish<|ñ #[Æ p n c,à<|D.e<|k+1]) g/\∃h i,D.h k s h/\D.RD h (Æ p n c) i a.w/\∀b,i b->a.M b) (lG l)<|G (Ă Ä 66 #[e,À<|D.o<|k+1] Ğ)<|f::g
def Dn(D:SD):Prop:=∀i s a V l,i<D.q->mL (D.r Ä) (D.b i) s->D.RD s a V l.w->(∀b,V b->l.M b)->gl l->¬l.q->(∀b,D.d b->l.M b)->D.RC l.w->∀b c,fe Ä Ì (λe f=>e.d=l.d/\f=G (b.finish<|à<|D.j i) c) (lG l)<|G (Ă Ä 67 #[a,À<|D.i i] Ğ)<|b::c
section
variable{D:SD}
def GI(k:Nat)(a:k<=D.m):D.Y.M (D.C k):=Ç ⟨k,a,U⟩
def yC:D.Y.M D.I:=Ã U
def aiB(ok:D.Ok):(D.r Ä).Ok:=⟨ok.I,ok.L1,ok.fV,λi _=>ok.S i,ok.aiw,ok.aix,ok.M,ok.pq,ok.pi,ok.NA,ok.gd,⟨λk a b e=>by have c:D.a k=D.N:=e;have:=ok.Y k a b;omega,λi d e=>by have c:D.c i=D.N:=e;have:=ok.a i d;omega⟩⟩
theorem aiC(ok:D.Ok)(tq:Dm D):∀k s V l g,k<D.m->Bj D k l g->gl l->mL (D.r Ä) k s->(D.r Ä).d k s V l.w->(∀b,V b->l.I b)->l.N (iW D.Y k)->l.r (iW D.Y<|k+1)->l.r (jd (D.r Ä)<|D.a<|k+1)->∀B:Nat->D.γ,B k=s->fe Ä Ì (JI (D.r Ä) B<|.mk (k+1)) l g:=by
 intro k s V l g o hJ Dk QW An hV tD C E B hsg;obtain⟨hd,F,f,t,G,v1,v2,v3,v4,u0,u1,u2,u3,u4,hT,A4,cbw,rfl⟩:=hJ;let⟨⟨sl,hsl,qk⟩,_⟩:=An;let⟨b,yu,hbM,i0,i1,i2,i3⟩:=f.h k o;have Fz:=ok.fV;have kT:(⟨D.C<|k+1,2,Á⟩:â)≠⟨D.M,D.a<|k+1,Á⟩:=λe=>ok.M (by injection e with H _ _;rw[<-H];exact GI (k+1) o);have Ab:AL D.M D.N (Â ⟨b,0,Á⟩) D.m D.t k t:=by rwa[<-yu]
 have⟨oc1,oz1⟩:=f.r _ C;have⟨oc2,oz2⟩:=f.r _ E;have rp:∀a:â,(a=⟨D.C<|k+1,2,Á⟩\/a=⟨D.M,D.a<|k+1,Á⟩)->l.r a:=λa p=>by rcases p with rfl|rfl;exact C;exact E
 have r:=f.C _<|GI (k+1) o;have Yi:=f.M _<|GI (k+1) o;refine fe.fH (Stop:=λl g=>(∃i n,D.h k s i/\(D.r Ä).d (k+1) i n l.w/\(∀b,n b->l.M b)/\l.w.cell? ⟨D.M,D.a<|k+1,Á⟩=Â (à<|D.e<|k+1))/\xT Ä Ì (D.C<|k+1) (fe Ä Ì<|Bj D<|k+1) (pd (D.r Ä) l<|k+1) g) (λl g h=> ?_) ?_
 .let⟨⟨i,n,I,J,L,O⟩,P⟩:=h;exact⟨i,n,by subst hsg;exact I,J,L,O,P⟩
 refine ag6 (Q:=λv x y=>x=D.e (k+1)/\∃i n,D.h k s i/\D.RD i v n y.w/\∀b,n b->y.M b) (τ:=λl=>pd (D.r Ä) l<|k+1) Dk F hd Ab o Z (by have:=ok.N1;omega) (ok.Y (k+1) Z o) hbM i0 i1 i2 i3 tD hsl C E oc1 oc2 oz1 oz2 kT (λc v j u=> ?_) λc x v hQ P9 JG=> ?_
 .refine(tq k s sl V c o QW (ok.r _ _ _ _ _ qk λb x=>v.r b<|Ç<|hV b x) (λb x=>v.M<|Ç<|hV b x) (v.G Dk) (by rwa[v.q]) (λb x=>v.M<|f.Y b x) (ok.C _ _ f.e λb x=>v.r b<|f.Y b x) j u).fH ?_;grind
 .let⟨y,⟨hstr,i,n,hnx,aiD,Yj⟩,hy⟩:=hQ;rw[hstr]at JG;have Yk:mO (D.C<|k+1) c.w:=⟨v.b _ r.1 Yi.1,v.b _ r.2 Yi.2⟩;refine⟨⟨Ã (by rw[v.K];exact r.1),Ã (by rw[v.K];exact r.2),λ_ _ _ _ _ _ _ _=>trivial⟩,⟨v.fl,Yk,trivial⟩,⟨i,n,hnx,⟨⟨_,P9,ok.r _ _ _ _ _ aiD λb x=>(hy b<|Yj b x).2⟩,λe=>by omega⟩,λb x=>(hy b<|Yj b x).1,JG⟩,v.d.trans hd,λw=>fD (pd (D.r Ä) c<|k+1) c.w w,⟨Ã (by show c.K _;rw[v.K];exact r.1),Ã (by show c.K _;rw[v.K];exact r.2),λw w₁ I J L O P h=>h.e8 ⟨I,J,L,O,P⟩⟩,⟨λj h=>h.elim,Yk,fD.fO _ _⟩,λxH t' aiE Wl=> ?_⟩;refine .fu λS u=> ?_;have z:=aiE.2.2.e8 ⟨u.r,u.I,u.N,u.Y,u.S⟩;have x:=λb x=>(z.I b<|Ç<|v.M x).trans<|v.r b x;have Yl:∀b,l.M b->({pd (D.r Ä) c (k+1)with d:=0,w:=S}:e5).M b:=λb x=>Ç<|v.M x;refine⟨U,by show¬c.q;rwa[v.q],f.I ok Yl x (by show c.K=l.K;exact v.K) (λa p h=>z.S a (by show c.K a;rwa[v.K])<|v.b a p h) λa p=> ?_,t',G,v1,v2,v3,v4,u0,u1,u2,u3,u4,by rwa[yu],Yl G A4,(gE<|x G A4).trans cbw,U⟩;obtain⟨T,W,X⟩:c.r a/\a≠⟨D.M,D.a<|k+1,Á⟩/\a≠⟨D.C<|k+1,2,Á⟩:=p;have Y:l.r a:=by rwa[<-v.I]
  let⟨H,e2⟩:=f.r a Y;refine⟨?_,?_⟩
  .show(S.cell? a).isSome=Ò;rwa[z.N a<|Ã ⟨T,W,X⟩,v.e a (Ã Y) λq=>q.elim X W]
  .show S.frozen? a=Ì;rwa[z.Y a<|Ã ⟨T,W,X⟩,v.S a<|Ã Y]
def aiF:∀l g,Bj D D.m l g->gl l->fe Ä Ì (zY<|D.r Ä) l g:=by intro l g c d;obtain⟨e,f,b,t,k,n,o,p,q,r,s,u,v,w,h,i,j,rfl⟩:=c;have a:=b.C _<|yC;exact ahe (Ψ:=λ_=>True) h a ⟨Ã a.1,Ã a.2,λ_ _ _ _ _ _ _ _=>trivial⟩ ⟨d.r,b.M _ yC,trivial⟩ e f (Ã i) j
def Ym(ok:D.Ok){r:Nat}{l:e5}{t:Array Ï}{g h m o p:Ï}(B:gl l)(s:¬l.q)(C:l.d=0)(a:kY D l.M l)(E:QT D.M D.N i t)(f:l.M k)(u:l.w.cell? ⟨k,0,Á⟩=Â (À<|Â ⟨D.I,0,Á⟩)): Cq (D.r Ä) i j r l (yy t [F7 g h m o p,yw k v x z jQ,nk Ä]):=by have y:=ok.S<|j+r*D.n;refine ahj B s C E (Ú _) U (a.C _<|GI _ y) (a.M _<|GI _ y) (a.C _ yC) (a.M _ yC) (Ã f) u λQ F G e H I J K L O P=>(⟨H,by rwa[e.q],(a.QV ok (λ_ q=>q) e).N λb q=>e.M q,G,F,k,v,x,z,jQ,g,h,m,o,p,O,P,I,J,K,L,e.M f,(gE<|e.r k f).trans u,U⟩)
theorem aiG(ok:D.Ok)(W:Dn D):∀c j r s V l g,j+r*D.n<D.q->Yg D c (j+r*D.n) l g->∀f:e5,gl f->f.O=l.O->(∀b,l.I b\/V b->f.I b)->f.w=l.w->f.d=l.d->f.q=l.q->f.r=l.r->f.K=l.K->mL (D.r Ä) (D.b<|j+r*D.n) s->(D.r Ä).d (D.b<|j+r*D.n) s V l.w->f.N (iW D.Y<|D.b<|j+r*D.n)->f.r (jd (D.r Ä)<|D.c<|j+r*D.n)->fe Ä Ì (JW (D.r Ä) c j<|.nZ r) f g:=by
 intro c j r s V l g E X f v F y o Y hq' I9 hK QW An tD p;obtain⟨hd,hq,G,t,tb,u,v1,v2,v3,v4,u0,u1,u2,u3,u4,hT,h4,hOt,H,I,J,L,N,rfl⟩:=X;let⟨⟨sl,P,S⟩,_⟩:=An;have B:∀b,l.M b->f.M b:=λb q=>q.elim (λz=>Ã<|by rwa[F]) λz=>Ç<|y b<|Ã z;have m:=G.I ok B (λb _=>by rw[o]) hK (λa _ h=>by rwa[o]) λa q=>by rw[o];exact G.r a<|by rwa[<-I9]
 have C:¬f.q:=by rwa[hq']
 rw[<-o]at H I J N P S;let⟨e2,z2⟩:=m.r _ p;refine ahm (Q:=λx=>x=D.j (j+r*D.n)) v C hT h4 (by rwa[F]) H I J tD P p e2 z2 (ok.a _ E) (λi e k T=> ?_) λi x t' e hx hcx Ab=> ?_
 .refine(W _ s sl V i E QW (ok.r _ _ _ _ _ S λb x=>e.r b<|Ç<|y b<|Ç x) (λb x=>e.M<|Ç<|y b<|Ç x) (e.G v) (by rwa[e.q]) (λb x=>e.M<|m.Y b x) (ok.C _ _ m.e λb x=>e.r b<|m.Y b x) k T).fH ?_;grind
 .have T:=(m.QV ok (λ_ q=>q) e).N λb q=>e.M q;refine⟨hcx.trans (by rw[hx];rfl),?_⟩;have k:=e.G v;have F1:gl (uM (D.r Ä) i<|j+r*D.n):=by
   refine⟨k.c,λa x=> ?_,λa x=> ?_,k.fl,λa x=> ?_,λa x=> ?_⟩
   .rintro(q|q)
    .exact k.Y a x.1 q
    .exact x.2 q
   .refine k.N a ?_;rcases x with q|q|q
    .exact Ã q.1
    .exact Ç q
    .rw[q];exact Ã<|by rwa[e.I]
   .refine k.I a ?_;rcases x with q|q|q
    .exact Ã q.1
    .exact Ç q
    .rw[q];exact Ã<|by rwa[e.I]
   .let⟨k1,k2,k3⟩:=k.S a x;exact⟨k1,k2,λq=>k3 q.1⟩
  refine Ym ok F1 (by show¬i.q;rwa[e.q]) (by show i.d=0;rwa[e.d,Y]) (T.I ok (λ_ q=>q) (λ_ _=>rfl) U (λ_ _ h=>h) λa q=>T.r a q.1) Ab (by show i.M u;exact e.M<|B u L)<|(gE<|e.r u<|B u L).trans N
end
section
variable{D:SD}{dk:Nat->Nat}{dv:Ï}{l f:e5}
structure MF(D:SD)(dk:Nat->Nat)(dv:Ï)(l:e5):Prop where
 C:gl l
 q:¬l.q
 d:l.d=0
 r:kY D l.I l
 I:∃db c,dv=Æ (Â ⟨db,0,Á⟩) D.n c/\l.O db/\∀i,i<D.n->l.w.cell? ⟨db,i,Á⟩=Â (è<|Â<|dk i)
def MF.M(h:MF D dk dv l)(ok:D.Ok)(a:iq e9 l f):MF D dk dv f where
 C:=a.G h.C;q:=by rw[a.q];exact h.q
 d:=a.d.trans h.d;r:=(h.r.QV ok (λ_ q=>Ç q) a).N λb q=>by rwa[a.Y]
 I:=by let⟨e,c,j,g,k⟩:=h.I;exact⟨e,c,j,a.O e g,λi m=>(gE<|a.r e<|Ã g).trans<|k i m⟩
def aiH(ok:D.Ok):∀r,r<=D.n->∀l t b,MF D dk dv l->ET dv D.n (D.n-r) t->SE D.S D.I (D.C D.m) b->fe Ä Ò (zZ (D.r Ä) dk r) l (Bh t<|GH b::D.f):=by
 intro r
 induction r with
 |zero=>
  intro _ l t b a e g;rw[ũ]at e;refine ais a.C a.d (Ú _) e g (a.r.C _ yC) (a.r.M _ yC) λf i h j=> ?_;have c:=a.M ok h;exact⟨c.d,c.q,c.r,i,j,U⟩
 |succ r j=>
  intro s l t b a e g;obtain⟨u,c,rfl,k,o⟩:=a.I;have v:=ok.fV;refine air a.C a.q e Z Z k (o (D.n-(r+1)) Z) λf p h i=> ?_;refine j Z f p b (a.M ok h) ?_ g;rwa[show D.n-(r+1)+1=D.n-r by omega]at i
def aiI(ok:D.Ok):∀r,r<=D.q->∀l t d,MF D dk dv l->DT dv D.l D.q D.k (D.q-r) t->SE D.S D.I (D.C D.m) d->fe Ä Ò (Fj (D.r Ä) dk r) l (Bg t<|GH d::D.f):=by
 intro r
 induction r with
 |zero=>
  intro _ l t d a e h;rw[ũ]at e;obtain⟨j,c,rfl,k,o⟩:=a.I;refine aiq a.C.r e λi g=>aiH ok D.n (Ú _) l i d a ?_ h;rwa[Ū]
 |succ r s=>
  intro C l t d a e h;obtain⟨j,c,rfl,k,o⟩:=a.I;have E:=ok.fV;have F:=ok.I;let⟨b,p,u,v,w,x,y⟩:=a.r.j (D.q-(r+1)) Z;have z:DT (Æ (Â ⟨j,0,Á⟩) D.n c) (Â ⟨b,0,Á⟩) D.q D.k (D.q-(r+1)) t:=by rwa[<-p]
  refine ain a.C a.q z Z Z Z Z k (o _<|ĵ _ Z) (Ç u) v w x y λf i B g=> ?_;refine s Z f i d (a.M ok B) ?_ h;rwa[show D.q-(r+1)+1=D.q-r by omega,<-p]at g
theorem aiJ(dk:Nat->Nat)(j a:Nat):jv (fq dk j a) (j+1)=jv dk j++[è<|Â a]:=by unfold jv;grind [ÿ,List.map_congr_left,fC,gw]
def aiK(dk:Nat->Nat)(j:Nat):(jv dk j).length=j:=by simp[jv]
def aiL(dk:Nat->Nat)(j i:Nat)(h:i<j):(jv dk j)[i]?=Â (è<|Â<|dk i):=by simp[jv,h]
theorem Yn(ok:D.Ok){t:Array Ï}(K:j<=D.n)(a:gl l)(o:¬l.q)(p:l.d=0)(h:kY D l.I l)(x:D.g<=l.w.heap.size)(v:ST D.S D.I (D.C D.m) D.n j (Æ D.l D.q D.k) dv t)(r:l.w.ownsRow 0 101 1 dv j (jv dk j))(s:∀k,dv.ownBlock=Â k->l.O k): fe Ä Ò (JM (D.r Ä) dk<|if j<D.n then .iu (j+1)else .iC D.q) l (AU t D.f):=by
 have L:=ok.fV;by_cases u:j<D.n
 .rw[if_pos u];show fe Ä Ò (Nz (D.r Ä) (j+1) dk) l _;rw[agJ];refine ahu a o p v u Z Z (h.C _ yC) (h.M _ yC) r s λf i y z B C E F c G H M N I J P=> ?_;refine⟨y,c.d.trans p,by rwa[c.q],Õ x c.I,Ç ⟨Z,(h.aiy ok (λb g=>⟨Ç g,λe=>a.c b (s b e.symm) g⟩) c).N λb q=>(by rwa[c.S]),i,E,z,B,C,F,?_,?_,?_,I,J,?_,?_,U⟩⟩
  .rwa[ø]
  .rwa[ø,aiJ,gw]
  .grind [ø,gw]
  .grind [ø,gw]
  .grind [ø,gw,Õ]
 .have e:j=D.n:=Z
  subst e;rw[if_neg u];have y:∃b c,dv=Æ (Â ⟨b,0,Á⟩) D.n c/\l.O b/\∀i,i<D.n->l.w.cell? ⟨b,i,Á⟩=Â (è<|Â<|dk i):=by
   rcases r.2 with⟨_,C⟩|⟨g,z,E,rfl,_⟩
   .have:=ok.I;omega
   .refine⟨g,z,U,s g U,λi B=> ?_⟩;have:=r.cells U i _<|aiL dk D.n i B;grind [ğ]
  refine aip a.r v λg z B C=>(aiI ok D.q (Ú _) l g z ⟨a,o,p,h,y⟩ (by rwa[Ū]) C)
def aiM(ok:D.Ok)(h:Bj D k l g)(r:fD l l.w u):Bj D k {l with w:=u} g:=by obtain⟨c,d,e,t,a,f,i,j,m,n,o,p,s,v,x,b,y,rfl⟩:=h;exact⟨c,d,e.G ok (λ_ q=>q) r,t,a,f,i,j,m,n,o,p,s,v,x,b,(gE<|r.I a b).trans y,U⟩
def gU.M{o:Ÿ}(h:gU l b o)(r:fD l l.w u):gU {l with w:=u} b o:=⟨h.fh,(r.I b<|Ã h.fh).trans h.I⟩
def Fl(ok:D.Ok)(h:Kj D j dk l g)(r:fD l l.w u):Kj D j dk {l with w:=u} g:=by
 let⟨m,n,o,h⟩:=h;refine⟨m,n,Õ o r.r,?_⟩;rcases h with⟨p,b,t,c,d,f,i,s,v,rfl⟩|⟨x,b,t,dv,y,c,d,f,i,a,z,B,C,E,F,rfl⟩
 .exact Ã ⟨p,b.G ok (λ_ q=>q) r,t,c,d,f,i,s.M r,v.M r,U⟩
 .exact Ç ⟨x,b.G ok (λ_ q=>Ç q) r,t,dv,y,c,d,f,i,⟨oO a.S λk e=>r.I k<|Ã<|a.M k e,a.M,a.r.M r,a.C.M r,a.N.M r,a.I.M r⟩,z,B,C,E,F,U⟩
theorem aiN(ok:D.Ok):∀j dk l g,j<=D.n->Kj D j dk l g->gl l->l.d=0/\∃(G H:Ý) (X:Nat->Prop),G.status=ċ/\H.status=ċ/\(∀u,stepG Ä Ò g u=.spawn G H u #[])/\(∀b,X b->l.O b)/\ (1<=j->l.O (dk<|j-1)/\¬X (dk<|j-1)/\l.w.heap[dk<|j-1]?=Â (ŕ D.q #[] Ì 0 0 Ì)/\D.g<=dk (j-1))/\ (∀f:e5,gl f->(∀b,X b\/l.I b->f.I b)->f.w=l.w->f.d=0->¬f.q->(∀b,¬f.O b)->f.K=l.K->f.N=l.N->(∀a,f.r a->l.r a)->fe Ä Ì (if j=0 then Bj D 0 else Cq (D.r Ä) (dk<|j-1) (j-1) 0) f H)/\ (∀f:e5,gl f->f.O=(λb=>l.O b/\¬X b/\(1<=j->b≠dk (j-1)))->(∀b,X b\/l.I b->f.I b)->f.w=l.w->f.d=0->f.q=l.q->f.K=l.K->f.N=l.N->(∀a,f.r a->l.r a)->fe Ä Ò (JM (D.r Ä) dk<|if j<D.n then .iu (j+1)else .iC D.q) f G):=by
 intro j dk l g L h Dk;let⟨hd,N,P,h⟩:=h;refine⟨hd,?_⟩;rcases h with⟨rfl,o,t,x,C,v1,I,Q,S,rfl⟩|⟨h1,o,t,dv,T,x,C,v1,I,c,x1,x2,x3,x4,x5,rfl⟩
 .refine⟨_,_,l.O,U,U,λu=>XM _ _ _ _ _ _ _ u,λ_ q=>q,λq=>by omega,λf i m X y p E z J B=> ?_,λf i E m X y p z J B=> ?_⟩
  .rw[if_pos U];have e:=λb q=>m b q;have s:kY D f.M f:=o.I ok (λb q=>Ç<|e b q) (λb _=>by rw[X]) z (λa _ h=>by rwa[X]) λa q=>by rw[X];exact o.r a<|B a q
   refine ahd i.r p (Ã<|Ç<|e C<|Ã S.fh) (Ã s.f) (Ã s.c) (by rw[X];exact S.C U) s.g s.d λF V W Y w4 u0 u1 u2 u3 u4 v=> .fu λu r=>aiM ok ⟨y,p,s,F,x,V,W,Y,w4,u0,u1,u2,u3,u4,v,Ç<|e x<|Ã Q.fh,by rw[X];exact Q.C U,U⟩ r
  .refine ahs i.r I λF v=>(Yn ok L i (by rwa[p]) y (o.I ok (λb q=>m b q) (λb _=>by rw[X]) z (λa _ h=>by rwa[X]) λa q=>by rw[X];exact o.r a<|B a q) (by rwa[X]) v (World.ownsRow_nil _ _ _ _) λk e=>by cases e)
 .refine⟨_,_,λb=>b=T\/b=x\/b=C,U,U,λu=>XM _ _ _ _ _ _ _ u,λb q=> ?_,λ_=>⟨c.r.fh,?_,c.r.I,x5⟩,λf i m X y p E z J B=> ?_,λf i E m X y p z J B=> ?_⟩
  .rcases q with rfl|rfl|rfl
   .exact c.C.fh
   .exact c.N.fh
   .exact c.I.fh
  .grind
  .rw[if_neg Z];have s:kY D f.M f:=o.I ok (λb q=>Ç<|m b<|Ç q) (λb _=>by rw[X]) z (λa _ h=>by rwa[X]) λa q=>by rw[X];exact o.r a<|B a q
   have Yo:f.M x:=Ç<|m x<|Ã<|Ç<|Ã U;refine ahi i.r p (Ã<|Ç<|m C<|Ã<|Ç<|Ç U) (Ã<|Ç<|m T<|Ã<|Ã U) (Ã s.c) (by rw[X];exact c.I.C U) (by rw[X];exact c.C.C U) s.d λF V W Y w4 u0 u1 u2 u3 u4 v=> .fu λu r=>(Ym ok (i.jM r.r) p y (s.G ok (λ_ q=>q) r) v Yo<|(gE<|r.I x Yo).trans<|by rw[X];exact c.N.C U)
  .have s:=ok.fV;refine aht i.r I Z λF v=> ?_;rw[show j-1+1=j by omega]at v;have r:=c.S;rw[aiK]at r;refine Yn ok L i (by rwa[p]) y (o.I ok (λb q=>m b<|Ç q) (λb _=>by rw[X]) z (λa _ h=>by rwa[X]) λa q=>by rw[X];exact o.r a<|B a q) (by rwa[X]) v (by rwa[X]) λk e=> ?_;rw[E];let⟨a,V,W,Y⟩:=x4 k e;refine⟨c.M k e,?_,λ_=>a⟩;grind
def aiO(ok:D.Ok)(b:Dm D)(d:Dn D):gL (D.r Ä) where
 C:=aiB ok;S k s V w w' h hV hc hz hf wO:=by let⟨⟨a,f,m⟩,t⟩:=h;exact⟨⟨a,hc.trans f,ok.r _ _ _ _ _ m hV⟩,λe=>⟨hz.trans (t e).1,hf.trans (t e).2.1,ok.ioS _ _ (t e).2.2 wO⟩⟩
 Fl j dk l g w₁ h r:=Fl ok h r;I j dk l g h:=by let⟨_,_,_,h⟩:=h;rcases h with⟨_,_,t,e,f,a,_,_,_,rfl⟩|⟨_,_,t,dv,m,e,f,a,_,_,_,_,_,_,_,rfl⟩<;>rfl
 N k l g h:=by obtain⟨_,_,_,t,e,a,f,m,n,o,p,q,u,v,_,_,_,rfl⟩:=h;rfl
 Y c i l g h:=by obtain⟨_,_,_,t,tb,e,a,f,m,n,o,p,q,u,v,_,_,_,_,_,_,_,_,rfl⟩:=h;rfl
 M dk l g h:=by obtain⟨_,_,_,f,_,rfl⟩:=h;rfl
 go:=aiN ok;f:=aiC ok b;h:=aiF;e:=aiG ok d
end
end Go.Proofs.Y.fv
namespace Go.Proofs.Y.fv
open Go Go.Conc Go.Proofs.Y.Lift
open Go.ConcN (sumTo sumTo_congr)
structure km(P:ė)(Y:Nat->Prop)(jc:Ν->Prop)(H:Nat)(J:Jd)(T:gh)(lv:Nat->Nat)(lot:Nat->e5)(gs:Array Ý)(w:ß)(t:ż):Prop where
 C:1<=gs.size
 r:gD P 0 Y (λi=>if i=0 then J else oJ P (lv i)) (λi=>if i=0 then T else .fu) (λ_=> .no) lot gs w t
 c:∀i,0<i->i<gs.size->lot i=ki (lot i)
 d:¬(lot 0).q
 M:∀p a,touchAt t p=Â a->a.loc.isMemory=Ò->Knows t 0 p\/(jc a.loc/\a.kind=.atomic)
 S:∀p a x,touchAt t p=Â a->a.loc=û x->t.g? p=Â 0\/x.block<H
 b:∀a:â,H<=a.block->NoRelease a t
 N:t.HandedOver
abbrev rA(P:ė):=km P λ_=>False
structure qm(l l':e5)(w w':ß):Prop where
 r:w.heap.size<=w'.heap.size
 N:∀j,l'.O j->l.O j\/w.heap.size<=j
 c:l'.I=l.I
 S:l'.r=l.r
 b:l'.N=l.N
 k:l'.K=l.K
 jF:∀j,j<w.heap.size->¬l.O j->(∀a:â,a.block=j->¬l.r a)->w'.heap[j]?=w.heap[j]?
 M:∀a:â,a.block<w.heap.size->¬l.O a.block->¬l.r a->w'.cell? a=w.cell? a
 Y:∀j,j<w.heap.size->¬l.O j->kE w' j=kE w j
 C:w'.os=w.os
 I:w'.output=w.output
 d:w'.tape=w.tape
theorem qm.fO(l:e5)(w:ß):qm l l w w:=⟨Ú _,λ_ h=>Ã h,U,U,U,U,λ_ _ _ _=>rfl,λ_ _ _ _=>rfl,λ_ _ _=>rfl,U,U,U⟩
def qm.e8{l e i:e5}{w':ß}(h:qm l e w w')(k:qm e i w' u):qm l i w u:=by
 have f:∀j,j<w.heap.size->¬l.O j->¬e.O j:=λj c b q=>(h.N j q).elim b λz=>by omega
 refine⟨Õ h.r k.r,λj q=> ?_,k.c.trans h.c,k.S.trans h.S,k.b.trans h.b,k.k.trans h.k,λj c b d=>((k.jF j (È c h.r) (f j c b)<|by rwa[h.S]).trans<|h.jF j c b d),λa g b d=>((k.M a (È g h.r) (f _ g b)<|by rwa[h.S]).trans<|h.M a g b d),λj c b=>(k.Y j (È c h.r)<|f j c b).trans<|h.Y j c b,k.C.trans h.C,k.I.trans h.I,k.d.trans h.d⟩
 .rcases k.N j q with z|z
  .exact h.N j z
  .exact Ç<|Õ h.r z
def lT.aiP{l a:e5}(h:lT l a w u V):qm l a w u:=⟨h.C,h.S,h.I,h.r,h.M,h.k,h.jF,h.N,λj b c=>h.Y ⟨j,0,Á⟩ b c,h.f,h.g,h.m⟩
def qm.G{l a:e5}(h:qm l a (w.at i) u):qm l a w u:=⟨h.r,h.N,h.c,h.S,h.b,h.k,h.jF,h.M,h.Y,h.C,h.I,h.d⟩
section
variable{Y:Nat->Prop}{jc:Ν->Prop}{H:Nat}{J:Jd}{T:gh}{lv:Nat->Nat}{lot:Nat->e5}{gs:Array Ý}{t:ż}{sl:Option (Nat×Nat)}
def km.I(c:km P Y jc H J T lv lot gs w t)(d:Nat):km P Y jc H J T lv lot gs (w.at d) t:=⟨c.C,c.r.at d,c.c,c.d,c.M,c.S,c.b,c.N⟩
def aiQ{l:e5}{e:ž}(h:xN l e)(a:â):ï e≠.mark (.release a):=by
 let⟨c,d,g⟩:=e;rcases h with⟨x,b,_⟩|h|⟨f,h⟩|h|h|⟨x,_,h⟩
 .simp only at b;subst b;simp[ï]
 .simp only at h;subst h;simp[ï]
 .simp only at h;subst h;simp[ï]
 .simp only at h;subst h;simp[ï]
 .simp only at h;subst h;simp[ï]
 .simp only at h;rcases h with rfl|rfl|rfl|rfl<;>simp[ï]
theorem aiR{e:ž}(h:e.mute=Ò)(a:â):ï e≠.mark (.release a):=by let⟨b,c,d⟩:=e;cases b<;>simp_all[Event.mute];rename_i m;cases m<;>simp_all[ï]
theorem km.aiS{k:ß->gh}(c:km P Y jc H J (.jA k) lv lot gs w t)(o:∀l g,J l g->g.status=ċ\/g.status=ş)(r:gs[0]?=Â g): ∃e b d u,runT P (Ĭ gs w sl) 0=(.next<|Ĭ b d sl,u)/\b.size=gs.size/\qm (lot 0) (e 0) w d/\km P Y jc H J (k w) lv e b d (t++u):=by
 obtain⟨b,d,G,s,v,f,I,K,j,y⟩:=c.r.fh r U λl g h=>o l g h;refine⟨gf lot 0 s,b,d,_,v,f,by rw[gN];exact j.aiP,by rw[f];exact c.C,?_,λi z B=> ?_,?_,λp a h C=> ?_,λp a x h D=> ?_,λa h=>(c.b a h).app λu m=> ?_,Ř c.N λu m=>Ã<|nH u m⟩
 .have e:fq (λi=>if i=0 then(.jA k:gh)else .fu) 0 (k w)=λi=>if i=0 then k w else .fu:=by
   funext i;unfold fq;grind
  rwa[<-e]
 .rw[gA lot _ Z];exact c.c i z<|by rwa[<-f]
 .rw[gN,j.q];exact c.d
 .rcases mo h with⟨_,e⟩|⟨_,u,e,E,n⟩
  .exact(c.M p a e C).imp (·.app _) id
  .have:=knows_own n;grind [nH]
 .rcases mo h with⟨F,e⟩|⟨_,u,e,E,n⟩
  .rw[g?_old F];exact c.S p a x e D
  .apply Ã;unfold Trace.g?;grind [nH]
 .obtain⟨e,n,rfl⟩:=Č m;exact aiQ (j.c e n) a
theorem km.Yp(c:km P Y jc H J T lv lot gs w t)(q:gs[i]?=Â g)(b:i≠0)(y:g.status=ċ): ∃a e f u,runT P (Ĭ gs w sl) i=(.next<|Ĭ f w sl,u)/\f.size=gs.size/\sumTo gs.size a+1=sumTo gs.size lv/\e 0=lot 0/\km P Y jc H J T a e f w (t++u):=by
 have z:=(æ.1 q).1;obtain⟨f,r,m,M,B,o,N,C,D⟩:=c.r.Nj (n:=lv i) q b y U (by simp[b]) (by simp[b]);have E:∀u∈MemOp.ofEvents i g.frame.fn g.frame.place r,u.act.touch?=Á:=λu h=>by obtain⟨e,s,rfl⟩:=Č h;exact touch_mute<|C e s
 refine⟨fq lv i m,gf lot i {lot i with d:=į (lot i).d r,w:=w},f,_,B,o,?_,gA lot _<|Ne.symm b,by rw[o];exact c.C,?_,λj v F=> ?_,?_,λp a k G=> ?_,λp a x k I=> ?_,λa k=>(c.b a k).app λu h=> ?_,Ř c.N λu h=>Ç<|E u h⟩
 .grind [vR,fC,gw]
 .have l:fq (λi=>if i=0 then J else oJ P (lv i)) i (oJ P m)=λj=>if j=0 then J else oJ P (fq lv i m j):=by
   funext j;unfold fq;grind
  rwa[<-l]
 .by_cases e:j=i
  .subst e;rw[gN];have:=c.c j v z;rw[this];rfl
  .rw[gA lot _ e];exact c.c j v<|by rwa[<-o]
 .rw[gA lot _<|Ne.symm b];exact c.d
 .rcases mo k with⟨_,l⟩|⟨_,u,l,K,_⟩
  .exact(c.M p a l G).imp (·.app _) id
  .grind
 .rcases mo k with⟨L,l⟩|⟨_,u,l,K,_⟩
  .rw[g?_old L];exact c.S p a x l I
  .grind
 .obtain⟨e,s,rfl⟩:=Č h;grind [aiR]
def km.Jp(c:km P Y jc H J T lv lot gs w t):∀g∈gs,awake g:=by
 intro g e;obtain⟨i,f,rfl⟩:=Array.mem_iff_getElem.1 e;let⟨g0,_,b,a,_⟩:=c.r.C i _<|ì f;intro τ d;generalize gs[i]=g at b d;cases b with
 |fY=>rcases a with a|a<;>rw[d]at a<;>cases a
theorem km.G(K:∀l g,J l g->g.status=ċ\/g.status=ş):∀(T:gh) (s:Nat) (lv:Nat->Nat) (lot:Nat->e5) (gs:Array Ý) (w:ß) (sl:Option (Nat×Nat)) (t:ż),sumTo gs.size lv=s->km P Y jc H J T lv lot gs w t-> ∃N h b a f e c,Ŷ P N (Ĭ gs w sl) t=(.next<|Ĭ a f e,c)/\a.size=gs.size/\qm (lot 0) (b 0) w f/\km P Y jc H J .fu h b a f c:=by
 intro T
 induction VN.apply T with
 |intro T _ L=>
  intro s
  induction s using Nat.strongRecOn with
  |_ s M=>
   intro lv lot gs w sl t V c;cases C:T with
   |fu=>
    subst C;exact⟨0,lv,lot,gs,w,sl,t,U,U,qm.fO _ _,c⟩
   |jA k=>
    subst C;have W:=c.C;obtain⟨g0,D⟩:∃g,gs[0]?=Â g:=⟨_,ì Z⟩;have O:g0.status=ċ:=by let⟨S,d,i,_,_⟩:=c.r.C 0 g0 D;grind [aeE]
    let⟨i,g,d,e,E,Q,F⟩:=crowd_pick (P:=P) (w:=w) (sl:=sl) c.Jp ⟨0,g0,D,O⟩;by_cases G:i=0
    .subst G;let⟨b,a,f,u,n,j,S,I⟩:=(c.I d).aiS (sl:=e) K E;let⟨N,o,p,q,r,v,x,y,z,m,B⟩:=L (k<|w.at d) ⟨_,U⟩ _ lv b a f e (t++u) U I;exact⟨N+1,o,p,q,r,v,x,by simp only[Ŷ,F,n];exact y,z.trans j,S.G.e8 m,B⟩
    .let⟨h,b,a,u,n,j,I,f,S⟩:=(c.I d).Yp (sl:=e) E G Q;let⟨N,o,p,q,r,v,x,y,z,m,B⟩:=M (sumTo a.size h) (by rw[j];omega) h b a (w.at d) e (t++u) U S;exact⟨N+1,o,p,q,r,v,x,by simp only[Ŷ,F,n];exact y,z.trans j,by rw[f]at m;exact m.G,B⟩
end
section
variable{F:Ph}{E:fN F}{S:Nat->Jd}{tr:Nat->gh}{o:Nat->ik}{f:Nat->e5}{gs:Array Ý}
def PI.jf(p:PI F i zX E S tr o f gs w qJ)(c:E.M=.fU):E.r=F.n+1/\∀x,x<F.n+1->∃N,E.N x=Â (.jf N):=by
 refine⟨(by unfold fN.r;rw[c];rfl),λx g=> ?_⟩;have a:=Od (p.C.B<|Ç<|Ç c) x g;have j:x<E.M.ad F.n:=by rwa[c]
 unfold fN.G at a;rw[if_pos j]at a;have l:E.M.gu=0:=by rw[c];rfl
 cases d:E.N x with
 |none=>rw[d]at a;simp[lE]at a
 |some e=>
  rw[d]at a;simp only[lE]at a;cases e with
  |n7=>simp[gY.kz]at a
  |jf N=>exact⟨N,U⟩
  |fU q=>
   let⟨h,k⟩:=p.C.N x q d;cases q with
   |jq=>simp[gY.kz,ju.kz]at a
   |iu=>simp[gY.kz,ju.kz]at a
   |gp W=>
    let⟨_,b⟩:=h W<|Ã U;have r:=p.M.C.r;rw[b]at r;have:=(p.C.g W b).2.1;simp only[GS.ok]at r;omega
   |iT W=>
    let⟨_,b⟩:=h W<|Ç U;have r:=p.M.C.r;rw[b]at r;have:=(p.C.g W b).2.1;simp only[GS.ok]at r;omega
   |il r=>
    let⟨W,_,s,b⟩:=k r U;have:=(p.C.u r s b).2.1;omega
def wP(l:e5):e5:={l with O:=λ_=>False,I:=λ_=>False,r:=λ_=>False,N:=λ_=>False,K:=λ_=>False,q:=True}
def uI(f:Nat->e5)(l:e5):Nat->e5:=λi=>if i=0 then l else wP (f i)
def QX(f:Nat->e5)(l:e5):uI f l 0=l:=rfl
def u7(f:Nat->e5)(l:e5)(h:i≠0):uI f l i=wP (f i):=if_neg h
def GJ{l:e5}(h:i≠0):¬(uI f l i).M b:=by rw[u7 f l h];exact λq=>q.elim id id
def GK{l:e5}(h:i≠0):¬(uI f l i).C a:=by rw[u7 f l h];exact λq=>q.elim id id
def iJ.Y{Y I:Nat->Prop}(C:iJ n I Y f w qJ)(u:I 0){l:e5}(v:n<=m)(x:∀b,l.O b->¬l.I b)(y:∀a,l.r a->¬l.N a)(B:∀b,l.M b->¬X b)(D:∀a,l.C a->X a.block)(E:∀b,l.M b->b<w.heap.size)(F:∀b,X b->b<w.heap.size)(G:fD l l.w w)(H:Nd qJ 0 l)(J:l.d=(f 0).d)(t:∀a,l.K a->X a.block/\¬l.r a):iJ m I X (uI f l) w qJ:=by
 refine⟨λi j g L s b o=> ?_,λi j g L s a e=> ?_,λi g b o=> ?_,λi g a e=> ?_,λi g b o=> ?_,λi g a e=> ?_,λi g b o=> ?_,F,λi g=> ?_,λi g=> ?_,λi g=> ?_,C.l,C.q,λp a c N r P=>È (C.s p a c N r P) v,λi g a e=> ?_⟩
 .by_cases h:j=0
  .subst h;exact absurd (Ã o)<|GJ s
  .exact GJ h
 .by_cases h:j=0
  .subst h;exact absurd (Ã e)<|GK s
  .exact GK h
 .by_cases h:i=0
  .subst h;exact x b o
  .exact absurd (Ã o)<|GJ h
 .by_cases h:i=0
  .subst h;exact y a e
  .exact absurd (Ã e)<|GK h
 .by_cases h:i=0
  .subst h;exact B b o
  .exact absurd o<|GJ h
 .by_cases h:i=0
  .subst h;exact D a e
  .exact absurd e<|GK h
 .by_cases h:i=0
  .subst h;exact E b o
  .exact absurd o<|GJ h
 .by_cases h:i=0
  .subst h;exact G
  .rw[u7 f l h];exact⟨(C.r i g).r,λj q=>q.elim (λz=>z.elim) λz=>z.elim,λa q=>q.elim (λz=>z.elim) λz=>z.elim,λa q=>q.elim (λz=>z.elim) λz=>z.elim,λa q=>q.elim⟩
 .by_cases h:i=0
  .subst h;exact H
  .rw[u7 f l h];exact⟨λa e=>e.elim,λa e=>e.elim,λa e=>e.elim,λa e=>e.elim⟩
 .by_cases h:i=0
  .subst h;rw[QX,J];exact C.f 0 u
  .rw[u7 f l h];exact C.f i g
 .by_cases h:i=0
  .subst h;refine⟨(t a e).1,λk z q=> ?_⟩;by_cases r:k=0
   .subst r;exact(t a e).2 q
   .exact absurd (Ã q)<|GK r
  .rw[u7 f l h]at e;exact e.elim
theorem PI.aiT(p:PI F i zX E S tr o f gs w qJ)(m:E.M=.fU)(r:Jl F zX qJ)(y:F.S=0)(M:1<=F.L): ∃z:Nat->Nat,km F.P E.Y (λk=>zX k\/∃x:â,k=û x/\x.block=F.C) w.heap.size (F.j E.I) (tr 0) z (uI f<|f 0) gs w qJ:=by
 let⟨B,s⟩:=p.jf m;have O:gs.size=F.L+(F.n+1):=by rw[p.b,B]
 have C:=p.I.r;have c:0<gs.size:=Z
 refine⟨λb=>if h:F.L<=b/\b<F.L+(F.n+1)then Classical.choose (s (b-F.L) Z)else E.h b,Z,⟨?_,λb x t=> ?_,p.I.I⟩,λb Q _=> ?_,p.a.M 0<|Ã U,λq a d D=> ?_,λq a x d G=>Ç<|VL C.q d G,λa d q u=> ?_,r.2⟩
 .rw[y]at C;exact C.Y c (Ú _) (C.m 0 c) (C.g 0 c) (C.I 0 c) (C.e 0 c) (C.fl 0 c) C.N (C.r 0 c) (C.S 0 c) U λa d=>⟨(C.n 0 c a d).1,(C.n 0 c a d).2 0 c⟩
 .let⟨k,j,l,v,H⟩:=p.I.C b x t;by_cases h:b=0
  .subst h;rw[p.h.1,m]at j;rw[p.h.2,m]at l;exact⟨k,j,l,v,H⟩
  .have T:=(æ.1 t).1;simp only[h,if_false];rw[u7 f _ h];have I:∀N,S b=oJ F.P N->tr b=.fu->o b=.no->∃k,kJ F.P (b==0) (oJ F.P N) .fu (wP<|f b) k/\vM k .no x/\(k.status=ċ\/k.status=ş)/\(x=k\/True):=λN z e g=>by
    rw[z,e]at j;rw[g]at l;exact⟨k,λJ _=>j _<|fD.fO _ _,l,v,Ç trivial⟩
   by_cases J:b<F.L
   .let⟨z,e,g⟩:=p.l b Z J;grind
   .have K:F.L<=b/\b<F.L+(F.n+1):=Z
    simp only[K,dif_pos,and_self];let⟨z,e,g⟩:=p.k (b-F.L) _ Z<|Classical.choose_spec<|s (b-F.L) Z;rw[show F.L+(b-F.L)=b by omega]at z e g;exact I _ z (g ⟨_,U⟩) e
 .rw[u7 f _ Z];rfl
 .rcases r.1 q a d D with z|⟨z,k⟩;all_goals grind
 .unfold Trace.act? at u;let⟨k,z,g⟩:=ġ.1 u;have:=C.q k<|Array.mem_of_getElem? z;rw[g]at this;have e:a.block<w.heap.size:=this;omega
theorem km.Y{Y:Nat->Prop}{J:Jd}{s:gh}(c:km P Y zX n J s D f gs w qJ)(t:(f 0).d=0)(o:gs[0]?=Â g)(u:g.status=ċ){p:Jd}{T:gh}{l:e5}(v:l.w=w)(y:l.d=0)(B:¬l.q)(k:∀b,¬l.I b)(r:∀a,¬l.r a)(m:∀a,¬l.N a)(C:∀a,¬l.K a)(E:∀b,l.O b->b<w.heap.size/\∀x:â,x.block=b->¬zX (û x))(F:kJ P Ò p T l g): rA P zX n p T D (uI f l) gs w qJ:=by
 refine⟨c.C,⟨?_,λi x j=> ?_,c.r.I⟩,λi o _=> ?_,B,c.M,c.S,c.b,c.N⟩
 .refine(c.r.r).Y c.C (Ú _) (λb _=>k b) (λa _=>m a) (λ_ _=>id) (λa e=>e.elim (λq=>absurd q<|r a) λq=>absurd q<|m a) (λb z=>z.elim (λq=>(E b q).1) λq=>absurd q<|k b) (λ_ h=>h.elim) (by rw[v];exact fD.fO _ _) ⟨λa e G x j I=> ?_,λa e=>(k _ e).elim,λa e=>(r a e).elim,λa e=>(m a e).elim⟩ (by rw[y,t]) λa e=>absurd e<|C a;rcases c.M G x j (by rw[I];rfl)with z|⟨z,_⟩;all_goals grind
 .by_cases h:i=0
  .subst h;rw[o]at j;obtain rfl:=Ó j;exact⟨g,F,.fY,Ã u,Ã U⟩
  .let⟨g0,e,G,I,z⟩:=c.r.C i x j;simp only[h,if_false]at e z|-;rw[u7 f _ h];exact⟨g0,λL _=>e _<|fD.fO _ _,G,I,z⟩
 .rw[u7 f _ Z];rfl
end
section
variable{F:Ph}{H:Nat}{J:Jd}{f:Nat->e5}{gs:Array Ý}
structure QY(F:Ph)(H:Nat)(l0 l:e5)(w:ß):Prop where
 fh:∀b,l.O b->l0.O b/\¬(F.M b\/b=F.Y)
 r:∀b,l.I b->l0.O b/\¬(F.M b\/b=F.Y)/\¬l.O b
 C:∀a,l.r a↔∃x,x<=F.n/\lq F x a
 I:∀a,l.N a↔a=iW F.toFx 0
 k:∀a,l.K a->F.G a
 M:∀b,F.M b\/b=F.Y->l0.O b
 N:∀b,F.M b->H<=b
 g:l.w=w
 d:l.d=0
 q:¬l.q
 S:∀b,F.i b->l.I b
 Y:gT w F.C (.cl 1 0)
 c:gT w (F.I 0) (.cl 0 0)
 e:∀k,1<=k->k<=F.m->gT w (F.I k) (.cl 1 0)
 f:F.d 0 F.l F.i w
def lH(F:Ph)(D:Nat->Nat)(a:Nat->Nat):fN F where
 M:=.go 0
 S:=.ky 0
 C:=λ_=> .mK 0
 N:=λ_=>Á
 I:=a
 c:=λ_=>F.l
 V:=λk=>if k=0 then F.i else λ_=>False
 e:=λ_=>0
 d:=λ_=>Á
 f:=λ_=>0
 b:=.cl 1 0
 a:=λk=>if k=0 then .cl 0 0 else .cl 1 0
 g:=Á
 h:=D
theorem Kk(ok:F.Ok)(h:lq F i a):(∃k,1<=k/\k<=F.m/\a=iW F.toFx k)\/∃p,p≠F.f/\a=jd F p:=by
 unfold lq at h;split at h
 .obtain⟨k,c,d,b|b⟩:=h
  .grind
  .exact Ç ⟨_,ok.Y.1 k c d,b⟩
 .let⟨k,c,_,b⟩:=h;exact Ç ⟨_,ok.Y.2 _ (by assumption),b⟩
def Yq(ok:F.Ok)(h:lq F i (iW F.toFx 0)):False:=by
 rcases Kk ok h with⟨k,c,b,a⟩|⟨p,_,a⟩
 .have:F.I 0=F.I k:=by injection a
  have:=ok.S 0 k Z b this;omega
 .have:F.I 0=F.Y:=by injection a
  exact ok.C<|by rw[<-this];exact Ç ⟨0,Z,U⟩
theorem rA.aiU(X:gL F)(c:rA F.P zX H J .fu D f gs w qJ)(hL:F.L=gs.size)(hB:F.S=0)(E:gs[0]?=Â g){l:e5}(st:QY F H (f 0) l w)(oL:(f 0).d=0)(u:Nat->Nat)(hgo:F.g 0 u l g): PI F qJ.size zX (lH F D u) (λi=>if i=0 then F.g 0 u else oJ F.P (D i)) (λ_=> .fu) (λ_=> .no) (λi=>if i=0 then l else wP (f i)) gs w qJ:=by
 have S:=X.C;have C:=c.r.r;have jV:=c.C;have T:0<gs.size:=Z
 have y:(lH F D u).r=0:=U;have hY:∀b,(lH F D u).Y b↔(F.M b\/b=F.Y):=λb=>by
  constructor
  .rintro(q|q|⟨j,B,_⟩);all_goals grind
  .rintro(q|q)
   .exact Ã q
   .exact Ç<|Ã q
 have Yr:∀a,l.C a->F.M a.block\/a.block=F.Y:=λa o=>by
  rcases o with q|q
  .let⟨x,_,G⟩:=(st.C a).1 q;rcases Kk S G with⟨k,B,t,rfl⟩|⟨p,_,rfl⟩
   .exact Ã<|Ç ⟨k,t,U⟩
   .exact Ç U
  .rw[(st.I a).1 q];exact Ã<|Ç ⟨0,Z,U⟩
 have nC:∀i,i≠0->∀a,¬((λi=>if i=0 then l else wP (f i)) i).C a:=λi h a q=>by simp only[h,if_false]at q;exact q.elim id id
 have nM:∀i,i≠0->∀b,¬((λi=>if i=0 then l else wP (f i)) i).M b:=λi h b q=>by simp only[h,if_false]at q;exact q.elim id id
 have hM0:∀b,l.M b->(f 0).O b/\¬(F.M b\/b=F.Y):=λb q=>q.elim (st.fh b) λz=>⟨(st.r b z).1,(st.r b z).2.1⟩;have Og:iJ F.S (λi=>i<gs.size) (lH F D u).Y (λi=>if i=0 then l else wP (f i)) w qJ:=by
  refine⟨λi j E hj N b v=> ?_,λi j E hj N a o=> ?_,λi E b v=> ?_,λi E a o=> ?_,λi E b v=> ?_,λi E a o=> ?_,λi E b v=> ?_,λb v=>C.fl 0 T b<|Ã<|st.M b<|(hY b).1 v,λi E=> ?_,λi E=> ?_,λi E=> ?_,C.l,C.q,λq a e B t I=> ?_,λi E a o=> ?_⟩
  .by_cases h:j=0
   .subst h;simp only[N,if_false]at v;exact v.elim
   .exact nM j h b
  .by_cases h:j=0
   .subst h;simp only[N,if_false]at o;exact o.elim
   .exact nC j h a
  .by_cases h:i=0
   .subst h;simp only[if_true]at v|-;exact λq=>(st.r b q).2.2 v
   .simp only[h,if_false]at v;exact v.elim
  .by_cases h:i=0
   .subst h;simp only[if_true]at o|-;intro q;rw[(st.I a).1 q]at o;let⟨x,_,G⟩:=(st.C _).1 o;exact Yq S G
   .simp only[h,if_false]at o;exact o.elim
  .by_cases h:i=0;all_goals simp_all
  .by_cases h:i=0;all_goals simp_all
  .by_cases h:i=0
   .subst h;simp only[if_true]at v;exact C.fl 0 T b<|Ã (hM0 b v).1
   .simp_all
  .by_cases h:i=0
   .subst h;simp only[if_true];rw[st.g];exact fD.fO _ _
   .simp only[h,if_false];exact⟨(C.r i E).r,λj q=>q.elim (λz=>z.elim) λz=>z.elim,λa q=>q.elim (λz=>z.elim) λz=>z.elim,λa q=>q.elim (λz=>z.elim) λz=>z.elim,λa q=>q.elim⟩
  .by_cases h:i=0
   .subst h;simp only[if_true];have s:=(C.S 0 T).fh;exact⟨λa o=>s a (st.fh _ o).1,λa o=>(s a (st.r _ o).1).r,λa o=>s a<|st.M _<|Yr a<|Ã o,λa o=>(s a<|st.M _<|Yr a<|Ç o).r⟩
   .simp only[h,if_false];exact⟨λa o=>o.elim,λa o=>o.elim,λa o=>o.elim,λa o=>o.elim⟩
  .by_cases h:i=0
   .subst h;simp only[if_true];rw[C.f 0 T,oL,st.d]
   .simp only[h,if_false];exact C.f i E
  .have:=C.s q a e B t I;omega
  .by_cases h:i=0
   .subst h;simp only[if_true]at o;let⟨b,v,s⟩:=st.k a o;have Q:a.block=b:=by rcases s with rfl|rfl<;>rfl
    refine⟨by rw[hY,Q];exact Ã v,λk K q=> ?_⟩;by_cases t:k=0
    .subst t;simp only[if_true]at q;let⟨x,_,G⟩:=(st.C a).1 q;rcases Kk S G with⟨k',_,_,I⟩|⟨p',_,I⟩
     .rcases s with W|W<;>rw[W]at I<;>simp[fG,gP,iW]at I
     .have:a.block=F.Y:=by rw[I];rfl
      exact S.C<|by rwa[<-this,Q]
    .simp only[t,if_false]at q;exact q
   .simp only[h,if_false]at o;exact o.elim
 have Ys:gD F.P F.S (lH F D u).Y (λi=>if i=0 then F.g 0 u else oJ F.P (D i)) (λ_=> .fu) (λ_=> .no) (λi=>if i=0 then l else wP (f i)) gs w qJ:=by
  refine⟨Og,λi x G=> ?_,c.r.I⟩;by_cases h:i=0
  .subst h;rw[E]at G;obtain rfl:=Ó G;simp only[if_true];exact⟨g,λs r=>X.Fl 0 u l g s hgo r,.fY,Ã<|X.I 0 u l g hgo,Ã U⟩
  .let⟨g0,Q,q2,N,q4⟩:=c.r.C i x G;simp only[h,if_false]at Q|-;exact⟨g0,λs _=>Q _<|fD.fO _ _,q2,N,Ç trivial⟩
 have aiV:iw F (lH F D u) (λi=>if i=0 then l else wP (f i)) gs.size w:=by
  refine⟨λi E a o=> ?_,λx _ t a o=> ?_,λ_=> ?_,λh=>absurd h (by rw[y];omega),λh=>absurd h (by rw[y];omega),λj h=>absurd h (by rw[y];omega),λj h=>absurd h (by rw[y];omega),λx ⟨e,B,_⟩=>(by cases B),λi h=> ?_,λi B t=> ?_,λk K b v=> ?_,λk K i E q=> ?_,λk B t=> ?_,λj h=>absurd h<|by rw[y];omega⟩
  .by_cases h:i=0
   .subst h;simp only[if_true]at o;rcases o with q|q
    .let⟨x,_,G⟩:=(st.C a).1 q;grind [Kk]
    .exact Ã ⟨0,Z,(st.I a).1 q⟩
   .simp_all
  .simp only[if_true];exact(st.C a).2 ⟨x,t,o⟩
  .simp only[if_true];exact⟨(st.I _).2 U,st.S⟩
  .rcases h with rfl|⟨x,G,_⟩
   .simp only[if_true];exact st.q
   .grind
  .have:i≠0:=Z
   simp only[this,if_false];rfl
  .have Q:k=0:=by have:k<=0:=K;omega
   subst Q;have B:=st.S b v;refine⟨C.fl 0 T b<|Ã (st.r b B).1,by rw[hY];exact(st.r b B).2.1,λi E q=> ?_⟩;by_cases h:i=0
   .subst h;simp only[if_true]at q;exact(st.r b B).2.2 q
   .simp only[h,if_false]at q;exact q
  .have Q:k=0:=by have:k<=0:=K;omega
   subst Q;by_cases h:i=0
   .subst h;simp only[if_true]at q;let⟨x,_,G⟩:=(st.C _).1 q;exact Yq S G
   .simp only[h,if_false]at q;exact q
  .have:k<=0:=t;omega
 have gg:∀k,k<=F.m->gT w (F.I k) ((lH F D u).a k):=λk K=>by
  by_cases h:k=0
  .subst h;exact st.c
  .have:(lH F D u).a k=.cl 1 0:=by simp[lH,h]
   rw[this];exact st.e k Z K
 have wdd:Wd F (lH F D u) w:=by
  refine⟨st.Y,gg,λj h=>absurd h (by rw[y];omega),λk K=> ?_,λk B t=> ?_,λj h=>absurd h<|by rw[y];omega⟩
  .have Q:k=0:=by have:k<=0:=K;omega
   subst Q;exact⟨.uH,st.f⟩
  .have:k<=0:=t;omega
 have Yt:∀k,(sumTo F.n λj=>((lH F D u).C j).gu F j k)=0:=λk=>by
  have:∀n,(sumTo n λ_=>0)=0:=λn=>by
   induction n with
   |zero=>rfl
   |succ n s=>simp[sumTo,s]
  exact this F.n
 have aiW:sumTo (F.n+1) (lH F D u).G=1:=by
  have B:=vR (f':=(lH F D u).G) (j:=0) (n:=F.n+1) Z (λi E=>by
   have:¬i<1:=Z
   show(if i<1 then _ else _)=0;rw[if_neg this])
  have t:∀n,(sumTo n λ_=>0)=0:=λn=>by
   induction n with
   |zero=>rfl
   |succ n s=>simp[sumTo,s]
  rw[t]at B;have I:(lH F D u).G 0=1:=U;omega
 have pss:Ps F (lH F D u):=by
  refine⟨U,λj h=> ?_,λj h=> ?_,λr=>⟨λh=>(by cases h),λh=>(by cases h)⟩,λ_=>rfl,λk=>⟨λh=> ?_,λh=>(by cases h),λp h=>by cases h⟩,λ_ _=>rfl,λj r h=>absurd h (by rw[y];omega),λj h=>absurd h (by rw[y];omega),λh=>absurd U h,λ_ _=>rfl,λj j' h=>absurd h (by rw[y];omega),λj h=>absurd h (by rw[y];omega),λc reg h=> ?_,λreg h=>(by cases h),λr s h=>(by cases h),λx p h=>(by cases h),λh=> ?_,λk B t I=> ?_,λk B t=> ?_,λj r h=>absurd h (by rw[y];omega),λj r h=>absurd h (by rw[y];omega),λh=>(by cases h),λ_ _=>⟨1,rfl⟩,λ_ _ _=>rfl,λj r h=>absurd h<|by rw[y];omega⟩
  .rcases h with h|h|h|h<;>cases h;omega
  .rcases h with h|h|h<;>cases h
  .cases h;omega
  .cases h;exact⟨aiW.symm,U⟩
  .rcases h with h|h|h<;>cases h
  .rw[Yt];have:k≠0:=Z
   simp[lH,this]
  .have Q:k=0:=by have:k<=0:=t;omega
   subst Q;exact Ç<|Ç ⟨λp h=>(by cases h),Ã ⟨rfl,Yt 0⟩⟩
 have s:TI F.toFx qJ.size zX (lH F D u).r (lH F D u).S.rl (lH F D u).V (lH F D u).e (lH F D u).d (lH F D u).ie (lH F D u).f qJ:=by
  refine⟨Ú _,λp a x o Q hc=> ?_,λx h=>absurd h (by rw[y];omega),λk B t=> ?_,λk B t=> ?_,λb v=>c.b _<|st.N b v,λx h=>absurd h (by rw[y];omega),λp a B t=> ?_,λp a _ t I=>c.M p a t I,λp g _ t I W=>c.N p g t I W⟩
  .let⟨b,v,G⟩:=hc;have Oc:x.block=b:=by rcases G with rfl|rfl<;>rfl
   rcases c.S p a x o Q with q|q
   .exact Ã ⟨Ny o,q⟩
   .have:=st.N b v;omega
  .have:k<=0:=t;omega
  .have:k<=0:=t;omega
  .have:=Ny t;omega
 refine⟨by rw[y,hL];rfl,Ys,⟨by simp only[if_true];rfl,U⟩,λh=>absurd h (by rw[y];omega),λj h=>absurd h (by rw[y];omega),λx e h=>absurd h (by rw[y];omega),λi B t=>⟨?_,U,U⟩,aiV,wdd,pss,s,λi x G v=> ?_,λj r h=>absurd h<|by rw[y];omega⟩
 .have:i≠0:=Z
  simp only[this,if_false];rfl
 .let⟨g0,_,q2,N,_⟩:=Ys.C i x G;cases q2 with
  |fY=>rcases N with N|N<;>rw[v]at N<;>cases N
end
end Go.Proofs.Y.fv
namespace Go.Proofs.Y.fv
open Go Go.Conc Go.Proofs.Y.Lift Go.RowKit Go.Conc.Lib Go.ConcR.Gen
open Go.Proofs Go.Proofs.YtgpphkdoanciiaaGreatDoor
section
variable{kd:Nat->Int}{R:Nat}
theorem GM(h:i∈ig kd R):i<R/\kd i=1:=by have:=Ā.1 h;grind
theorem GN(h:i∈jj kd R):i<R/\kd i≠1:=by have:=Ā.1 h;grind
def aiX:(ig kd R).Nodup:=ņ.filter _
def aiY:(jj kd R).Nodup:=ņ.filter _
def Bl(h:k<jJ.length):jJ[k]?=Â (jJ.getD k 0):=by simp[List.getD,h]
def u9{l:List Nat}(h:k<l.length):l.getD k 0∈l:=ħ<|Bl h
def Yu(c:jJ.Nodup)(a:i<jJ.length)(d:j<jJ.length)(h:jJ.getD i 0=jJ.getD j 0):i=j:=by have b:=Bl a;rw[h]at b;exact(List.getElem?_inj a c).1<|b.trans (Bl d).symm
def Yv:∀R,(ig kd R).length+(jj kd R).length=R
 |0=>rfl
 |R+1=>by
  have:=Yv R;by_cases h:kd R=1
  .rw[Ba h,Qv h];simp;omega
  .rw[Bb h,Qw h];simp;omega
end
structure wR where
 γ:Type
 C:γ
 M:Nat->γ->γ->Prop
 RD:γ->Ï->(Nat->Prop)->ß->Prop
 I:Nat->ByteArray
 r:Nat->Prop
def Kl(M:wR)(L n R:Nat)(kd:Nat->Int)(a g:Nat->Nat)(b c:Option â)(d e f h j l:Nat)(o:List é)(p:Nat->Prop)(RC eX:ß->Prop):SD where
 L:=L
 g:=0
 n:=n
 m:=fK kd R
 q:=(jj kd R).length
 N:=R
 I:=l
 C:=g
 M:=f
 S:=h
 s:=j
 u:=b
 t:=d
 l:=c
 k:=e
 o:=λk=>Â ⟨a<|(ig kd R).getD (k-1) 0,0,Á⟩
 a:=λk=>(ig kd R).getD (k-1) 0
 i:=λi=>Â ⟨a<|(jj kd R).getD i 0,0,Á⟩
 c:=λi=>(jj kd R).getD i 0
 b:=λi=>if i<(jj kd R).length then fK kd ((jj kd R).getD i 0)else 0
 f:=o
 d:=p
 RC:=RC
 p:=eX
 γ:=M.γ
 w:=M.C
 v:=M.r
 h:=M.M
 RD:=M.RD
 e:=λk=>M.I<|(ig kd R).getD (k-1) 0
 j:=λi=>M.I<|(jj kd R).getD i 0
section
variable{M:wR}{L R:Nat}{kd:Nat->Int}{a:Nat->Nat}{c:Option â}{cs:List é}{RB:Nat->Prop}{RC eX:ß->Prop}{l d f:e5}
def aiZ(h:J8 kd a D R (Æ O (fK kd R) j7) (Æ c (jj kd R).length j6) v j b J i j9 m l d f)(F:∀w p,RC w->(∀g,RB g->p.heap[g]?=w.heap[g]?)->RC p)(G:∀w p,eX w->(p.os=w.os/\p.output=w.output)->eX p)(H:∀s B V w p,M.RD s B V w->(∀g,V g->p.heap[g]?=w.heap[g]?)->M.RD s B V p)(I:1<=n)(K:1<=L)(X:n+R<1000):(Kl M L n R kd a D O c j7 j6 j b J i cs RB RC eX).Ok:=by
 have Y:=Yv (kd:=kd) R;have hc:(ig kd R).length=fK kd R:=U;let⟨a1,a2,a3⟩:=h.M;let⟨a4,a5,a6⟩:=h.S;have z:∀k,k<=fK kd R->d.w.heap.size<=D k/\D k<J:=λk r=>⟨(h.r.M k r).1,h.N k r⟩;have QI:=Õ (z 0 Z).1<|Ł (z 0 Z).2;refine⟨F,G,H,I,K,?_,?_,λo=> ?_,λo t=>(GN<|u9 t).1,λk C x=> ?_,λk r e=> ?_,λk u r N e=> ?_,?_,λo i' t P e=>Yu aiY t P e,λk u C x h3 Q e=> ?_,λo k t C x e=> ?_,λg _=>ă g⟩
 .show n+(jj kd R).length+fK kd R<1000;omega
 .show R<1000;omega
 .show(if o<(jj kd R).length then fK kd ((jj kd R).getD o 0)else 0)<=fK kd R;split
  .rename_i t;exact X4<|Ł (GN<|u9 t).1
  .omega
 .refine(GM<|u9 ?_).1;have:k<=fK kd R:=x;omega
 .have:=(z k r).2;have y:D k=i:=e;omega
 .have y:D k=D u:=e;have S:=r;have T:=N;rcases Nat.lt_trichotomy k u with q|q|q
  .have:=h.r.S k u q T;omega
  .exact q
  .have:=h.r.S u k q S;omega
 .rintro(e|⟨k,r,e⟩)
  .have y:j=i:=e;omega
  .have y:j=D k:=e;have:=(z k r).1;omega
 .have W:k<=fK kd R:=x;have h4':u<=fK kd R:=Q;have:=Yu aiX Z Z e;omega
 .have W:k<=fK kd R:=x;have y:(jj kd R).getD o 0=(ig kd R).getD (k-1) 0:=e;have E:=(GN<|u9 t).2;rw[y]at E;exact E<|(GM (kd:=kd) (R:=R)<|u9 (k:=k-1) Z).2
end
abbrev kn(M:wR)(L n R:Nat)(kd:Nat->Int)(c g:Nat->Nat)(d e:Option â)(f h i a j k:Nat)(cs:List é)(l:e5):SD:=Kl M L n R kd c g d e f h i a j k cs (λb=>l.O b\/b=a) (λw=>∀b,l.O b->w.heap[b]?=l.w.heap[b]?) λw=>w.os=l.w.os/\w.output=l.w.output
def Km(D:SD)(l:e5):e5:={l with O:=λb=>l.O b/\¬(D.Y.M b\/b=D.M)/\¬D.d b,I:=D.d,r:=λa=>∃x,x<=D.n/\lq (D.r Ä) x a,N:=λa=>a=iW D.Y 0,K:=D.Y.G}
section
variable{M:wR}{L:Nat}{f:Nat->Int}{r:Nat->Nat}{u:Option â}{y:Nat}{cs:List é}{l B o:e5}
def Kn{cs:Array Ï}(h:w.heap[b]?=Â (É cs e)):w.frozen? ⟨b,i,Á⟩=Ì:=by simp[î,h]
def QZ{cs:Array Ï}(h:w.heap[b]?=Â (É cs e))(a:cs[0]?=Â (Ê ê<|(i:Int)*fS+0))(d:cs[1]?=Â (Ê Ď 0))(f:i<1000000):gT w b (.cl i 0):=by
 refine⟨?_,?_,Kn h,Kn h,(⟨f,Z,λ_=>rfl⟩)⟩
 .simp[Ö,fG,h,a,GS.st]
 .simp[Ö,gP,h,d,GS.sm]
def ai0(h:J8 f r D j (Æ O (fK f j) j6) (Æ u (jj f j).length y) v k m j9 b j7 J l B o)(s:gl l)(Ko:∀g,¬l.I g)(W:¬l.q)(X:l.d=0)(hH:i<=l.w.heap.size)(hV:∀g,M.r g->l.O g)(qk:M.RD M.C v M.r o.w)(wO:o.w.os=l.w.os/\o.w.output=l.w.output)(hn:1<=n)(hs:n+j<1000){t:Array Ï}(hT:Gm m b (D<|fK f j) n (Æ u (jj f j).length y) t)(dk:Nat->Nat): QY ((kn M L n j f r D O u j6 y k m j9 b cs l).r Ä) i o (Km (kn M L n j f r D O u j6 y k m j9 b cs l) o) o.w/\ ((kn M L n j f r D O u j6 y k m j9 b cs l).r Ä).g 0 dk (Km (kn M L n j f r D O u j6 y k m j9 b cs l) o) (AV (À<|Â ⟨b,0,Á⟩) jQ (À<|Â ⟨b,0,Á⟩) (ñ #[]) j7 J<|Dg t::cs):=by
 let⟨a1,a2,a3⟩:=h.M;let⟨a4,a5,a6⟩:=h.S;have N:∀C,C<=fK f j->B.w.heap.size<=D C/\D C<j9:=λC E=>⟨(h.r.M C E).1,h.N C E⟩;have QI:=Õ (N 0 Z).1<|Ł (N 0 Z).2;have Y:=λg q=>s.fl g<|Ã q;have hc:(ig f j).length=fK f j:=rfl;have Q:∀g,(kn M L n j f r D O u j6 y k m j9 b cs l).Y.M g\/g=k->g=b\/(∃C,C<=fK f j/\g=D C)\/g=k:=λg q=>by
  rcases q with(q|⟨C,S,q2⟩)|q
  .exact Ã q
  .exact Ç<|Ã ⟨C,S,q2⟩
  .exact Ç<|Ç q
 have H:∀g,(kn M L n j f r D O u j6 y k m j9 b cs l).Y.M g\/g=k->l.w.heap.size<=g/\g≠m/\g≠j9/\g≠j7/\g≠J/\(∀C,(Æ O (fK f j) j6).ownBlock=Â C->g≠C)/\(∀C,(Æ u (jj f j).length y).ownBlock=Â C->g≠C):=λg q=>by
  rcases Q g q with rfl|⟨C,E,rfl⟩|rfl
  .exact⟨Z,Z,Z,Z,Z,λC e=>by have:=h.o3 C e;omega,λC e=>by have:=h.o4 C e;omega⟩
  .have:=N C E;exact⟨Z,Z,Z,Z,Z,λp e z=>(h.r.M C E).2.1<|z▸e,λp e z=>(h.r.M C E).2.2<|z▸e⟩
  .exact⟨Z,Z,Z,Z,Z,λC e=>by have:=(h.r.r C e).2;omega,λC e=>by have:=(h.r.C C e).2;omega⟩
 have ai1:∀g,(kn M L n j f r D O u j6 y k m j9 b cs l).Y.M g\/g=k->o.O g:=λg q=>by
  rcases Q g q with rfl|⟨C,E,rfl⟩|rfl
  .exact h.Y.fh
  .by_cases x:C=0
   .subst x;exact h.r.N.fh
   .exact(h.r.I C Z E).fh
  .exact h.I.fh
 have K:∀g,o.O g->l.w.heap.size<=g->g≠m->¬((kn M L n j f r D O u j6 y k m j9 b cs l).Y.M g\/g=k)->(Km (kn M L n j f r D O u j6 y k m j9 b cs l) o).O g:=λg S q2 q4 q3=>⟨S,q3,λq=>q.elim (λq=>by have:=Y g q;omega) q4⟩;have Yw:gT o.w b (.cl 1 0):=QZ h.Y.I U U Z;have Yx:gT o.w (D 0) (.cl 0 0):=QZ h.r.N.I U U Z;have Yy:∀C,1<=C->C<=fK f j->gT o.w (D C) (.cl 1 0):=λC I P=>QZ (h.r.I C I P).I U U Z;have T:∀g c,gT o.w g c->mO g o.w:=λg c q=>⟨by rw[show(⟨g,0,Á⟩:â)=fG g from rfl,q.C];rfl,by rw[show(⟨g,1,Á⟩:â)=gP g from rfl,q.M];rfl⟩;refine⟨⟨λg q=>⟨q.1,q.2.1⟩,λg q=>⟨?_,λz=> ?_,λz=>z.2.2 q⟩,λa=>Iff.rfl,λa=>Iff.rfl,λa q=>q,λg q=>ai1 g q,λg q=>Õ hH (H g<|Ã q).1,U,h.C.d.trans X,by show¬o.q;rwa[h.C.q],λg q=>Ã<|hV g q,Yw,Yx,Yy,⟨⟨v,h.r.N.C U,qk⟩,λ_=> ?_⟩⟩,?_⟩
 .rcases q with q|q
  .exact h.C.O g q
  .rw[q];exact h.a.fh
 .rcases q with q|q
  .have:=(H g z).1;have:=Y g q;omega
  .exact(H g z).2.1 q
 .refine⟨?_,by unfold kE;rw[show o.w.heap[(kn M L n j f r D O u j6 y k m j9 b cs l).M]?=Â (wK j)from h.I.I],wO⟩;show o.w.cell? ⟨k,j,Á⟩=Á;simp only[Ö,h.I.I,wK,ı,Ķ,if_false];exact Array.getElem?_eq_none<|by rw[ř];exact Ú _
 refine⟨h.C.d.trans X,by show¬o.q;rwa[h.C.q],ă _,Ã ⟨U,⟨λg q=>⟨⟨g,q,Ã U⟩,⟨g,q,Ç U⟩⟩,λg q=> ?_,Ç<|Ç U,h.a.C U,(Ã<|K j9 h.c.fh Z Z λz=>(H j9 z).2.2.1 U),h.c.C U,λC E=> ?_,λe hi=> ?_,λa q=> ?_,λg q=>Ç q,λg q=>h.C.r g (Ã q) id⟩,t,j7,J,jQ,hT,⟨(K j7 h.d.fh Z Z λz=>(H j7 z).2.2.2.1 U),h.d.I⟩,⟨(K J h.b.fh Z Z λz=>(H J z).2.2.2.2.1 U),h.b.I⟩,U⟩⟩
 .rcases Q g (Ã q)with rfl|⟨C,E,rfl⟩|rfl
  .exact T _ _ Yw
  .by_cases x:C=0
   .subst x;exact T _ _ Yx
   .exact T _ _<|Yy C Z E
  .exact absurd q λz=>by
    rcases z with z|⟨C,x,F⟩
    .have G:g=b:=z;omega
    .have G:g=D C:=F;have:=(N C x).1;omega
 .have s5:C<fK f j:=E;rcases h.r.jC.2 with⟨_,e2⟩|⟨g,cap,cur,V,_,hcur,GB⟩
  .omega
  .have yu:O=Â ⟨g,0,Á⟩:=by injection V
   subst yu;have x:=h.r.jC.cells U;have hz:(ig f j).zipIdx[C]?=Â ((ig f j).getD C 0,C):=by rw[List.getElem?_zipIdx,Bl Z];simp
   have F:∀c,c<4->(jC f r D j)[C*4+c]?=(tI r D ((ig f j).getD C 0,C))[c]?:=λc q=>Qz (λ_=>rfl) q _ C _ hz;have G:∀p,(⟨g,0,Á⟩:â).add p=⟨g,p,Á⟩:=λp=>by rw[ğ,č]
   refine⟨g,U,Ã (K g (h.r.r g U).1 (Õ Z (h.r.r g U).2) (by have:=(h.r.r g U).2;omega) λz=>(H g z).2.2.2.2.2.1 g U U),?_,?_,?_,?_⟩
   .have:=x (C*4+0) _<|F 0 Z;rwa[G]at this
   .have:=x (C*4+1) _<|F 1 Z;rwa[G]at this
   .have:=x (C*4+2) _<|F 2 Z;rwa[G]at this
   .have:=x (C*4+3) _<|F 3 Z;rwa[G]at this
 .have kR:e<(jj f j).length:=hi;rcases h.r.lZ.2 with⟨_,e2⟩|⟨g,cap,cur,V,_,hcur,GB⟩
  .omega
  .have QU:u=Â ⟨g,0,Á⟩:=by injection V
   subst QU;have x:=h.r.lZ.cells U;have F:∀c,c<4->(lZ f r D j)[e*4+c]?=(tQ f r D<|(jj f j).getD e 0)[c]?:=λc q=>Qz (λ_=>rfl) q _ e _<|Bl kR;have G:∀p,(⟨g,0,Á⟩:â).add p=⟨g,p,Á⟩:=λp=>by rw[ğ,č]
   refine⟨g,U,Ã (K g (h.r.C g U).1 (Õ Z (h.r.C g U).2) (by have:=(h.r.C g U).2;omega) λz=>(H g z).2.2.2.2.2.2 g U U),?_,?_,?_,?_⟩
   .have:=x (e*4+0) _<|F 0 Z;rwa[G]at this
   .have:=x (e*4+1) _<|F 1 Z;rwa[G]at this
   .have:=x (e*4+2) _<|F 2 Z;rw[G]at this;show o.w.cell? ⟨g,e*4+2,Á⟩=Â (À<|Â ⟨D (if e<(jj f j).length then fK f ((jj f j).getD e 0)else 0),0,Á⟩);rw[if_pos kR];exact this
   .have:=x (e*4+3) _<|F 3 Z;rwa[G]at this
 .have V:∀p,p<j->(o.w.cell? ⟨k,p,Á⟩).isSome=Ò/\o.w.frozen? ⟨k,p,Á⟩=Ì:=λp hp=>by
   refine⟨?_,Kn h.I.I⟩;have:p<(madeCells (Ŵ<|à ⟨#[]⟩) j).size:=by rwa[ř]
   simp[Ö,h.I.I,this]
  let⟨x,_,F⟩:=q;unfold lq at F;split at F
  .obtain⟨C,I,P,rfl|rfl⟩:=F
   .have G:=P;refine⟨?_,Kn (h.r.I C I G).I⟩;show(o.w.cell? ⟨D C,2,Á⟩).isSome=Ò;rw[(h.r.I C I G).C U];rfl
   .have G:C<=fK f j:=P;exact V _ (GM<|u9 Z).1
  .obtain⟨e,I,_,rfl⟩:=F;exact V _ (GN<|u9 I).1
end
end Go.Proofs.Y.fv
namespace Go.Proofs.Y.fv
open Go Go.Conc Go.Proofs.Y.Lift Go.RowKit Go.Conc.Lib Go.ConcR.Gen
open Go.Proofs Go.Proofs.YtgpphkdoanciiaaGreatDoor
open Go.ConcN (sumTo sumTo_congr)
def Kp(kd:Nat->Int)(f:Nat->Nat)(R n:Nat)(h:Ï)(l:e5)(cs:List é):Jd:=λi j=>
 ∃g k t m b o c p a d e q,J8 kd f g R m b h o c p a d e l k i/\Gm c a (g<|fK kd R) n b t/\j=AV (À<|Â ⟨a,0,Á⟩) q (À<|Â ⟨a,0,Á⟩) (ñ #[]) d e (Dg t::cs)
theorem Yz(h:w.ownsRow i e j v n l):∃b c,v=Æ b n c:=by rcases h.2 with⟨a,d⟩|⟨b,f,g,a,_⟩;all_goals grind
section
variable{F:Ph}{E:fN F}{S:Nat->Jd}{B:Nat->gh}{G:Nat->ik}{y:Nat->e5}{o:Array Ý}
theorem PI.ai2(p:PI F j9 zX E S B G y o w qJ)(c:E.M=.fU)(d:1<=F.n):E.S=.ky F.m/\(∀i,i<F.q->w.cell? (jd F<|F.a i)=Â (à<|F.k i)/\∀k,k<o.size->¬(y k).r (jd F<|F.a i)):=by
 let⟨j,a⟩:=p.jf c;refine⟨p.C.f (by let⟨N,h⟩:=a 0 Z;rw[h];simp),λi k=> ?_⟩;have l:i%F.n<F.n:=ĵ _ d;have e:i%F.n+i/F.n*F.n=i:=by rw[Nat.mul_comm];exact Nat.mod_add_div i F.n
 let⟨N,h⟩:=a (i%F.n+1) Z;let⟨_,r,f,g⟩:=p.C.l (i%F.n) Z (by rw[h];simp);have b:i/F.n<(E.C<|i%F.n).kj:=by rw[f];exact(g (i/F.n)<|by rwa[e])
 have s:=p.M.N (i%F.n) Z (i/F.n) (by rwa[e]) b;have t:=p.a.d (i%F.n) Z (i/F.n) (by rwa[e]) b;grind
end
structure ai3(D:SD)(l:e5)(w:ß)(g:Ý):Prop where
 I:∀b,l.O b->w.heap[b]?=l.w.heap[b]?
 cba:w.cell? ⟨D.S,0,Á⟩=Â (Æ (Â ⟨D.M,0,Á⟩) D.N D.N)
 ky:∀k,1<=k->k<=D.m->w.cell? ⟨D.M,D.a k,Á⟩=Â (à<|D.e k)
 Q0:∀i,i<D.q->w.cell? ⟨D.M,D.c i,Á⟩=Â (à<|D.j i)
 GO:∃s sl V,mL (D.r Ä) D.m s/\w.cell? ⟨D.C D.m,2,Á⟩=Â sl/\D.RD s sl V w/\∀b,V b->b<w.heap.size/\b≠D.I
 fl:D.M<w.heap.size/\D.S<w.heap.size/\D.C D.m<w.heap.size
 r:D.M≠D.I/\D.S≠D.I/\D.C D.m≠D.I
 Q5:∃ts,SE D.S D.I (D.C D.m) ts/\g=Dl ts D.f
 C:w.cell? ⟨D.M,D.N,Á⟩=Á/\kE w D.M=Â (0,0)
 io:w.os=l.w.os/\w.output=l.w.output
section
variable{M:wR}{f:Nat->Int}{u:Nat->Nat}{cs:List é}{l:e5}{I:Nat->Nat}{y:Nat->e5}{o:Array Ý}
theorem ai4(c:rA Ä zX j (Kp f u J n v l cs) .fu I y o w qJ)(S:Option (Nat×Nat))(s:gl l)(Ko:∀b,¬l.I b)(hq:¬l.q)(hd:l.d=0)(hH:j<=l.w.heap.size)(hV:∀b,M.r b->l.O b)(qk:∀s S V w G,M.RD s S V w->(∀b,V b->G.heap[b]?=w.heap[b]?)->M.RD s S V G)(Bm:M.RD M.C v M.r l.w)(wO:w.os=l.w.os/\w.output=l.w.output)(hn:1<=n)(hs:n+J<1000) (hA:∀g r t B D e m p h,l.w.heap.size<=m->Dm (kn M o.size n J f u g r t B D e m p h cs l)/\Dn (kn M o.size n J f u g r t B D e m p h cs l)): ∃g r t B D e m p h,(l.w.heap.size<=e/\l.w.heap.size<=m/\l.w.heap.size<=h/\∀k,k<=fK f J->l.w.heap.size<=g k)/\ ∃N Y a H C i G K E z,Ŷ Ä N (Ĭ o w S) qJ=(.next<|Ĭ i G K,E)/\i.size=o.size+(n+1)/\i[0]?=Â z/\a<=G.heap.size/\h<a/\j<=a/\(C 0).d=0/\z.status=ċ/\ km Ä Y (λF=>zX F\/∃x:â,F=û x/\x.block=h) a (Yh<|kn M o.size n J f u g r t B D e m p h cs l) .fu H C i G E/\ai3 (kn M o.size n J f u g r t B D e m p h cs l) l G z:=by
 have h0:=c.C;obtain⟨g0,vW⟩:∃g,o[0]?=Â g:=⟨_,ì h0⟩;let⟨g1,q1,q2,q3,_⟩:=c.r.C 0 g0 vW;obtain rfl:g0=g1:=by cases q2;rfl
 have hz:=q1 w<|c.r.r.r 0 h0;let⟨g,lp,tt,iv,qv,e,m,p,h,bw,bf,T,F,hT,hg⟩:=hz;obtain⟨r,B,rfl⟩:=Yz F.r.jC;obtain⟨t,D,rfl⟩:=Yz F.r.lZ;let⟨a1,a2,a3⟩:=F.M;let⟨a4,a5,a6⟩:=F.S;have Q6:∀k,k<=fK f J->lp.w.heap.size<=g k/\g k<p:=λk W=>⟨(F.r.M k W).1,F.N k W⟩;have arX:=Q6 0 Z;have ai5:=qk _ _ _ _ _ Bm λb q=>F.C.r b (Ã<|hV b q) id;obtain⟨st,hgo⟩:=ai0 F s Ko hq hd hH hV ai5 wO hn hs hT λ_=>0;have ok:=aiZ (L:=o.size) (cs:=cs) (RB:=λb=>l.O b\/b=m) (RC:=λw=>∀b,l.O b->w.heap[b]?=l.w.heap[b]?) F (λw G P X b a=>(X b<|Ã a).trans<|P b a) (eX:=λw=>w.os=l.w.os/\w.output=l.w.output) (λw G P X=>⟨X.1.trans P.1,X.2.trans P.2⟩) qk hn Z hs;let⟨hAdd,ai6⟩:=hA g r t B D e m p h Z;have Hy:=aiO ok hAdd ai6;have A8:=F.C.d.trans hd;have st':QY ((kn M o.size n J f u g r t B D e m p h cs l).r Ä) j (y 0) (Km (kn M o.size n J f u g r t B D e m p h cs l) {y 0 with w:=w}) w:=⟨st.fh,st.r,st.C,st.I,st.k,st.M,st.N,st.g,st.d,st.q,st.S,st.Y,st.c,st.e,st.f⟩;rw[<-hg]at hgo;have p0:=c.aiU Hy U U vW st' A8 (λ_=>0) hgo;let⟨N1,E,S1,tr1,kp1,arY,gs1,w1,YA,t1,r1,x,hf,he⟩:=agz Hy _ _ _ _ _ _ _ o w S qJ U U p0 (by intro q;cases q);let⟨n5,_⟩:=x.jf hf;let⟨yD,c1⟩:=x.aiT hf he U h0;let⟨N2,Kq,Q7,gs2,w2,Bn,t2,r2,z2,N,c2⟩:=c1.G (λa i z=>Ã<|Hy.M E.I a i z) (tr1 0) _ yD _ gs1 w1 YA t1 U;have Dp:gs1.size=o.size+(n+1):=by rw[x.b,n5];rfl
 have Kr:=c2.C;obtain⟨g2,Ks⟩:∃g,gs2[0]?=Â g:=⟨_,ì Kr⟩;let⟨g3,u1,u2,u3,_⟩:=c2.r.C 0 g2 Ks;obtain rfl:g2=g3:=by cases u2;rfl
 have hE:=u1 w2<|c2.r.r.r 0 Kr;let⟨e1,e2,dat,ts,qn,hge⟩:=hE;have Q:0<gs1.size:=Z
 have C:=x.I.r;have hY:=λb q z=>C.I 0 Q b (Ã z) q;have H:E.Y e:=Ç<|Ã U;have yG:∀k,k<=fK f J->E.Y (g k):=λk W=>Ã<|Ç ⟨k,W,U⟩;have YB:E.Y h:=Ã<|Ã U;let⟨hip,ai7⟩:=x.ai2 hf hn;have hmd:E.S.md=fK f J:=by rw[hip];rfl
 let⟨FM,⟨YC,Q8,Kt⟩,_⟩:=x.M.M (fK f J) Z;have K:=C.N;refine⟨g,r,t,B,D,e,m,p,h,⟨a1,Z,Z,λk W=>by have:=Q6 k W;omega⟩,N1+N2,E.Y,w1.heap.size,Kq,Q7,gs2,w2,Bn,t2,g2,?_,Z,Ks,N.r,K h YB,?_,e1,Hy.M E.I _ _<|u1 w2<|c2.r.r.r 0 Kr,c2,⟨dat.e,dat.d,λk P X=> ?_,λi hi=> ?_,?_,?_,(⟨show e≠h by omega,show m≠h by omega,show g (fK f J)≠h by have:=Q6 (fK f J)<|Ú _;omega⟩),⟨ts,qn,hge⟩,?_,?_⟩⟩
 .rwa[runNT_add,show Ŷ Ä N1 (Ĭ o w S) qJ=_ from r1]
 .grind
 .have a:k<=fK f J:=X;refine Ŀ (N.M ⟨e,_,Á⟩ (K e H) (hY e H)<|x.a.g k P Z 0 Q)<|x.M.S k P Z
 .let⟨T,v2⟩:=ai7 i hi;exact Ŀ (N.M ⟨e,_,Á⟩ (K e H) (hY e H)<|v2 0 Q) T
 .refine⟨E.c<|fK f J,YC,E.V<|fK f J,FM,(Ŀ (N.M ⟨g<|fK f J,2,Á⟩ (K _<|yG _<|Ú _) (hY _<|yG _<|Ú _)<|x.a.N (fK f J) Z 0 Q) Q8),qk _ _ _ _ _ Kt λb q=> ?_,λb q=> ?_⟩
  .let⟨T,v2,v3⟩:=x.a.I (fK f J) Z b q;exact N.jF b T (v3 0 Q) λa ha z=>v2<|ha▸C.e 0 Q a (Ã z)
  .let⟨T,v2,v3⟩:=x.a.I (fK f J) Z b q;exact⟨È T N.r,λz=>v2<|z▸YB⟩
 .refine⟨È (K e H) N.r,c2.r.r.fl 0 Kr m<|Ç dat.c,È (K _<|yG _<|Ú _) N.r⟩
 .let⟨a,y2,_⟩:=(x.M.M 0<|ă _).2.2 U;exact⟨Ŀ (N.M ⟨e,J,Á⟩ (K e H) (hY e H)<|x.a.NB Hy.C 0 Q) a,(N.Y e (K e H)<|hY e H).trans y2⟩
 .let⟨_,_,a⟩:=(x.M.M 0<|ă _).2.2 U;exact⟨N.C.trans a.1,N.I.trans a.2⟩
end
def Q9(a:Ν->Prop)(w:ß):e5 where
 O:=λb=>b<w.heap.size/\∀x:â,x.block=b->¬a (û x)
 I:=λ_=>False
 r:=λ_=>False
 N:=λ_=>False
 K:=λ_=>False
 q:=False
 d:=0
 w:=w
def YD(a:Ν->Prop)(w:ß):gl (Q9 a w):= ⟨λ_ _ h=>h,λ_ h=>h.elim,λ_ h=>h.elim (λq=>q.elim) λq=>q.elim,λ_ h=>h.elim (λq=>q.1) λq=>q.elim,λ_ h=>h.elim (λq=>q.elim) λq=>q.elim,λ_ h=>h.elim⟩
structure va(jc:Ν->Prop)(H:Nat)(l:e5):Prop where
 r:∀x:â,jc (û x)->x.block<H
 fh:∀b,l.O b->∀x:â,x.block=b->¬jc (û x)
 C:H<=l.w.heap.size
inductive yE(M:wR):Nat->M.γ->Prop
 |uH:yE M 0 M.C
 |Cp {k:Nat} {s s':M.γ} (h:yE M k s) (hn:M.M k s s'):yE M (k+1) s'
structure E5(M:wR)(R:Nat)(kd:Nat->Int)(l:e5)(an:Nat)(sl:Ï)(l':e5):Prop where
 uL:∀b,l.O b->l'.O b/\l'.w.heap[b]?=l.w.heap[b]?
 kj:l'.O an/\∀p,p<R->l'.w.cell? ⟨an,p,Á⟩=Â (à<|M.I p)
 GO:∃s V,yE M (fK kd R) s/\M.RD s sl V l'.w/\∀b,V b->l'.O b
 d:l'.d=0
 q:¬l'.q
 rd:∀b,¬l'.I b
 Dq:(∀a,¬l'.r a)/\(∀a,¬l'.N a)/\∀a,¬l'.K a
 B9:l'.w.cell? ⟨an,R,Á⟩=Á/\kE l'.w an=Â (0,0)
section
variable{M:wR}{R H:Nat}{kd:Nat->Int}{e:Nat->Nat}{f:List é}{l:e5}{jc:Ν->Prop}{o:Nat->e5}
def ai8{a:Option â}{s:M.γ}(h:mL ((kn M i n R kd e D O a j b m J j9 j7 qX l).r Ä) k s):yE M k s:=by
 have c:∀(k:Nat) (s:((kn M i n R kd e D O a j b m J j9 j7 qX l).r Ä).γ),mL ((kn M i n R kd e D O a j b m J j9 j7 qX l).r Ä) k s->yE M k s:=λk s h=>by
  induction h with
  |uH=>exact .uH
  |Cp _ d f=>exact .Cp f d
 exact c k s h
def ai9{J:(Ν->Prop)->Nat->Jd}{cf:é}{a:ŏ}(FJ:qX=cf.at a (Ñ Q (i::jJ)::L)::f)(c:rA Ä jc H (Kp kd e R n v l qX) .fu D o E w qJ)(F:Option (Nat×Nat))(s:gl l)(Ko:∀b,¬l.I b)(hq:¬l.q)(hd:l.d=0)(S:va jc H l)(hV:∀b,M.r b->l.O b)(qk:∀s F V w u,M.RD s F V w->(∀b,V b->u.heap[b]?=w.heap[b]?)->M.RD s F V u)(aja:∀s F V w,M.RD s F V w->(∃p m c,F=Æ p m c)/\∀b,V b->l.O b\/l.w.heap.size<=b)(Bm:M.RD M.C v M.r l.w)(wO:w.os=l.w.os/\w.output=l.w.output)(hn:1<=n)(hs:n+R<1000) (hA:∀g ib qb ci cq B ba bi I,l.w.heap.size<=ba->Dm (kn M E.size n R kd e g ib qb ci cq B ba bi I qX l)/\Dn (kn M E.size n R kd e g ib qb ci cq B ba bi I qX l)) (hJ:∀Dr C W B p m c,va Dr C W->gl W->E5 M R kd l B (Æ p m c) W->fe Ä Ò (J Dr C) W (G (cf.at (a.put ((Q[i]?).bind (·.dst))<|ñ #[Æ (Â ⟨B,0,Á⟩) R R,Æ p m c])<|Ñ Q jJ::L) f)): ∃N Dr C T jk GQ gs' u sy t',Ŷ Ä N (Ĭ E w F) qJ=(.next<|Ĭ gs' u sy,t')/\(u.os=l.w.os/\u.output=l.w.output)/\rA Ä Dr C (J Dr C) T jk GQ gs' u t':=by
 let⟨g,ib,qb,ci,cq,B,ba,bi,I,⟨b1,b2,b3,b4⟩,N,Y,C,jk,GQ,gs',u,sy,t',g',r,z1,z2,z3,z4,z5,z6,z7,cY,t⟩:=ai4 c F s Ko hq hd S.C hV qk Bm wO hn hs hA;let⟨st,YC,V,FM,Q8,Kt,Ku⟩:=t.GO;obtain⟨⟨sp,sm,sc,rfl⟩,YE⟩:=aja _ _ _ _ Kt;obtain⟨ts,qn,rfl⟩:=t.Q5;have hH:=S.C;have YF:=λb q=>s.fl b<|Ã q;have X:∀b,(l.O b\/l.w.heap.size<=b)->b<u.heap.size->b≠I->(Q9 (λj=>jc j\/∃x:â,j=û x/\x.block=I) u).O b:=λb hb gH kT=>by
  refine⟨gH,λx hx=> ?_⟩;rintro(q|⟨y,P,q2⟩)
  .rcases hb with hb|hb
   .exact S.fh b hb x hx q
   .have:=S.r x q;omega
  .injection P with P;subst P;omega
 have ajb:=λb q=>by have h:=t.I b q;rw[ì<|YF b q]at h;exact(æ.1 h).1
 have keep:=λb q=>X b (Ã q) (ajb b q) (by have:=YF b q;omega);have Kv:=X B (Ç b1) t.fl.1 t.r.1;have ajc:fe Ä Ò (J (λj=>jc j\/∃x:â,j=û x/\x.block=I) C) (Q9 (λj=>jc j\/∃x:â,j=û x/\x.block=I) u) (Dl ts qX):=by
  rw[FJ];refine aiu (YD _ _) (λq=>q) qn (Ã<|X ba (Ç b2) t.fl.2.1 t.r.2.1) (Ã<|Ã<|X _ (Ç<|b4 _<|Ú _) t.fl.2.2 t.r.2.2) t.cba Q8 λW h=> ?_;refine hJ (λj=>jc j\/∃x:â,j=û x/\x.block=I) C W B sp sm sc ⟨λx q=> ?_,λb q x hx=> ?_,Õ z3 h.I⟩ (h.N<|YD _ _) ⟨λb q=>⟨h.O b<|keep b q,(h.r b (Ã<|keep b q) id).trans<|t.I b q⟩,⟨h.O B Kv,λp hp=> ?_⟩,⟨st,V,ai8 FM,qk _ _ _ _ _ Kt λb q=>h.r b (Ã<|X b (YE b q) (Ku b q).1 (Ku b q).2) id,λb q=>h.O b<|X b (YE b q) (Ku b q).1 (Ku b q).2⟩,h.d,?_,λb q=> ?_,⟨λa q=> ?_,λa q=> ?_,λa q=> ?_⟩,⟨(gE<|h.r B (Ã Kv) id).trans t.C.1,(vI<|h.r B (Ã Kv) id).trans t.C.2⟩⟩
  .rcases q with q|⟨y,P,q2⟩
   .exact È (S.r x q) z5
   .injection P with P;subst P;omega
  .rcases h.c b q with q|q
   .exact q.2 x hx
   .have j:u.heap.size<=b:=q;rintro(z|⟨y,z1,z2⟩)
    .have:=S.r x z;omega
    .injection z1 with z1;subst z1;omega
  .refine(gE<|h.r B (Ã Kv) id).trans ?_;by_cases hk:kd p=1
   .have hm:p∈ig kd R:=Ā.2 ⟨Ē.2 hp,by simpa using hk⟩;let⟨j,y⟩:=Ĩ hm;have P:=(Ĕ.1 y).1;have:=t.ky (j+1) Z (show j+1<=fK kd R from P);have e2:(ig kd R).getD (j+1-1) 0=p:=Ó<|(Bl P).symm.trans y;simp only[kn,Kl,e2]at this;exact this
   .have hm:p∈jj kd R:=Ā.2 ⟨Ē.2 hp,by simpa using hk⟩;let⟨j,y⟩:=Ĩ hm;have P:=(Ĕ.1 y).1;have:=t.Q0 j P;simp only[kn,Kl,Ó<|(Bl P).symm.trans y]at this;exact this
  .rw[h.q];exact id
  .rw[h.S]at q;exact q
  .rw[h.Y]at q;exact q
  .rw[h.b]at q;exact q
  .rw[h.K]at q;exact q
 let⟨T,h⟩:=jb ajc;exact⟨N,_,C,T,jk,_,gs',u,sy,t',r,t.io,cY.Y z6 z2 z7 U U id (λ_=>id) (λ_=>id) (λ_=>id) (λ_=>id) (λb q=>q) h⟩
end
end Go.Proofs.Y.fv
namespace Go.Proofs.Y.fv
open Go Go.Conc Go.Proofs.Y.Lift Go.RowKit Go.Conc.Lib Go.ConcR.Gen
open Go.Proofs Go.Proofs.YtgpphkdoanciiaaGreatDoor
def pC(V:Nat->Prop)(base:Nat):fi:=⟨λi j=>i=j/\V i,base⟩
def ajd(V:Nat->Prop)(base:Nat):Bi (pC V base):= ⟨λ_ _ _ h k=>h.1.symm.trans k.1,λ_ _ _ h k=>h.1.trans k.1.symm,λi j h=>by rw[h.1]⟩
def kS(j:Nat):Bool:=j==3||j==4
def tO(c:Array Ï):Array Ï:=c.extract 0 16
def aje(c:Array Ï):(tO c).size=min 16 c.size:=by simp[tO]
open Classical in
noncomputable def oP (a:Nat->Prop) (j:Nat):Ÿ->Ÿ
 |É c e b=>if a j then(if kS j=Ò then É (tO c) e (0,(tO c).size)else É c e (0,c.size))else É c e b
 |_=>É #[] 0
noncomputable def kL (Sh:Nat->Prop) (w:ß):ß:={w with heap:=w.heap.mapIdx (oP Sh)}
section
variable{V Sh:Nat->Prop}{base:Nat}
def Ds(j:Nat):(kL Sh w).heap[j]?=(w.heap[j]?).map (oP Sh j):=by simp[kL,Array.getElem?_mapIdx]
def YG:jU (kL Sh w):=λi o h=>by
 rw[Ds]at h;obtain⟨x,_,rfl⟩:=ġ.1 h;cases x<;>simp only[oP]<;>try exact id
 split
 .split<;>exact id
 .exact id
structure Kw(V Sh:Nat->Prop)(base:Nat)(w:ß):Prop where
 Q5:∀b,V b->∃c e fr,w.heap[b]?=Â (É c e fr)/\fr.2<=c.size/\fL (pC V base) c c/\(Sh b->0<c.size/\(kS b=Ò->(e=304\/e=305)/\fr.2<=16)/\(kS b=Ì->B5 c))
 fl:base<=w.heap.size
def ajf(h:Kw V Sh base w):qL (pC V base) Sh (kL Sh w) w:=by
 refine⟨U,U,ajd V base,by show base<=(w.heap.mapIdx<|oP Sh).size;rw[Array.size_mapIdx];exact h.fl,h.fl,λi j o=> ?_⟩;obtain⟨rfl,p⟩:=o;let⟨c,e,a,b,l,f,r⟩:=h.Q5 i p;have g:(kL Sh w).heap[i]?=Â (oP Sh i<|É c e a):=by rw[Ds,b];rfl
 by_cases s:Sh i
 .let⟨t,u,v⟩:=r s;cases d:kS i with
  |true=>
   let⟨x,y⟩:=u d;have z:=aje c;have m:EG e (tO c).size:=⟨x,Z⟩;refine⟨tO c,c,e,(0,(tO c).size),a,?_,b,⟨λk B n=> ?_,Z,Ç ⟨s,m⟩⟩,λ_=>⟨U,Ú _,by show a.2<=(tO c).size;omega,Z,Ç m⟩,λq=>absurd s q,Ú _⟩
   .show(kL Sh w).heap[i]?=_;rw[g];simp[oP,s,d]
   .have:(tO c)[k]=c[k]:=by simp[tO]
    rw[this];exact f.C k n n
  |false=>
   refine⟨c,c,e,(0,c.size),a,?_,b,oA.M f,λ_=>⟨U,Ú _,l,t,Ã<|v d⟩,λq=>absurd s q,Ú _⟩;rw[g];simp[oP,s,d]
 .refine⟨c,c,e,a,a,?_,b,oA.M f,λq=>absurd q s,λ_=>rfl,l⟩;rw[g];simp[oP,s]
end
section
variable{a:Nat->Prop}{l:e5}{V:Nat->Prop}
theorem Dt(y:mZ P)(B:oG P a X)(hF:sY P X)(C:vG vQ){k:Array Ï}(D:X F)(E:P.funcs[F]?=Â s)(H:s.body=Â wX)(r:gl l)(I:¬l.q) (n:∀b,V b->l.M b) (J:Kw V (λj=>V j/\¬l.O j) P.globals.size l.w) (K:∀g,a g->V g) (L:fL (pC V P.globals.size) k k) (N:∀T,Calls P F k (World.tp (kL (λj=>V j/\¬l.O j) l.w) T 0) fun|.returned v,e=>vQ v e/\jU e|_,_=>False) (t:Bool) (o:é) (p:List é): fe P t (λh u=>∃(Y:fi) (e:ß) (v m:Ï),(pC V P.globals.size).r Y/\qL Y (λj=>V j/\¬l.O j) e h.w/\ff Y v m/\vQ v e/\u=G (o.finish m) p/\(∀i j,Y i j->h.M j/\(V j\/l.O j\/l.w.heap.size<=j))/\(∀j,l.O j->h.O j)/\h.d=l.d) l (G (Ă P F k Ğ)<|o::p):=by
 refine(aez (ady y B hF C D E H YG N (Y:=pC V P.globals.size) U (λg q=>⟨U,K g q⟩) L (ajf J) (λj q=>r.fl j<|n j q.1) (λi j _ q=>(n j q.1).resolve_left q.2) t o p) l U (λj q=> ?_) (λ_ q=>q) (λj q=>r.fl j<|Ã q) I).fH ?_
 .obtain⟨⟨i,rfl,x⟩,Q⟩:=q;grind
 .rintro h u ⟨O',⟨Y,e,v,m,S,rfl,W,q3,q4,q5⟩,Q,h3,h4,h5,h6,h7,h8,h9,h10,h11,h12⟩;refine⟨Y,e,v,m,S,W,q3,q4,q5,λi j Ra=> ?_,h4,h10⟩;by_cases z:V j/\¬l.O j
  .exact⟨Ç (by rw[h7];exact(n j z.1).resolve_left z.2),Ã z.1⟩
  .have x:=h3 j ⟨⟨i,Ra⟩,z⟩;exact⟨Ã x,Ç<|h6 j x⟩
end
section
variable{l:e5}{V GL:Nat->Prop}
def Du(s:gl l):gl (lG l):=by refine⟨λ_ h=>h.elim,λ_ h=>h.elim,λa c d=>s.N a (c.resolve_left id)<|d.resolve_left id,λb d=>s.fl b<|d.resolve_left id,λa c=>s.I a<|c.resolve_left id,λa c=>⟨λq=>(s.S a c).1<|q.resolve_left id,(s.S a c).2.1,id⟩⟩
structure Dv(GL:Nat->Prop)(f:ķ)(args:Array Ï)(l:e5)(V:Nat->Prop)(kI:Ï->ß->Prop):Prop where
 N:∀b,V b->l.M b
 S:Kw V V Ä.globals.size l.w
 I:∀g,GL g->V g
 r:fL (pC V Ä.globals.size) args args
 C:∀T,Calls Ä f args (World.tp (kL V l.w) T 0) fun|.returned v,u'=>kI v u'/\jU u'|_,_=>False
def ajg(m:mZ Ä)(n:oG Ä GL X)(hF:sY Ä X)(e:X 67){D:SD}(h:∀i s d W l,i<D.q->mL (D.r Ä) (D.b i) s->D.RD s d W l.w->(∀b,W b->l.M b)->gl l->¬l.q->(∀b,D.d b->l.M b)->D.RC l.w->∃V,Dv GL 67 #[d,À<|D.i i] l V λv _=>v=à (D.j i)):Dn D:=by
 intro i s d W l o p r t f g x y z B;let⟨V,a⟩:=h i s d W l o p r t f g x y;let⟨G,c,C,E⟩:=hF 67 e;have k:(λj=>V j/\¬(lG l).O j)=V:=by funext j;exact propext ⟨λq=>q.1,λq=>⟨q,id⟩⟩
 refine(Dt m n hF (λv u T D h=>h) e C E (Du f) g (λb q=>Ç<|a.N b q) (by rw[k];exact a.S) a.I a.r (by rw[k];exact a.C) Ì z B).fH ?_;rintro H I ⟨Y,J,v,K,_,_,j,u,T,_,_,F⟩;subst u;cases j;exact⟨F,T⟩
theorem ajh(P:mZ Ä)(Q:oG Ä GL X)(hF:sY Ä X)(B:X 66){D:SD}(Rg:D.γ->Ï->ß->Prop)(hRg:∀s a u T n,Rg s a u->Rg s a (World.tp u T n)) (h:∀k s a W l,k<D.m->mL (D.r Ä) k s->D.RD s a W l.w->(∀b,W b->l.M b)->gl l->¬l.q->(∀b,D.d b->l.M b)->D.RC l.w->∃V,Dv GL 66 #[a,À<|D.o<|k+1] l V (λv u=>∃p n c d,v=ñ #[Æ p n c,à<|D.e<|k+1]/\D.h k s d/\Rg d (Æ p n c) u)/\ ∀Y S u w d a C,qL Y S u w->ff Y a C->Rg d a u->(∀i j,Y i j->V j\/l.w.heap.size<=j)->∃e,D.RD d C e w/\∀b,e b->∃i,Y i b):Dm D:=by
 intro k s a W l hk hr qk hW E F hRB hRC cl lk;let⟨V,f,tr⟩:=h k s a W l hk hr qk hW E F hRB hRC;let⟨fn,c,hf,g⟩:=hF 66 B;have G:(λj=>V j/\¬(lG l).O j)=V:=by funext j;exact propext ⟨λq=>q.1,λq=>⟨q,id⟩⟩
 refine(Dt P Q hF (λv u T D h=> ?_) B hf g (Du E) F (λb q=>Ç<|f.N b q) (by rw[G];exact f.S) f.I f.r (by rw[G];exact f.C) Ì cl lk).fH ?_
 .grind
 .rintro l' g' ⟨Y,u',v,v',_,q2,q3,⟨p,n,c,d,rfl,H,h3⟩,I,o,_,J⟩;cases q3 with
  |@mX _ cs'' hs lV=>
   let⟨ls⟩:=cs'';match ls,hs with
   |[x,y],_=>
    have r:=lV 0 fg fg;have K:=lV 1 fg fg;simp at r K;cases K;let⟨e,L,N⟩:=tr Y _ u' l'.w d _ x q2 r h3 λi j Ra=>(o i j Ra).2.imp id λz=>z.resolve_left id;cases r with
    |nG=>exact⟨J,Á,n,c,I,d,e,H,L,λb g=>by let⟨i,t⟩:=N b g;exact(o i b t).1⟩
    |ku=>exact⟨J,_,n,c,I,d,e,H,L,λb g=>by let⟨i,t⟩:=N b g;exact(o i b t).1⟩
end
end Go.Proofs.Y.fv
namespace Go.Proofs.Y.Lift
open Go
def Dw(a:Nat->Bool):Ĥ->Bool
 |Ũ (Đ cs)=>cs.toList.all xI
 |Ũ (ñ cs)=>cs.toList.all xI
 |x=>vH a x
def YH(a:Nat->Bool)(x:Ĥ):Dw a x=vH a x:=by
 cases x with
 |const v=>cases v<;>simp[Dw,vH,MW,ĝ]
 |_=>rfl
def Kx(P:ė)(a:Nat->Bool)(b c:ķ->Bool)(o:å):Bool:=(Ci P b o.op&&o.op.operands.toList.all (Dw a))||(Nb P c o.op&&o.op.operands.toList.all (Dw a))
def Ky(a:Nat->Bool)(b c:ķ->Bool)(o:å):Kx P a b c o=Ck P a b c o:=by have:(Dw a)=vH a:=funext<|YH a;simp[Kx,Ck,M4,this,ĝ]
def qo(P:ė)(a:Nat->Bool)(b d:ķ->Bool):Ę->Bool
 |Ρ|ť|.label _|Ŧ _|.goto _=>Ò
 |.seq x y=>qo P a b d x&&qo P a b d y
 |Ť c x y=>Dw a c&&qo P a b d x&&qo P a b d y
 |İ _ c|.loop c|.scope c=>qo P a b d c
 |ä _ c _=>c.toList.all<|Kx P a b d
 |.refuse _=>Ò
 |_=>Ì
def yF(a:Nat->Bool)(b d:ķ->Bool):∀c:Ę,qo P a b d c=nh P a b d c
 |Ρ|ť|.label _|Ŧ _|.goto _|.refuse _|.rangeFunc _ _ _ _=>rfl
 |.seq x y=>by simp only[qo,nh,yF a b d x,yF a b d y]
 |Ť c x y=>by simp only[qo,nh,YH,yF a b d x,yF a b d y]
 |İ _ c|.loop c|.scope c=>by simp only[qo,nh,yF a b d c]
 |ä _ x _=>by have:Kx P a b d=Ck P a b d:=funext<|Ky a b d;simp only[qo,nh,this,ĝ]
end Go.Proofs.Y.Lift
namespace Go.Proofs.Y.fv
open Go Go.Conc Go.Proofs.Y.Lift Go.RowKit Go.Conc.Lib Go.ConcR.Gen
open Go.Proofs Go.Proofs.YtgpphkdoanciiaaGreatDoor
def YI:List Nat:=[35,38,44,54,55,56,60,66,67,78,79,103,113,114,115,116,117,118,119,120,121,122,123,124,125,126,153,154,155,156,157,158,159,160,161,162,168,169,170,171,172,173,174,175,176,177,178,186,187,188,189,190,191,192,193,194,196,197,198,199,200,201,202,203,204,205,206,207,208,209,210,211]
def wS(g:Nat):Bool:=[1,2,3,4].contains g
def wT(f:Nat):Bool:=YI.contains f
def yH(f:Nat):Bool:=[129,130].contains f
def Bo(P:ė)(f:Nat):Bool:=match P.funcs[f]? with
 |some a=>match a.body with
  |some c=>qo P wS wT yH c
  |none=>Ì
 |none=>Ì
def aji:YI.all (Bo Ä)=Ò:=by rfl
def YJ(h:wT i=Ò):Bo Ä i=Ò:=(Ň.1 aji) i<|by simpa[wT]using h
def ajj(h:Bo P i=Ò):∃a c,P.funcs[i]?=Â a/\a.body=Â c:=by
 unfold Bo at h;split at h
 .rename_i a b;split at h
  .rename_i c d;exact⟨a,c,b,d⟩
  .cases h
 .cases h
def ajk(h:Bo P i=Ò)(a:P.funcs[i]?=Â s)(b:s.body=Â wX):qo P wS wT yH wX=Ò:=by unfold Bo at h;rw[a]at h;simp only[b]at h;exact h
def YK:sY Ä (λf=>wT f=Ò):=λ_ h=>ajj<|YJ h
def ajl[zz P](h:∀f,wT f=Ò->Bo P f=Ò)(a:E9 P yH):oG P (λg=>wS g=Ò) (λf=>wT f=Ò):=λf g e c b d=>by have:=ajk (h f g) b d;rw[yF]at this;exact uJ a this
instance arZ:zz Ä:=⟨λe n h=>by
 have h1:Ä.cellsOf 304=32:=fj
 have h2:Ä.cellsOf 305=64:=fj
 obtain⟨rfl|rfl,h3⟩:=h
 .rw[h1];omega
 .rw[h2];omega⟩
def ajm(a:E9 Ä yH):oG Ä (λg=>wS g=Ò) (λf=>wT f=Ò):=ajl (λ_ h=>YJ h) a
def Dx:E9 Ä yH:=λf h=>by
 have:f=129\/f=130:=by simpa[yH]using h
 rcases this with rfl|rfl
 .exact⟨_,Extern.AbiNoEscape.same,Tryz.func129,fR,fR,fR,fR,λ_ v a h=>adW v a h,adX⟩
 .exact⟨_,Extern.BytealgMakeNoZero.makeNoZero #[3] #[107],Tryz.func130,fR,fR,fR,fR,λ_ v a h=>adY #[3] 107 v a h,adZ #[3] 107⟩
def YL:oG Ä (λg=>wS g=Ò) (λf=>wT f=Ò):=ajm Dx
end Go.Proofs.Y.fv
namespace Go.Proofs.Y.Lift
open Go Go.Conc
section
variable{Y:fi}{b:ķ->Prop}
def ajn{e:Array Ï->Sem Ï}{y:Ĥ}{m:Array ŭ}(d:o.op=Ě {callee:=ĕ<|ĸ F,args:=#[qQ,y],argTypes:=m})(q:P.funcs[F]?=Â s)(r:(s.name== "runtime.NumGoroutine")=Ì)(t:s.body.isNone=Ò)(B:Extern.findNext s=Á)(C:Extern.find s=Â e) (D:∀(Y:fi) (v i z j:Ï),ff Y v i->ff Y z j->fB P ff Y (e #[v,z]) (e #[i,j])) (E:∀v z,fx P<|e #[v,z]) (G:∀y∈o.op.operands,lS X y):mh P X b o:=by
 have c:∀a:ŏ,ĉ a.eval o=Ś F #[a.eval qQ,a.eval y]:=by intro a;unfold ĉ;rw[d];simp only[ſ,ĥ,ě,invoke,pure_bind,Array.empty_append,Array.append_empty,List.map_toArray,List.map_cons,List.map_nil]
 have k:∀(v z:Ï) (u:ß),(Ś F #[v,z]).run P u=(mark (.extern F)>>=λ_=>e #[v,z]>>=λy=>pure (Next.value y):Sem Next).run P u:=by intro v z u;unfold Ś;simp_all
 refine Vi (λY a w _ _ _ h=> ?_) (λa=> ?_) (λa u n H g=> ?_) G
 .rw[c,c];have I:=h qQ (by rw[d];simp[ŉ,Call.operands]);have J:=h y (by rw[d];simp[ŉ,Call.operands]);unfold Ś;refine .gd (fy qB ?_);rintro M p N w ⟨K,L⟩;rw[K,L];simp only[q,r,t,B,C,Ķ,if_false,if_true];apply fy (V:=je) (.B4 (Ç ⟨F,U⟩) (.fw U));intro O _ _ l _;exact mg<|D _ _ _ _ _ ((I.fH w).fH l)<|(J.fH w).fH l
 .rw[c];exact Ig (k _ _)<|fZ (EZ _) λ_=>ln<|E _ _
 .rw[c,k,Sem.run_bind]at g;simp only[mark,Sem.run,Result.andThen_ok]at g;have:Sem.run P (e #[a.eval qQ,a.eval y]>>=λy=>pure (Next.value y):Sem Next) u=.ok n H:=g;rw[Sem.run_bind]at this;cases h:(e #[a.eval qQ,a.eval y]).run P u with
  |ok v w=>rw[h]at this;cases this;exact⟨v,U⟩
  |halt z w=>rw[h]at this;cases this
def YM:∀(n:Nat) {Y:fi} {a b:â} (c:ByteArray),gS Y a b->fB P je Y (ò a n c) (ò b n c)
 |0,_,_,_,_,_=> .fw U
 |n+1,Y,a,b,c,h=>by
  unfold ò;refine fy (H4 h) ?_;intro f v g d e;cases e<;>first|exact .fI|skip
  rename_i k z;cases k<;>first|exact .fI|skip
  exact YM n _<|(h.r d).C 1
theorem YN:∀(n:Nat) (a:â) (b:ByteArray),fx P<|ò a n b
 |0,_,_=>gy _
 |n+1,a,b=>by
  unfold ò;refine fZ (E0 _ _) λv=> ?_;split
  .exact YN n _ _
  .exact iU _
def ajo(h:ff Y v x):fB P je Y (ú v) (ú x):=by
 cases h<;>first|exact .fI|exact .fw U|skip
 exact YM _ _<|by assumption
theorem ajp(v:Ï):fx P (ú v):=by unfold ú;grind [gy,YN,iU]
def ajq(h:ff Y v x):fB P je Y (ü v) (ü x):=by
 cases h<;>first|exact .fI|skip
 rename_i k z;cases k<;>first|exact .fI|exact .fw U
theorem ajr(v:Ï):fx P (ü v):=by unfold ü;grind [gy,iU]
def ajs(v a z b:Ï)(h:ff Y v a)(k:ff Y z b):fB P ff Y (ó #[v,z]) (ó #[a,b]):=by
 apply fy (ajo h);rintro j s d e f;obtain rfl:s=d:=f;apply fy (ajq<|k.fH e);rintro l c g m i;obtain rfl:c=g:=i;split
 .exact .fw (.iA _ _)
 .exact .fw (.iA _ _)
theorem ajt(v z:Ï):fx P (ó #[v,z]):=by refine fZ (ajp v) λs=>fZ (ajr z) λc=> ?_;grind [gy]
end
end Go.Proofs.Y.Lift
namespace Go.Proofs.Y.fv
open Go Go.Conc Go.Proofs.Y.Lift
open Go.Proofs Go.Proofs.YtgpphkdoanciiaaGreatDoor
def Rb:List Nat:=[16,18,21,23,24,25,28,29,30,31,35,44,60,38,54,55,56,78,79,36,45,61,94,95,96,97,98,99,100,101,102,103,104,145,146,147,148,149]
def Dy(f:Nat):Bool:=Rb.contains f||f==167
def Kz(_:Nat):Bool:=Ì
def KA(P:ė)(f:Nat):Bool:=match P.funcs[f]? with
 |some a=>match a.body with
  |some c=>qo P Kz Dy yH c
  |none=>Ì
 |none=>Ì
def aju:Rb.all (KA Ä)=Ò:=by rfl
def YO(h:Rb.contains i=Ò):KA Ä i=Ò:=(Ň.1 aju) i<|by simpa using h
theorem YP(h:KA P i=Ò):∃a c,P.funcs[i]?=Â a/\a.body=Â c/\qo P Kz Dy yH c=Ò:=by unfold KA at h;grind
def yI:sY Ä (λf=>Dy f=Ò):=λf h=>by
 rcases ī.1 h with q|q
 .let⟨a,c,b,d,_⟩:=YP<|YO q;exact⟨a,c,b,d⟩
 .rw[beq_iff_eq]at q;subst q;exact⟨_,_,Ŭ,U⟩
def ajv(h:Ζ.body=Â wX):kx Ä (λg=>Kz g=Ò) (λf=>Dy f=Ò) wX:=by
 unfold Ζ at h;cases h;refine .qH (uJ Dx<|by rw[<-yF];rfl) (.qH (.sX _ _ λo f=> ?_) .uE);simp only[List.mem_toArray,List.mem_cons,List.not_mem_nil,or_false]at f;rcases f with rfl|rfl|rfl|rfl
 .exact IG Dx<|by rw[<-Ky];rfl
 .exact IG Dx<|by rw[<-Ky];rfl
 .exact ajn U Tryz.func185 fR fR fR fR (λ_ v g z o=>ajs v g z o) ajt λy g=>Iy (by simp[ŉ,Call.operands]at g;rcases g with rfl|rfl|rfl<;>rfl)
 .exact IG Dx<|by rw[<-Ky];rfl
def KB:oG Ä (λg=>Kz g=Ò) (λf=>Dy f=Ò):=λf h i c g a=>by
 rcases ī.1 h with q|q
 .let⟨j,k,b,d,e⟩:=YP<|YO q;rw[g]at b;cases b;rw[a]at d;cases d;rw[yF]at e;exact uJ Dx e
 .rw[beq_iff_eq]at q;subst q;rw[Ŭ]at g;cases g;exact ajv a
end Go.Proofs.Y.fv
