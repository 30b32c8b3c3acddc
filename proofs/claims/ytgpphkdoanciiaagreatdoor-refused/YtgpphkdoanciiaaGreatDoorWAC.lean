import Derived.Test.YtgpphkdoanciiaaGreatDoorWAB
import Derived.Conc.AppendWalk
import Derived.Conc.TokenWalk
set_option linter.all false
set_option maxRecDepth 1000000
set_option maxHeartbeats 8000000
open Go.Value renaming pointer->À,slice->Æ,int->Ê,oneCell'->Ø,string->à,chan->è,tuple->ñ,func->Ĉ,agg->Đ,bool->ŝ,cells->Ŵ
open Option renaming none->Á,some->Â,isSome_iff_exists->Ô,map_eq_some_iff->ġ,isSome_none->ı,getD_some->Ń
open Or renaming inl->Ã,inr->Ç
open Go.Proofs.Tryz renaming prog->Ä,t155->Ą,f46->Ĝ,t9->Ġ,func47->Ħ,underlying101->Ĵ,type155->ļ,underlying85->Ľ,underlying25->ľ,f52->Ŗ,func167->Ŭ,func63->Ů,func48->ů,func49->Ű,func50->ű,func51->Ų,func46->ų,func52->ŵ,t101->Δ,f167->Ζ,f49->Ι,f63->Κ,f47->Μ
open Go renaming undef->Å,Value->Ï,Goroutine->Ý,World->ß,events_store->á,Addr->â,Oper->å,getD_set_ne->ç,Frame->é,execOp->ĉ,Program->ė,Code->Ę,Operand->Ĥ,deafBehind->į,FuncId->ķ,Act->ŏ,maxLen->œ,size_madeCells->ř,callFunc->Ś,yielded->ţ,TypeId->ŭ,runNT->Ŷ,Item->ŷ,Obj->Ÿ,Trace->ż,TypeInfo->Ž,Event->ž,resolve->ſ,Loc->Ν
open Nat renaming lt_of_lt_of_le->È,le_trans->Õ,le_refl->Ú,add_sub_cancel->ø,zero_le->ă,zero_add->č,mod_lt->ĵ,lt_succ_of_lt->Ĺ,le_of_lt->Ł,reduceAdd->ś,sub_zero->ũ,sub_self->Ū
open Go.Obj renaming cells->É,chan->ŕ
open Go.Conc.Goes renaming stop->Ë
open Bool renaming false->Ì,true->Ò,or_eq_true_iff->ī,false_eq_true->Ķ
open Go.Ground renaming phase->Í,data->Ü,textOnly->Þ,gcOnly->õ,chain->Ţ
open Go.IntKind renaming i64->Î,u64->ê,u32->Ď,wrap_i64->Γ
open Go.Departure renaming lateStores->Ð
open Go.Item renaming inRegion->Ñ,inBlock->ô,code->ö,inLoop->ą
open Option.some renaming inj->Ó
open Go.World renaming cell?->Ö,frozen?->î,setCell->þ,alloc->ň
open Go.Operand renaming tmp->Ù,func->ĸ,const->Ũ
open Go.Region renaming ready->Û,Mode->ý,wanted->Ė
open List renaming range->ã,range_succ->ÿ,mem_filter->Ā,filter_append->ā,flatMap_cons->Ć,mem_range->Ē,setIfInBounds_toArray->ē,getElem?_eq_some_iff->Ĕ,length_filter_le->ģ,mem_of_getElem?->ħ,getElem?_of_mem->Ĩ,set_cons_succ->Ĳ,set_cons_zero->ĳ,size_toArray->Ļ,length_cons->ń,nodup_range->ņ,all_eq_true->Ň,length_nil->ŋ
open Go.Code renaming region->ä,block->İ,cond->Ť,skip->ť,exit->Ŧ,ret->Ρ
open Array renaming getElem?_eq_some_iff->æ,getElem?_eq_getElem->ì,getElem?_modify->í,getD_eq_getD_getElem?->ď,all_toList->ĝ
open Go.Region.linearise renaming go->ë
open Go.MemAct renaming ofEvent->ï
open Go.Op renaming fieldAddr->ð,load->ć,move->ę,call->Ě,nilCheck->ĩ,operands->ŉ,extract->Ő,indexAddr->ő,makeFunc->Ş,store->š,assign->ŧ,binOp->Λ
open Go.Extern.Bytes renaming loadBytes->ò,bytesOf->ú,asByte->ü
open Go.Extern.BytealgIndexByte renaming indexByte->ó
open Go.Fn renaming func->ù
open Go.Loc renaming cell->û
open Go.Frame renaming enter->Ă,finish_at->Ģ
open Go.Instr renaming build->Ċ,makeSlice->Ŏ
open Go.GoStatus renaming running->ċ,finished->ş
open Go.Conc renaming mem_ofEvents->Č,mem_listed->đ,seen_none->Ī,crowd->Ĭ,stepG_region->ĺ,events_call_body->ł,deafBehind_still->Ņ,listed->ŗ,handedOver_app->Ř,stepG_seq->Ŝ,stepG_comm->Ż
open Go.Callee renaming value->ĕ,builtin->Ŕ
open Go.Deferred renaming ofValue->ě
open Go.CallKind renaming normal->Ğ,early->Ź
open Go.Addr renaming add_lit->ğ
open Go.Act renaming eval->ĥ,put->Ο
open Eq renaming trans->Ŀ
variable{i n j b k m J j9 j7 j6:Nat}{w u W jX:ß}{v x z jQ:Ï}{g:Ý}{a p:â}{h c:Int}{e t T:ŭ}{d q:Array Ï}{P:ė}{y:ŏ}{B:ByteArray}{X:Nat->Prop}{O:Option â}{l:List Ï}{yQ:Bool}{K H:ŏ->ß->Prop}{o:å}{D:Nat->Nat}{E:Array Ý}{L:List ŷ}{jJ:List Nat}{qX:List é}{qQ:Ĥ}{qJ:ż}{zX:Ν->Prop}{zQ:List Int}{zJ:Ž}{xX:Ĥ->Ï}{xQ:Go.Tape}{xJ:Nat×Nat}{wX:Ę}{wQ:Go.MemOp}{wJ:Array Bool}{vX:List ByteArray}{vQ:Ï->ß->Prop}{vJ:Go.Exit->ŏ->ß->Prop}{yX:ý}{Q:Array å}{f:é}{V:Array ž}{F:ķ}{s:Go.Func}
namespace Go.Proofs.Y.fw
open Go Go.Conc Go.Proofs.Y.Lift Go.RowKit Go.Conc.Lib Go.ConcR.Gen
open Go.Proofs Go.Proofs.YtgpphkdoanciiaaGreatDoor
def FM:å:=⟨Â 13,ð 155 (Ù 5) 3,0, "work.go:57",#[],Á⟩
def CN:å:=⟨Â 14,ć 86<|Ù 13,86, "work.go:57",#[⟨0,Ü⟩],Á⟩
def FN:å:=⟨Â 15,ę<|Ù 1,25, "work.go:57",#[{on:=18,ground:=õ Ð}],Á⟩
def FO:å:=⟨Â 16,ð 155 (Ù 5) 1,0, "work.go:57",#[{on:=18,ground:=õ Ð}],Á⟩
def CO:å:=⟨Â 17,ć 3<|Ù 16,3, "work.go:57",#[⟨3,Ü⟩,{on:=18,ground:=õ Ð}],Á⟩
def FP:å:=⟨Â 18,ð 155 (Ù 5) 2,0, "work.go:57",#[],Á⟩
def CP:å:=⟨Â 19,ć 86<|Ù 18,86, "work.go:57",#[⟨5,Ü⟩],Á⟩
def CQ:å:=⟨Â 20,ĩ<|Ù 19,0, "work.go:57",#[⟨6,Ü⟩],Á⟩
def CR:å:=⟨Â 21,ð 105 (Ù 20) 1,0, "work.go:57",#[⟨7,Ü⟩],Á⟩
def CS:å:=⟨Â 22,ć 65<|Ù 21,65, "work.go:57",#[⟨8,Ü⟩],Á⟩
def FQ:å:=⟨Â 23,ð 155 (Ù 5) 0,0, "work.go:57",#[],Á⟩
def CU:å:=⟨Â 24,ć 148<|Ù 23,148, "work.go:57",#[⟨10,Ü⟩],Á⟩
def Av:å:=⟨Â 25,Ě {callee:=ĕ<|ĸ 66,args:=#[Ù 22,Ù 24],argTypes:=#[65,148]},163, "work.go:57",#[⟨9,Ü⟩,⟨11,Ü⟩],Á⟩
def uR:å:=⟨Â 12,ę<|Ù 25,163, "work.go:57",#[⟨12,Ü⟩],Á⟩
def Aw:å:=⟨Â 26,Ő (Ù 12) 0,65, "work.go:57",#[⟨13,Ü⟩],Á⟩
def Ax:å:=⟨Â 27,Ő (Ù 12) 1,9, "work.go:57",#[⟨13,Ü⟩,{on:=18,ground:=õ Ð}],Á⟩
def CV:å:=⟨Â 28,ĩ<|Ù 14,0, "work.go:57",#[⟨1,Ü⟩,⟨0,Í⟩,⟨1,Í⟩,{on:=2,ground:=Þ Ð},{on:=3,ground:=Þ Ð},{on:=4,ground:=Þ Ð},⟨5,Í⟩,⟨6,Í⟩,⟨7,Í⟩,⟨8,Í⟩,⟨9,Í⟩,⟨10,Í⟩,⟨11,Í⟩,⟨12,Í⟩,⟨13,Í⟩,⟨14,Í⟩,{on:=15,ground:=Þ Ð}],Á⟩
def CW:å:=⟨Â 29,ð 105 (Ù 28) 1,0, "work.go:57",#[⟨16,Ü⟩,⟨0,Í⟩,⟨1,Í⟩,{on:=2,ground:=Þ Ð},{on:=3,ground:=Þ Ð},{on:=4,ground:=Þ Ð},⟨5,Í⟩,⟨6,Í⟩,⟨7,Í⟩,⟨8,Í⟩,⟨9,Í⟩,⟨10,Í⟩,⟨11,Í⟩,⟨12,Í⟩,⟨13,Í⟩,⟨14,Í⟩,{on:=15,ground:=Þ Ð}],Á⟩
def Ay:å:=⟨Á,š 65 (Ù 29)<|Ù 26,0, "work.go:57",#[⟨17,Ü⟩,⟨14,Ü⟩,⟨12,Ţ⟩,⟨0,Í⟩,⟨1,Í⟩,{on:=2,ground:=Þ Ð},{on:=3,ground:=Þ Ð},{on:=4,ground:=Þ Ð},⟨5,Í⟩,⟨6,Í⟩,⟨7,Í⟩,⟨8,Í⟩,⟨9,Í⟩,⟨10,Í⟩,⟨11,Í⟩,⟨12,Í⟩,⟨13,Í⟩,⟨14,Í⟩,{on:=15,ground:=Þ Ð}],Á⟩
def Az:å:=⟨Â 30,ő 25 (Ù 15)<|Ù 17,0, "work.go:57",#[⟨2,Ü⟩,⟨4,Ü⟩,⟨0,Í⟩,⟨1,Í⟩,⟨2,Í⟩,⟨3,Í⟩,⟨4,Í⟩,⟨5,Í⟩,⟨6,Í⟩,⟨7,Í⟩,⟨8,Í⟩,⟨9,Í⟩,⟨10,Í⟩,⟨11,Í⟩,⟨12,Í⟩,⟨13,Í⟩,⟨14,Í⟩,⟨15,Í⟩,⟨16,Í⟩,⟨17,Í⟩,⟨18,Í⟩],Á⟩
def AA:å:=⟨Á,š 9 (Ù 30)<|Ù 27,0, "work.go:57",#[⟨19,Ü⟩,⟨15,Ü⟩,⟨18,Ţ⟩,⟨0,Í⟩,⟨1,Í⟩,⟨2,Í⟩,⟨3,Í⟩,⟨4,Í⟩,⟨5,Í⟩,⟨6,Í⟩,⟨7,Í⟩,⟨8,Í⟩,⟨9,Í⟩,⟨10,Í⟩,⟨11,Í⟩,⟨12,Í⟩,⟨13,Í⟩,⟨14,Í⟩,⟨15,Í⟩,⟨16,Í⟩,⟨17,Í⟩,⟨18,Í⟩],Á⟩
def yh:Array å:=#[FM,CN,FN,FO,CO,FP,CP,CQ,CR,CS,FQ,CU,Av,uR,Aw,Ax,CV,CW,Ay,Az,AA]
def my(tb a b c N d:Nat)(e f:Ï)(x:(Option Addr×Nat×Nat)×ByteArray):Nat->Ï
 |0=>À<|Â ⟨tb,3,Á⟩
 |1=>À<|Â ⟨b,0,Á⟩
 |2=>Æ (Â ⟨c,0,Á⟩) N N
 |3=>À<|Â ⟨tb,1,Á⟩
 |4=>Ê Î d
 |5=>À<|Â ⟨tb,2,Á⟩
 |6=>À<|Â ⟨a,0,Á⟩
 |7=>À<|Â ⟨a,0,Á⟩
 |8=>À<|Â ⟨a,2,Á⟩
 |9=>f
 |10=>À<|Â ⟨tb,0,Á⟩
 |11=>e
 |12=>ñ #[Æ x.1.1 x.1.2.1 x.1.2.2,à x.2]
 |13=>ñ #[Æ x.1.1 x.1.2.1 x.1.2.2,à x.2]
 |14=>Æ x.1.1 x.1.2.1 x.1.2.2
 |15=>à x.2
 |16=>À<|Â ⟨b,0,Á⟩
 |17=>À<|Â ⟨b,2,Á⟩
 |19=>À<|Â ⟨c,d,Á⟩
 |_=>Å
structure CX(ig:e7)(ga gb an pl:Nat)(rP:Ï)(Q:Ï->ByteArray->e7->Prop)(listed:Array Bool)(x:(Option Addr×Nat×Nat)×ByteArray)(l:e7):Prop where
 r:iw (λa=>a=⟨gb,2,Á⟩\/a=⟨an,pl,Á⟩) ig l
 uS:listed.getD 12 Ì=Ò->∃y,Q (Æ x.1.1 x.1.2.1 x.1.2.2) x.2 y/\(∀b,y.M b->l.M b/\l.w.heap[b]?=y.w.heap[b]?)
 I:listed.getD 18 Ì=Ò->l.w.cell? ⟨gb,2,Á⟩=Â (Æ x.1.1 x.1.2.1 x.1.2.2)
 N:listed.getD 20 Ì=Ò->l.w.cell? ⟨an,pl,Á⟩=Â (à x.2)
def CX.C{d l:e7}{Q:Ï->ByteArray->e7->Prop}{listed:Array Bool}{x:(Option Addr×Nat×Nat)×ByteArray}(h:CX d n j b k v Q listed x l)(o:i≠12)(p:i≠18)(s:i≠20)(e:d.r ⟨j,2,Á⟩/\d.r ⟨b,k,Á⟩)(m:ß)(r:fE l l.w m):CX d n j b k v Q (listed.setIfInBounds i Ò) x {l with w:=m}:=by
 have t:∀a,(a=⟨j,2,Á⟩\/a=⟨b,k,Á⟩)->d.r a:=λa u=>by rcases u with rfl|rfl;exact e.1;exact e.2
 refine⟨h.r.N t r,λq=> ?_,λq=> ?_,λq=> ?_⟩
 .rw[ç Ì o]at q;let⟨y,z,f⟩:=h.uS q;exact⟨y,z,λc g=>⟨(f c g).1,(r.I c (f c g).1).trans (f c g).2⟩⟩
 .rw[ç Ì p]at q;exact(r.N _<|by rw[h.r.C];exact Ã e.1).trans<|h.I q
 .rw[ç Ì s]at q;exact(r.N _<|by rw[h.r.C];exact Ã e.2).trans<|h.N q
section
variable{J:Jd}{ig:e7}{ga gb an pl:Nat}{rP:Ï}{Q:Ï->ByteArray->e7->Prop}
def ahc(S:gp ig)(hq:¬ig.q)(ht:d.size=37)(AB:d[1]?=Â (Æ (Â ⟨an,0,Á⟩) i i))(PY:d[5]?=Â (À<|Â ⟨n,0,Á⟩))(hO:ig.O n) (X:ig.w.cell? ⟨n,0,Á⟩=Â v) (Y:ig.w.cell? ⟨n,1,Á⟩=Â (Ê Î pl)) (c2:ig.w.cell? ⟨n,2,Á⟩=Â (À<|Â ⟨ga,0,Á⟩)) (c3:ig.w.cell? ⟨n,3,Á⟩=Â (À<|Â ⟨gb,0,Á⟩)) (tA:ig.N ⟨ga,2,Á⟩) (o5:ig.w.cell? ⟨ga,2,Á⟩=Â rP) (F:ig.r ⟨gb,2,Á⟩) (H:ig.r ⟨an,pl,Á⟩) (e1:(ig.w.cell? ⟨gb,2,Á⟩).isSome=Ò) (e2:(ig.w.cell? ⟨an,pl,Á⟩).isSome=Ò) (z1:ig.w.frozen? ⟨gb,2,Á⟩=Ì) (z2:ig.w.frozen? ⟨an,pl,Á⟩=Ì) (sP:pl<i) (hN:i<1000000) (kQ:(⟨gb,2,Á⟩:â)≠⟨an,pl,Á⟩) (sX:∀l,iw (λa=>a=⟨gb,2,Á⟩\/a=⟨an,pl,Á⟩) ig l->∀I ll,ff Ä Ì (λl' g'=>l'.d=l.d/\∃p g c str,g'=G (I.finish<|ñ #[Æ p g c,à str]) ll/\Q (Æ p g c) str l') (lJ l)<|G (Ă Ä 66 #[rP,v] Ğ)<|I::ll) (md:ý) (listed:Array Bool) (a:ŏ) (l:e7) (k:Nat) (rest:List Nat) (hI:II yh d (my n ga gb an i pl v rP) (CX ig ga gb an pl rP Q) listed a l) (D:k∈Û md yh listed): ff Ä Ì (λl' g'=>∃u,g'=G ((base 49).at u<|Ñ yh rest::L) qX/\II yh d (my n ga gb an i pl v rP) (CX ig ga gb an pl rP Q) (listed.setIfInBounds k Ò) u l') l (G ((base 49).at a<|Ñ yh (k::rest)::L) qX):=by
 let⟨x,s,B⟩:=hI;have K:tx yh d.size=Ò:=by rw[ht];decide
 have V:=PV D;have gI:=CM D;have M:=B.r.fq;have N:¬l.q:=by rwa[B.r.q]
 have W:∀y:â,(y=⟨gb,2,Á⟩\/y=⟨an,pl,Á⟩)->ig.r y:=λy ha=>by rcases ha with rfl|rfl;exact F;exact H
 have mQ:a.tmps[1]?=Â (Æ (Â ⟨an,0,Á⟩) i i):=(s.C A).trans AB;have pZ:a.tmps[5]?=Â (À<|Â ⟨n,0,Á⟩):=(s.C A).trans PY;have I:∀j m,ig.w.cell? ⟨n,j,Á⟩=Â m->gS l ⟨n,j,Á⟩/\l.w.cell? ⟨n,j,Á⟩=Â m:=λj m h=>⟨Ã<|Ã<|B.r.O n hO,by rwa[gF<|B.r.r n<|Ã hO]⟩;have PZ:¬((⟨ga,2,Á⟩:â)=⟨gb,2,Á⟩\/(⟨ga,2,Á⟩:â)=⟨an,pl,Á⟩):=λq=>by
  rcases q with q|q
  .exact S.Y _ F<|q▸tA
  .exact S.Y _ H<|q▸tA
 have FR:gS l ⟨ga,2,Á⟩/\l.w.cell? ⟨ga,2,Á⟩=Â rP:=⟨Ç (Ç<|by rwa[B.r.c]),by rwa[B.r.e _ (Ç tA) PZ]⟩;have P0:(pl:Int)<(i:Int):=Z
 have jC:yh.size=21:=A
 rw[jC]at gI;match k,gI with
 |0,_=>
  refine hD (o:=FM) K s U U D (by k_ne) M N (λt r=> ?_) (λt r e E=> ?_)<|B.C A A A ⟨F,H⟩
  .simp only[my,FM];go_simp
  .simp[go_sem,FM,pZ]at E
 |1,_=>
  have u:a.tmps[13]?=Â (À<|Â ⟨n,3,Á⟩):=s.r 0 FM 13 U (gY (o:=CN) D U U) U;refine hD (o:=CN) K s U U D (by k_ne) M N (λt r=> ?_) (λt r e E=> ?_)<|B.C A A A ⟨F,H⟩
  .have J:t.cell? ⟨n,3,Á⟩=Â (À<|Â ⟨gb,0,Á⟩):=((I 3 _ c3).1.r r).trans (I 3 _ c3).2;simp only[my,CN];go_simp
  .have J:t.cell? ⟨n,3,Á⟩=Â (À<|Â ⟨gb,0,Á⟩):=((I 3 _ c3).1.r r).trans (I 3 _ c3).2;have b:e=⟨û ⟨n,3,Á⟩,Ì,Ì⟩:=by simp[go_sem,CN,J,u]at E;exact E
   subst b;exact(I 3 _ c3).1.C
 |2,_=>
  refine hD (o:=FN) K s U U D (by k_ne) M N (λt r=> ?_) (λt r e E=> ?_)<|B.C A A A ⟨F,H⟩
  .simp only[my,FN];go_simp
  .simp[go_sem,FN,mQ]at E
 |3,_=>
  refine hD (o:=FO) K s U U D (by k_ne) M N (λt r=> ?_) (λt r e E=> ?_)<|B.C A A A ⟨F,H⟩
  .simp only[my,FO];go_simp
  .simp[go_sem,FO,pZ]at E
 |4,_=>
  have u:a.tmps[16]?=Â (À<|Â ⟨n,1,Á⟩):=s.r 3 FO 16 U (gY (o:=CO) D U U) U;refine hD (o:=CO) K s U U D (by k_ne) M N (λt r=> ?_) (λt r e E=> ?_)<|B.C A A A ⟨F,H⟩
  .have J:t.cell? ⟨n,1,Á⟩=Â (Ê Î pl):=((I 1 _ Y).1.r r).trans (I 1 _ Y).2;simp only[my,CO];go_simp
  .have J:t.cell? ⟨n,1,Á⟩=Â (Ê Î pl):=((I 1 _ Y).1.r r).trans (I 1 _ Y).2;have b:e=⟨û ⟨n,1,Á⟩,Ì,Ì⟩:=by simp[go_sem,CO,J,u]at E;exact E
   subst b;exact(I 1 _ Y).1.C
 |5,_=>
  refine hD (o:=FP) K s U U D (by k_ne) M N (λt r=> ?_) (λt r e E=> ?_)<|B.C A A A ⟨F,H⟩
  .simp only[my,FP];go_simp
  .simp[go_sem,FP,pZ]at E
 |6,_=>
  have u:a.tmps[18]?=Â (À<|Â ⟨n,2,Á⟩):=s.r 5 FP 18 U (gY (o:=CP) D U U) U;refine hD (o:=CP) K s U U D (by k_ne) M N (λt r=> ?_) (λt r e E=> ?_)<|B.C A A A ⟨F,H⟩
  .have J:t.cell? ⟨n,2,Á⟩=Â (À<|Â ⟨ga,0,Á⟩):=((I 2 _ c2).1.r r).trans (I 2 _ c2).2;simp only[my,CP];go_simp
  .have J:t.cell? ⟨n,2,Á⟩=Â (À<|Â ⟨ga,0,Á⟩):=((I 2 _ c2).1.r r).trans (I 2 _ c2).2;have b:e=⟨û ⟨n,2,Á⟩,Ì,Ì⟩:=by simp[go_sem,CP,J,u]at E;exact E
   subst b;exact(I 2 _ c2).1.C
 |7,_=>
  have u:a.tmps[19]?=Â (À<|Â ⟨ga,0,Á⟩):=s.r 6 CP 19 U (gY (o:=CQ) D U U) U;refine hD (o:=CQ) K s U U D (by k_ne) M N (λt r=> ?_) (λt r e E=> ?_)<|B.C A A A ⟨F,H⟩
  .simp only[my,CQ];go_simp
  .simp[go_sem,CQ,u]at E
 |8,_=>
  have u:a.tmps[20]?=Â (À<|Â ⟨ga,0,Á⟩):=s.r 7 CQ 20 U (gY (o:=CR) D U U) U;refine hD (o:=CR) K s U U D (by k_ne) M N (λt r=> ?_) (λt r e E=> ?_)<|B.C A A A ⟨F,H⟩
  .simp only[my,CR];go_simp
  .simp[go_sem,CR,u]at E
 |9,_=>
  have u:a.tmps[21]?=Â (À<|Â ⟨ga,2,Á⟩):=s.r 8 CR 21 U (gY (o:=CS) D U U) U;refine hD (o:=CS) K s U U D (by k_ne) M N (λt r=> ?_) (λt r e E=> ?_)<|B.C A A A ⟨F,H⟩
  .have J:t.cell? ⟨ga,2,Á⟩=Â (rP):=(FR.1.r r).trans FR.2;simp only[my,CS];go_simp
  .have J:t.cell? ⟨ga,2,Á⟩=Â (rP):=(FR.1.r r).trans FR.2;have b:e=⟨û ⟨ga,2,Á⟩,Ì,Ì⟩:=by simp[go_sem,CS,J,u]at E;exact E
   subst b;exact FR.1.C
 |10,_=>
  refine hD (o:=FQ) K s U U D (by k_ne) M N (λt r=> ?_) (λt r e E=> ?_)<|B.C A A A ⟨F,H⟩
  .simp only[my,FQ];go_simp
  .simp[go_sem,FQ,pZ]at E
 |11,_=>
  have u:a.tmps[23]?=Â (À<|Â ⟨n,0,Á⟩):=s.r 10 FQ 23 U (gY (o:=CU) D U U) U;refine hD (o:=CU) K s U U D (by k_ne) M N (λt r=> ?_) (λt r e E=> ?_)<|B.C A A A ⟨F,H⟩
  .have J:t.cell? ⟨n,0,Á⟩=Â (v):=((I 0 _ X).1.r r).trans (I 0 _ X).2;simp only[my,CU];go_simp
  .have J:t.cell? ⟨n,0,Á⟩=Â (v):=((I 0 _ X).1.r r).trans (I 0 _ X).2;have b:e=⟨û ⟨n,0,Á⟩,Ì,Ì⟩:=by simp[go_sem,CU,J,u]at E;exact E
   subst b;exact(I 0 _ X).1.C
 |12,_=>
  have FT:a.tmps[22]?=Â (rP):=s.r 9 CS 22 U (gY (o:=Av) D U U) U;have Jv:a.tmps[24]?=Â (v):=s.r 11 CU 24 U (gY (o:=Av) D U U) U;refine Xz (o:=Av) K s U U D (by k_ne) M (f:=66) (args:=#[rP,v]) (λw=>by simp only[Av];go_simp) (λw=>ł (o:=Av) U Tryz.func66 U U #[]) λt r=> ?_;have T:=B.r.N W r;refine((sX _ T _ _).lJ<|T.G S).fI ?_;rintro l' g' ⟨y,⟨hy0,p,g,c,str,rfl,hQ⟩,rfl,hA,XC,ahd,ahe⟩;refine⟨((p,g,c),str),U,⟨T.PW W hA hy0,λ_=>⟨y,hQ,λb P=>⟨?_,U⟩⟩,λq=> ?_,λq=> ?_⟩,λj u=> ?_⟩
  .rcases P with q|q
   .exact Ã<|Ã q
   .rw[XC]at q;exact q.elim (λz=>Ã<|Ç z) Ç
  .rw[ç Ì A]at q;exact absurd (s.I (o:=Ay) U q U)<|wh V
  .rw[ç Ì A]at q;exact absurd (s.I (o:=AA) U q U)<|wh V
  .match j,u with
   |12,u=>exact absurd u<|wh V
   |13,u=>exact absurd (s.I (o:=uR) U u U)<|wh V
   |14,u=>exact absurd (s.I (o:=uR) U (s.I (j:=13) (o:=Aw) U u U) U)<|wh V
   |15,u=>exact absurd (s.I (o:=uR) U (s.I (j:=13) (o:=Ax) U u U) U)<|wh V
   |0,_|1,_|2,_|3,_|4,_|5,_|6,_|7,_|8,_|9,_|10,_|11,_|16,_|17,_|18,_|19,_|20,_|g+21,_=>rfl
 |13,_=>
  have u:a.tmps[25]?=Â (ñ #[Æ x.1.1 x.1.2.1 x.1.2.2,à x.2]):=s.r 12 Av 25 U (gY (o:=uR) D U U) U;refine hD (o:=uR) K s U U D (by k_ne) M N (λt r=> ?_) (λt r e E=> ?_)<|B.C A A A ⟨F,H⟩
  .simp only[my,uR];go_simp
  .simp[go_sem,uR,u]at E
 |14,_=>
  have u:a.tmps[12]?=Â (ñ #[Æ x.1.1 x.1.2.1 x.1.2.2,à x.2]):=s.r 13 uR 12 U (gY (o:=Aw) D U U) U;refine hD (o:=Aw) K s U U D (by k_ne) M N (λt r=> ?_) (λt r e E=> ?_)<|B.C A A A ⟨F,H⟩
  .simp only[my,Aw];go_simp
  .simp[go_sem,Aw,u]at E
 |15,_=>
  have u:a.tmps[12]?=Â (ñ #[Æ x.1.1 x.1.2.1 x.1.2.2,à x.2]):=s.r 13 uR 12 U (gY (o:=Ax) D U U) U;refine hD (o:=Ax) K s U U D (by k_ne) M N (λt r=> ?_) (λt r e E=> ?_)<|B.C A A A ⟨F,H⟩
  .simp only[my,Ax];go_simp
  .simp[go_sem,Ax,u]at E
 |16,_=>
  have u:a.tmps[14]?=Â (À<|Â ⟨gb,0,Á⟩):=s.r 1 CN 14 U (gY (o:=CV) D U U) U;refine hD (o:=CV) K s U U D (by k_ne) M N (λt r=> ?_) (λt r e E=> ?_)<|B.C A A A ⟨F,H⟩
  .simp only[my,CV];go_simp
  .simp[go_sem,CV,u]at E
 |17,_=>
  have u:a.tmps[28]?=Â (À<|Â ⟨gb,0,Á⟩):=s.r 16 CV 28 U (gY (o:=CW) D U U) U;refine hD (o:=CW) K s U U D (by k_ne) M N (λt r=> ?_) (λt r e E=> ?_)<|B.C A A A ⟨F,H⟩
  .simp only[my,CW];go_simp
  .simp[go_sem,CW,u]at E
 |18,_=>
  have h29:a.tmps[29]?=Â (À<|Â ⟨gb,2,Á⟩):=s.r 17 CW 29 U (gY (o:=Ay) D U U) U;have h26:a.tmps[26]?=Â (Æ x.1.1 x.1.2.1 x.1.2.2):=s.r 14 Aw 26 U (gY (o:=Ay) D U U) U;have T:(l.w.cell? ⟨gb,2,Á⟩).isSome=Ò:=B.r.g _ (Ã U) e1;have AF:l.w.frozen? ⟨gb,2,Á⟩=Ì:=(B.r.S _<|Ã F).trans z1;have kY:po l ⟨gb,2,Á⟩:=Ç (by rwa[B.r.I]);refine PX (o:=Ay) (y:=⟨gb,2,Á⟩) (v:=Æ x.1.1 x.1.2.1 x.1.2.2) K s U U U D (by k_ne) M N U kY T AF (λw J hz=> ?_) (λw J hz=> ?_) λt r=> ?_
  .let⟨u,hu⟩:=Ô.1 J;simp only[Ay];go_simp
  .let⟨u,hu⟩:=Ô.1 J;simp[go_sem,Ay,h29,h26,á _ _ _ _ _ _ (show Ø (Æ x.1.1 x.1.2.1 x.1.2.2)=Ò from rfl),hu,hz]
  .have hA:=B.r.pO S W (x:=⟨gb,2,Á⟩) (v:=Æ x.1.1 x.1.2.1 x.1.2.2) (Ã U) U T;refine⟨hA.N W ⟨r.r,r.I,r.N,r.Y,r.S⟩,λq=> ?_,λq=> ?_,λq=> ?_⟩
   .rw[ç Ì A]at q;let⟨y,y1,z⟩:=B.uS q;refine⟨y,y1,λb P=>⟨(z b P).1,?_⟩⟩;have P1:b≠(⟨gb,2,Á⟩:â).block:=λe=>(B.r.G S).N ⟨gb,2,Á⟩ (by rw[B.r.C];exact Ã F)<|e▸(z b P).1;exact(r.I b (z b P).1).trans<|(kR P1).trans (z b P).2
   .exact(r.N _ (by rw[B.r.C];first|exact Ã F|exact Ã H)).trans<|zO (Ô.1 T).choose_spec
   .rw[ç Ì A]at q;exact(r.N ⟨an,pl,Á⟩<|by rw[B.r.C];exact Ã H).trans<|(Au U λe=>kQ e.symm).trans<|B.N q
 |19,_=>
  have P3:a.tmps[15]?=Â (Æ (Â ⟨an,0,Á⟩) i i):=s.r 2 FN 15 U (gY (o:=Az) D U U) U;have P4:a.tmps[17]?=Â (Ê Î pl):=s.r 4 CO 17 U (gY (o:=Az) D U U) U;refine hD (o:=Az) K s U U D (by k_ne) M N (λt r=> ?_) (λt r e E=> ?_)<|B.C A A A ⟨F,H⟩
  .simp only[my,Az];go_simp
  .simp[go_sem,Az,sP,P0,P3,P4]at E
 |20,_=>
  have E:a.tmps[30]?=Â (À<|Â ⟨an,pl,Á⟩):=s.r 19 Az 30 U (gY (o:=AA) D U U) U;have h27:a.tmps[27]?=Â (à x.2):=s.r 15 Ax 27 U (gY (o:=AA) D U U) U;have T:(l.w.cell? ⟨an,pl,Á⟩).isSome=Ò:=B.r.g _ (Ç U) e2;have AF:l.w.frozen? ⟨an,pl,Á⟩=Ì:=(B.r.S _<|Ã H).trans z2;have kY:po l ⟨an,pl,Á⟩:=Ç (by rwa[B.r.I]);refine PX (o:=AA) (y:=⟨an,pl,Á⟩) (v:=à x.2) K s U U U D (by k_ne) M N U kY T AF (λw J hz=> ?_) (λw J hz=> ?_) λt r=> ?_
  .let⟨u,hu⟩:=Ô.1 J;simp only[AA];go_simp
  .let⟨u,hu⟩:=Ô.1 J;simp[go_sem,AA,E,h27,á _ _ _ _ _ _ (show Ø (à x.2)=Ò from rfl),hu,hz]
  .have hA:=B.r.pO S W (x:=⟨an,pl,Á⟩) (v:=à x.2) (Ç U) U T;refine⟨hA.N W ⟨r.r,r.I,r.N,r.Y,r.S⟩,λq=> ?_,λq=> ?_,λq=> ?_⟩
   .rw[ç Ì A]at q;let⟨y,y1,z⟩:=B.uS q;refine⟨y,y1,λb P=>⟨(z b P).1,?_⟩⟩;have P1:b≠(⟨an,pl,Á⟩:â).block:=λe=>(B.r.G S).N ⟨an,pl,Á⟩ (by rw[B.r.C];exact Ã H)<|e▸(z b P).1;exact(r.I b (z b P).1).trans<|(kR P1).trans (z b P).2
   .rw[ç Ì A]at q;exact(r.N ⟨gb,2,Á⟩<|by rw[B.r.C];exact Ã F).trans<|(Au U<|kQ).trans<|B.I q
   .exact(r.N _ (by rw[B.r.C];first|exact Ã F|exact Ã H)).trans<|zO (Ô.1 T).choose_spec
 |g+21,h=>exact absurd h Z
end
section
variable{E:â->Prop}{l c g:e7}
def iw.fc(h:iw E l c)(k:iw E c g):iw E l g:=by have f:=h.C;exact⟨λj e=>k.O j<|h.O j e,λj e=>(k.h j e).elim (h.h j) λq=>Ç<|Õ h.f q,k.Y.trans h.Y,k.I.trans h.I,k.c.trans h.c,k.K.trans h.K,k.q.trans h.q,k.d.trans h.d,k.fq,Õ h.f k.f,λj e=>(k.r j<|h.M e).trans<|h.r j e,λa b i=>(k.e a (by rwa[f]) i).trans<|h.e a b i,λa b=>(k.S a<|by rwa[f]).trans<|h.S a b,λa b q=>k.b a (by rwa[h.K])<|h.b a b q,λa b q=>k.g a b<|h.g a b q⟩
end
def gJ(l:e7)(w₁:ß)(o:Ÿ):e7:={l with O:=λb=>l.O b\/b=w₁.heap.size,w:=w₁.alloc o}
theorem yi{o:Ÿ}(h:j<w.heap.size):(w.alloc o).heap[j]?=w.heap[j]?:=by unfold ň;grind
theorem nn{o:Ÿ}:(w.alloc o).heap[w.heap.size]?=Â o:=by unfold ň;simp
def Jw{o:Ÿ}:(w.alloc o).heap.size=w.heap.size+1:=by unfold ň;simp
section
variable{J:Jd}{l:e7}{a:ŏ}{k:List ŷ}{cs:List é}{ob:Ÿ}{E:â->Prop}
def XD(b:∀j,l.O j->j<w.heap.size)(c:¬l.q):lV l (gJ l w ob) w (w.alloc ob) #[]:= ⟨by rw[Jw];omega,λj h=>h.imp id λe=>by omega,λj h=>by rw[Jw];exact h.elim (λq=>Ĺ<|b j q) λe=>by omega,U,U,U,U,λj d _ _=>yi d,λx a _ _=>gF<|yi a,λx a _=>vI<|yi a,U,U,U,λe f=>by simp at f,by simp[į,gJ],U,λq=>absurd q c,U⟩
def FU(c:Q[i]?=Â o)(d:Ė o (ţ Q a.tmps)=Ò)(e:f.kind≠Ź)(g:jY l)(h:¬l.q) (j:∀w,(ĉ a.eval o).run P w=.ok (.value<|À<|Â ⟨w.heap.size,0,Á⟩) (w.alloc ob)) (m:∀w,(ĉ a.eval o).events P w #[]=#[]) (n:∀b,fE l l.w b->ff P yQ J (gJ l b ob) (G (f.at (a.put o.dst<|À<|Â ⟨b.heap.size,0,Á⟩)<|Ñ Q jJ::k) cs)):ff P yQ J l (G (f.at a<|Ñ Q (i::jJ)::k) cs):=by
 refine uP c d e λb r=> ?_;rw[j b];refine⟨_,?_,n b r⟩;have:listed P f.fn a o b=#[]:=by unfold listed;rw[m b,Ī]
 rw[this];exact XD (lZ g r) h
def Jx(s:gp l)(d:∀a,E a->l.r a)(r:fE l l.w u):iw E l (gJ l u ob):=by
 have c:=r.r;refine⟨λj h=>Ã h,λj h=>h.imp id λe=>by omega,U,U,U,U,U,U,λj h=> ?_,?_,λj f=>(yi<|È (s.fq j f) c).trans<|r.I j f,λx b _=>(gF<|yi<|È (s.I x b) c).trans<|r.N x b,λx b=>(vK<|yi<|È (s.I x b) c).trans<|r.Y x b,λx b q=> ?_,λx b q=> ?_⟩
 .show j<(u.alloc ob).heap.size;rw[Jw];exact h.elim (λq=>Ĺ<|È (s.fq j<|Ã q) c) λe=>by omega
 .show l.w.heap.size<=(u.alloc ob).heap.size;rw[Jw];omega
 .show((u.alloc ob).cell? x).isSome=Ò;rw[gF<|yi<|È (s.S x b).2.1 c];exact r.S x b q
 .show((u.alloc ob).cell? x).isSome=Ò;rwa[gF<|yi<|È (s.I x<|Ã<|d x b) c,r.N x<|Ã<|d x b]
def Jy{w':ß}{p:Nat}(g:∀j,l.O j->j<w.heap.size)(i:¬l.q)(b:l.O p)(k:w'.heap.size=w.heap.size)(c:∀j,j≠p->w'.heap[j]?=w.heap[j]?)(d:w'.os=w.os/\w'.output=w.output/\w'.tape=w.tape)(f:∀e∈V,we l e):lV l {l with w:=w'} w w' V:=by refine⟨Z,λ_ h=>Ã h,λj h=>by rw[k];exact g j h,U,U,U,U,λj _ a _=>c j λe=>a<|e▸b,λx _ a _=>gF (c _ λe=>a<|e▸b),λx _ a=>vI (c _ λe=>a<|e▸b),d.1,d.2.1,d.2.2,λe h=>(f e h).1,(Jr f _).symm,U,λq=>absurd q i,U⟩
end
def iN(w:ß)(p:Nat)(v0 v1 v2 v3:Ï):ß:=(((w.setCell ⟨p,0,Á⟩ v0).setCell ⟨p,1,Á⟩ v1).setCell ⟨p,2,Á⟩ v2).setCell ⟨p,3,Á⟩ v3
section
variable{p:Nat}{v0 v1 v2 v3:Ï}
def wi:(iN w p v0 v1 v2 v3).heap.size=w.heap.size:=by unfold iN;rw[jM,jM,jM,jM]
def yj(h:j≠p):(iN w p v0 v1 v2 v3).heap[j]?=w.heap[j]?:=by unfold iN;rw[kR h,kR h,kR h,kR h]
theorem P5(b:w.cell? ⟨p,0,Á⟩=Â v)(c:w.cell? ⟨p,1,Á⟩=Â x)(d:w.cell? ⟨p,2,Á⟩=Â z)(e:w.cell? ⟨p,3,Á⟩=Â jQ): (iN w p v0 v1 v2 v3).cell? ⟨p,0,Á⟩=Â v0/\(iN w p v0 v1 v2 v3).cell? ⟨p,1,Á⟩=Â v1/\(iN w p v0 v1 v2 v3).cell? ⟨p,2,Á⟩=Â v2/\(iN w p v0 v1 v2 v3).cell? ⟨p,3,Á⟩=Â v3:=by have f:∀(w:ß) (i j:Nat) (a:Ï),i≠j->(w.setCell ⟨p,i,Á⟩ a).cell? ⟨p,j,Á⟩=w.cell? ⟨p,j,Á⟩:=λw i j a h=>xH<|Ç h;unfold iN;grind [zO]
def P7{E:â->Prop}{l e:e7}(s:gp l)(f:∀a,E a->l.r a)(h:iw E l e){w':ß}(r:fE e e.w u)(k:l.w.heap.size<=p)(g:w'.heap.size=u.heap.size)(i:∀j,j≠p->w'.heap[j]?=u.heap[j]?):iw E l {e with w:=w'}:=by
 have b:=h.N f r;have c:∀{j:Nat},j<l.w.heap.size->w'.heap[j]?=u.heap[j]?:=λ{j} q=>i j Z;refine⟨b.O,b.h,b.Y,b.I,b.c,b.K,b.q,b.d,λj q=> ?_,?_,λj q=>(c<|s.fq j q).trans<|b.r j q,λa q n=>(gF<|c<|s.I a q).trans<|b.e a q n,λa q=>(vK<|c<|s.I a q).trans<|b.S a q,λa q z=> ?_,λa q z=> ?_⟩
 .show j<w'.heap.size;rw[g];exact b.fq j q
 .show l.w.heap.size<=w'.heap.size;rw[g];exact b.f
 .show(w'.cell? a).isSome=Ò;rw[gF<|c (s.S a q).2.1];exact b.b a q z
 .show(w'.cell? a).isSome=Ò;rw[gF<|c<|s.I a<|Ã<|f a q];exact b.g a q z
end
def yk(t:Array Ï)(h:t.size=n):∃u:Nat->Ï,t=((ã n).map u).toArray:=by subst h;refine⟨λi=>t.getD i Å,Array.ext fh λi a _=> ?_⟩;simp_all
def P8(t:Array Ï)(h:t.size=37):∃a b c d e f g i j k l m n o p q r s u v w x y z B C D E F G H I J K L M N:Ï,t=#[a,b,c,d,e,f,g,i,j,k,l,m,n,o,p,q,r,s,u,v,w,x,y,z,B,C,D,E,F,G,H,I,J,K,L,M,N]:=by obtain⟨_,rfl⟩:=yk t h;exact⟨_,_,_,_,_,_,_,_,_,_,_,_,_,_,_,_,_,_,_,_,_,_,_,_,_,_,_,_,_,_,_,_,_,_,_,_,_,U⟩
end Go.Proofs.Y.fw
namespace Go.Proofs.Y.fw
open Go Go.Conc Go.Proofs.Y.Lift Go.RowKit Go.Conc.Lib Go.ConcR.Gen
section
variable{Ψ:ß->Prop}{L:WgLink}{l:e7}{e:Jd}{k:List ŷ}
def P9(Ψ:ß->Prop)(l:e7)(b:Nat)(w:ß):Prop:=SW Ψ l b w/\fE l l.w w
def oL(a:lI Ψ l b)(h:P9 Ψ l b w)(r:fE l w u):P9 Ψ l b u:=⟨fF h.1<|a.r r,h.2.fc r⟩
def ahf{J:Jd}(a:SW Ψ l b l.w)(c:Goes P yQ (fE l) Go.ConcR.DC0 (λd e=>ff P yQ J {l with w:=e} d) n g l.w):ff P yQ J l g:= Oj c (λ_ _ r=>r) a.1 λ_ _ _ h=>h
def ahg(H:WgLib P L)(τ:e7->e7)(Φ:e7->Prop)(c:lI Ψ l b)(z:SW Ψ l b l.w) (N:∀a,fE l l.w a->Φ {l with w:=a}/\(τ {l with w:=a}).d=0/\∃q:ß->Prop,lI q (τ {l with w:=a}) b/\SW q (τ {l with w:=a}) b (τ {l with w:=a}).w/\ ∀j,SW q (τ {l with w:=a}) b j->ff P Ì e {τ {l with w:=a}with d:=0,w:=j} (G (f.at (y.put ((Q[i]?).bind (·.dst))<|ñ #[])<|Ñ Q jJ::k) qX)): ff P Ì (λl g=>Φ l/\xK P Ì b (ff P Ì e) (τ l) g) l (G ((base L.done).at ⟨#[À<|Â ⟨b,0,Á⟩,Å,Å,Å],[]⟩ [ö<|body_done L])<|f.at y (Ñ Q (i::jJ)::k)::qX):=by
 lib_facts;simp only[body_done,doneFn,Ń];have hF:P9 Ψ l b l.w:=⟨z,fE.fQ _ _⟩;apply ahf z (n:=40);u_reg (oL c) hF;u_op (oL c) hF;u_call H.f_add (nm_add L) addFn (oL c) hF;u_c Ŝ (oL c) hF;u_cond Ò (oL c) hF;u_c Ŝ (oL c) hF;u_c Ŝ (oL c) hF;u_reg (oL c) hF;u_op (oL c) hF;u_op (oL c) hF;u_c stepG_region_end (oL c) hF;u_cond Ò (oL c) hF;u_reg (oL c) hF;u_op (oL c) hF;u_conv H.underlying_tWgP H.room_tWg (mP.r hF.1.2.1).choose_spec (oL c) hF;refine Ë λa g=> ?_;replace hF:=oL c hF g;clear g;refine .fv λj r=> ?_;let⟨O,B,q,h,C,D⟩:=N j<|hF.2.fc<|yb r;refine⟨O,B,U,_,λ_=>stepG_markAt .releaseMerge fh U U (by k_ne) U H.f_relMerge (x_relMerge_n L) (x_relMerge_b L) (x_relMerge_x L) (x_relMerge_f L) (by simp[ĥ,fH]),?_⟩;walk_nrm;show ff P Ì (Nl P Ì b<|ff P Ì e) (τ {l with w:=j}) _;clear O r;generalize τ {l with w:=j}=l2 at h C B D|-;replace hF:=C;clear C c z N;apply jx h hF (n:=10);iterate 3 w_go fF
 refine Ë λa g=> ?_;replace hF:=fF hF g;clear g;refine uO (l:={l2 with w:=a}) h hF (Ã U) U (λ_=>stepG_mark0 .disable fh U U (by k_ne) U H.f_disable (x_disable_n L) (x_disable_b L) (x_disable_x L)<|x_disable_f L) λE hF=> ?_;walk_nrm;have W:į l2.d #[jI .disable]=1:=by rw[B];rfl
 rw[W];apply jx (l:={l2 with d:=1,w:=E}) h hF (n:=50);iterate 2 w_go fF
 u_defer fF hF
 iterate 8 w_go fF
 u_bub fF hF
 iterate 11 w_go fF
 u_call H.f_uAdd (nm_uAdd L) uAddFn fF hF
 iterate 10 w_go fF
 refine Ë λa g=> ?_;replace hF:=fF hF g;clear g;refine nj (l:={l2 with d:=1,w:=a}) h hF λj hF=>⟨U,U,λv=>⟨_,λa p F=>(stepG_add_atomic U U (by k_ne) U H.f_addU64 (x_addU64_n L) (x_addU64_b L) (x_addU64_x L) ê (x_addU64_f L) U U p F).trans fP,?_⟩⟩;walk_nrm;have S:ê.wrap (v+18446744069414584320)=ê.wrap (v+pU):=rfl;rw[S];clear S;obtain⟨s,I⟩:∃s,ê.wrap (v+pU)=s:=⟨_,U⟩;simp only[I];have J:0<=s:=by rw[<-I];have:ê.wrap (v+pU)=(v+pU)%18446744073709551616:=rfl;rw[this];omega
 clear I v;by_cases o:s=0\/(fT<=s/\s<1000000*fT/\s%fT<1000000)
 .rw[if_pos o];by_cases m:s=0;focus
   subst m;clear o J
  rotate_left;focus
   have X:=o.resolve_left m;clear o m J;let⟨Y,c5,c6⟩:=X;have q4:(4294967296:Int)<=s:=Y;have K:s<1000000*4294967296:=c5;have T:s%4294967296<1000000:=c6;have f1:=CH s Z K T;have t:=CI s Z K T;obtain⟨u,g1⟩:∃u,(s/4294967296+2147483648)%4294967296-2147483648=u:=⟨_,U⟩;have g2:¬u<0:=Z
   have g3:0<u:=Z
   by_cases M:s%4294967296=0;focus rw[M]at t
   rotate_left;focus
    obtain⟨x,g4⟩:∃x,s%4294967296=x:=⟨_,U⟩;rw[g4]at t M;have V:x%4294967296=x:=Z
    have g6:(x !=0)=Ò:=by simpa using M
  all_goals
   apply jx (l:={l2 with d:=1,w:=j}) h hF (n:=150);iterate 3 w_go fF
   u_leave1 H.f_uAdd fF hF
   iterate 83 w_go fF
   refine Ë λa g=> ?_;replace hF:=fF hF g;clear g;refine uO (l:={l2 with d:=1,w:=a}) h hF (Ç U) U (λw=>Jl .enable fh U H.f_enable (x_enable_n L) (x_enable_b L) (x_enable_x L) (x_enable_f L) w) λE hF=> ?_;have u:į 1 #[jI .enable]=0:=rfl;rw[u];apply jx (l:={l2 with d:=0,w:=E}) h hF (n:=10);u_leave0 H.f_add fF hF;iterate 2 w_go fF
   u_leave0 H.f_done fF hF
   refine Ë λa g=> ?_;replace hF:=fF hF g;clear g;exact D _ hF
 .rw[if_neg o];by_cases m:0<s/\s<1000000
  .rw[if_pos m];let⟨q4,K⟩:=m;clear o J;have f1:=CH s Z Z Z;have t:=CI s Z Z Z;have g1:(s/4294967296+2147483648)%4294967296-2147483648=0:=Z
   have V:s%4294967296=s:=Z
   rw[V]at t;have g6:(s !=0)=Ò:=by simp;omega
   have X:(s==0)=Ì:=by simp;omega
   have M:(s.toNat:Int)=s:=Z
   apply jx (l:={l2 with d:=1,w:=j}) h hF (n:=150);iterate 3 w_go fF
   u_leave1 H.f_uAdd fF hF
   iterate 89 w_go fF
   u_call H.f_uLoad (nm_uLoad L) uLoadFn fF hF
   iterate 9 w_go fF
   refine Ë λa g=> ?_;replace hF:=fF hF g;clear g;refine nj (l:={l2 with d:=1,w:=a}) h hF λj hF=>⟨U,U,λv=>⟨_,λa p=>stepG_load_atomic U U (by k_ne) U H.f_loadU64 (x_loadU64_n L) (x_loadU64_b L) (x_loadU64_x L) ê (x_loadU64_f L) U p,?_⟩⟩;show ff P Ì (if v=(s.toNat:Int)then IN P Ì b (ff P Ì e) s.toNat else λ_ _=>True) _ _;by_cases u:v=(s.toNat:Int)
   .rw[if_pos u];rw[M]at u;subst u;walk_nrm;have Y:(v !=v)=Ì:=fh
    apply jx (l:={l2 with d:=1,w:=j}) h hF (n:=150);iterate 3 w_go fF
    u_leave1 H.f_uLoad fF hF
    iterate 10 w_go fF
    u_call H.f_uStore (nm_uStore L) uStoreFn fF hF
    iterate 5 w_go fF
    refine Ë λa g=> ?_;replace hF:=fF hF g;clear g;refine nj (l:={l2 with d:=1,w:=a}) h hF λj hF=>⟨U,U,_,λa x p F=>stepG_store_atomic U U (by k_ne) U H.f_storeU64 (x_storeU64_n L) (x_storeU64_b L) (x_storeU64_x L) (x_storeU64_f L) U U p F,?_⟩;walk_nrm;obtain⟨r,T⟩:∃r,v.toNat=r+1:=⟨v.toNat-1,Z⟩;rw[T];apply jx (l:={l2 with d:=1,w:=j}) h hF (n:=150);iterate 2 w_go fF
    u_leave0 H.f_uStore fF hF
    iterate 24 w_go fF
    refine Ë λa g=> ?_;replace hF:=fF hF g;clear g;apply agN H h D r v<;>first|exact hF|omega
   .rw[if_neg u];exact .fv λ_ _=>trivial
  .rw[if_neg m];trivial
end
end Go.Proofs.Y.fw
namespace Go.Proofs.Y.fw
open Go Go.Conc Go.Proofs.Y.Lift Go.RowKit Go.Conc.Lib Go.ConcR.Gen
open Go.Proofs Go.Proofs.YtgpphkdoanciiaaGreatDoor
noncomputable def Jz:Ę:=lu Ι [1,0,0]
noncomputable def yl (t:Array Ï) (a:List é):Ý:=G ((base 49).at ⟨t,[]⟩ [ö Jz,ą Jz,ô 0]) a
structure AG(an N:Nat)(ib:Option â)(m c kk:Nat)(t:Array Ï):Prop where
 r:t.size=37
 t1:t[1]?=Â (Æ (Â ⟨an,0,Á⟩) N N)
 t6:t[6]?=Â (Æ ib m c)
 C:t[7]?=Â (Ê Î m)
 I:t[8]?=Â (Ê Î kk)
theorem AH{x:Int}(a:0<=x)(b:x<1000000):Î.wrap x=x:=by rw[Γ];omega
section
variable{f:Jd}{l:e7}{t:Array Ï}{an N ib c kk:Nat}{Q:Ï->ByteArray->e7->Prop}{τ:e7->e7}{Φ:e7->Prop}
def ahh(D:gp l)(V:¬l.q)(hd:l.d=0)(W:AG an N (Â ⟨ib,0,Á⟩) m c kk t)(hkk:kk<m)(hm:m<1000)(hN:N<1000000)(sP:j<N)(ym:l.M ib) (i0:l.w.cell? ⟨ib,kk*4,Á⟩=Â (À O)) (i1:l.w.cell? ⟨ib,kk*4+1,Á⟩=Â (Ê Î j)) (i2:l.w.cell? ⟨ib,kk*4+2,Á⟩=Â (À<|Â ⟨i,0,Á⟩)) (i3:l.w.cell? ⟨ib,kk*4+3,Á⟩=Â (À<|Â ⟨n,0,Á⟩)) (tA:l.N ⟨i,2,Á⟩) (o5:l.w.cell? ⟨i,2,Á⟩=Â v) (o1:l.r ⟨n,2,Á⟩) (o2:l.r ⟨an,j,Á⟩) (e1:(l.w.cell? ⟨n,2,Á⟩).isSome=Ò) (e2:(l.w.cell? ⟨an,j,Á⟩).isSome=Ò) (z1:l.w.frozen? ⟨n,2,Á⟩=Ì) (z2:l.w.frozen? ⟨an,j,Á⟩=Ì) (kQ:(⟨n,2,Á⟩:â)≠⟨an,j,Á⟩) (sX:∀u,iw (λa=>a=⟨n,2,Á⟩\/a=⟨an,j,Á⟩) l u->∀cl ll,ff Ä Ì (λl'' g'=>l''.d=u.d/\∃p k c str,g'=G (cl.finish<|ñ #[Æ p k c,à str]) ll/\Q (Æ p k c) str l'') (lJ u)<|G (Ă Ä 66 #[v,À O] Ğ)<|cl::ll) (zI:∀u (x:(Option Addr×Nat×Nat)×ByteArray),iw (λa=>a=⟨n,2,Á⟩\/a=⟨an,j,Á⟩) l u->(∃y,Q (Æ x.1.1 x.1.2.1 x.1.2.2) x.2 y/\(∀b,y.M b->u.M b/\u.w.heap[b]?=y.w.heap[b]?))->u.w.cell? ⟨n,2,Á⟩=Â (Æ x.1.1 x.1.2.1 x.1.2.2)->u.w.cell? ⟨an,j,Á⟩=Â (à x.2)-> lI (λ_=>True) u n/\SW (λ_=>True) u n u.w/\Φ u/\(τ u).d=0/\∃E:ß->Prop,lI E (τ u) n/\SW E (τ u) n (τ u).w/\∀s X,SW E (τ u) n s->AG an N (Â ⟨ib,0,Á⟩) m c (kk+1) X->ff Ä Ì f {τ u with d:=0,w:=s} (yl X qX)): ff Ä Ì (λl g=>Φ l/\xK Ä Ì n (ff Ä Ì f) (τ l) g) l (yl t qX):=by
 obtain⟨y0,y1,Y,y3,y4,y5,y6,y7,y8,y9,wj,yn,wm,qL,rQ,p6,uT,uU,tB,tC,tD,rR,rS,rT,qF,rM,qG,oJ,nI,pe,pf,pg,s7,rN,rO,qH,qI,rfl⟩:=P8 t W.r;obtain rfl:y1=Æ (Â ⟨an,0,Á⟩) N N:=by simpa using W.t1
 obtain rfl:y6=Æ (Â ⟨ib,0,Á⟩) m c:=by simpa using W.t6
 obtain rfl:y7=Ê Î m:=by simpa using W.C
 obtain rfl:y8=Ê Î kk:=by simpa using W.I
 have qM:∀y:â,(y=⟨n,2,Á⟩\/y=⟨an,j,Á⟩)->l.r y:=λy ha=>by rcases ha with rfl|rfl;exact o1;exact o2
 have arW:(kk:Int)<(m:Int):=Z
 simp only[yl];conv in Jz=>whnf
 refine fZ (n:=30) D.r ?_;have hF:True:=trivial;repeat w_go fA
 refine Ë λ_ _=> ?_;have B:∀g,gS l ⟨ib,g,Á⟩:=λg=>Ã ym;refine uQ (v:=Đ #[À O,Ê Î j,À<|Â ⟨i,0,Á⟩,À<|Â ⟨n,0,Á⟩]) U U (by k_ne) D.r V (λo r=> ?_) (λo r e F=> ?_) ?_
 .have J:=((B<|kk*4).r r).trans i0;have K:=((B<|kk*4+1).r r).trans i1;have L:=((B<|kk*4+2).r r).trans i2;have P:=((B<|kk*4+3).r r).trans i3;go_simp
 .have J:=((B<|kk*4).r r).trans i0;have K:=((B<|kk*4+1).r r).trans i1;have L:=((B<|kk*4+2).r r).trans i2;have P:=((B<|kk*4+3).r r).trans i3;simp[go_sem,J,K,L,P]at F;rcases F with rfl|rfl|rfl|rfl
  .exact(B _).C
  .exact(B _).C
  .exact(B _).C
  .exact(B _).C
 walk_nrm;refine FU (ob:=É #[À Á,Ê Î 0,À Á,À Á] 155) U U (by k_ne) D.r V (λw=>by go_simp) (λw=>by simp[go_sem]) λo mM=> ?_;walk_nrm;have p7:iw (λa=>a=⟨n,2,Á⟩\/a=⟨an,j,Á⟩) l (gJ l o<|É #[À Á,Ê Î 0,À Á,À Á] 155):=Jx D qM mM;have mQ:(gJ l o<|É #[À Á,Ê Î 0,À Á,À Á] 155).w.heap[o.heap.size]?=Â (É #[À Á,Ê Î 0,À Á,À Á] 155):=nn;have rU:l.w.heap.size<=o.heap.size:=mM.r;have I:(gJ l o<|É #[À Á,Ê Î 0,À Á,À Á] 155).O o.heap.size:=Ç U;generalize gJ l o (É #[À Á,Ê Î 0,À Á,À Á] 155)=l₁ at p7 mQ I|-;generalize o.heap.size=tb at mQ I rU|-;refine uP U U (by k_ne) λs qN=> ?_;have S:s.heap[tb]?=_:=(qN.I tb<|Ã I).trans mQ;have J:s.cell? ⟨tb,0,Á⟩=Â (À Á):=by simp[Ö,S]
 have K:s.cell? ⟨tb,1,Á⟩=Â (Ê Î 0):=by simp[Ö,S]
 have L:s.cell? ⟨tb,2,Á⟩=Â (À Á):=by simp[Ö,S]
 have P:s.cell? ⟨tb,3,Á⟩=Â (À Á):=by simp[Ö,S]
 have hz:∀g,s.frozen? ⟨tb,g,Á⟩=Ì:=λg=>by simp[î,S]
 go_simp;refine⟨{l₁ with w:=iN s tb (À O) (Ê Î j) (À<|Â ⟨i,0,Á⟩) (À<|Â ⟨n,0,Á⟩)},Jy (p:=tb) (lZ p7.fq qN) (by rwa[p7.q]) I wi (λg H=>yj H) ⟨U,U,U⟩ λe F=> ?_,?_⟩
 .have h:=đ F;have e:∀g,po l₁ ⟨tb,g,Á⟩:=λg=>Ã I;simp[go_sem,á _ _ _ _ _ _ (show Ø (À O)=Ò from rfl),á _ _ _ _ _ _ (show Ø (À<|Â ⟨i,0,Á⟩)=Ò from rfl),á _ _ _ _ _ _ (show Ø (À<|Â ⟨n,0,Á⟩)=Ò from rfl),J,K,L,P,hz]at h;rcases h with rfl|rfl|rfl|rfl
  .exact(e _).r
  .exact(e _).r
  .exact(e _).r
  .exact(e _).r
 let⟨c0,c1,c2,c3⟩:=P5 (v0:=À O) (v1:=Ê Î j) (v2:=À<|Â ⟨i,0,Á⟩) (v3:=À<|Â ⟨n,0,Á⟩) J K L P;have C:=P7 (w':=iN s tb (À O) (Ê Î j) (À<|Â ⟨i,0,Á⟩)<|À<|Â ⟨n,0,Á⟩) D qM p7 qN rU wi λg H=>yj H;have AJ:({l₁ with w:=iN s tb (À O) (Ê Î j) (À<|Â ⟨i,0,Á⟩) (À<|Â ⟨n,0,Á⟩)}:e7).O tb:=I;replace c0:({l₁ with w:=iN s tb (À O) (Ê Î j) (À<|Â ⟨i,0,Á⟩) (À<|Â ⟨n,0,Á⟩)}:e7).w.cell? ⟨tb,0,Á⟩=_:=c0;replace c1:({l₁ with w:=iN s tb (À O) (Ê Î j) (À<|Â ⟨i,0,Á⟩) (À<|Â ⟨n,0,Á⟩)}:e7).w.cell? ⟨tb,1,Á⟩=_:=c1;replace c2:({l₁ with w:=iN s tb (À O) (Ê Î j) (À<|Â ⟨i,0,Á⟩) (À<|Â ⟨n,0,Á⟩)}:e7).w.cell? ⟨tb,2,Á⟩=_:=c2;replace c3:({l₁ with w:=iN s tb (À O) (Ê Î j) (À<|Â ⟨i,0,Á⟩) (À<|Â ⟨n,0,Á⟩)}:e7).w.cell? ⟨tb,3,Á⟩=_:=c3;generalize({l₁ with w:=iN s tb (À O) (Ê Î j) (À<|Â ⟨i,0,Á⟩) (À<|Â ⟨n,0,Á⟩)}:e7)=l₂ at c0 c1 c2 c3 C AJ|-;clear mQ I p7 S J K L P hz qN s l₁ mM o;have qO:=C.G D;have pw:¬l₂.q:=by rwa[C.q]
 have ahi:l₂.N ⟨i,2,Á⟩:=by rwa[C.c]
 have nE:¬((⟨i,2,Á⟩:â)=⟨n,2,Á⟩\/(⟨i,2,Á⟩:â)=⟨an,j,Á⟩):=λq=>by
  rcases q with q|q
  .exact D.Y _ o1<|q▸tA
  .exact D.Y _ o2<|q▸tA
 have ahj:l₂.w.cell? ⟨i,2,Á⟩=Â v:=(C.e _ (Ç tA) nE).trans o5;have Qa:∀y:â,(y=⟨n,2,Á⟩\/y=⟨an,j,Á⟩)->l₂.r y:=λy hy=>by rw[C.I];exact qM y hy
 refine fZ (n:=5) qO.r ?_;iterate 2 w_go fA
 refine Ë λ_ _=> ?_;refine PQ (II yh #[y0,Æ (Â ⟨an,0,Á⟩) N N,Y,y3,y4,À<|Â ⟨tb,0,Á⟩,Æ (Â ⟨ib,0,Á⟩) m c,Ê Î m,Ê Î kk,ŝ Ò,À<|Â ⟨ib,kk*4,Á⟩,Đ #[À O,Ê Î j,À<|Â ⟨i,0,Á⟩,À<|Â ⟨n,0,Á⟩],wm,qL,rQ,p6,uT,uU,tB,tC,tD,rR,rS,rT,qF,rM,qG,oJ,nI,pe,pf,pg,s7,rN,rO,qH,qI] (my tb i n an N j (À O) v)<|CX l₂ i n an j v Q) qO.r pw (λh H=> ?_) (λmd listed a l e z hI F=>ahc qO pw U U U AJ c0 c1 c2 c3 ahi ahj (Qa _<|Ã U) (Qa _<|Ç U) (C.g _ (Ã U) e1) (C.g _ (Ç U) e2) ((C.S _<|Ã o1).trans z1) ((C.S _<|Ã o2).trans z2) sP hN kQ (λu h=>sX u<|C.fc h) md listed a l e z hI F) λmd listed a z hI jC yo=> ?_
 .refine⟨((Á,0,0),ByteArray.empty),mr.G _ _ _,(iw.fQ qO.r).N Qa ⟨H.r,H.I,H.N,H.Y,H.S⟩,λq=> ?_,λq=> ?_,λq=> ?_⟩<;>exact absurd q A
 let⟨x,H,T⟩:=hI;have py:∀e∈ã 21,listed.getD e Ì=Ò:=by
  cases md
  .exact pv yo jC (ã 21) [] fP λe F=>by cases F
  .exact λe F=>pv yo jC [0,1,5,6,7,8,9,10,11,12,13,14,16,17,18,2,3,4,15,19,20] [] fP (λe F=>by cases F) e (by have:=Ē.1 F;revert e;decide)
  .exact pv yo jC (ã 21) [] fP λe F=>by cases F
 have FV:=C.fc T.r;have FW:=FV.G D;have wo:¬z.q:=by rwa[FV.q]
 let⟨F,ds⟩:=a;obtain rfl:ds=[]:=H.M;have b1:F[1]?=Â (Æ (Â ⟨an,0,Á⟩) N N):=H.C (d:=1) A;have b5:F[5]?=Â (À<|Â ⟨tb,0,Á⟩):=H.C (d:=5) A;have b6:F[6]?=Â (Æ (Â ⟨ib,0,Á⟩) m c):=H.C (d:=6) A;have b7:F[7]?=Â (Ê Î m):=H.C (d:=7) A;have b8:F[8]?=Â (Ê Î kk):=H.C (d:=8) A;obtain⟨x0,x1,x2,x3,x4,x5,x6,x7,x8,x9,XF,x11,x12,x13,x14,x15,x16,x17,x18,x19,x20,x21,x22,x23,x24,x25,x26,x27,x28,x29,x30,x31,x32,x33,x34,x35,x36,rfl⟩:=P8 F H.S;obtain rfl:x1=Æ (Â ⟨an,0,Á⟩) N N:=by simpa using b1
 obtain rfl:x5=À (Â ⟨tb,0,Á⟩):=by simpa using b5
 obtain rfl:x6=Æ (Â ⟨ib,0,Á⟩) m c:=by simpa using b6
 obtain rfl:x7=Ê Î m:=by simpa using b7
 obtain rfl:x8=Ê Î kk:=by simpa using b8
 have ahk:=T.uS<|py 12 A;have ahl:=T.I<|py 18 A;have ahm:=T.N<|py 20 A;have d3:z.w.cell? ⟨tb,3,Á⟩=Â (À<|Â ⟨n,0,Á⟩):=(gF<|T.r.r tb<|Ã AJ).trans c3;have s3:gS z ⟨tb,3,Á⟩:=Ã<|Ã<|T.r.O tb AJ;clear H py b1 b5 b6 b7 b8;refine fZ (n:=9) FW.r ?_;iterate 3 w_go fA
 refine Ë λ_ _=> ?_;refine nJ (x:=⟨tb,3,Á⟩) U U (by k_ne) FW.r wo s3 d3 (λw h=>by go_simp) (λw h=>by simp[go_sem,h]) ?_;walk_nrm;refine fZ (n:=9) FW.r ?_;iterate 2 w_go fA
 u_call pY.f_done (nm_done Lk) doneFn fA hF
 refine Ë λ_ _=> ?_;have wq:∀o,fE z z.w o->lI (λ_=>True) {z with w:=o} n/\SW (λ_=>True) {z with w:=o} n o/\Φ {z with w:=o}/\(τ {z with w:=o}).d=0/\∃E:ß->Prop,lI E (τ {z with w:=o}) n/\SW E (τ {z with w:=o}) n (τ {z with w:=o}).w/\∀s X,SW E (τ {z with w:=o}) n s->AG an N (Â ⟨ib,0,Á⟩) m c (kk+1) X->ff Ä Ì f {τ {z with w:=o}with d:=0,w:=s} (yl X qX):=λo r=>by
  refine zI {z with w:=o} x (FV.N qM r) ?_ ?_ ?_
  .let⟨y,y1,Y⟩:=ahk;exact⟨y,y1,λb h=>⟨(Y b h).1,(r.I b (Y b h).1).trans (Y b h).2⟩⟩
  .exact(r.N _<|Ã<|by rwa[FV.I]).trans ahl
  .exact(r.N _<|Ã<|by rwa[FV.I]).trans ahm
 let⟨k1,k2,_⟩:=wq z.w<|fE.fQ _ _;refine ahg pY τ Φ k1 k2 λo r=> ?_;let⟨_,_,f1,f4,E,f2,f3,f5⟩:=wq o r;refine⟨f1,f4,E,f2,f3,λs h=> ?_⟩;walk_nrm;refine fZ (n:=30) h.1 ?_;iterate 7 w_go fA
 refine Ë λ_ _=> ?_;refine f5 s _ h ⟨U,U,U,U,?_⟩;simp;exact AH Z Z
end
def ahn:Array å:=#[⟨Â 2,ć 85<|Ù 0,85, "work.go:24",#[],Á⟩,
 ⟨Â 3,ć 25<|Ù 1,25, "work.go:24",#[],Á⟩,
 ⟨Â 4,Ě {callee:=ĕ (ĸ 49),args:=#[Ù 2,Ù 3],argTypes:=#[85,25]},0, "work.go:24",#[⟨0,Ü⟩,⟨1,Ü⟩],Á⟩]
def yp(a:Nat)(b c d e:Ï):é:=(baseD 63).at ⟨#[À<|Â ⟨a,0,Á⟩,b,c,d,e],[oK 64 #[À<|Â ⟨a,0,Á⟩] #[]]⟩ [Ñ XA [1]]
def uV(a b c d e:Ï):é:=(base 48).at ⟨#[a,b,c,d,e],[]⟩ [Ñ ahn [2]]
section
variable{Ψ:ß->Prop}{J:Jd}{l:e7}{a e f o p:Ï}
def aho(c:jY l)(g:¬l.q)(k:gS l ⟨j9,0,Á⟩)(r:gS l ⟨j7,0,Á⟩)(s:gS l ⟨b,0,Á⟩)(t:l.w.cell? ⟨j9,0,Á⟩=Â (Ĉ (ù 48) #[] #[À<|Â ⟨j7,0,Á⟩,À<|Â ⟨b,0,Á⟩]))(u:l.w.cell? ⟨j7,0,Á⟩=Â (Æ O m n))(y:l.w.cell? ⟨b,0,Á⟩=Â (Æ (Â ⟨j,0,Á⟩) i i)) (B:∀d a e f o v x z jQ p,AG j i O m n 0 d->ff Ä Ì J l (yl d [uV v x z jQ p,yp j6 a e f o,nk Ä])): ff Ä Ì J l (born Ä<|oK 63 #[À<|Â ⟨j6,0,Á⟩,À<|Â ⟨j9,0,Á⟩] #[]):=by
 apply fZ (n:=30) c;have hF:=trivial;u_c (Xr Ů fP U) fA hF;walk_nrmf Κ;iterate 3 w_go fA
 u_c (Xp U U (by k_ne) U U) fA hF
 walk_nrm;repeat w_go fA
 refine Ë λ_ _=> ?_;apply nJ U U (by k_ne) c g k t (λw h=>by go_simp) (λw h=>by simp[go_sem,h]);walk_nrm;apply fZ (n:=30) c;u_c (Xq U U (by k_ne) U U ů fP U) fA hF;walk_nrmf Tryz.f48;w_go fA;refine Ë λ_ _=> ?_;apply nJ U U (by k_ne) c g r u (λw h=>by go_simp) (λw h=>by simp[go_sem,h]);walk_nrm;apply nJ U U (by k_ne) c g s y (λw h=>by go_simp) (λw h=>by simp[go_sem,h]);walk_nrm;apply fZ (n:=30) c;u_call Ű fP Ι fA hF;iterate 8 w_go fA
 refine Ë λ_ _=> ?_;exact B _ _ _ _ _ _ _ _ _ _ ⟨U,U,U,U,U⟩
def ahp(b:AG j i O m n m d)(h:l.K ⟨k,0,Á⟩/\l.K ⟨k,1,Á⟩)(r:lI Ψ l k)(c:SW Ψ l k l.w)(s:l.d=0)(t:¬l.q)(u:gS l ⟨j6,0,Á⟩)(y:l.w.cell? ⟨j6,0,Á⟩=Â (À<|Â ⟨k,0,Á⟩)): ff Ä Ì (λl g=>xK Ä Ì k (CK Ä) (kj l) g) l (yl d [uV v x z jQ p,yp j6 a e f o,nk Ä]):=by
 obtain⟨C,D,E,F,G,H,I,g,B,J,L,M,N,P,Q,S,T,V,W,X,Y,rR,rS,rT,qF,rM,qG,oJ,nI,pe,pf,pg,s7,rN,rO,qH,qI,rfl⟩:=P8 d b.r;obtain rfl:g=Ê Î m:=by simpa using b.C
 obtain rfl:B=Ê Î m:=by simpa using b.I
 have hmm:¬(m:Int)<(m:Int):=Z
 simp only[yl];conv in Jz=>whnf
 apply fZ (n:=40) c.1;have hF:=trivial;iterate 8 w_go fA
 u_leave0 Ű fA hF
 iterate 2 w_go fA
 u_leave0 ů fA hF
 refine Ë λ_ _=> ?_;exact XB h r c s t u y
end
def FX:å:=⟨Â 14,ę<|Ù 1,25, "work.go:65",#[],Á⟩
def FY:å:=⟨Â 15,ð 155 (Ù 4) 1,0, "work.go:65",#[],Á⟩
def CY:å:=⟨Â 16,ć 3<|Ù 15,3, "work.go:65",#[⟨1,Ü⟩],Á⟩
def FZ:å:=⟨Â 17,ð 155 (Ù 4) 2,0, "work.go:65",#[],Á⟩
def CZ:å:=⟨Â 18,ć 86<|Ù 17,86, "work.go:65",#[⟨3,Ü⟩],Á⟩
def C0:å:=⟨Â 19,ĩ<|Ù 18,0, "work.go:65",#[⟨4,Ü⟩],Á⟩
def C3:å:=⟨Â 20,ð 105 (Ù 19) 1,0, "work.go:65",#[⟨5,Ü⟩],Á⟩
def C4:å:=⟨Â 21,ć 65<|Ù 20,65, "work.go:65",#[⟨6,Ü⟩],Á⟩
def F0:å:=⟨Â 22,ð 155 (Ù 4) 0,0, "work.go:65",#[],Á⟩
def C5:å:=⟨Â 23,ć 148<|Ù 22,148, "work.go:65",#[⟨8,Ü⟩],Á⟩
def AK:å:=⟨Â 24,Ě {callee:=ĕ<|ĸ 67,args:=#[Ù 21,Ù 23],argTypes:=#[65,148]},9, "work.go:65",#[⟨7,Ü⟩,⟨9,Ü⟩],Á⟩
def AL:å:=⟨Â 25,ő 25 (Ù 14)<|Ù 16,0, "work.go:65",#[⟨0,Ü⟩,⟨2,Ü⟩,⟨0,Í⟩,⟨1,Í⟩,⟨2,Í⟩,⟨3,Í⟩,⟨4,Í⟩,⟨5,Í⟩,⟨6,Í⟩,⟨7,Í⟩,⟨8,Í⟩,⟨9,Í⟩,⟨10,Í⟩],Á⟩
def AN:å:=⟨Á,š 9 (Ù 25)<|Ù 24,0, "work.go:65",#[⟨11,Ü⟩,⟨10,Ü⟩,⟨10,Ţ⟩,⟨0,Í⟩,⟨1,Í⟩,⟨2,Í⟩,⟨3,Í⟩,⟨4,Í⟩,⟨5,Í⟩,⟨6,Í⟩,⟨7,Í⟩,⟨8,Í⟩,⟨9,Í⟩,⟨10,Í⟩],Á⟩
def uW:Array å:=#[FX,FY,CY,FZ,CZ,C0,C3,C4,F0,C5,AK,AL,AN]
def p8(tb a b N c:Nat)(d e:Ï)(x:ByteArray):Nat->Ï
 |0=>Æ (Â ⟨b,0,Á⟩) N N
 |1=>À<|Â ⟨tb,1,Á⟩
 |2=>Ê Î c
 |3=>À<|Â ⟨tb,2,Á⟩
 |4=>À<|Â ⟨a,0,Á⟩
 |5=>À<|Â ⟨a,0,Á⟩
 |6=>À<|Â ⟨a,2,Á⟩
 |7=>e
 |8=>À<|Â ⟨tb,0,Á⟩
 |9=>d
 |10=>à x
 |11=>À<|Â ⟨b,c,Á⟩
 |_=>Å
structure C6(ig:e7)(an pl:Nat)(Q:ByteArray->Prop)(listed:Array Bool)(x:ByteArray)(l:e7):Prop where
 r:iw (λa=>a=⟨an,pl,Á⟩) ig l
 uS:listed.getD 10 Ì=Ò->Q x
 I:listed.getD 12 Ì=Ò->l.w.cell? ⟨an,pl,Á⟩=Â (à x)
def C6.C{b l:e7}{Q:ByteArray->Prop}{listed:Array Bool}{x:ByteArray}(h:C6 b n j Q listed x l)(e:i≠10)(f:i≠12)(c:b.r ⟨n,j,Á⟩)(d:ß)(r:fE l l.w d):C6 b n j Q (listed.setIfInBounds i Ò) x {l with w:=d}:=by
 refine⟨h.r.N (λa q=>by rwa[q]) r,λq=> ?_,λq=> ?_⟩
 .rw[ç Ì e]at q;exact h.uS q
 .rw[ç Ì f]at q;exact(r.N _<|by rw[h.r.C];exact Ã c).trans<|h.I q
section
variable{J:Jd}{ig:e7}{an pl:Nat}{Q:ByteArray->Prop}
def ahq(W:gp ig)(hq:¬ig.q)(ht:d.size=26)(AB:d[1]?=Â (Æ (Â ⟨an,0,Á⟩) i i))(F1:d[4]?=Â (À<|Â ⟨j,0,Á⟩))(hO:ig.O j) (J:ig.w.cell? ⟨j,0,Á⟩=Â v) (K:ig.w.cell? ⟨j,1,Á⟩=Â (Ê Î pl)) (M:ig.w.cell? ⟨j,2,Á⟩=Â (À<|Â ⟨n,0,Á⟩)) (X:ig.N ⟨n,2,Á⟩) (o5:ig.w.cell? ⟨n,2,Á⟩=Â z) (B:ig.r ⟨an,pl,Á⟩) (e2:(ig.w.cell? ⟨an,pl,Á⟩).isSome=Ò) (z2:ig.w.frozen? ⟨an,pl,Á⟩=Ì) (sP:pl<i) (Qb:∀l,iw (λa=>a=⟨an,pl,Á⟩) ig l->∀t ll,ff Ä Ì (λP S=>P.d=l.d/\∃T,S=G (t.finish<|à T) ll/\Q T) (lJ l)<|G (Ă Ä 67 #[z,v] Ğ)<|t::ll) (md:ý) (listed:Array Bool) (a:ŏ) (l:e7) (b:Nat) (rest:List Nat) (hI:II uW d (p8 j n an i pl v z) (C6 ig an pl Q) listed a l) (p:b∈Û md uW listed): ff Ä Ì (λP S=>∃I,S=G ((base 51).at I<|Ñ uW rest::L) qX/\II uW d (p8 j n an i pl v z) (C6 ig an pl Q) (listed.setIfInBounds b Ò) I P) l (G ((base 51).at a<|Ñ uW (b::rest)::L) qX):=by
 let⟨x,m,s⟩:=hI;have E:tx uW d.size=Ò:=by rw[ht];decide
 have XG:=PV p;have gI:=CM p;have F:=s.r.fq;have H:¬l.q:=by rwa[s.r.q]
 have V:∀y:â,y=⟨an,pl,Á⟩->ig.r y:=λy ha=>by rwa[ha]
 have mQ:a.tmps[1]?=Â (Æ (Â ⟨an,0,Á⟩) i i):=(m.C A).trans AB;have Y:a.tmps[4]?=Â (À<|Â ⟨j,0,Á⟩):=(m.C A).trans F1;have t:∀c g,ig.w.cell? ⟨j,c,Á⟩=Â g->gS l ⟨j,c,Á⟩/\l.w.cell? ⟨j,c,Á⟩=Â g:=λc g h=>⟨Ã<|Ã<|s.r.O j hO,by rwa[gF<|s.r.r j<|Ã hO]⟩;have PZ:¬((⟨n,2,Á⟩:â)=⟨an,pl,Á⟩):=λq=>W.Y _ B<|q▸X;have N:gS l ⟨n,2,Á⟩/\l.w.cell? ⟨n,2,Á⟩=Â z:=⟨Ç (Ç<|by rwa[s.r.c]),by rwa[s.r.e _ (Ç X) PZ]⟩;have P0:(pl:Int)<(i:Int):=Z
 have jC:uW.size=13:=A
 rw[jC]at gI;match b,gI with
 |0,_=>
  refine hD (o:=FX) E m U U p (by k_ne) F H (λk r=> ?_) (λk r e u=> ?_)<|s.C A A B
  .simp only[p8,FX];go_simp
  .simp[go_sem,FX,mQ]at u
 |1,_=>
  refine hD (o:=FY) E m U U p (by k_ne) F H (λk r=> ?_) (λk r e u=> ?_)<|s.C A A B
  .simp only[p8,FY];go_simp
  .simp[go_sem,FY,Y]at u
 |2,_=>
  have P3:a.tmps[15]?=Â (À<|Â ⟨j,1,Á⟩):=m.r 1 FY 15 U (gY (o:=CY) p U U) U;refine hD (o:=CY) E m U U p (by k_ne) F H (λk r=> ?_) (λk r e u=> ?_)<|s.C A A B
  .have D:k.cell? ⟨j,1,Á⟩=Â (Ê Î pl):=((t 1 _ K).1.r r).trans (t 1 _ K).2;simp only[p8,CY];go_simp
  .have D:k.cell? ⟨j,1,Á⟩=Â (Ê Î pl):=((t 1 _ K).1.r r).trans (t 1 _ K).2;have I:e=⟨û ⟨j,1,Á⟩,Ì,Ì⟩:=by simp[go_sem,CY,D,P3]at u;exact u
   subst I;exact(t 1 _ K).1.C
 |3,_=>
  refine hD (o:=FZ) E m U U p (by k_ne) F H (λk r=> ?_) (λk r e u=> ?_)<|s.C A A B
  .simp only[p8,FZ];go_simp
  .simp[go_sem,FZ,Y]at u
 |4,_=>
  have P4:a.tmps[17]?=Â (À<|Â ⟨j,2,Á⟩):=m.r 3 FZ 17 U (gY (o:=CZ) p U U) U;refine hD (o:=CZ) E m U U p (by k_ne) F H (λk r=> ?_) (λk r e u=> ?_)<|s.C A A B
  .have D:k.cell? ⟨j,2,Á⟩=Â (À<|Â ⟨n,0,Á⟩):=((t 2 _ M).1.r r).trans (t 2 _ M).2;simp only[p8,CZ];go_simp
  .have D:k.cell? ⟨j,2,Á⟩=Â (À<|Â ⟨n,0,Á⟩):=((t 2 _ M).1.r r).trans (t 2 _ M).2;have I:e=⟨û ⟨j,2,Á⟩,Ì,Ì⟩:=by simp[go_sem,CZ,D,P4]at u;exact u
   subst I;exact(t 2 _ M).1.C
 |5,_=>
  have Qc:a.tmps[18]?=Â (À<|Â ⟨n,0,Á⟩):=m.r 4 CZ 18 U (gY (o:=C0) p U U) U;refine hD (o:=C0) E m U U p (by k_ne) F H (λk r=> ?_) (λk r e u=> ?_)<|s.C A A B
  .simp only[p8,C0];go_simp
  .simp[go_sem,C0,Qc]at u
 |6,_=>
  have h19:a.tmps[19]?=Â (À<|Â ⟨n,0,Á⟩):=m.r 5 C0 19 U (gY (o:=C3) p U U) U;refine hD (o:=C3) E m U U p (by k_ne) F H (λk r=> ?_) (λk r e u=> ?_)<|s.C A A B
  .simp only[p8,C3];go_simp
  .simp[go_sem,C3,h19]at u
 |7,_=>
  have JA:a.tmps[20]?=Â (À<|Â ⟨n,2,Á⟩):=m.r 6 C3 20 U (gY (o:=C4) p U U) U;refine hD (o:=C4) E m U U p (by k_ne) F H (λk r=> ?_) (λk r e u=> ?_)<|s.C A A B
  .have D:k.cell? ⟨n,2,Á⟩=Â (z):=(N.1.r r).trans N.2;simp only[p8,C4];go_simp
  .have D:k.cell? ⟨n,2,Á⟩=Â (z):=(N.1.r r).trans N.2;have I:e=⟨û ⟨n,2,Á⟩,Ì,Ì⟩:=by simp[go_sem,C4,D,JA]at u;exact u
   subst I;exact N.1.C
 |8,_=>
  refine hD (o:=F0) E m U U p (by k_ne) F H (λk r=> ?_) (λk r e u=> ?_)<|s.C A A B
  .simp only[p8,F0];go_simp
  .simp[go_sem,F0,Y]at u
 |9,_=>
  have FT:a.tmps[22]?=Â (À<|Â ⟨j,0,Á⟩):=m.r 8 F0 22 U (gY (o:=C5) p U U) U;refine hD (o:=C5) E m U U p (by k_ne) F H (λk r=> ?_) (λk r e u=> ?_)<|s.C A A B
  .have D:k.cell? ⟨j,0,Á⟩=Â (v):=((t 0 _ J).1.r r).trans (t 0 _ J).2;simp only[p8,C5];go_simp
  .have D:k.cell? ⟨j,0,Á⟩=Â (v):=((t 0 _ J).1.r r).trans (t 0 _ J).2;have I:e=⟨û ⟨j,0,Á⟩,Ì,Ì⟩:=by simp[go_sem,C5,D,FT]at u;exact u
   subst I;exact(t 0 _ J).1.C
 |10,_=>
  have Qd:a.tmps[21]?=Â (z):=m.r 7 C4 21 U (gY (o:=AK) p U U) U;have h23:a.tmps[23]?=Â (v):=m.r 9 C5 23 U (gY (o:=AK) p U U) U;refine Xz (o:=AK) E m U U p (by k_ne) F (f:=67) (args:=#[z,v]) (λw=>by simp only[AK];go_simp) (λw=>ł (o:=AK) U Tryz.func67 U U #[]) λk r=> ?_;have I:=s.r.N V r;refine((Qb _ I _ _).lJ<|I.G W).fI ?_;rintro P S ⟨y,⟨hy0,T,rfl,hQ⟩,rfl,hA,XC,ahd,ahe⟩;refine⟨T,U,⟨I.PW V hA hy0,λ_=>hQ,λq=> ?_⟩,λc hj=> ?_⟩
  .rw[ç Ì A]at q;exact absurd (m.I (o:=AN) U q U)<|wh XG
  .match c,hj with
   |10,hj=>exact absurd hj<|wh XG
   |0,_|1,_|2,_|3,_|4,_|5,_|6,_|7,_|8,_|9,_|11,_|12,_|n+13,_=>rfl
 |11,_=>
  have I:a.tmps[14]?=Â (Æ (Â ⟨an,0,Á⟩) i i):=m.r 0 FX 14 U (gY (o:=AL) p U U) U;have h16:a.tmps[16]?=Â (Ê Î pl):=m.r 2 CY 16 U (gY (o:=AL) p U U) U;refine hD (o:=AL) E m U U p (by k_ne) F H (λk r=> ?_) (λk r e u=> ?_)<|s.C A A B
  .simp only[p8,AL];go_simp
  .simp[go_sem,AL,sP,P0,I,h16]at u
 |12,_=>
  have h25:a.tmps[25]?=Â (À<|Â ⟨an,pl,Á⟩):=m.r 11 AL 25 U (gY (o:=AN) p U U) U;have Jv:a.tmps[24]?=Â (à x):=m.r 10 AK 24 U (gY (o:=AN) p U U) U;have I:(l.w.cell? ⟨an,pl,Á⟩).isSome=Ò:=s.r.g _ U e2;have AF:l.w.frozen? ⟨an,pl,Á⟩=Ì:=(s.r.S _<|Ã B).trans z2;have kY:po l ⟨an,pl,Á⟩:=Ç (by rwa[s.r.I]);refine PX (o:=AN) (y:=⟨an,pl,Á⟩) (v:=à x) E m U U U p (by k_ne) F H U kY I AF (λw D e=> ?_) (λw D e=> ?_) λk r=> ?_
  .let⟨u,hu⟩:=Ô.1 D;simp only[AN];go_simp
  .let⟨u,hu⟩:=Ô.1 D;simp[go_sem,AN,h25,Jv,á _ _ _ _ _ _ (show Ø (à x)=Ò from rfl),hu,e]
  .have hA:=s.r.pO W V (x:=⟨an,pl,Á⟩) (v:=à x) U U I;refine⟨hA.N V ⟨r.r,r.I,r.N,r.Y,r.S⟩,λq=> ?_,λq=> ?_⟩
   .rw[ç Ì A]at q;exact s.uS q
   .exact(r.N _<|by rw[s.r.C];exact Ã B).trans<|zO (Ô.1 I).choose_spec
 |n+13,h=>exact absurd h Z
end
def yq:Array å:=#[⟨Â 6,.recv 165 (Ù 5) Ò,0, "work.go:63",#[],Á⟩,⟨Â 7,Ő (Ù 6) 1,4, "work.go:63",#[⟨0,Ü⟩],Á⟩]
def XH:Array å:=#[⟨Â 8,Ő (Ù 6) 0,155, "work.go:63",#[],Á⟩,⟨Â 4,.alloc 155,0, "work.go:63",#[],Á⟩,⟨Á,š 155 (Ù 4)<|Ù 8,0, "work.go:63",#[⟨1,Ü⟩,⟨0,Ü⟩,⟨0,Í⟩,⟨1,Í⟩],Á⟩]
def Qe:Array å:=#[⟨Â 9,ð 155 (Ù 4) 2,0, "work.go:64",#[],Á⟩,⟨Â 10,ć 86<|Ù 9,86, "work.go:64",#[⟨0,Ü⟩],Á⟩,⟨Â 11,ĩ<|Ù 10,0, "work.go:64",#[⟨1,Ü⟩],Á⟩,⟨Â 12,ð 105 (Ù 11) 0,0, "work.go:64",#[⟨2,Ü⟩],Á⟩,⟨Â 13,Ě {callee:=ĕ<|ĸ 53,args:=#[Ù 12],argTypes:=#[97]},0, "work.go:64",#[⟨3,Ü⟩],Á⟩]
def C7:Ę:=((Ť (Ù 7) ť<|Ŧ 0).seq<|İ 1<|(ä 2 XH Ì).seq<|(ä 3 Qe Ì).seq<|ä 4 uW Ò)
def AO:Ę:=(ä 1 yq Ì).seq C7
def ahr:Array å:=#[⟨Â 2,ć 101<|Ù 0,101, "work.go:30",#[],Á⟩,
 ⟨Â 3,ć 25<|Ù 1,25, "work.go:30",#[],Á⟩,
 ⟨Â 4,Ě {callee:=ĕ (ĸ 51),args:=#[Ù 2,Ù 3],argTypes:=#[165,25]},0, "work.go:30",#[⟨0,Ü⟩,⟨1,Ü⟩],Á⟩]
def F2(a b c d e:Ï):é:=(base 50).at ⟨#[a,b,c,d,e],[]⟩ [Ñ ahr [2]]
def XJ(t:Array Ï)(a:List é):Ý:=G ((base 51).at ⟨t,[]⟩ [ö AO,ą AO,ô 0]) a
def yr(t:Array Ï)(a:List é):Ý:=G ((base 51).at ⟨t,[]⟩ [Ñ yq [0,1],ö C7,ą AO,ô 0]) a
def JB(t:Array Ï)(a:List é):Ý:=G ((base 51).at ⟨t,[]⟩ [Ñ Qe [],ö<|ä 4 uW Ò,ô 1,ą AO,ô 0]) a
def Qf(t:Array Ï)(a:List é):Ý:=G ((base 51).at ⟨t,[]⟩ [Ñ yq [1],ö C7,ą AO,ô 0]) a
def XK(t:Array Ï)(v:Ï)(a:List é):({yr t a with frame:=(yr t a).frame.finish v}:Ý)=Qf (t.setIfInBounds 6 v) a:=by have:(yr t a).frame.finish v=(base 51).at (Ο ⟨t,[]⟩ (Â 6) v) [Ñ yq [1],ö C7,ą AO,ô 0]:=Ģ _ _ _ _ _ _ _;rw[this];rfl
def zT:Ï:=Đ #[À Á,Ê Î 0,À Á,À Á]
structure QT(an N ch:Nat)(t:Array Ï):Prop where
 r:t.size=26
 C:t[1]?=Â (Æ (Â ⟨an,0,Á⟩) N N)
 I:t[5]?=Â (è<|Â ch)
def ahs(t:Array Ï)(h:t.size=26):∃a b c d e f g i j k l m n o p q r s u v w x y z B C:Ï,t=#[a,b,c,d,e,f,g,i,j,k,l,m,n,o,p,q,r,s,u,v,w,x,y,z,B,C]:=by obtain⟨_,rfl⟩:=yk t h;exact⟨_,_,_,_,_,_,_,_,_,_,_,_,_,_,_,_,_,_,_,_,_,_,_,_,_,_,U⟩
section
variable{Ψ:ß->Prop}{J u:Jd}{l:e7}{t:Array Ï}{ch an N:Nat}{a:Option â}{Q:ByteArray->Prop}{o p r s c f:Ï}{τ:e7->e7}
def XL(a:jY l)(b:ff Ä Ì J l (yr t qX)):ff Ä Ì J l (XJ t qX):=by apply fZ (n:=5) a;have hF:=trivial;simp only[XJ,AO];w_go fA;u_c ĺ fA hF;exact Ë λ_ _=>b
def aht(a:jY l)(d:¬l.q)(e:gS l ⟨k,0,Á⟩)(g:gS l ⟨b,0,Á⟩)(i:gS l ⟨n,0,Á⟩)(j:l.w.cell? ⟨k,0,Á⟩=Â (Ĉ (ù 50) #[] #[À<|Â ⟨b,0,Á⟩,À<|Â ⟨n,0,Á⟩]))(u:l.w.cell? ⟨b,0,Á⟩=Â (è<|Â ch))(v:l.w.cell? ⟨n,0,Á⟩=Â (Æ (Â ⟨an,0,Á⟩) N N)) (y:∀t o p r s x z jQ c f,QT an N ch t->ff Ä Ì J l (yr t [F2 x z jQ c f,yp m o p r s,nk Ä])): ff Ä Ì J l (born Ä<|oK 63 #[À<|Â ⟨m,0,Á⟩,À<|Â ⟨k,0,Á⟩] #[]):=by
 apply fZ (n:=30) a;have hF:=trivial;u_c (Xr Ů fP U) fA hF;walk_nrmf Κ;iterate 3 w_go fA
 u_c (Xp U U (by k_ne) U U) fA hF
 walk_nrm;repeat w_go fA
 refine Ë λ_ _=> ?_;apply nJ U U (by k_ne) a d e j (λw h=>by go_simp) (λw h=>by simp[go_sem,h]);walk_nrm;apply fZ (n:=30) a;u_c (Xq U U (by k_ne) U U ű fP U) fA hF;walk_nrmf Tryz.f50;w_go fA;refine Ë λ_ _=> ?_;apply nJ U U (by k_ne) a d g u (λw h=>by go_simp) (λw h=>by simp[go_sem,h]);walk_nrm;apply nJ U U (by k_ne) a d i v (λw h=>by go_simp) (λw h=>by simp[go_sem,h]);walk_nrm;apply fZ (n:=30) a;u_call Ų fP Tryz.f51 fA hF;iterate 6 w_go fA
 refine Ë λ_ _=> ?_;exact XL a<|y _ _ _ _ _ _ _ _ _ _ ⟨U,U,U⟩
def ahu{Y:Ï}(G:gp l)(M:¬l.q)(P:l.d=0)(hT:QT an N ch t)(hB:60<=i)(ahv:Y=Đ #[À a,Ê Î j7,À<|Â ⟨j9,0,Á⟩,À O])(Q:l.K ⟨j9,0,Á⟩/\l.K ⟨j9,1,Á⟩)(F3:mP j9 l.w) (Qg:l.K ⟨j,0,Á⟩/\l.K ⟨j,1,Á⟩) (hsa:mP j l.w) (hs:gS l ⟨m,0,Á⟩) (hc:l.w.cell? ⟨m,0,Á⟩=Â (À<|Â ⟨j,0,Á⟩)) (ahw:∀H k t',iw e9 l H->H.d=0->H.O k->H.w.cell? ⟨k,0,Á⟩=Â (À a)->H.w.cell? ⟨k,1,Á⟩=Â (Ê Î j7)->H.w.cell? ⟨k,2,Á⟩=Â (À<|Â ⟨j9,0,Á⟩)->QT an N ch t'->t'[4]?=Â (À<|Â ⟨k,0,Á⟩)->u H (JB t' [F2 x z jQ c f,yp m o p r s,nk Ä])): vL Ä Ì ch zT (λb=>match b with
  |some v=>λl g=>v=Y->pV Ä Ì i j9 u .iR l g
  |none=>λl g=>xK Ä Ì j (CK Ä) (kj l) g) l (yr t [F2 x z jQ c f,yp m o p r s,nk Ä]):=by
 obtain⟨y0,y1,y2,y3,y4,y5,y6,y7,y8,y9,wj,yn,wm,qL,rQ,p6,uT,uU,tB,tC,tD,rR,rS,rT,qF,rM,rfl⟩:=ahs t hT.r;obtain rfl:y1=Æ (Â ⟨an,0,Á⟩) N N:=by simpa using hT.C
 obtain rfl:y5=è (Â ch):=by simpa using hT.I
 have hF:=trivial;refine⟨U,U,λD=> ?_,λb=> ?_⟩
 .refine(Ż (cases:=#[rcase ch zT]) (blocking:=Ò) (shape:=.recv Ò) (w':=D) rfl rfl (by k_ne) ?_).trans ?_
  .simp[go_sem,yq,ĉ,rcase,zT]
  .simp[listed,go_sem,yq,ĉ,Ī];rfl
 cases b with
 |none=>
  rw[XK];simp only[Qf,C7,yq,Option.getD_none,ı,ē,Ĳ,ĳ];apply fZ (n:=30) G.r;iterate 6 w_go fA
  u_leave0 Ų fA hF
  iterate 2 w_go fA
  u_leave0 ű fA hF
  refine Ë λ_ _=> ?_;exact XB (Ψ:=λ_=>True) Qg ⟨Ã Qg.1,Ã Qg.2,λ_ _ _ _ _ _ _ _=>trivial⟩ ⟨G.r,hsa,trivial⟩ P M hs hc
 |some v=>
  by_cases hv:v=Y
  .subst hv;subst ahv;apply ff.fI λl g h _=>h;rw[XK];simp only[Qf,C7,yq,Ń,Option.isSome_some,ē,Ĳ,ĳ];apply fZ (n:=30) G.r;iterate 7 w_go fA
   u_c ĺ fA hF
   simp only[XH,Ļ,ń,ŋ,ś,č,ã,List.range.loop];w_go fA;refine Ë λ_ _=> ?_;have qM:∀y:â,False->l.r y:=λy ha=>ha.elim;refine FU (ob:=É #[À Á,Ê Î 0,À Á,À Á] 155) U U (by k_ne) G.r M (λw=>by go_simp) (λw=>by simp[go_sem]) λD mM=> ?_;walk_nrm;have S:iw e9 l (gJ l D<|É #[À Á,Ê Î 0,À Á,À Á] 155):=Jx G qM mM;have mQ:(gJ l D<|É #[À Á,Ê Î 0,À Á,À Á] 155).w.heap[D.heap.size]?=Â (É #[À Á,Ê Î 0,À Á,À Á] 155):=nn;have rU:=mM.r;have I:(gJ l D<|É #[À Á,Ê Î 0,À Á,À Á] 155).O D.heap.size:=Ç U;generalize gJ l D (É #[À Á,Ê Î 0,À Á,À Á] 155)=l₁ at S mQ I|-;generalize D.heap.size=k at mQ I rU|-;refine uP U U (by k_ne) λC qN=> ?_;have J:=(qN.I k<|Ã I).trans mQ;have C8:C.cell? ⟨k,0,Á⟩=Â (À Á):=by simp[Ö,J]
   have yf:C.cell? ⟨k,1,Á⟩=Â (Ê Î 0):=by simp[Ö,J]
   have p9:C.cell? ⟨k,2,Á⟩=Â (À Á):=by simp[Ö,J]
   have tE:C.cell? ⟨k,3,Á⟩=Â (À Á):=by simp[Ö,J]
   have hz:∀g,C.frozen? ⟨k,g,Á⟩=Ì:=λg=>by simp[î,J]
   go_simp;refine⟨{l₁ with w:=iN C k (À a) (Ê Î j7) (À<|Â ⟨j9,0,Á⟩) (À O)},Jy (lZ S.fq qN) (by rwa[S.q]) I wi (λg F=>yj F) ⟨U,U,U⟩ λe L=> ?_,?_⟩
   .have E:=đ L;have B:∀g,po l₁ ⟨k,g,Á⟩:=λg=>Ã I;simp[go_sem,á _ _ _ _ _ _ (show Ø (À a)=Ò from rfl),á _ _ _ _ _ _ (show Ø (À<|Â ⟨j9,0,Á⟩)=Ò from rfl),á _ _ _ _ _ _ (show Ø (À O)=Ò from rfl),C8,yf,p9,tE,hz]at E;rcases E with rfl|rfl|rfl|rfl
    .exact(B _).r
    .exact(B _).r
    .exact(B _).r
    .exact(B _).r
   obtain⟨T,V,L,c3⟩:=P5 C8 yf p9 tE;have E:=P7 (w':=iN C k (À a) (Ê Î j7) (À<|Â ⟨j9,0,Á⟩)<|À O) G qM S qN rU wi λg F=>yj F;have W:({l₁ with w:=iN C k (À a) (Ê Î j7) (À<|Â ⟨j9,0,Á⟩) (À O)}:e7).O k:=I;replace T:({l₁ with w:=iN C k (À a) (Ê Î j7) (À<|Â ⟨j9,0,Á⟩) (À O)}:e7).w.cell? ⟨k,0,Á⟩=_:=T;replace V:({l₁ with w:=iN C k (À a) (Ê Î j7) (À<|Â ⟨j9,0,Á⟩) (À O)}:e7).w.cell? ⟨k,1,Á⟩=_:=V;replace L:({l₁ with w:=iN C k (À a) (Ê Î j7) (À<|Â ⟨j9,0,Á⟩) (À O)}:e7).w.cell? ⟨k,2,Á⟩=_:=L;generalize({l₁ with w:=iN C k (À a) (Ê Î j7) (À<|Â ⟨j9,0,Á⟩) (À O)}:e7)=l₂ at T V L E W|-;have X:=E.G G;have pw:¬l₂.q:=by rwa[E.q]
   apply fZ (n:=9) X.r;iterate 2 w_go fA
   u_c ĺ fA hF
   simp only[Qe,Ļ,ń,ŋ,ś,č,ã,List.range.loop];w_go fA;refine Ë λ_ _=> ?_;apply nJ U U (by k_ne) X.r pw (Ã<|Ã W) L (λw h=>by go_simp) (λw h=>by simp[go_sem,h]);walk_nrm;apply fZ (n:=9) X.r;iterate 2 w_go fA
   u_call pY.f_wait (nm_wait Lk) waitFn fA hF
   refine Ë λ_ _=> ?_;have k2:lI (λw=>fE l₂ l₂.w w) l₂ j9:=⟨Ã (by rw[E.K];exact Q.1),Ã (by rw[E.K];exact Q.2),λw D h1 h2 h3 h4 h5 h=>h.fc ⟨h1,h2,h3,h4,h5⟩⟩;have s2:SW (λw=>fE l₂ l₂.w w) l₂ j9 l₂.w:=⟨X.r,⟨E.b _ Q.1 F3.1,E.b _ Q.2 F3.2⟩,fE.fQ _ _⟩;refine Xn pY hB k2 s2 (E.d.trans P) λD XM=> ?_;walk_nrm;refine .fv λCJ F=> ?_;have B:=E.N qM<|XM.2.2.fc ⟨F.r,F.I,F.N,F.Y,F.S⟩;have hdd:=E.d.trans P;have AP:iw e9 l ({l₂ with d:=0,w:=CJ}:e7):=⟨B.O,B.h,B.Y,B.I,B.c,B.K,B.q,P.symm,B.fq,B.f,B.r,B.e,B.S,B.b,B.g⟩;have rr:=XM.2.2.fc ⟨F.r,F.I,F.N,F.Y,F.S⟩;have cc:∀g,CJ.cell? ⟨k,g,Á⟩=l₂.w.cell? ⟨k,g,Á⟩:=λg=>gF<|rr.I k<|Ã W;exact ahw {l₂ with d:=0,w:=CJ} k _ AP U W ((cc 0).trans T) ((cc 1).trans V) ((cc 2).trans L) ⟨U,U,U⟩ U
  .exact .fv λ_ _ e=>absurd e hv
end
section
variable{J:Jd}{l:e7}{Q:ByteArray->Prop}
def ahx(f:gp l)(C:¬l.q)(g:QT n i j d)(L:d[4]?=Â (À<|Â ⟨m,0,Á⟩))(M:l.O m) (N:l.w.cell? ⟨m,0,Á⟩=Â (À O)) (P:l.w.cell? ⟨m,1,Á⟩=Â (Ê Î k)) (S:l.w.cell? ⟨m,2,Á⟩=Â (À<|Â ⟨b,0,Á⟩)) (T:l.N ⟨b,2,Á⟩) (V:l.w.cell? ⟨b,2,Á⟩=Â v) (p:l.r ⟨n,k,Á⟩) (W:(l.w.cell? ⟨n,k,Á⟩).isSome=Ò) (X:l.w.frozen? ⟨n,k,Á⟩=Ì) (Y:k<i) (Qb:∀e,iw (λa=>a=⟨n,k,Á⟩) l e->∀D E,ff Ä Ì (λl'' g'=>l''.d=e.d/\∃F,g'=G (D.finish<|à F) E/\Q F) (lJ e)<|G (Ă Ä 67 #[v,À O] Ğ)<|D::E) (hJ:∀e x H,iw (λa=>a=⟨n,k,Á⟩) l e->Q x->e.w.cell? ⟨n,k,Á⟩=Â (à x)->QT n i j H->J e (yr H qX)): ff Ä Ì J l (JB d qX):=by
 have I:∀y:â,y=⟨n,k,Á⟩->l.r y:=λy ha=>by rwa[ha]
 have hF:=trivial;apply fZ (n:=3) f.r;simp only[JB];w_go fA;refine Ë λ_ _=> ?_;refine PQ (II uW d (p8 m b n i k (À O) v)<|C6 l n k Q) f.r C (λo h=> ?_) (λs t a l c o u r=>ahq f C g.r g.C L M N P S T V p W X Y Qb s t a l c o u r) λs t a j5 u z B=> ?_
 .refine⟨ByteArray.empty,mr.G _ _ _,(iw.fQ f.r).N I ⟨h.r,h.I,h.N,h.Y,h.S⟩,λq=> ?_,λq=> ?_⟩<;>exact absurd q A
 let⟨x,o,h⟩:=u;have K:∀c∈ã 13,t.getD c Ì=Ò:=by
  cases s
  .exact pv B z (ã 13) [] fP λc r=>by cases r
  .exact pv B z (ã 13) [] fP λc r=>by cases r
  .exact pv B z (ã 13) [] fP λc r=>by cases r
 have s:=h.r.G f;let⟨z,B⟩:=a;obtain rfl:B=[]:=o.M;apply fZ (n:=9) s.r;iterate 3 w_go fA
 refine Ë λ_ _=> ?_;refine XL s.r<|.fv λw₁ r=>(hJ {j5 with w:=w₁} x z (h.r.N I r) (h.uS<|K 10 A) ((r.N _<|Ã<|by rwa[h.r.I]).trans<|h.I<|K 12 A) ⟨o.S.trans g.r,((o.C A).trans g.C),((o.C A).trans g.I)⟩)
end
structure fY(X:Nat->Prop)(l l':e7):Prop where
 O:∀j,l.O j->l'.O j
 c:∀j,l'.O j->l.O j\/l.w.heap.size<=j
 S:l'.I=l.I
 Y:l'.r=l.r
 b:l'.N=l.N
 K:l'.K=l.K
 q:l'.q=l.q
 d:l'.d=l.d
 fq:jY l'
 I:l.w.heap.size<=l'.w.heap.size
 r:∀j,l.M j->¬X j->l'.w.heap[j]?=l.w.heap[j]?
 f:∀a,l.C a->l'.w.cell? a=l.w.cell? a
 g:∀a,l.C a->l'.w.frozen? a=l.w.frozen? a
 e:∀a,l.K a->(l.w.cell? a).isSome=Ò->(l'.w.cell? a).isSome=Ò
section
variable{l l' l'':e7}
theorem fY.fQ(h:jY l):fY X l l:=⟨λ_ h=>h,λ_ h=>Ã h,U,U,U,U,U,U,h,Ú _,λ_ _ _=>rfl,λ_ _=>rfl,λ_ _=>rfl,λ_ _ h=>h⟩
def fY.C(h:fY X l l'):l'.C=l.C:=by unfold e7.C;rw[h.Y,h.b]
def fY.M(h:fY X l l')(a:l.M b):l'.M b:=a.imp (h.O b)<|by rw[h.S];exact id
def fY.fc(h:fY X l l')(k:fY X l' l''):fY X l l'':=by have e:=h.C;exact⟨λj c=>k.O j<|h.O j c,λj c=>(k.c j c).elim (h.c j) λq=>Ç<|Õ h.I q,k.S.trans h.S,k.Y.trans h.Y,k.b.trans h.b,k.K.trans h.K,k.q.trans h.q,k.d.trans h.d,k.fq,Õ h.I k.I,λj c f=>(k.r j (h.M c) f).trans<|h.r j c f,λa b=>(k.f a<|by rwa[e]).trans<|h.f a b,λa b=>(k.g a<|by rwa[e]).trans<|h.g a b,λa b q=>k.e a (by rwa[h.K])<|h.e a b q⟩
def fY.G(h:fY X l l'){w₁:ß}(r:fE l' l'.w w₁):fY X l {l' with w:=w₁}:= h.fc ⟨λ_ q=>q,λ_ q=>Ã q,U,U,U,U,U,U,lZ h.fq r,r.r,λj a _=>r.I j a,r.N,r.Y,r.S⟩
def fY.fI{a:Nat->Prop}(h:fY X l l')(c:∀j,l.M j->X j->a j):fY a l l':=⟨h.O,h.c,h.S,h.Y,h.b,h.K,h.q,h.d,h.fq,h.I,λj b e=>h.r j b λq=>e<|c j b q,h.f,h.g,h.e⟩
def fY.N(h:fY X l l')(s:gp l):gp l' where
 c b hb:=by
  rw[h.S];rcases h.c b hb with q|q
  .exact s.c b q
  .exact λz=>by have:=s.fq b<|Ç z;omega
 Y a ha:=by rw[h.b];exact s.Y a<|by rwa[<-h.Y]
 N a ha hb:=by
  rw[h.C]at ha;rcases hb with q|q
  .rcases h.c _ q with z|z
   .exact s.N a ha<|Ã z
   .have:=s.I a ha;omega
  .rw[h.S]at q;exact s.N a ha<|Ç q
 fq b hb:=by
  rcases hb with q|q
  .exact h.fq b q
  .rw[h.S]at q;exact È (s.fq b<|Ç q) h.I
 I a ha:=by rw[h.C]at ha;exact È (s.I a ha) h.I
 S a ha:=by
  rw[h.K]at ha;let⟨c,d,e⟩:=s.S a ha;refine⟨λq=> ?_,È d h.I,by rwa[h.Y]⟩;rcases q with q|q
  .rcases h.c _ q with z|z
   .exact c<|Ã z
   .omega
  .rw[h.S]at q;exact c<|Ç q
def nK{ob:Ÿ}(s:gp l){w₁:ß}(r:fE l l.w w₁):fY X l (gJ l w₁ ob):=by have h:=Jx (E:=e9) (ob:=ob) s (λ_ q=>q.elim) r;exact⟨h.O,h.h,h.Y,h.I,h.c,h.K,h.q,h.d,h.fq,h.f,λj b _=>h.r j b,λa c=>h.e a c id,h.S,h.b⟩
def JC{w':ß}{p:Nat}(s:gp l)(r:fE l l.w u)(c:l.O p)(g:X p)(d:w'.heap.size=u.heap.size)(b:∀j,j≠p->w'.heap[j]?=u.heap[j]?):fY X l {l with w:=w'}:=by
 have f:∀a:â,l.C a->a.block≠p:=λa h e=>s.N a h<|Ã<|e▸c;refine⟨λ_ q=>q,λ_ q=>Ã q,U,U,U,U,U,U,λj q=> ?_,?_,λj q n=>(b j λe=>n<|e▸g).trans<|r.I j q,λa q=>(gF<|b _<|f a q).trans<|r.N a q,λa q=>(vK<|b _<|f a q).trans<|r.Y a q,λa q z=> ?_⟩
 .show j<w'.heap.size;rw[d];exact È (s.fq j<|Ã q) r.r
 .show l.w.heap.size<=w'.heap.size;rw[d];exact r.r
 .show(w'.cell? a).isSome=Ò;rw[gF (b a.block λe=>(s.S a q).1<|Ã<|e▸c)];exact r.S a q z
end
section
variable{J:Jd}{l:e7}{a:ŏ}{k:List ŷ}{cs:List é}{ob:Ÿ}
def qa{V:Nat->Ï}(c:Q[i]?=Â o)(d:Ė o (ţ Q a.tmps)=Ò)(e:f.kind≠Ź)(g:jY l)(h:¬l.q) (j:∀w,(ĉ a.eval o).run P w=.ok (.value<|V w.heap.size) (w.alloc ob)) (m:∀w,(ĉ a.eval o).events P w #[]=#[]) (n:∀b,fE l l.w b->ff P yQ J (gJ l b ob) (G (f.at (a.put o.dst<|V b.heap.size)<|Ñ Q jJ::k) cs)):ff P yQ J l (G (f.at a<|Ñ Q (i::jJ)::k) cs):=by
 refine uP c d e λb r=> ?_;rw[j b];refine⟨_,?_,n b r⟩;have:listed P f.fn a o b=#[]:=by unfold listed;rw[m b,Ī]
 rw[this];exact XD (lZ g r) h
def F4{p off:Nat}{u:Ï}(m:Q[i]?=Â o)(n:Ė o (ţ Q a.tmps)=Ò)(s:f.kind≠Ź)(t:jY l)(x:¬l.q)(b:l.O p)(d:l.w.cell? ⟨p,off,Á⟩=Â u)(y:l.w.frozen? ⟨p,off,Á⟩=Ì)(z:o.dst=Á) (B:∀w,w.cell? ⟨p,off,Á⟩=Â u->w.frozen? ⟨p,off,Á⟩=Ì->(ĉ a.eval o).run P w=.ok .skip (w.setCell ⟨p,off,Á⟩ v)) (C:∀w,w.cell? ⟨p,off,Á⟩=Â u->w.frozen? ⟨p,off,Á⟩=Ì->(ĉ a.eval o).events P w #[]=#[⟨û ⟨p,off,Á⟩,Ò,Ì⟩]) (D:ff P yQ J {l with w:=l.w.setCell ⟨p,off,Á⟩ v} (G (f.at a<|Ñ Q jJ::k) cs)):ff P yQ J l (G (f.at a<|Ñ Q (i::jJ)::k) cs):=by
 have E:gS l ⟨p,off,Á⟩:=Ã<|Ã b;refine uP m n s λg r=> ?_;have c:=(E.r r).trans d;have j:=(vK<|r.I p<|Ã b).trans y;rw[B g c j];refine⟨_,Xx U (lZ t r) x (Ã b) λe h=> ?_,?_⟩
 .have:=đ h;rw[C g c j]at this;have:e=⟨û ⟨p,off,Á⟩,Ò,Ì⟩:=by simpa using this
  subst this;exact po.r<|Ã b
 .have:(a.put o.dst Å)=a:=by rw[z];rfl
  rw[this];exact D.jO<|yb<|Xw U (by rw[d];rfl) (by rw[c];rfl) r
def nL(l:e7)(w₁ a:ß):e7:={l with O:=λf=>l.O f\/(w₁.heap.size<=f/\f<a.heap.size),w:=a}
def Qh(s:gp l){w₁:ß}(r:fE l l.w w₁){a:Option Nat}(d:w₁.grownBy u a)(c:∀k,a=Â k->l.O k/\X k):fY X l (nL l w₁ u):=by
 have i:=r.r;have m:=d.size;have b:∀j,j<l.w.heap.size->Â j≠a->u.heap[j]?=w₁.heap[j]?:=λj o g=>d.block j Z g;have f:∀x:â,l.C x->Â x.block≠a:=λx h e=>s.N x h<|Ã (c _ e.symm).1;refine⟨λ_ q=>Ã q,λj q=>q.imp id λz=>by omega,U,U,U,U,U,U,λj q=> ?_,?_,λj q n=>(b j (s.fq j q) λe=>n (c j e.symm).2).trans<|r.I j q,λx q=>(gF<|b _ (s.I x q)<|f x q).trans<|r.N x q,λx q=>(vK<|b _ (s.I x q)<|f x q).trans<|r.Y x q,λx q z=> ?_⟩
 .show j<u.heap.size;rcases q with q|q
  .have:=s.fq j<|Ã q;omega
  .exact q.2
 .show l.w.heap.size<=u.heap.size;omega
 .show(u.cell? x).isSome=Ò;rw[gF (b x.block (s.S x q).2.1 λe=>(s.S x q).1<|Ã (c _ e.symm).1)];exact r.S x q z
def oM{w₁:ß}{sz:Nat}{xs:List Ï}(h:w.ownsRow i e sz v n xs)(a:∀k,v.ownBlock=Â k->w₁.heap[k]?=w.heap[k]?):w₁.ownsRow i e sz v n xs:=by refine⟨h.1,h.2.imp id ?_⟩;rintro⟨g,b,c,rfl,d,f,j⟩;exact⟨g,b,c,U,d,(a g U).trans f,j⟩
def ahy{p:Nat}{u:Ï}(h:w.cell? ⟨p,0,Á⟩=Â u):∀j y,[u][j]?=Â y->w.cell? ⟨p,j,Á⟩=Â y
 |0,_,e=>Ó e▸h
 |_+1,_,e=>by cases e
def ahz{s a:List Ï}(h:P.underlying t=Â (.slice e))(k:P.info? e=Â zJ)(B:zJ.zero=Â z)(l:zJ.size=m)(C:a.length=m)(F:(n+1)*zJ.bytes<=140737488355328)(G:n+1<=œ) (o:w.ownsRow 0 e m v n s) (p:∀j y,a[j]?=Â y->w.cell? ((⟨b,0,Á⟩:â).add j)=Â y) (H:∀u∈a,u.oneCell'=Ò) (d:(Builtin.append_ #[t,t] T #[v,Æ (Â ⟨b,0,Á⟩) 1 i]).run P w=.ok x W):x.ownBlock=v.ownBlock\/x.ownBlock=Â w.heap.size:=by
 have q:a.length=1*zJ.size:=by rw[l,C];omega
 have L:n+1<=9223372036854775807:=by simp only[œ]at G;omega
 rcases o.2 with⟨rfl,rfl⟩|⟨g,r,D,rfl,_,I,M,N,J,O⟩
 .have f:=run_append_nil (P:=P) w t T e zJ z h k B ⟨b,0,Á⟩ 1 i a q p Z Z Z;rw[f]at d;cases d;exact Ç U
 .by_cases E:n+1<=r
  .have K:n*zJ.size+a.length<=D.size:=by
    rw[J,l,C,show n*m+m=(n+1)*m by rw[Nat.add_mul];omega];exact Nat.mul_le_mul_right _ E
   have f:=run_append_room (P:=P) w t T e zJ h k g n r D I ⟨b,0,Á⟩ 1 i a q p H E K;rw[f]at d;cases d;exact Ã U
  .have f:=run_append_grow (P:=P) w t T e zJ z h k B ⟨g,0,Á⟩ n r s (by rw[l];exact o.1) (o.cells (g:=g) U) ⟨b,0,Á⟩ 1 i a q p Z Z<|growslice_fits Z F;rw[f]at d;cases d;exact Ç U
theorem Qi{x:Ĥ}{inf:Ž}{c px sz:Nat}{xs us:List Ï}(ho:Q[i]?=Â o)(hw:Ė o (ţ Q a.tmps)=Ò)(hk:f.kind≠Ź)(sn:gp l)(hq:¬l.q) (V:o.op=Ě {callee:=Ŕ .append,args:=#[qQ,x],argTypes:=#[t,t]}) (W:a.eval qQ=v) (X:a.eval x=Æ (Â ⟨px,0,Á⟩) 1 c) (E:P.underlying t=Â (.slice e)) (F:P.info? e=Â inf) (H:inf.zero=Â z) (I:inf.size=sz) (jC:0<sz) (JD:us.length=sz) (qP:z.cells.size=sz) (K:(n+1)*inf.bytes<=140737488355328) (L:n+1<=œ) (kY:l.w.ownsRow 0 e sz v n xs) (C:∀k,v.ownBlock=Â k->l.O k) (XO:l.O px) (hu:∀j u,us[j]?=Â u->l.w.cell? ⟨px,j,Á⟩=Â u) (d:∀u∈us,u.oneCell'=Ò) (hn:∀b B g,fE l l.w b->g.ownsRow 0 e sz B (n+1) (xs++us)->b.grownBy g v.ownBlock->(∀k,B.ownBlock=Â k->(nL l b g).O k)->(B.ownBlock=v.ownBlock\/B.ownBlock=Â b.heap.size)->ff P yQ J (nL l b g) (G (f.at (a.put o.dst B)<|Ñ Q jJ::k) cs)): ff P yQ J l (G (f.at a<|Ñ Q (i::jJ)::k) cs):=by
 refine uP ho hw hk λb r=> ?_;have hM:∀k,l.O k->b.heap[k]?=l.w.heap[k]?:=λk q=>r.I k<|Ã q;have M:=oM kY (w₁:=b) λk q=>hM k<|C k q;have N:∀j w,us[j]?=Â w->b.cell? ((⟨px,0,Á⟩:â).add j)=Â w:=λj w h=>by rw[ğ,č];grind [gF]
 have Y:us.length=1*sz:=Z
 let⟨B,g,iD,hown',p,yo⟩:=run_append_own (P:=P) b 0 t o.type e inf z sz inf.bytes E F H I U qP jC v n xs M ⟨px,0,Á⟩ 1 c us Y N d L K<|ă _;have tF:=ahz E F H I JD K L M N d iD;refine uponK_append qQ x t V W X iD ⟨nL l b g,?_,hn b B g r hown' p (λk q=> ?_) tF⟩
 .have he:∀D∈listed P f.fn a o b,we (nL l b g) D:=λD S=>by
   have h2:=đ S;rw[events_append_op qQ x t V W X]at h2;rcases(events_append_where (P:=P) b 0 t o.type e inf z sz inf.bytes E F H I rfl v n xs M ⟨px,0,Á⟩ 1 c us Y N d L K) D h2 with⟨ad,T,y⟩|⟨m,rfl,ahA⟩
   .refine⟨Ã ⟨ad,T,Ã ?_⟩,by rw[T];simp,by rw[T];simp⟩;rcases y with⟨_,y⟩|y
    .exact Ã<|by rwa[y]
    .exact Ã<|C _ y.symm
   .have sZ:m=.noRoom:=ahA;subst sZ;exact⟨Ç<|Ã U,fh,fh⟩
  refine⟨p.size,λj q=>q.imp id λz=>z.1,λj q=> ?_,U,U,U,U,λj T d _=>p.block j T λe=>d<|C j e.symm,λy m d _=>gF (p.block _ m λe=>d<|C _ e.symm),λy m d=>vI (p.block _ m λe=>d<|C _ e.symm),p.os,p.output,p.tape,λD S=>(he D S).1,(Jr he _).symm,U,λq=>absurd q hq,U⟩;rcases q with q|q
  .exact È ((lZ sn.r r) j q) p.size
  .exact q.2
 .have y:k<g.heap.size:=(hown'.lt k q).2;rcases tF with m|m
  .exact Ã<|C k<|by rwa[<-m]
  .rw[m]at q;obtain rfl:=Ó q;exact Ç ⟨Ú _,y⟩
end
def XP:Array å:=#[⟨Â 25,Ş (ù 48) #[] #[Ù 9,Ù 8],1, "work.go:24",#[],Á⟩,⟨Â 26,Ě {callee:=ĕ<|ĸ 47,args:=#[Ù 12,Ù 25],argTypes:=#[97,1]},0, "work.go:24",#[⟨0,Ü⟩],Á⟩]
def XQ:Array å:=#[⟨Â 13,ŧ<|Ũ<|Æ Á 0 0,100, "work.go:25",#[],Á⟩]
def XR:Array å:=#[⟨Â 27,ę<|Ù 2,3, "work.go:26",#[],Á⟩,⟨Â 28,ę<|Ũ<|Ê Î 0,3, "work.go:26",#[],Á⟩]
def Qj:Array å:=#[⟨Â 29,Λ .lss 3 (Ù 28) (Ù 27) 3,4, "work.go:26",#[],Á⟩]
def XS:Array å:=#[⟨Â 30,ę<|Ù 10,85, "work.go:28",#[],Á⟩,⟨Â 31,Ě {callee:=Ŕ .len,args:=#[Ù 30],argTypes:=#[85]},3, "work.go:28",#[⟨0,Ü⟩],Á⟩,⟨Â 32,.makeChan 101<|Ù 31,101, "work.go:28",#[⟨1,Ü⟩],Á⟩,⟨Â 14,.alloc 101,0, "work.go:28",#[],Á⟩,⟨Á,š 101 (Ù 14)<|Ù 32,0, "work.go:28",#[⟨3,Ü⟩,⟨2,Ü⟩,⟨0,Í⟩,⟨1,Í⟩,⟨2,Í⟩,⟨3,Í⟩],Á⟩]
def XT:Array å:=#[⟨Â 33,ę<|Ù 13,100, "work.go:29",#[],Á⟩,⟨Â 34,ć 101<|Ù 14,101, "work.go:29",#[],Á⟩,⟨Â 35,.buildSlice 100 1 #[(0,Ù 34)],100, "work.go:29",#[⟨1,Ü⟩],Á⟩,⟨Â 36,Ě {callee:=Ŕ .append,args:=#[Ù 33,Ù 35],argTypes:=#[100,100]},100, "work.go:29",#[⟨0,Ü⟩,⟨2,Ü⟩],Á⟩,⟨Â 13,ŧ<|Ù 36,100, "work.go:29",#[⟨3,Ü⟩,⟨3,Ţ⟩,⟨0,Í⟩,⟨1,Í⟩,⟨2,Í⟩,⟨3,Í⟩],Á⟩]
def JF:Array å:=#[⟨Â 37,Ş (ù 50) #[] #[Ù 14,Ù 8],1, "work.go:30",#[],Á⟩,⟨Â 38,Ě {callee:=ĕ<|ĸ 47,args:=#[Ù 12,Ù 37],argTypes:=#[97,1]},0, "work.go:30",#[⟨0,Ü⟩],Á⟩]
def Qk:Array å:=#[⟨Â 39,Λ .add 3 (Ù 28) (Ũ<|Ê Î 1) 3,3, "work.go:26",#[],Á⟩,⟨Â 28,ę<|Ù 39,3, "work.go:26",#[⟨0,Ü⟩],Á⟩]
def JG:Array å:=#[⟨Â 40,ę<|Ù 10,85, "work.go:32",#[],Á⟩,⟨Â 41,ę<|Ù 13,100, "work.go:32",#[],Á⟩,⟨Â 42,Ě {callee:=ĕ<|ĸ 52,args:=#[Ù 40,Ù 41],argTypes:=#[85,100]},0, "work.go:32",#[⟨0,Ü⟩,⟨1,Ü⟩],Á⟩]
def JH:Array å:=#[⟨Â 43,Ě {callee:=ĕ<|ĸ 53,args:=#[Ù 12],argTypes:=#[97]},0, "work.go:33",#[],Á⟩]
def F5:å:=⟨Â 44,ć 25<|Ù 8,25, "work.go:34",#[],Á⟩
def F6:å:=⟨Â 45,ę<|Ù 11,86, "work.go:34",#[{on:=5,ground:=õ Ð}],Á⟩
def F7:å:=⟨Â 46,ĩ<|Ù 45,0, "work.go:34",#[⟨1,Ü⟩,{on:=5,ground:=õ Ð}],Á⟩
def F8:å:=⟨Â 47,ð 105 (Ù 46) 1,0, "work.go:34",#[⟨2,Ü⟩,{on:=5,ground:=õ Ð}],Á⟩
def F9:å:=⟨Â 48,ć 65<|Ù 47,65, "work.go:34",#[⟨3,Ü⟩,{on:=5,ground:=õ Ð}],Á⟩
def Gb:å:=⟨Â 6,ŧ<|Ù 44,25, "work.go:34",#[⟨0,Ü⟩,⟨0,Í⟩,{on:=1,ground:=Þ Ð},{on:=2,ground:=Þ Ð},{on:=3,ground:=Þ Ð},{on:=4,ground:=Þ Ð}],Á⟩
def Gc:å:=⟨Â 7,ŧ<|Ù 48,65, "work.go:34",#[⟨4,Ü⟩,⟨5,Ţ⟩,⟨0,Í⟩,⟨1,Í⟩,⟨2,Í⟩,⟨3,Í⟩,⟨4,Í⟩,⟨5,Í⟩],Á⟩
def wv:Array å:=#[F5,F6,F7,F8,F9,Gb,Gc]
def JJ:Ę:=(ä 14 wv Ò).seq Ρ
def JK:Ę:=(ä 12 JG Ì).seq<|(ä 13 JH Ì).seq JJ
def C9:Ę:=(ä 7 Qj Ì).seq<|(Ť (Ù 29) ť<|Ŧ 0).seq<|(İ 1<|(ä 8 XS Ì).seq<|(ä 9 XT Ì).seq<|ä 10 JF Ì).seq<|ä 11 Qk Ì
def sA:Ę:=(ä 5 XQ Ì).seq<|((ä 6 XR Ì).seq<|İ 0 C9.loop).seq JK
def AQ(t:Array Ï)(a:List é):Ý:=G ((base 37).at ⟨t,[]⟩ [ö C9,ą C9,ô 0,ö JK]) a
def Da(t:Array Ï):é:=(base 37).at ⟨t,[]⟩ [Ñ XP [1],ö sA]
def JL(t:Array Ï):é:=(base 37).at ⟨t,[]⟩ [Ñ JF [1],ô 1,ö<|ä 11 Qk Ì,ą C9,ô 0,ö JK]
def Gd:Array å:=#[⟨Â 6,Ş (ù 63) #[] #[Ù 2,Ù 3],1, "waitgroup.go:238",#[],Á⟩,
 ⟨Á,.go {callee:=ĕ (Ù 6),args:=#[],argTypes:=#[]},0, "waitgroup.go:238",#[⟨0,Ü⟩],Á⟩]
def tG(c d e f:Ï)(a b:Nat):Array Ï:=#[c,d,À<|Â ⟨a,0,Á⟩,À<|Â ⟨b,0,Á⟩,e,f,Ĉ (ù 63) #[] #[À<|Â ⟨a,0,Á⟩,À<|Â ⟨b,0,Á⟩]]
def AR(a b c d:Ï)(e f:Nat)(g:List é):Ý:=G ((base 47).at ⟨tG a b c d e f,[]⟩ [Ñ Gd [1]]) g
def Ge(a b c d:Ï)(e f:Nat)(g:List é):Ý:=G ((base 47).at ⟨tG a b c d e f,[]⟩ [Ñ Gd []]) g
def XU(c e f g:Ï)(a b:Nat)(h:List é)(w:ß):stepG Ä Ò (AR c e f g a b h) w=.spawn (Ge c e f g a b h) (born Ä<|oK 63 #[À<|Â ⟨a,0,Á⟩,À<|Â ⟨b,0,Á⟩] #[]) w #[]:=by
 refine(stepG_spawn (d:=oK 63 #[À<|Â ⟨a,0,Á⟩,À<|Â ⟨b,0,Á⟩] #[]) (w':=w) U U (by k_ne) ?_ U).trans ?_
 .simp[Gd,ĉ,ſ,ě,ĥ,tG,oK]
 .have:listed Ä (base 47).fn ⟨tG c e f g a b,[]⟩ Gd[1] w=#[]:=by
   unfold listed;simp[Gd,ĉ,ſ,ě,ĥ,tG,Ī]
  rw[this];rfl
structure ST(ba all np n j:Nat)(qs dv:Ï)(t:Array Ï):Prop where
 r:t.size=49
 a:t[8]?=Â (À<|Â ⟨ba,0,Á⟩)
 C:t[10]?=Â qs
 I:t[11]?=Â (À<|Â ⟨np,0,Á⟩)
 M:t[12]?=Â (À<|Â ⟨all,0,Á⟩)
 N:t[13]?=Â dv
 S:t[27]?=Â (Ê Î n)
 Y:t[28]?=Â (Ê Î j)
structure Gf(ba all np n:Nat)(qs:Ï)(t:Array Ï):Prop where
 Cm:t.size=49
 t2:t[2]?=Â (Ê Î n)
 t8:t[8]?=Â (À<|Â ⟨ba,0,Á⟩)
 ahB:t[10]?=Â qs
 ahC:t[11]?=Â (À<|Â ⟨np,0,Á⟩)
 Ql:t[12]?=Â (À<|Â ⟨all,0,Á⟩)
def Gi(t:Array Ï)(h:t.size=49):∃a b c d e f g i j k l m n o p q r s u v w x y z B C D E F G H I J K L M N O P Q S T V W X Y pj pn vZ:Ï,t=#[a,b,c,d,e,f,g,i,j,k,l,m,n,o,p,q,r,s,u,v,w,x,y,z,B,C,D,E,F,G,H,I,J,K,L,M,N,O,P,Q,S,T,V,W,X,Y,pj,pn,vZ]:=by obtain⟨_,rfl⟩:=yk t h;exact⟨_,_,_,_,_,_,_,_,_,_,_,_,_,_,_,_,_,_,_,_,_,_,_,_,_,_,_,_,_,_,_,_,_,_,_,_,_,_,_,_,_,_,_,_,_,_,_,_,_,U⟩
section
variable{Ψ:ß->Prop}{J a:Jd}{l:e7}{t:Array Ï}{ba all np:Nat}{qs dv:Ï}
def ahD(d:jY l)(a:Gf ba all np n qs t)(e:∀c,ST ba all np n 0 qs (Æ Á 0 0) c->ff Ä Ò J l (AQ c qX)):ff Ä Ò J l (Ge v x z jQ b i<|Da t::qX):=by
 obtain⟨m,o,f,p,q,r,s,u,g,w,h,j,k,y,B,C,D,E,F,G,H,I,K,L,M,N,O,P,Q,S,T,V,W,X,Y,qH,qI,s8,s9,td,tf,tg,tj,tq,tu,tw,pj,pn,vZ,rfl⟩:=Gi t a.Cm;obtain rfl:f=Ê Î n:=by simpa using a.t2
 obtain rfl:g=À (Â ⟨ba,0,Á⟩):=by simpa using a.t8
 obtain rfl:h=qs:=by simpa using a.ahB
 obtain rfl:j=À (Â ⟨np,0,Á⟩):=by simpa using a.ahC
 obtain rfl:k=À (Â ⟨all,0,Á⟩):=by simpa using a.Ql
 apply fZ (n:=40) d;have hF:=trivial;simp only[Ge,Da,XP];iterate 2 w_go fA
 u_leave0 Ħ fA hF
 simp only[sA,XQ,XR];iterate 13 w_go fA
 refine Ë λ_ _=> ?_;exact e _ ⟨U,U,U,U,U,U,U,U⟩
theorem ahE(d:jY l)(a:ST ba all np n j qs dv t)(q:j<1000)(e:∀c,ST ba all np n (j+1) qs dv c->ff Ä Ò J l (AQ c qX)):ff Ä Ò J l (Ge v x z jQ b i<|JL t::qX):=by
 obtain⟨r,s,u,w,y,B,C,D,f,E,g,h,k,m,F,G,H,I,K,L,M,N,O,P,Q,S,T,o,p,V,W,X,Y,rN,rO,qH,qI,s8,s9,td,tf,tg,tj,tq,tu,tw,pj,pn,vZ,rfl⟩:=Gi t a.r;obtain rfl:f=À (Â ⟨ba,0,Á⟩):=by simpa using a.a
 obtain rfl:g=qs:=by simpa using a.C
 obtain rfl:h=À (Â ⟨np,0,Á⟩):=by simpa using a.I
 obtain rfl:k=À (Â ⟨all,0,Á⟩):=by simpa using a.M
 obtain rfl:m=dv:=by simpa using a.N
 obtain rfl:o=Ê Î n:=by simpa using a.S
 obtain rfl:p=Ê Î j:=by simpa using a.Y
 apply fZ (n:=40) d;have hF:=trivial;simp only[Ge,JL,JF];iterate 2 w_go fA
 u_leave0 Ħ fA hF
 simp only[Qk];iterate 7 w_go fA
 refine Ë λ_ _=> ?_;refine e _ ⟨U,U,U,U,U,U,U,?_⟩;simp;grind [AH]
end
section
variable{l l' y:e7}
def fY.fX(h:fY X l l')(s:gp l){p off:Nat}(c:l.w.heap.size<=p):fY X l {l' with w:=l'.w.setCell ⟨p,off,Á⟩ v}:=by
 have b:∀j,j<l.w.heap.size->(l'.w.setCell ⟨p,off,Á⟩ v).heap[j]?=l'.w.heap[j]?:=λj e=>kR (by show j≠p;omega);refine⟨h.O,h.c,h.S,h.Y,h.b,h.K,h.q,h.d,λj q=> ?_,?_,λj q n=>(b j<|s.fq j q).trans<|h.r j q n,λa q=>(gF<|b _<|s.I a q).trans<|h.f a q,λa q=>rH.trans<|h.g a q,λa q z=>xI<|h.e a q z⟩
 .show j<(l'.w.setCell ⟨p,off,Á⟩ v).heap.size;rw[jM];exact h.fq j q
 .show l.w.heap.size<=(l'.w.setCell ⟨p,off,Á⟩ v).heap.size;rw[jM];exact h.I
structure gV(l:e7)(b:Nat)(o:Ÿ):Prop where
 fi:l.O b
 I:l.w.heap[b]?=Â o
def gV.r{o:Ÿ}(h:gV l b o)(k:fY X l l')(a:¬X b):gV l' b o:=⟨k.O b h.fi,(k.r b (Ã h.fi) a).trans h.I⟩
def gV.C(h:gV l b (É d e xJ))(a:d[i]?=Â v):l.w.cell? ⟨b,i,Á⟩=Â v:=by simp[Ö,h.I,a]
end
def XV{sz:Nat}{xs:List Ï}(h:w.ownsRow i e sz v n xs)(a:w.heap.size<=b):¬(Â b=v.ownBlock):=λq=>by have:=(h.lt b q.symm).2;omega
structure XW(ba all q:Nat)(AS:Ï)(xs:List Ï)(ch bd bw bf:Nat)(l':e7):Prop where
 S:l'.w.ownsRow 0 101 1 AS xs.length xs
 M:∀k,AS.ownBlock=Â k->l'.O k
 r:gV l' ch (ŕ q #[] Ì 0 0 Ì)
 C:gV l' bd (É #[è<|Â ch] 101)
 N:gV l' bw (É #[À<|Â ⟨all,0,Á⟩] 162)
 I:gV l' bf (É #[Ĉ (ù 50) #[] #[À<|Â ⟨bd,0,Á⟩,À<|Â ⟨ba,0,Á⟩]] 1)
section
variable{g:Jd}{l:e7}{ba all q:Nat}{f:Option â}{xs:List Ï}
def ahF(t:gp l)(E:¬l.q)(hd:l.d=0)(F:ST ba all m n j (Æ f q i) x d)(uM:j<n)(hn:n<1000)(AT:q<1000)(JN:l.K ⟨all,0,Á⟩/\l.K ⟨all,1,Á⟩)(F3:mP all l.w) (kY:l.w.ownsRow 0 101 1 x j xs) (hO:∀k,x.ownBlock=Â k->l.O k) (hJ0:∀l' t' a r y Q B v1,fY (λb=>Â b=x.ownBlock) l l'->ST ba all m n j (Æ f q i) B t'->XW ba all q B (xs++[è<|Â a]) a r y Q l'->l.w.heap.size<=a->a<r->r<y->y<Q->(∀k,B.ownBlock=Â k->k≠a/\k≠r/\k≠y/\k≠Q)->g l' (AR (À<|Â ⟨all,0,Á⟩) v1 (À<|Â ⟨all,0,Á⟩) (ñ #[]) y Q<|JL t'::qX)): ff Ä Ò (Jq Ä Ò all g) l (AQ d qX):=by
 obtain⟨y0,y1,y2,y3,y4,y5,y6,y7,y8,y9,wj,yn,wm,qL,rQ,p6,uT,uU,tB,tC,tD,rR,rS,rT,qF,rM,qG,oJ,nI,pe,pf,pg,s7,rN,rO,qH,qI,s8,s9,td,tf,tg,tj,tq,tu,tw,pj,pn,vZ,rfl⟩:=Gi d F.r;obtain rfl:y8=À (Â ⟨ba,0,Á⟩):=by simpa using F.a
 obtain rfl:wj=Æ f q i:=by simpa using F.C
 obtain rfl:yn=À (Â ⟨m,0,Á⟩):=by simpa using F.I
 obtain rfl:wm=À (Â ⟨all,0,Á⟩):=by simpa using F.M
 obtain rfl:x=qL:=(show qL=x by simpa using F.N).symm;obtain rfl:oJ=Ê Î n:=by simpa using F.S
 obtain rfl:nI=Ê Î j:=by simpa using F.Y
 have arX:(j:Int)<(n:Int):=Z
 have hF:True:=trivial;apply fZ (n:=40) t.r;simp only[AQ,C9,Qj,XS];repeat w_go fA
 refine Ë λ_ _=> ?_;have Db:Ä.info? 155=Â Ą:=ļ;refine qa (V:=λp=>è<|Â p) (ob:=ŕ q #[] Ì 0 0 Ì) U U (by k_ne) t.r E (λw=> ?_) (λw=> ?_) λJ mM=> ?_
 .have C:=run_makeChan (P:=Ä) (w:=w) Ĵ Db Î q Z (by simp[Ą];omega);go_simp
 .simp[go_sem,(events_makeChan (P:=Ä) (w:=w) Ĵ Db Î q Z (by simp[Ą];omega) #[])]
 walk_nrm;have p7:fY e9 l (gJ l J<|ŕ q #[] Ì 0 0 Ì):=nK t mM;have c1:gV (gJ l J<|ŕ q #[] Ì 0 0 Ì) J.heap.size (ŕ q #[] Ì 0 0 Ì):=⟨Ç U,nn⟩;have XX:l.w.heap.size<=J.heap.size:=mM.r;generalize gJ l J (ŕ q #[] Ì 0 0 Ì)=l₁ at p7 c1|-;generalize J.heap.size=a at c1 XX|-;have wx:=p7.N t;have XY:¬l₁.q:=by rwa[p7.q]
 refine qa (V:=λp=>À<|Â ⟨p,0,Á⟩) (ob:=É #[è Á] 101) U U (by k_ne) wx.r XY (λw=>by go_simp) (λw=>by simp[go_sem]) λS qN=> ?_;walk_nrm;have yt:fY e9 l (gJ l₁ S<|É #[è Á] 101):=p7.fc<|nK wx qN;have c2:=c1.r (nK (X:=e9) (ob:=É #[è Á] 101) wx qN) id;have G:gV (gJ l₁ S<|É #[è Á] 101) S.heap.size (É #[è Á] 101):=⟨Ç U,nn⟩;have Il:a<S.heap.size:=È (wx.fq a<|Ã c1.fi) qN.r;generalize gJ l₁ S (É #[è Á] 101)=l₂ at yt c2 G|-;generalize S.heap.size=r at G Il|-;clear c1 p7 XY wx qN l₁;have qO:=yt.N t;have pw:¬l₂.q:=by rwa[yt.q]
 refine F4 (p:=r) (off:=0) (v:=è<|Â a) (u:=è Á) U U (by k_ne) qO.r pw G.fi (G.C U) (by simp[î,G.I]) U (λw o s=>by go_simp) (λw o s=>by simp[go_sem,o,s]) ?_;have L:fY e9 l {l₂ with w:=l₂.w.setCell ⟨r,0,Á⟩ (è<|Â a)}:=yt.fX t Z;have c3:gV {l₂ with w:=l₂.w.setCell ⟨r,0,Á⟩ (è<|Â a)} a (ŕ q #[] Ì 0 0 Ì):=⟨c2.fi,(kR<|by show a≠r;omega).trans c2.I⟩;have T:gV {l₂ with w:=l₂.w.setCell ⟨r,0,Á⟩ (è<|Â a)} r (É #[è<|Â a] 101):=⟨G.fi,by show(l₂.w.setCell ⟨r,0,Á⟩<|è<|Â a).heap[r]?=_;unfold þ;simp[í,G.I]⟩;generalize({l₂ with w:=l₂.w.setCell ⟨r,0,Á⟩ (è<|Â a)}:e7)=j5 at L c3 T|-;clear c2 G yt qO pw l₂;have M:=L.N t;have wo:¬j5.q:=by rwa[L.q]
 have Dc:∀k,x.ownBlock=Â k->j5.O k:=λk e=>L.O k<|hO k e;have JO:j5.w.ownsRow 0 101 1 x j xs:=oM kY λk e=>L.r k (Ã<|hO k e) id;apply fZ (n:=10) M.r;simp only[XT,JF];iterate 4 w_go fA
 refine Ë λ_ _=> ?_;apply nJ (x:=⟨r,0,Á⟩) U U (by k_ne) M.r wo (Ã<|Ã T.fi) (T.C U) (λw h=>by go_simp) (λw h=>by simp[go_sem,h]);walk_nrm;refine qa (V:=λp=>Æ (Â ⟨p,0,Á⟩) 1 1) (ob:=É #[è<|Â a] 101) U U (by k_ne) M.r wo (λw=>by go_simp) (λw=>by simp[go_sem]) λH AU=> ?_;walk_nrm;have AP:fY e9 l (gJ j5 H<|É #[è<|Â a] 101):=L.fc<|nK M AU;have k4:=nK (X:=e9) (ob:=É #[è<|Â a] 101) M AU;have c4:=c3.r k4 id;have d4:=T.r k4 id;have W:gV (gJ j5 H<|É #[è<|Â a] 101) H.heap.size (É #[è<|Â a] 101):=⟨Ç U,nn⟩;have XO:r<H.heap.size:=È (M.fq r<|Ã T.fi) AU.r;have tH:∀k,x.ownBlock=Â k->(gJ j5 H<|É #[è<|Â a] 101).O k:=λk e=>Ã<|Dc k e;have AV:=oM JO (w₁:=(gJ j5 H<|É #[è<|Â a] 101).w) λk e=>k4.r k (Ã<|Dc k e) id;generalize gJ j5 H (É #[è<|Â a] 101)=l₄ at AP c4 d4 W tH AV|-;generalize H.heap.size=px at W XO|-;clear c3 T L M wo Dc JO k4 AU j5;have yu:=AP.N t;have AW:¬l₄.q:=by rwa[AP.q]
 refine Qi (v:=x) (us:=[è<|Â a]) (px:=px) (c:=1) (n:=j) (xs:=xs) (inf:=Δ) (z:=è Á) U U (by k_ne) yu AW U U U Tryz.underlying100 Tryz.type101 U U Nat.one_pos U U (by simp[Δ];omega) (by simp only[œ];omega) AV tH W.fi (ahy<|W.C U) (λ_ C=>List.mem_singleton.1 C▸rfl) λY B N AX rF Gj AY tF=> ?_;walk_nrm;have XZ:∀b,l.w.heap.size<=b->¬(Â b=x.ownBlock):=λb hb=>XV kY hb;have k5:fY (λb=>Â b=x.ownBlock) l₄ (nL l₄ Y N):=Qh yu AX Gj λk e=>⟨tH k e,e.symm⟩;have uX:fY (λb=>Â b=x.ownBlock) l (nL l₄ Y N):=(AP.fI λ_ _ q=>q.elim).fc k5;have c5:=c4.r k5<|XZ a Z;have d5:=d4.r k5<|XZ r Z;have hl4:px<Y.heap.size:=È (yu.fq px<|Ã W.fi) AX.r;have JP:∀k,B.ownBlock=Â k->k<N.heap.size/\k≠a/\k≠r:=λk e=>by
  have C:=(rF.lt k e).2;rcases tF with z|z
  .rw[z]at e;have:=(kY.lt k e).2;exact⟨C,Z,Z⟩
  .rw[z]at e;obtain rfl:=Ó e;exact⟨C,Z,Z⟩
 have wy:(nL l₄ Y N).w.ownsRow 0 101 1 B (j+1) (xs++[è<|Â a]):=rF;have Qm:(nL l₄ Y N).w.heap.size=N.heap.size:=U;generalize nL l₄ Y N=rV at uX c5 d5 wy AY Qm|-;rw[<-Qm]at JP;clear k5 Gj rF tF c4 d4 W AP yu AW tH AV AX l₄ Qm;have qR:=uX.N t;have X0:¬rV.q:=by rwa[uX.q]
 apply fZ (n:=20) qR.r;iterate 4 w_go fA
 u_call Ħ fP Μ fA hF
 iterate 2 w_go fA
 refine Ë λ_ _=> ?_;refine qa (V:=λp=>À<|Â ⟨p,0,Á⟩) (ob:=É #[À<|Â ⟨all,0,Á⟩] 162) U U (by k_ne) qR.r X0 (λw=>by go_simp) (λw=>by simp[go_sem]) λC JQ=> ?_;walk_nrm;have k6:=nK (X:=e9) (ob:=É #[À<|Â ⟨all,0,Á⟩] 162) qR JQ;have AZ:fY (λb=>Â b=x.ownBlock) l (gJ rV C<|É #[À<|Â ⟨all,0,Á⟩] 162):=uX.fc (k6.fI λ_ _ q=>q.elim);have c6:=c5.r k6 id;have d6:=d5.r k6 id;have g6:gV (gJ rV C<|É #[À<|Â ⟨all,0,Á⟩] 162) C.heap.size (É #[À<|Â ⟨all,0,Á⟩] 162):=⟨Ç U,nn⟩;have A0:r<C.heap.size:=È (qR.fq r<|Ã d5.fi) JQ.r;have Gk:∀k,B.ownBlock=Â k->k<C.heap.size/\k≠a/\k≠r:=λk e=>⟨È (JP k e).1 JQ.r,(JP k e).2⟩;have JR:∀k,B.ownBlock=Â k->(gJ rV C<|É #[À<|Â ⟨all,0,Á⟩] 162).O k:=λk e=>Ã<|AY k e;have Qo:=oM wy (w₁:=(gJ rV C<|É #[À<|Â ⟨all,0,Á⟩] 162).w) λk e=>k6.r k (Ã<|AY k e) id;generalize gJ rV C (É #[À<|Â ⟨all,0,Á⟩] 162)=A1 at AZ c6 d6 g6 JR Qo|-;generalize C.heap.size=y at g6 A0 Gk|-;clear k6 c5 d5 uX qR X0 AY wy JP JQ rV;have JS:=AZ.N t;have X1:¬A1.q:=by rwa[AZ.q]
 refine qa (V:=λp=>À<|Â ⟨p,0,Á⟩) (ob:=É #[Ĉ (ù 50) #[] #[À<|Â ⟨r,0,Á⟩,À<|Â ⟨ba,0,Á⟩]] 1) U U (by k_ne) JS.r X1 (λw=>by go_simp) (λw=>by simp[go_sem]) λI Qp=> ?_;walk_nrm;have k7:=nK (X:=e9) (ob:=É #[Ĉ (ù 50) #[] #[À<|Â ⟨r,0,Á⟩,À<|Â ⟨ba,0,Á⟩]] 1) JS Qp;have D:fY (λb=>Â b=x.ownBlock) l (gJ A1 I<|É #[Ĉ (ù 50) #[] #[À<|Â ⟨r,0,Á⟩,À<|Â ⟨ba,0,Á⟩]] 1):=AZ.fc (k7.fI λ_ _ q=>q.elim);have c7:=c6.r k7 id;have d7:=d6.r k7 id;have g7:=g6.r k7 id;have f7:gV (gJ A1 I<|É #[Ĉ (ù 50) #[] #[À<|Â ⟨r,0,Á⟩,À<|Â ⟨ba,0,Á⟩]] 1) I.heap.size (É #[Ĉ (ù 50) #[] #[À<|Â ⟨r,0,Á⟩,À<|Â ⟨ba,0,Á⟩]] 1):=⟨Ç U,nn⟩;have JU:y<I.heap.size:=È (JS.fq y<|Ã g6.fi) Qp.r;have Qq:∀k,B.ownBlock=Â k->(gJ A1 I<|É #[Ĉ (ù 50) #[] #[À<|Â ⟨r,0,Á⟩,À<|Â ⟨ba,0,Á⟩]] 1).O k:=λk e=>Ã<|JR k e;have X2:=oM Qo (w₁:=(gJ A1 I<|É #[Ĉ (ù 50) #[] #[À<|Â ⟨r,0,Á⟩,À<|Â ⟨ba,0,Á⟩]] 1).w) λk e=>k7.r k (Ã<|JR k e) id;generalize gJ A1 I (É #[Ĉ (ù 50) #[] #[À<|Â ⟨r,0,Á⟩,À<|Â ⟨ba,0,Á⟩]] 1)=A2 at D c7 d7 g7 f7 Qq X2|-;generalize I.heap.size=Q at f7 JU|-;clear k7 c6 d6 g6 AZ JS X1 JR Qo Qp A1;have JV:=D.N t;apply fZ (n:=10) JV.r;iterate 3 w_go fA
 refine Ë λ_ _=> ?_;apply nJ (x:=⟨y,0,Á⟩) U U (by k_ne) JV.r (by rwa[D.q]) (Ã<|Ã g7.fi) (g7.C U) (λw h=>by go_simp) (λw h=>by simp[go_sem,h]);walk_nrm;apply fZ (n:=10) JV.r;u_call pY.f_add (nm_add Lk) addFn fA hF;refine Ë λ_ _=> ?_;refine Xo pY (⟨Ã (by rw[D.K];exact JN.1),Ã (by rw[D.K];exact JN.2),λw J o s h3 h4 h5 h=>h.fc ⟨o,s,h3,h4,h5⟩⟩) (⟨JV.r,⟨D.e _ JN.1 F3.1,D.e _ JN.2 F3.2⟩,fE.fQ _ _⟩) (D.d.trans hd) λX3 X4=> ?_;walk_nrm;apply fZ (l:={A2 with d:=0,w:=X3}) (n:=10) X4.1;iterate 3 w_go fA
 refine Ë λ_ _=> ?_;refine .fv λyv rW=> ?_;have rr:fE A2 A2.w yv:=X4.2.2.fc ⟨rW.r,rW.I,rW.N,rW.Y,rW.S⟩;have s:=D.G rr;have hA9:fY (λb=>Â b=x.ownBlock) l ({A2 with d:=0,w:=yv}:e7):=⟨s.O,s.c,s.S,s.Y,s.b,s.K,s.q,hd.symm,s.fq,s.I,s.r,s.f,s.g,s.e⟩;have at9:∀{b:Nat} {o:Ÿ},gV A2 b o->gV ({A2 with d:=0,w:=yv}:e7) b o:=λh=>⟨h.fi,(rr.I _<|Ã h.fi).trans h.I⟩;have hlen:(xs++[è<|Â a]).length=j+1:=by have:=kY.1;simp;omega
 refine hJ0 {A2 with d:=0,w:=yv} _ a r y Q B _ hA9 ⟨U,U,U,U,U,U,U,U⟩ ⟨?_,Qq,at9 c7,at9 d7,at9 g7,at9 f7⟩ XX Il A0 JU λk e=>⟨(Gk k e).2.1,(Gk k e).2.2,by have:=(Gk k e).1;omega,by have:=(Gk k e).1;omega⟩;rw[hlen];exact oM X2 λk e=>rr.I k<|Ã<|Qq k e
end
def rX(l:e7)(b:Nat):e7:={l with O:=λj=>l.O j/\j≠b,K:=λa=>l.K a\/a=⟨b,0,Á⟩\/a=⟨b,1,Á⟩}
def mJ(l x:e7)(b:Nat):e7:={x with O:=λj=>x.O j\/j=b,K:=l.K}
section
variable{S:Jd}{l:e7}
def ff.Qr(W:∀a,l.K a->a.block≠b){x:e7}(h:ff P yQ S x g):¬x.M b->(∀a,x.C a->a.block≠b)->x.K=(rX l b).K->b<x.w.heap.size->(x.w.cell? ⟨b,0,Á⟩).isSome=Ò->(x.w.cell? ⟨b,1,Á⟩).isSome=Ò->jY x-> ff P yQ (λG H=>∃d,S d H/\G=mJ l d b/\¬d.M b/\(∀a,d.C a->a.block≠b)/\d.K=(rX l b).K/\b<d.w.heap.size/\d.w.heap[b]?=x.w.heap[b]?/\d.q=x.q/\jY d) (mJ l x b) g:=by
 have u:∀{x:e7} {c:ß},x.K=(rX l b).K->(x.w.cell? ⟨b,0,Á⟩).isSome=Ò->(x.w.cell? ⟨b,1,Á⟩).isSome=Ò->fE (mJ l x b) x.w c->fE x x.w c:=λ{x c} f i m r=>
  ⟨r.r,λj p=>r.I j<|p.imp Ã id,r.N,r.Y,λa o q=>by
   rw[f]at o;rcases o with z|z|z
   .exact r.S a z q
   .rw[z,gF<|r.I b<|Ã<|Ç U];exact i
   .rw[z,gF (r.I b (Ã (Ç U)))];exact m⟩
 induction h with
 |@fv x g h=>
  intro s t f v i m I;refine .fv λc r=>⟨{x with w:=c},h c<|u f i m r,U,s,t,f,È v r.r,r.I b<|Ã<|Ç U,U,lZ I<|u f i m r⟩
 |@jB x g G' W' E' L' iD h hd _ ih=>
  intro s t f v i m I;refine .mk iD λc r=> ?_;have B:=u f i m r;have D:=hd c B;have E:=È v r.r;have J:=λq=>s<|Ã q;have L:=D.jH b E J λa e q=>t a (Ã q) e;have F:(L' c).w.heap[b]?=x.w.heap[b]?:=by rw[D.b];exact L.trans<|r.I b<|Ã<|Ç U
  refine⟨G' c,W' c,E' c,mJ l (L' c) b,h c B,?_,?_⟩
  .refine⟨D.C,λj q=> ?_,λj q=> ?_,D.I,D.r,D.M,U,λj p y n=>D.jH j p (λq=>y<|Ã q) n,λa o y n=>D.N a o (λq=>y<|Ã q) n,λa o y=>D.Y a o λq=>y<|Ã q,D.f,D.g,D.m,λe N=> ?_,D.h,D.q,λq=> ?_,D.b⟩
   .rcases q with q|q
    .exact(D.S j q).imp Ã id
    .exact Ã<|Ç q
   .rcases q with q|q
    .exact D.fq j q
    .rw[q];exact È E D.C
   .rcases D.c e N with⟨a,y,n⟩|h|h|h|h|⟨a,y,n⟩
    .exact Ã ⟨a,y,n.imp Ã id⟩
    .exact Ç<|Ã h
    .exact Ç<|Ç<|Ã h
    .exact Ç<|Ç<|Ç<|Ã h
    .exact Ç<|Ç<|Ç<|Ç<|Ã h
    .exact Ç<|Ç<|Ç<|Ç<|Ç ⟨a,Ã y,n⟩
   .let⟨Q,T,V⟩:=D.i q;exact⟨Q,T,by funext j;show((L' c).O j\/j=b)=(x.O j\/j=b);rw[V]⟩
  .refine(ih c B (λq=>q.elim (λz=>(D.S b z).elim J λy=>by omega) λz=>s<|Ç<|by rw[<-D.I];exact z) (λa q=>t a<|q.imp (by rw[D.r];exact id)<|by rw[D.M];exact id) (D.k.trans f) (by rw[D.b];exact È E D.C) (by rw[gF F];exact i) (by rw[gF F];exact m) λj p=>by rw[D.b];exact D.fq j p).fI ?_;rintro G H ⟨d,y,e,j,n,o,p,z,N,Q⟩;exact⟨d,y,e,j,n,o,p,z.trans F,N.trans D.q,Q⟩
end
section
variable{L:WgLink}{l:e7}{J:Jd}{c:é}{k:List ŷ}{ty:ŭ}
structure ahG(b:Nat)(cc:Array Ï)(ty:ŭ)(l l':e7):Prop where
 r:fY (λj=>j=b) l l'
 O:l'.O=l.O
 C:l'.w.heap[b]?=Â (É (cc.setIfInBounds 0<|Ê ê 4294967296) ty)
theorem X5(a:l.O b)(w:ß)(d:Nat):mJ l {rX l b with d:=d,w:=w} b={l with d:=d,w:=w}:=by
 have:(λj=>(l.O j/\j≠b)\/j=b)=l.O:=by grind
 unfold mJ rX;simp only[this]
def X6{C:Array Ï}(H:WgLib P L)(s:gp l)(hq:¬l.q)(Y:l.d=0)(x:l.O b)(M:l.w.heap[b]?=Â (É C ty))(N:C[0]?=Â (Ê ê 0))(o:(C[1]?).isSome=Ò) (hT:∀B,ahG b C ty l B->ff P yQ J B (G (c.at (y.put ((Q[i]?).bind (·.dst))<|ñ #[])<|Ñ Q jJ::k) qX)): ff P yQ J l (G ((base L.add).at ⟨#[À<|Â ⟨b,0,Á⟩,Ê Î 1,Å,Å,Å,Å,Å,Å,Å,Å,Å,Å,Å,Å,Å,Å,Å,Å,Å,Å,Å,Å,Å,Å,Å,Å,Å,Å,Å,Å,Å,Å,Å,Å,Å,Å,Å,Å,Å,Å,Å,Å,Å,Å,Å,Å,Å,Å,Å,Å,Å,Å,Å,Å,Å,Å,Å,Å,Å,Å,Å,Å,Å,Å,Å,Å,Å,Å,Å,Å,Å,Å,Å,Å,Å,Å,Å,Å,Å,Å,Å,Å,Å,Å,Å,Å,Å,Å,Å,Å,Å,Å,Å,Å,Å,Å,Å,Å,Å,Å,Å,Å,Å,Å,Å,Å,Å,Å,Å,Å,Å,Å,Å,Å,Å,Å,Å],[]⟩ [ö<|body_add L])<|c.at y (Ñ Q (i::jJ)::k)::qX):=by
 have e0:l.w.cell? ⟨b,0,Á⟩=Â (Ê ê 0):=by simp[Ö,M,N]
 have e1:(l.w.cell? ⟨b,1,Á⟩).isSome=Ò:=by let⟨u,D⟩:=Ô.1 o;simp[Ö,M,D]
 have S:∀y:â,l.K y->y.block≠b:=λy T e=>(s.S y T).1<|Ã<|e▸x;let J1:Jd:=λB g'=>g'=G (c.at (y.put ((Q[i]?).bind (·.dst))<|ñ #[])<|Ñ Q jJ::k) qX/\B={rX l b with d:=0,w:=B.w}/\fE (rX l b) l.w B.w
 have hW:ff P yQ (Jq P yQ b J1) (rX l b) (G ((base L.add).at ⟨#[À<|Â ⟨b,0,Á⟩,Ê Î 1,Å,Å,Å,Å,Å,Å,Å,Å,Å,Å,Å,Å,Å,Å,Å,Å,Å,Å,Å,Å,Å,Å,Å,Å,Å,Å,Å,Å,Å,Å,Å,Å,Å,Å,Å,Å,Å,Å,Å,Å,Å,Å,Å,Å,Å,Å,Å,Å,Å,Å,Å,Å,Å,Å,Å,Å,Å,Å,Å,Å,Å,Å,Å,Å,Å,Å,Å,Å,Å,Å,Å,Å,Å,Å,Å,Å,Å,Å,Å,Å,Å,Å,Å,Å,Å,Å,Å,Å,Å,Å,Å,Å,Å,Å,Å,Å,Å,Å,Å,Å,Å,Å,Å,Å,Å,Å,Å,Å,Å,Å,Å,Å,Å,Å,Å],[]⟩ [ö<|body_add L])<|c.at y (Ñ Q (i::jJ)::k)::qX):=by refine Xo (Ψ:=λw=>fE (rX l b) l.w w) H ⟨Ã<|Ç<|Ã U,Ã<|Ç<|Ç U,λw n o t a g m h=>h.fc ⟨o,t,a,g,m⟩⟩ ⟨λj f=>s.fq j<|Ã f.1,⟨by rw[show(rX l b).w=l.w from rfl,e0];rfl,e1⟩,fE.fQ _ _⟩ Y λn v=> .fv λp r=>⟨U,U,v.2.2.fc ⟨r.r,r.I,r.N,r.Y,r.S⟩⟩
 have hstart:=hW.Qr S (λq=>q.elim (λz=>z.2 U) λz=>s.c b x z) (λy T e=>s.N y T<|Ã<|e▸x) U (s.fq b<|Ã x) (by rw[show(rX l b).w=l.w from rfl,e0];rfl) e1 λj f=>s.fq j<|Ã f.1;rw[show mJ l (rX l b) b=l from X5 x l.w l.d]at hstart;apply hstart.lE;rintro l1 g1 ⟨E,⟨A3,ahH,hA⟩,rfl,X7,X8,sY,hlt1,mQ,AT,lo1⟩;let⟨g2,X9,V⟩:=hA 0;have rK:ê.wrap (0+fT)=fT:=by rw[show(0:Int)+fT=fT from rfl];exact IL A A
 rw[rK]at V X9;rw[if_pos U]at V;have hqx:¬E.q:=by rwa[AT]
 refine .mk ahH λn r=> ?_;have F:=(r.I b<|Ã<|Ç U).trans<|mQ.trans M;have c0:n.cell? (fH b)=Â (Ê ê 0):=by simp[Ö,fH,F,N]
 have arY:=È hlt1 r.r;have W:(n.setCell (fH b)<|Ê ê fT).heap[b]?=Â (É (C.setIfInBounds 0<|Ê ê 4294967296) ty):=by unfold þ;simp[í,fH,F,fT]
 have rx:fE E E.w (n.setCell (fH b)<|Ê ê fT):=by
  refine⟨by rw[jM];exact r.r,λj f=>((kR λe=>X7 (by have t:j=b:=e;rwa[<-t])).trans<|r.I j<|f.imp Ã id),λa g=>(gF<|kR<|X8 a g).trans<|r.N a g,λa g=>rH.trans<|r.Y a g,λa g q=> ?_⟩
  .rw[sY]at g;refine xI ?_;rcases g with z|z|z
   .exact r.S a z q
   .rw[z,gF<|r.I b<|Ã<|Ç U];rwa[z]at q
   .rw[z,gF<|r.I b<|Ã<|Ç U];rwa[z]at q
 refine⟨g2,_,_,mJ l {E with w:=n.setCell (fH b) (Ê ê fT)} b,X9 n c0 (by simp[î,fH,F]),?_,?_⟩
 .refine⟨by rw[jM];exact Ú _,λ_ h=>Ã h,λj h=> ?_,U,U,U,U,λj _ o _=>kR λe=>o<|Ç e,λa _ o _=>gF (kR λe=>o<|Ç e),λ_ _ _=>Nk,U,U,U,λe t=> ?_,?_,U,λq=>absurd q hqx,U⟩
  .rw[jM];rcases h with h|h
   .exact È (lo1 j h) r.r
   .rwa[h]
  .have:e=kh (fH b)\/e=mq (fH b):=by simpa using t
   rcases this with rfl|rfl
   .exact Ã ⟨fH b,U,Ã<|Ç U⟩
   .exact Ã ⟨fH b,U,Ã<|Ç U⟩
  .exact(Ņ (λe t=>by
    have:e=kh (fH b)\/e=mq (fH b):=by simpa using t
    rcases this with rfl|rfl<;>exact⟨by simp[kh,mq],by simp[kh,mq]⟩) _).symm
 have z1:((n.setCell (fH b)<|Ê ê fT).cell? ⟨b,1,Á⟩).isSome=Ò:=by let⟨u,D⟩:=Ô.1 o;exact xI<|by simp[Ö,F,D]
 have ahI:=(V.jO rx).Qr S X7 X8 sY (by show b<(n.setCell (fH b)<|Ê ê fT).heap.size;rwa[jM]) (xI<|by rw[show(⟨b,0,Á⟩:â)=fH b from rfl,c0];rfl) z1 (λj f=>by show j<(n.setCell (fH b)<|Ê ê fT).heap.size;rw[jM];exact È (lo1 j f) r.r);apply ahI.lE;rintro l2 g3 ⟨v,⟨oc,ahJ,g4,ahK,hN2⟩,rfl,nM2,nC2,yd,JX,X,pw,lo2⟩;have ahL:¬v.q:=by rwa[pw]
 refine .mk ahJ λp m=> ?_;have I:∀a:â,a.block=b->p.cell? a=v.w.cell? a:=λa e=>gF<|m.I a.block<|Ã<|Ç e;have rx2:fE v v.w p:=⟨m.r,λj f=>m.I j<|f.imp Ã id,m.N,m.Y,λa g q=>by
  rw[yd]at g;rcases g with z|z|z
  .exact m.S a z q
  .rwa[I a (by rw[z])]
  .rwa[I a (by rw[z])]⟩
 refine⟨g4,p,_,mJ l {v with w:=p} b,ahK p,?_,?_⟩
 .refine⟨Ú _,λ_ h=>Ã h,λj h=> ?_,U,U,U,U,λ_ _ _ _=>rfl,λ_ _ _ _=>rfl,λ_ _ _=>rfl,U,U,U,λe t=> ?_,?_,U,λq=>absurd q ahL,U⟩
  .rcases h with h|h
   .exact È (lo2 j h) m.r
   .rw[h];exact È JX m.r
  .have:e=jI (.read<|gQ b):=by simpa using t
   rw[this];exact Ç<|Ç<|Ç<|Ç<|Ç ⟨gQ b,Ç U,Ã U⟩
  .exact(Ņ (λe t=>by
    have:e=jI (.read<|gQ b):=by simpa using t
    rw[this];exact⟨by simp[jI],by simp[jI]⟩) _).symm
 have z:(p.cell? ⟨b,0,Á⟩).isSome=Ò:=by rw[I _ U];have:v.w.heap[b]?=_:=X.trans W;simp[Ö,this,(æ.1 N).1]
 have y1:(p.cell? ⟨b,1,Á⟩).isSome=Ò:=by rw[I _ U];have:v.w.heap[b]?=_:=X.trans W;let⟨u,D⟩:=Ô.1 o;simp[Ö,this,(æ.1 D).1]
 have u:=(hN2.jO rx2).Qr S nM2 nC2 yd (È JX m.r) z y1 λj f=>È (lo2 j f) m.r;apply u.lE;rintro l3 g5 ⟨x3,⟨rfl,D,t⟩,rfl,nM3,nC3,hk3,ahM,hb3,wo,lo3⟩;rw[D,X5 x];have Qs:=hb3.trans<|(m.I b<|Ã<|Ç U).trans<|X.trans W;refine hT _ ⟨⟨λ_ h=>h,λ_ h=>Ã h,U,U,U,U,U,Y.symm,λj f=>È (s.fq j<|Ã f) t.r,t.r,λj f hn=>t.I j (f.imp (λq=>⟨q,hn⟩) id),t.N,t.Y,λa g=>t.S a<|Ã g⟩,U,Qs⟩
end
noncomputable def Qt:Ę:=lu Ĝ [1,1,1]
noncomputable def Ya:Ę:=lu Ĝ [1,1,0,1,0,0,1,1,0,0,1,1,1]
noncomputable def Qu:Ę:=lu Ĝ [1,1,0,1,0,0,1,1,0,0,1,1,0,1]
noncomputable def Gl:Ę:=lu Ĝ [1,1,0,1,0,0]
noncomputable def Qv:Ę:=lu Ĝ [1,1,0,1,0,0,1,1,1]
noncomputable def A4 (t:Array Ï) (a:List é):Ý:=G ((base 46).at ⟨t,[]⟩ [ö Gl,ą Gl,ô 0,ö Qt]) a
noncomputable def Gm (t:Array Ï) (a:List é):Ý:=G ((base 46).at ⟨t,[]⟩ [ö Qu,ö Ya,ô 1,ö Qv,ą Gl,ô 0,ö Qt]) a
structure PT(iv qv rs:Ï)(lg R i:Nat)(t:Array Ï):Prop where
 r:t.size=48
 N:t[4]?=Â iv
 S:t[5]?=Â qv
 Y:t[6]?=Â (À<|Â ⟨lg,0,Á⟩)
 C:t[13]?=Â rs
 I:t[14]?=Â (Ê Î R)
 M:t[15]?=Â (Ê Î i)
def JY(t:Array Ï)(h:t.size=48):∃a b c d e f g i j k l m n o p q r s u v w x y z B C D E F G H I J K L M N O P Q S T V W X Y pj pn:Ï,t=#[a,b,c,d,e,f,g,i,j,k,l,m,n,o,p,q,r,s,u,v,w,x,y,z,B,C,D,E,F,G,H,I,J,K,L,M,N,O,P,Q,S,T,V,W,X,Y,pj,pn]:=by obtain⟨_,rfl⟩:=yk t h;exact⟨_,_,_,_,_,_,_,_,_,_,_,_,_,_,_,_,_,_,_,_,_,_,_,_,_,_,_,_,_,_,_,_,_,_,_,_,_,_,_,_,_,_,_,_,_,_,_,_,U⟩
def ahN(w:ß)(a c:Option â)(b:Int):(Ċ 155 #[(0,À a),(1,Ê Î b),(2,À c)]).run Ä w=.ok (Đ #[À a,Ê Î b,À c,À Á]) w:=run_build w 155 _ _ fP
def ahO(w:ß)(a c:Option â)(b:Int):(Ċ 155 #[(0,À a),(1,Ê Î b),(2,À c)]).events Ä w #[]=#[]:=by unfold Ċ;simp only[Sem.events_bind];simp[go_sem]
section
variable{p:Nat}{v0 v1 v2 v3:Ï}
def ahP(h:w.heap[p]?=Â (É #[v,x,z,jQ] e)):(iN w p v0 v1 v2 v3).heap[p]?=Â (É #[v0,v1,v2,v3] e):=by unfold iN þ;simp[í,h]
def fY.iN{l c:e7}(h:fY X l c)(s:gp l)(r:fE c c.w u)(f:l.w.heap.size<=p):fY X l {c with w:=fw.iN u p v0 v1 v2 v3}:=by
 have b:=h.G r;have e:∀{j:Nat},j<l.w.heap.size->(fw.iN u p v0 v1 v2 v3).heap[j]?=u.heap[j]?:=λ{j} q=>yj Z;refine⟨b.O,b.c,b.S,b.Y,b.b,b.K,b.q,b.d,λj q=> ?_,?_,λj q n=>(e<|s.fq j q).trans<|b.r j q n,λa q=>(gF<|e<|s.I a q).trans<|b.f a q,λa q=>(vK<|e<|s.I a q).trans<|b.g a q,λa q z=> ?_⟩
 .show j<(fw.iN u p v0 v1 v2 v3).heap.size;rw[wi];exact b.fq j q
 .show l.w.heap.size<=(fw.iN u p v0 v1 v2 v3).heap.size;rw[wi];exact b.I
 .show((fw.iN u p v0 v1 v2 v3).cell? a).isSome=Ò;rw[gF<|e (s.S a q).2.1];exact b.e a q z
def gV.rly{l:e7}{o:Ÿ}(h:gV l b o)(r:fE l l.w u):gV {l with w:=u} b o:=⟨h.fi,(r.I b<|Ã h.fi).trans h.I⟩
end
section
variable{J:Jd}{l:e7}{t:Array Ï}{iv qv:Ï}{lg R:Nat}{kd:Int}
def ahQ(f:gp l)(o:¬l.q)(k:PT iv qv (Æ (Â ⟨j,0,Á⟩) R n) lg R i t)(Yb:i<R)(hR:R<1000)(T:l.M j)(V:l.w.cell? ⟨j,i,Á⟩=Â (À<|Â ⟨b,0,Á⟩))(F:l.M b)(W:l.w.cell? ⟨b,4,Á⟩=Â (Ê Î kd)) (X:∀B u a,fY e9 l B->l.w.heap.size<=a->gV B a (É #[À<|Â ⟨b,0,Á⟩,Ê Î i,À<|Â ⟨lg,0,Á⟩,À Á] 155)->PT iv qv (Æ (Â ⟨j,0,Á⟩) R n) lg R i u->u[9]?=Â (À<|Â ⟨a,0,Á⟩)->u[28]?=Â (ŝ<|decide<|kd≠1)->ff Ä Ò J B (Gm u qX)): ff Ä Ò J l (A4 t qX):=by
 obtain⟨y0,y1,y2,y3,G,H,Y,y7,y8,y9,wj,yn,wm,qL,rQ,p6,uT,uU,tB,tC,tD,rR,rS,rT,qF,rM,qG,oJ,nI,pe,pf,pg,s7,rN,rO,qH,qI,s8,s9,td,tf,tg,tj,tq,tu,tw,pj,pn,rfl⟩:=JY t k.r;obtain rfl:iv=G:=(show G=iv by simpa using k.N).symm;obtain rfl:qv=H:=(show H=qv by simpa using k.S).symm;obtain rfl:Y=À (Â ⟨lg,0,Á⟩):=by simpa using k.Y
 obtain rfl:qL=Æ (Â ⟨j,0,Á⟩) R n:=by simpa using k.C
 obtain rfl:rQ=Ê Î R:=by simpa using k.I
 obtain rfl:p6=Ê Î i:=by simpa using k.M
 have arZ:(i:Int)<(R:Int):=Z
 have hF:True:=trivial;have qM:∀y:â,False->l.r y:=λy ha=>ha.elim;apply fZ (n:=40) f.r;simp only[A4];conv in Gl=>whnf
 repeat w_go fA
 refine Ë λ_ _=> ?_;apply nJ (x:=⟨j,i,Á⟩) U U (by k_ne) f.r o (Ã T) V (λw h=>by go_simp) (λw h=>by simp[go_sem,h]);walk_nrm;apply fZ (n:=40) f.r;repeat w_go fA
 refine Ë λ_ _=> ?_;refine uQ (v:=Đ #[À<|Â ⟨b,0,Á⟩,Ê Î i,À<|Â ⟨lg,0,Á⟩,À Á]) U U (by k_ne) f.r o (λc r=> ?_) (λc r e C=> ?_) ?_
 .have S:=ahN c (Â ⟨b,0,Á⟩) (Â ⟨lg,0,Á⟩) i;go_simp
 .simp[go_sem,ahO c (Â ⟨b,0,Á⟩) (Â ⟨lg,0,Á⟩) i]at C
 walk_nrm;refine FU (ob:=É #[À Á,Ê Î 0,À Á,À Á] 155) U U (by k_ne) f.r o (λw=>by go_simp) (λw=>by simp[go_sem]) λc D=> ?_;walk_nrm;have s:fY e9 l (gJ l c<|É #[À Á,Ê Î 0,À Á,À Á] 155):=nK f D;have m:gV (gJ l c<|É #[À Á,Ê Î 0,À Á,À Á] 155) c.heap.size (É #[À Á,Ê Î 0,À Á,À Á] 155):=⟨Ç U,nn⟩;have E:l.w.heap.size<=c.heap.size:=D.r;generalize gJ l c (É #[À Á,Ê Î 0,À Á,À Á] 155)=l₁ at s m|-;generalize c.heap.size=a at m E|-;have I:=s.N f;have K:¬l₁.q:=by rwa[s.q]
 refine uP U U (by k_ne) λd z=> ?_;have g:=m.rly z;replace g:d.heap[a]?=_:=g.I;have L:d.cell? ⟨a,0,Á⟩=Â (À Á):=by simp[Ö,g]
 have N:d.cell? ⟨a,1,Á⟩=Â (Ê Î 0):=by simp[Ö,g]
 have O:d.cell? ⟨a,2,Á⟩=Â (À Á):=by simp[Ö,g]
 have P:d.cell? ⟨a,3,Á⟩=Â (À Á):=by simp[Ö,g]
 have Q:∀r,d.frozen? ⟨a,r,Á⟩=Ì:=λr=>by simp[î,g]
 go_simp;refine⟨{l₁ with w:=iN d a (À<|Â ⟨b,0,Á⟩) (Ê Î i) (À<|Â ⟨lg,0,Á⟩) (À Á)},Jy (p:=a) (lZ I.r z) K m.fi wi (λr S=>yj S) ⟨U,U,U⟩ λe C=> ?_,?_⟩
 .have S:=đ C;have e:∀r,po l₁ ⟨a,r,Á⟩:=λr=>Ã m.fi;simp[go_sem,á _ _ _ _ _ _ (show Ø (À<|Â ⟨b,0,Á⟩)=Ò from rfl),á _ _ _ _ _ _ (show Ø (À<|Â ⟨lg,0,Á⟩)=Ò from rfl),á _ _ _ _ _ _ (show Ø (À Á)=Ò from rfl),L,N,O,P,Q]at S;rcases S with rfl|rfl|rfl|rfl
  .exact(e _).r
  .exact(e _).r
  .exact(e _).r
  .exact(e _).r
 have e:fY e9 l ({l₁ with w:=iN d a (À<|Â ⟨b,0,Á⟩) (Ê Î i) (À<|Â ⟨lg,0,Á⟩) (À Á)}:e7):=s.iN f z E;have S:gV ({l₁ with w:=iN d a (À<|Â ⟨b,0,Á⟩) (Ê Î i) (À<|Â ⟨lg,0,Á⟩) (À Á)}:e7) a (É #[À<|Â ⟨b,0,Á⟩,Ê Î i,À<|Â ⟨lg,0,Á⟩,À Á] 155):=⟨m.fi,ahP g⟩;generalize({l₁ with w:=iN d a (À<|Â ⟨b,0,Á⟩) (Ê Î i) (À<|Â ⟨lg,0,Á⟩) (À Á)}:e7)=l₂ at e S|-;clear m s I K g L N O P Q z d l₁ D c;have C:=e.N f;apply fZ (n:=20) C.r;repeat w_go fA
 refine Ë λ_ _=> ?_;apply nJ (x:=⟨b,4,Á⟩) U U (by k_ne) C.r (by rwa[e.q]) (Ã<|e.M F) ((gF<|e.r b F id).trans W) (λw h=>by go_simp) (λw h=>by simp[go_sem,h]);walk_nrm;apply fZ (n:=20) C.r;iterate 2 w_go fA
 refine Ë λ_ _=> ?_;apply X l₂ _ a e E S ⟨U,U,U,U,U,U,U⟩ U;simp;rfl
end
section
variable{J:Jd}{l:e7}{xs:List Ï}
def ahR(s:gp l)(E:¬l.q)(o:PT v x z b j i d)(Yb:i<j)(hR:j<1000)(h9:d[9]?=Â (À<|Â ⟨m,0,Á⟩))(Qw:d[28]?=Â (ŝ Ò))(hn:n<1000) (h:gV l m (É #[À<|Â ⟨k,0,Á⟩,Ê Î i,À<|Â ⟨b,0,Á⟩,À Á] 155)) (kY:l.w.ownsRow 0 155 4 x n xs) (K:∀a,x.ownBlock=Â a->l.O a) (hJ:∀B L t,fY (λf=>Â f=x.ownBlock) l B->B.w.ownsRow 0 155 4 t (n+1) (xs++[À<|Â ⟨k,0,Á⟩,Ê Î i,À<|Â ⟨b,0,Á⟩,À Á])->(∀a,t.ownBlock=Â a->B.O a)->(t.ownBlock=x.ownBlock\/∃a,t.ownBlock=Â a/\l.w.heap.size<=a)->PT v t z b j (i+1) L->ff Ä Ò J B (A4 L qX)): ff Ä Ò J l (Gm d qX):=by
 obtain⟨y0,y1,y2,y3,M,N,y6,y7,y8,y9,wj,yn,wm,P,rQ,p6,uT,uU,tB,tC,tD,rR,rS,rT,qF,rM,qG,oJ,nI,pe,pf,pg,s7,rN,rO,qH,qI,s8,s9,td,tf,tg,tj,tq,tu,tw,pj,pn,rfl⟩:=JY d o.r;obtain rfl:v=M:=(show M=v by simpa using o.N).symm;obtain rfl:x=N:=(show N=x by simpa using o.S).symm;obtain rfl:y6=À (Â ⟨b,0,Á⟩):=by simpa using o.Y
 obtain rfl:y9=À (Â ⟨m,0,Á⟩):=by simpa using h9
 obtain rfl:z=P:=(show P=z by simpa using o.C).symm;obtain rfl:rQ=Ê Î j:=by simpa using o.I
 obtain rfl:p6=Ê Î i:=by simpa using o.M
 obtain rfl:nI=ŝ Ò:=by simpa using Qw
 have hF:True:=trivial;apply fZ (n:=40) s.r;simp only[Gm];conv in Qu=>whnf
 conv in Qv=>whnf
 repeat w_go fA
 refine Ë λ_ _=> ?_;refine uQ (v:=Đ #[À<|Â ⟨k,0,Á⟩,Ê Î i,À<|Â ⟨b,0,Á⟩,À Á]) U U (by k_ne) s.r E (λp r=> ?_) (λp r e y=> ?_) ?_
 .skip;have C:p.cell? ⟨m,0,Á⟩=Â (À<|Â ⟨k,0,Á⟩):=(gS.r (show gS l ⟨m,0,Á⟩from Ã<|Ã h.fi) r).trans<|h.C U;have D:p.cell? ⟨m,1,Á⟩=Â (Ê Î i):=(gS.r (show gS l ⟨m,1,Á⟩from Ã<|Ã h.fi) r).trans<|h.C U;have F:p.cell? ⟨m,2,Á⟩=Â (À<|Â ⟨b,0,Á⟩):=(gS.r (show gS l ⟨m,2,Á⟩from Ã<|Ã h.fi) r).trans<|h.C U;have G:p.cell? ⟨m,3,Á⟩=Â (À Á):=(gS.r (show gS l ⟨m,3,Á⟩from Ã<|Ã h.fi) r).trans<|h.C U;go_simp
 .have u:∀g,gS l ⟨m,g,Á⟩:=λg=>Ã<|Ã h.fi;have C:p.cell? ⟨m,0,Á⟩=Â (À<|Â ⟨k,0,Á⟩):=(gS.r (show gS l ⟨m,0,Á⟩from Ã<|Ã h.fi) r).trans<|h.C U;have D:p.cell? ⟨m,1,Á⟩=Â (Ê Î i):=(gS.r (show gS l ⟨m,1,Á⟩from Ã<|Ã h.fi) r).trans<|h.C U;have F:p.cell? ⟨m,2,Á⟩=Â (À<|Â ⟨b,0,Á⟩):=(gS.r (show gS l ⟨m,2,Á⟩from Ã<|Ã h.fi) r).trans<|h.C U;have G:p.cell? ⟨m,3,Á⟩=Â (À Á):=(gS.r (show gS l ⟨m,3,Á⟩from Ã<|Ã h.fi) r).trans<|h.C U;simp[go_sem,C,D,F,G]at y;rcases y with rfl|rfl|rfl|rfl
  .exact(u _).C
  .exact(u _).C
  .exact(u _).C
  .exact(u _).C
 walk_nrm;refine qa (V:=λp=>Æ (Â ⟨p,0,Á⟩) 1 1) (ob:=É #[À<|Â ⟨k,0,Á⟩,Ê Î i,À<|Â ⟨b,0,Á⟩,À Á] 155) U U (by k_ne) s.r E (λw=>by go_simp) (λw=>by simp[go_sem]) λr Q=> ?_;walk_nrm;have p:=nK (X:=e9) (ob:=É #[À<|Â ⟨k,0,Á⟩,Ê Î i,À<|Â ⟨b,0,Á⟩,À Á] 155) s Q;have y:gV (gJ l r<|É #[À<|Â ⟨k,0,Á⟩,Ê Î i,À<|Â ⟨b,0,Á⟩,À Á] 155) r.heap.size (É #[À<|Â ⟨k,0,Á⟩,Ê Î i,À<|Â ⟨b,0,Á⟩,À Á] 155):=⟨Ç U,nn⟩;have C:∀a,x.ownBlock=Â a->(gJ l r<|É #[À<|Â ⟨k,0,Á⟩,Ê Î i,À<|Â ⟨b,0,Á⟩,À Á] 155).O a:=λa e=>Ã<|K a e;have F:=oM kY (w₁:=(gJ l r<|É #[À<|Â ⟨k,0,Á⟩,Ê Î i,À<|Â ⟨b,0,Á⟩,À Á] 155).w) λa e=>p.r a (Ã<|K a e) id;generalize gJ l r (É #[À<|Â ⟨k,0,Á⟩,Ê Î i,À<|Â ⟨b,0,Á⟩,À Á] 155)=l₄ at p y C F|-;generalize r.heap.size=px at y|-;have G:=p.N s;have S:¬l₄.q:=by rwa[p.q]
 have Db:Ä.info? 155=Â Ą:=ļ;refine Qi (v:=x) (us:=[À<|Â ⟨k,0,Á⟩,Ê Î i,À<|Â ⟨b,0,Á⟩,À Á]) (px:=px) (c:=1) (n:=n) (sz:=4) (xs:=xs) (inf:=Ą) (z:=Đ #[À Á,Ê Î 0,À Á,À Á]) U U (by k_ne) G S U U U Ľ Db U U Z U U (by simp[Ą];omega) (by simp only[œ];omega) F C y.fi (λg u D=>y.C<|by simpa using D) (by simp[Ø]) λu g D H T W Y tF=> ?_;walk_nrm;have k5:fY (λf=>Â f=x.ownBlock) l₄ (nL l₄ u D):=Qh G H W λa e=>⟨C a e,e.symm⟩;have I:fY (λf=>Â f=x.ownBlock) l (nL l₄ u D):=(p.fI λ_ _ q=>q.elim).fc k5;have Qx:g.ownBlock=x.ownBlock\/∃a,g.ownBlock=Â a/\l.w.heap.size<=a:=tF.imp id λq=>⟨_,q,Õ p.I H.r⟩;have wy:(nL l₄ u D).w.ownsRow 0 155 4 g (n+1) (xs++[À<|Â ⟨k,0,Á⟩,Ê Î i,À<|Â ⟨b,0,Á⟩,À Á]):=T;generalize nL l₄ u D=rV at I wy Y|-;clear p k5 W T tF y G S C F H Q;have qR:=I.N s;have hw:Î.wrap ((i:Int)+1)=((i+1:Nat):Int):=by rw[AH Z Z];omega
 apply fZ (n:=40) qR.r;repeat w_go fA
 refine Ë λ_ _=> ?_;refine hJ rV _ g I wy Y Qx ⟨U,U,U,U,U,U,?_⟩;simp[hw]
def ahS(G:gp l)(hq:¬l.q)(hd:l.d=0)(I:PT v x z b j i d)(Yb:i<j)(hR:j<1000)(h9:d[9]?=Â (À<|Â ⟨m,0,Á⟩))(Qw:d[28]?=Â (ŝ Ì))(hn:n<1000) (h0:gV l m (É #[À<|Â ⟨k,0,Á⟩,Ê Î i,À<|Â ⟨b,0,Á⟩,À Á] 155)) (kY:l.w.ownsRow 0 155 4 v n xs) (hO:∀f,v.ownBlock=Â f->l.O f) (rU:v.ownBlock≠Â m) (hJ:∀T t' W s,fY (λg=>Â g=v.ownBlock\/g=m) l T->T.w.ownsRow 0 155 4 W (n+1) (xs++[À<|Â ⟨k,0,Á⟩,Ê Î i,À<|Â ⟨b,0,Á⟩,À<|Â ⟨s,0,Á⟩])->(∀f,W.ownBlock=Â f->T.O f)->(W.ownBlock=v.ownBlock\/∃f,W.ownBlock=Â f/\s<f)->l.w.heap.size<=s->gV T s (É #[Ê ê 4294967296,Ê Ď 0,Æ Á 0 0] 105)->PT W x z s j (i+1) t'->ff Ä Ò J T (A4 t' qX)): ff Ä Ò J l (Gm d qX):=by
 obtain⟨y0,y1,y2,y3,y4,y5,y6,y7,y8,y9,wj,yn,wm,qL,rQ,p6,uT,uU,tB,tC,tD,rR,rS,rT,qF,rM,qG,oJ,nI,pe,pf,pg,s7,rN,rO,qH,qI,s8,s9,td,tf,tg,tj,tq,tu,tw,pj,pn,rfl⟩:=JY d I.r;obtain rfl:v=y4:=(show y4=v by simpa using I.N).symm;obtain rfl:x=y5:=(show y5=x by simpa using I.S).symm;obtain rfl:y6=À (Â ⟨b,0,Á⟩):=by simpa using I.Y
 obtain rfl:y9=À (Â ⟨m,0,Á⟩):=by simpa using h9
 obtain rfl:z=qL:=(show qL=z by simpa using I.C).symm;obtain rfl:rQ=Ê Î j:=by simpa using I.I
 obtain rfl:p6=Ê Î i:=by simpa using I.M
 obtain rfl:nI=ŝ Ì:=by simpa using Qw
 have hF:True:=trivial;apply fZ (n:=40) G.r;simp only[Gm];conv in Qu=>whnf
 conv in Ya=>whnf
 conv in Qv=>whnf
 repeat w_go fA
 refine Ë λ_ _=> ?_;refine FU (ob:=É #[Ê ê 0,Ê Ď 0,Æ Á 0 0] 105) U U (by k_ne) G.r hq (λw=>by go_simp) (λw=>by simp[go_sem]) λD mM=> ?_;walk_nrm;have t:fY e9 l (gJ l D<|É #[Ê ê 0,Ê Ď 0,Æ Á 0 0] 105):=nK G mM;have F:gV (gJ l D<|É #[Ê ê 0,Ê Ď 0,Æ Á 0 0] 105) D.heap.size (É #[Ê ê 0,Ê Ď 0,Æ Á 0 0] 105):=⟨Ç U,nn⟩;have Gn:l.w.heap.size<=D.heap.size:=mM.r;generalize gJ l D (É #[Ê ê 0,Ê Ď 0,Æ Á 0 0] 105)=l₁ at t F|-;generalize D.heap.size=s at F Gn|-;clear mM D;have wx:=t.N G;have AT:¬l₁.q:=by rwa[t.q]
 have htl:m<l.w.heap.size:=G.fq m<|Ã h0.fi;have t1:=h0.r t id;apply fZ (n:=40) wx.r;iterate 7 w_go fA
 u_call pY.f_add (nm_add Lk) addFn fA hF
 refine Ë λ_ _=> ?_;refine X6 pY wx AT (by rwa[t.d]) F.fi F.I U U λy hC=> ?_;walk_nrm;have E:fY (λg=>g=s) l₁ y:=hC.r;have JZ:fY e9 l y:=⟨λf q=>E.O f<|t.O f q,λf q=>(E.c f q).elim (t.c f) λh=>Ç<|Õ t.I h,E.S.trans t.S,E.Y.trans t.Y,E.b.trans t.b,E.K.trans t.K,E.q.trans t.q,E.d.trans t.d,E.fq,Õ t.I E.I,λo Y nx=>(E.r o (t.M Y) λe=>by have:=G.fq o Y;omega).trans<|t.r o Y nx,λa H=>(E.f a<|by rwa[t.C]).trans<|t.f a H,λa H=>(E.g a<|by rwa[t.C]).trans<|t.g a H,λa H h=>E.e a (by rwa[t.K])<|t.e a H h⟩;have L:=t1.r E Z;have N:gV y s (É #[Ê ê 4294967296,Ê Ď 0,Æ Á 0 0] 105):=⟨E.O s F.fi,hC.C⟩;have qO:=JZ.N G;have pw:¬y.q:=by rwa[JZ.q]
 have hgl:s<y.w.heap.size:=qO.fq s<|Ã N.fi;clear hC E t1 F t wx AT l₁;apply fZ (n:=40) qO.r;iterate 5 w_go fA
 refine Ë λ_ _=> ?_;refine F4 (p:=m) (off:=3) (v:=À<|Â ⟨s,0,Á⟩) (u:=À Á) U U (by k_ne) qO.r pw L.fi (L.C U) (by simp[î,L.I]) U (λw r S=>by go_simp) (λw r S=>by simp[go_sem,á _ _ _ _ _ _ (show Ø (À<|Â ⟨s,0,Á⟩)=Ò from rfl),r,S]) ?_;have P:fY (λg=>g=m) l {y with w:=y.w.setCell ⟨m,3,Á⟩ (À<|Â ⟨s,0,Á⟩)}:=(JZ.fI λ_ _ q=>q.elim).fc (JC (p:=m) qO (fE.fQ _ _) L.fi U jM λo Y=>kR Y);have B:gV {y with w:=y.w.setCell ⟨m,3,Á⟩ (À<|Â ⟨s,0,Á⟩)} m (É #[À<|Â ⟨k,0,Á⟩,Ê Î i,À<|Â ⟨b,0,Á⟩,À<|Â ⟨s,0,Á⟩] 155):=⟨L.fi,by show(y.w.setCell ⟨m,3,Á⟩<|À<|Â ⟨s,0,Á⟩).heap[m]?=_;unfold þ;simp[í,L.I]⟩;have g3:gV {y with w:=y.w.setCell ⟨m,3,Á⟩ (À<|Â ⟨s,0,Á⟩)} s (É #[Ê ê 4294967296,Ê Ď 0,Æ Á 0 0] 105):=⟨N.fi,(kR<|by show s≠m;omega).trans N.I⟩;have ahT:s<({y with w:=y.w.setCell ⟨m,3,Á⟩ (À<|Â ⟨s,0,Á⟩)}:e7).w.heap.size:=by show s<(y.w.setCell ⟨m,3,Á⟩<|À<|Â ⟨s,0,Á⟩).heap.size;rwa[jM]
 generalize({y with w:=y.w.setCell ⟨m,3,Á⟩ (À<|Â ⟨s,0,Á⟩)}:e7)=j5 at P B g3 ahT|-;clear L N JZ qO pw hgl y;have Q:=P.N G;have wo:¬j5.q:=by rwa[P.q]
 have Dc:∀f,v.ownBlock=Â f->j5.O f:=λf e=>P.O f<|hO f e;have JO:j5.w.ownsRow 0 155 4 v n xs:=oM kY λf e=>P.r f (Ã<|hO f e) λh=>rU<|h▸e;apply fZ (n:=40) Q.r;iterate 3 w_go fA
 refine Ë λ_ _=> ?_;refine uQ (v:=Đ #[À<|Â ⟨k,0,Á⟩,Ê Î i,À<|Â ⟨b,0,Á⟩,À<|Â ⟨s,0,Á⟩]) U U (by k_ne) Q.r wo (λD r=> ?_) (λD r e he=> ?_) ?_
 .skip;have g0:D.cell? ⟨m,0,Á⟩=Â (À<|Â ⟨k,0,Á⟩):=(gS.r (show gS j5 ⟨m,0,Á⟩from Ã<|Ã B.fi) r).trans<|B.C U;have F:D.cell? ⟨m,1,Á⟩=Â (Ê Î i):=(gS.r (show gS j5 ⟨m,1,Á⟩from Ã<|Ã B.fi) r).trans<|B.C U;have N:D.cell? ⟨m,2,Á⟩=Â (À<|Â ⟨b,0,Á⟩):=(gS.r (show gS j5 ⟨m,2,Á⟩from Ã<|Ã B.fi) r).trans<|B.C U;have g3:D.cell? ⟨m,3,Á⟩=Â (À<|Â ⟨s,0,Á⟩):=(gS.r (show gS j5 ⟨m,3,Á⟩from Ã<|Ã B.fi) r).trans<|B.C U;go_simp
 .have S:∀o,gS j5 ⟨m,o,Á⟩:=λo=>Ã<|Ã B.fi;have g0:D.cell? ⟨m,0,Á⟩=Â (À<|Â ⟨k,0,Á⟩):=(gS.r (show gS j5 ⟨m,0,Á⟩from Ã<|Ã B.fi) r).trans<|B.C U;have F:D.cell? ⟨m,1,Á⟩=Â (Ê Î i):=(gS.r (show gS j5 ⟨m,1,Á⟩from Ã<|Ã B.fi) r).trans<|B.C U;have N:D.cell? ⟨m,2,Á⟩=Â (À<|Â ⟨b,0,Á⟩):=(gS.r (show gS j5 ⟨m,2,Á⟩from Ã<|Ã B.fi) r).trans<|B.C U;have g3:D.cell? ⟨m,3,Á⟩=Â (À<|Â ⟨s,0,Á⟩):=(gS.r (show gS j5 ⟨m,3,Á⟩from Ã<|Ã B.fi) r).trans<|B.C U;simp[go_sem,g0,F,N,g3]at he;rcases he with rfl|rfl|rfl|rfl
  .exact(S _).C
  .exact(S _).C
  .exact(S _).C
  .exact(S _).C
 walk_nrm;refine qa (V:=λp=>Æ (Â ⟨p,0,Á⟩) 1 1) (ob:=É #[À<|Â ⟨k,0,Á⟩,Ê Î i,À<|Â ⟨b,0,Á⟩,À<|Â ⟨s,0,Á⟩] 155) U U (by k_ne) Q.r wo (λw=>by go_simp) (λw=>by simp[go_sem]) λS AU=> ?_;walk_nrm;have r:=nK (X:=e9) (ob:=É #[À<|Â ⟨k,0,Á⟩,Ê Î i,À<|Â ⟨b,0,Á⟩,À<|Â ⟨s,0,Á⟩] 155) Q AU;have p4:gV (gJ j5 S<|É #[À<|Â ⟨k,0,Á⟩,Ê Î i,À<|Â ⟨b,0,Á⟩,À<|Â ⟨s,0,Á⟩] 155) S.heap.size (É #[À<|Â ⟨k,0,Á⟩,Ê Î i,À<|Â ⟨b,0,Á⟩,À<|Â ⟨s,0,Á⟩] 155):=⟨Ç U,nn⟩;have tH:∀f,v.ownBlock=Â f->(gJ j5 S<|É #[À<|Â ⟨k,0,Á⟩,Ê Î i,À<|Â ⟨b,0,Á⟩,À<|Â ⟨s,0,Á⟩] 155).O f:=λf e=>Ã<|Dc f e;have AV:=oM JO (w₁:=(gJ j5 S<|É #[À<|Â ⟨k,0,Á⟩,Ê Î i,À<|Â ⟨b,0,Á⟩,À<|Â ⟨s,0,Á⟩] 155).w) λf e=>r.r f (Ã<|Dc f e) id;generalize gJ j5 S (É #[À<|Â ⟨k,0,Á⟩,Ê Î i,À<|Â ⟨b,0,Á⟩,À<|Â ⟨s,0,Á⟩] 155)=l₄ at r p4 tH AV|-;generalize S.heap.size=px at p4|-;have yu:=r.N Q;have AW:¬l₄.q:=by rwa[r.q]
 have Db:Ä.info? 155=Â Ą:=ļ;refine Qi (v:=v) (us:=[À<|Â ⟨k,0,Á⟩,Ê Î i,À<|Â ⟨b,0,Á⟩,À<|Â ⟨s,0,Á⟩]) (px:=px) (c:=1) (n:=n) (sz:=4) (xs:=xs) (inf:=Ą) (z:=Đ #[À Á,Ê Î 0,À Á,À Á]) U U (by k_ne) yu AW U U U Ľ Db U U Z U U (by simp[Ą];omega) (by simp only[œ];omega) AV tH p4.fi (λo u hu=>p4.C<|by simpa using hu) (by simp[Ø]) λDd AS J0 AX rF Gj AY tF=> ?_;walk_nrm;have k5:fY (λg=>Â g=v.ownBlock) l₄ (nL l₄ Dd J0):=Qh yu AX Gj λf e=>⟨tH f e,e.symm⟩;have uX:fY (λg=>Â g=v.ownBlock) j5 (nL l₄ Dd J0):=(r.fI λ_ _ q=>q.elim).fc k5;have Qx:AS.ownBlock=v.ownBlock\/∃f,AS.ownBlock=Â f/\j5.w.heap.size<=f:=tF.imp id λq=>⟨_,q,Õ r.I AX.r⟩;have wy:(nL l₄ Dd J0).w.ownsRow 0 155 4 AS (n+1) (xs++[À<|Â ⟨k,0,Á⟩,Ê Î i,À<|Â ⟨b,0,Á⟩,À<|Â ⟨s,0,Á⟩]):=rF;generalize nL l₄ Dd J0=rV at uX wy AY|-;clear r k5 Gj rF tF p4 yu AW tH AV AX AU;have qR:=uX.N Q;have hw:Î.wrap ((i:Int)+1)=((i+1:Nat):Int):=by rw[AH Z Z];omega
 have g5:=g3.r uX<|XV kY Gn;have AZ:fY (λg=>Â g=v.ownBlock\/g=m) l rV:=(P.fI λ_ _ q=>Ç q).fc (uX.fI λ_ _ q=>Ã q);apply fZ (n:=40) qR.r;repeat w_go fA
 refine Ë λ_ _=> ?_;refine hJ rV _ AS s AZ wy AY (Qx.imp id λ⟨f,q1,q2⟩=>⟨f,q1,Z⟩) Gn g5 ⟨U,U,U,U,U,U,?_⟩;simp[hw]
end
def ij(kd:Nat->Int)(i:Nat):List Nat:=(ã i).filter λj=>decide<|kd j=1
def jl(kd:Nat->Int)(i:Nat):List Nat:=(ã i).filter λj=>decide<|kd j≠1
def fL(kd:Nat->Int)(i:Nat):Nat:=(ij kd i).length
def tI(a g:Nat->Nat)(p:Nat×Nat):List Ï:=[À<|Â ⟨a p.1,0,Á⟩,Ê Î p.1,À<|Â ⟨g p.2,0,Á⟩,À<|Â ⟨g<|p.2+1,0,Á⟩]
def tQ(kd:Nat->Int)(a g:Nat->Nat)(p:Nat):List Ï:=[À<|Â ⟨a p,0,Á⟩,Ê Î p,À<|Â ⟨g<|fL kd p,0,Á⟩,À Á]
def jE(kd:Nat->Int)(rq g:Nat->Nat)(i:Nat):List Ï:=(ij kd i).zipIdx.flatMap<|tI rq g
def ma(kd:Nat->Int)(a g:Nat->Nat)(i:Nat):List Ï:=(jl kd i).flatMap<|tQ kd a g
section
variable{kd:Nat->Int}{rq g:Nat->Nat}
def A5(h:kd i=1):ij kd (i+1)=ij kd i++[i]:=by simp[ij,ÿ,ā,h]
def A6(h:kd i≠1):ij kd (i+1)=ij kd i:=by simp[ij,ÿ,ā,h]
def Qy(h:kd i=1):jl kd (i+1)=jl kd i:=by simp[jl,ÿ,ā,h]
theorem Qz(h:kd i≠1):jl kd (i+1)=jl kd i++[i]:=by simp[jl,ÿ,ā,h]
def QA:∀i,fL kd i<=i:=λi=>by unfold fL ij;exact Õ (ģ _ _) fh
def ahU:∀i,(jl kd i).length<=i:=λi=>by unfold jl;exact Õ (ģ _ _) fh
def Yc(h:j<=i):fL kd j<=fL kd i:=by
 induction i with
 |zero=>
  have:j=0:=Z
  rw[this];exact Ú _
 |succ i c=>
  by_cases e:j=i+1
  .rw[e];exact Ú _
  .have a:=c Z;by_cases b:kd i=1
   .unfold fL at a|-;rw[A5 b];simp;omega
   .unfold fL at a|-;rwa[A6 b]
def ahV(h:kd i=1):jE kd rq g (i+1)=jE kd rq g i++tI rq g (i,fL kd i):=by unfold jE;rw[A5 h,List.zipIdx_append,List.flatMap_append];simp[fL]
def ahW(h:kd i≠1):jE kd rq g (i+1)=jE kd rq g i:=by unfold jE;rw[A6 h]
def ahX(h:kd i=1):ma kd rq g (i+1)=ma kd rq g i:=by unfold ma;rw[Qy h]
theorem ahY(h:kd i≠1):ma kd rq g (i+1)=ma kd rq g i++tQ kd rq g i:=by unfold ma;grind [Qz]
def QB{α:Type}{f a:α->List Ï}:∀(l:List α),(∀x∈l,f x=a x)->l.flatMap f=l.flatMap a
 |[],_=>rfl
 |x::l,h=>by rw[Ć,Ć,h x List.mem_cons_self,QB l λy b=>h y<|List.mem_cons_of_mem _ b]
def ahZ(h:∀k,k<=fL kd i->D k=g k):jE kd rq D i=jE kd rq g i:=by
 unfold jE;refine QB _ λx a=> ?_;let⟨p,k⟩:=x;have b:=(List.mem_zipIdx a).2.1;have c:k<fL kd i:=by unfold fL;omega
 simp[tI,h k Z,h (k+1) Z]
def ah0(h:∀k,k<=fL kd i->D k=g k):ma kd rq D i=ma kd rq g i:=by
 unfold ma;refine QB _ λp a=> ?_;have b:p<i:=by have:=(Ā.1 a).1;simpa using this
 simp[tQ,h (fL kd p)<|Yc Z]
def QC{α:Type}{f:α->List Ï}(a:∀x,(f x).length=4)(b:i<4):∀(l:List α) (k:Nat) (x:α),l[k]?=Â x->(l.flatMap f)[k*4+i]?=(f x)[i]?
 |[],k,x,h=>by simp at h
 |y::l,0,x,h=>by
  obtain rfl:y=x:=by simpa using h
  rw[Ć,List.getElem?_append_left (by rw[a];omega)];simp
 |y::l,k+1,x,h=>by rw[Ć,List.getElem?_append_right (by rw[a];omega),a,show(k+1)*4+i-4=k*4+i by omega];exact QC a b l k x<|by simpa using h
end
section
variable{Y:Nat->Prop}{l m o:e7}
def fY.wz(h:fY X l m)(k:fY Y m o)(e:∀j,l.M j->¬Y j):fY X l o:= ⟨λj q=>k.O j<|h.O j q,λj q=>(k.c j q).elim (h.c j) λz=>Ç<|Õ h.I z,k.S.trans h.S,k.Y.trans h.Y,k.b.trans h.b,k.K.trans h.K,k.q.trans h.q,k.d.trans h.d,k.fq,Õ h.I k.I,λj c f=>(k.r j (h.M c)<|e j c).trans<|h.r j c f,λa b=>(k.f a<|by rwa[h.C]).trans<|h.f a b,λa b=>(k.g a<|by rwa[h.C]).trans<|h.g a b,λa b z=>k.e a (by rwa[h.K])<|h.e a b z⟩
end
abbrev QD:Ÿ:=É #[Ê ê 4294967296,Ê Ď 0,Æ Á 0 0] 105
structure yw(kd:Nat->Int)(rq g:Nat->Nat)(S i:Nat)(iv qv:Ï)(l0 l:e7):Prop where
 r:fY e9 l0 l
 jE:l.w.ownsRow 0 155 4 iv (fL kd i) (jE kd rq g i)
 ma:l.w.ownsRow 0 155 4 qv (jl kd i).length (ma kd rq g i)
 C:∀k,iv.ownBlock=Â k->l.O k/\l0.w.heap.size<=k
 I:∀k,qv.ownBlock=Â k->l.O k/\l0.w.heap.size<=k
 M:∀k,iv.ownBlock=Â k->qv.ownBlock≠Â k
 N:∀k,1<=k->k<=fL kd i->gV l (g k) QD/\l0.w.heap.size<=g k/\iv.ownBlock≠Â (g k)/\qv.ownBlock≠Â (g k)
 g0:g 0<l0.w.heap.size
 S:g 0=S
 Y:∀k k',k<k'->k'<=fL kd i->g k<g k'
section
variable{kd:Nat->Int}{rq g:Nat->Nat}{iv qv:Ï}{l0 l m o:e7}
theorem yw.ah1(h:yw kd rq g n i iv qv l0 l)(C:gp l0)(s:gp l)(t:kd i≠1)(a:fY e9 l m)(d:fY (λb=>Â b=qv.ownBlock) m o)(G:o.w.ownsRow 0 155 4 v ((jl kd i).length+1) (fw.ma kd rq g i++tQ kd rq g i))(D:∀k,v.ownBlock=Â k->o.O k)(u:v.ownBlock=qv.ownBlock\/∃k,v.ownBlock=Â k/\m.w.heap.size<=k):yw kd rq g n (i+1) iv v l0 o:=by
 have p:fL kd (i+1)=fL kd i:=by unfold fL;rw[A6 t]
 have x:∀{j},l.O j->qv.ownBlock≠Â j->v.ownBlock≠Â j:=λ{j} c hn e=>by
  rcases u with z|⟨k,q,B⟩
  .grind
  .rw[q]at e;have:=Ó e;have:=(λc=>È (s.fq _<|Ã c) a.I) c;omega
 refine⟨(h.r.fc a).wz d λj c e=> ?_,?_,?_,λk e=>⟨d.O k<|a.O k (h.C k e).1,(h.C k e).2⟩,λk e=>⟨D k e,?_⟩,λk e=>x (h.C k e).1<|h.M k e,λk r f=> ?_,h.g0,h.S,λk y r f=>h.Y k y r<|by rwa[<-p]⟩
 .have:=(h.I j e.symm).2;have:=C.fq j c;omega
 .rw[p,ahW t];refine oM h.jE λk e=>(d.r k (Ã<|a.O k (h.C k e).1) λz=>h.M k e z.symm).trans<|a.r k (Ã (h.C k e).1) id
 .grind [Qz,ahY]
 .rcases u with z|⟨y,q,B⟩
  .rw[z]at e;exact(h.I k e).2
  .rw[q]at e;have:=Ó e;have:=h.r.I;have:=a.I;omega
 .rw[p]at f;let⟨q,E,F,B⟩:=h.N k r f;exact⟨(q.r a id).r d λz=>B z.symm,E,F,x q.fi B⟩
theorem yw.kA{tb:Nat}(h:yw kd rq g n i iv qv l0 l)(F:gp l0)(s:gp l)(a:kd i=1)(c:fY e9 l m)(P:l.w.heap.size<=tb)(p:fY (λb=>Â b=iv.ownBlock\/b=tb) m o)(G:o.w.ownsRow 0 155 4 v (fL kd i+1) (fw.jE kd rq g i++[À<|Â ⟨rq i,0,Á⟩,Ê Î i,À<|Â ⟨g<|fL kd i,0,Á⟩,À<|Â ⟨J,0,Á⟩]))(H:∀k,v.ownBlock=Â k->o.O k)(u:v.ownBlock=iv.ownBlock\/∃k,v.ownBlock=Â k/\J<k)(Q:m.w.heap.size<=J)(I:gV o J QD):yw kd rq (λk=>if k<=fL kd i then g k else J) n (i+1) v qv l0 o:=by
 have x:fL kd (i+1)=fL kd i+1:=by unfold fL;rw[A5 a];simp
 have S:=h.r.I;have T:=c.I;have d:∀{j},l.O j->j<l.w.heap.size:=λq=>s.fq _<|Ã q;have B:∀{j},l.O j->iv.ownBlock≠Â j->v.ownBlock≠Â j:=λ{j} q hn e=>by grind
 have C:∀k,k<=fL kd i->(if k<=fL kd i then g k else J)=g k:=λk a=>if_pos a;refine⟨(h.r.fc c).wz p λj q e=> ?_,?_,?_,λk e=>⟨H k e,?_⟩,λk e=>⟨p.O k<|c.O k (h.I k e).1,(h.I k e).2⟩,λk e z=>B (h.I k z).1 (λy=>h.M k y z) e,λk t D=> ?_,?_,?_,λk r t D=> ?_⟩
 .have:=F.fq j q;rcases e with e|e
  .have:=(h.C j e.symm).2;omega
  .omega
 .rw[x,ahV a,ahZ C];simpa[tI,show¬(fL kd i+1<=fL kd i) by omega]using G
 .rw[Qy a,ahX a,ah0 C];refine oM h.ma λk e=> ?_;refine(p.r k (Ã<|c.O k (h.I k e).1) ?_).trans<|c.r k (Ã (h.I k e).1) id;rintro(z|z)
  .exact h.M k z.symm e
  .have:=d (h.I k e).1;omega
 .rcases u with z|⟨r,K,L⟩
  .rw[z]at e;exact(h.C k e).2
  .grind
 .by_cases y:k<=fL kd i
  .simp only[if_pos y];let⟨f,M,E,N⟩:=h.N k t y;refine⟨(f.r c id).r p ?_,M,B f.fi E,N⟩;rintro(z|z)
   .exact E z.symm
   .have:=d f.fi;omega
  .simp only[if_neg y];refine⟨I,Z,λe=> ?_,λe=> ?_⟩
   .rcases u with z|⟨r,K,L⟩
    .rw[z]at e;have:=d (h.C J e).1;omega
    .grind
   .have:=d (h.I J e).1;omega
 .simp only[ă,if_true];exact h.g0
 .simp only[ă,if_true];exact h.S
 .rw[x]at D;by_cases y:r<=fL kd i
  .simp only[if_pos y,if_pos (show k<=fL kd i by omega)];exact h.Y k r t y
  .simp only[if_neg y,if_pos (show k<=fL kd i by omega)];by_cases E:k=0
   .subst E;have:=h.g0;omega
   .let⟨f,_⟩:=h.N k Z Z;have:=d f.fi;omega
end
section
variable{J:Jd}{ra:Option â}{rb cr R:Nat}{cs:List é}{kd:Nat->Int}{rq:Nat->Nat}{l0:e7}
def QF(j:gp l0)(u:¬l0.q)(v:l0.d=0)(m:R<1000)(p:0<R->ra=Â ⟨rb,0,Á⟩)(x:0<R->l0.M rb)(y:∀i,i<R->l0.w.cell? ⟨rb,i,Á⟩=Â (À<|Â ⟨rq i,0,Á⟩))(r:∀i,i<R->l0.M (rq i))(z:∀i,i<R->l0.w.cell? ⟨rq i,4,Á⟩=Â (Ê Î<|kd i)) (B:∀g N P a b,yw kd rq g n R a b l0 N->PT a b (Æ ra R cr) (g<|fL kd R) R R P->ff Ä Ò J N (A4 P cs)): ∀d i,R=i+d->∀g l t a b,yw kd rq g n i a b l0 l->PT a b (Æ ra R cr) (g<|fL kd i) R i t->ff Ä Ò J l (A4 t cs)
 |0,i,hi,g,l,t,a,b,hP,hT=>by obtain rfl:R=i:=hi;exact B g l t a b hP hT
 |d+1,i,hi,g,l,t,a,b,hP,hT=>by
  have f:i<R:=Z
  have o:=hP.r.N j;have Q:¬l.q:=by rwa[hP.r.q]
  have S:=x Z;refine ahQ o Q (by rwa[<-p Z]) f m (hP.r.M S) ((gF<|hP.r.r rb S id).trans<|y i f) (hP.r.M<|r i f) ((gF<|hP.r.r _ (r i f) id).trans<|z i f) λl1 t1 T c rU V C W s=> ?_;rw[<-p Z]at C;have X:=c.N o;have Y:¬l1.q:=by rwa[c.q]
  have hc:=QA (kd:=kd) i;have hcq:=ahU (kd:=kd) i;by_cases h:kd i=1
  .rw[decide_eq_false (by simpa using h)]at s;refine ahS X Y (by rwa[c.d,hP.r.d]) C f m W s Z V (oM hP.jE λk e=>c.r k (Ã (hP.C k e).1) id) (λk e=>c.O k (hP.C k e).1) (λe=>by have:=o.fq T<|Ã (hP.C T e).1;omega) λD E iv' gt F G H I Gn hg K=> ?_;apply QF j u v m p x y r z B d (i+1) Z _ D E iv' b (hP.kA j o h c rU F G H I Gn hg);have L:fL kd (i+1)=fL kd i+1:=by unfold fL;rw[A5 h];simp
   rw[L];simp only[show¬(fL kd i+1<=fL kd i) by omega,if_false];exact K
  .rw[decide_eq_true (by simpa using h)]at s;refine ahR X Y C f m W s Z V (oM hP.ma λk e=>c.r k (Ã (hP.I k e).1) id) (λk e=>c.O k (hP.I k e).1) λD E e F G H I K=> ?_;apply QF j u v m p x y r z B d (i+1) Z _ D E a e (hP.ah1 j o h c F G H I);have L:fL kd (i+1)=fL kd i:=by unfold fL;rw[A6 h]
   rwa[L]
end
noncomputable def Yd:Ę:=lu Ĝ []
noncomputable def Ye (a b:Ï) (c:List é):Ý:=G ((base 46).at ⟨#[a,b,Å,Å,Å,Å,Å,Å,Å,Å,Å,Å,Å,Å,Å,Å,Å,Å,Å,Å,Å,Å,Å,Å,Å,Å,Å,Å,Å,Å,Å,Å,Å,Å,Å,Å,Å,Å,Å,Å,Å,Å,Å,Å,Å,Å,Å,Å],[]⟩ [ö Yd]) c
def ah2{c:é}{d:ŏ}{k:List ŷ}{K:Ý->ß->Array ž->Prop}{t u v:Tmp}(g:f.kind=Ğ)(j:y.defers=[])(l:P.funcs[f.fn]?=Â s)(e:s.results=#[.tmp t,.tmp u,.tmp v]) (h:K (G (c.at (d.put ((Q[i]?).bind (·.dst))<|ñ #[y.tmps.getD t Å,y.tmps.getD u Å,y.tmps.getD v Å])<|Ñ Q jJ::k) qX) w #[]): (stepG P yQ (G {f.at y L with mode:=.returning}<|c.at d (Ñ Q (i::jJ)::k)::qX) w).goes K:=by rwa[stepG_leave g j l (v:=ñ #[y.tmps.getD t Å,y.tmps.getD u Å,y.tmps.getD v Å]) (by simp[results,e,go_sem]) (by simp[results,e,go_sem]),Ģ]
structure Gp(kd:Nat->Int)(rq g:Nat->Nat)(R:Nat)(iv qv sv:Ï)(l l':e7):Prop where
 Y:fY e9 l l'
 jE:l'.w.ownsRow 0 155 4 iv (fL kd R) (jE kd rq g R)
 ma:l'.w.ownsRow 0 155 4 qv (jl kd R).length (ma kd rq g R)
 r:∀k,iv.ownBlock=Â k->l'.O k/\l.w.heap.size<=k
 C:∀k,qv.ownBlock=Â k->l'.O k/\l.w.heap.size<=k
 dis:∀k,iv.ownBlock=Â k->qv.ownBlock≠Â k
 N:gV l' (g 0) (É #[Ê ê 0,Ê Ď 0,sv] 105)
 I:∀k,1<=k->k<=fL kd R->gV l' (g k) QD
 M:∀k,k<=fL kd R->l.w.heap.size<=g k/\iv.ownBlock≠Â (g k)/\qv.ownBlock≠Â (g k)
 S:∀k k',k<k'->k'<=fL kd R->g k<g k'
def ah3(w:ß)(a:Option â)(b c:Nat):(Ċ 105 #[(1,Æ a b c)]).run Ä w=.ok (Đ #[Ê ê 0,Ê Ď 0,Æ a b c]) w:=run_build w 105 _ _ fP
def ah4(w:ß)(a:Option â)(b c:Nat):(Ċ 105 #[(1,Æ a b c)]).events Ä w #[]=#[]:=by unfold Ċ;simp only[Sem.events_bind];simp[go_sem]
section
variable{J:Jd}{l:e7}{ra:Option â}{rb cr R:Nat}{sa:Option â}{sn sc:Nat}{k:List ŷ}{kd:Nat->Int}{rq:Nat->Nat}
def ah5(j:gp l)(u:¬l.q)(I:l.d=0)(K:R<1000)(L:0<R->ra=Â ⟨rb,0,Á⟩)(z:0<R->l.M rb)(N:∀i,i<R->l.w.cell? ⟨rb,i,Á⟩=Â (À<|Â ⟨rq i,0,Á⟩))(B:∀i,i<R->l.M (rq i))(O:∀i,i<R->l.w.cell? ⟨rq i,4,Á⟩=Â (Ê Î<|kd i)) (P:∀g s b c,Gp kd rq g R b c (Æ sa sn sc) l s->ff Ä Ò J s (G (f.at (y.put ((Q[i]?).bind (·.dst))<|ñ #[b,c,À<|Â ⟨g<|fL kd R,0,Á⟩])<|Ñ Q jJ::k) qX)): ff Ä Ò J l (Ye (Æ ra R cr) (Æ sa sn sc)<|f.at y (Ñ Q (i::jJ)::k)::qX):=by
 have hF:=trivial;apply fZ (n:=40) j.r;simp only[Ye];conv in Yd=>whnf
 repeat w_go fA
 refine Ë λ_ _=> ?_;refine uQ (v:=Đ #[Ê ê 0,Ê Ď 0,Æ sa sn sc]) U U (by k_ne) j.r u (λa r=> ?_) (λa r e p=> ?_) ?_
 .have h:=ah3 a sa sn sc;go_simp
 .have h:=ah4 a sa sn sc;simp[go_sem,h]at p
 walk_nrm;refine qa (V:=λp=>À<|Â ⟨p,0,Á⟩) (ob:=É #[Ê ê 0,Ê Ď 0,Æ sa sn sc] 105) U U (by k_ne) j.r u (λw=>by go_simp) (λw=>by simp[go_sem]) λa C=> ?_;walk_nrm;have p:fY e9 l (gJ l a<|É #[Ê ê 0,Ê Ď 0,Æ sa sn sc] 105):=nK j C;have t:gV (gJ l a<|É #[Ê ê 0,Ê Ď 0,Æ sa sn sc] 105) a.heap.size (É #[Ê ê 0,Ê Ď 0,Æ sa sn sc] 105):=⟨Ç U,nn⟩;have D:=C.r;generalize gJ l a (É #[Ê ê 0,Ê Ď 0,Æ sa sn sc] 105)=l₁ at p t|-;generalize a.heap.size=gt at t D|-;have m:=p.N j;have S:¬l₁.q:=by rwa[p.q]
 apply fZ (n:=40) m.r;repeat w_bar fA
 w_go fA
 refine Ë λ_ _=> ?_;have T:=m.fq gt<|Ã t.fi;refine QF m S (by rwa[p.d]) K L (λh=>p.M<|z h) (λi h=>(gF<|p.r rb (z Z) id).trans<|N i h) (λi h=>p.M<|B i h) (λi h=>(gF<|p.r _ (B i h) id).trans<|O i h) (λg s W b c h r=> ?_) R 0 Z (λ_=>gt) l₁ _ (Æ Á 0 0) (Æ Á 0 0) ⟨fY.fQ m.r,⟨U,Ã ⟨U,U⟩⟩,⟨U,Ã ⟨U,U⟩⟩,λk e=>(by cases e),λk e=>(by cases e),λk e=>(by cases e),λk x o=> ?_,T,rfl,λk X x o=> ?_⟩ ⟨rfl,rfl,rfl,rfl,rfl,rfl,rfl⟩
 .have Y:=h.r.N m;obtain⟨y0,y1,y2,y3,E,F,y6,y7,y8,y9,wj,yn,wm,qL,rQ,p6,uT,uU,tB,tC,tD,rR,rS,rT,qF,rM,qG,oJ,nI,pe,pf,pg,s7,rN,rO,qH,qI,s8,s9,td,tf,tg,tj,tq,tu,tw,pj,pn,rfl⟩:=JY W r.r;obtain rfl:b=E:=(show E=b by simpa using r.N).symm;obtain rfl:c=F:=(show F=c by simpa using r.S).symm;obtain rfl:y6=À (Â ⟨g<|fL kd R,0,Á⟩):=by simpa using r.Y
  obtain rfl:qL=Æ ra R cr:=by simpa using r.C
  obtain rfl:rQ=Ê Î R:=by simpa using r.I
  obtain rfl:p6=Ê Î R:=by simpa using r.M
  have gI:¬((R:Int)<(R:Int)):=Z
  apply fZ (n:=40) Y.r;simp only[A4];conv in Gl=>whnf
  conv in Qt=>whnf
  repeat w_go fA
  u_in fA hF
  refine ah2 U U ų U ⟨by u_nil,?_⟩;walk_nrm;refine Ë λ_ _=> ?_;have H:=h.S;refine P g s b c ⟨p.fc h.r,h.jE,h.ma,λk e=>⟨(h.C k e).1,Õ p.I (h.C k e).2⟩,λk e=>⟨(h.I k e).1,Õ p.I (h.I k e).2⟩,h.M,H▸t.r h.r id,λk x o=>(h.N k x o).1,λk hk=> ?_,h.Y⟩;by_cases h0:k=0
  .subst h0;rw[H];exact⟨D,λe=>by have:=(h.C _ e).2;omega,λe=>by have:=(h.I _ e).2;omega⟩
  .let⟨_,a2,a3,a4⟩:=h.N k Z hk;exact⟨Õ p.I a2,a3,a4⟩
 .have:k<=0:=o;omega
 .have:X<=0:=o;omega
end
noncomputable def Yf:Ę:=lu Tryz.f37 []
noncomputable def De (a b:Ï) (n:Nat) (c:List é):Ý:=G ((base 37).at ⟨#[a,b,Ê Î n,Å,Å,Å,Å,Å,Å,Å,Å,Å,Å,Å,Å,Å,Å,Å,Å,Å,Å,Å,Å,Å,Å,Å,Å,Å,Å,Å,Å,Å,Å,Å,Å,Å,Å,Å,Å,Å,Å,Å,Å,Å,Å,Å,Å,Å,Å],[]⟩ [ö Yf]) c
def Gp.wz{kd:Nat->Int}{rq:Nat->Nat}{R:Nat}{l a b:e7}(h:Gp kd rq D R v x z l a)(k:fY e9 a b):Gp kd rq D R v x z l b:= ⟨h.Y.fc k,oM h.jE λj e=>k.r j (Ã (h.r j e).1) id,oM h.ma λj e=>k.r j (Ã (h.C j e).1) id,λj e=>⟨k.O j (h.r j e).1,(h.r j e).2⟩,λj e=>⟨k.O j (h.C j e).1,(h.C j e).2⟩,h.dis,h.N.r k id,λj c d=>(h.I j c d).r k id,h.M,h.S⟩
abbrev wA(R:Nat):Ÿ:=É (madeCells (Ŵ<|à ⟨#[]⟩) R) 9
structure J3(kd:Nat->Int)(rq g:Nat->Nat)(R:Nat)(iv qv sv:Ï)(an ba bi all bw bf:Nat)(l lp l':e7):Prop where
 C:fY e9 l l'
 r:Gp kd rq g R iv qv sv lp l'
 I:gV l' an (wA R)
 a:gV l' ba (É #[Æ (Â ⟨an,0,Á⟩) R R] 25)
 c:gV l' bi (É #[iv] 85)
 Y:gV l' all (É #[Ê ê 4294967296,Ê Ď 0] 97)
 d:gV l' bw (É #[À<|Â ⟨all,0,Á⟩] 162)
 b:gV l' bf (É #[Ĉ (ù 48) #[] #[À<|Â ⟨bi,0,Á⟩,À<|Â ⟨ba,0,Á⟩]] 1)
 M:l.w.heap.size<=an/\an<ba/\ba<lp.w.heap.size
 N:∀k,k<=fL kd R->g k<bi
 o3:∀k,iv.ownBlock=Â k->k<bi
 o4:∀k,qv.ownBlock=Â k->k<bi
 S:bi<all/\all<bw/\bw<bf
section
variable{J:Jd}{l:e7}{ra:Option â}{rb cr R:Nat}{sa:Option â}{sn sc:Nat}{kd:Nat->Int}{rq:Nat->Nat}
def ah6(C:gp l)(G:¬l.q)(hd:l.d=0)(hR:R<1000)(Gq:0<R->ra=Â ⟨rb,0,Á⟩)(uY:0<R->l.M rb)(Gr:∀i,i<R->l.w.cell? ⟨rb,i,Á⟩=Â (À<|Â ⟨rq i,0,Á⟩))(I5:∀i,i<R->l.M (rq i))(Gs:∀i,i<R->l.w.cell? ⟨rq i,4,Á⟩=Â (Ê Î<|kd i)) (hJ:∀g lp l' t iv qv H y z D W bf v1,J3 kd rq g R iv qv (Æ sa sn sc) H y z D W bf l lp l'->Gf y D (g<|fL kd R) n qv t->J l' (AR (À<|Â ⟨D,0,Á⟩) v1 (À<|Â ⟨D,0,Á⟩) (ñ #[]) W bf<|Da t::qX)): ff Ä Ò J l (De (Æ sa sn sc) (Æ ra R cr) n qX):=by
 have hF:True:=trivial;have Yg:Ä.info? 9=Â Ġ:=Tryz.type9;have N8:∀w:ß,(Ŏ 25 (Ê Î (R:Int))<|Ê Î (R:Int)).run Ä w=.ok (Æ (Â ⟨w.heap.size,0,Á⟩) R R) (w.alloc<|wA R):=λw=>by have:=run_makeSlice (P:=Ä) w 25 9 Ġ (à ⟨#[]⟩) ľ Yg U Î Î (R:Int) (R:Int) Z Z (by simp[Ġ];omega) (by simp[Ġ];omega) Z;simpa[Ġ]using this
 have hme:∀w:ß,(Ŏ 25 (Ê Î (R:Int))<|Ê Î (R:Int)).events Ä w #[]=#[]:=λw=>
  events_make (P:=Ä) w 25 9 Ġ (à ⟨#[]⟩) ľ Yg U Î Î (R:Int) (R:Int) Z Z (by simp[Ġ];omega) Z (by simp[Ġ];omega) _
 apply fZ (n:=40) C.r;simp only[De];conv in Yf=>whnf
 repeat w_go fA
 refine Ë λ_ _=> ?_;refine qa (V:=λp=>Æ (Â ⟨p,0,Á⟩) R R) (ob:=wA R) U U (by k_ne) C.r G (λw=>by have k:=N8 w;go_simp) (λw=>by have k:=hme w;simp[go_sem,k]) λc m=> ?_;walk_nrm;have a:=nK (X:=e9) (ob:=wA R) C m;have r:gV (gJ l c<|wA R) c.heap.size (wA R):=⟨Ç U,nn⟩;have han:l.w.heap.size<=c.heap.size:=m.r;generalize gJ l c (wA R)=l1 at a r|-;generalize c.heap.size=H at r han|-;clear m c;have QG:fY e9 l l1:=a;have QH:=QG.N C;have ah7:¬l1.q:=by rwa[QG.q]
 have ar0:l.w.heap.size<=l1.w.heap.size:=a.I;clear a;have lan:=QH.fq H<|Ã r.fi;refine qa (V:=λp=>À<|Â ⟨p,0,Á⟩) (ob:=É #[Æ Á 0 0] 25) U U (by k_ne) QH.r ah7 (λw=>by go_simp) (λw=>by simp[go_sem]) λc m=> ?_;walk_nrm;have a:=nK (X:=e9) (ob:=É #[Æ Á 0 0] 25) QH m;have f:gV (gJ l1 c<|É #[Æ Á 0 0] 25) c.heap.size (É #[Æ Á 0 0] 25):=⟨Ç U,nn⟩;have Yh:l1.w.heap.size<=c.heap.size:=m.r;generalize gJ l1 c (É #[Æ Á 0 0] 25)=l2 at a f|-;generalize c.heap.size=y at f Yh|-;clear m c;have QI:fY e9 l l2:=QG.fc a;replace r:=r.r a id;have QJ:=QI.N C;have ah8:¬l2.q:=by rwa[QI.q]
 have ar1:l1.w.heap.size<=l2.w.heap.size:=a.I;clear a;have lba:=QJ.fq y<|Ã f.fi;refine F4 (p:=y) (off:=0) (v:=Æ (Â ⟨H,0,Á⟩) R R) (u:=Æ Á 0 0) U U (by k_ne) QJ.r ah8 f.fi (f.C U) (by simp[î,f.I]) U (λw o F=>by go_simp) (λw o F=>by simp[go_sem,á _ _ _ _ _ _ (show Ø (Æ (Â ⟨H,0,Á⟩) R R)=Ò from rfl),o,F]) ?_;have a:=JC (X:=λb=>b=y) (p:=y) (w':=l2.w.setCell ⟨y,0,Á⟩<|Æ (Â ⟨H,0,Á⟩) R R) QJ (fE.fQ _ _) f.fi U jM λj E=>kR E;replace f:gV ({l2 with w:=l2.w.setCell ⟨y,0,Á⟩ (Æ (Â ⟨H,0,Á⟩) R R)}:e7) y (É #[Æ (Â ⟨H,0,Á⟩) R R] 25):=⟨f.fi,by show(l2.w.setCell ⟨y,0,Á⟩<|Æ (Â ⟨H,0,Á⟩) R R).heap[y]?=_;unfold þ;simp[í,f.I]⟩;generalize({l2 with w:=l2.w.setCell ⟨y,0,Á⟩ (Æ (Â ⟨H,0,Á⟩) R R)}:e7)=l3 at a f|-;have S:fY e9 l l3:=QI.wz a λj E e=>by have:=C.fq j E;omega
 replace r:=r.r a Z;have Yi:=S.N C;have ah9:¬l3.q:=by rwa[S.q]
 have ar2:l2.w.heap.size<=l3.w.heap.size:=a.I;clear a;apply fZ (n:=20) Yi.r;iterate 5 w_go fA
 u_call ų fP Ĝ fA hF
 refine Ë λ_ _=> ?_;refine ah5 (l:=l3) (kd:=kd) (rq:=rq) (ra:=ra) (rb:=rb) (cr:=cr) (R:=R) (sa:=sa) (sn:=sn) (sc:=sc) Yi ah9 (by rwa[S.d]) hR Gq (λh=>S.M<|uY h) (λi k=>(gF<|S.r rb (uY Z) id).trans<|Gr i k) (λi k=>S.M<|I5 i k) (λi k=>(gF<|S.r _ (I5 i k) id).trans<|Gs i k) λg B iv qv T=> ?_;walk_nrm;have a:=T.Y;have QK:fY e9 l B:=S.fc a;replace r:=r.r a id;replace f:=f.r a id;have L:=QK.N C;have aia:¬B.q:=by rwa[QK.q]
 have ar3:l3.w.heap.size<=B.w.heap.size:=a.I;clear a;have aib:fY e9 B B:=fY.fQ L.r;obtain⟨I,K,rfl⟩:∃I K,iv=Æ I (fL kd R) K:=by
  rcases T.jE.2 with⟨k,s⟩|⟨b,N,Q,k,_⟩
  .exact⟨Á,0,by rwa[s]⟩
  .exact⟨_,_,k⟩
 have og:∀k,k<=fL kd R->g k<B.w.heap.size:=λk hk=>by
  by_cases s:k=0
  .subst s;exact L.fq _<|Ã T.N.fi
  .exact L.fq _<|Ã (T.I k Z hk).fi
 have oi:∀k,(Æ I (fL kd R) K).ownBlock=Â k->k<B.w.heap.size:=λk e=>L.fq _<|Ã (T.r k e).1;have oq:∀k,qv.ownBlock=Â k->k<B.w.heap.size:=λk e=>L.fq _<|Ã (T.C k e).1;apply fZ (n:=20) L.r;iterate 4 w_go fA
 refine Ë λ_ _=> ?_;refine qa (V:=λp=>À<|Â ⟨p,0,Á⟩) (ob:=É #[Æ Á 0 0] 85) U U (by k_ne) L.r aia (λw=>by go_simp) (λw=>by simp[go_sem]) λc m=> ?_;walk_nrm;have a:=nK (X:=e9) (ob:=É #[Æ Á 0 0] 85) L m;have s:gV (gJ B c<|É #[Æ Á 0 0] 85) c.heap.size (É #[Æ Á 0 0] 85):=⟨Ç U,nn⟩;have QL:B.w.heap.size<=c.heap.size:=m.r;generalize gJ B c (É #[Æ Á 0 0] 85)=l5 at a s|-;generalize c.heap.size=z at s QL|-;clear m c;have QM:fY e9 l l5:=QK.fc a;have aic:fY e9 B l5:=aib.fc a;replace r:=r.r a id;replace f:=f.r a id;have QO:=QM.N C;have aie:¬l5.q:=by rwa[QM.q]
 have ar4:B.w.heap.size<=l5.w.heap.size:=a.I;clear a;have lbi:=QO.fq z<|Ã s.fi;refine F4 (p:=z) (off:=0) (v:=Æ I (fL kd R) K) (u:=Æ Á 0 0) U U (by k_ne) QO.r aie s.fi (s.C U) (by simp[î,s.I]) U (λw o F=>by go_simp) (λw o F=>by simp[go_sem,á _ _ _ _ _ _ (show Ø (Æ I (fL kd R) K)=Ò from rfl),o,F]) ?_;have a:=JC (X:=λb=>b=z) (p:=z) (w':=l5.w.setCell ⟨z,0,Á⟩<|Æ I (fL kd R) K) QO (fE.fQ _ _) s.fi U jM λj E=>kR E;replace s:gV ({l5 with w:=l5.w.setCell ⟨z,0,Á⟩ (Æ I (fL kd R) K)}:e7) z (É #[Æ I (fL kd R) K] 85):=⟨s.fi,by show(l5.w.setCell ⟨z,0,Á⟩<|Æ I (fL kd R) K).heap[z]?=_;unfold þ;simp[í,s.I]⟩;generalize({l5 with w:=l5.w.setCell ⟨z,0,Á⟩ (Æ I (fL kd R) K)}:e7)=l6 at a s|-;have QP:fY e9 l l6:=QM.wz a λj E e=>by have:=C.fq j E;omega
 have aif:fY e9 B l6:=aic.wz a λj E e=>by have:=L.fq j E;omega
 replace r:=r.r a Z;replace f:=f.r a Z;have QR:=QP.N C;have aii:¬l6.q:=by rwa[QP.q]
 have ar5:l5.w.heap.size<=l6.w.heap.size:=a.I;clear a;apply fZ (n:=20) QR.r;iterate 5 w_go fA
 refine Ë λ_ _=> ?_;refine qa (V:=λp=>À<|Â ⟨p,0,Á⟩) (ob:=É #[Ê ê 0,Ê Ď 0] 97) U U (by k_ne) QR.r aii (λw=>by go_simp) (λw=>by simp[go_sem]) λc m=> ?_;walk_nrm;have a:=nK (X:=e9) (ob:=É #[Ê ê 0,Ê Ď 0] 97) QR m;have F:gV (gJ l6 c<|É #[Ê ê 0,Ê Ď 0] 97) c.heap.size (É #[Ê ê 0,Ê Ď 0] 97):=⟨Ç U,nn⟩;have py:l6.w.heap.size<=c.heap.size:=m.r;generalize gJ l6 c (É #[Ê ê 0,Ê Ď 0] 97)=l7 at a F|-;generalize c.heap.size=D at F py|-;clear m c;have QS:fY e9 l l7:=QP.fc a;have aij:fY e9 B l7:=aif.fc a;replace r:=r.r a id;replace f:=f.r a id;replace s:=s.r a id;have J4:=QS.N C;have aik:¬l7.q:=by rwa[QS.q]
 have ar6:l6.w.heap.size<=l7.w.heap.size:=a.I;clear a;have ar7:=J4.fq D<|Ã F.fi;apply fZ (n:=20) J4.r;iterate 4 w_go fA
 u_call Ħ fP Μ fA hF
 iterate 2 w_go fA
 refine Ë λ_ _=> ?_;refine qa (V:=λp=>À<|Â ⟨p,0,Á⟩) (ob:=É #[À<|Â ⟨D,0,Á⟩] 162) U U (by k_ne) J4.r aik (λw=>by go_simp) (λw=>by simp[go_sem]) λc m=> ?_;walk_nrm;have a:=nK (X:=e9) (ob:=É #[À<|Â ⟨D,0,Á⟩] 162) J4 m;have N:gV (gJ l7 c<|É #[À<|Â ⟨D,0,Á⟩] 162) c.heap.size (É #[À<|Â ⟨D,0,Á⟩] 162):=⟨Ç U,nn⟩;have A0:l7.w.heap.size<=c.heap.size:=m.r;generalize gJ l7 c (É #[À<|Â ⟨D,0,Á⟩] 162)=l8 at a N|-;generalize c.heap.size=W at N A0|-;clear m c;have QU:fY e9 l l8:=QS.fc a;have ail:fY e9 B l8:=aij.fc a;replace r:=r.r a id;replace f:=f.r a id;replace s:=s.r a id;replace F:=F.r a id;have QV:=QU.N C;have ain:¬l8.q:=by rwa[QU.q]
 have ar8:l7.w.heap.size<=l8.w.heap.size:=a.I;clear a;have lbw:=QV.fq W<|Ã N.fi;refine qa (V:=λp=>À<|Â ⟨p,0,Á⟩) (ob:=É #[Ĉ (ù 48) #[] #[À<|Â ⟨z,0,Á⟩,À<|Â ⟨y,0,Á⟩]] 1) U U (by k_ne) QV.r ain (λw=>by go_simp) (λw=>by simp[go_sem]) λc m=> ?_;walk_nrm;have a:=nK (X:=e9) (ob:=É #[Ĉ (ù 48) #[] #[À<|Â ⟨z,0,Á⟩,À<|Â ⟨y,0,Á⟩]] 1) QV m;have Y:gV (gJ l8 c<|É #[Ĉ (ù 48) #[] #[À<|Â ⟨z,0,Á⟩,À<|Â ⟨y,0,Á⟩]] 1) c.heap.size (É #[Ĉ (ù 48) #[] #[À<|Â ⟨z,0,Á⟩,À<|Â ⟨y,0,Á⟩]] 1):=⟨Ç U,nn⟩;have JU:l8.w.heap.size<=c.heap.size:=m.r;generalize gJ l8 c (É #[Ĉ (ù 48) #[] #[À<|Â ⟨z,0,Á⟩,À<|Â ⟨y,0,Á⟩]] 1)=l9 at a Y|-;generalize c.heap.size=bf at Y JU|-;clear m c;have J5:fY e9 l l9:=QU.fc a;have aio:fY e9 B l9:=ail.fc a;replace r:=r.r a id;replace f:=f.r a id;replace s:=s.r a id;replace F:=F.r a id;replace N:=N.r a id;have Gt:=J5.N C;have Yj:¬l9.q:=by rwa[J5.q]
 have ar9:l8.w.heap.size<=l9.w.heap.size:=a.I;clear a;have lbf:=Gt.fq bf<|Ã Y.fi;apply fZ (n:=20) Gt.r;iterate 3 w_go fA
 refine Ë λ_ _=> ?_;apply nJ (x:=⟨W,0,Á⟩) U U (by k_ne) Gt.r Yj (Ã<|Ã N.fi) (N.C U) (λw h=>by go_simp) (λw h=>by simp[go_sem,h]);walk_nrm;apply fZ (n:=20) Gt.r;u_call pY.f_add (nm_add Lk) addFn fA hF;refine Ë λ_ _=> ?_;refine X6 pY Gt Yj (by rwa[J5.d]) F.fi F.I U U λQ hC=> ?_;walk_nrm;have a:fY (λb=>b=D) l9 Q:=hC.r;replace F:gV Q D (É #[Ê ê 4294967296,Ê Ď 0] 97):=⟨hC.r.O D F.fi,hC.C⟩;have QW:fY e9 l Q:=J5.wz a λj E e=>by have:=C.fq j E;omega
 have aip:fY e9 B Q:=aio.wz a λj E e=>by have:=L.fq j E;omega
 replace r:=r.r a Z;replace f:=f.r a Z;replace s:=s.r a Z;replace N:=N.r a Z;replace Y:=Y.r a Z;have aiq:=QW.N C;have asa:¬Q.q:=by rwa[QW.q]
 have asb:l9.w.heap.size<=Q.w.heap.size:=a.I;clear a;apply fZ (n:=20) aiq.r;iterate 3 w_go fA
 refine Ë λ_ _=> ?_;refine .fv λyv rW=> ?_;have at9:∀{b:Nat} {o:Ÿ},gV Q b o->gV ({Q with w:=yv}:e7) b o:=λh=>⟨h.fi,(rW.I _<|Ã h.fi).trans h.I⟩;exact hJ g l3 {Q with w:=yv} _ (Æ I (fL kd R) K) qv H y z D W bf _ ⟨QW.G rW,T.wz<|aip.G rW,at9 r,at9 f,at9 s,at9 F,at9 N,at9 Y,⟨Z,Z,Z⟩,λk hk=>by have:=og k hk;omega,λk e=>by have:=oi k e;omega,λk e=>by have:=oq k e;omega,⟨Z,Z,Z⟩⟩ ⟨U,U,U,U,U,U⟩
end
def air{md:ý}{listed:Array Bool}(h:Û md Q listed=[]):∀(a t:Nat),ë md Q a t listed []=[]:=by
 intro a t;cases a with
 |zero=>rfl
 |succ a=>
  simp only[ë];change(match(Û md Q listed)[t%(Û md Q listed).length]? with
   |some i=>ë md Q a (t/(Û md Q listed).length) (listed.setIfInBounds i Ò) [i]
   |none=>[].reverse)=[]
  rw[h];rfl
section
variable{J:Jd}{l:e7}
def Yk{md:ý}(I:Array Bool->ŏ->e7->Prop) (p:∀b a l i k,I b a l->b.size=Q.size->i∈Û md Q b->(Û md Q (b.setIfInBounds i Ò)=[]->k=[])->ff P yQ (λg m=>(∃h,m=G (f.at h<|Ñ Q k::L) qX/\I (b.setIfInBounds i Ò) h g)\/ff P yQ J g m) l (G (f.at a<|Ñ Q (i::k)::L) qX)) (o:∀b a l,I b a l->b.size=Q.size->Û md Q b=[]->ff P yQ J l (G (f.at a<|Ñ Q []::L) qX)): ∀(c t:Nat) (b:Array Bool) (a:ŏ) (l:e7),b.size=Q.size->jh b<=c->I b a l->ff P yQ J l (G (f.at a<|Ñ Q (ë md Q c t b [])::L) qX):=by
 intro c
 induction c with
 |zero=>
  intro t b a l d q j;simpa[ë]using o b a l j d<|PO d Z
 |succ c r=>
  intro t b a l d q j;simp only[ë];change ff P yQ J l (G (f.at a (Ñ Q (match(Û md Q b)[t%(Û md Q b).length]? with
   |some i=>ë md Q c (t/(Û md Q b).length) (b.setIfInBounds i Ò) [i]
   |none=>[].reverse)::L)) qX)
  cases n:(Û md Q b)[t%(Û md Q b).length]? with
  |none=>
   have s:Û md Q b=[]:=by
    cases u:Û md Q b with
    |nil=>rfl
    |cons x e=>
     rw[u]at n;have v:t%(x::e).length<(x::e).length:=ĵ _ fh;simp at n;simp at v;omega
   simpa using o b a l j d s
  |some i=>
   simp only[];rw[linearise_go_acc,List.reverse_singleton,List.singleton_append];have x:=ħ n;refine(p b a l i _ j d x λe=>air e _ _).lE ?_;rintro g m (⟨h,rfl,hI'⟩|hW)
   .exact r _ _ h g (by simpa using d) (by have:=Js (mem_ready.1 x).1;omega) hI'
   .exact hW
def ais{id:Nat}(I:Array Bool->ŏ->e7->Prop)(o:jY l)(p:¬l.q) (g:∀c,fE l l.w c->I (Array.replicate Q.size Ì) y {l with w:={c with drawn:=c.drawn+1}}) (h:∀d b y l i e,I b y l->b.size=Q.size->i∈Û d Q b->(Û d Q (b.setIfInBounds i Ò)=[]->e=[])->ff P yQ (λj k=>(∃m,k=G (f.at m<|Ñ Q e::L) qX/\I (b.setIfInBounds i Ò) m j)\/ff P yQ J j k) l (G (f.at y<|Ñ Q (i::e)::L) qX)) (n:∀d b y l,I b y l->b.size=Q.size->Û d Q b=[]->ff P yQ J l (G (f.at y<|Ñ Q []::L) qX)): ff P yQ J l (G (f.at y<|ö (ä id Q Ò)::L) qX):=by
 refine .mk U λc r=>⟨_,_,_,_,stepG_region_draw,PN (lZ o r) p,?_⟩;unfold Region.schedule;split
 .exact Yk I (h _) (n _) _ _ _ _ _ fh (by rw[CL];exact Ú _)<|g c r
 .exact Yk I (h _) (n _) _ _ _ _ _ fh (by rw[CL];exact Ú _)<|g c r
end
def A7:å:=⟨Â 15,ę<|Ù 1,100, "work.go:72",#[],Á⟩
def A8:å:=⟨Â 16,ę<|Ù 4,3, "work.go:72",#[],Á⟩
def A9:å:=⟨Â 17,ę<|Ù 1,100, "work.go:72",#[],Á⟩
def wB:å:=⟨Â 18,Ě {callee:=Ŕ .len,args:=#[Ù 17],argTypes:=#[100]},3, "work.go:72",#[⟨2,Ü⟩],Á⟩
def tJ:å:=⟨Â 19,Λ .rem 3 (Ù 16) (Ù 18) 3,3, "work.go:72",#[⟨1,Ü⟩,⟨3,Ü⟩],Á⟩
def tK:å:=⟨Â 20,ő 100 (Ù 15)<|Ù 19,0, "work.go:72",#[⟨0,Ü⟩,⟨4,Ü⟩],Á⟩
def wC:å:=⟨Â 21,ć 101<|Ù 20,101, "work.go:72",#[⟨5,Ü⟩],Á⟩
def Ba:å:=⟨Â 22,ć 155<|Ù 5,155, "work.go:72",#[],Á⟩
def wD:å:=⟨Á,.send (Ù 21)<|Ù 22,0, "work.go:72",#[⟨6,Ü⟩,⟨7,Ü⟩],Á⟩
def nt:Array å:=#[A7,A8,A9,wB,tJ,tK,wC,Ba,wD]
noncomputable def J6:Ę:=lu Ŗ [1,1,0,0]
noncomputable def Yl:Ę:=lu Ŗ [1]
noncomputable def J7:Ę:=lu Ŗ [0,1,0,0]
noncomputable def Bb (t:Array Ï) (a:List é):Ý:=G ((base 52).at ⟨t,[]⟩ [ö J7,ą J7,ô 0,ö Yl]) a
structure DT(dv:Ï)(qb:Option â)(q cq i:Nat)(t:Array Ï):Prop where
 r:t.size=32
 C:t[1]?=Â dv
 t8:t[8]?=Â (Æ qb q cq)
 M:t[9]?=Â (Ê Î q)
 I:t[10]?=Â (Ê Î i)
def Gu(t:Array Ï)(h:t.size=32):∃a b c d e f g i j k l m n o p q r s u v w x y z B C D E F G H I:Ï,t=#[a,b,c,d,e,f,g,i,j,k,l,m,n,o,p,q,r,s,u,v,w,x,y,z,B,C,D,E,F,G,H,I]:=by obtain⟨_,rfl⟩:=yk t h;exact⟨_,_,_,_,_,_,_,_,_,_,_,_,_,_,_,_,_,_,_,_,_,_,_,_,_,_,_,_,_,_,_,_,U⟩
def tL(c n i a d:Nat)(b tk:Ï)(_:Unit):Nat->Ï
 |0=>b
 |1=>Ê Î i
 |2=>b
 |3=>Ê Î n
 |4=>Ê Î a
 |5=>À<|Â ⟨c,a,Á⟩
 |6=>è<|Â d
 |7=>tk
 |_=>Å
def J8(a:e7)(listed:Array Bool)(_:Unit)(l:e7):Prop:=iw e9 a l/\¬listed.getD 8 Ì=Ò
section
variable{J N:Jd}{p:e7}{g s:Nat}{u:Option â}
def ait(Df:gp p)(hq:¬p.q)(ht:d.size=32)(AB:d[1]?=Â (Æ (Â ⟨j9,0,Á⟩) n j))(F1:d[4]?=Â (Ê Î i))(PY:d[5]?=Â (À<|Â ⟨g,0,Á⟩))(z:p.O g)(T:p.O j9)(hn:0<n)(uZ:n<1000)(hi1:i<1000) (Ym:i%n=j6) (V:p.w.cell? ⟨j9,j6,Á⟩=Â (è<|Â m)) (W:p.w.cell? ⟨g,0,Á⟩=Â (À u)) (X:p.w.cell? ⟨g,1,Á⟩=Â (Ê Î s)) (Y:p.w.cell? ⟨g,2,Á⟩=Â (À<|Â ⟨j7,0,Á⟩)) (c3:p.w.cell? ⟨g,3,Á⟩=Â (À O)) (hJ:∀l H,iw e9 p l->H.size=32->(∀c,c<15->H[c]?=d[c]?)->zN Ä Ò m (Đ #[À u,Ê Î s,À<|Â ⟨j7,0,Á⟩,À O]) N l (G ((base 52).at ⟨H,[]⟩<|Ñ nt [8]::L) qX)->J l (G ((base 52).at ⟨H,[]⟩<|Ñ nt [8]::L) qX)) (hN:∀l H,iw e9 p l->H.size=32->(∀c,c<15->H[c]?=d[c]?)->ff Ä Ò N l (G ((base 52).at ⟨H,[]⟩<|Ñ nt []::L) qX)) (md:ý) (listed:Array Bool) (a:ŏ) (l:e7) (i':Nat) (rest:List Nat) (hI:II nt d (tL j9 n i j6 m (Æ (Â ⟨j9,0,Á⟩) n j)<|Đ #[À u,Ê Î s,À<|Â ⟨j7,0,Á⟩,À O]) (J8 p) listed a l) (jC:listed.size=nt.size) (C:i'∈Û md nt listed) (Gv:Û md nt (listed.setIfInBounds i' Ò)=[]->rest=[]): ff Ä Ò (λD F=>(∃Q,F=G ((base 52).at Q<|Ñ nt rest::L) qX/\II nt d (tL j9 n i j6 m (Æ (Â ⟨j9,0,Á⟩) n j)<|Đ #[À u,Ê Î s,À<|Â ⟨j7,0,Á⟩,À O]) (J8 p) (listed.setIfInBounds i' Ò) Q D)\/ff Ä Ò J D F) l (G ((base 52).at a<|Ñ nt (i'::rest)::L) qX):=by
 let⟨x,t,S,h8⟩:=hI;have I:tx nt d.size=Ò:=by rw[ht];decide
 have gI:=CM C;have K:=S.fq;have M:¬l.q:=by rwa[S.q]
 have mQ:a.tmps[1]?=Â (Æ (Â ⟨j9,0,Á⟩) n j):=(t.C A).trans AB;have Qs:a.tmps[4]?=Â (Ê Î i):=(t.C A).trans F1;have pZ:a.tmps[5]?=Â (À<|Â ⟨g,0,Á⟩):=(t.C A).trans PY;have y:∀b f v,p.O b->p.w.cell? ⟨b,f,Á⟩=Â v->gS l ⟨b,f,Á⟩/\l.w.cell? ⟨b,f,Á⟩=Â v:=λb f v E h=>⟨Ã<|Ã<|S.O b E,by rwa[gF<|S.r b<|Ã E]⟩;have P:∀{k:Nat},k≠8->∀B,fE l l.w B->J8 p (listed.setIfInBounds k Ò) () {l with w:=B}:=λhm B r=>⟨S.N (λ_ q=>q.elim) r,by rwa[ç Ì hm]⟩;have aiu:j6<n:=by rw[<-Ym];exact ĵ _ hn
 have aiv:(j6:Int)<(n:Int):=Z
 have Gw:¬(n:Int)=0:=Z
 have aiw:¬n=0:=Z
 have htm:Int.tmod (i:Int) (n:Int)=(j6:Int):=by rw[Int.tmod_eq_emod_of_nonneg Z,<-Ym];simp
 have n8:Î.wrap (j6:Int)=(j6:Int):=AH Z Z;have J9:nt.size=9:=A
 rw[J9]at gI;match i',gI with
 |0,_=>
  refine(hD (o:=A7) I t U U C (by k_ne) K M (λB r=> ?_) (λB r e D=> ?_)<|P A).fI λ_ _ h=>Ã h
  .simp only[tL,A7];go_simp
  .simp[go_sem,A7,mQ]at D
 |1,_=>
  refine(hD (o:=A8) I t U U C (by k_ne) K M (λB r=> ?_) (λB r e D=> ?_)<|P A).fI λ_ _ h=>Ã h
  .simp only[tL,A8];go_simp
  .simp[go_sem,A8,Qs]at D
 |2,_=>
  refine(hD (o:=A9) I t U U C (by k_ne) K M (λB r=> ?_) (λB r e D=> ?_)<|P A).fI λ_ _ h=>Ã h
  .simp only[tL,A9];go_simp
  .simp[go_sem,A9,mQ]at D
 |3,_=>
  have F:a.tmps[17]?=Â (Æ (Â ⟨j9,0,Á⟩) n j):=t.r 2 A9 17 U (gY (o:=wB) C U U) U;refine(hD (o:=wB) I t U U C (by k_ne) K M (λB r=> ?_) (λB r e D=> ?_)<|P A).fI λ_ _ h=>Ã h
  .simp only[tL,wB];go_simp
  .simp[go_sem,wB,F]at D
 |4,_=>
  have F:a.tmps[16]?=Â (Ê Î i):=t.r 1 A8 16 U (gY (o:=tJ) C U U) U;have Q:a.tmps[18]?=Â (Ê Î n):=t.r 3 wB 18 U (gY (o:=tJ) C U U) U;refine(hD (o:=tJ) I t U U C (by k_ne) K M (λB r=> ?_) (λB r e D=> ?_)<|P A).fI λ_ _ h=>Ã h
  .simp only[tL,tJ];go_simp
  .simp[go_sem,tJ,F,Q,Gw,aiw,htm,n8]at D
 |5,_=>
  have F:a.tmps[15]?=Â (Æ (Â ⟨j9,0,Á⟩) n j):=t.r 0 A7 15 U (gY (o:=tK) C U U) U;have Q:a.tmps[19]?=Â (Ê Î j6):=t.r 4 tJ 19 U (gY (o:=tK) C U U) U;refine(hD (o:=tK) I t U U C (by k_ne) K M (λB r=> ?_) (λB r e D=> ?_)<|P A).fI λ_ _ h=>Ã h
  .simp only[tL,tK];go_simp
  .simp[go_sem,tK,F,Q,aiu,aiv]at D
 |6,_=>
  have Q:a.tmps[20]?=Â (À<|Â ⟨j9,j6,Á⟩):=t.r 5 tK 20 U (gY (o:=wC) C U U) U;refine(hD (o:=wC) I t U U C (by k_ne) K M (λB r=> ?_) (λB r e D=> ?_)<|P A).fI λ_ _ h=>Ã h
  .have F:=((y j9 _ _ T V).1.r r).trans (y j9 _ _ T V).2;simp only[tL,wC];go_simp
  .have F:=((y j9 _ _ T V).1.r r).trans (y j9 _ _ T V).2;have hee:e=⟨û ⟨j9,j6,Á⟩,Ì,Ì⟩:=by simp[go_sem,wC,F,Q]at D;exact D
   subst hee;exact(y j9 _ _ T V).1.C
 |7,_=>
  refine(hD (o:=Ba) I t U U C (by k_ne) K M (λB r=> ?_) (λB r e D=> ?_)<|P A).fI λ_ _ h=>Ã h
  .have F:=((y g _ _ z W).1.r r).trans (y g _ _ z W).2;have Q:=((y g _ _ z X).1.r r).trans (y g _ _ z X).2;have p9:=((y g _ _ z Y).1.r r).trans (y g _ _ z Y).2;have tE:=((y g _ _ z c3).1.r r).trans (y g _ _ z c3).2;simp only[tL,Ba];go_simp
  .have F:=((y g _ _ z W).1.r r).trans (y g _ _ z W).2;have Q:=((y g _ _ z X).1.r r).trans (y g _ _ z X).2;have p9:=((y g _ _ z Y).1.r r).trans (y g _ _ z Y).2;have tE:=((y g _ _ z c3).1.r r).trans (y g _ _ z c3).2;simp[go_sem,Ba,pZ,F,Q,p9,tE]at D;rcases D with rfl|rfl|rfl|rfl
   .exact(y g _ _ z W).1.C
   .exact(y g _ _ z X).1.C
   .exact(y g _ _ z Y).1.C
   .exact(y g _ _ z c3).1.C
 |8,_=>
  have d6:=gY (j:=6) (o:=wD) C U U;have d7:=gY (j:=7) (o:=wD) C U U;have Qd:a.tmps[21]?=Â (è<|Â m):=t.r 6 wC 21 U d6 U;have FT:a.tmps[22]?=Â (Đ #[À u,Ê Î s,À<|Â ⟨j7,0,Á⟩,À O]):=t.r 7 Ba 22 U d7 U;have d5:=t.I (j:=5) (o:=wC) U d6 U;have d0:=t.I (j:=0) (o:=tK) U d5 U;have d4:=t.I (j:=4) (o:=tK) U d5 U;have d1:=t.I (j:=1) (o:=tJ) U d4 U;have d3:=t.I (j:=3) (o:=tJ) U d4 U;have d2:=t.I (j:=2) (o:=wB) U d3 U;have py:Û md nt (listed.setIfInBounds 8 Ò)=[]:=by
   rw[List.eq_nil_iff_forall_not_mem];intro f hj;have Gx:=CM hj;have F:=PV hj;rw[J9]at Gx;by_cases Q:f=8
   .subst Q;have D:8<listed.size:=by rw[jC,J9];decide
    simp[D]at F
   .rw[ç Ò<|Ne.symm Q]at F;have D:=wh F;match f,Gx,Q with
    |0,_,_=>exact D d0
    |1,_,_=>exact D d1
    |2,_,_=>exact D d2
    |3,_,_=>exact D d3
    |4,_,_=>exact D d4
    |5,_,_=>exact D d5
    |6,_,_=>exact D d6
    |7,_,_=>exact D d7
    |8,_,h=>exact h U
  obtain rfl:=Gv py;let⟨F,ds⟩:=a;obtain rfl:ds=[]:=t.M;have Gy:F.size=32:=t.S.trans ht;have Ka:∀c,c<15->F[c]?=d[c]?:=λc hd=>t.b c λf o E _ e=>by
   have Gx:=(æ.1 E).1;rw[J9]at Gx;match f,Gx with
   |0,_=>
    have D:o=A7:=(Ó<|show Â A7=Â o from E).symm;rw[D]at e;have Q:15=c:=Ó (show Â 15=Â c from e);omega
   |1,_=>
    have D:o=A8:=(Ó<|show Â A8=Â o from E).symm;rw[D]at e;have Q:16=c:=Ó (show Â 16=Â c from e);omega
   |2,_=>
    have D:o=A9:=(Ó<|show Â A9=Â o from E).symm;rw[D]at e;have Q:17=c:=Ó (show Â 17=Â c from e);omega
   |3,_=>
    have D:o=wB:=(Ó<|show Â wB=Â o from E).symm;rw[D]at e;have Q:18=c:=Ó (show Â 18=Â c from e);omega
   |4,_=>
    have D:o=tJ:=(Ó<|show Â tJ=Â o from E).symm;rw[D]at e;have Q:19=c:=Ó (show Â 19=Â c from e);omega
   |5,_=>
    have D:o=tK:=(Ó<|show Â tK=Â o from E).symm;rw[D]at e;have Q:20=c:=Ó (show Â 20=Â c from e);omega
   |6,_=>
    have D:o=wC:=(Ó<|show Â wC=Â o from E).symm;rw[D]at e;have Q:21=c:=Ó (show Â 21=Â c from e);omega
   |7,_=>
    have D:o=Ba:=(Ó<|show Â Ba=Â o from E).symm;rw[D]at e;have Q:22=c:=Ó (show Â 22=Â c from e);omega
   |8,_=>
    have D:o=wD:=(Ó<|show Â wD=Â o from E).symm;rw[D]at e;cases(show Á=Â c from e)
  refine .fv λB r=>Ç (.fv λzK D=> ?_);have Q:iw e9 p ({l with w:=zK}:e7):=S.N (λ_ q=>q.elim)<|r.fc ⟨D.r,D.I,D.N,D.Y,D.S⟩;refine hJ _ F Q Gy Ka ⟨U,U,λD=>⟨ñ #[],?_⟩,?_⟩
  .refine(Ż (cases:=#[scase m (Đ #[À u,Ê Î s,À<|Â ⟨j7,0,Á⟩,À O])<|ñ #[]]) (blocking:=Ò) (shape:=.send) (w':=D) (o:=wD) rfl rfl (by k_ne) ?_).trans ?_
   .simp[go_sem,wD,ĉ,scase,ĥ,Qd,FT]
   .have:ŗ Ä (base 52).fn ⟨F,[]⟩ wD D=#[]:=by
     unfold ŗ;simp[go_sem,wD,ĉ,ĥ,Qd,FT,Ī]
    rw[this]
  .have e:({G ((base 52).at ⟨F,[]⟩<|Ñ nt [8]::L) qX with frame:=(G ((base 52).at ⟨F,[]⟩<|Ñ nt [8]::L) qX).frame.finish Å}:Ý)=G ((base 52).at ⟨F,[]⟩<|Ñ nt []::L) qX:=by
    have:(G ((base 52).at ⟨F,[]⟩<|Ñ nt [8]::L) qX).frame.finish Å=(base 52).at (Ο ⟨F,[]⟩ Á Å) (Ñ nt []::L):=Ģ _ _ _ _ _ _ _;rw[this];rfl
   rw[e];exact hN _ F Q Gy Ka
 |n+9,h=>exact absurd h Z
end
section
variable{N:Jd}{l:e7}{f:Option â}
theorem aix(s:gp l)(K:¬l.q)(G:DT (Æ (Â ⟨J,0,Á⟩) n j) (Â ⟨j6,0,Á⟩) b m i d)(hiq:i<b)(AT:b<1000)(hn:0<n)(uZ:n<1000)(Yn:l.O J)(cd:l.w.cell? ⟨J,i%n,Á⟩=Â (è<|Â k))(QX:l.M j6) (i0:l.w.cell? ⟨j6,i*4,Á⟩=Â (À f)) (i1:l.w.cell? ⟨j6,i*4+1,Á⟩=Â (Ê Î j7)) (i2:l.w.cell? ⟨j6,i*4+2,Á⟩=Â (À<|Â ⟨j9,0,Á⟩)) (i3:l.w.cell? ⟨j6,i*4+3,Á⟩=Â (À O)) (hN:∀t H,iw e9 l t->DT (Æ (Â ⟨J,0,Á⟩) n j) (Â ⟨j6,0,Á⟩) b m (i+1) H->ff Ä Ò N t (Bb H qX)): ff Ä Ò (zN Ä Ò k (Đ #[À f,Ê Î j7,À<|Â ⟨j9,0,Á⟩,À O]) N) l (Bb d qX):=by
 obtain⟨y0,y1,y2,y3,y4,y5,y6,y7,y8,y9,wj,yn,wm,qL,rQ,p6,uT,uU,tB,tC,tD,rR,rS,rT,qF,rM,qG,oJ,nI,pe,pf,pg,rfl⟩:=Gu d G.r;obtain rfl:y1=Æ (Â ⟨J,0,Á⟩) n j:=by simpa using G.C
 obtain rfl:y8=Æ (Â ⟨j6,0,Á⟩) b m:=by simpa using G.t8
 obtain rfl:y9=Ê Î b:=by simpa using G.M
 obtain rfl:wj=Ê Î i:=by simpa using G.I
 have qM:∀y:â,False->l.r y:=λy ha=>ha.elim;have asc:(i:Int)<(b:Int):=Z
 have hF:True:=trivial;simp only[Bb];conv in J7=>whnf
 apply fZ (n:=30) s.r;repeat w_go fA
 refine Ë λ_ _=> ?_;have g:∀c,gS l ⟨j6,c,Á⟩:=λc=>Ã QX;refine uQ (v:=Đ #[À f,Ê Î j7,À<|Â ⟨j9,0,Á⟩,À O]) U U (by k_ne) s.r K (λo r=> ?_) (λo r e h=> ?_) ?_
 .have u:=((g<|i*4).r r).trans i0;have z:=((g<|i*4+1).r r).trans i1;have B:=((g<|i*4+2).r r).trans i2;have C:=((g<|i*4+3).r r).trans i3;go_simp
 .have u:=((g<|i*4).r r).trans i0;have z:=((g<|i*4+1).r r).trans i1;have B:=((g<|i*4+2).r r).trans i2;have C:=((g<|i*4+3).r r).trans i3;simp[go_sem,u,z,B,C]at h;rcases h with rfl|rfl|rfl|rfl
  .exact(g _).C
  .exact(g _).C
  .exact(g _).C
  .exact(g _).C
 walk_nrm;refine FU (ob:=É #[À Á,Ê Î 0,À Á,À Á] 155) U U (by k_ne) s.r K (λw=>by go_simp) (λw=>by simp[go_sem]) λo X=> ?_;walk_nrm;have D:iw e9 l (gJ l o<|É #[À Á,Ê Î 0,À Á,À Á] 155):=Jx s qM X;have L:(gJ l o<|É #[À Á,Ê Î 0,À Á,À Á] 155).w.heap[o.heap.size]?=Â (É #[À Á,Ê Î 0,À Á,À Á] 155):=nn;have rU:l.w.heap.size<=o.heap.size:=X.r;have q:(gJ l o<|É #[À Á,Ê Î 0,À Á,À Á] 155).O o.heap.size:=Ç U;generalize gJ l o (É #[À Á,Ê Î 0,À Á,À Á] 155)=l₁ at D L q|-;generalize o.heap.size=tb at L q rU|-;apply fZ (n:=3) D.fq;w_go fA;refine Ë λ_ _=> ?_;refine uP U U (by k_ne) λr P=> ?_;have E:r.heap[tb]?=_:=(P.I tb<|Ã q).trans L;have u:r.cell? ⟨tb,0,Á⟩=Â (À Á):=by simp[Ö,E]
 have z:r.cell? ⟨tb,1,Á⟩=Â (Ê Î 0):=by simp[Ö,E]
 have B:r.cell? ⟨tb,2,Á⟩=Â (À Á):=by simp[Ö,E]
 have C:r.cell? ⟨tb,3,Á⟩=Â (À Á):=by simp[Ö,E]
 have hz:∀c,r.frozen? ⟨tb,c,Á⟩=Ì:=λc=>by simp[î,E]
 go_simp;refine⟨{l₁ with w:=iN r tb (À f) (Ê Î j7) (À<|Â ⟨j9,0,Á⟩) (À O)},Jy (p:=tb) (lZ D.fq P) (by rwa[D.q]) q wi (λc x=>yj x) ⟨U,U,U⟩ λe h=> ?_,?_⟩
 .have a:=đ h;have e:∀c,po l₁ ⟨tb,c,Á⟩:=λc=>Ã q;simp[go_sem,á _ _ _ _ _ _ (show Ø (À f)=Ò from rfl),á _ _ _ _ _ _ (show Ø (À<|Â ⟨j9,0,Á⟩)=Ò from rfl),á _ _ _ _ _ _ (show Ø (À O)=Ò from rfl),u,z,B,C,hz]at a;rcases a with rfl|rfl|rfl|rfl
  .exact(e _).r
  .exact(e _).r
  .exact(e _).r
  .exact(e _).r
 let⟨Q,S,T,V⟩:=P5 (v0:=À f) (v1:=Ê Î j7) (v2:=À<|Â ⟨j9,0,Á⟩) (v3:=À O) u z B C;have F:=P7 (w':=iN r tb (À f) (Ê Î j7) (À<|Â ⟨j9,0,Á⟩)<|À O) s qM D P rU wi λc x=>yj x;have AJ:({l₁ with w:=iN r tb (À f) (Ê Î j7) (À<|Â ⟨j9,0,Á⟩) (À O)}:e7).O tb:=q;replace Q:({l₁ with w:=iN r tb (À f) (Ê Î j7) (À<|Â ⟨j9,0,Á⟩) (À O)}:e7).w.cell? ⟨tb,0,Á⟩=_:=Q;replace S:({l₁ with w:=iN r tb (À f) (Ê Î j7) (À<|Â ⟨j9,0,Á⟩) (À O)}:e7).w.cell? ⟨tb,1,Á⟩=_:=S;replace T:({l₁ with w:=iN r tb (À f) (Ê Î j7) (À<|Â ⟨j9,0,Á⟩) (À O)}:e7).w.cell? ⟨tb,2,Á⟩=_:=T;replace V:({l₁ with w:=iN r tb (À f) (Ê Î j7) (À<|Â ⟨j9,0,Á⟩) (À O)}:e7).w.cell? ⟨tb,3,Á⟩=_:=V;generalize({l₁ with w:=iN r tb (À f) (Ê Î j7) (À<|Â ⟨j9,0,Á⟩) (À O)}:e7)=l₂ at Q S T V F AJ|-;clear L q D E u z B C hz P r l₁ X o;have W:=F.G s;have pw:¬l₂.q:=by rwa[F.q]
 have cd2:l₂.w.cell? ⟨J,i%n,Á⟩=Â (è<|Â k):=(gF<|F.r J<|Ã Yn).trans cd;apply fZ (n:=5) W.r;w_go fA;refine Ë λ_ _=> ?_;refine ais (II nt #[y0,Æ (Â ⟨J,0,Á⟩) n j,y2,y3,Ê Î i,À<|Â ⟨tb,0,Á⟩,y6,y7,Æ (Â ⟨j6,0,Á⟩) b m,Ê Î b,Ê Î i,ŝ Ò,Ê Î i,À<|Â ⟨j6,i*4,Á⟩,Đ #[À f,Ê Î j7,À<|Â ⟨j9,0,Á⟩,À O],p6,uT,uU,tB,tC,tD,rR,rS,rT,qF,rM,qG,oJ,nI,pe,pf,pg] (tL J n i (i%n) k (Æ (Â ⟨J,0,Á⟩) n j)<|Đ #[À f,Ê Î j7,À<|Â ⟨j9,0,Á⟩,À O])<|J8 l₂) W.r pw (λa x=> ?_) (λY listed a t i' rest hI I e Gv=>ait (J:=zN Ä Ò k (Đ #[À f,Ê Î j7,À<|Â ⟨j9,0,Á⟩,À O]) N) (N:=N) W pw U U U U AJ (F.O J Yn) hn uZ Z U cd2 Q S T V (λl H _ _ _ h=>h) (λt H hA hs h=> ?_) Y listed a t i' rest hI I e Gv) λY listed a j5 hI I yo=> ?_
 .exact⟨(),mr.G _ _ _,(iw.fQ W.r).N (λ_ b=>b.elim) ⟨x.r,x.I,x.N,x.Y,x.S⟩,A⟩
 .have x:=F.fc hA;have a:=(h 1 A).trans (show _=Â (Æ (Â ⟨J,0,Á⟩) n j)from U);have o8:=(h 8 A).trans (show _=Â (Æ (Â ⟨j6,0,Á⟩) b m)from U);have o9:=(h 9 A).trans (show _=Â (Ê Î b)from U);have o10:=(h 10 A).trans (show _=Â (Ê Î i)from U);clear h;obtain⟨x0,x1,x2,x3,x4,x5,x6,x7,x8,x9,XF,x11,x12,x13,x14,x15,x16,x17,x18,x19,x20,x21,x22,x23,x24,x25,x26,x27,x28,x29,x30,x31,rfl⟩:=Gu H hs;obtain rfl:x1=Æ (Â ⟨J,0,Á⟩) n j:=by simpa using a
  obtain rfl:x8=Æ (Â ⟨j6,0,Á⟩) b m:=by simpa using o8
  obtain rfl:x9=Ê Î b:=by simpa using o9
  obtain rfl:XF=Ê Î i:=by simpa using o10
  apply fZ (n:=9) x.fq;iterate 7 w_go fA
  refine Ë λ_ _=> ?_;refine hN t _ x ⟨U,U,U,U,?_⟩;simp;grind [AH]
 .let⟨x,a,h,h8⟩:=hI;have py:∀i∈ã 9,listed.getD i Ì=Ò:=by
   cases Y
   .exact pv yo I (ã 9) [] fP λi e=>by cases e
   .exact pv yo I (ã 9) [] fP λi e=>by cases e
   .exact pv yo I (ã 9) [] fP λi e=>by cases e
  grind
end
noncomputable def Bc (t:Array Ï) (a:List é):Ý:=G ((base 52).at ⟨t,[]⟩ [ö J6,ą J6,ô 2]) a
structure ET(dv:Ï)(n j:Nat)(t:Array Ï):Prop where
 r:t.size=32
 aiy:t[24]?=Â dv
 C:t[25]?=Â (Ê Î n)
 I:t[26]?=Â (Ê Î j)
def Gz(t:Array Ï):é:=(base 37).at ⟨t,[]⟩ [Ñ JG [2],ö<|(ä 13 JH Ì).seq JJ]
def Dg(t:Array Ï)(a:List é):Ý:=G ((base 37).at ⟨t,[]⟩ [Ñ JH [],ö JJ]) a
structure SE(ba all np:Nat)(t:Array Ï):Prop where
 r:t.size=49
 I:t[8]?=Â (À<|Â ⟨ba,0,Á⟩)
 C:t[11]?=Â (À<|Â ⟨np,0,Á⟩)
 Ql:t[12]?=Â (À<|Â ⟨all,0,Á⟩)
section
variable{J a N:Jd}{l:e7}{t:Array Ï}{ba all np:Nat}{dv:Ï}
def aiz(e:jY l)(a:ST ba all np n n (Æ O k j9) dv t)(f:∀b d,DT dv O k j9 0 b->SE ba all np d->ff Ä Ò J l (Bb b<|Gz d::qX)):ff Ä Ò J l (AQ t qX):=by
 obtain⟨p,q,r,s,u,v,w,x,g,y,h,i,j,c,z,B,C,D,E,F,G,H,I,K,L,M,N,m,o,P,Q,S,T,V,W,X,Y,s8,s9,td,tf,tg,tj,tq,tu,tw,pj,pn,vZ,rfl⟩:=Gi t a.r;obtain rfl:g=À (Â ⟨ba,0,Á⟩):=by simpa using a.a
 obtain rfl:h=Æ O k j9:=by simpa using a.C
 obtain rfl:i=À (Â ⟨np,0,Á⟩):=by simpa using a.I
 obtain rfl:j=À (Â ⟨all,0,Á⟩):=by simpa using a.M
 obtain rfl:dv=c:=(show c=dv by simpa using a.N).symm;obtain rfl:m=Ê Î n:=by simpa using a.S
 obtain rfl:o=Ê Î n:=by simpa using a.Y
 have hF:True:=trivial;apply fZ (n:=40) e;simp only[AQ,C9,Qj];iterate 7 w_go fA
 simp only[JK,JG];iterate 4 w_go fA
 u_call ŵ fP Ŗ fA hF
 iterate 9 w_go fA
 refine Ë λ_ _=> ?_;exact f _ _ ⟨U,U,U,U,U⟩ ⟨U,U,U,U⟩
def aiA(d:jY l)(a:DT (Æ (Â ⟨j7,0,Á⟩) n b) O k j9 k t)(e:∀c,ET (Æ (Â ⟨j7,0,Á⟩) n b) n 0 c->ff Ä Ò J l (Bc c qX)):ff Ä Ò J l (Bb t qX):=by
 obtain⟨i,f,j,m,o,p,q,r,s,g,h,u,v,w,x,y,z,B,C,D,E,F,G,H,I,K,L,M,N,P,Q,S,rfl⟩:=Gu t a.r;obtain rfl:f=Æ (Â ⟨j7,0,Á⟩) n b:=by simpa using a.C
 obtain rfl:g=Ê Î k:=by simpa using a.M
 obtain rfl:h=Ê Î k:=by simpa using a.I
 have hF:True:=trivial;apply fZ (n:=40) d;simp only[Bb];conv in J7=>whnf
 iterate 7 w_go fA
 conv in Yl=>whnf
 iterate 8 w_go fA
 refine Ë λ_ _=> ?_;exact e _ ⟨U,U,U,U⟩
def aiB(a:gp l)(g:¬l.q)(c:ET (Æ (Â ⟨j7,0,Á⟩) n b) n j t)(z:j<n)(B:n<1000)(i:l.O j7)(o:l.w.cell? ⟨j7,j,Á⟩=Â (è<|Â m)) (p:∀d e,iw e9 l d->ET (Æ (Â ⟨j7,0,Á⟩) n b) n (j+1) e->ff Ä Ò N d (Bc e qX)):ff Ä Ò (IB Ä Ò m N) l (Bc t qX):=by
 obtain⟨C,D,F,G,H,I,J,K,L,M,P,Q,S,T,V,W,X,Y,tB,tC,tD,rR,rS,rT,q,u,v,oJ,nI,pe,pf,pg,rfl⟩:=Gu t c.r;obtain rfl:q=Æ (Â ⟨j7,0,Á⟩) n b:=by simpa using c.aiy
 obtain rfl:u=Ê Î n:=by simpa using c.C
 obtain rfl:v=Ê Î j:=by simpa using c.I
 have hF:True:=trivial;apply fZ (n:=40) a.r;simp only[Bc];conv in J6=>whnf
 repeat w_go fA
 refine Ë λ_ _=> ?_;apply nJ (x:=⟨j7,j,Á⟩) U U (by k_ne) a.r g (Ã<|Ã i) o (λw h=>by go_simp) (λw h=>by simp[go_sem,h]);walk_nrm;apply fZ (n:=40) a.r;iterate 4 w_go fA
 refine Ë λ_ _=> ?_;refine .fv λw₁ y=>⟨U,U,_,U,λzK cap buf s r tm h=>(stepG_close U U (by k_ne) U U h fP).trans U,?_⟩;walk_nrm;have f:=(iw.fQ (E:=e9) a.r).N (λ_ k=>k.elim) y;apply fZ (n:=20) f.fq;iterate 7 w_go fA
 refine Ë λ_ _=> ?_;refine p _ _ f ⟨U,U,U,?_⟩;simp;exact AH Z Z
def aiC(e:gp l)(g:l.d=0)(p:60<=i)(f:ET dv n n t)(c:SE ba all np d)(j:l.K ⟨all,0,Á⟩/\l.K ⟨all,1,Á⟩)(q:mP all l.w) (r:∀m o,iw e9 l m->SE ba all np o->a m (Dg o qX)):ff Ä Ò (pV Ä Ò i all a .iR) l (Bc t<|Gz d::qX):=by
 obtain⟨G,H,I,J,L,M,N,P,Q,S,T,V,W,X,Y,p6,uT,uU,tB,tC,tD,rR,rS,rT,qF,s,u,oJ,nI,pe,pf,pg,rfl⟩:=Gu t f.r;obtain rfl:s=Ê Î n:=by simpa using f.C
 obtain rfl:u=Ê Î n:=by simpa using f.I
 have hF:True:=trivial;apply fZ (n:=40) e.r;simp only[Bc,Gz,JG];conv in J6=>whnf
 iterate 8 w_go fA
 obtain⟨z0,z1,z2,z3,z4,z5,z6,z7,v,z9,z10,x,y,z13,z14,z15,z16,z17,z18,z19,z20,z21,z22,z23,z24,z25,z26,z27,z28,z29,z30,z31,z32,z33,z34,z35,z36,z37,z38,z39,z40,z41,z42,z43,z44,z45,z46,z47,z48,rfl⟩:=Gi d c.r;obtain rfl:v=À (Â ⟨ba,0,Á⟩):=by simpa using c.I
 obtain rfl:x=À (Â ⟨np,0,Á⟩):=by simpa using c.C
 obtain rfl:y=À (Â ⟨all,0,Á⟩):=by simpa using c.Ql
 u_leave0 ŵ fA hF
 simp only[JH];iterate 3 w_go fA
 u_call pY.f_wait (nm_wait Lk) waitFn fA hF
 refine Ë λ_ _=> ?_;refine Xn pY p (⟨Ã j.1,Ã j.2,λw z b B C D F h=>h.fc ⟨b,B,C,D,F⟩⟩) ⟨e.r,q,fE.fQ _ _⟩ g λz B=> ?_;walk_nrm;refine .fv λC b=> ?_;have h:=(iw.fQ (E:=e9) e.r).N (λ_ k=>k.elim)<|B.2.2.fc ⟨b.r,b.I,b.N,b.Y,b.S⟩;exact r {l with d:=0,w:=C} _ ⟨h.O,h.h,h.Y,h.I,h.c,h.K,h.q,g.symm,h.fq,h.f,h.r,h.e,h.S,h.b,h.g⟩ ⟨U,U,U,U⟩
end
def u5(a:Nat)(b c:Ï)(_:Unit):Nat->Ï
 |0=>b
 |1=>À<|Â ⟨a,0,Á⟩
 |2=>À<|Â ⟨a,0,Á⟩
 |3=>À<|Â ⟨a,2,Á⟩
 |4=>c
 |5=>b
 |_=>c
def Kb(a:e7)(_:Array Bool)(_:Unit)(l:e7):Prop:=fY e9 a l
section
variable{J:Jd}{g:e7}{h:Option â}
def aiD(K:¬g.q)(N:q.size=49)(P:q[8]?=Â (À<|Â ⟨m,0,Á⟩))(Q:q[11]?=Â (À<|Â ⟨j9,0,Á⟩))(E:g.M m)(F:gS g ⟨j9,2,Á⟩)(S:g.w.cell? ⟨m,0,Á⟩=Â (Æ O b n))(T:g.w.cell? ⟨j9,2,Á⟩=Â (Æ h j6 j7)) (md:ý) (listed:Array Bool) (y:ŏ) (l:e7) (i:Nat) (jJ:List Nat) (V:II wv q (u5 j9 (Æ O b n)<|Æ h j6 j7) (Kb g) listed y l) (k:i∈Û md wv listed): ff Ä Ò (λc d=>∃a,d=G ((base 37).at a<|Ñ wv jJ::L) qX/\II wv q (u5 j9 (Æ O b n)<|Æ h j6 j7) (Kb g) (listed.setIfInBounds i Ò) a c) l (G ((base 37).at y<|Ñ wv (i::jJ)::L) qX):=by
 let⟨x,j,p⟩:=V;have s:tx wv q.size=Ò:=by rw[N];decide
 have H:=CM k;have t:=p.fq;have u:¬l.q:=by rwa[show l.q=g.q from p.q]
 have W:=(j.C A).trans P;have X:=(j.C A).trans Q;have B:gS l ⟨m,0,Á⟩:=Ã<|p.M E;have D:gS l ⟨j9,2,Á⟩:=F.imp (λa=>p.M a) λa=>by rwa[p.C]
 have I:=(gF<|p.r m E id).trans S;have J:l.w.cell? ⟨j9,2,Á⟩=Â (Æ h j6 j7):=by
  refine Ŀ ?_ T;rcases F with a|a
  .exact gF<|p.r _ a id
  .exact p.f _ a
 have v:∀{c:Nat},∀d,fE l l.w d->Kb g (listed.setIfInBounds c Ò) () {l with w:=d}:=λd r=>p.G r;have Y:wv.size=7:=A
 rw[Y]at H;match i,H with
 |0,_=>
  refine hD (o:=F5) s j U U k (by k_ne) t u (λd r=> ?_) (λd r e f=> ?_) v
  .have z:=(B.r r).trans I;simp only[u5,F5];go_simp
  .have z:=(B.r r).trans I;simp[go_sem,F5,W,z]at f;subst f;exact B.C
 |4,_=>
  have h47:y.tmps[47]?=Â (À<|Â ⟨j9,2,Á⟩):=j.r 3 F8 47 U (gY k U U) U;refine hD (o:=F9) s j U U k (by k_ne) t u (λd r=> ?_) (λd r e f=> ?_) v
  .have z:=(D.r r).trans J;simp only[u5,F9];go_simp
  .have z:=(D.r r).trans J;simp[go_sem,F9,h47,z]at f;subst f;exact D.C
 |1,_=>
  refine hD (o:=F6) s j U U k (by k_ne) t u (λd r=> ?_) (λd r e f=> ?_) v
  .simp only[u5,F6];go_simp
  .simp[go_sem,F6,X]at f
 |2,_=>
  have z:y.tmps[45]?=Â (À<|Â ⟨j9,0,Á⟩):=j.r 1 F6 45 U (gY k U U) U;refine hD (o:=F7) s j U U k (by k_ne) t u (λd r=> ?_) (λd r e f=> ?_) v
  .simp only[u5,F7];go_simp
  .simp[go_sem,F7,z]at f
 |3,_=>
  have z:y.tmps[46]?=Â (À<|Â ⟨j9,0,Á⟩):=j.r 2 F7 46 U (gY k U U) U;refine hD (o:=F8) s j U U k (by k_ne) t u (λd r=> ?_) (λd r e f=> ?_) v
  .simp only[u5,F8];go_simp
  .simp[go_sem,F8,z]at f
 |5,_=>
  have z:y.tmps[44]?=Â (Æ O b n):=j.r 0 F5 44 U (gY k U U) U;refine hD (o:=Gb) s j U U k (by k_ne) t u (λd r=> ?_) (λd r e f=> ?_) v
  .simp only[u5,Gb];go_simp
  .simp[go_sem,Gb,z]at f
 |6,_=>
  have z:y.tmps[48]?=Â (Æ h j6 j7):=j.r 4 F9 48 U (gY k U U) U;refine hD (o:=Gc) s j U U k (by k_ne) t u (λd r=> ?_) (λd r e f=> ?_) v
  .simp only[u5,Gc];go_simp
  .simp[go_sem,Gc,z]at f
def aiE(c:gp g)(t:¬g.q)(e:SE m j j9 d)(B:g.M m)(C:gS g ⟨j9,2,Á⟩)(D:g.w.cell? ⟨m,0,Á⟩=Â (Æ O b n))(E:g.w.cell? ⟨j9,2,Á⟩=Â (Æ h j6 j7)) (F:∀u,fY e9 g u->ff Ä Ò J u (G (f.at (y.put ((Q[i]?).bind (·.dst))<|ñ #[Æ O b n,Æ h j6 j7])<|Ñ Q jJ::L) qX)): ff Ä Ò J g (Dg d<|f.at y (Ñ Q (i::jJ)::L)::qX):=by
 have hF:=trivial;apply fZ (n:=9) c.r;simp only[Dg,JJ];iterate 2 w_go fA
 refine Ë λ_ _=> ?_;refine PQ (II wv d (u5 j9 (Æ O b n)<|Æ h j6 j7)<|Kb g) c.r t (λl a=>⟨(),mr.G _ _ _,(fY.fQ c.r).G ⟨a.r,a.I,a.N,a.Y,a.S⟩⟩) (λk o y l i jJ p a=>aiD t e.r e.I e.C B C D E k o y l i jJ p a) λk o H I p r s=> ?_;let⟨x,l,K⟩:=p;have v:∀i∈ã 7,o.getD i Ì=Ò:=by
  cases k
  .exact pv s r (ã 7) [] fP λi a=>by cases a
  .exact λi a=>pv s r [0,5,1,2,3,4,6] [] fP (λi a=>by cases a) i (by have:=Ē.1 a;revert i;decide)
  .exact pv s r (ã 7) [] fP λi a=>by cases a
 let⟨a,N⟩:=H;obtain rfl:N=[]:=l.M;have P:a[6]?=Â (Æ O b n):=l.r 5 Gb 6 U (v 5 A) U;have S:a[7]?=Â (Æ h j6 j7):=l.r 6 Gc 7 U (v 6 A) U;have X:=l.S.trans e.r;have z:=K;have T:=z.N c;have V:a.getD 6 Å=Æ O b n:=by simp[ď,P]
 have W:a.getD 7 Å=Æ h j6 j7:=by simp[ď,S]
 apply fZ (n:=9) T.r;iterate 2 w_go fA
 u_in fA hF
 refine goes_leave2 U U Tryz.func37 U ⟨by u_nil,?_⟩;rw[V,W];refine Ë λ_ _=>F I z
end
structure SD where
 L:Nat
 g:Nat
 n:Nat
 m:Nat
 q:Nat
 N:Nat
 I:Nat
 C:Nat->Nat
 M:Nat
 S:Nat
 s:Nat
 u:Option â
 t:Nat
 l:Option â
 k:Nat
 o:Nat->Option â
 a:Nat->Nat
 i:Nat->Option â
 c:Nat->Nat
 b:Nat->Nat
 f:List é
 d:Nat->Prop
 RC:ß->Prop
 p:ß->Prop
 γ:Type
 w:γ
 v:Nat->Prop
 h:Nat->γ->γ->Prop
 RD:γ->Ï->(Nat->Prop)->ß->Prop
 e:Nat->ByteArray
 j:Nat->ByteArray
def SD.Y(D:SD):Fx:=⟨D.L,D.m,D.I,D.C⟩
def SD.aiF(D:SD)(i:Nat):Ï:=Đ #[À<|D.i i,Ê Î<|D.c i,À<|Â ⟨D.C<|D.b i,0,Á⟩,À Á]
structure kZ(D:SD)(S:Nat->Prop)(l:e7):Prop where
 C:∀b,D.Y.M b->l.K ⟨b,0,Á⟩/\l.K ⟨b,1,Á⟩
 M:∀b,D.Y.M b->mP b l.w
 c:S D.S
 d:l.w.cell? ⟨D.S,0,Á⟩=Â (Æ (Â ⟨D.M,0,Á⟩) D.N D.N)
 f:S D.s
 g:l.w.cell? ⟨D.s,0,Á⟩=Â (Æ D.u D.m D.t)
 h:∀k,k<D.m->∃b,D.u=Â ⟨b,0,Á⟩/\S b/\l.w.cell? ⟨b,k*4,Á⟩=Â (À<|D.o<|k+1)/\l.w.cell? ⟨b,k*4+1,Á⟩=Â (Ê Î<|D.a<|k+1)/\l.w.cell? ⟨b,k*4+2,Á⟩=Â (À<|Â ⟨D.C k,0,Á⟩)/\l.w.cell? ⟨b,k*4+3,Á⟩=Â (À<|Â ⟨D.C<|k+1,0,Á⟩)
 j:∀i,i<D.q->∃b,D.l=Â ⟨b,0,Á⟩/\S b/\l.w.cell? ⟨b,i*4,Á⟩=Â (À<|D.i i)/\l.w.cell? ⟨b,i*4+1,Á⟩=Â (Ê Î<|D.c i)/\l.w.cell? ⟨b,i*4+2,Á⟩=Â (À<|Â ⟨D.C<|D.b i,0,Á⟩)/\l.w.cell? ⟨b,i*4+3,Á⟩=Â (À Á)
 r:∀a,l.r a->(l.w.cell? a).isSome=Ò/\l.w.frozen? a=Ì
 Y:∀b,D.d b->S b
 e:D.RC l.w
structure SD.Ok(D:SD):Prop where
 C:∀w w',D.RC w->(∀b,D.d b->w'.heap[b]?=w.heap[b]?)->D.RC w'
 ioS:∀w w',D.p w->(w'.os=w.os/\w'.output=w.output)->D.p w'
 r:∀s sl V w w',D.RD s sl V w->(∀b,V b->w'.heap[b]?=w.heap[b]?)->D.RD s sl V w'
 I:1<=D.n
 L1:1<=D.L
 fW:D.n+D.q+D.m<1000
 N1:D.N<1000
 S:∀i,D.b i<=D.m
 a:∀i,i<D.q->D.c i<D.N
 Y:∀k,1<=k->k<=D.m->D.a k<D.N
 aiG:∀k,k<=D.m->D.C k≠D.I
 aiH:∀k k',k<=D.m->k'<=D.m->D.C k=D.C k'->k=k'
 M:¬D.Y.M D.M
 pq:∀i i',i<D.q->i'<D.q->D.c i=D.c i'->i=i'
 pi:∀k k',1<=k->k<=D.m->1<=k'->k'<=D.m->D.a k=D.a k'->k=k'
 Nu:∀i k,i<D.q->1<=k->k<=D.m->D.c i≠D.a k
 gh:∀b,D.Y.M b\/b=D.M->D.g<=b
section
variable{D:SD}{S:Nat->Prop}{l f:e7}
def kZ.I(h:kZ D S l)(ok:D.Ok)(e:∀b,S b->X b)(c:∀b,S b->f.w.heap[b]?=l.w.heap[b]?)(q:f.K=l.K)(p:∀a,l.K a->(l.w.cell? a).isSome=Ò->(f.w.cell? a).isSome=Ò)(r:∀a,f.r a->(f.w.cell? a).isSome=Ò/\f.w.frozen? a=Ì):kZ D X f where
 C b hg:=by rw[q];exact h.C b hg
 M b hg:=⟨p _ (h.C b hg).1 (h.M b hg).1,p _ (h.C b hg).2 (h.M b hg).2⟩;c:=e _ h.c;d:=(gF<|c _ h.c).trans h.d;f:=e _ h.f;g:=(gF<|c _ h.f).trans h.g;h k hk:=by let⟨b,g,d,j,m,n,o⟩:=h.h k hk;exact⟨b,g,e b d,(gF<|c b d).trans j,(gF<|c b d).trans m,(gF<|c b d).trans n,(gF<|c b d).trans o⟩
 j i hi:=by let⟨b,g,d,j,m,n,o⟩:=h.j i hi;exact⟨b,g,e b d,(gF<|c b d).trans j,(gF<|c b d).trans m,(gF<|c b d).trans n,(gF<|c b d).trans o⟩
 r:=r;Y b d:=e b<|h.Y b d;e:=ok.C _ _ h.e λb d=>c b<|h.Y b d
def kZ.G(h:kZ D S l)(ok:D.Ok)(c:∀b,S b->l.M b)(r:fE l l.w u):kZ D S {l with w:=u}:= h.I ok (λ_ q=>q) (λb q=>r.I b<|c b q) U r.S λa q=>by have:=h.r a q;exact⟨by show(u.cell? a).isSome=Ò;rw[r.N a<|Ã q];exact this.1,(r.Y a<|Ã q).trans this.2⟩
def kZ.QY{E:â->Prop}(h:kZ D S l)(ok:D.Ok)(g:∀b,S b->l.M b)(c:iw E l f):kZ D S f:= h.I ok (λ_ q=>q) (λb q=>c.r b<|g b q) c.K c.b λa q=>by
  rw[c.I]at q;let⟨d,i⟩:=h.r a q;refine⟨?_,(c.S a<|Ã q).trans i⟩;by_cases e:E a
  .exact c.g a e d
  .rwa[c.e a (Ã q) e]
def kZ.aiI(h:kZ D S l)(ok:D.Ok)(d:∀b,S b->l.M b/\¬X b)(c:fY X l f):kZ D S f:= h.I ok (λ_ q=>q) (λb q=>c.r b (d b q).1 (d b q).2) c.K c.e λa q=>by rw[c.Y]at q;let⟨e,g⟩:=h.r a q;exact⟨by rwa[c.f a<|Ã q],(c.g a<|Ã q).trans g⟩
def kZ.N(h:kZ D S l)(a:∀b,S b->X b):kZ D X l:=⟨h.C,h.M,a _ h.c,h.d,a _ h.f,h.g,λk c=>let⟨b,d,e,f⟩:=h.h k c;⟨b,d,a b e,f⟩,λk c=>let⟨b,d,e,f⟩:=h.j k c;⟨b,d,a b e,f⟩,h.r,λb q=>a b<|h.Y b q,h.e⟩
end
section
variable(D:SD)
def jw(a:Nat->Nat)(j:Nat):List Ï:=(ã j).map λi=>è<|Â<|a i
def Bd(k:Nat):Jd:=λl g=>l.d=0/\¬l.q/\kZ D l.M l/\∃t a b c e f h i j n o,AG D.M D.N D.u D.m D.t k t/\l.M a/\l.w.cell? ⟨a,0,Á⟩=Â (À<|Â ⟨D.I,0,Á⟩)/\g=yl t [uV h i j n o,yp a b c e f,nk Ä]
def Yo(c i:Nat):Jd:=λl g=>l.d=0/\¬l.q/\kZ D l.M l/\∃t a b e f h j k m n o p,QT D.M D.N c t/\t[4]?=Â (À<|Â ⟨a,0,Á⟩)/\l.O a/\l.w.cell? ⟨a,0,Á⟩=Â (À<|D.i i)/\l.w.cell? ⟨a,1,Á⟩=Â (Ê Î<|D.c i)/\l.w.cell? ⟨a,2,Á⟩=Â (À<|Â ⟨D.C<|D.b i,0,Á⟩)/\l.M b/\l.w.cell? ⟨b,0,Á⟩=Â (À<|Â ⟨D.I,0,Á⟩)/\g=JB t [F2 k m n o p,yp b e f h j,nk Ä]
def aiJ:Jd:=λl g=>kZ D l.M l/\∃t a b c,Gf D.S D.I (D.C D.m) D.n (Æ D.l D.q D.k) t/\gV l a (É #[À<|Â ⟨D.I,0,Á⟩] 162)/\gV l b (É #[Ĉ (ù 48) #[] #[À<|Â ⟨D.s,0,Á⟩,À<|Â ⟨D.S,0,Á⟩]] 1)/\g=AR (À<|Â ⟨D.I,0,Á⟩) c (À<|Â ⟨D.I,0,Á⟩) (ñ #[]) a b (Da t::D.f)
def aiK(j:Nat)(a:Nat->Nat):Jd:=λl g=>kZ D l.I l/\∃t e c b d f,ST D.S D.I (D.C D.m) D.n (j-1) (Æ D.l D.q D.k) e t/\XW D.S D.I D.q e (jw a j) (a<|j-1) c b d l/\a (j-1)<c/\c<b/\b<d/\(∀k,e.ownBlock=Â k->k≠a (j-1)/\k≠c/\k≠b/\k≠d)/\D.g<=a (j-1)/\g=AR (À<|Â ⟨D.I,0,Á⟩) f (À<|Â ⟨D.I,0,Á⟩) (ñ #[]) b d (JL t::D.f)
def Ke(j:Nat)(a:Nat->Nat):Jd:=λl g=>l.d=0/\¬l.q/\D.g<=l.w.heap.size/\((j=0/\aiJ D l g)\/(1<=j/\aiK D j a l g))
def Yp:Jd:=λl g=>l.d=0/\¬l.q/\kZ D l.I l/\∃a,SE D.S D.I (D.C D.m) a/\g=Dg a D.f
def SD.r(P:ė):Ph where
 toFx:=D.Y
 P:=P
 S:=D.g
 n:=D.n
 q:=D.q
 Y:=D.M
 f:=D.N
 r:=D.b
 a:=D.c
 b:=D.a
 c:=D.aiF
 z:=zT
 B:=60
 γ:=D.γ
 l:=D.w
 i:=D.v
 p:=D.h
 d:=λk s V w=>(∃a,w.cell? ⟨D.C k,2,Á⟩=Â a/\D.RD s a V w)/\(k=0->w.cell? ⟨D.M,D.N,Á⟩=Á/\kE w D.M=Â (0,0)/\D.p w)
 o:=D.e
 k:=D.j
 g:=Ke D
 h:=Bd D
 e:=Yo D
 j:=λ_=>Yp D
end
def Dh(D:SD):Prop:=∀k s e V l,k<D.m->mL (D.r Ä) k s->D.RD s e V l.w->(∀b,V b->l.M b)->gp l->¬l.q->(∀b,D.d b->l.M b)->D.RC l.w->∀f g,ff Ä Ì (λa j=>a.d=l.d/\∃p n c,j=G (f.finish<|ñ #[Æ p n c,à<|D.e<|k+1]) g/\∃h i,D.h k s h/\D.RD h (Æ p n c) i a.w/\∀b,i b->a.M b) (lJ l)<|G (Ă Ä 66 #[e,À<|D.o<|k+1] Ğ)<|f::g
def Di(D:SD):Prop:=∀i s a V l,i<D.q->mL (D.r Ä) (D.b i) s->D.RD s a V l.w->(∀b,V b->l.M b)->gp l->¬l.q->(∀b,D.d b->l.M b)->D.RC l.w->∀b c,ff Ä Ì (λe f=>e.d=l.d/\f=G (b.finish<|à<|D.j i) c) (lJ l)<|G (Ă Ä 67 #[a,À<|D.i i] Ğ)<|b::c
section
variable{D:SD}
def GA(k:Nat)(a:k<=D.m):D.Y.M (D.C k):=Ç ⟨k,a,U⟩
def yx:D.Y.M D.I:=Ã U
def aiL(ok:D.Ok):(D.r Ä).Ok:=⟨ok.I,ok.L1,ok.fW,λi _=>ok.S i,ok.aiG,ok.aiH,ok.M,ok.pq,ok.pi,ok.Nu,ok.gh,⟨λk a b e=>by have c:D.a k=D.N:=e;have:=ok.Y k a b;omega,λi d e=>by have c:D.c i=D.N:=e;have:=ok.a i d;omega⟩⟩
theorem aiM(ok:D.Ok)(sX:Dh D):∀k s V l g,k<D.m->Bd D k l g->gp l->mL (D.r Ä) k s->(D.r Ä).d k s V l.w->(∀b,V b->l.I b)->l.N (iZ D.Y k)->l.r (iZ D.Y<|k+1)->l.r (je (D.r Ä)<|D.a<|k+1)->∀B:Nat->D.γ,B k=s->ff Ä Ì (JI (D.r Ä) B<|.mk (k+1)) l g:=by
 intro k s V l g o hJ Df QZ Aj hV tA C E B hsg;obtain⟨hd,F,f,t,G,v1,v2,v3,v4,u0,u1,u2,u3,u4,hT,A0,cbw,rfl⟩:=hJ;let⟨⟨sl,hsl,qc⟩,_⟩:=Aj;let⟨b,ym,hbM,i0,i1,i2,i3⟩:=f.h k o;have Ft:=ok.fW;have kQ:(⟨D.C<|k+1,2,Á⟩:â)≠⟨D.M,D.a<|k+1,Á⟩:=λe=>ok.M (by injection e with H _ _;rw[<-H];exact GA (k+1) o);have zY:AG D.M D.N (Â ⟨b,0,Á⟩) D.m D.t k t:=by rwa[<-ym]
 have⟨oc1,oz1⟩:=f.r _ C;have⟨oc2,oz2⟩:=f.r _ E;have qM:∀a:â,(a=⟨D.C<|k+1,2,Á⟩\/a=⟨D.M,D.a<|k+1,Á⟩)->l.r a:=λa p=>by rcases p with rfl|rfl;exact C;exact E
 have r:=f.C _<|GA (k+1) o;have Yq:=f.M _<|GA (k+1) o;refine ff.fI (Stop:=λl g=>(∃i n,D.h k s i/\(D.r Ä).d (k+1) i n l.w/\(∀b,n b->l.M b)/\l.w.cell? ⟨D.M,D.a<|k+1,Á⟩=Â (à<|D.e<|k+1))/\xK Ä Ì (D.C<|k+1) (ff Ä Ì<|Bd D<|k+1) (o7 (D.r Ä) l<|k+1) g) (λl g h=> ?_) ?_
 .let⟨⟨i,n,I,J,L,O⟩,P⟩:=h;exact⟨i,n,by subst hsg;exact I,J,L,O,P⟩
 refine ahh (Q:=λv x y=>x=D.e (k+1)/\∃i n,D.h k s i/\D.RD i v n y.w/\∀b,n b->y.M b) (τ:=λl=>o7 (D.r Ä) l<|k+1) Df F hd zY o Z (by have:=ok.N1;omega) (ok.Y (k+1) Z o) hbM i0 i1 i2 i3 tA hsl C E oc1 oc2 oz1 oz2 kQ (λc v j u=> ?_) λc x v hQ Qc JA=> ?_
 .refine(sX k s sl V c o QZ (ok.r _ _ _ _ _ qc λb x=>v.r b<|Ç<|hV b x) (λb x=>v.M<|Ç<|hV b x) (v.G Df) (by rwa[v.q]) (λb x=>v.M<|f.Y b x) (ok.C _ _ f.e λb x=>v.r b<|f.Y b x) j u).fI ?_;grind
 .let⟨y,⟨hstr,i,n,hnx,aiN,Yr⟩,hy⟩:=hQ;rw[hstr]at JA;have Ys:mP (D.C<|k+1) c.w:=⟨v.b _ r.1 Yq.1,v.b _ r.2 Yq.2⟩;refine⟨⟨Ã (by rw[v.K];exact r.1),Ã (by rw[v.K];exact r.2),λ_ _ _ _ _ _ _ _=>trivial⟩,⟨v.fq,Ys,trivial⟩,⟨i,n,hnx,⟨⟨_,Qc,ok.r _ _ _ _ _ aiN λb x=>(hy b<|Yr b x).2⟩,λe=>by omega⟩,λb x=>(hy b<|Yr b x).1,JA⟩,v.d.trans hd,λw=>fE (o7 (D.r Ä) c<|k+1) c.w w,⟨Ã (by show c.K _;rw[v.K];exact r.1),Ã (by show c.K _;rw[v.K];exact r.2),λw w₁ I J L O P h=>h.fc ⟨I,J,L,O,P⟩⟩,⟨λj h=>h.elim,Ys,fE.fQ _ _⟩,λzK t' aiO Ws=> ?_⟩;refine .fv λS u=> ?_;have z:=aiO.2.2.fc ⟨u.r,u.I,u.N,u.Y,u.S⟩;have x:=λb x=>(z.I b<|Ç<|v.M x).trans<|v.r b x;have Yt:∀b,l.M b->({o7 (D.r Ä) c (k+1)with d:=0,w:=S}:e7).M b:=λb x=>Ç<|v.M x;refine⟨U,by show¬c.q;rwa[v.q],f.I ok Yt x (by show c.K=l.K;exact v.K) (λa p h=>z.S a (by show c.K a;rwa[v.K])<|v.b a p h) λa p=> ?_,t',G,v1,v2,v3,v4,u0,u1,u2,u3,u4,by rwa[ym],Yt G A0,(gF<|x G A0).trans cbw,U⟩;obtain⟨T,W,X⟩:c.r a/\a≠⟨D.M,D.a<|k+1,Á⟩/\a≠⟨D.C<|k+1,2,Á⟩:=p;have Y:l.r a:=by rwa[<-v.I]
  let⟨H,e2⟩:=f.r a Y;refine⟨?_,?_⟩
  .show(S.cell? a).isSome=Ò;rwa[z.N a<|Ã ⟨T,W,X⟩,v.e a (Ã Y) λq=>q.elim X W]
  .show S.frozen? a=Ì;rwa[z.Y a<|Ã ⟨T,W,X⟩,v.S a<|Ã Y]
def aiP:∀l g,Bd D D.m l g->gp l->ff Ä Ì (zS<|D.r Ä) l g:=by intro l g c d;obtain⟨e,f,b,t,k,n,o,p,q,r,s,u,v,w,h,i,j,rfl⟩:=c;have a:=b.C _<|yx;exact ahp (Ψ:=λ_=>True) h a ⟨Ã a.1,Ã a.2,λ_ _ _ _ _ _ _ _=>trivial⟩ ⟨d.r,b.M _ yx,trivial⟩ e f (Ã i) j
def Yu(ok:D.Ok){r:Nat}{l:e7}{t:Array Ï}{g h m o p:Ï}(B:gp l)(s:¬l.q)(C:l.d=0)(a:kZ D l.M l)(E:QT D.M D.N i t)(f:l.M k)(u:l.w.cell? ⟨k,0,Á⟩=Â (À<|Â ⟨D.I,0,Á⟩)): Cl (D.r Ä) i j r l (yr t [F2 g h m o p,yp k v x z jQ,nk Ä]):=by have y:=ok.S<|j+r*D.n;refine ahu B s C E (Ú _) U (a.C _<|GA _ y) (a.M _<|GA _ y) (a.C _ yx) (a.M _ yx) (Ã f) u λQ F G e H I J K L O P=>(⟨H,by rwa[e.q],(a.QY ok (λ_ q=>q) e).N λb q=>e.M q,G,F,k,v,x,z,jQ,g,h,m,o,p,O,P,I,J,K,L,e.M f,(gF<|e.r k f).trans u,U⟩)
theorem aiQ(ok:D.Ok)(W:Di D):∀c j r s V l g,j+r*D.n<D.q->Yo D c (j+r*D.n) l g->∀f:e7,gp f->f.O=l.O->(∀b,l.I b\/V b->f.I b)->f.w=l.w->f.d=l.d->f.q=l.q->f.r=l.r->f.K=l.K->mL (D.r Ä) (D.b<|j+r*D.n) s->(D.r Ä).d (D.b<|j+r*D.n) s V l.w->f.N (iZ D.Y<|D.b<|j+r*D.n)->f.r (je (D.r Ä)<|D.c<|j+r*D.n)->ff Ä Ì (JW (D.r Ä) c j<|.nY r) f g:=by
 intro c j r s V l g E X f v F y o Y hq' I4 hK QZ Aj tA p;obtain⟨hd,hq,G,t,tb,u,v1,v2,v3,v4,u0,u1,u2,u3,u4,hT,h4,hOt,H,I,J,L,N,rfl⟩:=X;let⟨⟨sl,P,S⟩,_⟩:=Aj;have B:∀b,l.M b->f.M b:=λb q=>q.elim (λz=>Ã<|by rwa[F]) λz=>Ç<|y b<|Ã z;have m:=G.I ok B (λb _=>by rw[o]) hK (λa _ h=>by rwa[o]) λa q=>by rw[o];exact G.r a<|by rwa[<-I4]
 have C:¬f.q:=by rwa[hq']
 rw[<-o]at H I J N P S;let⟨e2,z2⟩:=m.r _ p;refine ahx (Q:=λx=>x=D.j (j+r*D.n)) v C hT h4 (by rwa[F]) H I J tA P p e2 z2 (ok.a _ E) (λi e k T=> ?_) λi x t' e hx hcx zY=> ?_
 .refine(W _ s sl V i E QZ (ok.r _ _ _ _ _ S λb x=>e.r b<|Ç<|y b<|Ç x) (λb x=>e.M<|Ç<|y b<|Ç x) (e.G v) (by rwa[e.q]) (λb x=>e.M<|m.Y b x) (ok.C _ _ m.e λb x=>e.r b<|m.Y b x) k T).fI ?_;grind
 .have T:=(m.QY ok (λ_ q=>q) e).N λb q=>e.M q;refine⟨hcx.trans (by rw[hx];rfl),?_⟩;have k:=e.G v;have FW:gp (uK (D.r Ä) i<|j+r*D.n):=by
   refine⟨k.c,λa x=> ?_,λa x=> ?_,k.fq,λa x=> ?_,λa x=> ?_⟩
   .rintro(q|q)
    .exact k.Y a x.1 q
    .exact x.2 q
   .refine k.N a ?_;rcases x with q|q|q
    .exact Ã q.1
    .exact Ç q
    .rw[q];exact Ã<|by rwa[e.I]
   .refine k.I a ?_;rcases x with q|q|q
    .exact Ã q.1
    .exact Ç q
    .rw[q];exact Ã<|by rwa[e.I]
   .let⟨k1,k2,k3⟩:=k.S a x;exact⟨k1,k2,λq=>k3 q.1⟩
  refine Yu ok FW (by show¬i.q;rwa[e.q]) (by show i.d=0;rwa[e.d,Y]) (T.I ok (λ_ q=>q) (λ_ _=>rfl) U (λ_ _ h=>h) λa q=>T.r a q.1) zY (by show i.M u;exact e.M<|B u L)<|(gF<|e.r u<|B u L).trans N
end
section
variable{D:SD}{dk:Nat->Nat}{dv:Ï}{l f:e7}
structure MF(D:SD)(dk:Nat->Nat)(dv:Ï)(l:e7):Prop where
 C:gp l
 q:¬l.q
 d:l.d=0
 r:kZ D l.I l
 I:∃db c,dv=Æ (Â ⟨db,0,Á⟩) D.n c/\l.O db/\∀i,i<D.n->l.w.cell? ⟨db,i,Á⟩=Â (è<|Â<|dk i)
def MF.M(h:MF D dk dv l)(ok:D.Ok)(a:iw e9 l f):MF D dk dv f where
 C:=a.G h.C;q:=by rw[a.q];exact h.q
 d:=a.d.trans h.d;r:=(h.r.QY ok (λ_ q=>Ç q) a).N λb q=>by rwa[a.Y]
 I:=by let⟨e,c,j,g,k⟩:=h.I;exact⟨e,c,j,a.O e g,λi m=>(gF<|a.r e<|Ã g).trans<|k i m⟩
def aiR(ok:D.Ok):∀r,r<=D.n->∀l t b,MF D dk dv l->ET dv D.n (D.n-r) t->SE D.S D.I (D.C D.m) b->ff Ä Ò (zU (D.r Ä) dk r) l (Bc t<|Gz b::D.f):=by
 intro r
 induction r with
 |zero=>
  intro _ l t b a e g;rw[ũ]at e;refine aiC a.C a.d (Ú _) e g (a.r.C _ yx) (a.r.M _ yx) λf i h j=> ?_;have c:=a.M ok h;exact⟨c.d,c.q,c.r,i,j,U⟩
 |succ r j=>
  intro s l t b a e g;obtain⟨u,c,rfl,k,o⟩:=a.I;have v:=ok.fW;refine aiB a.C a.q e Z Z k (o (D.n-(r+1)) Z) λf p h i=> ?_;refine j Z f p b (a.M ok h) ?_ g;rwa[show D.n-(r+1)+1=D.n-r by omega]at i
def aiS(ok:D.Ok):∀r,r<=D.q->∀l t d,MF D dk dv l->DT dv D.l D.q D.k (D.q-r) t->SE D.S D.I (D.C D.m) d->ff Ä Ò (Fe (D.r Ä) dk r) l (Bb t<|Gz d::D.f):=by
 intro r
 induction r with
 |zero=>
  intro _ l t d a e h;rw[ũ]at e;obtain⟨j,c,rfl,k,o⟩:=a.I;refine aiA a.C.r e λi g=>aiR ok D.n (Ú _) l i d a ?_ h;rwa[Ū]
 |succ r s=>
  intro C l t d a e h;obtain⟨j,c,rfl,k,o⟩:=a.I;have E:=ok.fW;have F:=ok.I;let⟨b,p,u,v,w,x,y⟩:=a.r.j (D.q-(r+1)) Z;have z:DT (Æ (Â ⟨j,0,Á⟩) D.n c) (Â ⟨b,0,Á⟩) D.q D.k (D.q-(r+1)) t:=by rwa[<-p]
  refine aix a.C a.q z Z Z Z Z k (o _<|ĵ _ Z) (Ç u) v w x y λf i B g=> ?_;refine s Z f i d (a.M ok B) ?_ h;rwa[show D.q-(r+1)+1=D.q-r by omega,<-p]at g
theorem aiT(dk:Nat->Nat)(j a:Nat):jw (ft dk j a) (j+1)=jw dk j++[è<|Â a]:=by unfold jw;grind [ÿ,List.map_congr_left,fD,gy]
def aiU(dk:Nat->Nat)(j:Nat):(jw dk j).length=j:=by simp[jw]
def aiV(dk:Nat->Nat)(j i:Nat)(h:i<j):(jw dk j)[i]?=Â (è<|Â<|dk i):=by simp[jw,h]
theorem Yv(ok:D.Ok){t:Array Ï}(K:j<=D.n)(a:gp l)(o:¬l.q)(p:l.d=0)(h:kZ D l.I l)(x:D.g<=l.w.heap.size)(v:ST D.S D.I (D.C D.m) D.n j (Æ D.l D.q D.k) dv t)(r:l.w.ownsRow 0 101 1 dv j (jw dk j))(s:∀k,dv.ownBlock=Â k->l.O k): ff Ä Ò (JM (D.r Ä) dk<|if j<D.n then .iy (j+1)else .iE D.q) l (AQ t D.f):=by
 have L:=ok.fW;by_cases u:j<D.n
 .rw[if_pos u];show ff Ä Ò (Nt (D.r Ä) (j+1) dk) l _;rw[agU];refine ahF a o p v u Z Z (h.C _ yx) (h.M _ yx) r s λf i y z B C E F c G H M N I J P=> ?_;refine⟨y,c.d.trans p,by rwa[c.q],Õ x c.I,Ç ⟨Z,(h.aiI ok (λb g=>⟨Ç g,λe=>a.c b (s b e.symm) g⟩) c).N λb q=>(by rwa[c.S]),i,E,z,B,C,F,?_,?_,?_,I,J,?_,?_,U⟩⟩
  .rwa[ø]
  .rwa[ø,aiT,gy]
  .grind [ø,gy]
  .grind [ø,gy]
  .grind [ø,gy,Õ]
 .have e:j=D.n:=Z
  subst e;rw[if_neg u];have y:∃b c,dv=Æ (Â ⟨b,0,Á⟩) D.n c/\l.O b/\∀i,i<D.n->l.w.cell? ⟨b,i,Á⟩=Â (è<|Â<|dk i):=by
   rcases r.2 with⟨_,C⟩|⟨g,z,E,rfl,_⟩
   .have:=ok.I;omega
   .refine⟨g,z,U,s g U,λi B=> ?_⟩;have:=r.cells U i _<|aiV dk D.n i B;grind [ğ]
  refine aiz a.r v λg z B C=>(aiS ok D.q (Ú _) l g z ⟨a,o,p,h,y⟩ (by rwa[Ū]) C)
def aiW(ok:D.Ok)(h:Bd D k l g)(r:fE l l.w u):Bd D k {l with w:=u} g:=by obtain⟨c,d,e,t,a,f,i,j,m,n,o,p,s,v,x,b,y,rfl⟩:=h;exact⟨c,d,e.G ok (λ_ q=>q) r,t,a,f,i,j,m,n,o,p,s,v,x,b,(gF<|r.I a b).trans y,U⟩
def gV.M{o:Ÿ}(h:gV l b o)(r:fE l l.w u):gV {l with w:=u} b o:=⟨h.fi,(r.I b<|Ã h.fi).trans h.I⟩
def Ff(ok:D.Ok)(h:Ke D j dk l g)(r:fE l l.w u):Ke D j dk {l with w:=u} g:=by
 let⟨m,n,o,h⟩:=h;refine⟨m,n,Õ o r.r,?_⟩;rcases h with⟨p,b,t,c,d,f,i,s,v,rfl⟩|⟨x,b,t,dv,y,c,d,f,i,a,z,B,C,E,F,rfl⟩
 .exact Ã ⟨p,b.G ok (λ_ q=>q) r,t,c,d,f,i,s.M r,v.M r,U⟩
 .exact Ç ⟨x,b.G ok (λ_ q=>Ç q) r,t,dv,y,c,d,f,i,⟨oM a.S λk e=>r.I k<|Ã<|a.M k e,a.M,a.r.M r,a.C.M r,a.N.M r,a.I.M r⟩,z,B,C,E,F,U⟩
theorem aiX(ok:D.Ok):∀j dk l g,j<=D.n->Ke D j dk l g->gp l->l.d=0/\∃(G H:Ý) (X:Nat->Prop),G.status=ċ/\H.status=ċ/\(∀u,stepG Ä Ò g u=.spawn G H u #[])/\(∀b,X b->l.O b)/\ (1<=j->l.O (dk<|j-1)/\¬X (dk<|j-1)/\l.w.heap[dk<|j-1]?=Â (ŕ D.q #[] Ì 0 0 Ì)/\D.g<=dk (j-1))/\ (∀f:e7,gp f->(∀b,X b\/l.I b->f.I b)->f.w=l.w->f.d=0->¬f.q->(∀b,¬f.O b)->f.K=l.K->f.N=l.N->(∀a,f.r a->l.r a)->ff Ä Ì (if j=0 then Bd D 0 else Cl (D.r Ä) (dk<|j-1) (j-1) 0) f H)/\ (∀f:e7,gp f->f.O=(λb=>l.O b/\¬X b/\(1<=j->b≠dk (j-1)))->(∀b,X b\/l.I b->f.I b)->f.w=l.w->f.d=0->f.q=l.q->f.K=l.K->f.N=l.N->(∀a,f.r a->l.r a)->ff Ä Ò (JM (D.r Ä) dk<|if j<D.n then .iy (j+1)else .iE D.q) f G):=by
 intro j dk l g L h Df;let⟨hd,N,P,h⟩:=h;refine⟨hd,?_⟩;rcases h with⟨rfl,o,t,x,C,v1,I,Q,S,rfl⟩|⟨h1,o,t,dv,T,x,C,v1,I,c,x1,x2,x3,x4,x5,rfl⟩
 .refine⟨_,_,l.O,U,U,λu=>XU _ _ _ _ _ _ _ u,λ_ q=>q,λq=>by omega,λf i m X y p E z J B=> ?_,λf i E m X y p z J B=> ?_⟩
  .rw[if_pos U];have e:=λb q=>m b q;have s:kZ D f.M f:=o.I ok (λb q=>Ç<|e b q) (λb _=>by rw[X]) z (λa _ h=>by rwa[X]) λa q=>by rw[X];exact o.r a<|B a q
   refine aho i.r p (Ã<|Ç<|e C<|Ã S.fi) (Ã s.f) (Ã s.c) (by rw[X];exact S.C U) s.g s.d λF V W Y w4 u0 u1 u2 u3 u4 v=> .fv λu r=>aiW ok ⟨y,p,s,F,x,V,W,Y,w4,u0,u1,u2,u3,u4,v,Ç<|e x<|Ã Q.fi,by rw[X];exact Q.C U,U⟩ r
  .refine ahD i.r I λF v=>(Yv ok L i (by rwa[p]) y (o.I ok (λb q=>m b q) (λb _=>by rw[X]) z (λa _ h=>by rwa[X]) λa q=>by rw[X];exact o.r a<|B a q) (by rwa[X]) v (World.ownsRow_nil _ _ _ _) λk e=>by cases e)
 .refine⟨_,_,λb=>b=T\/b=x\/b=C,U,U,λu=>XU _ _ _ _ _ _ _ u,λb q=> ?_,λ_=>⟨c.r.fi,?_,c.r.I,x5⟩,λf i m X y p E z J B=> ?_,λf i E m X y p z J B=> ?_⟩
  .rcases q with rfl|rfl|rfl
   .exact c.C.fi
   .exact c.N.fi
   .exact c.I.fi
  .grind
  .rw[if_neg Z];have s:kZ D f.M f:=o.I ok (λb q=>Ç<|m b<|Ç q) (λb _=>by rw[X]) z (λa _ h=>by rwa[X]) λa q=>by rw[X];exact o.r a<|B a q
   have Yw:f.M x:=Ç<|m x<|Ã<|Ç<|Ã U;refine aht i.r p (Ã<|Ç<|m C<|Ã<|Ç<|Ç U) (Ã<|Ç<|m T<|Ã<|Ã U) (Ã s.c) (by rw[X];exact c.I.C U) (by rw[X];exact c.C.C U) s.d λF V W Y w4 u0 u1 u2 u3 u4 v=> .fv λu r=>(Yu ok (i.jO r.r) p y (s.G ok (λ_ q=>q) r) v Yw<|(gF<|r.I x Yw).trans<|by rw[X];exact c.N.C U)
  .have s:=ok.fW;refine ahE i.r I Z λF v=> ?_;rw[show j-1+1=j by omega]at v;have r:=c.S;rw[aiU]at r;refine Yv ok L i (by rwa[p]) y (o.I ok (λb q=>m b<|Ç q) (λb _=>by rw[X]) z (λa _ h=>by rwa[X]) λa q=>by rw[X];exact o.r a<|B a q) (by rwa[X]) v (by rwa[X]) λk e=> ?_;rw[E];let⟨a,V,W,Y⟩:=x4 k e;refine⟨c.M k e,?_,λ_=>a⟩;grind
def aiY(ok:D.Ok)(b:Dh D)(d:Di D):gM (D.r Ä) where
 C:=aiL ok;S k s V w w' h hV hc hz hf wE:=by let⟨⟨a,f,m⟩,t⟩:=h;exact⟨⟨a,hc.trans f,ok.r _ _ _ _ _ m hV⟩,λe=>⟨hz.trans (t e).1,hf.trans (t e).2.1,ok.ioS _ _ (t e).2.2 wE⟩⟩
 Ff j dk l g w₁ h r:=Ff ok h r;I j dk l g h:=by let⟨_,_,_,h⟩:=h;rcases h with⟨_,_,t,e,f,a,_,_,_,rfl⟩|⟨_,_,t,dv,m,e,f,a,_,_,_,_,_,_,_,rfl⟩<;>rfl
 N k l g h:=by obtain⟨_,_,_,t,e,a,f,m,n,o,p,q,u,v,_,_,_,rfl⟩:=h;rfl
 Y c i l g h:=by obtain⟨_,_,_,t,tb,e,a,f,m,n,o,p,q,u,v,_,_,_,_,_,_,_,_,rfl⟩:=h;rfl
 M dk l g h:=by obtain⟨_,_,_,f,_,rfl⟩:=h;rfl
 go:=aiX ok;f:=aiM ok b;h:=aiP;e:=aiQ ok d
end
end Go.Proofs.Y.fw
namespace Go.Proofs.Y.fw
open Go Go.Conc Go.Proofs.Y.Lift
open Go.ConcN (sumTo sumTo_congr)
structure ko(P:ė)(Y:Nat->Prop)(jd:Ν->Prop)(H:Nat)(J:Jd)(T:gk)(lv:Nat->Nat)(lot:Nat->e7)(gs:Array Ý)(w:ß)(t:ż):Prop where
 C:1<=gs.size
 r:gE P 0 Y (λi=>if i=0 then J else oG P (lv i)) (λi=>if i=0 then T else .fv) (λ_=> .no) lot gs w t
 c:∀i,0<i->i<gs.size->lot i=kj (lot i)
 d:¬(lot 0).q
 M:∀p a,touchAt t p=Â a->a.loc.isMemory=Ò->Knows t 0 p\/(jd a.loc/\a.kind=.atomic)
 S:∀p a x,touchAt t p=Â a->a.loc=û x->t.g? p=Â 0\/x.block<H
 b:∀a:â,H<=a.block->NoRelease a t
 N:t.HandedOver
abbrev qS(P:ė):=ko P λ_=>False
structure qd(l l':e7)(w w':ß):Prop where
 r:w.heap.size<=w'.heap.size
 N:∀j,l'.O j->l.O j\/w.heap.size<=j
 c:l'.I=l.I
 S:l'.r=l.r
 b:l'.N=l.N
 k:l'.K=l.K
 jH:∀j,j<w.heap.size->¬l.O j->(∀a:â,a.block=j->¬l.r a)->w'.heap[j]?=w.heap[j]?
 M:∀a:â,a.block<w.heap.size->¬l.O a.block->¬l.r a->w'.cell? a=w.cell? a
 Y:∀j,j<w.heap.size->¬l.O j->kE w' j=kE w j
 C:w'.os=w.os
 I:w'.output=w.output
 d:w'.tape=w.tape
theorem qd.fQ(l:e7)(w:ß):qd l l w w:=⟨Ú _,λ_ h=>Ã h,U,U,U,U,λ_ _ _ _=>rfl,λ_ _ _ _=>rfl,λ_ _ _=>rfl,U,U,U⟩
def qd.fc{l e i:e7}{w':ß}(h:qd l e w w')(k:qd e i w' u):qd l i w u:=by
 have f:∀j,j<w.heap.size->¬l.O j->¬e.O j:=λj c b q=>(h.N j q).elim b λz=>by omega
 refine⟨Õ h.r k.r,λj q=> ?_,k.c.trans h.c,k.S.trans h.S,k.b.trans h.b,k.k.trans h.k,λj c b d=>((k.jH j (È c h.r) (f j c b)<|by rwa[h.S]).trans<|h.jH j c b d),λa g b d=>((k.M a (È g h.r) (f _ g b)<|by rwa[h.S]).trans<|h.M a g b d),λj c b=>(k.Y j (È c h.r)<|f j c b).trans<|h.Y j c b,k.C.trans h.C,k.I.trans h.I,k.d.trans h.d⟩
 .rcases k.N j q with z|z
  .exact h.N j z
  .exact Ç<|Õ h.r z
def lV.aiZ{l a:e7}(h:lV l a w u V):qd l a w u:=⟨h.C,h.S,h.I,h.r,h.M,h.k,h.jH,h.N,λj b c=>h.Y ⟨j,0,Á⟩ b c,h.f,h.g,h.m⟩
def qd.G{l a:e7}(h:qd l a (w.at i) u):qd l a w u:=⟨h.r,h.N,h.c,h.S,h.b,h.k,h.jH,h.M,h.Y,h.C,h.I,h.d⟩
section
variable{Y:Nat->Prop}{jd:Ν->Prop}{H:Nat}{J:Jd}{T:gk}{lv:Nat->Nat}{lot:Nat->e7}{gs:Array Ý}{t:ż}{sl:Option (Nat×Nat)}
def ko.I(c:ko P Y jd H J T lv lot gs w t)(d:Nat):ko P Y jd H J T lv lot gs (w.at d) t:=⟨c.C,c.r.at d,c.c,c.d,c.M,c.S,c.b,c.N⟩
def ai0{l:e7}{e:ž}(h:xE l e)(a:â):ï e≠.mark (.release a):=by
 let⟨c,d,g⟩:=e;rcases h with⟨x,b,_⟩|h|⟨f,h⟩|h|h|⟨x,_,h⟩
 .simp only at b;subst b;simp[ï]
 .simp only at h;subst h;simp[ï]
 .simp only at h;subst h;simp[ï]
 .simp only at h;subst h;simp[ï]
 .simp only at h;subst h;simp[ï]
 .simp only at h;rcases h with rfl|rfl|rfl|rfl<;>simp[ï]
theorem ai1{e:ž}(h:e.mute=Ò)(a:â):ï e≠.mark (.release a):=by let⟨b,c,d⟩:=e;cases b<;>simp_all[Event.mute];rename_i m;cases m<;>simp_all[ï]
theorem ko.ai2{k:ß->gk}(c:ko P Y jd H J (.jB k) lv lot gs w t)(o:∀l g,J l g->g.status=ċ\/g.status=ş)(r:gs[0]?=Â g): ∃e b d u,runT P (Ĭ gs w sl) 0=(.next<|Ĭ b d sl,u)/\b.size=gs.size/\qd (lot 0) (e 0) w d/\ko P Y jd H J (k w) lv e b d (t++u):=by
 obtain⟨b,d,G,s,v,f,I,K,j,y⟩:=c.r.fi r U λl g h=>o l g h;refine⟨gi lot 0 s,b,d,_,v,f,by rw[gO];exact j.aiZ,by rw[f];exact c.C,?_,λi z B=> ?_,?_,λp a h C=> ?_,λp a x h D=> ?_,λa h=>(c.b a h).app λu m=> ?_,Ř c.N λu m=>Ã<|nG u m⟩
 .have e:ft (λi=>if i=0 then(.jB k:gk)else .fv) 0 (k w)=λi=>if i=0 then k w else .fv:=by
   funext i;unfold ft;grind
  rwa[<-e]
 .rw[gB lot _ Z];exact c.c i z<|by rwa[<-f]
 .rw[gO,j.q];exact c.d
 .rcases mo h with⟨_,e⟩|⟨_,u,e,E,n⟩
  .exact(c.M p a e C).imp (·.app _) id
  .have:=knows_own n;grind [nG]
 .rcases mo h with⟨F,e⟩|⟨_,u,e,E,n⟩
  .rw[g?_old F];exact c.S p a x e D
  .apply Ã;unfold Trace.g?;grind [nG]
 .obtain⟨e,n,rfl⟩:=Č m;exact ai0 (j.c e n) a
theorem ko.Yx(c:ko P Y jd H J T lv lot gs w t)(q:gs[i]?=Â g)(b:i≠0)(y:g.status=ċ): ∃a e f u,runT P (Ĭ gs w sl) i=(.next<|Ĭ f w sl,u)/\f.size=gs.size/\sumTo gs.size a+1=sumTo gs.size lv/\e 0=lot 0/\ko P Y jd H J T a e f w (t++u):=by
 have z:=(æ.1 q).1;obtain⟨f,r,m,M,B,o,N,C,D⟩:=c.r.Nc (n:=lv i) q b y U (by simp[b]) (by simp[b]);have E:∀u∈MemOp.ofEvents i g.frame.fn g.frame.place r,u.act.touch?=Á:=λu h=>by obtain⟨e,s,rfl⟩:=Č h;exact touch_mute<|C e s
 refine⟨ft lv i m,gi lot i {lot i with d:=į (lot i).d r,w:=w},f,_,B,o,?_,gB lot _<|Ne.symm b,by rw[o];exact c.C,?_,λj v F=> ?_,?_,λp a k G=> ?_,λp a x k I=> ?_,λa k=>(c.b a k).app λu h=> ?_,Ř c.N λu h=>Ç<|E u h⟩
 .grind [vR,fD,gy]
 .have l:ft (λi=>if i=0 then J else oG P (lv i)) i (oG P m)=λj=>if j=0 then J else oG P (ft lv i m j):=by
   funext j;unfold ft;grind
  rwa[<-l]
 .by_cases e:j=i
  .subst e;rw[gO];have:=c.c j v z;rw[this];rfl
  .rw[gB lot _ e];exact c.c j v<|by rwa[<-o]
 .rw[gB lot _<|Ne.symm b];exact c.d
 .rcases mo k with⟨_,l⟩|⟨_,u,l,K,_⟩
  .exact(c.M p a l G).imp (·.app _) id
  .grind
 .rcases mo k with⟨L,l⟩|⟨_,u,l,K,_⟩
  .rw[g?_old L];exact c.S p a x l I
  .grind
 .obtain⟨e,s,rfl⟩:=Č h;grind [ai1]
def ko.Jk(c:ko P Y jd H J T lv lot gs w t):∀g∈gs,awake g:=by
 intro g e;obtain⟨i,f,rfl⟩:=Array.mem_iff_getElem.1 e;let⟨g0,_,b,a,_⟩:=c.r.C i _<|ì f;intro τ d;generalize gs[i]=g at b d;cases b with
 |gd=>rcases a with a|a<;>rw[d]at a<;>cases a
theorem ko.G(K:∀l g,J l g->g.status=ċ\/g.status=ş):∀(T:gk) (s:Nat) (lv:Nat->Nat) (lot:Nat->e7) (gs:Array Ý) (w:ß) (sl:Option (Nat×Nat)) (t:ż),sumTo gs.size lv=s->ko P Y jd H J T lv lot gs w t-> ∃N h b a f e c,Ŷ P N (Ĭ gs w sl) t=(.next<|Ĭ a f e,c)/\a.size=gs.size/\qd (lot 0) (b 0) w f/\ko P Y jd H J .fv h b a f c:=by
 intro T
 induction VU.apply T with
 |intro T _ L=>
  intro s
  induction s using Nat.strongRecOn with
  |_ s M=>
   intro lv lot gs w sl t V c;cases C:T with
   |fv=>
    subst C;exact⟨0,lv,lot,gs,w,sl,t,U,U,qd.fQ _ _,c⟩
   |jB k=>
    subst C;have W:=c.C;obtain⟨g0,D⟩:∃g,gs[0]?=Â g:=⟨_,ì Z⟩;have O:g0.status=ċ:=by let⟨S,d,i,_,_⟩:=c.r.C 0 g0 D;grind [aeP]
    let⟨i,g,d,e,E,Q,F⟩:=crowd_pick (P:=P) (w:=w) (sl:=sl) c.Jk ⟨0,g0,D,O⟩;by_cases G:i=0
    .subst G;let⟨b,a,f,u,n,j,S,I⟩:=(c.I d).ai2 (sl:=e) K E;let⟨N,o,p,q,r,v,x,y,z,m,B⟩:=L (k<|w.at d) ⟨_,U⟩ _ lv b a f e (t++u) U I;exact⟨N+1,o,p,q,r,v,x,by simp only[Ŷ,F,n];exact y,z.trans j,S.G.fc m,B⟩
    .let⟨h,b,a,u,n,j,I,f,S⟩:=(c.I d).Yx (sl:=e) E G Q;let⟨N,o,p,q,r,v,x,y,z,m,B⟩:=M (sumTo a.size h) (by rw[j];omega) h b a (w.at d) e (t++u) U S;exact⟨N+1,o,p,q,r,v,x,by simp only[Ŷ,F,n];exact y,z.trans j,by rw[f]at m;exact m.G,B⟩
end
section
variable{F:Ph}{E:fO F}{S:Nat->Jd}{tr:Nat->gk}{o:Nat->il}{f:Nat->e7}{gs:Array Ý}
def PI.jh(p:PI F i zX E S tr o f gs w qJ)(c:E.M=.fV):E.r=F.n+1/\∀x,x<F.n+1->∃N,E.N x=Â (.jh N):=by
 refine⟨(by unfold fO.r;rw[c];rfl),λx g=> ?_⟩;have a:=N7 (p.C.B<|Ç<|Ç c) x g;have j:x<E.M.ad F.n:=by rwa[c]
 unfold fO.G at a;rw[if_pos j]at a;have l:E.M.gw=0:=by rw[c];rfl
 cases d:E.N x with
 |none=>rw[d]at a;simp[lH]at a
 |some e=>
  rw[d]at a;simp only[lH]at a;cases e with
  |n5=>simp[gZ.kB]at a
  |jh N=>exact⟨N,U⟩
  |fV q=>
   let⟨h,k⟩:=p.C.N x q d;cases q with
   |jr=>simp[gZ.kB,jv.kB]at a
   |iy=>simp[gZ.kB,jv.kB]at a
   |gq W=>
    let⟨_,b⟩:=h W<|Ã U;have r:=p.M.C.r;rw[b]at r;have:=(p.C.g W b).2.1;simp only[GS.ok]at r;omega
   |iV W=>
    let⟨_,b⟩:=h W<|Ç U;have r:=p.M.C.r;rw[b]at r;have:=(p.C.g W b).2.1;simp only[GS.ok]at r;omega
   |im r=>
    let⟨W,_,s,b⟩:=k r U;have:=(p.C.u r s b).2.1;omega
def wF(l:e7):e7:={l with O:=λ_=>False,I:=λ_=>False,r:=λ_=>False,N:=λ_=>False,K:=λ_=>False,q:=True}
def uG(f:Nat->e7)(l:e7):Nat->e7:=λi=>if i=0 then l else wF (f i)
def Q0(f:Nat->e7)(l:e7):uG f l 0=l:=rfl
def u6(f:Nat->e7)(l:e7)(h:i≠0):uG f l i=wF (f i):=if_neg h
def GB{l:e7}(h:i≠0):¬(uG f l i).M b:=by rw[u6 f l h];exact λq=>q.elim id id
def GD{l:e7}(h:i≠0):¬(uG f l i).C a:=by rw[u6 f l h];exact λq=>q.elim id id
def iL.Y{Y I:Nat->Prop}(C:iL n I Y f w qJ)(u:I 0){l:e7}(v:n<=m)(x:∀b,l.O b->¬l.I b)(y:∀a,l.r a->¬l.N a)(B:∀b,l.M b->¬X b)(D:∀a,l.C a->X a.block)(E:∀b,l.M b->b<w.heap.size)(F:∀b,X b->b<w.heap.size)(G:fE l l.w w)(H:M7 qJ 0 l)(J:l.d=(f 0).d)(t:∀a,l.K a->X a.block/\¬l.r a):iL m I X (uG f l) w qJ:=by
 refine⟨λi j g L s b o=> ?_,λi j g L s a e=> ?_,λi g b o=> ?_,λi g a e=> ?_,λi g b o=> ?_,λi g a e=> ?_,λi g b o=> ?_,F,λi g=> ?_,λi g=> ?_,λi g=> ?_,C.l,C.q,λp a c N r P=>È (C.s p a c N r P) v,λi g a e=> ?_⟩
 .by_cases h:j=0
  .subst h;exact absurd (Ã o)<|GB s
  .exact GB h
 .by_cases h:j=0
  .subst h;exact absurd (Ã e)<|GD s
  .exact GD h
 .by_cases h:i=0
  .subst h;exact x b o
  .exact absurd (Ã o)<|GB h
 .by_cases h:i=0
  .subst h;exact y a e
  .exact absurd (Ã e)<|GD h
 .by_cases h:i=0
  .subst h;exact B b o
  .exact absurd o<|GB h
 .by_cases h:i=0
  .subst h;exact D a e
  .exact absurd e<|GD h
 .by_cases h:i=0
  .subst h;exact E b o
  .exact absurd o<|GB h
 .by_cases h:i=0
  .subst h;exact G
  .rw[u6 f l h];exact⟨(C.r i g).r,λj q=>q.elim (λz=>z.elim) λz=>z.elim,λa q=>q.elim (λz=>z.elim) λz=>z.elim,λa q=>q.elim (λz=>z.elim) λz=>z.elim,λa q=>q.elim⟩
 .by_cases h:i=0
  .subst h;exact H
  .rw[u6 f l h];exact⟨λa e=>e.elim,λa e=>e.elim,λa e=>e.elim,λa e=>e.elim⟩
 .by_cases h:i=0
  .subst h;rw[Q0,J];exact C.f 0 u
  .rw[u6 f l h];exact C.f i g
 .by_cases h:i=0
  .subst h;refine⟨(t a e).1,λk z q=> ?_⟩;by_cases r:k=0
   .subst r;exact(t a e).2 q
   .exact absurd (Ã q)<|GD r
  .rw[u6 f l h]at e;exact e.elim
theorem PI.ai3(p:PI F i zX E S tr o f gs w qJ)(m:E.M=.fV)(r:Jg F zX qJ)(y:F.S=0)(M:1<=F.L): ∃z:Nat->Nat,ko F.P E.Y (λk=>zX k\/∃x:â,k=û x/\x.block=F.C) w.heap.size (F.j E.I) (tr 0) z (uG f<|f 0) gs w qJ:=by
 let⟨B,s⟩:=p.jh m;have O:gs.size=F.L+(F.n+1):=by rw[p.b,B]
 have C:=p.I.r;have c:0<gs.size:=Z
 refine⟨λb=>if h:F.L<=b/\b<F.L+(F.n+1)then Classical.choose (s (b-F.L) Z)else E.h b,Z,⟨?_,λb x t=> ?_,p.I.I⟩,λb Q _=> ?_,p.a.M 0<|Ã U,λq a d D=> ?_,λq a x d G=>Ç<|VS C.q d G,λa d q u=> ?_,r.2⟩
 .rw[y]at C;exact C.Y c (Ú _) (C.m 0 c) (C.g 0 c) (C.I 0 c) (C.e 0 c) (C.fq 0 c) C.N (C.r 0 c) (C.S 0 c) U λa d=>⟨(C.n 0 c a d).1,(C.n 0 c a d).2 0 c⟩
 .let⟨k,j,l,v,H⟩:=p.I.C b x t;by_cases h:b=0
  .subst h;rw[p.h.1,m]at j;rw[p.h.2,m]at l;exact⟨k,j,l,v,H⟩
  .have T:=(æ.1 t).1;simp only[h,if_false];rw[u6 f _ h];have I:∀N,S b=oG F.P N->tr b=.fv->o b=.no->∃k,kJ F.P (b==0) (oG F.P N) .fv (wF<|f b) k/\vM k .no x/\(k.status=ċ\/k.status=ş)/\(x=k\/True):=λN z e g=>by
    rw[z,e]at j;rw[g]at l;exact⟨k,λJ _=>j _<|fE.fQ _ _,l,v,Ç trivial⟩
   by_cases J:b<F.L
   .let⟨z,e,g⟩:=p.l b Z J;grind
   .have K:F.L<=b/\b<F.L+(F.n+1):=Z
    simp only[K,dif_pos,and_self];let⟨z,e,g⟩:=p.k (b-F.L) _ Z<|Classical.choose_spec<|s (b-F.L) Z;rw[show F.L+(b-F.L)=b by omega]at z e g;exact I _ z (g ⟨_,U⟩) e
 .rw[u6 f _ Z];rfl
 .rcases r.1 q a d D with z|⟨z,k⟩;all_goals grind
 .unfold Trace.act? at u;let⟨k,z,g⟩:=ġ.1 u;have:=C.q k<|Array.mem_of_getElem? z;rw[g]at this;have e:a.block<w.heap.size:=this;omega
theorem ko.Y{Y:Nat->Prop}{J:Jd}{s:gk}(c:ko P Y zX n J s D f gs w qJ)(t:(f 0).d=0)(o:gs[0]?=Â g)(u:g.status=ċ){p:Jd}{T:gk}{l:e7}(v:l.w=w)(y:l.d=0)(B:¬l.q)(k:∀b,¬l.I b)(r:∀a,¬l.r a)(m:∀a,¬l.N a)(C:∀a,¬l.K a)(E:∀b,l.O b->b<w.heap.size/\∀x:â,x.block=b->¬zX (û x))(F:kJ P Ò p T l g): qS P zX n p T D (uG f l) gs w qJ:=by
 refine⟨c.C,⟨?_,λi x j=> ?_,c.r.I⟩,λi o _=> ?_,B,c.M,c.S,c.b,c.N⟩
 .refine(c.r.r).Y c.C (Ú _) (λb _=>k b) (λa _=>m a) (λ_ _=>id) (λa e=>e.elim (λq=>absurd q<|r a) λq=>absurd q<|m a) (λb z=>z.elim (λq=>(E b q).1) λq=>absurd q<|k b) (λ_ h=>h.elim) (by rw[v];exact fE.fQ _ _) ⟨λa e G x j I=> ?_,λa e=>(k _ e).elim,λa e=>(r a e).elim,λa e=>(m a e).elim⟩ (by rw[y,t]) λa e=>absurd e<|C a;rcases c.M G x j (by rw[I];rfl)with z|⟨z,_⟩;all_goals grind
 .by_cases h:i=0
  .subst h;rw[o]at j;obtain rfl:=Ó j;exact⟨g,F,.gd,Ã u,Ã U⟩
  .let⟨g0,e,G,I,z⟩:=c.r.C i x j;simp only[h,if_false]at e z|-;rw[u6 f _ h];exact⟨g0,λL _=>e _<|fE.fQ _ _,G,I,z⟩
 .rw[u6 f _ Z];rfl
end
section
variable{F:Ph}{H:Nat}{J:Jd}{f:Nat->e7}{gs:Array Ý}
structure Q5(F:Ph)(H:Nat)(l0 l:e7)(w:ß):Prop where
 fi:∀b,l.O b->l0.O b/\¬(F.M b\/b=F.Y)
 r:∀b,l.I b->l0.O b/\¬(F.M b\/b=F.Y)/\¬l.O b
 C:∀a,l.r a↔∃x,x<=F.n/\lr F x a
 I:∀a,l.N a↔a=iZ F.toFx 0
 k:∀a,l.K a->F.G a
 M:∀b,F.M b\/b=F.Y->l0.O b
 N:∀b,F.M b->H<=b
 g:l.w=w
 d:l.d=0
 q:¬l.q
 S:∀b,F.i b->l.I b
 Y:gU w F.C (.cl 1 0)
 c:gU w (F.I 0) (.cl 0 0)
 e:∀k,1<=k->k<=F.m->gU w (F.I k) (.cl 1 0)
 f:F.d 0 F.l F.i w
def lL(F:Ph)(D:Nat->Nat)(a:Nat->Nat):fO F where
 M:=.go 0
 S:=.kA 0
 C:=λ_=> .mK 0
 N:=λ_=>Á
 I:=a
 c:=λ_=>F.l
 V:=λk=>if k=0 then F.i else λ_=>False
 e:=λ_=>0
 d:=λ_=>Á
 f:=λ_=>0
 b:=.cl 1 0
 a:=λk=>if k=0 then .cl 0 0 else .cl 1 0
 g:=Á
 h:=D
theorem Kf(ok:F.Ok)(h:lr F i a):(∃k,1<=k/\k<=F.m/\a=iZ F.toFx k)\/∃p,p≠F.f/\a=je F p:=by
 unfold lr at h;split at h
 .obtain⟨k,c,d,b|b⟩:=h
  .grind
  .exact Ç ⟨_,ok.Y.1 k c d,b⟩
 .let⟨k,c,_,b⟩:=h;exact Ç ⟨_,ok.Y.2 _ (by assumption),b⟩
def Yy(ok:F.Ok)(h:lr F i (iZ F.toFx 0)):False:=by
 rcases Kf ok h with⟨k,c,b,a⟩|⟨p,_,a⟩
 .have:F.I 0=F.I k:=by injection a
  have:=ok.S 0 k Z b this;omega
 .have:F.I 0=F.Y:=by injection a
  exact ok.C<|by rw[<-this];exact Ç ⟨0,Z,U⟩
theorem qS.ai4(X:gM F)(c:qS F.P zX H J .fv D f gs w qJ)(hL:F.L=gs.size)(hB:F.S=0)(E:gs[0]?=Â g){l:e7}(st:Q5 F H (f 0) l w)(oI:(f 0).d=0)(u:Nat->Nat)(hgo:F.g 0 u l g): PI F qJ.size zX (lL F D u) (λi=>if i=0 then F.g 0 u else oG F.P (D i)) (λ_=> .fv) (λ_=> .no) (λi=>if i=0 then l else wF (f i)) gs w qJ:=by
 have S:=X.C;have C:=c.r.r;have jC:=c.C;have T:0<gs.size:=Z
 have y:(lL F D u).r=0:=U;have hY:∀b,(lL F D u).Y b↔(F.M b\/b=F.Y):=λb=>by
  constructor
  .rintro(q|q|⟨j,B,_⟩);all_goals grind
  .rintro(q|q)
   .exact Ã q
   .exact Ç<|Ã q
 have Yz:∀a,l.C a->F.M a.block\/a.block=F.Y:=λa o=>by
  rcases o with q|q
  .let⟨x,_,G⟩:=(st.C a).1 q;rcases Kf S G with⟨k,B,t,rfl⟩|⟨p,_,rfl⟩
   .exact Ã<|Ç ⟨k,t,U⟩
   .exact Ç U
  .rw[(st.I a).1 q];exact Ã<|Ç ⟨0,Z,U⟩
 have nC:∀i,i≠0->∀a,¬((λi=>if i=0 then l else wF (f i)) i).C a:=λi h a q=>by simp only[h,if_false]at q;exact q.elim id id
 have nM:∀i,i≠0->∀b,¬((λi=>if i=0 then l else wF (f i)) i).M b:=λi h b q=>by simp only[h,if_false]at q;exact q.elim id id
 have hM0:∀b,l.M b->(f 0).O b/\¬(F.M b\/b=F.Y):=λb q=>q.elim (st.fi b) λz=>⟨(st.r b z).1,(st.r b z).2.1⟩;have N9:iL F.S (λi=>i<gs.size) (lL F D u).Y (λi=>if i=0 then l else wF (f i)) w qJ:=by
  refine⟨λi j E hj N b v=> ?_,λi j E hj N a o=> ?_,λi E b v=> ?_,λi E a o=> ?_,λi E b v=> ?_,λi E a o=> ?_,λi E b v=> ?_,λb v=>C.fq 0 T b<|Ã<|st.M b<|(hY b).1 v,λi E=> ?_,λi E=> ?_,λi E=> ?_,C.l,C.q,λq a e B t I=> ?_,λi E a o=> ?_⟩
  .by_cases h:j=0
   .subst h;simp only[N,if_false]at v;exact v.elim
   .exact nM j h b
  .by_cases h:j=0
   .subst h;simp only[N,if_false]at o;exact o.elim
   .exact nC j h a
  .by_cases h:i=0
   .subst h;simp only[if_true]at v|-;exact λq=>(st.r b q).2.2 v
   .simp only[h,if_false]at v;exact v.elim
  .by_cases h:i=0
   .subst h;simp only[if_true]at o|-;intro q;rw[(st.I a).1 q]at o;let⟨x,_,G⟩:=(st.C _).1 o;exact Yy S G
   .simp only[h,if_false]at o;exact o.elim
  .by_cases h:i=0;all_goals simp_all
  .by_cases h:i=0;all_goals simp_all
  .by_cases h:i=0
   .subst h;simp only[if_true]at v;exact C.fq 0 T b<|Ã (hM0 b v).1
   .simp_all
  .by_cases h:i=0
   .subst h;simp only[if_true];rw[st.g];exact fE.fQ _ _
   .simp only[h,if_false];exact⟨(C.r i E).r,λj q=>q.elim (λz=>z.elim) λz=>z.elim,λa q=>q.elim (λz=>z.elim) λz=>z.elim,λa q=>q.elim (λz=>z.elim) λz=>z.elim,λa q=>q.elim⟩
  .by_cases h:i=0
   .subst h;simp only[if_true];have s:=(C.S 0 T).fi;exact⟨λa o=>s a (st.fi _ o).1,λa o=>(s a (st.r _ o).1).r,λa o=>s a<|st.M _<|Yz a<|Ã o,λa o=>(s a<|st.M _<|Yz a<|Ç o).r⟩
   .simp only[h,if_false];exact⟨λa o=>o.elim,λa o=>o.elim,λa o=>o.elim,λa o=>o.elim⟩
  .by_cases h:i=0
   .subst h;simp only[if_true];rw[C.f 0 T,oI,st.d]
   .simp only[h,if_false];exact C.f i E
  .have:=C.s q a e B t I;omega
  .by_cases h:i=0
   .subst h;simp only[if_true]at o;let⟨b,v,s⟩:=st.k a o;have Q:a.block=b:=by rcases s with rfl|rfl<;>rfl
    refine⟨by rw[hY,Q];exact Ã v,λk K q=> ?_⟩;by_cases t:k=0
    .subst t;simp only[if_true]at q;let⟨x,_,G⟩:=(st.C a).1 q;rcases Kf S G with⟨k',_,_,I⟩|⟨p',_,I⟩
     .rcases s with W|W<;>rw[W]at I<;>simp[fH,gQ,iZ]at I
     .have:a.block=F.Y:=by rw[I];rfl
      exact S.C<|by rwa[<-this,Q]
    .simp only[t,if_false]at q;exact q
   .simp only[h,if_false]at o;exact o.elim
 have YA:gE F.P F.S (lL F D u).Y (λi=>if i=0 then F.g 0 u else oG F.P (D i)) (λ_=> .fv) (λ_=> .no) (λi=>if i=0 then l else wF (f i)) gs w qJ:=by
  refine⟨N9,λi x G=> ?_,c.r.I⟩;by_cases h:i=0
  .subst h;rw[E]at G;obtain rfl:=Ó G;simp only[if_true];exact⟨g,λs r=>X.Ff 0 u l g s hgo r,.gd,Ã<|X.I 0 u l g hgo,Ã U⟩
  .let⟨g0,Q,q2,N,q4⟩:=c.r.C i x G;simp only[h,if_false]at Q|-;exact⟨g0,λs _=>Q _<|fE.fQ _ _,q2,N,Ç trivial⟩
 have ai5:iA F (lL F D u) (λi=>if i=0 then l else wF (f i)) gs.size w:=by
  refine⟨λi E a o=> ?_,λx _ t a o=> ?_,λ_=> ?_,λh=>absurd h (by rw[y];omega),λh=>absurd h (by rw[y];omega),λj h=>absurd h (by rw[y];omega),λj h=>absurd h (by rw[y];omega),λx ⟨e,B,_⟩=>(by cases B),λi h=> ?_,λi B t=> ?_,λk K b v=> ?_,λk K i E q=> ?_,λk B t=> ?_,λj h=>absurd h<|by rw[y];omega⟩
  .by_cases h:i=0
   .subst h;simp only[if_true]at o;rcases o with q|q
    .let⟨x,_,G⟩:=(st.C a).1 q;grind [Kf]
    .exact Ã ⟨0,Z,(st.I a).1 q⟩
   .simp_all
  .simp only[if_true];exact(st.C a).2 ⟨x,t,o⟩
  .simp only[if_true];exact⟨(st.I _).2 U,st.S⟩
  .rcases h with rfl|⟨x,G,_⟩
   .simp only[if_true];exact st.q
   .grind
  .have:i≠0:=Z
   simp only[this,if_false];rfl
  .have Q:k=0:=by have:k<=0:=K;omega
   subst Q;have B:=st.S b v;refine⟨C.fq 0 T b<|Ã (st.r b B).1,by rw[hY];exact(st.r b B).2.1,λi E q=> ?_⟩;by_cases h:i=0
   .subst h;simp only[if_true]at q;exact(st.r b B).2.2 q
   .simp only[h,if_false]at q;exact q
  .have Q:k=0:=by have:k<=0:=K;omega
   subst Q;by_cases h:i=0
   .subst h;simp only[if_true]at q;let⟨x,_,G⟩:=(st.C _).1 q;exact Yy S G
   .simp only[h,if_false]at q;exact q
  .have:k<=0:=t;omega
 have gg:∀k,k<=F.m->gU w (F.I k) ((lL F D u).a k):=λk K=>by
  by_cases h:k=0
  .subst h;exact st.c
  .have:(lL F D u).a k=.cl 1 0:=by simp[lL,h]
   rw[this];exact st.e k Z K
 have wdd:Wd F (lL F D u) w:=by
  refine⟨st.Y,gg,λj h=>absurd h (by rw[y];omega),λk K=> ?_,λk B t=> ?_,λj h=>absurd h<|by rw[y];omega⟩
  .have Q:k=0:=by have:k<=0:=K;omega
   subst Q;exact⟨.uF,st.f⟩
  .have:k<=0:=t;omega
 have YB:∀k,(sumTo F.n λj=>((lL F D u).C j).gw F j k)=0:=λk=>by
  have:∀n,(sumTo n λ_=>0)=0:=λn=>by
   induction n with
   |zero=>rfl
   |succ n s=>simp[sumTo,s]
  exact this F.n
 have ai6:sumTo (F.n+1) (lL F D u).G=1:=by
  have B:=vR (f':=(lL F D u).G) (j:=0) (n:=F.n+1) Z (λi E=>by
   have:¬i<1:=Z
   show(if i<1 then _ else _)=0;rw[if_neg this])
  have t:∀n,(sumTo n λ_=>0)=0:=λn=>by
   induction n with
   |zero=>rfl
   |succ n s=>simp[sumTo,s]
  rw[t]at B;have I:(lL F D u).G 0=1:=U;omega
 have pss:Ps F (lL F D u):=by
  refine⟨U,λj h=> ?_,λj h=> ?_,λr=>⟨λh=>(by cases h),λh=>(by cases h)⟩,λ_=>rfl,λk=>⟨λh=> ?_,λh=>(by cases h),λp h=>by cases h⟩,λ_ _=>rfl,λj r h=>absurd h (by rw[y];omega),λj h=>absurd h (by rw[y];omega),λh=>absurd U h,λ_ _=>rfl,λj j' h=>absurd h (by rw[y];omega),λj h=>absurd h (by rw[y];omega),λc reg h=> ?_,λreg h=>(by cases h),λr s h=>(by cases h),λx p h=>(by cases h),λh=> ?_,λk B t I=> ?_,λk B t=> ?_,λj r h=>absurd h (by rw[y];omega),λj r h=>absurd h (by rw[y];omega),λh=>(by cases h),λ_ _=>⟨1,rfl⟩,λ_ _ _=>rfl,λj r h=>absurd h<|by rw[y];omega⟩
  .rcases h with h|h|h|h<;>cases h;omega
  .rcases h with h|h|h<;>cases h
  .cases h;omega
  .cases h;exact⟨ai6.symm,U⟩
  .rcases h with h|h|h<;>cases h
  .rw[YB];have:k≠0:=Z
   simp[lL,this]
  .have Q:k=0:=by have:k<=0:=t;omega
   subst Q;exact Ç<|Ç ⟨λp h=>(by cases h),Ã ⟨rfl,YB 0⟩⟩
 have s:TI F.toFx qJ.size zX (lL F D u).r (lL F D u).S.rl (lL F D u).V (lL F D u).e (lL F D u).d (lL F D u).ie (lL F D u).f qJ:=by
  refine⟨Ú _,λp a x o Q hc=> ?_,λx h=>absurd h (by rw[y];omega),λk B t=> ?_,λk B t=> ?_,λb v=>c.b _<|st.N b v,λx h=>absurd h (by rw[y];omega),λp a B t=> ?_,λp a _ t I=>c.M p a t I,λp g _ t I W=>c.N p g t I W⟩
  .let⟨b,v,G⟩:=hc;have N6:x.block=b:=by rcases G with rfl|rfl<;>rfl
   rcases c.S p a x o Q with q|q
   .exact Ã ⟨Ns o,q⟩
   .have:=st.N b v;omega
  .have:k<=0:=t;omega
  .have:k<=0:=t;omega
  .have:=Ns t;omega
 refine⟨by rw[y,hL];rfl,YA,⟨by simp only[if_true];rfl,U⟩,λh=>absurd h (by rw[y];omega),λj h=>absurd h (by rw[y];omega),λx e h=>absurd h (by rw[y];omega),λi B t=>⟨?_,U,U⟩,ai5,wdd,pss,s,λi x G v=> ?_,λj r h=>absurd h<|by rw[y];omega⟩
 .have:i≠0:=Z
  simp only[this,if_false];rfl
 .let⟨g0,_,q2,N,_⟩:=YA.C i x G;cases q2 with
  |gd=>rcases N with N|N<;>rw[v]at N<;>cases N
end
end Go.Proofs.Y.fw
namespace Go.Proofs.Y.fw
open Go Go.Conc Go.Proofs.Y.Lift Go.RowKit Go.Conc.Lib Go.ConcR.Gen
open Go.Proofs Go.Proofs.YtgpphkdoanciiaaGreatDoor
section
variable{kd:Nat->Int}{R:Nat}
theorem GF(h:i∈ij kd R):i<R/\kd i=1:=by have:=Ā.1 h;grind
theorem GG(h:i∈jl kd R):i<R/\kd i≠1:=by have:=Ā.1 h;grind
def ai7:(ij kd R).Nodup:=ņ.filter _
def ai8:(jl kd R).Nodup:=ņ.filter _
def Be(h:k<jJ.length):jJ[k]?=Â (jJ.getD k 0):=by simp[List.getD,h]
def u7{l:List Nat}(h:k<l.length):l.getD k 0∈l:=ħ<|Be h
def YC(c:jJ.Nodup)(a:i<jJ.length)(d:j<jJ.length)(h:jJ.getD i 0=jJ.getD j 0):i=j:=by have b:=Be a;rw[h]at b;exact(List.getElem?_inj a c).1<|b.trans (Be d).symm
def YD:∀R,(ij kd R).length+(jl kd R).length=R
 |0=>rfl
 |R+1=>by
  have:=YD R;by_cases h:kd R=1
  .rw[A5 h,Qy h];simp;omega
  .rw[A6 h,Qz h];simp;omega
end
structure wG where
 γ:Type
 C:γ
 M:Nat->γ->γ->Prop
 RD:γ->Ï->(Nat->Prop)->ß->Prop
 I:Nat->ByteArray
 r:Nat->Prop
def Kg(M:wG)(L n R:Nat)(kd:Nat->Int)(a g:Nat->Nat)(b c:Option â)(d e f h j l:Nat)(o:List é)(p:Nat->Prop)(RC eX:ß->Prop):SD where
 L:=L
 g:=0
 n:=n
 m:=fL kd R
 q:=(jl kd R).length
 N:=R
 I:=l
 C:=g
 M:=f
 S:=h
 s:=j
 u:=b
 t:=d
 l:=c
 k:=e
 o:=λk=>Â ⟨a<|(ij kd R).getD (k-1) 0,0,Á⟩
 a:=λk=>(ij kd R).getD (k-1) 0
 i:=λi=>Â ⟨a<|(jl kd R).getD i 0,0,Á⟩
 c:=λi=>(jl kd R).getD i 0
 b:=λi=>if i<(jl kd R).length then fL kd ((jl kd R).getD i 0)else 0
 f:=o
 d:=p
 RC:=RC
 p:=eX
 γ:=M.γ
 w:=M.C
 v:=M.r
 h:=M.M
 RD:=M.RD
 e:=λk=>M.I<|(ij kd R).getD (k-1) 0
 j:=λi=>M.I<|(jl kd R).getD i 0
section
variable{M:wG}{L R:Nat}{kd:Nat->Int}{a:Nat->Nat}{c:Option â}{cs:List é}{RB:Nat->Prop}{RC eX:ß->Prop}{l d f:e7}
def ai9(h:J3 kd a D R (Æ O (fL kd R) j7) (Æ c (jl kd R).length j6) v j b J i j9 m l d f)(F:∀w p,RC w->(∀g,RB g->p.heap[g]?=w.heap[g]?)->RC p)(G:∀w p,eX w->(p.os=w.os/\p.output=w.output)->eX p)(H:∀s B V w p,M.RD s B V w->(∀g,V g->p.heap[g]?=w.heap[g]?)->M.RD s B V p)(I:1<=n)(K:1<=L)(X:n+R<1000):(Kg M L n R kd a D O c j7 j6 j b J i cs RB RC eX).Ok:=by
 have Y:=YD (kd:=kd) R;have hc:(ij kd R).length=fL kd R:=U;let⟨a1,a2,a3⟩:=h.M;let⟨a4,a5,a6⟩:=h.S;have z:∀k,k<=fL kd R->d.w.heap.size<=D k/\D k<J:=λk r=>⟨(h.r.M k r).1,h.N k r⟩;have QL:=Õ (z 0 Z).1<|Ł (z 0 Z).2;refine⟨F,G,H,I,K,?_,?_,λo=> ?_,λo t=>(GG<|u7 t).1,λk C x=> ?_,λk r e=> ?_,λk u r N e=> ?_,?_,λo i' t P e=>YC ai8 t P e,λk u C x h3 Q e=> ?_,λo k t C x e=> ?_,λg _=>ă g⟩
 .show n+(jl kd R).length+fL kd R<1000;omega
 .show R<1000;omega
 .show(if o<(jl kd R).length then fL kd ((jl kd R).getD o 0)else 0)<=fL kd R;split
  .rename_i t;exact Yc<|Ł (GG<|u7 t).1
  .omega
 .refine(GF<|u7 ?_).1;have:k<=fL kd R:=x;omega
 .have:=(z k r).2;have y:D k=i:=e;omega
 .have y:D k=D u:=e;have S:=r;have T:=N;rcases Nat.lt_trichotomy k u with q|q|q
  .have:=h.r.S k u q T;omega
  .exact q
  .have:=h.r.S u k q S;omega
 .rintro(e|⟨k,r,e⟩)
  .have y:j=i:=e;omega
  .have y:j=D k:=e;have:=(z k r).1;omega
 .have W:k<=fL kd R:=x;have h4':u<=fL kd R:=Q;have:=YC ai7 Z Z e;omega
 .have W:k<=fL kd R:=x;have y:(jl kd R).getD o 0=(ij kd R).getD (k-1) 0:=e;have E:=(GG<|u7 t).2;rw[y]at E;exact E<|(GF (kd:=kd) (R:=R)<|u7 (k:=k-1) Z).2
end
abbrev kq(M:wG)(L n R:Nat)(kd:Nat->Int)(c g:Nat->Nat)(d e:Option â)(f h i a j k:Nat)(cs:List é)(l:e7):SD:=Kg M L n R kd c g d e f h i a j k cs (λb=>l.O b\/b=a) (λw=>∀b,l.O b->w.heap[b]?=l.w.heap[b]?) λw=>w.os=l.w.os/\w.output=l.w.output
def Kh(D:SD)(l:e7):e7:={l with O:=λb=>l.O b/\¬(D.Y.M b\/b=D.M)/\¬D.d b,I:=D.d,r:=λa=>∃x,x<=D.n/\lr (D.r Ä) x a,N:=λa=>a=iZ D.Y 0,K:=D.Y.G}
section
variable{M:wG}{L:Nat}{f:Nat->Int}{r:Nat->Nat}{u:Option â}{y:Nat}{cs:List é}{l B o:e7}
def Ki{cs:Array Ï}(h:w.heap[b]?=Â (É cs e)):w.frozen? ⟨b,i,Á⟩=Ì:=by simp[î,h]
def Q6{cs:Array Ï}(h:w.heap[b]?=Â (É cs e))(a:cs[0]?=Â (Ê ê<|(i:Int)*fT+0))(d:cs[1]?=Â (Ê Ď 0))(f:i<1000000):gU w b (.cl i 0):=by
 refine⟨?_,?_,Ki h,Ki h,(⟨f,Z,λ_=>rfl⟩)⟩
 .simp[Ö,fH,h,a,GS.st]
 .simp[Ö,gQ,h,d,GS.sm]
def aja(h:J3 f r D j (Æ O (fL f j) j6) (Æ u (jl f j).length y) v k m j9 b j7 J l B o)(s:gp l)(Kj:∀g,¬l.I g)(W:¬l.q)(X:l.d=0)(hH:i<=l.w.heap.size)(hV:∀g,M.r g->l.O g)(qc:M.RD M.C v M.r o.w)(wE:o.w.os=l.w.os/\o.w.output=l.w.output)(hn:1<=n)(hs:n+j<1000){t:Array Ï}(hT:Gf m b (D<|fL f j) n (Æ u (jl f j).length y) t)(dk:Nat->Nat): Q5 ((kq M L n j f r D O u j6 y k m j9 b cs l).r Ä) i o (Kh (kq M L n j f r D O u j6 y k m j9 b cs l) o) o.w/\ ((kq M L n j f r D O u j6 y k m j9 b cs l).r Ä).g 0 dk (Kh (kq M L n j f r D O u j6 y k m j9 b cs l) o) (AR (À<|Â ⟨b,0,Á⟩) jQ (À<|Â ⟨b,0,Á⟩) (ñ #[]) j7 J<|Da t::cs):=by
 let⟨a1,a2,a3⟩:=h.M;let⟨a4,a5,a6⟩:=h.S;have N:∀C,C<=fL f j->B.w.heap.size<=D C/\D C<j9:=λC E=>⟨(h.r.M C E).1,h.N C E⟩;have QL:=Õ (N 0 Z).1<|Ł (N 0 Z).2;have Y:=λg q=>s.fq g<|Ã q;have hc:(ij f j).length=fL f j:=rfl;have Q:∀g,(kq M L n j f r D O u j6 y k m j9 b cs l).Y.M g\/g=k->g=b\/(∃C,C<=fL f j/\g=D C)\/g=k:=λg q=>by
  rcases q with(q|⟨C,S,q2⟩)|q
  .exact Ã q
  .exact Ç<|Ã ⟨C,S,q2⟩
  .exact Ç<|Ç q
 have H:∀g,(kq M L n j f r D O u j6 y k m j9 b cs l).Y.M g\/g=k->l.w.heap.size<=g/\g≠m/\g≠j9/\g≠j7/\g≠J/\(∀C,(Æ O (fL f j) j6).ownBlock=Â C->g≠C)/\(∀C,(Æ u (jl f j).length y).ownBlock=Â C->g≠C):=λg q=>by
  rcases Q g q with rfl|⟨C,E,rfl⟩|rfl
  .exact⟨Z,Z,Z,Z,Z,λC e=>by have:=h.o3 C e;omega,λC e=>by have:=h.o4 C e;omega⟩
  .have:=N C E;exact⟨Z,Z,Z,Z,Z,λp e z=>(h.r.M C E).2.1<|z▸e,λp e z=>(h.r.M C E).2.2<|z▸e⟩
  .exact⟨Z,Z,Z,Z,Z,λC e=>by have:=(h.r.r C e).2;omega,λC e=>by have:=(h.r.C C e).2;omega⟩
 have ajb:∀g,(kq M L n j f r D O u j6 y k m j9 b cs l).Y.M g\/g=k->o.O g:=λg q=>by
  rcases Q g q with rfl|⟨C,E,rfl⟩|rfl
  .exact h.Y.fi
  .by_cases x:C=0
   .subst x;exact h.r.N.fi
   .exact(h.r.I C Z E).fi
  .exact h.I.fi
 have K:∀g,o.O g->l.w.heap.size<=g->g≠m->¬((kq M L n j f r D O u j6 y k m j9 b cs l).Y.M g\/g=k)->(Kh (kq M L n j f r D O u j6 y k m j9 b cs l) o).O g:=λg S q2 q4 q3=>⟨S,q3,λq=>q.elim (λq=>by have:=Y g q;omega) q4⟩;have YE:gU o.w b (.cl 1 0):=Q6 h.Y.I U U Z;have YF:gU o.w (D 0) (.cl 0 0):=Q6 h.r.N.I U U Z;have YG:∀C,1<=C->C<=fL f j->gU o.w (D C) (.cl 1 0):=λC I P=>Q6 (h.r.I C I P).I U U Z;have T:∀g c,gU o.w g c->mP g o.w:=λg c q=>⟨by rw[show(⟨g,0,Á⟩:â)=fH g from rfl,q.C];rfl,by rw[show(⟨g,1,Á⟩:â)=gQ g from rfl,q.M];rfl⟩;refine⟨⟨λg q=>⟨q.1,q.2.1⟩,λg q=>⟨?_,λz=> ?_,λz=>z.2.2 q⟩,λa=>Iff.rfl,λa=>Iff.rfl,λa q=>q,λg q=>ajb g q,λg q=>Õ hH (H g<|Ã q).1,U,h.C.d.trans X,by show¬o.q;rwa[h.C.q],λg q=>Ã<|hV g q,YE,YF,YG,⟨⟨v,h.r.N.C U,qc⟩,λ_=> ?_⟩⟩,?_⟩
 .rcases q with q|q
  .exact h.C.O g q
  .rw[q];exact h.a.fi
 .rcases q with q|q
  .have:=(H g z).1;have:=Y g q;omega
  .exact(H g z).2.1 q
 .refine⟨?_,by unfold kE;rw[show o.w.heap[(kq M L n j f r D O u j6 y k m j9 b cs l).M]?=Â (wA j)from h.I.I],wE⟩;show o.w.cell? ⟨k,j,Á⟩=Á;simp only[Ö,h.I.I,wA,ı,Ķ,if_false];exact Array.getElem?_eq_none<|by rw[ř];exact Ú _
 refine⟨h.C.d.trans X,by show¬o.q;rwa[h.C.q],ă _,Ã ⟨U,⟨λg q=>⟨⟨g,q,Ã U⟩,⟨g,q,Ç U⟩⟩,λg q=> ?_,Ç<|Ç U,h.a.C U,(Ã<|K j9 h.c.fi Z Z λz=>(H j9 z).2.2.1 U),h.c.C U,λC E=> ?_,λe hi=> ?_,λa q=> ?_,λg q=>Ç q,λg q=>h.C.r g (Ã q) id⟩,t,j7,J,jQ,hT,⟨(K j7 h.d.fi Z Z λz=>(H j7 z).2.2.2.1 U),h.d.I⟩,⟨(K J h.b.fi Z Z λz=>(H J z).2.2.2.2.1 U),h.b.I⟩,U⟩⟩
 .rcases Q g (Ã q)with rfl|⟨C,E,rfl⟩|rfl
  .exact T _ _ YE
  .by_cases x:C=0
   .subst x;exact T _ _ YF
   .exact T _ _<|YG C Z E
  .exact absurd q λz=>by
    rcases z with z|⟨C,x,F⟩
    .have G:g=b:=z;omega
    .have G:g=D C:=F;have:=(N C x).1;omega
 .have sN:C<fL f j:=E;rcases h.r.jE.2 with⟨_,e2⟩|⟨g,cap,cur,V,_,hcur,Gv⟩
  .omega
  .have ym:O=Â ⟨g,0,Á⟩:=by injection V
   subst ym;have x:=h.r.jE.cells U;have hz:(ij f j).zipIdx[C]?=Â ((ij f j).getD C 0,C):=by rw[List.getElem?_zipIdx,Be Z];simp
   have F:∀c,c<4->(jE f r D j)[C*4+c]?=(tI r D ((ij f j).getD C 0,C))[c]?:=λc q=>QC (λ_=>rfl) q _ C _ hz;have G:∀p,(⟨g,0,Á⟩:â).add p=⟨g,p,Á⟩:=λp=>by rw[ğ,č]
   refine⟨g,U,Ã (K g (h.r.r g U).1 (Õ Z (h.r.r g U).2) (by have:=(h.r.r g U).2;omega) λz=>(H g z).2.2.2.2.2.1 g U U),?_,?_,?_,?_⟩
   .have:=x (C*4+0) _<|F 0 Z;rwa[G]at this
   .have:=x (C*4+1) _<|F 1 Z;rwa[G]at this
   .have:=x (C*4+2) _<|F 2 Z;rwa[G]at this
   .have:=x (C*4+3) _<|F 3 Z;rwa[G]at this
 .have kT:e<(jl f j).length:=hi;rcases h.r.ma.2 with⟨_,e2⟩|⟨g,cap,cur,V,_,hcur,Gv⟩
  .omega
  .have QX:u=Â ⟨g,0,Á⟩:=by injection V
   subst QX;have x:=h.r.ma.cells U;have F:∀c,c<4->(ma f r D j)[e*4+c]?=(tQ f r D<|(jl f j).getD e 0)[c]?:=λc q=>QC (λ_=>rfl) q _ e _<|Be kT;have G:∀p,(⟨g,0,Á⟩:â).add p=⟨g,p,Á⟩:=λp=>by rw[ğ,č]
   refine⟨g,U,Ã (K g (h.r.C g U).1 (Õ Z (h.r.C g U).2) (by have:=(h.r.C g U).2;omega) λz=>(H g z).2.2.2.2.2.2 g U U),?_,?_,?_,?_⟩
   .have:=x (e*4+0) _<|F 0 Z;rwa[G]at this
   .have:=x (e*4+1) _<|F 1 Z;rwa[G]at this
   .have:=x (e*4+2) _<|F 2 Z;rw[G]at this;show o.w.cell? ⟨g,e*4+2,Á⟩=Â (À<|Â ⟨D (if e<(jl f j).length then fL f ((jl f j).getD e 0)else 0),0,Á⟩);rw[if_pos kT];exact this
   .have:=x (e*4+3) _<|F 3 Z;rwa[G]at this
 .have V:∀p,p<j->(o.w.cell? ⟨k,p,Á⟩).isSome=Ò/\o.w.frozen? ⟨k,p,Á⟩=Ì:=λp hp=>by
   refine⟨?_,Ki h.I.I⟩;have:p<(madeCells (Ŵ<|à ⟨#[]⟩) j).size:=by rwa[ř]
   simp[Ö,h.I.I,this]
  let⟨x,_,F⟩:=q;unfold lr at F;split at F
  .obtain⟨C,I,P,rfl|rfl⟩:=F
   .have G:=P;refine⟨?_,Ki (h.r.I C I G).I⟩;show(o.w.cell? ⟨D C,2,Á⟩).isSome=Ò;rw[(h.r.I C I G).C U];rfl
   .have G:C<=fL f j:=P;exact V _ (GF<|u7 Z).1
  .obtain⟨e,I,_,rfl⟩:=F;exact V _ (GG<|u7 I).1
end
end Go.Proofs.Y.fw
namespace Go.Proofs.Y.fw
open Go Go.Conc Go.Proofs.Y.Lift Go.RowKit Go.Conc.Lib Go.ConcR.Gen
open Go.Proofs Go.Proofs.YtgpphkdoanciiaaGreatDoor
open Go.ConcN (sumTo sumTo_congr)
def Kk(kd:Nat->Int)(f:Nat->Nat)(R n:Nat)(h:Ï)(l:e7)(cs:List é):Jd:=λi j=>
 ∃g k t m b o c p a d e q,J3 kd f g R m b h o c p a d e l k i/\Gf c a (g<|fL kd R) n b t/\j=AR (À<|Â ⟨a,0,Á⟩) q (À<|Â ⟨a,0,Á⟩) (ñ #[]) d e (Da t::cs)
theorem YH(h:w.ownsRow i e j v n l):∃b c,v=Æ b n c:=by rcases h.2 with⟨a,d⟩|⟨b,f,g,a,_⟩;all_goals grind
section
variable{F:Ph}{E:fO F}{S:Nat->Jd}{B:Nat->gk}{G:Nat->il}{y:Nat->e7}{o:Array Ý}
theorem PI.ajc(p:PI F j9 zX E S B G y o w qJ)(c:E.M=.fV)(d:1<=F.n):E.S=.kA F.m/\(∀i,i<F.q->w.cell? (je F<|F.a i)=Â (à<|F.k i)/\∀k,k<o.size->¬(y k).r (je F<|F.a i)):=by
 let⟨j,a⟩:=p.jh c;refine⟨p.C.f (by let⟨N,h⟩:=a 0 Z;rw[h];simp),λi k=> ?_⟩;have l:i%F.n<F.n:=ĵ _ d;have e:i%F.n+i/F.n*F.n=i:=by rw[Nat.mul_comm];exact Nat.mod_add_div i F.n
 let⟨N,h⟩:=a (i%F.n+1) Z;let⟨_,r,f,g⟩:=p.C.l (i%F.n) Z (by rw[h];simp);have b:i/F.n<(E.C<|i%F.n).kl:=by rw[f];exact(g (i/F.n)<|by rwa[e])
 have s:=p.M.N (i%F.n) Z (i/F.n) (by rwa[e]) b;have t:=p.a.d (i%F.n) Z (i/F.n) (by rwa[e]) b;grind
end
structure ajd(D:SD)(l:e7)(w:ß)(g:Ý):Prop where
 I:∀b,l.O b->w.heap[b]?=l.w.heap[b]?
 cba:w.cell? ⟨D.S,0,Á⟩=Â (Æ (Â ⟨D.M,0,Á⟩) D.N D.N)
 kA:∀k,1<=k->k<=D.m->w.cell? ⟨D.M,D.a k,Á⟩=Â (à<|D.e k)
 Q7:∀i,i<D.q->w.cell? ⟨D.M,D.c i,Á⟩=Â (à<|D.j i)
 GH:∃s sl V,mL (D.r Ä) D.m s/\w.cell? ⟨D.C D.m,2,Á⟩=Â sl/\D.RD s sl V w/\∀b,V b->b<w.heap.size/\b≠D.I
 fq:D.M<w.heap.size/\D.S<w.heap.size/\D.C D.m<w.heap.size
 r:D.M≠D.I/\D.S≠D.I/\D.C D.m≠D.I
 Q8:∃ts,SE D.S D.I (D.C D.m) ts/\g=Dg ts D.f
 C:w.cell? ⟨D.M,D.N,Á⟩=Á/\kE w D.M=Â (0,0)
 io:w.os=l.w.os/\w.output=l.w.output
section
variable{M:wG}{f:Nat->Int}{u:Nat->Nat}{cs:List é}{l:e7}{I:Nat->Nat}{y:Nat->e7}{o:Array Ý}
theorem aje(c:qS Ä zX j (Kk f u J n v l cs) .fv I y o w qJ)(S:Option (Nat×Nat))(s:gp l)(Kj:∀b,¬l.I b)(hq:¬l.q)(hd:l.d=0)(hH:j<=l.w.heap.size)(hV:∀b,M.r b->l.O b)(qc:∀s S V w G,M.RD s S V w->(∀b,V b->G.heap[b]?=w.heap[b]?)->M.RD s S V G)(Bf:M.RD M.C v M.r l.w)(wE:w.os=l.w.os/\w.output=l.w.output)(hn:1<=n)(hs:n+J<1000) (hA:∀g r t B D e m p h,l.w.heap.size<=m->Dh (kq M o.size n J f u g r t B D e m p h cs l)/\Di (kq M o.size n J f u g r t B D e m p h cs l)): ∃g r t B D e m p h,(l.w.heap.size<=e/\l.w.heap.size<=m/\l.w.heap.size<=h/\∀k,k<=fL f J->l.w.heap.size<=g k)/\ ∃N Y a H C i G K E z,Ŷ Ä N (Ĭ o w S) qJ=(.next<|Ĭ i G K,E)/\i.size=o.size+(n+1)/\i[0]?=Â z/\a<=G.heap.size/\h<a/\j<=a/\(C 0).d=0/\z.status=ċ/\ ko Ä Y (λF=>zX F\/∃x:â,F=û x/\x.block=h) a (Yp<|kq M o.size n J f u g r t B D e m p h cs l) .fv H C i G E/\ajd (kq M o.size n J f u g r t B D e m p h cs l) l G z:=by
 have h0:=c.C;obtain⟨g0,vW⟩:∃g,o[0]?=Â g:=⟨_,ì h0⟩;let⟨g1,q1,q2,q3,_⟩:=c.r.C 0 g0 vW;obtain rfl:g0=g1:=by cases q2;rfl
 have hz:=q1 w<|c.r.r.r 0 h0;let⟨g,lp,tt,iv,qv,e,m,p,h,bw,bf,T,F,hT,hg⟩:=hz;obtain⟨r,B,rfl⟩:=YH F.r.jE;obtain⟨t,D,rfl⟩:=YH F.r.ma;let⟨a1,a2,a3⟩:=F.M;let⟨a4,a5,a6⟩:=F.S;have Q9:∀k,k<=fL f J->lp.w.heap.size<=g k/\g k<p:=λk W=>⟨(F.r.M k W).1,F.N k W⟩;have ase:=Q9 0 Z;have ajf:=qc _ _ _ _ _ Bf λb q=>F.C.r b (Ã<|hV b q) id;obtain⟨st,hgo⟩:=aja F s Kj hq hd hH hV ajf wE hn hs hT λ_=>0;have ok:=ai9 (L:=o.size) (cs:=cs) (RB:=λb=>l.O b\/b=m) (RC:=λw=>∀b,l.O b->w.heap[b]?=l.w.heap[b]?) F (λw G P X b a=>(X b<|Ã a).trans<|P b a) (eX:=λw=>w.os=l.w.os/\w.output=l.w.output) (λw G P X=>⟨X.1.trans P.1,X.2.trans P.2⟩) qc hn Z hs;let⟨hAdd,ajg⟩:=hA g r t B D e m p h Z;have Hy:=aiY ok hAdd ajg;have A3:=F.C.d.trans hd;have st':Q5 ((kq M o.size n J f u g r t B D e m p h cs l).r Ä) j (y 0) (Kh (kq M o.size n J f u g r t B D e m p h cs l) {y 0 with w:=w}) w:=⟨st.fi,st.r,st.C,st.I,st.k,st.M,st.N,st.g,st.d,st.q,st.S,st.Y,st.c,st.e,st.f⟩;rw[<-hg]at hgo;have p0:=c.ai4 Hy U U vW st' A3 (λ_=>0) hgo;let⟨N1,E,S1,tr1,kp1,asf,gs1,w1,YI,t1,r1,x,hf,he⟩:=agK Hy _ _ _ _ _ _ _ o w S qJ U U p0 (by intro q;cases q);let⟨nZ,_⟩:=x.jh hf;let⟨yy,c1⟩:=x.ai3 hf he U h0;let⟨N2,Kl,Ra,gs2,w2,GI,t2,r2,z2,N,c2⟩:=c1.G (λa i z=>Ã<|Hy.M E.I a i z) (tr1 0) _ yy _ gs1 w1 YI t1 U;have Dj:gs1.size=o.size+(n+1):=by rw[x.b,nZ];rfl
 have Km:=c2.C;obtain⟨g2,Kn⟩:∃g,gs2[0]?=Â g:=⟨_,ì Km⟩;let⟨g3,u1,u2,u3,_⟩:=c2.r.C 0 g2 Kn;obtain rfl:g2=g3:=by cases u2;rfl
 have hE:=u1 w2<|c2.r.r.r 0 Km;let⟨e1,e2,dat,ts,qe,hge⟩:=hE;have Q:0<gs1.size:=Z
 have C:=x.I.r;have hY:=λb q z=>C.I 0 Q b (Ã z) q;have H:E.Y e:=Ç<|Ã U;have yG:∀k,k<=fL f J->E.Y (g k):=λk W=>Ã<|Ç ⟨k,W,U⟩;have YJ:E.Y h:=Ã<|Ã U;let⟨hip,ajh⟩:=x.ajc hf hn;have hmd:E.S.md=fL f J:=by rw[hip];rfl
 let⟨FH,⟨YK,Rb,Ko⟩,_⟩:=x.M.M (fL f J) Z;have K:=C.N;refine⟨g,r,t,B,D,e,m,p,h,⟨a1,Z,Z,λk W=>by have:=Q9 k W;omega⟩,N1+N2,E.Y,w1.heap.size,Kl,Ra,gs2,w2,GI,t2,g2,?_,Z,Kn,N.r,K h YJ,?_,e1,Hy.M E.I _ _<|u1 w2<|c2.r.r.r 0 Km,c2,⟨dat.e,dat.d,λk P X=> ?_,λi hi=> ?_,?_,?_,(⟨show e≠h by omega,show m≠h by omega,show g (fL f J)≠h by have:=Q9 (fL f J)<|Ú _;omega⟩),⟨ts,qe,hge⟩,?_,?_⟩⟩
 .rwa[runNT_add,show Ŷ Ä N1 (Ĭ o w S) qJ=_ from r1]
 .grind
 .have a:k<=fL f J:=X;refine Ŀ (N.M ⟨e,_,Á⟩ (K e H) (hY e H)<|x.a.g k P Z 0 Q)<|x.M.S k P Z
 .let⟨T,v2⟩:=ajh i hi;exact Ŀ (N.M ⟨e,_,Á⟩ (K e H) (hY e H)<|v2 0 Q) T
 .refine⟨E.c<|fL f J,YK,E.V<|fL f J,FH,(Ŀ (N.M ⟨g<|fL f J,2,Á⟩ (K _<|yG _<|Ú _) (hY _<|yG _<|Ú _)<|x.a.N (fL f J) Z 0 Q) Rb),qc _ _ _ _ _ Ko λb q=> ?_,λb q=> ?_⟩
  .let⟨T,v2,v3⟩:=x.a.I (fL f J) Z b q;exact N.jH b T (v3 0 Q) λa ha z=>v2<|ha▸C.e 0 Q a (Ã z)
  .let⟨T,v2,v3⟩:=x.a.I (fL f J) Z b q;exact⟨È T N.r,λz=>v2<|z▸YJ⟩
 .refine⟨È (K e H) N.r,c2.r.r.fq 0 Km m<|Ç dat.c,È (K _<|yG _<|Ú _) N.r⟩
 .let⟨a,y2,_⟩:=(x.M.M 0<|ă _).2.2 U;exact⟨Ŀ (N.M ⟨e,J,Á⟩ (K e H) (hY e H)<|x.a.Nv Hy.C 0 Q) a,(N.Y e (K e H)<|hY e H).trans y2⟩
 .let⟨_,_,a⟩:=(x.M.M 0<|ă _).2.2 U;exact⟨N.C.trans a.1,N.I.trans a.2⟩
end
def Rc(a:Ν->Prop)(w:ß):e7 where
 O:=λb=>b<w.heap.size/\∀x:â,x.block=b->¬a (û x)
 I:=λ_=>False
 r:=λ_=>False
 N:=λ_=>False
 K:=λ_=>False
 q:=False
 d:=0
 w:=w
def YL(a:Ν->Prop)(w:ß):gp (Rc a w):= ⟨λ_ _ h=>h,λ_ h=>h.elim,λ_ h=>h.elim (λq=>q.elim) λq=>q.elim,λ_ h=>h.elim (λq=>q.1) λq=>q.elim,λ_ h=>h.elim (λq=>q.elim) λq=>q.elim,λ_ h=>h.elim⟩
structure u9(jd:Ν->Prop)(H:Nat)(l:e7):Prop where
 r:∀x:â,jd (û x)->x.block<H
 fi:∀b,l.O b->∀x:â,x.block=b->¬jd (û x)
 C:H<=l.w.heap.size
inductive yz(M:wG):Nat->M.γ->Prop
 |uF:yz M 0 M.C
 |Ck {k:Nat} {s s':M.γ} (h:yz M k s) (hn:M.M k s s'):yz M (k+1) s'
structure EX(M:wG)(R:Nat)(kd:Nat->Int)(l:e7)(an:Nat)(sl:Ï)(l':e7):Prop where
 uJ:∀b,l.O b->l'.O b/\l'.w.heap[b]?=l.w.heap[b]?
 kl:l'.O an/\∀p,p<R->l'.w.cell? ⟨an,p,Á⟩=Â (à<|M.I p)
 GH:∃s V,yz M (fL kd R) s/\M.RD s sl V l'.w/\∀b,V b->l'.O b
 d:l'.d=0
 q:¬l'.q
 rd:∀b,¬l'.I b
 Bg:(∀a,¬l'.r a)/\(∀a,¬l'.N a)/\∀a,¬l'.K a
 B4:l'.w.cell? ⟨an,R,Á⟩=Á/\kE l'.w an=Â (0,0)
section
variable{M:wG}{R H:Nat}{kd:Nat->Int}{e:Nat->Nat}{f:List é}{l:e7}{jd:Ν->Prop}{o:Nat->e7}
def aji{a:Option â}{s:M.γ}(h:mL ((kq M i n R kd e D O a j b m J j9 j7 qX l).r Ä) k s):yz M k s:=by
 have c:∀(k:Nat) (s:((kq M i n R kd e D O a j b m J j9 j7 qX l).r Ä).γ),mL ((kq M i n R kd e D O a j b m J j9 j7 qX l).r Ä) k s->yz M k s:=λk s h=>by
  induction h with
  |uF=>exact .uF
  |Ck _ d f=>exact .Ck f d
 exact c k s h
def ajj{J:(Ν->Prop)->Nat->Jd}{cf:é}{a:ŏ}(FE:qX=cf.at a (Ñ Q (i::jJ)::L)::f)(c:qS Ä jd H (Kk kd e R n v l qX) .fv D o E w qJ)(F:Option (Nat×Nat))(s:gp l)(Kj:∀b,¬l.I b)(hq:¬l.q)(hd:l.d=0)(S:u9 jd H l)(hV:∀b,M.r b->l.O b)(qc:∀s F V w u,M.RD s F V w->(∀b,V b->u.heap[b]?=w.heap[b]?)->M.RD s F V u)(ajk:∀s F V w,M.RD s F V w->(∃p m c,F=Æ p m c)/\∀b,V b->l.O b\/l.w.heap.size<=b)(Bf:M.RD M.C v M.r l.w)(wE:w.os=l.w.os/\w.output=l.w.output)(hn:1<=n)(hs:n+R<1000) (hA:∀g ib qb ci cq B ba bi I,l.w.heap.size<=ba->Dh (kq M E.size n R kd e g ib qb ci cq B ba bi I qX l)/\Di (kq M E.size n R kd e g ib qb ci cq B ba bi I qX l)) (hJ:∀Dk C W B p m c,u9 Dk C W->gp W->EX M R kd l B (Æ p m c) W->ff Ä Ò (J Dk C) W (G (cf.at (a.put ((Q[i]?).bind (·.dst))<|ñ #[Æ (Â ⟨B,0,Á⟩) R R,Æ p m c])<|Ñ Q jJ::L) f)): ∃N Dk C T jm GJ gs' u rY t',Ŷ Ä N (Ĭ E w F) qJ=(.next<|Ĭ gs' u rY,t')/\(u.os=l.w.os/\u.output=l.w.output)/\qS Ä Dk C (J Dk C) T jm GJ gs' u t':=by
 let⟨g,ib,qb,ci,cq,B,ba,bi,I,⟨b1,b2,b3,b4⟩,N,Y,C,jm,GJ,gs',u,rY,t',g',r,z1,z2,z3,z4,z5,z6,z7,cY,t⟩:=aje c F s Kj hq hd S.C hV qc Bf wE hn hs hA;let⟨st,YK,V,FH,Rb,Ko,Kp⟩:=t.GH;obtain⟨⟨sp,sm,sc,rfl⟩,YM⟩:=ajk _ _ _ _ Ko;obtain⟨ts,qe,rfl⟩:=t.Q8;have hH:=S.C;have YN:=λb q=>s.fq b<|Ã q;have X:∀b,(l.O b\/l.w.heap.size<=b)->b<u.heap.size->b≠I->(Rc (λj=>jd j\/∃x:â,j=û x/\x.block=I) u).O b:=λb hb gI kQ=>by
  refine⟨gI,λx hx=> ?_⟩;rintro(q|⟨y,P,q2⟩)
  .rcases hb with hb|hb
   .exact S.fi b hb x hx q
   .have:=S.r x q;omega
  .injection P with P;subst P;omega
 have ajl:=λb q=>by have h:=t.I b q;rw[ì<|YN b q]at h;exact(æ.1 h).1
 have keep:=λb q=>X b (Ã q) (ajl b q) (by have:=YN b q;omega);have Kq:=X B (Ç b1) t.fq.1 t.r.1;have ajm:ff Ä Ò (J (λj=>jd j\/∃x:â,j=û x/\x.block=I) C) (Rc (λj=>jd j\/∃x:â,j=û x/\x.block=I) u) (Dg ts qX):=by
  rw[FE];refine aiE (YL _ _) (λq=>q) qe (Ã<|X ba (Ç b2) t.fq.2.1 t.r.2.1) (Ã<|Ã<|X _ (Ç<|b4 _<|Ú _) t.fq.2.2 t.r.2.2) t.cba Rb λW h=> ?_;refine hJ (λj=>jd j\/∃x:â,j=û x/\x.block=I) C W B sp sm sc ⟨λx q=> ?_,λb q x hx=> ?_,Õ z3 h.I⟩ (h.N<|YL _ _) ⟨λb q=>⟨h.O b<|keep b q,(h.r b (Ã<|keep b q) id).trans<|t.I b q⟩,⟨h.O B Kq,λp hp=> ?_⟩,⟨st,V,aji FH,qc _ _ _ _ _ Ko λb q=>h.r b (Ã<|X b (YM b q) (Kp b q).1 (Kp b q).2) id,λb q=>h.O b<|X b (YM b q) (Kp b q).1 (Kp b q).2⟩,h.d,?_,λb q=> ?_,⟨λa q=> ?_,λa q=> ?_,λa q=> ?_⟩,⟨(gF<|h.r B (Ã Kq) id).trans t.C.1,(vI<|h.r B (Ã Kq) id).trans t.C.2⟩⟩
  .rcases q with q|⟨y,P,q2⟩
   .exact È (S.r x q) z5
   .injection P with P;subst P;omega
  .rcases h.c b q with q|q
   .exact q.2 x hx
   .have j:u.heap.size<=b:=q;rintro(z|⟨y,z1,z2⟩)
    .have:=S.r x z;omega
    .injection z1 with z1;subst z1;omega
  .refine(gF<|h.r B (Ã Kq) id).trans ?_;by_cases hk:kd p=1
   .have hm:p∈ij kd R:=Ā.2 ⟨Ē.2 hp,by simpa using hk⟩;let⟨j,y⟩:=Ĩ hm;have P:=(Ĕ.1 y).1;have:=t.kA (j+1) Z (show j+1<=fL kd R from P);have e2:(ij kd R).getD (j+1-1) 0=p:=Ó<|(Be P).symm.trans y;simp only[kq,Kg,e2]at this;exact this
   .have hm:p∈jl kd R:=Ā.2 ⟨Ē.2 hp,by simpa using hk⟩;let⟨j,y⟩:=Ĩ hm;have P:=(Ĕ.1 y).1;have:=t.Q7 j P;simp only[kq,Kg,Ó<|(Be P).symm.trans y]at this;exact this
  .rw[h.q];exact id
  .rw[h.S]at q;exact q
  .rw[h.Y]at q;exact q
  .rw[h.b]at q;exact q
  .rw[h.K]at q;exact q
 let⟨T,h⟩:=jc ajm;exact⟨N,_,C,T,jm,_,gs',u,rY,t',r,t.io,cY.Y z6 z2 z7 U U id (λ_=>id) (λ_=>id) (λ_=>id) (λ_=>id) (λb q=>q) h⟩
end
end Go.Proofs.Y.fw
namespace Go.Proofs.Y.fw
open Go Go.Conc Go.Proofs.Y.Lift Go.RowKit Go.Conc.Lib Go.ConcR.Gen
open Go.Proofs Go.Proofs.YtgpphkdoanciiaaGreatDoor
def pz(V:Nat->Prop)(base:Nat):fj:=⟨λi j=>i=j/\V i,base⟩
def ajn(V:Nat->Prop)(base:Nat):Bi (pz V base):= ⟨λ_ _ _ h k=>h.1.symm.trans k.1,λ_ _ _ h k=>h.1.trans k.1.symm,λi j h=>by rw[h.1]⟩
def kU(j:Nat):Bool:=j==3||j==4
def tM(c:Array Ï):Array Ï:=c.extract 0 16
def ajo(c:Array Ï):(tM c).size=min 16 c.size:=by simp[tM]
open Classical in
noncomputable def oN (a:Nat->Prop) (j:Nat):Ÿ->Ÿ
 |É c e b=>if a j then(if kU j=Ò then É (tM c) e (0,(tM c).size)else É c e (0,c.size))else É c e b
 |_=>É #[] 0
noncomputable def kN (Sh:Nat->Prop) (w:ß):ß:={w with heap:=w.heap.mapIdx (oN Sh)}
section
variable{V Sh:Nat->Prop}{base:Nat}
def Dl(j:Nat):(kN Sh w).heap[j]?=(w.heap[j]?).map (oN Sh j):=by simp[kN,Array.getElem?_mapIdx]
def YO:jW (kN Sh w):=λi o h=>by
 rw[Dl]at h;obtain⟨x,_,rfl⟩:=ġ.1 h;cases x<;>simp only[oN]<;>try exact id
 split
 .split<;>exact id
 .exact id
structure Kr(V Sh:Nat->Prop)(base:Nat)(w:ß):Prop where
 Q8:∀b,V b->∃c e fr,w.heap[b]?=Â (É c e fr)/\fr.2<=c.size/\fM (pz V base) c c/\(Sh b->0<c.size/\(kU b=Ò->(e=304\/e=305)/\fr.2<=16)/\(kU b=Ì->BZ c))
 fq:base<=w.heap.size
def ajp(h:Kr V Sh base w):qB (pz V base) Sh (kN Sh w) w:=by
 refine⟨U,U,ajn V base,by show base<=(w.heap.mapIdx<|oN Sh).size;rw[Array.size_mapIdx];exact h.fq,h.fq,λi j o=> ?_⟩;obtain⟨rfl,p⟩:=o;let⟨c,e,a,b,l,f,r⟩:=h.Q8 i p;have g:(kN Sh w).heap[i]?=Â (oN Sh i<|É c e a):=by rw[Dl,b];rfl
 by_cases s:Sh i
 .let⟨t,u,v⟩:=r s;cases d:kU i with
  |true=>
   let⟨x,y⟩:=u d;have z:=ajo c;have m:Ey e (tM c).size:=⟨x,Z⟩;refine⟨tM c,c,e,(0,(tM c).size),a,?_,b,⟨λk B n=> ?_,Z,Ç ⟨s,m⟩⟩,λ_=>⟨U,Ú _,by show a.2<=(tM c).size;omega,Z,Ç m⟩,λq=>absurd s q,Ú _⟩
   .show(kN Sh w).heap[i]?=_;rw[g];simp[oN,s,d]
   .have:(tM c)[k]=c[k]:=by simp[tM]
    rw[this];exact f.C k n n
  |false=>
   refine⟨c,c,e,(0,c.size),a,?_,b,ox.M f,λ_=>⟨U,Ú _,l,t,Ã<|v d⟩,λq=>absurd s q,Ú _⟩;rw[g];simp[oN,s,d]
 .refine⟨c,c,e,a,a,?_,b,ox.M f,λq=>absurd q s,λ_=>rfl,l⟩;rw[g];simp[oN,s]
end
section
variable{a:Nat->Prop}{l:e7}{V:Nat->Prop}
theorem Dm(y:mZ P)(B:oD P a X)(hF:sL P X)(C:vG vQ){k:Array Ï}(D:X F)(E:P.funcs[F]?=Â s)(H:s.body=Â wX)(r:gp l)(I:¬l.q) (n:∀b,V b->l.M b) (J:Kr V (λj=>V j/\¬l.O j) P.globals.size l.w) (K:∀g,a g->V g) (L:fM (pz V P.globals.size) k k) (N:∀T,Calls P F k (World.tp (kN (λj=>V j/\¬l.O j) l.w) T 0) fun|.returned v,e=>vQ v e/\jW e|_,_=>False) (t:Bool) (o:é) (p:List é): ff P t (λh u=>∃(Y:fj) (e:ß) (v m:Ï),(pz V P.globals.size).r Y/\qB Y (λj=>V j/\¬l.O j) e h.w/\fg Y v m/\vQ v e/\u=G (o.finish m) p/\(∀i j,Y i j->h.M j/\(V j\/l.O j\/l.w.heap.size<=j))/\(∀j,l.O j->h.O j)/\h.d=l.d) l (G (Ă P F k Ğ)<|o::p):=by
 refine(aeK (adJ y B hF C D E H YO N (Y:=pz V P.globals.size) U (λg q=>⟨U,K g q⟩) L (ajp J) (λj q=>r.fq j<|n j q.1) (λi j _ q=>(n j q.1).resolve_left q.2) t o p) l U (λj q=> ?_) (λ_ q=>q) (λj q=>r.fq j<|Ã q) I).fI ?_
 .obtain⟨⟨i,rfl,x⟩,Q⟩:=q;grind
 .rintro h u ⟨O',⟨Y,e,v,m,S,rfl,W,q3,q4,q5⟩,Q,h3,h4,h5,h6,h7,h8,h9,h10,Re,h12⟩;refine⟨Y,e,v,m,S,W,q3,q4,q5,λi j Rf=> ?_,h4,h10⟩;by_cases z:V j/\¬l.O j
  .exact⟨Ç (by rw[h7];exact(n j z.1).resolve_left z.2),Ã z.1⟩
  .have x:=h3 j ⟨⟨i,Rf⟩,z⟩;exact⟨Ã x,Ç<|h6 j x⟩
end
section
variable{l:e7}{V GL:Nat->Prop}
def Dn(s:gp l):gp (lJ l):=by refine⟨λ_ h=>h.elim,λ_ h=>h.elim,λa c d=>s.N a (c.resolve_left id)<|d.resolve_left id,λb d=>s.fq b<|d.resolve_left id,λa c=>s.I a<|c.resolve_left id,λa c=>⟨λq=>(s.S a c).1<|q.resolve_left id,(s.S a c).2.1,id⟩⟩
structure Dp(GL:Nat->Prop)(f:ķ)(args:Array Ï)(l:e7)(V:Nat->Prop)(kI:Ï->ß->Prop):Prop where
 N:∀b,V b->l.M b
 S:Kr V V Ä.globals.size l.w
 I:∀g,GL g->V g
 r:fM (pz V Ä.globals.size) args args
 C:∀T,Calls Ä f args (World.tp (kN V l.w) T 0) fun|.returned v,u'=>kI v u'/\jW u'|_,_=>False
def ajq(m:mZ Ä)(n:oD Ä GL X)(hF:sL Ä X)(e:X 67){D:SD}(h:∀i s d W l,i<D.q->mL (D.r Ä) (D.b i) s->D.RD s d W l.w->(∀b,W b->l.M b)->gp l->¬l.q->(∀b,D.d b->l.M b)->D.RC l.w->∃V,Dp GL 67 #[d,À<|D.i i] l V λv _=>v=à (D.j i)):Di D:=by
 intro i s d W l o p r t f g x y z B;let⟨V,a⟩:=h i s d W l o p r t f g x y;let⟨G,c,C,E⟩:=hF 67 e;have k:(λj=>V j/\¬(lJ l).O j)=V:=by funext j;exact propext ⟨λq=>q.1,λq=>⟨q,id⟩⟩
 refine(Dm m n hF (λv u T D h=>h) e C E (Dn f) g (λb q=>Ç<|a.N b q) (by rw[k];exact a.S) a.I a.r (by rw[k];exact a.C) Ì z B).fI ?_;rintro H I ⟨Y,J,v,K,_,_,j,u,T,_,_,F⟩;subst u;cases j;exact⟨F,T⟩
theorem ajr(P:mZ Ä)(Q:oD Ä GL X)(hF:sL Ä X)(B:X 66){D:SD}(Rg:D.γ->Ï->ß->Prop)(hRg:∀s a u T n,Rg s a u->Rg s a (World.tp u T n)) (h:∀k s a W l,k<D.m->mL (D.r Ä) k s->D.RD s a W l.w->(∀b,W b->l.M b)->gp l->¬l.q->(∀b,D.d b->l.M b)->D.RC l.w->∃V,Dp GL 66 #[a,À<|D.o<|k+1] l V (λv u=>∃p n c d,v=ñ #[Æ p n c,à<|D.e<|k+1]/\D.h k s d/\Rg d (Æ p n c) u)/\ ∀Y S u w d a C,qB Y S u w->fg Y a C->Rg d a u->(∀i j,Y i j->V j\/l.w.heap.size<=j)->∃e,D.RD d C e w/\∀b,e b->∃i,Y i b):Dh D:=by
 intro k s a W l hk hr qc hW E F hRB hRC cl ll;let⟨V,f,tr⟩:=h k s a W l hk hr qc hW E F hRB hRC;let⟨fn,c,hf,g⟩:=hF 66 B;have G:(λj=>V j/\¬(lJ l).O j)=V:=by funext j;exact propext ⟨λq=>q.1,λq=>⟨q,id⟩⟩
 refine(Dm P Q hF (λv u T D h=> ?_) B hf g (Dn E) F (λb q=>Ç<|f.N b q) (by rw[G];exact f.S) f.I f.r (by rw[G];exact f.C) Ì cl ll).fI ?_
 .grind
 .rintro l' g' ⟨Y,u',v,v',_,q2,q3,⟨p,n,c,d,rfl,H,h3⟩,I,o,_,J⟩;cases q3 with
  |@mX _ cs'' hs lX=>
   let⟨ls⟩:=cs'';match ls,hs with
   |[x,y],_=>
    have r:=lX 0 fh fh;have K:=lX 1 fh fh;simp at r K;cases K;let⟨e,L,N⟩:=tr Y _ u' l'.w d _ x q2 r h3 λi j Rf=>(o i j Rf).2.imp id λz=>z.resolve_left id;cases r with
    |nF=>exact⟨J,Á,n,c,I,d,e,H,L,λb g=>by let⟨i,t⟩:=N b g;exact(o i b t).1⟩
    |kx=>exact⟨J,_,n,c,I,d,e,H,L,λb g=>by let⟨i,t⟩:=N b g;exact(o i b t).1⟩
end
end Go.Proofs.Y.fw
namespace Go.Proofs.Y.Lift
open Go
def Dq(a:Nat->Bool):Ĥ->Bool
 |Ũ (Đ cs)=>cs.toList.all xA
 |Ũ (ñ cs)=>cs.toList.all xA
 |x=>vH a x
def YP(a:Nat->Bool)(x:Ĥ):Dq a x=vH a x:=by
 cases x with
 |const v=>cases v<;>simp[Dq,vH,MQ,ĝ]
 |_=>rfl
def Ks(P:ė)(a:Nat->Bool)(b c:ķ->Bool)(o:å):Bool:=(Cd P b o.op&&o.op.operands.toList.all (Dq a))||(M5 P c o.op&&o.op.operands.toList.all (Dq a))
def Kt(a:Nat->Bool)(b c:ķ->Bool)(o:å):Ks P a b c o=Cf P a b c o:=by have:(Dq a)=vH a:=funext<|YP a;simp[Ks,Cf,MY,this,ĝ]
def qf(P:ė)(a:Nat->Bool)(b d:ķ->Bool):Ę->Bool
 |Ρ|ť|.label _|Ŧ _|.goto _=>Ò
 |.seq x y=>qf P a b d x&&qf P a b d y
 |Ť c x y=>Dq a c&&qf P a b d x&&qf P a b d y
 |İ _ c|.loop c|.scope c=>qf P a b d c
 |ä _ c _=>c.toList.all<|Ks P a b d
 |.refuse _=>Ò
 |_=>Ì
def yA(a:Nat->Bool)(b d:ķ->Bool):∀c:Ę,qf P a b d c=nh P a b d c
 |Ρ|ť|.label _|Ŧ _|.goto _|.refuse _|.rangeFunc _ _ _ _=>rfl
 |.seq x y=>by simp only[qf,nh,yA a b d x,yA a b d y]
 |Ť c x y=>by simp only[qf,nh,YP,yA a b d x,yA a b d y]
 |İ _ c|.loop c|.scope c=>by simp only[qf,nh,yA a b d c]
 |ä _ x _=>by have:Ks P a b d=Cf P a b d:=funext<|Kt a b d;simp only[qf,nh,this,ĝ]
end Go.Proofs.Y.Lift
namespace Go.Proofs.Y.fw
open Go Go.Conc Go.Proofs.Y.Lift Go.RowKit Go.Conc.Lib Go.ConcR.Gen
open Go.Proofs Go.Proofs.YtgpphkdoanciiaaGreatDoor
def YQ:List Nat:=[35,38,44,54,55,56,60,66,67,78,79,103,113,114,115,116,117,118,119,120,121,122,123,124,125,126,153,154,155,156,157,158,159,160,161,162,168,169,170,171,172,173,174,175,176,177,178,186,187,188,189,190,191,192,193,194,196,197,198,199,200,201,202,203,204,205,206,207,208,209,210,211]
def wH(g:Nat):Bool:=[1,2,3,4].contains g
def wI(f:Nat):Bool:=YQ.contains f
def yB(f:Nat):Bool:=[129,130].contains f
def Bh(P:ė)(f:Nat):Bool:=match P.funcs[f]? with
 |some a=>match a.body with
  |some c=>qf P wH wI yB c
  |none=>Ì
 |none=>Ì
def ajs:YQ.all (Bh Ä)=Ò:=by rfl
def YR(h:wI i=Ò):Bh Ä i=Ò:=(Ň.1 ajs) i<|by simpa[wI]using h
def ajt(h:Bh P i=Ò):∃a c,P.funcs[i]?=Â a/\a.body=Â c:=by
 unfold Bh at h;split at h
 .rename_i a b;split at h
  .rename_i c d;exact⟨a,c,b,d⟩
  .cases h
 .cases h
def aju(h:Bh P i=Ò)(a:P.funcs[i]?=Â s)(b:s.body=Â wX):qf P wH wI yB wX=Ò:=by unfold Bh at h;rw[a]at h;simp only[b]at h;exact h
def YS:sL Ä (λf=>wI f=Ò):=λ_ h=>ajt<|YR h
def ajv[zu P](h:∀f,wI f=Ò->Bh P f=Ò)(a:E4 P yB):oD P (λg=>wH g=Ò) (λf=>wI f=Ò):=λf g e c b d=>by have:=aju (h f g) b d;rw[yA]at this;exact uH a this
instance asg:zu Ä:=⟨λe n h=>by
 have h1:Ä.cellsOf 304=32:=fl
 have h2:Ä.cellsOf 305=64:=fl
 obtain⟨rfl|rfl,h3⟩:=h
 .rw[h1];omega
 .rw[h2];omega⟩
def ajw(a:E4 Ä yB):oD Ä (λg=>wH g=Ò) (λf=>wI f=Ò):=ajv (λ_ h=>YR h) a
def Dr:E4 Ä yB:=λf h=>by
 have:f=129\/f=130:=by simpa[yB]using h
 rcases this with rfl|rfl
 .exact⟨_,Extern.AbiNoEscape.same,Tryz.func129,fP,fP,fP,fP,λ_ v a h=>ad8 v a h,ad9⟩
 .exact⟨_,Extern.BytealgMakeNoZero.makeNoZero #[3] #[107],Tryz.func130,fP,fP,fP,fP,λ_ v a h=>aea #[3] 107 v a h,aeb #[3] 107⟩
def YT:oD Ä (λg=>wH g=Ò) (λf=>wI f=Ò):=ajw Dr
end Go.Proofs.Y.fw
namespace Go.Proofs.Y.Lift
open Go Go.Conc
section
variable{Y:fj}{b:ķ->Prop}
def ajx{e:Array Ï->Sem Ï}{y:Ĥ}{m:Array ŭ}(d:o.op=Ě {callee:=ĕ<|ĸ F,args:=#[qQ,y],argTypes:=m})(q:P.funcs[F]?=Â s)(r:(s.name== "runtime.NumGoroutine")=Ì)(t:s.body.isNone=Ò)(B:Extern.findNext s=Á)(C:Extern.find s=Â e) (D:∀(Y:fj) (v i z j:Ï),fg Y v i->fg Y z j->fC P fg Y (e #[v,z]) (e #[i,j])) (E:∀v z,fy P<|e #[v,z]) (G:∀y∈o.op.operands,lU X y):mh P X b o:=by
 have c:∀a:ŏ,ĉ a.eval o=Ś F #[a.eval qQ,a.eval y]:=by intro a;unfold ĉ;rw[d];simp only[ſ,ĥ,ě,invoke,pure_bind,Array.empty_append,Array.append_empty,List.map_toArray,List.map_cons,List.map_nil]
 have k:∀(v z:Ï) (u:ß),(Ś F #[v,z]).run P u=(mark (.extern F)>>=λ_=>e #[v,z]>>=λy=>pure (Next.value y):Sem Next).run P u:=by intro v z u;unfold Ś;simp_all
 refine Vq (λY a w _ _ _ h=> ?_) (λa=> ?_) (λa u n H g=> ?_) G
 .rw[c,c];have I:=h qQ (by rw[d];simp[ŉ,Call.operands]);have J:=h y (by rw[d];simp[ŉ,Call.operands]);unfold Ś;refine .gh (fB qo ?_);rintro M p N w ⟨K,L⟩;rw[K,L];simp only[q,r,t,B,C,Ķ,if_false,if_true];apply fB (V:=jg) (.BY (Ç ⟨F,U⟩) (.fx U));intro O _ _ l _;exact mg<|D _ _ _ _ _ ((I.fI w).fI l)<|(J.fI w).fI l
 .rw[c];exact H9 (k _ _)<|gf (EP _) λ_=>lq<|E _ _
 .rw[c,k,Sem.run_bind]at g;simp only[mark,Sem.run,Result.andThen_ok]at g;have:Sem.run P (e #[a.eval qQ,a.eval y]>>=λy=>pure (Next.value y):Sem Next) u=.ok n H:=g;rw[Sem.run_bind]at this;cases h:(e #[a.eval qQ,a.eval y]).run P u with
  |ok v w=>rw[h]at this;cases this;exact⟨v,U⟩
  |halt z w=>rw[h]at this;cases this
def YU:∀(n:Nat) {Y:fj} {a b:â} (c:ByteArray),gT Y a b->fC P jg Y (ò a n c) (ò b n c)
 |0,_,_,_,_,_=> .fx U
 |n+1,Y,a,b,c,h=>by
  unfold ò;refine fB (HY h) ?_;intro f v g d e;cases e<;>first|exact .fK|skip
  rename_i k z;cases k<;>first|exact .fK|skip
  exact YU n _<|(h.r d).C 1
theorem YV:∀(n:Nat) (a:â) (b:ByteArray),fy P<|ò a n b
 |0,_,_=>gA _
 |n+1,a,b=>by
  unfold ò;refine gf (ER _ _) λv=> ?_;split
  .exact YV n _ _
  .exact iX _
def ajy(h:fg Y v x):fC P jg Y (ú v) (ú x):=by
 cases h<;>first|exact .fK|exact .fx U|skip
 exact YU _ _<|by assumption
theorem ajz(v:Ï):fy P (ú v):=by unfold ú;grind [gA,YV,iX]
def ajA(h:fg Y v x):fC P jg Y (ü v) (ü x):=by
 cases h<;>first|exact .fK|skip
 rename_i k z;cases k<;>first|exact .fK|exact .fx U
theorem ajB(v:Ï):fy P (ü v):=by unfold ü;grind [gA,iX]
def ajC(v a z b:Ï)(h:fg Y v a)(k:fg Y z b):fC P fg Y (ó #[v,z]) (ó #[a,b]):=by
 apply fB (ajy h);rintro j s d e f;obtain rfl:s=d:=f;apply fB (ajA<|k.fI e);rintro l c g m i;obtain rfl:c=g:=i;split
 .exact .fx (.iC _ _)
 .exact .fx (.iC _ _)
theorem ajD(v z:Ï):fy P (ó #[v,z]):=by refine gf (ajz v) λs=>gf (ajB z) λc=> ?_;grind [gA]
end
end Go.Proofs.Y.Lift
namespace Go.Proofs.Y.fw
open Go Go.Conc Go.Proofs.Y.Lift
open Go.Proofs Go.Proofs.YtgpphkdoanciiaaGreatDoor
def Rh:List Nat:=[16,18,21,23,24,25,28,29,30,31,35,44,60,38,54,55,56,78,79,36,45,61,94,95,96,97,98,99,100,101,102,103,104,145,146,147,148,149]
def Ds(f:Nat):Bool:=Rh.contains f||f==167
def Ku(_:Nat):Bool:=Ì
def Kv(P:ė)(f:Nat):Bool:=match P.funcs[f]? with
 |some a=>match a.body with
  |some c=>qf P Ku Ds yB c
  |none=>Ì
 |none=>Ì
def ajE:Rh.all (Kv Ä)=Ò:=by rfl
def YW(h:Rh.contains i=Ò):Kv Ä i=Ò:=(Ň.1 ajE) i<|by simpa using h
theorem YX(h:Kv P i=Ò):∃a c,P.funcs[i]?=Â a/\a.body=Â c/\qf P Ku Ds yB c=Ò:=by unfold Kv at h;grind
def yC:sL Ä (λf=>Ds f=Ò):=λf h=>by
 rcases ī.1 h with q|q
 .let⟨a,c,b,d,_⟩:=YX<|YW q;exact⟨a,c,b,d⟩
 .rw[beq_iff_eq]at q;subst q;exact⟨_,_,Ŭ,U⟩
def ajF(h:Ζ.body=Â wX):kz Ä (λg=>Ku g=Ò) (λf=>Ds f=Ò) wX:=by
 unfold Ζ at h;cases h;refine .qy (uH Dr<|by rw[<-yA];rfl) (.qy (.sK _ _ λo f=> ?_) .uC);simp only[List.mem_toArray,List.mem_cons,List.not_mem_nil,or_false]at f;rcases f with rfl|rfl|rfl|rfl
 .exact Iz Dr<|by rw[<-Kt];rfl
 .exact Iz Dr<|by rw[<-Kt];rfl
 .exact ajx U Tryz.func185 fP fP fP fP (λ_ v g z o=>ajC v g z o) ajD λy g=>It (by simp[ŉ,Call.operands]at g;rcases g with rfl|rfl|rfl<;>rfl)
 .exact Iz Dr<|by rw[<-Kt];rfl
def Kw:oD Ä (λg=>Ku g=Ò) (λf=>Ds f=Ò):=λf h i c g a=>by
 rcases ī.1 h with q|q
 .let⟨j,k,b,d,e⟩:=YX<|YW q;rw[g]at b;cases b;rw[a]at d;cases d;rw[yA]at e;exact uH Dr e
 .rw[beq_iff_eq]at q;subst q;rw[Ŭ]at g;cases g;exact ajF a
end Go.Proofs.Y.fw
