import Derived.Test.YtgpphkdoanciiaaGreatDoorWAB
import Derived.Conc.AppendWalk
import Derived.Conc.TokenWalk
set_option linter.all false
set_option maxRecDepth 1000000
set_option maxHeartbeats 8000000
open Go.Value renaming pointer->À,slice->Æ,int->Ê,oneCell'->Ø,string->à,chan->è,tuple->ñ,func->Ĉ,agg->Đ,bool->ŝ,cells->Ŵ
open Option renaming none->Á,some->Â,isSome_iff_exists->Ô,map_eq_some_iff->ġ,isSome_none->ı,getD_some->Ń
open Or renaming inl->Ã,inr->Ç
open Go.Proofs.Tryz renaming prog->Ä,t155->Ą,f46->Ĝ,t9->Ġ,func47->Ħ,underlying101->Ĵ,type155->ļ,underlying85->Ľ,underlying25->ľ,f52->Ŗ,func167->Ŭ,func63->Ů,func48->ů,func49->Ű,func50->ű,func51->Ų,func46->ų,func52->ŵ,t101->Δ,f167->Ζ,f49->Ι,f63->Κ,f47->Μ
open Go renaming undef->Å,Value->Ï,Goroutine->Ý,World->ß,events_store->á,Addr->â,Oper->å,getD_set_ne->ç,Frame->é,execOp->ĉ,Program->ė,Code->Ę,Operand->Ĥ,deafBehind->į,FuncId->ķ,Act->ŏ,maxLen->œ,size_madeCells->ř,callFunc->Ś,yielded->ţ,TypeId->ŭ,runNT->Ŷ,Item->ŷ,Obj->Ÿ,Trace->ż,TypeInfo->Ž,Event->ž,resolve->ſ,Loc->Ν
open Nat renaming lt_of_lt_of_le->È,le_trans->Õ,le_refl->Ú,add_sub_cancel->ø,zero_le->ă,zero_add->č,mod_lt->ĵ,lt_succ_of_lt->Ĺ,le_of_lt->Ł,reduceAdd->ś,sub_zero->ũ,sub_self->Ū
open Go.Obj renaming cells->É,chan->ŕ
open Go.Conc.Goes renaming stop->Ë
open Bool renaming false->Ì,true->Ò,or_eq_true_iff->ī,false_eq_true->Ķ
open Go.Ground renaming phase->Í,data->Ü,textOnly->Þ,gcOnly->õ,chain->Ţ
open Go.IntKind renaming i64->Î,u64->ê,u32->Ď,wrap_i64->Γ
open Go.Departure renaming lateStores->Ð
open Go.Item renaming inRegion->Ñ,inBlock->ô,code->ö,inLoop->ą
open Option.some renaming inj->Ó
open Go.World renaming cell?->Ö,frozen?->î,setCell->þ,alloc->ň
open Go.Operand renaming tmp->Ù,func->ĸ,const->Ũ
open Go.Region renaming ready->Û,Mode->ý,wanted->Ė
open List renaming range->ã,range_succ->ÿ,mem_filter->Ā,filter_append->ā,flatMap_cons->Ć,mem_range->Ē,setIfInBounds_toArray->ē,getElem?_eq_some_iff->Ĕ,length_filter_le->ģ,mem_of_getElem?->ħ,getElem?_of_mem->Ĩ,set_cons_succ->Ĳ,set_cons_zero->ĳ,size_toArray->Ļ,length_cons->ń,nodup_range->ņ,all_eq_true->Ň,length_nil->ŋ
open Go.Code renaming region->ä,block->İ,cond->Ť,skip->ť,exit->Ŧ,ret->Ρ
open Array renaming getElem?_eq_some_iff->æ,getElem?_eq_getElem->ì,getElem?_modify->í,getD_eq_getD_getElem?->ď,all_toList->ĝ
open Go.Region.linearise renaming go->ë
open Go.MemAct renaming ofEvent->ï
open Go.Op renaming fieldAddr->ð,load->ć,move->ę,call->Ě,nilCheck->ĩ,operands->ŉ,extract->Ő,indexAddr->ő,makeFunc->Ş,store->š,assign->ŧ,binOp->Λ
open Go.Extern.Bytes renaming loadBytes->ò,bytesOf->ú,asByte->ü
open Go.Extern.BytealgIndexByte renaming indexByte->ó
open Go.Fn renaming func->ù
open Go.Loc renaming cell->û
open Go.Frame renaming enter->Ă,finish_at->Ģ
open Go.Instr renaming build->Ċ,makeSlice->Ŏ
open Go.GoStatus renaming running->ċ,finished->ş
open Go.Conc renaming mem_ofEvents->Č,mem_listed->đ,seen_none->Ī,crowd->Ĭ,stepG_region->ĺ,events_call_body->ł,deafBehind_still->Ņ,listed->ŗ,handedOver_app->Ř,stepG_seq->Ŝ,stepG_comm->Ż
open Go.Callee renaming value->ĕ,builtin->Ŕ
open Go.Deferred renaming ofValue->ě
open Go.CallKind renaming normal->Ğ,early->Ź
open Go.Addr renaming add_lit->ğ
open Go.Act renaming eval->ĥ,put->Ο
open Eq renaming trans->Ŀ
variable{i n j b k m J j9 j7 j6:Nat}{w u W jX:ß}{v x z jQ:Ï}{g:Ý}{a p:â}{h c:Int}{e t T:ŭ}{d q:Array Ï}{P:ė}{y:ŏ}{B:ByteArray}{X:Nat->Prop}{O:Option â}{l:List Ï}{yQ:Bool}{K H:ŏ->ß->Prop}{o:å}{D:Nat->Nat}{E:Array Ý}{L:List ŷ}{jJ:List Nat}{qX:List é}{qQ:Ĥ}{qJ:ż}{zX:Ν->Prop}{zQ:List Int}{zJ:Ž}{xX:Ĥ->Ï}{xQ:Go.Tape}{xJ:Nat×Nat}{wX:Ę}{wQ:Go.MemOp}{wJ:Array Bool}{vX:List ByteArray}{vQ:Ï->ß->Prop}{vJ:Go.Exit->ŏ->ß->Prop}{yX:ý}{Q:Array å}{f:é}{V:Array ž}{F:ķ}{s:Go.Func}
namespace Go.Proofs.Y.fA
open Go Go.Conc Go.Proofs.Y.Lift Go.RowKit Go.Conc.Lib Go.ConcR.Gen
open Go.Proofs Go.Proofs.YtgpphkdoanciiaaGreatDoor
def F0:å:=⟨Â 13,ð 155 (Ù 5) 3,0, "work.go:57",#[],Á⟩
def C0:å:=⟨Â 14,ć 86<|Ù 13,86, "work.go:57",#[⟨0,Ü⟩],Á⟩
def F1:å:=⟨Â 15,ę<|Ù 1,25, "work.go:57",#[{on:=18,ground:=õ Ð}],Á⟩
def F2:å:=⟨Â 16,ð 155 (Ù 5) 1,0, "work.go:57",#[{on:=18,ground:=õ Ð}],Á⟩
def C3:å:=⟨Â 17,ć 3<|Ù 16,3, "work.go:57",#[⟨3,Ü⟩,{on:=18,ground:=õ Ð}],Á⟩
def F3:å:=⟨Â 18,ð 155 (Ù 5) 2,0, "work.go:57",#[],Á⟩
def C4:å:=⟨Â 19,ć 86<|Ù 18,86, "work.go:57",#[⟨5,Ü⟩],Á⟩
def C5:å:=⟨Â 20,ĩ<|Ù 19,0, "work.go:57",#[⟨6,Ü⟩],Á⟩
def C6:å:=⟨Â 21,ð 105 (Ù 20) 1,0, "work.go:57",#[⟨7,Ü⟩],Á⟩
def C7:å:=⟨Â 22,ć 65<|Ù 21,65, "work.go:57",#[⟨8,Ü⟩],Á⟩
def F4:å:=⟨Â 23,ð 155 (Ù 5) 0,0, "work.go:57",#[],Á⟩
def C8:å:=⟨Â 24,ć 148<|Ù 23,148, "work.go:57",#[⟨10,Ü⟩],Á⟩
def AH:å:=⟨Â 25,Ě {callee:=ĕ<|ĸ 66,args:=#[Ù 22,Ù 24],argTypes:=#[65,148]},163, "work.go:57",#[⟨9,Ü⟩,⟨11,Ü⟩],Á⟩
def uZ:å:=⟨Â 12,ę<|Ù 25,163, "work.go:57",#[⟨12,Ü⟩],Á⟩
def AJ:å:=⟨Â 26,Ő (Ù 12) 0,65, "work.go:57",#[⟨13,Ü⟩],Á⟩
def AK:å:=⟨Â 27,Ő (Ù 12) 1,9, "work.go:57",#[⟨13,Ü⟩,{on:=18,ground:=õ Ð}],Á⟩
def C9:å:=⟨Â 28,ĩ<|Ù 14,0, "work.go:57",#[⟨1,Ü⟩,⟨0,Í⟩,⟨1,Í⟩,{on:=2,ground:=Þ Ð},{on:=3,ground:=Þ Ð},{on:=4,ground:=Þ Ð},⟨5,Í⟩,⟨6,Í⟩,⟨7,Í⟩,⟨8,Í⟩,⟨9,Í⟩,⟨10,Í⟩,⟨11,Í⟩,⟨12,Í⟩,⟨13,Í⟩,⟨14,Í⟩,{on:=15,ground:=Þ Ð}],Á⟩
def Da:å:=⟨Â 29,ð 105 (Ù 28) 1,0, "work.go:57",#[⟨16,Ü⟩,⟨0,Í⟩,⟨1,Í⟩,{on:=2,ground:=Þ Ð},{on:=3,ground:=Þ Ð},{on:=4,ground:=Þ Ð},⟨5,Í⟩,⟨6,Í⟩,⟨7,Í⟩,⟨8,Í⟩,⟨9,Í⟩,⟨10,Í⟩,⟨11,Í⟩,⟨12,Í⟩,⟨13,Í⟩,⟨14,Í⟩,{on:=15,ground:=Þ Ð}],Á⟩
def AL:å:=⟨Á,š 65 (Ù 29)<|Ù 26,0, "work.go:57",#[⟨17,Ü⟩,⟨14,Ü⟩,⟨12,Ţ⟩,⟨0,Í⟩,⟨1,Í⟩,{on:=2,ground:=Þ Ð},{on:=3,ground:=Þ Ð},{on:=4,ground:=Þ Ð},⟨5,Í⟩,⟨6,Í⟩,⟨7,Í⟩,⟨8,Í⟩,⟨9,Í⟩,⟨10,Í⟩,⟨11,Í⟩,⟨12,Í⟩,⟨13,Í⟩,⟨14,Í⟩,{on:=15,ground:=Þ Ð}],Á⟩
def AN:å:=⟨Â 30,ő 25 (Ù 15)<|Ù 17,0, "work.go:57",#[⟨2,Ü⟩,⟨4,Ü⟩,⟨0,Í⟩,⟨1,Í⟩,⟨2,Í⟩,⟨3,Í⟩,⟨4,Í⟩,⟨5,Í⟩,⟨6,Í⟩,⟨7,Í⟩,⟨8,Í⟩,⟨9,Í⟩,⟨10,Í⟩,⟨11,Í⟩,⟨12,Í⟩,⟨13,Í⟩,⟨14,Í⟩,⟨15,Í⟩,⟨16,Í⟩,⟨17,Í⟩,⟨18,Í⟩],Á⟩
def AO:å:=⟨Á,š 9 (Ù 30)<|Ù 27,0, "work.go:57",#[⟨19,Ü⟩,⟨15,Ü⟩,⟨18,Ţ⟩,⟨0,Í⟩,⟨1,Í⟩,⟨2,Í⟩,⟨3,Í⟩,⟨4,Í⟩,⟨5,Í⟩,⟨6,Í⟩,⟨7,Í⟩,⟨8,Í⟩,⟨9,Í⟩,⟨10,Í⟩,⟨11,Í⟩,⟨12,Í⟩,⟨13,Í⟩,⟨14,Í⟩,⟨15,Í⟩,⟨16,Í⟩,⟨17,Í⟩,⟨18,Í⟩],Á⟩
def yu:Array å:=#[F0,C0,F1,F2,C3,F3,C4,C5,C6,C7,F4,C8,AH,uZ,AJ,AK,C9,Da,AL,AN,AO]
def mL(tb a b c N d:Nat)(e f:Ï)(x:(Option Addr×Nat×Nat)×ByteArray):Nat->Ï
 |0=>À<|Â ⟨tb,3,Á⟩
 |1=>À<|Â ⟨b,0,Á⟩
 |2=>Æ (Â ⟨c,0,Á⟩) N N
 |3=>À<|Â ⟨tb,1,Á⟩
 |4=>Ê Î d
 |5=>À<|Â ⟨tb,2,Á⟩
 |6=>À<|Â ⟨a,0,Á⟩
 |7=>À<|Â ⟨a,0,Á⟩
 |8=>À<|Â ⟨a,2,Á⟩
 |9=>f
 |10=>À<|Â ⟨tb,0,Á⟩
 |11=>e
 |12=>ñ #[Æ x.1.1 x.1.2.1 x.1.2.2,à x.2]
 |13=>ñ #[Æ x.1.1 x.1.2.1 x.1.2.2,à x.2]
 |14=>Æ x.1.1 x.1.2.1 x.1.2.2
 |15=>à x.2
 |16=>À<|Â ⟨b,0,Á⟩
 |17=>À<|Â ⟨b,2,Á⟩
 |19=>À<|Â ⟨c,d,Á⟩
 |_=>Å
structure Db(gY:fe)(ga gb an pl:Nat)(rZ:Ï)(Q:Ï->ByteArray->fe->Prop)(listed:Array Bool)(x:(Option Addr×Nat×Nat)×ByteArray)(l:fe):Prop where
 r:iC (λa=>a=⟨gb,2,Á⟩\/a=⟨an,pl,Á⟩) gY l
 u5:listed.getD 12 Ì=Ò->∃y,Q (Æ x.1.1 x.1.2.1 x.1.2.2) x.2 y/\(∀b,y.M b->l.M b/\l.w.heap[b]?=y.w.heap[b]?)
 I:listed.getD 18 Ì=Ò->l.w.cell? ⟨gb,2,Á⟩=Â (Æ x.1.1 x.1.2.1 x.1.2.2)
 N:listed.getD 20 Ì=Ò->l.w.cell? ⟨an,pl,Á⟩=Â (à x.2)
def Db.C{d l:fe}{Q:Ï->ByteArray->fe->Prop}{listed:Array Bool}{x:(Option Addr×Nat×Nat)×ByteArray}(h:Db d n j b k v Q listed x l)(o:i≠12)(p:i≠18)(s:i≠20)(e:d.r ⟨j,2,Á⟩/\d.r ⟨b,k,Á⟩)(m:ß)(r:fI l l.w m):Db d n j b k v Q (listed.setIfInBounds i Ò) x {l with w:=m}:=by
 have t:∀a,(a=⟨j,2,Á⟩\/a=⟨b,k,Á⟩)->d.r a:=λa u=>by rcases u with rfl|rfl;exact e.1;exact e.2
 refine⟨h.r.N t r,λq=> ?_,λq=> ?_,λq=> ?_⟩
 .rw[ç Ì o]at q;let⟨y,z,f⟩:=h.u5 q;exact⟨y,z,λc g=>⟨(f c g).1,(r.I c (f c g).1).trans (f c g).2⟩⟩
 .rw[ç Ì p]at q;exact(r.N _<|by rw[h.r.C];exact Ã e.1).trans<|h.I q
 .rw[ç Ì s]at q;exact(r.N _<|by rw[h.r.C];exact Ã e.2).trans<|h.N q
section
variable{J:Jd}{gY:fe}{ga gb an pl:Nat}{rZ:Ï}{Q:Ï->ByteArray->fe->Prop}
def ahv(S:gw gY)(hq:¬gY.q)(ht:d.size=37)(AP:d[1]?=Â (Æ (Â ⟨an,0,Á⟩) i i))(Qm:d[5]?=Â (À<|Â ⟨n,0,Á⟩))(hO:gY.O n) (X:gY.w.cell? ⟨n,0,Á⟩=Â v) (Y:gY.w.cell? ⟨n,1,Á⟩=Â (Ê Î pl)) (c2:gY.w.cell? ⟨n,2,Á⟩=Â (À<|Â ⟨ga,0,Á⟩)) (c3:gY.w.cell? ⟨n,3,Á⟩=Â (À<|Â ⟨gb,0,Á⟩)) (tK:gY.N ⟨ga,2,Á⟩) (po:gY.w.cell? ⟨ga,2,Á⟩=Â rZ) (F:gY.r ⟨gb,2,Á⟩) (H:gY.r ⟨an,pl,Á⟩) (e1:(gY.w.cell? ⟨gb,2,Á⟩).isSome=Ò) (e2:(gY.w.cell? ⟨an,pl,Á⟩).isSome=Ò) (z1:gY.w.frozen? ⟨gb,2,Á⟩=Ì) (z2:gY.w.frozen? ⟨an,pl,Á⟩=Ì) (sW:pl<i) (hN:i<1000000) (lb:(⟨gb,2,Á⟩:â)≠⟨an,pl,Á⟩) (s9:∀l,iC (λa=>a=⟨gb,2,Á⟩\/a=⟨an,pl,Á⟩) gY l->∀I lB,fj Ä Ì (λl' g'=>l'.d=l.d/\∃p g c str,g'=G (I.finish<|ñ #[Æ p g c,à str]) lB/\Q (Æ p g c) str l') (lU l)<|G (Ă Ä 66 #[rZ,v] Ğ)<|I::lB) (md:ý) (listed:Array Bool) (a:ŏ) (l:fe) (k:Nat) (rest:List Nat) (hI:II yu d (mL n ga gb an i pl v rZ) (Db gY ga gb an pl rZ Q) listed a l) (D:k∈Û md yu listed): fj Ä Ì (λl' g'=>∃u,g'=G ((base 49).at u<|Ñ yu rest::L) qX/\II yu d (mL n ga gb an i pl v rZ) (Db gY ga gb an pl rZ Q) (listed.setIfInBounds k Ò) u l') l (G ((base 49).at a<|Ñ yu (k::rest)::L) qX):=by
 let⟨x,s,B⟩:=hI;have K:tJ yu d.size=Ò:=by rw[ht];decide
 have V:=Qk D;have gN:=CY D;have M:=B.r.fv;have N:¬l.q:=by rwa[B.r.q]
 have W:∀y:â,(y=⟨gb,2,Á⟩\/y=⟨an,pl,Á⟩)->gY.r y:=λy ha=>by rcases ha with rfl|rfl;exact F;exact H
 have nh:a.tmps[1]?=Â (Æ (Â ⟨an,0,Á⟩) i i):=(s.C A).trans AP;have tL:a.tmps[5]?=Â (À<|Â ⟨n,0,Á⟩):=(s.C A).trans Qm;have I:∀j m,gY.w.cell? ⟨n,j,Á⟩=Â m->gW l ⟨n,j,Á⟩/\l.w.cell? ⟨n,j,Á⟩=Â m:=λj m h=>⟨Ã<|Ã<|B.r.O n hO,by rwa[gL<|B.r.r n<|Ã hO]⟩;have Qo:¬((⟨ga,2,Á⟩:â)=⟨gb,2,Á⟩\/(⟨ga,2,Á⟩:â)=⟨an,pl,Á⟩):=λq=>by
  rcases q with q|q
  .exact S.Y _ F<|q▸tK
  .exact S.Y _ H<|q▸tK
 have F5:gW l ⟨ga,2,Á⟩/\l.w.cell? ⟨ga,2,Á⟩=Â rZ:=⟨Ç (Ç<|by rwa[B.r.c]),by rwa[B.r.e _ (Ç tK) Qo]⟩;have Qp:(pl:Int)<(i:Int):=Z
 have j1:yu.size=21:=A
 rw[j1]at gN;match k,gN with
 |0,_=>
  refine ij (o:=F0) K s U U D (by k_ne) M N (λt r=> ?_) (λt r e E=> ?_)<|B.C A A A ⟨F,H⟩
  .simp only[mL,F0];go_simp
  .simp[go_sem,F0,tL]at E
 |1,_=>
  have u:a.tmps[13]?=Â (À<|Â ⟨n,3,Á⟩):=s.r 0 F0 13 U (ie (o:=C0) D U U) U;refine ij (o:=C0) K s U U D (by k_ne) M N (λt r=> ?_) (λt r e E=> ?_)<|B.C A A A ⟨F,H⟩
  .have J:t.cell? ⟨n,3,Á⟩=Â (À<|Â ⟨gb,0,Á⟩):=((I 3 _ c3).1.r r).trans (I 3 _ c3).2;simp only[mL,C0];go_simp
  .have J:t.cell? ⟨n,3,Á⟩=Â (À<|Â ⟨gb,0,Á⟩):=((I 3 _ c3).1.r r).trans (I 3 _ c3).2;have b:e=⟨û ⟨n,3,Á⟩,Ì,Ì⟩:=by simp[go_sem,C0,J,u]at E;exact E
   subst b;exact(I 3 _ c3).1.C
 |2,_=>
  refine ij (o:=F1) K s U U D (by k_ne) M N (λt r=> ?_) (λt r e E=> ?_)<|B.C A A A ⟨F,H⟩
  .simp only[mL,F1];go_simp
  .simp[go_sem,F1,nh]at E
 |3,_=>
  refine ij (o:=F2) K s U U D (by k_ne) M N (λt r=> ?_) (λt r e E=> ?_)<|B.C A A A ⟨F,H⟩
  .simp only[mL,F2];go_simp
  .simp[go_sem,F2,tL]at E
 |4,_=>
  have u:a.tmps[16]?=Â (À<|Â ⟨n,1,Á⟩):=s.r 3 F2 16 U (ie (o:=C3) D U U) U;refine ij (o:=C3) K s U U D (by k_ne) M N (λt r=> ?_) (λt r e E=> ?_)<|B.C A A A ⟨F,H⟩
  .have J:t.cell? ⟨n,1,Á⟩=Â (Ê Î pl):=((I 1 _ Y).1.r r).trans (I 1 _ Y).2;simp only[mL,C3];go_simp
  .have J:t.cell? ⟨n,1,Á⟩=Â (Ê Î pl):=((I 1 _ Y).1.r r).trans (I 1 _ Y).2;have b:e=⟨û ⟨n,1,Á⟩,Ì,Ì⟩:=by simp[go_sem,C3,J,u]at E;exact E
   subst b;exact(I 1 _ Y).1.C
 |5,_=>
  refine ij (o:=F3) K s U U D (by k_ne) M N (λt r=> ?_) (λt r e E=> ?_)<|B.C A A A ⟨F,H⟩
  .simp only[mL,F3];go_simp
  .simp[go_sem,F3,tL]at E
 |6,_=>
  have u:a.tmps[18]?=Â (À<|Â ⟨n,2,Á⟩):=s.r 5 F3 18 U (ie (o:=C4) D U U) U;refine ij (o:=C4) K s U U D (by k_ne) M N (λt r=> ?_) (λt r e E=> ?_)<|B.C A A A ⟨F,H⟩
  .have J:t.cell? ⟨n,2,Á⟩=Â (À<|Â ⟨ga,0,Á⟩):=((I 2 _ c2).1.r r).trans (I 2 _ c2).2;simp only[mL,C4];go_simp
  .have J:t.cell? ⟨n,2,Á⟩=Â (À<|Â ⟨ga,0,Á⟩):=((I 2 _ c2).1.r r).trans (I 2 _ c2).2;have b:e=⟨û ⟨n,2,Á⟩,Ì,Ì⟩:=by simp[go_sem,C4,J,u]at E;exact E
   subst b;exact(I 2 _ c2).1.C
 |7,_=>
  have u:a.tmps[19]?=Â (À<|Â ⟨ga,0,Á⟩):=s.r 6 C4 19 U (ie (o:=C5) D U U) U;refine ij (o:=C5) K s U U D (by k_ne) M N (λt r=> ?_) (λt r e E=> ?_)<|B.C A A A ⟨F,H⟩
  .simp only[mL,C5];go_simp
  .simp[go_sem,C5,u]at E
 |8,_=>
  have u:a.tmps[20]?=Â (À<|Â ⟨ga,0,Á⟩):=s.r 7 C5 20 U (ie (o:=C6) D U U) U;refine ij (o:=C6) K s U U D (by k_ne) M N (λt r=> ?_) (λt r e E=> ?_)<|B.C A A A ⟨F,H⟩
  .simp only[mL,C6];go_simp
  .simp[go_sem,C6,u]at E
 |9,_=>
  have u:a.tmps[21]?=Â (À<|Â ⟨ga,2,Á⟩):=s.r 8 C6 21 U (ie (o:=C7) D U U) U;refine ij (o:=C7) K s U U D (by k_ne) M N (λt r=> ?_) (λt r e E=> ?_)<|B.C A A A ⟨F,H⟩
  .have J:t.cell? ⟨ga,2,Á⟩=Â (rZ):=(F5.1.r r).trans F5.2;simp only[mL,C7];go_simp
  .have J:t.cell? ⟨ga,2,Á⟩=Â (rZ):=(F5.1.r r).trans F5.2;have b:e=⟨û ⟨ga,2,Á⟩,Ì,Ì⟩:=by simp[go_sem,C7,J,u]at E;exact E
   subst b;exact F5.1.C
 |10,_=>
  refine ij (o:=F4) K s U U D (by k_ne) M N (λt r=> ?_) (λt r e E=> ?_)<|B.C A A A ⟨F,H⟩
  .simp only[mL,F4];go_simp
  .simp[go_sem,F4,tL]at E
 |11,_=>
  have u:a.tmps[23]?=Â (À<|Â ⟨n,0,Á⟩):=s.r 10 F4 23 U (ie (o:=C8) D U U) U;refine ij (o:=C8) K s U U D (by k_ne) M N (λt r=> ?_) (λt r e E=> ?_)<|B.C A A A ⟨F,H⟩
  .have J:t.cell? ⟨n,0,Á⟩=Â (v):=((I 0 _ X).1.r r).trans (I 0 _ X).2;simp only[mL,C8];go_simp
  .have J:t.cell? ⟨n,0,Á⟩=Â (v):=((I 0 _ X).1.r r).trans (I 0 _ X).2;have b:e=⟨û ⟨n,0,Á⟩,Ì,Ì⟩:=by simp[go_sem,C8,J,u]at E;exact E
   subst b;exact(I 0 _ X).1.C
 |12,_=>
  have F6:a.tmps[22]?=Â (rZ):=s.r 9 C7 22 U (ie (o:=AH) D U U) U;have JV:a.tmps[24]?=Â (v):=s.r 11 C8 24 U (ie (o:=AH) D U U) U;refine XU (o:=AH) K s U U D (by k_ne) M (f:=66) (args:=#[rZ,v]) (λw=>by simp only[AH];go_simp) (λw=>ł (o:=AH) U Tryz.func66 U U #[]) λt r=> ?_;have T:=B.r.N W r;refine((s9 _ T _ _).lU<|T.G S).fN ?_;rintro l' g' ⟨y,⟨hy0,p,g,c,str,rfl,hQ⟩,rfl,hA,XX,ahw,ahx⟩;refine⟨((p,g,c),str),U,⟨T.CZ W hA hy0,λ_=>⟨y,hQ,λb P=>⟨?_,U⟩⟩,λq=> ?_,λq=> ?_⟩,λj u=> ?_⟩
  .rcases P with q|q
   .exact Ã<|Ã q
   .rw[XX]at q;exact q.elim (λz=>Ã<|Ç z) Ç
  .rw[ç Ì A]at q;exact absurd (s.I (o:=AL) U q U)<|wA V
  .rw[ç Ì A]at q;exact absurd (s.I (o:=AO) U q U)<|wA V
  .match j,u with
   |12,u=>exact absurd u<|wA V
   |13,u=>exact absurd (s.I (o:=uZ) U u U)<|wA V
   |14,u=>exact absurd (s.I (o:=uZ) U (s.I (j:=13) (o:=AJ) U u U) U)<|wA V
   |15,u=>exact absurd (s.I (o:=uZ) U (s.I (j:=13) (o:=AK) U u U) U)<|wA V
   |0,_|1,_|2,_|3,_|4,_|5,_|6,_|7,_|8,_|9,_|10,_|11,_|16,_|17,_|18,_|19,_|20,_|g+21,_=>rfl
 |13,_=>
  have u:a.tmps[25]?=Â (ñ #[Æ x.1.1 x.1.2.1 x.1.2.2,à x.2]):=s.r 12 AH 25 U (ie (o:=uZ) D U U) U;refine ij (o:=uZ) K s U U D (by k_ne) M N (λt r=> ?_) (λt r e E=> ?_)<|B.C A A A ⟨F,H⟩
  .simp only[mL,uZ];go_simp
  .simp[go_sem,uZ,u]at E
 |14,_=>
  have u:a.tmps[12]?=Â (ñ #[Æ x.1.1 x.1.2.1 x.1.2.2,à x.2]):=s.r 13 uZ 12 U (ie (o:=AJ) D U U) U;refine ij (o:=AJ) K s U U D (by k_ne) M N (λt r=> ?_) (λt r e E=> ?_)<|B.C A A A ⟨F,H⟩
  .simp only[mL,AJ];go_simp
  .simp[go_sem,AJ,u]at E
 |15,_=>
  have u:a.tmps[12]?=Â (ñ #[Æ x.1.1 x.1.2.1 x.1.2.2,à x.2]):=s.r 13 uZ 12 U (ie (o:=AK) D U U) U;refine ij (o:=AK) K s U U D (by k_ne) M N (λt r=> ?_) (λt r e E=> ?_)<|B.C A A A ⟨F,H⟩
  .simp only[mL,AK];go_simp
  .simp[go_sem,AK,u]at E
 |16,_=>
  have u:a.tmps[14]?=Â (À<|Â ⟨gb,0,Á⟩):=s.r 1 C0 14 U (ie (o:=C9) D U U) U;refine ij (o:=C9) K s U U D (by k_ne) M N (λt r=> ?_) (λt r e E=> ?_)<|B.C A A A ⟨F,H⟩
  .simp only[mL,C9];go_simp
  .simp[go_sem,C9,u]at E
 |17,_=>
  have u:a.tmps[28]?=Â (À<|Â ⟨gb,0,Á⟩):=s.r 16 C9 28 U (ie (o:=Da) D U U) U;refine ij (o:=Da) K s U U D (by k_ne) M N (λt r=> ?_) (λt r e E=> ?_)<|B.C A A A ⟨F,H⟩
  .simp only[mL,Da];go_simp
  .simp[go_sem,Da,u]at E
 |18,_=>
  have h29:a.tmps[29]?=Â (À<|Â ⟨gb,2,Á⟩):=s.r 17 Da 29 U (ie (o:=AL) D U U) U;have h26:a.tmps[26]?=Â (Æ x.1.1 x.1.2.1 x.1.2.2):=s.r 14 AJ 26 U (ie (o:=AL) D U U) U;have T:(l.w.cell? ⟨gb,2,Á⟩).isSome=Ò:=B.r.g _ (Ã U) e1;have AQ:l.w.frozen? ⟨gb,2,Á⟩=Ì:=(B.r.S _<|Ã F).trans z1;have ll:pF l ⟨gb,2,Á⟩:=Ç (by rwa[B.r.I]);refine Ql (o:=AL) (y:=⟨gb,2,Á⟩) (v:=Æ x.1.1 x.1.2.1 x.1.2.2) K s U U U D (by k_ne) M N U ll T AQ (λw J hz=> ?_) (λw J hz=> ?_) λt r=> ?_
  .let⟨u,hu⟩:=Ô.1 J;simp only[AL];go_simp
  .let⟨u,hu⟩:=Ô.1 J;simp[go_sem,AL,h29,h26,á _ _ _ _ _ _ (show Ø (Æ x.1.1 x.1.2.1 x.1.2.2)=Ò from rfl),hu,hz]
  .have hA:=B.r.p7 S W (x:=⟨gb,2,Á⟩) (v:=Æ x.1.1 x.1.2.1 x.1.2.2) (Ã U) U T;refine⟨hA.N W ⟨r.r,r.I,r.N,r.Y,r.S⟩,λq=> ?_,λq=> ?_,λq=> ?_⟩
   .rw[ç Ì A]at q;let⟨y,y1,z⟩:=B.u5 q;refine⟨y,y1,λb P=>⟨(z b P).1,?_⟩⟩;have Qq:b≠(⟨gb,2,Á⟩:â).block:=λe=>(B.r.G S).N ⟨gb,2,Á⟩ (by rw[B.r.C];exact Ã F)<|e▸(z b P).1;exact(r.I b (z b P).1).trans<|(kX Qq).trans (z b P).2
   .exact(r.N _ (by rw[B.r.C];first|exact Ã F|exact Ã H)).trans<|z8 (Ô.1 T).choose_spec
   .rw[ç Ì A]at q;exact(r.N ⟨an,pl,Á⟩<|by rw[B.r.C];exact Ã H).trans<|(AG U λe=>lb e.symm).trans<|B.N q
 |19,_=>
  have Qr:a.tmps[15]?=Â (Æ (Â ⟨an,0,Á⟩) i i):=s.r 2 F1 15 U (ie (o:=AN) D U U) U;have Qs:a.tmps[17]?=Â (Ê Î pl):=s.r 4 C3 17 U (ie (o:=AN) D U U) U;refine ij (o:=AN) K s U U D (by k_ne) M N (λt r=> ?_) (λt r e E=> ?_)<|B.C A A A ⟨F,H⟩
  .simp only[mL,AN];go_simp
  .simp[go_sem,AN,sW,Qp,Qr,Qs]at E
 |20,_=>
  have E:a.tmps[30]?=Â (À<|Â ⟨an,pl,Á⟩):=s.r 19 AN 30 U (ie (o:=AO) D U U) U;have h27:a.tmps[27]?=Â (à x.2):=s.r 15 AK 27 U (ie (o:=AO) D U U) U;have T:(l.w.cell? ⟨an,pl,Á⟩).isSome=Ò:=B.r.g _ (Ç U) e2;have AQ:l.w.frozen? ⟨an,pl,Á⟩=Ì:=(B.r.S _<|Ã H).trans z2;have ll:pF l ⟨an,pl,Á⟩:=Ç (by rwa[B.r.I]);refine Ql (o:=AO) (y:=⟨an,pl,Á⟩) (v:=à x.2) K s U U U D (by k_ne) M N U ll T AQ (λw J hz=> ?_) (λw J hz=> ?_) λt r=> ?_
  .let⟨u,hu⟩:=Ô.1 J;simp only[AO];go_simp
  .let⟨u,hu⟩:=Ô.1 J;simp[go_sem,AO,E,h27,á _ _ _ _ _ _ (show Ø (à x.2)=Ò from rfl),hu,hz]
  .have hA:=B.r.p7 S W (x:=⟨an,pl,Á⟩) (v:=à x.2) (Ç U) U T;refine⟨hA.N W ⟨r.r,r.I,r.N,r.Y,r.S⟩,λq=> ?_,λq=> ?_,λq=> ?_⟩
   .rw[ç Ì A]at q;let⟨y,y1,z⟩:=B.u5 q;refine⟨y,y1,λb P=>⟨(z b P).1,?_⟩⟩;have Qq:b≠(⟨an,pl,Á⟩:â).block:=λe=>(B.r.G S).N ⟨an,pl,Á⟩ (by rw[B.r.C];exact Ã H)<|e▸(z b P).1;exact(r.I b (z b P).1).trans<|(kX Qq).trans (z b P).2
   .rw[ç Ì A]at q;exact(r.N ⟨gb,2,Á⟩<|by rw[B.r.C];exact Ã F).trans<|(AG U<|lb).trans<|B.I q
   .exact(r.N _ (by rw[B.r.C];first|exact Ã F|exact Ã H)).trans<|z8 (Ô.1 T).choose_spec
 |g+21,h=>exact absurd h Z
end
section
variable{E:â->Prop}{l c g:fe}
def iC.fh(h:iC E l c)(k:iC E c g):iC E l g:=by have f:=h.C;exact⟨λj e=>k.O j<|h.O j e,λj e=>(k.h j e).elim (h.h j) λq=>Ç<|Õ h.f q,k.Y.trans h.Y,k.I.trans h.I,k.c.trans h.c,k.K.trans h.K,k.q.trans h.q,k.d.trans h.d,k.fv,Õ h.f k.f,λj e=>(k.r j<|h.M e).trans<|h.r j e,λa b i=>(k.e a (by rwa[f]) i).trans<|h.e a b i,λa b=>(k.S a<|by rwa[f]).trans<|h.S a b,λa b q=>k.b a (by rwa[h.K])<|h.b a b q,λa b q=>k.g a b<|h.g a b q⟩
end
def gH(l:fe)(w₁:ß)(o:Ÿ):fe:={l with O:=λb=>l.O b\/b=w₁.heap.size,w:=w₁.alloc o}
theorem yv{o:Ÿ}(h:j<w.heap.size):(w.alloc o).heap[j]?=w.heap[j]?:=by unfold ň;grind
theorem ni{o:Ÿ}:(w.alloc o).heap[w.heap.size]?=Â o:=by unfold ň;simp
def JX{o:Ÿ}:(w.alloc o).heap.size=w.heap.size+1:=by unfold ň;simp
section
variable{J:Jd}{l:fe}{a:ŏ}{k:List ŷ}{cs:List é}{ob:Ÿ}{E:â->Prop}
def XY(b:∀j,l.O j->j<w.heap.size)(c:¬l.q):mh l (gH l w ob) w (w.alloc ob) #[]:= ⟨by rw[JX];omega,λj h=>h.imp id λe=>by omega,λj h=>by rw[JX];exact h.elim (λq=>Ĺ<|b j q) λe=>by omega,U,U,U,U,λj d _ _=>yv d,λx a _ _=>gL<|yv a,λx a _=>vU<|yv a,U,U,U,λe f=>by simp at f,by simp[į,gH],U,λq=>absurd q c,U⟩
def F7(c:Q[i]?=Â o)(d:Ė o (ţ Q a.tmps)=Ò)(e:f.kind≠Ź)(g:j2 l)(h:¬l.q) (j:∀w,(ĉ a.eval o).run P w=.ok (.value<|À<|Â ⟨w.heap.size,0,Á⟩) (w.alloc ob)) (m:∀w,(ĉ a.eval o).events P w #[]=#[]) (n:∀b,fI l l.w b->fj P yQ J (gH l b ob) (G (f.at (a.put o.dst<|À<|Â ⟨b.heap.size,0,Á⟩)<|Ñ Q jJ::k) cs)):fj P yQ J l (G (f.at a<|Ñ Q (i::jJ)::k) cs):=by
 refine uY c d e λb r=> ?_;rw[j b];refine⟨_,?_,n b r⟩;have:listed P f.fn a o b=#[]:=by unfold listed;rw[m b,Ī]
 rw[this];exact XY (mq g r) h
def JY(s:gw l)(d:∀a,E a->l.r a)(r:fI l l.w u):iC E l (gH l u ob):=by
 have c:=r.r;refine⟨λj h=>Ã h,λj h=>h.imp id λe=>by omega,U,U,U,U,U,U,λj h=> ?_,?_,λj f=>(yv<|È (s.fv j f) c).trans<|r.I j f,λx b _=>(gL<|yv<|È (s.I x b) c).trans<|r.N x b,λx b=>(vV<|yv<|È (s.I x b) c).trans<|r.Y x b,λx b q=> ?_,λx b q=> ?_⟩
 .show j<(u.alloc ob).heap.size;rw[JX];exact h.elim (λq=>Ĺ<|È (s.fv j<|Ã q) c) λe=>by omega
 .show l.w.heap.size<=(u.alloc ob).heap.size;rw[JX];omega
 .show((u.alloc ob).cell? x).isSome=Ò;rw[gL<|yv<|È (s.S x b).2.1 c];exact r.S x b q
 .show((u.alloc ob).cell? x).isSome=Ò;rwa[gL<|yv<|È (s.I x<|Ã<|d x b) c,r.N x<|Ã<|d x b]
def JZ{w':ß}{p:Nat}(g:∀j,l.O j->j<w.heap.size)(i:¬l.q)(b:l.O p)(k:w'.heap.size=w.heap.size)(c:∀j,j≠p->w'.heap[j]?=w.heap[j]?)(d:w'.os=w.os/\w'.output=w.output/\w'.tape=w.tape)(f:∀e∈V,wz l e):mh l {l with w:=w'} w w' V:=by refine⟨Z,λ_ h=>Ã h,λj h=>by rw[k];exact g j h,U,U,U,U,λj _ a _=>c j λe=>a<|e▸b,λx _ a _=>gL (c _ λe=>a<|e▸b),λx _ a=>vU (c _ λe=>a<|e▸b),d.1,d.2.1,d.2.2,λe h=>(f e h).1,(JQ f _).symm,U,λq=>absurd q i,U⟩
end
def iR(w:ß)(p:Nat)(v0 v1 v2 v3:Ï):ß:=(((w.setCell ⟨p,0,Á⟩ v0).setCell ⟨p,1,Á⟩ v1).setCell ⟨p,2,Á⟩ v2).setCell ⟨p,3,Á⟩ v3
section
variable{p:Nat}{v0 v1 v2 v3:Ï}
def wB:(iR w p v0 v1 v2 v3).heap.size=w.heap.size:=by unfold iR;rw[jP,jP,jP,jP]
def yw(h:j≠p):(iR w p v0 v1 v2 v3).heap[j]?=w.heap[j]?:=by unfold iR;rw[kX h,kX h,kX h,kX h]
theorem Qt(b:w.cell? ⟨p,0,Á⟩=Â v)(c:w.cell? ⟨p,1,Á⟩=Â x)(d:w.cell? ⟨p,2,Á⟩=Â z)(e:w.cell? ⟨p,3,Á⟩=Â jQ): (iR w p v0 v1 v2 v3).cell? ⟨p,0,Á⟩=Â v0/\(iR w p v0 v1 v2 v3).cell? ⟨p,1,Á⟩=Â v1/\(iR w p v0 v1 v2 v3).cell? ⟨p,2,Á⟩=Â v2/\(iR w p v0 v1 v2 v3).cell? ⟨p,3,Á⟩=Â v3:=by have f:∀(w:ß) (i j:Nat) (a:Ï),i≠j->(w.setCell ⟨p,i,Á⟩ a).cell? ⟨p,j,Á⟩=w.cell? ⟨p,j,Á⟩:=λw i j a h=>xV<|Ç h;unfold iR;grind [z8]
def Qu{E:â->Prop}{l e:fe}(s:gw l)(f:∀a,E a->l.r a)(h:iC E l e){w':ß}(r:fI e e.w u)(k:l.w.heap.size<=p)(g:w'.heap.size=u.heap.size)(i:∀j,j≠p->w'.heap[j]?=u.heap[j]?):iC E l {e with w:=w'}:=by
 have b:=h.N f r;have c:∀{j:Nat},j<l.w.heap.size->w'.heap[j]?=u.heap[j]?:=λ{j} q=>i j Z;refine⟨b.O,b.h,b.Y,b.I,b.c,b.K,b.q,b.d,λj q=> ?_,?_,λj q=>(c<|s.fv j q).trans<|b.r j q,λa q n=>(gL<|c<|s.I a q).trans<|b.e a q n,λa q=>(vV<|c<|s.I a q).trans<|b.S a q,λa q z=> ?_,λa q z=> ?_⟩
 .show j<w'.heap.size;rw[g];exact b.fv j q
 .show l.w.heap.size<=w'.heap.size;rw[g];exact b.f
 .show(w'.cell? a).isSome=Ò;rw[gL<|c (s.S a q).2.1];exact b.b a q z
 .show(w'.cell? a).isSome=Ò;rw[gL<|c<|s.I a<|Ã<|f a q];exact b.g a q z
end
def u6(t:Array Ï)(h:t.size=n):∃u:Nat->Ï,t=((ã n).map u).toArray:=by subst h;refine⟨λi=>t.getD i Å,Array.ext fp λi a _=> ?_⟩;simp_all
def Qv(t:Array Ï)(h:t.size=37):∃a b c d e f g i j k l m n o p q r s u v w x y z B C D E F G H I J K L M N:Ï,t=#[a,b,c,d,e,f,g,i,j,k,l,m,n,o,p,q,r,s,u,v,w,x,y,z,B,C,D,E,F,G,H,I,J,K,L,M,N]:=by obtain⟨_,rfl⟩:=u6 t h;exact⟨_,_,_,_,_,_,_,_,_,_,_,_,_,_,_,_,_,_,_,_,_,_,_,_,_,_,_,_,_,_,_,_,_,_,_,_,_,U⟩
end Go.Proofs.Y.fA
namespace Go.Proofs.Y.fA
open Go Go.Conc Go.Proofs.Y.Lift Go.RowKit Go.Conc.Lib Go.ConcR.Gen
section
variable{Ψ:ß->Prop}{L:WgLink}{l:fe}{e:Jd}{k:List ŷ}
def Qw(Ψ:ß->Prop)(l:fe)(b:Nat)(w:ß):Prop:=SW Ψ l b w/\fI l l.w w
def oT(a:lT Ψ l b)(h:Qw Ψ l b w)(r:fI l w u):Qw Ψ l b u:=⟨fJ h.1<|a.r r,h.2.fh r⟩
def ahy{J:Jd}(a:SW Ψ l b l.w)(c:Goes P yQ (fI l) Go.ConcR.DC0 (λd e=>fj P yQ J {l with w:=e} d) n g l.w):fj P yQ J l g:= OO c (λ_ _ r=>r) a.1 λ_ _ _ h=>h
def ahz(H:WgLib P L)(τ:fe->fe)(Φ:fe->Prop)(c:lT Ψ l b)(z:SW Ψ l b l.w) (N:∀a,fI l l.w a->Φ {l with w:=a}/\(τ {l with w:=a}).d=0/\∃q:ß->Prop,lT q (τ {l with w:=a}) b/\SW q (τ {l with w:=a}) b (τ {l with w:=a}).w/\ ∀j,SW q (τ {l with w:=a}) b j->fj P Ì e {τ {l with w:=a}with d:=0,w:=j} (G (f.at (y.put ((Q[i]?).bind (·.dst))<|ñ #[])<|Ñ Q jJ::k) qX)): fj P Ì (λl g=>Φ l/\xY P Ì b (fj P Ì e) (τ l) g) l (G ((base L.done).at ⟨#[À<|Â ⟨b,0,Á⟩,Å,Å,Å],[]⟩ [ö<|body_done L])<|f.at y (Ñ Q (i::jJ)::k)::qX):=by
 lib_facts;simp only[body_done,doneFn,Ń];have hF:Qw Ψ l b l.w:=⟨z,fI.fT _ _⟩;apply ahy z (n:=40);u_reg (oT c) hF;u_op (oT c) hF;u_call H.f_add (nm_add L) addFn (oT c) hF;u_c Ŝ (oT c) hF;u_cond Ò (oT c) hF;u_c Ŝ (oT c) hF;u_c Ŝ (oT c) hF;u_reg (oT c) hF;u_op (oT c) hF;u_op (oT c) hF;u_c stepG_region_end (oT c) hF;u_cond Ò (oT c) hF;u_reg (oT c) hF;u_op (oT c) hF;u_conv H.underlying_tWgP H.room_tWg (ng.r hF.1.2.1).choose_spec (oT c) hF;refine Ë λa g=> ?_;replace hF:=oT c hF g;clear g;refine .fB λj r=> ?_;let⟨O,B,q,h,C,D⟩:=N j<|hF.2.fh<|yn r;refine⟨O,B,U,_,λ_=>stepG_markAt .releaseMerge fp U U (by k_ne) U H.f_relMerge (x_relMerge_n L) (x_relMerge_b L) (x_relMerge_x L) (x_relMerge_f L) (by simp[ĥ,fM]),?_⟩;walk_nrm;show fj P Ì (NN P Ì b<|fj P Ì e) (τ {l with w:=j}) _;clear O r;generalize τ {l with w:=j}=l2 at h C B D|-;replace hF:=C;clear C c z N;apply jC h hF (n:=10);iterate 3 w_go fJ
 refine Ë λa g=> ?_;replace hF:=fJ hF g;clear g;refine uX (l:={l2 with w:=a}) h hF (Ã U) U (λ_=>stepG_mark0 .disable fp U U (by k_ne) U H.f_disable (x_disable_n L) (x_disable_b L) (x_disable_x L)<|x_disable_f L) λE hF=> ?_;walk_nrm;have W:į l2.d #[jM .disable]=1:=by rw[B];rfl
 rw[W];apply jC (l:={l2 with d:=1,w:=E}) h hF (n:=50);iterate 2 w_go fJ
 u_defer fJ hF
 iterate 8 w_go fJ
 u_bub fJ hF
 iterate 11 w_go fJ
 u_call H.f_uAdd (nm_uAdd L) uAddFn fJ hF
 iterate 10 w_go fJ
 refine Ë λa g=> ?_;replace hF:=fJ hF g;clear g;refine nH (l:={l2 with d:=1,w:=a}) h hF λj hF=>⟨U,U,λv=>⟨_,λa p F=>(stepG_add_atomic U U (by k_ne) U H.f_addU64 (x_addU64_n L) (x_addU64_b L) (x_addU64_x L) ê (x_addU64_f L) U U p F).trans fW,?_⟩⟩;walk_nrm;have S:ê.wrap (v+18446744069414584320)=ê.wrap (v+qf):=rfl;rw[S];clear S;obtain⟨s,I⟩:∃s,ê.wrap (v+qf)=s:=⟨_,U⟩;simp only[I];have J:0<=s:=by rw[<-I];have:ê.wrap (v+qf)=(v+qf)%18446744073709551616:=rfl;rw[this];omega
 clear I v;by_cases o:s=0\/(fX<=s/\s<1000000*fX/\s%fX<1000000)
 .rw[if_pos o];by_cases m:s=0;focus
   subst m;clear o J
  rotate_left;focus
   have X:=o.resolve_left m;clear o m J;let⟨Y,c5,c6⟩:=X;have q4:(4294967296:Int)<=s:=Y;have K:s<1000000*4294967296:=c5;have T:s%4294967296<1000000:=c6;have f1:=CS s Z K T;have t:=CU s Z K T;obtain⟨u,g1⟩:∃u,(s/4294967296+2147483648)%4294967296-2147483648=u:=⟨_,U⟩;have g2:¬u<0:=Z
   have g3:0<u:=Z
   by_cases M:s%4294967296=0;focus rw[M]at t
   rotate_left;focus
    obtain⟨x,g4⟩:∃x,s%4294967296=x:=⟨_,U⟩;rw[g4]at t M;have V:x%4294967296=x:=Z
    have g6:(x !=0)=Ò:=by simpa using M
  all_goals
   apply jC (l:={l2 with d:=1,w:=j}) h hF (n:=150);iterate 3 w_go fJ
   u_leave1 H.f_uAdd fJ hF
   iterate 83 w_go fJ
   refine Ë λa g=> ?_;replace hF:=fJ hF g;clear g;refine uX (l:={l2 with d:=1,w:=a}) h hF (Ç U) U (λw=>JJ .enable fp U H.f_enable (x_enable_n L) (x_enable_b L) (x_enable_x L) (x_enable_f L) w) λE hF=> ?_;have u:į 1 #[jM .enable]=0:=rfl;rw[u];apply jC (l:={l2 with d:=0,w:=E}) h hF (n:=10);u_leave0 H.f_add fJ hF;iterate 2 w_go fJ
   u_leave0 H.f_done fJ hF
   refine Ë λa g=> ?_;replace hF:=fJ hF g;clear g;exact D _ hF
 .rw[if_neg o];by_cases m:0<s/\s<1000000
  .rw[if_pos m];let⟨q4,K⟩:=m;clear o J;have f1:=CS s Z Z Z;have t:=CU s Z Z Z;have g1:(s/4294967296+2147483648)%4294967296-2147483648=0:=Z
   have V:s%4294967296=s:=Z
   rw[V]at t;have g6:(s !=0)=Ò:=by simp;omega
   have X:(s==0)=Ì:=by simp;omega
   have M:(s.toNat:Int)=s:=Z
   apply jC (l:={l2 with d:=1,w:=j}) h hF (n:=150);iterate 3 w_go fJ
   u_leave1 H.f_uAdd fJ hF
   iterate 89 w_go fJ
   u_call H.f_uLoad (nm_uLoad L) uLoadFn fJ hF
   iterate 9 w_go fJ
   refine Ë λa g=> ?_;replace hF:=fJ hF g;clear g;refine nH (l:={l2 with d:=1,w:=a}) h hF λj hF=>⟨U,U,λv=>⟨_,λa p=>stepG_load_atomic U U (by k_ne) U H.f_loadU64 (x_loadU64_n L) (x_loadU64_b L) (x_loadU64_x L) ê (x_loadU64_f L) U p,?_⟩⟩;show fj P Ì (if v=(s.toNat:Int)then Jc P Ì b (fj P Ì e) s.toNat else λ_ _=>True) _ _;by_cases u:v=(s.toNat:Int)
   .rw[if_pos u];rw[M]at u;subst u;walk_nrm;have Y:(v !=v)=Ì:=fp
    apply jC (l:={l2 with d:=1,w:=j}) h hF (n:=150);iterate 3 w_go fJ
    u_leave1 H.f_uLoad fJ hF
    iterate 10 w_go fJ
    u_call H.f_uStore (nm_uStore L) uStoreFn fJ hF
    iterate 5 w_go fJ
    refine Ë λa g=> ?_;replace hF:=fJ hF g;clear g;refine nH (l:={l2 with d:=1,w:=a}) h hF λj hF=>⟨U,U,_,λa x p F=>stepG_store_atomic U U (by k_ne) U H.f_storeU64 (x_storeU64_n L) (x_storeU64_b L) (x_storeU64_x L) (x_storeU64_f L) U U p F,?_⟩;walk_nrm;obtain⟨r,T⟩:∃r,v.toNat=r+1:=⟨v.toNat-1,Z⟩;rw[T];apply jC (l:={l2 with d:=1,w:=j}) h hF (n:=150);iterate 2 w_go fJ
    u_leave0 H.f_uStore fJ hF
    iterate 24 w_go fJ
    refine Ë λa g=> ?_;replace hF:=fJ hF g;clear g;apply ag6 H h D r v<;>first|exact hF|omega
   .rw[if_neg u];exact .fB λ_ _=>trivial
  .rw[if_neg m];trivial
end
end Go.Proofs.Y.fA
namespace Go.Proofs.Y.fA
open Go Go.Conc Go.Proofs.Y.Lift Go.RowKit Go.Conc.Lib Go.ConcR.Gen
open Go.Proofs Go.Proofs.YtgpphkdoanciiaaGreatDoor
noncomputable def J0:Ę:=lk Ι [1,0,0]
noncomputable def yx (t:Array Ï) (a:List é):Ý:=G ((base 49).at ⟨t,[]⟩ [ö J0,ą J0,ô 0]) a
structure AR(an N:Nat)(ib:Option â)(m c kk:Nat)(t:Array Ï):Prop where
 r:t.size=37
 t1:t[1]?=Â (Æ (Â ⟨an,0,Á⟩) N N)
 t6:t[6]?=Â (Æ ib m c)
 C:t[7]?=Â (Ê Î m)
 I:t[8]?=Â (Ê Î kk)
theorem AS{x:Int}(a:0<=x)(b:x<1000000):Î.wrap x=x:=by rw[Γ];omega
section
variable{f:Jd}{l:fe}{t:Array Ï}{an N ib c kk:Nat}{Q:Ï->ByteArray->fe->Prop}{τ:fe->fe}{Φ:fe->Prop}
def ahA(D:gw l)(V:¬l.q)(hd:l.d=0)(W:AR an N (Â ⟨ib,0,Á⟩) m c kk t)(hkk:kk<m)(hm:m<1000)(hN:N<1000000)(sW:j<N)(yy:l.M ib) (i0:l.w.cell? ⟨ib,kk*4,Á⟩=Â (À O)) (i1:l.w.cell? ⟨ib,kk*4+1,Á⟩=Â (Ê Î j)) (i2:l.w.cell? ⟨ib,kk*4+2,Á⟩=Â (À<|Â ⟨i,0,Á⟩)) (i3:l.w.cell? ⟨ib,kk*4+3,Á⟩=Â (À<|Â ⟨n,0,Á⟩)) (tK:l.N ⟨i,2,Á⟩) (po:l.w.cell? ⟨i,2,Á⟩=Â v) (o1:l.r ⟨n,2,Á⟩) (o2:l.r ⟨an,j,Á⟩) (e1:(l.w.cell? ⟨n,2,Á⟩).isSome=Ò) (e2:(l.w.cell? ⟨an,j,Á⟩).isSome=Ò) (z1:l.w.frozen? ⟨n,2,Á⟩=Ì) (z2:l.w.frozen? ⟨an,j,Á⟩=Ì) (lb:(⟨n,2,Á⟩:â)≠⟨an,j,Á⟩) (s9:∀u,iC (λa=>a=⟨n,2,Á⟩\/a=⟨an,j,Á⟩) l u->∀cl lB,fj Ä Ì (λl'' g'=>l''.d=u.d/\∃p k c str,g'=G (cl.finish<|ñ #[Æ p k c,à str]) lB/\Q (Æ p k c) str l'') (lU u)<|G (Ă Ä 66 #[v,À O] Ğ)<|cl::lB) (zU:∀u (x:(Option Addr×Nat×Nat)×ByteArray),iC (λa=>a=⟨n,2,Á⟩\/a=⟨an,j,Á⟩) l u->(∃y,Q (Æ x.1.1 x.1.2.1 x.1.2.2) x.2 y/\(∀b,y.M b->u.M b/\u.w.heap[b]?=y.w.heap[b]?))->u.w.cell? ⟨n,2,Á⟩=Â (Æ x.1.1 x.1.2.1 x.1.2.2)->u.w.cell? ⟨an,j,Á⟩=Â (à x.2)-> lT (λ_=>True) u n/\SW (λ_=>True) u n u.w/\Φ u/\(τ u).d=0/\∃E:ß->Prop,lT E (τ u) n/\SW E (τ u) n (τ u).w/\∀s X,SW E (τ u) n s->AR an N (Â ⟨ib,0,Á⟩) m c (kk+1) X->fj Ä Ì f {τ u with d:=0,w:=s} (yx X qX)): fj Ä Ì (λl g=>Φ l/\xY Ä Ì n (fj Ä Ì f) (τ l) g) l (yx t qX):=by
 obtain⟨y0,y1,Y,y3,y4,y5,y6,y7,y8,y9,wC,yz,wD,qW,sd,qk,u7,u9,tM,tN,tO,se,sf,si,qR,rW,qS,oR,nV,pA,pB,pC,tq,rX,rY,qT,qU,rfl⟩:=Qv t W.r;obtain rfl:y1=Æ (Â ⟨an,0,Á⟩) N N:=by simpa using W.t1
 obtain rfl:y6=Æ (Â ⟨ib,0,Á⟩) m c:=by simpa using W.t6
 obtain rfl:y7=Ê Î m:=by simpa using W.C
 obtain rfl:y8=Ê Î kk:=by simpa using W.I
 have qY:∀y:â,(y=⟨n,2,Á⟩\/y=⟨an,j,Á⟩)->l.r y:=λy ha=>by rcases ha with rfl|rfl;exact o1;exact o2
 have asF:(kk:Int)<(m:Int):=Z
 simp only[yx];conv in J0=>whnf
 refine gk (n:=30) D.r ?_;have hF:True:=trivial;repeat w_go fC
 refine Ë λ_ _=> ?_;have B:∀g,gW l ⟨ib,g,Á⟩:=λg=>Ã yy;refine tH (v:=Đ #[À O,Ê Î j,À<|Â ⟨i,0,Á⟩,À<|Â ⟨n,0,Á⟩]) U U (by k_ne) D.r V (λo r=> ?_) (λo r e F=> ?_) ?_
 .have J:=((B<|kk*4).r r).trans i0;have K:=((B<|kk*4+1).r r).trans i1;have L:=((B<|kk*4+2).r r).trans i2;have P:=((B<|kk*4+3).r r).trans i3;go_simp
 .have J:=((B<|kk*4).r r).trans i0;have K:=((B<|kk*4+1).r r).trans i1;have L:=((B<|kk*4+2).r r).trans i2;have P:=((B<|kk*4+3).r r).trans i3;simp[go_sem,J,K,L,P]at F;rcases F with rfl|rfl|rfl|rfl
  .exact(B _).C
  .exact(B _).C
  .exact(B _).C
  .exact(B _).C
 walk_nrm;refine F7 (ob:=É #[À Á,Ê Î 0,À Á,À Á] 155) U U (by k_ne) D.r V (λw=>by go_simp) (λw=>by simp[go_sem]) λo mY=> ?_;walk_nrm;have tP:iC (λa=>a=⟨n,2,Á⟩\/a=⟨an,j,Á⟩) l (gH l o<|É #[À Á,Ê Î 0,À Á,À Á] 155):=JY D qY mY;have nh:(gH l o<|É #[À Á,Ê Î 0,À Á,À Á] 155).w.heap[o.heap.size]?=Â (É #[À Á,Ê Î 0,À Á,À Á] 155):=ni;have sj:l.w.heap.size<=o.heap.size:=mY.r;have I:(gH l o<|É #[À Á,Ê Î 0,À Á,À Á] 155).O o.heap.size:=Ç U;generalize gH l o (É #[À Á,Ê Î 0,À Á,À Á] 155)=l₁ at tP nh I|-;generalize o.heap.size=tb at nh I sj|-;refine uY U U (by k_ne) λs qZ=> ?_;have S:s.heap[tb]?=_:=(qZ.I tb<|Ã I).trans nh;have J:s.cell? ⟨tb,0,Á⟩=Â (À Á):=by simp[Ö,S]
 have K:s.cell? ⟨tb,1,Á⟩=Â (Ê Î 0):=by simp[Ö,S]
 have L:s.cell? ⟨tb,2,Á⟩=Â (À Á):=by simp[Ö,S]
 have P:s.cell? ⟨tb,3,Á⟩=Â (À Á):=by simp[Ö,S]
 have hz:∀g,s.frozen? ⟨tb,g,Á⟩=Ì:=λg=>by simp[î,S]
 go_simp;refine⟨{l₁ with w:=iR s tb (À O) (Ê Î j) (À<|Â ⟨i,0,Á⟩) (À<|Â ⟨n,0,Á⟩)},JZ (p:=tb) (mq tP.fv qZ) (by rwa[tP.q]) I wB (λg H=>yw H) ⟨U,U,U⟩ λe F=> ?_,?_⟩
 .have h:=đ F;have e:∀g,pF l₁ ⟨tb,g,Á⟩:=λg=>Ã I;simp[go_sem,á _ _ _ _ _ _ (show Ø (À O)=Ò from rfl),á _ _ _ _ _ _ (show Ø (À<|Â ⟨i,0,Á⟩)=Ò from rfl),á _ _ _ _ _ _ (show Ø (À<|Â ⟨n,0,Á⟩)=Ò from rfl),J,K,L,P,hz]at h;rcases h with rfl|rfl|rfl|rfl
  .exact(e _).r
  .exact(e _).r
  .exact(e _).r
  .exact(e _).r
 let⟨c0,c1,c2,c3⟩:=Qt (v0:=À O) (v1:=Ê Î j) (v2:=À<|Â ⟨i,0,Á⟩) (v3:=À<|Â ⟨n,0,Á⟩) J K L P;have C:=Qu (w':=iR s tb (À O) (Ê Î j) (À<|Â ⟨i,0,Á⟩)<|À<|Â ⟨n,0,Á⟩) D qY tP qZ sj wB λg H=>yw H;have AT:({l₁ with w:=iR s tb (À O) (Ê Î j) (À<|Â ⟨i,0,Á⟩) (À<|Â ⟨n,0,Á⟩)}:fe).O tb:=I;replace c0:({l₁ with w:=iR s tb (À O) (Ê Î j) (À<|Â ⟨i,0,Á⟩) (À<|Â ⟨n,0,Á⟩)}:fe).w.cell? ⟨tb,0,Á⟩=_:=c0;replace c1:({l₁ with w:=iR s tb (À O) (Ê Î j) (À<|Â ⟨i,0,Á⟩) (À<|Â ⟨n,0,Á⟩)}:fe).w.cell? ⟨tb,1,Á⟩=_:=c1;replace c2:({l₁ with w:=iR s tb (À O) (Ê Î j) (À<|Â ⟨i,0,Á⟩) (À<|Â ⟨n,0,Á⟩)}:fe).w.cell? ⟨tb,2,Á⟩=_:=c2;replace c3:({l₁ with w:=iR s tb (À O) (Ê Î j) (À<|Â ⟨i,0,Á⟩) (À<|Â ⟨n,0,Á⟩)}:fe).w.cell? ⟨tb,3,Á⟩=_:=c3;generalize({l₁ with w:=iR s tb (À O) (Ê Î j) (À<|Â ⟨i,0,Á⟩) (À<|Â ⟨n,0,Á⟩)}:fe)=l₂ at c0 c1 c2 c3 C AT|-;clear nh I tP S J K L P hz qZ s l₁ mY o;have re:=C.G D;have pH:¬l₂.q:=by rwa[C.q]
 have ahB:l₂.N ⟨i,2,Á⟩:=by rwa[C.c]
 have nE:¬((⟨i,2,Á⟩:â)=⟨n,2,Á⟩\/(⟨i,2,Á⟩:â)=⟨an,j,Á⟩):=λq=>by
  rcases q with q|q
  .exact D.Y _ o1<|q▸tK
  .exact D.Y _ o2<|q▸tK
 have ahC:l₂.w.cell? ⟨i,2,Á⟩=Â v:=(C.e _ (Ç tK) nE).trans po;have Qx:∀y:â,(y=⟨n,2,Á⟩\/y=⟨an,j,Á⟩)->l₂.r y:=λy hy=>by rw[C.I];exact qY y hy
 refine gk (n:=5) re.r ?_;iterate 2 w_go fC
 refine Ë λ_ _=> ?_;refine Qi (II yu #[y0,Æ (Â ⟨an,0,Á⟩) N N,Y,y3,y4,À<|Â ⟨tb,0,Á⟩,Æ (Â ⟨ib,0,Á⟩) m c,Ê Î m,Ê Î kk,ŝ Ò,À<|Â ⟨ib,kk*4,Á⟩,Đ #[À O,Ê Î j,À<|Â ⟨i,0,Á⟩,À<|Â ⟨n,0,Á⟩],wD,qW,sd,qk,u7,u9,tM,tN,tO,se,sf,si,qR,rW,qS,oR,nV,pA,pB,pC,tq,rX,rY,qT,qU] (mL tb i n an N j (À O) v)<|Db l₂ i n an j v Q) re.r pH (λh H=> ?_) (λmd listed a l e z hI F=>ahv re pH U U U AT c0 c1 c2 c3 ahB ahC (Qx _<|Ã U) (Qx _<|Ç U) (C.g _ (Ã U) e1) (C.g _ (Ç U) e2) ((C.S _<|Ã o1).trans z1) ((C.S _<|Ã o2).trans z2) sW hN lb (λu h=>s9 u<|C.fh h) md listed a l e z hI F) λmd listed a z hI j1 yA=> ?_
 .refine⟨((Á,0,0),ByteArray.empty),mK.G _ _ _,(iC.fT re.r).N Qx ⟨H.r,H.I,H.N,H.Y,H.S⟩,λq=> ?_,λq=> ?_,λq=> ?_⟩<;>exact absurd q A
 let⟨x,H,T⟩:=hI;have pI:∀e∈ã 21,listed.getD e Ì=Ò:=by
  cases md
  .exact pG yA j1 (ã 21) [] fW λe F=>by cases F
  .exact λe F=>pG yA j1 [0,1,5,6,7,8,9,10,11,12,13,14,16,17,18,2,3,4,15,19,20] [] fW (λe F=>by cases F) e (by have:=Ē.1 F;revert e;decide)
  .exact pG yA j1 (ã 21) [] fW λe F=>by cases F
 have F8:=C.fh T.r;have F9:=F8.G D;have wE:¬z.q:=by rwa[F8.q]
 let⟨F,ds⟩:=a;obtain rfl:ds=[]:=H.M;have b1:F[1]?=Â (Æ (Â ⟨an,0,Á⟩) N N):=H.C (d:=1) A;have b5:F[5]?=Â (À<|Â ⟨tb,0,Á⟩):=H.C (d:=5) A;have b6:F[6]?=Â (Æ (Â ⟨ib,0,Á⟩) m c):=H.C (d:=6) A;have b7:F[7]?=Â (Ê Î m):=H.C (d:=7) A;have b8:F[8]?=Â (Ê Î kk):=H.C (d:=8) A;obtain⟨x0,x1,x2,x3,x4,x5,x6,x7,x8,x9,XZ,x11,x12,x13,x14,x15,x16,x17,x18,x19,x20,x21,x22,x23,x24,x25,x26,x27,x28,x29,x30,x31,x32,x33,x34,x35,x36,rfl⟩:=Qv F H.S;obtain rfl:x1=Æ (Â ⟨an,0,Á⟩) N N:=by simpa using b1
 obtain rfl:x5=À (Â ⟨tb,0,Á⟩):=by simpa using b5
 obtain rfl:x6=Æ (Â ⟨ib,0,Á⟩) m c:=by simpa using b6
 obtain rfl:x7=Ê Î m:=by simpa using b7
 obtain rfl:x8=Ê Î kk:=by simpa using b8
 have ahD:=T.u5<|pI 12 A;have ahE:=T.I<|pI 18 A;have ahF:=T.N<|pI 20 A;have d3:z.w.cell? ⟨tb,3,Á⟩=Â (À<|Â ⟨n,0,Á⟩):=(gL<|T.r.r tb<|Ã AT).trans c3;have s3:gW z ⟨tb,3,Á⟩:=Ã<|Ã<|T.r.O tb AT;clear H pI b1 b5 b6 b7 b8;refine gk (n:=9) F9.r ?_;iterate 3 w_go fC
 refine Ë λ_ _=> ?_;refine nW (x:=⟨tb,3,Á⟩) U U (by k_ne) F9.r wE s3 d3 (λw h=>by go_simp) (λw h=>by simp[go_sem,h]) ?_;walk_nrm;refine gk (n:=9) F9.r ?_;iterate 2 w_go fC
 u_call qj.f_done (nm_done Lk) doneFn fC hF
 refine Ë λ_ _=> ?_;have wF:∀o,fI z z.w o->lT (λ_=>True) {z with w:=o} n/\SW (λ_=>True) {z with w:=o} n o/\Φ {z with w:=o}/\(τ {z with w:=o}).d=0/\∃E:ß->Prop,lT E (τ {z with w:=o}) n/\SW E (τ {z with w:=o}) n (τ {z with w:=o}).w/\∀s X,SW E (τ {z with w:=o}) n s->AR an N (Â ⟨ib,0,Á⟩) m c (kk+1) X->fj Ä Ì f {τ {z with w:=o}with d:=0,w:=s} (yx X qX):=λo r=>by
  refine zU {z with w:=o} x (F8.N qY r) ?_ ?_ ?_
  .let⟨y,y1,Y⟩:=ahD;exact⟨y,y1,λb h=>⟨(Y b h).1,(r.I b (Y b h).1).trans (Y b h).2⟩⟩
  .exact(r.N _<|Ã<|by rwa[F8.I]).trans ahE
  .exact(r.N _<|Ã<|by rwa[F8.I]).trans ahF
 let⟨k1,k2,_⟩:=wF z.w<|fI.fT _ _;refine ahz qj τ Φ k1 k2 λo r=> ?_;let⟨_,_,f1,f4,E,f2,f3,f5⟩:=wF o r;refine⟨f1,f4,E,f2,f3,λs h=> ?_⟩;walk_nrm;refine gk (n:=30) h.1 ?_;iterate 7 w_go fC
 refine Ë λ_ _=> ?_;refine f5 s _ h ⟨U,U,U,U,?_⟩;simp;exact AS Z Z
end
def ahG:Array å:=#[⟨Â 2,ć 85<|Ù 0,85, "work.go:24",#[],Á⟩,
 ⟨Â 3,ć 25<|Ù 1,25, "work.go:24",#[],Á⟩,
 ⟨Â 4,Ě {callee:=ĕ (ĸ 49),args:=#[Ù 2,Ù 3],argTypes:=#[85,25]},0, "work.go:24",#[⟨0,Ü⟩,⟨1,Ü⟩],Á⟩]
def yB(a:Nat)(b c d e:Ï):é:=(baseD 63).at ⟨#[À<|Â ⟨a,0,Á⟩,b,c,d,e],[oS 64 #[À<|Â ⟨a,0,Á⟩] #[]]⟩ [Ñ XV [1]]
def va(a b c d e:Ï):é:=(base 48).at ⟨#[a,b,c,d,e],[]⟩ [Ñ ahG [2]]
section
variable{Ψ:ß->Prop}{J:Jd}{l:fe}{a e f o p:Ï}
def ahH(c:j2 l)(g:¬l.q)(k:gW l ⟨j9,0,Á⟩)(r:gW l ⟨j7,0,Á⟩)(s:gW l ⟨b,0,Á⟩)(t:l.w.cell? ⟨j9,0,Á⟩=Â (Ĉ (ù 48) #[] #[À<|Â ⟨j7,0,Á⟩,À<|Â ⟨b,0,Á⟩]))(u:l.w.cell? ⟨j7,0,Á⟩=Â (Æ O m n))(y:l.w.cell? ⟨b,0,Á⟩=Â (Æ (Â ⟨j,0,Á⟩) i i)) (B:∀d a e f o v x z jQ p,AR j i O m n 0 d->fj Ä Ì J l (yx d [va v x z jQ p,yB j6 a e f o,nI Ä])): fj Ä Ì J l (born Ä<|oS 63 #[À<|Â ⟨j6,0,Á⟩,À<|Â ⟨j9,0,Á⟩] #[]):=by
 apply gk (n:=30) c;have hF:=trivial;u_c (XL Ů fW U) fC hF;walk_nrmf Κ;iterate 3 w_go fC
 u_c (XJ U U (by k_ne) U U) fC hF
 walk_nrm;repeat w_go fC
 refine Ë λ_ _=> ?_;apply nW U U (by k_ne) c g k t (λw h=>by go_simp) (λw h=>by simp[go_sem,h]);walk_nrm;apply gk (n:=30) c;u_c (XK U U (by k_ne) U U ů fW U) fC hF;walk_nrmf Tryz.f48;w_go fC;refine Ë λ_ _=> ?_;apply nW U U (by k_ne) c g r u (λw h=>by go_simp) (λw h=>by simp[go_sem,h]);walk_nrm;apply nW U U (by k_ne) c g s y (λw h=>by go_simp) (λw h=>by simp[go_sem,h]);walk_nrm;apply gk (n:=30) c;u_call Ű fW Ι fC hF;iterate 8 w_go fC
 refine Ë λ_ _=> ?_;exact B _ _ _ _ _ _ _ _ _ _ ⟨U,U,U,U,U⟩
def ahI(b:AR j i O m n m d)(h:l.K ⟨k,0,Á⟩/\l.K ⟨k,1,Á⟩)(r:lT Ψ l k)(c:SW Ψ l k l.w)(s:l.d=0)(t:¬l.q)(u:gW l ⟨j6,0,Á⟩)(y:l.w.cell? ⟨j6,0,Á⟩=Â (À<|Â ⟨k,0,Á⟩)): fj Ä Ì (λl g=>xY Ä Ì k (CW Ä) (kr l) g) l (yx d [va v x z jQ p,yB j6 a e f o,nI Ä]):=by
 obtain⟨C,D,E,F,G,H,I,g,B,J,L,M,N,P,Q,S,T,V,W,X,Y,se,sf,si,qR,rW,qS,oR,nV,pA,pB,pC,tq,rX,rY,qT,qU,rfl⟩:=Qv d b.r;obtain rfl:g=Ê Î m:=by simpa using b.C
 obtain rfl:B=Ê Î m:=by simpa using b.I
 have hmm:¬(m:Int)<(m:Int):=Z
 simp only[yx];conv in J0=>whnf
 apply gk (n:=40) c.1;have hF:=trivial;iterate 8 w_go fC
 u_leave0 Ű fC hF
 iterate 2 w_go fC
 u_leave0 ů fC hF
 refine Ë λ_ _=> ?_;exact XW h r c s t u y
end
def Gb:å:=⟨Â 14,ę<|Ù 1,25, "work.go:65",#[],Á⟩
def Gc:å:=⟨Â 15,ð 155 (Ù 4) 1,0, "work.go:65",#[],Á⟩
def Dc:å:=⟨Â 16,ć 3<|Ù 15,3, "work.go:65",#[⟨1,Ü⟩],Á⟩
def Gd:å:=⟨Â 17,ð 155 (Ù 4) 2,0, "work.go:65",#[],Á⟩
def Dd:å:=⟨Â 18,ć 86<|Ù 17,86, "work.go:65",#[⟨3,Ü⟩],Á⟩
def De:å:=⟨Â 19,ĩ<|Ù 18,0, "work.go:65",#[⟨4,Ü⟩],Á⟩
def Df:å:=⟨Â 20,ð 105 (Ù 19) 1,0, "work.go:65",#[⟨5,Ü⟩],Á⟩
def Dg:å:=⟨Â 21,ć 65<|Ù 20,65, "work.go:65",#[⟨6,Ü⟩],Á⟩
def Ge:å:=⟨Â 22,ð 155 (Ù 4) 0,0, "work.go:65",#[],Á⟩
def Dh:å:=⟨Â 23,ć 148<|Ù 22,148, "work.go:65",#[⟨8,Ü⟩],Á⟩
def AU:å:=⟨Â 24,Ě {callee:=ĕ<|ĸ 67,args:=#[Ù 21,Ù 23],argTypes:=#[65,148]},9, "work.go:65",#[⟨7,Ü⟩,⟨9,Ü⟩],Á⟩
def AV:å:=⟨Â 25,ő 25 (Ù 14)<|Ù 16,0, "work.go:65",#[⟨0,Ü⟩,⟨2,Ü⟩,⟨0,Í⟩,⟨1,Í⟩,⟨2,Í⟩,⟨3,Í⟩,⟨4,Í⟩,⟨5,Í⟩,⟨6,Í⟩,⟨7,Í⟩,⟨8,Í⟩,⟨9,Í⟩,⟨10,Í⟩],Á⟩
def AW:å:=⟨Á,š 9 (Ù 25)<|Ù 24,0, "work.go:65",#[⟨11,Ü⟩,⟨10,Ü⟩,⟨10,Ţ⟩,⟨0,Í⟩,⟨1,Í⟩,⟨2,Í⟩,⟨3,Í⟩,⟨4,Í⟩,⟨5,Í⟩,⟨6,Í⟩,⟨7,Í⟩,⟨8,Í⟩,⟨9,Í⟩,⟨10,Í⟩],Á⟩
def vd:Array å:=#[Gb,Gc,Dc,Gd,Dd,De,Df,Dg,Ge,Dh,AU,AV,AW]
def qm(tb a b N c:Nat)(d e:Ï)(x:ByteArray):Nat->Ï
 |0=>Æ (Â ⟨b,0,Á⟩) N N
 |1=>À<|Â ⟨tb,1,Á⟩
 |2=>Ê Î c
 |3=>À<|Â ⟨tb,2,Á⟩
 |4=>À<|Â ⟨a,0,Á⟩
 |5=>À<|Â ⟨a,0,Á⟩
 |6=>À<|Â ⟨a,2,Á⟩
 |7=>e
 |8=>À<|Â ⟨tb,0,Á⟩
 |9=>d
 |10=>à x
 |11=>À<|Â ⟨b,c,Á⟩
 |_=>Å
structure Di(gY:fe)(an pl:Nat)(Q:ByteArray->Prop)(listed:Array Bool)(x:ByteArray)(l:fe):Prop where
 r:iC (λa=>a=⟨an,pl,Á⟩) gY l
 u5:listed.getD 10 Ì=Ò->Q x
 I:listed.getD 12 Ì=Ò->l.w.cell? ⟨an,pl,Á⟩=Â (à x)
def Di.C{b l:fe}{Q:ByteArray->Prop}{listed:Array Bool}{x:ByteArray}(h:Di b n j Q listed x l)(e:i≠10)(f:i≠12)(c:b.r ⟨n,j,Á⟩)(d:ß)(r:fI l l.w d):Di b n j Q (listed.setIfInBounds i Ò) x {l with w:=d}:=by
 refine⟨h.r.N (λa q=>by rwa[q]) r,λq=> ?_,λq=> ?_⟩
 .rw[ç Ì e]at q;exact h.u5 q
 .rw[ç Ì f]at q;exact(r.N _<|by rw[h.r.C];exact Ã c).trans<|h.I q
section
variable{J:Jd}{gY:fe}{an pl:Nat}{Q:ByteArray->Prop}
def ahJ(W:gw gY)(hq:¬gY.q)(ht:d.size=26)(AP:d[1]?=Â (Æ (Â ⟨an,0,Á⟩) i i))(Gf:d[4]?=Â (À<|Â ⟨j,0,Á⟩))(hO:gY.O j) (J:gY.w.cell? ⟨j,0,Á⟩=Â v) (K:gY.w.cell? ⟨j,1,Á⟩=Â (Ê Î pl)) (M:gY.w.cell? ⟨j,2,Á⟩=Â (À<|Â ⟨n,0,Á⟩)) (X:gY.N ⟨n,2,Á⟩) (po:gY.w.cell? ⟨n,2,Á⟩=Â z) (B:gY.r ⟨an,pl,Á⟩) (e2:(gY.w.cell? ⟨an,pl,Á⟩).isSome=Ò) (z2:gY.w.frozen? ⟨an,pl,Á⟩=Ì) (sW:pl<i) (Qy:∀l,iC (λa=>a=⟨an,pl,Á⟩) gY l->∀t lB,fj Ä Ì (λP S=>P.d=l.d/\∃T,S=G (t.finish<|à T) lB/\Q T) (lU l)<|G (Ă Ä 67 #[z,v] Ğ)<|t::lB) (md:ý) (listed:Array Bool) (a:ŏ) (l:fe) (b:Nat) (rest:List Nat) (hI:II vd d (qm j n an i pl v z) (Di gY an pl Q) listed a l) (p:b∈Û md vd listed): fj Ä Ì (λP S=>∃I,S=G ((base 51).at I<|Ñ vd rest::L) qX/\II vd d (qm j n an i pl v z) (Di gY an pl Q) (listed.setIfInBounds b Ò) I P) l (G ((base 51).at a<|Ñ vd (b::rest)::L) qX):=by
 let⟨x,m,s⟩:=hI;have E:tJ vd d.size=Ò:=by rw[ht];decide
 have X0:=Qk p;have gN:=CY p;have F:=s.r.fv;have H:¬l.q:=by rwa[s.r.q]
 have V:∀y:â,y=⟨an,pl,Á⟩->gY.r y:=λy ha=>by rwa[ha]
 have nh:a.tmps[1]?=Â (Æ (Â ⟨an,0,Á⟩) i i):=(m.C A).trans AP;have Y:a.tmps[4]?=Â (À<|Â ⟨j,0,Á⟩):=(m.C A).trans Gf;have t:∀c g,gY.w.cell? ⟨j,c,Á⟩=Â g->gW l ⟨j,c,Á⟩/\l.w.cell? ⟨j,c,Á⟩=Â g:=λc g h=>⟨Ã<|Ã<|s.r.O j hO,by rwa[gL<|s.r.r j<|Ã hO]⟩;have Qo:¬((⟨n,2,Á⟩:â)=⟨an,pl,Á⟩):=λq=>W.Y _ B<|q▸X;have N:gW l ⟨n,2,Á⟩/\l.w.cell? ⟨n,2,Á⟩=Â z:=⟨Ç (Ç<|by rwa[s.r.c]),by rwa[s.r.e _ (Ç X) Qo]⟩;have Qp:(pl:Int)<(i:Int):=Z
 have j1:vd.size=13:=A
 rw[j1]at gN;match b,gN with
 |0,_=>
  refine ij (o:=Gb) E m U U p (by k_ne) F H (λk r=> ?_) (λk r e u=> ?_)<|s.C A A B
  .simp only[qm,Gb];go_simp
  .simp[go_sem,Gb,nh]at u
 |1,_=>
  refine ij (o:=Gc) E m U U p (by k_ne) F H (λk r=> ?_) (λk r e u=> ?_)<|s.C A A B
  .simp only[qm,Gc];go_simp
  .simp[go_sem,Gc,Y]at u
 |2,_=>
  have Qr:a.tmps[15]?=Â (À<|Â ⟨j,1,Á⟩):=m.r 1 Gc 15 U (ie (o:=Dc) p U U) U;refine ij (o:=Dc) E m U U p (by k_ne) F H (λk r=> ?_) (λk r e u=> ?_)<|s.C A A B
  .have D:k.cell? ⟨j,1,Á⟩=Â (Ê Î pl):=((t 1 _ K).1.r r).trans (t 1 _ K).2;simp only[qm,Dc];go_simp
  .have D:k.cell? ⟨j,1,Á⟩=Â (Ê Î pl):=((t 1 _ K).1.r r).trans (t 1 _ K).2;have I:e=⟨û ⟨j,1,Á⟩,Ì,Ì⟩:=by simp[go_sem,Dc,D,Qr]at u;exact u
   subst I;exact(t 1 _ K).1.C
 |3,_=>
  refine ij (o:=Gd) E m U U p (by k_ne) F H (λk r=> ?_) (λk r e u=> ?_)<|s.C A A B
  .simp only[qm,Gd];go_simp
  .simp[go_sem,Gd,Y]at u
 |4,_=>
  have Qs:a.tmps[17]?=Â (À<|Â ⟨j,2,Á⟩):=m.r 3 Gd 17 U (ie (o:=Dd) p U U) U;refine ij (o:=Dd) E m U U p (by k_ne) F H (λk r=> ?_) (λk r e u=> ?_)<|s.C A A B
  .have D:k.cell? ⟨j,2,Á⟩=Â (À<|Â ⟨n,0,Á⟩):=((t 2 _ M).1.r r).trans (t 2 _ M).2;simp only[qm,Dd];go_simp
  .have D:k.cell? ⟨j,2,Á⟩=Â (À<|Â ⟨n,0,Á⟩):=((t 2 _ M).1.r r).trans (t 2 _ M).2;have I:e=⟨û ⟨j,2,Á⟩,Ì,Ì⟩:=by simp[go_sem,Dd,D,Qs]at u;exact u
   subst I;exact(t 2 _ M).1.C
 |5,_=>
  have Qz:a.tmps[18]?=Â (À<|Â ⟨n,0,Á⟩):=m.r 4 Dd 18 U (ie (o:=De) p U U) U;refine ij (o:=De) E m U U p (by k_ne) F H (λk r=> ?_) (λk r e u=> ?_)<|s.C A A B
  .simp only[qm,De];go_simp
  .simp[go_sem,De,Qz]at u
 |6,_=>
  have h19:a.tmps[19]?=Â (À<|Â ⟨n,0,Á⟩):=m.r 5 De 19 U (ie (o:=Df) p U U) U;refine ij (o:=Df) E m U U p (by k_ne) F H (λk r=> ?_) (λk r e u=> ?_)<|s.C A A B
  .simp only[qm,Df];go_simp
  .simp[go_sem,Df,h19]at u
 |7,_=>
  have J3:a.tmps[20]?=Â (À<|Â ⟨n,2,Á⟩):=m.r 6 Df 20 U (ie (o:=Dg) p U U) U;refine ij (o:=Dg) E m U U p (by k_ne) F H (λk r=> ?_) (λk r e u=> ?_)<|s.C A A B
  .have D:k.cell? ⟨n,2,Á⟩=Â (z):=(N.1.r r).trans N.2;simp only[qm,Dg];go_simp
  .have D:k.cell? ⟨n,2,Á⟩=Â (z):=(N.1.r r).trans N.2;have I:e=⟨û ⟨n,2,Á⟩,Ì,Ì⟩:=by simp[go_sem,Dg,D,J3]at u;exact u
   subst I;exact N.1.C
 |8,_=>
  refine ij (o:=Ge) E m U U p (by k_ne) F H (λk r=> ?_) (λk r e u=> ?_)<|s.C A A B
  .simp only[qm,Ge];go_simp
  .simp[go_sem,Ge,Y]at u
 |9,_=>
  have F6:a.tmps[22]?=Â (À<|Â ⟨j,0,Á⟩):=m.r 8 Ge 22 U (ie (o:=Dh) p U U) U;refine ij (o:=Dh) E m U U p (by k_ne) F H (λk r=> ?_) (λk r e u=> ?_)<|s.C A A B
  .have D:k.cell? ⟨j,0,Á⟩=Â (v):=((t 0 _ J).1.r r).trans (t 0 _ J).2;simp only[qm,Dh];go_simp
  .have D:k.cell? ⟨j,0,Á⟩=Â (v):=((t 0 _ J).1.r r).trans (t 0 _ J).2;have I:e=⟨û ⟨j,0,Á⟩,Ì,Ì⟩:=by simp[go_sem,Dh,D,F6]at u;exact u
   subst I;exact(t 0 _ J).1.C
 |10,_=>
  have QA:a.tmps[21]?=Â (z):=m.r 7 Dg 21 U (ie (o:=AU) p U U) U;have h23:a.tmps[23]?=Â (v):=m.r 9 Dh 23 U (ie (o:=AU) p U U) U;refine XU (o:=AU) E m U U p (by k_ne) F (f:=67) (args:=#[z,v]) (λw=>by simp only[AU];go_simp) (λw=>ł (o:=AU) U Tryz.func67 U U #[]) λk r=> ?_;have I:=s.r.N V r;refine((Qy _ I _ _).lU<|I.G W).fN ?_;rintro P S ⟨y,⟨hy0,T,rfl,hQ⟩,rfl,hA,XX,ahw,ahx⟩;refine⟨T,U,⟨I.CZ V hA hy0,λ_=>hQ,λq=> ?_⟩,λc hj=> ?_⟩
  .rw[ç Ì A]at q;exact absurd (m.I (o:=AW) U q U)<|wA X0
  .match c,hj with
   |10,hj=>exact absurd hj<|wA X0
   |0,_|1,_|2,_|3,_|4,_|5,_|6,_|7,_|8,_|9,_|11,_|12,_|n+13,_=>rfl
 |11,_=>
  have I:a.tmps[14]?=Â (Æ (Â ⟨an,0,Á⟩) i i):=m.r 0 Gb 14 U (ie (o:=AV) p U U) U;have h16:a.tmps[16]?=Â (Ê Î pl):=m.r 2 Dc 16 U (ie (o:=AV) p U U) U;refine ij (o:=AV) E m U U p (by k_ne) F H (λk r=> ?_) (λk r e u=> ?_)<|s.C A A B
  .simp only[qm,AV];go_simp
  .simp[go_sem,AV,sW,Qp,I,h16]at u
 |12,_=>
  have h25:a.tmps[25]?=Â (À<|Â ⟨an,pl,Á⟩):=m.r 11 AV 25 U (ie (o:=AW) p U U) U;have JV:a.tmps[24]?=Â (à x):=m.r 10 AU 24 U (ie (o:=AW) p U U) U;have I:(l.w.cell? ⟨an,pl,Á⟩).isSome=Ò:=s.r.g _ U e2;have AQ:l.w.frozen? ⟨an,pl,Á⟩=Ì:=(s.r.S _<|Ã B).trans z2;have ll:pF l ⟨an,pl,Á⟩:=Ç (by rwa[s.r.I]);refine Ql (o:=AW) (y:=⟨an,pl,Á⟩) (v:=à x) E m U U U p (by k_ne) F H U ll I AQ (λw D e=> ?_) (λw D e=> ?_) λk r=> ?_
  .let⟨u,hu⟩:=Ô.1 D;simp only[AW];go_simp
  .let⟨u,hu⟩:=Ô.1 D;simp[go_sem,AW,h25,JV,á _ _ _ _ _ _ (show Ø (à x)=Ò from rfl),hu,e]
  .have hA:=s.r.p7 W V (x:=⟨an,pl,Á⟩) (v:=à x) U U I;refine⟨hA.N V ⟨r.r,r.I,r.N,r.Y,r.S⟩,λq=> ?_,λq=> ?_⟩
   .rw[ç Ì A]at q;exact s.u5 q
   .exact(r.N _<|by rw[s.r.C];exact Ã B).trans<|z8 (Ô.1 I).choose_spec
 |n+13,h=>exact absurd h Z
end
def yC:Array å:=#[⟨Â 6,.recv 165 (Ù 5) Ò,0, "work.go:63",#[],Á⟩,⟨Â 7,Ő (Ù 6) 1,4, "work.go:63",#[⟨0,Ü⟩],Á⟩]
def X1:Array å:=#[⟨Â 8,Ő (Ù 6) 0,155, "work.go:63",#[],Á⟩,⟨Â 4,.alloc 155,0, "work.go:63",#[],Á⟩,⟨Á,š 155 (Ù 4)<|Ù 8,0, "work.go:63",#[⟨1,Ü⟩,⟨0,Ü⟩,⟨0,Í⟩,⟨1,Í⟩],Á⟩]
def QB:Array å:=#[⟨Â 9,ð 155 (Ù 4) 2,0, "work.go:64",#[],Á⟩,⟨Â 10,ć 86<|Ù 9,86, "work.go:64",#[⟨0,Ü⟩],Á⟩,⟨Â 11,ĩ<|Ù 10,0, "work.go:64",#[⟨1,Ü⟩],Á⟩,⟨Â 12,ð 105 (Ù 11) 0,0, "work.go:64",#[⟨2,Ü⟩],Á⟩,⟨Â 13,Ě {callee:=ĕ<|ĸ 53,args:=#[Ù 12],argTypes:=#[97]},0, "work.go:64",#[⟨3,Ü⟩],Á⟩]
def Dj:Ę:=((Ť (Ù 7) ť<|Ŧ 0).seq<|İ 1<|(ä 2 X1 Ì).seq<|(ä 3 QB Ì).seq<|ä 4 vd Ò)
def AX:Ę:=(ä 1 yC Ì).seq Dj
def ahK:Array å:=#[⟨Â 2,ć 101<|Ù 0,101, "work.go:30",#[],Á⟩,
 ⟨Â 3,ć 25<|Ù 1,25, "work.go:30",#[],Á⟩,
 ⟨Â 4,Ě {callee:=ĕ (ĸ 51),args:=#[Ù 2,Ù 3],argTypes:=#[165,25]},0, "work.go:30",#[⟨0,Ü⟩,⟨1,Ü⟩],Á⟩]
def Gi(a b c d e:Ï):é:=(base 50).at ⟨#[a,b,c,d,e],[]⟩ [Ñ ahK [2]]
def X2(t:Array Ï)(a:List é):Ý:=G ((base 51).at ⟨t,[]⟩ [ö AX,ą AX,ô 0]) a
def yD(t:Array Ï)(a:List é):Ý:=G ((base 51).at ⟨t,[]⟩ [Ñ yC [0,1],ö Dj,ą AX,ô 0]) a
def J4(t:Array Ï)(a:List é):Ý:=G ((base 51).at ⟨t,[]⟩ [Ñ QB [],ö<|ä 4 vd Ò,ô 1,ą AX,ô 0]) a
def QC(t:Array Ï)(a:List é):Ý:=G ((base 51).at ⟨t,[]⟩ [Ñ yC [1],ö Dj,ą AX,ô 0]) a
def X3(t:Array Ï)(v:Ï)(a:List é):({yD t a with frame:=(yD t a).frame.finish v}:Ý)=QC (t.setIfInBounds 6 v) a:=by have:(yD t a).frame.finish v=(base 51).at (Ο ⟨t,[]⟩ (Â 6) v) [Ñ yC [1],ö Dj,ą AX,ô 0]:=Ģ _ _ _ _ _ _ _;rw[this];rfl
def zT:Ï:=Đ #[À Á,Ê Î 0,À Á,À Á]
structure QT(an N ch:Nat)(t:Array Ï):Prop where
 r:t.size=26
 C:t[1]?=Â (Æ (Â ⟨an,0,Á⟩) N N)
 I:t[5]?=Â (è<|Â ch)
def ahL(t:Array Ï)(h:t.size=26):∃a b c d e f g i j k l m n o p q r s u v w x y z B C:Ï,t=#[a,b,c,d,e,f,g,i,j,k,l,m,n,o,p,q,r,s,u,v,w,x,y,z,B,C]:=by obtain⟨_,rfl⟩:=u6 t h;exact⟨_,_,_,_,_,_,_,_,_,_,_,_,_,_,_,_,_,_,_,_,_,_,_,_,_,_,U⟩
section
variable{Ψ:ß->Prop}{J u:Jd}{l:fe}{t:Array Ï}{ch an N:Nat}{a:Option â}{Q:ByteArray->Prop}{o p r s c f:Ï}{τ:fe->fe}
def X4(a:j2 l)(b:fj Ä Ì J l (yD t qX)):fj Ä Ì J l (X2 t qX):=by apply gk (n:=5) a;have hF:=trivial;simp only[X2,AX];w_go fC;u_c ĺ fC hF;exact Ë λ_ _=>b
def ahM(a:j2 l)(d:¬l.q)(e:gW l ⟨k,0,Á⟩)(g:gW l ⟨b,0,Á⟩)(i:gW l ⟨n,0,Á⟩)(j:l.w.cell? ⟨k,0,Á⟩=Â (Ĉ (ù 50) #[] #[À<|Â ⟨b,0,Á⟩,À<|Â ⟨n,0,Á⟩]))(u:l.w.cell? ⟨b,0,Á⟩=Â (è<|Â ch))(v:l.w.cell? ⟨n,0,Á⟩=Â (Æ (Â ⟨an,0,Á⟩) N N)) (y:∀t o p r s x z jQ c f,QT an N ch t->fj Ä Ì J l (yD t [Gi x z jQ c f,yB m o p r s,nI Ä])): fj Ä Ì J l (born Ä<|oS 63 #[À<|Â ⟨m,0,Á⟩,À<|Â ⟨k,0,Á⟩] #[]):=by
 apply gk (n:=30) a;have hF:=trivial;u_c (XL Ů fW U) fC hF;walk_nrmf Κ;iterate 3 w_go fC
 u_c (XJ U U (by k_ne) U U) fC hF
 walk_nrm;repeat w_go fC
 refine Ë λ_ _=> ?_;apply nW U U (by k_ne) a d e j (λw h=>by go_simp) (λw h=>by simp[go_sem,h]);walk_nrm;apply gk (n:=30) a;u_c (XK U U (by k_ne) U U ű fW U) fC hF;walk_nrmf Tryz.f50;w_go fC;refine Ë λ_ _=> ?_;apply nW U U (by k_ne) a d g u (λw h=>by go_simp) (λw h=>by simp[go_sem,h]);walk_nrm;apply nW U U (by k_ne) a d i v (λw h=>by go_simp) (λw h=>by simp[go_sem,h]);walk_nrm;apply gk (n:=30) a;u_call Ų fW Tryz.f51 fC hF;iterate 6 w_go fC
 refine Ë λ_ _=> ?_;exact X4 a<|y _ _ _ _ _ _ _ _ _ _ ⟨U,U,U⟩
def ahN{Y:Ï}(G:gw l)(M:¬l.q)(P:l.d=0)(hT:QT an N ch t)(hB:60<=i)(ahO:Y=Đ #[À a,Ê Î j7,À<|Â ⟨j9,0,Á⟩,À O])(Q:l.K ⟨j9,0,Á⟩/\l.K ⟨j9,1,Á⟩)(Gj:ng j9 l.w) (QD:l.K ⟨j,0,Á⟩/\l.K ⟨j,1,Á⟩) (hsa:ng j l.w) (hs:gW l ⟨m,0,Á⟩) (hc:l.w.cell? ⟨m,0,Á⟩=Â (À<|Â ⟨j,0,Á⟩)) (ahP:∀H k t',iC fg l H->H.d=0->H.O k->H.w.cell? ⟨k,0,Á⟩=Â (À a)->H.w.cell? ⟨k,1,Á⟩=Â (Ê Î j7)->H.w.cell? ⟨k,2,Á⟩=Â (À<|Â ⟨j9,0,Á⟩)->QT an N ch t'->t'[4]?=Â (À<|Â ⟨k,0,Á⟩)->u H (J4 t' [Gi x z jQ c f,yB m o p r s,nI Ä])): vW Ä Ì ch zT (λb=>match b with
  |some v=>λl g=>v=Y->qg Ä Ì i j9 u .iW l g
  |none=>λl g=>xY Ä Ì j (CW Ä) (kr l) g) l (yD t [Gi x z jQ c f,yB m o p r s,nI Ä]):=by
 obtain⟨y0,y1,y2,y3,y4,y5,y6,y7,y8,y9,wC,yz,wD,qW,sd,qk,u7,u9,tM,tN,tO,se,sf,si,qR,rW,rfl⟩:=ahL t hT.r;obtain rfl:y1=Æ (Â ⟨an,0,Á⟩) N N:=by simpa using hT.C
 obtain rfl:y5=è (Â ch):=by simpa using hT.I
 have hF:=trivial;refine⟨U,U,λD=> ?_,λb=> ?_⟩
 .refine(Ż (cases:=#[rcase ch zT]) (blocking:=Ò) (shape:=.recv Ò) (w':=D) rfl rfl (by k_ne) ?_).trans ?_
  .simp[go_sem,yC,ĉ,rcase,zT]
  .simp[listed,go_sem,yC,ĉ,Ī];rfl
 cases b with
 |none=>
  rw[X3];simp only[QC,Dj,yC,Option.getD_none,ı,ē,Ĳ,ĳ];apply gk (n:=30) G.r;iterate 6 w_go fC
  u_leave0 Ų fC hF
  iterate 2 w_go fC
  u_leave0 ű fC hF
  refine Ë λ_ _=> ?_;exact XW (Ψ:=λ_=>True) QD ⟨Ã QD.1,Ã QD.2,λ_ _ _ _ _ _ _ _=>trivial⟩ ⟨G.r,hsa,trivial⟩ P M hs hc
 |some v=>
  by_cases hv:v=Y
  .subst hv;subst ahO;apply fj.fN λl g h _=>h;rw[X3];simp only[QC,Dj,yC,Ń,Option.isSome_some,ē,Ĳ,ĳ];apply gk (n:=30) G.r;iterate 7 w_go fC
   u_c ĺ fC hF
   simp only[X1,Ļ,ń,ŋ,ś,č,ã,List.range.loop];w_go fC;refine Ë λ_ _=> ?_;have qY:∀y:â,False->l.r y:=λy ha=>ha.elim;refine F7 (ob:=É #[À Á,Ê Î 0,À Á,À Á] 155) U U (by k_ne) G.r M (λw=>by go_simp) (λw=>by simp[go_sem]) λD mY=> ?_;walk_nrm;have S:iC fg l (gH l D<|É #[À Á,Ê Î 0,À Á,À Á] 155):=JY G qY mY;have nh:(gH l D<|É #[À Á,Ê Î 0,À Á,À Á] 155).w.heap[D.heap.size]?=Â (É #[À Á,Ê Î 0,À Á,À Á] 155):=ni;have sj:=mY.r;have I:(gH l D<|É #[À Á,Ê Î 0,À Á,À Á] 155).O D.heap.size:=Ç U;generalize gH l D (É #[À Á,Ê Î 0,À Á,À Á] 155)=l₁ at S nh I|-;generalize D.heap.size=k at nh I sj|-;refine uY U U (by k_ne) λC qZ=> ?_;have J:=(qZ.I k<|Ã I).trans nh;have Dk:C.cell? ⟨k,0,Á⟩=Â (À Á):=by simp[Ö,J]
   have yr:C.cell? ⟨k,1,Á⟩=Â (Ê Î 0):=by simp[Ö,J]
   have qn:C.cell? ⟨k,2,Á⟩=Â (À Á):=by simp[Ö,J]
   have tR:C.cell? ⟨k,3,Á⟩=Â (À Á):=by simp[Ö,J]
   have hz:∀g,C.frozen? ⟨k,g,Á⟩=Ì:=λg=>by simp[î,J]
   go_simp;refine⟨{l₁ with w:=iR C k (À a) (Ê Î j7) (À<|Â ⟨j9,0,Á⟩) (À O)},JZ (mq S.fv qZ) (by rwa[S.q]) I wB (λg F=>yw F) ⟨U,U,U⟩ λe L=> ?_,?_⟩
   .have E:=đ L;have B:∀g,pF l₁ ⟨k,g,Á⟩:=λg=>Ã I;simp[go_sem,á _ _ _ _ _ _ (show Ø (À a)=Ò from rfl),á _ _ _ _ _ _ (show Ø (À<|Â ⟨j9,0,Á⟩)=Ò from rfl),á _ _ _ _ _ _ (show Ø (À O)=Ò from rfl),Dk,yr,qn,tR,hz]at E;rcases E with rfl|rfl|rfl|rfl
    .exact(B _).r
    .exact(B _).r
    .exact(B _).r
    .exact(B _).r
   obtain⟨T,V,L,c3⟩:=Qt Dk yr qn tR;have E:=Qu (w':=iR C k (À a) (Ê Î j7) (À<|Â ⟨j9,0,Á⟩)<|À O) G qY S qZ sj wB λg F=>yw F;have W:({l₁ with w:=iR C k (À a) (Ê Î j7) (À<|Â ⟨j9,0,Á⟩) (À O)}:fe).O k:=I;replace T:({l₁ with w:=iR C k (À a) (Ê Î j7) (À<|Â ⟨j9,0,Á⟩) (À O)}:fe).w.cell? ⟨k,0,Á⟩=_:=T;replace V:({l₁ with w:=iR C k (À a) (Ê Î j7) (À<|Â ⟨j9,0,Á⟩) (À O)}:fe).w.cell? ⟨k,1,Á⟩=_:=V;replace L:({l₁ with w:=iR C k (À a) (Ê Î j7) (À<|Â ⟨j9,0,Á⟩) (À O)}:fe).w.cell? ⟨k,2,Á⟩=_:=L;generalize({l₁ with w:=iR C k (À a) (Ê Î j7) (À<|Â ⟨j9,0,Á⟩) (À O)}:fe)=l₂ at T V L E W|-;have X:=E.G G;have pH:¬l₂.q:=by rwa[E.q]
   apply gk (n:=9) X.r;iterate 2 w_go fC
   u_c ĺ fC hF
   simp only[QB,Ļ,ń,ŋ,ś,č,ã,List.range.loop];w_go fC;refine Ë λ_ _=> ?_;apply nW U U (by k_ne) X.r pH (Ã<|Ã W) L (λw h=>by go_simp) (λw h=>by simp[go_sem,h]);walk_nrm;apply gk (n:=9) X.r;iterate 2 w_go fC
   u_call qj.f_wait (nm_wait Lk) waitFn fC hF
   refine Ë λ_ _=> ?_;have k2:lT (λw=>fI l₂ l₂.w w) l₂ j9:=⟨Ã (by rw[E.K];exact Q.1),Ã (by rw[E.K];exact Q.2),λw D h1 h2 h3 h4 h5 h=>h.fh ⟨h1,h2,h3,h4,h5⟩⟩;have s2:SW (λw=>fI l₂ l₂.w w) l₂ j9 l₂.w:=⟨X.r,⟨E.b _ Q.1 Gj.1,E.b _ Q.2 Gj.2⟩,fI.fT _ _⟩;refine XG qj hB k2 s2 (E.d.trans P) λD X5=> ?_;walk_nrm;refine .fB λCV F=> ?_;have B:=E.N qY<|X5.2.2.fh ⟨F.r,F.I,F.N,F.Y,F.S⟩;have hdd:=E.d.trans P;have AY:iC fg l ({l₂ with d:=0,w:=CV}:fe):=⟨B.O,B.h,B.Y,B.I,B.c,B.K,B.q,P.symm,B.fv,B.f,B.r,B.e,B.S,B.b,B.g⟩;have rr:=X5.2.2.fh ⟨F.r,F.I,F.N,F.Y,F.S⟩;have cc:∀g,CV.cell? ⟨k,g,Á⟩=l₂.w.cell? ⟨k,g,Á⟩:=λg=>gL<|rr.I k<|Ã W;exact ahP {l₂ with d:=0,w:=CV} k _ AY U W ((cc 0).trans T) ((cc 1).trans V) ((cc 2).trans L) ⟨U,U,U⟩ U
  .exact .fB λ_ _ e=>absurd e hv
end
section
variable{J:Jd}{l:fe}{Q:ByteArray->Prop}
def ahQ(f:gw l)(C:¬l.q)(g:QT n i j d)(L:d[4]?=Â (À<|Â ⟨m,0,Á⟩))(M:l.O m) (N:l.w.cell? ⟨m,0,Á⟩=Â (À O)) (P:l.w.cell? ⟨m,1,Á⟩=Â (Ê Î k)) (S:l.w.cell? ⟨m,2,Á⟩=Â (À<|Â ⟨b,0,Á⟩)) (T:l.N ⟨b,2,Á⟩) (V:l.w.cell? ⟨b,2,Á⟩=Â v) (p:l.r ⟨n,k,Á⟩) (W:(l.w.cell? ⟨n,k,Á⟩).isSome=Ò) (X:l.w.frozen? ⟨n,k,Á⟩=Ì) (Y:k<i) (Qy:∀e,iC (λa=>a=⟨n,k,Á⟩) l e->∀D E,fj Ä Ì (λl'' g'=>l''.d=e.d/\∃F,g'=G (D.finish<|à F) E/\Q F) (lU e)<|G (Ă Ä 67 #[v,À O] Ğ)<|D::E) (hJ:∀e x H,iC (λa=>a=⟨n,k,Á⟩) l e->Q x->e.w.cell? ⟨n,k,Á⟩=Â (à x)->QT n i j H->J e (yD H qX)): fj Ä Ì J l (J4 d qX):=by
 have I:∀y:â,y=⟨n,k,Á⟩->l.r y:=λy ha=>by rwa[ha]
 have hF:=trivial;apply gk (n:=3) f.r;simp only[J4];w_go fC;refine Ë λ_ _=> ?_;refine Qi (II vd d (qm m b n i k (À O) v)<|Di l n k Q) f.r C (λo h=> ?_) (λs t a l c o u r=>ahJ f C g.r g.C L M N P S T V p W X Y Qy s t a l c o u r) λs t a kl u z B=> ?_
 .refine⟨ByteArray.empty,mK.G _ _ _,(iC.fT f.r).N I ⟨h.r,h.I,h.N,h.Y,h.S⟩,λq=> ?_,λq=> ?_⟩<;>exact absurd q A
 let⟨x,o,h⟩:=u;have K:∀c∈ã 13,t.getD c Ì=Ò:=by
  cases s
  .exact pG B z (ã 13) [] fW λc r=>by cases r
  .exact pG B z (ã 13) [] fW λc r=>by cases r
  .exact pG B z (ã 13) [] fW λc r=>by cases r
 have s:=h.r.G f;let⟨z,B⟩:=a;obtain rfl:B=[]:=o.M;apply gk (n:=9) s.r;iterate 3 w_go fC
 refine Ë λ_ _=> ?_;refine X4 s.r<|.fB λw₁ r=>(hJ {kl with w:=w₁} x z (h.r.N I r) (h.u5<|K 10 A) ((r.N _<|Ã<|by rwa[h.r.I]).trans<|h.I<|K 12 A) ⟨o.S.trans g.r,((o.C A).trans g.C),((o.C A).trans g.I)⟩)
end
structure gh(X:Nat->Prop)(l l':fe):Prop where
 O:∀j,l.O j->l'.O j
 c:∀j,l'.O j->l.O j\/l.w.heap.size<=j
 S:l'.I=l.I
 Y:l'.r=l.r
 b:l'.N=l.N
 K:l'.K=l.K
 q:l'.q=l.q
 d:l'.d=l.d
 fv:j2 l'
 I:l.w.heap.size<=l'.w.heap.size
 r:∀j,l.M j->¬X j->l'.w.heap[j]?=l.w.heap[j]?
 f:∀a,l.C a->l'.w.cell? a=l.w.cell? a
 g:∀a,l.C a->l'.w.frozen? a=l.w.frozen? a
 e:∀a,l.K a->(l.w.cell? a).isSome=Ò->(l'.w.cell? a).isSome=Ò
section
variable{l l' l'':fe}
theorem gh.fT(h:j2 l):gh X l l:=⟨λ_ h=>h,λ_ h=>Ã h,U,U,U,U,U,U,h,Ú _,λ_ _ _=>rfl,λ_ _=>rfl,λ_ _=>rfl,λ_ _ h=>h⟩
def gh.C(h:gh X l l'):l'.C=l.C:=by unfold fe.C;rw[h.Y,h.b]
def gh.M(h:gh X l l')(a:l.M b):l'.M b:=a.imp (h.O b)<|by rw[h.S];exact id
def gh.fh(h:gh X l l')(k:gh X l' l''):gh X l l'':=by have e:=h.C;exact⟨λj c=>k.O j<|h.O j c,λj c=>(k.c j c).elim (h.c j) λq=>Ç<|Õ h.I q,k.S.trans h.S,k.Y.trans h.Y,k.b.trans h.b,k.K.trans h.K,k.q.trans h.q,k.d.trans h.d,k.fv,Õ h.I k.I,λj c f=>(k.r j (h.M c) f).trans<|h.r j c f,λa b=>(k.f a<|by rwa[e]).trans<|h.f a b,λa b=>(k.g a<|by rwa[e]).trans<|h.g a b,λa b q=>k.e a (by rwa[h.K])<|h.e a b q⟩
def gh.G(h:gh X l l'){w₁:ß}(r:fI l' l'.w w₁):gh X l {l' with w:=w₁}:= h.fh ⟨λ_ q=>q,λ_ q=>Ã q,U,U,U,U,U,U,mq h.fv r,r.r,λj a _=>r.I j a,r.N,r.Y,r.S⟩
def gh.fN{a:Nat->Prop}(h:gh X l l')(c:∀j,l.M j->X j->a j):gh a l l':=⟨h.O,h.c,h.S,h.Y,h.b,h.K,h.q,h.d,h.fv,h.I,λj b e=>h.r j b λq=>e<|c j b q,h.f,h.g,h.e⟩
def gh.N(h:gh X l l')(s:gw l):gw l' where
 c b hb:=by
  rw[h.S];rcases h.c b hb with q|q
  .exact s.c b q
  .exact λz=>by have:=s.fv b<|Ç z;omega
 Y a ha:=by rw[h.b];exact s.Y a<|by rwa[<-h.Y]
 N a ha hb:=by
  rw[h.C]at ha;rcases hb with q|q
  .rcases h.c _ q with z|z
   .exact s.N a ha<|Ã z
   .have:=s.I a ha;omega
  .rw[h.S]at q;exact s.N a ha<|Ç q
 fv b hb:=by
  rcases hb with q|q
  .exact h.fv b q
  .rw[h.S]at q;exact È (s.fv b<|Ç q) h.I
 I a ha:=by rw[h.C]at ha;exact È (s.I a ha) h.I
 S a ha:=by
  rw[h.K]at ha;let⟨c,d,e⟩:=s.S a ha;refine⟨λq=> ?_,È d h.I,by rwa[h.Y]⟩;rcases q with q|q
  .rcases h.c _ q with z|z
   .exact c<|Ã z
   .omega
  .rw[h.S]at q;exact c<|Ç q
def nj{ob:Ÿ}(s:gw l){w₁:ß}(r:fI l l.w w₁):gh X l (gH l w₁ ob):=by have h:=JY (E:=fg) (ob:=ob) s (λ_ q=>q.elim) r;exact⟨h.O,h.h,h.Y,h.I,h.c,h.K,h.q,h.d,h.fv,h.f,λj b _=>h.r j b,λa c=>h.e a c id,h.S,h.b⟩
def J5{w':ß}{p:Nat}(s:gw l)(r:fI l l.w u)(c:l.O p)(g:X p)(d:w'.heap.size=u.heap.size)(b:∀j,j≠p->w'.heap[j]?=u.heap[j]?):gh X l {l with w:=w'}:=by
 have f:∀a:â,l.C a->a.block≠p:=λa h e=>s.N a h<|Ã<|e▸c;refine⟨λ_ q=>q,λ_ q=>Ã q,U,U,U,U,U,U,λj q=> ?_,?_,λj q n=>(b j λe=>n<|e▸g).trans<|r.I j q,λa q=>(gL<|b _<|f a q).trans<|r.N a q,λa q=>(vV<|b _<|f a q).trans<|r.Y a q,λa q z=> ?_⟩
 .show j<w'.heap.size;rw[d];exact È (s.fv j<|Ã q) r.r
 .show l.w.heap.size<=w'.heap.size;rw[d];exact r.r
 .show(w'.cell? a).isSome=Ò;rw[gL (b a.block λe=>(s.S a q).1<|Ã<|e▸c)];exact r.S a q z
end
section
variable{J:Jd}{l:fe}{a:ŏ}{k:List ŷ}{cs:List é}{ob:Ÿ}
def pJ{V:Nat->Ï}(c:Q[i]?=Â o)(d:Ė o (ţ Q a.tmps)=Ò)(e:f.kind≠Ź)(g:j2 l)(h:¬l.q) (j:∀w,(ĉ a.eval o).run P w=.ok (.value<|V w.heap.size) (w.alloc ob)) (m:∀w,(ĉ a.eval o).events P w #[]=#[]) (n:∀b,fI l l.w b->fj P yQ J (gH l b ob) (G (f.at (a.put o.dst<|V b.heap.size)<|Ñ Q jJ::k) cs)):fj P yQ J l (G (f.at a<|Ñ Q (i::jJ)::k) cs):=by
 refine uY c d e λb r=> ?_;rw[j b];refine⟨_,?_,n b r⟩;have:listed P f.fn a o b=#[]:=by unfold listed;rw[m b,Ī]
 rw[this];exact XY (mq g r) h
def Gk{p off:Nat}{u:Ï}(m:Q[i]?=Â o)(n:Ė o (ţ Q a.tmps)=Ò)(s:f.kind≠Ź)(t:j2 l)(x:¬l.q)(b:l.O p)(d:l.w.cell? ⟨p,off,Á⟩=Â u)(y:l.w.frozen? ⟨p,off,Á⟩=Ì)(z:o.dst=Á) (B:∀w,w.cell? ⟨p,off,Á⟩=Â u->w.frozen? ⟨p,off,Á⟩=Ì->(ĉ a.eval o).run P w=.ok .skip (w.setCell ⟨p,off,Á⟩ v)) (C:∀w,w.cell? ⟨p,off,Á⟩=Â u->w.frozen? ⟨p,off,Á⟩=Ì->(ĉ a.eval o).events P w #[]=#[⟨û ⟨p,off,Á⟩,Ò,Ì⟩]) (D:fj P yQ J {l with w:=l.w.setCell ⟨p,off,Á⟩ v} (G (f.at a<|Ñ Q jJ::k) cs)):fj P yQ J l (G (f.at a<|Ñ Q (i::jJ)::k) cs):=by
 have E:gW l ⟨p,off,Á⟩:=Ã<|Ã b;refine uY m n s λg r=> ?_;have c:=(E.r r).trans d;have j:=(vV<|r.I p<|Ã b).trans y;rw[B g c j];refine⟨_,XS U (mq t r) x (Ã b) λe h=> ?_,?_⟩
 .have:=đ h;rw[C g c j]at this;have:e=⟨û ⟨p,off,Á⟩,Ò,Ì⟩:=by simpa using this
  subst this;exact pF.r<|Ã b
 .have:(a.put o.dst Å)=a:=by rw[z];rfl
  rw[this];exact D.jS<|yn<|XR U (by rw[d];rfl) (by rw[c];rfl) r
def mr(l:fe)(w₁ a:ß):fe:={l with O:=λf=>l.O f\/(w₁.heap.size<=f/\f<a.heap.size),w:=a}
def J6(s:gw l){w₁:ß}(r:fI l l.w w₁){a:Option Nat}(d:w₁.grownBy u a)(c:∀k,a=Â k->l.O k/\X k):gh X l (mr l w₁ u):=by
 have i:=r.r;have m:=d.size;have b:∀j,j<l.w.heap.size->Â j≠a->u.heap[j]?=w₁.heap[j]?:=λj o g=>d.block j Z g;have f:∀x:â,l.C x->Â x.block≠a:=λx h e=>s.N x h<|Ã (c _ e.symm).1;refine⟨λ_ q=>Ã q,λj q=>q.imp id λz=>by omega,U,U,U,U,U,U,λj q=> ?_,?_,λj q n=>(b j (s.fv j q) λe=>n (c j e.symm).2).trans<|r.I j q,λx q=>(gL<|b _ (s.I x q)<|f x q).trans<|r.N x q,λx q=>(vV<|b _ (s.I x q)<|f x q).trans<|r.Y x q,λx q z=> ?_⟩
 .show j<u.heap.size;rcases q with q|q
  .have:=s.fv j<|Ã q;omega
  .exact q.2
 .show l.w.heap.size<=u.heap.size;omega
 .show(u.cell? x).isSome=Ò;rw[gL (b x.block (s.S x q).2.1 λe=>(s.S x q).1<|Ã (c _ e.symm).1)];exact r.S x q z
def nJ{w₁:ß}{sz:Nat}{xs:List Ï}(h:w.ownsRow i e sz v n xs)(a:∀k,v.ownBlock=Â k->w₁.heap[k]?=w.heap[k]?):w₁.ownsRow i e sz v n xs:=by refine⟨h.1,h.2.imp id ?_⟩;rintro⟨g,b,c,rfl,d,f,j⟩;exact⟨g,b,c,U,d,(a g U).trans f,j⟩
def X6{p:Nat}{u:Ï}(h:w.cell? ⟨p,0,Á⟩=Â u):∀j y,[u][j]?=Â y->w.cell? ⟨p,j,Á⟩=Â y
 |0,_,e=>Ó e▸h
 |_+1,_,e=>by cases e
def ahR{s a:List Ï}(h:P.underlying t=Â (.slice e))(k:P.info? e=Â zJ)(B:zJ.zero=Â z)(l:zJ.size=m)(C:a.length=m)(F:(n+1)*zJ.bytes<=140737488355328)(G:n+1<=œ) (o:w.ownsRow 0 e m v n s) (p:∀j y,a[j]?=Â y->w.cell? ((⟨b,0,Á⟩:â).add j)=Â y) (H:∀u∈a,u.oneCell'=Ò) (d:(Builtin.append_ #[t,t] T #[v,Æ (Â ⟨b,0,Á⟩) 1 i]).run P w=.ok x W):x.ownBlock=v.ownBlock\/x.ownBlock=Â w.heap.size:=by
 have q:a.length=1*zJ.size:=by rw[l,C];omega
 have L:n+1<=9223372036854775807:=by simp only[œ]at G;omega
 rcases o.2 with⟨rfl,rfl⟩|⟨g,r,D,rfl,_,I,M,N,J,O⟩
 .have f:=run_append_nil (P:=P) w t T e zJ z h k B ⟨b,0,Á⟩ 1 i a q p Z Z Z;rw[f]at d;cases d;exact Ç U
 .by_cases E:n+1<=r
  .have K:n*zJ.size+a.length<=D.size:=by
    rw[J,l,C,show n*m+m=(n+1)*m by rw[Nat.add_mul];omega];exact Nat.mul_le_mul_right _ E
   have f:=run_append_room (P:=P) w t T e zJ h k g n r D I ⟨b,0,Á⟩ 1 i a q p H E K;rw[f]at d;cases d;exact Ã U
  .have f:=run_append_grow (P:=P) w t T e zJ z h k B ⟨g,0,Á⟩ n r s (by rw[l];exact o.1) (o.cells (g:=g) U) ⟨b,0,Á⟩ 1 i a q p Z Z<|growslice_fits Z F;rw[f]at d;cases d;exact Ç U
theorem J7{x:Ĥ}{inf:Ž}{c px sz:Nat}{xs us:List Ï}(ho:Q[i]?=Â o)(hw:Ė o (ţ Q a.tmps)=Ò)(hk:f.kind≠Ź)(sn:gw l)(hq:¬l.q) (V:o.op=Ě {callee:=Ŕ .append,args:=#[qQ,x],argTypes:=#[t,t]}) (W:a.eval qQ=v) (X:a.eval x=Æ (Â ⟨px,0,Á⟩) 1 c) (E:P.underlying t=Â (.slice e)) (F:P.info? e=Â inf) (H:inf.zero=Â z) (I:inf.size=sz) (j1:0<sz) (J8:us.length=sz) (rf:z.cells.size=sz) (K:(n+1)*inf.bytes<=140737488355328) (L:n+1<=œ) (ll:l.w.ownsRow 0 e sz v n xs) (C:∀k,v.ownBlock=Â k->l.O k) (X7:l.O px) (hu:∀j u,us[j]?=Â u->l.w.cell? ⟨px,j,Á⟩=Â u) (d:∀u∈us,u.oneCell'=Ò) (hn:∀b B g,fI l l.w b->g.ownsRow 0 e sz B (n+1) (xs++us)->b.grownBy g v.ownBlock->(∀k,B.ownBlock=Â k->(mr l b g).O k)->(B.ownBlock=v.ownBlock\/B.ownBlock=Â b.heap.size)->fj P yQ J (mr l b g) (G (f.at (a.put o.dst B)<|Ñ Q jJ::k) cs)): fj P yQ J l (G (f.at a<|Ñ Q (i::jJ)::k) cs):=by
 refine uY ho hw hk λb r=> ?_;have hM:∀k,l.O k->b.heap[k]?=l.w.heap[k]?:=λk q=>r.I k<|Ã q;have M:=nJ ll (w₁:=b) λk q=>hM k<|C k q;have N:∀j w,us[j]?=Â w->b.cell? ((⟨px,0,Á⟩:â).add j)=Â w:=λj w h=>by rw[ğ,č];grind [gL]
 have Y:us.length=1*sz:=Z
 let⟨B,g,iI,hown',p,yA⟩:=run_append_own (P:=P) b 0 t o.type e inf z sz inf.bytes E F H I U rf j1 v n xs M ⟨px,0,Á⟩ 1 c us Y N d L K<|ă _;have rh:=ahR E F H I J8 K L M N d iI;refine uponK_append qQ x t V W X iI ⟨mr l b g,?_,hn b B g r hown' p (λk q=> ?_) rh⟩
 .have he:∀D∈listed P f.fn a o b,wz (mr l b g) D:=λD S=>by
   have h2:=đ S;rw[events_append_op qQ x t V W X]at h2;rcases(events_append_where (P:=P) b 0 t o.type e inf z sz inf.bytes E F H I rfl v n xs M ⟨px,0,Á⟩ 1 c us Y N d L K) D h2 with⟨ad,T,y⟩|⟨m,rfl,ahS⟩
   .refine⟨Ã ⟨ad,T,Ã ?_⟩,by rw[T];simp,by rw[T];simp⟩;rcases y with⟨_,y⟩|y
    .exact Ã<|by rwa[y]
    .exact Ã<|C _ y.symm
   .have tf:m=.noRoom:=ahS;subst tf;exact⟨Ç<|Ã U,fp,fp⟩
  refine⟨p.size,λj q=>q.imp id λz=>z.1,λj q=> ?_,U,U,U,U,λj T d _=>p.block j T λe=>d<|C j e.symm,λy m d _=>gL (p.block _ m λe=>d<|C _ e.symm),λy m d=>vU (p.block _ m λe=>d<|C _ e.symm),p.os,p.output,p.tape,λD S=>(he D S).1,(JQ he _).symm,U,λq=>absurd q hq,U⟩;rcases q with q|q
  .exact È ((mq sn.r r) j q) p.size
  .exact q.2
 .have y:k<g.heap.size:=(hown'.lt k q).2;rcases rh with m|m
  .exact Ã<|C k<|by rwa[<-m]
  .rw[m]at q;obtain rfl:=Ó q;exact Ç ⟨Ú _,y⟩
end
def X8:Array å:=#[⟨Â 25,Ş (ù 48) #[] #[Ù 9,Ù 8],1, "work.go:24",#[],Á⟩,⟨Â 26,Ě {callee:=ĕ<|ĸ 47,args:=#[Ù 12,Ù 25],argTypes:=#[97,1]},0, "work.go:24",#[⟨0,Ü⟩],Á⟩]
def X9:Array å:=#[⟨Â 13,ŧ<|Ũ<|Æ Á 0 0,100, "work.go:25",#[],Á⟩]
def Ya:Array å:=#[⟨Â 27,ę<|Ù 2,3, "work.go:26",#[],Á⟩,⟨Â 28,ę<|Ũ<|Ê Î 0,3, "work.go:26",#[],Á⟩]
def QF:Array å:=#[⟨Â 29,Λ .lss 3 (Ù 28) (Ù 27) 3,4, "work.go:26",#[],Á⟩]
def Yb:Array å:=#[⟨Â 30,ę<|Ù 10,85, "work.go:28",#[],Á⟩,⟨Â 31,Ě {callee:=Ŕ .len,args:=#[Ù 30],argTypes:=#[85]},3, "work.go:28",#[⟨0,Ü⟩],Á⟩,⟨Â 32,.makeChan 101<|Ù 31,101, "work.go:28",#[⟨1,Ü⟩],Á⟩,⟨Â 14,.alloc 101,0, "work.go:28",#[],Á⟩,⟨Á,š 101 (Ù 14)<|Ù 32,0, "work.go:28",#[⟨3,Ü⟩,⟨2,Ü⟩,⟨0,Í⟩,⟨1,Í⟩,⟨2,Í⟩,⟨3,Í⟩],Á⟩]
def Yc:Array å:=#[⟨Â 33,ę<|Ù 13,100, "work.go:29",#[],Á⟩,⟨Â 34,ć 101<|Ù 14,101, "work.go:29",#[],Á⟩,⟨Â 35,.buildSlice 100 1 #[(0,Ù 34)],100, "work.go:29",#[⟨1,Ü⟩],Á⟩,⟨Â 36,Ě {callee:=Ŕ .append,args:=#[Ù 33,Ù 35],argTypes:=#[100,100]},100, "work.go:29",#[⟨0,Ü⟩,⟨2,Ü⟩],Á⟩,⟨Â 13,ŧ<|Ù 36,100, "work.go:29",#[⟨3,Ü⟩,⟨3,Ţ⟩,⟨0,Í⟩,⟨1,Í⟩,⟨2,Í⟩,⟨3,Í⟩],Á⟩]
def J9:Array å:=#[⟨Â 37,Ş (ù 50) #[] #[Ù 14,Ù 8],1, "work.go:30",#[],Á⟩,⟨Â 38,Ě {callee:=ĕ<|ĸ 47,args:=#[Ù 12,Ù 37],argTypes:=#[97,1]},0, "work.go:30",#[⟨0,Ü⟩],Á⟩]
def QG:Array å:=#[⟨Â 39,Λ .add 3 (Ù 28) (Ũ<|Ê Î 1) 3,3, "work.go:26",#[],Á⟩,⟨Â 28,ę<|Ù 39,3, "work.go:26",#[⟨0,Ü⟩],Á⟩]
def Ka:Array å:=#[⟨Â 40,ę<|Ù 10,85, "work.go:32",#[],Á⟩,⟨Â 41,ę<|Ù 13,100, "work.go:32",#[],Á⟩,⟨Â 42,Ě {callee:=ĕ<|ĸ 52,args:=#[Ù 40,Ù 41],argTypes:=#[85,100]},0, "work.go:32",#[⟨0,Ü⟩,⟨1,Ü⟩],Á⟩]
def Kb:Array å:=#[⟨Â 43,Ě {callee:=ĕ<|ĸ 53,args:=#[Ù 12],argTypes:=#[97]},0, "work.go:33",#[],Á⟩]
def Gl:å:=⟨Â 44,ć 25<|Ù 8,25, "work.go:34",#[],Á⟩
def Gm:å:=⟨Â 45,ę<|Ù 11,86, "work.go:34",#[{on:=5,ground:=õ Ð}],Á⟩
def Gn:å:=⟨Â 46,ĩ<|Ù 45,0, "work.go:34",#[⟨1,Ü⟩,{on:=5,ground:=õ Ð}],Á⟩
def Gp:å:=⟨Â 47,ð 105 (Ù 46) 1,0, "work.go:34",#[⟨2,Ü⟩,{on:=5,ground:=õ Ð}],Á⟩
def Gq:å:=⟨Â 48,ć 65<|Ù 47,65, "work.go:34",#[⟨3,Ü⟩,{on:=5,ground:=õ Ð}],Á⟩
def Gr:å:=⟨Â 6,ŧ<|Ù 44,25, "work.go:34",#[⟨0,Ü⟩,⟨0,Í⟩,{on:=1,ground:=Þ Ð},{on:=2,ground:=Þ Ð},{on:=3,ground:=Þ Ð},{on:=4,ground:=Þ Ð}],Á⟩
def Gs:å:=⟨Â 7,ŧ<|Ù 48,65, "work.go:34",#[⟨4,Ü⟩,⟨5,Ţ⟩,⟨0,Í⟩,⟨1,Í⟩,⟨2,Í⟩,⟨3,Í⟩,⟨4,Í⟩,⟨5,Í⟩],Á⟩
def wG:Array å:=#[Gl,Gm,Gn,Gp,Gq,Gr,Gs]
def Ke:Ę:=(ä 14 wG Ò).seq Ρ
def Kf:Ę:=(ä 12 Ka Ì).seq<|(ä 13 Kb Ì).seq Ke
def Dl:Ę:=(ä 7 QF Ì).seq<|(Ť (Ù 29) ť<|Ŧ 0).seq<|(İ 1<|(ä 8 Yb Ì).seq<|(ä 9 Yc Ì).seq<|ä 10 J9 Ì).seq<|ä 11 QG Ì
def sA:Ę:=(ä 5 X9 Ì).seq<|((ä 6 Ya Ì).seq<|İ 0 Dl.loop).seq Kf
def AZ(t:Array Ï)(a:List é):Ý:=G ((base 37).at ⟨t,[]⟩ [ö Dl,ą Dl,ô 0,ö Kf]) a
def Dm(t:Array Ï):é:=(base 37).at ⟨t,[]⟩ [Ñ X8 [1],ö sA]
def Kg(t:Array Ï):é:=(base 37).at ⟨t,[]⟩ [Ñ J9 [1],ô 1,ö<|ä 11 QG Ì,ą Dl,ô 0,ö Kf]
def Gt:Array å:=#[⟨Â 6,Ş (ù 63) #[] #[Ù 2,Ù 3],1, "waitgroup.go:238",#[],Á⟩,
 ⟨Á,.go {callee:=ĕ (Ù 6),args:=#[],argTypes:=#[]},0, "waitgroup.go:238",#[⟨0,Ü⟩],Á⟩]
def tG(c d e f:Ï)(a b:Nat):Array Ï:=#[c,d,À<|Â ⟨a,0,Á⟩,À<|Â ⟨b,0,Á⟩,e,f,Ĉ (ù 63) #[] #[À<|Â ⟨a,0,Á⟩,À<|Â ⟨b,0,Á⟩]]
def A0(a b c d:Ï)(e f:Nat)(g:List é):Ý:=G ((base 47).at ⟨tG a b c d e f,[]⟩ [Ñ Gt [1]]) g
def Gu(a b c d:Ï)(e f:Nat)(g:List é):Ý:=G ((base 47).at ⟨tG a b c d e f,[]⟩ [Ñ Gt []]) g
def Yd(c e f g:Ï)(a b:Nat)(h:List é)(w:ß):stepG Ä Ò (A0 c e f g a b h) w=.spawn (Gu c e f g a b h) (born Ä<|oS 63 #[À<|Â ⟨a,0,Á⟩,À<|Â ⟨b,0,Á⟩] #[]) w #[]:=by
 refine(stepG_spawn (d:=oS 63 #[À<|Â ⟨a,0,Á⟩,À<|Â ⟨b,0,Á⟩] #[]) (w':=w) U U (by k_ne) ?_ U).trans ?_
 .simp[Gt,ĉ,ſ,ě,ĥ,tG,oS]
 .have:listed Ä (base 47).fn ⟨tG c e f g a b,[]⟩ Gt[1] w=#[]:=by
   unfold listed;simp[Gt,ĉ,ſ,ě,ĥ,tG,Ī]
  rw[this];rfl
structure ST(ba all nK n j:Nat)(qs dv:Ï)(t:Array Ï):Prop where
 r:t.size=49
 a:t[8]?=Â (À<|Â ⟨ba,0,Á⟩)
 C:t[10]?=Â qs
 I:t[11]?=Â (À<|Â ⟨nK,0,Á⟩)
 M:t[12]?=Â (À<|Â ⟨all,0,Á⟩)
 N:t[13]?=Â dv
 S:t[27]?=Â (Ê Î n)
 Y:t[28]?=Â (Ê Î j)
structure Gv(ba all nK n:Nat)(qs:Ï)(t:Array Ï):Prop where
 Cx:t.size=49
 t2:t[2]?=Â (Ê Î n)
 t8:t[8]?=Â (À<|Â ⟨ba,0,Á⟩)
 ahT:t[10]?=Â qs
 ahU:t[11]?=Â (À<|Â ⟨nK,0,Á⟩)
 QH:t[12]?=Â (À<|Â ⟨all,0,Á⟩)
def Gw(t:Array Ï)(h:t.size=49):∃a b c d e f g i j k l m n o p q r s u v w x y z B C D E F G H I J K L M N O P Q S T V W X Y pD pE wy:Ï,t=#[a,b,c,d,e,f,g,i,j,k,l,m,n,o,p,q,r,s,u,v,w,x,y,z,B,C,D,E,F,G,H,I,J,K,L,M,N,O,P,Q,S,T,V,W,X,Y,pD,pE,wy]:=by obtain⟨_,rfl⟩:=u6 t h;exact⟨_,_,_,_,_,_,_,_,_,_,_,_,_,_,_,_,_,_,_,_,_,_,_,_,_,_,_,_,_,_,_,_,_,_,_,_,_,_,_,_,_,_,_,_,_,_,_,_,_,U⟩
section
variable{Ψ:ß->Prop}{J a:Jd}{l:fe}{t:Array Ï}{ba all nK:Nat}{qs dv:Ï}
def ahV(d:j2 l)(a:Gv ba all nK n qs t)(e:∀c,ST ba all nK n 0 qs (Æ Á 0 0) c->fj Ä Ò J l (AZ c qX)):fj Ä Ò J l (Gu v x z jQ b i<|Dm t::qX):=by
 obtain⟨m,o,f,p,q,r,s,u,g,w,h,j,k,y,B,C,D,E,F,G,H,I,K,L,M,N,O,P,Q,S,T,V,W,X,Y,qT,qU,tu,tw,tx,tA,tB,tC,tD,tE,tF,pD,pE,wy,rfl⟩:=Gw t a.Cx;obtain rfl:f=Ê Î n:=by simpa using a.t2
 obtain rfl:g=À (Â ⟨ba,0,Á⟩):=by simpa using a.t8
 obtain rfl:h=qs:=by simpa using a.ahT
 obtain rfl:j=À (Â ⟨nK,0,Á⟩):=by simpa using a.ahU
 obtain rfl:k=À (Â ⟨all,0,Á⟩):=by simpa using a.QH
 apply gk (n:=40) d;have hF:=trivial;simp only[Gu,Dm,X8];iterate 2 w_go fC
 u_leave0 Ħ fC hF
 simp only[sA,X9,Ya];iterate 13 w_go fC
 refine Ë λ_ _=> ?_;exact e _ ⟨U,U,U,U,U,U,U,U⟩
theorem ahW(d:j2 l)(a:ST ba all nK n j qs dv t)(q:j<1000)(e:∀c,ST ba all nK n (j+1) qs dv c->fj Ä Ò J l (AZ c qX)):fj Ä Ò J l (Gu v x z jQ b i<|Kg t::qX):=by
 obtain⟨r,s,u,w,y,B,C,D,f,E,g,h,k,m,F,G,H,I,K,L,M,N,O,P,Q,S,T,o,p,V,W,X,Y,rX,rY,qT,qU,tu,tw,tx,tA,tB,tC,tD,tE,tF,pD,pE,wy,rfl⟩:=Gw t a.r;obtain rfl:f=À (Â ⟨ba,0,Á⟩):=by simpa using a.a
 obtain rfl:g=qs:=by simpa using a.C
 obtain rfl:h=À (Â ⟨nK,0,Á⟩):=by simpa using a.I
 obtain rfl:k=À (Â ⟨all,0,Á⟩):=by simpa using a.M
 obtain rfl:m=dv:=by simpa using a.N
 obtain rfl:o=Ê Î n:=by simpa using a.S
 obtain rfl:p=Ê Î j:=by simpa using a.Y
 apply gk (n:=40) d;have hF:=trivial;simp only[Gu,Kg,J9];iterate 2 w_go fC
 u_leave0 Ħ fC hF
 simp only[QG];iterate 7 w_go fC
 refine Ë λ_ _=> ?_;refine e _ ⟨U,U,U,U,U,U,U,?_⟩;simp;grind [AS]
end
section
variable{l l' y:fe}
def gh.gf(h:gh X l l')(s:gw l){p off:Nat}(c:l.w.heap.size<=p):gh X l {l' with w:=l'.w.setCell ⟨p,off,Á⟩ v}:=by
 have b:∀j,j<l.w.heap.size->(l'.w.setCell ⟨p,off,Á⟩ v).heap[j]?=l'.w.heap[j]?:=λj e=>kX (by show j≠p;omega);refine⟨h.O,h.c,h.S,h.Y,h.b,h.K,h.q,h.d,λj q=> ?_,?_,λj q n=>(b j<|s.fv j q).trans<|h.r j q n,λa q=>(gL<|b _<|s.I a q).trans<|h.f a q,λa q=>rR.trans<|h.g a q,λa q z=>xW<|h.e a q z⟩
 .show j<(l'.w.setCell ⟨p,off,Á⟩ v).heap.size;rw[jP];exact h.fv j q
 .show l.w.heap.size<=(l'.w.setCell ⟨p,off,Á⟩ v).heap.size;rw[jP];exact h.I
structure hD(l:fe)(b:Nat)(o:Ÿ):Prop where
 fq:l.O b
 I:l.w.heap[b]?=Â o
def hD.r{o:Ÿ}(h:hD l b o)(k:gh X l l')(a:¬X b):hD l' b o:=⟨k.O b h.fq,(k.r b (Ã h.fq) a).trans h.I⟩
def hD.C(h:hD l b (É d e xJ))(a:d[i]?=Â v):l.w.cell? ⟨b,i,Á⟩=Â v:=by simp[Ö,h.I,a]
end
def Ye{sz:Nat}{xs:List Ï}(h:w.ownsRow i e sz v n xs)(a:w.heap.size<=b):¬(Â b=v.ownBlock):=λq=>by have:=(h.lt b q.symm).2;omega
structure Yf(ba all q:Nat)(A1:Ï)(xs:List Ï)(ch bd bw bf:Nat)(l':fe):Prop where
 S:l'.w.ownsRow 0 101 1 A1 xs.length xs
 M:∀k,A1.ownBlock=Â k->l'.O k
 r:hD l' ch (ŕ q #[] Ì 0 0 Ì)
 C:hD l' bd (É #[è<|Â ch] 101)
 N:hD l' bw (É #[À<|Â ⟨all,0,Á⟩] 162)
 I:hD l' bf (É #[Ĉ (ù 50) #[] #[À<|Â ⟨bd,0,Á⟩,À<|Â ⟨ba,0,Á⟩]] 1)
section
variable{g:Jd}{l:fe}{ba all q:Nat}{f:Option â}{xs:List Ï}
def ahX(t:gw l)(E:¬l.q)(hd:l.d=0)(F:ST ba all m n j (Æ f q i) x d)(uV:j<n)(hn:n<1000)(A2:q<1000)(Kh:l.K ⟨all,0,Á⟩/\l.K ⟨all,1,Á⟩)(Gj:ng all l.w) (ll:l.w.ownsRow 0 101 1 x j xs) (hO:∀k,x.ownBlock=Â k->l.O k) (hJ0:∀l' t' a r y Q B v1,gh (λb=>Â b=x.ownBlock) l l'->ST ba all m n j (Æ f q i) B t'->Yf ba all q B (xs++[è<|Â a]) a r y Q l'->l.w.heap.size<=a->a<r->r<y->y<Q->(∀k,B.ownBlock=Â k->k≠a/\k≠r/\k≠y/\k≠Q)->g l' (A0 (À<|Â ⟨all,0,Á⟩) v1 (À<|Â ⟨all,0,Á⟩) (ñ #[]) y Q<|Kg t'::qX)): fj Ä Ò (JP Ä Ò all g) l (AZ d qX):=by
 obtain⟨y0,y1,y2,y3,y4,y5,y6,y7,y8,y9,wC,yz,wD,qW,sd,qk,u7,u9,tM,tN,tO,se,sf,si,qR,rW,qS,oR,nV,pA,pB,pC,tq,rX,rY,qT,qU,tu,tw,tx,tA,tB,tC,tD,tE,tF,pD,pE,wy,rfl⟩:=Gw d F.r;obtain rfl:y8=À (Â ⟨ba,0,Á⟩):=by simpa using F.a
 obtain rfl:wC=Æ f q i:=by simpa using F.C
 obtain rfl:yz=À (Â ⟨m,0,Á⟩):=by simpa using F.I
 obtain rfl:wD=À (Â ⟨all,0,Á⟩):=by simpa using F.M
 obtain rfl:x=qW:=(show qW=x by simpa using F.N).symm;obtain rfl:oR=Ê Î n:=by simpa using F.S
 obtain rfl:nV=Ê Î j:=by simpa using F.Y
 have asG:(j:Int)<(n:Int):=Z
 have hF:True:=trivial;apply gk (n:=40) t.r;simp only[AZ,Dl,QF,Yb];repeat w_go fC
 refine Ë λ_ _=> ?_;have Dn:Ä.info? 155=Â Ą:=ļ;refine pJ (V:=λp=>è<|Â p) (ob:=ŕ q #[] Ì 0 0 Ì) U U (by k_ne) t.r E (λw=> ?_) (λw=> ?_) λJ mY=> ?_
 .have C:=run_makeChan (P:=Ä) (w:=w) Ĵ Dn Î q Z (by simp[Ą];omega);go_simp
 .simp[go_sem,(events_makeChan (P:=Ä) (w:=w) Ĵ Dn Î q Z (by simp[Ą];omega) #[])]
 walk_nrm;have tP:gh fg l (gH l J<|ŕ q #[] Ì 0 0 Ì):=nj t mY;have c1:hD (gH l J<|ŕ q #[] Ì 0 0 Ì) J.heap.size (ŕ q #[] Ì 0 0 Ì):=⟨Ç U,ni⟩;have Yg:l.w.heap.size<=J.heap.size:=mY.r;generalize gH l J (ŕ q #[] Ì 0 0 Ì)=l₁ at tP c1|-;generalize J.heap.size=a at c1 Yg|-;have wH:=tP.N t;have Yh:¬l₁.q:=by rwa[tP.q]
 refine pJ (V:=λp=>À<|Â ⟨p,0,Á⟩) (ob:=É #[è Á] 101) U U (by k_ne) wH.r Yh (λw=>by go_simp) (λw=>by simp[go_sem]) λS qZ=> ?_;walk_nrm;have Gx:gh fg l (gH l₁ S<|É #[è Á] 101):=tP.fh<|nj wH qZ;have c2:=c1.r (nj (X:=fg) (ob:=É #[è Á] 101) wH qZ) id;have G:hD (gH l₁ S<|É #[è Á] 101) S.heap.size (É #[è Á] 101):=⟨Ç U,ni⟩;have IL:a<S.heap.size:=È (wH.fv a<|Ã c1.fq) qZ.r;generalize gH l₁ S (É #[è Á] 101)=l₂ at Gx c2 G|-;generalize S.heap.size=r at G IL|-;clear c1 tP Yh wH qZ l₁;have re:=Gx.N t;have pH:¬l₂.q:=by rwa[Gx.q]
 refine Gk (p:=r) (off:=0) (v:=è<|Â a) (u:=è Á) U U (by k_ne) re.r pH G.fq (G.C U) (by simp[î,G.I]) U (λw o s=>by go_simp) (λw o s=>by simp[go_sem,o,s]) ?_;have L:gh fg l {l₂ with w:=l₂.w.setCell ⟨r,0,Á⟩ (è<|Â a)}:=Gx.gf t Z;have c3:hD {l₂ with w:=l₂.w.setCell ⟨r,0,Á⟩ (è<|Â a)} a (ŕ q #[] Ì 0 0 Ì):=⟨c2.fq,(kX<|by show a≠r;omega).trans c2.I⟩;have T:hD {l₂ with w:=l₂.w.setCell ⟨r,0,Á⟩ (è<|Â a)} r (É #[è<|Â a] 101):=⟨G.fq,by show(l₂.w.setCell ⟨r,0,Á⟩<|è<|Â a).heap[r]?=_;unfold þ;simp[í,G.I]⟩;generalize({l₂ with w:=l₂.w.setCell ⟨r,0,Á⟩ (è<|Â a)}:fe)=kl at L c3 T|-;clear c2 G Gx re pH l₂;have M:=L.N t;have wE:¬kl.q:=by rwa[L.q]
 have Dp:∀k,x.ownBlock=Â k->kl.O k:=λk e=>L.O k<|hO k e;have Ki:kl.w.ownsRow 0 101 1 x j xs:=nJ ll λk e=>L.r k (Ã<|hO k e) id;apply gk (n:=10) M.r;simp only[Yc,J9];iterate 4 w_go fC
 refine Ë λ_ _=> ?_;apply nW (x:=⟨r,0,Á⟩) U U (by k_ne) M.r wE (Ã<|Ã T.fq) (T.C U) (λw h=>by go_simp) (λw h=>by simp[go_sem,h]);walk_nrm;refine pJ (V:=λp=>Æ (Â ⟨p,0,Á⟩) 1 1) (ob:=É #[è<|Â a] 101) U U (by k_ne) M.r wE (λw=>by go_simp) (λw=>by simp[go_sem]) λH ve=> ?_;walk_nrm;have AY:gh fg l (gH kl H<|É #[è<|Â a] 101):=L.fh<|nj M ve;have k4:=nj (X:=fg) (ob:=É #[è<|Â a] 101) M ve;have c4:=c3.r k4 id;have d4:=T.r k4 id;have W:hD (gH kl H<|É #[è<|Â a] 101) H.heap.size (É #[è<|Â a] 101):=⟨Ç U,ni⟩;have X7:r<H.heap.size:=È (M.fv r<|Ã T.fq) ve.r;have wI:∀k,x.ownBlock=Â k->(gH kl H<|É #[è<|Â a] 101).O k:=λk e=>Ã<|Dp k e;have A3:=nJ Ki (w₁:=(gH kl H<|É #[è<|Â a] 101).w) λk e=>k4.r k (Ã<|Dp k e) id;generalize gH kl H (É #[è<|Â a] 101)=l₄ at AY c4 d4 W wI A3|-;generalize H.heap.size=px at W X7|-;clear c3 T L M wE Dp Ki k4 ve kl;have yE:=AY.N t;have A4:¬l₄.q:=by rwa[AY.q]
 refine J7 (v:=x) (us:=[è<|Â a]) (px:=px) (c:=1) (n:=j) (xs:=xs) (inf:=Δ) (z:=è Á) U U (by k_ne) yE A4 U U U Tryz.underlying100 Tryz.type101 U U Nat.one_pos U U (by simp[Δ];omega) (by simp only[œ];omega) A3 wI W.fq (X6<|W.C U) (λ_ C=>List.mem_singleton.1 C▸rfl) λY B N A5 qa A6 wK rh=> ?_;walk_nrm;have Yi:∀b,l.w.heap.size<=b->¬(Â b=x.ownBlock):=λb hb=>Ye ll hb;have k5:gh (λb=>Â b=x.ownBlock) l₄ (mr l₄ Y N):=J6 yE A5 A6 λk e=>⟨wI k e,e.symm⟩;have vf:gh (λb=>Â b=x.ownBlock) l (mr l₄ Y N):=(AY.fN λ_ _ q=>q.elim).fh k5;have c5:=c4.r k5<|Yi a Z;have d5:=d4.r k5<|Yi r Z;have hl4:px<Y.heap.size:=È (yE.fv px<|Ã W.fq) A5.r;have Kj:∀k,B.ownBlock=Â k->k<N.heap.size/\k≠a/\k≠r:=λk e=>by
  have C:=(qa.lt k e).2;rcases rh with z|z
  .rw[z]at e;have:=(ll.lt k e).2;exact⟨C,Z,Z⟩
  .rw[z]at e;obtain rfl:=Ó e;exact⟨C,Z,Z⟩
 have wL:(mr l₄ Y N).w.ownsRow 0 101 1 B (j+1) (xs++[è<|Â a]):=qa;have QI:(mr l₄ Y N).w.heap.size=N.heap.size:=U;generalize mr l₄ Y N=sk at vf c5 d5 wL wK QI|-;rw[<-QI]at Kj;clear k5 A6 qa rh c4 d4 W AY yE A4 wI A3 A5 l₄ QI;have ri:=vf.N t;have Yj:¬sk.q:=by rwa[vf.q]
 apply gk (n:=20) ri.r;iterate 4 w_go fC
 u_call Ħ fW Μ fC hF
 iterate 2 w_go fC
 refine Ë λ_ _=> ?_;refine pJ (V:=λp=>À<|Â ⟨p,0,Á⟩) (ob:=É #[À<|Â ⟨all,0,Á⟩] 162) U U (by k_ne) ri.r Yj (λw=>by go_simp) (λw=>by simp[go_sem]) λC A7=> ?_;walk_nrm;have k6:=nj (X:=fg) (ob:=É #[À<|Â ⟨all,0,Á⟩] 162) ri A7;have A8:gh (λb=>Â b=x.ownBlock) l (gH sk C<|É #[À<|Â ⟨all,0,Á⟩] 162):=vf.fh (k6.fN λ_ _ q=>q.elim);have c6:=c5.r k6 id;have d6:=d5.r k6 id;have g6:hD (gH sk C<|É #[À<|Â ⟨all,0,Á⟩] 162) C.heap.size (É #[À<|Â ⟨all,0,Á⟩] 162):=⟨Ç U,ni⟩;have A9:r<C.heap.size:=È (ri.fv r<|Ã d5.fq) A7.r;have Gy:∀k,B.ownBlock=Â k->k<C.heap.size/\k≠a/\k≠r:=λk e=>⟨È (Kj k e).1 A7.r,(Kj k e).2⟩;have Kk:∀k,B.ownBlock=Â k->(gH sk C<|É #[À<|Â ⟨all,0,Á⟩] 162).O k:=λk e=>Ã<|wK k e;have QJ:=nJ wL (w₁:=(gH sk C<|É #[À<|Â ⟨all,0,Á⟩] 162).w) λk e=>k6.r k (Ã<|wK k e) id;generalize gH sk C (É #[À<|Â ⟨all,0,Á⟩] 162)=Ba at A8 c6 d6 g6 Kk QJ|-;generalize C.heap.size=y at g6 A9 Gy|-;clear k6 c5 d5 vf ri Yj wK wL Kj A7 sk;have Kl:=A8.N t;have Yk:¬Ba.q:=by rwa[A8.q]
 refine pJ (V:=λp=>À<|Â ⟨p,0,Á⟩) (ob:=É #[Ĉ (ù 50) #[] #[À<|Â ⟨r,0,Á⟩,À<|Â ⟨ba,0,Á⟩]] 1) U U (by k_ne) Kl.r Yk (λw=>by go_simp) (λw=>by simp[go_sem]) λI QK=> ?_;walk_nrm;have k7:=nj (X:=fg) (ob:=É #[Ĉ (ù 50) #[] #[À<|Â ⟨r,0,Á⟩,À<|Â ⟨ba,0,Á⟩]] 1) Kl QK;have D:gh (λb=>Â b=x.ownBlock) l (gH Ba I<|É #[Ĉ (ù 50) #[] #[À<|Â ⟨r,0,Á⟩,À<|Â ⟨ba,0,Á⟩]] 1):=A8.fh (k7.fN λ_ _ q=>q.elim);have c7:=c6.r k7 id;have d7:=d6.r k7 id;have g7:=g6.r k7 id;have f7:hD (gH Ba I<|É #[Ĉ (ù 50) #[] #[À<|Â ⟨r,0,Á⟩,À<|Â ⟨ba,0,Á⟩]] 1) I.heap.size (É #[Ĉ (ù 50) #[] #[À<|Â ⟨r,0,Á⟩,À<|Â ⟨ba,0,Á⟩]] 1):=⟨Ç U,ni⟩;have Km:y<I.heap.size:=È (Kl.fv y<|Ã g6.fq) QK.r;have QL:∀k,B.ownBlock=Â k->(gH Ba I<|É #[Ĉ (ù 50) #[] #[À<|Â ⟨r,0,Á⟩,À<|Â ⟨ba,0,Á⟩]] 1).O k:=λk e=>Ã<|Kk k e;have Yl:=nJ QJ (w₁:=(gH Ba I<|É #[Ĉ (ù 50) #[] #[À<|Â ⟨r,0,Á⟩,À<|Â ⟨ba,0,Á⟩]] 1).w) λk e=>k7.r k (Ã<|Kk k e) id;generalize gH Ba I (É #[Ĉ (ù 50) #[] #[À<|Â ⟨r,0,Á⟩,À<|Â ⟨ba,0,Á⟩]] 1)=Bb at D c7 d7 g7 f7 QL Yl|-;generalize I.heap.size=Q at f7 Km|-;clear k7 c6 d6 g6 A8 Kl Yk Kk QJ QK Ba;have Kn:=D.N t;apply gk (n:=10) Kn.r;iterate 3 w_go fC
 refine Ë λ_ _=> ?_;apply nW (x:=⟨y,0,Á⟩) U U (by k_ne) Kn.r (by rwa[D.q]) (Ã<|Ã g7.fq) (g7.C U) (λw h=>by go_simp) (λw h=>by simp[go_sem,h]);walk_nrm;apply gk (n:=10) Kn.r;u_call qj.f_add (nm_add Lk) addFn fC hF;refine Ë λ_ _=> ?_;refine XH qj (⟨Ã (by rw[D.K];exact Kh.1),Ã (by rw[D.K];exact Kh.2),λw J o s h3 h4 h5 h=>h.fh ⟨o,s,h3,h4,h5⟩⟩) (⟨Kn.r,⟨D.e _ Kh.1 Gj.1,D.e _ Kh.2 Gj.2⟩,fI.fT _ _⟩) (D.d.trans hd) λYm Yn=> ?_;walk_nrm;apply gk (l:={Bb with d:=0,w:=Ym}) (n:=10) Yn.1;iterate 3 w_go fC
 refine Ë λ_ _=> ?_;refine .fB λyF wM=> ?_;have rr:fI Bb Bb.w yF:=Yn.2.2.fh ⟨wM.r,wM.I,wM.N,wM.Y,wM.S⟩;have s:=D.G rr;have hA9:gh (λb=>Â b=x.ownBlock) l ({Bb with d:=0,w:=yF}:fe):=⟨s.O,s.c,s.S,s.Y,s.b,s.K,s.q,hd.symm,s.fv,s.I,s.r,s.f,s.g,s.e⟩;have at9:∀{b:Nat} {o:Ÿ},hD Bb b o->hD ({Bb with d:=0,w:=yF}:fe) b o:=λh=>⟨h.fq,(rr.I _<|Ã h.fq).trans h.I⟩;have hlen:(xs++[è<|Â a]).length=j+1:=by have:=ll.1;simp;omega
 refine hJ0 {Bb with d:=0,w:=yF} _ a r y Q B _ hA9 ⟨U,U,U,U,U,U,U,U⟩ ⟨?_,QL,at9 c7,at9 d7,at9 g7,at9 f7⟩ Yg IL A9 Km λk e=>⟨(Gy k e).2.1,(Gy k e).2.2,by have:=(Gy k e).1;omega,by have:=(Gy k e).1;omega⟩;rw[hlen];exact nJ Yl λk e=>rr.I k<|Ã<|QL k e
end
def sr(l:fe)(b:Nat):fe:={l with O:=λj=>l.O j/\j≠b,K:=λa=>l.K a\/a=⟨b,0,Á⟩\/a=⟨b,1,Á⟩}
def mV(l x:fe)(b:Nat):fe:={x with O:=λj=>x.O j\/j=b,K:=l.K}
section
variable{S:Jd}{l:fe}
def fj.QM(W:∀a,l.K a->a.block≠b){x:fe}(h:fj P yQ S x g):¬x.M b->(∀a,x.C a->a.block≠b)->x.K=(sr l b).K->b<x.w.heap.size->(x.w.cell? ⟨b,0,Á⟩).isSome=Ò->(x.w.cell? ⟨b,1,Á⟩).isSome=Ò->j2 x-> fj P yQ (λG H=>∃d,S d H/\G=mV l d b/\¬d.M b/\(∀a,d.C a->a.block≠b)/\d.K=(sr l b).K/\b<d.w.heap.size/\d.w.heap[b]?=x.w.heap[b]?/\d.q=x.q/\j2 d) (mV l x b) g:=by
 have u:∀{x:fe} {c:ß},x.K=(sr l b).K->(x.w.cell? ⟨b,0,Á⟩).isSome=Ò->(x.w.cell? ⟨b,1,Á⟩).isSome=Ò->fI (mV l x b) x.w c->fI x x.w c:=λ{x c} f i m r=>
  ⟨r.r,λj p=>r.I j<|p.imp Ã id,r.N,r.Y,λa o q=>by
   rw[f]at o;rcases o with z|z|z
   .exact r.S a z q
   .rw[z,gL<|r.I b<|Ã<|Ç U];exact i
   .rw[z,gL (r.I b (Ã (Ç U)))];exact m⟩
 induction h with
 |@fB x g h=>
  intro s t f v i m I;refine .fB λc r=>⟨{x with w:=c},h c<|u f i m r,U,s,t,f,È v r.r,r.I b<|Ã<|Ç U,U,mq I<|u f i m r⟩
 |@jF x g G' W' E' L' iI h hd _ ih=>
  intro s t f v i m I;refine .mk iI λc r=> ?_;have B:=u f i m r;have D:=hd c B;have E:=È v r.r;have J:=λq=>s<|Ã q;have L:=D.jL b E J λa e q=>t a (Ã q) e;have F:(L' c).w.heap[b]?=x.w.heap[b]?:=by rw[D.b];exact L.trans<|r.I b<|Ã<|Ç U
  refine⟨G' c,W' c,E' c,mV l (L' c) b,h c B,?_,?_⟩
  .refine⟨D.C,λj q=> ?_,λj q=> ?_,D.I,D.r,D.M,U,λj p y n=>D.jL j p (λq=>y<|Ã q) n,λa o y n=>D.N a o (λq=>y<|Ã q) n,λa o y=>D.Y a o λq=>y<|Ã q,D.f,D.g,D.m,λe N=> ?_,D.h,D.q,λq=> ?_,D.b⟩
   .rcases q with q|q
    .exact(D.S j q).imp Ã id
    .exact Ã<|Ç q
   .rcases q with q|q
    .exact D.fv j q
    .rw[q];exact È E D.C
   .rcases D.c e N with⟨a,y,n⟩|h|h|h|h|⟨a,y,n⟩
    .exact Ã ⟨a,y,n.imp Ã id⟩
    .exact Ç<|Ã h
    .exact Ç<|Ç<|Ã h
    .exact Ç<|Ç<|Ç<|Ã h
    .exact Ç<|Ç<|Ç<|Ç<|Ã h
    .exact Ç<|Ç<|Ç<|Ç<|Ç ⟨a,Ã y,n⟩
   .let⟨Q,T,V⟩:=D.i q;exact⟨Q,T,by funext j;show((L' c).O j\/j=b)=(x.O j\/j=b);rw[V]⟩
  .refine(ih c B (λq=>q.elim (λz=>(D.S b z).elim J λy=>by omega) λz=>s<|Ç<|by rw[<-D.I];exact z) (λa q=>t a<|q.imp (by rw[D.r];exact id)<|by rw[D.M];exact id) (D.k.trans f) (by rw[D.b];exact È E D.C) (by rw[gL F];exact i) (by rw[gL F];exact m) λj p=>by rw[D.b];exact D.fv j p).fN ?_;rintro G H ⟨d,y,e,j,n,o,p,z,N,Q⟩;exact⟨d,y,e,j,n,o,p,z.trans F,N.trans D.q,Q⟩
end
section
variable{L:WgLink}{l:fe}{J:Jd}{c:é}{k:List ŷ}{ty:ŭ}
structure ahY(b:Nat)(cc:Array Ï)(ty:ŭ)(l l':fe):Prop where
 r:gh (λj=>j=b) l l'
 O:l'.O=l.O
 C:l'.w.heap[b]?=Â (É (cc.setIfInBounds 0<|Ê ê 4294967296) ty)
theorem Yo(a:l.O b)(w:ß)(d:Nat):mV l {sr l b with d:=d,w:=w} b={l with d:=d,w:=w}:=by
 have:(λj=>(l.O j/\j≠b)\/j=b)=l.O:=by grind
 unfold mV sr;simp only[this]
def Yp{C:Array Ï}(H:WgLib P L)(s:gw l)(hq:¬l.q)(Y:l.d=0)(x:l.O b)(M:l.w.heap[b]?=Â (É C ty))(N:C[0]?=Â (Ê ê 0))(o:(C[1]?).isSome=Ò) (hT:∀B,ahY b C ty l B->fj P yQ J B (G (c.at (y.put ((Q[i]?).bind (·.dst))<|ñ #[])<|Ñ Q jJ::k) qX)): fj P yQ J l (G ((base L.add).at ⟨#[À<|Â ⟨b,0,Á⟩,Ê Î 1,Å,Å,Å,Å,Å,Å,Å,Å,Å,Å,Å,Å,Å,Å,Å,Å,Å,Å,Å,Å,Å,Å,Å,Å,Å,Å,Å,Å,Å,Å,Å,Å,Å,Å,Å,Å,Å,Å,Å,Å,Å,Å,Å,Å,Å,Å,Å,Å,Å,Å,Å,Å,Å,Å,Å,Å,Å,Å,Å,Å,Å,Å,Å,Å,Å,Å,Å,Å,Å,Å,Å,Å,Å,Å,Å,Å,Å,Å,Å,Å,Å,Å,Å,Å,Å,Å,Å,Å,Å,Å,Å,Å,Å,Å,Å,Å,Å,Å,Å,Å,Å,Å,Å,Å,Å,Å,Å,Å,Å,Å,Å,Å,Å,Å,Å],[]⟩ [ö<|body_add L])<|c.at y (Ñ Q (i::jJ)::k)::qX):=by
 have e0:l.w.cell? ⟨b,0,Á⟩=Â (Ê ê 0):=by simp[Ö,M,N]
 have e1:(l.w.cell? ⟨b,1,Á⟩).isSome=Ò:=by let⟨u,D⟩:=Ô.1 o;simp[Ö,M,D]
 have S:∀y:â,l.K y->y.block≠b:=λy T e=>(s.S y T).1<|Ã<|e▸x;let J1:Jd:=λB g'=>g'=G (c.at (y.put ((Q[i]?).bind (·.dst))<|ñ #[])<|Ñ Q jJ::k) qX/\B={sr l b with d:=0,w:=B.w}/\fI (sr l b) l.w B.w
 have hW:fj P yQ (JP P yQ b J1) (sr l b) (G ((base L.add).at ⟨#[À<|Â ⟨b,0,Á⟩,Ê Î 1,Å,Å,Å,Å,Å,Å,Å,Å,Å,Å,Å,Å,Å,Å,Å,Å,Å,Å,Å,Å,Å,Å,Å,Å,Å,Å,Å,Å,Å,Å,Å,Å,Å,Å,Å,Å,Å,Å,Å,Å,Å,Å,Å,Å,Å,Å,Å,Å,Å,Å,Å,Å,Å,Å,Å,Å,Å,Å,Å,Å,Å,Å,Å,Å,Å,Å,Å,Å,Å,Å,Å,Å,Å,Å,Å,Å,Å,Å,Å,Å,Å,Å,Å,Å,Å,Å,Å,Å,Å,Å,Å,Å,Å,Å,Å,Å,Å,Å,Å,Å,Å,Å,Å,Å,Å,Å,Å,Å,Å,Å,Å,Å,Å,Å,Å],[]⟩ [ö<|body_add L])<|c.at y (Ñ Q (i::jJ)::k)::qX):=by refine XH (Ψ:=λw=>fI (sr l b) l.w w) H ⟨Ã<|Ç<|Ã U,Ã<|Ç<|Ç U,λw n o t a g m h=>h.fh ⟨o,t,a,g,m⟩⟩ ⟨λj f=>s.fv j<|Ã f.1,⟨by rw[show(sr l b).w=l.w from rfl,e0];rfl,e1⟩,fI.fT _ _⟩ Y λn v=> .fB λp r=>⟨U,U,v.2.2.fh ⟨r.r,r.I,r.N,r.Y,r.S⟩⟩
 have hstart:=hW.QM S (λq=>q.elim (λz=>z.2 U) λz=>s.c b x z) (λy T e=>s.N y T<|Ã<|e▸x) U (s.fv b<|Ã x) (by rw[show(sr l b).w=l.w from rfl,e0];rfl) e1 λj f=>s.fv j<|Ã f.1;rw[show mV l (sr l b) b=l from Yo x l.w l.d]at hstart;apply hstart.lQ;rintro l1 g1 ⟨E,⟨Bc,ahZ,hA⟩,rfl,Yq,Yr,td,hlt1,nh,A2,lo1⟩;let⟨g2,Ys,V⟩:=hA 0;have rU:ê.wrap (0+fX)=fX:=by rw[show(0:Int)+fX=fX from rfl];exact Jb A A
 rw[rU]at V Ys;rw[if_pos U]at V;have hqx:¬E.q:=by rwa[A2]
 refine .mk ahZ λn r=> ?_;have F:=(r.I b<|Ã<|Ç U).trans<|nh.trans M;have c0:n.cell? (fM b)=Â (Ê ê 0):=by simp[Ö,fM,F,N]
 have asH:=È hlt1 r.r;have W:(n.setCell (fM b)<|Ê ê fX).heap[b]?=Â (É (C.setIfInBounds 0<|Ê ê 4294967296) ty):=by unfold þ;simp[í,fM,F,fX]
 have rx:fI E E.w (n.setCell (fM b)<|Ê ê fX):=by
  refine⟨by rw[jP];exact r.r,λj f=>((kX λe=>Yq (by have t:j=b:=e;rwa[<-t])).trans<|r.I j<|f.imp Ã id),λa g=>(gL<|kX<|Yr a g).trans<|r.N a g,λa g=>rR.trans<|r.Y a g,λa g q=> ?_⟩
  .rw[td]at g;refine xW ?_;rcases g with z|z|z
   .exact r.S a z q
   .rw[z,gL<|r.I b<|Ã<|Ç U];rwa[z]at q
   .rw[z,gL<|r.I b<|Ã<|Ç U];rwa[z]at q
 refine⟨g2,_,_,mV l {E with w:=n.setCell (fM b) (Ê ê fX)} b,Ys n c0 (by simp[î,fM,F]),?_,?_⟩
 .refine⟨by rw[jP];exact Ú _,λ_ h=>Ã h,λj h=> ?_,U,U,U,U,λj _ o _=>kX λe=>o<|Ç e,λa _ o _=>gL (kX λe=>o<|Ç e),λ_ _ _=>NM,U,U,U,λe t=> ?_,?_,U,λq=>absurd q hqx,U⟩
  .rw[jP];rcases h with h|h
   .exact È (lo1 j h) r.r
   .rwa[h]
  .have:e=ko (fM b)\/e=mJ (fM b):=by simpa using t
   rcases this with rfl|rfl
   .exact Ã ⟨fM b,U,Ã<|Ç U⟩
   .exact Ã ⟨fM b,U,Ã<|Ç U⟩
  .exact(Ņ (λe t=>by
    have:e=ko (fM b)\/e=mJ (fM b):=by simpa using t
    rcases this with rfl|rfl<;>exact⟨by simp[ko,mJ],by simp[ko,mJ]⟩) _).symm
 have z1:((n.setCell (fM b)<|Ê ê fX).cell? ⟨b,1,Á⟩).isSome=Ò:=by let⟨u,D⟩:=Ô.1 o;exact xW<|by simp[Ö,F,D]
 have ah0:=(V.jS rx).QM S Yq Yr td (by show b<(n.setCell (fM b)<|Ê ê fX).heap.size;rwa[jP]) (xW<|by rw[show(⟨b,0,Á⟩:â)=fM b from rfl,c0];rfl) z1 (λj f=>by show j<(n.setCell (fM b)<|Ê ê fX).heap.size;rw[jP];exact È (lo1 j f) r.r);apply ah0.lQ;rintro l2 g3 ⟨v,⟨oy,ah1,g4,ah2,hN2⟩,rfl,nM2,nC2,yp,Ko,X,pH,lo2⟩;have ah3:¬v.q:=by rwa[pH]
 refine .mk ah1 λp m=> ?_;have I:∀a:â,a.block=b->p.cell? a=v.w.cell? a:=λa e=>gL<|m.I a.block<|Ã<|Ç e;have rx2:fI v v.w p:=⟨m.r,λj f=>m.I j<|f.imp Ã id,m.N,m.Y,λa g q=>by
  rw[yp]at g;rcases g with z|z|z
  .exact m.S a z q
  .rwa[I a (by rw[z])]
  .rwa[I a (by rw[z])]⟩
 refine⟨g4,p,_,mV l {v with w:=p} b,ah2 p,?_,?_⟩
 .refine⟨Ú _,λ_ h=>Ã h,λj h=> ?_,U,U,U,U,λ_ _ _ _=>rfl,λ_ _ _ _=>rfl,λ_ _ _=>rfl,U,U,U,λe t=> ?_,?_,U,λq=>absurd q ah3,U⟩
  .rcases h with h|h
   .exact È (lo2 j h) m.r
   .rw[h];exact È Ko m.r
  .have:e=jM (.read<|gU b):=by simpa using t
   rw[this];exact Ç<|Ç<|Ç<|Ç<|Ç ⟨gU b,Ç U,Ã U⟩
  .exact(Ņ (λe t=>by
    have:e=jM (.read<|gU b):=by simpa using t
    rw[this];exact⟨by simp[jM],by simp[jM]⟩) _).symm
 have z:(p.cell? ⟨b,0,Á⟩).isSome=Ò:=by rw[I _ U];have:v.w.heap[b]?=_:=X.trans W;simp[Ö,this,(æ.1 N).1]
 have y1:(p.cell? ⟨b,1,Á⟩).isSome=Ò:=by rw[I _ U];have:v.w.heap[b]?=_:=X.trans W;let⟨u,D⟩:=Ô.1 o;simp[Ö,this,(æ.1 D).1]
 have u:=(hN2.jS rx2).QM S nM2 nC2 yp (È Ko m.r) z y1 λj f=>È (lo2 j f) m.r;apply u.lQ;rintro l3 g5 ⟨x3,⟨rfl,D,t⟩,rfl,nM3,nC3,hk3,ah4,hb3,wE,lo3⟩;rw[D,Yo x];have QO:=hb3.trans<|(m.I b<|Ã<|Ç U).trans<|X.trans W;refine hT _ ⟨⟨λ_ h=>h,λ_ h=>Ã h,U,U,U,U,U,Y.symm,λj f=>È (s.fv j<|Ã f) t.r,t.r,λj f hn=>t.I j (f.imp (λq=>⟨q,hn⟩) id),t.N,t.Y,λa g=>t.S a<|Ã g⟩,U,QO⟩
end
noncomputable def QP:Ę:=lk Ĝ [1,1,1]
noncomputable def Yt:Ę:=lk Ĝ [1,1,0,1,0,0,1,1,0,0,1,1,1]
noncomputable def QR:Ę:=lk Ĝ [1,1,0,1,0,0,1,1,0,0,1,1,0,1]
noncomputable def Gz:Ę:=lk Ĝ [1,1,0,1,0,0]
noncomputable def QS:Ę:=lk Ĝ [1,1,0,1,0,0,1,1,1]
noncomputable def Bd (t:Array Ï) (a:List é):Ý:=G ((base 46).at ⟨t,[]⟩ [ö Gz,ą Gz,ô 0,ö QP]) a
noncomputable def GA (t:Array Ï) (a:List é):Ý:=G ((base 46).at ⟨t,[]⟩ [ö QR,ö Yt,ô 1,ö QS,ą Gz,ô 0,ö QP]) a
structure PT(iv qv rs:Ï)(lg R i:Nat)(t:Array Ï):Prop where
 r:t.size=48
 N:t[4]?=Â iv
 S:t[5]?=Â qv
 Y:t[6]?=Â (À<|Â ⟨lg,0,Á⟩)
 C:t[13]?=Â rs
 I:t[14]?=Â (Ê Î R)
 M:t[15]?=Â (Ê Î i)
def Kp(t:Array Ï)(h:t.size=48):∃a b c d e f g i j k l m n o p q r s u v w x y z B C D E F G H I J K L M N O P Q S T V W X Y pD pE:Ï,t=#[a,b,c,d,e,f,g,i,j,k,l,m,n,o,p,q,r,s,u,v,w,x,y,z,B,C,D,E,F,G,H,I,J,K,L,M,N,O,P,Q,S,T,V,W,X,Y,pD,pE]:=by obtain⟨_,rfl⟩:=u6 t h;exact⟨_,_,_,_,_,_,_,_,_,_,_,_,_,_,_,_,_,_,_,_,_,_,_,_,_,_,_,_,_,_,_,_,_,_,_,_,_,_,_,_,_,_,_,_,_,_,_,_,U⟩
def ah5(w:ß)(a c:Option â)(b:Int):(Ċ 155 #[(0,À a),(1,Ê Î b),(2,À c)]).run Ä w=.ok (Đ #[À a,Ê Î b,À c,À Á]) w:=run_build w 155 _ _ fW
def ah6(w:ß)(a c:Option â)(b:Int):(Ċ 155 #[(0,À a),(1,Ê Î b),(2,À c)]).events Ä w #[]=#[]:=by unfold Ċ;simp only[Sem.events_bind];simp[go_sem]
section
variable{p:Nat}{v0 v1 v2 v3:Ï}
def ah7(h:w.heap[p]?=Â (É #[v,x,z,jQ] e)):(iR w p v0 v1 v2 v3).heap[p]?=Â (É #[v0,v1,v2,v3] e):=by unfold iR þ;simp[í,h]
def gh.iR{l c:fe}(h:gh X l c)(s:gw l)(r:fI c c.w u)(f:l.w.heap.size<=p):gh X l {c with w:=fA.iR u p v0 v1 v2 v3}:=by
 have b:=h.G r;have e:∀{j:Nat},j<l.w.heap.size->(fA.iR u p v0 v1 v2 v3).heap[j]?=u.heap[j]?:=λ{j} q=>yw Z;refine⟨b.O,b.c,b.S,b.Y,b.b,b.K,b.q,b.d,λj q=> ?_,?_,λj q n=>(e<|s.fv j q).trans<|b.r j q n,λa q=>(gL<|e<|s.I a q).trans<|b.f a q,λa q=>(vV<|e<|s.I a q).trans<|b.g a q,λa q z=> ?_⟩
 .show j<(fA.iR u p v0 v1 v2 v3).heap.size;rw[wB];exact b.fv j q
 .show l.w.heap.size<=(fA.iR u p v0 v1 v2 v3).heap.size;rw[wB];exact b.I
 .show((fA.iR u p v0 v1 v2 v3).cell? a).isSome=Ò;rw[gL<|e (s.S a q).2.1];exact b.e a q z
def hD.rly{l:fe}{o:Ÿ}(h:hD l b o)(r:fI l l.w u):hD {l with w:=u} b o:=⟨h.fq,(r.I b<|Ã h.fq).trans h.I⟩
end
section
variable{J:Jd}{l:fe}{t:Array Ï}{iv qv:Ï}{lg R:Nat}{kd:Int}
def ah8(f:gw l)(o:¬l.q)(k:PT iv qv (Æ (Â ⟨j,0,Á⟩) R n) lg R i t)(Yu:i<R)(hR:R<1000)(T:l.M j)(V:l.w.cell? ⟨j,i,Á⟩=Â (À<|Â ⟨b,0,Á⟩))(F:l.M b)(W:l.w.cell? ⟨b,4,Á⟩=Â (Ê Î kd)) (X:∀B u a,gh fg l B->l.w.heap.size<=a->hD B a (É #[À<|Â ⟨b,0,Á⟩,Ê Î i,À<|Â ⟨lg,0,Á⟩,À Á] 155)->PT iv qv (Æ (Â ⟨j,0,Á⟩) R n) lg R i u->u[9]?=Â (À<|Â ⟨a,0,Á⟩)->u[28]?=Â (ŝ<|decide<|kd≠1)->fj Ä Ò J B (GA u qX)): fj Ä Ò J l (Bd t qX):=by
 obtain⟨y0,y1,y2,y3,G,H,Y,y7,y8,y9,wC,yz,wD,qW,sd,qk,u7,u9,tM,tN,tO,se,sf,si,qR,rW,qS,oR,nV,pA,pB,pC,tq,rX,rY,qT,qU,tu,tw,tx,tA,tB,tC,tD,tE,tF,pD,pE,rfl⟩:=Kp t k.r;obtain rfl:iv=G:=(show G=iv by simpa using k.N).symm;obtain rfl:qv=H:=(show H=qv by simpa using k.S).symm;obtain rfl:Y=À (Â ⟨lg,0,Á⟩):=by simpa using k.Y
 obtain rfl:qW=Æ (Â ⟨j,0,Á⟩) R n:=by simpa using k.C
 obtain rfl:sd=Ê Î R:=by simpa using k.I
 obtain rfl:qk=Ê Î i:=by simpa using k.M
 have asI:(i:Int)<(R:Int):=Z
 have hF:True:=trivial;have qY:∀y:â,False->l.r y:=λy ha=>ha.elim;apply gk (n:=40) f.r;simp only[Bd];conv in Gz=>whnf
 repeat w_go fC
 refine Ë λ_ _=> ?_;apply nW (x:=⟨j,i,Á⟩) U U (by k_ne) f.r o (Ã T) V (λw h=>by go_simp) (λw h=>by simp[go_sem,h]);walk_nrm;apply gk (n:=40) f.r;repeat w_go fC
 refine Ë λ_ _=> ?_;refine tH (v:=Đ #[À<|Â ⟨b,0,Á⟩,Ê Î i,À<|Â ⟨lg,0,Á⟩,À Á]) U U (by k_ne) f.r o (λc r=> ?_) (λc r e C=> ?_) ?_
 .have S:=ah5 c (Â ⟨b,0,Á⟩) (Â ⟨lg,0,Á⟩) i;go_simp
 .simp[go_sem,ah6 c (Â ⟨b,0,Á⟩) (Â ⟨lg,0,Á⟩) i]at C
 walk_nrm;refine F7 (ob:=É #[À Á,Ê Î 0,À Á,À Á] 155) U U (by k_ne) f.r o (λw=>by go_simp) (λw=>by simp[go_sem]) λc D=> ?_;walk_nrm;have s:gh fg l (gH l c<|É #[À Á,Ê Î 0,À Á,À Á] 155):=nj f D;have m:hD (gH l c<|É #[À Á,Ê Î 0,À Á,À Á] 155) c.heap.size (É #[À Á,Ê Î 0,À Á,À Á] 155):=⟨Ç U,ni⟩;have E:l.w.heap.size<=c.heap.size:=D.r;generalize gH l c (É #[À Á,Ê Î 0,À Á,À Á] 155)=l₁ at s m|-;generalize c.heap.size=a at m E|-;have I:=s.N f;have K:¬l₁.q:=by rwa[s.q]
 refine uY U U (by k_ne) λd z=> ?_;have g:=m.rly z;replace g:d.heap[a]?=_:=g.I;have L:d.cell? ⟨a,0,Á⟩=Â (À Á):=by simp[Ö,g]
 have N:d.cell? ⟨a,1,Á⟩=Â (Ê Î 0):=by simp[Ö,g]
 have O:d.cell? ⟨a,2,Á⟩=Â (À Á):=by simp[Ö,g]
 have P:d.cell? ⟨a,3,Á⟩=Â (À Á):=by simp[Ö,g]
 have Q:∀r,d.frozen? ⟨a,r,Á⟩=Ì:=λr=>by simp[î,g]
 go_simp;refine⟨{l₁ with w:=iR d a (À<|Â ⟨b,0,Á⟩) (Ê Î i) (À<|Â ⟨lg,0,Á⟩) (À Á)},JZ (p:=a) (mq I.r z) K m.fq wB (λr S=>yw S) ⟨U,U,U⟩ λe C=> ?_,?_⟩
 .have S:=đ C;have e:∀r,pF l₁ ⟨a,r,Á⟩:=λr=>Ã m.fq;simp[go_sem,á _ _ _ _ _ _ (show Ø (À<|Â ⟨b,0,Á⟩)=Ò from rfl),á _ _ _ _ _ _ (show Ø (À<|Â ⟨lg,0,Á⟩)=Ò from rfl),á _ _ _ _ _ _ (show Ø (À Á)=Ò from rfl),L,N,O,P,Q]at S;rcases S with rfl|rfl|rfl|rfl
  .exact(e _).r
  .exact(e _).r
  .exact(e _).r
  .exact(e _).r
 have e:gh fg l ({l₁ with w:=iR d a (À<|Â ⟨b,0,Á⟩) (Ê Î i) (À<|Â ⟨lg,0,Á⟩) (À Á)}:fe):=s.iR f z E;have S:hD ({l₁ with w:=iR d a (À<|Â ⟨b,0,Á⟩) (Ê Î i) (À<|Â ⟨lg,0,Á⟩) (À Á)}:fe) a (É #[À<|Â ⟨b,0,Á⟩,Ê Î i,À<|Â ⟨lg,0,Á⟩,À Á] 155):=⟨m.fq,ah7 g⟩;generalize({l₁ with w:=iR d a (À<|Â ⟨b,0,Á⟩) (Ê Î i) (À<|Â ⟨lg,0,Á⟩) (À Á)}:fe)=l₂ at e S|-;clear m s I K g L N O P Q z d l₁ D c;have C:=e.N f;apply gk (n:=20) C.r;repeat w_go fC
 refine Ë λ_ _=> ?_;apply nW (x:=⟨b,4,Á⟩) U U (by k_ne) C.r (by rwa[e.q]) (Ã<|e.M F) ((gL<|e.r b F id).trans W) (λw h=>by go_simp) (λw h=>by simp[go_sem,h]);walk_nrm;apply gk (n:=20) C.r;iterate 2 w_go fC
 refine Ë λ_ _=> ?_;apply X l₂ _ a e E S ⟨U,U,U,U,U,U,U⟩ U;simp;rfl
end
section
variable{J:Jd}{l:fe}{xs:List Ï}
def ah9(s:gw l)(E:¬l.q)(o:PT v x z b j i d)(Yu:i<j)(hR:j<1000)(h9:d[9]?=Â (À<|Â ⟨m,0,Á⟩))(QU:d[28]?=Â (ŝ Ò))(hn:n<1000) (h:hD l m (É #[À<|Â ⟨k,0,Á⟩,Ê Î i,À<|Â ⟨b,0,Á⟩,À Á] 155)) (ll:l.w.ownsRow 0 155 4 x n xs) (K:∀a,x.ownBlock=Â a->l.O a) (hJ:∀B L t,gh (λf=>Â f=x.ownBlock) l B->B.w.ownsRow 0 155 4 t (n+1) (xs++[À<|Â ⟨k,0,Á⟩,Ê Î i,À<|Â ⟨b,0,Á⟩,À Á])->(∀a,t.ownBlock=Â a->B.O a)->(t.ownBlock=x.ownBlock\/∃a,t.ownBlock=Â a/\l.w.heap.size<=a)->PT v t z b j (i+1) L->fj Ä Ò J B (Bd L qX)): fj Ä Ò J l (GA d qX):=by
 obtain⟨y0,y1,y2,y3,M,N,y6,y7,y8,y9,wC,yz,wD,P,sd,qk,u7,u9,tM,tN,tO,se,sf,si,qR,rW,qS,oR,nV,pA,pB,pC,tq,rX,rY,qT,qU,tu,tw,tx,tA,tB,tC,tD,tE,tF,pD,pE,rfl⟩:=Kp d o.r;obtain rfl:v=M:=(show M=v by simpa using o.N).symm;obtain rfl:x=N:=(show N=x by simpa using o.S).symm;obtain rfl:y6=À (Â ⟨b,0,Á⟩):=by simpa using o.Y
 obtain rfl:y9=À (Â ⟨m,0,Á⟩):=by simpa using h9
 obtain rfl:z=P:=(show P=z by simpa using o.C).symm;obtain rfl:sd=Ê Î j:=by simpa using o.I
 obtain rfl:qk=Ê Î i:=by simpa using o.M
 obtain rfl:nV=ŝ Ò:=by simpa using QU
 have hF:True:=trivial;apply gk (n:=40) s.r;simp only[GA];conv in QR=>whnf
 conv in QS=>whnf
 repeat w_go fC
 refine Ë λ_ _=> ?_;refine tH (v:=Đ #[À<|Â ⟨k,0,Á⟩,Ê Î i,À<|Â ⟨b,0,Á⟩,À Á]) U U (by k_ne) s.r E (λp r=> ?_) (λp r e y=> ?_) ?_
 .skip;have C:p.cell? ⟨m,0,Á⟩=Â (À<|Â ⟨k,0,Á⟩):=(gW.r (show gW l ⟨m,0,Á⟩from Ã<|Ã h.fq) r).trans<|h.C U;have D:p.cell? ⟨m,1,Á⟩=Â (Ê Î i):=(gW.r (show gW l ⟨m,1,Á⟩from Ã<|Ã h.fq) r).trans<|h.C U;have F:p.cell? ⟨m,2,Á⟩=Â (À<|Â ⟨b,0,Á⟩):=(gW.r (show gW l ⟨m,2,Á⟩from Ã<|Ã h.fq) r).trans<|h.C U;have G:p.cell? ⟨m,3,Á⟩=Â (À Á):=(gW.r (show gW l ⟨m,3,Á⟩from Ã<|Ã h.fq) r).trans<|h.C U;go_simp
 .have u:∀g,gW l ⟨m,g,Á⟩:=λg=>Ã<|Ã h.fq;have C:p.cell? ⟨m,0,Á⟩=Â (À<|Â ⟨k,0,Á⟩):=(gW.r (show gW l ⟨m,0,Á⟩from Ã<|Ã h.fq) r).trans<|h.C U;have D:p.cell? ⟨m,1,Á⟩=Â (Ê Î i):=(gW.r (show gW l ⟨m,1,Á⟩from Ã<|Ã h.fq) r).trans<|h.C U;have F:p.cell? ⟨m,2,Á⟩=Â (À<|Â ⟨b,0,Á⟩):=(gW.r (show gW l ⟨m,2,Á⟩from Ã<|Ã h.fq) r).trans<|h.C U;have G:p.cell? ⟨m,3,Á⟩=Â (À Á):=(gW.r (show gW l ⟨m,3,Á⟩from Ã<|Ã h.fq) r).trans<|h.C U;simp[go_sem,C,D,F,G]at y;rcases y with rfl|rfl|rfl|rfl
  .exact(u _).C
  .exact(u _).C
  .exact(u _).C
  .exact(u _).C
 walk_nrm;refine pJ (V:=λp=>Æ (Â ⟨p,0,Á⟩) 1 1) (ob:=É #[À<|Â ⟨k,0,Á⟩,Ê Î i,À<|Â ⟨b,0,Á⟩,À Á] 155) U U (by k_ne) s.r E (λw=>by go_simp) (λw=>by simp[go_sem]) λr Q=> ?_;walk_nrm;have p:=nj (X:=fg) (ob:=É #[À<|Â ⟨k,0,Á⟩,Ê Î i,À<|Â ⟨b,0,Á⟩,À Á] 155) s Q;have y:hD (gH l r<|É #[À<|Â ⟨k,0,Á⟩,Ê Î i,À<|Â ⟨b,0,Á⟩,À Á] 155) r.heap.size (É #[À<|Â ⟨k,0,Á⟩,Ê Î i,À<|Â ⟨b,0,Á⟩,À Á] 155):=⟨Ç U,ni⟩;have C:∀a,x.ownBlock=Â a->(gH l r<|É #[À<|Â ⟨k,0,Á⟩,Ê Î i,À<|Â ⟨b,0,Á⟩,À Á] 155).O a:=λa e=>Ã<|K a e;have F:=nJ ll (w₁:=(gH l r<|É #[À<|Â ⟨k,0,Á⟩,Ê Î i,À<|Â ⟨b,0,Á⟩,À Á] 155).w) λa e=>p.r a (Ã<|K a e) id;generalize gH l r (É #[À<|Â ⟨k,0,Á⟩,Ê Î i,À<|Â ⟨b,0,Á⟩,À Á] 155)=l₄ at p y C F|-;generalize r.heap.size=px at y|-;have G:=p.N s;have S:¬l₄.q:=by rwa[p.q]
 have Dn:Ä.info? 155=Â Ą:=ļ;refine J7 (v:=x) (us:=[À<|Â ⟨k,0,Á⟩,Ê Î i,À<|Â ⟨b,0,Á⟩,À Á]) (px:=px) (c:=1) (n:=n) (sz:=4) (xs:=xs) (inf:=Ą) (z:=Đ #[À Á,Ê Î 0,À Á,À Á]) U U (by k_ne) G S U U U Ľ Dn U U Z U U (by simp[Ą];omega) (by simp only[œ];omega) F C y.fq (λg u D=>y.C<|by simpa using D) (by simp[Ø]) λu g D H T W Y rh=> ?_;walk_nrm;have k5:gh (λf=>Â f=x.ownBlock) l₄ (mr l₄ u D):=J6 G H W λa e=>⟨C a e,e.symm⟩;have I:gh (λf=>Â f=x.ownBlock) l (mr l₄ u D):=(p.fN λ_ _ q=>q.elim).fh k5;have QV:g.ownBlock=x.ownBlock\/∃a,g.ownBlock=Â a/\l.w.heap.size<=a:=rh.imp id λq=>⟨_,q,Õ p.I H.r⟩;have wL:(mr l₄ u D).w.ownsRow 0 155 4 g (n+1) (xs++[À<|Â ⟨k,0,Á⟩,Ê Î i,À<|Â ⟨b,0,Á⟩,À Á]):=T;generalize mr l₄ u D=sk at I wL Y|-;clear p k5 W T rh y G S C F H Q;have ri:=I.N s;have hw:Î.wrap ((i:Int)+1)=((i+1:Nat):Int):=by rw[AS Z Z];omega
 apply gk (n:=40) ri.r;repeat w_go fC
 refine Ë λ_ _=> ?_;refine hJ sk _ g I wL Y QV ⟨U,U,U,U,U,U,?_⟩;simp[hw]
def aia(G:gw l)(hq:¬l.q)(hd:l.d=0)(I:PT v x z b j i d)(Yu:i<j)(hR:j<1000)(h9:d[9]?=Â (À<|Â ⟨m,0,Á⟩))(QU:d[28]?=Â (ŝ Ì))(hn:n<1000) (h0:hD l m (É #[À<|Â ⟨k,0,Á⟩,Ê Î i,À<|Â ⟨b,0,Á⟩,À Á] 155)) (ll:l.w.ownsRow 0 155 4 v n xs) (hO:∀f,v.ownBlock=Â f->l.O f) (sj:v.ownBlock≠Â m) (hJ:∀T t' W s,gh (λg=>Â g=v.ownBlock\/g=m) l T->T.w.ownsRow 0 155 4 W (n+1) (xs++[À<|Â ⟨k,0,Á⟩,Ê Î i,À<|Â ⟨b,0,Á⟩,À<|Â ⟨s,0,Á⟩])->(∀f,W.ownBlock=Â f->T.O f)->(W.ownBlock=v.ownBlock\/∃f,W.ownBlock=Â f/\s<f)->l.w.heap.size<=s->hD T s (É #[Ê ê 4294967296,Ê Ď 0,Æ Á 0 0] 105)->PT W x z s j (i+1) t'->fj Ä Ò J T (Bd t' qX)): fj Ä Ò J l (GA d qX):=by
 obtain⟨y0,y1,y2,y3,y4,y5,y6,y7,y8,y9,wC,yz,wD,qW,sd,qk,u7,u9,tM,tN,tO,se,sf,si,qR,rW,qS,oR,nV,pA,pB,pC,tq,rX,rY,qT,qU,tu,tw,tx,tA,tB,tC,tD,tE,tF,pD,pE,rfl⟩:=Kp d I.r;obtain rfl:v=y4:=(show y4=v by simpa using I.N).symm;obtain rfl:x=y5:=(show y5=x by simpa using I.S).symm;obtain rfl:y6=À (Â ⟨b,0,Á⟩):=by simpa using I.Y
 obtain rfl:y9=À (Â ⟨m,0,Á⟩):=by simpa using h9
 obtain rfl:z=qW:=(show qW=z by simpa using I.C).symm;obtain rfl:sd=Ê Î j:=by simpa using I.I
 obtain rfl:qk=Ê Î i:=by simpa using I.M
 obtain rfl:nV=ŝ Ì:=by simpa using QU
 have hF:True:=trivial;apply gk (n:=40) G.r;simp only[GA];conv in QR=>whnf
 conv in Yt=>whnf
 conv in QS=>whnf
 repeat w_go fC
 refine Ë λ_ _=> ?_;refine F7 (ob:=É #[Ê ê 0,Ê Ď 0,Æ Á 0 0] 105) U U (by k_ne) G.r hq (λw=>by go_simp) (λw=>by simp[go_sem]) λD mY=> ?_;walk_nrm;have t:gh fg l (gH l D<|É #[Ê ê 0,Ê Ď 0,Æ Á 0 0] 105):=nj G mY;have F:hD (gH l D<|É #[Ê ê 0,Ê Ď 0,Æ Á 0 0] 105) D.heap.size (É #[Ê ê 0,Ê Ď 0,Æ Á 0 0] 105):=⟨Ç U,ni⟩;have GB:l.w.heap.size<=D.heap.size:=mY.r;generalize gH l D (É #[Ê ê 0,Ê Ď 0,Æ Á 0 0] 105)=l₁ at t F|-;generalize D.heap.size=s at F GB|-;clear mY D;have wH:=t.N G;have A2:¬l₁.q:=by rwa[t.q]
 have htl:m<l.w.heap.size:=G.fv m<|Ã h0.fq;have t1:=h0.r t id;apply gk (n:=40) wH.r;iterate 7 w_go fC
 u_call qj.f_add (nm_add Lk) addFn fC hF
 refine Ë λ_ _=> ?_;refine Yp qj wH A2 (by rwa[t.d]) F.fq F.I U U λy hC=> ?_;walk_nrm;have E:gh (λg=>g=s) l₁ y:=hC.r;have Kq:gh fg l y:=⟨λf q=>E.O f<|t.O f q,λf q=>(E.c f q).elim (t.c f) λh=>Ç<|Õ t.I h,E.S.trans t.S,E.Y.trans t.Y,E.b.trans t.b,E.K.trans t.K,E.q.trans t.q,E.d.trans t.d,E.fv,Õ t.I E.I,λo Y nx=>(E.r o (t.M Y) λe=>by have:=G.fv o Y;omega).trans<|t.r o Y nx,λa H=>(E.f a<|by rwa[t.C]).trans<|t.f a H,λa H=>(E.g a<|by rwa[t.C]).trans<|t.g a H,λa H h=>E.e a (by rwa[t.K])<|t.e a H h⟩;have L:=t1.r E Z;have N:hD y s (É #[Ê ê 4294967296,Ê Ď 0,Æ Á 0 0] 105):=⟨E.O s F.fq,hC.C⟩;have re:=Kq.N G;have pH:¬y.q:=by rwa[Kq.q]
 have hgl:s<y.w.heap.size:=re.fv s<|Ã N.fq;clear hC E t1 F t wH A2 l₁;apply gk (n:=40) re.r;iterate 5 w_go fC
 refine Ë λ_ _=> ?_;refine Gk (p:=m) (off:=3) (v:=À<|Â ⟨s,0,Á⟩) (u:=À Á) U U (by k_ne) re.r pH L.fq (L.C U) (by simp[î,L.I]) U (λw r S=>by go_simp) (λw r S=>by simp[go_sem,á _ _ _ _ _ _ (show Ø (À<|Â ⟨s,0,Á⟩)=Ò from rfl),r,S]) ?_;have P:gh (λg=>g=m) l {y with w:=y.w.setCell ⟨m,3,Á⟩ (À<|Â ⟨s,0,Á⟩)}:=(Kq.fN λ_ _ q=>q.elim).fh (J5 (p:=m) re (fI.fT _ _) L.fq U jP λo Y=>kX Y);have B:hD {y with w:=y.w.setCell ⟨m,3,Á⟩ (À<|Â ⟨s,0,Á⟩)} m (É #[À<|Â ⟨k,0,Á⟩,Ê Î i,À<|Â ⟨b,0,Á⟩,À<|Â ⟨s,0,Á⟩] 155):=⟨L.fq,by show(y.w.setCell ⟨m,3,Á⟩<|À<|Â ⟨s,0,Á⟩).heap[m]?=_;unfold þ;simp[í,L.I]⟩;have g3:hD {y with w:=y.w.setCell ⟨m,3,Á⟩ (À<|Â ⟨s,0,Á⟩)} s (É #[Ê ê 4294967296,Ê Ď 0,Æ Á 0 0] 105):=⟨N.fq,(kX<|by show s≠m;omega).trans N.I⟩;have aib:s<({y with w:=y.w.setCell ⟨m,3,Á⟩ (À<|Â ⟨s,0,Á⟩)}:fe).w.heap.size:=by show s<(y.w.setCell ⟨m,3,Á⟩<|À<|Â ⟨s,0,Á⟩).heap.size;rwa[jP]
 generalize({y with w:=y.w.setCell ⟨m,3,Á⟩ (À<|Â ⟨s,0,Á⟩)}:fe)=kl at P B g3 aib|-;clear L N Kq re pH hgl y;have Q:=P.N G;have wE:¬kl.q:=by rwa[P.q]
 have Dp:∀f,v.ownBlock=Â f->kl.O f:=λf e=>P.O f<|hO f e;have Ki:kl.w.ownsRow 0 155 4 v n xs:=nJ ll λf e=>P.r f (Ã<|hO f e) λh=>sj<|h▸e;apply gk (n:=40) Q.r;iterate 3 w_go fC
 refine Ë λ_ _=> ?_;refine tH (v:=Đ #[À<|Â ⟨k,0,Á⟩,Ê Î i,À<|Â ⟨b,0,Á⟩,À<|Â ⟨s,0,Á⟩]) U U (by k_ne) Q.r wE (λD r=> ?_) (λD r e he=> ?_) ?_
 .skip;have g0:D.cell? ⟨m,0,Á⟩=Â (À<|Â ⟨k,0,Á⟩):=(gW.r (show gW kl ⟨m,0,Á⟩from Ã<|Ã B.fq) r).trans<|B.C U;have F:D.cell? ⟨m,1,Á⟩=Â (Ê Î i):=(gW.r (show gW kl ⟨m,1,Á⟩from Ã<|Ã B.fq) r).trans<|B.C U;have N:D.cell? ⟨m,2,Á⟩=Â (À<|Â ⟨b,0,Á⟩):=(gW.r (show gW kl ⟨m,2,Á⟩from Ã<|Ã B.fq) r).trans<|B.C U;have g3:D.cell? ⟨m,3,Á⟩=Â (À<|Â ⟨s,0,Á⟩):=(gW.r (show gW kl ⟨m,3,Á⟩from Ã<|Ã B.fq) r).trans<|B.C U;go_simp
 .have S:∀o,gW kl ⟨m,o,Á⟩:=λo=>Ã<|Ã B.fq;have g0:D.cell? ⟨m,0,Á⟩=Â (À<|Â ⟨k,0,Á⟩):=(gW.r (show gW kl ⟨m,0,Á⟩from Ã<|Ã B.fq) r).trans<|B.C U;have F:D.cell? ⟨m,1,Á⟩=Â (Ê Î i):=(gW.r (show gW kl ⟨m,1,Á⟩from Ã<|Ã B.fq) r).trans<|B.C U;have N:D.cell? ⟨m,2,Á⟩=Â (À<|Â ⟨b,0,Á⟩):=(gW.r (show gW kl ⟨m,2,Á⟩from Ã<|Ã B.fq) r).trans<|B.C U;have g3:D.cell? ⟨m,3,Á⟩=Â (À<|Â ⟨s,0,Á⟩):=(gW.r (show gW kl ⟨m,3,Á⟩from Ã<|Ã B.fq) r).trans<|B.C U;simp[go_sem,g0,F,N,g3]at he;rcases he with rfl|rfl|rfl|rfl
  .exact(S _).C
  .exact(S _).C
  .exact(S _).C
  .exact(S _).C
 walk_nrm;refine pJ (V:=λp=>Æ (Â ⟨p,0,Á⟩) 1 1) (ob:=É #[À<|Â ⟨k,0,Á⟩,Ê Î i,À<|Â ⟨b,0,Á⟩,À<|Â ⟨s,0,Á⟩] 155) U U (by k_ne) Q.r wE (λw=>by go_simp) (λw=>by simp[go_sem]) λS ve=> ?_;walk_nrm;have r:=nj (X:=fg) (ob:=É #[À<|Â ⟨k,0,Á⟩,Ê Î i,À<|Â ⟨b,0,Á⟩,À<|Â ⟨s,0,Á⟩] 155) Q ve;have p4:hD (gH kl S<|É #[À<|Â ⟨k,0,Á⟩,Ê Î i,À<|Â ⟨b,0,Á⟩,À<|Â ⟨s,0,Á⟩] 155) S.heap.size (É #[À<|Â ⟨k,0,Á⟩,Ê Î i,À<|Â ⟨b,0,Á⟩,À<|Â ⟨s,0,Á⟩] 155):=⟨Ç U,ni⟩;have wI:∀f,v.ownBlock=Â f->(gH kl S<|É #[À<|Â ⟨k,0,Á⟩,Ê Î i,À<|Â ⟨b,0,Á⟩,À<|Â ⟨s,0,Á⟩] 155).O f:=λf e=>Ã<|Dp f e;have A3:=nJ Ki (w₁:=(gH kl S<|É #[À<|Â ⟨k,0,Á⟩,Ê Î i,À<|Â ⟨b,0,Á⟩,À<|Â ⟨s,0,Á⟩] 155).w) λf e=>r.r f (Ã<|Dp f e) id;generalize gH kl S (É #[À<|Â ⟨k,0,Á⟩,Ê Î i,À<|Â ⟨b,0,Á⟩,À<|Â ⟨s,0,Á⟩] 155)=l₄ at r p4 wI A3|-;generalize S.heap.size=px at p4|-;have yE:=r.N Q;have A4:¬l₄.q:=by rwa[r.q]
 have Dn:Ä.info? 155=Â Ą:=ļ;refine J7 (v:=v) (us:=[À<|Â ⟨k,0,Á⟩,Ê Î i,À<|Â ⟨b,0,Á⟩,À<|Â ⟨s,0,Á⟩]) (px:=px) (c:=1) (n:=n) (sz:=4) (xs:=xs) (inf:=Ą) (z:=Đ #[À Á,Ê Î 0,À Á,À Á]) U U (by k_ne) yE A4 U U U Ľ Dn U U Z U U (by simp[Ą];omega) (by simp only[œ];omega) A3 wI p4.fq (λo u hu=>p4.C<|by simpa using hu) (by simp[Ø]) λGD A1 Kr A5 qa A6 wK rh=> ?_;walk_nrm;have k5:gh (λg=>Â g=v.ownBlock) l₄ (mr l₄ GD Kr):=J6 yE A5 A6 λf e=>⟨wI f e,e.symm⟩;have vf:gh (λg=>Â g=v.ownBlock) kl (mr l₄ GD Kr):=(r.fN λ_ _ q=>q.elim).fh k5;have QV:A1.ownBlock=v.ownBlock\/∃f,A1.ownBlock=Â f/\kl.w.heap.size<=f:=rh.imp id λq=>⟨_,q,Õ r.I A5.r⟩;have wL:(mr l₄ GD Kr).w.ownsRow 0 155 4 A1 (n+1) (xs++[À<|Â ⟨k,0,Á⟩,Ê Î i,À<|Â ⟨b,0,Á⟩,À<|Â ⟨s,0,Á⟩]):=qa;generalize mr l₄ GD Kr=sk at vf wL wK|-;clear r k5 A6 qa rh p4 yE A4 wI A3 A5 ve;have ri:=vf.N Q;have hw:Î.wrap ((i:Int)+1)=((i+1:Nat):Int):=by rw[AS Z Z];omega
 have g5:=g3.r vf<|Ye ll GB;have A8:gh (λg=>Â g=v.ownBlock\/g=m) l sk:=(P.fN λ_ _ q=>Ç q).fh (vf.fN λ_ _ q=>Ã q);apply gk (n:=40) ri.r;repeat w_go fC
 refine Ë λ_ _=> ?_;refine hJ sk _ A1 s A8 wL wK (QV.imp id λ⟨f,q1,q2⟩=>⟨f,q1,Z⟩) GB g5 ⟨U,U,U,U,U,U,?_⟩;simp[hw]
end
def il(kd:Nat->Int)(i:Nat):List Nat:=(ã i).filter λj=>decide<|kd j=1
def ju(kd:Nat->Int)(i:Nat):List Nat:=(ã i).filter λj=>decide<|kd j≠1
def fP(kd:Nat->Int)(i:Nat):Nat:=(il kd i).length
def tI(a g:Nat->Nat)(p:Nat×Nat):List Ï:=[À<|Â ⟨a p.1,0,Á⟩,Ê Î p.1,À<|Â ⟨g p.2,0,Á⟩,À<|Â ⟨g<|p.2+1,0,Á⟩]
def tQ(kd:Nat->Int)(a g:Nat->Nat)(p:Nat):List Ï:=[À<|Â ⟨a p,0,Á⟩,Ê Î p,À<|Â ⟨g<|fP kd p,0,Á⟩,À Á]
def jH(kd:Nat->Int)(rq g:Nat->Nat)(i:Nat):List Ï:=(il kd i).zipIdx.flatMap<|tI rq g
def my(kd:Nat->Int)(a g:Nat->Nat)(i:Nat):List Ï:=(ju kd i).flatMap<|tQ kd a g
section
variable{kd:Nat->Int}{rq g:Nat->Nat}
def Be(h:kd i=1):il kd (i+1)=il kd i++[i]:=by simp[il,ÿ,ā,h]
def Bf(h:kd i≠1):il kd (i+1)=il kd i:=by simp[il,ÿ,ā,h]
def QW(h:kd i=1):ju kd (i+1)=ju kd i:=by simp[ju,ÿ,ā,h]
theorem QX(h:kd i≠1):ju kd (i+1)=ju kd i++[i]:=by simp[ju,ÿ,ā,h]
def QY:∀i,fP kd i<=i:=λi=>by unfold fP il;exact Õ (ģ _ _) fp
def aic:∀i,(ju kd i).length<=i:=λi=>by unfold ju;exact Õ (ģ _ _) fp
def Yv(h:j<=i):fP kd j<=fP kd i:=by
 induction i with
 |zero=>
  have:j=0:=Z
  rw[this];exact Ú _
 |succ i c=>
  by_cases e:j=i+1
  .rw[e];exact Ú _
  .have a:=c Z;by_cases b:kd i=1
   .unfold fP at a|-;rw[Be b];simp;omega
   .unfold fP at a|-;rwa[Bf b]
def aie(h:kd i=1):jH kd rq g (i+1)=jH kd rq g i++tI rq g (i,fP kd i):=by unfold jH;rw[Be h,List.zipIdx_append,List.flatMap_append];simp[fP]
def aif(h:kd i≠1):jH kd rq g (i+1)=jH kd rq g i:=by unfold jH;rw[Bf h]
def aii(h:kd i=1):my kd rq g (i+1)=my kd rq g i:=by unfold my;rw[QW h]
theorem aij(h:kd i≠1):my kd rq g (i+1)=my kd rq g i++tQ kd rq g i:=by unfold my;grind [QX]
def QZ{α:Type}{f a:α->List Ï}:∀(l:List α),(∀x∈l,f x=a x)->l.flatMap f=l.flatMap a
 |[],_=>rfl
 |x::l,h=>by rw[Ć,Ć,h x List.mem_cons_self,QZ l λy b=>h y<|List.mem_cons_of_mem _ b]
def aik(h:∀k,k<=fP kd i->D k=g k):jH kd rq D i=jH kd rq g i:=by
 unfold jH;refine QZ _ λx a=> ?_;let⟨p,k⟩:=x;have b:=(List.mem_zipIdx a).2.1;have c:k<fP kd i:=by unfold fP;omega
 simp[tI,h k Z,h (k+1) Z]
def ail(h:∀k,k<=fP kd i->D k=g k):my kd rq D i=my kd rq g i:=by
 unfold my;refine QZ _ λp a=> ?_;have b:p<i:=by have:=(Ā.1 a).1;simpa using this
 simp[tQ,h (fP kd p)<|Yv Z]
def Q0{α:Type}{f:α->List Ï}(a:∀x,(f x).length=4)(b:i<4):∀(l:List α) (k:Nat) (x:α),l[k]?=Â x->(l.flatMap f)[k*4+i]?=(f x)[i]?
 |[],k,x,h=>by simp at h
 |y::l,0,x,h=>by
  obtain rfl:y=x:=by simpa using h
  rw[Ć,List.getElem?_append_left (by rw[a];omega)];simp
 |y::l,k+1,x,h=>by rw[Ć,List.getElem?_append_right (by rw[a];omega),a,show(k+1)*4+i-4=k*4+i by omega];exact Q0 a b l k x<|by simpa using h
end
section
variable{Y:Nat->Prop}{l m o:fe}
def gh.wN(h:gh X l m)(k:gh Y m o)(e:∀j,l.M j->¬Y j):gh X l o:= ⟨λj q=>k.O j<|h.O j q,λj q=>(k.c j q).elim (h.c j) λz=>Ç<|Õ h.I z,k.S.trans h.S,k.Y.trans h.Y,k.b.trans h.b,k.K.trans h.K,k.q.trans h.q,k.d.trans h.d,k.fv,Õ h.I k.I,λj c f=>(k.r j (h.M c)<|e j c).trans<|h.r j c f,λa b=>(k.f a<|by rwa[h.C]).trans<|h.f a b,λa b=>(k.g a<|by rwa[h.C]).trans<|h.g a b,λa b z=>k.e a (by rwa[h.K])<|h.e a b z⟩
end
abbrev Q5:Ÿ:=É #[Ê ê 4294967296,Ê Ď 0,Æ Á 0 0] 105
structure yH(kd:Nat->Int)(rq g:Nat->Nat)(S i:Nat)(iv qv:Ï)(l0 l:fe):Prop where
 r:gh fg l0 l
 jH:l.w.ownsRow 0 155 4 iv (fP kd i) (jH kd rq g i)
 my:l.w.ownsRow 0 155 4 qv (ju kd i).length (my kd rq g i)
 C:∀k,iv.ownBlock=Â k->l.O k/\l0.w.heap.size<=k
 I:∀k,qv.ownBlock=Â k->l.O k/\l0.w.heap.size<=k
 M:∀k,iv.ownBlock=Â k->qv.ownBlock≠Â k
 N:∀k,1<=k->k<=fP kd i->hD l (g k) Q5/\l0.w.heap.size<=g k/\iv.ownBlock≠Â (g k)/\qv.ownBlock≠Â (g k)
 g0:g 0<l0.w.heap.size
 S:g 0=S
 Y:∀k k',k<k'->k'<=fP kd i->g k<g k'
section
variable{kd:Nat->Int}{rq g:Nat->Nat}{iv qv:Ï}{l0 l m o:fe}
theorem yH.ain(h:yH kd rq g n i iv qv l0 l)(C:gw l0)(s:gw l)(t:kd i≠1)(a:gh fg l m)(d:gh (λb=>Â b=qv.ownBlock) m o)(G:o.w.ownsRow 0 155 4 v ((ju kd i).length+1) (fA.my kd rq g i++tQ kd rq g i))(D:∀k,v.ownBlock=Â k->o.O k)(u:v.ownBlock=qv.ownBlock\/∃k,v.ownBlock=Â k/\m.w.heap.size<=k):yH kd rq g n (i+1) iv v l0 o:=by
 have p:fP kd (i+1)=fP kd i:=by unfold fP;rw[Bf t]
 have x:∀{j},l.O j->qv.ownBlock≠Â j->v.ownBlock≠Â j:=λ{j} c hn e=>by
  rcases u with z|⟨k,q,B⟩
  .grind
  .rw[q]at e;have:=Ó e;have:=(λc=>È (s.fv _<|Ã c) a.I) c;omega
 refine⟨(h.r.fh a).wN d λj c e=> ?_,?_,?_,λk e=>⟨d.O k<|a.O k (h.C k e).1,(h.C k e).2⟩,λk e=>⟨D k e,?_⟩,λk e=>x (h.C k e).1<|h.M k e,λk r f=> ?_,h.g0,h.S,λk y r f=>h.Y k y r<|by rwa[<-p]⟩
 .have:=(h.I j e.symm).2;have:=C.fv j c;omega
 .rw[p,aif t];refine nJ h.jH λk e=>(d.r k (Ã<|a.O k (h.C k e).1) λz=>h.M k e z.symm).trans<|a.r k (Ã (h.C k e).1) id
 .grind [QX,aij]
 .rcases u with z|⟨y,q,B⟩
  .rw[z]at e;exact(h.I k e).2
  .rw[q]at e;have:=Ó e;have:=h.r.I;have:=a.I;omega
 .rw[p]at f;let⟨q,E,F,B⟩:=h.N k r f;exact⟨(q.r a id).r d λz=>B z.symm,E,F,x q.fq B⟩
theorem yH.kF{tb:Nat}(h:yH kd rq g n i iv qv l0 l)(F:gw l0)(s:gw l)(a:kd i=1)(c:gh fg l m)(P:l.w.heap.size<=tb)(p:gh (λb=>Â b=iv.ownBlock\/b=tb) m o)(G:o.w.ownsRow 0 155 4 v (fP kd i+1) (fA.jH kd rq g i++[À<|Â ⟨rq i,0,Á⟩,Ê Î i,À<|Â ⟨g<|fP kd i,0,Á⟩,À<|Â ⟨J,0,Á⟩]))(H:∀k,v.ownBlock=Â k->o.O k)(u:v.ownBlock=iv.ownBlock\/∃k,v.ownBlock=Â k/\J<k)(Q:m.w.heap.size<=J)(I:hD o J Q5):yH kd rq (λk=>if k<=fP kd i then g k else J) n (i+1) v qv l0 o:=by
 have x:fP kd (i+1)=fP kd i+1:=by unfold fP;rw[Be a];simp
 have S:=h.r.I;have T:=c.I;have d:∀{j},l.O j->j<l.w.heap.size:=λq=>s.fv _<|Ã q;have B:∀{j},l.O j->iv.ownBlock≠Â j->v.ownBlock≠Â j:=λ{j} q hn e=>by grind
 have C:∀k,k<=fP kd i->(if k<=fP kd i then g k else J)=g k:=λk a=>if_pos a;refine⟨(h.r.fh c).wN p λj q e=> ?_,?_,?_,λk e=>⟨H k e,?_⟩,λk e=>⟨p.O k<|c.O k (h.I k e).1,(h.I k e).2⟩,λk e z=>B (h.I k z).1 (λy=>h.M k y z) e,λk t D=> ?_,?_,?_,λk r t D=> ?_⟩
 .have:=F.fv j q;rcases e with e|e
  .have:=(h.C j e.symm).2;omega
  .omega
 .rw[x,aie a,aik C];simpa[tI,show¬(fP kd i+1<=fP kd i) by omega]using G
 .rw[QW a,aii a,ail C];refine nJ h.my λk e=> ?_;refine(p.r k (Ã<|c.O k (h.I k e).1) ?_).trans<|c.r k (Ã (h.I k e).1) id;rintro(z|z)
  .exact h.M k z.symm e
  .have:=d (h.I k e).1;omega
 .rcases u with z|⟨r,K,L⟩
  .rw[z]at e;exact(h.C k e).2
  .grind
 .by_cases y:k<=fP kd i
  .simp only[if_pos y];let⟨f,M,E,N⟩:=h.N k t y;refine⟨(f.r c id).r p ?_,M,B f.fq E,N⟩;rintro(z|z)
   .exact E z.symm
   .have:=d f.fq;omega
  .simp only[if_neg y];refine⟨I,Z,λe=> ?_,λe=> ?_⟩
   .rcases u with z|⟨r,K,L⟩
    .rw[z]at e;have:=d (h.C J e).1;omega
    .grind
   .have:=d (h.I J e).1;omega
 .simp only[ă,if_true];exact h.g0
 .simp only[ă,if_true];exact h.S
 .rw[x]at D;by_cases y:r<=fP kd i
  .simp only[if_pos y,if_pos (show k<=fP kd i by omega)];exact h.Y k r t y
  .simp only[if_neg y,if_pos (show k<=fP kd i by omega)];by_cases E:k=0
   .subst E;have:=h.g0;omega
   .let⟨f,_⟩:=h.N k Z Z;have:=d f.fq;omega
end
section
variable{J:Jd}{ra:Option â}{rb cr R:Nat}{cs:List é}{kd:Nat->Int}{rq:Nat->Nat}{l0:fe}
def Q6(j:gw l0)(u:¬l0.q)(v:l0.d=0)(m:R<1000)(p:0<R->ra=Â ⟨rb,0,Á⟩)(x:0<R->l0.M rb)(y:∀i,i<R->l0.w.cell? ⟨rb,i,Á⟩=Â (À<|Â ⟨rq i,0,Á⟩))(r:∀i,i<R->l0.M (rq i))(z:∀i,i<R->l0.w.cell? ⟨rq i,4,Á⟩=Â (Ê Î<|kd i)) (B:∀g N P a b,yH kd rq g n R a b l0 N->PT a b (Æ ra R cr) (g<|fP kd R) R R P->fj Ä Ò J N (Bd P cs)): ∀d i,R=i+d->∀g l t a b,yH kd rq g n i a b l0 l->PT a b (Æ ra R cr) (g<|fP kd i) R i t->fj Ä Ò J l (Bd t cs)
 |0,i,hi,g,l,t,a,b,hP,hT=>by obtain rfl:R=i:=hi;exact B g l t a b hP hT
 |d+1,i,hi,g,l,t,a,b,hP,hT=>by
  have f:i<R:=Z
  have o:=hP.r.N j;have Q:¬l.q:=by rwa[hP.r.q]
  have S:=x Z;refine ah8 o Q (by rwa[<-p Z]) f m (hP.r.M S) ((gL<|hP.r.r rb S id).trans<|y i f) (hP.r.M<|r i f) ((gL<|hP.r.r _ (r i f) id).trans<|z i f) λl1 t1 T c sj V C W s=> ?_;rw[<-p Z]at C;have X:=c.N o;have Y:¬l1.q:=by rwa[c.q]
  have hc:=QY (kd:=kd) i;have hcq:=aic (kd:=kd) i;by_cases h:kd i=1
  .rw[decide_eq_false (by simpa using h)]at s;refine aia X Y (by rwa[c.d,hP.r.d]) C f m W s Z V (nJ hP.jH λk e=>c.r k (Ã (hP.C k e).1) id) (λk e=>c.O k (hP.C k e).1) (λe=>by have:=o.fv T<|Ã (hP.C T e).1;omega) λD E iv' gt F G H I GB hg K=> ?_;apply Q6 j u v m p x y r z B d (i+1) Z _ D E iv' b (hP.kF j o h c sj F G H I GB hg);have L:fP kd (i+1)=fP kd i+1:=by unfold fP;rw[Be h];simp
   rw[L];simp only[show¬(fP kd i+1<=fP kd i) by omega,if_false];exact K
  .rw[decide_eq_true (by simpa using h)]at s;refine ah9 X Y C f m W s Z V (nJ hP.my λk e=>c.r k (Ã (hP.I k e).1) id) (λk e=>c.O k (hP.I k e).1) λD E e F G H I K=> ?_;apply Q6 j u v m p x y r z B d (i+1) Z _ D E a e (hP.ain j o h c F G H I);have L:fP kd (i+1)=fP kd i:=by unfold fP;rw[Bf h]
   rwa[L]
end
noncomputable def Yw:Ę:=lk Ĝ []
noncomputable def Yx (a b:Ï) (c:List é):Ý:=G ((base 46).at ⟨#[a,b,Å,Å,Å,Å,Å,Å,Å,Å,Å,Å,Å,Å,Å,Å,Å,Å,Å,Å,Å,Å,Å,Å,Å,Å,Å,Å,Å,Å,Å,Å,Å,Å,Å,Å,Å,Å,Å,Å,Å,Å,Å,Å,Å,Å,Å,Å],[]⟩ [ö Yw]) c
def aio{c:é}{d:ŏ}{k:List ŷ}{K:Ý->ß->Array ž->Prop}{t u v:Tmp}(g:f.kind=Ğ)(j:y.defers=[])(l:P.funcs[f.fn]?=Â s)(e:s.results=#[.tmp t,.tmp u,.tmp v]) (h:K (G (c.at (d.put ((Q[i]?).bind (·.dst))<|ñ #[y.tmps.getD t Å,y.tmps.getD u Å,y.tmps.getD v Å])<|Ñ Q jJ::k) qX) w #[]): (stepG P yQ (G {f.at y L with mode:=.returning}<|c.at d (Ñ Q (i::jJ)::k)::qX) w).goes K:=by rwa[stepG_leave g j l (v:=ñ #[y.tmps.getD t Å,y.tmps.getD u Å,y.tmps.getD v Å]) (by simp[results,e,go_sem]) (by simp[results,e,go_sem]),Ģ]
structure GG(kd:Nat->Int)(rq g:Nat->Nat)(R:Nat)(iv qv sv:Ï)(l l':fe):Prop where
 Y:gh fg l l'
 jH:l'.w.ownsRow 0 155 4 iv (fP kd R) (jH kd rq g R)
 my:l'.w.ownsRow 0 155 4 qv (ju kd R).length (my kd rq g R)
 r:∀k,iv.ownBlock=Â k->l'.O k/\l.w.heap.size<=k
 C:∀k,qv.ownBlock=Â k->l'.O k/\l.w.heap.size<=k
 dis:∀k,iv.ownBlock=Â k->qv.ownBlock≠Â k
 N:hD l' (g 0) (É #[Ê ê 0,Ê Ď 0,sv] 105)
 I:∀k,1<=k->k<=fP kd R->hD l' (g k) Q5
 M:∀k,k<=fP kd R->l.w.heap.size<=g k/\iv.ownBlock≠Â (g k)/\qv.ownBlock≠Â (g k)
 S:∀k k',k<k'->k'<=fP kd R->g k<g k'
def aip(w:ß)(a:Option â)(b c:Nat):(Ċ 105 #[(1,Æ a b c)]).run Ä w=.ok (Đ #[Ê ê 0,Ê Ď 0,Æ a b c]) w:=run_build w 105 _ _ fW
def aiq(w:ß)(a:Option â)(b c:Nat):(Ċ 105 #[(1,Æ a b c)]).events Ä w #[]=#[]:=by unfold Ċ;simp only[Sem.events_bind];simp[go_sem]
section
variable{J:Jd}{l:fe}{ra:Option â}{rb cr R:Nat}{sa:Option â}{sn sc:Nat}{k:List ŷ}{kd:Nat->Int}{rq:Nat->Nat}
def air(j:gw l)(u:¬l.q)(I:l.d=0)(K:R<1000)(L:0<R->ra=Â ⟨rb,0,Á⟩)(z:0<R->l.M rb)(N:∀i,i<R->l.w.cell? ⟨rb,i,Á⟩=Â (À<|Â ⟨rq i,0,Á⟩))(B:∀i,i<R->l.M (rq i))(O:∀i,i<R->l.w.cell? ⟨rq i,4,Á⟩=Â (Ê Î<|kd i)) (P:∀g s b c,GG kd rq g R b c (Æ sa sn sc) l s->fj Ä Ò J s (G (f.at (y.put ((Q[i]?).bind (·.dst))<|ñ #[b,c,À<|Â ⟨g<|fP kd R,0,Á⟩])<|Ñ Q jJ::k) qX)): fj Ä Ò J l (Yx (Æ ra R cr) (Æ sa sn sc)<|f.at y (Ñ Q (i::jJ)::k)::qX):=by
 have hF:=trivial;apply gk (n:=40) j.r;simp only[Yx];conv in Yw=>whnf
 repeat w_go fC
 refine Ë λ_ _=> ?_;refine tH (v:=Đ #[Ê ê 0,Ê Ď 0,Æ sa sn sc]) U U (by k_ne) j.r u (λa r=> ?_) (λa r e p=> ?_) ?_
 .have h:=aip a sa sn sc;go_simp
 .have h:=aiq a sa sn sc;simp[go_sem,h]at p
 walk_nrm;refine pJ (V:=λp=>À<|Â ⟨p,0,Á⟩) (ob:=É #[Ê ê 0,Ê Ď 0,Æ sa sn sc] 105) U U (by k_ne) j.r u (λw=>by go_simp) (λw=>by simp[go_sem]) λa C=> ?_;walk_nrm;have p:gh fg l (gH l a<|É #[Ê ê 0,Ê Ď 0,Æ sa sn sc] 105):=nj j C;have t:hD (gH l a<|É #[Ê ê 0,Ê Ď 0,Æ sa sn sc] 105) a.heap.size (É #[Ê ê 0,Ê Ď 0,Æ sa sn sc] 105):=⟨Ç U,ni⟩;have D:=C.r;generalize gH l a (É #[Ê ê 0,Ê Ď 0,Æ sa sn sc] 105)=l₁ at p t|-;generalize a.heap.size=gt at t D|-;have m:=p.N j;have S:¬l₁.q:=by rwa[p.q]
 apply gk (n:=40) m.r;repeat w_bar fC
 w_go fC
 refine Ë λ_ _=> ?_;have T:=m.fv gt<|Ã t.fq;refine Q6 m S (by rwa[p.d]) K L (λh=>p.M<|z h) (λi h=>(gL<|p.r rb (z Z) id).trans<|N i h) (λi h=>p.M<|B i h) (λi h=>(gL<|p.r _ (B i h) id).trans<|O i h) (λg s W b c h r=> ?_) R 0 Z (λ_=>gt) l₁ _ (Æ Á 0 0) (Æ Á 0 0) ⟨gh.fT m.r,⟨U,Ã ⟨U,U⟩⟩,⟨U,Ã ⟨U,U⟩⟩,λk e=>(by cases e),λk e=>(by cases e),λk e=>(by cases e),λk x o=> ?_,T,rfl,λk X x o=> ?_⟩ ⟨rfl,rfl,rfl,rfl,rfl,rfl,rfl⟩
 .have Y:=h.r.N m;obtain⟨y0,y1,y2,y3,E,F,y6,y7,y8,y9,wC,yz,wD,qW,sd,qk,u7,u9,tM,tN,tO,se,sf,si,qR,rW,qS,oR,nV,pA,pB,pC,tq,rX,rY,qT,qU,tu,tw,tx,tA,tB,tC,tD,tE,tF,pD,pE,rfl⟩:=Kp W r.r;obtain rfl:b=E:=(show E=b by simpa using r.N).symm;obtain rfl:c=F:=(show F=c by simpa using r.S).symm;obtain rfl:y6=À (Â ⟨g<|fP kd R,0,Á⟩):=by simpa using r.Y
  obtain rfl:qW=Æ ra R cr:=by simpa using r.C
  obtain rfl:sd=Ê Î R:=by simpa using r.I
  obtain rfl:qk=Ê Î R:=by simpa using r.M
  have gN:¬((R:Int)<(R:Int)):=Z
  apply gk (n:=40) Y.r;simp only[Bd];conv in Gz=>whnf
  conv in QP=>whnf
  repeat w_go fC
  u_in fC hF
  refine aio U U ų U ⟨by u_nil,?_⟩;walk_nrm;refine Ë λ_ _=> ?_;have H:=h.S;refine P g s b c ⟨p.fh h.r,h.jH,h.my,λk e=>⟨(h.C k e).1,Õ p.I (h.C k e).2⟩,λk e=>⟨(h.I k e).1,Õ p.I (h.I k e).2⟩,h.M,H▸t.r h.r id,λk x o=>(h.N k x o).1,λk hk=> ?_,h.Y⟩;by_cases h0:k=0
  .subst h0;rw[H];exact⟨D,λe=>by have:=(h.C _ e).2;omega,λe=>by have:=(h.I _ e).2;omega⟩
  .let⟨_,a2,a3,a4⟩:=h.N k Z hk;exact⟨Õ p.I a2,a3,a4⟩
 .have:k<=0:=o;omega
 .have:X<=0:=o;omega
end
noncomputable def Yy:Ę:=lk Tryz.f37 []
noncomputable def Dq (a b:Ï) (n:Nat) (c:List é):Ý:=G ((base 37).at ⟨#[a,b,Ê Î n,Å,Å,Å,Å,Å,Å,Å,Å,Å,Å,Å,Å,Å,Å,Å,Å,Å,Å,Å,Å,Å,Å,Å,Å,Å,Å,Å,Å,Å,Å,Å,Å,Å,Å,Å,Å,Å,Å,Å,Å,Å,Å,Å,Å,Å,Å],[]⟩ [ö Yy]) c
def GG.wN{kd:Nat->Int}{rq:Nat->Nat}{R:Nat}{l a b:fe}(h:GG kd rq D R v x z l a)(k:gh fg a b):GG kd rq D R v x z l b:= ⟨h.Y.fh k,nJ h.jH λj e=>k.r j (Ã (h.r j e).1) id,nJ h.my λj e=>k.r j (Ã (h.C j e).1) id,λj e=>⟨k.O j (h.r j e).1,(h.r j e).2⟩,λj e=>⟨k.O j (h.C j e).1,(h.C j e).2⟩,h.dis,h.N.r k id,λj c d=>(h.I j c d).r k id,h.M,h.S⟩
abbrev wO(R:Nat):Ÿ:=É (madeCells (Ŵ<|à ⟨#[]⟩) R) 9
structure Ks(kd:Nat->Int)(rq g:Nat->Nat)(R:Nat)(iv qv sv:Ï)(an ba bi all bw bf:Nat)(l lp l':fe):Prop where
 C:gh fg l l'
 r:GG kd rq g R iv qv sv lp l'
 I:hD l' an (wO R)
 a:hD l' ba (É #[Æ (Â ⟨an,0,Á⟩) R R] 25)
 c:hD l' bi (É #[iv] 85)
 Y:hD l' all (É #[Ê ê 4294967296,Ê Ď 0] 97)
 d:hD l' bw (É #[À<|Â ⟨all,0,Á⟩] 162)
 b:hD l' bf (É #[Ĉ (ù 48) #[] #[À<|Â ⟨bi,0,Á⟩,À<|Â ⟨ba,0,Á⟩]] 1)
 M:l.w.heap.size<=an/\an<ba/\ba<lp.w.heap.size
 N:∀k,k<=fP kd R->g k<bi
 o3:∀k,iv.ownBlock=Â k->k<bi
 o4:∀k,qv.ownBlock=Â k->k<bi
 S:bi<all/\all<bw/\bw<bf
section
variable{J:Jd}{l:fe}{ra:Option â}{rb cr R:Nat}{sa:Option â}{sn sc:Nat}{kd:Nat->Int}{rq:Nat->Nat}
def ais(C:gw l)(G:¬l.q)(hd:l.d=0)(hR:R<1000)(GH:0<R->ra=Â ⟨rb,0,Á⟩)(vg:0<R->l.M rb)(GI:∀i,i<R->l.w.cell? ⟨rb,i,Á⟩=Â (À<|Â ⟨rq i,0,Á⟩))(Js:∀i,i<R->l.M (rq i))(GJ:∀i,i<R->l.w.cell? ⟨rq i,4,Á⟩=Â (Ê Î<|kd i)) (hJ:∀g lp l' t iv qv H y z D W bf v1,Ks kd rq g R iv qv (Æ sa sn sc) H y z D W bf l lp l'->Gv y D (g<|fP kd R) n qv t->J l' (A0 (À<|Â ⟨D,0,Á⟩) v1 (À<|Â ⟨D,0,Á⟩) (ñ #[]) W bf<|Dm t::qX)): fj Ä Ò J l (Dq (Æ sa sn sc) (Æ ra R cr) n qX):=by
 have hF:True:=trivial;have Kt:Ä.info? 9=Â Ġ:=Tryz.type9;have OA:∀w:ß,(Ŏ 25 (Ê Î (R:Int))<|Ê Î (R:Int)).run Ä w=.ok (Æ (Â ⟨w.heap.size,0,Á⟩) R R) (w.alloc<|wO R):=λw=>by have:=run_makeSlice (P:=Ä) w 25 9 Ġ (à ⟨#[]⟩) ľ Kt U Î Î (R:Int) (R:Int) Z Z (by simp[Ġ];omega) (by simp[Ġ];omega) Z;simpa[Ġ]using this
 have hme:∀w:ß,(Ŏ 25 (Ê Î (R:Int))<|Ê Î (R:Int)).events Ä w #[]=#[]:=λw=>
  events_make (P:=Ä) w 25 9 Ġ (à ⟨#[]⟩) ľ Kt U Î Î (R:Int) (R:Int) Z Z (by simp[Ġ];omega) Z (by simp[Ġ];omega) _
 apply gk (n:=40) C.r;simp only[Dq];conv in Yy=>whnf
 repeat w_go fC
 refine Ë λ_ _=> ?_;refine pJ (V:=λp=>Æ (Â ⟨p,0,Á⟩) R R) (ob:=wO R) U U (by k_ne) C.r G (λw=>by have k:=OA w;go_simp) (λw=>by have k:=hme w;simp[go_sem,k]) λc m=> ?_;walk_nrm;have a:=nj (X:=fg) (ob:=wO R) C m;have r:hD (gH l c<|wO R) c.heap.size (wO R):=⟨Ç U,ni⟩;have han:l.w.heap.size<=c.heap.size:=m.r;generalize gH l c (wO R)=l1 at a r|-;generalize c.heap.size=H at r han|-;clear m c;have Q7:gh fg l l1:=a;have Q8:=Q7.N C;have ait:¬l1.q:=by rwa[Q7.q]
 have asJ:l.w.heap.size<=l1.w.heap.size:=a.I;clear a;have lan:=Q8.fv H<|Ã r.fq;refine pJ (V:=λp=>À<|Â ⟨p,0,Á⟩) (ob:=É #[Æ Á 0 0] 25) U U (by k_ne) Q8.r ait (λw=>by go_simp) (λw=>by simp[go_sem]) λc m=> ?_;walk_nrm;have a:=nj (X:=fg) (ob:=É #[Æ Á 0 0] 25) Q8 m;have f:hD (gH l1 c<|É #[Æ Á 0 0] 25) c.heap.size (É #[Æ Á 0 0] 25):=⟨Ç U,ni⟩;have Yz:l1.w.heap.size<=c.heap.size:=m.r;generalize gH l1 c (É #[Æ Á 0 0] 25)=l2 at a f|-;generalize c.heap.size=y at f Yz|-;clear m c;have Q9:gh fg l l2:=Q7.fh a;replace r:=r.r a id;have Ra:=Q9.N C;have aiu:¬l2.q:=by rwa[Q9.q]
 have asK:l1.w.heap.size<=l2.w.heap.size:=a.I;clear a;have lba:=Ra.fv y<|Ã f.fq;refine Gk (p:=y) (off:=0) (v:=Æ (Â ⟨H,0,Á⟩) R R) (u:=Æ Á 0 0) U U (by k_ne) Ra.r aiu f.fq (f.C U) (by simp[î,f.I]) U (λw o F=>by go_simp) (λw o F=>by simp[go_sem,á _ _ _ _ _ _ (show Ø (Æ (Â ⟨H,0,Á⟩) R R)=Ò from rfl),o,F]) ?_;have a:=J5 (X:=λb=>b=y) (p:=y) (w':=l2.w.setCell ⟨y,0,Á⟩<|Æ (Â ⟨H,0,Á⟩) R R) Ra (fI.fT _ _) f.fq U jP λj E=>kX E;replace f:hD ({l2 with w:=l2.w.setCell ⟨y,0,Á⟩ (Æ (Â ⟨H,0,Á⟩) R R)}:fe) y (É #[Æ (Â ⟨H,0,Á⟩) R R] 25):=⟨f.fq,by show(l2.w.setCell ⟨y,0,Á⟩<|Æ (Â ⟨H,0,Á⟩) R R).heap[y]?=_;unfold þ;simp[í,f.I]⟩;generalize({l2 with w:=l2.w.setCell ⟨y,0,Á⟩ (Æ (Â ⟨H,0,Á⟩) R R)}:fe)=l3 at a f|-;have S:gh fg l l3:=Q9.wN a λj E e=>by have:=C.fv j E;omega
 replace r:=r.r a Z;have YA:=S.N C;have aiv:¬l3.q:=by rwa[S.q]
 have asL:l2.w.heap.size<=l3.w.heap.size:=a.I;clear a;apply gk (n:=20) YA.r;iterate 5 w_go fC
 u_call ų fW Ĝ fC hF
 refine Ë λ_ _=> ?_;refine air (l:=l3) (kd:=kd) (rq:=rq) (ra:=ra) (rb:=rb) (cr:=cr) (R:=R) (sa:=sa) (sn:=sn) (sc:=sc) YA aiv (by rwa[S.d]) hR GH (λh=>S.M<|vg h) (λi k=>(gL<|S.r rb (vg Z) id).trans<|GI i k) (λi k=>S.M<|Js i k) (λi k=>(gL<|S.r _ (Js i k) id).trans<|GJ i k) λg B iv qv T=> ?_;walk_nrm;have a:=T.Y;have Rb:gh fg l B:=S.fh a;replace r:=r.r a id;replace f:=f.r a id;have L:=Rb.N C;have aiw:¬B.q:=by rwa[Rb.q]
 have asM:l3.w.heap.size<=B.w.heap.size:=a.I;clear a;have aix:gh fg B B:=gh.fT L.r;obtain⟨I,K,rfl⟩:∃I K,iv=Æ I (fP kd R) K:=by
  rcases T.jH.2 with⟨k,s⟩|⟨b,N,Q,k,_⟩
  .exact⟨Á,0,by rwa[s]⟩
  .exact⟨_,_,k⟩
 have og:∀k,k<=fP kd R->g k<B.w.heap.size:=λk hk=>by
  by_cases s:k=0
  .subst s;exact L.fv _<|Ã T.N.fq
  .exact L.fv _<|Ã (T.I k Z hk).fq
 have oi:∀k,(Æ I (fP kd R) K).ownBlock=Â k->k<B.w.heap.size:=λk e=>L.fv _<|Ã (T.r k e).1;have oq:∀k,qv.ownBlock=Â k->k<B.w.heap.size:=λk e=>L.fv _<|Ã (T.C k e).1;apply gk (n:=20) L.r;iterate 4 w_go fC
 refine Ë λ_ _=> ?_;refine pJ (V:=λp=>À<|Â ⟨p,0,Á⟩) (ob:=É #[Æ Á 0 0] 85) U U (by k_ne) L.r aiw (λw=>by go_simp) (λw=>by simp[go_sem]) λc m=> ?_;walk_nrm;have a:=nj (X:=fg) (ob:=É #[Æ Á 0 0] 85) L m;have s:hD (gH B c<|É #[Æ Á 0 0] 85) c.heap.size (É #[Æ Á 0 0] 85):=⟨Ç U,ni⟩;have Rc:B.w.heap.size<=c.heap.size:=m.r;generalize gH B c (É #[Æ Á 0 0] 85)=l5 at a s|-;generalize c.heap.size=z at s Rc|-;clear m c;have Re:gh fg l l5:=Rb.fh a;have aiy:gh fg B l5:=aix.fh a;replace r:=r.r a id;replace f:=f.r a id;have Rf:=Re.N C;have aiz:¬l5.q:=by rwa[Re.q]
 have asN:B.w.heap.size<=l5.w.heap.size:=a.I;clear a;have lbi:=Rf.fv z<|Ã s.fq;refine Gk (p:=z) (off:=0) (v:=Æ I (fP kd R) K) (u:=Æ Á 0 0) U U (by k_ne) Rf.r aiz s.fq (s.C U) (by simp[î,s.I]) U (λw o F=>by go_simp) (λw o F=>by simp[go_sem,á _ _ _ _ _ _ (show Ø (Æ I (fP kd R) K)=Ò from rfl),o,F]) ?_;have a:=J5 (X:=λb=>b=z) (p:=z) (w':=l5.w.setCell ⟨z,0,Á⟩<|Æ I (fP kd R) K) Rf (fI.fT _ _) s.fq U jP λj E=>kX E;replace s:hD ({l5 with w:=l5.w.setCell ⟨z,0,Á⟩ (Æ I (fP kd R) K)}:fe) z (É #[Æ I (fP kd R) K] 85):=⟨s.fq,by show(l5.w.setCell ⟨z,0,Á⟩<|Æ I (fP kd R) K).heap[z]?=_;unfold þ;simp[í,s.I]⟩;generalize({l5 with w:=l5.w.setCell ⟨z,0,Á⟩ (Æ I (fP kd R) K)}:fe)=l6 at a s|-;have Rh:gh fg l l6:=Re.wN a λj E e=>by have:=C.fv j E;omega
 have aiA:gh fg B l6:=aiy.wN a λj E e=>by have:=L.fv j E;omega
 replace r:=r.r a Z;replace f:=f.r a Z;have Ri:=Rh.N C;have aiB:¬l6.q:=by rwa[Rh.q]
 have asO:l5.w.heap.size<=l6.w.heap.size:=a.I;clear a;apply gk (n:=20) Ri.r;iterate 5 w_go fC
 refine Ë λ_ _=> ?_;refine pJ (V:=λp=>À<|Â ⟨p,0,Á⟩) (ob:=É #[Ê ê 0,Ê Ď 0] 97) U U (by k_ne) Ri.r aiB (λw=>by go_simp) (λw=>by simp[go_sem]) λc m=> ?_;walk_nrm;have a:=nj (X:=fg) (ob:=É #[Ê ê 0,Ê Ď 0] 97) Ri m;have F:hD (gH l6 c<|É #[Ê ê 0,Ê Ď 0] 97) c.heap.size (É #[Ê ê 0,Ê Ď 0] 97):=⟨Ç U,ni⟩;have pI:l6.w.heap.size<=c.heap.size:=m.r;generalize gH l6 c (É #[Ê ê 0,Ê Ď 0] 97)=l7 at a F|-;generalize c.heap.size=D at F pI|-;clear m c;have Rj:gh fg l l7:=Rh.fh a;have aiC:gh fg B l7:=aiA.fh a;replace r:=r.r a id;replace f:=f.r a id;replace s:=s.r a id;have Ku:=Rj.N C;have aiD:¬l7.q:=by rwa[Rj.q]
 have asP:l6.w.heap.size<=l7.w.heap.size:=a.I;clear a;have asQ:=Ku.fv D<|Ã F.fq;apply gk (n:=20) Ku.r;iterate 4 w_go fC
 u_call Ħ fW Μ fC hF
 iterate 2 w_go fC
 refine Ë λ_ _=> ?_;refine pJ (V:=λp=>À<|Â ⟨p,0,Á⟩) (ob:=É #[À<|Â ⟨D,0,Á⟩] 162) U U (by k_ne) Ku.r aiD (λw=>by go_simp) (λw=>by simp[go_sem]) λc m=> ?_;walk_nrm;have a:=nj (X:=fg) (ob:=É #[À<|Â ⟨D,0,Á⟩] 162) Ku m;have N:hD (gH l7 c<|É #[À<|Â ⟨D,0,Á⟩] 162) c.heap.size (É #[À<|Â ⟨D,0,Á⟩] 162):=⟨Ç U,ni⟩;have A9:l7.w.heap.size<=c.heap.size:=m.r;generalize gH l7 c (É #[À<|Â ⟨D,0,Á⟩] 162)=l8 at a N|-;generalize c.heap.size=W at N A9|-;clear m c;have Rk:gh fg l l8:=Rj.fh a;have aiE:gh fg B l8:=aiC.fh a;replace r:=r.r a id;replace f:=f.r a id;replace s:=s.r a id;replace F:=F.r a id;have Rl:=Rk.N C;have aiF:¬l8.q:=by rwa[Rk.q]
 have asR:l7.w.heap.size<=l8.w.heap.size:=a.I;clear a;have lbw:=Rl.fv W<|Ã N.fq;refine pJ (V:=λp=>À<|Â ⟨p,0,Á⟩) (ob:=É #[Ĉ (ù 48) #[] #[À<|Â ⟨z,0,Á⟩,À<|Â ⟨y,0,Á⟩]] 1) U U (by k_ne) Rl.r aiF (λw=>by go_simp) (λw=>by simp[go_sem]) λc m=> ?_;walk_nrm;have a:=nj (X:=fg) (ob:=É #[Ĉ (ù 48) #[] #[À<|Â ⟨z,0,Á⟩,À<|Â ⟨y,0,Á⟩]] 1) Rl m;have Y:hD (gH l8 c<|É #[Ĉ (ù 48) #[] #[À<|Â ⟨z,0,Á⟩,À<|Â ⟨y,0,Á⟩]] 1) c.heap.size (É #[Ĉ (ù 48) #[] #[À<|Â ⟨z,0,Á⟩,À<|Â ⟨y,0,Á⟩]] 1):=⟨Ç U,ni⟩;have Km:l8.w.heap.size<=c.heap.size:=m.r;generalize gH l8 c (É #[Ĉ (ù 48) #[] #[À<|Â ⟨z,0,Á⟩,À<|Â ⟨y,0,Á⟩]] 1)=l9 at a Y|-;generalize c.heap.size=bf at Y Km|-;clear m c;have Kv:gh fg l l9:=Rk.fh a;have aiG:gh fg B l9:=aiE.fh a;replace r:=r.r a id;replace f:=f.r a id;replace s:=s.r a id;replace F:=F.r a id;replace N:=N.r a id;have GK:=Kv.N C;have YB:¬l9.q:=by rwa[Kv.q]
 have asS:l8.w.heap.size<=l9.w.heap.size:=a.I;clear a;have lbf:=GK.fv bf<|Ã Y.fq;apply gk (n:=20) GK.r;iterate 3 w_go fC
 refine Ë λ_ _=> ?_;apply nW (x:=⟨W,0,Á⟩) U U (by k_ne) GK.r YB (Ã<|Ã N.fq) (N.C U) (λw h=>by go_simp) (λw h=>by simp[go_sem,h]);walk_nrm;apply gk (n:=20) GK.r;u_call qj.f_add (nm_add Lk) addFn fC hF;refine Ë λ_ _=> ?_;refine Yp qj GK YB (by rwa[Kv.d]) F.fq F.I U U λQ hC=> ?_;walk_nrm;have a:gh (λb=>b=D) l9 Q:=hC.r;replace F:hD Q D (É #[Ê ê 4294967296,Ê Ď 0] 97):=⟨hC.r.O D F.fq,hC.C⟩;have Rm:gh fg l Q:=Kv.wN a λj E e=>by have:=C.fv j E;omega
 have aiH:gh fg B Q:=aiG.wN a λj E e=>by have:=L.fv j E;omega
 replace r:=r.r a Z;replace f:=f.r a Z;replace s:=s.r a Z;replace N:=N.r a Z;replace Y:=Y.r a Z;have aiI:=Rm.N C;have asT:¬Q.q:=by rwa[Rm.q]
 have asU:l9.w.heap.size<=Q.w.heap.size:=a.I;clear a;apply gk (n:=20) aiI.r;iterate 3 w_go fC
 refine Ë λ_ _=> ?_;refine .fB λyF wM=> ?_;have at9:∀{b:Nat} {o:Ÿ},hD Q b o->hD ({Q with w:=yF}:fe) b o:=λh=>⟨h.fq,(wM.I _<|Ã h.fq).trans h.I⟩;exact hJ g l3 {Q with w:=yF} _ (Æ I (fP kd R) K) qv H y z D W bf _ ⟨Rm.G wM,T.wN<|aiH.G wM,at9 r,at9 f,at9 s,at9 F,at9 N,at9 Y,⟨Z,Z,Z⟩,λk hk=>by have:=og k hk;omega,λk e=>by have:=oi k e;omega,λk e=>by have:=oq k e;omega,⟨Z,Z,Z⟩⟩ ⟨U,U,U,U,U,U⟩
end
def aiJ{md:ý}{listed:Array Bool}(h:Û md Q listed=[]):∀(a t:Nat),ë md Q a t listed []=[]:=by
 intro a t;cases a with
 |zero=>rfl
 |succ a=>
  simp only[ë];change(match(Û md Q listed)[t%(Û md Q listed).length]? with
   |some i=>ë md Q a (t/(Û md Q listed).length) (listed.setIfInBounds i Ò) [i]
   |none=>[].reverse)=[]
  rw[h];rfl
section
variable{J:Jd}{l:fe}
def YC{md:ý}(I:Array Bool->ŏ->fe->Prop) (p:∀b a l i k,I b a l->b.size=Q.size->i∈Û md Q b->(Û md Q (b.setIfInBounds i Ò)=[]->k=[])->fj P yQ (λg m=>(∃h,m=G (f.at h<|Ñ Q k::L) qX/\I (b.setIfInBounds i Ò) h g)\/fj P yQ J g m) l (G (f.at a<|Ñ Q (i::k)::L) qX)) (o:∀b a l,I b a l->b.size=Q.size->Û md Q b=[]->fj P yQ J l (G (f.at a<|Ñ Q []::L) qX)): ∀(c t:Nat) (b:Array Bool) (a:ŏ) (l:fe),b.size=Q.size->jl b<=c->I b a l->fj P yQ J l (G (f.at a<|Ñ Q (ë md Q c t b [])::L) qX):=by
 intro c
 induction c with
 |zero=>
  intro t b a l d q j;simpa[ë]using o b a l j d<|Qh d Z
 |succ c r=>
  intro t b a l d q j;simp only[ë];change fj P yQ J l (G (f.at a (Ñ Q (match(Û md Q b)[t%(Û md Q b).length]? with
   |some i=>ë md Q c (t/(Û md Q b).length) (b.setIfInBounds i Ò) [i]
   |none=>[].reverse)::L)) qX)
  cases n:(Û md Q b)[t%(Û md Q b).length]? with
  |none=>
   have s:Û md Q b=[]:=by
    cases u:Û md Q b with
    |nil=>rfl
    |cons x e=>
     rw[u]at n;have v:t%(x::e).length<(x::e).length:=ĵ _ fp;simp at n;simp at v;omega
   simpa using o b a l j d s
  |some i=>
   simp only[];rw[linearise_go_acc,List.reverse_singleton,List.singleton_append];have x:=ħ n;refine(p b a l i _ j d x λe=>aiJ e _ _).lQ ?_;rintro g m (⟨h,rfl,hI'⟩|hW)
   .exact r _ _ h g (by simpa using d) (by have:=JR (mem_ready.1 x).1;omega) hI'
   .exact hW
def aiK{id:Nat}(I:Array Bool->ŏ->fe->Prop)(o:j2 l)(p:¬l.q) (g:∀c,fI l l.w c->I (Array.replicate Q.size Ì) y {l with w:={c with drawn:=c.drawn+1}}) (h:∀d b y l i e,I b y l->b.size=Q.size->i∈Û d Q b->(Û d Q (b.setIfInBounds i Ò)=[]->e=[])->fj P yQ (λj k=>(∃m,k=G (f.at m<|Ñ Q e::L) qX/\I (b.setIfInBounds i Ò) m j)\/fj P yQ J j k) l (G (f.at y<|Ñ Q (i::e)::L) qX)) (n:∀d b y l,I b y l->b.size=Q.size->Û d Q b=[]->fj P yQ J l (G (f.at y<|Ñ Q []::L) qX)): fj P yQ J l (G (f.at y<|ö (ä id Q Ò)::L) qX):=by
 refine .mk U λc r=>⟨_,_,_,_,stepG_region_draw,Qg (mq o r) p,?_⟩;unfold Region.schedule;split
 .exact YC I (h _) (n _) _ _ _ _ _ fp (by rw[CX];exact Ú _)<|g c r
 .exact YC I (h _) (n _) _ _ _ _ _ fp (by rw[CX];exact Ú _)<|g c r
end
def Bg:å:=⟨Â 15,ę<|Ù 1,100, "work.go:72",#[],Á⟩
def Bh:å:=⟨Â 16,ę<|Ù 4,3, "work.go:72",#[],Á⟩
def Bj:å:=⟨Â 17,ę<|Ù 1,100, "work.go:72",#[],Á⟩
def wP:å:=⟨Â 18,Ě {callee:=Ŕ .len,args:=#[Ù 17],argTypes:=#[100]},3, "work.go:72",#[⟨2,Ü⟩],Á⟩
def tS:å:=⟨Â 19,Λ .rem 3 (Ù 16) (Ù 18) 3,3, "work.go:72",#[⟨1,Ü⟩,⟨3,Ü⟩],Á⟩
def tT:å:=⟨Â 20,ő 100 (Ù 15)<|Ù 19,0, "work.go:72",#[⟨0,Ü⟩,⟨4,Ü⟩],Á⟩
def wR:å:=⟨Â 21,ć 101<|Ù 20,101, "work.go:72",#[⟨5,Ü⟩],Á⟩
def Bl:å:=⟨Â 22,ć 155<|Ù 5,155, "work.go:72",#[],Á⟩
def wS:å:=⟨Á,.send (Ù 21)<|Ù 22,0, "work.go:72",#[⟨6,Ü⟩,⟨7,Ü⟩],Á⟩
def nL:Array å:=#[Bg,Bh,Bj,wP,tS,tT,wR,Bl,wS]
noncomputable def Kw:Ę:=lk Ŗ [1,1,0,0]
noncomputable def YD:Ę:=lk Ŗ [1]
noncomputable def Kx:Ę:=lk Ŗ [0,1,0,0]
noncomputable def Bm (t:Array Ï) (a:List é):Ý:=G ((base 52).at ⟨t,[]⟩ [ö Kx,ą Kx,ô 0,ö YD]) a
structure DT(dv:Ï)(qb:Option â)(q cq i:Nat)(t:Array Ï):Prop where
 r:t.size=32
 C:t[1]?=Â dv
 t8:t[8]?=Â (Æ qb q cq)
 M:t[9]?=Â (Ê Î q)
 I:t[10]?=Â (Ê Î i)
def GM(t:Array Ï)(h:t.size=32):∃a b c d e f g i j k l m n o p q r s u v w x y z B C D E F G H I:Ï,t=#[a,b,c,d,e,f,g,i,j,k,l,m,n,o,p,q,r,s,u,v,w,x,y,z,B,C,D,E,F,G,H,I]:=by obtain⟨_,rfl⟩:=u6 t h;exact⟨_,_,_,_,_,_,_,_,_,_,_,_,_,_,_,_,_,_,_,_,_,_,_,_,_,_,_,_,_,_,_,_,U⟩
def tU(c n i a d:Nat)(b tk:Ï)(_:Unit):Nat->Ï
 |0=>b
 |1=>Ê Î i
 |2=>b
 |3=>Ê Î n
 |4=>Ê Î a
 |5=>À<|Â ⟨c,a,Á⟩
 |6=>è<|Â d
 |7=>tk
 |_=>Å
def Ky(a:fe)(listed:Array Bool)(_:Unit)(l:fe):Prop:=iC fg a l/\¬listed.getD 8 Ì=Ò
section
variable{J N:Jd}{p:fe}{g s:Nat}{u:Option â}
def aiL(Dr:gw p)(hq:¬p.q)(ht:d.size=32)(AP:d[1]?=Â (Æ (Â ⟨j9,0,Á⟩) n j))(Gf:d[4]?=Â (Ê Î i))(Qm:d[5]?=Â (À<|Â ⟨g,0,Á⟩))(z:p.O g)(T:p.O j9)(hn:0<n)(vh:n<1000)(hi1:i<1000) (YE:i%n=j6) (V:p.w.cell? ⟨j9,j6,Á⟩=Â (è<|Â m)) (W:p.w.cell? ⟨g,0,Á⟩=Â (À u)) (X:p.w.cell? ⟨g,1,Á⟩=Â (Ê Î s)) (Y:p.w.cell? ⟨g,2,Á⟩=Â (À<|Â ⟨j7,0,Á⟩)) (c3:p.w.cell? ⟨g,3,Á⟩=Â (À O)) (hJ:∀l H,iC fg p l->H.size=32->(∀c,c<15->H[c]?=d[c]?)->zZ Ä Ò m (Đ #[À u,Ê Î s,À<|Â ⟨j7,0,Á⟩,À O]) N l (G ((base 52).at ⟨H,[]⟩<|Ñ nL [8]::L) qX)->J l (G ((base 52).at ⟨H,[]⟩<|Ñ nL [8]::L) qX)) (hN:∀l H,iC fg p l->H.size=32->(∀c,c<15->H[c]?=d[c]?)->fj Ä Ò N l (G ((base 52).at ⟨H,[]⟩<|Ñ nL []::L) qX)) (md:ý) (listed:Array Bool) (a:ŏ) (l:fe) (i':Nat) (rest:List Nat) (hI:II nL d (tU j9 n i j6 m (Æ (Â ⟨j9,0,Á⟩) n j)<|Đ #[À u,Ê Î s,À<|Â ⟨j7,0,Á⟩,À O]) (Ky p) listed a l) (j1:listed.size=nL.size) (C:i'∈Û md nL listed) (GN:Û md nL (listed.setIfInBounds i' Ò)=[]->rest=[]): fj Ä Ò (λD F=>(∃Q,F=G ((base 52).at Q<|Ñ nL rest::L) qX/\II nL d (tU j9 n i j6 m (Æ (Â ⟨j9,0,Á⟩) n j)<|Đ #[À u,Ê Î s,À<|Â ⟨j7,0,Á⟩,À O]) (Ky p) (listed.setIfInBounds i' Ò) Q D)\/fj Ä Ò J D F) l (G ((base 52).at a<|Ñ nL (i'::rest)::L) qX):=by
 let⟨x,t,S,h8⟩:=hI;have I:tJ nL d.size=Ò:=by rw[ht];decide
 have gN:=CY C;have K:=S.fv;have M:¬l.q:=by rwa[S.q]
 have nh:a.tmps[1]?=Â (Æ (Â ⟨j9,0,Á⟩) n j):=(t.C A).trans AP;have QO:a.tmps[4]?=Â (Ê Î i):=(t.C A).trans Gf;have tL:a.tmps[5]?=Â (À<|Â ⟨g,0,Á⟩):=(t.C A).trans Qm;have y:∀b f v,p.O b->p.w.cell? ⟨b,f,Á⟩=Â v->gW l ⟨b,f,Á⟩/\l.w.cell? ⟨b,f,Á⟩=Â v:=λb f v E h=>⟨Ã<|Ã<|S.O b E,by rwa[gL<|S.r b<|Ã E]⟩;have P:∀{k:Nat},k≠8->∀B,fI l l.w B->Ky p (listed.setIfInBounds k Ò) () {l with w:=B}:=λhm B r=>⟨S.N (λ_ q=>q.elim) r,by rwa[ç Ì hm]⟩;have aiM:j6<n:=by rw[<-YE];exact ĵ _ hn
 have aiN:(j6:Int)<(n:Int):=Z
 have GO:¬(n:Int)=0:=Z
 have aiO:¬n=0:=Z
 have htm:Int.tmod (i:Int) (n:Int)=(j6:Int):=by rw[Int.tmod_eq_emod_of_nonneg Z,<-YE];simp
 have ov:Î.wrap (j6:Int)=(j6:Int):=AS Z Z;have Kz:nL.size=9:=A
 rw[Kz]at gN;match i',gN with
 |0,_=>
  refine(ij (o:=Bg) I t U U C (by k_ne) K M (λB r=> ?_) (λB r e D=> ?_)<|P A).fN λ_ _ h=>Ã h
  .simp only[tU,Bg];go_simp
  .simp[go_sem,Bg,nh]at D
 |1,_=>
  refine(ij (o:=Bh) I t U U C (by k_ne) K M (λB r=> ?_) (λB r e D=> ?_)<|P A).fN λ_ _ h=>Ã h
  .simp only[tU,Bh];go_simp
  .simp[go_sem,Bh,QO]at D
 |2,_=>
  refine(ij (o:=Bj) I t U U C (by k_ne) K M (λB r=> ?_) (λB r e D=> ?_)<|P A).fN λ_ _ h=>Ã h
  .simp only[tU,Bj];go_simp
  .simp[go_sem,Bj,nh]at D
 |3,_=>
  have F:a.tmps[17]?=Â (Æ (Â ⟨j9,0,Á⟩) n j):=t.r 2 Bj 17 U (ie (o:=wP) C U U) U;refine(ij (o:=wP) I t U U C (by k_ne) K M (λB r=> ?_) (λB r e D=> ?_)<|P A).fN λ_ _ h=>Ã h
  .simp only[tU,wP];go_simp
  .simp[go_sem,wP,F]at D
 |4,_=>
  have F:a.tmps[16]?=Â (Ê Î i):=t.r 1 Bh 16 U (ie (o:=tS) C U U) U;have Q:a.tmps[18]?=Â (Ê Î n):=t.r 3 wP 18 U (ie (o:=tS) C U U) U;refine(ij (o:=tS) I t U U C (by k_ne) K M (λB r=> ?_) (λB r e D=> ?_)<|P A).fN λ_ _ h=>Ã h
  .simp only[tU,tS];go_simp
  .simp[go_sem,tS,F,Q,GO,aiO,htm,ov]at D
 |5,_=>
  have F:a.tmps[15]?=Â (Æ (Â ⟨j9,0,Á⟩) n j):=t.r 0 Bg 15 U (ie (o:=tT) C U U) U;have Q:a.tmps[19]?=Â (Ê Î j6):=t.r 4 tS 19 U (ie (o:=tT) C U U) U;refine(ij (o:=tT) I t U U C (by k_ne) K M (λB r=> ?_) (λB r e D=> ?_)<|P A).fN λ_ _ h=>Ã h
  .simp only[tU,tT];go_simp
  .simp[go_sem,tT,F,Q,aiM,aiN]at D
 |6,_=>
  have Q:a.tmps[20]?=Â (À<|Â ⟨j9,j6,Á⟩):=t.r 5 tT 20 U (ie (o:=wR) C U U) U;refine(ij (o:=wR) I t U U C (by k_ne) K M (λB r=> ?_) (λB r e D=> ?_)<|P A).fN λ_ _ h=>Ã h
  .have F:=((y j9 _ _ T V).1.r r).trans (y j9 _ _ T V).2;simp only[tU,wR];go_simp
  .have F:=((y j9 _ _ T V).1.r r).trans (y j9 _ _ T V).2;have hee:e=⟨û ⟨j9,j6,Á⟩,Ì,Ì⟩:=by simp[go_sem,wR,F,Q]at D;exact D
   subst hee;exact(y j9 _ _ T V).1.C
 |7,_=>
  refine(ij (o:=Bl) I t U U C (by k_ne) K M (λB r=> ?_) (λB r e D=> ?_)<|P A).fN λ_ _ h=>Ã h
  .have F:=((y g _ _ z W).1.r r).trans (y g _ _ z W).2;have Q:=((y g _ _ z X).1.r r).trans (y g _ _ z X).2;have qn:=((y g _ _ z Y).1.r r).trans (y g _ _ z Y).2;have tR:=((y g _ _ z c3).1.r r).trans (y g _ _ z c3).2;simp only[tU,Bl];go_simp
  .have F:=((y g _ _ z W).1.r r).trans (y g _ _ z W).2;have Q:=((y g _ _ z X).1.r r).trans (y g _ _ z X).2;have qn:=((y g _ _ z Y).1.r r).trans (y g _ _ z Y).2;have tR:=((y g _ _ z c3).1.r r).trans (y g _ _ z c3).2;simp[go_sem,Bl,tL,F,Q,qn,tR]at D;rcases D with rfl|rfl|rfl|rfl
   .exact(y g _ _ z W).1.C
   .exact(y g _ _ z X).1.C
   .exact(y g _ _ z Y).1.C
   .exact(y g _ _ z c3).1.C
 |8,_=>
  have d6:=ie (j:=6) (o:=wS) C U U;have d7:=ie (j:=7) (o:=wS) C U U;have QA:a.tmps[21]?=Â (è<|Â m):=t.r 6 wR 21 U d6 U;have F6:a.tmps[22]?=Â (Đ #[À u,Ê Î s,À<|Â ⟨j7,0,Á⟩,À O]):=t.r 7 Bl 22 U d7 U;have d5:=t.I (j:=5) (o:=wR) U d6 U;have d0:=t.I (j:=0) (o:=tT) U d5 U;have d4:=t.I (j:=4) (o:=tT) U d5 U;have d1:=t.I (j:=1) (o:=tS) U d4 U;have d3:=t.I (j:=3) (o:=tS) U d4 U;have d2:=t.I (j:=2) (o:=wP) U d3 U;have pI:Û md nL (listed.setIfInBounds 8 Ò)=[]:=by
   rw[List.eq_nil_iff_forall_not_mem];intro f hj;have GQ:=CY hj;have F:=Qk hj;rw[Kz]at GQ;by_cases Q:f=8
   .subst Q;have D:8<listed.size:=by rw[j1,Kz];decide
    simp[D]at F
   .rw[ç Ò<|Ne.symm Q]at F;have D:=wA F;match f,GQ,Q with
    |0,_,_=>exact D d0
    |1,_,_=>exact D d1
    |2,_,_=>exact D d2
    |3,_,_=>exact D d3
    |4,_,_=>exact D d4
    |5,_,_=>exact D d5
    |6,_,_=>exact D d6
    |7,_,_=>exact D d7
    |8,_,h=>exact h U
  obtain rfl:=GN pI;let⟨F,ds⟩:=a;obtain rfl:ds=[]:=t.M;have GR:F.size=32:=t.S.trans ht;have KA:∀c,c<15->F[c]?=d[c]?:=λc hd=>t.b c λf o E _ e=>by
   have GQ:=(æ.1 E).1;rw[Kz]at GQ;match f,GQ with
   |0,_=>
    have D:o=Bg:=(Ó<|show Â Bg=Â o from E).symm;rw[D]at e;have Q:15=c:=Ó (show Â 15=Â c from e);omega
   |1,_=>
    have D:o=Bh:=(Ó<|show Â Bh=Â o from E).symm;rw[D]at e;have Q:16=c:=Ó (show Â 16=Â c from e);omega
   |2,_=>
    have D:o=Bj:=(Ó<|show Â Bj=Â o from E).symm;rw[D]at e;have Q:17=c:=Ó (show Â 17=Â c from e);omega
   |3,_=>
    have D:o=wP:=(Ó<|show Â wP=Â o from E).symm;rw[D]at e;have Q:18=c:=Ó (show Â 18=Â c from e);omega
   |4,_=>
    have D:o=tS:=(Ó<|show Â tS=Â o from E).symm;rw[D]at e;have Q:19=c:=Ó (show Â 19=Â c from e);omega
   |5,_=>
    have D:o=tT:=(Ó<|show Â tT=Â o from E).symm;rw[D]at e;have Q:20=c:=Ó (show Â 20=Â c from e);omega
   |6,_=>
    have D:o=wR:=(Ó<|show Â wR=Â o from E).symm;rw[D]at e;have Q:21=c:=Ó (show Â 21=Â c from e);omega
   |7,_=>
    have D:o=Bl:=(Ó<|show Â Bl=Â o from E).symm;rw[D]at e;have Q:22=c:=Ó (show Â 22=Â c from e);omega
   |8,_=>
    have D:o=wS:=(Ó<|show Â wS=Â o from E).symm;rw[D]at e;cases(show Á=Â c from e)
  refine .fB λB r=>Ç (.fB λzV D=> ?_);have Q:iC fg p ({l with w:=zV}:fe):=S.N (λ_ q=>q.elim)<|r.fh ⟨D.r,D.I,D.N,D.Y,D.S⟩;refine hJ _ F Q GR KA ⟨U,U,λD=>⟨ñ #[],?_⟩,?_⟩
  .refine(Ż (cases:=#[scase m (Đ #[À u,Ê Î s,À<|Â ⟨j7,0,Á⟩,À O])<|ñ #[]]) (blocking:=Ò) (shape:=.send) (w':=D) (o:=wS) rfl rfl (by k_ne) ?_).trans ?_
   .simp[go_sem,wS,ĉ,scase,ĥ,QA,F6]
   .have:ŗ Ä (base 52).fn ⟨F,[]⟩ wS D=#[]:=by
     unfold ŗ;simp[go_sem,wS,ĉ,ĥ,QA,F6,Ī]
    rw[this]
  .have e:({G ((base 52).at ⟨F,[]⟩<|Ñ nL [8]::L) qX with frame:=(G ((base 52).at ⟨F,[]⟩<|Ñ nL [8]::L) qX).frame.finish Å}:Ý)=G ((base 52).at ⟨F,[]⟩<|Ñ nL []::L) qX:=by
    have:(G ((base 52).at ⟨F,[]⟩<|Ñ nL [8]::L) qX).frame.finish Å=(base 52).at (Ο ⟨F,[]⟩ Á Å) (Ñ nL []::L):=Ģ _ _ _ _ _ _ _;rw[this];rfl
   rw[e];exact hN _ F Q GR KA
 |n+9,h=>exact absurd h Z
end
section
variable{N:Jd}{l:fe}{f:Option â}
theorem aiP(s:gw l)(K:¬l.q)(G:DT (Æ (Â ⟨J,0,Á⟩) n j) (Â ⟨j6,0,Á⟩) b m i d)(hiq:i<b)(A2:b<1000)(hn:0<n)(vh:n<1000)(YF:l.O J)(cd:l.w.cell? ⟨J,i%n,Á⟩=Â (è<|Â k))(Rn:l.M j6) (i0:l.w.cell? ⟨j6,i*4,Á⟩=Â (À f)) (i1:l.w.cell? ⟨j6,i*4+1,Á⟩=Â (Ê Î j7)) (i2:l.w.cell? ⟨j6,i*4+2,Á⟩=Â (À<|Â ⟨j9,0,Á⟩)) (i3:l.w.cell? ⟨j6,i*4+3,Á⟩=Â (À O)) (hN:∀t H,iC fg l t->DT (Æ (Â ⟨J,0,Á⟩) n j) (Â ⟨j6,0,Á⟩) b m (i+1) H->fj Ä Ò N t (Bm H qX)): fj Ä Ò (zZ Ä Ò k (Đ #[À f,Ê Î j7,À<|Â ⟨j9,0,Á⟩,À O]) N) l (Bm d qX):=by
 obtain⟨y0,y1,y2,y3,y4,y5,y6,y7,y8,y9,wC,yz,wD,qW,sd,qk,u7,u9,tM,tN,tO,se,sf,si,qR,rW,qS,oR,nV,pA,pB,pC,rfl⟩:=GM d G.r;obtain rfl:y1=Æ (Â ⟨J,0,Á⟩) n j:=by simpa using G.C
 obtain rfl:y8=Æ (Â ⟨j6,0,Á⟩) b m:=by simpa using G.t8
 obtain rfl:y9=Ê Î b:=by simpa using G.M
 obtain rfl:wC=Ê Î i:=by simpa using G.I
 have qY:∀y:â,False->l.r y:=λy ha=>ha.elim;have asV:(i:Int)<(b:Int):=Z
 have hF:True:=trivial;simp only[Bm];conv in Kx=>whnf
 apply gk (n:=30) s.r;repeat w_go fC
 refine Ë λ_ _=> ?_;have g:∀c,gW l ⟨j6,c,Á⟩:=λc=>Ã Rn;refine tH (v:=Đ #[À f,Ê Î j7,À<|Â ⟨j9,0,Á⟩,À O]) U U (by k_ne) s.r K (λo r=> ?_) (λo r e h=> ?_) ?_
 .have u:=((g<|i*4).r r).trans i0;have z:=((g<|i*4+1).r r).trans i1;have B:=((g<|i*4+2).r r).trans i2;have C:=((g<|i*4+3).r r).trans i3;go_simp
 .have u:=((g<|i*4).r r).trans i0;have z:=((g<|i*4+1).r r).trans i1;have B:=((g<|i*4+2).r r).trans i2;have C:=((g<|i*4+3).r r).trans i3;simp[go_sem,u,z,B,C]at h;rcases h with rfl|rfl|rfl|rfl
  .exact(g _).C
  .exact(g _).C
  .exact(g _).C
  .exact(g _).C
 walk_nrm;refine F7 (ob:=É #[À Á,Ê Î 0,À Á,À Á] 155) U U (by k_ne) s.r K (λw=>by go_simp) (λw=>by simp[go_sem]) λo X=> ?_;walk_nrm;have D:iC fg l (gH l o<|É #[À Á,Ê Î 0,À Á,À Á] 155):=JY s qY X;have L:(gH l o<|É #[À Á,Ê Î 0,À Á,À Á] 155).w.heap[o.heap.size]?=Â (É #[À Á,Ê Î 0,À Á,À Á] 155):=ni;have sj:l.w.heap.size<=o.heap.size:=X.r;have q:(gH l o<|É #[À Á,Ê Î 0,À Á,À Á] 155).O o.heap.size:=Ç U;generalize gH l o (É #[À Á,Ê Î 0,À Á,À Á] 155)=l₁ at D L q|-;generalize o.heap.size=tb at L q sj|-;apply gk (n:=3) D.fv;w_go fC;refine Ë λ_ _=> ?_;refine uY U U (by k_ne) λr P=> ?_;have E:r.heap[tb]?=_:=(P.I tb<|Ã q).trans L;have u:r.cell? ⟨tb,0,Á⟩=Â (À Á):=by simp[Ö,E]
 have z:r.cell? ⟨tb,1,Á⟩=Â (Ê Î 0):=by simp[Ö,E]
 have B:r.cell? ⟨tb,2,Á⟩=Â (À Á):=by simp[Ö,E]
 have C:r.cell? ⟨tb,3,Á⟩=Â (À Á):=by simp[Ö,E]
 have hz:∀c,r.frozen? ⟨tb,c,Á⟩=Ì:=λc=>by simp[î,E]
 go_simp;refine⟨{l₁ with w:=iR r tb (À f) (Ê Î j7) (À<|Â ⟨j9,0,Á⟩) (À O)},JZ (p:=tb) (mq D.fv P) (by rwa[D.q]) q wB (λc x=>yw x) ⟨U,U,U⟩ λe h=> ?_,?_⟩
 .have a:=đ h;have e:∀c,pF l₁ ⟨tb,c,Á⟩:=λc=>Ã q;simp[go_sem,á _ _ _ _ _ _ (show Ø (À f)=Ò from rfl),á _ _ _ _ _ _ (show Ø (À<|Â ⟨j9,0,Á⟩)=Ò from rfl),á _ _ _ _ _ _ (show Ø (À O)=Ò from rfl),u,z,B,C,hz]at a;rcases a with rfl|rfl|rfl|rfl
  .exact(e _).r
  .exact(e _).r
  .exact(e _).r
  .exact(e _).r
 let⟨Q,S,T,V⟩:=Qt (v0:=À f) (v1:=Ê Î j7) (v2:=À<|Â ⟨j9,0,Á⟩) (v3:=À O) u z B C;have F:=Qu (w':=iR r tb (À f) (Ê Î j7) (À<|Â ⟨j9,0,Á⟩)<|À O) s qY D P sj wB λc x=>yw x;have AT:({l₁ with w:=iR r tb (À f) (Ê Î j7) (À<|Â ⟨j9,0,Á⟩) (À O)}:fe).O tb:=q;replace Q:({l₁ with w:=iR r tb (À f) (Ê Î j7) (À<|Â ⟨j9,0,Á⟩) (À O)}:fe).w.cell? ⟨tb,0,Á⟩=_:=Q;replace S:({l₁ with w:=iR r tb (À f) (Ê Î j7) (À<|Â ⟨j9,0,Á⟩) (À O)}:fe).w.cell? ⟨tb,1,Á⟩=_:=S;replace T:({l₁ with w:=iR r tb (À f) (Ê Î j7) (À<|Â ⟨j9,0,Á⟩) (À O)}:fe).w.cell? ⟨tb,2,Á⟩=_:=T;replace V:({l₁ with w:=iR r tb (À f) (Ê Î j7) (À<|Â ⟨j9,0,Á⟩) (À O)}:fe).w.cell? ⟨tb,3,Á⟩=_:=V;generalize({l₁ with w:=iR r tb (À f) (Ê Î j7) (À<|Â ⟨j9,0,Á⟩) (À O)}:fe)=l₂ at Q S T V F AT|-;clear L q D E u z B C hz P r l₁ X o;have W:=F.G s;have pH:¬l₂.q:=by rwa[F.q]
 have cd2:l₂.w.cell? ⟨J,i%n,Á⟩=Â (è<|Â k):=(gL<|F.r J<|Ã YF).trans cd;apply gk (n:=5) W.r;w_go fC;refine Ë λ_ _=> ?_;refine aiK (II nL #[y0,Æ (Â ⟨J,0,Á⟩) n j,y2,y3,Ê Î i,À<|Â ⟨tb,0,Á⟩,y6,y7,Æ (Â ⟨j6,0,Á⟩) b m,Ê Î b,Ê Î i,ŝ Ò,Ê Î i,À<|Â ⟨j6,i*4,Á⟩,Đ #[À f,Ê Î j7,À<|Â ⟨j9,0,Á⟩,À O],qk,u7,u9,tM,tN,tO,se,sf,si,qR,rW,qS,oR,nV,pA,pB,pC] (tU J n i (i%n) k (Æ (Â ⟨J,0,Á⟩) n j)<|Đ #[À f,Ê Î j7,À<|Â ⟨j9,0,Á⟩,À O])<|Ky l₂) W.r pH (λa x=> ?_) (λY listed a t i' rest hI I e GN=>aiL (J:=zZ Ä Ò k (Đ #[À f,Ê Î j7,À<|Â ⟨j9,0,Á⟩,À O]) N) (N:=N) W pH U U U U AT (F.O J YF) hn vh Z U cd2 Q S T V (λl H _ _ _ h=>h) (λt H hA hs h=> ?_) Y listed a t i' rest hI I e GN) λY listed a kl hI I yA=> ?_
 .exact⟨(),mK.G _ _ _,(iC.fT W.r).N (λ_ b=>b.elim) ⟨x.r,x.I,x.N,x.Y,x.S⟩,A⟩
 .have x:=F.fh hA;have a:=(h 1 A).trans (show _=Â (Æ (Â ⟨J,0,Á⟩) n j)from U);have o8:=(h 8 A).trans (show _=Â (Æ (Â ⟨j6,0,Á⟩) b m)from U);have o9:=(h 9 A).trans (show _=Â (Ê Î b)from U);have o10:=(h 10 A).trans (show _=Â (Ê Î i)from U);clear h;obtain⟨x0,x1,x2,x3,x4,x5,x6,x7,x8,x9,XZ,x11,x12,x13,x14,x15,x16,x17,x18,x19,x20,x21,x22,x23,x24,x25,x26,x27,x28,x29,x30,x31,rfl⟩:=GM H hs;obtain rfl:x1=Æ (Â ⟨J,0,Á⟩) n j:=by simpa using a
  obtain rfl:x8=Æ (Â ⟨j6,0,Á⟩) b m:=by simpa using o8
  obtain rfl:x9=Ê Î b:=by simpa using o9
  obtain rfl:XZ=Ê Î i:=by simpa using o10
  apply gk (n:=9) x.fv;iterate 7 w_go fC
  refine Ë λ_ _=> ?_;refine hN t _ x ⟨U,U,U,U,?_⟩;simp;grind [AS]
 .let⟨x,a,h,h8⟩:=hI;have pI:∀i∈ã 9,listed.getD i Ì=Ò:=by
   cases Y
   .exact pG yA I (ã 9) [] fW λi e=>by cases e
   .exact pG yA I (ã 9) [] fW λi e=>by cases e
   .exact pG yA I (ã 9) [] fW λi e=>by cases e
  grind
end
noncomputable def Bn (t:Array Ï) (a:List é):Ý:=G ((base 52).at ⟨t,[]⟩ [ö Kw,ą Kw,ô 2]) a
structure ET(dv:Ï)(n j:Nat)(t:Array Ï):Prop where
 r:t.size=32
 aiQ:t[24]?=Â dv
 C:t[25]?=Â (Ê Î n)
 I:t[26]?=Â (Ê Î j)
def GU(t:Array Ï):é:=(base 37).at ⟨t,[]⟩ [Ñ Ka [2],ö<|(ä 13 Kb Ì).seq Ke]
def Ds(t:Array Ï)(a:List é):Ý:=G ((base 37).at ⟨t,[]⟩ [Ñ Kb [],ö Ke]) a
structure SE(ba all nK:Nat)(t:Array Ï):Prop where
 r:t.size=49
 I:t[8]?=Â (À<|Â ⟨ba,0,Á⟩)
 C:t[11]?=Â (À<|Â ⟨nK,0,Á⟩)
 QH:t[12]?=Â (À<|Â ⟨all,0,Á⟩)
section
variable{J a N:Jd}{l:fe}{t:Array Ï}{ba all nK:Nat}{dv:Ï}
def aiR(e:j2 l)(a:ST ba all nK n n (Æ O k j9) dv t)(f:∀b d,DT dv O k j9 0 b->SE ba all nK d->fj Ä Ò J l (Bm b<|GU d::qX)):fj Ä Ò J l (AZ t qX):=by
 obtain⟨p,q,r,s,u,v,w,x,g,y,h,i,j,c,z,B,C,D,E,F,G,H,I,K,L,M,N,m,o,P,Q,S,T,V,W,X,Y,tu,tw,tx,tA,tB,tC,tD,tE,tF,pD,pE,wy,rfl⟩:=Gw t a.r;obtain rfl:g=À (Â ⟨ba,0,Á⟩):=by simpa using a.a
 obtain rfl:h=Æ O k j9:=by simpa using a.C
 obtain rfl:i=À (Â ⟨nK,0,Á⟩):=by simpa using a.I
 obtain rfl:j=À (Â ⟨all,0,Á⟩):=by simpa using a.M
 obtain rfl:dv=c:=(show c=dv by simpa using a.N).symm;obtain rfl:m=Ê Î n:=by simpa using a.S
 obtain rfl:o=Ê Î n:=by simpa using a.Y
 have hF:True:=trivial;apply gk (n:=40) e;simp only[AZ,Dl,QF];iterate 7 w_go fC
 simp only[Kf,Ka];iterate 4 w_go fC
 u_call ŵ fW Ŗ fC hF
 iterate 9 w_go fC
 refine Ë λ_ _=> ?_;exact f _ _ ⟨U,U,U,U,U⟩ ⟨U,U,U,U⟩
def aiS(d:j2 l)(a:DT (Æ (Â ⟨j7,0,Á⟩) n b) O k j9 k t)(e:∀c,ET (Æ (Â ⟨j7,0,Á⟩) n b) n 0 c->fj Ä Ò J l (Bn c qX)):fj Ä Ò J l (Bm t qX):=by
 obtain⟨i,f,j,m,o,p,q,r,s,g,h,u,v,w,x,y,z,B,C,D,E,F,G,H,I,K,L,M,N,P,Q,S,rfl⟩:=GM t a.r;obtain rfl:f=Æ (Â ⟨j7,0,Á⟩) n b:=by simpa using a.C
 obtain rfl:g=Ê Î k:=by simpa using a.M
 obtain rfl:h=Ê Î k:=by simpa using a.I
 have hF:True:=trivial;apply gk (n:=40) d;simp only[Bm];conv in Kx=>whnf
 iterate 7 w_go fC
 conv in YD=>whnf
 iterate 8 w_go fC
 refine Ë λ_ _=> ?_;exact e _ ⟨U,U,U,U⟩
def aiT(a:gw l)(g:¬l.q)(c:ET (Æ (Â ⟨j7,0,Á⟩) n b) n j t)(z:j<n)(B:n<1000)(i:l.O j7)(o:l.w.cell? ⟨j7,j,Á⟩=Â (è<|Â m)) (p:∀d e,iC fg l d->ET (Æ (Â ⟨j7,0,Á⟩) n b) n (j+1) e->fj Ä Ò N d (Bn e qX)):fj Ä Ò (I4 Ä Ò m N) l (Bn t qX):=by
 obtain⟨C,D,F,G,H,I,J,K,L,M,P,Q,S,T,V,W,X,Y,tM,tN,tO,se,sf,si,q,u,v,oR,nV,pA,pB,pC,rfl⟩:=GM t c.r;obtain rfl:q=Æ (Â ⟨j7,0,Á⟩) n b:=by simpa using c.aiQ
 obtain rfl:u=Ê Î n:=by simpa using c.C
 obtain rfl:v=Ê Î j:=by simpa using c.I
 have hF:True:=trivial;apply gk (n:=40) a.r;simp only[Bn];conv in Kw=>whnf
 repeat w_go fC
 refine Ë λ_ _=> ?_;apply nW (x:=⟨j7,j,Á⟩) U U (by k_ne) a.r g (Ã<|Ã i) o (λw h=>by go_simp) (λw h=>by simp[go_sem,h]);walk_nrm;apply gk (n:=40) a.r;iterate 4 w_go fC
 refine Ë λ_ _=> ?_;refine .fB λw₁ y=>⟨U,U,_,U,λzV cap buf s r tm h=>(stepG_close U U (by k_ne) U U h fW).trans U,?_⟩;walk_nrm;have f:=(iC.fT (E:=fg) a.r).N (λ_ k=>k.elim) y;apply gk (n:=20) f.fv;iterate 7 w_go fC
 refine Ë λ_ _=> ?_;refine p _ _ f ⟨U,U,U,?_⟩;simp;exact AS Z Z
def aiU(e:gw l)(g:l.d=0)(p:60<=i)(f:ET dv n n t)(c:SE ba all nK d)(j:l.K ⟨all,0,Á⟩/\l.K ⟨all,1,Á⟩)(q:ng all l.w) (r:∀m o,iC fg l m->SE ba all nK o->a m (Ds o qX)):fj Ä Ò (qg Ä Ò i all a .iW) l (Bn t<|GU d::qX):=by
 obtain⟨G,H,I,J,L,M,N,P,Q,S,T,V,W,X,Y,qk,u7,u9,tM,tN,tO,se,sf,si,qR,s,u,oR,nV,pA,pB,pC,rfl⟩:=GM t f.r;obtain rfl:s=Ê Î n:=by simpa using f.C
 obtain rfl:u=Ê Î n:=by simpa using f.I
 have hF:True:=trivial;apply gk (n:=40) e.r;simp only[Bn,GU,Ka];conv in Kw=>whnf
 iterate 8 w_go fC
 obtain⟨z0,z1,z2,z3,z4,z5,z6,z7,v,z9,z10,x,y,z13,z14,z15,z16,z17,z18,z19,z20,z21,z22,z23,z24,z25,z26,z27,z28,z29,z30,z31,z32,z33,z34,z35,z36,z37,z38,z39,z40,z41,z42,z43,z44,z45,z46,z47,z48,rfl⟩:=Gw d c.r;obtain rfl:v=À (Â ⟨ba,0,Á⟩):=by simpa using c.I
 obtain rfl:x=À (Â ⟨nK,0,Á⟩):=by simpa using c.C
 obtain rfl:y=À (Â ⟨all,0,Á⟩):=by simpa using c.QH
 u_leave0 ŵ fC hF
 simp only[Kb];iterate 3 w_go fC
 u_call qj.f_wait (nm_wait Lk) waitFn fC hF
 refine Ë λ_ _=> ?_;refine XG qj p (⟨Ã j.1,Ã j.2,λw z b B C D F h=>h.fh ⟨b,B,C,D,F⟩⟩) ⟨e.r,q,fI.fT _ _⟩ g λz B=> ?_;walk_nrm;refine .fB λC b=> ?_;have h:=(iC.fT (E:=fg) e.r).N (λ_ k=>k.elim)<|B.2.2.fh ⟨b.r,b.I,b.N,b.Y,b.S⟩;exact r {l with d:=0,w:=C} _ ⟨h.O,h.h,h.Y,h.I,h.c,h.K,h.q,g.symm,h.fv,h.f,h.r,h.e,h.S,h.b,h.g⟩ ⟨U,U,U,U⟩
end
def vi(a:Nat)(b c:Ï)(_:Unit):Nat->Ï
 |0=>b
 |1=>À<|Â ⟨a,0,Á⟩
 |2=>À<|Â ⟨a,0,Á⟩
 |3=>À<|Â ⟨a,2,Á⟩
 |4=>c
 |5=>b
 |_=>c
def KB(a:fe)(_:Array Bool)(_:Unit)(l:fe):Prop:=gh fg a l
section
variable{J:Jd}{g:fe}{h:Option â}
def aiV(K:¬g.q)(N:q.size=49)(P:q[8]?=Â (À<|Â ⟨m,0,Á⟩))(Q:q[11]?=Â (À<|Â ⟨j9,0,Á⟩))(E:g.M m)(F:gW g ⟨j9,2,Á⟩)(S:g.w.cell? ⟨m,0,Á⟩=Â (Æ O b n))(T:g.w.cell? ⟨j9,2,Á⟩=Â (Æ h j6 j7)) (md:ý) (listed:Array Bool) (y:ŏ) (l:fe) (i:Nat) (jJ:List Nat) (V:II wG q (vi j9 (Æ O b n)<|Æ h j6 j7) (KB g) listed y l) (k:i∈Û md wG listed): fj Ä Ò (λc d=>∃a,d=G ((base 37).at a<|Ñ wG jJ::L) qX/\II wG q (vi j9 (Æ O b n)<|Æ h j6 j7) (KB g) (listed.setIfInBounds i Ò) a c) l (G ((base 37).at y<|Ñ wG (i::jJ)::L) qX):=by
 let⟨x,j,p⟩:=V;have s:tJ wG q.size=Ò:=by rw[N];decide
 have H:=CY k;have t:=p.fv;have u:¬l.q:=by rwa[show l.q=g.q from p.q]
 have W:=(j.C A).trans P;have X:=(j.C A).trans Q;have B:gW l ⟨m,0,Á⟩:=Ã<|p.M E;have D:gW l ⟨j9,2,Á⟩:=F.imp (λa=>p.M a) λa=>by rwa[p.C]
 have I:=(gL<|p.r m E id).trans S;have J:l.w.cell? ⟨j9,2,Á⟩=Â (Æ h j6 j7):=by
  refine Ŀ ?_ T;rcases F with a|a
  .exact gL<|p.r _ a id
  .exact p.f _ a
 have v:∀{c:Nat},∀d,fI l l.w d->KB g (listed.setIfInBounds c Ò) () {l with w:=d}:=λd r=>p.G r;have Y:wG.size=7:=A
 rw[Y]at H;match i,H with
 |0,_=>
  refine ij (o:=Gl) s j U U k (by k_ne) t u (λd r=> ?_) (λd r e f=> ?_) v
  .have z:=(B.r r).trans I;simp only[vi,Gl];go_simp
  .have z:=(B.r r).trans I;simp[go_sem,Gl,W,z]at f;subst f;exact B.C
 |4,_=>
  have h47:y.tmps[47]?=Â (À<|Â ⟨j9,2,Á⟩):=j.r 3 Gp 47 U (ie k U U) U;refine ij (o:=Gq) s j U U k (by k_ne) t u (λd r=> ?_) (λd r e f=> ?_) v
  .have z:=(D.r r).trans J;simp only[vi,Gq];go_simp
  .have z:=(D.r r).trans J;simp[go_sem,Gq,h47,z]at f;subst f;exact D.C
 |1,_=>
  refine ij (o:=Gm) s j U U k (by k_ne) t u (λd r=> ?_) (λd r e f=> ?_) v
  .simp only[vi,Gm];go_simp
  .simp[go_sem,Gm,X]at f
 |2,_=>
  have z:y.tmps[45]?=Â (À<|Â ⟨j9,0,Á⟩):=j.r 1 Gm 45 U (ie k U U) U;refine ij (o:=Gn) s j U U k (by k_ne) t u (λd r=> ?_) (λd r e f=> ?_) v
  .simp only[vi,Gn];go_simp
  .simp[go_sem,Gn,z]at f
 |3,_=>
  have z:y.tmps[46]?=Â (À<|Â ⟨j9,0,Á⟩):=j.r 2 Gn 46 U (ie k U U) U;refine ij (o:=Gp) s j U U k (by k_ne) t u (λd r=> ?_) (λd r e f=> ?_) v
  .simp only[vi,Gp];go_simp
  .simp[go_sem,Gp,z]at f
 |5,_=>
  have z:y.tmps[44]?=Â (Æ O b n):=j.r 0 Gl 44 U (ie k U U) U;refine ij (o:=Gr) s j U U k (by k_ne) t u (λd r=> ?_) (λd r e f=> ?_) v
  .simp only[vi,Gr];go_simp
  .simp[go_sem,Gr,z]at f
 |6,_=>
  have z:y.tmps[48]?=Â (Æ h j6 j7):=j.r 4 Gq 48 U (ie k U U) U;refine ij (o:=Gs) s j U U k (by k_ne) t u (λd r=> ?_) (λd r e f=> ?_) v
  .simp only[vi,Gs];go_simp
  .simp[go_sem,Gs,z]at f
def aiW(c:gw g)(t:¬g.q)(e:SE m j j9 d)(B:g.M m)(C:gW g ⟨j9,2,Á⟩)(D:g.w.cell? ⟨m,0,Á⟩=Â (Æ O b n))(E:g.w.cell? ⟨j9,2,Á⟩=Â (Æ h j6 j7)) (F:∀u,gh fg g u->fj Ä Ò J u (G (f.at (y.put ((Q[i]?).bind (·.dst))<|ñ #[Æ O b n,Æ h j6 j7])<|Ñ Q jJ::L) qX)): fj Ä Ò J g (Ds d<|f.at y (Ñ Q (i::jJ)::L)::qX):=by
 have hF:=trivial;apply gk (n:=9) c.r;simp only[Ds,Ke];iterate 2 w_go fC
 refine Ë λ_ _=> ?_;refine Qi (II wG d (vi j9 (Æ O b n)<|Æ h j6 j7)<|KB g) c.r t (λl a=>⟨(),mK.G _ _ _,(gh.fT c.r).G ⟨a.r,a.I,a.N,a.Y,a.S⟩⟩) (λk o y l i jJ p a=>aiV t e.r e.I e.C B C D E k o y l i jJ p a) λk o H I p r s=> ?_;let⟨x,l,K⟩:=p;have v:∀i∈ã 7,o.getD i Ì=Ò:=by
  cases k
  .exact pG s r (ã 7) [] fW λi a=>by cases a
  .exact λi a=>pG s r [0,5,1,2,3,4,6] [] fW (λi a=>by cases a) i (by have:=Ē.1 a;revert i;decide)
  .exact pG s r (ã 7) [] fW λi a=>by cases a
 let⟨a,N⟩:=H;obtain rfl:N=[]:=l.M;have P:a[6]?=Â (Æ O b n):=l.r 5 Gr 6 U (v 5 A) U;have S:a[7]?=Â (Æ h j6 j7):=l.r 6 Gs 7 U (v 6 A) U;have X:=l.S.trans e.r;have z:=K;have T:=z.N c;have V:a.getD 6 Å=Æ O b n:=by simp[ď,P]
 have W:a.getD 7 Å=Æ h j6 j7:=by simp[ď,S]
 apply gk (n:=9) T.r;iterate 2 w_go fC
 u_in fC hF
 refine goes_leave2 U U Tryz.func37 U ⟨by u_nil,?_⟩;rw[V,W];refine Ë λ_ _=>F I z
end
structure SD where
 L:Nat
 g:Nat
 n:Nat
 m:Nat
 q:Nat
 N:Nat
 I:Nat
 C:Nat->Nat
 M:Nat
 S:Nat
 s:Nat
 u:Option â
 t:Nat
 l:Option â
 k:Nat
 o:Nat->Option â
 a:Nat->Nat
 i:Nat->Option â
 c:Nat->Nat
 b:Nat->Nat
 f:List é
 d:Nat->Prop
 RC:ß->Prop
 p:ß->Prop
 γ:Type
 w:γ
 v:Nat->Prop
 h:Nat->γ->γ->Prop
 RD:γ->Ï->(Nat->Prop)->ß->Prop
 e:Nat->ByteArray
 j:Nat->ByteArray
def SD.Y(D:SD):Fx:=⟨D.L,D.m,D.I,D.C⟩
def SD.aiX(D:SD)(i:Nat):Ï:=Đ #[À<|D.i i,Ê Î<|D.c i,À<|Â ⟨D.C<|D.b i,0,Á⟩,À Á]
structure ln(D:SD)(S:Nat->Prop)(l:fe):Prop where
 C:∀b,D.Y.M b->l.K ⟨b,0,Á⟩/\l.K ⟨b,1,Á⟩
 M:∀b,D.Y.M b->ng b l.w
 c:S D.S
 d:l.w.cell? ⟨D.S,0,Á⟩=Â (Æ (Â ⟨D.M,0,Á⟩) D.N D.N)
 f:S D.s
 g:l.w.cell? ⟨D.s,0,Á⟩=Â (Æ D.u D.m D.t)
 h:∀k,k<D.m->∃b,D.u=Â ⟨b,0,Á⟩/\S b/\l.w.cell? ⟨b,k*4,Á⟩=Â (À<|D.o<|k+1)/\l.w.cell? ⟨b,k*4+1,Á⟩=Â (Ê Î<|D.a<|k+1)/\l.w.cell? ⟨b,k*4+2,Á⟩=Â (À<|Â ⟨D.C k,0,Á⟩)/\l.w.cell? ⟨b,k*4+3,Á⟩=Â (À<|Â ⟨D.C<|k+1,0,Á⟩)
 j:∀i,i<D.q->∃b,D.l=Â ⟨b,0,Á⟩/\S b/\l.w.cell? ⟨b,i*4,Á⟩=Â (À<|D.i i)/\l.w.cell? ⟨b,i*4+1,Á⟩=Â (Ê Î<|D.c i)/\l.w.cell? ⟨b,i*4+2,Á⟩=Â (À<|Â ⟨D.C<|D.b i,0,Á⟩)/\l.w.cell? ⟨b,i*4+3,Á⟩=Â (À Á)
 r:∀a,l.r a->(l.w.cell? a).isSome=Ò/\l.w.frozen? a=Ì
 Y:∀b,D.d b->S b
 e:D.RC l.w
structure SD.Ok(D:SD):Prop where
 C:∀w w',D.RC w->(∀b,D.d b->w'.heap[b]?=w.heap[b]?)->D.RC w'
 ioS:∀w w',D.p w->(w'.os=w.os/\w'.output=w.output)->D.p w'
 r:∀s sl V w w',D.RD s sl V w->(∀b,V b->w'.heap[b]?=w.heap[b]?)->D.RD s sl V w'
 I:1<=D.n
 L1:1<=D.L
 gd:D.n+D.q+D.m<1000
 N1:D.N<1000
 S:∀i,D.b i<=D.m
 a:∀i,i<D.q->D.c i<D.N
 Y:∀k,1<=k->k<=D.m->D.a k<D.N
 aiY:∀k,k<=D.m->D.C k≠D.I
 aiZ:∀k k',k<=D.m->k'<=D.m->D.C k=D.C k'->k=k'
 M:¬D.Y.M D.M
 pq:∀i i',i<D.q->i'<D.q->D.c i=D.c i'->i=i'
 pi:∀k k',1<=k->k<=D.m->1<=k'->k'<=D.m->D.a k=D.a k'->k=k'
 NV:∀i k,i<D.q->1<=k->k<=D.m->D.c i≠D.a k
 gq:∀b,D.Y.M b\/b=D.M->D.g<=b
section
variable{D:SD}{S:Nat->Prop}{l f:fe}
def ln.I(h:ln D S l)(ok:D.Ok)(e:∀b,S b->X b)(c:∀b,S b->f.w.heap[b]?=l.w.heap[b]?)(q:f.K=l.K)(p:∀a,l.K a->(l.w.cell? a).isSome=Ò->(f.w.cell? a).isSome=Ò)(r:∀a,f.r a->(f.w.cell? a).isSome=Ò/\f.w.frozen? a=Ì):ln D X f where
 C b hg:=by rw[q];exact h.C b hg
 M b hg:=⟨p _ (h.C b hg).1 (h.M b hg).1,p _ (h.C b hg).2 (h.M b hg).2⟩;c:=e _ h.c;d:=(gL<|c _ h.c).trans h.d;f:=e _ h.f;g:=(gL<|c _ h.f).trans h.g;h k hk:=by let⟨b,g,d,j,m,n,o⟩:=h.h k hk;exact⟨b,g,e b d,(gL<|c b d).trans j,(gL<|c b d).trans m,(gL<|c b d).trans n,(gL<|c b d).trans o⟩
 j i hi:=by let⟨b,g,d,j,m,n,o⟩:=h.j i hi;exact⟨b,g,e b d,(gL<|c b d).trans j,(gL<|c b d).trans m,(gL<|c b d).trans n,(gL<|c b d).trans o⟩
 r:=r;Y b d:=e b<|h.Y b d;e:=ok.C _ _ h.e λb d=>c b<|h.Y b d
def ln.G(h:ln D S l)(ok:D.Ok)(c:∀b,S b->l.M b)(r:fI l l.w u):ln D S {l with w:=u}:= h.I ok (λ_ q=>q) (λb q=>r.I b<|c b q) U r.S λa q=>by have:=h.r a q;exact⟨by show(u.cell? a).isSome=Ò;rw[r.N a<|Ã q];exact this.1,(r.Y a<|Ã q).trans this.2⟩
def ln.Ro{E:â->Prop}(h:ln D S l)(ok:D.Ok)(g:∀b,S b->l.M b)(c:iC E l f):ln D S f:= h.I ok (λ_ q=>q) (λb q=>c.r b<|g b q) c.K c.b λa q=>by
  rw[c.I]at q;let⟨d,i⟩:=h.r a q;refine⟨?_,(c.S a<|Ã q).trans i⟩;by_cases e:E a
  .exact c.g a e d
  .rwa[c.e a (Ã q) e]
def ln.ai0(h:ln D S l)(ok:D.Ok)(d:∀b,S b->l.M b/\¬X b)(c:gh X l f):ln D S f:= h.I ok (λ_ q=>q) (λb q=>c.r b (d b q).1 (d b q).2) c.K c.e λa q=>by rw[c.Y]at q;let⟨e,g⟩:=h.r a q;exact⟨by rwa[c.f a<|Ã q],(c.g a<|Ã q).trans g⟩
def ln.N(h:ln D S l)(a:∀b,S b->X b):ln D X l:=⟨h.C,h.M,a _ h.c,h.d,a _ h.f,h.g,λk c=>let⟨b,d,e,f⟩:=h.h k c;⟨b,d,a b e,f⟩,λk c=>let⟨b,d,e,f⟩:=h.j k c;⟨b,d,a b e,f⟩,h.r,λb q=>a b<|h.Y b q,h.e⟩
end
section
variable(D:SD)
def jB(a:Nat->Nat)(j:Nat):List Ï:=(ã j).map λi=>è<|Â<|a i
def Bo(k:Nat):Jd:=λl g=>l.d=0/\¬l.q/\ln D l.M l/\∃t a b c e f h i j n o,AR D.M D.N D.u D.m D.t k t/\l.M a/\l.w.cell? ⟨a,0,Á⟩=Â (À<|Â ⟨D.I,0,Á⟩)/\g=yx t [va h i j n o,yB a b c e f,nI Ä]
def YG(c i:Nat):Jd:=λl g=>l.d=0/\¬l.q/\ln D l.M l/\∃t a b e f h j k m n o p,QT D.M D.N c t/\t[4]?=Â (À<|Â ⟨a,0,Á⟩)/\l.O a/\l.w.cell? ⟨a,0,Á⟩=Â (À<|D.i i)/\l.w.cell? ⟨a,1,Á⟩=Â (Ê Î<|D.c i)/\l.w.cell? ⟨a,2,Á⟩=Â (À<|Â ⟨D.C<|D.b i,0,Á⟩)/\l.M b/\l.w.cell? ⟨b,0,Á⟩=Â (À<|Â ⟨D.I,0,Á⟩)/\g=J4 t [Gi k m n o p,yB b e f h j,nI Ä]
def ai1:Jd:=λl g=>ln D l.M l/\∃t a b c,Gv D.S D.I (D.C D.m) D.n (Æ D.l D.q D.k) t/\hD l a (É #[À<|Â ⟨D.I,0,Á⟩] 162)/\hD l b (É #[Ĉ (ù 48) #[] #[À<|Â ⟨D.s,0,Á⟩,À<|Â ⟨D.S,0,Á⟩]] 1)/\g=A0 (À<|Â ⟨D.I,0,Á⟩) c (À<|Â ⟨D.I,0,Á⟩) (ñ #[]) a b (Dm t::D.f)
def ai2(j:Nat)(a:Nat->Nat):Jd:=λl g=>ln D l.I l/\∃t e c b d f,ST D.S D.I (D.C D.m) D.n (j-1) (Æ D.l D.q D.k) e t/\Yf D.S D.I D.q e (jB a j) (a<|j-1) c b d l/\a (j-1)<c/\c<b/\b<d/\(∀k,e.ownBlock=Â k->k≠a (j-1)/\k≠c/\k≠b/\k≠d)/\D.g<=a (j-1)/\g=A0 (À<|Â ⟨D.I,0,Á⟩) f (À<|Â ⟨D.I,0,Á⟩) (ñ #[]) b d (Kg t::D.f)
def KC(j:Nat)(a:Nat->Nat):Jd:=λl g=>l.d=0/\¬l.q/\D.g<=l.w.heap.size/\((j=0/\ai1 D l g)\/(1<=j/\ai2 D j a l g))
def YH:Jd:=λl g=>l.d=0/\¬l.q/\ln D l.I l/\∃a,SE D.S D.I (D.C D.m) a/\g=Ds a D.f
def SD.r(P:ė):Ph where
 toFx:=D.Y
 P:=P
 S:=D.g
 n:=D.n
 q:=D.q
 Y:=D.M
 f:=D.N
 r:=D.b
 a:=D.c
 b:=D.a
 c:=D.aiX
 z:=zT
 B:=60
 γ:=D.γ
 l:=D.w
 i:=D.v
 p:=D.h
 d:=λk s V w=>(∃a,w.cell? ⟨D.C k,2,Á⟩=Â a/\D.RD s a V w)/\(k=0->w.cell? ⟨D.M,D.N,Á⟩=Á/\kJ w D.M=Â (0,0)/\D.p w)
 o:=D.e
 k:=D.j
 g:=KC D
 h:=Bo D
 e:=YG D
 j:=λ_=>YH D
end
def Dt(D:SD):Prop:=∀k s e V l,k<D.m->mX (D.r Ä) k s->D.RD s e V l.w->(∀b,V b->l.M b)->gw l->¬l.q->(∀b,D.d b->l.M b)->D.RC l.w->∀f g,fj Ä Ì (λa j=>a.d=l.d/\∃p n c,j=G (f.finish<|ñ #[Æ p n c,à<|D.e<|k+1]) g/\∃h i,D.h k s h/\D.RD h (Æ p n c) i a.w/\∀b,i b->a.M b) (lU l)<|G (Ă Ä 66 #[e,À<|D.o<|k+1] Ğ)<|f::g
def Du(D:SD):Prop:=∀i s a V l,i<D.q->mX (D.r Ä) (D.b i) s->D.RD s a V l.w->(∀b,V b->l.M b)->gw l->¬l.q->(∀b,D.d b->l.M b)->D.RC l.w->∀b c,fj Ä Ì (λe f=>e.d=l.d/\f=G (b.finish<|à<|D.j i) c) (lU l)<|G (Ă Ä 67 #[a,À<|D.i i] Ğ)<|b::c
section
variable{D:SD}
def GV(k:Nat)(a:k<=D.m):D.Y.M (D.C k):=Ç ⟨k,a,U⟩
def yI:D.Y.M D.I:=Ã U
def ai3(ok:D.Ok):(D.r Ä).Ok:=⟨ok.I,ok.L1,ok.gd,λi _=>ok.S i,ok.aiY,ok.aiZ,ok.M,ok.pq,ok.pi,ok.NV,ok.gq,⟨λk a b e=>by have c:D.a k=D.N:=e;have:=ok.Y k a b;omega,λi d e=>by have c:D.c i=D.N:=e;have:=ok.a i d;omega⟩⟩
theorem ai4(ok:D.Ok)(s9:Dt D):∀k s V l g,k<D.m->Bo D k l g->gw l->mX (D.r Ä) k s->(D.r Ä).d k s V l.w->(∀b,V b->l.I b)->l.N (je D.Y k)->l.r (je D.Y<|k+1)->l.r (jj (D.r Ä)<|D.a<|k+1)->∀B:Nat->D.γ,B k=s->fj Ä Ì (JI (D.r Ä) B<|.mk (k+1)) l g:=by
 intro k s V l g o hJ Dr Rp As hV tK C E B hsg;obtain⟨hd,F,f,t,G,v1,v2,v3,v4,u0,u1,u2,u3,u4,hT,A9,cbw,rfl⟩:=hJ;let⟨⟨sl,hsl,qo⟩,_⟩:=As;let⟨b,yy,hbM,i0,i1,i2,i3⟩:=f.h k o;have FH:=ok.gd;have lb:(⟨D.C<|k+1,2,Á⟩:â)≠⟨D.M,D.a<|k+1,Á⟩:=λe=>ok.M (by injection e with H _ _;rw[<-H];exact GV (k+1) o);have Ag:AR D.M D.N (Â ⟨b,0,Á⟩) D.m D.t k t:=by rwa[<-yy]
 have⟨oc1,oz1⟩:=f.r _ C;have⟨oc2,oz2⟩:=f.r _ E;have qY:∀a:â,(a=⟨D.C<|k+1,2,Á⟩\/a=⟨D.M,D.a<|k+1,Á⟩)->l.r a:=λa p=>by rcases p with rfl|rfl;exact C;exact E
 have r:=f.C _<|GV (k+1) o;have YI:=f.M _<|GV (k+1) o;refine fj.fN (Stop:=λl g=>(∃i n,D.h k s i/\(D.r Ä).d (k+1) i n l.w/\(∀b,n b->l.M b)/\l.w.cell? ⟨D.M,D.a<|k+1,Á⟩=Â (à<|D.e<|k+1))/\xY Ä Ì (D.C<|k+1) (fj Ä Ì<|Bo D<|k+1) (pw (D.r Ä) l<|k+1) g) (λl g h=> ?_) ?_
 .let⟨⟨i,n,I,J,L,O⟩,P⟩:=h;exact⟨i,n,by subst hsg;exact I,J,L,O,P⟩
 refine ahA (Q:=λv x y=>x=D.e (k+1)/\∃i n,D.h k s i/\D.RD i v n y.w/\∀b,n b->y.M b) (τ:=λl=>pw (D.r Ä) l<|k+1) Dr F hd Ag o Z (by have:=ok.N1;omega) (ok.Y (k+1) Z o) hbM i0 i1 i2 i3 tK hsl C E oc1 oc2 oz1 oz2 lb (λc v j u=> ?_) λc x v hQ Qz J3=> ?_
 .refine(s9 k s sl V c o Rp (ok.r _ _ _ _ _ qo λb x=>v.r b<|Ç<|hV b x) (λb x=>v.M<|Ç<|hV b x) (v.G Dr) (by rwa[v.q]) (λb x=>v.M<|f.Y b x) (ok.C _ _ f.e λb x=>v.r b<|f.Y b x) j u).fN ?_;grind
 .let⟨y,⟨hstr,i,n,hnx,ai5,YJ⟩,hy⟩:=hQ;rw[hstr]at J3;have YK:ng (D.C<|k+1) c.w:=⟨v.b _ r.1 YI.1,v.b _ r.2 YI.2⟩;refine⟨⟨Ã (by rw[v.K];exact r.1),Ã (by rw[v.K];exact r.2),λ_ _ _ _ _ _ _ _=>trivial⟩,⟨v.fv,YK,trivial⟩,⟨i,n,hnx,⟨⟨_,Qz,ok.r _ _ _ _ _ ai5 λb x=>(hy b<|YJ b x).2⟩,λe=>by omega⟩,λb x=>(hy b<|YJ b x).1,J3⟩,v.d.trans hd,λw=>fI (pw (D.r Ä) c<|k+1) c.w w,⟨Ã (by show c.K _;rw[v.K];exact r.1),Ã (by show c.K _;rw[v.K];exact r.2),λw w₁ I J L O P h=>h.fh ⟨I,J,L,O,P⟩⟩,⟨λj h=>h.elim,YK,fI.fT _ _⟩,λzV t' ai6 WM=> ?_⟩;refine .fB λS u=> ?_;have z:=ai6.2.2.fh ⟨u.r,u.I,u.N,u.Y,u.S⟩;have x:=λb x=>(z.I b<|Ç<|v.M x).trans<|v.r b x;have YL:∀b,l.M b->({pw (D.r Ä) c (k+1)with d:=0,w:=S}:fe).M b:=λb x=>Ç<|v.M x;refine⟨U,by show¬c.q;rwa[v.q],f.I ok YL x (by show c.K=l.K;exact v.K) (λa p h=>z.S a (by show c.K a;rwa[v.K])<|v.b a p h) λa p=> ?_,t',G,v1,v2,v3,v4,u0,u1,u2,u3,u4,by rwa[yy],YL G A9,(gL<|x G A9).trans cbw,U⟩;obtain⟨T,W,X⟩:c.r a/\a≠⟨D.M,D.a<|k+1,Á⟩/\a≠⟨D.C<|k+1,2,Á⟩:=p;have Y:l.r a:=by rwa[<-v.I]
  let⟨H,e2⟩:=f.r a Y;refine⟨?_,?_⟩
  .show(S.cell? a).isSome=Ò;rwa[z.N a<|Ã ⟨T,W,X⟩,v.e a (Ã Y) λq=>q.elim X W]
  .show S.frozen? a=Ì;rwa[z.Y a<|Ã ⟨T,W,X⟩,v.S a<|Ã Y]
def ai7:∀l g,Bo D D.m l g->gw l->fj Ä Ì (Ac<|D.r Ä) l g:=by intro l g c d;obtain⟨e,f,b,t,k,n,o,p,q,r,s,u,v,w,h,i,j,rfl⟩:=c;have a:=b.C _<|yI;exact ahI (Ψ:=λ_=>True) h a ⟨Ã a.1,Ã a.2,λ_ _ _ _ _ _ _ _=>trivial⟩ ⟨d.r,b.M _ yI,trivial⟩ e f (Ã i) j
def YM(ok:D.Ok){r:Nat}{l:fe}{t:Array Ï}{g h m o p:Ï}(B:gw l)(s:¬l.q)(C:l.d=0)(a:ln D l.M l)(E:QT D.M D.N i t)(f:l.M k)(u:l.w.cell? ⟨k,0,Á⟩=Â (À<|Â ⟨D.I,0,Á⟩)): Cw (D.r Ä) i j r l (yD t [Gi g h m o p,yB k v x z jQ,nI Ä]):=by have y:=ok.S<|j+r*D.n;refine ahN B s C E (Ú _) U (a.C _<|GV _ y) (a.M _<|GV _ y) (a.C _ yI) (a.M _ yI) (Ã f) u λQ F G e H I J K L O P=>(⟨H,by rwa[e.q],(a.Ro ok (λ_ q=>q) e).N λb q=>e.M q,G,F,k,v,x,z,jQ,g,h,m,o,p,O,P,I,J,K,L,e.M f,(gL<|e.r k f).trans u,U⟩)
theorem ai8(ok:D.Ok)(W:Du D):∀c j r s V l g,j+r*D.n<D.q->YG D c (j+r*D.n) l g->∀f:fe,gw f->f.O=l.O->(∀b,l.I b\/V b->f.I b)->f.w=l.w->f.d=l.d->f.q=l.q->f.r=l.r->f.K=l.K->mX (D.r Ä) (D.b<|j+r*D.n) s->(D.r Ä).d (D.b<|j+r*D.n) s V l.w->f.N (je D.Y<|D.b<|j+r*D.n)->f.r (jj (D.r Ä)<|D.c<|j+r*D.n)->fj Ä Ì (JW (D.r Ä) c j<|.oh r) f g:=by
 intro c j r s V l g E X f v F y o Y hq' Jr hK Rp As tK p;obtain⟨hd,hq,G,t,tb,u,v1,v2,v3,v4,u0,u1,u2,u3,u4,hT,h4,hOt,H,I,J,L,N,rfl⟩:=X;let⟨⟨sl,P,S⟩,_⟩:=As;have B:∀b,l.M b->f.M b:=λb q=>q.elim (λz=>Ã<|by rwa[F]) λz=>Ç<|y b<|Ã z;have m:=G.I ok B (λb _=>by rw[o]) hK (λa _ h=>by rwa[o]) λa q=>by rw[o];exact G.r a<|by rwa[<-Jr]
 have C:¬f.q:=by rwa[hq']
 rw[<-o]at H I J N P S;let⟨e2,z2⟩:=m.r _ p;refine ahQ (Q:=λx=>x=D.j (j+r*D.n)) v C hT h4 (by rwa[F]) H I J tK P p e2 z2 (ok.a _ E) (λi e k T=> ?_) λi x t' e hx hcx Ag=> ?_
 .refine(W _ s sl V i E Rp (ok.r _ _ _ _ _ S λb x=>e.r b<|Ç<|y b<|Ç x) (λb x=>e.M<|Ç<|y b<|Ç x) (e.G v) (by rwa[e.q]) (λb x=>e.M<|m.Y b x) (ok.C _ _ m.e λb x=>e.r b<|m.Y b x) k T).fN ?_;grind
 .have T:=(m.Ro ok (λ_ q=>q) e).N λb q=>e.M q;refine⟨hcx.trans (by rw[hx];rfl),?_⟩;have k:=e.G v;have F9:gw (uT (D.r Ä) i<|j+r*D.n):=by
   refine⟨k.c,λa x=> ?_,λa x=> ?_,k.fv,λa x=> ?_,λa x=> ?_⟩
   .rintro(q|q)
    .exact k.Y a x.1 q
    .exact x.2 q
   .refine k.N a ?_;rcases x with q|q|q
    .exact Ã q.1
    .exact Ç q
    .rw[q];exact Ã<|by rwa[e.I]
   .refine k.I a ?_;rcases x with q|q|q
    .exact Ã q.1
    .exact Ç q
    .rw[q];exact Ã<|by rwa[e.I]
   .let⟨k1,k2,k3⟩:=k.S a x;exact⟨k1,k2,λq=>k3 q.1⟩
  refine YM ok F9 (by show¬i.q;rwa[e.q]) (by show i.d=0;rwa[e.d,Y]) (T.I ok (λ_ q=>q) (λ_ _=>rfl) U (λ_ _ h=>h) λa q=>T.r a q.1) Ag (by show i.M u;exact e.M<|B u L)<|(gL<|e.r u<|B u L).trans N
end
section
variable{D:SD}{dk:Nat->Nat}{dv:Ï}{l f:fe}
structure MF(D:SD)(dk:Nat->Nat)(dv:Ï)(l:fe):Prop where
 C:gw l
 q:¬l.q
 d:l.d=0
 r:ln D l.I l
 I:∃db c,dv=Æ (Â ⟨db,0,Á⟩) D.n c/\l.O db/\∀i,i<D.n->l.w.cell? ⟨db,i,Á⟩=Â (è<|Â<|dk i)
def MF.M(h:MF D dk dv l)(ok:D.Ok)(a:iC fg l f):MF D dk dv f where
 C:=a.G h.C;q:=by rw[a.q];exact h.q
 d:=a.d.trans h.d;r:=(h.r.Ro ok (λ_ q=>Ç q) a).N λb q=>by rwa[a.Y]
 I:=by let⟨e,c,j,g,k⟩:=h.I;exact⟨e,c,j,a.O e g,λi m=>(gL<|a.r e<|Ã g).trans<|k i m⟩
def ai9(ok:D.Ok):∀r,r<=D.n->∀l t b,MF D dk dv l->ET dv D.n (D.n-r) t->SE D.S D.I (D.C D.m) b->fj Ä Ò (Ad (D.r Ä) dk r) l (Bn t<|GU b::D.f):=by
 intro r
 induction r with
 |zero=>
  intro _ l t b a e g;rw[ũ]at e;refine aiU a.C a.d (Ú _) e g (a.r.C _ yI) (a.r.M _ yI) λf i h j=> ?_;have c:=a.M ok h;exact⟨c.d,c.q,c.r,i,j,U⟩
 |succ r j=>
  intro s l t b a e g;obtain⟨u,c,rfl,k,o⟩:=a.I;have v:=ok.gd;refine aiT a.C a.q e Z Z k (o (D.n-(r+1)) Z) λf p h i=> ?_;refine j Z f p b (a.M ok h) ?_ g;rwa[show D.n-(r+1)+1=D.n-r by omega]at i
def aja(ok:D.Ok):∀r,r<=D.q->∀l t d,MF D dk dv l->DT dv D.l D.q D.k (D.q-r) t->SE D.S D.I (D.C D.m) d->fj Ä Ò (Fu (D.r Ä) dk r) l (Bm t<|GU d::D.f):=by
 intro r
 induction r with
 |zero=>
  intro _ l t d a e h;rw[ũ]at e;obtain⟨j,c,rfl,k,o⟩:=a.I;refine aiS a.C.r e λi g=>ai9 ok D.n (Ú _) l i d a ?_ h;rwa[Ū]
 |succ r s=>
  intro C l t d a e h;obtain⟨j,c,rfl,k,o⟩:=a.I;have E:=ok.gd;have F:=ok.I;let⟨b,p,u,v,w,x,y⟩:=a.r.j (D.q-(r+1)) Z;have z:DT (Æ (Â ⟨j,0,Á⟩) D.n c) (Â ⟨b,0,Á⟩) D.q D.k (D.q-(r+1)) t:=by rwa[<-p]
  refine aiP a.C a.q z Z Z Z Z k (o _<|ĵ _ Z) (Ç u) v w x y λf i B g=> ?_;refine s Z f i d (a.M ok B) ?_ h;rwa[show D.q-(r+1)+1=D.q-r by omega,<-p]at g
theorem ajb(dk:Nat->Nat)(j a:Nat):jB (fx dk j a) (j+1)=jB dk j++[è<|Â a]:=by unfold jB;grind [ÿ,List.map_congr_left,fH,gE]
def ajc(dk:Nat->Nat)(j:Nat):(jB dk j).length=j:=by simp[jB]
def ajd(dk:Nat->Nat)(j i:Nat)(h:i<j):(jB dk j)[i]?=Â (è<|Â<|dk i):=by simp[jB,h]
theorem YN(ok:D.Ok){t:Array Ï}(K:j<=D.n)(a:gw l)(o:¬l.q)(p:l.d=0)(h:ln D l.I l)(x:D.g<=l.w.heap.size)(v:ST D.S D.I (D.C D.m) D.n j (Æ D.l D.q D.k) dv t)(r:l.w.ownsRow 0 101 1 dv j (jB dk j))(s:∀k,dv.ownBlock=Â k->l.O k): fj Ä Ò (JM (D.r Ä) dk<|if j<D.n then .iE (j+1)else .iJ D.q) l (AZ t D.f):=by
 have L:=ok.gd;by_cases u:j<D.n
 .rw[if_pos u];show fj Ä Ò (NU (D.r Ä) (j+1) dk) l _;rw[ahd];refine ahX a o p v u Z Z (h.C _ yI) (h.M _ yI) r s λf i y z B C E F c G H M N I J P=> ?_;refine⟨y,c.d.trans p,by rwa[c.q],Õ x c.I,Ç ⟨Z,(h.ai0 ok (λb g=>⟨Ç g,λe=>a.c b (s b e.symm) g⟩) c).N λb q=>(by rwa[c.S]),i,E,z,B,C,F,?_,?_,?_,I,J,?_,?_,U⟩⟩
  .rwa[ø]
  .rwa[ø,ajb,gE]
  .grind [ø,gE]
  .grind [ø,gE]
  .grind [ø,gE,Õ]
 .have e:j=D.n:=Z
  subst e;rw[if_neg u];have y:∃b c,dv=Æ (Â ⟨b,0,Á⟩) D.n c/\l.O b/\∀i,i<D.n->l.w.cell? ⟨b,i,Á⟩=Â (è<|Â<|dk i):=by
   rcases r.2 with⟨_,C⟩|⟨g,z,E,rfl,_⟩
   .have:=ok.I;omega
   .refine⟨g,z,U,s g U,λi B=> ?_⟩;have:=r.cells U i _<|ajd dk D.n i B;grind [ğ]
  refine aiR a.r v λg z B C=>(aja ok D.q (Ú _) l g z ⟨a,o,p,h,y⟩ (by rwa[Ū]) C)
def aje(ok:D.Ok)(h:Bo D k l g)(r:fI l l.w u):Bo D k {l with w:=u} g:=by obtain⟨c,d,e,t,a,f,i,j,m,n,o,p,s,v,x,b,y,rfl⟩:=h;exact⟨c,d,e.G ok (λ_ q=>q) r,t,a,f,i,j,m,n,o,p,s,v,x,b,(gL<|r.I a b).trans y,U⟩
def hD.M{o:Ÿ}(h:hD l b o)(r:fI l l.w u):hD {l with w:=u} b o:=⟨h.fq,(r.I b<|Ã h.fq).trans h.I⟩
def Fv(ok:D.Ok)(h:KC D j dk l g)(r:fI l l.w u):KC D j dk {l with w:=u} g:=by
 let⟨m,n,o,h⟩:=h;refine⟨m,n,Õ o r.r,?_⟩;rcases h with⟨p,b,t,c,d,f,i,s,v,rfl⟩|⟨x,b,t,dv,y,c,d,f,i,a,z,B,C,E,F,rfl⟩
 .exact Ã ⟨p,b.G ok (λ_ q=>q) r,t,c,d,f,i,s.M r,v.M r,U⟩
 .exact Ç ⟨x,b.G ok (λ_ q=>Ç q) r,t,dv,y,c,d,f,i,⟨nJ a.S λk e=>r.I k<|Ã<|a.M k e,a.M,a.r.M r,a.C.M r,a.N.M r,a.I.M r⟩,z,B,C,E,F,U⟩
theorem ajf(ok:D.Ok):∀j dk l g,j<=D.n->KC D j dk l g->gw l->l.d=0/\∃(G H:Ý) (X:Nat->Prop),G.status=ċ/\H.status=ċ/\(∀u,stepG Ä Ò g u=.spawn G H u #[])/\(∀b,X b->l.O b)/\ (1<=j->l.O (dk<|j-1)/\¬X (dk<|j-1)/\l.w.heap[dk<|j-1]?=Â (ŕ D.q #[] Ì 0 0 Ì)/\D.g<=dk (j-1))/\ (∀f:fe,gw f->(∀b,X b\/l.I b->f.I b)->f.w=l.w->f.d=0->¬f.q->(∀b,¬f.O b)->f.K=l.K->f.N=l.N->(∀a,f.r a->l.r a)->fj Ä Ì (if j=0 then Bo D 0 else Cw (D.r Ä) (dk<|j-1) (j-1) 0) f H)/\ (∀f:fe,gw f->f.O=(λb=>l.O b/\¬X b/\(1<=j->b≠dk (j-1)))->(∀b,X b\/l.I b->f.I b)->f.w=l.w->f.d=0->f.q=l.q->f.K=l.K->f.N=l.N->(∀a,f.r a->l.r a)->fj Ä Ò (JM (D.r Ä) dk<|if j<D.n then .iE (j+1)else .iJ D.q) f G):=by
 intro j dk l g L h Dr;let⟨hd,N,P,h⟩:=h;refine⟨hd,?_⟩;rcases h with⟨rfl,o,t,x,C,v1,I,Q,S,rfl⟩|⟨h1,o,t,dv,T,x,C,v1,I,c,x1,x2,x3,x4,x5,rfl⟩
 .refine⟨_,_,l.O,U,U,λu=>Yd _ _ _ _ _ _ _ u,λ_ q=>q,λq=>by omega,λf i m X y p E z J B=> ?_,λf i E m X y p z J B=> ?_⟩
  .rw[if_pos U];have e:=λb q=>m b q;have s:ln D f.M f:=o.I ok (λb q=>Ç<|e b q) (λb _=>by rw[X]) z (λa _ h=>by rwa[X]) λa q=>by rw[X];exact o.r a<|B a q
   refine ahH i.r p (Ã<|Ç<|e C<|Ã S.fq) (Ã s.f) (Ã s.c) (by rw[X];exact S.C U) s.g s.d λF V W Y w4 u0 u1 u2 u3 u4 v=> .fB λu r=>aje ok ⟨y,p,s,F,x,V,W,Y,w4,u0,u1,u2,u3,u4,v,Ç<|e x<|Ã Q.fq,by rw[X];exact Q.C U,U⟩ r
  .refine ahV i.r I λF v=>(YN ok L i (by rwa[p]) y (o.I ok (λb q=>m b q) (λb _=>by rw[X]) z (λa _ h=>by rwa[X]) λa q=>by rw[X];exact o.r a<|B a q) (by rwa[X]) v (World.ownsRow_nil _ _ _ _) λk e=>by cases e)
 .refine⟨_,_,λb=>b=T\/b=x\/b=C,U,U,λu=>Yd _ _ _ _ _ _ _ u,λb q=> ?_,λ_=>⟨c.r.fq,?_,c.r.I,x5⟩,λf i m X y p E z J B=> ?_,λf i E m X y p z J B=> ?_⟩
  .rcases q with rfl|rfl|rfl
   .exact c.C.fq
   .exact c.N.fq
   .exact c.I.fq
  .grind
  .rw[if_neg Z];have s:ln D f.M f:=o.I ok (λb q=>Ç<|m b<|Ç q) (λb _=>by rw[X]) z (λa _ h=>by rwa[X]) λa q=>by rw[X];exact o.r a<|B a q
   have YO:f.M x:=Ç<|m x<|Ã<|Ç<|Ã U;refine ahM i.r p (Ã<|Ç<|m C<|Ã<|Ç<|Ç U) (Ã<|Ç<|m T<|Ã<|Ã U) (Ã s.c) (by rw[X];exact c.I.C U) (by rw[X];exact c.C.C U) s.d λF V W Y w4 u0 u1 u2 u3 u4 v=> .fB λu r=>(YM ok (i.jS r.r) p y (s.G ok (λ_ q=>q) r) v YO<|(gL<|r.I x YO).trans<|by rw[X];exact c.N.C U)
  .have s:=ok.gd;refine ahW i.r I Z λF v=> ?_;rw[show j-1+1=j by omega]at v;have r:=c.S;rw[ajc]at r;refine YN ok L i (by rwa[p]) y (o.I ok (λb q=>m b<|Ç q) (λb _=>by rw[X]) z (λa _ h=>by rwa[X]) λa q=>by rw[X];exact o.r a<|B a q) (by rwa[X]) v (by rwa[X]) λk e=> ?_;rw[E];let⟨a,V,W,Y⟩:=x4 k e;refine⟨c.M k e,?_,λ_=>a⟩;grind
def ajg(ok:D.Ok)(b:Dt D)(d:Du D):gQ (D.r Ä) where
 C:=ai3 ok;S k s V w w' h hV hc hz hf wT:=by let⟨⟨a,f,m⟩,t⟩:=h;exact⟨⟨a,hc.trans f,ok.r _ _ _ _ _ m hV⟩,λe=>⟨hz.trans (t e).1,hf.trans (t e).2.1,ok.ioS _ _ (t e).2.2 wT⟩⟩
 Fv j dk l g w₁ h r:=Fv ok h r;I j dk l g h:=by let⟨_,_,_,h⟩:=h;rcases h with⟨_,_,t,e,f,a,_,_,_,rfl⟩|⟨_,_,t,dv,m,e,f,a,_,_,_,_,_,_,_,rfl⟩<;>rfl
 N k l g h:=by obtain⟨_,_,_,t,e,a,f,m,n,o,p,q,u,v,_,_,_,rfl⟩:=h;rfl
 Y c i l g h:=by obtain⟨_,_,_,t,tb,e,a,f,m,n,o,p,q,u,v,_,_,_,_,_,_,_,_,rfl⟩:=h;rfl
 M dk l g h:=by obtain⟨_,_,_,f,_,rfl⟩:=h;rfl
 go:=ajf ok;f:=ai4 ok b;h:=ai7;e:=ai8 ok d
end
end Go.Proofs.Y.fA
namespace Go.Proofs.Y.fA
open Go Go.Conc Go.Proofs.Y.Lift
open Go.ConcN (sumTo sumTo_congr)
structure kx(P:ė)(Y:Nat->Prop)(ji:Ν->Prop)(H:Nat)(J:Jd)(T:gy)(lv:Nat->Nat)(lot:Nat->fe)(gs:Array Ý)(w:ß)(t:ż):Prop where
 C:1<=gs.size
 r:gK P 0 Y (λi=>if i=0 then J else oO P (lv i)) (λi=>if i=0 then T else .fB) (λ_=> .no) lot gs w t
 c:∀i,0<i->i<gs.size->lot i=kr (lot i)
 d:¬(lot 0).q
 M:∀p a,touchAt t p=Â a->a.loc.isMemory=Ò->Knows t 0 p\/(ji a.loc/\a.kind=.atomic)
 S:∀p a x,touchAt t p=Â a->a.loc=û x->t.g? p=Â 0\/x.block<H
 b:∀a:â,H<=a.block->NoRelease a t
 N:t.HandedOver
abbrev rj(P:ė):=kx P λ_=>False
structure qp(l l':fe)(w w':ß):Prop where
 r:w.heap.size<=w'.heap.size
 N:∀j,l'.O j->l.O j\/w.heap.size<=j
 c:l'.I=l.I
 S:l'.r=l.r
 b:l'.N=l.N
 k:l'.K=l.K
 jL:∀j,j<w.heap.size->¬l.O j->(∀a:â,a.block=j->¬l.r a)->w'.heap[j]?=w.heap[j]?
 M:∀a:â,a.block<w.heap.size->¬l.O a.block->¬l.r a->w'.cell? a=w.cell? a
 Y:∀j,j<w.heap.size->¬l.O j->kJ w' j=kJ w j
 C:w'.os=w.os
 I:w'.output=w.output
 d:w'.tape=w.tape
theorem qp.fT(l:fe)(w:ß):qp l l w w:=⟨Ú _,λ_ h=>Ã h,U,U,U,U,λ_ _ _ _=>rfl,λ_ _ _ _=>rfl,λ_ _ _=>rfl,U,U,U⟩
def qp.fh{l e i:fe}{w':ß}(h:qp l e w w')(k:qp e i w' u):qp l i w u:=by
 have f:∀j,j<w.heap.size->¬l.O j->¬e.O j:=λj c b q=>(h.N j q).elim b λz=>by omega
 refine⟨Õ h.r k.r,λj q=> ?_,k.c.trans h.c,k.S.trans h.S,k.b.trans h.b,k.k.trans h.k,λj c b d=>((k.jL j (È c h.r) (f j c b)<|by rwa[h.S]).trans<|h.jL j c b d),λa g b d=>((k.M a (È g h.r) (f _ g b)<|by rwa[h.S]).trans<|h.M a g b d),λj c b=>(k.Y j (È c h.r)<|f j c b).trans<|h.Y j c b,k.C.trans h.C,k.I.trans h.I,k.d.trans h.d⟩
 .rcases k.N j q with z|z
  .exact h.N j z
  .exact Ç<|Õ h.r z
def mh.ajh{l a:fe}(h:mh l a w u V):qp l a w u:=⟨h.C,h.S,h.I,h.r,h.M,h.k,h.jL,h.N,λj b c=>h.Y ⟨j,0,Á⟩ b c,h.f,h.g,h.m⟩
def qp.G{l a:fe}(h:qp l a (w.at i) u):qp l a w u:=⟨h.r,h.N,h.c,h.S,h.b,h.k,h.jL,h.M,h.Y,h.C,h.I,h.d⟩
section
variable{Y:Nat->Prop}{ji:Ν->Prop}{H:Nat}{J:Jd}{T:gy}{lv:Nat->Nat}{lot:Nat->fe}{gs:Array Ý}{t:ż}{sl:Option (Nat×Nat)}
def kx.I(c:kx P Y ji H J T lv lot gs w t)(d:Nat):kx P Y ji H J T lv lot gs (w.at d) t:=⟨c.C,c.r.at d,c.c,c.d,c.M,c.S,c.b,c.N⟩
def aji{l:fe}{e:ž}(h:xS l e)(a:â):ï e≠.mark (.release a):=by
 let⟨c,d,g⟩:=e;rcases h with⟨x,b,_⟩|h|⟨f,h⟩|h|h|⟨x,_,h⟩
 .simp only at b;subst b;simp[ï]
 .simp only at h;subst h;simp[ï]
 .simp only at h;subst h;simp[ï]
 .simp only at h;subst h;simp[ï]
 .simp only at h;subst h;simp[ï]
 .simp only at h;rcases h with rfl|rfl|rfl|rfl<;>simp[ï]
theorem ajj{e:ž}(h:e.mute=Ò)(a:â):ï e≠.mark (.release a):=by let⟨b,c,d⟩:=e;cases b<;>simp_all[Event.mute];rename_i m;cases m<;>simp_all[ï]
theorem kx.ajk{k:ß->gy}(c:kx P Y ji H J (.jF k) lv lot gs w t)(o:∀l g,J l g->g.status=ċ\/g.status=ş)(r:gs[0]?=Â g): ∃e b d u,runT P (Ĭ gs w sl) 0=(.next<|Ĭ b d sl,u)/\b.size=gs.size/\qp (lot 0) (e 0) w d/\kx P Y ji H J (k w) lv e b d (t++u):=by
 obtain⟨b,d,G,s,v,f,I,K,j,y⟩:=c.r.fq r U λl g h=>o l g h;refine⟨gu lot 0 s,b,d,_,v,f,by rw[gS];exact j.ajh,by rw[f];exact c.C,?_,λi z B=> ?_,?_,λp a h C=> ?_,λp a x h D=> ?_,λa h=>(c.b a h).app λu m=> ?_,Ř c.N λu m=>Ã<|nT u m⟩
 .have e:fx (λi=>if i=0 then(.jF k:gy)else .fB) 0 (k w)=λi=>if i=0 then k w else .fB:=by
   funext i;unfold fx;grind
  rwa[<-e]
 .rw[gG lot _ Z];exact c.c i z<|by rwa[<-f]
 .rw[gS,j.q];exact c.d
 .rcases mI h with⟨_,e⟩|⟨_,u,e,E,n⟩
  .exact(c.M p a e C).imp (·.app _) id
  .have:=knows_own n;grind [nT]
 .rcases mI h with⟨F,e⟩|⟨_,u,e,E,n⟩
  .rw[g?_old F];exact c.S p a x e D
  .apply Ã;unfold Trace.g?;grind [nT]
 .obtain⟨e,n,rfl⟩:=Č m;exact aji (j.c e n) a
theorem kx.YP(c:kx P Y ji H J T lv lot gs w t)(q:gs[i]?=Â g)(b:i≠0)(y:g.status=ċ): ∃a e f u,runT P (Ĭ gs w sl) i=(.next<|Ĭ f w sl,u)/\f.size=gs.size/\sumTo gs.size a+1=sumTo gs.size lv/\e 0=lot 0/\kx P Y ji H J T a e f w (t++u):=by
 have z:=(æ.1 q).1;obtain⟨f,r,m,M,B,o,N,C,D⟩:=c.r.NC (n:=lv i) q b y U (by simp[b]) (by simp[b]);have E:∀u∈MemOp.ofEvents i g.frame.fn g.frame.place r,u.act.touch?=Á:=λu h=>by obtain⟨e,s,rfl⟩:=Č h;exact touch_mute<|C e s
 refine⟨fx lv i m,gu lot i {lot i with d:=į (lot i).d r,w:=w},f,_,B,o,?_,gG lot _<|Ne.symm b,by rw[o];exact c.C,?_,λj v F=> ?_,?_,λp a k G=> ?_,λp a x k I=> ?_,λa k=>(c.b a k).app λu h=> ?_,Ř c.N λu h=>Ç<|E u h⟩
 .grind [wi,fH,gE]
 .have l:fx (λi=>if i=0 then J else oO P (lv i)) i (oO P m)=λj=>if j=0 then J else oO P (fx lv i m j):=by
   funext j;unfold fx;grind
  rwa[<-l]
 .by_cases e:j=i
  .subst e;rw[gS];have:=c.c j v z;rw[this];rfl
  .rw[gG lot _ e];exact c.c j v<|by rwa[<-o]
 .rw[gG lot _<|Ne.symm b];exact c.d
 .rcases mI k with⟨_,l⟩|⟨_,u,l,K,_⟩
  .exact(c.M p a l G).imp (·.app _) id
  .grind
 .rcases mI k with⟨L,l⟩|⟨_,u,l,K,_⟩
  .rw[g?_old L];exact c.S p a x l I
  .grind
 .obtain⟨e,s,rfl⟩:=Č h;grind [ajj]
def kx.JH(c:kx P Y ji H J T lv lot gs w t):∀g∈gs,awake g:=by
 intro g e;obtain⟨i,f,rfl⟩:=Array.mem_iff_getElem.1 e;let⟨g0,_,b,a,_⟩:=c.r.C i _<|ì f;intro τ d;generalize gs[i]=g at b d;cases b with
 |gi=>rcases a with a|a<;>rw[d]at a<;>cases a
theorem kx.G(K:∀l g,J l g->g.status=ċ\/g.status=ş):∀(T:gy) (s:Nat) (lv:Nat->Nat) (lot:Nat->fe) (gs:Array Ý) (w:ß) (sl:Option (Nat×Nat)) (t:ż),sumTo gs.size lv=s->kx P Y ji H J T lv lot gs w t-> ∃N h b a f e c,Ŷ P N (Ĭ gs w sl) t=(.next<|Ĭ a f e,c)/\a.size=gs.size/\qp (lot 0) (b 0) w f/\kx P Y ji H J .fB h b a f c:=by
 intro T
 induction Wj.apply T with
 |intro T _ L=>
  intro s
  induction s using Nat.strongRecOn with
  |_ s M=>
   intro lv lot gs w sl t V c;cases C:T with
   |fB=>
    subst C;exact⟨0,lv,lot,gs,w,sl,t,U,U,qp.fT _ _,c⟩
   |jF k=>
    subst C;have W:=c.C;obtain⟨g0,D⟩:∃g,gs[0]?=Â g:=⟨_,ì Z⟩;have O:g0.status=ċ:=by let⟨S,d,i,_,_⟩:=c.r.C 0 g0 D;grind [ae8]
    let⟨i,g,d,e,E,Q,F⟩:=crowd_pick (P:=P) (w:=w) (sl:=sl) c.JH ⟨0,g0,D,O⟩;by_cases G:i=0
    .subst G;let⟨b,a,f,u,n,j,S,I⟩:=(c.I d).ajk (sl:=e) K E;let⟨N,o,p,q,r,v,x,y,z,m,B⟩:=L (k<|w.at d) ⟨_,U⟩ _ lv b a f e (t++u) U I;exact⟨N+1,o,p,q,r,v,x,by simp only[Ŷ,F,n];exact y,z.trans j,S.G.fh m,B⟩
    .let⟨h,b,a,u,n,j,I,f,S⟩:=(c.I d).YP (sl:=e) E G Q;let⟨N,o,p,q,r,v,x,y,z,m,B⟩:=M (sumTo a.size h) (by rw[j];omega) h b a (w.at d) e (t++u) U S;exact⟨N+1,o,p,q,r,v,x,by simp only[Ŷ,F,n];exact y,z.trans j,by rw[f]at m;exact m.G,B⟩
end
section
variable{F:Ph}{E:fS F}{S:Nat->Jd}{tr:Nat->gy}{o:Nat->iy}{f:Nat->fe}{gs:Array Ý}
def PI.jl(p:PI F i zX E S tr o f gs w qJ)(c:E.M=.fZ):E.r=F.n+1/\∀x,x<F.n+1->∃N,E.N x=Â (.jl N):=by
 refine⟨(by unfold fS.r;rw[c];rfl),λx g=> ?_⟩;have a:=Oz (p.C.B<|Ç<|Ç c) x g;have j:x<E.M.ad F.n:=by rwa[c]
 unfold fS.G at a;rw[if_pos j]at a;have l:E.M.gD=0:=by rw[c];rfl
 cases d:E.N x with
 |none=>rw[d]at a;simp[lS]at a
 |some e=>
  rw[d]at a;simp only[lS]at a;cases e with
  |ot=>simp[ig.kG]at a
  |jl N=>exact⟨N,U⟩
  |fZ q=>
   let⟨h,k⟩:=p.C.N x q d;cases q with
   |jy=>simp[ig.kG,jA.kG]at a
   |iE=>simp[ig.kG,jA.kG]at a
   |gB W=>
    let⟨_,b⟩:=h W<|Ã U;have r:=p.M.C.r;rw[b]at r;have:=(p.C.g W b).2.1;simp only[GS.ok]at r;omega
   |jb W=>
    let⟨_,b⟩:=h W<|Ç U;have r:=p.M.C.r;rw[b]at r;have:=(p.C.g W b).2.1;simp only[GS.ok]at r;omega
   |iz r=>
    let⟨W,_,s,b⟩:=k r U;have:=(p.C.u r s b).2.1;omega
def wU(l:fe):fe:={l with O:=λ_=>False,I:=λ_=>False,r:=λ_=>False,N:=λ_=>False,K:=λ_=>False,q:=True}
def uP(f:Nat->fe)(l:fe):Nat->fe:=λi=>if i=0 then l else wU (f i)
def Rq(f:Nat->fe)(l:fe):uP f l 0=l:=rfl
def vj(f:Nat->fe)(l:fe)(h:i≠0):uP f l i=wU (f i):=if_neg h
def GX{l:fe}(h:i≠0):¬(uP f l i).M b:=by rw[vj f l h];exact λq=>q.elim id id
def GY{l:fe}(h:i≠0):¬(uP f l i).C a:=by rw[vj f l h];exact λq=>q.elim id id
def iP.Y{Y I:Nat->Prop}(C:iP n I Y f w qJ)(u:I 0){l:fe}(v:n<=m)(x:∀b,l.O b->¬l.I b)(y:∀a,l.r a->¬l.N a)(B:∀b,l.M b->¬X b)(D:∀a,l.C a->X a.block)(E:∀b,l.M b->b<w.heap.size)(F:∀b,X b->b<w.heap.size)(G:fI l l.w w)(H:Nx qJ 0 l)(J:l.d=(f 0).d)(t:∀a,l.K a->X a.block/\¬l.r a):iP m I X (uP f l) w qJ:=by
 refine⟨λi j g L s b o=> ?_,λi j g L s a e=> ?_,λi g b o=> ?_,λi g a e=> ?_,λi g b o=> ?_,λi g a e=> ?_,λi g b o=> ?_,F,λi g=> ?_,λi g=> ?_,λi g=> ?_,C.l,C.q,λp a c N r P=>È (C.s p a c N r P) v,λi g a e=> ?_⟩
 .by_cases h:j=0
  .subst h;exact absurd (Ã o)<|GX s
  .exact GX h
 .by_cases h:j=0
  .subst h;exact absurd (Ã e)<|GY s
  .exact GY h
 .by_cases h:i=0
  .subst h;exact x b o
  .exact absurd (Ã o)<|GX h
 .by_cases h:i=0
  .subst h;exact y a e
  .exact absurd (Ã e)<|GY h
 .by_cases h:i=0
  .subst h;exact B b o
  .exact absurd o<|GX h
 .by_cases h:i=0
  .subst h;exact D a e
  .exact absurd e<|GY h
 .by_cases h:i=0
  .subst h;exact E b o
  .exact absurd o<|GX h
 .by_cases h:i=0
  .subst h;exact G
  .rw[vj f l h];exact⟨(C.r i g).r,λj q=>q.elim (λz=>z.elim) λz=>z.elim,λa q=>q.elim (λz=>z.elim) λz=>z.elim,λa q=>q.elim (λz=>z.elim) λz=>z.elim,λa q=>q.elim⟩
 .by_cases h:i=0
  .subst h;exact H
  .rw[vj f l h];exact⟨λa e=>e.elim,λa e=>e.elim,λa e=>e.elim,λa e=>e.elim⟩
 .by_cases h:i=0
  .subst h;rw[Rq,J];exact C.f 0 u
  .rw[vj f l h];exact C.f i g
 .by_cases h:i=0
  .subst h;refine⟨(t a e).1,λk z q=> ?_⟩;by_cases r:k=0
   .subst r;exact(t a e).2 q
   .exact absurd (Ã q)<|GY r
  .rw[vj f l h]at e;exact e.elim
theorem PI.ajl(p:PI F i zX E S tr o f gs w qJ)(m:E.M=.fZ)(r:JC F zX qJ)(y:F.S=0)(M:1<=F.L): ∃z:Nat->Nat,kx F.P E.Y (λk=>zX k\/∃x:â,k=û x/\x.block=F.C) w.heap.size (F.j E.I) (tr 0) z (uP f<|f 0) gs w qJ:=by
 let⟨B,s⟩:=p.jl m;have O:gs.size=F.L+(F.n+1):=by rw[p.b,B]
 have C:=p.I.r;have c:0<gs.size:=Z
 refine⟨λb=>if h:F.L<=b/\b<F.L+(F.n+1)then Classical.choose (s (b-F.L) Z)else E.h b,Z,⟨?_,λb x t=> ?_,p.I.I⟩,λb Q _=> ?_,p.a.M 0<|Ã U,λq a d D=> ?_,λq a x d G=>Ç<|Wh C.q d G,λa d q u=> ?_,r.2⟩
 .rw[y]at C;exact C.Y c (Ú _) (C.m 0 c) (C.g 0 c) (C.I 0 c) (C.e 0 c) (C.fv 0 c) C.N (C.r 0 c) (C.S 0 c) U λa d=>⟨(C.n 0 c a d).1,(C.n 0 c a d).2 0 c⟩
 .let⟨k,j,l,v,H⟩:=p.I.C b x t;by_cases h:b=0
  .subst h;rw[p.h.1,m]at j;rw[p.h.2,m]at l;exact⟨k,j,l,v,H⟩
  .have T:=(æ.1 t).1;simp only[h,if_false];rw[vj f _ h];have I:∀N,S b=oO F.P N->tr b=.fB->o b=.no->∃k,kQ F.P (b==0) (oO F.P N) .fB (wU<|f b) k/\vY k .no x/\(k.status=ċ\/k.status=ş)/\(x=k\/True):=λN z e g=>by
    rw[z,e]at j;rw[g]at l;exact⟨k,λJ _=>j _<|fI.fT _ _,l,v,Ç trivial⟩
   by_cases J:b<F.L
   .let⟨z,e,g⟩:=p.l b Z J;grind
   .have K:F.L<=b/\b<F.L+(F.n+1):=Z
    simp only[K,dif_pos,and_self];let⟨z,e,g⟩:=p.k (b-F.L) _ Z<|Classical.choose_spec<|s (b-F.L) Z;rw[show F.L+(b-F.L)=b by omega]at z e g;exact I _ z (g ⟨_,U⟩) e
 .rw[vj f _ Z];rfl
 .rcases r.1 q a d D with z|⟨z,k⟩;all_goals grind
 .unfold Trace.act? at u;let⟨k,z,g⟩:=ġ.1 u;have:=C.q k<|Array.mem_of_getElem? z;rw[g]at this;have e:a.block<w.heap.size:=this;omega
theorem kx.Y{Y:Nat->Prop}{J:Jd}{s:gy}(c:kx P Y zX n J s D f gs w qJ)(t:(f 0).d=0)(o:gs[0]?=Â g)(u:g.status=ċ){p:Jd}{T:gy}{l:fe}(v:l.w=w)(y:l.d=0)(B:¬l.q)(k:∀b,¬l.I b)(r:∀a,¬l.r a)(m:∀a,¬l.N a)(C:∀a,¬l.K a)(E:∀b,l.O b->b<w.heap.size/\∀x:â,x.block=b->¬zX (û x))(F:kQ P Ò p T l g): rj P zX n p T D (uP f l) gs w qJ:=by
 refine⟨c.C,⟨?_,λi x j=> ?_,c.r.I⟩,λi o _=> ?_,B,c.M,c.S,c.b,c.N⟩
 .refine(c.r.r).Y c.C (Ú _) (λb _=>k b) (λa _=>m a) (λ_ _=>id) (λa e=>e.elim (λq=>absurd q<|r a) λq=>absurd q<|m a) (λb z=>z.elim (λq=>(E b q).1) λq=>absurd q<|k b) (λ_ h=>h.elim) (by rw[v];exact fI.fT _ _) ⟨λa e G x j I=> ?_,λa e=>(k _ e).elim,λa e=>(r a e).elim,λa e=>(m a e).elim⟩ (by rw[y,t]) λa e=>absurd e<|C a;rcases c.M G x j (by rw[I];rfl)with z|⟨z,_⟩;all_goals grind
 .by_cases h:i=0
  .subst h;rw[o]at j;obtain rfl:=Ó j;exact⟨g,F,.gi,Ã u,Ã U⟩
  .let⟨g0,e,G,I,z⟩:=c.r.C i x j;simp only[h,if_false]at e z|-;rw[vj f _ h];exact⟨g0,λL _=>e _<|fI.fT _ _,G,I,z⟩
 .rw[vj f _ Z];rfl
end
section
variable{F:Ph}{H:Nat}{J:Jd}{f:Nat->fe}{gs:Array Ý}
structure Rr(F:Ph)(H:Nat)(l0 l:fe)(w:ß):Prop where
 fq:∀b,l.O b->l0.O b/\¬(F.M b\/b=F.Y)
 r:∀b,l.I b->l0.O b/\¬(F.M b\/b=F.Y)/\¬l.O b
 C:∀a,l.r a↔∃x,x<=F.n/\lF F x a
 I:∀a,l.N a↔a=je F.toFx 0
 k:∀a,l.K a->F.G a
 M:∀b,F.M b\/b=F.Y->l0.O b
 N:∀b,F.M b->H<=b
 g:l.w=w
 d:l.d=0
 q:¬l.q
 S:∀b,F.i b->l.I b
 Y:gZ w F.C (.cl 1 0)
 c:gZ w (F.I 0) (.cl 0 0)
 e:∀k,1<=k->k<=F.m->gZ w (F.I k) (.cl 1 0)
 f:F.d 0 F.l F.i w
def lV(F:Ph)(D:Nat->Nat)(a:Nat->Nat):fS F where
 M:=.go 0
 S:=.kF 0
 C:=λ_=> .mW 0
 N:=λ_=>Á
 I:=a
 c:=λ_=>F.l
 V:=λk=>if k=0 then F.i else λ_=>False
 e:=λ_=>0
 d:=λ_=>Á
 f:=λ_=>0
 b:=.cl 1 0
 a:=λk=>if k=0 then .cl 0 0 else .cl 1 0
 g:=Á
 h:=D
theorem KD(ok:F.Ok)(h:lF F i a):(∃k,1<=k/\k<=F.m/\a=je F.toFx k)\/∃p,p≠F.f/\a=jj F p:=by
 unfold lF at h;split at h
 .obtain⟨k,c,d,b|b⟩:=h
  .grind
  .exact Ç ⟨_,ok.Y.1 k c d,b⟩
 .let⟨k,c,_,b⟩:=h;exact Ç ⟨_,ok.Y.2 _ (by assumption),b⟩
def YQ(ok:F.Ok)(h:lF F i (je F.toFx 0)):False:=by
 rcases KD ok h with⟨k,c,b,a⟩|⟨p,_,a⟩
 .have:F.I 0=F.I k:=by injection a
  have:=ok.S 0 k Z b this;omega
 .have:F.I 0=F.Y:=by injection a
  exact ok.C<|by rw[<-this];exact Ç ⟨0,Z,U⟩
theorem rj.ajm(X:gQ F)(c:rj F.P zX H J .fB D f gs w qJ)(hL:F.L=gs.size)(hB:F.S=0)(E:gs[0]?=Â g){l:fe}(st:Rr F H (f 0) l w)(oQ:(f 0).d=0)(u:Nat->Nat)(hgo:F.g 0 u l g): PI F qJ.size zX (lV F D u) (λi=>if i=0 then F.g 0 u else oO F.P (D i)) (λ_=> .fB) (λ_=> .no) (λi=>if i=0 then l else wU (f i)) gs w qJ:=by
 have S:=X.C;have C:=c.r.r;have j1:=c.C;have T:0<gs.size:=Z
 have y:(lV F D u).r=0:=U;have hY:∀b,(lV F D u).Y b↔(F.M b\/b=F.Y):=λb=>by
  constructor
  .rintro(q|q|⟨j,B,_⟩);all_goals grind
  .rintro(q|q)
   .exact Ã q
   .exact Ç<|Ã q
 have YR:∀a,l.C a->F.M a.block\/a.block=F.Y:=λa o=>by
  rcases o with q|q
  .let⟨x,_,G⟩:=(st.C a).1 q;rcases KD S G with⟨k,B,t,rfl⟩|⟨p,_,rfl⟩
   .exact Ã<|Ç ⟨k,t,U⟩
   .exact Ç U
  .rw[(st.I a).1 q];exact Ã<|Ç ⟨0,Z,U⟩
 have nC:∀i,i≠0->∀a,¬((λi=>if i=0 then l else wU (f i)) i).C a:=λi h a q=>by simp only[h,if_false]at q;exact q.elim id id
 have nM:∀i,i≠0->∀b,¬((λi=>if i=0 then l else wU (f i)) i).M b:=λi h b q=>by simp only[h,if_false]at q;exact q.elim id id
 have hM0:∀b,l.M b->(f 0).O b/\¬(F.M b\/b=F.Y):=λb q=>q.elim (st.fq b) λz=>⟨(st.r b z).1,(st.r b z).2.1⟩;have OB:iP F.S (λi=>i<gs.size) (lV F D u).Y (λi=>if i=0 then l else wU (f i)) w qJ:=by
  refine⟨λi j E hj N b v=> ?_,λi j E hj N a o=> ?_,λi E b v=> ?_,λi E a o=> ?_,λi E b v=> ?_,λi E a o=> ?_,λi E b v=> ?_,λb v=>C.fv 0 T b<|Ã<|st.M b<|(hY b).1 v,λi E=> ?_,λi E=> ?_,λi E=> ?_,C.l,C.q,λq a e B t I=> ?_,λi E a o=> ?_⟩
  .by_cases h:j=0
   .subst h;simp only[N,if_false]at v;exact v.elim
   .exact nM j h b
  .by_cases h:j=0
   .subst h;simp only[N,if_false]at o;exact o.elim
   .exact nC j h a
  .by_cases h:i=0
   .subst h;simp only[if_true]at v|-;exact λq=>(st.r b q).2.2 v
   .simp only[h,if_false]at v;exact v.elim
  .by_cases h:i=0
   .subst h;simp only[if_true]at o|-;intro q;rw[(st.I a).1 q]at o;let⟨x,_,G⟩:=(st.C _).1 o;exact YQ S G
   .simp only[h,if_false]at o;exact o.elim
  .by_cases h:i=0;all_goals simp_all
  .by_cases h:i=0;all_goals simp_all
  .by_cases h:i=0
   .subst h;simp only[if_true]at v;exact C.fv 0 T b<|Ã (hM0 b v).1
   .simp_all
  .by_cases h:i=0
   .subst h;simp only[if_true];rw[st.g];exact fI.fT _ _
   .simp only[h,if_false];exact⟨(C.r i E).r,λj q=>q.elim (λz=>z.elim) λz=>z.elim,λa q=>q.elim (λz=>z.elim) λz=>z.elim,λa q=>q.elim (λz=>z.elim) λz=>z.elim,λa q=>q.elim⟩
  .by_cases h:i=0
   .subst h;simp only[if_true];have s:=(C.S 0 T).fq;exact⟨λa o=>s a (st.fq _ o).1,λa o=>(s a (st.r _ o).1).r,λa o=>s a<|st.M _<|YR a<|Ã o,λa o=>(s a<|st.M _<|YR a<|Ç o).r⟩
   .simp only[h,if_false];exact⟨λa o=>o.elim,λa o=>o.elim,λa o=>o.elim,λa o=>o.elim⟩
  .by_cases h:i=0
   .subst h;simp only[if_true];rw[C.f 0 T,oQ,st.d]
   .simp only[h,if_false];exact C.f i E
  .have:=C.s q a e B t I;omega
  .by_cases h:i=0
   .subst h;simp only[if_true]at o;let⟨b,v,s⟩:=st.k a o;have Q:a.block=b:=by rcases s with rfl|rfl<;>rfl
    refine⟨by rw[hY,Q];exact Ã v,λk K q=> ?_⟩;by_cases t:k=0
    .subst t;simp only[if_true]at q;let⟨x,_,G⟩:=(st.C a).1 q;rcases KD S G with⟨k',_,_,I⟩|⟨p',_,I⟩
     .rcases s with W|W<;>rw[W]at I<;>simp[fM,gU,je]at I
     .have:a.block=F.Y:=by rw[I];rfl
      exact S.C<|by rwa[<-this,Q]
    .simp only[t,if_false]at q;exact q
   .simp only[h,if_false]at o;exact o.elim
 have YS:gK F.P F.S (lV F D u).Y (λi=>if i=0 then F.g 0 u else oO F.P (D i)) (λ_=> .fB) (λ_=> .no) (λi=>if i=0 then l else wU (f i)) gs w qJ:=by
  refine⟨OB,λi x G=> ?_,c.r.I⟩;by_cases h:i=0
  .subst h;rw[E]at G;obtain rfl:=Ó G;simp only[if_true];exact⟨g,λs r=>X.Fv 0 u l g s hgo r,.gi,Ã<|X.I 0 u l g hgo,Ã U⟩
  .let⟨g0,Q,q2,N,q4⟩:=c.r.C i x G;simp only[h,if_false]at Q|-;exact⟨g0,λs _=>Q _<|fI.fT _ _,q2,N,Ç trivial⟩
 have ajn:iG F (lV F D u) (λi=>if i=0 then l else wU (f i)) gs.size w:=by
  refine⟨λi E a o=> ?_,λx _ t a o=> ?_,λ_=> ?_,λh=>absurd h (by rw[y];omega),λh=>absurd h (by rw[y];omega),λj h=>absurd h (by rw[y];omega),λj h=>absurd h (by rw[y];omega),λx ⟨e,B,_⟩=>(by cases B),λi h=> ?_,λi B t=> ?_,λk K b v=> ?_,λk K i E q=> ?_,λk B t=> ?_,λj h=>absurd h<|by rw[y];omega⟩
  .by_cases h:i=0
   .subst h;simp only[if_true]at o;rcases o with q|q
    .let⟨x,_,G⟩:=(st.C a).1 q;grind [KD]
    .exact Ã ⟨0,Z,(st.I a).1 q⟩
   .simp_all
  .simp only[if_true];exact(st.C a).2 ⟨x,t,o⟩
  .simp only[if_true];exact⟨(st.I _).2 U,st.S⟩
  .rcases h with rfl|⟨x,G,_⟩
   .simp only[if_true];exact st.q
   .grind
  .have:i≠0:=Z
   simp only[this,if_false];rfl
  .have Q:k=0:=by have:k<=0:=K;omega
   subst Q;have B:=st.S b v;refine⟨C.fv 0 T b<|Ã (st.r b B).1,by rw[hY];exact(st.r b B).2.1,λi E q=> ?_⟩;by_cases h:i=0
   .subst h;simp only[if_true]at q;exact(st.r b B).2.2 q
   .simp only[h,if_false]at q;exact q
  .have Q:k=0:=by have:k<=0:=K;omega
   subst Q;by_cases h:i=0
   .subst h;simp only[if_true]at q;let⟨x,_,G⟩:=(st.C _).1 q;exact YQ S G
   .simp only[h,if_false]at q;exact q
  .have:k<=0:=t;omega
 have gg:∀k,k<=F.m->gZ w (F.I k) ((lV F D u).a k):=λk K=>by
  by_cases h:k=0
  .subst h;exact st.c
  .have:(lV F D u).a k=.cl 1 0:=by simp[lV,h]
   rw[this];exact st.e k Z K
 have wdd:Wd F (lV F D u) w:=by
  refine⟨st.Y,gg,λj h=>absurd h (by rw[y];omega),λk K=> ?_,λk B t=> ?_,λj h=>absurd h<|by rw[y];omega⟩
  .have Q:k=0:=by have:k<=0:=K;omega
   subst Q;exact⟨.uO,st.f⟩
  .have:k<=0:=t;omega
 have YT:∀k,(sumTo F.n λj=>((lV F D u).C j).gD F j k)=0:=λk=>by
  have:∀n,(sumTo n λ_=>0)=0:=λn=>by
   induction n with
   |zero=>rfl
   |succ n s=>simp[sumTo,s]
  exact this F.n
 have ajo:sumTo (F.n+1) (lV F D u).G=1:=by
  have B:=wi (f':=(lV F D u).G) (j:=0) (n:=F.n+1) Z (λi E=>by
   have:¬i<1:=Z
   show(if i<1 then _ else _)=0;rw[if_neg this])
  have t:∀n,(sumTo n λ_=>0)=0:=λn=>by
   induction n with
   |zero=>rfl
   |succ n s=>simp[sumTo,s]
  rw[t]at B;have I:(lV F D u).G 0=1:=U;omega
 have pss:Ps F (lV F D u):=by
  refine⟨U,λj h=> ?_,λj h=> ?_,λr=>⟨λh=>(by cases h),λh=>(by cases h)⟩,λ_=>rfl,λk=>⟨λh=> ?_,λh=>(by cases h),λp h=>by cases h⟩,λ_ _=>rfl,λj r h=>absurd h (by rw[y];omega),λj h=>absurd h (by rw[y];omega),λh=>absurd U h,λ_ _=>rfl,λj j' h=>absurd h (by rw[y];omega),λj h=>absurd h (by rw[y];omega),λc reg h=> ?_,λreg h=>(by cases h),λr s h=>(by cases h),λx p h=>(by cases h),λh=> ?_,λk B t I=> ?_,λk B t=> ?_,λj r h=>absurd h (by rw[y];omega),λj r h=>absurd h (by rw[y];omega),λh=>(by cases h),λ_ _=>⟨1,rfl⟩,λ_ _ _=>rfl,λj r h=>absurd h<|by rw[y];omega⟩
  .rcases h with h|h|h|h<;>cases h;omega
  .rcases h with h|h|h<;>cases h
  .cases h;omega
  .cases h;exact⟨ajo.symm,U⟩
  .rcases h with h|h|h<;>cases h
  .rw[YT];have:k≠0:=Z
   simp[lV,this]
  .have Q:k=0:=by have:k<=0:=t;omega
   subst Q;exact Ç<|Ç ⟨λp h=>(by cases h),Ã ⟨rfl,YT 0⟩⟩
 have s:TI F.toFx qJ.size zX (lV F D u).r (lV F D u).S.rl (lV F D u).V (lV F D u).e (lV F D u).d (lV F D u).iq (lV F D u).f qJ:=by
  refine⟨Ú _,λp a x o Q hc=> ?_,λx h=>absurd h (by rw[y];omega),λk B t=> ?_,λk B t=> ?_,λb v=>c.b _<|st.N b v,λx h=>absurd h (by rw[y];omega),λp a B t=> ?_,λp a _ t I=>c.M p a t I,λp g _ t I W=>c.N p g t I W⟩
  .let⟨b,v,G⟩:=hc;have Oy:x.block=b:=by rcases G with rfl|rfl<;>rfl
   rcases c.S p a x o Q with q|q
   .exact Ã ⟨NT o,q⟩
   .have:=st.N b v;omega
  .have:k<=0:=t;omega
  .have:k<=0:=t;omega
  .have:=NT t;omega
 refine⟨by rw[y,hL];rfl,YS,⟨by simp only[if_true];rfl,U⟩,λh=>absurd h (by rw[y];omega),λj h=>absurd h (by rw[y];omega),λx e h=>absurd h (by rw[y];omega),λi B t=>⟨?_,U,U⟩,ajn,wdd,pss,s,λi x G v=> ?_,λj r h=>absurd h<|by rw[y];omega⟩
 .have:i≠0:=Z
  simp only[this,if_false];rfl
 .let⟨g0,_,q2,N,_⟩:=YS.C i x G;cases q2 with
  |gi=>rcases N with N|N<;>rw[v]at N<;>cases N
end
end Go.Proofs.Y.fA
namespace Go.Proofs.Y.fA
open Go Go.Conc Go.Proofs.Y.Lift Go.RowKit Go.Conc.Lib Go.ConcR.Gen
open Go.Proofs Go.Proofs.YtgpphkdoanciiaaGreatDoor
section
variable{kd:Nat->Int}{R:Nat}
theorem GZ(h:i∈il kd R):i<R/\kd i=1:=by have:=Ā.1 h;grind
theorem G0(h:i∈ju kd R):i<R/\kd i≠1:=by have:=Ā.1 h;grind
def ajp:(il kd R).Nodup:=ņ.filter _
def ajq:(ju kd R).Nodup:=ņ.filter _
def Bp(h:k<jJ.length):jJ[k]?=Â (jJ.getD k 0):=by simp[List.getD,h]
def vk{l:List Nat}(h:k<l.length):l.getD k 0∈l:=ħ<|Bp h
def YU(c:jJ.Nodup)(a:i<jJ.length)(d:j<jJ.length)(h:jJ.getD i 0=jJ.getD j 0):i=j:=by have b:=Bp a;rw[h]at b;exact(List.getElem?_inj a c).1<|b.trans (Bp d).symm
def YV:∀R,(il kd R).length+(ju kd R).length=R
 |0=>rfl
 |R+1=>by
  have:=YV R;by_cases h:kd R=1
  .rw[Be h,QW h];simp;omega
  .rw[Bf h,QX h];simp;omega
end
structure wV where
 γ:Type
 C:γ
 M:Nat->γ->γ->Prop
 RD:γ->Ï->(Nat->Prop)->ß->Prop
 I:Nat->ByteArray
 r:Nat->Prop
def KE(M:wV)(L n R:Nat)(kd:Nat->Int)(a g:Nat->Nat)(b c:Option â)(d e f h j l:Nat)(o:List é)(p:Nat->Prop)(RC eY:ß->Prop):SD where
 L:=L
 g:=0
 n:=n
 m:=fP kd R
 q:=(ju kd R).length
 N:=R
 I:=l
 C:=g
 M:=f
 S:=h
 s:=j
 u:=b
 t:=d
 l:=c
 k:=e
 o:=λk=>Â ⟨a<|(il kd R).getD (k-1) 0,0,Á⟩
 a:=λk=>(il kd R).getD (k-1) 0
 i:=λi=>Â ⟨a<|(ju kd R).getD i 0,0,Á⟩
 c:=λi=>(ju kd R).getD i 0
 b:=λi=>if i<(ju kd R).length then fP kd ((ju kd R).getD i 0)else 0
 f:=o
 d:=p
 RC:=RC
 p:=eY
 γ:=M.γ
 w:=M.C
 v:=M.r
 h:=M.M
 RD:=M.RD
 e:=λk=>M.I<|(il kd R).getD (k-1) 0
 j:=λi=>M.I<|(ju kd R).getD i 0
section
variable{M:wV}{L R:Nat}{kd:Nat->Int}{a:Nat->Nat}{c:Option â}{cs:List é}{RB:Nat->Prop}{RC eY:ß->Prop}{l d f:fe}
def ajr(h:Ks kd a D R (Æ O (fP kd R) j7) (Æ c (ju kd R).length j6) v j b J i j9 m l d f)(F:∀w p,RC w->(∀g,RB g->p.heap[g]?=w.heap[g]?)->RC p)(G:∀w p,eY w->(p.os=w.os/\p.output=w.output)->eY p)(H:∀s B V w p,M.RD s B V w->(∀g,V g->p.heap[g]?=w.heap[g]?)->M.RD s B V p)(I:1<=n)(K:1<=L)(X:n+R<1000):(KE M L n R kd a D O c j7 j6 j b J i cs RB RC eY).Ok:=by
 have Y:=YV (kd:=kd) R;have hc:(il kd R).length=fP kd R:=U;let⟨a1,a2,a3⟩:=h.M;let⟨a4,a5,a6⟩:=h.S;have z:∀k,k<=fP kd R->d.w.heap.size<=D k/\D k<J:=λk r=>⟨(h.r.M k r).1,h.N k r⟩;have Rc:=Õ (z 0 Z).1<|Ł (z 0 Z).2;refine⟨F,G,H,I,K,?_,?_,λo=> ?_,λo t=>(G0<|vk t).1,λk C x=> ?_,λk r e=> ?_,λk u r N e=> ?_,?_,λo i' t P e=>YU ajq t P e,λk u C x h3 Q e=> ?_,λo k t C x e=> ?_,λg _=>ă g⟩
 .show n+(ju kd R).length+fP kd R<1000;omega
 .show R<1000;omega
 .show(if o<(ju kd R).length then fP kd ((ju kd R).getD o 0)else 0)<=fP kd R;split
  .rename_i t;exact Yv<|Ł (G0<|vk t).1
  .omega
 .refine(GZ<|vk ?_).1;have:k<=fP kd R:=x;omega
 .have:=(z k r).2;have y:D k=i:=e;omega
 .have y:D k=D u:=e;have S:=r;have T:=N;rcases Nat.lt_trichotomy k u with q|q|q
  .have:=h.r.S k u q T;omega
  .exact q
  .have:=h.r.S u k q S;omega
 .rintro(e|⟨k,r,e⟩)
  .have y:j=i:=e;omega
  .have y:j=D k:=e;have:=(z k r).1;omega
 .have W:k<=fP kd R:=x;have h4':u<=fP kd R:=Q;have:=YU ajp Z Z e;omega
 .have W:k<=fP kd R:=x;have y:(ju kd R).getD o 0=(il kd R).getD (k-1) 0:=e;have E:=(G0<|vk t).2;rw[y]at E;exact E<|(GZ (kd:=kd) (R:=R)<|vk (k:=k-1) Z).2
end
abbrev ky(M:wV)(L n R:Nat)(kd:Nat->Int)(c g:Nat->Nat)(d e:Option â)(f h i a j k:Nat)(cs:List é)(l:fe):SD:=KE M L n R kd c g d e f h i a j k cs (λb=>l.O b\/b=a) (λw=>∀b,l.O b->w.heap[b]?=l.w.heap[b]?) λw=>w.os=l.w.os/\w.output=l.w.output
def KF(D:SD)(l:fe):fe:={l with O:=λb=>l.O b/\¬(D.Y.M b\/b=D.M)/\¬D.d b,I:=D.d,r:=λa=>∃x,x<=D.n/\lF (D.r Ä) x a,N:=λa=>a=je D.Y 0,K:=D.Y.G}
section
variable{M:wV}{L:Nat}{f:Nat->Int}{r:Nat->Nat}{u:Option â}{y:Nat}{cs:List é}{l B o:fe}
def KG{cs:Array Ï}(h:w.heap[b]?=Â (É cs e)):w.frozen? ⟨b,i,Á⟩=Ì:=by simp[î,h]
def Rs{cs:Array Ï}(h:w.heap[b]?=Â (É cs e))(a:cs[0]?=Â (Ê ê<|(i:Int)*fX+0))(d:cs[1]?=Â (Ê Ď 0))(f:i<1000000):gZ w b (.cl i 0):=by
 refine⟨?_,?_,KG h,KG h,(⟨f,Z,λ_=>rfl⟩)⟩
 .simp[Ö,fM,h,a,GS.st]
 .simp[Ö,gU,h,d,GS.sm]
def ajs(h:Ks f r D j (Æ O (fP f j) j6) (Æ u (ju f j).length y) v k m j9 b j7 J l B o)(s:gw l)(KH:∀g,¬l.I g)(W:¬l.q)(X:l.d=0)(hH:i<=l.w.heap.size)(hV:∀g,M.r g->l.O g)(qo:M.RD M.C v M.r o.w)(wT:o.w.os=l.w.os/\o.w.output=l.w.output)(hn:1<=n)(hs:n+j<1000){t:Array Ï}(hT:Gv m b (D<|fP f j) n (Æ u (ju f j).length y) t)(dk:Nat->Nat): Rr ((ky M L n j f r D O u j6 y k m j9 b cs l).r Ä) i o (KF (ky M L n j f r D O u j6 y k m j9 b cs l) o) o.w/\ ((ky M L n j f r D O u j6 y k m j9 b cs l).r Ä).g 0 dk (KF (ky M L n j f r D O u j6 y k m j9 b cs l) o) (A0 (À<|Â ⟨b,0,Á⟩) jQ (À<|Â ⟨b,0,Á⟩) (ñ #[]) j7 J<|Dm t::cs):=by
 let⟨a1,a2,a3⟩:=h.M;let⟨a4,a5,a6⟩:=h.S;have N:∀C,C<=fP f j->B.w.heap.size<=D C/\D C<j9:=λC E=>⟨(h.r.M C E).1,h.N C E⟩;have Rc:=Õ (N 0 Z).1<|Ł (N 0 Z).2;have Y:=λg q=>s.fv g<|Ã q;have hc:(il f j).length=fP f j:=rfl;have Q:∀g,(ky M L n j f r D O u j6 y k m j9 b cs l).Y.M g\/g=k->g=b\/(∃C,C<=fP f j/\g=D C)\/g=k:=λg q=>by
  rcases q with(q|⟨C,S,q2⟩)|q
  .exact Ã q
  .exact Ç<|Ã ⟨C,S,q2⟩
  .exact Ç<|Ç q
 have H:∀g,(ky M L n j f r D O u j6 y k m j9 b cs l).Y.M g\/g=k->l.w.heap.size<=g/\g≠m/\g≠j9/\g≠j7/\g≠J/\(∀C,(Æ O (fP f j) j6).ownBlock=Â C->g≠C)/\(∀C,(Æ u (ju f j).length y).ownBlock=Â C->g≠C):=λg q=>by
  rcases Q g q with rfl|⟨C,E,rfl⟩|rfl
  .exact⟨Z,Z,Z,Z,Z,λC e=>by have:=h.o3 C e;omega,λC e=>by have:=h.o4 C e;omega⟩
  .have:=N C E;exact⟨Z,Z,Z,Z,Z,λp e z=>(h.r.M C E).2.1<|z▸e,λp e z=>(h.r.M C E).2.2<|z▸e⟩
  .exact⟨Z,Z,Z,Z,Z,λC e=>by have:=(h.r.r C e).2;omega,λC e=>by have:=(h.r.C C e).2;omega⟩
 have ajt:∀g,(ky M L n j f r D O u j6 y k m j9 b cs l).Y.M g\/g=k->o.O g:=λg q=>by
  rcases Q g q with rfl|⟨C,E,rfl⟩|rfl
  .exact h.Y.fq
  .by_cases x:C=0
   .subst x;exact h.r.N.fq
   .exact(h.r.I C Z E).fq
  .exact h.I.fq
 have K:∀g,o.O g->l.w.heap.size<=g->g≠m->¬((ky M L n j f r D O u j6 y k m j9 b cs l).Y.M g\/g=k)->(KF (ky M L n j f r D O u j6 y k m j9 b cs l) o).O g:=λg S q2 q4 q3=>⟨S,q3,λq=>q.elim (λq=>by have:=Y g q;omega) q4⟩;have YW:gZ o.w b (.cl 1 0):=Rs h.Y.I U U Z;have YX:gZ o.w (D 0) (.cl 0 0):=Rs h.r.N.I U U Z;have YY:∀C,1<=C->C<=fP f j->gZ o.w (D C) (.cl 1 0):=λC I P=>Rs (h.r.I C I P).I U U Z;have T:∀g c,gZ o.w g c->ng g o.w:=λg c q=>⟨by rw[show(⟨g,0,Á⟩:â)=fM g from rfl,q.C];rfl,by rw[show(⟨g,1,Á⟩:â)=gU g from rfl,q.M];rfl⟩;refine⟨⟨λg q=>⟨q.1,q.2.1⟩,λg q=>⟨?_,λz=> ?_,λz=>z.2.2 q⟩,λa=>Iff.rfl,λa=>Iff.rfl,λa q=>q,λg q=>ajt g q,λg q=>Õ hH (H g<|Ã q).1,U,h.C.d.trans X,by show¬o.q;rwa[h.C.q],λg q=>Ã<|hV g q,YW,YX,YY,⟨⟨v,h.r.N.C U,qo⟩,λ_=> ?_⟩⟩,?_⟩
 .rcases q with q|q
  .exact h.C.O g q
  .rw[q];exact h.a.fq
 .rcases q with q|q
  .have:=(H g z).1;have:=Y g q;omega
  .exact(H g z).2.1 q
 .refine⟨?_,by unfold kJ;rw[show o.w.heap[(ky M L n j f r D O u j6 y k m j9 b cs l).M]?=Â (wO j)from h.I.I],wT⟩;show o.w.cell? ⟨k,j,Á⟩=Á;simp only[Ö,h.I.I,wO,ı,Ķ,if_false];exact Array.getElem?_eq_none<|by rw[ř];exact Ú _
 refine⟨h.C.d.trans X,by show¬o.q;rwa[h.C.q],ă _,Ã ⟨U,⟨λg q=>⟨⟨g,q,Ã U⟩,⟨g,q,Ç U⟩⟩,λg q=> ?_,Ç<|Ç U,h.a.C U,(Ã<|K j9 h.c.fq Z Z λz=>(H j9 z).2.2.1 U),h.c.C U,λC E=> ?_,λe hi=> ?_,λa q=> ?_,λg q=>Ç q,λg q=>h.C.r g (Ã q) id⟩,t,j7,J,jQ,hT,⟨(K j7 h.d.fq Z Z λz=>(H j7 z).2.2.2.1 U),h.d.I⟩,⟨(K J h.b.fq Z Z λz=>(H J z).2.2.2.2.1 U),h.b.I⟩,U⟩⟩
 .rcases Q g (Ã q)with rfl|⟨C,E,rfl⟩|rfl
  .exact T _ _ YW
  .by_cases x:C=0
   .subst x;exact T _ _ YX
   .exact T _ _<|YY C Z E
  .exact absurd q λz=>by
    rcases z with z|⟨C,x,F⟩
    .have G:g=b:=z;omega
    .have G:g=D C:=F;have:=(N C x).1;omega
 .have sV:C<fP f j:=E;rcases h.r.jH.2 with⟨_,e2⟩|⟨g,cap,cur,V,_,hcur,GN⟩
  .omega
  .have yy:O=Â ⟨g,0,Á⟩:=by injection V
   subst yy;have x:=h.r.jH.cells U;have hz:(il f j).zipIdx[C]?=Â ((il f j).getD C 0,C):=by rw[List.getElem?_zipIdx,Bp Z];simp
   have F:∀c,c<4->(jH f r D j)[C*4+c]?=(tI r D ((il f j).getD C 0,C))[c]?:=λc q=>Q0 (λ_=>rfl) q _ C _ hz;have G:∀p,(⟨g,0,Á⟩:â).add p=⟨g,p,Á⟩:=λp=>by rw[ğ,č]
   refine⟨g,U,Ã (K g (h.r.r g U).1 (Õ Z (h.r.r g U).2) (by have:=(h.r.r g U).2;omega) λz=>(H g z).2.2.2.2.2.1 g U U),?_,?_,?_,?_⟩
   .have:=x (C*4+0) _<|F 0 Z;rwa[G]at this
   .have:=x (C*4+1) _<|F 1 Z;rwa[G]at this
   .have:=x (C*4+2) _<|F 2 Z;rwa[G]at this
   .have:=x (C*4+3) _<|F 3 Z;rwa[G]at this
 .have kZ:e<(ju f j).length:=hi;rcases h.r.my.2 with⟨_,e2⟩|⟨g,cap,cur,V,_,hcur,GN⟩
  .omega
  .have Rn:u=Â ⟨g,0,Á⟩:=by injection V
   subst Rn;have x:=h.r.my.cells U;have F:∀c,c<4->(my f r D j)[e*4+c]?=(tQ f r D<|(ju f j).getD e 0)[c]?:=λc q=>Q0 (λ_=>rfl) q _ e _<|Bp kZ;have G:∀p,(⟨g,0,Á⟩:â).add p=⟨g,p,Á⟩:=λp=>by rw[ğ,č]
   refine⟨g,U,Ã (K g (h.r.C g U).1 (Õ Z (h.r.C g U).2) (by have:=(h.r.C g U).2;omega) λz=>(H g z).2.2.2.2.2.2 g U U),?_,?_,?_,?_⟩
   .have:=x (e*4+0) _<|F 0 Z;rwa[G]at this
   .have:=x (e*4+1) _<|F 1 Z;rwa[G]at this
   .have:=x (e*4+2) _<|F 2 Z;rw[G]at this;show o.w.cell? ⟨g,e*4+2,Á⟩=Â (À<|Â ⟨D (if e<(ju f j).length then fP f ((ju f j).getD e 0)else 0),0,Á⟩);rw[if_pos kZ];exact this
   .have:=x (e*4+3) _<|F 3 Z;rwa[G]at this
 .have V:∀p,p<j->(o.w.cell? ⟨k,p,Á⟩).isSome=Ò/\o.w.frozen? ⟨k,p,Á⟩=Ì:=λp hp=>by
   refine⟨?_,KG h.I.I⟩;have:p<(madeCells (Ŵ<|à ⟨#[]⟩) j).size:=by rwa[ř]
   simp[Ö,h.I.I,this]
  let⟨x,_,F⟩:=q;unfold lF at F;split at F
  .obtain⟨C,I,P,rfl|rfl⟩:=F
   .have G:=P;refine⟨?_,KG (h.r.I C I G).I⟩;show(o.w.cell? ⟨D C,2,Á⟩).isSome=Ò;rw[(h.r.I C I G).C U];rfl
   .have G:C<=fP f j:=P;exact V _ (GZ<|vk Z).1
  .obtain⟨e,I,_,rfl⟩:=F;exact V _ (G0<|vk I).1
end
end Go.Proofs.Y.fA
namespace Go.Proofs.Y.fA
open Go Go.Conc Go.Proofs.Y.Lift Go.RowKit Go.Conc.Lib Go.ConcR.Gen
open Go.Proofs Go.Proofs.YtgpphkdoanciiaaGreatDoor
open Go.ConcN (sumTo sumTo_congr)
def KI(kd:Nat->Int)(f:Nat->Nat)(R n:Nat)(h:Ï)(l:fe)(cs:List é):Jd:=λi j=>
 ∃g k t m b o c p a d e q,Ks kd f g R m b h o c p a d e l k i/\Gv c a (g<|fP kd R) n b t/\j=A0 (À<|Â ⟨a,0,Á⟩) q (À<|Â ⟨a,0,Á⟩) (ñ #[]) d e (Dm t::cs)
theorem YZ(h:w.ownsRow i e j v n l):∃b c,v=Æ b n c:=by rcases h.2 with⟨a,d⟩|⟨b,f,g,a,_⟩;all_goals grind
section
variable{F:Ph}{E:fS F}{S:Nat->Jd}{B:Nat->gy}{G:Nat->iy}{y:Nat->fe}{o:Array Ý}
theorem PI.aju(p:PI F j9 zX E S B G y o w qJ)(c:E.M=.fZ)(d:1<=F.n):E.S=.kF F.m/\(∀i,i<F.q->w.cell? (jj F<|F.a i)=Â (à<|F.k i)/\∀k,k<o.size->¬(y k).r (jj F<|F.a i)):=by
 let⟨j,a⟩:=p.jl c;refine⟨p.C.f (by let⟨N,h⟩:=a 0 Z;rw[h];simp),λi k=> ?_⟩;have l:i%F.n<F.n:=ĵ _ d;have e:i%F.n+i/F.n*F.n=i:=by rw[Nat.mul_comm];exact Nat.mod_add_div i F.n
 let⟨N,h⟩:=a (i%F.n+1) Z;let⟨_,r,f,g⟩:=p.C.l (i%F.n) Z (by rw[h];simp);have b:i/F.n<(E.C<|i%F.n).kt:=by rw[f];exact(g (i/F.n)<|by rwa[e])
 have s:=p.M.N (i%F.n) Z (i/F.n) (by rwa[e]) b;have t:=p.a.d (i%F.n) Z (i/F.n) (by rwa[e]) b;grind
end
structure ajv(D:SD)(l:fe)(w:ß)(g:Ý):Prop where
 I:∀b,l.O b->w.heap[b]?=l.w.heap[b]?
 cba:w.cell? ⟨D.S,0,Á⟩=Â (Æ (Â ⟨D.M,0,Á⟩) D.N D.N)
 kF:∀k,1<=k->k<=D.m->w.cell? ⟨D.M,D.a k,Á⟩=Â (à<|D.e k)
 Rt:∀i,i<D.q->w.cell? ⟨D.M,D.c i,Á⟩=Â (à<|D.j i)
 G1:∃s sl V,mX (D.r Ä) D.m s/\w.cell? ⟨D.C D.m,2,Á⟩=Â sl/\D.RD s sl V w/\∀b,V b->b<w.heap.size/\b≠D.I
 fv:D.M<w.heap.size/\D.S<w.heap.size/\D.C D.m<w.heap.size
 r:D.M≠D.I/\D.S≠D.I/\D.C D.m≠D.I
 Ru:∃ts,SE D.S D.I (D.C D.m) ts/\g=Ds ts D.f
 C:w.cell? ⟨D.M,D.N,Á⟩=Á/\kJ w D.M=Â (0,0)
 io:w.os=l.w.os/\w.output=l.w.output
section
variable{M:wV}{f:Nat->Int}{u:Nat->Nat}{cs:List é}{l:fe}{I:Nat->Nat}{y:Nat->fe}{o:Array Ý}
theorem ajw(c:rj Ä zX j (KI f u J n v l cs) .fB I y o w qJ)(S:Option (Nat×Nat))(s:gw l)(KH:∀b,¬l.I b)(hq:¬l.q)(hd:l.d=0)(hH:j<=l.w.heap.size)(hV:∀b,M.r b->l.O b)(qo:∀s S V w G,M.RD s S V w->(∀b,V b->G.heap[b]?=w.heap[b]?)->M.RD s S V G)(Bq:M.RD M.C v M.r l.w)(wT:w.os=l.w.os/\w.output=l.w.output)(hn:1<=n)(hs:n+J<1000) (hA:∀g r t B D e m p h,l.w.heap.size<=m->Dt (ky M o.size n J f u g r t B D e m p h cs l)/\Du (ky M o.size n J f u g r t B D e m p h cs l)): ∃g r t B D e m p h,(l.w.heap.size<=e/\l.w.heap.size<=m/\l.w.heap.size<=h/\∀k,k<=fP f J->l.w.heap.size<=g k)/\ ∃N Y a H C i G K E z,Ŷ Ä N (Ĭ o w S) qJ=(.next<|Ĭ i G K,E)/\i.size=o.size+(n+1)/\i[0]?=Â z/\a<=G.heap.size/\h<a/\j<=a/\(C 0).d=0/\z.status=ċ/\ kx Ä Y (λF=>zX F\/∃x:â,F=û x/\x.block=h) a (YH<|ky M o.size n J f u g r t B D e m p h cs l) .fB H C i G E/\ajv (ky M o.size n J f u g r t B D e m p h cs l) l G z:=by
 have h0:=c.C;obtain⟨g0,wv⟩:∃g,o[0]?=Â g:=⟨_,ì h0⟩;let⟨g1,q1,q2,q3,_⟩:=c.r.C 0 g0 wv;obtain rfl:g0=g1:=by cases q2;rfl
 have hz:=q1 w<|c.r.r.r 0 h0;let⟨g,lp,tt,iv,qv,e,m,p,h,bw,bf,T,F,hT,hg⟩:=hz;obtain⟨r,B,rfl⟩:=YZ F.r.jH;obtain⟨t,D,rfl⟩:=YZ F.r.my;let⟨a1,a2,a3⟩:=F.M;let⟨a4,a5,a6⟩:=F.S;have Rv:∀k,k<=fP f J->lp.w.heap.size<=g k/\g k<p:=λk W=>⟨(F.r.M k W).1,F.N k W⟩;have asW:=Rv 0 Z;have ajx:=qo _ _ _ _ _ Bq λb q=>F.C.r b (Ã<|hV b q) id;obtain⟨st,hgo⟩:=ajs F s KH hq hd hH hV ajx wT hn hs hT λ_=>0;have ok:=ajr (L:=o.size) (cs:=cs) (RB:=λb=>l.O b\/b=m) (RC:=λw=>∀b,l.O b->w.heap[b]?=l.w.heap[b]?) F (λw G P X b a=>(X b<|Ã a).trans<|P b a) (eY:=λw=>w.os=l.w.os/\w.output=l.w.output) (λw G P X=>⟨X.1.trans P.1,X.2.trans P.2⟩) qo hn Z hs;let⟨hAdd,ajy⟩:=hA g r t B D e m p h Z;have Hy:=ajg ok hAdd ajy;have Bc:=F.C.d.trans hd;have st':Rr ((ky M o.size n J f u g r t B D e m p h cs l).r Ä) j (y 0) (KF (ky M o.size n J f u g r t B D e m p h cs l) {y 0 with w:=w}) w:=⟨st.fq,st.r,st.C,st.I,st.k,st.M,st.N,st.g,st.d,st.q,st.S,st.Y,st.c,st.e,st.f⟩;rw[<-hg]at hgo;have p0:=c.ajm Hy U U wv st' Bc (λ_=>0) hgo;let⟨N1,E,S1,tr1,kp1,asX,gs1,w1,Y0,t1,r1,x,hf,he⟩:=ag3 Hy _ _ _ _ _ _ _ o w S qJ U U p0 (by intro q;cases q);let⟨om,_⟩:=x.jl hf;let⟨yJ,c1⟩:=x.ajl hf he U h0;let⟨N2,KJ,Rw,gs2,w2,KL,t2,r2,z2,N,c2⟩:=c1.G (λa i z=>Ã<|Hy.M E.I a i z) (tr1 0) _ yJ _ gs1 w1 Y0 t1 U;have Dv:gs1.size=o.size+(n+1):=by rw[x.b,om];rfl
 have KM:=c2.C;obtain⟨g2,KN⟩:∃g,gs2[0]?=Â g:=⟨_,ì KM⟩;let⟨g3,u1,u2,u3,_⟩:=c2.r.C 0 g2 KN;obtain rfl:g2=g3:=by cases u2;rfl
 have hE:=u1 w2<|c2.r.r.r 0 KM;let⟨e1,e2,dat,ts,qt,hge⟩:=hE;have Q:0<gs1.size:=Z
 have C:=x.I.r;have hY:=λb q z=>C.I 0 Q b (Ã z) q;have H:E.Y e:=Ç<|Ã U;have yG:∀k,k<=fP f J->E.Y (g k):=λk W=>Ã<|Ç ⟨k,W,U⟩;have Y1:E.Y h:=Ã<|Ã U;let⟨hip,ajz⟩:=x.aju hf hn;have hmd:E.S.md=fP f J:=by rw[hip];rfl
 let⟨FV,⟨Y2,Rx,KO⟩,_⟩:=x.M.M (fP f J) Z;have K:=C.N;refine⟨g,r,t,B,D,e,m,p,h,⟨a1,Z,Z,λk W=>by have:=Rv k W;omega⟩,N1+N2,E.Y,w1.heap.size,KJ,Rw,gs2,w2,KL,t2,g2,?_,Z,KN,N.r,K h Y1,?_,e1,Hy.M E.I _ _<|u1 w2<|c2.r.r.r 0 KM,c2,⟨dat.e,dat.d,λk P X=> ?_,λi hi=> ?_,?_,?_,(⟨show e≠h by omega,show m≠h by omega,show g (fP f J)≠h by have:=Rv (fP f J)<|Ú _;omega⟩),⟨ts,qt,hge⟩,?_,?_⟩⟩
 .rwa[runNT_add,show Ŷ Ä N1 (Ĭ o w S) qJ=_ from r1]
 .grind
 .have a:k<=fP f J:=X;refine Ŀ (N.M ⟨e,_,Á⟩ (K e H) (hY e H)<|x.a.g k P Z 0 Q)<|x.M.S k P Z
 .let⟨T,v2⟩:=ajz i hi;exact Ŀ (N.M ⟨e,_,Á⟩ (K e H) (hY e H)<|v2 0 Q) T
 .refine⟨E.c<|fP f J,Y2,E.V<|fP f J,FV,(Ŀ (N.M ⟨g<|fP f J,2,Á⟩ (K _<|yG _<|Ú _) (hY _<|yG _<|Ú _)<|x.a.N (fP f J) Z 0 Q) Rx),qo _ _ _ _ _ KO λb q=> ?_,λb q=> ?_⟩
  .let⟨T,v2,v3⟩:=x.a.I (fP f J) Z b q;exact N.jL b T (v3 0 Q) λa ha z=>v2<|ha▸C.e 0 Q a (Ã z)
  .let⟨T,v2,v3⟩:=x.a.I (fP f J) Z b q;exact⟨È T N.r,λz=>v2<|z▸Y1⟩
 .refine⟨È (K e H) N.r,c2.r.r.fv 0 KM m<|Ç dat.c,È (K _<|yG _<|Ú _) N.r⟩
 .let⟨a,y2,_⟩:=(x.M.M 0<|ă _).2.2 U;exact⟨Ŀ (N.M ⟨e,J,Á⟩ (K e H) (hY e H)<|x.a.NW Hy.C 0 Q) a,(N.Y e (K e H)<|hY e H).trans y2⟩
 .let⟨_,_,a⟩:=(x.M.M 0<|ă _).2.2 U;exact⟨N.C.trans a.1,N.I.trans a.2⟩
end
def Ry(a:Ν->Prop)(w:ß):fe where
 O:=λb=>b<w.heap.size/\∀x:â,x.block=b->¬a (û x)
 I:=λ_=>False
 r:=λ_=>False
 N:=λ_=>False
 K:=λ_=>False
 q:=False
 d:=0
 w:=w
def Y3(a:Ν->Prop)(w:ß):gw (Ry a w):= ⟨λ_ _ h=>h,λ_ h=>h.elim,λ_ h=>h.elim (λq=>q.elim) λq=>q.elim,λ_ h=>h.elim (λq=>q.1) λq=>q.elim,λ_ h=>h.elim (λq=>q.elim) λq=>q.elim,λ_ h=>h.elim⟩
structure vl(ji:Ν->Prop)(H:Nat)(l:fe):Prop where
 r:∀x:â,ji (û x)->x.block<H
 fq:∀b,l.O b->∀x:â,x.block=b->¬ji (û x)
 C:H<=l.w.heap.size
inductive yK(M:wV):Nat->M.γ->Prop
 |uO:yK M 0 M.C
 |Cv {k:Nat} {s s':M.γ} (h:yK M k s) (hn:M.M k s s'):yK M (k+1) s'
structure Fc(M:wV)(R:Nat)(kd:Nat->Int)(l:fe)(an:Nat)(sl:Ï)(l':fe):Prop where
 uS:∀b,l.O b->l'.O b/\l'.w.heap[b]?=l.w.heap[b]?
 kt:l'.O an/\∀p,p<R->l'.w.cell? ⟨an,p,Á⟩=Â (à<|M.I p)
 G1:∃s V,yK M (fP kd R) s/\M.RD s sl V l'.w/\∀b,V b->l'.O b
 d:l'.d=0
 q:¬l'.q
 rd:∀b,¬l'.I b
 Br:(∀a,¬l'.r a)/\(∀a,¬l'.N a)/\∀a,¬l'.K a
 Cf:l'.w.cell? ⟨an,R,Á⟩=Á/\kJ l'.w an=Â (0,0)
section
variable{M:wV}{R H:Nat}{kd:Nat->Int}{e:Nat->Nat}{f:List é}{l:fe}{ji:Ν->Prop}{o:Nat->fe}
def ajA{a:Option â}{s:M.γ}(h:mX ((ky M i n R kd e D O a j b m J j9 j7 qX l).r Ä) k s):yK M k s:=by
 have c:∀(k:Nat) (s:((ky M i n R kd e D O a j b m J j9 j7 qX l).r Ä).γ),mX ((ky M i n R kd e D O a j b m J j9 j7 qX l).r Ä) k s->yK M k s:=λk s h=>by
  induction h with
  |uO=>exact .uO
  |Cv _ d f=>exact .Cv f d
 exact c k s h
def ajB{J:(Ν->Prop)->Nat->Jd}{cf:é}{a:ŏ}(FR:qX=cf.at a (Ñ Q (i::jJ)::L)::f)(c:rj Ä ji H (KI kd e R n v l qX) .fB D o E w qJ)(F:Option (Nat×Nat))(s:gw l)(KH:∀b,¬l.I b)(hq:¬l.q)(hd:l.d=0)(S:vl ji H l)(hV:∀b,M.r b->l.O b)(qo:∀s F V w u,M.RD s F V w->(∀b,V b->u.heap[b]?=w.heap[b]?)->M.RD s F V u)(ajC:∀s F V w,M.RD s F V w->(∃p m c,F=Æ p m c)/\∀b,V b->l.O b\/l.w.heap.size<=b)(Bq:M.RD M.C v M.r l.w)(wT:w.os=l.w.os/\w.output=l.w.output)(hn:1<=n)(hs:n+R<1000) (hA:∀g ib qb ci cq B ba bi I,l.w.heap.size<=ba->Dt (ky M E.size n R kd e g ib qb ci cq B ba bi I qX l)/\Du (ky M E.size n R kd e g ib qb ci cq B ba bi I qX l)) (hJ:∀Dw C W B p m c,vl Dw C W->gw W->Fc M R kd l B (Æ p m c) W->fj Ä Ò (J Dw C) W (G (cf.at (a.put ((Q[i]?).bind (·.dst))<|ñ #[Æ (Â ⟨B,0,Á⟩) R R,Æ p m c])<|Ñ Q jJ::L) f)): ∃N Dw C T jv G2 gs' u su t',Ŷ Ä N (Ĭ E w F) qJ=(.next<|Ĭ gs' u su,t')/\(u.os=l.w.os/\u.output=l.w.output)/\rj Ä Dw C (J Dw C) T jv G2 gs' u t':=by
 let⟨g,ib,qb,ci,cq,B,ba,bi,I,⟨b1,b2,b3,b4⟩,N,Y,C,jv,G2,gs',u,su,t',g',r,z1,z2,z3,z4,z5,z6,z7,cY,t⟩:=ajw c F s KH hq hd S.C hV qo Bq wT hn hs hA;let⟨st,Y2,V,FV,Rx,KO,KP⟩:=t.G1;obtain⟨⟨sp,sm,sc,rfl⟩,Y4⟩:=ajC _ _ _ _ KO;obtain⟨ts,qt,rfl⟩:=t.Ru;have hH:=S.C;have Y5:=λb q=>s.fv b<|Ã q;have X:∀b,(l.O b\/l.w.heap.size<=b)->b<u.heap.size->b≠I->(Ry (λj=>ji j\/∃x:â,j=û x/\x.block=I) u).O b:=λb hb gN lb=>by
  refine⟨gN,λx hx=> ?_⟩;rintro(q|⟨y,P,q2⟩)
  .rcases hb with hb|hb
   .exact S.fq b hb x hx q
   .have:=S.r x q;omega
  .injection P with P;subst P;omega
 have ajD:=λb q=>by have h:=t.I b q;rw[ì<|Y5 b q]at h;exact(æ.1 h).1
 have keep:=λb q=>X b (Ã q) (ajD b q) (by have:=Y5 b q;omega);have KQ:=X B (Ç b1) t.fv.1 t.r.1;have ajE:fj Ä Ò (J (λj=>ji j\/∃x:â,j=û x/\x.block=I) C) (Ry (λj=>ji j\/∃x:â,j=û x/\x.block=I) u) (Ds ts qX):=by
  rw[FR];refine aiW (Y3 _ _) (λq=>q) qt (Ã<|X ba (Ç b2) t.fv.2.1 t.r.2.1) (Ã<|Ã<|X _ (Ç<|b4 _<|Ú _) t.fv.2.2 t.r.2.2) t.cba Rx λW h=> ?_;refine hJ (λj=>ji j\/∃x:â,j=û x/\x.block=I) C W B sp sm sc ⟨λx q=> ?_,λb q x hx=> ?_,Õ z3 h.I⟩ (h.N<|Y3 _ _) ⟨λb q=>⟨h.O b<|keep b q,(h.r b (Ã<|keep b q) id).trans<|t.I b q⟩,⟨h.O B KQ,λp hp=> ?_⟩,⟨st,V,ajA FV,qo _ _ _ _ _ KO λb q=>h.r b (Ã<|X b (Y4 b q) (KP b q).1 (KP b q).2) id,λb q=>h.O b<|X b (Y4 b q) (KP b q).1 (KP b q).2⟩,h.d,?_,λb q=> ?_,⟨λa q=> ?_,λa q=> ?_,λa q=> ?_⟩,⟨(gL<|h.r B (Ã KQ) id).trans t.C.1,(vU<|h.r B (Ã KQ) id).trans t.C.2⟩⟩
  .rcases q with q|⟨y,P,q2⟩
   .exact È (S.r x q) z5
   .injection P with P;subst P;omega
  .rcases h.c b q with q|q
   .exact q.2 x hx
   .have j:u.heap.size<=b:=q;rintro(z|⟨y,z1,z2⟩)
    .have:=S.r x z;omega
    .injection z1 with z1;subst z1;omega
  .refine(gL<|h.r B (Ã KQ) id).trans ?_;by_cases hk:kd p=1
   .have hm:p∈il kd R:=Ā.2 ⟨Ē.2 hp,by simpa using hk⟩;let⟨j,y⟩:=Ĩ hm;have P:=(Ĕ.1 y).1;have:=t.kF (j+1) Z (show j+1<=fP kd R from P);have e2:(il kd R).getD (j+1-1) 0=p:=Ó<|(Bp P).symm.trans y;simp only[ky,KE,e2]at this;exact this
   .have hm:p∈ju kd R:=Ā.2 ⟨Ē.2 hp,by simpa using hk⟩;let⟨j,y⟩:=Ĩ hm;have P:=(Ĕ.1 y).1;have:=t.Rt j P;simp only[ky,KE,Ó<|(Bp P).symm.trans y]at this;exact this
  .rw[h.q];exact id
  .rw[h.S]at q;exact q
  .rw[h.Y]at q;exact q
  .rw[h.b]at q;exact q
  .rw[h.K]at q;exact q
 let⟨T,h⟩:=jh ajE;exact⟨N,_,C,T,jv,_,gs',u,su,t',r,t.io,cY.Y z6 z2 z7 U U id (λ_=>id) (λ_=>id) (λ_=>id) (λ_=>id) (λb q=>q) h⟩
end
end Go.Proofs.Y.fA
namespace Go.Proofs.Y.fA
open Go Go.Conc Go.Proofs.Y.Lift Go.RowKit Go.Conc.Lib Go.ConcR.Gen
open Go.Proofs Go.Proofs.YtgpphkdoanciiaaGreatDoor
def pK(V:Nat->Prop)(base:Nat):ft:=⟨λi j=>i=j/\V i,base⟩
def ajF(V:Nat->Prop)(base:Nat):Bi (pK V base):= ⟨λ_ _ _ h k=>h.1.symm.trans k.1,λ_ _ _ h k=>h.1.trans k.1.symm,λi j h=>by rw[h.1]⟩
def k9(j:Nat):Bool:=j==3||j==4
def tV(c:Array Ï):Array Ï:=c.extract 0 16
def ajG(c:Array Ï):(tV c).size=min 16 c.size:=by simp[tV]
open Classical in
noncomputable def oU (a:Nat->Prop) (j:Nat):Ÿ->Ÿ
 |É c e b=>if a j then(if k9 j=Ò then É (tV c) e (0,(tV c).size)else É c e (0,c.size))else É c e b
 |_=>É #[] 0
noncomputable def kT (Sh:Nat->Prop) (w:ß):ß:={w with heap:=w.heap.mapIdx (oU Sh)}
section
variable{V Sh:Nat->Prop}{base:Nat}
def Dx(j:Nat):(kT Sh w).heap[j]?=(w.heap[j]?).map (oU Sh j):=by simp[kT,Array.getElem?_mapIdx]
def Y6:j0 (kT Sh w):=λi o h=>by
 rw[Dx]at h;obtain⟨x,_,rfl⟩:=ġ.1 h;cases x<;>simp only[oU]<;>try exact id
 split
 .split<;>exact id
 .exact id
structure KR(V Sh:Nat->Prop)(base:Nat)(w:ß):Prop where
 Ru:∀b,V b->∃c e fr,w.heap[b]?=Â (É c e fr)/\fr.2<=c.size/\fQ (pK V base) c c/\(Sh b->0<c.size/\(k9 b=Ò->(e=304\/e=305)/\fr.2<=16)/\(k9 b=Ì->Cb c))
 fv:base<=w.heap.size
def ajH(h:KR V Sh base w):qM (pK V base) Sh (kT Sh w) w:=by
 refine⟨U,U,ajF V base,by show base<=(w.heap.mapIdx<|oU Sh).size;rw[Array.size_mapIdx];exact h.fv,h.fv,λi j o=> ?_⟩;obtain⟨rfl,p⟩:=o;let⟨c,e,a,b,l,f,r⟩:=h.Ru i p;have g:(kT Sh w).heap[i]?=Â (oU Sh i<|É c e a):=by rw[Dx,b];rfl
 by_cases s:Sh i
 .let⟨t,u,v⟩:=r s;cases d:k9 i with
  |true=>
   let⟨x,y⟩:=u d;have z:=ajG c;have m:EN e (tV c).size:=⟨x,Z⟩;refine⟨tV c,c,e,(0,(tV c).size),a,?_,b,⟨λk B n=> ?_,Z,Ç ⟨s,m⟩⟩,λ_=>⟨U,Ú _,by show a.2<=(tV c).size;omega,Z,Ç m⟩,λq=>absurd s q,Ú _⟩
   .show(kT Sh w).heap[i]?=_;rw[g];simp[oU,s,d]
   .have:(tV c)[k]=c[k]:=by simp[tV]
    rw[this];exact f.C k n n
  |false=>
   refine⟨c,c,e,(0,c.size),a,?_,b,oF.M f,λ_=>⟨U,Ú _,l,t,Ã<|v d⟩,λq=>absurd s q,Ú _⟩;rw[g];simp[oU,s,d]
 .refine⟨c,c,e,a,a,?_,b,oF.M f,λq=>absurd q s,λ_=>rfl,l⟩;rw[g];simp[oU,s]
end
section
variable{a:Nat->Prop}{l:fe}{V:Nat->Prop}
theorem Dy(y:nz P)(B:oL P a X)(hF:sT P X)(C:vS vQ){k:Array Ï}(D:X F)(E:P.funcs[F]?=Â s)(H:s.body=Â wX)(r:gw l)(I:¬l.q) (n:∀b,V b->l.M b) (J:KR V (λj=>V j/\¬l.O j) P.globals.size l.w) (K:∀g,a g->V g) (L:fQ (pK V P.globals.size) k k) (N:∀T,Calls P F k (World.tp (kT (λj=>V j/\¬l.O j) l.w) T 0) fun|.returned v,e=>vQ v e/\j0 e|_,_=>False) (t:Bool) (o:é) (p:List é): fj P t (λh u=>∃(Y:ft) (e:ß) (v m:Ï),(pK V P.globals.size).r Y/\qM Y (λj=>V j/\¬l.O j) e h.w/\fl Y v m/\vQ v e/\u=G (o.finish m) p/\(∀i j,Y i j->h.M j/\(V j\/l.O j\/l.w.heap.size<=j))/\(∀j,l.O j->h.O j)/\h.d=l.d) l (G (Ă P F k Ğ)<|o::p):=by
 refine(ae3 (ad3 y B hF C D E H Y6 N (Y:=pK V P.globals.size) U (λg q=>⟨U,K g q⟩) L (ajH J) (λj q=>r.fv j<|n j q.1) (λi j _ q=>(n j q.1).resolve_left q.2) t o p) l U (λj q=> ?_) (λ_ q=>q) (λj q=>r.fv j<|Ã q) I).fN ?_
 .obtain⟨⟨i,rfl,x⟩,Q⟩:=q;grind
 .rintro h u ⟨O',⟨Y,e,v,m,S,rfl,W,q3,q4,q5⟩,Q,h3,h4,h5,h6,h7,h8,h9,h10,h11,h12⟩;refine⟨Y,e,v,m,S,W,q3,q4,q5,λi j Rz=> ?_,h4,h10⟩;by_cases z:V j/\¬l.O j
  .exact⟨Ç (by rw[h7];exact(n j z.1).resolve_left z.2),Ã z.1⟩
  .have x:=h3 j ⟨⟨i,Rz⟩,z⟩;exact⟨Ã x,Ç<|h6 j x⟩
end
section
variable{l:fe}{V GL:Nat->Prop}
def Dz(s:gw l):gw (lU l):=by refine⟨λ_ h=>h.elim,λ_ h=>h.elim,λa c d=>s.N a (c.resolve_left id)<|d.resolve_left id,λb d=>s.fv b<|d.resolve_left id,λa c=>s.I a<|c.resolve_left id,λa c=>⟨λq=>(s.S a c).1<|q.resolve_left id,(s.S a c).2.1,id⟩⟩
structure DC(GL:Nat->Prop)(f:ķ)(args:Array Ï)(l:fe)(V:Nat->Prop)(kP:Ï->ß->Prop):Prop where
 N:∀b,V b->l.M b
 S:KR V V Ä.globals.size l.w
 I:∀g,GL g->V g
 r:fQ (pK V Ä.globals.size) args args
 C:∀T,Calls Ä f args (World.tp (kT V l.w) T 0) fun|.returned v,u'=>kP v u'/\j0 u'|_,_=>False
def ajI(m:nz Ä)(n:oL Ä GL X)(hF:sT Ä X)(e:X 67){D:SD}(h:∀i s d W l,i<D.q->mX (D.r Ä) (D.b i) s->D.RD s d W l.w->(∀b,W b->l.M b)->gw l->¬l.q->(∀b,D.d b->l.M b)->D.RC l.w->∃V,DC GL 67 #[d,À<|D.i i] l V λv _=>v=à (D.j i)):Du D:=by
 intro i s d W l o p r t f g x y z B;let⟨V,a⟩:=h i s d W l o p r t f g x y;let⟨G,c,C,E⟩:=hF 67 e;have k:(λj=>V j/\¬(lU l).O j)=V:=by funext j;exact propext ⟨λq=>q.1,λq=>⟨q,id⟩⟩
 refine(Dy m n hF (λv u T D h=>h) e C E (Dz f) g (λb q=>Ç<|a.N b q) (by rw[k];exact a.S) a.I a.r (by rw[k];exact a.C) Ì z B).fN ?_;rintro H I ⟨Y,J,v,K,_,_,j,u,T,_,_,F⟩;subst u;cases j;exact⟨F,T⟩
theorem ajJ(P:nz Ä)(Q:oL Ä GL X)(hF:sT Ä X)(B:X 66){D:SD}(Rg:D.γ->Ï->ß->Prop)(hRg:∀s a u T n,Rg s a u->Rg s a (World.tp u T n)) (h:∀k s a W l,k<D.m->mX (D.r Ä) k s->D.RD s a W l.w->(∀b,W b->l.M b)->gw l->¬l.q->(∀b,D.d b->l.M b)->D.RC l.w->∃V,DC GL 66 #[a,À<|D.o<|k+1] l V (λv u=>∃p n c d,v=ñ #[Æ p n c,à<|D.e<|k+1]/\D.h k s d/\Rg d (Æ p n c) u)/\ ∀Y S u w d a C,qM Y S u w->fl Y a C->Rg d a u->(∀i j,Y i j->V j\/l.w.heap.size<=j)->∃e,D.RD d C e w/\∀b,e b->∃i,Y i b):Dt D:=by
 intro k s a W l hk hr qo hW E F hRB hRC cl lB;let⟨V,f,tr⟩:=h k s a W l hk hr qo hW E F hRB hRC;let⟨fn,c,hf,g⟩:=hF 66 B;have G:(λj=>V j/\¬(lU l).O j)=V:=by funext j;exact propext ⟨λq=>q.1,λq=>⟨q,id⟩⟩
 refine(Dy P Q hF (λv u T D h=> ?_) B hf g (Dz E) F (λb q=>Ç<|f.N b q) (by rw[G];exact f.S) f.I f.r (by rw[G];exact f.C) Ì cl lB).fN ?_
 .grind
 .rintro l' g' ⟨Y,u',v,v',_,q2,q3,⟨p,n,c,d,rfl,H,h3⟩,I,o,_,J⟩;cases q3 with
  |@nu _ cs'' hs ml=>
   let⟨ls⟩:=cs'';match ls,hs with
   |[x,y],_=>
    have r:=ml 0 fp fp;have K:=ml 1 fp fp;simp at r K;cases K;let⟨e,L,N⟩:=tr Y _ u' l'.w d _ x q2 r h3 λi j Rz=>(o i j Rz).2.imp id λz=>z.resolve_left id;cases r with
    |nS=>exact⟨J,Á,n,c,I,d,e,H,L,λb g=>by let⟨i,t⟩:=N b g;exact(o i b t).1⟩
    |kC=>exact⟨J,_,n,c,I,d,e,H,L,λb g=>by let⟨i,t⟩:=N b g;exact(o i b t).1⟩
end
end Go.Proofs.Y.fA
namespace Go.Proofs.Y.Lift
open Go
def DF(a:Nat->Bool):Ĥ->Bool
 |Ũ (Đ cs)=>cs.toList.all xN
 |Ũ (ñ cs)=>cs.toList.all xN
 |x=>vT a x
def Y7(a:Nat->Bool)(x:Ĥ):DF a x=vT a x:=by
 cases x with
 |const v=>cases v<;>simp[DF,vT,Nf,ĝ]
 |_=>rfl
def KS(P:ė)(a:Nat->Bool)(b c:ķ->Bool)(o:å):Bool:=(Co P b o.op&&o.op.operands.toList.all (DF a))||(Nv P c o.op&&o.op.operands.toList.all (DF a))
def KT(a:Nat->Bool)(b c:ķ->Bool)(o:å):KS P a b c o=Cq P a b c o:=by have:(DF a)=vT a:=funext<|Y7 a;simp[KS,Cq,Nn,this,ĝ]
def qu(P:ė)(a:Nat->Bool)(b d:ķ->Bool):Ę->Bool
 |Ρ|ť|.label _|Ŧ _|.goto _=>Ò
 |.seq x y=>qu P a b d x&&qu P a b d y
 |Ť c x y=>DF a c&&qu P a b d x&&qu P a b d y
 |İ _ c|.loop c|.scope c=>qu P a b d c
 |ä _ c _=>c.toList.all<|KS P a b d
 |.refuse _=>Ò
 |_=>Ì
def yL(a:Nat->Bool)(b d:ķ->Bool):∀c:Ę,qu P a b d c=nF P a b d c
 |Ρ|ť|.label _|Ŧ _|.goto _|.refuse _|.rangeFunc _ _ _ _=>rfl
 |.seq x y=>by simp only[qu,nF,yL a b d x,yL a b d y]
 |Ť c x y=>by simp only[qu,nF,Y7,yL a b d x,yL a b d y]
 |İ _ c|.loop c|.scope c=>by simp only[qu,nF,yL a b d c]
 |ä _ x _=>by have:KS P a b d=Cq P a b d:=funext<|KT a b d;simp only[qu,nF,this,ĝ]
end Go.Proofs.Y.Lift
namespace Go.Proofs.Y.fA
open Go Go.Conc Go.Proofs.Y.Lift Go.RowKit Go.Conc.Lib Go.ConcR.Gen
open Go.Proofs Go.Proofs.YtgpphkdoanciiaaGreatDoor
def Y8:List Nat:=[35,38,44,54,55,56,60,66,67,78,79,103,113,114,115,116,117,118,119,120,121,122,123,124,125,126,153,154,155,156,157,158,159,160,161,162,168,169,170,171,172,173,174,175,176,177,178,186,187,188,189,190,191,192,193,194,196,197,198,199,200,201,202,203,204,205,206,207,208,209,210,211]
def wW(g:Nat):Bool:=[1,2,3,4].contains g
def wY(f:Nat):Bool:=Y8.contains f
def yM(f:Nat):Bool:=[129,130].contains f
def Bs(P:ė)(f:Nat):Bool:=match P.funcs[f]? with
 |some a=>match a.body with
  |some c=>qu P wW wY yM c
  |none=>Ì
 |none=>Ì
def ajK:Y8.all (Bs Ä)=Ò:=by rfl
def Y9(h:wY i=Ò):Bs Ä i=Ò:=(Ň.1 ajK) i<|by simpa[wY]using h
def ajL(h:Bs P i=Ò):∃a c,P.funcs[i]?=Â a/\a.body=Â c:=by
 unfold Bs at h;split at h
 .rename_i a b;split at h
  .rename_i c d;exact⟨a,c,b,d⟩
  .cases h
 .cases h
def ajM(h:Bs P i=Ò)(a:P.funcs[i]?=Â s)(b:s.body=Â wX):qu P wW wY yM wX=Ò:=by unfold Bs at h;rw[a]at h;simp only[b]at h;exact h
def Za:sT Ä (λf=>wY f=Ò):=λ_ h=>ajL<|Y9 h
def ajN[zF P](h:∀f,wY f=Ò->Bs P f=Ò)(a:Fh P yM):oL P (λg=>wW g=Ò) (λf=>wY f=Ò):=λf g e c b d=>by have:=ajM (h f g) b d;rw[yL]at this;exact uQ a this
instance asY:zF Ä:=⟨λe n h=>by
 have h1:Ä.cellsOf 304=32:=fu
 have h2:Ä.cellsOf 305=64:=fu
 obtain⟨rfl|rfl,h3⟩:=h
 .rw[h1];omega
 .rw[h2];omega⟩
def ajO(a:Fh Ä yM):oL Ä (λg=>wW g=Ò) (λf=>wY f=Ò):=ajN (λ_ h=>Y9 h) a
def DG:Fh Ä yM:=λf h=>by
 have:f=129\/f=130:=by simpa[yM]using h
 rcases this with rfl|rfl
 .exact⟨_,Extern.AbiNoEscape.same,Tryz.func129,fW,fW,fW,fW,λ_ v a h=>aes v a h,aeu⟩
 .exact⟨_,Extern.BytealgMakeNoZero.makeNoZero #[3] #[107],Tryz.func130,fW,fW,fW,fW,λ_ v a h=>aev #[3] 107 v a h,aew #[3] 107⟩
def Zb:oL Ä (λg=>wW g=Ò) (λf=>wY f=Ò):=ajO DG
end Go.Proofs.Y.fA
namespace Go.Proofs.Y.Lift
open Go Go.Conc
section
variable{Y:ft}{b:ķ->Prop}
def ajP{e:Array Ï->Sem Ï}{y:Ĥ}{m:Array ŭ}(d:o.op=Ě {callee:=ĕ<|ĸ F,args:=#[qQ,y],argTypes:=m})(q:P.funcs[F]?=Â s)(r:(s.name== "runtime.NumGoroutine")=Ì)(t:s.body.isNone=Ò)(B:Extern.findNext s=Á)(C:Extern.find s=Â e) (D:∀(Y:ft) (v i z j:Ï),fl Y v i->fl Y z j->fG P fl Y (e #[v,z]) (e #[i,j])) (E:∀v z,fE P<|e #[v,z]) (G:∀y∈o.op.operands,mg X y):mF P X b o:=by
 have c:∀a:ŏ,ĉ a.eval o=Ś F #[a.eval qQ,a.eval y]:=by intro a;unfold ĉ;rw[d];simp only[ſ,ĥ,ě,invoke,pure_bind,Array.empty_append,Array.append_empty,List.map_toArray,List.map_cons,List.map_nil]
 have k:∀(v z:Ï) (u:ß),(Ś F #[v,z]).run P u=(mark (.extern F)>>=λ_=>e #[v,z]>>=λy=>pure (Next.value y):Sem Next).run P u:=by intro v z u;unfold Ś;simp_all
 refine VK (λY a w _ _ _ h=> ?_) (λa=> ?_) (λa u n H g=> ?_) G
 .rw[c,c];have I:=h qQ (by rw[d];simp[ŉ,Call.operands]);have J:=h y (by rw[d];simp[ŉ,Call.operands]);unfold Ś;refine .gq (fF qC ?_);rintro M p N w ⟨K,L⟩;rw[K,L];simp only[q,r,t,B,C,Ķ,if_false,if_true];apply fF (V:=jk) (.Ca (Ç ⟨F,U⟩) (.fD U));intro O _ _ l _;exact mE<|D _ _ _ _ _ ((I.fN w).fN l)<|(J.fN w).fN l
 .rw[c];exact Iy (k _ _)<|gp (E6 _) λ_=>lD<|E _ _
 .rw[c,k,Sem.run_bind]at g;simp only[mark,Sem.run,Result.andThen_ok]at g;have:Sem.run P (e #[a.eval qQ,a.eval y]>>=λy=>pure (Next.value y):Sem Next) u=.ok n H:=g;rw[Sem.run_bind]at this;cases h:(e #[a.eval qQ,a.eval y]).run P u with
  |ok v w=>rw[h]at this;cases this;exact⟨v,U⟩
  |halt z w=>rw[h]at this;cases this
def Zc:∀(n:Nat) {Y:ft} {a b:â} (c:ByteArray),gX Y a b->fG P jk Y (ò a n c) (ò b n c)
 |0,_,_,_,_,_=> .fD U
 |n+1,Y,a,b,c,h=>by
  unfold ò;refine fF (Io h) ?_;intro f v g d e;cases e<;>first|exact .fO|skip
  rename_i k z;cases k<;>first|exact .fO|skip
  exact Zc n _<|(h.r d).C 1
theorem Zd:∀(n:Nat) (a:â) (b:ByteArray),fE P<|ò a n b
 |0,_,_=>gF _
 |n+1,a,b=>by
  unfold ò;refine gp (E7 _ _) λv=> ?_;split
  .exact Zd n _ _
  .exact jc _
def ajQ(h:fl Y v x):fG P jk Y (ú v) (ú x):=by
 cases h<;>first|exact .fO|exact .fD U|skip
 exact Zc _ _<|by assumption
theorem ajR(v:Ï):fE P (ú v):=by unfold ú;grind [gF,Zd,jc]
def ajS(h:fl Y v x):fG P jk Y (ü v) (ü x):=by
 cases h<;>first|exact .fO|skip
 rename_i k z;cases k<;>first|exact .fO|exact .fD U
theorem ajT(v:Ï):fE P (ü v):=by unfold ü;grind [gF,jc]
def ajU(v a z b:Ï)(h:fl Y v a)(k:fl Y z b):fG P fl Y (ó #[v,z]) (ó #[a,b]):=by
 apply fF (ajQ h);rintro j s d e f;obtain rfl:s=d:=f;apply fF (ajS<|k.fN e);rintro l c g m i;obtain rfl:c=g:=i;split
 .exact .fD (.iF _ _)
 .exact .fD (.iF _ _)
theorem ajV(v z:Ï):fE P (ó #[v,z]):=by refine gp (ajR v) λs=>gp (ajT z) λc=> ?_;grind [gF]
end
end Go.Proofs.Y.Lift
namespace Go.Proofs.Y.fA
open Go Go.Conc Go.Proofs.Y.Lift
open Go.Proofs Go.Proofs.YtgpphkdoanciiaaGreatDoor
def RE:List Nat:=[16,18,21,23,24,25,28,29,30,31,35,44,60,38,54,55,56,78,79,36,45,61,94,95,96,97,98,99,100,101,102,103,104,145,146,147,148,149]
def DK(f:Nat):Bool:=RE.contains f||f==167
def KU(_:Nat):Bool:=Ì
def KV(P:ė)(f:Nat):Bool:=match P.funcs[f]? with
 |some a=>match a.body with
  |some c=>qu P KU DK yM c
  |none=>Ì
 |none=>Ì
def ajW:RE.all (KV Ä)=Ò:=by rfl
def Ze(h:RE.contains i=Ò):KV Ä i=Ò:=(Ň.1 ajW) i<|by simpa using h
theorem Zf(h:KV P i=Ò):∃a c,P.funcs[i]?=Â a/\a.body=Â c/\qu P KU DK yM c=Ò:=by unfold KV at h;grind
def yN:sT Ä (λf=>DK f=Ò):=λf h=>by
 rcases ī.1 h with q|q
 .let⟨a,c,b,d,_⟩:=Zf<|Ze q;exact⟨a,c,b,d⟩
 .rw[beq_iff_eq]at q;subst q;exact⟨_,_,Ŭ,U⟩
def ajX(h:Ζ.body=Â wX):kE Ä (λg=>KU g=Ò) (λf=>DK f=Ò) wX:=by
 unfold Ζ at h;cases h;refine .qI (uQ DG<|by rw[<-yL];rfl) (.qI (.sS _ _ λo f=> ?_) .uL);simp only[List.mem_toArray,List.mem_cons,List.not_mem_nil,or_false]at f;rcases f with rfl|rfl|rfl|rfl
 .exact I2 DG<|by rw[<-KT];rfl
 .exact I2 DG<|by rw[<-KT];rfl
 .exact ajP U Tryz.func185 fW fW fW fW (λ_ v g z o=>ajU v g z o) ajV λy g=>IW (by simp[ŉ,Call.operands]at g;rcases g with rfl|rfl|rfl<;>rfl)
 .exact I2 DG<|by rw[<-KT];rfl
def KW:oL Ä (λg=>KU g=Ò) (λf=>DK f=Ò):=λf h i c g a=>by
 rcases ī.1 h with q|q
 .let⟨j,k,b,d,e⟩:=Zf<|Ze q;rw[g]at b;cases b;rw[a]at d;cases d;rw[yL]at e;exact uQ DG e
 .rw[beq_iff_eq]at q;subst q;rw[Ŭ]at g;cases g;exact ajX a
end Go.Proofs.Y.fA
