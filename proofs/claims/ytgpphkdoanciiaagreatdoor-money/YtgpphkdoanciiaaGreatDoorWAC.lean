import Derived.Test.YtgpphkdoanciiaaGreatDoorWAB
import Derived.Conc.AppendWalk
import Derived.Conc.TokenWalk
set_option linter.all false
set_option maxRecDepth 1000000
set_option maxHeartbeats 8000000
open Go.Value renaming pointer->À,slice->Æ,int->Ê,oneCell'->Ø,string->à,chan->è,tuple->ñ,func->Ĉ,agg->Đ,bool->ŝ,cells->Ŵ
open Option renaming none->Á,some->Â,isSome_iff_exists->Ô,map_eq_some_iff->ġ,isSome_none->ı,getD_some->Ń
open Or renaming inl->Ã,inr->Ç
open Go.Proofs.Tryz renaming prog->Ä,t155->Ą,f46->Ĝ,t9->Ġ,func47->Ħ,underlying101->Ĵ,type155->ļ,underlying85->Ľ,underlying25->ľ,f52->Ŗ,func167->Ŭ,func63->Ů,func48->ů,func49->Ű,func50->ű,func51->Ų,func46->ų,func52->ŵ,t101->Δ,f167->Ζ,f49->Ι,f63->Κ,f47->Μ
open Go renaming undef->Å,Value->Ï,Goroutine->Ý,World->ß,events_store->á,Addr->â,Oper->å,getD_set_ne->ç,Frame->é,execOp->ĉ,Program->ė,Code->Ę,Operand->Ĥ,deafBehind->į,FuncId->ķ,Act->ŏ,maxLen->œ,size_madeCells->ř,callFunc->Ś,yielded->ţ,TypeId->ŭ,runNT->Ŷ,Item->ŷ,Obj->Ÿ,Trace->ż,TypeInfo->Ž,Event->ž,resolve->ſ,Loc->Ν
open Nat renaming lt_of_lt_of_le->È,le_trans->Õ,le_refl->Ú,add_sub_cancel->ø,zero_le->ă,zero_add->č,mod_lt->ĵ,lt_succ_of_lt->Ĺ,le_of_lt->Ł,reduceAdd->ś,sub_zero->ũ,sub_self->Ū
open Go.Obj renaming cells->É,chan->ŕ
open Go.Conc.Goes renaming stop->Ë
open Bool renaming false->Ì,true->Ò,or_eq_true_iff->ī,false_eq_true->Ķ
open Go.Ground renaming phase->Í,data->Ü,textOnly->Þ,gcOnly->õ,chain->Ţ
open Go.IntKind renaming i64->Î,u64->ê,u32->Ď,wrap_i64->Γ
open Go.Departure renaming lateStores->Ð
open Go.Item renaming inRegion->Ñ,inBlock->ô,code->ö,inLoop->ą
open Option.some renaming inj->Ó
open Go.World renaming cell?->Ö,frozen?->î,setCell->þ,alloc->ň
open Go.Operand renaming tmp->Ù,func->ĸ,const->Ũ
open Go.Region renaming ready->Û,Mode->ý,wanted->Ė
open List renaming range->ã,range_succ->ÿ,mem_filter->Ā,filter_append->ā,flatMap_cons->Ć,mem_range->Ē,setIfInBounds_toArray->ē,getElem?_eq_some_iff->Ĕ,length_filter_le->ģ,mem_of_getElem?->ħ,getElem?_of_mem->Ĩ,set_cons_succ->Ĳ,set_cons_zero->ĳ,size_toArray->Ļ,length_cons->ń,nodup_range->ņ,all_eq_true->Ň,length_nil->ŋ
open Go.Code renaming region->ä,block->İ,cond->Ť,skip->ť,exit->Ŧ,ret->Ρ
open Array renaming getElem?_eq_some_iff->æ,getElem?_eq_getElem->ì,getElem?_modify->í,getD_eq_getD_getElem?->ď,all_toList->ĝ
open Go.Region.linearise renaming go->ë
open Go.MemAct renaming ofEvent->ï
open Go.Op renaming fieldAddr->ð,load->ć,move->ę,call->Ě,nilCheck->ĩ,operands->ŉ,extract->Ő,indexAddr->ő,makeFunc->Ş,store->š,assign->ŧ,binOp->Λ
open Go.Extern.Bytes renaming loadBytes->ò,bytesOf->ú,asByte->ü
open Go.Extern.BytealgIndexByte renaming indexByte->ó
open Go.Fn renaming func->ù
open Go.Loc renaming cell->û
open Go.Frame renaming enter->Ă,finish_at->Ģ
open Go.Instr renaming build->Ċ,makeSlice->Ŏ
open Go.GoStatus renaming running->ċ,finished->ş
open Go.Conc renaming mem_ofEvents->Č,mem_listed->đ,seen_none->Ī,crowd->Ĭ,stepG_region->ĺ,events_call_body->ł,deafBehind_still->Ņ,listed->ŗ,handedOver_app->Ř,stepG_seq->Ŝ,stepG_comm->Ż
open Go.Callee renaming value->ĕ,builtin->Ŕ
open Go.Deferred renaming ofValue->ě
open Go.CallKind renaming normal->Ğ,early->Ź
open Go.Addr renaming add_lit->ğ
open Go.Act renaming eval->ĥ,put->Ο
open Eq renaming trans->Ŀ
variable{i n j b k m J j9 j7 j6:Nat}{w u W jX:ß}{v x z jQ:Ï}{g:Ý}{a p:â}{h c:Int}{e t T:ŭ}{d q:Array Ï}{P:ė}{y:ŏ}{B:ByteArray}{X:Nat->Prop}{O:Option â}{l:List Ï}{yQ:Bool}{K H:ŏ->ß->Prop}{o:å}{D:Nat->Nat}{E:Array Ý}{L:List ŷ}{jJ:List Nat}{qX:List é}{qQ:Ĥ}{qJ:ż}{zX:Ν->Prop}{zQ:List Int}{zJ:Ž}{xX:Ĥ->Ï}{xQ:Go.Tape}{xJ:Nat×Nat}{wX:Ę}{wQ:Go.MemOp}{wJ:Array Bool}{vX:List ByteArray}{vQ:Ï->ß->Prop}{vJ:Go.Exit->ŏ->ß->Prop}{yX:ý}{Q:Array å}{f:é}{V:Array ž}{F:ķ}{s:Go.Func}
namespace Go.Proofs.Y.fv
open Go Go.Conc Go.Proofs.Y.Lift Go.RowKit Go.Conc.Lib Go.ConcR.Gen
open Go.Proofs Go.Proofs.YtgpphkdoanciiaaGreatDoor
def Gm:å:=⟨Â 13,ð 155 (Ù 5) 3,0, "work.go:57",#[],Á⟩
def Dn:å:=⟨Â 14,ć 86<|Ù 13,86, "work.go:57",#[⟨0,Ü⟩],Á⟩
def Gn:å:=⟨Â 15,ę<|Ù 1,25, "work.go:57",#[{on:=18,ground:=õ Ð}],Á⟩
def Gp:å:=⟨Â 16,ð 155 (Ù 5) 1,0, "work.go:57",#[{on:=18,ground:=õ Ð}],Á⟩
def Dp:å:=⟨Â 17,ć 3<|Ù 16,3, "work.go:57",#[⟨3,Ü⟩,{on:=18,ground:=õ Ð}],Á⟩
def Gq:å:=⟨Â 18,ð 155 (Ù 5) 2,0, "work.go:57",#[],Á⟩
def Dq:å:=⟨Â 19,ć 86<|Ù 18,86, "work.go:57",#[⟨5,Ü⟩],Á⟩
def Dr:å:=⟨Â 20,ĩ<|Ù 19,0, "work.go:57",#[⟨6,Ü⟩],Á⟩
def Ds:å:=⟨Â 21,ð 105 (Ù 20) 1,0, "work.go:57",#[⟨7,Ü⟩],Á⟩
def Dt:å:=⟨Â 22,ć 65<|Ù 21,65, "work.go:57",#[⟨8,Ü⟩],Á⟩
def Gr:å:=⟨Â 23,ð 155 (Ù 5) 0,0, "work.go:57",#[],Á⟩
def Du:å:=⟨Â 24,ć 148<|Ù 23,148, "work.go:57",#[⟨10,Ü⟩],Á⟩
def A3:å:=⟨Â 25,Ě {callee:=ĕ<|ĸ 66,args:=#[Ù 22,Ù 24],argTypes:=#[65,148]},163, "work.go:57",#[⟨9,Ü⟩,⟨11,Ü⟩],Á⟩
def vk:å:=⟨Â 12,ę<|Ù 25,163, "work.go:57",#[⟨12,Ü⟩],Á⟩
def A4:å:=⟨Â 26,Ő (Ù 12) 0,65, "work.go:57",#[⟨13,Ü⟩],Á⟩
def A5:å:=⟨Â 27,Ő (Ù 12) 1,9, "work.go:57",#[⟨13,Ü⟩,{on:=18,ground:=õ Ð}],Á⟩
def Dv:å:=⟨Â 28,ĩ<|Ù 14,0, "work.go:57",#[⟨1,Ü⟩,⟨0,Í⟩,⟨1,Í⟩,{on:=2,ground:=Þ Ð},{on:=3,ground:=Þ Ð},{on:=4,ground:=Þ Ð},⟨5,Í⟩,⟨6,Í⟩,⟨7,Í⟩,⟨8,Í⟩,⟨9,Í⟩,⟨10,Í⟩,⟨11,Í⟩,⟨12,Í⟩,⟨13,Í⟩,⟨14,Í⟩,{on:=15,ground:=Þ Ð}],Á⟩
def Dw:å:=⟨Â 29,ð 105 (Ù 28) 1,0, "work.go:57",#[⟨16,Ü⟩,⟨0,Í⟩,⟨1,Í⟩,{on:=2,ground:=Þ Ð},{on:=3,ground:=Þ Ð},{on:=4,ground:=Þ Ð},⟨5,Í⟩,⟨6,Í⟩,⟨7,Í⟩,⟨8,Í⟩,⟨9,Í⟩,⟨10,Í⟩,⟨11,Í⟩,⟨12,Í⟩,⟨13,Í⟩,⟨14,Í⟩,{on:=15,ground:=Þ Ð}],Á⟩
def A6:å:=⟨Á,š 65 (Ù 29)<|Ù 26,0, "work.go:57",#[⟨17,Ü⟩,⟨14,Ü⟩,⟨12,Ţ⟩,⟨0,Í⟩,⟨1,Í⟩,{on:=2,ground:=Þ Ð},{on:=3,ground:=Þ Ð},{on:=4,ground:=Þ Ð},⟨5,Í⟩,⟨6,Í⟩,⟨7,Í⟩,⟨8,Í⟩,⟨9,Í⟩,⟨10,Í⟩,⟨11,Í⟩,⟨12,Í⟩,⟨13,Í⟩,⟨14,Í⟩,{on:=15,ground:=Þ Ð}],Á⟩
def A7:å:=⟨Â 30,ő 25 (Ù 15)<|Ù 17,0, "work.go:57",#[⟨2,Ü⟩,⟨4,Ü⟩,⟨0,Í⟩,⟨1,Í⟩,⟨2,Í⟩,⟨3,Í⟩,⟨4,Í⟩,⟨5,Í⟩,⟨6,Í⟩,⟨7,Í⟩,⟨8,Í⟩,⟨9,Í⟩,⟨10,Í⟩,⟨11,Í⟩,⟨12,Í⟩,⟨13,Í⟩,⟨14,Í⟩,⟨15,Í⟩,⟨16,Í⟩,⟨17,Í⟩,⟨18,Í⟩],Á⟩
def A8:å:=⟨Á,š 9 (Ù 30)<|Ù 27,0, "work.go:57",#[⟨19,Ü⟩,⟨15,Ü⟩,⟨18,Ţ⟩,⟨0,Í⟩,⟨1,Í⟩,⟨2,Í⟩,⟨3,Í⟩,⟨4,Í⟩,⟨5,Í⟩,⟨6,Í⟩,⟨7,Í⟩,⟨8,Í⟩,⟨9,Í⟩,⟨10,Í⟩,⟨11,Í⟩,⟨12,Í⟩,⟨13,Í⟩,⟨14,Í⟩,⟨15,Í⟩,⟨16,Í⟩,⟨17,Í⟩,⟨18,Í⟩],Á⟩
def yN:Array å:=#[Gm,Dn,Gn,Gp,Dp,Gq,Dq,Dr,Ds,Dt,Gr,Du,A3,vk,A4,A5,Dv,Dw,A6,A7,A8]
def mN(tb a b c N d:Nat)(e f:Ï)(x:(Option Addr×Nat×Nat)×ByteArray):Nat->Ï
 |0=>À<|Â ⟨tb,3,Á⟩
 |1=>À<|Â ⟨b,0,Á⟩
 |2=>Æ (Â ⟨c,0,Á⟩) N N
 |3=>À<|Â ⟨tb,1,Á⟩
 |4=>Ê Î d
 |5=>À<|Â ⟨tb,2,Á⟩
 |6=>À<|Â ⟨a,0,Á⟩
 |7=>À<|Â ⟨a,0,Á⟩
 |8=>À<|Â ⟨a,2,Á⟩
 |9=>f
 |10=>À<|Â ⟨tb,0,Á⟩
 |11=>e
 |12=>ñ #[Æ x.1.1 x.1.2.1 x.1.2.2,à x.2]
 |13=>ñ #[Æ x.1.1 x.1.2.1 x.1.2.2,à x.2]
 |14=>Æ x.1.1 x.1.2.1 x.1.2.2
 |15=>à x.2
 |16=>À<|Â ⟨b,0,Á⟩
 |17=>À<|Â ⟨b,2,Á⟩
 |19=>À<|Â ⟨c,d,Á⟩
 |_=>Å
structure Dx(il:fc)(ga gb an pl:Nat)(sD:Ï)(Q:Ï->ByteArray->fc->Prop)(listed:Array Bool)(x:(Option Addr×Nat×Nat)×ByteArray)(l:fc):Prop where
 r:iD (λa=>a=⟨gb,2,Á⟩\/a=⟨an,pl,Á⟩) il l
 vl:listed.getD 12 Ì=Ò->∃y,Q (Æ x.1.1 x.1.2.1 x.1.2.2) x.2 y/\(∀b,y.M b->l.M b/\l.w.heap[b]?=y.w.heap[b]?)
 I:listed.getD 18 Ì=Ò->l.w.cell? ⟨gb,2,Á⟩=Â (Æ x.1.1 x.1.2.1 x.1.2.2)
 N:listed.getD 20 Ì=Ò->l.w.cell? ⟨an,pl,Á⟩=Â (à x.2)
def Dx.C{d l:fc}{Q:Ï->ByteArray->fc->Prop}{listed:Array Bool}{x:(Option Addr×Nat×Nat)×ByteArray}(h:Dx d n j b k v Q listed x l)(o:i≠12)(p:i≠18)(s:i≠20)(e:d.r ⟨j,2,Á⟩/\d.r ⟨b,k,Á⟩)(m:ß)(r:fH l l.w m):Dx d n j b k v Q (listed.setIfInBounds i Ò) x {l with w:=m}:=by
 have t:∀a,(a=⟨j,2,Á⟩\/a=⟨b,k,Á⟩)->d.r a:=λa u=>by rcases u with rfl|rfl;exact e.1;exact e.2
 refine⟨h.r.N t r,λq=> ?_,λq=> ?_,λq=> ?_⟩
 .rw[ç Ì o]at q;let⟨y,z,f⟩:=h.vl q;exact⟨y,z,λc g=>⟨(f c g).1,(r.I c (f c g).1).trans (f c g).2⟩⟩
 .rw[ç Ì p]at q;exact(r.N _<|by rw[h.r.C];exact Ã e.1).trans<|h.I q
 .rw[ç Ì s]at q;exact(r.N _<|by rw[h.r.C];exact Ã e.2).trans<|h.N q
section
variable{J:Jd}{il:fc}{ga gb an pl:Nat}{sD:Ï}{Q:Ï->ByteArray->fc->Prop}
def ait(S:gy il)(hq:¬il.q)(ht:d.size=37)(A9:d[1]?=Â (Æ (Â ⟨an,0,Á⟩) i i))(QS:d[5]?=Â (À<|Â ⟨n,0,Á⟩))(hO:il.O n) (X:il.w.cell? ⟨n,0,Á⟩=Â v) (Y:il.w.cell? ⟨n,1,Á⟩=Â (Ê Î pl)) (c2:il.w.cell? ⟨n,2,Á⟩=Â (À<|Â ⟨ga,0,Á⟩)) (c3:il.w.cell? ⟨n,3,Á⟩=Â (À<|Â ⟨gb,0,Á⟩)) (ug:il.N ⟨ga,2,Á⟩) (pH:il.w.cell? ⟨ga,2,Á⟩=Â sD) (F:il.r ⟨gb,2,Á⟩) (H:il.r ⟨an,pl,Á⟩) (e1:(il.w.cell? ⟨gb,2,Á⟩).isSome=Ò) (e2:(il.w.cell? ⟨an,pl,Á⟩).isSome=Ò) (z1:il.w.frozen? ⟨gb,2,Á⟩=Ì) (z2:il.w.frozen? ⟨an,pl,Á⟩=Ì) (qW:pl<i) (hN:i<1000000) (lA:(⟨gb,2,Á⟩:â)≠⟨an,pl,Á⟩) (tK:∀l,iD (λa=>a=⟨gb,2,Á⟩\/a=⟨an,pl,Á⟩) il l->∀I lL,fi Ä Ì (λl' g'=>l'.d=l.d/\∃p g c str,g'=G (I.finish<|ñ #[Æ p g c,à str]) lL/\Q (Æ p g c) str l') (lY l)<|G (Ă Ä 66 #[sD,v] Ğ)<|I::lL) (md:ý) (listed:Array Bool) (a:ŏ) (l:fc) (k:Nat) (rest:List Nat) (hI:II yN d (mN n ga gb an i pl v sD) (Dx il ga gb an pl sD Q) listed a l) (D:k∈Û md yN listed): fi Ä Ì (λl' g'=>∃u,g'=G ((base 49).at u<|Ñ yN rest::L) qX/\II yN d (mN n ga gb an i pl v sD) (Dx il ga gb an pl sD Q) (listed.setIfInBounds k Ò) u l') l (G ((base 49).at a<|Ñ yN (k::rest)::L) qX):=by
 let⟨x,s,B⟩:=hI;have K:uf yN d.size=Ò:=by rw[ht];decide
 have V:=QO D;have gN:=Dm D;have M:=B.r.fx;have N:¬l.q:=by rwa[B.r.q]
 have W:∀y:â,(y=⟨gb,2,Á⟩\/y=⟨an,pl,Á⟩)->il.r y:=λy ha=>by rcases ha with rfl|rfl;exact F;exact H
 have nn:a.tmps[1]?=Â (Æ (Â ⟨an,0,Á⟩) i i):=(s.C A).trans A9;have uh:a.tmps[5]?=Â (À<|Â ⟨n,0,Á⟩):=(s.C A).trans QS;have I:∀j m,il.w.cell? ⟨n,j,Á⟩=Â m->gY l ⟨n,j,Á⟩/\l.w.cell? ⟨n,j,Á⟩=Â m:=λj m h=>⟨Ã<|Ã<|B.r.O n hO,by rwa[gK<|B.r.r n<|Ã hO]⟩;have QU:¬((⟨ga,2,Á⟩:â)=⟨gb,2,Á⟩\/(⟨ga,2,Á⟩:â)=⟨an,pl,Á⟩):=λq=>by
  rcases q with q|q
  .exact S.Y _ F<|q▸ug
  .exact S.Y _ H<|q▸ug
 have Gs:gY l ⟨ga,2,Á⟩/\l.w.cell? ⟨ga,2,Á⟩=Â sD:=⟨Ç (Ç<|by rwa[B.r.c]),by rwa[B.r.e _ (Ç ug) QU]⟩;have QV:(pl:Int)<(i:Int):=Z
 have jR:yN.size=21:=A
 rw[jR]at gN;match k,gN with
 |0,_=>
  refine ik (o:=Gm) K s U U D (by k_ne) M N (λt r=> ?_) (λt r e E=> ?_)<|B.C A A A ⟨F,H⟩
  .simp only[mN,Gm];go_simp
  .simp[go_sem,Gm,uh]at E
 |1,_=>
  have u:a.tmps[13]?=Â (À<|Â ⟨n,3,Á⟩):=s.r 0 Gm 13 U (ig (o:=Dn) D U U) U;refine ik (o:=Dn) K s U U D (by k_ne) M N (λt r=> ?_) (λt r e E=> ?_)<|B.C A A A ⟨F,H⟩
  .have J:t.cell? ⟨n,3,Á⟩=Â (À<|Â ⟨gb,0,Á⟩):=((I 3 _ c3).1.r r).trans (I 3 _ c3).2;simp only[mN,Dn];go_simp
  .have J:t.cell? ⟨n,3,Á⟩=Â (À<|Â ⟨gb,0,Á⟩):=((I 3 _ c3).1.r r).trans (I 3 _ c3).2;have b:e=⟨û ⟨n,3,Á⟩,Ì,Ì⟩:=by simp[go_sem,Dn,J,u]at E;exact E
   subst b;exact(I 3 _ c3).1.C
 |2,_=>
  refine ik (o:=Gn) K s U U D (by k_ne) M N (λt r=> ?_) (λt r e E=> ?_)<|B.C A A A ⟨F,H⟩
  .simp only[mN,Gn];go_simp
  .simp[go_sem,Gn,nn]at E
 |3,_=>
  refine ik (o:=Gp) K s U U D (by k_ne) M N (λt r=> ?_) (λt r e E=> ?_)<|B.C A A A ⟨F,H⟩
  .simp only[mN,Gp];go_simp
  .simp[go_sem,Gp,uh]at E
 |4,_=>
  have u:a.tmps[16]?=Â (À<|Â ⟨n,1,Á⟩):=s.r 3 Gp 16 U (ig (o:=Dp) D U U) U;refine ik (o:=Dp) K s U U D (by k_ne) M N (λt r=> ?_) (λt r e E=> ?_)<|B.C A A A ⟨F,H⟩
  .have J:t.cell? ⟨n,1,Á⟩=Â (Ê Î pl):=((I 1 _ Y).1.r r).trans (I 1 _ Y).2;simp only[mN,Dp];go_simp
  .have J:t.cell? ⟨n,1,Á⟩=Â (Ê Î pl):=((I 1 _ Y).1.r r).trans (I 1 _ Y).2;have b:e=⟨û ⟨n,1,Á⟩,Ì,Ì⟩:=by simp[go_sem,Dp,J,u]at E;exact E
   subst b;exact(I 1 _ Y).1.C
 |5,_=>
  refine ik (o:=Gq) K s U U D (by k_ne) M N (λt r=> ?_) (λt r e E=> ?_)<|B.C A A A ⟨F,H⟩
  .simp only[mN,Gq];go_simp
  .simp[go_sem,Gq,uh]at E
 |6,_=>
  have u:a.tmps[18]?=Â (À<|Â ⟨n,2,Á⟩):=s.r 5 Gq 18 U (ig (o:=Dq) D U U) U;refine ik (o:=Dq) K s U U D (by k_ne) M N (λt r=> ?_) (λt r e E=> ?_)<|B.C A A A ⟨F,H⟩
  .have J:t.cell? ⟨n,2,Á⟩=Â (À<|Â ⟨ga,0,Á⟩):=((I 2 _ c2).1.r r).trans (I 2 _ c2).2;simp only[mN,Dq];go_simp
  .have J:t.cell? ⟨n,2,Á⟩=Â (À<|Â ⟨ga,0,Á⟩):=((I 2 _ c2).1.r r).trans (I 2 _ c2).2;have b:e=⟨û ⟨n,2,Á⟩,Ì,Ì⟩:=by simp[go_sem,Dq,J,u]at E;exact E
   subst b;exact(I 2 _ c2).1.C
 |7,_=>
  have u:a.tmps[19]?=Â (À<|Â ⟨ga,0,Á⟩):=s.r 6 Dq 19 U (ig (o:=Dr) D U U) U;refine ik (o:=Dr) K s U U D (by k_ne) M N (λt r=> ?_) (λt r e E=> ?_)<|B.C A A A ⟨F,H⟩
  .simp only[mN,Dr];go_simp
  .simp[go_sem,Dr,u]at E
 |8,_=>
  have u:a.tmps[20]?=Â (À<|Â ⟨ga,0,Á⟩):=s.r 7 Dr 20 U (ig (o:=Ds) D U U) U;refine ik (o:=Ds) K s U U D (by k_ne) M N (λt r=> ?_) (λt r e E=> ?_)<|B.C A A A ⟨F,H⟩
  .simp only[mN,Ds];go_simp
  .simp[go_sem,Ds,u]at E
 |9,_=>
  have u:a.tmps[21]?=Â (À<|Â ⟨ga,2,Á⟩):=s.r 8 Ds 21 U (ig (o:=Dt) D U U) U;refine ik (o:=Dt) K s U U D (by k_ne) M N (λt r=> ?_) (λt r e E=> ?_)<|B.C A A A ⟨F,H⟩
  .have J:t.cell? ⟨ga,2,Á⟩=Â (sD):=(Gs.1.r r).trans Gs.2;simp only[mN,Dt];go_simp
  .have J:t.cell? ⟨ga,2,Á⟩=Â (sD):=(Gs.1.r r).trans Gs.2;have b:e=⟨û ⟨ga,2,Á⟩,Ì,Ì⟩:=by simp[go_sem,Dt,J,u]at E;exact E
   subst b;exact Gs.1.C
 |10,_=>
  refine ik (o:=Gr) K s U U D (by k_ne) M N (λt r=> ?_) (λt r e E=> ?_)<|B.C A A A ⟨F,H⟩
  .simp only[mN,Gr];go_simp
  .simp[go_sem,Gr,uh]at E
 |11,_=>
  have u:a.tmps[23]?=Â (À<|Â ⟨n,0,Á⟩):=s.r 10 Gr 23 U (ig (o:=Du) D U U) U;refine ik (o:=Du) K s U U D (by k_ne) M N (λt r=> ?_) (λt r e E=> ?_)<|B.C A A A ⟨F,H⟩
  .have J:t.cell? ⟨n,0,Á⟩=Â (v):=((I 0 _ X).1.r r).trans (I 0 _ X).2;simp only[mN,Du];go_simp
  .have J:t.cell? ⟨n,0,Á⟩=Â (v):=((I 0 _ X).1.r r).trans (I 0 _ X).2;have b:e=⟨û ⟨n,0,Á⟩,Ì,Ì⟩:=by simp[go_sem,Du,J,u]at E;exact E
   subst b;exact(I 0 _ X).1.C
 |12,_=>
  have Gt:a.tmps[22]?=Â (sD):=s.r 9 Dt 22 U (ig (o:=A3) D U U) U;have Km:a.tmps[24]?=Â (v):=s.r 11 Du 24 U (ig (o:=A3) D U U) U;refine Yz (o:=A3) K s U U D (by k_ne) M (f:=66) (args:=#[sD,v]) (λw=>by simp only[A3];go_simp) (λw=>ł (o:=A3) U Tryz.func66 U U #[]) λt r=> ?_;have T:=B.r.N W r;refine((tK _ T _ _).lY<|T.G S).fN ?_;rintro l' g' ⟨y,⟨hy0,p,g,c,str,rfl,hQ⟩,rfl,hA,YC,aiu,aiv⟩;refine⟨((p,g,c),str),U,⟨T.QP W hA hy0,λ_=>⟨y,hQ,λb P=>⟨?_,U⟩⟩,λq=> ?_,λq=> ?_⟩,λj u=> ?_⟩
  .rcases P with q|q
   .exact Ã<|Ã q
   .rw[YC]at q;exact q.elim (λz=>Ã<|Ç z) Ç
  .rw[ç Ì A]at q;exact absurd (s.I (o:=A6) U q U)<|wT V
  .rw[ç Ì A]at q;exact absurd (s.I (o:=A8) U q U)<|wT V
  .match j,u with
   |12,u=>exact absurd u<|wT V
   |13,u=>exact absurd (s.I (o:=vk) U u U)<|wT V
   |14,u=>exact absurd (s.I (o:=vk) U (s.I (j:=13) (o:=A4) U u U) U)<|wT V
   |15,u=>exact absurd (s.I (o:=vk) U (s.I (j:=13) (o:=A5) U u U) U)<|wT V
   |0,_|1,_|2,_|3,_|4,_|5,_|6,_|7,_|8,_|9,_|10,_|11,_|16,_|17,_|18,_|19,_|20,_|g+21,_=>rfl
 |13,_=>
  have u:a.tmps[25]?=Â (ñ #[Æ x.1.1 x.1.2.1 x.1.2.2,à x.2]):=s.r 12 A3 25 U (ig (o:=vk) D U U) U;refine ik (o:=vk) K s U U D (by k_ne) M N (λt r=> ?_) (λt r e E=> ?_)<|B.C A A A ⟨F,H⟩
  .simp only[mN,vk];go_simp
  .simp[go_sem,vk,u]at E
 |14,_=>
  have u:a.tmps[12]?=Â (ñ #[Æ x.1.1 x.1.2.1 x.1.2.2,à x.2]):=s.r 13 vk 12 U (ig (o:=A4) D U U) U;refine ik (o:=A4) K s U U D (by k_ne) M N (λt r=> ?_) (λt r e E=> ?_)<|B.C A A A ⟨F,H⟩
  .simp only[mN,A4];go_simp
  .simp[go_sem,A4,u]at E
 |15,_=>
  have u:a.tmps[12]?=Â (ñ #[Æ x.1.1 x.1.2.1 x.1.2.2,à x.2]):=s.r 13 vk 12 U (ig (o:=A5) D U U) U;refine ik (o:=A5) K s U U D (by k_ne) M N (λt r=> ?_) (λt r e E=> ?_)<|B.C A A A ⟨F,H⟩
  .simp only[mN,A5];go_simp
  .simp[go_sem,A5,u]at E
 |16,_=>
  have u:a.tmps[14]?=Â (À<|Â ⟨gb,0,Á⟩):=s.r 1 Dn 14 U (ig (o:=Dv) D U U) U;refine ik (o:=Dv) K s U U D (by k_ne) M N (λt r=> ?_) (λt r e E=> ?_)<|B.C A A A ⟨F,H⟩
  .simp only[mN,Dv];go_simp
  .simp[go_sem,Dv,u]at E
 |17,_=>
  have u:a.tmps[28]?=Â (À<|Â ⟨gb,0,Á⟩):=s.r 16 Dv 28 U (ig (o:=Dw) D U U) U;refine ik (o:=Dw) K s U U D (by k_ne) M N (λt r=> ?_) (λt r e E=> ?_)<|B.C A A A ⟨F,H⟩
  .simp only[mN,Dw];go_simp
  .simp[go_sem,Dw,u]at E
 |18,_=>
  have h29:a.tmps[29]?=Â (À<|Â ⟨gb,2,Á⟩):=s.r 17 Dw 29 U (ig (o:=A6) D U U) U;have h26:a.tmps[26]?=Â (Æ x.1.1 x.1.2.1 x.1.2.2):=s.r 14 A4 26 U (ig (o:=A6) D U U) U;have T:(l.w.cell? ⟨gb,2,Á⟩).isSome=Ò:=B.r.g _ (Ã U) e1;have Ba:l.w.frozen? ⟨gb,2,Á⟩=Ì:=(B.r.S _<|Ã F).trans z1;have lD:pR l ⟨gb,2,Á⟩:=Ç (by rwa[B.r.I]);refine QR (o:=A6) (y:=⟨gb,2,Á⟩) (v:=Æ x.1.1 x.1.2.1 x.1.2.2) K s U U U D (by k_ne) M N U lD T Ba (λw J hz=> ?_) (λw J hz=> ?_) λt r=> ?_
  .let⟨u,hu⟩:=Ô.1 J;simp only[A6];go_simp
  .let⟨u,hu⟩:=Ô.1 J;simp[go_sem,A6,h29,h26,á _ _ _ _ _ _ (show Ø (Æ x.1.1 x.1.2.1 x.1.2.2)=Ò from rfl),hu,hz]
  .have hA:=B.r.qh S W (x:=⟨gb,2,Á⟩) (v:=Æ x.1.1 x.1.2.1 x.1.2.2) (Ã U) U T;refine⟨hA.N W ⟨r.r,r.I,r.N,r.Y,r.S⟩,λq=> ?_,λq=> ?_,λq=> ?_⟩
   .rw[ç Ì A]at q;let⟨y,y1,z⟩:=B.vl q;refine⟨y,y1,λb P=>⟨(z b P).1,?_⟩⟩;have QW:b≠(⟨gb,2,Á⟩:â).block:=λe=>(B.r.G S).N ⟨gb,2,Á⟩ (by rw[B.r.C];exact Ã F)<|e▸(z b P).1;exact(r.I b (z b P).1).trans<|(lk QW).trans (z b P).2
   .exact(r.N _ (by rw[B.r.C];first|exact Ã F|exact Ã H)).trans<|As (Ô.1 T).choose_spec
   .rw[ç Ì A]at q;exact(r.N ⟨an,pl,Á⟩<|by rw[B.r.C];exact Ã H).trans<|(A2 U λe=>lA e.symm).trans<|B.N q
 |19,_=>
  have QX:a.tmps[15]?=Â (Æ (Â ⟨an,0,Á⟩) i i):=s.r 2 Gn 15 U (ig (o:=A7) D U U) U;have QY:a.tmps[17]?=Â (Ê Î pl):=s.r 4 Dp 17 U (ig (o:=A7) D U U) U;refine ik (o:=A7) K s U U D (by k_ne) M N (λt r=> ?_) (λt r e E=> ?_)<|B.C A A A ⟨F,H⟩
  .simp only[mN,A7];go_simp
  .simp[go_sem,A7,qW,QV,QX,QY]at E
 |20,_=>
  have E:a.tmps[30]?=Â (À<|Â ⟨an,pl,Á⟩):=s.r 19 A7 30 U (ig (o:=A8) D U U) U;have h27:a.tmps[27]?=Â (à x.2):=s.r 15 A5 27 U (ig (o:=A8) D U U) U;have T:(l.w.cell? ⟨an,pl,Á⟩).isSome=Ò:=B.r.g _ (Ç U) e2;have Ba:l.w.frozen? ⟨an,pl,Á⟩=Ì:=(B.r.S _<|Ã H).trans z2;have lD:pR l ⟨an,pl,Á⟩:=Ç (by rwa[B.r.I]);refine QR (o:=A8) (y:=⟨an,pl,Á⟩) (v:=à x.2) K s U U U D (by k_ne) M N U lD T Ba (λw J hz=> ?_) (λw J hz=> ?_) λt r=> ?_
  .let⟨u,hu⟩:=Ô.1 J;simp only[A8];go_simp
  .let⟨u,hu⟩:=Ô.1 J;simp[go_sem,A8,E,h27,á _ _ _ _ _ _ (show Ø (à x.2)=Ò from rfl),hu,hz]
  .have hA:=B.r.qh S W (x:=⟨an,pl,Á⟩) (v:=à x.2) (Ç U) U T;refine⟨hA.N W ⟨r.r,r.I,r.N,r.Y,r.S⟩,λq=> ?_,λq=> ?_,λq=> ?_⟩
   .rw[ç Ì A]at q;let⟨y,y1,z⟩:=B.vl q;refine⟨y,y1,λb P=>⟨(z b P).1,?_⟩⟩;have QW:b≠(⟨an,pl,Á⟩:â).block:=λe=>(B.r.G S).N ⟨an,pl,Á⟩ (by rw[B.r.C];exact Ã H)<|e▸(z b P).1;exact(r.I b (z b P).1).trans<|(lk QW).trans (z b P).2
   .rw[ç Ì A]at q;exact(r.N ⟨gb,2,Á⟩<|by rw[B.r.C];exact Ã F).trans<|(A2 U<|lA).trans<|B.I q
   .exact(r.N _ (by rw[B.r.C];first|exact Ã F|exact Ã H)).trans<|As (Ô.1 T).choose_spec
 |g+21,h=>exact absurd h Z
end
section
variable{E:â->Prop}{l c g:fc}
def iD.fg(h:iD E l c)(k:iD E c g):iD E l g:=by have f:=h.C;exact⟨λj e=>k.O j<|h.O j e,λj e=>(k.h j e).elim (h.h j) λq=>Ç<|Õ h.f q,k.Y.trans h.Y,k.I.trans h.I,k.c.trans h.c,k.K.trans h.K,k.q.trans h.q,k.d.trans h.d,k.fx,Õ h.f k.f,λj e=>(k.r j<|h.M e).trans<|h.r j e,λa b i=>(k.e a (by rwa[f]) i).trans<|h.e a b i,λa b=>(k.S a<|by rwa[f]).trans<|h.S a b,λa b q=>k.b a (by rwa[h.K])<|h.b a b q,λa b q=>k.g a b<|h.g a b q⟩
end
def gI(l:fc)(w₁:ß)(o:Ÿ):fc:={l with O:=λb=>l.O b\/b=w₁.heap.size,w:=w₁.alloc o}
theorem yO{o:Ÿ}(h:j<w.heap.size):(w.alloc o).heap[j]?=w.heap[j]?:=by unfold ň;grind
theorem mO{o:Ÿ}:(w.alloc o).heap[w.heap.size]?=Â o:=by unfold ň;simp
def Kn{o:Ÿ}:(w.alloc o).heap.size=w.heap.size+1:=by unfold ň;simp
section
variable{J:Jd}{l:fc}{a:ŏ}{k:List ŷ}{cs:List é}{ob:Ÿ}{E:â->Prop}
def YD(b:∀j,l.O j->j<w.heap.size)(c:¬l.q):mo l (gI l w ob) w (w.alloc ob) #[]:= ⟨by rw[Kn];omega,λj h=>h.imp id λe=>by omega,λj h=>by rw[Kn];exact h.elim (λq=>Ĺ<|b j q) λe=>by omega,U,U,U,U,λj d _ _=>yO d,λx a _ _=>gK<|yO a,λx a _=>wB<|yO a,U,U,U,λe f=>by simp at f,by simp[į,gI],U,λq=>absurd q c,U⟩
def Gu(c:Q[i]?=Â o)(d:Ė o (ţ Q a.tmps)=Ò)(e:f.kind≠Ź)(g:ki l)(h:¬l.q) (j:∀w,(ĉ a.eval o).run P w=.ok (.value<|À<|Â ⟨w.heap.size,0,Á⟩) (w.alloc ob)) (m:∀w,(ĉ a.eval o).events P w #[]=#[]) (n:∀b,fH l l.w b->fi P yQ J (gI l b ob) (G (f.at (a.put o.dst<|À<|Â ⟨b.heap.size,0,Á⟩)<|Ñ Q jJ::k) cs)):fi P yQ J l (G (f.at a<|Ñ Q (i::jJ)::k) cs):=by
 refine vj c d e λb r=> ?_;rw[j b];refine⟨_,?_,n b r⟩;have:listed P f.fn a o b=#[]:=by unfold listed;rw[m b,Ī]
 rw[this];exact YD (mA g r) h
def Ko(s:gy l)(d:∀a,E a->l.r a)(r:fH l l.w u):iD E l (gI l u ob):=by
 have c:=r.r;refine⟨λj h=>Ã h,λj h=>h.imp id λe=>by omega,U,U,U,U,U,U,λj h=> ?_,?_,λj f=>(yO<|È (s.fx j f) c).trans<|r.I j f,λx b _=>(gK<|yO<|È (s.I x b) c).trans<|r.N x b,λx b=>(wC<|yO<|È (s.I x b) c).trans<|r.Y x b,λx b q=> ?_,λx b q=> ?_⟩
 .show j<(u.alloc ob).heap.size;rw[Kn];exact h.elim (λq=>Ĺ<|È (s.fx j<|Ã q) c) λe=>by omega
 .show l.w.heap.size<=(u.alloc ob).heap.size;rw[Kn];omega
 .show((u.alloc ob).cell? x).isSome=Ò;rw[gK<|yO<|È (s.S x b).2.1 c];exact r.S x b q
 .show((u.alloc ob).cell? x).isSome=Ò;rwa[gK<|yO<|È (s.I x<|Ã<|d x b) c,r.N x<|Ã<|d x b]
def Kp{w':ß}{p:Nat}(g:∀j,l.O j->j<w.heap.size)(i:¬l.q)(b:l.O p)(k:w'.heap.size=w.heap.size)(c:∀j,j≠p->w'.heap[j]?=w.heap[j]?)(d:w'.os=w.os/\w'.output=w.output/\w'.tape=w.tape)(f:∀e∈V,wS l e):mo l {l with w:=w'} w w' V:=by refine⟨Z,λ_ h=>Ã h,λj h=>by rw[k];exact g j h,U,U,U,U,λj _ a _=>c j λe=>a<|e▸b,λx _ a _=>gK (c _ λe=>a<|e▸b),λx _ a=>wB (c _ λe=>a<|e▸b),d.1,d.2.1,d.2.2,λe h=>(f e h).1,(Ki f _).symm,U,λq=>absurd q i,U⟩
end
def iT(w:ß)(p:Nat)(v0 v1 v2 v3:Ï):ß:=(((w.setCell ⟨p,0,Á⟩ v0).setCell ⟨p,1,Á⟩ v1).setCell ⟨p,2,Á⟩ v2).setCell ⟨p,3,Á⟩ v3
section
variable{p:Nat}{v0 v1 v2 v3:Ï}
def wU:(iT w p v0 v1 v2 v3).heap.size=w.heap.size:=by unfold iT;rw[jU,jU,jU,jU]
def yP(h:j≠p):(iT w p v0 v1 v2 v3).heap[j]?=w.heap[j]?:=by unfold iT;rw[lk h,lk h,lk h,lk h]
theorem QZ(b:w.cell? ⟨p,0,Á⟩=Â v)(c:w.cell? ⟨p,1,Á⟩=Â x)(d:w.cell? ⟨p,2,Á⟩=Â z)(e:w.cell? ⟨p,3,Á⟩=Â jQ): (iT w p v0 v1 v2 v3).cell? ⟨p,0,Á⟩=Â v0/\(iT w p v0 v1 v2 v3).cell? ⟨p,1,Á⟩=Â v1/\(iT w p v0 v1 v2 v3).cell? ⟨p,2,Á⟩=Â v2/\(iT w p v0 v1 v2 v3).cell? ⟨p,3,Á⟩=Â v3:=by have f:∀(w:ß) (i j:Nat) (a:Ï),i≠j->(w.setCell ⟨p,i,Á⟩ a).cell? ⟨p,j,Á⟩=w.cell? ⟨p,j,Á⟩:=λw i j a h=>yo<|Ç h;unfold iT;grind [As]
def Q0{E:â->Prop}{l e:fc}(s:gy l)(f:∀a,E a->l.r a)(h:iD E l e){w':ß}(r:fH e e.w u)(k:l.w.heap.size<=p)(g:w'.heap.size=u.heap.size)(i:∀j,j≠p->w'.heap[j]?=u.heap[j]?):iD E l {e with w:=w'}:=by
 have b:=h.N f r;have c:∀{j:Nat},j<l.w.heap.size->w'.heap[j]?=u.heap[j]?:=λ{j} q=>i j Z;refine⟨b.O,b.h,b.Y,b.I,b.c,b.K,b.q,b.d,λj q=> ?_,?_,λj q=>(c<|s.fx j q).trans<|b.r j q,λa q n=>(gK<|c<|s.I a q).trans<|b.e a q n,λa q=>(wC<|c<|s.I a q).trans<|b.S a q,λa q z=> ?_,λa q z=> ?_⟩
 .show j<w'.heap.size;rw[g];exact b.fx j q
 .show l.w.heap.size<=w'.heap.size;rw[g];exact b.f
 .show(w'.cell? a).isSome=Ò;rw[gK<|c (s.S a q).2.1];exact b.b a q z
 .show(w'.cell? a).isSome=Ò;rw[gK<|c<|s.I a<|Ã<|f a q];exact b.g a q z
end
def rn(t:Array Ï)(h:t.size=n):∃u:Nat->Ï,t=((ã n).map u).toArray:=by subst h;refine⟨λi=>t.getD i Å,Array.ext fj λi a _=> ?_⟩;simp_all
def Q5(t:Array Ï)(h:t.size=37):∃a b c d e f g i j k l m n o p q r s u v w x y z B C D E F G H I J K L M N:Ï,t=#[a,b,c,d,e,f,g,i,j,k,l,m,n,o,p,q,r,s,u,v,w,x,y,z,B,C,D,E,F,G,H,I,J,K,L,M,N]:=by obtain⟨_,rfl⟩:=rn t h;exact⟨_,_,_,_,_,_,_,_,_,_,_,_,_,_,_,_,_,_,_,_,_,_,_,_,_,_,_,_,_,_,_,_,_,_,_,_,_,U⟩
end Go.Proofs.Y.fv
namespace Go.Proofs.Y.fv
open Go Go.Conc Go.Proofs.Y.Lift Go.RowKit Go.Conc.Lib Go.ConcR.Gen
section
variable{Ψ:ß->Prop}{L:WgLink}{l:fc}{e:Jd}{k:List ŷ}
def Q6(Ψ:ß->Prop)(l:fc)(b:Nat)(w:ß):Prop:=SW Ψ l b w/\fH l l.w w
def o6(a:lX Ψ l b)(h:Q6 Ψ l b w)(r:fH l w u):Q6 Ψ l b u:=⟨fJ h.1<|a.r r,h.2.fg r⟩
def aiw{J:Jd}(a:SW Ψ l b l.w)(c:Goes P yQ (fH l) Go.ConcR.DC0 (λd e=>fi P yQ J {l with w:=e} d) n g l.w):fi P yQ J l g:= Pk c (λ_ _ r=>r) a.1 λ_ _ _ h=>h
def aix(H:WgLib P L)(τ:fc->fc)(Φ:fc->Prop)(c:lX Ψ l b)(z:SW Ψ l b l.w) (N:∀a,fH l l.w a->Φ {l with w:=a}/\(τ {l with w:=a}).d=0/\∃q:ß->Prop,lX q (τ {l with w:=a}) b/\SW q (τ {l with w:=a}) b (τ {l with w:=a}).w/\ ∀j,SW q (τ {l with w:=a}) b j->fi P Ì e {τ {l with w:=a}with d:=0,w:=j} (G (f.at (y.put ((Q[i]?).bind (·.dst))<|ñ #[])<|Ñ Q jJ::k) qX)): fi P Ì (λl g=>Φ l/\yq P Ì b (fi P Ì e) (τ l) g) l (G ((base L.done).at ⟨#[À<|Â ⟨b,0,Á⟩,Å,Å,Å],[]⟩ [ö<|body_done L])<|f.at y (Ñ Q (i::jJ)::k)::qX):=by
 lib_facts;simp only[body_done,doneFn,Ń];have hF:Q6 Ψ l b l.w:=⟨z,fH.fU _ _⟩;apply aiw z (n:=40);u_reg (o6 c) hF;u_op (o6 c) hF;u_call H.f_add (nm_add L) addFn (o6 c) hF;u_c Ŝ (o6 c) hF;u_cond Ò (o6 c) hF;u_c Ŝ (o6 c) hF;u_c Ŝ (o6 c) hF;u_reg (o6 c) hF;u_op (o6 c) hF;u_op (o6 c) hF;u_c stepG_region_end (o6 c) hF;u_cond Ò (o6 c) hF;u_reg (o6 c) hF;u_op (o6 c) hF;u_conv H.underlying_tWgP H.room_tWg (nk.r hF.1.2.1).choose_spec (o6 c) hF;refine Ë λa g=> ?_;replace hF:=o6 c hF g;clear g;refine .fB λj r=> ?_;let⟨O,B,q,h,C,D⟩:=N j<|hF.2.fg<|yH r;refine⟨O,B,U,_,λ_=>stepG_markAt .releaseMerge fj U U (by k_ne) U H.f_relMerge (x_relMerge_n L) (x_relMerge_b L) (x_relMerge_x L) (x_relMerge_f L) (by simp[ĥ,fM]),?_⟩;walk_nrm;show fi P Ì (Ol P Ì b<|fi P Ì e) (τ {l with w:=j}) _;clear O r;generalize τ {l with w:=j}=l2 at h C B D|-;replace hF:=C;clear C c z N;apply jE h hF (n:=10);iterate 3 w_go fJ
 refine Ë λa g=> ?_;replace hF:=fJ hF g;clear g;refine vi (l:={l2 with w:=a}) h hF (Ã U) U (λ_=>stepG_mark0 .disable fj U U (by k_ne) U H.f_disable (x_disable_n L) (x_disable_b L) (x_disable_x L)<|x_disable_f L) λE hF=> ?_;walk_nrm;have W:į l2.d #[jP .disable]=1:=by rw[B];rfl
 rw[W];apply jE (l:={l2 with d:=1,w:=E}) h hF (n:=50);iterate 2 w_go fJ
 u_defer fJ hF
 iterate 8 w_go fJ
 u_bub fJ hF
 iterate 11 w_go fJ
 u_call H.f_uAdd (nm_uAdd L) uAddFn fJ hF
 iterate 10 w_go fJ
 refine Ë λa g=> ?_;replace hF:=fJ hF g;clear g;refine nN (l:={l2 with d:=1,w:=a}) h hF λj hF=>⟨U,U,λv=>⟨_,λa p F=>(stepG_add_atomic U U (by k_ne) U H.f_addU64 (x_addU64_n L) (x_addU64_b L) (x_addU64_x L) ê (x_addU64_f L) U U p F).trans fQ,?_⟩⟩;walk_nrm;have S:ê.wrap (v+18446744069414584320)=ê.wrap (v+qo):=rfl;rw[S];clear S;obtain⟨s,I⟩:∃s,ê.wrap (v+qo)=s:=⟨_,U⟩;simp only[I];have J:0<=s:=by rw[<-I];have:ê.wrap (v+qo)=(v+qo)%18446744073709551616:=rfl;rw[this];omega
 clear I v;by_cases o:s=0\/(fY<=s/\s<1000000*fY/\s%fY<1000000)
 .rw[if_pos o];by_cases m:s=0;focus
   subst m;clear o J
  rotate_left;focus
   have X:=o.resolve_left m;clear o m J;let⟨Y,c5,c6⟩:=X;have q4:(4294967296:Int)<=s:=Y;have K:s<1000000*4294967296:=c5;have T:s%4294967296<1000000:=c6;have f1:=Di s Z K T;have t:=Dj s Z K T;obtain⟨u,g1⟩:∃u,(s/4294967296+2147483648)%4294967296-2147483648=u:=⟨_,U⟩;have g2:¬u<0:=Z
   have g3:0<u:=Z
   by_cases M:s%4294967296=0;focus rw[M]at t
   rotate_left;focus
    obtain⟨x,g4⟩:∃x,s%4294967296=x:=⟨_,U⟩;rw[g4]at t M;have V:x%4294967296=x:=Z
    have g6:(x !=0)=Ò:=by simpa using M
  all_goals
   apply jE (l:={l2 with d:=1,w:=j}) h hF (n:=150);iterate 3 w_go fJ
   u_leave1 H.f_uAdd fJ hF
   iterate 83 w_go fJ
   refine Ë λa g=> ?_;replace hF:=fJ hF g;clear g;refine vi (l:={l2 with d:=1,w:=a}) h hF (Ç U) U (λw=>Ka .enable fj U H.f_enable (x_enable_n L) (x_enable_b L) (x_enable_x L) (x_enable_f L) w) λE hF=> ?_;have u:į 1 #[jP .enable]=0:=rfl;rw[u];apply jE (l:={l2 with d:=0,w:=E}) h hF (n:=10);u_leave0 H.f_add fJ hF;iterate 2 w_go fJ
   u_leave0 H.f_done fJ hF
   refine Ë λa g=> ?_;replace hF:=fJ hF g;clear g;exact D _ hF
 .rw[if_neg o];by_cases m:0<s/\s<1000000
  .rw[if_pos m];let⟨q4,K⟩:=m;clear o J;have f1:=Di s Z Z Z;have t:=Dj s Z Z Z;have g1:(s/4294967296+2147483648)%4294967296-2147483648=0:=Z
   have V:s%4294967296=s:=Z
   rw[V]at t;have g6:(s !=0)=Ò:=by simp;omega
   have X:(s==0)=Ì:=by simp;omega
   have M:(s.toNat:Int)=s:=Z
   apply jE (l:={l2 with d:=1,w:=j}) h hF (n:=150);iterate 3 w_go fJ
   u_leave1 H.f_uAdd fJ hF
   iterate 89 w_go fJ
   u_call H.f_uLoad (nm_uLoad L) uLoadFn fJ hF
   iterate 9 w_go fJ
   refine Ë λa g=> ?_;replace hF:=fJ hF g;clear g;refine nN (l:={l2 with d:=1,w:=a}) h hF λj hF=>⟨U,U,λv=>⟨_,λa p=>stepG_load_atomic U U (by k_ne) U H.f_loadU64 (x_loadU64_n L) (x_loadU64_b L) (x_loadU64_x L) ê (x_loadU64_f L) U p,?_⟩⟩;show fi P Ì (if v=(s.toNat:Int)then Jz P Ì b (fi P Ì e) s.toNat else λ_ _=>True) _ _;by_cases u:v=(s.toNat:Int)
   .rw[if_pos u];rw[M]at u;subst u;walk_nrm;have Y:(v !=v)=Ì:=fj
    apply jE (l:={l2 with d:=1,w:=j}) h hF (n:=150);iterate 3 w_go fJ
    u_leave1 H.f_uLoad fJ hF
    iterate 10 w_go fJ
    u_call H.f_uStore (nm_uStore L) uStoreFn fJ hF
    iterate 5 w_go fJ
    refine Ë λa g=> ?_;replace hF:=fJ hF g;clear g;refine nN (l:={l2 with d:=1,w:=a}) h hF λj hF=>⟨U,U,_,λa x p F=>stepG_store_atomic U U (by k_ne) U H.f_storeU64 (x_storeU64_n L) (x_storeU64_b L) (x_storeU64_x L) (x_storeU64_f L) U U p F,?_⟩;walk_nrm;obtain⟨r,T⟩:∃r,v.toNat=r+1:=⟨v.toNat-1,Z⟩;rw[T];apply jE (l:={l2 with d:=1,w:=j}) h hF (n:=150);iterate 2 w_go fJ
    u_leave0 H.f_uStore fJ hF
    iterate 24 w_go fJ
    refine Ë λa g=> ?_;replace hF:=fJ hF g;clear g;apply ah0 H h D r v<;>first|exact hF|omega
   .rw[if_neg u];exact .fB λ_ _=>trivial
  .rw[if_neg m];trivial
end
end Go.Proofs.Y.fv
namespace Go.Proofs.Y.fv
open Go Go.Conc Go.Proofs.Y.Lift Go.RowKit Go.Conc.Lib Go.ConcR.Gen
open Go.Proofs Go.Proofs.YtgpphkdoanciiaaGreatDoor
noncomputable def Kq:Ę:=jZ Ι [1,0,0]
noncomputable def yR (t:Array Ï) (a:List é):Ý:=G ((base 49).at ⟨t,[]⟩ [ö Kq,ą Kq,ô 0]) a
structure Bb(an N:Nat)(ib:Option â)(m c kk:Nat)(t:Array Ï):Prop where
 r:t.size=37
 t1:t[1]?=Â (Æ (Â ⟨an,0,Á⟩) N N)
 t6:t[6]?=Â (Æ ib m c)
 C:t[7]?=Â (Ê Î m)
 I:t[8]?=Â (Ê Î kk)
theorem Bc{x:Int}(a:0<=x)(b:x<1000000):Î.wrap x=x:=by rw[Γ];omega
section
variable{f:Jd}{l:fc}{t:Array Ï}{an N ib c kk:Nat}{Q:Ï->ByteArray->fc->Prop}{τ:fc->fc}{Φ:fc->Prop}
def aiy(D:gy l)(V:¬l.q)(hd:l.d=0)(W:Bb an N (Â ⟨ib,0,Á⟩) m c kk t)(hkk:kk<m)(hm:m<1000)(hN:N<1000000)(qW:j<N)(yS:l.M ib) (i0:l.w.cell? ⟨ib,kk*4,Á⟩=Â (À O)) (i1:l.w.cell? ⟨ib,kk*4+1,Á⟩=Â (Ê Î j)) (i2:l.w.cell? ⟨ib,kk*4+2,Á⟩=Â (À<|Â ⟨i,0,Á⟩)) (i3:l.w.cell? ⟨ib,kk*4+3,Á⟩=Â (À<|Â ⟨n,0,Á⟩)) (ug:l.N ⟨i,2,Á⟩) (pH:l.w.cell? ⟨i,2,Á⟩=Â v) (o1:l.r ⟨n,2,Á⟩) (o2:l.r ⟨an,j,Á⟩) (e1:(l.w.cell? ⟨n,2,Á⟩).isSome=Ò) (e2:(l.w.cell? ⟨an,j,Á⟩).isSome=Ò) (z1:l.w.frozen? ⟨n,2,Á⟩=Ì) (z2:l.w.frozen? ⟨an,j,Á⟩=Ì) (lA:(⟨n,2,Á⟩:â)≠⟨an,j,Á⟩) (tK:∀u,iD (λa=>a=⟨n,2,Á⟩\/a=⟨an,j,Á⟩) l u->∀cl lL,fi Ä Ì (λl'' g'=>l''.d=u.d/\∃p k c str,g'=G (cl.finish<|ñ #[Æ p k c,à str]) lL/\Q (Æ p k c) str l'') (lY u)<|G (Ă Ä 66 #[v,À O] Ğ)<|cl::lL) (An:∀u (x:(Option Addr×Nat×Nat)×ByteArray),iD (λa=>a=⟨n,2,Á⟩\/a=⟨an,j,Á⟩) l u->(∃y,Q (Æ x.1.1 x.1.2.1 x.1.2.2) x.2 y/\(∀b,y.M b->u.M b/\u.w.heap[b]?=y.w.heap[b]?))->u.w.cell? ⟨n,2,Á⟩=Â (Æ x.1.1 x.1.2.1 x.1.2.2)->u.w.cell? ⟨an,j,Á⟩=Â (à x.2)-> lX (λ_=>True) u n/\SW (λ_=>True) u n u.w/\Φ u/\(τ u).d=0/\∃E:ß->Prop,lX E (τ u) n/\SW E (τ u) n (τ u).w/\∀s X,SW E (τ u) n s->Bb an N (Â ⟨ib,0,Á⟩) m c (kk+1) X->fi Ä Ì f {τ u with d:=0,w:=s} (yR X qX)): fi Ä Ì (λl g=>Φ l/\yq Ä Ì n (fi Ä Ì f) (τ l) g) l (yR t qX):=by
 obtain⟨y0,y1,Y,y3,y4,y5,y6,y7,y8,y9,wV,yT,wW,rp,sE,qx,vm,vn,ui,uj,uk,sF,sG,sH,rf,sy,rh,oZ,n5,pM,pN,pO,tR,sB,sC,ri,rj,rfl⟩:=Q5 t W.r;obtain rfl:y1=Æ (Â ⟨an,0,Á⟩) N N:=by simpa using W.t1
 obtain rfl:y6=Æ (Â ⟨ib,0,Á⟩) m c:=by simpa using W.t6
 obtain rfl:y7=Ê Î m:=by simpa using W.C
 obtain rfl:y8=Ê Î kk:=by simpa using W.I
 have ru:∀y:â,(y=⟨n,2,Á⟩\/y=⟨an,j,Á⟩)->l.r y:=λy ha=>by rcases ha with rfl|rfl;exact o1;exact o2
 have atZ:(kk:Int)<(m:Int):=Z
 simp only[yR];conv in Kq=>whnf
 refine fP (n:=30) D.r ?_;have hF:True:=trivial;repeat w_go fw
 refine Ë λ_ _=> ?_;have B:∀g,gY l ⟨ib,g,Á⟩:=λg=>Ã yS;refine o5 (v:=Đ #[À O,Ê Î j,À<|Â ⟨i,0,Á⟩,À<|Â ⟨n,0,Á⟩]) U U (by k_ne) D.r V (λo r=> ?_) (λo r e F=> ?_) ?_
 .have J:=((B<|kk*4).r r).trans i0;have K:=((B<|kk*4+1).r r).trans i1;have L:=((B<|kk*4+2).r r).trans i2;have P:=((B<|kk*4+3).r r).trans i3;go_simp
 .have J:=((B<|kk*4).r r).trans i0;have K:=((B<|kk*4+1).r r).trans i1;have L:=((B<|kk*4+2).r r).trans i2;have P:=((B<|kk*4+3).r r).trans i3;simp[go_sem,J,K,L,P]at F;rcases F with rfl|rfl|rfl|rfl
  .exact(B _).C
  .exact(B _).C
  .exact(B _).C
  .exact(B _).C
 walk_nrm;refine Gu (ob:=É #[À Á,Ê Î 0,À Á,À Á] 155) U U (by k_ne) D.r V (λw=>by go_simp) (λw=>by simp[go_sem]) λo kB=> ?_;walk_nrm;have um:iD (λa=>a=⟨n,2,Á⟩\/a=⟨an,j,Á⟩) l (gI l o<|É #[À Á,Ê Î 0,À Á,À Á] 155):=Ko D ru kB;have nn:(gI l o<|É #[À Á,Ê Î 0,À Á,À Á] 155).w.heap[o.heap.size]?=Â (É #[À Á,Ê Î 0,À Á,À Á] 155):=mO;have sI:l.w.heap.size<=o.heap.size:=kB.r;have I:(gI l o<|É #[À Á,Ê Î 0,À Á,À Á] 155).O o.heap.size:=Ç U;generalize gI l o (É #[À Á,Ê Î 0,À Á,À Á] 155)=l₁ at um nn I|-;generalize o.heap.size=tb at nn I sI|-;refine vj U U (by k_ne) λs n7=> ?_;have S:s.heap[tb]?=_:=(n7.I tb<|Ã I).trans nn;have J:s.cell? ⟨tb,0,Á⟩=Â (À Á):=by simp[Ö,S]
 have K:s.cell? ⟨tb,1,Á⟩=Â (Ê Î 0):=by simp[Ö,S]
 have L:s.cell? ⟨tb,2,Á⟩=Â (À Á):=by simp[Ö,S]
 have P:s.cell? ⟨tb,3,Á⟩=Â (À Á):=by simp[Ö,S]
 have hz:∀g,s.frozen? ⟨tb,g,Á⟩=Ì:=λg=>by simp[î,S]
 go_simp;refine⟨{l₁ with w:=iT s tb (À O) (Ê Î j) (À<|Â ⟨i,0,Á⟩) (À<|Â ⟨n,0,Á⟩)},Kp (p:=tb) (mA um.fx n7) (by rwa[um.q]) I wU (λg H=>yP H) ⟨U,U,U⟩ λe F=> ?_,?_⟩
 .have h:=đ F;have e:∀g,pR l₁ ⟨tb,g,Á⟩:=λg=>Ã I;simp[go_sem,á _ _ _ _ _ _ (show Ø (À O)=Ò from rfl),á _ _ _ _ _ _ (show Ø (À<|Â ⟨i,0,Á⟩)=Ò from rfl),á _ _ _ _ _ _ (show Ø (À<|Â ⟨n,0,Á⟩)=Ò from rfl),J,K,L,P,hz]at h;rcases h with rfl|rfl|rfl|rfl
  .exact(e _).r
  .exact(e _).r
  .exact(e _).r
  .exact(e _).r
 let⟨c0,c1,c2,c3⟩:=QZ (v0:=À O) (v1:=Ê Î j) (v2:=À<|Â ⟨i,0,Á⟩) (v3:=À<|Â ⟨n,0,Á⟩) J K L P;have C:=Q0 (w':=iT s tb (À O) (Ê Î j) (À<|Â ⟨i,0,Á⟩)<|À<|Â ⟨n,0,Á⟩) D ru um n7 sI wU λg H=>yP H;have wY:({l₁ with w:=iT s tb (À O) (Ê Î j) (À<|Â ⟨i,0,Á⟩) (À<|Â ⟨n,0,Á⟩)}:fc).O tb:=I;replace c0:({l₁ with w:=iT s tb (À O) (Ê Î j) (À<|Â ⟨i,0,Á⟩) (À<|Â ⟨n,0,Á⟩)}:fc).w.cell? ⟨tb,0,Á⟩=_:=c0;replace c1:({l₁ with w:=iT s tb (À O) (Ê Î j) (À<|Â ⟨i,0,Á⟩) (À<|Â ⟨n,0,Á⟩)}:fc).w.cell? ⟨tb,1,Á⟩=_:=c1;replace c2:({l₁ with w:=iT s tb (À O) (Ê Î j) (À<|Â ⟨i,0,Á⟩) (À<|Â ⟨n,0,Á⟩)}:fc).w.cell? ⟨tb,2,Á⟩=_:=c2;replace c3:({l₁ with w:=iT s tb (À O) (Ê Î j) (À<|Â ⟨i,0,Á⟩) (À<|Â ⟨n,0,Á⟩)}:fc).w.cell? ⟨tb,3,Á⟩=_:=c3;generalize({l₁ with w:=iT s tb (À O) (Ê Î j) (À<|Â ⟨i,0,Á⟩) (À<|Â ⟨n,0,Á⟩)}:fc)=l₂ at c0 c1 c2 c3 C wY|-;clear nn I um S J K L P hz n7 s l₁ kB o;have rv:=C.G D;have pT:¬l₂.q:=by rwa[C.q]
 have aiz:l₂.N ⟨i,2,Á⟩:=by rwa[C.c]
 have nE:¬((⟨i,2,Á⟩:â)=⟨n,2,Á⟩\/(⟨i,2,Á⟩:â)=⟨an,j,Á⟩):=λq=>by
  rcases q with q|q
  .exact D.Y _ o1<|q▸ug
  .exact D.Y _ o2<|q▸ug
 have aiA:l₂.w.cell? ⟨i,2,Á⟩=Â v:=(C.e _ (Ç ug) nE).trans pH;have Q7:∀y:â,(y=⟨n,2,Á⟩\/y=⟨an,j,Á⟩)->l₂.r y:=λy hy=>by rw[C.I];exact ru y hy
 refine fP (n:=5) rv.r ?_;iterate 2 w_go fw
 refine Ë λ_ _=> ?_;refine QL (II yN #[y0,Æ (Â ⟨an,0,Á⟩) N N,Y,y3,y4,À<|Â ⟨tb,0,Á⟩,Æ (Â ⟨ib,0,Á⟩) m c,Ê Î m,Ê Î kk,ŝ Ò,À<|Â ⟨ib,kk*4,Á⟩,Đ #[À O,Ê Î j,À<|Â ⟨i,0,Á⟩,À<|Â ⟨n,0,Á⟩],wW,rp,sE,qx,vm,vn,ui,uj,uk,sF,sG,sH,rf,sy,rh,oZ,n5,pM,pN,pO,tR,sB,sC,ri,rj] (mN tb i n an N j (À O) v)<|Dx l₂ i n an j v Q) rv.r pT (λh H=> ?_) (λmd listed a l e z hI F=>ait rv pT U U U wY c0 c1 c2 c3 aiz aiA (Q7 _<|Ã U) (Q7 _<|Ç U) (C.g _ (Ã U) e1) (C.g _ (Ç U) e2) ((C.S _<|Ã o1).trans z1) ((C.S _<|Ã o2).trans z2) qW hN lA (λu h=>tK u<|C.fg h) md listed a l e z hI F) λmd listed a z hI jR yU=> ?_
 .refine⟨((Á,0,0),ByteArray.empty),mM.G _ _ _,(iD.fU rv.r).N Q7 ⟨H.r,H.I,H.N,H.Y,H.S⟩,λq=> ?_,λq=> ?_,λq=> ?_⟩<;>exact absurd q A
 let⟨x,H,T⟩:=hI;have pU:∀e∈ã 21,listed.getD e Ì=Ò:=by
  cases md
  .exact pS yU jR (ã 21) [] fQ λe F=>by cases F
  .exact λe F=>pS yU jR [0,1,5,6,7,8,9,10,11,12,13,14,16,17,18,2,3,4,15,19,20] [] fQ (λe F=>by cases F) e (by have:=Ē.1 F;revert e;decide)
  .exact pS yU jR (ã 21) [] fQ λe F=>by cases F
 have Gv:=C.fg T.r;have Gw:=Gv.G D;have wZ:¬z.q:=by rwa[Gv.q]
 let⟨F,ds⟩:=a;obtain rfl:ds=[]:=H.M;have b1:F[1]?=Â (Æ (Â ⟨an,0,Á⟩) N N):=H.C (d:=1) A;have b5:F[5]?=Â (À<|Â ⟨tb,0,Á⟩):=H.C (d:=5) A;have b6:F[6]?=Â (Æ (Â ⟨ib,0,Á⟩) m c):=H.C (d:=6) A;have b7:F[7]?=Â (Ê Î m):=H.C (d:=7) A;have b8:F[8]?=Â (Ê Î kk):=H.C (d:=8) A;obtain⟨x0,x1,x2,x3,x4,x5,x6,x7,x8,x9,YE,x11,x12,x13,x14,x15,x16,x17,x18,x19,x20,x21,x22,x23,x24,x25,x26,x27,x28,x29,x30,x31,x32,x33,x34,x35,x36,rfl⟩:=Q5 F H.S;obtain rfl:x1=Æ (Â ⟨an,0,Á⟩) N N:=by simpa using b1
 obtain rfl:x5=À (Â ⟨tb,0,Á⟩):=by simpa using b5
 obtain rfl:x6=Æ (Â ⟨ib,0,Á⟩) m c:=by simpa using b6
 obtain rfl:x7=Ê Î m:=by simpa using b7
 obtain rfl:x8=Ê Î kk:=by simpa using b8
 have aiB:=T.vl<|pU 12 A;have aiC:=T.I<|pU 18 A;have aiD:=T.N<|pU 20 A;have d3:z.w.cell? ⟨tb,3,Á⟩=Â (À<|Â ⟨n,0,Á⟩):=(gK<|T.r.r tb<|Ã wY).trans c3;have s3:gY z ⟨tb,3,Á⟩:=Ã<|Ã<|T.r.O tb wY;clear H pU b1 b5 b6 b7 b8;refine fP (n:=9) Gw.r ?_;iterate 3 w_go fw
 refine Ë λ_ _=> ?_;refine nP (x:=⟨tb,3,Á⟩) U U (by k_ne) Gw.r wZ s3 d3 (λw h=>by go_simp) (λw h=>by simp[go_sem,h]) ?_;walk_nrm;refine fP (n:=9) Gw.r ?_;iterate 2 w_go fw
 u_call qw.f_done (nm_done Lk) doneFn fw hF
 refine Ë λ_ _=> ?_;have w7:∀o,fH z z.w o->lX (λ_=>True) {z with w:=o} n/\SW (λ_=>True) {z with w:=o} n o/\Φ {z with w:=o}/\(τ {z with w:=o}).d=0/\∃E:ß->Prop,lX E (τ {z with w:=o}) n/\SW E (τ {z with w:=o}) n (τ {z with w:=o}).w/\∀s X,SW E (τ {z with w:=o}) n s->Bb an N (Â ⟨ib,0,Á⟩) m c (kk+1) X->fi Ä Ì f {τ {z with w:=o}with d:=0,w:=s} (yR X qX):=λo r=>by
  refine An {z with w:=o} x (Gv.N ru r) ?_ ?_ ?_
  .let⟨y,y1,Y⟩:=aiB;exact⟨y,y1,λb h=>⟨(Y b h).1,(r.I b (Y b h).1).trans (Y b h).2⟩⟩
  .exact(r.N _<|Ã<|by rwa[Gv.I]).trans aiC
  .exact(r.N _<|Ã<|by rwa[Gv.I]).trans aiD
 let⟨k1,k2,_⟩:=w7 z.w<|fH.fU _ _;refine aix qw τ Φ k1 k2 λo r=> ?_;let⟨_,_,f1,f4,E,f2,f3,f5⟩:=w7 o r;refine⟨f1,f4,E,f2,f3,λs h=> ?_⟩;walk_nrm;refine fP (n:=30) h.1 ?_;iterate 7 w_go fw
 refine Ë λ_ _=> ?_;refine f5 s _ h ⟨U,U,U,U,?_⟩;simp;exact Bc Z Z
end
def aiE:Array å:=#[⟨Â 2,ć 85<|Ù 0,85, "work.go:24",#[],Á⟩,
 ⟨Â 3,ć 25<|Ù 1,25, "work.go:24",#[],Á⟩,
 ⟨Â 4,Ě {callee:=ĕ (ĸ 49),args:=#[Ù 2,Ù 3],argTypes:=#[85,25]},0, "work.go:24",#[⟨0,Ü⟩,⟨1,Ü⟩],Á⟩]
def yV(a:Nat)(b c d e:Ï):é:=(baseD 63).at ⟨#[À<|Â ⟨a,0,Á⟩,b,c,d,e],[o0 64 #[À<|Â ⟨a,0,Á⟩] #[]]⟩ [Ñ YA [1]]
def vo(a b c d e:Ï):é:=(base 48).at ⟨#[a,b,c,d,e],[]⟩ [Ñ aiE [2]]
section
variable{Ψ:ß->Prop}{J:Jd}{l:fc}{a e f o p:Ï}
def aiF(c:ki l)(g:¬l.q)(k:gY l ⟨j9,0,Á⟩)(r:gY l ⟨j7,0,Á⟩)(s:gY l ⟨b,0,Á⟩)(t:l.w.cell? ⟨j9,0,Á⟩=Â (Ĉ (ù 48) #[] #[À<|Â ⟨j7,0,Á⟩,À<|Â ⟨b,0,Á⟩]))(u:l.w.cell? ⟨j7,0,Á⟩=Â (Æ O m n))(y:l.w.cell? ⟨b,0,Á⟩=Â (Æ (Â ⟨j,0,Á⟩) i i)) (B:∀d a e f o v x z jQ p,Bb j i O m n 0 d->fi Ä Ì J l (yR d [vo v x z jQ p,yV j6 a e f o,nO Ä])): fi Ä Ì J l (born Ä<|o0 63 #[À<|Â ⟨j6,0,Á⟩,À<|Â ⟨j9,0,Á⟩] #[]):=by
 apply fP (n:=30) c;have hF:=trivial;u_c (Yr Ů fQ U) fw hF;walk_nrmf Κ;iterate 3 w_go fw
 u_c (Yp U U (by k_ne) U U) fw hF
 walk_nrm;repeat w_go fw
 refine Ë λ_ _=> ?_;apply nP U U (by k_ne) c g k t (λw h=>by go_simp) (λw h=>by simp[go_sem,h]);walk_nrm;apply fP (n:=30) c;u_c (Yq U U (by k_ne) U U ů fQ U) fw hF;walk_nrmf Tryz.f48;w_go fw;refine Ë λ_ _=> ?_;apply nP U U (by k_ne) c g r u (λw h=>by go_simp) (λw h=>by simp[go_sem,h]);walk_nrm;apply nP U U (by k_ne) c g s y (λw h=>by go_simp) (λw h=>by simp[go_sem,h]);walk_nrm;apply fP (n:=30) c;u_call Ű fQ Ι fw hF;iterate 8 w_go fw
 refine Ë λ_ _=> ?_;exact B _ _ _ _ _ _ _ _ _ _ ⟨U,U,U,U,U⟩
def aiG(b:Bb j i O m n m d)(h:l.K ⟨k,0,Á⟩/\l.K ⟨k,1,Á⟩)(r:lX Ψ l k)(c:SW Ψ l k l.w)(s:l.d=0)(t:¬l.q)(u:gY l ⟨j6,0,Á⟩)(y:l.w.cell? ⟨j6,0,Á⟩=Â (À<|Â ⟨k,0,Á⟩)): fi Ä Ì (λl g=>yq Ä Ì k (Dk Ä) (ky l) g) l (yR d [vo v x z jQ p,yV j6 a e f o,nO Ä]):=by
 obtain⟨C,D,E,F,G,H,I,g,B,J,L,M,N,P,Q,S,T,V,W,X,Y,sF,sG,sH,rf,sy,rh,oZ,n5,pM,pN,pO,tR,sB,sC,ri,rj,rfl⟩:=Q5 d b.r;obtain rfl:g=Ê Î m:=by simpa using b.C
 obtain rfl:B=Ê Î m:=by simpa using b.I
 have hmm:¬(m:Int)<(m:Int):=Z
 simp only[yR];conv in Kq=>whnf
 apply fP (n:=40) c.1;have hF:=trivial;iterate 8 w_go fw
 u_leave0 Ű fw hF
 iterate 2 w_go fw
 u_leave0 ů fw hF
 refine Ë λ_ _=> ?_;exact YB h r c s t u y
end
def Gx:å:=⟨Â 14,ę<|Ù 1,25, "work.go:65",#[],Á⟩
def Gy:å:=⟨Â 15,ð 155 (Ù 4) 1,0, "work.go:65",#[],Á⟩
def Dy:å:=⟨Â 16,ć 3<|Ù 15,3, "work.go:65",#[⟨1,Ü⟩],Á⟩
def Gz:å:=⟨Â 17,ð 155 (Ù 4) 2,0, "work.go:65",#[],Á⟩
def Dz:å:=⟨Â 18,ć 86<|Ù 17,86, "work.go:65",#[⟨3,Ü⟩],Á⟩
def DC:å:=⟨Â 19,ĩ<|Ù 18,0, "work.go:65",#[⟨4,Ü⟩],Á⟩
def DF:å:=⟨Â 20,ð 105 (Ù 19) 1,0, "work.go:65",#[⟨5,Ü⟩],Á⟩
def DG:å:=⟨Â 21,ć 65<|Ù 20,65, "work.go:65",#[⟨6,Ü⟩],Á⟩
def GA:å:=⟨Â 22,ð 155 (Ù 4) 0,0, "work.go:65",#[],Á⟩
def DK:å:=⟨Â 23,ć 148<|Ù 22,148, "work.go:65",#[⟨8,Ü⟩],Á⟩
def Bd:å:=⟨Â 24,Ě {callee:=ĕ<|ĸ 67,args:=#[Ù 21,Ù 23],argTypes:=#[65,148]},9, "work.go:65",#[⟨7,Ü⟩,⟨9,Ü⟩],Á⟩
def Be:å:=⟨Â 25,ő 25 (Ù 14)<|Ù 16,0, "work.go:65",#[⟨0,Ü⟩,⟨2,Ü⟩,⟨0,Í⟩,⟨1,Í⟩,⟨2,Í⟩,⟨3,Í⟩,⟨4,Í⟩,⟨5,Í⟩,⟨6,Í⟩,⟨7,Í⟩,⟨8,Í⟩,⟨9,Í⟩,⟨10,Í⟩],Á⟩
def Bf:å:=⟨Á,š 9 (Ù 25)<|Ù 24,0, "work.go:65",#[⟨11,Ü⟩,⟨10,Ü⟩,⟨10,Ţ⟩,⟨0,Í⟩,⟨1,Í⟩,⟨2,Í⟩,⟨3,Í⟩,⟨4,Í⟩,⟨5,Í⟩,⟨6,Í⟩,⟨7,Í⟩,⟨8,Í⟩,⟨9,Í⟩,⟨10,Í⟩],Á⟩
def vp:Array å:=#[Gx,Gy,Dy,Gz,Dz,DC,DF,DG,GA,DK,Bd,Be,Bf]
def qy(tb a b N c:Nat)(d e:Ï)(x:ByteArray):Nat->Ï
 |0=>Æ (Â ⟨b,0,Á⟩) N N
 |1=>À<|Â ⟨tb,1,Á⟩
 |2=>Ê Î c
 |3=>À<|Â ⟨tb,2,Á⟩
 |4=>À<|Â ⟨a,0,Á⟩
 |5=>À<|Â ⟨a,0,Á⟩
 |6=>À<|Â ⟨a,2,Á⟩
 |7=>e
 |8=>À<|Â ⟨tb,0,Á⟩
 |9=>d
 |10=>à x
 |11=>À<|Â ⟨b,c,Á⟩
 |_=>Å
structure DL(il:fc)(an pl:Nat)(Q:ByteArray->Prop)(listed:Array Bool)(x:ByteArray)(l:fc):Prop where
 r:iD (λa=>a=⟨an,pl,Á⟩) il l
 vl:listed.getD 10 Ì=Ò->Q x
 I:listed.getD 12 Ì=Ò->l.w.cell? ⟨an,pl,Á⟩=Â (à x)
def DL.C{b l:fc}{Q:ByteArray->Prop}{listed:Array Bool}{x:ByteArray}(h:DL b n j Q listed x l)(e:i≠10)(f:i≠12)(c:b.r ⟨n,j,Á⟩)(d:ß)(r:fH l l.w d):DL b n j Q (listed.setIfInBounds i Ò) x {l with w:=d}:=by
 refine⟨h.r.N (λa q=>by rwa[q]) r,λq=> ?_,λq=> ?_⟩
 .rw[ç Ì e]at q;exact h.vl q
 .rw[ç Ì f]at q;exact(r.N _<|by rw[h.r.C];exact Ã c).trans<|h.I q
section
variable{J:Jd}{il:fc}{an pl:Nat}{Q:ByteArray->Prop}
def aiH(W:gy il)(hq:¬il.q)(ht:d.size=26)(A9:d[1]?=Â (Æ (Â ⟨an,0,Á⟩) i i))(GB:d[4]?=Â (À<|Â ⟨j,0,Á⟩))(hO:il.O j) (J:il.w.cell? ⟨j,0,Á⟩=Â v) (K:il.w.cell? ⟨j,1,Á⟩=Â (Ê Î pl)) (M:il.w.cell? ⟨j,2,Á⟩=Â (À<|Â ⟨n,0,Á⟩)) (X:il.N ⟨n,2,Á⟩) (pH:il.w.cell? ⟨n,2,Á⟩=Â z) (B:il.r ⟨an,pl,Á⟩) (e2:(il.w.cell? ⟨an,pl,Á⟩).isSome=Ò) (z2:il.w.frozen? ⟨an,pl,Á⟩=Ì) (qW:pl<i) (Q8:∀l,iD (λa=>a=⟨an,pl,Á⟩) il l->∀t lL,fi Ä Ì (λP S=>P.d=l.d/\∃T,S=G (t.finish<|à T) lL/\Q T) (lY l)<|G (Ă Ä 67 #[z,v] Ğ)<|t::lL) (md:ý) (listed:Array Bool) (a:ŏ) (l:fc) (b:Nat) (rest:List Nat) (hI:II vp d (qy j n an i pl v z) (DL il an pl Q) listed a l) (p:b∈Û md vp listed): fi Ä Ì (λP S=>∃I,S=G ((base 51).at I<|Ñ vp rest::L) qX/\II vp d (qy j n an i pl v z) (DL il an pl Q) (listed.setIfInBounds b Ò) I P) l (G ((base 51).at a<|Ñ vp (b::rest)::L) qX):=by
 let⟨x,m,s⟩:=hI;have E:uf vp d.size=Ò:=by rw[ht];decide
 have YF:=QO p;have gN:=Dm p;have F:=s.r.fx;have H:¬l.q:=by rwa[s.r.q]
 have V:∀y:â,y=⟨an,pl,Á⟩->il.r y:=λy ha=>by rwa[ha]
 have nn:a.tmps[1]?=Â (Æ (Â ⟨an,0,Á⟩) i i):=(m.C A).trans A9;have Y:a.tmps[4]?=Â (À<|Â ⟨j,0,Á⟩):=(m.C A).trans GB;have t:∀c g,il.w.cell? ⟨j,c,Á⟩=Â g->gY l ⟨j,c,Á⟩/\l.w.cell? ⟨j,c,Á⟩=Â g:=λc g h=>⟨Ã<|Ã<|s.r.O j hO,by rwa[gK<|s.r.r j<|Ã hO]⟩;have QU:¬((⟨n,2,Á⟩:â)=⟨an,pl,Á⟩):=λq=>W.Y _ B<|q▸X;have N:gY l ⟨n,2,Á⟩/\l.w.cell? ⟨n,2,Á⟩=Â z:=⟨Ç (Ç<|by rwa[s.r.c]),by rwa[s.r.e _ (Ç X) QU]⟩;have QV:(pl:Int)<(i:Int):=Z
 have jR:vp.size=13:=A
 rw[jR]at gN;match b,gN with
 |0,_=>
  refine ik (o:=Gx) E m U U p (by k_ne) F H (λk r=> ?_) (λk r e u=> ?_)<|s.C A A B
  .simp only[qy,Gx];go_simp
  .simp[go_sem,Gx,nn]at u
 |1,_=>
  refine ik (o:=Gy) E m U U p (by k_ne) F H (λk r=> ?_) (λk r e u=> ?_)<|s.C A A B
  .simp only[qy,Gy];go_simp
  .simp[go_sem,Gy,Y]at u
 |2,_=>
  have QX:a.tmps[15]?=Â (À<|Â ⟨j,1,Á⟩):=m.r 1 Gy 15 U (ig (o:=Dy) p U U) U;refine ik (o:=Dy) E m U U p (by k_ne) F H (λk r=> ?_) (λk r e u=> ?_)<|s.C A A B
  .have D:k.cell? ⟨j,1,Á⟩=Â (Ê Î pl):=((t 1 _ K).1.r r).trans (t 1 _ K).2;simp only[qy,Dy];go_simp
  .have D:k.cell? ⟨j,1,Á⟩=Â (Ê Î pl):=((t 1 _ K).1.r r).trans (t 1 _ K).2;have I:e=⟨û ⟨j,1,Á⟩,Ì,Ì⟩:=by simp[go_sem,Dy,D,QX]at u;exact u
   subst I;exact(t 1 _ K).1.C
 |3,_=>
  refine ik (o:=Gz) E m U U p (by k_ne) F H (λk r=> ?_) (λk r e u=> ?_)<|s.C A A B
  .simp only[qy,Gz];go_simp
  .simp[go_sem,Gz,Y]at u
 |4,_=>
  have QY:a.tmps[17]?=Â (À<|Â ⟨j,2,Á⟩):=m.r 3 Gz 17 U (ig (o:=Dz) p U U) U;refine ik (o:=Dz) E m U U p (by k_ne) F H (λk r=> ?_) (λk r e u=> ?_)<|s.C A A B
  .have D:k.cell? ⟨j,2,Á⟩=Â (À<|Â ⟨n,0,Á⟩):=((t 2 _ M).1.r r).trans (t 2 _ M).2;simp only[qy,Dz];go_simp
  .have D:k.cell? ⟨j,2,Á⟩=Â (À<|Â ⟨n,0,Á⟩):=((t 2 _ M).1.r r).trans (t 2 _ M).2;have I:e=⟨û ⟨j,2,Á⟩,Ì,Ì⟩:=by simp[go_sem,Dz,D,QY]at u;exact u
   subst I;exact(t 2 _ M).1.C
 |5,_=>
  have Q9:a.tmps[18]?=Â (À<|Â ⟨n,0,Á⟩):=m.r 4 Dz 18 U (ig (o:=DC) p U U) U;refine ik (o:=DC) E m U U p (by k_ne) F H (λk r=> ?_) (λk r e u=> ?_)<|s.C A A B
  .simp only[qy,DC];go_simp
  .simp[go_sem,DC,Q9]at u
 |6,_=>
  have h19:a.tmps[19]?=Â (À<|Â ⟨n,0,Á⟩):=m.r 5 DC 19 U (ig (o:=DF) p U U) U;refine ik (o:=DF) E m U U p (by k_ne) F H (λk r=> ?_) (λk r e u=> ?_)<|s.C A A B
  .simp only[qy,DF];go_simp
  .simp[go_sem,DF,h19]at u
 |7,_=>
  have Kr:a.tmps[20]?=Â (À<|Â ⟨n,2,Á⟩):=m.r 6 DF 20 U (ig (o:=DG) p U U) U;refine ik (o:=DG) E m U U p (by k_ne) F H (λk r=> ?_) (λk r e u=> ?_)<|s.C A A B
  .have D:k.cell? ⟨n,2,Á⟩=Â (z):=(N.1.r r).trans N.2;simp only[qy,DG];go_simp
  .have D:k.cell? ⟨n,2,Á⟩=Â (z):=(N.1.r r).trans N.2;have I:e=⟨û ⟨n,2,Á⟩,Ì,Ì⟩:=by simp[go_sem,DG,D,Kr]at u;exact u
   subst I;exact N.1.C
 |8,_=>
  refine ik (o:=GA) E m U U p (by k_ne) F H (λk r=> ?_) (λk r e u=> ?_)<|s.C A A B
  .simp only[qy,GA];go_simp
  .simp[go_sem,GA,Y]at u
 |9,_=>
  have Gt:a.tmps[22]?=Â (À<|Â ⟨j,0,Á⟩):=m.r 8 GA 22 U (ig (o:=DK) p U U) U;refine ik (o:=DK) E m U U p (by k_ne) F H (λk r=> ?_) (λk r e u=> ?_)<|s.C A A B
  .have D:k.cell? ⟨j,0,Á⟩=Â (v):=((t 0 _ J).1.r r).trans (t 0 _ J).2;simp only[qy,DK];go_simp
  .have D:k.cell? ⟨j,0,Á⟩=Â (v):=((t 0 _ J).1.r r).trans (t 0 _ J).2;have I:e=⟨û ⟨j,0,Á⟩,Ì,Ì⟩:=by simp[go_sem,DK,D,Gt]at u;exact u
   subst I;exact(t 0 _ J).1.C
 |10,_=>
  have Ra:a.tmps[21]?=Â (z):=m.r 7 DG 21 U (ig (o:=Bd) p U U) U;have h23:a.tmps[23]?=Â (v):=m.r 9 DK 23 U (ig (o:=Bd) p U U) U;refine Yz (o:=Bd) E m U U p (by k_ne) F (f:=67) (args:=#[z,v]) (λw=>by simp only[Bd];go_simp) (λw=>ł (o:=Bd) U Tryz.func67 U U #[]) λk r=> ?_;have I:=s.r.N V r;refine((Q8 _ I _ _).lY<|I.G W).fN ?_;rintro P S ⟨y,⟨hy0,T,rfl,hQ⟩,rfl,hA,YC,aiu,aiv⟩;refine⟨T,U,⟨I.QP V hA hy0,λ_=>hQ,λq=> ?_⟩,λc hj=> ?_⟩
  .rw[ç Ì A]at q;exact absurd (m.I (o:=Bf) U q U)<|wT YF
  .match c,hj with
   |10,hj=>exact absurd hj<|wT YF
   |0,_|1,_|2,_|3,_|4,_|5,_|6,_|7,_|8,_|9,_|11,_|12,_|n+13,_=>rfl
 |11,_=>
  have I:a.tmps[14]?=Â (Æ (Â ⟨an,0,Á⟩) i i):=m.r 0 Gx 14 U (ig (o:=Be) p U U) U;have h16:a.tmps[16]?=Â (Ê Î pl):=m.r 2 Dy 16 U (ig (o:=Be) p U U) U;refine ik (o:=Be) E m U U p (by k_ne) F H (λk r=> ?_) (λk r e u=> ?_)<|s.C A A B
  .simp only[qy,Be];go_simp
  .simp[go_sem,Be,qW,QV,I,h16]at u
 |12,_=>
  have h25:a.tmps[25]?=Â (À<|Â ⟨an,pl,Á⟩):=m.r 11 Be 25 U (ig (o:=Bf) p U U) U;have Km:a.tmps[24]?=Â (à x):=m.r 10 Bd 24 U (ig (o:=Bf) p U U) U;have I:(l.w.cell? ⟨an,pl,Á⟩).isSome=Ò:=s.r.g _ U e2;have Ba:l.w.frozen? ⟨an,pl,Á⟩=Ì:=(s.r.S _<|Ã B).trans z2;have lD:pR l ⟨an,pl,Á⟩:=Ç (by rwa[s.r.I]);refine QR (o:=Bf) (y:=⟨an,pl,Á⟩) (v:=à x) E m U U U p (by k_ne) F H U lD I Ba (λw D e=> ?_) (λw D e=> ?_) λk r=> ?_
  .let⟨u,hu⟩:=Ô.1 D;simp only[Bf];go_simp
  .let⟨u,hu⟩:=Ô.1 D;simp[go_sem,Bf,h25,Km,á _ _ _ _ _ _ (show Ø (à x)=Ò from rfl),hu,e]
  .have hA:=s.r.qh W V (x:=⟨an,pl,Á⟩) (v:=à x) U U I;refine⟨hA.N V ⟨r.r,r.I,r.N,r.Y,r.S⟩,λq=> ?_,λq=> ?_⟩
   .rw[ç Ì A]at q;exact s.vl q
   .exact(r.N _<|by rw[s.r.C];exact Ã B).trans<|As (Ô.1 I).choose_spec
 |n+13,h=>exact absurd h Z
end
def yW:Array å:=#[⟨Â 6,.recv 165 (Ù 5) Ò,0, "work.go:63",#[],Á⟩,⟨Â 7,Ő (Ù 6) 1,4, "work.go:63",#[⟨0,Ü⟩],Á⟩]
def YG:Array å:=#[⟨Â 8,Ő (Ù 6) 0,155, "work.go:63",#[],Á⟩,⟨Â 4,.alloc 155,0, "work.go:63",#[],Á⟩,⟨Á,š 155 (Ù 4)<|Ù 8,0, "work.go:63",#[⟨1,Ü⟩,⟨0,Ü⟩,⟨0,Í⟩,⟨1,Í⟩],Á⟩]
def Rb:Array å:=#[⟨Â 9,ð 155 (Ù 4) 2,0, "work.go:64",#[],Á⟩,⟨Â 10,ć 86<|Ù 9,86, "work.go:64",#[⟨0,Ü⟩],Á⟩,⟨Â 11,ĩ<|Ù 10,0, "work.go:64",#[⟨1,Ü⟩],Á⟩,⟨Â 12,ð 105 (Ù 11) 0,0, "work.go:64",#[⟨2,Ü⟩],Á⟩,⟨Â 13,Ě {callee:=ĕ<|ĸ 53,args:=#[Ù 12],argTypes:=#[97]},0, "work.go:64",#[⟨3,Ü⟩],Á⟩]
def DN:Ę:=((Ť (Ù 7) ť<|Ŧ 0).seq<|İ 1<|(ä 2 YG Ì).seq<|(ä 3 Rb Ì).seq<|ä 4 vp Ò)
def Bg:Ę:=(ä 1 yW Ì).seq DN
def aiI:Array å:=#[⟨Â 2,ć 101<|Ù 0,101, "work.go:30",#[],Á⟩,
 ⟨Â 3,ć 25<|Ù 1,25, "work.go:30",#[],Á⟩,
 ⟨Â 4,Ě {callee:=ĕ (ĸ 51),args:=#[Ù 2,Ù 3],argTypes:=#[165,25]},0, "work.go:30",#[⟨0,Ü⟩,⟨1,Ü⟩],Á⟩]
def GD(a b c d e:Ï):é:=(base 50).at ⟨#[a,b,c,d,e],[]⟩ [Ñ aiI [2]]
def YH(t:Array Ï)(a:List é):Ý:=G ((base 51).at ⟨t,[]⟩ [ö Bg,ą Bg,ô 0]) a
def yY(t:Array Ï)(a:List é):Ý:=G ((base 51).at ⟨t,[]⟩ [Ñ yW [0,1],ö DN,ą Bg,ô 0]) a
def Ks(t:Array Ï)(a:List é):Ý:=G ((base 51).at ⟨t,[]⟩ [Ñ Rb [],ö<|ä 4 vp Ò,ô 1,ą Bg,ô 0]) a
def Rc(t:Array Ï)(a:List é):Ý:=G ((base 51).at ⟨t,[]⟩ [Ñ yW [1],ö DN,ą Bg,ô 0]) a
def YI(t:Array Ï)(v:Ï)(a:List é):({yY t a with frame:=(yY t a).frame.finish v}:Ý)=Rc (t.setIfInBounds 6 v) a:=by have:(yY t a).frame.finish v=(base 51).at (Ο ⟨t,[]⟩ (Â 6) v) [Ñ yW [1],ö DN,ą Bg,ô 0]:=Ģ _ _ _ _ _ _ _;rw[this];rfl
def zT:Ï:=Đ #[À Á,Ê Î 0,À Á,À Á]
structure QT(an N ch:Nat)(t:Array Ï):Prop where
 r:t.size=26
 C:t[1]?=Â (Æ (Â ⟨an,0,Á⟩) N N)
 I:t[5]?=Â (è<|Â ch)
def aiJ(t:Array Ï)(h:t.size=26):∃a b c d e f g i j k l m n o p q r s u v w x y z B C:Ï,t=#[a,b,c,d,e,f,g,i,j,k,l,m,n,o,p,q,r,s,u,v,w,x,y,z,B,C]:=by obtain⟨_,rfl⟩:=rn t h;exact⟨_,_,_,_,_,_,_,_,_,_,_,_,_,_,_,_,_,_,_,_,_,_,_,_,_,_,U⟩
section
variable{Ψ:ß->Prop}{J u:Jd}{l:fc}{t:Array Ï}{ch an N:Nat}{a:Option â}{Q:ByteArray->Prop}{o p r s c f:Ï}{τ:fc->fc}
def YJ(a:ki l)(b:fi Ä Ì J l (yY t qX)):fi Ä Ì J l (YH t qX):=by apply fP (n:=5) a;have hF:=trivial;simp only[YH,Bg];w_go fw;u_c ĺ fw hF;exact Ë λ_ _=>b
def aiK(a:ki l)(d:¬l.q)(e:gY l ⟨k,0,Á⟩)(g:gY l ⟨b,0,Á⟩)(i:gY l ⟨n,0,Á⟩)(j:l.w.cell? ⟨k,0,Á⟩=Â (Ĉ (ù 50) #[] #[À<|Â ⟨b,0,Á⟩,À<|Â ⟨n,0,Á⟩]))(u:l.w.cell? ⟨b,0,Á⟩=Â (è<|Â ch))(v:l.w.cell? ⟨n,0,Á⟩=Â (Æ (Â ⟨an,0,Á⟩) N N)) (y:∀t o p r s x z jQ c f,QT an N ch t->fi Ä Ì J l (yY t [GD x z jQ c f,yV m o p r s,nO Ä])): fi Ä Ì J l (born Ä<|o0 63 #[À<|Â ⟨m,0,Á⟩,À<|Â ⟨k,0,Á⟩] #[]):=by
 apply fP (n:=30) a;have hF:=trivial;u_c (Yr Ů fQ U) fw hF;walk_nrmf Κ;iterate 3 w_go fw
 u_c (Yp U U (by k_ne) U U) fw hF
 walk_nrm;repeat w_go fw
 refine Ë λ_ _=> ?_;apply nP U U (by k_ne) a d e j (λw h=>by go_simp) (λw h=>by simp[go_sem,h]);walk_nrm;apply fP (n:=30) a;u_c (Yq U U (by k_ne) U U ű fQ U) fw hF;walk_nrmf Tryz.f50;w_go fw;refine Ë λ_ _=> ?_;apply nP U U (by k_ne) a d g u (λw h=>by go_simp) (λw h=>by simp[go_sem,h]);walk_nrm;apply nP U U (by k_ne) a d i v (λw h=>by go_simp) (λw h=>by simp[go_sem,h]);walk_nrm;apply fP (n:=30) a;u_call Ų fQ Tryz.f51 fw hF;iterate 6 w_go fw
 refine Ë λ_ _=> ?_;exact YJ a<|y _ _ _ _ _ _ _ _ _ _ ⟨U,U,U⟩
def aiL{Y:Ï}(G:gy l)(M:¬l.q)(P:l.d=0)(hT:QT an N ch t)(hB:60<=i)(aiM:Y=Đ #[À a,Ê Î j7,À<|Â ⟨j9,0,Á⟩,À O])(Q:l.K ⟨j9,0,Á⟩/\l.K ⟨j9,1,Á⟩)(GF:nk j9 l.w) (Re:l.K ⟨j,0,Á⟩/\l.K ⟨j,1,Á⟩) (hsa:nk j l.w) (hs:gY l ⟨m,0,Á⟩) (hc:l.w.cell? ⟨m,0,Á⟩=Â (À<|Â ⟨j,0,Á⟩)) (aiN:∀H k t',iD ff l H->H.d=0->H.O k->H.w.cell? ⟨k,0,Á⟩=Â (À a)->H.w.cell? ⟨k,1,Á⟩=Â (Ê Î j7)->H.w.cell? ⟨k,2,Á⟩=Â (À<|Â ⟨j9,0,Á⟩)->QT an N ch t'->t'[4]?=Â (À<|Â ⟨k,0,Á⟩)->u H (Ks t' [GD x z jQ c f,yV m o p r s,nO Ä])): wD Ä Ì ch zT (λb=>match b with
  |some v=>λl g=>v=Y->qp Ä Ì i j9 u .iX l g
  |none=>λl g=>yq Ä Ì j (Dk Ä) (ky l) g) l (yY t [GD x z jQ c f,yV m o p r s,nO Ä]):=by
 obtain⟨y0,y1,y2,y3,y4,y5,y6,y7,y8,y9,wV,yT,wW,rp,sE,qx,vm,vn,ui,uj,uk,sF,sG,sH,rf,sy,rfl⟩:=aiJ t hT.r;obtain rfl:y1=Æ (Â ⟨an,0,Á⟩) N N:=by simpa using hT.C
 obtain rfl:y5=è (Â ch):=by simpa using hT.I
 have hF:=trivial;refine⟨U,U,λD=> ?_,λb=> ?_⟩
 .refine(Ż (cases:=#[rcase ch zT]) (blocking:=Ò) (shape:=.recv Ò) (w':=D) rfl rfl (by k_ne) ?_).trans ?_
  .simp[go_sem,yW,ĉ,rcase,zT]
  .simp[listed,go_sem,yW,ĉ,Ī];rfl
 cases b with
 |none=>
  rw[YI];simp only[Rc,DN,yW,Option.getD_none,ı,ē,Ĳ,ĳ];apply fP (n:=30) G.r;iterate 6 w_go fw
  u_leave0 Ų fw hF
  iterate 2 w_go fw
  u_leave0 ű fw hF
  refine Ë λ_ _=> ?_;exact YB (Ψ:=λ_=>True) Re ⟨Ã Re.1,Ã Re.2,λ_ _ _ _ _ _ _ _=>trivial⟩ ⟨G.r,hsa,trivial⟩ P M hs hc
 |some v=>
  by_cases hv:v=Y
  .subst hv;subst aiM;apply fi.fN λl g h _=>h;rw[YI];simp only[Rc,DN,yW,Ń,Option.isSome_some,ē,Ĳ,ĳ];apply fP (n:=30) G.r;iterate 7 w_go fw
   u_c ĺ fw hF
   simp only[YG,Ļ,ń,ŋ,ś,č,ã,List.range.loop];w_go fw;refine Ë λ_ _=> ?_;have ru:∀y:â,False->l.r y:=λy ha=>ha.elim;refine Gu (ob:=É #[À Á,Ê Î 0,À Á,À Á] 155) U U (by k_ne) G.r M (λw=>by go_simp) (λw=>by simp[go_sem]) λD kB=> ?_;walk_nrm;have S:iD ff l (gI l D<|É #[À Á,Ê Î 0,À Á,À Á] 155):=Ko G ru kB;have nn:(gI l D<|É #[À Á,Ê Î 0,À Á,À Á] 155).w.heap[D.heap.size]?=Â (É #[À Á,Ê Î 0,À Á,À Á] 155):=mO;have sI:=kB.r;have I:(gI l D<|É #[À Á,Ê Î 0,À Á,À Á] 155).O D.heap.size:=Ç U;generalize gI l D (É #[À Á,Ê Î 0,À Á,À Á] 155)=l₁ at S nn I|-;generalize D.heap.size=k at nn I sI|-;refine vj U U (by k_ne) λC n7=> ?_;have J:=(n7.I k<|Ã I).trans nn;have DR:C.cell? ⟨k,0,Á⟩=Â (À Á):=by simp[Ö,J]
   have yL:C.cell? ⟨k,1,Á⟩=Â (Ê Î 0):=by simp[Ö,J]
   have qz:C.cell? ⟨k,2,Á⟩=Â (À Á):=by simp[Ö,J]
   have uo:C.cell? ⟨k,3,Á⟩=Â (À Á):=by simp[Ö,J]
   have hz:∀g,C.frozen? ⟨k,g,Á⟩=Ì:=λg=>by simp[î,J]
   go_simp;refine⟨{l₁ with w:=iT C k (À a) (Ê Î j7) (À<|Â ⟨j9,0,Á⟩) (À O)},Kp (mA S.fx n7) (by rwa[S.q]) I wU (λg F=>yP F) ⟨U,U,U⟩ λe L=> ?_,?_⟩
   .have E:=đ L;have B:∀g,pR l₁ ⟨k,g,Á⟩:=λg=>Ã I;simp[go_sem,á _ _ _ _ _ _ (show Ø (À a)=Ò from rfl),á _ _ _ _ _ _ (show Ø (À<|Â ⟨j9,0,Á⟩)=Ò from rfl),á _ _ _ _ _ _ (show Ø (À O)=Ò from rfl),DR,yL,qz,uo,hz]at E;rcases E with rfl|rfl|rfl|rfl
    .exact(B _).r
    .exact(B _).r
    .exact(B _).r
    .exact(B _).r
   obtain⟨T,V,L,c3⟩:=QZ DR yL qz uo;have E:=Q0 (w':=iT C k (À a) (Ê Î j7) (À<|Â ⟨j9,0,Á⟩)<|À O) G ru S n7 sI wU λg F=>yP F;have W:({l₁ with w:=iT C k (À a) (Ê Î j7) (À<|Â ⟨j9,0,Á⟩) (À O)}:fc).O k:=I;replace T:({l₁ with w:=iT C k (À a) (Ê Î j7) (À<|Â ⟨j9,0,Á⟩) (À O)}:fc).w.cell? ⟨k,0,Á⟩=_:=T;replace V:({l₁ with w:=iT C k (À a) (Ê Î j7) (À<|Â ⟨j9,0,Á⟩) (À O)}:fc).w.cell? ⟨k,1,Á⟩=_:=V;replace L:({l₁ with w:=iT C k (À a) (Ê Î j7) (À<|Â ⟨j9,0,Á⟩) (À O)}:fc).w.cell? ⟨k,2,Á⟩=_:=L;generalize({l₁ with w:=iT C k (À a) (Ê Î j7) (À<|Â ⟨j9,0,Á⟩) (À O)}:fc)=l₂ at T V L E W|-;have X:=E.G G;have pT:¬l₂.q:=by rwa[E.q]
   apply fP (n:=9) X.r;iterate 2 w_go fw
   u_c ĺ fw hF
   simp only[Rb,Ļ,ń,ŋ,ś,č,ã,List.range.loop];w_go fw;refine Ë λ_ _=> ?_;apply nP U U (by k_ne) X.r pT (Ã<|Ã W) L (λw h=>by go_simp) (λw h=>by simp[go_sem,h]);walk_nrm;apply fP (n:=9) X.r;iterate 2 w_go fw
   u_call qw.f_wait (nm_wait Lk) waitFn fw hF
   refine Ë λ_ _=> ?_;have k2:lX (λw=>fH l₂ l₂.w w) l₂ j9:=⟨Ã (by rw[E.K];exact Q.1),Ã (by rw[E.K];exact Q.2),λw D h1 h2 h3 h4 h5 h=>h.fg ⟨h1,h2,h3,h4,h5⟩⟩;have s2:SW (λw=>fH l₂ l₂.w w) l₂ j9 l₂.w:=⟨X.r,⟨E.b _ Q.1 GF.1,E.b _ Q.2 GF.2⟩,fH.fU _ _⟩;refine Yn qw hB k2 s2 (E.d.trans P) λD YK=> ?_;walk_nrm;refine .fB λA1 F=> ?_;have B:=E.N ru<|YK.2.2.fg ⟨F.r,F.I,F.N,F.Y,F.S⟩;have hdd:=E.d.trans P;have Bh:iD ff l ({l₂ with d:=0,w:=A1}:fc):=⟨B.O,B.h,B.Y,B.I,B.c,B.K,B.q,P.symm,B.fx,B.f,B.r,B.e,B.S,B.b,B.g⟩;have rr:=YK.2.2.fg ⟨F.r,F.I,F.N,F.Y,F.S⟩;have cc:∀g,A1.cell? ⟨k,g,Á⟩=l₂.w.cell? ⟨k,g,Á⟩:=λg=>gK<|rr.I k<|Ã W;exact aiN {l₂ with d:=0,w:=A1} k _ Bh U W ((cc 0).trans T) ((cc 1).trans V) ((cc 2).trans L) ⟨U,U,U⟩ U
  .exact .fB λ_ _ e=>absurd e hv
end
section
variable{J:Jd}{l:fc}{t:Array Ï}{Q:ByteArray->Prop}
def yZ(f:gy l)(D:¬l.q)(g:QT n i j t)(M:t[4]?=Â (À<|Â ⟨m,0,Á⟩))(N:l.O m) (P:l.w.cell? ⟨m,0,Á⟩=Â (À O)) (S:l.w.cell? ⟨m,1,Á⟩=Â (Ê Î k)) (T:l.w.cell? ⟨m,2,Á⟩=Â (À<|Â ⟨b,0,Á⟩)) (V:l.N ⟨b,2,Á⟩) (W:l.w.cell? ⟨b,2,Á⟩=Â v) (p:l.r ⟨n,k,Á⟩) (X:(l.w.cell? ⟨n,k,Á⟩).isSome=Ò) (Y:l.w.frozen? ⟨n,k,Á⟩=Ì) (qW:k<i) (Q8:∀e,iD (λa=>a=⟨n,k,Á⟩) l e->∀E F,fi Ä Ì (λl'' g'=>l''.d=e.d/\∃H,g'=G (E.finish<|à H) F/\Q H) (lY e)<|G (Ă Ä 67 #[v,À O] Ğ)<|E::F) (hJ:∀e x I,iD (λa=>a=⟨n,k,Á⟩) l e->Q x->e.w.cell? ⟨n,k,Á⟩=Â (à x)->QT n i j I->J e (yY I qX)): fi Ä Ì J l (Ks t qX):=by
 have K:∀y:â,y=⟨n,k,Á⟩->l.r y:=λy ha=>by rwa[ha]
 have hF:=trivial;apply fP (n:=3) f.r;simp only[Ks];w_go fw;refine Ë λ_ _=> ?_;refine QL (II vp t (qy m b n i k (À O) v)<|DL l n k Q) f.r D (λo h=> ?_) (λs u a l c o z r=>aiH f D g.r g.C M N P S T V W p X Y qW Q8 s u a l c o z r) λs u a kt z B C=> ?_
 .refine⟨ByteArray.empty,mM.G _ _ _,(iD.fU f.r).N K ⟨h.r,h.I,h.N,h.Y,h.S⟩,λq=> ?_,λq=> ?_⟩<;>exact absurd q A
 let⟨x,o,h⟩:=z;have L:∀c∈ã 13,u.getD c Ì=Ò:=by
  cases s
  .exact pS C B (ã 13) [] fQ λc r=>by cases r
  .exact pS C B (ã 13) [] fQ λc r=>by cases r
  .exact pS C B (ã 13) [] fQ λc r=>by cases r
 have s:=h.r.G f;let⟨B,C⟩:=a;obtain rfl:C=[]:=o.M;apply fP (n:=9) s.r;iterate 3 w_go fw
 refine Ë λ_ _=> ?_;refine YJ s.r<|.fB λw₁ r=>(hJ {kt with w:=w₁} x B (h.r.N K r) (h.vl<|L 10 A) ((r.N _<|Ã<|by rwa[h.r.I]).trans<|h.I<|L 12 A) ⟨o.S.trans g.r,((o.C A).trans g.C),((o.C A).trans g.I)⟩)
end
structure gi(X:Nat->Prop)(l l':fc):Prop where
 O:∀j,l.O j->l'.O j
 c:∀j,l'.O j->l.O j\/l.w.heap.size<=j
 S:l'.I=l.I
 Y:l'.r=l.r
 b:l'.N=l.N
 K:l'.K=l.K
 q:l'.q=l.q
 d:l'.d=l.d
 fx:ki l'
 I:l.w.heap.size<=l'.w.heap.size
 r:∀j,l.M j->¬X j->l'.w.heap[j]?=l.w.heap[j]?
 f:∀a,l.C a->l'.w.cell? a=l.w.cell? a
 g:∀a,l.C a->l'.w.frozen? a=l.w.frozen? a
 e:∀a,l.K a->(l.w.cell? a).isSome=Ò->(l'.w.cell? a).isSome=Ò
section
variable{l l' l'':fc}
theorem gi.fU(h:ki l):gi X l l:=⟨λ_ h=>h,λ_ h=>Ã h,U,U,U,U,U,U,h,Ú _,λ_ _ _=>rfl,λ_ _=>rfl,λ_ _=>rfl,λ_ _ h=>h⟩
def gi.C(h:gi X l l'):l'.C=l.C:=by unfold fc.C;rw[h.Y,h.b]
def gi.M(h:gi X l l')(a:l.M b):l'.M b:=a.imp (h.O b)<|by rw[h.S];exact id
def gi.fg(h:gi X l l')(k:gi X l' l''):gi X l l'':=by have e:=h.C;exact⟨λj c=>k.O j<|h.O j c,λj c=>(k.c j c).elim (h.c j) λq=>Ç<|Õ h.I q,k.S.trans h.S,k.Y.trans h.Y,k.b.trans h.b,k.K.trans h.K,k.q.trans h.q,k.d.trans h.d,k.fx,Õ h.I k.I,λj c f=>(k.r j (h.M c) f).trans<|h.r j c f,λa b=>(k.f a<|by rwa[e]).trans<|h.f a b,λa b=>(k.g a<|by rwa[e]).trans<|h.g a b,λa b q=>k.e a (by rwa[h.K])<|h.e a b q⟩
def gi.G(h:gi X l l'){w₁:ß}(r:fH l' l'.w w₁):gi X l {l' with w:=w₁}:= h.fg ⟨λ_ q=>q,λ_ q=>Ã q,U,U,U,U,U,U,mA h.fx r,r.r,λj a _=>r.I j a,r.N,r.Y,r.S⟩
def gi.fN{a:Nat->Prop}(h:gi X l l')(c:∀j,l.M j->X j->a j):gi a l l':=⟨h.O,h.c,h.S,h.Y,h.b,h.K,h.q,h.d,h.fx,h.I,λj b e=>h.r j b λq=>e<|c j b q,h.f,h.g,h.e⟩
def gi.N(h:gi X l l')(s:gy l):gy l' where
 c b hb:=by
  rw[h.S];rcases h.c b hb with q|q
  .exact s.c b q
  .exact λz=>by have:=s.fx b<|Ç z;omega
 Y a ha:=by rw[h.b];exact s.Y a<|by rwa[<-h.Y]
 N a ha hb:=by
  rw[h.C]at ha;rcases hb with q|q
  .rcases h.c _ q with z|z
   .exact s.N a ha<|Ã z
   .have:=s.I a ha;omega
  .rw[h.S]at q;exact s.N a ha<|Ç q
 fx b hb:=by
  rcases hb with q|q
  .exact h.fx b q
  .rw[h.S]at q;exact È (s.fx b<|Ç q) h.I
 I a ha:=by rw[h.C]at ha;exact È (s.I a ha) h.I
 S a ha:=by
  rw[h.K]at ha;let⟨c,d,e⟩:=s.S a ha;refine⟨λq=> ?_,È d h.I,by rwa[h.Y]⟩;rcases q with q|q
  .rcases h.c _ q with z|z
   .exact c<|Ã z
   .omega
  .rw[h.S]at q;exact c<|Ç q
def mP{ob:Ÿ}(s:gy l){w₁:ß}(r:fH l l.w w₁):gi X l (gI l w₁ ob):=by have h:=Ko (E:=ff) (ob:=ob) s (λ_ q=>q.elim) r;exact⟨h.O,h.h,h.Y,h.I,h.c,h.K,h.q,h.d,h.fx,h.f,λj b _=>h.r j b,λa c=>h.e a c id,h.S,h.b⟩
def Kt{w':ß}{p:Nat}(s:gy l)(r:fH l l.w u)(c:l.O p)(g:X p)(d:w'.heap.size=u.heap.size)(b:∀j,j≠p->w'.heap[j]?=u.heap[j]?):gi X l {l with w:=w'}:=by
 have f:∀a:â,l.C a->a.block≠p:=λa h e=>s.N a h<|Ã<|e▸c;refine⟨λ_ q=>q,λ_ q=>Ã q,U,U,U,U,U,U,λj q=> ?_,?_,λj q n=>(b j λe=>n<|e▸g).trans<|r.I j q,λa q=>(gK<|b _<|f a q).trans<|r.N a q,λa q=>(wC<|b _<|f a q).trans<|r.Y a q,λa q z=> ?_⟩
 .show j<w'.heap.size;rw[d];exact È (s.fx j<|Ã q) r.r
 .show l.w.heap.size<=w'.heap.size;rw[d];exact r.r
 .show(w'.cell? a).isSome=Ò;rw[gK (b a.block λe=>(s.S a q).1<|Ã<|e▸c)];exact r.S a q z
end
section
variable{J:Jd}{l:fc}{b:é}{a:ŏ}{k:List ŷ}{cs:List é}{ob:Ÿ}
def o7{V:Nat->Ï}(d:Q[i]?=Â o)(e:Ė o (ţ Q a.tmps)=Ò)(f:b.kind≠Ź)(g:ki l)(h:¬l.q) (j:∀w,(ĉ a.eval o).run P w=.ok (.value<|V w.heap.size) (w.alloc ob)) (m:∀w,(ĉ a.eval o).events P w #[]=#[]) (n:∀c,fH l l.w c->fi P yQ J (gI l c ob) (G (b.at (a.put o.dst<|V c.heap.size)<|Ñ Q jJ::k) cs)):fi P yQ J l (G (b.at a<|Ñ Q (i::jJ)::k) cs):=by
 refine vj d e f λc r=> ?_;rw[j c];refine⟨_,?_,n c r⟩;have:listed P b.fn a o c=#[]:=by unfold listed;rw[m c,Ī]
 rw[this];exact YD (mA g r) h
def GG{p off:Nat}{u:Ï}(m:Q[i]?=Â o)(n:Ė o (ţ Q a.tmps)=Ò)(s:b.kind≠Ź)(t:ki l)(x:¬l.q)(c:l.O p)(f:l.w.cell? ⟨p,off,Á⟩=Â u)(y:l.w.frozen? ⟨p,off,Á⟩=Ì)(z:o.dst=Á) (B:∀w,w.cell? ⟨p,off,Á⟩=Â u->w.frozen? ⟨p,off,Á⟩=Ì->(ĉ a.eval o).run P w=.ok .skip (w.setCell ⟨p,off,Á⟩ v)) (C:∀w,w.cell? ⟨p,off,Á⟩=Â u->w.frozen? ⟨p,off,Á⟩=Ì->(ĉ a.eval o).events P w #[]=#[⟨û ⟨p,off,Á⟩,Ò,Ì⟩]) (D:fi P yQ J {l with w:=l.w.setCell ⟨p,off,Á⟩ v} (G (b.at a<|Ñ Q jJ::k) cs)):fi P yQ J l (G (b.at a<|Ñ Q (i::jJ)::k) cs):=by
 have E:gY l ⟨p,off,Á⟩:=Ã<|Ã c;refine vj m n s λg r=> ?_;have d:=(E.r r).trans f;have j:=(wC<|r.I p<|Ã c).trans y;rw[B g d j];refine⟨_,Yx U (mA t r) x (Ã c) λe h=> ?_,?_⟩
 .have:=đ h;rw[C g d j]at this;have:e=⟨û ⟨p,off,Á⟩,Ò,Ì⟩:=by simpa using this
  subst this;exact pR.r<|Ã c
 .have:(a.put o.dst Å)=a:=by rw[z];rfl
  rw[this];exact D.jW<|yH<|Yw U (by rw[f];rfl) (by rw[d];rfl) r
def mQ(l:fc)(w₁ a:ß):fc:={l with O:=λb=>l.O b\/(w₁.heap.size<=b/\b<a.heap.size),w:=a}
def Ku(s:gy l){w₁:ß}(r:fH l l.w w₁){a:Option Nat}(d:w₁.grownBy u a)(c:∀k,a=Â k->l.O k/\X k):gi X l (mQ l w₁ u):=by
 have i:=r.r;have m:=d.size;have b:∀j,j<l.w.heap.size->Â j≠a->u.heap[j]?=w₁.heap[j]?:=λj o g=>d.block j Z g;have f:∀x:â,l.C x->Â x.block≠a:=λx h e=>s.N x h<|Ã (c _ e.symm).1;refine⟨λ_ q=>Ã q,λj q=>q.imp id λz=>by omega,U,U,U,U,U,U,λj q=> ?_,?_,λj q n=>(b j (s.fx j q) λe=>n (c j e.symm).2).trans<|r.I j q,λx q=>(gK<|b _ (s.I x q)<|f x q).trans<|r.N x q,λx q=>(wC<|b _ (s.I x q)<|f x q).trans<|r.Y x q,λx q z=> ?_⟩
 .show j<u.heap.size;rcases q with q|q
  .have:=s.fx j<|Ã q;omega
  .exact q.2
 .show l.w.heap.size<=u.heap.size;omega
 .show(u.cell? x).isSome=Ò;rw[gK (b x.block (s.S x q).2.1 λe=>(s.S x q).1<|Ã (c _ e.symm).1)];exact r.S x q z
def nQ{w₁:ß}{sz:Nat}{xs:List Ï}(h:w.ownsRow i e sz v n xs)(a:∀k,v.ownBlock=Â k->w₁.heap[k]?=w.heap[k]?):w₁.ownsRow i e sz v n xs:=by refine⟨h.1,h.2.imp id ?_⟩;rintro⟨g,b,c,rfl,d,f,j⟩;exact⟨g,b,c,U,d,(a g U).trans f,j⟩
def Rf{p:Nat}{u:Ï}(h:w.cell? ⟨p,0,Á⟩=Â u):∀j y,[u][j]?=Â y->w.cell? ⟨p,j,Á⟩=Â y
 |0,_,e=>Ó e▸h
 |_+1,_,e=>by cases e
def aiO{r a:List Ï}(f:P.underlying t=Â (.slice e))(h:P.info? e=Â zJ)(s:zJ.zero=Â z)(k:zJ.size=j9)(B:a.length=j9)(E:(n+1)*zJ.bytes<=140737488355328)(F:n+1<=œ) (l:w.ownsRow 0 e j9 v n r) (o:∀j y,a[j]?=Â y->w.cell? ((⟨m,0,Á⟩:â).add j)=Â y) (G:∀u∈a,u.oneCell'=Ò) (b:(Builtin.append_ #[t,t] T #[v,Æ (Â ⟨m,0,Á⟩) 1 i]).run P w=.ok x W):x.ownBlock=v.ownBlock\/x.ownBlock=Â w.heap.size:=by
 have p:a.length=1*zJ.size:=by rw[k,B];omega
 have K:n+1<=9223372036854775807:=by simp only[œ]at F;omega
 rcases l.2 with⟨rfl,rfl⟩|⟨g,q,C,rfl,_,H,L,M,I,N⟩
 .have d:=run_append_nil (P:=P) w t T e zJ z f h s ⟨m,0,Á⟩ 1 i a p o Z Z Z;rw[d]at b;cases b;exact Ç U
 .by_cases D:n+1<=q
  .have J:n*zJ.size+a.length<=C.size:=by
    rw[I,k,B,show n*j9+j9=(n+1)*j9 by rw[Nat.add_mul];omega];exact Nat.mul_le_mul_right _ D
   have d:=run_append_room (P:=P) w t T e zJ f h g n q C H ⟨m,0,Á⟩ 1 i a p o G D J;rw[d]at b;cases b;exact Ã U
  .have d:=run_append_grow (P:=P) w t T e zJ z f h s ⟨g,0,Á⟩ n q r (by rw[k];exact l.1) (l.cells (g:=g) U) ⟨m,0,Á⟩ 1 i a p o Z Z<|growslice_fits Z E;rw[d]at b;cases b;exact Ç U
theorem GH{x:Ĥ}{inf:Ž}{c px sz:Nat}{xs us:List Ï}(ho:Q[i]?=Â o)(hw:Ė o (ţ Q a.tmps)=Ò)(hk:b.kind≠Ź)(sn:gy l)(hq:¬l.q) (V:o.op=Ě {callee:=Ŕ .append,args:=#[qQ,x],argTypes:=#[t,t]}) (W:a.eval qQ=v) (X:a.eval x=Æ (Â ⟨px,0,Á⟩) 1 c) (E:P.underlying t=Â (.slice e)) (F:P.info? e=Â inf) (H:inf.zero=Â z) (I:inf.size=sz) (jR:0<sz) (Kv:us.length=sz) (ry:z.cells.size=sz) (K:(n+1)*inf.bytes<=140737488355328) (L:n+1<=œ) (lD:l.w.ownsRow 0 e sz v n xs) (C:∀k,v.ownBlock=Â k->l.O k) (YL:l.O px) (hu:∀j u,us[j]?=Â u->l.w.cell? ⟨px,j,Á⟩=Â u) (f:∀u∈us,u.oneCell'=Ò) (hn:∀d B g,fH l l.w d->g.ownsRow 0 e sz B (n+1) (xs++us)->d.grownBy g v.ownBlock->(∀k,B.ownBlock=Â k->(mQ l d g).O k)->(B.ownBlock=v.ownBlock\/B.ownBlock=Â d.heap.size)->fi P yQ J (mQ l d g) (G (b.at (a.put o.dst B)<|Ñ Q jJ::k) cs)): fi P yQ J l (G (b.at a<|Ñ Q (i::jJ)::k) cs):=by
 refine vj ho hw hk λd r=> ?_;have hM:∀k,l.O k->d.heap[k]?=l.w.heap[k]?:=λk q=>r.I k<|Ã q;have M:=nQ lD (w₁:=d) λk q=>hM k<|C k q;have N:∀j w,us[j]?=Â w->d.cell? ((⟨px,0,Á⟩:â).add j)=Â w:=λj w h=>by rw[ğ,č];grind [gK]
 have Y:us.length=1*sz:=Z
 let⟨B,g,iI,hown',p,yU⟩:=run_append_own (P:=P) d 0 t o.type e inf z sz inf.bytes E F H I U ry jR v n xs M ⟨px,0,Á⟩ 1 c us Y N f L K<|ă _;have uq:=aiO E F H I Kv K L M N f iI;refine uponK_append qQ x t V W X iI ⟨mQ l d g,?_,hn d B g r hown' p (λk q=> ?_) uq⟩
 .have he:∀D∈listed P b.fn a o d,wS (mQ l d g) D:=λD S=>by
   have h2:=đ S;rw[events_append_op qQ x t V W X]at h2;rcases(events_append_where (P:=P) d 0 t o.type e inf z sz inf.bytes E F H I rfl v n xs M ⟨px,0,Á⟩ 1 c us Y N f L K) D h2 with⟨ad,T,y⟩|⟨m,rfl,aiP⟩
   .refine⟨Ã ⟨ad,T,Ã ?_⟩,by rw[T];simp,by rw[T];simp⟩;rcases y with⟨_,y⟩|y
    .exact Ã<|by rwa[y]
    .exact Ã<|C _ y.symm
   .have tN:m=.noRoom:=aiP;subst tN;exact⟨Ç<|Ã U,fj,fj⟩
  refine⟨p.size,λj q=>q.imp id λz=>z.1,λj q=> ?_,U,U,U,U,λj T f _=>p.block j T λe=>f<|C j e.symm,λy m f _=>gK (p.block _ m λe=>f<|C _ e.symm),λy m f=>wB (p.block _ m λe=>f<|C _ e.symm),p.os,p.output,p.tape,λD S=>(he D S).1,(Ki he _).symm,U,λq=>absurd q hq,U⟩;rcases q with q|q
  .exact È ((mA sn.r r) j q) p.size
  .exact q.2
 .have y:k<g.heap.size:=(hown'.lt k q).2;rcases uq with m|m
  .exact Ã<|C k<|by rwa[<-m]
  .rw[m]at q;obtain rfl:=Ó q;exact Ç ⟨Ú _,y⟩
end
def YM:Array å:=#[⟨Â 25,Ş (ù 48) #[] #[Ù 9,Ù 8],1, "work.go:24",#[],Á⟩,⟨Â 26,Ě {callee:=ĕ<|ĸ 47,args:=#[Ù 12,Ù 25],argTypes:=#[97,1]},0, "work.go:24",#[⟨0,Ü⟩],Á⟩]
def YN:Array å:=#[⟨Â 13,ŧ<|Ũ<|Æ Á 0 0,100, "work.go:25",#[],Á⟩]
def YO:Array å:=#[⟨Â 27,ę<|Ù 2,3, "work.go:26",#[],Á⟩,⟨Â 28,ę<|Ũ<|Ê Î 0,3, "work.go:26",#[],Á⟩]
def Rh:Array å:=#[⟨Â 29,Λ .lss 3 (Ù 28) (Ù 27) 3,4, "work.go:26",#[],Á⟩]
def YP:Array å:=#[⟨Â 30,ę<|Ù 10,85, "work.go:28",#[],Á⟩,⟨Â 31,Ě {callee:=Ŕ .len,args:=#[Ù 30],argTypes:=#[85]},3, "work.go:28",#[⟨0,Ü⟩],Á⟩,⟨Â 32,.makeChan 101<|Ù 31,101, "work.go:28",#[⟨1,Ü⟩],Á⟩,⟨Â 14,.alloc 101,0, "work.go:28",#[],Á⟩,⟨Á,š 101 (Ù 14)<|Ù 32,0, "work.go:28",#[⟨3,Ü⟩,⟨2,Ü⟩,⟨0,Í⟩,⟨1,Í⟩,⟨2,Í⟩,⟨3,Í⟩],Á⟩]
def YQ:Array å:=#[⟨Â 33,ę<|Ù 13,100, "work.go:29",#[],Á⟩,⟨Â 34,ć 101<|Ù 14,101, "work.go:29",#[],Á⟩,⟨Â 35,.buildSlice 100 1 #[(0,Ù 34)],100, "work.go:29",#[⟨1,Ü⟩],Á⟩,⟨Â 36,Ě {callee:=Ŕ .append,args:=#[Ù 33,Ù 35],argTypes:=#[100,100]},100, "work.go:29",#[⟨0,Ü⟩,⟨2,Ü⟩],Á⟩,⟨Â 13,ŧ<|Ù 36,100, "work.go:29",#[⟨3,Ü⟩,⟨3,Ţ⟩,⟨0,Í⟩,⟨1,Í⟩,⟨2,Í⟩,⟨3,Í⟩],Á⟩]
def Kw:Array å:=#[⟨Â 37,Ş (ù 50) #[] #[Ù 14,Ù 8],1, "work.go:30",#[],Á⟩,⟨Â 38,Ě {callee:=ĕ<|ĸ 47,args:=#[Ù 12,Ù 37],argTypes:=#[97,1]},0, "work.go:30",#[⟨0,Ü⟩],Á⟩]
def Ri:Array å:=#[⟨Â 39,Λ .add 3 (Ù 28) (Ũ<|Ê Î 1) 3,3, "work.go:26",#[],Á⟩,⟨Â 28,ę<|Ù 39,3, "work.go:26",#[⟨0,Ü⟩],Á⟩]
def Kx:Array å:=#[⟨Â 40,ę<|Ù 10,85, "work.go:32",#[],Á⟩,⟨Â 41,ę<|Ù 13,100, "work.go:32",#[],Á⟩,⟨Â 42,Ě {callee:=ĕ<|ĸ 52,args:=#[Ù 40,Ù 41],argTypes:=#[85,100]},0, "work.go:32",#[⟨0,Ü⟩,⟨1,Ü⟩],Á⟩]
def Ky:Array å:=#[⟨Â 43,Ě {callee:=ĕ<|ĸ 53,args:=#[Ù 12],argTypes:=#[97]},0, "work.go:33",#[],Á⟩]
def GI:å:=⟨Â 44,ć 25<|Ù 8,25, "work.go:34",#[],Á⟩
def GJ:å:=⟨Â 45,ę<|Ù 11,86, "work.go:34",#[{on:=5,ground:=õ Ð}],Á⟩
def GK:å:=⟨Â 46,ĩ<|Ù 45,0, "work.go:34",#[⟨1,Ü⟩,{on:=5,ground:=õ Ð}],Á⟩
def GM:å:=⟨Â 47,ð 105 (Ù 46) 1,0, "work.go:34",#[⟨2,Ü⟩,{on:=5,ground:=õ Ð}],Á⟩
def GN:å:=⟨Â 48,ć 65<|Ù 47,65, "work.go:34",#[⟨3,Ü⟩,{on:=5,ground:=õ Ð}],Á⟩
def GO:å:=⟨Â 6,ŧ<|Ù 44,25, "work.go:34",#[⟨0,Ü⟩,⟨0,Í⟩,{on:=1,ground:=Þ Ð},{on:=2,ground:=Þ Ð},{on:=3,ground:=Þ Ð},{on:=4,ground:=Þ Ð}],Á⟩
def GQ:å:=⟨Â 7,ŧ<|Ù 48,65, "work.go:34",#[⟨4,Ü⟩,⟨5,Ţ⟩,⟨0,Í⟩,⟨1,Í⟩,⟨2,Í⟩,⟨3,Í⟩,⟨4,Í⟩,⟨5,Í⟩],Á⟩
def xa:Array å:=#[GI,GJ,GK,GM,GN,GO,GQ]
def Kz:Ę:=(ä 14 xa Ò).seq Ρ
def KA:Ę:=(ä 12 Kx Ì).seq<|(ä 13 Ky Ì).seq Kz
def DU:Ę:=(ä 7 Rh Ì).seq<|(Ť (Ù 29) ť<|Ŧ 0).seq<|(İ 1<|(ä 8 YP Ì).seq<|(ä 9 YQ Ì).seq<|ä 10 Kw Ì).seq<|ä 11 Ri Ì
def sA:Ę:=(ä 5 YN Ì).seq<|((ä 6 YO Ì).seq<|İ 0 DU.loop).seq KA
def Bj(t:Array Ï)(a:List é):Ý:=G ((base 37).at ⟨t,[]⟩ [ö DU,ą DU,ô 0,ö KA]) a
def DV(t:Array Ï):é:=(base 37).at ⟨t,[]⟩ [Ñ YM [1],ö sA]
def KB(t:Array Ï):é:=(base 37).at ⟨t,[]⟩ [Ñ Kw [1],ô 1,ö<|ä 11 Ri Ì,ą DU,ô 0,ö KA]
def GR:Array å:=#[⟨Â 6,Ş (ù 63) #[] #[Ù 2,Ù 3],1, "waitgroup.go:238",#[],Á⟩,
 ⟨Á,.go {callee:=ĕ (Ù 6),args:=#[],argTypes:=#[]},0, "waitgroup.go:238",#[⟨0,Ü⟩],Á⟩]
def tG(c d e f:Ï)(a b:Nat):Array Ï:=#[c,d,À<|Â ⟨a,0,Á⟩,À<|Â ⟨b,0,Á⟩,e,f,Ĉ (ù 63) #[] #[À<|Â ⟨a,0,Á⟩,À<|Â ⟨b,0,Á⟩]]
def Bl(a b c d:Ï)(e f:Nat)(g:List é):Ý:=G ((base 47).at ⟨tG a b c d e f,[]⟩ [Ñ GR [1]]) g
def GU(a b c d:Ï)(e f:Nat)(g:List é):Ý:=G ((base 47).at ⟨tG a b c d e f,[]⟩ [Ñ GR []]) g
def YR(c e f g:Ï)(a b:Nat)(h:List é)(w:ß):stepG Ä Ò (Bl c e f g a b h) w=.spawn (GU c e f g a b h) (born Ä<|o0 63 #[À<|Â ⟨a,0,Á⟩,À<|Â ⟨b,0,Á⟩] #[]) w #[]:=by
 refine(stepG_spawn (d:=o0 63 #[À<|Â ⟨a,0,Á⟩,À<|Â ⟨b,0,Á⟩] #[]) (w':=w) U U (by k_ne) ?_ U).trans ?_
 .simp[GR,ĉ,ſ,ě,ĥ,tG,o0]
 .have:listed Ä (base 47).fn ⟨tG c e f g a b,[]⟩ GR[1] w=#[]:=by
   unfold listed;simp[GR,ĉ,ſ,ě,ĥ,tG,Ī]
  rw[this];rfl
structure ST(ba all nR n j:Nat)(qs dv:Ï)(t:Array Ï):Prop where
 r:t.size=49
 a:t[8]?=Â (À<|Â ⟨ba,0,Á⟩)
 C:t[10]?=Â qs
 I:t[11]?=Â (À<|Â ⟨nR,0,Á⟩)
 M:t[12]?=Â (À<|Â ⟨all,0,Á⟩)
 N:t[13]?=Â dv
 S:t[27]?=Â (Ê Î n)
 Y:t[28]?=Â (Ê Î j)
structure GV(ba all nR n:Nat)(qs:Ï)(t:Array Ï):Prop where
 CY:t.size=49
 t2:t[2]?=Â (Ê Î n)
 t8:t[8]?=Â (À<|Â ⟨ba,0,Á⟩)
 aiQ:t[10]?=Â qs
 aiR:t[11]?=Â (À<|Â ⟨nR,0,Á⟩)
 Rj:t[12]?=Â (À<|Â ⟨all,0,Á⟩)
def GX(t:Array Ï)(h:t.size=49):∃a b c d e f g i j k l m n o p q r s u v w x y z B C D E F G H I J K L M N O P Q S T V W X Y pP pQ wR:Ï,t=#[a,b,c,d,e,f,g,i,j,k,l,m,n,o,p,q,r,s,u,v,w,x,y,z,B,C,D,E,F,G,H,I,J,K,L,M,N,O,P,Q,S,T,V,W,X,Y,pP,pQ,wR]:=by obtain⟨_,rfl⟩:=rn t h;exact⟨_,_,_,_,_,_,_,_,_,_,_,_,_,_,_,_,_,_,_,_,_,_,_,_,_,_,_,_,_,_,_,_,_,_,_,_,_,_,_,_,_,_,_,_,_,_,_,_,_,U⟩
section
variable{Ψ:ß->Prop}{J a:Jd}{l:fc}{t:Array Ï}{ba all nR:Nat}{qs dv:Ï}
def aiS(d:ki l)(a:GV ba all nR n qs t)(e:∀c,ST ba all nR n 0 qs (Æ Á 0 0) c->fi Ä Ò J l (Bj c qX)):fi Ä Ò J l (GU v x z jQ b i<|DV t::qX):=by
 obtain⟨m,o,f,p,q,r,s,u,g,w,h,j,k,y,B,C,D,E,F,G,H,I,K,L,M,N,O,P,Q,S,T,V,W,X,Y,ri,rj,tS,tT,tU,tV,tW,tX,tY,tZ,ua,pP,pQ,wR,rfl⟩:=GX t a.CY;obtain rfl:f=Ê Î n:=by simpa using a.t2
 obtain rfl:g=À (Â ⟨ba,0,Á⟩):=by simpa using a.t8
 obtain rfl:h=qs:=by simpa using a.aiQ
 obtain rfl:j=À (Â ⟨nR,0,Á⟩):=by simpa using a.aiR
 obtain rfl:k=À (Â ⟨all,0,Á⟩):=by simpa using a.Rj
 apply fP (n:=40) d;have hF:=trivial;simp only[GU,DV,YM];iterate 2 w_go fw
 u_leave0 Ħ fw hF
 simp only[sA,YN,YO];iterate 13 w_go fw
 refine Ë λ_ _=> ?_;exact e _ ⟨U,U,U,U,U,U,U,U⟩
theorem aiT(d:ki l)(a:ST ba all nR n j qs dv t)(q:j<1000)(e:∀c,ST ba all nR n (j+1) qs dv c->fi Ä Ò J l (Bj c qX)):fi Ä Ò J l (GU v x z jQ b i<|KB t::qX):=by
 obtain⟨r,s,u,w,y,B,C,D,f,E,g,h,k,m,F,G,H,I,K,L,M,N,O,P,Q,S,T,o,p,V,W,X,Y,sB,sC,ri,rj,tS,tT,tU,tV,tW,tX,tY,tZ,ua,pP,pQ,wR,rfl⟩:=GX t a.r;obtain rfl:f=À (Â ⟨ba,0,Á⟩):=by simpa using a.a
 obtain rfl:g=qs:=by simpa using a.C
 obtain rfl:h=À (Â ⟨nR,0,Á⟩):=by simpa using a.I
 obtain rfl:k=À (Â ⟨all,0,Á⟩):=by simpa using a.M
 obtain rfl:m=dv:=by simpa using a.N
 obtain rfl:o=Ê Î n:=by simpa using a.S
 obtain rfl:p=Ê Î j:=by simpa using a.Y
 apply fP (n:=40) d;have hF:=trivial;simp only[GU,KB,Kw];iterate 2 w_go fw
 u_leave0 Ħ fw hF
 simp only[Ri];iterate 7 w_go fw
 refine Ë λ_ _=> ?_;refine e _ ⟨U,U,U,U,U,U,U,?_⟩;simp;grind [Bc]
end
section
variable{l l' y:fc}
def gi.fX(h:gi X l l')(s:gy l){p off:Nat}(c:l.w.heap.size<=p):gi X l {l' with w:=l'.w.setCell ⟨p,off,Á⟩ v}:=by
 have b:∀j,j<l.w.heap.size->(l'.w.setCell ⟨p,off,Á⟩ v).heap[j]?=l'.w.heap[j]?:=λj e=>lk (by show j≠p;omega);refine⟨h.O,h.c,h.S,h.Y,h.b,h.K,h.q,h.d,λj q=> ?_,?_,λj q n=>(b j<|s.fx j q).trans<|h.r j q n,λa q=>(gK<|b _<|s.I a q).trans<|h.f a q,λa q=>sk.trans<|h.g a q,λa q z=>yp<|h.e a q z⟩
 .show j<(l'.w.setCell ⟨p,off,Á⟩ v).heap.size;rw[jU];exact h.fx j q
 .show l.w.heap.size<=(l'.w.setCell ⟨p,off,Á⟩ v).heap.size;rw[jU];exact h.I
structure hD(l:fc)(b:Nat)(o:Ÿ):Prop where
 fp:l.O b
 I:l.w.heap[b]?=Â o
def hD.r{o:Ÿ}(h:hD l b o)(k:gi X l l')(a:¬X b):hD l' b o:=⟨k.O b h.fp,(k.r b (Ã h.fp) a).trans h.I⟩
def hD.C(h:hD l b (É d e xJ))(a:d[i]?=Â v):l.w.cell? ⟨b,i,Á⟩=Â v:=by simp[Ö,h.I,a]
end
def YS{sz:Nat}{xs:List Ï}(h:w.ownsRow i e sz v n xs)(a:w.heap.size<=b):¬(Â b=v.ownBlock):=λq=>by have:=(h.lt b q.symm).2;omega
structure YT(ba all q:Nat)(Bm:Ï)(xs:List Ï)(ch bd bw bf:Nat)(l':fc):Prop where
 S:l'.w.ownsRow 0 101 1 Bm xs.length xs
 M:∀k,Bm.ownBlock=Â k->l'.O k
 r:hD l' ch (ŕ q #[] Ì 0 0 Ì)
 C:hD l' bd (É #[è<|Â ch] 101)
 N:hD l' bw (É #[À<|Â ⟨all,0,Á⟩] 162)
 I:hD l' bf (É #[Ĉ (ù 50) #[] #[À<|Â ⟨bd,0,Á⟩,À<|Â ⟨ba,0,Á⟩]] 1)
section
variable{g:Jd}{l:fc}{t:Array Ï}{ba all q:Nat}{f:Option â}{xs:List Ï}
def Rk(y:gy l)(F:¬l.q)(hd:l.d=0)(G:ST ba all m n j (Æ f q i) x t)(vg:j<n)(hn:n<1000)(Bn:q<1000)(KC:l.K ⟨all,0,Á⟩/\l.K ⟨all,1,Á⟩)(GF:nk all l.w) (lD:l.w.ownsRow 0 101 1 x j xs) (hO:∀k,x.ownBlock=Â k->l.O k) (hJ0:∀l' t' a r B S C v1,gi (λb=>Â b=x.ownBlock) l l'->ST ba all m n j (Æ f q i) C t'->YT ba all q C (xs++[è<|Â a]) a r B S l'->l.w.heap.size<=a->a<r->r<B->B<S->(∀k,C.ownBlock=Â k->k≠a/\k≠r/\k≠B/\k≠S)->g l' (Bl (À<|Â ⟨all,0,Á⟩) v1 (À<|Â ⟨all,0,Á⟩) (ñ #[]) B S<|KB t'::qX)): fi Ä Ò (Kh Ä Ò all g) l (Bj t qX):=by
 obtain⟨y0,y1,y2,y3,y4,y5,y6,y7,y8,y9,wV,yT,wW,rp,sE,qx,vm,vn,ui,uj,uk,sF,sG,sH,rf,sy,rh,oZ,n5,pM,pN,pO,tR,sB,sC,ri,rj,tS,tT,tU,tV,tW,tX,tY,tZ,ua,pP,pQ,wR,rfl⟩:=GX t G.r;obtain rfl:y8=À (Â ⟨ba,0,Á⟩):=by simpa using G.a
 obtain rfl:wV=Æ f q i:=by simpa using G.C
 obtain rfl:yT=À (Â ⟨m,0,Á⟩):=by simpa using G.I
 obtain rfl:wW=À (Â ⟨all,0,Á⟩):=by simpa using G.M
 obtain rfl:x=rp:=(show rp=x by simpa using G.N).symm;obtain rfl:oZ=Ê Î n:=by simpa using G.S
 obtain rfl:n5=Ê Î j:=by simpa using G.Y
 have at0:(j:Int)<(n:Int):=Z
 have hF:True:=trivial;apply fP (n:=40) y.r;simp only[Bj,DU,Rh,YP];repeat w_go fw
 refine Ë λ_ _=> ?_;have DW:Ä.info? 155=Â Ą:=ļ;refine o7 (V:=λp=>è<|Â p) (ob:=ŕ q #[] Ì 0 0 Ì) U U (by k_ne) y.r F (λw=> ?_) (λw=> ?_) λL kB=> ?_
 .have D:=run_makeChan (P:=Ä) (w:=w) Ĵ DW Î q Z (by simp[Ą];omega);go_simp
 .simp[go_sem,(events_makeChan (P:=Ä) (w:=w) Ĵ DW Î q Z (by simp[Ą];omega) #[])]
 walk_nrm;have um:gi ff l (gI l L<|ŕ q #[] Ì 0 0 Ì):=mP y kB;have c1:hD (gI l L<|ŕ q #[] Ì 0 0 Ì) L.heap.size (ŕ q #[] Ì 0 0 Ì):=⟨Ç U,mO⟩;have YU:l.w.heap.size<=L.heap.size:=kB.r;generalize gI l L (ŕ q #[] Ì 0 0 Ì)=l₁ at um c1|-;generalize L.heap.size=a at c1 YU|-;have xb:=um.N y;have YV:¬l₁.q:=by rwa[um.q]
 refine o7 (V:=λp=>À<|Â ⟨p,0,Á⟩) (ob:=É #[è Á] 101) U U (by k_ne) xb.r YV (λw=>by go_simp) (λw=>by simp[go_sem]) λT n7=> ?_;walk_nrm;have GY:gi ff l (gI l₁ T<|É #[è Á] 101):=um.fg<|mP xb n7;have c2:=c1.r (mP (X:=ff) (ob:=É #[è Á] 101) xb n7) id;have H:hD (gI l₁ T<|É #[è Á] 101) T.heap.size (É #[è Á] 101):=⟨Ç U,mO⟩;have Jb:a<T.heap.size:=È (xb.fx a<|Ã c1.fp) n7.r;generalize gI l₁ T (É #[è Á] 101)=l₂ at GY c2 H|-;generalize T.heap.size=r at H Jb|-;clear c1 um YV xb n7 l₁;have rv:=GY.N y;have pT:¬l₂.q:=by rwa[GY.q]
 refine GG (p:=r) (off:=0) (v:=è<|Â a) (u:=è Á) U U (by k_ne) rv.r pT H.fp (H.C U) (by simp[î,H.I]) U (λw o s=>by go_simp) (λw o s=>by simp[go_sem,o,s]) ?_;have M:gi ff l {l₂ with w:=l₂.w.setCell ⟨r,0,Á⟩ (è<|Â a)}:=GY.fX y Z;have c3:hD {l₂ with w:=l₂.w.setCell ⟨r,0,Á⟩ (è<|Â a)} a (ŕ q #[] Ì 0 0 Ì):=⟨c2.fp,(lk<|by show a≠r;omega).trans c2.I⟩;have W:hD {l₂ with w:=l₂.w.setCell ⟨r,0,Á⟩ (è<|Â a)} r (É #[è<|Â a] 101):=⟨H.fp,by show(l₂.w.setCell ⟨r,0,Á⟩<|è<|Â a).heap[r]?=_;unfold þ;simp[í,H.I]⟩;generalize({l₂ with w:=l₂.w.setCell ⟨r,0,Á⟩ (è<|Â a)}:fc)=kt at M c3 W|-;clear c2 H GY rv pT l₂;have N:=M.N y;have wZ:¬kt.q:=by rwa[M.q]
 have DX:∀k,x.ownBlock=Â k->kt.O k:=λk e=>M.O k<|hO k e;have KD:kt.w.ownsRow 0 101 1 x j xs:=nQ lD λk e=>M.r k (Ã<|hO k e) id;apply fP (n:=10) N.r;simp only[YQ,Kw];iterate 4 w_go fw
 refine Ë λ_ _=> ?_;apply nP (x:=⟨r,0,Á⟩) U U (by k_ne) N.r wZ (Ã<|Ã W.fp) (W.C U) (λw h=>by go_simp) (λw h=>by simp[go_sem,h]);walk_nrm;refine o7 (V:=λp=>Æ (Â ⟨p,0,Á⟩) 1 1) (ob:=É #[è<|Â a] 101) U U (by k_ne) N.r wZ (λw=>by go_simp) (λw=>by simp[go_sem]) λI Bo=> ?_;walk_nrm;have Bh:gi ff l (gI kt I<|É #[è<|Â a] 101):=M.fg<|mP N Bo;have k4:=mP (X:=ff) (ob:=É #[è<|Â a] 101) N Bo;have c4:=c3.r k4 id;have d4:=W.r k4 id;have Y:hD (gI kt I<|É #[è<|Â a] 101) I.heap.size (É #[è<|Â a] 101):=⟨Ç U,mO⟩;have YL:r<I.heap.size:=È (N.fx r<|Ã W.fp) Bo.r;have xc:∀k,x.ownBlock=Â k->(gI kt I<|É #[è<|Â a] 101).O k:=λk e=>Ã<|DX k e;have Bp:=nQ KD (w₁:=(gI kt I<|É #[è<|Â a] 101).w) λk e=>k4.r k (Ã<|DX k e) id;generalize gI kt I (É #[è<|Â a] 101)=l₄ at Bh c4 d4 Y xc Bp|-;generalize I.heap.size=px at Y YL|-;clear c3 W M N wZ DX KD k4 Bo kt;have za:=Bh.N y;have Bq:¬l₄.q:=by rwa[Bh.q]
 refine GH (v:=x) (us:=[è<|Â a]) (px:=px) (c:=1) (n:=j) (xs:=xs) (inf:=Δ) (z:=è Á) U U (by k_ne) za Bq U U U Tryz.underlying100 Tryz.type101 U U Nat.one_pos U U (by simp[Δ];omega) (by simp only[œ];omega) Bp xc Y.fp (Rf<|Y.C U) (λ_ D=>List.mem_singleton.1 D▸rfl) λsJ C Q Br si GZ Bs uq=> ?_;walk_nrm;have YW:∀b,l.w.heap.size<=b->¬(Â b=x.ownBlock):=λb hb=>YS lD hb;have k5:gi (λb=>Â b=x.ownBlock) l₄ (mQ l₄ sJ Q):=Ku za Br GZ λk e=>⟨xc k e,e.symm⟩;have vq:gi (λb=>Â b=x.ownBlock) l (mQ l₄ sJ Q):=(Bh.fN λ_ _ q=>q.elim).fg k5;have c5:=c4.r k5<|YW a Z;have d5:=d4.r k5<|YW r Z;have hl4:px<sJ.heap.size:=È (za.fx px<|Ã Y.fp) Br.r;have KE:∀k,C.ownBlock=Â k->k<Q.heap.size/\k≠a/\k≠r:=λk e=>by
  have D:=(si.lt k e).2;rcases uq with z|z
  .rw[z]at e;have:=(lD.lt k e).2;exact⟨D,Z,Z⟩
  .rw[z]at e;obtain rfl:=Ó e;exact⟨D,Z,Z⟩
 have xd:(mQ l₄ sJ Q).w.ownsRow 0 101 1 C (j+1) (xs++[è<|Â a]):=si;have Rl:(mQ l₄ sJ Q).w.heap.size=Q.heap.size:=U;generalize mQ l₄ sJ Q=sK at vq c5 d5 xd Bs Rl|-;rw[<-Rl]at KE;clear k5 GZ si uq c4 d4 Y Bh za Bq xc Bp Br l₄ Rl;have rz:=vq.N y;have YX:¬sK.q:=by rwa[vq.q]
 apply fP (n:=20) rz.r;iterate 4 w_go fw
 u_call Ħ fQ Μ fw hF
 iterate 2 w_go fw
 refine Ë λ_ _=> ?_;refine o7 (V:=λp=>À<|Â ⟨p,0,Á⟩) (ob:=É #[À<|Â ⟨all,0,Á⟩] 162) U U (by k_ne) rz.r YX (λw=>by go_simp) (λw=>by simp[go_sem]) λD KF=> ?_;walk_nrm;have k6:=mP (X:=ff) (ob:=É #[À<|Â ⟨all,0,Á⟩] 162) rz KF;have Bt:gi (λb=>Â b=x.ownBlock) l (gI sK D<|É #[À<|Â ⟨all,0,Á⟩] 162):=vq.fg (k6.fN λ_ _ q=>q.elim);have c6:=c5.r k6 id;have d6:=d5.r k6 id;have g6:hD (gI sK D<|É #[À<|Â ⟨all,0,Á⟩] 162) D.heap.size (É #[À<|Â ⟨all,0,Á⟩] 162):=⟨Ç U,mO⟩;have Bu:r<D.heap.size:=È (rz.fx r<|Ã d5.fp) KF.r;have G0:∀k,C.ownBlock=Â k->k<D.heap.size/\k≠a/\k≠r:=λk e=>⟨È (KE k e).1 KF.r,(KE k e).2⟩;have KG:∀k,C.ownBlock=Â k->(gI sK D<|É #[À<|Â ⟨all,0,Á⟩] 162).O k:=λk e=>Ã<|Bs k e;have Rm:=nQ xd (w₁:=(gI sK D<|É #[À<|Â ⟨all,0,Á⟩] 162).w) λk e=>k6.r k (Ã<|Bs k e) id;generalize gI sK D (É #[À<|Â ⟨all,0,Á⟩] 162)=Bv at Bt c6 d6 g6 KG Rm|-;generalize D.heap.size=B at g6 Bu G0|-;clear k6 c5 d5 vq rz YX Bs xd KE KF sK;have KH:=Bt.N y;have YY:¬Bv.q:=by rwa[Bt.q]
 refine o7 (V:=λp=>À<|Â ⟨p,0,Á⟩) (ob:=É #[Ĉ (ù 50) #[] #[À<|Â ⟨r,0,Á⟩,À<|Â ⟨ba,0,Á⟩]] 1) U U (by k_ne) KH.r YY (λw=>by go_simp) (λw=>by simp[go_sem]) λJ Rn=> ?_;walk_nrm;have k7:=mP (X:=ff) (ob:=É #[Ĉ (ù 50) #[] #[À<|Â ⟨r,0,Á⟩,À<|Â ⟨ba,0,Á⟩]] 1) KH Rn;have E:gi (λb=>Â b=x.ownBlock) l (gI Bv J<|É #[Ĉ (ù 50) #[] #[À<|Â ⟨r,0,Á⟩,À<|Â ⟨ba,0,Á⟩]] 1):=Bt.fg (k7.fN λ_ _ q=>q.elim);have c7:=c6.r k7 id;have d7:=d6.r k7 id;have g7:=g6.r k7 id;have f7:hD (gI Bv J<|É #[Ĉ (ù 50) #[] #[À<|Â ⟨r,0,Á⟩,À<|Â ⟨ba,0,Á⟩]] 1) J.heap.size (É #[Ĉ (ù 50) #[] #[À<|Â ⟨r,0,Á⟩,À<|Â ⟨ba,0,Á⟩]] 1):=⟨Ç U,mO⟩;have KI:B<J.heap.size:=È (KH.fx B<|Ã g6.fp) Rn.r;have Ro:∀k,C.ownBlock=Â k->(gI Bv J<|É #[Ĉ (ù 50) #[] #[À<|Â ⟨r,0,Á⟩,À<|Â ⟨ba,0,Á⟩]] 1).O k:=λk e=>Ã<|KG k e;have YZ:=nQ Rm (w₁:=(gI Bv J<|É #[Ĉ (ù 50) #[] #[À<|Â ⟨r,0,Á⟩,À<|Â ⟨ba,0,Á⟩]] 1).w) λk e=>k7.r k (Ã<|KG k e) id;generalize gI Bv J (É #[Ĉ (ù 50) #[] #[À<|Â ⟨r,0,Á⟩,À<|Â ⟨ba,0,Á⟩]] 1)=Bw at E c7 d7 g7 f7 Ro YZ|-;generalize J.heap.size=S at f7 KI|-;clear k7 c6 d6 g6 Bt KH YY KG Rm Rn Bv;have KJ:=E.N y;apply fP (n:=10) KJ.r;iterate 3 w_go fw
 refine Ë λ_ _=> ?_;apply nP (x:=⟨B,0,Á⟩) U U (by k_ne) KJ.r (by rwa[E.q]) (Ã<|Ã g7.fp) (g7.C U) (λw h=>by go_simp) (λw h=>by simp[go_sem,h]);walk_nrm;apply fP (n:=10) KJ.r;u_call qw.f_add (nm_add Lk) addFn fw hF;refine Ë λ_ _=> ?_;refine Yo qw (⟨Ã (by rw[E.K];exact KC.1),Ã (by rw[E.K];exact KC.2),λw L o s h3 h4 h5 h=>h.fg ⟨o,s,h3,h4,h5⟩⟩) (⟨KJ.r,⟨E.e _ KC.1 GF.1,E.e _ KC.2 GF.2⟩,fH.fU _ _⟩) (E.d.trans hd) λRp Y0=> ?_;walk_nrm;apply fP (l:={Bw with d:=0,w:=Rp}) (n:=10) Y0.1;iterate 3 w_go fw
 refine Ë λ_ _=> ?_;refine .fB λBx xe=> ?_;have rr:fH Bw Bw.w Bx:=Y0.2.2.fg ⟨xe.r,xe.I,xe.N,xe.Y,xe.S⟩;have s:=E.G rr;have hA9:gi (λb=>Â b=x.ownBlock) l ({Bw with d:=0,w:=Bx}:fc):=⟨s.O,s.c,s.S,s.Y,s.b,s.K,s.q,hd.symm,s.fx,s.I,s.r,s.f,s.g,s.e⟩;have at9:∀{b:Nat} {o:Ÿ},hD Bw b o->hD ({Bw with d:=0,w:=Bx}:fc) b o:=λh=>⟨h.fp,(rr.I _<|Ã h.fp).trans h.I⟩;have hlen:(xs++[è<|Â a]).length=j+1:=by have:=lD.1;simp;omega
 refine hJ0 {Bw with d:=0,w:=Bx} _ a r B S C _ hA9 ⟨U,U,U,U,U,U,U,U⟩ ⟨?_,Ro,at9 c7,at9 d7,at9 g7,at9 f7⟩ YU Jb Bu KI λk e=>⟨(G0 k e).2.1,(G0 k e).2.2,by have:=(G0 k e).1;omega,by have:=(G0 k e).1;omega⟩;rw[hlen];exact nQ YZ λk e=>rr.I k<|Ã<|Ro k e
end
def sL(l:fc)(b:Nat):fc:={l with O:=λj=>l.O j/\j≠b,K:=λa=>l.K a\/a=⟨b,0,Á⟩\/a=⟨b,1,Á⟩}
def na(l x:fc)(b:Nat):fc:={x with O:=λj=>x.O j\/j=b,K:=l.K}
section
variable{S:Jd}{l:fc}
def fi.Rq(W:∀a,l.K a->a.block≠b){x:fc}(h:fi P yQ S x g):¬x.M b->(∀a,x.C a->a.block≠b)->x.K=(sL l b).K->b<x.w.heap.size->(x.w.cell? ⟨b,0,Á⟩).isSome=Ò->(x.w.cell? ⟨b,1,Á⟩).isSome=Ò->ki x-> fi P yQ (λG H=>∃d,S d H/\G=na l d b/\¬d.M b/\(∀a,d.C a->a.block≠b)/\d.K=(sL l b).K/\b<d.w.heap.size/\d.w.heap[b]?=x.w.heap[b]?/\d.q=x.q/\ki d) (na l x b) g:=by
 have u:∀{x:fc} {c:ß},x.K=(sL l b).K->(x.w.cell? ⟨b,0,Á⟩).isSome=Ò->(x.w.cell? ⟨b,1,Á⟩).isSome=Ò->fH (na l x b) x.w c->fH x x.w c:=λ{x c} f i m r=>
  ⟨r.r,λj p=>r.I j<|p.imp Ã id,r.N,r.Y,λa o q=>by
   rw[f]at o;rcases o with z|z|z
   .exact r.S a z q
   .rw[z,gK<|r.I b<|Ã<|Ç U];exact i
   .rw[z,gK (r.I b (Ã (Ç U)))];exact m⟩
 induction h with
 |@fB x g h=>
  intro s t f v i m I;refine .fB λc r=>⟨{x with w:=c},h c<|u f i m r,U,s,t,f,È v r.r,r.I b<|Ã<|Ç U,U,mA I<|u f i m r⟩
 |@ju x g G' W' E' L' iI h hd _ ih=>
  intro s t f v i m I;refine .mk iI λc r=> ?_;have B:=u f i m r;have D:=hd c B;have E:=È v r.r;have J:=λq=>s<|Ã q;have L:=D.jO b E J λa e q=>t a (Ã q) e;have F:(L' c).w.heap[b]?=x.w.heap[b]?:=by rw[D.b];exact L.trans<|r.I b<|Ã<|Ç U
  refine⟨G' c,W' c,E' c,na l (L' c) b,h c B,?_,?_⟩
  .refine⟨D.C,λj q=> ?_,λj q=> ?_,D.I,D.r,D.M,U,λj p y n=>D.jO j p (λq=>y<|Ã q) n,λa o y n=>D.N a o (λq=>y<|Ã q) n,λa o y=>D.Y a o λq=>y<|Ã q,D.f,D.g,D.m,λe N=> ?_,D.h,D.q,λq=> ?_,D.b⟩
   .rcases q with q|q
    .exact(D.S j q).imp Ã id
    .exact Ã<|Ç q
   .rcases q with q|q
    .exact D.fx j q
    .rw[q];exact È E D.C
   .rcases D.c e N with⟨a,y,n⟩|h|h|h|h|⟨a,y,n⟩
    .exact Ã ⟨a,y,n.imp Ã id⟩
    .exact Ç<|Ã h
    .exact Ç<|Ç<|Ã h
    .exact Ç<|Ç<|Ç<|Ã h
    .exact Ç<|Ç<|Ç<|Ç<|Ã h
    .exact Ç<|Ç<|Ç<|Ç<|Ç ⟨a,Ã y,n⟩
   .let⟨Q,T,V⟩:=D.i q;exact⟨Q,T,by funext j;show((L' c).O j\/j=b)=(x.O j\/j=b);rw[V]⟩
  .refine(ih c B (λq=>q.elim (λz=>(D.S b z).elim J λy=>by omega) λz=>s<|Ç<|by rw[<-D.I];exact z) (λa q=>t a<|q.imp (by rw[D.r];exact id)<|by rw[D.M];exact id) (D.k.trans f) (by rw[D.b];exact È E D.C) (by rw[gK F];exact i) (by rw[gK F];exact m) λj p=>by rw[D.b];exact D.fx j p).fN ?_;rintro G H ⟨d,y,e,j,n,o,p,z,N,Q⟩;exact⟨d,y,e,j,n,o,p,z.trans F,N.trans D.q,Q⟩
end
section
variable{L:WgLink}{l:fc}{J:Jd}{c:é}{k:List ŷ}{ty:ŭ}
structure aiU(b:Nat)(cc:Array Ï)(ty:ŭ)(l l':fc):Prop where
 r:gi (λj=>j=b) l l'
 O:l'.O=l.O
 C:l'.w.heap[b]?=Â (É (cc.setIfInBounds 0<|Ê ê 4294967296) ty)
theorem Y1(a:l.O b)(w:ß)(d:Nat):na l {sL l b with d:=d,w:=w} b={l with d:=d,w:=w}:=by
 have:(λj=>(l.O j/\j≠b)\/j=b)=l.O:=by grind
 unfold na sL;simp only[this]
def Y2{C:Array Ï}(H:WgLib P L)(s:gy l)(hq:¬l.q)(Y:l.d=0)(x:l.O b)(M:l.w.heap[b]?=Â (É C ty))(N:C[0]?=Â (Ê ê 0))(o:(C[1]?).isSome=Ò) (hT:∀B,aiU b C ty l B->fi P yQ J B (G (c.at (y.put ((Q[i]?).bind (·.dst))<|ñ #[])<|Ñ Q jJ::k) qX)): fi P yQ J l (G ((base L.add).at ⟨#[À<|Â ⟨b,0,Á⟩,Ê Î 1,Å,Å,Å,Å,Å,Å,Å,Å,Å,Å,Å,Å,Å,Å,Å,Å,Å,Å,Å,Å,Å,Å,Å,Å,Å,Å,Å,Å,Å,Å,Å,Å,Å,Å,Å,Å,Å,Å,Å,Å,Å,Å,Å,Å,Å,Å,Å,Å,Å,Å,Å,Å,Å,Å,Å,Å,Å,Å,Å,Å,Å,Å,Å,Å,Å,Å,Å,Å,Å,Å,Å,Å,Å,Å,Å,Å,Å,Å,Å,Å,Å,Å,Å,Å,Å,Å,Å,Å,Å,Å,Å,Å,Å,Å,Å,Å,Å,Å,Å,Å,Å,Å,Å,Å,Å,Å,Å,Å,Å,Å,Å,Å,Å,Å,Å],[]⟩ [ö<|body_add L])<|c.at y (Ñ Q (i::jJ)::k)::qX):=by
 have e0:l.w.cell? ⟨b,0,Á⟩=Â (Ê ê 0):=by simp[Ö,M,N]
 have e1:(l.w.cell? ⟨b,1,Á⟩).isSome=Ò:=by let⟨u,D⟩:=Ô.1 o;simp[Ö,M,D]
 have S:∀y:â,l.K y->y.block≠b:=λy T e=>(s.S y T).1<|Ã<|e▸x;let J1:Jd:=λB g'=>g'=G (c.at (y.put ((Q[i]?).bind (·.dst))<|ñ #[])<|Ñ Q jJ::k) qX/\B={sL l b with d:=0,w:=B.w}/\fH (sL l b) l.w B.w
 have hW:fi P yQ (Kh P yQ b J1) (sL l b) (G ((base L.add).at ⟨#[À<|Â ⟨b,0,Á⟩,Ê Î 1,Å,Å,Å,Å,Å,Å,Å,Å,Å,Å,Å,Å,Å,Å,Å,Å,Å,Å,Å,Å,Å,Å,Å,Å,Å,Å,Å,Å,Å,Å,Å,Å,Å,Å,Å,Å,Å,Å,Å,Å,Å,Å,Å,Å,Å,Å,Å,Å,Å,Å,Å,Å,Å,Å,Å,Å,Å,Å,Å,Å,Å,Å,Å,Å,Å,Å,Å,Å,Å,Å,Å,Å,Å,Å,Å,Å,Å,Å,Å,Å,Å,Å,Å,Å,Å,Å,Å,Å,Å,Å,Å,Å,Å,Å,Å,Å,Å,Å,Å,Å,Å,Å,Å,Å,Å,Å,Å,Å,Å,Å,Å,Å,Å,Å,Å],[]⟩ [ö<|body_add L])<|c.at y (Ñ Q (i::jJ)::k)::qX):=by refine Yo (Ψ:=λw=>fH (sL l b) l.w w) H ⟨Ã<|Ç<|Ã U,Ã<|Ç<|Ç U,λw n o t a g m h=>h.fg ⟨o,t,a,g,m⟩⟩ ⟨λj f=>s.fx j<|Ã f.1,⟨by rw[show(sL l b).w=l.w from rfl,e0];rfl,e1⟩,fH.fU _ _⟩ Y λn v=> .fB λp r=>⟨U,U,v.2.2.fg ⟨r.r,r.I,r.N,r.Y,r.S⟩⟩
 have hstart:=hW.Rq S (λq=>q.elim (λz=>z.2 U) λz=>s.c b x z) (λy T e=>s.N y T<|Ã<|e▸x) U (s.fx b<|Ã x) (by rw[show(sL l b).w=l.w from rfl,e0];rfl) e1 λj f=>s.fx j<|Ã f.1;rw[show na l (sL l b) b=l from Y1 x l.w l.d]at hstart;apply hstart.lU;rintro l1 g1 ⟨E,⟨By,aiV,hA⟩,rfl,Y3,Y4,tL,hlt1,nn,Bn,lo1⟩;let⟨g2,Y5,V⟩:=hA 0;have sw:ê.wrap (0+fY)=fY:=by rw[show(0:Int)+fY=fY from rfl];exact Jy A A
 rw[sw]at V Y5;rw[if_pos U]at V;have hqx:¬E.q:=by rwa[Bn]
 refine .mk aiV λn r=> ?_;have F:=(r.I b<|Ã<|Ç U).trans<|nn.trans M;have c0:n.cell? (fM b)=Â (Ê ê 0):=by simp[Ö,fM,F,N]
 have at5:=È hlt1 r.r;have W:(n.setCell (fM b)<|Ê ê fY).heap[b]?=Â (É (C.setIfInBounds 0<|Ê ê 4294967296) ty):=by unfold þ;simp[í,fM,F,fY]
 have rx:fH E E.w (n.setCell (fM b)<|Ê ê fY):=by
  refine⟨by rw[jU];exact r.r,λj f=>((lk λe=>Y3 (by have t:j=b:=e;rwa[<-t])).trans<|r.I j<|f.imp Ã id),λa g=>(gK<|lk<|Y4 a g).trans<|r.N a g,λa g=>sk.trans<|r.Y a g,λa g q=> ?_⟩
  .rw[tL]at g;refine yp ?_;rcases g with z|z|z
   .exact r.S a z q
   .rw[z,gK<|r.I b<|Ã<|Ç U];rwa[z]at q
   .rw[z,gK<|r.I b<|Ã<|Ç U];rwa[z]at q
 refine⟨g2,_,_,na l {E with w:=n.setCell (fM b) (Ê ê fY)} b,Y5 n c0 (by simp[î,fM,F]),?_,?_⟩
 .refine⟨by rw[jU];exact Ú _,λ_ h=>Ã h,λj h=> ?_,U,U,U,U,λj _ o _=>lk λe=>o<|Ç e,λa _ o _=>gK (lk λe=>o<|Ç e),λ_ _ _=>Oj,U,U,U,λe t=> ?_,?_,U,λq=>absurd q hqx,U⟩
  .rw[jU];rcases h with h|h
   .exact È (lo1 j h) r.r
   .rwa[h]
  .have:e=kv (fM b)\/e=mL (fM b):=by simpa using t
   rcases this with rfl|rfl
   .exact Ã ⟨fM b,U,Ã<|Ç U⟩
   .exact Ã ⟨fM b,U,Ã<|Ç U⟩
  .exact(Ņ (λe t=>by
    have:e=kv (fM b)\/e=mL (fM b):=by simpa using t
    rcases this with rfl|rfl<;>exact⟨by simp[kv,mL],by simp[kv,mL]⟩) _).symm
 have z1:((n.setCell (fM b)<|Ê ê fY).cell? ⟨b,1,Á⟩).isSome=Ò:=by let⟨u,D⟩:=Ô.1 o;exact yp<|by simp[Ö,F,D]
 have aiW:=(V.jW rx).Rq S Y3 Y4 tL (by show b<(n.setCell (fM b)<|Ê ê fY).heap.size;rwa[jU]) (yp<|by rw[show(⟨b,0,Á⟩:â)=fM b from rfl,c0];rfl) z1 (λj f=>by show j<(n.setCell (fM b)<|Ê ê fY).heap.size;rw[jU];exact È (lo1 j f) r.r);apply aiW.lU;rintro l2 g3 ⟨v,⟨oG,aiX,g4,aiY,hN2⟩,rfl,nM2,nC2,yJ,KL,X,pT,lo2⟩;have aiZ:¬v.q:=by rwa[pT]
 refine .mk aiX λp m=> ?_;have I:∀a:â,a.block=b->p.cell? a=v.w.cell? a:=λa e=>gK<|m.I a.block<|Ã<|Ç e;have rx2:fH v v.w p:=⟨m.r,λj f=>m.I j<|f.imp Ã id,m.N,m.Y,λa g q=>by
  rw[yJ]at g;rcases g with z|z|z
  .exact m.S a z q
  .rwa[I a (by rw[z])]
  .rwa[I a (by rw[z])]⟩
 refine⟨g4,p,_,na l {v with w:=p} b,aiY p,?_,?_⟩
 .refine⟨Ú _,λ_ h=>Ã h,λj h=> ?_,U,U,U,U,λ_ _ _ _=>rfl,λ_ _ _ _=>rfl,λ_ _ _=>rfl,U,U,U,λe t=> ?_,?_,U,λq=>absurd q aiZ,U⟩
  .rcases h with h|h
   .exact È (lo2 j h) m.r
   .rw[h];exact È KL m.r
  .have:e=jP (.read<|gV b):=by simpa using t
   rw[this];exact Ç<|Ç<|Ç<|Ç<|Ç ⟨gV b,Ç U,Ã U⟩
  .exact(Ņ (λe t=>by
    have:e=jP (.read<|gV b):=by simpa using t
    rw[this];exact⟨by simp[jP],by simp[jP]⟩) _).symm
 have z:(p.cell? ⟨b,0,Á⟩).isSome=Ò:=by rw[I _ U];have:v.w.heap[b]?=_:=X.trans W;simp[Ö,this,(æ.1 N).1]
 have y1:(p.cell? ⟨b,1,Á⟩).isSome=Ò:=by rw[I _ U];have:v.w.heap[b]?=_:=X.trans W;let⟨u,D⟩:=Ô.1 o;simp[Ö,this,(æ.1 D).1]
 have u:=(hN2.jW rx2).Rq S nM2 nC2 yJ (È KL m.r) z y1 λj f=>È (lo2 j f) m.r;apply u.lU;rintro l3 g5 ⟨x3,⟨rfl,D,t⟩,rfl,nM3,nC3,hk3,ai0,Rr,wZ,lo3⟩;rw[D,Y1 x];have Rs:=Rr.trans<|(m.I b<|Ã<|Ç U).trans<|X.trans W;refine hT _ ⟨⟨λ_ h=>h,λ_ h=>Ã h,U,U,U,U,U,Y.symm,λj f=>È (s.fx j<|Ã f) t.r,t.r,λj f hn=>t.I j (f.imp (λq=>⟨q,hn⟩) id),t.N,t.Y,λa g=>t.S a<|Ã g⟩,U,Rs⟩
end
noncomputable def Rt:Ę:=jZ Ĝ [1,1,1]
noncomputable def Y6:Ę:=jZ Ĝ [1,1,0,1,0,0,1,1,0,0,1,1,1]
noncomputable def Ru:Ę:=jZ Ĝ [1,1,0,1,0,0,1,1,0,0,1,1,0,1]
noncomputable def G1:Ę:=jZ Ĝ [1,1,0,1,0,0]
noncomputable def Rv:Ę:=jZ Ĝ [1,1,0,1,0,0,1,1,1]
noncomputable def Bz (t:Array Ï) (a:List é):Ý:=G ((base 46).at ⟨t,[]⟩ [ö G1,ą G1,ô 0,ö Rt]) a
noncomputable def G2 (t:Array Ï) (a:List é):Ý:=G ((base 46).at ⟨t,[]⟩ [ö Ru,ö Y6,ô 1,ö Rv,ą G1,ô 0,ö Rt]) a
structure PT(iv qv rs:Ï)(lg R i:Nat)(t:Array Ï):Prop where
 r:t.size=48
 N:t[4]?=Â iv
 S:t[5]?=Â qv
 Y:t[6]?=Â (À<|Â ⟨lg,0,Á⟩)
 C:t[13]?=Â rs
 I:t[14]?=Â (Ê Î R)
 M:t[15]?=Â (Ê Î i)
def KM(t:Array Ï)(h:t.size=48):∃a b c d e f g i j k l m n o p q r s u v w x y z B C D E F G H I J K L M N O P Q S T V W X Y pP pQ:Ï,t=#[a,b,c,d,e,f,g,i,j,k,l,m,n,o,p,q,r,s,u,v,w,x,y,z,B,C,D,E,F,G,H,I,J,K,L,M,N,O,P,Q,S,T,V,W,X,Y,pP,pQ]:=by obtain⟨_,rfl⟩:=rn t h;exact⟨_,_,_,_,_,_,_,_,_,_,_,_,_,_,_,_,_,_,_,_,_,_,_,_,_,_,_,_,_,_,_,_,_,_,_,_,_,_,_,_,_,_,_,_,_,_,_,_,U⟩
def ai1(w:ß)(a c:Option â)(b:Int):(Ċ 155 #[(0,À a),(1,Ê Î b),(2,À c)]).run Ä w=.ok (Đ #[À a,Ê Î b,À c,À Á]) w:=run_build w 155 _ _ fQ
def ai2(w:ß)(a c:Option â)(b:Int):(Ċ 155 #[(0,À a),(1,Ê Î b),(2,À c)]).events Ä w #[]=#[]:=by unfold Ċ;simp only[Sem.events_bind];simp[go_sem]
section
variable{p:Nat}{v0 v1 v2 v3:Ï}
def ai3(h:w.heap[p]?=Â (É #[v,x,z,jQ] e)):(iT w p v0 v1 v2 v3).heap[p]?=Â (É #[v0,v1,v2,v3] e):=by unfold iT þ;simp[í,h]
def gi.iT{l c:fc}(h:gi X l c)(s:gy l)(r:fH c c.w u)(f:l.w.heap.size<=p):gi X l {c with w:=fv.iT u p v0 v1 v2 v3}:=by
 have b:=h.G r;have e:∀{j:Nat},j<l.w.heap.size->(fv.iT u p v0 v1 v2 v3).heap[j]?=u.heap[j]?:=λ{j} q=>yP Z;refine⟨b.O,b.c,b.S,b.Y,b.b,b.K,b.q,b.d,λj q=> ?_,?_,λj q n=>(e<|s.fx j q).trans<|b.r j q n,λa q=>(gK<|e<|s.I a q).trans<|b.f a q,λa q=>(wC<|e<|s.I a q).trans<|b.g a q,λa q z=> ?_⟩
 .show j<(fv.iT u p v0 v1 v2 v3).heap.size;rw[wU];exact b.fx j q
 .show l.w.heap.size<=(fv.iT u p v0 v1 v2 v3).heap.size;rw[wU];exact b.I
 .show((fv.iT u p v0 v1 v2 v3).cell? a).isSome=Ò;rw[gK<|e (s.S a q).2.1];exact b.e a q z
def hD.rly{l:fc}{o:Ÿ}(h:hD l b o)(r:fH l l.w u):hD {l with w:=u} b o:=⟨h.fp,(r.I b<|Ã h.fp).trans h.I⟩
end
section
variable{J:Jd}{l:fc}{t:Array Ï}{iv qv:Ï}{lg R:Nat}{kd:Int}
def ai4(f:gy l)(o:¬l.q)(k:PT iv qv (Æ (Â ⟨j,0,Á⟩) R n) lg R i t)(Y7:i<R)(hR:R<1000)(T:l.M j)(V:l.w.cell? ⟨j,i,Á⟩=Â (À<|Â ⟨b,0,Á⟩))(F:l.M b)(W:l.w.cell? ⟨b,4,Á⟩=Â (Ê Î kd)) (X:∀B u a,gi ff l B->l.w.heap.size<=a->hD B a (É #[À<|Â ⟨b,0,Á⟩,Ê Î i,À<|Â ⟨lg,0,Á⟩,À Á] 155)->PT iv qv (Æ (Â ⟨j,0,Á⟩) R n) lg R i u->u[9]?=Â (À<|Â ⟨a,0,Á⟩)->u[28]?=Â (ŝ<|decide<|kd≠1)->fi Ä Ò J B (G2 u qX)): fi Ä Ò J l (Bz t qX):=by
 obtain⟨y0,y1,y2,y3,G,H,Y,y7,y8,y9,wV,yT,wW,rp,sE,qx,vm,vn,ui,uj,uk,sF,sG,sH,rf,sy,rh,oZ,n5,pM,pN,pO,tR,sB,sC,ri,rj,tS,tT,tU,tV,tW,tX,tY,tZ,ua,pP,pQ,rfl⟩:=KM t k.r;obtain rfl:iv=G:=(show G=iv by simpa using k.N).symm;obtain rfl:qv=H:=(show H=qv by simpa using k.S).symm;obtain rfl:Y=À (Â ⟨lg,0,Á⟩):=by simpa using k.Y
 obtain rfl:rp=Æ (Â ⟨j,0,Á⟩) R n:=by simpa using k.C
 obtain rfl:sE=Ê Î R:=by simpa using k.I
 obtain rfl:qx=Ê Î i:=by simpa using k.M
 have at6:(i:Int)<(R:Int):=Z
 have hF:True:=trivial;have ru:∀y:â,False->l.r y:=λy ha=>ha.elim;apply fP (n:=40) f.r;simp only[Bz];conv in G1=>whnf
 repeat w_go fw
 refine Ë λ_ _=> ?_;apply nP (x:=⟨j,i,Á⟩) U U (by k_ne) f.r o (Ã T) V (λw h=>by go_simp) (λw h=>by simp[go_sem,h]);walk_nrm;apply fP (n:=40) f.r;repeat w_go fw
 refine Ë λ_ _=> ?_;refine o5 (v:=Đ #[À<|Â ⟨b,0,Á⟩,Ê Î i,À<|Â ⟨lg,0,Á⟩,À Á]) U U (by k_ne) f.r o (λc r=> ?_) (λc r e C=> ?_) ?_
 .have S:=ai1 c (Â ⟨b,0,Á⟩) (Â ⟨lg,0,Á⟩) i;go_simp
 .simp[go_sem,ai2 c (Â ⟨b,0,Á⟩) (Â ⟨lg,0,Á⟩) i]at C
 walk_nrm;refine Gu (ob:=É #[À Á,Ê Î 0,À Á,À Á] 155) U U (by k_ne) f.r o (λw=>by go_simp) (λw=>by simp[go_sem]) λc D=> ?_;walk_nrm;have s:gi ff l (gI l c<|É #[À Á,Ê Î 0,À Á,À Á] 155):=mP f D;have m:hD (gI l c<|É #[À Á,Ê Î 0,À Á,À Á] 155) c.heap.size (É #[À Á,Ê Î 0,À Á,À Á] 155):=⟨Ç U,mO⟩;have E:l.w.heap.size<=c.heap.size:=D.r;generalize gI l c (É #[À Á,Ê Î 0,À Á,À Á] 155)=l₁ at s m|-;generalize c.heap.size=a at m E|-;have I:=s.N f;have K:¬l₁.q:=by rwa[s.q]
 refine vj U U (by k_ne) λd z=> ?_;have g:=m.rly z;replace g:d.heap[a]?=_:=g.I;have L:d.cell? ⟨a,0,Á⟩=Â (À Á):=by simp[Ö,g]
 have N:d.cell? ⟨a,1,Á⟩=Â (Ê Î 0):=by simp[Ö,g]
 have O:d.cell? ⟨a,2,Á⟩=Â (À Á):=by simp[Ö,g]
 have P:d.cell? ⟨a,3,Á⟩=Â (À Á):=by simp[Ö,g]
 have Q:∀r,d.frozen? ⟨a,r,Á⟩=Ì:=λr=>by simp[î,g]
 go_simp;refine⟨{l₁ with w:=iT d a (À<|Â ⟨b,0,Á⟩) (Ê Î i) (À<|Â ⟨lg,0,Á⟩) (À Á)},Kp (p:=a) (mA I.r z) K m.fp wU (λr S=>yP S) ⟨U,U,U⟩ λe C=> ?_,?_⟩
 .have S:=đ C;have e:∀r,pR l₁ ⟨a,r,Á⟩:=λr=>Ã m.fp;simp[go_sem,á _ _ _ _ _ _ (show Ø (À<|Â ⟨b,0,Á⟩)=Ò from rfl),á _ _ _ _ _ _ (show Ø (À<|Â ⟨lg,0,Á⟩)=Ò from rfl),á _ _ _ _ _ _ (show Ø (À Á)=Ò from rfl),L,N,O,P,Q]at S;rcases S with rfl|rfl|rfl|rfl
  .exact(e _).r
  .exact(e _).r
  .exact(e _).r
  .exact(e _).r
 have e:gi ff l ({l₁ with w:=iT d a (À<|Â ⟨b,0,Á⟩) (Ê Î i) (À<|Â ⟨lg,0,Á⟩) (À Á)}:fc):=s.iT f z E;have S:hD ({l₁ with w:=iT d a (À<|Â ⟨b,0,Á⟩) (Ê Î i) (À<|Â ⟨lg,0,Á⟩) (À Á)}:fc) a (É #[À<|Â ⟨b,0,Á⟩,Ê Î i,À<|Â ⟨lg,0,Á⟩,À Á] 155):=⟨m.fp,ai3 g⟩;generalize({l₁ with w:=iT d a (À<|Â ⟨b,0,Á⟩) (Ê Î i) (À<|Â ⟨lg,0,Á⟩) (À Á)}:fc)=l₂ at e S|-;clear m s I K g L N O P Q z d l₁ D c;have C:=e.N f;apply fP (n:=20) C.r;repeat w_go fw
 refine Ë λ_ _=> ?_;apply nP (x:=⟨b,4,Á⟩) U U (by k_ne) C.r (by rwa[e.q]) (Ã<|e.M F) ((gK<|e.r b F id).trans W) (λw h=>by go_simp) (λw h=>by simp[go_sem,h]);walk_nrm;apply fP (n:=20) C.r;iterate 2 w_go fw
 refine Ë λ_ _=> ?_;apply X l₂ _ a e E S ⟨U,U,U,U,U,U,U⟩ U;simp;rfl
end
section
variable{J:Jd}{l:fc}{xs:List Ï}
def ai5(s:gy l)(E:¬l.q)(o:PT v x z b j i d)(Y7:i<j)(hR:j<1000)(h9:d[9]?=Â (À<|Â ⟨m,0,Á⟩))(Rw:d[28]?=Â (ŝ Ò))(hn:n<1000) (h:hD l m (É #[À<|Â ⟨k,0,Á⟩,Ê Î i,À<|Â ⟨b,0,Á⟩,À Á] 155)) (lD:l.w.ownsRow 0 155 4 x n xs) (K:∀a,x.ownBlock=Â a->l.O a) (hJ:∀B L t,gi (λf=>Â f=x.ownBlock) l B->B.w.ownsRow 0 155 4 t (n+1) (xs++[À<|Â ⟨k,0,Á⟩,Ê Î i,À<|Â ⟨b,0,Á⟩,À Á])->(∀a,t.ownBlock=Â a->B.O a)->(t.ownBlock=x.ownBlock\/∃a,t.ownBlock=Â a/\l.w.heap.size<=a)->PT v t z b j (i+1) L->fi Ä Ò J B (Bz L qX)): fi Ä Ò J l (G2 d qX):=by
 obtain⟨y0,y1,y2,y3,M,N,y6,y7,y8,y9,wV,yT,wW,P,sE,qx,vm,vn,ui,uj,uk,sF,sG,sH,rf,sy,rh,oZ,n5,pM,pN,pO,tR,sB,sC,ri,rj,tS,tT,tU,tV,tW,tX,tY,tZ,ua,pP,pQ,rfl⟩:=KM d o.r;obtain rfl:v=M:=(show M=v by simpa using o.N).symm;obtain rfl:x=N:=(show N=x by simpa using o.S).symm;obtain rfl:y6=À (Â ⟨b,0,Á⟩):=by simpa using o.Y
 obtain rfl:y9=À (Â ⟨m,0,Á⟩):=by simpa using h9
 obtain rfl:z=P:=(show P=z by simpa using o.C).symm;obtain rfl:sE=Ê Î j:=by simpa using o.I
 obtain rfl:qx=Ê Î i:=by simpa using o.M
 obtain rfl:n5=ŝ Ò:=by simpa using Rw
 have hF:True:=trivial;apply fP (n:=40) s.r;simp only[G2];conv in Ru=>whnf
 conv in Rv=>whnf
 repeat w_go fw
 refine Ë λ_ _=> ?_;refine o5 (v:=Đ #[À<|Â ⟨k,0,Á⟩,Ê Î i,À<|Â ⟨b,0,Á⟩,À Á]) U U (by k_ne) s.r E (λp r=> ?_) (λp r e y=> ?_) ?_
 .skip;have C:p.cell? ⟨m,0,Á⟩=Â (À<|Â ⟨k,0,Á⟩):=(gY.r (show gY l ⟨m,0,Á⟩from Ã<|Ã h.fp) r).trans<|h.C U;have D:p.cell? ⟨m,1,Á⟩=Â (Ê Î i):=(gY.r (show gY l ⟨m,1,Á⟩from Ã<|Ã h.fp) r).trans<|h.C U;have F:p.cell? ⟨m,2,Á⟩=Â (À<|Â ⟨b,0,Á⟩):=(gY.r (show gY l ⟨m,2,Á⟩from Ã<|Ã h.fp) r).trans<|h.C U;have G:p.cell? ⟨m,3,Á⟩=Â (À Á):=(gY.r (show gY l ⟨m,3,Á⟩from Ã<|Ã h.fp) r).trans<|h.C U;go_simp
 .have u:∀g,gY l ⟨m,g,Á⟩:=λg=>Ã<|Ã h.fp;have C:p.cell? ⟨m,0,Á⟩=Â (À<|Â ⟨k,0,Á⟩):=(gY.r (show gY l ⟨m,0,Á⟩from Ã<|Ã h.fp) r).trans<|h.C U;have D:p.cell? ⟨m,1,Á⟩=Â (Ê Î i):=(gY.r (show gY l ⟨m,1,Á⟩from Ã<|Ã h.fp) r).trans<|h.C U;have F:p.cell? ⟨m,2,Á⟩=Â (À<|Â ⟨b,0,Á⟩):=(gY.r (show gY l ⟨m,2,Á⟩from Ã<|Ã h.fp) r).trans<|h.C U;have G:p.cell? ⟨m,3,Á⟩=Â (À Á):=(gY.r (show gY l ⟨m,3,Á⟩from Ã<|Ã h.fp) r).trans<|h.C U;simp[go_sem,C,D,F,G]at y;rcases y with rfl|rfl|rfl|rfl
  .exact(u _).C
  .exact(u _).C
  .exact(u _).C
  .exact(u _).C
 walk_nrm;refine o7 (V:=λp=>Æ (Â ⟨p,0,Á⟩) 1 1) (ob:=É #[À<|Â ⟨k,0,Á⟩,Ê Î i,À<|Â ⟨b,0,Á⟩,À Á] 155) U U (by k_ne) s.r E (λw=>by go_simp) (λw=>by simp[go_sem]) λr Q=> ?_;walk_nrm;have p:=mP (X:=ff) (ob:=É #[À<|Â ⟨k,0,Á⟩,Ê Î i,À<|Â ⟨b,0,Á⟩,À Á] 155) s Q;have y:hD (gI l r<|É #[À<|Â ⟨k,0,Á⟩,Ê Î i,À<|Â ⟨b,0,Á⟩,À Á] 155) r.heap.size (É #[À<|Â ⟨k,0,Á⟩,Ê Î i,À<|Â ⟨b,0,Á⟩,À Á] 155):=⟨Ç U,mO⟩;have C:∀a,x.ownBlock=Â a->(gI l r<|É #[À<|Â ⟨k,0,Á⟩,Ê Î i,À<|Â ⟨b,0,Á⟩,À Á] 155).O a:=λa e=>Ã<|K a e;have F:=nQ lD (w₁:=(gI l r<|É #[À<|Â ⟨k,0,Á⟩,Ê Î i,À<|Â ⟨b,0,Á⟩,À Á] 155).w) λa e=>p.r a (Ã<|K a e) id;generalize gI l r (É #[À<|Â ⟨k,0,Á⟩,Ê Î i,À<|Â ⟨b,0,Á⟩,À Á] 155)=l₄ at p y C F|-;generalize r.heap.size=px at y|-;have G:=p.N s;have S:¬l₄.q:=by rwa[p.q]
 have DW:Ä.info? 155=Â Ą:=ļ;refine GH (v:=x) (us:=[À<|Â ⟨k,0,Á⟩,Ê Î i,À<|Â ⟨b,0,Á⟩,À Á]) (px:=px) (c:=1) (n:=n) (sz:=4) (xs:=xs) (inf:=Ą) (z:=Đ #[À Á,Ê Î 0,À Á,À Á]) U U (by k_ne) G S U U U Ľ DW U U Z U U (by simp[Ą];omega) (by simp only[œ];omega) F C y.fp (λg u D=>y.C<|by simpa using D) (by simp[Ø]) λu g D H T W Y uq=> ?_;walk_nrm;have k5:gi (λf=>Â f=x.ownBlock) l₄ (mQ l₄ u D):=Ku G H W λa e=>⟨C a e,e.symm⟩;have I:gi (λf=>Â f=x.ownBlock) l (mQ l₄ u D):=(p.fN λ_ _ q=>q.elim).fg k5;have Rx:g.ownBlock=x.ownBlock\/∃a,g.ownBlock=Â a/\l.w.heap.size<=a:=uq.imp id λq=>⟨_,q,Õ p.I H.r⟩;have xd:(mQ l₄ u D).w.ownsRow 0 155 4 g (n+1) (xs++[À<|Â ⟨k,0,Á⟩,Ê Î i,À<|Â ⟨b,0,Á⟩,À Á]):=T;generalize mQ l₄ u D=sK at I xd Y|-;clear p k5 W T uq y G S C F H Q;have rz:=I.N s;have hw:Î.wrap ((i:Int)+1)=((i+1:Nat):Int):=by rw[Bc Z Z];omega
 apply fP (n:=40) rz.r;repeat w_go fw
 refine Ë λ_ _=> ?_;refine hJ sK _ g I xd Y Rx ⟨U,U,U,U,U,U,?_⟩;simp[hw]
def ai6(G:gy l)(hq:¬l.q)(hd:l.d=0)(I:PT v x z b j i d)(Y7:i<j)(hR:j<1000)(h9:d[9]?=Â (À<|Â ⟨m,0,Á⟩))(Rw:d[28]?=Â (ŝ Ì))(hn:n<1000) (h0:hD l m (É #[À<|Â ⟨k,0,Á⟩,Ê Î i,À<|Â ⟨b,0,Á⟩,À Á] 155)) (lD:l.w.ownsRow 0 155 4 v n xs) (hO:∀f,v.ownBlock=Â f->l.O f) (sI:v.ownBlock≠Â m) (hJ:∀T t' W s,gi (λg=>Â g=v.ownBlock\/g=m) l T->T.w.ownsRow 0 155 4 W (n+1) (xs++[À<|Â ⟨k,0,Á⟩,Ê Î i,À<|Â ⟨b,0,Á⟩,À<|Â ⟨s,0,Á⟩])->(∀f,W.ownBlock=Â f->T.O f)->(W.ownBlock=v.ownBlock\/∃f,W.ownBlock=Â f/\s<f)->l.w.heap.size<=s->hD T s (É #[Ê ê 4294967296,Ê Ď 0,Æ Á 0 0] 105)->PT W x z s j (i+1) t'->fi Ä Ò J T (Bz t' qX)): fi Ä Ò J l (G2 d qX):=by
 obtain⟨y0,y1,y2,y3,y4,y5,y6,y7,y8,y9,wV,yT,wW,rp,sE,qx,vm,vn,ui,uj,uk,sF,sG,sH,rf,sy,rh,oZ,n5,pM,pN,pO,tR,sB,sC,ri,rj,tS,tT,tU,tV,tW,tX,tY,tZ,ua,pP,pQ,rfl⟩:=KM d I.r;obtain rfl:v=y4:=(show y4=v by simpa using I.N).symm;obtain rfl:x=y5:=(show y5=x by simpa using I.S).symm;obtain rfl:y6=À (Â ⟨b,0,Á⟩):=by simpa using I.Y
 obtain rfl:y9=À (Â ⟨m,0,Á⟩):=by simpa using h9
 obtain rfl:z=rp:=(show rp=z by simpa using I.C).symm;obtain rfl:sE=Ê Î j:=by simpa using I.I
 obtain rfl:qx=Ê Î i:=by simpa using I.M
 obtain rfl:n5=ŝ Ì:=by simpa using Rw
 have hF:True:=trivial;apply fP (n:=40) G.r;simp only[G2];conv in Ru=>whnf
 conv in Y6=>whnf
 conv in Rv=>whnf
 repeat w_go fw
 refine Ë λ_ _=> ?_;refine Gu (ob:=É #[Ê ê 0,Ê Ď 0,Æ Á 0 0] 105) U U (by k_ne) G.r hq (λw=>by go_simp) (λw=>by simp[go_sem]) λD kB=> ?_;walk_nrm;have t:gi ff l (gI l D<|É #[Ê ê 0,Ê Ď 0,Æ Á 0 0] 105):=mP G kB;have F:hD (gI l D<|É #[Ê ê 0,Ê Ď 0,Æ Á 0 0] 105) D.heap.size (É #[Ê ê 0,Ê Ď 0,Æ Á 0 0] 105):=⟨Ç U,mO⟩;have G3:l.w.heap.size<=D.heap.size:=kB.r;generalize gI l D (É #[Ê ê 0,Ê Ď 0,Æ Á 0 0] 105)=l₁ at t F|-;generalize D.heap.size=s at F G3|-;clear kB D;have xb:=t.N G;have Bn:¬l₁.q:=by rwa[t.q]
 have htl:m<l.w.heap.size:=G.fx m<|Ã h0.fp;have t1:=h0.r t id;apply fP (n:=40) xb.r;iterate 7 w_go fw
 u_call qw.f_add (nm_add Lk) addFn fw hF
 refine Ë λ_ _=> ?_;refine Y2 qw xb Bn (by rwa[t.d]) F.fp F.I U U λy hC=> ?_;walk_nrm;have E:gi (λg=>g=s) l₁ y:=hC.r;have KN:gi ff l y:=⟨λf q=>E.O f<|t.O f q,λf q=>(E.c f q).elim (t.c f) λh=>Ç<|Õ t.I h,E.S.trans t.S,E.Y.trans t.Y,E.b.trans t.b,E.K.trans t.K,E.q.trans t.q,E.d.trans t.d,E.fx,Õ t.I E.I,λo Y nx=>(E.r o (t.M Y) λe=>by have:=G.fx o Y;omega).trans<|t.r o Y nx,λa H=>(E.f a<|by rwa[t.C]).trans<|t.f a H,λa H=>(E.g a<|by rwa[t.C]).trans<|t.g a H,λa H h=>E.e a (by rwa[t.K])<|t.e a H h⟩;have L:=t1.r E Z;have N:hD y s (É #[Ê ê 4294967296,Ê Ď 0,Æ Á 0 0] 105):=⟨E.O s F.fp,hC.C⟩;have rv:=KN.N G;have pT:¬y.q:=by rwa[KN.q]
 have hgl:s<y.w.heap.size:=rv.fx s<|Ã N.fp;clear hC E t1 F t xb Bn l₁;apply fP (n:=40) rv.r;iterate 5 w_go fw
 refine Ë λ_ _=> ?_;refine GG (p:=m) (off:=3) (v:=À<|Â ⟨s,0,Á⟩) (u:=À Á) U U (by k_ne) rv.r pT L.fp (L.C U) (by simp[î,L.I]) U (λw r S=>by go_simp) (λw r S=>by simp[go_sem,á _ _ _ _ _ _ (show Ø (À<|Â ⟨s,0,Á⟩)=Ò from rfl),r,S]) ?_;have P:gi (λg=>g=m) l {y with w:=y.w.setCell ⟨m,3,Á⟩ (À<|Â ⟨s,0,Á⟩)}:=(KN.fN λ_ _ q=>q.elim).fg (Kt (p:=m) rv (fH.fU _ _) L.fp U jU λo Y=>lk Y);have B:hD {y with w:=y.w.setCell ⟨m,3,Á⟩ (À<|Â ⟨s,0,Á⟩)} m (É #[À<|Â ⟨k,0,Á⟩,Ê Î i,À<|Â ⟨b,0,Á⟩,À<|Â ⟨s,0,Á⟩] 155):=⟨L.fp,by show(y.w.setCell ⟨m,3,Á⟩<|À<|Â ⟨s,0,Á⟩).heap[m]?=_;unfold þ;simp[í,L.I]⟩;have g3:hD {y with w:=y.w.setCell ⟨m,3,Á⟩ (À<|Â ⟨s,0,Á⟩)} s (É #[Ê ê 4294967296,Ê Ď 0,Æ Á 0 0] 105):=⟨N.fp,(lk<|by show s≠m;omega).trans N.I⟩;have ai7:s<({y with w:=y.w.setCell ⟨m,3,Á⟩ (À<|Â ⟨s,0,Á⟩)}:fc).w.heap.size:=by show s<(y.w.setCell ⟨m,3,Á⟩<|À<|Â ⟨s,0,Á⟩).heap.size;rwa[jU]
 generalize({y with w:=y.w.setCell ⟨m,3,Á⟩ (À<|Â ⟨s,0,Á⟩)}:fc)=kt at P B g3 ai7|-;clear L N KN rv pT hgl y;have Q:=P.N G;have wZ:¬kt.q:=by rwa[P.q]
 have DX:∀f,v.ownBlock=Â f->kt.O f:=λf e=>P.O f<|hO f e;have KD:kt.w.ownsRow 0 155 4 v n xs:=nQ lD λf e=>P.r f (Ã<|hO f e) λh=>sI<|h▸e;apply fP (n:=40) Q.r;iterate 3 w_go fw
 refine Ë λ_ _=> ?_;refine o5 (v:=Đ #[À<|Â ⟨k,0,Á⟩,Ê Î i,À<|Â ⟨b,0,Á⟩,À<|Â ⟨s,0,Á⟩]) U U (by k_ne) Q.r wZ (λD r=> ?_) (λD r e he=> ?_) ?_
 .skip;have g0:D.cell? ⟨m,0,Á⟩=Â (À<|Â ⟨k,0,Á⟩):=(gY.r (show gY kt ⟨m,0,Á⟩from Ã<|Ã B.fp) r).trans<|B.C U;have F:D.cell? ⟨m,1,Á⟩=Â (Ê Î i):=(gY.r (show gY kt ⟨m,1,Á⟩from Ã<|Ã B.fp) r).trans<|B.C U;have N:D.cell? ⟨m,2,Á⟩=Â (À<|Â ⟨b,0,Á⟩):=(gY.r (show gY kt ⟨m,2,Á⟩from Ã<|Ã B.fp) r).trans<|B.C U;have g3:D.cell? ⟨m,3,Á⟩=Â (À<|Â ⟨s,0,Á⟩):=(gY.r (show gY kt ⟨m,3,Á⟩from Ã<|Ã B.fp) r).trans<|B.C U;go_simp
 .have S:∀o,gY kt ⟨m,o,Á⟩:=λo=>Ã<|Ã B.fp;have g0:D.cell? ⟨m,0,Á⟩=Â (À<|Â ⟨k,0,Á⟩):=(gY.r (show gY kt ⟨m,0,Á⟩from Ã<|Ã B.fp) r).trans<|B.C U;have F:D.cell? ⟨m,1,Á⟩=Â (Ê Î i):=(gY.r (show gY kt ⟨m,1,Á⟩from Ã<|Ã B.fp) r).trans<|B.C U;have N:D.cell? ⟨m,2,Á⟩=Â (À<|Â ⟨b,0,Á⟩):=(gY.r (show gY kt ⟨m,2,Á⟩from Ã<|Ã B.fp) r).trans<|B.C U;have g3:D.cell? ⟨m,3,Á⟩=Â (À<|Â ⟨s,0,Á⟩):=(gY.r (show gY kt ⟨m,3,Á⟩from Ã<|Ã B.fp) r).trans<|B.C U;simp[go_sem,g0,F,N,g3]at he;rcases he with rfl|rfl|rfl|rfl
  .exact(S _).C
  .exact(S _).C
  .exact(S _).C
  .exact(S _).C
 walk_nrm;refine o7 (V:=λp=>Æ (Â ⟨p,0,Á⟩) 1 1) (ob:=É #[À<|Â ⟨k,0,Á⟩,Ê Î i,À<|Â ⟨b,0,Á⟩,À<|Â ⟨s,0,Á⟩] 155) U U (by k_ne) Q.r wZ (λw=>by go_simp) (λw=>by simp[go_sem]) λS Bo=> ?_;walk_nrm;have r:=mP (X:=ff) (ob:=É #[À<|Â ⟨k,0,Á⟩,Ê Î i,À<|Â ⟨b,0,Á⟩,À<|Â ⟨s,0,Á⟩] 155) Q Bo;have p4:hD (gI kt S<|É #[À<|Â ⟨k,0,Á⟩,Ê Î i,À<|Â ⟨b,0,Á⟩,À<|Â ⟨s,0,Á⟩] 155) S.heap.size (É #[À<|Â ⟨k,0,Á⟩,Ê Î i,À<|Â ⟨b,0,Á⟩,À<|Â ⟨s,0,Á⟩] 155):=⟨Ç U,mO⟩;have xc:∀f,v.ownBlock=Â f->(gI kt S<|É #[À<|Â ⟨k,0,Á⟩,Ê Î i,À<|Â ⟨b,0,Á⟩,À<|Â ⟨s,0,Á⟩] 155).O f:=λf e=>Ã<|DX f e;have Bp:=nQ KD (w₁:=(gI kt S<|É #[À<|Â ⟨k,0,Á⟩,Ê Î i,À<|Â ⟨b,0,Á⟩,À<|Â ⟨s,0,Á⟩] 155).w) λf e=>r.r f (Ã<|DX f e) id;generalize gI kt S (É #[À<|Â ⟨k,0,Á⟩,Ê Î i,À<|Â ⟨b,0,Á⟩,À<|Â ⟨s,0,Á⟩] 155)=l₄ at r p4 xc Bp|-;generalize S.heap.size=px at p4|-;have za:=r.N Q;have Bq:¬l₄.q:=by rwa[r.q]
 have DW:Ä.info? 155=Â Ą:=ļ;refine GH (v:=v) (us:=[À<|Â ⟨k,0,Á⟩,Ê Î i,À<|Â ⟨b,0,Á⟩,À<|Â ⟨s,0,Á⟩]) (px:=px) (c:=1) (n:=n) (sz:=4) (xs:=xs) (inf:=Ą) (z:=Đ #[À Á,Ê Î 0,À Á,À Á]) U U (by k_ne) za Bq U U U Ľ DW U U Z U U (by simp[Ą];omega) (by simp only[œ];omega) Bp xc p4.fp (λo u hu=>p4.C<|by simpa using hu) (by simp[Ø]) λsJ Bm KO Br si GZ Bs uq=> ?_;walk_nrm;have k5:gi (λg=>Â g=v.ownBlock) l₄ (mQ l₄ sJ KO):=Ku za Br GZ λf e=>⟨xc f e,e.symm⟩;have vq:gi (λg=>Â g=v.ownBlock) kt (mQ l₄ sJ KO):=(r.fN λ_ _ q=>q.elim).fg k5;have Rx:Bm.ownBlock=v.ownBlock\/∃f,Bm.ownBlock=Â f/\kt.w.heap.size<=f:=uq.imp id λq=>⟨_,q,Õ r.I Br.r⟩;have xd:(mQ l₄ sJ KO).w.ownsRow 0 155 4 Bm (n+1) (xs++[À<|Â ⟨k,0,Á⟩,Ê Î i,À<|Â ⟨b,0,Á⟩,À<|Â ⟨s,0,Á⟩]):=si;generalize mQ l₄ sJ KO=sK at vq xd Bs|-;clear r k5 GZ si uq p4 za Bq xc Bp Br Bo;have rz:=vq.N Q;have hw:Î.wrap ((i:Int)+1)=((i+1:Nat):Int):=by rw[Bc Z Z];omega
 have g5:=g3.r vq<|YS lD G3;have Bt:gi (λg=>Â g=v.ownBlock\/g=m) l sK:=(P.fN λ_ _ q=>Ç q).fg (vq.fN λ_ _ q=>Ã q);apply fP (n:=40) rz.r;repeat w_go fw
 refine Ë λ_ _=> ?_;refine hJ sK _ Bm s Bt xd Bs (Rx.imp id λ⟨f,q1,q2⟩=>⟨f,q1,Z⟩) G3 g5 ⟨U,U,U,U,U,U,?_⟩;simp[hw]
end
def gX(kd:Nat->Int)(i:Nat):List Nat:=(ã i).filter λj=>decide<|kd j=1
def jw(kd:Nat->Int)(i:Nat):List Nat:=(ã i).filter λj=>decide<|kd j≠1
def fK(kd:Nat->Int)(i:Nat):Nat:=(gX kd i).length
def tI(a g:Nat->Nat)(p:Nat×Nat):List Ï:=[À<|Â ⟨a p.1,0,Á⟩,Ê Î p.1,À<|Â ⟨g p.2,0,Á⟩,À<|Â ⟨g<|p.2+1,0,Á⟩]
def tQ(kd:Nat->Int)(a g:Nat->Nat)(p:Nat):List Ï:=[À<|Â ⟨a p,0,Á⟩,Ê Î p,À<|Â ⟨g<|fK kd p,0,Á⟩,À Á]
def jK(kd:Nat->Int)(rq g:Nat->Nat)(i:Nat):List Ï:=(gX kd i).zipIdx.flatMap<|tI rq g
def mB(kd:Nat->Int)(a g:Nat->Nat)(i:Nat):List Ï:=(jw kd i).flatMap<|tQ kd a g
section
variable{kd:Nat->Int}{rq g:Nat->Nat}
def sM(h:kd i=1):gX kd (i+1)=gX kd i++[i]:=by simp[gX,ÿ,ā,h]
def vr(h:kd i≠1):gX kd (i+1)=gX kd i:=by simp[gX,ÿ,ā,h]
def Ry(h:kd i=1):jw kd (i+1)=jw kd i:=by simp[jw,ÿ,ā,h]
theorem Rz(h:kd i≠1):jw kd (i+1)=jw kd i++[i]:=by simp[jw,ÿ,ā,h]
def RE:∀i,fK kd i<=i:=λi=>by unfold fK gX;exact Õ (ģ _ _) fj
def ai8:∀i,(jw kd i).length<=i:=λi=>by unfold jw;exact Õ (ģ _ _) fj
def Y8(h:j<=i):fK kd j<=fK kd i:=by
 induction i with
 |zero=>
  have:j=0:=Z
  rw[this];exact Ú _
 |succ i c=>
  by_cases e:j=i+1
  .rw[e];exact Ú _
  .have a:=c Z;by_cases b:kd i=1
   .unfold fK at a|-;rw[sM b];simp;omega
   .unfold fK at a|-;rwa[vr b]
def ai9(h:kd i=1):jK kd rq g (i+1)=jK kd rq g i++tI rq g (i,fK kd i):=by unfold jK;rw[sM h,List.zipIdx_append,List.flatMap_append];simp[fK]
def aja(h:kd i≠1):jK kd rq g (i+1)=jK kd rq g i:=by unfold jK;rw[vr h]
def ajb(h:kd i=1):mB kd rq g (i+1)=mB kd rq g i:=by unfold mB;rw[Ry h]
theorem ajc(h:kd i≠1):mB kd rq g (i+1)=mB kd rq g i++tQ kd rq g i:=by unfold mB;grind [Rz]
def RF{α:Type}{f a:α->List Ï}:∀(l:List α),(∀x∈l,f x=a x)->l.flatMap f=l.flatMap a
 |[],_=>rfl
 |x::l,h=>by rw[Ć,Ć,h x List.mem_cons_self,RF l λy b=>h y<|List.mem_cons_of_mem _ b]
def ajd(h:∀k,k<=fK kd i->D k=g k):jK kd rq D i=jK kd rq g i:=by
 unfold jK;refine RF _ λx a=> ?_;let⟨p,k⟩:=x;have b:=(List.mem_zipIdx a).2.1;have c:k<fK kd i:=by unfold fK;omega
 simp[tI,h k Z,h (k+1) Z]
def aje(h:∀k,k<=fK kd i->D k=g k):mB kd rq D i=mB kd rq g i:=by
 unfold mB;refine RF _ λp a=> ?_;have b:p<i:=by have:=(Ā.1 a).1;simpa using this
 simp[tQ,h (fK kd p)<|Y8 Z]
def RG{α:Type}{f:α->List Ï}(a:∀x,(f x).length=4)(b:i<4):∀(l:List α) (k:Nat) (x:α),l[k]?=Â x->(l.flatMap f)[k*4+i]?=(f x)[i]?
 |[],k,x,h=>by simp at h
 |y::l,0,x,h=>by
  obtain rfl:y=x:=by simpa using h
  rw[Ć,List.getElem?_append_left (by rw[a];omega)];simp
 |y::l,k+1,x,h=>by rw[Ć,List.getElem?_append_right (by rw[a];omega),a,show(k+1)*4+i-4=k*4+i by omega];exact RG a b l k x<|by simpa using h
end
section
variable{Y:Nat->Prop}{l m o:fc}
def gi.vt(h:gi X l m)(k:gi Y m o)(e:∀j,l.M j->¬Y j):gi X l o:= ⟨λj q=>k.O j<|h.O j q,λj q=>(k.c j q).elim (h.c j) λz=>Ç<|Õ h.I z,k.S.trans h.S,k.Y.trans h.Y,k.b.trans h.b,k.K.trans h.K,k.q.trans h.q,k.d.trans h.d,k.fx,Õ h.I k.I,λj c f=>(k.r j (h.M c)<|e j c).trans<|h.r j c f,λa b=>(k.f a<|by rwa[h.C]).trans<|h.f a b,λa b=>(k.g a<|by rwa[h.C]).trans<|h.g a b,λa b z=>k.e a (by rwa[h.K])<|h.e a b z⟩
end
abbrev RH:Ÿ:=É #[Ê ê 4294967296,Ê Ď 0,Æ Á 0 0] 105
structure zd(kd:Nat->Int)(rq g:Nat->Nat)(S i:Nat)(iv qv:Ï)(l0 l:fc):Prop where
 r:gi ff l0 l
 jK:l.w.ownsRow 0 155 4 iv (fK kd i) (jK kd rq g i)
 mB:l.w.ownsRow 0 155 4 qv (jw kd i).length (mB kd rq g i)
 C:∀k,iv.ownBlock=Â k->l.O k/\l0.w.heap.size<=k
 I:∀k,qv.ownBlock=Â k->l.O k/\l0.w.heap.size<=k
 M:∀k,iv.ownBlock=Â k->qv.ownBlock≠Â k
 N:∀k,1<=k->k<=fK kd i->hD l (g k) RH/\l0.w.heap.size<=g k/\iv.ownBlock≠Â (g k)/\qv.ownBlock≠Â (g k)
 g0:g 0<l0.w.heap.size
 S:g 0=S
 Y:∀k k',k<k'->k'<=fK kd i->g k<g k'
section
variable{kd:Nat->Int}{rq g:Nat->Nat}{iv qv:Ï}{l0 l m o:fc}
theorem zd.ajf(h:zd kd rq g n i iv qv l0 l)(C:gy l0)(s:gy l)(t:kd i≠1)(a:gi ff l m)(d:gi (λb=>Â b=qv.ownBlock) m o)(G:o.w.ownsRow 0 155 4 v ((jw kd i).length+1) (fv.mB kd rq g i++tQ kd rq g i))(D:∀k,v.ownBlock=Â k->o.O k)(u:v.ownBlock=qv.ownBlock\/∃k,v.ownBlock=Â k/\m.w.heap.size<=k):zd kd rq g n (i+1) iv v l0 o:=by
 have p:fK kd (i+1)=fK kd i:=by unfold fK;rw[vr t]
 have x:∀{j},l.O j->qv.ownBlock≠Â j->v.ownBlock≠Â j:=λ{j} c hn e=>by
  rcases u with z|⟨k,q,B⟩
  .grind
  .rw[q]at e;have:=Ó e;have:=(λc=>È (s.fx _<|Ã c) a.I) c;omega
 refine⟨(h.r.fg a).vt d λj c e=> ?_,?_,?_,λk e=>⟨d.O k<|a.O k (h.C k e).1,(h.C k e).2⟩,λk e=>⟨D k e,?_⟩,λk e=>x (h.C k e).1<|h.M k e,λk r f=> ?_,h.g0,h.S,λk y r f=>h.Y k y r<|by rwa[<-p]⟩
 .have:=(h.I j e.symm).2;have:=C.fx j c;omega
 .rw[p,aja t];refine nQ h.jK λk e=>(d.r k (Ã<|a.O k (h.C k e).1) λz=>h.M k e z.symm).trans<|a.r k (Ã (h.C k e).1) id
 .grind [Rz,ajc]
 .rcases u with z|⟨y,q,B⟩
  .rw[z]at e;exact(h.I k e).2
  .rw[q]at e;have:=Ó e;have:=h.r.I;have:=a.I;omega
 .rw[p]at f;let⟨q,E,F,B⟩:=h.N k r f;exact⟨(q.r a id).r d λz=>B z.symm,E,F,x q.fp B⟩
theorem zd.kK{tb:Nat}(h:zd kd rq g n i iv qv l0 l)(F:gy l0)(s:gy l)(a:kd i=1)(c:gi ff l m)(P:l.w.heap.size<=tb)(p:gi (λb=>Â b=iv.ownBlock\/b=tb) m o)(G:o.w.ownsRow 0 155 4 v (fK kd i+1) (fv.jK kd rq g i++[À<|Â ⟨rq i,0,Á⟩,Ê Î i,À<|Â ⟨g<|fK kd i,0,Á⟩,À<|Â ⟨J,0,Á⟩]))(H:∀k,v.ownBlock=Â k->o.O k)(u:v.ownBlock=iv.ownBlock\/∃k,v.ownBlock=Â k/\J<k)(Q:m.w.heap.size<=J)(I:hD o J RH):zd kd rq (λk=>if k<=fK kd i then g k else J) n (i+1) v qv l0 o:=by
 have x:fK kd (i+1)=fK kd i+1:=by unfold fK;rw[sM a];simp
 have S:=h.r.I;have T:=c.I;have d:∀{j},l.O j->j<l.w.heap.size:=λq=>s.fx _<|Ã q;have B:∀{j},l.O j->iv.ownBlock≠Â j->v.ownBlock≠Â j:=λ{j} q hn e=>by grind
 have C:∀k,k<=fK kd i->(if k<=fK kd i then g k else J)=g k:=λk a=>if_pos a;refine⟨(h.r.fg c).vt p λj q e=> ?_,?_,?_,λk e=>⟨H k e,?_⟩,λk e=>⟨p.O k<|c.O k (h.I k e).1,(h.I k e).2⟩,λk e z=>B (h.I k z).1 (λy=>h.M k y z) e,λk t D=> ?_,?_,?_,λk r t D=> ?_⟩
 .have:=F.fx j q;rcases e with e|e
  .have:=(h.C j e.symm).2;omega
  .omega
 .rw[x,ai9 a,ajd C];simpa[tI,show¬(fK kd i+1<=fK kd i) by omega]using G
 .rw[Ry a,ajb a,aje C];refine nQ h.mB λk e=> ?_;refine(p.r k (Ã<|c.O k (h.I k e).1) ?_).trans<|c.r k (Ã (h.I k e).1) id;rintro(z|z)
  .exact h.M k z.symm e
  .have:=d (h.I k e).1;omega
 .rcases u with z|⟨r,K,L⟩
  .rw[z]at e;exact(h.C k e).2
  .grind
 .by_cases y:k<=fK kd i
  .simp only[if_pos y];let⟨f,M,E,N⟩:=h.N k t y;refine⟨(f.r c id).r p ?_,M,B f.fp E,N⟩;rintro(z|z)
   .exact E z.symm
   .have:=d f.fp;omega
  .simp only[if_neg y];refine⟨I,Z,λe=> ?_,λe=> ?_⟩
   .rcases u with z|⟨r,K,L⟩
    .rw[z]at e;have:=d (h.C J e).1;omega
    .grind
   .have:=d (h.I J e).1;omega
 .simp only[ă,if_true];exact h.g0
 .simp only[ă,if_true];exact h.S
 .rw[x]at D;by_cases y:r<=fK kd i
  .simp only[if_pos y,if_pos (show k<=fK kd i by omega)];exact h.Y k r t y
  .simp only[if_neg y,if_pos (show k<=fK kd i by omega)];by_cases E:k=0
   .subst E;have:=h.g0;omega
   .let⟨f,_⟩:=h.N k Z Z;have:=d f.fp;omega
end
section
variable{J:Jd}{ra:Option â}{rb cr R:Nat}{cs:List é}{kd:Nat->Int}{rq:Nat->Nat}{l0:fc}
def RJ(j:gy l0)(u:¬l0.q)(v:l0.d=0)(m:R<1000)(p:0<R->ra=Â ⟨rb,0,Á⟩)(x:0<R->l0.M rb)(y:∀i,i<R->l0.w.cell? ⟨rb,i,Á⟩=Â (À<|Â ⟨rq i,0,Á⟩))(r:∀i,i<R->l0.M (rq i))(z:∀i,i<R->l0.w.cell? ⟨rq i,4,Á⟩=Â (Ê Î<|kd i)) (B:∀g N P a b,zd kd rq g n R a b l0 N->PT a b (Æ ra R cr) (g<|fK kd R) R R P->fi Ä Ò J N (Bz P cs)): ∀d i,R=i+d->∀g l t a b,zd kd rq g n i a b l0 l->PT a b (Æ ra R cr) (g<|fK kd i) R i t->fi Ä Ò J l (Bz t cs)
 |0,i,hi,g,l,t,a,b,hP,hT=>by obtain rfl:R=i:=hi;exact B g l t a b hP hT
 |d+1,i,hi,g,l,t,a,b,hP,hT=>by
  have f:i<R:=Z
  have o:=hP.r.N j;have Q:¬l.q:=by rwa[hP.r.q]
  have S:=x Z;refine ai4 o Q (by rwa[<-p Z]) f m (hP.r.M S) ((gK<|hP.r.r rb S id).trans<|y i f) (hP.r.M<|r i f) ((gK<|hP.r.r _ (r i f) id).trans<|z i f) λl1 t1 T c sI V C W s=> ?_;rw[<-p Z]at C;have X:=c.N o;have Y:¬l1.q:=by rwa[c.q]
  have hc:=RE (kd:=kd) i;have hcq:=ai8 (kd:=kd) i;by_cases h:kd i=1
  .rw[decide_eq_false (by simpa using h)]at s;refine ai6 X Y (by rwa[c.d,hP.r.d]) C f m W s Z V (nQ hP.jK λk e=>c.r k (Ã (hP.C k e).1) id) (λk e=>c.O k (hP.C k e).1) (λe=>by have:=o.fx T<|Ã (hP.C T e).1;omega) λD E iv' gt F G H I G3 hg K=> ?_;apply RJ j u v m p x y r z B d (i+1) Z _ D E iv' b (hP.kK j o h c sI F G H I G3 hg);have L:fK kd (i+1)=fK kd i+1:=by unfold fK;rw[sM h];simp
   rw[L];simp only[show¬(fK kd i+1<=fK kd i) by omega,if_false];exact K
  .rw[decide_eq_true (by simpa using h)]at s;refine ai5 X Y C f m W s Z V (nQ hP.mB λk e=>c.r k (Ã (hP.I k e).1) id) (λk e=>c.O k (hP.I k e).1) λD E e F G H I K=> ?_;apply RJ j u v m p x y r z B d (i+1) Z _ D E a e (hP.ajf j o h c F G H I);have L:fK kd (i+1)=fK kd i:=by unfold fK;rw[vr h]
   rwa[L]
end
noncomputable def Y9:Ę:=jZ Ĝ []
noncomputable def Za (a b:Ï) (c:List é):Ý:=G ((base 46).at ⟨#[a,b,Å,Å,Å,Å,Å,Å,Å,Å,Å,Å,Å,Å,Å,Å,Å,Å,Å,Å,Å,Å,Å,Å,Å,Å,Å,Å,Å,Å,Å,Å,Å,Å,Å,Å,Å,Å,Å,Å,Å,Å,Å,Å,Å,Å,Å,Å],[]⟩ [ö Y9]) c
def ajg{c:é}{d:ŏ}{k:List ŷ}{K:Ý->ß->Array ž->Prop}{t u v:Tmp}(g:f.kind=Ğ)(j:y.defers=[])(l:P.funcs[f.fn]?=Â s)(e:s.results=#[.tmp t,.tmp u,.tmp v]) (h:K (G (c.at (d.put ((Q[i]?).bind (·.dst))<|ñ #[y.tmps.getD t Å,y.tmps.getD u Å,y.tmps.getD v Å])<|Ñ Q jJ::k) qX) w #[]): (stepG P yQ (G {f.at y L with mode:=.returning}<|c.at d (Ñ Q (i::jJ)::k)::qX) w).goes K:=by rwa[stepG_leave g j l (v:=ñ #[y.tmps.getD t Å,y.tmps.getD u Å,y.tmps.getD v Å]) (by simp[results,e,go_sem]) (by simp[results,e,go_sem]),Ģ]
structure G4(kd:Nat->Int)(rq g:Nat->Nat)(R:Nat)(iv qv sv:Ï)(l l':fc):Prop where
 Y:gi ff l l'
 jK:l'.w.ownsRow 0 155 4 iv (fK kd R) (jK kd rq g R)
 mB:l'.w.ownsRow 0 155 4 qv (jw kd R).length (mB kd rq g R)
 r:∀k,iv.ownBlock=Â k->l'.O k/\l.w.heap.size<=k
 C:∀k,qv.ownBlock=Â k->l'.O k/\l.w.heap.size<=k
 dis:∀k,iv.ownBlock=Â k->qv.ownBlock≠Â k
 N:hD l' (g 0) (É #[Ê ê 0,Ê Ď 0,sv] 105)
 I:∀k,1<=k->k<=fK kd R->hD l' (g k) RH
 M:∀k,k<=fK kd R->l.w.heap.size<=g k/\iv.ownBlock≠Â (g k)/\qv.ownBlock≠Â (g k)
 S:∀k k',k<k'->k'<=fK kd R->g k<g k'
def ajh(w:ß)(a:Option â)(b c:Nat):(Ċ 105 #[(1,Æ a b c)]).run Ä w=.ok (Đ #[Ê ê 0,Ê Ď 0,Æ a b c]) w:=run_build w 105 _ _ fQ
def aji(w:ß)(a:Option â)(b c:Nat):(Ċ 105 #[(1,Æ a b c)]).events Ä w #[]=#[]:=by unfold Ċ;simp only[Sem.events_bind];simp[go_sem]
section
variable{J:Jd}{l:fc}{ra:Option â}{rb cr R:Nat}{sa:Option â}{sn sc:Nat}{k:List ŷ}{kd:Nat->Int}{rq:Nat->Nat}
def ajj(j:gy l)(u:¬l.q)(I:l.d=0)(K:R<1000)(L:0<R->ra=Â ⟨rb,0,Á⟩)(z:0<R->l.M rb)(N:∀i,i<R->l.w.cell? ⟨rb,i,Á⟩=Â (À<|Â ⟨rq i,0,Á⟩))(B:∀i,i<R->l.M (rq i))(O:∀i,i<R->l.w.cell? ⟨rq i,4,Á⟩=Â (Ê Î<|kd i)) (P:∀g s b c,G4 kd rq g R b c (Æ sa sn sc) l s->fi Ä Ò J s (G (f.at (y.put ((Q[i]?).bind (·.dst))<|ñ #[b,c,À<|Â ⟨g<|fK kd R,0,Á⟩])<|Ñ Q jJ::k) qX)): fi Ä Ò J l (Za (Æ ra R cr) (Æ sa sn sc)<|f.at y (Ñ Q (i::jJ)::k)::qX):=by
 have hF:=trivial;apply fP (n:=40) j.r;simp only[Za];conv in Y9=>whnf
 repeat w_go fw
 refine Ë λ_ _=> ?_;refine o5 (v:=Đ #[Ê ê 0,Ê Ď 0,Æ sa sn sc]) U U (by k_ne) j.r u (λa r=> ?_) (λa r e p=> ?_) ?_
 .have h:=ajh a sa sn sc;go_simp
 .have h:=aji a sa sn sc;simp[go_sem,h]at p
 walk_nrm;refine o7 (V:=λp=>À<|Â ⟨p,0,Á⟩) (ob:=É #[Ê ê 0,Ê Ď 0,Æ sa sn sc] 105) U U (by k_ne) j.r u (λw=>by go_simp) (λw=>by simp[go_sem]) λa C=> ?_;walk_nrm;have p:gi ff l (gI l a<|É #[Ê ê 0,Ê Ď 0,Æ sa sn sc] 105):=mP j C;have t:hD (gI l a<|É #[Ê ê 0,Ê Ď 0,Æ sa sn sc] 105) a.heap.size (É #[Ê ê 0,Ê Ď 0,Æ sa sn sc] 105):=⟨Ç U,mO⟩;have D:=C.r;generalize gI l a (É #[Ê ê 0,Ê Ď 0,Æ sa sn sc] 105)=l₁ at p t|-;generalize a.heap.size=gt at t D|-;have m:=p.N j;have S:¬l₁.q:=by rwa[p.q]
 apply fP (n:=40) m.r;repeat w_bar fw
 w_go fw
 refine Ë λ_ _=> ?_;have T:=m.fx gt<|Ã t.fp;refine RJ m S (by rwa[p.d]) K L (λh=>p.M<|z h) (λi h=>(gK<|p.r rb (z Z) id).trans<|N i h) (λi h=>p.M<|B i h) (λi h=>(gK<|p.r _ (B i h) id).trans<|O i h) (λg s W b c h r=> ?_) R 0 Z (λ_=>gt) l₁ _ (Æ Á 0 0) (Æ Á 0 0) ⟨gi.fU m.r,⟨U,Ã ⟨U,U⟩⟩,⟨U,Ã ⟨U,U⟩⟩,λk e=>(by cases e),λk e=>(by cases e),λk e=>(by cases e),λk x o=> ?_,T,rfl,λk X x o=> ?_⟩ ⟨rfl,rfl,rfl,rfl,rfl,rfl,rfl⟩
 .have Y:=h.r.N m;obtain⟨y0,y1,y2,y3,E,F,y6,y7,y8,y9,wV,yT,wW,rp,sE,qx,vm,vn,ui,uj,uk,sF,sG,sH,rf,sy,rh,oZ,n5,pM,pN,pO,tR,sB,sC,ri,rj,tS,tT,tU,tV,tW,tX,tY,tZ,ua,pP,pQ,rfl⟩:=KM W r.r;obtain rfl:b=E:=(show E=b by simpa using r.N).symm;obtain rfl:c=F:=(show F=c by simpa using r.S).symm;obtain rfl:y6=À (Â ⟨g<|fK kd R,0,Á⟩):=by simpa using r.Y
  obtain rfl:rp=Æ ra R cr:=by simpa using r.C
  obtain rfl:sE=Ê Î R:=by simpa using r.I
  obtain rfl:qx=Ê Î R:=by simpa using r.M
  have gN:¬((R:Int)<(R:Int)):=Z
  apply fP (n:=40) Y.r;simp only[Bz];conv in G1=>whnf
  conv in Rt=>whnf
  repeat w_go fw
  u_in fw hF
  refine ajg U U ų U ⟨by u_nil,?_⟩;walk_nrm;refine Ë λ_ _=> ?_;have H:=h.S;refine P g s b c ⟨p.fg h.r,h.jK,h.mB,λk e=>⟨(h.C k e).1,Õ p.I (h.C k e).2⟩,λk e=>⟨(h.I k e).1,Õ p.I (h.I k e).2⟩,h.M,H▸t.r h.r id,λk x o=>(h.N k x o).1,λk hk=> ?_,h.Y⟩;by_cases h0:k=0
  .subst h0;rw[H];exact⟨D,λe=>by have:=(h.C _ e).2;omega,λe=>by have:=(h.I _ e).2;omega⟩
  .let⟨_,a2,a3,a4⟩:=h.N k Z hk;exact⟨Õ p.I a2,a3,a4⟩
 .have:k<=0:=o;omega
 .have:X<=0:=o;omega
end
noncomputable def Zb:Ę:=jZ Tryz.f37 []
noncomputable def DY (a b:Ï) (n:Nat) (c:List é):Ý:=G ((base 37).at ⟨#[a,b,Ê Î n,Å,Å,Å,Å,Å,Å,Å,Å,Å,Å,Å,Å,Å,Å,Å,Å,Å,Å,Å,Å,Å,Å,Å,Å,Å,Å,Å,Å,Å,Å,Å,Å,Å,Å,Å,Å,Å,Å,Å,Å,Å,Å,Å,Å,Å,Å],[]⟩ [ö Zb]) c
def G4.vt{kd:Nat->Int}{rq:Nat->Nat}{R:Nat}{l a b:fc}(h:G4 kd rq D R v x z l a)(k:gi ff a b):G4 kd rq D R v x z l b:= ⟨h.Y.fg k,nQ h.jK λj e=>k.r j (Ã (h.r j e).1) id,nQ h.mB λj e=>k.r j (Ã (h.C j e).1) id,λj e=>⟨k.O j (h.r j e).1,(h.r j e).2⟩,λj e=>⟨k.O j (h.C j e).1,(h.C j e).2⟩,h.dis,h.N.r k id,λj c d=>(h.I j c d).r k id,h.M,h.S⟩
abbrev xf(R:Nat):Ÿ:=É (madeCells (Ŵ<|à ⟨#[]⟩) R) 9
structure KP(kd:Nat->Int)(rq g:Nat->Nat)(R:Nat)(iv qv sv:Ï)(an ba bi all bw bf:Nat)(l lp l':fc):Prop where
 C:gi ff l l'
 r:G4 kd rq g R iv qv sv lp l'
 I:hD l' an (xf R)
 a:hD l' ba (É #[Æ (Â ⟨an,0,Á⟩) R R] 25)
 c:hD l' bi (É #[iv] 85)
 Y:hD l' all (É #[Ê ê 4294967296,Ê Ď 0] 97)
 d:hD l' bw (É #[À<|Â ⟨all,0,Á⟩] 162)
 b:hD l' bf (É #[Ĉ (ù 48) #[] #[À<|Â ⟨bi,0,Á⟩,À<|Â ⟨ba,0,Á⟩]] 1)
 M:l.w.heap.size<=an/\an<ba/\ba<lp.w.heap.size
 N:∀k,k<=fK kd R->g k<bi
 o3:∀k,iv.ownBlock=Â k->k<bi
 o4:∀k,qv.ownBlock=Â k->k<bi
 S:bi<all/\all<bw/\bw<bf
section
variable{J:Jd}{l:fc}{ra:Option â}{rb cr R:Nat}{sa:Option â}{sn sc:Nat}{kd:Nat->Int}{rq:Nat->Nat}
def ajk(C:gy l)(G:¬l.q)(hd:l.d=0)(hR:R<1000)(G5:0<R->ra=Â ⟨rb,0,Á⟩)(vu:0<R->l.M rb)(G6:∀i,i<R->l.w.cell? ⟨rb,i,Á⟩=Â (À<|Â ⟨rq i,0,Á⟩))(JR:∀i,i<R->l.M (rq i))(G7:∀i,i<R->l.w.cell? ⟨rq i,4,Á⟩=Â (Ê Î<|kd i)) (hJ:∀g lp l' t iv qv H y z D W bf v1,KP kd rq g R iv qv (Æ sa sn sc) H y z D W bf l lp l'->GV y D (g<|fK kd R) n qv t->J l' (Bl (À<|Â ⟨D,0,Á⟩) v1 (À<|Â ⟨D,0,Á⟩) (ñ #[]) W bf<|DV t::qX)): fi Ä Ò J l (DY (Æ sa sn sc) (Æ ra R cr) n qX):=by
 have hF:True:=trivial;have Zc:Ä.info? 9=Â Ġ:=Tryz.type9;have O6:∀w:ß,(Ŏ 25 (Ê Î (R:Int))<|Ê Î (R:Int)).run Ä w=.ok (Æ (Â ⟨w.heap.size,0,Á⟩) R R) (w.alloc<|xf R):=λw=>by have:=run_makeSlice (P:=Ä) w 25 9 Ġ (à ⟨#[]⟩) ľ Zc U Î Î (R:Int) (R:Int) Z Z (by simp[Ġ];omega) (by simp[Ġ];omega) Z;simpa[Ġ]using this
 have hme:∀w:ß,(Ŏ 25 (Ê Î (R:Int))<|Ê Î (R:Int)).events Ä w #[]=#[]:=λw=>
  events_make (P:=Ä) w 25 9 Ġ (à ⟨#[]⟩) ľ Zc U Î Î (R:Int) (R:Int) Z Z (by simp[Ġ];omega) Z (by simp[Ġ];omega) _
 apply fP (n:=40) C.r;simp only[DY];conv in Zb=>whnf
 repeat w_go fw
 refine Ë λ_ _=> ?_;refine o7 (V:=λp=>Æ (Â ⟨p,0,Á⟩) R R) (ob:=xf R) U U (by k_ne) C.r G (λw=>by have k:=O6 w;go_simp) (λw=>by have k:=hme w;simp[go_sem,k]) λc m=> ?_;walk_nrm;have a:=mP (X:=ff) (ob:=xf R) C m;have r:hD (gI l c<|xf R) c.heap.size (xf R):=⟨Ç U,mO⟩;have han:l.w.heap.size<=c.heap.size:=m.r;generalize gI l c (xf R)=l1 at a r|-;generalize c.heap.size=H at r han|-;clear m c;have RL:gi ff l l1:=a;have RN:=RL.N C;have ajl:¬l1.q:=by rwa[RL.q]
 have at7:l.w.heap.size<=l1.w.heap.size:=a.I;clear a;have lan:=RN.fx H<|Ã r.fp;refine o7 (V:=λp=>À<|Â ⟨p,0,Á⟩) (ob:=É #[Æ Á 0 0] 25) U U (by k_ne) RN.r ajl (λw=>by go_simp) (λw=>by simp[go_sem]) λc m=> ?_;walk_nrm;have a:=mP (X:=ff) (ob:=É #[Æ Á 0 0] 25) RN m;have f:hD (gI l1 c<|É #[Æ Á 0 0] 25) c.heap.size (É #[Æ Á 0 0] 25):=⟨Ç U,mO⟩;have Zd:l1.w.heap.size<=c.heap.size:=m.r;generalize gI l1 c (É #[Æ Á 0 0] 25)=l2 at a f|-;generalize c.heap.size=y at f Zd|-;clear m c;have RO:gi ff l l2:=RL.fg a;replace r:=r.r a id;have RP:=RO.N C;have ajm:¬l2.q:=by rwa[RO.q]
 have aua:l1.w.heap.size<=l2.w.heap.size:=a.I;clear a;have lba:=RP.fx y<|Ã f.fp;refine GG (p:=y) (off:=0) (v:=Æ (Â ⟨H,0,Á⟩) R R) (u:=Æ Á 0 0) U U (by k_ne) RP.r ajm f.fp (f.C U) (by simp[î,f.I]) U (λw o F=>by go_simp) (λw o F=>by simp[go_sem,á _ _ _ _ _ _ (show Ø (Æ (Â ⟨H,0,Á⟩) R R)=Ò from rfl),o,F]) ?_;have a:=Kt (X:=λb=>b=y) (p:=y) (w':=l2.w.setCell ⟨y,0,Á⟩<|Æ (Â ⟨H,0,Á⟩) R R) RP (fH.fU _ _) f.fp U jU λj E=>lk E;replace f:hD ({l2 with w:=l2.w.setCell ⟨y,0,Á⟩ (Æ (Â ⟨H,0,Á⟩) R R)}:fc) y (É #[Æ (Â ⟨H,0,Á⟩) R R] 25):=⟨f.fp,by show(l2.w.setCell ⟨y,0,Á⟩<|Æ (Â ⟨H,0,Á⟩) R R).heap[y]?=_;unfold þ;simp[í,f.I]⟩;generalize({l2 with w:=l2.w.setCell ⟨y,0,Á⟩ (Æ (Â ⟨H,0,Á⟩) R R)}:fc)=l3 at a f|-;have S:gi ff l l3:=RO.vt a λj E e=>by have:=C.fx j E;omega
 replace r:=r.r a Z;have Ze:=S.N C;have ajn:¬l3.q:=by rwa[S.q]
 have aub:l2.w.heap.size<=l3.w.heap.size:=a.I;clear a;apply fP (n:=20) Ze.r;iterate 5 w_go fw
 u_call ų fQ Ĝ fw hF
 refine Ë λ_ _=> ?_;refine ajj (l:=l3) (kd:=kd) (rq:=rq) (ra:=ra) (rb:=rb) (cr:=cr) (R:=R) (sa:=sa) (sn:=sn) (sc:=sc) Ze ajn (by rwa[S.d]) hR G5 (λh=>S.M<|vu h) (λi k=>(gK<|S.r rb (vu Z) id).trans<|G6 i k) (λi k=>S.M<|JR i k) (λi k=>(gK<|S.r _ (JR i k) id).trans<|G7 i k) λg B iv qv T=> ?_;walk_nrm;have a:=T.Y;have RR:gi ff l B:=S.fg a;replace r:=r.r a id;replace f:=f.r a id;have L:=RR.N C;have ajo:¬B.q:=by rwa[RR.q]
 have auc:l3.w.heap.size<=B.w.heap.size:=a.I;clear a;have ajp:gi ff B B:=gi.fU L.r;obtain⟨I,K,rfl⟩:∃I K,iv=Æ I (fK kd R) K:=by
  rcases T.jK.2 with⟨k,s⟩|⟨b,N,Q,k,_⟩
  .exact⟨Á,0,by rwa[s]⟩
  .exact⟨_,_,k⟩
 have og:∀k,k<=fK kd R->g k<B.w.heap.size:=λk hk=>by
  by_cases s:k=0
  .subst s;exact L.fx _<|Ã T.N.fp
  .exact L.fx _<|Ã (T.I k Z hk).fp
 have oi:∀k,(Æ I (fK kd R) K).ownBlock=Â k->k<B.w.heap.size:=λk e=>L.fx _<|Ã (T.r k e).1;have oq:∀k,qv.ownBlock=Â k->k<B.w.heap.size:=λk e=>L.fx _<|Ã (T.C k e).1;apply fP (n:=20) L.r;iterate 4 w_go fw
 refine Ë λ_ _=> ?_;refine o7 (V:=λp=>À<|Â ⟨p,0,Á⟩) (ob:=É #[Æ Á 0 0] 85) U U (by k_ne) L.r ajo (λw=>by go_simp) (λw=>by simp[go_sem]) λc m=> ?_;walk_nrm;have a:=mP (X:=ff) (ob:=É #[Æ Á 0 0] 85) L m;have s:hD (gI B c<|É #[Æ Á 0 0] 85) c.heap.size (É #[Æ Á 0 0] 85):=⟨Ç U,mO⟩;have RU:B.w.heap.size<=c.heap.size:=m.r;generalize gI B c (É #[Æ Á 0 0] 85)=l5 at a s|-;generalize c.heap.size=z at s RU|-;clear m c;have RV:gi ff l l5:=RR.fg a;have ajq:gi ff B l5:=ajp.fg a;replace r:=r.r a id;replace f:=f.r a id;have RY:=RV.N C;have ajr:¬l5.q:=by rwa[RV.q]
 have aud:B.w.heap.size<=l5.w.heap.size:=a.I;clear a;have lbi:=RY.fx z<|Ã s.fp;refine GG (p:=z) (off:=0) (v:=Æ I (fK kd R) K) (u:=Æ Á 0 0) U U (by k_ne) RY.r ajr s.fp (s.C U) (by simp[î,s.I]) U (λw o F=>by go_simp) (λw o F=>by simp[go_sem,á _ _ _ _ _ _ (show Ø (Æ I (fK kd R) K)=Ò from rfl),o,F]) ?_;have a:=Kt (X:=λb=>b=z) (p:=z) (w':=l5.w.setCell ⟨z,0,Á⟩<|Æ I (fK kd R) K) RY (fH.fU _ _) s.fp U jU λj E=>lk E;replace s:hD ({l5 with w:=l5.w.setCell ⟨z,0,Á⟩ (Æ I (fK kd R) K)}:fc) z (É #[Æ I (fK kd R) K] 85):=⟨s.fp,by show(l5.w.setCell ⟨z,0,Á⟩<|Æ I (fK kd R) K).heap[z]?=_;unfold þ;simp[í,s.I]⟩;generalize({l5 with w:=l5.w.setCell ⟨z,0,Á⟩ (Æ I (fK kd R) K)}:fc)=l6 at a s|-;have RZ:gi ff l l6:=RV.vt a λj E e=>by have:=C.fx j E;omega
 have ajs:gi ff B l6:=ajq.vt a λj E e=>by have:=L.fx j E;omega
 replace r:=r.r a Z;replace f:=f.r a Z;have R0:=RZ.N C;have ajt:¬l6.q:=by rwa[RZ.q]
 have aue:l5.w.heap.size<=l6.w.heap.size:=a.I;clear a;apply fP (n:=20) R0.r;iterate 5 w_go fw
 refine Ë λ_ _=> ?_;refine o7 (V:=λp=>À<|Â ⟨p,0,Á⟩) (ob:=É #[Ê ê 0,Ê Ď 0] 97) U U (by k_ne) R0.r ajt (λw=>by go_simp) (λw=>by simp[go_sem]) λc m=> ?_;walk_nrm;have a:=mP (X:=ff) (ob:=É #[Ê ê 0,Ê Ď 0] 97) R0 m;have F:hD (gI l6 c<|É #[Ê ê 0,Ê Ď 0] 97) c.heap.size (É #[Ê ê 0,Ê Ď 0] 97):=⟨Ç U,mO⟩;have pU:l6.w.heap.size<=c.heap.size:=m.r;generalize gI l6 c (É #[Ê ê 0,Ê Ď 0] 97)=l7 at a F|-;generalize c.heap.size=D at F pU|-;clear m c;have R1:gi ff l l7:=RZ.fg a;have aju:gi ff B l7:=ajs.fg a;replace r:=r.r a id;replace f:=f.r a id;replace s:=s.r a id;have KQ:=R1.N C;have ajv:¬l7.q:=by rwa[R1.q]
 have auf:l6.w.heap.size<=l7.w.heap.size:=a.I;clear a;have aug:=KQ.fx D<|Ã F.fp;apply fP (n:=20) KQ.r;iterate 4 w_go fw
 u_call Ħ fQ Μ fw hF
 iterate 2 w_go fw
 refine Ë λ_ _=> ?_;refine o7 (V:=λp=>À<|Â ⟨p,0,Á⟩) (ob:=É #[À<|Â ⟨D,0,Á⟩] 162) U U (by k_ne) KQ.r ajv (λw=>by go_simp) (λw=>by simp[go_sem]) λc m=> ?_;walk_nrm;have a:=mP (X:=ff) (ob:=É #[À<|Â ⟨D,0,Á⟩] 162) KQ m;have N:hD (gI l7 c<|É #[À<|Â ⟨D,0,Á⟩] 162) c.heap.size (É #[À<|Â ⟨D,0,Á⟩] 162):=⟨Ç U,mO⟩;have Bu:l7.w.heap.size<=c.heap.size:=m.r;generalize gI l7 c (É #[À<|Â ⟨D,0,Á⟩] 162)=l8 at a N|-;generalize c.heap.size=W at N Bu|-;clear m c;have R2:gi ff l l8:=R1.fg a;have ajw:gi ff B l8:=aju.fg a;replace r:=r.r a id;replace f:=f.r a id;replace s:=s.r a id;replace F:=F.r a id;have R3:=R2.N C;have ajx:¬l8.q:=by rwa[R2.q]
 have auh:l7.w.heap.size<=l8.w.heap.size:=a.I;clear a;have lbw:=R3.fx W<|Ã N.fp;refine o7 (V:=λp=>À<|Â ⟨p,0,Á⟩) (ob:=É #[Ĉ (ù 48) #[] #[À<|Â ⟨z,0,Á⟩,À<|Â ⟨y,0,Á⟩]] 1) U U (by k_ne) R3.r ajx (λw=>by go_simp) (λw=>by simp[go_sem]) λc m=> ?_;walk_nrm;have a:=mP (X:=ff) (ob:=É #[Ĉ (ù 48) #[] #[À<|Â ⟨z,0,Á⟩,À<|Â ⟨y,0,Á⟩]] 1) R3 m;have Y:hD (gI l8 c<|É #[Ĉ (ù 48) #[] #[À<|Â ⟨z,0,Á⟩,À<|Â ⟨y,0,Á⟩]] 1) c.heap.size (É #[Ĉ (ù 48) #[] #[À<|Â ⟨z,0,Á⟩,À<|Â ⟨y,0,Á⟩]] 1):=⟨Ç U,mO⟩;have KI:l8.w.heap.size<=c.heap.size:=m.r;generalize gI l8 c (É #[Ĉ (ù 48) #[] #[À<|Â ⟨z,0,Á⟩,À<|Â ⟨y,0,Á⟩]] 1)=l9 at a Y|-;generalize c.heap.size=bf at Y KI|-;clear m c;have KR:gi ff l l9:=R2.fg a;have ajy:gi ff B l9:=ajw.fg a;replace r:=r.r a id;replace f:=f.r a id;replace s:=s.r a id;replace F:=F.r a id;replace N:=N.r a id;have G8:=KR.N C;have Zf:¬l9.q:=by rwa[KR.q]
 have aui:l8.w.heap.size<=l9.w.heap.size:=a.I;clear a;have lbf:=G8.fx bf<|Ã Y.fp;apply fP (n:=20) G8.r;iterate 3 w_go fw
 refine Ë λ_ _=> ?_;apply nP (x:=⟨W,0,Á⟩) U U (by k_ne) G8.r Zf (Ã<|Ã N.fp) (N.C U) (λw h=>by go_simp) (λw h=>by simp[go_sem,h]);walk_nrm;apply fP (n:=20) G8.r;u_call qw.f_add (nm_add Lk) addFn fw hF;refine Ë λ_ _=> ?_;refine Y2 qw G8 Zf (by rwa[KR.d]) F.fp F.I U U λQ hC=> ?_;walk_nrm;have a:gi (λb=>b=D) l9 Q:=hC.r;replace F:hD Q D (É #[Ê ê 4294967296,Ê Ď 0] 97):=⟨hC.r.O D F.fp,hC.C⟩;have R4:gi ff l Q:=KR.vt a λj E e=>by have:=C.fx j E;omega
 have ajz:gi ff B Q:=ajy.vt a λj E e=>by have:=L.fx j E;omega
 replace r:=r.r a Z;replace f:=f.r a Z;replace s:=s.r a Z;replace N:=N.r a Z;replace Y:=Y.r a Z;have ajA:=R4.N C;have auj:¬Q.q:=by rwa[R4.q]
 have auk:l9.w.heap.size<=Q.w.heap.size:=a.I;clear a;apply fP (n:=20) ajA.r;iterate 3 w_go fw
 refine Ë λ_ _=> ?_;refine .fB λBx xe=> ?_;have at9:∀{b:Nat} {o:Ÿ},hD Q b o->hD ({Q with w:=Bx}:fc) b o:=λh=>⟨h.fp,(xe.I _<|Ã h.fp).trans h.I⟩;exact hJ g l3 {Q with w:=Bx} _ (Æ I (fK kd R) K) qv H y z D W bf _ ⟨R4.G xe,T.vt<|ajz.G xe,at9 r,at9 f,at9 s,at9 F,at9 N,at9 Y,⟨Z,Z,Z⟩,λk hk=>by have:=og k hk;omega,λk e=>by have:=oi k e;omega,λk e=>by have:=oq k e;omega,⟨Z,Z,Z⟩⟩ ⟨U,U,U,U,U,U⟩
end
def ajB{md:ý}{listed:Array Bool}(h:Û md Q listed=[]):∀(a t:Nat),ë md Q a t listed []=[]:=by
 intro a t;cases a with
 |zero=>rfl
 |succ a=>
  simp only[ë];change(match(Û md Q listed)[t%(Û md Q listed).length]? with
   |some i=>ë md Q a (t/(Û md Q listed).length) (listed.setIfInBounds i Ò) [i]
   |none=>[].reverse)=[]
  rw[h];rfl
section
variable{J:Jd}{l:fc}
def Zg{md:ý}(I:Array Bool->ŏ->fc->Prop) (p:∀b a l i k,I b a l->b.size=Q.size->i∈Û md Q b->(Û md Q (b.setIfInBounds i Ò)=[]->k=[])->fi P yQ (λg m=>(∃h,m=G (f.at h<|Ñ Q k::L) qX/\I (b.setIfInBounds i Ò) h g)\/fi P yQ J g m) l (G (f.at a<|Ñ Q (i::k)::L) qX)) (o:∀b a l,I b a l->b.size=Q.size->Û md Q b=[]->fi P yQ J l (G (f.at a<|Ñ Q []::L) qX)): ∀(c t:Nat) (b:Array Bool) (a:ŏ) (l:fc),b.size=Q.size->jo b<=c->I b a l->fi P yQ J l (G (f.at a<|Ñ Q (ë md Q c t b [])::L) qX):=by
 intro c
 induction c with
 |zero=>
  intro t b a l d q j;simpa[ë]using o b a l j d<|QK d Z
 |succ c r=>
  intro t b a l d q j;simp only[ë];change fi P yQ J l (G (f.at a (Ñ Q (match(Û md Q b)[t%(Û md Q b).length]? with
   |some i=>ë md Q c (t/(Û md Q b).length) (b.setIfInBounds i Ò) [i]
   |none=>[].reverse)::L)) qX)
  cases n:(Û md Q b)[t%(Û md Q b).length]? with
  |none=>
   have s:Û md Q b=[]:=by
    cases u:Û md Q b with
    |nil=>rfl
    |cons x e=>
     rw[u]at n;have v:t%(x::e).length<(x::e).length:=ĵ _ fj;simp at n;simp at v;omega
   simpa using o b a l j d s
  |some i=>
   simp only[];rw[linearise_go_acc,List.reverse_singleton,List.singleton_append];have x:=ħ n;refine(p b a l i _ j d x λe=>ajB e _ _).lU ?_;rintro g m (⟨h,rfl,hI'⟩|hW)
   .exact r _ _ h g (by simpa using d) (by have:=Kj (mem_ready.1 x).1;omega) hI'
   .exact hW
def ajC{id:Nat}(I:Array Bool->ŏ->fc->Prop)(o:ki l)(p:¬l.q) (g:∀c,fH l l.w c->I (Array.replicate Q.size Ì) y {l with w:={c with drawn:=c.drawn+1}}) (h:∀d b y l i e,I b y l->b.size=Q.size->i∈Û d Q b->(Û d Q (b.setIfInBounds i Ò)=[]->e=[])->fi P yQ (λj k=>(∃m,k=G (f.at m<|Ñ Q e::L) qX/\I (b.setIfInBounds i Ò) m j)\/fi P yQ J j k) l (G (f.at y<|Ñ Q (i::e)::L) qX)) (n:∀d b y l,I b y l->b.size=Q.size->Û d Q b=[]->fi P yQ J l (G (f.at y<|Ñ Q []::L) qX)): fi P yQ J l (G (f.at y<|ö (ä id Q Ò)::L) qX):=by
 refine .mk U λc r=>⟨_,_,_,_,stepG_region_draw,QJ (mA o r) p,?_⟩;unfold Region.schedule;split
 .exact Zg I (h _) (n _) _ _ _ _ _ fj (by rw[Dl];exact Ú _)<|g c r
 .exact Zg I (h _) (n _) _ _ _ _ _ fj (by rw[Dl];exact Ú _)<|g c r
end
def BA:å:=⟨Â 15,ę<|Ù 1,100, "work.go:72",#[],Á⟩
def BB:å:=⟨Â 16,ę<|Ù 4,3, "work.go:72",#[],Á⟩
def BD:å:=⟨Â 17,ę<|Ù 1,100, "work.go:72",#[],Á⟩
def xg:å:=⟨Â 18,Ě {callee:=Ŕ .len,args:=#[Ù 17],argTypes:=#[100]},3, "work.go:72",#[⟨2,Ü⟩],Á⟩
def uu:å:=⟨Â 19,Λ .rem 3 (Ù 16) (Ù 18) 3,3, "work.go:72",#[⟨1,Ü⟩,⟨3,Ü⟩],Á⟩
def uw:å:=⟨Â 20,ő 100 (Ù 15)<|Ù 19,0, "work.go:72",#[⟨0,Ü⟩,⟨4,Ü⟩],Á⟩
def xh:å:=⟨Â 21,ć 101<|Ù 20,101, "work.go:72",#[⟨5,Ü⟩],Á⟩
def BF:å:=⟨Â 22,ć 155<|Ù 5,155, "work.go:72",#[],Á⟩
def xi:å:=⟨Á,.send (Ù 21)<|Ù 22,0, "work.go:72",#[⟨6,Ü⟩,⟨7,Ü⟩],Á⟩
def nS:Array å:=#[BA,BB,BD,xg,uu,uw,xh,BF,xi]
noncomputable def KS:Ę:=jZ Ŗ [1,1,0,0]
noncomputable def Zh:Ę:=jZ Ŗ [1]
noncomputable def KT:Ę:=jZ Ŗ [0,1,0,0]
noncomputable def BG (t:Array Ï) (a:List é):Ý:=G ((base 52).at ⟨t,[]⟩ [ö KT,ą KT,ô 0,ö Zh]) a
structure DT(dv:Ï)(qb:Option â)(q cq i:Nat)(t:Array Ï):Prop where
 r:t.size=32
 C:t[1]?=Â dv
 t8:t[8]?=Â (Æ qb q cq)
 M:t[9]?=Â (Ê Î q)
 I:t[10]?=Â (Ê Î i)
def G9(t:Array Ï)(h:t.size=32):∃a b c d e f g i j k l m n o p q r s u v w x y z B C D E F G H I:Ï,t=#[a,b,c,d,e,f,g,i,j,k,l,m,n,o,p,q,r,s,u,v,w,x,y,z,B,C,D,E,F,G,H,I]:=by obtain⟨_,rfl⟩:=rn t h;exact⟨_,_,_,_,_,_,_,_,_,_,_,_,_,_,_,_,_,_,_,_,_,_,_,_,_,_,_,_,_,_,_,_,U⟩
def uy(c n i a d:Nat)(b tk:Ï)(_:Unit):Nat->Ï
 |0=>b
 |1=>Ê Î i
 |2=>b
 |3=>Ê Î n
 |4=>Ê Î a
 |5=>À<|Â ⟨c,a,Á⟩
 |6=>è<|Â d
 |7=>tk
 |_=>Å
def KU(a:fc)(listed:Array Bool)(_:Unit)(l:fc):Prop:=iD ff a l/\¬listed.getD 8 Ì=Ò
section
variable{J N:Jd}{p:fc}{g s:Nat}{u:Option â}
def ajD(DZ:gy p)(hq:¬p.q)(ht:d.size=32)(A9:d[1]?=Â (Æ (Â ⟨j9,0,Á⟩) n j))(GB:d[4]?=Â (Ê Î i))(QS:d[5]?=Â (À<|Â ⟨g,0,Á⟩))(z:p.O g)(T:p.O j9)(hn:0<n)(vv:n<1000)(hi1:i<1000) (Zi:i%n=j6) (V:p.w.cell? ⟨j9,j6,Á⟩=Â (è<|Â m)) (W:p.w.cell? ⟨g,0,Á⟩=Â (À u)) (X:p.w.cell? ⟨g,1,Á⟩=Â (Ê Î s)) (Y:p.w.cell? ⟨g,2,Á⟩=Â (À<|Â ⟨j7,0,Á⟩)) (c3:p.w.cell? ⟨g,3,Á⟩=Â (À O)) (hJ:∀l H,iD ff p l->H.size=32->(∀c,c<15->H[c]?=d[c]?)->Ar Ä Ò m (Đ #[À u,Ê Î s,À<|Â ⟨j7,0,Á⟩,À O]) N l (G ((base 52).at ⟨H,[]⟩<|Ñ nS [8]::L) qX)->J l (G ((base 52).at ⟨H,[]⟩<|Ñ nS [8]::L) qX)) (hN:∀l H,iD ff p l->H.size=32->(∀c,c<15->H[c]?=d[c]?)->fi Ä Ò N l (G ((base 52).at ⟨H,[]⟩<|Ñ nS []::L) qX)) (md:ý) (listed:Array Bool) (a:ŏ) (l:fc) (i':Nat) (rest:List Nat) (hI:II nS d (uy j9 n i j6 m (Æ (Â ⟨j9,0,Á⟩) n j)<|Đ #[À u,Ê Î s,À<|Â ⟨j7,0,Á⟩,À O]) (KU p) listed a l) (jR:listed.size=nS.size) (C:i'∈Û md nS listed) (Ha:Û md nS (listed.setIfInBounds i' Ò)=[]->rest=[]): fi Ä Ò (λD F=>(∃Q,F=G ((base 52).at Q<|Ñ nS rest::L) qX/\II nS d (uy j9 n i j6 m (Æ (Â ⟨j9,0,Á⟩) n j)<|Đ #[À u,Ê Î s,À<|Â ⟨j7,0,Á⟩,À O]) (KU p) (listed.setIfInBounds i' Ò) Q D)\/fi Ä Ò J D F) l (G ((base 52).at a<|Ñ nS (i'::rest)::L) qX):=by
 let⟨x,t,S,h8⟩:=hI;have I:uf nS d.size=Ò:=by rw[ht];decide
 have gN:=Dm C;have K:=S.fx;have M:¬l.q:=by rwa[S.q]
 have nn:a.tmps[1]?=Â (Æ (Â ⟨j9,0,Á⟩) n j):=(t.C A).trans A9;have Rs:a.tmps[4]?=Â (Ê Î i):=(t.C A).trans GB;have uh:a.tmps[5]?=Â (À<|Â ⟨g,0,Á⟩):=(t.C A).trans QS;have y:∀b f v,p.O b->p.w.cell? ⟨b,f,Á⟩=Â v->gY l ⟨b,f,Á⟩/\l.w.cell? ⟨b,f,Á⟩=Â v:=λb f v E h=>⟨Ã<|Ã<|S.O b E,by rwa[gK<|S.r b<|Ã E]⟩;have P:∀{k:Nat},k≠8->∀B,fH l l.w B->KU p (listed.setIfInBounds k Ò) () {l with w:=B}:=λhm B r=>⟨S.N (λ_ q=>q.elim) r,by rwa[ç Ì hm]⟩;have ajE:j6<n:=by rw[<-Zi];exact ĵ _ hn
 have ajF:(j6:Int)<(n:Int):=Z
 have Hb:¬(n:Int)=0:=Z
 have ajG:¬n=0:=Z
 have htm:Int.tmod (i:Int) (n:Int)=(j6:Int):=by rw[Int.tmod_eq_emod_of_nonneg Z,<-Zi];simp
 have oD:Î.wrap (j6:Int)=(j6:Int):=Bc Z Z;have KV:nS.size=9:=A
 rw[KV]at gN;match i',gN with
 |0,_=>
  refine(ik (o:=BA) I t U U C (by k_ne) K M (λB r=> ?_) (λB r e D=> ?_)<|P A).fN λ_ _ h=>Ã h
  .simp only[uy,BA];go_simp
  .simp[go_sem,BA,nn]at D
 |1,_=>
  refine(ik (o:=BB) I t U U C (by k_ne) K M (λB r=> ?_) (λB r e D=> ?_)<|P A).fN λ_ _ h=>Ã h
  .simp only[uy,BB];go_simp
  .simp[go_sem,BB,Rs]at D
 |2,_=>
  refine(ik (o:=BD) I t U U C (by k_ne) K M (λB r=> ?_) (λB r e D=> ?_)<|P A).fN λ_ _ h=>Ã h
  .simp only[uy,BD];go_simp
  .simp[go_sem,BD,nn]at D
 |3,_=>
  have F:a.tmps[17]?=Â (Æ (Â ⟨j9,0,Á⟩) n j):=t.r 2 BD 17 U (ig (o:=xg) C U U) U;refine(ik (o:=xg) I t U U C (by k_ne) K M (λB r=> ?_) (λB r e D=> ?_)<|P A).fN λ_ _ h=>Ã h
  .simp only[uy,xg];go_simp
  .simp[go_sem,xg,F]at D
 |4,_=>
  have F:a.tmps[16]?=Â (Ê Î i):=t.r 1 BB 16 U (ig (o:=uu) C U U) U;have Q:a.tmps[18]?=Â (Ê Î n):=t.r 3 xg 18 U (ig (o:=uu) C U U) U;refine(ik (o:=uu) I t U U C (by k_ne) K M (λB r=> ?_) (λB r e D=> ?_)<|P A).fN λ_ _ h=>Ã h
  .simp only[uy,uu];go_simp
  .simp[go_sem,uu,F,Q,Hb,ajG,htm,oD]at D
 |5,_=>
  have F:a.tmps[15]?=Â (Æ (Â ⟨j9,0,Á⟩) n j):=t.r 0 BA 15 U (ig (o:=uw) C U U) U;have Q:a.tmps[19]?=Â (Ê Î j6):=t.r 4 uu 19 U (ig (o:=uw) C U U) U;refine(ik (o:=uw) I t U U C (by k_ne) K M (λB r=> ?_) (λB r e D=> ?_)<|P A).fN λ_ _ h=>Ã h
  .simp only[uy,uw];go_simp
  .simp[go_sem,uw,F,Q,ajE,ajF]at D
 |6,_=>
  have Q:a.tmps[20]?=Â (À<|Â ⟨j9,j6,Á⟩):=t.r 5 uw 20 U (ig (o:=xh) C U U) U;refine(ik (o:=xh) I t U U C (by k_ne) K M (λB r=> ?_) (λB r e D=> ?_)<|P A).fN λ_ _ h=>Ã h
  .have F:=((y j9 _ _ T V).1.r r).trans (y j9 _ _ T V).2;simp only[uy,xh];go_simp
  .have F:=((y j9 _ _ T V).1.r r).trans (y j9 _ _ T V).2;have hee:e=⟨û ⟨j9,j6,Á⟩,Ì,Ì⟩:=by simp[go_sem,xh,F,Q]at D;exact D
   subst hee;exact(y j9 _ _ T V).1.C
 |7,_=>
  refine(ik (o:=BF) I t U U C (by k_ne) K M (λB r=> ?_) (λB r e D=> ?_)<|P A).fN λ_ _ h=>Ã h
  .have F:=((y g _ _ z W).1.r r).trans (y g _ _ z W).2;have Q:=((y g _ _ z X).1.r r).trans (y g _ _ z X).2;have qz:=((y g _ _ z Y).1.r r).trans (y g _ _ z Y).2;have uo:=((y g _ _ z c3).1.r r).trans (y g _ _ z c3).2;simp only[uy,BF];go_simp
  .have F:=((y g _ _ z W).1.r r).trans (y g _ _ z W).2;have Q:=((y g _ _ z X).1.r r).trans (y g _ _ z X).2;have qz:=((y g _ _ z Y).1.r r).trans (y g _ _ z Y).2;have uo:=((y g _ _ z c3).1.r r).trans (y g _ _ z c3).2;simp[go_sem,BF,uh,F,Q,qz,uo]at D;rcases D with rfl|rfl|rfl|rfl
   .exact(y g _ _ z W).1.C
   .exact(y g _ _ z X).1.C
   .exact(y g _ _ z Y).1.C
   .exact(y g _ _ z c3).1.C
 |8,_=>
  have d6:=ig (j:=6) (o:=xi) C U U;have d7:=ig (j:=7) (o:=xi) C U U;have Ra:a.tmps[21]?=Â (è<|Â m):=t.r 6 xh 21 U d6 U;have Gt:a.tmps[22]?=Â (Đ #[À u,Ê Î s,À<|Â ⟨j7,0,Á⟩,À O]):=t.r 7 BF 22 U d7 U;have d5:=t.I (j:=5) (o:=xh) U d6 U;have d0:=t.I (j:=0) (o:=uw) U d5 U;have d4:=t.I (j:=4) (o:=uw) U d5 U;have d1:=t.I (j:=1) (o:=uu) U d4 U;have d3:=t.I (j:=3) (o:=uu) U d4 U;have d2:=t.I (j:=2) (o:=xg) U d3 U;have pU:Û md nS (listed.setIfInBounds 8 Ò)=[]:=by
   rw[List.eq_nil_iff_forall_not_mem];intro f hj;have Hc:=Dm hj;have F:=QO hj;rw[KV]at Hc;by_cases Q:f=8
   .subst Q;have D:8<listed.size:=by rw[jR,KV];decide
    simp[D]at F
   .rw[ç Ò<|Ne.symm Q]at F;have D:=wT F;match f,Hc,Q with
    |0,_,_=>exact D d0
    |1,_,_=>exact D d1
    |2,_,_=>exact D d2
    |3,_,_=>exact D d3
    |4,_,_=>exact D d4
    |5,_,_=>exact D d5
    |6,_,_=>exact D d6
    |7,_,_=>exact D d7
    |8,_,h=>exact h U
  obtain rfl:=Ha pU;let⟨F,ds⟩:=a;obtain rfl:ds=[]:=t.M;have Hd:F.size=32:=t.S.trans ht;have KW:∀c,c<15->F[c]?=d[c]?:=λc hd=>t.b c λf o E _ e=>by
   have Hc:=(æ.1 E).1;rw[KV]at Hc;match f,Hc with
   |0,_=>
    have D:o=BA:=(Ó<|show Â BA=Â o from E).symm;rw[D]at e;have Q:15=c:=Ó (show Â 15=Â c from e);omega
   |1,_=>
    have D:o=BB:=(Ó<|show Â BB=Â o from E).symm;rw[D]at e;have Q:16=c:=Ó (show Â 16=Â c from e);omega
   |2,_=>
    have D:o=BD:=(Ó<|show Â BD=Â o from E).symm;rw[D]at e;have Q:17=c:=Ó (show Â 17=Â c from e);omega
   |3,_=>
    have D:o=xg:=(Ó<|show Â xg=Â o from E).symm;rw[D]at e;have Q:18=c:=Ó (show Â 18=Â c from e);omega
   |4,_=>
    have D:o=uu:=(Ó<|show Â uu=Â o from E).symm;rw[D]at e;have Q:19=c:=Ó (show Â 19=Â c from e);omega
   |5,_=>
    have D:o=uw:=(Ó<|show Â uw=Â o from E).symm;rw[D]at e;have Q:20=c:=Ó (show Â 20=Â c from e);omega
   |6,_=>
    have D:o=xh:=(Ó<|show Â xh=Â o from E).symm;rw[D]at e;have Q:21=c:=Ó (show Â 21=Â c from e);omega
   |7,_=>
    have D:o=BF:=(Ó<|show Â BF=Â o from E).symm;rw[D]at e;have Q:22=c:=Ó (show Â 22=Â c from e);omega
   |8,_=>
    have D:o=xi:=(Ó<|show Â xi=Â o from E).symm;rw[D]at e;cases(show Á=Â c from e)
  refine .fB λB r=>Ç (.fB λAo D=> ?_);have Q:iD ff p ({l with w:=Ao}:fc):=S.N (λ_ q=>q.elim)<|r.fg ⟨D.r,D.I,D.N,D.Y,D.S⟩;refine hJ _ F Q Hd KW ⟨U,U,λD=>⟨ñ #[],?_⟩,?_⟩
  .refine(Ż (cases:=#[scase m (Đ #[À u,Ê Î s,À<|Â ⟨j7,0,Á⟩,À O])<|ñ #[]]) (blocking:=Ò) (shape:=.send) (w':=D) (o:=xi) rfl rfl (by k_ne) ?_).trans ?_
   .simp[go_sem,xi,ĉ,scase,ĥ,Ra,Gt]
   .have:ŗ Ä (base 52).fn ⟨F,[]⟩ xi D=#[]:=by
     unfold ŗ;simp[go_sem,xi,ĉ,ĥ,Ra,Gt,Ī]
    rw[this]
  .have e:({G ((base 52).at ⟨F,[]⟩<|Ñ nS [8]::L) qX with frame:=(G ((base 52).at ⟨F,[]⟩<|Ñ nS [8]::L) qX).frame.finish Å}:Ý)=G ((base 52).at ⟨F,[]⟩<|Ñ nS []::L) qX:=by
    have:(G ((base 52).at ⟨F,[]⟩<|Ñ nS [8]::L) qX).frame.finish Å=(base 52).at (Ο ⟨F,[]⟩ Á Å) (Ñ nS []::L):=Ģ _ _ _ _ _ _ _;rw[this];rfl
   rw[e];exact hN _ F Q Hd KW
 |n+9,h=>exact absurd h Z
end
section
variable{N:Jd}{l:fc}{f:Option â}
theorem ajH(s:gy l)(K:¬l.q)(G:DT (Æ (Â ⟨J,0,Á⟩) n j) (Â ⟨j6,0,Á⟩) b m i d)(hiq:i<b)(Bn:b<1000)(hn:0<n)(vv:n<1000)(Zj:l.O J)(cd:l.w.cell? ⟨J,i%n,Á⟩=Â (è<|Â k))(R5:l.M j6) (i0:l.w.cell? ⟨j6,i*4,Á⟩=Â (À f)) (i1:l.w.cell? ⟨j6,i*4+1,Á⟩=Â (Ê Î j7)) (i2:l.w.cell? ⟨j6,i*4+2,Á⟩=Â (À<|Â ⟨j9,0,Á⟩)) (i3:l.w.cell? ⟨j6,i*4+3,Á⟩=Â (À O)) (hN:∀t H,iD ff l t->DT (Æ (Â ⟨J,0,Á⟩) n j) (Â ⟨j6,0,Á⟩) b m (i+1) H->fi Ä Ò N t (BG H qX)): fi Ä Ò (Ar Ä Ò k (Đ #[À f,Ê Î j7,À<|Â ⟨j9,0,Á⟩,À O]) N) l (BG d qX):=by
 obtain⟨y0,y1,y2,y3,y4,y5,y6,y7,y8,y9,wV,yT,wW,rp,sE,qx,vm,vn,ui,uj,uk,sF,sG,sH,rf,sy,rh,oZ,n5,pM,pN,pO,rfl⟩:=G9 d G.r;obtain rfl:y1=Æ (Â ⟨J,0,Á⟩) n j:=by simpa using G.C
 obtain rfl:y8=Æ (Â ⟨j6,0,Á⟩) b m:=by simpa using G.t8
 obtain rfl:y9=Ê Î b:=by simpa using G.M
 obtain rfl:wV=Ê Î i:=by simpa using G.I
 have ru:∀y:â,False->l.r y:=λy ha=>ha.elim;have aul:(i:Int)<(b:Int):=Z
 have hF:True:=trivial;simp only[BG];conv in KT=>whnf
 apply fP (n:=30) s.r;repeat w_go fw
 refine Ë λ_ _=> ?_;have g:∀c,gY l ⟨j6,c,Á⟩:=λc=>Ã R5;refine o5 (v:=Đ #[À f,Ê Î j7,À<|Â ⟨j9,0,Á⟩,À O]) U U (by k_ne) s.r K (λo r=> ?_) (λo r e h=> ?_) ?_
 .have u:=((g<|i*4).r r).trans i0;have z:=((g<|i*4+1).r r).trans i1;have B:=((g<|i*4+2).r r).trans i2;have C:=((g<|i*4+3).r r).trans i3;go_simp
 .have u:=((g<|i*4).r r).trans i0;have z:=((g<|i*4+1).r r).trans i1;have B:=((g<|i*4+2).r r).trans i2;have C:=((g<|i*4+3).r r).trans i3;simp[go_sem,u,z,B,C]at h;rcases h with rfl|rfl|rfl|rfl
  .exact(g _).C
  .exact(g _).C
  .exact(g _).C
  .exact(g _).C
 walk_nrm;refine Gu (ob:=É #[À Á,Ê Î 0,À Á,À Á] 155) U U (by k_ne) s.r K (λw=>by go_simp) (λw=>by simp[go_sem]) λo X=> ?_;walk_nrm;have D:iD ff l (gI l o<|É #[À Á,Ê Î 0,À Á,À Á] 155):=Ko s ru X;have L:(gI l o<|É #[À Á,Ê Î 0,À Á,À Á] 155).w.heap[o.heap.size]?=Â (É #[À Á,Ê Î 0,À Á,À Á] 155):=mO;have sI:l.w.heap.size<=o.heap.size:=X.r;have q:(gI l o<|É #[À Á,Ê Î 0,À Á,À Á] 155).O o.heap.size:=Ç U;generalize gI l o (É #[À Á,Ê Î 0,À Á,À Á] 155)=l₁ at D L q|-;generalize o.heap.size=tb at L q sI|-;apply fP (n:=3) D.fx;w_go fw;refine Ë λ_ _=> ?_;refine vj U U (by k_ne) λr P=> ?_;have E:r.heap[tb]?=_:=(P.I tb<|Ã q).trans L;have u:r.cell? ⟨tb,0,Á⟩=Â (À Á):=by simp[Ö,E]
 have z:r.cell? ⟨tb,1,Á⟩=Â (Ê Î 0):=by simp[Ö,E]
 have B:r.cell? ⟨tb,2,Á⟩=Â (À Á):=by simp[Ö,E]
 have C:r.cell? ⟨tb,3,Á⟩=Â (À Á):=by simp[Ö,E]
 have hz:∀c,r.frozen? ⟨tb,c,Á⟩=Ì:=λc=>by simp[î,E]
 go_simp;refine⟨{l₁ with w:=iT r tb (À f) (Ê Î j7) (À<|Â ⟨j9,0,Á⟩) (À O)},Kp (p:=tb) (mA D.fx P) (by rwa[D.q]) q wU (λc x=>yP x) ⟨U,U,U⟩ λe h=> ?_,?_⟩
 .have a:=đ h;have e:∀c,pR l₁ ⟨tb,c,Á⟩:=λc=>Ã q;simp[go_sem,á _ _ _ _ _ _ (show Ø (À f)=Ò from rfl),á _ _ _ _ _ _ (show Ø (À<|Â ⟨j9,0,Á⟩)=Ò from rfl),á _ _ _ _ _ _ (show Ø (À O)=Ò from rfl),u,z,B,C,hz]at a;rcases a with rfl|rfl|rfl|rfl
  .exact(e _).r
  .exact(e _).r
  .exact(e _).r
  .exact(e _).r
 let⟨Q,S,T,V⟩:=QZ (v0:=À f) (v1:=Ê Î j7) (v2:=À<|Â ⟨j9,0,Á⟩) (v3:=À O) u z B C;have F:=Q0 (w':=iT r tb (À f) (Ê Î j7) (À<|Â ⟨j9,0,Á⟩)<|À O) s ru D P sI wU λc x=>yP x;have wY:({l₁ with w:=iT r tb (À f) (Ê Î j7) (À<|Â ⟨j9,0,Á⟩) (À O)}:fc).O tb:=q;replace Q:({l₁ with w:=iT r tb (À f) (Ê Î j7) (À<|Â ⟨j9,0,Á⟩) (À O)}:fc).w.cell? ⟨tb,0,Á⟩=_:=Q;replace S:({l₁ with w:=iT r tb (À f) (Ê Î j7) (À<|Â ⟨j9,0,Á⟩) (À O)}:fc).w.cell? ⟨tb,1,Á⟩=_:=S;replace T:({l₁ with w:=iT r tb (À f) (Ê Î j7) (À<|Â ⟨j9,0,Á⟩) (À O)}:fc).w.cell? ⟨tb,2,Á⟩=_:=T;replace V:({l₁ with w:=iT r tb (À f) (Ê Î j7) (À<|Â ⟨j9,0,Á⟩) (À O)}:fc).w.cell? ⟨tb,3,Á⟩=_:=V;generalize({l₁ with w:=iT r tb (À f) (Ê Î j7) (À<|Â ⟨j9,0,Á⟩) (À O)}:fc)=l₂ at Q S T V F wY|-;clear L q D E u z B C hz P r l₁ X o;have W:=F.G s;have pT:¬l₂.q:=by rwa[F.q]
 have cd2:l₂.w.cell? ⟨J,i%n,Á⟩=Â (è<|Â k):=(gK<|F.r J<|Ã Zj).trans cd;apply fP (n:=5) W.r;w_go fw;refine Ë λ_ _=> ?_;refine ajC (II nS #[y0,Æ (Â ⟨J,0,Á⟩) n j,y2,y3,Ê Î i,À<|Â ⟨tb,0,Á⟩,y6,y7,Æ (Â ⟨j6,0,Á⟩) b m,Ê Î b,Ê Î i,ŝ Ò,Ê Î i,À<|Â ⟨j6,i*4,Á⟩,Đ #[À f,Ê Î j7,À<|Â ⟨j9,0,Á⟩,À O],qx,vm,vn,ui,uj,uk,sF,sG,sH,rf,sy,rh,oZ,n5,pM,pN,pO] (uy J n i (i%n) k (Æ (Â ⟨J,0,Á⟩) n j)<|Đ #[À f,Ê Î j7,À<|Â ⟨j9,0,Á⟩,À O])<|KU l₂) W.r pT (λa x=> ?_) (λY listed a t i' rest hI I e Ha=>ajD (J:=Ar Ä Ò k (Đ #[À f,Ê Î j7,À<|Â ⟨j9,0,Á⟩,À O]) N) (N:=N) W pT U U U U wY (F.O J Zj) hn vv Z U cd2 Q S T V (λl H _ _ _ h=>h) (λt H hA hs h=> ?_) Y listed a t i' rest hI I e Ha) λY listed a kt hI I yU=> ?_
 .exact⟨(),mM.G _ _ _,(iD.fU W.r).N (λ_ b=>b.elim) ⟨x.r,x.I,x.N,x.Y,x.S⟩,A⟩
 .have x:=F.fg hA;have a:=(h 1 A).trans (show _=Â (Æ (Â ⟨J,0,Á⟩) n j)from U);have o8:=(h 8 A).trans (show _=Â (Æ (Â ⟨j6,0,Á⟩) b m)from U);have o9:=(h 9 A).trans (show _=Â (Ê Î b)from U);have o10:=(h 10 A).trans (show _=Â (Ê Î i)from U);clear h;obtain⟨x0,x1,x2,x3,x4,x5,x6,x7,x8,x9,YE,x11,x12,x13,x14,x15,x16,x17,x18,x19,x20,x21,x22,x23,x24,x25,x26,x27,x28,x29,x30,x31,rfl⟩:=G9 H hs;obtain rfl:x1=Æ (Â ⟨J,0,Á⟩) n j:=by simpa using a
  obtain rfl:x8=Æ (Â ⟨j6,0,Á⟩) b m:=by simpa using o8
  obtain rfl:x9=Ê Î b:=by simpa using o9
  obtain rfl:YE=Ê Î i:=by simpa using o10
  apply fP (n:=9) x.fx;iterate 7 w_go fw
  refine Ë λ_ _=> ?_;refine hN t _ x ⟨U,U,U,U,?_⟩;simp;grind [Bc]
 .let⟨x,a,h,h8⟩:=hI;have pU:∀i∈ã 9,listed.getD i Ì=Ò:=by
   cases Y
   .exact pS yU I (ã 9) [] fQ λi e=>by cases e
   .exact pS yU I (ã 9) [] fQ λi e=>by cases e
   .exact pS yU I (ã 9) [] fQ λi e=>by cases e
  grind
end
noncomputable def BH (t:Array Ï) (a:List é):Ý:=G ((base 52).at ⟨t,[]⟩ [ö KS,ą KS,ô 2]) a
structure ET(dv:Ï)(n j:Nat)(t:Array Ï):Prop where
 r:t.size=32
 ajI:t[24]?=Â dv
 C:t[25]?=Â (Ê Î n)
 I:t[26]?=Â (Ê Î j)
def He(t:Array Ï):é:=(base 37).at ⟨t,[]⟩ [Ñ Kx [2],ö<|(ä 13 Ky Ì).seq Kz]
def D1(t:Array Ï)(a:List é):Ý:=G ((base 37).at ⟨t,[]⟩ [Ñ Ky [],ö Kz]) a
structure SE(ba all nR:Nat)(t:Array Ï):Prop where
 r:t.size=49
 I:t[8]?=Â (À<|Â ⟨ba,0,Á⟩)
 C:t[11]?=Â (À<|Â ⟨nR,0,Á⟩)
 Rj:t[12]?=Â (À<|Â ⟨all,0,Á⟩)
section
variable{J a N:Jd}{l:fc}{t:Array Ï}{ba all nR:Nat}{dv:Ï}
def ajJ(e:ki l)(a:ST ba all nR n n (Æ O k j9) dv t)(f:∀b d,DT dv O k j9 0 b->SE ba all nR d->fi Ä Ò J l (BG b<|He d::qX)):fi Ä Ò J l (Bj t qX):=by
 obtain⟨p,q,r,s,u,v,w,x,g,y,h,i,j,c,z,B,C,D,E,F,G,H,I,K,L,M,N,m,o,P,Q,S,T,V,W,X,Y,tS,tT,tU,tV,tW,tX,tY,tZ,ua,pP,pQ,wR,rfl⟩:=GX t a.r;obtain rfl:g=À (Â ⟨ba,0,Á⟩):=by simpa using a.a
 obtain rfl:h=Æ O k j9:=by simpa using a.C
 obtain rfl:i=À (Â ⟨nR,0,Á⟩):=by simpa using a.I
 obtain rfl:j=À (Â ⟨all,0,Á⟩):=by simpa using a.M
 obtain rfl:dv=c:=(show c=dv by simpa using a.N).symm;obtain rfl:m=Ê Î n:=by simpa using a.S
 obtain rfl:o=Ê Î n:=by simpa using a.Y
 have hF:True:=trivial;apply fP (n:=40) e;simp only[Bj,DU,Rh];iterate 7 w_go fw
 simp only[KA,Kx];iterate 4 w_go fw
 u_call ŵ fQ Ŗ fw hF
 iterate 9 w_go fw
 refine Ë λ_ _=> ?_;exact f _ _ ⟨U,U,U,U,U⟩ ⟨U,U,U,U⟩
def ajK(d:ki l)(a:DT (Æ (Â ⟨j7,0,Á⟩) n b) O k j9 k t)(e:∀c,ET (Æ (Â ⟨j7,0,Á⟩) n b) n 0 c->fi Ä Ò J l (BH c qX)):fi Ä Ò J l (BG t qX):=by
 obtain⟨i,f,j,m,o,p,q,r,s,g,h,u,v,w,x,y,z,B,C,D,E,F,G,H,I,K,L,M,N,P,Q,S,rfl⟩:=G9 t a.r;obtain rfl:f=Æ (Â ⟨j7,0,Á⟩) n b:=by simpa using a.C
 obtain rfl:g=Ê Î k:=by simpa using a.M
 obtain rfl:h=Ê Î k:=by simpa using a.I
 have hF:True:=trivial;apply fP (n:=40) d;simp only[BG];conv in KT=>whnf
 iterate 7 w_go fw
 conv in Zh=>whnf
 iterate 8 w_go fw
 refine Ë λ_ _=> ?_;exact e _ ⟨U,U,U,U⟩
def ajL(a:gy l)(g:¬l.q)(c:ET (Æ (Â ⟨j7,0,Á⟩) n b) n j t)(z:j<n)(B:n<1000)(i:l.O j7)(o:l.w.cell? ⟨j7,j,Á⟩=Â (è<|Â m)) (p:∀d e,iD ff l d->ET (Æ (Â ⟨j7,0,Á⟩) n b) n (j+1) e->fi Ä Ò N d (BH e qX)):fi Ä Ò (Jr Ä Ò m N) l (BH t qX):=by
 obtain⟨C,D,F,G,H,I,J,K,L,M,P,Q,S,T,V,W,X,Y,ui,uj,uk,sF,sG,sH,q,u,v,oZ,n5,pM,pN,pO,rfl⟩:=G9 t c.r;obtain rfl:q=Æ (Â ⟨j7,0,Á⟩) n b:=by simpa using c.ajI
 obtain rfl:u=Ê Î n:=by simpa using c.C
 obtain rfl:v=Ê Î j:=by simpa using c.I
 have hF:True:=trivial;apply fP (n:=40) a.r;simp only[BH];conv in KS=>whnf
 repeat w_go fw
 refine Ë λ_ _=> ?_;apply nP (x:=⟨j7,j,Á⟩) U U (by k_ne) a.r g (Ã<|Ã i) o (λw h=>by go_simp) (λw h=>by simp[go_sem,h]);walk_nrm;apply fP (n:=40) a.r;iterate 4 w_go fw
 refine Ë λ_ _=> ?_;refine .fB λw₁ y=>⟨U,U,_,U,λAo cap buf s r tm h=>(stepG_close U U (by k_ne) U U h fQ).trans U,?_⟩;walk_nrm;have f:=(iD.fU (E:=ff) a.r).N (λ_ k=>k.elim) y;apply fP (n:=20) f.fx;iterate 7 w_go fw
 refine Ë λ_ _=> ?_;refine p _ _ f ⟨U,U,U,?_⟩;simp;exact Bc Z Z
def ajM(e:gy l)(g:l.d=0)(p:60<=i)(f:ET dv n n t)(c:SE ba all nR d)(j:l.K ⟨all,0,Á⟩/\l.K ⟨all,1,Á⟩)(q:nk all l.w) (r:∀m o,iD ff l m->SE ba all nR o->a m (D1 o qX)):fi Ä Ò (qp Ä Ò i all a .iX) l (BH t<|He d::qX):=by
 obtain⟨G,H,I,J,L,M,N,P,Q,S,T,V,W,X,Y,qx,vm,vn,ui,uj,uk,sF,sG,sH,rf,s,u,oZ,n5,pM,pN,pO,rfl⟩:=G9 t f.r;obtain rfl:s=Ê Î n:=by simpa using f.C
 obtain rfl:u=Ê Î n:=by simpa using f.I
 have hF:True:=trivial;apply fP (n:=40) e.r;simp only[BH,He,Kx];conv in KS=>whnf
 iterate 8 w_go fw
 obtain⟨z0,z1,z2,z3,z4,z5,z6,z7,v,z9,z10,x,y,z13,z14,z15,z16,z17,z18,z19,z20,z21,z22,z23,z24,z25,z26,z27,z28,z29,z30,z31,z32,z33,z34,z35,z36,z37,z38,z39,z40,z41,z42,z43,z44,z45,z46,z47,z48,rfl⟩:=GX d c.r;obtain rfl:v=À (Â ⟨ba,0,Á⟩):=by simpa using c.I
 obtain rfl:x=À (Â ⟨nR,0,Á⟩):=by simpa using c.C
 obtain rfl:y=À (Â ⟨all,0,Á⟩):=by simpa using c.Rj
 u_leave0 ŵ fw hF
 simp only[Ky];iterate 3 w_go fw
 u_call qw.f_wait (nm_wait Lk) waitFn fw hF
 refine Ë λ_ _=> ?_;refine Yn qw p (⟨Ã j.1,Ã j.2,λw z b B C D F h=>h.fg ⟨b,B,C,D,F⟩⟩) ⟨e.r,q,fH.fU _ _⟩ g λz B=> ?_;walk_nrm;refine .fB λC b=> ?_;have h:=(iD.fU (E:=ff) e.r).N (λ_ k=>k.elim)<|B.2.2.fg ⟨b.r,b.I,b.N,b.Y,b.S⟩;exact r {l with d:=0,w:=C} _ ⟨h.O,h.h,h.Y,h.I,h.c,h.K,h.q,g.symm,h.fx,h.f,h.r,h.e,h.S,h.b,h.g⟩ ⟨U,U,U,U⟩
end
def vw(a:Nat)(b c:Ï)(_:Unit):Nat->Ï
 |0=>b
 |1=>À<|Â ⟨a,0,Á⟩
 |2=>À<|Â ⟨a,0,Á⟩
 |3=>À<|Â ⟨a,2,Á⟩
 |4=>c
 |5=>b
 |_=>c
def KX(a:fc)(_:Array Bool)(_:Unit)(l:fc):Prop:=gi ff a l
section
variable{J:Jd}{g:fc}{h:Option â}
def ajN(K:¬g.q)(N:q.size=49)(P:q[8]?=Â (À<|Â ⟨m,0,Á⟩))(Q:q[11]?=Â (À<|Â ⟨j9,0,Á⟩))(E:g.M m)(F:gY g ⟨j9,2,Á⟩)(S:g.w.cell? ⟨m,0,Á⟩=Â (Æ O b n))(T:g.w.cell? ⟨j9,2,Á⟩=Â (Æ h j6 j7)) (md:ý) (listed:Array Bool) (y:ŏ) (l:fc) (i:Nat) (jJ:List Nat) (V:II xa q (vw j9 (Æ O b n)<|Æ h j6 j7) (KX g) listed y l) (k:i∈Û md xa listed): fi Ä Ò (λc d=>∃a,d=G ((base 37).at a<|Ñ xa jJ::L) qX/\II xa q (vw j9 (Æ O b n)<|Æ h j6 j7) (KX g) (listed.setIfInBounds i Ò) a c) l (G ((base 37).at y<|Ñ xa (i::jJ)::L) qX):=by
 let⟨x,j,p⟩:=V;have s:uf xa q.size=Ò:=by rw[N];decide
 have H:=Dm k;have t:=p.fx;have u:¬l.q:=by rwa[show l.q=g.q from p.q]
 have W:=(j.C A).trans P;have X:=(j.C A).trans Q;have B:gY l ⟨m,0,Á⟩:=Ã<|p.M E;have D:gY l ⟨j9,2,Á⟩:=F.imp (λa=>p.M a) λa=>by rwa[p.C]
 have I:=(gK<|p.r m E id).trans S;have J:l.w.cell? ⟨j9,2,Á⟩=Â (Æ h j6 j7):=by
  refine Ŀ ?_ T;rcases F with a|a
  .exact gK<|p.r _ a id
  .exact p.f _ a
 have v:∀{c:Nat},∀d,fH l l.w d->KX g (listed.setIfInBounds c Ò) () {l with w:=d}:=λd r=>p.G r;have Y:xa.size=7:=A
 rw[Y]at H;match i,H with
 |0,_=>
  refine ik (o:=GI) s j U U k (by k_ne) t u (λd r=> ?_) (λd r e f=> ?_) v
  .have z:=(B.r r).trans I;simp only[vw,GI];go_simp
  .have z:=(B.r r).trans I;simp[go_sem,GI,W,z]at f;subst f;exact B.C
 |4,_=>
  have Zk:y.tmps[47]?=Â (À<|Â ⟨j9,2,Á⟩):=j.r 3 GM 47 U (ig k U U) U;refine ik (o:=GN) s j U U k (by k_ne) t u (λd r=> ?_) (λd r e f=> ?_) v
  .have z:=(D.r r).trans J;simp only[vw,GN];go_simp
  .have z:=(D.r r).trans J;simp[go_sem,GN,Zk,z]at f;subst f;exact D.C
 |1,_=>
  refine ik (o:=GJ) s j U U k (by k_ne) t u (λd r=> ?_) (λd r e f=> ?_) v
  .simp only[vw,GJ];go_simp
  .simp[go_sem,GJ,X]at f
 |2,_=>
  have z:y.tmps[45]?=Â (À<|Â ⟨j9,0,Á⟩):=j.r 1 GJ 45 U (ig k U U) U;refine ik (o:=GK) s j U U k (by k_ne) t u (λd r=> ?_) (λd r e f=> ?_) v
  .simp only[vw,GK];go_simp
  .simp[go_sem,GK,z]at f
 |3,_=>
  have z:y.tmps[46]?=Â (À<|Â ⟨j9,0,Á⟩):=j.r 2 GK 46 U (ig k U U) U;refine ik (o:=GM) s j U U k (by k_ne) t u (λd r=> ?_) (λd r e f=> ?_) v
  .simp only[vw,GM];go_simp
  .simp[go_sem,GM,z]at f
 |5,_=>
  have z:y.tmps[44]?=Â (Æ O b n):=j.r 0 GI 44 U (ig k U U) U;refine ik (o:=GO) s j U U k (by k_ne) t u (λd r=> ?_) (λd r e f=> ?_) v
  .simp only[vw,GO];go_simp
  .simp[go_sem,GO,z]at f
 |6,_=>
  have z:y.tmps[48]?=Â (Æ h j6 j7):=j.r 4 GN 48 U (ig k U U) U;refine ik (o:=GQ) s j U U k (by k_ne) t u (λd r=> ?_) (λd r e f=> ?_) v
  .simp only[vw,GQ];go_simp
  .simp[go_sem,GQ,z]at f
def ajO(c:gy g)(t:¬g.q)(e:SE m j j9 d)(B:g.M m)(C:gY g ⟨j9,2,Á⟩)(D:g.w.cell? ⟨m,0,Á⟩=Â (Æ O b n))(E:g.w.cell? ⟨j9,2,Á⟩=Â (Æ h j6 j7)) (F:∀u,gi ff g u->fi Ä Ò J u (G (f.at (y.put ((Q[i]?).bind (·.dst))<|ñ #[Æ O b n,Æ h j6 j7])<|Ñ Q jJ::L) qX)): fi Ä Ò J g (D1 d<|f.at y (Ñ Q (i::jJ)::L)::qX):=by
 have hF:=trivial;apply fP (n:=9) c.r;simp only[D1,Kz];iterate 2 w_go fw
 refine Ë λ_ _=> ?_;refine QL (II xa d (vw j9 (Æ O b n)<|Æ h j6 j7)<|KX g) c.r t (λl a=>⟨(),mM.G _ _ _,(gi.fU c.r).G ⟨a.r,a.I,a.N,a.Y,a.S⟩⟩) (λk o y l i jJ p a=>ajN t e.r e.I e.C B C D E k o y l i jJ p a) λk o H I p r s=> ?_;let⟨x,l,K⟩:=p;have v:∀i∈ã 7,o.getD i Ì=Ò:=by
  cases k
  .exact pS s r (ã 7) [] fQ λi a=>by cases a
  .exact λi a=>pS s r [0,5,1,2,3,4,6] [] fQ (λi a=>by cases a) i (by have:=Ē.1 a;revert i;decide)
  .exact pS s r (ã 7) [] fQ λi a=>by cases a
 let⟨a,N⟩:=H;obtain rfl:N=[]:=l.M;have P:a[6]?=Â (Æ O b n):=l.r 5 GO 6 U (v 5 A) U;have S:a[7]?=Â (Æ h j6 j7):=l.r 6 GQ 7 U (v 6 A) U;have X:=l.S.trans e.r;have z:=K;have T:=z.N c;have V:a.getD 6 Å=Æ O b n:=by simp[ď,P]
 have W:a.getD 7 Å=Æ h j6 j7:=by simp[ď,S]
 apply fP (n:=9) T.r;iterate 2 w_go fw
 u_in fw hF
 refine goes_leave2 U U Tryz.func37 U ⟨by u_nil,?_⟩;rw[V,W];refine Ë λ_ _=>F I z
end
structure SD where
 L:Nat
 g:Nat
 n:Nat
 m:Nat
 q:Nat
 N:Nat
 I:Nat
 C:Nat->Nat
 M:Nat
 S:Nat
 s:Nat
 u:Option â
 t:Nat
 l:Option â
 k:Nat
 o:Nat->Option â
 a:Nat->Nat
 i:Nat->Option â
 c:Nat->Nat
 b:Nat->Nat
 f:List é
 d:Nat->Prop
 RC:ß->Prop
 p:ß->Prop
 γ:Type
 w:γ
 v:Nat->Prop
 h:Nat->γ->γ->Prop
 RD:γ->Ï->(Nat->Prop)->ß->Prop
 e:Nat->ByteArray
 j:Nat->ByteArray
def SD.Y(D:SD):Fx:=⟨D.L,D.m,D.I,D.C⟩
def SD.ajP(D:SD)(i:Nat):Ï:=Đ #[À<|D.i i,Ê Î<|D.c i,À<|Â ⟨D.C<|D.b i,0,Á⟩,À Á]
structure lE(D:SD)(S:Nat->Prop)(l:fc):Prop where
 C:∀b,D.Y.M b->l.K ⟨b,0,Á⟩/\l.K ⟨b,1,Á⟩
 M:∀b,D.Y.M b->nk b l.w
 c:S D.S
 d:l.w.cell? ⟨D.S,0,Á⟩=Â (Æ (Â ⟨D.M,0,Á⟩) D.N D.N)
 f:S D.s
 g:l.w.cell? ⟨D.s,0,Á⟩=Â (Æ D.u D.m D.t)
 h:∀k,k<D.m->∃b,D.u=Â ⟨b,0,Á⟩/\S b/\l.w.cell? ⟨b,k*4,Á⟩=Â (À<|D.o<|k+1)/\l.w.cell? ⟨b,k*4+1,Á⟩=Â (Ê Î<|D.a<|k+1)/\l.w.cell? ⟨b,k*4+2,Á⟩=Â (À<|Â ⟨D.C k,0,Á⟩)/\l.w.cell? ⟨b,k*4+3,Á⟩=Â (À<|Â ⟨D.C<|k+1,0,Á⟩)
 j:∀i,i<D.q->∃b,D.l=Â ⟨b,0,Á⟩/\S b/\l.w.cell? ⟨b,i*4,Á⟩=Â (À<|D.i i)/\l.w.cell? ⟨b,i*4+1,Á⟩=Â (Ê Î<|D.c i)/\l.w.cell? ⟨b,i*4+2,Á⟩=Â (À<|Â ⟨D.C<|D.b i,0,Á⟩)/\l.w.cell? ⟨b,i*4+3,Á⟩=Â (À Á)
 r:∀a,l.r a->(l.w.cell? a).isSome=Ò/\l.w.frozen? a=Ì
 Y:∀b,D.d b->S b
 e:D.RC l.w
structure SD.Ok(D:SD):Prop where
 C:∀w w',D.RC w->(∀b,D.d b->w'.heap[b]?=w.heap[b]?)->D.RC w'
 ioS:∀w w',D.p w->(w'.os=w.os/\w'.output=w.output)->D.p w'
 r:∀s sl V w w',D.RD s sl V w->(∀b,V b->w'.heap[b]?=w.heap[b]?)->D.RD s sl V w'
 I:1<=D.n
 L1:1<=D.L
 fZ:D.n+D.q+D.m<1000
 N1:D.N<1000
 S:∀i,D.b i<=D.m
 a:∀i,i<D.q->D.c i<D.N
 Y:∀k,1<=k->k<=D.m->D.a k<D.N
 ajQ:∀k,k<=D.m->D.C k≠D.I
 ajR:∀k k',k<=D.m->k'<=D.m->D.C k=D.C k'->k=k'
 M:¬D.Y.M D.M
 pq:∀i i',i<D.q->i'<D.q->D.c i=D.c i'->i=i'
 pi:∀k k',1<=k->k<=D.m->1<=k'->k'<=D.m->D.a k=D.a k'->k=k'
 Ov:∀i k,i<D.q->1<=k->k<=D.m->D.c i≠D.a k
 gq:∀b,D.Y.M b\/b=D.M->D.g<=b
section
variable{D:SD}{S:Nat->Prop}{l f:fc}
def lE.I(h:lE D S l)(ok:D.Ok)(e:∀b,S b->X b)(c:∀b,S b->f.w.heap[b]?=l.w.heap[b]?)(q:f.K=l.K)(p:∀a,l.K a->(l.w.cell? a).isSome=Ò->(f.w.cell? a).isSome=Ò)(r:∀a,f.r a->(f.w.cell? a).isSome=Ò/\f.w.frozen? a=Ì):lE D X f where
 C b hg:=by rw[q];exact h.C b hg
 M b hg:=⟨p _ (h.C b hg).1 (h.M b hg).1,p _ (h.C b hg).2 (h.M b hg).2⟩;c:=e _ h.c;d:=(gK<|c _ h.c).trans h.d;f:=e _ h.f;g:=(gK<|c _ h.f).trans h.g;h k hk:=by let⟨b,g,d,j,m,n,o⟩:=h.h k hk;exact⟨b,g,e b d,(gK<|c b d).trans j,(gK<|c b d).trans m,(gK<|c b d).trans n,(gK<|c b d).trans o⟩
 j i hi:=by let⟨b,g,d,j,m,n,o⟩:=h.j i hi;exact⟨b,g,e b d,(gK<|c b d).trans j,(gK<|c b d).trans m,(gK<|c b d).trans n,(gK<|c b d).trans o⟩
 r:=r;Y b d:=e b<|h.Y b d;e:=ok.C _ _ h.e λb d=>c b<|h.Y b d
def lE.G(h:lE D S l)(ok:D.Ok)(c:∀b,S b->l.M b)(r:fH l l.w u):lE D S {l with w:=u}:= h.I ok (λ_ q=>q) (λb q=>r.I b<|c b q) U r.S λa q=>by have:=h.r a q;exact⟨by show(u.cell? a).isSome=Ò;rw[r.N a<|Ã q];exact this.1,(r.Y a<|Ã q).trans this.2⟩
def lE.R6{E:â->Prop}(h:lE D S l)(ok:D.Ok)(g:∀b,S b->l.M b)(c:iD E l f):lE D S f:= h.I ok (λ_ q=>q) (λb q=>c.r b<|g b q) c.K c.b λa q=>by
  rw[c.I]at q;let⟨d,i⟩:=h.r a q;refine⟨?_,(c.S a<|Ã q).trans i⟩;by_cases e:E a
  .exact c.g a e d
  .rwa[c.e a (Ã q) e]
def lE.ajS(h:lE D S l)(ok:D.Ok)(d:∀b,S b->l.M b/\¬X b)(c:gi X l f):lE D S f:= h.I ok (λ_ q=>q) (λb q=>c.r b (d b q).1 (d b q).2) c.K c.e λa q=>by rw[c.Y]at q;let⟨e,g⟩:=h.r a q;exact⟨by rwa[c.f a<|Ã q],(c.g a<|Ã q).trans g⟩
def lE.N(h:lE D S l)(a:∀b,S b->X b):lE D X l:=⟨h.C,h.M,a _ h.c,h.d,a _ h.f,h.g,λk c=>let⟨b,d,e,f⟩:=h.h k c;⟨b,d,a b e,f⟩,λk c=>let⟨b,d,e,f⟩:=h.j k c;⟨b,d,a b e,f⟩,h.r,λb q=>a b<|h.Y b q,h.e⟩
end
section
variable(D:SD)
def jD(a:Nat->Nat)(j:Nat):List Ï:=(ã j).map λi=>è<|Â<|a i
def BJ(k:Nat):Jd:=λl g=>l.d=0/\¬l.q/\lE D l.M l/\∃t a b c e f h i j n o,Bb D.M D.N D.u D.m D.t k t/\l.M a/\l.w.cell? ⟨a,0,Á⟩=Â (À<|Â ⟨D.I,0,Á⟩)/\g=yR t [vo h i j n o,yV a b c e f,nO Ä]
def Zl(c i:Nat):Jd:=λl g=>l.d=0/\¬l.q/\lE D l.M l/\∃t a b e f h j k m n o p,QT D.M D.N c t/\t[4]?=Â (À<|Â ⟨a,0,Á⟩)/\l.O a/\l.w.cell? ⟨a,0,Á⟩=Â (À<|D.i i)/\l.w.cell? ⟨a,1,Á⟩=Â (Ê Î<|D.c i)/\l.w.cell? ⟨a,2,Á⟩=Â (À<|Â ⟨D.C<|D.b i,0,Á⟩)/\l.M b/\l.w.cell? ⟨b,0,Á⟩=Â (À<|Â ⟨D.I,0,Á⟩)/\g=Ks t [GD k m n o p,yV b e f h j,nO Ä]
def ajT:Jd:=λl g=>lE D l.M l/\∃t a b c,GV D.S D.I (D.C D.m) D.n (Æ D.l D.q D.k) t/\hD l a (É #[À<|Â ⟨D.I,0,Á⟩] 162)/\hD l b (É #[Ĉ (ù 48) #[] #[À<|Â ⟨D.s,0,Á⟩,À<|Â ⟨D.S,0,Á⟩]] 1)/\g=Bl (À<|Â ⟨D.I,0,Á⟩) c (À<|Â ⟨D.I,0,Á⟩) (ñ #[]) a b (DV t::D.f)
def ajU(j:Nat)(a:Nat->Nat):Jd:=λl g=>lE D l.I l/\∃t e c b d f,ST D.S D.I (D.C D.m) D.n (j-1) (Æ D.l D.q D.k) e t/\YT D.S D.I D.q e (jD a j) (a<|j-1) c b d l/\a (j-1)<c/\c<b/\b<d/\(∀k,e.ownBlock=Â k->k≠a (j-1)/\k≠c/\k≠b/\k≠d)/\D.g<=a (j-1)/\g=Bl (À<|Â ⟨D.I,0,Á⟩) f (À<|Â ⟨D.I,0,Á⟩) (ñ #[]) b d (KB t::D.f)
def KY(j:Nat)(a:Nat->Nat):Jd:=λl g=>l.d=0/\¬l.q/\D.g<=l.w.heap.size/\((j=0/\ajT D l g)\/(1<=j/\ajU D j a l g))
def Zm:Jd:=λl g=>l.d=0/\¬l.q/\lE D l.I l/\∃a,SE D.S D.I (D.C D.m) a/\g=D1 a D.f
def SD.r(P:ė):Ph where
 toFx:=D.Y
 P:=P
 S:=D.g
 n:=D.n
 q:=D.q
 Y:=D.M
 f:=D.N
 r:=D.b
 a:=D.c
 b:=D.a
 c:=D.ajP
 z:=zT
 B:=60
 γ:=D.γ
 l:=D.w
 i:=D.v
 p:=D.h
 d:=λk s V w=>(∃a,w.cell? ⟨D.C k,2,Á⟩=Â a/\D.RD s a V w)/\(k=0->w.cell? ⟨D.M,D.N,Á⟩=Á/\kQ w D.M=Â (0,0)/\D.p w)
 o:=D.e
 k:=D.j
 g:=KY D
 h:=BJ D
 e:=Zl D
 j:=λ_=>Zm D
end
def D2(D:SD):Prop:=∀k s e V l,k<D.m->nh (D.r Ä) k s->D.RD s e V l.w->(∀b,V b->l.M b)->gy l->¬l.q->(∀b,D.d b->l.M b)->D.RC l.w->∀f g,fi Ä Ì (λa j=>a.d=l.d/\∃p n c,j=G (f.finish<|ñ #[Æ p n c,à<|D.e<|k+1]) g/\∃h i,D.h k s h/\D.RD h (Æ p n c) i a.w/\∀b,i b->a.M b) (lY l)<|G (Ă Ä 66 #[e,À<|D.o<|k+1] Ğ)<|f::g
def D3(D:SD):Prop:=∀i s a V l,i<D.q->nh (D.r Ä) (D.b i) s->D.RD s a V l.w->(∀b,V b->l.M b)->gy l->¬l.q->(∀b,D.d b->l.M b)->D.RC l.w->∀b c,fi Ä Ì (λe f=>e.d=l.d/\f=G (b.finish<|à<|D.j i) c) (lY l)<|G (Ă Ä 67 #[a,À<|D.i i] Ğ)<|b::c
section
variable{D:SD}
def Hf(k:Nat)(a:k<=D.m):D.Y.M (D.C k):=Ç ⟨k,a,U⟩
def ze:D.Y.M D.I:=Ã U
def ajV(ok:D.Ok):(D.r Ä).Ok:=⟨ok.I,ok.L1,ok.fZ,λi _=>ok.S i,ok.ajQ,ok.ajR,ok.M,ok.pq,ok.pi,ok.Ov,ok.gq,⟨λk a b e=>by have c:D.a k=D.N:=e;have:=ok.Y k a b;omega,λi d e=>by have c:D.c i=D.N:=e;have:=ok.a i d;omega⟩⟩
theorem ajW(ok:D.Ok)(tK:D2 D):∀k s V l g,k<D.m->BJ D k l g->gy l->nh (D.r Ä) k s->(D.r Ä).d k s V l.w->(∀b,V b->l.I b)->l.N (je D.Y k)->l.r (je D.Y<|k+1)->l.r (jk (D.r Ä)<|D.a<|k+1)->∀B:Nat->D.γ,B k=s->fi Ä Ì (JI (D.r Ä) B<|.mk (k+1)) l g:=by
 intro k s V l g o hJ DZ R7 AQ hV ug C E B hsg;obtain⟨hd,F,f,t,G,v1,v2,v3,v4,u0,u1,u2,u3,u4,hT,Bu,cbw,rfl⟩:=hJ;let⟨⟨sl,hsl,qA⟩,_⟩:=AQ;let⟨b,yS,hbM,i0,i1,i2,i3⟩:=f.h k o;have F2:=ok.fZ;have lA:(⟨D.C<|k+1,2,Á⟩:â)≠⟨D.M,D.a<|k+1,Á⟩:=λe=>ok.M (by injection e with H _ _;rw[<-H];exact Hf (k+1) o);have Az:Bb D.M D.N (Â ⟨b,0,Á⟩) D.m D.t k t:=by rwa[<-yS]
 have⟨oc1,oz1⟩:=f.r _ C;have⟨oc2,oz2⟩:=f.r _ E;have ru:∀a:â,(a=⟨D.C<|k+1,2,Á⟩\/a=⟨D.M,D.a<|k+1,Á⟩)->l.r a:=λa p=>by rcases p with rfl|rfl;exact C;exact E
 have r:=f.C _<|Hf (k+1) o;have Zn:=f.M _<|Hf (k+1) o;refine fi.fN (Stop:=λl g=>(∃i n,D.h k s i/\(D.r Ä).d (k+1) i n l.w/\(∀b,n b->l.M b)/\l.w.cell? ⟨D.M,D.a<|k+1,Á⟩=Â (à<|D.e<|k+1))/\yq Ä Ì (D.C<|k+1) (fi Ä Ì<|BJ D<|k+1) (pJ (D.r Ä) l<|k+1) g) (λl g h=> ?_) ?_
 .let⟨⟨i,n,I,J,L,O⟩,P⟩:=h;exact⟨i,n,by subst hsg;exact I,J,L,O,P⟩
 refine aiy (Q:=λv x y=>x=D.e (k+1)/\∃i n,D.h k s i/\D.RD i v n y.w/\∀b,n b->y.M b) (τ:=λl=>pJ (D.r Ä) l<|k+1) DZ F hd Az o Z (by have:=ok.N1;omega) (ok.Y (k+1) Z o) hbM i0 i1 i2 i3 ug hsl C E oc1 oc2 oz1 oz2 lA (λc v j u=> ?_) λc x v hQ Q9 Kr=> ?_
 .refine(tK k s sl V c o R7 (ok.r _ _ _ _ _ qA λb x=>v.r b<|Ç<|hV b x) (λb x=>v.M<|Ç<|hV b x) (v.G DZ) (by rwa[v.q]) (λb x=>v.M<|f.Y b x) (ok.C _ _ f.e λb x=>v.r b<|f.Y b x) j u).fN ?_;grind
 .let⟨y,⟨hstr,i,n,hnx,ajX,Zo⟩,hy⟩:=hQ;rw[hstr]at Kr;have Zp:nk (D.C<|k+1) c.w:=⟨v.b _ r.1 Zn.1,v.b _ r.2 Zn.2⟩;refine⟨⟨Ã (by rw[v.K];exact r.1),Ã (by rw[v.K];exact r.2),λ_ _ _ _ _ _ _ _=>trivial⟩,⟨v.fx,Zp,trivial⟩,⟨i,n,hnx,⟨⟨_,Q9,ok.r _ _ _ _ _ ajX λb x=>(hy b<|Zo b x).2⟩,λe=>by omega⟩,λb x=>(hy b<|Zo b x).1,Kr⟩,v.d.trans hd,λw=>fH (pJ (D.r Ä) c<|k+1) c.w w,⟨Ã (by show c.K _;rw[v.K];exact r.1),Ã (by show c.K _;rw[v.K];exact r.2),λw w₁ I J L O P h=>h.fg ⟨I,J,L,O,P⟩⟩,⟨λj h=>h.elim,Zp,fH.fU _ _⟩,λAo t' ajY Xu=> ?_⟩;refine .fB λS u=> ?_;have z:=ajY.2.2.fg ⟨u.r,u.I,u.N,u.Y,u.S⟩;have x:=λb x=>(z.I b<|Ç<|v.M x).trans<|v.r b x;have Zq:∀b,l.M b->({pJ (D.r Ä) c (k+1)with d:=0,w:=S}:fc).M b:=λb x=>Ç<|v.M x;refine⟨U,by show¬c.q;rwa[v.q],f.I ok Zq x (by show c.K=l.K;exact v.K) (λa p h=>z.S a (by show c.K a;rwa[v.K])<|v.b a p h) λa p=> ?_,t',G,v1,v2,v3,v4,u0,u1,u2,u3,u4,by rwa[yS],Zq G Bu,(gK<|x G Bu).trans cbw,U⟩;obtain⟨T,W,X⟩:c.r a/\a≠⟨D.M,D.a<|k+1,Á⟩/\a≠⟨D.C<|k+1,2,Á⟩:=p;have Y:l.r a:=by rwa[<-v.I]
  let⟨H,e2⟩:=f.r a Y;refine⟨?_,?_⟩
  .show(S.cell? a).isSome=Ò;rwa[z.N a<|Ã ⟨T,W,X⟩,v.e a (Ã Y) λq=>q.elim X W]
  .show S.frozen? a=Ì;rwa[z.Y a<|Ã ⟨T,W,X⟩,v.S a<|Ã Y]
def ajZ:∀l g,BJ D D.m l g->gy l->fi Ä Ì (Av<|D.r Ä) l g:=by intro l g c d;obtain⟨e,f,b,t,k,n,o,p,q,r,s,u,v,w,h,i,j,rfl⟩:=c;have a:=b.C _<|ze;exact aiG (Ψ:=λ_=>True) h a ⟨Ã a.1,Ã a.2,λ_ _ _ _ _ _ _ _=>trivial⟩ ⟨d.r,b.M _ ze,trivial⟩ e f (Ã i) j
def Zr(ok:D.Ok){r:Nat}{l:fc}{t:Array Ï}{g h m o p:Ï}(B:gy l)(s:¬l.q)(C:l.d=0)(a:lE D l.M l)(E:QT D.M D.N i t)(f:l.M k)(u:l.w.cell? ⟨k,0,Á⟩=Â (À<|Â ⟨D.I,0,Á⟩)): CX (D.r Ä) i j r l (yY t [GD g h m o p,yV k v x z jQ,nO Ä]):=by have y:=ok.S<|j+r*D.n;refine aiL B s C E (Ú _) U (a.C _<|Hf _ y) (a.M _<|Hf _ y) (a.C _ ze) (a.M _ ze) (Ã f) u λQ F G e H I J K L O P=>(⟨H,by rwa[e.q],(a.R6 ok (λ_ q=>q) e).N λb q=>e.M q,G,F,k,v,x,z,jQ,g,h,m,o,p,O,P,I,J,K,L,e.M f,(gK<|e.r k f).trans u,U⟩)
theorem aj0(ok:D.Ok)(W:D3 D):∀c j r s V l g,j+r*D.n<D.q->Zl D c (j+r*D.n) l g->∀f:fc,gy f->f.O=l.O->(∀b,l.I b\/V b->f.I b)->f.w=l.w->f.d=l.d->f.q=l.q->f.r=l.r->f.K=l.K->nh (D.r Ä) (D.b<|j+r*D.n) s->(D.r Ä).d (D.b<|j+r*D.n) s V l.w->f.N (je D.Y<|D.b<|j+r*D.n)->f.r (jk (D.r Ä)<|D.c<|j+r*D.n)->fi Ä Ì (JW (D.r Ä) c j<|.mZ r) f g:=by
 intro c j r s V l g E X f v F y o Y hq' JQ hK R7 AQ ug p;obtain⟨hd,hq,G,t,tb,u,v1,v2,v3,v4,u0,u1,u2,u3,u4,hT,h4,hOt,H,I,J,L,N,rfl⟩:=X;let⟨⟨sl,P,S⟩,_⟩:=AQ;have B:∀b,l.M b->f.M b:=λb q=>q.elim (λz=>Ã<|by rwa[F]) λz=>Ç<|y b<|Ã z;have m:=G.I ok B (λb _=>by rw[o]) hK (λa _ h=>by rwa[o]) λa q=>by rw[o];exact G.r a<|by rwa[<-JQ]
 have C:¬f.q:=by rwa[hq']
 rw[<-o]at H I J N P S;let⟨e2,z2⟩:=m.r _ p;refine yZ (Q:=λx=>x=D.j (j+r*D.n)) v C hT h4 (by rwa[F]) H I J ug P p e2 z2 (ok.a _ E) (λi e k T=> ?_) λi x t' e hx hcx Az=> ?_
 .refine(W _ s sl V i E R7 (ok.r _ _ _ _ _ S λb x=>e.r b<|Ç<|y b<|Ç x) (λb x=>e.M<|Ç<|y b<|Ç x) (e.G v) (by rwa[e.q]) (λb x=>e.M<|m.Y b x) (ok.C _ _ m.e λb x=>e.r b<|m.Y b x) k T).fN ?_;grind
 .have T:=(m.R6 ok (λ_ q=>q) e).N λb q=>e.M q;refine⟨hcx.trans (by rw[hx];rfl),?_⟩;have k:=e.G v;have Gw:gy (ve (D.r Ä) i<|j+r*D.n):=by
   refine⟨k.c,λa x=> ?_,λa x=> ?_,k.fx,λa x=> ?_,λa x=> ?_⟩
   .rintro(q|q)
    .exact k.Y a x.1 q
    .exact x.2 q
   .refine k.N a ?_;rcases x with q|q|q
    .exact Ã q.1
    .exact Ç q
    .rw[q];exact Ã<|by rwa[e.I]
   .refine k.I a ?_;rcases x with q|q|q
    .exact Ã q.1
    .exact Ç q
    .rw[q];exact Ã<|by rwa[e.I]
   .let⟨k1,k2,k3⟩:=k.S a x;exact⟨k1,k2,λq=>k3 q.1⟩
  refine Zr ok Gw (by show¬i.q;rwa[e.q]) (by show i.d=0;rwa[e.d,Y]) (T.I ok (λ_ q=>q) (λ_ _=>rfl) U (λ_ _ h=>h) λa q=>T.r a q.1) Az (by show i.M u;exact e.M<|B u L)<|(gK<|e.r u<|B u L).trans N
end
section
variable{D:SD}{dk:Nat->Nat}{dv:Ï}{l f:fc}
structure MF(D:SD)(dk:Nat->Nat)(dv:Ï)(l:fc):Prop where
 C:gy l
 q:¬l.q
 d:l.d=0
 r:lE D l.I l
 I:∃db c,dv=Æ (Â ⟨db,0,Á⟩) D.n c/\l.O db/\∀i,i<D.n->l.w.cell? ⟨db,i,Á⟩=Â (è<|Â<|dk i)
def MF.M(h:MF D dk dv l)(ok:D.Ok)(a:iD ff l f):MF D dk dv f where
 C:=a.G h.C;q:=by rw[a.q];exact h.q
 d:=a.d.trans h.d;r:=(h.r.R6 ok (λ_ q=>Ç q) a).N λb q=>by rwa[a.Y]
 I:=by let⟨e,c,j,g,k⟩:=h.I;exact⟨e,c,j,a.O e g,λi m=>(gK<|a.r e<|Ã g).trans<|k i m⟩
def aj1(ok:D.Ok):∀r,r<=D.n->∀l t b,MF D dk dv l->ET dv D.n (D.n-r) t->SE D.S D.I (D.C D.m) b->fi Ä Ò (Aw (D.r Ä) dk r) l (BH t<|He b::D.f):=by
 intro r
 induction r with
 |zero=>
  intro _ l t b a e g;rw[ũ]at e;refine ajM a.C a.d (Ú _) e g (a.r.C _ ze) (a.r.M _ ze) λf i h j=> ?_;have c:=a.M ok h;exact⟨c.d,c.q,c.r,i,j,U⟩
 |succ r j=>
  intro s l t b a e g;obtain⟨u,c,rfl,k,o⟩:=a.I;have v:=ok.fZ;refine ajL a.C a.q e Z Z k (o (D.n-(r+1)) Z) λf p h i=> ?_;refine j Z f p b (a.M ok h) ?_ g;rwa[show D.n-(r+1)+1=D.n-r by omega]at i
def aj2(ok:D.Ok):∀r,r<=D.q->∀l t d,MF D dk dv l->DT dv D.l D.q D.k (D.q-r) t->SE D.S D.I (D.C D.m) d->fi Ä Ò (FQ (D.r Ä) dk r) l (BG t<|He d::D.f):=by
 intro r
 induction r with
 |zero=>
  intro _ l t d a e h;rw[ũ]at e;obtain⟨j,c,rfl,k,o⟩:=a.I;refine ajK a.C.r e λi g=>aj1 ok D.n (Ú _) l i d a ?_ h;rwa[Ū]
 |succ r s=>
  intro C l t d a e h;obtain⟨j,c,rfl,k,o⟩:=a.I;have E:=ok.fZ;have F:=ok.I;let⟨b,p,u,v,w,x,y⟩:=a.r.j (D.q-(r+1)) Z;have z:DT (Æ (Â ⟨j,0,Á⟩) D.n c) (Â ⟨b,0,Á⟩) D.q D.k (D.q-(r+1)) t:=by rwa[<-p]
  refine ajH a.C a.q z Z Z Z Z k (o _<|ĵ _ Z) (Ç u) v w x y λf i B g=> ?_;refine s Z f i d (a.M ok B) ?_ h;rwa[show D.q-(r+1)+1=D.q-r by omega,<-p]at g
theorem aj3(dk:Nat->Nat)(j a:Nat):jD (fy dk j a) (j+1)=jD dk j++[è<|Â a]:=by unfold jD;grind [ÿ,List.map_congr_left,fI,gF]
def aj4(dk:Nat->Nat)(j:Nat):(jD dk j).length=j:=by simp[jD]
def aj5(dk:Nat->Nat)(j i:Nat)(h:i<j):(jD dk j)[i]?=Â (è<|Â<|dk i):=by simp[jD,h]
theorem Zs(ok:D.Ok){t:Array Ï}(K:j<=D.n)(a:gy l)(o:¬l.q)(p:l.d=0)(h:lE D l.I l)(x:D.g<=l.w.heap.size)(v:ST D.S D.I (D.C D.m) D.n j (Æ D.l D.q D.k) dv t)(r:l.w.ownsRow 0 101 1 dv j (jD dk j))(s:∀k,dv.ownBlock=Â k->l.O k): fi Ä Ò (JM (D.r Ä) dk<|if j<D.n then .iF (j+1)else .iJ D.q) l (Bj t D.f):=by
 have L:=ok.fZ;by_cases u:j<D.n
 .rw[if_pos u];show fi Ä Ò (Ou (D.r Ä) (j+1) dk) l _;rw[ah7];refine Rk a o p v u Z Z (h.C _ ze) (h.M _ ze) r s λf i y z B C E F c G H M N I J P=> ?_;refine⟨y,c.d.trans p,by rwa[c.q],Õ x c.I,Ç ⟨Z,(h.ajS ok (λb g=>⟨Ç g,λe=>a.c b (s b e.symm) g⟩) c).N λb q=>(by rwa[c.S]),i,E,z,B,C,F,?_,?_,?_,I,J,?_,?_,U⟩⟩
  .rwa[ø]
  .rwa[ø,aj3,gF]
  .grind [ø,gF]
  .grind [ø,gF]
  .grind [ø,gF,Õ]
 .have e:j=D.n:=Z
  subst e;rw[if_neg u];have y:∃b c,dv=Æ (Â ⟨b,0,Á⟩) D.n c/\l.O b/\∀i,i<D.n->l.w.cell? ⟨b,i,Á⟩=Â (è<|Â<|dk i):=by
   rcases r.2 with⟨_,C⟩|⟨g,z,E,rfl,_⟩
   .have:=ok.I;omega
   .refine⟨g,z,U,s g U,λi B=> ?_⟩;have:=r.cells U i _<|aj5 dk D.n i B;grind [ğ]
  refine ajJ a.r v λg z B C=>(aj2 ok D.q (Ú _) l g z ⟨a,o,p,h,y⟩ (by rwa[Ū]) C)
def aj6(ok:D.Ok)(h:BJ D k l g)(r:fH l l.w u):BJ D k {l with w:=u} g:=by obtain⟨c,d,e,t,a,f,i,j,m,n,o,p,s,v,x,b,y,rfl⟩:=h;exact⟨c,d,e.G ok (λ_ q=>q) r,t,a,f,i,j,m,n,o,p,s,v,x,b,(gK<|r.I a b).trans y,U⟩
def hD.M{o:Ÿ}(h:hD l b o)(r:fH l l.w u):hD {l with w:=u} b o:=⟨h.fp,(r.I b<|Ã h.fp).trans h.I⟩
def FR(ok:D.Ok)(h:KY D j dk l g)(r:fH l l.w u):KY D j dk {l with w:=u} g:=by
 let⟨m,n,o,h⟩:=h;refine⟨m,n,Õ o r.r,?_⟩;rcases h with⟨p,b,t,c,d,f,i,s,v,rfl⟩|⟨x,b,t,dv,y,c,d,f,i,a,z,B,C,E,F,rfl⟩
 .exact Ã ⟨p,b.G ok (λ_ q=>q) r,t,c,d,f,i,s.M r,v.M r,U⟩
 .exact Ç ⟨x,b.G ok (λ_ q=>Ç q) r,t,dv,y,c,d,f,i,⟨nQ a.S λk e=>r.I k<|Ã<|a.M k e,a.M,a.r.M r,a.C.M r,a.N.M r,a.I.M r⟩,z,B,C,E,F,U⟩
theorem aj7(ok:D.Ok):∀j dk l g,j<=D.n->KY D j dk l g->gy l->l.d=0/\∃(G H:Ý) (X:Nat->Prop),G.status=ċ/\H.status=ċ/\(∀u,stepG Ä Ò g u=.spawn G H u #[])/\(∀b,X b->l.O b)/\ (1<=j->l.O (dk<|j-1)/\¬X (dk<|j-1)/\l.w.heap[dk<|j-1]?=Â (ŕ D.q #[] Ì 0 0 Ì)/\D.g<=dk (j-1))/\ (∀f:fc,gy f->(∀b,X b\/l.I b->f.I b)->f.w=l.w->f.d=0->¬f.q->(∀b,¬f.O b)->f.K=l.K->f.N=l.N->(∀a,f.r a->l.r a)->fi Ä Ì (if j=0 then BJ D 0 else CX (D.r Ä) (dk<|j-1) (j-1) 0) f H)/\ (∀f:fc,gy f->f.O=(λb=>l.O b/\¬X b/\(1<=j->b≠dk (j-1)))->(∀b,X b\/l.I b->f.I b)->f.w=l.w->f.d=0->f.q=l.q->f.K=l.K->f.N=l.N->(∀a,f.r a->l.r a)->fi Ä Ò (JM (D.r Ä) dk<|if j<D.n then .iF (j+1)else .iJ D.q) f G):=by
 intro j dk l g L h DZ;let⟨hd,N,P,h⟩:=h;refine⟨hd,?_⟩;rcases h with⟨rfl,o,t,x,C,v1,I,Q,S,rfl⟩|⟨h1,o,t,dv,T,x,C,v1,I,c,x1,x2,x3,x4,x5,rfl⟩
 .refine⟨_,_,l.O,U,U,λu=>YR _ _ _ _ _ _ _ u,λ_ q=>q,λq=>by omega,λf i m X y p E z J B=> ?_,λf i E m X y p z J B=> ?_⟩
  .rw[if_pos U];have e:=λb q=>m b q;have s:lE D f.M f:=o.I ok (λb q=>Ç<|e b q) (λb _=>by rw[X]) z (λa _ h=>by rwa[X]) λa q=>by rw[X];exact o.r a<|B a q
   refine aiF i.r p (Ã<|Ç<|e C<|Ã S.fp) (Ã s.f) (Ã s.c) (by rw[X];exact S.C U) s.g s.d λF V W Y w4 u0 u1 u2 u3 u4 v=> .fB λu r=>aj6 ok ⟨y,p,s,F,x,V,W,Y,w4,u0,u1,u2,u3,u4,v,Ç<|e x<|Ã Q.fp,by rw[X];exact Q.C U,U⟩ r
  .refine aiS i.r I λF v=>(Zs ok L i (by rwa[p]) y (o.I ok (λb q=>m b q) (λb _=>by rw[X]) z (λa _ h=>by rwa[X]) λa q=>by rw[X];exact o.r a<|B a q) (by rwa[X]) v (World.ownsRow_nil _ _ _ _) λk e=>by cases e)
 .refine⟨_,_,λb=>b=T\/b=x\/b=C,U,U,λu=>YR _ _ _ _ _ _ _ u,λb q=> ?_,λ_=>⟨c.r.fp,?_,c.r.I,x5⟩,λf i m X y p E z J B=> ?_,λf i E m X y p z J B=> ?_⟩
  .rcases q with rfl|rfl|rfl
   .exact c.C.fp
   .exact c.N.fp
   .exact c.I.fp
  .grind
  .rw[if_neg Z];have s:lE D f.M f:=o.I ok (λb q=>Ç<|m b<|Ç q) (λb _=>by rw[X]) z (λa _ h=>by rwa[X]) λa q=>by rw[X];exact o.r a<|B a q
   have Zt:f.M x:=Ç<|m x<|Ã<|Ç<|Ã U;refine aiK i.r p (Ã<|Ç<|m C<|Ã<|Ç<|Ç U) (Ã<|Ç<|m T<|Ã<|Ã U) (Ã s.c) (by rw[X];exact c.I.C U) (by rw[X];exact c.C.C U) s.d λF V W Y w4 u0 u1 u2 u3 u4 v=> .fB λu r=>(Zr ok (i.jW r.r) p y (s.G ok (λ_ q=>q) r) v Zt<|(gK<|r.I x Zt).trans<|by rw[X];exact c.N.C U)
  .have s:=ok.fZ;refine aiT i.r I Z λF v=> ?_;rw[show j-1+1=j by omega]at v;have r:=c.S;rw[aj4]at r;refine Zs ok L i (by rwa[p]) y (o.I ok (λb q=>m b<|Ç q) (λb _=>by rw[X]) z (λa _ h=>by rwa[X]) λa q=>by rw[X];exact o.r a<|B a q) (by rwa[X]) v (by rwa[X]) λk e=> ?_;rw[E];let⟨a,V,W,Y⟩:=x4 k e;refine⟨c.M k e,?_,λ_=>a⟩;grind
def aj8(ok:D.Ok)(b:D2 D)(d:D3 D):gR (D.r Ä) where
 C:=ajV ok;S k s V w w' h hV hc hz hf xj:=by let⟨⟨a,f,m⟩,t⟩:=h;exact⟨⟨a,hc.trans f,ok.r _ _ _ _ _ m hV⟩,λe=>⟨hz.trans (t e).1,hf.trans (t e).2.1,ok.ioS _ _ (t e).2.2 xj⟩⟩
 FR j dk l g w₁ h r:=FR ok h r;I j dk l g h:=by let⟨_,_,_,h⟩:=h;rcases h with⟨_,_,t,e,f,a,_,_,_,rfl⟩|⟨_,_,t,dv,m,e,f,a,_,_,_,_,_,_,_,rfl⟩<;>rfl
 N k l g h:=by obtain⟨_,_,_,t,e,a,f,m,n,o,p,q,u,v,_,_,_,rfl⟩:=h;rfl
 Y c i l g h:=by obtain⟨_,_,_,t,tb,e,a,f,m,n,o,p,q,u,v,_,_,_,_,_,_,_,_,rfl⟩:=h;rfl
 M dk l g h:=by obtain⟨_,_,_,f,_,rfl⟩:=h;rfl
 go:=aj7 ok;f:=ajW ok b;h:=ajZ;e:=aj0 ok d
end
end Go.Proofs.Y.fv
namespace Go.Proofs.Y.fv
open Go Go.Conc Go.Proofs.Y.Lift
open Go.ConcN (sumTo sumTo_congr)
structure kC(P:ė)(Y:Nat->Prop)(jj:Ν->Prop)(H:Nat)(J:Jd)(T:gw)(lv:Nat->Nat)(lot:Nat->fc)(gs:Array Ý)(w:ß)(t:ż):Prop where
 C:1<=gs.size
 r:gL P 0 Y (λi=>if i=0 then J else oW P (lv i)) (λi=>if i=0 then T else .fB) (λ_=> .no) lot gs w t
 c:∀i,0<i->i<gs.size->lot i=ky (lot i)
 d:¬(lot 0).q
 M:∀p a,touchAt t p=Â a->a.loc.isMemory=Ò->Knows t 0 p\/(jj a.loc/\a.kind=.atomic)
 S:∀p a x,touchAt t p=Â a->a.loc=û x->t.g? p=Â 0\/x.block<H
 b:∀a:â,H<=a.block->NoRelease a t
 N:t.HandedOver
abbrev rA(P:ė):=kC P λ_=>False
structure qB(l l':fc)(w w':ß):Prop where
 r:w.heap.size<=w'.heap.size
 N:∀j,l'.O j->l.O j\/w.heap.size<=j
 c:l'.I=l.I
 S:l'.r=l.r
 b:l'.N=l.N
 k:l'.K=l.K
 jO:∀j,j<w.heap.size->¬l.O j->(∀a:â,a.block=j->¬l.r a)->w'.heap[j]?=w.heap[j]?
 M:∀a:â,a.block<w.heap.size->¬l.O a.block->¬l.r a->w'.cell? a=w.cell? a
 Y:∀j,j<w.heap.size->¬l.O j->kQ w' j=kQ w j
 C:w'.os=w.os
 I:w'.output=w.output
 d:w'.tape=w.tape
theorem qB.fU(l:fc)(w:ß):qB l l w w:=⟨Ú _,λ_ h=>Ã h,U,U,U,U,λ_ _ _ _=>rfl,λ_ _ _ _=>rfl,λ_ _ _=>rfl,U,U,U⟩
def qB.fg{l e i:fc}{w':ß}(h:qB l e w w')(k:qB e i w' u):qB l i w u:=by
 have f:∀j,j<w.heap.size->¬l.O j->¬e.O j:=λj c b q=>(h.N j q).elim b λz=>by omega
 refine⟨Õ h.r k.r,λj q=> ?_,k.c.trans h.c,k.S.trans h.S,k.b.trans h.b,k.k.trans h.k,λj c b d=>((k.jO j (È c h.r) (f j c b)<|by rwa[h.S]).trans<|h.jO j c b d),λa g b d=>((k.M a (È g h.r) (f _ g b)<|by rwa[h.S]).trans<|h.M a g b d),λj c b=>(k.Y j (È c h.r)<|f j c b).trans<|h.Y j c b,k.C.trans h.C,k.I.trans h.I,k.d.trans h.d⟩
 .rcases k.N j q with z|z
  .exact h.N j z
  .exact Ç<|Õ h.r z
def mo.aj9{l a:fc}(h:mo l a w u V):qB l a w u:=⟨h.C,h.S,h.I,h.r,h.M,h.k,h.jO,h.N,λj b c=>h.Y ⟨j,0,Á⟩ b c,h.f,h.g,h.m⟩
def qB.G{l a:fc}(h:qB l a (w.at i) u):qB l a w u:=⟨h.r,h.N,h.c,h.S,h.b,h.k,h.jO,h.M,h.Y,h.C,h.I,h.d⟩
section
variable{Y:Nat->Prop}{jj:Ν->Prop}{H:Nat}{J:Jd}{T:gw}{lv:Nat->Nat}{lot:Nat->fc}{gs:Array Ý}{t:ż}{sl:Option (Nat×Nat)}
def kC.I(c:kC P Y jj H J T lv lot gs w t)(d:Nat):kC P Y jj H J T lv lot gs (w.at d) t:=⟨c.C,c.r.at d,c.c,c.d,c.M,c.S,c.b,c.N⟩
def akb{l:fc}{e:ž}(h:yl l e)(a:â):ï e≠.mark (.release a):=by
 let⟨c,d,g⟩:=e;rcases h with⟨x,b,_⟩|h|⟨f,h⟩|h|h|⟨x,_,h⟩
 .simp only at b;subst b;simp[ï]
 .simp only at h;subst h;simp[ï]
 .simp only at h;subst h;simp[ï]
 .simp only at h;subst h;simp[ï]
 .simp only at h;subst h;simp[ï]
 .simp only at h;rcases h with rfl|rfl|rfl|rfl<;>simp[ï]
theorem akc{e:ž}(h:e.mute=Ò)(a:â):ï e≠.mark (.release a):=by let⟨b,c,d⟩:=e;cases b<;>simp_all[Event.mute];rename_i m;cases m<;>simp_all[ï]
theorem kC.akd{k:ß->gw}(c:kC P Y jj H J (.ju k) lv lot gs w t)(o:∀l g,J l g->g.status=ċ\/g.status=ş)(r:gs[0]?=Â g): ∃e b d u,runT P (Ĭ gs w sl) 0=(.next<|Ĭ b d sl,u)/\b.size=gs.size/\qB (lot 0) (e 0) w d/\kC P Y jj H J (k w) lv e b d (t++u):=by
 obtain⟨b,d,G,s,v,f,I,K,j,y⟩:=c.r.fp r U λl g h=>o l g h;refine⟨gu lot 0 s,b,d,_,v,f,by rw[gT];exact j.aj9,by rw[f];exact c.C,?_,λi z B=> ?_,?_,λp a h C=> ?_,λp a x h D=> ?_,λa h=>(c.b a h).app λu m=> ?_,Ř c.N λu m=>Ã<|nY u m⟩
 .have e:fy (λi=>if i=0 then(.ju k:gw)else .fB) 0 (k w)=λi=>if i=0 then k w else .fB:=by
   funext i;unfold fy;grind
  rwa[<-e]
 .rw[gH lot _ Z];exact c.c i z<|by rwa[<-f]
 .rw[gT,j.q];exact c.d
 .rcases mK h with⟨_,e⟩|⟨_,u,e,E,n⟩
  .exact(c.M p a e C).imp (·.app _) id
  .have:=knows_own n;grind [nY]
 .rcases mK h with⟨F,e⟩|⟨_,u,e,E,n⟩
  .rw[g?_old F];exact c.S p a x e D
  .apply Ã;unfold Trace.g?;grind [nY]
 .obtain⟨e,n,rfl⟩:=Č m;exact akb (j.c e n) a
theorem kC.Zu(c:kC P Y jj H J T lv lot gs w t)(q:gs[i]?=Â g)(b:i≠0)(y:g.status=ċ): ∃a e f u,runT P (Ĭ gs w sl) i=(.next<|Ĭ f w sl,u)/\f.size=gs.size/\sumTo gs.size a+1=sumTo gs.size lv/\e 0=lot 0/\kC P Y jj H J T a e f w (t++u):=by
 have z:=(æ.1 q).1;obtain⟨f,r,m,M,B,o,N,C,D⟩:=c.r.Ob (n:=lv i) q b y U (by simp[b]) (by simp[b]);have E:∀u∈MemOp.ofEvents i g.frame.fn g.frame.place r,u.act.touch?=Á:=λu h=>by obtain⟨e,s,rfl⟩:=Č h;exact touch_mute<|C e s
 refine⟨fy lv i m,gu lot i {lot i with d:=į (lot i).d r,w:=w},f,_,B,o,?_,gH lot _<|Ne.symm b,by rw[o];exact c.C,?_,λj v F=> ?_,?_,λp a k G=> ?_,λp a x k I=> ?_,λa k=>(c.b a k).app λu h=> ?_,Ř c.N λu h=>Ç<|E u h⟩
 .grind [wI,fI,gF]
 .have l:fy (λi=>if i=0 then J else oW P (lv i)) i (oW P m)=λj=>if j=0 then J else oW P (fy lv i m j):=by
   funext j;unfold fy;grind
  rwa[<-l]
 .by_cases e:j=i
  .subst e;rw[gT];have:=c.c j v z;rw[this];rfl
  .rw[gH lot _ e];exact c.c j v<|by rwa[<-o]
 .rw[gH lot _<|Ne.symm b];exact c.d
 .rcases mK k with⟨_,l⟩|⟨_,u,l,K,_⟩
  .exact(c.M p a l G).imp (·.app _) id
  .grind
 .rcases mK k with⟨L,l⟩|⟨_,u,l,K,_⟩
  .rw[g?_old L];exact c.S p a x l I
  .grind
 .obtain⟨e,s,rfl⟩:=Č h;grind [akc]
def kC.J9(c:kC P Y jj H J T lv lot gs w t):∀g∈gs,awake g:=by
 intro g e;obtain⟨i,f,rfl⟩:=Array.mem_iff_getElem.1 e;let⟨g0,_,b,a,_⟩:=c.r.C i _<|ì f;intro τ d;generalize gs[i]=g at b d;cases b with
 |gl=>rcases a with a|a<;>rw[d]at a<;>cases a
theorem kC.G(K:∀l g,J l g->g.status=ċ\/g.status=ş):∀(T:gw) (s:Nat) (lv:Nat->Nat) (lot:Nat->fc) (gs:Array Ý) (w:ß) (sl:Option (Nat×Nat)) (t:ż),sumTo gs.size lv=s->kC P Y jj H J T lv lot gs w t-> ∃N h b a f e c,Ŷ P N (Ĭ gs w sl) t=(.next<|Ĭ a f e,c)/\a.size=gs.size/\qB (lot 0) (b 0) w f/\kC P Y jj H J .fB h b a f c:=by
 intro T
 induction W3.apply T with
 |intro T _ L=>
  intro s
  induction s using Nat.strongRecOn with
  |_ s M=>
   intro lv lot gs w sl t V c;cases C:T with
   |fB=>
    subst C;exact⟨0,lv,lot,gs,w,sl,t,U,U,qB.fU _ _,c⟩
   |ju k=>
    subst C;have W:=c.C;obtain⟨g0,D⟩:∃g,gs[0]?=Â g:=⟨_,ì Z⟩;have O:g0.status=ċ:=by let⟨S,d,i,_,_⟩:=c.r.C 0 g0 D;grind [af3]
    let⟨i,g,d,e,E,Q,F⟩:=crowd_pick (P:=P) (w:=w) (sl:=sl) c.J9 ⟨0,g0,D,O⟩;by_cases G:i=0
    .subst G;let⟨b,a,f,u,n,j,S,I⟩:=(c.I d).akd (sl:=e) K E;let⟨N,o,p,q,r,v,x,y,z,m,B⟩:=L (k<|w.at d) ⟨_,U⟩ _ lv b a f e (t++u) U I;exact⟨N+1,o,p,q,r,v,x,by simp only[Ŷ,F,n];exact y,z.trans j,S.G.fg m,B⟩
    .let⟨h,b,a,u,n,j,I,f,S⟩:=(c.I d).Zu (sl:=e) E G Q;let⟨N,o,p,q,r,v,x,y,z,m,B⟩:=M (sumTo a.size h) (by rw[j];omega) h b a (w.at d) e (t++u) U S;exact⟨N+1,o,p,q,r,v,x,by simp only[Ŷ,F,n];exact y,z.trans j,by rw[f]at m;exact m.G,B⟩
end
section
variable{F:Ph}{E:fT F}{S:Nat->Jd}{tr:Nat->gw}{o:Nat->iy}{f:Nat->fc}{gs:Array Ý}
def PI.jo(p:PI F i zX E S tr o f gs w qJ)(c:E.M=.gf):E.r=F.n+1/\∀x,x<F.n+1->∃N,E.N x=Â (.jo N):=by
 refine⟨(by unfold fT.r;rw[c];rfl),λx g=> ?_⟩;have a:=O5 (p.C.B<|Ç<|Ç c) x g;have j:x<E.M.ad F.n:=by rwa[c]
 unfold fT.G at a;rw[if_pos j]at a;have l:E.M.gD=0:=by rw[c];rfl
 cases d:E.N x with
 |none=>rw[d]at a;simp[lW]at a
 |some e=>
  rw[d]at a;simp only[lW]at a;cases e with
  |oB=>simp[ij.kL]at a
  |jo N=>exact⟨N,U⟩
  |gf q=>
   let⟨h,k⟩:=p.C.N x q d;cases q with
   |jA=>simp[ij.kL,jC.kL]at a
   |iF=>simp[ij.kL,jC.kL]at a
   |gA W=>
    let⟨_,b⟩:=h W<|Ã U;have r:=p.M.C.r;rw[b]at r;have:=(p.C.g W b).2.1;simp only[GS.ok]at r;omega
   |ja W=>
    let⟨_,b⟩:=h W<|Ç U;have r:=p.M.C.r;rw[b]at r;have:=(p.C.g W b).2.1;simp only[GS.ok]at r;omega
   |iz r=>
    let⟨W,_,s,b⟩:=k r U;have:=(p.C.u r s b).2.1;omega
def xk(l:fc):fc:={l with O:=λ_=>False,I:=λ_=>False,r:=λ_=>False,N:=λ_=>False,K:=λ_=>False,q:=True}
def u7(f:Nat->fc)(l:fc):Nat->fc:=λi=>if i=0 then l else xk (f i)
def R8(f:Nat->fc)(l:fc):u7 f l 0=l:=rfl
def vx(f:Nat->fc)(l:fc)(h:i≠0):u7 f l i=xk (f i):=if_neg h
def Hg{l:fc}(h:i≠0):¬(u7 f l i).M b:=by rw[vx f l h];exact λq=>q.elim id id
def Hh{l:fc}(h:i≠0):¬(u7 f l i).C a:=by rw[vx f l h];exact λq=>q.elim id id
def iQ.Y{Y I:Nat->Prop}(C:iQ n I Y f w qJ)(u:I 0){l:fc}(v:n<=m)(x:∀b,l.O b->¬l.I b)(y:∀a,l.r a->¬l.N a)(B:∀b,l.M b->¬X b)(D:∀a,l.C a->X a.block)(E:∀b,l.M b->b<w.heap.size)(F:∀b,X b->b<w.heap.size)(G:fH l l.w w)(H:N6 qJ 0 l)(J:l.d=(f 0).d)(t:∀a,l.K a->X a.block/\¬l.r a):iQ m I X (u7 f l) w qJ:=by
 refine⟨λi j g L s b o=> ?_,λi j g L s a e=> ?_,λi g b o=> ?_,λi g a e=> ?_,λi g b o=> ?_,λi g a e=> ?_,λi g b o=> ?_,F,λi g=> ?_,λi g=> ?_,λi g=> ?_,C.l,C.q,λp a c N r P=>È (C.s p a c N r P) v,λi g a e=> ?_⟩
 .by_cases h:j=0
  .subst h;exact absurd (Ã o)<|Hg s
  .exact Hg h
 .by_cases h:j=0
  .subst h;exact absurd (Ã e)<|Hh s
  .exact Hh h
 .by_cases h:i=0
  .subst h;exact x b o
  .exact absurd (Ã o)<|Hg h
 .by_cases h:i=0
  .subst h;exact y a e
  .exact absurd (Ã e)<|Hh h
 .by_cases h:i=0
  .subst h;exact B b o
  .exact absurd o<|Hg h
 .by_cases h:i=0
  .subst h;exact D a e
  .exact absurd e<|Hh h
 .by_cases h:i=0
  .subst h;exact E b o
  .exact absurd o<|Hg h
 .by_cases h:i=0
  .subst h;exact G
  .rw[vx f l h];exact⟨(C.r i g).r,λj q=>q.elim (λz=>z.elim) λz=>z.elim,λa q=>q.elim (λz=>z.elim) λz=>z.elim,λa q=>q.elim (λz=>z.elim) λz=>z.elim,λa q=>q.elim⟩
 .by_cases h:i=0
  .subst h;exact H
  .rw[vx f l h];exact⟨λa e=>e.elim,λa e=>e.elim,λa e=>e.elim,λa e=>e.elim⟩
 .by_cases h:i=0
  .subst h;rw[R8,J];exact C.f 0 u
  .rw[vx f l h];exact C.f i g
 .by_cases h:i=0
  .subst h;refine⟨(t a e).1,λk z q=> ?_⟩;by_cases r:k=0
   .subst r;exact(t a e).2 q
   .exact absurd (Ã q)<|Hh r
  .rw[vx f l h]at e;exact e.elim
theorem PI.ake(p:PI F i zX E S tr o f gs w qJ)(m:E.M=.gf)(r:J5 F zX qJ)(y:F.S=0)(M:1<=F.L): ∃z:Nat->Nat,kC F.P E.Y (λk=>zX k\/∃x:â,k=û x/\x.block=F.C) w.heap.size (F.j E.I) (tr 0) z (u7 f<|f 0) gs w qJ:=by
 let⟨B,s⟩:=p.jo m;have O:gs.size=F.L+(F.n+1):=by rw[p.b,B]
 have C:=p.I.r;have c:0<gs.size:=Z
 refine⟨λb=>if h:F.L<=b/\b<F.L+(F.n+1)then Classical.choose (s (b-F.L) Z)else E.h b,Z,⟨?_,λb x t=> ?_,p.I.I⟩,λb Q _=> ?_,p.a.M 0<|Ã U,λq a d D=> ?_,λq a x d G=>Ç<|WZ C.q d G,λa d q u=> ?_,r.2⟩
 .rw[y]at C;exact C.Y c (Ú _) (C.m 0 c) (C.g 0 c) (C.I 0 c) (C.e 0 c) (C.fx 0 c) C.N (C.r 0 c) (C.S 0 c) U λa d=>⟨(C.n 0 c a d).1,(C.n 0 c a d).2 0 c⟩
 .let⟨k,j,l,v,H⟩:=p.I.C b x t;by_cases h:b=0
  .subst h;rw[p.h.1,m]at j;rw[p.h.2,m]at l;exact⟨k,j,l,v,H⟩
  .have T:=(æ.1 t).1;simp only[h,if_false];rw[vx f _ h];have I:∀N,S b=oW F.P N->tr b=.fB->o b=.no->∃k,kX F.P (b==0) (oW F.P N) .fB (xk<|f b) k/\wE k .no x/\(k.status=ċ\/k.status=ş)/\(x=k\/True):=λN z e g=>by
    rw[z,e]at j;rw[g]at l;exact⟨k,λJ _=>j _<|fH.fU _ _,l,v,Ç trivial⟩
   by_cases J:b<F.L
   .let⟨z,e,g⟩:=p.l b Z J;grind
   .have K:F.L<=b/\b<F.L+(F.n+1):=Z
    simp only[K,dif_pos,and_self];let⟨z,e,g⟩:=p.k (b-F.L) _ Z<|Classical.choose_spec<|s (b-F.L) Z;rw[show F.L+(b-F.L)=b by omega]at z e g;exact I _ z (g ⟨_,U⟩) e
 .rw[vx f _ Z];rfl
 .rcases r.1 q a d D with z|⟨z,k⟩;all_goals grind
 .unfold Trace.act? at u;let⟨k,z,g⟩:=ġ.1 u;have:=C.q k<|Array.mem_of_getElem? z;rw[g]at this;have e:a.block<w.heap.size:=this;omega
theorem kC.Y{Y:Nat->Prop}{J:Jd}{s:gw}(c:kC P Y zX n J s D f gs w qJ)(t:(f 0).d=0)(o:gs[0]?=Â g)(u:g.status=ċ){p:Jd}{T:gw}{l:fc}(v:l.w=w)(y:l.d=0)(B:¬l.q)(k:∀b,¬l.I b)(r:∀a,¬l.r a)(m:∀a,¬l.N a)(C:∀a,¬l.K a)(E:∀b,l.O b->b<w.heap.size/\∀x:â,x.block=b->¬zX (û x))(F:kX P Ò p T l g): rA P zX n p T D (u7 f l) gs w qJ:=by
 refine⟨c.C,⟨?_,λi x j=> ?_,c.r.I⟩,λi o _=> ?_,B,c.M,c.S,c.b,c.N⟩
 .refine(c.r.r).Y c.C (Ú _) (λb _=>k b) (λa _=>m a) (λ_ _=>id) (λa e=>e.elim (λq=>absurd q<|r a) λq=>absurd q<|m a) (λb z=>z.elim (λq=>(E b q).1) λq=>absurd q<|k b) (λ_ h=>h.elim) (by rw[v];exact fH.fU _ _) ⟨λa e G x j I=> ?_,λa e=>(k _ e).elim,λa e=>(r a e).elim,λa e=>(m a e).elim⟩ (by rw[y,t]) λa e=>absurd e<|C a;rcases c.M G x j (by rw[I];rfl)with z|⟨z,_⟩;all_goals grind
 .by_cases h:i=0
  .subst h;rw[o]at j;obtain rfl:=Ó j;exact⟨g,F,.gl,Ã u,Ã U⟩
  .let⟨g0,e,G,I,z⟩:=c.r.C i x j;simp only[h,if_false]at e z|-;rw[vx f _ h];exact⟨g0,λL _=>e _<|fH.fU _ _,G,I,z⟩
 .rw[vx f _ Z];rfl
end
section
variable{F:Ph}{H:Nat}{J:Jd}{f:Nat->fc}{gs:Array Ý}
structure R9(F:Ph)(H:Nat)(l0 l:fc)(w:ß):Prop where
 fp:∀b,l.O b->l0.O b/\¬(F.M b\/b=F.Y)
 r:∀b,l.I b->l0.O b/\¬(F.M b\/b=F.Y)/\¬l.O b
 C:∀a,l.r a↔∃x,x<=F.n/\lO F x a
 I:∀a,l.N a↔a=je F.toFx 0
 k:∀a,l.K a->F.G a
 M:∀b,F.M b\/b=F.Y->l0.O b
 N:∀b,F.M b->H<=b
 g:l.w=w
 d:l.d=0
 q:¬l.q
 S:∀b,F.i b->l.I b
 Y:ia w F.C (.cl 1 0)
 c:ia w (F.I 0) (.cl 0 0)
 e:∀k,1<=k->k<=F.m->ia w (F.I k) (.cl 1 0)
 f:F.d 0 F.l F.i w
def lZ(F:Ph)(D:Nat->Nat)(a:Nat->Nat):fT F where
 M:=.go 0
 S:=.kK 0
 C:=λ_=> .ng 0
 N:=λ_=>Á
 I:=a
 c:=λ_=>F.l
 V:=λk=>if k=0 then F.i else λ_=>False
 e:=λ_=>0
 d:=λ_=>Á
 f:=λ_=>0
 b:=.cl 1 0
 a:=λk=>if k=0 then .cl 0 0 else .cl 1 0
 g:=Á
 h:=D
theorem KZ(ok:F.Ok)(h:lO F i a):(∃k,1<=k/\k<=F.m/\a=je F.toFx k)\/∃p,p≠F.f/\a=jk F p:=by
 unfold lO at h;split at h
 .obtain⟨k,c,d,b|b⟩:=h
  .grind
  .exact Ç ⟨_,ok.Y.1 k c d,b⟩
 .let⟨k,c,_,b⟩:=h;exact Ç ⟨_,ok.Y.2 _ (by assumption),b⟩
def Zv(ok:F.Ok)(h:lO F i (je F.toFx 0)):False:=by
 rcases KZ ok h with⟨k,c,b,a⟩|⟨p,_,a⟩
 .have:F.I 0=F.I k:=by injection a
  have:=ok.S 0 k Z b this;omega
 .have:F.I 0=F.Y:=by injection a
  exact ok.C<|by rw[<-this];exact Ç ⟨0,Z,U⟩
theorem rA.akf(X:gR F)(c:rA F.P zX H J .fB D f gs w qJ)(hL:F.L=gs.size)(hB:F.S=0)(E:gs[0]?=Â g){l:fc}(st:R9 F H (f 0) l w)(oY:(f 0).d=0)(u:Nat->Nat)(hgo:F.g 0 u l g): PI F qJ.size zX (lZ F D u) (λi=>if i=0 then F.g 0 u else oW F.P (D i)) (λ_=> .fB) (λ_=> .no) (λi=>if i=0 then l else xk (f i)) gs w qJ:=by
 have S:=X.C;have C:=c.r.r;have jR:=c.C;have T:0<gs.size:=Z
 have y:(lZ F D u).r=0:=U;have hY:∀b,(lZ F D u).Y b↔(F.M b\/b=F.Y):=λb=>by
  constructor
  .rintro(q|q|⟨j,B,_⟩);all_goals grind
  .rintro(q|q)
   .exact Ã q
   .exact Ç<|Ã q
 have Zw:∀a,l.C a->F.M a.block\/a.block=F.Y:=λa o=>by
  rcases o with q|q
  .let⟨x,_,G⟩:=(st.C a).1 q;rcases KZ S G with⟨k,B,t,rfl⟩|⟨p,_,rfl⟩
   .exact Ã<|Ç ⟨k,t,U⟩
   .exact Ç U
  .rw[(st.I a).1 q];exact Ã<|Ç ⟨0,Z,U⟩
 have nC:∀i,i≠0->∀a,¬((λi=>if i=0 then l else xk (f i)) i).C a:=λi h a q=>by simp only[h,if_false]at q;exact q.elim id id
 have nM:∀i,i≠0->∀b,¬((λi=>if i=0 then l else xk (f i)) i).M b:=λi h b q=>by simp only[h,if_false]at q;exact q.elim id id
 have hM0:∀b,l.M b->(f 0).O b/\¬(F.M b\/b=F.Y):=λb q=>q.elim (st.fp b) λz=>⟨(st.r b z).1,(st.r b z).2.1⟩;have O7:iQ F.S (λi=>i<gs.size) (lZ F D u).Y (λi=>if i=0 then l else xk (f i)) w qJ:=by
  refine⟨λi j E hj N b v=> ?_,λi j E hj N a o=> ?_,λi E b v=> ?_,λi E a o=> ?_,λi E b v=> ?_,λi E a o=> ?_,λi E b v=> ?_,λb v=>C.fx 0 T b<|Ã<|st.M b<|(hY b).1 v,λi E=> ?_,λi E=> ?_,λi E=> ?_,C.l,C.q,λq a e B t I=> ?_,λi E a o=> ?_⟩
  .by_cases h:j=0
   .subst h;simp only[N,if_false]at v;exact v.elim
   .exact nM j h b
  .by_cases h:j=0
   .subst h;simp only[N,if_false]at o;exact o.elim
   .exact nC j h a
  .by_cases h:i=0
   .subst h;simp only[if_true]at v|-;exact λq=>(st.r b q).2.2 v
   .simp only[h,if_false]at v;exact v.elim
  .by_cases h:i=0
   .subst h;simp only[if_true]at o|-;intro q;rw[(st.I a).1 q]at o;let⟨x,_,G⟩:=(st.C _).1 o;exact Zv S G
   .simp only[h,if_false]at o;exact o.elim
  .by_cases h:i=0;all_goals simp_all
  .by_cases h:i=0;all_goals simp_all
  .by_cases h:i=0
   .subst h;simp only[if_true]at v;exact C.fx 0 T b<|Ã (hM0 b v).1
   .simp_all
  .by_cases h:i=0
   .subst h;simp only[if_true];rw[st.g];exact fH.fU _ _
   .simp only[h,if_false];exact⟨(C.r i E).r,λj q=>q.elim (λz=>z.elim) λz=>z.elim,λa q=>q.elim (λz=>z.elim) λz=>z.elim,λa q=>q.elim (λz=>z.elim) λz=>z.elim,λa q=>q.elim⟩
  .by_cases h:i=0
   .subst h;simp only[if_true];have s:=(C.S 0 T).fp;exact⟨λa o=>s a (st.fp _ o).1,λa o=>(s a (st.r _ o).1).r,λa o=>s a<|st.M _<|Zw a<|Ã o,λa o=>(s a<|st.M _<|Zw a<|Ç o).r⟩
   .simp only[h,if_false];exact⟨λa o=>o.elim,λa o=>o.elim,λa o=>o.elim,λa o=>o.elim⟩
  .by_cases h:i=0
   .subst h;simp only[if_true];rw[C.f 0 T,oY,st.d]
   .simp only[h,if_false];exact C.f i E
  .have:=C.s q a e B t I;omega
  .by_cases h:i=0
   .subst h;simp only[if_true]at o;let⟨b,v,s⟩:=st.k a o;have Q:a.block=b:=by rcases s with rfl|rfl<;>rfl
    refine⟨by rw[hY,Q];exact Ã v,λk K q=> ?_⟩;by_cases t:k=0
    .subst t;simp only[if_true]at q;let⟨x,_,G⟩:=(st.C a).1 q;rcases KZ S G with⟨k',_,_,I⟩|⟨p',_,I⟩
     .rcases s with W|W<;>rw[W]at I<;>simp[fM,gV,je]at I
     .have:a.block=F.Y:=by rw[I];rfl
      exact S.C<|by rwa[<-this,Q]
    .simp only[t,if_false]at q;exact q
   .simp only[h,if_false]at o;exact o.elim
 have Zx:gL F.P F.S (lZ F D u).Y (λi=>if i=0 then F.g 0 u else oW F.P (D i)) (λ_=> .fB) (λ_=> .no) (λi=>if i=0 then l else xk (f i)) gs w qJ:=by
  refine⟨O7,λi x G=> ?_,c.r.I⟩;by_cases h:i=0
  .subst h;rw[E]at G;obtain rfl:=Ó G;simp only[if_true];exact⟨g,λs r=>X.FR 0 u l g s hgo r,.gl,Ã<|X.I 0 u l g hgo,Ã U⟩
  .let⟨g0,Q,q2,N,q4⟩:=c.r.C i x G;simp only[h,if_false]at Q|-;exact⟨g0,λs _=>Q _<|fH.fU _ _,q2,N,Ç trivial⟩
 have akg:iG F (lZ F D u) (λi=>if i=0 then l else xk (f i)) gs.size w:=by
  refine⟨λi E a o=> ?_,λx _ t a o=> ?_,λ_=> ?_,λh=>absurd h (by rw[y];omega),λh=>absurd h (by rw[y];omega),λj h=>absurd h (by rw[y];omega),λj h=>absurd h (by rw[y];omega),λx ⟨e,B,_⟩=>(by cases B),λi h=> ?_,λi B t=> ?_,λk K b v=> ?_,λk K i E q=> ?_,λk B t=> ?_,λj h=>absurd h<|by rw[y];omega⟩
  .by_cases h:i=0
   .subst h;simp only[if_true]at o;rcases o with q|q
    .let⟨x,_,G⟩:=(st.C a).1 q;grind [KZ]
    .exact Ã ⟨0,Z,(st.I a).1 q⟩
   .simp_all
  .simp only[if_true];exact(st.C a).2 ⟨x,t,o⟩
  .simp only[if_true];exact⟨(st.I _).2 U,st.S⟩
  .rcases h with rfl|⟨x,G,_⟩
   .simp only[if_true];exact st.q
   .grind
  .have:i≠0:=Z
   simp only[this,if_false];rfl
  .have Q:k=0:=by have:k<=0:=K;omega
   subst Q;have B:=st.S b v;refine⟨C.fx 0 T b<|Ã (st.r b B).1,by rw[hY];exact(st.r b B).2.1,λi E q=> ?_⟩;by_cases h:i=0
   .subst h;simp only[if_true]at q;exact(st.r b B).2.2 q
   .simp only[h,if_false]at q;exact q
  .have Q:k=0:=by have:k<=0:=K;omega
   subst Q;by_cases h:i=0
   .subst h;simp only[if_true]at q;let⟨x,_,G⟩:=(st.C _).1 q;exact Zv S G
   .simp only[h,if_false]at q;exact q
  .have:k<=0:=t;omega
 have gg:∀k,k<=F.m->ia w (F.I k) ((lZ F D u).a k):=λk K=>by
  by_cases h:k=0
  .subst h;exact st.c
  .have:(lZ F D u).a k=.cl 1 0:=by simp[lZ,h]
   rw[this];exact st.e k Z K
 have wdd:Wd F (lZ F D u) w:=by
  refine⟨st.Y,gg,λj h=>absurd h (by rw[y];omega),λk K=> ?_,λk B t=> ?_,λj h=>absurd h<|by rw[y];omega⟩
  .have Q:k=0:=by have:k<=0:=K;omega
   subst Q;exact⟨.u6,st.f⟩
  .have:k<=0:=t;omega
 have Zy:∀k,(sumTo F.n λj=>((lZ F D u).C j).gD F j k)=0:=λk=>by
  have:∀n,(sumTo n λ_=>0)=0:=λn=>by
   induction n with
   |zero=>rfl
   |succ n s=>simp[sumTo,s]
  exact this F.n
 have akh:sumTo (F.n+1) (lZ F D u).G=1:=by
  have B:=wI (f':=(lZ F D u).G) (j:=0) (n:=F.n+1) Z (λi E=>by
   have:¬i<1:=Z
   show(if i<1 then _ else _)=0;rw[if_neg this])
  have t:∀n,(sumTo n λ_=>0)=0:=λn=>by
   induction n with
   |zero=>rfl
   |succ n s=>simp[sumTo,s]
  rw[t]at B;have I:(lZ F D u).G 0=1:=U;omega
 have pss:Ps F (lZ F D u):=by
  refine⟨U,λj h=> ?_,λj h=> ?_,λr=>⟨λh=>(by cases h),λh=>(by cases h)⟩,λ_=>rfl,λk=>⟨λh=> ?_,λh=>(by cases h),λp h=>by cases h⟩,λ_ _=>rfl,λj r h=>absurd h (by rw[y];omega),λj h=>absurd h (by rw[y];omega),λh=>absurd U h,λ_ _=>rfl,λj j' h=>absurd h (by rw[y];omega),λj h=>absurd h (by rw[y];omega),λc reg h=> ?_,λreg h=>(by cases h),λr s h=>(by cases h),λx p h=>(by cases h),λh=> ?_,λk B t I=> ?_,λk B t=> ?_,λj r h=>absurd h (by rw[y];omega),λj r h=>absurd h (by rw[y];omega),λh=>(by cases h),λ_ _=>⟨1,rfl⟩,λ_ _ _=>rfl,λj r h=>absurd h<|by rw[y];omega⟩
  .rcases h with h|h|h|h<;>cases h;omega
  .rcases h with h|h|h<;>cases h
  .cases h;omega
  .cases h;exact⟨akh.symm,U⟩
  .rcases h with h|h|h<;>cases h
  .rw[Zy];have:k≠0:=Z
   simp[lZ,this]
  .have Q:k=0:=by have:k<=0:=t;omega
   subst Q;exact Ç<|Ç ⟨λp h=>(by cases h),Ã ⟨rfl,Zy 0⟩⟩
 have s:TI F.toFx qJ.size zX (lZ F D u).r (lZ F D u).S.rl (lZ F D u).V (lZ F D u).e (lZ F D u).d (lZ F D u).iu (lZ F D u).f qJ:=by
  refine⟨Ú _,λp a x o Q hc=> ?_,λx h=>absurd h (by rw[y];omega),λk B t=> ?_,λk B t=> ?_,λb v=>c.b _<|st.N b v,λx h=>absurd h (by rw[y];omega),λp a B t=> ?_,λp a _ t I=>c.M p a t I,λp g _ t I W=>c.N p g t I W⟩
  .let⟨b,v,G⟩:=hc;have O4:x.block=b:=by rcases G with rfl|rfl<;>rfl
   rcases c.S p a x o Q with q|q
   .exact Ã ⟨Ot o,q⟩
   .have:=st.N b v;omega
  .have:k<=0:=t;omega
  .have:k<=0:=t;omega
  .have:=Ot t;omega
 refine⟨by rw[y,hL];rfl,Zx,⟨by simp only[if_true];rfl,U⟩,λh=>absurd h (by rw[y];omega),λj h=>absurd h (by rw[y];omega),λx e h=>absurd h (by rw[y];omega),λi B t=>⟨?_,U,U⟩,akg,wdd,pss,s,λi x G v=> ?_,λj r h=>absurd h<|by rw[y];omega⟩
 .have:i≠0:=Z
  simp only[this,if_false];rfl
 .let⟨g0,_,q2,N,_⟩:=Zx.C i x G;cases q2 with
  |gl=>rcases N with N|N<;>rw[v]at N<;>cases N
end
end Go.Proofs.Y.fv
namespace Go.Proofs.Y.fv
open Go Go.Conc Go.Proofs.Y.Lift Go.RowKit Go.Conc.Lib Go.ConcR.Gen
open Go.Proofs Go.Proofs.YtgpphkdoanciiaaGreatDoor
section
variable{kd:Nat->Int}{R:Nat}
theorem Hi(h:i∈gX kd R):i<R/\kd i=1:=by have:=Ā.1 h;grind
theorem Hj(h:i∈jw kd R):i<R/\kd i≠1:=by have:=Ā.1 h;grind
def aki:(gX kd R).Nodup:=ņ.filter _
def akj:(jw kd R).Nodup:=ņ.filter _
def BK(h:k<jJ.length):jJ[k]?=Â (jJ.getD k 0):=by simp[List.getD,h]
def vy{l:List Nat}(h:k<l.length):l.getD k 0∈l:=ħ<|BK h
def Zz(c:jJ.Nodup)(a:i<jJ.length)(d:j<jJ.length)(h:jJ.getD i 0=jJ.getD j 0):i=j:=by have b:=BK a;rw[h]at b;exact(List.getElem?_inj a c).1<|b.trans (BK d).symm
def ZA:∀R,(gX kd R).length+(jw kd R).length=R
 |0=>rfl
 |R+1=>by
  have:=ZA R;by_cases h:kd R=1
  .rw[sM h,Ry h];simp;omega
  .rw[vr h,Rz h];simp;omega
end
structure xl where
 γ:Type
 C:γ
 M:Nat->γ->γ->Prop
 RD:γ->Ï->(Nat->Prop)->ß->Prop
 I:Nat->ByteArray
 r:Nat->Prop
def K0(M:xl)(L n R:Nat)(kd:Nat->Int)(a g:Nat->Nat)(b c:Option â)(d e f h j l:Nat)(o:List é)(p:Nat->Prop)(RC eZ:ß->Prop):SD where
 L:=L
 g:=0
 n:=n
 m:=fK kd R
 q:=(jw kd R).length
 N:=R
 I:=l
 C:=g
 M:=f
 S:=h
 s:=j
 u:=b
 t:=d
 l:=c
 k:=e
 o:=λk=>Â ⟨a<|(gX kd R).getD (k-1) 0,0,Á⟩
 a:=λk=>(gX kd R).getD (k-1) 0
 i:=λi=>Â ⟨a<|(jw kd R).getD i 0,0,Á⟩
 c:=λi=>(jw kd R).getD i 0
 b:=λi=>if i<(jw kd R).length then fK kd ((jw kd R).getD i 0)else 0
 f:=o
 d:=p
 RC:=RC
 p:=eZ
 γ:=M.γ
 w:=M.C
 v:=M.r
 h:=M.M
 RD:=M.RD
 e:=λk=>M.I<|(gX kd R).getD (k-1) 0
 j:=λi=>M.I<|(jw kd R).getD i 0
section
variable{M:xl}{L R:Nat}{kd:Nat->Int}{a:Nat->Nat}{c:Option â}{cs:List é}{RB:Nat->Prop}{RC eZ:ß->Prop}{l d f:fc}
def akk(h:KP kd a D R (Æ O (fK kd R) j7) (Æ c (jw kd R).length j6) v j b J i j9 m l d f)(F:∀w p,RC w->(∀g,RB g->p.heap[g]?=w.heap[g]?)->RC p)(G:∀w p,eZ w->(p.os=w.os/\p.output=w.output)->eZ p)(H:∀s B V w p,M.RD s B V w->(∀g,V g->p.heap[g]?=w.heap[g]?)->M.RD s B V p)(I:1<=n)(K:1<=L)(X:n+R<1000):(K0 M L n R kd a D O c j7 j6 j b J i cs RB RC eZ).Ok:=by
 have Y:=ZA (kd:=kd) R;have hc:(gX kd R).length=fK kd R:=U;let⟨a1,a2,a3⟩:=h.M;let⟨a4,a5,a6⟩:=h.S;have z:∀k,k<=fK kd R->d.w.heap.size<=D k/\D k<J:=λk r=>⟨(h.r.M k r).1,h.N k r⟩;have RU:=Õ (z 0 Z).1<|Ł (z 0 Z).2;refine⟨F,G,H,I,K,?_,?_,λo=> ?_,λo t=>(Hj<|vy t).1,λk C x=> ?_,λk r e=> ?_,λk u r N e=> ?_,?_,λo i' t P e=>Zz akj t P e,λk u C x h3 Q e=> ?_,λo k t C x e=> ?_,λg _=>ă g⟩
 .show n+(jw kd R).length+fK kd R<1000;omega
 .show R<1000;omega
 .show(if o<(jw kd R).length then fK kd ((jw kd R).getD o 0)else 0)<=fK kd R;split
  .rename_i t;exact Y8<|Ł (Hj<|vy t).1
  .omega
 .refine(Hi<|vy ?_).1;have:k<=fK kd R:=x;omega
 .have:=(z k r).2;have y:D k=i:=e;omega
 .have y:D k=D u:=e;have S:=r;have T:=N;rcases Nat.lt_trichotomy k u with q|q|q
  .have:=h.r.S k u q T;omega
  .exact q
  .have:=h.r.S u k q S;omega
 .rintro(e|⟨k,r,e⟩)
  .have y:j=i:=e;omega
  .have y:j=D k:=e;have:=(z k r).1;omega
 .have W:k<=fK kd R:=x;have h4':u<=fK kd R:=Q;have:=Zz aki Z Z e;omega
 .have W:k<=fK kd R:=x;have y:(jw kd R).getD o 0=(gX kd R).getD (k-1) 0:=e;have E:=(Hj<|vy t).2;rw[y]at E;exact E<|(Hi (kd:=kd) (R:=R)<|vy (k:=k-1) Z).2
end
abbrev kD(M:xl)(L n R:Nat)(kd:Nat->Int)(c g:Nat->Nat)(d e:Option â)(f h i a j k:Nat)(cs:List é)(l:fc):SD:=K0 M L n R kd c g d e f h i a j k cs (λb=>l.O b\/b=a) (λw=>∀b,l.O b->w.heap[b]?=l.w.heap[b]?) λw=>w.os=l.w.os/\w.output=l.w.output
def K1(D:SD)(l:fc):fc:={l with O:=λb=>l.O b/\¬(D.Y.M b\/b=D.M)/\¬D.d b,I:=D.d,r:=λa=>∃x,x<=D.n/\lO (D.r Ä) x a,N:=λa=>a=je D.Y 0,K:=D.Y.G}
section
variable{M:xl}{L:Nat}{f:Nat->Int}{r:Nat->Nat}{u:Option â}{y:Nat}{cs:List é}{l B o:fc}
def K2{cs:Array Ï}(h:w.heap[b]?=Â (É cs e)):w.frozen? ⟨b,i,Á⟩=Ì:=by simp[î,h]
def Sb{cs:Array Ï}(h:w.heap[b]?=Â (É cs e))(a:cs[0]?=Â (Ê ê<|(i:Int)*fY+0))(d:cs[1]?=Â (Ê Ď 0))(f:i<1000000):ia w b (.cl i 0):=by
 refine⟨?_,?_,K2 h,K2 h,(⟨f,Z,λ_=>rfl⟩)⟩
 .simp[Ö,fM,h,a,GS.st]
 .simp[Ö,gV,h,d,GS.sm]
def akl(h:KP f r D j (Æ O (fK f j) j6) (Æ u (jw f j).length y) v k m j9 b j7 J l B o)(s:gy l)(K3:∀g,¬l.I g)(W:¬l.q)(X:l.d=0)(hH:i<=l.w.heap.size)(hV:∀g,M.r g->l.O g)(qA:M.RD M.C v M.r o.w)(xj:o.w.os=l.w.os/\o.w.output=l.w.output)(hn:1<=n)(hs:n+j<1000){t:Array Ï}(hT:GV m b (D<|fK f j) n (Æ u (jw f j).length y) t)(dk:Nat->Nat): R9 ((kD M L n j f r D O u j6 y k m j9 b cs l).r Ä) i o (K1 (kD M L n j f r D O u j6 y k m j9 b cs l) o) o.w/\ ((kD M L n j f r D O u j6 y k m j9 b cs l).r Ä).g 0 dk (K1 (kD M L n j f r D O u j6 y k m j9 b cs l) o) (Bl (À<|Â ⟨b,0,Á⟩) jQ (À<|Â ⟨b,0,Á⟩) (ñ #[]) j7 J<|DV t::cs):=by
 let⟨a1,a2,a3⟩:=h.M;let⟨a4,a5,a6⟩:=h.S;have N:∀C,C<=fK f j->B.w.heap.size<=D C/\D C<j9:=λC E=>⟨(h.r.M C E).1,h.N C E⟩;have RU:=Õ (N 0 Z).1<|Ł (N 0 Z).2;have Y:=λg q=>s.fx g<|Ã q;have hc:(gX f j).length=fK f j:=rfl;have Q:∀g,(kD M L n j f r D O u j6 y k m j9 b cs l).Y.M g\/g=k->g=b\/(∃C,C<=fK f j/\g=D C)\/g=k:=λg q=>by
  rcases q with(q|⟨C,S,q2⟩)|q
  .exact Ã q
  .exact Ç<|Ã ⟨C,S,q2⟩
  .exact Ç<|Ç q
 have H:∀g,(kD M L n j f r D O u j6 y k m j9 b cs l).Y.M g\/g=k->l.w.heap.size<=g/\g≠m/\g≠j9/\g≠j7/\g≠J/\(∀C,(Æ O (fK f j) j6).ownBlock=Â C->g≠C)/\(∀C,(Æ u (jw f j).length y).ownBlock=Â C->g≠C):=λg q=>by
  rcases Q g q with rfl|⟨C,E,rfl⟩|rfl
  .exact⟨Z,Z,Z,Z,Z,λC e=>by have:=h.o3 C e;omega,λC e=>by have:=h.o4 C e;omega⟩
  .have:=N C E;exact⟨Z,Z,Z,Z,Z,λp e z=>(h.r.M C E).2.1<|z▸e,λp e z=>(h.r.M C E).2.2<|z▸e⟩
  .exact⟨Z,Z,Z,Z,Z,λC e=>by have:=(h.r.r C e).2;omega,λC e=>by have:=(h.r.C C e).2;omega⟩
 have akm:∀g,(kD M L n j f r D O u j6 y k m j9 b cs l).Y.M g\/g=k->o.O g:=λg q=>by
  rcases Q g q with rfl|⟨C,E,rfl⟩|rfl
  .exact h.Y.fp
  .by_cases x:C=0
   .subst x;exact h.r.N.fp
   .exact(h.r.I C Z E).fp
  .exact h.I.fp
 have K:∀g,o.O g->l.w.heap.size<=g->g≠m->¬((kD M L n j f r D O u j6 y k m j9 b cs l).Y.M g\/g=k)->(K1 (kD M L n j f r D O u j6 y k m j9 b cs l) o).O g:=λg S q2 q4 q3=>⟨S,q3,λq=>q.elim (λq=>by have:=Y g q;omega) q4⟩;have ZB:ia o.w b (.cl 1 0):=Sb h.Y.I U U Z;have ZC:ia o.w (D 0) (.cl 0 0):=Sb h.r.N.I U U Z;have ZD:∀C,1<=C->C<=fK f j->ia o.w (D C) (.cl 1 0):=λC I P=>Sb (h.r.I C I P).I U U Z;have T:∀g c,ia o.w g c->nk g o.w:=λg c q=>⟨by rw[show(⟨g,0,Á⟩:â)=fM g from rfl,q.C];rfl,by rw[show(⟨g,1,Á⟩:â)=gV g from rfl,q.M];rfl⟩;refine⟨⟨λg q=>⟨q.1,q.2.1⟩,λg q=>⟨?_,λz=> ?_,λz=>z.2.2 q⟩,λa=>Iff.rfl,λa=>Iff.rfl,λa q=>q,λg q=>akm g q,λg q=>Õ hH (H g<|Ã q).1,U,h.C.d.trans X,by show¬o.q;rwa[h.C.q],λg q=>Ã<|hV g q,ZB,ZC,ZD,⟨⟨v,h.r.N.C U,qA⟩,λ_=> ?_⟩⟩,?_⟩
 .rcases q with q|q
  .exact h.C.O g q
  .rw[q];exact h.a.fp
 .rcases q with q|q
  .have:=(H g z).1;have:=Y g q;omega
  .exact(H g z).2.1 q
 .refine⟨?_,by unfold kQ;rw[show o.w.heap[(kD M L n j f r D O u j6 y k m j9 b cs l).M]?=Â (xf j)from h.I.I],xj⟩;show o.w.cell? ⟨k,j,Á⟩=Á;simp only[Ö,h.I.I,xf,ı,Ķ,if_false];exact Array.getElem?_eq_none<|by rw[ř];exact Ú _
 refine⟨h.C.d.trans X,by show¬o.q;rwa[h.C.q],ă _,Ã ⟨U,⟨λg q=>⟨⟨g,q,Ã U⟩,⟨g,q,Ç U⟩⟩,λg q=> ?_,Ç<|Ç U,h.a.C U,(Ã<|K j9 h.c.fp Z Z λz=>(H j9 z).2.2.1 U),h.c.C U,λC E=> ?_,λe hi=> ?_,λa q=> ?_,λg q=>Ç q,λg q=>h.C.r g (Ã q) id⟩,t,j7,J,jQ,hT,⟨(K j7 h.d.fp Z Z λz=>(H j7 z).2.2.2.1 U),h.d.I⟩,⟨(K J h.b.fp Z Z λz=>(H J z).2.2.2.2.1 U),h.b.I⟩,U⟩⟩
 .rcases Q g (Ã q)with rfl|⟨C,E,rfl⟩|rfl
  .exact T _ _ ZB
  .by_cases x:C=0
   .subst x;exact T _ _ ZC
   .exact T _ _<|ZD C Z E
  .exact absurd q λz=>by
    rcases z with z|⟨C,x,F⟩
    .have G:g=b:=z;omega
    .have G:g=D C:=F;have:=(N C x).1;omega
 .have tA:C<fK f j:=E;rcases h.r.jK.2 with⟨_,e2⟩|⟨g,cap,cur,V,_,hcur,Ha⟩
  .omega
  .have yS:O=Â ⟨g,0,Á⟩:=by injection V
   subst yS;have x:=h.r.jK.cells U;have hz:(gX f j).zipIdx[C]?=Â ((gX f j).getD C 0,C):=by rw[List.getElem?_zipIdx,BK Z];simp
   have F:∀c,c<4->(jK f r D j)[C*4+c]?=(tI r D ((gX f j).getD C 0,C))[c]?:=λc q=>RG (λ_=>rfl) q _ C _ hz;have G:∀p,(⟨g,0,Á⟩:â).add p=⟨g,p,Á⟩:=λp=>by rw[ğ,č]
   refine⟨g,U,Ã (K g (h.r.r g U).1 (Õ Z (h.r.r g U).2) (by have:=(h.r.r g U).2;omega) λz=>(H g z).2.2.2.2.2.1 g U U),?_,?_,?_,?_⟩
   .have:=x (C*4+0) _<|F 0 Z;rwa[G]at this
   .have:=x (C*4+1) _<|F 1 Z;rwa[G]at this
   .have:=x (C*4+2) _<|F 2 Z;rwa[G]at this
   .have:=x (C*4+3) _<|F 3 Z;rwa[G]at this
 .have ln:e<(jw f j).length:=hi;rcases h.r.mB.2 with⟨_,e2⟩|⟨g,cap,cur,V,_,hcur,Ha⟩
  .omega
  .have R5:u=Â ⟨g,0,Á⟩:=by injection V
   subst R5;have x:=h.r.mB.cells U;have F:∀c,c<4->(mB f r D j)[e*4+c]?=(tQ f r D<|(jw f j).getD e 0)[c]?:=λc q=>RG (λ_=>rfl) q _ e _<|BK ln;have G:∀p,(⟨g,0,Á⟩:â).add p=⟨g,p,Á⟩:=λp=>by rw[ğ,č]
   refine⟨g,U,Ã (K g (h.r.C g U).1 (Õ Z (h.r.C g U).2) (by have:=(h.r.C g U).2;omega) λz=>(H g z).2.2.2.2.2.2 g U U),?_,?_,?_,?_⟩
   .have:=x (e*4+0) _<|F 0 Z;rwa[G]at this
   .have:=x (e*4+1) _<|F 1 Z;rwa[G]at this
   .have:=x (e*4+2) _<|F 2 Z;rw[G]at this;show o.w.cell? ⟨g,e*4+2,Á⟩=Â (À<|Â ⟨D (if e<(jw f j).length then fK f ((jw f j).getD e 0)else 0),0,Á⟩);rw[if_pos ln];exact this
   .have:=x (e*4+3) _<|F 3 Z;rwa[G]at this
 .have V:∀p,p<j->(o.w.cell? ⟨k,p,Á⟩).isSome=Ò/\o.w.frozen? ⟨k,p,Á⟩=Ì:=λp hp=>by
   refine⟨?_,K2 h.I.I⟩;have:p<(madeCells (Ŵ<|à ⟨#[]⟩) j).size:=by rwa[ř]
   simp[Ö,h.I.I,this]
  let⟨x,_,F⟩:=q;unfold lO at F;split at F
  .obtain⟨C,I,P,rfl|rfl⟩:=F
   .have G:=P;refine⟨?_,K2 (h.r.I C I G).I⟩;show(o.w.cell? ⟨D C,2,Á⟩).isSome=Ò;rw[(h.r.I C I G).C U];rfl
   .have G:C<=fK f j:=P;exact V _ (Hi<|vy Z).1
  .obtain⟨e,I,_,rfl⟩:=F;exact V _ (Hj<|vy I).1
end
end Go.Proofs.Y.fv
namespace Go.Proofs.Y.fv
open Go Go.Conc Go.Proofs.Y.Lift Go.RowKit Go.Conc.Lib Go.ConcR.Gen
open Go.Proofs Go.Proofs.YtgpphkdoanciiaaGreatDoor
open Go.ConcN (sumTo sumTo_congr)
def K4(kd:Nat->Int)(f:Nat->Nat)(R n:Nat)(h:Ï)(l:fc)(cs:List é):Jd:=λi j=>
 ∃g k t m b o c p a d e q,KP kd f g R m b h o c p a d e l k i/\GV c a (g<|fK kd R) n b t/\j=Bl (À<|Â ⟨a,0,Á⟩) q (À<|Â ⟨a,0,Á⟩) (ñ #[]) d e (DV t::cs)
theorem ZE(h:w.ownsRow i e j v n l):∃b c,v=Æ b n c:=by rcases h.2 with⟨a,d⟩|⟨b,f,g,a,_⟩;all_goals grind
section
variable{F:Ph}{E:fT F}{S:Nat->Jd}{B:Nat->gw}{G:Nat->iy}{y:Nat->fc}{o:Array Ý}
theorem PI.akn(p:PI F j9 zX E S B G y o w qJ)(c:E.M=.gf)(d:1<=F.n):E.S=.kK F.m/\(∀i,i<F.q->w.cell? (jk F<|F.a i)=Â (à<|F.k i)/\∀k,k<o.size->¬(y k).r (jk F<|F.a i)):=by
 let⟨j,a⟩:=p.jo c;refine⟨p.C.f (by let⟨N,h⟩:=a 0 Z;rw[h];simp),λi k=> ?_⟩;have l:i%F.n<F.n:=ĵ _ d;have e:i%F.n+i/F.n*F.n=i:=by rw[Nat.mul_comm];exact Nat.mod_add_div i F.n
 let⟨N,h⟩:=a (i%F.n+1) Z;let⟨_,r,f,g⟩:=p.C.l (i%F.n) Z (by rw[h];simp);have b:i/F.n<(E.C<|i%F.n).kz:=by rw[f];exact(g (i/F.n)<|by rwa[e])
 have s:=p.M.N (i%F.n) Z (i/F.n) (by rwa[e]) b;have t:=p.a.d (i%F.n) Z (i/F.n) (by rwa[e]) b;grind
end
structure ako(D:SD)(l:fc)(w:ß)(g:Ý):Prop where
 I:∀b,l.O b->w.heap[b]?=l.w.heap[b]?
 cba:w.cell? ⟨D.S,0,Á⟩=Â (Æ (Â ⟨D.M,0,Á⟩) D.N D.N)
 kK:∀k,1<=k->k<=D.m->w.cell? ⟨D.M,D.a k,Á⟩=Â (à<|D.e k)
 Sc:∀i,i<D.q->w.cell? ⟨D.M,D.c i,Á⟩=Â (à<|D.j i)
 Hk:∃s sl V,nh (D.r Ä) D.m s/\w.cell? ⟨D.C D.m,2,Á⟩=Â sl/\D.RD s sl V w/\∀b,V b->b<w.heap.size/\b≠D.I
 fx:D.M<w.heap.size/\D.S<w.heap.size/\D.C D.m<w.heap.size
 r:D.M≠D.I/\D.S≠D.I/\D.C D.m≠D.I
 Sd:∃ts,SE D.S D.I (D.C D.m) ts/\g=D1 ts D.f
 C:w.cell? ⟨D.M,D.N,Á⟩=Á/\kQ w D.M=Â (0,0)
 io:w.os=l.w.os/\w.output=l.w.output
section
variable{M:xl}{f:Nat->Int}{u:Nat->Nat}{cs:List é}{l:fc}{I:Nat->Nat}{y:Nat->fc}{o:Array Ý}
theorem akp(c:rA Ä zX j (K4 f u J n v l cs) .fB I y o w qJ)(S:Option (Nat×Nat))(s:gy l)(K3:∀b,¬l.I b)(hq:¬l.q)(hd:l.d=0)(hH:j<=l.w.heap.size)(hV:∀b,M.r b->l.O b)(qA:∀s S V w G,M.RD s S V w->(∀b,V b->G.heap[b]?=w.heap[b]?)->M.RD s S V G)(BL:M.RD M.C v M.r l.w)(xj:w.os=l.w.os/\w.output=l.w.output)(hn:1<=n)(hs:n+J<1000) (hA:∀g r t B D e m p h,l.w.heap.size<=m->D2 (kD M o.size n J f u g r t B D e m p h cs l)/\D3 (kD M o.size n J f u g r t B D e m p h cs l)): ∃g r t B D e m p h,(l.w.heap.size<=e/\l.w.heap.size<=m/\l.w.heap.size<=h/\∀k,k<=fK f J->l.w.heap.size<=g k)/\ ∃N Y a H C i G K E z,Ŷ Ä N (Ĭ o w S) qJ=(.next<|Ĭ i G K,E)/\i.size=o.size+(n+1)/\i[0]?=Â z/\a<=G.heap.size/\h<a/\j<=a/\(C 0).d=0/\z.status=ċ/\ kC Ä Y (λF=>zX F\/∃x:â,F=û x/\x.block=h) a (Zm<|kD M o.size n J f u g r t B D e m p h cs l) .fB H C i G E/\ako (kD M o.size n J f u g r t B D e m p h cs l) l G z:=by
 have h0:=c.C;obtain⟨g0,wO⟩:∃g,o[0]?=Â g:=⟨_,ì h0⟩;let⟨g1,q1,q2,q3,_⟩:=c.r.C 0 g0 wO;obtain rfl:g0=g1:=by cases q2;rfl
 have hz:=q1 w<|c.r.r.r 0 h0;let⟨g,lp,tt,iv,qv,e,m,p,h,bw,bf,T,F,hT,hg⟩:=hz;obtain⟨r,B,rfl⟩:=ZE F.r.jK;obtain⟨t,D,rfl⟩:=ZE F.r.mB;let⟨a1,a2,a3⟩:=F.M;let⟨a4,a5,a6⟩:=F.S;have Se:∀k,k<=fK f J->lp.w.heap.size<=g k/\g k<p:=λk W=>⟨(F.r.M k W).1,F.N k W⟩;have aum:=Se 0 Z;have akq:=qA _ _ _ _ _ BL λb q=>F.C.r b (Ã<|hV b q) id;obtain⟨st,hgo⟩:=akl F s K3 hq hd hH hV akq xj hn hs hT λ_=>0;have ok:=akk (L:=o.size) (cs:=cs) (RB:=λb=>l.O b\/b=m) (RC:=λw=>∀b,l.O b->w.heap[b]?=l.w.heap[b]?) F (λw G P X b a=>(X b<|Ã a).trans<|P b a) (eZ:=λw=>w.os=l.w.os/\w.output=l.w.output) (λw G P X=>⟨X.1.trans P.1,X.2.trans P.2⟩) qA hn Z hs;let⟨hAdd,akr⟩:=hA g r t B D e m p h Z;have Hy:=aj8 ok hAdd akr;have By:=F.C.d.trans hd;have st':R9 ((kD M o.size n J f u g r t B D e m p h cs l).r Ä) j (y 0) (K1 (kD M o.size n J f u g r t B D e m p h cs l) {y 0 with w:=w}) w:=⟨st.fp,st.r,st.C,st.I,st.k,st.M,st.N,st.g,st.d,st.q,st.S,st.Y,st.c,st.e,st.f⟩;rw[<-hg]at hgo;have p0:=c.akf Hy U U wO st' By (λ_=>0) hgo;let⟨N1,E,S1,tr1,kp1,aun,gs1,w1,ZF,t1,r1,x,hf,he⟩:=ahX Hy _ _ _ _ _ _ _ o w S qJ U U p0 (by intro q;cases q);let⟨oA,_⟩:=x.jo hf;let⟨zf,c1⟩:=x.ake hf he U h0;let⟨N2,K5,Sf,gs2,w2,K6,t2,r2,z2,N,c2⟩:=c1.G (λa i z=>Ã<|Hy.M E.I a i z) (tr1 0) _ zf _ gs1 w1 ZF t1 U;have D4:gs1.size=o.size+(n+1):=by rw[x.b,oA];rfl
 have K7:=c2.C;obtain⟨g2,K8⟩:∃g,gs2[0]?=Â g:=⟨_,ì K7⟩;let⟨g3,u1,u2,u3,_⟩:=c2.r.C 0 g2 K8;obtain rfl:g2=g3:=by cases u2;rfl
 have hE:=u1 w2<|c2.r.r.r 0 K7;let⟨e1,e2,dat,ts,qC,hge⟩:=hE;have Q:0<gs1.size:=Z
 have C:=x.I.r;have hY:=λb q z=>C.I 0 Q b (Ã z) q;have H:E.Y e:=Ç<|Ã U;have yG:∀k,k<=fK f J->E.Y (g k):=λk W=>Ã<|Ç ⟨k,W,U⟩;have ZG:E.Y h:=Ã<|Ã U;let⟨hip,aks⟩:=x.akn hf hn;have hmd:E.S.md=fK f J:=by rw[hip];rfl
 let⟨Gi,⟨ZH,Sg,K9⟩,_⟩:=x.M.M (fK f J) Z;have K:=C.N;refine⟨g,r,t,B,D,e,m,p,h,⟨a1,Z,Z,λk W=>by have:=Se k W;omega⟩,N1+N2,E.Y,w1.heap.size,K5,Sf,gs2,w2,K6,t2,g2,?_,Z,K8,N.r,K h ZG,?_,e1,Hy.M E.I _ _<|u1 w2<|c2.r.r.r 0 K7,c2,⟨dat.e,dat.d,λk P X=> ?_,λi hi=> ?_,?_,?_,(⟨show e≠h by omega,show m≠h by omega,show g (fK f J)≠h by have:=Se (fK f J)<|Ú _;omega⟩),⟨ts,qC,hge⟩,?_,?_⟩⟩
 .rwa[runNT_add,show Ŷ Ä N1 (Ĭ o w S) qJ=_ from r1]
 .grind
 .have a:k<=fK f J:=X;refine Ŀ (N.M ⟨e,_,Á⟩ (K e H) (hY e H)<|x.a.g k P Z 0 Q)<|x.M.S k P Z
 .let⟨T,v2⟩:=aks i hi;exact Ŀ (N.M ⟨e,_,Á⟩ (K e H) (hY e H)<|v2 0 Q) T
 .refine⟨E.c<|fK f J,ZH,E.V<|fK f J,Gi,(Ŀ (N.M ⟨g<|fK f J,2,Á⟩ (K _<|yG _<|Ú _) (hY _<|yG _<|Ú _)<|x.a.N (fK f J) Z 0 Q) Sg),qA _ _ _ _ _ K9 λb q=> ?_,λb q=> ?_⟩
  .let⟨T,v2,v3⟩:=x.a.I (fK f J) Z b q;exact N.jO b T (v3 0 Q) λa ha z=>v2<|ha▸C.e 0 Q a (Ã z)
  .let⟨T,v2,v3⟩:=x.a.I (fK f J) Z b q;exact⟨È T N.r,λz=>v2<|z▸ZG⟩
 .refine⟨È (K e H) N.r,c2.r.r.fx 0 K7 m<|Ç dat.c,È (K _<|yG _<|Ú _) N.r⟩
 .let⟨a,y2,_⟩:=(x.M.M 0<|ă _).2.2 U;exact⟨Ŀ (N.M ⟨e,J,Á⟩ (K e H) (hY e H)<|x.a.Ow Hy.C 0 Q) a,(N.Y e (K e H)<|hY e H).trans y2⟩
 .let⟨_,_,a⟩:=(x.M.M 0<|ă _).2.2 U;exact⟨N.C.trans a.1,N.I.trans a.2⟩
end
def Si(a:Ν->Prop)(w:ß):fc where
 O:=λb=>b<w.heap.size/\∀x:â,x.block=b->¬a (û x)
 I:=λ_=>False
 r:=λ_=>False
 N:=λ_=>False
 K:=λ_=>False
 q:=False
 d:=0
 w:=w
def ZI(a:Ν->Prop)(w:ß):gy (Si a w):= ⟨λ_ _ h=>h,λ_ h=>h.elim,λ_ h=>h.elim (λq=>q.elim) λq=>q.elim,λ_ h=>h.elim (λq=>q.1) λq=>q.elim,λ_ h=>h.elim (λq=>q.elim) λq=>q.elim,λ_ h=>h.elim⟩
structure vz(jj:Ν->Prop)(H:Nat)(l:fc):Prop where
 r:∀x:â,jj (û x)->x.block<H
 fp:∀b,l.O b->∀x:â,x.block=b->¬jj (û x)
 C:H<=l.w.heap.size
inductive zg(M:xl):Nat->M.γ->Prop
 |u6:zg M 0 M.C
 |CW {k:Nat} {s s':M.γ} (h:zg M k s) (hn:M.M k s s'):zg M (k+1) s'
structure FE(M:xl)(R:Nat)(kd:Nat->Int)(l:fc)(an:Nat)(sl:Ï)(l':fc):Prop where
 vd:∀b,l.O b->l'.O b/\l'.w.heap[b]?=l.w.heap[b]?
 kz:l'.O an/\∀p,p<R->l'.w.cell? ⟨an,p,Á⟩=Â (à<|M.I p)
 Hk:∃s V,zg M (fK kd R) s/\M.RD s sl V l'.w/\∀b,V b->l'.O b
 d:l'.d=0
 q:¬l'.q
 rd:∀b,¬l'.I b
 BM:(∀a,¬l'.r a)/\(∀a,¬l'.N a)/\∀a,¬l'.K a
 CF:l'.w.cell? ⟨an,R,Á⟩=Á/\kQ l'.w an=Â (0,0)
section
variable{M:xl}{R H:Nat}{kd:Nat->Int}{e:Nat->Nat}{f:List é}{l:fc}{jj:Ν->Prop}{o:Nat->fc}
def akt{a:Option â}{s:M.γ}(h:nh ((kD M i n R kd e D O a j b m J j9 j7 qX l).r Ä) k s):zg M k s:=by
 have c:∀(k:Nat) (s:((kD M i n R kd e D O a j b m J j9 j7 qX l).r Ä).γ),nh ((kD M i n R kd e D O a j b m J j9 j7 qX l).r Ä) k s->zg M k s:=λk s h=>by
  induction h with
  |u6=>exact .u6
  |CW _ d f=>exact .CW f d
 exact c k s h
def aku{J:(Ν->Prop)->Nat->Jd}{cf:é}{a:ŏ}(Gd:qX=cf.at a (Ñ Q (i::jJ)::L)::f)(c:rA Ä jj H (K4 kd e R n v l qX) .fB D o E w qJ)(F:Option (Nat×Nat))(s:gy l)(K3:∀b,¬l.I b)(hq:¬l.q)(hd:l.d=0)(S:vz jj H l)(hV:∀b,M.r b->l.O b)(qA:∀s F V w u,M.RD s F V w->(∀b,V b->u.heap[b]?=w.heap[b]?)->M.RD s F V u)(akv:∀s F V w,M.RD s F V w->(∃p m c,F=Æ p m c)/\∀b,V b->l.O b\/l.w.heap.size<=b)(BL:M.RD M.C v M.r l.w)(xj:w.os=l.w.os/\w.output=l.w.output)(hn:1<=n)(hs:n+R<1000) (hA:∀g ib qb ci cq B ba bi I,l.w.heap.size<=ba->D2 (kD M E.size n R kd e g ib qb ci cq B ba bi I qX l)/\D3 (kD M E.size n R kd e g ib qb ci cq B ba bi I qX l)) (hJ:∀D5 C W B p m c,vz D5 C W->gy W->FE M R kd l B (Æ p m c) W->fi Ä Ò (J D5 C) W (G (cf.at (a.put ((Q[i]?).bind (·.dst))<|ñ #[Æ (Â ⟨B,0,Á⟩) R R,Æ p m c])<|Ñ Q jJ::L) f)): ∃N D5 C T jx Hl gs' u sN t',Ŷ Ä N (Ĭ E w F) qJ=(.next<|Ĭ gs' u sN,t')/\(u.os=l.w.os/\u.output=l.w.output)/\rA Ä D5 C (J D5 C) T jx Hl gs' u t':=by
 let⟨g,ib,qb,ci,cq,B,ba,bi,I,⟨b1,b2,b3,b4⟩,N,Y,C,jx,Hl,gs',u,sN,t',g',r,z1,z2,z3,z4,z5,z6,z7,cY,t⟩:=akp c F s K3 hq hd S.C hV qA BL xj hn hs hA;let⟨st,ZH,V,Gi,Sg,K9,La⟩:=t.Hk;obtain⟨⟨sp,sm,sc,rfl⟩,ZJ⟩:=akv _ _ _ _ K9;obtain⟨ts,qC,rfl⟩:=t.Sd;have hH:=S.C;have ZK:=λb q=>s.fx b<|Ã q;have X:∀b,(l.O b\/l.w.heap.size<=b)->b<u.heap.size->b≠I->(Si (λj=>jj j\/∃x:â,j=û x/\x.block=I) u).O b:=λb hb gN lA=>by
  refine⟨gN,λx hx=> ?_⟩;rintro(q|⟨y,P,q2⟩)
  .rcases hb with hb|hb
   .exact S.fp b hb x hx q
   .have:=S.r x q;omega
  .injection P with P;subst P;omega
 have akw:=λb q=>by have h:=t.I b q;rw[ì<|ZK b q]at h;exact(æ.1 h).1
 have keep:=λb q=>X b (Ã q) (akw b q) (by have:=ZK b q;omega);have Lb:=X B (Ç b1) t.fx.1 t.r.1;have akx:fi Ä Ò (J (λj=>jj j\/∃x:â,j=û x/\x.block=I) C) (Si (λj=>jj j\/∃x:â,j=û x/\x.block=I) u) (D1 ts qX):=by
  rw[Gd];refine ajO (ZI _ _) (λq=>q) qC (Ã<|X ba (Ç b2) t.fx.2.1 t.r.2.1) (Ã<|Ã<|X _ (Ç<|b4 _<|Ú _) t.fx.2.2 t.r.2.2) t.cba Sg λW h=> ?_;refine hJ (λj=>jj j\/∃x:â,j=û x/\x.block=I) C W B sp sm sc ⟨λx q=> ?_,λb q x hx=> ?_,Õ z3 h.I⟩ (h.N<|ZI _ _) ⟨λb q=>⟨h.O b<|keep b q,(h.r b (Ã<|keep b q) id).trans<|t.I b q⟩,⟨h.O B Lb,λp hp=> ?_⟩,⟨st,V,akt Gi,qA _ _ _ _ _ K9 λb q=>h.r b (Ã<|X b (ZJ b q) (La b q).1 (La b q).2) id,λb q=>h.O b<|X b (ZJ b q) (La b q).1 (La b q).2⟩,h.d,?_,λb q=> ?_,⟨λa q=> ?_,λa q=> ?_,λa q=> ?_⟩,⟨(gK<|h.r B (Ã Lb) id).trans t.C.1,(wB<|h.r B (Ã Lb) id).trans t.C.2⟩⟩
  .rcases q with q|⟨y,P,q2⟩
   .exact È (S.r x q) z5
   .injection P with P;subst P;omega
  .rcases h.c b q with q|q
   .exact q.2 x hx
   .have j:u.heap.size<=b:=q;rintro(z|⟨y,z1,z2⟩)
    .have:=S.r x z;omega
    .injection z1 with z1;subst z1;omega
  .refine(gK<|h.r B (Ã Lb) id).trans ?_;by_cases hk:kd p=1
   .have hm:p∈gX kd R:=Ā.2 ⟨Ē.2 hp,by simpa using hk⟩;let⟨j,y⟩:=Ĩ hm;have P:=(Ĕ.1 y).1;have:=t.kK (j+1) Z (show j+1<=fK kd R from P);have e2:(gX kd R).getD (j+1-1) 0=p:=Ó<|(BK P).symm.trans y;simp only[kD,K0,e2]at this;exact this
   .have hm:p∈jw kd R:=Ā.2 ⟨Ē.2 hp,by simpa using hk⟩;let⟨j,y⟩:=Ĩ hm;have P:=(Ĕ.1 y).1;have:=t.Sc j P;simp only[kD,K0,Ó<|(BK P).symm.trans y]at this;exact this
  .rw[h.q];exact id
  .rw[h.S]at q;exact q
  .rw[h.Y]at q;exact q
  .rw[h.b]at q;exact q
  .rw[h.K]at q;exact q
 let⟨T,h⟩:=ji akx;exact⟨N,_,C,T,jx,_,gs',u,sN,t',r,t.io,cY.Y z6 z2 z7 U U id (λ_=>id) (λ_=>id) (λ_=>id) (λ_=>id) (λb q=>q) h⟩
end
end Go.Proofs.Y.fv
namespace Go.Proofs.Y.fv
open Go Go.Conc Go.Proofs.Y.Lift Go.RowKit Go.Conc.Lib Go.ConcR.Gen
open Go.Proofs Go.Proofs.YtgpphkdoanciiaaGreatDoor
def pV(V:Nat->Prop)(base:Nat):ft:=⟨λi j=>i=j/\V i,base⟩
def aky(V:Nat->Prop)(base:Nat):Bi (pV V base):= ⟨λ_ _ _ h k=>h.1.symm.trans k.1,λ_ _ _ h k=>h.1.trans k.1.symm,λi j h=>by rw[h.1]⟩
def lq(j:Nat):Bool:=j==3||j==4
def uz(c:Array Ï):Array Ï:=c.extract 0 16
def akz(c:Array Ï):(uz c).size=min 16 c.size:=by simp[uz]
open Classical in
noncomputable def pb (a:Nat->Prop) (j:Nat):Ÿ->Ÿ
 |É c e b=>if a j then(if lq j=Ò then É (uz c) e (0,(uz c).size)else É c e (0,c.size))else É c e b
 |_=>É #[] 0
noncomputable def k9 (Sh:Nat->Prop) (w:ß):ß:={w with heap:=w.heap.mapIdx (pb Sh)}
section
variable{V Sh:Nat->Prop}{base:Nat}
def D6(j:Nat):(k9 Sh w).heap[j]?=(w.heap[j]?).map (pb Sh j):=by simp[k9,Array.getElem?_mapIdx]
def ZL:kh (k9 Sh w):=λi o h=>by
 rw[D6]at h;obtain⟨x,_,rfl⟩:=ġ.1 h;cases x<;>simp only[pb]<;>try exact id
 split
 .split<;>exact id
 .exact id
structure Lc(V Sh:Nat->Prop)(base:Nat)(w:ß):Prop where
 Sd:∀b,V b->∃c e fr,w.heap[b]?=Â (É c e fr)/\fr.2<=c.size/\fR (pV V base) c c/\(Sh b->0<c.size/\(lq b=Ò->(e=304\/e=305)/\fr.2<=16)/\(lq b=Ì->Cy c))
 fx:base<=w.heap.size
def akA(h:Lc V Sh base w):qV (pV V base) Sh (k9 Sh w) w:=by
 refine⟨U,U,aky V base,by show base<=(w.heap.mapIdx<|pb Sh).size;rw[Array.size_mapIdx];exact h.fx,h.fx,λi j o=> ?_⟩;obtain⟨rfl,p⟩:=o;let⟨c,e,a,b,l,f,r⟩:=h.Sd i p;have g:(k9 Sh w).heap[i]?=Â (pb Sh i<|É c e a):=by rw[D6,b];rfl
 by_cases s:Sh i
 .let⟨t,u,v⟩:=r s;cases d:lq i with
  |true=>
   let⟨x,y⟩:=u d;have z:=akz c;have m:Fb e (uz c).size:=⟨x,Z⟩;refine⟨uz c,c,e,(0,(uz c).size),a,?_,b,⟨λk B n=> ?_,Z,Ç ⟨s,m⟩⟩,λ_=>⟨U,Ú _,by show a.2<=(uz c).size;omega,Z,Ç m⟩,λq=>absurd s q,Ú _⟩
   .show(k9 Sh w).heap[i]?=_;rw[g];simp[pb,s,d]
   .have:(uz c)[k]=c[k]:=by simp[uz]
    rw[this];exact f.C k n n
  |false=>
   refine⟨c,c,e,(0,c.size),a,?_,b,oN.M f,λ_=>⟨U,Ú _,l,t,Ã<|v d⟩,λq=>absurd s q,Ú _⟩;rw[g];simp[pb,s,d]
 .refine⟨c,c,e,a,a,?_,b,oN.M f,λq=>absurd q s,λ_=>rfl,l⟩;rw[g];simp[pb,s]
end
section
variable{a:Nat->Prop}{l:fc}{V:Nat->Prop}
theorem D7(y:nG P)(B:oS P a X)(hF:tw P X)(C:wz vQ){k:Array Ï}(D:X F)(E:P.funcs[F]?=Â s)(H:s.body=Â wX)(r:gy l)(I:¬l.q) (n:∀b,V b->l.M b) (J:Lc V (λj=>V j/\¬l.O j) P.globals.size l.w) (K:∀g,a g->V g) (L:fR (pV V P.globals.size) k k) (N:∀T,Calls P F k (World.tp (k9 (λj=>V j/\¬l.O j) l.w) T 0) fun|.returned v,e=>vQ v e/\kh e|_,_=>False) (t:Bool) (o:é) (p:List é): fi P t (λh u=>∃(Y:ft) (e:ß) (v m:Ï),(pV V P.globals.size).r Y/\qV Y (λj=>V j/\¬l.O j) e h.w/\fl Y v m/\vQ v e/\u=G (o.finish m) p/\(∀i j,Y i j->h.M j/\(V j\/l.O j\/l.w.heap.size<=j))/\(∀j,l.O j->h.O j)/\h.d=l.d) l (G (Ă P F k Ğ)<|o::p):=by
 refine(afX (aeY y B hF C D E H ZL N (Y:=pV V P.globals.size) U (λg q=>⟨U,K g q⟩) L (akA J) (λj q=>r.fx j<|n j q.1) (λi j _ q=>(n j q.1).resolve_left q.2) t o p) l U (λj q=> ?_) (λ_ q=>q) (λj q=>r.fx j<|Ã q) I).fN ?_
 .obtain⟨⟨i,rfl,x⟩,Q⟩:=q;grind
 .rintro h u ⟨O',⟨Y,e,v,m,S,rfl,W,q3,q4,q5⟩,Q,h3,h4,h5,h6,h7,h8,h9,h10,h11,h12⟩;refine⟨Y,e,v,m,S,W,q3,q4,q5,λi j Sj=> ?_,h4,h10⟩;by_cases z:V j/\¬l.O j
  .exact⟨Ç (by rw[h7];exact(n j z.1).resolve_left z.2),Ã z.1⟩
  .have x:=h3 j ⟨⟨i,Sj⟩,z⟩;exact⟨Ã x,Ç<|h6 j x⟩
end
section
variable{l:fc}{V GL:Nat->Prop}
def D8(s:gy l):gy (lY l):=by refine⟨λ_ h=>h.elim,λ_ h=>h.elim,λa c d=>s.N a (c.resolve_left id)<|d.resolve_left id,λb d=>s.fx b<|d.resolve_left id,λa c=>s.I a<|c.resolve_left id,λa c=>⟨λq=>(s.S a c).1<|q.resolve_left id,(s.S a c).2.1,id⟩⟩
structure D9(GL:Nat->Prop)(f:ķ)(args:Array Ï)(l:fc)(V:Nat->Prop)(kg:Ï->ß->Prop):Prop where
 N:∀b,V b->l.M b
 S:Lc V V Ä.globals.size l.w
 I:∀g,GL g->V g
 r:fR (pV V Ä.globals.size) args args
 C:∀T,Calls Ä f args (World.tp (k9 V l.w) T 0) fun|.returned v,u'=>kg v u'/\kh u'|_,_=>False
def akB(m:nG Ä)(n:oS Ä GL X)(hF:tw Ä X)(e:X 67){D:SD}(h:∀i s d W l,i<D.q->nh (D.r Ä) (D.b i) s->D.RD s d W l.w->(∀b,W b->l.M b)->gy l->¬l.q->(∀b,D.d b->l.M b)->D.RC l.w->∃V,D9 GL 67 #[d,À<|D.i i] l V λv _=>v=à (D.j i)):D3 D:=by
 intro i s d W l o p r t f g x y z B;let⟨V,a⟩:=h i s d W l o p r t f g x y;let⟨G,c,C,E⟩:=hF 67 e;have k:(λj=>V j/\¬(lY l).O j)=V:=by funext j;exact propext ⟨λq=>q.1,λq=>⟨q,id⟩⟩
 refine(D7 m n hF (λv u T D h=>h) e C E (D8 f) g (λb q=>Ç<|a.N b q) (by rw[k];exact a.S) a.I a.r (by rw[k];exact a.C) Ì z B).fN ?_;rintro H I ⟨Y,J,v,K,_,_,j,u,T,_,_,F⟩;subst u;cases j;exact⟨F,T⟩
theorem akC(P:nG Ä)(Q:oS Ä GL X)(hF:tw Ä X)(B:X 66){D:SD}(Rg:D.γ->Ï->ß->Prop)(hRg:∀s a u T n,Rg s a u->Rg s a (World.tp u T n)) (h:∀k s a W l,k<D.m->nh (D.r Ä) k s->D.RD s a W l.w->(∀b,W b->l.M b)->gy l->¬l.q->(∀b,D.d b->l.M b)->D.RC l.w->∃V,D9 GL 66 #[a,À<|D.o<|k+1] l V (λv u=>∃p n c d,v=ñ #[Æ p n c,à<|D.e<|k+1]/\D.h k s d/\Rg d (Æ p n c) u)/\ ∀Y S u w d a C,qV Y S u w->fl Y a C->Rg d a u->(∀i j,Y i j->V j\/l.w.heap.size<=j)->∃e,D.RD d C e w/\∀b,e b->∃i,Y i b):D2 D:=by
 intro k s a W l hk hr qA hW E F hRB hRC cl lL;let⟨V,f,tr⟩:=h k s a W l hk hr qA hW E F hRB hRC;let⟨fn,c,hf,g⟩:=hF 66 B;have G:(λj=>V j/\¬(lY l).O j)=V:=by funext j;exact propext ⟨λq=>q.1,λq=>⟨q,id⟩⟩
 refine(D7 P Q hF (λv u T D h=> ?_) B hf g (D8 E) F (λb q=>Ç<|f.N b q) (by rw[G];exact f.S) f.I f.r (by rw[G];exact f.C) Ì cl lL).fN ?_
 .grind
 .rintro l' g' ⟨Y,u',v,v',_,q2,q3,⟨p,n,c,d,rfl,H,h3⟩,I,o,_,J⟩;cases q3 with
  |@nD _ cs'' hs mr=>
   let⟨ls⟩:=cs'';match ls,hs with
   |[x,y],_=>
    have r:=mr 0 fj fj;have K:=mr 1 fj fj;simp at r K;cases K;let⟨e,L,N⟩:=tr Y _ u' l'.w d _ x q2 r h3 λi j Sj=>(o i j Sj).2.imp id λz=>z.resolve_left id;cases r with
    |nX=>exact⟨J,Á,n,c,I,d,e,H,L,λb g=>by let⟨i,t⟩:=N b g;exact(o i b t).1⟩
    |kH=>exact⟨J,_,n,c,I,d,e,H,L,λb g=>by let⟨i,t⟩:=N b g;exact(o i b t).1⟩
end
end Go.Proofs.Y.fv
namespace Go.Proofs.Y.Lift
open Go
def Ea(a:Nat->Bool):Ĥ->Bool
 |Ũ (Đ cs)=>cs.toList.all yh
 |Ũ (ñ cs)=>cs.toList.all yh
 |x=>wA a x
def ZM(a:Nat->Bool)(x:Ĥ):Ea a x=wA a x:=by
 cases x with
 |const v=>cases v<;>simp[Ea,wA,NL,ĝ]
 |_=>rfl
def Ld(P:ė)(a:Nat->Bool)(b c:ķ->Bool)(o:å):Bool:=(CO P b o.op&&o.op.operands.toList.all (Ea a))||(N4 P c o.op&&o.op.operands.toList.all (Ea a))
def Le(a:Nat->Bool)(b c:ķ->Bool)(o:å):Ld P a b c o=CQ P a b c o:=by have:(Ea a)=wA a:=funext<|ZM a;simp[Ld,CQ,NT,this,ĝ]
def qD(P:ė)(a:Nat->Bool)(b d:ķ->Bool):Ę->Bool
 |Ρ|ť|.label _|Ŧ _|.goto _=>Ò
 |.seq x y=>qD P a b d x&&qD P a b d y
 |Ť c x y=>Ea a c&&qD P a b d x&&qD P a b d y
 |İ _ c|.loop c|.scope c=>qD P a b d c
 |ä _ c _=>c.toList.all<|Ld P a b d
 |.refuse _=>Ò
 |_=>Ì
def zh(a:Nat->Bool)(b d:ķ->Bool):∀c:Ę,qD P a b d c=nK P a b d c
 |Ρ|ť|.label _|Ŧ _|.goto _|.refuse _|.rangeFunc _ _ _ _=>rfl
 |.seq x y=>by simp only[qD,nK,zh a b d x,zh a b d y]
 |Ť c x y=>by simp only[qD,nK,ZM,zh a b d x,zh a b d y]
 |İ _ c|.loop c|.scope c=>by simp only[qD,nK,zh a b d c]
 |ä _ x _=>by have:Ld P a b d=CQ P a b d:=funext<|Le a b d;simp only[qD,nK,this,ĝ]
end Go.Proofs.Y.Lift
namespace Go.Proofs.Y.fv
open Go Go.Conc Go.Proofs.Y.Lift Go.RowKit Go.Conc.Lib Go.ConcR.Gen
open Go.Proofs Go.Proofs.YtgpphkdoanciiaaGreatDoor
def ZN:List Nat:=[35,38,44,54,55,56,60,66,67,78,79,103,113,114,115,116,117,118,119,120,121,122,123,124,125,126,153,154,155,156,157,158,159,160,161,162,168,169,170,171,172,173,174,175,176,177,178,186,187,188,189,190,191,192,193,194,196,197,198,199,200,201,202,203,204,205,206,207,208,209,210,211]
def xm(g:Nat):Bool:=[1,2,3,4].contains g
def xn(f:Nat):Bool:=ZN.contains f
def zi(f:Nat):Bool:=[129,130].contains f
def BN(P:ė)(f:Nat):Bool:=match P.funcs[f]? with
 |some a=>match a.body with
  |some c=>qD P xm xn zi c
  |none=>Ì
 |none=>Ì
def akD:ZN.all (BN Ä)=Ò:=by rfl
def ZO(h:xn i=Ò):BN Ä i=Ò:=(Ň.1 akD) i<|by simpa[xn]using h
def akE(h:BN P i=Ò):∃a c,P.funcs[i]?=Â a/\a.body=Â c:=by
 unfold BN at h;split at h
 .rename_i a b;split at h
  .rename_i c d;exact⟨a,c,b,d⟩
  .cases h
 .cases h
def akF(h:BN P i=Ò)(a:P.funcs[i]?=Â s)(b:s.body=Â wX):qD P xm xn zi wX=Ò:=by unfold BN at h;rw[a]at h;simp only[b]at h;exact h
def ZQ:tw Ä (λf=>xn f=Ò):=λ_ h=>akE<|ZO h
def akG[Ab P](h:∀f,xn f=Ò->BN P f=Ò)(a:FH P zi):oS P (λg=>xm g=Ò) (λf=>xn f=Ò):=λf g e c b d=>by have:=akF (h f g) b d;rw[zh]at this;exact u9 a this
instance auo:Ab Ä:=⟨λe n h=>by
 have h1:Ä.cellsOf 304=32:=fu
 have h2:Ä.cellsOf 305=64:=fu
 obtain⟨rfl|rfl,h3⟩:=h
 .rw[h1];omega
 .rw[h2];omega⟩
def akH(a:FH Ä zi):oS Ä (λg=>xm g=Ò) (λf=>xn f=Ò):=akG (λ_ h=>ZO h) a
def Eb:FH Ä zi:=λf h=>by
 have:f=129\/f=130:=by simpa[zi]using h
 rcases this with rfl|rfl
 .exact⟨_,Extern.AbiNoEscape.same,Tryz.func129,fQ,fQ,fQ,fQ,λ_ v a h=>afm v a h,afn⟩
 .exact⟨_,Extern.BytealgMakeNoZero.makeNoZero #[3] #[107],Tryz.func130,fQ,fQ,fQ,fQ,λ_ v a h=>afo #[3] 107 v a h,afp #[3] 107⟩
def ZR:oS Ä (λg=>xm g=Ò) (λf=>xn f=Ò):=akH Eb
end Go.Proofs.Y.fv
namespace Go.Proofs.Y.Lift
open Go Go.Conc
section
variable{Y:ft}{b:ķ->Prop}
def akI{e:Array Ï->Sem Ï}{y:Ĥ}{m:Array ŭ}(d:o.op=Ě {callee:=ĕ<|ĸ F,args:=#[qQ,y],argTypes:=m})(q:P.funcs[F]?=Â s)(r:(s.name== "runtime.NumGoroutine")=Ì)(t:s.body.isNone=Ò)(B:Extern.findNext s=Á)(C:Extern.find s=Â e) (D:∀(Y:ft) (v i z j:Ï),fl Y v i->fl Y z j->fG P fl Y (e #[v,z]) (e #[i,j])) (E:∀v z,fD P<|e #[v,z]) (G:∀y∈o.op.operands,ml X y):mH P X b o:=by
 have c:∀a:ŏ,ĉ a.eval o=Ś F #[a.eval qQ,a.eval y]:=by intro a;unfold ĉ;rw[d];simp only[ſ,ĥ,ě,invoke,pure_bind,Array.empty_append,Array.append_empty,List.map_toArray,List.map_cons,List.map_nil]
 have k:∀(v z:Ï) (u:ß),(Ś F #[v,z]).run P u=(mark (.extern F)>>=λ_=>e #[v,z]>>=λy=>pure (Next.value y):Sem Next).run P u:=by intro v z u;unfold Ś;simp_all
 refine Wv (λY a w _ _ _ h=> ?_) (λa=> ?_) (λa u n H g=> ?_) G
 .rw[c,c];have I:=h qQ (by rw[d];simp[ŉ,Call.operands]);have J:=h y (by rw[d];simp[ŉ,Call.operands]);unfold Ś;refine .gq (fE qL ?_);rintro M p N w ⟨K,L⟩;rw[K,L];simp only[q,r,t,B,C,Ķ,if_false,if_true];apply fE (V:=jm) (.Cx (Ç ⟨F,U⟩) (.fC U));intro O _ _ l _;exact mG<|D _ _ _ _ _ ((I.fN w).fN l)<|(J.fN w).fN l
 .rw[c];exact I1 (k _ _)<|gp (Fy _) λ_=>lN<|E _ _
 .rw[c,k,Sem.run_bind]at g;simp only[mark,Sem.run,Result.andThen_ok]at g;have:Sem.run P (e #[a.eval qQ,a.eval y]>>=λy=>pure (Next.value y):Sem Next) u=.ok n H:=g;rw[Sem.run_bind]at this;cases h:(e #[a.eval qQ,a.eval y]).run P u with
  |ok v w=>rw[h]at this;cases this;exact⟨v,U⟩
  |halt z w=>rw[h]at this;cases this
def ZS:∀(n:Nat) {Y:ft} {a b:â} (c:ByteArray),gZ Y a b->fG P jm Y (ò a n c) (ò b n c)
 |0,_,_,_,_,_=> .fC U
 |n+1,Y,a,b,c,h=>by
  unfold ò;refine fE (IN h) ?_;intro f v g d e;cases e<;>first|exact .fO|skip
  rename_i k z;cases k<;>first|exact .fO|skip
  exact ZS n _<|(h.r d).C 1
theorem ZT:∀(n:Nat) (a:â) (b:ByteArray),fD P<|ò a n b
 |0,_,_=>gG _
 |n+1,a,b=>by
  unfold ò;refine gp (Fz _ _) λv=> ?_;split
  .exact ZT n _ _
  .exact jc _
def akJ(h:fl Y v x):fG P jm Y (ú v) (ú x):=by
 cases h<;>first|exact .fO|exact .fC U|skip
 exact ZS _ _<|by assumption
theorem akK(v:Ï):fD P (ú v):=by unfold ú;grind [gG,ZT,jc]
def akL(h:fl Y v x):fG P jm Y (ü v) (ü x):=by
 cases h<;>first|exact .fO|skip
 rename_i k z;cases k<;>first|exact .fO|exact .fC U
theorem akM(v:Ï):fD P (ü v):=by unfold ü;grind [gG,jc]
def akN(v a z b:Ï)(h:fl Y v a)(k:fl Y z b):fG P fl Y (ó #[v,z]) (ó #[a,b]):=by
 apply fE (akJ h);rintro j s d e f;obtain rfl:s=d:=f;apply fE (akL<|k.fN e);rintro l c g m i;obtain rfl:c=g:=i;split
 .exact .fC (.iE _ _)
 .exact .fC (.iE _ _)
theorem akO(v z:Ï):fD P (ó #[v,z]):=by refine gp (akK v) λs=>gp (akM z) λc=> ?_;grind [gG]
end
end Go.Proofs.Y.Lift
namespace Go.Proofs.Y.fv
open Go Go.Conc Go.Proofs.Y.Lift
open Go.Proofs Go.Proofs.YtgpphkdoanciiaaGreatDoor
def Sk:List Nat:=[16,18,21,23,24,25,28,29,30,31,35,44,60,38,54,55,56,78,79,36,45,61,94,95,96,97,98,99,100,101,102,103,104,145,146,147,148,149]
def Ec(f:Nat):Bool:=Sk.contains f||f==167
def Lf(_:Nat):Bool:=Ì
def Lg(P:ė)(f:Nat):Bool:=match P.funcs[f]? with
 |some a=>match a.body with
  |some c=>qD P Lf Ec zi c
  |none=>Ì
 |none=>Ì
def akP:Sk.all (Lg Ä)=Ò:=by rfl
def ZU(h:Sk.contains i=Ò):Lg Ä i=Ò:=(Ň.1 akP) i<|by simpa using h
theorem ZV(h:Lg P i=Ò):∃a c,P.funcs[i]?=Â a/\a.body=Â c/\qD P Lf Ec zi c=Ò:=by unfold Lg at h;grind
def zj:tw Ä (λf=>Ec f=Ò):=λf h=>by
 rcases ī.1 h with q|q
 .let⟨a,c,b,d,_⟩:=ZV<|ZU q;exact⟨a,c,b,d⟩
 .rw[beq_iff_eq]at q;subst q;exact⟨_,_,Ŭ,U⟩
def akQ(h:Ζ.body=Â wX):kJ Ä (λg=>Lf g=Ò) (λf=>Ec f=Ò) wX:=by
 unfold Ζ at h;cases h;refine .qS (u9 Eb<|by rw[<-zh];rfl) (.qS (.tu _ _ λo f=> ?_) .uY);simp only[List.mem_toArray,List.mem_cons,List.not_mem_nil,or_false]at f;rcases f with rfl|rfl|rfl|rfl
 .exact Jp Eb<|by rw[<-Le];rfl
 .exact Jp Eb<|by rw[<-Le];rfl
 .exact akI U Tryz.func185 fQ fQ fQ fQ (λ_ v g z o=>akN v g z o) akO λy g=>Jj (by simp[ŉ,Call.operands]at g;rcases g with rfl|rfl|rfl<;>rfl)
 .exact Jp Eb<|by rw[<-Le];rfl
def Lh:oS Ä (λg=>Lf g=Ò) (λf=>Ec f=Ò):=λf h i c g a=>by
 rcases ī.1 h with q|q
 .let⟨j,k,b,d,e⟩:=ZV<|ZU q;rw[g]at b;cases b;rw[a]at d;cases d;rw[zh]at e;exact u9 Eb e
 .rw[beq_iff_eq]at q;subst q;rw[Ŭ]at g;cases g;exact akQ a
end Go.Proofs.Y.fv
