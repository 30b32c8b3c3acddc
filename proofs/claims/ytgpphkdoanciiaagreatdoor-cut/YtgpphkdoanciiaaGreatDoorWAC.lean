import Derived.Test.YtgpphkdoanciiaaGreatDoorWAB
import Derived.Conc.AppendWalk
import Derived.Conc.TokenWalk
set_option linter.all false
set_option maxRecDepth 1000000
set_option maxHeartbeats 8000000
open Go.Value renaming pointer->À,slice->Æ,int->Ê,oneCell'->Ø,string->à,chan->è,tuple->ñ,func->Ĉ,agg->Đ,bool->ŝ,cells->Ŵ
open Option renaming none->Á,some->Â,isSome_iff_exists->Ô,map_eq_some_iff->ġ,isSome_none->ı,getD_some->Ń
open Or renaming inl->Ã,inr->Ç
open Go.Proofs.Tryz renaming prog->Ä,t155->Ą,f46->Ĝ,t9->Ġ,func47->Ħ,underlying101->Ĵ,type155->ļ,underlying85->Ľ,underlying25->ľ,f52->Ŗ,func167->Ŭ,func63->Ů,func48->ů,func49->Ű,func50->ű,func51->Ų,func46->ų,func52->ŵ,t101->Δ,f167->Ζ,f49->Ι,f63->Κ,f47->Μ
open Go renaming undef->Å,Value->Ï,Goroutine->Ý,World->ß,events_store->á,Addr->â,Oper->å,getD_set_ne->ç,Frame->é,execOp->ĉ,Program->ė,Code->Ę,Operand->Ĥ,deafBehind->į,FuncId->ķ,Act->ŏ,maxLen->œ,size_madeCells->ř,callFunc->Ś,yielded->ţ,TypeId->ŭ,runNT->Ŷ,Item->ŷ,Obj->Ÿ,Trace->ż,TypeInfo->Ž,Event->ž,resolve->ſ,Loc->Ν
open Nat renaming lt_of_lt_of_le->È,le_trans->Õ,le_refl->Ú,add_sub_cancel->ø,zero_le->ă,zero_add->č,mod_lt->ĵ,lt_succ_of_lt->Ĺ,le_of_lt->Ł,reduceAdd->ś,sub_zero->ũ,sub_self->Ū
open Go.Obj renaming cells->É,chan->ŕ
open Go.Conc.Goes renaming stop->Ë
open Bool renaming false->Ì,true->Ò,or_eq_true_iff->ī,false_eq_true->Ķ
open Go.Ground renaming phase->Í,data->Ü,textOnly->Þ,gcOnly->õ,chain->Ţ
open Go.IntKind renaming i64->Î,u64->ê,u32->Ď,wrap_i64->Γ
open Go.Departure renaming lateStores->Ð
open Go.Item renaming inRegion->Ñ,inBlock->ô,code->ö,inLoop->ą
open Option.some renaming inj->Ó
open Go.World renaming cell?->Ö,frozen?->î,setCell->þ,alloc->ň
open Go.Operand renaming tmp->Ù,func->ĸ,const->Ũ
open Go.Region renaming ready->Û,Mode->ý,wanted->Ė
open List renaming range->ã,range_succ->ÿ,mem_filter->Ā,filter_append->ā,flatMap_cons->Ć,mem_range->Ē,setIfInBounds_toArray->ē,getElem?_eq_some_iff->Ĕ,length_filter_le->ģ,mem_of_getElem?->ħ,getElem?_of_mem->Ĩ,set_cons_succ->Ĳ,set_cons_zero->ĳ,size_toArray->Ļ,length_cons->ń,nodup_range->ņ,all_eq_true->Ň,length_nil->ŋ
open Go.Code renaming region->ä,block->İ,cond->Ť,skip->ť,exit->Ŧ,ret->Ρ
open Array renaming getElem?_eq_some_iff->æ,getElem?_eq_getElem->ì,getElem?_modify->í,getD_eq_getD_getElem?->ď,all_toList->ĝ
open Go.Region.linearise renaming go->ë
open Go.MemAct renaming ofEvent->ï
open Go.Op renaming fieldAddr->ð,load->ć,move->ę,call->Ě,nilCheck->ĩ,operands->ŉ,extract->Ő,indexAddr->ő,makeFunc->Ş,store->š,assign->ŧ,binOp->Λ
open Go.Extern.Bytes renaming loadBytes->ò,bytesOf->ú,asByte->ü
open Go.Extern.BytealgIndexByte renaming indexByte->ó
open Go.Fn renaming func->ù
open Go.Loc renaming cell->û
open Go.Frame renaming enter->Ă,finish_at->Ģ
open Go.Instr renaming build->Ċ,makeSlice->Ŏ
open Go.GoStatus renaming running->ċ,finished->ş
open Go.Conc renaming mem_ofEvents->Č,mem_listed->đ,seen_none->Ī,crowd->Ĭ,stepG_region->ĺ,events_call_body->ł,deafBehind_still->Ņ,listed->ŗ,handedOver_app->Ř,stepG_seq->Ŝ,stepG_comm->Ż
open Go.Callee renaming value->ĕ,builtin->Ŕ
open Go.Deferred renaming ofValue->ě
open Go.CallKind renaming normal->Ğ,early->Ź
open Go.Addr renaming add_lit->ğ
open Go.Act renaming eval->ĥ,put->Ο
open Eq renaming trans->Ŀ
variable{i n j b k m J j9 j7 j6:Nat}{w u W jX:ß}{v x z jQ:Ï}{g:Ý}{a p:â}{h c:Int}{e t T:ŭ}{d q:Array Ï}{P:ė}{y:ŏ}{B:ByteArray}{X:Nat->Prop}{O:Option â}{l:List Ï}{yQ:Bool}{K H:ŏ->ß->Prop}{o:å}{D:Nat->Nat}{E:Array Ý}{L:List ŷ}{jJ:List Nat}{qX:List é}{qQ:Ĥ}{qJ:ż}{zX:Ν->Prop}{zQ:List Int}{zJ:Ž}{xX:Ĥ->Ï}{xQ:Go.Tape}{xJ:Nat×Nat}{wX:Ę}{wQ:Go.MemOp}{wJ:Array Bool}{vX:List ByteArray}{vQ:Ï->ß->Prop}{vJ:Go.Exit->ŏ->ß->Prop}{yX:ý}{Q:Array å}{f:é}{V:Array ž}{F:ķ}{s:Go.Func}
namespace Go.Proofs.Y.fA
open Go Go.Conc Go.Proofs.Y.Lift Go.RowKit Go.Conc.Lib Go.ConcR.Gen
open Go.Proofs Go.Proofs.YtgpphkdoanciiaaGreatDoor
def F3:å:=⟨Â 13,ð 155 (Ù 5) 3,0, "work.go:57",#[],Á⟩
def C7:å:=⟨Â 14,ć 86<|Ù 13,86, "work.go:57",#[⟨0,Ü⟩],Á⟩
def F4:å:=⟨Â 15,ę<|Ù 1,25, "work.go:57",#[{on:=18,ground:=õ Ð}],Á⟩
def F5:å:=⟨Â 16,ð 155 (Ù 5) 1,0, "work.go:57",#[{on:=18,ground:=õ Ð}],Á⟩
def C8:å:=⟨Â 17,ć 3<|Ù 16,3, "work.go:57",#[⟨3,Ü⟩,{on:=18,ground:=õ Ð}],Á⟩
def F6:å:=⟨Â 18,ð 155 (Ù 5) 2,0, "work.go:57",#[],Á⟩
def C9:å:=⟨Â 19,ć 86<|Ù 18,86, "work.go:57",#[⟨5,Ü⟩],Á⟩
def Da:å:=⟨Â 20,ĩ<|Ù 19,0, "work.go:57",#[⟨6,Ü⟩],Á⟩
def Db:å:=⟨Â 21,ð 105 (Ù 20) 1,0, "work.go:57",#[⟨7,Ü⟩],Á⟩
def Dc:å:=⟨Â 22,ć 65<|Ù 21,65, "work.go:57",#[⟨8,Ü⟩],Á⟩
def F7:å:=⟨Â 23,ð 155 (Ù 5) 0,0, "work.go:57",#[],Á⟩
def Dd:å:=⟨Â 24,ć 148<|Ù 23,148, "work.go:57",#[⟨10,Ü⟩],Á⟩
def AQ:å:=⟨Â 25,Ě {callee:=ĕ<|ĸ 66,args:=#[Ù 22,Ù 24],argTypes:=#[65,148]},163, "work.go:57",#[⟨9,Ü⟩,⟨11,Ü⟩],Á⟩
def vf:å:=⟨Â 12,ę<|Ù 25,163, "work.go:57",#[⟨12,Ü⟩],Á⟩
def AR:å:=⟨Â 26,Ő (Ù 12) 0,65, "work.go:57",#[⟨13,Ü⟩],Á⟩
def AS:å:=⟨Â 27,Ő (Ù 12) 1,9, "work.go:57",#[⟨13,Ü⟩,{on:=18,ground:=õ Ð}],Á⟩
def De:å:=⟨Â 28,ĩ<|Ù 14,0, "work.go:57",#[⟨1,Ü⟩,⟨0,Í⟩,⟨1,Í⟩,{on:=2,ground:=Þ Ð},{on:=3,ground:=Þ Ð},{on:=4,ground:=Þ Ð},⟨5,Í⟩,⟨6,Í⟩,⟨7,Í⟩,⟨8,Í⟩,⟨9,Í⟩,⟨10,Í⟩,⟨11,Í⟩,⟨12,Í⟩,⟨13,Í⟩,⟨14,Í⟩,{on:=15,ground:=Þ Ð}],Á⟩
def Df:å:=⟨Â 29,ð 105 (Ù 28) 1,0, "work.go:57",#[⟨16,Ü⟩,⟨0,Í⟩,⟨1,Í⟩,{on:=2,ground:=Þ Ð},{on:=3,ground:=Þ Ð},{on:=4,ground:=Þ Ð},⟨5,Í⟩,⟨6,Í⟩,⟨7,Í⟩,⟨8,Í⟩,⟨9,Í⟩,⟨10,Í⟩,⟨11,Í⟩,⟨12,Í⟩,⟨13,Í⟩,⟨14,Í⟩,{on:=15,ground:=Þ Ð}],Á⟩
def AT:å:=⟨Á,š 65 (Ù 29)<|Ù 26,0, "work.go:57",#[⟨17,Ü⟩,⟨14,Ü⟩,⟨12,Ţ⟩,⟨0,Í⟩,⟨1,Í⟩,{on:=2,ground:=Þ Ð},{on:=3,ground:=Þ Ð},{on:=4,ground:=Þ Ð},⟨5,Í⟩,⟨6,Í⟩,⟨7,Í⟩,⟨8,Í⟩,⟨9,Í⟩,⟨10,Í⟩,⟨11,Í⟩,⟨12,Í⟩,⟨13,Í⟩,⟨14,Í⟩,{on:=15,ground:=Þ Ð}],Á⟩
def AU:å:=⟨Â 30,ő 25 (Ù 15)<|Ù 17,0, "work.go:57",#[⟨2,Ü⟩,⟨4,Ü⟩,⟨0,Í⟩,⟨1,Í⟩,⟨2,Í⟩,⟨3,Í⟩,⟨4,Í⟩,⟨5,Í⟩,⟨6,Í⟩,⟨7,Í⟩,⟨8,Í⟩,⟨9,Í⟩,⟨10,Í⟩,⟨11,Í⟩,⟨12,Í⟩,⟨13,Í⟩,⟨14,Í⟩,⟨15,Í⟩,⟨16,Í⟩,⟨17,Í⟩,⟨18,Í⟩],Á⟩
def AV:å:=⟨Á,š 9 (Ù 30)<|Ù 27,0, "work.go:57",#[⟨19,Ü⟩,⟨15,Ü⟩,⟨18,Ţ⟩,⟨0,Í⟩,⟨1,Í⟩,⟨2,Í⟩,⟨3,Í⟩,⟨4,Í⟩,⟨5,Í⟩,⟨6,Í⟩,⟨7,Í⟩,⟨8,Í⟩,⟨9,Í⟩,⟨10,Í⟩,⟨11,Í⟩,⟨12,Í⟩,⟨13,Í⟩,⟨14,Í⟩,⟨15,Í⟩,⟨16,Í⟩,⟨17,Í⟩,⟨18,Í⟩],Á⟩
def yA:Array å:=#[F3,C7,F4,F5,C8,F6,C9,Da,Db,Dc,F7,Dd,AQ,vf,AR,AS,De,Df,AT,AU,AV]
def mK(tb a b c N d:Nat)(e f:Ï)(x:(Option Addr×Nat×Nat)×ByteArray):Nat->Ï
 |0=>À<|Â ⟨tb,3,Á⟩
 |1=>À<|Â ⟨b,0,Á⟩
 |2=>Æ (Â ⟨c,0,Á⟩) N N
 |3=>À<|Â ⟨tb,1,Á⟩
 |4=>Ê Î d
 |5=>À<|Â ⟨tb,2,Á⟩
 |6=>À<|Â ⟨a,0,Á⟩
 |7=>À<|Â ⟨a,0,Á⟩
 |8=>À<|Â ⟨a,2,Á⟩
 |9=>f
 |10=>À<|Â ⟨tb,0,Á⟩
 |11=>e
 |12=>ñ #[Æ x.1.1 x.1.2.1 x.1.2.2,à x.2]
 |13=>ñ #[Æ x.1.1 x.1.2.1 x.1.2.2,à x.2]
 |14=>Æ x.1.1 x.1.2.1 x.1.2.2
 |15=>à x.2
 |16=>À<|Â ⟨b,0,Á⟩
 |17=>À<|Â ⟨b,2,Á⟩
 |19=>À<|Â ⟨c,d,Á⟩
 |_=>Å
structure Dg(im:fc)(ga gb an pl:Nat)(sw:Ï)(Q:Ï->ByteArray->fc->Prop)(listed:Array Bool)(x:(Option Addr×Nat×Nat)×ByteArray)(l:fc):Prop where
 r:iD (λa=>a=⟨gb,2,Á⟩\/a=⟨an,pl,Á⟩) im l
 vg:listed.getD 12 Ì=Ò->∃y,Q (Æ x.1.1 x.1.2.1 x.1.2.2) x.2 y/\(∀b,y.M b->l.M b/\l.w.heap[b]?=y.w.heap[b]?)
 I:listed.getD 18 Ì=Ò->l.w.cell? ⟨gb,2,Á⟩=Â (Æ x.1.1 x.1.2.1 x.1.2.2)
 N:listed.getD 20 Ì=Ò->l.w.cell? ⟨an,pl,Á⟩=Â (à x.2)
def Dg.C{d l:fc}{Q:Ï->ByteArray->fc->Prop}{listed:Array Bool}{x:(Option Addr×Nat×Nat)×ByteArray}(h:Dg d n j b k v Q listed x l)(o:i≠12)(p:i≠18)(s:i≠20)(e:d.r ⟨j,2,Á⟩/\d.r ⟨b,k,Á⟩)(m:ß)(r:fG l l.w m):Dg d n j b k v Q (listed.setIfInBounds i Ò) x {l with w:=m}:=by
 have t:∀a,(a=⟨j,2,Á⟩\/a=⟨b,k,Á⟩)->d.r a:=λa u=>by rcases u with rfl|rfl;exact e.1;exact e.2
 refine⟨h.r.N t r,λq=> ?_,λq=> ?_,λq=> ?_⟩
 .rw[ç Ì o]at q;let⟨y,z,f⟩:=h.vg q;exact⟨y,z,λc g=>⟨(f c g).1,(r.I c (f c g).1).trans (f c g).2⟩⟩
 .rw[ç Ì p]at q;exact(r.N _<|by rw[h.r.C];exact Ã e.1).trans<|h.I q
 .rw[ç Ì s]at q;exact(r.N _<|by rw[h.r.C];exact Ã e.2).trans<|h.N q
section
variable{J:Jd}{im:fc}{ga gb an pl:Nat}{sw:Ï}{Q:Ï->ByteArray->fc->Prop}
def ahQ(S:gw im)(hq:¬im.q)(ht:d.size=37)(AW:d[1]?=Â (Æ (Â ⟨an,0,Á⟩) i i))(Qq:d[5]?=Â (À<|Â ⟨n,0,Á⟩))(hO:im.O n) (X:im.w.cell? ⟨n,0,Á⟩=Â v) (Y:im.w.cell? ⟨n,1,Á⟩=Â (Ê Î pl)) (c2:im.w.cell? ⟨n,2,Á⟩=Â (À<|Â ⟨ga,0,Á⟩)) (c3:im.w.cell? ⟨n,3,Á⟩=Â (À<|Â ⟨gb,0,Á⟩)) (tW:im.N ⟨ga,2,Á⟩) (pJ:im.w.cell? ⟨ga,2,Á⟩=Â sw) (F:im.r ⟨gb,2,Á⟩) (H:im.r ⟨an,pl,Á⟩) (e1:(im.w.cell? ⟨gb,2,Á⟩).isSome=Ò) (e2:(im.w.cell? ⟨an,pl,Á⟩).isSome=Ò) (z1:im.w.frozen? ⟨gb,2,Á⟩=Ì) (z2:im.w.frozen? ⟨an,pl,Á⟩=Ì) (tg:pl<i) (hN:i<1000000) (kO:(⟨gb,2,Á⟩:â)≠⟨an,pl,Á⟩) (tC:∀l,iD (λa=>a=⟨gb,2,Á⟩\/a=⟨an,pl,Á⟩) im l->∀I lF,fi Ä Ì (λl' g'=>l'.d=l.d/\∃p g c str,g'=G (I.finish<|ñ #[Æ p g c,à str]) lF/\Q (Æ p g c) str l') (lR l)<|G (Ă Ä 66 #[sw,v] Ğ)<|I::lF) (md:ý) (listed:Array Bool) (a:ŏ) (l:fc) (k:Nat) (rest:List Nat) (hI:II yA d (mK n ga gb an i pl v sw) (Dg im ga gb an pl sw Q) listed a l) (D:k∈Û md yA listed): fi Ä Ì (λl' g'=>∃u,g'=G ((base 49).at u<|Ñ yA rest::L) qX/\II yA d (mK n ga gb an i pl v sw) (Dg im ga gb an pl sw Q) (listed.setIfInBounds k Ò) u l') l (G ((base 49).at a<|Ñ yA (k::rest)::L) qX):=by
 let⟨x,s,B⟩:=hI;have K:tV yA d.size=Ò:=by rw[ht];decide
 have V:=Qm D;have gN:=C6 D;have M:=B.r.fu;have N:¬l.q:=by rwa[B.r.q]
 have W:∀y:â,(y=⟨gb,2,Á⟩\/y=⟨an,pl,Á⟩)->im.r y:=λy ha=>by rcases ha with rfl|rfl;exact F;exact H
 have ni:a.tmps[1]?=Â (Æ (Â ⟨an,0,Á⟩) i i):=(s.C A).trans AW;have rn:a.tmps[5]?=Â (À<|Â ⟨n,0,Á⟩):=(s.C A).trans Qq;have I:∀j m,im.w.cell? ⟨n,j,Á⟩=Â m->gX l ⟨n,j,Á⟩/\l.w.cell? ⟨n,j,Á⟩=Â m:=λj m h=>⟨Ã<|Ã<|B.r.O n hO,by rwa[gJ<|B.r.r n<|Ã hO]⟩;have Qr:¬((⟨ga,2,Á⟩:â)=⟨gb,2,Á⟩\/(⟨ga,2,Á⟩:â)=⟨an,pl,Á⟩):=λq=>by
  rcases q with q|q
  .exact S.Y _ F<|q▸tW
  .exact S.Y _ H<|q▸tW
 have F8:gX l ⟨ga,2,Á⟩/\l.w.cell? ⟨ga,2,Á⟩=Â sw:=⟨Ç (Ç<|by rwa[B.r.c]),by rwa[B.r.e _ (Ç tW) Qr]⟩;have Qs:(pl:Int)<(i:Int):=Z
 have jS:yA.size=21:=A
 rw[jS]at gN;match k,gN with
 |0,_=>
  refine il (o:=F3) K s U U D (by k_ne) M N (λt r=> ?_) (λt r e E=> ?_)<|B.C A A A ⟨F,H⟩
  .simp only[mK,F3];go_simp
  .simp[go_sem,F3,rn]at E
 |1,_=>
  have u:a.tmps[13]?=Â (À<|Â ⟨n,3,Á⟩):=s.r 0 F3 13 U (ij (o:=C7) D U U) U;refine il (o:=C7) K s U U D (by k_ne) M N (λt r=> ?_) (λt r e E=> ?_)<|B.C A A A ⟨F,H⟩
  .have J:t.cell? ⟨n,3,Á⟩=Â (À<|Â ⟨gb,0,Á⟩):=((I 3 _ c3).1.r r).trans (I 3 _ c3).2;simp only[mK,C7];go_simp
  .have J:t.cell? ⟨n,3,Á⟩=Â (À<|Â ⟨gb,0,Á⟩):=((I 3 _ c3).1.r r).trans (I 3 _ c3).2;have b:e=⟨û ⟨n,3,Á⟩,Ì,Ì⟩:=by simp[go_sem,C7,J,u]at E;exact E
   subst b;exact(I 3 _ c3).1.C
 |2,_=>
  refine il (o:=F4) K s U U D (by k_ne) M N (λt r=> ?_) (λt r e E=> ?_)<|B.C A A A ⟨F,H⟩
  .simp only[mK,F4];go_simp
  .simp[go_sem,F4,ni]at E
 |3,_=>
  refine il (o:=F5) K s U U D (by k_ne) M N (λt r=> ?_) (λt r e E=> ?_)<|B.C A A A ⟨F,H⟩
  .simp only[mK,F5];go_simp
  .simp[go_sem,F5,rn]at E
 |4,_=>
  have u:a.tmps[16]?=Â (À<|Â ⟨n,1,Á⟩):=s.r 3 F5 16 U (ij (o:=C8) D U U) U;refine il (o:=C8) K s U U D (by k_ne) M N (λt r=> ?_) (λt r e E=> ?_)<|B.C A A A ⟨F,H⟩
  .have J:t.cell? ⟨n,1,Á⟩=Â (Ê Î pl):=((I 1 _ Y).1.r r).trans (I 1 _ Y).2;simp only[mK,C8];go_simp
  .have J:t.cell? ⟨n,1,Á⟩=Â (Ê Î pl):=((I 1 _ Y).1.r r).trans (I 1 _ Y).2;have b:e=⟨û ⟨n,1,Á⟩,Ì,Ì⟩:=by simp[go_sem,C8,J,u]at E;exact E
   subst b;exact(I 1 _ Y).1.C
 |5,_=>
  refine il (o:=F6) K s U U D (by k_ne) M N (λt r=> ?_) (λt r e E=> ?_)<|B.C A A A ⟨F,H⟩
  .simp only[mK,F6];go_simp
  .simp[go_sem,F6,rn]at E
 |6,_=>
  have u:a.tmps[18]?=Â (À<|Â ⟨n,2,Á⟩):=s.r 5 F6 18 U (ij (o:=C9) D U U) U;refine il (o:=C9) K s U U D (by k_ne) M N (λt r=> ?_) (λt r e E=> ?_)<|B.C A A A ⟨F,H⟩
  .have J:t.cell? ⟨n,2,Á⟩=Â (À<|Â ⟨ga,0,Á⟩):=((I 2 _ c2).1.r r).trans (I 2 _ c2).2;simp only[mK,C9];go_simp
  .have J:t.cell? ⟨n,2,Á⟩=Â (À<|Â ⟨ga,0,Á⟩):=((I 2 _ c2).1.r r).trans (I 2 _ c2).2;have b:e=⟨û ⟨n,2,Á⟩,Ì,Ì⟩:=by simp[go_sem,C9,J,u]at E;exact E
   subst b;exact(I 2 _ c2).1.C
 |7,_=>
  have u:a.tmps[19]?=Â (À<|Â ⟨ga,0,Á⟩):=s.r 6 C9 19 U (ij (o:=Da) D U U) U;refine il (o:=Da) K s U U D (by k_ne) M N (λt r=> ?_) (λt r e E=> ?_)<|B.C A A A ⟨F,H⟩
  .simp only[mK,Da];go_simp
  .simp[go_sem,Da,u]at E
 |8,_=>
  have u:a.tmps[20]?=Â (À<|Â ⟨ga,0,Á⟩):=s.r 7 Da 20 U (ij (o:=Db) D U U) U;refine il (o:=Db) K s U U D (by k_ne) M N (λt r=> ?_) (λt r e E=> ?_)<|B.C A A A ⟨F,H⟩
  .simp only[mK,Db];go_simp
  .simp[go_sem,Db,u]at E
 |9,_=>
  have u:a.tmps[21]?=Â (À<|Â ⟨ga,2,Á⟩):=s.r 8 Db 21 U (ij (o:=Dc) D U U) U;refine il (o:=Dc) K s U U D (by k_ne) M N (λt r=> ?_) (λt r e E=> ?_)<|B.C A A A ⟨F,H⟩
  .have J:t.cell? ⟨ga,2,Á⟩=Â (sw):=(F8.1.r r).trans F8.2;simp only[mK,Dc];go_simp
  .have J:t.cell? ⟨ga,2,Á⟩=Â (sw):=(F8.1.r r).trans F8.2;have b:e=⟨û ⟨ga,2,Á⟩,Ì,Ì⟩:=by simp[go_sem,Dc,J,u]at E;exact E
   subst b;exact F8.1.C
 |10,_=>
  refine il (o:=F7) K s U U D (by k_ne) M N (λt r=> ?_) (λt r e E=> ?_)<|B.C A A A ⟨F,H⟩
  .simp only[mK,F7];go_simp
  .simp[go_sem,F7,rn]at E
 |11,_=>
  have u:a.tmps[23]?=Â (À<|Â ⟨n,0,Á⟩):=s.r 10 F7 23 U (ij (o:=Dd) D U U) U;refine il (o:=Dd) K s U U D (by k_ne) M N (λt r=> ?_) (λt r e E=> ?_)<|B.C A A A ⟨F,H⟩
  .have J:t.cell? ⟨n,0,Á⟩=Â (v):=((I 0 _ X).1.r r).trans (I 0 _ X).2;simp only[mK,Dd];go_simp
  .have J:t.cell? ⟨n,0,Á⟩=Â (v):=((I 0 _ X).1.r r).trans (I 0 _ X).2;have b:e=⟨û ⟨n,0,Á⟩,Ì,Ì⟩:=by simp[go_sem,Dd,J,u]at E;exact E
   subst b;exact(I 0 _ X).1.C
 |12,_=>
  have F9:a.tmps[22]?=Â (sw):=s.r 9 Dc 22 U (ij (o:=AQ) D U U) U;have JS:a.tmps[24]?=Â (v):=s.r 11 Dd 24 U (ij (o:=AQ) D U U) U;refine X7 (o:=AQ) K s U U D (by k_ne) M (f:=66) (args:=#[sw,v]) (λw=>by simp only[AQ];go_simp) (λw=>ł (o:=AQ) U Tryz.func66 U U #[]) λt r=> ?_;have T:=B.r.N W r;refine((tC _ T _ _).lR<|T.G S).fN ?_;rintro l' g' ⟨y,⟨hy0,p,g,c,str,rfl,hQ⟩,rfl,hA,Ya,ahR,ahS⟩;refine⟨((p,g,c),str),U,⟨T.Qo W hA hy0,λ_=>⟨y,hQ,λb P=>⟨?_,U⟩⟩,λq=> ?_,λq=> ?_⟩,λj u=> ?_⟩
  .rcases P with q|q
   .exact Ã<|Ã q
   .rw[Ya]at q;exact q.elim (λz=>Ã<|Ç z) Ç
  .rw[ç Ì A]at q;exact absurd (s.I (o:=AT) U q U)<|wL V
  .rw[ç Ì A]at q;exact absurd (s.I (o:=AV) U q U)<|wL V
  .match j,u with
   |12,u=>exact absurd u<|wL V
   |13,u=>exact absurd (s.I (o:=vf) U u U)<|wL V
   |14,u=>exact absurd (s.I (o:=vf) U (s.I (j:=13) (o:=AR) U u U) U)<|wL V
   |15,u=>exact absurd (s.I (o:=vf) U (s.I (j:=13) (o:=AS) U u U) U)<|wL V
   |0,_|1,_|2,_|3,_|4,_|5,_|6,_|7,_|8,_|9,_|10,_|11,_|16,_|17,_|18,_|19,_|20,_|g+21,_=>rfl
 |13,_=>
  have u:a.tmps[25]?=Â (ñ #[Æ x.1.1 x.1.2.1 x.1.2.2,à x.2]):=s.r 12 AQ 25 U (ij (o:=vf) D U U) U;refine il (o:=vf) K s U U D (by k_ne) M N (λt r=> ?_) (λt r e E=> ?_)<|B.C A A A ⟨F,H⟩
  .simp only[mK,vf];go_simp
  .simp[go_sem,vf,u]at E
 |14,_=>
  have u:a.tmps[12]?=Â (ñ #[Æ x.1.1 x.1.2.1 x.1.2.2,à x.2]):=s.r 13 vf 12 U (ij (o:=AR) D U U) U;refine il (o:=AR) K s U U D (by k_ne) M N (λt r=> ?_) (λt r e E=> ?_)<|B.C A A A ⟨F,H⟩
  .simp only[mK,AR];go_simp
  .simp[go_sem,AR,u]at E
 |15,_=>
  have u:a.tmps[12]?=Â (ñ #[Æ x.1.1 x.1.2.1 x.1.2.2,à x.2]):=s.r 13 vf 12 U (ij (o:=AS) D U U) U;refine il (o:=AS) K s U U D (by k_ne) M N (λt r=> ?_) (λt r e E=> ?_)<|B.C A A A ⟨F,H⟩
  .simp only[mK,AS];go_simp
  .simp[go_sem,AS,u]at E
 |16,_=>
  have u:a.tmps[14]?=Â (À<|Â ⟨gb,0,Á⟩):=s.r 1 C7 14 U (ij (o:=De) D U U) U;refine il (o:=De) K s U U D (by k_ne) M N (λt r=> ?_) (λt r e E=> ?_)<|B.C A A A ⟨F,H⟩
  .simp only[mK,De];go_simp
  .simp[go_sem,De,u]at E
 |17,_=>
  have u:a.tmps[28]?=Â (À<|Â ⟨gb,0,Á⟩):=s.r 16 De 28 U (ij (o:=Df) D U U) U;refine il (o:=Df) K s U U D (by k_ne) M N (λt r=> ?_) (λt r e E=> ?_)<|B.C A A A ⟨F,H⟩
  .simp only[mK,Df];go_simp
  .simp[go_sem,Df,u]at E
 |18,_=>
  have h29:a.tmps[29]?=Â (À<|Â ⟨gb,2,Á⟩):=s.r 17 Df 29 U (ij (o:=AT) D U U) U;have h26:a.tmps[26]?=Â (Æ x.1.1 x.1.2.1 x.1.2.2):=s.r 14 AR 26 U (ij (o:=AT) D U U) U;have T:(l.w.cell? ⟨gb,2,Á⟩).isSome=Ò:=B.r.g _ (Ã U) e1;have AX:l.w.frozen? ⟨gb,2,Á⟩=Ì:=(B.r.S _<|Ã F).trans z1;have ly:pT l ⟨gb,2,Á⟩:=Ç (by rwa[B.r.I]);refine Qp (o:=AT) (y:=⟨gb,2,Á⟩) (v:=Æ x.1.1 x.1.2.1 x.1.2.2) K s U U U D (by k_ne) M N U ly T AX (λw J hz=> ?_) (λw J hz=> ?_) λt r=> ?_
  .let⟨u,hu⟩:=Ô.1 J;simp only[AT];go_simp
  .let⟨u,hu⟩:=Ô.1 J;simp[go_sem,AT,h29,h26,á _ _ _ _ _ _ (show Ø (Æ x.1.1 x.1.2.1 x.1.2.2)=Ò from rfl),hu,hz]
  .have hA:=B.r.qj S W (x:=⟨gb,2,Á⟩) (v:=Æ x.1.1 x.1.2.1 x.1.2.2) (Ã U) U T;refine⟨hA.N W ⟨r.r,r.I,r.N,r.Y,r.S⟩,λq=> ?_,λq=> ?_,λq=> ?_⟩
   .rw[ç Ì A]at q;let⟨y,y1,z⟩:=B.vg q;refine⟨y,y1,λb P=>⟨(z b P).1,?_⟩⟩;have Qt:b≠(⟨gb,2,Á⟩:â).block:=λe=>(B.r.G S).N ⟨gb,2,Á⟩ (by rw[B.r.C];exact Ã F)<|e▸(z b P).1;exact(r.I b (z b P).1).trans<|(lj Qt).trans (z b P).2
   .exact(r.N _ (by rw[B.r.C];first|exact Ã F|exact Ã H)).trans<|Ag (Ô.1 T).choose_spec
   .rw[ç Ì A]at q;exact(r.N ⟨an,pl,Á⟩<|by rw[B.r.C];exact Ã H).trans<|(AP U λe=>kO e.symm).trans<|B.N q
 |19,_=>
  have Qu:a.tmps[15]?=Â (Æ (Â ⟨an,0,Á⟩) i i):=s.r 2 F4 15 U (ij (o:=AU) D U U) U;have Qv:a.tmps[17]?=Â (Ê Î pl):=s.r 4 C8 17 U (ij (o:=AU) D U U) U;refine il (o:=AU) K s U U D (by k_ne) M N (λt r=> ?_) (λt r e E=> ?_)<|B.C A A A ⟨F,H⟩
  .simp only[mK,AU];go_simp
  .simp[go_sem,AU,tg,Qs,Qu,Qv]at E
 |20,_=>
  have E:a.tmps[30]?=Â (À<|Â ⟨an,pl,Á⟩):=s.r 19 AU 30 U (ij (o:=AV) D U U) U;have h27:a.tmps[27]?=Â (à x.2):=s.r 15 AS 27 U (ij (o:=AV) D U U) U;have T:(l.w.cell? ⟨an,pl,Á⟩).isSome=Ò:=B.r.g _ (Ç U) e2;have AX:l.w.frozen? ⟨an,pl,Á⟩=Ì:=(B.r.S _<|Ã H).trans z2;have ly:pT l ⟨an,pl,Á⟩:=Ç (by rwa[B.r.I]);refine Qp (o:=AV) (y:=⟨an,pl,Á⟩) (v:=à x.2) K s U U U D (by k_ne) M N U ly T AX (λw J hz=> ?_) (λw J hz=> ?_) λt r=> ?_
  .let⟨u,hu⟩:=Ô.1 J;simp only[AV];go_simp
  .let⟨u,hu⟩:=Ô.1 J;simp[go_sem,AV,E,h27,á _ _ _ _ _ _ (show Ø (à x.2)=Ò from rfl),hu,hz]
  .have hA:=B.r.qj S W (x:=⟨an,pl,Á⟩) (v:=à x.2) (Ç U) U T;refine⟨hA.N W ⟨r.r,r.I,r.N,r.Y,r.S⟩,λq=> ?_,λq=> ?_,λq=> ?_⟩
   .rw[ç Ì A]at q;let⟨y,y1,z⟩:=B.vg q;refine⟨y,y1,λb P=>⟨(z b P).1,?_⟩⟩;have Qt:b≠(⟨an,pl,Á⟩:â).block:=λe=>(B.r.G S).N ⟨an,pl,Á⟩ (by rw[B.r.C];exact Ã H)<|e▸(z b P).1;exact(r.I b (z b P).1).trans<|(lj Qt).trans (z b P).2
   .rw[ç Ì A]at q;exact(r.N ⟨gb,2,Á⟩<|by rw[B.r.C];exact Ã F).trans<|(AP U<|kO).trans<|B.I q
   .exact(r.N _ (by rw[B.r.C];first|exact Ã F|exact Ã H)).trans<|Ag (Ô.1 T).choose_spec
 |g+21,h=>exact absurd h Z
end
section
variable{E:â->Prop}{l c g:fc}
def iD.fg(h:iD E l c)(k:iD E c g):iD E l g:=by have f:=h.C;exact⟨λj e=>k.O j<|h.O j e,λj e=>(k.h j e).elim (h.h j) λq=>Ç<|Õ h.f q,k.Y.trans h.Y,k.I.trans h.I,k.c.trans h.c,k.K.trans h.K,k.q.trans h.q,k.d.trans h.d,k.fu,Õ h.f k.f,λj e=>(k.r j<|h.M e).trans<|h.r j e,λa b i=>(k.e a (by rwa[f]) i).trans<|h.e a b i,λa b=>(k.S a<|by rwa[f]).trans<|h.S a b,λa b q=>k.b a (by rwa[h.K])<|h.b a b q,λa b q=>k.g a b<|h.g a b q⟩
end
def gF(l:fc)(w₁:ß)(o:Ÿ):fc:={l with O:=λb=>l.O b\/b=w₁.heap.size,w:=w₁.alloc o}
theorem yB{o:Ÿ}(h:j<w.heap.size):(w.alloc o).heap[j]?=w.heap[j]?:=by unfold ň;grind
theorem mL{o:Ÿ}:(w.alloc o).heap[w.heap.size]?=Â o:=by unfold ň;simp
def JU{o:Ÿ}:(w.alloc o).heap.size=w.heap.size+1:=by unfold ň;simp
section
variable{J:Jd}{l:fc}{a:ŏ}{k:List ŷ}{cs:List é}{ob:Ÿ}{E:â->Prop}
def Yb(b:∀j,l.O j->j<w.heap.size)(c:¬l.q):mj l (gF l w ob) w (w.alloc ob) #[]:= ⟨by rw[JU];omega,λj h=>h.imp id λe=>by omega,λj h=>by rw[JU];exact h.elim (λq=>Ĺ<|b j q) λe=>by omega,U,U,U,U,λj d _ _=>yB d,λx a _ _=>gJ<|yB a,λx a _=>wo<|yB a,U,U,U,λe f=>by simp at f,by simp[į,gF],U,λq=>absurd q c,U⟩
def Gb(c:Q[i]?=Â o)(d:Ė o (ţ Q a.tmps)=Ò)(e:f.kind≠Ź)(g:kg l)(h:¬l.q) (j:∀w,(ĉ a.eval o).run P w=.ok (.value<|À<|Â ⟨w.heap.size,0,Á⟩) (w.alloc ob)) (m:∀w,(ĉ a.eval o).events P w #[]=#[]) (n:∀b,fG l l.w b->fi P yQ J (gF l b ob) (G (f.at (a.put o.dst<|À<|Â ⟨b.heap.size,0,Á⟩)<|Ñ Q jJ::k) cs)):fi P yQ J l (G (f.at a<|Ñ Q (i::jJ)::k) cs):=by
 refine ve c d e λb r=> ?_;rw[j b];refine⟨_,?_,n b r⟩;have:listed P f.fn a o b=#[]:=by unfold listed;rw[m b,Ī]
 rw[this];exact Yb (mr g r) h
def JV(s:gw l)(d:∀a,E a->l.r a)(r:fG l l.w u):iD E l (gF l u ob):=by
 have c:=r.r;refine⟨λj h=>Ã h,λj h=>h.imp id λe=>by omega,U,U,U,U,U,U,λj h=> ?_,?_,λj f=>(yB<|È (s.fu j f) c).trans<|r.I j f,λx b _=>(gJ<|yB<|È (s.I x b) c).trans<|r.N x b,λx b=>(wq<|yB<|È (s.I x b) c).trans<|r.Y x b,λx b q=> ?_,λx b q=> ?_⟩
 .show j<(u.alloc ob).heap.size;rw[JU];exact h.elim (λq=>Ĺ<|È (s.fu j<|Ã q) c) λe=>by omega
 .show l.w.heap.size<=(u.alloc ob).heap.size;rw[JU];omega
 .show((u.alloc ob).cell? x).isSome=Ò;rw[gJ<|yB<|È (s.S x b).2.1 c];exact r.S x b q
 .show((u.alloc ob).cell? x).isSome=Ò;rwa[gJ<|yB<|È (s.I x<|Ã<|d x b) c,r.N x<|Ã<|d x b]
def JX{w':ß}{p:Nat}(g:∀j,l.O j->j<w.heap.size)(i:¬l.q)(b:l.O p)(k:w'.heap.size=w.heap.size)(c:∀j,j≠p->w'.heap[j]?=w.heap[j]?)(d:w'.os=w.os/\w'.output=w.output/\w'.tape=w.tape)(f:∀e∈V,wK l e):mj l {l with w:=w'} w w' V:=by refine⟨Z,λ_ h=>Ã h,λj h=>by rw[k];exact g j h,U,U,U,U,λj _ a _=>c j λe=>a<|e▸b,λx _ a _=>gJ (c _ λe=>a<|e▸b),λx _ a=>wo (c _ λe=>a<|e▸b),d.1,d.2.1,d.2.2,λe h=>(f e h).1,(JO f _).symm,U,λq=>absurd q i,U⟩
end
def iT(w:ß)(p:Nat)(v0 v1 v2 v3:Ï):ß:=(((w.setCell ⟨p,0,Á⟩ v0).setCell ⟨p,1,Á⟩ v1).setCell ⟨p,2,Á⟩ v2).setCell ⟨p,3,Á⟩ v3
section
variable{p:Nat}{v0 v1 v2 v3:Ï}
def wM:(iT w p v0 v1 v2 v3).heap.size=w.heap.size:=by unfold iT;rw[jV,jV,jV,jV]
def yC(h:j≠p):(iT w p v0 v1 v2 v3).heap[j]?=w.heap[j]?:=by unfold iT;rw[lj h,lj h,lj h,lj h]
theorem Qw(b:w.cell? ⟨p,0,Á⟩=Â v)(c:w.cell? ⟨p,1,Á⟩=Â x)(d:w.cell? ⟨p,2,Á⟩=Â z)(e:w.cell? ⟨p,3,Á⟩=Â jQ): (iT w p v0 v1 v2 v3).cell? ⟨p,0,Á⟩=Â v0/\(iT w p v0 v1 v2 v3).cell? ⟨p,1,Á⟩=Â v1/\(iT w p v0 v1 v2 v3).cell? ⟨p,2,Á⟩=Â v2/\(iT w p v0 v1 v2 v3).cell? ⟨p,3,Á⟩=Â v3:=by have f:∀(w:ß) (i j:Nat) (a:Ï),i≠j->(w.setCell ⟨p,i,Á⟩ a).cell? ⟨p,j,Á⟩=w.cell? ⟨p,j,Á⟩:=λw i j a h=>yc<|Ç h;unfold iT;grind [Ag]
def Qx{E:â->Prop}{l e:fc}(s:gw l)(f:∀a,E a->l.r a)(h:iD E l e){w':ß}(r:fG e e.w u)(k:l.w.heap.size<=p)(g:w'.heap.size=u.heap.size)(i:∀j,j≠p->w'.heap[j]?=u.heap[j]?):iD E l {e with w:=w'}:=by
 have b:=h.N f r;have c:∀{j:Nat},j<l.w.heap.size->w'.heap[j]?=u.heap[j]?:=λ{j} q=>i j Z;refine⟨b.O,b.h,b.Y,b.I,b.c,b.K,b.q,b.d,λj q=> ?_,?_,λj q=>(c<|s.fu j q).trans<|b.r j q,λa q n=>(gJ<|c<|s.I a q).trans<|b.e a q n,λa q=>(wq<|c<|s.I a q).trans<|b.S a q,λa q z=> ?_,λa q z=> ?_⟩
 .show j<w'.heap.size;rw[g];exact b.fu j q
 .show l.w.heap.size<=w'.heap.size;rw[g];exact b.f
 .show(w'.cell? a).isSome=Ò;rw[gJ<|c (s.S a q).2.1];exact b.b a q z
 .show(w'.cell? a).isSome=Ò;rw[gJ<|c<|s.I a<|Ã<|f a q];exact b.g a q z
end
def sx(t:Array Ï)(h:t.size=n):∃u:Nat->Ï,t=((ã n).map u).toArray:=by subst h;refine⟨λi=>t.getD i Å,Array.ext fp λi a _=> ?_⟩;simp_all
def Qy(t:Array Ï)(h:t.size=37):∃a b c d e f g i j k l m n o p q r s u v w x y z B C D E F G H I J K L M N:Ï,t=#[a,b,c,d,e,f,g,i,j,k,l,m,n,o,p,q,r,s,u,v,w,x,y,z,B,C,D,E,F,G,H,I,J,K,L,M,N]:=by obtain⟨_,rfl⟩:=sx t h;exact⟨_,_,_,_,_,_,_,_,_,_,_,_,_,_,_,_,_,_,_,_,_,_,_,_,_,_,_,_,_,_,_,_,_,_,_,_,_,U⟩
end Go.Proofs.Y.fA
namespace Go.Proofs.Y.fA
open Go Go.Conc Go.Proofs.Y.Lift Go.RowKit Go.Conc.Lib Go.ConcR.Gen
section
variable{Ψ:ß->Prop}{L:WgLink}{l:fc}{e:Jd}{k:List ŷ}
def Qz(Ψ:ß->Prop)(l:fc)(b:Nat)(w:ß):Prop:=SW Ψ l b w/\fG l l.w w
def pb(a:lQ Ψ l b)(h:Qz Ψ l b w)(r:fG l w u):Qz Ψ l b u:=⟨fI h.1<|a.r r,h.2.fg r⟩
def ahT{J:Jd}(a:SW Ψ l b l.w)(c:Goes P yQ (fG l) Go.ConcR.DC0 (λd e=>fi P yQ J {l with w:=e} d) n g l.w):fi P yQ J l g:= OQ c (λ_ _ r=>r) a.1 λ_ _ _ h=>h
def ahU(H:WgLib P L)(τ:fc->fc)(Φ:fc->Prop)(c:lQ Ψ l b)(z:SW Ψ l b l.w) (N:∀a,fG l l.w a->Φ {l with w:=a}/\(τ {l with w:=a}).d=0/\∃q:ß->Prop,lQ q (τ {l with w:=a}) b/\SW q (τ {l with w:=a}) b (τ {l with w:=a}).w/\ ∀j,SW q (τ {l with w:=a}) b j->fi P Ì e {τ {l with w:=a}with d:=0,w:=j} (G (f.at (y.put ((Q[i]?).bind (·.dst))<|ñ #[])<|Ñ Q jJ::k) qX)): fi P Ì (λl g=>Φ l/\ye P Ì b (fi P Ì e) (τ l) g) l (G ((base L.done).at ⟨#[À<|Â ⟨b,0,Á⟩,Å,Å,Å],[]⟩ [ö<|body_done L])<|f.at y (Ñ Q (i::jJ)::k)::qX):=by
 lib_facts;simp only[body_done,doneFn,Ń];have hF:Qz Ψ l b l.w:=⟨z,fG.fT _ _⟩;apply ahT z (n:=40);u_reg (pb c) hF;u_op (pb c) hF;u_call H.f_add (nm_add L) addFn (pb c) hF;u_c Ŝ (pb c) hF;u_cond Ò (pb c) hF;u_c Ŝ (pb c) hF;u_c Ŝ (pb c) hF;u_reg (pb c) hF;u_op (pb c) hF;u_op (pb c) hF;u_c stepG_region_end (pb c) hF;u_cond Ò (pb c) hF;u_reg (pb c) hF;u_op (pb c) hF;u_conv H.underlying_tWgP H.room_tWg (ng.r hF.1.2.1).choose_spec (pb c) hF;refine Ë λa g=> ?_;replace hF:=pb c hF g;clear g;refine .fB λj r=> ?_;let⟨O,B,q,h,C,D⟩:=N j<|hF.2.fg<|yu r;refine⟨O,B,U,_,λ_=>stepG_markAt .releaseMerge fp U U (by k_ne) U H.f_relMerge (x_relMerge_n L) (x_relMerge_b L) (x_relMerge_x L) (x_relMerge_f L) (by simp[ĥ,fM]),?_⟩;walk_nrm;show fi P Ì (NO P Ì b<|fi P Ì e) (τ {l with w:=j}) _;clear O r;generalize τ {l with w:=j}=l2 at h C B D|-;replace hF:=C;clear C c z N;apply jE h hF (n:=10);iterate 3 w_go fI
 refine Ë λa g=> ?_;replace hF:=fI hF g;clear g;refine vd (l:={l2 with w:=a}) h hF (Ã U) U (λ_=>stepG_mark0 .disable fp U U (by k_ne) U H.f_disable (x_disable_n L) (x_disable_b L) (x_disable_x L)<|x_disable_f L) λE hF=> ?_;walk_nrm;have W:į l2.d #[jR .disable]=1:=by rw[B];rfl
 rw[W];apply jE (l:={l2 with d:=1,w:=E}) h hF (n:=50);iterate 2 w_go fI
 u_defer fI hF
 iterate 8 w_go fI
 u_bub fI hF
 iterate 11 w_go fI
 u_call H.f_uAdd (nm_uAdd L) uAddFn fI hF
 iterate 10 w_go fI
 refine Ë λa g=> ?_;replace hF:=fI hF g;clear g;refine nN (l:={l2 with d:=1,w:=a}) h hF λj hF=>⟨U,U,λv=>⟨_,λa p F=>(stepG_add_atomic U U (by k_ne) U H.f_addU64 (x_addU64_n L) (x_addU64_b L) (x_addU64_x L) ê (x_addU64_f L) U U p F).trans fO,?_⟩⟩;walk_nrm;have S:ê.wrap (v+18446744069414584320)=ê.wrap (v+qt):=rfl;rw[S];clear S;obtain⟨s,I⟩:∃s,ê.wrap (v+qt)=s:=⟨_,U⟩;simp only[I];have J:0<=s:=by rw[<-I];have:ê.wrap (v+qt)=(v+qt)%18446744073709551616:=rfl;rw[this];omega
 clear I v;by_cases o:s=0\/(fX<=s/\s<1000000*fX/\s%fX<1000000)
 .rw[if_pos o];by_cases m:s=0;focus
   subst m;clear o J
  rotate_left;focus
   have X:=o.resolve_left m;clear o m J;let⟨Y,c5,c6⟩:=X;have q4:(4294967296:Int)<=s:=Y;have K:s<1000000*4294967296:=c5;have T:s%4294967296<1000000:=c6;have f1:=C0 s Z K T;have t:=C3 s Z K T;obtain⟨u,g1⟩:∃u,(s/4294967296+2147483648)%4294967296-2147483648=u:=⟨_,U⟩;have g2:¬u<0:=Z
   have g3:0<u:=Z
   by_cases M:s%4294967296=0;focus rw[M]at t
   rotate_left;focus
    obtain⟨x,g4⟩:∃x,s%4294967296=x:=⟨_,U⟩;rw[g4]at t M;have V:x%4294967296=x:=Z
    have g6:(x !=0)=Ò:=by simpa using M
  all_goals
   apply jE (l:={l2 with d:=1,w:=j}) h hF (n:=150);iterate 3 w_go fI
   u_leave1 H.f_uAdd fI hF
   iterate 83 w_go fI
   refine Ë λa g=> ?_;replace hF:=fI hF g;clear g;refine vd (l:={l2 with d:=1,w:=a}) h hF (Ç U) U (λw=>JG .enable fp U H.f_enable (x_enable_n L) (x_enable_b L) (x_enable_x L) (x_enable_f L) w) λE hF=> ?_;have u:į 1 #[jR .enable]=0:=rfl;rw[u];apply jE (l:={l2 with d:=0,w:=E}) h hF (n:=10);u_leave0 H.f_add fI hF;iterate 2 w_go fI
   u_leave0 H.f_done fI hF
   refine Ë λa g=> ?_;replace hF:=fI hF g;clear g;exact D _ hF
 .rw[if_neg o];by_cases m:0<s/\s<1000000
  .rw[if_pos m];let⟨q4,K⟩:=m;clear o J;have f1:=C0 s Z Z Z;have t:=C3 s Z Z Z;have g1:(s/4294967296+2147483648)%4294967296-2147483648=0:=Z
   have V:s%4294967296=s:=Z
   rw[V]at t;have g6:(s !=0)=Ò:=by simp;omega
   have X:(s==0)=Ì:=by simp;omega
   have M:(s.toNat:Int)=s:=Z
   apply jE (l:={l2 with d:=1,w:=j}) h hF (n:=150);iterate 3 w_go fI
   u_leave1 H.f_uAdd fI hF
   iterate 89 w_go fI
   u_call H.f_uLoad (nm_uLoad L) uLoadFn fI hF
   iterate 9 w_go fI
   refine Ë λa g=> ?_;replace hF:=fI hF g;clear g;refine nN (l:={l2 with d:=1,w:=a}) h hF λj hF=>⟨U,U,λv=>⟨_,λa p=>stepG_load_atomic U U (by k_ne) U H.f_loadU64 (x_loadU64_n L) (x_loadU64_b L) (x_loadU64_x L) ê (x_loadU64_f L) U p,?_⟩⟩;show fi P Ì (if v=(s.toNat:Int)then Jb P Ì b (fi P Ì e) s.toNat else λ_ _=>True) _ _;by_cases u:v=(s.toNat:Int)
   .rw[if_pos u];rw[M]at u;subst u;walk_nrm;have Y:(v !=v)=Ì:=fp
    apply jE (l:={l2 with d:=1,w:=j}) h hF (n:=150);iterate 3 w_go fI
    u_leave1 H.f_uLoad fI hF
    iterate 10 w_go fI
    u_call H.f_uStore (nm_uStore L) uStoreFn fI hF
    iterate 5 w_go fI
    refine Ë λa g=> ?_;replace hF:=fI hF g;clear g;refine nN (l:={l2 with d:=1,w:=a}) h hF λj hF=>⟨U,U,_,λa x p F=>stepG_store_atomic U U (by k_ne) U H.f_storeU64 (x_storeU64_n L) (x_storeU64_b L) (x_storeU64_x L) (x_storeU64_f L) U U p F,?_⟩;walk_nrm;obtain⟨r,T⟩:∃r,v.toNat=r+1:=⟨v.toNat-1,Z⟩;rw[T];apply jE (l:={l2 with d:=1,w:=j}) h hF (n:=150);iterate 2 w_go fI
    u_leave0 H.f_uStore fI hF
    iterate 24 w_go fI
    refine Ë λa g=> ?_;replace hF:=fI hF g;clear g;apply ahr H h D r v<;>first|exact hF|omega
   .rw[if_neg u];exact .fB λ_ _=>trivial
  .rw[if_neg m];trivial
end
end Go.Proofs.Y.fA
namespace Go.Proofs.Y.fA
open Go Go.Conc Go.Proofs.Y.Lift Go.RowKit Go.Conc.Lib Go.ConcR.Gen
open Go.Proofs Go.Proofs.YtgpphkdoanciiaaGreatDoor
noncomputable def JY:Ę:=kQ Ι [1,0,0]
noncomputable def yD (t:Array Ï) (a:List é):Ý:=G ((base 49).at ⟨t,[]⟩ [ö JY,ą JY,ô 0]) a
structure AY(an N:Nat)(ib:Option â)(m c kk:Nat)(t:Array Ï):Prop where
 r:t.size=37
 t1:t[1]?=Â (Æ (Â ⟨an,0,Á⟩) N N)
 t6:t[6]?=Â (Æ ib m c)
 C:t[7]?=Â (Ê Î m)
 I:t[8]?=Â (Ê Î kk)
theorem AZ{x:Int}(a:0<=x)(b:x<1000000):Î.wrap x=x:=by rw[Γ];omega
section
variable{f:Jd}{l:fc}{t:Array Ï}{an N ib c kk:Nat}{Q:Ï->ByteArray->fc->Prop}{τ:fc->fc}{Φ:fc->Prop}
def ahV(D:gw l)(V:¬l.q)(hd:l.d=0)(W:AY an N (Â ⟨ib,0,Á⟩) m c kk t)(hkk:kk<m)(hm:m<1000)(hN:N<1000000)(tg:j<N)(yE:l.M ib) (i0:l.w.cell? ⟨ib,kk*4,Á⟩=Â (À O)) (i1:l.w.cell? ⟨ib,kk*4+1,Á⟩=Â (Ê Î j)) (i2:l.w.cell? ⟨ib,kk*4+2,Á⟩=Â (À<|Â ⟨i,0,Á⟩)) (i3:l.w.cell? ⟨ib,kk*4+3,Á⟩=Â (À<|Â ⟨n,0,Á⟩)) (tW:l.N ⟨i,2,Á⟩) (pJ:l.w.cell? ⟨i,2,Á⟩=Â v) (o1:l.r ⟨n,2,Á⟩) (o2:l.r ⟨an,j,Á⟩) (e1:(l.w.cell? ⟨n,2,Á⟩).isSome=Ò) (e2:(l.w.cell? ⟨an,j,Á⟩).isSome=Ò) (z1:l.w.frozen? ⟨n,2,Á⟩=Ì) (z2:l.w.frozen? ⟨an,j,Á⟩=Ì) (kO:(⟨n,2,Á⟩:â)≠⟨an,j,Á⟩) (tC:∀u,iD (λa=>a=⟨n,2,Á⟩\/a=⟨an,j,Á⟩) l u->∀cl lF,fi Ä Ì (λl'' g'=>l''.d=u.d/\∃p k c str,g'=G (cl.finish<|ñ #[Æ p k c,à str]) lF/\Q (Æ p k c) str l'') (lR u)<|G (Ă Ä 66 #[v,À O] Ğ)<|cl::lF) (Ac:∀u (x:(Option Addr×Nat×Nat)×ByteArray),iD (λa=>a=⟨n,2,Á⟩\/a=⟨an,j,Á⟩) l u->(∃y,Q (Æ x.1.1 x.1.2.1 x.1.2.2) x.2 y/\(∀b,y.M b->u.M b/\u.w.heap[b]?=y.w.heap[b]?))->u.w.cell? ⟨n,2,Á⟩=Â (Æ x.1.1 x.1.2.1 x.1.2.2)->u.w.cell? ⟨an,j,Á⟩=Â (à x.2)-> lQ (λ_=>True) u n/\SW (λ_=>True) u n u.w/\Φ u/\(τ u).d=0/\∃E:ß->Prop,lQ E (τ u) n/\SW E (τ u) n (τ u).w/\∀s X,SW E (τ u) n s->AY an N (Â ⟨ib,0,Á⟩) m c (kk+1) X->fi Ä Ì f {τ u with d:=0,w:=s} (yD X qX)): fi Ä Ì (λl g=>Φ l/\ye Ä Ì n (fi Ä Ì f) (τ l) g) l (yD t qX):=by
 obtain⟨y0,y1,Y,y3,y4,y5,y6,y7,y8,y9,wN,yF,wO,rp,sy,qy,vh,vi,tX,tY,tZ,sB,sC,sD,rf,sk,rh,o5,n7,pO,pP,pQ,tK,sr,su,ri,rj,rfl⟩:=Qy t W.r;obtain rfl:y1=Æ (Â ⟨an,0,Á⟩) N N:=by simpa using W.t1
 obtain rfl:y6=Æ (Â ⟨ib,0,Á⟩) m c:=by simpa using W.t6
 obtain rfl:y7=Ê Î m:=by simpa using W.C
 obtain rfl:y8=Ê Î kk:=by simpa using W.I
 have ru:∀y:â,(y=⟨n,2,Á⟩\/y=⟨an,j,Á⟩)->l.r y:=λy ha=>by rcases ha with rfl|rfl;exact o1;exact o2
 have asQ:(kk:Int)<(m:Int):=Z
 simp only[yD];conv in JY=>whnf
 refine fW (n:=30) D.r ?_;have hF:True:=trivial;repeat w_go fw
 refine Ë λ_ _=> ?_;have B:∀g,gX l ⟨ib,g,Á⟩:=λg=>Ã yE;refine nP (v:=Đ #[À O,Ê Î j,À<|Â ⟨i,0,Á⟩,À<|Â ⟨n,0,Á⟩]) U U (by k_ne) D.r V (λo r=> ?_) (λo r e F=> ?_) ?_
 .have J:=((B<|kk*4).r r).trans i0;have K:=((B<|kk*4+1).r r).trans i1;have L:=((B<|kk*4+2).r r).trans i2;have P:=((B<|kk*4+3).r r).trans i3;go_simp
 .have J:=((B<|kk*4).r r).trans i0;have K:=((B<|kk*4+1).r r).trans i1;have L:=((B<|kk*4+2).r r).trans i2;have P:=((B<|kk*4+3).r r).trans i3;simp[go_sem,J,K,L,P]at F;rcases F with rfl|rfl|rfl|rfl
  .exact(B _).C
  .exact(B _).C
  .exact(B _).C
  .exact(B _).C
 walk_nrm;refine Gb (ob:=É #[À Á,Ê Î 0,À Á,À Á] 155) U U (by k_ne) D.r V (λw=>by go_simp) (λw=>by simp[go_sem]) λo oE=> ?_;walk_nrm;have ua:iD (λa=>a=⟨n,2,Á⟩\/a=⟨an,j,Á⟩) l (gF l o<|É #[À Á,Ê Î 0,À Á,À Á] 155):=JV D ru oE;have ni:(gF l o<|É #[À Á,Ê Î 0,À Á,À Á] 155).w.heap[o.heap.size]?=Â (É #[À Á,Ê Î 0,À Á,À Á] 155):=mL;have sE:l.w.heap.size<=o.heap.size:=oE.r;have I:(gF l o<|É #[À Á,Ê Î 0,À Á,À Á] 155).O o.heap.size:=Ç U;generalize gF l o (É #[À Á,Ê Î 0,À Á,À Á] 155)=l₁ at ua ni I|-;generalize o.heap.size=tb at ni I sE|-;refine ve U U (by k_ne) λs nQ=> ?_;have S:s.heap[tb]?=_:=(nQ.I tb<|Ã I).trans ni;have J:s.cell? ⟨tb,0,Á⟩=Â (À Á):=by simp[Ö,S]
 have K:s.cell? ⟨tb,1,Á⟩=Â (Ê Î 0):=by simp[Ö,S]
 have L:s.cell? ⟨tb,2,Á⟩=Â (À Á):=by simp[Ö,S]
 have P:s.cell? ⟨tb,3,Á⟩=Â (À Á):=by simp[Ö,S]
 have hz:∀g,s.frozen? ⟨tb,g,Á⟩=Ì:=λg=>by simp[î,S]
 go_simp;refine⟨{l₁ with w:=iT s tb (À O) (Ê Î j) (À<|Â ⟨i,0,Á⟩) (À<|Â ⟨n,0,Á⟩)},JX (p:=tb) (mr ua.fu nQ) (by rwa[ua.q]) I wM (λg H=>yC H) ⟨U,U,U⟩ λe F=> ?_,?_⟩
 .have h:=đ F;have e:∀g,pT l₁ ⟨tb,g,Á⟩:=λg=>Ã I;simp[go_sem,á _ _ _ _ _ _ (show Ø (À O)=Ò from rfl),á _ _ _ _ _ _ (show Ø (À<|Â ⟨i,0,Á⟩)=Ò from rfl),á _ _ _ _ _ _ (show Ø (À<|Â ⟨n,0,Á⟩)=Ò from rfl),J,K,L,P,hz]at h;rcases h with rfl|rfl|rfl|rfl
  .exact(e _).r
  .exact(e _).r
  .exact(e _).r
  .exact(e _).r
 let⟨c0,c1,c2,c3⟩:=Qw (v0:=À O) (v1:=Ê Î j) (v2:=À<|Â ⟨i,0,Á⟩) (v3:=À<|Â ⟨n,0,Á⟩) J K L P;have C:=Qx (w':=iT s tb (À O) (Ê Î j) (À<|Â ⟨i,0,Á⟩)<|À<|Â ⟨n,0,Á⟩) D ru ua nQ sE wM λg H=>yC H;have A0:({l₁ with w:=iT s tb (À O) (Ê Î j) (À<|Â ⟨i,0,Á⟩) (À<|Â ⟨n,0,Á⟩)}:fc).O tb:=I;replace c0:({l₁ with w:=iT s tb (À O) (Ê Î j) (À<|Â ⟨i,0,Á⟩) (À<|Â ⟨n,0,Á⟩)}:fc).w.cell? ⟨tb,0,Á⟩=_:=c0;replace c1:({l₁ with w:=iT s tb (À O) (Ê Î j) (À<|Â ⟨i,0,Á⟩) (À<|Â ⟨n,0,Á⟩)}:fc).w.cell? ⟨tb,1,Á⟩=_:=c1;replace c2:({l₁ with w:=iT s tb (À O) (Ê Î j) (À<|Â ⟨i,0,Á⟩) (À<|Â ⟨n,0,Á⟩)}:fc).w.cell? ⟨tb,2,Á⟩=_:=c2;replace c3:({l₁ with w:=iT s tb (À O) (Ê Î j) (À<|Â ⟨i,0,Á⟩) (À<|Â ⟨n,0,Á⟩)}:fc).w.cell? ⟨tb,3,Á⟩=_:=c3;generalize({l₁ with w:=iT s tb (À O) (Ê Î j) (À<|Â ⟨i,0,Á⟩) (À<|Â ⟨n,0,Á⟩)}:fc)=l₂ at c0 c1 c2 c3 C A0|-;clear ni I ua S J K L P hz nQ s l₁ oE o;have rv:=C.G D;have pV:¬l₂.q:=by rwa[C.q]
 have ahW:l₂.N ⟨i,2,Á⟩:=by rwa[C.c]
 have nE:¬((⟨i,2,Á⟩:â)=⟨n,2,Á⟩\/(⟨i,2,Á⟩:â)=⟨an,j,Á⟩):=λq=>by
  rcases q with q|q
  .exact D.Y _ o1<|q▸tW
  .exact D.Y _ o2<|q▸tW
 have ahX:l₂.w.cell? ⟨i,2,Á⟩=Â v:=(C.e _ (Ç tW) nE).trans pJ;have QA:∀y:â,(y=⟨n,2,Á⟩\/y=⟨an,j,Á⟩)->l₂.r y:=λy hy=>by rw[C.I];exact ru y hy
 refine fW (n:=5) rv.r ?_;iterate 2 w_go fw
 refine Ë λ_ _=> ?_;refine Qk (II yA #[y0,Æ (Â ⟨an,0,Á⟩) N N,Y,y3,y4,À<|Â ⟨tb,0,Á⟩,Æ (Â ⟨ib,0,Á⟩) m c,Ê Î m,Ê Î kk,ŝ Ò,À<|Â ⟨ib,kk*4,Á⟩,Đ #[À O,Ê Î j,À<|Â ⟨i,0,Á⟩,À<|Â ⟨n,0,Á⟩],wO,rp,sy,qy,vh,vi,tX,tY,tZ,sB,sC,sD,rf,sk,rh,o5,n7,pO,pP,pQ,tK,sr,su,ri,rj] (mK tb i n an N j (À O) v)<|Dg l₂ i n an j v Q) rv.r pV (λh H=> ?_) (λmd listed a l e z hI F=>ahQ rv pV U U U A0 c0 c1 c2 c3 ahW ahX (QA _<|Ã U) (QA _<|Ç U) (C.g _ (Ã U) e1) (C.g _ (Ç U) e2) ((C.S _<|Ã o1).trans z1) ((C.S _<|Ã o2).trans z2) tg hN kO (λu h=>tC u<|C.fg h) md listed a l e z hI F) λmd listed a z hI jS yH=> ?_
 .refine⟨((Á,0,0),ByteArray.empty),mJ.G _ _ _,(iD.fT rv.r).N QA ⟨H.r,H.I,H.N,H.Y,H.S⟩,λq=> ?_,λq=> ?_,λq=> ?_⟩<;>exact absurd q A
 let⟨x,H,T⟩:=hI;have pW:∀e∈ã 21,listed.getD e Ì=Ò:=by
  cases md
  .exact pU yH jS (ã 21) [] fO λe F=>by cases F
  .exact λe F=>pU yH jS [0,1,5,6,7,8,9,10,11,12,13,14,16,17,18,2,3,4,15,19,20] [] fO (λe F=>by cases F) e (by have:=Ē.1 F;revert e;decide)
  .exact pU yH jS (ã 21) [] fO λe F=>by cases F
 have Gc:=C.fg T.r;have Gd:=Gc.G D;have wP:¬z.q:=by rwa[Gc.q]
 let⟨F,ds⟩:=a;obtain rfl:ds=[]:=H.M;have b1:F[1]?=Â (Æ (Â ⟨an,0,Á⟩) N N):=H.C (d:=1) A;have b5:F[5]?=Â (À<|Â ⟨tb,0,Á⟩):=H.C (d:=5) A;have b6:F[6]?=Â (Æ (Â ⟨ib,0,Á⟩) m c):=H.C (d:=6) A;have b7:F[7]?=Â (Ê Î m):=H.C (d:=7) A;have b8:F[8]?=Â (Ê Î kk):=H.C (d:=8) A;obtain⟨x0,x1,x2,x3,x4,x5,x6,x7,x8,x9,Yc,x11,x12,x13,x14,x15,x16,x17,x18,x19,x20,x21,x22,x23,x24,x25,x26,x27,x28,x29,x30,x31,x32,x33,x34,x35,x36,rfl⟩:=Qy F H.S;obtain rfl:x1=Æ (Â ⟨an,0,Á⟩) N N:=by simpa using b1
 obtain rfl:x5=À (Â ⟨tb,0,Á⟩):=by simpa using b5
 obtain rfl:x6=Æ (Â ⟨ib,0,Á⟩) m c:=by simpa using b6
 obtain rfl:x7=Ê Î m:=by simpa using b7
 obtain rfl:x8=Ê Î kk:=by simpa using b8
 have ahY:=T.vg<|pW 12 A;have ahZ:=T.I<|pW 18 A;have ah0:=T.N<|pW 20 A;have d3:z.w.cell? ⟨tb,3,Á⟩=Â (À<|Â ⟨n,0,Á⟩):=(gJ<|T.r.r tb<|Ã A0).trans c3;have s3:gX z ⟨tb,3,Á⟩:=Ã<|Ã<|T.r.O tb A0;clear H pW b1 b5 b6 b7 b8;refine fW (n:=9) Gd.r ?_;iterate 3 w_go fw
 refine Ë λ_ _=> ?_;refine nh (x:=⟨tb,3,Á⟩) U U (by k_ne) Gd.r wP s3 d3 (λw h=>by go_simp) (λw h=>by simp[go_sem,h]) ?_;walk_nrm;refine fW (n:=9) Gd.r ?_;iterate 2 w_go fw
 u_call qx.f_done (nm_done Lk) doneFn fw hF
 refine Ë λ_ _=> ?_;have wR:∀o,fG z z.w o->lQ (λ_=>True) {z with w:=o} n/\SW (λ_=>True) {z with w:=o} n o/\Φ {z with w:=o}/\(τ {z with w:=o}).d=0/\∃E:ß->Prop,lQ E (τ {z with w:=o}) n/\SW E (τ {z with w:=o}) n (τ {z with w:=o}).w/\∀s X,SW E (τ {z with w:=o}) n s->AY an N (Â ⟨ib,0,Á⟩) m c (kk+1) X->fi Ä Ì f {τ {z with w:=o}with d:=0,w:=s} (yD X qX):=λo r=>by
  refine Ac {z with w:=o} x (Gc.N ru r) ?_ ?_ ?_
  .let⟨y,y1,Y⟩:=ahY;exact⟨y,y1,λb h=>⟨(Y b h).1,(r.I b (Y b h).1).trans (Y b h).2⟩⟩
  .exact(r.N _<|Ã<|by rwa[Gc.I]).trans ahZ
  .exact(r.N _<|Ã<|by rwa[Gc.I]).trans ah0
 let⟨k1,k2,_⟩:=wR z.w<|fG.fT _ _;refine ahU qx τ Φ k1 k2 λo r=> ?_;let⟨_,_,f1,f4,E,f2,f3,f5⟩:=wR o r;refine⟨f1,f4,E,f2,f3,λs h=> ?_⟩;walk_nrm;refine fW (n:=30) h.1 ?_;iterate 7 w_go fw
 refine Ë λ_ _=> ?_;refine f5 s _ h ⟨U,U,U,U,?_⟩;simp;exact AZ Z Z
end
def ah1:Array å:=#[⟨Â 2,ć 85<|Ù 0,85, "work.go:24",#[],Á⟩,
 ⟨Â 3,ć 25<|Ù 1,25, "work.go:24",#[],Á⟩,
 ⟨Â 4,Ě {callee:=ĕ (ĸ 49),args:=#[Ù 2,Ù 3],argTypes:=#[85,25]},0, "work.go:24",#[⟨0,Ü⟩,⟨1,Ü⟩],Á⟩]
def yI(a:Nat)(b c d e:Ï):é:=(baseD 63).at ⟨#[À<|Â ⟨a,0,Á⟩,b,c,d,e],[o6 64 #[À<|Â ⟨a,0,Á⟩] #[]]⟩ [Ñ X8 [1]]
def vj(a b c d e:Ï):é:=(base 48).at ⟨#[a,b,c,d,e],[]⟩ [Ñ ah1 [2]]
section
variable{Ψ:ß->Prop}{J:Jd}{l:fc}{a e f o p:Ï}
def ah2(c:kg l)(g:¬l.q)(k:gX l ⟨j9,0,Á⟩)(r:gX l ⟨j7,0,Á⟩)(s:gX l ⟨b,0,Á⟩)(t:l.w.cell? ⟨j9,0,Á⟩=Â (Ĉ (ù 48) #[] #[À<|Â ⟨j7,0,Á⟩,À<|Â ⟨b,0,Á⟩]))(u:l.w.cell? ⟨j7,0,Á⟩=Â (Æ O m n))(y:l.w.cell? ⟨b,0,Á⟩=Â (Æ (Â ⟨j,0,Á⟩) i i)) (B:∀d a e f o v x z jQ p,AY j i O m n 0 d->fi Ä Ì J l (yD d [vj v x z jQ p,yI j6 a e f o,nO Ä])): fi Ä Ì J l (born Ä<|o6 63 #[À<|Â ⟨j6,0,Á⟩,À<|Â ⟨j9,0,Á⟩] #[]):=by
 apply fW (n:=30) c;have hF:=trivial;u_c (XZ Ů fO U) fw hF;walk_nrmf Κ;iterate 3 w_go fw
 u_c (XX U U (by k_ne) U U) fw hF
 walk_nrm;repeat w_go fw
 refine Ë λ_ _=> ?_;apply nh U U (by k_ne) c g k t (λw h=>by go_simp) (λw h=>by simp[go_sem,h]);walk_nrm;apply fW (n:=30) c;u_c (XY U U (by k_ne) U U ů fO U) fw hF;walk_nrmf Tryz.f48;w_go fw;refine Ë λ_ _=> ?_;apply nh U U (by k_ne) c g r u (λw h=>by go_simp) (λw h=>by simp[go_sem,h]);walk_nrm;apply nh U U (by k_ne) c g s y (λw h=>by go_simp) (λw h=>by simp[go_sem,h]);walk_nrm;apply fW (n:=30) c;u_call Ű fO Ι fw hF;iterate 8 w_go fw
 refine Ë λ_ _=> ?_;exact B _ _ _ _ _ _ _ _ _ _ ⟨U,U,U,U,U⟩
def ah3(b:AY j i O m n m d)(h:l.K ⟨k,0,Á⟩/\l.K ⟨k,1,Á⟩)(r:lQ Ψ l k)(c:SW Ψ l k l.w)(s:l.d=0)(t:¬l.q)(u:gX l ⟨j6,0,Á⟩)(y:l.w.cell? ⟨j6,0,Á⟩=Â (À<|Â ⟨k,0,Á⟩)): fi Ä Ì (λl g=>ye Ä Ì k (C4 Ä) (ku l) g) l (yD d [vj v x z jQ p,yI j6 a e f o,nO Ä]):=by
 obtain⟨C,D,E,F,G,H,I,g,B,J,L,M,N,P,Q,S,T,V,W,X,Y,sB,sC,sD,rf,sk,rh,o5,n7,pO,pP,pQ,tK,sr,su,ri,rj,rfl⟩:=Qy d b.r;obtain rfl:g=Ê Î m:=by simpa using b.C
 obtain rfl:B=Ê Î m:=by simpa using b.I
 have hmm:¬(m:Int)<(m:Int):=Z
 simp only[yD];conv in JY=>whnf
 apply fW (n:=40) c.1;have hF:=trivial;iterate 8 w_go fw
 u_leave0 Ű fw hF
 iterate 2 w_go fw
 u_leave0 ů fw hF
 refine Ë λ_ _=> ?_;exact X9 h r c s t u y
end
def Ge:å:=⟨Â 14,ę<|Ù 1,25, "work.go:65",#[],Á⟩
def Gf:å:=⟨Â 15,ð 155 (Ù 4) 1,0, "work.go:65",#[],Á⟩
def Dh:å:=⟨Â 16,ć 3<|Ù 15,3, "work.go:65",#[⟨1,Ü⟩],Á⟩
def Gi:å:=⟨Â 17,ð 155 (Ù 4) 2,0, "work.go:65",#[],Á⟩
def Di:å:=⟨Â 18,ć 86<|Ù 17,86, "work.go:65",#[⟨3,Ü⟩],Á⟩
def Dj:å:=⟨Â 19,ĩ<|Ù 18,0, "work.go:65",#[⟨4,Ü⟩],Á⟩
def Dk:å:=⟨Â 20,ð 105 (Ù 19) 1,0, "work.go:65",#[⟨5,Ü⟩],Á⟩
def Dl:å:=⟨Â 21,ć 65<|Ù 20,65, "work.go:65",#[⟨6,Ü⟩],Á⟩
def Gj:å:=⟨Â 22,ð 155 (Ù 4) 0,0, "work.go:65",#[],Á⟩
def Dm:å:=⟨Â 23,ć 148<|Ù 22,148, "work.go:65",#[⟨8,Ü⟩],Á⟩
def A1:å:=⟨Â 24,Ě {callee:=ĕ<|ĸ 67,args:=#[Ù 21,Ù 23],argTypes:=#[65,148]},9, "work.go:65",#[⟨7,Ü⟩,⟨9,Ü⟩],Á⟩
def A2:å:=⟨Â 25,ő 25 (Ù 14)<|Ù 16,0, "work.go:65",#[⟨0,Ü⟩,⟨2,Ü⟩,⟨0,Í⟩,⟨1,Í⟩,⟨2,Í⟩,⟨3,Í⟩,⟨4,Í⟩,⟨5,Í⟩,⟨6,Í⟩,⟨7,Í⟩,⟨8,Í⟩,⟨9,Í⟩,⟨10,Í⟩],Á⟩
def A3:å:=⟨Á,š 9 (Ù 25)<|Ù 24,0, "work.go:65",#[⟨11,Ü⟩,⟨10,Ü⟩,⟨10,Ţ⟩,⟨0,Í⟩,⟨1,Í⟩,⟨2,Í⟩,⟨3,Í⟩,⟨4,Í⟩,⟨5,Í⟩,⟨6,Í⟩,⟨7,Í⟩,⟨8,Í⟩,⟨9,Í⟩,⟨10,Í⟩],Á⟩
def vk:Array å:=#[Ge,Gf,Dh,Gi,Di,Dj,Dk,Dl,Gj,Dm,A1,A2,A3]
def qz(tb a b N c:Nat)(d e:Ï)(x:ByteArray):Nat->Ï
 |0=>Æ (Â ⟨b,0,Á⟩) N N
 |1=>À<|Â ⟨tb,1,Á⟩
 |2=>Ê Î c
 |3=>À<|Â ⟨tb,2,Á⟩
 |4=>À<|Â ⟨a,0,Á⟩
 |5=>À<|Â ⟨a,0,Á⟩
 |6=>À<|Â ⟨a,2,Á⟩
 |7=>e
 |8=>À<|Â ⟨tb,0,Á⟩
 |9=>d
 |10=>à x
 |11=>À<|Â ⟨b,c,Á⟩
 |_=>Å
structure Dn(im:fc)(an pl:Nat)(Q:ByteArray->Prop)(listed:Array Bool)(x:ByteArray)(l:fc):Prop where
 r:iD (λa=>a=⟨an,pl,Á⟩) im l
 vg:listed.getD 10 Ì=Ò->Q x
 I:listed.getD 12 Ì=Ò->l.w.cell? ⟨an,pl,Á⟩=Â (à x)
def Dn.C{b l:fc}{Q:ByteArray->Prop}{listed:Array Bool}{x:ByteArray}(h:Dn b n j Q listed x l)(e:i≠10)(f:i≠12)(c:b.r ⟨n,j,Á⟩)(d:ß)(r:fG l l.w d):Dn b n j Q (listed.setIfInBounds i Ò) x {l with w:=d}:=by
 refine⟨h.r.N (λa q=>by rwa[q]) r,λq=> ?_,λq=> ?_⟩
 .rw[ç Ì e]at q;exact h.vg q
 .rw[ç Ì f]at q;exact(r.N _<|by rw[h.r.C];exact Ã c).trans<|h.I q
section
variable{J:Jd}{im:fc}{an pl:Nat}{Q:ByteArray->Prop}
def ah4(W:gw im)(hq:¬im.q)(ht:d.size=26)(AW:d[1]?=Â (Æ (Â ⟨an,0,Á⟩) i i))(Gk:d[4]?=Â (À<|Â ⟨j,0,Á⟩))(hO:im.O j) (J:im.w.cell? ⟨j,0,Á⟩=Â v) (K:im.w.cell? ⟨j,1,Á⟩=Â (Ê Î pl)) (M:im.w.cell? ⟨j,2,Á⟩=Â (À<|Â ⟨n,0,Á⟩)) (X:im.N ⟨n,2,Á⟩) (pJ:im.w.cell? ⟨n,2,Á⟩=Â z) (B:im.r ⟨an,pl,Á⟩) (e2:(im.w.cell? ⟨an,pl,Á⟩).isSome=Ò) (z2:im.w.frozen? ⟨an,pl,Á⟩=Ì) (tg:pl<i) (QB:∀l,iD (λa=>a=⟨an,pl,Á⟩) im l->∀t lF,fi Ä Ì (λP S=>P.d=l.d/\∃T,S=G (t.finish<|à T) lF/\Q T) (lR l)<|G (Ă Ä 67 #[z,v] Ğ)<|t::lF) (md:ý) (listed:Array Bool) (a:ŏ) (l:fc) (b:Nat) (rest:List Nat) (hI:II vk d (qz j n an i pl v z) (Dn im an pl Q) listed a l) (p:b∈Û md vk listed): fi Ä Ì (λP S=>∃I,S=G ((base 51).at I<|Ñ vk rest::L) qX/\II vk d (qz j n an i pl v z) (Dn im an pl Q) (listed.setIfInBounds b Ò) I P) l (G ((base 51).at a<|Ñ vk (b::rest)::L) qX):=by
 let⟨x,m,s⟩:=hI;have E:tV vk d.size=Ò:=by rw[ht];decide
 have Yd:=Qm p;have gN:=C6 p;have F:=s.r.fu;have H:¬l.q:=by rwa[s.r.q]
 have V:∀y:â,y=⟨an,pl,Á⟩->im.r y:=λy ha=>by rwa[ha]
 have ni:a.tmps[1]?=Â (Æ (Â ⟨an,0,Á⟩) i i):=(m.C A).trans AW;have Y:a.tmps[4]?=Â (À<|Â ⟨j,0,Á⟩):=(m.C A).trans Gk;have t:∀c g,im.w.cell? ⟨j,c,Á⟩=Â g->gX l ⟨j,c,Á⟩/\l.w.cell? ⟨j,c,Á⟩=Â g:=λc g h=>⟨Ã<|Ã<|s.r.O j hO,by rwa[gJ<|s.r.r j<|Ã hO]⟩;have Qr:¬((⟨n,2,Á⟩:â)=⟨an,pl,Á⟩):=λq=>W.Y _ B<|q▸X;have N:gX l ⟨n,2,Á⟩/\l.w.cell? ⟨n,2,Á⟩=Â z:=⟨Ç (Ç<|by rwa[s.r.c]),by rwa[s.r.e _ (Ç X) Qr]⟩;have Qs:(pl:Int)<(i:Int):=Z
 have jS:vk.size=13:=A
 rw[jS]at gN;match b,gN with
 |0,_=>
  refine il (o:=Ge) E m U U p (by k_ne) F H (λk r=> ?_) (λk r e u=> ?_)<|s.C A A B
  .simp only[qz,Ge];go_simp
  .simp[go_sem,Ge,ni]at u
 |1,_=>
  refine il (o:=Gf) E m U U p (by k_ne) F H (λk r=> ?_) (λk r e u=> ?_)<|s.C A A B
  .simp only[qz,Gf];go_simp
  .simp[go_sem,Gf,Y]at u
 |2,_=>
  have Qu:a.tmps[15]?=Â (À<|Â ⟨j,1,Á⟩):=m.r 1 Gf 15 U (ij (o:=Dh) p U U) U;refine il (o:=Dh) E m U U p (by k_ne) F H (λk r=> ?_) (λk r e u=> ?_)<|s.C A A B
  .have D:k.cell? ⟨j,1,Á⟩=Â (Ê Î pl):=((t 1 _ K).1.r r).trans (t 1 _ K).2;simp only[qz,Dh];go_simp
  .have D:k.cell? ⟨j,1,Á⟩=Â (Ê Î pl):=((t 1 _ K).1.r r).trans (t 1 _ K).2;have I:e=⟨û ⟨j,1,Á⟩,Ì,Ì⟩:=by simp[go_sem,Dh,D,Qu]at u;exact u
   subst I;exact(t 1 _ K).1.C
 |3,_=>
  refine il (o:=Gi) E m U U p (by k_ne) F H (λk r=> ?_) (λk r e u=> ?_)<|s.C A A B
  .simp only[qz,Gi];go_simp
  .simp[go_sem,Gi,Y]at u
 |4,_=>
  have Qv:a.tmps[17]?=Â (À<|Â ⟨j,2,Á⟩):=m.r 3 Gi 17 U (ij (o:=Di) p U U) U;refine il (o:=Di) E m U U p (by k_ne) F H (λk r=> ?_) (λk r e u=> ?_)<|s.C A A B
  .have D:k.cell? ⟨j,2,Á⟩=Â (À<|Â ⟨n,0,Á⟩):=((t 2 _ M).1.r r).trans (t 2 _ M).2;simp only[qz,Di];go_simp
  .have D:k.cell? ⟨j,2,Á⟩=Â (À<|Â ⟨n,0,Á⟩):=((t 2 _ M).1.r r).trans (t 2 _ M).2;have I:e=⟨û ⟨j,2,Á⟩,Ì,Ì⟩:=by simp[go_sem,Di,D,Qv]at u;exact u
   subst I;exact(t 2 _ M).1.C
 |5,_=>
  have QC:a.tmps[18]?=Â (À<|Â ⟨n,0,Á⟩):=m.r 4 Di 18 U (ij (o:=Dj) p U U) U;refine il (o:=Dj) E m U U p (by k_ne) F H (λk r=> ?_) (λk r e u=> ?_)<|s.C A A B
  .simp only[qz,Dj];go_simp
  .simp[go_sem,Dj,QC]at u
 |6,_=>
  have h19:a.tmps[19]?=Â (À<|Â ⟨n,0,Á⟩):=m.r 5 Dj 19 U (ij (o:=Dk) p U U) U;refine il (o:=Dk) E m U U p (by k_ne) F H (λk r=> ?_) (λk r e u=> ?_)<|s.C A A B
  .simp only[qz,Dk];go_simp
  .simp[go_sem,Dk,h19]at u
 |7,_=>
  have JZ:a.tmps[20]?=Â (À<|Â ⟨n,2,Á⟩):=m.r 6 Dk 20 U (ij (o:=Dl) p U U) U;refine il (o:=Dl) E m U U p (by k_ne) F H (λk r=> ?_) (λk r e u=> ?_)<|s.C A A B
  .have D:k.cell? ⟨n,2,Á⟩=Â (z):=(N.1.r r).trans N.2;simp only[qz,Dl];go_simp
  .have D:k.cell? ⟨n,2,Á⟩=Â (z):=(N.1.r r).trans N.2;have I:e=⟨û ⟨n,2,Á⟩,Ì,Ì⟩:=by simp[go_sem,Dl,D,JZ]at u;exact u
   subst I;exact N.1.C
 |8,_=>
  refine il (o:=Gj) E m U U p (by k_ne) F H (λk r=> ?_) (λk r e u=> ?_)<|s.C A A B
  .simp only[qz,Gj];go_simp
  .simp[go_sem,Gj,Y]at u
 |9,_=>
  have F9:a.tmps[22]?=Â (À<|Â ⟨j,0,Á⟩):=m.r 8 Gj 22 U (ij (o:=Dm) p U U) U;refine il (o:=Dm) E m U U p (by k_ne) F H (λk r=> ?_) (λk r e u=> ?_)<|s.C A A B
  .have D:k.cell? ⟨j,0,Á⟩=Â (v):=((t 0 _ J).1.r r).trans (t 0 _ J).2;simp only[qz,Dm];go_simp
  .have D:k.cell? ⟨j,0,Á⟩=Â (v):=((t 0 _ J).1.r r).trans (t 0 _ J).2;have I:e=⟨û ⟨j,0,Á⟩,Ì,Ì⟩:=by simp[go_sem,Dm,D,F9]at u;exact u
   subst I;exact(t 0 _ J).1.C
 |10,_=>
  have QD:a.tmps[21]?=Â (z):=m.r 7 Dl 21 U (ij (o:=A1) p U U) U;have h23:a.tmps[23]?=Â (v):=m.r 9 Dm 23 U (ij (o:=A1) p U U) U;refine X7 (o:=A1) E m U U p (by k_ne) F (f:=67) (args:=#[z,v]) (λw=>by simp only[A1];go_simp) (λw=>ł (o:=A1) U Tryz.func67 U U #[]) λk r=> ?_;have I:=s.r.N V r;refine((QB _ I _ _).lR<|I.G W).fN ?_;rintro P S ⟨y,⟨hy0,T,rfl,hQ⟩,rfl,hA,Ya,ahR,ahS⟩;refine⟨T,U,⟨I.Qo V hA hy0,λ_=>hQ,λq=> ?_⟩,λc hj=> ?_⟩
  .rw[ç Ì A]at q;exact absurd (m.I (o:=A3) U q U)<|wL Yd
  .match c,hj with
   |10,hj=>exact absurd hj<|wL Yd
   |0,_|1,_|2,_|3,_|4,_|5,_|6,_|7,_|8,_|9,_|11,_|12,_|n+13,_=>rfl
 |11,_=>
  have I:a.tmps[14]?=Â (Æ (Â ⟨an,0,Á⟩) i i):=m.r 0 Ge 14 U (ij (o:=A2) p U U) U;have h16:a.tmps[16]?=Â (Ê Î pl):=m.r 2 Dh 16 U (ij (o:=A2) p U U) U;refine il (o:=A2) E m U U p (by k_ne) F H (λk r=> ?_) (λk r e u=> ?_)<|s.C A A B
  .simp only[qz,A2];go_simp
  .simp[go_sem,A2,tg,Qs,I,h16]at u
 |12,_=>
  have h25:a.tmps[25]?=Â (À<|Â ⟨an,pl,Á⟩):=m.r 11 A2 25 U (ij (o:=A3) p U U) U;have JS:a.tmps[24]?=Â (à x):=m.r 10 A1 24 U (ij (o:=A3) p U U) U;have I:(l.w.cell? ⟨an,pl,Á⟩).isSome=Ò:=s.r.g _ U e2;have AX:l.w.frozen? ⟨an,pl,Á⟩=Ì:=(s.r.S _<|Ã B).trans z2;have ly:pT l ⟨an,pl,Á⟩:=Ç (by rwa[s.r.I]);refine Qp (o:=A3) (y:=⟨an,pl,Á⟩) (v:=à x) E m U U U p (by k_ne) F H U ly I AX (λw D e=> ?_) (λw D e=> ?_) λk r=> ?_
  .let⟨u,hu⟩:=Ô.1 D;simp only[A3];go_simp
  .let⟨u,hu⟩:=Ô.1 D;simp[go_sem,A3,h25,JS,á _ _ _ _ _ _ (show Ø (à x)=Ò from rfl),hu,e]
  .have hA:=s.r.qj W V (x:=⟨an,pl,Á⟩) (v:=à x) U U I;refine⟨hA.N V ⟨r.r,r.I,r.N,r.Y,r.S⟩,λq=> ?_,λq=> ?_⟩
   .rw[ç Ì A]at q;exact s.vg q
   .exact(r.N _<|by rw[s.r.C];exact Ã B).trans<|Ag (Ô.1 I).choose_spec
 |n+13,h=>exact absurd h Z
end
def yJ:Array å:=#[⟨Â 6,.recv 165 (Ù 5) Ò,0, "work.go:63",#[],Á⟩,⟨Â 7,Ő (Ù 6) 1,4, "work.go:63",#[⟨0,Ü⟩],Á⟩]
def Ye:Array å:=#[⟨Â 8,Ő (Ù 6) 0,155, "work.go:63",#[],Á⟩,⟨Â 4,.alloc 155,0, "work.go:63",#[],Á⟩,⟨Á,š 155 (Ù 4)<|Ù 8,0, "work.go:63",#[⟨1,Ü⟩,⟨0,Ü⟩,⟨0,Í⟩,⟨1,Í⟩],Á⟩]
def QF:Array å:=#[⟨Â 9,ð 155 (Ù 4) 2,0, "work.go:64",#[],Á⟩,⟨Â 10,ć 86<|Ù 9,86, "work.go:64",#[⟨0,Ü⟩],Á⟩,⟨Â 11,ĩ<|Ù 10,0, "work.go:64",#[⟨1,Ü⟩],Á⟩,⟨Â 12,ð 105 (Ù 11) 0,0, "work.go:64",#[⟨2,Ü⟩],Á⟩,⟨Â 13,Ě {callee:=ĕ<|ĸ 53,args:=#[Ù 12],argTypes:=#[97]},0, "work.go:64",#[⟨3,Ü⟩],Á⟩]
def Dp:Ę:=((Ť (Ù 7) ť<|Ŧ 0).seq<|İ 1<|(ä 2 Ye Ì).seq<|(ä 3 QF Ì).seq<|ä 4 vk Ò)
def A4:Ę:=(ä 1 yJ Ì).seq Dp
def ah5:Array å:=#[⟨Â 2,ć 101<|Ù 0,101, "work.go:30",#[],Á⟩,
 ⟨Â 3,ć 25<|Ù 1,25, "work.go:30",#[],Á⟩,
 ⟨Â 4,Ě {callee:=ĕ (ĸ 51),args:=#[Ù 2,Ù 3],argTypes:=#[165,25]},0, "work.go:30",#[⟨0,Ü⟩,⟨1,Ü⟩],Á⟩]
def Gl(a b c d e:Ï):é:=(base 50).at ⟨#[a,b,c,d,e],[]⟩ [Ñ ah5 [2]]
def Yf(t:Array Ï)(a:List é):Ý:=G ((base 51).at ⟨t,[]⟩ [ö A4,ą A4,ô 0]) a
def yK(t:Array Ï)(a:List é):Ý:=G ((base 51).at ⟨t,[]⟩ [Ñ yJ [0,1],ö Dp,ą A4,ô 0]) a
def J0(t:Array Ï)(a:List é):Ý:=G ((base 51).at ⟨t,[]⟩ [Ñ QF [],ö<|ä 4 vk Ò,ô 1,ą A4,ô 0]) a
def QG(t:Array Ï)(a:List é):Ý:=G ((base 51).at ⟨t,[]⟩ [Ñ yJ [1],ö Dp,ą A4,ô 0]) a
def Yg(t:Array Ï)(v:Ï)(a:List é):({yK t a with frame:=(yK t a).frame.finish v}:Ý)=QG (t.setIfInBounds 6 v) a:=by have:(yK t a).frame.finish v=(base 51).at (Ο ⟨t,[]⟩ (Â 6) v) [Ñ yJ [1],ö Dp,ą A4,ô 0]:=Ģ _ _ _ _ _ _ _;rw[this];rfl
def zT:Ï:=Đ #[À Á,Ê Î 0,À Á,À Á]
structure QT(an N ch:Nat)(t:Array Ï):Prop where
 r:t.size=26
 C:t[1]?=Â (Æ (Â ⟨an,0,Á⟩) N N)
 I:t[5]?=Â (è<|Â ch)
def ah6(t:Array Ï)(h:t.size=26):∃a b c d e f g i j k l m n o p q r s u v w x y z B C:Ï,t=#[a,b,c,d,e,f,g,i,j,k,l,m,n,o,p,q,r,s,u,v,w,x,y,z,B,C]:=by obtain⟨_,rfl⟩:=sx t h;exact⟨_,_,_,_,_,_,_,_,_,_,_,_,_,_,_,_,_,_,_,_,_,_,_,_,_,_,U⟩
section
variable{Ψ:ß->Prop}{J u:Jd}{l:fc}{t:Array Ï}{ch an N:Nat}{a:Option â}{Q:ByteArray->Prop}{o p r s c f:Ï}{τ:fc->fc}
def Yh(a:kg l)(b:fi Ä Ì J l (yK t qX)):fi Ä Ì J l (Yf t qX):=by apply fW (n:=5) a;have hF:=trivial;simp only[Yf,A4];w_go fw;u_c ĺ fw hF;exact Ë λ_ _=>b
def ah7(a:kg l)(d:¬l.q)(e:gX l ⟨k,0,Á⟩)(g:gX l ⟨b,0,Á⟩)(i:gX l ⟨n,0,Á⟩)(j:l.w.cell? ⟨k,0,Á⟩=Â (Ĉ (ù 50) #[] #[À<|Â ⟨b,0,Á⟩,À<|Â ⟨n,0,Á⟩]))(u:l.w.cell? ⟨b,0,Á⟩=Â (è<|Â ch))(v:l.w.cell? ⟨n,0,Á⟩=Â (Æ (Â ⟨an,0,Á⟩) N N)) (y:∀t o p r s x z jQ c f,QT an N ch t->fi Ä Ì J l (yK t [Gl x z jQ c f,yI m o p r s,nO Ä])): fi Ä Ì J l (born Ä<|o6 63 #[À<|Â ⟨m,0,Á⟩,À<|Â ⟨k,0,Á⟩] #[]):=by
 apply fW (n:=30) a;have hF:=trivial;u_c (XZ Ů fO U) fw hF;walk_nrmf Κ;iterate 3 w_go fw
 u_c (XX U U (by k_ne) U U) fw hF
 walk_nrm;repeat w_go fw
 refine Ë λ_ _=> ?_;apply nh U U (by k_ne) a d e j (λw h=>by go_simp) (λw h=>by simp[go_sem,h]);walk_nrm;apply fW (n:=30) a;u_c (XY U U (by k_ne) U U ű fO U) fw hF;walk_nrmf Tryz.f50;w_go fw;refine Ë λ_ _=> ?_;apply nh U U (by k_ne) a d g u (λw h=>by go_simp) (λw h=>by simp[go_sem,h]);walk_nrm;apply nh U U (by k_ne) a d i v (λw h=>by go_simp) (λw h=>by simp[go_sem,h]);walk_nrm;apply fW (n:=30) a;u_call Ų fO Tryz.f51 fw hF;iterate 6 w_go fw
 refine Ë λ_ _=> ?_;exact Yh a<|y _ _ _ _ _ _ _ _ _ _ ⟨U,U,U⟩
def ah8{Y:Ï}(G:gw l)(M:¬l.q)(P:l.d=0)(hT:QT an N ch t)(hB:60<=i)(ah9:Y=Đ #[À a,Ê Î j7,À<|Â ⟨j9,0,Á⟩,À O])(Q:l.K ⟨j9,0,Á⟩/\l.K ⟨j9,1,Á⟩)(Gm:ng j9 l.w) (QH:l.K ⟨j,0,Á⟩/\l.K ⟨j,1,Á⟩) (hsa:ng j l.w) (hs:gX l ⟨m,0,Á⟩) (hc:l.w.cell? ⟨m,0,Á⟩=Â (À<|Â ⟨j,0,Á⟩)) (aia:∀H k t',iD ff l H->H.d=0->H.O k->H.w.cell? ⟨k,0,Á⟩=Â (À a)->H.w.cell? ⟨k,1,Á⟩=Â (Ê Î j7)->H.w.cell? ⟨k,2,Á⟩=Â (À<|Â ⟨j9,0,Á⟩)->QT an N ch t'->t'[4]?=Â (À<|Â ⟨k,0,Á⟩)->u H (J0 t' [Gl x z jQ c f,yI m o p r s,nO Ä])): wv Ä Ì ch zT (λb=>match b with
  |some v=>λl g=>v=Y->qu Ä Ì i j9 u .iX l g
  |none=>λl g=>ye Ä Ì j (C4 Ä) (ku l) g) l (yK t [Gl x z jQ c f,yI m o p r s,nO Ä]):=by
 obtain⟨y0,y1,y2,y3,y4,y5,y6,y7,y8,y9,wN,yF,wO,rp,sy,qy,vh,vi,tX,tY,tZ,sB,sC,sD,rf,sk,rfl⟩:=ah6 t hT.r;obtain rfl:y1=Æ (Â ⟨an,0,Á⟩) N N:=by simpa using hT.C
 obtain rfl:y5=è (Â ch):=by simpa using hT.I
 have hF:=trivial;refine⟨U,U,λD=> ?_,λb=> ?_⟩
 .refine(Ż (cases:=#[rcase ch zT]) (blocking:=Ò) (shape:=.recv Ò) (w':=D) rfl rfl (by k_ne) ?_).trans ?_
  .simp[go_sem,yJ,ĉ,rcase,zT]
  .simp[listed,go_sem,yJ,ĉ,Ī];rfl
 cases b with
 |none=>
  rw[Yg];simp only[QG,Dp,yJ,Option.getD_none,ı,ē,Ĳ,ĳ];apply fW (n:=30) G.r;iterate 6 w_go fw
  u_leave0 Ų fw hF
  iterate 2 w_go fw
  u_leave0 ű fw hF
  refine Ë λ_ _=> ?_;exact X9 (Ψ:=λ_=>True) QH ⟨Ã QH.1,Ã QH.2,λ_ _ _ _ _ _ _ _=>trivial⟩ ⟨G.r,hsa,trivial⟩ P M hs hc
 |some v=>
  by_cases hv:v=Y
  .subst hv;subst ah9;apply fi.fN λl g h _=>h;rw[Yg];simp only[QG,Dp,yJ,Ń,Option.isSome_some,ē,Ĳ,ĳ];apply fW (n:=30) G.r;iterate 7 w_go fw
   u_c ĺ fw hF
   simp only[Ye,Ļ,ń,ŋ,ś,č,ã,List.range.loop];w_go fw;refine Ë λ_ _=> ?_;have ru:∀y:â,False->l.r y:=λy ha=>ha.elim;refine Gb (ob:=É #[À Á,Ê Î 0,À Á,À Á] 155) U U (by k_ne) G.r M (λw=>by go_simp) (λw=>by simp[go_sem]) λD oE=> ?_;walk_nrm;have S:iD ff l (gF l D<|É #[À Á,Ê Î 0,À Á,À Á] 155):=JV G ru oE;have ni:(gF l D<|É #[À Á,Ê Î 0,À Á,À Á] 155).w.heap[D.heap.size]?=Â (É #[À Á,Ê Î 0,À Á,À Á] 155):=mL;have sE:=oE.r;have I:(gF l D<|É #[À Á,Ê Î 0,À Á,À Á] 155).O D.heap.size:=Ç U;generalize gF l D (É #[À Á,Ê Î 0,À Á,À Á] 155)=l₁ at S ni I|-;generalize D.heap.size=k at ni I sE|-;refine ve U U (by k_ne) λC nQ=> ?_;have J:=(nQ.I k<|Ã I).trans ni;have Dq:C.cell? ⟨k,0,Á⟩=Â (À Á):=by simp[Ö,J]
   have yy:C.cell? ⟨k,1,Á⟩=Â (Ê Î 0):=by simp[Ö,J]
   have qA:C.cell? ⟨k,2,Á⟩=Â (À Á):=by simp[Ö,J]
   have uf:C.cell? ⟨k,3,Á⟩=Â (À Á):=by simp[Ö,J]
   have hz:∀g,C.frozen? ⟨k,g,Á⟩=Ì:=λg=>by simp[î,J]
   go_simp;refine⟨{l₁ with w:=iT C k (À a) (Ê Î j7) (À<|Â ⟨j9,0,Á⟩) (À O)},JX (mr S.fu nQ) (by rwa[S.q]) I wM (λg F=>yC F) ⟨U,U,U⟩ λe L=> ?_,?_⟩
   .have E:=đ L;have B:∀g,pT l₁ ⟨k,g,Á⟩:=λg=>Ã I;simp[go_sem,á _ _ _ _ _ _ (show Ø (À a)=Ò from rfl),á _ _ _ _ _ _ (show Ø (À<|Â ⟨j9,0,Á⟩)=Ò from rfl),á _ _ _ _ _ _ (show Ø (À O)=Ò from rfl),Dq,yy,qA,uf,hz]at E;rcases E with rfl|rfl|rfl|rfl
    .exact(B _).r
    .exact(B _).r
    .exact(B _).r
    .exact(B _).r
   obtain⟨T,V,L,c3⟩:=Qw Dq yy qA uf;have E:=Qx (w':=iT C k (À a) (Ê Î j7) (À<|Â ⟨j9,0,Á⟩)<|À O) G ru S nQ sE wM λg F=>yC F;have W:({l₁ with w:=iT C k (À a) (Ê Î j7) (À<|Â ⟨j9,0,Á⟩) (À O)}:fc).O k:=I;replace T:({l₁ with w:=iT C k (À a) (Ê Î j7) (À<|Â ⟨j9,0,Á⟩) (À O)}:fc).w.cell? ⟨k,0,Á⟩=_:=T;replace V:({l₁ with w:=iT C k (À a) (Ê Î j7) (À<|Â ⟨j9,0,Á⟩) (À O)}:fc).w.cell? ⟨k,1,Á⟩=_:=V;replace L:({l₁ with w:=iT C k (À a) (Ê Î j7) (À<|Â ⟨j9,0,Á⟩) (À O)}:fc).w.cell? ⟨k,2,Á⟩=_:=L;generalize({l₁ with w:=iT C k (À a) (Ê Î j7) (À<|Â ⟨j9,0,Á⟩) (À O)}:fc)=l₂ at T V L E W|-;have X:=E.G G;have pV:¬l₂.q:=by rwa[E.q]
   apply fW (n:=9) X.r;iterate 2 w_go fw
   u_c ĺ fw hF
   simp only[QF,Ļ,ń,ŋ,ś,č,ã,List.range.loop];w_go fw;refine Ë λ_ _=> ?_;apply nh U U (by k_ne) X.r pV (Ã<|Ã W) L (λw h=>by go_simp) (λw h=>by simp[go_sem,h]);walk_nrm;apply fW (n:=9) X.r;iterate 2 w_go fw
   u_call qx.f_wait (nm_wait Lk) waitFn fw hF
   refine Ë λ_ _=> ?_;have k2:lQ (λw=>fG l₂ l₂.w w) l₂ j9:=⟨Ã (by rw[E.K];exact Q.1),Ã (by rw[E.K];exact Q.2),λw D h1 h2 h3 h4 h5 h=>h.fg ⟨h1,h2,h3,h4,h5⟩⟩;have s2:SW (λw=>fG l₂ l₂.w w) l₂ j9 l₂.w:=⟨X.r,⟨E.b _ Q.1 Gm.1,E.b _ Q.2 Gm.2⟩,fG.fT _ _⟩;refine XV qx hB k2 s2 (E.d.trans P) λD Yi=> ?_;walk_nrm;refine .fB λF1 F=> ?_;have B:=E.N ru<|Yi.2.2.fg ⟨F.r,F.I,F.N,F.Y,F.S⟩;have hdd:=E.d.trans P;have A5:iD ff l ({l₂ with d:=0,w:=F1}:fc):=⟨B.O,B.h,B.Y,B.I,B.c,B.K,B.q,P.symm,B.fu,B.f,B.r,B.e,B.S,B.b,B.g⟩;have rr:=Yi.2.2.fg ⟨F.r,F.I,F.N,F.Y,F.S⟩;have cc:∀g,F1.cell? ⟨k,g,Á⟩=l₂.w.cell? ⟨k,g,Á⟩:=λg=>gJ<|rr.I k<|Ã W;exact aia {l₂ with d:=0,w:=F1} k _ A5 U W ((cc 0).trans T) ((cc 1).trans V) ((cc 2).trans L) ⟨U,U,U⟩ U
  .exact .fB λ_ _ e=>absurd e hv
end
section
variable{J:Jd}{l:fc}{Q:ByteArray->Prop}
def aib(f:gw l)(C:¬l.q)(g:QT n i j d)(L:d[4]?=Â (À<|Â ⟨m,0,Á⟩))(M:l.O m) (N:l.w.cell? ⟨m,0,Á⟩=Â (À O)) (P:l.w.cell? ⟨m,1,Á⟩=Â (Ê Î k)) (S:l.w.cell? ⟨m,2,Á⟩=Â (À<|Â ⟨b,0,Á⟩)) (T:l.N ⟨b,2,Á⟩) (V:l.w.cell? ⟨b,2,Á⟩=Â v) (p:l.r ⟨n,k,Á⟩) (W:(l.w.cell? ⟨n,k,Á⟩).isSome=Ò) (X:l.w.frozen? ⟨n,k,Á⟩=Ì) (Y:k<i) (QB:∀e,iD (λa=>a=⟨n,k,Á⟩) l e->∀D E,fi Ä Ì (λl'' g'=>l''.d=e.d/\∃F,g'=G (D.finish<|à F) E/\Q F) (lR e)<|G (Ă Ä 67 #[v,À O] Ğ)<|D::E) (hJ:∀e x H,iD (λa=>a=⟨n,k,Á⟩) l e->Q x->e.w.cell? ⟨n,k,Á⟩=Â (à x)->QT n i j H->J e (yK H qX)): fi Ä Ì J l (J0 d qX):=by
 have I:∀y:â,y=⟨n,k,Á⟩->l.r y:=λy ha=>by rwa[ha]
 have hF:=trivial;apply fW (n:=3) f.r;simp only[J0];w_go fw;refine Ë λ_ _=> ?_;refine Qk (II vk d (qz m b n i k (À O) v)<|Dn l n k Q) f.r C (λo h=> ?_) (λs t a l c o u r=>ah4 f C g.r g.C L M N P S T V p W X Y QB s t a l c o u r) λs t a ko u z B=> ?_
 .refine⟨ByteArray.empty,mJ.G _ _ _,(iD.fT f.r).N I ⟨h.r,h.I,h.N,h.Y,h.S⟩,λq=> ?_,λq=> ?_⟩<;>exact absurd q A
 let⟨x,o,h⟩:=u;have K:∀c∈ã 13,t.getD c Ì=Ò:=by
  cases s
  .exact pU B z (ã 13) [] fO λc r=>by cases r
  .exact pU B z (ã 13) [] fO λc r=>by cases r
  .exact pU B z (ã 13) [] fO λc r=>by cases r
 have s:=h.r.G f;let⟨z,B⟩:=a;obtain rfl:B=[]:=o.M;apply fW (n:=9) s.r;iterate 3 w_go fw
 refine Ë λ_ _=> ?_;refine Yh s.r<|.fB λw₁ r=>(hJ {ko with w:=w₁} x z (h.r.N I r) (h.vg<|K 10 A) ((r.N _<|Ã<|by rwa[h.r.I]).trans<|h.I<|K 12 A) ⟨o.S.trans g.r,((o.C A).trans g.C),((o.C A).trans g.I)⟩)
end
structure gh(X:Nat->Prop)(l l':fc):Prop where
 O:∀j,l.O j->l'.O j
 c:∀j,l'.O j->l.O j\/l.w.heap.size<=j
 S:l'.I=l.I
 Y:l'.r=l.r
 b:l'.N=l.N
 K:l'.K=l.K
 q:l'.q=l.q
 d:l'.d=l.d
 fu:kg l'
 I:l.w.heap.size<=l'.w.heap.size
 r:∀j,l.M j->¬X j->l'.w.heap[j]?=l.w.heap[j]?
 f:∀a,l.C a->l'.w.cell? a=l.w.cell? a
 g:∀a,l.C a->l'.w.frozen? a=l.w.frozen? a
 e:∀a,l.K a->(l.w.cell? a).isSome=Ò->(l'.w.cell? a).isSome=Ò
section
variable{l l' l'':fc}
theorem gh.fT(h:kg l):gh X l l:=⟨λ_ h=>h,λ_ h=>Ã h,U,U,U,U,U,U,h,Ú _,λ_ _ _=>rfl,λ_ _=>rfl,λ_ _=>rfl,λ_ _ h=>h⟩
def gh.C(h:gh X l l'):l'.C=l.C:=by unfold fc.C;rw[h.Y,h.b]
def gh.M(h:gh X l l')(a:l.M b):l'.M b:=a.imp (h.O b)<|by rw[h.S];exact id
def gh.fg(h:gh X l l')(k:gh X l' l''):gh X l l'':=by have e:=h.C;exact⟨λj c=>k.O j<|h.O j c,λj c=>(k.c j c).elim (h.c j) λq=>Ç<|Õ h.I q,k.S.trans h.S,k.Y.trans h.Y,k.b.trans h.b,k.K.trans h.K,k.q.trans h.q,k.d.trans h.d,k.fu,Õ h.I k.I,λj c f=>(k.r j (h.M c) f).trans<|h.r j c f,λa b=>(k.f a<|by rwa[e]).trans<|h.f a b,λa b=>(k.g a<|by rwa[e]).trans<|h.g a b,λa b q=>k.e a (by rwa[h.K])<|h.e a b q⟩
def gh.G(h:gh X l l'){w₁:ß}(r:fG l' l'.w w₁):gh X l {l' with w:=w₁}:= h.fg ⟨λ_ q=>q,λ_ q=>Ã q,U,U,U,U,U,U,mr h.fu r,r.r,λj a _=>r.I j a,r.N,r.Y,r.S⟩
def gh.fN{a:Nat->Prop}(h:gh X l l')(c:∀j,l.M j->X j->a j):gh a l l':=⟨h.O,h.c,h.S,h.Y,h.b,h.K,h.q,h.d,h.fu,h.I,λj b e=>h.r j b λq=>e<|c j b q,h.f,h.g,h.e⟩
def gh.N(h:gh X l l')(s:gw l):gw l' where
 c b hb:=by
  rw[h.S];rcases h.c b hb with q|q
  .exact s.c b q
  .exact λz=>by have:=s.fu b<|Ç z;omega
 Y a ha:=by rw[h.b];exact s.Y a<|by rwa[<-h.Y]
 N a ha hb:=by
  rw[h.C]at ha;rcases hb with q|q
  .rcases h.c _ q with z|z
   .exact s.N a ha<|Ã z
   .have:=s.I a ha;omega
  .rw[h.S]at q;exact s.N a ha<|Ç q
 fu b hb:=by
  rcases hb with q|q
  .exact h.fu b q
  .rw[h.S]at q;exact È (s.fu b<|Ç q) h.I
 I a ha:=by rw[h.C]at ha;exact È (s.I a ha) h.I
 S a ha:=by
  rw[h.K]at ha;let⟨c,d,e⟩:=s.S a ha;refine⟨λq=> ?_,È d h.I,by rwa[h.Y]⟩;rcases q with q|q
  .rcases h.c _ q with z|z
   .exact c<|Ã z
   .omega
  .rw[h.S]at q;exact c<|Ç q
def mM{ob:Ÿ}(s:gw l){w₁:ß}(r:fG l l.w w₁):gh X l (gF l w₁ ob):=by have h:=JV (E:=ff) (ob:=ob) s (λ_ q=>q.elim) r;exact⟨h.O,h.h,h.Y,h.I,h.c,h.K,h.q,h.d,h.fu,h.f,λj b _=>h.r j b,λa c=>h.e a c id,h.S,h.b⟩
def J3{w':ß}{p:Nat}(s:gw l)(r:fG l l.w u)(c:l.O p)(g:X p)(d:w'.heap.size=u.heap.size)(b:∀j,j≠p->w'.heap[j]?=u.heap[j]?):gh X l {l with w:=w'}:=by
 have f:∀a:â,l.C a->a.block≠p:=λa h e=>s.N a h<|Ã<|e▸c;refine⟨λ_ q=>q,λ_ q=>Ã q,U,U,U,U,U,U,λj q=> ?_,?_,λj q n=>(b j λe=>n<|e▸g).trans<|r.I j q,λa q=>(gJ<|b _<|f a q).trans<|r.N a q,λa q=>(wq<|b _<|f a q).trans<|r.Y a q,λa q z=> ?_⟩
 .show j<w'.heap.size;rw[d];exact È (s.fu j<|Ã q) r.r
 .show l.w.heap.size<=w'.heap.size;rw[d];exact r.r
 .show(w'.cell? a).isSome=Ò;rw[gJ (b a.block λe=>(s.S a q).1<|Ã<|e▸c)];exact r.S a q z
end
section
variable{J:Jd}{l:fc}{a:ŏ}{k:List ŷ}{cs:List é}{ob:Ÿ}
def pd{V:Nat->Ï}(c:Q[i]?=Â o)(d:Ė o (ţ Q a.tmps)=Ò)(e:f.kind≠Ź)(g:kg l)(h:¬l.q) (j:∀w,(ĉ a.eval o).run P w=.ok (.value<|V w.heap.size) (w.alloc ob)) (m:∀w,(ĉ a.eval o).events P w #[]=#[]) (n:∀b,fG l l.w b->fi P yQ J (gF l b ob) (G (f.at (a.put o.dst<|V b.heap.size)<|Ñ Q jJ::k) cs)):fi P yQ J l (G (f.at a<|Ñ Q (i::jJ)::k) cs):=by
 refine ve c d e λb r=> ?_;rw[j b];refine⟨_,?_,n b r⟩;have:listed P f.fn a o b=#[]:=by unfold listed;rw[m b,Ī]
 rw[this];exact Yb (mr g r) h
def Gn{p off:Nat}{u:Ï}(m:Q[i]?=Â o)(n:Ė o (ţ Q a.tmps)=Ò)(s:f.kind≠Ź)(t:kg l)(x:¬l.q)(b:l.O p)(d:l.w.cell? ⟨p,off,Á⟩=Â u)(y:l.w.frozen? ⟨p,off,Á⟩=Ì)(z:o.dst=Á) (B:∀w,w.cell? ⟨p,off,Á⟩=Â u->w.frozen? ⟨p,off,Á⟩=Ì->(ĉ a.eval o).run P w=.ok .skip (w.setCell ⟨p,off,Á⟩ v)) (C:∀w,w.cell? ⟨p,off,Á⟩=Â u->w.frozen? ⟨p,off,Á⟩=Ì->(ĉ a.eval o).events P w #[]=#[⟨û ⟨p,off,Á⟩,Ò,Ì⟩]) (D:fi P yQ J {l with w:=l.w.setCell ⟨p,off,Á⟩ v} (G (f.at a<|Ñ Q jJ::k) cs)):fi P yQ J l (G (f.at a<|Ñ Q (i::jJ)::k) cs):=by
 have E:gX l ⟨p,off,Á⟩:=Ã<|Ã b;refine ve m n s λg r=> ?_;have c:=(E.r r).trans d;have j:=(wq<|r.I p<|Ã b).trans y;rw[B g c j];refine⟨_,X5 U (mr t r) x (Ã b) λe h=> ?_,?_⟩
 .have:=đ h;rw[C g c j]at this;have:e=⟨û ⟨p,off,Á⟩,Ò,Ì⟩:=by simpa using this
  subst this;exact pT.r<|Ã b
 .have:(a.put o.dst Å)=a:=by rw[z];rfl
  rw[this];exact D.jY<|yu<|X4 U (by rw[d];rfl) (by rw[c];rfl) r
def mN(l:fc)(w₁ a:ß):fc:={l with O:=λf=>l.O f\/(w₁.heap.size<=f/\f<a.heap.size),w:=a}
def J4(s:gw l){w₁:ß}(r:fG l l.w w₁){a:Option Nat}(d:w₁.grownBy u a)(c:∀k,a=Â k->l.O k/\X k):gh X l (mN l w₁ u):=by
 have i:=r.r;have m:=d.size;have b:∀j,j<l.w.heap.size->Â j≠a->u.heap[j]?=w₁.heap[j]?:=λj o g=>d.block j Z g;have f:∀x:â,l.C x->Â x.block≠a:=λx h e=>s.N x h<|Ã (c _ e.symm).1;refine⟨λ_ q=>Ã q,λj q=>q.imp id λz=>by omega,U,U,U,U,U,U,λj q=> ?_,?_,λj q n=>(b j (s.fu j q) λe=>n (c j e.symm).2).trans<|r.I j q,λx q=>(gJ<|b _ (s.I x q)<|f x q).trans<|r.N x q,λx q=>(wq<|b _ (s.I x q)<|f x q).trans<|r.Y x q,λx q z=> ?_⟩
 .show j<u.heap.size;rcases q with q|q
  .have:=s.fu j<|Ã q;omega
  .exact q.2
 .show l.w.heap.size<=u.heap.size;omega
 .show(u.cell? x).isSome=Ò;rw[gJ (b x.block (s.S x q).2.1 λe=>(s.S x q).1<|Ã (c _ e.symm).1)];exact r.S x q z
def nR{w₁:ß}{sz:Nat}{xs:List Ï}(h:w.ownsRow i e sz v n xs)(a:∀k,v.ownBlock=Â k->w₁.heap[k]?=w.heap[k]?):w₁.ownsRow i e sz v n xs:=by refine⟨h.1,h.2.imp id ?_⟩;rintro⟨g,b,c,rfl,d,f,j⟩;exact⟨g,b,c,U,d,(a g U).trans f,j⟩
def QI{p:Nat}{u:Ï}(h:w.cell? ⟨p,0,Á⟩=Â u):∀j y,[u][j]?=Â y->w.cell? ⟨p,j,Á⟩=Â y
 |0,_,e=>Ó e▸h
 |_+1,_,e=>by cases e
def aic{s a:List Ï}(h:P.underlying t=Â (.slice e))(k:P.info? e=Â zJ)(B:zJ.zero=Â z)(l:zJ.size=m)(C:a.length=m)(F:(n+1)*zJ.bytes<=140737488355328)(G:n+1<=œ) (o:w.ownsRow 0 e m v n s) (p:∀j y,a[j]?=Â y->w.cell? ((⟨b,0,Á⟩:â).add j)=Â y) (H:∀u∈a,u.oneCell'=Ò) (d:(Builtin.append_ #[t,t] T #[v,Æ (Â ⟨b,0,Á⟩) 1 i]).run P w=.ok x W):x.ownBlock=v.ownBlock\/x.ownBlock=Â w.heap.size:=by
 have q:a.length=1*zJ.size:=by rw[l,C];omega
 have L:n+1<=9223372036854775807:=by simp only[œ]at G;omega
 rcases o.2 with⟨rfl,rfl⟩|⟨g,r,D,rfl,_,I,M,N,J,O⟩
 .have f:=run_append_nil (P:=P) w t T e zJ z h k B ⟨b,0,Á⟩ 1 i a q p Z Z Z;rw[f]at d;cases d;exact Ç U
 .by_cases E:n+1<=r
  .have K:n*zJ.size+a.length<=D.size:=by
    rw[J,l,C,show n*m+m=(n+1)*m by rw[Nat.add_mul];omega];exact Nat.mul_le_mul_right _ E
   have f:=run_append_room (P:=P) w t T e zJ h k g n r D I ⟨b,0,Á⟩ 1 i a q p H E K;rw[f]at d;cases d;exact Ã U
  .have f:=run_append_grow (P:=P) w t T e zJ z h k B ⟨g,0,Á⟩ n r s (by rw[l];exact o.1) (o.cells (g:=g) U) ⟨b,0,Á⟩ 1 i a q p Z Z<|growslice_fits Z F;rw[f]at d;cases d;exact Ç U
theorem Gp{x:Ĥ}{inf:Ž}{c px sz:Nat}{xs us:List Ï}(ho:Q[i]?=Â o)(hw:Ė o (ţ Q a.tmps)=Ò)(hk:f.kind≠Ź)(sn:gw l)(hq:¬l.q) (V:o.op=Ě {callee:=Ŕ .append,args:=#[qQ,x],argTypes:=#[t,t]}) (W:a.eval qQ=v) (X:a.eval x=Æ (Â ⟨px,0,Á⟩) 1 c) (E:P.underlying t=Â (.slice e)) (F:P.info? e=Â inf) (H:inf.zero=Â z) (I:inf.size=sz) (jS:0<sz) (J5:us.length=sz) (ry:z.cells.size=sz) (K:(n+1)*inf.bytes<=140737488355328) (L:n+1<=œ) (ly:l.w.ownsRow 0 e sz v n xs) (C:∀k,v.ownBlock=Â k->l.O k) (Yj:l.O px) (hu:∀j u,us[j]?=Â u->l.w.cell? ⟨px,j,Á⟩=Â u) (d:∀u∈us,u.oneCell'=Ò) (hn:∀b B g,fG l l.w b->g.ownsRow 0 e sz B (n+1) (xs++us)->b.grownBy g v.ownBlock->(∀k,B.ownBlock=Â k->(mN l b g).O k)->(B.ownBlock=v.ownBlock\/B.ownBlock=Â b.heap.size)->fi P yQ J (mN l b g) (G (f.at (a.put o.dst B)<|Ñ Q jJ::k) cs)): fi P yQ J l (G (f.at a<|Ñ Q (i::jJ)::k) cs):=by
 refine ve ho hw hk λb r=> ?_;have hM:∀k,l.O k->b.heap[k]?=l.w.heap[k]?:=λk q=>r.I k<|Ã q;have M:=nR ly (w₁:=b) λk q=>hM k<|C k q;have N:∀j w,us[j]?=Â w->b.cell? ((⟨px,0,Á⟩:â).add j)=Â w:=λj w h=>by rw[ğ,č];grind [gJ]
 have Y:us.length=1*sz:=Z
 let⟨B,g,iJ,hown',p,yH⟩:=run_append_own (P:=P) b 0 t o.type e inf z sz inf.bytes E F H I U ry jS v n xs M ⟨px,0,Á⟩ 1 c us Y N d L K<|ă _;have ug:=aic E F H I J5 K L M N d iJ;refine uponK_append qQ x t V W X iJ ⟨mN l b g,?_,hn b B g r hown' p (λk q=> ?_) ug⟩
 .have he:∀D∈listed P f.fn a o b,wK (mN l b g) D:=λD S=>by
   have h2:=đ S;rw[events_append_op qQ x t V W X]at h2;rcases(events_append_where (P:=P) b 0 t o.type e inf z sz inf.bytes E F H I rfl v n xs M ⟨px,0,Á⟩ 1 c us Y N d L K) D h2 with⟨ad,T,y⟩|⟨m,rfl,aie⟩
   .refine⟨Ã ⟨ad,T,Ã ?_⟩,by rw[T];simp,by rw[T];simp⟩;rcases y with⟨_,y⟩|y
    .exact Ã<|by rwa[y]
    .exact Ã<|C _ y.symm
   .have tF:m=.noRoom:=aie;subst tF;exact⟨Ç<|Ã U,fp,fp⟩
  refine⟨p.size,λj q=>q.imp id λz=>z.1,λj q=> ?_,U,U,U,U,λj T d _=>p.block j T λe=>d<|C j e.symm,λy m d _=>gJ (p.block _ m λe=>d<|C _ e.symm),λy m d=>wo (p.block _ m λe=>d<|C _ e.symm),p.os,p.output,p.tape,λD S=>(he D S).1,(JO he _).symm,U,λq=>absurd q hq,U⟩;rcases q with q|q
  .exact È ((mr sn.r r) j q) p.size
  .exact q.2
 .have y:k<g.heap.size:=(hown'.lt k q).2;rcases ug with m|m
  .exact Ã<|C k<|by rwa[<-m]
  .rw[m]at q;obtain rfl:=Ó q;exact Ç ⟨Ú _,y⟩
end
def Yk:Array å:=#[⟨Â 25,Ş (ù 48) #[] #[Ù 9,Ù 8],1, "work.go:24",#[],Á⟩,⟨Â 26,Ě {callee:=ĕ<|ĸ 47,args:=#[Ù 12,Ù 25],argTypes:=#[97,1]},0, "work.go:24",#[⟨0,Ü⟩],Á⟩]
def Yl:Array å:=#[⟨Â 13,ŧ<|Ũ<|Æ Á 0 0,100, "work.go:25",#[],Á⟩]
def Ym:Array å:=#[⟨Â 27,ę<|Ù 2,3, "work.go:26",#[],Á⟩,⟨Â 28,ę<|Ũ<|Ê Î 0,3, "work.go:26",#[],Á⟩]
def QJ:Array å:=#[⟨Â 29,Λ .lss 3 (Ù 28) (Ù 27) 3,4, "work.go:26",#[],Á⟩]
def Yn:Array å:=#[⟨Â 30,ę<|Ù 10,85, "work.go:28",#[],Á⟩,⟨Â 31,Ě {callee:=Ŕ .len,args:=#[Ù 30],argTypes:=#[85]},3, "work.go:28",#[⟨0,Ü⟩],Á⟩,⟨Â 32,.makeChan 101<|Ù 31,101, "work.go:28",#[⟨1,Ü⟩],Á⟩,⟨Â 14,.alloc 101,0, "work.go:28",#[],Á⟩,⟨Á,š 101 (Ù 14)<|Ù 32,0, "work.go:28",#[⟨3,Ü⟩,⟨2,Ü⟩,⟨0,Í⟩,⟨1,Í⟩,⟨2,Í⟩,⟨3,Í⟩],Á⟩]
def Yo:Array å:=#[⟨Â 33,ę<|Ù 13,100, "work.go:29",#[],Á⟩,⟨Â 34,ć 101<|Ù 14,101, "work.go:29",#[],Á⟩,⟨Â 35,.buildSlice 100 1 #[(0,Ù 34)],100, "work.go:29",#[⟨1,Ü⟩],Á⟩,⟨Â 36,Ě {callee:=Ŕ .append,args:=#[Ù 33,Ù 35],argTypes:=#[100,100]},100, "work.go:29",#[⟨0,Ü⟩,⟨2,Ü⟩],Á⟩,⟨Â 13,ŧ<|Ù 36,100, "work.go:29",#[⟨3,Ü⟩,⟨3,Ţ⟩,⟨0,Í⟩,⟨1,Í⟩,⟨2,Í⟩,⟨3,Í⟩],Á⟩]
def J6:Array å:=#[⟨Â 37,Ş (ù 50) #[] #[Ù 14,Ù 8],1, "work.go:30",#[],Á⟩,⟨Â 38,Ě {callee:=ĕ<|ĸ 47,args:=#[Ù 12,Ù 37],argTypes:=#[97,1]},0, "work.go:30",#[⟨0,Ü⟩],Á⟩]
def QK:Array å:=#[⟨Â 39,Λ .add 3 (Ù 28) (Ũ<|Ê Î 1) 3,3, "work.go:26",#[],Á⟩,⟨Â 28,ę<|Ù 39,3, "work.go:26",#[⟨0,Ü⟩],Á⟩]
def J7:Array å:=#[⟨Â 40,ę<|Ù 10,85, "work.go:32",#[],Á⟩,⟨Â 41,ę<|Ù 13,100, "work.go:32",#[],Á⟩,⟨Â 42,Ě {callee:=ĕ<|ĸ 52,args:=#[Ù 40,Ù 41],argTypes:=#[85,100]},0, "work.go:32",#[⟨0,Ü⟩,⟨1,Ü⟩],Á⟩]
def J8:Array å:=#[⟨Â 43,Ě {callee:=ĕ<|ĸ 53,args:=#[Ù 12],argTypes:=#[97]},0, "work.go:33",#[],Á⟩]
def Gq:å:=⟨Â 44,ć 25<|Ù 8,25, "work.go:34",#[],Á⟩
def Gr:å:=⟨Â 45,ę<|Ù 11,86, "work.go:34",#[{on:=5,ground:=õ Ð}],Á⟩
def Gs:å:=⟨Â 46,ĩ<|Ù 45,0, "work.go:34",#[⟨1,Ü⟩,{on:=5,ground:=õ Ð}],Á⟩
def Gt:å:=⟨Â 47,ð 105 (Ù 46) 1,0, "work.go:34",#[⟨2,Ü⟩,{on:=5,ground:=õ Ð}],Á⟩
def Gu:å:=⟨Â 48,ć 65<|Ù 47,65, "work.go:34",#[⟨3,Ü⟩,{on:=5,ground:=õ Ð}],Á⟩
def Gv:å:=⟨Â 6,ŧ<|Ù 44,25, "work.go:34",#[⟨0,Ü⟩,⟨0,Í⟩,{on:=1,ground:=Þ Ð},{on:=2,ground:=Þ Ð},{on:=3,ground:=Þ Ð},{on:=4,ground:=Þ Ð}],Á⟩
def Gw:å:=⟨Â 7,ŧ<|Ù 48,65, "work.go:34",#[⟨4,Ü⟩,⟨5,Ţ⟩,⟨0,Í⟩,⟨1,Í⟩,⟨2,Í⟩,⟨3,Í⟩,⟨4,Í⟩,⟨5,Í⟩],Á⟩
def wS:Array å:=#[Gq,Gr,Gs,Gt,Gu,Gv,Gw]
def J9:Ę:=(ä 14 wS Ò).seq Ρ
def Ka:Ę:=(ä 12 J7 Ì).seq<|(ä 13 J8 Ì).seq J9
def Dr:Ę:=(ä 7 QJ Ì).seq<|(Ť (Ù 29) ť<|Ŧ 0).seq<|(İ 1<|(ä 8 Yn Ì).seq<|(ä 9 Yo Ì).seq<|ä 10 J6 Ì).seq<|ä 11 QK Ì
def sA:Ę:=(ä 5 Yl Ì).seq<|((ä 6 Ym Ì).seq<|İ 0 Dr.loop).seq Ka
def A6(t:Array Ï)(a:List é):Ý:=G ((base 37).at ⟨t,[]⟩ [ö Dr,ą Dr,ô 0,ö Ka]) a
def Ds(t:Array Ï):é:=(base 37).at ⟨t,[]⟩ [Ñ Yk [1],ö sA]
def Kb(t:Array Ï):é:=(base 37).at ⟨t,[]⟩ [Ñ J6 [1],ô 1,ö<|ä 11 QK Ì,ą Dr,ô 0,ö Ka]
def Gx:Array å:=#[⟨Â 6,Ş (ù 63) #[] #[Ù 2,Ù 3],1, "waitgroup.go:238",#[],Á⟩,
 ⟨Á,.go {callee:=ĕ (Ù 6),args:=#[],argTypes:=#[]},0, "waitgroup.go:238",#[⟨0,Ü⟩],Á⟩]
def tG(c d e f:Ï)(a b:Nat):Array Ï:=#[c,d,À<|Â ⟨a,0,Á⟩,À<|Â ⟨b,0,Á⟩,e,f,Ĉ (ù 63) #[] #[À<|Â ⟨a,0,Á⟩,À<|Â ⟨b,0,Á⟩]]
def A7(a b c d:Ï)(e f:Nat)(g:List é):Ý:=G ((base 47).at ⟨tG a b c d e f,[]⟩ [Ñ Gx [1]]) g
def Gy(a b c d:Ï)(e f:Nat)(g:List é):Ý:=G ((base 47).at ⟨tG a b c d e f,[]⟩ [Ñ Gx []]) g
def Yp(c e f g:Ï)(a b:Nat)(h:List é)(w:ß):stepG Ä Ò (A7 c e f g a b h) w=.spawn (Gy c e f g a b h) (born Ä<|o6 63 #[À<|Â ⟨a,0,Á⟩,À<|Â ⟨b,0,Á⟩] #[]) w #[]:=by
 refine(stepG_spawn (d:=o6 63 #[À<|Â ⟨a,0,Á⟩,À<|Â ⟨b,0,Á⟩] #[]) (w':=w) U U (by k_ne) ?_ U).trans ?_
 .simp[Gx,ĉ,ſ,ě,ĥ,tG,o6]
 .have:listed Ä (base 47).fn ⟨tG c e f g a b,[]⟩ Gx[1] w=#[]:=by
   unfold listed;simp[Gx,ĉ,ſ,ě,ĥ,tG,Ī]
  rw[this];rfl
structure ST(ba all nS n j:Nat)(qs dv:Ï)(t:Array Ï):Prop where
 r:t.size=49
 a:t[8]?=Â (À<|Â ⟨ba,0,Á⟩)
 C:t[10]?=Â qs
 I:t[11]?=Â (À<|Â ⟨nS,0,Á⟩)
 M:t[12]?=Â (À<|Â ⟨all,0,Á⟩)
 N:t[13]?=Â dv
 S:t[27]?=Â (Ê Î n)
 Y:t[28]?=Â (Ê Î j)
structure Gz(ba all nS n:Nat)(qs:Ï)(t:Array Ï):Prop where
 CC:t.size=49
 t2:t[2]?=Â (Ê Î n)
 t8:t[8]?=Â (À<|Â ⟨ba,0,Á⟩)
 aif:t[10]?=Â qs
 aii:t[11]?=Â (À<|Â ⟨nS,0,Á⟩)
 QL:t[12]?=Â (À<|Â ⟨all,0,Á⟩)
def GA(t:Array Ï)(h:t.size=49):∃a b c d e f g i j k l m n o p q r s u v w x y z B C D E F G H I J K L M N O P Q S T V W X Y pR pS wI:Ï,t=#[a,b,c,d,e,f,g,i,j,k,l,m,n,o,p,q,r,s,u,v,w,x,y,z,B,C,D,E,F,G,H,I,J,K,L,M,N,O,P,Q,S,T,V,W,X,Y,pR,pS,wI]:=by obtain⟨_,rfl⟩:=sx t h;exact⟨_,_,_,_,_,_,_,_,_,_,_,_,_,_,_,_,_,_,_,_,_,_,_,_,_,_,_,_,_,_,_,_,_,_,_,_,_,_,_,_,_,_,_,_,_,_,_,_,_,U⟩
section
variable{Ψ:ß->Prop}{J a:Jd}{l:fc}{t:Array Ï}{ba all nS:Nat}{qs dv:Ï}
def aij(d:kg l)(a:Gz ba all nS n qs t)(e:∀c,ST ba all nS n 0 qs (Æ Á 0 0) c->fi Ä Ò J l (A6 c qX)):fi Ä Ò J l (Gy v x z jQ b i<|Ds t::qX):=by
 obtain⟨m,o,f,p,q,r,s,u,g,w,h,j,k,y,B,C,D,E,F,G,H,I,K,L,M,N,O,P,Q,S,T,V,W,X,Y,ri,rj,tL,tM,tN,tO,tP,tR,tS,tT,tU,pR,pS,wI,rfl⟩:=GA t a.CC;obtain rfl:f=Ê Î n:=by simpa using a.t2
 obtain rfl:g=À (Â ⟨ba,0,Á⟩):=by simpa using a.t8
 obtain rfl:h=qs:=by simpa using a.aif
 obtain rfl:j=À (Â ⟨nS,0,Á⟩):=by simpa using a.aii
 obtain rfl:k=À (Â ⟨all,0,Á⟩):=by simpa using a.QL
 apply fW (n:=40) d;have hF:=trivial;simp only[Gy,Ds,Yk];iterate 2 w_go fw
 u_leave0 Ħ fw hF
 simp only[sA,Yl,Ym];iterate 13 w_go fw
 refine Ë λ_ _=> ?_;exact e _ ⟨U,U,U,U,U,U,U,U⟩
theorem aik(d:kg l)(a:ST ba all nS n j qs dv t)(q:j<1000)(e:∀c,ST ba all nS n (j+1) qs dv c->fi Ä Ò J l (A6 c qX)):fi Ä Ò J l (Gy v x z jQ b i<|Kb t::qX):=by
 obtain⟨r,s,u,w,y,B,C,D,f,E,g,h,k,m,F,G,H,I,K,L,M,N,O,P,Q,S,T,o,p,V,W,X,Y,sr,su,ri,rj,tL,tM,tN,tO,tP,tR,tS,tT,tU,pR,pS,wI,rfl⟩:=GA t a.r;obtain rfl:f=À (Â ⟨ba,0,Á⟩):=by simpa using a.a
 obtain rfl:g=qs:=by simpa using a.C
 obtain rfl:h=À (Â ⟨nS,0,Á⟩):=by simpa using a.I
 obtain rfl:k=À (Â ⟨all,0,Á⟩):=by simpa using a.M
 obtain rfl:m=dv:=by simpa using a.N
 obtain rfl:o=Ê Î n:=by simpa using a.S
 obtain rfl:p=Ê Î j:=by simpa using a.Y
 apply fW (n:=40) d;have hF:=trivial;simp only[Gy,Kb,J6];iterate 2 w_go fw
 u_leave0 Ħ fw hF
 simp only[QK];iterate 7 w_go fw
 refine Ë λ_ _=> ?_;refine e _ ⟨U,U,U,U,U,U,U,?_⟩;simp;grind [AZ]
end
section
variable{l l' y:fc}
def gh.fY(h:gh X l l')(s:gw l){p off:Nat}(c:l.w.heap.size<=p):gh X l {l' with w:=l'.w.setCell ⟨p,off,Á⟩ v}:=by
 have b:∀j,j<l.w.heap.size->(l'.w.setCell ⟨p,off,Á⟩ v).heap[j]?=l'.w.heap[j]?:=λj e=>lj (by show j≠p;omega);refine⟨h.O,h.c,h.S,h.Y,h.b,h.K,h.q,h.d,λj q=> ?_,?_,λj q n=>(b j<|s.fu j q).trans<|h.r j q n,λa q=>(gJ<|b _<|s.I a q).trans<|h.f a q,λa q=>sd.trans<|h.g a q,λa q z=>yd<|h.e a q z⟩
 .show j<(l'.w.setCell ⟨p,off,Á⟩ v).heap.size;rw[jV];exact h.fu j q
 .show l.w.heap.size<=(l'.w.setCell ⟨p,off,Á⟩ v).heap.size;rw[jV];exact h.I
structure gZ(l:fc)(b:Nat)(o:Ÿ):Prop where
 fl:l.O b
 I:l.w.heap[b]?=Â o
def gZ.r{o:Ÿ}(h:gZ l b o)(k:gh X l l')(a:¬X b):gZ l' b o:=⟨k.O b h.fl,(k.r b (Ã h.fl) a).trans h.I⟩
def gZ.C(h:gZ l b (É d e xJ))(a:d[i]?=Â v):l.w.cell? ⟨b,i,Á⟩=Â v:=by simp[Ö,h.I,a]
end
def Yq{sz:Nat}{xs:List Ï}(h:w.ownsRow i e sz v n xs)(a:w.heap.size<=b):¬(Â b=v.ownBlock):=λq=>by have:=(h.lt b q.symm).2;omega
structure Yr(ba all q:Nat)(A8:Ï)(xs:List Ï)(ch bd bw bf:Nat)(l':fc):Prop where
 S:l'.w.ownsRow 0 101 1 A8 xs.length xs
 M:∀k,A8.ownBlock=Â k->l'.O k
 r:gZ l' ch (ŕ q #[] Ì 0 0 Ì)
 C:gZ l' bd (É #[è<|Â ch] 101)
 N:gZ l' bw (É #[À<|Â ⟨all,0,Á⟩] 162)
 I:gZ l' bf (É #[Ĉ (ù 50) #[] #[À<|Â ⟨bd,0,Á⟩,À<|Â ⟨ba,0,Á⟩]] 1)
section
variable{g:Jd}{l:fc}{t:Array Ï}{ba all q:Nat}{f:Option â}{xs:List Ï}
def ail(y:gw l)(F:¬l.q)(hd:l.d=0)(G:ST ba all m n j (Æ f q i) x t)(u9:j<n)(hn:n<1000)(A9:q<1000)(Ke:l.K ⟨all,0,Á⟩/\l.K ⟨all,1,Á⟩)(Gm:ng all l.w) (ly:l.w.ownsRow 0 101 1 x j xs) (hO:∀k,x.ownBlock=Â k->l.O k) (hJ0:∀l' t' a r B S C v1,gh (λb=>Â b=x.ownBlock) l l'->ST ba all m n j (Æ f q i) C t'->Yr ba all q C (xs++[è<|Â a]) a r B S l'->l.w.heap.size<=a->a<r->r<B->B<S->(∀k,C.ownBlock=Â k->k≠a/\k≠r/\k≠B/\k≠S)->g l' (A7 (À<|Â ⟨all,0,Á⟩) v1 (À<|Â ⟨all,0,Á⟩) (ñ #[]) B S<|Kb t'::qX)): fi Ä Ò (JN Ä Ò all g) l (A6 t qX):=by
 obtain⟨y0,y1,y2,y3,y4,y5,y6,y7,y8,y9,wN,yF,wO,rp,sy,qy,vh,vi,tX,tY,tZ,sB,sC,sD,rf,sk,rh,o5,n7,pO,pP,pQ,tK,sr,su,ri,rj,tL,tM,tN,tO,tP,tR,tS,tT,tU,pR,pS,wI,rfl⟩:=GA t G.r;obtain rfl:y8=À (Â ⟨ba,0,Á⟩):=by simpa using G.a
 obtain rfl:wN=Æ f q i:=by simpa using G.C
 obtain rfl:yF=À (Â ⟨m,0,Á⟩):=by simpa using G.I
 obtain rfl:wO=À (Â ⟨all,0,Á⟩):=by simpa using G.M
 obtain rfl:x=rp:=(show rp=x by simpa using G.N).symm;obtain rfl:o5=Ê Î n:=by simpa using G.S
 obtain rfl:n7=Ê Î j:=by simpa using G.Y
 have asR:(j:Int)<(n:Int):=Z
 have hF:True:=trivial;apply fW (n:=40) y.r;simp only[A6,Dr,QJ,Yn];repeat w_go fw
 refine Ë λ_ _=> ?_;have Dt:Ä.info? 155=Â Ą:=ļ;refine pd (V:=λp=>è<|Â p) (ob:=ŕ q #[] Ì 0 0 Ì) U U (by k_ne) y.r F (λw=> ?_) (λw=> ?_) λL oE=> ?_
 .have D:=run_makeChan (P:=Ä) (w:=w) Ĵ Dt Î q Z (by simp[Ą];omega);go_simp
 .simp[go_sem,(events_makeChan (P:=Ä) (w:=w) Ĵ Dt Î q Z (by simp[Ą];omega) #[])]
 walk_nrm;have ua:gh ff l (gF l L<|ŕ q #[] Ì 0 0 Ì):=mM y oE;have c1:gZ (gF l L<|ŕ q #[] Ì 0 0 Ì) L.heap.size (ŕ q #[] Ì 0 0 Ì):=⟨Ç U,mL⟩;have Ys:l.w.heap.size<=L.heap.size:=oE.r;generalize gF l L (ŕ q #[] Ì 0 0 Ì)=l₁ at ua c1|-;generalize L.heap.size=a at c1 Ys|-;have wT:=ua.N y;have Yt:¬l₁.q:=by rwa[ua.q]
 refine pd (V:=λp=>À<|Â ⟨p,0,Á⟩) (ob:=É #[è Á] 101) U U (by k_ne) wT.r Yt (λw=>by go_simp) (λw=>by simp[go_sem]) λT nQ=> ?_;walk_nrm;have GB:gh ff l (gF l₁ T<|É #[è Á] 101):=ua.fg<|mM wT nQ;have c2:=c1.r (mM (X:=ff) (ob:=É #[è Á] 101) wT nQ) id;have H:gZ (gF l₁ T<|É #[è Á] 101) T.heap.size (É #[è Á] 101):=⟨Ç U,mL⟩;have IK:a<T.heap.size:=È (wT.fu a<|Ã c1.fl) nQ.r;generalize gF l₁ T (É #[è Á] 101)=l₂ at GB c2 H|-;generalize T.heap.size=r at H IK|-;clear c1 ua Yt wT nQ l₁;have rv:=GB.N y;have pV:¬l₂.q:=by rwa[GB.q]
 refine Gn (p:=r) (off:=0) (v:=è<|Â a) (u:=è Á) U U (by k_ne) rv.r pV H.fl (H.C U) (by simp[î,H.I]) U (λw o s=>by go_simp) (λw o s=>by simp[go_sem,o,s]) ?_;have M:gh ff l {l₂ with w:=l₂.w.setCell ⟨r,0,Á⟩ (è<|Â a)}:=GB.fY y Z;have c3:gZ {l₂ with w:=l₂.w.setCell ⟨r,0,Á⟩ (è<|Â a)} a (ŕ q #[] Ì 0 0 Ì):=⟨c2.fl,(lj<|by show a≠r;omega).trans c2.I⟩;have W:gZ {l₂ with w:=l₂.w.setCell ⟨r,0,Á⟩ (è<|Â a)} r (É #[è<|Â a] 101):=⟨H.fl,by show(l₂.w.setCell ⟨r,0,Á⟩<|è<|Â a).heap[r]?=_;unfold þ;simp[í,H.I]⟩;generalize({l₂ with w:=l₂.w.setCell ⟨r,0,Á⟩ (è<|Â a)}:fc)=ko at M c3 W|-;clear c2 H GB rv pV l₂;have N:=M.N y;have wP:¬ko.q:=by rwa[M.q]
 have Du:∀k,x.ownBlock=Â k->ko.O k:=λk e=>M.O k<|hO k e;have Kf:ko.w.ownsRow 0 101 1 x j xs:=nR ly λk e=>M.r k (Ã<|hO k e) id;apply fW (n:=10) N.r;simp only[Yo,J6];iterate 4 w_go fw
 refine Ë λ_ _=> ?_;apply nh (x:=⟨r,0,Á⟩) U U (by k_ne) N.r wP (Ã<|Ã W.fl) (W.C U) (λw h=>by go_simp) (λw h=>by simp[go_sem,h]);walk_nrm;refine pd (V:=λp=>Æ (Â ⟨p,0,Á⟩) 1 1) (ob:=É #[è<|Â a] 101) U U (by k_ne) N.r wP (λw=>by go_simp) (λw=>by simp[go_sem]) λI Ba=> ?_;walk_nrm;have A5:gh ff l (gF ko I<|É #[è<|Â a] 101):=M.fg<|mM N Ba;have k4:=mM (X:=ff) (ob:=É #[è<|Â a] 101) N Ba;have c4:=c3.r k4 id;have d4:=W.r k4 id;have Y:gZ (gF ko I<|É #[è<|Â a] 101) I.heap.size (É #[è<|Â a] 101):=⟨Ç U,mL⟩;have Yj:r<I.heap.size:=È (N.fu r<|Ã W.fl) Ba.r;have wU:∀k,x.ownBlock=Â k->(gF ko I<|É #[è<|Â a] 101).O k:=λk e=>Ã<|Du k e;have Bb:=nR Kf (w₁:=(gF ko I<|É #[è<|Â a] 101).w) λk e=>k4.r k (Ã<|Du k e) id;generalize gF ko I (É #[è<|Â a] 101)=l₄ at A5 c4 d4 Y wU Bb|-;generalize I.heap.size=px at Y Yj|-;clear c3 W M N wP Du Kf k4 Ba ko;have yL:=A5.N y;have Bc:¬l₄.q:=by rwa[A5.q]
 refine Gp (v:=x) (us:=[è<|Â a]) (px:=px) (c:=1) (n:=j) (xs:=xs) (inf:=Δ) (z:=è Á) U U (by k_ne) yL Bc U U U Tryz.underlying100 Tryz.type101 U U Nat.one_pos U U (by simp[Δ];omega) (by simp only[œ];omega) Bb wU Y.fl (QI<|Y.C U) (λ_ D=>List.mem_singleton.1 D▸rfl) λsF C Q Bd pG GD Be ug=> ?_;walk_nrm;have Yu:∀b,l.w.heap.size<=b->¬(Â b=x.ownBlock):=λb hb=>Yq ly hb;have k5:gh (λb=>Â b=x.ownBlock) l₄ (mN l₄ sF Q):=J4 yL Bd GD λk e=>⟨wU k e,e.symm⟩;have vl:gh (λb=>Â b=x.ownBlock) l (mN l₄ sF Q):=(A5.fN λ_ _ q=>q.elim).fg k5;have c5:=c4.r k5<|Yu a Z;have d5:=d4.r k5<|Yu r Z;have hl4:px<sF.heap.size:=È (yL.fu px<|Ã Y.fl) Bd.r;have Kg:∀k,C.ownBlock=Â k->k<Q.heap.size/\k≠a/\k≠r:=λk e=>by
  have D:=(pG.lt k e).2;rcases ug with z|z
  .rw[z]at e;have:=(ly.lt k e).2;exact⟨D,Z,Z⟩
  .rw[z]at e;obtain rfl:=Ó e;exact⟨D,Z,Z⟩
 have wV:(mN l₄ sF Q).w.ownsRow 0 101 1 C (j+1) (xs++[è<|Â a]):=pG;have Kh:(mN l₄ sF Q).w.heap.size=Q.heap.size:=U;generalize mN l₄ sF Q=sG at vl c5 d5 wV Be Kh|-;rw[<-Kh]at Kg;clear k5 GD pG ug c4 d4 Y A5 yL Bc wU Bb Bd l₄ Kh;have rz:=vl.N y;have Yv:¬sG.q:=by rwa[vl.q]
 apply fW (n:=20) rz.r;iterate 4 w_go fw
 u_call Ħ fO Μ fw hF
 iterate 2 w_go fw
 refine Ë λ_ _=> ?_;refine pd (V:=λp=>À<|Â ⟨p,0,Á⟩) (ob:=É #[À<|Â ⟨all,0,Á⟩] 162) U U (by k_ne) rz.r Yv (λw=>by go_simp) (λw=>by simp[go_sem]) λD Ki=> ?_;walk_nrm;have k6:=mM (X:=ff) (ob:=É #[À<|Â ⟨all,0,Á⟩] 162) rz Ki;have Bf:gh (λb=>Â b=x.ownBlock) l (gF sG D<|É #[À<|Â ⟨all,0,Á⟩] 162):=vl.fg (k6.fN λ_ _ q=>q.elim);have c6:=c5.r k6 id;have d6:=d5.r k6 id;have g6:gZ (gF sG D<|É #[À<|Â ⟨all,0,Á⟩] 162) D.heap.size (É #[À<|Â ⟨all,0,Á⟩] 162):=⟨Ç U,mL⟩;have Bg:r<D.heap.size:=È (rz.fu r<|Ã d5.fl) Ki.r;have GF:∀k,C.ownBlock=Â k->k<D.heap.size/\k≠a/\k≠r:=λk e=>⟨È (Kg k e).1 Ki.r,(Kg k e).2⟩;have Kj:∀k,C.ownBlock=Â k->(gF sG D<|É #[À<|Â ⟨all,0,Á⟩] 162).O k:=λk e=>Ã<|Be k e;have QM:=nR wV (w₁:=(gF sG D<|É #[À<|Â ⟨all,0,Á⟩] 162).w) λk e=>k6.r k (Ã<|Be k e) id;generalize gF sG D (É #[À<|Â ⟨all,0,Á⟩] 162)=Bh at Bf c6 d6 g6 Kj QM|-;generalize D.heap.size=B at g6 Bg GF|-;clear k6 c5 d5 vl rz Yv Be wV Kg Ki sG;have Kk:=Bf.N y;have Yw:¬Bh.q:=by rwa[Bf.q]
 refine pd (V:=λp=>À<|Â ⟨p,0,Á⟩) (ob:=É #[Ĉ (ù 50) #[] #[À<|Â ⟨r,0,Á⟩,À<|Â ⟨ba,0,Á⟩]] 1) U U (by k_ne) Kk.r Yw (λw=>by go_simp) (λw=>by simp[go_sem]) λJ QO=> ?_;walk_nrm;have k7:=mM (X:=ff) (ob:=É #[Ĉ (ù 50) #[] #[À<|Â ⟨r,0,Á⟩,À<|Â ⟨ba,0,Á⟩]] 1) Kk QO;have E:gh (λb=>Â b=x.ownBlock) l (gF Bh J<|É #[Ĉ (ù 50) #[] #[À<|Â ⟨r,0,Á⟩,À<|Â ⟨ba,0,Á⟩]] 1):=Bf.fg (k7.fN λ_ _ q=>q.elim);have c7:=c6.r k7 id;have d7:=d6.r k7 id;have g7:=g6.r k7 id;have f7:gZ (gF Bh J<|É #[Ĉ (ù 50) #[] #[À<|Â ⟨r,0,Á⟩,À<|Â ⟨ba,0,Á⟩]] 1) J.heap.size (É #[Ĉ (ù 50) #[] #[À<|Â ⟨r,0,Á⟩,À<|Â ⟨ba,0,Á⟩]] 1):=⟨Ç U,mL⟩;have Kl:B<J.heap.size:=È (Kk.fu B<|Ã g6.fl) QO.r;have QP:∀k,C.ownBlock=Â k->(gF Bh J<|É #[Ĉ (ù 50) #[] #[À<|Â ⟨r,0,Á⟩,À<|Â ⟨ba,0,Á⟩]] 1).O k:=λk e=>Ã<|Kj k e;have Yx:=nR QM (w₁:=(gF Bh J<|É #[Ĉ (ù 50) #[] #[À<|Â ⟨r,0,Á⟩,À<|Â ⟨ba,0,Á⟩]] 1).w) λk e=>k7.r k (Ã<|Kj k e) id;generalize gF Bh J (É #[Ĉ (ù 50) #[] #[À<|Â ⟨r,0,Á⟩,À<|Â ⟨ba,0,Á⟩]] 1)=Bj at E c7 d7 g7 f7 QP Yx|-;generalize J.heap.size=S at f7 Kl|-;clear k7 c6 d6 g6 Bf Kk Yw Kj QM QO Bh;have Km:=E.N y;apply fW (n:=10) Km.r;iterate 3 w_go fw
 refine Ë λ_ _=> ?_;apply nh (x:=⟨B,0,Á⟩) U U (by k_ne) Km.r (by rwa[E.q]) (Ã<|Ã g7.fl) (g7.C U) (λw h=>by go_simp) (λw h=>by simp[go_sem,h]);walk_nrm;apply fW (n:=10) Km.r;u_call qx.f_add (nm_add Lk) addFn fw hF;refine Ë λ_ _=> ?_;refine XW qx (⟨Ã (by rw[E.K];exact Ke.1),Ã (by rw[E.K];exact Ke.2),λw L o s h3 h4 h5 h=>h.fg ⟨o,s,h3,h4,h5⟩⟩) (⟨Km.r,⟨E.e _ Ke.1 Gm.1,E.e _ Ke.2 Gm.2⟩,fG.fT _ _⟩) (E.d.trans hd) λQR Yy=> ?_;walk_nrm;apply fW (l:={Bj with d:=0,w:=QR}) (n:=10) Yy.1;iterate 3 w_go fw
 refine Ë λ_ _=> ?_;refine .fB λBl wW=> ?_;have rr:fG Bj Bj.w Bl:=Yy.2.2.fg ⟨wW.r,wW.I,wW.N,wW.Y,wW.S⟩;have s:=E.G rr;have hA9:gh (λb=>Â b=x.ownBlock) l ({Bj with d:=0,w:=Bl}:fc):=⟨s.O,s.c,s.S,s.Y,s.b,s.K,s.q,hd.symm,s.fu,s.I,s.r,s.f,s.g,s.e⟩;have at9:∀{b:Nat} {o:Ÿ},gZ Bj b o->gZ ({Bj with d:=0,w:=Bl}:fc) b o:=λh=>⟨h.fl,(rr.I _<|Ã h.fl).trans h.I⟩;have hlen:(xs++[è<|Â a]).length=j+1:=by have:=ly.1;simp;omega
 refine hJ0 {Bj with d:=0,w:=Bl} _ a r B S C _ hA9 ⟨U,U,U,U,U,U,U,U⟩ ⟨?_,QP,at9 c7,at9 d7,at9 g7,at9 f7⟩ Ys IK Bg Kl λk e=>⟨(GF k e).2.1,(GF k e).2.2,by have:=(GF k e).1;omega,by have:=(GF k e).1;omega⟩;rw[hlen];exact nR Yx λk e=>rr.I k<|Ã<|QP k e
end
def sH(l:fc)(b:Nat):fc:={l with O:=λj=>l.O j/\j≠b,K:=λa=>l.K a\/a=⟨b,0,Á⟩\/a=⟨b,1,Á⟩}
def mW(l x:fc)(b:Nat):fc:={x with O:=λj=>x.O j\/j=b,K:=l.K}
section
variable{S:Jd}{l:fc}
def fi.QS(W:∀a,l.K a->a.block≠b){x:fc}(h:fi P yQ S x g):¬x.M b->(∀a,x.C a->a.block≠b)->x.K=(sH l b).K->b<x.w.heap.size->(x.w.cell? ⟨b,0,Á⟩).isSome=Ò->(x.w.cell? ⟨b,1,Á⟩).isSome=Ò->kg x-> fi P yQ (λG H=>∃d,S d H/\G=mW l d b/\¬d.M b/\(∀a,d.C a->a.block≠b)/\d.K=(sH l b).K/\b<d.w.heap.size/\d.w.heap[b]?=x.w.heap[b]?/\d.q=x.q/\kg d) (mW l x b) g:=by
 have u:∀{x:fc} {c:ß},x.K=(sH l b).K->(x.w.cell? ⟨b,0,Á⟩).isSome=Ò->(x.w.cell? ⟨b,1,Á⟩).isSome=Ò->fG (mW l x b) x.w c->fG x x.w c:=λ{x c} f i m r=>
  ⟨r.r,λj p=>r.I j<|p.imp Ã id,r.N,r.Y,λa o q=>by
   rw[f]at o;rcases o with z|z|z
   .exact r.S a z q
   .rw[z,gJ<|r.I b<|Ã<|Ç U];exact i
   .rw[z,gJ (r.I b (Ã (Ç U)))];exact m⟩
 induction h with
 |@fB x g h=>
  intro s t f v i m I;refine .fB λc r=>⟨{x with w:=c},h c<|u f i m r,U,s,t,f,È v r.r,r.I b<|Ã<|Ç U,U,mr I<|u f i m r⟩
 |@jH x g G' W' E' L' iJ h hd _ ih=>
  intro s t f v i m I;refine .mk iJ λc r=> ?_;have B:=u f i m r;have D:=hd c B;have E:=È v r.r;have J:=λq=>s<|Ã q;have L:=D.jP b E J λa e q=>t a (Ã q) e;have F:(L' c).w.heap[b]?=x.w.heap[b]?:=by rw[D.b];exact L.trans<|r.I b<|Ã<|Ç U
  refine⟨G' c,W' c,E' c,mW l (L' c) b,h c B,?_,?_⟩
  .refine⟨D.C,λj q=> ?_,λj q=> ?_,D.I,D.r,D.M,U,λj p y n=>D.jP j p (λq=>y<|Ã q) n,λa o y n=>D.N a o (λq=>y<|Ã q) n,λa o y=>D.Y a o λq=>y<|Ã q,D.f,D.g,D.m,λe N=> ?_,D.h,D.q,λq=> ?_,D.b⟩
   .rcases q with q|q
    .exact(D.S j q).imp Ã id
    .exact Ã<|Ç q
   .rcases q with q|q
    .exact D.fu j q
    .rw[q];exact È E D.C
   .rcases D.c e N with⟨a,y,n⟩|h|h|h|h|⟨a,y,n⟩
    .exact Ã ⟨a,y,n.imp Ã id⟩
    .exact Ç<|Ã h
    .exact Ç<|Ç<|Ã h
    .exact Ç<|Ç<|Ç<|Ã h
    .exact Ç<|Ç<|Ç<|Ç<|Ã h
    .exact Ç<|Ç<|Ç<|Ç<|Ç ⟨a,Ã y,n⟩
   .let⟨Q,T,V⟩:=D.i q;exact⟨Q,T,by funext j;show((L' c).O j\/j=b)=(x.O j\/j=b);rw[V]⟩
  .refine(ih c B (λq=>q.elim (λz=>(D.S b z).elim J λy=>by omega) λz=>s<|Ç<|by rw[<-D.I];exact z) (λa q=>t a<|q.imp (by rw[D.r];exact id)<|by rw[D.M];exact id) (D.k.trans f) (by rw[D.b];exact È E D.C) (by rw[gJ F];exact i) (by rw[gJ F];exact m) λj p=>by rw[D.b];exact D.fu j p).fN ?_;rintro G H ⟨d,y,e,j,n,o,p,z,N,Q⟩;exact⟨d,y,e,j,n,o,p,z.trans F,N.trans D.q,Q⟩
end
section
variable{L:WgLink}{l:fc}{J:Jd}{c:é}{k:List ŷ}{ty:ŭ}
structure ain(b:Nat)(cc:Array Ï)(ty:ŭ)(l l':fc):Prop where
 r:gh (λj=>j=b) l l'
 O:l'.O=l.O
 C:l'.w.heap[b]?=Â (É (cc.setIfInBounds 0<|Ê ê 4294967296) ty)
theorem Yz(a:l.O b)(w:ß)(d:Nat):mW l {sH l b with d:=d,w:=w} b={l with d:=d,w:=w}:=by
 have:(λj=>(l.O j/\j≠b)\/j=b)=l.O:=by grind
 unfold mW sH;simp only[this]
def YA{C:Array Ï}(H:WgLib P L)(s:gw l)(hq:¬l.q)(Y:l.d=0)(x:l.O b)(M:l.w.heap[b]?=Â (É C ty))(N:C[0]?=Â (Ê ê 0))(o:(C[1]?).isSome=Ò) (hT:∀B,ain b C ty l B->fi P yQ J B (G (c.at (y.put ((Q[i]?).bind (·.dst))<|ñ #[])<|Ñ Q jJ::k) qX)): fi P yQ J l (G ((base L.add).at ⟨#[À<|Â ⟨b,0,Á⟩,Ê Î 1,Å,Å,Å,Å,Å,Å,Å,Å,Å,Å,Å,Å,Å,Å,Å,Å,Å,Å,Å,Å,Å,Å,Å,Å,Å,Å,Å,Å,Å,Å,Å,Å,Å,Å,Å,Å,Å,Å,Å,Å,Å,Å,Å,Å,Å,Å,Å,Å,Å,Å,Å,Å,Å,Å,Å,Å,Å,Å,Å,Å,Å,Å,Å,Å,Å,Å,Å,Å,Å,Å,Å,Å,Å,Å,Å,Å,Å,Å,Å,Å,Å,Å,Å,Å,Å,Å,Å,Å,Å,Å,Å,Å,Å,Å,Å,Å,Å,Å,Å,Å,Å,Å,Å,Å,Å,Å,Å,Å,Å,Å,Å,Å,Å,Å,Å],[]⟩ [ö<|body_add L])<|c.at y (Ñ Q (i::jJ)::k)::qX):=by
 have e0:l.w.cell? ⟨b,0,Á⟩=Â (Ê ê 0):=by simp[Ö,M,N]
 have e1:(l.w.cell? ⟨b,1,Á⟩).isSome=Ò:=by let⟨u,D⟩:=Ô.1 o;simp[Ö,M,D]
 have S:∀y:â,l.K y->y.block≠b:=λy T e=>(s.S y T).1<|Ã<|e▸x;let J1:Jd:=λB g'=>g'=G (c.at (y.put ((Q[i]?).bind (·.dst))<|ñ #[])<|Ñ Q jJ::k) qX/\B={sH l b with d:=0,w:=B.w}/\fG (sH l b) l.w B.w
 have hW:fi P yQ (JN P yQ b J1) (sH l b) (G ((base L.add).at ⟨#[À<|Â ⟨b,0,Á⟩,Ê Î 1,Å,Å,Å,Å,Å,Å,Å,Å,Å,Å,Å,Å,Å,Å,Å,Å,Å,Å,Å,Å,Å,Å,Å,Å,Å,Å,Å,Å,Å,Å,Å,Å,Å,Å,Å,Å,Å,Å,Å,Å,Å,Å,Å,Å,Å,Å,Å,Å,Å,Å,Å,Å,Å,Å,Å,Å,Å,Å,Å,Å,Å,Å,Å,Å,Å,Å,Å,Å,Å,Å,Å,Å,Å,Å,Å,Å,Å,Å,Å,Å,Å,Å,Å,Å,Å,Å,Å,Å,Å,Å,Å,Å,Å,Å,Å,Å,Å,Å,Å,Å,Å,Å,Å,Å,Å,Å,Å,Å,Å,Å,Å,Å,Å,Å,Å],[]⟩ [ö<|body_add L])<|c.at y (Ñ Q (i::jJ)::k)::qX):=by refine XW (Ψ:=λw=>fG (sH l b) l.w w) H ⟨Ã<|Ç<|Ã U,Ã<|Ç<|Ç U,λw n o t a g m h=>h.fg ⟨o,t,a,g,m⟩⟩ ⟨λj f=>s.fu j<|Ã f.1,⟨by rw[show(sH l b).w=l.w from rfl,e0];rfl,e1⟩,fG.fT _ _⟩ Y λn v=> .fB λp r=>⟨U,U,v.2.2.fg ⟨r.r,r.I,r.N,r.Y,r.S⟩⟩
 have hstart:=hW.QS S (λq=>q.elim (λz=>z.2 U) λz=>s.c b x z) (λy T e=>s.N y T<|Ã<|e▸x) U (s.fu b<|Ã x) (by rw[show(sH l b).w=l.w from rfl,e0];rfl) e1 λj f=>s.fu j<|Ã f.1;rw[show mW l (sH l b) b=l from Yz x l.w l.d]at hstart;apply hstart.mg;rintro l1 g1 ⟨E,⟨Bm,aio,hA⟩,rfl,YB,YC,tD,hlt1,ni,A9,lo1⟩;let⟨g2,YD,V⟩:=hA 0;have si:ê.wrap (0+fX)=fX:=by rw[show(0:Int)+fX=fX from rfl];exact Ja A A
 rw[si]at V YD;rw[if_pos U]at V;have hqx:¬E.q:=by rwa[A9]
 refine .mk aio λn r=> ?_;have F:=(r.I b<|Ã<|Ç U).trans<|ni.trans M;have c0:n.cell? (fM b)=Â (Ê ê 0):=by simp[Ö,fM,F,N]
 have asS:=È hlt1 r.r;have W:(n.setCell (fM b)<|Ê ê fX).heap[b]?=Â (É (C.setIfInBounds 0<|Ê ê 4294967296) ty):=by unfold þ;simp[í,fM,F,fX]
 have rx:fG E E.w (n.setCell (fM b)<|Ê ê fX):=by
  refine⟨by rw[jV];exact r.r,λj f=>((lj λe=>YB (by have t:j=b:=e;rwa[<-t])).trans<|r.I j<|f.imp Ã id),λa g=>(gJ<|lj<|YC a g).trans<|r.N a g,λa g=>sd.trans<|r.Y a g,λa g q=> ?_⟩
  .rw[tD]at g;refine yd ?_;rcases g with z|z|z
   .exact r.S a z q
   .rw[z,gJ<|r.I b<|Ã<|Ç U];rwa[z]at q
   .rw[z,gJ<|r.I b<|Ã<|Ç U];rwa[z]at q
 refine⟨g2,_,_,mW l {E with w:=n.setCell (fM b) (Ê ê fX)} b,YD n c0 (by simp[î,fM,F]),?_,?_⟩
 .refine⟨by rw[jV];exact Ú _,λ_ h=>Ã h,λj h=> ?_,U,U,U,U,λj _ o _=>lj λe=>o<|Ç e,λa _ o _=>gJ (lj λe=>o<|Ç e),λ_ _ _=>NN,U,U,U,λe t=> ?_,?_,U,λq=>absurd q hqx,U⟩
  .rw[jV];rcases h with h|h
   .exact È (lo1 j h) r.r
   .rwa[h]
  .have:e=kr (fM b)\/e=mI (fM b):=by simpa using t
   rcases this with rfl|rfl
   .exact Ã ⟨fM b,U,Ã<|Ç U⟩
   .exact Ã ⟨fM b,U,Ã<|Ç U⟩
  .exact(Ņ (λe t=>by
    have:e=kr (fM b)\/e=mI (fM b):=by simpa using t
    rcases this with rfl|rfl<;>exact⟨by simp[kr,mI],by simp[kr,mI]⟩) _).symm
 have z1:((n.setCell (fM b)<|Ê ê fX).cell? ⟨b,1,Á⟩).isSome=Ò:=by let⟨u,D⟩:=Ô.1 o;exact yd<|by simp[Ö,F,D]
 have aip:=(V.jY rx).QS S YB YC tD (by show b<(n.setCell (fM b)<|Ê ê fX).heap.size;rwa[jV]) (yd<|by rw[show(⟨b,0,Á⟩:â)=fM b from rfl,c0];rfl) z1 (λj f=>by show j<(n.setCell (fM b)<|Ê ê fX).heap.size;rw[jV];exact È (lo1 j f) r.r);apply aip.mg;rintro l2 g3 ⟨v,⟨oH,aiq,g4,air,hN2⟩,rfl,nM2,nC2,yw,Kn,X,pV,lo2⟩;have ais:¬v.q:=by rwa[pV]
 refine .mk aiq λp m=> ?_;have I:∀a:â,a.block=b->p.cell? a=v.w.cell? a:=λa e=>gJ<|m.I a.block<|Ã<|Ç e;have rx2:fG v v.w p:=⟨m.r,λj f=>m.I j<|f.imp Ã id,m.N,m.Y,λa g q=>by
  rw[yw]at g;rcases g with z|z|z
  .exact m.S a z q
  .rwa[I a (by rw[z])]
  .rwa[I a (by rw[z])]⟩
 refine⟨g4,p,_,mW l {v with w:=p} b,air p,?_,?_⟩
 .refine⟨Ú _,λ_ h=>Ã h,λj h=> ?_,U,U,U,U,λ_ _ _ _=>rfl,λ_ _ _ _=>rfl,λ_ _ _=>rfl,U,U,U,λe t=> ?_,?_,U,λq=>absurd q ais,U⟩
  .rcases h with h|h
   .exact È (lo2 j h) m.r
   .rw[h];exact È Kn m.r
  .have:e=jR (.read<|gV b):=by simpa using t
   rw[this];exact Ç<|Ç<|Ç<|Ç<|Ç ⟨gV b,Ç U,Ã U⟩
  .exact(Ņ (λe t=>by
    have:e=jR (.read<|gV b):=by simpa using t
    rw[this];exact⟨by simp[jR],by simp[jR]⟩) _).symm
 have z:(p.cell? ⟨b,0,Á⟩).isSome=Ò:=by rw[I _ U];have:v.w.heap[b]?=_:=X.trans W;simp[Ö,this,(æ.1 N).1]
 have y1:(p.cell? ⟨b,1,Á⟩).isSome=Ò:=by rw[I _ U];have:v.w.heap[b]?=_:=X.trans W;let⟨u,D⟩:=Ô.1 o;simp[Ö,this,(æ.1 D).1]
 have u:=(hN2.jY rx2).QS S nM2 nC2 yw (È Kn m.r) z y1 λj f=>È (lo2 j f) m.r;apply u.mg;rintro l3 g5 ⟨x3,⟨rfl,D,t⟩,rfl,nM3,nC3,hk3,ait,hb3,wP,lo3⟩;rw[D,Yz x];have QU:=hb3.trans<|(m.I b<|Ã<|Ç U).trans<|X.trans W;refine hT _ ⟨⟨λ_ h=>h,λ_ h=>Ã h,U,U,U,U,U,Y.symm,λj f=>È (s.fu j<|Ã f) t.r,t.r,λj f hn=>t.I j (f.imp (λq=>⟨q,hn⟩) id),t.N,t.Y,λa g=>t.S a<|Ã g⟩,U,QU⟩
end
noncomputable def QV:Ę:=kQ Ĝ [1,1,1]
noncomputable def YE:Ę:=kQ Ĝ [1,1,0,1,0,0,1,1,0,0,1,1,1]
noncomputable def QW:Ę:=kQ Ĝ [1,1,0,1,0,0,1,1,0,0,1,1,0,1]
noncomputable def GG:Ę:=kQ Ĝ [1,1,0,1,0,0]
noncomputable def QX:Ę:=kQ Ĝ [1,1,0,1,0,0,1,1,1]
noncomputable def Bn (t:Array Ï) (a:List é):Ý:=G ((base 46).at ⟨t,[]⟩ [ö GG,ą GG,ô 0,ö QV]) a
noncomputable def GH (t:Array Ï) (a:List é):Ý:=G ((base 46).at ⟨t,[]⟩ [ö QW,ö YE,ô 1,ö QX,ą GG,ô 0,ö QV]) a
structure PT(iv qv rs:Ï)(lg R i:Nat)(t:Array Ï):Prop where
 r:t.size=48
 N:t[4]?=Â iv
 S:t[5]?=Â qv
 Y:t[6]?=Â (À<|Â ⟨lg,0,Á⟩)
 C:t[13]?=Â rs
 I:t[14]?=Â (Ê Î R)
 M:t[15]?=Â (Ê Î i)
def Ko(t:Array Ï)(h:t.size=48):∃a b c d e f g i j k l m n o p q r s u v w x y z B C D E F G H I J K L M N O P Q S T V W X Y pR pS:Ï,t=#[a,b,c,d,e,f,g,i,j,k,l,m,n,o,p,q,r,s,u,v,w,x,y,z,B,C,D,E,F,G,H,I,J,K,L,M,N,O,P,Q,S,T,V,W,X,Y,pR,pS]:=by obtain⟨_,rfl⟩:=sx t h;exact⟨_,_,_,_,_,_,_,_,_,_,_,_,_,_,_,_,_,_,_,_,_,_,_,_,_,_,_,_,_,_,_,_,_,_,_,_,_,_,_,_,_,_,_,_,_,_,_,_,U⟩
def aiu(w:ß)(a c:Option â)(b:Int):(Ċ 155 #[(0,À a),(1,Ê Î b),(2,À c)]).run Ä w=.ok (Đ #[À a,Ê Î b,À c,À Á]) w:=run_build w 155 _ _ fO
def aiv(w:ß)(a c:Option â)(b:Int):(Ċ 155 #[(0,À a),(1,Ê Î b),(2,À c)]).events Ä w #[]=#[]:=by unfold Ċ;simp only[Sem.events_bind];simp[go_sem]
section
variable{p:Nat}{v0 v1 v2 v3:Ï}
def aiw(h:w.heap[p]?=Â (É #[v,x,z,jQ] e)):(iT w p v0 v1 v2 v3).heap[p]?=Â (É #[v0,v1,v2,v3] e):=by unfold iT þ;simp[í,h]
def gh.iT{l c:fc}(h:gh X l c)(s:gw l)(r:fG c c.w u)(f:l.w.heap.size<=p):gh X l {c with w:=fA.iT u p v0 v1 v2 v3}:=by
 have b:=h.G r;have e:∀{j:Nat},j<l.w.heap.size->(fA.iT u p v0 v1 v2 v3).heap[j]?=u.heap[j]?:=λ{j} q=>yC Z;refine⟨b.O,b.c,b.S,b.Y,b.b,b.K,b.q,b.d,λj q=> ?_,?_,λj q n=>(e<|s.fu j q).trans<|b.r j q n,λa q=>(gJ<|e<|s.I a q).trans<|b.f a q,λa q=>(wq<|e<|s.I a q).trans<|b.g a q,λa q z=> ?_⟩
 .show j<(fA.iT u p v0 v1 v2 v3).heap.size;rw[wM];exact b.fu j q
 .show l.w.heap.size<=(fA.iT u p v0 v1 v2 v3).heap.size;rw[wM];exact b.I
 .show((fA.iT u p v0 v1 v2 v3).cell? a).isSome=Ò;rw[gJ<|e (s.S a q).2.1];exact b.e a q z
def gZ.rly{l:fc}{o:Ÿ}(h:gZ l b o)(r:fG l l.w u):gZ {l with w:=u} b o:=⟨h.fl,(r.I b<|Ã h.fl).trans h.I⟩
end
section
variable{J:Jd}{l:fc}{t:Array Ï}{iv qv:Ï}{lg R:Nat}{kd:Int}
def aix(f:gw l)(o:¬l.q)(k:PT iv qv (Æ (Â ⟨j,0,Á⟩) R n) lg R i t)(YF:i<R)(hR:R<1000)(T:l.M j)(V:l.w.cell? ⟨j,i,Á⟩=Â (À<|Â ⟨b,0,Á⟩))(F:l.M b)(W:l.w.cell? ⟨b,4,Á⟩=Â (Ê Î kd)) (X:∀B u a,gh ff l B->l.w.heap.size<=a->gZ B a (É #[À<|Â ⟨b,0,Á⟩,Ê Î i,À<|Â ⟨lg,0,Á⟩,À Á] 155)->PT iv qv (Æ (Â ⟨j,0,Á⟩) R n) lg R i u->u[9]?=Â (À<|Â ⟨a,0,Á⟩)->u[28]?=Â (ŝ<|decide<|kd≠1)->fi Ä Ò J B (GH u qX)): fi Ä Ò J l (Bn t qX):=by
 obtain⟨y0,y1,y2,y3,G,H,Y,y7,y8,y9,wN,yF,wO,rp,sy,qy,vh,vi,tX,tY,tZ,sB,sC,sD,rf,sk,rh,o5,n7,pO,pP,pQ,tK,sr,su,ri,rj,tL,tM,tN,tO,tP,tR,tS,tT,tU,pR,pS,rfl⟩:=Ko t k.r;obtain rfl:iv=G:=(show G=iv by simpa using k.N).symm;obtain rfl:qv=H:=(show H=qv by simpa using k.S).symm;obtain rfl:Y=À (Â ⟨lg,0,Á⟩):=by simpa using k.Y
 obtain rfl:rp=Æ (Â ⟨j,0,Á⟩) R n:=by simpa using k.C
 obtain rfl:sy=Ê Î R:=by simpa using k.I
 obtain rfl:qy=Ê Î i:=by simpa using k.M
 have asT:(i:Int)<(R:Int):=Z
 have hF:True:=trivial;have ru:∀y:â,False->l.r y:=λy ha=>ha.elim;apply fW (n:=40) f.r;simp only[Bn];conv in GG=>whnf
 repeat w_go fw
 refine Ë λ_ _=> ?_;apply nh (x:=⟨j,i,Á⟩) U U (by k_ne) f.r o (Ã T) V (λw h=>by go_simp) (λw h=>by simp[go_sem,h]);walk_nrm;apply fW (n:=40) f.r;repeat w_go fw
 refine Ë λ_ _=> ?_;refine nP (v:=Đ #[À<|Â ⟨b,0,Á⟩,Ê Î i,À<|Â ⟨lg,0,Á⟩,À Á]) U U (by k_ne) f.r o (λc r=> ?_) (λc r e C=> ?_) ?_
 .have S:=aiu c (Â ⟨b,0,Á⟩) (Â ⟨lg,0,Á⟩) i;go_simp
 .simp[go_sem,aiv c (Â ⟨b,0,Á⟩) (Â ⟨lg,0,Á⟩) i]at C
 walk_nrm;refine Gb (ob:=É #[À Á,Ê Î 0,À Á,À Á] 155) U U (by k_ne) f.r o (λw=>by go_simp) (λw=>by simp[go_sem]) λc D=> ?_;walk_nrm;have s:gh ff l (gF l c<|É #[À Á,Ê Î 0,À Á,À Á] 155):=mM f D;have m:gZ (gF l c<|É #[À Á,Ê Î 0,À Á,À Á] 155) c.heap.size (É #[À Á,Ê Î 0,À Á,À Á] 155):=⟨Ç U,mL⟩;have E:l.w.heap.size<=c.heap.size:=D.r;generalize gF l c (É #[À Á,Ê Î 0,À Á,À Á] 155)=l₁ at s m|-;generalize c.heap.size=a at m E|-;have I:=s.N f;have K:¬l₁.q:=by rwa[s.q]
 refine ve U U (by k_ne) λd z=> ?_;have g:=m.rly z;replace g:d.heap[a]?=_:=g.I;have L:d.cell? ⟨a,0,Á⟩=Â (À Á):=by simp[Ö,g]
 have N:d.cell? ⟨a,1,Á⟩=Â (Ê Î 0):=by simp[Ö,g]
 have O:d.cell? ⟨a,2,Á⟩=Â (À Á):=by simp[Ö,g]
 have P:d.cell? ⟨a,3,Á⟩=Â (À Á):=by simp[Ö,g]
 have Q:∀r,d.frozen? ⟨a,r,Á⟩=Ì:=λr=>by simp[î,g]
 go_simp;refine⟨{l₁ with w:=iT d a (À<|Â ⟨b,0,Á⟩) (Ê Î i) (À<|Â ⟨lg,0,Á⟩) (À Á)},JX (p:=a) (mr I.r z) K m.fl wM (λr S=>yC S) ⟨U,U,U⟩ λe C=> ?_,?_⟩
 .have S:=đ C;have e:∀r,pT l₁ ⟨a,r,Á⟩:=λr=>Ã m.fl;simp[go_sem,á _ _ _ _ _ _ (show Ø (À<|Â ⟨b,0,Á⟩)=Ò from rfl),á _ _ _ _ _ _ (show Ø (À<|Â ⟨lg,0,Á⟩)=Ò from rfl),á _ _ _ _ _ _ (show Ø (À Á)=Ò from rfl),L,N,O,P,Q]at S;rcases S with rfl|rfl|rfl|rfl
  .exact(e _).r
  .exact(e _).r
  .exact(e _).r
  .exact(e _).r
 have e:gh ff l ({l₁ with w:=iT d a (À<|Â ⟨b,0,Á⟩) (Ê Î i) (À<|Â ⟨lg,0,Á⟩) (À Á)}:fc):=s.iT f z E;have S:gZ ({l₁ with w:=iT d a (À<|Â ⟨b,0,Á⟩) (Ê Î i) (À<|Â ⟨lg,0,Á⟩) (À Á)}:fc) a (É #[À<|Â ⟨b,0,Á⟩,Ê Î i,À<|Â ⟨lg,0,Á⟩,À Á] 155):=⟨m.fl,aiw g⟩;generalize({l₁ with w:=iT d a (À<|Â ⟨b,0,Á⟩) (Ê Î i) (À<|Â ⟨lg,0,Á⟩) (À Á)}:fc)=l₂ at e S|-;clear m s I K g L N O P Q z d l₁ D c;have C:=e.N f;apply fW (n:=20) C.r;repeat w_go fw
 refine Ë λ_ _=> ?_;apply nh (x:=⟨b,4,Á⟩) U U (by k_ne) C.r (by rwa[e.q]) (Ã<|e.M F) ((gJ<|e.r b F id).trans W) (λw h=>by go_simp) (λw h=>by simp[go_sem,h]);walk_nrm;apply fW (n:=20) C.r;iterate 2 w_go fw
 refine Ë λ_ _=> ?_;apply X l₂ _ a e E S ⟨U,U,U,U,U,U,U⟩ U;simp;rfl
end
section
variable{J:Jd}{l:fc}{xs:List Ï}
def aiy(s:gw l)(E:¬l.q)(o:PT v x z b j i d)(YF:i<j)(hR:j<1000)(h9:d[9]?=Â (À<|Â ⟨m,0,Á⟩))(QY:d[28]?=Â (ŝ Ò))(hn:n<1000) (h:gZ l m (É #[À<|Â ⟨k,0,Á⟩,Ê Î i,À<|Â ⟨b,0,Á⟩,À Á] 155)) (ly:l.w.ownsRow 0 155 4 x n xs) (K:∀a,x.ownBlock=Â a->l.O a) (hJ:∀B L t,gh (λf=>Â f=x.ownBlock) l B->B.w.ownsRow 0 155 4 t (n+1) (xs++[À<|Â ⟨k,0,Á⟩,Ê Î i,À<|Â ⟨b,0,Á⟩,À Á])->(∀a,t.ownBlock=Â a->B.O a)->(t.ownBlock=x.ownBlock\/∃a,t.ownBlock=Â a/\l.w.heap.size<=a)->PT v t z b j (i+1) L->fi Ä Ò J B (Bn L qX)): fi Ä Ò J l (GH d qX):=by
 obtain⟨y0,y1,y2,y3,M,N,y6,y7,y8,y9,wN,yF,wO,P,sy,qy,vh,vi,tX,tY,tZ,sB,sC,sD,rf,sk,rh,o5,n7,pO,pP,pQ,tK,sr,su,ri,rj,tL,tM,tN,tO,tP,tR,tS,tT,tU,pR,pS,rfl⟩:=Ko d o.r;obtain rfl:v=M:=(show M=v by simpa using o.N).symm;obtain rfl:x=N:=(show N=x by simpa using o.S).symm;obtain rfl:y6=À (Â ⟨b,0,Á⟩):=by simpa using o.Y
 obtain rfl:y9=À (Â ⟨m,0,Á⟩):=by simpa using h9
 obtain rfl:z=P:=(show P=z by simpa using o.C).symm;obtain rfl:sy=Ê Î j:=by simpa using o.I
 obtain rfl:qy=Ê Î i:=by simpa using o.M
 obtain rfl:n7=ŝ Ò:=by simpa using QY
 have hF:True:=trivial;apply fW (n:=40) s.r;simp only[GH];conv in QW=>whnf
 conv in QX=>whnf
 repeat w_go fw
 refine Ë λ_ _=> ?_;refine nP (v:=Đ #[À<|Â ⟨k,0,Á⟩,Ê Î i,À<|Â ⟨b,0,Á⟩,À Á]) U U (by k_ne) s.r E (λp r=> ?_) (λp r e y=> ?_) ?_
 .skip;have C:p.cell? ⟨m,0,Á⟩=Â (À<|Â ⟨k,0,Á⟩):=(gX.r (show gX l ⟨m,0,Á⟩from Ã<|Ã h.fl) r).trans<|h.C U;have D:p.cell? ⟨m,1,Á⟩=Â (Ê Î i):=(gX.r (show gX l ⟨m,1,Á⟩from Ã<|Ã h.fl) r).trans<|h.C U;have F:p.cell? ⟨m,2,Á⟩=Â (À<|Â ⟨b,0,Á⟩):=(gX.r (show gX l ⟨m,2,Á⟩from Ã<|Ã h.fl) r).trans<|h.C U;have G:p.cell? ⟨m,3,Á⟩=Â (À Á):=(gX.r (show gX l ⟨m,3,Á⟩from Ã<|Ã h.fl) r).trans<|h.C U;go_simp
 .have u:∀g,gX l ⟨m,g,Á⟩:=λg=>Ã<|Ã h.fl;have C:p.cell? ⟨m,0,Á⟩=Â (À<|Â ⟨k,0,Á⟩):=(gX.r (show gX l ⟨m,0,Á⟩from Ã<|Ã h.fl) r).trans<|h.C U;have D:p.cell? ⟨m,1,Á⟩=Â (Ê Î i):=(gX.r (show gX l ⟨m,1,Á⟩from Ã<|Ã h.fl) r).trans<|h.C U;have F:p.cell? ⟨m,2,Á⟩=Â (À<|Â ⟨b,0,Á⟩):=(gX.r (show gX l ⟨m,2,Á⟩from Ã<|Ã h.fl) r).trans<|h.C U;have G:p.cell? ⟨m,3,Á⟩=Â (À Á):=(gX.r (show gX l ⟨m,3,Á⟩from Ã<|Ã h.fl) r).trans<|h.C U;simp[go_sem,C,D,F,G]at y;rcases y with rfl|rfl|rfl|rfl
  .exact(u _).C
  .exact(u _).C
  .exact(u _).C
  .exact(u _).C
 walk_nrm;refine pd (V:=λp=>Æ (Â ⟨p,0,Á⟩) 1 1) (ob:=É #[À<|Â ⟨k,0,Á⟩,Ê Î i,À<|Â ⟨b,0,Á⟩,À Á] 155) U U (by k_ne) s.r E (λw=>by go_simp) (λw=>by simp[go_sem]) λr Q=> ?_;walk_nrm;have p:=mM (X:=ff) (ob:=É #[À<|Â ⟨k,0,Á⟩,Ê Î i,À<|Â ⟨b,0,Á⟩,À Á] 155) s Q;have y:gZ (gF l r<|É #[À<|Â ⟨k,0,Á⟩,Ê Î i,À<|Â ⟨b,0,Á⟩,À Á] 155) r.heap.size (É #[À<|Â ⟨k,0,Á⟩,Ê Î i,À<|Â ⟨b,0,Á⟩,À Á] 155):=⟨Ç U,mL⟩;have C:∀a,x.ownBlock=Â a->(gF l r<|É #[À<|Â ⟨k,0,Á⟩,Ê Î i,À<|Â ⟨b,0,Á⟩,À Á] 155).O a:=λa e=>Ã<|K a e;have F:=nR ly (w₁:=(gF l r<|É #[À<|Â ⟨k,0,Á⟩,Ê Î i,À<|Â ⟨b,0,Á⟩,À Á] 155).w) λa e=>p.r a (Ã<|K a e) id;generalize gF l r (É #[À<|Â ⟨k,0,Á⟩,Ê Î i,À<|Â ⟨b,0,Á⟩,À Á] 155)=l₄ at p y C F|-;generalize r.heap.size=px at y|-;have G:=p.N s;have S:¬l₄.q:=by rwa[p.q]
 have Dt:Ä.info? 155=Â Ą:=ļ;refine Gp (v:=x) (us:=[À<|Â ⟨k,0,Á⟩,Ê Î i,À<|Â ⟨b,0,Á⟩,À Á]) (px:=px) (c:=1) (n:=n) (sz:=4) (xs:=xs) (inf:=Ą) (z:=Đ #[À Á,Ê Î 0,À Á,À Á]) U U (by k_ne) G S U U U Ľ Dt U U Z U U (by simp[Ą];omega) (by simp only[œ];omega) F C y.fl (λg u D=>y.C<|by simpa using D) (by simp[Ø]) λu g D H T W Y ug=> ?_;walk_nrm;have k5:gh (λf=>Â f=x.ownBlock) l₄ (mN l₄ u D):=J4 G H W λa e=>⟨C a e,e.symm⟩;have I:gh (λf=>Â f=x.ownBlock) l (mN l₄ u D):=(p.fN λ_ _ q=>q.elim).fg k5;have QZ:g.ownBlock=x.ownBlock\/∃a,g.ownBlock=Â a/\l.w.heap.size<=a:=ug.imp id λq=>⟨_,q,Õ p.I H.r⟩;have wV:(mN l₄ u D).w.ownsRow 0 155 4 g (n+1) (xs++[À<|Â ⟨k,0,Á⟩,Ê Î i,À<|Â ⟨b,0,Á⟩,À Á]):=T;generalize mN l₄ u D=sG at I wV Y|-;clear p k5 W T ug y G S C F H Q;have rz:=I.N s;have hw:Î.wrap ((i:Int)+1)=((i+1:Nat):Int):=by rw[AZ Z Z];omega
 apply fW (n:=40) rz.r;repeat w_go fw
 refine Ë λ_ _=> ?_;refine hJ sG _ g I wV Y QZ ⟨U,U,U,U,U,U,?_⟩;simp[hw]
def aiz(G:gw l)(hq:¬l.q)(hd:l.d=0)(I:PT v x z b j i d)(YF:i<j)(hR:j<1000)(h9:d[9]?=Â (À<|Â ⟨m,0,Á⟩))(QY:d[28]?=Â (ŝ Ì))(hn:n<1000) (h0:gZ l m (É #[À<|Â ⟨k,0,Á⟩,Ê Î i,À<|Â ⟨b,0,Á⟩,À Á] 155)) (ly:l.w.ownsRow 0 155 4 v n xs) (hO:∀f,v.ownBlock=Â f->l.O f) (sE:v.ownBlock≠Â m) (hJ:∀T t' W s,gh (λg=>Â g=v.ownBlock\/g=m) l T->T.w.ownsRow 0 155 4 W (n+1) (xs++[À<|Â ⟨k,0,Á⟩,Ê Î i,À<|Â ⟨b,0,Á⟩,À<|Â ⟨s,0,Á⟩])->(∀f,W.ownBlock=Â f->T.O f)->(W.ownBlock=v.ownBlock\/∃f,W.ownBlock=Â f/\s<f)->l.w.heap.size<=s->gZ T s (É #[Ê ê 4294967296,Ê Ď 0,Æ Á 0 0] 105)->PT W x z s j (i+1) t'->fi Ä Ò J T (Bn t' qX)): fi Ä Ò J l (GH d qX):=by
 obtain⟨y0,y1,y2,y3,y4,y5,y6,y7,y8,y9,wN,yF,wO,rp,sy,qy,vh,vi,tX,tY,tZ,sB,sC,sD,rf,sk,rh,o5,n7,pO,pP,pQ,tK,sr,su,ri,rj,tL,tM,tN,tO,tP,tR,tS,tT,tU,pR,pS,rfl⟩:=Ko d I.r;obtain rfl:v=y4:=(show y4=v by simpa using I.N).symm;obtain rfl:x=y5:=(show y5=x by simpa using I.S).symm;obtain rfl:y6=À (Â ⟨b,0,Á⟩):=by simpa using I.Y
 obtain rfl:y9=À (Â ⟨m,0,Á⟩):=by simpa using h9
 obtain rfl:z=rp:=(show rp=z by simpa using I.C).symm;obtain rfl:sy=Ê Î j:=by simpa using I.I
 obtain rfl:qy=Ê Î i:=by simpa using I.M
 obtain rfl:n7=ŝ Ì:=by simpa using QY
 have hF:True:=trivial;apply fW (n:=40) G.r;simp only[GH];conv in QW=>whnf
 conv in YE=>whnf
 conv in QX=>whnf
 repeat w_go fw
 refine Ë λ_ _=> ?_;refine Gb (ob:=É #[Ê ê 0,Ê Ď 0,Æ Á 0 0] 105) U U (by k_ne) G.r hq (λw=>by go_simp) (λw=>by simp[go_sem]) λD oE=> ?_;walk_nrm;have t:gh ff l (gF l D<|É #[Ê ê 0,Ê Ď 0,Æ Á 0 0] 105):=mM G oE;have F:gZ (gF l D<|É #[Ê ê 0,Ê Ď 0,Æ Á 0 0] 105) D.heap.size (É #[Ê ê 0,Ê Ď 0,Æ Á 0 0] 105):=⟨Ç U,mL⟩;have GI:l.w.heap.size<=D.heap.size:=oE.r;generalize gF l D (É #[Ê ê 0,Ê Ď 0,Æ Á 0 0] 105)=l₁ at t F|-;generalize D.heap.size=s at F GI|-;clear oE D;have wT:=t.N G;have A9:¬l₁.q:=by rwa[t.q]
 have htl:m<l.w.heap.size:=G.fu m<|Ã h0.fl;have t1:=h0.r t id;apply fW (n:=40) wT.r;iterate 7 w_go fw
 u_call qx.f_add (nm_add Lk) addFn fw hF
 refine Ë λ_ _=> ?_;refine YA qx wT A9 (by rwa[t.d]) F.fl F.I U U λy hC=> ?_;walk_nrm;have E:gh (λg=>g=s) l₁ y:=hC.r;have Kp:gh ff l y:=⟨λf q=>E.O f<|t.O f q,λf q=>(E.c f q).elim (t.c f) λh=>Ç<|Õ t.I h,E.S.trans t.S,E.Y.trans t.Y,E.b.trans t.b,E.K.trans t.K,E.q.trans t.q,E.d.trans t.d,E.fu,Õ t.I E.I,λo Y nx=>(E.r o (t.M Y) λe=>by have:=G.fu o Y;omega).trans<|t.r o Y nx,λa H=>(E.f a<|by rwa[t.C]).trans<|t.f a H,λa H=>(E.g a<|by rwa[t.C]).trans<|t.g a H,λa H h=>E.e a (by rwa[t.K])<|t.e a H h⟩;have L:=t1.r E Z;have N:gZ y s (É #[Ê ê 4294967296,Ê Ď 0,Æ Á 0 0] 105):=⟨E.O s F.fl,hC.C⟩;have rv:=Kp.N G;have pV:¬y.q:=by rwa[Kp.q]
 have hgl:s<y.w.heap.size:=rv.fu s<|Ã N.fl;clear hC E t1 F t wT A9 l₁;apply fW (n:=40) rv.r;iterate 5 w_go fw
 refine Ë λ_ _=> ?_;refine Gn (p:=m) (off:=3) (v:=À<|Â ⟨s,0,Á⟩) (u:=À Á) U U (by k_ne) rv.r pV L.fl (L.C U) (by simp[î,L.I]) U (λw r S=>by go_simp) (λw r S=>by simp[go_sem,á _ _ _ _ _ _ (show Ø (À<|Â ⟨s,0,Á⟩)=Ò from rfl),r,S]) ?_;have P:gh (λg=>g=m) l {y with w:=y.w.setCell ⟨m,3,Á⟩ (À<|Â ⟨s,0,Á⟩)}:=(Kp.fN λ_ _ q=>q.elim).fg (J3 (p:=m) rv (fG.fT _ _) L.fl U jV λo Y=>lj Y);have B:gZ {y with w:=y.w.setCell ⟨m,3,Á⟩ (À<|Â ⟨s,0,Á⟩)} m (É #[À<|Â ⟨k,0,Á⟩,Ê Î i,À<|Â ⟨b,0,Á⟩,À<|Â ⟨s,0,Á⟩] 155):=⟨L.fl,by show(y.w.setCell ⟨m,3,Á⟩<|À<|Â ⟨s,0,Á⟩).heap[m]?=_;unfold þ;simp[í,L.I]⟩;have g3:gZ {y with w:=y.w.setCell ⟨m,3,Á⟩ (À<|Â ⟨s,0,Á⟩)} s (É #[Ê ê 4294967296,Ê Ď 0,Æ Á 0 0] 105):=⟨N.fl,(lj<|by show s≠m;omega).trans N.I⟩;have aiA:s<({y with w:=y.w.setCell ⟨m,3,Á⟩ (À<|Â ⟨s,0,Á⟩)}:fc).w.heap.size:=by show s<(y.w.setCell ⟨m,3,Á⟩<|À<|Â ⟨s,0,Á⟩).heap.size;rwa[jV]
 generalize({y with w:=y.w.setCell ⟨m,3,Á⟩ (À<|Â ⟨s,0,Á⟩)}:fc)=ko at P B g3 aiA|-;clear L N Kp rv pV hgl y;have Q:=P.N G;have wP:¬ko.q:=by rwa[P.q]
 have Du:∀f,v.ownBlock=Â f->ko.O f:=λf e=>P.O f<|hO f e;have Kf:ko.w.ownsRow 0 155 4 v n xs:=nR ly λf e=>P.r f (Ã<|hO f e) λh=>sE<|h▸e;apply fW (n:=40) Q.r;iterate 3 w_go fw
 refine Ë λ_ _=> ?_;refine nP (v:=Đ #[À<|Â ⟨k,0,Á⟩,Ê Î i,À<|Â ⟨b,0,Á⟩,À<|Â ⟨s,0,Á⟩]) U U (by k_ne) Q.r wP (λD r=> ?_) (λD r e he=> ?_) ?_
 .skip;have g0:D.cell? ⟨m,0,Á⟩=Â (À<|Â ⟨k,0,Á⟩):=(gX.r (show gX ko ⟨m,0,Á⟩from Ã<|Ã B.fl) r).trans<|B.C U;have F:D.cell? ⟨m,1,Á⟩=Â (Ê Î i):=(gX.r (show gX ko ⟨m,1,Á⟩from Ã<|Ã B.fl) r).trans<|B.C U;have N:D.cell? ⟨m,2,Á⟩=Â (À<|Â ⟨b,0,Á⟩):=(gX.r (show gX ko ⟨m,2,Á⟩from Ã<|Ã B.fl) r).trans<|B.C U;have g3:D.cell? ⟨m,3,Á⟩=Â (À<|Â ⟨s,0,Á⟩):=(gX.r (show gX ko ⟨m,3,Á⟩from Ã<|Ã B.fl) r).trans<|B.C U;go_simp
 .have S:∀o,gX ko ⟨m,o,Á⟩:=λo=>Ã<|Ã B.fl;have g0:D.cell? ⟨m,0,Á⟩=Â (À<|Â ⟨k,0,Á⟩):=(gX.r (show gX ko ⟨m,0,Á⟩from Ã<|Ã B.fl) r).trans<|B.C U;have F:D.cell? ⟨m,1,Á⟩=Â (Ê Î i):=(gX.r (show gX ko ⟨m,1,Á⟩from Ã<|Ã B.fl) r).trans<|B.C U;have N:D.cell? ⟨m,2,Á⟩=Â (À<|Â ⟨b,0,Á⟩):=(gX.r (show gX ko ⟨m,2,Á⟩from Ã<|Ã B.fl) r).trans<|B.C U;have g3:D.cell? ⟨m,3,Á⟩=Â (À<|Â ⟨s,0,Á⟩):=(gX.r (show gX ko ⟨m,3,Á⟩from Ã<|Ã B.fl) r).trans<|B.C U;simp[go_sem,g0,F,N,g3]at he;rcases he with rfl|rfl|rfl|rfl
  .exact(S _).C
  .exact(S _).C
  .exact(S _).C
  .exact(S _).C
 walk_nrm;refine pd (V:=λp=>Æ (Â ⟨p,0,Á⟩) 1 1) (ob:=É #[À<|Â ⟨k,0,Á⟩,Ê Î i,À<|Â ⟨b,0,Á⟩,À<|Â ⟨s,0,Á⟩] 155) U U (by k_ne) Q.r wP (λw=>by go_simp) (λw=>by simp[go_sem]) λS Ba=> ?_;walk_nrm;have r:=mM (X:=ff) (ob:=É #[À<|Â ⟨k,0,Á⟩,Ê Î i,À<|Â ⟨b,0,Á⟩,À<|Â ⟨s,0,Á⟩] 155) Q Ba;have p4:gZ (gF ko S<|É #[À<|Â ⟨k,0,Á⟩,Ê Î i,À<|Â ⟨b,0,Á⟩,À<|Â ⟨s,0,Á⟩] 155) S.heap.size (É #[À<|Â ⟨k,0,Á⟩,Ê Î i,À<|Â ⟨b,0,Á⟩,À<|Â ⟨s,0,Á⟩] 155):=⟨Ç U,mL⟩;have wU:∀f,v.ownBlock=Â f->(gF ko S<|É #[À<|Â ⟨k,0,Á⟩,Ê Î i,À<|Â ⟨b,0,Á⟩,À<|Â ⟨s,0,Á⟩] 155).O f:=λf e=>Ã<|Du f e;have Bb:=nR Kf (w₁:=(gF ko S<|É #[À<|Â ⟨k,0,Á⟩,Ê Î i,À<|Â ⟨b,0,Á⟩,À<|Â ⟨s,0,Á⟩] 155).w) λf e=>r.r f (Ã<|Du f e) id;generalize gF ko S (É #[À<|Â ⟨k,0,Á⟩,Ê Î i,À<|Â ⟨b,0,Á⟩,À<|Â ⟨s,0,Á⟩] 155)=l₄ at r p4 wU Bb|-;generalize S.heap.size=px at p4|-;have yL:=r.N Q;have Bc:¬l₄.q:=by rwa[r.q]
 have Dt:Ä.info? 155=Â Ą:=ļ;refine Gp (v:=v) (us:=[À<|Â ⟨k,0,Á⟩,Ê Î i,À<|Â ⟨b,0,Á⟩,À<|Â ⟨s,0,Á⟩]) (px:=px) (c:=1) (n:=n) (sz:=4) (xs:=xs) (inf:=Ą) (z:=Đ #[À Á,Ê Î 0,À Á,À Á]) U U (by k_ne) yL Bc U U U Ľ Dt U U Z U U (by simp[Ą];omega) (by simp only[œ];omega) Bb wU p4.fl (λo u hu=>p4.C<|by simpa using hu) (by simp[Ø]) λsF A8 Kq Bd pG GD Be ug=> ?_;walk_nrm;have k5:gh (λg=>Â g=v.ownBlock) l₄ (mN l₄ sF Kq):=J4 yL Bd GD λf e=>⟨wU f e,e.symm⟩;have vl:gh (λg=>Â g=v.ownBlock) ko (mN l₄ sF Kq):=(r.fN λ_ _ q=>q.elim).fg k5;have QZ:A8.ownBlock=v.ownBlock\/∃f,A8.ownBlock=Â f/\ko.w.heap.size<=f:=ug.imp id λq=>⟨_,q,Õ r.I Bd.r⟩;have wV:(mN l₄ sF Kq).w.ownsRow 0 155 4 A8 (n+1) (xs++[À<|Â ⟨k,0,Á⟩,Ê Î i,À<|Â ⟨b,0,Á⟩,À<|Â ⟨s,0,Á⟩]):=pG;generalize mN l₄ sF Kq=sG at vl wV Be|-;clear r k5 GD pG ug p4 yL Bc wU Bb Bd Ba;have rz:=vl.N Q;have hw:Î.wrap ((i:Int)+1)=((i+1:Nat):Int):=by rw[AZ Z Z];omega
 have g5:=g3.r vl<|Yq ly GI;have Bf:gh (λg=>Â g=v.ownBlock\/g=m) l sG:=(P.fN λ_ _ q=>Ç q).fg (vl.fN λ_ _ q=>Ã q);apply fW (n:=40) rz.r;repeat w_go fw
 refine Ë λ_ _=> ?_;refine hJ sG _ A8 s Bf wV Be (QZ.imp id λ⟨f,q1,q2⟩=>⟨f,q1,Z⟩) GI g5 ⟨U,U,U,U,U,U,?_⟩;simp[hw]
end
def hD(kd:Nat->Int)(i:Nat):List Nat:=(ã i).filter λj=>decide<|kd j=1
def jv(kd:Nat->Int)(i:Nat):List Nat:=(ã i).filter λj=>decide<|kd j≠1
def fL(kd:Nat->Int)(i:Nat):Nat:=(hD kd i).length
def tI(a g:Nat->Nat)(p:Nat×Nat):List Ï:=[À<|Â ⟨a p.1,0,Á⟩,Ê Î p.1,À<|Â ⟨g p.2,0,Á⟩,À<|Â ⟨g<|p.2+1,0,Á⟩]
def tQ(kd:Nat->Int)(a g:Nat->Nat)(p:Nat):List Ï:=[À<|Â ⟨a p,0,Á⟩,Ê Î p,À<|Â ⟨g<|fL kd p,0,Á⟩,À Á]
def jK(kd:Nat->Int)(rq g:Nat->Nat)(i:Nat):List Ï:=(hD kd i).zipIdx.flatMap<|tI rq g
def my(kd:Nat->Int)(a g:Nat->Nat)(i:Nat):List Ï:=(jv kd i).flatMap<|tQ kd a g
section
variable{kd:Nat->Int}{rq g:Nat->Nat}
def sI(h:kd i=1):hD kd (i+1)=hD kd i++[i]:=by simp[hD,ÿ,ā,h]
def vm(h:kd i≠1):hD kd (i+1)=hD kd i:=by simp[hD,ÿ,ā,h]
def Q0(h:kd i=1):jv kd (i+1)=jv kd i:=by simp[jv,ÿ,ā,h]
theorem Q5(h:kd i≠1):jv kd (i+1)=jv kd i++[i]:=by simp[jv,ÿ,ā,h]
def Q6:∀i,fL kd i<=i:=λi=>by unfold fL hD;exact Õ (ģ _ _) fp
def aiB:∀i,(jv kd i).length<=i:=λi=>by unfold jv;exact Õ (ģ _ _) fp
def YG(h:j<=i):fL kd j<=fL kd i:=by
 induction i with
 |zero=>
  have:j=0:=Z
  rw[this];exact Ú _
 |succ i c=>
  by_cases e:j=i+1
  .rw[e];exact Ú _
  .have a:=c Z;by_cases b:kd i=1
   .unfold fL at a|-;rw[sI b];simp;omega
   .unfold fL at a|-;rwa[vm b]
def aiC(h:kd i=1):jK kd rq g (i+1)=jK kd rq g i++tI rq g (i,fL kd i):=by unfold jK;rw[sI h,List.zipIdx_append,List.flatMap_append];simp[fL]
def aiD(h:kd i≠1):jK kd rq g (i+1)=jK kd rq g i:=by unfold jK;rw[vm h]
def aiE(h:kd i=1):my kd rq g (i+1)=my kd rq g i:=by unfold my;rw[Q0 h]
theorem aiF(h:kd i≠1):my kd rq g (i+1)=my kd rq g i++tQ kd rq g i:=by unfold my;grind [Q5]
def Q7{α:Type}{f a:α->List Ï}:∀(l:List α),(∀x∈l,f x=a x)->l.flatMap f=l.flatMap a
 |[],_=>rfl
 |x::l,h=>by rw[Ć,Ć,h x List.mem_cons_self,Q7 l λy b=>h y<|List.mem_cons_of_mem _ b]
def aiG(h:∀k,k<=fL kd i->D k=g k):jK kd rq D i=jK kd rq g i:=by
 unfold jK;refine Q7 _ λx a=> ?_;let⟨p,k⟩:=x;have b:=(List.mem_zipIdx a).2.1;have c:k<fL kd i:=by unfold fL;omega
 simp[tI,h k Z,h (k+1) Z]
def aiH(h:∀k,k<=fL kd i->D k=g k):my kd rq D i=my kd rq g i:=by
 unfold my;refine Q7 _ λp a=> ?_;have b:p<i:=by have:=(Ā.1 a).1;simpa using this
 simp[tQ,h (fL kd p)<|YG Z]
def Q8{α:Type}{f:α->List Ï}(a:∀x,(f x).length=4)(b:i<4):∀(l:List α) (k:Nat) (x:α),l[k]?=Â x->(l.flatMap f)[k*4+i]?=(f x)[i]?
 |[],k,x,h=>by simp at h
 |y::l,0,x,h=>by
  obtain rfl:y=x:=by simpa using h
  rw[Ć,List.getElem?_append_left (by rw[a];omega)];simp
 |y::l,k+1,x,h=>by rw[Ć,List.getElem?_append_right (by rw[a];omega),a,show(k+1)*4+i-4=k*4+i by omega];exact Q8 a b l k x<|by simpa using h
end
section
variable{Y:Nat->Prop}{l m o:fc}
def gh.vn(h:gh X l m)(k:gh Y m o)(e:∀j,l.M j->¬Y j):gh X l o:= ⟨λj q=>k.O j<|h.O j q,λj q=>(k.c j q).elim (h.c j) λz=>Ç<|Õ h.I z,k.S.trans h.S,k.Y.trans h.Y,k.b.trans h.b,k.K.trans h.K,k.q.trans h.q,k.d.trans h.d,k.fu,Õ h.I k.I,λj c f=>(k.r j (h.M c)<|e j c).trans<|h.r j c f,λa b=>(k.f a<|by rwa[h.C]).trans<|h.f a b,λa b=>(k.g a<|by rwa[h.C]).trans<|h.g a b,λa b z=>k.e a (by rwa[h.K])<|h.e a b z⟩
end
abbrev Q9:Ÿ:=É #[Ê ê 4294967296,Ê Ď 0,Æ Á 0 0] 105
structure yM(kd:Nat->Int)(rq g:Nat->Nat)(S i:Nat)(iv qv:Ï)(l0 l:fc):Prop where
 r:gh ff l0 l
 jK:l.w.ownsRow 0 155 4 iv (fL kd i) (jK kd rq g i)
 my:l.w.ownsRow 0 155 4 qv (jv kd i).length (my kd rq g i)
 C:∀k,iv.ownBlock=Â k->l.O k/\l0.w.heap.size<=k
 I:∀k,qv.ownBlock=Â k->l.O k/\l0.w.heap.size<=k
 M:∀k,iv.ownBlock=Â k->qv.ownBlock≠Â k
 N:∀k,1<=k->k<=fL kd i->gZ l (g k) Q9/\l0.w.heap.size<=g k/\iv.ownBlock≠Â (g k)/\qv.ownBlock≠Â (g k)
 g0:g 0<l0.w.heap.size
 S:g 0=S
 Y:∀k k',k<k'->k'<=fL kd i->g k<g k'
section
variable{kd:Nat->Int}{rq g:Nat->Nat}{iv qv:Ï}{l0 l m o:fc}
theorem yM.aiI(h:yM kd rq g n i iv qv l0 l)(C:gw l0)(s:gw l)(t:kd i≠1)(a:gh ff l m)(d:gh (λb=>Â b=qv.ownBlock) m o)(G:o.w.ownsRow 0 155 4 v ((jv kd i).length+1) (fA.my kd rq g i++tQ kd rq g i))(D:∀k,v.ownBlock=Â k->o.O k)(u:v.ownBlock=qv.ownBlock\/∃k,v.ownBlock=Â k/\m.w.heap.size<=k):yM kd rq g n (i+1) iv v l0 o:=by
 have p:fL kd (i+1)=fL kd i:=by unfold fL;rw[vm t]
 have x:∀{j},l.O j->qv.ownBlock≠Â j->v.ownBlock≠Â j:=λ{j} c hn e=>by
  rcases u with z|⟨k,q,B⟩
  .grind
  .rw[q]at e;have:=Ó e;have:=(λc=>È (s.fu _<|Ã c) a.I) c;omega
 refine⟨(h.r.fg a).vn d λj c e=> ?_,?_,?_,λk e=>⟨d.O k<|a.O k (h.C k e).1,(h.C k e).2⟩,λk e=>⟨D k e,?_⟩,λk e=>x (h.C k e).1<|h.M k e,λk r f=> ?_,h.g0,h.S,λk y r f=>h.Y k y r<|by rwa[<-p]⟩
 .have:=(h.I j e.symm).2;have:=C.fu j c;omega
 .rw[p,aiD t];refine nR h.jK λk e=>(d.r k (Ã<|a.O k (h.C k e).1) λz=>h.M k e z.symm).trans<|a.r k (Ã (h.C k e).1) id
 .grind [Q5,aiF]
 .rcases u with z|⟨y,q,B⟩
  .rw[z]at e;exact(h.I k e).2
  .rw[q]at e;have:=Ó e;have:=h.r.I;have:=a.I;omega
 .rw[p]at f;let⟨q,E,F,B⟩:=h.N k r f;exact⟨(q.r a id).r d λz=>B z.symm,E,F,x q.fl B⟩
theorem yM.kF{tb:Nat}(h:yM kd rq g n i iv qv l0 l)(F:gw l0)(s:gw l)(a:kd i=1)(c:gh ff l m)(P:l.w.heap.size<=tb)(p:gh (λb=>Â b=iv.ownBlock\/b=tb) m o)(G:o.w.ownsRow 0 155 4 v (fL kd i+1) (fA.jK kd rq g i++[À<|Â ⟨rq i,0,Á⟩,Ê Î i,À<|Â ⟨g<|fL kd i,0,Á⟩,À<|Â ⟨J,0,Á⟩]))(H:∀k,v.ownBlock=Â k->o.O k)(u:v.ownBlock=iv.ownBlock\/∃k,v.ownBlock=Â k/\J<k)(Q:m.w.heap.size<=J)(I:gZ o J Q9):yM kd rq (λk=>if k<=fL kd i then g k else J) n (i+1) v qv l0 o:=by
 have x:fL kd (i+1)=fL kd i+1:=by unfold fL;rw[sI a];simp
 have S:=h.r.I;have T:=c.I;have d:∀{j},l.O j->j<l.w.heap.size:=λq=>s.fu _<|Ã q;have B:∀{j},l.O j->iv.ownBlock≠Â j->v.ownBlock≠Â j:=λ{j} q hn e=>by grind
 have C:∀k,k<=fL kd i->(if k<=fL kd i then g k else J)=g k:=λk a=>if_pos a;refine⟨(h.r.fg c).vn p λj q e=> ?_,?_,?_,λk e=>⟨H k e,?_⟩,λk e=>⟨p.O k<|c.O k (h.I k e).1,(h.I k e).2⟩,λk e z=>B (h.I k z).1 (λy=>h.M k y z) e,λk t D=> ?_,?_,?_,λk r t D=> ?_⟩
 .have:=F.fu j q;rcases e with e|e
  .have:=(h.C j e.symm).2;omega
  .omega
 .rw[x,aiC a,aiG C];simpa[tI,show¬(fL kd i+1<=fL kd i) by omega]using G
 .rw[Q0 a,aiE a,aiH C];refine nR h.my λk e=> ?_;refine(p.r k (Ã<|c.O k (h.I k e).1) ?_).trans<|c.r k (Ã (h.I k e).1) id;rintro(z|z)
  .exact h.M k z.symm e
  .have:=d (h.I k e).1;omega
 .rcases u with z|⟨r,K,L⟩
  .rw[z]at e;exact(h.C k e).2
  .grind
 .by_cases y:k<=fL kd i
  .simp only[if_pos y];let⟨f,M,E,N⟩:=h.N k t y;refine⟨(f.r c id).r p ?_,M,B f.fl E,N⟩;rintro(z|z)
   .exact E z.symm
   .have:=d f.fl;omega
  .simp only[if_neg y];refine⟨I,Z,λe=> ?_,λe=> ?_⟩
   .rcases u with z|⟨r,K,L⟩
    .rw[z]at e;have:=d (h.C J e).1;omega
    .grind
   .have:=d (h.I J e).1;omega
 .simp only[ă,if_true];exact h.g0
 .simp only[ă,if_true];exact h.S
 .rw[x]at D;by_cases y:r<=fL kd i
  .simp only[if_pos y,if_pos (show k<=fL kd i by omega)];exact h.Y k r t y
  .simp only[if_neg y,if_pos (show k<=fL kd i by omega)];by_cases E:k=0
   .subst E;have:=h.g0;omega
   .let⟨f,_⟩:=h.N k Z Z;have:=d f.fl;omega
end
section
variable{J:Jd}{ra:Option â}{rb cr R:Nat}{cs:List é}{kd:Nat->Int}{rq:Nat->Nat}{l0:fc}
def Ra(j:gw l0)(u:¬l0.q)(v:l0.d=0)(m:R<1000)(p:0<R->ra=Â ⟨rb,0,Á⟩)(x:0<R->l0.M rb)(y:∀i,i<R->l0.w.cell? ⟨rb,i,Á⟩=Â (À<|Â ⟨rq i,0,Á⟩))(r:∀i,i<R->l0.M (rq i))(z:∀i,i<R->l0.w.cell? ⟨rq i,4,Á⟩=Â (Ê Î<|kd i)) (B:∀g N P a b,yM kd rq g n R a b l0 N->PT a b (Æ ra R cr) (g<|fL kd R) R R P->fi Ä Ò J N (Bn P cs)): ∀d i,R=i+d->∀g l t a b,yM kd rq g n i a b l0 l->PT a b (Æ ra R cr) (g<|fL kd i) R i t->fi Ä Ò J l (Bn t cs)
 |0,i,hi,g,l,t,a,b,hP,hT=>by obtain rfl:R=i:=hi;exact B g l t a b hP hT
 |d+1,i,hi,g,l,t,a,b,hP,hT=>by
  have f:i<R:=Z
  have o:=hP.r.N j;have Q:¬l.q:=by rwa[hP.r.q]
  have S:=x Z;refine aix o Q (by rwa[<-p Z]) f m (hP.r.M S) ((gJ<|hP.r.r rb S id).trans<|y i f) (hP.r.M<|r i f) ((gJ<|hP.r.r _ (r i f) id).trans<|z i f) λl1 t1 T c sE V C W s=> ?_;rw[<-p Z]at C;have X:=c.N o;have Y:¬l1.q:=by rwa[c.q]
  have hc:=Q6 (kd:=kd) i;have hcq:=aiB (kd:=kd) i;by_cases h:kd i=1
  .rw[decide_eq_false (by simpa using h)]at s;refine aiz X Y (by rwa[c.d,hP.r.d]) C f m W s Z V (nR hP.jK λk e=>c.r k (Ã (hP.C k e).1) id) (λk e=>c.O k (hP.C k e).1) (λe=>by have:=o.fu T<|Ã (hP.C T e).1;omega) λD E iv' gt F G H I GI hg K=> ?_;apply Ra j u v m p x y r z B d (i+1) Z _ D E iv' b (hP.kF j o h c sE F G H I GI hg);have L:fL kd (i+1)=fL kd i+1:=by unfold fL;rw[sI h];simp
   rw[L];simp only[show¬(fL kd i+1<=fL kd i) by omega,if_false];exact K
  .rw[decide_eq_true (by simpa using h)]at s;refine aiy X Y C f m W s Z V (nR hP.my λk e=>c.r k (Ã (hP.I k e).1) id) (λk e=>c.O k (hP.I k e).1) λD E e F G H I K=> ?_;apply Ra j u v m p x y r z B d (i+1) Z _ D E a e (hP.aiI j o h c F G H I);have L:fL kd (i+1)=fL kd i:=by unfold fL;rw[vm h]
   rwa[L]
end
noncomputable def YH:Ę:=kQ Ĝ []
noncomputable def YI (a b:Ï) (c:List é):Ý:=G ((base 46).at ⟨#[a,b,Å,Å,Å,Å,Å,Å,Å,Å,Å,Å,Å,Å,Å,Å,Å,Å,Å,Å,Å,Å,Å,Å,Å,Å,Å,Å,Å,Å,Å,Å,Å,Å,Å,Å,Å,Å,Å,Å,Å,Å,Å,Å,Å,Å,Å,Å],[]⟩ [ö YH]) c
def aiJ{c:é}{d:ŏ}{k:List ŷ}{K:Ý->ß->Array ž->Prop}{t u v:Tmp}(g:f.kind=Ğ)(j:y.defers=[])(l:P.funcs[f.fn]?=Â s)(e:s.results=#[.tmp t,.tmp u,.tmp v]) (h:K (G (c.at (d.put ((Q[i]?).bind (·.dst))<|ñ #[y.tmps.getD t Å,y.tmps.getD u Å,y.tmps.getD v Å])<|Ñ Q jJ::k) qX) w #[]): (stepG P yQ (G {f.at y L with mode:=.returning}<|c.at d (Ñ Q (i::jJ)::k)::qX) w).goes K:=by rwa[stepG_leave g j l (v:=ñ #[y.tmps.getD t Å,y.tmps.getD u Å,y.tmps.getD v Å]) (by simp[results,e,go_sem]) (by simp[results,e,go_sem]),Ģ]
structure GJ(kd:Nat->Int)(rq g:Nat->Nat)(R:Nat)(iv qv sv:Ï)(l l':fc):Prop where
 Y:gh ff l l'
 jK:l'.w.ownsRow 0 155 4 iv (fL kd R) (jK kd rq g R)
 my:l'.w.ownsRow 0 155 4 qv (jv kd R).length (my kd rq g R)
 r:∀k,iv.ownBlock=Â k->l'.O k/\l.w.heap.size<=k
 C:∀k,qv.ownBlock=Â k->l'.O k/\l.w.heap.size<=k
 dis:∀k,iv.ownBlock=Â k->qv.ownBlock≠Â k
 N:gZ l' (g 0) (É #[Ê ê 0,Ê Ď 0,sv] 105)
 I:∀k,1<=k->k<=fL kd R->gZ l' (g k) Q9
 M:∀k,k<=fL kd R->l.w.heap.size<=g k/\iv.ownBlock≠Â (g k)/\qv.ownBlock≠Â (g k)
 S:∀k k',k<k'->k'<=fL kd R->g k<g k'
def aiK(w:ß)(a:Option â)(b c:Nat):(Ċ 105 #[(1,Æ a b c)]).run Ä w=.ok (Đ #[Ê ê 0,Ê Ď 0,Æ a b c]) w:=run_build w 105 _ _ fO
def aiL(w:ß)(a:Option â)(b c:Nat):(Ċ 105 #[(1,Æ a b c)]).events Ä w #[]=#[]:=by unfold Ċ;simp only[Sem.events_bind];simp[go_sem]
section
variable{J:Jd}{l:fc}{ra:Option â}{rb cr R:Nat}{sa:Option â}{sn sc:Nat}{k:List ŷ}{kd:Nat->Int}{rq:Nat->Nat}
def aiM(j:gw l)(u:¬l.q)(I:l.d=0)(K:R<1000)(L:0<R->ra=Â ⟨rb,0,Á⟩)(z:0<R->l.M rb)(N:∀i,i<R->l.w.cell? ⟨rb,i,Á⟩=Â (À<|Â ⟨rq i,0,Á⟩))(B:∀i,i<R->l.M (rq i))(O:∀i,i<R->l.w.cell? ⟨rq i,4,Á⟩=Â (Ê Î<|kd i)) (P:∀g s b c,GJ kd rq g R b c (Æ sa sn sc) l s->fi Ä Ò J s (G (f.at (y.put ((Q[i]?).bind (·.dst))<|ñ #[b,c,À<|Â ⟨g<|fL kd R,0,Á⟩])<|Ñ Q jJ::k) qX)): fi Ä Ò J l (YI (Æ ra R cr) (Æ sa sn sc)<|f.at y (Ñ Q (i::jJ)::k)::qX):=by
 have hF:=trivial;apply fW (n:=40) j.r;simp only[YI];conv in YH=>whnf
 repeat w_go fw
 refine Ë λ_ _=> ?_;refine nP (v:=Đ #[Ê ê 0,Ê Ď 0,Æ sa sn sc]) U U (by k_ne) j.r u (λa r=> ?_) (λa r e p=> ?_) ?_
 .have h:=aiK a sa sn sc;go_simp
 .have h:=aiL a sa sn sc;simp[go_sem,h]at p
 walk_nrm;refine pd (V:=λp=>À<|Â ⟨p,0,Á⟩) (ob:=É #[Ê ê 0,Ê Ď 0,Æ sa sn sc] 105) U U (by k_ne) j.r u (λw=>by go_simp) (λw=>by simp[go_sem]) λa C=> ?_;walk_nrm;have p:gh ff l (gF l a<|É #[Ê ê 0,Ê Ď 0,Æ sa sn sc] 105):=mM j C;have t:gZ (gF l a<|É #[Ê ê 0,Ê Ď 0,Æ sa sn sc] 105) a.heap.size (É #[Ê ê 0,Ê Ď 0,Æ sa sn sc] 105):=⟨Ç U,mL⟩;have D:=C.r;generalize gF l a (É #[Ê ê 0,Ê Ď 0,Æ sa sn sc] 105)=l₁ at p t|-;generalize a.heap.size=gt at t D|-;have m:=p.N j;have S:¬l₁.q:=by rwa[p.q]
 apply fW (n:=40) m.r;repeat w_bar fw
 w_go fw
 refine Ë λ_ _=> ?_;have T:=m.fu gt<|Ã t.fl;refine Ra m S (by rwa[p.d]) K L (λh=>p.M<|z h) (λi h=>(gJ<|p.r rb (z Z) id).trans<|N i h) (λi h=>p.M<|B i h) (λi h=>(gJ<|p.r _ (B i h) id).trans<|O i h) (λg s W b c h r=> ?_) R 0 Z (λ_=>gt) l₁ _ (Æ Á 0 0) (Æ Á 0 0) ⟨gh.fT m.r,⟨U,Ã ⟨U,U⟩⟩,⟨U,Ã ⟨U,U⟩⟩,λk e=>(by cases e),λk e=>(by cases e),λk e=>(by cases e),λk x o=> ?_,T,rfl,λk X x o=> ?_⟩ ⟨rfl,rfl,rfl,rfl,rfl,rfl,rfl⟩
 .have Y:=h.r.N m;obtain⟨y0,y1,y2,y3,E,F,y6,y7,y8,y9,wN,yF,wO,rp,sy,qy,vh,vi,tX,tY,tZ,sB,sC,sD,rf,sk,rh,o5,n7,pO,pP,pQ,tK,sr,su,ri,rj,tL,tM,tN,tO,tP,tR,tS,tT,tU,pR,pS,rfl⟩:=Ko W r.r;obtain rfl:b=E:=(show E=b by simpa using r.N).symm;obtain rfl:c=F:=(show F=c by simpa using r.S).symm;obtain rfl:y6=À (Â ⟨g<|fL kd R,0,Á⟩):=by simpa using r.Y
  obtain rfl:rp=Æ ra R cr:=by simpa using r.C
  obtain rfl:sy=Ê Î R:=by simpa using r.I
  obtain rfl:qy=Ê Î R:=by simpa using r.M
  have gN:¬((R:Int)<(R:Int)):=Z
  apply fW (n:=40) Y.r;simp only[Bn];conv in GG=>whnf
  conv in QV=>whnf
  repeat w_go fw
  u_in fw hF
  refine aiJ U U ų U ⟨by u_nil,?_⟩;walk_nrm;refine Ë λ_ _=> ?_;have H:=h.S;refine P g s b c ⟨p.fg h.r,h.jK,h.my,λk e=>⟨(h.C k e).1,Õ p.I (h.C k e).2⟩,λk e=>⟨(h.I k e).1,Õ p.I (h.I k e).2⟩,h.M,H▸t.r h.r id,λk x o=>(h.N k x o).1,λk hk=> ?_,h.Y⟩;by_cases h0:k=0
  .subst h0;rw[H];exact⟨D,λe=>by have:=(h.C _ e).2;omega,λe=>by have:=(h.I _ e).2;omega⟩
  .let⟨_,a2,a3,a4⟩:=h.N k Z hk;exact⟨Õ p.I a2,a3,a4⟩
 .have:k<=0:=o;omega
 .have:X<=0:=o;omega
end
noncomputable def YJ:Ę:=kQ Tryz.f37 []
noncomputable def Dv (a b:Ï) (n:Nat) (c:List é):Ý:=G ((base 37).at ⟨#[a,b,Ê Î n,Å,Å,Å,Å,Å,Å,Å,Å,Å,Å,Å,Å,Å,Å,Å,Å,Å,Å,Å,Å,Å,Å,Å,Å,Å,Å,Å,Å,Å,Å,Å,Å,Å,Å,Å,Å,Å,Å,Å,Å,Å,Å,Å,Å,Å,Å],[]⟩ [ö YJ]) c
def GJ.vn{kd:Nat->Int}{rq:Nat->Nat}{R:Nat}{l a b:fc}(h:GJ kd rq D R v x z l a)(k:gh ff a b):GJ kd rq D R v x z l b:= ⟨h.Y.fg k,nR h.jK λj e=>k.r j (Ã (h.r j e).1) id,nR h.my λj e=>k.r j (Ã (h.C j e).1) id,λj e=>⟨k.O j (h.r j e).1,(h.r j e).2⟩,λj e=>⟨k.O j (h.C j e).1,(h.C j e).2⟩,h.dis,h.N.r k id,λj c d=>(h.I j c d).r k id,h.M,h.S⟩
abbrev wY(R:Nat):Ÿ:=É (madeCells (Ŵ<|à ⟨#[]⟩) R) 9
structure Kr(kd:Nat->Int)(rq g:Nat->Nat)(R:Nat)(iv qv sv:Ï)(an ba bi all bw bf:Nat)(l lp l':fc):Prop where
 C:gh ff l l'
 r:GJ kd rq g R iv qv sv lp l'
 I:gZ l' an (wY R)
 a:gZ l' ba (É #[Æ (Â ⟨an,0,Á⟩) R R] 25)
 c:gZ l' bi (É #[iv] 85)
 Y:gZ l' all (É #[Ê ê 4294967296,Ê Ď 0] 97)
 d:gZ l' bw (É #[À<|Â ⟨all,0,Á⟩] 162)
 b:gZ l' bf (É #[Ĉ (ù 48) #[] #[À<|Â ⟨bi,0,Á⟩,À<|Â ⟨ba,0,Á⟩]] 1)
 M:l.w.heap.size<=an/\an<ba/\ba<lp.w.heap.size
 N:∀k,k<=fL kd R->g k<bi
 o3:∀k,iv.ownBlock=Â k->k<bi
 o4:∀k,qv.ownBlock=Â k->k<bi
 S:bi<all/\all<bw/\bw<bf
section
variable{J:Jd}{l:fc}{ra:Option â}{rb cr R:Nat}{sa:Option â}{sn sc:Nat}{kd:Nat->Int}{rq:Nat->Nat}
def aiN(C:gw l)(G:¬l.q)(hd:l.d=0)(hR:R<1000)(GK:0<R->ra=Â ⟨rb,0,Á⟩)(vo:0<R->l.M rb)(GM:∀i,i<R->l.w.cell? ⟨rb,i,Á⟩=Â (À<|Â ⟨rq i,0,Á⟩))(Jq:∀i,i<R->l.M (rq i))(GN:∀i,i<R->l.w.cell? ⟨rq i,4,Á⟩=Â (Ê Î<|kd i)) (hJ:∀g lp l' t iv qv H y z D W bf v1,Kr kd rq g R iv qv (Æ sa sn sc) H y z D W bf l lp l'->Gz y D (g<|fL kd R) n qv t->J l' (A7 (À<|Â ⟨D,0,Á⟩) v1 (À<|Â ⟨D,0,Á⟩) (ñ #[]) W bf<|Ds t::qX)): fi Ä Ò J l (Dv (Æ sa sn sc) (Æ ra R cr) n qX):=by
 have hF:True:=trivial;have YK:Ä.info? 9=Â Ġ:=Tryz.type9;have OC:∀w:ß,(Ŏ 25 (Ê Î (R:Int))<|Ê Î (R:Int)).run Ä w=.ok (Æ (Â ⟨w.heap.size,0,Á⟩) R R) (w.alloc<|wY R):=λw=>by have:=run_makeSlice (P:=Ä) w 25 9 Ġ (à ⟨#[]⟩) ľ YK U Î Î (R:Int) (R:Int) Z Z (by simp[Ġ];omega) (by simp[Ġ];omega) Z;simpa[Ġ]using this
 have hme:∀w:ß,(Ŏ 25 (Ê Î (R:Int))<|Ê Î (R:Int)).events Ä w #[]=#[]:=λw=>
  events_make (P:=Ä) w 25 9 Ġ (à ⟨#[]⟩) ľ YK U Î Î (R:Int) (R:Int) Z Z (by simp[Ġ];omega) Z (by simp[Ġ];omega) _
 apply fW (n:=40) C.r;simp only[Dv];conv in YJ=>whnf
 repeat w_go fw
 refine Ë λ_ _=> ?_;refine pd (V:=λp=>Æ (Â ⟨p,0,Á⟩) R R) (ob:=wY R) U U (by k_ne) C.r G (λw=>by have k:=OC w;go_simp) (λw=>by have k:=hme w;simp[go_sem,k]) λc m=> ?_;walk_nrm;have a:=mM (X:=ff) (ob:=wY R) C m;have r:gZ (gF l c<|wY R) c.heap.size (wY R):=⟨Ç U,mL⟩;have han:l.w.heap.size<=c.heap.size:=m.r;generalize gF l c (wY R)=l1 at a r|-;generalize c.heap.size=H at r han|-;clear m c;have Rb:gh ff l l1:=a;have Rc:=Rb.N C;have aiO:¬l1.q:=by rwa[Rb.q]
 have asU:l.w.heap.size<=l1.w.heap.size:=a.I;clear a;have lan:=Rc.fu H<|Ã r.fl;refine pd (V:=λp=>À<|Â ⟨p,0,Á⟩) (ob:=É #[Æ Á 0 0] 25) U U (by k_ne) Rc.r aiO (λw=>by go_simp) (λw=>by simp[go_sem]) λc m=> ?_;walk_nrm;have a:=mM (X:=ff) (ob:=É #[Æ Á 0 0] 25) Rc m;have f:gZ (gF l1 c<|É #[Æ Á 0 0] 25) c.heap.size (É #[Æ Á 0 0] 25):=⟨Ç U,mL⟩;have YL:l1.w.heap.size<=c.heap.size:=m.r;generalize gF l1 c (É #[Æ Á 0 0] 25)=l2 at a f|-;generalize c.heap.size=y at f YL|-;clear m c;have Re:gh ff l l2:=Rb.fg a;replace r:=r.r a id;have Rf:=Re.N C;have aiP:¬l2.q:=by rwa[Re.q]
 have asV:l1.w.heap.size<=l2.w.heap.size:=a.I;clear a;have lba:=Rf.fu y<|Ã f.fl;refine Gn (p:=y) (off:=0) (v:=Æ (Â ⟨H,0,Á⟩) R R) (u:=Æ Á 0 0) U U (by k_ne) Rf.r aiP f.fl (f.C U) (by simp[î,f.I]) U (λw o F=>by go_simp) (λw o F=>by simp[go_sem,á _ _ _ _ _ _ (show Ø (Æ (Â ⟨H,0,Á⟩) R R)=Ò from rfl),o,F]) ?_;have a:=J3 (X:=λb=>b=y) (p:=y) (w':=l2.w.setCell ⟨y,0,Á⟩<|Æ (Â ⟨H,0,Á⟩) R R) Rf (fG.fT _ _) f.fl U jV λj E=>lj E;replace f:gZ ({l2 with w:=l2.w.setCell ⟨y,0,Á⟩ (Æ (Â ⟨H,0,Á⟩) R R)}:fc) y (É #[Æ (Â ⟨H,0,Á⟩) R R] 25):=⟨f.fl,by show(l2.w.setCell ⟨y,0,Á⟩<|Æ (Â ⟨H,0,Á⟩) R R).heap[y]?=_;unfold þ;simp[í,f.I]⟩;generalize({l2 with w:=l2.w.setCell ⟨y,0,Á⟩ (Æ (Â ⟨H,0,Á⟩) R R)}:fc)=l3 at a f|-;have S:gh ff l l3:=Re.vn a λj E e=>by have:=C.fu j E;omega
 replace r:=r.r a Z;have YM:=S.N C;have aiQ:¬l3.q:=by rwa[S.q]
 have asW:l2.w.heap.size<=l3.w.heap.size:=a.I;clear a;apply fW (n:=20) YM.r;iterate 5 w_go fw
 u_call ų fO Ĝ fw hF
 refine Ë λ_ _=> ?_;refine aiM (l:=l3) (kd:=kd) (rq:=rq) (ra:=ra) (rb:=rb) (cr:=cr) (R:=R) (sa:=sa) (sn:=sn) (sc:=sc) YM aiQ (by rwa[S.d]) hR GK (λh=>S.M<|vo h) (λi k=>(gJ<|S.r rb (vo Z) id).trans<|GM i k) (λi k=>S.M<|Jq i k) (λi k=>(gJ<|S.r _ (Jq i k) id).trans<|GN i k) λg B iv qv T=> ?_;walk_nrm;have a:=T.Y;have Rh:gh ff l B:=S.fg a;replace r:=r.r a id;replace f:=f.r a id;have L:=Rh.N C;have aiR:¬B.q:=by rwa[Rh.q]
 have asX:l3.w.heap.size<=B.w.heap.size:=a.I;clear a;have aiS:gh ff B B:=gh.fT L.r;obtain⟨I,K,rfl⟩:∃I K,iv=Æ I (fL kd R) K:=by
  rcases T.jK.2 with⟨k,s⟩|⟨b,N,Q,k,_⟩
  .exact⟨Á,0,by rwa[s]⟩
  .exact⟨_,_,k⟩
 have og:∀k,k<=fL kd R->g k<B.w.heap.size:=λk hk=>by
  by_cases s:k=0
  .subst s;exact L.fu _<|Ã T.N.fl
  .exact L.fu _<|Ã (T.I k Z hk).fl
 have oi:∀k,(Æ I (fL kd R) K).ownBlock=Â k->k<B.w.heap.size:=λk e=>L.fu _<|Ã (T.r k e).1;have oq:∀k,qv.ownBlock=Â k->k<B.w.heap.size:=λk e=>L.fu _<|Ã (T.C k e).1;apply fW (n:=20) L.r;iterate 4 w_go fw
 refine Ë λ_ _=> ?_;refine pd (V:=λp=>À<|Â ⟨p,0,Á⟩) (ob:=É #[Æ Á 0 0] 85) U U (by k_ne) L.r aiR (λw=>by go_simp) (λw=>by simp[go_sem]) λc m=> ?_;walk_nrm;have a:=mM (X:=ff) (ob:=É #[Æ Á 0 0] 85) L m;have s:gZ (gF B c<|É #[Æ Á 0 0] 85) c.heap.size (É #[Æ Á 0 0] 85):=⟨Ç U,mL⟩;have Ri:B.w.heap.size<=c.heap.size:=m.r;generalize gF B c (É #[Æ Á 0 0] 85)=l5 at a s|-;generalize c.heap.size=z at s Ri|-;clear m c;have Rj:gh ff l l5:=Rh.fg a;have aiT:gh ff B l5:=aiS.fg a;replace r:=r.r a id;replace f:=f.r a id;have Rk:=Rj.N C;have aiU:¬l5.q:=by rwa[Rj.q]
 have asY:B.w.heap.size<=l5.w.heap.size:=a.I;clear a;have lbi:=Rk.fu z<|Ã s.fl;refine Gn (p:=z) (off:=0) (v:=Æ I (fL kd R) K) (u:=Æ Á 0 0) U U (by k_ne) Rk.r aiU s.fl (s.C U) (by simp[î,s.I]) U (λw o F=>by go_simp) (λw o F=>by simp[go_sem,á _ _ _ _ _ _ (show Ø (Æ I (fL kd R) K)=Ò from rfl),o,F]) ?_;have a:=J3 (X:=λb=>b=z) (p:=z) (w':=l5.w.setCell ⟨z,0,Á⟩<|Æ I (fL kd R) K) Rk (fG.fT _ _) s.fl U jV λj E=>lj E;replace s:gZ ({l5 with w:=l5.w.setCell ⟨z,0,Á⟩ (Æ I (fL kd R) K)}:fc) z (É #[Æ I (fL kd R) K] 85):=⟨s.fl,by show(l5.w.setCell ⟨z,0,Á⟩<|Æ I (fL kd R) K).heap[z]?=_;unfold þ;simp[í,s.I]⟩;generalize({l5 with w:=l5.w.setCell ⟨z,0,Á⟩ (Æ I (fL kd R) K)}:fc)=l6 at a s|-;have Rl:gh ff l l6:=Rj.vn a λj E e=>by have:=C.fu j E;omega
 have aiV:gh ff B l6:=aiT.vn a λj E e=>by have:=L.fu j E;omega
 replace r:=r.r a Z;replace f:=f.r a Z;have Rm:=Rl.N C;have aiW:¬l6.q:=by rwa[Rl.q]
 have asZ:l5.w.heap.size<=l6.w.heap.size:=a.I;clear a;apply fW (n:=20) Rm.r;iterate 5 w_go fw
 refine Ë λ_ _=> ?_;refine pd (V:=λp=>À<|Â ⟨p,0,Á⟩) (ob:=É #[Ê ê 0,Ê Ď 0] 97) U U (by k_ne) Rm.r aiW (λw=>by go_simp) (λw=>by simp[go_sem]) λc m=> ?_;walk_nrm;have a:=mM (X:=ff) (ob:=É #[Ê ê 0,Ê Ď 0] 97) Rm m;have F:gZ (gF l6 c<|É #[Ê ê 0,Ê Ď 0] 97) c.heap.size (É #[Ê ê 0,Ê Ď 0] 97):=⟨Ç U,mL⟩;have pW:l6.w.heap.size<=c.heap.size:=m.r;generalize gF l6 c (É #[Ê ê 0,Ê Ď 0] 97)=l7 at a F|-;generalize c.heap.size=D at F pW|-;clear m c;have Rn:gh ff l l7:=Rl.fg a;have aiX:gh ff B l7:=aiV.fg a;replace r:=r.r a id;replace f:=f.r a id;replace s:=s.r a id;have Ks:=Rn.N C;have aiY:¬l7.q:=by rwa[Rn.q]
 have as0:l6.w.heap.size<=l7.w.heap.size:=a.I;clear a;have as1:=Ks.fu D<|Ã F.fl;apply fW (n:=20) Ks.r;iterate 4 w_go fw
 u_call Ħ fO Μ fw hF
 iterate 2 w_go fw
 refine Ë λ_ _=> ?_;refine pd (V:=λp=>À<|Â ⟨p,0,Á⟩) (ob:=É #[À<|Â ⟨D,0,Á⟩] 162) U U (by k_ne) Ks.r aiY (λw=>by go_simp) (λw=>by simp[go_sem]) λc m=> ?_;walk_nrm;have a:=mM (X:=ff) (ob:=É #[À<|Â ⟨D,0,Á⟩] 162) Ks m;have N:gZ (gF l7 c<|É #[À<|Â ⟨D,0,Á⟩] 162) c.heap.size (É #[À<|Â ⟨D,0,Á⟩] 162):=⟨Ç U,mL⟩;have Bg:l7.w.heap.size<=c.heap.size:=m.r;generalize gF l7 c (É #[À<|Â ⟨D,0,Á⟩] 162)=l8 at a N|-;generalize c.heap.size=W at N Bg|-;clear m c;have Ro:gh ff l l8:=Rn.fg a;have aiZ:gh ff B l8:=aiX.fg a;replace r:=r.r a id;replace f:=f.r a id;replace s:=s.r a id;replace F:=F.r a id;have Rp:=Ro.N C;have ai0:¬l8.q:=by rwa[Ro.q]
 have as2:l7.w.heap.size<=l8.w.heap.size:=a.I;clear a;have lbw:=Rp.fu W<|Ã N.fl;refine pd (V:=λp=>À<|Â ⟨p,0,Á⟩) (ob:=É #[Ĉ (ù 48) #[] #[À<|Â ⟨z,0,Á⟩,À<|Â ⟨y,0,Á⟩]] 1) U U (by k_ne) Rp.r ai0 (λw=>by go_simp) (λw=>by simp[go_sem]) λc m=> ?_;walk_nrm;have a:=mM (X:=ff) (ob:=É #[Ĉ (ù 48) #[] #[À<|Â ⟨z,0,Á⟩,À<|Â ⟨y,0,Á⟩]] 1) Rp m;have Y:gZ (gF l8 c<|É #[Ĉ (ù 48) #[] #[À<|Â ⟨z,0,Á⟩,À<|Â ⟨y,0,Á⟩]] 1) c.heap.size (É #[Ĉ (ù 48) #[] #[À<|Â ⟨z,0,Á⟩,À<|Â ⟨y,0,Á⟩]] 1):=⟨Ç U,mL⟩;have Kl:l8.w.heap.size<=c.heap.size:=m.r;generalize gF l8 c (É #[Ĉ (ù 48) #[] #[À<|Â ⟨z,0,Á⟩,À<|Â ⟨y,0,Á⟩]] 1)=l9 at a Y|-;generalize c.heap.size=bf at Y Kl|-;clear m c;have Kt:gh ff l l9:=Ro.fg a;have ai1:gh ff B l9:=aiZ.fg a;replace r:=r.r a id;replace f:=f.r a id;replace s:=s.r a id;replace F:=F.r a id;replace N:=N.r a id;have GO:=Kt.N C;have YN:¬l9.q:=by rwa[Kt.q]
 have as3:l8.w.heap.size<=l9.w.heap.size:=a.I;clear a;have lbf:=GO.fu bf<|Ã Y.fl;apply fW (n:=20) GO.r;iterate 3 w_go fw
 refine Ë λ_ _=> ?_;apply nh (x:=⟨W,0,Á⟩) U U (by k_ne) GO.r YN (Ã<|Ã N.fl) (N.C U) (λw h=>by go_simp) (λw h=>by simp[go_sem,h]);walk_nrm;apply fW (n:=20) GO.r;u_call qx.f_add (nm_add Lk) addFn fw hF;refine Ë λ_ _=> ?_;refine YA qx GO YN (by rwa[Kt.d]) F.fl F.I U U λQ hC=> ?_;walk_nrm;have a:gh (λb=>b=D) l9 Q:=hC.r;replace F:gZ Q D (É #[Ê ê 4294967296,Ê Ď 0] 97):=⟨hC.r.O D F.fl,hC.C⟩;have Rq:gh ff l Q:=Kt.vn a λj E e=>by have:=C.fu j E;omega
 have ai2:gh ff B Q:=ai1.vn a λj E e=>by have:=L.fu j E;omega
 replace r:=r.r a Z;replace f:=f.r a Z;replace s:=s.r a Z;replace N:=N.r a Z;replace Y:=Y.r a Z;have ai3:=Rq.N C;have as4:¬Q.q:=by rwa[Rq.q]
 have as5:l9.w.heap.size<=Q.w.heap.size:=a.I;clear a;apply fW (n:=20) ai3.r;iterate 3 w_go fw
 refine Ë λ_ _=> ?_;refine .fB λBl wW=> ?_;have at9:∀{b:Nat} {o:Ÿ},gZ Q b o->gZ ({Q with w:=Bl}:fc) b o:=λh=>⟨h.fl,(wW.I _<|Ã h.fl).trans h.I⟩;exact hJ g l3 {Q with w:=Bl} _ (Æ I (fL kd R) K) qv H y z D W bf _ ⟨Rq.G wW,T.vn<|ai2.G wW,at9 r,at9 f,at9 s,at9 F,at9 N,at9 Y,⟨Z,Z,Z⟩,λk hk=>by have:=og k hk;omega,λk e=>by have:=oi k e;omega,λk e=>by have:=oq k e;omega,⟨Z,Z,Z⟩⟩ ⟨U,U,U,U,U,U⟩
end
def ai4{md:ý}{listed:Array Bool}(h:Û md Q listed=[]):∀(a t:Nat),ë md Q a t listed []=[]:=by
 intro a t;cases a with
 |zero=>rfl
 |succ a=>
  simp only[ë];change(match(Û md Q listed)[t%(Û md Q listed).length]? with
   |some i=>ë md Q a (t/(Û md Q listed).length) (listed.setIfInBounds i Ò) [i]
   |none=>[].reverse)=[]
  rw[h];rfl
section
variable{J:Jd}{l:fc}
def YO{md:ý}(I:Array Bool->ŏ->fc->Prop) (p:∀b a l i k,I b a l->b.size=Q.size->i∈Û md Q b->(Û md Q (b.setIfInBounds i Ò)=[]->k=[])->fi P yQ (λg m=>(∃h,m=G (f.at h<|Ñ Q k::L) qX/\I (b.setIfInBounds i Ò) h g)\/fi P yQ J g m) l (G (f.at a<|Ñ Q (i::k)::L) qX)) (o:∀b a l,I b a l->b.size=Q.size->Û md Q b=[]->fi P yQ J l (G (f.at a<|Ñ Q []::L) qX)): ∀(c t:Nat) (b:Array Bool) (a:ŏ) (l:fc),b.size=Q.size->ji b<=c->I b a l->fi P yQ J l (G (f.at a<|Ñ Q (ë md Q c t b [])::L) qX):=by
 intro c
 induction c with
 |zero=>
  intro t b a l d q j;simpa[ë]using o b a l j d<|Qj d Z
 |succ c r=>
  intro t b a l d q j;simp only[ë];change fi P yQ J l (G (f.at a (Ñ Q (match(Û md Q b)[t%(Û md Q b).length]? with
   |some i=>ë md Q c (t/(Û md Q b).length) (b.setIfInBounds i Ò) [i]
   |none=>[].reverse)::L)) qX)
  cases n:(Û md Q b)[t%(Û md Q b).length]? with
  |none=>
   have s:Û md Q b=[]:=by
    cases u:Û md Q b with
    |nil=>rfl
    |cons x e=>
     rw[u]at n;have v:t%(x::e).length<(x::e).length:=ĵ _ fp;simp at n;simp at v;omega
   simpa using o b a l j d s
  |some i=>
   simp only[];rw[linearise_go_acc,List.reverse_singleton,List.singleton_append];have x:=ħ n;refine(p b a l i _ j d x λe=>ai4 e _ _).mg ?_;rintro g m (⟨h,rfl,hI'⟩|hW)
   .exact r _ _ h g (by simpa using d) (by have:=JP (mem_ready.1 x).1;omega) hI'
   .exact hW
def ai5{id:Nat}(I:Array Bool->ŏ->fc->Prop)(o:kg l)(p:¬l.q) (g:∀c,fG l l.w c->I (Array.replicate Q.size Ì) y {l with w:={c with drawn:=c.drawn+1}}) (h:∀d b y l i e,I b y l->b.size=Q.size->i∈Û d Q b->(Û d Q (b.setIfInBounds i Ò)=[]->e=[])->fi P yQ (λj k=>(∃m,k=G (f.at m<|Ñ Q e::L) qX/\I (b.setIfInBounds i Ò) m j)\/fi P yQ J j k) l (G (f.at y<|Ñ Q (i::e)::L) qX)) (n:∀d b y l,I b y l->b.size=Q.size->Û d Q b=[]->fi P yQ J l (G (f.at y<|Ñ Q []::L) qX)): fi P yQ J l (G (f.at y<|ö (ä id Q Ò)::L) qX):=by
 refine .mk U λc r=>⟨_,_,_,_,stepG_region_draw,Qi (mr o r) p,?_⟩;unfold Region.schedule;split
 .exact YO I (h _) (n _) _ _ _ _ _ fp (by rw[C5];exact Ú _)<|g c r
 .exact YO I (h _) (n _) _ _ _ _ _ fp (by rw[C5];exact Ú _)<|g c r
end
def Bo:å:=⟨Â 15,ę<|Ù 1,100, "work.go:72",#[],Á⟩
def Bp:å:=⟨Â 16,ę<|Ù 4,3, "work.go:72",#[],Á⟩
def Bq:å:=⟨Â 17,ę<|Ù 1,100, "work.go:72",#[],Á⟩
def wZ:å:=⟨Â 18,Ě {callee:=Ŕ .len,args:=#[Ù 17],argTypes:=#[100]},3, "work.go:72",#[⟨2,Ü⟩],Á⟩
def uh:å:=⟨Â 19,Λ .rem 3 (Ù 16) (Ù 18) 3,3, "work.go:72",#[⟨1,Ü⟩,⟨3,Ü⟩],Á⟩
def ui:å:=⟨Â 20,ő 100 (Ù 15)<|Ù 19,0, "work.go:72",#[⟨0,Ü⟩,⟨4,Ü⟩],Á⟩
def w7:å:=⟨Â 21,ć 101<|Ù 20,101, "work.go:72",#[⟨5,Ü⟩],Á⟩
def Br:å:=⟨Â 22,ć 155<|Ù 5,155, "work.go:72",#[],Á⟩
def xa:å:=⟨Á,.send (Ù 21)<|Ù 22,0, "work.go:72",#[⟨6,Ü⟩,⟨7,Ü⟩],Á⟩
def nT:Array å:=#[Bo,Bp,Bq,wZ,uh,ui,w7,Br,xa]
noncomputable def Ku:Ę:=kQ Ŗ [1,1,0,0]
noncomputable def YP:Ę:=kQ Ŗ [1]
noncomputable def Kv:Ę:=kQ Ŗ [0,1,0,0]
noncomputable def pX (t:Array Ï) (a:List é):Ý:=G ((base 52).at ⟨t,[]⟩ [ö Kv,ą Kv,ô 0,ö YP]) a
structure DT(dv:Ï)(qb:Option â)(q cq i:Nat)(t:Array Ï):Prop where
 r:t.size=32
 C:t[1]?=Â dv
 t8:t[8]?=Â (Æ qb q cq)
 M:t[9]?=Â (Ê Î q)
 I:t[10]?=Â (Ê Î i)
def GQ(t:Array Ï)(h:t.size=32):∃a b c d e f g i j k l m n o p q r s u v w x y z B C D E F G H I:Ï,t=#[a,b,c,d,e,f,g,i,j,k,l,m,n,o,p,q,r,s,u,v,w,x,y,z,B,C,D,E,F,G,H,I]:=by obtain⟨_,rfl⟩:=sx t h;exact⟨_,_,_,_,_,_,_,_,_,_,_,_,_,_,_,_,_,_,_,_,_,_,_,_,_,_,_,_,_,_,_,_,U⟩
def uj(c n i a d:Nat)(b tk:Ï)(_:Unit):Nat->Ï
 |0=>b
 |1=>Ê Î i
 |2=>b
 |3=>Ê Î n
 |4=>Ê Î a
 |5=>À<|Â ⟨c,a,Á⟩
 |6=>è<|Â d
 |7=>tk
 |_=>Å
def Kw(a:fc)(listed:Array Bool)(_:Unit)(l:fc):Prop:=iD ff a l/\¬listed.getD 8 Ì=Ò
section
variable{J N:Jd}{p:fc}{g c:Nat}{s:Option â}
def ai6(Dw:gw p)(hq:¬p.q)(ht:d.size=32)(AW:d[1]?=Â (Æ (Â ⟨m,0,Á⟩) n c))(Gk:d[4]?=Â (Ê Î i))(Qq:d[5]?=Â (À<|Â ⟨g,0,Á⟩))(z:p.O g)(T:p.O m)(hn:0<n)(vp:n<1000)(hi1:i<1000) (YQ:i%n=j7) (V:p.w.cell? ⟨m,j7,Á⟩=Â (è<|Â j)) (W:p.w.cell? ⟨g,0,Á⟩=Â (À s)) (X:p.w.cell? ⟨g,1,Á⟩=Â (Ê Î j6)) (Y:p.w.cell? ⟨g,2,Á⟩=Â (À<|Â ⟨j9,0,Á⟩)) (c3:p.w.cell? ⟨g,3,Á⟩=Â (À O)) (hJ:∀l H,iD ff p l->H.size=32->(∀f,f<15->H[f]?=d[f]?)->Af Ä Ò j (Đ #[À s,Ê Î j6,À<|Â ⟨j9,0,Á⟩,À O]) N l (G ((base 52).at ⟨H,[]⟩<|Ñ nT [8]::L) qX)->J l (G ((base 52).at ⟨H,[]⟩<|Ñ nT [8]::L) qX)) (hN:∀l H,iD ff p l->H.size=32->(∀f,f<15->H[f]?=d[f]?)->fi Ä Ò N l (G ((base 52).at ⟨H,[]⟩<|Ñ nT []::L) qX)) (md:ý) (listed:Array Bool) (a:ŏ) (l:fc) (i':Nat) (rest:List Nat) (hI:II nT d (uj m n i j7 j (Æ (Â ⟨m,0,Á⟩) n c)<|Đ #[À s,Ê Î j6,À<|Â ⟨j9,0,Á⟩,À O]) (Kw p) listed a l) (jS:listed.size=nT.size) (C:i'∈Û md nT listed) (GR:Û md nT (listed.setIfInBounds i' Ò)=[]->rest=[]): fi Ä Ò (λD F=>(∃Q,F=G ((base 52).at Q<|Ñ nT rest::L) qX/\II nT d (uj m n i j7 j (Æ (Â ⟨m,0,Á⟩) n c)<|Đ #[À s,Ê Î j6,À<|Â ⟨j9,0,Á⟩,À O]) (Kw p) (listed.setIfInBounds i' Ò) Q D)\/fi Ä Ò J D F) l (G ((base 52).at a<|Ñ nT (i'::rest)::L) qX):=by
 let⟨x,u,S,h8⟩:=hI;have I:tV nT d.size=Ò:=by rw[ht];decide
 have gN:=C6 C;have K:=S.fu;have M:¬l.q:=by rwa[S.q]
 have ni:a.tmps[1]?=Â (Æ (Â ⟨m,0,Á⟩) n c):=(u.C A).trans AW;have QU:a.tmps[4]?=Â (Ê Î i):=(u.C A).trans Gk;have rn:a.tmps[5]?=Â (À<|Â ⟨g,0,Á⟩):=(u.C A).trans Qq;have y:∀b k v,p.O b->p.w.cell? ⟨b,k,Á⟩=Â v->gX l ⟨b,k,Á⟩/\l.w.cell? ⟨b,k,Á⟩=Â v:=λb k v E h=>⟨Ã<|Ã<|S.O b E,by rwa[gJ<|S.r b<|Ã E]⟩;have P:∀{t:Nat},t≠8->∀B,fG l l.w B->Kw p (listed.setIfInBounds t Ò) () {l with w:=B}:=λhm B r=>⟨S.N (λ_ q=>q.elim) r,by rwa[ç Ì hm]⟩;have ai7:j7<n:=by rw[<-YQ];exact ĵ _ hn
 have ai8:(j7:Int)<(n:Int):=Z
 have GU:¬(n:Int)=0:=Z
 have ai9:¬n=0:=Z
 have htm:Int.tmod (i:Int) (n:Int)=(j7:Int):=by rw[Int.tmod_eq_emod_of_nonneg Z,<-YQ];simp
 have oD:Î.wrap (j7:Int)=(j7:Int):=AZ Z Z;have Kx:nT.size=9:=A
 rw[Kx]at gN;match i',gN with
 |0,_=>
  refine(il (o:=Bo) I u U U C (by k_ne) K M (λB r=> ?_) (λB r e D=> ?_)<|P A).fN λ_ _ h=>Ã h
  .simp only[uj,Bo];go_simp
  .simp[go_sem,Bo,ni]at D
 |1,_=>
  refine(il (o:=Bp) I u U U C (by k_ne) K M (λB r=> ?_) (λB r e D=> ?_)<|P A).fN λ_ _ h=>Ã h
  .simp only[uj,Bp];go_simp
  .simp[go_sem,Bp,QU]at D
 |2,_=>
  refine(il (o:=Bq) I u U U C (by k_ne) K M (λB r=> ?_) (λB r e D=> ?_)<|P A).fN λ_ _ h=>Ã h
  .simp only[uj,Bq];go_simp
  .simp[go_sem,Bq,ni]at D
 |3,_=>
  have F:a.tmps[17]?=Â (Æ (Â ⟨m,0,Á⟩) n c):=u.r 2 Bq 17 U (ij (o:=wZ) C U U) U;refine(il (o:=wZ) I u U U C (by k_ne) K M (λB r=> ?_) (λB r e D=> ?_)<|P A).fN λ_ _ h=>Ã h
  .simp only[uj,wZ];go_simp
  .simp[go_sem,wZ,F]at D
 |4,_=>
  have F:a.tmps[16]?=Â (Ê Î i):=u.r 1 Bp 16 U (ij (o:=uh) C U U) U;have Q:a.tmps[18]?=Â (Ê Î n):=u.r 3 wZ 18 U (ij (o:=uh) C U U) U;refine(il (o:=uh) I u U U C (by k_ne) K M (λB r=> ?_) (λB r e D=> ?_)<|P A).fN λ_ _ h=>Ã h
  .simp only[uj,uh];go_simp
  .simp[go_sem,uh,F,Q,GU,ai9,htm,oD]at D
 |5,_=>
  have F:a.tmps[15]?=Â (Æ (Â ⟨m,0,Á⟩) n c):=u.r 0 Bo 15 U (ij (o:=ui) C U U) U;have Q:a.tmps[19]?=Â (Ê Î j7):=u.r 4 uh 19 U (ij (o:=ui) C U U) U;refine(il (o:=ui) I u U U C (by k_ne) K M (λB r=> ?_) (λB r e D=> ?_)<|P A).fN λ_ _ h=>Ã h
  .simp only[uj,ui];go_simp
  .simp[go_sem,ui,F,Q,ai7,ai8]at D
 |6,_=>
  have Q:a.tmps[20]?=Â (À<|Â ⟨m,j7,Á⟩):=u.r 5 ui 20 U (ij (o:=w7) C U U) U;refine(il (o:=w7) I u U U C (by k_ne) K M (λB r=> ?_) (λB r e D=> ?_)<|P A).fN λ_ _ h=>Ã h
  .have F:=((y m _ _ T V).1.r r).trans (y m _ _ T V).2;simp only[uj,w7];go_simp
  .have F:=((y m _ _ T V).1.r r).trans (y m _ _ T V).2;have hee:e=⟨û ⟨m,j7,Á⟩,Ì,Ì⟩:=by simp[go_sem,w7,F,Q]at D;exact D
   subst hee;exact(y m _ _ T V).1.C
 |7,_=>
  refine(il (o:=Br) I u U U C (by k_ne) K M (λB r=> ?_) (λB r e D=> ?_)<|P A).fN λ_ _ h=>Ã h
  .have F:=((y g _ _ z W).1.r r).trans (y g _ _ z W).2;have Q:=((y g _ _ z X).1.r r).trans (y g _ _ z X).2;have qA:=((y g _ _ z Y).1.r r).trans (y g _ _ z Y).2;have uf:=((y g _ _ z c3).1.r r).trans (y g _ _ z c3).2;simp only[uj,Br];go_simp
  .have F:=((y g _ _ z W).1.r r).trans (y g _ _ z W).2;have Q:=((y g _ _ z X).1.r r).trans (y g _ _ z X).2;have qA:=((y g _ _ z Y).1.r r).trans (y g _ _ z Y).2;have uf:=((y g _ _ z c3).1.r r).trans (y g _ _ z c3).2;simp[go_sem,Br,rn,F,Q,qA,uf]at D;rcases D with rfl|rfl|rfl|rfl
   .exact(y g _ _ z W).1.C
   .exact(y g _ _ z X).1.C
   .exact(y g _ _ z Y).1.C
   .exact(y g _ _ z c3).1.C
 |8,_=>
  have d6:=ij (j:=6) (o:=xa) C U U;have d7:=ij (j:=7) (o:=xa) C U U;have QD:a.tmps[21]?=Â (è<|Â j):=u.r 6 w7 21 U d6 U;have F9:a.tmps[22]?=Â (Đ #[À s,Ê Î j6,À<|Â ⟨j9,0,Á⟩,À O]):=u.r 7 Br 22 U d7 U;have d5:=u.I (j:=5) (o:=w7) U d6 U;have d0:=u.I (j:=0) (o:=ui) U d5 U;have d4:=u.I (j:=4) (o:=ui) U d5 U;have d1:=u.I (j:=1) (o:=uh) U d4 U;have d3:=u.I (j:=3) (o:=uh) U d4 U;have d2:=u.I (j:=2) (o:=wZ) U d3 U;have pW:Û md nT (listed.setIfInBounds 8 Ò)=[]:=by
   rw[List.eq_nil_iff_forall_not_mem];intro k hj;have GV:=C6 hj;have F:=Qm hj;rw[Kx]at GV;by_cases Q:k=8
   .subst Q;have D:8<listed.size:=by rw[jS,Kx];decide
    simp[D]at F
   .rw[ç Ò<|Ne.symm Q]at F;have D:=wL F;match k,GV,Q with
    |0,_,_=>exact D d0
    |1,_,_=>exact D d1
    |2,_,_=>exact D d2
    |3,_,_=>exact D d3
    |4,_,_=>exact D d4
    |5,_,_=>exact D d5
    |6,_,_=>exact D d6
    |7,_,_=>exact D d7
    |8,_,h=>exact h U
  obtain rfl:=GR pW;let⟨F,ds⟩:=a;obtain rfl:ds=[]:=u.M;have GX:F.size=32:=u.S.trans ht;have Ky:∀f,f<15->F[f]?=d[f]?:=λf hd=>u.b f λk o E _ e=>by
   have GV:=(æ.1 E).1;rw[Kx]at GV;match k,GV with
   |0,_=>
    have D:o=Bo:=(Ó<|show Â Bo=Â o from E).symm;rw[D]at e;have Q:15=f:=Ó (show Â 15=Â f from e);omega
   |1,_=>
    have D:o=Bp:=(Ó<|show Â Bp=Â o from E).symm;rw[D]at e;have Q:16=f:=Ó (show Â 16=Â f from e);omega
   |2,_=>
    have D:o=Bq:=(Ó<|show Â Bq=Â o from E).symm;rw[D]at e;have Q:17=f:=Ó (show Â 17=Â f from e);omega
   |3,_=>
    have D:o=wZ:=(Ó<|show Â wZ=Â o from E).symm;rw[D]at e;have Q:18=f:=Ó (show Â 18=Â f from e);omega
   |4,_=>
    have D:o=uh:=(Ó<|show Â uh=Â o from E).symm;rw[D]at e;have Q:19=f:=Ó (show Â 19=Â f from e);omega
   |5,_=>
    have D:o=ui:=(Ó<|show Â ui=Â o from E).symm;rw[D]at e;have Q:20=f:=Ó (show Â 20=Â f from e);omega
   |6,_=>
    have D:o=w7:=(Ó<|show Â w7=Â o from E).symm;rw[D]at e;have Q:21=f:=Ó (show Â 21=Â f from e);omega
   |7,_=>
    have D:o=Br:=(Ó<|show Â Br=Â o from E).symm;rw[D]at e;have Q:22=f:=Ó (show Â 22=Â f from e);omega
   |8,_=>
    have D:o=xa:=(Ó<|show Â xa=Â o from E).symm;rw[D]at e;cases(show Á=Â f from e)
  refine .fB λB r=>Ç (.fB λwi D=> ?_);have Q:iD ff p ({l with w:=wi}:fc):=S.N (λ_ q=>q.elim)<|r.fg ⟨D.r,D.I,D.N,D.Y,D.S⟩;refine hJ _ F Q GX Ky ⟨U,U,λD=>⟨ñ #[],?_⟩,?_⟩
  .refine(Ż (cases:=#[scase j (Đ #[À s,Ê Î j6,À<|Â ⟨j9,0,Á⟩,À O])<|ñ #[]]) (blocking:=Ò) (shape:=.send) (w':=D) (o:=xa) rfl rfl (by k_ne) ?_).trans ?_
   .simp[go_sem,xa,ĉ,scase,ĥ,QD,F9]
   .have:ŗ Ä (base 52).fn ⟨F,[]⟩ xa D=#[]:=by
     unfold ŗ;simp[go_sem,xa,ĉ,ĥ,QD,F9,Ī]
    rw[this]
  .have e:({G ((base 52).at ⟨F,[]⟩<|Ñ nT [8]::L) qX with frame:=(G ((base 52).at ⟨F,[]⟩<|Ñ nT [8]::L) qX).frame.finish Å}:Ý)=G ((base 52).at ⟨F,[]⟩<|Ñ nT []::L) qX:=by
    have:(G ((base 52).at ⟨F,[]⟩<|Ñ nT [8]::L) qX).frame.finish Å=(base 52).at (Ο ⟨F,[]⟩ Á Å) (Ñ nT []::L):=Ģ _ _ _ _ _ _ _;rw[this];rfl
   rw[e];exact hN _ F Q GX Ky
 |n+9,h=>exact absurd h Z
end
section
variable{N:Jd}{l:fc}{f:Option â}
theorem Rr(s:gw l)(K:¬l.q)(G:DT (Æ (Â ⟨J,0,Á⟩) n j) (Â ⟨j6,0,Á⟩) b m i d)(hiq:i<b)(A9:b<1000)(hn:0<n)(vp:n<1000)(YR:l.O J)(cd:l.w.cell? ⟨J,i%n,Á⟩=Â (è<|Â k))(Rs:l.M j6) (i0:l.w.cell? ⟨j6,i*4,Á⟩=Â (À f)) (i1:l.w.cell? ⟨j6,i*4+1,Á⟩=Â (Ê Î j7)) (i2:l.w.cell? ⟨j6,i*4+2,Á⟩=Â (À<|Â ⟨j9,0,Á⟩)) (i3:l.w.cell? ⟨j6,i*4+3,Á⟩=Â (À O)) (hN:∀t H,iD ff l t->DT (Æ (Â ⟨J,0,Á⟩) n j) (Â ⟨j6,0,Á⟩) b m (i+1) H->fi Ä Ò N t (pX H qX)): fi Ä Ò (Af Ä Ò k (Đ #[À f,Ê Î j7,À<|Â ⟨j9,0,Á⟩,À O]) N) l (pX d qX):=by
 obtain⟨y0,y1,y2,y3,y4,y5,y6,y7,y8,y9,wN,yF,wO,rp,sy,qy,vh,vi,tX,tY,tZ,sB,sC,sD,rf,sk,rh,o5,n7,pO,pP,pQ,rfl⟩:=GQ d G.r;obtain rfl:y1=Æ (Â ⟨J,0,Á⟩) n j:=by simpa using G.C
 obtain rfl:y8=Æ (Â ⟨j6,0,Á⟩) b m:=by simpa using G.t8
 obtain rfl:y9=Ê Î b:=by simpa using G.M
 obtain rfl:wN=Ê Î i:=by simpa using G.I
 have ru:∀y:â,False->l.r y:=λy ha=>ha.elim;have as6:(i:Int)<(b:Int):=Z
 have hF:True:=trivial;simp only[pX];conv in Kv=>whnf
 apply fW (n:=30) s.r;repeat w_go fw
 refine Ë λ_ _=> ?_;have g:∀c,gX l ⟨j6,c,Á⟩:=λc=>Ã Rs;refine nP (v:=Đ #[À f,Ê Î j7,À<|Â ⟨j9,0,Á⟩,À O]) U U (by k_ne) s.r K (λo r=> ?_) (λo r e h=> ?_) ?_
 .have u:=((g<|i*4).r r).trans i0;have z:=((g<|i*4+1).r r).trans i1;have B:=((g<|i*4+2).r r).trans i2;have C:=((g<|i*4+3).r r).trans i3;go_simp
 .have u:=((g<|i*4).r r).trans i0;have z:=((g<|i*4+1).r r).trans i1;have B:=((g<|i*4+2).r r).trans i2;have C:=((g<|i*4+3).r r).trans i3;simp[go_sem,u,z,B,C]at h;rcases h with rfl|rfl|rfl|rfl
  .exact(g _).C
  .exact(g _).C
  .exact(g _).C
  .exact(g _).C
 walk_nrm;refine Gb (ob:=É #[À Á,Ê Î 0,À Á,À Á] 155) U U (by k_ne) s.r K (λw=>by go_simp) (λw=>by simp[go_sem]) λo X=> ?_;walk_nrm;have D:iD ff l (gF l o<|É #[À Á,Ê Î 0,À Á,À Á] 155):=JV s ru X;have L:(gF l o<|É #[À Á,Ê Î 0,À Á,À Á] 155).w.heap[o.heap.size]?=Â (É #[À Á,Ê Î 0,À Á,À Á] 155):=mL;have sE:l.w.heap.size<=o.heap.size:=X.r;have q:(gF l o<|É #[À Á,Ê Î 0,À Á,À Á] 155).O o.heap.size:=Ç U;generalize gF l o (É #[À Á,Ê Î 0,À Á,À Á] 155)=l₁ at D L q|-;generalize o.heap.size=tb at L q sE|-;apply fW (n:=3) D.fu;w_go fw;refine Ë λ_ _=> ?_;refine ve U U (by k_ne) λr P=> ?_;have E:r.heap[tb]?=_:=(P.I tb<|Ã q).trans L;have u:r.cell? ⟨tb,0,Á⟩=Â (À Á):=by simp[Ö,E]
 have z:r.cell? ⟨tb,1,Á⟩=Â (Ê Î 0):=by simp[Ö,E]
 have B:r.cell? ⟨tb,2,Á⟩=Â (À Á):=by simp[Ö,E]
 have C:r.cell? ⟨tb,3,Á⟩=Â (À Á):=by simp[Ö,E]
 have hz:∀c,r.frozen? ⟨tb,c,Á⟩=Ì:=λc=>by simp[î,E]
 go_simp;refine⟨{l₁ with w:=iT r tb (À f) (Ê Î j7) (À<|Â ⟨j9,0,Á⟩) (À O)},JX (p:=tb) (mr D.fu P) (by rwa[D.q]) q wM (λc x=>yC x) ⟨U,U,U⟩ λe h=> ?_,?_⟩
 .have a:=đ h;have e:∀c,pT l₁ ⟨tb,c,Á⟩:=λc=>Ã q;simp[go_sem,á _ _ _ _ _ _ (show Ø (À f)=Ò from rfl),á _ _ _ _ _ _ (show Ø (À<|Â ⟨j9,0,Á⟩)=Ò from rfl),á _ _ _ _ _ _ (show Ø (À O)=Ò from rfl),u,z,B,C,hz]at a;rcases a with rfl|rfl|rfl|rfl
  .exact(e _).r
  .exact(e _).r
  .exact(e _).r
  .exact(e _).r
 let⟨Q,S,T,V⟩:=Qw (v0:=À f) (v1:=Ê Î j7) (v2:=À<|Â ⟨j9,0,Á⟩) (v3:=À O) u z B C;have F:=Qx (w':=iT r tb (À f) (Ê Î j7) (À<|Â ⟨j9,0,Á⟩)<|À O) s ru D P sE wM λc x=>yC x;have A0:({l₁ with w:=iT r tb (À f) (Ê Î j7) (À<|Â ⟨j9,0,Á⟩) (À O)}:fc).O tb:=q;replace Q:({l₁ with w:=iT r tb (À f) (Ê Î j7) (À<|Â ⟨j9,0,Á⟩) (À O)}:fc).w.cell? ⟨tb,0,Á⟩=_:=Q;replace S:({l₁ with w:=iT r tb (À f) (Ê Î j7) (À<|Â ⟨j9,0,Á⟩) (À O)}:fc).w.cell? ⟨tb,1,Á⟩=_:=S;replace T:({l₁ with w:=iT r tb (À f) (Ê Î j7) (À<|Â ⟨j9,0,Á⟩) (À O)}:fc).w.cell? ⟨tb,2,Á⟩=_:=T;replace V:({l₁ with w:=iT r tb (À f) (Ê Î j7) (À<|Â ⟨j9,0,Á⟩) (À O)}:fc).w.cell? ⟨tb,3,Á⟩=_:=V;generalize({l₁ with w:=iT r tb (À f) (Ê Î j7) (À<|Â ⟨j9,0,Á⟩) (À O)}:fc)=l₂ at Q S T V F A0|-;clear L q D E u z B C hz P r l₁ X o;have W:=F.G s;have pV:¬l₂.q:=by rwa[F.q]
 have cd2:l₂.w.cell? ⟨J,i%n,Á⟩=Â (è<|Â k):=(gJ<|F.r J<|Ã YR).trans cd;apply fW (n:=5) W.r;w_go fw;refine Ë λ_ _=> ?_;refine ai5 (II nT #[y0,Æ (Â ⟨J,0,Á⟩) n j,y2,y3,Ê Î i,À<|Â ⟨tb,0,Á⟩,y6,y7,Æ (Â ⟨j6,0,Á⟩) b m,Ê Î b,Ê Î i,ŝ Ò,Ê Î i,À<|Â ⟨j6,i*4,Á⟩,Đ #[À f,Ê Î j7,À<|Â ⟨j9,0,Á⟩,À O],qy,vh,vi,tX,tY,tZ,sB,sC,sD,rf,sk,rh,o5,n7,pO,pP,pQ] (uj J n i (i%n) k (Æ (Â ⟨J,0,Á⟩) n j)<|Đ #[À f,Ê Î j7,À<|Â ⟨j9,0,Á⟩,À O])<|Kw l₂) W.r pV (λa x=> ?_) (λY listed a t i' rest hI I e GR=>ai6 (J:=Af Ä Ò k (Đ #[À f,Ê Î j7,À<|Â ⟨j9,0,Á⟩,À O]) N) (N:=N) W pV U U U U A0 (F.O J YR) hn vp Z U cd2 Q S T V (λl H _ _ _ h=>h) (λt H hA hs h=> ?_) Y listed a t i' rest hI I e GR) λY listed a ko hI I yH=> ?_
 .exact⟨(),mJ.G _ _ _,(iD.fT W.r).N (λ_ b=>b.elim) ⟨x.r,x.I,x.N,x.Y,x.S⟩,A⟩
 .have x:=F.fg hA;have a:=(h 1 A).trans (show _=Â (Æ (Â ⟨J,0,Á⟩) n j)from U);have o8:=(h 8 A).trans (show _=Â (Æ (Â ⟨j6,0,Á⟩) b m)from U);have o9:=(h 9 A).trans (show _=Â (Ê Î b)from U);have o10:=(h 10 A).trans (show _=Â (Ê Î i)from U);clear h;obtain⟨x0,x1,x2,x3,x4,x5,x6,x7,x8,x9,Yc,x11,x12,x13,x14,x15,x16,x17,x18,x19,x20,x21,x22,x23,x24,x25,x26,x27,x28,x29,x30,x31,rfl⟩:=GQ H hs;obtain rfl:x1=Æ (Â ⟨J,0,Á⟩) n j:=by simpa using a
  obtain rfl:x8=Æ (Â ⟨j6,0,Á⟩) b m:=by simpa using o8
  obtain rfl:x9=Ê Î b:=by simpa using o9
  obtain rfl:Yc=Ê Î i:=by simpa using o10
  apply fW (n:=9) x.fu;iterate 7 w_go fw
  refine Ë λ_ _=> ?_;refine hN t _ x ⟨U,U,U,U,?_⟩;simp;grind [AZ]
 .let⟨x,a,h,h8⟩:=hI;have pW:∀i∈ã 9,listed.getD i Ì=Ò:=by
   cases Y
   .exact pU yH I (ã 9) [] fO λi e=>by cases e
   .exact pU yH I (ã 9) [] fO λi e=>by cases e
   .exact pU yH I (ã 9) [] fO λi e=>by cases e
  grind
end
noncomputable def Bs (t:Array Ï) (a:List é):Ý:=G ((base 52).at ⟨t,[]⟩ [ö Ku,ą Ku,ô 2]) a
structure ET(dv:Ï)(n j:Nat)(t:Array Ï):Prop where
 r:t.size=32
 aja:t[24]?=Â dv
 C:t[25]?=Â (Ê Î n)
 I:t[26]?=Â (Ê Î j)
def GY(t:Array Ï):é:=(base 37).at ⟨t,[]⟩ [Ñ J7 [2],ö<|(ä 13 J8 Ì).seq J9]
def Dx(t:Array Ï)(a:List é):Ý:=G ((base 37).at ⟨t,[]⟩ [Ñ J8 [],ö J9]) a
structure SE(ba all nS:Nat)(t:Array Ï):Prop where
 r:t.size=49
 I:t[8]?=Â (À<|Â ⟨ba,0,Á⟩)
 C:t[11]?=Â (À<|Â ⟨nS,0,Á⟩)
 QL:t[12]?=Â (À<|Â ⟨all,0,Á⟩)
section
variable{J a N:Jd}{l:fc}{t:Array Ï}{ba all nS:Nat}{dv:Ï}
def ajb(e:kg l)(a:ST ba all nS n n (Æ O k j9) dv t)(f:∀b d,DT dv O k j9 0 b->SE ba all nS d->fi Ä Ò J l (pX b<|GY d::qX)):fi Ä Ò J l (A6 t qX):=by
 obtain⟨p,q,r,s,u,v,w,x,g,y,h,i,j,c,z,B,C,D,E,F,G,H,I,K,L,M,N,m,o,P,Q,S,T,V,W,X,Y,tL,tM,tN,tO,tP,tR,tS,tT,tU,pR,pS,wI,rfl⟩:=GA t a.r;obtain rfl:g=À (Â ⟨ba,0,Á⟩):=by simpa using a.a
 obtain rfl:h=Æ O k j9:=by simpa using a.C
 obtain rfl:i=À (Â ⟨nS,0,Á⟩):=by simpa using a.I
 obtain rfl:j=À (Â ⟨all,0,Á⟩):=by simpa using a.M
 obtain rfl:dv=c:=(show c=dv by simpa using a.N).symm;obtain rfl:m=Ê Î n:=by simpa using a.S
 obtain rfl:o=Ê Î n:=by simpa using a.Y
 have hF:True:=trivial;apply fW (n:=40) e;simp only[A6,Dr,QJ];iterate 7 w_go fw
 simp only[Ka,J7];iterate 4 w_go fw
 u_call ŵ fO Ŗ fw hF
 iterate 9 w_go fw
 refine Ë λ_ _=> ?_;exact f _ _ ⟨U,U,U,U,U⟩ ⟨U,U,U,U⟩
def ajc(d:kg l)(a:DT (Æ (Â ⟨j7,0,Á⟩) n b) O k j9 k t)(e:∀c,ET (Æ (Â ⟨j7,0,Á⟩) n b) n 0 c->fi Ä Ò J l (Bs c qX)):fi Ä Ò J l (pX t qX):=by
 obtain⟨i,f,j,m,o,p,q,r,s,g,h,u,v,w,x,y,z,B,C,D,E,F,G,H,I,K,L,M,N,P,Q,S,rfl⟩:=GQ t a.r;obtain rfl:f=Æ (Â ⟨j7,0,Á⟩) n b:=by simpa using a.C
 obtain rfl:g=Ê Î k:=by simpa using a.M
 obtain rfl:h=Ê Î k:=by simpa using a.I
 have hF:True:=trivial;apply fW (n:=40) d;simp only[pX];conv in Kv=>whnf
 iterate 7 w_go fw
 conv in YP=>whnf
 iterate 8 w_go fw
 refine Ë λ_ _=> ?_;exact e _ ⟨U,U,U,U⟩
def ajd(a:gw l)(g:¬l.q)(c:ET (Æ (Â ⟨j7,0,Á⟩) n b) n j t)(z:j<n)(B:n<1000)(i:l.O j7)(o:l.w.cell? ⟨j7,j,Á⟩=Â (è<|Â m)) (p:∀d e,iD ff l d->ET (Æ (Â ⟨j7,0,Á⟩) n b) n (j+1) e->fi Ä Ò N d (Bs e qX)):fi Ä Ò (I3 Ä Ò m N) l (Bs t qX):=by
 obtain⟨C,D,F,G,H,I,J,K,L,M,P,Q,S,T,V,W,X,Y,tX,tY,tZ,sB,sC,sD,q,u,v,o5,n7,pO,pP,pQ,rfl⟩:=GQ t c.r;obtain rfl:q=Æ (Â ⟨j7,0,Á⟩) n b:=by simpa using c.aja
 obtain rfl:u=Ê Î n:=by simpa using c.C
 obtain rfl:v=Ê Î j:=by simpa using c.I
 have hF:True:=trivial;apply fW (n:=40) a.r;simp only[Bs];conv in Ku=>whnf
 repeat w_go fw
 refine Ë λ_ _=> ?_;apply nh (x:=⟨j7,j,Á⟩) U U (by k_ne) a.r g (Ã<|Ã i) o (λw h=>by go_simp) (λw h=>by simp[go_sem,h]);walk_nrm;apply fW (n:=40) a.r;iterate 4 w_go fw
 refine Ë λ_ _=> ?_;refine .fB λw₁ y=>⟨U,U,_,U,λwi cap buf s r tm h=>(stepG_close U U (by k_ne) U U h fO).trans U,?_⟩;walk_nrm;have f:=(iD.fT (E:=ff) a.r).N (λ_ k=>k.elim) y;apply fW (n:=20) f.fu;iterate 7 w_go fw
 refine Ë λ_ _=> ?_;refine p _ _ f ⟨U,U,U,?_⟩;simp;exact AZ Z Z
def aje(e:gw l)(g:l.d=0)(p:60<=i)(f:ET dv n n t)(c:SE ba all nS d)(j:l.K ⟨all,0,Á⟩/\l.K ⟨all,1,Á⟩)(q:ng all l.w) (r:∀m o,iD ff l m->SE ba all nS o->a m (Dx o qX)):fi Ä Ò (qu Ä Ò i all a .iX) l (Bs t<|GY d::qX):=by
 obtain⟨G,H,I,J,L,M,N,P,Q,S,T,V,W,X,Y,qy,vh,vi,tX,tY,tZ,sB,sC,sD,rf,s,u,o5,n7,pO,pP,pQ,rfl⟩:=GQ t f.r;obtain rfl:s=Ê Î n:=by simpa using f.C
 obtain rfl:u=Ê Î n:=by simpa using f.I
 have hF:True:=trivial;apply fW (n:=40) e.r;simp only[Bs,GY,J7];conv in Ku=>whnf
 iterate 8 w_go fw
 obtain⟨z0,z1,z2,z3,z4,z5,z6,z7,v,z9,z10,x,y,z13,z14,z15,z16,z17,z18,z19,z20,z21,z22,z23,z24,z25,z26,z27,z28,z29,z30,z31,z32,z33,z34,z35,z36,z37,z38,z39,z40,z41,z42,z43,z44,z45,z46,z47,z48,rfl⟩:=GA d c.r;obtain rfl:v=À (Â ⟨ba,0,Á⟩):=by simpa using c.I
 obtain rfl:x=À (Â ⟨nS,0,Á⟩):=by simpa using c.C
 obtain rfl:y=À (Â ⟨all,0,Á⟩):=by simpa using c.QL
 u_leave0 ŵ fw hF
 simp only[J8];iterate 3 w_go fw
 u_call qx.f_wait (nm_wait Lk) waitFn fw hF
 refine Ë λ_ _=> ?_;refine XV qx p (⟨Ã j.1,Ã j.2,λw z b B C D F h=>h.fg ⟨b,B,C,D,F⟩⟩) ⟨e.r,q,fG.fT _ _⟩ g λz B=> ?_;walk_nrm;refine .fB λC b=> ?_;have h:=(iD.fT (E:=ff) e.r).N (λ_ k=>k.elim)<|B.2.2.fg ⟨b.r,b.I,b.N,b.Y,b.S⟩;exact r {l with d:=0,w:=C} _ ⟨h.O,h.h,h.Y,h.I,h.c,h.K,h.q,g.symm,h.fu,h.f,h.r,h.e,h.S,h.b,h.g⟩ ⟨U,U,U,U⟩
end
def vq(a:Nat)(b c:Ï)(_:Unit):Nat->Ï
 |0=>b
 |1=>À<|Â ⟨a,0,Á⟩
 |2=>À<|Â ⟨a,0,Á⟩
 |3=>À<|Â ⟨a,2,Á⟩
 |4=>c
 |5=>b
 |_=>c
def Kz(a:fc)(_:Array Bool)(_:Unit)(l:fc):Prop:=gh ff a l
section
variable{J:Jd}{g:fc}{h:Option â}
def ajf(K:¬g.q)(N:q.size=49)(P:q[8]?=Â (À<|Â ⟨m,0,Á⟩))(Q:q[11]?=Â (À<|Â ⟨j9,0,Á⟩))(E:g.M m)(F:gX g ⟨j9,2,Á⟩)(S:g.w.cell? ⟨m,0,Á⟩=Â (Æ O b n))(T:g.w.cell? ⟨j9,2,Á⟩=Â (Æ h j6 j7)) (md:ý) (listed:Array Bool) (y:ŏ) (l:fc) (i:Nat) (jJ:List Nat) (V:II wS q (vq j9 (Æ O b n)<|Æ h j6 j7) (Kz g) listed y l) (k:i∈Û md wS listed): fi Ä Ò (λc d=>∃a,d=G ((base 37).at a<|Ñ wS jJ::L) qX/\II wS q (vq j9 (Æ O b n)<|Æ h j6 j7) (Kz g) (listed.setIfInBounds i Ò) a c) l (G ((base 37).at y<|Ñ wS (i::jJ)::L) qX):=by
 let⟨x,j,p⟩:=V;have s:tV wS q.size=Ò:=by rw[N];decide
 have H:=C6 k;have t:=p.fu;have u:¬l.q:=by rwa[show l.q=g.q from p.q]
 have W:=(j.C A).trans P;have X:=(j.C A).trans Q;have B:gX l ⟨m,0,Á⟩:=Ã<|p.M E;have D:gX l ⟨j9,2,Á⟩:=F.imp (λa=>p.M a) λa=>by rwa[p.C]
 have I:=(gJ<|p.r m E id).trans S;have J:l.w.cell? ⟨j9,2,Á⟩=Â (Æ h j6 j7):=by
  refine Ŀ ?_ T;rcases F with a|a
  .exact gJ<|p.r _ a id
  .exact p.f _ a
 have v:∀{c:Nat},∀d,fG l l.w d->Kz g (listed.setIfInBounds c Ò) () {l with w:=d}:=λd r=>p.G r;have Y:wS.size=7:=A
 rw[Y]at H;match i,H with
 |0,_=>
  refine il (o:=Gq) s j U U k (by k_ne) t u (λd r=> ?_) (λd r e f=> ?_) v
  .have z:=(B.r r).trans I;simp only[vq,Gq];go_simp
  .have z:=(B.r r).trans I;simp[go_sem,Gq,W,z]at f;subst f;exact B.C
 |4,_=>
  have h47:y.tmps[47]?=Â (À<|Â ⟨j9,2,Á⟩):=j.r 3 Gt 47 U (ij k U U) U;refine il (o:=Gu) s j U U k (by k_ne) t u (λd r=> ?_) (λd r e f=> ?_) v
  .have z:=(D.r r).trans J;simp only[vq,Gu];go_simp
  .have z:=(D.r r).trans J;simp[go_sem,Gu,h47,z]at f;subst f;exact D.C
 |1,_=>
  refine il (o:=Gr) s j U U k (by k_ne) t u (λd r=> ?_) (λd r e f=> ?_) v
  .simp only[vq,Gr];go_simp
  .simp[go_sem,Gr,X]at f
 |2,_=>
  have z:y.tmps[45]?=Â (À<|Â ⟨j9,0,Á⟩):=j.r 1 Gr 45 U (ij k U U) U;refine il (o:=Gs) s j U U k (by k_ne) t u (λd r=> ?_) (λd r e f=> ?_) v
  .simp only[vq,Gs];go_simp
  .simp[go_sem,Gs,z]at f
 |3,_=>
  have z:y.tmps[46]?=Â (À<|Â ⟨j9,0,Á⟩):=j.r 2 Gs 46 U (ij k U U) U;refine il (o:=Gt) s j U U k (by k_ne) t u (λd r=> ?_) (λd r e f=> ?_) v
  .simp only[vq,Gt];go_simp
  .simp[go_sem,Gt,z]at f
 |5,_=>
  have z:y.tmps[44]?=Â (Æ O b n):=j.r 0 Gq 44 U (ij k U U) U;refine il (o:=Gv) s j U U k (by k_ne) t u (λd r=> ?_) (λd r e f=> ?_) v
  .simp only[vq,Gv];go_simp
  .simp[go_sem,Gv,z]at f
 |6,_=>
  have z:y.tmps[48]?=Â (Æ h j6 j7):=j.r 4 Gu 48 U (ij k U U) U;refine il (o:=Gw) s j U U k (by k_ne) t u (λd r=> ?_) (λd r e f=> ?_) v
  .simp only[vq,Gw];go_simp
  .simp[go_sem,Gw,z]at f
def ajg(c:gw g)(t:¬g.q)(e:SE m j j9 d)(B:g.M m)(C:gX g ⟨j9,2,Á⟩)(D:g.w.cell? ⟨m,0,Á⟩=Â (Æ O b n))(E:g.w.cell? ⟨j9,2,Á⟩=Â (Æ h j6 j7)) (F:∀u,gh ff g u->fi Ä Ò J u (G (f.at (y.put ((Q[i]?).bind (·.dst))<|ñ #[Æ O b n,Æ h j6 j7])<|Ñ Q jJ::L) qX)): fi Ä Ò J g (Dx d<|f.at y (Ñ Q (i::jJ)::L)::qX):=by
 have hF:=trivial;apply fW (n:=9) c.r;simp only[Dx,J9];iterate 2 w_go fw
 refine Ë λ_ _=> ?_;refine Qk (II wS d (vq j9 (Æ O b n)<|Æ h j6 j7)<|Kz g) c.r t (λl a=>⟨(),mJ.G _ _ _,(gh.fT c.r).G ⟨a.r,a.I,a.N,a.Y,a.S⟩⟩) (λk o y l i jJ p a=>ajf t e.r e.I e.C B C D E k o y l i jJ p a) λk o H I p r s=> ?_;let⟨x,l,K⟩:=p;have v:∀i∈ã 7,o.getD i Ì=Ò:=by
  cases k
  .exact pU s r (ã 7) [] fO λi a=>by cases a
  .exact λi a=>pU s r [0,5,1,2,3,4,6] [] fO (λi a=>by cases a) i (by have:=Ē.1 a;revert i;decide)
  .exact pU s r (ã 7) [] fO λi a=>by cases a
 let⟨a,N⟩:=H;obtain rfl:N=[]:=l.M;have P:a[6]?=Â (Æ O b n):=l.r 5 Gv 6 U (v 5 A) U;have S:a[7]?=Â (Æ h j6 j7):=l.r 6 Gw 7 U (v 6 A) U;have X:=l.S.trans e.r;have z:=K;have T:=z.N c;have V:a.getD 6 Å=Æ O b n:=by simp[ď,P]
 have W:a.getD 7 Å=Æ h j6 j7:=by simp[ď,S]
 apply fW (n:=9) T.r;iterate 2 w_go fw
 u_in fw hF
 refine goes_leave2 U U Tryz.func37 U ⟨by u_nil,?_⟩;rw[V,W];refine Ë λ_ _=>F I z
end
structure SD where
 L:Nat
 g:Nat
 n:Nat
 m:Nat
 q:Nat
 N:Nat
 I:Nat
 C:Nat->Nat
 M:Nat
 S:Nat
 s:Nat
 u:Option â
 t:Nat
 l:Option â
 k:Nat
 o:Nat->Option â
 a:Nat->Nat
 i:Nat->Option â
 c:Nat->Nat
 b:Nat->Nat
 f:List é
 d:Nat->Prop
 RC:ß->Prop
 p:ß->Prop
 γ:Type
 w:γ
 v:Nat->Prop
 h:Nat->γ->γ->Prop
 RD:γ->Ï->(Nat->Prop)->ß->Prop
 e:Nat->ByteArray
 j:Nat->ByteArray
def SD.Y(D:SD):Fx:=⟨D.L,D.m,D.I,D.C⟩
def SD.ajh(D:SD)(i:Nat):Ï:=Đ #[À<|D.i i,Ê Î<|D.c i,À<|Â ⟨D.C<|D.b i,0,Á⟩,À Á]
structure lz(D:SD)(S:Nat->Prop)(l:fc):Prop where
 C:∀b,D.Y.M b->l.K ⟨b,0,Á⟩/\l.K ⟨b,1,Á⟩
 M:∀b,D.Y.M b->ng b l.w
 c:S D.S
 d:l.w.cell? ⟨D.S,0,Á⟩=Â (Æ (Â ⟨D.M,0,Á⟩) D.N D.N)
 f:S D.s
 g:l.w.cell? ⟨D.s,0,Á⟩=Â (Æ D.u D.m D.t)
 h:∀k,k<D.m->∃b,D.u=Â ⟨b,0,Á⟩/\S b/\l.w.cell? ⟨b,k*4,Á⟩=Â (À<|D.o<|k+1)/\l.w.cell? ⟨b,k*4+1,Á⟩=Â (Ê Î<|D.a<|k+1)/\l.w.cell? ⟨b,k*4+2,Á⟩=Â (À<|Â ⟨D.C k,0,Á⟩)/\l.w.cell? ⟨b,k*4+3,Á⟩=Â (À<|Â ⟨D.C<|k+1,0,Á⟩)
 j:∀i,i<D.q->∃b,D.l=Â ⟨b,0,Á⟩/\S b/\l.w.cell? ⟨b,i*4,Á⟩=Â (À<|D.i i)/\l.w.cell? ⟨b,i*4+1,Á⟩=Â (Ê Î<|D.c i)/\l.w.cell? ⟨b,i*4+2,Á⟩=Â (À<|Â ⟨D.C<|D.b i,0,Á⟩)/\l.w.cell? ⟨b,i*4+3,Á⟩=Â (À Á)
 r:∀a,l.r a->(l.w.cell? a).isSome=Ò/\l.w.frozen? a=Ì
 Y:∀b,D.d b->S b
 e:D.RC l.w
structure SD.Ok(D:SD):Prop where
 C:∀w w',D.RC w->(∀b,D.d b->w'.heap[b]?=w.heap[b]?)->D.RC w'
 ioS:∀w w',D.p w->(w'.os=w.os/\w'.output=w.output)->D.p w'
 r:∀s sl V w w',D.RD s sl V w->(∀b,V b->w'.heap[b]?=w.heap[b]?)->D.RD s sl V w'
 I:1<=D.n
 L1:1<=D.L
 gf:D.n+D.q+D.m<1000
 N1:D.N<1000
 S:∀i,D.b i<=D.m
 a:∀i,i<D.q->D.c i<D.N
 Y:∀k,1<=k->k<=D.m->D.a k<D.N
 aji:∀k,k<=D.m->D.C k≠D.I
 ajj:∀k k',k<=D.m->k'<=D.m->D.C k=D.C k'->k=k'
 M:¬D.Y.M D.M
 pq:∀i i',i<D.q->i'<D.q->D.c i=D.c i'->i=i'
 pi:∀k k',1<=k->k<=D.m->1<=k'->k'<=D.m->D.a k=D.a k'->k=k'
 NW:∀i k,i<D.q->1<=k->k<=D.m->D.c i≠D.a k
 gl:∀b,D.Y.M b\/b=D.M->D.g<=b
section
variable{D:SD}{S:Nat->Prop}{l f:fc}
def lz.I(h:lz D S l)(ok:D.Ok)(e:∀b,S b->X b)(c:∀b,S b->f.w.heap[b]?=l.w.heap[b]?)(q:f.K=l.K)(p:∀a,l.K a->(l.w.cell? a).isSome=Ò->(f.w.cell? a).isSome=Ò)(r:∀a,f.r a->(f.w.cell? a).isSome=Ò/\f.w.frozen? a=Ì):lz D X f where
 C b hg:=by rw[q];exact h.C b hg
 M b hg:=⟨p _ (h.C b hg).1 (h.M b hg).1,p _ (h.C b hg).2 (h.M b hg).2⟩;c:=e _ h.c;d:=(gJ<|c _ h.c).trans h.d;f:=e _ h.f;g:=(gJ<|c _ h.f).trans h.g;h k hk:=by let⟨b,g,d,j,m,n,o⟩:=h.h k hk;exact⟨b,g,e b d,(gJ<|c b d).trans j,(gJ<|c b d).trans m,(gJ<|c b d).trans n,(gJ<|c b d).trans o⟩
 j i hi:=by let⟨b,g,d,j,m,n,o⟩:=h.j i hi;exact⟨b,g,e b d,(gJ<|c b d).trans j,(gJ<|c b d).trans m,(gJ<|c b d).trans n,(gJ<|c b d).trans o⟩
 r:=r;Y b d:=e b<|h.Y b d;e:=ok.C _ _ h.e λb d=>c b<|h.Y b d
def lz.G(h:lz D S l)(ok:D.Ok)(c:∀b,S b->l.M b)(r:fG l l.w u):lz D S {l with w:=u}:= h.I ok (λ_ q=>q) (λb q=>r.I b<|c b q) U r.S λa q=>by have:=h.r a q;exact⟨by show(u.cell? a).isSome=Ò;rw[r.N a<|Ã q];exact this.1,(r.Y a<|Ã q).trans this.2⟩
def lz.Rt{E:â->Prop}(h:lz D S l)(ok:D.Ok)(g:∀b,S b->l.M b)(c:iD E l f):lz D S f:= h.I ok (λ_ q=>q) (λb q=>c.r b<|g b q) c.K c.b λa q=>by
  rw[c.I]at q;let⟨d,i⟩:=h.r a q;refine⟨?_,(c.S a<|Ã q).trans i⟩;by_cases e:E a
  .exact c.g a e d
  .rwa[c.e a (Ã q) e]
def lz.ajk(h:lz D S l)(ok:D.Ok)(d:∀b,S b->l.M b/\¬X b)(c:gh X l f):lz D S f:= h.I ok (λ_ q=>q) (λb q=>c.r b (d b q).1 (d b q).2) c.K c.e λa q=>by rw[c.Y]at q;let⟨e,g⟩:=h.r a q;exact⟨by rwa[c.f a<|Ã q],(c.g a<|Ã q).trans g⟩
def lz.N(h:lz D S l)(a:∀b,S b->X b):lz D X l:=⟨h.C,h.M,a _ h.c,h.d,a _ h.f,h.g,λk c=>let⟨b,d,e,f⟩:=h.h k c;⟨b,d,a b e,f⟩,λk c=>let⟨b,d,e,f⟩:=h.j k c;⟨b,d,a b e,f⟩,h.r,λb q=>a b<|h.Y b q,h.e⟩
end
section
variable(D:SD)
def jD(a:Nat->Nat)(j:Nat):List Ï:=(ã j).map λi=>è<|Â<|a i
def Bt(k:Nat):Jd:=λl g=>l.d=0/\¬l.q/\lz D l.M l/\∃t a b c e f h i j n o,AY D.M D.N D.u D.m D.t k t/\l.M a/\l.w.cell? ⟨a,0,Á⟩=Â (À<|Â ⟨D.I,0,Á⟩)/\g=yD t [vj h i j n o,yI a b c e f,nO Ä]
def YS(c i:Nat):Jd:=λl g=>l.d=0/\¬l.q/\lz D l.M l/\∃t a b e f h j k m n o p,QT D.M D.N c t/\t[4]?=Â (À<|Â ⟨a,0,Á⟩)/\l.O a/\l.w.cell? ⟨a,0,Á⟩=Â (À<|D.i i)/\l.w.cell? ⟨a,1,Á⟩=Â (Ê Î<|D.c i)/\l.w.cell? ⟨a,2,Á⟩=Â (À<|Â ⟨D.C<|D.b i,0,Á⟩)/\l.M b/\l.w.cell? ⟨b,0,Á⟩=Â (À<|Â ⟨D.I,0,Á⟩)/\g=J0 t [Gl k m n o p,yI b e f h j,nO Ä]
def ajl:Jd:=λl g=>lz D l.M l/\∃t a b c,Gz D.S D.I (D.C D.m) D.n (Æ D.l D.q D.k) t/\gZ l a (É #[À<|Â ⟨D.I,0,Á⟩] 162)/\gZ l b (É #[Ĉ (ù 48) #[] #[À<|Â ⟨D.s,0,Á⟩,À<|Â ⟨D.S,0,Á⟩]] 1)/\g=A7 (À<|Â ⟨D.I,0,Á⟩) c (À<|Â ⟨D.I,0,Á⟩) (ñ #[]) a b (Ds t::D.f)
def ajm(j:Nat)(a:Nat->Nat):Jd:=λl g=>lz D l.I l/\∃t e c b d f,ST D.S D.I (D.C D.m) D.n (j-1) (Æ D.l D.q D.k) e t/\Yr D.S D.I D.q e (jD a j) (a<|j-1) c b d l/\a (j-1)<c/\c<b/\b<d/\(∀k,e.ownBlock=Â k->k≠a (j-1)/\k≠c/\k≠b/\k≠d)/\D.g<=a (j-1)/\g=A7 (À<|Â ⟨D.I,0,Á⟩) f (À<|Â ⟨D.I,0,Á⟩) (ñ #[]) b d (Kb t::D.f)
def KA(j:Nat)(a:Nat->Nat):Jd:=λl g=>l.d=0/\¬l.q/\D.g<=l.w.heap.size/\((j=0/\ajl D l g)\/(1<=j/\ajm D j a l g))
def YT:Jd:=λl g=>l.d=0/\¬l.q/\lz D l.I l/\∃a,SE D.S D.I (D.C D.m) a/\g=Dx a D.f
def SD.r(P:ė):Ph where
 toFx:=D.Y
 P:=P
 S:=D.g
 n:=D.n
 q:=D.q
 Y:=D.M
 f:=D.N
 r:=D.b
 a:=D.c
 b:=D.a
 c:=D.ajh
 z:=zT
 B:=60
 γ:=D.γ
 l:=D.w
 i:=D.v
 p:=D.h
 d:=λk s V w=>(∃a,w.cell? ⟨D.C k,2,Á⟩=Â a/\D.RD s a V w)/\(k=0->w.cell? ⟨D.M,D.N,Á⟩=Á/\kN w D.M=Â (0,0)/\D.p w)
 o:=D.e
 k:=D.j
 g:=KA D
 h:=Bt D
 e:=YS D
 j:=λ_=>YT D
end
def Dy(D:SD):Prop:=∀k s e V l,k<D.m->mY (D.r Ä) k s->D.RD s e V l.w->(∀b,V b->l.M b)->gw l->¬l.q->(∀b,D.d b->l.M b)->D.RC l.w->∀f g,fi Ä Ì (λa j=>a.d=l.d/\∃p n c,j=G (f.finish<|ñ #[Æ p n c,à<|D.e<|k+1]) g/\∃h i,D.h k s h/\D.RD h (Æ p n c) i a.w/\∀b,i b->a.M b) (lR l)<|G (Ă Ä 66 #[e,À<|D.o<|k+1] Ğ)<|f::g
def Dz(D:SD):Prop:=∀i s a V l,i<D.q->mY (D.r Ä) (D.b i) s->D.RD s a V l.w->(∀b,V b->l.M b)->gw l->¬l.q->(∀b,D.d b->l.M b)->D.RC l.w->∀b c,fi Ä Ì (λe f=>e.d=l.d/\f=G (b.finish<|à<|D.j i) c) (lR l)<|G (Ă Ä 67 #[a,À<|D.i i] Ğ)<|b::c
section
variable{D:SD}
def GZ(k:Nat)(a:k<=D.m):D.Y.M (D.C k):=Ç ⟨k,a,U⟩
def yN:D.Y.M D.I:=Ã U
def ajn(ok:D.Ok):(D.r Ä).Ok:=⟨ok.I,ok.L1,ok.gf,λi _=>ok.S i,ok.aji,ok.ajj,ok.M,ok.pq,ok.pi,ok.NW,ok.gl,⟨λk a b e=>by have c:D.a k=D.N:=e;have:=ok.Y k a b;omega,λi d e=>by have c:D.c i=D.N:=e;have:=ok.a i d;omega⟩⟩
theorem ajo(ok:D.Ok)(tC:Dy D):∀k s V l g,k<D.m->Bt D k l g->gw l->mY (D.r Ä) k s->(D.r Ä).d k s V l.w->(∀b,V b->l.I b)->l.N (je D.Y k)->l.r (je D.Y<|k+1)->l.r (jm (D.r Ä)<|D.a<|k+1)->∀B:Nat->D.γ,B k=s->fi Ä Ì (JI (D.r Ä) B<|.mk (k+1)) l g:=by
 intro k s V l g o hJ Dw Ru Az hV tW C E B hsg;obtain⟨hd,F,f,t,G,v1,v2,v3,v4,u0,u1,u2,u3,u4,hT,Bg,cbw,rfl⟩:=hJ;let⟨⟨sl,hsl,qB⟩,_⟩:=Az;let⟨b,yE,hbM,i0,i1,i2,i3⟩:=f.h k o;have FK:=ok.gf;have kO:(⟨D.C<|k+1,2,Á⟩:â)≠⟨D.M,D.a<|k+1,Á⟩:=λe=>ok.M (by injection e with H _ _;rw[<-H];exact GZ (k+1) o);have An:AY D.M D.N (Â ⟨b,0,Á⟩) D.m D.t k t:=by rwa[<-yE]
 have⟨oc1,oz1⟩:=f.r _ C;have⟨oc2,oz2⟩:=f.r _ E;have ru:∀a:â,(a=⟨D.C<|k+1,2,Á⟩\/a=⟨D.M,D.a<|k+1,Á⟩)->l.r a:=λa p=>by rcases p with rfl|rfl;exact C;exact E
 have r:=f.C _<|GZ (k+1) o;have YU:=f.M _<|GZ (k+1) o;refine fi.fN (Stop:=λl g=>(∃i n,D.h k s i/\(D.r Ä).d (k+1) i n l.w/\(∀b,n b->l.M b)/\l.w.cell? ⟨D.M,D.a<|k+1,Á⟩=Â (à<|D.e<|k+1))/\ye Ä Ì (D.C<|k+1) (fi Ä Ì<|Bt D<|k+1) (pL (D.r Ä) l<|k+1) g) (λl g h=> ?_) ?_
 .let⟨⟨i,n,I,J,L,O⟩,P⟩:=h;exact⟨i,n,by subst hsg;exact I,J,L,O,P⟩
 refine ahV (Q:=λv x y=>x=D.e (k+1)/\∃i n,D.h k s i/\D.RD i v n y.w/\∀b,n b->y.M b) (τ:=λl=>pL (D.r Ä) l<|k+1) Dw F hd An o Z (by have:=ok.N1;omega) (ok.Y (k+1) Z o) hbM i0 i1 i2 i3 tW hsl C E oc1 oc2 oz1 oz2 kO (λc v j u=> ?_) λc x v hQ QC JZ=> ?_
 .refine(tC k s sl V c o Ru (ok.r _ _ _ _ _ qB λb x=>v.r b<|Ç<|hV b x) (λb x=>v.M<|Ç<|hV b x) (v.G Dw) (by rwa[v.q]) (λb x=>v.M<|f.Y b x) (ok.C _ _ f.e λb x=>v.r b<|f.Y b x) j u).fN ?_;grind
 .let⟨y,⟨hstr,i,n,hnx,ajp,YV⟩,hy⟩:=hQ;rw[hstr]at JZ;have YW:ng (D.C<|k+1) c.w:=⟨v.b _ r.1 YU.1,v.b _ r.2 YU.2⟩;refine⟨⟨Ã (by rw[v.K];exact r.1),Ã (by rw[v.K];exact r.2),λ_ _ _ _ _ _ _ _=>trivial⟩,⟨v.fu,YW,trivial⟩,⟨i,n,hnx,⟨⟨_,QC,ok.r _ _ _ _ _ ajp λb x=>(hy b<|YV b x).2⟩,λe=>by omega⟩,λb x=>(hy b<|YV b x).1,JZ⟩,v.d.trans hd,λw=>fG (pL (D.r Ä) c<|k+1) c.w w,⟨Ã (by show c.K _;rw[v.K];exact r.1),Ã (by show c.K _;rw[v.K];exact r.2),λw w₁ I J L O P h=>h.fg ⟨I,J,L,O,P⟩⟩,⟨λj h=>h.elim,YW,fG.fT _ _⟩,λwi t' ajq WZ=> ?_⟩;refine .fB λS u=> ?_;have z:=ajq.2.2.fg ⟨u.r,u.I,u.N,u.Y,u.S⟩;have x:=λb x=>(z.I b<|Ç<|v.M x).trans<|v.r b x;have YX:∀b,l.M b->({pL (D.r Ä) c (k+1)with d:=0,w:=S}:fc).M b:=λb x=>Ç<|v.M x;refine⟨U,by show¬c.q;rwa[v.q],f.I ok YX x (by show c.K=l.K;exact v.K) (λa p h=>z.S a (by show c.K a;rwa[v.K])<|v.b a p h) λa p=> ?_,t',G,v1,v2,v3,v4,u0,u1,u2,u3,u4,by rwa[yE],YX G Bg,(gJ<|x G Bg).trans cbw,U⟩;obtain⟨T,W,X⟩:c.r a/\a≠⟨D.M,D.a<|k+1,Á⟩/\a≠⟨D.C<|k+1,2,Á⟩:=p;have Y:l.r a:=by rwa[<-v.I]
  let⟨H,e2⟩:=f.r a Y;refine⟨?_,?_⟩
  .show(S.cell? a).isSome=Ò;rwa[z.N a<|Ã ⟨T,W,X⟩,v.e a (Ã Y) λq=>q.elim X W]
  .show S.frozen? a=Ì;rwa[z.Y a<|Ã ⟨T,W,X⟩,v.S a<|Ã Y]
def ajr:∀l g,Bt D D.m l g->gw l->fi Ä Ì (Aj<|D.r Ä) l g:=by intro l g c d;obtain⟨e,f,b,t,k,n,o,p,q,r,s,u,v,w,h,i,j,rfl⟩:=c;have a:=b.C _<|yN;exact ah3 (Ψ:=λ_=>True) h a ⟨Ã a.1,Ã a.2,λ_ _ _ _ _ _ _ _=>trivial⟩ ⟨d.r,b.M _ yN,trivial⟩ e f (Ã i) j
def YY(ok:D.Ok){r:Nat}{l:fc}{t:Array Ï}{g h m o p:Ï}(B:gw l)(s:¬l.q)(C:l.d=0)(a:lz D l.M l)(E:QT D.M D.N i t)(f:l.M k)(u:l.w.cell? ⟨k,0,Á⟩=Â (À<|Â ⟨D.I,0,Á⟩)): CB (D.r Ä) i j r l (yK t [Gl g h m o p,yI k v x z jQ,nO Ä]):=by have y:=ok.S<|j+r*D.n;refine ah8 B s C E (Ú _) U (a.C _<|GZ _ y) (a.M _<|GZ _ y) (a.C _ yN) (a.M _ yN) (Ã f) u λQ F G e H I J K L O P=>(⟨H,by rwa[e.q],(a.Rt ok (λ_ q=>q) e).N λb q=>e.M q,G,F,k,v,x,z,jQ,g,h,m,o,p,O,P,I,J,K,L,e.M f,(gJ<|e.r k f).trans u,U⟩)
theorem ajs(ok:D.Ok)(W:Dz D):∀c j r s V l g,j+r*D.n<D.q->YS D c (j+r*D.n) l g->∀f:fc,gw f->f.O=l.O->(∀b,l.I b\/V b->f.I b)->f.w=l.w->f.d=l.d->f.q=l.q->f.r=l.r->f.K=l.K->mY (D.r Ä) (D.b<|j+r*D.n) s->(D.r Ä).d (D.b<|j+r*D.n) s V l.w->f.N (je D.Y<|D.b<|j+r*D.n)->f.r (jm (D.r Ä)<|D.c<|j+r*D.n)->fi Ä Ì (JW (D.r Ä) c j<|.oz r) f g:=by
 intro c j r s V l g E X f v F y o Y hq' Jp hK Ru Az tW p;obtain⟨hd,hq,G,t,tb,u,v1,v2,v3,v4,u0,u1,u2,u3,u4,hT,h4,hOt,H,I,J,L,N,rfl⟩:=X;let⟨⟨sl,P,S⟩,_⟩:=Az;have B:∀b,l.M b->f.M b:=λb q=>q.elim (λz=>Ã<|by rwa[F]) λz=>Ç<|y b<|Ã z;have m:=G.I ok B (λb _=>by rw[o]) hK (λa _ h=>by rwa[o]) λa q=>by rw[o];exact G.r a<|by rwa[<-Jp]
 have C:¬f.q:=by rwa[hq']
 rw[<-o]at H I J N P S;let⟨e2,z2⟩:=m.r _ p;refine aib (Q:=λx=>x=D.j (j+r*D.n)) v C hT h4 (by rwa[F]) H I J tW P p e2 z2 (ok.a _ E) (λi e k T=> ?_) λi x t' e hx hcx An=> ?_
 .refine(W _ s sl V i E Ru (ok.r _ _ _ _ _ S λb x=>e.r b<|Ç<|y b<|Ç x) (λb x=>e.M<|Ç<|y b<|Ç x) (e.G v) (by rwa[e.q]) (λb x=>e.M<|m.Y b x) (ok.C _ _ m.e λb x=>e.r b<|m.Y b x) k T).fN ?_;grind
 .have T:=(m.Rt ok (λ_ q=>q) e).N λb q=>e.M q;refine⟨hcx.trans (by rw[hx];rfl),?_⟩;have k:=e.G v;have Gd:gw (u6 (D.r Ä) i<|j+r*D.n):=by
   refine⟨k.c,λa x=> ?_,λa x=> ?_,k.fu,λa x=> ?_,λa x=> ?_⟩
   .rintro(q|q)
    .exact k.Y a x.1 q
    .exact x.2 q
   .refine k.N a ?_;rcases x with q|q|q
    .exact Ã q.1
    .exact Ç q
    .rw[q];exact Ã<|by rwa[e.I]
   .refine k.I a ?_;rcases x with q|q|q
    .exact Ã q.1
    .exact Ç q
    .rw[q];exact Ã<|by rwa[e.I]
   .let⟨k1,k2,k3⟩:=k.S a x;exact⟨k1,k2,λq=>k3 q.1⟩
  refine YY ok Gd (by show¬i.q;rwa[e.q]) (by show i.d=0;rwa[e.d,Y]) (T.I ok (λ_ q=>q) (λ_ _=>rfl) U (λ_ _ h=>h) λa q=>T.r a q.1) An (by show i.M u;exact e.M<|B u L)<|(gJ<|e.r u<|B u L).trans N
end
section
variable{D:SD}{dk:Nat->Nat}{dv:Ï}{l f:fc}
structure MF(D:SD)(dk:Nat->Nat)(dv:Ï)(l:fc):Prop where
 C:gw l
 q:¬l.q
 d:l.d=0
 r:lz D l.I l
 I:∃db c,dv=Æ (Â ⟨db,0,Á⟩) D.n c/\l.O db/\∀i,i<D.n->l.w.cell? ⟨db,i,Á⟩=Â (è<|Â<|dk i)
def MF.M(h:MF D dk dv l)(ok:D.Ok)(a:iD ff l f):MF D dk dv f where
 C:=a.G h.C;q:=by rw[a.q];exact h.q
 d:=a.d.trans h.d;r:=(h.r.Rt ok (λ_ q=>Ç q) a).N λb q=>by rwa[a.Y]
 I:=by let⟨e,c,j,g,k⟩:=h.I;exact⟨e,c,j,a.O e g,λi m=>(gJ<|a.r e<|Ã g).trans<|k i m⟩
def ajt(ok:D.Ok):∀r,r<=D.n->∀l t b,MF D dk dv l->ET dv D.n (D.n-r) t->SE D.S D.I (D.C D.m) b->fi Ä Ò (Ak (D.r Ä) dk r) l (Bs t<|GY b::D.f):=by
 intro r
 induction r with
 |zero=>
  intro _ l t b a e g;rw[ũ]at e;refine aje a.C a.d (Ú _) e g (a.r.C _ yN) (a.r.M _ yN) λf i h j=> ?_;have c:=a.M ok h;exact⟨c.d,c.q,c.r,i,j,U⟩
 |succ r j=>
  intro s l t b a e g;obtain⟨u,c,rfl,k,o⟩:=a.I;have v:=ok.gf;refine ajd a.C a.q e Z Z k (o (D.n-(r+1)) Z) λf p h i=> ?_;refine j Z f p b (a.M ok h) ?_ g;rwa[show D.n-(r+1)+1=D.n-r by omega]at i
def aju(ok:D.Ok):∀r,r<=D.q->∀l t d,MF D dk dv l->DT dv D.l D.q D.k (D.q-r) t->SE D.S D.I (D.C D.m) d->fi Ä Ò (Fz (D.r Ä) dk r) l (pX t<|GY d::D.f):=by
 intro r
 induction r with
 |zero=>
  intro _ l t d a e h;rw[ũ]at e;obtain⟨j,c,rfl,k,o⟩:=a.I;refine ajc a.C.r e λi g=>ajt ok D.n (Ú _) l i d a ?_ h;rwa[Ū]
 |succ r s=>
  intro C l t d a e h;obtain⟨j,c,rfl,k,o⟩:=a.I;have E:=ok.gf;have F:=ok.I;let⟨b,p,u,v,w,x,y⟩:=a.r.j (D.q-(r+1)) Z;have z:DT (Æ (Â ⟨j,0,Á⟩) D.n c) (Â ⟨b,0,Á⟩) D.q D.k (D.q-(r+1)) t:=by rwa[<-p]
  refine Rr a.C a.q z Z Z Z Z k (o _<|ĵ _ Z) (Ç u) v w x y λf i B g=> ?_;refine s Z f i d (a.M ok B) ?_ h;rwa[show D.q-(r+1)+1=D.q-r by omega,<-p]at g
theorem ajv(dk:Nat->Nat)(j a:Nat):jD (fx dk j a) (j+1)=jD dk j++[è<|Â a]:=by unfold jD;grind [ÿ,List.map_congr_left,fH,gC]
def ajw(dk:Nat->Nat)(j:Nat):(jD dk j).length=j:=by simp[jD]
def ajx(dk:Nat->Nat)(j i:Nat)(h:i<j):(jD dk j)[i]?=Â (è<|Â<|dk i):=by simp[jD,h]
theorem YZ(ok:D.Ok){t:Array Ï}(K:j<=D.n)(a:gw l)(o:¬l.q)(p:l.d=0)(h:lz D l.I l)(x:D.g<=l.w.heap.size)(v:ST D.S D.I (D.C D.m) D.n j (Æ D.l D.q D.k) dv t)(r:l.w.ownsRow 0 101 1 dv j (jD dk j))(s:∀k,dv.ownBlock=Â k->l.O k): fi Ä Ò (JM (D.r Ä) dk<|if j<D.n then .iF (j+1)else .iK D.q) l (A6 t D.f):=by
 have L:=ok.gf;by_cases u:j<D.n
 .rw[if_pos u];show fi Ä Ò (NV (D.r Ä) (j+1) dk) l _;rw[ahy];refine ail a o p v u Z Z (h.C _ yN) (h.M _ yN) r s λf i y z B C E F c G H M N I J P=> ?_;refine⟨y,c.d.trans p,by rwa[c.q],Õ x c.I,Ç ⟨Z,(h.ajk ok (λb g=>⟨Ç g,λe=>a.c b (s b e.symm) g⟩) c).N λb q=>(by rwa[c.S]),i,E,z,B,C,F,?_,?_,?_,I,J,?_,?_,U⟩⟩
  .rwa[ø]
  .rwa[ø,ajv,gC]
  .grind [ø,gC]
  .grind [ø,gC]
  .grind [ø,gC,Õ]
 .have e:j=D.n:=Z
  subst e;rw[if_neg u];have y:∃b c,dv=Æ (Â ⟨b,0,Á⟩) D.n c/\l.O b/\∀i,i<D.n->l.w.cell? ⟨b,i,Á⟩=Â (è<|Â<|dk i):=by
   rcases r.2 with⟨_,C⟩|⟨g,z,E,rfl,_⟩
   .have:=ok.I;omega
   .refine⟨g,z,U,s g U,λi B=> ?_⟩;have:=r.cells U i _<|ajx dk D.n i B;grind [ğ]
  refine ajb a.r v λg z B C=>(aju ok D.q (Ú _) l g z ⟨a,o,p,h,y⟩ (by rwa[Ū]) C)
def ajy(ok:D.Ok)(h:Bt D k l g)(r:fG l l.w u):Bt D k {l with w:=u} g:=by obtain⟨c,d,e,t,a,f,i,j,m,n,o,p,s,v,x,b,y,rfl⟩:=h;exact⟨c,d,e.G ok (λ_ q=>q) r,t,a,f,i,j,m,n,o,p,s,v,x,b,(gJ<|r.I a b).trans y,U⟩
def gZ.M{o:Ÿ}(h:gZ l b o)(r:fG l l.w u):gZ {l with w:=u} b o:=⟨h.fl,(r.I b<|Ã h.fl).trans h.I⟩
def FA(ok:D.Ok)(h:KA D j dk l g)(r:fG l l.w u):KA D j dk {l with w:=u} g:=by
 let⟨m,n,o,h⟩:=h;refine⟨m,n,Õ o r.r,?_⟩;rcases h with⟨p,b,t,c,d,f,i,s,v,rfl⟩|⟨x,b,t,dv,y,c,d,f,i,a,z,B,C,E,F,rfl⟩
 .exact Ã ⟨p,b.G ok (λ_ q=>q) r,t,c,d,f,i,s.M r,v.M r,U⟩
 .exact Ç ⟨x,b.G ok (λ_ q=>Ç q) r,t,dv,y,c,d,f,i,⟨nR a.S λk e=>r.I k<|Ã<|a.M k e,a.M,a.r.M r,a.C.M r,a.N.M r,a.I.M r⟩,z,B,C,E,F,U⟩
theorem ajz(ok:D.Ok):∀j dk l g,j<=D.n->KA D j dk l g->gw l->l.d=0/\∃(G H:Ý) (X:Nat->Prop),G.status=ċ/\H.status=ċ/\(∀u,stepG Ä Ò g u=.spawn G H u #[])/\(∀b,X b->l.O b)/\ (1<=j->l.O (dk<|j-1)/\¬X (dk<|j-1)/\l.w.heap[dk<|j-1]?=Â (ŕ D.q #[] Ì 0 0 Ì)/\D.g<=dk (j-1))/\ (∀f:fc,gw f->(∀b,X b\/l.I b->f.I b)->f.w=l.w->f.d=0->¬f.q->(∀b,¬f.O b)->f.K=l.K->f.N=l.N->(∀a,f.r a->l.r a)->fi Ä Ì (if j=0 then Bt D 0 else CB (D.r Ä) (dk<|j-1) (j-1) 0) f H)/\ (∀f:fc,gw f->f.O=(λb=>l.O b/\¬X b/\(1<=j->b≠dk (j-1)))->(∀b,X b\/l.I b->f.I b)->f.w=l.w->f.d=0->f.q=l.q->f.K=l.K->f.N=l.N->(∀a,f.r a->l.r a)->fi Ä Ò (JM (D.r Ä) dk<|if j<D.n then .iF (j+1)else .iK D.q) f G):=by
 intro j dk l g L h Dw;let⟨hd,N,P,h⟩:=h;refine⟨hd,?_⟩;rcases h with⟨rfl,o,t,x,C,v1,I,Q,S,rfl⟩|⟨h1,o,t,dv,T,x,C,v1,I,c,x1,x2,x3,x4,x5,rfl⟩
 .refine⟨_,_,l.O,U,U,λu=>Yp _ _ _ _ _ _ _ u,λ_ q=>q,λq=>by omega,λf i m X y p E z J B=> ?_,λf i E m X y p z J B=> ?_⟩
  .rw[if_pos U];have e:=λb q=>m b q;have s:lz D f.M f:=o.I ok (λb q=>Ç<|e b q) (λb _=>by rw[X]) z (λa _ h=>by rwa[X]) λa q=>by rw[X];exact o.r a<|B a q
   refine ah2 i.r p (Ã<|Ç<|e C<|Ã S.fl) (Ã s.f) (Ã s.c) (by rw[X];exact S.C U) s.g s.d λF V W Y w4 u0 u1 u2 u3 u4 v=> .fB λu r=>ajy ok ⟨y,p,s,F,x,V,W,Y,w4,u0,u1,u2,u3,u4,v,Ç<|e x<|Ã Q.fl,by rw[X];exact Q.C U,U⟩ r
  .refine aij i.r I λF v=>(YZ ok L i (by rwa[p]) y (o.I ok (λb q=>m b q) (λb _=>by rw[X]) z (λa _ h=>by rwa[X]) λa q=>by rw[X];exact o.r a<|B a q) (by rwa[X]) v (World.ownsRow_nil _ _ _ _) λk e=>by cases e)
 .refine⟨_,_,λb=>b=T\/b=x\/b=C,U,U,λu=>Yp _ _ _ _ _ _ _ u,λb q=> ?_,λ_=>⟨c.r.fl,?_,c.r.I,x5⟩,λf i m X y p E z J B=> ?_,λf i E m X y p z J B=> ?_⟩
  .rcases q with rfl|rfl|rfl
   .exact c.C.fl
   .exact c.N.fl
   .exact c.I.fl
  .grind
  .rw[if_neg Z];have s:lz D f.M f:=o.I ok (λb q=>Ç<|m b<|Ç q) (λb _=>by rw[X]) z (λa _ h=>by rwa[X]) λa q=>by rw[X];exact o.r a<|B a q
   have Y0:f.M x:=Ç<|m x<|Ã<|Ç<|Ã U;refine ah7 i.r p (Ã<|Ç<|m C<|Ã<|Ç<|Ç U) (Ã<|Ç<|m T<|Ã<|Ã U) (Ã s.c) (by rw[X];exact c.I.C U) (by rw[X];exact c.C.C U) s.d λF V W Y w4 u0 u1 u2 u3 u4 v=> .fB λu r=>(YY ok (i.jY r.r) p y (s.G ok (λ_ q=>q) r) v Y0<|(gJ<|r.I x Y0).trans<|by rw[X];exact c.N.C U)
  .have s:=ok.gf;refine aik i.r I Z λF v=> ?_;rw[show j-1+1=j by omega]at v;have r:=c.S;rw[ajw]at r;refine YZ ok L i (by rwa[p]) y (o.I ok (λb q=>m b<|Ç q) (λb _=>by rw[X]) z (λa _ h=>by rwa[X]) λa q=>by rw[X];exact o.r a<|B a q) (by rwa[X]) v (by rwa[X]) λk e=> ?_;rw[E];let⟨a,V,W,Y⟩:=x4 k e;refine⟨c.M k e,?_,λ_=>a⟩;grind
def ajA(ok:D.Ok)(b:Dy D)(d:Dz D):gQ (D.r Ä) where
 C:=ajn ok;S k s V w w' h hV hc hz hf xb:=by let⟨⟨a,f,m⟩,t⟩:=h;exact⟨⟨a,hc.trans f,ok.r _ _ _ _ _ m hV⟩,λe=>⟨hz.trans (t e).1,hf.trans (t e).2.1,ok.ioS _ _ (t e).2.2 xb⟩⟩
 FA j dk l g w₁ h r:=FA ok h r;I j dk l g h:=by let⟨_,_,_,h⟩:=h;rcases h with⟨_,_,t,e,f,a,_,_,_,rfl⟩|⟨_,_,t,dv,m,e,f,a,_,_,_,_,_,_,_,rfl⟩<;>rfl
 N k l g h:=by obtain⟨_,_,_,t,e,a,f,m,n,o,p,q,u,v,_,_,_,rfl⟩:=h;rfl
 Y c i l g h:=by obtain⟨_,_,_,t,tb,e,a,f,m,n,o,p,q,u,v,_,_,_,_,_,_,_,_,rfl⟩:=h;rfl
 M dk l g h:=by obtain⟨_,_,_,f,_,rfl⟩:=h;rfl
 go:=ajz ok;f:=ajo ok b;h:=ajr;e:=ajs ok d
end
end Go.Proofs.Y.fA
namespace Go.Proofs.Y.fA
open Go Go.Conc Go.Proofs.Y.Lift
open Go.ConcN (sumTo sumTo_congr)
structure ky(P:ė)(Y:Nat->Prop)(jl:Ν->Prop)(H:Nat)(J:Jd)(T:gq)(lv:Nat->Nat)(lot:Nat->fc)(gs:Array Ý)(w:ß)(t:ż):Prop where
 C:1<=gs.size
 r:gK P 0 Y (λi=>if i=0 then J else oY P (lv i)) (λi=>if i=0 then T else .fB) (λ_=> .no) lot gs w t
 c:∀i,0<i->i<gs.size->lot i=ku (lot i)
 d:¬(lot 0).q
 M:∀p a,touchAt t p=Â a->a.loc.isMemory=Ò->Knows t 0 p\/(jl a.loc/\a.kind=.atomic)
 S:∀p a x,touchAt t p=Â a->a.loc=û x->t.g? p=Â 0\/x.block<H
 b:∀a:â,H<=a.block->NoRelease a t
 N:t.HandedOver
abbrev rA(P:ė):=ky P λ_=>False
structure qC(l l':fc)(w w':ß):Prop where
 r:w.heap.size<=w'.heap.size
 N:∀j,l'.O j->l.O j\/w.heap.size<=j
 c:l'.I=l.I
 S:l'.r=l.r
 b:l'.N=l.N
 k:l'.K=l.K
 jP:∀j,j<w.heap.size->¬l.O j->(∀a:â,a.block=j->¬l.r a)->w'.heap[j]?=w.heap[j]?
 M:∀a:â,a.block<w.heap.size->¬l.O a.block->¬l.r a->w'.cell? a=w.cell? a
 Y:∀j,j<w.heap.size->¬l.O j->kN w' j=kN w j
 C:w'.os=w.os
 I:w'.output=w.output
 d:w'.tape=w.tape
theorem qC.fT(l:fc)(w:ß):qC l l w w:=⟨Ú _,λ_ h=>Ã h,U,U,U,U,λ_ _ _ _=>rfl,λ_ _ _ _=>rfl,λ_ _ _=>rfl,U,U,U⟩
def qC.fg{l e i:fc}{w':ß}(h:qC l e w w')(k:qC e i w' u):qC l i w u:=by
 have f:∀j,j<w.heap.size->¬l.O j->¬e.O j:=λj c b q=>(h.N j q).elim b λz=>by omega
 refine⟨Õ h.r k.r,λj q=> ?_,k.c.trans h.c,k.S.trans h.S,k.b.trans h.b,k.k.trans h.k,λj c b d=>((k.jP j (È c h.r) (f j c b)<|by rwa[h.S]).trans<|h.jP j c b d),λa g b d=>((k.M a (È g h.r) (f _ g b)<|by rwa[h.S]).trans<|h.M a g b d),λj c b=>(k.Y j (È c h.r)<|f j c b).trans<|h.Y j c b,k.C.trans h.C,k.I.trans h.I,k.d.trans h.d⟩
 .rcases k.N j q with z|z
  .exact h.N j z
  .exact Ç<|Õ h.r z
def mj.ajB{l a:fc}(h:mj l a w u V):qC l a w u:=⟨h.C,h.S,h.I,h.r,h.M,h.k,h.jP,h.N,λj b c=>h.Y ⟨j,0,Á⟩ b c,h.f,h.g,h.m⟩
def qC.G{l a:fc}(h:qC l a (w.at i) u):qC l a w u:=⟨h.r,h.N,h.c,h.S,h.b,h.k,h.jP,h.M,h.Y,h.C,h.I,h.d⟩
section
variable{Y:Nat->Prop}{jl:Ν->Prop}{H:Nat}{J:Jd}{T:gq}{lv:Nat->Nat}{lot:Nat->fc}{gs:Array Ý}{t:ż}{sl:Option (Nat×Nat)}
def ky.I(c:ky P Y jl H J T lv lot gs w t)(d:Nat):ky P Y jl H J T lv lot gs (w.at d) t:=⟨c.C,c.r.at d,c.c,c.d,c.M,c.S,c.b,c.N⟩
def ajC{l:fc}{e:ž}(h:xZ l e)(a:â):ï e≠.mark (.release a):=by
 let⟨c,d,g⟩:=e;rcases h with⟨x,b,_⟩|h|⟨f,h⟩|h|h|⟨x,_,h⟩
 .simp only at b;subst b;simp[ï]
 .simp only at h;subst h;simp[ï]
 .simp only at h;subst h;simp[ï]
 .simp only at h;subst h;simp[ï]
 .simp only at h;subst h;simp[ï]
 .simp only at h;rcases h with rfl|rfl|rfl|rfl<;>simp[ï]
theorem ajD{e:ž}(h:e.mute=Ò)(a:â):ï e≠.mark (.release a):=by let⟨b,c,d⟩:=e;cases b<;>simp_all[Event.mute];rename_i m;cases m<;>simp_all[ï]
theorem ky.ajE{k:ß->gq}(c:ky P Y jl H J (.jH k) lv lot gs w t)(o:∀l g,J l g->g.status=ċ\/g.status=ş)(r:gs[0]?=Â g): ∃e b d u,runT P (Ĭ gs w sl) 0=(.next<|Ĭ b d sl,u)/\b.size=gs.size/\qC (lot 0) (e 0) w d/\ky P Y jl H J (k w) lv e b d (t++u):=by
 obtain⟨b,d,G,s,v,f,I,K,j,y⟩:=c.r.fl r U λl g h=>o l g h;refine⟨gp lot 0 s,b,d,_,v,f,by rw[gS];exact j.ajB,by rw[f];exact c.C,?_,λi z B=> ?_,?_,λp a h C=> ?_,λp a x h D=> ?_,λa h=>(c.b a h).app λu m=> ?_,Ř c.N λu m=>Ã<|nZ u m⟩
 .have e:fx (λi=>if i=0 then(.jH k:gq)else .fB) 0 (k w)=λi=>if i=0 then k w else .fB:=by
   funext i;unfold fx;grind
  rwa[<-e]
 .rw[gE lot _ Z];exact c.c i z<|by rwa[<-f]
 .rw[gS,j.q];exact c.d
 .rcases mH h with⟨_,e⟩|⟨_,u,e,E,n⟩
  .exact(c.M p a e C).imp (·.app _) id
  .have:=knows_own n;grind [nZ]
 .rcases mH h with⟨F,e⟩|⟨_,u,e,E,n⟩
  .rw[g?_old F];exact c.S p a x e D
  .apply Ã;unfold Trace.g?;grind [nZ]
 .obtain⟨e,n,rfl⟩:=Č m;exact ajC (j.c e n) a
theorem ky.Y1(c:ky P Y jl H J T lv lot gs w t)(q:gs[i]?=Â g)(b:i≠0)(y:g.status=ċ): ∃a e f u,runT P (Ĭ gs w sl) i=(.next<|Ĭ f w sl,u)/\f.size=gs.size/\sumTo gs.size a+1=sumTo gs.size lv/\e 0=lot 0/\ky P Y jl H J T a e f w (t++u):=by
 have z:=(æ.1 q).1;obtain⟨f,r,m,M,B,o,N,C,D⟩:=c.r.ND (n:=lv i) q b y U (by simp[b]) (by simp[b]);have E:∀u∈MemOp.ofEvents i g.frame.fn g.frame.place r,u.act.touch?=Á:=λu h=>by obtain⟨e,s,rfl⟩:=Č h;exact touch_mute<|C e s
 refine⟨fx lv i m,gp lot i {lot i with d:=į (lot i).d r,w:=w},f,_,B,o,?_,gE lot _<|Ne.symm b,by rw[o];exact c.C,?_,λj v F=> ?_,?_,λp a k G=> ?_,λp a x k I=> ?_,λa k=>(c.b a k).app λu h=> ?_,Ř c.N λu h=>Ç<|E u h⟩
 .grind [wB,fH,gC]
 .have l:fx (λi=>if i=0 then J else oY P (lv i)) i (oY P m)=λj=>if j=0 then J else oY P (fx lv i m j):=by
   funext j;unfold fx;grind
  rwa[<-l]
 .by_cases e:j=i
  .subst e;rw[gS];have:=c.c j v z;rw[this];rfl
  .rw[gE lot _ e];exact c.c j v<|by rwa[<-o]
 .rw[gE lot _<|Ne.symm b];exact c.d
 .rcases mH k with⟨_,l⟩|⟨_,u,l,K,_⟩
  .exact(c.M p a l G).imp (·.app _) id
  .grind
 .rcases mH k with⟨L,l⟩|⟨_,u,l,K,_⟩
  .rw[g?_old L];exact c.S p a x l I
  .grind
 .obtain⟨e,s,rfl⟩:=Č h;grind [ajD]
def ky.JF(c:ky P Y jl H J T lv lot gs w t):∀g∈gs,awake g:=by
 intro g e;obtain⟨i,f,rfl⟩:=Array.mem_iff_getElem.1 e;let⟨g0,_,b,a,_⟩:=c.r.C i _<|ì f;intro τ d;generalize gs[i]=g at b d;cases b with
 |gi=>rcases a with a|a<;>rw[d]at a<;>cases a
theorem ky.G(K:∀l g,J l g->g.status=ċ\/g.status=ş):∀(T:gq) (s:Nat) (lv:Nat->Nat) (lot:Nat->fc) (gs:Array Ý) (w:ß) (sl:Option (Nat×Nat)) (t:ż),sumTo gs.size lv=s->ky P Y jl H J T lv lot gs w t-> ∃N h b a f e c,Ŷ P N (Ĭ gs w sl) t=(.next<|Ĭ a f e,c)/\a.size=gs.size/\qC (lot 0) (b 0) w f/\ky P Y jl H J .fB h b a f c:=by
 intro T
 induction Wv.apply T with
 |intro T _ L=>
  intro s
  induction s using Nat.strongRecOn with
  |_ s M=>
   intro lv lot gs w sl t V c;cases C:T with
   |fB=>
    subst C;exact⟨0,lv,lot,gs,w,sl,t,U,U,qC.fT _ _,c⟩
   |jH k=>
    subst C;have W:=c.C;obtain⟨g0,D⟩:∃g,gs[0]?=Â g:=⟨_,ì Z⟩;have O:g0.status=ċ:=by let⟨S,d,i,_,_⟩:=c.r.C 0 g0 D;grind [afu]
    let⟨i,g,d,e,E,Q,F⟩:=crowd_pick (P:=P) (w:=w) (sl:=sl) c.JF ⟨0,g0,D,O⟩;by_cases G:i=0
    .subst G;let⟨b,a,f,u,n,j,S,I⟩:=(c.I d).ajE (sl:=e) K E;let⟨N,o,p,q,r,v,x,y,z,m,B⟩:=L (k<|w.at d) ⟨_,U⟩ _ lv b a f e (t++u) U I;exact⟨N+1,o,p,q,r,v,x,by simp only[Ŷ,F,n];exact y,z.trans j,S.G.fg m,B⟩
    .let⟨h,b,a,u,n,j,I,f,S⟩:=(c.I d).Y1 (sl:=e) E G Q;let⟨N,o,p,q,r,v,x,y,z,m,B⟩:=M (sumTo a.size h) (by rw[j];omega) h b a (w.at d) e (t++u) U S;exact⟨N+1,o,p,q,r,v,x,by simp only[Ŷ,F,n];exact y,z.trans j,by rw[f]at m;exact m.G,B⟩
end
section
variable{F:Ph}{E:fS F}{S:Nat->Jd}{tr:Nat->gq}{o:Nat->iz}{f:Nat->fc}{gs:Array Ý}
def PI.ji(p:PI F i zX E S tr o f gs w qJ)(c:E.M=.gd):E.r=F.n+1/\∀x,x<F.n+1->∃N,E.N x=Â (.ji N):=by
 refine⟨(by unfold fS.r;rw[c];rfl),λx g=> ?_⟩;have a:=OB (p.C.B<|Ç<|Ç c) x g;have j:x<E.M.ad F.n:=by rwa[c]
 unfold fS.G at a;rw[if_pos j]at a;have l:E.M.gB=0:=by rw[c];rfl
 cases d:E.N x with
 |none=>rw[d]at a;simp[lP]at a
 |some e=>
  rw[d]at a;simp only[lP]at a;cases e with
  |oB=>simp[ik.kG]at a
  |ji N=>exact⟨N,U⟩
  |gd q=>
   let⟨h,k⟩:=p.C.N x q d;cases q with
   |jA=>simp[ik.kG,jC.kG]at a
   |iF=>simp[ik.kG,jC.kG]at a
   |gy W=>
    let⟨_,b⟩:=h W<|Ã U;have r:=p.M.C.r;rw[b]at r;have:=(p.C.g W b).2.1;simp only[GS.ok]at r;omega
   |jb W=>
    let⟨_,b⟩:=h W<|Ç U;have r:=p.M.C.r;rw[b]at r;have:=(p.C.g W b).2.1;simp only[GS.ok]at r;omega
   |iA r=>
    let⟨W,_,s,b⟩:=k r U;have:=(p.C.u r s b).2.1;omega
def xc(l:fc):fc:={l with O:=λ_=>False,I:=λ_=>False,r:=λ_=>False,N:=λ_=>False,K:=λ_=>False,q:=True}
def uX(f:Nat->fc)(l:fc):Nat->fc:=λi=>if i=0 then l else xc (f i)
def Rv(f:Nat->fc)(l:fc):uX f l 0=l:=rfl
def vr(f:Nat->fc)(l:fc)(h:i≠0):uX f l i=xc (f i):=if_neg h
def G0{l:fc}(h:i≠0):¬(uX f l i).M b:=by rw[vr f l h];exact λq=>q.elim id id
def G1{l:fc}(h:i≠0):¬(uX f l i).C a:=by rw[vr f l h];exact λq=>q.elim id id
def iQ.Y{Y I:Nat->Prop}(C:iQ n I Y f w qJ)(u:I 0){l:fc}(v:n<=m)(x:∀b,l.O b->¬l.I b)(y:∀a,l.r a->¬l.N a)(B:∀b,l.M b->¬X b)(D:∀a,l.C a->X a.block)(E:∀b,l.M b->b<w.heap.size)(F:∀b,X b->b<w.heap.size)(G:fG l l.w w)(H:Ny qJ 0 l)(J:l.d=(f 0).d)(t:∀a,l.K a->X a.block/\¬l.r a):iQ m I X (uX f l) w qJ:=by
 refine⟨λi j g L s b o=> ?_,λi j g L s a e=> ?_,λi g b o=> ?_,λi g a e=> ?_,λi g b o=> ?_,λi g a e=> ?_,λi g b o=> ?_,F,λi g=> ?_,λi g=> ?_,λi g=> ?_,C.l,C.q,λp a c N r P=>È (C.s p a c N r P) v,λi g a e=> ?_⟩
 .by_cases h:j=0
  .subst h;exact absurd (Ã o)<|G0 s
  .exact G0 h
 .by_cases h:j=0
  .subst h;exact absurd (Ã e)<|G1 s
  .exact G1 h
 .by_cases h:i=0
  .subst h;exact x b o
  .exact absurd (Ã o)<|G0 h
 .by_cases h:i=0
  .subst h;exact y a e
  .exact absurd (Ã e)<|G1 h
 .by_cases h:i=0
  .subst h;exact B b o
  .exact absurd o<|G0 h
 .by_cases h:i=0
  .subst h;exact D a e
  .exact absurd e<|G1 h
 .by_cases h:i=0
  .subst h;exact E b o
  .exact absurd o<|G0 h
 .by_cases h:i=0
  .subst h;exact G
  .rw[vr f l h];exact⟨(C.r i g).r,λj q=>q.elim (λz=>z.elim) λz=>z.elim,λa q=>q.elim (λz=>z.elim) λz=>z.elim,λa q=>q.elim (λz=>z.elim) λz=>z.elim,λa q=>q.elim⟩
 .by_cases h:i=0
  .subst h;exact H
  .rw[vr f l h];exact⟨λa e=>e.elim,λa e=>e.elim,λa e=>e.elim,λa e=>e.elim⟩
 .by_cases h:i=0
  .subst h;rw[Rv,J];exact C.f 0 u
  .rw[vr f l h];exact C.f i g
 .by_cases h:i=0
  .subst h;refine⟨(t a e).1,λk z q=> ?_⟩;by_cases r:k=0
   .subst r;exact(t a e).2 q
   .exact absurd (Ã q)<|G1 r
  .rw[vr f l h]at e;exact e.elim
theorem PI.ajF(p:PI F i zX E S tr o f gs w qJ)(m:E.M=.gd)(r:JA F zX qJ)(y:F.S=0)(M:1<=F.L): ∃z:Nat->Nat,ky F.P E.Y (λk=>zX k\/∃x:â,k=û x/\x.block=F.C) w.heap.size (F.j E.I) (tr 0) z (uX f<|f 0) gs w qJ:=by
 let⟨B,s⟩:=p.ji m;have O:gs.size=F.L+(F.n+1):=by rw[p.b,B]
 have C:=p.I.r;have c:0<gs.size:=Z
 refine⟨λb=>if h:F.L<=b/\b<F.L+(F.n+1)then Classical.choose (s (b-F.L) Z)else E.h b,Z,⟨?_,λb x t=> ?_,p.I.I⟩,λb Q _=> ?_,p.a.M 0<|Ã U,λq a d D=> ?_,λq a x d G=>Ç<|Wt C.q d G,λa d q u=> ?_,r.2⟩
 .rw[y]at C;exact C.Y c (Ú _) (C.m 0 c) (C.g 0 c) (C.I 0 c) (C.e 0 c) (C.fu 0 c) C.N (C.r 0 c) (C.S 0 c) U λa d=>⟨(C.n 0 c a d).1,(C.n 0 c a d).2 0 c⟩
 .let⟨k,j,l,v,H⟩:=p.I.C b x t;by_cases h:b=0
  .subst h;rw[p.h.1,m]at j;rw[p.h.2,m]at l;exact⟨k,j,l,v,H⟩
  .have T:=(æ.1 t).1;simp only[h,if_false];rw[vr f _ h];have I:∀N,S b=oY F.P N->tr b=.fB->o b=.no->∃k,kU F.P (b==0) (oY F.P N) .fB (xc<|f b) k/\wx k .no x/\(k.status=ċ\/k.status=ş)/\(x=k\/True):=λN z e g=>by
    rw[z,e]at j;rw[g]at l;exact⟨k,λJ _=>j _<|fG.fT _ _,l,v,Ç trivial⟩
   by_cases J:b<F.L
   .let⟨z,e,g⟩:=p.l b Z J;grind
   .have K:F.L<=b/\b<F.L+(F.n+1):=Z
    simp only[K,dif_pos,and_self];let⟨z,e,g⟩:=p.k (b-F.L) _ Z<|Classical.choose_spec<|s (b-F.L) Z;rw[show F.L+(b-F.L)=b by omega]at z e g;exact I _ z (g ⟨_,U⟩) e
 .rw[vr f _ Z];rfl
 .rcases r.1 q a d D with z|⟨z,k⟩;all_goals grind
 .unfold Trace.act? at u;let⟨k,z,g⟩:=ġ.1 u;have:=C.q k<|Array.mem_of_getElem? z;rw[g]at this;have e:a.block<w.heap.size:=this;omega
theorem ky.Y{Y:Nat->Prop}{J:Jd}{s:gq}(c:ky P Y zX n J s D f gs w qJ)(t:(f 0).d=0)(o:gs[0]?=Â g)(u:g.status=ċ){p:Jd}{T:gq}{l:fc}(v:l.w=w)(y:l.d=0)(B:¬l.q)(k:∀b,¬l.I b)(r:∀a,¬l.r a)(m:∀a,¬l.N a)(C:∀a,¬l.K a)(E:∀b,l.O b->b<w.heap.size/\∀x:â,x.block=b->¬zX (û x))(F:kU P Ò p T l g): rA P zX n p T D (uX f l) gs w qJ:=by
 refine⟨c.C,⟨?_,λi x j=> ?_,c.r.I⟩,λi o _=> ?_,B,c.M,c.S,c.b,c.N⟩
 .refine(c.r.r).Y c.C (Ú _) (λb _=>k b) (λa _=>m a) (λ_ _=>id) (λa e=>e.elim (λq=>absurd q<|r a) λq=>absurd q<|m a) (λb z=>z.elim (λq=>(E b q).1) λq=>absurd q<|k b) (λ_ h=>h.elim) (by rw[v];exact fG.fT _ _) ⟨λa e G x j I=> ?_,λa e=>(k _ e).elim,λa e=>(r a e).elim,λa e=>(m a e).elim⟩ (by rw[y,t]) λa e=>absurd e<|C a;rcases c.M G x j (by rw[I];rfl)with z|⟨z,_⟩;all_goals grind
 .by_cases h:i=0
  .subst h;rw[o]at j;obtain rfl:=Ó j;exact⟨g,F,.gi,Ã u,Ã U⟩
  .let⟨g0,e,G,I,z⟩:=c.r.C i x j;simp only[h,if_false]at e z|-;rw[vr f _ h];exact⟨g0,λL _=>e _<|fG.fT _ _,G,I,z⟩
 .rw[vr f _ Z];rfl
end
section
variable{F:Ph}{H:Nat}{J:Jd}{f:Nat->fc}{gs:Array Ý}
structure Rw(F:Ph)(H:Nat)(l0 l:fc)(w:ß):Prop where
 fl:∀b,l.O b->l0.O b/\¬(F.M b\/b=F.Y)
 r:∀b,l.I b->l0.O b/\¬(F.M b\/b=F.Y)/\¬l.O b
 C:∀a,l.r a↔∃x,x<=F.n/\lI F x a
 I:∀a,l.N a↔a=je F.toFx 0
 k:∀a,l.K a->F.G a
 M:∀b,F.M b\/b=F.Y->l0.O b
 N:∀b,F.M b->H<=b
 g:l.w=w
 d:l.d=0
 q:¬l.q
 S:∀b,F.i b->l.I b
 Y:ia w F.C (.cl 1 0)
 c:ia w (F.I 0) (.cl 0 0)
 e:∀k,1<=k->k<=F.m->ia w (F.I k) (.cl 1 0)
 f:F.d 0 F.l F.i w
def lS(F:Ph)(D:Nat->Nat)(a:Nat->Nat):fS F where
 M:=.go 0
 S:=.kF 0
 C:=λ_=> .mX 0
 N:=λ_=>Á
 I:=a
 c:=λ_=>F.l
 V:=λk=>if k=0 then F.i else λ_=>False
 e:=λ_=>0
 d:=λ_=>Á
 f:=λ_=>0
 b:=.cl 1 0
 a:=λk=>if k=0 then .cl 0 0 else .cl 1 0
 g:=Á
 h:=D
theorem KB(ok:F.Ok)(h:lI F i a):(∃k,1<=k/\k<=F.m/\a=je F.toFx k)\/∃p,p≠F.f/\a=jm F p:=by
 unfold lI at h;split at h
 .obtain⟨k,c,d,b|b⟩:=h
  .grind
  .exact Ç ⟨_,ok.Y.1 k c d,b⟩
 .let⟨k,c,_,b⟩:=h;exact Ç ⟨_,ok.Y.2 _ (by assumption),b⟩
def Y2(ok:F.Ok)(h:lI F i (je F.toFx 0)):False:=by
 rcases KB ok h with⟨k,c,b,a⟩|⟨p,_,a⟩
 .have:F.I 0=F.I k:=by injection a
  have:=ok.S 0 k Z b this;omega
 .have:F.I 0=F.Y:=by injection a
  exact ok.C<|by rw[<-this];exact Ç ⟨0,Z,U⟩
theorem rA.ajG(X:gQ F)(c:rA F.P zX H J .fB D f gs w qJ)(hL:F.L=gs.size)(hB:F.S=0)(E:gs[0]?=Â g){l:fc}(st:Rw F H (f 0) l w)(o0:(f 0).d=0)(u:Nat->Nat)(hgo:F.g 0 u l g): PI F qJ.size zX (lS F D u) (λi=>if i=0 then F.g 0 u else oY F.P (D i)) (λ_=> .fB) (λ_=> .no) (λi=>if i=0 then l else xc (f i)) gs w qJ:=by
 have S:=X.C;have C:=c.r.r;have jS:=c.C;have T:0<gs.size:=Z
 have y:(lS F D u).r=0:=U;have hY:∀b,(lS F D u).Y b↔(F.M b\/b=F.Y):=λb=>by
  constructor
  .rintro(q|q|⟨j,B,_⟩);all_goals grind
  .rintro(q|q)
   .exact Ã q
   .exact Ç<|Ã q
 have Y3:∀a,l.C a->F.M a.block\/a.block=F.Y:=λa o=>by
  rcases o with q|q
  .let⟨x,_,G⟩:=(st.C a).1 q;rcases KB S G with⟨k,B,t,rfl⟩|⟨p,_,rfl⟩
   .exact Ã<|Ç ⟨k,t,U⟩
   .exact Ç U
  .rw[(st.I a).1 q];exact Ã<|Ç ⟨0,Z,U⟩
 have nC:∀i,i≠0->∀a,¬((λi=>if i=0 then l else xc (f i)) i).C a:=λi h a q=>by simp only[h,if_false]at q;exact q.elim id id
 have nM:∀i,i≠0->∀b,¬((λi=>if i=0 then l else xc (f i)) i).M b:=λi h b q=>by simp only[h,if_false]at q;exact q.elim id id
 have hM0:∀b,l.M b->(f 0).O b/\¬(F.M b\/b=F.Y):=λb q=>q.elim (st.fl b) λz=>⟨(st.r b z).1,(st.r b z).2.1⟩;have OD:iQ F.S (λi=>i<gs.size) (lS F D u).Y (λi=>if i=0 then l else xc (f i)) w qJ:=by
  refine⟨λi j E hj N b v=> ?_,λi j E hj N a o=> ?_,λi E b v=> ?_,λi E a o=> ?_,λi E b v=> ?_,λi E a o=> ?_,λi E b v=> ?_,λb v=>C.fu 0 T b<|Ã<|st.M b<|(hY b).1 v,λi E=> ?_,λi E=> ?_,λi E=> ?_,C.l,C.q,λq a e B t I=> ?_,λi E a o=> ?_⟩
  .by_cases h:j=0
   .subst h;simp only[N,if_false]at v;exact v.elim
   .exact nM j h b
  .by_cases h:j=0
   .subst h;simp only[N,if_false]at o;exact o.elim
   .exact nC j h a
  .by_cases h:i=0
   .subst h;simp only[if_true]at v|-;exact λq=>(st.r b q).2.2 v
   .simp only[h,if_false]at v;exact v.elim
  .by_cases h:i=0
   .subst h;simp only[if_true]at o|-;intro q;rw[(st.I a).1 q]at o;let⟨x,_,G⟩:=(st.C _).1 o;exact Y2 S G
   .simp only[h,if_false]at o;exact o.elim
  .by_cases h:i=0;all_goals simp_all
  .by_cases h:i=0;all_goals simp_all
  .by_cases h:i=0
   .subst h;simp only[if_true]at v;exact C.fu 0 T b<|Ã (hM0 b v).1
   .simp_all
  .by_cases h:i=0
   .subst h;simp only[if_true];rw[st.g];exact fG.fT _ _
   .simp only[h,if_false];exact⟨(C.r i E).r,λj q=>q.elim (λz=>z.elim) λz=>z.elim,λa q=>q.elim (λz=>z.elim) λz=>z.elim,λa q=>q.elim (λz=>z.elim) λz=>z.elim,λa q=>q.elim⟩
  .by_cases h:i=0
   .subst h;simp only[if_true];have s:=(C.S 0 T).fl;exact⟨λa o=>s a (st.fl _ o).1,λa o=>(s a (st.r _ o).1).r,λa o=>s a<|st.M _<|Y3 a<|Ã o,λa o=>(s a<|st.M _<|Y3 a<|Ç o).r⟩
   .simp only[h,if_false];exact⟨λa o=>o.elim,λa o=>o.elim,λa o=>o.elim,λa o=>o.elim⟩
  .by_cases h:i=0
   .subst h;simp only[if_true];rw[C.f 0 T,o0,st.d]
   .simp only[h,if_false];exact C.f i E
  .have:=C.s q a e B t I;omega
  .by_cases h:i=0
   .subst h;simp only[if_true]at o;let⟨b,v,s⟩:=st.k a o;have Q:a.block=b:=by rcases s with rfl|rfl<;>rfl
    refine⟨by rw[hY,Q];exact Ã v,λk K q=> ?_⟩;by_cases t:k=0
    .subst t;simp only[if_true]at q;let⟨x,_,G⟩:=(st.C a).1 q;rcases KB S G with⟨k',_,_,I⟩|⟨p',_,I⟩
     .rcases s with W|W<;>rw[W]at I<;>simp[fM,gV,je]at I
     .have:a.block=F.Y:=by rw[I];rfl
      exact S.C<|by rwa[<-this,Q]
    .simp only[t,if_false]at q;exact q
   .simp only[h,if_false]at o;exact o.elim
 have Y4:gK F.P F.S (lS F D u).Y (λi=>if i=0 then F.g 0 u else oY F.P (D i)) (λ_=> .fB) (λ_=> .no) (λi=>if i=0 then l else xc (f i)) gs w qJ:=by
  refine⟨OD,λi x G=> ?_,c.r.I⟩;by_cases h:i=0
  .subst h;rw[E]at G;obtain rfl:=Ó G;simp only[if_true];exact⟨g,λs r=>X.FA 0 u l g s hgo r,.gi,Ã<|X.I 0 u l g hgo,Ã U⟩
  .let⟨g0,Q,q2,N,q4⟩:=c.r.C i x G;simp only[h,if_false]at Q|-;exact⟨g0,λs _=>Q _<|fG.fT _ _,q2,N,Ç trivial⟩
 have ajH:iG F (lS F D u) (λi=>if i=0 then l else xc (f i)) gs.size w:=by
  refine⟨λi E a o=> ?_,λx _ t a o=> ?_,λ_=> ?_,λh=>absurd h (by rw[y];omega),λh=>absurd h (by rw[y];omega),λj h=>absurd h (by rw[y];omega),λj h=>absurd h (by rw[y];omega),λx ⟨e,B,_⟩=>(by cases B),λi h=> ?_,λi B t=> ?_,λk K b v=> ?_,λk K i E q=> ?_,λk B t=> ?_,λj h=>absurd h<|by rw[y];omega⟩
  .by_cases h:i=0
   .subst h;simp only[if_true]at o;rcases o with q|q
    .let⟨x,_,G⟩:=(st.C a).1 q;grind [KB]
    .exact Ã ⟨0,Z,(st.I a).1 q⟩
   .simp_all
  .simp only[if_true];exact(st.C a).2 ⟨x,t,o⟩
  .simp only[if_true];exact⟨(st.I _).2 U,st.S⟩
  .rcases h with rfl|⟨x,G,_⟩
   .simp only[if_true];exact st.q
   .grind
  .have:i≠0:=Z
   simp only[this,if_false];rfl
  .have Q:k=0:=by have:k<=0:=K;omega
   subst Q;have B:=st.S b v;refine⟨C.fu 0 T b<|Ã (st.r b B).1,by rw[hY];exact(st.r b B).2.1,λi E q=> ?_⟩;by_cases h:i=0
   .subst h;simp only[if_true]at q;exact(st.r b B).2.2 q
   .simp only[h,if_false]at q;exact q
  .have Q:k=0:=by have:k<=0:=K;omega
   subst Q;by_cases h:i=0
   .subst h;simp only[if_true]at q;let⟨x,_,G⟩:=(st.C _).1 q;exact Y2 S G
   .simp only[h,if_false]at q;exact q
  .have:k<=0:=t;omega
 have gg:∀k,k<=F.m->ia w (F.I k) ((lS F D u).a k):=λk K=>by
  by_cases h:k=0
  .subst h;exact st.c
  .have:(lS F D u).a k=.cl 1 0:=by simp[lS,h]
   rw[this];exact st.e k Z K
 have wdd:Wd F (lS F D u) w:=by
  refine⟨st.Y,gg,λj h=>absurd h (by rw[y];omega),λk K=> ?_,λk B t=> ?_,λj h=>absurd h<|by rw[y];omega⟩
  .have Q:k=0:=by have:k<=0:=K;omega
   subst Q;exact⟨.uW,st.f⟩
  .have:k<=0:=t;omega
 have Y5:∀k,(sumTo F.n λj=>((lS F D u).C j).gB F j k)=0:=λk=>by
  have:∀n,(sumTo n λ_=>0)=0:=λn=>by
   induction n with
   |zero=>rfl
   |succ n s=>simp[sumTo,s]
  exact this F.n
 have ajI:sumTo (F.n+1) (lS F D u).G=1:=by
  have B:=wB (f':=(lS F D u).G) (j:=0) (n:=F.n+1) Z (λi E=>by
   have:¬i<1:=Z
   show(if i<1 then _ else _)=0;rw[if_neg this])
  have t:∀n,(sumTo n λ_=>0)=0:=λn=>by
   induction n with
   |zero=>rfl
   |succ n s=>simp[sumTo,s]
  rw[t]at B;have I:(lS F D u).G 0=1:=U;omega
 have pss:Ps F (lS F D u):=by
  refine⟨U,λj h=> ?_,λj h=> ?_,λr=>⟨λh=>(by cases h),λh=>(by cases h)⟩,λ_=>rfl,λk=>⟨λh=> ?_,λh=>(by cases h),λp h=>by cases h⟩,λ_ _=>rfl,λj r h=>absurd h (by rw[y];omega),λj h=>absurd h (by rw[y];omega),λh=>absurd U h,λ_ _=>rfl,λj j' h=>absurd h (by rw[y];omega),λj h=>absurd h (by rw[y];omega),λc reg h=> ?_,λreg h=>(by cases h),λr s h=>(by cases h),λx p h=>(by cases h),λh=> ?_,λk B t I=> ?_,λk B t=> ?_,λj r h=>absurd h (by rw[y];omega),λj r h=>absurd h (by rw[y];omega),λh=>(by cases h),λ_ _=>⟨1,rfl⟩,λ_ _ _=>rfl,λj r h=>absurd h<|by rw[y];omega⟩
  .rcases h with h|h|h|h<;>cases h;omega
  .rcases h with h|h|h<;>cases h
  .cases h;omega
  .cases h;exact⟨ajI.symm,U⟩
  .rcases h with h|h|h<;>cases h
  .rw[Y5];have:k≠0:=Z
   simp[lS,this]
  .have Q:k=0:=by have:k<=0:=t;omega
   subst Q;exact Ç<|Ç ⟨λp h=>(by cases h),Ã ⟨rfl,Y5 0⟩⟩
 have s:TI F.toFx qJ.size zX (lS F D u).r (lS F D u).S.rl (lS F D u).V (lS F D u).e (lS F D u).d (lS F D u).iw (lS F D u).f qJ:=by
  refine⟨Ú _,λp a x o Q hc=> ?_,λx h=>absurd h (by rw[y];omega),λk B t=> ?_,λk B t=> ?_,λb v=>c.b _<|st.N b v,λx h=>absurd h (by rw[y];omega),λp a B t=> ?_,λp a _ t I=>c.M p a t I,λp g _ t I W=>c.N p g t I W⟩
  .let⟨b,v,G⟩:=hc;have OA:x.block=b:=by rcases G with rfl|rfl<;>rfl
   rcases c.S p a x o Q with q|q
   .exact Ã ⟨NU o,q⟩
   .have:=st.N b v;omega
  .have:k<=0:=t;omega
  .have:k<=0:=t;omega
  .have:=NU t;omega
 refine⟨by rw[y,hL];rfl,Y4,⟨by simp only[if_true];rfl,U⟩,λh=>absurd h (by rw[y];omega),λj h=>absurd h (by rw[y];omega),λx e h=>absurd h (by rw[y];omega),λi B t=>⟨?_,U,U⟩,ajH,wdd,pss,s,λi x G v=> ?_,λj r h=>absurd h<|by rw[y];omega⟩
 .have:i≠0:=Z
  simp only[this,if_false];rfl
 .let⟨g0,_,q2,N,_⟩:=Y4.C i x G;cases q2 with
  |gi=>rcases N with N|N<;>rw[v]at N<;>cases N
end
end Go.Proofs.Y.fA
namespace Go.Proofs.Y.fA
open Go Go.Conc Go.Proofs.Y.Lift Go.RowKit Go.Conc.Lib Go.ConcR.Gen
open Go.Proofs Go.Proofs.YtgpphkdoanciiaaGreatDoor
section
variable{kd:Nat->Int}{R:Nat}
theorem G2(h:i∈hD kd R):i<R/\kd i=1:=by have:=Ā.1 h;grind
theorem G3(h:i∈jv kd R):i<R/\kd i≠1:=by have:=Ā.1 h;grind
def ajJ:(hD kd R).Nodup:=ņ.filter _
def ajK:(jv kd R).Nodup:=ņ.filter _
def Bu(h:k<jJ.length):jJ[k]?=Â (jJ.getD k 0):=by simp[List.getD,h]
def vt{l:List Nat}(h:k<l.length):l.getD k 0∈l:=ħ<|Bu h
def Y6(c:jJ.Nodup)(a:i<jJ.length)(d:j<jJ.length)(h:jJ.getD i 0=jJ.getD j 0):i=j:=by have b:=Bu a;rw[h]at b;exact(List.getElem?_inj a c).1<|b.trans (Bu d).symm
def Y7:∀R,(hD kd R).length+(jv kd R).length=R
 |0=>rfl
 |R+1=>by
  have:=Y7 R;by_cases h:kd R=1
  .rw[sI h,Q0 h];simp;omega
  .rw[vm h,Q5 h];simp;omega
end
structure xd where
 γ:Type
 C:γ
 M:Nat->γ->γ->Prop
 RD:γ->Ï->(Nat->Prop)->ß->Prop
 I:Nat->ByteArray
 r:Nat->Prop
def KC(M:xd)(L n R:Nat)(kd:Nat->Int)(a g:Nat->Nat)(b c:Option â)(d e f h j l:Nat)(o:List é)(p:Nat->Prop)(RC eY:ß->Prop):SD where
 L:=L
 g:=0
 n:=n
 m:=fL kd R
 q:=(jv kd R).length
 N:=R
 I:=l
 C:=g
 M:=f
 S:=h
 s:=j
 u:=b
 t:=d
 l:=c
 k:=e
 o:=λk=>Â ⟨a<|(hD kd R).getD (k-1) 0,0,Á⟩
 a:=λk=>(hD kd R).getD (k-1) 0
 i:=λi=>Â ⟨a<|(jv kd R).getD i 0,0,Á⟩
 c:=λi=>(jv kd R).getD i 0
 b:=λi=>if i<(jv kd R).length then fL kd ((jv kd R).getD i 0)else 0
 f:=o
 d:=p
 RC:=RC
 p:=eY
 γ:=M.γ
 w:=M.C
 v:=M.r
 h:=M.M
 RD:=M.RD
 e:=λk=>M.I<|(hD kd R).getD (k-1) 0
 j:=λi=>M.I<|(jv kd R).getD i 0
section
variable{M:xd}{L R:Nat}{kd:Nat->Int}{a:Nat->Nat}{c:Option â}{cs:List é}{RB:Nat->Prop}{RC eY:ß->Prop}{l d f:fc}
def ajL(h:Kr kd a D R (Æ O (fL kd R) j7) (Æ c (jv kd R).length j6) v j b J i j9 m l d f)(F:∀w p,RC w->(∀g,RB g->p.heap[g]?=w.heap[g]?)->RC p)(G:∀w p,eY w->(p.os=w.os/\p.output=w.output)->eY p)(H:∀s B V w p,M.RD s B V w->(∀g,V g->p.heap[g]?=w.heap[g]?)->M.RD s B V p)(I:1<=n)(K:1<=L)(X:n+R<1000):(KC M L n R kd a D O c j7 j6 j b J i cs RB RC eY).Ok:=by
 have Y:=Y7 (kd:=kd) R;have hc:(hD kd R).length=fL kd R:=U;let⟨a1,a2,a3⟩:=h.M;let⟨a4,a5,a6⟩:=h.S;have z:∀k,k<=fL kd R->d.w.heap.size<=D k/\D k<J:=λk r=>⟨(h.r.M k r).1,h.N k r⟩;have Ri:=Õ (z 0 Z).1<|Ł (z 0 Z).2;refine⟨F,G,H,I,K,?_,?_,λo=> ?_,λo t=>(G3<|vt t).1,λk C x=> ?_,λk r e=> ?_,λk u r N e=> ?_,?_,λo i' t P e=>Y6 ajK t P e,λk u C x h3 Q e=> ?_,λo k t C x e=> ?_,λg _=>ă g⟩
 .show n+(jv kd R).length+fL kd R<1000;omega
 .show R<1000;omega
 .show(if o<(jv kd R).length then fL kd ((jv kd R).getD o 0)else 0)<=fL kd R;split
  .rename_i t;exact YG<|Ł (G3<|vt t).1
  .omega
 .refine(G2<|vt ?_).1;have:k<=fL kd R:=x;omega
 .have:=(z k r).2;have y:D k=i:=e;omega
 .have y:D k=D u:=e;have S:=r;have T:=N;rcases Nat.lt_trichotomy k u with q|q|q
  .have:=h.r.S k u q T;omega
  .exact q
  .have:=h.r.S u k q S;omega
 .rintro(e|⟨k,r,e⟩)
  .have y:j=i:=e;omega
  .have y:j=D k:=e;have:=(z k r).1;omega
 .have W:k<=fL kd R:=x;have h4':u<=fL kd R:=Q;have:=Y6 ajJ Z Z e;omega
 .have W:k<=fL kd R:=x;have y:(jv kd R).getD o 0=(hD kd R).getD (k-1) 0:=e;have E:=(G3<|vt t).2;rw[y]at E;exact E<|(G2 (kd:=kd) (R:=R)<|vt (k:=k-1) Z).2
end
abbrev kz(M:xd)(L n R:Nat)(kd:Nat->Int)(c g:Nat->Nat)(d e:Option â)(f h i a j k:Nat)(cs:List é)(l:fc):SD:=KC M L n R kd c g d e f h i a j k cs (λb=>l.O b\/b=a) (λw=>∀b,l.O b->w.heap[b]?=l.w.heap[b]?) λw=>w.os=l.w.os/\w.output=l.w.output
def KD(D:SD)(l:fc):fc:={l with O:=λb=>l.O b/\¬(D.Y.M b\/b=D.M)/\¬D.d b,I:=D.d,r:=λa=>∃x,x<=D.n/\lI (D.r Ä) x a,N:=λa=>a=je D.Y 0,K:=D.Y.G}
section
variable{M:xd}{L:Nat}{f:Nat->Int}{r:Nat->Nat}{u:Option â}{y:Nat}{cs:List é}{l B o:fc}
def KE{cs:Array Ï}(h:w.heap[b]?=Â (É cs e)):w.frozen? ⟨b,i,Á⟩=Ì:=by simp[î,h]
def Rx{cs:Array Ï}(h:w.heap[b]?=Â (É cs e))(a:cs[0]?=Â (Ê ê<|(i:Int)*fX+0))(d:cs[1]?=Â (Ê Ď 0))(f:i<1000000):ia w b (.cl i 0):=by
 refine⟨?_,?_,KE h,KE h,(⟨f,Z,λ_=>rfl⟩)⟩
 .simp[Ö,fM,h,a,GS.st]
 .simp[Ö,gV,h,d,GS.sm]
def ajM(h:Kr f r D j (Æ O (fL f j) j6) (Æ u (jv f j).length y) v k m j9 b j7 J l B o)(s:gw l)(KF:∀g,¬l.I g)(W:¬l.q)(X:l.d=0)(hH:i<=l.w.heap.size)(hV:∀g,M.r g->l.O g)(qB:M.RD M.C v M.r o.w)(xb:o.w.os=l.w.os/\o.w.output=l.w.output)(hn:1<=n)(hs:n+j<1000){t:Array Ï}(hT:Gz m b (D<|fL f j) n (Æ u (jv f j).length y) t)(dk:Nat->Nat): Rw ((kz M L n j f r D O u j6 y k m j9 b cs l).r Ä) i o (KD (kz M L n j f r D O u j6 y k m j9 b cs l) o) o.w/\ ((kz M L n j f r D O u j6 y k m j9 b cs l).r Ä).g 0 dk (KD (kz M L n j f r D O u j6 y k m j9 b cs l) o) (A7 (À<|Â ⟨b,0,Á⟩) jQ (À<|Â ⟨b,0,Á⟩) (ñ #[]) j7 J<|Ds t::cs):=by
 let⟨a1,a2,a3⟩:=h.M;let⟨a4,a5,a6⟩:=h.S;have N:∀C,C<=fL f j->B.w.heap.size<=D C/\D C<j9:=λC E=>⟨(h.r.M C E).1,h.N C E⟩;have Ri:=Õ (N 0 Z).1<|Ł (N 0 Z).2;have Y:=λg q=>s.fu g<|Ã q;have hc:(hD f j).length=fL f j:=rfl;have Q:∀g,(kz M L n j f r D O u j6 y k m j9 b cs l).Y.M g\/g=k->g=b\/(∃C,C<=fL f j/\g=D C)\/g=k:=λg q=>by
  rcases q with(q|⟨C,S,q2⟩)|q
  .exact Ã q
  .exact Ç<|Ã ⟨C,S,q2⟩
  .exact Ç<|Ç q
 have H:∀g,(kz M L n j f r D O u j6 y k m j9 b cs l).Y.M g\/g=k->l.w.heap.size<=g/\g≠m/\g≠j9/\g≠j7/\g≠J/\(∀C,(Æ O (fL f j) j6).ownBlock=Â C->g≠C)/\(∀C,(Æ u (jv f j).length y).ownBlock=Â C->g≠C):=λg q=>by
  rcases Q g q with rfl|⟨C,E,rfl⟩|rfl
  .exact⟨Z,Z,Z,Z,Z,λC e=>by have:=h.o3 C e;omega,λC e=>by have:=h.o4 C e;omega⟩
  .have:=N C E;exact⟨Z,Z,Z,Z,Z,λp e z=>(h.r.M C E).2.1<|z▸e,λp e z=>(h.r.M C E).2.2<|z▸e⟩
  .exact⟨Z,Z,Z,Z,Z,λC e=>by have:=(h.r.r C e).2;omega,λC e=>by have:=(h.r.C C e).2;omega⟩
 have ajN:∀g,(kz M L n j f r D O u j6 y k m j9 b cs l).Y.M g\/g=k->o.O g:=λg q=>by
  rcases Q g q with rfl|⟨C,E,rfl⟩|rfl
  .exact h.Y.fl
  .by_cases x:C=0
   .subst x;exact h.r.N.fl
   .exact(h.r.I C Z E).fl
  .exact h.I.fl
 have K:∀g,o.O g->l.w.heap.size<=g->g≠m->¬((kz M L n j f r D O u j6 y k m j9 b cs l).Y.M g\/g=k)->(KD (kz M L n j f r D O u j6 y k m j9 b cs l) o).O g:=λg S q2 q4 q3=>⟨S,q3,λq=>q.elim (λq=>by have:=Y g q;omega) q4⟩;have Y8:ia o.w b (.cl 1 0):=Rx h.Y.I U U Z;have Y9:ia o.w (D 0) (.cl 0 0):=Rx h.r.N.I U U Z;have Za:∀C,1<=C->C<=fL f j->ia o.w (D C) (.cl 1 0):=λC I P=>Rx (h.r.I C I P).I U U Z;have T:∀g c,ia o.w g c->ng g o.w:=λg c q=>⟨by rw[show(⟨g,0,Á⟩:â)=fM g from rfl,q.C];rfl,by rw[show(⟨g,1,Á⟩:â)=gV g from rfl,q.M];rfl⟩;refine⟨⟨λg q=>⟨q.1,q.2.1⟩,λg q=>⟨?_,λz=> ?_,λz=>z.2.2 q⟩,λa=>Iff.rfl,λa=>Iff.rfl,λa q=>q,λg q=>ajN g q,λg q=>Õ hH (H g<|Ã q).1,U,h.C.d.trans X,by show¬o.q;rwa[h.C.q],λg q=>Ã<|hV g q,Y8,Y9,Za,⟨⟨v,h.r.N.C U,qB⟩,λ_=> ?_⟩⟩,?_⟩
 .rcases q with q|q
  .exact h.C.O g q
  .rw[q];exact h.a.fl
 .rcases q with q|q
  .have:=(H g z).1;have:=Y g q;omega
  .exact(H g z).2.1 q
 .refine⟨?_,by unfold kN;rw[show o.w.heap[(kz M L n j f r D O u j6 y k m j9 b cs l).M]?=Â (wY j)from h.I.I],xb⟩;show o.w.cell? ⟨k,j,Á⟩=Á;simp only[Ö,h.I.I,wY,ı,Ķ,if_false];exact Array.getElem?_eq_none<|by rw[ř];exact Ú _
 refine⟨h.C.d.trans X,by show¬o.q;rwa[h.C.q],ă _,Ã ⟨U,⟨λg q=>⟨⟨g,q,Ã U⟩,⟨g,q,Ç U⟩⟩,λg q=> ?_,Ç<|Ç U,h.a.C U,(Ã<|K j9 h.c.fl Z Z λz=>(H j9 z).2.2.1 U),h.c.C U,λC E=> ?_,λe hi=> ?_,λa q=> ?_,λg q=>Ç q,λg q=>h.C.r g (Ã q) id⟩,t,j7,J,jQ,hT,⟨(K j7 h.d.fl Z Z λz=>(H j7 z).2.2.2.1 U),h.d.I⟩,⟨(K J h.b.fl Z Z λz=>(H J z).2.2.2.2.1 U),h.b.I⟩,U⟩⟩
 .rcases Q g (Ã q)with rfl|⟨C,E,rfl⟩|rfl
  .exact T _ _ Y8
  .by_cases x:C=0
   .subst x;exact T _ _ Y9
   .exact T _ _<|Za C Z E
  .exact absurd q λz=>by
    rcases z with z|⟨C,x,F⟩
    .have G:g=b:=z;omega
    .have G:g=D C:=F;have:=(N C x).1;omega
 .have tf:C<fL f j:=E;rcases h.r.jK.2 with⟨_,e2⟩|⟨g,cap,cur,V,_,hcur,GR⟩
  .omega
  .have yE:O=Â ⟨g,0,Á⟩:=by injection V
   subst yE;have x:=h.r.jK.cells U;have hz:(hD f j).zipIdx[C]?=Â ((hD f j).getD C 0,C):=by rw[List.getElem?_zipIdx,Bu Z];simp
   have F:∀c,c<4->(jK f r D j)[C*4+c]?=(tI r D ((hD f j).getD C 0,C))[c]?:=λc q=>Q8 (λ_=>rfl) q _ C _ hz;have G:∀p,(⟨g,0,Á⟩:â).add p=⟨g,p,Á⟩:=λp=>by rw[ğ,č]
   refine⟨g,U,Ã (K g (h.r.r g U).1 (Õ Z (h.r.r g U).2) (by have:=(h.r.r g U).2;omega) λz=>(H g z).2.2.2.2.2.1 g U U),?_,?_,?_,?_⟩
   .have:=x (C*4+0) _<|F 0 Z;rwa[G]at this
   .have:=x (C*4+1) _<|F 1 Z;rwa[G]at this
   .have:=x (C*4+2) _<|F 2 Z;rwa[G]at this
   .have:=x (C*4+3) _<|F 3 Z;rwa[G]at this
 .have ll:e<(jv f j).length:=hi;rcases h.r.my.2 with⟨_,e2⟩|⟨g,cap,cur,V,_,hcur,GR⟩
  .omega
  .have Rs:u=Â ⟨g,0,Á⟩:=by injection V
   subst Rs;have x:=h.r.my.cells U;have F:∀c,c<4->(my f r D j)[e*4+c]?=(tQ f r D<|(jv f j).getD e 0)[c]?:=λc q=>Q8 (λ_=>rfl) q _ e _<|Bu ll;have G:∀p,(⟨g,0,Á⟩:â).add p=⟨g,p,Á⟩:=λp=>by rw[ğ,č]
   refine⟨g,U,Ã (K g (h.r.C g U).1 (Õ Z (h.r.C g U).2) (by have:=(h.r.C g U).2;omega) λz=>(H g z).2.2.2.2.2.2 g U U),?_,?_,?_,?_⟩
   .have:=x (e*4+0) _<|F 0 Z;rwa[G]at this
   .have:=x (e*4+1) _<|F 1 Z;rwa[G]at this
   .have:=x (e*4+2) _<|F 2 Z;rw[G]at this;show o.w.cell? ⟨g,e*4+2,Á⟩=Â (À<|Â ⟨D (if e<(jv f j).length then fL f ((jv f j).getD e 0)else 0),0,Á⟩);rw[if_pos ll];exact this
   .have:=x (e*4+3) _<|F 3 Z;rwa[G]at this
 .have V:∀p,p<j->(o.w.cell? ⟨k,p,Á⟩).isSome=Ò/\o.w.frozen? ⟨k,p,Á⟩=Ì:=λp hp=>by
   refine⟨?_,KE h.I.I⟩;have:p<(madeCells (Ŵ<|à ⟨#[]⟩) j).size:=by rwa[ř]
   simp[Ö,h.I.I,this]
  let⟨x,_,F⟩:=q;unfold lI at F;split at F
  .obtain⟨C,I,P,rfl|rfl⟩:=F
   .have G:=P;refine⟨?_,KE (h.r.I C I G).I⟩;show(o.w.cell? ⟨D C,2,Á⟩).isSome=Ò;rw[(h.r.I C I G).C U];rfl
   .have G:C<=fL f j:=P;exact V _ (G2<|vt Z).1
  .obtain⟨e,I,_,rfl⟩:=F;exact V _ (G3<|vt I).1
end
end Go.Proofs.Y.fA
namespace Go.Proofs.Y.fA
open Go Go.Conc Go.Proofs.Y.Lift Go.RowKit Go.Conc.Lib Go.ConcR.Gen
open Go.Proofs Go.Proofs.YtgpphkdoanciiaaGreatDoor
open Go.ConcN (sumTo sumTo_congr)
def KG(kd:Nat->Int)(f:Nat->Nat)(R n:Nat)(h:Ï)(l:fc)(cs:List é):Jd:=λi j=>
 ∃g k t m b o c p a d e q,Kr kd f g R m b h o c p a d e l k i/\Gz c a (g<|fL kd R) n b t/\j=A7 (À<|Â ⟨a,0,Á⟩) q (À<|Â ⟨a,0,Á⟩) (ñ #[]) d e (Ds t::cs)
theorem Zb(h:w.ownsRow i e j v n l):∃b c,v=Æ b n c:=by rcases h.2 with⟨a,d⟩|⟨b,f,g,a,_⟩;all_goals grind
section
variable{F:Ph}{E:fS F}{S:Nat->Jd}{B:Nat->gq}{G:Nat->iz}{y:Nat->fc}{o:Array Ý}
theorem PI.ajO(p:PI F j9 zX E S B G y o w qJ)(c:E.M=.gd)(d:1<=F.n):E.S=.kF F.m/\(∀i,i<F.q->w.cell? (jm F<|F.a i)=Â (à<|F.k i)/\∀k,k<o.size->¬(y k).r (jm F<|F.a i)):=by
 let⟨j,a⟩:=p.ji c;refine⟨p.C.f (by let⟨N,h⟩:=a 0 Z;rw[h];simp),λi k=> ?_⟩;have l:i%F.n<F.n:=ĵ _ d;have e:i%F.n+i/F.n*F.n=i:=by rw[Nat.mul_comm];exact Nat.mod_add_div i F.n
 let⟨N,h⟩:=a (i%F.n+1) Z;let⟨_,r,f,g⟩:=p.C.l (i%F.n) Z (by rw[h];simp);have b:i/F.n<(E.C<|i%F.n).kv:=by rw[f];exact(g (i/F.n)<|by rwa[e])
 have s:=p.M.N (i%F.n) Z (i/F.n) (by rwa[e]) b;have t:=p.a.d (i%F.n) Z (i/F.n) (by rwa[e]) b;grind
end
structure ajP(D:SD)(l:fc)(w:ß)(g:Ý):Prop where
 I:∀b,l.O b->w.heap[b]?=l.w.heap[b]?
 cba:w.cell? ⟨D.S,0,Á⟩=Â (Æ (Â ⟨D.M,0,Á⟩) D.N D.N)
 kF:∀k,1<=k->k<=D.m->w.cell? ⟨D.M,D.a k,Á⟩=Â (à<|D.e k)
 Ry:∀i,i<D.q->w.cell? ⟨D.M,D.c i,Á⟩=Â (à<|D.j i)
 G4:∃s sl V,mY (D.r Ä) D.m s/\w.cell? ⟨D.C D.m,2,Á⟩=Â sl/\D.RD s sl V w/\∀b,V b->b<w.heap.size/\b≠D.I
 fu:D.M<w.heap.size/\D.S<w.heap.size/\D.C D.m<w.heap.size
 r:D.M≠D.I/\D.S≠D.I/\D.C D.m≠D.I
 Rz:∃ts,SE D.S D.I (D.C D.m) ts/\g=Dx ts D.f
 C:w.cell? ⟨D.M,D.N,Á⟩=Á/\kN w D.M=Â (0,0)
 io:w.os=l.w.os/\w.output=l.w.output
section
variable{M:xd}{f:Nat->Int}{u:Nat->Nat}{cs:List é}{l:fc}{I:Nat->Nat}{y:Nat->fc}{o:Array Ý}
theorem ajQ(c:rA Ä zX j (KG f u J n v l cs) .fB I y o w qJ)(S:Option (Nat×Nat))(s:gw l)(KF:∀b,¬l.I b)(hq:¬l.q)(hd:l.d=0)(hH:j<=l.w.heap.size)(hV:∀b,M.r b->l.O b)(qB:∀s S V w G,M.RD s S V w->(∀b,V b->G.heap[b]?=w.heap[b]?)->M.RD s S V G)(Bv:M.RD M.C v M.r l.w)(xb:w.os=l.w.os/\w.output=l.w.output)(hn:1<=n)(hs:n+J<1000) (hA:∀g r t B D e m p h,l.w.heap.size<=m->Dy (kz M o.size n J f u g r t B D e m p h cs l)/\Dz (kz M o.size n J f u g r t B D e m p h cs l)): ∃g r t B D e m p h,(l.w.heap.size<=e/\l.w.heap.size<=m/\l.w.heap.size<=h/\∀k,k<=fL f J->l.w.heap.size<=g k)/\ ∃N Y a H C i G K E z,Ŷ Ä N (Ĭ o w S) qJ=(.next<|Ĭ i G K,E)/\i.size=o.size+(n+1)/\i[0]?=Â z/\a<=G.heap.size/\h<a/\j<=a/\(C 0).d=0/\z.status=ċ/\ ky Ä Y (λF=>zX F\/∃x:â,F=û x/\x.block=h) a (YT<|kz M o.size n J f u g r t B D e m p h cs l) .fB H C i G E/\ajP (kz M o.size n J f u g r t B D e m p h cs l) l G z:=by
 have h0:=c.C;obtain⟨g0,wG⟩:∃g,o[0]?=Â g:=⟨_,ì h0⟩;let⟨g1,q1,q2,q3,_⟩:=c.r.C 0 g0 wG;obtain rfl:g0=g1:=by cases q2;rfl
 have hz:=q1 w<|c.r.r.r 0 h0;let⟨g,lp,tt,iv,qv,e,m,p,h,bw,bf,T,F,hT,hg⟩:=hz;obtain⟨r,B,rfl⟩:=Zb F.r.jK;obtain⟨t,D,rfl⟩:=Zb F.r.my;let⟨a1,a2,a3⟩:=F.M;let⟨a4,a5,a6⟩:=F.S;have RE:∀k,k<=fL f J->lp.w.heap.size<=g k/\g k<p:=λk W=>⟨(F.r.M k W).1,F.N k W⟩;have as7:=RE 0 Z;have ajR:=qB _ _ _ _ _ Bv λb q=>F.C.r b (Ã<|hV b q) id;obtain⟨st,hgo⟩:=ajM F s KF hq hd hH hV ajR xb hn hs hT λ_=>0;have ok:=ajL (L:=o.size) (cs:=cs) (RB:=λb=>l.O b\/b=m) (RC:=λw=>∀b,l.O b->w.heap[b]?=l.w.heap[b]?) F (λw G P X b a=>(X b<|Ã a).trans<|P b a) (eY:=λw=>w.os=l.w.os/\w.output=l.w.output) (λw G P X=>⟨X.1.trans P.1,X.2.trans P.2⟩) qB hn Z hs;let⟨hAdd,ajS⟩:=hA g r t B D e m p h Z;have Hy:=ajA ok hAdd ajS;have Bm:=F.C.d.trans hd;have st':Rw ((kz M o.size n J f u g r t B D e m p h cs l).r Ä) j (y 0) (KD (kz M o.size n J f u g r t B D e m p h cs l) {y 0 with w:=w}) w:=⟨st.fl,st.r,st.C,st.I,st.k,st.M,st.N,st.g,st.d,st.q,st.S,st.Y,st.c,st.e,st.f⟩;rw[<-hg]at hgo;have p0:=c.ajG Hy U U wG st' Bm (λ_=>0) hgo;let⟨N1,E,S1,tr1,kp1,as8,gs1,w1,Zc,t1,r1,x,hf,he⟩:=aho Hy _ _ _ _ _ _ _ o w S qJ U U p0 (by intro q;cases q);let⟨oA,_⟩:=x.ji hf;let⟨yO,c1⟩:=x.ajF hf he U h0;let⟨N2,KH,RF,gs2,w2,yP,t2,r2,z2,N,c2⟩:=c1.G (λa i z=>Ã<|Hy.M E.I a i z) (tr1 0) _ yO _ gs1 w1 Zc t1 U;have DC:gs1.size=o.size+(n+1):=by rw[x.b,oA];rfl
 have KI:=c2.C;obtain⟨g2,KJ⟩:∃g,gs2[0]?=Â g:=⟨_,ì KI⟩;let⟨g3,u1,u2,u3,_⟩:=c2.r.C 0 g2 KJ;obtain rfl:g2=g3:=by cases u2;rfl
 have hE:=u1 w2<|c2.r.r.r 0 KI;let⟨e1,e2,dat,ts,qD,hge⟩:=hE;have Q:0<gs1.size:=Z
 have C:=x.I.r;have hY:=λb q z=>C.I 0 Q b (Ã z) q;have H:E.Y e:=Ç<|Ã U;have yG:∀k,k<=fL f J->E.Y (g k):=λk W=>Ã<|Ç ⟨k,W,U⟩;have Zd:E.Y h:=Ã<|Ã U;let⟨hip,ajT⟩:=x.ajO hf hn;have hmd:E.S.md=fL f J:=by rw[hip];rfl
 let⟨FY,⟨Ze,RG,KL⟩,_⟩:=x.M.M (fL f J) Z;have K:=C.N;refine⟨g,r,t,B,D,e,m,p,h,⟨a1,Z,Z,λk W=>by have:=RE k W;omega⟩,N1+N2,E.Y,w1.heap.size,KH,RF,gs2,w2,yP,t2,g2,?_,Z,KJ,N.r,K h Zd,?_,e1,Hy.M E.I _ _<|u1 w2<|c2.r.r.r 0 KI,c2,⟨dat.e,dat.d,λk P X=> ?_,λi hi=> ?_,?_,?_,(⟨show e≠h by omega,show m≠h by omega,show g (fL f J)≠h by have:=RE (fL f J)<|Ú _;omega⟩),⟨ts,qD,hge⟩,?_,?_⟩⟩
 .rwa[runNT_add,show Ŷ Ä N1 (Ĭ o w S) qJ=_ from r1]
 .grind
 .have a:k<=fL f J:=X;refine Ŀ (N.M ⟨e,_,Á⟩ (K e H) (hY e H)<|x.a.g k P Z 0 Q)<|x.M.S k P Z
 .let⟨T,v2⟩:=ajT i hi;exact Ŀ (N.M ⟨e,_,Á⟩ (K e H) (hY e H)<|v2 0 Q) T
 .refine⟨E.c<|fL f J,Ze,E.V<|fL f J,FY,(Ŀ (N.M ⟨g<|fL f J,2,Á⟩ (K _<|yG _<|Ú _) (hY _<|yG _<|Ú _)<|x.a.N (fL f J) Z 0 Q) RG),qB _ _ _ _ _ KL λb q=> ?_,λb q=> ?_⟩
  .let⟨T,v2,v3⟩:=x.a.I (fL f J) Z b q;exact N.jP b T (v3 0 Q) λa ha z=>v2<|ha▸C.e 0 Q a (Ã z)
  .let⟨T,v2,v3⟩:=x.a.I (fL f J) Z b q;exact⟨È T N.r,λz=>v2<|z▸Zd⟩
 .refine⟨È (K e H) N.r,c2.r.r.fu 0 KI m<|Ç dat.c,È (K _<|yG _<|Ú _) N.r⟩
 .let⟨a,y2,_⟩:=(x.M.M 0<|ă _).2.2 U;exact⟨Ŀ (N.M ⟨e,J,Á⟩ (K e H) (hY e H)<|x.a.NY Hy.C 0 Q) a,(N.Y e (K e H)<|hY e H).trans y2⟩
 .let⟨_,_,a⟩:=(x.M.M 0<|ă _).2.2 U;exact⟨N.C.trans a.1,N.I.trans a.2⟩
end
def RH(a:Ν->Prop)(w:ß):fc where
 O:=λb=>b<w.heap.size/\∀x:â,x.block=b->¬a (û x)
 I:=λ_=>False
 r:=λ_=>False
 N:=λ_=>False
 K:=λ_=>False
 q:=False
 d:=0
 w:=w
def Zf(a:Ν->Prop)(w:ß):gw (RH a w):= ⟨λ_ _ h=>h,λ_ h=>h.elim,λ_ h=>h.elim (λq=>q.elim) λq=>q.elim,λ_ h=>h.elim (λq=>q.1) λq=>q.elim,λ_ h=>h.elim (λq=>q.elim) λq=>q.elim,λ_ h=>h.elim⟩
structure vu(jl:Ν->Prop)(H:Nat)(l:fc):Prop where
 r:∀x:â,jl (û x)->x.block<H
 fl:∀b,l.O b->∀x:â,x.block=b->¬jl (û x)
 C:H<=l.w.heap.size
inductive yR(M:xd):Nat->M.γ->Prop
 |uW:yR M 0 M.C
 |Cz {k:Nat} {s s':M.γ} (h:yR M k s) (hn:M.M k s s'):yR M (k+1) s'
structure Fg(M:xd)(R:Nat)(kd:Nat->Int)(l:fc)(an:Nat)(sl:Ï)(l':fc):Prop where
 u5:∀b,l.O b->l'.O b/\l'.w.heap[b]?=l.w.heap[b]?
 kv:l'.O an/\∀p,p<R->l'.w.cell? ⟨an,p,Á⟩=Â (à<|M.I p)
 G4:∃s V,yR M (fL kd R) s/\M.RD s sl V l'.w/\∀b,V b->l'.O b
 d:l'.d=0
 q:¬l'.q
 rd:∀b,¬l'.I b
 DF:(∀a,¬l'.r a)/\(∀a,¬l'.N a)/\∀a,¬l'.K a
 Cj:l'.w.cell? ⟨an,R,Á⟩=Á/\kN l'.w an=Â (0,0)
section
variable{M:xd}{R H:Nat}{kd:Nat->Int}{e:Nat->Nat}{f:List é}{l:fc}{jl:Ν->Prop}{o:Nat->fc}
def ajU{a:Option â}{s:M.γ}(h:mY ((kz M i n R kd e D O a j b m J j9 j7 qX l).r Ä) k s):yR M k s:=by
 have c:∀(k:Nat) (s:((kz M i n R kd e D O a j b m J j9 j7 qX l).r Ä).γ),mY ((kz M i n R kd e D O a j b m J j9 j7 qX l).r Ä) k s->yR M k s:=λk s h=>by
  induction h with
  |uW=>exact .uW
  |Cz _ d f=>exact .Cz f d
 exact c k s h
def ajV{J:(Ν->Prop)->Nat->Jd}{cf:é}{a:ŏ}(FV:qX=cf.at a (Ñ Q (i::jJ)::L)::f)(c:rA Ä jl H (KG kd e R n v l qX) .fB D o E w qJ)(F:Option (Nat×Nat))(s:gw l)(KF:∀b,¬l.I b)(hq:¬l.q)(hd:l.d=0)(S:vu jl H l)(hV:∀b,M.r b->l.O b)(qB:∀s F V w u,M.RD s F V w->(∀b,V b->u.heap[b]?=w.heap[b]?)->M.RD s F V u)(ajW:∀s F V w,M.RD s F V w->(∃p m c,F=Æ p m c)/\∀b,V b->l.O b\/l.w.heap.size<=b)(Bv:M.RD M.C v M.r l.w)(xb:w.os=l.w.os/\w.output=l.w.output)(hn:1<=n)(hs:n+R<1000) (hA:∀g ib qb ci cq B ba bi I,l.w.heap.size<=ba->Dy (kz M E.size n R kd e g ib qb ci cq B ba bi I qX l)/\Dz (kz M E.size n R kd e g ib qb ci cq B ba bi I qX l)) (hJ:∀DG C W B p m c,vu DG C W->gw W->Fg M R kd l B (Æ p m c) W->fi Ä Ò (J DG C) W (G (cf.at (a.put ((Q[i]?).bind (·.dst))<|ñ #[Æ (Â ⟨B,0,Á⟩) R R,Æ p m c])<|Ñ Q jJ::L) f)): ∃N DG C T jw G5 gs' u sJ t',Ŷ Ä N (Ĭ E w F) qJ=(.next<|Ĭ gs' u sJ,t')/\(u.os=l.w.os/\u.output=l.w.output)/\rA Ä DG C (J DG C) T jw G5 gs' u t':=by
 let⟨g,ib,qb,ci,cq,B,ba,bi,I,⟨b1,b2,b3,b4⟩,N,Y,C,jw,G5,gs',u,sJ,t',g',r,z1,z2,z3,z4,z5,z6,z7,cY,t⟩:=ajQ c F s KF hq hd S.C hV qB Bv xb hn hs hA;let⟨st,Ze,V,FY,RG,KL,KM⟩:=t.G4;obtain⟨⟨sp,sm,sc,rfl⟩,Zg⟩:=ajW _ _ _ _ KL;obtain⟨ts,qD,rfl⟩:=t.Rz;have hH:=S.C;have Zh:=λb q=>s.fu b<|Ã q;have X:∀b,(l.O b\/l.w.heap.size<=b)->b<u.heap.size->b≠I->(RH (λj=>jl j\/∃x:â,j=û x/\x.block=I) u).O b:=λb hb gN kO=>by
  refine⟨gN,λx hx=> ?_⟩;rintro(q|⟨y,P,q2⟩)
  .rcases hb with hb|hb
   .exact S.fl b hb x hx q
   .have:=S.r x q;omega
  .injection P with P;subst P;omega
 have ajX:=λb q=>by have h:=t.I b q;rw[ì<|Zh b q]at h;exact(æ.1 h).1
 have keep:=λb q=>X b (Ã q) (ajX b q) (by have:=Zh b q;omega);have KN:=X B (Ç b1) t.fu.1 t.r.1;have ajY:fi Ä Ò (J (λj=>jl j\/∃x:â,j=û x/\x.block=I) C) (RH (λj=>jl j\/∃x:â,j=û x/\x.block=I) u) (Dx ts qX):=by
  rw[FV];refine ajg (Zf _ _) (λq=>q) qD (Ã<|X ba (Ç b2) t.fu.2.1 t.r.2.1) (Ã<|Ã<|X _ (Ç<|b4 _<|Ú _) t.fu.2.2 t.r.2.2) t.cba RG λW h=> ?_;refine hJ (λj=>jl j\/∃x:â,j=û x/\x.block=I) C W B sp sm sc ⟨λx q=> ?_,λb q x hx=> ?_,Õ z3 h.I⟩ (h.N<|Zf _ _) ⟨λb q=>⟨h.O b<|keep b q,(h.r b (Ã<|keep b q) id).trans<|t.I b q⟩,⟨h.O B KN,λp hp=> ?_⟩,⟨st,V,ajU FY,qB _ _ _ _ _ KL λb q=>h.r b (Ã<|X b (Zg b q) (KM b q).1 (KM b q).2) id,λb q=>h.O b<|X b (Zg b q) (KM b q).1 (KM b q).2⟩,h.d,?_,λb q=> ?_,⟨λa q=> ?_,λa q=> ?_,λa q=> ?_⟩,⟨(gJ<|h.r B (Ã KN) id).trans t.C.1,(wo<|h.r B (Ã KN) id).trans t.C.2⟩⟩
  .rcases q with q|⟨y,P,q2⟩
   .exact È (S.r x q) z5
   .injection P with P;subst P;omega
  .rcases h.c b q with q|q
   .exact q.2 x hx
   .have j:u.heap.size<=b:=q;rintro(z|⟨y,z1,z2⟩)
    .have:=S.r x z;omega
    .injection z1 with z1;subst z1;omega
  .refine(gJ<|h.r B (Ã KN) id).trans ?_;by_cases hk:kd p=1
   .have hm:p∈hD kd R:=Ā.2 ⟨Ē.2 hp,by simpa using hk⟩;let⟨j,y⟩:=Ĩ hm;have P:=(Ĕ.1 y).1;have:=t.kF (j+1) Z (show j+1<=fL kd R from P);have e2:(hD kd R).getD (j+1-1) 0=p:=Ó<|(Bu P).symm.trans y;simp only[kz,KC,e2]at this;exact this
   .have hm:p∈jv kd R:=Ā.2 ⟨Ē.2 hp,by simpa using hk⟩;let⟨j,y⟩:=Ĩ hm;have P:=(Ĕ.1 y).1;have:=t.Ry j P;simp only[kz,KC,Ó<|(Bu P).symm.trans y]at this;exact this
  .rw[h.q];exact id
  .rw[h.S]at q;exact q
  .rw[h.Y]at q;exact q
  .rw[h.b]at q;exact q
  .rw[h.K]at q;exact q
 let⟨T,h⟩:=jk ajY;exact⟨N,_,C,T,jw,_,gs',u,sJ,t',r,t.io,cY.Y z6 z2 z7 U U id (λ_=>id) (λ_=>id) (λ_=>id) (λ_=>id) (λb q=>q) h⟩
end
end Go.Proofs.Y.fA
namespace Go.Proofs.Y.fA
open Go Go.Conc Go.Proofs.Y.Lift Go.RowKit Go.Conc.Lib Go.ConcR.Gen
open Go.Proofs Go.Proofs.YtgpphkdoanciiaaGreatDoor
def pY(V:Nat->Prop)(base:Nat):fq:=⟨λi j=>i=j/\V i,base⟩
def ajZ(V:Nat->Prop)(base:Nat):Bi (pY V base):= ⟨λ_ _ _ h k=>h.1.symm.trans k.1,λ_ _ _ h k=>h.1.trans k.1.symm,λi j h=>by rw[h.1]⟩
def ln(j:Nat):Bool:=j==3||j==4
def uk(c:Array Ï):Array Ï:=c.extract 0 16
def aj0(c:Array Ï):(uk c).size=min 16 c.size:=by simp[uk]
open Classical in
noncomputable def pe (a:Nat->Prop) (j:Nat):Ÿ->Ÿ
 |É c e b=>if a j then(if ln j=Ò then É (uk c) e (0,(uk c).size)else É c e (0,c.size))else É c e b
 |_=>É #[] 0
noncomputable def kY (Sh:Nat->Prop) (w:ß):ß:={w with heap:=w.heap.mapIdx (pe Sh)}
section
variable{V Sh:Nat->Prop}{base:Nat}
def DK(j:Nat):(kY Sh w).heap[j]?=(w.heap[j]?).map (pe Sh j):=by simp[kY,Array.getElem?_mapIdx]
def Zi:j5 (kY Sh w):=λi o h=>by
 rw[DK]at h;obtain⟨x,_,rfl⟩:=ġ.1 h;cases x<;>simp only[pe]<;>try exact id
 split
 .split<;>exact id
 .exact id
structure KO(V Sh:Nat->Prop)(base:Nat)(w:ß):Prop where
 Rz:∀b,V b->∃c e fr,w.heap[b]?=Â (É c e fr)/\fr.2<=c.size/\fQ (pY V base) c c/\(Sh b->0<c.size/\(ln b=Ò->(e=304\/e=305)/\fr.2<=16)/\(ln b=Ì->Cf c))
 fu:base<=w.heap.size
def aj1(h:KO V Sh base w):qW (pY V base) Sh (kY Sh w) w:=by
 refine⟨U,U,ajZ V base,by show base<=(w.heap.mapIdx<|pe Sh).size;rw[Array.size_mapIdx];exact h.fu,h.fu,λi j o=> ?_⟩;obtain⟨rfl,p⟩:=o;let⟨c,e,a,b,l,f,r⟩:=h.Rz i p;have g:(kY Sh w).heap[i]?=Â (pe Sh i<|É c e a):=by rw[DK,b];rfl
 by_cases s:Sh i
 .let⟨t,u,v⟩:=r s;cases d:ln i with
  |true=>
   let⟨x,y⟩:=u d;have z:=aj0 c;have m:ES e (uk c).size:=⟨x,Z⟩;refine⟨uk c,c,e,(0,(uk c).size),a,?_,b,⟨λk B n=> ?_,Z,Ç ⟨s,m⟩⟩,λ_=>⟨U,Ú _,by show a.2<=(uk c).size;omega,Z,Ç m⟩,λq=>absurd s q,Ú _⟩
   .show(kY Sh w).heap[i]?=_;rw[g];simp[pe,s,d]
   .have:(uk c)[k]=c[k]:=by simp[uk]
    rw[this];exact f.C k n n
  |false=>
   refine⟨c,c,e,(0,c.size),a,?_,b,oP.M f,λ_=>⟨U,Ú _,l,t,Ã<|v d⟩,λq=>absurd s q,Ú _⟩;rw[g];simp[pe,s,d]
 .refine⟨c,c,e,a,a,?_,b,oP.M f,λq=>absurd q s,λ_=>rfl,l⟩;rw[g];simp[pe,s]
end
section
variable{a:Nat->Prop}{l:fc}{V:Nat->Prop}
theorem DL(y:nH P)(B:oV P a X)(hF:s9 P X)(C:wj vQ){k:Array Ï}(D:X F)(E:P.funcs[F]?=Â s)(H:s.body=Â wX)(r:gw l)(I:¬l.q) (n:∀b,V b->l.M b) (J:KO V (λj=>V j/\¬l.O j) P.globals.size l.w) (K:∀g,a g->V g) (L:fQ (pY V P.globals.size) k k) (N:∀T,Calls P F k (World.tp (kY (λj=>V j/\¬l.O j) l.w) T 0) fun|.returned v,e=>vQ v e/\j5 e|_,_=>False) (t:Bool) (o:é) (p:List é): fi P t (λh u=>∃(Y:fq) (e:ß) (v m:Ï),(pY V P.globals.size).r Y/\qW Y (λj=>V j/\¬l.O j) e h.w/\fj Y v m/\vQ v e/\u=G (o.finish m) p/\(∀i j,Y i j->h.M j/\(V j\/l.O j\/l.w.heap.size<=j))/\(∀j,l.O j->h.O j)/\h.d=l.d) l (G (Ă P F k Ğ)<|o::p):=by
 refine(afo (aeo y B hF C D E H Zi N (Y:=pY V P.globals.size) U (λg q=>⟨U,K g q⟩) L (aj1 J) (λj q=>r.fu j<|n j q.1) (λi j _ q=>(n j q.1).resolve_left q.2) t o p) l U (λj q=> ?_) (λ_ q=>q) (λj q=>r.fu j<|Ã q) I).fN ?_
 .obtain⟨⟨i,rfl,x⟩,Q⟩:=q;grind
 .rintro h u ⟨O',⟨Y,e,v,m,S,rfl,W,q3,q4,q5⟩,Q,h3,h4,h5,h6,h7,h8,h9,h10,h11,Zj⟩;refine⟨Y,e,v,m,S,W,q3,q4,q5,λi j RJ=> ?_,h4,h10⟩;by_cases z:V j/\¬l.O j
  .exact⟨Ç (by rw[h7];exact(n j z.1).resolve_left z.2),Ã z.1⟩
  .have x:=h3 j ⟨⟨i,RJ⟩,z⟩;exact⟨Ã x,Ç<|h6 j x⟩
end
section
variable{l:fc}{V GL:Nat->Prop}
def DN(s:gw l):gw (lR l):=by refine⟨λ_ h=>h.elim,λ_ h=>h.elim,λa c d=>s.N a (c.resolve_left id)<|d.resolve_left id,λb d=>s.fu b<|d.resolve_left id,λa c=>s.I a<|c.resolve_left id,λa c=>⟨λq=>(s.S a c).1<|q.resolve_left id,(s.S a c).2.1,id⟩⟩
structure DR(GL:Nat->Prop)(f:ķ)(args:Array Ï)(l:fc)(V:Nat->Prop)(kT:Ï->ß->Prop):Prop where
 N:∀b,V b->l.M b
 S:KO V V Ä.globals.size l.w
 I:∀g,GL g->V g
 r:fQ (pY V Ä.globals.size) args args
 C:∀T,Calls Ä f args (World.tp (kY V l.w) T 0) fun|.returned v,u'=>kT v u'/\j5 u'|_,_=>False
def aj2(m:nH Ä)(n:oV Ä GL X)(hF:s9 Ä X)(e:X 67){D:SD}(h:∀i s d W l,i<D.q->mY (D.r Ä) (D.b i) s->D.RD s d W l.w->(∀b,W b->l.M b)->gw l->¬l.q->(∀b,D.d b->l.M b)->D.RC l.w->∃V,DR GL 67 #[d,À<|D.i i] l V λv _=>v=à (D.j i)):Dz D:=by
 intro i s d W l o p r t f g x y z B;let⟨V,a⟩:=h i s d W l o p r t f g x y;let⟨G,c,C,E⟩:=hF 67 e;have k:(λj=>V j/\¬(lR l).O j)=V:=by funext j;exact propext ⟨λq=>q.1,λq=>⟨q,id⟩⟩
 refine(DL m n hF (λv u T D h=>h) e C E (DN f) g (λb q=>Ç<|a.N b q) (by rw[k];exact a.S) a.I a.r (by rw[k];exact a.C) Ì z B).fN ?_;rintro H I ⟨Y,J,v,K,_,_,j,u,T,_,_,F⟩;subst u;cases j;exact⟨F,T⟩
theorem aj3(P:nH Ä)(Q:oV Ä GL X)(hF:s9 Ä X)(B:X 66){D:SD}(Rg:D.γ->Ï->ß->Prop)(hRg:∀s a u T n,Rg s a u->Rg s a (World.tp u T n)) (h:∀k s a W l,k<D.m->mY (D.r Ä) k s->D.RD s a W l.w->(∀b,W b->l.M b)->gw l->¬l.q->(∀b,D.d b->l.M b)->D.RC l.w->∃V,DR GL 66 #[a,À<|D.o<|k+1] l V (λv u=>∃p n c d,v=ñ #[Æ p n c,à<|D.e<|k+1]/\D.h k s d/\Rg d (Æ p n c) u)/\ ∀Y S u w d a C,qW Y S u w->fj Y a C->Rg d a u->(∀i j,Y i j->V j\/l.w.heap.size<=j)->∃e,D.RD d C e w/\∀b,e b->∃i,Y i b):Dy D:=by
 intro k s a W l hk hr qB hW E F hRB hRC cl lF;let⟨V,f,tr⟩:=h k s a W l hk hr qB hW E F hRB hRC;let⟨fn,c,hf,g⟩:=hF 66 B;have G:(λj=>V j/\¬(lR l).O j)=V:=by funext j;exact propext ⟨λq=>q.1,λq=>⟨q,id⟩⟩
 refine(DL P Q hF (λv u T D h=> ?_) B hf g (DN E) F (λb q=>Ç<|f.N b q) (by rw[G];exact f.S) f.I f.r (by rw[G];exact f.C) Ì cl lF).fN ?_
 .grind
 .rintro l' g' ⟨Y,u',v,v',_,q2,q3,⟨p,n,c,d,rfl,H,h3⟩,I,o,_,J⟩;cases q3 with
  |@nF _ cs'' hs mo=>
   let⟨ls⟩:=cs'';match ls,hs with
   |[x,y],_=>
    have r:=mo 0 fp fp;have K:=mo 1 fp fp;simp at r K;cases K;let⟨e,L,N⟩:=tr Y _ u' l'.w d _ x q2 r h3 λi j RJ=>(o i j RJ).2.imp id λz=>z.resolve_left id;cases r with
    |nY=>exact⟨J,Á,n,c,I,d,e,H,L,λb g=>by let⟨i,t⟩:=N b g;exact(o i b t).1⟩
    |kC=>exact⟨J,_,n,c,I,d,e,H,L,λb g=>by let⟨i,t⟩:=N b g;exact(o i b t).1⟩
end
end Go.Proofs.Y.fA
namespace Go.Proofs.Y.Lift
open Go
def DU(a:Nat->Bool):Ĥ->Bool
 |Ũ (Đ cs)=>cs.toList.all xU
 |Ũ (ñ cs)=>cs.toList.all xU
 |x=>wm a x
def Zk(a:Nat->Bool)(x:Ĥ):DU a x=wm a x:=by
 cases x with
 |const v=>cases v<;>simp[DU,wm,Nh,ĝ]
 |_=>rfl
def KP(P:ė)(a:Nat->Bool)(b c:ķ->Bool)(o:å):Bool:=(Cs P b o.op&&o.op.operands.toList.all (DU a))||(Nw P c o.op&&o.op.operands.toList.all (DU a))
def KQ(a:Nat->Bool)(b c:ķ->Bool)(o:å):KP P a b c o=Cu P a b c o:=by have:(DU a)=wm a:=funext<|Zk a;simp[KP,Cu,Nq,this,ĝ]
def qE(P:ė)(a:Nat->Bool)(b d:ķ->Bool):Ę->Bool
 |Ρ|ť|.label _|Ŧ _|.goto _=>Ò
 |.seq x y=>qE P a b d x&&qE P a b d y
 |Ť c x y=>DU a c&&qE P a b d x&&qE P a b d y
 |İ _ c|.loop c|.scope c=>qE P a b d c
 |ä _ c _=>c.toList.all<|KP P a b d
 |.refuse _=>Ò
 |_=>Ì
def yS(a:Nat->Bool)(b d:ķ->Bool):∀c:Ę,qE P a b d c=nK P a b d c
 |Ρ|ť|.label _|Ŧ _|.goto _|.refuse _|.rangeFunc _ _ _ _=>rfl
 |.seq x y=>by simp only[qE,nK,yS a b d x,yS a b d y]
 |Ť c x y=>by simp only[qE,nK,Zk,yS a b d x,yS a b d y]
 |İ _ c|.loop c|.scope c=>by simp only[qE,nK,yS a b d c]
 |ä _ x _=>by have:KP P a b d=Cu P a b d:=funext<|KQ a b d;simp only[qE,nK,this,ĝ]
end Go.Proofs.Y.Lift
namespace Go.Proofs.Y.fA
open Go Go.Conc Go.Proofs.Y.Lift Go.RowKit Go.Conc.Lib Go.ConcR.Gen
open Go.Proofs Go.Proofs.YtgpphkdoanciiaaGreatDoor
def Zl:List Nat:=[35,38,44,54,55,56,60,66,67,78,79,103,113,114,115,116,117,118,119,120,121,122,123,124,125,126,153,154,155,156,157,158,159,160,161,162,168,169,170,171,172,173,174,175,176,177,178,186,187,188,189,190,191,192,193,194,196,197,198,199,200,201,202,203,204,205,206,207,208,209,210,211]
def xe(g:Nat):Bool:=[1,2,3,4].contains g
def xf(f:Nat):Bool:=Zl.contains f
def yT(f:Nat):Bool:=[129,130].contains f
def Bw(P:ė)(f:Nat):Bool:=match P.funcs[f]? with
 |some a=>match a.body with
  |some c=>qE P xe xf yT c
  |none=>Ì
 |none=>Ì
def aj4:Zl.all (Bw Ä)=Ò:=by rfl
def Zm(h:xf i=Ò):Bw Ä i=Ò:=(Ň.1 aj4) i<|by simpa[xf]using h
def aj5(h:Bw P i=Ò):∃a c,P.funcs[i]?=Â a/\a.body=Â c:=by
 unfold Bw at h;split at h
 .rename_i a b;split at h
  .rename_i c d;exact⟨a,c,b,d⟩
  .cases h
 .cases h
def aj6(h:Bw P i=Ò)(a:P.funcs[i]?=Â s)(b:s.body=Â wX):qE P xe xf yT wX=Ò:=by unfold Bw at h;rw[a]at h;simp only[b]at h;exact h
def Zn:s9 Ä (λf=>xf f=Ò):=λ_ h=>aj5<|Zm h
def aj7[zN P](h:∀f,xf f=Ò->Bw P f=Ò)(a:Fo P yT):oV P (λg=>xe g=Ò) (λf=>xf f=Ò):=λf g e c b d=>by have:=aj6 (h f g) b d;rw[yS]at this;exact uY a this
instance as9:zN Ä:=⟨λe n h=>by
 have h1:Ä.cellsOf 304=32:=ft
 have h2:Ä.cellsOf 305=64:=ft
 obtain⟨rfl|rfl,h3⟩:=h
 .rw[h1];omega
 .rw[h2];omega⟩
def aj8(a:Fo Ä yT):oV Ä (λg=>xe g=Ò) (λf=>xf f=Ò):=aj7 (λ_ h=>Zm h) a
def DV:Fo Ä yT:=λf h=>by
 have:f=129\/f=130:=by simpa[yT]using h
 rcases this with rfl|rfl
 .exact⟨_,Extern.AbiNoEscape.same,Tryz.func129,fO,fO,fO,fO,λ_ v a h=>aeO v a h,aeP⟩
 .exact⟨_,Extern.BytealgMakeNoZero.makeNoZero #[3] #[107],Tryz.func130,fO,fO,fO,fO,λ_ v a h=>aeQ #[3] 107 v a h,aeR #[3] 107⟩
def Zo:oV Ä (λg=>xe g=Ò) (λf=>xf f=Ò):=aj8 DV
end Go.Proofs.Y.fA
namespace Go.Proofs.Y.Lift
open Go Go.Conc
section
variable{Y:fq}{b:ķ->Prop}
def aj9{e:Array Ï->Sem Ï}{y:Ĥ}{m:Array ŭ}(d:o.op=Ě {callee:=ĕ<|ĸ F,args:=#[qQ,y],argTypes:=m})(q:P.funcs[F]?=Â s)(r:(s.name== "runtime.NumGoroutine")=Ì)(t:s.body.isNone=Ò)(B:Extern.findNext s=Á)(C:Extern.find s=Â e) (D:∀(Y:fq) (v i z j:Ï),fj Y v i->fj Y z j->fF P fj Y (e #[v,z]) (e #[i,j])) (E:∀v z,fD P<|e #[v,z]) (G:∀y∈o.op.operands,mh X y):mE P X b o:=by
 have c:∀a:ŏ,ĉ a.eval o=Ś F #[a.eval qQ,a.eval y]:=by intro a;unfold ĉ;rw[d];simp only[ſ,ĥ,ě,invoke,pure_bind,Array.empty_append,Array.append_empty,List.map_toArray,List.map_cons,List.map_nil]
 have k:∀(v z:Ï) (u:ß),(Ś F #[v,z]).run P u=(mark (.extern F)>>=λ_=>e #[v,z]>>=λy=>pure (Next.value y):Sem Next).run P u:=by intro v z u;unfold Ś;simp_all
 refine VW (λY a w _ _ _ h=> ?_) (λa=> ?_) (λa u n H g=> ?_) G
 .rw[c,c];have I:=h qQ (by rw[d];simp[ŉ,Call.operands]);have J:=h y (by rw[d];simp[ŉ,Call.operands]);unfold Ś;refine .gl (fE qM ?_);rintro M p N w ⟨K,L⟩;rw[K,L];simp only[q,r,t,B,C,Ķ,if_false,if_true];apply fE (V:=jo) (.Ce (Ç ⟨F,U⟩) (.fC U));intro O _ _ l _;exact mD<|D _ _ _ _ _ ((I.fN w).fN l)<|(J.fN w).fN l
 .rw[c];exact Ix (k _ _)<|gk (E9 _) λ_=>lH<|E _ _
 .rw[c,k,Sem.run_bind]at g;simp only[mark,Sem.run,Result.andThen_ok]at g;have:Sem.run P (e #[a.eval qQ,a.eval y]>>=λy=>pure (Next.value y):Sem Next) u=.ok n H:=g;rw[Sem.run_bind]at this;cases h:(e #[a.eval qQ,a.eval y]).run P u with
  |ok v w=>rw[h]at this;cases this;exact⟨v,U⟩
  |halt z w=>rw[h]at this;cases this
def Zp:∀(n:Nat) {Y:fq} {a b:â} (c:ByteArray),gY Y a b->fF P jo Y (ò a n c) (ò b n c)
 |0,_,_,_,_,_=> .fC U
 |n+1,Y,a,b,c,h=>by
  unfold ò;refine fE (Im h) ?_;intro f v g d e;cases e<;>first|exact .fP|skip
  rename_i k z;cases k<;>first|exact .fP|skip
  exact Zp n _<|(h.r d).C 1
theorem Zq:∀(n:Nat) (a:â) (b:ByteArray),fD P<|ò a n b
 |0,_,_=>gD _
 |n+1,a,b=>by
  unfold ò;refine gk (Fa _ _) λv=> ?_;split
  .exact Zq n _ _
  .exact jc _
def akb(h:fj Y v x):fF P jo Y (ú v) (ú x):=by
 cases h<;>first|exact .fP|exact .fC U|skip
 exact Zp _ _<|by assumption
theorem akc(v:Ï):fD P (ú v):=by unfold ú;grind [gD,Zq,jc]
def akd(h:fj Y v x):fF P jo Y (ü v) (ü x):=by
 cases h<;>first|exact .fP|skip
 rename_i k z;cases k<;>first|exact .fP|exact .fC U
theorem ake(v:Ï):fD P (ü v):=by unfold ü;grind [gD,jc]
def akf(v a z b:Ï)(h:fj Y v a)(k:fj Y z b):fF P fj Y (ó #[v,z]) (ó #[a,b]):=by
 apply fE (akb h);rintro j s d e f;obtain rfl:s=d:=f;apply fE (akd<|k.fN e);rintro l c g m i;obtain rfl:c=g:=i;split
 .exact .fC (.iI _ _)
 .exact .fC (.iI _ _)
theorem akg(v z:Ï):fD P (ó #[v,z]):=by refine gk (akc v) λs=>gk (ake z) λc=> ?_;grind [gD]
end
end Go.Proofs.Y.Lift
namespace Go.Proofs.Y.fA
open Go Go.Conc Go.Proofs.Y.Lift
open Go.Proofs Go.Proofs.YtgpphkdoanciiaaGreatDoor
def RL:List Nat:=[16,18,21,23,24,25,28,29,30,31,35,44,60,38,54,55,56,78,79,36,45,61,94,95,96,97,98,99,100,101,102,103,104,145,146,147,148,149]
def DW(f:Nat):Bool:=RL.contains f||f==167
def KR(_:Nat):Bool:=Ì
def KS(P:ė)(f:Nat):Bool:=match P.funcs[f]? with
 |some a=>match a.body with
  |some c=>qE P KR DW yT c
  |none=>Ì
 |none=>Ì
def akh:RL.all (KS Ä)=Ò:=by rfl
def Zr(h:RL.contains i=Ò):KS Ä i=Ò:=(Ň.1 akh) i<|by simpa using h
theorem Zs(h:KS P i=Ò):∃a c,P.funcs[i]?=Â a/\a.body=Â c/\qE P KR DW yT c=Ò:=by unfold KS at h;grind
def yU:s9 Ä (λf=>DW f=Ò):=λf h=>by
 rcases ī.1 h with q|q
 .let⟨a,c,b,d,_⟩:=Zs<|Zr q;exact⟨a,c,b,d⟩
 .rw[beq_iff_eq]at q;subst q;exact⟨_,_,Ŭ,U⟩
def aki(h:Ζ.body=Â wX):kE Ä (λg=>KR g=Ò) (λf=>DW f=Ò) wX:=by
 unfold Ζ at h;cases h;refine .qT (uY DV<|by rw[<-yS];rfl) (.qT (.s8 _ _ λo f=> ?_) .uT);simp only[List.mem_toArray,List.mem_cons,List.not_mem_nil,or_false]at f;rcases f with rfl|rfl|rfl|rfl
 .exact I1 DV<|by rw[<-KQ];rfl
 .exact I1 DV<|by rw[<-KQ];rfl
 .exact aj9 U Tryz.func185 fO fO fO fO (λ_ v g z o=>akf v g z o) akg λy g=>IV (by simp[ŉ,Call.operands]at g;rcases g with rfl|rfl|rfl<;>rfl)
 .exact I1 DV<|by rw[<-KQ];rfl
def KT:oV Ä (λg=>KR g=Ò) (λf=>DW f=Ò):=λf h i c g a=>by
 rcases ī.1 h with q|q
 .let⟨j,k,b,d,e⟩:=Zs<|Zr q;rw[g]at b;cases b;rw[a]at d;cases d;rw[yS]at e;exact uY DV e
 .rw[beq_iff_eq]at q;subst q;rw[Ŭ]at g;cases g;exact aki a
end Go.Proofs.Y.fA
