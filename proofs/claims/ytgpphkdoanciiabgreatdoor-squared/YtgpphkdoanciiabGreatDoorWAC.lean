import Derived.Test.YtgpphkdoanciiabGreatDoorWAB
import Derived.Conc.AppendWalk
import Derived.Conc.TokenWalk
set_option linter.all false
set_option maxRecDepth 1000000
set_option maxHeartbeats 8000000
open Go.Value renaming pointer->À,slice->Æ,int->Ê,oneCell'->Ø,string->à,chan->è,tuple->ñ,func->Ĉ,agg->Đ,bool->ŝ,cells->Ŵ
open Option renaming none->Á,some->Â,isSome_iff_exists->Ô,map_eq_some_iff->ġ,isSome_none->ı,getD_some->Ń
open Or renaming inl->Ã,inr->Ç
open Go.Proofs.Tryz renaming prog->Ä,t148->Ą,f29->Ĝ,t9->Ġ,func30->Ħ,type148->Ļ,underlying92->ļ,underlying76->Ľ,underlying54->ľ,f35->Ŗ,func151->Ŭ,func47->Ů,func31->ů,func32->Ű,func33->ű,func34->Ų,func29->ų,func35->ŵ,f151->Ε,f32->Θ,f47->Ι,t92->Λ,f30->Μ
open Go renaming undef->Å,Value->Ï,Goroutine->Ý,World->ß,events_store->á,Addr->â,Oper->å,getD_set_ne->ç,Frame->é,execOp->ĉ,Program->ė,Code->Ę,Operand->Ĥ,deafBehind->į,FuncId->Ķ,Act->ŏ,maxLen->œ,size_madeCells->ř,callFunc->Ś,yielded->ţ,TypeId->ŭ,runNT->Ŷ,Item->ŷ,Obj->Ÿ,Trace->ż,TypeInfo->Ž,Event->ž,resolve->ſ,Loc->Ν
open Nat renaming lt_of_lt_of_le->È,le_trans->Õ,le_refl->Ú,add_sub_cancel->ø,zero_le->ă,zero_add->č,mod_lt->Ĵ,lt_succ_of_lt->ĸ,le_of_lt->Ł,reduceAdd->ś,sub_zero->ũ,sub_self->Ū
open Go.Obj renaming cells->É,chan->ŕ
open Go.Conc.Goes renaming stop->Ë
open Bool renaming false->Ì,true->Ò,or_eq_true_iff->ī,false_eq_true->ĵ
open Go.Ground renaming phase->Í,data->Ü,textOnly->Þ,gcOnly->õ,chain->Ţ
open Go.IntKind renaming i64->Î,u64->ê,u32->Ď,wrap_i64->Γ
open Go.Departure renaming lateStores->Ð
open Go.Item renaming inRegion->Ñ,inBlock->ô,code->ö,inLoop->ą
open Option.some renaming inj->Ó
open Go.World renaming cell?->Ö,frozen?->î,setCell->þ,alloc->ň
open Go.Operand renaming tmp->Ù,func->ķ,const->Ũ
open Go.Region renaming ready->Û,Mode->ý,wanted->Ė
open List renaming range->ã,range_succ->ÿ,mem_filter->Ā,filter_append->ā,flatMap_cons->Ć,mem_range->Ē,setIfInBounds_toArray->ē,getElem?_eq_some_iff->Ĕ,length_filter_le->ģ,mem_of_getElem?->ħ,getElem?_of_mem->Ĩ,set_cons_succ->Ĳ,set_cons_zero->ĳ,size_toArray->ĺ,length_cons->ń,nodup_range->ņ,all_eq_true->Ň,length_nil->ŋ
open Go.Code renaming region->ä,block->İ,cond->Ť,skip->ť,exit->Ŧ,ret->Ρ
open Array renaming getElem?_eq_some_iff->æ,getElem?_eq_getElem->ì,getElem?_modify->í,getD_eq_getD_getElem?->ď,all_toList->ĝ
open Go.Region.linearise renaming go->ë
open Go.MemAct renaming ofEvent->ï
open Go.Op renaming fieldAddr->ð,load->ć,move->ę,call->Ě,nilCheck->ĩ,operands->ŉ,extract->Ő,indexAddr->ő,makeFunc->Ş,store->š,assign->ŧ,binOp->Κ
open Go.Extern.Bytes renaming loadBytes->ò,bytesOf->ú,asByte->ü
open Go.Extern.BytealgIndexByte renaming indexByte->ó
open Go.Fn renaming func->ù
open Go.Loc renaming cell->û
open Go.Frame renaming enter->Ă,finish_at->Ģ
open Go.Instr renaming build->Ċ,makeSlice->Ŏ
open Go.GoStatus renaming running->ċ,finished->ş
open Go.Conc renaming mem_ofEvents->Č,mem_listed->đ,seen_none->Ī,crowd->Ĭ,stepG_region->Ĺ,events_call_body->ł,deafBehind_still->Ņ,listed->ŗ,handedOver_app->Ř,stepG_seq->Ŝ,stepG_comm->Ż
open Go.Callee renaming value->ĕ,builtin->Ŕ
open Go.Deferred renaming ofValue->ě
open Go.CallKind renaming normal->Ğ,early->Ź
open Go.Addr renaming add_lit->ğ
open Go.Act renaming eval->ĥ,put->Ο
open Eq renaming trans->Ŀ
variable{i n j b k m J j9 j7 j6:Nat}{w u W jX:ß}{v x z jQ:Ï}{g:Ý}{a p:â}{h c:Int}{e t T:ŭ}{d q:Array Ï}{P:ė}{y:ŏ}{B:ByteArray}{X:Nat->Prop}{O:Option â}{l:List Ï}{yQ:Bool}{K H:ŏ->ß->Prop}{o:å}{D:Nat->Nat}{E:Array Ý}{L:List ŷ}{jJ:List Nat}{qX:List é}{qQ:Ĥ}{qJ:ż}{zX:Ν->Prop}{zQ:List Int}{zJ:Ž}{xX:Ĥ->Ï}{xQ:Go.Tape}{xJ:Nat×Nat}{wX:Ę}{wQ:Go.MemOp}{wJ:Array Bool}{vX:List ByteArray}{vQ:Ï->ß->Prop}{vJ:Go.Exit->ŏ->ß->Prop}{yX:ý}{Q:Array å}{f:é}{V:Array ž}{F:Ķ}{s:Go.Func}
namespace Go.Proofs.Y.fy
open Go Go.Conc Go.Proofs.Y.Lift Go.RowKit Go.Conc.Lib Go.ConcR.Gen
open Go.Proofs Go.Proofs.YtgpphkdoanciiabGreatDoor
def GN:å:=⟨Â 13,ð 148 (Ù 5) 3,0, "work.go:57",#[],Á⟩
def DU:å:=⟨Â 14,ć 77<|Ù 13,77, "work.go:57",#[⟨0,Ü⟩],Á⟩
def GO:å:=⟨Â 15,ę<|Ù 1,54, "work.go:57",#[{on:=18,ground:=õ Ð}],Á⟩
def GQ:å:=⟨Â 16,ð 148 (Ù 5) 1,0, "work.go:57",#[{on:=18,ground:=õ Ð}],Á⟩
def DW:å:=⟨Â 17,ć 3<|Ù 16,3, "work.go:57",#[⟨3,Ü⟩,{on:=18,ground:=õ Ð}],Á⟩
def GR:å:=⟨Â 18,ð 148 (Ù 5) 2,0, "work.go:57",#[],Á⟩
def DX:å:=⟨Â 19,ć 77<|Ù 18,77, "work.go:57",#[⟨5,Ü⟩],Á⟩
def DY:å:=⟨Â 20,ĩ<|Ù 19,0, "work.go:57",#[⟨6,Ü⟩],Á⟩
def DZ:å:=⟨Â 21,ð 96 (Ù 20) 1,0, "work.go:57",#[⟨7,Ü⟩],Á⟩
def D1:å:=⟨Â 22,ć 56<|Ù 21,56, "work.go:57",#[⟨8,Ü⟩],Á⟩
def GU:å:=⟨Â 23,ð 148 (Ù 5) 0,0, "work.go:57",#[],Á⟩
def D2:å:=⟨Â 24,ć 140<|Ù 23,140, "work.go:57",#[⟨10,Ü⟩],Á⟩
def Bj:å:=⟨Â 25,Ě {callee:=ĕ<|ķ 50,args:=#[Ù 22,Ù 24],argTypes:=#[56,140]},156, "work.go:57",#[⟨9,Ü⟩,⟨11,Ü⟩],Á⟩
def vD:å:=⟨Â 12,ę<|Ù 25,156, "work.go:57",#[⟨12,Ü⟩],Á⟩
def Bl:å:=⟨Â 26,Ő (Ù 12) 0,56, "work.go:57",#[⟨13,Ü⟩],Á⟩
def Bm:å:=⟨Â 27,Ő (Ù 12) 1,9, "work.go:57",#[⟨13,Ü⟩,{on:=18,ground:=õ Ð}],Á⟩
def D3:å:=⟨Â 28,ĩ<|Ù 14,0, "work.go:57",#[⟨1,Ü⟩,⟨0,Í⟩,⟨1,Í⟩,{on:=2,ground:=Þ Ð},{on:=3,ground:=Þ Ð},{on:=4,ground:=Þ Ð},⟨5,Í⟩,⟨6,Í⟩,⟨7,Í⟩,⟨8,Í⟩,⟨9,Í⟩,⟨10,Í⟩,⟨11,Í⟩,⟨12,Í⟩,⟨13,Í⟩,⟨14,Í⟩,{on:=15,ground:=Þ Ð}],Á⟩
def D4:å:=⟨Â 29,ð 96 (Ù 28) 1,0, "work.go:57",#[⟨16,Ü⟩,⟨0,Í⟩,⟨1,Í⟩,{on:=2,ground:=Þ Ð},{on:=3,ground:=Þ Ð},{on:=4,ground:=Þ Ð},⟨5,Í⟩,⟨6,Í⟩,⟨7,Í⟩,⟨8,Í⟩,⟨9,Í⟩,⟨10,Í⟩,⟨11,Í⟩,⟨12,Í⟩,⟨13,Í⟩,⟨14,Í⟩,{on:=15,ground:=Þ Ð}],Á⟩
def Bn:å:=⟨Á,š 56 (Ù 29)<|Ù 26,0, "work.go:57",#[⟨17,Ü⟩,⟨14,Ü⟩,⟨12,Ţ⟩,⟨0,Í⟩,⟨1,Í⟩,{on:=2,ground:=Þ Ð},{on:=3,ground:=Þ Ð},{on:=4,ground:=Þ Ð},⟨5,Í⟩,⟨6,Í⟩,⟨7,Í⟩,⟨8,Í⟩,⟨9,Í⟩,⟨10,Í⟩,⟨11,Í⟩,⟨12,Í⟩,⟨13,Í⟩,⟨14,Í⟩,{on:=15,ground:=Þ Ð}],Á⟩
def Bo:å:=⟨Â 30,ő 54 (Ù 15)<|Ù 17,0, "work.go:57",#[⟨2,Ü⟩,⟨4,Ü⟩,⟨0,Í⟩,⟨1,Í⟩,⟨2,Í⟩,⟨3,Í⟩,⟨4,Í⟩,⟨5,Í⟩,⟨6,Í⟩,⟨7,Í⟩,⟨8,Í⟩,⟨9,Í⟩,⟨10,Í⟩,⟨11,Í⟩,⟨12,Í⟩,⟨13,Í⟩,⟨14,Í⟩,⟨15,Í⟩,⟨16,Í⟩,⟨17,Í⟩,⟨18,Í⟩],Á⟩
def Bp:å:=⟨Á,š 9 (Ù 30)<|Ù 27,0, "work.go:57",#[⟨19,Ü⟩,⟨15,Ü⟩,⟨18,Ţ⟩,⟨0,Í⟩,⟨1,Í⟩,⟨2,Í⟩,⟨3,Í⟩,⟨4,Í⟩,⟨5,Í⟩,⟨6,Í⟩,⟨7,Í⟩,⟨8,Í⟩,⟨9,Í⟩,⟨10,Í⟩,⟨11,Í⟩,⟨12,Í⟩,⟨13,Í⟩,⟨14,Í⟩,⟨15,Í⟩,⟨16,Í⟩,⟨17,Í⟩,⟨18,Í⟩],Á⟩
def zd:Array å:=#[GN,DU,GO,GQ,DW,GR,DX,DY,DZ,D1,GU,D2,Bj,vD,Bl,Bm,D3,D4,Bn,Bo,Bp]
def mX(tb a b c N d:Nat)(e f:Ï)(x:(Option Addr×Nat×Nat)×ByteArray):Nat->Ï
 |0=>À<|Â ⟨tb,3,Á⟩
 |1=>À<|Â ⟨b,0,Á⟩
 |2=>Æ (Â ⟨c,0,Á⟩) N N
 |3=>À<|Â ⟨tb,1,Á⟩
 |4=>Ê Î d
 |5=>À<|Â ⟨tb,2,Á⟩
 |6=>À<|Â ⟨a,0,Á⟩
 |7=>À<|Â ⟨a,0,Á⟩
 |8=>À<|Â ⟨a,2,Á⟩
 |9=>f
 |10=>À<|Â ⟨tb,0,Á⟩
 |11=>e
 |12=>ñ #[Æ x.1.1 x.1.2.1 x.1.2.2,à x.2]
 |13=>ñ #[Æ x.1.1 x.1.2.1 x.1.2.2,à x.2]
 |14=>Æ x.1.1 x.1.2.1 x.1.2.2
 |15=>à x.2
 |16=>À<|Â ⟨b,0,Á⟩
 |17=>À<|Â ⟨b,2,Á⟩
 |19=>À<|Â ⟨c,d,Á⟩
 |_=>Å
structure D5(jh:ff)(ga gb an pl:Nat)(s6:Ï)(Q:Ï->ByteArray->ff->Prop)(listed:Array Bool)(x:(Option Addr×Nat×Nat)×ByteArray)(l:ff):Prop where
 r:iG (λa=>a=⟨gb,2,Á⟩\/a=⟨an,pl,Á⟩) jh l
 vE:listed.getD 12 Ì=Ò->∃y,Q (Æ x.1.1 x.1.2.1 x.1.2.2) x.2 y/\(∀b,y.M b->l.M b/\l.w.heap[b]?=y.w.heap[b]?)
 I:listed.getD 18 Ì=Ò->l.w.cell? ⟨gb,2,Á⟩=Â (Æ x.1.1 x.1.2.1 x.1.2.2)
 N:listed.getD 20 Ì=Ò->l.w.cell? ⟨an,pl,Á⟩=Â (à x.2)
def D5.C{d l:ff}{Q:Ï->ByteArray->ff->Prop}{listed:Array Bool}{x:(Option Addr×Nat×Nat)×ByteArray}(h:D5 d n j b k v Q listed x l)(o:i≠12)(p:i≠18)(s:i≠20)(e:d.r ⟨j,2,Á⟩/\d.r ⟨b,k,Á⟩)(m:ß)(r:fJ l l.w m):D5 d n j b k v Q (listed.setIfInBounds i Ò) x {l with w:=m}:=by
 have t:∀a,(a=⟨j,2,Á⟩\/a=⟨b,k,Á⟩)->d.r a:=λa u=>by rcases u with rfl|rfl;exact e.1;exact e.2
 refine⟨h.r.N t r,λq=> ?_,λq=> ?_,λq=> ?_⟩
 .rw[ç Ì o]at q;let⟨y,z,f⟩:=h.vE q;exact⟨y,z,λc g=>⟨(f c g).1,(r.I c (f c g).1).trans (f c g).2⟩⟩
 .rw[ç Ì p]at q;exact(r.N _<|by rw[h.r.C];exact Ã e.1).trans<|h.I q
 .rw[ç Ì s]at q;exact(r.N _<|by rw[h.r.C];exact Ã e.2).trans<|h.N q
section
variable{J:Jd}{jh:ff}{ga gb an pl:Nat}{s6:Ï}{Q:Ï->ByteArray->ff->Prop}
def aiK(S:gD jh)(hq:¬jh.q)(ht:d.size=37)(Bq:d[1]?=Â (Æ (Â ⟨an,0,Á⟩) i i))(Rc:d[5]?=Â (À<|Â ⟨n,0,Á⟩))(hO:jh.O n) (X:jh.w.cell? ⟨n,0,Á⟩=Â v) (Y:jh.w.cell? ⟨n,1,Á⟩=Â (Ê Î pl)) (c2:jh.w.cell? ⟨n,2,Á⟩=Â (À<|Â ⟨ga,0,Á⟩)) (c3:jh.w.cell? ⟨n,3,Á⟩=Â (À<|Â ⟨gb,0,Á⟩)) (uD:jh.N ⟨ga,2,Á⟩) (pZ:jh.w.cell? ⟨ga,2,Á⟩=Â s6) (F:jh.r ⟨gb,2,Á⟩) (H:jh.r ⟨an,pl,Á⟩) (e1:(jh.w.cell? ⟨gb,2,Á⟩).isSome=Ò) (e2:(jh.w.cell? ⟨an,pl,Á⟩).isSome=Ò) (z1:jh.w.frozen? ⟨gb,2,Á⟩=Ì) (z2:jh.w.frozen? ⟨an,pl,Á⟩=Ì) (rF:pl<i) (hN:i<1000000) (lF:(⟨gb,2,Á⟩:â)≠⟨an,pl,Á⟩) (ug:∀l,iG (λa=>a=⟨gb,2,Á⟩\/a=⟨an,pl,Á⟩) jh l->∀I lR,fl Ä Ì (λl' g'=>l'.d=l.d/\∃p g c str,g'=G (I.finish<|ñ #[Æ p g c,à str]) lR/\Q (Æ p g c) str l') (mj l)<|G (Ă Ä 50 #[s6,v] Ğ)<|I::lR) (md:ý) (listed:Array Bool) (a:ŏ) (l:ff) (k:Nat) (rest:List Nat) (hI:II zd d (mX n ga gb an i pl v s6) (D5 jh ga gb an pl s6 Q) listed a l) (D:k∈Û md zd listed): fl Ä Ì (λl' g'=>∃u,g'=G ((base 32).at u<|Ñ zd rest::L) qX/\II zd d (mX n ga gb an i pl v s6) (D5 jh ga gb an pl s6 Q) (listed.setIfInBounds k Ò) u l') l (G ((base 32).at a<|Ñ zd (k::rest)::L) qX):=by
 let⟨x,s,B⟩:=hI;have K:uC zd d.size=Ò:=by rw[ht];decide
 have V:=Q9 D;have gT:=DR D;have M:=B.r.fw;have N:¬l.q:=by rwa[B.r.q]
 have W:∀y:â,(y=⟨gb,2,Á⟩\/y=⟨an,pl,Á⟩)->jh.r y:=λy ha=>by rcases ha with rfl|rfl;exact F;exact H
 have ml:a.tmps[1]?=Â (Æ (Â ⟨an,0,Á⟩) i i):=(s.C A).trans Bq;have uE:a.tmps[5]?=Â (À<|Â ⟨n,0,Á⟩):=(s.C A).trans Rc;have I:∀j m,jh.w.cell? ⟨n,j,Á⟩=Â m->hD l ⟨n,j,Á⟩/\l.w.cell? ⟨n,j,Á⟩=Â m:=λj m h=>⟨Ã<|Ã<|B.r.O n hO,by rwa[gN<|B.r.r n<|Ã hO]⟩;have Re:¬((⟨ga,2,Á⟩:â)=⟨gb,2,Á⟩\/(⟨ga,2,Á⟩:â)=⟨an,pl,Á⟩):=λq=>by
  rcases q with q|q
  .exact S.Y _ F<|q▸uD
  .exact S.Y _ H<|q▸uD
 have GV:hD l ⟨ga,2,Á⟩/\l.w.cell? ⟨ga,2,Á⟩=Â s6:=⟨Ç (Ç<|by rwa[B.r.c]),by rwa[B.r.e _ (Ç uD) Re]⟩;have Rf:(pl:Int)<(i:Int):=Z
 have kg:zd.size=21:=A
 rw[kg]at gT;match k,gT with
 |0,_=>
  refine iq (o:=GN) K s U U D (by k_ne) M N (λt r=> ?_) (λt r e E=> ?_)<|B.C A A A ⟨F,H⟩
  .simp only[mX,GN];go_simp
  .simp[go_sem,GN,uE]at E
 |1,_=>
  have u:a.tmps[13]?=Â (À<|Â ⟨n,3,Á⟩):=s.r 0 GN 13 U (il (o:=DU) D U U) U;refine iq (o:=DU) K s U U D (by k_ne) M N (λt r=> ?_) (λt r e E=> ?_)<|B.C A A A ⟨F,H⟩
  .have J:t.cell? ⟨n,3,Á⟩=Â (À<|Â ⟨gb,0,Á⟩):=((I 3 _ c3).1.r r).trans (I 3 _ c3).2;simp only[mX,DU];go_simp
  .have J:t.cell? ⟨n,3,Á⟩=Â (À<|Â ⟨gb,0,Á⟩):=((I 3 _ c3).1.r r).trans (I 3 _ c3).2;have b:e=⟨û ⟨n,3,Á⟩,Ì,Ì⟩:=by simp[go_sem,DU,J,u]at E;exact E
   subst b;exact(I 3 _ c3).1.C
 |2,_=>
  refine iq (o:=GO) K s U U D (by k_ne) M N (λt r=> ?_) (λt r e E=> ?_)<|B.C A A A ⟨F,H⟩
  .simp only[mX,GO];go_simp
  .simp[go_sem,GO,ml]at E
 |3,_=>
  refine iq (o:=GQ) K s U U D (by k_ne) M N (λt r=> ?_) (λt r e E=> ?_)<|B.C A A A ⟨F,H⟩
  .simp only[mX,GQ];go_simp
  .simp[go_sem,GQ,uE]at E
 |4,_=>
  have u:a.tmps[16]?=Â (À<|Â ⟨n,1,Á⟩):=s.r 3 GQ 16 U (il (o:=DW) D U U) U;refine iq (o:=DW) K s U U D (by k_ne) M N (λt r=> ?_) (λt r e E=> ?_)<|B.C A A A ⟨F,H⟩
  .have J:t.cell? ⟨n,1,Á⟩=Â (Ê Î pl):=((I 1 _ Y).1.r r).trans (I 1 _ Y).2;simp only[mX,DW];go_simp
  .have J:t.cell? ⟨n,1,Á⟩=Â (Ê Î pl):=((I 1 _ Y).1.r r).trans (I 1 _ Y).2;have b:e=⟨û ⟨n,1,Á⟩,Ì,Ì⟩:=by simp[go_sem,DW,J,u]at E;exact E
   subst b;exact(I 1 _ Y).1.C
 |5,_=>
  refine iq (o:=GR) K s U U D (by k_ne) M N (λt r=> ?_) (λt r e E=> ?_)<|B.C A A A ⟨F,H⟩
  .simp only[mX,GR];go_simp
  .simp[go_sem,GR,uE]at E
 |6,_=>
  have u:a.tmps[18]?=Â (À<|Â ⟨n,2,Á⟩):=s.r 5 GR 18 U (il (o:=DX) D U U) U;refine iq (o:=DX) K s U U D (by k_ne) M N (λt r=> ?_) (λt r e E=> ?_)<|B.C A A A ⟨F,H⟩
  .have J:t.cell? ⟨n,2,Á⟩=Â (À<|Â ⟨ga,0,Á⟩):=((I 2 _ c2).1.r r).trans (I 2 _ c2).2;simp only[mX,DX];go_simp
  .have J:t.cell? ⟨n,2,Á⟩=Â (À<|Â ⟨ga,0,Á⟩):=((I 2 _ c2).1.r r).trans (I 2 _ c2).2;have b:e=⟨û ⟨n,2,Á⟩,Ì,Ì⟩:=by simp[go_sem,DX,J,u]at E;exact E
   subst b;exact(I 2 _ c2).1.C
 |7,_=>
  have u:a.tmps[19]?=Â (À<|Â ⟨ga,0,Á⟩):=s.r 6 DX 19 U (il (o:=DY) D U U) U;refine iq (o:=DY) K s U U D (by k_ne) M N (λt r=> ?_) (λt r e E=> ?_)<|B.C A A A ⟨F,H⟩
  .simp only[mX,DY];go_simp
  .simp[go_sem,DY,u]at E
 |8,_=>
  have u:a.tmps[20]?=Â (À<|Â ⟨ga,0,Á⟩):=s.r 7 DY 20 U (il (o:=DZ) D U U) U;refine iq (o:=DZ) K s U U D (by k_ne) M N (λt r=> ?_) (λt r e E=> ?_)<|B.C A A A ⟨F,H⟩
  .simp only[mX,DZ];go_simp
  .simp[go_sem,DZ,u]at E
 |9,_=>
  have u:a.tmps[21]?=Â (À<|Â ⟨ga,2,Á⟩):=s.r 8 DZ 21 U (il (o:=D1) D U U) U;refine iq (o:=D1) K s U U D (by k_ne) M N (λt r=> ?_) (λt r e E=> ?_)<|B.C A A A ⟨F,H⟩
  .have J:t.cell? ⟨ga,2,Á⟩=Â (s6):=(GV.1.r r).trans GV.2;simp only[mX,D1];go_simp
  .have J:t.cell? ⟨ga,2,Á⟩=Â (s6):=(GV.1.r r).trans GV.2;have b:e=⟨û ⟨ga,2,Á⟩,Ì,Ì⟩:=by simp[go_sem,D1,J,u]at E;exact E
   subst b;exact GV.1.C
 |10,_=>
  refine iq (o:=GU) K s U U D (by k_ne) M N (λt r=> ?_) (λt r e E=> ?_)<|B.C A A A ⟨F,H⟩
  .simp only[mX,GU];go_simp
  .simp[go_sem,GU,uE]at E
 |11,_=>
  have u:a.tmps[23]?=Â (À<|Â ⟨n,0,Á⟩):=s.r 10 GU 23 U (il (o:=D2) D U U) U;refine iq (o:=D2) K s U U D (by k_ne) M N (λt r=> ?_) (λt r e E=> ?_)<|B.C A A A ⟨F,H⟩
  .have J:t.cell? ⟨n,0,Á⟩=Â (v):=((I 0 _ X).1.r r).trans (I 0 _ X).2;simp only[mX,D2];go_simp
  .have J:t.cell? ⟨n,0,Á⟩=Â (v):=((I 0 _ X).1.r r).trans (I 0 _ X).2;have b:e=⟨û ⟨n,0,Á⟩,Ì,Ì⟩:=by simp[go_sem,D2,J,u]at E;exact E
   subst b;exact(I 0 _ X).1.C
 |12,_=>
  have GX:a.tmps[22]?=Â (s6):=s.r 9 D1 22 U (il (o:=Bj) D U U) U;have Kx:a.tmps[24]?=Â (v):=s.r 11 D2 24 U (il (o:=Bj) D U U) U;refine YP (o:=Bj) K s U U D (by k_ne) M (f:=50) (args:=#[s6,v]) (λw=>by simp only[Bj];go_simp) (λw=>ł (o:=Bj) U Tryz.func50 U U #[]) λt r=> ?_;have T:=B.r.N W r;refine((ug _ T _ _).mj<|T.G S).fQ ?_;rintro l' g' ⟨y,⟨hy0,p,g,c,str,rfl,hQ⟩,rfl,hA,YS,aiL,aiM⟩;refine⟨((p,g,c),str),U,⟨T.Ra W hA hy0,λ_=>⟨y,hQ,λb P=>⟨?_,U⟩⟩,λq=> ?_,λq=> ?_⟩,λj u=> ?_⟩
  .rcases P with q|q
   .exact Ã<|Ã q
   .rw[YS]at q;exact q.elim (λz=>Ã<|Ç z) Ç
  .rw[ç Ì A]at q;exact absurd (s.I (o:=Bn) U q U)<|xm V
  .rw[ç Ì A]at q;exact absurd (s.I (o:=Bp) U q U)<|xm V
  .match j,u with
   |12,u=>exact absurd u<|xm V
   |13,u=>exact absurd (s.I (o:=vD) U u U)<|xm V
   |14,u=>exact absurd (s.I (o:=vD) U (s.I (j:=13) (o:=Bl) U u U) U)<|xm V
   |15,u=>exact absurd (s.I (o:=vD) U (s.I (j:=13) (o:=Bm) U u U) U)<|xm V
   |0,_|1,_|2,_|3,_|4,_|5,_|6,_|7,_|8,_|9,_|10,_|11,_|16,_|17,_|18,_|19,_|20,_|g+21,_=>rfl
 |13,_=>
  have u:a.tmps[25]?=Â (ñ #[Æ x.1.1 x.1.2.1 x.1.2.2,à x.2]):=s.r 12 Bj 25 U (il (o:=vD) D U U) U;refine iq (o:=vD) K s U U D (by k_ne) M N (λt r=> ?_) (λt r e E=> ?_)<|B.C A A A ⟨F,H⟩
  .simp only[mX,vD];go_simp
  .simp[go_sem,vD,u]at E
 |14,_=>
  have u:a.tmps[12]?=Â (ñ #[Æ x.1.1 x.1.2.1 x.1.2.2,à x.2]):=s.r 13 vD 12 U (il (o:=Bl) D U U) U;refine iq (o:=Bl) K s U U D (by k_ne) M N (λt r=> ?_) (λt r e E=> ?_)<|B.C A A A ⟨F,H⟩
  .simp only[mX,Bl];go_simp
  .simp[go_sem,Bl,u]at E
 |15,_=>
  have u:a.tmps[12]?=Â (ñ #[Æ x.1.1 x.1.2.1 x.1.2.2,à x.2]):=s.r 13 vD 12 U (il (o:=Bm) D U U) U;refine iq (o:=Bm) K s U U D (by k_ne) M N (λt r=> ?_) (λt r e E=> ?_)<|B.C A A A ⟨F,H⟩
  .simp only[mX,Bm];go_simp
  .simp[go_sem,Bm,u]at E
 |16,_=>
  have u:a.tmps[14]?=Â (À<|Â ⟨gb,0,Á⟩):=s.r 1 DU 14 U (il (o:=D3) D U U) U;refine iq (o:=D3) K s U U D (by k_ne) M N (λt r=> ?_) (λt r e E=> ?_)<|B.C A A A ⟨F,H⟩
  .simp only[mX,D3];go_simp
  .simp[go_sem,D3,u]at E
 |17,_=>
  have u:a.tmps[28]?=Â (À<|Â ⟨gb,0,Á⟩):=s.r 16 D3 28 U (il (o:=D4) D U U) U;refine iq (o:=D4) K s U U D (by k_ne) M N (λt r=> ?_) (λt r e E=> ?_)<|B.C A A A ⟨F,H⟩
  .simp only[mX,D4];go_simp
  .simp[go_sem,D4,u]at E
 |18,_=>
  have h29:a.tmps[29]?=Â (À<|Â ⟨gb,2,Á⟩):=s.r 17 D4 29 U (il (o:=Bn) D U U) U;have h26:a.tmps[26]?=Â (Æ x.1.1 x.1.2.1 x.1.2.2):=s.r 14 Bl 26 U (il (o:=Bn) D U U) U;have T:(l.w.cell? ⟨gb,2,Á⟩).isSome=Ò:=B.r.g _ (Ã U) e1;have Br:l.w.frozen? ⟨gb,2,Á⟩=Ì:=(B.r.S _<|Ã F).trans z1;have lI:qg l ⟨gb,2,Á⟩:=Ç (by rwa[B.r.I]);refine Rb (o:=Bn) (y:=⟨gb,2,Á⟩) (v:=Æ x.1.1 x.1.2.1 x.1.2.2) K s U U U D (by k_ne) M N U lI T Br (λw J hz=> ?_) (λw J hz=> ?_) λt r=> ?_
  .let⟨u,hu⟩:=Ô.1 J;simp only[Bn];go_simp
  .let⟨u,hu⟩:=Ô.1 J;simp[go_sem,Bn,h29,h26,á _ _ _ _ _ _ (show Ø (Æ x.1.1 x.1.2.1 x.1.2.2)=Ò from rfl),hu,hz]
  .have hA:=B.r.qD S W (x:=⟨gb,2,Á⟩) (v:=Æ x.1.1 x.1.2.1 x.1.2.2) (Ã U) U T;refine⟨hA.N W ⟨r.r,r.I,r.N,r.Y,r.S⟩,λq=> ?_,λq=> ?_,λq=> ?_⟩
   .rw[ç Ì A]at q;let⟨y,y1,z⟩:=B.vE q;refine⟨y,y1,λb P=>⟨(z b P).1,?_⟩⟩;have Rh:b≠(⟨gb,2,Á⟩:â).block:=λe=>(B.r.G S).N ⟨gb,2,Á⟩ (by rw[B.r.C];exact Ã F)<|e▸(z b P).1;exact(r.I b (z b P).1).trans<|(lu Rh).trans (z b P).2
   .exact(r.N _ (by rw[B.r.C];first|exact Ã F|exact Ã H)).trans<|AK (Ô.1 T).choose_spec
   .rw[ç Ì A]at q;exact(r.N ⟨an,pl,Á⟩<|by rw[B.r.C];exact Ã H).trans<|(Bh U λe=>lF e.symm).trans<|B.N q
 |19,_=>
  have Ri:a.tmps[15]?=Â (Æ (Â ⟨an,0,Á⟩) i i):=s.r 2 GO 15 U (il (o:=Bo) D U U) U;have Rj:a.tmps[17]?=Â (Ê Î pl):=s.r 4 DW 17 U (il (o:=Bo) D U U) U;refine iq (o:=Bo) K s U U D (by k_ne) M N (λt r=> ?_) (λt r e E=> ?_)<|B.C A A A ⟨F,H⟩
  .simp only[mX,Bo];go_simp
  .simp[go_sem,Bo,rF,Rf,Ri,Rj]at E
 |20,_=>
  have E:a.tmps[30]?=Â (À<|Â ⟨an,pl,Á⟩):=s.r 19 Bo 30 U (il (o:=Bp) D U U) U;have h27:a.tmps[27]?=Â (à x.2):=s.r 15 Bm 27 U (il (o:=Bp) D U U) U;have T:(l.w.cell? ⟨an,pl,Á⟩).isSome=Ò:=B.r.g _ (Ç U) e2;have Br:l.w.frozen? ⟨an,pl,Á⟩=Ì:=(B.r.S _<|Ã H).trans z2;have lI:qg l ⟨an,pl,Á⟩:=Ç (by rwa[B.r.I]);refine Rb (o:=Bp) (y:=⟨an,pl,Á⟩) (v:=à x.2) K s U U U D (by k_ne) M N U lI T Br (λw J hz=> ?_) (λw J hz=> ?_) λt r=> ?_
  .let⟨u,hu⟩:=Ô.1 J;simp only[Bp];go_simp
  .let⟨u,hu⟩:=Ô.1 J;simp[go_sem,Bp,E,h27,á _ _ _ _ _ _ (show Ø (à x.2)=Ò from rfl),hu,hz]
  .have hA:=B.r.qD S W (x:=⟨an,pl,Á⟩) (v:=à x.2) (Ç U) U T;refine⟨hA.N W ⟨r.r,r.I,r.N,r.Y,r.S⟩,λq=> ?_,λq=> ?_,λq=> ?_⟩
   .rw[ç Ì A]at q;let⟨y,y1,z⟩:=B.vE q;refine⟨y,y1,λb P=>⟨(z b P).1,?_⟩⟩;have Rh:b≠(⟨an,pl,Á⟩:â).block:=λe=>(B.r.G S).N ⟨an,pl,Á⟩ (by rw[B.r.C];exact Ã H)<|e▸(z b P).1;exact(r.I b (z b P).1).trans<|(lu Rh).trans (z b P).2
   .rw[ç Ì A]at q;exact(r.N ⟨gb,2,Á⟩<|by rw[B.r.C];exact Ã F).trans<|(Bh U<|lF).trans<|B.I q
   .exact(r.N _ (by rw[B.r.C];first|exact Ã F|exact Ã H)).trans<|AK (Ô.1 T).choose_spec
 |g+21,h=>exact absurd h Z
end
section
variable{E:â->Prop}{l c g:ff}
def iG.fh(h:iG E l c)(k:iG E c g):iG E l g:=by have f:=h.C;exact⟨λj e=>k.O j<|h.O j e,λj e=>(k.h j e).elim (h.h j) λq=>Ç<|Õ h.f q,k.Y.trans h.Y,k.I.trans h.I,k.c.trans h.c,k.K.trans h.K,k.q.trans h.q,k.d.trans h.d,k.fw,Õ h.f k.f,λj e=>(k.r j<|h.M e).trans<|h.r j e,λa b i=>(k.e a (by rwa[f]) i).trans<|h.e a b i,λa b=>(k.S a<|by rwa[f]).trans<|h.S a b,λa b q=>k.b a (by rwa[h.K])<|h.b a b q,λa b q=>k.g a b<|h.g a b q⟩
end
def gP(l:ff)(w₁:ß)(o:Ÿ):ff:={l with O:=λb=>l.O b\/b=w₁.heap.size,w:=w₁.alloc o}
theorem ze{o:Ÿ}(h:j<w.heap.size):(w.alloc o).heap[j]?=w.heap[j]?:=by unfold ň;grind
theorem n7{o:Ÿ}:(w.alloc o).heap[w.heap.size]?=Â o:=by unfold ň;simp
def Ky{o:Ÿ}:(w.alloc o).heap.size=w.heap.size+1:=by unfold ň;simp
section
variable{J:Jd}{l:ff}{a:ŏ}{k:List ŷ}{cs:List é}{ob:Ÿ}{E:â->Prop}
def YT(b:∀j,l.O j->j<w.heap.size)(c:¬l.q):mE l (gP l w ob) w (w.alloc ob) #[]:= ⟨by rw[Ky];omega,λj h=>h.imp id λe=>by omega,λj h=>by rw[Ky];exact h.elim (λq=>ĸ<|b j q) λe=>by omega,U,U,U,U,λj d _ _=>ze d,λx a _ _=>gN<|ze a,λx a _=>wV<|ze a,U,U,U,λe f=>by simp at f,by simp[į,gP],U,λq=>absurd q c,U⟩
def GY(c:Q[i]?=Â o)(d:Ė o (ţ Q a.tmps)=Ò)(e:f.kind≠Ź)(g:ko l)(h:¬l.q) (j:∀w,(ĉ a.eval o).run P w=.ok (.value<|À<|Â ⟨w.heap.size,0,Á⟩) (w.alloc ob)) (m:∀w,(ĉ a.eval o).events P w #[]=#[]) (n:∀b,fJ l l.w b->fl P yQ J (gP l b ob) (G (f.at (a.put o.dst<|À<|Â ⟨b.heap.size,0,Á⟩)<|Ñ Q jJ::k) cs)):fl P yQ J l (G (f.at a<|Ñ Q (i::jJ)::k) cs):=by
 refine vC c d e λb r=> ?_;rw[j b];refine⟨_,?_,n b r⟩;have:listed P f.fn a o b=#[]:=by unfold listed;rw[m b,Ī]
 rw[this];exact YT (mI g r) h
def Kz(s:gD l)(d:∀a,E a->l.r a)(r:fJ l l.w u):iG E l (gP l u ob):=by
 have c:=r.r;refine⟨λj h=>Ã h,λj h=>h.imp id λe=>by omega,U,U,U,U,U,U,λj h=> ?_,?_,λj f=>(ze<|È (s.fw j f) c).trans<|r.I j f,λx b _=>(gN<|ze<|È (s.I x b) c).trans<|r.N x b,λx b=>(wW<|ze<|È (s.I x b) c).trans<|r.Y x b,λx b q=> ?_,λx b q=> ?_⟩
 .show j<(u.alloc ob).heap.size;rw[Ky];exact h.elim (λq=>ĸ<|È (s.fw j<|Ã q) c) λe=>by omega
 .show l.w.heap.size<=(u.alloc ob).heap.size;rw[Ky];omega
 .show((u.alloc ob).cell? x).isSome=Ò;rw[gN<|ze<|È (s.S x b).2.1 c];exact r.S x b q
 .show((u.alloc ob).cell? x).isSome=Ò;rwa[gN<|ze<|È (s.I x<|Ã<|d x b) c,r.N x<|Ã<|d x b]
def KA{w':ß}{p:Nat}(g:∀j,l.O j->j<w.heap.size)(i:¬l.q)(b:l.O p)(k:w'.heap.size=w.heap.size)(c:∀j,j≠p->w'.heap[j]?=w.heap[j]?)(d:w'.os=w.os/\w'.output=w.output/\w'.tape=w.tape)(f:∀e∈V,xl l e):mE l {l with w:=w'} w w' V:=by refine⟨Z,λ_ h=>Ã h,λj h=>by rw[k];exact g j h,U,U,U,U,λj _ a _=>c j λe=>a<|e▸b,λx _ a _=>gN (c _ λe=>a<|e▸b),λx _ a=>wV (c _ λe=>a<|e▸b),d.1,d.2.1,d.2.2,λe h=>(f e h).1,(Kt f _).symm,U,λq=>absurd q i,U⟩
end
def iV(w:ß)(p:Nat)(v0 v1 v2 v3:Ï):ß:=(((w.setCell ⟨p,0,Á⟩ v0).setCell ⟨p,1,Á⟩ v1).setCell ⟨p,2,Á⟩ v2).setCell ⟨p,3,Á⟩ v3
section
variable{p:Nat}{v0 v1 v2 v3:Ï}
def xn:(iV w p v0 v1 v2 v3).heap.size=w.heap.size:=by unfold iV;rw[j4,j4,j4,j4]
def zf(h:j≠p):(iV w p v0 v1 v2 v3).heap[j]?=w.heap[j]?:=by unfold iV;rw[lu h,lu h,lu h,lu h]
theorem Rk(b:w.cell? ⟨p,0,Á⟩=Â v)(c:w.cell? ⟨p,1,Á⟩=Â x)(d:w.cell? ⟨p,2,Á⟩=Â z)(e:w.cell? ⟨p,3,Á⟩=Â jQ): (iV w p v0 v1 v2 v3).cell? ⟨p,0,Á⟩=Â v0/\(iV w p v0 v1 v2 v3).cell? ⟨p,1,Á⟩=Â v1/\(iV w p v0 v1 v2 v3).cell? ⟨p,2,Á⟩=Â v2/\(iV w p v0 v1 v2 v3).cell? ⟨p,3,Á⟩=Â v3:=by have f:∀(w:ß) (i j:Nat) (a:Ï),i≠j->(w.setCell ⟨p,i,Á⟩ a).cell? ⟨p,j,Á⟩=w.cell? ⟨p,j,Á⟩:=λw i j a h=>yC<|Ç h;unfold iV;grind [AK]
def Rl{E:â->Prop}{l e:ff}(s:gD l)(f:∀a,E a->l.r a)(h:iG E l e){w':ß}(r:fJ e e.w u)(k:l.w.heap.size<=p)(g:w'.heap.size=u.heap.size)(i:∀j,j≠p->w'.heap[j]?=u.heap[j]?):iG E l {e with w:=w'}:=by
 have b:=h.N f r;have c:∀{j:Nat},j<l.w.heap.size->w'.heap[j]?=u.heap[j]?:=λ{j} q=>i j Z;refine⟨b.O,b.h,b.Y,b.I,b.c,b.K,b.q,b.d,λj q=> ?_,?_,λj q=>(c<|s.fw j q).trans<|b.r j q,λa q n=>(gN<|c<|s.I a q).trans<|b.e a q n,λa q=>(wW<|c<|s.I a q).trans<|b.S a q,λa q z=> ?_,λa q z=> ?_⟩
 .show j<w'.heap.size;rw[g];exact b.fw j q
 .show l.w.heap.size<=w'.heap.size;rw[g];exact b.f
 .show(w'.cell? a).isSome=Ò;rw[gN<|c (s.S a q).2.1];exact b.b a q z
 .show(w'.cell? a).isSome=Ò;rw[gN<|c<|s.I a<|Ã<|f a q];exact b.g a q z
end
def zg(t:Array Ï)(h:t.size=n):∃u:Nat->Ï,t=((ã n).map u).toArray:=by subst h;refine⟨λi=>t.getD i Å,Array.ext fq λi a _=> ?_⟩;simp_all
def Rm(t:Array Ï)(h:t.size=37):∃a b c d e f g i j k l m n o p q r s u v w x y z B C D E F G H I J K L M N:Ï,t=#[a,b,c,d,e,f,g,i,j,k,l,m,n,o,p,q,r,s,u,v,w,x,y,z,B,C,D,E,F,G,H,I,J,K,L,M,N]:=by obtain⟨_,rfl⟩:=zg t h;exact⟨_,_,_,_,_,_,_,_,_,_,_,_,_,_,_,_,_,_,_,_,_,_,_,_,_,_,_,_,_,_,_,_,_,_,_,_,_,U⟩
end Go.Proofs.Y.fy
namespace Go.Proofs.Y.fy
open Go Go.Conc Go.Proofs.Y.Lift Go.RowKit Go.Conc.Lib Go.ConcR.Gen
section
variable{Ψ:ß->Prop}{L:WgLink}{l:ff}{e:Jd}{k:List ŷ}
def Rn(Ψ:ß->Prop)(l:ff)(b:Nat)(w:ß):Prop:=SW Ψ l b w/\fJ l l.w w
def pD(a:mh Ψ l b)(h:Rn Ψ l b w)(r:fJ l w u):Rn Ψ l b u:=⟨fL h.1<|a.r r,h.2.fh r⟩
def aiN{J:Jd}(a:SW Ψ l b l.w)(c:Goes P yQ (fJ l) Go.ConcR.DC0 (λd e=>fl P yQ J {l with w:=e} d) n g l.w):fl P yQ J l g:= PF c (λ_ _ r=>r) a.1 λ_ _ _ h=>h
def aiO(H:WgLib P L)(τ:ff->ff)(Φ:ff->Prop)(c:mh Ψ l b)(z:SW Ψ l b l.w) (N:∀a,fJ l l.w a->Φ {l with w:=a}/\(τ {l with w:=a}).d=0/\∃q:ß->Prop,mh q (τ {l with w:=a}) b/\SW q (τ {l with w:=a}) b (τ {l with w:=a}).w/\ ∀j,SW q (τ {l with w:=a}) b j->fl P Ì e {τ {l with w:=a}with d:=0,w:=j} (G (f.at (y.put ((Q[i]?).bind (·.dst))<|ñ #[])<|Ñ Q jJ::k) qX)): fl P Ì (λl g=>Φ l/\yE P Ì b (fl P Ì e) (τ l) g) l (G ((base L.done).at ⟨#[À<|Â ⟨b,0,Á⟩,Å,Å,Å],[]⟩ [ö<|body_done L])<|f.at y (Ñ Q (i::jJ)::k)::qX):=by
 lib_facts;simp only[body_done,doneFn,Ń];have hF:Rn Ψ l b l.w:=⟨z,fJ.fX _ _⟩;apply aiN z (n:=40);u_reg (pD c) hF;u_op (pD c) hF;u_call H.f_add (nm_add L) addFn (pD c) hF;u_c Ŝ (pD c) hF;u_cond Ò (pD c) hF;u_c Ŝ (pD c) hF;u_c Ŝ (pD c) hF;u_reg (pD c) hF;u_op (pD c) hF;u_op (pD c) hF;u_c stepG_region_end (pD c) hF;u_cond Ò (pD c) hF;u_reg (pD c) hF;u_op (pD c) hF;u_conv H.underlying_tWgP H.room_tWg (nF.r hF.1.2.1).choose_spec (pD c) hF;refine Ë λa g=> ?_;replace hF:=pD c hF g;clear g;refine .fD λj r=> ?_;let⟨O,B,q,h,C,D⟩:=N j<|hF.2.fh<|yV r;refine⟨O,B,U,_,λ_=>stepG_markAt .releaseMerge fq U U (by k_ne) U H.f_relMerge (x_relMerge_n L) (x_relMerge_b L) (x_relMerge_x L) (x_relMerge_f L) (by simp[ĥ,fP]),?_⟩;walk_nrm;show fl P Ì (OC P Ì b<|fl P Ì e) (τ {l with w:=j}) _;clear O r;generalize τ {l with w:=j}=l2 at h C B D|-;replace hF:=C;clear C c z N;apply jI h hF (n:=10);iterate 3 w_go fL
 refine Ë λa g=> ?_;replace hF:=fL hF g;clear g;refine vB (l:={l2 with w:=a}) h hF (Ã U) U (λ_=>stepG_mark0 .disable fq U U (by k_ne) U H.f_disable (x_disable_n L) (x_disable_b L) (x_disable_x L)<|x_disable_f L) λE hF=> ?_;walk_nrm;have W:į l2.d #[j0 .disable]=1:=by rw[B];rfl
 rw[W];apply jI (l:={l2 with d:=1,w:=E}) h hF (n:=50);iterate 2 w_go fL
 u_defer fL hF
 iterate 8 w_go fL
 u_bub fL hF
 iterate 11 w_go fL
 u_call H.f_uAdd (nm_uAdd L) uAddFn fL hF
 iterate 10 w_go fL
 refine Ë λa g=> ?_;replace hF:=fL hF g;clear g;refine nZ (l:={l2 with d:=1,w:=a}) h hF λj hF=>⟨U,U,λv=>⟨_,λa p F=>(stepG_add_atomic U U (by k_ne) U H.f_addU64 (x_addU64_n L) (x_addU64_b L) (x_addU64_x L) ê (x_addU64_f L) U U p F).trans fZ,?_⟩⟩;walk_nrm;have S:ê.wrap (v+18446744069414584320)=ê.wrap (v+qK):=rfl;rw[S];clear S;obtain⟨s,I⟩:∃s,ê.wrap (v+qK)=s:=⟨_,U⟩;simp only[I];have J:0<=s:=by rw[<-I];have:ê.wrap (v+qK)=(v+qK)%18446744073709551616:=rfl;rw[this];omega
 clear I v;by_cases o:s=0\/(gd<=s/\s<1000000*gd/\s%gd<1000000)
 .rw[if_pos o];by_cases m:s=0;focus
   subst m;clear o J
  rotate_left;focus
   have X:=o.resolve_left m;clear o m J;let⟨Y,c5,c6⟩:=X;have q4:(4294967296:Int)<=s:=Y;have K:s<1000000*4294967296:=c5;have T:s%4294967296<1000000:=c6;have f1:=DC s Z K T;have t:=DF s Z K T;obtain⟨u,g1⟩:∃u,(s/4294967296+2147483648)%4294967296-2147483648=u:=⟨_,U⟩;have g2:¬u<0:=Z
   have g3:0<u:=Z
   by_cases M:s%4294967296=0;focus rw[M]at t
   rotate_left;focus
    obtain⟨x,g4⟩:∃x,s%4294967296=x:=⟨_,U⟩;rw[g4]at t M;have V:x%4294967296=x:=Z
    have g6:(x !=0)=Ò:=by simpa using M
  all_goals
   apply jI (l:={l2 with d:=1,w:=j}) h hF (n:=150);iterate 3 w_go fL
   u_leave1 H.f_uAdd fL hF
   iterate 83 w_go fL
   refine Ë λa g=> ?_;replace hF:=fL hF g;clear g;refine vB (l:={l2 with d:=1,w:=a}) h hF (Ç U) U (λw=>Kn .enable fq U H.f_enable (x_enable_n L) (x_enable_b L) (x_enable_x L) (x_enable_f L) w) λE hF=> ?_;have u:į 1 #[j0 .enable]=0:=rfl;rw[u];apply jI (l:={l2 with d:=0,w:=E}) h hF (n:=10);u_leave0 H.f_add fL hF;iterate 2 w_go fL
   u_leave0 H.f_done fL hF
   refine Ë λa g=> ?_;replace hF:=fL hF g;clear g;exact D _ hF
 .rw[if_neg o];by_cases m:0<s/\s<1000000
  .rw[if_pos m];let⟨q4,K⟩:=m;clear o J;have f1:=DC s Z Z Z;have t:=DF s Z Z Z;have g1:(s/4294967296+2147483648)%4294967296-2147483648=0:=Z
   have V:s%4294967296=s:=Z
   rw[V]at t;have g6:(s !=0)=Ò:=by simp;omega
   have X:(s==0)=Ì:=by simp;omega
   have M:(s.toNat:Int)=s:=Z
   apply jI (l:={l2 with d:=1,w:=j}) h hF (n:=150);iterate 3 w_go fL
   u_leave1 H.f_uAdd fL hF
   iterate 89 w_go fL
   u_call H.f_uLoad (nm_uLoad L) uLoadFn fL hF
   iterate 9 w_go fL
   refine Ë λa g=> ?_;replace hF:=fL hF g;clear g;refine nZ (l:={l2 with d:=1,w:=a}) h hF λj hF=>⟨U,U,λv=>⟨_,λa p=>stepG_load_atomic U U (by k_ne) U H.f_loadU64 (x_loadU64_n L) (x_loadU64_b L) (x_loadU64_x L) ê (x_loadU64_f L) U p,?_⟩⟩;show fl P Ì (if v=(s.toNat:Int)then JO P Ì b (fl P Ì e) s.toNat else λ_ _=>True) _ _;by_cases u:v=(s.toNat:Int)
   .rw[if_pos u];rw[M]at u;subst u;walk_nrm;have Y:(v !=v)=Ì:=fq
    apply jI (l:={l2 with d:=1,w:=j}) h hF (n:=150);iterate 3 w_go fL
    u_leave1 H.f_uLoad fL hF
    iterate 10 w_go fL
    u_call H.f_uStore (nm_uStore L) uStoreFn fL hF
    iterate 5 w_go fL
    refine Ë λa g=> ?_;replace hF:=fL hF g;clear g;refine nZ (l:={l2 with d:=1,w:=a}) h hF λj hF=>⟨U,U,_,λa x p F=>stepG_store_atomic U U (by k_ne) U H.f_storeU64 (x_storeU64_n L) (x_storeU64_b L) (x_storeU64_x L) (x_storeU64_f L) U U p F,?_⟩;walk_nrm;obtain⟨r,T⟩:∃r,v.toNat=r+1:=⟨v.toNat-1,Z⟩;rw[T];apply jI (l:={l2 with d:=1,w:=j}) h hF (n:=150);iterate 2 w_go fL
    u_leave0 H.f_uStore fL hF
    iterate 24 w_go fL
    refine Ë λa g=> ?_;replace hF:=fL hF g;clear g;apply aik H h D r v<;>first|exact hF|omega
   .rw[if_neg u];exact .fD λ_ _=>trivial
  .rw[if_neg m];trivial
end
end Go.Proofs.Y.fy
namespace Go.Proofs.Y.fy
open Go Go.Conc Go.Proofs.Y.Lift Go.RowKit Go.Conc.Lib Go.ConcR.Gen
open Go.Proofs Go.Proofs.YtgpphkdoanciiabGreatDoor
noncomputable def KB:Ę:=lX Θ [1,0,0]
noncomputable def zh (t:Array Ï) (a:List é):Ý:=G ((base 32).at ⟨t,[]⟩ [ö KB,ą KB,ô 0]) a
structure Bs(an N:Nat)(ib:Option â)(m c kk:Nat)(t:Array Ï):Prop where
 r:t.size=37
 t1:t[1]?=Â (Æ (Â ⟨an,0,Á⟩) N N)
 t6:t[6]?=Â (Æ ib m c)
 C:t[7]?=Â (Ê Î m)
 I:t[8]?=Â (Ê Î kk)
theorem Bt{x:Int}(a:0<=x)(b:x<1000000):Î.wrap x=x:=by rw[Γ];omega
section
variable{f:Jd}{l:ff}{t:Array Ï}{an N ib c kk:Nat}{Q:Ï->ByteArray->ff->Prop}{τ:ff->ff}{Φ:ff->Prop}
def aiP(D:gD l)(V:¬l.q)(hd:l.d=0)(W:Bs an N (Â ⟨ib,0,Á⟩) m c kk t)(hkk:kk<m)(hm:m<1000)(hN:N<1000000)(rF:j<N)(zi:l.M ib) (i0:l.w.cell? ⟨ib,kk*4,Á⟩=Â (À O)) (i1:l.w.cell? ⟨ib,kk*4+1,Á⟩=Â (Ê Î j)) (i2:l.w.cell? ⟨ib,kk*4+2,Á⟩=Â (À<|Â ⟨i,0,Á⟩)) (i3:l.w.cell? ⟨ib,kk*4+3,Á⟩=Â (À<|Â ⟨n,0,Á⟩)) (uD:l.N ⟨i,2,Á⟩) (pZ:l.w.cell? ⟨i,2,Á⟩=Â v) (o1:l.r ⟨n,2,Á⟩) (o2:l.r ⟨an,j,Á⟩) (e1:(l.w.cell? ⟨n,2,Á⟩).isSome=Ò) (e2:(l.w.cell? ⟨an,j,Á⟩).isSome=Ò) (z1:l.w.frozen? ⟨n,2,Á⟩=Ì) (z2:l.w.frozen? ⟨an,j,Á⟩=Ì) (lF:(⟨n,2,Á⟩:â)≠⟨an,j,Á⟩) (ug:∀u,iG (λa=>a=⟨n,2,Á⟩\/a=⟨an,j,Á⟩) l u->∀cl lR,fl Ä Ì (λl'' g'=>l''.d=u.d/\∃p k c str,g'=G (cl.finish<|ñ #[Æ p k c,à str]) lR/\Q (Æ p k c) str l'') (mj u)<|G (Ă Ä 50 #[v,À O] Ğ)<|cl::lR) (AF:∀u (x:(Option Addr×Nat×Nat)×ByteArray),iG (λa=>a=⟨n,2,Á⟩\/a=⟨an,j,Á⟩) l u->(∃y,Q (Æ x.1.1 x.1.2.1 x.1.2.2) x.2 y/\(∀b,y.M b->u.M b/\u.w.heap[b]?=y.w.heap[b]?))->u.w.cell? ⟨n,2,Á⟩=Â (Æ x.1.1 x.1.2.1 x.1.2.2)->u.w.cell? ⟨an,j,Á⟩=Â (à x.2)-> mh (λ_=>True) u n/\SW (λ_=>True) u n u.w/\Φ u/\(τ u).d=0/\∃E:ß->Prop,mh E (τ u) n/\SW E (τ u) n (τ u).w/\∀s X,SW E (τ u) n s->Bs an N (Â ⟨ib,0,Á⟩) m c (kk+1) X->fl Ä Ì f {τ u with d:=0,w:=s} (zh X qX)): fl Ä Ì (λl g=>Φ l/\yE Ä Ì n (fl Ä Ì f) (τ l) g) l (zh t qX):=by
 obtain⟨y0,y1,Y,y3,y4,y5,y6,y7,y8,y9,xo,zj,xp,rR,s7,qP,vF,vG,uF,uG,uH,s8,s9,td,rK,sY,rL,pA,oz,qa,qc,qd,uk,sZ,s5,rM,rN,rfl⟩:=Rm t W.r;obtain rfl:y1=Æ (Â ⟨an,0,Á⟩) N N:=by simpa using W.t1
 obtain rfl:y6=Æ (Â ⟨ib,0,Á⟩) m c:=by simpa using W.t6
 obtain rfl:y7=Ê Î m:=by simpa using W.C
 obtain rfl:y8=Ê Î kk:=by simpa using W.I
 have rS:∀y:â,(y=⟨n,2,Á⟩\/y=⟨an,j,Á⟩)->l.r y:=λy ha=>by rcases ha with rfl|rfl;exact o1;exact o2
 have auk:(kk:Int)<(m:Int):=Z
 simp only[zh];conv in KB=>whnf
 refine gl (n:=30) D.r ?_;have hF:True:=trivial;repeat w_go fC
 refine Ë λ_ _=> ?_;have B:∀g,hD l ⟨ib,g,Á⟩:=λg=>Ã zi;refine rQ (v:=Đ #[À O,Ê Î j,À<|Â ⟨i,0,Á⟩,À<|Â ⟨n,0,Á⟩]) U U (by k_ne) D.r V (λo r=> ?_) (λo r e F=> ?_) ?_
 .have J:=((B<|kk*4).r r).trans i0;have K:=((B<|kk*4+1).r r).trans i1;have L:=((B<|kk*4+2).r r).trans i2;have P:=((B<|kk*4+3).r r).trans i3;go_simp
 .have J:=((B<|kk*4).r r).trans i0;have K:=((B<|kk*4+1).r r).trans i1;have L:=((B<|kk*4+2).r r).trans i2;have P:=((B<|kk*4+3).r r).trans i3;simp[go_sem,J,K,L,P]at F;rcases F with rfl|rfl|rfl|rfl
  .exact(B _).C
  .exact(B _).C
  .exact(B _).C
  .exact(B _).C
 walk_nrm;refine GY (ob:=É #[À Á,Ê Î 0,À Á,À Á] 148) U U (by k_ne) D.r V (λw=>by go_simp) (λw=>by simp[go_sem]) λo jH=> ?_;walk_nrm;have qR:iG (λa=>a=⟨n,2,Á⟩\/a=⟨an,j,Á⟩) l (gP l o<|É #[À Á,Ê Î 0,À Á,À Á] 148):=Kz D rS jH;have ml:(gP l o<|É #[À Á,Ê Î 0,À Á,À Á] 148).w.heap[o.heap.size]?=Â (É #[À Á,Ê Î 0,À Á,À Á] 148):=n7;have tf:l.w.heap.size<=o.heap.size:=jH.r;have I:(gP l o<|É #[À Á,Ê Î 0,À Á,À Á] 148).O o.heap.size:=Ç U;generalize gP l o (É #[À Á,Ê Î 0,À Á,À Á] 148)=l₁ at qR ml I|-;generalize o.heap.size=tb at ml I tf|-;refine vC U U (by k_ne) λs oA=> ?_;have S:s.heap[tb]?=_:=(oA.I tb<|Ã I).trans ml;have J:s.cell? ⟨tb,0,Á⟩=Â (À Á):=by simp[Ö,S]
 have K:s.cell? ⟨tb,1,Á⟩=Â (Ê Î 0):=by simp[Ö,S]
 have L:s.cell? ⟨tb,2,Á⟩=Â (À Á):=by simp[Ö,S]
 have P:s.cell? ⟨tb,3,Á⟩=Â (À Á):=by simp[Ö,S]
 have hz:∀g,s.frozen? ⟨tb,g,Á⟩=Ì:=λg=>by simp[î,S]
 go_simp;refine⟨{l₁ with w:=iV s tb (À O) (Ê Î j) (À<|Â ⟨i,0,Á⟩) (À<|Â ⟨n,0,Á⟩)},KA (p:=tb) (mI qR.fw oA) (by rwa[qR.q]) I xn (λg H=>zf H) ⟨U,U,U⟩ λe F=> ?_,?_⟩
 .have h:=đ F;have e:∀g,qg l₁ ⟨tb,g,Á⟩:=λg=>Ã I;simp[go_sem,á _ _ _ _ _ _ (show Ø (À O)=Ò from rfl),á _ _ _ _ _ _ (show Ø (À<|Â ⟨i,0,Á⟩)=Ò from rfl),á _ _ _ _ _ _ (show Ø (À<|Â ⟨n,0,Á⟩)=Ò from rfl),J,K,L,P,hz]at h;rcases h with rfl|rfl|rfl|rfl
  .exact(e _).r
  .exact(e _).r
  .exact(e _).r
  .exact(e _).r
 let⟨c0,c1,c2,c3⟩:=Rk (v0:=À O) (v1:=Ê Î j) (v2:=À<|Â ⟨i,0,Á⟩) (v3:=À<|Â ⟨n,0,Á⟩) J K L P;have C:=Rl (w':=iV s tb (À O) (Ê Î j) (À<|Â ⟨i,0,Á⟩)<|À<|Â ⟨n,0,Á⟩) D rS qR oA tf xn λg H=>zf H;have Bu:({l₁ with w:=iV s tb (À O) (Ê Î j) (À<|Â ⟨i,0,Á⟩) (À<|Â ⟨n,0,Á⟩)}:ff).O tb:=I;replace c0:({l₁ with w:=iV s tb (À O) (Ê Î j) (À<|Â ⟨i,0,Á⟩) (À<|Â ⟨n,0,Á⟩)}:ff).w.cell? ⟨tb,0,Á⟩=_:=c0;replace c1:({l₁ with w:=iV s tb (À O) (Ê Î j) (À<|Â ⟨i,0,Á⟩) (À<|Â ⟨n,0,Á⟩)}:ff).w.cell? ⟨tb,1,Á⟩=_:=c1;replace c2:({l₁ with w:=iV s tb (À O) (Ê Î j) (À<|Â ⟨i,0,Á⟩) (À<|Â ⟨n,0,Á⟩)}:ff).w.cell? ⟨tb,2,Á⟩=_:=c2;replace c3:({l₁ with w:=iV s tb (À O) (Ê Î j) (À<|Â ⟨i,0,Á⟩) (À<|Â ⟨n,0,Á⟩)}:ff).w.cell? ⟨tb,3,Á⟩=_:=c3;generalize({l₁ with w:=iV s tb (À O) (Ê Î j) (À<|Â ⟨i,0,Á⟩) (À<|Â ⟨n,0,Á⟩)}:ff)=l₂ at c0 c1 c2 c3 C Bu|-;clear ml I qR S J K L P hz oA s l₁ jH o;have rT:=C.G D;have qi:¬l₂.q:=by rwa[C.q]
 have aiQ:l₂.N ⟨i,2,Á⟩:=by rwa[C.c]
 have nE:¬((⟨i,2,Á⟩:â)=⟨n,2,Á⟩\/(⟨i,2,Á⟩:â)=⟨an,j,Á⟩):=λq=>by
  rcases q with q|q
  .exact D.Y _ o1<|q▸uD
  .exact D.Y _ o2<|q▸uD
 have aiR:l₂.w.cell? ⟨i,2,Á⟩=Â v:=(C.e _ (Ç uD) nE).trans pZ;have Ro:∀y:â,(y=⟨n,2,Á⟩\/y=⟨an,j,Á⟩)->l₂.r y:=λy hy=>by rw[C.I];exact rS y hy
 refine gl (n:=5) rT.r ?_;iterate 2 w_go fC
 refine Ë λ_ _=> ?_;refine Q7 (II zd #[y0,Æ (Â ⟨an,0,Á⟩) N N,Y,y3,y4,À<|Â ⟨tb,0,Á⟩,Æ (Â ⟨ib,0,Á⟩) m c,Ê Î m,Ê Î kk,ŝ Ò,À<|Â ⟨ib,kk*4,Á⟩,Đ #[À O,Ê Î j,À<|Â ⟨i,0,Á⟩,À<|Â ⟨n,0,Á⟩],xp,rR,s7,qP,vF,vG,uF,uG,uH,s8,s9,td,rK,sY,rL,pA,oz,qa,qc,qd,uk,sZ,s5,rM,rN] (mX tb i n an N j (À O) v)<|D5 l₂ i n an j v Q) rT.r qi (λh H=> ?_) (λmd listed a l e z hI F=>aiK rT qi U U U Bu c0 c1 c2 c3 aiQ aiR (Ro _<|Ã U) (Ro _<|Ç U) (C.g _ (Ã U) e1) (C.g _ (Ç U) e2) ((C.S _<|Ã o1).trans z1) ((C.S _<|Ã o2).trans z2) rF hN lF (λu h=>ug u<|C.fh h) md listed a l e z hI F) λmd listed a z hI kg zk=> ?_
 .refine⟨((Á,0,0),ByteArray.empty),mW.G _ _ _,(iG.fX rT.r).N Ro ⟨H.r,H.I,H.N,H.Y,H.S⟩,λq=> ?_,λq=> ?_,λq=> ?_⟩<;>exact absurd q A
 let⟨x,H,T⟩:=hI;have nG:∀e∈ã 21,listed.getD e Ì=Ò:=by
  cases md
  .exact qh zk kg (ã 21) [] fZ λe F=>by cases F
  .exact λe F=>qh zk kg [0,1,5,6,7,8,9,10,11,12,13,14,16,17,18,2,3,4,15,19,20] [] fZ (λe F=>by cases F) e (by have:=Ē.1 F;revert e;decide)
  .exact qh zk kg (ã 21) [] fZ λe F=>by cases F
 have zm:=C.fh T.r;have GZ:=zm.G D;have xq:¬z.q:=by rwa[zm.q]
 let⟨F,ds⟩:=a;obtain rfl:ds=[]:=H.S;have b1:F[1]?=Â (Æ (Â ⟨an,0,Á⟩) N N):=H.C (d:=1) A;have b5:F[5]?=Â (À<|Â ⟨tb,0,Á⟩):=H.C (d:=5) A;have b6:F[6]?=Â (Æ (Â ⟨ib,0,Á⟩) m c):=H.C (d:=6) A;have b7:F[7]?=Â (Ê Î m):=H.C (d:=7) A;have b8:F[8]?=Â (Ê Î kk):=H.C (d:=8) A;obtain⟨x0,x1,x2,x3,x4,x5,x6,x7,x8,x9,YU,x11,x12,x13,x14,x15,x16,x17,x18,x19,x20,x21,x22,x23,x24,x25,x26,x27,x28,x29,x30,x31,x32,x33,x34,x35,x36,rfl⟩:=Rm F H.M;obtain rfl:x1=Æ (Â ⟨an,0,Á⟩) N N:=by simpa using b1
 obtain rfl:x5=À (Â ⟨tb,0,Á⟩):=by simpa using b5
 obtain rfl:x6=Æ (Â ⟨ib,0,Á⟩) m c:=by simpa using b6
 obtain rfl:x7=Ê Î m:=by simpa using b7
 obtain rfl:x8=Ê Î kk:=by simpa using b8
 have aiS:=T.vE<|nG 12 A;have aiT:=T.I<|nG 18 A;have aiU:=T.N<|nG 20 A;have d3:z.w.cell? ⟨tb,3,Á⟩=Â (À<|Â ⟨n,0,Á⟩):=(gN<|T.r.r tb<|Ã Bu).trans c3;have s3:hD z ⟨tb,3,Á⟩:=Ã<|Ã<|T.r.O tb Bu;clear H nG b1 b5 b6 b7 b8;refine gl (n:=9) GZ.r ?_;iterate 3 w_go fC
 refine Ë λ_ _=> ?_;refine pC (x:=⟨tb,3,Á⟩) U U (by k_ne) GZ.r xq s3 d3 (λw h=>by go_simp) (λw h=>by simp[go_sem,h]) ?_;walk_nrm;refine gl (n:=9) GZ.r ?_;iterate 2 w_go fC
 u_call qO.f_done (nm_done Lk) doneFn fC hF
 refine Ë λ_ _=> ?_;have xr:∀o,fJ z z.w o->mh (λ_=>True) {z with w:=o} n/\SW (λ_=>True) {z with w:=o} n o/\Φ {z with w:=o}/\(τ {z with w:=o}).d=0/\∃E:ß->Prop,mh E (τ {z with w:=o}) n/\SW E (τ {z with w:=o}) n (τ {z with w:=o}).w/\∀s X,SW E (τ {z with w:=o}) n s->Bs an N (Â ⟨ib,0,Á⟩) m c (kk+1) X->fl Ä Ì f {τ {z with w:=o}with d:=0,w:=s} (zh X qX):=λo r=>by
  refine AF {z with w:=o} x (zm.N rS r) ?_ ?_ ?_
  .let⟨y,y1,Y⟩:=aiS;exact⟨y,y1,λb h=>⟨(Y b h).1,(r.I b (Y b h).1).trans (Y b h).2⟩⟩
  .exact(r.N _<|Ã<|by rwa[zm.I]).trans aiT
  .exact(r.N _<|Ã<|by rwa[zm.I]).trans aiU
 let⟨k1,k2,_⟩:=xr z.w<|fJ.fX _ _;refine aiO qO τ Φ k1 k2 λo r=> ?_;let⟨_,_,f1,f4,E,f2,f3,f5⟩:=xr o r;refine⟨f1,f4,E,f2,f3,λs h=> ?_⟩;walk_nrm;refine gl (n:=30) h.1 ?_;iterate 7 w_go fC
 refine Ë λ_ _=> ?_;refine f5 s _ h ⟨U,U,U,U,?_⟩;simp;exact Bt Z Z
end
def aiV:Array å:=#[⟨Â 2,ć 76<|Ù 0,76, "work.go:24",#[],Á⟩,
 ⟨Â 3,ć 54<|Ù 1,54, "work.go:24",#[],Á⟩,
 ⟨Â 4,Ě {callee:=ĕ (ķ 32),args:=#[Ù 2,Ù 3],argTypes:=#[76,54]},0, "work.go:24",#[⟨0,Ü⟩,⟨1,Ü⟩],Á⟩]
def zn(a:Nat)(b c d e:Ï):é:=(baseD 47).at ⟨#[À<|Â ⟨a,0,Á⟩,b,c,d,e],[pB 48 #[À<|Â ⟨a,0,Á⟩] #[]]⟩ [Ñ YQ [1]]
def vH(a b c d e:Ï):é:=(base 31).at ⟨#[a,b,c,d,e],[]⟩ [Ñ aiV [2]]
section
variable{Ψ:ß->Prop}{J:Jd}{l:ff}{a e f o p:Ï}
def aiW(c:ko l)(g:¬l.q)(k:hD l ⟨j9,0,Á⟩)(r:hD l ⟨j7,0,Á⟩)(s:hD l ⟨b,0,Á⟩)(t:l.w.cell? ⟨j9,0,Á⟩=Â (Ĉ (ù 31) #[] #[À<|Â ⟨j7,0,Á⟩,À<|Â ⟨b,0,Á⟩]))(u:l.w.cell? ⟨j7,0,Á⟩=Â (Æ O m n))(y:l.w.cell? ⟨b,0,Á⟩=Â (Æ (Â ⟨j,0,Á⟩) i i)) (B:∀d a e f o v x z jQ p,Bs j i O m n 0 d->fl Ä Ì J l (zh d [vH v x z jQ p,zn j6 a e f o,n5 Ä])): fl Ä Ì J l (born Ä<|pB 47 #[À<|Â ⟨j6,0,Á⟩,À<|Â ⟨j9,0,Á⟩] #[]):=by
 apply gl (n:=30) c;have hF:=trivial;u_c (YH Ů fZ U) fC hF;walk_nrmf Ι;iterate 3 w_go fC
 u_c (YF U U (by k_ne) U U) fC hF
 walk_nrm;repeat w_go fC
 refine Ë λ_ _=> ?_;apply pC U U (by k_ne) c g k t (λw h=>by go_simp) (λw h=>by simp[go_sem,h]);walk_nrm;apply gl (n:=30) c;u_c (YG U U (by k_ne) U U ů fZ U) fC hF;walk_nrmf Tryz.f31;w_go fC;refine Ë λ_ _=> ?_;apply pC U U (by k_ne) c g r u (λw h=>by go_simp) (λw h=>by simp[go_sem,h]);walk_nrm;apply pC U U (by k_ne) c g s y (λw h=>by go_simp) (λw h=>by simp[go_sem,h]);walk_nrm;apply gl (n:=30) c;u_call Ű fZ Θ fC hF;iterate 8 w_go fC
 refine Ë λ_ _=> ?_;exact B _ _ _ _ _ _ _ _ _ _ ⟨U,U,U,U,U⟩
def aiX(b:Bs j i O m n m d)(h:l.K ⟨k,0,Á⟩/\l.K ⟨k,1,Á⟩)(r:mh Ψ l k)(c:SW Ψ l k l.w)(s:l.d=0)(t:¬l.q)(u:hD l ⟨j6,0,Á⟩)(y:l.w.cell? ⟨j6,0,Á⟩=Â (À<|Â ⟨k,0,Á⟩)): fl Ä Ì (λl g=>yE Ä Ì k (DL Ä) (kE l) g) l (zh d [vH v x z jQ p,zn j6 a e f o,n5 Ä]):=by
 obtain⟨C,D,E,F,G,H,I,g,B,J,L,M,N,P,Q,S,T,V,W,X,Y,s8,s9,td,rK,sY,rL,pA,oz,qa,qc,qd,uk,sZ,s5,rM,rN,rfl⟩:=Rm d b.r;obtain rfl:g=Ê Î m:=by simpa using b.C
 obtain rfl:B=Ê Î m:=by simpa using b.I
 have hmm:¬(m:Int)<(m:Int):=Z
 simp only[zh];conv in KB=>whnf
 apply gl (n:=40) c.1;have hF:=trivial;iterate 8 w_go fC
 u_leave0 Ű fC hF
 iterate 2 w_go fC
 u_leave0 ů fC hF
 refine Ë λ_ _=> ?_;exact YR h r c s t u y
end
def G0:å:=⟨Â 14,ę<|Ù 1,54, "work.go:65",#[],Á⟩
def G1:å:=⟨Â 15,ð 148 (Ù 4) 1,0, "work.go:65",#[],Á⟩
def D6:å:=⟨Â 16,ć 3<|Ù 15,3, "work.go:65",#[⟨1,Ü⟩],Á⟩
def G2:å:=⟨Â 17,ð 148 (Ù 4) 2,0, "work.go:65",#[],Á⟩
def D7:å:=⟨Â 18,ć 77<|Ù 17,77, "work.go:65",#[⟨3,Ü⟩],Á⟩
def D8:å:=⟨Â 19,ĩ<|Ù 18,0, "work.go:65",#[⟨4,Ü⟩],Á⟩
def D9:å:=⟨Â 20,ð 96 (Ù 19) 1,0, "work.go:65",#[⟨5,Ü⟩],Á⟩
def Ea:å:=⟨Â 21,ć 56<|Ù 20,56, "work.go:65",#[⟨6,Ü⟩],Á⟩
def G3:å:=⟨Â 22,ð 148 (Ù 4) 0,0, "work.go:65",#[],Á⟩
def Eb:å:=⟨Â 23,ć 140<|Ù 22,140, "work.go:65",#[⟨8,Ü⟩],Á⟩
def Bv:å:=⟨Â 24,Ě {callee:=ĕ<|ķ 51,args:=#[Ù 21,Ù 23],argTypes:=#[56,140]},9, "work.go:65",#[⟨7,Ü⟩,⟨9,Ü⟩],Á⟩
def Bw:å:=⟨Â 25,ő 54 (Ù 14)<|Ù 16,0, "work.go:65",#[⟨0,Ü⟩,⟨2,Ü⟩,⟨0,Í⟩,⟨1,Í⟩,⟨2,Í⟩,⟨3,Í⟩,⟨4,Í⟩,⟨5,Í⟩,⟨6,Í⟩,⟨7,Í⟩,⟨8,Í⟩,⟨9,Í⟩,⟨10,Í⟩],Á⟩
def Bx:å:=⟨Á,š 9 (Ù 25)<|Ù 24,0, "work.go:65",#[⟨11,Ü⟩,⟨10,Ü⟩,⟨10,Ţ⟩,⟨0,Í⟩,⟨1,Í⟩,⟨2,Í⟩,⟨3,Í⟩,⟨4,Í⟩,⟨5,Í⟩,⟨6,Í⟩,⟨7,Í⟩,⟨8,Í⟩,⟨9,Í⟩,⟨10,Í⟩],Á⟩
def vI:Array å:=#[G0,G1,D6,G2,D7,D8,D9,Ea,G3,Eb,Bv,Bw,Bx]
def qS(tb a b N c:Nat)(d e:Ï)(x:ByteArray):Nat->Ï
 |0=>Æ (Â ⟨b,0,Á⟩) N N
 |1=>À<|Â ⟨tb,1,Á⟩
 |2=>Ê Î c
 |3=>À<|Â ⟨tb,2,Á⟩
 |4=>À<|Â ⟨a,0,Á⟩
 |5=>À<|Â ⟨a,0,Á⟩
 |6=>À<|Â ⟨a,2,Á⟩
 |7=>e
 |8=>À<|Â ⟨tb,0,Á⟩
 |9=>d
 |10=>à x
 |11=>À<|Â ⟨b,c,Á⟩
 |_=>Å
structure Ec(jh:ff)(an pl:Nat)(Q:ByteArray->Prop)(listed:Array Bool)(x:ByteArray)(l:ff):Prop where
 r:iG (λa=>a=⟨an,pl,Á⟩) jh l
 vE:listed.getD 10 Ì=Ò->Q x
 I:listed.getD 12 Ì=Ò->l.w.cell? ⟨an,pl,Á⟩=Â (à x)
def Ec.C{b l:ff}{Q:ByteArray->Prop}{listed:Array Bool}{x:ByteArray}(h:Ec b n j Q listed x l)(e:i≠10)(f:i≠12)(c:b.r ⟨n,j,Á⟩)(d:ß)(r:fJ l l.w d):Ec b n j Q (listed.setIfInBounds i Ò) x {l with w:=d}:=by
 refine⟨h.r.N (λa q=>by rwa[q]) r,λq=> ?_,λq=> ?_⟩
 .rw[ç Ì e]at q;exact h.vE q
 .rw[ç Ì f]at q;exact(r.N _<|by rw[h.r.C];exact Ã c).trans<|h.I q
section
variable{J:Jd}{jh:ff}{an pl:Nat}{Q:ByteArray->Prop}
def aiY(W:gD jh)(hq:¬jh.q)(ht:d.size=26)(Bq:d[1]?=Â (Æ (Â ⟨an,0,Á⟩) i i))(G4:d[4]?=Â (À<|Â ⟨j,0,Á⟩))(hO:jh.O j) (J:jh.w.cell? ⟨j,0,Á⟩=Â v) (K:jh.w.cell? ⟨j,1,Á⟩=Â (Ê Î pl)) (M:jh.w.cell? ⟨j,2,Á⟩=Â (À<|Â ⟨n,0,Á⟩)) (X:jh.N ⟨n,2,Á⟩) (pZ:jh.w.cell? ⟨n,2,Á⟩=Â z) (B:jh.r ⟨an,pl,Á⟩) (e2:(jh.w.cell? ⟨an,pl,Á⟩).isSome=Ò) (z2:jh.w.frozen? ⟨an,pl,Á⟩=Ì) (rF:pl<i) (Rp:∀l,iG (λa=>a=⟨an,pl,Á⟩) jh l->∀t lR,fl Ä Ì (λP S=>P.d=l.d/\∃T,S=G (t.finish<|à T) lR/\Q T) (mj l)<|G (Ă Ä 51 #[z,v] Ğ)<|t::lR) (md:ý) (listed:Array Bool) (a:ŏ) (l:ff) (b:Nat) (rest:List Nat) (hI:II vI d (qS j n an i pl v z) (Ec jh an pl Q) listed a l) (p:b∈Û md vI listed): fl Ä Ì (λP S=>∃I,S=G ((base 34).at I<|Ñ vI rest::L) qX/\II vI d (qS j n an i pl v z) (Ec jh an pl Q) (listed.setIfInBounds b Ò) I P) l (G ((base 34).at a<|Ñ vI (b::rest)::L) qX):=by
 let⟨x,m,s⟩:=hI;have E:uC vI d.size=Ò:=by rw[ht];decide
 have YV:=Q9 p;have gT:=DR p;have F:=s.r.fw;have H:¬l.q:=by rwa[s.r.q]
 have V:∀y:â,y=⟨an,pl,Á⟩->jh.r y:=λy ha=>by rwa[ha]
 have ml:a.tmps[1]?=Â (Æ (Â ⟨an,0,Á⟩) i i):=(m.C A).trans Bq;have Y:a.tmps[4]?=Â (À<|Â ⟨j,0,Á⟩):=(m.C A).trans G4;have t:∀c g,jh.w.cell? ⟨j,c,Á⟩=Â g->hD l ⟨j,c,Á⟩/\l.w.cell? ⟨j,c,Á⟩=Â g:=λc g h=>⟨Ã<|Ã<|s.r.O j hO,by rwa[gN<|s.r.r j<|Ã hO]⟩;have Re:¬((⟨n,2,Á⟩:â)=⟨an,pl,Á⟩):=λq=>W.Y _ B<|q▸X;have N:hD l ⟨n,2,Á⟩/\l.w.cell? ⟨n,2,Á⟩=Â z:=⟨Ç (Ç<|by rwa[s.r.c]),by rwa[s.r.e _ (Ç X) Re]⟩;have Rf:(pl:Int)<(i:Int):=Z
 have kg:vI.size=13:=A
 rw[kg]at gT;match b,gT with
 |0,_=>
  refine iq (o:=G0) E m U U p (by k_ne) F H (λk r=> ?_) (λk r e u=> ?_)<|s.C A A B
  .simp only[qS,G0];go_simp
  .simp[go_sem,G0,ml]at u
 |1,_=>
  refine iq (o:=G1) E m U U p (by k_ne) F H (λk r=> ?_) (λk r e u=> ?_)<|s.C A A B
  .simp only[qS,G1];go_simp
  .simp[go_sem,G1,Y]at u
 |2,_=>
  have Ri:a.tmps[15]?=Â (À<|Â ⟨j,1,Á⟩):=m.r 1 G1 15 U (il (o:=D6) p U U) U;refine iq (o:=D6) E m U U p (by k_ne) F H (λk r=> ?_) (λk r e u=> ?_)<|s.C A A B
  .have D:k.cell? ⟨j,1,Á⟩=Â (Ê Î pl):=((t 1 _ K).1.r r).trans (t 1 _ K).2;simp only[qS,D6];go_simp
  .have D:k.cell? ⟨j,1,Á⟩=Â (Ê Î pl):=((t 1 _ K).1.r r).trans (t 1 _ K).2;have I:e=⟨û ⟨j,1,Á⟩,Ì,Ì⟩:=by simp[go_sem,D6,D,Ri]at u;exact u
   subst I;exact(t 1 _ K).1.C
 |3,_=>
  refine iq (o:=G2) E m U U p (by k_ne) F H (λk r=> ?_) (λk r e u=> ?_)<|s.C A A B
  .simp only[qS,G2];go_simp
  .simp[go_sem,G2,Y]at u
 |4,_=>
  have Rj:a.tmps[17]?=Â (À<|Â ⟨j,2,Á⟩):=m.r 3 G2 17 U (il (o:=D7) p U U) U;refine iq (o:=D7) E m U U p (by k_ne) F H (λk r=> ?_) (λk r e u=> ?_)<|s.C A A B
  .have D:k.cell? ⟨j,2,Á⟩=Â (À<|Â ⟨n,0,Á⟩):=((t 2 _ M).1.r r).trans (t 2 _ M).2;simp only[qS,D7];go_simp
  .have D:k.cell? ⟨j,2,Á⟩=Â (À<|Â ⟨n,0,Á⟩):=((t 2 _ M).1.r r).trans (t 2 _ M).2;have I:e=⟨û ⟨j,2,Á⟩,Ì,Ì⟩:=by simp[go_sem,D7,D,Rj]at u;exact u
   subst I;exact(t 2 _ M).1.C
 |5,_=>
  have Rq:a.tmps[18]?=Â (À<|Â ⟨n,0,Á⟩):=m.r 4 D7 18 U (il (o:=D8) p U U) U;refine iq (o:=D8) E m U U p (by k_ne) F H (λk r=> ?_) (λk r e u=> ?_)<|s.C A A B
  .simp only[qS,D8];go_simp
  .simp[go_sem,D8,Rq]at u
 |6,_=>
  have h19:a.tmps[19]?=Â (À<|Â ⟨n,0,Á⟩):=m.r 5 D8 19 U (il (o:=D9) p U U) U;refine iq (o:=D9) E m U U p (by k_ne) F H (λk r=> ?_) (λk r e u=> ?_)<|s.C A A B
  .simp only[qS,D9];go_simp
  .simp[go_sem,D9,h19]at u
 |7,_=>
  have KC:a.tmps[20]?=Â (À<|Â ⟨n,2,Á⟩):=m.r 6 D9 20 U (il (o:=Ea) p U U) U;refine iq (o:=Ea) E m U U p (by k_ne) F H (λk r=> ?_) (λk r e u=> ?_)<|s.C A A B
  .have D:k.cell? ⟨n,2,Á⟩=Â (z):=(N.1.r r).trans N.2;simp only[qS,Ea];go_simp
  .have D:k.cell? ⟨n,2,Á⟩=Â (z):=(N.1.r r).trans N.2;have I:e=⟨û ⟨n,2,Á⟩,Ì,Ì⟩:=by simp[go_sem,Ea,D,KC]at u;exact u
   subst I;exact N.1.C
 |8,_=>
  refine iq (o:=G3) E m U U p (by k_ne) F H (λk r=> ?_) (λk r e u=> ?_)<|s.C A A B
  .simp only[qS,G3];go_simp
  .simp[go_sem,G3,Y]at u
 |9,_=>
  have GX:a.tmps[22]?=Â (À<|Â ⟨j,0,Á⟩):=m.r 8 G3 22 U (il (o:=Eb) p U U) U;refine iq (o:=Eb) E m U U p (by k_ne) F H (λk r=> ?_) (λk r e u=> ?_)<|s.C A A B
  .have D:k.cell? ⟨j,0,Á⟩=Â (v):=((t 0 _ J).1.r r).trans (t 0 _ J).2;simp only[qS,Eb];go_simp
  .have D:k.cell? ⟨j,0,Á⟩=Â (v):=((t 0 _ J).1.r r).trans (t 0 _ J).2;have I:e=⟨û ⟨j,0,Á⟩,Ì,Ì⟩:=by simp[go_sem,Eb,D,GX]at u;exact u
   subst I;exact(t 0 _ J).1.C
 |10,_=>
  have Rr:a.tmps[21]?=Â (z):=m.r 7 Ea 21 U (il (o:=Bv) p U U) U;have h23:a.tmps[23]?=Â (v):=m.r 9 Eb 23 U (il (o:=Bv) p U U) U;refine YP (o:=Bv) E m U U p (by k_ne) F (f:=51) (args:=#[z,v]) (λw=>by simp only[Bv];go_simp) (λw=>ł (o:=Bv) U Tryz.func51 U U #[]) λk r=> ?_;have I:=s.r.N V r;refine((Rp _ I _ _).mj<|I.G W).fQ ?_;rintro P S ⟨y,⟨hy0,T,rfl,hQ⟩,rfl,hA,YS,aiL,aiM⟩;refine⟨T,U,⟨I.Ra V hA hy0,λ_=>hQ,λq=> ?_⟩,λc hj=> ?_⟩
  .rw[ç Ì A]at q;exact absurd (m.I (o:=Bx) U q U)<|xm YV
  .match c,hj with
   |10,hj=>exact absurd hj<|xm YV
   |0,_|1,_|2,_|3,_|4,_|5,_|6,_|7,_|8,_|9,_|11,_|12,_|n+13,_=>rfl
 |11,_=>
  have I:a.tmps[14]?=Â (Æ (Â ⟨an,0,Á⟩) i i):=m.r 0 G0 14 U (il (o:=Bw) p U U) U;have h16:a.tmps[16]?=Â (Ê Î pl):=m.r 2 D6 16 U (il (o:=Bw) p U U) U;refine iq (o:=Bw) E m U U p (by k_ne) F H (λk r=> ?_) (λk r e u=> ?_)<|s.C A A B
  .simp only[qS,Bw];go_simp
  .simp[go_sem,Bw,rF,Rf,I,h16]at u
 |12,_=>
  have h25:a.tmps[25]?=Â (À<|Â ⟨an,pl,Á⟩):=m.r 11 Bw 25 U (il (o:=Bx) p U U) U;have Kx:a.tmps[24]?=Â (à x):=m.r 10 Bv 24 U (il (o:=Bx) p U U) U;have I:(l.w.cell? ⟨an,pl,Á⟩).isSome=Ò:=s.r.g _ U e2;have Br:l.w.frozen? ⟨an,pl,Á⟩=Ì:=(s.r.S _<|Ã B).trans z2;have lI:qg l ⟨an,pl,Á⟩:=Ç (by rwa[s.r.I]);refine Rb (o:=Bx) (y:=⟨an,pl,Á⟩) (v:=à x) E m U U U p (by k_ne) F H U lI I Br (λw D e=> ?_) (λw D e=> ?_) λk r=> ?_
  .let⟨u,hu⟩:=Ô.1 D;simp only[Bx];go_simp
  .let⟨u,hu⟩:=Ô.1 D;simp[go_sem,Bx,h25,Kx,á _ _ _ _ _ _ (show Ø (à x)=Ò from rfl),hu,e]
  .have hA:=s.r.qD W V (x:=⟨an,pl,Á⟩) (v:=à x) U U I;refine⟨hA.N V ⟨r.r,r.I,r.N,r.Y,r.S⟩,λq=> ?_,λq=> ?_⟩
   .rw[ç Ì A]at q;exact s.vE q
   .exact(r.N _<|by rw[s.r.C];exact Ã B).trans<|AK (Ô.1 I).choose_spec
 |n+13,h=>exact absurd h Z
end
def zo:Array å:=#[⟨Â 6,.recv 158 (Ù 5) Ò,0, "work.go:63",#[],Á⟩,⟨Â 7,Ő (Ù 6) 1,4, "work.go:63",#[⟨0,Ü⟩],Á⟩]
def YW:Array å:=#[⟨Â 8,Ő (Ù 6) 0,148, "work.go:63",#[],Á⟩,⟨Â 4,.alloc 148,0, "work.go:63",#[],Á⟩,⟨Á,š 148 (Ù 4)<|Ù 8,0, "work.go:63",#[⟨1,Ü⟩,⟨0,Ü⟩,⟨0,Í⟩,⟨1,Í⟩],Á⟩]
def Rs:Array å:=#[⟨Â 9,ð 148 (Ù 4) 2,0, "work.go:64",#[],Á⟩,⟨Â 10,ć 77<|Ù 9,77, "work.go:64",#[⟨0,Ü⟩],Á⟩,⟨Â 11,ĩ<|Ù 10,0, "work.go:64",#[⟨1,Ü⟩],Á⟩,⟨Â 12,ð 96 (Ù 11) 0,0, "work.go:64",#[⟨2,Ü⟩],Á⟩,⟨Â 13,Ě {callee:=ĕ<|ķ 36,args:=#[Ù 12],argTypes:=#[88]},0, "work.go:64",#[⟨3,Ü⟩],Á⟩]
def Ed:Ę:=((Ť (Ù 7) ť<|Ŧ 0).seq<|İ 1<|(ä 2 YW Ì).seq<|(ä 3 Rs Ì).seq<|ä 4 vI Ò)
def By:Ę:=(ä 1 zo Ì).seq Ed
def aiZ:Array å:=#[⟨Â 2,ć 92<|Ù 0,92, "work.go:30",#[],Á⟩,
 ⟨Â 3,ć 54<|Ù 1,54, "work.go:30",#[],Á⟩,
 ⟨Â 4,Ě {callee:=ĕ (ķ 34),args:=#[Ù 2,Ù 3],argTypes:=#[158,54]},0, "work.go:30",#[⟨0,Ü⟩,⟨1,Ü⟩],Á⟩]
def G5(a b c d e:Ï):é:=(base 33).at ⟨#[a,b,c,d,e],[]⟩ [Ñ aiZ [2]]
def YX(t:Array Ï)(a:List é):Ý:=G ((base 34).at ⟨t,[]⟩ [ö By,ą By,ô 0]) a
def zp(t:Array Ï)(a:List é):Ý:=G ((base 34).at ⟨t,[]⟩ [Ñ zo [0,1],ö Ed,ą By,ô 0]) a
def KD(t:Array Ï)(a:List é):Ý:=G ((base 34).at ⟨t,[]⟩ [Ñ Rs [],ö<|ä 4 vI Ò,ô 1,ą By,ô 0]) a
def Rt(t:Array Ï)(a:List é):Ý:=G ((base 34).at ⟨t,[]⟩ [Ñ zo [1],ö Ed,ą By,ô 0]) a
def YY(t:Array Ï)(v:Ï)(a:List é):({zp t a with frame:=(zp t a).frame.finish v}:Ý)=Rt (t.setIfInBounds 6 v) a:=by have:(zp t a).frame.finish v=(base 34).at (Ο ⟨t,[]⟩ (Â 6) v) [Ñ zo [1],ö Ed,ą By,ô 0]:=Ģ _ _ _ _ _ _ _;rw[this];rfl
def zT:Ï:=Đ #[À Á,Ê Î 0,À Á,À Á]
structure QT(an N ch:Nat)(t:Array Ï):Prop where
 r:t.size=26
 C:t[1]?=Â (Æ (Â ⟨an,0,Á⟩) N N)
 I:t[5]?=Â (è<|Â ch)
def ai0(t:Array Ï)(h:t.size=26):∃a b c d e f g i j k l m n o p q r s u v w x y z B C:Ï,t=#[a,b,c,d,e,f,g,i,j,k,l,m,n,o,p,q,r,s,u,v,w,x,y,z,B,C]:=by obtain⟨_,rfl⟩:=zg t h;exact⟨_,_,_,_,_,_,_,_,_,_,_,_,_,_,_,_,_,_,_,_,_,_,_,_,_,_,U⟩
section
variable{Ψ:ß->Prop}{J u:Jd}{l:ff}{t:Array Ï}{ch an N:Nat}{a:Option â}{Q:ByteArray->Prop}{o p r s c f:Ï}{τ:ff->ff}
def YZ(a:ko l)(b:fl Ä Ì J l (zp t qX)):fl Ä Ì J l (YX t qX):=by apply gl (n:=5) a;have hF:=trivial;simp only[YX,By];w_go fC;u_c Ĺ fC hF;exact Ë λ_ _=>b
def ai1(a:ko l)(d:¬l.q)(e:hD l ⟨k,0,Á⟩)(g:hD l ⟨b,0,Á⟩)(i:hD l ⟨n,0,Á⟩)(j:l.w.cell? ⟨k,0,Á⟩=Â (Ĉ (ù 33) #[] #[À<|Â ⟨b,0,Á⟩,À<|Â ⟨n,0,Á⟩]))(u:l.w.cell? ⟨b,0,Á⟩=Â (è<|Â ch))(v:l.w.cell? ⟨n,0,Á⟩=Â (Æ (Â ⟨an,0,Á⟩) N N)) (y:∀t o p r s x z jQ c f,QT an N ch t->fl Ä Ì J l (zp t [G5 x z jQ c f,zn m o p r s,n5 Ä])): fl Ä Ì J l (born Ä<|pB 47 #[À<|Â ⟨m,0,Á⟩,À<|Â ⟨k,0,Á⟩] #[]):=by
 apply gl (n:=30) a;have hF:=trivial;u_c (YH Ů fZ U) fC hF;walk_nrmf Ι;iterate 3 w_go fC
 u_c (YF U U (by k_ne) U U) fC hF
 walk_nrm;repeat w_go fC
 refine Ë λ_ _=> ?_;apply pC U U (by k_ne) a d e j (λw h=>by go_simp) (λw h=>by simp[go_sem,h]);walk_nrm;apply gl (n:=30) a;u_c (YG U U (by k_ne) U U ű fZ U) fC hF;walk_nrmf Tryz.f33;w_go fC;refine Ë λ_ _=> ?_;apply pC U U (by k_ne) a d g u (λw h=>by go_simp) (λw h=>by simp[go_sem,h]);walk_nrm;apply pC U U (by k_ne) a d i v (λw h=>by go_simp) (λw h=>by simp[go_sem,h]);walk_nrm;apply gl (n:=30) a;u_call Ų fZ Tryz.f34 fC hF;iterate 6 w_go fC
 refine Ë λ_ _=> ?_;exact YZ a<|y _ _ _ _ _ _ _ _ _ _ ⟨U,U,U⟩
def ai2{Y:Ï}(G:gD l)(M:¬l.q)(P:l.d=0)(hT:QT an N ch t)(hB:60<=i)(ai3:Y=Đ #[À a,Ê Î j7,À<|Â ⟨j9,0,Á⟩,À O])(Q:l.K ⟨j9,0,Á⟩/\l.K ⟨j9,1,Á⟩)(G6:nF j9 l.w) (Ru:l.K ⟨j,0,Á⟩/\l.K ⟨j,1,Á⟩) (hsa:nF j l.w) (hs:hD l ⟨m,0,Á⟩) (hc:l.w.cell? ⟨m,0,Á⟩=Â (À<|Â ⟨j,0,Á⟩)) (ai4:∀H k t',iG fi l H->H.d=0->H.O k->H.w.cell? ⟨k,0,Á⟩=Â (À a)->H.w.cell? ⟨k,1,Á⟩=Â (Ê Î j7)->H.w.cell? ⟨k,2,Á⟩=Â (À<|Â ⟨j9,0,Á⟩)->QT an N ch t'->t'[4]?=Â (À<|Â ⟨k,0,Á⟩)->u H (KD t' [G5 x z jQ c f,zn m o p r s,n5 Ä])): wY Ä Ì ch zT (λb=>match b with
  |some v=>λl g=>v=Y->qL Ä Ì i j9 u .iZ l g
  |none=>λl g=>yE Ä Ì j (DL Ä) (kE l) g) l (zp t [G5 x z jQ c f,zn m o p r s,n5 Ä]):=by
 obtain⟨y0,y1,y2,y3,y4,y5,y6,y7,y8,y9,xo,zj,xp,rR,s7,qP,vF,vG,uF,uG,uH,s8,s9,td,rK,sY,rfl⟩:=ai0 t hT.r;obtain rfl:y1=Æ (Â ⟨an,0,Á⟩) N N:=by simpa using hT.C
 obtain rfl:y5=è (Â ch):=by simpa using hT.I
 have hF:=trivial;refine⟨U,U,λD=> ?_,λb=> ?_⟩
 .refine(Ż (cases:=#[rcase ch zT]) (blocking:=Ò) (shape:=.recv Ò) (w':=D) rfl rfl (by k_ne) ?_).trans ?_
  .simp[go_sem,zo,ĉ,rcase,zT]
  .simp[listed,go_sem,zo,ĉ,Ī];rfl
 cases b with
 |none=>
  rw[YY];simp only[Rt,Ed,zo,Option.getD_none,ı,ē,Ĳ,ĳ];apply gl (n:=30) G.r;iterate 6 w_go fC
  u_leave0 Ų fC hF
  iterate 2 w_go fC
  u_leave0 ű fC hF
  refine Ë λ_ _=> ?_;exact YR (Ψ:=λ_=>True) Ru ⟨Ã Ru.1,Ã Ru.2,λ_ _ _ _ _ _ _ _=>trivial⟩ ⟨G.r,hsa,trivial⟩ P M hs hc
 |some v=>
  by_cases hv:v=Y
  .subst hv;subst ai3;apply fl.fQ λl g h _=>h;rw[YY];simp only[Rt,Ed,zo,Ń,Option.isSome_some,ē,Ĳ,ĳ];apply gl (n:=30) G.r;iterate 7 w_go fC
   u_c Ĺ fC hF
   simp only[YW,ĺ,ń,ŋ,ś,č,ã,List.range.loop];w_go fC;refine Ë λ_ _=> ?_;have rS:∀y:â,False->l.r y:=λy ha=>ha.elim;refine GY (ob:=É #[À Á,Ê Î 0,À Á,À Á] 148) U U (by k_ne) G.r M (λw=>by go_simp) (λw=>by simp[go_sem]) λD jH=> ?_;walk_nrm;have S:iG fi l (gP l D<|É #[À Á,Ê Î 0,À Á,À Á] 148):=Kz G rS jH;have ml:(gP l D<|É #[À Á,Ê Î 0,À Á,À Á] 148).w.heap[D.heap.size]?=Â (É #[À Á,Ê Î 0,À Á,À Á] 148):=n7;have tf:=jH.r;have I:(gP l D<|É #[À Á,Ê Î 0,À Á,À Á] 148).O D.heap.size:=Ç U;generalize gP l D (É #[À Á,Ê Î 0,À Á,À Á] 148)=l₁ at S ml I|-;generalize D.heap.size=k at ml I tf|-;refine vC U U (by k_ne) λC oA=> ?_;have J:=(oA.I k<|Ã I).trans ml;have Ee:C.cell? ⟨k,0,Á⟩=Â (À Á):=by simp[Ö,J]
   have xk:C.cell? ⟨k,1,Á⟩=Â (Ê Î 0):=by simp[Ö,J]
   have qT:C.cell? ⟨k,2,Á⟩=Â (À Á):=by simp[Ö,J]
   have uI:C.cell? ⟨k,3,Á⟩=Â (À Á):=by simp[Ö,J]
   have hz:∀g,C.frozen? ⟨k,g,Á⟩=Ì:=λg=>by simp[î,J]
   go_simp;refine⟨{l₁ with w:=iV C k (À a) (Ê Î j7) (À<|Â ⟨j9,0,Á⟩) (À O)},KA (mI S.fw oA) (by rwa[S.q]) I xn (λg F=>zf F) ⟨U,U,U⟩ λe L=> ?_,?_⟩
   .have E:=đ L;have B:∀g,qg l₁ ⟨k,g,Á⟩:=λg=>Ã I;simp[go_sem,á _ _ _ _ _ _ (show Ø (À a)=Ò from rfl),á _ _ _ _ _ _ (show Ø (À<|Â ⟨j9,0,Á⟩)=Ò from rfl),á _ _ _ _ _ _ (show Ø (À O)=Ò from rfl),Ee,xk,qT,uI,hz]at E;rcases E with rfl|rfl|rfl|rfl
    .exact(B _).r
    .exact(B _).r
    .exact(B _).r
    .exact(B _).r
   obtain⟨T,V,L,c3⟩:=Rk Ee xk qT uI;have E:=Rl (w':=iV C k (À a) (Ê Î j7) (À<|Â ⟨j9,0,Á⟩)<|À O) G rS S oA tf xn λg F=>zf F;have W:({l₁ with w:=iV C k (À a) (Ê Î j7) (À<|Â ⟨j9,0,Á⟩) (À O)}:ff).O k:=I;replace T:({l₁ with w:=iV C k (À a) (Ê Î j7) (À<|Â ⟨j9,0,Á⟩) (À O)}:ff).w.cell? ⟨k,0,Á⟩=_:=T;replace V:({l₁ with w:=iV C k (À a) (Ê Î j7) (À<|Â ⟨j9,0,Á⟩) (À O)}:ff).w.cell? ⟨k,1,Á⟩=_:=V;replace L:({l₁ with w:=iV C k (À a) (Ê Î j7) (À<|Â ⟨j9,0,Á⟩) (À O)}:ff).w.cell? ⟨k,2,Á⟩=_:=L;generalize({l₁ with w:=iV C k (À a) (Ê Î j7) (À<|Â ⟨j9,0,Á⟩) (À O)}:ff)=l₂ at T V L E W|-;have X:=E.G G;have qi:¬l₂.q:=by rwa[E.q]
   apply gl (n:=9) X.r;iterate 2 w_go fC
   u_c Ĺ fC hF
   simp only[Rs,ĺ,ń,ŋ,ś,č,ã,List.range.loop];w_go fC;refine Ë λ_ _=> ?_;apply pC U U (by k_ne) X.r qi (Ã<|Ã W) L (λw h=>by go_simp) (λw h=>by simp[go_sem,h]);walk_nrm;apply gl (n:=9) X.r;iterate 2 w_go fC
   u_call qO.f_wait (nm_wait Lk) waitFn fC hF
   refine Ë λ_ _=> ?_;have k2:mh (λw=>fJ l₂ l₂.w w) l₂ j9:=⟨Ã (by rw[E.K];exact Q.1),Ã (by rw[E.K];exact Q.2),λw D h1 h2 h3 h4 h5 h=>h.fh ⟨h1,h2,h3,h4,h5⟩⟩;have s2:SW (λw=>fJ l₂ l₂.w w) l₂ j9 l₂.w:=⟨X.r,⟨E.b _ Q.1 G6.1,E.b _ Q.2 G6.2⟩,fJ.fX _ _⟩;refine YD qO hB k2 s2 (E.d.trans P) λD Y0=> ?_;walk_nrm;refine .fD λDK F=> ?_;have B:=E.N rS<|Y0.2.2.fh ⟨F.r,F.I,F.N,F.Y,F.S⟩;have hdd:=E.d.trans P;have vK:iG fi l ({l₂ with d:=0,w:=DK}:ff):=⟨B.O,B.h,B.Y,B.I,B.c,B.K,B.q,P.symm,B.fw,B.f,B.r,B.e,B.S,B.b,B.g⟩;have rr:=Y0.2.2.fh ⟨F.r,F.I,F.N,F.Y,F.S⟩;have cc:∀g,DK.cell? ⟨k,g,Á⟩=l₂.w.cell? ⟨k,g,Á⟩:=λg=>gN<|rr.I k<|Ã W;exact ai4 {l₂ with d:=0,w:=DK} k _ vK U W ((cc 0).trans T) ((cc 1).trans V) ((cc 2).trans L) ⟨U,U,U⟩ U
  .exact .fD λ_ _ e=>absurd e hv
end
section
variable{J:Jd}{l:ff}{t:Array Ï}{N:Nat}{Q:ByteArray->Prop}
def KE(f:gD l)(C:¬l.q)(g:QT i N n t)(L:t[4]?=Â (À<|Â ⟨k,0,Á⟩))(M:l.O k) (P:l.w.cell? ⟨k,0,Á⟩=Â (À O)) (S:l.w.cell? ⟨k,1,Á⟩=Â (Ê Î b)) (T:l.w.cell? ⟨k,2,Á⟩=Â (À<|Â ⟨j,0,Á⟩)) (V:l.N ⟨j,2,Á⟩) (W:l.w.cell? ⟨j,2,Á⟩=Â v) (o:l.r ⟨i,b,Á⟩) (X:(l.w.cell? ⟨i,b,Á⟩).isSome=Ò) (Y:l.w.frozen? ⟨i,b,Á⟩=Ì) (rF:b<N) (Rp:∀e,iG (λa=>a=⟨i,b,Á⟩) l e->∀D E,fl Ä Ì (λl'' g'=>l''.d=e.d/\∃F,g'=G (D.finish<|à F) E/\Q F) (mj e)<|G (Ă Ä 51 #[v,À O] Ğ)<|D::E) (hJ:∀e x H,iG (λa=>a=⟨i,b,Á⟩) l e->Q x->e.w.cell? ⟨i,b,Á⟩=Â (à x)->QT i N n H->J e (zp H qX)): fl Ä Ì J l (KD t qX):=by
 have I:∀y:â,y=⟨i,b,Á⟩->l.r y:=λy ha=>by rwa[ha]
 have hF:=trivial;apply gl (n:=3) f.r;simp only[KD];w_go fC;refine Ë λ_ _=> ?_;refine Q7 (II vI t (qS k j i N b (À O) v)<|Ec l i b Q) f.r C (λm h=> ?_) (λp s a l c m u r=>aiY f C g.r g.C L M P S T V W o X Y rF Rp p s a l c m u r) λp s a ky u z B=> ?_
 .refine⟨ByteArray.empty,mW.G _ _ _,(iG.fX f.r).N I ⟨h.r,h.I,h.N,h.Y,h.S⟩,λq=> ?_,λq=> ?_⟩<;>exact absurd q A
 let⟨x,m,h⟩:=u;have K:∀c∈ã 13,s.getD c Ì=Ò:=by
  cases p
  .exact qh B z (ã 13) [] fZ λc r=>by cases r
  .exact qh B z (ã 13) [] fZ λc r=>by cases r
  .exact qh B z (ã 13) [] fZ λc r=>by cases r
 have p:=h.r.G f;let⟨z,B⟩:=a;obtain rfl:B=[]:=m.S;apply gl (n:=9) p.r;iterate 3 w_go fC
 refine Ë λ_ _=> ?_;refine YZ p.r<|.fD λw₁ r=>(hJ {ky with w:=w₁} x z (h.r.N I r) (h.vE<|K 10 A) ((r.N _<|Ã<|by rwa[h.r.I]).trans<|h.I<|K 12 A) ⟨m.M.trans g.r,((m.C A).trans g.C),((m.C A).trans g.I)⟩)
end
structure gq(X:Nat->Prop)(l l':ff):Prop where
 O:∀j,l.O j->l'.O j
 c:∀j,l'.O j->l.O j\/l.w.heap.size<=j
 S:l'.I=l.I
 Y:l'.r=l.r
 b:l'.N=l.N
 K:l'.K=l.K
 q:l'.q=l.q
 d:l'.d=l.d
 fw:ko l'
 I:l.w.heap.size<=l'.w.heap.size
 r:∀j,l.M j->¬X j->l'.w.heap[j]?=l.w.heap[j]?
 f:∀a,l.C a->l'.w.cell? a=l.w.cell? a
 g:∀a,l.C a->l'.w.frozen? a=l.w.frozen? a
 e:∀a,l.K a->(l.w.cell? a).isSome=Ò->(l'.w.cell? a).isSome=Ò
section
variable{l l' l'':ff}
theorem gq.fX(h:ko l):gq X l l:=⟨λ_ h=>h,λ_ h=>Ã h,U,U,U,U,U,U,h,Ú _,λ_ _ _=>rfl,λ_ _=>rfl,λ_ _=>rfl,λ_ _ h=>h⟩
def gq.C(h:gq X l l'):l'.C=l.C:=by unfold ff.C;rw[h.Y,h.b]
def gq.M(h:gq X l l')(a:l.M b):l'.M b:=a.imp (h.O b)<|by rw[h.S];exact id
def gq.fh(h:gq X l l')(k:gq X l' l''):gq X l l'':=by have e:=h.C;exact⟨λj c=>k.O j<|h.O j c,λj c=>(k.c j c).elim (h.c j) λq=>Ç<|Õ h.I q,k.S.trans h.S,k.Y.trans h.Y,k.b.trans h.b,k.K.trans h.K,k.q.trans h.q,k.d.trans h.d,k.fw,Õ h.I k.I,λj c f=>(k.r j (h.M c) f).trans<|h.r j c f,λa b=>(k.f a<|by rwa[e]).trans<|h.f a b,λa b=>(k.g a<|by rwa[e]).trans<|h.g a b,λa b q=>k.e a (by rwa[h.K])<|h.e a b q⟩
def gq.G(h:gq X l l'){w₁:ß}(r:fJ l' l'.w w₁):gq X l {l' with w:=w₁}:= h.fh ⟨λ_ q=>q,λ_ q=>Ã q,U,U,U,U,U,U,mI h.fw r,r.r,λj a _=>r.I j a,r.N,r.Y,r.S⟩
def gq.fQ{a:Nat->Prop}(h:gq X l l')(c:∀j,l.M j->X j->a j):gq a l l':=⟨h.O,h.c,h.S,h.Y,h.b,h.K,h.q,h.d,h.fw,h.I,λj b e=>h.r j b λq=>e<|c j b q,h.f,h.g,h.e⟩
def gq.N(h:gq X l l')(s:gD l):gD l' where
 c b hb:=by
  rw[h.S];rcases h.c b hb with q|q
  .exact s.c b q
  .exact λz=>by have:=s.fw b<|Ç z;omega
 Y a ha:=by rw[h.b];exact s.Y a<|by rwa[<-h.Y]
 N a ha hb:=by
  rw[h.C]at ha;rcases hb with q|q
  .rcases h.c _ q with z|z
   .exact s.N a ha<|Ã z
   .have:=s.I a ha;omega
  .rw[h.S]at q;exact s.N a ha<|Ç q
 fw b hb:=by
  rcases hb with q|q
  .exact h.fw b q
  .rw[h.S]at q;exact È (s.fw b<|Ç q) h.I
 I a ha:=by rw[h.C]at ha;exact È (s.I a ha) h.I
 S a ha:=by
  rw[h.K]at ha;let⟨c,d,e⟩:=s.S a ha;refine⟨λq=> ?_,È d h.I,by rwa[h.Y]⟩;rcases q with q|q
  .rcases h.c _ q with z|z
   .exact c<|Ã z
   .omega
  .rw[h.S]at q;exact c<|Ç q
def oB{ob:Ÿ}(s:gD l){w₁:ß}(r:fJ l l.w w₁):gq X l (gP l w₁ ob):=by have h:=Kz (E:=fi) (ob:=ob) s (λ_ q=>q.elim) r;exact⟨h.O,h.h,h.Y,h.I,h.c,h.K,h.q,h.d,h.fw,h.f,λj b _=>h.r j b,λa c=>h.e a c id,h.S,h.b⟩
def KF{w':ß}{p:Nat}(s:gD l)(r:fJ l l.w u)(c:l.O p)(g:X p)(d:w'.heap.size=u.heap.size)(b:∀j,j≠p->w'.heap[j]?=u.heap[j]?):gq X l {l with w:=w'}:=by
 have f:∀a:â,l.C a->a.block≠p:=λa h e=>s.N a h<|Ã<|e▸c;refine⟨λ_ q=>q,λ_ q=>Ã q,U,U,U,U,U,U,λj q=> ?_,?_,λj q n=>(b j λe=>n<|e▸g).trans<|r.I j q,λa q=>(gN<|b _<|f a q).trans<|r.N a q,λa q=>(wW<|b _<|f a q).trans<|r.Y a q,λa q z=> ?_⟩
 .show j<w'.heap.size;rw[d];exact È (s.fw j<|Ã q) r.r
 .show l.w.heap.size<=w'.heap.size;rw[d];exact r.r
 .show(w'.cell? a).isSome=Ò;rw[gN (b a.block λe=>(s.S a q).1<|Ã<|e▸c)];exact r.S a q z
end
section
variable{J:Jd}{l:ff}{a:ŏ}{k:List ŷ}{cs:List é}{ob:Ÿ}
def qU{V:Nat->Ï}(c:Q[i]?=Â o)(d:Ė o (ţ Q a.tmps)=Ò)(e:f.kind≠Ź)(g:ko l)(h:¬l.q) (j:∀w,(ĉ a.eval o).run P w=.ok (.value<|V w.heap.size) (w.alloc ob)) (m:∀w,(ĉ a.eval o).events P w #[]=#[]) (n:∀b,fJ l l.w b->fl P yQ J (gP l b ob) (G (f.at (a.put o.dst<|V b.heap.size)<|Ñ Q jJ::k) cs)):fl P yQ J l (G (f.at a<|Ñ Q (i::jJ)::k) cs):=by
 refine vC c d e λb r=> ?_;rw[j b];refine⟨_,?_,n b r⟩;have:listed P f.fn a o b=#[]:=by unfold listed;rw[m b,Ī]
 rw[this];exact YT (mI g r) h
def G7{p off:Nat}{u:Ï}(m:Q[i]?=Â o)(n:Ė o (ţ Q a.tmps)=Ò)(s:f.kind≠Ź)(t:ko l)(x:¬l.q)(b:l.O p)(d:l.w.cell? ⟨p,off,Á⟩=Â u)(y:l.w.frozen? ⟨p,off,Á⟩=Ì)(z:o.dst=Á) (B:∀w,w.cell? ⟨p,off,Á⟩=Â u->w.frozen? ⟨p,off,Á⟩=Ì->(ĉ a.eval o).run P w=.ok .skip (w.setCell ⟨p,off,Á⟩ v)) (C:∀w,w.cell? ⟨p,off,Á⟩=Â u->w.frozen? ⟨p,off,Á⟩=Ì->(ĉ a.eval o).events P w #[]=#[⟨û ⟨p,off,Á⟩,Ò,Ì⟩]) (D:fl P yQ J {l with w:=l.w.setCell ⟨p,off,Á⟩ v} (G (f.at a<|Ñ Q jJ::k) cs)):fl P yQ J l (G (f.at a<|Ñ Q (i::jJ)::k) cs):=by
 have E:hD l ⟨p,off,Á⟩:=Ã<|Ã b;refine vC m n s λg r=> ?_;have c:=(E.r r).trans d;have j:=(wW<|r.I p<|Ã b).trans y;rw[B g c j];refine⟨_,YN U (mI t r) x (Ã b) λe h=> ?_,?_⟩
 .have:=đ h;rw[C g c j]at this;have:e=⟨û ⟨p,off,Á⟩,Ò,Ì⟩:=by simpa using this
  subst this;exact qg.r<|Ã b
 .have:(a.put o.dst Å)=a:=by rw[z];rfl
  rw[this];exact D.jw<|yV<|YM U (by rw[d];rfl) (by rw[c];rfl) r
def oC(l:ff)(w₁ a:ß):ff:={l with O:=λf=>l.O f\/(w₁.heap.size<=f/\f<a.heap.size),w:=a}
def Rv(s:gD l){w₁:ß}(r:fJ l l.w w₁){a:Option Nat}(d:w₁.grownBy u a)(c:∀k,a=Â k->l.O k/\X k):gq X l (oC l w₁ u):=by
 have i:=r.r;have m:=d.size;have b:∀j,j<l.w.heap.size->Â j≠a->u.heap[j]?=w₁.heap[j]?:=λj o g=>d.block j Z g;have f:∀x:â,l.C x->Â x.block≠a:=λx h e=>s.N x h<|Ã (c _ e.symm).1;refine⟨λ_ q=>Ã q,λj q=>q.imp id λz=>by omega,U,U,U,U,U,U,λj q=> ?_,?_,λj q n=>(b j (s.fw j q) λe=>n (c j e.symm).2).trans<|r.I j q,λx q=>(gN<|b _ (s.I x q)<|f x q).trans<|r.N x q,λx q=>(wW<|b _ (s.I x q)<|f x q).trans<|r.Y x q,λx q z=> ?_⟩
 .show j<u.heap.size;rcases q with q|q
  .have:=s.fw j<|Ã q;omega
  .exact q.2
 .show l.w.heap.size<=u.heap.size;omega
 .show(u.cell? x).isSome=Ò;rw[gN (b x.block (s.S x q).2.1 λe=>(s.S x q).1<|Ã (c _ e.symm).1)];exact r.S x q z
def pE{w₁:ß}{sz:Nat}{xs:List Ï}(h:w.ownsRow i e sz v n xs)(a:∀k,v.ownBlock=Â k->w₁.heap[k]?=w.heap[k]?):w₁.ownsRow i e sz v n xs:=by refine⟨h.1,h.2.imp id ?_⟩;rintro⟨g,b,c,rfl,d,f,j⟩;exact⟨g,b,c,U,d,(a g U).trans f,j⟩
def ai5{p:Nat}{u:Ï}(h:w.cell? ⟨p,0,Á⟩=Â u):∀j y,[u][j]?=Â y->w.cell? ⟨p,j,Á⟩=Â y
 |0,_,e=>Ó e▸h
 |_+1,_,e=>by cases e
def ai6{s a:List Ï}(h:P.underlying t=Â (.slice e))(k:P.info? e=Â zJ)(B:zJ.zero=Â z)(l:zJ.size=m)(C:a.length=m)(F:(n+1)*zJ.bytes<=140737488355328)(G:n+1<=œ) (o:w.ownsRow 0 e m v n s) (p:∀j y,a[j]?=Â y->w.cell? ((⟨b,0,Á⟩:â).add j)=Â y) (H:∀u∈a,u.oneCell'=Ò) (d:(Builtin.append_ #[t,t] T #[v,Æ (Â ⟨b,0,Á⟩) 1 i]).run P w=.ok x W):x.ownBlock=v.ownBlock\/x.ownBlock=Â w.heap.size:=by
 have q:a.length=1*zJ.size:=by rw[l,C];omega
 have L:n+1<=9223372036854775807:=by simp only[œ]at G;omega
 rcases o.2 with⟨rfl,rfl⟩|⟨g,r,D,rfl,_,I,M,N,J,O⟩
 .have f:=run_append_nil (P:=P) w t T e zJ z h k B ⟨b,0,Á⟩ 1 i a q p Z Z Z;rw[f]at d;cases d;exact Ç U
 .by_cases E:n+1<=r
  .have K:n*zJ.size+a.length<=D.size:=by
    rw[J,l,C,show n*m+m=(n+1)*m by rw[Nat.add_mul];omega];exact Nat.mul_le_mul_right _ E
   have f:=run_append_room (P:=P) w t T e zJ h k g n r D I ⟨b,0,Á⟩ 1 i a q p H E K;rw[f]at d;cases d;exact Ã U
  .have f:=run_append_grow (P:=P) w t T e zJ z h k B ⟨g,0,Á⟩ n r s (by rw[l];exact o.1) (o.cells (g:=g) U) ⟨b,0,Á⟩ 1 i a q p Z Z<|growslice_fits Z F;rw[f]at d;cases d;exact Ç U
theorem Rw{x:Ĥ}{inf:Ž}{c px sz:Nat}{xs us:List Ï}(ho:Q[i]?=Â o)(hw:Ė o (ţ Q a.tmps)=Ò)(hk:f.kind≠Ź)(sn:gD l)(hq:¬l.q) (V:o.op=Ě {callee:=Ŕ .append,args:=#[qQ,x],argTypes:=#[t,t]}) (W:a.eval qQ=v) (X:a.eval x=Æ (Â ⟨px,0,Á⟩) 1 c) (E:P.underlying t=Â (.slice e)) (F:P.info? e=Â inf) (H:inf.zero=Â z) (I:inf.size=sz) (kg:0<sz) (KG:us.length=sz) (rU:z.cells.size=sz) (K:(n+1)*inf.bytes<=140737488355328) (L:n+1<=œ) (lI:l.w.ownsRow 0 e sz v n xs) (C:∀k,v.ownBlock=Â k->l.O k) (Y1:l.O px) (hu:∀j u,us[j]?=Â u->l.w.cell? ⟨px,j,Á⟩=Â u) (d:∀u∈us,u.oneCell'=Ò) (hn:∀b B g,fJ l l.w b->g.ownsRow 0 e sz B (n+1) (xs++us)->b.grownBy g v.ownBlock->(∀k,B.ownBlock=Â k->(oC l b g).O k)->(B.ownBlock=v.ownBlock\/B.ownBlock=Â b.heap.size)->fl P yQ J (oC l b g) (G (f.at (a.put o.dst B)<|Ñ Q jJ::k) cs)): fl P yQ J l (G (f.at a<|Ñ Q (i::jJ)::k) cs):=by
 refine vC ho hw hk λb r=> ?_;have hM:∀k,l.O k->b.heap[k]?=l.w.heap[k]?:=λk q=>r.I k<|Ã q;have M:=pE lI (w₁:=b) λk q=>hM k<|C k q;have N:∀j w,us[j]?=Â w->b.cell? ((⟨px,0,Á⟩:â).add j)=Â w:=λj w h=>by rw[ğ,č];grind [gN]
 have Y:us.length=1*sz:=Z
 let⟨B,g,iK,hown',p,zk⟩:=run_append_own (P:=P) b 0 t o.type e inf z sz inf.bytes E F H I U rU kg v n xs M ⟨px,0,Á⟩ 1 c us Y N d L K<|ă _;have uJ:=ai6 E F H I KG K L M N d iK;refine uponK_append qQ x t V W X iK ⟨oC l b g,?_,hn b B g r hown' p (λk q=> ?_) uJ⟩
 .have he:∀D∈listed P f.fn a o b,xl (oC l b g) D:=λD S=>by
   have h2:=đ S;rw[events_append_op qQ x t V W X]at h2;rcases(events_append_where (P:=P) b 0 t o.type e inf z sz inf.bytes E F H I rfl v n xs M ⟨px,0,Á⟩ 1 c us Y N d L K) D h2 with⟨ad,T,y⟩|⟨m,rfl,ai7⟩
   .refine⟨Ã ⟨ad,T,Ã ?_⟩,by rw[T];simp,by rw[T];simp⟩;rcases y with⟨_,y⟩|y
    .exact Ã<|by rwa[y]
    .exact Ã<|C _ y.symm
   .have uh:m=.noRoom:=ai7;subst uh;exact⟨Ç<|Ã U,fq,fq⟩
  refine⟨p.size,λj q=>q.imp id λz=>z.1,λj q=> ?_,U,U,U,U,λj T d _=>p.block j T λe=>d<|C j e.symm,λy m d _=>gN (p.block _ m λe=>d<|C _ e.symm),λy m d=>wV (p.block _ m λe=>d<|C _ e.symm),p.os,p.output,p.tape,λD S=>(he D S).1,(Kt he _).symm,U,λq=>absurd q hq,U⟩;rcases q with q|q
  .exact È ((mI sn.r r) j q) p.size
  .exact q.2
 .have y:k<g.heap.size:=(hown'.lt k q).2;rcases uJ with m|m
  .exact Ã<|C k<|by rwa[<-m]
  .rw[m]at q;obtain rfl:=Ó q;exact Ç ⟨Ú _,y⟩
end
def Y2:Array å:=#[⟨Â 25,Ş (ù 31) #[] #[Ù 9,Ù 8],1, "work.go:24",#[],Á⟩,⟨Â 26,Ě {callee:=ĕ<|ķ 30,args:=#[Ù 12,Ù 25],argTypes:=#[88,1]},0, "work.go:24",#[⟨0,Ü⟩],Á⟩]
def Y3:Array å:=#[⟨Â 13,ŧ<|Ũ<|Æ Á 0 0,91, "work.go:25",#[],Á⟩]
def Y4:Array å:=#[⟨Â 27,ę<|Ù 2,3, "work.go:26",#[],Á⟩,⟨Â 28,ę<|Ũ<|Ê Î 0,3, "work.go:26",#[],Á⟩]
def Rx:Array å:=#[⟨Â 29,Κ .lss 3 (Ù 28) (Ù 27) 3,4, "work.go:26",#[],Á⟩]
def Y5:Array å:=#[⟨Â 30,ę<|Ù 10,76, "work.go:28",#[],Á⟩,⟨Â 31,Ě {callee:=Ŕ .len,args:=#[Ù 30],argTypes:=#[76]},3, "work.go:28",#[⟨0,Ü⟩],Á⟩,⟨Â 32,.makeChan 92<|Ù 31,92, "work.go:28",#[⟨1,Ü⟩],Á⟩,⟨Â 14,.alloc 92,0, "work.go:28",#[],Á⟩,⟨Á,š 92 (Ù 14)<|Ù 32,0, "work.go:28",#[⟨3,Ü⟩,⟨2,Ü⟩,⟨0,Í⟩,⟨1,Í⟩,⟨2,Í⟩,⟨3,Í⟩],Á⟩]
def Y6:Array å:=#[⟨Â 33,ę<|Ù 13,91, "work.go:29",#[],Á⟩,⟨Â 34,ć 92<|Ù 14,92, "work.go:29",#[],Á⟩,⟨Â 35,.buildSlice 91 1 #[(0,Ù 34)],91, "work.go:29",#[⟨1,Ü⟩],Á⟩,⟨Â 36,Ě {callee:=Ŕ .append,args:=#[Ù 33,Ù 35],argTypes:=#[91,91]},91, "work.go:29",#[⟨0,Ü⟩,⟨2,Ü⟩],Á⟩,⟨Â 13,ŧ<|Ù 36,91, "work.go:29",#[⟨3,Ü⟩,⟨3,Ţ⟩,⟨0,Í⟩,⟨1,Í⟩,⟨2,Í⟩,⟨3,Í⟩],Á⟩]
def KH:Array å:=#[⟨Â 37,Ş (ù 33) #[] #[Ù 14,Ù 8],1, "work.go:30",#[],Á⟩,⟨Â 38,Ě {callee:=ĕ<|ķ 30,args:=#[Ù 12,Ù 37],argTypes:=#[88,1]},0, "work.go:30",#[⟨0,Ü⟩],Á⟩]
def Ry:Array å:=#[⟨Â 39,Κ .add 3 (Ù 28) (Ũ<|Ê Î 1) 3,3, "work.go:26",#[],Á⟩,⟨Â 28,ę<|Ù 39,3, "work.go:26",#[⟨0,Ü⟩],Á⟩]
def KI:Array å:=#[⟨Â 40,ę<|Ù 10,76, "work.go:32",#[],Á⟩,⟨Â 41,ę<|Ù 13,91, "work.go:32",#[],Á⟩,⟨Â 42,Ě {callee:=ĕ<|ķ 35,args:=#[Ù 40,Ù 41],argTypes:=#[76,91]},0, "work.go:32",#[⟨0,Ü⟩,⟨1,Ü⟩],Á⟩]
def KJ:Array å:=#[⟨Â 43,Ě {callee:=ĕ<|ķ 36,args:=#[Ù 12],argTypes:=#[88]},0, "work.go:33",#[],Á⟩]
def G8:å:=⟨Â 44,ć 54<|Ù 8,54, "work.go:34",#[],Á⟩
def G9:å:=⟨Â 45,ę<|Ù 11,77, "work.go:34",#[{on:=5,ground:=õ Ð}],Á⟩
def Ha:å:=⟨Â 46,ĩ<|Ù 45,0, "work.go:34",#[⟨1,Ü⟩,{on:=5,ground:=õ Ð}],Á⟩
def Hb:å:=⟨Â 47,ð 96 (Ù 46) 1,0, "work.go:34",#[⟨2,Ü⟩,{on:=5,ground:=õ Ð}],Á⟩
def Hc:å:=⟨Â 48,ć 56<|Ù 47,56, "work.go:34",#[⟨3,Ü⟩,{on:=5,ground:=õ Ð}],Á⟩
def Hd:å:=⟨Â 6,ŧ<|Ù 44,54, "work.go:34",#[⟨0,Ü⟩,⟨0,Í⟩,{on:=1,ground:=Þ Ð},{on:=2,ground:=Þ Ð},{on:=3,ground:=Þ Ð},{on:=4,ground:=Þ Ð}],Á⟩
def He:å:=⟨Â 7,ŧ<|Ù 48,56, "work.go:34",#[⟨4,Ü⟩,⟨5,Ţ⟩,⟨0,Í⟩,⟨1,Í⟩,⟨2,Í⟩,⟨3,Í⟩,⟨4,Í⟩,⟨5,Í⟩],Á⟩
def xt:Array å:=#[G8,G9,Ha,Hb,Hc,Hd,He]
def KL:Ę:=(ä 14 xt Ò).seq Ρ
def KM:Ę:=(ä 12 KI Ì).seq<|(ä 13 KJ Ì).seq KL
def Ef:Ę:=(ä 7 Rx Ì).seq<|(Ť (Ù 29) ť<|Ŧ 0).seq<|(İ 1<|(ä 8 Y5 Ì).seq<|(ä 9 Y6 Ì).seq<|ä 10 KH Ì).seq<|ä 11 Ry Ì
def sA:Ę:=(ä 5 Y3 Ì).seq<|((ä 6 Y4 Ì).seq<|İ 0 Ef.loop).seq KM
def Bz(t:Array Ï)(a:List é):Ý:=G ((base 20).at ⟨t,[]⟩ [ö Ef,ą Ef,ô 0,ö KM]) a
def Eg(t:Array Ï):é:=(base 20).at ⟨t,[]⟩ [Ñ Y2 [1],ö sA]
def KN(t:Array Ï):é:=(base 20).at ⟨t,[]⟩ [Ñ KH [1],ô 1,ö<|ä 11 Ry Ì,ą Ef,ô 0,ö KM]
def Hf:Array å:=#[⟨Â 6,Ş (ù 47) #[] #[Ù 2,Ù 3],1, "waitgroup.go:238",#[],Á⟩,
 ⟨Á,.go {callee:=ĕ (Ù 6),args:=#[],argTypes:=#[]},0, "waitgroup.go:238",#[⟨0,Ü⟩],Á⟩]
def tG(c d e f:Ï)(a b:Nat):Array Ï:=#[c,d,À<|Â ⟨a,0,Á⟩,À<|Â ⟨b,0,Á⟩,e,f,Ĉ (ù 47) #[] #[À<|Â ⟨a,0,Á⟩,À<|Â ⟨b,0,Á⟩]]
def BA(a b c d:Ï)(e f:Nat)(g:List é):Ý:=G ((base 30).at ⟨tG a b c d e f,[]⟩ [Ñ Hf [1]]) g
def Hg(a b c d:Ï)(e f:Nat)(g:List é):Ý:=G ((base 30).at ⟨tG a b c d e f,[]⟩ [Ñ Hf []]) g
def Y7(c e f g:Ï)(a b:Nat)(h:List é)(w:ß):stepG Ä Ò (BA c e f g a b h) w=.spawn (Hg c e f g a b h) (born Ä<|pB 47 #[À<|Â ⟨a,0,Á⟩,À<|Â ⟨b,0,Á⟩] #[]) w #[]:=by
 refine(stepG_spawn (d:=pB 47 #[À<|Â ⟨a,0,Á⟩,À<|Â ⟨b,0,Á⟩] #[]) (w':=w) U U (by k_ne) ?_ U).trans ?_
 .simp[Hf,ĉ,ſ,ě,ĥ,tG,pB]
 .have:listed Ä (base 30).fn ⟨tG c e f g a b,[]⟩ Hf[1] w=#[]:=by
   unfold listed;simp[Hf,ĉ,ſ,ě,ĥ,tG,Ī]
  rw[this];rfl
structure ST(ba all n8 n j:Nat)(qs dv:Ï)(t:Array Ï):Prop where
 r:t.size=49
 a:t[8]?=Â (À<|Â ⟨ba,0,Á⟩)
 C:t[10]?=Â qs
 I:t[11]?=Â (À<|Â ⟨n8,0,Á⟩)
 M:t[12]?=Â (À<|Â ⟨all,0,Á⟩)
 N:t[13]?=Â dv
 S:t[27]?=Â (Ê Î n)
 Y:t[28]?=Â (Ê Î j)
structure Hh(ba all n8 n:Nat)(qs:Ï)(t:Array Ï):Prop where
 Dh:t.size=49
 t2:t[2]?=Â (Ê Î n)
 t8:t[8]?=Â (À<|Â ⟨ba,0,Á⟩)
 ai8:t[10]?=Â qs
 ai9:t[11]?=Â (À<|Â ⟨n8,0,Á⟩)
 Rz:t[12]?=Â (À<|Â ⟨all,0,Á⟩)
def Hi(t:Array Ï)(h:t.size=49):∃a b c d e f g i j k l m n o p q r s u v w x y z B C D E F G H I J K L M N O P Q S T V W X Y qe qf xj:Ï,t=#[a,b,c,d,e,f,g,i,j,k,l,m,n,o,p,q,r,s,u,v,w,x,y,z,B,C,D,E,F,G,H,I,J,K,L,M,N,O,P,Q,S,T,V,W,X,Y,qe,qf,xj]:=by obtain⟨_,rfl⟩:=zg t h;exact⟨_,_,_,_,_,_,_,_,_,_,_,_,_,_,_,_,_,_,_,_,_,_,_,_,_,_,_,_,_,_,_,_,_,_,_,_,_,_,_,_,_,_,_,_,_,_,_,_,_,U⟩
section
variable{Ψ:ß->Prop}{J a:Jd}{l:ff}{t:Array Ï}{ba all n8:Nat}{qs dv:Ï}
def aja(d:ko l)(a:Hh ba all n8 n qs t)(e:∀c,ST ba all n8 n 0 qs (Æ Á 0 0) c->fl Ä Ò J l (Bz c qX)):fl Ä Ò J l (Hg v x z jQ b i<|Eg t::qX):=by
 obtain⟨m,o,f,p,q,r,s,u,g,w,h,j,k,y,B,C,D,E,F,G,H,I,K,L,M,N,O,P,Q,S,T,V,W,X,Y,rM,rN,um,uo,uq,uu,uw,uy,uz,uA,uB,qe,qf,xj,rfl⟩:=Hi t a.Dh;obtain rfl:f=Ê Î n:=by simpa using a.t2
 obtain rfl:g=À (Â ⟨ba,0,Á⟩):=by simpa using a.t8
 obtain rfl:h=qs:=by simpa using a.ai8
 obtain rfl:j=À (Â ⟨n8,0,Á⟩):=by simpa using a.ai9
 obtain rfl:k=À (Â ⟨all,0,Á⟩):=by simpa using a.Rz
 apply gl (n:=40) d;have hF:=trivial;simp only[Hg,Eg,Y2];iterate 2 w_go fC
 u_leave0 Ħ fC hF
 simp only[sA,Y3,Y4];iterate 13 w_go fC
 refine Ë λ_ _=> ?_;exact e _ ⟨U,U,U,U,U,U,U,U⟩
theorem ajb(d:ko l)(a:ST ba all n8 n j qs dv t)(q:j<1000)(e:∀c,ST ba all n8 n (j+1) qs dv c->fl Ä Ò J l (Bz c qX)):fl Ä Ò J l (Hg v x z jQ b i<|KN t::qX):=by
 obtain⟨r,s,u,w,y,B,C,D,f,E,g,h,k,m,F,G,H,I,K,L,M,N,O,P,Q,S,T,o,p,V,W,X,Y,sZ,s5,rM,rN,um,uo,uq,uu,uw,uy,uz,uA,uB,qe,qf,xj,rfl⟩:=Hi t a.r;obtain rfl:f=À (Â ⟨ba,0,Á⟩):=by simpa using a.a
 obtain rfl:g=qs:=by simpa using a.C
 obtain rfl:h=À (Â ⟨n8,0,Á⟩):=by simpa using a.I
 obtain rfl:k=À (Â ⟨all,0,Á⟩):=by simpa using a.M
 obtain rfl:m=dv:=by simpa using a.N
 obtain rfl:o=Ê Î n:=by simpa using a.S
 obtain rfl:p=Ê Î j:=by simpa using a.Y
 apply gl (n:=40) d;have hF:=trivial;simp only[Hg,KN,KH];iterate 2 w_go fC
 u_leave0 Ħ fC hF
 simp only[Ry];iterate 7 w_go fC
 refine Ë λ_ _=> ?_;refine e _ ⟨U,U,U,U,U,U,U,?_⟩;simp;grind [Bt]
end
section
variable{l l' y:ff}
def gq.fS(h:gq X l l')(s:gD l){p off:Nat}(c:l.w.heap.size<=p):gq X l {l' with w:=l'.w.setCell ⟨p,off,Á⟩ v}:=by
 have b:∀j,j<l.w.heap.size->(l'.w.setCell ⟨p,off,Á⟩ v).heap[j]?=l'.w.heap[j]?:=λj e=>lu (by show j≠p;omega);refine⟨h.O,h.c,h.S,h.Y,h.b,h.K,h.q,h.d,λj q=> ?_,?_,λj q n=>(b j<|s.fw j q).trans<|h.r j q n,λa q=>(gN<|b _<|s.I a q).trans<|h.f a q,λa q=>sT.trans<|h.g a q,λa q z=>yD<|h.e a q z⟩
 .show j<(l'.w.setCell ⟨p,off,Á⟩ v).heap.size;rw[j4];exact h.fw j q
 .show l.w.heap.size<=(l'.w.setCell ⟨p,off,Á⟩ v).heap.size;rw[j4];exact h.I
structure ie(l:ff)(b:Nat)(o:Ÿ):Prop where
 ft:l.O b
 I:l.w.heap[b]?=Â o
def ie.r{o:Ÿ}(h:ie l b o)(k:gq X l l')(a:¬X b):ie l' b o:=⟨k.O b h.ft,(k.r b (Ã h.ft) a).trans h.I⟩
def ie.C(h:ie l b (É d e xJ))(a:d[i]?=Â v):l.w.cell? ⟨b,i,Á⟩=Â v:=by simp[Ö,h.I,a]
end
def Y8{sz:Nat}{xs:List Ï}(h:w.ownsRow i e sz v n xs)(a:w.heap.size<=b):¬(Â b=v.ownBlock):=λq=>by have:=(h.lt b q.symm).2;omega
structure Y9(ba all q:Nat)(BB:Ï)(xs:List Ï)(ch bd bw bf:Nat)(l':ff):Prop where
 S:l'.w.ownsRow 0 92 1 BB xs.length xs
 M:∀k,BB.ownBlock=Â k->l'.O k
 r:ie l' ch (ŕ q #[] Ì 0 0 Ì)
 C:ie l' bd (É #[è<|Â ch] 92)
 N:ie l' bw (É #[À<|Â ⟨all,0,Á⟩] 155)
 I:ie l' bf (É #[Ĉ (ù 33) #[] #[À<|Â ⟨bd,0,Á⟩,À<|Â ⟨ba,0,Á⟩]] 1)
section
variable{g:Jd}{l:ff}{ba all q:Nat}{f:Option â}{xs:List Ï}
def ajc(t:gD l)(E:¬l.q)(hd:l.d=0)(F:ST ba all m n j (Æ f q i) x d)(vz:j<n)(hn:n<1000)(BD:q<1000)(KO:l.K ⟨all,0,Á⟩/\l.K ⟨all,1,Á⟩)(G6:nF all l.w) (lI:l.w.ownsRow 0 92 1 x j xs) (hO:∀k,x.ownBlock=Â k->l.O k) (hJ0:∀l' t' a r y Q B v1,gq (λb=>Â b=x.ownBlock) l l'->ST ba all m n j (Æ f q i) B t'->Y9 ba all q B (xs++[è<|Â a]) a r y Q l'->l.w.heap.size<=a->a<r->r<y->y<Q->(∀k,B.ownBlock=Â k->k≠a/\k≠r/\k≠y/\k≠Q)->g l' (BA (À<|Â ⟨all,0,Á⟩) v1 (À<|Â ⟨all,0,Á⟩) (ñ #[]) y Q<|KN t'::qX)): fl Ä Ò (Ks Ä Ò all g) l (Bz d qX):=by
 obtain⟨y0,y1,y2,y3,y4,y5,y6,y7,y8,y9,xo,zj,xp,rR,s7,qP,vF,vG,uF,uG,uH,s8,s9,td,rK,sY,rL,pA,oz,qa,qc,qd,uk,sZ,s5,rM,rN,um,uo,uq,uu,uw,uy,uz,uA,uB,qe,qf,xj,rfl⟩:=Hi d F.r;obtain rfl:y8=À (Â ⟨ba,0,Á⟩):=by simpa using F.a
 obtain rfl:xo=Æ f q i:=by simpa using F.C
 obtain rfl:zj=À (Â ⟨m,0,Á⟩):=by simpa using F.I
 obtain rfl:xp=À (Â ⟨all,0,Á⟩):=by simpa using F.M
 obtain rfl:x=rR:=(show rR=x by simpa using F.N).symm;obtain rfl:pA=Ê Î n:=by simpa using F.S
 obtain rfl:oz=Ê Î j:=by simpa using F.Y
 have aul:(j:Int)<(n:Int):=Z
 have hF:True:=trivial;apply gl (n:=40) t.r;simp only[Bz,Ef,Rx,Y5];repeat w_go fC
 refine Ë λ_ _=> ?_;have Eh:Ä.info? 148=Â Ą:=Ļ;refine qU (V:=λp=>è<|Â p) (ob:=ŕ q #[] Ì 0 0 Ì) U U (by k_ne) t.r E (λw=> ?_) (λw=> ?_) λJ jH=> ?_
 .have C:=run_makeChan (P:=Ä) (w:=w) ļ Eh Î q Z (by simp[Ą];omega);go_simp
 .simp[go_sem,(events_makeChan (P:=Ä) (w:=w) ļ Eh Î q Z (by simp[Ą];omega) #[])]
 walk_nrm;have qR:gq fi l (gP l J<|ŕ q #[] Ì 0 0 Ì):=oB t jH;have c1:ie (gP l J<|ŕ q #[] Ì 0 0 Ì) J.heap.size (ŕ q #[] Ì 0 0 Ì):=⟨Ç U,n7⟩;have Za:l.w.heap.size<=J.heap.size:=jH.r;generalize gP l J (ŕ q #[] Ì 0 0 Ì)=l₁ at qR c1|-;generalize J.heap.size=a at c1 Za|-;have xu:=qR.N t;have Zb:¬l₁.q:=by rwa[qR.q]
 refine qU (V:=λp=>À<|Â ⟨p,0,Á⟩) (ob:=É #[è Á] 92) U U (by k_ne) xu.r Zb (λw=>by go_simp) (λw=>by simp[go_sem]) λS oA=> ?_;walk_nrm;have zq:gq fi l (gP l₁ S<|É #[è Á] 92):=qR.fh<|oB xu oA;have c2:=c1.r (oB (X:=fi) (ob:=É #[è Á] 92) xu oA) id;have G:ie (gP l₁ S<|É #[è Á] 92) S.heap.size (É #[è Á] 92):=⟨Ç U,n7⟩;have Jo:a<S.heap.size:=È (xu.fw a<|Ã c1.ft) oA.r;generalize gP l₁ S (É #[è Á] 92)=l₂ at zq c2 G|-;generalize S.heap.size=r at G Jo|-;clear c1 qR Zb xu oA l₁;have rT:=zq.N t;have qi:¬l₂.q:=by rwa[zq.q]
 refine G7 (p:=r) (off:=0) (v:=è<|Â a) (u:=è Á) U U (by k_ne) rT.r qi G.ft (G.C U) (by simp[î,G.I]) U (λw o s=>by go_simp) (λw o s=>by simp[go_sem,o,s]) ?_;have L:gq fi l {l₂ with w:=l₂.w.setCell ⟨r,0,Á⟩ (è<|Â a)}:=zq.fS t Z;have c3:ie {l₂ with w:=l₂.w.setCell ⟨r,0,Á⟩ (è<|Â a)} a (ŕ q #[] Ì 0 0 Ì):=⟨c2.ft,(lu<|by show a≠r;omega).trans c2.I⟩;have T:ie {l₂ with w:=l₂.w.setCell ⟨r,0,Á⟩ (è<|Â a)} r (É #[è<|Â a] 92):=⟨G.ft,by show(l₂.w.setCell ⟨r,0,Á⟩<|è<|Â a).heap[r]?=_;unfold þ;simp[í,G.I]⟩;generalize({l₂ with w:=l₂.w.setCell ⟨r,0,Á⟩ (è<|Â a)}:ff)=ky at L c3 T|-;clear c2 G zq rT qi l₂;have M:=L.N t;have xq:¬ky.q:=by rwa[L.q]
 have Ei:∀k,x.ownBlock=Â k->ky.O k:=λk e=>L.O k<|hO k e;have KP:ky.w.ownsRow 0 92 1 x j xs:=pE lI λk e=>L.r k (Ã<|hO k e) id;apply gl (n:=10) M.r;simp only[Y6,KH];iterate 4 w_go fC
 refine Ë λ_ _=> ?_;apply pC (x:=⟨r,0,Á⟩) U U (by k_ne) M.r xq (Ã<|Ã T.ft) (T.C U) (λw h=>by go_simp) (λw h=>by simp[go_sem,h]);walk_nrm;refine qU (V:=λp=>Æ (Â ⟨p,0,Á⟩) 1 1) (ob:=É #[è<|Â a] 92) U U (by k_ne) M.r xq (λw=>by go_simp) (λw=>by simp[go_sem]) λH BF=> ?_;walk_nrm;have vK:gq fi l (gP ky H<|É #[è<|Â a] 92):=L.fh<|oB M BF;have k4:=oB (X:=fi) (ob:=É #[è<|Â a] 92) M BF;have c4:=c3.r k4 id;have d4:=T.r k4 id;have W:ie (gP ky H<|É #[è<|Â a] 92) H.heap.size (É #[è<|Â a] 92):=⟨Ç U,n7⟩;have Y1:r<H.heap.size:=È (M.fw r<|Ã T.ft) BF.r;have xv:∀k,x.ownBlock=Â k->(gP ky H<|É #[è<|Â a] 92).O k:=λk e=>Ã<|Ei k e;have BG:=pE KP (w₁:=(gP ky H<|É #[è<|Â a] 92).w) λk e=>k4.r k (Ã<|Ei k e) id;generalize gP ky H (É #[è<|Â a] 92)=l₄ at vK c4 d4 W xv BG|-;generalize H.heap.size=px at W Y1|-;clear c3 T L M xq Ei KP k4 BF ky;have zr:=vK.N t;have BH:¬l₄.q:=by rwa[vK.q]
 refine Rw (v:=x) (us:=[è<|Â a]) (px:=px) (c:=1) (n:=j) (xs:=xs) (inf:=Λ) (z:=è Á) U U (by k_ne) zr BH U U U Tryz.underlying91 Tryz.type92 U U Nat.one_pos U U (by simp[Λ];omega) (by simp only[œ];omega) BG xv W.ft (ai5<|W.C U) (λ_ C=>List.mem_singleton.1 C▸rfl) λY B N BJ sR Hj BK uJ=> ?_;walk_nrm;have Zc:∀b,l.w.heap.size<=b->¬(Â b=x.ownBlock):=λb hb=>Y8 lI hb;have k5:gq (λb=>Â b=x.ownBlock) l₄ (oC l₄ Y N):=Rv zr BJ Hj λk e=>⟨xv k e,e.symm⟩;have rV:gq (λb=>Â b=x.ownBlock) l (oC l₄ Y N):=(vK.fQ λ_ _ q=>q.elim).fh k5;have c5:=c4.r k5<|Zc a Z;have d5:=d4.r k5<|Zc r Z;have hl4:px<Y.heap.size:=È (zr.fw px<|Ã W.ft) BJ.r;have KQ:∀k,B.ownBlock=Â k->k<N.heap.size/\k≠a/\k≠r:=λk e=>by
  have C:=(sR.lt k e).2;rcases uJ with z|z
  .rw[z]at e;have:=(lI.lt k e).2;exact⟨C,Z,Z⟩
  .rw[z]at e;obtain rfl:=Ó e;exact⟨C,Z,Z⟩
 have xw:(oC l₄ Y N).w.ownsRow 0 92 1 B (j+1) (xs++[è<|Â a]):=sR;have RE:(oC l₄ Y N).w.heap.size=N.heap.size:=U;generalize oC l₄ Y N=tg at rV c5 d5 xw BK RE|-;rw[<-RE]at KQ;clear k5 Hj sR uJ c4 d4 W vK zr BH xv BG BJ l₄ RE;have rW:=rV.N t;have Zd:¬tg.q:=by rwa[rV.q]
 apply gl (n:=20) rW.r;iterate 4 w_go fC
 u_call Ħ fZ Μ fC hF
 iterate 2 w_go fC
 refine Ë λ_ _=> ?_;refine qU (V:=λp=>À<|Â ⟨p,0,Á⟩) (ob:=É #[À<|Â ⟨all,0,Á⟩] 155) U U (by k_ne) rW.r Zd (λw=>by go_simp) (λw=>by simp[go_sem]) λC KR=> ?_;walk_nrm;have k6:=oB (X:=fi) (ob:=É #[À<|Â ⟨all,0,Á⟩] 155) rW KR;have BL:gq (λb=>Â b=x.ownBlock) l (gP tg C<|É #[À<|Â ⟨all,0,Á⟩] 155):=rV.fh (k6.fQ λ_ _ q=>q.elim);have c6:=c5.r k6 id;have d6:=d5.r k6 id;have g6:ie (gP tg C<|É #[À<|Â ⟨all,0,Á⟩] 155) C.heap.size (É #[À<|Â ⟨all,0,Á⟩] 155):=⟨Ç U,n7⟩;have BM:r<C.heap.size:=È (rW.fw r<|Ã d5.ft) KR.r;have Hk:∀k,B.ownBlock=Â k->k<C.heap.size/\k≠a/\k≠r:=λk e=>⟨È (KQ k e).1 KR.r,(KQ k e).2⟩;have KS:∀k,B.ownBlock=Â k->(gP tg C<|É #[À<|Â ⟨all,0,Á⟩] 155).O k:=λk e=>Ã<|BK k e;have RF:=pE xw (w₁:=(gP tg C<|É #[À<|Â ⟨all,0,Á⟩] 155).w) λk e=>k6.r k (Ã<|BK k e) id;generalize gP tg C (É #[À<|Â ⟨all,0,Á⟩] 155)=BN at BL c6 d6 g6 KS RF|-;generalize C.heap.size=y at g6 BM Hk|-;clear k6 c5 d5 rV rW Zd BK xw KQ KR tg;have KT:=BL.N t;have Ze:¬BN.q:=by rwa[BL.q]
 refine qU (V:=λp=>À<|Â ⟨p,0,Á⟩) (ob:=É #[Ĉ (ù 33) #[] #[À<|Â ⟨r,0,Á⟩,À<|Â ⟨ba,0,Á⟩]] 1) U U (by k_ne) KT.r Ze (λw=>by go_simp) (λw=>by simp[go_sem]) λI RG=> ?_;walk_nrm;have k7:=oB (X:=fi) (ob:=É #[Ĉ (ù 33) #[] #[À<|Â ⟨r,0,Á⟩,À<|Â ⟨ba,0,Á⟩]] 1) KT RG;have D:gq (λb=>Â b=x.ownBlock) l (gP BN I<|É #[Ĉ (ù 33) #[] #[À<|Â ⟨r,0,Á⟩,À<|Â ⟨ba,0,Á⟩]] 1):=BL.fh (k7.fQ λ_ _ q=>q.elim);have c7:=c6.r k7 id;have d7:=d6.r k7 id;have g7:=g6.r k7 id;have f7:ie (gP BN I<|É #[Ĉ (ù 33) #[] #[À<|Â ⟨r,0,Á⟩,À<|Â ⟨ba,0,Á⟩]] 1) I.heap.size (É #[Ĉ (ù 33) #[] #[À<|Â ⟨r,0,Á⟩,À<|Â ⟨ba,0,Á⟩]] 1):=⟨Ç U,n7⟩;have KU:y<I.heap.size:=È (KT.fw y<|Ã g6.ft) RG.r;have RH:∀k,B.ownBlock=Â k->(gP BN I<|É #[Ĉ (ù 33) #[] #[À<|Â ⟨r,0,Á⟩,À<|Â ⟨ba,0,Á⟩]] 1).O k:=λk e=>Ã<|KS k e;have Zf:=pE RF (w₁:=(gP BN I<|É #[Ĉ (ù 33) #[] #[À<|Â ⟨r,0,Á⟩,À<|Â ⟨ba,0,Á⟩]] 1).w) λk e=>k7.r k (Ã<|KS k e) id;generalize gP BN I (É #[Ĉ (ù 33) #[] #[À<|Â ⟨r,0,Á⟩,À<|Â ⟨ba,0,Á⟩]] 1)=BO at D c7 d7 g7 f7 RH Zf|-;generalize I.heap.size=Q at f7 KU|-;clear k7 c6 d6 g6 BL KT Ze KS RF RG BN;have KV:=D.N t;apply gl (n:=10) KV.r;iterate 3 w_go fC
 refine Ë λ_ _=> ?_;apply pC (x:=⟨y,0,Á⟩) U U (by k_ne) KV.r (by rwa[D.q]) (Ã<|Ã g7.ft) (g7.C U) (λw h=>by go_simp) (λw h=>by simp[go_sem,h]);walk_nrm;apply gl (n:=10) KV.r;u_call qO.f_add (nm_add Lk) addFn fC hF;refine Ë λ_ _=> ?_;refine YE qO (⟨Ã (by rw[D.K];exact KO.1),Ã (by rw[D.K];exact KO.2),λw J o s h3 h4 h5 h=>h.fh ⟨o,s,h3,h4,h5⟩⟩) (⟨KV.r,⟨D.e _ KO.1 G6.1,D.e _ KO.2 G6.2⟩,fJ.fX _ _⟩) (D.d.trans hd) λajd Zg=> ?_;walk_nrm;apply gl (l:={BO with d:=0,w:=ajd}) (n:=10) Zg.1;iterate 3 w_go fC
 refine Ë λ_ _=> ?_;refine .fD λBP xx=> ?_;have rr:fJ BO BO.w BP:=Zg.2.2.fh ⟨xx.r,xx.I,xx.N,xx.Y,xx.S⟩;have s:=D.G rr;have hA9:gq (λb=>Â b=x.ownBlock) l ({BO with d:=0,w:=BP}:ff):=⟨s.O,s.c,s.S,s.Y,s.b,s.K,s.q,hd.symm,s.fw,s.I,s.r,s.f,s.g,s.e⟩;have at9:∀{b:Nat} {o:Ÿ},ie BO b o->ie ({BO with d:=0,w:=BP}:ff) b o:=λh=>⟨h.ft,(rr.I _<|Ã h.ft).trans h.I⟩;have hlen:(xs++[è<|Â a]).length=j+1:=by have:=lI.1;simp;omega
 refine hJ0 {BO with d:=0,w:=BP} _ a r y Q B _ hA9 ⟨U,U,U,U,U,U,U,U⟩ ⟨?_,RH,at9 c7,at9 d7,at9 g7,at9 f7⟩ Za Jo BM KU λk e=>⟨(Hk k e).2.1,(Hk k e).2.2,by have:=(Hk k e).1;omega,by have:=(Hk k e).1;omega⟩;rw[hlen];exact pE Zf λk e=>rr.I k<|Ã<|RH k e
end
def tj(l:ff)(b:Nat):ff:={l with O:=λj=>l.O j/\j≠b,K:=λa=>l.K a\/a=⟨b,0,Á⟩\/a=⟨b,1,Á⟩}
def nu(l x:ff)(b:Nat):ff:={x with O:=λj=>x.O j\/j=b,K:=l.K}
section
variable{S:Jd}{l:ff}
def fl.RJ(W:∀a,l.K a->a.block≠b){x:ff}(h:fl P yQ S x g):¬x.M b->(∀a,x.C a->a.block≠b)->x.K=(tj l b).K->b<x.w.heap.size->(x.w.cell? ⟨b,0,Á⟩).isSome=Ò->(x.w.cell? ⟨b,1,Á⟩).isSome=Ò->ko x-> fl P yQ (λG H=>∃d,S d H/\G=nu l d b/\¬d.M b/\(∀a,d.C a->a.block≠b)/\d.K=(tj l b).K/\b<d.w.heap.size/\d.w.heap[b]?=x.w.heap[b]?/\d.q=x.q/\ko d) (nu l x b) g:=by
 have u:∀{x:ff} {c:ß},x.K=(tj l b).K->(x.w.cell? ⟨b,0,Á⟩).isSome=Ò->(x.w.cell? ⟨b,1,Á⟩).isSome=Ò->fJ (nu l x b) x.w c->fJ x x.w c:=λ{x c} f i m r=>
  ⟨r.r,λj p=>r.I j<|p.imp Ã id,r.N,r.Y,λa o q=>by
   rw[f]at o;rcases o with z|z|z
   .exact r.S a z q
   .rw[z,gN<|r.I b<|Ã<|Ç U];exact i
   .rw[z,gN (r.I b (Ã (Ç U)))];exact m⟩
 induction h with
 |@fD x g h=>
  intro s t f v i m I;refine .fD λc r=>⟨{x with w:=c},h c<|u f i m r,U,s,t,f,È v r.r,r.I b<|Ã<|Ç U,U,mI I<|u f i m r⟩
 |@jP x g G' W' E' L' iK h hd _ ih=>
  intro s t f v i m I;refine .mk iK λc r=> ?_;have B:=u f i m r;have D:=hd c B;have E:=È v r.r;have J:=λq=>s<|Ã q;have L:=D.jZ b E J λa e q=>t a (Ã q) e;have F:(L' c).w.heap[b]?=x.w.heap[b]?:=by rw[D.b];exact L.trans<|r.I b<|Ã<|Ç U
  refine⟨G' c,W' c,E' c,nu l (L' c) b,h c B,?_,?_⟩
  .refine⟨D.C,λj q=> ?_,λj q=> ?_,D.I,D.r,D.M,U,λj p y n=>D.jZ j p (λq=>y<|Ã q) n,λa o y n=>D.N a o (λq=>y<|Ã q) n,λa o y=>D.Y a o λq=>y<|Ã q,D.f,D.g,D.m,λe N=> ?_,D.h,D.q,λq=> ?_,D.b⟩
   .rcases q with q|q
    .exact(D.S j q).imp Ã id
    .exact Ã<|Ç q
   .rcases q with q|q
    .exact D.fw j q
    .rw[q];exact È E D.C
   .rcases D.c e N with⟨a,y,n⟩|h|h|h|h|⟨a,y,n⟩
    .exact Ã ⟨a,y,n.imp Ã id⟩
    .exact Ç<|Ã h
    .exact Ç<|Ç<|Ã h
    .exact Ç<|Ç<|Ç<|Ã h
    .exact Ç<|Ç<|Ç<|Ç<|Ã h
    .exact Ç<|Ç<|Ç<|Ç<|Ç ⟨a,Ã y,n⟩
   .let⟨Q,T,V⟩:=D.i q;exact⟨Q,T,by funext j;show((L' c).O j\/j=b)=(x.O j\/j=b);rw[V]⟩
  .refine(ih c B (λq=>q.elim (λz=>(D.S b z).elim J λy=>by omega) λz=>s<|Ç<|by rw[<-D.I];exact z) (λa q=>t a<|q.imp (by rw[D.r];exact id)<|by rw[D.M];exact id) (D.k.trans f) (by rw[D.b];exact È E D.C) (by rw[gN F];exact i) (by rw[gN F];exact m) λj p=>by rw[D.b];exact D.fw j p).fQ ?_;rintro G H ⟨d,y,e,j,n,o,p,z,N,Q⟩;exact⟨d,y,e,j,n,o,p,z.trans F,N.trans D.q,Q⟩
end
section
variable{L:WgLink}{l:ff}{J:Jd}{c:é}{k:List ŷ}{ty:ŭ}
structure aje(b:Nat)(cc:Array Ï)(ty:ŭ)(l l':ff):Prop where
 r:gq (λj=>j=b) l l'
 O:l'.O=l.O
 C:l'.w.heap[b]?=Â (É (cc.setIfInBounds 0<|Ê ê 4294967296) ty)
theorem Zh(a:l.O b)(w:ß)(d:Nat):nu l {tj l b with d:=d,w:=w} b={l with d:=d,w:=w}:=by
 have:(λj=>(l.O j/\j≠b)\/j=b)=l.O:=by grind
 unfold nu tj;simp only[this]
def Zi{C:Array Ï}(H:WgLib P L)(s:gD l)(hq:¬l.q)(Y:l.d=0)(x:l.O b)(M:l.w.heap[b]?=Â (É C ty))(N:C[0]?=Â (Ê ê 0))(o:(C[1]?).isSome=Ò) (hT:∀B,aje b C ty l B->fl P yQ J B (G (c.at (y.put ((Q[i]?).bind (·.dst))<|ñ #[])<|Ñ Q jJ::k) qX)): fl P yQ J l (G ((base L.add).at ⟨#[À<|Â ⟨b,0,Á⟩,Ê Î 1,Å,Å,Å,Å,Å,Å,Å,Å,Å,Å,Å,Å,Å,Å,Å,Å,Å,Å,Å,Å,Å,Å,Å,Å,Å,Å,Å,Å,Å,Å,Å,Å,Å,Å,Å,Å,Å,Å,Å,Å,Å,Å,Å,Å,Å,Å,Å,Å,Å,Å,Å,Å,Å,Å,Å,Å,Å,Å,Å,Å,Å,Å,Å,Å,Å,Å,Å,Å,Å,Å,Å,Å,Å,Å,Å,Å,Å,Å,Å,Å,Å,Å,Å,Å,Å,Å,Å,Å,Å,Å,Å,Å,Å,Å,Å,Å,Å,Å,Å,Å,Å,Å,Å,Å,Å,Å,Å,Å,Å,Å,Å,Å,Å,Å,Å],[]⟩ [ö<|body_add L])<|c.at y (Ñ Q (i::jJ)::k)::qX):=by
 have e0:l.w.cell? ⟨b,0,Á⟩=Â (Ê ê 0):=by simp[Ö,M,N]
 have e1:(l.w.cell? ⟨b,1,Á⟩).isSome=Ò:=by let⟨u,D⟩:=Ô.1 o;simp[Ö,M,D]
 have S:∀y:â,l.K y->y.block≠b:=λy T e=>(s.S y T).1<|Ã<|e▸x;let J1:Jd:=λB g'=>g'=G (c.at (y.put ((Q[i]?).bind (·.dst))<|ñ #[])<|Ñ Q jJ::k) qX/\B={tj l b with d:=0,w:=B.w}/\fJ (tj l b) l.w B.w
 have hW:fl P yQ (Ks P yQ b J1) (tj l b) (G ((base L.add).at ⟨#[À<|Â ⟨b,0,Á⟩,Ê Î 1,Å,Å,Å,Å,Å,Å,Å,Å,Å,Å,Å,Å,Å,Å,Å,Å,Å,Å,Å,Å,Å,Å,Å,Å,Å,Å,Å,Å,Å,Å,Å,Å,Å,Å,Å,Å,Å,Å,Å,Å,Å,Å,Å,Å,Å,Å,Å,Å,Å,Å,Å,Å,Å,Å,Å,Å,Å,Å,Å,Å,Å,Å,Å,Å,Å,Å,Å,Å,Å,Å,Å,Å,Å,Å,Å,Å,Å,Å,Å,Å,Å,Å,Å,Å,Å,Å,Å,Å,Å,Å,Å,Å,Å,Å,Å,Å,Å,Å,Å,Å,Å,Å,Å,Å,Å,Å,Å,Å,Å,Å,Å,Å,Å,Å,Å],[]⟩ [ö<|body_add L])<|c.at y (Ñ Q (i::jJ)::k)::qX):=by refine YE (Ψ:=λw=>fJ (tj l b) l.w w) H ⟨Ã<|Ç<|Ã U,Ã<|Ç<|Ç U,λw n o t a g m h=>h.fh ⟨o,t,a,g,m⟩⟩ ⟨λj f=>s.fw j<|Ã f.1,⟨by rw[show(tj l b).w=l.w from rfl,e0];rfl,e1⟩,fJ.fX _ _⟩ Y λn v=> .fD λp r=>⟨U,U,v.2.2.fh ⟨r.r,r.I,r.N,r.Y,r.S⟩⟩
 have hstart:=hW.RJ S (λq=>q.elim (λz=>z.2 U) λz=>s.c b x z) (λy T e=>s.N y T<|Ã<|e▸x) U (s.fw b<|Ã x) (by rw[show(tj l b).w=l.w from rfl,e0];rfl) e1 λj f=>s.fw j<|Ã f.1;rw[show nu l (tj l b) b=l from Zh x l.w l.d]at hstart;apply hstart.lS;rintro l1 g1 ⟨E,⟨BQ,ajf,hA⟩,rfl,Zj,Zk,rI,hlt1,ml,BD,lo1⟩;let⟨g2,Zl,V⟩:=hA 0;have sW:ê.wrap (0+gd)=gd:=by rw[show(0:Int)+gd=gd from rfl];exact JN A A
 rw[sW]at V Zl;rw[if_pos U]at V;have hqx:¬E.q:=by rwa[BD]
 refine .mk ajf λn r=> ?_;have F:=(r.I b<|Ã<|Ç U).trans<|ml.trans M;have c0:n.cell? (fP b)=Â (Ê ê 0):=by simp[Ö,fP,F,N]
 have aum:=È hlt1 r.r;have W:(n.setCell (fP b)<|Ê ê gd).heap[b]?=Â (É (C.setIfInBounds 0<|Ê ê 4294967296) ty):=by unfold þ;simp[í,fP,F,gd]
 have rx:fJ E E.w (n.setCell (fP b)<|Ê ê gd):=by
  refine⟨by rw[j4];exact r.r,λj f=>((lu λe=>Zj (by have t:j=b:=e;rwa[<-t])).trans<|r.I j<|f.imp Ã id),λa g=>(gN<|lu<|Zk a g).trans<|r.N a g,λa g=>sT.trans<|r.Y a g,λa g q=> ?_⟩
  .rw[rI]at g;refine yD ?_;rcases g with z|z|z
   .exact r.S a z q
   .rw[z,gN<|r.I b<|Ã<|Ç U];rwa[z]at q
   .rw[z,gN<|r.I b<|Ã<|Ç U];rwa[z]at q
 refine⟨g2,_,_,nu l {E with w:=n.setCell (fP b) (Ê ê gd)} b,Zl n c0 (by simp[î,fP,F]),?_,?_⟩
 .refine⟨by rw[j4];exact Ú _,λ_ h=>Ã h,λj h=> ?_,U,U,U,U,λj _ o _=>lu λe=>o<|Ç e,λa _ o _=>gN (lu λe=>o<|Ç e),λ_ _ _=>OB,U,U,U,λe t=> ?_,?_,U,λq=>absurd q hqx,U⟩
  .rw[j4];rcases h with h|h
   .exact È (lo1 j h) r.r
   .rwa[h]
  .have:e=kC (fP b)\/e=mV (fP b):=by simpa using t
   rcases this with rfl|rfl
   .exact Ã ⟨fP b,U,Ã<|Ç U⟩
   .exact Ã ⟨fP b,U,Ã<|Ç U⟩
  .exact(Ņ (λe t=>by
    have:e=kC (fP b)\/e=mV (fP b):=by simpa using t
    rcases this with rfl|rfl<;>exact⟨by simp[kC,mV],by simp[kC,mV]⟩) _).symm
 have z1:((n.setCell (fP b)<|Ê ê gd).cell? ⟨b,1,Á⟩).isSome=Ò:=by let⟨u,D⟩:=Ô.1 o;exact yD<|by simp[Ö,F,D]
 have ajg:=(V.jw rx).RJ S Zj Zk rI (by show b<(n.setCell (fP b)<|Ê ê gd).heap.size;rwa[j4]) (yD<|by rw[show(⟨b,0,Á⟩:â)=fP b from rfl,c0];rfl) z1 (λj f=>by show j<(n.setCell (fP b)<|Ê ê gd).heap.size;rw[j4];exact È (lo1 j f) r.r);apply ajg.lS;rintro l2 g3 ⟨v,⟨oU,ajh,g4,aji,hN2⟩,rfl,nM2,nC2,yY,KW,X,qi,lo2⟩;have ajj:¬v.q:=by rwa[qi]
 refine .mk ajh λp m=> ?_;have I:∀a:â,a.block=b->p.cell? a=v.w.cell? a:=λa e=>gN<|m.I a.block<|Ã<|Ç e;have rx2:fJ v v.w p:=⟨m.r,λj f=>m.I j<|f.imp Ã id,m.N,m.Y,λa g q=>by
  rw[yY]at g;rcases g with z|z|z
  .exact m.S a z q
  .rwa[I a (by rw[z])]
  .rwa[I a (by rw[z])]⟩
 refine⟨g4,p,_,nu l {v with w:=p} b,aji p,?_,?_⟩
 .refine⟨Ú _,λ_ h=>Ã h,λj h=> ?_,U,U,U,U,λ_ _ _ _=>rfl,λ_ _ _ _=>rfl,λ_ _ _=>rfl,U,U,U,λe t=> ?_,?_,U,λq=>absurd q ajj,U⟩
  .rcases h with h|h
   .exact È (lo2 j h) m.r
   .rw[h];exact È KW m.r
  .have:e=j0 (.read<|gX b):=by simpa using t
   rw[this];exact Ç<|Ç<|Ç<|Ç<|Ç ⟨gX b,Ç U,Ã U⟩
  .exact(Ņ (λe t=>by
    have:e=j0 (.read<|gX b):=by simpa using t
    rw[this];exact⟨by simp[j0],by simp[j0]⟩) _).symm
 have z:(p.cell? ⟨b,0,Á⟩).isSome=Ò:=by rw[I _ U];have:v.w.heap[b]?=_:=X.trans W;simp[Ö,this,(æ.1 N).1]
 have y1:(p.cell? ⟨b,1,Á⟩).isSome=Ò:=by rw[I _ U];have:v.w.heap[b]?=_:=X.trans W;let⟨u,D⟩:=Ô.1 o;simp[Ö,this,(æ.1 D).1]
 have u:=(hN2.jw rx2).RJ S nM2 nC2 yY (È KW m.r) z y1 λj f=>È (lo2 j f) m.r;apply u.lS;rintro l3 g5 ⟨x3,⟨rfl,D,t⟩,rfl,nM3,nC3,hk3,ajk,hb3,xq,lo3⟩;rw[D,Zh x];have RL:=hb3.trans<|(m.I b<|Ã<|Ç U).trans<|X.trans W;refine hT _ ⟨⟨λ_ h=>h,λ_ h=>Ã h,U,U,U,U,U,Y.symm,λj f=>È (s.fw j<|Ã f) t.r,t.r,λj f hn=>t.I j (f.imp (λq=>⟨q,hn⟩) id),t.N,t.Y,λa g=>t.S a<|Ã g⟩,U,RL⟩
end
noncomputable def RN:Ę:=lX Ĝ [1,1,1]
noncomputable def Zm:Ę:=lX Ĝ [1,1,0,1,0,0,1,1,0,0,1,1,1]
noncomputable def RO:Ę:=lX Ĝ [1,1,0,1,0,0,1,1,0,0,1,1,0,1]
noncomputable def Hl:Ę:=lX Ĝ [1,1,0,1,0,0]
noncomputable def RP:Ę:=lX Ĝ [1,1,0,1,0,0,1,1,1]
noncomputable def BR (t:Array Ï) (a:List é):Ý:=G ((base 29).at ⟨t,[]⟩ [ö Hl,ą Hl,ô 0,ö RN]) a
noncomputable def Hm (t:Array Ï) (a:List é):Ý:=G ((base 29).at ⟨t,[]⟩ [ö RO,ö Zm,ô 1,ö RP,ą Hl,ô 0,ö RN]) a
structure PT(iv qv rs:Ï)(lg R i:Nat)(t:Array Ï):Prop where
 r:t.size=48
 N:t[4]?=Â iv
 S:t[5]?=Â qv
 Y:t[6]?=Â (À<|Â ⟨lg,0,Á⟩)
 C:t[13]?=Â rs
 I:t[14]?=Â (Ê Î R)
 M:t[15]?=Â (Ê Î i)
def KX(t:Array Ï)(h:t.size=48):∃a b c d e f g i j k l m n o p q r s u v w x y z B C D E F G H I J K L M N O P Q S T V W X Y qe qf:Ï,t=#[a,b,c,d,e,f,g,i,j,k,l,m,n,o,p,q,r,s,u,v,w,x,y,z,B,C,D,E,F,G,H,I,J,K,L,M,N,O,P,Q,S,T,V,W,X,Y,qe,qf]:=by obtain⟨_,rfl⟩:=zg t h;exact⟨_,_,_,_,_,_,_,_,_,_,_,_,_,_,_,_,_,_,_,_,_,_,_,_,_,_,_,_,_,_,_,_,_,_,_,_,_,_,_,_,_,_,_,_,_,_,_,_,U⟩
def ajl(w:ß)(a c:Option â)(b:Int):(Ċ 148 #[(0,À a),(1,Ê Î b),(2,À c)]).run Ä w=.ok (Đ #[À a,Ê Î b,À c,À Á]) w:=run_build w 148 _ _ fZ
def ajm(w:ß)(a c:Option â)(b:Int):(Ċ 148 #[(0,À a),(1,Ê Î b),(2,À c)]).events Ä w #[]=#[]:=by unfold Ċ;simp only[Sem.events_bind];simp[go_sem]
section
variable{p:Nat}{v0 v1 v2 v3:Ï}
def ajn(h:w.heap[p]?=Â (É #[v,x,z,jQ] e)):(iV w p v0 v1 v2 v3).heap[p]?=Â (É #[v0,v1,v2,v3] e):=by unfold iV þ;simp[í,h]
def gq.iV{l c:ff}(h:gq X l c)(s:gD l)(r:fJ c c.w u)(f:l.w.heap.size<=p):gq X l {c with w:=fy.iV u p v0 v1 v2 v3}:=by
 have b:=h.G r;have e:∀{j:Nat},j<l.w.heap.size->(fy.iV u p v0 v1 v2 v3).heap[j]?=u.heap[j]?:=λ{j} q=>zf Z;refine⟨b.O,b.c,b.S,b.Y,b.b,b.K,b.q,b.d,λj q=> ?_,?_,λj q n=>(e<|s.fw j q).trans<|b.r j q n,λa q=>(gN<|e<|s.I a q).trans<|b.f a q,λa q=>(wW<|e<|s.I a q).trans<|b.g a q,λa q z=> ?_⟩
 .show j<(fy.iV u p v0 v1 v2 v3).heap.size;rw[xn];exact b.fw j q
 .show l.w.heap.size<=(fy.iV u p v0 v1 v2 v3).heap.size;rw[xn];exact b.I
 .show((fy.iV u p v0 v1 v2 v3).cell? a).isSome=Ò;rw[gN<|e (s.S a q).2.1];exact b.e a q z
def ie.rly{l:ff}{o:Ÿ}(h:ie l b o)(r:fJ l l.w u):ie {l with w:=u} b o:=⟨h.ft,(r.I b<|Ã h.ft).trans h.I⟩
end
section
variable{J:Jd}{l:ff}{t:Array Ï}{iv qv:Ï}{lg R:Nat}{kd:Int}
def ajo(f:gD l)(o:¬l.q)(k:PT iv qv (Æ (Â ⟨j,0,Á⟩) R n) lg R i t)(Zn:i<R)(hR:R<1000)(T:l.M j)(V:l.w.cell? ⟨j,i,Á⟩=Â (À<|Â ⟨b,0,Á⟩))(F:l.M b)(W:l.w.cell? ⟨b,4,Á⟩=Â (Ê Î kd)) (X:∀B u a,gq fi l B->l.w.heap.size<=a->ie B a (É #[À<|Â ⟨b,0,Á⟩,Ê Î i,À<|Â ⟨lg,0,Á⟩,À Á] 148)->PT iv qv (Æ (Â ⟨j,0,Á⟩) R n) lg R i u->u[9]?=Â (À<|Â ⟨a,0,Á⟩)->u[28]?=Â (ŝ<|decide<|kd≠1)->fl Ä Ò J B (Hm u qX)): fl Ä Ò J l (BR t qX):=by
 obtain⟨y0,y1,y2,y3,G,H,Y,y7,y8,y9,xo,zj,xp,rR,s7,qP,vF,vG,uF,uG,uH,s8,s9,td,rK,sY,rL,pA,oz,qa,qc,qd,uk,sZ,s5,rM,rN,um,uo,uq,uu,uw,uy,uz,uA,uB,qe,qf,rfl⟩:=KX t k.r;obtain rfl:iv=G:=(show G=iv by simpa using k.N).symm;obtain rfl:qv=H:=(show H=qv by simpa using k.S).symm;obtain rfl:Y=À (Â ⟨lg,0,Á⟩):=by simpa using k.Y
 obtain rfl:rR=Æ (Â ⟨j,0,Á⟩) R n:=by simpa using k.C
 obtain rfl:s7=Ê Î R:=by simpa using k.I
 obtain rfl:qP=Ê Î i:=by simpa using k.M
 have aun:(i:Int)<(R:Int):=Z
 have hF:True:=trivial;have rS:∀y:â,False->l.r y:=λy ha=>ha.elim;apply gl (n:=40) f.r;simp only[BR];conv in Hl=>whnf
 repeat w_go fC
 refine Ë λ_ _=> ?_;apply pC (x:=⟨j,i,Á⟩) U U (by k_ne) f.r o (Ã T) V (λw h=>by go_simp) (λw h=>by simp[go_sem,h]);walk_nrm;apply gl (n:=40) f.r;repeat w_go fC
 refine Ë λ_ _=> ?_;refine rQ (v:=Đ #[À<|Â ⟨b,0,Á⟩,Ê Î i,À<|Â ⟨lg,0,Á⟩,À Á]) U U (by k_ne) f.r o (λc r=> ?_) (λc r e C=> ?_) ?_
 .have S:=ajl c (Â ⟨b,0,Á⟩) (Â ⟨lg,0,Á⟩) i;go_simp
 .simp[go_sem,ajm c (Â ⟨b,0,Á⟩) (Â ⟨lg,0,Á⟩) i]at C
 walk_nrm;refine GY (ob:=É #[À Á,Ê Î 0,À Á,À Á] 148) U U (by k_ne) f.r o (λw=>by go_simp) (λw=>by simp[go_sem]) λc D=> ?_;walk_nrm;have s:gq fi l (gP l c<|É #[À Á,Ê Î 0,À Á,À Á] 148):=oB f D;have m:ie (gP l c<|É #[À Á,Ê Î 0,À Á,À Á] 148) c.heap.size (É #[À Á,Ê Î 0,À Á,À Á] 148):=⟨Ç U,n7⟩;have E:l.w.heap.size<=c.heap.size:=D.r;generalize gP l c (É #[À Á,Ê Î 0,À Á,À Á] 148)=l₁ at s m|-;generalize c.heap.size=a at m E|-;have I:=s.N f;have K:¬l₁.q:=by rwa[s.q]
 refine vC U U (by k_ne) λd z=> ?_;have g:=m.rly z;replace g:d.heap[a]?=_:=g.I;have L:d.cell? ⟨a,0,Á⟩=Â (À Á):=by simp[Ö,g]
 have N:d.cell? ⟨a,1,Á⟩=Â (Ê Î 0):=by simp[Ö,g]
 have O:d.cell? ⟨a,2,Á⟩=Â (À Á):=by simp[Ö,g]
 have P:d.cell? ⟨a,3,Á⟩=Â (À Á):=by simp[Ö,g]
 have Q:∀r,d.frozen? ⟨a,r,Á⟩=Ì:=λr=>by simp[î,g]
 go_simp;refine⟨{l₁ with w:=iV d a (À<|Â ⟨b,0,Á⟩) (Ê Î i) (À<|Â ⟨lg,0,Á⟩) (À Á)},KA (p:=a) (mI I.r z) K m.ft xn (λr S=>zf S) ⟨U,U,U⟩ λe C=> ?_,?_⟩
 .have S:=đ C;have e:∀r,qg l₁ ⟨a,r,Á⟩:=λr=>Ã m.ft;simp[go_sem,á _ _ _ _ _ _ (show Ø (À<|Â ⟨b,0,Á⟩)=Ò from rfl),á _ _ _ _ _ _ (show Ø (À<|Â ⟨lg,0,Á⟩)=Ò from rfl),á _ _ _ _ _ _ (show Ø (À Á)=Ò from rfl),L,N,O,P,Q]at S;rcases S with rfl|rfl|rfl|rfl
  .exact(e _).r
  .exact(e _).r
  .exact(e _).r
  .exact(e _).r
 have e:gq fi l ({l₁ with w:=iV d a (À<|Â ⟨b,0,Á⟩) (Ê Î i) (À<|Â ⟨lg,0,Á⟩) (À Á)}:ff):=s.iV f z E;have S:ie ({l₁ with w:=iV d a (À<|Â ⟨b,0,Á⟩) (Ê Î i) (À<|Â ⟨lg,0,Á⟩) (À Á)}:ff) a (É #[À<|Â ⟨b,0,Á⟩,Ê Î i,À<|Â ⟨lg,0,Á⟩,À Á] 148):=⟨m.ft,ajn g⟩;generalize({l₁ with w:=iV d a (À<|Â ⟨b,0,Á⟩) (Ê Î i) (À<|Â ⟨lg,0,Á⟩) (À Á)}:ff)=l₂ at e S|-;clear m s I K g L N O P Q z d l₁ D c;have C:=e.N f;apply gl (n:=20) C.r;repeat w_go fC
 refine Ë λ_ _=> ?_;apply pC (x:=⟨b,4,Á⟩) U U (by k_ne) C.r (by rwa[e.q]) (Ã<|e.M F) ((gN<|e.r b F id).trans W) (λw h=>by go_simp) (λw h=>by simp[go_sem,h]);walk_nrm;apply gl (n:=20) C.r;iterate 2 w_go fC
 refine Ë λ_ _=> ?_;apply X l₂ _ a e E S ⟨U,U,U,U,U,U,U⟩ U;simp;rfl
end
section
variable{J:Jd}{l:ff}{xs:List Ï}
def ajp(s:gD l)(E:¬l.q)(o:PT v x z b j i d)(Zn:i<j)(hR:j<1000)(h9:d[9]?=Â (À<|Â ⟨m,0,Á⟩))(RR:d[28]?=Â (ŝ Ò))(hn:n<1000) (h:ie l m (É #[À<|Â ⟨k,0,Á⟩,Ê Î i,À<|Â ⟨b,0,Á⟩,À Á] 148)) (lI:l.w.ownsRow 0 148 4 x n xs) (K:∀a,x.ownBlock=Â a->l.O a) (hJ:∀B L t,gq (λf=>Â f=x.ownBlock) l B->B.w.ownsRow 0 148 4 t (n+1) (xs++[À<|Â ⟨k,0,Á⟩,Ê Î i,À<|Â ⟨b,0,Á⟩,À Á])->(∀a,t.ownBlock=Â a->B.O a)->(t.ownBlock=x.ownBlock\/∃a,t.ownBlock=Â a/\l.w.heap.size<=a)->PT v t z b j (i+1) L->fl Ä Ò J B (BR L qX)): fl Ä Ò J l (Hm d qX):=by
 obtain⟨y0,y1,y2,y3,M,N,y6,y7,y8,y9,xo,zj,xp,P,s7,qP,vF,vG,uF,uG,uH,s8,s9,td,rK,sY,rL,pA,oz,qa,qc,qd,uk,sZ,s5,rM,rN,um,uo,uq,uu,uw,uy,uz,uA,uB,qe,qf,rfl⟩:=KX d o.r;obtain rfl:v=M:=(show M=v by simpa using o.N).symm;obtain rfl:x=N:=(show N=x by simpa using o.S).symm;obtain rfl:y6=À (Â ⟨b,0,Á⟩):=by simpa using o.Y
 obtain rfl:y9=À (Â ⟨m,0,Á⟩):=by simpa using h9
 obtain rfl:z=P:=(show P=z by simpa using o.C).symm;obtain rfl:s7=Ê Î j:=by simpa using o.I
 obtain rfl:qP=Ê Î i:=by simpa using o.M
 obtain rfl:oz=ŝ Ò:=by simpa using RR
 have hF:True:=trivial;apply gl (n:=40) s.r;simp only[Hm];conv in RO=>whnf
 conv in RP=>whnf
 repeat w_go fC
 refine Ë λ_ _=> ?_;refine rQ (v:=Đ #[À<|Â ⟨k,0,Á⟩,Ê Î i,À<|Â ⟨b,0,Á⟩,À Á]) U U (by k_ne) s.r E (λp r=> ?_) (λp r e y=> ?_) ?_
 .skip;have C:p.cell? ⟨m,0,Á⟩=Â (À<|Â ⟨k,0,Á⟩):=(hD.r (show hD l ⟨m,0,Á⟩from Ã<|Ã h.ft) r).trans<|h.C U;have D:p.cell? ⟨m,1,Á⟩=Â (Ê Î i):=(hD.r (show hD l ⟨m,1,Á⟩from Ã<|Ã h.ft) r).trans<|h.C U;have F:p.cell? ⟨m,2,Á⟩=Â (À<|Â ⟨b,0,Á⟩):=(hD.r (show hD l ⟨m,2,Á⟩from Ã<|Ã h.ft) r).trans<|h.C U;have G:p.cell? ⟨m,3,Á⟩=Â (À Á):=(hD.r (show hD l ⟨m,3,Á⟩from Ã<|Ã h.ft) r).trans<|h.C U;go_simp
 .have u:∀g,hD l ⟨m,g,Á⟩:=λg=>Ã<|Ã h.ft;have C:p.cell? ⟨m,0,Á⟩=Â (À<|Â ⟨k,0,Á⟩):=(hD.r (show hD l ⟨m,0,Á⟩from Ã<|Ã h.ft) r).trans<|h.C U;have D:p.cell? ⟨m,1,Á⟩=Â (Ê Î i):=(hD.r (show hD l ⟨m,1,Á⟩from Ã<|Ã h.ft) r).trans<|h.C U;have F:p.cell? ⟨m,2,Á⟩=Â (À<|Â ⟨b,0,Á⟩):=(hD.r (show hD l ⟨m,2,Á⟩from Ã<|Ã h.ft) r).trans<|h.C U;have G:p.cell? ⟨m,3,Á⟩=Â (À Á):=(hD.r (show hD l ⟨m,3,Á⟩from Ã<|Ã h.ft) r).trans<|h.C U;simp[go_sem,C,D,F,G]at y;rcases y with rfl|rfl|rfl|rfl
  .exact(u _).C
  .exact(u _).C
  .exact(u _).C
  .exact(u _).C
 walk_nrm;refine qU (V:=λp=>Æ (Â ⟨p,0,Á⟩) 1 1) (ob:=É #[À<|Â ⟨k,0,Á⟩,Ê Î i,À<|Â ⟨b,0,Á⟩,À Á] 148) U U (by k_ne) s.r E (λw=>by go_simp) (λw=>by simp[go_sem]) λr Q=> ?_;walk_nrm;have p:=oB (X:=fi) (ob:=É #[À<|Â ⟨k,0,Á⟩,Ê Î i,À<|Â ⟨b,0,Á⟩,À Á] 148) s Q;have y:ie (gP l r<|É #[À<|Â ⟨k,0,Á⟩,Ê Î i,À<|Â ⟨b,0,Á⟩,À Á] 148) r.heap.size (É #[À<|Â ⟨k,0,Á⟩,Ê Î i,À<|Â ⟨b,0,Á⟩,À Á] 148):=⟨Ç U,n7⟩;have C:∀a,x.ownBlock=Â a->(gP l r<|É #[À<|Â ⟨k,0,Á⟩,Ê Î i,À<|Â ⟨b,0,Á⟩,À Á] 148).O a:=λa e=>Ã<|K a e;have F:=pE lI (w₁:=(gP l r<|É #[À<|Â ⟨k,0,Á⟩,Ê Î i,À<|Â ⟨b,0,Á⟩,À Á] 148).w) λa e=>p.r a (Ã<|K a e) id;generalize gP l r (É #[À<|Â ⟨k,0,Á⟩,Ê Î i,À<|Â ⟨b,0,Á⟩,À Á] 148)=l₄ at p y C F|-;generalize r.heap.size=px at y|-;have G:=p.N s;have S:¬l₄.q:=by rwa[p.q]
 have Eh:Ä.info? 148=Â Ą:=Ļ;refine Rw (v:=x) (us:=[À<|Â ⟨k,0,Á⟩,Ê Î i,À<|Â ⟨b,0,Á⟩,À Á]) (px:=px) (c:=1) (n:=n) (sz:=4) (xs:=xs) (inf:=Ą) (z:=Đ #[À Á,Ê Î 0,À Á,À Á]) U U (by k_ne) G S U U U Ľ Eh U U Z U U (by simp[Ą];omega) (by simp only[œ];omega) F C y.ft (λg u D=>y.C<|by simpa using D) (by simp[Ø]) λu g D H T W Y uJ=> ?_;walk_nrm;have k5:gq (λf=>Â f=x.ownBlock) l₄ (oC l₄ u D):=Rv G H W λa e=>⟨C a e,e.symm⟩;have I:gq (λf=>Â f=x.ownBlock) l (oC l₄ u D):=(p.fQ λ_ _ q=>q.elim).fh k5;have RU:g.ownBlock=x.ownBlock\/∃a,g.ownBlock=Â a/\l.w.heap.size<=a:=uJ.imp id λq=>⟨_,q,Õ p.I H.r⟩;have xw:(oC l₄ u D).w.ownsRow 0 148 4 g (n+1) (xs++[À<|Â ⟨k,0,Á⟩,Ê Î i,À<|Â ⟨b,0,Á⟩,À Á]):=T;generalize oC l₄ u D=tg at I xw Y|-;clear p k5 W T uJ y G S C F H Q;have rW:=I.N s;have hw:Î.wrap ((i:Int)+1)=((i+1:Nat):Int):=by rw[Bt Z Z];omega
 apply gl (n:=40) rW.r;repeat w_go fC
 refine Ë λ_ _=> ?_;refine hJ tg _ g I xw Y RU ⟨U,U,U,U,U,U,?_⟩;simp[hw]
def ajq(G:gD l)(hq:¬l.q)(hd:l.d=0)(I:PT v x z b j i d)(Zn:i<j)(hR:j<1000)(h9:d[9]?=Â (À<|Â ⟨m,0,Á⟩))(RR:d[28]?=Â (ŝ Ì))(hn:n<1000) (h0:ie l m (É #[À<|Â ⟨k,0,Á⟩,Ê Î i,À<|Â ⟨b,0,Á⟩,À Á] 148)) (lI:l.w.ownsRow 0 148 4 v n xs) (hO:∀f,v.ownBlock=Â f->l.O f) (tf:v.ownBlock≠Â m) (hJ:∀T t' W s,gq (λg=>Â g=v.ownBlock\/g=m) l T->T.w.ownsRow 0 148 4 W (n+1) (xs++[À<|Â ⟨k,0,Á⟩,Ê Î i,À<|Â ⟨b,0,Á⟩,À<|Â ⟨s,0,Á⟩])->(∀f,W.ownBlock=Â f->T.O f)->(W.ownBlock=v.ownBlock\/∃f,W.ownBlock=Â f/\s<f)->l.w.heap.size<=s->ie T s (É #[Ê ê 4294967296,Ê Ď 0,Æ Á 0 0] 96)->PT W x z s j (i+1) t'->fl Ä Ò J T (BR t' qX)): fl Ä Ò J l (Hm d qX):=by
 obtain⟨y0,y1,y2,y3,y4,y5,y6,y7,y8,y9,xo,zj,xp,rR,s7,qP,vF,vG,uF,uG,uH,s8,s9,td,rK,sY,rL,pA,oz,qa,qc,qd,uk,sZ,s5,rM,rN,um,uo,uq,uu,uw,uy,uz,uA,uB,qe,qf,rfl⟩:=KX d I.r;obtain rfl:v=y4:=(show y4=v by simpa using I.N).symm;obtain rfl:x=y5:=(show y5=x by simpa using I.S).symm;obtain rfl:y6=À (Â ⟨b,0,Á⟩):=by simpa using I.Y
 obtain rfl:y9=À (Â ⟨m,0,Á⟩):=by simpa using h9
 obtain rfl:z=rR:=(show rR=z by simpa using I.C).symm;obtain rfl:s7=Ê Î j:=by simpa using I.I
 obtain rfl:qP=Ê Î i:=by simpa using I.M
 obtain rfl:oz=ŝ Ì:=by simpa using RR
 have hF:True:=trivial;apply gl (n:=40) G.r;simp only[Hm];conv in RO=>whnf
 conv in Zm=>whnf
 conv in RP=>whnf
 repeat w_go fC
 refine Ë λ_ _=> ?_;refine GY (ob:=É #[Ê ê 0,Ê Ď 0,Æ Á 0 0] 96) U U (by k_ne) G.r hq (λw=>by go_simp) (λw=>by simp[go_sem]) λD jH=> ?_;walk_nrm;have t:gq fi l (gP l D<|É #[Ê ê 0,Ê Ď 0,Æ Á 0 0] 96):=oB G jH;have F:ie (gP l D<|É #[Ê ê 0,Ê Ď 0,Æ Á 0 0] 96) D.heap.size (É #[Ê ê 0,Ê Ď 0,Æ Á 0 0] 96):=⟨Ç U,n7⟩;have Hn:l.w.heap.size<=D.heap.size:=jH.r;generalize gP l D (É #[Ê ê 0,Ê Ď 0,Æ Á 0 0] 96)=l₁ at t F|-;generalize D.heap.size=s at F Hn|-;clear jH D;have xu:=t.N G;have BD:¬l₁.q:=by rwa[t.q]
 have htl:m<l.w.heap.size:=G.fw m<|Ã h0.ft;have t1:=h0.r t id;apply gl (n:=40) xu.r;iterate 7 w_go fC
 u_call qO.f_add (nm_add Lk) addFn fC hF
 refine Ë λ_ _=> ?_;refine Zi qO xu BD (by rwa[t.d]) F.ft F.I U U λy hC=> ?_;walk_nrm;have E:gq (λg=>g=s) l₁ y:=hC.r;have KY:gq fi l y:=⟨λf q=>E.O f<|t.O f q,λf q=>(E.c f q).elim (t.c f) λh=>Ç<|Õ t.I h,E.S.trans t.S,E.Y.trans t.Y,E.b.trans t.b,E.K.trans t.K,E.q.trans t.q,E.d.trans t.d,E.fw,Õ t.I E.I,λo Y nx=>(E.r o (t.M Y) λe=>by have:=G.fw o Y;omega).trans<|t.r o Y nx,λa H=>(E.f a<|by rwa[t.C]).trans<|t.f a H,λa H=>(E.g a<|by rwa[t.C]).trans<|t.g a H,λa H h=>E.e a (by rwa[t.K])<|t.e a H h⟩;have L:=t1.r E Z;have N:ie y s (É #[Ê ê 4294967296,Ê Ď 0,Æ Á 0 0] 96):=⟨E.O s F.ft,hC.C⟩;have rT:=KY.N G;have qi:¬y.q:=by rwa[KY.q]
 have hgl:s<y.w.heap.size:=rT.fw s<|Ã N.ft;clear hC E t1 F t xu BD l₁;apply gl (n:=40) rT.r;iterate 5 w_go fC
 refine Ë λ_ _=> ?_;refine G7 (p:=m) (off:=3) (v:=À<|Â ⟨s,0,Á⟩) (u:=À Á) U U (by k_ne) rT.r qi L.ft (L.C U) (by simp[î,L.I]) U (λw r S=>by go_simp) (λw r S=>by simp[go_sem,á _ _ _ _ _ _ (show Ø (À<|Â ⟨s,0,Á⟩)=Ò from rfl),r,S]) ?_;have P:gq (λg=>g=m) l {y with w:=y.w.setCell ⟨m,3,Á⟩ (À<|Â ⟨s,0,Á⟩)}:=(KY.fQ λ_ _ q=>q.elim).fh (KF (p:=m) rT (fJ.fX _ _) L.ft U j4 λo Y=>lu Y);have B:ie {y with w:=y.w.setCell ⟨m,3,Á⟩ (À<|Â ⟨s,0,Á⟩)} m (É #[À<|Â ⟨k,0,Á⟩,Ê Î i,À<|Â ⟨b,0,Á⟩,À<|Â ⟨s,0,Á⟩] 148):=⟨L.ft,by show(y.w.setCell ⟨m,3,Á⟩<|À<|Â ⟨s,0,Á⟩).heap[m]?=_;unfold þ;simp[í,L.I]⟩;have g3:ie {y with w:=y.w.setCell ⟨m,3,Á⟩ (À<|Â ⟨s,0,Á⟩)} s (É #[Ê ê 4294967296,Ê Ď 0,Æ Á 0 0] 96):=⟨N.ft,(lu<|by show s≠m;omega).trans N.I⟩;have ajr:s<({y with w:=y.w.setCell ⟨m,3,Á⟩ (À<|Â ⟨s,0,Á⟩)}:ff).w.heap.size:=by show s<(y.w.setCell ⟨m,3,Á⟩<|À<|Â ⟨s,0,Á⟩).heap.size;rwa[j4]
 generalize({y with w:=y.w.setCell ⟨m,3,Á⟩ (À<|Â ⟨s,0,Á⟩)}:ff)=ky at P B g3 ajr|-;clear L N KY rT qi hgl y;have Q:=P.N G;have xq:¬ky.q:=by rwa[P.q]
 have Ei:∀f,v.ownBlock=Â f->ky.O f:=λf e=>P.O f<|hO f e;have KP:ky.w.ownsRow 0 148 4 v n xs:=pE lI λf e=>P.r f (Ã<|hO f e) λh=>tf<|h▸e;apply gl (n:=40) Q.r;iterate 3 w_go fC
 refine Ë λ_ _=> ?_;refine rQ (v:=Đ #[À<|Â ⟨k,0,Á⟩,Ê Î i,À<|Â ⟨b,0,Á⟩,À<|Â ⟨s,0,Á⟩]) U U (by k_ne) Q.r xq (λD r=> ?_) (λD r e he=> ?_) ?_
 .skip;have g0:D.cell? ⟨m,0,Á⟩=Â (À<|Â ⟨k,0,Á⟩):=(hD.r (show hD ky ⟨m,0,Á⟩from Ã<|Ã B.ft) r).trans<|B.C U;have F:D.cell? ⟨m,1,Á⟩=Â (Ê Î i):=(hD.r (show hD ky ⟨m,1,Á⟩from Ã<|Ã B.ft) r).trans<|B.C U;have N:D.cell? ⟨m,2,Á⟩=Â (À<|Â ⟨b,0,Á⟩):=(hD.r (show hD ky ⟨m,2,Á⟩from Ã<|Ã B.ft) r).trans<|B.C U;have g3:D.cell? ⟨m,3,Á⟩=Â (À<|Â ⟨s,0,Á⟩):=(hD.r (show hD ky ⟨m,3,Á⟩from Ã<|Ã B.ft) r).trans<|B.C U;go_simp
 .have S:∀o,hD ky ⟨m,o,Á⟩:=λo=>Ã<|Ã B.ft;have g0:D.cell? ⟨m,0,Á⟩=Â (À<|Â ⟨k,0,Á⟩):=(hD.r (show hD ky ⟨m,0,Á⟩from Ã<|Ã B.ft) r).trans<|B.C U;have F:D.cell? ⟨m,1,Á⟩=Â (Ê Î i):=(hD.r (show hD ky ⟨m,1,Á⟩from Ã<|Ã B.ft) r).trans<|B.C U;have N:D.cell? ⟨m,2,Á⟩=Â (À<|Â ⟨b,0,Á⟩):=(hD.r (show hD ky ⟨m,2,Á⟩from Ã<|Ã B.ft) r).trans<|B.C U;have g3:D.cell? ⟨m,3,Á⟩=Â (À<|Â ⟨s,0,Á⟩):=(hD.r (show hD ky ⟨m,3,Á⟩from Ã<|Ã B.ft) r).trans<|B.C U;simp[go_sem,g0,F,N,g3]at he;rcases he with rfl|rfl|rfl|rfl
  .exact(S _).C
  .exact(S _).C
  .exact(S _).C
  .exact(S _).C
 walk_nrm;refine qU (V:=λp=>Æ (Â ⟨p,0,Á⟩) 1 1) (ob:=É #[À<|Â ⟨k,0,Á⟩,Ê Î i,À<|Â ⟨b,0,Á⟩,À<|Â ⟨s,0,Á⟩] 148) U U (by k_ne) Q.r xq (λw=>by go_simp) (λw=>by simp[go_sem]) λS BF=> ?_;walk_nrm;have r:=oB (X:=fi) (ob:=É #[À<|Â ⟨k,0,Á⟩,Ê Î i,À<|Â ⟨b,0,Á⟩,À<|Â ⟨s,0,Á⟩] 148) Q BF;have p4:ie (gP ky S<|É #[À<|Â ⟨k,0,Á⟩,Ê Î i,À<|Â ⟨b,0,Á⟩,À<|Â ⟨s,0,Á⟩] 148) S.heap.size (É #[À<|Â ⟨k,0,Á⟩,Ê Î i,À<|Â ⟨b,0,Á⟩,À<|Â ⟨s,0,Á⟩] 148):=⟨Ç U,n7⟩;have xv:∀f,v.ownBlock=Â f->(gP ky S<|É #[À<|Â ⟨k,0,Á⟩,Ê Î i,À<|Â ⟨b,0,Á⟩,À<|Â ⟨s,0,Á⟩] 148).O f:=λf e=>Ã<|Ei f e;have BG:=pE KP (w₁:=(gP ky S<|É #[À<|Â ⟨k,0,Á⟩,Ê Î i,À<|Â ⟨b,0,Á⟩,À<|Â ⟨s,0,Á⟩] 148).w) λf e=>r.r f (Ã<|Ei f e) id;generalize gP ky S (É #[À<|Â ⟨k,0,Á⟩,Ê Î i,À<|Â ⟨b,0,Á⟩,À<|Â ⟨s,0,Á⟩] 148)=l₄ at r p4 xv BG|-;generalize S.heap.size=px at p4|-;have zr:=r.N Q;have BH:¬l₄.q:=by rwa[r.q]
 have Eh:Ä.info? 148=Â Ą:=Ļ;refine Rw (v:=v) (us:=[À<|Â ⟨k,0,Á⟩,Ê Î i,À<|Â ⟨b,0,Á⟩,À<|Â ⟨s,0,Á⟩]) (px:=px) (c:=1) (n:=n) (sz:=4) (xs:=xs) (inf:=Ą) (z:=Đ #[À Á,Ê Î 0,À Á,À Á]) U U (by k_ne) zr BH U U U Ľ Eh U U Z U U (by simp[Ą];omega) (by simp only[œ];omega) BG xv p4.ft (λo u hu=>p4.C<|by simpa using hu) (by simp[Ø]) λEj BB KZ BJ sR Hj BK uJ=> ?_;walk_nrm;have k5:gq (λg=>Â g=v.ownBlock) l₄ (oC l₄ Ej KZ):=Rv zr BJ Hj λf e=>⟨xv f e,e.symm⟩;have rV:gq (λg=>Â g=v.ownBlock) ky (oC l₄ Ej KZ):=(r.fQ λ_ _ q=>q.elim).fh k5;have RU:BB.ownBlock=v.ownBlock\/∃f,BB.ownBlock=Â f/\ky.w.heap.size<=f:=uJ.imp id λq=>⟨_,q,Õ r.I BJ.r⟩;have xw:(oC l₄ Ej KZ).w.ownsRow 0 148 4 BB (n+1) (xs++[À<|Â ⟨k,0,Á⟩,Ê Î i,À<|Â ⟨b,0,Á⟩,À<|Â ⟨s,0,Á⟩]):=sR;generalize oC l₄ Ej KZ=tg at rV xw BK|-;clear r k5 Hj sR uJ p4 zr BH xv BG BJ BF;have rW:=rV.N Q;have hw:Î.wrap ((i:Int)+1)=((i+1:Nat):Int):=by rw[Bt Z Z];omega
 have g5:=g3.r rV<|Y8 lI Hn;have BL:gq (λg=>Â g=v.ownBlock\/g=m) l tg:=(P.fQ λ_ _ q=>Ç q).fh (rV.fQ λ_ _ q=>Ã q);apply gl (n:=40) rW.r;repeat w_go fC
 refine Ë λ_ _=> ?_;refine hJ tg _ BB s BL xw BK (RU.imp id λ⟨f,q1,q2⟩=>⟨f,q1,Z⟩) Hn g5 ⟨U,U,U,U,U,U,?_⟩;simp[hw]
end
def gZ(kd:Nat->Int)(i:Nat):List Nat:=(ã i).filter λj=>decide<|kd j=1
def jy(kd:Nat->Int)(i:Nat):List Nat:=(ã i).filter λj=>decide<|kd j≠1
def fN(kd:Nat->Int)(i:Nat):Nat:=(gZ kd i).length
def tI(a g:Nat->Nat)(p:Nat×Nat):List Ï:=[À<|Â ⟨a p.1,0,Á⟩,Ê Î p.1,À<|Â ⟨g p.2,0,Á⟩,À<|Â ⟨g<|p.2+1,0,Á⟩]
def tQ(kd:Nat->Int)(a g:Nat->Nat)(p:Nat):List Ï:=[À<|Â ⟨a p,0,Á⟩,Ê Î p,À<|Â ⟨g<|fN kd p,0,Á⟩,À Á]
def jS(kd:Nat->Int)(rq g:Nat->Nat)(i:Nat):List Ï:=(gZ kd i).zipIdx.flatMap<|tI rq g
def mJ(kd:Nat->Int)(a g:Nat->Nat)(i:Nat):List Ï:=(jy kd i).flatMap<|tQ kd a g
section
variable{kd:Nat->Int}{rq g:Nat->Nat}
def tq(h:kd i=1):gZ kd (i+1)=gZ kd i++[i]:=by simp[gZ,ÿ,ā,h]
def vL(h:kd i≠1):gZ kd (i+1)=gZ kd i:=by simp[gZ,ÿ,ā,h]
def RV(h:kd i=1):jy kd (i+1)=jy kd i:=by simp[jy,ÿ,ā,h]
theorem RY(h:kd i≠1):jy kd (i+1)=jy kd i++[i]:=by simp[jy,ÿ,ā,h]
def RZ:∀i,fN kd i<=i:=λi=>by unfold fN gZ;exact Õ (ģ _ _) fq
def ajs:∀i,(jy kd i).length<=i:=λi=>by unfold jy;exact Õ (ģ _ _) fq
def Zo(h:j<=i):fN kd j<=fN kd i:=by
 induction i with
 |zero=>
  have:j=0:=Z
  rw[this];exact Ú _
 |succ i c=>
  by_cases e:j=i+1
  .rw[e];exact Ú _
  .have a:=c Z;by_cases b:kd i=1
   .unfold fN at a|-;rw[tq b];simp;omega
   .unfold fN at a|-;rwa[vL b]
def ajt(h:kd i=1):jS kd rq g (i+1)=jS kd rq g i++tI rq g (i,fN kd i):=by unfold jS;rw[tq h,List.zipIdx_append,List.flatMap_append];simp[fN]
def aju(h:kd i≠1):jS kd rq g (i+1)=jS kd rq g i:=by unfold jS;rw[vL h]
def ajv(h:kd i=1):mJ kd rq g (i+1)=mJ kd rq g i:=by unfold mJ;rw[RV h]
theorem ajw(h:kd i≠1):mJ kd rq g (i+1)=mJ kd rq g i++tQ kd rq g i:=by unfold mJ;grind [RY]
def R0{α:Type}{f a:α->List Ï}:∀(l:List α),(∀x∈l,f x=a x)->l.flatMap f=l.flatMap a
 |[],_=>rfl
 |x::l,h=>by rw[Ć,Ć,h x List.mem_cons_self,R0 l λy b=>h y<|List.mem_cons_of_mem _ b]
def ajx(h:∀k,k<=fN kd i->D k=g k):jS kd rq D i=jS kd rq g i:=by
 unfold jS;refine R0 _ λx a=> ?_;let⟨p,k⟩:=x;have b:=(List.mem_zipIdx a).2.1;have c:k<fN kd i:=by unfold fN;omega
 simp[tI,h k Z,h (k+1) Z]
def ajy(h:∀k,k<=fN kd i->D k=g k):mJ kd rq D i=mJ kd rq g i:=by
 unfold mJ;refine R0 _ λp a=> ?_;have b:p<i:=by have:=(Ā.1 a).1;simpa using this
 simp[tQ,h (fN kd p)<|Zo Z]
def R1{α:Type}{f:α->List Ï}(a:∀x,(f x).length=4)(b:i<4):∀(l:List α) (k:Nat) (x:α),l[k]?=Â x->(l.flatMap f)[k*4+i]?=(f x)[i]?
 |[],k,x,h=>by simp at h
 |y::l,0,x,h=>by
  obtain rfl:y=x:=by simpa using h
  rw[Ć,List.getElem?_append_left (by rw[a];omega)];simp
 |y::l,k+1,x,h=>by rw[Ć,List.getElem?_append_right (by rw[a];omega),a,show(k+1)*4+i-4=k*4+i by omega];exact R1 a b l k x<|by simpa using h
end
section
variable{Y:Nat->Prop}{l m o:ff}
def gq.xy(h:gq X l m)(k:gq Y m o)(e:∀j,l.M j->¬Y j):gq X l o:= ⟨λj q=>k.O j<|h.O j q,λj q=>(k.c j q).elim (h.c j) λz=>Ç<|Õ h.I z,k.S.trans h.S,k.Y.trans h.Y,k.b.trans h.b,k.K.trans h.K,k.q.trans h.q,k.d.trans h.d,k.fw,Õ h.I k.I,λj c f=>(k.r j (h.M c)<|e j c).trans<|h.r j c f,λa b=>(k.f a<|by rwa[h.C]).trans<|h.f a b,λa b=>(k.g a<|by rwa[h.C]).trans<|h.g a b,λa b z=>k.e a (by rwa[h.K])<|h.e a b z⟩
end
abbrev R2:Ÿ:=É #[Ê ê 4294967296,Ê Ď 0,Æ Á 0 0] 96
structure zt(kd:Nat->Int)(rq g:Nat->Nat)(S i:Nat)(iv qv:Ï)(l0 l:ff):Prop where
 r:gq fi l0 l
 jS:l.w.ownsRow 0 148 4 iv (fN kd i) (jS kd rq g i)
 mJ:l.w.ownsRow 0 148 4 qv (jy kd i).length (mJ kd rq g i)
 C:∀k,iv.ownBlock=Â k->l.O k/\l0.w.heap.size<=k
 I:∀k,qv.ownBlock=Â k->l.O k/\l0.w.heap.size<=k
 M:∀k,iv.ownBlock=Â k->qv.ownBlock≠Â k
 N:∀k,1<=k->k<=fN kd i->ie l (g k) R2/\l0.w.heap.size<=g k/\iv.ownBlock≠Â (g k)/\qv.ownBlock≠Â (g k)
 g0:g 0<l0.w.heap.size
 S:g 0=S
 Y:∀k k',k<k'->k'<=fN kd i->g k<g k'
section
variable{kd:Nat->Int}{rq g:Nat->Nat}{iv qv:Ï}{l0 l m o:ff}
theorem zt.ajz(h:zt kd rq g n i iv qv l0 l)(C:gD l0)(s:gD l)(t:kd i≠1)(a:gq fi l m)(d:gq (λb=>Â b=qv.ownBlock) m o)(G:o.w.ownsRow 0 148 4 v ((jy kd i).length+1) (fy.mJ kd rq g i++tQ kd rq g i))(D:∀k,v.ownBlock=Â k->o.O k)(u:v.ownBlock=qv.ownBlock\/∃k,v.ownBlock=Â k/\m.w.heap.size<=k):zt kd rq g n (i+1) iv v l0 o:=by
 have p:fN kd (i+1)=fN kd i:=by unfold fN;rw[vL t]
 have x:∀{j},l.O j->qv.ownBlock≠Â j->v.ownBlock≠Â j:=λ{j} c hn e=>by
  rcases u with z|⟨k,q,B⟩
  .grind
  .rw[q]at e;have:=Ó e;have:=(λc=>È (s.fw _<|Ã c) a.I) c;omega
 refine⟨(h.r.fh a).xy d λj c e=> ?_,?_,?_,λk e=>⟨d.O k<|a.O k (h.C k e).1,(h.C k e).2⟩,λk e=>⟨D k e,?_⟩,λk e=>x (h.C k e).1<|h.M k e,λk r f=> ?_,h.g0,h.S,λk y r f=>h.Y k y r<|by rwa[<-p]⟩
 .have:=(h.I j e.symm).2;have:=C.fw j c;omega
 .rw[p,aju t];refine pE h.jS λk e=>(d.r k (Ã<|a.O k (h.C k e).1) λz=>h.M k e z.symm).trans<|a.r k (Ã (h.C k e).1) id
 .grind [RY,ajw]
 .rcases u with z|⟨y,q,B⟩
  .rw[z]at e;exact(h.I k e).2
  .rw[q]at e;have:=Ó e;have:=h.r.I;have:=a.I;omega
 .rw[p]at f;let⟨q,E,F,B⟩:=h.N k r f;exact⟨(q.r a id).r d λz=>B z.symm,E,F,x q.ft B⟩
theorem zt.kP{tb:Nat}(h:zt kd rq g n i iv qv l0 l)(F:gD l0)(s:gD l)(a:kd i=1)(c:gq fi l m)(P:l.w.heap.size<=tb)(p:gq (λb=>Â b=iv.ownBlock\/b=tb) m o)(G:o.w.ownsRow 0 148 4 v (fN kd i+1) (fy.jS kd rq g i++[À<|Â ⟨rq i,0,Á⟩,Ê Î i,À<|Â ⟨g<|fN kd i,0,Á⟩,À<|Â ⟨J,0,Á⟩]))(H:∀k,v.ownBlock=Â k->o.O k)(u:v.ownBlock=iv.ownBlock\/∃k,v.ownBlock=Â k/\J<k)(Q:m.w.heap.size<=J)(I:ie o J R2):zt kd rq (λk=>if k<=fN kd i then g k else J) n (i+1) v qv l0 o:=by
 have x:fN kd (i+1)=fN kd i+1:=by unfold fN;rw[tq a];simp
 have S:=h.r.I;have T:=c.I;have d:∀{j},l.O j->j<l.w.heap.size:=λq=>s.fw _<|Ã q;have B:∀{j},l.O j->iv.ownBlock≠Â j->v.ownBlock≠Â j:=λ{j} q hn e=>by grind
 have C:∀k,k<=fN kd i->(if k<=fN kd i then g k else J)=g k:=λk a=>if_pos a;refine⟨(h.r.fh c).xy p λj q e=> ?_,?_,?_,λk e=>⟨H k e,?_⟩,λk e=>⟨p.O k<|c.O k (h.I k e).1,(h.I k e).2⟩,λk e z=>B (h.I k z).1 (λy=>h.M k y z) e,λk t D=> ?_,?_,?_,λk r t D=> ?_⟩
 .have:=F.fw j q;rcases e with e|e
  .have:=(h.C j e.symm).2;omega
  .omega
 .rw[x,ajt a,ajx C];simpa[tI,show¬(fN kd i+1<=fN kd i) by omega]using G
 .rw[RV a,ajv a,ajy C];refine pE h.mJ λk e=> ?_;refine(p.r k (Ã<|c.O k (h.I k e).1) ?_).trans<|c.r k (Ã (h.I k e).1) id;rintro(z|z)
  .exact h.M k z.symm e
  .have:=d (h.I k e).1;omega
 .rcases u with z|⟨r,K,L⟩
  .rw[z]at e;exact(h.C k e).2
  .grind
 .by_cases y:k<=fN kd i
  .simp only[if_pos y];let⟨f,M,E,N⟩:=h.N k t y;refine⟨(f.r c id).r p ?_,M,B f.ft E,N⟩;rintro(z|z)
   .exact E z.symm
   .have:=d f.ft;omega
  .simp only[if_neg y];refine⟨I,Z,λe=> ?_,λe=> ?_⟩
   .rcases u with z|⟨r,K,L⟩
    .rw[z]at e;have:=d (h.C J e).1;omega
    .grind
   .have:=d (h.I J e).1;omega
 .simp only[ă,if_true];exact h.g0
 .simp only[ă,if_true];exact h.S
 .rw[x]at D;by_cases y:r<=fN kd i
  .simp only[if_pos y,if_pos (show k<=fN kd i by omega)];exact h.Y k r t y
  .simp only[if_neg y,if_pos (show k<=fN kd i by omega)];by_cases E:k=0
   .subst E;have:=h.g0;omega
   .let⟨f,_⟩:=h.N k Z Z;have:=d f.ft;omega
end
section
variable{J:Jd}{ra:Option â}{rb cr R:Nat}{cs:List é}{kd:Nat->Int}{rq:Nat->Nat}{l0:ff}
def R3(j:gD l0)(u:¬l0.q)(v:l0.d=0)(m:R<1000)(p:0<R->ra=Â ⟨rb,0,Á⟩)(x:0<R->l0.M rb)(y:∀i,i<R->l0.w.cell? ⟨rb,i,Á⟩=Â (À<|Â ⟨rq i,0,Á⟩))(r:∀i,i<R->l0.M (rq i))(z:∀i,i<R->l0.w.cell? ⟨rq i,4,Á⟩=Â (Ê Î<|kd i)) (B:∀g N P a b,zt kd rq g n R a b l0 N->PT a b (Æ ra R cr) (g<|fN kd R) R R P->fl Ä Ò J N (BR P cs)): ∀d i,R=i+d->∀g l t a b,zt kd rq g n i a b l0 l->PT a b (Æ ra R cr) (g<|fN kd i) R i t->fl Ä Ò J l (BR t cs)
 |0,i,hi,g,l,t,a,b,hP,hT=>by obtain rfl:R=i:=hi;exact B g l t a b hP hT
 |d+1,i,hi,g,l,t,a,b,hP,hT=>by
  have f:i<R:=Z
  have o:=hP.r.N j;have Q:¬l.q:=by rwa[hP.r.q]
  have S:=x Z;refine ajo o Q (by rwa[<-p Z]) f m (hP.r.M S) ((gN<|hP.r.r rb S id).trans<|y i f) (hP.r.M<|r i f) ((gN<|hP.r.r _ (r i f) id).trans<|z i f) λl1 t1 T c tf V C W s=> ?_;rw[<-p Z]at C;have X:=c.N o;have Y:¬l1.q:=by rwa[c.q]
  have hc:=RZ (kd:=kd) i;have hcq:=ajs (kd:=kd) i;by_cases h:kd i=1
  .rw[decide_eq_false (by simpa using h)]at s;refine ajq X Y (by rwa[c.d,hP.r.d]) C f m W s Z V (pE hP.jS λk e=>c.r k (Ã (hP.C k e).1) id) (λk e=>c.O k (hP.C k e).1) (λe=>by have:=o.fw T<|Ã (hP.C T e).1;omega) λD E iv' gt F G H I Hn hg K=> ?_;apply R3 j u v m p x y r z B d (i+1) Z _ D E iv' b (hP.kP j o h c tf F G H I Hn hg);have L:fN kd (i+1)=fN kd i+1:=by unfold fN;rw[tq h];simp
   rw[L];simp only[show¬(fN kd i+1<=fN kd i) by omega,if_false];exact K
  .rw[decide_eq_true (by simpa using h)]at s;refine ajp X Y C f m W s Z V (pE hP.mJ λk e=>c.r k (Ã (hP.I k e).1) id) (λk e=>c.O k (hP.I k e).1) λD E e F G H I K=> ?_;apply R3 j u v m p x y r z B d (i+1) Z _ D E a e (hP.ajz j o h c F G H I);have L:fN kd (i+1)=fN kd i:=by unfold fN;rw[vL h]
   rwa[L]
end
noncomputable def Zp:Ę:=lX Ĝ []
noncomputable def Zq (a b:Ï) (c:List é):Ý:=G ((base 29).at ⟨#[a,b,Å,Å,Å,Å,Å,Å,Å,Å,Å,Å,Å,Å,Å,Å,Å,Å,Å,Å,Å,Å,Å,Å,Å,Å,Å,Å,Å,Å,Å,Å,Å,Å,Å,Å,Å,Å,Å,Å,Å,Å,Å,Å,Å,Å,Å,Å],[]⟩ [ö Zp]) c
def ajA{c:é}{d:ŏ}{k:List ŷ}{K:Ý->ß->Array ž->Prop}{t u v:Tmp}(g:f.kind=Ğ)(j:y.defers=[])(l:P.funcs[f.fn]?=Â s)(e:s.results=#[.tmp t,.tmp u,.tmp v]) (h:K (G (c.at (d.put ((Q[i]?).bind (·.dst))<|ñ #[y.tmps.getD t Å,y.tmps.getD u Å,y.tmps.getD v Å])<|Ñ Q jJ::k) qX) w #[]): (stepG P yQ (G {f.at y L with mode:=.returning}<|c.at d (Ñ Q (i::jJ)::k)::qX) w).goes K:=by rwa[stepG_leave g j l (v:=ñ #[y.tmps.getD t Å,y.tmps.getD u Å,y.tmps.getD v Å]) (by simp[results,e,go_sem]) (by simp[results,e,go_sem]),Ģ]
structure Ho(kd:Nat->Int)(rq g:Nat->Nat)(R:Nat)(iv qv sv:Ï)(l l':ff):Prop where
 Y:gq fi l l'
 jS:l'.w.ownsRow 0 148 4 iv (fN kd R) (jS kd rq g R)
 mJ:l'.w.ownsRow 0 148 4 qv (jy kd R).length (mJ kd rq g R)
 r:∀k,iv.ownBlock=Â k->l'.O k/\l.w.heap.size<=k
 C:∀k,qv.ownBlock=Â k->l'.O k/\l.w.heap.size<=k
 dis:∀k,iv.ownBlock=Â k->qv.ownBlock≠Â k
 N:ie l' (g 0) (É #[Ê ê 0,Ê Ď 0,sv] 96)
 I:∀k,1<=k->k<=fN kd R->ie l' (g k) R2
 M:∀k,k<=fN kd R->l.w.heap.size<=g k/\iv.ownBlock≠Â (g k)/\qv.ownBlock≠Â (g k)
 S:∀k k',k<k'->k'<=fN kd R->g k<g k'
def ajB(w:ß)(a:Option â)(b c:Nat):(Ċ 96 #[(1,Æ a b c)]).run Ä w=.ok (Đ #[Ê ê 0,Ê Ď 0,Æ a b c]) w:=run_build w 96 _ _ fZ
def ajC(w:ß)(a:Option â)(b c:Nat):(Ċ 96 #[(1,Æ a b c)]).events Ä w #[]=#[]:=by unfold Ċ;simp only[Sem.events_bind];simp[go_sem]
section
variable{J:Jd}{l:ff}{ra:Option â}{rb cr R:Nat}{sa:Option â}{sn sc:Nat}{k:List ŷ}{kd:Nat->Int}{rq:Nat->Nat}
def ajD(j:gD l)(u:¬l.q)(I:l.d=0)(K:R<1000)(L:0<R->ra=Â ⟨rb,0,Á⟩)(z:0<R->l.M rb)(N:∀i,i<R->l.w.cell? ⟨rb,i,Á⟩=Â (À<|Â ⟨rq i,0,Á⟩))(B:∀i,i<R->l.M (rq i))(O:∀i,i<R->l.w.cell? ⟨rq i,4,Á⟩=Â (Ê Î<|kd i)) (P:∀g s b c,Ho kd rq g R b c (Æ sa sn sc) l s->fl Ä Ò J s (G (f.at (y.put ((Q[i]?).bind (·.dst))<|ñ #[b,c,À<|Â ⟨g<|fN kd R,0,Á⟩])<|Ñ Q jJ::k) qX)): fl Ä Ò J l (Zq (Æ ra R cr) (Æ sa sn sc)<|f.at y (Ñ Q (i::jJ)::k)::qX):=by
 have hF:=trivial;apply gl (n:=40) j.r;simp only[Zq];conv in Zp=>whnf
 repeat w_go fC
 refine Ë λ_ _=> ?_;refine rQ (v:=Đ #[Ê ê 0,Ê Ď 0,Æ sa sn sc]) U U (by k_ne) j.r u (λa r=> ?_) (λa r e p=> ?_) ?_
 .have h:=ajB a sa sn sc;go_simp
 .have h:=ajC a sa sn sc;simp[go_sem,h]at p
 walk_nrm;refine qU (V:=λp=>À<|Â ⟨p,0,Á⟩) (ob:=É #[Ê ê 0,Ê Ď 0,Æ sa sn sc] 96) U U (by k_ne) j.r u (λw=>by go_simp) (λw=>by simp[go_sem]) λa C=> ?_;walk_nrm;have p:gq fi l (gP l a<|É #[Ê ê 0,Ê Ď 0,Æ sa sn sc] 96):=oB j C;have t:ie (gP l a<|É #[Ê ê 0,Ê Ď 0,Æ sa sn sc] 96) a.heap.size (É #[Ê ê 0,Ê Ď 0,Æ sa sn sc] 96):=⟨Ç U,n7⟩;have D:=C.r;generalize gP l a (É #[Ê ê 0,Ê Ď 0,Æ sa sn sc] 96)=l₁ at p t|-;generalize a.heap.size=gt at t D|-;have m:=p.N j;have S:¬l₁.q:=by rwa[p.q]
 apply gl (n:=40) m.r;repeat w_bar fC
 w_go fC
 refine Ë λ_ _=> ?_;have T:=m.fw gt<|Ã t.ft;refine R3 m S (by rwa[p.d]) K L (λh=>p.M<|z h) (λi h=>(gN<|p.r rb (z Z) id).trans<|N i h) (λi h=>p.M<|B i h) (λi h=>(gN<|p.r _ (B i h) id).trans<|O i h) (λg s W b c h r=> ?_) R 0 Z (λ_=>gt) l₁ _ (Æ Á 0 0) (Æ Á 0 0) ⟨gq.fX m.r,⟨U,Ã ⟨U,U⟩⟩,⟨U,Ã ⟨U,U⟩⟩,λk e=>(by cases e),λk e=>(by cases e),λk e=>(by cases e),λk x o=> ?_,T,rfl,λk X x o=> ?_⟩ ⟨rfl,rfl,rfl,rfl,rfl,rfl,rfl⟩
 .have Y:=h.r.N m;obtain⟨y0,y1,y2,y3,E,F,y6,y7,y8,y9,xo,zj,xp,rR,s7,qP,vF,vG,uF,uG,uH,s8,s9,td,rK,sY,rL,pA,oz,qa,qc,qd,uk,sZ,s5,rM,rN,um,uo,uq,uu,uw,uy,uz,uA,uB,qe,qf,rfl⟩:=KX W r.r;obtain rfl:b=E:=(show E=b by simpa using r.N).symm;obtain rfl:c=F:=(show F=c by simpa using r.S).symm;obtain rfl:y6=À (Â ⟨g<|fN kd R,0,Á⟩):=by simpa using r.Y
  obtain rfl:rR=Æ ra R cr:=by simpa using r.C
  obtain rfl:s7=Ê Î R:=by simpa using r.I
  obtain rfl:qP=Ê Î R:=by simpa using r.M
  have gT:¬((R:Int)<(R:Int)):=Z
  apply gl (n:=40) Y.r;simp only[BR];conv in Hl=>whnf
  conv in RN=>whnf
  repeat w_go fC
  u_in fC hF
  refine ajA U U ų U ⟨by u_nil,?_⟩;walk_nrm;refine Ë λ_ _=> ?_;have H:=h.S;refine P g s b c ⟨p.fh h.r,h.jS,h.mJ,λk e=>⟨(h.C k e).1,Õ p.I (h.C k e).2⟩,λk e=>⟨(h.I k e).1,Õ p.I (h.I k e).2⟩,h.M,H▸t.r h.r id,λk x o=>(h.N k x o).1,λk hk=> ?_,h.Y⟩;by_cases h0:k=0
  .subst h0;rw[H];exact⟨D,λe=>by have:=(h.C _ e).2;omega,λe=>by have:=(h.I _ e).2;omega⟩
  .let⟨_,a2,a3,a4⟩:=h.N k Z hk;exact⟨Õ p.I a2,a3,a4⟩
 .have:k<=0:=o;omega
 .have:X<=0:=o;omega
end
noncomputable def Zr:Ę:=lX Tryz.f20 []
noncomputable def Ek (a b:Ï) (n:Nat) (c:List é):Ý:=G ((base 20).at ⟨#[a,b,Ê Î n,Å,Å,Å,Å,Å,Å,Å,Å,Å,Å,Å,Å,Å,Å,Å,Å,Å,Å,Å,Å,Å,Å,Å,Å,Å,Å,Å,Å,Å,Å,Å,Å,Å,Å,Å,Å,Å,Å,Å,Å,Å,Å,Å,Å,Å,Å],[]⟩ [ö Zr]) c
def Ho.xy{kd:Nat->Int}{rq:Nat->Nat}{R:Nat}{l a b:ff}(h:Ho kd rq D R v x z l a)(k:gq fi a b):Ho kd rq D R v x z l b:= ⟨h.Y.fh k,pE h.jS λj e=>k.r j (Ã (h.r j e).1) id,pE h.mJ λj e=>k.r j (Ã (h.C j e).1) id,λj e=>⟨k.O j (h.r j e).1,(h.r j e).2⟩,λj e=>⟨k.O j (h.C j e).1,(h.C j e).2⟩,h.dis,h.N.r k id,λj c d=>(h.I j c d).r k id,h.M,h.S⟩
abbrev xA(R:Nat):Ÿ:=É (madeCells (Ŵ<|à ⟨#[]⟩) R) 9
structure K0(kd:Nat->Int)(rq g:Nat->Nat)(R:Nat)(iv qv sv:Ï)(an ba bi all bw bf:Nat)(l lp l':ff):Prop where
 C:gq fi l l'
 r:Ho kd rq g R iv qv sv lp l'
 I:ie l' an (xA R)
 a:ie l' ba (É #[Æ (Â ⟨an,0,Á⟩) R R] 54)
 c:ie l' bi (É #[iv] 76)
 Y:ie l' all (É #[Ê ê 4294967296,Ê Ď 0] 88)
 d:ie l' bw (É #[À<|Â ⟨all,0,Á⟩] 155)
 b:ie l' bf (É #[Ĉ (ù 31) #[] #[À<|Â ⟨bi,0,Á⟩,À<|Â ⟨ba,0,Á⟩]] 1)
 M:l.w.heap.size<=an/\an<ba/\ba<lp.w.heap.size
 N:∀k,k<=fN kd R->g k<bi
 o3:∀k,iv.ownBlock=Â k->k<bi
 o4:∀k,qv.ownBlock=Â k->k<bi
 S:bi<all/\all<bw/\bw<bf
section
variable{J:Jd}{l:ff}{ra:Option â}{rb cr R:Nat}{sa:Option â}{sn sc:Nat}{kd:Nat->Int}{rq:Nat->Nat}
def ajE(C:gD l)(G:¬l.q)(hd:l.d=0)(hR:R<1000)(Hp:0<R->ra=Â ⟨rb,0,Á⟩)(vM:0<R->l.M rb)(Hq:∀i,i<R->l.w.cell? ⟨rb,i,Á⟩=Â (À<|Â ⟨rq i,0,Á⟩))(J6:∀i,i<R->l.M (rq i))(Hr:∀i,i<R->l.w.cell? ⟨rq i,4,Á⟩=Â (Ê Î<|kd i)) (hJ:∀g lp l' t iv qv H y z D W bf v1,K0 kd rq g R iv qv (Æ sa sn sc) H y z D W bf l lp l'->Hh y D (g<|fN kd R) n qv t->J l' (BA (À<|Â ⟨D,0,Á⟩) v1 (À<|Â ⟨D,0,Á⟩) (ñ #[]) W bf<|Eg t::qX)): fl Ä Ò J l (Ek (Æ sa sn sc) (Æ ra R cr) n qX):=by
 have hF:True:=trivial;have Zs:Ä.info? 9=Â Ġ:=Tryz.type9;have Pp:∀w:ß,(Ŏ 54 (Ê Î (R:Int))<|Ê Î (R:Int)).run Ä w=.ok (Æ (Â ⟨w.heap.size,0,Á⟩) R R) (w.alloc<|xA R):=λw=>by have:=run_makeSlice (P:=Ä) w 54 9 Ġ (à ⟨#[]⟩) ľ Zs U Î Î (R:Int) (R:Int) Z Z (by simp[Ġ];omega) (by simp[Ġ];omega) Z;simpa[Ġ]using this
 have hme:∀w:ß,(Ŏ 54 (Ê Î (R:Int))<|Ê Î (R:Int)).events Ä w #[]=#[]:=λw=>
  events_make (P:=Ä) w 54 9 Ġ (à ⟨#[]⟩) ľ Zs U Î Î (R:Int) (R:Int) Z Z (by simp[Ġ];omega) Z (by simp[Ġ];omega) _
 apply gl (n:=40) C.r;simp only[Ek];conv in Zr=>whnf
 repeat w_go fC
 refine Ë λ_ _=> ?_;refine qU (V:=λp=>Æ (Â ⟨p,0,Á⟩) R R) (ob:=xA R) U U (by k_ne) C.r G (λw=>by have k:=Pp w;go_simp) (λw=>by have k:=hme w;simp[go_sem,k]) λc m=> ?_;walk_nrm;have a:=oB (X:=fi) (ob:=xA R) C m;have r:ie (gP l c<|xA R) c.heap.size (xA R):=⟨Ç U,n7⟩;have han:l.w.heap.size<=c.heap.size:=m.r;generalize gP l c (xA R)=l1 at a r|-;generalize c.heap.size=H at r han|-;clear m c;have R4:gq fi l l1:=a;have R5:=R4.N C;have ajF:¬l1.q:=by rwa[R4.q]
 have auo:l.w.heap.size<=l1.w.heap.size:=a.I;clear a;have lan:=R5.fw H<|Ã r.ft;refine qU (V:=λp=>À<|Â ⟨p,0,Á⟩) (ob:=É #[Æ Á 0 0] 54) U U (by k_ne) R5.r ajF (λw=>by go_simp) (λw=>by simp[go_sem]) λc m=> ?_;walk_nrm;have a:=oB (X:=fi) (ob:=É #[Æ Á 0 0] 54) R5 m;have f:ie (gP l1 c<|É #[Æ Á 0 0] 54) c.heap.size (É #[Æ Á 0 0] 54):=⟨Ç U,n7⟩;have Zt:l1.w.heap.size<=c.heap.size:=m.r;generalize gP l1 c (É #[Æ Á 0 0] 54)=l2 at a f|-;generalize c.heap.size=y at f Zt|-;clear m c;have R6:gq fi l l2:=R4.fh a;replace r:=r.r a id;have R7:=R6.N C;have ajG:¬l2.q:=by rwa[R6.q]
 have aup:l1.w.heap.size<=l2.w.heap.size:=a.I;clear a;have lba:=R7.fw y<|Ã f.ft;refine G7 (p:=y) (off:=0) (v:=Æ (Â ⟨H,0,Á⟩) R R) (u:=Æ Á 0 0) U U (by k_ne) R7.r ajG f.ft (f.C U) (by simp[î,f.I]) U (λw o F=>by go_simp) (λw o F=>by simp[go_sem,á _ _ _ _ _ _ (show Ø (Æ (Â ⟨H,0,Á⟩) R R)=Ò from rfl),o,F]) ?_;have a:=KF (X:=λb=>b=y) (p:=y) (w':=l2.w.setCell ⟨y,0,Á⟩<|Æ (Â ⟨H,0,Á⟩) R R) R7 (fJ.fX _ _) f.ft U j4 λj E=>lu E;replace f:ie ({l2 with w:=l2.w.setCell ⟨y,0,Á⟩ (Æ (Â ⟨H,0,Á⟩) R R)}:ff) y (É #[Æ (Â ⟨H,0,Á⟩) R R] 54):=⟨f.ft,by show(l2.w.setCell ⟨y,0,Á⟩<|Æ (Â ⟨H,0,Á⟩) R R).heap[y]?=_;unfold þ;simp[í,f.I]⟩;generalize({l2 with w:=l2.w.setCell ⟨y,0,Á⟩ (Æ (Â ⟨H,0,Á⟩) R R)}:ff)=l3 at a f|-;have S:gq fi l l3:=R6.xy a λj E e=>by have:=C.fw j E;omega
 replace r:=r.r a Z;have Zu:=S.N C;have ajH:¬l3.q:=by rwa[S.q]
 have auq:l2.w.heap.size<=l3.w.heap.size:=a.I;clear a;apply gl (n:=20) Zu.r;iterate 5 w_go fC
 u_call ų fZ Ĝ fC hF
 refine Ë λ_ _=> ?_;refine ajD (l:=l3) (kd:=kd) (rq:=rq) (ra:=ra) (rb:=rb) (cr:=cr) (R:=R) (sa:=sa) (sn:=sn) (sc:=sc) Zu ajH (by rwa[S.d]) hR Hp (λh=>S.M<|vM h) (λi k=>(gN<|S.r rb (vM Z) id).trans<|Hq i k) (λi k=>S.M<|J6 i k) (λi k=>(gN<|S.r _ (J6 i k) id).trans<|Hr i k) λg B iv qv T=> ?_;walk_nrm;have a:=T.Y;have R8:gq fi l B:=S.fh a;replace r:=r.r a id;replace f:=f.r a id;have L:=R8.N C;have ajI:¬B.q:=by rwa[R8.q]
 have aur:l3.w.heap.size<=B.w.heap.size:=a.I;clear a;have ajJ:gq fi B B:=gq.fX L.r;obtain⟨I,K,rfl⟩:∃I K,iv=Æ I (fN kd R) K:=by
  rcases T.jS.2 with⟨k,s⟩|⟨b,N,Q,k,_⟩
  .exact⟨Á,0,by rwa[s]⟩
  .exact⟨_,_,k⟩
 have og:∀k,k<=fN kd R->g k<B.w.heap.size:=λk hk=>by
  by_cases s:k=0
  .subst s;exact L.fw _<|Ã T.N.ft
  .exact L.fw _<|Ã (T.I k Z hk).ft
 have oi:∀k,(Æ I (fN kd R) K).ownBlock=Â k->k<B.w.heap.size:=λk e=>L.fw _<|Ã (T.r k e).1;have oq:∀k,qv.ownBlock=Â k->k<B.w.heap.size:=λk e=>L.fw _<|Ã (T.C k e).1;apply gl (n:=20) L.r;iterate 4 w_go fC
 refine Ë λ_ _=> ?_;refine qU (V:=λp=>À<|Â ⟨p,0,Á⟩) (ob:=É #[Æ Á 0 0] 76) U U (by k_ne) L.r ajI (λw=>by go_simp) (λw=>by simp[go_sem]) λc m=> ?_;walk_nrm;have a:=oB (X:=fi) (ob:=É #[Æ Á 0 0] 76) L m;have s:ie (gP B c<|É #[Æ Á 0 0] 76) c.heap.size (É #[Æ Á 0 0] 76):=⟨Ç U,n7⟩;have R9:B.w.heap.size<=c.heap.size:=m.r;generalize gP B c (É #[Æ Á 0 0] 76)=l5 at a s|-;generalize c.heap.size=z at s R9|-;clear m c;have Sb:gq fi l l5:=R8.fh a;have ajK:gq fi B l5:=ajJ.fh a;replace r:=r.r a id;replace f:=f.r a id;have Sc:=Sb.N C;have ajL:¬l5.q:=by rwa[Sb.q]
 have aus:B.w.heap.size<=l5.w.heap.size:=a.I;clear a;have lbi:=Sc.fw z<|Ã s.ft;refine G7 (p:=z) (off:=0) (v:=Æ I (fN kd R) K) (u:=Æ Á 0 0) U U (by k_ne) Sc.r ajL s.ft (s.C U) (by simp[î,s.I]) U (λw o F=>by go_simp) (λw o F=>by simp[go_sem,á _ _ _ _ _ _ (show Ø (Æ I (fN kd R) K)=Ò from rfl),o,F]) ?_;have a:=KF (X:=λb=>b=z) (p:=z) (w':=l5.w.setCell ⟨z,0,Á⟩<|Æ I (fN kd R) K) Sc (fJ.fX _ _) s.ft U j4 λj E=>lu E;replace s:ie ({l5 with w:=l5.w.setCell ⟨z,0,Á⟩ (Æ I (fN kd R) K)}:ff) z (É #[Æ I (fN kd R) K] 76):=⟨s.ft,by show(l5.w.setCell ⟨z,0,Á⟩<|Æ I (fN kd R) K).heap[z]?=_;unfold þ;simp[í,s.I]⟩;generalize({l5 with w:=l5.w.setCell ⟨z,0,Á⟩ (Æ I (fN kd R) K)}:ff)=l6 at a s|-;have Sd:gq fi l l6:=Sb.xy a λj E e=>by have:=C.fw j E;omega
 have ajM:gq fi B l6:=ajK.xy a λj E e=>by have:=L.fw j E;omega
 replace r:=r.r a Z;replace f:=f.r a Z;have Se:=Sd.N C;have ajN:¬l6.q:=by rwa[Sd.q]
 have aut:l5.w.heap.size<=l6.w.heap.size:=a.I;clear a;apply gl (n:=20) Se.r;iterate 5 w_go fC
 refine Ë λ_ _=> ?_;refine qU (V:=λp=>À<|Â ⟨p,0,Á⟩) (ob:=É #[Ê ê 0,Ê Ď 0] 88) U U (by k_ne) Se.r ajN (λw=>by go_simp) (λw=>by simp[go_sem]) λc m=> ?_;walk_nrm;have a:=oB (X:=fi) (ob:=É #[Ê ê 0,Ê Ď 0] 88) Se m;have F:ie (gP l6 c<|É #[Ê ê 0,Ê Ď 0] 88) c.heap.size (É #[Ê ê 0,Ê Ď 0] 88):=⟨Ç U,n7⟩;have nG:l6.w.heap.size<=c.heap.size:=m.r;generalize gP l6 c (É #[Ê ê 0,Ê Ď 0] 88)=l7 at a F|-;generalize c.heap.size=D at F nG|-;clear m c;have Sf:gq fi l l7:=Sd.fh a;have ajO:gq fi B l7:=ajM.fh a;replace r:=r.r a id;replace f:=f.r a id;replace s:=s.r a id;have K1:=Sf.N C;have ajP:¬l7.q:=by rwa[Sf.q]
 have auu:l6.w.heap.size<=l7.w.heap.size:=a.I;clear a;have auv:=K1.fw D<|Ã F.ft;apply gl (n:=20) K1.r;iterate 4 w_go fC
 u_call Ħ fZ Μ fC hF
 iterate 2 w_go fC
 refine Ë λ_ _=> ?_;refine qU (V:=λp=>À<|Â ⟨p,0,Á⟩) (ob:=É #[À<|Â ⟨D,0,Á⟩] 155) U U (by k_ne) K1.r ajP (λw=>by go_simp) (λw=>by simp[go_sem]) λc m=> ?_;walk_nrm;have a:=oB (X:=fi) (ob:=É #[À<|Â ⟨D,0,Á⟩] 155) K1 m;have N:ie (gP l7 c<|É #[À<|Â ⟨D,0,Á⟩] 155) c.heap.size (É #[À<|Â ⟨D,0,Á⟩] 155):=⟨Ç U,n7⟩;have BM:l7.w.heap.size<=c.heap.size:=m.r;generalize gP l7 c (É #[À<|Â ⟨D,0,Á⟩] 155)=l8 at a N|-;generalize c.heap.size=W at N BM|-;clear m c;have Sg:gq fi l l8:=Sf.fh a;have ajQ:gq fi B l8:=ajO.fh a;replace r:=r.r a id;replace f:=f.r a id;replace s:=s.r a id;replace F:=F.r a id;have Si:=Sg.N C;have ajR:¬l8.q:=by rwa[Sg.q]
 have auw:l7.w.heap.size<=l8.w.heap.size:=a.I;clear a;have lbw:=Si.fw W<|Ã N.ft;refine qU (V:=λp=>À<|Â ⟨p,0,Á⟩) (ob:=É #[Ĉ (ù 31) #[] #[À<|Â ⟨z,0,Á⟩,À<|Â ⟨y,0,Á⟩]] 1) U U (by k_ne) Si.r ajR (λw=>by go_simp) (λw=>by simp[go_sem]) λc m=> ?_;walk_nrm;have a:=oB (X:=fi) (ob:=É #[Ĉ (ù 31) #[] #[À<|Â ⟨z,0,Á⟩,À<|Â ⟨y,0,Á⟩]] 1) Si m;have Y:ie (gP l8 c<|É #[Ĉ (ù 31) #[] #[À<|Â ⟨z,0,Á⟩,À<|Â ⟨y,0,Á⟩]] 1) c.heap.size (É #[Ĉ (ù 31) #[] #[À<|Â ⟨z,0,Á⟩,À<|Â ⟨y,0,Á⟩]] 1):=⟨Ç U,n7⟩;have KU:l8.w.heap.size<=c.heap.size:=m.r;generalize gP l8 c (É #[Ĉ (ù 31) #[] #[À<|Â ⟨z,0,Á⟩,À<|Â ⟨y,0,Á⟩]] 1)=l9 at a Y|-;generalize c.heap.size=bf at Y KU|-;clear m c;have K2:gq fi l l9:=Sg.fh a;have ajS:gq fi B l9:=ajQ.fh a;replace r:=r.r a id;replace f:=f.r a id;replace s:=s.r a id;replace F:=F.r a id;replace N:=N.r a id;have Hs:=K2.N C;have Zv:¬l9.q:=by rwa[K2.q]
 have auy:l8.w.heap.size<=l9.w.heap.size:=a.I;clear a;have lbf:=Hs.fw bf<|Ã Y.ft;apply gl (n:=20) Hs.r;iterate 3 w_go fC
 refine Ë λ_ _=> ?_;apply pC (x:=⟨W,0,Á⟩) U U (by k_ne) Hs.r Zv (Ã<|Ã N.ft) (N.C U) (λw h=>by go_simp) (λw h=>by simp[go_sem,h]);walk_nrm;apply gl (n:=20) Hs.r;u_call qO.f_add (nm_add Lk) addFn fC hF;refine Ë λ_ _=> ?_;refine Zi qO Hs Zv (by rwa[K2.d]) F.ft F.I U U λQ hC=> ?_;walk_nrm;have a:gq (λb=>b=D) l9 Q:=hC.r;replace F:ie Q D (É #[Ê ê 4294967296,Ê Ď 0] 88):=⟨hC.r.O D F.ft,hC.C⟩;have Sj:gq fi l Q:=K2.xy a λj E e=>by have:=C.fw j E;omega
 have ajT:gq fi B Q:=ajS.xy a λj E e=>by have:=L.fw j E;omega
 replace r:=r.r a Z;replace f:=f.r a Z;replace s:=s.r a Z;replace N:=N.r a Z;replace Y:=Y.r a Z;have ajU:=Sj.N C;have auz:¬Q.q:=by rwa[Sj.q]
 have auA:l9.w.heap.size<=Q.w.heap.size:=a.I;clear a;apply gl (n:=20) ajU.r;iterate 3 w_go fC
 refine Ë λ_ _=> ?_;refine .fD λBP xx=> ?_;have at9:∀{b:Nat} {o:Ÿ},ie Q b o->ie ({Q with w:=BP}:ff) b o:=λh=>⟨h.ft,(xx.I _<|Ã h.ft).trans h.I⟩;exact hJ g l3 {Q with w:=BP} _ (Æ I (fN kd R) K) qv H y z D W bf _ ⟨Sj.G xx,T.xy<|ajT.G xx,at9 r,at9 f,at9 s,at9 F,at9 N,at9 Y,⟨Z,Z,Z⟩,λk hk=>by have:=og k hk;omega,λk e=>by have:=oi k e;omega,λk e=>by have:=oq k e;omega,⟨Z,Z,Z⟩⟩ ⟨U,U,U,U,U,U⟩
end
def ajV{md:ý}{listed:Array Bool}(h:Û md Q listed=[]):∀(a t:Nat),ë md Q a t listed []=[]:=by
 intro a t;cases a with
 |zero=>rfl
 |succ a=>
  simp only[ë];change(match(Û md Q listed)[t%(Û md Q listed).length]? with
   |some i=>ë md Q a (t/(Û md Q listed).length) (listed.setIfInBounds i Ò) [i]
   |none=>[].reverse)=[]
  rw[h];rfl
section
variable{J:Jd}{l:ff}
def Zw{md:ý}(I:Array Bool->ŏ->ff->Prop) (p:∀b a l i k,I b a l->b.size=Q.size->i∈Û md Q b->(Û md Q (b.setIfInBounds i Ò)=[]->k=[])->fl P yQ (λg m=>(∃h,m=G (f.at h<|Ñ Q k::L) qX/\I (b.setIfInBounds i Ò) h g)\/fl P yQ J g m) l (G (f.at a<|Ñ Q (i::k)::L) qX)) (o:∀b a l,I b a l->b.size=Q.size->Û md Q b=[]->fl P yQ J l (G (f.at a<|Ñ Q []::L) qX)): ∀(c t:Nat) (b:Array Bool) (a:ŏ) (l:ff),b.size=Q.size->jr b<=c->I b a l->fl P yQ J l (G (f.at a<|Ñ Q (ë md Q c t b [])::L) qX):=by
 intro c
 induction c with
 |zero=>
  intro t b a l d q j;simpa[ë]using o b a l j d<|Q6 d Z
 |succ c r=>
  intro t b a l d q j;simp only[ë];change fl P yQ J l (G (f.at a (Ñ Q (match(Û md Q b)[t%(Û md Q b).length]? with
   |some i=>ë md Q c (t/(Û md Q b).length) (b.setIfInBounds i Ò) [i]
   |none=>[].reverse)::L)) qX)
  cases n:(Û md Q b)[t%(Û md Q b).length]? with
  |none=>
   have s:Û md Q b=[]:=by
    cases u:Û md Q b with
    |nil=>rfl
    |cons x e=>
     rw[u]at n;have v:t%(x::e).length<(x::e).length:=Ĵ _ fq;simp at n;simp at v;omega
   simpa using o b a l j d s
  |some i=>
   simp only[];rw[linearise_go_acc,List.reverse_singleton,List.singleton_append];have x:=ħ n;refine(p b a l i _ j d x λe=>ajV e _ _).lS ?_;rintro g m (⟨h,rfl,hI'⟩|hW)
   .exact r _ _ h g (by simpa using d) (by have:=Ku (mem_ready.1 x).1;omega) hI'
   .exact hW
def ajW{id:Nat}(I:Array Bool->ŏ->ff->Prop)(o:ko l)(p:¬l.q) (g:∀c,fJ l l.w c->I (Array.replicate Q.size Ì) y {l with w:={c with drawn:=c.drawn+1}}) (h:∀d b y l i e,I b y l->b.size=Q.size->i∈Û d Q b->(Û d Q (b.setIfInBounds i Ò)=[]->e=[])->fl P yQ (λj k=>(∃m,k=G (f.at m<|Ñ Q e::L) qX/\I (b.setIfInBounds i Ò) m j)\/fl P yQ J j k) l (G (f.at y<|Ñ Q (i::e)::L) qX)) (n:∀d b y l,I b y l->b.size=Q.size->Û d Q b=[]->fl P yQ J l (G (f.at y<|Ñ Q []::L) qX)): fl P yQ J l (G (f.at y<|ö (ä id Q Ò)::L) qX):=by
 refine .mk U λc r=>⟨_,_,_,_,stepG_region_draw,Q5 (mI o r) p,?_⟩;unfold Region.schedule;split
 .exact Zw I (h _) (n _) _ _ _ _ _ fq (by rw[DN];exact Ú _)<|g c r
 .exact Zw I (h _) (n _) _ _ _ _ _ fq (by rw[DN];exact Ú _)<|g c r
end
def BS:å:=⟨Â 15,ę<|Ù 1,91, "work.go:72",#[],Á⟩
def BT:å:=⟨Â 16,ę<|Ù 4,3, "work.go:72",#[],Á⟩
def BU:å:=⟨Â 17,ę<|Ù 1,91, "work.go:72",#[],Á⟩
def xB:å:=⟨Â 18,Ě {callee:=Ŕ .len,args:=#[Ù 17],argTypes:=#[91]},3, "work.go:72",#[⟨2,Ü⟩],Á⟩
def uK:å:=⟨Â 19,Κ .rem 3 (Ù 16) (Ù 18) 3,3, "work.go:72",#[⟨1,Ü⟩,⟨3,Ü⟩],Á⟩
def uL:å:=⟨Â 20,ő 91 (Ù 15)<|Ù 19,0, "work.go:72",#[⟨0,Ü⟩,⟨4,Ü⟩],Á⟩
def xC:å:=⟨Â 21,ć 92<|Ù 20,92, "work.go:72",#[⟨5,Ü⟩],Á⟩
def BV:å:=⟨Â 22,ć 148<|Ù 5,148, "work.go:72",#[],Á⟩
def xD:å:=⟨Á,.send (Ù 21)<|Ù 22,0, "work.go:72",#[⟨6,Ü⟩,⟨7,Ü⟩],Á⟩
def n9:Array å:=#[BS,BT,BU,xB,uK,uL,xC,BV,xD]
noncomputable def K3:Ę:=lX Ŗ [1,1,0,0]
noncomputable def Zx:Ę:=lX Ŗ [1]
noncomputable def K4:Ę:=lX Ŗ [0,1,0,0]
noncomputable def BW (t:Array Ï) (a:List é):Ý:=G ((base 35).at ⟨t,[]⟩ [ö K4,ą K4,ô 0,ö Zx]) a
structure DT(dv:Ï)(qb:Option â)(q cq i:Nat)(t:Array Ï):Prop where
 r:t.size=32
 C:t[1]?=Â dv
 t8:t[8]?=Â (Æ qb q cq)
 M:t[9]?=Â (Ê Î q)
 I:t[10]?=Â (Ê Î i)
def Ht(t:Array Ï)(h:t.size=32):∃a b c d e f g i j k l m n o p q r s u v w x y z B C D E F G H I:Ï,t=#[a,b,c,d,e,f,g,i,j,k,l,m,n,o,p,q,r,s,u,v,w,x,y,z,B,C,D,E,F,G,H,I]:=by obtain⟨_,rfl⟩:=zg t h;exact⟨_,_,_,_,_,_,_,_,_,_,_,_,_,_,_,_,_,_,_,_,_,_,_,_,_,_,_,_,_,_,_,_,U⟩
def uM(c n i a d:Nat)(b tk:Ï)(_:Unit):Nat->Ï
 |0=>b
 |1=>Ê Î i
 |2=>b
 |3=>Ê Î n
 |4=>Ê Î a
 |5=>À<|Â ⟨c,a,Á⟩
 |6=>è<|Â d
 |7=>tk
 |_=>Å
def K5(a:ff)(listed:Array Bool)(_:Unit)(l:ff):Prop:=iG fi a l/\¬listed.getD 8 Ì=Ò
section
variable{J N:Jd}{p:ff}{g s:Nat}{u:Option â}
def ajX(El:gD p)(hq:¬p.q)(ht:d.size=32)(Bq:d[1]?=Â (Æ (Â ⟨j9,0,Á⟩) n j))(G4:d[4]?=Â (Ê Î i))(Rc:d[5]?=Â (À<|Â ⟨g,0,Á⟩))(z:p.O g)(T:p.O j9)(hn:0<n)(vN:n<1000)(hi1:i<1000) (Zy:i%n=j6) (V:p.w.cell? ⟨j9,j6,Á⟩=Â (è<|Â m)) (W:p.w.cell? ⟨g,0,Á⟩=Â (À u)) (X:p.w.cell? ⟨g,1,Á⟩=Â (Ê Î s)) (Y:p.w.cell? ⟨g,2,Á⟩=Â (À<|Â ⟨j7,0,Á⟩)) (c3:p.w.cell? ⟨g,3,Á⟩=Â (À O)) (hJ:∀l H,iG fi p l->H.size=32->(∀c,c<15->H[c]?=d[c]?)->AJ Ä Ò m (Đ #[À u,Ê Î s,À<|Â ⟨j7,0,Á⟩,À O]) N l (G ((base 35).at ⟨H,[]⟩<|Ñ n9 [8]::L) qX)->J l (G ((base 35).at ⟨H,[]⟩<|Ñ n9 [8]::L) qX)) (hN:∀l H,iG fi p l->H.size=32->(∀c,c<15->H[c]?=d[c]?)->fl Ä Ò N l (G ((base 35).at ⟨H,[]⟩<|Ñ n9 []::L) qX)) (md:ý) (listed:Array Bool) (a:ŏ) (l:ff) (i':Nat) (rest:List Nat) (hI:II n9 d (uM j9 n i j6 m (Æ (Â ⟨j9,0,Á⟩) n j)<|Đ #[À u,Ê Î s,À<|Â ⟨j7,0,Á⟩,À O]) (K5 p) listed a l) (kg:listed.size=n9.size) (C:i'∈Û md n9 listed) (Hu:Û md n9 (listed.setIfInBounds i' Ò)=[]->rest=[]): fl Ä Ò (λD F=>(∃Q,F=G ((base 35).at Q<|Ñ n9 rest::L) qX/\II n9 d (uM j9 n i j6 m (Æ (Â ⟨j9,0,Á⟩) n j)<|Đ #[À u,Ê Î s,À<|Â ⟨j7,0,Á⟩,À O]) (K5 p) (listed.setIfInBounds i' Ò) Q D)\/fl Ä Ò J D F) l (G ((base 35).at a<|Ñ n9 (i'::rest)::L) qX):=by
 let⟨x,t,S,h8⟩:=hI;have I:uC n9 d.size=Ò:=by rw[ht];decide
 have gT:=DR C;have K:=S.fw;have M:¬l.q:=by rwa[S.q]
 have ml:a.tmps[1]?=Â (Æ (Â ⟨j9,0,Á⟩) n j):=(t.C A).trans Bq;have RL:a.tmps[4]?=Â (Ê Î i):=(t.C A).trans G4;have uE:a.tmps[5]?=Â (À<|Â ⟨g,0,Á⟩):=(t.C A).trans Rc;have y:∀b f v,p.O b->p.w.cell? ⟨b,f,Á⟩=Â v->hD l ⟨b,f,Á⟩/\l.w.cell? ⟨b,f,Á⟩=Â v:=λb f v E h=>⟨Ã<|Ã<|S.O b E,by rwa[gN<|S.r b<|Ã E]⟩;have P:∀{k:Nat},k≠8->∀B,fJ l l.w B->K5 p (listed.setIfInBounds k Ò) () {l with w:=B}:=λhm B r=>⟨S.N (λ_ q=>q.elim) r,by rwa[ç Ì hm]⟩;have ajY:j6<n:=by rw[<-Zy];exact Ĵ _ hn
 have ajZ:(j6:Int)<(n:Int):=Z
 have Hv:¬(n:Int)=0:=Z
 have aj0:¬n=0:=Z
 have htm:Int.tmod (i:Int) (n:Int)=(j6:Int):=by rw[Int.tmod_eq_emod_of_nonneg Z,<-Zy];simp
 have oy:Î.wrap (j6:Int)=(j6:Int):=Bt Z Z;have K6:n9.size=9:=A
 rw[K6]at gT;match i',gT with
 |0,_=>
  refine(iq (o:=BS) I t U U C (by k_ne) K M (λB r=> ?_) (λB r e D=> ?_)<|P A).fQ λ_ _ h=>Ã h
  .simp only[uM,BS];go_simp
  .simp[go_sem,BS,ml]at D
 |1,_=>
  refine(iq (o:=BT) I t U U C (by k_ne) K M (λB r=> ?_) (λB r e D=> ?_)<|P A).fQ λ_ _ h=>Ã h
  .simp only[uM,BT];go_simp
  .simp[go_sem,BT,RL]at D
 |2,_=>
  refine(iq (o:=BU) I t U U C (by k_ne) K M (λB r=> ?_) (λB r e D=> ?_)<|P A).fQ λ_ _ h=>Ã h
  .simp only[uM,BU];go_simp
  .simp[go_sem,BU,ml]at D
 |3,_=>
  have F:a.tmps[17]?=Â (Æ (Â ⟨j9,0,Á⟩) n j):=t.r 2 BU 17 U (il (o:=xB) C U U) U;refine(iq (o:=xB) I t U U C (by k_ne) K M (λB r=> ?_) (λB r e D=> ?_)<|P A).fQ λ_ _ h=>Ã h
  .simp only[uM,xB];go_simp
  .simp[go_sem,xB,F]at D
 |4,_=>
  have F:a.tmps[16]?=Â (Ê Î i):=t.r 1 BT 16 U (il (o:=uK) C U U) U;have Q:a.tmps[18]?=Â (Ê Î n):=t.r 3 xB 18 U (il (o:=uK) C U U) U;refine(iq (o:=uK) I t U U C (by k_ne) K M (λB r=> ?_) (λB r e D=> ?_)<|P A).fQ λ_ _ h=>Ã h
  .simp only[uM,uK];go_simp
  .simp[go_sem,uK,F,Q,Hv,aj0,htm,oy]at D
 |5,_=>
  have F:a.tmps[15]?=Â (Æ (Â ⟨j9,0,Á⟩) n j):=t.r 0 BS 15 U (il (o:=uL) C U U) U;have Q:a.tmps[19]?=Â (Ê Î j6):=t.r 4 uK 19 U (il (o:=uL) C U U) U;refine(iq (o:=uL) I t U U C (by k_ne) K M (λB r=> ?_) (λB r e D=> ?_)<|P A).fQ λ_ _ h=>Ã h
  .simp only[uM,uL];go_simp
  .simp[go_sem,uL,F,Q,ajY,ajZ]at D
 |6,_=>
  have Q:a.tmps[20]?=Â (À<|Â ⟨j9,j6,Á⟩):=t.r 5 uL 20 U (il (o:=xC) C U U) U;refine(iq (o:=xC) I t U U C (by k_ne) K M (λB r=> ?_) (λB r e D=> ?_)<|P A).fQ λ_ _ h=>Ã h
  .have F:=((y j9 _ _ T V).1.r r).trans (y j9 _ _ T V).2;simp only[uM,xC];go_simp
  .have F:=((y j9 _ _ T V).1.r r).trans (y j9 _ _ T V).2;have hee:e=⟨û ⟨j9,j6,Á⟩,Ì,Ì⟩:=by simp[go_sem,xC,F,Q]at D;exact D
   subst hee;exact(y j9 _ _ T V).1.C
 |7,_=>
  refine(iq (o:=BV) I t U U C (by k_ne) K M (λB r=> ?_) (λB r e D=> ?_)<|P A).fQ λ_ _ h=>Ã h
  .have F:=((y g _ _ z W).1.r r).trans (y g _ _ z W).2;have Q:=((y g _ _ z X).1.r r).trans (y g _ _ z X).2;have qT:=((y g _ _ z Y).1.r r).trans (y g _ _ z Y).2;have uI:=((y g _ _ z c3).1.r r).trans (y g _ _ z c3).2;simp only[uM,BV];go_simp
  .have F:=((y g _ _ z W).1.r r).trans (y g _ _ z W).2;have Q:=((y g _ _ z X).1.r r).trans (y g _ _ z X).2;have qT:=((y g _ _ z Y).1.r r).trans (y g _ _ z Y).2;have uI:=((y g _ _ z c3).1.r r).trans (y g _ _ z c3).2;simp[go_sem,BV,uE,F,Q,qT,uI]at D;rcases D with rfl|rfl|rfl|rfl
   .exact(y g _ _ z W).1.C
   .exact(y g _ _ z X).1.C
   .exact(y g _ _ z Y).1.C
   .exact(y g _ _ z c3).1.C
 |8,_=>
  have d6:=il (j:=6) (o:=xD) C U U;have d7:=il (j:=7) (o:=xD) C U U;have Rr:a.tmps[21]?=Â (è<|Â m):=t.r 6 xC 21 U d6 U;have GX:a.tmps[22]?=Â (Đ #[À u,Ê Î s,À<|Â ⟨j7,0,Á⟩,À O]):=t.r 7 BV 22 U d7 U;have d5:=t.I (j:=5) (o:=xC) U d6 U;have d0:=t.I (j:=0) (o:=uL) U d5 U;have d4:=t.I (j:=4) (o:=uL) U d5 U;have d1:=t.I (j:=1) (o:=uK) U d4 U;have d3:=t.I (j:=3) (o:=uK) U d4 U;have d2:=t.I (j:=2) (o:=xB) U d3 U;have nG:Û md n9 (listed.setIfInBounds 8 Ò)=[]:=by
   rw[List.eq_nil_iff_forall_not_mem];intro f hj;have Em:=DR hj;have F:=Q9 hj;rw[K6]at Em;by_cases Q:f=8
   .subst Q;have D:8<listed.size:=by rw[kg,K6];decide
    simp[D]at F
   .rw[ç Ò<|Ne.symm Q]at F;have D:=xm F;match f,Em,Q with
    |0,_,_=>exact D d0
    |1,_,_=>exact D d1
    |2,_,_=>exact D d2
    |3,_,_=>exact D d3
    |4,_,_=>exact D d4
    |5,_,_=>exact D d5
    |6,_,_=>exact D d6
    |7,_,_=>exact D d7
    |8,_,h=>exact h U
  obtain rfl:=Hu nG;let⟨F,ds⟩:=a;obtain rfl:ds=[]:=t.S;have Hw:F.size=32:=t.M.trans ht;have K7:∀c,c<15->F[c]?=d[c]?:=λc hd=>t.Y c λf o E _ e=>by
   have Em:=(æ.1 E).1;rw[K6]at Em;match f,Em with
   |0,_=>
    have D:o=BS:=(Ó<|show Â BS=Â o from E).symm;rw[D]at e;have Q:15=c:=Ó (show Â 15=Â c from e);omega
   |1,_=>
    have D:o=BT:=(Ó<|show Â BT=Â o from E).symm;rw[D]at e;have Q:16=c:=Ó (show Â 16=Â c from e);omega
   |2,_=>
    have D:o=BU:=(Ó<|show Â BU=Â o from E).symm;rw[D]at e;have Q:17=c:=Ó (show Â 17=Â c from e);omega
   |3,_=>
    have D:o=xB:=(Ó<|show Â xB=Â o from E).symm;rw[D]at e;have Q:18=c:=Ó (show Â 18=Â c from e);omega
   |4,_=>
    have D:o=uK:=(Ó<|show Â uK=Â o from E).symm;rw[D]at e;have Q:19=c:=Ó (show Â 19=Â c from e);omega
   |5,_=>
    have D:o=uL:=(Ó<|show Â uL=Â o from E).symm;rw[D]at e;have Q:20=c:=Ó (show Â 20=Â c from e);omega
   |6,_=>
    have D:o=xC:=(Ó<|show Â xC=Â o from E).symm;rw[D]at e;have Q:21=c:=Ó (show Â 21=Â c from e);omega
   |7,_=>
    have D:o=BV:=(Ó<|show Â BV=Â o from E).symm;rw[D]at e;have Q:22=c:=Ó (show Â 22=Â c from e);omega
   |8,_=>
    have D:o=xD:=(Ó<|show Â xD=Â o from E).symm;rw[D]at e;cases(show Á=Â c from e)
  refine .fD λB r=>Ç (.fD λwS D=> ?_);have Q:iG fi p ({l with w:=wS}:ff):=S.N (λ_ q=>q.elim)<|r.fh ⟨D.r,D.I,D.N,D.Y,D.S⟩;refine hJ _ F Q Hw K7 ⟨U,U,λD=>⟨ñ #[],?_⟩,?_⟩
  .refine(Ż (cases:=#[scase m (Đ #[À u,Ê Î s,À<|Â ⟨j7,0,Á⟩,À O])<|ñ #[]]) (blocking:=Ò) (shape:=.send) (w':=D) (o:=xD) rfl rfl (by k_ne) ?_).trans ?_
   .simp[go_sem,xD,ĉ,scase,ĥ,Rr,GX]
   .have:ŗ Ä (base 35).fn ⟨F,[]⟩ xD D=#[]:=by
     unfold ŗ;simp[go_sem,xD,ĉ,ĥ,Rr,GX,Ī]
    rw[this]
  .have e:({G ((base 35).at ⟨F,[]⟩<|Ñ n9 [8]::L) qX with frame:=(G ((base 35).at ⟨F,[]⟩<|Ñ n9 [8]::L) qX).frame.finish Å}:Ý)=G ((base 35).at ⟨F,[]⟩<|Ñ n9 []::L) qX:=by
    have:(G ((base 35).at ⟨F,[]⟩<|Ñ n9 [8]::L) qX).frame.finish Å=(base 35).at (Ο ⟨F,[]⟩ Á Å) (Ñ n9 []::L):=Ģ _ _ _ _ _ _ _;rw[this];rfl
   rw[e];exact hN _ F Q Hw K7
 |n+9,h=>exact absurd h Z
end
section
variable{N:Jd}{l:ff}{f:Option â}
theorem aj1(s:gD l)(K:¬l.q)(G:DT (Æ (Â ⟨J,0,Á⟩) n j) (Â ⟨j6,0,Á⟩) b m i d)(hiq:i<b)(BD:b<1000)(hn:0<n)(vN:n<1000)(Zz:l.O J)(cd:l.w.cell? ⟨J,i%n,Á⟩=Â (è<|Â k))(Sk:l.M j6) (i0:l.w.cell? ⟨j6,i*4,Á⟩=Â (À f)) (i1:l.w.cell? ⟨j6,i*4+1,Á⟩=Â (Ê Î j7)) (i2:l.w.cell? ⟨j6,i*4+2,Á⟩=Â (À<|Â ⟨j9,0,Á⟩)) (i3:l.w.cell? ⟨j6,i*4+3,Á⟩=Â (À O)) (hN:∀t H,iG fi l t->DT (Æ (Â ⟨J,0,Á⟩) n j) (Â ⟨j6,0,Á⟩) b m (i+1) H->fl Ä Ò N t (BW H qX)): fl Ä Ò (AJ Ä Ò k (Đ #[À f,Ê Î j7,À<|Â ⟨j9,0,Á⟩,À O]) N) l (BW d qX):=by
 obtain⟨y0,y1,y2,y3,y4,y5,y6,y7,y8,y9,xo,zj,xp,rR,s7,qP,vF,vG,uF,uG,uH,s8,s9,td,rK,sY,rL,pA,oz,qa,qc,qd,rfl⟩:=Ht d G.r;obtain rfl:y1=Æ (Â ⟨J,0,Á⟩) n j:=by simpa using G.C
 obtain rfl:y8=Æ (Â ⟨j6,0,Á⟩) b m:=by simpa using G.t8
 obtain rfl:y9=Ê Î b:=by simpa using G.M
 obtain rfl:xo=Ê Î i:=by simpa using G.I
 have rS:∀y:â,False->l.r y:=λy ha=>ha.elim;have auB:(i:Int)<(b:Int):=Z
 have hF:True:=trivial;simp only[BW];conv in K4=>whnf
 apply gl (n:=30) s.r;repeat w_go fC
 refine Ë λ_ _=> ?_;have g:∀c,hD l ⟨j6,c,Á⟩:=λc=>Ã Sk;refine rQ (v:=Đ #[À f,Ê Î j7,À<|Â ⟨j9,0,Á⟩,À O]) U U (by k_ne) s.r K (λo r=> ?_) (λo r e h=> ?_) ?_
 .have u:=((g<|i*4).r r).trans i0;have z:=((g<|i*4+1).r r).trans i1;have B:=((g<|i*4+2).r r).trans i2;have C:=((g<|i*4+3).r r).trans i3;go_simp
 .have u:=((g<|i*4).r r).trans i0;have z:=((g<|i*4+1).r r).trans i1;have B:=((g<|i*4+2).r r).trans i2;have C:=((g<|i*4+3).r r).trans i3;simp[go_sem,u,z,B,C]at h;rcases h with rfl|rfl|rfl|rfl
  .exact(g _).C
  .exact(g _).C
  .exact(g _).C
  .exact(g _).C
 walk_nrm;refine GY (ob:=É #[À Á,Ê Î 0,À Á,À Á] 148) U U (by k_ne) s.r K (λw=>by go_simp) (λw=>by simp[go_sem]) λo X=> ?_;walk_nrm;have D:iG fi l (gP l o<|É #[À Á,Ê Î 0,À Á,À Á] 148):=Kz s rS X;have L:(gP l o<|É #[À Á,Ê Î 0,À Á,À Á] 148).w.heap[o.heap.size]?=Â (É #[À Á,Ê Î 0,À Á,À Á] 148):=n7;have tf:l.w.heap.size<=o.heap.size:=X.r;have q:(gP l o<|É #[À Á,Ê Î 0,À Á,À Á] 148).O o.heap.size:=Ç U;generalize gP l o (É #[À Á,Ê Î 0,À Á,À Á] 148)=l₁ at D L q|-;generalize o.heap.size=tb at L q tf|-;apply gl (n:=3) D.fw;w_go fC;refine Ë λ_ _=> ?_;refine vC U U (by k_ne) λr P=> ?_;have E:r.heap[tb]?=_:=(P.I tb<|Ã q).trans L;have u:r.cell? ⟨tb,0,Á⟩=Â (À Á):=by simp[Ö,E]
 have z:r.cell? ⟨tb,1,Á⟩=Â (Ê Î 0):=by simp[Ö,E]
 have B:r.cell? ⟨tb,2,Á⟩=Â (À Á):=by simp[Ö,E]
 have C:r.cell? ⟨tb,3,Á⟩=Â (À Á):=by simp[Ö,E]
 have hz:∀c,r.frozen? ⟨tb,c,Á⟩=Ì:=λc=>by simp[î,E]
 go_simp;refine⟨{l₁ with w:=iV r tb (À f) (Ê Î j7) (À<|Â ⟨j9,0,Á⟩) (À O)},KA (p:=tb) (mI D.fw P) (by rwa[D.q]) q xn (λc x=>zf x) ⟨U,U,U⟩ λe h=> ?_,?_⟩
 .have a:=đ h;have e:∀c,qg l₁ ⟨tb,c,Á⟩:=λc=>Ã q;simp[go_sem,á _ _ _ _ _ _ (show Ø (À f)=Ò from rfl),á _ _ _ _ _ _ (show Ø (À<|Â ⟨j9,0,Á⟩)=Ò from rfl),á _ _ _ _ _ _ (show Ø (À O)=Ò from rfl),u,z,B,C,hz]at a;rcases a with rfl|rfl|rfl|rfl
  .exact(e _).r
  .exact(e _).r
  .exact(e _).r
  .exact(e _).r
 let⟨Q,S,T,V⟩:=Rk (v0:=À f) (v1:=Ê Î j7) (v2:=À<|Â ⟨j9,0,Á⟩) (v3:=À O) u z B C;have F:=Rl (w':=iV r tb (À f) (Ê Î j7) (À<|Â ⟨j9,0,Á⟩)<|À O) s rS D P tf xn λc x=>zf x;have Bu:({l₁ with w:=iV r tb (À f) (Ê Î j7) (À<|Â ⟨j9,0,Á⟩) (À O)}:ff).O tb:=q;replace Q:({l₁ with w:=iV r tb (À f) (Ê Î j7) (À<|Â ⟨j9,0,Á⟩) (À O)}:ff).w.cell? ⟨tb,0,Á⟩=_:=Q;replace S:({l₁ with w:=iV r tb (À f) (Ê Î j7) (À<|Â ⟨j9,0,Á⟩) (À O)}:ff).w.cell? ⟨tb,1,Á⟩=_:=S;replace T:({l₁ with w:=iV r tb (À f) (Ê Î j7) (À<|Â ⟨j9,0,Á⟩) (À O)}:ff).w.cell? ⟨tb,2,Á⟩=_:=T;replace V:({l₁ with w:=iV r tb (À f) (Ê Î j7) (À<|Â ⟨j9,0,Á⟩) (À O)}:ff).w.cell? ⟨tb,3,Á⟩=_:=V;generalize({l₁ with w:=iV r tb (À f) (Ê Î j7) (À<|Â ⟨j9,0,Á⟩) (À O)}:ff)=l₂ at Q S T V F Bu|-;clear L q D E u z B C hz P r l₁ X o;have W:=F.G s;have qi:¬l₂.q:=by rwa[F.q]
 have cd2:l₂.w.cell? ⟨J,i%n,Á⟩=Â (è<|Â k):=(gN<|F.r J<|Ã Zz).trans cd;apply gl (n:=5) W.r;w_go fC;refine Ë λ_ _=> ?_;refine ajW (II n9 #[y0,Æ (Â ⟨J,0,Á⟩) n j,y2,y3,Ê Î i,À<|Â ⟨tb,0,Á⟩,y6,y7,Æ (Â ⟨j6,0,Á⟩) b m,Ê Î b,Ê Î i,ŝ Ò,Ê Î i,À<|Â ⟨j6,i*4,Á⟩,Đ #[À f,Ê Î j7,À<|Â ⟨j9,0,Á⟩,À O],qP,vF,vG,uF,uG,uH,s8,s9,td,rK,sY,rL,pA,oz,qa,qc,qd] (uM J n i (i%n) k (Æ (Â ⟨J,0,Á⟩) n j)<|Đ #[À f,Ê Î j7,À<|Â ⟨j9,0,Á⟩,À O])<|K5 l₂) W.r qi (λa x=> ?_) (λY listed a t i' rest hI I e Hu=>ajX (J:=AJ Ä Ò k (Đ #[À f,Ê Î j7,À<|Â ⟨j9,0,Á⟩,À O]) N) (N:=N) W qi U U U U Bu (F.O J Zz) hn vN Z U cd2 Q S T V (λl H _ _ _ h=>h) (λt H hA hs h=> ?_) Y listed a t i' rest hI I e Hu) λY listed a ky hI I zk=> ?_
 .exact⟨(),mW.G _ _ _,(iG.fX W.r).N (λ_ b=>b.elim) ⟨x.r,x.I,x.N,x.Y,x.S⟩,A⟩
 .have x:=F.fh hA;have a:=(h 1 A).trans (show _=Â (Æ (Â ⟨J,0,Á⟩) n j)from U);have o8:=(h 8 A).trans (show _=Â (Æ (Â ⟨j6,0,Á⟩) b m)from U);have o9:=(h 9 A).trans (show _=Â (Ê Î b)from U);have o10:=(h 10 A).trans (show _=Â (Ê Î i)from U);clear h;obtain⟨x0,x1,x2,x3,x4,x5,x6,x7,x8,x9,YU,x11,x12,x13,x14,x15,x16,x17,x18,x19,x20,x21,x22,x23,x24,x25,x26,x27,x28,x29,x30,x31,rfl⟩:=Ht H hs;obtain rfl:x1=Æ (Â ⟨J,0,Á⟩) n j:=by simpa using a
  obtain rfl:x8=Æ (Â ⟨j6,0,Á⟩) b m:=by simpa using o8
  obtain rfl:x9=Ê Î b:=by simpa using o9
  obtain rfl:YU=Ê Î i:=by simpa using o10
  apply gl (n:=9) x.fw;iterate 7 w_go fC
  refine Ë λ_ _=> ?_;refine hN t _ x ⟨U,U,U,U,?_⟩;simp;grind [Bt]
 .let⟨x,a,h,h8⟩:=hI;have nG:∀i∈ã 9,listed.getD i Ì=Ò:=by
   cases Y
   .exact qh zk I (ã 9) [] fZ λi e=>by cases e
   .exact qh zk I (ã 9) [] fZ λi e=>by cases e
   .exact qh zk I (ã 9) [] fZ λi e=>by cases e
  grind
end
noncomputable def BX (t:Array Ï) (a:List é):Ý:=G ((base 35).at ⟨t,[]⟩ [ö K3,ą K3,ô 2]) a
structure ET(dv:Ï)(n j:Nat)(t:Array Ï):Prop where
 r:t.size=32
 aj2:t[24]?=Â dv
 C:t[25]?=Â (Ê Î n)
 I:t[26]?=Â (Ê Î j)
def Hx(t:Array Ï):é:=(base 20).at ⟨t,[]⟩ [Ñ KI [2],ö<|(ä 13 KJ Ì).seq KL]
def En(t:Array Ï)(a:List é):Ý:=G ((base 20).at ⟨t,[]⟩ [Ñ KJ [],ö KL]) a
structure SE(ba all n8:Nat)(t:Array Ï):Prop where
 r:t.size=49
 I:t[8]?=Â (À<|Â ⟨ba,0,Á⟩)
 C:t[11]?=Â (À<|Â ⟨n8,0,Á⟩)
 Rz:t[12]?=Â (À<|Â ⟨all,0,Á⟩)
section
variable{J a N:Jd}{l:ff}{t:Array Ï}{ba all n8:Nat}{dv:Ï}
def aj3(e:ko l)(a:ST ba all n8 n n (Æ O k j9) dv t)(f:∀b d,DT dv O k j9 0 b->SE ba all n8 d->fl Ä Ò J l (BW b<|Hx d::qX)):fl Ä Ò J l (Bz t qX):=by
 obtain⟨p,q,r,s,u,v,w,x,g,y,h,i,j,c,z,B,C,D,E,F,G,H,I,K,L,M,N,m,o,P,Q,S,T,V,W,X,Y,um,uo,uq,uu,uw,uy,uz,uA,uB,qe,qf,xj,rfl⟩:=Hi t a.r;obtain rfl:g=À (Â ⟨ba,0,Á⟩):=by simpa using a.a
 obtain rfl:h=Æ O k j9:=by simpa using a.C
 obtain rfl:i=À (Â ⟨n8,0,Á⟩):=by simpa using a.I
 obtain rfl:j=À (Â ⟨all,0,Á⟩):=by simpa using a.M
 obtain rfl:dv=c:=(show c=dv by simpa using a.N).symm;obtain rfl:m=Ê Î n:=by simpa using a.S
 obtain rfl:o=Ê Î n:=by simpa using a.Y
 have hF:True:=trivial;apply gl (n:=40) e;simp only[Bz,Ef,Rx];iterate 7 w_go fC
 simp only[KM,KI];iterate 4 w_go fC
 u_call ŵ fZ Ŗ fC hF
 iterate 9 w_go fC
 refine Ë λ_ _=> ?_;exact f _ _ ⟨U,U,U,U,U⟩ ⟨U,U,U,U⟩
def aj4(d:ko l)(a:DT (Æ (Â ⟨j7,0,Á⟩) n b) O k j9 k t)(e:∀c,ET (Æ (Â ⟨j7,0,Á⟩) n b) n 0 c->fl Ä Ò J l (BX c qX)):fl Ä Ò J l (BW t qX):=by
 obtain⟨i,f,j,m,o,p,q,r,s,g,h,u,v,w,x,y,z,B,C,D,E,F,G,H,I,K,L,M,N,P,Q,S,rfl⟩:=Ht t a.r;obtain rfl:f=Æ (Â ⟨j7,0,Á⟩) n b:=by simpa using a.C
 obtain rfl:g=Ê Î k:=by simpa using a.M
 obtain rfl:h=Ê Î k:=by simpa using a.I
 have hF:True:=trivial;apply gl (n:=40) d;simp only[BW];conv in K4=>whnf
 iterate 7 w_go fC
 conv in Zx=>whnf
 iterate 8 w_go fC
 refine Ë λ_ _=> ?_;exact e _ ⟨U,U,U,U⟩
def aj5(a:gD l)(g:¬l.q)(c:ET (Æ (Â ⟨j7,0,Á⟩) n b) n j t)(z:j<n)(B:n<1000)(i:l.O j7)(o:l.w.cell? ⟨j7,j,Á⟩=Â (è<|Â m)) (p:∀d e,iG fi l d->ET (Æ (Â ⟨j7,0,Á⟩) n b) n (j+1) e->fl Ä Ò N d (BX e qX)):fl Ä Ò (JD Ä Ò m N) l (BX t qX):=by
 obtain⟨C,D,F,G,H,I,J,K,L,M,P,Q,S,T,V,W,X,Y,uF,uG,uH,s8,s9,td,q,u,v,pA,oz,qa,qc,qd,rfl⟩:=Ht t c.r;obtain rfl:q=Æ (Â ⟨j7,0,Á⟩) n b:=by simpa using c.aj2
 obtain rfl:u=Ê Î n:=by simpa using c.C
 obtain rfl:v=Ê Î j:=by simpa using c.I
 have hF:True:=trivial;apply gl (n:=40) a.r;simp only[BX];conv in K3=>whnf
 repeat w_go fC
 refine Ë λ_ _=> ?_;apply pC (x:=⟨j7,j,Á⟩) U U (by k_ne) a.r g (Ã<|Ã i) o (λw h=>by go_simp) (λw h=>by simp[go_sem,h]);walk_nrm;apply gl (n:=40) a.r;iterate 4 w_go fC
 refine Ë λ_ _=> ?_;refine .fD λw₁ y=>⟨U,U,_,U,λwS cap buf s r tm h=>(stepG_close U U (by k_ne) U U h fZ).trans U,?_⟩;walk_nrm;have f:=(iG.fX (E:=fi) a.r).N (λ_ k=>k.elim) y;apply gl (n:=20) f.fw;iterate 7 w_go fC
 refine Ë λ_ _=> ?_;refine p _ _ f ⟨U,U,U,?_⟩;simp;exact Bt Z Z
def aj6(e:gD l)(g:l.d=0)(p:60<=i)(f:ET dv n n t)(c:SE ba all n8 d)(j:l.K ⟨all,0,Á⟩/\l.K ⟨all,1,Á⟩)(q:nF all l.w) (r:∀m o,iG fi l m->SE ba all n8 o->a m (En o qX)):fl Ä Ò (qL Ä Ò i all a .iZ) l (BX t<|Hx d::qX):=by
 obtain⟨G,H,I,J,L,M,N,P,Q,S,T,V,W,X,Y,qP,vF,vG,uF,uG,uH,s8,s9,td,rK,s,u,pA,oz,qa,qc,qd,rfl⟩:=Ht t f.r;obtain rfl:s=Ê Î n:=by simpa using f.C
 obtain rfl:u=Ê Î n:=by simpa using f.I
 have hF:True:=trivial;apply gl (n:=40) e.r;simp only[BX,Hx,KI];conv in K3=>whnf
 iterate 8 w_go fC
 obtain⟨z0,z1,z2,z3,z4,z5,z6,z7,v,z9,z10,x,y,z13,z14,z15,z16,z17,z18,z19,z20,z21,z22,z23,z24,z25,z26,z27,z28,z29,z30,z31,z32,z33,z34,z35,z36,z37,z38,z39,z40,z41,z42,z43,z44,z45,z46,z47,z48,rfl⟩:=Hi d c.r;obtain rfl:v=À (Â ⟨ba,0,Á⟩):=by simpa using c.I
 obtain rfl:x=À (Â ⟨n8,0,Á⟩):=by simpa using c.C
 obtain rfl:y=À (Â ⟨all,0,Á⟩):=by simpa using c.Rz
 u_leave0 ŵ fC hF
 simp only[KJ];iterate 3 w_go fC
 u_call qO.f_wait (nm_wait Lk) waitFn fC hF
 refine Ë λ_ _=> ?_;refine YD qO p (⟨Ã j.1,Ã j.2,λw z b B C D F h=>h.fh ⟨b,B,C,D,F⟩⟩) ⟨e.r,q,fJ.fX _ _⟩ g λz B=> ?_;walk_nrm;refine .fD λC b=> ?_;have h:=(iG.fX (E:=fi) e.r).N (λ_ k=>k.elim)<|B.2.2.fh ⟨b.r,b.I,b.N,b.Y,b.S⟩;exact r {l with d:=0,w:=C} _ ⟨h.O,h.h,h.Y,h.I,h.c,h.K,h.q,g.symm,h.fw,h.f,h.r,h.e,h.S,h.b,h.g⟩ ⟨U,U,U,U⟩
end
def vO(a:Nat)(b c:Ï)(_:Unit):Nat->Ï
 |0=>b
 |1=>À<|Â ⟨a,0,Á⟩
 |2=>À<|Â ⟨a,0,Á⟩
 |3=>À<|Â ⟨a,2,Á⟩
 |4=>c
 |5=>b
 |_=>c
def K8(a:ff)(_:Array Bool)(_:Unit)(l:ff):Prop:=gq fi a l
section
variable{J:Jd}{g:ff}{h:Option â}
def aj7(K:¬g.q)(N:q.size=49)(P:q[8]?=Â (À<|Â ⟨m,0,Á⟩))(Q:q[11]?=Â (À<|Â ⟨j9,0,Á⟩))(E:g.M m)(F:hD g ⟨j9,2,Á⟩)(S:g.w.cell? ⟨m,0,Á⟩=Â (Æ O b n))(T:g.w.cell? ⟨j9,2,Á⟩=Â (Æ h j6 j7)) (md:ý) (listed:Array Bool) (y:ŏ) (l:ff) (i:Nat) (jJ:List Nat) (V:II xt q (vO j9 (Æ O b n)<|Æ h j6 j7) (K8 g) listed y l) (k:i∈Û md xt listed): fl Ä Ò (λc d=>∃a,d=G ((base 20).at a<|Ñ xt jJ::L) qX/\II xt q (vO j9 (Æ O b n)<|Æ h j6 j7) (K8 g) (listed.setIfInBounds i Ò) a c) l (G ((base 20).at y<|Ñ xt (i::jJ)::L) qX):=by
 let⟨x,j,p⟩:=V;have s:uC xt q.size=Ò:=by rw[N];decide
 have H:=DR k;have t:=p.fw;have u:¬l.q:=by rwa[show l.q=g.q from p.q]
 have W:=(j.C A).trans P;have X:=(j.C A).trans Q;have B:hD l ⟨m,0,Á⟩:=Ã<|p.M E;have D:hD l ⟨j9,2,Á⟩:=F.imp (λa=>p.M a) λa=>by rwa[p.C]
 have I:=(gN<|p.r m E id).trans S;have J:l.w.cell? ⟨j9,2,Á⟩=Â (Æ h j6 j7):=by
  refine Ŀ ?_ T;rcases F with a|a
  .exact gN<|p.r _ a id
  .exact p.f _ a
 have v:∀{c:Nat},∀d,fJ l l.w d->K8 g (listed.setIfInBounds c Ò) () {l with w:=d}:=λd r=>p.G r;have Y:xt.size=7:=A
 rw[Y]at H;match i,H with
 |0,_=>
  refine iq (o:=G8) s j U U k (by k_ne) t u (λd r=> ?_) (λd r e f=> ?_) v
  .have z:=(B.r r).trans I;simp only[vO,G8];go_simp
  .have z:=(B.r r).trans I;simp[go_sem,G8,W,z]at f;subst f;exact B.C
 |4,_=>
  have h47:y.tmps[47]?=Â (À<|Â ⟨j9,2,Á⟩):=j.r 3 Hb 47 U (il k U U) U;refine iq (o:=Hc) s j U U k (by k_ne) t u (λd r=> ?_) (λd r e f=> ?_) v
  .have z:=(D.r r).trans J;simp only[vO,Hc];go_simp
  .have z:=(D.r r).trans J;simp[go_sem,Hc,h47,z]at f;subst f;exact D.C
 |1,_=>
  refine iq (o:=G9) s j U U k (by k_ne) t u (λd r=> ?_) (λd r e f=> ?_) v
  .simp only[vO,G9];go_simp
  .simp[go_sem,G9,X]at f
 |2,_=>
  have z:y.tmps[45]?=Â (À<|Â ⟨j9,0,Á⟩):=j.r 1 G9 45 U (il k U U) U;refine iq (o:=Ha) s j U U k (by k_ne) t u (λd r=> ?_) (λd r e f=> ?_) v
  .simp only[vO,Ha];go_simp
  .simp[go_sem,Ha,z]at f
 |3,_=>
  have z:y.tmps[46]?=Â (À<|Â ⟨j9,0,Á⟩):=j.r 2 Ha 46 U (il k U U) U;refine iq (o:=Hb) s j U U k (by k_ne) t u (λd r=> ?_) (λd r e f=> ?_) v
  .simp only[vO,Hb];go_simp
  .simp[go_sem,Hb,z]at f
 |5,_=>
  have z:y.tmps[44]?=Â (Æ O b n):=j.r 0 G8 44 U (il k U U) U;refine iq (o:=Hd) s j U U k (by k_ne) t u (λd r=> ?_) (λd r e f=> ?_) v
  .simp only[vO,Hd];go_simp
  .simp[go_sem,Hd,z]at f
 |6,_=>
  have z:y.tmps[48]?=Â (Æ h j6 j7):=j.r 4 Hc 48 U (il k U U) U;refine iq (o:=He) s j U U k (by k_ne) t u (λd r=> ?_) (λd r e f=> ?_) v
  .simp only[vO,He];go_simp
  .simp[go_sem,He,z]at f
def aj8(c:gD g)(t:¬g.q)(e:SE m j j9 d)(B:g.M m)(C:hD g ⟨j9,2,Á⟩)(D:g.w.cell? ⟨m,0,Á⟩=Â (Æ O b n))(E:g.w.cell? ⟨j9,2,Á⟩=Â (Æ h j6 j7)) (F:∀u,gq fi g u->fl Ä Ò J u (G (f.at (y.put ((Q[i]?).bind (·.dst))<|ñ #[Æ O b n,Æ h j6 j7])<|Ñ Q jJ::L) qX)): fl Ä Ò J g (En d<|f.at y (Ñ Q (i::jJ)::L)::qX):=by
 have hF:=trivial;apply gl (n:=9) c.r;simp only[En,KL];iterate 2 w_go fC
 refine Ë λ_ _=> ?_;refine Q7 (II xt d (vO j9 (Æ O b n)<|Æ h j6 j7)<|K8 g) c.r t (λl a=>⟨(),mW.G _ _ _,(gq.fX c.r).G ⟨a.r,a.I,a.N,a.Y,a.S⟩⟩) (λk o y l i jJ p a=>aj7 t e.r e.I e.C B C D E k o y l i jJ p a) λk o H I p r s=> ?_;let⟨x,l,K⟩:=p;have v:∀i∈ã 7,o.getD i Ì=Ò:=by
  cases k
  .exact qh s r (ã 7) [] fZ λi a=>by cases a
  .exact λi a=>qh s r [0,5,1,2,3,4,6] [] fZ (λi a=>by cases a) i (by have:=Ē.1 a;revert i;decide)
  .exact qh s r (ã 7) [] fZ λi a=>by cases a
 let⟨a,N⟩:=H;obtain rfl:N=[]:=l.S;have P:a[6]?=Â (Æ O b n):=l.r 5 Hd 6 U (v 5 A) U;have S:a[7]?=Â (Æ h j6 j7):=l.r 6 He 7 U (v 6 A) U;have X:=l.M.trans e.r;have z:=K;have T:=z.N c;have V:a.getD 6 Å=Æ O b n:=by simp[ď,P]
 have W:a.getD 7 Å=Æ h j6 j7:=by simp[ď,S]
 apply gl (n:=9) T.r;iterate 2 w_go fC
 u_in fC hF
 refine goes_leave2 U U Tryz.func20 U ⟨by u_nil,?_⟩;rw[V,W];refine Ë λ_ _=>F I z
end
structure SD where
 L:Nat
 g:Nat
 n:Nat
 m:Nat
 q:Nat
 N:Nat
 I:Nat
 C:Nat->Nat
 M:Nat
 S:Nat
 s:Nat
 u:Option â
 t:Nat
 l:Option â
 k:Nat
 o:Nat->Option â
 a:Nat->Nat
 i:Nat->Option â
 c:Nat->Nat
 b:Nat->Nat
 f:List é
 d:Nat->Prop
 RC:ß->Prop
 p:ß->Prop
 γ:Type
 w:γ
 v:Nat->Prop
 h:Nat->γ->γ->Prop
 RD:γ->Ï->(Nat->Prop)->ß->Prop
 e:Nat->ByteArray
 j:Nat->ByteArray
def SD.Y(D:SD):Fx:=⟨D.L,D.m,D.I,D.C⟩
def SD.aj9(D:SD)(i:Nat):Ï:=Đ #[À<|D.i i,Ê Î<|D.c i,À<|Â ⟨D.C<|D.b i,0,Á⟩,À Á]
structure lJ(D:SD)(S:Nat->Prop)(l:ff):Prop where
 C:∀b,D.Y.M b->l.K ⟨b,0,Á⟩/\l.K ⟨b,1,Á⟩
 M:∀b,D.Y.M b->nF b l.w
 c:S D.S
 d:l.w.cell? ⟨D.S,0,Á⟩=Â (Æ (Â ⟨D.M,0,Á⟩) D.N D.N)
 f:S D.s
 g:l.w.cell? ⟨D.s,0,Á⟩=Â (Æ D.u D.m D.t)
 h:∀k,k<D.m->∃b,D.u=Â ⟨b,0,Á⟩/\S b/\l.w.cell? ⟨b,k*4,Á⟩=Â (À<|D.o<|k+1)/\l.w.cell? ⟨b,k*4+1,Á⟩=Â (Ê Î<|D.a<|k+1)/\l.w.cell? ⟨b,k*4+2,Á⟩=Â (À<|Â ⟨D.C k,0,Á⟩)/\l.w.cell? ⟨b,k*4+3,Á⟩=Â (À<|Â ⟨D.C<|k+1,0,Á⟩)
 j:∀i,i<D.q->∃b,D.l=Â ⟨b,0,Á⟩/\S b/\l.w.cell? ⟨b,i*4,Á⟩=Â (À<|D.i i)/\l.w.cell? ⟨b,i*4+1,Á⟩=Â (Ê Î<|D.c i)/\l.w.cell? ⟨b,i*4+2,Á⟩=Â (À<|Â ⟨D.C<|D.b i,0,Á⟩)/\l.w.cell? ⟨b,i*4+3,Á⟩=Â (À Á)
 r:∀a,l.r a->(l.w.cell? a).isSome=Ò/\l.w.frozen? a=Ì
 Y:∀b,D.d b->S b
 e:D.RC l.w
structure SD.Ok(D:SD):Prop where
 C:∀w w',D.RC w->(∀b,D.d b->w'.heap[b]?=w.heap[b]?)->D.RC w'
 ioS:∀w w',D.p w->(w'.os=w.os/\w'.output=w.output)->D.p w'
 r:∀s sl V w w',D.RD s sl V w->(∀b,V b->w'.heap[b]?=w.heap[b]?)->D.RD s sl V w'
 I:1<=D.n
 L1:1<=D.L
 gk:D.n+D.q+D.m<1000
 N1:D.N<1000
 S:∀i,D.b i<=D.m
 a:∀i,i<D.q->D.c i<D.N
 Y:∀k,1<=k->k<=D.m->D.a k<D.N
 akb:∀k,k<=D.m->D.C k≠D.I
 akc:∀k k',k<=D.m->k'<=D.m->D.C k=D.C k'->k=k'
 M:¬D.Y.M D.M
 pq:∀i i',i<D.q->i'<D.q->D.c i=D.c i'->i=i'
 pi:∀k k',1<=k->k<=D.m->1<=k'->k'<=D.m->D.a k=D.a k'->k=k'
 ON:∀i k,i<D.q->1<=k->k<=D.m->D.c i≠D.a k
 gy:∀b,D.Y.M b\/b=D.M->D.g<=b
section
variable{D:SD}{S:Nat->Prop}{l f:ff}
def lJ.I(h:lJ D S l)(ok:D.Ok)(e:∀b,S b->X b)(c:∀b,S b->f.w.heap[b]?=l.w.heap[b]?)(q:f.K=l.K)(p:∀a,l.K a->(l.w.cell? a).isSome=Ò->(f.w.cell? a).isSome=Ò)(r:∀a,f.r a->(f.w.cell? a).isSome=Ò/\f.w.frozen? a=Ì):lJ D X f where
 C b hg:=by rw[q];exact h.C b hg
 M b hg:=⟨p _ (h.C b hg).1 (h.M b hg).1,p _ (h.C b hg).2 (h.M b hg).2⟩;c:=e _ h.c;d:=(gN<|c _ h.c).trans h.d;f:=e _ h.f;g:=(gN<|c _ h.f).trans h.g;h k hk:=by let⟨b,g,d,j,m,n,o⟩:=h.h k hk;exact⟨b,g,e b d,(gN<|c b d).trans j,(gN<|c b d).trans m,(gN<|c b d).trans n,(gN<|c b d).trans o⟩
 j i hi:=by let⟨b,g,d,j,m,n,o⟩:=h.j i hi;exact⟨b,g,e b d,(gN<|c b d).trans j,(gN<|c b d).trans m,(gN<|c b d).trans n,(gN<|c b d).trans o⟩
 r:=r;Y b d:=e b<|h.Y b d;e:=ok.C _ _ h.e λb d=>c b<|h.Y b d
def lJ.G(h:lJ D S l)(ok:D.Ok)(c:∀b,S b->l.M b)(r:fJ l l.w u):lJ D S {l with w:=u}:= h.I ok (λ_ q=>q) (λb q=>r.I b<|c b q) U r.S λa q=>by have:=h.r a q;exact⟨by show(u.cell? a).isSome=Ò;rw[r.N a<|Ã q];exact this.1,(r.Y a<|Ã q).trans this.2⟩
def lJ.Sl{E:â->Prop}(h:lJ D S l)(ok:D.Ok)(g:∀b,S b->l.M b)(c:iG E l f):lJ D S f:= h.I ok (λ_ q=>q) (λb q=>c.r b<|g b q) c.K c.b λa q=>by
  rw[c.I]at q;let⟨d,i⟩:=h.r a q;refine⟨?_,(c.S a<|Ã q).trans i⟩;by_cases e:E a
  .exact c.g a e d
  .rwa[c.e a (Ã q) e]
def lJ.akd(h:lJ D S l)(ok:D.Ok)(d:∀b,S b->l.M b/\¬X b)(c:gq X l f):lJ D S f:= h.I ok (λ_ q=>q) (λb q=>c.r b (d b q).1 (d b q).2) c.K c.e λa q=>by rw[c.Y]at q;let⟨e,g⟩:=h.r a q;exact⟨by rwa[c.f a<|Ã q],(c.g a<|Ã q).trans g⟩
def lJ.N(h:lJ D S l)(a:∀b,S b->X b):lJ D X l:=⟨h.C,h.M,a _ h.c,h.d,a _ h.f,h.g,λk c=>let⟨b,d,e,f⟩:=h.h k c;⟨b,d,a b e,f⟩,λk c=>let⟨b,d,e,f⟩:=h.j k c;⟨b,d,a b e,f⟩,h.r,λb q=>a b<|h.Y b q,h.e⟩
end
section
variable(D:SD)
def jG(a:Nat->Nat)(j:Nat):List Ï:=(ã j).map λi=>è<|Â<|a i
def BY(k:Nat):Jd:=λl g=>l.d=0/\¬l.q/\lJ D l.M l/\∃t a b c e f h i j n o,Bs D.M D.N D.u D.m D.t k t/\l.M a/\l.w.cell? ⟨a,0,Á⟩=Â (À<|Â ⟨D.I,0,Á⟩)/\g=zh t [vH h i j n o,zn a b c e f,n5 Ä]
def ZA(c i:Nat):Jd:=λl g=>l.d=0/\¬l.q/\lJ D l.M l/\∃t a b e f h j k m n o p,QT D.M D.N c t/\t[4]?=Â (À<|Â ⟨a,0,Á⟩)/\l.O a/\l.w.cell? ⟨a,0,Á⟩=Â (À<|D.i i)/\l.w.cell? ⟨a,1,Á⟩=Â (Ê Î<|D.c i)/\l.w.cell? ⟨a,2,Á⟩=Â (À<|Â ⟨D.C<|D.b i,0,Á⟩)/\l.M b/\l.w.cell? ⟨b,0,Á⟩=Â (À<|Â ⟨D.I,0,Á⟩)/\g=KD t [G5 k m n o p,zn b e f h j,n5 Ä]
def ake:Jd:=λl g=>lJ D l.M l/\∃t a b c,Hh D.S D.I (D.C D.m) D.n (Æ D.l D.q D.k) t/\ie l a (É #[À<|Â ⟨D.I,0,Á⟩] 155)/\ie l b (É #[Ĉ (ù 31) #[] #[À<|Â ⟨D.s,0,Á⟩,À<|Â ⟨D.S,0,Á⟩]] 1)/\g=BA (À<|Â ⟨D.I,0,Á⟩) c (À<|Â ⟨D.I,0,Á⟩) (ñ #[]) a b (Eg t::D.f)
def akf(j:Nat)(a:Nat->Nat):Jd:=λl g=>lJ D l.I l/\∃t e c b d f,ST D.S D.I (D.C D.m) D.n (j-1) (Æ D.l D.q D.k) e t/\Y9 D.S D.I D.q e (jG a j) (a<|j-1) c b d l/\a (j-1)<c/\c<b/\b<d/\(∀k,e.ownBlock=Â k->k≠a (j-1)/\k≠c/\k≠b/\k≠d)/\D.g<=a (j-1)/\g=BA (À<|Â ⟨D.I,0,Á⟩) f (À<|Â ⟨D.I,0,Á⟩) (ñ #[]) b d (KN t::D.f)
def K9(j:Nat)(a:Nat->Nat):Jd:=λl g=>l.d=0/\¬l.q/\D.g<=l.w.heap.size/\((j=0/\ake D l g)\/(1<=j/\akf D j a l g))
def ZB:Jd:=λl g=>l.d=0/\¬l.q/\lJ D l.I l/\∃a,SE D.S D.I (D.C D.m) a/\g=En a D.f
def SD.r(P:ė):Ph where
 toFx:=D.Y
 P:=P
 S:=D.g
 n:=D.n
 q:=D.q
 Y:=D.M
 f:=D.N
 r:=D.b
 a:=D.c
 b:=D.a
 c:=D.aj9
 z:=zT
 B:=60
 γ:=D.γ
 l:=D.w
 i:=D.v
 p:=D.h
 d:=λk s V w=>(∃a,w.cell? ⟨D.C k,2,Á⟩=Â a/\D.RD s a V w)/\(k=0->w.cell? ⟨D.M,D.N,Á⟩=Á/\kX w D.M=Â (0,0)/\D.p w)
 o:=D.e
 k:=D.j
 g:=K9 D
 h:=BY D
 e:=ZA D
 j:=λ_=>ZB D
end
def Eo(D:SD):Prop:=∀k s e V l,k<D.m->nz (D.r Ä) k s->D.RD s e V l.w->(∀b,V b->l.M b)->gD l->¬l.q->(∀b,D.d b->l.M b)->D.RC l.w->∀f g,fl Ä Ì (λa j=>a.d=l.d/\∃p n c,j=G (f.finish<|ñ #[Æ p n c,à<|D.e<|k+1]) g/\∃h i,D.h k s h/\D.RD h (Æ p n c) i a.w/\∀b,i b->a.M b) (mj l)<|G (Ă Ä 50 #[e,À<|D.o<|k+1] Ğ)<|f::g
def Ep(D:SD):Prop:=∀i s a V l,i<D.q->nz (D.r Ä) (D.b i) s->D.RD s a V l.w->(∀b,V b->l.M b)->gD l->¬l.q->(∀b,D.d b->l.M b)->D.RC l.w->∀b c,fl Ä Ì (λe f=>e.d=l.d/\f=G (b.finish<|à<|D.j i) c) (mj l)<|G (Ă Ä 51 #[a,À<|D.i i] Ğ)<|b::c
section
variable{D:SD}
def Hz(k:Nat)(a:k<=D.m):D.Y.M (D.C k):=Ç ⟨k,a,U⟩
def zu:D.Y.M D.I:=Ã U
def akg(ok:D.Ok):(D.r Ä).Ok:=⟨ok.I,ok.L1,ok.gk,λi _=>ok.S i,ok.akb,ok.akc,ok.M,ok.pq,ok.pi,ok.ON,ok.gy,⟨λk a b e=>by have c:D.a k=D.N:=e;have:=ok.Y k a b;omega,λi d e=>by have c:D.c i=D.N:=e;have:=ok.a i d;omega⟩⟩
theorem akh(ok:D.Ok)(ug:Eo D):∀k s V l g,k<D.m->BY D k l g->gD l->nz (D.r Ä) k s->(D.r Ä).d k s V l.w->(∀b,V b->l.I b)->l.N (jg D.Y k)->l.r (jg D.Y<|k+1)->l.r (jo (D.r Ä)<|D.a<|k+1)->∀B:Nat->D.γ,B k=s->fl Ä Ì (JI (D.r Ä) B<|.mk (k+1)) l g:=by
 intro k s V l g o hJ El Sm A6 hV uD C E B hsg;obtain⟨hd,F,f,t,G,v1,v2,v3,v4,u0,u1,u2,u3,u4,hT,BM,cbw,rfl⟩:=hJ;let⟨⟨sl,hsl,qV⟩,_⟩:=A6;let⟨b,zi,hbM,i0,i1,i2,i3⟩:=f.h k o;have yM:=ok.gk;have lF:(⟨D.C<|k+1,2,Á⟩:â)≠⟨D.M,D.a<|k+1,Á⟩:=λe=>ok.M (by injection e with H _ _;rw[<-H];exact Hz (k+1) o);have AS:Bs D.M D.N (Â ⟨b,0,Á⟩) D.m D.t k t:=by rwa[<-zi]
 have⟨oc1,oz1⟩:=f.r _ C;have⟨oc2,oz2⟩:=f.r _ E;have rS:∀a:â,(a=⟨D.C<|k+1,2,Á⟩\/a=⟨D.M,D.a<|k+1,Á⟩)->l.r a:=λa p=>by rcases p with rfl|rfl;exact C;exact E
 have r:=f.C _<|Hz (k+1) o;have ZC:=f.M _<|Hz (k+1) o;refine fl.fQ (Stop:=λl g=>(∃i n,D.h k s i/\(D.r Ä).d (k+1) i n l.w/\(∀b,n b->l.M b)/\l.w.cell? ⟨D.M,D.a<|k+1,Á⟩=Â (à<|D.e<|k+1))/\yE Ä Ì (D.C<|k+1) (fl Ä Ì<|BY D<|k+1) (p7 (D.r Ä) l<|k+1) g) (λl g h=> ?_) ?_
 .let⟨⟨i,n,I,J,L,O⟩,P⟩:=h;exact⟨i,n,by subst hsg;exact I,J,L,O,P⟩
 refine aiP (Q:=λv x y=>x=D.e (k+1)/\∃i n,D.h k s i/\D.RD i v n y.w/\∀b,n b->y.M b) (τ:=λl=>p7 (D.r Ä) l<|k+1) El F hd AS o Z (by have:=ok.N1;omega) (ok.Y (k+1) Z o) hbM i0 i1 i2 i3 uD hsl C E oc1 oc2 oz1 oz2 lF (λc v j u=> ?_) λc x v hQ Rq KC=> ?_
 .refine(ug k s sl V c o Sm (ok.r _ _ _ _ _ qV λb x=>v.r b<|Ç<|hV b x) (λb x=>v.M<|Ç<|hV b x) (v.G El) (by rwa[v.q]) (λb x=>v.M<|f.Y b x) (ok.C _ _ f.e λb x=>v.r b<|f.Y b x) j u).fQ ?_;grind
 .let⟨y,⟨hstr,i,n,hnx,aki,ZD⟩,hy⟩:=hQ;rw[hstr]at KC;have ZE:nF (D.C<|k+1) c.w:=⟨v.b _ r.1 ZC.1,v.b _ r.2 ZC.2⟩;refine⟨⟨Ã (by rw[v.K];exact r.1),Ã (by rw[v.K];exact r.2),λ_ _ _ _ _ _ _ _=>trivial⟩,⟨v.fw,ZE,trivial⟩,⟨i,n,hnx,⟨⟨_,Rq,ok.r _ _ _ _ _ aki λb x=>(hy b<|ZD b x).2⟩,λe=>by omega⟩,λb x=>(hy b<|ZD b x).1,KC⟩,v.d.trans hd,λw=>fJ (p7 (D.r Ä) c<|k+1) c.w w,⟨Ã (by show c.K _;rw[v.K];exact r.1),Ã (by show c.K _;rw[v.K];exact r.2),λw w₁ I J L O P h=>h.fh ⟨I,J,L,O,P⟩⟩,⟨λj h=>h.elim,ZE,fJ.fX _ _⟩,λwS t' akj XO=> ?_⟩;refine .fD λS u=> ?_;have z:=akj.2.2.fh ⟨u.r,u.I,u.N,u.Y,u.S⟩;have x:=λb x=>(z.I b<|Ç<|v.M x).trans<|v.r b x;have ZF:∀b,l.M b->({p7 (D.r Ä) c (k+1)with d:=0,w:=S}:ff).M b:=λb x=>Ç<|v.M x;refine⟨U,by show¬c.q;rwa[v.q],f.I ok ZF x (by show c.K=l.K;exact v.K) (λa p h=>z.S a (by show c.K a;rwa[v.K])<|v.b a p h) λa p=> ?_,t',G,v1,v2,v3,v4,u0,u1,u2,u3,u4,by rwa[zi],ZF G BM,(gN<|x G BM).trans cbw,U⟩;obtain⟨T,W,X⟩:c.r a/\a≠⟨D.M,D.a<|k+1,Á⟩/\a≠⟨D.C<|k+1,2,Á⟩:=p;have Y:l.r a:=by rwa[<-v.I]
  let⟨H,e2⟩:=f.r a Y;refine⟨?_,?_⟩
  .show(S.cell? a).isSome=Ò;rwa[z.N a<|Ã ⟨T,W,X⟩,v.e a (Ã Y) λq=>q.elim X W]
  .show S.frozen? a=Ì;rwa[z.Y a<|Ã ⟨T,W,X⟩,v.S a<|Ã Y]
def akk:∀l g,BY D D.m l g->gD l->fl Ä Ì (AO<|D.r Ä) l g:=by intro l g c d;obtain⟨e,f,b,t,k,n,o,p,q,r,s,u,v,w,h,i,j,rfl⟩:=c;have a:=b.C _<|zu;exact aiX (Ψ:=λ_=>True) h a ⟨Ã a.1,Ã a.2,λ_ _ _ _ _ _ _ _=>trivial⟩ ⟨d.r,b.M _ zu,trivial⟩ e f (Ã i) j
def ZG(ok:D.Ok){r:Nat}{l:ff}{t:Array Ï}{g h m o p:Ï}(B:gD l)(s:¬l.q)(C:l.d=0)(a:lJ D l.M l)(E:QT D.M D.N i t)(f:l.M k)(u:l.w.cell? ⟨k,0,Á⟩=Â (À<|Â ⟨D.I,0,Á⟩)): Dg (D.r Ä) i j r l (zp t [G5 g h m o p,zn k v x z jQ,n5 Ä]):=by have y:=ok.S<|j+r*D.n;refine ai2 B s C E (Ú _) U (a.C _<|Hz _ y) (a.M _<|Hz _ y) (a.C _ zu) (a.M _ zu) (Ã f) u λQ F G e H I J K L O P=>(⟨H,by rwa[e.q],(a.Sl ok (λ_ q=>q) e).N λb q=>e.M q,G,F,k,v,x,z,jQ,g,h,m,o,p,O,P,I,J,K,L,e.M f,(gN<|e.r k f).trans u,U⟩)
theorem akl(ok:D.Ok)(W:Ep D):∀c j r s V l g,j+r*D.n<D.q->ZA D c (j+r*D.n) l g->∀f:ff,gD f->f.O=l.O->(∀b,l.I b\/V b->f.I b)->f.w=l.w->f.d=l.d->f.q=l.q->f.r=l.r->f.K=l.K->nz (D.r Ä) (D.b<|j+r*D.n) s->(D.r Ä).d (D.b<|j+r*D.n) s V l.w->f.N (jg D.Y<|D.b<|j+r*D.n)->f.r (jo (D.r Ä)<|D.c<|j+r*D.n)->fl Ä Ì (JW (D.r Ä) c j<|.oO r) f g:=by
 intro c j r s V l g E X f v F y o Y hq' J5 hK Sm A6 uD p;obtain⟨hd,hq,G,t,tb,u,v1,v2,v3,v4,u0,u1,u2,u3,u4,hT,h4,hOt,H,I,J,L,N,rfl⟩:=X;let⟨⟨sl,P,S⟩,_⟩:=A6;have B:∀b,l.M b->f.M b:=λb q=>q.elim (λz=>Ã<|by rwa[F]) λz=>Ç<|y b<|Ã z;have m:=G.I ok B (λb _=>by rw[o]) hK (λa _ h=>by rwa[o]) λa q=>by rw[o];exact G.r a<|by rwa[<-J5]
 have C:¬f.q:=by rwa[hq']
 rw[<-o]at H I J N P S;let⟨e2,z2⟩:=m.r _ p;refine KE (Q:=λx=>x=D.j (j+r*D.n)) v C hT h4 (by rwa[F]) H I J uD P p e2 z2 (ok.a _ E) (λi e k T=> ?_) λi x t' e hx hcx AS=> ?_
 .refine(W _ s sl V i E Sm (ok.r _ _ _ _ _ S λb x=>e.r b<|Ç<|y b<|Ç x) (λb x=>e.M<|Ç<|y b<|Ç x) (e.G v) (by rwa[e.q]) (λb x=>e.M<|m.Y b x) (ok.C _ _ m.e λb x=>e.r b<|m.Y b x) k T).fQ ?_;grind
 .have T:=(m.Sl ok (λ_ q=>q) e).N λb q=>e.M q;refine⟨hcx.trans (by rw[hx];rfl),?_⟩;have k:=e.G v;have GZ:gD (vx (D.r Ä) i<|j+r*D.n):=by
   refine⟨k.c,λa x=> ?_,λa x=> ?_,k.fw,λa x=> ?_,λa x=> ?_⟩
   .rintro(q|q)
    .exact k.Y a x.1 q
    .exact x.2 q
   .refine k.N a ?_;rcases x with q|q|q
    .exact Ã q.1
    .exact Ç q
    .rw[q];exact Ã<|by rwa[e.I]
   .refine k.I a ?_;rcases x with q|q|q
    .exact Ã q.1
    .exact Ç q
    .rw[q];exact Ã<|by rwa[e.I]
   .let⟨k1,k2,k3⟩:=k.S a x;exact⟨k1,k2,λq=>k3 q.1⟩
  refine ZG ok GZ (by show¬i.q;rwa[e.q]) (by show i.d=0;rwa[e.d,Y]) (T.I ok (λ_ q=>q) (λ_ _=>rfl) U (λ_ _ h=>h) λa q=>T.r a q.1) AS (by show i.M u;exact e.M<|B u L)<|(gN<|e.r u<|B u L).trans N
end
section
variable{D:SD}{dk:Nat->Nat}{dv:Ï}{l f:ff}
structure MF(D:SD)(dk:Nat->Nat)(dv:Ï)(l:ff):Prop where
 C:gD l
 q:¬l.q
 d:l.d=0
 r:lJ D l.I l
 I:∃db c,dv=Æ (Â ⟨db,0,Á⟩) D.n c/\l.O db/\∀i,i<D.n->l.w.cell? ⟨db,i,Á⟩=Â (è<|Â<|dk i)
def MF.M(h:MF D dk dv l)(ok:D.Ok)(a:iG fi l f):MF D dk dv f where
 C:=a.G h.C;q:=by rw[a.q];exact h.q
 d:=a.d.trans h.d;r:=(h.r.Sl ok (λ_ q=>Ç q) a).N λb q=>by rwa[a.Y]
 I:=by let⟨e,c,j,g,k⟩:=h.I;exact⟨e,c,j,a.O e g,λi m=>(gN<|a.r e<|Ã g).trans<|k i m⟩
def akm(ok:D.Ok):∀r,r<=D.n->∀l t b,MF D dk dv l->ET dv D.n (D.n-r) t->SE D.S D.I (D.C D.m) b->fl Ä Ò (AP (D.r Ä) dk r) l (BX t<|Hx b::D.f):=by
 intro r
 induction r with
 |zero=>
  intro _ l t b a e g;rw[ũ]at e;refine aj6 a.C a.d (Ú _) e g (a.r.C _ zu) (a.r.M _ zu) λf i h j=> ?_;have c:=a.M ok h;exact⟨c.d,c.q,c.r,i,j,U⟩
 |succ r j=>
  intro s l t b a e g;obtain⟨u,c,rfl,k,o⟩:=a.I;have v:=ok.gk;refine aj5 a.C a.q e Z Z k (o (D.n-(r+1)) Z) λf p h i=> ?_;refine j Z f p b (a.M ok h) ?_ g;rwa[show D.n-(r+1)+1=D.n-r by omega]at i
def akn(ok:D.Ok):∀r,r<=D.q->∀l t d,MF D dk dv l->DT dv D.l D.q D.k (D.q-r) t->SE D.S D.I (D.C D.m) d->fl Ä Ò (Ge (D.r Ä) dk r) l (BW t<|Hx d::D.f):=by
 intro r
 induction r with
 |zero=>
  intro _ l t d a e h;rw[ũ]at e;obtain⟨j,c,rfl,k,o⟩:=a.I;refine aj4 a.C.r e λi g=>akm ok D.n (Ú _) l i d a ?_ h;rwa[Ū]
 |succ r s=>
  intro C l t d a e h;obtain⟨j,c,rfl,k,o⟩:=a.I;have E:=ok.gk;have F:=ok.I;let⟨b,p,u,v,w,x,y⟩:=a.r.j (D.q-(r+1)) Z;have z:DT (Æ (Â ⟨j,0,Á⟩) D.n c) (Â ⟨b,0,Á⟩) D.q D.k (D.q-(r+1)) t:=by rwa[<-p]
  refine aj1 a.C a.q z Z Z Z Z k (o _<|Ĵ _ Z) (Ç u) v w x y λf i B g=> ?_;refine s Z f i d (a.M ok B) ?_ h;rwa[show D.q-(r+1)+1=D.q-r by omega,<-p]at g
theorem ako(dk:Nat->Nat)(j a:Nat):jG (fA dk j a) (j+1)=jG dk j++[è<|Â a]:=by unfold jG;grind [ÿ,List.map_congr_left,fK,gG]
def akp(dk:Nat->Nat)(j:Nat):(jG dk j).length=j:=by simp[jG]
def akq(dk:Nat->Nat)(j i:Nat)(h:i<j):(jG dk j)[i]?=Â (è<|Â<|dk i):=by simp[jG,h]
theorem ZH(ok:D.Ok){t:Array Ï}(K:j<=D.n)(a:gD l)(o:¬l.q)(p:l.d=0)(h:lJ D l.I l)(x:D.g<=l.w.heap.size)(v:ST D.S D.I (D.C D.m) D.n j (Æ D.l D.q D.k) dv t)(r:l.w.ownsRow 0 92 1 dv j (jG dk j))(s:∀k,dv.ownBlock=Â k->l.O k): fl Ä Ò (JM (D.r Ä) dk<|if j<D.n then .iH (j+1)else .iL D.q) l (Bz t D.f):=by
 have L:=ok.gk;by_cases u:j<D.n
 .rw[if_pos u];show fl Ä Ò (OM (D.r Ä) (j+1) dk) l _;rw[ais];refine ajc a o p v u Z Z (h.C _ zu) (h.M _ zu) r s λf i y z B C E F c G H M N I J P=> ?_;refine⟨y,c.d.trans p,by rwa[c.q],Õ x c.I,Ç ⟨Z,(h.akd ok (λb g=>⟨Ç g,λe=>a.c b (s b e.symm) g⟩) c).N λb q=>(by rwa[c.S]),i,E,z,B,C,F,?_,?_,?_,I,J,?_,?_,U⟩⟩
  .rwa[ø]
  .rwa[ø,ako,gG]
  .grind [ø,gG]
  .grind [ø,gG]
  .grind [ø,gG,Õ]
 .have e:j=D.n:=Z
  subst e;rw[if_neg u];have y:∃b c,dv=Æ (Â ⟨b,0,Á⟩) D.n c/\l.O b/\∀i,i<D.n->l.w.cell? ⟨b,i,Á⟩=Â (è<|Â<|dk i):=by
   rcases r.2 with⟨_,C⟩|⟨g,z,E,rfl,_⟩
   .have:=ok.I;omega
   .refine⟨g,z,U,s g U,λi B=> ?_⟩;have:=r.cells U i _<|akq dk D.n i B;grind [ğ]
  refine aj3 a.r v λg z B C=>(akn ok D.q (Ú _) l g z ⟨a,o,p,h,y⟩ (by rwa[Ū]) C)
def akr(ok:D.Ok)(h:BY D k l g)(r:fJ l l.w u):BY D k {l with w:=u} g:=by obtain⟨c,d,e,t,a,f,i,j,m,n,o,p,s,v,x,b,y,rfl⟩:=h;exact⟨c,d,e.G ok (λ_ q=>q) r,t,a,f,i,j,m,n,o,p,s,v,x,b,(gN<|r.I a b).trans y,U⟩
def ie.M{o:Ÿ}(h:ie l b o)(r:fJ l l.w u):ie {l with w:=u} b o:=⟨h.ft,(r.I b<|Ã h.ft).trans h.I⟩
def Gf(ok:D.Ok)(h:K9 D j dk l g)(r:fJ l l.w u):K9 D j dk {l with w:=u} g:=by
 let⟨m,n,o,h⟩:=h;refine⟨m,n,Õ o r.r,?_⟩;rcases h with⟨p,b,t,c,d,f,i,s,v,rfl⟩|⟨x,b,t,dv,y,c,d,f,i,a,z,B,C,E,F,rfl⟩
 .exact Ã ⟨p,b.G ok (λ_ q=>q) r,t,c,d,f,i,s.M r,v.M r,U⟩
 .exact Ç ⟨x,b.G ok (λ_ q=>Ç q) r,t,dv,y,c,d,f,i,⟨pE a.S λk e=>r.I k<|Ã<|a.M k e,a.M,a.r.M r,a.C.M r,a.N.M r,a.I.M r⟩,z,B,C,E,F,U⟩
theorem aks(ok:D.Ok):∀j dk l g,j<=D.n->K9 D j dk l g->gD l->l.d=0/\∃(G H:Ý) (X:Nat->Prop),G.status=ċ/\H.status=ċ/\(∀u,stepG Ä Ò g u=.spawn G H u #[])/\(∀b,X b->l.O b)/\ (1<=j->l.O (dk<|j-1)/\¬X (dk<|j-1)/\l.w.heap[dk<|j-1]?=Â (ŕ D.q #[] Ì 0 0 Ì)/\D.g<=dk (j-1))/\ (∀f:ff,gD f->(∀b,X b\/l.I b->f.I b)->f.w=l.w->f.d=0->¬f.q->(∀b,¬f.O b)->f.K=l.K->f.N=l.N->(∀a,f.r a->l.r a)->fl Ä Ì (if j=0 then BY D 0 else Dg (D.r Ä) (dk<|j-1) (j-1) 0) f H)/\ (∀f:ff,gD f->f.O=(λb=>l.O b/\¬X b/\(1<=j->b≠dk (j-1)))->(∀b,X b\/l.I b->f.I b)->f.w=l.w->f.d=0->f.q=l.q->f.K=l.K->f.N=l.N->(∀a,f.r a->l.r a)->fl Ä Ò (JM (D.r Ä) dk<|if j<D.n then .iH (j+1)else .iL D.q) f G):=by
 intro j dk l g L h El;let⟨hd,N,P,h⟩:=h;refine⟨hd,?_⟩;rcases h with⟨rfl,o,t,x,C,v1,I,Q,S,rfl⟩|⟨h1,o,t,dv,T,x,C,v1,I,c,x1,x2,x3,x4,x5,rfl⟩
 .refine⟨_,_,l.O,U,U,λu=>Y7 _ _ _ _ _ _ _ u,λ_ q=>q,λq=>by omega,λf i m X y p E z J B=> ?_,λf i E m X y p z J B=> ?_⟩
  .rw[if_pos U];have e:=λb q=>m b q;have s:lJ D f.M f:=o.I ok (λb q=>Ç<|e b q) (λb _=>by rw[X]) z (λa _ h=>by rwa[X]) λa q=>by rw[X];exact o.r a<|B a q
   refine aiW i.r p (Ã<|Ç<|e C<|Ã S.ft) (Ã s.f) (Ã s.c) (by rw[X];exact S.C U) s.g s.d λF V W Y w4 u0 u1 u2 u3 u4 v=> .fD λu r=>akr ok ⟨y,p,s,F,x,V,W,Y,w4,u0,u1,u2,u3,u4,v,Ç<|e x<|Ã Q.ft,by rw[X];exact Q.C U,U⟩ r
  .refine aja i.r I λF v=>(ZH ok L i (by rwa[p]) y (o.I ok (λb q=>m b q) (λb _=>by rw[X]) z (λa _ h=>by rwa[X]) λa q=>by rw[X];exact o.r a<|B a q) (by rwa[X]) v (World.ownsRow_nil _ _ _ _) λk e=>by cases e)
 .refine⟨_,_,λb=>b=T\/b=x\/b=C,U,U,λu=>Y7 _ _ _ _ _ _ _ u,λb q=> ?_,λ_=>⟨c.r.ft,?_,c.r.I,x5⟩,λf i m X y p E z J B=> ?_,λf i E m X y p z J B=> ?_⟩
  .rcases q with rfl|rfl|rfl
   .exact c.C.ft
   .exact c.N.ft
   .exact c.I.ft
  .grind
  .rw[if_neg Z];have s:lJ D f.M f:=o.I ok (λb q=>Ç<|m b<|Ç q) (λb _=>by rw[X]) z (λa _ h=>by rwa[X]) λa q=>by rw[X];exact o.r a<|B a q
   have ZI:f.M x:=Ç<|m x<|Ã<|Ç<|Ã U;refine ai1 i.r p (Ã<|Ç<|m C<|Ã<|Ç<|Ç U) (Ã<|Ç<|m T<|Ã<|Ã U) (Ã s.c) (by rw[X];exact c.I.C U) (by rw[X];exact c.C.C U) s.d λF V W Y w4 u0 u1 u2 u3 u4 v=> .fD λu r=>(ZG ok (i.jw r.r) p y (s.G ok (λ_ q=>q) r) v ZI<|(gN<|r.I x ZI).trans<|by rw[X];exact c.N.C U)
  .have s:=ok.gk;refine ajb i.r I Z λF v=> ?_;rw[show j-1+1=j by omega]at v;have r:=c.S;rw[akp]at r;refine ZH ok L i (by rwa[p]) y (o.I ok (λb q=>m b<|Ç q) (λb _=>by rw[X]) z (λa _ h=>by rwa[X]) λa q=>by rw[X];exact o.r a<|B a q) (by rwa[X]) v (by rwa[X]) λk e=> ?_;rw[E];let⟨a,V,W,Y⟩:=x4 k e;refine⟨c.M k e,?_,λ_=>a⟩;grind
def akt(ok:D.Ok)(b:Eo D)(d:Ep D):gS (D.r Ä) where
 C:=akg ok;S k s V w w' h hV hc hz hf xE:=by let⟨⟨a,f,m⟩,t⟩:=h;exact⟨⟨a,hc.trans f,ok.r _ _ _ _ _ m hV⟩,λe=>⟨hz.trans (t e).1,hf.trans (t e).2.1,ok.ioS _ _ (t e).2.2 xE⟩⟩
 Gf j dk l g w₁ h r:=Gf ok h r;I j dk l g h:=by let⟨_,_,_,h⟩:=h;rcases h with⟨_,_,t,e,f,a,_,_,_,rfl⟩|⟨_,_,t,dv,m,e,f,a,_,_,_,_,_,_,_,rfl⟩<;>rfl
 N k l g h:=by obtain⟨_,_,_,t,e,a,f,m,n,o,p,q,u,v,_,_,_,rfl⟩:=h;rfl
 Y c i l g h:=by obtain⟨_,_,_,t,tb,e,a,f,m,n,o,p,q,u,v,_,_,_,_,_,_,_,_,rfl⟩:=h;rfl
 M dk l g h:=by obtain⟨_,_,_,f,_,rfl⟩:=h;rfl
 go:=aks ok;f:=akh ok b;h:=akk;e:=akl ok d
end
end Go.Proofs.Y.fy
namespace Go.Proofs.Y.fy
open Go Go.Conc Go.Proofs.Y.Lift
open Go.ConcN (sumTo sumTo_congr)
structure kH(P:ė)(Y:Nat->Prop)(jm:Ν->Prop)(H:Nat)(J:Jd)(T:gB)(lv:Nat->Nat)(lot:Nat->ff)(gs:Array Ý)(w:ß)(t:ż):Prop where
 C:1<=gs.size
 r:gM P 0 Y (λi=>if i=0 then J else pw P (lv i)) (λi=>if i=0 then T else .fD) (λ_=> .no) lot gs w t
 c:∀i,0<i->i<gs.size->lot i=kE (lot i)
 d:¬(lot 0).q
 M:∀p a,touchAt t p=Â a->a.loc.isMemory=Ò->Knows t 0 p\/(jm a.loc/\a.kind=.atomic)
 S:∀p a x,touchAt t p=Â a->a.loc=û x->t.g? p=Â 0\/x.block<H
 b:∀a:â,H<=a.block->NoRelease a t
 N:t.HandedOver
abbrev rX(P:ė):=kH P λ_=>False
structure qW(l l':ff)(w w':ß):Prop where
 r:w.heap.size<=w'.heap.size
 N:∀j,l'.O j->l.O j\/w.heap.size<=j
 c:l'.I=l.I
 S:l'.r=l.r
 b:l'.N=l.N
 k:l'.K=l.K
 jZ:∀j,j<w.heap.size->¬l.O j->(∀a:â,a.block=j->¬l.r a)->w'.heap[j]?=w.heap[j]?
 M:∀a:â,a.block<w.heap.size->¬l.O a.block->¬l.r a->w'.cell? a=w.cell? a
 Y:∀j,j<w.heap.size->¬l.O j->kX w' j=kX w j
 C:w'.os=w.os
 I:w'.output=w.output
 d:w'.tape=w.tape
theorem qW.fX(l:ff)(w:ß):qW l l w w:=⟨Ú _,λ_ h=>Ã h,U,U,U,U,λ_ _ _ _=>rfl,λ_ _ _ _=>rfl,λ_ _ _=>rfl,U,U,U⟩
def qW.fh{l e i:ff}{w':ß}(h:qW l e w w')(k:qW e i w' u):qW l i w u:=by
 have f:∀j,j<w.heap.size->¬l.O j->¬e.O j:=λj c b q=>(h.N j q).elim b λz=>by omega
 refine⟨Õ h.r k.r,λj q=> ?_,k.c.trans h.c,k.S.trans h.S,k.b.trans h.b,k.k.trans h.k,λj c b d=>((k.jZ j (È c h.r) (f j c b)<|by rwa[h.S]).trans<|h.jZ j c b d),λa g b d=>((k.M a (È g h.r) (f _ g b)<|by rwa[h.S]).trans<|h.M a g b d),λj c b=>(k.Y j (È c h.r)<|f j c b).trans<|h.Y j c b,k.C.trans h.C,k.I.trans h.I,k.d.trans h.d⟩
 .rcases k.N j q with z|z
  .exact h.N j z
  .exact Ç<|Õ h.r z
def mE.aku{l a:ff}(h:mE l a w u V):qW l a w u:=⟨h.C,h.S,h.I,h.r,h.M,h.k,h.jZ,h.N,λj b c=>h.Y ⟨j,0,Á⟩ b c,h.f,h.g,h.m⟩
def qW.G{l a:ff}(h:qW l a (w.at i) u):qW l a w u:=⟨h.r,h.N,h.c,h.S,h.b,h.k,h.jZ,h.M,h.Y,h.C,h.I,h.d⟩
section
variable{Y:Nat->Prop}{jm:Ν->Prop}{H:Nat}{J:Jd}{T:gB}{lv:Nat->Nat}{lot:Nat->ff}{gs:Array Ý}{t:ż}{sl:Option (Nat×Nat)}
def kH.I(c:kH P Y jm H J T lv lot gs w t)(d:Nat):kH P Y jm H J T lv lot gs (w.at d) t:=⟨c.C,c.r.at d,c.c,c.d,c.M,c.S,c.b,c.N⟩
def akv{l:ff}{e:ž}(h:yz l e)(a:â):ï e≠.mark (.release a):=by
 let⟨c,d,g⟩:=e;rcases h with⟨x,b,_⟩|h|⟨f,h⟩|h|h|⟨x,_,h⟩
 .simp only at b;subst b;simp[ï]
 .simp only at h;subst h;simp[ï]
 .simp only at h;subst h;simp[ï]
 .simp only at h;subst h;simp[ï]
 .simp only at h;subst h;simp[ï]
 .simp only at h;rcases h with rfl|rfl|rfl|rfl<;>simp[ï]
theorem akw{e:ž}(h:e.mute=Ò)(a:â):ï e≠.mark (.release a):=by let⟨b,c,d⟩:=e;cases b<;>simp_all[Event.mute];rename_i m;cases m<;>simp_all[ï]
theorem kH.akx{k:ß->gB}(c:kH P Y jm H J (.jP k) lv lot gs w t)(o:∀l g,J l g->g.status=ċ\/g.status=ş)(r:gs[0]?=Â g): ∃e b d u,runT P (Ĭ gs w sl) 0=(.next<|Ĭ b d sl,u)/\b.size=gs.size/\qW (lot 0) (e 0) w d/\kH P Y jm H J (k w) lv e b d (t++u):=by
 obtain⟨b,d,G,s,v,f,I,K,j,y⟩:=c.r.ft r U λl g h=>o l g h;refine⟨gA lot 0 s,b,d,_,v,f,by rw[gV];exact j.aku,by rw[f];exact c.C,?_,λi z B=> ?_,?_,λp a h C=> ?_,λp a x h D=> ?_,λa h=>(c.b a h).app λu m=> ?_,Ř c.N λu m=>Ã<|ow u m⟩
 .have e:fA (λi=>if i=0 then(.jP k:gB)else .fD) 0 (k w)=λi=>if i=0 then k w else .fD:=by
   funext i;unfold fA;grind
  rwa[<-e]
 .rw[gI lot _ Z];exact c.c i z<|by rwa[<-f]
 .rw[gV,j.q];exact c.d
 .rcases mU h with⟨_,e⟩|⟨_,u,e,E,n⟩
  .exact(c.M p a e C).imp (·.app _) id
  .have:=knows_own n;grind [ow]
 .rcases mU h with⟨F,e⟩|⟨_,u,e,E,n⟩
  .rw[g?_old F];exact c.S p a x e D
  .apply Ã;unfold Trace.g?;grind [ow]
 .obtain⟨e,n,rfl⟩:=Č m;exact akv (j.c e n) a
theorem kH.ZJ(c:kH P Y jm H J T lv lot gs w t)(q:gs[i]?=Â g)(b:i≠0)(y:g.status=ċ): ∃a e f u,runT P (Ĭ gs w sl) i=(.next<|Ĭ f w sl,u)/\f.size=gs.size/\sumTo gs.size a+1=sumTo gs.size lv/\e 0=lot 0/\kH P Y jm H J T a e f w (t++u):=by
 have z:=(æ.1 q).1;obtain⟨f,r,m,M,B,o,N,C,D⟩:=c.r.Ou (n:=lv i) q b y U (by simp[b]) (by simp[b]);have E:∀u∈MemOp.ofEvents i g.frame.fn g.frame.place r,u.act.touch?=Á:=λu h=>by obtain⟨e,s,rfl⟩:=Č h;exact touch_mute<|C e s
 refine⟨fA lv i m,gA lot i {lot i with d:=į (lot i).d r,w:=w},f,_,B,o,?_,gI lot _<|Ne.symm b,by rw[o];exact c.C,?_,λj v F=> ?_,?_,λp a k G=> ?_,λp a x k I=> ?_,λa k=>(c.b a k).app λu h=> ?_,Ř c.N λu h=>Ç<|E u h⟩
 .grind [xc,fK,gG]
 .have l:fA (λi=>if i=0 then J else pw P (lv i)) i (pw P m)=λj=>if j=0 then J else pw P (fA lv i m j):=by
   funext j;unfold fA;grind
  rwa[<-l]
 .by_cases e:j=i
  .subst e;rw[gV];have:=c.c j v z;rw[this];rfl
  .rw[gI lot _ e];exact c.c j v<|by rwa[<-o]
 .rw[gI lot _<|Ne.symm b];exact c.d
 .rcases mU k with⟨_,l⟩|⟨_,u,l,K,_⟩
  .exact(c.M p a l G).imp (·.app _) id
  .grind
 .rcases mU k with⟨L,l⟩|⟨_,u,l,K,_⟩
  .rw[g?_old L];exact c.S p a x l I
  .grind
 .obtain⟨e,s,rfl⟩:=Č h;grind [akw]
def kH.Km(c:kH P Y jm H J T lv lot gs w t):∀g∈gs,awake g:=by
 intro g e;obtain⟨i,f,rfl⟩:=Array.mem_iff_getElem.1 e;let⟨g0,_,b,a,_⟩:=c.r.C i _<|ì f;intro τ d;generalize gs[i]=g at b d;cases b with
 |gf=>rcases a with a|a<;>rw[d]at a<;>cases a
theorem kH.G(K:∀l g,J l g->g.status=ċ\/g.status=ş):∀(T:gB) (s:Nat) (lv:Nat->Nat) (lot:Nat->ff) (gs:Array Ý) (w:ß) (sl:Option (Nat×Nat)) (t:ż),sumTo gs.size lv=s->kH P Y jm H J T lv lot gs w t-> ∃N h b a f e c,Ŷ P N (Ĭ gs w sl) t=(.next<|Ĭ a f e,c)/\a.size=gs.size/\qW (lot 0) (b 0) w f/\kH P Y jm H J .fD h b a f c:=by
 intro T
 induction Xk.apply T with
 |intro T _ L=>
  intro s
  induction s using Nat.strongRecOn with
  |_ s M=>
   intro lv lot gs w sl t V c;cases C:T with
   |fD=>
    subst C;exact⟨0,lv,lot,gs,w,sl,t,U,U,qW.fX _ _,c⟩
   |jP k=>
    subst C;have W:=c.C;obtain⟨g0,D⟩:∃g,gs[0]?=Â g:=⟨_,ì Z⟩;have O:g0.status=ċ:=by let⟨S,d,i,_,_⟩:=c.r.C 0 g0 D;grind [agm]
    let⟨i,g,d,e,E,Q,F⟩:=crowd_pick (P:=P) (w:=w) (sl:=sl) c.Km ⟨0,g0,D,O⟩;by_cases G:i=0
    .subst G;let⟨b,a,f,u,n,j,S,I⟩:=(c.I d).akx (sl:=e) K E;let⟨N,o,p,q,r,v,x,y,z,m,B⟩:=L (k<|w.at d) ⟨_,U⟩ _ lv b a f e (t++u) U I;exact⟨N+1,o,p,q,r,v,x,by simp only[Ŷ,F,n];exact y,z.trans j,S.G.fh m,B⟩
    .let⟨h,b,a,u,n,j,I,f,S⟩:=(c.I d).ZJ (sl:=e) E G Q;let⟨N,o,p,q,r,v,x,y,z,m,B⟩:=M (sumTo a.size h) (by rw[j];omega) h b a (w.at d) e (t++u) U S;exact⟨N+1,o,p,q,r,v,x,by simp only[Ŷ,F,n];exact y,z.trans j,by rw[f]at m;exact m.G,B⟩
end
section
variable{F:Ph}{E:fV F}{S:Nat->Jd}{tr:Nat->gB}{o:Nat->iC}{f:Nat->ff}{gs:Array Ý}
def PI.jr(p:PI F i zX E S tr o f gs w qJ)(c:E.M=.gi):E.r=F.n+1/\∀x,x<F.n+1->∃N,E.N x=Â (.jr N):=by
 refine⟨(by unfold fV.r;rw[c];rfl),λx g=> ?_⟩;have a:=Po (p.C.B<|Ç<|Ç c) x g;have j:x<E.M.ad F.n:=by rwa[c]
 unfold fV.G at a;rw[if_pos j]at a;have l:E.M.gF=0:=by rw[c];rfl
 cases d:E.N x with
 |none=>rw[d]at a;simp[mg]at a
 |some e=>
  rw[d]at a;simp only[mg]at a;cases e with
  |oQ=>simp[im.kQ]at a
  |jr N=>exact⟨N,U⟩
  |gi q=>
   let⟨h,k⟩:=p.C.N x q d;cases q with
   |jD=>simp[im.kQ,jF.kQ]at a
   |iH=>simp[im.kQ,jF.kQ]at a
   |gC W=>
    let⟨_,b⟩:=h W<|Ã U;have r:=p.M.C.r;rw[b]at r;have:=(p.C.g W b).2.1;simp only[GS.ok]at r;omega
   |jd W=>
    let⟨_,b⟩:=h W<|Ç U;have r:=p.M.C.r;rw[b]at r;have:=(p.C.g W b).2.1;simp only[GS.ok]at r;omega
   |iD r=>
    let⟨W,_,s,b⟩:=k r U;have:=(p.C.u r s b).2.1;omega
def xF(l:ff):ff:={l with O:=λ_=>False,I:=λ_=>False,r:=λ_=>False,N:=λ_=>False,K:=λ_=>False,q:=True}
def vt(f:Nat->ff)(l:ff):Nat->ff:=λi=>if i=0 then l else xF (f i)
def Sn(f:Nat->ff)(l:ff):vt f l 0=l:=rfl
def vP(f:Nat->ff)(l:ff)(h:i≠0):vt f l i=xF (f i):=if_neg h
def HB{l:ff}(h:i≠0):¬(vt f l i).M b:=by rw[vP f l h];exact λq=>q.elim id id
def HC{l:ff}(h:i≠0):¬(vt f l i).C a:=by rw[vP f l h];exact λq=>q.elim id id
def iT.Y{Y I:Nat->Prop}(C:iT n I Y f w qJ)(u:I 0){l:ff}(v:n<=m)(x:∀b,l.O b->¬l.I b)(y:∀a,l.r a->¬l.N a)(B:∀b,l.M b->¬X b)(D:∀a,l.C a->X a.block)(E:∀b,l.M b->b<w.heap.size)(F:∀b,X b->b<w.heap.size)(G:fJ l l.w w)(H:Om qJ 0 l)(J:l.d=(f 0).d)(t:∀a,l.K a->X a.block/\¬l.r a):iT m I X (vt f l) w qJ:=by
 refine⟨λi j g L s b o=> ?_,λi j g L s a e=> ?_,λi g b o=> ?_,λi g a e=> ?_,λi g b o=> ?_,λi g a e=> ?_,λi g b o=> ?_,F,λi g=> ?_,λi g=> ?_,λi g=> ?_,C.l,C.q,λp a c N r P=>È (C.s p a c N r P) v,λi g a e=> ?_⟩
 .by_cases h:j=0
  .subst h;exact absurd (Ã o)<|HB s
  .exact HB h
 .by_cases h:j=0
  .subst h;exact absurd (Ã e)<|HC s
  .exact HC h
 .by_cases h:i=0
  .subst h;exact x b o
  .exact absurd (Ã o)<|HB h
 .by_cases h:i=0
  .subst h;exact y a e
  .exact absurd (Ã e)<|HC h
 .by_cases h:i=0
  .subst h;exact B b o
  .exact absurd o<|HB h
 .by_cases h:i=0
  .subst h;exact D a e
  .exact absurd e<|HC h
 .by_cases h:i=0
  .subst h;exact E b o
  .exact absurd o<|HB h
 .by_cases h:i=0
  .subst h;exact G
  .rw[vP f l h];exact⟨(C.r i g).r,λj q=>q.elim (λz=>z.elim) λz=>z.elim,λa q=>q.elim (λz=>z.elim) λz=>z.elim,λa q=>q.elim (λz=>z.elim) λz=>z.elim,λa q=>q.elim⟩
 .by_cases h:i=0
  .subst h;exact H
  .rw[vP f l h];exact⟨λa e=>e.elim,λa e=>e.elim,λa e=>e.elim,λa e=>e.elim⟩
 .by_cases h:i=0
  .subst h;rw[Sn,J];exact C.f 0 u
  .rw[vP f l h];exact C.f i g
 .by_cases h:i=0
  .subst h;refine⟨(t a e).1,λk z q=> ?_⟩;by_cases r:k=0
   .subst r;exact(t a e).2 q
   .exact absurd (Ã q)<|HC r
  .rw[vP f l h]at e;exact e.elim
theorem PI.aky(p:PI F i zX E S tr o f gs w qJ)(m:E.M=.gi)(r:Ki F zX qJ)(y:F.S=0)(M:1<=F.L): ∃z:Nat->Nat,kH F.P E.Y (λk=>zX k\/∃x:â,k=û x/\x.block=F.C) w.heap.size (F.j E.I) (tr 0) z (vt f<|f 0) gs w qJ:=by
 let⟨B,s⟩:=p.jr m;have O:gs.size=F.L+(F.n+1):=by rw[p.b,B]
 have C:=p.I.r;have c:0<gs.size:=Z
 refine⟨λb=>if h:F.L<=b/\b<F.L+(F.n+1)then Classical.choose (s (b-F.L) Z)else E.h b,Z,⟨?_,λb x t=> ?_,p.I.I⟩,λb Q _=> ?_,p.a.M 0<|Ã U,λq a d D=> ?_,λq a x d G=>Ç<|Xi C.q d G,λa d q u=> ?_,r.2⟩
 .rw[y]at C;exact C.Y c (Ú _) (C.m 0 c) (C.g 0 c) (C.I 0 c) (C.e 0 c) (C.fw 0 c) C.N (C.r 0 c) (C.S 0 c) U λa d=>⟨(C.n 0 c a d).1,(C.n 0 c a d).2 0 c⟩
 .let⟨k,j,l,v,H⟩:=p.I.C b x t;by_cases h:b=0
  .subst h;rw[p.h.1,m]at j;rw[p.h.2,m]at l;exact⟨k,j,l,v,H⟩
  .have T:=(æ.1 t).1;simp only[h,if_false];rw[vP f _ h];have I:∀N,S b=pw F.P N->tr b=.fD->o b=.no->∃k,lj F.P (b==0) (pw F.P N) .fD (xF<|f b) k/\wZ k .no x/\(k.status=ċ\/k.status=ş)/\(x=k\/True):=λN z e g=>by
    rw[z,e]at j;rw[g]at l;exact⟨k,λJ _=>j _<|fJ.fX _ _,l,v,Ç trivial⟩
   by_cases J:b<F.L
   .let⟨z,e,g⟩:=p.l b Z J;grind
   .have K:F.L<=b/\b<F.L+(F.n+1):=Z
    simp only[K,dif_pos,and_self];let⟨z,e,g⟩:=p.k (b-F.L) _ Z<|Classical.choose_spec<|s (b-F.L) Z;rw[show F.L+(b-F.L)=b by omega]at z e g;exact I _ z (g ⟨_,U⟩) e
 .rw[vP f _ Z];rfl
 .rcases r.1 q a d D with z|⟨z,k⟩;all_goals grind
 .unfold Trace.act? at u;let⟨k,z,g⟩:=ġ.1 u;have:=C.q k<|Array.mem_of_getElem? z;rw[g]at this;have e:a.block<w.heap.size:=this;omega
theorem kH.Y{Y:Nat->Prop}{J:Jd}{s:gB}(c:kH P Y zX n J s D f gs w qJ)(t:(f 0).d=0)(o:gs[0]?=Â g)(u:g.status=ċ){p:Jd}{T:gB}{l:ff}(v:l.w=w)(y:l.d=0)(B:¬l.q)(k:∀b,¬l.I b)(r:∀a,¬l.r a)(m:∀a,¬l.N a)(C:∀a,¬l.K a)(E:∀b,l.O b->b<w.heap.size/\∀x:â,x.block=b->¬zX (û x))(F:lj P Ò p T l g): rX P zX n p T D (vt f l) gs w qJ:=by
 refine⟨c.C,⟨?_,λi x j=> ?_,c.r.I⟩,λi o _=> ?_,B,c.M,c.S,c.b,c.N⟩
 .refine(c.r.r).Y c.C (Ú _) (λb _=>k b) (λa _=>m a) (λ_ _=>id) (λa e=>e.elim (λq=>absurd q<|r a) λq=>absurd q<|m a) (λb z=>z.elim (λq=>(E b q).1) λq=>absurd q<|k b) (λ_ h=>h.elim) (by rw[v];exact fJ.fX _ _) ⟨λa e G x j I=> ?_,λa e=>(k _ e).elim,λa e=>(r a e).elim,λa e=>(m a e).elim⟩ (by rw[y,t]) λa e=>absurd e<|C a;rcases c.M G x j (by rw[I];rfl)with z|⟨z,_⟩;all_goals grind
 .by_cases h:i=0
  .subst h;rw[o]at j;obtain rfl:=Ó j;exact⟨g,F,.gf,Ã u,Ã U⟩
  .let⟨g0,e,G,I,z⟩:=c.r.C i x j;simp only[h,if_false]at e z|-;rw[vP f _ h];exact⟨g0,λL _=>e _<|fJ.fX _ _,G,I,z⟩
 .rw[vP f _ Z];rfl
end
section
variable{F:Ph}{H:Nat}{J:Jd}{f:Nat->ff}{gs:Array Ý}
structure So(F:Ph)(H:Nat)(l0 l:ff)(w:ß):Prop where
 ft:∀b,l.O b->l0.O b/\¬(F.M b\/b=F.Y)
 r:∀b,l.I b->l0.O b/\¬(F.M b\/b=F.Y)/\¬l.O b
 C:∀a,l.r a↔∃x,x<=F.n/\lW F x a
 I:∀a,l.N a↔a=jg F.toFx 0
 k:∀a,l.K a->F.G a
 M:∀b,F.M b\/b=F.Y->l0.O b
 N:∀b,F.M b->H<=b
 g:l.w=w
 d:l.d=0
 q:¬l.q
 S:∀b,F.i b->l.I b
 Y:ic w F.C (.cl 1 0)
 c:ic w (F.I 0) (.cl 0 0)
 e:∀k,1<=k->k<=F.m->ic w (F.I k) (.cl 1 0)
 f:F.d 0 F.l F.i w
def mo(F:Ph)(D:Nat->Nat)(a:Nat->Nat):fV F where
 M:=.go 0
 S:=.kP 0
 C:=λ_=> .ny 0
 N:=λ_=>Á
 I:=a
 c:=λ_=>F.l
 V:=λk=>if k=0 then F.i else λ_=>False
 e:=λ_=>0
 d:=λ_=>Á
 f:=λ_=>0
 b:=.cl 1 0
 a:=λk=>if k=0 then .cl 0 0 else .cl 1 0
 g:=Á
 h:=D
theorem La(ok:F.Ok)(h:lW F i a):(∃k,1<=k/\k<=F.m/\a=jg F.toFx k)\/∃p,p≠F.f/\a=jo F p:=by
 unfold lW at h;split at h
 .obtain⟨k,c,d,b|b⟩:=h
  .grind
  .exact Ç ⟨_,ok.Y.1 k c d,b⟩
 .let⟨k,c,_,b⟩:=h;exact Ç ⟨_,ok.Y.2 _ (by assumption),b⟩
def ZK(ok:F.Ok)(h:lW F i (jg F.toFx 0)):False:=by
 rcases La ok h with⟨k,c,b,a⟩|⟨p,_,a⟩
 .have:F.I 0=F.I k:=by injection a
  have:=ok.S 0 k Z b this;omega
 .have:F.I 0=F.Y:=by injection a
  exact ok.C<|by rw[<-this];exact Ç ⟨0,Z,U⟩
theorem rX.akz(X:gS F)(c:rX F.P zX H J .fD D f gs w qJ)(hL:F.L=gs.size)(hB:F.S=0)(E:gs[0]?=Â g){l:ff}(st:So F H (f 0) l w)(pz:(f 0).d=0)(u:Nat->Nat)(hgo:F.g 0 u l g): PI F qJ.size zX (mo F D u) (λi=>if i=0 then F.g 0 u else pw F.P (D i)) (λ_=> .fD) (λ_=> .no) (λi=>if i=0 then l else xF (f i)) gs w qJ:=by
 have S:=X.C;have C:=c.r.r;have kg:=c.C;have T:0<gs.size:=Z
 have y:(mo F D u).r=0:=U;have hY:∀b,(mo F D u).Y b↔(F.M b\/b=F.Y):=λb=>by
  constructor
  .rintro(q|q|⟨j,B,_⟩);all_goals grind
  .rintro(q|q)
   .exact Ã q
   .exact Ç<|Ã q
 have ZL:∀a,l.C a->F.M a.block\/a.block=F.Y:=λa o=>by
  rcases o with q|q
  .let⟨x,_,G⟩:=(st.C a).1 q;rcases La S G with⟨k,B,t,rfl⟩|⟨p,_,rfl⟩
   .exact Ã<|Ç ⟨k,t,U⟩
   .exact Ç U
  .rw[(st.I a).1 q];exact Ã<|Ç ⟨0,Z,U⟩
 have nC:∀i,i≠0->∀a,¬((λi=>if i=0 then l else xF (f i)) i).C a:=λi h a q=>by simp only[h,if_false]at q;exact q.elim id id
 have nM:∀i,i≠0->∀b,¬((λi=>if i=0 then l else xF (f i)) i).M b:=λi h b q=>by simp only[h,if_false]at q;exact q.elim id id
 have hM0:∀b,l.M b->(f 0).O b/\¬(F.M b\/b=F.Y):=λb q=>q.elim (st.ft b) λz=>⟨(st.r b z).1,(st.r b z).2.1⟩;have Pq:iT F.S (λi=>i<gs.size) (mo F D u).Y (λi=>if i=0 then l else xF (f i)) w qJ:=by
  refine⟨λi j E hj N b v=> ?_,λi j E hj N a o=> ?_,λi E b v=> ?_,λi E a o=> ?_,λi E b v=> ?_,λi E a o=> ?_,λi E b v=> ?_,λb v=>C.fw 0 T b<|Ã<|st.M b<|(hY b).1 v,λi E=> ?_,λi E=> ?_,λi E=> ?_,C.l,C.q,λq a e B t I=> ?_,λi E a o=> ?_⟩
  .by_cases h:j=0
   .subst h;simp only[N,if_false]at v;exact v.elim
   .exact nM j h b
  .by_cases h:j=0
   .subst h;simp only[N,if_false]at o;exact o.elim
   .exact nC j h a
  .by_cases h:i=0
   .subst h;simp only[if_true]at v|-;exact λq=>(st.r b q).2.2 v
   .simp only[h,if_false]at v;exact v.elim
  .by_cases h:i=0
   .subst h;simp only[if_true]at o|-;intro q;rw[(st.I a).1 q]at o;let⟨x,_,G⟩:=(st.C _).1 o;exact ZK S G
   .simp only[h,if_false]at o;exact o.elim
  .by_cases h:i=0;all_goals simp_all
  .by_cases h:i=0;all_goals simp_all
  .by_cases h:i=0
   .subst h;simp only[if_true]at v;exact C.fw 0 T b<|Ã (hM0 b v).1
   .simp_all
  .by_cases h:i=0
   .subst h;simp only[if_true];rw[st.g];exact fJ.fX _ _
   .simp only[h,if_false];exact⟨(C.r i E).r,λj q=>q.elim (λz=>z.elim) λz=>z.elim,λa q=>q.elim (λz=>z.elim) λz=>z.elim,λa q=>q.elim (λz=>z.elim) λz=>z.elim,λa q=>q.elim⟩
  .by_cases h:i=0
   .subst h;simp only[if_true];have s:=(C.S 0 T).ft;exact⟨λa o=>s a (st.ft _ o).1,λa o=>(s a (st.r _ o).1).r,λa o=>s a<|st.M _<|ZL a<|Ã o,λa o=>(s a<|st.M _<|ZL a<|Ç o).r⟩
   .simp only[h,if_false];exact⟨λa o=>o.elim,λa o=>o.elim,λa o=>o.elim,λa o=>o.elim⟩
  .by_cases h:i=0
   .subst h;simp only[if_true];rw[C.f 0 T,pz,st.d]
   .simp only[h,if_false];exact C.f i E
  .have:=C.s q a e B t I;omega
  .by_cases h:i=0
   .subst h;simp only[if_true]at o;let⟨b,v,s⟩:=st.k a o;have Q:a.block=b:=by rcases s with rfl|rfl<;>rfl
    refine⟨by rw[hY,Q];exact Ã v,λk K q=> ?_⟩;by_cases t:k=0
    .subst t;simp only[if_true]at q;let⟨x,_,G⟩:=(st.C a).1 q;rcases La S G with⟨k',_,_,I⟩|⟨p',_,I⟩
     .rcases s with W|W<;>rw[W]at I<;>simp[fP,gX,jg]at I
     .have:a.block=F.Y:=by rw[I];rfl
      exact S.C<|by rwa[<-this,Q]
    .simp only[t,if_false]at q;exact q
   .simp only[h,if_false]at o;exact o.elim
 have ZM:gM F.P F.S (mo F D u).Y (λi=>if i=0 then F.g 0 u else pw F.P (D i)) (λ_=> .fD) (λ_=> .no) (λi=>if i=0 then l else xF (f i)) gs w qJ:=by
  refine⟨Pq,λi x G=> ?_,c.r.I⟩;by_cases h:i=0
  .subst h;rw[E]at G;obtain rfl:=Ó G;simp only[if_true];exact⟨g,λs r=>X.Gf 0 u l g s hgo r,.gf,Ã<|X.I 0 u l g hgo,Ã U⟩
  .let⟨g0,Q,q2,N,q4⟩:=c.r.C i x G;simp only[h,if_false]at Q|-;exact⟨g0,λs _=>Q _<|fJ.fX _ _,q2,N,Ç trivial⟩
 have akA:iI F (mo F D u) (λi=>if i=0 then l else xF (f i)) gs.size w:=by
  refine⟨λi E a o=> ?_,λx _ t a o=> ?_,λ_=> ?_,λh=>absurd h (by rw[y];omega),λh=>absurd h (by rw[y];omega),λj h=>absurd h (by rw[y];omega),λj h=>absurd h (by rw[y];omega),λx ⟨e,B,_⟩=>(by cases B),λi h=> ?_,λi B t=> ?_,λk K b v=> ?_,λk K i E q=> ?_,λk B t=> ?_,λj h=>absurd h<|by rw[y];omega⟩
  .by_cases h:i=0
   .subst h;simp only[if_true]at o;rcases o with q|q
    .let⟨x,_,G⟩:=(st.C a).1 q;grind [La]
    .exact Ã ⟨0,Z,(st.I a).1 q⟩
   .simp_all
  .simp only[if_true];exact(st.C a).2 ⟨x,t,o⟩
  .simp only[if_true];exact⟨(st.I _).2 U,st.S⟩
  .rcases h with rfl|⟨x,G,_⟩
   .simp only[if_true];exact st.q
   .grind
  .have:i≠0:=Z
   simp only[this,if_false];rfl
  .have Q:k=0:=by have:k<=0:=K;omega
   subst Q;have B:=st.S b v;refine⟨C.fw 0 T b<|Ã (st.r b B).1,by rw[hY];exact(st.r b B).2.1,λi E q=> ?_⟩;by_cases h:i=0
   .subst h;simp only[if_true]at q;exact(st.r b B).2.2 q
   .simp only[h,if_false]at q;exact q
  .have Q:k=0:=by have:k<=0:=K;omega
   subst Q;by_cases h:i=0
   .subst h;simp only[if_true]at q;let⟨x,_,G⟩:=(st.C _).1 q;exact ZK S G
   .simp only[h,if_false]at q;exact q
  .have:k<=0:=t;omega
 have gg:∀k,k<=F.m->ic w (F.I k) ((mo F D u).a k):=λk K=>by
  by_cases h:k=0
  .subst h;exact st.c
  .have:(mo F D u).a k=.cl 1 0:=by simp[mo,h]
   rw[this];exact st.e k Z K
 have wdd:Wd F (mo F D u) w:=by
  refine⟨st.Y,gg,λj h=>absurd h (by rw[y];omega),λk K=> ?_,λk B t=> ?_,λj h=>absurd h<|by rw[y];omega⟩
  .have Q:k=0:=by have:k<=0:=K;omega
   subst Q;exact⟨.vr,st.f⟩
  .have:k<=0:=t;omega
 have ZN:∀k,(sumTo F.n λj=>((mo F D u).C j).gF F j k)=0:=λk=>by
  have:∀n,(sumTo n λ_=>0)=0:=λn=>by
   induction n with
   |zero=>rfl
   |succ n s=>simp[sumTo,s]
  exact this F.n
 have akB:sumTo (F.n+1) (mo F D u).G=1:=by
  have B:=xc (f':=(mo F D u).G) (j:=0) (n:=F.n+1) Z (λi E=>by
   have:¬i<1:=Z
   show(if i<1 then _ else _)=0;rw[if_neg this])
  have t:∀n,(sumTo n λ_=>0)=0:=λn=>by
   induction n with
   |zero=>rfl
   |succ n s=>simp[sumTo,s]
  rw[t]at B;have I:(mo F D u).G 0=1:=U;omega
 have pss:Ps F (mo F D u):=by
  refine⟨U,λj h=> ?_,λj h=> ?_,λr=>⟨λh=>(by cases h),λh=>(by cases h)⟩,λ_=>rfl,λk=>⟨λh=> ?_,λh=>(by cases h),λp h=>by cases h⟩,λ_ _=>rfl,λj r h=>absurd h (by rw[y];omega),λj h=>absurd h (by rw[y];omega),λh=>absurd U h,λ_ _=>rfl,λj j' h=>absurd h (by rw[y];omega),λj h=>absurd h (by rw[y];omega),λc reg h=> ?_,λreg h=>(by cases h),λr s h=>(by cases h),λx p h=>(by cases h),λh=> ?_,λk B t I=> ?_,λk B t=> ?_,λj r h=>absurd h (by rw[y];omega),λj r h=>absurd h (by rw[y];omega),λh=>(by cases h),λ_ _=>⟨1,rfl⟩,λ_ _ _=>rfl,λj r h=>absurd h<|by rw[y];omega⟩
  .rcases h with h|h|h|h<;>cases h;omega
  .rcases h with h|h|h<;>cases h
  .cases h;omega
  .cases h;exact⟨akB.symm,U⟩
  .rcases h with h|h|h<;>cases h
  .rw[ZN];have:k≠0:=Z
   simp[mo,this]
  .have Q:k=0:=by have:k<=0:=t;omega
   subst Q;exact Ç<|Ç ⟨λp h=>(by cases h),Ã ⟨rfl,ZN 0⟩⟩
 have s:TI F.toFx qJ.size zX (mo F D u).r (mo F D u).S.rl (mo F D u).V (mo F D u).e (mo F D u).d (mo F D u).iz (mo F D u).f qJ:=by
  refine⟨Ú _,λp a x o Q hc=> ?_,λx h=>absurd h (by rw[y];omega),λk B t=> ?_,λk B t=> ?_,λb v=>c.b _<|st.N b v,λx h=>absurd h (by rw[y];omega),λp a B t=> ?_,λp a _ t I=>c.M p a t I,λp g _ t I W=>c.N p g t I W⟩
  .let⟨b,v,G⟩:=hc;have Pn:x.block=b:=by rcases G with rfl|rfl<;>rfl
   rcases c.S p a x o Q with q|q
   .exact Ã ⟨OL o,q⟩
   .have:=st.N b v;omega
  .have:k<=0:=t;omega
  .have:k<=0:=t;omega
  .have:=OL t;omega
 refine⟨by rw[y,hL];rfl,ZM,⟨by simp only[if_true];rfl,U⟩,λh=>absurd h (by rw[y];omega),λj h=>absurd h (by rw[y];omega),λx e h=>absurd h (by rw[y];omega),λi B t=>⟨?_,U,U⟩,akA,wdd,pss,s,λi x G v=> ?_,λj r h=>absurd h<|by rw[y];omega⟩
 .have:i≠0:=Z
  simp only[this,if_false];rfl
 .let⟨g0,_,q2,N,_⟩:=ZM.C i x G;cases q2 with
  |gf=>rcases N with N|N<;>rw[v]at N<;>cases N
end
end Go.Proofs.Y.fy
namespace Go.Proofs.Y.fy
open Go Go.Conc Go.Proofs.Y.Lift Go.RowKit Go.Conc.Lib Go.ConcR.Gen
open Go.Proofs Go.Proofs.YtgpphkdoanciiabGreatDoor
section
variable{kd:Nat->Int}{R:Nat}
theorem HF(h:i∈gZ kd R):i<R/\kd i=1:=by have:=Ā.1 h;grind
theorem HG(h:i∈jy kd R):i<R/\kd i≠1:=by have:=Ā.1 h;grind
def akC:(gZ kd R).Nodup:=ņ.filter _
def akD:(jy kd R).Nodup:=ņ.filter _
def BZ(h:k<jJ.length):jJ[k]?=Â (jJ.getD k 0):=by simp[List.getD,h]
def vR{l:List Nat}(h:k<l.length):l.getD k 0∈l:=ħ<|BZ h
def ZO(c:jJ.Nodup)(a:i<jJ.length)(d:j<jJ.length)(h:jJ.getD i 0=jJ.getD j 0):i=j:=by have b:=BZ a;rw[h]at b;exact(List.getElem?_inj a c).1<|b.trans (BZ d).symm
def ZQ:∀R,(gZ kd R).length+(jy kd R).length=R
 |0=>rfl
 |R+1=>by
  have:=ZQ R;by_cases h:kd R=1
  .rw[tq h,RV h];simp;omega
  .rw[vL h,RY h];simp;omega
end
structure xG where
 γ:Type
 C:γ
 M:Nat->γ->γ->Prop
 RD:γ->Ï->(Nat->Prop)->ß->Prop
 I:Nat->ByteArray
 r:Nat->Prop
def Lb(M:xG)(L n R:Nat)(kd:Nat->Int)(a g:Nat->Nat)(b c:Option â)(d e f h j l:Nat)(o:List é)(p:Nat->Prop)(RC e8:ß->Prop):SD where
 L:=L
 g:=0
 n:=n
 m:=fN kd R
 q:=(jy kd R).length
 N:=R
 I:=l
 C:=g
 M:=f
 S:=h
 s:=j
 u:=b
 t:=d
 l:=c
 k:=e
 o:=λk=>Â ⟨a<|(gZ kd R).getD (k-1) 0,0,Á⟩
 a:=λk=>(gZ kd R).getD (k-1) 0
 i:=λi=>Â ⟨a<|(jy kd R).getD i 0,0,Á⟩
 c:=λi=>(jy kd R).getD i 0
 b:=λi=>if i<(jy kd R).length then fN kd ((jy kd R).getD i 0)else 0
 f:=o
 d:=p
 RC:=RC
 p:=e8
 γ:=M.γ
 w:=M.C
 v:=M.r
 h:=M.M
 RD:=M.RD
 e:=λk=>M.I<|(gZ kd R).getD (k-1) 0
 j:=λi=>M.I<|(jy kd R).getD i 0
section
variable{M:xG}{L R:Nat}{kd:Nat->Int}{a:Nat->Nat}{c:Option â}{cs:List é}{RB:Nat->Prop}{RC e8:ß->Prop}{l d f:ff}
def akE(h:K0 kd a D R (Æ O (fN kd R) j7) (Æ c (jy kd R).length j6) v j b J i j9 m l d f)(F:∀w p,RC w->(∀g,RB g->p.heap[g]?=w.heap[g]?)->RC p)(G:∀w p,e8 w->(p.os=w.os/\p.output=w.output)->e8 p)(H:∀s B V w p,M.RD s B V w->(∀g,V g->p.heap[g]?=w.heap[g]?)->M.RD s B V p)(I:1<=n)(K:1<=L)(X:n+R<1000):(Lb M L n R kd a D O c j7 j6 j b J i cs RB RC e8).Ok:=by
 have Y:=ZQ (kd:=kd) R;have hc:(gZ kd R).length=fN kd R:=U;let⟨a1,a2,a3⟩:=h.M;let⟨a4,a5,a6⟩:=h.S;have z:∀k,k<=fN kd R->d.w.heap.size<=D k/\D k<J:=λk r=>⟨(h.r.M k r).1,h.N k r⟩;have R9:=Õ (z 0 Z).1<|Ł (z 0 Z).2;refine⟨F,G,H,I,K,?_,?_,λo=> ?_,λo t=>(HG<|vR t).1,λk C x=> ?_,λk r e=> ?_,λk u r N e=> ?_,?_,λo i' t P e=>ZO akD t P e,λk u C x h3 Q e=> ?_,λo k t C x e=> ?_,λg _=>ă g⟩
 .show n+(jy kd R).length+fN kd R<1000;omega
 .show R<1000;omega
 .show(if o<(jy kd R).length then fN kd ((jy kd R).getD o 0)else 0)<=fN kd R;split
  .rename_i t;exact Zo<|Ł (HG<|vR t).1
  .omega
 .refine(HF<|vR ?_).1;have:k<=fN kd R:=x;omega
 .have:=(z k r).2;have y:D k=i:=e;omega
 .have y:D k=D u:=e;have S:=r;have T:=N;rcases Nat.lt_trichotomy k u with q|q|q
  .have:=h.r.S k u q T;omega
  .exact q
  .have:=h.r.S u k q S;omega
 .rintro(e|⟨k,r,e⟩)
  .have y:j=i:=e;omega
  .have y:j=D k:=e;have:=(z k r).1;omega
 .have W:k<=fN kd R:=x;have h4':u<=fN kd R:=Q;have:=ZO akC Z Z e;omega
 .have W:k<=fN kd R:=x;have y:(jy kd R).getD o 0=(gZ kd R).getD (k-1) 0:=e;have E:=(HG<|vR t).2;rw[y]at E;exact E<|(HF (kd:=kd) (R:=R)<|vR (k:=k-1) Z).2
end
abbrev kI(M:xG)(L n R:Nat)(kd:Nat->Int)(c g:Nat->Nat)(d e:Option â)(f h i a j k:Nat)(cs:List é)(l:ff):SD:=Lb M L n R kd c g d e f h i a j k cs (λb=>l.O b\/b=a) (λw=>∀b,l.O b->w.heap[b]?=l.w.heap[b]?) λw=>w.os=l.w.os/\w.output=l.w.output
def Lc(D:SD)(l:ff):ff:={l with O:=λb=>l.O b/\¬(D.Y.M b\/b=D.M)/\¬D.d b,I:=D.d,r:=λa=>∃x,x<=D.n/\lW (D.r Ä) x a,N:=λa=>a=jg D.Y 0,K:=D.Y.G}
section
variable{M:xG}{L:Nat}{f:Nat->Int}{r:Nat->Nat}{u:Option â}{y:Nat}{cs:List é}{l B o:ff}
def Ld{cs:Array Ï}(h:w.heap[b]?=Â (É cs e)):w.frozen? ⟨b,i,Á⟩=Ì:=by simp[î,h]
def Sp{cs:Array Ï}(h:w.heap[b]?=Â (É cs e))(a:cs[0]?=Â (Ê ê<|(i:Int)*gd+0))(d:cs[1]?=Â (Ê Ď 0))(f:i<1000000):ic w b (.cl i 0):=by
 refine⟨?_,?_,Ld h,Ld h,(⟨f,Z,λ_=>rfl⟩)⟩
 .simp[Ö,fP,h,a,GS.st]
 .simp[Ö,gX,h,d,GS.sm]
def akF(h:K0 f r D j (Æ O (fN f j) j6) (Æ u (jy f j).length y) v k m j9 b j7 J l B o)(s:gD l)(Le:∀g,¬l.I g)(W:¬l.q)(X:l.d=0)(hH:i<=l.w.heap.size)(hV:∀g,M.r g->l.O g)(qV:M.RD M.C v M.r o.w)(xE:o.w.os=l.w.os/\o.w.output=l.w.output)(hn:1<=n)(hs:n+j<1000){t:Array Ï}(hT:Hh m b (D<|fN f j) n (Æ u (jy f j).length y) t)(dk:Nat->Nat): So ((kI M L n j f r D O u j6 y k m j9 b cs l).r Ä) i o (Lc (kI M L n j f r D O u j6 y k m j9 b cs l) o) o.w/\ ((kI M L n j f r D O u j6 y k m j9 b cs l).r Ä).g 0 dk (Lc (kI M L n j f r D O u j6 y k m j9 b cs l) o) (BA (À<|Â ⟨b,0,Á⟩) jQ (À<|Â ⟨b,0,Á⟩) (ñ #[]) j7 J<|Eg t::cs):=by
 let⟨a1,a2,a3⟩:=h.M;let⟨a4,a5,a6⟩:=h.S;have N:∀C,C<=fN f j->B.w.heap.size<=D C/\D C<j9:=λC E=>⟨(h.r.M C E).1,h.N C E⟩;have R9:=Õ (N 0 Z).1<|Ł (N 0 Z).2;have Y:=λg q=>s.fw g<|Ã q;have hc:(gZ f j).length=fN f j:=rfl;have Q:∀g,(kI M L n j f r D O u j6 y k m j9 b cs l).Y.M g\/g=k->g=b\/(∃C,C<=fN f j/\g=D C)\/g=k:=λg q=>by
  rcases q with(q|⟨C,S,q2⟩)|q
  .exact Ã q
  .exact Ç<|Ã ⟨C,S,q2⟩
  .exact Ç<|Ç q
 have H:∀g,(kI M L n j f r D O u j6 y k m j9 b cs l).Y.M g\/g=k->l.w.heap.size<=g/\g≠m/\g≠j9/\g≠j7/\g≠J/\(∀C,(Æ O (fN f j) j6).ownBlock=Â C->g≠C)/\(∀C,(Æ u (jy f j).length y).ownBlock=Â C->g≠C):=λg q=>by
  rcases Q g q with rfl|⟨C,E,rfl⟩|rfl
  .exact⟨Z,Z,Z,Z,Z,λC e=>by have:=h.o3 C e;omega,λC e=>by have:=h.o4 C e;omega⟩
  .have:=N C E;exact⟨Z,Z,Z,Z,Z,λp e z=>(h.r.M C E).2.1<|z▸e,λp e z=>(h.r.M C E).2.2<|z▸e⟩
  .exact⟨Z,Z,Z,Z,Z,λC e=>by have:=(h.r.r C e).2;omega,λC e=>by have:=(h.r.C C e).2;omega⟩
 have akG:∀g,(kI M L n j f r D O u j6 y k m j9 b cs l).Y.M g\/g=k->o.O g:=λg q=>by
  rcases Q g q with rfl|⟨C,E,rfl⟩|rfl
  .exact h.Y.ft
  .by_cases x:C=0
   .subst x;exact h.r.N.ft
   .exact(h.r.I C Z E).ft
  .exact h.I.ft
 have K:∀g,o.O g->l.w.heap.size<=g->g≠m->¬((kI M L n j f r D O u j6 y k m j9 b cs l).Y.M g\/g=k)->(Lc (kI M L n j f r D O u j6 y k m j9 b cs l) o).O g:=λg S q2 q4 q3=>⟨S,q3,λq=>q.elim (λq=>by have:=Y g q;omega) q4⟩;have ZR:ic o.w b (.cl 1 0):=Sp h.Y.I U U Z;have ZS:ic o.w (D 0) (.cl 0 0):=Sp h.r.N.I U U Z;have ZT:∀C,1<=C->C<=fN f j->ic o.w (D C) (.cl 1 0):=λC I P=>Sp (h.r.I C I P).I U U Z;have T:∀g c,ic o.w g c->nF g o.w:=λg c q=>⟨by rw[show(⟨g,0,Á⟩:â)=fP g from rfl,q.C];rfl,by rw[show(⟨g,1,Á⟩:â)=gX g from rfl,q.M];rfl⟩;refine⟨⟨λg q=>⟨q.1,q.2.1⟩,λg q=>⟨?_,λz=> ?_,λz=>z.2.2 q⟩,λa=>Iff.rfl,λa=>Iff.rfl,λa q=>q,λg q=>akG g q,λg q=>Õ hH (H g<|Ã q).1,U,h.C.d.trans X,by show¬o.q;rwa[h.C.q],λg q=>Ã<|hV g q,ZR,ZS,ZT,⟨⟨v,h.r.N.C U,qV⟩,λ_=> ?_⟩⟩,?_⟩
 .rcases q with q|q
  .exact h.C.O g q
  .rw[q];exact h.a.ft
 .rcases q with q|q
  .have:=(H g z).1;have:=Y g q;omega
  .exact(H g z).2.1 q
 .refine⟨?_,by unfold kX;rw[show o.w.heap[(kI M L n j f r D O u j6 y k m j9 b cs l).M]?=Â (xA j)from h.I.I],xE⟩;show o.w.cell? ⟨k,j,Á⟩=Á;simp only[Ö,h.I.I,xA,ı,ĵ,if_false];exact Array.getElem?_eq_none<|by rw[ř];exact Ú _
 refine⟨h.C.d.trans X,by show¬o.q;rwa[h.C.q],ă _,Ã ⟨U,⟨λg q=>⟨⟨g,q,Ã U⟩,⟨g,q,Ç U⟩⟩,λg q=> ?_,Ç<|Ç U,h.a.C U,(Ã<|K j9 h.c.ft Z Z λz=>(H j9 z).2.2.1 U),h.c.C U,λC E=> ?_,λe hi=> ?_,λa q=> ?_,λg q=>Ç q,λg q=>h.C.r g (Ã q) id⟩,t,j7,J,jQ,hT,⟨(K j7 h.d.ft Z Z λz=>(H j7 z).2.2.2.1 U),h.d.I⟩,⟨(K J h.b.ft Z Z λz=>(H J z).2.2.2.2.1 U),h.b.I⟩,U⟩⟩
 .rcases Q g (Ã q)with rfl|⟨C,E,rfl⟩|rfl
  .exact T _ _ ZR
  .by_cases x:C=0
   .subst x;exact T _ _ ZS
   .exact T _ _<|ZT C Z E
  .exact absurd q λz=>by
    rcases z with z|⟨C,x,F⟩
    .have G:g=b:=z;omega
    .have G:g=D C:=F;have:=(N C x).1;omega
 .have tT:C<fN f j:=E;rcases h.r.jS.2 with⟨_,e2⟩|⟨g,cap,cur,V,_,hcur,Hu⟩
  .omega
  .have zi:O=Â ⟨g,0,Á⟩:=by injection V
   subst zi;have x:=h.r.jS.cells U;have hz:(gZ f j).zipIdx[C]?=Â ((gZ f j).getD C 0,C):=by rw[List.getElem?_zipIdx,BZ Z];simp
   have F:∀c,c<4->(jS f r D j)[C*4+c]?=(tI r D ((gZ f j).getD C 0,C))[c]?:=λc q=>R1 (λ_=>rfl) q _ C _ hz;have G:∀p,(⟨g,0,Á⟩:â).add p=⟨g,p,Á⟩:=λp=>by rw[ğ,č]
   refine⟨g,U,Ã (K g (h.r.r g U).1 (Õ Z (h.r.r g U).2) (by have:=(h.r.r g U).2;omega) λz=>(H g z).2.2.2.2.2.1 g U U),?_,?_,?_,?_⟩
   .have:=x (C*4+0) _<|F 0 Z;rwa[G]at this
   .have:=x (C*4+1) _<|F 1 Z;rwa[G]at this
   .have:=x (C*4+2) _<|F 2 Z;rwa[G]at this
   .have:=x (C*4+3) _<|F 3 Z;rwa[G]at this
 .have lz:e<(jy f j).length:=hi;rcases h.r.mJ.2 with⟨_,e2⟩|⟨g,cap,cur,V,_,hcur,Hu⟩
  .omega
  .have Sk:u=Â ⟨g,0,Á⟩:=by injection V
   subst Sk;have x:=h.r.mJ.cells U;have F:∀c,c<4->(mJ f r D j)[e*4+c]?=(tQ f r D<|(jy f j).getD e 0)[c]?:=λc q=>R1 (λ_=>rfl) q _ e _<|BZ lz;have G:∀p,(⟨g,0,Á⟩:â).add p=⟨g,p,Á⟩:=λp=>by rw[ğ,č]
   refine⟨g,U,Ã (K g (h.r.C g U).1 (Õ Z (h.r.C g U).2) (by have:=(h.r.C g U).2;omega) λz=>(H g z).2.2.2.2.2.2 g U U),?_,?_,?_,?_⟩
   .have:=x (e*4+0) _<|F 0 Z;rwa[G]at this
   .have:=x (e*4+1) _<|F 1 Z;rwa[G]at this
   .have:=x (e*4+2) _<|F 2 Z;rw[G]at this;show o.w.cell? ⟨g,e*4+2,Á⟩=Â (À<|Â ⟨D (if e<(jy f j).length then fN f ((jy f j).getD e 0)else 0),0,Á⟩);rw[if_pos lz];exact this
   .have:=x (e*4+3) _<|F 3 Z;rwa[G]at this
 .have V:∀p,p<j->(o.w.cell? ⟨k,p,Á⟩).isSome=Ò/\o.w.frozen? ⟨k,p,Á⟩=Ì:=λp hp=>by
   refine⟨?_,Ld h.I.I⟩;have:p<(madeCells (Ŵ<|à ⟨#[]⟩) j).size:=by rwa[ř]
   simp[Ö,h.I.I,this]
  let⟨x,_,F⟩:=q;unfold lW at F;split at F
  .obtain⟨C,I,P,rfl|rfl⟩:=F
   .have G:=P;refine⟨?_,Ld (h.r.I C I G).I⟩;show(o.w.cell? ⟨D C,2,Á⟩).isSome=Ò;rw[(h.r.I C I G).C U];rfl
   .have G:C<=fN f j:=P;exact V _ (HF<|vR Z).1
  .obtain⟨e,I,_,rfl⟩:=F;exact V _ (HG<|vR I).1
end
end Go.Proofs.Y.fy
namespace Go.Proofs.Y.fy
open Go Go.Conc Go.Proofs.Y.Lift Go.RowKit Go.Conc.Lib Go.ConcR.Gen
open Go.Proofs Go.Proofs.YtgpphkdoanciiabGreatDoor
open Go.ConcN (sumTo sumTo_congr)
def Lf(kd:Nat->Int)(f:Nat->Nat)(R n:Nat)(h:Ï)(l:ff)(cs:List é):Jd:=λi j=>
 ∃g k t m b o c p a d e q,K0 kd f g R m b h o c p a d e l k i/\Hh c a (g<|fN kd R) n b t/\j=BA (À<|Â ⟨a,0,Á⟩) q (À<|Â ⟨a,0,Á⟩) (ñ #[]) d e (Eg t::cs)
theorem ZU(h:w.ownsRow i e j v n l):∃b c,v=Æ b n c:=by rcases h.2 with⟨a,d⟩|⟨b,f,g,a,_⟩;all_goals grind
section
variable{F:Ph}{E:fV F}{S:Nat->Jd}{B:Nat->gB}{G:Nat->iC}{y:Nat->ff}{o:Array Ý}
theorem PI.akH(p:PI F j9 zX E S B G y o w qJ)(c:E.M=.gi)(d:1<=F.n):E.S=.kP F.m/\(∀i,i<F.q->w.cell? (jo F<|F.a i)=Â (à<|F.k i)/\∀k,k<o.size->¬(y k).r (jo F<|F.a i)):=by
 let⟨j,a⟩:=p.jr c;refine⟨p.C.f (by let⟨N,h⟩:=a 0 Z;rw[h];simp),λi k=> ?_⟩;have l:i%F.n<F.n:=Ĵ _ d;have e:i%F.n+i/F.n*F.n=i:=by rw[Nat.mul_comm];exact Nat.mod_add_div i F.n
 let⟨N,h⟩:=a (i%F.n+1) Z;let⟨_,r,f,g⟩:=p.C.l (i%F.n) Z (by rw[h];simp);have b:i/F.n<(E.C<|i%F.n).kF:=by rw[f];exact(g (i/F.n)<|by rwa[e])
 have s:=p.M.N (i%F.n) Z (i/F.n) (by rwa[e]) b;have t:=p.a.d (i%F.n) Z (i/F.n) (by rwa[e]) b;grind
end
structure akI(D:SD)(l:ff)(w:ß)(g:Ý):Prop where
 I:∀b,l.O b->w.heap[b]?=l.w.heap[b]?
 cba:w.cell? ⟨D.S,0,Á⟩=Â (Æ (Â ⟨D.M,0,Á⟩) D.N D.N)
 kP:∀k,1<=k->k<=D.m->w.cell? ⟨D.M,D.a k,Á⟩=Â (à<|D.e k)
 Sq:∀i,i<D.q->w.cell? ⟨D.M,D.c i,Á⟩=Â (à<|D.j i)
 HJ:∃s sl V,nz (D.r Ä) D.m s/\w.cell? ⟨D.C D.m,2,Á⟩=Â sl/\D.RD s sl V w/\∀b,V b->b<w.heap.size/\b≠D.I
 fw:D.M<w.heap.size/\D.S<w.heap.size/\D.C D.m<w.heap.size
 r:D.M≠D.I/\D.S≠D.I/\D.C D.m≠D.I
 Sr:∃ts,SE D.S D.I (D.C D.m) ts/\g=En ts D.f
 C:w.cell? ⟨D.M,D.N,Á⟩=Á/\kX w D.M=Â (0,0)
 io:w.os=l.w.os/\w.output=l.w.output
section
variable{M:xG}{f:Nat->Int}{u:Nat->Nat}{cs:List é}{l:ff}{I:Nat->Nat}{y:Nat->ff}{o:Array Ý}
theorem akJ(c:rX Ä zX j (Lf f u J n v l cs) .fD I y o w qJ)(S:Option (Nat×Nat))(s:gD l)(Le:∀b,¬l.I b)(hq:¬l.q)(hd:l.d=0)(hH:j<=l.w.heap.size)(hV:∀b,M.r b->l.O b)(qV:∀s S V w G,M.RD s S V w->(∀b,V b->G.heap[b]?=w.heap[b]?)->M.RD s S V G)(B1:M.RD M.C v M.r l.w)(xE:w.os=l.w.os/\w.output=l.w.output)(hn:1<=n)(hs:n+J<1000) (hA:∀g r t B D e m p h,l.w.heap.size<=m->Eo (kI M o.size n J f u g r t B D e m p h cs l)/\Ep (kI M o.size n J f u g r t B D e m p h cs l)): ∃g r t B D e m p h,(l.w.heap.size<=e/\l.w.heap.size<=m/\l.w.heap.size<=h/\∀k,k<=fN f J->l.w.heap.size<=g k)/\ ∃N Y a H C i G K E z,Ŷ Ä N (Ĭ o w S) qJ=(.next<|Ĭ i G K,E)/\i.size=o.size+(n+1)/\i[0]?=Â z/\a<=G.heap.size/\h<a/\j<=a/\(C 0).d=0/\z.status=ċ/\ kH Ä Y (λF=>zX F\/∃x:â,F=û x/\x.block=h) a (ZB<|kI M o.size n J f u g r t B D e m p h cs l) .fD H C i G E/\akI (kI M o.size n J f u g r t B D e m p h cs l) l G z:=by
 have h0:=c.C;obtain⟨g0,xh⟩:∃g,o[0]?=Â g:=⟨_,ì h0⟩;let⟨g1,q1,q2,q3,_⟩:=c.r.C 0 g0 xh;obtain rfl:g0=g1:=by cases q2;rfl
 have hz:=q1 w<|c.r.r.r 0 h0;let⟨g,lp,tt,iv,qv,e,m,p,h,bw,bf,T,F,hT,hg⟩:=hz;obtain⟨r,B,rfl⟩:=ZU F.r.jS;obtain⟨t,D,rfl⟩:=ZU F.r.mJ;let⟨a1,a2,a3⟩:=F.M;let⟨a4,a5,a6⟩:=F.S;have Ss:∀k,k<=fN f J->lp.w.heap.size<=g k/\g k<p:=λk W=>⟨(F.r.M k W).1,F.N k W⟩;have auC:=Ss 0 Z;have akK:=qV _ _ _ _ _ B1 λb q=>F.C.r b (Ã<|hV b q) id;obtain⟨st,hgo⟩:=akF F s Le hq hd hH hV akK xE hn hs hT λ_=>0;have ok:=akE (L:=o.size) (cs:=cs) (RB:=λb=>l.O b\/b=m) (RC:=λw=>∀b,l.O b->w.heap[b]?=l.w.heap[b]?) F (λw G P X b a=>(X b<|Ã a).trans<|P b a) (e8:=λw=>w.os=l.w.os/\w.output=l.w.output) (λw G P X=>⟨X.1.trans P.1,X.2.trans P.2⟩) qV hn Z hs;let⟨hAdd,akL⟩:=hA g r t B D e m p h Z;have Hy:=akt ok hAdd akL;have BQ:=F.C.d.trans hd;have st':So ((kI M o.size n J f u g r t B D e m p h cs l).r Ä) j (y 0) (Lc (kI M o.size n J f u g r t B D e m p h cs l) {y 0 with w:=w}) w:=⟨st.ft,st.r,st.C,st.I,st.k,st.M,st.N,st.g,st.d,st.q,st.S,st.Y,st.c,st.e,st.f⟩;rw[<-hg]at hgo;have p0:=c.akz Hy U U xh st' BQ (λ_=>0) hgo;let⟨N1,E,S1,tr1,kp1,auD,gs1,w1,ZV,t1,r1,x,hf,he⟩:=aif Hy _ _ _ _ _ _ _ o w S qJ U U p0 (by intro q;cases q);let⟨oP,_⟩:=x.jr hf;let⟨zv,c1⟩:=x.aky hf he U h0;let⟨N2,Lg,Sv,gs2,w2,Lh,t2,r2,z2,N,c2⟩:=c1.G (λa i z=>Ã<|Hy.M E.I a i z) (tr1 0) _ zv _ gs1 w1 ZV t1 U;have Er:gs1.size=o.size+(n+1):=by rw[x.b,oP];rfl
 have Li:=c2.C;obtain⟨g2,Lj⟩:∃g,gs2[0]?=Â g:=⟨_,ì Li⟩;let⟨g3,u1,u2,u3,_⟩:=c2.r.C 0 g2 Lj;obtain rfl:g2=g3:=by cases u2;rfl
 have hE:=u1 w2<|c2.r.r.r 0 Li;let⟨e1,e2,dat,ts,qY,hge⟩:=hE;have Q:0<gs1.size:=Z
 have C:=x.I.r;have hY:=λb q z=>C.I 0 Q b (Ã z) q;have H:E.Y e:=Ç<|Ã U;have yG:∀k,k<=fN f J->E.Y (g k):=λk W=>Ã<|Ç ⟨k,W,U⟩;have ZW:E.Y h:=Ã<|Ã U;let⟨hip,akM⟩:=x.akH hf hn;have hmd:E.S.md=fN f J:=by rw[hip];rfl
 let⟨GG,⟨ZX,Sw,Ll⟩,_⟩:=x.M.M (fN f J) Z;have K:=C.N;refine⟨g,r,t,B,D,e,m,p,h,⟨a1,Z,Z,λk W=>by have:=Ss k W;omega⟩,N1+N2,E.Y,w1.heap.size,Lg,Sv,gs2,w2,Lh,t2,g2,?_,Z,Lj,N.r,K h ZW,?_,e1,Hy.M E.I _ _<|u1 w2<|c2.r.r.r 0 Li,c2,⟨dat.e,dat.d,λk P X=> ?_,λi hi=> ?_,?_,?_,(⟨show e≠h by omega,show m≠h by omega,show g (fN f J)≠h by have:=Ss (fN f J)<|Ú _;omega⟩),⟨ts,qY,hge⟩,?_,?_⟩⟩
 .rwa[runNT_add,show Ŷ Ä N1 (Ĭ o w S) qJ=_ from r1]
 .grind
 .have a:k<=fN f J:=X;refine Ŀ (N.M ⟨e,_,Á⟩ (K e H) (hY e H)<|x.a.g k P Z 0 Q)<|x.M.S k P Z
 .let⟨T,v2⟩:=akM i hi;exact Ŀ (N.M ⟨e,_,Á⟩ (K e H) (hY e H)<|v2 0 Q) T
 .refine⟨E.c<|fN f J,ZX,E.V<|fN f J,GG,(Ŀ (N.M ⟨g<|fN f J,2,Á⟩ (K _<|yG _<|Ú _) (hY _<|yG _<|Ú _)<|x.a.N (fN f J) Z 0 Q) Sw),qV _ _ _ _ _ Ll λb q=> ?_,λb q=> ?_⟩
  .let⟨T,v2,v3⟩:=x.a.I (fN f J) Z b q;exact N.jZ b T (v3 0 Q) λa ha z=>v2<|ha▸C.e 0 Q a (Ã z)
  .let⟨T,v2,v3⟩:=x.a.I (fN f J) Z b q;exact⟨È T N.r,λz=>v2<|z▸ZW⟩
 .refine⟨È (K e H) N.r,c2.r.r.fw 0 Li m<|Ç dat.c,È (K _<|yG _<|Ú _) N.r⟩
 .let⟨a,y2,_⟩:=(x.M.M 0<|ă _).2.2 U;exact⟨Ŀ (N.M ⟨e,J,Á⟩ (K e H) (hY e H)<|x.a.OO Hy.C 0 Q) a,(N.Y e (K e H)<|hY e H).trans y2⟩
 .let⟨_,_,a⟩:=(x.M.M 0<|ă _).2.2 U;exact⟨N.C.trans a.1,N.I.trans a.2⟩
end
def Sx(a:Ν->Prop)(w:ß):ff where
 O:=λb=>b<w.heap.size/\∀x:â,x.block=b->¬a (û x)
 I:=λ_=>False
 r:=λ_=>False
 N:=λ_=>False
 K:=λ_=>False
 q:=False
 d:=0
 w:=w
def ZY(a:Ν->Prop)(w:ß):gD (Sx a w):= ⟨λ_ _ h=>h,λ_ h=>h.elim,λ_ h=>h.elim (λq=>q.elim) λq=>q.elim,λ_ h=>h.elim (λq=>q.1) λq=>q.elim,λ_ h=>h.elim (λq=>q.elim) λq=>q.elim,λ_ h=>h.elim⟩
structure vS(jm:Ν->Prop)(H:Nat)(l:ff):Prop where
 r:∀x:â,jm (û x)->x.block<H
 ft:∀b,l.O b->∀x:â,x.block=b->¬jm (û x)
 C:H<=l.w.heap.size
inductive zw(M:xG):Nat->M.γ->Prop
 |vr:zw M 0 M.C
 |Df {k:Nat} {s s':M.γ} (h:zw M k s) (hn:M.M k s s'):zw M (k+1) s'
structure F1(M:xG)(R:Nat)(kd:Nat->Int)(l:ff)(an:Nat)(sl:Ï)(l':ff):Prop where
 vw:∀b,l.O b->l'.O b/\l'.w.heap[b]?=l.w.heap[b]?
 kF:l'.O an/\∀p,p<R->l'.w.cell? ⟨an,p,Á⟩=Â (à<|M.I p)
 HJ:∃s V,zw M (fN kd R) s/\M.RD s sl V l'.w/\∀b,V b->l'.O b
 d:l'.d=0
 q:¬l'.q
 rd:∀b,¬l'.I b
 zx:(∀a,¬l'.r a)/\(∀a,¬l'.N a)/\∀a,¬l'.K a
 CX:l'.w.cell? ⟨an,R,Á⟩=Á/\kX l'.w an=Â (0,0)
section
variable{M:xG}{R H:Nat}{kd:Nat->Int}{e:Nat->Nat}{f:List é}{l:ff}{jm:Ν->Prop}{o:Nat->ff}
def akN{a:Option â}{s:M.γ}(h:nz ((kI M i n R kd e D O a j b m J j9 j7 qX l).r Ä) k s):zw M k s:=by
 have c:∀(k:Nat) (s:((kI M i n R kd e D O a j b m J j9 j7 qX l).r Ä).γ),nz ((kI M i n R kd e D O a j b m J j9 j7 qX l).r Ä) k s->zw M k s:=λk s h=>by
  induction h with
  |vr=>exact .vr
  |Df _ d f=>exact .Df f d
 exact c k s h
def akO{J:(Ν->Prop)->Nat->Jd}{cf:é}{a:ŏ}(GB:qX=cf.at a (Ñ Q (i::jJ)::L)::f)(c:rX Ä jm H (Lf kd e R n v l qX) .fD D o E w qJ)(F:Option (Nat×Nat))(s:gD l)(Le:∀b,¬l.I b)(hq:¬l.q)(hd:l.d=0)(S:vS jm H l)(hV:∀b,M.r b->l.O b)(qV:∀s F V w u,M.RD s F V w->(∀b,V b->u.heap[b]?=w.heap[b]?)->M.RD s F V u)(akP:∀s F V w,M.RD s F V w->(∃p m c,F=Æ p m c)/\∀b,V b->l.O b\/l.w.heap.size<=b)(B1:M.RD M.C v M.r l.w)(xE:w.os=l.w.os/\w.output=l.w.output)(hn:1<=n)(hs:n+R<1000) (hA:∀g ib qb ci cq B ba bi I,l.w.heap.size<=ba->Eo (kI M E.size n R kd e g ib qb ci cq B ba bi I qX l)/\Ep (kI M E.size n R kd e g ib qb ci cq B ba bi I qX l)) (hJ:∀Es C W B p m c,vS Es C W->gD W->F1 M R kd l B (Æ p m c) W->fl Ä Ò (J Es C) W (G (cf.at (a.put ((Q[i]?).bind (·.dst))<|ñ #[Æ (Â ⟨B,0,Á⟩) R R,Æ p m c])<|Ñ Q jJ::L) f)): ∃N Es C T jz HL gs' u tu t',Ŷ Ä N (Ĭ E w F) qJ=(.next<|Ĭ gs' u tu,t')/\(u.os=l.w.os/\u.output=l.w.output)/\rX Ä Es C (J Es C) T jz HL gs' u t':=by
 let⟨g,ib,qb,ci,cq,B,ba,bi,I,⟨b1,b2,b3,b4⟩,N,Y,C,jz,HL,gs',u,tu,t',g',r,z1,z2,z3,z4,z5,z6,z7,cY,t⟩:=akJ c F s Le hq hd S.C hV qV B1 xE hn hs hA;let⟨st,ZX,V,GG,Sw,Ll,Lm⟩:=t.HJ;obtain⟨⟨sp,sm,sc,rfl⟩,ZZ⟩:=akP _ _ _ _ Ll;obtain⟨ts,qY,rfl⟩:=t.Sr;have hH:=S.C;have Z0:=λb q=>s.fw b<|Ã q;have X:∀b,(l.O b\/l.w.heap.size<=b)->b<u.heap.size->b≠I->(Sx (λj=>jm j\/∃x:â,j=û x/\x.block=I) u).O b:=λb hb gT lF=>by
  refine⟨gT,λx hx=> ?_⟩;rintro(q|⟨y,P,q2⟩)
  .rcases hb with hb|hb
   .exact S.ft b hb x hx q
   .have:=S.r x q;omega
  .injection P with P;subst P;omega
 have Sy:=λb q=>by have h:=t.I b q;rw[ì<|Z0 b q]at h;exact(æ.1 h).1
 have keep:=λb q=>X b (Ã q) (Sy b q) (by have:=Z0 b q;omega);have Ln:=X B (Ç b1) t.fw.1 t.r.1;have akQ:fl Ä Ò (J (λj=>jm j\/∃x:â,j=û x/\x.block=I) C) (Sx (λj=>jm j\/∃x:â,j=û x/\x.block=I) u) (En ts qX):=by
  rw[GB];refine aj8 (ZY _ _) (λq=>q) qY (Ã<|X ba (Ç b2) t.fw.2.1 t.r.2.1) (Ã<|Ã<|X _ (Ç<|b4 _<|Ú _) t.fw.2.2 t.r.2.2) t.cba Sw λW h=> ?_;refine hJ (λj=>jm j\/∃x:â,j=û x/\x.block=I) C W B sp sm sc ⟨λx q=> ?_,λb q x hx=> ?_,Õ z3 h.I⟩ (h.N<|ZY _ _) ⟨λb q=>⟨h.O b<|keep b q,(h.r b (Ã<|keep b q) id).trans<|t.I b q⟩,⟨h.O B Ln,λp hp=> ?_⟩,⟨st,V,akN GG,qV _ _ _ _ _ Ll λb q=>h.r b (Ã<|X b (ZZ b q) (Lm b q).1 (Lm b q).2) id,λb q=>h.O b<|X b (ZZ b q) (Lm b q).1 (Lm b q).2⟩,h.d,?_,λb q=> ?_,⟨λa q=> ?_,λa q=> ?_,λa q=> ?_⟩,⟨(gN<|h.r B (Ã Ln) id).trans t.C.1,(wV<|h.r B (Ã Ln) id).trans t.C.2⟩⟩
  .rcases q with q|⟨y,P,q2⟩
   .exact È (S.r x q) z5
   .injection P with P;subst P;omega
  .rcases h.c b q with q|q
   .exact q.2 x hx
   .have j:u.heap.size<=b:=q;rintro(z|⟨y,z1,z2⟩)
    .have:=S.r x z;omega
    .injection z1 with z1;subst z1;omega
  .refine(gN<|h.r B (Ã Ln) id).trans ?_;by_cases hk:kd p=1
   .have hm:p∈gZ kd R:=Ā.2 ⟨Ē.2 hp,by simpa using hk⟩;let⟨j,y⟩:=Ĩ hm;have P:=(Ĕ.1 y).1;have:=t.kP (j+1) Z (show j+1<=fN kd R from P);have e2:(gZ kd R).getD (j+1-1) 0=p:=Ó<|(BZ P).symm.trans y;simp only[kI,Lb,e2]at this;exact this
   .have hm:p∈jy kd R:=Ā.2 ⟨Ē.2 hp,by simpa using hk⟩;let⟨j,y⟩:=Ĩ hm;have P:=(Ĕ.1 y).1;have:=t.Sq j P;simp only[kI,Lb,Ó<|(BZ P).symm.trans y]at this;exact this
  .rw[h.q];exact id
  .rw[h.S]at q;exact q
  .rw[h.Y]at q;exact q
  .rw[h.b]at q;exact q
  .rw[h.K]at q;exact q
 let⟨T,h⟩:=jl akQ;exact⟨N,_,C,T,jz,_,gs',u,tu,t',r,t.io,cY.Y z6 z2 z7 U U id (λ_=>id) (λ_=>id) (λ_=>id) (λ_=>id) (λb q=>q) h⟩
end
end Go.Proofs.Y.fy
namespace Go.Proofs.Y.fy
open Go Go.Conc Go.Proofs.Y.Lift Go.RowKit Go.Conc.Lib Go.ConcR.Gen
open Go.Proofs Go.Proofs.YtgpphkdoanciiabGreatDoor
def qj(V:Nat->Prop)(base:Nat):fu:=⟨λi j=>i=j/\V i,base⟩
def akR(V:Nat->Prop)(base:Nat):Bi (qj V base):= ⟨λ_ _ _ h k=>h.1.symm.trans k.1,λ_ _ _ h k=>h.1.trans k.1.symm,λi j h=>by rw[h.1]⟩
def lA(j:Nat):Bool:=j==3||j==4
def uN(c:Array Ï):Array Ï:=c.extract 0 16
def akS(c:Array Ï):(uN c).size=min 16 c.size:=by simp[uN]
open Classical in
noncomputable def pF (a:Nat->Prop) (j:Nat):Ÿ->Ÿ
 |É c e b=>if a j then(if lA j=Ò then É (uN c) e (0,(uN c).size)else É c e (0,c.size))else É c e b
 |_=>É #[] 0
noncomputable def ln (Sh:Nat->Prop) (w:ß):ß:={w with heap:=w.heap.mapIdx (pF Sh)}
section
variable{V Sh:Nat->Prop}{base:Nat}
def Et(j:Nat):(ln Sh w).heap[j]?=(w.heap[j]?).map (pF Sh j):=by simp[ln,Array.getElem?_mapIdx]
def Z1:kn (ln Sh w):=λi o h=>by
 rw[Et]at h;obtain⟨x,_,rfl⟩:=ġ.1 h;cases x<;>simp only[pF]<;>try exact id
 split
 .split<;>exact id
 .exact id
structure Lp(V Sh:Nat->Prop)(base:Nat)(w:ß):Prop where
 Sr:∀b,V b->∃c e fr,w.heap[b]?=Â (É c e fr)/\fr.2<=c.size/\fT (qj V base) c c/\(Sh b->0<c.size/\(lA b=Ò->(e=298\/e=299)/\fr.2<=16)/\(lA b=Ì->CS c))
 fw:base<=w.heap.size
def akT(h:Lp V Sh base w):rE (qj V base) Sh (ln Sh w) w:=by
 refine⟨U,U,akR V base,by show base<=(w.heap.mapIdx<|pF Sh).size;rw[Array.size_mapIdx];exact h.fw,h.fw,λi j o=> ?_⟩;obtain⟨rfl,p⟩:=o;let⟨c,e,a,b,l,f,r⟩:=h.Sr i p;have g:(ln Sh w).heap[i]?=Â (pF Sh i<|É c e a):=by rw[Et,b];rfl
 by_cases s:Sh i
 .let⟨t,u,v⟩:=r s;cases d:lA i with
  |true=>
   let⟨x,y⟩:=u d;have z:=akS c;have m:FE e (uN c).size:=⟨x,Z⟩;refine⟨uN c,c,e,(0,(uN c).size),a,?_,b,⟨λk B n=> ?_,Z,Ç ⟨s,m⟩⟩,λ_=>⟨U,Ú _,by show a.2<=(uN c).size;omega,Z,Ç m⟩,λq=>absurd s q,Ú _⟩
   .show(ln Sh w).heap[i]?=_;rw[g];simp[pF,s,d]
   .have:(uN c)[k]=c[k]:=by simp[uN]
    rw[this];exact f.C k n n
  |false=>
   refine⟨c,c,e,(0,c.size),a,?_,b,pb.M f,λ_=>⟨U,Ú _,l,t,Ã<|v d⟩,λq=>absurd s q,Ú _⟩;rw[g];simp[pF,s,d]
 .refine⟨c,c,e,a,a,?_,b,pb.M f,λq=>absurd q s,λ_=>rfl,l⟩;rw[g];simp[pF,s]
end
section
variable{a:Nat->Prop}{l:ff}{V:Nat->Prop}
theorem Eu(y:nT P)(B:pj P a X)(hF:tR P X)(C:wT vQ){k:Array Ï}(D:X F)(E:P.funcs[F]?=Â s)(H:s.body=Â wX)(r:gD l)(I:¬l.q) (n:∀b,V b->l.M b) (J:Lp V (λj=>V j/\¬l.O j) P.globals.size l.w) (K:∀g,a g->V g) (L:fT (qj V P.globals.size) k k) (N:∀T,Calls P F k (World.tp (ln (λj=>V j/\¬l.O j) l.w) T 0) fun|.returned v,e=>vQ v e/\kn e|_,_=>False) (t:Bool) (o:é) (p:List é): fl P t (λh u=>∃(Y:fu) (e:ß) (v m:Ï),(qj V P.globals.size).r Y/\rE Y (λj=>V j/\¬l.O j) e h.w/\fp Y v m/\vQ v e/\u=G (o.finish m) p/\(∀i j,Y i j->h.M j/\(V j\/l.O j\/l.w.heap.size<=j))/\(∀j,l.O j->h.O j)/\h.d=l.d) l (G (Ă P F k Ğ)<|o::p):=by
 refine(agh (aff y B hF C D E H Z1 N (Y:=qj V P.globals.size) U (λg q=>⟨U,K g q⟩) L (akT J) (λj q=>r.fw j<|n j q.1) (λi j _ q=>(n j q.1).resolve_left q.2) t o p) l U (λj q=> ?_) (λ_ q=>q) (λj q=>r.fw j<|Ã q) I).fQ ?_
 .obtain⟨⟨i,rfl,x⟩,Q⟩:=q;grind
 .rintro h u ⟨O',⟨Y,e,v,m,S,rfl,W,q3,q4,q5⟩,Q,h3,h4,h5,h6,h7,h8,h9,h10,h11,h12⟩;refine⟨Y,e,v,m,S,W,q3,q4,q5,λi j Sz=> ?_,h4,h10⟩;by_cases z:V j/\¬l.O j
  .exact⟨Ç (by rw[h7];exact(n j z.1).resolve_left z.2),Ã z.1⟩
  .have x:=h3 j ⟨⟨i,Sz⟩,z⟩;exact⟨Ã x,Ç<|h6 j x⟩
end
section
variable{l:ff}{V GL:Nat->Prop}
def Ev(s:gD l):gD (mj l):=by refine⟨λ_ h=>h.elim,λ_ h=>h.elim,λa c d=>s.N a (c.resolve_left id)<|d.resolve_left id,λb d=>s.fw b<|d.resolve_left id,λa c=>s.I a<|c.resolve_left id,λa c=>⟨λq=>(s.S a c).1<|q.resolve_left id,(s.S a c).2.1,id⟩⟩
structure Ew(GL:Nat->Prop)(f:Ķ)(args:Array Ï)(l:ff)(V:Nat->Prop)(kB:Ï->ß->Prop):Prop where
 N:∀b,V b->l.M b
 S:Lp V V Ä.globals.size l.w
 I:∀g,GL g->V g
 r:fT (qj V Ä.globals.size) args args
 C:∀T,Calls Ä f args (World.tp (ln V l.w) T 0) fun|.returned v,u'=>kB v u'/\kn u'|_,_=>False
def akU(m:nT Ä)(n:pj Ä GL X)(hF:tR Ä X)(e:X 51){D:SD}(h:∀i s d W l,i<D.q->nz (D.r Ä) (D.b i) s->D.RD s d W l.w->(∀b,W b->l.M b)->gD l->¬l.q->(∀b,D.d b->l.M b)->D.RC l.w->∃V,Ew GL 51 #[d,À<|D.i i] l V λv _=>v=à (D.j i)):Ep D:=by
 intro i s d W l o p r t f g x y z B;let⟨V,a⟩:=h i s d W l o p r t f g x y;let⟨G,c,C,E⟩:=hF 51 e;have k:(λj=>V j/\¬(mj l).O j)=V:=by funext j;exact propext ⟨λq=>q.1,λq=>⟨q,id⟩⟩
 refine(Eu m n hF (λv u T D h=>h) e C E (Ev f) g (λb q=>Ç<|a.N b q) (by rw[k];exact a.S) a.I a.r (by rw[k];exact a.C) Ì z B).fQ ?_;rintro H I ⟨Y,J,v,K,_,_,j,u,T,_,_,F⟩;subst u;cases j;exact⟨F,T⟩
theorem akV(P:nT Ä)(Q:pj Ä GL X)(hF:tR Ä X)(B:X 50){D:SD}(Rg:D.γ->Ï->ß->Prop)(hRg:∀s a u T n,Rg s a u->Rg s a (World.tp u T n)) (h:∀k s a W l,k<D.m->nz (D.r Ä) k s->D.RD s a W l.w->(∀b,W b->l.M b)->gD l->¬l.q->(∀b,D.d b->l.M b)->D.RC l.w->∃V,Ew GL 50 #[a,À<|D.o<|k+1] l V (λv u=>∃p n c d,v=ñ #[Æ p n c,à<|D.e<|k+1]/\D.h k s d/\Rg d (Æ p n c) u)/\ ∀Y S u w d a C,rE Y S u w->fp Y a C->Rg d a u->(∀i j,Y i j->V j\/l.w.heap.size<=j)->∃e,D.RD d C e w/\∀b,e b->∃i,Y i b):Eo D:=by
 intro k s a W l hk hr qV hW E F hRB hRC cl lR;let⟨V,f,tr⟩:=h k s a W l hk hr qV hW E F hRB hRC;let⟨fn,c,hf,g⟩:=hF 50 B;have G:(λj=>V j/\¬(mj l).O j)=V:=by funext j;exact propext ⟨λq=>q.1,λq=>⟨q,id⟩⟩
 refine(Eu P Q hF (λv u T D h=> ?_) B hf g (Ev E) F (λb q=>Ç<|f.N b q) (by rw[G];exact f.S) f.I f.r (by rw[G];exact f.C) Ì cl lR).fQ ?_
 .grind
 .rintro l' g' ⟨Y,u',v,v',_,q2,q3,⟨p,n,c,d,rfl,H,h3⟩,I,o,_,J⟩;cases q3 with
  |@nR _ cs'' hs mG=>
   let⟨ls⟩:=cs'';match ls,hs with
   |[x,y],_=>
    have r:=mG 0 fq fq;have K:=mG 1 fq fq;simp at r K;cases K;let⟨e,L,N⟩:=tr Y _ u' l'.w d _ x q2 r h3 λi j Sz=>(o i j Sz).2.imp id λz=>z.resolve_left id;cases r with
    |ov=>exact⟨J,Á,n,c,I,d,e,H,L,λb g=>by let⟨i,t⟩:=N b g;exact(o i b t).1⟩
    |kL=>exact⟨J,_,n,c,I,d,e,H,L,λb g=>by let⟨i,t⟩:=N b g;exact(o i b t).1⟩
end
end Go.Proofs.Y.fy
namespace Go.Proofs.Y.Lift
open Go
def Ex(a:Nat->Bool):Ĥ->Bool
 |Ũ (Đ cs)=>cs.toList.all yv
 |Ũ (ñ cs)=>cs.toList.all yv
 |x=>wU a x
def Z2(a:Nat->Bool)(x:Ĥ):Ex a x=wU a x:=by
 cases x with
 |const v=>cases v<;>simp[Ex,wU,N4,ĝ]
 |_=>rfl
def Lq(P:ė)(a:Nat->Bool)(b c:Ķ->Bool)(o:å):Bool:=(C8 P b o.op&&o.op.operands.toList.all (Ex a))||(Oj P c o.op&&o.op.operands.toList.all (Ex a))
def Lr(a:Nat->Bool)(b c:Ķ->Bool)(o:å):Lq P a b c o=Da P a b c o:=by have:(Ex a)=wU a:=funext<|Z2 a;simp[Lq,Da,Ob,this,ĝ]
def qZ(P:ė)(a:Nat->Bool)(b d:Ķ->Bool):Ę->Bool
 |Ρ|ť|.label _|Ŧ _|.goto _=>Ò
 |.seq x y=>qZ P a b d x&&qZ P a b d y
 |Ť c x y=>Ex a c&&qZ P a b d x&&qZ P a b d y
 |İ _ c|.loop c|.scope c=>qZ P a b d c
 |ä _ c _=>c.toList.all<|Lq P a b d
 |.refuse _=>Ò
 |_=>Ì
def zy(a:Nat->Bool)(b d:Ķ->Bool):∀c:Ę,qZ P a b d c=nX P a b d c
 |Ρ|ť|.label _|Ŧ _|.goto _|.refuse _|.rangeFunc _ _ _ _=>rfl
 |.seq x y=>by simp only[qZ,nX,zy a b d x,zy a b d y]
 |Ť c x y=>by simp only[qZ,nX,Z2,zy a b d x,zy a b d y]
 |İ _ c|.loop c|.scope c=>by simp only[qZ,nX,zy a b d c]
 |ä _ x _=>by have:Lq P a b d=Da P a b d:=funext<|Lr a b d;simp only[qZ,nX,this,ĝ]
end Go.Proofs.Y.Lift
namespace Go.Proofs.Y.fy
open Go Go.Conc Go.Proofs.Y.Lift Go.RowKit Go.Conc.Lib Go.ConcR.Gen
open Go.Proofs Go.Proofs.YtgpphkdoanciiabGreatDoor
def Z3:List Nat:=[17,21,27,37,38,39,44,50,51,62,63,87,97,98,99,100,101,102,103,104,105,106,107,108,109,110,137,138,139,140,141,142,143,144,145,146,152,153,154,155,156,157,158,159,160,161,162,170,171,172,173,174,175,176,177,178,180,181,182,183,184,185,186,187,188,189,190,191,192,193,194,195]
def xH(g:Nat):Bool:=[1,2,3,4].contains g
def xI(f:Nat):Bool:=Z3.contains f
def zz(f:Nat):Bool:=[113,114].contains f
def B2(P:ė)(f:Nat):Bool:=match P.funcs[f]? with
 |some a=>match a.body with
  |some c=>qZ P xH xI zz c
  |none=>Ì
 |none=>Ì
def akW:Z3.all (B2 Ä)=Ò:=by rfl
def Z4(h:xI i=Ò):B2 Ä i=Ò:=(Ň.1 akW) i<|by simpa[xI]using h
def akX(h:B2 P i=Ò):∃a c,P.funcs[i]?=Â a/\a.body=Â c:=by
 unfold B2 at h;split at h
 .rename_i a b;split at h
  .rename_i c d;exact⟨a,c,b,d⟩
  .cases h
 .cases h
def akY(h:B2 P i=Ò)(a:P.funcs[i]?=Â s)(b:s.body=Â wX):qZ P xH xI zz wX=Ò:=by unfold B2 at h;rw[a]at h;simp only[b]at h;exact h
def Z5:tR Ä (λf=>xI f=Ò):=λ_ h=>akX<|Z4 h
def akZ[Ap P](h:∀f,xI f=Ò->B2 P f=Ò)(a:F4 P zz):pj P (λg=>xH g=Ò) (λf=>xI f=Ò):=λf g e c b d=>by have:=akY (h f g) b d;rw[zy]at this;exact vu a this
instance auE:Ap Ä:=⟨λe n h=>by
 have h1:Ä.cellsOf 298=32:=fv
 have h2:Ä.cellsOf 299=64:=fv
 obtain⟨rfl|rfl,h3⟩:=h
 .rw[h1];omega
 .rw[h2];omega⟩
def ak0(a:F4 Ä zz):pj Ä (λg=>xH g=Ò) (λf=>xI f=Ò):=akZ (λ_ h=>Z4 h) a
def Ey:F4 Ä zz:=λf h=>by
 have:f=113\/f=114:=by simpa[zz]using h
 rcases this with rfl|rfl
 .exact⟨_,Extern.AbiNoEscape.same,Tryz.func113,fZ,fZ,fZ,fZ,λ_ v a h=>afE v a h,afF⟩
 .exact⟨_,Extern.BytealgMakeNoZero.makeNoZero #[3] #[98],Tryz.func114,fZ,fZ,fZ,fZ,λ_ v a h=>afG #[3] 98 v a h,afH #[3] 98⟩
def Z6:pj Ä (λg=>xH g=Ò) (λf=>xI f=Ò):=ak0 Ey
end Go.Proofs.Y.fy
namespace Go.Proofs.Y.Lift
open Go Go.Conc
section
variable{Y:fu}{b:Ķ->Prop}
def ak1{e:Array Ï->Sem Ï}{y:Ĥ}{m:Array ŭ}(d:o.op=Ě {callee:=ĕ<|ķ F,args:=#[qQ,y],argTypes:=m})(q:P.funcs[F]?=Â s)(r:(s.name== "runtime.NumGoroutine")=Ì)(t:s.body.isNone=Ò)(B:Extern.findNext s=Á)(C:Extern.find s=Â e) (D:∀(Y:fu) (v i z j:Ï),fp Y v i->fp Y z j->fI P fp Y (e #[v,z]) (e #[i,j])) (E:∀v z,fF P<|e #[v,z]) (G:∀y∈o.op.operands,mD X y):mR P X b o:=by
 have c:∀a:ŏ,ĉ a.eval o=Ś F #[a.eval qQ,a.eval y]:=by intro a;unfold ĉ;rw[d];simp only[ſ,ĥ,ě,invoke,pure_bind,Array.empty_append,Array.append_empty,List.map_toArray,List.map_cons,List.map_nil]
 have k:∀(v z:Ï) (u:ß),(Ś F #[v,z]).run P u=(mark (.extern F)>>=λ_=>e #[v,z]>>=λy=>pure (Next.value y):Sem Next).run P u:=by intro v z u;unfold Ś;simp_all
 refine WO (λY a w _ _ _ h=> ?_) (λa=> ?_) (λa u n H g=> ?_) G
 .rw[c,c];have I:=h qQ (by rw[d];simp[ŉ,Call.operands]);have J:=h y (by rw[d];simp[ŉ,Call.operands]);unfold Ś;refine .gy (fG rp ?_);rintro M p N w ⟨K,L⟩;rw[K,L];simp only[q,r,t,B,C,ĵ,if_false,if_true];apply fG (V:=jq) (.CR (Ç ⟨F,U⟩) (.fE U));intro O _ _ l _;exact mQ<|D _ _ _ _ _ ((I.fQ w).fQ l)<|(J.fQ w).fQ l
 .rw[c];exact Je (k _ _)<|gw (FV _) λ_=>lU<|E _ _
 .rw[c,k,Sem.run_bind]at g;simp only[mark,Sem.run,Result.andThen_ok]at g;have:Sem.run P (e #[a.eval qQ,a.eval y]>>=λy=>pure (Next.value y):Sem Next) u=.ok n H:=g;rw[Sem.run_bind]at this;cases h:(e #[a.eval qQ,a.eval y]).run P u with
  |ok v w=>rw[h]at this;cases this;exact⟨v,U⟩
  |halt z w=>rw[h]at this;cases this
def Z7:∀(n:Nat) {Y:fu} {a b:â} (c:ByteArray),ia Y a b->fI P jq Y (ò a n c) (ò b n c)
 |0,_,_,_,_,_=> .fE U
 |n+1,Y,a,b,c,h=>by
  unfold ò;refine fG (I3 h) ?_;intro f v g d e;cases e<;>first|exact .fR|skip
  rename_i k z;cases k<;>first|exact .fR|skip
  exact Z7 n _<|(h.r d).C 1
theorem Z8:∀(n:Nat) (a:â) (b:ByteArray),fF P<|ò a n b
 |0,_,_=>gH _
 |n+1,a,b=>by
  unfold ò;refine gw (FW _ _) λv=> ?_;split
  .exact Z8 n _ _
  .exact je _
def ak2(h:fp Y v x):fI P jq Y (ú v) (ú x):=by
 cases h<;>first|exact .fR|exact .fE U|skip
 exact Z7 _ _<|by assumption
theorem ak3(v:Ï):fF P (ú v):=by unfold ú;grind [gH,Z8,je]
def ak4(h:fp Y v x):fI P jq Y (ü v) (ü x):=by
 cases h<;>first|exact .fR|skip
 rename_i k z;cases k<;>first|exact .fR|exact .fE U
theorem ak5(v:Ï):fF P (ü v):=by unfold ü;grind [gH,je]
def ak6(v a z b:Ï)(h:fp Y v a)(k:fp Y z b):fI P fp Y (ó #[v,z]) (ó #[a,b]):=by
 apply fG (ak2 h);rintro j s d e f;obtain rfl:s=d:=f;apply fG (ak4<|k.fQ e);rintro l c g m i;obtain rfl:c=g:=i;split
 .exact .fE (.iF _ _)
 .exact .fE (.iF _ _)
theorem ak7(v z:Ï):fF P (ó #[v,z]):=by refine gw (ak3 v) λs=>gw (ak5 z) λc=> ?_;grind [gH]
end
end Go.Proofs.Y.Lift
namespace Go.Proofs.Y.fy
open Go Go.Conc Go.Proofs.Y.Lift
open Go.Proofs Go.Proofs.YtgpphkdoanciiabGreatDoor
def SA:List Nat:=[9,40,7,6,17,27,44,21,37,38,39,62,63,19,28,45,78,79,80,81,82,83,84,85,86,87,88,129,130,131,132,133]
def Ez(f:Nat):Bool:=SA.contains f||f==151
def Ls(_:Nat):Bool:=Ì
def Lt(P:ė)(f:Nat):Bool:=match P.funcs[f]? with
 |some a=>match a.body with
  |some c=>qZ P Ls Ez zz c
  |none=>Ì
 |none=>Ì
def ak8:SA.all (Lt Ä)=Ò:=by rfl
def Z9(h:SA.contains i=Ò):Lt Ä i=Ò:=(Ň.1 ak8) i<|by simpa using h
theorem a_(h:Lt P i=Ò):∃a c,P.funcs[i]?=Â a/\a.body=Â c/\qZ P Ls Ez zz c=Ò:=by unfold Lt at h;grind
def zC:tR Ä (λf=>Ez f=Ò):=λf h=>by
 rcases ī.1 h with q|q
 .let⟨a,c,b,d,_⟩:=a_<|Z9 q;exact⟨a,c,b,d⟩
 .rw[beq_iff_eq]at q;subst q;exact⟨_,_,Ŭ,U⟩
def ak9(h:Ε.body=Â wX):kO Ä (λg=>Ls g=Ò) (λf=>Ez f=Ò) wX:=by
 unfold Ε at h;cases h;refine .rB (vu Ey<|by rw[<-zy];rfl) (.rB (.tP _ _ λo f=> ?_) .vo);simp only[List.mem_toArray,List.mem_cons,List.not_mem_nil,or_false]at f;rcases f with rfl|rfl|rfl|rfl
 .exact JB Ey<|by rw[<-Lr];rfl
 .exact JB Ey<|by rw[<-Lr];rfl
 .exact ak1 U Tryz.func169 fZ fZ fZ fZ (λ_ v g z o=>ak6 v g z o) ak7 λy g=>Jv (by simp[ŉ,Call.operands]at g;rcases g with rfl|rfl|rfl<;>rfl)
 .exact JB Ey<|by rw[<-Lr];rfl
def Lu:pj Ä (λg=>Ls g=Ò) (λf=>Ez f=Ò):=λf h i c g a=>by
 rcases ī.1 h with q|q
 .let⟨j,k,b,d,e⟩:=a_<|Z9 q;rw[g]at b;cases b;rw[a]at d;cases d;rw[zy]at e;exact vu Ey e
 .rw[beq_iff_eq]at q;subst q;rw[Ŭ]at g;cases g;exact ak9 a
end Go.Proofs.Y.fy
