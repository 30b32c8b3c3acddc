import Derived.Test.YtgpphkdoanciiaaGreatDoorWAB
import Derived.Conc.AppendWalk
import Derived.Conc.TokenWalk
set_option linter.all false
set_option maxRecDepth 1000000
set_option maxHeartbeats 8000000
open Go.Value renaming pointer->À,slice->Æ,int->Ê,oneCell'->Ø,string->à,chan->è,tuple->ñ,func->Ĉ,agg->Đ,bool->ŝ,cells->Ŵ
open Option renaming none->Á,some->Â,isSome_iff_exists->Ô,map_eq_some_iff->ġ,isSome_none->ı,getD_some->Ń
open Or renaming inl->Ã,inr->Ç
open Go.Proofs.Tryz renaming prog->Ä,t155->Ą,f46->Ĝ,t9->Ġ,func47->Ħ,underlying101->Ĵ,type155->ļ,underlying85->Ľ,underlying25->ľ,f52->Ŗ,func167->Ŭ,func63->Ů,func48->ů,func49->Ű,func50->ű,func51->Ų,func46->ų,func52->ŵ,t101->Δ,f167->Ζ,f49->Ι,f63->Κ,f47->Μ
open Go renaming undef->Å,Value->Ï,Goroutine->Ý,World->ß,events_store->á,Addr->â,Oper->å,getD_set_ne->ç,Frame->é,execOp->ĉ,Program->ė,Code->Ę,Operand->Ĥ,deafBehind->į,FuncId->ķ,Act->ŏ,maxLen->œ,size_madeCells->ř,callFunc->Ś,yielded->ţ,TypeId->ŭ,runNT->Ŷ,Item->ŷ,Obj->Ÿ,Trace->ż,TypeInfo->Ž,Event->ž,resolve->ſ,Loc->Ν
open Nat renaming lt_of_lt_of_le->È,le_trans->Õ,le_refl->Ú,add_sub_cancel->ø,zero_le->ă,zero_add->č,mod_lt->ĵ,lt_succ_of_lt->Ĺ,le_of_lt->Ł,reduceAdd->ś,sub_zero->ũ,sub_self->Ū
open Go.Obj renaming cells->É,chan->ŕ
open Go.Conc.Goes renaming stop->Ë
open Bool renaming false->Ì,true->Ò,or_eq_true_iff->ī,false_eq_true->Ķ
open Go.Ground renaming phase->Í,data->Ü,textOnly->Þ,gcOnly->õ,chain->Ţ
open Go.IntKind renaming i64->Î,u64->ê,u32->Ď,wrap_i64->Γ
open Go.Departure renaming lateStores->Ð
open Go.Item renaming inRegion->Ñ,inBlock->ô,code->ö,inLoop->ą
open Option.some renaming inj->Ó
open Go.World renaming cell?->Ö,frozen?->î,setCell->þ,alloc->ň
open Go.Operand renaming tmp->Ù,func->ĸ,const->Ũ
open Go.Region renaming ready->Û,Mode->ý,wanted->Ė
open List renaming range->ã,range_succ->ÿ,mem_filter->Ā,filter_append->ā,flatMap_cons->Ć,mem_range->Ē,setIfInBounds_toArray->ē,getElem?_eq_some_iff->Ĕ,length_filter_le->ģ,mem_of_getElem?->ħ,getElem?_of_mem->Ĩ,set_cons_succ->Ĳ,set_cons_zero->ĳ,size_toArray->Ļ,length_cons->ń,nodup_range->ņ,all_eq_true->Ň,length_nil->ŋ
open Go.Code renaming region->ä,block->İ,cond->Ť,skip->ť,exit->Ŧ,ret->Ρ
open Array renaming getElem?_eq_some_iff->æ,getElem?_eq_getElem->ì,getElem?_modify->í,getD_eq_getD_getElem?->ď,all_toList->ĝ
open Go.Region.linearise renaming go->ë
open Go.MemAct renaming ofEvent->ï
open Go.Op renaming fieldAddr->ð,load->ć,move->ę,call->Ě,nilCheck->ĩ,operands->ŉ,extract->Ő,indexAddr->ő,makeFunc->Ş,store->š,assign->ŧ,binOp->Λ
open Go.Extern.Bytes renaming loadBytes->ò,bytesOf->ú,asByte->ü
open Go.Extern.BytealgIndexByte renaming indexByte->ó
open Go.Fn renaming func->ù
open Go.Loc renaming cell->û
open Go.Frame renaming enter->Ă,finish_at->Ģ
open Go.Instr renaming build->Ċ,makeSlice->Ŏ
open Go.GoStatus renaming running->ċ,finished->ş
open Go.Conc renaming mem_ofEvents->Č,mem_listed->đ,seen_none->Ī,crowd->Ĭ,stepG_region->ĺ,events_call_body->ł,deafBehind_still->Ņ,listed->ŗ,handedOver_app->Ř,stepG_seq->Ŝ,stepG_comm->Ż
open Go.Callee renaming value->ĕ,builtin->Ŕ
open Go.Deferred renaming ofValue->ě
open Go.CallKind renaming normal->Ğ,early->Ź
open Go.Addr renaming add_lit->ğ
open Go.Act renaming eval->ĥ,put->Ο
open Eq renaming trans->Ŀ
variable{i n j b k m J j9 j7 j6:Nat}{w u W jX:ß}{v x z jQ:Ï}{g:Ý}{a p:â}{h c:Int}{e t T:ŭ}{d q:Array Ï}{P:ė}{y:ŏ}{B:ByteArray}{X:Nat->Prop}{O:Option â}{l:List Ï}{yQ:Bool}{K H:ŏ->ß->Prop}{o:å}{D:Nat->Nat}{E:Array Ý}{L:List ŷ}{jJ:List Nat}{qX:List é}{qQ:Ĥ}{qJ:ż}{zX:Ν->Prop}{zQ:List Int}{zJ:Ž}{xX:Ĥ->Ï}{xQ:Go.Tape}{xJ:Nat×Nat}{wX:Ę}{wQ:Go.MemOp}{wJ:Array Bool}{vX:List ByteArray}{vQ:Ï->ß->Prop}{vJ:Go.Exit->ŏ->ß->Prop}{yX:ý}{Q:Array å}{f:é}{V:Array ž}{F:ķ}{s:Go.Func}
namespace Go.Proofs.Y.ft
open Go Go.Conc Go.Proofs.Y.Lift Go.RowKit Go.Conc.Lib Go.ConcR.Gen
open Go.Proofs Go.Proofs.YtgpphkdoanciiaaGreatDoor
def GI:å:=⟨Â 13,ð 155 (Ù 5) 3,0, "work.go:57",#[],Á⟩
def DW:å:=⟨Â 14,ć 86<|Ù 13,86, "work.go:57",#[⟨0,Ü⟩],Á⟩
def GJ:å:=⟨Â 15,ę<|Ù 1,25, "work.go:57",#[{on:=18,ground:=õ Ð}],Á⟩
def GK:å:=⟨Â 16,ð 155 (Ù 5) 1,0, "work.go:57",#[{on:=18,ground:=õ Ð}],Á⟩
def DX:å:=⟨Â 17,ć 3<|Ù 16,3, "work.go:57",#[⟨3,Ü⟩,{on:=18,ground:=õ Ð}],Á⟩
def GM:å:=⟨Â 18,ð 155 (Ù 5) 2,0, "work.go:57",#[],Á⟩
def DY:å:=⟨Â 19,ć 86<|Ù 18,86, "work.go:57",#[⟨5,Ü⟩],Á⟩
def DZ:å:=⟨Â 20,ĩ<|Ù 19,0, "work.go:57",#[⟨6,Ü⟩],Á⟩
def D1:å:=⟨Â 21,ð 105 (Ù 20) 1,0, "work.go:57",#[⟨7,Ü⟩],Á⟩
def D2:å:=⟨Â 22,ć 65<|Ù 21,65, "work.go:57",#[⟨8,Ü⟩],Á⟩
def GN:å:=⟨Â 23,ð 155 (Ù 5) 0,0, "work.go:57",#[],Á⟩
def D3:å:=⟨Â 24,ć 148<|Ù 23,148, "work.go:57",#[⟨10,Ü⟩],Á⟩
def Bl:å:=⟨Â 25,Ě {callee:=ĕ<|ĸ 66,args:=#[Ù 22,Ù 24],argTypes:=#[65,148]},163, "work.go:57",#[⟨9,Ü⟩,⟨11,Ü⟩],Á⟩
def vA:å:=⟨Â 12,ę<|Ù 25,163, "work.go:57",#[⟨12,Ü⟩],Á⟩
def Bm:å:=⟨Â 26,Ő (Ù 12) 0,65, "work.go:57",#[⟨13,Ü⟩],Á⟩
def Bn:å:=⟨Â 27,Ő (Ù 12) 1,9, "work.go:57",#[⟨13,Ü⟩,{on:=18,ground:=õ Ð}],Á⟩
def D4:å:=⟨Â 28,ĩ<|Ù 14,0, "work.go:57",#[⟨1,Ü⟩,⟨0,Í⟩,⟨1,Í⟩,{on:=2,ground:=Þ Ð},{on:=3,ground:=Þ Ð},{on:=4,ground:=Þ Ð},⟨5,Í⟩,⟨6,Í⟩,⟨7,Í⟩,⟨8,Í⟩,⟨9,Í⟩,⟨10,Í⟩,⟨11,Í⟩,⟨12,Í⟩,⟨13,Í⟩,⟨14,Í⟩,{on:=15,ground:=Þ Ð}],Á⟩
def D5:å:=⟨Â 29,ð 105 (Ù 28) 1,0, "work.go:57",#[⟨16,Ü⟩,⟨0,Í⟩,⟨1,Í⟩,{on:=2,ground:=Þ Ð},{on:=3,ground:=Þ Ð},{on:=4,ground:=Þ Ð},⟨5,Í⟩,⟨6,Í⟩,⟨7,Í⟩,⟨8,Í⟩,⟨9,Í⟩,⟨10,Í⟩,⟨11,Í⟩,⟨12,Í⟩,⟨13,Í⟩,⟨14,Í⟩,{on:=15,ground:=Þ Ð}],Á⟩
def Bo:å:=⟨Á,š 65 (Ù 29)<|Ù 26,0, "work.go:57",#[⟨17,Ü⟩,⟨14,Ü⟩,⟨12,Ţ⟩,⟨0,Í⟩,⟨1,Í⟩,{on:=2,ground:=Þ Ð},{on:=3,ground:=Þ Ð},{on:=4,ground:=Þ Ð},⟨5,Í⟩,⟨6,Í⟩,⟨7,Í⟩,⟨8,Í⟩,⟨9,Í⟩,⟨10,Í⟩,⟨11,Í⟩,⟨12,Í⟩,⟨13,Í⟩,⟨14,Í⟩,{on:=15,ground:=Þ Ð}],Á⟩
def Bp:å:=⟨Â 30,ő 25 (Ù 15)<|Ù 17,0, "work.go:57",#[⟨2,Ü⟩,⟨4,Ü⟩,⟨0,Í⟩,⟨1,Í⟩,⟨2,Í⟩,⟨3,Í⟩,⟨4,Í⟩,⟨5,Í⟩,⟨6,Í⟩,⟨7,Í⟩,⟨8,Í⟩,⟨9,Í⟩,⟨10,Í⟩,⟨11,Í⟩,⟨12,Í⟩,⟨13,Í⟩,⟨14,Í⟩,⟨15,Í⟩,⟨16,Í⟩,⟨17,Í⟩,⟨18,Í⟩],Á⟩
def Bq:å:=⟨Á,š 9 (Ù 30)<|Ù 27,0, "work.go:57",#[⟨19,Ü⟩,⟨15,Ü⟩,⟨18,Ţ⟩,⟨0,Í⟩,⟨1,Í⟩,⟨2,Í⟩,⟨3,Í⟩,⟨4,Í⟩,⟨5,Í⟩,⟨6,Í⟩,⟨7,Í⟩,⟨8,Í⟩,⟨9,Í⟩,⟨10,Í⟩,⟨11,Í⟩,⟨12,Í⟩,⟨13,Í⟩,⟨14,Í⟩,⟨15,Í⟩,⟨16,Í⟩,⟨17,Í⟩,⟨18,Í⟩],Á⟩
def zj:Array å:=#[GI,DW,GJ,GK,DX,GM,DY,DZ,D1,D2,GN,D3,Bl,vA,Bm,Bn,D4,D5,Bo,Bp,Bq]
def mU(tb a b c N d:Nat)(e f:Ï)(x:(Option Addr×Nat×Nat)×ByteArray):Nat->Ï
 |0=>À<|Â ⟨tb,3,Á⟩
 |1=>À<|Â ⟨b,0,Á⟩
 |2=>Æ (Â ⟨c,0,Á⟩) N N
 |3=>À<|Â ⟨tb,1,Á⟩
 |4=>Ê Î d
 |5=>À<|Â ⟨tb,2,Á⟩
 |6=>À<|Â ⟨a,0,Á⟩
 |7=>À<|Â ⟨a,0,Á⟩
 |8=>À<|Â ⟨a,2,Á⟩
 |9=>f
 |10=>À<|Â ⟨tb,0,Á⟩
 |11=>e
 |12=>ñ #[Æ x.1.1 x.1.2.1 x.1.2.2,à x.2]
 |13=>ñ #[Æ x.1.1 x.1.2.1 x.1.2.2,à x.2]
 |14=>Æ x.1.1 x.1.2.1 x.1.2.2
 |15=>à x.2
 |16=>À<|Â ⟨b,0,Á⟩
 |17=>À<|Â ⟨b,2,Á⟩
 |19=>À<|Â ⟨c,d,Á⟩
 |_=>Å
structure D6(im:e9)(ga gb an pl:Nat)(sV:Ï)(Q:Ï->ByteArray->e9->Prop)(listed:Array Bool)(x:(Option Addr×Nat×Nat)×ByteArray)(l:e9):Prop where
 r:iE (λa=>a=⟨gb,2,Á⟩\/a=⟨an,pl,Á⟩) im l
 vB:listed.getD 12 Ì=Ò->∃y,Q (Æ x.1.1 x.1.2.1 x.1.2.2) x.2 y/\(∀b,y.M b->l.M b/\l.w.heap[b]?=y.w.heap[b]?)
 I:listed.getD 18 Ì=Ò->l.w.cell? ⟨gb,2,Á⟩=Â (Æ x.1.1 x.1.2.1 x.1.2.2)
 N:listed.getD 20 Ì=Ò->l.w.cell? ⟨an,pl,Á⟩=Â (à x.2)
def D6.C{d l:e9}{Q:Ï->ByteArray->e9->Prop}{listed:Array Bool}{x:(Option Addr×Nat×Nat)×ByteArray}(h:D6 d n j b k v Q listed x l)(o:i≠12)(p:i≠18)(s:i≠20)(e:d.r ⟨j,2,Á⟩/\d.r ⟨b,k,Á⟩)(m:ß)(r:fE l l.w m):D6 d n j b k v Q (listed.setIfInBounds i Ò) x {l with w:=m}:=by
 have t:∀a,(a=⟨j,2,Á⟩\/a=⟨b,k,Á⟩)->d.r a:=λa u=>by rcases u with rfl|rfl;exact e.1;exact e.2
 refine⟨h.r.N t r,λq=> ?_,λq=> ?_,λq=> ?_⟩
 .rw[ç Ì o]at q;let⟨y,z,f⟩:=h.vB q;exact⟨y,z,λc g=>⟨(f c g).1,(r.I c (f c g).1).trans (f c g).2⟩⟩
 .rw[ç Ì p]at q;exact(r.N _<|by rw[h.r.C];exact Ã e.1).trans<|h.I q
 .rw[ç Ì s]at q;exact(r.N _<|by rw[h.r.C];exact Ã e.2).trans<|h.N q
section
variable{J:Jd}{im:e9}{ga gb an pl:Nat}{sV:Ï}{Q:Ï->ByteArray->e9->Prop}
def aiX(S:gw im)(hq:¬im.q)(ht:d.size=37)(uz:d[1]?=Â (Æ (Â ⟨an,0,Á⟩) i i))(Rj:d[5]?=Â (À<|Â ⟨n,0,Á⟩))(hO:im.O n) (X:im.w.cell? ⟨n,0,Á⟩=Â v) (Y:im.w.cell? ⟨n,1,Á⟩=Â (Ê Î pl)) (c2:im.w.cell? ⟨n,2,Á⟩=Â (À<|Â ⟨ga,0,Á⟩)) (c3:im.w.cell? ⟨n,3,Á⟩=Â (À<|Â ⟨gb,0,Á⟩)) (uA:im.N ⟨ga,2,Á⟩) (pW:im.w.cell? ⟨ga,2,Á⟩=Â sV) (F:im.r ⟨gb,2,Á⟩) (H:im.r ⟨an,pl,Á⟩) (e1:(im.w.cell? ⟨gb,2,Á⟩).isSome=Ò) (e2:(im.w.cell? ⟨an,pl,Á⟩).isSome=Ò) (z1:im.w.frozen? ⟨gb,2,Á⟩=Ì) (z2:im.w.frozen? ⟨an,pl,Á⟩=Ì) (rA:pl<i) (hN:i<1000000) (lr:(⟨gb,2,Á⟩:â)≠⟨an,pl,Á⟩) (tX:∀l,iE (λa=>a=⟨gb,2,Á⟩\/a=⟨an,pl,Á⟩) im l->∀I lT,fh Ä Ì (λl' g'=>l'.d=l.d/\∃p g c str,g'=G (I.finish<|ñ #[Æ p g c,à str]) lT/\Q (Æ p g c) str l') (mg l)<|G (Ă Ä 66 #[sV,v] Ğ)<|I::lT) (md:ý) (listed:Array Bool) (a:ŏ) (l:e9) (k:Nat) (rest:List Nat) (hI:II zj d (mU n ga gb an i pl v sV) (D6 im ga gb an pl sV Q) listed a l) (D:k∈Û md zj listed): fh Ä Ì (λl' g'=>∃u,g'=G ((base 49).at u<|Ñ zj rest::L) qX/\II zj d (mU n ga gb an i pl v sV) (D6 im ga gb an pl sV Q) (listed.setIfInBounds k Ò) u l') l (G ((base 49).at a<|Ñ zj (k::rest)::L) qX):=by
 let⟨x,s,B⟩:=hI;have K:qK zj d.size=Ò:=by rw[ht];decide
 have V:=Rf D;have gS:=zi D;have M:=B.r.fw;have N:¬l.q:=by rwa[B.r.q]
 have W:∀y:â,(y=⟨gb,2,Á⟩\/y=⟨an,pl,Á⟩)->im.r y:=λy ha=>by rcases ha with rfl|rfl;exact F;exact H
 have nG:a.tmps[1]?=Â (Æ (Â ⟨an,0,Á⟩) i i):=(s.C A).trans uz;have rJ:a.tmps[5]?=Â (À<|Â ⟨n,0,Á⟩):=(s.C A).trans Rj;have I:∀j m,im.w.cell? ⟨n,j,Á⟩=Â m->gY l ⟨n,j,Á⟩/\l.w.cell? ⟨n,j,Á⟩=Â m:=λj m h=>⟨Ã<|Ã<|B.r.O n hO,by rwa[gM<|B.r.r n<|Ã hO]⟩;have Rk:¬((⟨ga,2,Á⟩:â)=⟨gb,2,Á⟩\/(⟨ga,2,Á⟩:â)=⟨an,pl,Á⟩):=λq=>by
  rcases q with q|q
  .exact S.Y _ F<|q▸uA
  .exact S.Y _ H<|q▸uA
 have GO:gY l ⟨ga,2,Á⟩/\l.w.cell? ⟨ga,2,Á⟩=Â sV:=⟨Ç (Ç<|by rwa[B.r.c]),by rwa[B.r.e _ (Ç uA) Rk]⟩;have Rl:(pl:Int)<(i:Int):=Z
 have jH:zj.size=21:=A
 rw[jH]at gS;match k,gS with
 |0,_=>
  refine il (o:=GI) K s U U D (by k_ne) M N (λt r=> ?_) (λt r e E=> ?_)<|B.C A A A ⟨F,H⟩
  .simp only[mU,GI];go_simp
  .simp[go_sem,GI,rJ]at E
 |1,_=>
  have u:a.tmps[13]?=Â (À<|Â ⟨n,3,Á⟩):=s.r 0 GI 13 U (ie (o:=DW) D U U) U;refine il (o:=DW) K s U U D (by k_ne) M N (λt r=> ?_) (λt r e E=> ?_)<|B.C A A A ⟨F,H⟩
  .have J:t.cell? ⟨n,3,Á⟩=Â (À<|Â ⟨gb,0,Á⟩):=((I 3 _ c3).1.r r).trans (I 3 _ c3).2;simp only[mU,DW];go_simp
  .have J:t.cell? ⟨n,3,Á⟩=Â (À<|Â ⟨gb,0,Á⟩):=((I 3 _ c3).1.r r).trans (I 3 _ c3).2;have b:e=⟨û ⟨n,3,Á⟩,Ì,Ì⟩:=by simp[go_sem,DW,J,u]at E;exact E
   subst b;exact(I 3 _ c3).1.rd
 |2,_=>
  refine il (o:=GJ) K s U U D (by k_ne) M N (λt r=> ?_) (λt r e E=> ?_)<|B.C A A A ⟨F,H⟩
  .simp only[mU,GJ];go_simp
  .simp[go_sem,GJ,nG]at E
 |3,_=>
  refine il (o:=GK) K s U U D (by k_ne) M N (λt r=> ?_) (λt r e E=> ?_)<|B.C A A A ⟨F,H⟩
  .simp only[mU,GK];go_simp
  .simp[go_sem,GK,rJ]at E
 |4,_=>
  have u:a.tmps[16]?=Â (À<|Â ⟨n,1,Á⟩):=s.r 3 GK 16 U (ie (o:=DX) D U U) U;refine il (o:=DX) K s U U D (by k_ne) M N (λt r=> ?_) (λt r e E=> ?_)<|B.C A A A ⟨F,H⟩
  .have J:t.cell? ⟨n,1,Á⟩=Â (Ê Î pl):=((I 1 _ Y).1.r r).trans (I 1 _ Y).2;simp only[mU,DX];go_simp
  .have J:t.cell? ⟨n,1,Á⟩=Â (Ê Î pl):=((I 1 _ Y).1.r r).trans (I 1 _ Y).2;have b:e=⟨û ⟨n,1,Á⟩,Ì,Ì⟩:=by simp[go_sem,DX,J,u]at E;exact E
   subst b;exact(I 1 _ Y).1.rd
 |5,_=>
  refine il (o:=GM) K s U U D (by k_ne) M N (λt r=> ?_) (λt r e E=> ?_)<|B.C A A A ⟨F,H⟩
  .simp only[mU,GM];go_simp
  .simp[go_sem,GM,rJ]at E
 |6,_=>
  have u:a.tmps[18]?=Â (À<|Â ⟨n,2,Á⟩):=s.r 5 GM 18 U (ie (o:=DY) D U U) U;refine il (o:=DY) K s U U D (by k_ne) M N (λt r=> ?_) (λt r e E=> ?_)<|B.C A A A ⟨F,H⟩
  .have J:t.cell? ⟨n,2,Á⟩=Â (À<|Â ⟨ga,0,Á⟩):=((I 2 _ c2).1.r r).trans (I 2 _ c2).2;simp only[mU,DY];go_simp
  .have J:t.cell? ⟨n,2,Á⟩=Â (À<|Â ⟨ga,0,Á⟩):=((I 2 _ c2).1.r r).trans (I 2 _ c2).2;have b:e=⟨û ⟨n,2,Á⟩,Ì,Ì⟩:=by simp[go_sem,DY,J,u]at E;exact E
   subst b;exact(I 2 _ c2).1.rd
 |7,_=>
  have u:a.tmps[19]?=Â (À<|Â ⟨ga,0,Á⟩):=s.r 6 DY 19 U (ie (o:=DZ) D U U) U;refine il (o:=DZ) K s U U D (by k_ne) M N (λt r=> ?_) (λt r e E=> ?_)<|B.C A A A ⟨F,H⟩
  .simp only[mU,DZ];go_simp
  .simp[go_sem,DZ,u]at E
 |8,_=>
  have u:a.tmps[20]?=Â (À<|Â ⟨ga,0,Á⟩):=s.r 7 DZ 20 U (ie (o:=D1) D U U) U;refine il (o:=D1) K s U U D (by k_ne) M N (λt r=> ?_) (λt r e E=> ?_)<|B.C A A A ⟨F,H⟩
  .simp only[mU,D1];go_simp
  .simp[go_sem,D1,u]at E
 |9,_=>
  have u:a.tmps[21]?=Â (À<|Â ⟨ga,2,Á⟩):=s.r 8 D1 21 U (ie (o:=D2) D U U) U;refine il (o:=D2) K s U U D (by k_ne) M N (λt r=> ?_) (λt r e E=> ?_)<|B.C A A A ⟨F,H⟩
  .have J:t.cell? ⟨ga,2,Á⟩=Â (sV):=(GO.1.r r).trans GO.2;simp only[mU,D2];go_simp
  .have J:t.cell? ⟨ga,2,Á⟩=Â (sV):=(GO.1.r r).trans GO.2;have b:e=⟨û ⟨ga,2,Á⟩,Ì,Ì⟩:=by simp[go_sem,D2,J,u]at E;exact E
   subst b;exact GO.1.rd
 |10,_=>
  refine il (o:=GN) K s U U D (by k_ne) M N (λt r=> ?_) (λt r e E=> ?_)<|B.C A A A ⟨F,H⟩
  .simp only[mU,GN];go_simp
  .simp[go_sem,GN,rJ]at E
 |11,_=>
  have u:a.tmps[23]?=Â (À<|Â ⟨n,0,Á⟩):=s.r 10 GN 23 U (ie (o:=D3) D U U) U;refine il (o:=D3) K s U U D (by k_ne) M N (λt r=> ?_) (λt r e E=> ?_)<|B.C A A A ⟨F,H⟩
  .have J:t.cell? ⟨n,0,Á⟩=Â (v):=((I 0 _ X).1.r r).trans (I 0 _ X).2;simp only[mU,D3];go_simp
  .have J:t.cell? ⟨n,0,Á⟩=Â (v):=((I 0 _ X).1.r r).trans (I 0 _ X).2;have b:e=⟨û ⟨n,0,Á⟩,Ì,Ì⟩:=by simp[go_sem,D3,J,u]at E;exact E
   subst b;exact(I 0 _ X).1.rd
 |12,_=>
  have GQ:a.tmps[22]?=Â (sV):=s.r 9 D2 22 U (ie (o:=Bl) D U U) U;have KI:a.tmps[24]?=Â (v):=s.r 11 D3 24 U (ie (o:=Bl) D U U) U;refine Y0 (o:=Bl) K s U U D (by k_ne) M (f:=66) (args:=#[sV,v]) (λw=>by simp only[Bl];go_simp) (λw=>ł (o:=Bl) U Tryz.func66 U U #[]) λt r=> ?_;have T:=B.r.N W r;refine((tX _ T _ _).mg<|T.G S).fO ?_;rintro l' g' ⟨y,⟨hy0,p,g,c,str,rfl,hQ⟩,rfl,hA,Y3,aiY,aiZ⟩;refine⟨((p,g,c),str),U,⟨T.Rh W hA hy0,λ_=>⟨y,hQ,λb P=>⟨?_,U⟩⟩,λq=> ?_,λq=> ?_⟩,λj u=> ?_⟩
  .rcases P with q|q
   .exact Ã<|Ã q
   .rw[Y3]at q;exact q.elim (λz=>Ã<|Ç z) Ç
  .rw[ç Ì A]at q;exact absurd (s.I (o:=Bo) U q U)<|xm V
  .rw[ç Ì A]at q;exact absurd (s.I (o:=Bq) U q U)<|xm V
  .match j,u with
   |12,u=>exact absurd u<|xm V
   |13,u=>exact absurd (s.I (o:=vA) U u U)<|xm V
   |14,u=>exact absurd (s.I (o:=vA) U (s.I (j:=13) (o:=Bm) U u U) U)<|xm V
   |15,u=>exact absurd (s.I (o:=vA) U (s.I (j:=13) (o:=Bn) U u U) U)<|xm V
   |0,_|1,_|2,_|3,_|4,_|5,_|6,_|7,_|8,_|9,_|10,_|11,_|16,_|17,_|18,_|19,_|20,_|g+21,_=>rfl
 |13,_=>
  have u:a.tmps[25]?=Â (ñ #[Æ x.1.1 x.1.2.1 x.1.2.2,à x.2]):=s.r 12 Bl 25 U (ie (o:=vA) D U U) U;refine il (o:=vA) K s U U D (by k_ne) M N (λt r=> ?_) (λt r e E=> ?_)<|B.C A A A ⟨F,H⟩
  .simp only[mU,vA];go_simp
  .simp[go_sem,vA,u]at E
 |14,_=>
  have u:a.tmps[12]?=Â (ñ #[Æ x.1.1 x.1.2.1 x.1.2.2,à x.2]):=s.r 13 vA 12 U (ie (o:=Bm) D U U) U;refine il (o:=Bm) K s U U D (by k_ne) M N (λt r=> ?_) (λt r e E=> ?_)<|B.C A A A ⟨F,H⟩
  .simp only[mU,Bm];go_simp
  .simp[go_sem,Bm,u]at E
 |15,_=>
  have u:a.tmps[12]?=Â (ñ #[Æ x.1.1 x.1.2.1 x.1.2.2,à x.2]):=s.r 13 vA 12 U (ie (o:=Bn) D U U) U;refine il (o:=Bn) K s U U D (by k_ne) M N (λt r=> ?_) (λt r e E=> ?_)<|B.C A A A ⟨F,H⟩
  .simp only[mU,Bn];go_simp
  .simp[go_sem,Bn,u]at E
 |16,_=>
  have u:a.tmps[14]?=Â (À<|Â ⟨gb,0,Á⟩):=s.r 1 DW 14 U (ie (o:=D4) D U U) U;refine il (o:=D4) K s U U D (by k_ne) M N (λt r=> ?_) (λt r e E=> ?_)<|B.C A A A ⟨F,H⟩
  .simp only[mU,D4];go_simp
  .simp[go_sem,D4,u]at E
 |17,_=>
  have u:a.tmps[28]?=Â (À<|Â ⟨gb,0,Á⟩):=s.r 16 D4 28 U (ie (o:=D5) D U U) U;refine il (o:=D5) K s U U D (by k_ne) M N (λt r=> ?_) (λt r e E=> ?_)<|B.C A A A ⟨F,H⟩
  .simp only[mU,D5];go_simp
  .simp[go_sem,D5,u]at E
 |18,_=>
  have h29:a.tmps[29]?=Â (À<|Â ⟨gb,2,Á⟩):=s.r 17 D5 29 U (ie (o:=Bo) D U U) U;have h26:a.tmps[26]?=Â (Æ x.1.1 x.1.2.1 x.1.2.2):=s.r 14 Bm 26 U (ie (o:=Bo) D U U) U;have T:(l.w.cell? ⟨gb,2,Á⟩).isSome=Ò:=B.r.g _ (Ã U) e1;have Br:l.w.frozen? ⟨gb,2,Á⟩=Ì:=(B.r.S _<|Ã F).trans z1;have lJ:qd l ⟨gb,2,Á⟩:=Ç (by rwa[B.r.I]);refine Ri (o:=Bo) (y:=⟨gb,2,Á⟩) (v:=Æ x.1.1 x.1.2.1 x.1.2.2) K s U U U D (by k_ne) M N U lJ T Br (λw J hz=> ?_) (λw J hz=> ?_) λt r=> ?_
  .let⟨u,hu⟩:=Ô.1 J;simp only[Bo];go_simp
  .let⟨u,hu⟩:=Ô.1 J;simp[go_sem,Bo,h29,h26,á _ _ _ _ _ _ (show Ø (Æ x.1.1 x.1.2.1 x.1.2.2)=Ò from rfl),hu,hz]
  .have hA:=B.r.qz S W (x:=⟨gb,2,Á⟩) (v:=Æ x.1.1 x.1.2.1 x.1.2.2) (Ã U) U T;refine⟨hA.N W ⟨r.r,r.I,r.N,r.Y,r.S⟩,λq=> ?_,λq=> ?_,λq=> ?_⟩
   .rw[ç Ì A]at q;let⟨y,y1,z⟩:=B.vB q;refine⟨y,y1,λb P=>⟨(z b P).1,?_⟩⟩;have Rm:b≠(⟨gb,2,Á⟩:â).block:=λe=>(B.r.G S).N ⟨gb,2,Á⟩ (by rw[B.r.C];exact Ã F)<|e▸(z b P).1;exact(r.I b (z b P).1).trans<|(lu Rm).trans (z b P).2
   .exact(r.N _ (by rw[B.r.C];first|exact Ã F|exact Ã H)).trans<|AL (Ô.1 T).choose_spec
   .rw[ç Ì A]at q;exact(r.N ⟨an,pl,Á⟩<|by rw[B.r.C];exact Ã H).trans<|(Bj U λe=>lr e.symm).trans<|B.N q
 |19,_=>
  have Rn:a.tmps[15]?=Â (Æ (Â ⟨an,0,Á⟩) i i):=s.r 2 GJ 15 U (ie (o:=Bp) D U U) U;have Ro:a.tmps[17]?=Â (Ê Î pl):=s.r 4 DX 17 U (ie (o:=Bp) D U U) U;refine il (o:=Bp) K s U U D (by k_ne) M N (λt r=> ?_) (λt r e E=> ?_)<|B.C A A A ⟨F,H⟩
  .simp only[mU,Bp];go_simp
  .simp[go_sem,Bp,rA,Rl,Rn,Ro]at E
 |20,_=>
  have E:a.tmps[30]?=Â (À<|Â ⟨an,pl,Á⟩):=s.r 19 Bp 30 U (ie (o:=Bq) D U U) U;have h27:a.tmps[27]?=Â (à x.2):=s.r 15 Bn 27 U (ie (o:=Bq) D U U) U;have T:(l.w.cell? ⟨an,pl,Á⟩).isSome=Ò:=B.r.g _ (Ç U) e2;have Br:l.w.frozen? ⟨an,pl,Á⟩=Ì:=(B.r.S _<|Ã H).trans z2;have lJ:qd l ⟨an,pl,Á⟩:=Ç (by rwa[B.r.I]);refine Ri (o:=Bq) (y:=⟨an,pl,Á⟩) (v:=à x.2) K s U U U D (by k_ne) M N U lJ T Br (λw J hz=> ?_) (λw J hz=> ?_) λt r=> ?_
  .let⟨u,hu⟩:=Ô.1 J;simp only[Bq];go_simp
  .let⟨u,hu⟩:=Ô.1 J;simp[go_sem,Bq,E,h27,á _ _ _ _ _ _ (show Ø (à x.2)=Ò from rfl),hu,hz]
  .have hA:=B.r.qz S W (x:=⟨an,pl,Á⟩) (v:=à x.2) (Ç U) U T;refine⟨hA.N W ⟨r.r,r.I,r.N,r.Y,r.S⟩,λq=> ?_,λq=> ?_,λq=> ?_⟩
   .rw[ç Ì A]at q;let⟨y,y1,z⟩:=B.vB q;refine⟨y,y1,λb P=>⟨(z b P).1,?_⟩⟩;have Rm:b≠(⟨an,pl,Á⟩:â).block:=λe=>(B.r.G S).N ⟨an,pl,Á⟩ (by rw[B.r.C];exact Ã H)<|e▸(z b P).1;exact(r.I b (z b P).1).trans<|(lu Rm).trans (z b P).2
   .rw[ç Ì A]at q;exact(r.N ⟨gb,2,Á⟩<|by rw[B.r.C];exact Ã F).trans<|(Bj U<|lr).trans<|B.I q
   .exact(r.N _ (by rw[B.r.C];first|exact Ã F|exact Ã H)).trans<|AL (Ô.1 T).choose_spec
 |g+21,h=>exact absurd h Z
end
section
variable{E:â->Prop}{l c g:e9}
def iE.fe(h:iE E l c)(k:iE E c g):iE E l g:=by have f:=h.C;exact⟨λj e=>k.O j<|h.O j e,λj e=>(k.h j e).elim (h.h j) λq=>Ç<|Õ h.f q,k.Y.trans h.Y,k.I.trans h.I,k.c.trans h.c,k.K.trans h.K,k.q.trans h.q,k.d.trans h.d,k.fw,Õ h.f k.f,λj e=>(k.r j<|h.M e).trans<|h.r j e,λa b i=>(k.e a (by rwa[f]) i).trans<|h.e a b i,λa b=>(k.S a<|by rwa[f]).trans<|h.S a b,λa b q=>k.b a (by rwa[h.K])<|h.b a b q,λa b q=>k.g a b<|h.g a b q⟩
end
def gG(l:e9)(w₁:ß)(o:Ÿ):e9:={l with O:=λb=>l.O b\/b=w₁.heap.size,w:=w₁.alloc o}
theorem zk{o:Ÿ}(h:j<w.heap.size):(w.alloc o).heap[j]?=w.heap[j]?:=by unfold ň;grind
theorem mV{o:Ÿ}:(w.alloc o).heap[w.heap.size]?=Â o:=by unfold ň;simp
def KJ{o:Ÿ}:(w.alloc o).heap.size=w.heap.size+1:=by unfold ň;simp
section
variable{J:Jd}{l:e9}{a:ŏ}{k:List ŷ}{cs:List é}{ob:Ÿ}{E:â->Prop}
def Y4(b:∀j,l.O j->j<w.heap.size)(c:¬l.q):mE l (gG l w ob) w (w.alloc ob) #[]:= ⟨by rw[KJ];omega,λj h=>h.imp id λe=>by omega,λj h=>by rw[KJ];exact h.elim (λq=>Ĺ<|b j q) λe=>by omega,U,U,U,U,λj d _ _=>zk d,λx a _ _=>gM<|zk a,λx a _=>wY<|zk a,U,U,U,λe f=>by simp at f,by simp[į,gG],U,λq=>absurd q c,U⟩
def GR(c:Q[i]?=Â o)(d:Ė o (ţ Q a.tmps)=Ò)(e:f.kind≠Ź)(g:jW l)(h:¬l.q) (j:∀w,(ĉ a.eval o).run P w=.ok (.value<|À<|Â ⟨w.heap.size,0,Á⟩) (w.alloc ob)) (m:∀w,(ĉ a.eval o).events P w #[]=#[]) (n:∀b,fE l l.w b->fh P yQ J (gG l b ob) (G (f.at (a.put o.dst<|À<|Â ⟨b.heap.size,0,Á⟩)<|Ñ Q jJ::k) cs)):fh P yQ J l (G (f.at a<|Ñ Q (i::jJ)::k) cs):=by
 refine vx c d e λb r=> ?_;rw[j b];refine⟨_,?_,n b r⟩;have:listed P f.fn a o b=#[]:=by unfold listed;rw[m b,Ī]
 rw[this];exact Y4 (lH g r) h
def KL(s:gw l)(d:∀a,E a->l.r a)(r:fE l l.w u):iE E l (gG l u ob):=by
 have c:=r.r;refine⟨λj h=>Ã h,λj h=>h.imp id λe=>by omega,U,U,U,U,U,U,λj h=> ?_,?_,λj f=>(zk<|È (s.fw j f) c).trans<|r.I j f,λx b _=>(gM<|zk<|È (s.I x b) c).trans<|r.N x b,λx b=>(wZ<|zk<|È (s.I x b) c).trans<|r.Y x b,λx b q=> ?_,λx b q=> ?_⟩
 .show j<(u.alloc ob).heap.size;rw[KJ];exact h.elim (λq=>Ĺ<|È (s.fw j<|Ã q) c) λe=>by omega
 .show l.w.heap.size<=(u.alloc ob).heap.size;rw[KJ];omega
 .show((u.alloc ob).cell? x).isSome=Ò;rw[gM<|zk<|È (s.S x b).2.1 c];exact r.S x b q
 .show((u.alloc ob).cell? x).isSome=Ò;rwa[gM<|zk<|È (s.I x<|Ã<|d x b) c,r.N x<|Ã<|d x b]
def KM{w':ß}{p:Nat}(g:∀j,l.O j->j<w.heap.size)(i:¬l.q)(b:l.O p)(k:w'.heap.size=w.heap.size)(c:∀j,j≠p->w'.heap[j]?=w.heap[j]?)(d:w'.os=w.os/\w'.output=w.output/\w'.tape=w.tape)(f:∀e∈V,vy l e):mE l {l with w:=w'} w w' V:=by refine⟨Z,λ_ h=>Ã h,λj h=>by rw[k];exact g j h,U,U,U,U,λj _ a _=>c j λe=>a<|e▸b,λx _ a _=>gM (c _ λe=>a<|e▸b),λx _ a=>wY (c _ λe=>a<|e▸b),d.1,d.2.1,d.2.2,λe h=>(f e h).1,(KC f _).symm,U,λq=>absurd q i,U⟩
end
def iU(w:ß)(p:Nat)(v0 v1 v2 v3:Ï):ß:=(((w.setCell ⟨p,0,Á⟩ v0).setCell ⟨p,1,Á⟩ v1).setCell ⟨p,2,Á⟩ v2).setCell ⟨p,3,Á⟩ v3
section
variable{p:Nat}{v0 v1 v2 v3:Ï}
def xn:(iU w p v0 v1 v2 v3).heap.size=w.heap.size:=by unfold iU;rw[j2,j2,j2,j2]
def zm(h:j≠p):(iU w p v0 v1 v2 v3).heap[j]?=w.heap[j]?:=by unfold iU;rw[lu h,lu h,lu h,lu h]
theorem Rp(b:w.cell? ⟨p,0,Á⟩=Â v)(c:w.cell? ⟨p,1,Á⟩=Â x)(d:w.cell? ⟨p,2,Á⟩=Â z)(e:w.cell? ⟨p,3,Á⟩=Â jQ): (iU w p v0 v1 v2 v3).cell? ⟨p,0,Á⟩=Â v0/\(iU w p v0 v1 v2 v3).cell? ⟨p,1,Á⟩=Â v1/\(iU w p v0 v1 v2 v3).cell? ⟨p,2,Á⟩=Â v2/\(iU w p v0 v1 v2 v3).cell? ⟨p,3,Á⟩=Â v3:=by have f:∀(w:ß) (i j:Nat) (a:Ï),i≠j->(w.setCell ⟨p,i,Á⟩ a).cell? ⟨p,j,Á⟩=w.cell? ⟨p,j,Á⟩:=λw i j a h=>yJ<|Ç h;unfold iU;grind [AL]
def Rq{E:â->Prop}{l e:e9}(s:gw l)(f:∀a,E a->l.r a)(h:iE E l e){w':ß}(r:fE e e.w u)(k:l.w.heap.size<=p)(g:w'.heap.size=u.heap.size)(i:∀j,j≠p->w'.heap[j]?=u.heap[j]?):iE E l {e with w:=w'}:=by
 have b:=h.N f r;have c:∀{j:Nat},j<l.w.heap.size->w'.heap[j]?=u.heap[j]?:=λ{j} q=>i j Z;refine⟨b.O,b.h,b.Y,b.I,b.c,b.K,b.q,b.d,λj q=> ?_,?_,λj q=>(c<|s.fw j q).trans<|b.r j q,λa q n=>(gM<|c<|s.I a q).trans<|b.e a q n,λa q=>(wZ<|c<|s.I a q).trans<|b.S a q,λa q z=> ?_,λa q z=> ?_⟩
 .show j<w'.heap.size;rw[g];exact b.fw j q
 .show l.w.heap.size<=w'.heap.size;rw[g];exact b.f
 .show(w'.cell? a).isSome=Ò;rw[gM<|c (s.S a q).2.1];exact b.b a q z
 .show(w'.cell? a).isSome=Ò;rw[gM<|c<|s.I a<|Ã<|f a q];exact b.g a q z
end
def xo(t:Array Ï)(h:t.size=n):∃u:Nat->Ï,t=((ã n).map u).toArray:=by subst h;refine⟨λi=>t.getD i Å,Array.ext fj λi a _=> ?_⟩;simp_all
def Rr(t:Array Ï)(h:t.size=37):∃a b c d e f g i j k l m n o p q r s u v w x y z B C D E F G H I J K L M N:Ï,t=#[a,b,c,d,e,f,g,i,j,k,l,m,n,o,p,q,r,s,u,v,w,x,y,z,B,C,D,E,F,G,H,I,J,K,L,M,N]:=by obtain⟨_,rfl⟩:=xo t h;exact⟨_,_,_,_,_,_,_,_,_,_,_,_,_,_,_,_,_,_,_,_,_,_,_,_,_,_,_,_,_,_,_,_,_,_,_,_,_,U⟩
end Go.Proofs.Y.ft
namespace Go.Proofs.Y.ft
open Go Go.Conc Go.Proofs.Y.Lift Go.RowKit Go.Conc.Lib Go.ConcR.Gen
section
variable{Ψ:ß->Prop}{L:WgLink}{l:e9}{e:Jd}{k:List ŷ}
def Rs(Ψ:ß->Prop)(l:e9)(b:Nat)(w:ß):Prop:=SW Ψ l b w/\fE l l.w w
def pD(a:mf Ψ l b)(h:Rs Ψ l b w)(r:fE l w u):Rs Ψ l b u:=⟨fH h.1<|a.r r,h.2.fe r⟩
def ai0{J:Jd}(a:SW Ψ l b l.w)(c:Goes P yQ (fE l) Go.ConcR.DC0 (λd e=>fh P yQ J {l with w:=e} d) n g l.w):fh P yQ J l g:= PO c (λ_ _ r=>r) a.1 λ_ _ _ h=>h
def ai1(H:WgLib P L)(τ:e9->e9)(Φ:e9->Prop)(c:mf Ψ l b)(z:SW Ψ l b l.w) (N:∀a,fE l l.w a->Φ {l with w:=a}/\(τ {l with w:=a}).d=0/\∃q:ß->Prop,mf q (τ {l with w:=a}) b/\SW q (τ {l with w:=a}) b (τ {l with w:=a}).w/\ ∀j,SW q (τ {l with w:=a}) b j->fh P Ì e {τ {l with w:=a}with d:=0,w:=j} (G (f.at (y.put ((Q[i]?).bind (·.dst))<|ñ #[])<|Ñ Q jJ::k) qX)): fh P Ì (λl g=>Φ l/\yL P Ì b (fh P Ì e) (τ l) g) l (G ((base L.done).at ⟨#[À<|Â ⟨b,0,Á⟩,Å,Å,Å],[]⟩ [ö<|body_done L])<|f.at y (Ñ Q (i::jJ)::k)::qX):=by
 lib_facts;simp only[body_done,doneFn,Ń];have hF:Rs Ψ l b l.w:=⟨z,fE.fV _ _⟩;apply ai0 z (n:=40);u_reg (pD c) hF;u_op (pD c) hF;u_call H.f_add (nm_add L) addFn (pD c) hF;u_c Ŝ (pD c) hF;u_cond Ò (pD c) hF;u_c Ŝ (pD c) hF;u_c Ŝ (pD c) hF;u_reg (pD c) hF;u_op (pD c) hF;u_op (pD c) hF;u_c stepG_region_end (pD c) hF;u_cond Ò (pD c) hF;u_reg (pD c) hF;u_op (pD c) hF;u_conv H.underlying_tWgP H.room_tWg (nD.r hF.1.2.1).choose_spec (pD c) hF;refine Ë λa g=> ?_;replace hF:=pD c hF g;clear g;refine .fA λj r=> ?_;let⟨O,B,q,h,C,D⟩:=N j<|hF.2.fe<|zd r;refine⟨O,B,U,_,λ_=>stepG_markAt .releaseMerge fj U U (by k_ne) U H.f_relMerge (x_relMerge_n L) (x_relMerge_b L) (x_relMerge_x L) (x_relMerge_f L) (by simp[ĥ,fM]),?_⟩;walk_nrm;show fh P Ì (OO P Ì b<|fh P Ì e) (τ {l with w:=j}) _;clear O r;generalize τ {l with w:=j}=l2 at h C B D|-;replace hF:=C;clear C c z N;apply jI h hF (n:=10);iterate 3 w_go fH
 refine Ë λa g=> ?_;replace hF:=fH hF g;clear g;refine vw (l:={l2 with w:=a}) h hF (Ã U) U (λ_=>stepG_mark0 .disable fj U U (by k_ne) U H.f_disable (x_disable_n L) (x_disable_b L) (x_disable_x L)<|x_disable_f L) λE hF=> ?_;walk_nrm;have W:į l2.d #[jV .disable]=1:=by rw[B];rfl
 rw[W];apply jI (l:={l2 with d:=1,w:=E}) h hF (n:=50);iterate 2 w_go fH
 u_defer fH hF
 iterate 8 w_go fH
 u_bub fH hF
 iterate 11 w_go fH
 u_call H.f_uAdd (nm_uAdd L) uAddFn fH hF
 iterate 10 w_go fH
 refine Ë λa g=> ?_;replace hF:=fH hF g;clear g;refine nY (l:={l2 with d:=1,w:=a}) h hF λj hF=>⟨U,U,λv=>⟨_,λa p F=>(stepG_add_atomic U U (by k_ne) U H.f_addU64 (x_addU64_n L) (x_addU64_b L) (x_addU64_x L) ê (x_addU64_f L) U U p F).trans fN,?_⟩⟩;walk_nrm;have S:ê.wrap (v+18446744069414584320)=ê.wrap (v+qG):=rfl;rw[S];clear S;obtain⟨s,I⟩:∃s,ê.wrap (v+qG)=s:=⟨_,U⟩;simp only[I];have J:0<=s:=by rw[<-I];have:ê.wrap (v+qG)=(v+qG)%18446744073709551616:=rfl;rw[this];omega
 clear I v;by_cases o:s=0\/(fY<=s/\s<1000000*fY/\s%fY<1000000)
 .rw[if_pos o];by_cases m:s=0;focus
   subst m;clear o J
  rotate_left;focus
   have X:=o.resolve_left m;clear o m J;let⟨Y,c5,c6⟩:=X;have q4:(4294967296:Int)<=s:=Y;have K:s<1000000*4294967296:=c5;have T:s%4294967296<1000000:=c6;have f1:=DL s Z K T;have t:=DR s Z K T;obtain⟨u,g1⟩:∃u,(s/4294967296+2147483648)%4294967296-2147483648=u:=⟨_,U⟩;have g2:¬u<0:=Z
   have g3:0<u:=Z
   by_cases M:s%4294967296=0;focus rw[M]at t
   rotate_left;focus
    obtain⟨x,g4⟩:∃x,s%4294967296=x:=⟨_,U⟩;rw[g4]at t M;have V:x%4294967296=x:=Z
    have g6:(x !=0)=Ò:=by simpa using M
  all_goals
   apply jI (l:={l2 with d:=1,w:=j}) h hF (n:=150);iterate 3 w_go fH
   u_leave1 H.f_uAdd fH hF
   iterate 83 w_go fH
   refine Ë λa g=> ?_;replace hF:=fH hF g;clear g;refine vw (l:={l2 with d:=1,w:=a}) h hF (Ç U) U (λw=>Kw .enable fj U H.f_enable (x_enable_n L) (x_enable_b L) (x_enable_x L) (x_enable_f L) w) λE hF=> ?_;have u:į 1 #[jV .enable]=0:=rfl;rw[u];apply jI (l:={l2 with d:=0,w:=E}) h hF (n:=10);u_leave0 H.f_add fH hF;iterate 2 w_go fH
   u_leave0 H.f_done fH hF
   refine Ë λa g=> ?_;replace hF:=fH hF g;clear g;exact D _ hF
 .rw[if_neg o];by_cases m:0<s/\s<1000000
  .rw[if_pos m];let⟨q4,K⟩:=m;clear o J;have f1:=DL s Z Z Z;have t:=DR s Z Z Z;have g1:(s/4294967296+2147483648)%4294967296-2147483648=0:=Z
   have V:s%4294967296=s:=Z
   rw[V]at t;have g6:(s !=0)=Ò:=by simp;omega
   have X:(s==0)=Ì:=by simp;omega
   have M:(s.toNat:Int)=s:=Z
   apply jI (l:={l2 with d:=1,w:=j}) h hF (n:=150);iterate 3 w_go fH
   u_leave1 H.f_uAdd fH hF
   iterate 89 w_go fH
   u_call H.f_uLoad (nm_uLoad L) uLoadFn fH hF
   iterate 9 w_go fH
   refine Ë λa g=> ?_;replace hF:=fH hF g;clear g;refine nY (l:={l2 with d:=1,w:=a}) h hF λj hF=>⟨U,U,λv=>⟨_,λa p=>stepG_load_atomic U U (by k_ne) U H.f_loadU64 (x_loadU64_n L) (x_loadU64_b L) (x_loadU64_x L) ê (x_loadU64_f L) U p,?_⟩⟩;show fh P Ì (if v=(s.toNat:Int)then JX P Ì b (fh P Ì e) s.toNat else λ_ _=>True) _ _;by_cases u:v=(s.toNat:Int)
   .rw[if_pos u];rw[M]at u;subst u;walk_nrm;have Y:(v !=v)=Ì:=fj
    apply jI (l:={l2 with d:=1,w:=j}) h hF (n:=150);iterate 3 w_go fH
    u_leave1 H.f_uLoad fH hF
    iterate 10 w_go fH
    u_call H.f_uStore (nm_uStore L) uStoreFn fH hF
    iterate 5 w_go fH
    refine Ë λa g=> ?_;replace hF:=fH hF g;clear g;refine nY (l:={l2 with d:=1,w:=a}) h hF λj hF=>⟨U,U,_,λa x p F=>stepG_store_atomic U U (by k_ne) U H.f_storeU64 (x_storeU64_n L) (x_storeU64_b L) (x_storeU64_x L) (x_storeU64_f L) U U p F,?_⟩;walk_nrm;obtain⟨r,T⟩:∃r,v.toNat=r+1:=⟨v.toNat-1,Z⟩;rw[T];apply jI (l:={l2 with d:=1,w:=j}) h hF (n:=150);iterate 2 w_go fH
    u_leave0 H.f_uStore fH hF
    iterate 24 w_go fH
    refine Ë λa g=> ?_;replace hF:=fH hF g;clear g;apply aiA H h D r v<;>first|exact hF|omega
   .rw[if_neg u];exact .fA λ_ _=>trivial
  .rw[if_neg m];trivial
end
end Go.Proofs.Y.ft
namespace Go.Proofs.Y.ft
open Go Go.Conc Go.Proofs.Y.Lift Go.RowKit Go.Conc.Lib Go.ConcR.Gen
open Go.Proofs Go.Proofs.YtgpphkdoanciiaaGreatDoor
noncomputable def KN:Ę:=kY Ι [1,0,0]
noncomputable def zn (t:Array Ï) (a:List é):Ý:=G ((base 49).at ⟨t,[]⟩ [ö KN,ą KN,ô 0]) a
structure Bs(an N:Nat)(ib:Option â)(m c kk:Nat)(t:Array Ï):Prop where
 r:t.size=37
 t1:t[1]?=Â (Æ (Â ⟨an,0,Á⟩) N N)
 t6:t[6]?=Â (Æ ib m c)
 C:t[7]?=Â (Ê Î m)
 I:t[8]?=Â (Ê Î kk)
theorem Bt{x:Int}(a:0<=x)(b:x<1000000):Î.wrap x=x:=by rw[Γ];omega
section
variable{f:Jd}{l:e9}{t:Array Ï}{an N ib c kk:Nat}{Q:Ï->ByteArray->e9->Prop}{τ:e9->e9}{Φ:e9->Prop}
def ai2(D:gw l)(V:¬l.q)(hd:l.d=0)(W:Bs an N (Â ⟨ib,0,Á⟩) m c kk t)(hkk:kk<m)(hm:m<1000)(hN:N<1000000)(rA:j<N)(zo:l.M ib) (i0:l.w.cell? ⟨ib,kk*4,Á⟩=Â (À O)) (i1:l.w.cell? ⟨ib,kk*4+1,Á⟩=Â (Ê Î j)) (i2:l.w.cell? ⟨ib,kk*4+2,Á⟩=Â (À<|Â ⟨i,0,Á⟩)) (i3:l.w.cell? ⟨ib,kk*4+3,Á⟩=Â (À<|Â ⟨n,0,Á⟩)) (uA:l.N ⟨i,2,Á⟩) (pW:l.w.cell? ⟨i,2,Á⟩=Â v) (o1:l.r ⟨n,2,Á⟩) (o2:l.r ⟨an,j,Á⟩) (e1:(l.w.cell? ⟨n,2,Á⟩).isSome=Ò) (e2:(l.w.cell? ⟨an,j,Á⟩).isSome=Ò) (z1:l.w.frozen? ⟨n,2,Á⟩=Ì) (z2:l.w.frozen? ⟨an,j,Á⟩=Ì) (lr:(⟨n,2,Á⟩:â)≠⟨an,j,Á⟩) (tX:∀u,iE (λa=>a=⟨n,2,Á⟩\/a=⟨an,j,Á⟩) l u->∀cl lT,fh Ä Ì (λl'' g'=>l''.d=u.d/\∃p k c str,g'=G (cl.finish<|ñ #[Æ p k c,à str]) lT/\Q (Æ p k c) str l'') (mg u)<|G (Ă Ä 66 #[v,À O] Ğ)<|cl::lT) (AG:∀u (x:(Option Addr×Nat×Nat)×ByteArray),iE (λa=>a=⟨n,2,Á⟩\/a=⟨an,j,Á⟩) l u->(∃y,Q (Æ x.1.1 x.1.2.1 x.1.2.2) x.2 y/\(∀b,y.M b->u.M b/\u.w.heap[b]?=y.w.heap[b]?))->u.w.cell? ⟨n,2,Á⟩=Â (Æ x.1.1 x.1.2.1 x.1.2.2)->u.w.cell? ⟨an,j,Á⟩=Â (à x.2)-> mf (λ_=>True) u n/\SW (λ_=>True) u n u.w/\Φ u/\(τ u).d=0/\∃E:ß->Prop,mf E (τ u) n/\SW E (τ u) n (τ u).w/\∀s X,SW E (τ u) n s->Bs an N (Â ⟨ib,0,Á⟩) m c (kk+1) X->fh Ä Ì f {τ u with d:=0,w:=s} (zn X qX)): fh Ä Ì (λl g=>Φ l/\yL Ä Ì n (fh Ä Ì f) (τ l) g) l (zn t qX):=by
 obtain⟨y0,y1,Y,y3,y4,y5,y6,y7,y8,y9,xp,zp,xq,rK,sW,qN,vC,vD,uB,uC,uD,sX,sY,sZ,rE,sS,rF,pz,ov,p7,p8,p9,uh,sT,sU,rG,rH,rfl⟩:=Rr t W.r;obtain rfl:y1=Æ (Â ⟨an,0,Á⟩) N N:=by simpa using W.t1
 obtain rfl:y6=Æ (Â ⟨ib,0,Á⟩) m c:=by simpa using W.t6
 obtain rfl:y7=Ê Î m:=by simpa using W.C
 obtain rfl:y8=Ê Î kk:=by simpa using W.I
 have rL:∀y:â,(y=⟨n,2,Á⟩\/y=⟨an,j,Á⟩)->l.r y:=λy ha=>by rcases ha with rfl|rfl;exact o1;exact o2
 have auL:(kk:Int)<(m:Int):=Z
 simp only[zn];conv in KN=>whnf
 refine fP (n:=30) D.r ?_;have hF:True:=trivial;repeat w_go fu
 refine Ë λ_ _=> ?_;have B:∀g,gY l ⟨ib,g,Á⟩:=λg=>Ã zo;refine nF (v:=Đ #[À O,Ê Î j,À<|Â ⟨i,0,Á⟩,À<|Â ⟨n,0,Á⟩]) U U (by k_ne) D.r V (λo r=> ?_) (λo r e F=> ?_) ?_
 .have J:=((B<|kk*4).r r).trans i0;have K:=((B<|kk*4+1).r r).trans i1;have L:=((B<|kk*4+2).r r).trans i2;have P:=((B<|kk*4+3).r r).trans i3;go_simp
 .have J:=((B<|kk*4).r r).trans i0;have K:=((B<|kk*4+1).r r).trans i1;have L:=((B<|kk*4+2).r r).trans i2;have P:=((B<|kk*4+3).r r).trans i3;simp[go_sem,J,K,L,P]at F;rcases F with rfl|rfl|rfl|rfl
  .exact(B _).rd
  .exact(B _).rd
  .exact(B _).rd
  .exact(B _).rd
 walk_nrm;refine GR (ob:=É #[À Á,Ê Î 0,À Á,À Á] 155) U U (by k_ne) D.r V (λw=>by go_simp) (λw=>by simp[go_sem]) λo kh=> ?_;walk_nrm;have uE:iE (λa=>a=⟨n,2,Á⟩\/a=⟨an,j,Á⟩) l (gG l o<|É #[À Á,Ê Î 0,À Á,À Á] 155):=KL D rL kh;have nG:(gG l o<|É #[À Á,Ê Î 0,À Á,À Á] 155).w.heap[o.heap.size]?=Â (É #[À Á,Ê Î 0,À Á,À Á] 155):=mV;have s5:l.w.heap.size<=o.heap.size:=kh.r;have I:(gG l o<|É #[À Á,Ê Î 0,À Á,À Á] 155).O o.heap.size:=Ç U;generalize gG l o (É #[À Á,Ê Î 0,À Á,À Á] 155)=l₁ at uE nG I|-;generalize o.heap.size=tb at nG I s5|-;refine vx U U (by k_ne) λs ow=> ?_;have S:s.heap[tb]?=_:=(ow.I tb<|Ã I).trans nG;have J:s.cell? ⟨tb,0,Á⟩=Â (À Á):=by simp[Ö,S]
 have K:s.cell? ⟨tb,1,Á⟩=Â (Ê Î 0):=by simp[Ö,S]
 have L:s.cell? ⟨tb,2,Á⟩=Â (À Á):=by simp[Ö,S]
 have P:s.cell? ⟨tb,3,Á⟩=Â (À Á):=by simp[Ö,S]
 have hz:∀g,s.frozen? ⟨tb,g,Á⟩=Ì:=λg=>by simp[î,S]
 go_simp;refine⟨{l₁ with w:=iU s tb (À O) (Ê Î j) (À<|Â ⟨i,0,Á⟩) (À<|Â ⟨n,0,Á⟩)},KM (p:=tb) (lH uE.fw ow) (by rwa[uE.q]) I xn (λg H=>zm H) ⟨U,U,U⟩ λe F=> ?_,?_⟩
 .have h:=đ F;have e:∀g,qd l₁ ⟨tb,g,Á⟩:=λg=>Ã I;simp[go_sem,á _ _ _ _ _ _ (show Ø (À O)=Ò from rfl),á _ _ _ _ _ _ (show Ø (À<|Â ⟨i,0,Á⟩)=Ò from rfl),á _ _ _ _ _ _ (show Ø (À<|Â ⟨n,0,Á⟩)=Ò from rfl),J,K,L,P,hz]at h;rcases h with rfl|rfl|rfl|rfl
  .exact(e _).r
  .exact(e _).r
  .exact(e _).r
  .exact(e _).r
 let⟨c0,c1,c2,c3⟩:=Rp (v0:=À O) (v1:=Ê Î j) (v2:=À<|Â ⟨i,0,Á⟩) (v3:=À<|Â ⟨n,0,Á⟩) J K L P;have C:=Rq (w':=iU s tb (À O) (Ê Î j) (À<|Â ⟨i,0,Á⟩)<|À<|Â ⟨n,0,Á⟩) D rL uE ow s5 xn λg H=>zm H;have vE:({l₁ with w:=iU s tb (À O) (Ê Î j) (À<|Â ⟨i,0,Á⟩) (À<|Â ⟨n,0,Á⟩)}:e9).O tb:=I;replace c0:({l₁ with w:=iU s tb (À O) (Ê Î j) (À<|Â ⟨i,0,Á⟩) (À<|Â ⟨n,0,Á⟩)}:e9).w.cell? ⟨tb,0,Á⟩=_:=c0;replace c1:({l₁ with w:=iU s tb (À O) (Ê Î j) (À<|Â ⟨i,0,Á⟩) (À<|Â ⟨n,0,Á⟩)}:e9).w.cell? ⟨tb,1,Á⟩=_:=c1;replace c2:({l₁ with w:=iU s tb (À O) (Ê Î j) (À<|Â ⟨i,0,Á⟩) (À<|Â ⟨n,0,Á⟩)}:e9).w.cell? ⟨tb,2,Á⟩=_:=c2;replace c3:({l₁ with w:=iU s tb (À O) (Ê Î j) (À<|Â ⟨i,0,Á⟩) (À<|Â ⟨n,0,Á⟩)}:e9).w.cell? ⟨tb,3,Á⟩=_:=c3;generalize({l₁ with w:=iU s tb (À O) (Ê Î j) (À<|Â ⟨i,0,Á⟩) (À<|Â ⟨n,0,Á⟩)}:e9)=l₂ at c0 c1 c2 c3 C vE|-;clear nG I uE S J K L P hz ow s l₁ kh o;have rM:=C.G D;have qe:¬l₂.q:=by rwa[C.q]
 have ai3:l₂.N ⟨i,2,Á⟩:=by rwa[C.c]
 have nE:¬((⟨i,2,Á⟩:â)=⟨n,2,Á⟩\/(⟨i,2,Á⟩:â)=⟨an,j,Á⟩):=λq=>by
  rcases q with q|q
  .exact D.Y _ o1<|q▸uA
  .exact D.Y _ o2<|q▸uA
 have ai4:l₂.w.cell? ⟨i,2,Á⟩=Â v:=(C.e _ (Ç uA) nE).trans pW;have Rt:∀y:â,(y=⟨n,2,Á⟩\/y=⟨an,j,Á⟩)->l₂.r y:=λy hy=>by rw[C.I];exact rL y hy
 refine fP (n:=5) rM.r ?_;iterate 2 w_go fu
 refine Ë λ_ _=> ?_;refine KE (II zj #[y0,Æ (Â ⟨an,0,Á⟩) N N,Y,y3,y4,À<|Â ⟨tb,0,Á⟩,Æ (Â ⟨ib,0,Á⟩) m c,Ê Î m,Ê Î kk,ŝ Ò,À<|Â ⟨ib,kk*4,Á⟩,Đ #[À O,Ê Î j,À<|Â ⟨i,0,Á⟩,À<|Â ⟨n,0,Á⟩],xq,rK,sW,qN,vC,vD,uB,uC,uD,sX,sY,sZ,rE,sS,rF,pz,ov,p7,p8,p9,uh,sT,sU,rG,rH] (mU tb i n an N j (À O) v)<|D6 l₂ i n an j v Q) rM.r qe (λh H=> ?_) (λmd listed a l e z hI F=>aiX rM qe U U U vE c0 c1 c2 c3 ai3 ai4 (Rt _<|Ã U) (Rt _<|Ç U) (C.g _ (Ã U) e1) (C.g _ (Ç U) e2) ((C.S _<|Ã o1).trans z1) ((C.S _<|Ã o2).trans z2) rA hN lr (λu h=>tX u<|C.fe h) md listed a l e z hI F) λmd listed a z hI jH zq=> ?_
 .refine⟨((Á,0,0),ByteArray.empty),lI.G _ _ _,(iE.fV rM.r).N Rt ⟨H.r,H.I,H.N,H.Y,H.S⟩,λq=> ?_,λq=> ?_,λq=> ?_⟩<;>exact absurd q A
 let⟨x,H,T⟩:=hI;have nH:∀e∈ã 21,listed.getD e Ì=Ò:=by
  cases md
  .exact pC zq jH (ã 21) [] fN λe F=>by cases F
  .exact λe F=>pC zq jH [0,1,5,6,7,8,9,10,11,12,13,14,16,17,18,2,3,4,15,19,20] [] fN (λe F=>by cases F) e (by have:=Ē.1 F;revert e;decide)
  .exact pC zq jH (ã 21) [] fN λe F=>by cases F
 have GU:=C.fe T.r;have GV:=GU.G D;have xr:¬z.q:=by rwa[GU.q]
 let⟨F,ds⟩:=a;obtain rfl:ds=[]:=H.M;have b1:F[1]?=Â (Æ (Â ⟨an,0,Á⟩) N N):=H.C (d:=1) A;have b5:F[5]?=Â (À<|Â ⟨tb,0,Á⟩):=H.C (d:=5) A;have b6:F[6]?=Â (Æ (Â ⟨ib,0,Á⟩) m c):=H.C (d:=6) A;have b7:F[7]?=Â (Ê Î m):=H.C (d:=7) A;have b8:F[8]?=Â (Ê Î kk):=H.C (d:=8) A;obtain⟨x0,x1,x2,x3,x4,x5,x6,x7,x8,x9,Y5,x11,x12,x13,x14,x15,x16,x17,x18,x19,x20,x21,x22,x23,x24,x25,x26,x27,x28,x29,x30,x31,x32,x33,x34,x35,x36,rfl⟩:=Rr F H.S;obtain rfl:x1=Æ (Â ⟨an,0,Á⟩) N N:=by simpa using b1
 obtain rfl:x5=À (Â ⟨tb,0,Á⟩):=by simpa using b5
 obtain rfl:x6=Æ (Â ⟨ib,0,Á⟩) m c:=by simpa using b6
 obtain rfl:x7=Ê Î m:=by simpa using b7
 obtain rfl:x8=Ê Î kk:=by simpa using b8
 have ai5:=T.vB<|nH 12 A;have ai6:=T.I<|nH 18 A;have ai7:=T.N<|nH 20 A;have d3:z.w.cell? ⟨tb,3,Á⟩=Â (À<|Â ⟨n,0,Á⟩):=(gM<|T.r.r tb<|Ã vE).trans c3;have s3:gY z ⟨tb,3,Á⟩:=Ã<|Ã<|T.r.O tb vE;clear H nH b1 b5 b6 b7 b8;refine fP (n:=9) GV.r ?_;iterate 3 w_go fu
 refine Ë λ_ _=> ?_;refine pB (x:=⟨tb,3,Á⟩) U U (by k_ne) GV.r xr s3 d3 (λw h=>by go_simp) (λw h=>by simp[go_sem,h]) ?_;walk_nrm;refine fP (n:=9) GV.r ?_;iterate 2 w_go fu
 u_call qM.f_done (nm_done Lk) doneFn fu hF
 refine Ë λ_ _=> ?_;have xt:∀o,fE z z.w o->mf (λ_=>True) {z with w:=o} n/\SW (λ_=>True) {z with w:=o} n o/\Φ {z with w:=o}/\(τ {z with w:=o}).d=0/\∃E:ß->Prop,mf E (τ {z with w:=o}) n/\SW E (τ {z with w:=o}) n (τ {z with w:=o}).w/\∀s X,SW E (τ {z with w:=o}) n s->Bs an N (Â ⟨ib,0,Á⟩) m c (kk+1) X->fh Ä Ì f {τ {z with w:=o}with d:=0,w:=s} (zn X qX):=λo r=>by
  refine AG {z with w:=o} x (GU.N rL r) ?_ ?_ ?_
  .let⟨y,y1,Y⟩:=ai5;exact⟨y,y1,λb h=>⟨(Y b h).1,(r.I b (Y b h).1).trans (Y b h).2⟩⟩
  .exact(r.N _<|Ã<|by rwa[GU.I]).trans ai6
  .exact(r.N _<|Ã<|by rwa[GU.I]).trans ai7
 let⟨k1,k2,_⟩:=xt z.w<|fE.fV _ _;refine ai1 qM τ Φ k1 k2 λo r=> ?_;let⟨_,_,f1,f4,E,f2,f3,f5⟩:=xt o r;refine⟨f1,f4,E,f2,f3,λs h=> ?_⟩;walk_nrm;refine fP (n:=30) h.1 ?_;iterate 7 w_go fu
 refine Ë λ_ _=> ?_;refine f5 s _ h ⟨U,U,U,U,?_⟩;simp;exact Bt Z Z
end
def ai8:Array å:=#[⟨Â 2,ć 85<|Ù 0,85, "work.go:24",#[],Á⟩,
 ⟨Â 3,ć 25<|Ù 1,25, "work.go:24",#[],Á⟩,
 ⟨Â 4,Ě {callee:=ĕ (ĸ 49),args:=#[Ù 2,Ù 3],argTypes:=#[85,25]},0, "work.go:24",#[⟨0,Ü⟩,⟨1,Ü⟩],Á⟩]
def zr(a:Nat)(b c d e:Ï):é:=(baseD 63).at ⟨#[À<|Â ⟨a,0,Á⟩,b,c,d,e],[pA 64 #[À<|Â ⟨a,0,Á⟩] #[]]⟩ [Ñ Y1 [1]]
def vF(a b c d e:Ï):é:=(base 48).at ⟨#[a,b,c,d,e],[]⟩ [Ñ ai8 [2]]
section
variable{Ψ:ß->Prop}{J:Jd}{l:e9}{a e f o p:Ï}
def ai9(c:jW l)(g:¬l.q)(k:gY l ⟨j9,0,Á⟩)(r:gY l ⟨j7,0,Á⟩)(s:gY l ⟨b,0,Á⟩)(t:l.w.cell? ⟨j9,0,Á⟩=Â (Ĉ (ù 48) #[] #[À<|Â ⟨j7,0,Á⟩,À<|Â ⟨b,0,Á⟩]))(u:l.w.cell? ⟨j7,0,Á⟩=Â (Æ O m n))(y:l.w.cell? ⟨b,0,Á⟩=Â (Æ (Â ⟨j,0,Á⟩) i i)) (B:∀d a e f o v x z jQ p,Bs j i O m n 0 d->fh Ä Ì J l (zn d [vF v x z jQ p,zr j6 a e f o,nZ Ä])): fh Ä Ì J l (born Ä<|pA 63 #[À<|Â ⟨j6,0,Á⟩,À<|Â ⟨j9,0,Á⟩] #[]):=by
 apply fP (n:=30) c;have hF:=trivial;u_c (YR Ů fN U) fu hF;walk_nrmf Κ;iterate 3 w_go fu
 u_c (YP U U (by k_ne) U U) fu hF
 walk_nrm;repeat w_go fu
 refine Ë λ_ _=> ?_;apply pB U U (by k_ne) c g k t (λw h=>by go_simp) (λw h=>by simp[go_sem,h]);walk_nrm;apply fP (n:=30) c;u_c (YQ U U (by k_ne) U U ů fN U) fu hF;walk_nrmf Tryz.f48;w_go fu;refine Ë λ_ _=> ?_;apply pB U U (by k_ne) c g r u (λw h=>by go_simp) (λw h=>by simp[go_sem,h]);walk_nrm;apply pB U U (by k_ne) c g s y (λw h=>by go_simp) (λw h=>by simp[go_sem,h]);walk_nrm;apply fP (n:=30) c;u_call Ű fN Ι fu hF;iterate 8 w_go fu
 refine Ë λ_ _=> ?_;exact B _ _ _ _ _ _ _ _ _ _ ⟨U,U,U,U,U⟩
def aja(b:Bs j i O m n m d)(h:l.K ⟨k,0,Á⟩/\l.K ⟨k,1,Á⟩)(r:mf Ψ l k)(c:SW Ψ l k l.w)(s:l.d=0)(t:¬l.q)(u:gY l ⟨j6,0,Á⟩)(y:l.w.cell? ⟨j6,0,Á⟩=Â (À<|Â ⟨k,0,Á⟩)): fh Ä Ì (λl g=>yL Ä Ì k (DU Ä) (kC l) g) l (zn d [vF v x z jQ p,zr j6 a e f o,nZ Ä]):=by
 obtain⟨C,D,E,F,G,H,I,g,B,J,L,M,N,P,Q,S,T,V,W,X,Y,sX,sY,sZ,rE,sS,rF,pz,ov,p7,p8,p9,uh,sT,sU,rG,rH,rfl⟩:=Rr d b.r;obtain rfl:g=Ê Î m:=by simpa using b.C
 obtain rfl:B=Ê Î m:=by simpa using b.I
 have hmm:¬(m:Int)<(m:Int):=Z
 simp only[zn];conv in KN=>whnf
 apply fP (n:=40) c.1;have hF:=trivial;iterate 8 w_go fu
 u_leave0 Ű fu hF
 iterate 2 w_go fu
 u_leave0 ů fu hF
 refine Ë λ_ _=> ?_;exact Y2 h r c s t u y
end
def GX:å:=⟨Â 14,ę<|Ù 1,25, "work.go:65",#[],Á⟩
def GY:å:=⟨Â 15,ð 155 (Ù 4) 1,0, "work.go:65",#[],Á⟩
def D7:å:=⟨Â 16,ć 3<|Ù 15,3, "work.go:65",#[⟨1,Ü⟩],Á⟩
def GZ:å:=⟨Â 17,ð 155 (Ù 4) 2,0, "work.go:65",#[],Á⟩
def D8:å:=⟨Â 18,ć 86<|Ù 17,86, "work.go:65",#[⟨3,Ü⟩],Á⟩
def D9:å:=⟨Â 19,ĩ<|Ù 18,0, "work.go:65",#[⟨4,Ü⟩],Á⟩
def Ea:å:=⟨Â 20,ð 105 (Ù 19) 1,0, "work.go:65",#[⟨5,Ü⟩],Á⟩
def Eb:å:=⟨Â 21,ć 65<|Ù 20,65, "work.go:65",#[⟨6,Ü⟩],Á⟩
def G0:å:=⟨Â 22,ð 155 (Ù 4) 0,0, "work.go:65",#[],Á⟩
def Ec:å:=⟨Â 23,ć 148<|Ù 22,148, "work.go:65",#[⟨8,Ü⟩],Á⟩
def Bu:å:=⟨Â 24,Ě {callee:=ĕ<|ĸ 67,args:=#[Ù 21,Ù 23],argTypes:=#[65,148]},9, "work.go:65",#[⟨7,Ü⟩,⟨9,Ü⟩],Á⟩
def Bv:å:=⟨Â 25,ő 25 (Ù 14)<|Ù 16,0, "work.go:65",#[⟨0,Ü⟩,⟨2,Ü⟩,⟨0,Í⟩,⟨1,Í⟩,⟨2,Í⟩,⟨3,Í⟩,⟨4,Í⟩,⟨5,Í⟩,⟨6,Í⟩,⟨7,Í⟩,⟨8,Í⟩,⟨9,Í⟩,⟨10,Í⟩],Á⟩
def Bw:å:=⟨Á,š 9 (Ù 25)<|Ù 24,0, "work.go:65",#[⟨11,Ü⟩,⟨10,Ü⟩,⟨10,Ţ⟩,⟨0,Í⟩,⟨1,Í⟩,⟨2,Í⟩,⟨3,Í⟩,⟨4,Í⟩,⟨5,Í⟩,⟨6,Í⟩,⟨7,Í⟩,⟨8,Í⟩,⟨9,Í⟩,⟨10,Í⟩],Á⟩
def vG:Array å:=#[GX,GY,D7,GZ,D8,D9,Ea,Eb,G0,Ec,Bu,Bv,Bw]
def qO(tb a b N c:Nat)(d e:Ï)(x:ByteArray):Nat->Ï
 |0=>Æ (Â ⟨b,0,Á⟩) N N
 |1=>À<|Â ⟨tb,1,Á⟩
 |2=>Ê Î c
 |3=>À<|Â ⟨tb,2,Á⟩
 |4=>À<|Â ⟨a,0,Á⟩
 |5=>À<|Â ⟨a,0,Á⟩
 |6=>À<|Â ⟨a,2,Á⟩
 |7=>e
 |8=>À<|Â ⟨tb,0,Á⟩
 |9=>d
 |10=>à x
 |11=>À<|Â ⟨b,c,Á⟩
 |_=>Å
structure Ed(im:e9)(an pl:Nat)(Q:ByteArray->Prop)(listed:Array Bool)(x:ByteArray)(l:e9):Prop where
 r:iE (λa=>a=⟨an,pl,Á⟩) im l
 vB:listed.getD 10 Ì=Ò->Q x
 I:listed.getD 12 Ì=Ò->l.w.cell? ⟨an,pl,Á⟩=Â (à x)
def Ed.C{b l:e9}{Q:ByteArray->Prop}{listed:Array Bool}{x:ByteArray}(h:Ed b n j Q listed x l)(e:i≠10)(f:i≠12)(c:b.r ⟨n,j,Á⟩)(d:ß)(r:fE l l.w d):Ed b n j Q (listed.setIfInBounds i Ò) x {l with w:=d}:=by
 refine⟨h.r.N (λa q=>by rwa[q]) r,λq=> ?_,λq=> ?_⟩
 .rw[ç Ì e]at q;exact h.vB q
 .rw[ç Ì f]at q;exact(r.N _<|by rw[h.r.C];exact Ã c).trans<|h.I q
section
variable{J:Jd}{im:e9}{an pl:Nat}{Q:ByteArray->Prop}
def ajb(W:gw im)(hq:¬im.q)(ht:d.size=26)(uz:d[1]?=Â (Æ (Â ⟨an,0,Á⟩) i i))(G1:d[4]?=Â (À<|Â ⟨j,0,Á⟩))(hO:im.O j) (J:im.w.cell? ⟨j,0,Á⟩=Â v) (K:im.w.cell? ⟨j,1,Á⟩=Â (Ê Î pl)) (M:im.w.cell? ⟨j,2,Á⟩=Â (À<|Â ⟨n,0,Á⟩)) (X:im.N ⟨n,2,Á⟩) (pW:im.w.cell? ⟨n,2,Á⟩=Â z) (B:im.r ⟨an,pl,Á⟩) (e2:(im.w.cell? ⟨an,pl,Á⟩).isSome=Ò) (z2:im.w.frozen? ⟨an,pl,Á⟩=Ì) (rA:pl<i) (Ru:∀l,iE (λa=>a=⟨an,pl,Á⟩) im l->∀t lT,fh Ä Ì (λP S=>P.d=l.d/\∃T,S=G (t.finish<|à T) lT/\Q T) (mg l)<|G (Ă Ä 67 #[z,v] Ğ)<|t::lT) (md:ý) (listed:Array Bool) (a:ŏ) (l:e9) (b:Nat) (rest:List Nat) (hI:II vG d (qO j n an i pl v z) (Ed im an pl Q) listed a l) (p:b∈Û md vG listed): fh Ä Ì (λP S=>∃I,S=G ((base 51).at I<|Ñ vG rest::L) qX/\II vG d (qO j n an i pl v z) (Ed im an pl Q) (listed.setIfInBounds b Ò) I P) l (G ((base 51).at a<|Ñ vG (b::rest)::L) qX):=by
 let⟨x,m,s⟩:=hI;have E:qK vG d.size=Ò:=by rw[ht];decide
 have Y6:=Rf p;have gS:=zi p;have F:=s.r.fw;have H:¬l.q:=by rwa[s.r.q]
 have V:∀y:â,y=⟨an,pl,Á⟩->im.r y:=λy ha=>by rwa[ha]
 have nG:a.tmps[1]?=Â (Æ (Â ⟨an,0,Á⟩) i i):=(m.C A).trans uz;have Y:a.tmps[4]?=Â (À<|Â ⟨j,0,Á⟩):=(m.C A).trans G1;have t:∀c g,im.w.cell? ⟨j,c,Á⟩=Â g->gY l ⟨j,c,Á⟩/\l.w.cell? ⟨j,c,Á⟩=Â g:=λc g h=>⟨Ã<|Ã<|s.r.O j hO,by rwa[gM<|s.r.r j<|Ã hO]⟩;have Rk:¬((⟨n,2,Á⟩:â)=⟨an,pl,Á⟩):=λq=>W.Y _ B<|q▸X;have N:gY l ⟨n,2,Á⟩/\l.w.cell? ⟨n,2,Á⟩=Â z:=⟨Ç (Ç<|by rwa[s.r.c]),by rwa[s.r.e _ (Ç X) Rk]⟩;have Rl:(pl:Int)<(i:Int):=Z
 have jH:vG.size=13:=A
 rw[jH]at gS;match b,gS with
 |0,_=>
  refine il (o:=GX) E m U U p (by k_ne) F H (λk r=> ?_) (λk r e u=> ?_)<|s.C A A B
  .simp only[qO,GX];go_simp
  .simp[go_sem,GX,nG]at u
 |1,_=>
  refine il (o:=GY) E m U U p (by k_ne) F H (λk r=> ?_) (λk r e u=> ?_)<|s.C A A B
  .simp only[qO,GY];go_simp
  .simp[go_sem,GY,Y]at u
 |2,_=>
  have Rn:a.tmps[15]?=Â (À<|Â ⟨j,1,Á⟩):=m.r 1 GY 15 U (ie (o:=D7) p U U) U;refine il (o:=D7) E m U U p (by k_ne) F H (λk r=> ?_) (λk r e u=> ?_)<|s.C A A B
  .have D:k.cell? ⟨j,1,Á⟩=Â (Ê Î pl):=((t 1 _ K).1.r r).trans (t 1 _ K).2;simp only[qO,D7];go_simp
  .have D:k.cell? ⟨j,1,Á⟩=Â (Ê Î pl):=((t 1 _ K).1.r r).trans (t 1 _ K).2;have I:e=⟨û ⟨j,1,Á⟩,Ì,Ì⟩:=by simp[go_sem,D7,D,Rn]at u;exact u
   subst I;exact(t 1 _ K).1.rd
 |3,_=>
  refine il (o:=GZ) E m U U p (by k_ne) F H (λk r=> ?_) (λk r e u=> ?_)<|s.C A A B
  .simp only[qO,GZ];go_simp
  .simp[go_sem,GZ,Y]at u
 |4,_=>
  have Ro:a.tmps[17]?=Â (À<|Â ⟨j,2,Á⟩):=m.r 3 GZ 17 U (ie (o:=D8) p U U) U;refine il (o:=D8) E m U U p (by k_ne) F H (λk r=> ?_) (λk r e u=> ?_)<|s.C A A B
  .have D:k.cell? ⟨j,2,Á⟩=Â (À<|Â ⟨n,0,Á⟩):=((t 2 _ M).1.r r).trans (t 2 _ M).2;simp only[qO,D8];go_simp
  .have D:k.cell? ⟨j,2,Á⟩=Â (À<|Â ⟨n,0,Á⟩):=((t 2 _ M).1.r r).trans (t 2 _ M).2;have I:e=⟨û ⟨j,2,Á⟩,Ì,Ì⟩:=by simp[go_sem,D8,D,Ro]at u;exact u
   subst I;exact(t 2 _ M).1.rd
 |5,_=>
  have Rv:a.tmps[18]?=Â (À<|Â ⟨n,0,Á⟩):=m.r 4 D8 18 U (ie (o:=D9) p U U) U;refine il (o:=D9) E m U U p (by k_ne) F H (λk r=> ?_) (λk r e u=> ?_)<|s.C A A B
  .simp only[qO,D9];go_simp
  .simp[go_sem,D9,Rv]at u
 |6,_=>
  have h19:a.tmps[19]?=Â (À<|Â ⟨n,0,Á⟩):=m.r 5 D9 19 U (ie (o:=Ea) p U U) U;refine il (o:=Ea) E m U U p (by k_ne) F H (λk r=> ?_) (λk r e u=> ?_)<|s.C A A B
  .simp only[qO,Ea];go_simp
  .simp[go_sem,Ea,h19]at u
 |7,_=>
  have KO:a.tmps[20]?=Â (À<|Â ⟨n,2,Á⟩):=m.r 6 Ea 20 U (ie (o:=Eb) p U U) U;refine il (o:=Eb) E m U U p (by k_ne) F H (λk r=> ?_) (λk r e u=> ?_)<|s.C A A B
  .have D:k.cell? ⟨n,2,Á⟩=Â (z):=(N.1.r r).trans N.2;simp only[qO,Eb];go_simp
  .have D:k.cell? ⟨n,2,Á⟩=Â (z):=(N.1.r r).trans N.2;have I:e=⟨û ⟨n,2,Á⟩,Ì,Ì⟩:=by simp[go_sem,Eb,D,KO]at u;exact u
   subst I;exact N.1.rd
 |8,_=>
  refine il (o:=G0) E m U U p (by k_ne) F H (λk r=> ?_) (λk r e u=> ?_)<|s.C A A B
  .simp only[qO,G0];go_simp
  .simp[go_sem,G0,Y]at u
 |9,_=>
  have GQ:a.tmps[22]?=Â (À<|Â ⟨j,0,Á⟩):=m.r 8 G0 22 U (ie (o:=Ec) p U U) U;refine il (o:=Ec) E m U U p (by k_ne) F H (λk r=> ?_) (λk r e u=> ?_)<|s.C A A B
  .have D:k.cell? ⟨j,0,Á⟩=Â (v):=((t 0 _ J).1.r r).trans (t 0 _ J).2;simp only[qO,Ec];go_simp
  .have D:k.cell? ⟨j,0,Á⟩=Â (v):=((t 0 _ J).1.r r).trans (t 0 _ J).2;have I:e=⟨û ⟨j,0,Á⟩,Ì,Ì⟩:=by simp[go_sem,Ec,D,GQ]at u;exact u
   subst I;exact(t 0 _ J).1.rd
 |10,_=>
  have Rw:a.tmps[21]?=Â (z):=m.r 7 Eb 21 U (ie (o:=Bu) p U U) U;have h23:a.tmps[23]?=Â (v):=m.r 9 Ec 23 U (ie (o:=Bu) p U U) U;refine Y0 (o:=Bu) E m U U p (by k_ne) F (f:=67) (args:=#[z,v]) (λw=>by simp only[Bu];go_simp) (λw=>ł (o:=Bu) U Tryz.func67 U U #[]) λk r=> ?_;have I:=s.r.N V r;refine((Ru _ I _ _).mg<|I.G W).fO ?_;rintro P S ⟨y,⟨hy0,T,rfl,hQ⟩,rfl,hA,Y3,aiY,aiZ⟩;refine⟨T,U,⟨I.Rh V hA hy0,λ_=>hQ,λq=> ?_⟩,λc hj=> ?_⟩
  .rw[ç Ì A]at q;exact absurd (m.I (o:=Bw) U q U)<|xm Y6
  .match c,hj with
   |10,hj=>exact absurd hj<|xm Y6
   |0,_|1,_|2,_|3,_|4,_|5,_|6,_|7,_|8,_|9,_|11,_|12,_|n+13,_=>rfl
 |11,_=>
  have I:a.tmps[14]?=Â (Æ (Â ⟨an,0,Á⟩) i i):=m.r 0 GX 14 U (ie (o:=Bv) p U U) U;have h16:a.tmps[16]?=Â (Ê Î pl):=m.r 2 D7 16 U (ie (o:=Bv) p U U) U;refine il (o:=Bv) E m U U p (by k_ne) F H (λk r=> ?_) (λk r e u=> ?_)<|s.C A A B
  .simp only[qO,Bv];go_simp
  .simp[go_sem,Bv,rA,Rl,I,h16]at u
 |12,_=>
  have h25:a.tmps[25]?=Â (À<|Â ⟨an,pl,Á⟩):=m.r 11 Bv 25 U (ie (o:=Bw) p U U) U;have KI:a.tmps[24]?=Â (à x):=m.r 10 Bu 24 U (ie (o:=Bw) p U U) U;have I:(l.w.cell? ⟨an,pl,Á⟩).isSome=Ò:=s.r.g _ U e2;have Br:l.w.frozen? ⟨an,pl,Á⟩=Ì:=(s.r.S _<|Ã B).trans z2;have lJ:qd l ⟨an,pl,Á⟩:=Ç (by rwa[s.r.I]);refine Ri (o:=Bw) (y:=⟨an,pl,Á⟩) (v:=à x) E m U U U p (by k_ne) F H U lJ I Br (λw D e=> ?_) (λw D e=> ?_) λk r=> ?_
  .let⟨u,hu⟩:=Ô.1 D;simp only[Bw];go_simp
  .let⟨u,hu⟩:=Ô.1 D;simp[go_sem,Bw,h25,KI,á _ _ _ _ _ _ (show Ø (à x)=Ò from rfl),hu,e]
  .have hA:=s.r.qz W V (x:=⟨an,pl,Á⟩) (v:=à x) U U I;refine⟨hA.N V ⟨r.r,r.I,r.N,r.Y,r.S⟩,λq=> ?_,λq=> ?_⟩
   .rw[ç Ì A]at q;exact s.vB q
   .exact(r.N _<|by rw[s.r.C];exact Ã B).trans<|AL (Ô.1 I).choose_spec
 |n+13,h=>exact absurd h Z
end
def zt:Array å:=#[⟨Â 6,.recv 165 (Ù 5) Ò,0, "work.go:63",#[],Á⟩,⟨Â 7,Ő (Ù 6) 1,4, "work.go:63",#[⟨0,Ü⟩],Á⟩]
def Y7:Array å:=#[⟨Â 8,Ő (Ù 6) 0,155, "work.go:63",#[],Á⟩,⟨Â 4,.alloc 155,0, "work.go:63",#[],Á⟩,⟨Á,š 155 (Ù 4)<|Ù 8,0, "work.go:63",#[⟨1,Ü⟩,⟨0,Ü⟩,⟨0,Í⟩,⟨1,Í⟩],Á⟩]
def Rx:Array å:=#[⟨Â 9,ð 155 (Ù 4) 2,0, "work.go:64",#[],Á⟩,⟨Â 10,ć 86<|Ù 9,86, "work.go:64",#[⟨0,Ü⟩],Á⟩,⟨Â 11,ĩ<|Ù 10,0, "work.go:64",#[⟨1,Ü⟩],Á⟩,⟨Â 12,ð 105 (Ù 11) 0,0, "work.go:64",#[⟨2,Ü⟩],Á⟩,⟨Â 13,Ě {callee:=ĕ<|ĸ 53,args:=#[Ù 12],argTypes:=#[97]},0, "work.go:64",#[⟨3,Ü⟩],Á⟩]
def Ee:Ę:=((Ť (Ù 7) ť<|Ŧ 0).seq<|İ 1<|(ä 2 Y7 Ì).seq<|(ä 3 Rx Ì).seq<|ä 4 vG Ò)
def Bx:Ę:=(ä 1 zt Ì).seq Ee
def ajc:Array å:=#[⟨Â 2,ć 101<|Ù 0,101, "work.go:30",#[],Á⟩,
 ⟨Â 3,ć 25<|Ù 1,25, "work.go:30",#[],Á⟩,
 ⟨Â 4,Ě {callee:=ĕ (ĸ 51),args:=#[Ù 2,Ù 3],argTypes:=#[165,25]},0, "work.go:30",#[⟨0,Ü⟩,⟨1,Ü⟩],Á⟩]
def G2(a b c d e:Ï):é:=(base 50).at ⟨#[a,b,c,d,e],[]⟩ [Ñ ajc [2]]
def Y8(t:Array Ï)(a:List é):Ý:=G ((base 51).at ⟨t,[]⟩ [ö Bx,ą Bx,ô 0]) a
def zu(t:Array Ï)(a:List é):Ý:=G ((base 51).at ⟨t,[]⟩ [Ñ zt [0,1],ö Ee,ą Bx,ô 0]) a
def KP(t:Array Ï)(a:List é):Ý:=G ((base 51).at ⟨t,[]⟩ [Ñ Rx [],ö<|ä 4 vG Ò,ô 1,ą Bx,ô 0]) a
def Ry(t:Array Ï)(a:List é):Ý:=G ((base 51).at ⟨t,[]⟩ [Ñ zt [1],ö Ee,ą Bx,ô 0]) a
def Y9(t:Array Ï)(v:Ï)(a:List é):({zu t a with frame:=(zu t a).frame.finish v}:Ý)=Ry (t.setIfInBounds 6 v) a:=by have:(zu t a).frame.finish v=(base 51).at (Ο ⟨t,[]⟩ (Â 6) v) [Ñ zt [1],ö Ee,ą Bx,ô 0]:=Ģ _ _ _ _ _ _ _;rw[this];rfl
def zT:Ï:=Đ #[À Á,Ê Î 0,À Á,À Á]
structure QT(an N ch:Nat)(t:Array Ï):Prop where
 r:t.size=26
 C:t[1]?=Â (Æ (Â ⟨an,0,Á⟩) N N)
 I:t[5]?=Â (è<|Â ch)
def ajd(t:Array Ï)(h:t.size=26):∃a b c d e f g i j k l m n o p q r s u v w x y z B C:Ï,t=#[a,b,c,d,e,f,g,i,j,k,l,m,n,o,p,q,r,s,u,v,w,x,y,z,B,C]:=by obtain⟨_,rfl⟩:=xo t h;exact⟨_,_,_,_,_,_,_,_,_,_,_,_,_,_,_,_,_,_,_,_,_,_,_,_,_,_,U⟩
section
variable{Ψ:ß->Prop}{J u:Jd}{l:e9}{t:Array Ï}{ch an N:Nat}{a:Option â}{Q:ByteArray->Prop}{o p r s c f:Ï}{τ:e9->e9}
def Za(a:jW l)(b:fh Ä Ì J l (zu t qX)):fh Ä Ì J l (Y8 t qX):=by apply fP (n:=5) a;have hF:=trivial;simp only[Y8,Bx];w_go fu;u_c ĺ fu hF;exact Ë λ_ _=>b
def aje(a:jW l)(d:¬l.q)(e:gY l ⟨k,0,Á⟩)(g:gY l ⟨b,0,Á⟩)(i:gY l ⟨n,0,Á⟩)(j:l.w.cell? ⟨k,0,Á⟩=Â (Ĉ (ù 50) #[] #[À<|Â ⟨b,0,Á⟩,À<|Â ⟨n,0,Á⟩]))(u:l.w.cell? ⟨b,0,Á⟩=Â (è<|Â ch))(v:l.w.cell? ⟨n,0,Á⟩=Â (Æ (Â ⟨an,0,Á⟩) N N)) (y:∀t o p r s x z jQ c f,QT an N ch t->fh Ä Ì J l (zu t [G2 x z jQ c f,zr m o p r s,nZ Ä])): fh Ä Ì J l (born Ä<|pA 63 #[À<|Â ⟨m,0,Á⟩,À<|Â ⟨k,0,Á⟩] #[]):=by
 apply fP (n:=30) a;have hF:=trivial;u_c (YR Ů fN U) fu hF;walk_nrmf Κ;iterate 3 w_go fu
 u_c (YP U U (by k_ne) U U) fu hF
 walk_nrm;repeat w_go fu
 refine Ë λ_ _=> ?_;apply pB U U (by k_ne) a d e j (λw h=>by go_simp) (λw h=>by simp[go_sem,h]);walk_nrm;apply fP (n:=30) a;u_c (YQ U U (by k_ne) U U ű fN U) fu hF;walk_nrmf Tryz.f50;w_go fu;refine Ë λ_ _=> ?_;apply pB U U (by k_ne) a d g u (λw h=>by go_simp) (λw h=>by simp[go_sem,h]);walk_nrm;apply pB U U (by k_ne) a d i v (λw h=>by go_simp) (λw h=>by simp[go_sem,h]);walk_nrm;apply fP (n:=30) a;u_call Ų fN Tryz.f51 fu hF;iterate 6 w_go fu
 refine Ë λ_ _=> ?_;exact Za a<|y _ _ _ _ _ _ _ _ _ _ ⟨U,U,U⟩
def ajf{Y:Ï}(G:gw l)(M:¬l.q)(P:l.d=0)(hT:QT an N ch t)(hB:60<=i)(ajg:Y=Đ #[À a,Ê Î j7,À<|Â ⟨j9,0,Á⟩,À O])(Q:l.K ⟨j9,0,Á⟩/\l.K ⟨j9,1,Á⟩)(G3:nD j9 l.w) (Rz:l.K ⟨j,0,Á⟩/\l.K ⟨j,1,Á⟩) (hsa:nD j l.w) (hs:gY l ⟨m,0,Á⟩) (hc:l.w.cell? ⟨m,0,Á⟩=Â (À<|Â ⟨j,0,Á⟩)) (ajh:∀H k t',iE ff l H->H.d=0->H.O k->H.w.cell? ⟨k,0,Á⟩=Â (À a)->H.w.cell? ⟨k,1,Á⟩=Â (Ê Î j7)->H.w.cell? ⟨k,2,Á⟩=Â (À<|Â ⟨j9,0,Á⟩)->QT an N ch t'->t'[4]?=Â (À<|Â ⟨k,0,Á⟩)->u H (KP t' [G2 x z jQ c f,zr m o p r s,nZ Ä])): w7 Ä Ì ch zT (λb=>match b with
  |some v=>λl g=>v=Y->qH Ä Ì i j9 u .iY l g
  |none=>λl g=>yL Ä Ì j (DU Ä) (kC l) g) l (zu t [G2 x z jQ c f,zr m o p r s,nZ Ä]):=by
 obtain⟨y0,y1,y2,y3,y4,y5,y6,y7,y8,y9,xp,zp,xq,rK,sW,qN,vC,vD,uB,uC,uD,sX,sY,sZ,rE,sS,rfl⟩:=ajd t hT.r;obtain rfl:y1=Æ (Â ⟨an,0,Á⟩) N N:=by simpa using hT.C
 obtain rfl:y5=è (Â ch):=by simpa using hT.I
 have hF:=trivial;refine⟨U,U,λD=> ?_,λb=> ?_⟩
 .refine(Ż (cases:=#[rcase ch zT]) (blocking:=Ò) (shape:=.recv Ò) (w':=D) rfl rfl (by k_ne) ?_).trans ?_
  .simp[go_sem,zt,ĉ,rcase,zT]
  .simp[listed,go_sem,zt,ĉ,Ī];rfl
 cases b with
 |none=>
  rw[Y9];simp only[Ry,Ee,zt,Option.getD_none,ı,ē,Ĳ,ĳ];apply fP (n:=30) G.r;iterate 6 w_go fu
  u_leave0 Ų fu hF
  iterate 2 w_go fu
  u_leave0 ű fu hF
  refine Ë λ_ _=> ?_;exact Y2 (Ψ:=λ_=>True) Rz ⟨Ã Rz.1,Ã Rz.2,λ_ _ _ _ _ _ _ _=>trivial⟩ ⟨G.r,hsa,trivial⟩ P M hs hc
 |some v=>
  by_cases hv:v=Y
  .subst hv;subst ajg;apply fh.fO λl g h _=>h;rw[Y9];simp only[Ry,Ee,zt,Ń,Option.isSome_some,ē,Ĳ,ĳ];apply fP (n:=30) G.r;iterate 7 w_go fu
   u_c ĺ fu hF
   simp only[Y7,Ļ,ń,ŋ,ś,č,ã,List.range.loop];w_go fu;refine Ë λ_ _=> ?_;have rL:∀y:â,False->l.r y:=λy ha=>ha.elim;refine GR (ob:=É #[À Á,Ê Î 0,À Á,À Á] 155) U U (by k_ne) G.r M (λw=>by go_simp) (λw=>by simp[go_sem]) λD kh=> ?_;walk_nrm;have S:iE ff l (gG l D<|É #[À Á,Ê Î 0,À Á,À Á] 155):=KL G rL kh;have nG:(gG l D<|É #[À Á,Ê Î 0,À Á,À Á] 155).w.heap[D.heap.size]?=Â (É #[À Á,Ê Î 0,À Á,À Á] 155):=mV;have s5:=kh.r;have I:(gG l D<|É #[À Á,Ê Î 0,À Á,À Á] 155).O D.heap.size:=Ç U;generalize gG l D (É #[À Á,Ê Î 0,À Á,À Á] 155)=l₁ at S nG I|-;generalize D.heap.size=k at nG I s5|-;refine vx U U (by k_ne) λC ow=> ?_;have J:=(ow.I k<|Ã I).trans nG;have Ef:C.cell? ⟨k,0,Á⟩=Â (À Á):=by simp[Ö,J]
   have zh:C.cell? ⟨k,1,Á⟩=Â (Ê Î 0):=by simp[Ö,J]
   have qP:C.cell? ⟨k,2,Á⟩=Â (À Á):=by simp[Ö,J]
   have uF:C.cell? ⟨k,3,Á⟩=Â (À Á):=by simp[Ö,J]
   have hz:∀g,C.frozen? ⟨k,g,Á⟩=Ì:=λg=>by simp[î,J]
   go_simp;refine⟨{l₁ with w:=iU C k (À a) (Ê Î j7) (À<|Â ⟨j9,0,Á⟩) (À O)},KM (lH S.fw ow) (by rwa[S.q]) I xn (λg F=>zm F) ⟨U,U,U⟩ λe L=> ?_,?_⟩
   .have E:=đ L;have B:∀g,qd l₁ ⟨k,g,Á⟩:=λg=>Ã I;simp[go_sem,á _ _ _ _ _ _ (show Ø (À a)=Ò from rfl),á _ _ _ _ _ _ (show Ø (À<|Â ⟨j9,0,Á⟩)=Ò from rfl),á _ _ _ _ _ _ (show Ø (À O)=Ò from rfl),Ef,zh,qP,uF,hz]at E;rcases E with rfl|rfl|rfl|rfl
    .exact(B _).r
    .exact(B _).r
    .exact(B _).r
    .exact(B _).r
   obtain⟨T,V,L,c3⟩:=Rp Ef zh qP uF;have E:=Rq (w':=iU C k (À a) (Ê Î j7) (À<|Â ⟨j9,0,Á⟩)<|À O) G rL S ow s5 xn λg F=>zm F;have W:({l₁ with w:=iU C k (À a) (Ê Î j7) (À<|Â ⟨j9,0,Á⟩) (À O)}:e9).O k:=I;replace T:({l₁ with w:=iU C k (À a) (Ê Î j7) (À<|Â ⟨j9,0,Á⟩) (À O)}:e9).w.cell? ⟨k,0,Á⟩=_:=T;replace V:({l₁ with w:=iU C k (À a) (Ê Î j7) (À<|Â ⟨j9,0,Á⟩) (À O)}:e9).w.cell? ⟨k,1,Á⟩=_:=V;replace L:({l₁ with w:=iU C k (À a) (Ê Î j7) (À<|Â ⟨j9,0,Á⟩) (À O)}:e9).w.cell? ⟨k,2,Á⟩=_:=L;generalize({l₁ with w:=iU C k (À a) (Ê Î j7) (À<|Â ⟨j9,0,Á⟩) (À O)}:e9)=l₂ at T V L E W|-;have X:=E.G G;have qe:¬l₂.q:=by rwa[E.q]
   apply fP (n:=9) X.r;iterate 2 w_go fu
   u_c ĺ fu hF
   simp only[Rx,Ļ,ń,ŋ,ś,č,ã,List.range.loop];w_go fu;refine Ë λ_ _=> ?_;apply pB U U (by k_ne) X.r qe (Ã<|Ã W) L (λw h=>by go_simp) (λw h=>by simp[go_sem,h]);walk_nrm;apply fP (n:=9) X.r;iterate 2 w_go fu
   u_call qM.f_wait (nm_wait Lk) waitFn fu hF
   refine Ë λ_ _=> ?_;have k2:mf (λw=>fE l₂ l₂.w w) l₂ j9:=⟨Ã (by rw[E.K];exact Q.1),Ã (by rw[E.K];exact Q.2),λw D h1 h2 h3 h4 h5 h=>h.fe ⟨h1,h2,h3,h4,h5⟩⟩;have s2:SW (λw=>fE l₂ l₂.w w) l₂ j9 l₂.w:=⟨X.r,⟨E.b _ Q.1 G3.1,E.b _ Q.2 G3.2⟩,fE.fV _ _⟩;refine YN qM hB k2 s2 (E.d.trans P) λD Zb=> ?_;walk_nrm;refine .fA λBh F=> ?_;have B:=E.N rL<|Zb.2.2.fe ⟨F.r,F.I,F.N,F.Y,F.S⟩;have hdd:=E.d.trans P;have By:iE ff l ({l₂ with d:=0,w:=Bh}:e9):=⟨B.O,B.h,B.Y,B.I,B.c,B.K,B.q,P.symm,B.fw,B.f,B.r,B.e,B.S,B.b,B.g⟩;have rr:=Zb.2.2.fe ⟨F.r,F.I,F.N,F.Y,F.S⟩;have cc:∀g,Bh.cell? ⟨k,g,Á⟩=l₂.w.cell? ⟨k,g,Á⟩:=λg=>gM<|rr.I k<|Ã W;exact ajh {l₂ with d:=0,w:=Bh} k _ By U W ((cc 0).trans T) ((cc 1).trans V) ((cc 2).trans L) ⟨U,U,U⟩ U
  .exact .fA λ_ _ e=>absurd e hv
end
section
variable{J:Jd}{l:e9}{t:Array Ï}{N:Nat}{Q:ByteArray->Prop}
def G4(f:gw l)(C:¬l.q)(g:QT i N n t)(L:t[4]?=Â (À<|Â ⟨k,0,Á⟩))(M:l.O k) (P:l.w.cell? ⟨k,0,Á⟩=Â (À O)) (S:l.w.cell? ⟨k,1,Á⟩=Â (Ê Î b)) (T:l.w.cell? ⟨k,2,Á⟩=Â (À<|Â ⟨j,0,Á⟩)) (V:l.N ⟨j,2,Á⟩) (W:l.w.cell? ⟨j,2,Á⟩=Â v) (o:l.r ⟨i,b,Á⟩) (X:(l.w.cell? ⟨i,b,Á⟩).isSome=Ò) (Y:l.w.frozen? ⟨i,b,Á⟩=Ì) (rA:b<N) (Ru:∀e,iE (λa=>a=⟨i,b,Á⟩) l e->∀D E,fh Ä Ì (λl'' g'=>l''.d=e.d/\∃F,g'=G (D.finish<|à F) E/\Q F) (mg e)<|G (Ă Ä 67 #[v,À O] Ğ)<|D::E) (hJ:∀e x H,iE (λa=>a=⟨i,b,Á⟩) l e->Q x->e.w.cell? ⟨i,b,Á⟩=Â (à x)->QT i N n H->J e (zu H qX)): fh Ä Ì J l (KP t qX):=by
 have I:∀y:â,y=⟨i,b,Á⟩->l.r y:=λy ha=>by rwa[ha]
 have hF:=trivial;apply fP (n:=3) f.r;simp only[KP];w_go fu;refine Ë λ_ _=> ?_;refine KE (II vG t (qO k j i N b (À O) v)<|Ed l i b Q) f.r C (λm h=> ?_) (λp s a l c m u r=>ajb f C g.r g.C L M P S T V W o X Y rA Ru p s a l c m u r) λp s a ky u z B=> ?_
 .refine⟨ByteArray.empty,lI.G _ _ _,(iE.fV f.r).N I ⟨h.r,h.I,h.N,h.Y,h.S⟩,λq=> ?_,λq=> ?_⟩<;>exact absurd q A
 let⟨x,m,h⟩:=u;have K:∀c∈ã 13,s.getD c Ì=Ò:=by
  cases p
  .exact pC B z (ã 13) [] fN λc r=>by cases r
  .exact pC B z (ã 13) [] fN λc r=>by cases r
  .exact pC B z (ã 13) [] fN λc r=>by cases r
 have p:=h.r.G f;let⟨z,B⟩:=a;obtain rfl:B=[]:=m.M;apply fP (n:=9) p.r;iterate 3 w_go fu
 refine Ë λ_ _=> ?_;refine Za p.r<|.fA λw₁ r=>(hJ {ky with w:=w₁} x z (h.r.N I r) (h.vB<|K 10 A) ((r.N _<|Ã<|by rwa[h.r.I]).trans<|h.I<|K 12 A) ⟨m.S.trans g.r,((m.C A).trans g.C),((m.C A).trans g.I)⟩)
end
structure gh(X:Nat->Prop)(l l':e9):Prop where
 O:∀j,l.O j->l'.O j
 c:∀j,l'.O j->l.O j\/l.w.heap.size<=j
 S:l'.I=l.I
 Y:l'.r=l.r
 b:l'.N=l.N
 K:l'.K=l.K
 q:l'.q=l.q
 d:l'.d=l.d
 fw:jW l'
 I:l.w.heap.size<=l'.w.heap.size
 r:∀j,l.M j->¬X j->l'.w.heap[j]?=l.w.heap[j]?
 f:∀a,l.C a->l'.w.cell? a=l.w.cell? a
 g:∀a,l.C a->l'.w.frozen? a=l.w.frozen? a
 e:∀a,l.K a->(l.w.cell? a).isSome=Ò->(l'.w.cell? a).isSome=Ò
section
variable{l l' l'':e9}
theorem gh.fV(h:jW l):gh X l l:=⟨λ_ h=>h,λ_ h=>Ã h,U,U,U,U,U,U,h,Ú _,λ_ _ _=>rfl,λ_ _=>rfl,λ_ _=>rfl,λ_ _ h=>h⟩
def gh.C(h:gh X l l'):l'.C=l.C:=by unfold e9.C;rw[h.Y,h.b]
def gh.M(h:gh X l l')(a:l.M b):l'.M b:=a.imp (h.O b)<|by rw[h.S];exact id
def gh.fe(h:gh X l l')(k:gh X l' l''):gh X l l'':=by have e:=h.C;exact⟨λj c=>k.O j<|h.O j c,λj c=>(k.c j c).elim (h.c j) λq=>Ç<|Õ h.I q,k.S.trans h.S,k.Y.trans h.Y,k.b.trans h.b,k.K.trans h.K,k.q.trans h.q,k.d.trans h.d,k.fw,Õ h.I k.I,λj c f=>(k.r j (h.M c) f).trans<|h.r j c f,λa b=>(k.f a<|by rwa[e]).trans<|h.f a b,λa b=>(k.g a<|by rwa[e]).trans<|h.g a b,λa b q=>k.e a (by rwa[h.K])<|h.e a b q⟩
def gh.G(h:gh X l l'){w₁:ß}(r:fE l' l'.w w₁):gh X l {l' with w:=w₁}:= h.fe ⟨λ_ q=>q,λ_ q=>Ã q,U,U,U,U,U,U,lH h.fw r,r.r,λj a _=>r.I j a,r.N,r.Y,r.S⟩
def gh.fO{a:Nat->Prop}(h:gh X l l')(c:∀j,l.M j->X j->a j):gh a l l':=⟨h.O,h.c,h.S,h.Y,h.b,h.K,h.q,h.d,h.fw,h.I,λj b e=>h.r j b λq=>e<|c j b q,h.f,h.g,h.e⟩
def gh.N(h:gh X l l')(s:gw l):gw l' where
 c b hb:=by
  rw[h.S];rcases h.c b hb with q|q
  .exact s.c b q
  .exact λz=>by have:=s.fw b<|Ç z;omega
 Y a ha:=by rw[h.b];exact s.Y a<|by rwa[<-h.Y]
 N a ha hb:=by
  rw[h.C]at ha;rcases hb with q|q
  .rcases h.c _ q with z|z
   .exact s.N a ha<|Ã z
   .have:=s.I a ha;omega
  .rw[h.S]at q;exact s.N a ha<|Ç q
 fw b hb:=by
  rcases hb with q|q
  .exact h.fw b q
  .rw[h.S]at q;exact È (s.fw b<|Ç q) h.I
 I a ha:=by rw[h.C]at ha;exact È (s.I a ha) h.I
 S a ha:=by
  rw[h.K]at ha;let⟨c,d,e⟩:=s.S a ha;refine⟨λq=> ?_,È d h.I,by rwa[h.Y]⟩;rcases q with q|q
  .rcases h.c _ q with z|z
   .exact c<|Ã z
   .omega
  .rw[h.S]at q;exact c<|Ç q
def mW{ob:Ÿ}(s:gw l){w₁:ß}(r:fE l l.w w₁):gh X l (gG l w₁ ob):=by have h:=KL (E:=ff) (ob:=ob) s (λ_ q=>q.elim) r;exact⟨h.O,h.h,h.Y,h.I,h.c,h.K,h.q,h.d,h.fw,h.f,λj b _=>h.r j b,λa c=>h.e a c id,h.S,h.b⟩
def KQ{w':ß}{p:Nat}(s:gw l)(r:fE l l.w u)(c:l.O p)(g:X p)(d:w'.heap.size=u.heap.size)(b:∀j,j≠p->w'.heap[j]?=u.heap[j]?):gh X l {l with w:=w'}:=by
 have f:∀a:â,l.C a->a.block≠p:=λa h e=>s.N a h<|Ã<|e▸c;refine⟨λ_ q=>q,λ_ q=>Ã q,U,U,U,U,U,U,λj q=> ?_,?_,λj q n=>(b j λe=>n<|e▸g).trans<|r.I j q,λa q=>(gM<|b _<|f a q).trans<|r.N a q,λa q=>(wZ<|b _<|f a q).trans<|r.Y a q,λa q z=> ?_⟩
 .show j<w'.heap.size;rw[d];exact È (s.fw j<|Ã q) r.r
 .show l.w.heap.size<=w'.heap.size;rw[d];exact r.r
 .show(w'.cell? a).isSome=Ò;rw[gM (b a.block λe=>(s.S a q).1<|Ã<|e▸c)];exact r.S a q z
end
section
variable{J:Jd}{l:e9}{a:ŏ}{k:List ŷ}{cs:List é}{ob:Ÿ}
def pE{V:Nat->Ï}(c:Q[i]?=Â o)(d:Ė o (ţ Q a.tmps)=Ò)(e:f.kind≠Ź)(g:jW l)(h:¬l.q) (j:∀w,(ĉ a.eval o).run P w=.ok (.value<|V w.heap.size) (w.alloc ob)) (m:∀w,(ĉ a.eval o).events P w #[]=#[]) (n:∀b,fE l l.w b->fh P yQ J (gG l b ob) (G (f.at (a.put o.dst<|V b.heap.size)<|Ñ Q jJ::k) cs)):fh P yQ J l (G (f.at a<|Ñ Q (i::jJ)::k) cs):=by
 refine vx c d e λb r=> ?_;rw[j b];refine⟨_,?_,n b r⟩;have:listed P f.fn a o b=#[]:=by unfold listed;rw[m b,Ī]
 rw[this];exact Y4 (lH g r) h
def G5{p off:Nat}{u:Ï}(m:Q[i]?=Â o)(n:Ė o (ţ Q a.tmps)=Ò)(s:f.kind≠Ź)(t:jW l)(x:¬l.q)(b:l.O p)(d:l.w.cell? ⟨p,off,Á⟩=Â u)(y:l.w.frozen? ⟨p,off,Á⟩=Ì)(z:o.dst=Á) (B:∀w,w.cell? ⟨p,off,Á⟩=Â u->w.frozen? ⟨p,off,Á⟩=Ì->(ĉ a.eval o).run P w=.ok .skip (w.setCell ⟨p,off,Á⟩ v)) (C:∀w,w.cell? ⟨p,off,Á⟩=Â u->w.frozen? ⟨p,off,Á⟩=Ì->(ĉ a.eval o).events P w #[]=#[⟨û ⟨p,off,Á⟩,Ò,Ì⟩]) (D:fh P yQ J {l with w:=l.w.setCell ⟨p,off,Á⟩ v} (G (f.at a<|Ñ Q jJ::k) cs)):fh P yQ J l (G (f.at a<|Ñ Q (i::jJ)::k) cs):=by
 have E:gY l ⟨p,off,Á⟩:=Ã<|Ã b;refine vx m n s λg r=> ?_;have c:=(E.r r).trans d;have j:=(wZ<|r.I p<|Ã b).trans y;rw[B g c j];refine⟨_,YY U (lH t r) x (Ã b) λe h=> ?_,?_⟩
 .have:=đ h;rw[C g c j]at this;have:e=⟨û ⟨p,off,Á⟩,Ò,Ì⟩:=by simpa using this
  subst this;exact qd.r<|Ã b
 .have:(a.put o.dst Å)=a:=by rw[z];rfl
  rw[this];exact D.j5<|zd<|YX U (by rw[d];rfl) (by rw[c];rfl) r
def mX(l:e9)(w₁ a:ß):e9:={l with O:=λf=>l.O f\/(w₁.heap.size<=f/\f<a.heap.size),w:=a}
def KR(s:gw l){w₁:ß}(r:fE l l.w w₁){a:Option Nat}(d:w₁.grownBy u a)(c:∀k,a=Â k->l.O k/\X k):gh X l (mX l w₁ u):=by
 have i:=r.r;have m:=d.size;have b:∀j,j<l.w.heap.size->Â j≠a->u.heap[j]?=w₁.heap[j]?:=λj o g=>d.block j Z g;have f:∀x:â,l.C x->Â x.block≠a:=λx h e=>s.N x h<|Ã (c _ e.symm).1;refine⟨λ_ q=>Ã q,λj q=>q.imp id λz=>by omega,U,U,U,U,U,U,λj q=> ?_,?_,λj q n=>(b j (s.fw j q) λe=>n (c j e.symm).2).trans<|r.I j q,λx q=>(gM<|b _ (s.I x q)<|f x q).trans<|r.N x q,λx q=>(wZ<|b _ (s.I x q)<|f x q).trans<|r.Y x q,λx q z=> ?_⟩
 .show j<u.heap.size;rcases q with q|q
  .have:=s.fw j<|Ã q;omega
  .exact q.2
 .show l.w.heap.size<=u.heap.size;omega
 .show(u.cell? x).isSome=Ò;rw[gM (b x.block (s.S x q).2.1 λe=>(s.S x q).1<|Ã (c _ e.symm).1)];exact r.S x q z
def n5{w₁:ß}{sz:Nat}{xs:List Ï}(h:w.ownsRow i e sz v n xs)(a:∀k,v.ownBlock=Â k->w₁.heap[k]?=w.heap[k]?):w₁.ownsRow i e sz v n xs:=by refine⟨h.1,h.2.imp id ?_⟩;rintro⟨g,b,c,rfl,d,f,j⟩;exact⟨g,b,c,U,d,(a g U).trans f,j⟩
def RE{p:Nat}{u:Ï}(h:w.cell? ⟨p,0,Á⟩=Â u):∀j y,[u][j]?=Â y->w.cell? ⟨p,j,Á⟩=Â y
 |0,_,e=>Ó e▸h
 |_+1,_,e=>by cases e
def aji{s a:List Ï}(h:P.underlying t=Â (.slice e))(k:P.info? e=Â zJ)(B:zJ.zero=Â z)(l:zJ.size=m)(C:a.length=m)(F:(n+1)*zJ.bytes<=140737488355328)(G:n+1<=œ) (o:w.ownsRow 0 e m v n s) (p:∀j y,a[j]?=Â y->w.cell? ((⟨b,0,Á⟩:â).add j)=Â y) (H:∀u∈a,u.oneCell'=Ò) (d:(Builtin.append_ #[t,t] T #[v,Æ (Â ⟨b,0,Á⟩) 1 i]).run P w=.ok x W):x.ownBlock=v.ownBlock\/x.ownBlock=Â w.heap.size:=by
 have q:a.length=1*zJ.size:=by rw[l,C];omega
 have L:n+1<=9223372036854775807:=by simp only[œ]at G;omega
 rcases o.2 with⟨rfl,rfl⟩|⟨g,r,D,rfl,_,I,M,N,J,O⟩
 .have f:=run_append_nil (P:=P) w t T e zJ z h k B ⟨b,0,Á⟩ 1 i a q p Z Z Z;rw[f]at d;cases d;exact Ç U
 .by_cases E:n+1<=r
  .have K:n*zJ.size+a.length<=D.size:=by
    rw[J,l,C,show n*m+m=(n+1)*m by rw[Nat.add_mul];omega];exact Nat.mul_le_mul_right _ E
   have f:=run_append_room (P:=P) w t T e zJ h k g n r D I ⟨b,0,Á⟩ 1 i a q p H E K;rw[f]at d;cases d;exact Ã U
  .have f:=run_append_grow (P:=P) w t T e zJ z h k B ⟨g,0,Á⟩ n r s (by rw[l];exact o.1) (o.cells (g:=g) U) ⟨b,0,Á⟩ 1 i a q p Z Z<|growslice_fits Z F;rw[f]at d;cases d;exact Ç U
theorem G6{x:Ĥ}{inf:Ž}{c px sz:Nat}{xs us:List Ï}(ho:Q[i]?=Â o)(hw:Ė o (ţ Q a.tmps)=Ò)(hk:f.kind≠Ź)(sn:gw l)(hq:¬l.q) (V:o.op=Ě {callee:=Ŕ .append,args:=#[qQ,x],argTypes:=#[t,t]}) (W:a.eval qQ=v) (X:a.eval x=Æ (Â ⟨px,0,Á⟩) 1 c) (E:P.underlying t=Â (.slice e)) (F:P.info? e=Â inf) (H:inf.zero=Â z) (I:inf.size=sz) (jH:0<sz) (KS:us.length=sz) (rN:z.cells.size=sz) (K:(n+1)*inf.bytes<=140737488355328) (L:n+1<=œ) (lJ:l.w.ownsRow 0 e sz v n xs) (C:∀k,v.ownBlock=Â k->l.O k) (Zc:l.O px) (hu:∀j u,us[j]?=Â u->l.w.cell? ⟨px,j,Á⟩=Â u) (d:∀u∈us,u.oneCell'=Ò) (hn:∀b B g,fE l l.w b->g.ownsRow 0 e sz B (n+1) (xs++us)->b.grownBy g v.ownBlock->(∀k,B.ownBlock=Â k->(mX l b g).O k)->(B.ownBlock=v.ownBlock\/B.ownBlock=Â b.heap.size)->fh P yQ J (mX l b g) (G (f.at (a.put o.dst B)<|Ñ Q jJ::k) cs)): fh P yQ J l (G (f.at a<|Ñ Q (i::jJ)::k) cs):=by
 refine vx ho hw hk λb r=> ?_;have hM:∀k,l.O k->b.heap[k]?=l.w.heap[k]?:=λk q=>r.I k<|Ã q;have M:=n5 lJ (w₁:=b) λk q=>hM k<|C k q;have N:∀j w,us[j]?=Â w->b.cell? ((⟨px,0,Á⟩:â).add j)=Â w:=λj w h=>by rw[ğ,č];grind [gM]
 have Y:us.length=1*sz:=Z
 let⟨B,g,iI,hown',p,zq⟩:=run_append_own (P:=P) b 0 t o.type e inf z sz inf.bytes E F H I U rN jH v n xs M ⟨px,0,Á⟩ 1 c us Y N d L K<|ă _;have uG:=aji E F H I KS K L M N d iI;refine uponK_append qQ x t V W X iI ⟨mX l b g,?_,hn b B g r hown' p (λk q=> ?_) uG⟩
 .have he:∀D∈listed P f.fn a o b,vy (mX l b g) D:=λD S=>by
   have h2:=đ S;rw[events_append_op qQ x t V W X]at h2;rcases(events_append_where (P:=P) b 0 t o.type e inf z sz inf.bytes E F H I rfl v n xs M ⟨px,0,Á⟩ 1 c us Y N d L K) D h2 with⟨ad,T,y⟩|⟨m,rfl,ajj⟩
   .refine⟨Ã ⟨ad,T,Ã ?_⟩,by rw[T];simp,by rw[T];simp⟩;rcases y with⟨_,y⟩|y
    .exact Ã<|by rwa[y]
    .exact Ã<|C _ y.symm
   .have ua:m=.noRoom:=ajj;subst ua;exact⟨Ç<|Ã U,fj,fj⟩
  refine⟨p.size,λj q=>q.imp id λz=>z.1,λj q=> ?_,U,U,U,U,λj T d _=>p.block j T λe=>d<|C j e.symm,λy m d _=>gM (p.block _ m λe=>d<|C _ e.symm),λy m d=>wY (p.block _ m λe=>d<|C _ e.symm),p.os,p.output,p.tape,λD S=>(he D S).1,(KC he _).symm,U,λq=>absurd q hq,U⟩;rcases q with q|q
  .exact È ((lH sn.r r) j q) p.size
  .exact q.2
 .have y:k<g.heap.size:=(hown'.lt k q).2;rcases uG with m|m
  .exact Ã<|C k<|by rwa[<-m]
  .rw[m]at q;obtain rfl:=Ó q;exact Ç ⟨Ú _,y⟩
end
def Zd:Array å:=#[⟨Â 25,Ş (ù 48) #[] #[Ù 9,Ù 8],1, "work.go:24",#[],Á⟩,⟨Â 26,Ě {callee:=ĕ<|ĸ 47,args:=#[Ù 12,Ù 25],argTypes:=#[97,1]},0, "work.go:24",#[⟨0,Ü⟩],Á⟩]
def Ze:Array å:=#[⟨Â 13,ŧ<|Ũ<|Æ Á 0 0,100, "work.go:25",#[],Á⟩]
def Zf:Array å:=#[⟨Â 27,ę<|Ù 2,3, "work.go:26",#[],Á⟩,⟨Â 28,ę<|Ũ<|Ê Î 0,3, "work.go:26",#[],Á⟩]
def RF:Array å:=#[⟨Â 29,Λ .lss 3 (Ù 28) (Ù 27) 3,4, "work.go:26",#[],Á⟩]
def Zg:Array å:=#[⟨Â 30,ę<|Ù 10,85, "work.go:28",#[],Á⟩,⟨Â 31,Ě {callee:=Ŕ .len,args:=#[Ù 30],argTypes:=#[85]},3, "work.go:28",#[⟨0,Ü⟩],Á⟩,⟨Â 32,.makeChan 101<|Ù 31,101, "work.go:28",#[⟨1,Ü⟩],Á⟩,⟨Â 14,.alloc 101,0, "work.go:28",#[],Á⟩,⟨Á,š 101 (Ù 14)<|Ù 32,0, "work.go:28",#[⟨3,Ü⟩,⟨2,Ü⟩,⟨0,Í⟩,⟨1,Í⟩,⟨2,Í⟩,⟨3,Í⟩],Á⟩]
def Zh:Array å:=#[⟨Â 33,ę<|Ù 13,100, "work.go:29",#[],Á⟩,⟨Â 34,ć 101<|Ù 14,101, "work.go:29",#[],Á⟩,⟨Â 35,.buildSlice 100 1 #[(0,Ù 34)],100, "work.go:29",#[⟨1,Ü⟩],Á⟩,⟨Â 36,Ě {callee:=Ŕ .append,args:=#[Ù 33,Ù 35],argTypes:=#[100,100]},100, "work.go:29",#[⟨0,Ü⟩,⟨2,Ü⟩],Á⟩,⟨Â 13,ŧ<|Ù 36,100, "work.go:29",#[⟨3,Ü⟩,⟨3,Ţ⟩,⟨0,Í⟩,⟨1,Í⟩,⟨2,Í⟩,⟨3,Í⟩],Á⟩]
def KT:Array å:=#[⟨Â 37,Ş (ù 50) #[] #[Ù 14,Ù 8],1, "work.go:30",#[],Á⟩,⟨Â 38,Ě {callee:=ĕ<|ĸ 47,args:=#[Ù 12,Ù 37],argTypes:=#[97,1]},0, "work.go:30",#[⟨0,Ü⟩],Á⟩]
def RG:Array å:=#[⟨Â 39,Λ .add 3 (Ù 28) (Ũ<|Ê Î 1) 3,3, "work.go:26",#[],Á⟩,⟨Â 28,ę<|Ù 39,3, "work.go:26",#[⟨0,Ü⟩],Á⟩]
def KU:Array å:=#[⟨Â 40,ę<|Ù 10,85, "work.go:32",#[],Á⟩,⟨Â 41,ę<|Ù 13,100, "work.go:32",#[],Á⟩,⟨Â 42,Ě {callee:=ĕ<|ĸ 52,args:=#[Ù 40,Ù 41],argTypes:=#[85,100]},0, "work.go:32",#[⟨0,Ü⟩,⟨1,Ü⟩],Á⟩]
def KV:Array å:=#[⟨Â 43,Ě {callee:=ĕ<|ĸ 53,args:=#[Ù 12],argTypes:=#[97]},0, "work.go:33",#[],Á⟩]
def G7:å:=⟨Â 44,ć 25<|Ù 8,25, "work.go:34",#[],Á⟩
def G8:å:=⟨Â 45,ę<|Ù 11,86, "work.go:34",#[{on:=5,ground:=õ Ð}],Á⟩
def G9:å:=⟨Â 46,ĩ<|Ù 45,0, "work.go:34",#[⟨1,Ü⟩,{on:=5,ground:=õ Ð}],Á⟩
def Ha:å:=⟨Â 47,ð 105 (Ù 46) 1,0, "work.go:34",#[⟨2,Ü⟩,{on:=5,ground:=õ Ð}],Á⟩
def Hb:å:=⟨Â 48,ć 65<|Ù 47,65, "work.go:34",#[⟨3,Ü⟩,{on:=5,ground:=õ Ð}],Á⟩
def Hc:å:=⟨Â 6,ŧ<|Ù 44,25, "work.go:34",#[⟨0,Ü⟩,⟨0,Í⟩,{on:=1,ground:=Þ Ð},{on:=2,ground:=Þ Ð},{on:=3,ground:=Þ Ð},{on:=4,ground:=Þ Ð}],Á⟩
def Hd:å:=⟨Â 7,ŧ<|Ù 48,65, "work.go:34",#[⟨4,Ü⟩,⟨5,Ţ⟩,⟨0,Í⟩,⟨1,Í⟩,⟨2,Í⟩,⟨3,Í⟩,⟨4,Í⟩,⟨5,Í⟩],Á⟩
def xu:Array å:=#[G7,G8,G9,Ha,Hb,Hc,Hd]
def KW:Ę:=(ä 14 xu Ò).seq Ρ
def KX:Ę:=(ä 12 KU Ì).seq<|(ä 13 KV Ì).seq KW
def Eg:Ę:=(ä 7 RF Ì).seq<|(Ť (Ù 29) ť<|Ŧ 0).seq<|(İ 1<|(ä 8 Zg Ì).seq<|(ä 9 Zh Ì).seq<|ä 10 KT Ì).seq<|ä 11 RG Ì
def sA:Ę:=(ä 5 Ze Ì).seq<|((ä 6 Zf Ì).seq<|İ 0 Eg.loop).seq KX
def vH(t:Array Ï)(a:List é):Ý:=G ((base 37).at ⟨t,[]⟩ [ö Eg,ą Eg,ô 0,ö KX]) a
def Eh(t:Array Ï):é:=(base 37).at ⟨t,[]⟩ [Ñ Zd [1],ö sA]
def KY(t:Array Ï):é:=(base 37).at ⟨t,[]⟩ [Ñ KT [1],ô 1,ö<|ä 11 RG Ì,ą Eg,ô 0,ö KX]
def He:Array å:=#[⟨Â 6,Ş (ù 63) #[] #[Ù 2,Ù 3],1, "waitgroup.go:238",#[],Á⟩,
 ⟨Á,.go {callee:=ĕ (Ù 6),args:=#[],argTypes:=#[]},0, "waitgroup.go:238",#[⟨0,Ü⟩],Á⟩]
def tG(c d e f:Ï)(a b:Nat):Array Ï:=#[c,d,À<|Â ⟨a,0,Á⟩,À<|Â ⟨b,0,Á⟩,e,f,Ĉ (ù 63) #[] #[À<|Â ⟨a,0,Á⟩,À<|Â ⟨b,0,Á⟩]]
def Bz(a b c d:Ï)(e f:Nat)(g:List é):Ý:=G ((base 47).at ⟨tG a b c d e f,[]⟩ [Ñ He [1]]) g
def Hf(a b c d:Ï)(e f:Nat)(g:List é):Ý:=G ((base 47).at ⟨tG a b c d e f,[]⟩ [Ñ He []]) g
def Zi(c e f g:Ï)(a b:Nat)(h:List é)(w:ß):stepG Ä Ò (Bz c e f g a b h) w=.spawn (Hf c e f g a b h) (born Ä<|pA 63 #[À<|Â ⟨a,0,Á⟩,À<|Â ⟨b,0,Á⟩] #[]) w #[]:=by
 refine(stepG_spawn (d:=pA 63 #[À<|Â ⟨a,0,Á⟩,À<|Â ⟨b,0,Á⟩] #[]) (w':=w) U U (by k_ne) ?_ U).trans ?_
 .simp[He,ĉ,ſ,ě,ĥ,tG,pA]
 .have:listed Ä (base 47).fn ⟨tG c e f g a b,[]⟩ He[1] w=#[]:=by
   unfold listed;simp[He,ĉ,ſ,ě,ĥ,tG,Ī]
  rw[this];rfl
structure ST(ba all n7 n j:Nat)(qs dv:Ï)(t:Array Ï):Prop where
 r:t.size=49
 a:t[8]?=Â (À<|Â ⟨ba,0,Á⟩)
 C:t[10]?=Â qs
 I:t[11]?=Â (À<|Â ⟨n7,0,Á⟩)
 M:t[12]?=Â (À<|Â ⟨all,0,Á⟩)
 N:t[13]?=Â dv
 S:t[27]?=Â (Ê Î n)
 Y:t[28]?=Â (Ê Î j)
structure Hg(ba all n7 n:Nat)(qs:Ï)(t:Array Ï):Prop where
 Dj:t.size=49
 t2:t[2]?=Â (Ê Î n)
 t8:t[8]?=Â (À<|Â ⟨ba,0,Á⟩)
 ajk:t[10]?=Â qs
 ajl:t[11]?=Â (À<|Â ⟨n7,0,Á⟩)
 RH:t[12]?=Â (À<|Â ⟨all,0,Á⟩)
def Hh(t:Array Ï)(h:t.size=49):∃a b c d e f g i j k l m n o p q r s u v w x y z B C D E F G H I J K L M N O P Q S T V W X Y qa qc xl:Ï,t=#[a,b,c,d,e,f,g,i,j,k,l,m,n,o,p,q,r,s,u,v,w,x,y,z,B,C,D,E,F,G,H,I,J,K,L,M,N,O,P,Q,S,T,V,W,X,Y,qa,qc,xl]:=by obtain⟨_,rfl⟩:=xo t h;exact⟨_,_,_,_,_,_,_,_,_,_,_,_,_,_,_,_,_,_,_,_,_,_,_,_,_,_,_,_,_,_,_,_,_,_,_,_,_,_,_,_,_,_,_,_,_,_,_,_,_,U⟩
section
variable{Ψ:ß->Prop}{J a:Jd}{l:e9}{t:Array Ï}{ba all n7:Nat}{qs dv:Ï}
def ajm(d:jW l)(a:Hg ba all n7 n qs t)(e:∀c,ST ba all n7 n 0 qs (Æ Á 0 0) c->fh Ä Ò J l (vH c qX)):fh Ä Ò J l (Hf v x z jQ b i<|Eh t::qX):=by
 obtain⟨m,o,f,p,q,r,s,u,g,w,h,j,k,y,B,C,D,E,F,G,H,I,K,L,M,N,O,P,Q,S,T,V,W,X,Y,rG,rH,ui,uj,uk,um,uo,uq,uu,uw,uy,qa,qc,xl,rfl⟩:=Hh t a.Dj;obtain rfl:f=Ê Î n:=by simpa using a.t2
 obtain rfl:g=À (Â ⟨ba,0,Á⟩):=by simpa using a.t8
 obtain rfl:h=qs:=by simpa using a.ajk
 obtain rfl:j=À (Â ⟨n7,0,Á⟩):=by simpa using a.ajl
 obtain rfl:k=À (Â ⟨all,0,Á⟩):=by simpa using a.RH
 apply fP (n:=40) d;have hF:=trivial;simp only[Hf,Eh,Zd];iterate 2 w_go fu
 u_leave0 Ħ fu hF
 simp only[sA,Ze,Zf];iterate 13 w_go fu
 refine Ë λ_ _=> ?_;exact e _ ⟨U,U,U,U,U,U,U,U⟩
theorem ajn(d:jW l)(a:ST ba all n7 n j qs dv t)(q:j<1000)(e:∀c,ST ba all n7 n (j+1) qs dv c->fh Ä Ò J l (vH c qX)):fh Ä Ò J l (Hf v x z jQ b i<|KY t::qX):=by
 obtain⟨r,s,u,w,y,B,C,D,f,E,g,h,k,m,F,G,H,I,K,L,M,N,O,P,Q,S,T,o,p,V,W,X,Y,sT,sU,rG,rH,ui,uj,uk,um,uo,uq,uu,uw,uy,qa,qc,xl,rfl⟩:=Hh t a.r;obtain rfl:f=À (Â ⟨ba,0,Á⟩):=by simpa using a.a
 obtain rfl:g=qs:=by simpa using a.C
 obtain rfl:h=À (Â ⟨n7,0,Á⟩):=by simpa using a.I
 obtain rfl:k=À (Â ⟨all,0,Á⟩):=by simpa using a.M
 obtain rfl:m=dv:=by simpa using a.N
 obtain rfl:o=Ê Î n:=by simpa using a.S
 obtain rfl:p=Ê Î j:=by simpa using a.Y
 apply fP (n:=40) d;have hF:=trivial;simp only[Hf,KY,KT];iterate 2 w_go fu
 u_leave0 Ħ fu hF
 simp only[RG];iterate 7 w_go fu
 refine Ë λ_ _=> ?_;refine e _ ⟨U,U,U,U,U,U,U,?_⟩;simp;grind [Bt]
end
section
variable{l l' y:e9}
def gh.fQ(h:gh X l l')(s:gw l){p off:Nat}(c:l.w.heap.size<=p):gh X l {l' with w:=l'.w.setCell ⟨p,off,Á⟩ v}:=by
 have b:∀j,j<l.w.heap.size->(l'.w.setCell ⟨p,off,Á⟩ v).heap[j]?=l'.w.heap[j]?:=λj e=>lu (by show j≠p;omega);refine⟨h.O,h.c,h.S,h.Y,h.b,h.K,h.q,h.d,λj q=> ?_,?_,λj q n=>(b j<|s.fw j q).trans<|h.r j q n,λa q=>(gM<|b _<|s.I a q).trans<|h.f a q,λa q=>sL.trans<|h.g a q,λa q z=>yK<|h.e a q z⟩
 .show j<(l'.w.setCell ⟨p,off,Á⟩ v).heap.size;rw[j2];exact h.fw j q
 .show l.w.heap.size<=(l'.w.setCell ⟨p,off,Á⟩ v).heap.size;rw[j2];exact h.I
structure ia(l:e9)(b:Nat)(o:Ÿ):Prop where
 fl:l.O b
 I:l.w.heap[b]?=Â o
def ia.r{o:Ÿ}(h:ia l b o)(k:gh X l l')(a:¬X b):ia l' b o:=⟨k.O b h.fl,(k.r b (Ã h.fl) a).trans h.I⟩
def ia.C(h:ia l b (É d e xJ))(a:d[i]?=Â v):l.w.cell? ⟨b,i,Á⟩=Â v:=by simp[Ö,h.I,a]
end
def Zj{sz:Nat}{xs:List Ï}(h:w.ownsRow i e sz v n xs)(a:w.heap.size<=b):¬(Â b=v.ownBlock):=λq=>by have:=(h.lt b q.symm).2;omega
structure Zk(ba all q:Nat)(BA:Ï)(xs:List Ï)(ch bd bw bf:Nat)(l':e9):Prop where
 S:l'.w.ownsRow 0 101 1 BA xs.length xs
 M:∀k,BA.ownBlock=Â k->l'.O k
 r:ia l' ch (ŕ q #[] Ì 0 0 Ì)
 C:ia l' bd (É #[è<|Â ch] 101)
 N:ia l' bw (É #[À<|Â ⟨all,0,Á⟩] 162)
 I:ia l' bf (É #[Ĉ (ù 50) #[] #[À<|Â ⟨bd,0,Á⟩,À<|Â ⟨ba,0,Á⟩]] 1)
section
variable{g:Jd}{l:e9}{t:Array Ï}{ba all q:Nat}{f:Option â}{xs:List Ï}
def ajo(y:gw l)(F:¬l.q)(hd:l.d=0)(G:ST ba all m n j (Æ f q i) x t)(vu:j<n)(hn:n<1000)(BB:q<1000)(KZ:l.K ⟨all,0,Á⟩/\l.K ⟨all,1,Á⟩)(G3:nD all l.w) (lJ:l.w.ownsRow 0 101 1 x j xs) (hO:∀k,x.ownBlock=Â k->l.O k) (hJ0:∀l' t' a r B S C v1,gh (λb=>Â b=x.ownBlock) l l'->ST ba all m n j (Æ f q i) C t'->Zk ba all q C (xs++[è<|Â a]) a r B S l'->l.w.heap.size<=a->a<r->r<B->B<S->(∀k,C.ownBlock=Â k->k≠a/\k≠r/\k≠B/\k≠S)->g l' (Bz (À<|Â ⟨all,0,Á⟩) v1 (À<|Â ⟨all,0,Á⟩) (ñ #[]) B S<|KY t'::qX)): fh Ä Ò (KB Ä Ò all g) l (vH t qX):=by
 obtain⟨y0,y1,y2,y3,y4,y5,y6,y7,y8,y9,xp,zp,xq,rK,sW,qN,vC,vD,uB,uC,uD,sX,sY,sZ,rE,sS,rF,pz,ov,p7,p8,p9,uh,sT,sU,rG,rH,ui,uj,uk,um,uo,uq,uu,uw,uy,qa,qc,xl,rfl⟩:=Hh t G.r;obtain rfl:y8=À (Â ⟨ba,0,Á⟩):=by simpa using G.a
 obtain rfl:xp=Æ f q i:=by simpa using G.C
 obtain rfl:zp=À (Â ⟨m,0,Á⟩):=by simpa using G.I
 obtain rfl:xq=À (Â ⟨all,0,Á⟩):=by simpa using G.M
 obtain rfl:x=rK:=(show rK=x by simpa using G.N).symm;obtain rfl:pz=Ê Î n:=by simpa using G.S
 obtain rfl:ov=Ê Î j:=by simpa using G.Y
 have auM:(j:Int)<(n:Int):=Z
 have hF:True:=trivial;apply fP (n:=40) y.r;simp only[vH,Eg,RF,Zg];repeat w_go fu
 refine Ë λ_ _=> ?_;have Ei:Ä.info? 155=Â Ą:=ļ;refine pE (V:=λp=>è<|Â p) (ob:=ŕ q #[] Ì 0 0 Ì) U U (by k_ne) y.r F (λw=> ?_) (λw=> ?_) λL kh=> ?_
 .have D:=run_makeChan (P:=Ä) (w:=w) Ĵ Ei Î q Z (by simp[Ą];omega);go_simp
 .simp[go_sem,(events_makeChan (P:=Ä) (w:=w) Ĵ Ei Î q Z (by simp[Ą];omega) #[])]
 walk_nrm;have uE:gh ff l (gG l L<|ŕ q #[] Ì 0 0 Ì):=mW y kh;have c1:ia (gG l L<|ŕ q #[] Ì 0 0 Ì) L.heap.size (ŕ q #[] Ì 0 0 Ì):=⟨Ç U,mV⟩;have Zl:l.w.heap.size<=L.heap.size:=kh.r;generalize gG l L (ŕ q #[] Ì 0 0 Ì)=l₁ at uE c1|-;generalize L.heap.size=a at c1 Zl|-;have xv:=uE.N y;have Zm:¬l₁.q:=by rwa[uE.q]
 refine pE (V:=λp=>À<|Â ⟨p,0,Á⟩) (ob:=É #[è Á] 101) U U (by k_ne) xv.r Zm (λw=>by go_simp) (λw=>by simp[go_sem]) λT ow=> ?_;walk_nrm;have Hi:gh ff l (gG l₁ T<|É #[è Á] 101):=uE.fe<|mW xv ow;have c2:=c1.r (mW (X:=ff) (ob:=É #[è Á] 101) xv ow) id;have H:ia (gG l₁ T<|É #[è Á] 101) T.heap.size (É #[è Á] 101):=⟨Ç U,mV⟩;have Ju:a<T.heap.size:=È (xv.fw a<|Ã c1.fl) ow.r;generalize gG l₁ T (É #[è Á] 101)=l₂ at Hi c2 H|-;generalize T.heap.size=r at H Ju|-;clear c1 uE Zm xv ow l₁;have rM:=Hi.N y;have qe:¬l₂.q:=by rwa[Hi.q]
 refine G5 (p:=r) (off:=0) (v:=è<|Â a) (u:=è Á) U U (by k_ne) rM.r qe H.fl (H.C U) (by simp[î,H.I]) U (λw o s=>by go_simp) (λw o s=>by simp[go_sem,o,s]) ?_;have M:gh ff l {l₂ with w:=l₂.w.setCell ⟨r,0,Á⟩ (è<|Â a)}:=Hi.fQ y Z;have c3:ia {l₂ with w:=l₂.w.setCell ⟨r,0,Á⟩ (è<|Â a)} a (ŕ q #[] Ì 0 0 Ì):=⟨c2.fl,(lu<|by show a≠r;omega).trans c2.I⟩;have W:ia {l₂ with w:=l₂.w.setCell ⟨r,0,Á⟩ (è<|Â a)} r (É #[è<|Â a] 101):=⟨H.fl,by show(l₂.w.setCell ⟨r,0,Á⟩<|è<|Â a).heap[r]?=_;unfold þ;simp[í,H.I]⟩;generalize({l₂ with w:=l₂.w.setCell ⟨r,0,Á⟩ (è<|Â a)}:e9)=ky at M c3 W|-;clear c2 H Hi rM qe l₂;have N:=M.N y;have xr:¬ky.q:=by rwa[M.q]
 have Ej:∀k,x.ownBlock=Â k->ky.O k:=λk e=>M.O k<|hO k e;have K0:ky.w.ownsRow 0 101 1 x j xs:=n5 lJ λk e=>M.r k (Ã<|hO k e) id;apply fP (n:=10) N.r;simp only[Zh,KT];iterate 4 w_go fu
 refine Ë λ_ _=> ?_;apply pB (x:=⟨r,0,Á⟩) U U (by k_ne) N.r xr (Ã<|Ã W.fl) (W.C U) (λw h=>by go_simp) (λw h=>by simp[go_sem,h]);walk_nrm;refine pE (V:=λp=>Æ (Â ⟨p,0,Á⟩) 1 1) (ob:=É #[è<|Â a] 101) U U (by k_ne) N.r xr (λw=>by go_simp) (λw=>by simp[go_sem]) λI BD=> ?_;walk_nrm;have By:gh ff l (gG ky I<|É #[è<|Â a] 101):=M.fe<|mW N BD;have k4:=mW (X:=ff) (ob:=É #[è<|Â a] 101) N BD;have c4:=c3.r k4 id;have d4:=W.r k4 id;have Y:ia (gG ky I<|É #[è<|Â a] 101) I.heap.size (É #[è<|Â a] 101):=⟨Ç U,mV⟩;have Zc:r<I.heap.size:=È (N.fw r<|Ã W.fl) BD.r;have xw:∀k,x.ownBlock=Â k->(gG ky I<|É #[è<|Â a] 101).O k:=λk e=>Ã<|Ej k e;have BF:=n5 K0 (w₁:=(gG ky I<|É #[è<|Â a] 101).w) λk e=>k4.r k (Ã<|Ej k e) id;generalize gG ky I (É #[è<|Â a] 101)=l₄ at By c4 d4 Y xw BF|-;generalize I.heap.size=px at Y Zc|-;clear c3 W M N xr Ej K0 k4 BD ky;have zv:=By.N y;have BG:¬l₄.q:=by rwa[By.q]
 refine G6 (v:=x) (us:=[è<|Â a]) (px:=px) (c:=1) (n:=j) (xs:=xs) (inf:=Δ) (z:=è Á) U U (by k_ne) zv BG U U U Tryz.underlying100 Tryz.type101 U U Nat.one_pos U U (by simp[Δ];omega) (by simp only[œ];omega) BF xw Y.fl (RE<|Y.C U) (λ_ D=>List.mem_singleton.1 D▸rfl) λrO C Q BH sJ Hj BJ uG=> ?_;walk_nrm;have Zn:∀b,l.w.heap.size<=b->¬(Â b=x.ownBlock):=λb hb=>Zj lJ hb;have k5:gh (λb=>Â b=x.ownBlock) l₄ (mX l₄ rO Q):=KR zv BH Hj λk e=>⟨xw k e,e.symm⟩;have vI:gh (λb=>Â b=x.ownBlock) l (mX l₄ rO Q):=(By.fO λ_ _ q=>q.elim).fe k5;have c5:=c4.r k5<|Zn a Z;have d5:=d4.r k5<|Zn r Z;have hl4:px<rO.heap.size:=È (zv.fw px<|Ã Y.fl) BH.r;have K1:∀k,C.ownBlock=Â k->k<Q.heap.size/\k≠a/\k≠r:=λk e=>by
  have D:=(sJ.lt k e).2;rcases uG with z|z
  .rw[z]at e;have:=(lJ.lt k e).2;exact⟨D,Z,Z⟩
  .rw[z]at e;obtain rfl:=Ó e;exact⟨D,Z,Z⟩
 have xx:(mX l₄ rO Q).w.ownsRow 0 101 1 C (j+1) (xs++[è<|Â a]):=sJ;have RJ:(mX l₄ rO Q).w.heap.size=Q.heap.size:=U;generalize mX l₄ rO Q=s6 at vI c5 d5 xx BJ RJ|-;rw[<-RJ]at K1;clear k5 Hj sJ uG c4 d4 Y By zv BG xw BF BH l₄ RJ;have rQ:=vI.N y;have Zo:¬s6.q:=by rwa[vI.q]
 apply fP (n:=20) rQ.r;iterate 4 w_go fu
 u_call Ħ fN Μ fu hF
 iterate 2 w_go fu
 refine Ë λ_ _=> ?_;refine pE (V:=λp=>À<|Â ⟨p,0,Á⟩) (ob:=É #[À<|Â ⟨all,0,Á⟩] 162) U U (by k_ne) rQ.r Zo (λw=>by go_simp) (λw=>by simp[go_sem]) λD K2=> ?_;walk_nrm;have k6:=mW (X:=ff) (ob:=É #[À<|Â ⟨all,0,Á⟩] 162) rQ K2;have BK:gh (λb=>Â b=x.ownBlock) l (gG s6 D<|É #[À<|Â ⟨all,0,Á⟩] 162):=vI.fe (k6.fO λ_ _ q=>q.elim);have c6:=c5.r k6 id;have d6:=d5.r k6 id;have g6:ia (gG s6 D<|É #[À<|Â ⟨all,0,Á⟩] 162) D.heap.size (É #[À<|Â ⟨all,0,Á⟩] 162):=⟨Ç U,mV⟩;have BL:r<D.heap.size:=È (rQ.fw r<|Ã d5.fl) K2.r;have Hk:∀k,C.ownBlock=Â k->k<D.heap.size/\k≠a/\k≠r:=λk e=>⟨È (K1 k e).1 K2.r,(K1 k e).2⟩;have K3:∀k,C.ownBlock=Â k->(gG s6 D<|É #[À<|Â ⟨all,0,Á⟩] 162).O k:=λk e=>Ã<|BJ k e;have RL:=n5 xx (w₁:=(gG s6 D<|É #[À<|Â ⟨all,0,Á⟩] 162).w) λk e=>k6.r k (Ã<|BJ k e) id;generalize gG s6 D (É #[À<|Â ⟨all,0,Á⟩] 162)=BM at BK c6 d6 g6 K3 RL|-;generalize D.heap.size=B at g6 BL Hk|-;clear k6 c5 d5 vI rQ Zo BJ xx K1 K2 s6;have K4:=BK.N y;have Zp:¬BM.q:=by rwa[BK.q]
 refine pE (V:=λp=>À<|Â ⟨p,0,Á⟩) (ob:=É #[Ĉ (ù 50) #[] #[À<|Â ⟨r,0,Á⟩,À<|Â ⟨ba,0,Á⟩]] 1) U U (by k_ne) K4.r Zp (λw=>by go_simp) (λw=>by simp[go_sem]) λJ RN=> ?_;walk_nrm;have k7:=mW (X:=ff) (ob:=É #[Ĉ (ù 50) #[] #[À<|Â ⟨r,0,Á⟩,À<|Â ⟨ba,0,Á⟩]] 1) K4 RN;have E:gh (λb=>Â b=x.ownBlock) l (gG BM J<|É #[Ĉ (ù 50) #[] #[À<|Â ⟨r,0,Á⟩,À<|Â ⟨ba,0,Á⟩]] 1):=BK.fe (k7.fO λ_ _ q=>q.elim);have c7:=c6.r k7 id;have d7:=d6.r k7 id;have g7:=g6.r k7 id;have f7:ia (gG BM J<|É #[Ĉ (ù 50) #[] #[À<|Â ⟨r,0,Á⟩,À<|Â ⟨ba,0,Á⟩]] 1) J.heap.size (É #[Ĉ (ù 50) #[] #[À<|Â ⟨r,0,Á⟩,À<|Â ⟨ba,0,Á⟩]] 1):=⟨Ç U,mV⟩;have K5:B<J.heap.size:=È (K4.fw B<|Ã g6.fl) RN.r;have RO:∀k,C.ownBlock=Â k->(gG BM J<|É #[Ĉ (ù 50) #[] #[À<|Â ⟨r,0,Á⟩,À<|Â ⟨ba,0,Á⟩]] 1).O k:=λk e=>Ã<|K3 k e;have Zq:=n5 RL (w₁:=(gG BM J<|É #[Ĉ (ù 50) #[] #[À<|Â ⟨r,0,Á⟩,À<|Â ⟨ba,0,Á⟩]] 1).w) λk e=>k7.r k (Ã<|K3 k e) id;generalize gG BM J (É #[Ĉ (ù 50) #[] #[À<|Â ⟨r,0,Á⟩,À<|Â ⟨ba,0,Á⟩]] 1)=BN at E c7 d7 g7 f7 RO Zq|-;generalize J.heap.size=S at f7 K5|-;clear k7 c6 d6 g6 BK K4 Zp K3 RL RN BM;have K6:=E.N y;apply fP (n:=10) K6.r;iterate 3 w_go fu
 refine Ë λ_ _=> ?_;apply pB (x:=⟨B,0,Á⟩) U U (by k_ne) K6.r (by rwa[E.q]) (Ã<|Ã g7.fl) (g7.C U) (λw h=>by go_simp) (λw h=>by simp[go_sem,h]);walk_nrm;apply fP (n:=10) K6.r;u_call qM.f_add (nm_add Lk) addFn fu hF;refine Ë λ_ _=> ?_;refine YO qM (⟨Ã (by rw[E.K];exact KZ.1),Ã (by rw[E.K];exact KZ.2),λw L o s h3 h4 h5 h=>h.fe ⟨o,s,h3,h4,h5⟩⟩) (⟨K6.r,⟨E.e _ KZ.1 G3.1,E.e _ KZ.2 G3.2⟩,fE.fV _ _⟩) (E.d.trans hd) λRP Zr=> ?_;walk_nrm;apply fP (l:={BN with d:=0,w:=RP}) (n:=10) Zr.1;iterate 3 w_go fu
 refine Ë λ_ _=> ?_;refine .fA λBO xy=> ?_;have rr:fE BN BN.w BO:=Zr.2.2.fe ⟨xy.r,xy.I,xy.N,xy.Y,xy.S⟩;have s:=E.G rr;have hA9:gh (λb=>Â b=x.ownBlock) l ({BN with d:=0,w:=BO}:e9):=⟨s.O,s.c,s.S,s.Y,s.b,s.K,s.q,hd.symm,s.fw,s.I,s.r,s.f,s.g,s.e⟩;have at9:∀{b:Nat} {o:Ÿ},ia BN b o->ia ({BN with d:=0,w:=BO}:e9) b o:=λh=>⟨h.fl,(rr.I _<|Ã h.fl).trans h.I⟩;have hlen:(xs++[è<|Â a]).length=j+1:=by have:=lJ.1;simp;omega
 refine hJ0 {BN with d:=0,w:=BO} _ a r B S C _ hA9 ⟨U,U,U,U,U,U,U,U⟩ ⟨?_,RO,at9 c7,at9 d7,at9 g7,at9 f7⟩ Zl Ju BL K5 λk e=>⟨(Hk k e).2.1,(Hk k e).2.2,by have:=(Hk k e).1;omega,by have:=(Hk k e).1;omega⟩;rw[hlen];exact n5 Zq λk e=>rr.I k<|Ã<|RO k e
end
def s7(l:e9)(b:Nat):e9:={l with O:=λj=>l.O j/\j≠b,K:=λa=>l.K a\/a=⟨b,0,Á⟩\/a=⟨b,1,Á⟩}
def nt(l x:e9)(b:Nat):e9:={x with O:=λj=>x.O j\/j=b,K:=l.K}
section
variable{S:Jd}{l:e9}
def fh.RR(W:∀a,l.K a->a.block≠b){x:e9}(h:fh P yQ S x g):¬x.M b->(∀a,x.C a->a.block≠b)->x.K=(s7 l b).K->b<x.w.heap.size->(x.w.cell? ⟨b,0,Á⟩).isSome=Ò->(x.w.cell? ⟨b,1,Á⟩).isSome=Ò->jW x-> fh P yQ (λG H=>∃d,S d H/\G=nt l d b/\¬d.M b/\(∀a,d.C a->a.block≠b)/\d.K=(s7 l b).K/\b<d.w.heap.size/\d.w.heap[b]?=x.w.heap[b]?/\d.q=x.q/\jW d) (nt l x b) g:=by
 have u:∀{x:e9} {c:ß},x.K=(s7 l b).K->(x.w.cell? ⟨b,0,Á⟩).isSome=Ò->(x.w.cell? ⟨b,1,Á⟩).isSome=Ò->fE (nt l x b) x.w c->fE x x.w c:=λ{x c} f i m r=>
  ⟨r.r,λj p=>r.I j<|p.imp Ã id,r.N,r.Y,λa o q=>by
   rw[f]at o;rcases o with z|z|z
   .exact r.S a z q
   .rw[z,gM<|r.I b<|Ã<|Ç U];exact i
   .rw[z,gM (r.I b (Ã (Ç U)))];exact m⟩
 induction h with
 |@fA x g h=>
  intro s t f v i m I;refine .fA λc r=>⟨{x with w:=c},h c<|u f i m r,U,s,t,f,È v r.r,r.I b<|Ã<|Ç U,U,lH I<|u f i m r⟩
 |@jM x g G' W' E' L' iI h hd _ ih=>
  intro s t f v i m I;refine .mk iI λc r=> ?_;have B:=u f i m r;have D:=hd c B;have E:=È v r.r;have J:=λq=>s<|Ã q;have L:=D.jU b E J λa e q=>t a (Ã q) e;have F:(L' c).w.heap[b]?=x.w.heap[b]?:=by rw[D.Y];exact L.trans<|r.I b<|Ã<|Ç U
  refine⟨G' c,W' c,E' c,nt l (L' c) b,h c B,?_,?_⟩
  .refine⟨D.C,λj q=> ?_,λj q=> ?_,D.rd,D.r,D.I,U,λj p y n=>D.jU j p (λq=>y<|Ã q) n,λa o y n=>D.M a o (λq=>y<|Ã q) n,λa o y=>D.S a o λq=>y<|Ã q,D.c,D.f,D.i,λe N=> ?_,D.g,D.q,λq=> ?_,D.Y⟩
   .rcases q with q|q
    .exact(D.N j q).imp Ã id
    .exact Ã<|Ç q
   .rcases q with q|q
    .exact D.fw j q
    .rw[q];exact È E D.C
   .rcases D.b e N with⟨a,y,n⟩|h|h|h|h|⟨a,y,n⟩
    .exact Ã ⟨a,y,n.imp Ã id⟩
    .exact Ç<|Ã h
    .exact Ç<|Ç<|Ã h
    .exact Ç<|Ç<|Ç<|Ã h
    .exact Ç<|Ç<|Ç<|Ç<|Ã h
    .exact Ç<|Ç<|Ç<|Ç<|Ç ⟨a,Ã y,n⟩
   .let⟨Q,T,V⟩:=D.h q;exact⟨Q,T,by funext j;show((L' c).O j\/j=b)=(x.O j\/j=b);rw[V]⟩
  .refine(ih c B (λq=>q.elim (λz=>(D.N b z).elim J λy=>by omega) λz=>s<|Ç<|by rw[<-D.rd];exact z) (λa q=>t a<|q.imp (by rw[D.r];exact id)<|by rw[D.I];exact id) (D.k.trans f) (by rw[D.Y];exact È E D.C) (by rw[gM F];exact i) (by rw[gM F];exact m) λj p=>by rw[D.Y];exact D.fw j p).fO ?_;rintro G H ⟨d,y,e,j,n,o,p,z,N,Q⟩;exact⟨d,y,e,j,n,o,p,z.trans F,N.trans D.q,Q⟩
end
section
variable{L:WgLink}{l:e9}{J:Jd}{c:é}{k:List ŷ}{ty:ŭ}
structure ajp(b:Nat)(cc:Array Ï)(ty:ŭ)(l l':e9):Prop where
 r:gh (λj=>j=b) l l'
 O:l'.O=l.O
 C:l'.w.heap[b]?=Â (É (cc.setIfInBounds 0<|Ê ê 4294967296) ty)
theorem Zs(a:l.O b)(w:ß)(d:Nat):nt l {s7 l b with d:=d,w:=w} b={l with d:=d,w:=w}:=by
 have:(λj=>(l.O j/\j≠b)\/j=b)=l.O:=by grind
 unfold nt s7;simp only[this]
def Zt{C:Array Ï}(H:WgLib P L)(s:gw l)(hq:¬l.q)(Y:l.d=0)(x:l.O b)(M:l.w.heap[b]?=Â (É C ty))(N:C[0]?=Â (Ê ê 0))(o:(C[1]?).isSome=Ò) (hT:∀B,ajp b C ty l B->fh P yQ J B (G (c.at (y.put ((Q[i]?).bind (·.dst))<|ñ #[])<|Ñ Q jJ::k) qX)): fh P yQ J l (G ((base L.add).at ⟨#[À<|Â ⟨b,0,Á⟩,Ê Î 1,Å,Å,Å,Å,Å,Å,Å,Å,Å,Å,Å,Å,Å,Å,Å,Å,Å,Å,Å,Å,Å,Å,Å,Å,Å,Å,Å,Å,Å,Å,Å,Å,Å,Å,Å,Å,Å,Å,Å,Å,Å,Å,Å,Å,Å,Å,Å,Å,Å,Å,Å,Å,Å,Å,Å,Å,Å,Å,Å,Å,Å,Å,Å,Å,Å,Å,Å,Å,Å,Å,Å,Å,Å,Å,Å,Å,Å,Å,Å,Å,Å,Å,Å,Å,Å,Å,Å,Å,Å,Å,Å,Å,Å,Å,Å,Å,Å,Å,Å,Å,Å,Å,Å,Å,Å,Å,Å,Å,Å,Å,Å,Å,Å,Å,Å],[]⟩ [ö<|body_add L])<|c.at y (Ñ Q (i::jJ)::k)::qX):=by
 have e0:l.w.cell? ⟨b,0,Á⟩=Â (Ê ê 0):=by simp[Ö,M,N]
 have e1:(l.w.cell? ⟨b,1,Á⟩).isSome=Ò:=by let⟨u,D⟩:=Ô.1 o;simp[Ö,M,D]
 have S:∀y:â,l.K y->y.block≠b:=λy T e=>(s.S y T).1<|Ã<|e▸x;let J1:Jd:=λB g'=>g'=G (c.at (y.put ((Q[i]?).bind (·.dst))<|ñ #[])<|Ñ Q jJ::k) qX/\B={s7 l b with d:=0,w:=B.w}/\fE (s7 l b) l.w B.w
 have hW:fh P yQ (KB P yQ b J1) (s7 l b) (G ((base L.add).at ⟨#[À<|Â ⟨b,0,Á⟩,Ê Î 1,Å,Å,Å,Å,Å,Å,Å,Å,Å,Å,Å,Å,Å,Å,Å,Å,Å,Å,Å,Å,Å,Å,Å,Å,Å,Å,Å,Å,Å,Å,Å,Å,Å,Å,Å,Å,Å,Å,Å,Å,Å,Å,Å,Å,Å,Å,Å,Å,Å,Å,Å,Å,Å,Å,Å,Å,Å,Å,Å,Å,Å,Å,Å,Å,Å,Å,Å,Å,Å,Å,Å,Å,Å,Å,Å,Å,Å,Å,Å,Å,Å,Å,Å,Å,Å,Å,Å,Å,Å,Å,Å,Å,Å,Å,Å,Å,Å,Å,Å,Å,Å,Å,Å,Å,Å,Å,Å,Å,Å,Å,Å,Å,Å,Å,Å],[]⟩ [ö<|body_add L])<|c.at y (Ñ Q (i::jJ)::k)::qX):=by refine YO (Ψ:=λw=>fE (s7 l b) l.w w) H ⟨Ã<|Ç<|Ã U,Ã<|Ç<|Ç U,λw n o t a g m h=>h.fe ⟨o,t,a,g,m⟩⟩ ⟨λj f=>s.fw j<|Ã f.1,⟨by rw[show(s7 l b).w=l.w from rfl,e0];rfl,e1⟩,fE.fV _ _⟩ Y λn v=> .fA λp r=>⟨U,U,v.2.2.fe ⟨r.r,r.I,r.N,r.Y,r.S⟩⟩
 have hstart:=hW.RR S (λq=>q.elim (λz=>z.2 U) λz=>s.c b x z) (λy T e=>s.N y T<|Ã<|e▸x) U (s.fw b<|Ã x) (by rw[show(s7 l b).w=l.w from rfl,e0];rfl) e1 λj f=>s.fw j<|Ã f.1;rw[show nt l (s7 l b) b=l from Zs x l.w l.d]at hstart;apply hstart.lD;rintro l1 g1 ⟨E,⟨BP,ajq,hA⟩,rfl,Zu,Zv,tY,hlt1,nG,BB,lo1⟩;let⟨g2,Zw,V⟩:=hA 0;have sP:ê.wrap (0+fY)=fY:=by rw[show(0:Int)+fY=fY from rfl];exact JV A A
 rw[sP]at V Zw;rw[if_pos U]at V;have hqx:¬E.q:=by rwa[BB]
 refine .mk ajq λn r=> ?_;have F:=(r.I b<|Ã<|Ç U).trans<|nG.trans M;have c0:n.cell? (fM b)=Â (Ê ê 0):=by simp[Ö,fM,F,N]
 have auN:=È hlt1 r.r;have W:(n.setCell (fM b)<|Ê ê fY).heap[b]?=Â (É (C.setIfInBounds 0<|Ê ê 4294967296) ty):=by unfold þ;simp[í,fM,F,fY]
 have rx:fE E E.w (n.setCell (fM b)<|Ê ê fY):=by
  refine⟨by rw[j2];exact r.r,λj f=>((lu λe=>Zu (by have t:j=b:=e;rwa[<-t])).trans<|r.I j<|f.imp Ã id),λa g=>(gM<|lu<|Zv a g).trans<|r.N a g,λa g=>sL.trans<|r.Y a g,λa g q=> ?_⟩
  .rw[tY]at g;refine yK ?_;rcases g with z|z|z
   .exact r.S a z q
   .rw[z,gM<|r.I b<|Ã<|Ç U];rwa[z]at q
   .rw[z,gM<|r.I b<|Ã<|Ç U];rwa[z]at q
 refine⟨g2,_,_,nt l {E with w:=n.setCell (fM b) (Ê ê fY)} b,Zw n c0 (by simp[î,fM,F]),?_,?_⟩
 .refine⟨by rw[j2];exact Ú _,λ_ h=>Ã h,λj h=> ?_,U,U,U,U,λj _ o _=>lu λe=>o<|Ç e,λa _ o _=>gM (lu λe=>o<|Ç e),λ_ _ _=>ON,U,U,U,λe t=> ?_,?_,U,λq=>absurd q hqx,U⟩
  .rw[j2];rcases h with h|h
   .exact È (lo1 j h) r.r
   .rwa[h]
  .have:e=kA (fM b)\/e=mS (fM b):=by simpa using t
   rcases this with rfl|rfl
   .exact Ã ⟨fM b,U,Ã<|Ç U⟩
   .exact Ã ⟨fM b,U,Ã<|Ç U⟩
  .exact(Ņ (λe t=>by
    have:e=kA (fM b)\/e=mS (fM b):=by simpa using t
    rcases this with rfl|rfl<;>exact⟨by simp[kA,mS],by simp[kA,mS]⟩) _).symm
 have z1:((n.setCell (fM b)<|Ê ê fY).cell? ⟨b,1,Á⟩).isSome=Ò:=by let⟨u,D⟩:=Ô.1 o;exact yK<|by simp[Ö,F,D]
 have ajr:=(V.j5 rx).RR S Zu Zv tY (by show b<(n.setCell (fM b)<|Ê ê fY).heap.size;rwa[j2]) (yK<|by rw[show(⟨b,0,Á⟩:â)=fM b from rfl,c0];rfl) z1 (λj f=>by show j<(n.setCell (fM b)<|Ê ê fY).heap.size;rw[j2];exact È (lo1 j f) r.r);apply ajr.lD;rintro l2 g3 ⟨v,⟨oU,ajs,g4,ajt,hN2⟩,rfl,nM2,nC2,zf,K7,X,qe,lo2⟩;have aju:¬v.q:=by rwa[qe]
 refine .mk ajs λp m=> ?_;have I:∀a:â,a.block=b->p.cell? a=v.w.cell? a:=λa e=>gM<|m.I a.block<|Ã<|Ç e;have rx2:fE v v.w p:=⟨m.r,λj f=>m.I j<|f.imp Ã id,m.N,m.Y,λa g q=>by
  rw[zf]at g;rcases g with z|z|z
  .exact m.S a z q
  .rwa[I a (by rw[z])]
  .rwa[I a (by rw[z])]⟩
 refine⟨g4,p,_,nt l {v with w:=p} b,ajt p,?_,?_⟩
 .refine⟨Ú _,λ_ h=>Ã h,λj h=> ?_,U,U,U,U,λ_ _ _ _=>rfl,λ_ _ _ _=>rfl,λ_ _ _=>rfl,U,U,U,λe t=> ?_,?_,U,λq=>absurd q aju,U⟩
  .rcases h with h|h
   .exact È (lo2 j h) m.r
   .rw[h];exact È K7 m.r
  .have:e=jV (.read<|gW b):=by simpa using t
   rw[this];exact Ç<|Ç<|Ç<|Ç<|Ç ⟨gW b,Ç U,Ã U⟩
  .exact(Ņ (λe t=>by
    have:e=jV (.read<|gW b):=by simpa using t
    rw[this];exact⟨by simp[jV],by simp[jV]⟩) _).symm
 have z:(p.cell? ⟨b,0,Á⟩).isSome=Ò:=by rw[I _ U];have:v.w.heap[b]?=_:=X.trans W;simp[Ö,this,(æ.1 N).1]
 have y1:(p.cell? ⟨b,1,Á⟩).isSome=Ò:=by rw[I _ U];have:v.w.heap[b]?=_:=X.trans W;let⟨u,D⟩:=Ô.1 o;simp[Ö,this,(æ.1 D).1]
 have u:=(hN2.j5 rx2).RR S nM2 nC2 zf (È K7 m.r) z y1 λj f=>È (lo2 j f) m.r;apply u.lD;rintro l3 g5 ⟨x3,⟨rfl,D,t⟩,rfl,nM3,nC3,hk3,ajv,hb3,xr,lo3⟩;rw[D,Zs x];have RU:=hb3.trans<|(m.I b<|Ã<|Ç U).trans<|X.trans W;refine hT _ ⟨⟨λ_ h=>h,λ_ h=>Ã h,U,U,U,U,U,Y.symm,λj f=>È (s.fw j<|Ã f) t.r,t.r,λj f hn=>t.I j (f.imp (λq=>⟨q,hn⟩) id),t.N,t.Y,λa g=>t.S a<|Ã g⟩,U,RU⟩
end
noncomputable def RV:Ę:=kY Ĝ [1,1,1]
noncomputable def Zx:Ę:=kY Ĝ [1,1,0,1,0,0,1,1,0,0,1,1,1]
noncomputable def RY:Ę:=kY Ĝ [1,1,0,1,0,0,1,1,0,0,1,1,0,1]
noncomputable def Hl:Ę:=kY Ĝ [1,1,0,1,0,0]
noncomputable def RZ:Ę:=kY Ĝ [1,1,0,1,0,0,1,1,1]
noncomputable def BQ (t:Array Ï) (a:List é):Ý:=G ((base 46).at ⟨t,[]⟩ [ö Hl,ą Hl,ô 0,ö RV]) a
noncomputable def Hm (t:Array Ï) (a:List é):Ý:=G ((base 46).at ⟨t,[]⟩ [ö RY,ö Zx,ô 1,ö RZ,ą Hl,ô 0,ö RV]) a
structure PT(iv qv rs:Ï)(lg R i:Nat)(t:Array Ï):Prop where
 r:t.size=48
 N:t[4]?=Â iv
 S:t[5]?=Â qv
 Y:t[6]?=Â (À<|Â ⟨lg,0,Á⟩)
 C:t[13]?=Â rs
 I:t[14]?=Â (Ê Î R)
 M:t[15]?=Â (Ê Î i)
def K8(t:Array Ï)(h:t.size=48):∃a b c d e f g i j k l m n o p q r s u v w x y z B C D E F G H I J K L M N O P Q S T V W X Y qa qc:Ï,t=#[a,b,c,d,e,f,g,i,j,k,l,m,n,o,p,q,r,s,u,v,w,x,y,z,B,C,D,E,F,G,H,I,J,K,L,M,N,O,P,Q,S,T,V,W,X,Y,qa,qc]:=by obtain⟨_,rfl⟩:=xo t h;exact⟨_,_,_,_,_,_,_,_,_,_,_,_,_,_,_,_,_,_,_,_,_,_,_,_,_,_,_,_,_,_,_,_,_,_,_,_,_,_,_,_,_,_,_,_,_,_,_,_,U⟩
def ajw(w:ß)(a c:Option â)(b:Int):(Ċ 155 #[(0,À a),(1,Ê Î b),(2,À c)]).run Ä w=.ok (Đ #[À a,Ê Î b,À c,À Á]) w:=run_build w 155 _ _ fN
def ajx(w:ß)(a c:Option â)(b:Int):(Ċ 155 #[(0,À a),(1,Ê Î b),(2,À c)]).events Ä w #[]=#[]:=by unfold Ċ;simp only[Sem.events_bind];simp[go_sem]
section
variable{p:Nat}{v0 v1 v2 v3:Ï}
def ajy(h:w.heap[p]?=Â (É #[v,x,z,jQ] e)):(iU w p v0 v1 v2 v3).heap[p]?=Â (É #[v0,v1,v2,v3] e):=by unfold iU þ;simp[í,h]
def gh.iU{l c:e9}(h:gh X l c)(s:gw l)(r:fE c c.w u)(f:l.w.heap.size<=p):gh X l {c with w:=ft.iU u p v0 v1 v2 v3}:=by
 have b:=h.G r;have e:∀{j:Nat},j<l.w.heap.size->(ft.iU u p v0 v1 v2 v3).heap[j]?=u.heap[j]?:=λ{j} q=>zm Z;refine⟨b.O,b.c,b.S,b.Y,b.b,b.K,b.q,b.d,λj q=> ?_,?_,λj q n=>(e<|s.fw j q).trans<|b.r j q n,λa q=>(gM<|e<|s.I a q).trans<|b.f a q,λa q=>(wZ<|e<|s.I a q).trans<|b.g a q,λa q z=> ?_⟩
 .show j<(ft.iU u p v0 v1 v2 v3).heap.size;rw[xn];exact b.fw j q
 .show l.w.heap.size<=(ft.iU u p v0 v1 v2 v3).heap.size;rw[xn];exact b.I
 .show((ft.iU u p v0 v1 v2 v3).cell? a).isSome=Ò;rw[gM<|e (s.S a q).2.1];exact b.e a q z
def ia.rly{l:e9}{o:Ÿ}(h:ia l b o)(r:fE l l.w u):ia {l with w:=u} b o:=⟨h.fl,(r.I b<|Ã h.fl).trans h.I⟩
end
section
variable{J:Jd}{l:e9}{t:Array Ï}{iv qv:Ï}{lg R:Nat}{kd:Int}
def ajz(f:gw l)(o:¬l.q)(k:PT iv qv (Æ (Â ⟨j,0,Á⟩) R n) lg R i t)(Zy:i<R)(hR:R<1000)(T:l.M j)(V:l.w.cell? ⟨j,i,Á⟩=Â (À<|Â ⟨b,0,Á⟩))(F:l.M b)(W:l.w.cell? ⟨b,4,Á⟩=Â (Ê Î kd)) (X:∀B u a,gh ff l B->l.w.heap.size<=a->ia B a (É #[À<|Â ⟨b,0,Á⟩,Ê Î i,À<|Â ⟨lg,0,Á⟩,À Á] 155)->PT iv qv (Æ (Â ⟨j,0,Á⟩) R n) lg R i u->u[9]?=Â (À<|Â ⟨a,0,Á⟩)->u[28]?=Â (ŝ<|decide<|kd≠1)->fh Ä Ò J B (Hm u qX)): fh Ä Ò J l (BQ t qX):=by
 obtain⟨y0,y1,y2,y3,G,H,Y,y7,y8,y9,xp,zp,xq,rK,sW,qN,vC,vD,uB,uC,uD,sX,sY,sZ,rE,sS,rF,pz,ov,p7,p8,p9,uh,sT,sU,rG,rH,ui,uj,uk,um,uo,uq,uu,uw,uy,qa,qc,rfl⟩:=K8 t k.r;obtain rfl:iv=G:=(show G=iv by simpa using k.N).symm;obtain rfl:qv=H:=(show H=qv by simpa using k.S).symm;obtain rfl:Y=À (Â ⟨lg,0,Á⟩):=by simpa using k.Y
 obtain rfl:rK=Æ (Â ⟨j,0,Á⟩) R n:=by simpa using k.C
 obtain rfl:sW=Ê Î R:=by simpa using k.I
 obtain rfl:qN=Ê Î i:=by simpa using k.M
 have auO:(i:Int)<(R:Int):=Z
 have hF:True:=trivial;have rL:∀y:â,False->l.r y:=λy ha=>ha.elim;apply fP (n:=40) f.r;simp only[BQ];conv in Hl=>whnf
 repeat w_go fu
 refine Ë λ_ _=> ?_;apply pB (x:=⟨j,i,Á⟩) U U (by k_ne) f.r o (Ã T) V (λw h=>by go_simp) (λw h=>by simp[go_sem,h]);walk_nrm;apply fP (n:=40) f.r;repeat w_go fu
 refine Ë λ_ _=> ?_;refine nF (v:=Đ #[À<|Â ⟨b,0,Á⟩,Ê Î i,À<|Â ⟨lg,0,Á⟩,À Á]) U U (by k_ne) f.r o (λc r=> ?_) (λc r e C=> ?_) ?_
 .have S:=ajw c (Â ⟨b,0,Á⟩) (Â ⟨lg,0,Á⟩) i;go_simp
 .simp[go_sem,ajx c (Â ⟨b,0,Á⟩) (Â ⟨lg,0,Á⟩) i]at C
 walk_nrm;refine GR (ob:=É #[À Á,Ê Î 0,À Á,À Á] 155) U U (by k_ne) f.r o (λw=>by go_simp) (λw=>by simp[go_sem]) λc D=> ?_;walk_nrm;have s:gh ff l (gG l c<|É #[À Á,Ê Î 0,À Á,À Á] 155):=mW f D;have m:ia (gG l c<|É #[À Á,Ê Î 0,À Á,À Á] 155) c.heap.size (É #[À Á,Ê Î 0,À Á,À Á] 155):=⟨Ç U,mV⟩;have E:l.w.heap.size<=c.heap.size:=D.r;generalize gG l c (É #[À Á,Ê Î 0,À Á,À Á] 155)=l₁ at s m|-;generalize c.heap.size=a at m E|-;have I:=s.N f;have K:¬l₁.q:=by rwa[s.q]
 refine vx U U (by k_ne) λd z=> ?_;have g:=m.rly z;replace g:d.heap[a]?=_:=g.I;have L:d.cell? ⟨a,0,Á⟩=Â (À Á):=by simp[Ö,g]
 have N:d.cell? ⟨a,1,Á⟩=Â (Ê Î 0):=by simp[Ö,g]
 have O:d.cell? ⟨a,2,Á⟩=Â (À Á):=by simp[Ö,g]
 have P:d.cell? ⟨a,3,Á⟩=Â (À Á):=by simp[Ö,g]
 have Q:∀r,d.frozen? ⟨a,r,Á⟩=Ì:=λr=>by simp[î,g]
 go_simp;refine⟨{l₁ with w:=iU d a (À<|Â ⟨b,0,Á⟩) (Ê Î i) (À<|Â ⟨lg,0,Á⟩) (À Á)},KM (p:=a) (lH I.r z) K m.fl xn (λr S=>zm S) ⟨U,U,U⟩ λe C=> ?_,?_⟩
 .have S:=đ C;have e:∀r,qd l₁ ⟨a,r,Á⟩:=λr=>Ã m.fl;simp[go_sem,á _ _ _ _ _ _ (show Ø (À<|Â ⟨b,0,Á⟩)=Ò from rfl),á _ _ _ _ _ _ (show Ø (À<|Â ⟨lg,0,Á⟩)=Ò from rfl),á _ _ _ _ _ _ (show Ø (À Á)=Ò from rfl),L,N,O,P,Q]at S;rcases S with rfl|rfl|rfl|rfl
  .exact(e _).r
  .exact(e _).r
  .exact(e _).r
  .exact(e _).r
 have e:gh ff l ({l₁ with w:=iU d a (À<|Â ⟨b,0,Á⟩) (Ê Î i) (À<|Â ⟨lg,0,Á⟩) (À Á)}:e9):=s.iU f z E;have S:ia ({l₁ with w:=iU d a (À<|Â ⟨b,0,Á⟩) (Ê Î i) (À<|Â ⟨lg,0,Á⟩) (À Á)}:e9) a (É #[À<|Â ⟨b,0,Á⟩,Ê Î i,À<|Â ⟨lg,0,Á⟩,À Á] 155):=⟨m.fl,ajy g⟩;generalize({l₁ with w:=iU d a (À<|Â ⟨b,0,Á⟩) (Ê Î i) (À<|Â ⟨lg,0,Á⟩) (À Á)}:e9)=l₂ at e S|-;clear m s I K g L N O P Q z d l₁ D c;have C:=e.N f;apply fP (n:=20) C.r;repeat w_go fu
 refine Ë λ_ _=> ?_;apply pB (x:=⟨b,4,Á⟩) U U (by k_ne) C.r (by rwa[e.q]) (Ã<|e.M F) ((gM<|e.r b F id).trans W) (λw h=>by go_simp) (λw h=>by simp[go_sem,h]);walk_nrm;apply fP (n:=20) C.r;iterate 2 w_go fu
 refine Ë λ_ _=> ?_;apply X l₂ _ a e E S ⟨U,U,U,U,U,U,U⟩ U;simp;rfl
end
section
variable{J:Jd}{l:e9}{xs:List Ï}
def ajA(s:gw l)(E:¬l.q)(o:PT v x z b j i d)(Zy:i<j)(hR:j<1000)(h9:d[9]?=Â (À<|Â ⟨m,0,Á⟩))(R0:d[28]?=Â (ŝ Ò))(hn:n<1000) (h:ia l m (É #[À<|Â ⟨k,0,Á⟩,Ê Î i,À<|Â ⟨b,0,Á⟩,À Á] 155)) (lJ:l.w.ownsRow 0 155 4 x n xs) (K:∀a,x.ownBlock=Â a->l.O a) (hJ:∀B L t,gh (λf=>Â f=x.ownBlock) l B->B.w.ownsRow 0 155 4 t (n+1) (xs++[À<|Â ⟨k,0,Á⟩,Ê Î i,À<|Â ⟨b,0,Á⟩,À Á])->(∀a,t.ownBlock=Â a->B.O a)->(t.ownBlock=x.ownBlock\/∃a,t.ownBlock=Â a/\l.w.heap.size<=a)->PT v t z b j (i+1) L->fh Ä Ò J B (BQ L qX)): fh Ä Ò J l (Hm d qX):=by
 obtain⟨y0,y1,y2,y3,M,N,y6,y7,y8,y9,xp,zp,xq,P,sW,qN,vC,vD,uB,uC,uD,sX,sY,sZ,rE,sS,rF,pz,ov,p7,p8,p9,uh,sT,sU,rG,rH,ui,uj,uk,um,uo,uq,uu,uw,uy,qa,qc,rfl⟩:=K8 d o.r;obtain rfl:v=M:=(show M=v by simpa using o.N).symm;obtain rfl:x=N:=(show N=x by simpa using o.S).symm;obtain rfl:y6=À (Â ⟨b,0,Á⟩):=by simpa using o.Y
 obtain rfl:y9=À (Â ⟨m,0,Á⟩):=by simpa using h9
 obtain rfl:z=P:=(show P=z by simpa using o.C).symm;obtain rfl:sW=Ê Î j:=by simpa using o.I
 obtain rfl:qN=Ê Î i:=by simpa using o.M
 obtain rfl:ov=ŝ Ò:=by simpa using R0
 have hF:True:=trivial;apply fP (n:=40) s.r;simp only[Hm];conv in RY=>whnf
 conv in RZ=>whnf
 repeat w_go fu
 refine Ë λ_ _=> ?_;refine nF (v:=Đ #[À<|Â ⟨k,0,Á⟩,Ê Î i,À<|Â ⟨b,0,Á⟩,À Á]) U U (by k_ne) s.r E (λp r=> ?_) (λp r e y=> ?_) ?_
 .skip;have C:p.cell? ⟨m,0,Á⟩=Â (À<|Â ⟨k,0,Á⟩):=(gY.r (show gY l ⟨m,0,Á⟩from Ã<|Ã h.fl) r).trans<|h.C U;have D:p.cell? ⟨m,1,Á⟩=Â (Ê Î i):=(gY.r (show gY l ⟨m,1,Á⟩from Ã<|Ã h.fl) r).trans<|h.C U;have F:p.cell? ⟨m,2,Á⟩=Â (À<|Â ⟨b,0,Á⟩):=(gY.r (show gY l ⟨m,2,Á⟩from Ã<|Ã h.fl) r).trans<|h.C U;have G:p.cell? ⟨m,3,Á⟩=Â (À Á):=(gY.r (show gY l ⟨m,3,Á⟩from Ã<|Ã h.fl) r).trans<|h.C U;go_simp
 .have u:∀g,gY l ⟨m,g,Á⟩:=λg=>Ã<|Ã h.fl;have C:p.cell? ⟨m,0,Á⟩=Â (À<|Â ⟨k,0,Á⟩):=(gY.r (show gY l ⟨m,0,Á⟩from Ã<|Ã h.fl) r).trans<|h.C U;have D:p.cell? ⟨m,1,Á⟩=Â (Ê Î i):=(gY.r (show gY l ⟨m,1,Á⟩from Ã<|Ã h.fl) r).trans<|h.C U;have F:p.cell? ⟨m,2,Á⟩=Â (À<|Â ⟨b,0,Á⟩):=(gY.r (show gY l ⟨m,2,Á⟩from Ã<|Ã h.fl) r).trans<|h.C U;have G:p.cell? ⟨m,3,Á⟩=Â (À Á):=(gY.r (show gY l ⟨m,3,Á⟩from Ã<|Ã h.fl) r).trans<|h.C U;simp[go_sem,C,D,F,G]at y;rcases y with rfl|rfl|rfl|rfl
  .exact(u _).rd
  .exact(u _).rd
  .exact(u _).rd
  .exact(u _).rd
 walk_nrm;refine pE (V:=λp=>Æ (Â ⟨p,0,Á⟩) 1 1) (ob:=É #[À<|Â ⟨k,0,Á⟩,Ê Î i,À<|Â ⟨b,0,Á⟩,À Á] 155) U U (by k_ne) s.r E (λw=>by go_simp) (λw=>by simp[go_sem]) λr Q=> ?_;walk_nrm;have p:=mW (X:=ff) (ob:=É #[À<|Â ⟨k,0,Á⟩,Ê Î i,À<|Â ⟨b,0,Á⟩,À Á] 155) s Q;have y:ia (gG l r<|É #[À<|Â ⟨k,0,Á⟩,Ê Î i,À<|Â ⟨b,0,Á⟩,À Á] 155) r.heap.size (É #[À<|Â ⟨k,0,Á⟩,Ê Î i,À<|Â ⟨b,0,Á⟩,À Á] 155):=⟨Ç U,mV⟩;have C:∀a,x.ownBlock=Â a->(gG l r<|É #[À<|Â ⟨k,0,Á⟩,Ê Î i,À<|Â ⟨b,0,Á⟩,À Á] 155).O a:=λa e=>Ã<|K a e;have F:=n5 lJ (w₁:=(gG l r<|É #[À<|Â ⟨k,0,Á⟩,Ê Î i,À<|Â ⟨b,0,Á⟩,À Á] 155).w) λa e=>p.r a (Ã<|K a e) id;generalize gG l r (É #[À<|Â ⟨k,0,Á⟩,Ê Î i,À<|Â ⟨b,0,Á⟩,À Á] 155)=l₄ at p y C F|-;generalize r.heap.size=px at y|-;have G:=p.N s;have S:¬l₄.q:=by rwa[p.q]
 have Ei:Ä.info? 155=Â Ą:=ļ;refine G6 (v:=x) (us:=[À<|Â ⟨k,0,Á⟩,Ê Î i,À<|Â ⟨b,0,Á⟩,À Á]) (px:=px) (c:=1) (n:=n) (sz:=4) (xs:=xs) (inf:=Ą) (z:=Đ #[À Á,Ê Î 0,À Á,À Á]) U U (by k_ne) G S U U U Ľ Ei U U Z U U (by simp[Ą];omega) (by simp only[œ];omega) F C y.fl (λg u D=>y.C<|by simpa using D) (by simp[Ø]) λu g D H T W Y uG=> ?_;walk_nrm;have k5:gh (λf=>Â f=x.ownBlock) l₄ (mX l₄ u D):=KR G H W λa e=>⟨C a e,e.symm⟩;have I:gh (λf=>Â f=x.ownBlock) l (mX l₄ u D):=(p.fO λ_ _ q=>q.elim).fe k5;have R1:g.ownBlock=x.ownBlock\/∃a,g.ownBlock=Â a/\l.w.heap.size<=a:=uG.imp id λq=>⟨_,q,Õ p.I H.r⟩;have xx:(mX l₄ u D).w.ownsRow 0 155 4 g (n+1) (xs++[À<|Â ⟨k,0,Á⟩,Ê Î i,À<|Â ⟨b,0,Á⟩,À Á]):=T;generalize mX l₄ u D=s6 at I xx Y|-;clear p k5 W T uG y G S C F H Q;have rQ:=I.N s;have hw:Î.wrap ((i:Int)+1)=((i+1:Nat):Int):=by rw[Bt Z Z];omega
 apply fP (n:=40) rQ.r;repeat w_go fu
 refine Ë λ_ _=> ?_;refine hJ s6 _ g I xx Y R1 ⟨U,U,U,U,U,U,?_⟩;simp[hw]
def ajB(G:gw l)(hq:¬l.q)(hd:l.d=0)(I:PT v x z b j i d)(Zy:i<j)(hR:j<1000)(h9:d[9]?=Â (À<|Â ⟨m,0,Á⟩))(R0:d[28]?=Â (ŝ Ì))(hn:n<1000) (h0:ia l m (É #[À<|Â ⟨k,0,Á⟩,Ê Î i,À<|Â ⟨b,0,Á⟩,À Á] 155)) (lJ:l.w.ownsRow 0 155 4 v n xs) (hO:∀f,v.ownBlock=Â f->l.O f) (s5:v.ownBlock≠Â m) (hJ:∀T t' W s,gh (λg=>Â g=v.ownBlock\/g=m) l T->T.w.ownsRow 0 155 4 W (n+1) (xs++[À<|Â ⟨k,0,Á⟩,Ê Î i,À<|Â ⟨b,0,Á⟩,À<|Â ⟨s,0,Á⟩])->(∀f,W.ownBlock=Â f->T.O f)->(W.ownBlock=v.ownBlock\/∃f,W.ownBlock=Â f/\s<f)->l.w.heap.size<=s->ia T s (É #[Ê ê 4294967296,Ê Ď 0,Æ Á 0 0] 105)->PT W x z s j (i+1) t'->fh Ä Ò J T (BQ t' qX)): fh Ä Ò J l (Hm d qX):=by
 obtain⟨y0,y1,y2,y3,y4,y5,y6,y7,y8,y9,xp,zp,xq,rK,sW,qN,vC,vD,uB,uC,uD,sX,sY,sZ,rE,sS,rF,pz,ov,p7,p8,p9,uh,sT,sU,rG,rH,ui,uj,uk,um,uo,uq,uu,uw,uy,qa,qc,rfl⟩:=K8 d I.r;obtain rfl:v=y4:=(show y4=v by simpa using I.N).symm;obtain rfl:x=y5:=(show y5=x by simpa using I.S).symm;obtain rfl:y6=À (Â ⟨b,0,Á⟩):=by simpa using I.Y
 obtain rfl:y9=À (Â ⟨m,0,Á⟩):=by simpa using h9
 obtain rfl:z=rK:=(show rK=z by simpa using I.C).symm;obtain rfl:sW=Ê Î j:=by simpa using I.I
 obtain rfl:qN=Ê Î i:=by simpa using I.M
 obtain rfl:ov=ŝ Ì:=by simpa using R0
 have hF:True:=trivial;apply fP (n:=40) G.r;simp only[Hm];conv in RY=>whnf
 conv in Zx=>whnf
 conv in RZ=>whnf
 repeat w_go fu
 refine Ë λ_ _=> ?_;refine GR (ob:=É #[Ê ê 0,Ê Ď 0,Æ Á 0 0] 105) U U (by k_ne) G.r hq (λw=>by go_simp) (λw=>by simp[go_sem]) λD kh=> ?_;walk_nrm;have t:gh ff l (gG l D<|É #[Ê ê 0,Ê Ď 0,Æ Á 0 0] 105):=mW G kh;have F:ia (gG l D<|É #[Ê ê 0,Ê Ď 0,Æ Á 0 0] 105) D.heap.size (É #[Ê ê 0,Ê Ď 0,Æ Á 0 0] 105):=⟨Ç U,mV⟩;have Hn:l.w.heap.size<=D.heap.size:=kh.r;generalize gG l D (É #[Ê ê 0,Ê Ď 0,Æ Á 0 0] 105)=l₁ at t F|-;generalize D.heap.size=s at F Hn|-;clear kh D;have xv:=t.N G;have BB:¬l₁.q:=by rwa[t.q]
 have htl:m<l.w.heap.size:=G.fw m<|Ã h0.fl;have t1:=h0.r t id;apply fP (n:=40) xv.r;iterate 7 w_go fu
 u_call qM.f_add (nm_add Lk) addFn fu hF
 refine Ë λ_ _=> ?_;refine Zt qM xv BB (by rwa[t.d]) F.fl F.I U U λy hC=> ?_;walk_nrm;have E:gh (λg=>g=s) l₁ y:=hC.r;have K9:gh ff l y:=⟨λf q=>E.O f<|t.O f q,λf q=>(E.c f q).elim (t.c f) λh=>Ç<|Õ t.I h,E.S.trans t.S,E.Y.trans t.Y,E.b.trans t.b,E.K.trans t.K,E.q.trans t.q,E.d.trans t.d,E.fw,Õ t.I E.I,λo Y nx=>(E.r o (t.M Y) λe=>by have:=G.fw o Y;omega).trans<|t.r o Y nx,λa H=>(E.f a<|by rwa[t.C]).trans<|t.f a H,λa H=>(E.g a<|by rwa[t.C]).trans<|t.g a H,λa H h=>E.e a (by rwa[t.K])<|t.e a H h⟩;have L:=t1.r E Z;have N:ia y s (É #[Ê ê 4294967296,Ê Ď 0,Æ Á 0 0] 105):=⟨E.O s F.fl,hC.C⟩;have rM:=K9.N G;have qe:¬y.q:=by rwa[K9.q]
 have hgl:s<y.w.heap.size:=rM.fw s<|Ã N.fl;clear hC E t1 F t xv BB l₁;apply fP (n:=40) rM.r;iterate 5 w_go fu
 refine Ë λ_ _=> ?_;refine G5 (p:=m) (off:=3) (v:=À<|Â ⟨s,0,Á⟩) (u:=À Á) U U (by k_ne) rM.r qe L.fl (L.C U) (by simp[î,L.I]) U (λw r S=>by go_simp) (λw r S=>by simp[go_sem,á _ _ _ _ _ _ (show Ø (À<|Â ⟨s,0,Á⟩)=Ò from rfl),r,S]) ?_;have P:gh (λg=>g=m) l {y with w:=y.w.setCell ⟨m,3,Á⟩ (À<|Â ⟨s,0,Á⟩)}:=(K9.fO λ_ _ q=>q.elim).fe (KQ (p:=m) rM (fE.fV _ _) L.fl U j2 λo Y=>lu Y);have B:ia {y with w:=y.w.setCell ⟨m,3,Á⟩ (À<|Â ⟨s,0,Á⟩)} m (É #[À<|Â ⟨k,0,Á⟩,Ê Î i,À<|Â ⟨b,0,Á⟩,À<|Â ⟨s,0,Á⟩] 155):=⟨L.fl,by show(y.w.setCell ⟨m,3,Á⟩<|À<|Â ⟨s,0,Á⟩).heap[m]?=_;unfold þ;simp[í,L.I]⟩;have g3:ia {y with w:=y.w.setCell ⟨m,3,Á⟩ (À<|Â ⟨s,0,Á⟩)} s (É #[Ê ê 4294967296,Ê Ď 0,Æ Á 0 0] 105):=⟨N.fl,(lu<|by show s≠m;omega).trans N.I⟩;have ajC:s<({y with w:=y.w.setCell ⟨m,3,Á⟩ (À<|Â ⟨s,0,Á⟩)}:e9).w.heap.size:=by show s<(y.w.setCell ⟨m,3,Á⟩<|À<|Â ⟨s,0,Á⟩).heap.size;rwa[j2]
 generalize({y with w:=y.w.setCell ⟨m,3,Á⟩ (À<|Â ⟨s,0,Á⟩)}:e9)=ky at P B g3 ajC|-;clear L N K9 rM qe hgl y;have Q:=P.N G;have xr:¬ky.q:=by rwa[P.q]
 have Ej:∀f,v.ownBlock=Â f->ky.O f:=λf e=>P.O f<|hO f e;have K0:ky.w.ownsRow 0 155 4 v n xs:=n5 lJ λf e=>P.r f (Ã<|hO f e) λh=>s5<|h▸e;apply fP (n:=40) Q.r;iterate 3 w_go fu
 refine Ë λ_ _=> ?_;refine nF (v:=Đ #[À<|Â ⟨k,0,Á⟩,Ê Î i,À<|Â ⟨b,0,Á⟩,À<|Â ⟨s,0,Á⟩]) U U (by k_ne) Q.r xr (λD r=> ?_) (λD r e he=> ?_) ?_
 .skip;have g0:D.cell? ⟨m,0,Á⟩=Â (À<|Â ⟨k,0,Á⟩):=(gY.r (show gY ky ⟨m,0,Á⟩from Ã<|Ã B.fl) r).trans<|B.C U;have F:D.cell? ⟨m,1,Á⟩=Â (Ê Î i):=(gY.r (show gY ky ⟨m,1,Á⟩from Ã<|Ã B.fl) r).trans<|B.C U;have N:D.cell? ⟨m,2,Á⟩=Â (À<|Â ⟨b,0,Á⟩):=(gY.r (show gY ky ⟨m,2,Á⟩from Ã<|Ã B.fl) r).trans<|B.C U;have g3:D.cell? ⟨m,3,Á⟩=Â (À<|Â ⟨s,0,Á⟩):=(gY.r (show gY ky ⟨m,3,Á⟩from Ã<|Ã B.fl) r).trans<|B.C U;go_simp
 .have S:∀o,gY ky ⟨m,o,Á⟩:=λo=>Ã<|Ã B.fl;have g0:D.cell? ⟨m,0,Á⟩=Â (À<|Â ⟨k,0,Á⟩):=(gY.r (show gY ky ⟨m,0,Á⟩from Ã<|Ã B.fl) r).trans<|B.C U;have F:D.cell? ⟨m,1,Á⟩=Â (Ê Î i):=(gY.r (show gY ky ⟨m,1,Á⟩from Ã<|Ã B.fl) r).trans<|B.C U;have N:D.cell? ⟨m,2,Á⟩=Â (À<|Â ⟨b,0,Á⟩):=(gY.r (show gY ky ⟨m,2,Á⟩from Ã<|Ã B.fl) r).trans<|B.C U;have g3:D.cell? ⟨m,3,Á⟩=Â (À<|Â ⟨s,0,Á⟩):=(gY.r (show gY ky ⟨m,3,Á⟩from Ã<|Ã B.fl) r).trans<|B.C U;simp[go_sem,g0,F,N,g3]at he;rcases he with rfl|rfl|rfl|rfl
  .exact(S _).rd
  .exact(S _).rd
  .exact(S _).rd
  .exact(S _).rd
 walk_nrm;refine pE (V:=λp=>Æ (Â ⟨p,0,Á⟩) 1 1) (ob:=É #[À<|Â ⟨k,0,Á⟩,Ê Î i,À<|Â ⟨b,0,Á⟩,À<|Â ⟨s,0,Á⟩] 155) U U (by k_ne) Q.r xr (λw=>by go_simp) (λw=>by simp[go_sem]) λS BD=> ?_;walk_nrm;have r:=mW (X:=ff) (ob:=É #[À<|Â ⟨k,0,Á⟩,Ê Î i,À<|Â ⟨b,0,Á⟩,À<|Â ⟨s,0,Á⟩] 155) Q BD;have p4:ia (gG ky S<|É #[À<|Â ⟨k,0,Á⟩,Ê Î i,À<|Â ⟨b,0,Á⟩,À<|Â ⟨s,0,Á⟩] 155) S.heap.size (É #[À<|Â ⟨k,0,Á⟩,Ê Î i,À<|Â ⟨b,0,Á⟩,À<|Â ⟨s,0,Á⟩] 155):=⟨Ç U,mV⟩;have xw:∀f,v.ownBlock=Â f->(gG ky S<|É #[À<|Â ⟨k,0,Á⟩,Ê Î i,À<|Â ⟨b,0,Á⟩,À<|Â ⟨s,0,Á⟩] 155).O f:=λf e=>Ã<|Ej f e;have BF:=n5 K0 (w₁:=(gG ky S<|É #[À<|Â ⟨k,0,Á⟩,Ê Î i,À<|Â ⟨b,0,Á⟩,À<|Â ⟨s,0,Á⟩] 155).w) λf e=>r.r f (Ã<|Ej f e) id;generalize gG ky S (É #[À<|Â ⟨k,0,Á⟩,Ê Î i,À<|Â ⟨b,0,Á⟩,À<|Â ⟨s,0,Á⟩] 155)=l₄ at r p4 xw BF|-;generalize S.heap.size=px at p4|-;have zv:=r.N Q;have BG:¬l₄.q:=by rwa[r.q]
 have Ei:Ä.info? 155=Â Ą:=ļ;refine G6 (v:=v) (us:=[À<|Â ⟨k,0,Á⟩,Ê Î i,À<|Â ⟨b,0,Á⟩,À<|Â ⟨s,0,Á⟩]) (px:=px) (c:=1) (n:=n) (sz:=4) (xs:=xs) (inf:=Ą) (z:=Đ #[À Á,Ê Î 0,À Á,À Á]) U U (by k_ne) zv BG U U U Ľ Ei U U Z U U (by simp[Ą];omega) (by simp only[œ];omega) BF xw p4.fl (λo u hu=>p4.C<|by simpa using hu) (by simp[Ø]) λrO BA La BH sJ Hj BJ uG=> ?_;walk_nrm;have k5:gh (λg=>Â g=v.ownBlock) l₄ (mX l₄ rO La):=KR zv BH Hj λf e=>⟨xw f e,e.symm⟩;have vI:gh (λg=>Â g=v.ownBlock) ky (mX l₄ rO La):=(r.fO λ_ _ q=>q.elim).fe k5;have R1:BA.ownBlock=v.ownBlock\/∃f,BA.ownBlock=Â f/\ky.w.heap.size<=f:=uG.imp id λq=>⟨_,q,Õ r.I BH.r⟩;have xx:(mX l₄ rO La).w.ownsRow 0 155 4 BA (n+1) (xs++[À<|Â ⟨k,0,Á⟩,Ê Î i,À<|Â ⟨b,0,Á⟩,À<|Â ⟨s,0,Á⟩]):=sJ;generalize mX l₄ rO La=s6 at vI xx BJ|-;clear r k5 Hj sJ uG p4 zv BG xw BF BH BD;have rQ:=vI.N Q;have hw:Î.wrap ((i:Int)+1)=((i+1:Nat):Int):=by rw[Bt Z Z];omega
 have g5:=g3.r vI<|Zj lJ Hn;have BK:gh (λg=>Â g=v.ownBlock\/g=m) l s6:=(P.fO λ_ _ q=>Ç q).fe (vI.fO λ_ _ q=>Ã q);apply fP (n:=40) rQ.r;repeat w_go fu
 refine Ë λ_ _=> ?_;refine hJ s6 _ BA s BK xx BJ (R1.imp id λ⟨f,q1,q2⟩=>⟨f,q1,Z⟩) Hn g5 ⟨U,U,U,U,U,U,?_⟩;simp[hw]
end
def gZ(kd:Nat->Int)(i:Nat):List Nat:=(ã i).filter λj=>decide<|kd j=1
def jz(kd:Nat->Int)(i:Nat):List Nat:=(ã i).filter λj=>decide<|kd j≠1
def fK(kd:Nat->Int)(i:Nat):Nat:=(gZ kd i).length
def tI(a g:Nat->Nat)(p:Nat×Nat):List Ï:=[À<|Â ⟨a p.1,0,Á⟩,Ê Î p.1,À<|Â ⟨g p.2,0,Á⟩,À<|Â ⟨g<|p.2+1,0,Á⟩]
def tQ(kd:Nat->Int)(a g:Nat->Nat)(p:Nat):List Ï:=[À<|Â ⟨a p,0,Á⟩,Ê Î p,À<|Â ⟨g<|fK kd p,0,Á⟩,À Á]
def jO(kd:Nat->Int)(rq g:Nat->Nat)(i:Nat):List Ï:=(gZ kd i).zipIdx.flatMap<|tI rq g
def mI(kd:Nat->Int)(a g:Nat->Nat)(i:Nat):List Ï:=(jz kd i).flatMap<|tQ kd a g
section
variable{kd:Nat->Int}{rq g:Nat->Nat}
def s8(h:kd i=1):gZ kd (i+1)=gZ kd i++[i]:=by simp[gZ,ÿ,ā,h]
def vK(h:kd i≠1):gZ kd (i+1)=gZ kd i:=by simp[gZ,ÿ,ā,h]
def R2(h:kd i=1):jz kd (i+1)=jz kd i:=by simp[jz,ÿ,ā,h]
theorem R3(h:kd i≠1):jz kd (i+1)=jz kd i++[i]:=by simp[jz,ÿ,ā,h]
def R4:∀i,fK kd i<=i:=λi=>by unfold fK gZ;exact Õ (ģ _ _) fj
def ajD:∀i,(jz kd i).length<=i:=λi=>by unfold jz;exact Õ (ģ _ _) fj
def Zz(h:j<=i):fK kd j<=fK kd i:=by
 induction i with
 |zero=>
  have:j=0:=Z
  rw[this];exact Ú _
 |succ i c=>
  by_cases e:j=i+1
  .rw[e];exact Ú _
  .have a:=c Z;by_cases b:kd i=1
   .unfold fK at a|-;rw[s8 b];simp;omega
   .unfold fK at a|-;rwa[vK b]
def ajE(h:kd i=1):jO kd rq g (i+1)=jO kd rq g i++tI rq g (i,fK kd i):=by unfold jO;rw[s8 h,List.zipIdx_append,List.flatMap_append];simp[fK]
def ajF(h:kd i≠1):jO kd rq g (i+1)=jO kd rq g i:=by unfold jO;rw[vK h]
def ajG(h:kd i=1):mI kd rq g (i+1)=mI kd rq g i:=by unfold mI;rw[R2 h]
theorem ajH(h:kd i≠1):mI kd rq g (i+1)=mI kd rq g i++tQ kd rq g i:=by unfold mI;grind [R3]
def R5{α:Type}{f a:α->List Ï}:∀(l:List α),(∀x∈l,f x=a x)->l.flatMap f=l.flatMap a
 |[],_=>rfl
 |x::l,h=>by rw[Ć,Ć,h x List.mem_cons_self,R5 l λy b=>h y<|List.mem_cons_of_mem _ b]
def ajI(h:∀k,k<=fK kd i->D k=g k):jO kd rq D i=jO kd rq g i:=by
 unfold jO;refine R5 _ λx a=> ?_;let⟨p,k⟩:=x;have b:=(List.mem_zipIdx a).2.1;have c:k<fK kd i:=by unfold fK;omega
 simp[tI,h k Z,h (k+1) Z]
def ajJ(h:∀k,k<=fK kd i->D k=g k):mI kd rq D i=mI kd rq g i:=by
 unfold mI;refine R5 _ λp a=> ?_;have b:p<i:=by have:=(Ā.1 a).1;simpa using this
 simp[tQ,h (fK kd p)<|Zz Z]
def R6{α:Type}{f:α->List Ï}(a:∀x,(f x).length=4)(b:i<4):∀(l:List α) (k:Nat) (x:α),l[k]?=Â x->(l.flatMap f)[k*4+i]?=(f x)[i]?
 |[],k,x,h=>by simp at h
 |y::l,0,x,h=>by
  obtain rfl:y=x:=by simpa using h
  rw[Ć,List.getElem?_append_left (by rw[a];omega)];simp
 |y::l,k+1,x,h=>by rw[Ć,List.getElem?_append_right (by rw[a];omega),a,show(k+1)*4+i-4=k*4+i by omega];exact R6 a b l k x<|by simpa using h
end
section
variable{Y:Nat->Prop}{l m o:e9}
def gh.vL(h:gh X l m)(k:gh Y m o)(e:∀j,l.M j->¬Y j):gh X l o:= ⟨λj q=>k.O j<|h.O j q,λj q=>(k.c j q).elim (h.c j) λz=>Ç<|Õ h.I z,k.S.trans h.S,k.Y.trans h.Y,k.b.trans h.b,k.K.trans h.K,k.q.trans h.q,k.d.trans h.d,k.fw,Õ h.I k.I,λj c f=>(k.r j (h.M c)<|e j c).trans<|h.r j c f,λa b=>(k.f a<|by rwa[h.C]).trans<|h.f a b,λa b=>(k.g a<|by rwa[h.C]).trans<|h.g a b,λa b z=>k.e a (by rwa[h.K])<|h.e a b z⟩
end
abbrev R7:Ÿ:=É #[Ê ê 4294967296,Ê Ď 0,Æ Á 0 0] 105
structure zw(kd:Nat->Int)(rq g:Nat->Nat)(S i:Nat)(iv qv:Ï)(l0 l:e9):Prop where
 r:gh ff l0 l
 jO:l.w.ownsRow 0 155 4 iv (fK kd i) (jO kd rq g i)
 mI:l.w.ownsRow 0 155 4 qv (jz kd i).length (mI kd rq g i)
 C:∀k,iv.ownBlock=Â k->l.O k/\l0.w.heap.size<=k
 I:∀k,qv.ownBlock=Â k->l.O k/\l0.w.heap.size<=k
 M:∀k,iv.ownBlock=Â k->qv.ownBlock≠Â k
 N:∀k,1<=k->k<=fK kd i->ia l (g k) R7/\l0.w.heap.size<=g k/\iv.ownBlock≠Â (g k)/\qv.ownBlock≠Â (g k)
 g0:g 0<l0.w.heap.size
 S:g 0=S
 Y:∀k k',k<k'->k'<=fK kd i->g k<g k'
section
variable{kd:Nat->Int}{rq g:Nat->Nat}{iv qv:Ï}{l0 l m o:e9}
theorem zw.ajK(h:zw kd rq g n i iv qv l0 l)(C:gw l0)(s:gw l)(t:kd i≠1)(a:gh ff l m)(d:gh (λb=>Â b=qv.ownBlock) m o)(G:o.w.ownsRow 0 155 4 v ((jz kd i).length+1) (ft.mI kd rq g i++tQ kd rq g i))(D:∀k,v.ownBlock=Â k->o.O k)(u:v.ownBlock=qv.ownBlock\/∃k,v.ownBlock=Â k/\m.w.heap.size<=k):zw kd rq g n (i+1) iv v l0 o:=by
 have p:fK kd (i+1)=fK kd i:=by unfold fK;rw[vK t]
 have x:∀{j},l.O j->qv.ownBlock≠Â j->v.ownBlock≠Â j:=λ{j} c hn e=>by
  rcases u with z|⟨k,q,B⟩
  .grind
  .rw[q]at e;have:=Ó e;have:=(λc=>È (s.fw _<|Ã c) a.I) c;omega
 refine⟨(h.r.fe a).vL d λj c e=> ?_,?_,?_,λk e=>⟨d.O k<|a.O k (h.C k e).1,(h.C k e).2⟩,λk e=>⟨D k e,?_⟩,λk e=>x (h.C k e).1<|h.M k e,λk r f=> ?_,h.g0,h.S,λk y r f=>h.Y k y r<|by rwa[<-p]⟩
 .have:=(h.I j e.symm).2;have:=C.fw j c;omega
 .rw[p,ajF t];refine n5 h.jO λk e=>(d.r k (Ã<|a.O k (h.C k e).1) λz=>h.M k e z.symm).trans<|a.r k (Ã (h.C k e).1) id
 .grind [R3,ajH]
 .rcases u with z|⟨y,q,B⟩
  .rw[z]at e;exact(h.I k e).2
  .rw[q]at e;have:=Ó e;have:=h.r.I;have:=a.I;omega
 .rw[p]at f;let⟨q,E,F,B⟩:=h.N k r f;exact⟨(q.r a id).r d λz=>B z.symm,E,F,x q.fl B⟩
theorem zw.kO{tb:Nat}(h:zw kd rq g n i iv qv l0 l)(F:gw l0)(s:gw l)(a:kd i=1)(c:gh ff l m)(P:l.w.heap.size<=tb)(p:gh (λb=>Â b=iv.ownBlock\/b=tb) m o)(G:o.w.ownsRow 0 155 4 v (fK kd i+1) (ft.jO kd rq g i++[À<|Â ⟨rq i,0,Á⟩,Ê Î i,À<|Â ⟨g<|fK kd i,0,Á⟩,À<|Â ⟨J,0,Á⟩]))(H:∀k,v.ownBlock=Â k->o.O k)(u:v.ownBlock=iv.ownBlock\/∃k,v.ownBlock=Â k/\J<k)(Q:m.w.heap.size<=J)(I:ia o J R7):zw kd rq (λk=>if k<=fK kd i then g k else J) n (i+1) v qv l0 o:=by
 have x:fK kd (i+1)=fK kd i+1:=by unfold fK;rw[s8 a];simp
 have S:=h.r.I;have T:=c.I;have d:∀{j},l.O j->j<l.w.heap.size:=λq=>s.fw _<|Ã q;have B:∀{j},l.O j->iv.ownBlock≠Â j->v.ownBlock≠Â j:=λ{j} q hn e=>by grind
 have C:∀k,k<=fK kd i->(if k<=fK kd i then g k else J)=g k:=λk a=>if_pos a;refine⟨(h.r.fe c).vL p λj q e=> ?_,?_,?_,λk e=>⟨H k e,?_⟩,λk e=>⟨p.O k<|c.O k (h.I k e).1,(h.I k e).2⟩,λk e z=>B (h.I k z).1 (λy=>h.M k y z) e,λk t D=> ?_,?_,?_,λk r t D=> ?_⟩
 .have:=F.fw j q;rcases e with e|e
  .have:=(h.C j e.symm).2;omega
  .omega
 .rw[x,ajE a,ajI C];simpa[tI,show¬(fK kd i+1<=fK kd i) by omega]using G
 .rw[R2 a,ajG a,ajJ C];refine n5 h.mI λk e=> ?_;refine(p.r k (Ã<|c.O k (h.I k e).1) ?_).trans<|c.r k (Ã (h.I k e).1) id;rintro(z|z)
  .exact h.M k z.symm e
  .have:=d (h.I k e).1;omega
 .rcases u with z|⟨r,K,L⟩
  .rw[z]at e;exact(h.C k e).2
  .grind
 .by_cases y:k<=fK kd i
  .simp only[if_pos y];let⟨f,M,E,N⟩:=h.N k t y;refine⟨(f.r c id).r p ?_,M,B f.fl E,N⟩;rintro(z|z)
   .exact E z.symm
   .have:=d f.fl;omega
  .simp only[if_neg y];refine⟨I,Z,λe=> ?_,λe=> ?_⟩
   .rcases u with z|⟨r,K,L⟩
    .rw[z]at e;have:=d (h.C J e).1;omega
    .grind
   .have:=d (h.I J e).1;omega
 .simp only[ă,if_true];exact h.g0
 .simp only[ă,if_true];exact h.S
 .rw[x]at D;by_cases y:r<=fK kd i
  .simp only[if_pos y,if_pos (show k<=fK kd i by omega)];exact h.Y k r t y
  .simp only[if_neg y,if_pos (show k<=fK kd i by omega)];by_cases E:k=0
   .subst E;have:=h.g0;omega
   .let⟨f,_⟩:=h.N k Z Z;have:=d f.fl;omega
end
section
variable{J:Jd}{ra:Option â}{rb cr R:Nat}{cs:List é}{kd:Nat->Int}{rq:Nat->Nat}{l0:e9}
def R8(j:gw l0)(u:¬l0.q)(v:l0.d=0)(m:R<1000)(p:0<R->ra=Â ⟨rb,0,Á⟩)(x:0<R->l0.M rb)(y:∀i,i<R->l0.w.cell? ⟨rb,i,Á⟩=Â (À<|Â ⟨rq i,0,Á⟩))(r:∀i,i<R->l0.M (rq i))(z:∀i,i<R->l0.w.cell? ⟨rq i,4,Á⟩=Â (Ê Î<|kd i)) (B:∀g N P a b,zw kd rq g n R a b l0 N->PT a b (Æ ra R cr) (g<|fK kd R) R R P->fh Ä Ò J N (BQ P cs)): ∀d i,R=i+d->∀g l t a b,zw kd rq g n i a b l0 l->PT a b (Æ ra R cr) (g<|fK kd i) R i t->fh Ä Ò J l (BQ t cs)
 |0,i,hi,g,l,t,a,b,hP,hT=>by obtain rfl:R=i:=hi;exact B g l t a b hP hT
 |d+1,i,hi,g,l,t,a,b,hP,hT=>by
  have f:i<R:=Z
  have o:=hP.r.N j;have Q:¬l.q:=by rwa[hP.r.q]
  have S:=x Z;refine ajz o Q (by rwa[<-p Z]) f m (hP.r.M S) ((gM<|hP.r.r rb S id).trans<|y i f) (hP.r.M<|r i f) ((gM<|hP.r.r _ (r i f) id).trans<|z i f) λl1 t1 T c s5 V C W s=> ?_;rw[<-p Z]at C;have X:=c.N o;have Y:¬l1.q:=by rwa[c.q]
  have hc:=R4 (kd:=kd) i;have Lb:=ajD (kd:=kd) i;by_cases h:kd i=1
  .rw[decide_eq_false (by simpa using h)]at s;refine ajB X Y (by rwa[c.d,hP.r.d]) C f m W s Z V (n5 hP.jO λk e=>c.r k (Ã (hP.C k e).1) id) (λk e=>c.O k (hP.C k e).1) (λe=>by have:=o.fw T<|Ã (hP.C T e).1;omega) λD E iv' gt F G H I Hn hg K=> ?_;apply R8 j u v m p x y r z B d (i+1) Z _ D E iv' b (hP.kO j o h c s5 F G H I Hn hg);have L:fK kd (i+1)=fK kd i+1:=by unfold fK;rw[s8 h];simp
   rw[L];simp only[show¬(fK kd i+1<=fK kd i) by omega,if_false];exact K
  .rw[decide_eq_true (by simpa using h)]at s;refine ajA X Y C f m W s Z V (n5 hP.mI λk e=>c.r k (Ã (hP.I k e).1) id) (λk e=>c.O k (hP.I k e).1) λD E e F G H I K=> ?_;apply R8 j u v m p x y r z B d (i+1) Z _ D E a e (hP.ajK j o h c F G H I);have L:fK kd (i+1)=fK kd i:=by unfold fK;rw[vK h]
   rwa[L]
end
noncomputable def ZA:Ę:=kY Ĝ []
noncomputable def ZB (a b:Ï) (c:List é):Ý:=G ((base 46).at ⟨#[a,b,Å,Å,Å,Å,Å,Å,Å,Å,Å,Å,Å,Å,Å,Å,Å,Å,Å,Å,Å,Å,Å,Å,Å,Å,Å,Å,Å,Å,Å,Å,Å,Å,Å,Å,Å,Å,Å,Å,Å,Å,Å,Å,Å,Å,Å,Å],[]⟩ [ö ZA]) c
def ajL{c:é}{d:ŏ}{k:List ŷ}{K:Ý->ß->Array ž->Prop}{t u v:Tmp}(g:f.kind=Ğ)(j:y.defers=[])(l:P.funcs[f.fn]?=Â s)(e:s.results=#[.tmp t,.tmp u,.tmp v]) (h:K (G (c.at (d.put ((Q[i]?).bind (·.dst))<|ñ #[y.tmps.getD t Å,y.tmps.getD u Å,y.tmps.getD v Å])<|Ñ Q jJ::k) qX) w #[]): (stepG P yQ (G {f.at y L with mode:=.returning}<|c.at d (Ñ Q (i::jJ)::k)::qX) w).goes K:=by rwa[stepG_leave g j l (v:=ñ #[y.tmps.getD t Å,y.tmps.getD u Å,y.tmps.getD v Å]) (by simp[results,e,go_sem]) (by simp[results,e,go_sem]),Ģ]
structure Ho(kd:Nat->Int)(rq g:Nat->Nat)(R:Nat)(iv qv sv:Ï)(l l':e9):Prop where
 Y:gh ff l l'
 jO:l'.w.ownsRow 0 155 4 iv (fK kd R) (jO kd rq g R)
 mI:l'.w.ownsRow 0 155 4 qv (jz kd R).length (mI kd rq g R)
 r:∀k,iv.ownBlock=Â k->l'.O k/\l.w.heap.size<=k
 C:∀k,qv.ownBlock=Â k->l'.O k/\l.w.heap.size<=k
 dis:∀k,iv.ownBlock=Â k->qv.ownBlock≠Â k
 N:ia l' (g 0) (É #[Ê ê 0,Ê Ď 0,sv] 105)
 I:∀k,1<=k->k<=fK kd R->ia l' (g k) R7
 M:∀k,k<=fK kd R->l.w.heap.size<=g k/\iv.ownBlock≠Â (g k)/\qv.ownBlock≠Â (g k)
 S:∀k k',k<k'->k'<=fK kd R->g k<g k'
def ajM(w:ß)(a:Option â)(b c:Nat):(Ċ 105 #[(1,Æ a b c)]).run Ä w=.ok (Đ #[Ê ê 0,Ê Ď 0,Æ a b c]) w:=run_build w 105 _ _ fN
def ajN(w:ß)(a:Option â)(b c:Nat):(Ċ 105 #[(1,Æ a b c)]).events Ä w #[]=#[]:=by unfold Ċ;simp only[Sem.events_bind];simp[go_sem]
section
variable{J:Jd}{l:e9}{ra:Option â}{rb cr R:Nat}{sa:Option â}{sn sc:Nat}{k:List ŷ}{kd:Nat->Int}{rq:Nat->Nat}
def ajO(j:gw l)(u:¬l.q)(I:l.d=0)(K:R<1000)(L:0<R->ra=Â ⟨rb,0,Á⟩)(z:0<R->l.M rb)(N:∀i,i<R->l.w.cell? ⟨rb,i,Á⟩=Â (À<|Â ⟨rq i,0,Á⟩))(B:∀i,i<R->l.M (rq i))(O:∀i,i<R->l.w.cell? ⟨rq i,4,Á⟩=Â (Ê Î<|kd i)) (P:∀g s b c,Ho kd rq g R b c (Æ sa sn sc) l s->fh Ä Ò J s (G (f.at (y.put ((Q[i]?).bind (·.dst))<|ñ #[b,c,À<|Â ⟨g<|fK kd R,0,Á⟩])<|Ñ Q jJ::k) qX)): fh Ä Ò J l (ZB (Æ ra R cr) (Æ sa sn sc)<|f.at y (Ñ Q (i::jJ)::k)::qX):=by
 have hF:=trivial;apply fP (n:=40) j.r;simp only[ZB];conv in ZA=>whnf
 repeat w_go fu
 refine Ë λ_ _=> ?_;refine nF (v:=Đ #[Ê ê 0,Ê Ď 0,Æ sa sn sc]) U U (by k_ne) j.r u (λa r=> ?_) (λa r e p=> ?_) ?_
 .have h:=ajM a sa sn sc;go_simp
 .have h:=ajN a sa sn sc;simp[go_sem,h]at p
 walk_nrm;refine pE (V:=λp=>À<|Â ⟨p,0,Á⟩) (ob:=É #[Ê ê 0,Ê Ď 0,Æ sa sn sc] 105) U U (by k_ne) j.r u (λw=>by go_simp) (λw=>by simp[go_sem]) λa C=> ?_;walk_nrm;have p:gh ff l (gG l a<|É #[Ê ê 0,Ê Ď 0,Æ sa sn sc] 105):=mW j C;have t:ia (gG l a<|É #[Ê ê 0,Ê Ď 0,Æ sa sn sc] 105) a.heap.size (É #[Ê ê 0,Ê Ď 0,Æ sa sn sc] 105):=⟨Ç U,mV⟩;have D:=C.r;generalize gG l a (É #[Ê ê 0,Ê Ď 0,Æ sa sn sc] 105)=l₁ at p t|-;generalize a.heap.size=gt at t D|-;have m:=p.N j;have S:¬l₁.q:=by rwa[p.q]
 apply fP (n:=40) m.r;repeat w_bar fu
 w_go fu
 refine Ë λ_ _=> ?_;have T:=m.fw gt<|Ã t.fl;refine R8 m S (by rwa[p.d]) K L (λh=>p.M<|z h) (λi h=>(gM<|p.r rb (z Z) id).trans<|N i h) (λi h=>p.M<|B i h) (λi h=>(gM<|p.r _ (B i h) id).trans<|O i h) (λg s W b c h r=> ?_) R 0 Z (λ_=>gt) l₁ _ (Æ Á 0 0) (Æ Á 0 0) ⟨gh.fV m.r,⟨U,Ã ⟨U,U⟩⟩,⟨U,Ã ⟨U,U⟩⟩,λk e=>(by cases e),λk e=>(by cases e),λk e=>(by cases e),λk x o=> ?_,T,rfl,λk X x o=> ?_⟩ ⟨rfl,rfl,rfl,rfl,rfl,rfl,rfl⟩
 .have Y:=h.r.N m;obtain⟨y0,y1,y2,y3,E,F,y6,y7,y8,y9,xp,zp,xq,rK,sW,qN,vC,vD,uB,uC,uD,sX,sY,sZ,rE,sS,rF,pz,ov,p7,p8,p9,uh,sT,sU,rG,rH,ui,uj,uk,um,uo,uq,uu,uw,uy,qa,qc,rfl⟩:=K8 W r.r;obtain rfl:b=E:=(show E=b by simpa using r.N).symm;obtain rfl:c=F:=(show F=c by simpa using r.S).symm;obtain rfl:y6=À (Â ⟨g<|fK kd R,0,Á⟩):=by simpa using r.Y
  obtain rfl:rK=Æ ra R cr:=by simpa using r.C
  obtain rfl:sW=Ê Î R:=by simpa using r.I
  obtain rfl:qN=Ê Î R:=by simpa using r.M
  have gS:¬((R:Int)<(R:Int)):=Z
  apply fP (n:=40) Y.r;simp only[BQ];conv in Hl=>whnf
  conv in RV=>whnf
  repeat w_go fu
  u_in fu hF
  refine ajL U U ų U ⟨by u_nil,?_⟩;walk_nrm;refine Ë λ_ _=> ?_;have H:=h.S;refine P g s b c ⟨p.fe h.r,h.jO,h.mI,λk e=>⟨(h.C k e).1,Õ p.I (h.C k e).2⟩,λk e=>⟨(h.I k e).1,Õ p.I (h.I k e).2⟩,h.M,H▸t.r h.r id,λk x o=>(h.N k x o).1,λk hk=> ?_,h.Y⟩;by_cases h0:k=0
  .subst h0;rw[H];exact⟨D,λe=>by have:=(h.C _ e).2;omega,λe=>by have:=(h.I _ e).2;omega⟩
  .let⟨_,a2,a3,a4⟩:=h.N k Z hk;exact⟨Õ p.I a2,a3,a4⟩
 .have:k<=0:=o;omega
 .have:X<=0:=o;omega
end
noncomputable def ZC:Ę:=kY Tryz.f37 []
noncomputable def Ek (a b:Ï) (n:Nat) (c:List é):Ý:=G ((base 37).at ⟨#[a,b,Ê Î n,Å,Å,Å,Å,Å,Å,Å,Å,Å,Å,Å,Å,Å,Å,Å,Å,Å,Å,Å,Å,Å,Å,Å,Å,Å,Å,Å,Å,Å,Å,Å,Å,Å,Å,Å,Å,Å,Å,Å,Å,Å,Å,Å,Å,Å,Å],[]⟩ [ö ZC]) c
def Ho.vL{kd:Nat->Int}{rq:Nat->Nat}{R:Nat}{l a b:e9}(h:Ho kd rq D R v x z l a)(k:gh ff a b):Ho kd rq D R v x z l b:= ⟨h.Y.fe k,n5 h.jO λj e=>k.r j (Ã (h.r j e).1) id,n5 h.mI λj e=>k.r j (Ã (h.C j e).1) id,λj e=>⟨k.O j (h.r j e).1,(h.r j e).2⟩,λj e=>⟨k.O j (h.C j e).1,(h.C j e).2⟩,h.dis,h.N.r k id,λj c d=>(h.I j c d).r k id,h.M,h.S⟩
abbrev xA(R:Nat):Ÿ:=É (madeCells (Ŵ<|à ⟨#[]⟩) R) 9
structure Lc(kd:Nat->Int)(rq g:Nat->Nat)(R:Nat)(iv qv sv:Ï)(an ba bi all bw bf:Nat)(l lp l':e9):Prop where
 C:gh ff l l'
 r:Ho kd rq g R iv qv sv lp l'
 I:ia l' an (xA R)
 a:ia l' ba (É #[Æ (Â ⟨an,0,Á⟩) R R] 25)
 c:ia l' bi (É #[iv] 85)
 Y:ia l' all (É #[Ê ê 4294967296,Ê Ď 0] 97)
 d:ia l' bw (É #[À<|Â ⟨all,0,Á⟩] 162)
 b:ia l' bf (É #[Ĉ (ù 48) #[] #[À<|Â ⟨bi,0,Á⟩,À<|Â ⟨ba,0,Á⟩]] 1)
 M:l.w.heap.size<=an/\an<ba/\ba<lp.w.heap.size
 N:∀k,k<=fK kd R->g k<bi
 o3:∀k,iv.ownBlock=Â k->k<bi
 o4:∀k,qv.ownBlock=Â k->k<bi
 S:bi<all/\all<bw/\bw<bf
section
variable{J:Jd}{l:e9}{ra:Option â}{rb cr R:Nat}{sa:Option â}{sn sc:Nat}{kd:Nat->Int}{rq:Nat->Nat}
def ajP(C:gw l)(G:¬l.q)(hd:l.d=0)(hR:R<1000)(Hp:0<R->ra=Â ⟨rb,0,Á⟩)(vM:0<R->l.M rb)(Hq:∀i,i<R->l.w.cell? ⟨rb,i,Á⟩=Â (À<|Â ⟨rq i,0,Á⟩))(Kg:∀i,i<R->l.M (rq i))(Hr:∀i,i<R->l.w.cell? ⟨rq i,4,Á⟩=Â (Ê Î<|kd i)) (hJ:∀g lp l' t iv qv H y z D W bf v1,Lc kd rq g R iv qv (Æ sa sn sc) H y z D W bf l lp l'->Hg y D (g<|fK kd R) n qv t->J l' (Bz (À<|Â ⟨D,0,Á⟩) v1 (À<|Â ⟨D,0,Á⟩) (ñ #[]) W bf<|Eh t::qX)): fh Ä Ò J l (Ek (Æ sa sn sc) (Æ ra R cr) n qX):=by
 have hF:True:=trivial;have ZD:Ä.info? 9=Â Ġ:=Tryz.type9;have Py:∀w:ß,(Ŏ 25 (Ê Î (R:Int))<|Ê Î (R:Int)).run Ä w=.ok (Æ (Â ⟨w.heap.size,0,Á⟩) R R) (w.alloc<|xA R):=λw=>by have:=run_makeSlice (P:=Ä) w 25 9 Ġ (à ⟨#[]⟩) ľ ZD U Î Î (R:Int) (R:Int) Z Z (by simp[Ġ];omega) (by simp[Ġ];omega) Z;simpa[Ġ]using this
 have hme:∀w:ß,(Ŏ 25 (Ê Î (R:Int))<|Ê Î (R:Int)).events Ä w #[]=#[]:=λw=>
  events_make (P:=Ä) w 25 9 Ġ (à ⟨#[]⟩) ľ ZD U Î Î (R:Int) (R:Int) Z Z (by simp[Ġ];omega) Z (by simp[Ġ];omega) _
 apply fP (n:=40) C.r;simp only[Ek];conv in ZC=>whnf
 repeat w_go fu
 refine Ë λ_ _=> ?_;refine pE (V:=λp=>Æ (Â ⟨p,0,Á⟩) R R) (ob:=xA R) U U (by k_ne) C.r G (λw=>by have k:=Py w;go_simp) (λw=>by have k:=hme w;simp[go_sem,k]) λc m=> ?_;walk_nrm;have a:=mW (X:=ff) (ob:=xA R) C m;have r:ia (gG l c<|xA R) c.heap.size (xA R):=⟨Ç U,mV⟩;have han:l.w.heap.size<=c.heap.size:=m.r;generalize gG l c (xA R)=l1 at a r|-;generalize c.heap.size=H at r han|-;clear m c;have R9:gh ff l l1:=a;have Sb:=R9.N C;have ajQ:¬l1.q:=by rwa[R9.q]
 have auP:l.w.heap.size<=l1.w.heap.size:=a.I;clear a;have lan:=Sb.fw H<|Ã r.fl;refine pE (V:=λp=>À<|Â ⟨p,0,Á⟩) (ob:=É #[Æ Á 0 0] 25) U U (by k_ne) Sb.r ajQ (λw=>by go_simp) (λw=>by simp[go_sem]) λc m=> ?_;walk_nrm;have a:=mW (X:=ff) (ob:=É #[Æ Á 0 0] 25) Sb m;have f:ia (gG l1 c<|É #[Æ Á 0 0] 25) c.heap.size (É #[Æ Á 0 0] 25):=⟨Ç U,mV⟩;have ZE:l1.w.heap.size<=c.heap.size:=m.r;generalize gG l1 c (É #[Æ Á 0 0] 25)=l2 at a f|-;generalize c.heap.size=y at f ZE|-;clear m c;have Sc:gh ff l l2:=R9.fe a;replace r:=r.r a id;have Sd:=Sc.N C;have ajR:¬l2.q:=by rwa[Sc.q]
 have auQ:l1.w.heap.size<=l2.w.heap.size:=a.I;clear a;have lba:=Sd.fw y<|Ã f.fl;refine G5 (p:=y) (off:=0) (v:=Æ (Â ⟨H,0,Á⟩) R R) (u:=Æ Á 0 0) U U (by k_ne) Sd.r ajR f.fl (f.C U) (by simp[î,f.I]) U (λw o F=>by go_simp) (λw o F=>by simp[go_sem,á _ _ _ _ _ _ (show Ø (Æ (Â ⟨H,0,Á⟩) R R)=Ò from rfl),o,F]) ?_;have a:=KQ (X:=λb=>b=y) (p:=y) (w':=l2.w.setCell ⟨y,0,Á⟩<|Æ (Â ⟨H,0,Á⟩) R R) Sd (fE.fV _ _) f.fl U j2 λj E=>lu E;replace f:ia ({l2 with w:=l2.w.setCell ⟨y,0,Á⟩ (Æ (Â ⟨H,0,Á⟩) R R)}:e9) y (É #[Æ (Â ⟨H,0,Á⟩) R R] 25):=⟨f.fl,by show(l2.w.setCell ⟨y,0,Á⟩<|Æ (Â ⟨H,0,Á⟩) R R).heap[y]?=_;unfold þ;simp[í,f.I]⟩;generalize({l2 with w:=l2.w.setCell ⟨y,0,Á⟩ (Æ (Â ⟨H,0,Á⟩) R R)}:e9)=l3 at a f|-;have S:gh ff l l3:=Sc.vL a λj E e=>by have:=C.fw j E;omega
 replace r:=r.r a Z;have ZF:=S.N C;have ajS:¬l3.q:=by rwa[S.q]
 have auR:l2.w.heap.size<=l3.w.heap.size:=a.I;clear a;apply fP (n:=20) ZF.r;iterate 5 w_go fu
 u_call ų fN Ĝ fu hF
 refine Ë λ_ _=> ?_;refine ajO (l:=l3) (kd:=kd) (rq:=rq) (ra:=ra) (rb:=rb) (cr:=cr) (R:=R) (sa:=sa) (sn:=sn) (sc:=sc) ZF ajS (by rwa[S.d]) hR Hp (λh=>S.M<|vM h) (λi k=>(gM<|S.r rb (vM Z) id).trans<|Hq i k) (λi k=>S.M<|Kg i k) (λi k=>(gM<|S.r _ (Kg i k) id).trans<|Hr i k) λg B iv qv T=> ?_;walk_nrm;have a:=T.Y;have Se:gh ff l B:=S.fe a;replace r:=r.r a id;replace f:=f.r a id;have L:=Se.N C;have ajT:¬B.q:=by rwa[Se.q]
 have auS:l3.w.heap.size<=B.w.heap.size:=a.I;clear a;have ajU:gh ff B B:=gh.fV L.r;obtain⟨I,K,rfl⟩:∃I K,iv=Æ I (fK kd R) K:=by
  rcases T.jO.2 with⟨k,s⟩|⟨b,N,Q,k,_⟩
  .exact⟨Á,0,by rwa[s]⟩
  .exact⟨_,_,k⟩
 have og:∀k,k<=fK kd R->g k<B.w.heap.size:=λk hk=>by
  by_cases s:k=0
  .subst s;exact L.fw _<|Ã T.N.fl
  .exact L.fw _<|Ã (T.I k Z hk).fl
 have oi:∀k,(Æ I (fK kd R) K).ownBlock=Â k->k<B.w.heap.size:=λk e=>L.fw _<|Ã (T.r k e).1;have oq:∀k,qv.ownBlock=Â k->k<B.w.heap.size:=λk e=>L.fw _<|Ã (T.C k e).1;apply fP (n:=20) L.r;iterate 4 w_go fu
 refine Ë λ_ _=> ?_;refine pE (V:=λp=>À<|Â ⟨p,0,Á⟩) (ob:=É #[Æ Á 0 0] 85) U U (by k_ne) L.r ajT (λw=>by go_simp) (λw=>by simp[go_sem]) λc m=> ?_;walk_nrm;have a:=mW (X:=ff) (ob:=É #[Æ Á 0 0] 85) L m;have s:ia (gG B c<|É #[Æ Á 0 0] 85) c.heap.size (É #[Æ Á 0 0] 85):=⟨Ç U,mV⟩;have Sf:B.w.heap.size<=c.heap.size:=m.r;generalize gG B c (É #[Æ Á 0 0] 85)=l5 at a s|-;generalize c.heap.size=z at s Sf|-;clear m c;have Sg:gh ff l l5:=Se.fe a;have ajV:gh ff B l5:=ajU.fe a;replace r:=r.r a id;replace f:=f.r a id;have Si:=Sg.N C;have ajW:¬l5.q:=by rwa[Sg.q]
 have auT:B.w.heap.size<=l5.w.heap.size:=a.I;clear a;have lbi:=Si.fw z<|Ã s.fl;refine G5 (p:=z) (off:=0) (v:=Æ I (fK kd R) K) (u:=Æ Á 0 0) U U (by k_ne) Si.r ajW s.fl (s.C U) (by simp[î,s.I]) U (λw o F=>by go_simp) (λw o F=>by simp[go_sem,á _ _ _ _ _ _ (show Ø (Æ I (fK kd R) K)=Ò from rfl),o,F]) ?_;have a:=KQ (X:=λb=>b=z) (p:=z) (w':=l5.w.setCell ⟨z,0,Á⟩<|Æ I (fK kd R) K) Si (fE.fV _ _) s.fl U j2 λj E=>lu E;replace s:ia ({l5 with w:=l5.w.setCell ⟨z,0,Á⟩ (Æ I (fK kd R) K)}:e9) z (É #[Æ I (fK kd R) K] 85):=⟨s.fl,by show(l5.w.setCell ⟨z,0,Á⟩<|Æ I (fK kd R) K).heap[z]?=_;unfold þ;simp[í,s.I]⟩;generalize({l5 with w:=l5.w.setCell ⟨z,0,Á⟩ (Æ I (fK kd R) K)}:e9)=l6 at a s|-;have Sj:gh ff l l6:=Sg.vL a λj E e=>by have:=C.fw j E;omega
 have ajX:gh ff B l6:=ajV.vL a λj E e=>by have:=L.fw j E;omega
 replace r:=r.r a Z;replace f:=f.r a Z;have Sk:=Sj.N C;have ajY:¬l6.q:=by rwa[Sj.q]
 have auU:l5.w.heap.size<=l6.w.heap.size:=a.I;clear a;apply fP (n:=20) Sk.r;iterate 5 w_go fu
 refine Ë λ_ _=> ?_;refine pE (V:=λp=>À<|Â ⟨p,0,Á⟩) (ob:=É #[Ê ê 0,Ê Ď 0] 97) U U (by k_ne) Sk.r ajY (λw=>by go_simp) (λw=>by simp[go_sem]) λc m=> ?_;walk_nrm;have a:=mW (X:=ff) (ob:=É #[Ê ê 0,Ê Ď 0] 97) Sk m;have F:ia (gG l6 c<|É #[Ê ê 0,Ê Ď 0] 97) c.heap.size (É #[Ê ê 0,Ê Ď 0] 97):=⟨Ç U,mV⟩;have nH:l6.w.heap.size<=c.heap.size:=m.r;generalize gG l6 c (É #[Ê ê 0,Ê Ď 0] 97)=l7 at a F|-;generalize c.heap.size=D at F nH|-;clear m c;have Sl:gh ff l l7:=Sj.fe a;have ajZ:gh ff B l7:=ajX.fe a;replace r:=r.r a id;replace f:=f.r a id;replace s:=s.r a id;have Ld:=Sl.N C;have aj0:¬l7.q:=by rwa[Sl.q]
 have auV:l6.w.heap.size<=l7.w.heap.size:=a.I;clear a;have auW:=Ld.fw D<|Ã F.fl;apply fP (n:=20) Ld.r;iterate 4 w_go fu
 u_call Ħ fN Μ fu hF
 iterate 2 w_go fu
 refine Ë λ_ _=> ?_;refine pE (V:=λp=>À<|Â ⟨p,0,Á⟩) (ob:=É #[À<|Â ⟨D,0,Á⟩] 162) U U (by k_ne) Ld.r aj0 (λw=>by go_simp) (λw=>by simp[go_sem]) λc m=> ?_;walk_nrm;have a:=mW (X:=ff) (ob:=É #[À<|Â ⟨D,0,Á⟩] 162) Ld m;have N:ia (gG l7 c<|É #[À<|Â ⟨D,0,Á⟩] 162) c.heap.size (É #[À<|Â ⟨D,0,Á⟩] 162):=⟨Ç U,mV⟩;have BL:l7.w.heap.size<=c.heap.size:=m.r;generalize gG l7 c (É #[À<|Â ⟨D,0,Á⟩] 162)=l8 at a N|-;generalize c.heap.size=W at N BL|-;clear m c;have Sm:gh ff l l8:=Sl.fe a;have aj1:gh ff B l8:=ajZ.fe a;replace r:=r.r a id;replace f:=f.r a id;replace s:=s.r a id;replace F:=F.r a id;have Sn:=Sm.N C;have aj2:¬l8.q:=by rwa[Sm.q]
 have auX:l7.w.heap.size<=l8.w.heap.size:=a.I;clear a;have lbw:=Sn.fw W<|Ã N.fl;refine pE (V:=λp=>À<|Â ⟨p,0,Á⟩) (ob:=É #[Ĉ (ù 48) #[] #[À<|Â ⟨z,0,Á⟩,À<|Â ⟨y,0,Á⟩]] 1) U U (by k_ne) Sn.r aj2 (λw=>by go_simp) (λw=>by simp[go_sem]) λc m=> ?_;walk_nrm;have a:=mW (X:=ff) (ob:=É #[Ĉ (ù 48) #[] #[À<|Â ⟨z,0,Á⟩,À<|Â ⟨y,0,Á⟩]] 1) Sn m;have Y:ia (gG l8 c<|É #[Ĉ (ù 48) #[] #[À<|Â ⟨z,0,Á⟩,À<|Â ⟨y,0,Á⟩]] 1) c.heap.size (É #[Ĉ (ù 48) #[] #[À<|Â ⟨z,0,Á⟩,À<|Â ⟨y,0,Á⟩]] 1):=⟨Ç U,mV⟩;have K5:l8.w.heap.size<=c.heap.size:=m.r;generalize gG l8 c (É #[Ĉ (ù 48) #[] #[À<|Â ⟨z,0,Á⟩,À<|Â ⟨y,0,Á⟩]] 1)=l9 at a Y|-;generalize c.heap.size=bf at Y K5|-;clear m c;have Le:gh ff l l9:=Sm.fe a;have aj3:gh ff B l9:=aj1.fe a;replace r:=r.r a id;replace f:=f.r a id;replace s:=s.r a id;replace F:=F.r a id;replace N:=N.r a id;have Hs:=Le.N C;have ZG:¬l9.q:=by rwa[Le.q]
 have auY:l8.w.heap.size<=l9.w.heap.size:=a.I;clear a;have lbf:=Hs.fw bf<|Ã Y.fl;apply fP (n:=20) Hs.r;iterate 3 w_go fu
 refine Ë λ_ _=> ?_;apply pB (x:=⟨W,0,Á⟩) U U (by k_ne) Hs.r ZG (Ã<|Ã N.fl) (N.C U) (λw h=>by go_simp) (λw h=>by simp[go_sem,h]);walk_nrm;apply fP (n:=20) Hs.r;u_call qM.f_add (nm_add Lk) addFn fu hF;refine Ë λ_ _=> ?_;refine Zt qM Hs ZG (by rwa[Le.d]) F.fl F.I U U λQ hC=> ?_;walk_nrm;have a:gh (λb=>b=D) l9 Q:=hC.r;replace F:ia Q D (É #[Ê ê 4294967296,Ê Ď 0] 97):=⟨hC.r.O D F.fl,hC.C⟩;have So:gh ff l Q:=Le.vL a λj E e=>by have:=C.fw j E;omega
 have aj4:gh ff B Q:=aj3.vL a λj E e=>by have:=L.fw j E;omega
 replace r:=r.r a Z;replace f:=f.r a Z;replace s:=s.r a Z;replace N:=N.r a Z;replace Y:=Y.r a Z;have aj5:=So.N C;have auZ:¬Q.q:=by rwa[So.q]
 have au0:l9.w.heap.size<=Q.w.heap.size:=a.I;clear a;apply fP (n:=20) aj5.r;iterate 3 w_go fu
 refine Ë λ_ _=> ?_;refine .fA λBO xy=> ?_;have at9:∀{b:Nat} {o:Ÿ},ia Q b o->ia ({Q with w:=BO}:e9) b o:=λh=>⟨h.fl,(xy.I _<|Ã h.fl).trans h.I⟩;exact hJ g l3 {Q with w:=BO} _ (Æ I (fK kd R) K) qv H y z D W bf _ ⟨So.G xy,T.vL<|aj4.G xy,at9 r,at9 f,at9 s,at9 F,at9 N,at9 Y,⟨Z,Z,Z⟩,λk hk=>by have:=og k hk;omega,λk e=>by have:=oi k e;omega,λk e=>by have:=oq k e;omega,⟨Z,Z,Z⟩⟩ ⟨U,U,U,U,U,U⟩
end
def aj6{md:ý}{listed:Array Bool}(h:Û md Q listed=[]):∀(a t:Nat),ë md Q a t listed []=[]:=by
 intro a t;cases a with
 |zero=>rfl
 |succ a=>
  simp only[ë];change(match(Û md Q listed)[t%(Û md Q listed).length]? with
   |some i=>ë md Q a (t/(Û md Q listed).length) (listed.setIfInBounds i Ò) [i]
   |none=>[].reverse)=[]
  rw[h];rfl
section
variable{J:Jd}{l:e9}
def ZH{md:ý}(I:Array Bool->ŏ->e9->Prop) (p:∀b a l i k,I b a l->b.size=Q.size->i∈Û md Q b->(Û md Q (b.setIfInBounds i Ò)=[]->k=[])->fh P yQ (λg m=>(∃h,m=G (f.at h<|Ñ Q k::L) qX/\I (b.setIfInBounds i Ò) h g)\/fh P yQ J g m) l (G (f.at a<|Ñ Q (i::k)::L) qX)) (o:∀b a l,I b a l->b.size=Q.size->Û md Q b=[]->fh P yQ J l (G (f.at a<|Ñ Q []::L) qX)): ∀(c t:Nat) (b:Array Bool) (a:ŏ) (l:e9),b.size=Q.size->jr b<=c->I b a l->fh P yQ J l (G (f.at a<|Ñ Q (ë md Q c t b [])::L) qX):=by
 intro c
 induction c with
 |zero=>
  intro t b a l d q j;simpa[ë]using o b a l j d<|Rc d Z
 |succ c r=>
  intro t b a l d q j;simp only[ë];change fh P yQ J l (G (f.at a (Ñ Q (match(Û md Q b)[t%(Û md Q b).length]? with
   |some i=>ë md Q c (t/(Û md Q b).length) (b.setIfInBounds i Ò) [i]
   |none=>[].reverse)::L)) qX)
  cases n:(Û md Q b)[t%(Û md Q b).length]? with
  |none=>
   have s:Û md Q b=[]:=by
    cases u:Û md Q b with
    |nil=>rfl
    |cons x e=>
     rw[u]at n;have v:t%(x::e).length<(x::e).length:=ĵ _ fj;simp at n;simp at v;omega
   simpa using o b a l j d s
  |some i=>
   simp only[];rw[linearise_go_acc,List.reverse_singleton,List.singleton_append];have x:=ħ n;refine(p b a l i _ j d x λe=>aj6 e _ _).lD ?_;rintro g m (⟨h,rfl,hI'⟩|hW)
   .exact r _ _ h g (by simpa using d) (by have:=KD (mem_ready.1 x).1;omega) hI'
   .exact hW
def aj7{id:Nat}(I:Array Bool->ŏ->e9->Prop)(o:jW l)(p:¬l.q) (g:∀c,fE l l.w c->I (Array.replicate Q.size Ì) y {l with w:={c with drawn:=c.drawn+1}}) (h:∀d b y l i e,I b y l->b.size=Q.size->i∈Û d Q b->(Û d Q (b.setIfInBounds i Ò)=[]->e=[])->fh P yQ (λj k=>(∃m,k=G (f.at m<|Ñ Q e::L) qX/\I (b.setIfInBounds i Ò) m j)\/fh P yQ J j k) l (G (f.at y<|Ñ Q (i::e)::L) qX)) (n:∀d b y l,I b y l->b.size=Q.size->Û d Q b=[]->fh P yQ J l (G (f.at y<|Ñ Q []::L) qX)): fh P yQ J l (G (f.at y<|ö (ä id Q Ò)::L) qX):=by
 refine .mk U λc r=>⟨_,_,_,_,stepG_region_draw,Rb (lH o r) p,?_⟩;unfold Region.schedule;split
 .exact ZH I (h _) (n _) _ _ _ _ _ fj (by rw[DV];exact Ú _)<|g c r
 .exact ZH I (h _) (n _) _ _ _ _ _ fj (by rw[DV];exact Ú _)<|g c r
end
def BR:å:=⟨Â 15,ę<|Ù 1,100, "work.go:72",#[],Á⟩
def BS:å:=⟨Â 16,ę<|Ù 4,3, "work.go:72",#[],Á⟩
def BT:å:=⟨Â 17,ę<|Ù 1,100, "work.go:72",#[],Á⟩
def xB:å:=⟨Â 18,Ě {callee:=Ŕ .len,args:=#[Ù 17],argTypes:=#[100]},3, "work.go:72",#[⟨2,Ü⟩],Á⟩
def uH:å:=⟨Â 19,Λ .rem 3 (Ù 16) (Ù 18) 3,3, "work.go:72",#[⟨1,Ü⟩,⟨3,Ü⟩],Á⟩
def uI:å:=⟨Â 20,ő 100 (Ù 15)<|Ù 19,0, "work.go:72",#[⟨0,Ü⟩,⟨4,Ü⟩],Á⟩
def xC:å:=⟨Â 21,ć 101<|Ù 20,101, "work.go:72",#[⟨5,Ü⟩],Á⟩
def BU:å:=⟨Â 22,ć 155<|Ù 5,155, "work.go:72",#[],Á⟩
def xD:å:=⟨Á,.send (Ù 21)<|Ù 22,0, "work.go:72",#[⟨6,Ü⟩,⟨7,Ü⟩],Á⟩
def n8:Array å:=#[BR,BS,BT,xB,uH,uI,xC,BU,xD]
noncomputable def Lf:Ę:=kY Ŗ [1,1,0,0]
noncomputable def ZI:Ę:=kY Ŗ [1]
noncomputable def Lg:Ę:=kY Ŗ [0,1,0,0]
noncomputable def BV (t:Array Ï) (a:List é):Ý:=G ((base 52).at ⟨t,[]⟩ [ö Lg,ą Lg,ô 0,ö ZI]) a
structure DT(dv:Ï)(qb:Option â)(q cq i:Nat)(t:Array Ï):Prop where
 r:t.size=32
 C:t[1]?=Â dv
 t8:t[8]?=Â (Æ qb q cq)
 M:t[9]?=Â (Ê Î q)
 I:t[10]?=Â (Ê Î i)
def Ht(t:Array Ï)(h:t.size=32):∃a b c d e f g i j k l m n o p q r s u v w x y z B C D E F G H I:Ï,t=#[a,b,c,d,e,f,g,i,j,k,l,m,n,o,p,q,r,s,u,v,w,x,y,z,B,C,D,E,F,G,H,I]:=by obtain⟨_,rfl⟩:=xo t h;exact⟨_,_,_,_,_,_,_,_,_,_,_,_,_,_,_,_,_,_,_,_,_,_,_,_,_,_,_,_,_,_,_,_,U⟩
def uJ(c n i a d:Nat)(b tk:Ï)(_:Unit):Nat->Ï
 |0=>b
 |1=>Ê Î i
 |2=>b
 |3=>Ê Î n
 |4=>Ê Î a
 |5=>À<|Â ⟨c,a,Á⟩
 |6=>è<|Â d
 |7=>tk
 |_=>Å
def Lh(a:e9)(listed:Array Bool)(_:Unit)(l:e9):Prop:=iE ff a l/\¬listed.getD 8 Ì=Ò
section
variable{J N:Jd}{p:e9}{g s:Nat}{u:Option â}
def aj8(El:gw p)(hq:¬p.q)(ht:d.size=32)(uz:d[1]?=Â (Æ (Â ⟨j9,0,Á⟩) n j))(G1:d[4]?=Â (Ê Î i))(Rj:d[5]?=Â (À<|Â ⟨g,0,Á⟩))(z:p.O g)(T:p.O j9)(hn:0<n)(vN:n<1000)(hi1:i<1000) (ZJ:i%n=j6) (V:p.w.cell? ⟨j9,j6,Á⟩=Â (è<|Â m)) (W:p.w.cell? ⟨g,0,Á⟩=Â (À u)) (X:p.w.cell? ⟨g,1,Á⟩=Â (Ê Î s)) (Y:p.w.cell? ⟨g,2,Á⟩=Â (À<|Â ⟨j7,0,Á⟩)) (c3:p.w.cell? ⟨g,3,Á⟩=Â (À O)) (hJ:∀l H,iE ff p l->H.size=32->(∀c,c<15->H[c]?=d[c]?)->AK Ä Ò m (Đ #[À u,Ê Î s,À<|Â ⟨j7,0,Á⟩,À O]) N l (G ((base 52).at ⟨H,[]⟩<|Ñ n8 [8]::L) qX)->J l (G ((base 52).at ⟨H,[]⟩<|Ñ n8 [8]::L) qX)) (hN:∀l H,iE ff p l->H.size=32->(∀c,c<15->H[c]?=d[c]?)->fh Ä Ò N l (G ((base 52).at ⟨H,[]⟩<|Ñ n8 []::L) qX)) (md:ý) (listed:Array Bool) (a:ŏ) (l:e9) (i':Nat) (rest:List Nat) (hI:II n8 d (uJ j9 n i j6 m (Æ (Â ⟨j9,0,Á⟩) n j)<|Đ #[À u,Ê Î s,À<|Â ⟨j7,0,Á⟩,À O]) (Lh p) listed a l) (jH:listed.size=n8.size) (C:i'∈Û md n8 listed) (Hu:Û md n8 (listed.setIfInBounds i' Ò)=[]->rest=[]): fh Ä Ò (λD F=>(∃Q,F=G ((base 52).at Q<|Ñ n8 rest::L) qX/\II n8 d (uJ j9 n i j6 m (Æ (Â ⟨j9,0,Á⟩) n j)<|Đ #[À u,Ê Î s,À<|Â ⟨j7,0,Á⟩,À O]) (Lh p) (listed.setIfInBounds i' Ò) Q D)\/fh Ä Ò J D F) l (G ((base 52).at a<|Ñ n8 (i'::rest)::L) qX):=by
 let⟨x,t,S,h8⟩:=hI;have I:qK n8 d.size=Ò:=by rw[ht];decide
 have gS:=zi C;have K:=S.fw;have M:¬l.q:=by rwa[S.q]
 have nG:a.tmps[1]?=Â (Æ (Â ⟨j9,0,Á⟩) n j):=(t.C A).trans uz;have RU:a.tmps[4]?=Â (Ê Î i):=(t.C A).trans G1;have rJ:a.tmps[5]?=Â (À<|Â ⟨g,0,Á⟩):=(t.C A).trans Rj;have y:∀b f v,p.O b->p.w.cell? ⟨b,f,Á⟩=Â v->gY l ⟨b,f,Á⟩/\l.w.cell? ⟨b,f,Á⟩=Â v:=λb f v E h=>⟨Ã<|Ã<|S.O b E,by rwa[gM<|S.r b<|Ã E]⟩;have P:∀{k:Nat},k≠8->∀B,fE l l.w B->Lh p (listed.setIfInBounds k Ò) () {l with w:=B}:=λhm B r=>⟨S.N (λ_ q=>q.elim) r,by rwa[ç Ì hm]⟩;have aj9:j6<n:=by rw[<-ZJ];exact ĵ _ hn
 have akb:(j6:Int)<(n:Int):=Z
 have Hv:¬(n:Int)=0:=Z
 have akc:¬n=0:=Z
 have htm:Int.tmod (i:Int) (n:Int)=(j6:Int):=by rw[Int.tmod_eq_emod_of_nonneg Z,<-ZJ];simp
 have oR:Î.wrap (j6:Int)=(j6:Int):=Bt Z Z;have Li:n8.size=9:=A
 rw[Li]at gS;match i',gS with
 |0,_=>
  refine(il (o:=BR) I t U U C (by k_ne) K M (λB r=> ?_) (λB r e D=> ?_)<|P A).fO λ_ _ h=>Ã h
  .simp only[uJ,BR];go_simp
  .simp[go_sem,BR,nG]at D
 |1,_=>
  refine(il (o:=BS) I t U U C (by k_ne) K M (λB r=> ?_) (λB r e D=> ?_)<|P A).fO λ_ _ h=>Ã h
  .simp only[uJ,BS];go_simp
  .simp[go_sem,BS,RU]at D
 |2,_=>
  refine(il (o:=BT) I t U U C (by k_ne) K M (λB r=> ?_) (λB r e D=> ?_)<|P A).fO λ_ _ h=>Ã h
  .simp only[uJ,BT];go_simp
  .simp[go_sem,BT,nG]at D
 |3,_=>
  have F:a.tmps[17]?=Â (Æ (Â ⟨j9,0,Á⟩) n j):=t.r 2 BT 17 U (ie (o:=xB) C U U) U;refine(il (o:=xB) I t U U C (by k_ne) K M (λB r=> ?_) (λB r e D=> ?_)<|P A).fO λ_ _ h=>Ã h
  .simp only[uJ,xB];go_simp
  .simp[go_sem,xB,F]at D
 |4,_=>
  have F:a.tmps[16]?=Â (Ê Î i):=t.r 1 BS 16 U (ie (o:=uH) C U U) U;have Q:a.tmps[18]?=Â (Ê Î n):=t.r 3 xB 18 U (ie (o:=uH) C U U) U;refine(il (o:=uH) I t U U C (by k_ne) K M (λB r=> ?_) (λB r e D=> ?_)<|P A).fO λ_ _ h=>Ã h
  .simp only[uJ,uH];go_simp
  .simp[go_sem,uH,F,Q,Hv,akc,htm,oR]at D
 |5,_=>
  have F:a.tmps[15]?=Â (Æ (Â ⟨j9,0,Á⟩) n j):=t.r 0 BR 15 U (ie (o:=uI) C U U) U;have Q:a.tmps[19]?=Â (Ê Î j6):=t.r 4 uH 19 U (ie (o:=uI) C U U) U;refine(il (o:=uI) I t U U C (by k_ne) K M (λB r=> ?_) (λB r e D=> ?_)<|P A).fO λ_ _ h=>Ã h
  .simp only[uJ,uI];go_simp
  .simp[go_sem,uI,F,Q,aj9,akb]at D
 |6,_=>
  have Q:a.tmps[20]?=Â (À<|Â ⟨j9,j6,Á⟩):=t.r 5 uI 20 U (ie (o:=xC) C U U) U;refine(il (o:=xC) I t U U C (by k_ne) K M (λB r=> ?_) (λB r e D=> ?_)<|P A).fO λ_ _ h=>Ã h
  .have F:=((y j9 _ _ T V).1.r r).trans (y j9 _ _ T V).2;simp only[uJ,xC];go_simp
  .have F:=((y j9 _ _ T V).1.r r).trans (y j9 _ _ T V).2;have hee:e=⟨û ⟨j9,j6,Á⟩,Ì,Ì⟩:=by simp[go_sem,xC,F,Q]at D;exact D
   subst hee;exact(y j9 _ _ T V).1.rd
 |7,_=>
  refine(il (o:=BU) I t U U C (by k_ne) K M (λB r=> ?_) (λB r e D=> ?_)<|P A).fO λ_ _ h=>Ã h
  .have F:=((y g _ _ z W).1.r r).trans (y g _ _ z W).2;have Q:=((y g _ _ z X).1.r r).trans (y g _ _ z X).2;have qP:=((y g _ _ z Y).1.r r).trans (y g _ _ z Y).2;have uF:=((y g _ _ z c3).1.r r).trans (y g _ _ z c3).2;simp only[uJ,BU];go_simp
  .have F:=((y g _ _ z W).1.r r).trans (y g _ _ z W).2;have Q:=((y g _ _ z X).1.r r).trans (y g _ _ z X).2;have qP:=((y g _ _ z Y).1.r r).trans (y g _ _ z Y).2;have uF:=((y g _ _ z c3).1.r r).trans (y g _ _ z c3).2;simp[go_sem,BU,rJ,F,Q,qP,uF]at D;rcases D with rfl|rfl|rfl|rfl
   .exact(y g _ _ z W).1.rd
   .exact(y g _ _ z X).1.rd
   .exact(y g _ _ z Y).1.rd
   .exact(y g _ _ z c3).1.rd
 |8,_=>
  have d6:=ie (j:=6) (o:=xD) C U U;have d7:=ie (j:=7) (o:=xD) C U U;have Rw:a.tmps[21]?=Â (è<|Â m):=t.r 6 xC 21 U d6 U;have GQ:a.tmps[22]?=Â (Đ #[À u,Ê Î s,À<|Â ⟨j7,0,Á⟩,À O]):=t.r 7 BU 22 U d7 U;have d5:=t.I (j:=5) (o:=xC) U d6 U;have d0:=t.I (j:=0) (o:=uI) U d5 U;have d4:=t.I (j:=4) (o:=uI) U d5 U;have d1:=t.I (j:=1) (o:=uH) U d4 U;have d3:=t.I (j:=3) (o:=uH) U d4 U;have d2:=t.I (j:=2) (o:=xB) U d3 U;have nH:Û md n8 (listed.setIfInBounds 8 Ò)=[]:=by
   rw[List.eq_nil_iff_forall_not_mem];intro f hj;have BW:=zi hj;have F:=Rf hj;rw[Li]at BW;by_cases Q:f=8
   .subst Q;have D:8<listed.size:=by rw[jH,Li];decide
    simp[D]at F
   .rw[ç Ò<|Ne.symm Q]at F;have D:=xm F;match f,BW,Q with
    |0,_,_=>exact D d0
    |1,_,_=>exact D d1
    |2,_,_=>exact D d2
    |3,_,_=>exact D d3
    |4,_,_=>exact D d4
    |5,_,_=>exact D d5
    |6,_,_=>exact D d6
    |7,_,_=>exact D d7
    |8,_,h=>exact h U
  obtain rfl:=Hu nH;let⟨F,ds⟩:=a;obtain rfl:ds=[]:=t.M;have Hw:F.size=32:=t.S.trans ht;have Lj:∀c,c<15->F[c]?=d[c]?:=λc hd=>t.b c λf o E _ e=>by
   have BW:=(æ.1 E).1;rw[Li]at BW;match f,BW with
   |0,_=>
    have D:o=BR:=(Ó<|show Â BR=Â o from E).symm;rw[D]at e;have Q:15=c:=Ó (show Â 15=Â c from e);omega
   |1,_=>
    have D:o=BS:=(Ó<|show Â BS=Â o from E).symm;rw[D]at e;have Q:16=c:=Ó (show Â 16=Â c from e);omega
   |2,_=>
    have D:o=BT:=(Ó<|show Â BT=Â o from E).symm;rw[D]at e;have Q:17=c:=Ó (show Â 17=Â c from e);omega
   |3,_=>
    have D:o=xB:=(Ó<|show Â xB=Â o from E).symm;rw[D]at e;have Q:18=c:=Ó (show Â 18=Â c from e);omega
   |4,_=>
    have D:o=uH:=(Ó<|show Â uH=Â o from E).symm;rw[D]at e;have Q:19=c:=Ó (show Â 19=Â c from e);omega
   |5,_=>
    have D:o=uI:=(Ó<|show Â uI=Â o from E).symm;rw[D]at e;have Q:20=c:=Ó (show Â 20=Â c from e);omega
   |6,_=>
    have D:o=xC:=(Ó<|show Â xC=Â o from E).symm;rw[D]at e;have Q:21=c:=Ó (show Â 21=Â c from e);omega
   |7,_=>
    have D:o=BU:=(Ó<|show Â BU=Â o from E).symm;rw[D]at e;have Q:22=c:=Ó (show Â 22=Â c from e);omega
   |8,_=>
    have D:o=xD:=(Ó<|show Â xD=Â o from E).symm;rw[D]at e;cases(show Á=Â c from e)
  refine .fA λB r=>Ç (.fA λwU D=> ?_);have Q:iE ff p ({l with w:=wU}:e9):=S.N (λ_ q=>q.elim)<|r.fe ⟨D.r,D.I,D.N,D.Y,D.S⟩;refine hJ _ F Q Hw Lj ⟨U,U,λD=>⟨ñ #[],?_⟩,?_⟩
  .refine(Ż (cases:=#[scase m (Đ #[À u,Ê Î s,À<|Â ⟨j7,0,Á⟩,À O])<|ñ #[]]) (blocking:=Ò) (shape:=.send) (w':=D) (o:=xD) rfl rfl (by k_ne) ?_).trans ?_
   .simp[go_sem,xD,ĉ,scase,ĥ,Rw,GQ]
   .have:ŗ Ä (base 52).fn ⟨F,[]⟩ xD D=#[]:=by
     unfold ŗ;simp[go_sem,xD,ĉ,ĥ,Rw,GQ,Ī]
    rw[this]
  .have e:({G ((base 52).at ⟨F,[]⟩<|Ñ n8 [8]::L) qX with frame:=(G ((base 52).at ⟨F,[]⟩<|Ñ n8 [8]::L) qX).frame.finish Å}:Ý)=G ((base 52).at ⟨F,[]⟩<|Ñ n8 []::L) qX:=by
    have:(G ((base 52).at ⟨F,[]⟩<|Ñ n8 [8]::L) qX).frame.finish Å=(base 52).at (Ο ⟨F,[]⟩ Á Å) (Ñ n8 []::L):=Ģ _ _ _ _ _ _ _;rw[this];rfl
   rw[e];exact hN _ F Q Hw Lj
 |n+9,h=>exact absurd h Z
end
section
variable{N:Jd}{l:e9}{f:Option â}
theorem akd(s:gw l)(K:¬l.q)(G:DT (Æ (Â ⟨J,0,Á⟩) n j) (Â ⟨j6,0,Á⟩) b m i d)(hiq:i<b)(BB:b<1000)(hn:0<n)(vN:n<1000)(ZK:l.O J)(cd:l.w.cell? ⟨J,i%n,Á⟩=Â (è<|Â k))(Sp:l.M j6) (i0:l.w.cell? ⟨j6,i*4,Á⟩=Â (À f)) (i1:l.w.cell? ⟨j6,i*4+1,Á⟩=Â (Ê Î j7)) (i2:l.w.cell? ⟨j6,i*4+2,Á⟩=Â (À<|Â ⟨j9,0,Á⟩)) (i3:l.w.cell? ⟨j6,i*4+3,Á⟩=Â (À O)) (hN:∀t H,iE ff l t->DT (Æ (Â ⟨J,0,Á⟩) n j) (Â ⟨j6,0,Á⟩) b m (i+1) H->fh Ä Ò N t (BV H qX)): fh Ä Ò (AK Ä Ò k (Đ #[À f,Ê Î j7,À<|Â ⟨j9,0,Á⟩,À O]) N) l (BV d qX):=by
 obtain⟨y0,y1,y2,y3,y4,y5,y6,y7,y8,y9,xp,zp,xq,rK,sW,qN,vC,vD,uB,uC,uD,sX,sY,sZ,rE,sS,rF,pz,ov,p7,p8,p9,rfl⟩:=Ht d G.r;obtain rfl:y1=Æ (Â ⟨J,0,Á⟩) n j:=by simpa using G.C
 obtain rfl:y8=Æ (Â ⟨j6,0,Á⟩) b m:=by simpa using G.t8
 obtain rfl:y9=Ê Î b:=by simpa using G.M
 obtain rfl:xp=Ê Î i:=by simpa using G.I
 have rL:∀y:â,False->l.r y:=λy ha=>ha.elim;have au1:(i:Int)<(b:Int):=Z
 have hF:True:=trivial;simp only[BV];conv in Lg=>whnf
 apply fP (n:=30) s.r;repeat w_go fu
 refine Ë λ_ _=> ?_;have g:∀c,gY l ⟨j6,c,Á⟩:=λc=>Ã Sp;refine nF (v:=Đ #[À f,Ê Î j7,À<|Â ⟨j9,0,Á⟩,À O]) U U (by k_ne) s.r K (λo r=> ?_) (λo r e h=> ?_) ?_
 .have u:=((g<|i*4).r r).trans i0;have z:=((g<|i*4+1).r r).trans i1;have B:=((g<|i*4+2).r r).trans i2;have C:=((g<|i*4+3).r r).trans i3;go_simp
 .have u:=((g<|i*4).r r).trans i0;have z:=((g<|i*4+1).r r).trans i1;have B:=((g<|i*4+2).r r).trans i2;have C:=((g<|i*4+3).r r).trans i3;simp[go_sem,u,z,B,C]at h;rcases h with rfl|rfl|rfl|rfl
  .exact(g _).rd
  .exact(g _).rd
  .exact(g _).rd
  .exact(g _).rd
 walk_nrm;refine GR (ob:=É #[À Á,Ê Î 0,À Á,À Á] 155) U U (by k_ne) s.r K (λw=>by go_simp) (λw=>by simp[go_sem]) λo X=> ?_;walk_nrm;have D:iE ff l (gG l o<|É #[À Á,Ê Î 0,À Á,À Á] 155):=KL s rL X;have L:(gG l o<|É #[À Á,Ê Î 0,À Á,À Á] 155).w.heap[o.heap.size]?=Â (É #[À Á,Ê Î 0,À Á,À Á] 155):=mV;have s5:l.w.heap.size<=o.heap.size:=X.r;have q:(gG l o<|É #[À Á,Ê Î 0,À Á,À Á] 155).O o.heap.size:=Ç U;generalize gG l o (É #[À Á,Ê Î 0,À Á,À Á] 155)=l₁ at D L q|-;generalize o.heap.size=tb at L q s5|-;apply fP (n:=3) D.fw;w_go fu;refine Ë λ_ _=> ?_;refine vx U U (by k_ne) λr P=> ?_;have E:r.heap[tb]?=_:=(P.I tb<|Ã q).trans L;have u:r.cell? ⟨tb,0,Á⟩=Â (À Á):=by simp[Ö,E]
 have z:r.cell? ⟨tb,1,Á⟩=Â (Ê Î 0):=by simp[Ö,E]
 have B:r.cell? ⟨tb,2,Á⟩=Â (À Á):=by simp[Ö,E]
 have C:r.cell? ⟨tb,3,Á⟩=Â (À Á):=by simp[Ö,E]
 have hz:∀c,r.frozen? ⟨tb,c,Á⟩=Ì:=λc=>by simp[î,E]
 go_simp;refine⟨{l₁ with w:=iU r tb (À f) (Ê Î j7) (À<|Â ⟨j9,0,Á⟩) (À O)},KM (p:=tb) (lH D.fw P) (by rwa[D.q]) q xn (λc x=>zm x) ⟨U,U,U⟩ λe h=> ?_,?_⟩
 .have a:=đ h;have e:∀c,qd l₁ ⟨tb,c,Á⟩:=λc=>Ã q;simp[go_sem,á _ _ _ _ _ _ (show Ø (À f)=Ò from rfl),á _ _ _ _ _ _ (show Ø (À<|Â ⟨j9,0,Á⟩)=Ò from rfl),á _ _ _ _ _ _ (show Ø (À O)=Ò from rfl),u,z,B,C,hz]at a;rcases a with rfl|rfl|rfl|rfl
  .exact(e _).r
  .exact(e _).r
  .exact(e _).r
  .exact(e _).r
 let⟨Q,S,T,V⟩:=Rp (v0:=À f) (v1:=Ê Î j7) (v2:=À<|Â ⟨j9,0,Á⟩) (v3:=À O) u z B C;have F:=Rq (w':=iU r tb (À f) (Ê Î j7) (À<|Â ⟨j9,0,Á⟩)<|À O) s rL D P s5 xn λc x=>zm x;have vE:({l₁ with w:=iU r tb (À f) (Ê Î j7) (À<|Â ⟨j9,0,Á⟩) (À O)}:e9).O tb:=q;replace Q:({l₁ with w:=iU r tb (À f) (Ê Î j7) (À<|Â ⟨j9,0,Á⟩) (À O)}:e9).w.cell? ⟨tb,0,Á⟩=_:=Q;replace S:({l₁ with w:=iU r tb (À f) (Ê Î j7) (À<|Â ⟨j9,0,Á⟩) (À O)}:e9).w.cell? ⟨tb,1,Á⟩=_:=S;replace T:({l₁ with w:=iU r tb (À f) (Ê Î j7) (À<|Â ⟨j9,0,Á⟩) (À O)}:e9).w.cell? ⟨tb,2,Á⟩=_:=T;replace V:({l₁ with w:=iU r tb (À f) (Ê Î j7) (À<|Â ⟨j9,0,Á⟩) (À O)}:e9).w.cell? ⟨tb,3,Á⟩=_:=V;generalize({l₁ with w:=iU r tb (À f) (Ê Î j7) (À<|Â ⟨j9,0,Á⟩) (À O)}:e9)=l₂ at Q S T V F vE|-;clear L q D E u z B C hz P r l₁ X o;have W:=F.G s;have qe:¬l₂.q:=by rwa[F.q]
 have cd2:l₂.w.cell? ⟨J,i%n,Á⟩=Â (è<|Â k):=(gM<|F.r J<|Ã ZK).trans cd;apply fP (n:=5) W.r;w_go fu;refine Ë λ_ _=> ?_;refine aj7 (II n8 #[y0,Æ (Â ⟨J,0,Á⟩) n j,y2,y3,Ê Î i,À<|Â ⟨tb,0,Á⟩,y6,y7,Æ (Â ⟨j6,0,Á⟩) b m,Ê Î b,Ê Î i,ŝ Ò,Ê Î i,À<|Â ⟨j6,i*4,Á⟩,Đ #[À f,Ê Î j7,À<|Â ⟨j9,0,Á⟩,À O],qN,vC,vD,uB,uC,uD,sX,sY,sZ,rE,sS,rF,pz,ov,p7,p8,p9] (uJ J n i (i%n) k (Æ (Â ⟨J,0,Á⟩) n j)<|Đ #[À f,Ê Î j7,À<|Â ⟨j9,0,Á⟩,À O])<|Lh l₂) W.r qe (λa x=> ?_) (λY listed a t i' rest hI I e Hu=>aj8 (J:=AK Ä Ò k (Đ #[À f,Ê Î j7,À<|Â ⟨j9,0,Á⟩,À O]) N) (N:=N) W qe U U U U vE (F.O J ZK) hn vN Z U cd2 Q S T V (λl H _ _ _ h=>h) (λt H hA hs h=> ?_) Y listed a t i' rest hI I e Hu) λY listed a ky hI I zq=> ?_
 .exact⟨(),lI.G _ _ _,(iE.fV W.r).N (λ_ b=>b.elim) ⟨x.r,x.I,x.N,x.Y,x.S⟩,A⟩
 .have x:=F.fe hA;have a:=(h 1 A).trans (show _=Â (Æ (Â ⟨J,0,Á⟩) n j)from U);have o8:=(h 8 A).trans (show _=Â (Æ (Â ⟨j6,0,Á⟩) b m)from U);have o9:=(h 9 A).trans (show _=Â (Ê Î b)from U);have o10:=(h 10 A).trans (show _=Â (Ê Î i)from U);clear h;obtain⟨x0,x1,x2,x3,x4,x5,x6,x7,x8,x9,Y5,x11,x12,x13,x14,x15,x16,x17,x18,x19,x20,x21,x22,x23,x24,x25,x26,x27,x28,x29,x30,x31,rfl⟩:=Ht H hs;obtain rfl:x1=Æ (Â ⟨J,0,Á⟩) n j:=by simpa using a
  obtain rfl:x8=Æ (Â ⟨j6,0,Á⟩) b m:=by simpa using o8
  obtain rfl:x9=Ê Î b:=by simpa using o9
  obtain rfl:Y5=Ê Î i:=by simpa using o10
  apply fP (n:=9) x.fw;iterate 7 w_go fu
  refine Ë λ_ _=> ?_;refine hN t _ x ⟨U,U,U,U,?_⟩;simp;grind [Bt]
 .let⟨x,a,h,h8⟩:=hI;have nH:∀i∈ã 9,listed.getD i Ì=Ò:=by
   cases Y
   .exact pC zq I (ã 9) [] fN λi e=>by cases e
   .exact pC zq I (ã 9) [] fN λi e=>by cases e
   .exact pC zq I (ã 9) [] fN λi e=>by cases e
  grind
end
noncomputable def BX (t:Array Ï) (a:List é):Ý:=G ((base 52).at ⟨t,[]⟩ [ö Lf,ą Lf,ô 2]) a
structure ET(dv:Ï)(n j:Nat)(t:Array Ï):Prop where
 r:t.size=32
 ake:t[24]?=Â dv
 C:t[25]?=Â (Ê Î n)
 I:t[26]?=Â (Ê Î j)
def Hx(t:Array Ï):é:=(base 37).at ⟨t,[]⟩ [Ñ KU [2],ö<|(ä 13 KV Ì).seq KW]
def Em(t:Array Ï)(a:List é):Ý:=G ((base 37).at ⟨t,[]⟩ [Ñ KV [],ö KW]) a
structure SE(ba all n7:Nat)(t:Array Ï):Prop where
 r:t.size=49
 I:t[8]?=Â (À<|Â ⟨ba,0,Á⟩)
 C:t[11]?=Â (À<|Â ⟨n7,0,Á⟩)
 RH:t[12]?=Â (À<|Â ⟨all,0,Á⟩)
section
variable{J a N:Jd}{l:e9}{t:Array Ï}{ba all n7:Nat}{dv:Ï}
def akf(e:jW l)(a:ST ba all n7 n n (Æ O k j9) dv t)(f:∀b d,DT dv O k j9 0 b->SE ba all n7 d->fh Ä Ò J l (BV b<|Hx d::qX)):fh Ä Ò J l (vH t qX):=by
 obtain⟨p,q,r,s,u,v,w,x,g,y,h,i,j,c,z,B,C,D,E,F,G,H,I,K,L,M,N,m,o,P,Q,S,T,V,W,X,Y,ui,uj,uk,um,uo,uq,uu,uw,uy,qa,qc,xl,rfl⟩:=Hh t a.r;obtain rfl:g=À (Â ⟨ba,0,Á⟩):=by simpa using a.a
 obtain rfl:h=Æ O k j9:=by simpa using a.C
 obtain rfl:i=À (Â ⟨n7,0,Á⟩):=by simpa using a.I
 obtain rfl:j=À (Â ⟨all,0,Á⟩):=by simpa using a.M
 obtain rfl:dv=c:=(show c=dv by simpa using a.N).symm;obtain rfl:m=Ê Î n:=by simpa using a.S
 obtain rfl:o=Ê Î n:=by simpa using a.Y
 have hF:True:=trivial;apply fP (n:=40) e;simp only[vH,Eg,RF];iterate 7 w_go fu
 simp only[KX,KU];iterate 4 w_go fu
 u_call ŵ fN Ŗ fu hF
 iterate 9 w_go fu
 refine Ë λ_ _=> ?_;exact f _ _ ⟨U,U,U,U,U⟩ ⟨U,U,U,U⟩
def akg(d:jW l)(a:DT (Æ (Â ⟨j7,0,Á⟩) n b) O k j9 k t)(e:∀c,ET (Æ (Â ⟨j7,0,Á⟩) n b) n 0 c->fh Ä Ò J l (BX c qX)):fh Ä Ò J l (BV t qX):=by
 obtain⟨i,f,j,m,o,p,q,r,s,g,h,u,v,w,x,y,z,B,C,D,E,F,G,H,I,K,L,M,N,P,Q,S,rfl⟩:=Ht t a.r;obtain rfl:f=Æ (Â ⟨j7,0,Á⟩) n b:=by simpa using a.C
 obtain rfl:g=Ê Î k:=by simpa using a.M
 obtain rfl:h=Ê Î k:=by simpa using a.I
 have hF:True:=trivial;apply fP (n:=40) d;simp only[BV];conv in Lg=>whnf
 iterate 7 w_go fu
 conv in ZI=>whnf
 iterate 8 w_go fu
 refine Ë λ_ _=> ?_;exact e _ ⟨U,U,U,U⟩
def akh(a:gw l)(g:¬l.q)(c:ET (Æ (Â ⟨j7,0,Á⟩) n b) n j t)(z:j<n)(B:n<1000)(i:l.O j7)(o:l.w.cell? ⟨j7,j,Á⟩=Â (è<|Â m)) (p:∀d e,iE ff l d->ET (Æ (Â ⟨j7,0,Á⟩) n b) n (j+1) e->fh Ä Ò N d (BX e qX)):fh Ä Ò (JN Ä Ò m N) l (BX t qX):=by
 obtain⟨C,D,F,G,H,I,J,K,L,M,P,Q,S,T,V,W,X,Y,uB,uC,uD,sX,sY,sZ,q,u,v,pz,ov,p7,p8,p9,rfl⟩:=Ht t c.r;obtain rfl:q=Æ (Â ⟨j7,0,Á⟩) n b:=by simpa using c.ake
 obtain rfl:u=Ê Î n:=by simpa using c.C
 obtain rfl:v=Ê Î j:=by simpa using c.I
 have hF:True:=trivial;apply fP (n:=40) a.r;simp only[BX];conv in Lf=>whnf
 repeat w_go fu
 refine Ë λ_ _=> ?_;apply pB (x:=⟨j7,j,Á⟩) U U (by k_ne) a.r g (Ã<|Ã i) o (λw h=>by go_simp) (λw h=>by simp[go_sem,h]);walk_nrm;apply fP (n:=40) a.r;iterate 4 w_go fu
 refine Ë λ_ _=> ?_;refine .fA λw₁ y=>⟨U,U,_,U,λwU cap buf s r tm h=>(stepG_close U U (by k_ne) U U h fN).trans U,?_⟩;walk_nrm;have f:=(iE.fV (E:=ff) a.r).N (λ_ k=>k.elim) y;apply fP (n:=20) f.fw;iterate 7 w_go fu
 refine Ë λ_ _=> ?_;refine p _ _ f ⟨U,U,U,?_⟩;simp;exact Bt Z Z
def aki(e:gw l)(g:l.d=0)(p:60<=i)(f:ET dv n n t)(c:SE ba all n7 d)(j:l.K ⟨all,0,Á⟩/\l.K ⟨all,1,Á⟩)(q:nD all l.w) (r:∀m o,iE ff l m->SE ba all n7 o->a m (Em o qX)):fh Ä Ò (qH Ä Ò i all a .iY) l (BX t<|Hx d::qX):=by
 obtain⟨G,H,I,J,L,M,N,P,Q,S,T,V,W,X,Y,qN,vC,vD,uB,uC,uD,sX,sY,sZ,rE,s,u,pz,ov,p7,p8,p9,rfl⟩:=Ht t f.r;obtain rfl:s=Ê Î n:=by simpa using f.C
 obtain rfl:u=Ê Î n:=by simpa using f.I
 have hF:True:=trivial;apply fP (n:=40) e.r;simp only[BX,Hx,KU];conv in Lf=>whnf
 iterate 8 w_go fu
 obtain⟨z0,z1,z2,z3,z4,z5,z6,z7,v,z9,z10,x,y,z13,z14,z15,z16,z17,z18,z19,z20,z21,z22,z23,z24,z25,z26,z27,z28,z29,z30,z31,z32,z33,z34,z35,z36,z37,z38,z39,z40,z41,z42,z43,z44,z45,z46,z47,z48,rfl⟩:=Hh d c.r;obtain rfl:v=À (Â ⟨ba,0,Á⟩):=by simpa using c.I
 obtain rfl:x=À (Â ⟨n7,0,Á⟩):=by simpa using c.C
 obtain rfl:y=À (Â ⟨all,0,Á⟩):=by simpa using c.RH
 u_leave0 ŵ fu hF
 simp only[KV];iterate 3 w_go fu
 u_call qM.f_wait (nm_wait Lk) waitFn fu hF
 refine Ë λ_ _=> ?_;refine YN qM p (⟨Ã j.1,Ã j.2,λw z b B C D F h=>h.fe ⟨b,B,C,D,F⟩⟩) ⟨e.r,q,fE.fV _ _⟩ g λz B=> ?_;walk_nrm;refine .fA λC b=> ?_;have h:=(iE.fV (E:=ff) e.r).N (λ_ k=>k.elim)<|B.2.2.fe ⟨b.r,b.I,b.N,b.Y,b.S⟩;exact r {l with d:=0,w:=C} _ ⟨h.O,h.h,h.Y,h.I,h.c,h.K,h.q,g.symm,h.fw,h.f,h.r,h.e,h.S,h.b,h.g⟩ ⟨U,U,U,U⟩
end
def vO(a:Nat)(b c:Ï)(_:Unit):Nat->Ï
 |0=>b
 |1=>À<|Â ⟨a,0,Á⟩
 |2=>À<|Â ⟨a,0,Á⟩
 |3=>À<|Â ⟨a,2,Á⟩
 |4=>c
 |5=>b
 |_=>c
def Ll(a:e9)(_:Array Bool)(_:Unit)(l:e9):Prop:=gh ff a l
section
variable{J:Jd}{g:e9}{h:Option â}
def akj(K:¬g.q)(N:q.size=49)(P:q[8]?=Â (À<|Â ⟨m,0,Á⟩))(Q:q[11]?=Â (À<|Â ⟨j9,0,Á⟩))(E:g.M m)(F:gY g ⟨j9,2,Á⟩)(S:g.w.cell? ⟨m,0,Á⟩=Â (Æ O b n))(T:g.w.cell? ⟨j9,2,Á⟩=Â (Æ h j6 j7)) (md:ý) (listed:Array Bool) (y:ŏ) (l:e9) (i:Nat) (jJ:List Nat) (V:II xu q (vO j9 (Æ O b n)<|Æ h j6 j7) (Ll g) listed y l) (k:i∈Û md xu listed): fh Ä Ò (λc d=>∃a,d=G ((base 37).at a<|Ñ xu jJ::L) qX/\II xu q (vO j9 (Æ O b n)<|Æ h j6 j7) (Ll g) (listed.setIfInBounds i Ò) a c) l (G ((base 37).at y<|Ñ xu (i::jJ)::L) qX):=by
 let⟨x,j,p⟩:=V;have s:qK xu q.size=Ò:=by rw[N];decide
 have H:=zi k;have t:=p.fw;have u:¬l.q:=by rwa[show l.q=g.q from p.q]
 have W:=(j.C A).trans P;have X:=(j.C A).trans Q;have B:gY l ⟨m,0,Á⟩:=Ã<|p.M E;have D:gY l ⟨j9,2,Á⟩:=F.imp (λa=>p.M a) λa=>by rwa[p.C]
 have I:=(gM<|p.r m E id).trans S;have J:l.w.cell? ⟨j9,2,Á⟩=Â (Æ h j6 j7):=by
  refine Ŀ ?_ T;rcases F with a|a
  .exact gM<|p.r _ a id
  .exact p.f _ a
 have v:∀{c:Nat},∀d,fE l l.w d->Ll g (listed.setIfInBounds c Ò) () {l with w:=d}:=λd r=>p.G r;have Y:xu.size=7:=A
 rw[Y]at H;match i,H with
 |0,_=>
  refine il (o:=G7) s j U U k (by k_ne) t u (λd r=> ?_) (λd r e f=> ?_) v
  .have z:=(B.r r).trans I;simp only[vO,G7];go_simp
  .have z:=(B.r r).trans I;simp[go_sem,G7,W,z]at f;subst f;exact B.rd
 |4,_=>
  have h47:y.tmps[47]?=Â (À<|Â ⟨j9,2,Á⟩):=j.r 3 Ha 47 U (ie k U U) U;refine il (o:=Hb) s j U U k (by k_ne) t u (λd r=> ?_) (λd r e f=> ?_) v
  .have z:=(D.r r).trans J;simp only[vO,Hb];go_simp
  .have z:=(D.r r).trans J;simp[go_sem,Hb,h47,z]at f;subst f;exact D.rd
 |1,_=>
  refine il (o:=G8) s j U U k (by k_ne) t u (λd r=> ?_) (λd r e f=> ?_) v
  .simp only[vO,G8];go_simp
  .simp[go_sem,G8,X]at f
 |2,_=>
  have z:y.tmps[45]?=Â (À<|Â ⟨j9,0,Á⟩):=j.r 1 G8 45 U (ie k U U) U;refine il (o:=G9) s j U U k (by k_ne) t u (λd r=> ?_) (λd r e f=> ?_) v
  .simp only[vO,G9];go_simp
  .simp[go_sem,G9,z]at f
 |3,_=>
  have z:y.tmps[46]?=Â (À<|Â ⟨j9,0,Á⟩):=j.r 2 G9 46 U (ie k U U) U;refine il (o:=Ha) s j U U k (by k_ne) t u (λd r=> ?_) (λd r e f=> ?_) v
  .simp only[vO,Ha];go_simp
  .simp[go_sem,Ha,z]at f
 |5,_=>
  have z:y.tmps[44]?=Â (Æ O b n):=j.r 0 G7 44 U (ie k U U) U;refine il (o:=Hc) s j U U k (by k_ne) t u (λd r=> ?_) (λd r e f=> ?_) v
  .simp only[vO,Hc];go_simp
  .simp[go_sem,Hc,z]at f
 |6,_=>
  have z:y.tmps[48]?=Â (Æ h j6 j7):=j.r 4 Hb 48 U (ie k U U) U;refine il (o:=Hd) s j U U k (by k_ne) t u (λd r=> ?_) (λd r e f=> ?_) v
  .simp only[vO,Hd];go_simp
  .simp[go_sem,Hd,z]at f
def akk(c:gw g)(t:¬g.q)(e:SE m j j9 d)(B:g.M m)(C:gY g ⟨j9,2,Á⟩)(D:g.w.cell? ⟨m,0,Á⟩=Â (Æ O b n))(E:g.w.cell? ⟨j9,2,Á⟩=Â (Æ h j6 j7)) (F:∀u,gh ff g u->fh Ä Ò J u (G (f.at (y.put ((Q[i]?).bind (·.dst))<|ñ #[Æ O b n,Æ h j6 j7])<|Ñ Q jJ::L) qX)): fh Ä Ò J g (Em d<|f.at y (Ñ Q (i::jJ)::L)::qX):=by
 have hF:=trivial;apply fP (n:=9) c.r;simp only[Em,KW];iterate 2 w_go fu
 refine Ë λ_ _=> ?_;refine KE (II xu d (vO j9 (Æ O b n)<|Æ h j6 j7)<|Ll g) c.r t (λl a=>⟨(),lI.G _ _ _,(gh.fV c.r).G ⟨a.r,a.I,a.N,a.Y,a.S⟩⟩) (λk o y l i jJ p a=>akj t e.r e.I e.C B C D E k o y l i jJ p a) λk o H I p r s=> ?_;let⟨x,l,K⟩:=p;have v:∀i∈ã 7,o.getD i Ì=Ò:=by
  cases k
  .exact pC s r (ã 7) [] fN λi a=>by cases a
  .exact λi a=>pC s r [0,5,1,2,3,4,6] [] fN (λi a=>by cases a) i (by have:=Ē.1 a;revert i;decide)
  .exact pC s r (ã 7) [] fN λi a=>by cases a
 let⟨a,N⟩:=H;obtain rfl:N=[]:=l.M;have P:a[6]?=Â (Æ O b n):=l.r 5 Hc 6 U (v 5 A) U;have S:a[7]?=Â (Æ h j6 j7):=l.r 6 Hd 7 U (v 6 A) U;have X:=l.S.trans e.r;have z:=K;have T:=z.N c;have V:a.getD 6 Å=Æ O b n:=by simp[ď,P]
 have W:a.getD 7 Å=Æ h j6 j7:=by simp[ď,S]
 apply fP (n:=9) T.r;iterate 2 w_go fu
 u_in fu hF
 refine goes_leave2 U U Tryz.func37 U ⟨by u_nil,?_⟩;rw[V,W];refine Ë λ_ _=>F I z
end
structure SD where
 L:Nat
 g:Nat
 n:Nat
 m:Nat
 q:Nat
 N:Nat
 I:Nat
 C:Nat->Nat
 M:Nat
 S:Nat
 s:Nat
 u:Option â
 t:Nat
 l:Option â
 k:Nat
 o:Nat->Option â
 a:Nat->Nat
 i:Nat->Option â
 c:Nat->Nat
 b:Nat->Nat
 f:List é
 d:Nat->Prop
 RC:ß->Prop
 p:ß->Prop
 γ:Type
 w:γ
 v:Nat->Prop
 h:Nat->γ->γ->Prop
 RD:γ->Ï->(Nat->Prop)->ß->Prop
 e:Nat->ByteArray
 j:Nat->ByteArray
def SD.Y(D:SD):Fx:=⟨D.L,D.m,D.I,D.C⟩
def SD.akl(D:SD)(i:Nat):Ï:=Đ #[À<|D.i i,Ê Î<|D.c i,À<|Â ⟨D.C<|D.b i,0,Á⟩,À Á]
structure lL(D:SD)(S:Nat->Prop)(l:e9):Prop where
 C:∀b,D.Y.M b->l.K ⟨b,0,Á⟩/\l.K ⟨b,1,Á⟩
 M:∀b,D.Y.M b->nD b l.w
 c:S D.S
 d:l.w.cell? ⟨D.S,0,Á⟩=Â (Æ (Â ⟨D.M,0,Á⟩) D.N D.N)
 f:S D.s
 g:l.w.cell? ⟨D.s,0,Á⟩=Â (Æ D.u D.m D.t)
 h:∀k,k<D.m->∃b,D.u=Â ⟨b,0,Á⟩/\S b/\l.w.cell? ⟨b,k*4,Á⟩=Â (À<|D.o<|k+1)/\l.w.cell? ⟨b,k*4+1,Á⟩=Â (Ê Î<|D.a<|k+1)/\l.w.cell? ⟨b,k*4+2,Á⟩=Â (À<|Â ⟨D.C k,0,Á⟩)/\l.w.cell? ⟨b,k*4+3,Á⟩=Â (À<|Â ⟨D.C<|k+1,0,Á⟩)
 j:∀i,i<D.q->∃b,D.l=Â ⟨b,0,Á⟩/\S b/\l.w.cell? ⟨b,i*4,Á⟩=Â (À<|D.i i)/\l.w.cell? ⟨b,i*4+1,Á⟩=Â (Ê Î<|D.c i)/\l.w.cell? ⟨b,i*4+2,Á⟩=Â (À<|Â ⟨D.C<|D.b i,0,Á⟩)/\l.w.cell? ⟨b,i*4+3,Á⟩=Â (À Á)
 r:∀a,l.r a->(l.w.cell? a).isSome=Ò/\l.w.frozen? a=Ì
 Y:∀b,D.d b->S b
 e:D.RC l.w
structure SD.Ok(D:SD):Prop where
 C:∀w w',D.RC w->(∀b,D.d b->w'.heap[b]?=w.heap[b]?)->D.RC w'
 ioS:∀w w',D.p w->(w'.os=w.os/\w'.output=w.output)->D.p w'
 r:∀s sl V w w',D.RD s sl V w->(∀b,V b->w'.heap[b]?=w.heap[b]?)->D.RD s sl V w'
 I:1<=D.n
 L1:1<=D.L
 gf:D.n+D.q+D.m<1000
 N1:D.N<1000
 S:∀i,D.b i<=D.m
 a:∀i,i<D.q->D.c i<D.N
 Y:∀k,1<=k->k<=D.m->D.a k<D.N
 akm:∀k,k<=D.m->D.C k≠D.I
 akn:∀k k',k<=D.m->k'<=D.m->D.C k=D.C k'->k=k'
 M:¬D.Y.M D.M
 pq:∀i i',i<D.q->i'<D.q->D.c i=D.c i'->i=i'
 pi:∀k k',1<=k->k<=D.m->1<=k'->k'<=D.m->D.a k=D.a k'->k=k'
 OW:∀i k,i<D.q->1<=k->k<=D.m->D.c i≠D.a k
 gp:∀b,D.Y.M b\/b=D.M->D.g<=b
section
variable{D:SD}{S:Nat->Prop}{l f:e9}
def lL.I(h:lL D S l)(ok:D.Ok)(e:∀b,S b->X b)(c:∀b,S b->f.w.heap[b]?=l.w.heap[b]?)(q:f.K=l.K)(p:∀a,l.K a->(l.w.cell? a).isSome=Ò->(f.w.cell? a).isSome=Ò)(r:∀a,f.r a->(f.w.cell? a).isSome=Ò/\f.w.frozen? a=Ì):lL D X f where
 C b hg:=by rw[q];exact h.C b hg
 M b hg:=⟨p _ (h.C b hg).1 (h.M b hg).1,p _ (h.C b hg).2 (h.M b hg).2⟩;c:=e _ h.c;d:=(gM<|c _ h.c).trans h.d;f:=e _ h.f;g:=(gM<|c _ h.f).trans h.g;h k hk:=by let⟨b,g,d,j,m,n,o⟩:=h.h k hk;exact⟨b,g,e b d,(gM<|c b d).trans j,(gM<|c b d).trans m,(gM<|c b d).trans n,(gM<|c b d).trans o⟩
 j i hi:=by let⟨b,g,d,j,m,n,o⟩:=h.j i hi;exact⟨b,g,e b d,(gM<|c b d).trans j,(gM<|c b d).trans m,(gM<|c b d).trans n,(gM<|c b d).trans o⟩
 r:=r;Y b d:=e b<|h.Y b d;e:=ok.C _ _ h.e λb d=>c b<|h.Y b d
def lL.G(h:lL D S l)(ok:D.Ok)(c:∀b,S b->l.M b)(r:fE l l.w u):lL D S {l with w:=u}:= h.I ok (λ_ q=>q) (λb q=>r.I b<|c b q) U r.S λa q=>by have:=h.r a q;exact⟨by show(u.cell? a).isSome=Ò;rw[r.N a<|Ã q];exact this.1,(r.Y a<|Ã q).trans this.2⟩
def lL.Sq{E:â->Prop}(h:lL D S l)(ok:D.Ok)(g:∀b,S b->l.M b)(c:iE E l f):lL D S f:= h.I ok (λ_ q=>q) (λb q=>c.r b<|g b q) c.K c.b λa q=>by
  rw[c.I]at q;let⟨d,i⟩:=h.r a q;refine⟨?_,(c.S a<|Ã q).trans i⟩;by_cases e:E a
  .exact c.g a e d
  .rwa[c.e a (Ã q) e]
def lL.ako(h:lL D S l)(ok:D.Ok)(d:∀b,S b->l.M b/\¬X b)(c:gh X l f):lL D S f:= h.I ok (λ_ q=>q) (λb q=>c.r b (d b q).1 (d b q).2) c.K c.e λa q=>by rw[c.Y]at q;let⟨e,g⟩:=h.r a q;exact⟨by rwa[c.f a<|Ã q],(c.g a<|Ã q).trans g⟩
def lL.N(h:lL D S l)(a:∀b,S b->X b):lL D X l:=⟨h.C,h.M,a _ h.c,h.d,a _ h.f,h.g,λk c=>let⟨b,d,e,f⟩:=h.h k c;⟨b,d,a b e,f⟩,λk c=>let⟨b,d,e,f⟩:=h.j k c;⟨b,d,a b e,f⟩,h.r,λb q=>a b<|h.Y b q,h.e⟩
end
section
variable(D:SD)
def jG(a:Nat->Nat)(j:Nat):List Ï:=(ã j).map λi=>è<|Â<|a i
def BY(k:Nat):Jd:=λl g=>l.d=0/\¬l.q/\lL D l.M l/\∃t a b c e f h i j n o,Bs D.M D.N D.u D.m D.t k t/\l.M a/\l.w.cell? ⟨a,0,Á⟩=Â (À<|Â ⟨D.I,0,Á⟩)/\g=zn t [vF h i j n o,zr a b c e f,nZ Ä]
def ZL(c i:Nat):Jd:=λl g=>l.d=0/\¬l.q/\lL D l.M l/\∃t a b e f h j k m n o p,QT D.M D.N c t/\t[4]?=Â (À<|Â ⟨a,0,Á⟩)/\l.O a/\l.w.cell? ⟨a,0,Á⟩=Â (À<|D.i i)/\l.w.cell? ⟨a,1,Á⟩=Â (Ê Î<|D.c i)/\l.w.cell? ⟨a,2,Á⟩=Â (À<|Â ⟨D.C<|D.b i,0,Á⟩)/\l.M b/\l.w.cell? ⟨b,0,Á⟩=Â (À<|Â ⟨D.I,0,Á⟩)/\g=KP t [G2 k m n o p,zr b e f h j,nZ Ä]
def akp:Jd:=λl g=>lL D l.M l/\∃t a b c,Hg D.S D.I (D.C D.m) D.n (Æ D.l D.q D.k) t/\ia l a (É #[À<|Â ⟨D.I,0,Á⟩] 162)/\ia l b (É #[Ĉ (ù 48) #[] #[À<|Â ⟨D.s,0,Á⟩,À<|Â ⟨D.S,0,Á⟩]] 1)/\g=Bz (À<|Â ⟨D.I,0,Á⟩) c (À<|Â ⟨D.I,0,Á⟩) (ñ #[]) a b (Eh t::D.f)
def akq(j:Nat)(a:Nat->Nat):Jd:=λl g=>lL D l.I l/\∃t e c b d f,ST D.S D.I (D.C D.m) D.n (j-1) (Æ D.l D.q D.k) e t/\Zk D.S D.I D.q e (jG a j) (a<|j-1) c b d l/\a (j-1)<c/\c<b/\b<d/\(∀k,e.ownBlock=Â k->k≠a (j-1)/\k≠c/\k≠b/\k≠d)/\D.g<=a (j-1)/\g=Bz (À<|Â ⟨D.I,0,Á⟩) f (À<|Â ⟨D.I,0,Á⟩) (ñ #[]) b d (KY t::D.f)
def Lm(j:Nat)(a:Nat->Nat):Jd:=λl g=>l.d=0/\¬l.q/\D.g<=l.w.heap.size/\((j=0/\akp D l g)\/(1<=j/\akq D j a l g))
def ZM:Jd:=λl g=>l.d=0/\¬l.q/\lL D l.I l/\∃a,SE D.S D.I (D.C D.m) a/\g=Em a D.f
def SD.r(P:ė):Ph where
 toFx:=D.Y
 P:=P
 S:=D.g
 n:=D.n
 q:=D.q
 Y:=D.M
 f:=D.N
 r:=D.b
 a:=D.c
 b:=D.a
 c:=D.akl
 z:=zT
 B:=60
 γ:=D.γ
 l:=D.w
 i:=D.v
 p:=D.h
 d:=λk s V w=>(∃a,w.cell? ⟨D.C k,2,Á⟩=Â a/\D.RD s a V w)/\(k=0->w.cell? ⟨D.M,D.N,Á⟩=Á/\kV w D.M=Â (0,0)/\D.p w)
 o:=D.e
 k:=D.j
 g:=Lm D
 h:=BY D
 e:=ZL D
 j:=λ_=>ZM D
end
def En(D:SD):Prop:=∀k s e V l,k<D.m->ny (D.r Ä) k s->D.RD s e V l.w->(∀b,V b->l.M b)->gw l->¬l.q->(∀b,D.d b->l.M b)->D.RC l.w->∀f g,fh Ä Ì (λa j=>a.d=l.d/\∃p n c,j=G (f.finish<|ñ #[Æ p n c,à<|D.e<|k+1]) g/\∃h i,D.h k s h/\D.RD h (Æ p n c) i a.w/\∀b,i b->a.M b) (mg l)<|G (Ă Ä 66 #[e,À<|D.o<|k+1] Ğ)<|f::g
def Eo(D:SD):Prop:=∀i s a V l,i<D.q->ny (D.r Ä) (D.b i) s->D.RD s a V l.w->(∀b,V b->l.M b)->gw l->¬l.q->(∀b,D.d b->l.M b)->D.RC l.w->∀b c,fh Ä Ì (λe f=>e.d=l.d/\f=G (b.finish<|à<|D.j i) c) (mg l)<|G (Ă Ä 67 #[a,À<|D.i i] Ğ)<|b::c
section
variable{D:SD}
def Hz(k:Nat)(a:k<=D.m):D.Y.M (D.C k):=Ç ⟨k,a,U⟩
def zx:D.Y.M D.I:=Ã U
def akr(ok:D.Ok):(D.r Ä).Ok:=⟨ok.I,ok.L1,ok.gf,λi _=>ok.S i,ok.akm,ok.akn,ok.M,ok.pq,ok.pi,ok.OW,ok.gp,⟨λk a b e=>by have c:D.a k=D.N:=e;have:=ok.Y k a b;omega,λi d e=>by have c:D.c i=D.N:=e;have:=ok.a i d;omega⟩⟩
theorem aks(ok:D.Ok)(tX:En D):∀k s V l g,k<D.m->BY D k l g->gw l->ny (D.r Ä) k s->(D.r Ä).d k s V l.w->(∀b,V b->l.I b)->l.N (jf D.Y k)->l.r (jf D.Y<|k+1)->l.r (jm (D.r Ä)<|D.a<|k+1)->∀B:Nat->D.γ,B k=s->fh Ä Ì (JI (D.r Ä) B<|.mk (k+1)) l g:=by
 intro k s V l g o hJ El Sr A6 hV uA C E B hsg;obtain⟨hd,F,f,t,G,v1,v2,v3,v4,u0,u1,u2,u3,u4,hT,BL,cbw,rfl⟩:=hJ;let⟨⟨sl,hsl,qR⟩,_⟩:=A6;let⟨b,zo,hbM,i0,i1,i2,i3⟩:=f.h k o;have Gp:=ok.gf;have lr:(⟨D.C<|k+1,2,Á⟩:â)≠⟨D.M,D.a<|k+1,Á⟩:=λe=>ok.M (by injection e with H _ _;rw[<-H];exact Hz (k+1) o);have AT:Bs D.M D.N (Â ⟨b,0,Á⟩) D.m D.t k t:=by rwa[<-zo]
 have⟨oc1,oz1⟩:=f.r _ C;have⟨oc2,oz2⟩:=f.r _ E;have rL:∀a:â,(a=⟨D.C<|k+1,2,Á⟩\/a=⟨D.M,D.a<|k+1,Á⟩)->l.r a:=λa p=>by rcases p with rfl|rfl;exact C;exact E
 have r:=f.C _<|Hz (k+1) o;have ZN:=f.M _<|Hz (k+1) o;refine fh.fO (Stop:=λl g=>(∃i n,D.h k s i/\(D.r Ä).d (k+1) i n l.w/\(∀b,n b->l.M b)/\l.w.cell? ⟨D.M,D.a<|k+1,Á⟩=Â (à<|D.e<|k+1))/\yL Ä Ì (D.C<|k+1) (fh Ä Ì<|BY D<|k+1) (pY (D.r Ä) l<|k+1) g) (λl g h=> ?_) ?_
 .let⟨⟨i,n,I,J,L,O⟩,P⟩:=h;exact⟨i,n,by subst hsg;exact I,J,L,O,P⟩
 refine ai2 (Q:=λv x y=>x=D.e (k+1)/\∃i n,D.h k s i/\D.RD i v n y.w/\∀b,n b->y.M b) (τ:=λl=>pY (D.r Ä) l<|k+1) El F hd AT o Z (by have:=ok.N1;omega) (ok.Y (k+1) Z o) hbM i0 i1 i2 i3 uA hsl C E oc1 oc2 oz1 oz2 lr (λc v j u=> ?_) λc x v hQ Rv KO=> ?_
 .refine(tX k s sl V c o Sr (ok.r _ _ _ _ _ qR λb x=>v.r b<|Ç<|hV b x) (λb x=>v.M<|Ç<|hV b x) (v.G El) (by rwa[v.q]) (λb x=>v.M<|f.Y b x) (ok.C _ _ f.e λb x=>v.r b<|f.Y b x) j u).fO ?_;grind
 .let⟨y,⟨hstr,i,n,hnx,akt,ZO⟩,hy⟩:=hQ;rw[hstr]at KO;have ZQ:nD (D.C<|k+1) c.w:=⟨v.b _ r.1 ZN.1,v.b _ r.2 ZN.2⟩;refine⟨⟨Ã (by rw[v.K];exact r.1),Ã (by rw[v.K];exact r.2),λ_ _ _ _ _ _ _ _=>trivial⟩,⟨v.fw,ZQ,trivial⟩,⟨i,n,hnx,⟨⟨_,Rv,ok.r _ _ _ _ _ akt λb x=>(hy b<|ZO b x).2⟩,λe=>by omega⟩,λb x=>(hy b<|ZO b x).1,KO⟩,v.d.trans hd,λw=>fE (pY (D.r Ä) c<|k+1) c.w w,⟨Ã (by show c.K _;rw[v.K];exact r.1),Ã (by show c.K _;rw[v.K];exact r.2),λw w₁ I J L O P h=>h.fe ⟨I,J,L,O,P⟩⟩,⟨λj h=>h.elim,ZQ,fE.fV _ _⟩,λwU t' aku Dr=> ?_⟩;refine .fA λS u=> ?_;have z:=aku.2.2.fe ⟨u.r,u.I,u.N,u.Y,u.S⟩;have x:=λb x=>(z.I b<|Ç<|v.M x).trans<|v.r b x;have ZR:∀b,l.M b->({pY (D.r Ä) c (k+1)with d:=0,w:=S}:e9).M b:=λb x=>Ç<|v.M x;refine⟨U,by show¬c.q;rwa[v.q],f.I ok ZR x (by show c.K=l.K;exact v.K) (λa p h=>z.S a (by show c.K a;rwa[v.K])<|v.b a p h) λa p=> ?_,t',G,v1,v2,v3,v4,u0,u1,u2,u3,u4,by rwa[zo],ZR G BL,(gM<|x G BL).trans cbw,U⟩;obtain⟨T,W,X⟩:c.r a/\a≠⟨D.M,D.a<|k+1,Á⟩/\a≠⟨D.C<|k+1,2,Á⟩:=p;have Y:l.r a:=by rwa[<-v.I]
  let⟨H,e2⟩:=f.r a Y;refine⟨?_,?_⟩
  .show(S.cell? a).isSome=Ò;rwa[z.N a<|Ã ⟨T,W,X⟩,v.e a (Ã Y) λq=>q.elim X W]
  .show S.frozen? a=Ì;rwa[z.Y a<|Ã ⟨T,W,X⟩,v.S a<|Ã Y]
def akv:∀l g,BY D D.m l g->gw l->fh Ä Ì (AP<|D.r Ä) l g:=by intro l g c d;obtain⟨e,f,b,t,k,n,o,p,q,r,s,u,v,w,h,i,j,rfl⟩:=c;have a:=b.C _<|zx;exact aja (Ψ:=λ_=>True) h a ⟨Ã a.1,Ã a.2,λ_ _ _ _ _ _ _ _=>trivial⟩ ⟨d.r,b.M _ zx,trivial⟩ e f (Ã i) j
def ZS(ok:D.Ok){r:Nat}{l:e9}{t:Array Ï}{g h m o p:Ï}(B:gw l)(s:¬l.q)(C:l.d=0)(a:lL D l.M l)(E:QT D.M D.N i t)(f:l.M k)(u:l.w.cell? ⟨k,0,Á⟩=Â (À<|Â ⟨D.I,0,Á⟩)): Di (D.r Ä) i j r l (zu t [G2 g h m o p,zr k v x z jQ,nZ Ä]):=by have y:=ok.S<|j+r*D.n;refine ajf B s C E (Ú _) U (a.C _<|Hz _ y) (a.M _<|Hz _ y) (a.C _ zx) (a.M _ zx) (Ã f) u λQ F G e H I J K L O P=>(⟨H,by rwa[e.q],(a.Sq ok (λ_ q=>q) e).N λb q=>e.M q,G,F,k,v,x,z,jQ,g,h,m,o,p,O,P,I,J,K,L,e.M f,(gM<|e.r k f).trans u,U⟩)
theorem akw(ok:D.Ok)(W:Eo D):∀c j r s V l g,j+r*D.n<D.q->ZL D c (j+r*D.n) l g->∀f:e9,gw f->f.O=l.O->(∀b,l.I b\/V b->f.I b)->f.w=l.w->f.d=l.d->f.q=l.q->f.r=l.r->f.K=l.K->ny (D.r Ä) (D.b<|j+r*D.n) s->(D.r Ä).d (D.b<|j+r*D.n) s V l.w->f.N (jf D.Y<|D.b<|j+r*D.n)->f.r (jm (D.r Ä)<|D.c<|j+r*D.n)->fh Ä Ì (JW (D.r Ä) c j<|.oN r) f g:=by
 intro c j r s V l g E X f v F y o Y hq' Kf hK Sr A6 uA p;obtain⟨hd,hq,G,t,tb,u,v1,v2,v3,v4,u0,u1,u2,u3,u4,hT,h4,hOt,H,I,J,L,N,rfl⟩:=X;let⟨⟨sl,P,S⟩,_⟩:=A6;have B:∀b,l.M b->f.M b:=λb q=>q.elim (λz=>Ã<|by rwa[F]) λz=>Ç<|y b<|Ã z;have m:=G.I ok B (λb _=>by rw[o]) hK (λa _ h=>by rwa[o]) λa q=>by rw[o];exact G.r a<|by rwa[<-Kf]
 have C:¬f.q:=by rwa[hq']
 rw[<-o]at H I J N P S;let⟨e2,z2⟩:=m.r _ p;refine G4 (Q:=λx=>x=D.j (j+r*D.n)) v C hT h4 (by rwa[F]) H I J uA P p e2 z2 (ok.a _ E) (λi e k T=> ?_) λi x t' e hx hcx AT=> ?_
 .refine(W _ s sl V i E Sr (ok.r _ _ _ _ _ S λb x=>e.r b<|Ç<|y b<|Ç x) (λb x=>e.M<|Ç<|y b<|Ç x) (e.G v) (by rwa[e.q]) (λb x=>e.M<|m.Y b x) (ok.C _ _ m.e λb x=>e.r b<|m.Y b x) k T).fO ?_;grind
 .have T:=(m.Sq ok (λ_ q=>q) e).N λb q=>e.M q;refine⟨hcx.trans (by rw[hx];rfl),?_⟩;have k:=e.G v;have GV:gw (vr (D.r Ä) i<|j+r*D.n):=by
   refine⟨k.c,λa x=> ?_,λa x=> ?_,k.fw,λa x=> ?_,λa x=> ?_⟩
   .rintro(q|q)
    .exact k.Y a x.1 q
    .exact x.2 q
   .refine k.N a ?_;rcases x with q|q|q
    .exact Ã q.1
    .exact Ç q
    .rw[q];exact Ã<|by rwa[e.I]
   .refine k.I a ?_;rcases x with q|q|q
    .exact Ã q.1
    .exact Ç q
    .rw[q];exact Ã<|by rwa[e.I]
   .let⟨k1,k2,k3⟩:=k.S a x;exact⟨k1,k2,λq=>k3 q.1⟩
  refine ZS ok GV (by show¬i.q;rwa[e.q]) (by show i.d=0;rwa[e.d,Y]) (T.I ok (λ_ q=>q) (λ_ _=>rfl) U (λ_ _ h=>h) λa q=>T.r a q.1) AT (by show i.M u;exact e.M<|B u L)<|(gM<|e.r u<|B u L).trans N
end
section
variable{D:SD}{dk:Nat->Nat}{dv:Ï}{l f:e9}
structure MF(D:SD)(dk:Nat->Nat)(dv:Ï)(l:e9):Prop where
 C:gw l
 q:¬l.q
 d:l.d=0
 r:lL D l.I l
 I:∃db c,dv=Æ (Â ⟨db,0,Á⟩) D.n c/\l.O db/\∀i,i<D.n->l.w.cell? ⟨db,i,Á⟩=Â (è<|Â<|dk i)
def MF.M(h:MF D dk dv l)(ok:D.Ok)(a:iE ff l f):MF D dk dv f where
 C:=a.G h.C;q:=by rw[a.q];exact h.q
 d:=a.d.trans h.d;r:=(h.r.Sq ok (λ_ q=>Ç q) a).N λb q=>by rwa[a.Y]
 I:=by let⟨e,c,j,g,k⟩:=h.I;exact⟨e,c,j,a.O e g,λi m=>(gM<|a.r e<|Ã g).trans<|k i m⟩
def akx(ok:D.Ok):∀r,r<=D.n->∀l t b,MF D dk dv l->ET dv D.n (D.n-r) t->SE D.S D.I (D.C D.m) b->fh Ä Ò (AQ (D.r Ä) dk r) l (BX t<|Hx b::D.f):=by
 intro r
 induction r with
 |zero=>
  intro _ l t b a e g;rw[ũ]at e;refine aki a.C a.d (Ú _) e g (a.r.C _ zx) (a.r.M _ zx) λf i h j=> ?_;have c:=a.M ok h;exact⟨c.d,c.q,c.r,i,j,U⟩
 |succ r j=>
  intro s l t b a e g;obtain⟨u,c,rfl,k,o⟩:=a.I;have v:=ok.gf;refine akh a.C a.q e Z Z k (o (D.n-(r+1)) Z) λf p h i=> ?_;refine j Z f p b (a.M ok h) ?_ g;rwa[show D.n-(r+1)+1=D.n-r by omega]at i
def aky(ok:D.Ok):∀r,r<=D.q->∀l t d,MF D dk dv l->DT dv D.l D.q D.k (D.q-r) t->SE D.S D.I (D.C D.m) d->fh Ä Ò (Gb (D.r Ä) dk r) l (BV t<|Hx d::D.f):=by
 intro r
 induction r with
 |zero=>
  intro _ l t d a e h;rw[ũ]at e;obtain⟨j,c,rfl,k,o⟩:=a.I;refine akg a.C.r e λi g=>akx ok D.n (Ú _) l i d a ?_ h;rwa[Ū]
 |succ r s=>
  intro C l t d a e h;obtain⟨j,c,rfl,k,o⟩:=a.I;have E:=ok.gf;have F:=ok.I;let⟨b,p,u,v,w,x,y⟩:=a.r.j (D.q-(r+1)) Z;have z:DT (Æ (Â ⟨j,0,Á⟩) D.n c) (Â ⟨b,0,Á⟩) D.q D.k (D.q-(r+1)) t:=by rwa[<-p]
  refine akd a.C a.q z Z Z Z Z k (o _<|ĵ _ Z) (Ç u) v w x y λf i B g=> ?_;refine s Z f i d (a.M ok B) ?_ h;rwa[show D.q-(r+1)+1=D.q-r by omega,<-p]at g
theorem akz(dk:Nat->Nat)(j a:Nat):jG (fx dk j a) (j+1)=jG dk j++[è<|Â a]:=by unfold jG;grind [ÿ,List.map_congr_left,fG,gD]
def akA(dk:Nat->Nat)(j:Nat):(jG dk j).length=j:=by simp[jG]
def akB(dk:Nat->Nat)(j i:Nat)(h:i<j):(jG dk j)[i]?=Â (è<|Â<|dk i):=by simp[jG,h]
theorem ZT(ok:D.Ok){t:Array Ï}(K:j<=D.n)(a:gw l)(o:¬l.q)(p:l.d=0)(h:lL D l.I l)(x:D.g<=l.w.heap.size)(v:ST D.S D.I (D.C D.m) D.n j (Æ D.l D.q D.k) dv t)(r:l.w.ownsRow 0 101 1 dv j (jG dk j))(s:∀k,dv.ownBlock=Â k->l.O k): fh Ä Ò (JM (D.r Ä) dk<|if j<D.n then .iF (j+1)else .iJ D.q) l (vH t D.f):=by
 have L:=ok.gf;by_cases u:j<D.n
 .rw[if_pos u];show fh Ä Ò (OV (D.r Ä) (j+1) dk) l _;rw[aiH];refine ajo a o p v u Z Z (h.C _ zx) (h.M _ zx) r s λf i y z B C E F c G H M N I J P=> ?_;refine⟨y,c.d.trans p,by rwa[c.q],Õ x c.I,Ç ⟨Z,(h.ako ok (λb g=>⟨Ç g,λe=>a.c b (s b e.symm) g⟩) c).N λb q=>(by rwa[c.S]),i,E,z,B,C,F,?_,?_,?_,I,J,?_,?_,U⟩⟩
  .rwa[ø]
  .rwa[ø,akz,gD]
  .grind [ø,gD]
  .grind [ø,gD]
  .grind [ø,gD,Õ]
 .have e:j=D.n:=Z
  subst e;rw[if_neg u];have y:∃b c,dv=Æ (Â ⟨b,0,Á⟩) D.n c/\l.O b/\∀i,i<D.n->l.w.cell? ⟨b,i,Á⟩=Â (è<|Â<|dk i):=by
   rcases r.2 with⟨_,C⟩|⟨g,z,E,rfl,_⟩
   .have:=ok.I;omega
   .refine⟨g,z,U,s g U,λi B=> ?_⟩;have:=r.cells U i _<|akB dk D.n i B;grind [ğ]
  refine akf a.r v λg z B C=>(aky ok D.q (Ú _) l g z ⟨a,o,p,h,y⟩ (by rwa[Ū]) C)
def akC(ok:D.Ok)(h:BY D k l g)(r:fE l l.w u):BY D k {l with w:=u} g:=by obtain⟨c,d,e,t,a,f,i,j,m,n,o,p,s,v,x,b,y,rfl⟩:=h;exact⟨c,d,e.G ok (λ_ q=>q) r,t,a,f,i,j,m,n,o,p,s,v,x,b,(gM<|r.I a b).trans y,U⟩
def ia.M{o:Ÿ}(h:ia l b o)(r:fE l l.w u):ia {l with w:=u} b o:=⟨h.fl,(r.I b<|Ã h.fl).trans h.I⟩
def Gc(ok:D.Ok)(h:Lm D j dk l g)(r:fE l l.w u):Lm D j dk {l with w:=u} g:=by
 let⟨m,n,o,h⟩:=h;refine⟨m,n,Õ o r.r,?_⟩;rcases h with⟨p,b,t,c,d,f,i,s,v,rfl⟩|⟨x,b,t,dv,y,c,d,f,i,a,z,B,C,E,F,rfl⟩
 .exact Ã ⟨p,b.G ok (λ_ q=>q) r,t,c,d,f,i,s.M r,v.M r,U⟩
 .exact Ç ⟨x,b.G ok (λ_ q=>Ç q) r,t,dv,y,c,d,f,i,⟨n5 a.S λk e=>r.I k<|Ã<|a.M k e,a.M,a.r.M r,a.C.M r,a.N.M r,a.I.M r⟩,z,B,C,E,F,U⟩
theorem akD(ok:D.Ok):∀j dk l g,j<=D.n->Lm D j dk l g->gw l->l.d=0/\∃(G H:Ý) (X:Nat->Prop),G.status=ċ/\H.status=ċ/\(∀u,stepG Ä Ò g u=.spawn G H u #[])/\(∀b,X b->l.O b)/\ (1<=j->l.O (dk<|j-1)/\¬X (dk<|j-1)/\l.w.heap[dk<|j-1]?=Â (ŕ D.q #[] Ì 0 0 Ì)/\D.g<=dk (j-1))/\ (∀f:e9,gw f->(∀b,X b\/l.I b->f.I b)->f.w=l.w->f.d=0->¬f.q->(∀b,¬f.O b)->f.K=l.K->f.N=l.N->(∀a,f.r a->l.r a)->fh Ä Ì (if j=0 then BY D 0 else Di (D.r Ä) (dk<|j-1) (j-1) 0) f H)/\ (∀f:e9,gw f->f.O=(λb=>l.O b/\¬X b/\(1<=j->b≠dk (j-1)))->(∀b,X b\/l.I b->f.I b)->f.w=l.w->f.d=0->f.q=l.q->f.K=l.K->f.N=l.N->(∀a,f.r a->l.r a)->fh Ä Ò (JM (D.r Ä) dk<|if j<D.n then .iF (j+1)else .iJ D.q) f G):=by
 intro j dk l g L h El;let⟨hd,N,P,h⟩:=h;refine⟨hd,?_⟩;rcases h with⟨rfl,o,t,x,C,v1,I,Q,S,rfl⟩|⟨h1,o,t,dv,T,x,C,v1,I,c,x1,x2,x3,x4,x5,rfl⟩
 .refine⟨_,_,l.O,U,U,λu=>Zi _ _ _ _ _ _ _ u,λ_ q=>q,λq=>by omega,λf i m X y p E z J B=> ?_,λf i E m X y p z J B=> ?_⟩
  .rw[if_pos U];have e:=λb q=>m b q;have s:lL D f.M f:=o.I ok (λb q=>Ç<|e b q) (λb _=>by rw[X]) z (λa _ h=>by rwa[X]) λa q=>by rw[X];exact o.r a<|B a q
   refine ai9 i.r p (Ã<|Ç<|e C<|Ã S.fl) (Ã s.f) (Ã s.c) (by rw[X];exact S.C U) s.g s.d λF V W Y w4 u0 u1 u2 u3 u4 v=> .fA λu r=>akC ok ⟨y,p,s,F,x,V,W,Y,w4,u0,u1,u2,u3,u4,v,Ç<|e x<|Ã Q.fl,by rw[X];exact Q.C U,U⟩ r
  .refine ajm i.r I λF v=>(ZT ok L i (by rwa[p]) y (o.I ok (λb q=>m b q) (λb _=>by rw[X]) z (λa _ h=>by rwa[X]) λa q=>by rw[X];exact o.r a<|B a q) (by rwa[X]) v (World.ownsRow_nil _ _ _ _) λk e=>by cases e)
 .refine⟨_,_,λb=>b=T\/b=x\/b=C,U,U,λu=>Zi _ _ _ _ _ _ _ u,λb q=> ?_,λ_=>⟨c.r.fl,?_,c.r.I,x5⟩,λf i m X y p E z J B=> ?_,λf i E m X y p z J B=> ?_⟩
  .rcases q with rfl|rfl|rfl
   .exact c.C.fl
   .exact c.N.fl
   .exact c.I.fl
  .grind
  .rw[if_neg Z];have s:lL D f.M f:=o.I ok (λb q=>Ç<|m b<|Ç q) (λb _=>by rw[X]) z (λa _ h=>by rwa[X]) λa q=>by rw[X];exact o.r a<|B a q
   have ZU:f.M x:=Ç<|m x<|Ã<|Ç<|Ã U;refine aje i.r p (Ã<|Ç<|m C<|Ã<|Ç<|Ç U) (Ã<|Ç<|m T<|Ã<|Ã U) (Ã s.c) (by rw[X];exact c.I.C U) (by rw[X];exact c.C.C U) s.d λF V W Y w4 u0 u1 u2 u3 u4 v=> .fA λu r=>(ZS ok (i.j5 r.r) p y (s.G ok (λ_ q=>q) r) v ZU<|(gM<|r.I x ZU).trans<|by rw[X];exact c.N.C U)
  .have s:=ok.gf;refine ajn i.r I Z λF v=> ?_;rw[show j-1+1=j by omega]at v;have r:=c.S;rw[akA]at r;refine ZT ok L i (by rwa[p]) y (o.I ok (λb q=>m b<|Ç q) (λb _=>by rw[X]) z (λa _ h=>by rwa[X]) λa q=>by rw[X];exact o.r a<|B a q) (by rwa[X]) v (by rwa[X]) λk e=> ?_;rw[E];let⟨a,V,W,Y⟩:=x4 k e;refine⟨c.M k e,?_,λ_=>a⟩;grind
def akE(ok:D.Ok)(b:En D)(d:Eo D):gR (D.r Ä) where
 C:=akr ok;S k s V w w' h hV hc hz hf xE:=by let⟨⟨a,f,m⟩,t⟩:=h;exact⟨⟨a,hc.trans f,ok.r _ _ _ _ _ m hV⟩,λe=>⟨hz.trans (t e).1,hf.trans (t e).2.1,ok.ioS _ _ (t e).2.2 xE⟩⟩
 Gc j dk l g w₁ h r:=Gc ok h r;I j dk l g h:=by let⟨_,_,_,h⟩:=h;rcases h with⟨_,_,t,e,f,a,_,_,_,rfl⟩|⟨_,_,t,dv,m,e,f,a,_,_,_,_,_,_,_,rfl⟩<;>rfl
 N k l g h:=by obtain⟨_,_,_,t,e,a,f,m,n,o,p,q,u,v,_,_,_,rfl⟩:=h;rfl
 Y c i l g h:=by obtain⟨_,_,_,t,tb,e,a,f,m,n,o,p,q,u,v,_,_,_,_,_,_,_,_,rfl⟩:=h;rfl
 M dk l g h:=by obtain⟨_,_,_,f,_,rfl⟩:=h;rfl
 go:=akD ok;f:=aks ok b;h:=akv;e:=akw ok d
end
end Go.Proofs.Y.ft
namespace Go.Proofs.Y.ft
open Go Go.Conc Go.Proofs.Y.Lift
open Go.ConcN (sumTo sumTo_congr)
structure kF(P:ė)(Y:Nat->Prop)(jl:Ν->Prop)(H:Nat)(J:Jd)(T:gu)(lv:Nat->Nat)(lot:Nat->e9)(gs:Array Ý)(w:ß)(t:ż):Prop where
 C:1<=gs.size
 r:gN P 0 Y (λi=>if i=0 then J else pv P (lv i)) (λi=>if i=0 then T else .fA) (λ_=> .no) lot gs w t
 c:∀i,0<i->i<gs.size->lot i=kC (lot i)
 d:¬(lot 0).q
 M:∀p a,touchAt t p=Â a->a.loc.isMemory=Ò->Knows t 0 p\/(jl a.loc/\a.kind=.atomic)
 S:∀p a x,touchAt t p=Â a->a.loc=û x->t.g? p=Â 0\/x.block<H
 b:∀a:â,H<=a.block->NoRelease a t
 N:t.HandedOver
abbrev rR(P:ė):=kF P λ_=>False
structure qS(l l':e9)(w w':ß):Prop where
 r:w.heap.size<=w'.heap.size
 N:∀j,l'.O j->l.O j\/w.heap.size<=j
 rd:l'.I=l.I
 S:l'.r=l.r
 b:l'.N=l.N
 k:l'.K=l.K
 jU:∀j,j<w.heap.size->¬l.O j->(∀a:â,a.block=j->¬l.r a)->w'.heap[j]?=w.heap[j]?
 M:∀a:â,a.block<w.heap.size->¬l.O a.block->¬l.r a->w'.cell? a=w.cell? a
 Y:∀j,j<w.heap.size->¬l.O j->kV w' j=kV w j
 C:w'.os=w.os
 I:w'.output=w.output
 c:w'.tape=w.tape
theorem qS.fV(l:e9)(w:ß):qS l l w w:=⟨Ú _,λ_ h=>Ã h,U,U,U,U,λ_ _ _ _=>rfl,λ_ _ _ _=>rfl,λ_ _ _=>rfl,U,U,U⟩
def qS.fe{l e i:e9}{w':ß}(h:qS l e w w')(k:qS e i w' u):qS l i w u:=by
 have f:∀j,j<w.heap.size->¬l.O j->¬e.O j:=λj c b q=>(h.N j q).elim b λz=>by omega
 refine⟨Õ h.r k.r,λj q=> ?_,k.rd.trans h.rd,k.S.trans h.S,k.b.trans h.b,k.k.trans h.k,λj c b d=>((k.jU j (È c h.r) (f j c b)<|by rwa[h.S]).trans<|h.jU j c b d),λa g b d=>((k.M a (È g h.r) (f _ g b)<|by rwa[h.S]).trans<|h.M a g b d),λj c b=>(k.Y j (È c h.r)<|f j c b).trans<|h.Y j c b,k.C.trans h.C,k.I.trans h.I,k.c.trans h.c⟩
 .rcases k.N j q with z|z
  .exact h.N j z
  .exact Ç<|Õ h.r z
def mE.akF{l a:e9}(h:mE l a w u V):qS l a w u:=⟨h.C,h.N,h.rd,h.r,h.I,h.k,h.jU,h.M,λj b c=>h.S ⟨j,0,Á⟩ b c,h.c,h.f,h.i⟩
def qS.G{l a:e9}(h:qS l a (w.at i) u):qS l a w u:=⟨h.r,h.N,h.rd,h.S,h.b,h.k,h.jU,h.M,h.Y,h.C,h.I,h.c⟩
section
variable{Y:Nat->Prop}{jl:Ν->Prop}{H:Nat}{J:Jd}{T:gu}{lv:Nat->Nat}{lot:Nat->e9}{gs:Array Ý}{t:ż}{sl:Option (Nat×Nat)}
def kF.I(c:kF P Y jl H J T lv lot gs w t)(d:Nat):kF P Y jl H J T lv lot gs (w.at d) t:=⟨c.C,c.r.at d,c.c,c.d,c.M,c.S,c.b,c.N⟩
def akG{l:e9}{e:ž}(h:yF l e)(a:â):ï e≠.mark (.release a):=by
 let⟨c,d,g⟩:=e;rcases h with⟨x,b,_⟩|h|⟨f,h⟩|h|h|⟨x,_,h⟩
 .simp only at b;subst b;simp[ï]
 .simp only at h;subst h;simp[ï]
 .simp only at h;subst h;simp[ï]
 .simp only at h;subst h;simp[ï]
 .simp only at h;subst h;simp[ï]
 .simp only at h;rcases h with rfl|rfl|rfl|rfl<;>simp[ï]
theorem akH{e:ž}(h:e.mute=Ò)(a:â):ï e≠.mark (.release a):=by let⟨b,c,d⟩:=e;cases b<;>simp_all[Event.mute];rename_i m;cases m<;>simp_all[ï]
theorem kF.akI{k:ß->gu}(c:kF P Y jl H J (.jM k) lv lot gs w t)(o:∀l g,J l g->g.status=ċ\/g.status=ş)(r:gs[0]?=Â g): ∃e b d u,runT P (Ĭ gs w sl) 0=(.next<|Ĭ b d sl,u)/\b.size=gs.size/\qS (lot 0) (e 0) w d/\kF P Y jl H J (k w) lv e b d (t++u):=by
 obtain⟨b,d,G,s,v,f,I,K,j,y⟩:=c.r.fl r U λl g h=>o l g h;refine⟨gq lot 0 s,b,d,_,v,f,by rw[gU];exact j.akF,by rw[f];exact c.C,?_,λi z B=> ?_,?_,λp a h C=> ?_,λp a x h D=> ?_,λa h=>(c.b a h).app λu m=> ?_,Ř c.N λu m=>Ã<|ot u m⟩
 .have e:fx (λi=>if i=0 then(.jM k:gu)else .fA) 0 (k w)=λi=>if i=0 then k w else .fA:=by
   funext i;unfold fx;grind
  rwa[<-e]
 .rw[gF lot _ Z];exact c.c i z<|by rwa[<-f]
 .rw[gU,j.q];exact c.d
 .rcases mR h with⟨_,e⟩|⟨_,u,e,E,n⟩
  .exact(c.M p a e C).imp (·.app _) id
  .have:=knows_own n;grind [ot]
 .rcases mR h with⟨F,e⟩|⟨_,u,e,E,n⟩
  .rw[g?_old F];exact c.S p a x e D
  .apply Ã;unfold Trace.g?;grind [ot]
 .obtain⟨e,n,rfl⟩:=Č m;exact akG (j.b e n) a
theorem kF.ZV(c:kF P Y jl H J T lv lot gs w t)(q:gs[i]?=Â g)(b:i≠0)(y:g.status=ċ): ∃a e f u,runT P (Ĭ gs w sl) i=(.next<|Ĭ f w sl,u)/\f.size=gs.size/\sumTo gs.size a+1=sumTo gs.size lv/\e 0=lot 0/\kF P Y jl H J T a e f w (t++u):=by
 have z:=(æ.1 q).1;obtain⟨f,r,m,M,B,o,N,C,D⟩:=c.r.OC (n:=lv i) q b y U (by simp[b]) (by simp[b]);have E:∀u∈MemOp.ofEvents i g.frame.fn g.frame.place r,u.act.touch?=Á:=λu h=>by obtain⟨e,s,rfl⟩:=Č h;exact touch_mute<|C e s
 refine⟨fx lv i m,gq lot i {lot i with d:=į (lot i).d r,w:=w},f,_,B,o,?_,gF lot _<|Ne.symm b,by rw[o];exact c.C,?_,λj v F=> ?_,?_,λp a k G=> ?_,λp a x k I=> ?_,λa k=>(c.b a k).app λu h=> ?_,Ř c.N λu h=>Ç<|E u h⟩
 .grind [xe,fG,gD]
 .have l:fx (λi=>if i=0 then J else pv P (lv i)) i (pv P m)=λj=>if j=0 then J else pv P (fx lv i m j):=by
   funext j;unfold fx;grind
  rwa[<-l]
 .by_cases e:j=i
  .subst e;rw[gU];have:=c.c j v z;rw[this];rfl
  .rw[gF lot _ e];exact c.c j v<|by rwa[<-o]
 .rw[gF lot _<|Ne.symm b];exact c.d
 .rcases mR k with⟨_,l⟩|⟨_,u,l,K,_⟩
  .exact(c.M p a l G).imp (·.app _) id
  .grind
 .rcases mR k with⟨L,l⟩|⟨_,u,l,K,_⟩
  .rw[g?_old L];exact c.S p a x l I
  .grind
 .obtain⟨e,s,rfl⟩:=Č h;grind [akH]
def kF.Ku(c:kF P Y jl H J T lv lot gs w t):∀g∈gs,awake g:=by
 intro g e;obtain⟨i,f,rfl⟩:=Array.mem_iff_getElem.1 e;let⟨g0,_,b,a,_⟩:=c.r.C i _<|ì f;intro τ d;generalize gs[i]=g at b d;cases b with
 |gk=>rcases a with a|a<;>rw[d]at a<;>cases a
theorem kF.G(K:∀l g,J l g->g.status=ċ\/g.status=ş):∀(T:gu) (s:Nat) (lv:Nat->Nat) (lot:Nat->e9) (gs:Array Ý) (w:ß) (sl:Option (Nat×Nat)) (t:ż),sumTo gs.size lv=s->kF P Y jl H J T lv lot gs w t-> ∃N h b a f e c,Ŷ P N (Ĭ gs w sl) t=(.next<|Ĭ a f e,c)/\a.size=gs.size/\qS (lot 0) (b 0) w f/\kF P Y jl H J .fA h b a f c:=by
 intro T
 induction Xv.apply T with
 |intro T _ L=>
  intro s
  induction s using Nat.strongRecOn with
  |_ s M=>
   intro lv lot gs w sl t V c;cases C:T with
   |fA=>
    subst C;exact⟨0,lv,lot,gs,w,sl,t,U,U,qS.fV _ _,c⟩
   |jM k=>
    subst C;have W:=c.C;obtain⟨g0,D⟩:∃g,gs[0]?=Â g:=⟨_,ì Z⟩;have O:g0.status=ċ:=by let⟨S,d,i,_,_⟩:=c.r.C 0 g0 D;grind [agD]
    let⟨i,g,d,e,E,Q,F⟩:=crowd_pick (P:=P) (w:=w) (sl:=sl) c.Ku ⟨0,g0,D,O⟩;by_cases G:i=0
    .subst G;let⟨b,a,f,u,n,j,S,I⟩:=(c.I d).akI (sl:=e) K E;let⟨N,o,p,q,r,v,x,y,z,m,B⟩:=L (k<|w.at d) ⟨_,U⟩ _ lv b a f e (t++u) U I;exact⟨N+1,o,p,q,r,v,x,by simp only[Ŷ,F,n];exact y,z.trans j,S.G.fe m,B⟩
    .let⟨h,b,a,u,n,j,I,f,S⟩:=(c.I d).ZV (sl:=e) E G Q;let⟨N,o,p,q,r,v,x,y,z,m,B⟩:=M (sumTo a.size h) (by rw[j];omega) h b a (w.at d) e (t++u) U S;exact⟨N+1,o,p,q,r,v,x,by simp only[Ŷ,F,n];exact y,z.trans j,by rw[f]at m;exact m.G,B⟩
end
section
variable{F:Ph}{E:fU F}{S:Nat->Jd}{tr:Nat->gu}{o:Nat->iA}{f:Nat->e9}{gs:Array Ý}
def PI.jr(p:PI F i zX E S tr o f gs w qJ)(c:E.M=.gd):E.r=F.n+1/\∀x,x<F.n+1->∃N,E.N x=Â (.jr N):=by
 refine⟨(by unfold fU.r;rw[c];rfl),λx g=> ?_⟩;have a:=Px (p.C.B<|Ç<|Ç c) x g;have j:x<E.M.ad F.n:=by rwa[c]
 unfold fU.G at a;rw[if_pos j]at a;have l:E.M.gC=0:=by rw[c];rfl
 cases d:E.N x with
 |none=>rw[d]at a;simp[me]at a
 |some e=>
  rw[d]at a;simp only[me]at a;cases e with
  |oP=>simp[ik.kQ]at a
  |jr N=>exact⟨N,U⟩
  |gd q=>
   let⟨h,k⟩:=p.C.N x q d;cases q with
   |jD=>simp[ik.kQ,jF.kQ]at a
   |iF=>simp[ik.kQ,jF.kQ]at a
   |gA W=>
    let⟨_,b⟩:=h W<|Ã U;have r:=p.M.C.r;rw[b]at r;have:=(p.C.g W b).2.1;simp only[GS.ok]at r;omega
   |jc W=>
    let⟨_,b⟩:=h W<|Ç U;have r:=p.M.C.r;rw[b]at r;have:=(p.C.g W b).2.1;simp only[GS.ok]at r;omega
   |iB r=>
    let⟨W,_,s,b⟩:=k r U;have:=(p.C.u r s b).2.1;omega
def xF(l:e9):e9:={l with O:=λ_=>False,I:=λ_=>False,r:=λ_=>False,N:=λ_=>False,K:=λ_=>False,q:=True}
def vn(f:Nat->e9)(l:e9):Nat->e9:=λi=>if i=0 then l else xF (f i)
def Ss(f:Nat->e9)(l:e9):vn f l 0=l:=rfl
def vP(f:Nat->e9)(l:e9)(h:i≠0):vn f l i=xF (f i):=if_neg h
def HA{l:e9}(h:i≠0):¬(vn f l i).M b:=by rw[vP f l h];exact λq=>q.elim id id
def HB{l:e9}(h:i≠0):¬(vn f l i).C a:=by rw[vP f l h];exact λq=>q.elim id id
def iR.Y{Y I:Nat->Prop}(C:iR n I Y f w qJ)(u:I 0){l:e9}(v:n<=m)(x:∀b,l.O b->¬l.I b)(y:∀a,l.r a->¬l.N a)(B:∀b,l.M b->¬X b)(D:∀a,l.C a->X a.block)(E:∀b,l.M b->b<w.heap.size)(F:∀b,X b->b<w.heap.size)(G:fE l l.w w)(H:Ox qJ 0 l)(J:l.d=(f 0).d)(t:∀a,l.K a->X a.block/\¬l.r a):iR m I X (vn f l) w qJ:=by
 refine⟨λi j g L s b o=> ?_,λi j g L s a e=> ?_,λi g b o=> ?_,λi g a e=> ?_,λi g b o=> ?_,λi g a e=> ?_,λi g b o=> ?_,F,λi g=> ?_,λi g=> ?_,λi g=> ?_,C.l,C.q,λp a c N r P=>È (C.s p a c N r P) v,λi g a e=> ?_⟩
 .by_cases h:j=0
  .subst h;exact absurd (Ã o)<|HA s
  .exact HA h
 .by_cases h:j=0
  .subst h;exact absurd (Ã e)<|HB s
  .exact HB h
 .by_cases h:i=0
  .subst h;exact x b o
  .exact absurd (Ã o)<|HA h
 .by_cases h:i=0
  .subst h;exact y a e
  .exact absurd (Ã e)<|HB h
 .by_cases h:i=0
  .subst h;exact B b o
  .exact absurd o<|HA h
 .by_cases h:i=0
  .subst h;exact D a e
  .exact absurd e<|HB h
 .by_cases h:i=0
  .subst h;exact E b o
  .exact absurd o<|HA h
 .by_cases h:i=0
  .subst h;exact G
  .rw[vP f l h];exact⟨(C.r i g).r,λj q=>q.elim (λz=>z.elim) λz=>z.elim,λa q=>q.elim (λz=>z.elim) λz=>z.elim,λa q=>q.elim (λz=>z.elim) λz=>z.elim,λa q=>q.elim⟩
 .by_cases h:i=0
  .subst h;exact H
  .rw[vP f l h];exact⟨λa e=>e.elim,λa e=>e.elim,λa e=>e.elim,λa e=>e.elim⟩
 .by_cases h:i=0
  .subst h;rw[Ss,J];exact C.f 0 u
  .rw[vP f l h];exact C.f i g
 .by_cases h:i=0
  .subst h;refine⟨(t a e).1,λk z q=> ?_⟩;by_cases r:k=0
   .subst r;exact(t a e).2 q
   .exact absurd (Ã q)<|HB r
  .rw[vP f l h]at e;exact e.elim
theorem PI.akJ(p:PI F i zX E S tr o f gs w qJ)(m:E.M=.gd)(r:Kq F zX qJ)(y:F.S=0)(M:1<=F.L): ∃z:Nat->Nat,kF F.P E.Y (λk=>zX k\/∃x:â,k=û x/\x.block=F.C) w.heap.size (F.j E.I) (tr 0) z (vn f<|f 0) gs w qJ:=by
 let⟨B,s⟩:=p.jr m;have O:gs.size=F.L+(F.n+1):=by rw[p.b,B]
 have C:=p.I.r;have c:0<gs.size:=Z
 refine⟨λb=>if h:F.L<=b/\b<F.L+(F.n+1)then Classical.choose (s (b-F.L) Z)else E.h b,Z,⟨?_,λb x t=> ?_,p.I.I⟩,λb Q _=> ?_,p.a.M 0<|Ã U,λq a d D=> ?_,λq a x d G=>Ç<|Xt C.q d G,λa d q u=> ?_,r.2⟩
 .rw[y]at C;exact C.Y c (Ú _) (C.m 0 c) (C.g 0 c) (C.I 0 c) (C.e 0 c) (C.fw 0 c) C.N (C.r 0 c) (C.S 0 c) U λa d=>⟨(C.n 0 c a d).1,(C.n 0 c a d).2 0 c⟩
 .let⟨k,j,l,v,H⟩:=p.I.C b x t;by_cases h:b=0
  .subst h;rw[p.h.1,m]at j;rw[p.h.2,m]at l;exact⟨k,j,l,v,H⟩
  .have T:=(æ.1 t).1;simp only[h,if_false];rw[vP f _ h];have I:∀N,S b=pv F.P N->tr b=.fA->o b=.no->∃k,lh F.P (b==0) (pv F.P N) .fA (xF<|f b) k/\xa k .no x/\(k.status=ċ\/k.status=ş)/\(x=k\/True):=λN z e g=>by
    rw[z,e]at j;rw[g]at l;exact⟨k,λJ _=>j _<|fE.fV _ _,l,v,Ç trivial⟩
   by_cases J:b<F.L
   .let⟨z,e,g⟩:=p.l b Z J;grind
   .have K:F.L<=b/\b<F.L+(F.n+1):=Z
    simp only[K,dif_pos,and_self];let⟨z,e,g⟩:=p.k (b-F.L) _ Z<|Classical.choose_spec<|s (b-F.L) Z;rw[show F.L+(b-F.L)=b by omega]at z e g;exact I _ z (g ⟨_,U⟩) e
 .rw[vP f _ Z];rfl
 .rcases r.1 q a d D with z|⟨z,k⟩;all_goals grind
 .unfold Trace.act? at u;let⟨k,z,g⟩:=ġ.1 u;have:=C.q k<|Array.mem_of_getElem? z;rw[g]at this;have e:a.block<w.heap.size:=this;omega
theorem kF.Y{Y:Nat->Prop}{J:Jd}{s:gu}(c:kF P Y zX n J s D f gs w qJ)(t:(f 0).d=0)(o:gs[0]?=Â g)(u:g.status=ċ){p:Jd}{T:gu}{l:e9}(v:l.w=w)(y:l.d=0)(B:¬l.q)(k:∀b,¬l.I b)(r:∀a,¬l.r a)(m:∀a,¬l.N a)(C:∀a,¬l.K a)(E:∀b,l.O b->b<w.heap.size/\∀x:â,x.block=b->¬zX (û x))(F:lh P Ò p T l g): rR P zX n p T D (vn f l) gs w qJ:=by
 refine⟨c.C,⟨?_,λi x j=> ?_,c.r.I⟩,λi o _=> ?_,B,c.M,c.S,c.b,c.N⟩
 .refine(c.r.r).Y c.C (Ú _) (λb _=>k b) (λa _=>m a) (λ_ _=>id) (λa e=>e.elim (λq=>absurd q<|r a) λq=>absurd q<|m a) (λb z=>z.elim (λq=>(E b q).1) λq=>absurd q<|k b) (λ_ h=>h.elim) (by rw[v];exact fE.fV _ _) ⟨λa e G x j I=> ?_,λa e=>(k _ e).elim,λa e=>(r a e).elim,λa e=>(m a e).elim⟩ (by rw[y,t]) λa e=>absurd e<|C a;rcases c.M G x j (by rw[I];rfl)with z|⟨z,_⟩;all_goals grind
 .by_cases h:i=0
  .subst h;rw[o]at j;obtain rfl:=Ó j;exact⟨g,F,.gk,Ã u,Ã U⟩
  .let⟨g0,e,G,I,z⟩:=c.r.C i x j;simp only[h,if_false]at e z|-;rw[vP f _ h];exact⟨g0,λL _=>e _<|fE.fV _ _,G,I,z⟩
 .rw[vP f _ Z];rfl
end
section
variable{F:Ph}{H:Nat}{J:Jd}{f:Nat->e9}{gs:Array Ý}
structure Sv(F:Ph)(H:Nat)(l0 l:e9)(w:ß):Prop where
 fl:∀b,l.O b->l0.O b/\¬(F.M b\/b=F.Y)
 rd:∀b,l.I b->l0.O b/\¬(F.M b\/b=F.Y)/\¬l.O b
 r:∀a,l.r a↔∃x,x<=F.n/\lW F x a
 C:∀a,l.N a↔a=jf F.toFx 0
 k:∀a,l.K a->F.G a
 I:∀b,F.M b\/b=F.Y->l0.O b
 M:∀b,F.M b->H<=b
 f:l.w=w
 d:l.d=0
 q:¬l.q
 N:∀b,F.i b->l.I b
 S:ic w F.C (.cl 1 0)
 Y:ic w (F.I 0) (.cl 0 0)
 c:∀k,1<=k->k<=F.m->ic w (F.I k) (.cl 1 0)
 e:F.d 0 F.l F.i w
def mh(F:Ph)(D:Nat->Nat)(a:Nat->Nat):fU F where
 M:=.go 0
 S:=.kO 0
 C:=λ_=> .nu 0
 N:=λ_=>Á
 I:=a
 c:=λ_=>F.l
 V:=λk=>if k=0 then F.i else λ_=>False
 e:=λ_=>0
 d:=λ_=>Á
 f:=λ_=>0
 b:=.cl 1 0
 a:=λk=>if k=0 then .cl 0 0 else .cl 1 0
 g:=Á
 h:=D
theorem Ln(ok:F.Ok)(h:lW F i a):(∃k,1<=k/\k<=F.m/\a=jf F.toFx k)\/∃p,p≠F.f/\a=jm F p:=by
 unfold lW at h;split at h
 .obtain⟨k,c,d,b|b⟩:=h
  .grind
  .exact Ç ⟨_,ok.Y.1 k c d,b⟩
 .let⟨k,c,_,b⟩:=h;exact Ç ⟨_,ok.Y.2 _ (by assumption),b⟩
def ZW(ok:F.Ok)(h:lW F i (jf F.toFx 0)):False:=by
 rcases Ln ok h with⟨k,c,b,a⟩|⟨p,_,a⟩
 .have:F.I 0=F.I k:=by injection a
  have:=ok.S 0 k Z b this;omega
 .have:F.I 0=F.Y:=by injection a
  exact ok.C<|by rw[<-this];exact Ç ⟨0,Z,U⟩
theorem rR.akK(X:gR F)(c:rR F.P zX H J .fA D f gs w qJ)(hL:F.L=gs.size)(hB:F.S=0)(E:gs[0]?=Â g){l:e9}(st:Sv F H (f 0) l w)(py:(f 0).d=0)(u:Nat->Nat)(hgo:F.g 0 u l g): PI F qJ.size zX (mh F D u) (λi=>if i=0 then F.g 0 u else pv F.P (D i)) (λ_=> .fA) (λ_=> .no) (λi=>if i=0 then l else xF (f i)) gs w qJ:=by
 have S:=X.C;have C:=c.r.r;have jH:=c.C;have T:0<gs.size:=Z
 have y:(mh F D u).r=0:=U;have hY:∀b,(mh F D u).Y b↔(F.M b\/b=F.Y):=λb=>by
  constructor
  .rintro(q|q|⟨j,B,_⟩);all_goals grind
  .rintro(q|q)
   .exact Ã q
   .exact Ç<|Ã q
 have ZX:∀a,l.C a->F.M a.block\/a.block=F.Y:=λa o=>by
  rcases o with q|q
  .let⟨x,_,G⟩:=(st.r a).1 q;rcases Ln S G with⟨k,B,t,rfl⟩|⟨p,_,rfl⟩
   .exact Ã<|Ç ⟨k,t,U⟩
   .exact Ç U
  .rw[(st.C a).1 q];exact Ã<|Ç ⟨0,Z,U⟩
 have nC:∀i,i≠0->∀a,¬((λi=>if i=0 then l else xF (f i)) i).C a:=λi h a q=>by simp only[h,if_false]at q;exact q.elim id id
 have nM:∀i,i≠0->∀b,¬((λi=>if i=0 then l else xF (f i)) i).M b:=λi h b q=>by simp only[h,if_false]at q;exact q.elim id id
 have hM0:∀b,l.M b->(f 0).O b/\¬(F.M b\/b=F.Y):=λb q=>q.elim (st.fl b) λz=>⟨(st.rd b z).1,(st.rd b z).2.1⟩;have Pz:iR F.S (λi=>i<gs.size) (mh F D u).Y (λi=>if i=0 then l else xF (f i)) w qJ:=by
  refine⟨λi j E hj N b v=> ?_,λi j E hj N a o=> ?_,λi E b v=> ?_,λi E a o=> ?_,λi E b v=> ?_,λi E a o=> ?_,λi E b v=> ?_,λb v=>C.fw 0 T b<|Ã<|st.I b<|(hY b).1 v,λi E=> ?_,λi E=> ?_,λi E=> ?_,C.l,C.q,λq a e B t I=> ?_,λi E a o=> ?_⟩
  .by_cases h:j=0
   .subst h;simp only[N,if_false]at v;exact v.elim
   .exact nM j h b
  .by_cases h:j=0
   .subst h;simp only[N,if_false]at o;exact o.elim
   .exact nC j h a
  .by_cases h:i=0
   .subst h;simp only[if_true]at v|-;exact λq=>(st.rd b q).2.2 v
   .simp only[h,if_false]at v;exact v.elim
  .by_cases h:i=0
   .subst h;simp only[if_true]at o|-;intro q;rw[(st.C a).1 q]at o;let⟨x,_,G⟩:=(st.r _).1 o;exact ZW S G
   .simp only[h,if_false]at o;exact o.elim
  .by_cases h:i=0;all_goals simp_all
  .by_cases h:i=0;all_goals simp_all
  .by_cases h:i=0
   .subst h;simp only[if_true]at v;exact C.fw 0 T b<|Ã (hM0 b v).1
   .simp_all
  .by_cases h:i=0
   .subst h;simp only[if_true];rw[st.f];exact fE.fV _ _
   .simp only[h,if_false];exact⟨(C.r i E).r,λj q=>q.elim (λz=>z.elim) λz=>z.elim,λa q=>q.elim (λz=>z.elim) λz=>z.elim,λa q=>q.elim (λz=>z.elim) λz=>z.elim,λa q=>q.elim⟩
  .by_cases h:i=0
   .subst h;simp only[if_true];have s:=(C.S 0 T).fl;exact⟨λa o=>s a (st.fl _ o).1,λa o=>(s a (st.rd _ o).1).r,λa o=>s a<|st.I _<|ZX a<|Ã o,λa o=>(s a<|st.I _<|ZX a<|Ç o).r⟩
   .simp only[h,if_false];exact⟨λa o=>o.elim,λa o=>o.elim,λa o=>o.elim,λa o=>o.elim⟩
  .by_cases h:i=0
   .subst h;simp only[if_true];rw[C.f 0 T,py,st.d]
   .simp only[h,if_false];exact C.f i E
  .have:=C.s q a e B t I;omega
  .by_cases h:i=0
   .subst h;simp only[if_true]at o;let⟨b,v,s⟩:=st.k a o;have Q:a.block=b:=by rcases s with rfl|rfl<;>rfl
    refine⟨by rw[hY,Q];exact Ã v,λk K q=> ?_⟩;by_cases t:k=0
    .subst t;simp only[if_true]at q;let⟨x,_,G⟩:=(st.r a).1 q;rcases Ln S G with⟨k',_,_,I⟩|⟨p',_,I⟩
     .rcases s with W|W<;>rw[W]at I<;>simp[fM,gW,jf]at I
     .have:a.block=F.Y:=by rw[I];rfl
      exact S.C<|by rwa[<-this,Q]
    .simp only[t,if_false]at q;exact q
   .simp only[h,if_false]at o;exact o.elim
 have ZY:gN F.P F.S (mh F D u).Y (λi=>if i=0 then F.g 0 u else pv F.P (D i)) (λ_=> .fA) (λ_=> .no) (λi=>if i=0 then l else xF (f i)) gs w qJ:=by
  refine⟨Pz,λi x G=> ?_,c.r.I⟩;by_cases h:i=0
  .subst h;rw[E]at G;obtain rfl:=Ó G;simp only[if_true];exact⟨g,λs r=>X.Gc 0 u l g s hgo r,.gk,Ã<|X.I 0 u l g hgo,Ã U⟩
  .let⟨g0,Q,q2,N,q4⟩:=c.r.C i x G;simp only[h,if_false]at Q|-;exact⟨g0,λs _=>Q _<|fE.fV _ _,q2,N,Ç trivial⟩
 have akL:iH F (mh F D u) (λi=>if i=0 then l else xF (f i)) gs.size w:=by
  refine⟨λi E a o=> ?_,λx _ t a o=> ?_,λ_=> ?_,λh=>absurd h (by rw[y];omega),λh=>absurd h (by rw[y];omega),λj h=>absurd h (by rw[y];omega),λj h=>absurd h (by rw[y];omega),λx ⟨e,B,_⟩=>(by cases B),λi h=> ?_,λi B t=> ?_,λk K b v=> ?_,λk K i E q=> ?_,λk B t=> ?_,λj h=>absurd h<|by rw[y];omega⟩
  .by_cases h:i=0
   .subst h;simp only[if_true]at o;rcases o with q|q
    .let⟨x,_,G⟩:=(st.r a).1 q;grind [Ln]
    .exact Ã ⟨0,Z,(st.C a).1 q⟩
   .simp_all
  .simp only[if_true];exact(st.r a).2 ⟨x,t,o⟩
  .simp only[if_true];exact⟨(st.C _).2 U,st.N⟩
  .rcases h with rfl|⟨x,G,_⟩
   .simp only[if_true];exact st.q
   .grind
  .have:i≠0:=Z
   simp only[this,if_false];rfl
  .have Q:k=0:=by have:k<=0:=K;omega
   subst Q;have B:=st.N b v;refine⟨C.fw 0 T b<|Ã (st.rd b B).1,by rw[hY];exact(st.rd b B).2.1,λi E q=> ?_⟩;by_cases h:i=0
   .subst h;simp only[if_true]at q;exact(st.rd b B).2.2 q
   .simp only[h,if_false]at q;exact q
  .have Q:k=0:=by have:k<=0:=K;omega
   subst Q;by_cases h:i=0
   .subst h;simp only[if_true]at q;let⟨x,_,G⟩:=(st.r _).1 q;exact ZW S G
   .simp only[h,if_false]at q;exact q
  .have:k<=0:=t;omega
 have gg:∀k,k<=F.m->ic w (F.I k) ((mh F D u).a k):=λk K=>by
  by_cases h:k=0
  .subst h;exact st.Y
  .have:(mh F D u).a k=.cl 1 0:=by simp[mh,h]
   rw[this];exact st.c k Z K
 have wdd:Wd F (mh F D u) w:=by
  refine⟨st.S,gg,λj h=>absurd h (by rw[y];omega),λk K=> ?_,λk B t=> ?_,λj h=>absurd h<|by rw[y];omega⟩
  .have Q:k=0:=by have:k<=0:=K;omega
   subst Q;exact⟨.vm,st.e⟩
  .have:k<=0:=t;omega
 have ZZ:∀k,(sumTo F.n λj=>((mh F D u).C j).gC F j k)=0:=λk=>by
  have:∀n,(sumTo n λ_=>0)=0:=λn=>by
   induction n with
   |zero=>rfl
   |succ n s=>simp[sumTo,s]
  exact this F.n
 have akM:sumTo (F.n+1) (mh F D u).G=1:=by
  have B:=xe (f':=(mh F D u).G) (j:=0) (n:=F.n+1) Z (λi E=>by
   have:¬i<1:=Z
   show(if i<1 then _ else _)=0;rw[if_neg this])
  have t:∀n,(sumTo n λ_=>0)=0:=λn=>by
   induction n with
   |zero=>rfl
   |succ n s=>simp[sumTo,s]
  rw[t]at B;have I:(mh F D u).G 0=1:=U;omega
 have pss:Ps F (mh F D u):=by
  refine⟨U,λj h=> ?_,λj h=> ?_,λr=>⟨λh=>(by cases h),λh=>(by cases h)⟩,λ_=>rfl,λk=>⟨λh=> ?_,λh=>(by cases h),λp h=>by cases h⟩,λ_ _=>rfl,λj r h=>absurd h (by rw[y];omega),λj h=>absurd h (by rw[y];omega),λh=>absurd U h,λ_ _=>rfl,λj j' h=>absurd h (by rw[y];omega),λj h=>absurd h (by rw[y];omega),λc reg h=> ?_,λreg h=>(by cases h),λr s h=>(by cases h),λx p h=>(by cases h),λh=> ?_,λk B t I=> ?_,λk B t=> ?_,λj r h=>absurd h (by rw[y];omega),λj r h=>absurd h (by rw[y];omega),λh=>(by cases h),λ_ _=>⟨1,rfl⟩,λ_ _ _=>rfl,λj r h=>absurd h<|by rw[y];omega⟩
  .rcases h with h|h|h|h<;>cases h;omega
  .rcases h with h|h|h<;>cases h
  .cases h;omega
  .cases h;exact⟨akM.symm,U⟩
  .rcases h with h|h|h<;>cases h
  .rw[ZZ];have:k≠0:=Z
   simp[mh,this]
  .have Q:k=0:=by have:k<=0:=t;omega
   subst Q;exact Ç<|Ç ⟨λp h=>(by cases h),Ã ⟨rfl,ZZ 0⟩⟩
 have s:TI F.toFx qJ.size zX (mh F D u).r (mh F D u).S.rl (mh F D u).V (mh F D u).e (mh F D u).d (mh F D u).iy (mh F D u).f qJ:=by
  refine⟨Ú _,λp a x o Q hc=> ?_,λx h=>absurd h (by rw[y];omega),λk B t=> ?_,λk B t=> ?_,λb v=>c.b _<|st.M b v,λx h=>absurd h (by rw[y];omega),λp a B t=> ?_,λp a _ t I=>c.M p a t I,λp g _ t I W=>c.N p g t I W⟩
  .let⟨b,v,G⟩:=hc;have Pv:x.block=b:=by rcases G with rfl|rfl<;>rfl
   rcases c.S p a x o Q with q|q
   .exact Ã ⟨OU o,q⟩
   .have:=st.M b v;omega
  .have:k<=0:=t;omega
  .have:k<=0:=t;omega
  .have:=OU t;omega
 refine⟨by rw[y,hL];rfl,ZY,⟨by simp only[if_true];rfl,U⟩,λh=>absurd h (by rw[y];omega),λj h=>absurd h (by rw[y];omega),λx e h=>absurd h (by rw[y];omega),λi B t=>⟨?_,U,U⟩,akL,wdd,pss,s,λi x G v=> ?_,λj r h=>absurd h<|by rw[y];omega⟩
 .have:i≠0:=Z
  simp only[this,if_false];rfl
 .let⟨g0,_,q2,N,_⟩:=ZY.C i x G;cases q2 with
  |gk=>rcases N with N|N<;>rw[v]at N<;>cases N
end
end Go.Proofs.Y.ft
namespace Go.Proofs.Y.ft
open Go Go.Conc Go.Proofs.Y.Lift Go.RowKit Go.Conc.Lib Go.ConcR.Gen
open Go.Proofs Go.Proofs.YtgpphkdoanciiaaGreatDoor
section
variable{kd:Nat->Int}{R:Nat}
theorem HC(h:i∈gZ kd R):i<R/\kd i=1:=by have:=Ā.1 h;grind
theorem HF(h:i∈jz kd R):i<R/\kd i≠1:=by have:=Ā.1 h;grind
def akN:(gZ kd R).Nodup:=ņ.filter _
def akO:(jz kd R).Nodup:=ņ.filter _
def BZ(h:k<jJ.length):jJ[k]?=Â (jJ.getD k 0):=by simp[List.getD,h]
def vR{l:List Nat}(h:k<l.length):l.getD k 0∈l:=ħ<|BZ h
def Z0(c:jJ.Nodup)(a:i<jJ.length)(d:j<jJ.length)(h:jJ.getD i 0=jJ.getD j 0):i=j:=by have b:=BZ a;rw[h]at b;exact(List.getElem?_inj a c).1<|b.trans (BZ d).symm
def Z1:∀R,(gZ kd R).length+(jz kd R).length=R
 |0=>rfl
 |R+1=>by
  have:=Z1 R;by_cases h:kd R=1
  .rw[s8 h,R2 h];simp;omega
  .rw[vK h,R3 h];simp;omega
end
structure xG where
 γ:Type
 C:γ
 M:Nat->γ->γ->Prop
 RD:γ->Ï->(Nat->Prop)->ß->Prop
 I:Nat->ByteArray
 r:Nat->Prop
def Lp(M:xG)(L n R:Nat)(kd:Nat->Int)(a g:Nat->Nat)(b c:Option â)(d e f h j l:Nat)(o:List é)(p:Nat->Prop)(RC e5:ß->Prop):SD where
 L:=L
 g:=0
 n:=n
 m:=fK kd R
 q:=(jz kd R).length
 N:=R
 I:=l
 C:=g
 M:=f
 S:=h
 s:=j
 u:=b
 t:=d
 l:=c
 k:=e
 o:=λk=>Â ⟨a<|(gZ kd R).getD (k-1) 0,0,Á⟩
 a:=λk=>(gZ kd R).getD (k-1) 0
 i:=λi=>Â ⟨a<|(jz kd R).getD i 0,0,Á⟩
 c:=λi=>(jz kd R).getD i 0
 b:=λi=>if i<(jz kd R).length then fK kd ((jz kd R).getD i 0)else 0
 f:=o
 d:=p
 RC:=RC
 p:=e5
 γ:=M.γ
 w:=M.C
 v:=M.r
 h:=M.M
 RD:=M.RD
 e:=λk=>M.I<|(gZ kd R).getD (k-1) 0
 j:=λi=>M.I<|(jz kd R).getD i 0
section
variable{M:xG}{L R:Nat}{kd:Nat->Int}{a:Nat->Nat}{c:Option â}{cs:List é}{RB:Nat->Prop}{RC e5:ß->Prop}{l d f:e9}
def akP(h:Lc kd a D R (Æ O (fK kd R) j7) (Æ c (jz kd R).length j6) v j b J i j9 m l d f)(F:∀w p,RC w->(∀g,RB g->p.heap[g]?=w.heap[g]?)->RC p)(G:∀w p,e5 w->(p.os=w.os/\p.output=w.output)->e5 p)(H:∀s B V w p,M.RD s B V w->(∀g,V g->p.heap[g]?=w.heap[g]?)->M.RD s B V p)(I:1<=n)(K:1<=L)(X:n+R<1000):(Lp M L n R kd a D O c j7 j6 j b J i cs RB RC e5).Ok:=by
 have Y:=Z1 (kd:=kd) R;have hc:(gZ kd R).length=fK kd R:=U;let⟨a1,a2,a3⟩:=h.M;let⟨a4,a5,a6⟩:=h.S;have z:∀k,k<=fK kd R->d.w.heap.size<=D k/\D k<J:=λk r=>⟨(h.r.M k r).1,h.N k r⟩;have Sf:=Õ (z 0 Z).1<|Ł (z 0 Z).2;refine⟨F,G,H,I,K,?_,?_,λo=> ?_,λo t=>(HF<|vR t).1,λk C x=> ?_,λk r e=> ?_,λk u r N e=> ?_,?_,λo i' t P e=>Z0 akO t P e,λk u C x h3 Q e=> ?_,λo k t C x e=> ?_,λg _=>ă g⟩
 .show n+(jz kd R).length+fK kd R<1000;omega
 .show R<1000;omega
 .show(if o<(jz kd R).length then fK kd ((jz kd R).getD o 0)else 0)<=fK kd R;split
  .rename_i t;exact Zz<|Ł (HF<|vR t).1
  .omega
 .refine(HC<|vR ?_).1;have:k<=fK kd R:=x;omega
 .have:=(z k r).2;have y:D k=i:=e;omega
 .have y:D k=D u:=e;have S:=r;have T:=N;rcases Nat.lt_trichotomy k u with q|q|q
  .have:=h.r.S k u q T;omega
  .exact q
  .have:=h.r.S u k q S;omega
 .rintro(e|⟨k,r,e⟩)
  .have y:j=i:=e;omega
  .have y:j=D k:=e;have:=(z k r).1;omega
 .have W:k<=fK kd R:=x;have h4':u<=fK kd R:=Q;have:=Z0 akN Z Z e;omega
 .have W:k<=fK kd R:=x;have y:(jz kd R).getD o 0=(gZ kd R).getD (k-1) 0:=e;have E:=(HF<|vR t).2;rw[y]at E;exact E<|(HC (kd:=kd) (R:=R)<|vR (k:=k-1) Z).2
end
abbrev kG(M:xG)(L n R:Nat)(kd:Nat->Int)(c g:Nat->Nat)(d e:Option â)(f h i a j k:Nat)(cs:List é)(l:e9):SD:=Lp M L n R kd c g d e f h i a j k cs (λb=>l.O b\/b=a) (λw=>∀b,l.O b->w.heap[b]?=l.w.heap[b]?) λw=>w.os=l.w.os/\w.output=l.w.output
def Lq(D:SD)(l:e9):e9:={l with O:=λb=>l.O b/\¬(D.Y.M b\/b=D.M)/\¬D.d b,I:=D.d,r:=λa=>∃x,x<=D.n/\lW (D.r Ä) x a,N:=λa=>a=jf D.Y 0,K:=D.Y.G}
section
variable{M:xG}{L:Nat}{f:Nat->Int}{r:Nat->Nat}{u:Option â}{y:Nat}{cs:List é}{l B o:e9}
def Lr{cs:Array Ï}(h:w.heap[b]?=Â (É cs e)):w.frozen? ⟨b,i,Á⟩=Ì:=by simp[î,h]
def Sw{cs:Array Ï}(h:w.heap[b]?=Â (É cs e))(a:cs[0]?=Â (Ê ê<|(i:Int)*fY+0))(d:cs[1]?=Â (Ê Ď 0))(f:i<1000000):ic w b (.cl i 0):=by
 refine⟨?_,?_,Lr h,Lr h,(⟨f,Z,λ_=>rfl⟩)⟩
 .simp[Ö,fM,h,a,GS.st]
 .simp[Ö,gW,h,d,GS.sm]
def akQ(h:Lc f r D j (Æ O (fK f j) j6) (Æ u (jz f j).length y) v k m j9 b j7 J l B o)(s:gw l)(Ls:∀g,¬l.I g)(W:¬l.q)(X:l.d=0)(hH:i<=l.w.heap.size)(hV:∀g,M.r g->l.O g)(qR:M.RD M.C v M.r o.w)(xE:o.w.os=l.w.os/\o.w.output=l.w.output)(hn:1<=n)(hs:n+j<1000){t:Array Ï}(hT:Hg m b (D<|fK f j) n (Æ u (jz f j).length y) t)(dk:Nat->Nat): Sv ((kG M L n j f r D O u j6 y k m j9 b cs l).r Ä) i o (Lq (kG M L n j f r D O u j6 y k m j9 b cs l) o) o.w/\ ((kG M L n j f r D O u j6 y k m j9 b cs l).r Ä).g 0 dk (Lq (kG M L n j f r D O u j6 y k m j9 b cs l) o) (Bz (À<|Â ⟨b,0,Á⟩) jQ (À<|Â ⟨b,0,Á⟩) (ñ #[]) j7 J<|Eh t::cs):=by
 let⟨a1,a2,a3⟩:=h.M;let⟨a4,a5,a6⟩:=h.S;have N:∀C,C<=fK f j->B.w.heap.size<=D C/\D C<j9:=λC E=>⟨(h.r.M C E).1,h.N C E⟩;have Sf:=Õ (N 0 Z).1<|Ł (N 0 Z).2;have Y:=λg q=>s.fw g<|Ã q;have hc:(gZ f j).length=fK f j:=rfl;have Q:∀g,(kG M L n j f r D O u j6 y k m j9 b cs l).Y.M g\/g=k->g=b\/(∃C,C<=fK f j/\g=D C)\/g=k:=λg q=>by
  rcases q with(q|⟨C,S,q2⟩)|q
  .exact Ã q
  .exact Ç<|Ã ⟨C,S,q2⟩
  .exact Ç<|Ç q
 have H:∀g,(kG M L n j f r D O u j6 y k m j9 b cs l).Y.M g\/g=k->l.w.heap.size<=g/\g≠m/\g≠j9/\g≠j7/\g≠J/\(∀C,(Æ O (fK f j) j6).ownBlock=Â C->g≠C)/\(∀C,(Æ u (jz f j).length y).ownBlock=Â C->g≠C):=λg q=>by
  rcases Q g q with rfl|⟨C,E,rfl⟩|rfl
  .exact⟨Z,Z,Z,Z,Z,λC e=>by have:=h.o3 C e;omega,λC e=>by have:=h.o4 C e;omega⟩
  .have:=N C E;exact⟨Z,Z,Z,Z,Z,λp e z=>(h.r.M C E).2.1<|z▸e,λp e z=>(h.r.M C E).2.2<|z▸e⟩
  .exact⟨Z,Z,Z,Z,Z,λC e=>by have:=(h.r.r C e).2;omega,λC e=>by have:=(h.r.C C e).2;omega⟩
 have akR:∀g,(kG M L n j f r D O u j6 y k m j9 b cs l).Y.M g\/g=k->o.O g:=λg q=>by
  rcases Q g q with rfl|⟨C,E,rfl⟩|rfl
  .exact h.Y.fl
  .by_cases x:C=0
   .subst x;exact h.r.N.fl
   .exact(h.r.I C Z E).fl
  .exact h.I.fl
 have K:∀g,o.O g->l.w.heap.size<=g->g≠m->¬((kG M L n j f r D O u j6 y k m j9 b cs l).Y.M g\/g=k)->(Lq (kG M L n j f r D O u j6 y k m j9 b cs l) o).O g:=λg S q2 q4 q3=>⟨S,q3,λq=>q.elim (λq=>by have:=Y g q;omega) q4⟩;have Z2:ic o.w b (.cl 1 0):=Sw h.Y.I U U Z;have Z3:ic o.w (D 0) (.cl 0 0):=Sw h.r.N.I U U Z;have Z4:∀C,1<=C->C<=fK f j->ic o.w (D C) (.cl 1 0):=λC I P=>Sw (h.r.I C I P).I U U Z;have T:∀g c,ic o.w g c->nD g o.w:=λg c q=>⟨by rw[show(⟨g,0,Á⟩:â)=fM g from rfl,q.C];rfl,by rw[show(⟨g,1,Á⟩:â)=gW g from rfl,q.M];rfl⟩;refine⟨⟨λg q=>⟨q.1,q.2.1⟩,λg q=>⟨?_,λz=> ?_,λz=>z.2.2 q⟩,λa=>Iff.rfl,λa=>Iff.rfl,λa q=>q,λg q=>akR g q,λg q=>Õ hH (H g<|Ã q).1,U,h.C.d.trans X,by show¬o.q;rwa[h.C.q],λg q=>Ã<|hV g q,Z2,Z3,Z4,⟨⟨v,h.r.N.C U,qR⟩,λ_=> ?_⟩⟩,?_⟩
 .rcases q with q|q
  .exact h.C.O g q
  .rw[q];exact h.a.fl
 .rcases q with q|q
  .have:=(H g z).1;have:=Y g q;omega
  .exact(H g z).2.1 q
 .refine⟨?_,by unfold kV;rw[show o.w.heap[(kG M L n j f r D O u j6 y k m j9 b cs l).M]?=Â (xA j)from h.I.I],xE⟩;show o.w.cell? ⟨k,j,Á⟩=Á;simp only[Ö,h.I.I,xA,ı,Ķ,if_false];exact Array.getElem?_eq_none<|by rw[ř];exact Ú _
 refine⟨h.C.d.trans X,by show¬o.q;rwa[h.C.q],ă _,Ã ⟨U,⟨λg q=>⟨⟨g,q,Ã U⟩,⟨g,q,Ç U⟩⟩,λg q=> ?_,Ç<|Ç U,h.a.C U,(Ã<|K j9 h.c.fl Z Z λz=>(H j9 z).2.2.1 U),h.c.C U,λC E=> ?_,λe hi=> ?_,λa q=> ?_,λg q=>Ç q,λg q=>h.C.r g (Ã q) id⟩,t,j7,J,jQ,hT,⟨(K j7 h.d.fl Z Z λz=>(H j7 z).2.2.2.1 U),h.d.I⟩,⟨(K J h.b.fl Z Z λz=>(H J z).2.2.2.2.1 U),h.b.I⟩,U⟩⟩
 .rcases Q g (Ã q)with rfl|⟨C,E,rfl⟩|rfl
  .exact T _ _ Z2
  .by_cases x:C=0
   .subst x;exact T _ _ Z3
   .exact T _ _<|Z4 C Z E
  .exact absurd q λz=>by
    rcases z with z|⟨C,x,F⟩
    .have G:g=b:=z;omega
    .have G:g=D C:=F;have:=(N C x).1;omega
 .have tO:C<fK f j:=E;rcases h.r.jO.2 with⟨_,e2⟩|⟨g,cap,cur,V,_,hcur,Hu⟩
  .omega
  .have zo:O=Â ⟨g,0,Á⟩:=by injection V
   subst zo;have x:=h.r.jO.cells U;have hz:(gZ f j).zipIdx[C]?=Â ((gZ f j).getD C 0,C):=by rw[List.getElem?_zipIdx,BZ Z];simp
   have F:∀c,c<4->(jO f r D j)[C*4+c]?=(tI r D ((gZ f j).getD C 0,C))[c]?:=λc q=>R6 (λ_=>rfl) q _ C _ hz;have G:∀p,(⟨g,0,Á⟩:â).add p=⟨g,p,Á⟩:=λp=>by rw[ğ,č]
   refine⟨g,U,Ã (K g (h.r.r g U).1 (Õ Z (h.r.r g U).2) (by have:=(h.r.r g U).2;omega) λz=>(H g z).2.2.2.2.2.1 g U U),?_,?_,?_,?_⟩
   .have:=x (C*4+0) _<|F 0 Z;rwa[G]at this
   .have:=x (C*4+1) _<|F 1 Z;rwa[G]at this
   .have:=x (C*4+2) _<|F 2 Z;rwa[G]at this
   .have:=x (C*4+3) _<|F 3 Z;rwa[G]at this
 .have lz:e<(jz f j).length:=hi;rcases h.r.mI.2 with⟨_,e2⟩|⟨g,cap,cur,V,_,hcur,Hu⟩
  .omega
  .have Sp:u=Â ⟨g,0,Á⟩:=by injection V
   subst Sp;have x:=h.r.mI.cells U;have F:∀c,c<4->(mI f r D j)[e*4+c]?=(tQ f r D<|(jz f j).getD e 0)[c]?:=λc q=>R6 (λ_=>rfl) q _ e _<|BZ lz;have G:∀p,(⟨g,0,Á⟩:â).add p=⟨g,p,Á⟩:=λp=>by rw[ğ,č]
   refine⟨g,U,Ã (K g (h.r.C g U).1 (Õ Z (h.r.C g U).2) (by have:=(h.r.C g U).2;omega) λz=>(H g z).2.2.2.2.2.2 g U U),?_,?_,?_,?_⟩
   .have:=x (e*4+0) _<|F 0 Z;rwa[G]at this
   .have:=x (e*4+1) _<|F 1 Z;rwa[G]at this
   .have:=x (e*4+2) _<|F 2 Z;rw[G]at this;show o.w.cell? ⟨g,e*4+2,Á⟩=Â (À<|Â ⟨D (if e<(jz f j).length then fK f ((jz f j).getD e 0)else 0),0,Á⟩);rw[if_pos lz];exact this
   .have:=x (e*4+3) _<|F 3 Z;rwa[G]at this
 .have V:∀p,p<j->(o.w.cell? ⟨k,p,Á⟩).isSome=Ò/\o.w.frozen? ⟨k,p,Á⟩=Ì:=λp hp=>by
   refine⟨?_,Lr h.I.I⟩;have:p<(madeCells (Ŵ<|à ⟨#[]⟩) j).size:=by rwa[ř]
   simp[Ö,h.I.I,this]
  let⟨x,_,F⟩:=q;unfold lW at F;split at F
  .obtain⟨C,I,P,rfl|rfl⟩:=F
   .have G:=P;refine⟨?_,Lr (h.r.I C I G).I⟩;show(o.w.cell? ⟨D C,2,Á⟩).isSome=Ò;rw[(h.r.I C I G).C U];rfl
   .have G:C<=fK f j:=P;exact V _ (HC<|vR Z).1
  .obtain⟨e,I,_,rfl⟩:=F;exact V _ (HF<|vR I).1
end
end Go.Proofs.Y.ft
namespace Go.Proofs.Y.ft
open Go Go.Conc Go.Proofs.Y.Lift Go.RowKit Go.Conc.Lib Go.ConcR.Gen
open Go.Proofs Go.Proofs.YtgpphkdoanciiaaGreatDoor
open Go.ConcN (sumTo sumTo_congr)
def Lt(kd:Nat->Int)(f:Nat->Nat)(R n:Nat)(h:Ï)(l:e9)(cs:List é):Jd:=λi j=>
 ∃g k t m b o c p a d e q,Lc kd f g R m b h o c p a d e l k i/\Hg c a (g<|fK kd R) n b t/\j=Bz (À<|Â ⟨a,0,Á⟩) q (À<|Â ⟨a,0,Á⟩) (ñ #[]) d e (Eh t::cs)
theorem Z5(h:w.ownsRow i e j v n l):∃b c,v=Æ b n c:=by rcases h.2 with⟨a,d⟩|⟨b,f,g,a,_⟩;all_goals grind
section
variable{F:Ph}{E:fU F}{S:Nat->Jd}{B:Nat->gu}{G:Nat->iA}{y:Nat->e9}{o:Array Ý}
theorem PI.akS(p:PI F j9 zX E S B G y o w qJ)(c:E.M=.gd)(d:1<=F.n):E.S=.kO F.m/\(∀i,i<F.q->w.cell? (jm F<|F.a i)=Â (à<|F.k i)/\∀k,k<o.size->¬(y k).r (jm F<|F.a i)):=by
 let⟨j,a⟩:=p.jr c;refine⟨p.C.f (by let⟨N,h⟩:=a 0 Z;rw[h];simp),λi k=> ?_⟩;have l:i%F.n<F.n:=ĵ _ d;have e:i%F.n+i/F.n*F.n=i:=by rw[Nat.mul_comm];exact Nat.mod_add_div i F.n
 let⟨N,h⟩:=a (i%F.n+1) Z;let⟨_,r,f,g⟩:=p.C.l (i%F.n) Z (by rw[h];simp);have b:i/F.n<(E.C<|i%F.n).kD:=by rw[f];exact(g (i/F.n)<|by rwa[e])
 have s:=p.M.N (i%F.n) Z (i/F.n) (by rwa[e]) b;have t:=p.a.d (i%F.n) Z (i/F.n) (by rwa[e]) b;grind
end
structure akT(D:SD)(l:e9)(w:ß)(g:Ý):Prop where
 I:∀b,l.O b->w.heap[b]?=l.w.heap[b]?
 cba:w.cell? ⟨D.S,0,Á⟩=Â (Æ (Â ⟨D.M,0,Á⟩) D.N D.N)
 kO:∀k,1<=k->k<=D.m->w.cell? ⟨D.M,D.a k,Á⟩=Â (à<|D.e k)
 Sx:∀i,i<D.q->w.cell? ⟨D.M,D.c i,Á⟩=Â (à<|D.j i)
 HG:∃s sl V,ny (D.r Ä) D.m s/\w.cell? ⟨D.C D.m,2,Á⟩=Â sl/\D.RD s sl V w/\∀b,V b->b<w.heap.size/\b≠D.I
 fw:D.M<w.heap.size/\D.S<w.heap.size/\D.C D.m<w.heap.size
 r:D.M≠D.I/\D.S≠D.I/\D.C D.m≠D.I
 Sy:∃ts,SE D.S D.I (D.C D.m) ts/\g=Em ts D.f
 C:w.cell? ⟨D.M,D.N,Á⟩=Á/\kV w D.M=Â (0,0)
 io:w.os=l.w.os/\w.output=l.w.output
section
variable{M:xG}{f:Nat->Int}{u:Nat->Nat}{cs:List é}{l:e9}{I:Nat->Nat}{y:Nat->e9}{o:Array Ý}
theorem akU(c:rR Ä zX j (Lt f u J n v l cs) .fA I y o w qJ)(S:Option (Nat×Nat))(s:gw l)(Ls:∀b,¬l.I b)(hq:¬l.q)(hd:l.d=0)(hH:j<=l.w.heap.size)(hV:∀b,M.r b->l.O b)(qR:∀s S V w G,M.RD s S V w->(∀b,V b->G.heap[b]?=w.heap[b]?)->M.RD s S V G)(B1:M.RD M.C v M.r l.w)(xE:w.os=l.w.os/\w.output=l.w.output)(hn:1<=n)(hs:n+J<1000) (hA:∀g r t B D e m p h,l.w.heap.size<=m->En (kG M o.size n J f u g r t B D e m p h cs l)/\Eo (kG M o.size n J f u g r t B D e m p h cs l)): ∃g r t B D e m p h,(l.w.heap.size<=e/\l.w.heap.size<=m/\l.w.heap.size<=h/\∀k,k<=fK f J->l.w.heap.size<=g k)/\ ∃N Y a H C i G K E z,Ŷ Ä N (Ĭ o w S) qJ=(.next<|Ĭ i G K,E)/\i.size=o.size+(n+1)/\i[0]?=Â z/\a<=G.heap.size/\h<a/\j<=a/\(C 0).d=0/\z.status=ċ/\ kF Ä Y (λF=>zX F\/∃x:â,F=û x/\x.block=h) a (ZM<|kG M o.size n J f u g r t B D e m p h cs l) .fA H C i G E/\akT (kG M o.size n J f u g r t B D e m p h cs l) l G z:=by
 have h0:=c.C;obtain⟨g0,xj⟩:∃g,o[0]?=Â g:=⟨_,ì h0⟩;let⟨g1,q1,q2,q3,_⟩:=c.r.C 0 g0 xj;obtain rfl:g0=g1:=by cases q2;rfl
 have hz:=q1 w<|c.r.r.r 0 h0;let⟨g,lp,tt,iv,qv,e,m,p,h,bw,bf,T,F,hT,hg⟩:=hz;obtain⟨r,B,rfl⟩:=Z5 F.r.jO;obtain⟨t,D,rfl⟩:=Z5 F.r.mI;let⟨a1,a2,a3⟩:=F.M;let⟨a4,a5,a6⟩:=F.S;have Sz:∀k,k<=fK f J->lp.w.heap.size<=g k/\g k<p:=λk W=>⟨(F.r.M k W).1,F.N k W⟩;have au2:=Sz 0 Z;have akV:=qR _ _ _ _ _ B1 λb q=>F.C.r b (Ã<|hV b q) id;obtain⟨st,hgo⟩:=akQ F s Ls hq hd hH hV akV xE hn hs hT λ_=>0;have ok:=akP (L:=o.size) (cs:=cs) (RB:=λb=>l.O b\/b=m) (RC:=λw=>∀b,l.O b->w.heap[b]?=l.w.heap[b]?) F (λw G P X b a=>(X b<|Ã a).trans<|P b a) (e5:=λw=>w.os=l.w.os/\w.output=l.w.output) (λw G P X=>⟨X.1.trans P.1,X.2.trans P.2⟩) qR hn Z hs;let⟨hAdd,akW⟩:=hA g r t B D e m p h Z;have Hy:=akE ok hAdd akW;have BP:=F.C.d.trans hd;have st':Sv ((kG M o.size n J f u g r t B D e m p h cs l).r Ä) j (y 0) (Lq (kG M o.size n J f u g r t B D e m p h cs l) {y 0 with w:=w}) w:=⟨st.fl,st.rd,st.r,st.C,st.k,st.I,st.M,st.f,st.d,st.q,st.N,st.S,st.Y,st.c,st.e⟩;rw[<-hg]at hgo;have p0:=c.akK Hy U U xj st' BP (λ_=>0) hgo;let⟨N1,E,S1,tr1,kp1,au3,gs1,w1,Z6,t1,r1,x,hf,he⟩:=aix Hy _ _ _ _ _ _ _ o w S qJ U U p0 (by intro q;cases q);let⟨oO,_⟩:=x.jr hf;let⟨zy,c1⟩:=x.akJ hf he U h0;let⟨N2,Lu,SA,gs2,w2,Lv,t2,r2,z2,N,c2⟩:=c1.G (λa i z=>Ã<|Hy.M E.I a i z) (tr1 0) _ zy _ gs1 w1 Z6 t1 U;have Ep:gs1.size=o.size+(n+1):=by rw[x.b,oO];rfl
 have Lw:=c2.C;obtain⟨g2,Lx⟩:∃g,gs2[0]?=Â g:=⟨_,ì Lw⟩;let⟨g3,u1,u2,u3,_⟩:=c2.r.C 0 g2 Lx;obtain rfl:g2=g3:=by cases u2;rfl
 have hE:=u1 w2<|c2.r.r.r 0 Lw;let⟨e1,e2,dat,ts,qT,hge⟩:=hE;have Q:0<gs1.size:=Z
 have C:=x.I.r;have hY:=λb q z=>C.I 0 Q b (Ã z) q;have H:E.Y e:=Ç<|Ã U;have yG:∀k,k<=fK f J->E.Y (g k):=λk W=>Ã<|Ç ⟨k,W,U⟩;have Z7:E.Y h:=Ã<|Ã U;let⟨hip,akX⟩:=x.akS hf hn;have hmd:E.S.md=fK f J:=by rw[hip];rfl
 let⟨GD,⟨Z8,SB,Ly⟩,_⟩:=x.M.M (fK f J) Z;have K:=C.N;refine⟨g,r,t,B,D,e,m,p,h,⟨a1,Z,Z,λk W=>by have:=Sz k W;omega⟩,N1+N2,E.Y,w1.heap.size,Lu,SA,gs2,w2,Lv,t2,g2,?_,Z,Lx,N.r,K h Z7,?_,e1,Hy.M E.I _ _<|u1 w2<|c2.r.r.r 0 Lw,c2,⟨dat.e,dat.d,λk P X=> ?_,λi hi=> ?_,?_,?_,(⟨show e≠h by omega,show m≠h by omega,show g (fK f J)≠h by have:=Sz (fK f J)<|Ú _;omega⟩),⟨ts,qT,hge⟩,?_,?_⟩⟩
 .rwa[runNT_add,show Ŷ Ä N1 (Ĭ o w S) qJ=_ from r1]
 .grind
 .have a:k<=fK f J:=X;refine Ŀ (N.M ⟨e,_,Á⟩ (K e H) (hY e H)<|x.a.g k P Z 0 Q)<|x.M.S k P Z
 .let⟨T,v2⟩:=akX i hi;exact Ŀ (N.M ⟨e,_,Á⟩ (K e H) (hY e H)<|v2 0 Q) T
 .refine⟨E.c<|fK f J,Z8,E.V<|fK f J,GD,(Ŀ (N.M ⟨g<|fK f J,2,Á⟩ (K _<|yG _<|Ú _) (hY _<|yG _<|Ú _)<|x.a.N (fK f J) Z 0 Q) SB),qR _ _ _ _ _ Ly λb q=> ?_,λb q=> ?_⟩
  .let⟨T,v2,v3⟩:=x.a.I (fK f J) Z b q;exact N.jU b T (v3 0 Q) λa ha z=>v2<|ha▸C.e 0 Q a (Ã z)
  .let⟨T,v2,v3⟩:=x.a.I (fK f J) Z b q;exact⟨È T N.r,λz=>v2<|z▸Z7⟩
 .refine⟨È (K e H) N.r,c2.r.r.fw 0 Lw m<|Ç dat.c,È (K _<|yG _<|Ú _) N.r⟩
 .let⟨a,y2,_⟩:=(x.M.M 0<|ă _).2.2 U;exact⟨Ŀ (N.M ⟨e,J,Á⟩ (K e H) (hY e H)<|x.a.OX Hy.C 0 Q) a,(N.Y e (K e H)<|hY e H).trans y2⟩
 .let⟨_,_,a⟩:=(x.M.M 0<|ă _).2.2 U;exact⟨N.C.trans a.1,N.I.trans a.2⟩
end
def SC(a:Ν->Prop)(w:ß):e9 where
 O:=λb=>b<w.heap.size/\∀x:â,x.block=b->¬a (û x)
 I:=λ_=>False
 r:=λ_=>False
 N:=λ_=>False
 K:=λ_=>False
 q:=False
 d:=0
 w:=w
def Z9(a:Ν->Prop)(w:ß):gw (SC a w):= ⟨λ_ _ h=>h,λ_ h=>h.elim,λ_ h=>h.elim (λq=>q.elim) λq=>q.elim,λ_ h=>h.elim (λq=>q.1) λq=>q.elim,λ_ h=>h.elim (λq=>q.elim) λq=>q.elim,λ_ h=>h.elim⟩
structure vS(jl:Ν->Prop)(H:Nat)(l:e9):Prop where
 r:∀x:â,jl (û x)->x.block<H
 fl:∀b,l.O b->∀x:â,x.block=b->¬jl (û x)
 C:H<=l.w.heap.size
inductive zz(M:xG):Nat->M.γ->Prop
 |vm:zz M 0 M.C
 |Dh {k:Nat} {s s':M.γ} (h:zz M k s) (hn:M.M k s s'):zz M (k+1) s'
structure FY(M:xG)(R:Nat)(kd:Nat->Int)(l:e9)(an:Nat)(sl:Ï)(l':e9):Prop where
 vq:∀b,l.O b->l'.O b/\l'.w.heap[b]?=l.w.heap[b]?
 kD:l'.O an/\∀p,p<R->l'.w.cell? ⟨an,p,Á⟩=Â (à<|M.I p)
 HG:∃s V,zz M (fK kd R) s/\M.RD s sl V l'.w/\∀b,V b->l'.O b
 d:l'.d=0
 q:¬l'.q
 rd:∀b,¬l'.I b
 xH:(∀a,¬l'.r a)/\(∀a,¬l'.N a)/\∀a,¬l'.K a
 CX:l'.w.cell? ⟨an,R,Á⟩=Á/\kV l'.w an=Â (0,0)
section
variable{M:xG}{R H:Nat}{kd:Nat->Int}{e:Nat->Nat}{f:List é}{l:e9}{jl:Ν->Prop}{o:Nat->e9}
def akY{a:Option â}{s:M.γ}(h:ny ((kG M i n R kd e D O a j b m J j9 j7 qX l).r Ä) k s):zz M k s:=by
 have c:∀(k:Nat) (s:((kG M i n R kd e D O a j b m J j9 j7 qX l).r Ä).γ),ny ((kG M i n R kd e D O a j b m J j9 j7 qX l).r Ä) k s->zz M k s:=λk s h=>by
  induction h with
  |vm=>exact .vm
  |Dh _ d f=>exact .Dh f d
 exact c k s h
def akZ{J:(Ν->Prop)->Nat->Jd}{cf:é}{a:ŏ}(Gz:qX=cf.at a (Ñ Q (i::jJ)::L)::f)(c:rR Ä jl H (Lt kd e R n v l qX) .fA D o E w qJ)(F:Option (Nat×Nat))(s:gw l)(Ls:∀b,¬l.I b)(hq:¬l.q)(hd:l.d=0)(S:vS jl H l)(hV:∀b,M.r b->l.O b)(qR:∀s F V w u,M.RD s F V w->(∀b,V b->u.heap[b]?=w.heap[b]?)->M.RD s F V u)(ak0:∀s F V w,M.RD s F V w->(∃p m c,F=Æ p m c)/\∀b,V b->l.O b\/l.w.heap.size<=b)(B1:M.RD M.C v M.r l.w)(xE:w.os=l.w.os/\w.output=l.w.output)(hn:1<=n)(hs:n+R<1000) (hA:∀g ib qb ci cq B ba bi I,l.w.heap.size<=ba->En (kG M E.size n R kd e g ib qb ci cq B ba bi I qX l)/\Eo (kG M E.size n R kd e g ib qb ci cq B ba bi I qX l)) (hJ:∀Er C W B p m c,vS Er C W->gw W->FY M R kd l B (Æ p m c) W->fh Ä Ò (J Er C) W (G (cf.at (a.put ((Q[i]?).bind (·.dst))<|ñ #[Æ (Â ⟨B,0,Á⟩) R R,Æ p m c])<|Ñ Q jJ::L) f)): ∃N Er C T jA HJ gs' u s9 t',Ŷ Ä N (Ĭ E w F) qJ=(.next<|Ĭ gs' u s9,t')/\(u.os=l.w.os/\u.output=l.w.output)/\rR Ä Er C (J Er C) T jA HJ gs' u t':=by
 let⟨g,ib,qb,ci,cq,B,ba,bi,I,⟨b1,b2,b3,b4⟩,N,Y,C,jA,HJ,gs',u,s9,t',g',r,z1,z2,z3,z4,z5,z6,z7,cY,t⟩:=akU c F s Ls hq hd S.C hV qR B1 xE hn hs hA;let⟨st,Z8,V,GD,SB,Ly,Lz⟩:=t.HG;obtain⟨⟨sp,sm,sc,rfl⟩,a_⟩:=ak0 _ _ _ _ Ly;obtain⟨ts,qT,rfl⟩:=t.Sy;have hH:=S.C;have b_:=λb q=>s.fw b<|Ã q;have X:∀b,(l.O b\/l.w.heap.size<=b)->b<u.heap.size->b≠I->(SC (λj=>jl j\/∃x:â,j=û x/\x.block=I) u).O b:=λb hb gS lr=>by
  refine⟨gS,λx hx=> ?_⟩;rintro(q|⟨y,P,q2⟩)
  .rcases hb with hb|hb
   .exact S.fl b hb x hx q
   .have:=S.r x q;omega
  .injection P with P;subst P;omega
 have ak1:=λb q=>by have h:=t.I b q;rw[ì<|b_ b q]at h;exact(æ.1 h).1
 have keep:=λb q=>X b (Ã q) (ak1 b q) (by have:=b_ b q;omega);have LA:=X B (Ç b1) t.fw.1 t.r.1;have ak2:fh Ä Ò (J (λj=>jl j\/∃x:â,j=û x/\x.block=I) C) (SC (λj=>jl j\/∃x:â,j=û x/\x.block=I) u) (Em ts qX):=by
  rw[Gz];refine akk (Z9 _ _) (λq=>q) qT (Ã<|X ba (Ç b2) t.fw.2.1 t.r.2.1) (Ã<|Ã<|X _ (Ç<|b4 _<|Ú _) t.fw.2.2 t.r.2.2) t.cba SB λW h=> ?_;refine hJ (λj=>jl j\/∃x:â,j=û x/\x.block=I) C W B sp sm sc ⟨λx q=> ?_,λb q x hx=> ?_,Õ z3 h.I⟩ (h.N<|Z9 _ _) ⟨λb q=>⟨h.O b<|keep b q,(h.r b (Ã<|keep b q) id).trans<|t.I b q⟩,⟨h.O B LA,λp hp=> ?_⟩,⟨st,V,akY GD,qR _ _ _ _ _ Ly λb q=>h.r b (Ã<|X b (a_ b q) (Lz b q).1 (Lz b q).2) id,λb q=>h.O b<|X b (a_ b q) (Lz b q).1 (Lz b q).2⟩,h.d,?_,λb q=> ?_,⟨λa q=> ?_,λa q=> ?_,λa q=> ?_⟩,⟨(gM<|h.r B (Ã LA) id).trans t.C.1,(wY<|h.r B (Ã LA) id).trans t.C.2⟩⟩
  .rcases q with q|⟨y,P,q2⟩
   .exact È (S.r x q) z5
   .injection P with P;subst P;omega
  .rcases h.c b q with q|q
   .exact q.2 x hx
   .have j:u.heap.size<=b:=q;rintro(z|⟨y,z1,z2⟩)
    .have:=S.r x z;omega
    .injection z1 with z1;subst z1;omega
  .refine(gM<|h.r B (Ã LA) id).trans ?_;by_cases hk:kd p=1
   .have hm:p∈gZ kd R:=Ā.2 ⟨Ē.2 hp,by simpa using hk⟩;let⟨j,y⟩:=Ĩ hm;have P:=(Ĕ.1 y).1;have:=t.kO (j+1) Z (show j+1<=fK kd R from P);have e2:(gZ kd R).getD (j+1-1) 0=p:=Ó<|(BZ P).symm.trans y;simp only[kG,Lp,e2]at this;exact this
   .have hm:p∈jz kd R:=Ā.2 ⟨Ē.2 hp,by simpa using hk⟩;let⟨j,y⟩:=Ĩ hm;have P:=(Ĕ.1 y).1;have:=t.Sx j P;simp only[kG,Lp,Ó<|(BZ P).symm.trans y]at this;exact this
  .rw[h.q];exact id
  .rw[h.S]at q;exact q
  .rw[h.Y]at q;exact q
  .rw[h.b]at q;exact q
  .rw[h.K]at q;exact q
 let⟨T,h⟩:=jk ak2;exact⟨N,_,C,T,jA,_,gs',u,s9,t',r,t.io,cY.Y z6 z2 z7 U U id (λ_=>id) (λ_=>id) (λ_=>id) (λ_=>id) (λb q=>q) h⟩
end
end Go.Proofs.Y.ft
namespace Go.Proofs.Y.ft
open Go Go.Conc Go.Proofs.Y.Lift Go.RowKit Go.Conc.Lib Go.ConcR.Gen
open Go.Proofs Go.Proofs.YtgpphkdoanciiaaGreatDoor
def qf(V:Nat->Prop)(base:Nat):fq:=⟨λi j=>i=j/\V i,base⟩
def ak3(V:Nat->Prop)(base:Nat):Bi (qf V base):= ⟨λ_ _ _ h k=>h.1.symm.trans k.1,λ_ _ _ h k=>h.1.trans k.1.symm,λi j h=>by rw[h.1]⟩
def lA(j:Nat):Bool:=j==3||j==4
def uK(c:Array Ï):Array Ï:=c.extract 0 16
def ak4(c:Array Ï):(uK c).size=min 16 c.size:=by simp[uK]
open Classical in
noncomputable def pF (a:Nat->Prop) (j:Nat):Ÿ->Ÿ
 |É c e b=>if a j then(if lA j=Ò then É (uK c) e (0,(uK c).size)else É c e (0,c.size))else É c e b
 |_=>É #[] 0
noncomputable def ll (Sh:Nat->Prop) (w:ß):ß:={w with heap:=w.heap.mapIdx (pF Sh)}
section
variable{V Sh:Nat->Prop}{base:Nat}
def Es(j:Nat):(ll Sh w).heap[j]?=(w.heap[j]?).map (pF Sh j):=by simp[ll,Array.getElem?_mapIdx]
def c_:ko (ll Sh w):=λi o h=>by
 rw[Es]at h;obtain⟨x,_,rfl⟩:=ġ.1 h;cases x<;>simp only[pF]<;>try exact id
 split
 .split<;>exact id
 .exact id
structure LB(V Sh:Nat->Prop)(base:Nat)(w:ß):Prop where
 Sy:∀b,V b->∃c e fr,w.heap[b]?=Â (É c e fr)/\fr.2<=c.size/\fS (qf V base) c c/\(Sh b->0<c.size/\(lA b=Ò->(e=304\/e=305)/\fr.2<=16)/\(lA b=Ì->CS c))
 fw:base<=w.heap.size
def ak5(h:LB V Sh base w):rz (qf V base) Sh (ll Sh w) w:=by
 refine⟨U,U,ak3 V base,by show base<=(w.heap.mapIdx<|pF Sh).size;rw[Array.size_mapIdx];exact h.fw,h.fw,λi j o=> ?_⟩;obtain⟨rfl,p⟩:=o;let⟨c,e,a,b,l,f,r⟩:=h.Sy i p;have g:(ll Sh w).heap[i]?=Â (pF Sh i<|É c e a):=by rw[Es,b];rfl
 by_cases s:Sh i
 .let⟨t,u,v⟩:=r s;cases d:lA i with
  |true=>
   let⟨x,y⟩:=u d;have z:=ak4 c;have m:FB e (uK c).size:=⟨x,Z⟩;refine⟨uK c,c,e,(0,(uK c).size),a,?_,b,⟨λk B n=> ?_,Z,Ç ⟨s,m⟩⟩,λ_=>⟨U,Ú _,by show a.2<=(uK c).size;omega,Z,Ç m⟩,λq=>absurd s q,Ú _⟩
   .show(ll Sh w).heap[i]?=_;rw[g];simp[pF,s,d]
   .have:(uK c)[k]=c[k]:=by simp[uK]
    rw[this];exact f.C k n n
  |false=>
   refine⟨c,c,e,(0,c.size),a,?_,b,pb.M f,λ_=>⟨U,Ú _,l,t,Ã<|v d⟩,λq=>absurd s q,Ú _⟩;rw[g];simp[pF,s,d]
 .refine⟨c,c,e,a,a,?_,b,pb.M f,λq=>absurd q s,λ_=>rfl,l⟩;rw[g];simp[pF,s]
end
section
variable{a:Nat->Prop}{l:e9}{V:Nat->Prop}
theorem Et(y:nS P)(B:pj P a X)(hF:tM P X)(C:wV vQ){k:Array Ï}(D:X F)(E:P.funcs[F]?=Â s)(H:s.body=Â wX)(r:gw l)(I:¬l.q) (n:∀b,V b->l.M b) (J:LB V (λj=>V j/\¬l.O j) P.globals.size l.w) (K:∀g,a g->V g) (L:fS (qf V P.globals.size) k k) (N:∀T,Calls P F k (World.tp (ll (λj=>V j/\¬l.O j) l.w) T 0) fun|.returned v,e=>vQ v e/\ko e|_,_=>False) (t:Bool) (o:é) (p:List é): fh P t (λh u=>∃(Y:fq) (e:ß) (v m:Ï),(qf V P.globals.size).r Y/\rz Y (λj=>V j/\¬l.O j) e h.w/\fi Y v m/\vQ v e/\u=G (o.finish m) p/\(∀i j,Y i j->h.M j/\(V j\/l.O j\/l.w.heap.size<=j))/\(∀j,l.O j->h.O j)/\h.d=l.d) l (G (Ă P F k Ğ)<|o::p):=by
 refine(agy (afv y B hF C D E H c_ N (Y:=qf V P.globals.size) U (λg q=>⟨U,K g q⟩) L (ak5 J) (λj q=>r.fw j<|n j q.1) (λi j _ q=>(n j q.1).resolve_left q.2) t o p) l U (λj q=> ?_) (λ_ q=>q) (λj q=>r.fw j<|Ã q) I).fO ?_
 .obtain⟨⟨i,rfl,x⟩,Q⟩:=q;grind
 .rintro h u ⟨O',⟨Y,e,v,m,S,rfl,W,q3,q4,q5⟩,Q,h3,h4,h5,h6,h7,h8,h9,h10,h11,h12⟩;refine⟨Y,e,v,m,S,W,q3,q4,q5,λi j SF=> ?_,h4,h10⟩;by_cases z:V j/\¬l.O j
  .exact⟨Ç (by rw[h7];exact(n j z.1).resolve_left z.2),Ã z.1⟩
  .have x:=h3 j ⟨⟨i,SF⟩,z⟩;exact⟨Ã x,Ç<|h6 j x⟩
end
section
variable{l:e9}{V GL:Nat->Prop}
def Eu(s:gw l):gw (mg l):=by refine⟨λ_ h=>h.elim,λ_ h=>h.elim,λa c d=>s.N a (c.resolve_left id)<|d.resolve_left id,λb d=>s.fw b<|d.resolve_left id,λa c=>s.I a<|c.resolve_left id,λa c=>⟨λq=>(s.S a c).1<|q.resolve_left id,(s.S a c).2.1,id⟩⟩
structure Ev(GL:Nat->Prop)(f:ķ)(args:Array Ï)(l:e9)(V:Nat->Prop)(kn:Ï->ß->Prop):Prop where
 N:∀b,V b->l.M b
 S:LB V V Ä.globals.size l.w
 I:∀g,GL g->V g
 r:fS (qf V Ä.globals.size) args args
 C:∀T,Calls Ä f args (World.tp (ll V l.w) T 0) fun|.returned v,u'=>kn v u'/\ko u'|_,_=>False
def ak6(m:nS Ä)(n:pj Ä GL X)(hF:tM Ä X)(e:X 67){D:SD}(h:∀i s d W l,i<D.q->ny (D.r Ä) (D.b i) s->D.RD s d W l.w->(∀b,W b->l.M b)->gw l->¬l.q->(∀b,D.d b->l.M b)->D.RC l.w->∃V,Ev GL 67 #[d,À<|D.i i] l V λv _=>v=à (D.j i)):Eo D:=by
 intro i s d W l o p r t f g x y z B;let⟨V,a⟩:=h i s d W l o p r t f g x y;let⟨G,c,C,E⟩:=hF 67 e;have k:(λj=>V j/\¬(mg l).O j)=V:=by funext j;exact propext ⟨λq=>q.1,λq=>⟨q,id⟩⟩
 refine(Et m n hF (λv u T D h=>h) e C E (Eu f) g (λb q=>Ç<|a.N b q) (by rw[k];exact a.S) a.I a.r (by rw[k];exact a.C) Ì z B).fO ?_;rintro H I ⟨Y,J,v,K,_,_,j,u,T,_,_,F⟩;subst u;cases j;exact⟨F,T⟩
theorem ak7(P:nS Ä)(Q:pj Ä GL X)(hF:tM Ä X)(B:X 66){D:SD}(Rg:D.γ->Ï->ß->Prop)(hRg:∀s a u T n,Rg s a u->Rg s a (World.tp u T n)) (h:∀k s a W l,k<D.m->ny (D.r Ä) k s->D.RD s a W l.w->(∀b,W b->l.M b)->gw l->¬l.q->(∀b,D.d b->l.M b)->D.RC l.w->∃V,Ev GL 66 #[a,À<|D.o<|k+1] l V (λv u=>∃p n c d,v=ñ #[Æ p n c,à<|D.e<|k+1]/\D.h k s d/\Rg d (Æ p n c) u)/\ ∀Y S u w d a C,rz Y S u w->fi Y a C->Rg d a u->(∀i j,Y i j->V j\/l.w.heap.size<=j)->∃e,D.RD d C e w/\∀b,e b->∃i,Y i b):En D:=by
 intro k s a W l hk hr qR hW E F hRB hRC cl lT;let⟨V,f,tr⟩:=h k s a W l hk hr qR hW E F hRB hRC;let⟨fn,c,hf,g⟩:=hF 66 B;have G:(λj=>V j/\¬(mg l).O j)=V:=by funext j;exact propext ⟨λq=>q.1,λq=>⟨q,id⟩⟩
 refine(Et P Q hF (λv u T D h=> ?_) B hf g (Eu E) F (λb q=>Ç<|f.N b q) (by rw[G];exact f.S) f.I f.r (by rw[G];exact f.C) Ì cl lT).fO ?_
 .grind
 .rintro l' g' ⟨Y,u',v,v',_,q2,q3,⟨p,n,c,d,rfl,H,h3⟩,I,o,_,J⟩;cases q3 with
  |@nQ _ cs'' hs mG=>
   let⟨ls⟩:=cs'';match ls,hs with
   |[x,y],_=>
    have r:=mG 0 fj fj;have K:=mG 1 fj fj;simp at r K;cases K;let⟨e,L,N⟩:=tr Y _ u' l'.w d _ x q2 r h3 λi j SF=>(o i j SF).2.imp id λz=>z.resolve_left id;cases r with
    |om=>exact⟨J,Á,n,c,I,d,e,H,L,λb g=>by let⟨i,t⟩:=N b g;exact(o i b t).1⟩
    |kK=>exact⟨J,_,n,c,I,d,e,H,L,λb g=>by let⟨i,t⟩:=N b g;exact(o i b t).1⟩
end
end Go.Proofs.Y.ft
namespace Go.Proofs.Y.Lift
open Go
def Ew(a:Nat->Bool):Ĥ->Bool
 |Ũ (Đ cs)=>cs.toList.all yB
 |Ũ (ñ cs)=>cs.toList.all yB
 |x=>wW a x
def d_(a:Nat->Bool)(x:Ĥ):Ew a x=wW a x:=by
 cases x with
 |const v=>cases v<;>simp[Ew,wW,Od,ĝ]
 |_=>rfl
def LC(P:ė)(a:Nat->Bool)(b c:ķ->Bool)(o:å):Bool:=(C9 P b o.op&&o.op.operands.toList.all (Ew a))||(Ov P c o.op&&o.op.operands.toList.all (Ew a))
def LD(a:Nat->Bool)(b c:ķ->Bool)(o:å):LC P a b c o=Dc P a b c o:=by have:(Ew a)=wW a:=funext<|d_ a;simp[LC,Dc,Om,this,ĝ]
def qU(P:ė)(a:Nat->Bool)(b d:ķ->Bool):Ę->Bool
 |Ρ|ť|.label _|Ŧ _|.goto _=>Ò
 |.seq x y=>qU P a b d x&&qU P a b d y
 |Ť c x y=>Ew a c&&qU P a b d x&&qU P a b d y
 |İ _ c|.loop c|.scope c=>qU P a b d c
 |ä _ c _=>c.toList.all<|LC P a b d
 |.refuse _=>Ò
 |_=>Ì
def zC(a:Nat->Bool)(b d:ķ->Bool):∀c:Ę,qU P a b d c=nW P a b d c
 |Ρ|ť|.label _|Ŧ _|.goto _|.refuse _|.rangeFunc _ _ _ _=>rfl
 |.seq x y=>by simp only[qU,nW,zC a b d x,zC a b d y]
 |Ť c x y=>by simp only[qU,nW,d_,zC a b d x,zC a b d y]
 |İ _ c|.loop c|.scope c=>by simp only[qU,nW,zC a b d c]
 |ä _ x _=>by have:LC P a b d=Dc P a b d:=funext<|LD a b d;simp only[qU,nW,this,ĝ]
end Go.Proofs.Y.Lift
namespace Go.Proofs.Y.ft
open Go Go.Conc Go.Proofs.Y.Lift Go.RowKit Go.Conc.Lib Go.ConcR.Gen
open Go.Proofs Go.Proofs.YtgpphkdoanciiaaGreatDoor
def f_:List Nat:=[35,38,44,54,55,56,60,66,67,78,79,103,113,114,115,116,117,118,119,120,121,122,123,124,125,126,153,154,155,156,157,158,159,160,161,162,168,169,170,171,172,173,174,175,176,177,178,186,187,188,189,190,191,192,193,194,196,197,198,199,200,201,202,203,204,205,206,207,208,209,210,211]
def xI(g:Nat):Bool:=[1,2,3,4].contains g
def xK(f:Nat):Bool:=f_.contains f
def zD(f:Nat):Bool:=[129,130].contains f
def B2(P:ė)(f:Nat):Bool:=match P.funcs[f]? with
 |some a=>match a.body with
  |some c=>qU P xI xK zD c
  |none=>Ì
 |none=>Ì
def ak8:f_.all (B2 Ä)=Ò:=by rfl
def g_(h:xK i=Ò):B2 Ä i=Ò:=(Ň.1 ak8) i<|by simpa[xK]using h
def ak9(h:B2 P i=Ò):∃a c,P.funcs[i]?=Â a/\a.body=Â c:=by
 unfold B2 at h;split at h
 .rename_i a b;split at h
  .rename_i c d;exact⟨a,c,b,d⟩
  .cases h
 .cases h
def ala(h:B2 P i=Ò)(a:P.funcs[i]?=Â s)(b:s.body=Â wX):qU P xI xK zD wX=Ò:=by unfold B2 at h;rw[a]at h;simp only[b]at h;exact h
def h_:tM Ä (λf=>xK f=Ò):=λ_ h=>ak9<|g_ h
def alb[Aq P](h:∀f,xK f=Ò->B2 P f=Ò)(a:F1 P zD):pj P (λg=>xI g=Ò) (λf=>xK f=Ò):=λf g e c b d=>by have:=ala (h f g) b d;rw[zC]at this;exact vo a this
instance au4:Aq Ä:=⟨λe n h=>by
 have h1:Ä.cellsOf 304=32:=fp
 have h2:Ä.cellsOf 305=64:=fp
 obtain⟨rfl|rfl,h3⟩:=h
 .rw[h1];omega
 .rw[h2];omega⟩
def alc(a:F1 Ä zD):pj Ä (λg=>xI g=Ò) (λf=>xK f=Ò):=alb (λ_ h=>g_ h) a
def Ex:F1 Ä zD:=λf h=>by
 have:f=129\/f=130:=by simpa[zD]using h
 rcases this with rfl|rfl
 .exact⟨_,Extern.AbiNoEscape.same,Tryz.func129,fN,fN,fN,fN,λ_ v a h=>afT v a h,afU⟩
 .exact⟨_,Extern.BytealgMakeNoZero.makeNoZero #[3] #[107],Tryz.func130,fN,fN,fN,fN,λ_ v a h=>afV #[3] 107 v a h,afW #[3] 107⟩
def h':pj Ä (λg=>xI g=Ò) (λf=>xK f=Ò):=alc Ex
end Go.Proofs.Y.ft
namespace Go.Proofs.Y.Lift
open Go Go.Conc
section
variable{Y:fq}{b:ķ->Prop}
def ald{e:Array Ï->Sem Ï}{y:Ĥ}{m:Array ŭ}(d:o.op=Ě {callee:=ĕ<|ĸ F,args:=#[qQ,y],argTypes:=m})(q:P.funcs[F]?=Â s)(r:(s.name== "runtime.NumGoroutine")=Ì)(t:s.body.isNone=Ò)(B:Extern.findNext s=Á)(C:Extern.find s=Â e) (D:∀(Y:fq) (v i z j:Ï),fi Y v i->fi Y z j->fF P fi Y (e #[v,z]) (e #[i,j])) (E:∀v z,fC P<|e #[v,z]) (G:∀y∈o.op.operands,mD X y):mO P X b o:=by
 have c:∀a:ŏ,ĉ a.eval o=Ś F #[a.eval qQ,a.eval y]:=by intro a;unfold ĉ;rw[d];simp only[ſ,ĥ,ě,invoke,pure_bind,Array.empty_append,Array.append_empty,List.map_toArray,List.map_cons,List.map_nil]
 have k:∀(v z:Ï) (u:ß),(Ś F #[v,z]).run P u=(mark (.extern F)>>=λ_=>e #[v,z]>>=λy=>pure (Next.value y):Sem Next).run P u:=by intro v z u;unfold Ś;simp_all
 refine W3 (λY a w _ _ _ h=> ?_) (λa=> ?_) (λa u n H g=> ?_) G
 .rw[c,c];have I:=h qQ (by rw[d];simp[ŉ,Call.operands]);have J:=h y (by rw[d];simp[ŉ,Call.operands]);unfold Ś;refine .gp (fD rh ?_);rintro M p N w ⟨K,L⟩;rw[K,L];simp only[q,r,t,B,C,Ķ,if_false,if_true];apply fD (V:=jq) (.CR (Ç ⟨F,U⟩) (.fB U));intro O _ _ l _;exact mN<|D _ _ _ _ _ ((I.fO w).fO l)<|(J.fO w).fO l
 .rw[c];exact Jk (k _ _)<|gl (FR _) λ_=>lV<|E _ _
 .rw[c,k,Sem.run_bind]at g;simp only[mark,Sem.run,Result.andThen_ok]at g;have:Sem.run P (e #[a.eval qQ,a.eval y]>>=λy=>pure (Next.value y):Sem Next) u=.ok n H:=g;rw[Sem.run_bind]at this;cases h:(e #[a.eval qQ,a.eval y]).run P u with
  |ok v w=>rw[h]at this;cases this;exact⟨v,U⟩
  |halt z w=>rw[h]at this;cases this
def i_:∀(n:Nat) {Y:fq} {a b:â} (c:ByteArray),hD Y a b->fF P jq Y (ò a n c) (ò b n c)
 |0,_,_,_,_,_=> .fB U
 |n+1,Y,a,b,c,h=>by
  unfold ò;refine fD (I9 h) ?_;intro f v g d e;cases e<;>first|exact .fR|skip
  rename_i k z;cases k<;>first|exact .fR|skip
  exact i_ n _<|(h.r d).C 1
theorem j_:∀(n:Nat) (a:â) (b:ByteArray),fC P<|ò a n b
 |0,_,_=>gE _
 |n+1,a,b=>by
  unfold ò;refine gl (FT _ _) λv=> ?_;split
  .exact j_ n _ _
  .exact jd _
def ale(h:fi Y v x):fF P jq Y (ú v) (ú x):=by
 cases h<;>first|exact .fR|exact .fB U|skip
 exact i_ _ _<|by assumption
theorem alf(v:Ï):fC P (ú v):=by unfold ú;grind [gE,j_,jd]
def alg(h:fi Y v x):fF P jq Y (ü v) (ü x):=by
 cases h<;>first|exact .fR|skip
 rename_i k z;cases k<;>first|exact .fR|exact .fB U
theorem alh(v:Ï):fC P (ü v):=by unfold ü;grind [gE,jd]
def ali(v a z b:Ï)(h:fi Y v a)(k:fi Y z b):fF P fi Y (ó #[v,z]) (ó #[a,b]):=by
 apply fD (ale h);rintro j s d e f;obtain rfl:s=d:=f;apply fD (alg<|k.fO e);rintro l c g m i;obtain rfl:c=g:=i;split
 .exact .fB (.iD _ _)
 .exact .fB (.iD _ _)
theorem alj(v z:Ï):fC P (ó #[v,z]):=by refine gl (alf v) λs=>gl (alh z) λc=> ?_;grind [gE]
end
end Go.Proofs.Y.Lift
namespace Go.Proofs.Y.ft
open Go Go.Conc Go.Proofs.Y.Lift
open Go.Proofs Go.Proofs.YtgpphkdoanciiaaGreatDoor
def SG:List Nat:=[16,18,21,23,24,25,28,29,30,31,35,44,60,38,54,55,56,78,79,36,45,61,94,95,96,97,98,99,100,101,102,103,104,145,146,147,148,149]
def Ey(f:Nat):Bool:=SG.contains f||f==167
def LF(_:Nat):Bool:=Ì
def LG(P:ė)(f:Nat):Bool:=match P.funcs[f]? with
 |some a=>match a.body with
  |some c=>qU P LF Ey zD c
  |none=>Ì
 |none=>Ì
def alk:SG.all (LG Ä)=Ò:=by rfl
def k_(h:SG.contains i=Ò):LG Ä i=Ò:=(Ň.1 alk) i<|by simpa using h
theorem m_(h:LG P i=Ò):∃a c,P.funcs[i]?=Â a/\a.body=Â c/\qU P LF Ey zD c=Ò:=by unfold LG at h;grind
def zE:tM Ä (λf=>Ey f=Ò):=λf h=>by
 rcases ī.1 h with q|q
 .let⟨a,c,b,d,_⟩:=m_<|k_ q;exact⟨a,c,b,d⟩
 .rw[beq_iff_eq]at q;subst q;exact⟨_,_,Ŭ,U⟩
def alm(h:Ζ.body=Â wX):kN Ä (λg=>LF g=Ò) (λf=>Ey f=Ò) wX:=by
 unfold Ζ at h;cases h;refine .ru (vo Ex<|by rw[<-zC];rfl) (.ru (.tL _ _ λo f=> ?_) .vj);simp only[List.mem_toArray,List.mem_cons,List.not_mem_nil,or_false]at f;rcases f with rfl|rfl|rfl|rfl
 .exact JK Ex<|by rw[<-LD];rfl
 .exact JK Ex<|by rw[<-LD];rfl
 .exact ald U Tryz.func185 fN fN fN fN (λ_ v g z o=>ali v g z o) alj λy g=>JB (by simp[ŉ,Call.operands]at g;rcases g with rfl|rfl|rfl<;>rfl)
 .exact JK Ex<|by rw[<-LD];rfl
def LH:pj Ä (λg=>LF g=Ò) (λf=>Ey f=Ò):=λf h i c g a=>by
 rcases ī.1 h with q|q
 .let⟨j,k,b,d,e⟩:=m_<|k_ q;rw[g]at b;cases b;rw[a]at d;cases d;rw[zC]at e;exact vo Ex e
 .rw[beq_iff_eq]at q;subst q;rw[Ŭ]at g;cases g;exact alm a
end Go.Proofs.Y.ft
