import Derived.Test.YtgpphkdoanciiabGreatDoorWAB
import Derived.Conc.AppendWalk
import Derived.Conc.TokenWalk
set_option linter.all false
set_option maxRecDepth 1000000
set_option maxHeartbeats 8000000
open Go.Value renaming pointer->À,slice->Æ,int->Ê,oneCell'->Ø,string->à,chan->è,tuple->ñ,func->Ĉ,agg->Đ,bool->ŝ,cells->Ŵ
open Option renaming none->Á,some->Â,isSome_iff_exists->Ô,map_eq_some_iff->ġ,isSome_none->ı,getD_some->Ń
open Or renaming inl->Ã,inr->Ç
open Go.Proofs.Tryz renaming prog->Ä,t148->Ą,f29->Ĝ,t9->Ġ,func30->Ħ,type148->Ļ,underlying92->ļ,underlying76->Ľ,underlying54->ľ,f35->Ŗ,func151->Ŭ,func47->Ů,func31->ů,func32->Ű,func33->ű,func34->Ų,func29->ų,func35->ŵ,f151->Ε,f32->Θ,f47->Ι,t92->Λ,f30->Μ
open Go renaming undef->Å,Value->Ï,Goroutine->Ý,World->ß,events_store->á,Addr->â,Oper->å,getD_set_ne->ç,Frame->é,execOp->ĉ,Program->ė,Code->Ę,Operand->Ĥ,deafBehind->į,FuncId->Ķ,Act->ŏ,maxLen->œ,size_madeCells->ř,callFunc->Ś,yielded->ţ,TypeId->ŭ,runNT->Ŷ,Item->ŷ,Obj->Ÿ,Trace->ż,TypeInfo->Ž,Event->ž,resolve->ſ,Loc->Ν
open Nat renaming lt_of_lt_of_le->È,le_trans->Õ,le_refl->Ú,add_sub_cancel->ø,zero_le->ă,zero_add->č,mod_lt->Ĵ,lt_succ_of_lt->ĸ,le_of_lt->Ł,reduceAdd->ś,sub_zero->ũ,sub_self->Ū
open Go.Obj renaming cells->É,chan->ŕ
open Go.Conc.Goes renaming stop->Ë
open Bool renaming false->Ì,true->Ò,or_eq_true_iff->ī,false_eq_true->ĵ
open Go.Ground renaming phase->Í,data->Ü,textOnly->Þ,gcOnly->õ,chain->Ţ
open Go.IntKind renaming i64->Î,u64->ê,u32->Ď,wrap_i64->Γ
open Go.Departure renaming lateStores->Ð
open Go.Item renaming inRegion->Ñ,inBlock->ô,code->ö,inLoop->ą
open Option.some renaming inj->Ó
open Go.World renaming cell?->Ö,frozen?->î,setCell->þ,alloc->ň
open Go.Operand renaming tmp->Ù,func->ķ,const->Ũ
open Go.Region renaming ready->Û,Mode->ý,wanted->Ė
open List renaming range->ã,range_succ->ÿ,mem_filter->Ā,filter_append->ā,flatMap_cons->Ć,mem_range->Ē,setIfInBounds_toArray->ē,getElem?_eq_some_iff->Ĕ,length_filter_le->ģ,mem_of_getElem?->ħ,getElem?_of_mem->Ĩ,set_cons_succ->Ĳ,set_cons_zero->ĳ,size_toArray->ĺ,length_cons->ń,nodup_range->ņ,all_eq_true->Ň,length_nil->ŋ
open Go.Code renaming region->ä,block->İ,cond->Ť,skip->ť,exit->Ŧ,ret->Ρ
open Array renaming getElem?_eq_some_iff->æ,getElem?_eq_getElem->ì,getElem?_modify->í,getD_eq_getD_getElem?->ď,all_toList->ĝ
open Go.Region.linearise renaming go->ë
open Go.MemAct renaming ofEvent->ï
open Go.Op renaming fieldAddr->ð,load->ć,move->ę,call->Ě,nilCheck->ĩ,operands->ŉ,extract->Ő,indexAddr->ő,makeFunc->Ş,store->š,assign->ŧ,binOp->Κ
open Go.Extern.Bytes renaming loadBytes->ò,bytesOf->ú,asByte->ü
open Go.Extern.BytealgIndexByte renaming indexByte->ó
open Go.Fn renaming func->ù
open Go.Loc renaming cell->û
open Go.Frame renaming enter->Ă,finish_at->Ģ
open Go.Instr renaming build->Ċ,makeSlice->Ŏ
open Go.GoStatus renaming running->ċ,finished->ş
open Go.Conc renaming mem_ofEvents->Č,mem_listed->đ,seen_none->Ī,crowd->Ĭ,stepG_region->Ĺ,events_call_body->ł,deafBehind_still->Ņ,listed->ŗ,handedOver_app->Ř,stepG_seq->Ŝ,stepG_comm->Ż
open Go.Callee renaming value->ĕ,builtin->Ŕ
open Go.Deferred renaming ofValue->ě
open Go.CallKind renaming normal->Ğ,early->Ź
open Go.Addr renaming add_lit->ğ
open Go.Act renaming eval->ĥ,put->Ο
open Eq renaming trans->Ŀ
variable{i n j b k m J j9 j7 j6:Nat}{w u W jX:ß}{v x z jQ:Ï}{g:Ý}{a p:â}{h c:Int}{e t T:ŭ}{d q:Array Ï}{P:ė}{y:ŏ}{B:ByteArray}{X:Nat->Prop}{O:Option â}{l:List Ï}{yQ:Bool}{K H:ŏ->ß->Prop}{o:å}{D:Nat->Nat}{E:Array Ý}{L:List ŷ}{jJ:List Nat}{qX:List é}{qQ:Ĥ}{qJ:ż}{zX:Ν->Prop}{zQ:List Int}{zJ:Ž}{xX:Ĥ->Ï}{xQ:Go.Tape}{xJ:Nat×Nat}{wX:Ę}{wQ:Go.MemOp}{wJ:Array Bool}{vX:List ByteArray}{vQ:Ï->ß->Prop}{vJ:Go.Exit->ŏ->ß->Prop}{yX:ý}{Q:Array å}{f:é}{V:Array ž}{F:Ķ}{s:Go.Func}
namespace Go.Proofs.Y.fB
open Go Go.Conc Go.Proofs.Y.Lift Go.RowKit Go.Conc.Lib Go.ConcR.Gen
open Go.Proofs Go.Proofs.YtgpphkdoanciiabGreatDoor
def GY:å:=⟨Â 13,ð 148 (Ù 5) 3,0, "work.go:57",#[],Á⟩
def D7:å:=⟨Â 14,ć 77<|Ù 13,77, "work.go:57",#[⟨0,Ü⟩],Á⟩
def GZ:å:=⟨Â 15,ę<|Ù 1,54, "work.go:57",#[{on:=18,ground:=õ Ð}],Á⟩
def G0:å:=⟨Â 16,ð 148 (Ù 5) 1,0, "work.go:57",#[{on:=18,ground:=õ Ð}],Á⟩
def D8:å:=⟨Â 17,ć 3<|Ù 16,3, "work.go:57",#[⟨3,Ü⟩,{on:=18,ground:=õ Ð}],Á⟩
def G1:å:=⟨Â 18,ð 148 (Ù 5) 2,0, "work.go:57",#[],Á⟩
def D9:å:=⟨Â 19,ć 77<|Ù 18,77, "work.go:57",#[⟨5,Ü⟩],Á⟩
def Ea:å:=⟨Â 20,ĩ<|Ù 19,0, "work.go:57",#[⟨6,Ü⟩],Á⟩
def Eb:å:=⟨Â 21,ð 96 (Ù 20) 1,0, "work.go:57",#[⟨7,Ü⟩],Á⟩
def Ec:å:=⟨Â 22,ć 56<|Ù 21,56, "work.go:57",#[⟨8,Ü⟩],Á⟩
def G2:å:=⟨Â 23,ð 148 (Ù 5) 0,0, "work.go:57",#[],Á⟩
def Ed:å:=⟨Â 24,ć 140<|Ù 23,140, "work.go:57",#[⟨10,Ü⟩],Á⟩
def Bz:å:=⟨Â 25,Ě {callee:=ĕ<|ķ 50,args:=#[Ù 22,Ù 24],argTypes:=#[56,140]},156, "work.go:57",#[⟨9,Ü⟩,⟨11,Ü⟩],Á⟩
def vR:å:=⟨Â 12,ę<|Ù 25,156, "work.go:57",#[⟨12,Ü⟩],Á⟩
def BA:å:=⟨Â 26,Ő (Ù 12) 0,56, "work.go:57",#[⟨13,Ü⟩],Á⟩
def BB:å:=⟨Â 27,Ő (Ù 12) 1,9, "work.go:57",#[⟨13,Ü⟩,{on:=18,ground:=õ Ð}],Á⟩
def Ee:å:=⟨Â 28,ĩ<|Ù 14,0, "work.go:57",#[⟨1,Ü⟩,⟨0,Í⟩,⟨1,Í⟩,{on:=2,ground:=Þ Ð},{on:=3,ground:=Þ Ð},{on:=4,ground:=Þ Ð},⟨5,Í⟩,⟨6,Í⟩,⟨7,Í⟩,⟨8,Í⟩,⟨9,Í⟩,⟨10,Í⟩,⟨11,Í⟩,⟨12,Í⟩,⟨13,Í⟩,⟨14,Í⟩,{on:=15,ground:=Þ Ð}],Á⟩
def Ef:å:=⟨Â 29,ð 96 (Ù 28) 1,0, "work.go:57",#[⟨16,Ü⟩,⟨0,Í⟩,⟨1,Í⟩,{on:=2,ground:=Þ Ð},{on:=3,ground:=Þ Ð},{on:=4,ground:=Þ Ð},⟨5,Í⟩,⟨6,Í⟩,⟨7,Í⟩,⟨8,Í⟩,⟨9,Í⟩,⟨10,Í⟩,⟨11,Í⟩,⟨12,Í⟩,⟨13,Í⟩,⟨14,Í⟩,{on:=15,ground:=Þ Ð}],Á⟩
def BD:å:=⟨Á,š 56 (Ù 29)<|Ù 26,0, "work.go:57",#[⟨17,Ü⟩,⟨14,Ü⟩,⟨12,Ţ⟩,⟨0,Í⟩,⟨1,Í⟩,{on:=2,ground:=Þ Ð},{on:=3,ground:=Þ Ð},{on:=4,ground:=Þ Ð},⟨5,Í⟩,⟨6,Í⟩,⟨7,Í⟩,⟨8,Í⟩,⟨9,Í⟩,⟨10,Í⟩,⟨11,Í⟩,⟨12,Í⟩,⟨13,Í⟩,⟨14,Í⟩,{on:=15,ground:=Þ Ð}],Á⟩
def BF:å:=⟨Â 30,ő 54 (Ù 15)<|Ù 17,0, "work.go:57",#[⟨2,Ü⟩,⟨4,Ü⟩,⟨0,Í⟩,⟨1,Í⟩,⟨2,Í⟩,⟨3,Í⟩,⟨4,Í⟩,⟨5,Í⟩,⟨6,Í⟩,⟨7,Í⟩,⟨8,Í⟩,⟨9,Í⟩,⟨10,Í⟩,⟨11,Í⟩,⟨12,Í⟩,⟨13,Í⟩,⟨14,Í⟩,⟨15,Í⟩,⟨16,Í⟩,⟨17,Í⟩,⟨18,Í⟩],Á⟩
def BG:å:=⟨Á,š 9 (Ù 30)<|Ù 27,0, "work.go:57",#[⟨19,Ü⟩,⟨15,Ü⟩,⟨18,Ţ⟩,⟨0,Í⟩,⟨1,Í⟩,⟨2,Í⟩,⟨3,Í⟩,⟨4,Í⟩,⟨5,Í⟩,⟨6,Í⟩,⟨7,Í⟩,⟨8,Í⟩,⟨9,Í⟩,⟨10,Í⟩,⟨11,Í⟩,⟨12,Í⟩,⟨13,Í⟩,⟨14,Í⟩,⟨15,Í⟩,⟨16,Í⟩,⟨17,Í⟩,⟨18,Í⟩],Á⟩
def zw:Array å:=#[GY,D7,GZ,G0,D8,G1,D9,Ea,Eb,Ec,G2,Ed,Bz,vR,BA,BB,Ee,Ef,BD,BF,BG]
def mZ(tb a b c N d:Nat)(e f:Ï)(x:(Option Addr×Nat×Nat)×ByteArray):Nat->Ï
 |0=>À<|Â ⟨tb,3,Á⟩
 |1=>À<|Â ⟨b,0,Á⟩
 |2=>Æ (Â ⟨c,0,Á⟩) N N
 |3=>À<|Â ⟨tb,1,Á⟩
 |4=>Ê Î d
 |5=>À<|Â ⟨tb,2,Á⟩
 |6=>À<|Â ⟨a,0,Á⟩
 |7=>À<|Â ⟨a,0,Á⟩
 |8=>À<|Â ⟨a,2,Á⟩
 |9=>f
 |10=>À<|Â ⟨tb,0,Á⟩
 |11=>e
 |12=>ñ #[Æ x.1.1 x.1.2.1 x.1.2.2,à x.2]
 |13=>ñ #[Æ x.1.1 x.1.2.1 x.1.2.2,à x.2]
 |14=>Æ x.1.1 x.1.2.1 x.1.2.2
 |15=>à x.2
 |16=>À<|Â ⟨b,0,Á⟩
 |17=>À<|Â ⟨b,2,Á⟩
 |19=>À<|Â ⟨c,d,Á⟩
 |_=>Å
structure Eg(jk:fh)(ga gb an pl:Nat)(s6:Ï)(Q:Ï->ByteArray->fh->Prop)(listed:Array Bool)(x:(Option Addr×Nat×Nat)×ByteArray)(l:fh):Prop where
 r:iG (λa=>a=⟨gb,2,Á⟩\/a=⟨an,pl,Á⟩) jk l
 vS:listed.getD 12 Ì=Ò->∃y,Q (Æ x.1.1 x.1.2.1 x.1.2.2) x.2 y/\(∀b,y.M b->l.M b/\l.w.heap[b]?=y.w.heap[b]?)
 I:listed.getD 18 Ì=Ò->l.w.cell? ⟨gb,2,Á⟩=Â (Æ x.1.1 x.1.2.1 x.1.2.2)
 N:listed.getD 20 Ì=Ò->l.w.cell? ⟨an,pl,Á⟩=Â (à x.2)
def Eg.C{d l:fh}{Q:Ï->ByteArray->fh->Prop}{listed:Array Bool}{x:(Option Addr×Nat×Nat)×ByteArray}(h:Eg d n j b k v Q listed x l)(o:i≠12)(p:i≠18)(s:i≠20)(e:d.r ⟨j,2,Á⟩/\d.r ⟨b,k,Á⟩)(m:ß)(r:fL l l.w m):Eg d n j b k v Q (listed.setIfInBounds i Ò) x {l with w:=m}:=by
 have t:∀a,(a=⟨j,2,Á⟩\/a=⟨b,k,Á⟩)->d.r a:=λa u=>by rcases u with rfl|rfl;exact e.1;exact e.2
 refine⟨h.r.N t r,λq=> ?_,λq=> ?_,λq=> ?_⟩
 .rw[ç Ì o]at q;let⟨y,z,f⟩:=h.vS q;exact⟨y,z,λc g=>⟨(f c g).1,(r.I c (f c g).1).trans (f c g).2⟩⟩
 .rw[ç Ì p]at q;exact(r.N _<|by rw[h.r.C];exact Ã e.1).trans<|h.I q
 .rw[ç Ì s]at q;exact(r.N _<|by rw[h.r.C];exact Ã e.2).trans<|h.N q
section
variable{J:Jd}{jk:fh}{ga gb an pl:Nat}{s6:Ï}{Q:Ï->ByteArray->fh->Prop}
def aiY(S:gF jk)(hq:¬jk.q)(ht:d.size=37)(BH:d[1]?=Â (Æ (Â ⟨an,0,Á⟩) i i))(Rq:d[5]?=Â (À<|Â ⟨n,0,Á⟩))(hO:jk.O n) (X:jk.w.cell? ⟨n,0,Á⟩=Â v) (Y:jk.w.cell? ⟨n,1,Á⟩=Â (Ê Î pl)) (c2:jk.w.cell? ⟨n,2,Á⟩=Â (À<|Â ⟨ga,0,Á⟩)) (c3:jk.w.cell? ⟨n,3,Á⟩=Â (À<|Â ⟨gb,0,Á⟩)) (uG:jk.N ⟨ga,2,Á⟩) (p8:jk.w.cell? ⟨ga,2,Á⟩=Â s6) (F:jk.r ⟨gb,2,Á⟩) (H:jk.r ⟨an,pl,Á⟩) (e1:(jk.w.cell? ⟨gb,2,Á⟩).isSome=Ò) (e2:(jk.w.cell? ⟨an,pl,Á⟩).isSome=Ò) (z1:jk.w.frozen? ⟨gb,2,Á⟩=Ì) (z2:jk.w.frozen? ⟨an,pl,Á⟩=Ì) (rI:pl<i) (hN:i<1000000) (lM:(⟨gb,2,Á⟩:â)≠⟨an,pl,Á⟩) (uj:∀l,iG (λa=>a=⟨gb,2,Á⟩\/a=⟨an,pl,Á⟩) jk l->∀I lX,fq Ä Ì (λl' g'=>l'.d=l.d/\∃p g c str,g'=G (I.finish<|ñ #[Æ p g c,à str]) lX/\Q (Æ p g c) str l') (mB l)<|G (Ă Ä 50 #[s6,v] Ğ)<|I::lX) (md:ý) (listed:Array Bool) (a:ŏ) (l:fh) (k:Nat) (rest:List Nat) (hI:II zw d (mZ n ga gb an i pl v s6) (Eg jk ga gb an pl s6 Q) listed a l) (D:k∈Û md zw listed): fq Ä Ì (λl' g'=>∃u,g'=G ((base 32).at u<|Ñ zw rest::L) qX/\II zw d (mZ n ga gb an i pl v s6) (Eg jk ga gb an pl s6 Q) (listed.setIfInBounds k Ò) u l') l (G ((base 32).at a<|Ñ zw (k::rest)::L) qX):=by
 let⟨x,s,B⟩:=hI;have K:qO zw d.size=Ò:=by rw[ht];decide
 have V:=Ro D;have gP:=zv D;have M:=B.r.fA;have N:¬l.q:=by rwa[B.r.q]
 have W:∀y:â,(y=⟨gb,2,Á⟩\/y=⟨an,pl,Á⟩)->jk.r y:=λy ha=>by rcases ha with rfl|rfl;exact F;exact H
 have nG:a.tmps[1]?=Â (Æ (Â ⟨an,0,Á⟩) i i):=(s.C A).trans BH;have uH:a.tmps[5]?=Â (À<|Â ⟨n,0,Á⟩):=(s.C A).trans Rq;have I:∀j m,jk.w.cell? ⟨n,j,Á⟩=Â m->ia l ⟨n,j,Á⟩/\l.w.cell? ⟨n,j,Á⟩=Â m:=λj m h=>⟨Ã<|Ã<|B.r.O n hO,by rwa[gQ<|B.r.r n<|Ã hO]⟩;have Rr:¬((⟨ga,2,Á⟩:â)=⟨gb,2,Á⟩\/(⟨ga,2,Á⟩:â)=⟨an,pl,Á⟩):=λq=>by
  rcases q with q|q
  .exact S.Y _ F<|q▸uG
  .exact S.Y _ H<|q▸uG
 have G3:ia l ⟨ga,2,Á⟩/\l.w.cell? ⟨ga,2,Á⟩=Â s6:=⟨Ç (Ç<|by rwa[B.r.c]),by rwa[B.r.e _ (Ç uG) Rr]⟩;have Rs:(pl:Int)<(i:Int):=Z
 have kh:zw.size=21:=A
 rw[kh]at gP;match k,gP with
 |0,_=>
  refine iy (o:=GY) K s U U D (by k_ne) M N (λt r=> ?_) (λt r e E=> ?_)<|B.C A A A ⟨F,H⟩
  .simp only[mZ,GY];go_simp
  .simp[go_sem,GY,uH]at E
 |1,_=>
  have u:a.tmps[13]?=Â (À<|Â ⟨n,3,Á⟩):=s.r 0 GY 13 U (ik (o:=D7) D U U) U;refine iy (o:=D7) K s U U D (by k_ne) M N (λt r=> ?_) (λt r e E=> ?_)<|B.C A A A ⟨F,H⟩
  .have J:t.cell? ⟨n,3,Á⟩=Â (À<|Â ⟨gb,0,Á⟩):=((I 3 _ c3).1.r r).trans (I 3 _ c3).2;simp only[mZ,D7];go_simp
  .have J:t.cell? ⟨n,3,Á⟩=Â (À<|Â ⟨gb,0,Á⟩):=((I 3 _ c3).1.r r).trans (I 3 _ c3).2;have b:e=⟨û ⟨n,3,Á⟩,Ì,Ì⟩:=by simp[go_sem,D7,J,u]at E;exact E
   subst b;exact(I 3 _ c3).1.C
 |2,_=>
  refine iy (o:=GZ) K s U U D (by k_ne) M N (λt r=> ?_) (λt r e E=> ?_)<|B.C A A A ⟨F,H⟩
  .simp only[mZ,GZ];go_simp
  .simp[go_sem,GZ,nG]at E
 |3,_=>
  refine iy (o:=G0) K s U U D (by k_ne) M N (λt r=> ?_) (λt r e E=> ?_)<|B.C A A A ⟨F,H⟩
  .simp only[mZ,G0];go_simp
  .simp[go_sem,G0,uH]at E
 |4,_=>
  have u:a.tmps[16]?=Â (À<|Â ⟨n,1,Á⟩):=s.r 3 G0 16 U (ik (o:=D8) D U U) U;refine iy (o:=D8) K s U U D (by k_ne) M N (λt r=> ?_) (λt r e E=> ?_)<|B.C A A A ⟨F,H⟩
  .have J:t.cell? ⟨n,1,Á⟩=Â (Ê Î pl):=((I 1 _ Y).1.r r).trans (I 1 _ Y).2;simp only[mZ,D8];go_simp
  .have J:t.cell? ⟨n,1,Á⟩=Â (Ê Î pl):=((I 1 _ Y).1.r r).trans (I 1 _ Y).2;have b:e=⟨û ⟨n,1,Á⟩,Ì,Ì⟩:=by simp[go_sem,D8,J,u]at E;exact E
   subst b;exact(I 1 _ Y).1.C
 |5,_=>
  refine iy (o:=G1) K s U U D (by k_ne) M N (λt r=> ?_) (λt r e E=> ?_)<|B.C A A A ⟨F,H⟩
  .simp only[mZ,G1];go_simp
  .simp[go_sem,G1,uH]at E
 |6,_=>
  have u:a.tmps[18]?=Â (À<|Â ⟨n,2,Á⟩):=s.r 5 G1 18 U (ik (o:=D9) D U U) U;refine iy (o:=D9) K s U U D (by k_ne) M N (λt r=> ?_) (λt r e E=> ?_)<|B.C A A A ⟨F,H⟩
  .have J:t.cell? ⟨n,2,Á⟩=Â (À<|Â ⟨ga,0,Á⟩):=((I 2 _ c2).1.r r).trans (I 2 _ c2).2;simp only[mZ,D9];go_simp
  .have J:t.cell? ⟨n,2,Á⟩=Â (À<|Â ⟨ga,0,Á⟩):=((I 2 _ c2).1.r r).trans (I 2 _ c2).2;have b:e=⟨û ⟨n,2,Á⟩,Ì,Ì⟩:=by simp[go_sem,D9,J,u]at E;exact E
   subst b;exact(I 2 _ c2).1.C
 |7,_=>
  have u:a.tmps[19]?=Â (À<|Â ⟨ga,0,Á⟩):=s.r 6 D9 19 U (ik (o:=Ea) D U U) U;refine iy (o:=Ea) K s U U D (by k_ne) M N (λt r=> ?_) (λt r e E=> ?_)<|B.C A A A ⟨F,H⟩
  .simp only[mZ,Ea];go_simp
  .simp[go_sem,Ea,u]at E
 |8,_=>
  have u:a.tmps[20]?=Â (À<|Â ⟨ga,0,Á⟩):=s.r 7 Ea 20 U (ik (o:=Eb) D U U) U;refine iy (o:=Eb) K s U U D (by k_ne) M N (λt r=> ?_) (λt r e E=> ?_)<|B.C A A A ⟨F,H⟩
  .simp only[mZ,Eb];go_simp
  .simp[go_sem,Eb,u]at E
 |9,_=>
  have u:a.tmps[21]?=Â (À<|Â ⟨ga,2,Á⟩):=s.r 8 Eb 21 U (ik (o:=Ec) D U U) U;refine iy (o:=Ec) K s U U D (by k_ne) M N (λt r=> ?_) (λt r e E=> ?_)<|B.C A A A ⟨F,H⟩
  .have J:t.cell? ⟨ga,2,Á⟩=Â (s6):=(G3.1.r r).trans G3.2;simp only[mZ,Ec];go_simp
  .have J:t.cell? ⟨ga,2,Á⟩=Â (s6):=(G3.1.r r).trans G3.2;have b:e=⟨û ⟨ga,2,Á⟩,Ì,Ì⟩:=by simp[go_sem,Ec,J,u]at E;exact E
   subst b;exact G3.1.C
 |10,_=>
  refine iy (o:=G2) K s U U D (by k_ne) M N (λt r=> ?_) (λt r e E=> ?_)<|B.C A A A ⟨F,H⟩
  .simp only[mZ,G2];go_simp
  .simp[go_sem,G2,uH]at E
 |11,_=>
  have u:a.tmps[23]?=Â (À<|Â ⟨n,0,Á⟩):=s.r 10 G2 23 U (ik (o:=Ed) D U U) U;refine iy (o:=Ed) K s U U D (by k_ne) M N (λt r=> ?_) (λt r e E=> ?_)<|B.C A A A ⟨F,H⟩
  .have J:t.cell? ⟨n,0,Á⟩=Â (v):=((I 0 _ X).1.r r).trans (I 0 _ X).2;simp only[mZ,Ed];go_simp
  .have J:t.cell? ⟨n,0,Á⟩=Â (v):=((I 0 _ X).1.r r).trans (I 0 _ X).2;have b:e=⟨û ⟨n,0,Á⟩,Ì,Ì⟩:=by simp[go_sem,Ed,J,u]at E;exact E
   subst b;exact(I 0 _ X).1.C
 |12,_=>
  have G4:a.tmps[22]?=Â (s6):=s.r 9 Ec 22 U (ik (o:=Bz) D U U) U;have KS:a.tmps[24]?=Â (v):=s.r 11 Ed 24 U (ik (o:=Bz) D U U) U;refine Y9 (o:=Bz) K s U U D (by k_ne) M (f:=50) (args:=#[s6,v]) (λw=>by simp only[Bz];go_simp) (λw=>ł (o:=Bz) U Tryz.func50 U U #[]) λt r=> ?_;have T:=B.r.N W r;refine((uj _ T _ _).mB<|T.G S).fT ?_;rintro l' g' ⟨y,⟨hy0,p,g,c,str,rfl,hQ⟩,rfl,hA,Zc,aiZ,ai0⟩;refine⟨((p,g,c),str),U,⟨T.GX W hA hy0,λ_=>⟨y,hQ,λb P=>⟨?_,U⟩⟩,λq=> ?_,λq=> ?_⟩,λj u=> ?_⟩
  .rcases P with q|q
   .exact Ã<|Ã q
   .rw[Zc]at q;exact q.elim (λz=>Ã<|Ç z) Ç
  .rw[ç Ì A]at q;exact absurd (s.I (o:=BD) U q U)<|vP V
  .rw[ç Ì A]at q;exact absurd (s.I (o:=BG) U q U)<|vP V
  .match j,u with
   |12,u=>exact absurd u<|vP V
   |13,u=>exact absurd (s.I (o:=vR) U u U)<|vP V
   |14,u=>exact absurd (s.I (o:=vR) U (s.I (j:=13) (o:=BA) U u U) U)<|vP V
   |15,u=>exact absurd (s.I (o:=vR) U (s.I (j:=13) (o:=BB) U u U) U)<|vP V
   |0,_|1,_|2,_|3,_|4,_|5,_|6,_|7,_|8,_|9,_|10,_|11,_|16,_|17,_|18,_|19,_|20,_|g+21,_=>rfl
 |13,_=>
  have u:a.tmps[25]?=Â (ñ #[Æ x.1.1 x.1.2.1 x.1.2.2,à x.2]):=s.r 12 Bz 25 U (ik (o:=vR) D U U) U;refine iy (o:=vR) K s U U D (by k_ne) M N (λt r=> ?_) (λt r e E=> ?_)<|B.C A A A ⟨F,H⟩
  .simp only[mZ,vR];go_simp
  .simp[go_sem,vR,u]at E
 |14,_=>
  have u:a.tmps[12]?=Â (ñ #[Æ x.1.1 x.1.2.1 x.1.2.2,à x.2]):=s.r 13 vR 12 U (ik (o:=BA) D U U) U;refine iy (o:=BA) K s U U D (by k_ne) M N (λt r=> ?_) (λt r e E=> ?_)<|B.C A A A ⟨F,H⟩
  .simp only[mZ,BA];go_simp
  .simp[go_sem,BA,u]at E
 |15,_=>
  have u:a.tmps[12]?=Â (ñ #[Æ x.1.1 x.1.2.1 x.1.2.2,à x.2]):=s.r 13 vR 12 U (ik (o:=BB) D U U) U;refine iy (o:=BB) K s U U D (by k_ne) M N (λt r=> ?_) (λt r e E=> ?_)<|B.C A A A ⟨F,H⟩
  .simp only[mZ,BB];go_simp
  .simp[go_sem,BB,u]at E
 |16,_=>
  have u:a.tmps[14]?=Â (À<|Â ⟨gb,0,Á⟩):=s.r 1 D7 14 U (ik (o:=Ee) D U U) U;refine iy (o:=Ee) K s U U D (by k_ne) M N (λt r=> ?_) (λt r e E=> ?_)<|B.C A A A ⟨F,H⟩
  .simp only[mZ,Ee];go_simp
  .simp[go_sem,Ee,u]at E
 |17,_=>
  have u:a.tmps[28]?=Â (À<|Â ⟨gb,0,Á⟩):=s.r 16 Ee 28 U (ik (o:=Ef) D U U) U;refine iy (o:=Ef) K s U U D (by k_ne) M N (λt r=> ?_) (λt r e E=> ?_)<|B.C A A A ⟨F,H⟩
  .simp only[mZ,Ef];go_simp
  .simp[go_sem,Ef,u]at E
 |18,_=>
  have h29:a.tmps[29]?=Â (À<|Â ⟨gb,2,Á⟩):=s.r 17 Ef 29 U (ik (o:=BD) D U U) U;have h26:a.tmps[26]?=Â (Æ x.1.1 x.1.2.1 x.1.2.2):=s.r 14 BA 26 U (ik (o:=BD) D U U) U;have T:(l.w.cell? ⟨gb,2,Á⟩).isSome=Ò:=B.r.g _ (Ã U) e1;have BJ:l.w.frozen? ⟨gb,2,Á⟩=Ì:=(B.r.S _<|Ã F).trans z1;have lQ:qj l ⟨gb,2,Á⟩:=Ç (by rwa[B.r.I]);refine Rp (o:=BD) (y:=⟨gb,2,Á⟩) (v:=Æ x.1.1 x.1.2.1 x.1.2.2) K s U U U D (by k_ne) M N U lQ T BJ (λw J hz=> ?_) (λw J hz=> ?_) λt r=> ?_
  .let⟨u,hu⟩:=Ô.1 J;simp only[BD];go_simp
  .let⟨u,hu⟩:=Ô.1 J;simp[go_sem,BD,h29,h26,á _ _ _ _ _ _ (show Ø (Æ x.1.1 x.1.2.1 x.1.2.2)=Ò from rfl),hu,hz]
  .have hA:=B.r.qE S W (x:=⟨gb,2,Á⟩) (v:=Æ x.1.1 x.1.2.1 x.1.2.2) (Ã U) U T;refine⟨hA.N W ⟨r.r,r.I,r.N,r.Y,r.S⟩,λq=> ?_,λq=> ?_,λq=> ?_⟩
   .rw[ç Ì A]at q;let⟨y,y1,z⟩:=B.vS q;refine⟨y,y1,λb P=>⟨(z b P).1,?_⟩⟩;have Rt:b≠(⟨gb,2,Á⟩:â).block:=λe=>(B.r.G S).N ⟨gb,2,Á⟩ (by rw[B.r.C];exact Ã F)<|e▸(z b P).1;exact(r.I b (z b P).1).trans<|(lD Rt).trans (z b P).2
   .exact(r.N _ (by rw[B.r.C];first|exact Ã F|exact Ã H)).trans<|A2 (Ô.1 T).choose_spec
   .rw[ç Ì A]at q;exact(r.N ⟨an,pl,Á⟩<|by rw[B.r.C];exact Ã H).trans<|(By U λe=>lM e.symm).trans<|B.N q
 |19,_=>
  have Ru:a.tmps[15]?=Â (Æ (Â ⟨an,0,Á⟩) i i):=s.r 2 GZ 15 U (ik (o:=BF) D U U) U;have Rv:a.tmps[17]?=Â (Ê Î pl):=s.r 4 D8 17 U (ik (o:=BF) D U U) U;refine iy (o:=BF) K s U U D (by k_ne) M N (λt r=> ?_) (λt r e E=> ?_)<|B.C A A A ⟨F,H⟩
  .simp only[mZ,BF];go_simp
  .simp[go_sem,BF,rI,Rs,Ru,Rv]at E
 |20,_=>
  have E:a.tmps[30]?=Â (À<|Â ⟨an,pl,Á⟩):=s.r 19 BF 30 U (ik (o:=BG) D U U) U;have h27:a.tmps[27]?=Â (à x.2):=s.r 15 BB 27 U (ik (o:=BG) D U U) U;have T:(l.w.cell? ⟨an,pl,Á⟩).isSome=Ò:=B.r.g _ (Ç U) e2;have BJ:l.w.frozen? ⟨an,pl,Á⟩=Ì:=(B.r.S _<|Ã H).trans z2;have lQ:qj l ⟨an,pl,Á⟩:=Ç (by rwa[B.r.I]);refine Rp (o:=BG) (y:=⟨an,pl,Á⟩) (v:=à x.2) K s U U U D (by k_ne) M N U lQ T BJ (λw J hz=> ?_) (λw J hz=> ?_) λt r=> ?_
  .let⟨u,hu⟩:=Ô.1 J;simp only[BG];go_simp
  .let⟨u,hu⟩:=Ô.1 J;simp[go_sem,BG,E,h27,á _ _ _ _ _ _ (show Ø (à x.2)=Ò from rfl),hu,hz]
  .have hA:=B.r.qE S W (x:=⟨an,pl,Á⟩) (v:=à x.2) (Ç U) U T;refine⟨hA.N W ⟨r.r,r.I,r.N,r.Y,r.S⟩,λq=> ?_,λq=> ?_,λq=> ?_⟩
   .rw[ç Ì A]at q;let⟨y,y1,z⟩:=B.vS q;refine⟨y,y1,λb P=>⟨(z b P).1,?_⟩⟩;have Rt:b≠(⟨an,pl,Á⟩:â).block:=λe=>(B.r.G S).N ⟨an,pl,Á⟩ (by rw[B.r.C];exact Ã H)<|e▸(z b P).1;exact(r.I b (z b P).1).trans<|(lD Rt).trans (z b P).2
   .rw[ç Ì A]at q;exact(r.N ⟨gb,2,Á⟩<|by rw[B.r.C];exact Ã F).trans<|(By U<|lM).trans<|B.I q
   .exact(r.N _ (by rw[B.r.C];first|exact Ã F|exact Ã H)).trans<|A2 (Ô.1 T).choose_spec
 |g+21,h=>exact absurd h Z
end
section
variable{E:â->Prop}{l c g:fh}
def iG.fj(h:iG E l c)(k:iG E c g):iG E l g:=by have f:=h.C;exact⟨λj e=>k.O j<|h.O j e,λj e=>(k.h j e).elim (h.h j) λq=>Ç<|Õ h.f q,k.Y.trans h.Y,k.I.trans h.I,k.c.trans h.c,k.K.trans h.K,k.q.trans h.q,k.d.trans h.d,k.fA,Õ h.f k.f,λj e=>(k.r j<|h.M e).trans<|h.r j e,λa b i=>(k.e a (by rwa[f]) i).trans<|h.e a b i,λa b=>(k.S a<|by rwa[f]).trans<|h.S a b,λa b q=>k.b a (by rwa[h.K])<|h.b a b q,λa b q=>k.g a b<|h.g a b q⟩
end
def gS(l:fh)(w₁:ß)(o:Ÿ):fh:={l with O:=λb=>l.O b\/b=w₁.heap.size,w:=w₁.alloc o}
theorem zx{o:Ÿ}(h:j<w.heap.size):(w.alloc o).heap[j]?=w.heap[j]?:=by unfold ň;grind
theorem n7{o:Ÿ}:(w.alloc o).heap[w.heap.size]?=Â o:=by unfold ň;simp
def KT{o:Ÿ}:(w.alloc o).heap.size=w.heap.size+1:=by unfold ň;simp
section
variable{J:Jd}{l:fh}{a:ŏ}{k:List ŷ}{cs:List é}{ob:Ÿ}{E:â->Prop}
def Zd(b:∀j,l.O j->j<w.heap.size)(c:¬l.q):mL l (gS l w ob) w (w.alloc ob) #[]:= ⟨by rw[KT];omega,λj h=>h.imp id λe=>by omega,λj h=>by rw[KT];exact h.elim (λq=>ĸ<|b j q) λe=>by omega,U,U,U,U,λj d _ _=>zx d,λx a _ _=>gQ<|zx a,λx a _=>xg<|zx a,U,U,U,λe f=>by simp at f,by simp[į,gS],U,λq=>absurd q c,U⟩
def G5(c:Q[i]?=Â o)(d:Ė o (ţ Q a.tmps)=Ò)(e:f.kind≠Ź)(g:j0 l)(h:¬l.q) (j:∀w,(ĉ a.eval o).run P w=.ok (.value<|À<|Â ⟨w.heap.size,0,Á⟩) (w.alloc ob)) (m:∀w,(ĉ a.eval o).events P w #[]=#[]) (n:∀b,fL l l.w b->fq P yQ J (gS l b ob) (G (f.at (a.put o.dst<|À<|Â ⟨b.heap.size,0,Á⟩)<|Ñ Q jJ::k) cs)):fq P yQ J l (G (f.at a<|Ñ Q (i::jJ)::k) cs):=by
 refine vM c d e λb r=> ?_;rw[j b];refine⟨_,?_,n b r⟩;have:listed P f.fn a o b=#[]:=by unfold listed;rw[m b,Ī]
 rw[this];exact Zd (my g r) h
def KU(s:gF l)(d:∀a,E a->l.r a)(r:fL l l.w u):iG E l (gS l u ob):=by
 have c:=r.r;refine⟨λj h=>Ã h,λj h=>h.imp id λe=>by omega,U,U,U,U,U,U,λj h=> ?_,?_,λj f=>(zx<|È (s.fA j f) c).trans<|r.I j f,λx b _=>(gQ<|zx<|È (s.I x b) c).trans<|r.N x b,λx b=>(xh<|zx<|È (s.I x b) c).trans<|r.Y x b,λx b q=> ?_,λx b q=> ?_⟩
 .show j<(u.alloc ob).heap.size;rw[KT];exact h.elim (λq=>ĸ<|È (s.fA j<|Ã q) c) λe=>by omega
 .show l.w.heap.size<=(u.alloc ob).heap.size;rw[KT];omega
 .show((u.alloc ob).cell? x).isSome=Ò;rw[gQ<|zx<|È (s.S x b).2.1 c];exact r.S x b q
 .show((u.alloc ob).cell? x).isSome=Ò;rwa[gQ<|zx<|È (s.I x<|Ã<|d x b) c,r.N x<|Ã<|d x b]
def KV{w':ß}{p:Nat}(g:∀j,l.O j->j<w.heap.size)(i:¬l.q)(b:l.O p)(k:w'.heap.size=w.heap.size)(c:∀j,j≠p->w'.heap[j]?=w.heap[j]?)(d:w'.os=w.os/\w'.output=w.output/\w'.tape=w.tape)(f:∀e∈V,vN l e):mL l {l with w:=w'} w w' V:=by refine⟨Z,λ_ h=>Ã h,λj h=>by rw[k];exact g j h,U,U,U,U,λj _ a _=>c j λe=>a<|e▸b,λx _ a _=>gQ (c _ λe=>a<|e▸b),λx _ a=>xg (c _ λe=>a<|e▸b),d.1,d.2.1,d.2.2,λe h=>(f e h).1,(KM f _).symm,U,λq=>absurd q i,U⟩
end
def iZ(w:ß)(p:Nat)(v0 v1 v2 v3:Ï):ß:=(((w.setCell ⟨p,0,Á⟩ v0).setCell ⟨p,1,Á⟩ v1).setCell ⟨p,2,Á⟩ v2).setCell ⟨p,3,Á⟩ v3
section
variable{p:Nat}{v0 v1 v2 v3:Ï}
def xx:(iZ w p v0 v1 v2 v3).heap.size=w.heap.size:=by unfold iZ;rw[j4,j4,j4,j4]
def zy(h:j≠p):(iZ w p v0 v1 v2 v3).heap[j]?=w.heap[j]?:=by unfold iZ;rw[lD h,lD h,lD h,lD h]
theorem Rw(b:w.cell? ⟨p,0,Á⟩=Â v)(c:w.cell? ⟨p,1,Á⟩=Â x)(d:w.cell? ⟨p,2,Á⟩=Â z)(e:w.cell? ⟨p,3,Á⟩=Â jQ): (iZ w p v0 v1 v2 v3).cell? ⟨p,0,Á⟩=Â v0/\(iZ w p v0 v1 v2 v3).cell? ⟨p,1,Á⟩=Â v1/\(iZ w p v0 v1 v2 v3).cell? ⟨p,2,Á⟩=Â v2/\(iZ w p v0 v1 v2 v3).cell? ⟨p,3,Á⟩=Â v3:=by have f:∀(w:ß) (i j:Nat) (a:Ï),i≠j->(w.setCell ⟨p,i,Á⟩ a).cell? ⟨p,j,Á⟩=w.cell? ⟨p,j,Á⟩:=λw i j a h=>yV<|Ç h;unfold iZ;grind [A2]
def Rx{E:â->Prop}{l e:fh}(s:gF l)(f:∀a,E a->l.r a)(h:iG E l e){w':ß}(r:fL e e.w u)(k:l.w.heap.size<=p)(g:w'.heap.size=u.heap.size)(i:∀j,j≠p->w'.heap[j]?=u.heap[j]?):iG E l {e with w:=w'}:=by
 have b:=h.N f r;have c:∀{j:Nat},j<l.w.heap.size->w'.heap[j]?=u.heap[j]?:=λ{j} q=>i j Z;refine⟨b.O,b.h,b.Y,b.I,b.c,b.K,b.q,b.d,λj q=> ?_,?_,λj q=>(c<|s.fA j q).trans<|b.r j q,λa q n=>(gQ<|c<|s.I a q).trans<|b.e a q n,λa q=>(xh<|c<|s.I a q).trans<|b.S a q,λa q z=> ?_,λa q z=> ?_⟩
 .show j<w'.heap.size;rw[g];exact b.fA j q
 .show l.w.heap.size<=w'.heap.size;rw[g];exact b.f
 .show(w'.cell? a).isSome=Ò;rw[gQ<|c (s.S a q).2.1];exact b.b a q z
 .show(w'.cell? a).isSome=Ò;rw[gQ<|c<|s.I a<|Ã<|f a q];exact b.g a q z
end
def uI(t:Array Ï)(h:t.size=n):∃u:Nat->Ï,t=((ã n).map u).toArray:=by subst h;refine⟨λi=>t.getD i Å,Array.ext ft λi a _=> ?_⟩;simp_all
def Ry(t:Array Ï)(h:t.size=37):∃a b c d e f g i j k l m n o p q r s u v w x y z B C D E F G H I J K L M N:Ï,t=#[a,b,c,d,e,f,g,i,j,k,l,m,n,o,p,q,r,s,u,v,w,x,y,z,B,C,D,E,F,G,H,I,J,K,L,M,N]:=by obtain⟨_,rfl⟩:=uI t h;exact⟨_,_,_,_,_,_,_,_,_,_,_,_,_,_,_,_,_,_,_,_,_,_,_,_,_,_,_,_,_,_,_,_,_,_,_,_,_,U⟩
end Go.Proofs.Y.fB
namespace Go.Proofs.Y.fB
open Go Go.Conc Go.Proofs.Y.Lift Go.RowKit Go.Conc.Lib Go.ConcR.Gen
section
variable{Ψ:ß->Prop}{L:WgLink}{l:fh}{e:Jd}{k:List ŷ}
def Rz(Ψ:ß->Prop)(l:fh)(b:Nat)(w:ß):Prop:=SW Ψ l b w/\fL l l.w w
def pG(a:mA Ψ l b)(h:Rz Ψ l b w)(r:fL l w u):Rz Ψ l b u:=⟨fN h.1<|a.r r,h.2.fj r⟩
def ai1{J:Jd}(a:SW Ψ l b l.w)(c:Goes P yQ (fL l) Go.ConcR.DC0 (λd e=>fq P yQ J {l with w:=e} d) n g l.w):fq P yQ J l g:= PZ c (λ_ _ r=>r) a.1 λ_ _ _ h=>h
def ai2(H:WgLib P L)(τ:fh->fh)(Φ:fh->Prop)(c:mA Ψ l b)(z:SW Ψ l b l.w) (N:∀a,fL l l.w a->Φ {l with w:=a}/\(τ {l with w:=a}).d=0/\∃q:ß->Prop,mA q (τ {l with w:=a}) b/\SW q (τ {l with w:=a}) b (τ {l with w:=a}).w/\ ∀j,SW q (τ {l with w:=a}) b j->fq P Ì e {τ {l with w:=a}with d:=0,w:=j} (G (f.at (y.put ((Q[i]?).bind (·.dst))<|ñ #[])<|Ñ Q jJ::k) qX)): fq P Ì (λl g=>Φ l/\yY P Ì b (fq P Ì e) (τ l) g) l (G ((base L.done).at ⟨#[À<|Â ⟨b,0,Á⟩,Å,Å,Å],[]⟩ [ö<|body_done L])<|f.at y (Ñ Q (i::jJ)::k)::qX):=by
 lib_facts;simp only[body_done,doneFn,Ń];have hF:Rz Ψ l b l.w:=⟨z,fL.gd _ _⟩;apply ai1 z (n:=40);u_reg (pG c) hF;u_op (pG c) hF;u_call H.f_add (nm_add L) addFn (pG c) hF;u_c Ŝ (pG c) hF;u_cond Ò (pG c) hF;u_c Ŝ (pG c) hF;u_c Ŝ (pG c) hF;u_reg (pG c) hF;u_op (pG c) hF;u_op (pG c) hF;u_c stepG_region_end (pG c) hF;u_cond Ò (pG c) hF;u_reg (pG c) hF;u_op (pG c) hF;u_conv H.underlying_tWgP H.room_tWg (nF.r hF.1.2.1).choose_spec (pG c) hF;refine Ë λa g=> ?_;replace hF:=pG c hF g;clear g;refine .fE λj r=> ?_;let⟨O,B,q,h,C,D⟩:=N j<|hF.2.fj<|zq r;refine⟨O,B,U,_,λ_=>stepG_markAt .releaseMerge ft U U (by k_ne) U H.f_relMerge (x_relMerge_n L) (x_relMerge_b L) (x_relMerge_x L) (x_relMerge_f L) (by simp[ĥ,fS]),?_⟩;walk_nrm;show fq P Ì (OV P Ì b<|fq P Ì e) (τ {l with w:=j}) _;clear O r;generalize τ {l with w:=j}=l2 at h C B D|-;replace hF:=C;clear C c z N;apply jM h hF (n:=10);iterate 3 w_go fN
 refine Ë λa g=> ?_;replace hF:=fN hF g;clear g;refine vL (l:={l2 with w:=a}) h hF (Ã U) U (λ_=>stepG_mark0 .disable ft U U (by k_ne) U H.f_disable (x_disable_n L) (x_disable_b L) (x_disable_x L)<|x_disable_f L) λE hF=> ?_;walk_nrm;have W:į l2.d #[jZ .disable]=1:=by rw[B];rfl
 rw[W];apply jM (l:={l2 with d:=1,w:=E}) h hF (n:=50);iterate 2 w_go fN
 u_defer fN hF
 iterate 8 w_go fN
 u_bub fN hF
 iterate 11 w_go fN
 u_call H.f_uAdd (nm_uAdd L) uAddFn fN hF
 iterate 10 w_go fN
 refine Ë λa g=> ?_;replace hF:=fN hF g;clear g;refine nZ (l:={l2 with d:=1,w:=a}) h hF λj hF=>⟨U,U,λv=>⟨_,λa p F=>(stepG_add_atomic U U (by k_ne) U H.f_addU64 (x_addU64_n L) (x_addU64_b L) (x_addU64_x L) ê (x_addU64_f L) U U p F).trans gh,?_⟩⟩;walk_nrm;have S:ê.wrap (v+18446744069414584320)=ê.wrap (v+qL):=rfl;rw[S];clear S;obtain⟨s,I⟩:∃s,ê.wrap (v+qL)=s:=⟨_,U⟩;simp only[I];have J:0<=s:=by rw[<-I];have:ê.wrap (v+qL)=(v+qL)%18446744073709551616:=rfl;rw[this];omega
 clear I v;by_cases o:s=0\/(gk<=s/\s<1000000*gk/\s%gk<1000000)
 .rw[if_pos o];by_cases m:s=0;focus
   subst m;clear o J
  rotate_left;focus
   have X:=o.resolve_left m;clear o m J;let⟨Y,c5,c6⟩:=X;have q4:(4294967296:Int)<=s:=Y;have K:s<1000000*4294967296:=c5;have T:s%4294967296<1000000:=c6;have f1:=D2 s Z K T;have t:=D3 s Z K T;obtain⟨u,g1⟩:∃u,(s/4294967296+2147483648)%4294967296-2147483648=u:=⟨_,U⟩;have g2:¬u<0:=Z
   have g3:0<u:=Z
   by_cases M:s%4294967296=0;focus rw[M]at t
   rotate_left;focus
    obtain⟨x,g4⟩:∃x,s%4294967296=x:=⟨_,U⟩;rw[g4]at t M;have V:x%4294967296=x:=Z
    have g6:(x !=0)=Ò:=by simpa using M
  all_goals
   apply jM (l:={l2 with d:=1,w:=j}) h hF (n:=150);iterate 3 w_go fN
   u_leave1 H.f_uAdd fN hF
   iterate 83 w_go fN
   refine Ë λa g=> ?_;replace hF:=fN hF g;clear g;refine vL (l:={l2 with d:=1,w:=a}) h hF (Ç U) U (λw=>KF .enable ft U H.f_enable (x_enable_n L) (x_enable_b L) (x_enable_x L) (x_enable_f L) w) λE hF=> ?_;have u:į 1 #[jZ .enable]=0:=rfl;rw[u];apply jM (l:={l2 with d:=0,w:=E}) h hF (n:=10);u_leave0 H.f_add fN hF;iterate 2 w_go fN
   u_leave0 H.f_done fN hF
   refine Ë λa g=> ?_;replace hF:=fN hF g;clear g;exact D _ hF
 .rw[if_neg o];by_cases m:0<s/\s<1000000
  .rw[if_pos m];let⟨q4,K⟩:=m;clear o J;have f1:=D2 s Z Z Z;have t:=D3 s Z Z Z;have g1:(s/4294967296+2147483648)%4294967296-2147483648=0:=Z
   have V:s%4294967296=s:=Z
   rw[V]at t;have g6:(s !=0)=Ò:=by simp;omega
   have X:(s==0)=Ì:=by simp;omega
   have M:(s.toNat:Int)=s:=Z
   apply jM (l:={l2 with d:=1,w:=j}) h hF (n:=150);iterate 3 w_go fN
   u_leave1 H.f_uAdd fN hF
   iterate 89 w_go fN
   u_call H.f_uLoad (nm_uLoad L) uLoadFn fN hF
   iterate 9 w_go fN
   refine Ë λa g=> ?_;replace hF:=fN hF g;clear g;refine nZ (l:={l2 with d:=1,w:=a}) h hF λj hF=>⟨U,U,λv=>⟨_,λa p=>stepG_load_atomic U U (by k_ne) U H.f_loadU64 (x_loadU64_n L) (x_loadU64_b L) (x_loadU64_x L) ê (x_loadU64_f L) U p,?_⟩⟩;show fq P Ì (if v=(s.toNat:Int)then J8 P Ì b (fq P Ì e) s.toNat else λ_ _=>True) _ _;by_cases u:v=(s.toNat:Int)
   .rw[if_pos u];rw[M]at u;subst u;walk_nrm;have Y:(v !=v)=Ì:=ft
    apply jM (l:={l2 with d:=1,w:=j}) h hF (n:=150);iterate 3 w_go fN
    u_leave1 H.f_uLoad fN hF
    iterate 10 w_go fN
    u_call H.f_uStore (nm_uStore L) uStoreFn fN hF
    iterate 5 w_go fN
    refine Ë λa g=> ?_;replace hF:=fN hF g;clear g;refine nZ (l:={l2 with d:=1,w:=a}) h hF λj hF=>⟨U,U,_,λa x p F=>stepG_store_atomic U U (by k_ne) U H.f_storeU64 (x_storeU64_n L) (x_storeU64_b L) (x_storeU64_x L) (x_storeU64_f L) U U p F,?_⟩;walk_nrm;obtain⟨r,T⟩:∃r,v.toNat=r+1:=⟨v.toNat-1,Z⟩;rw[T];apply jM (l:={l2 with d:=1,w:=j}) h hF (n:=150);iterate 2 w_go fN
    u_leave0 H.f_uStore fN hF
    iterate 24 w_go fN
    refine Ë λa g=> ?_;replace hF:=fN hF g;clear g;apply aiB H h D r v<;>first|exact hF|omega
   .rw[if_neg u];exact .fE λ_ _=>trivial
  .rw[if_neg m];trivial
end
end Go.Proofs.Y.fB
namespace Go.Proofs.Y.fB
open Go Go.Conc Go.Proofs.Y.Lift Go.RowKit Go.Conc.Lib Go.ConcR.Gen
open Go.Proofs Go.Proofs.YtgpphkdoanciiabGreatDoor
noncomputable def KW:Ę:=lj Θ [1,0,0]
noncomputable def zz (t:Array Ï) (a:List é):Ý:=G ((base 32).at ⟨t,[]⟩ [ö KW,ą KW,ô 0]) a
structure BK(an N:Nat)(ib:Option â)(m c kk:Nat)(t:Array Ï):Prop where
 r:t.size=37
 t1:t[1]?=Â (Æ (Â ⟨an,0,Á⟩) N N)
 t6:t[6]?=Â (Æ ib m c)
 C:t[7]?=Â (Ê Î m)
 I:t[8]?=Â (Ê Î kk)
theorem BL{x:Int}(a:0<=x)(b:x<1000000):Î.wrap x=x:=by rw[Γ];omega
section
variable{f:Jd}{l:fh}{t:Array Ï}{an N ib c kk:Nat}{Q:Ï->ByteArray->fh->Prop}{τ:fh->fh}{Φ:fh->Prop}
def ai3(D:gF l)(V:¬l.q)(hd:l.d=0)(W:BK an N (Â ⟨ib,0,Á⟩) m c kk t)(hkk:kk<m)(hm:m<1000)(hN:N<1000000)(rI:j<N)(zC:l.M ib) (i0:l.w.cell? ⟨ib,kk*4,Á⟩=Â (À O)) (i1:l.w.cell? ⟨ib,kk*4+1,Á⟩=Â (Ê Î j)) (i2:l.w.cell? ⟨ib,kk*4+2,Á⟩=Â (À<|Â ⟨i,0,Á⟩)) (i3:l.w.cell? ⟨ib,kk*4+3,Á⟩=Â (À<|Â ⟨n,0,Á⟩)) (uG:l.N ⟨i,2,Á⟩) (p8:l.w.cell? ⟨i,2,Á⟩=Â v) (o1:l.r ⟨n,2,Á⟩) (o2:l.r ⟨an,j,Á⟩) (e1:(l.w.cell? ⟨n,2,Á⟩).isSome=Ò) (e2:(l.w.cell? ⟨an,j,Á⟩).isSome=Ò) (z1:l.w.frozen? ⟨n,2,Á⟩=Ì) (z2:l.w.frozen? ⟨an,j,Á⟩=Ì) (lM:(⟨n,2,Á⟩:â)≠⟨an,j,Á⟩) (uj:∀u,iG (λa=>a=⟨n,2,Á⟩\/a=⟨an,j,Á⟩) l u->∀cl lX,fq Ä Ì (λl'' g'=>l''.d=u.d/\∃p k c str,g'=G (cl.finish<|ñ #[Æ p k c,à str]) lX/\Q (Æ p k c) str l'') (mB u)<|G (Ă Ä 50 #[v,À O] Ğ)<|cl::lX) (AX:∀u (x:(Option Addr×Nat×Nat)×ByteArray),iG (λa=>a=⟨n,2,Á⟩\/a=⟨an,j,Á⟩) l u->(∃y,Q (Æ x.1.1 x.1.2.1 x.1.2.2) x.2 y/\(∀b,y.M b->u.M b/\u.w.heap[b]?=y.w.heap[b]?))->u.w.cell? ⟨n,2,Á⟩=Â (Æ x.1.1 x.1.2.1 x.1.2.2)->u.w.cell? ⟨an,j,Á⟩=Â (à x.2)-> mA (λ_=>True) u n/\SW (λ_=>True) u n u.w/\Φ u/\(τ u).d=0/\∃E:ß->Prop,mA E (τ u) n/\SW E (τ u) n (τ u).w/\∀s X,SW E (τ u) n s->BK an N (Â ⟨ib,0,Á⟩) m c (kk+1) X->fq Ä Ì f {τ u with d:=0,w:=s} (zz X qX)): fq Ä Ì (λl g=>Φ l/\yY Ä Ì n (fq Ä Ì f) (τ l) g) l (zz t qX):=by
 obtain⟨y0,y1,Y,y3,y4,y5,y6,y7,y8,y9,xy,zD,xA,rT,s7,qS,vT,vU,uJ,uK,uL,s8,s9,td,rM,sY,rN,pD,oy,qe,qf,qg,uu,sZ,s5,rO,rQ,rfl⟩:=Ry t W.r;obtain rfl:y1=Æ (Â ⟨an,0,Á⟩) N N:=by simpa using W.t1
 obtain rfl:y6=Æ (Â ⟨ib,0,Á⟩) m c:=by simpa using W.t6
 obtain rfl:y7=Ê Î m:=by simpa using W.C
 obtain rfl:y8=Ê Î kk:=by simpa using W.I
 have rU:∀y:â,(y=⟨n,2,Á⟩\/y=⟨an,j,Á⟩)->l.r y:=λy ha=>by rcases ha with rfl|rfl;exact o1;exact o2
 have au0:(kk:Int)<(m:Int):=Z
 simp only[zz];conv in KW=>whnf
 refine gl (n:=30) D.r ?_;have hF:True:=trivial;repeat w_go fF
 refine Ë λ_ _=> ?_;have B:∀g,ia l ⟨ib,g,Á⟩:=λg=>Ã zC;refine rS (v:=Đ #[À O,Ê Î j,À<|Â ⟨i,0,Á⟩,À<|Â ⟨n,0,Á⟩]) U U (by k_ne) D.r V (λo r=> ?_) (λo r e F=> ?_) ?_
 .have J:=((B<|kk*4).r r).trans i0;have K:=((B<|kk*4+1).r r).trans i1;have L:=((B<|kk*4+2).r r).trans i2;have P:=((B<|kk*4+3).r r).trans i3;go_simp
 .have J:=((B<|kk*4).r r).trans i0;have K:=((B<|kk*4+1).r r).trans i1;have L:=((B<|kk*4+2).r r).trans i2;have P:=((B<|kk*4+3).r r).trans i3;simp[go_sem,J,K,L,P]at F;rcases F with rfl|rfl|rfl|rfl
  .exact(B _).C
  .exact(B _).C
  .exact(B _).C
  .exact(B _).C
 walk_nrm;refine G5 (ob:=É #[À Á,Ê Î 0,À Á,À Á] 148) U U (by k_ne) D.r V (λw=>by go_simp) (λw=>by simp[go_sem]) λo kL=> ?_;walk_nrm;have uM:iG (λa=>a=⟨n,2,Á⟩\/a=⟨an,j,Á⟩) l (gS l o<|É #[À Á,Ê Î 0,À Á,À Á] 148):=KU D rU kL;have nG:(gS l o<|É #[À Á,Ê Î 0,À Á,À Á] 148).w.heap[o.heap.size]?=Â (É #[À Á,Ê Î 0,À Á,À Á] 148):=n7;have tf:l.w.heap.size<=o.heap.size:=kL.r;have I:(gS l o<|É #[À Á,Ê Î 0,À Á,À Á] 148).O o.heap.size:=Ç U;generalize gS l o (É #[À Á,Ê Î 0,À Á,À Á] 148)=l₁ at uM nG I|-;generalize o.heap.size=tb at nG I tf|-;refine vM U U (by k_ne) λs oz=> ?_;have S:s.heap[tb]?=_:=(oz.I tb<|Ã I).trans nG;have J:s.cell? ⟨tb,0,Á⟩=Â (À Á):=by simp[Ö,S]
 have K:s.cell? ⟨tb,1,Á⟩=Â (Ê Î 0):=by simp[Ö,S]
 have L:s.cell? ⟨tb,2,Á⟩=Â (À Á):=by simp[Ö,S]
 have P:s.cell? ⟨tb,3,Á⟩=Â (À Á):=by simp[Ö,S]
 have hz:∀g,s.frozen? ⟨tb,g,Á⟩=Ì:=λg=>by simp[î,S]
 go_simp;refine⟨{l₁ with w:=iZ s tb (À O) (Ê Î j) (À<|Â ⟨i,0,Á⟩) (À<|Â ⟨n,0,Á⟩)},KV (p:=tb) (my uM.fA oz) (by rwa[uM.q]) I xx (λg H=>zy H) ⟨U,U,U⟩ λe F=> ?_,?_⟩
 .have h:=đ F;have e:∀g,qj l₁ ⟨tb,g,Á⟩:=λg=>Ã I;simp[go_sem,á _ _ _ _ _ _ (show Ø (À O)=Ò from rfl),á _ _ _ _ _ _ (show Ø (À<|Â ⟨i,0,Á⟩)=Ò from rfl),á _ _ _ _ _ _ (show Ø (À<|Â ⟨n,0,Á⟩)=Ò from rfl),J,K,L,P,hz]at h;rcases h with rfl|rfl|rfl|rfl
  .exact(e _).r
  .exact(e _).r
  .exact(e _).r
  .exact(e _).r
 let⟨c0,c1,c2,c3⟩:=Rw (v0:=À O) (v1:=Ê Î j) (v2:=À<|Â ⟨i,0,Á⟩) (v3:=À<|Â ⟨n,0,Á⟩) J K L P;have C:=Rx (w':=iZ s tb (À O) (Ê Î j) (À<|Â ⟨i,0,Á⟩)<|À<|Â ⟨n,0,Á⟩) D rU uM oz tf xx λg H=>zy H;have vV:({l₁ with w:=iZ s tb (À O) (Ê Î j) (À<|Â ⟨i,0,Á⟩) (À<|Â ⟨n,0,Á⟩)}:fh).O tb:=I;replace c0:({l₁ with w:=iZ s tb (À O) (Ê Î j) (À<|Â ⟨i,0,Á⟩) (À<|Â ⟨n,0,Á⟩)}:fh).w.cell? ⟨tb,0,Á⟩=_:=c0;replace c1:({l₁ with w:=iZ s tb (À O) (Ê Î j) (À<|Â ⟨i,0,Á⟩) (À<|Â ⟨n,0,Á⟩)}:fh).w.cell? ⟨tb,1,Á⟩=_:=c1;replace c2:({l₁ with w:=iZ s tb (À O) (Ê Î j) (À<|Â ⟨i,0,Á⟩) (À<|Â ⟨n,0,Á⟩)}:fh).w.cell? ⟨tb,2,Á⟩=_:=c2;replace c3:({l₁ with w:=iZ s tb (À O) (Ê Î j) (À<|Â ⟨i,0,Á⟩) (À<|Â ⟨n,0,Á⟩)}:fh).w.cell? ⟨tb,3,Á⟩=_:=c3;generalize({l₁ with w:=iZ s tb (À O) (Ê Î j) (À<|Â ⟨i,0,Á⟩) (À<|Â ⟨n,0,Á⟩)}:fh)=l₂ at c0 c1 c2 c3 C vV|-;clear nG I uM S J K L P hz oz s l₁ kL o;have rV:=C.G D;have qk:¬l₂.q:=by rwa[C.q]
 have ai4:l₂.N ⟨i,2,Á⟩:=by rwa[C.c]
 have nE:¬((⟨i,2,Á⟩:â)=⟨n,2,Á⟩\/(⟨i,2,Á⟩:â)=⟨an,j,Á⟩):=λq=>by
  rcases q with q|q
  .exact D.Y _ o1<|q▸uG
  .exact D.Y _ o2<|q▸uG
 have ai5:l₂.w.cell? ⟨i,2,Á⟩=Â v:=(C.e _ (Ç uG) nE).trans p8;have RE:∀y:â,(y=⟨n,2,Á⟩\/y=⟨an,j,Á⟩)->l₂.r y:=λy hy=>by rw[C.I];exact rU y hy
 refine gl (n:=5) rV.r ?_;iterate 2 w_go fF
 refine Ë λ_ _=> ?_;refine KO (II zw #[y0,Æ (Â ⟨an,0,Á⟩) N N,Y,y3,y4,À<|Â ⟨tb,0,Á⟩,Æ (Â ⟨ib,0,Á⟩) m c,Ê Î m,Ê Î kk,ŝ Ò,À<|Â ⟨ib,kk*4,Á⟩,Đ #[À O,Ê Î j,À<|Â ⟨i,0,Á⟩,À<|Â ⟨n,0,Á⟩],xA,rT,s7,qS,vT,vU,uJ,uK,uL,s8,s9,td,rM,sY,rN,pD,oy,qe,qf,qg,uu,sZ,s5,rO,rQ] (mZ tb i n an N j (À O) v)<|Eg l₂ i n an j v Q) rV.r qk (λh H=> ?_) (λmd listed a l e z hI F=>aiY rV qk U U U vV c0 c1 c2 c3 ai4 ai5 (RE _<|Ã U) (RE _<|Ç U) (C.g _ (Ã U) e1) (C.g _ (Ç U) e2) ((C.S _<|Ã o1).trans z1) ((C.S _<|Ã o2).trans z2) rI hN lM (λu h=>uj u<|C.fj h) md listed a l e z hI F) λmd listed a z hI kh zE=> ?_
 .refine⟨((Á,0,0),ByteArray.empty),lP.S _ _ _,(iG.gd rV.r).N RE ⟨H.r,H.I,H.N,H.Y,H.S⟩,λq=> ?_,λq=> ?_,λq=> ?_⟩<;>exact absurd q A
 let⟨x,H,T⟩:=hI;have oX:∀e∈ã 21,listed.getD e Ì=Ò:=by
  cases md
  .exact pF zE kh (ã 21) [] gh λe F=>by cases F
  .exact λe F=>pF zE kh [0,1,5,6,7,8,9,10,11,12,13,14,16,17,18,2,3,4,15,19,20] [] gh (λe F=>by cases F) e (by have:=Ē.1 F;revert e;decide)
  .exact pF zE kh (ã 21) [] gh λe F=>by cases F
 have G6:=C.fj T.r;have G7:=G6.G D;have xB:¬z.q:=by rwa[G6.q]
 let⟨F,ds⟩:=a;obtain rfl:ds=[]:=H.M;have b1:F[1]?=Â (Æ (Â ⟨an,0,Á⟩) N N):=H.C (d:=1) A;have b5:F[5]?=Â (À<|Â ⟨tb,0,Á⟩):=H.C (d:=5) A;have b6:F[6]?=Â (Æ (Â ⟨ib,0,Á⟩) m c):=H.C (d:=6) A;have b7:F[7]?=Â (Ê Î m):=H.C (d:=7) A;have b8:F[8]?=Â (Ê Î kk):=H.C (d:=8) A;obtain⟨x0,x1,x2,x3,x4,x5,x6,x7,x8,x9,Ze,x11,x12,x13,x14,x15,x16,x17,x18,x19,x20,x21,x22,x23,x24,x25,x26,x27,x28,x29,x30,x31,x32,x33,x34,x35,x36,rfl⟩:=Ry F H.Y;obtain rfl:x1=Æ (Â ⟨an,0,Á⟩) N N:=by simpa using b1
 obtain rfl:x5=À (Â ⟨tb,0,Á⟩):=by simpa using b5
 obtain rfl:x6=Æ (Â ⟨ib,0,Á⟩) m c:=by simpa using b6
 obtain rfl:x7=Ê Î m:=by simpa using b7
 obtain rfl:x8=Ê Î kk:=by simpa using b8
 have ai6:=T.vS<|oX 12 A;have ai7:=T.I<|oX 18 A;have ai8:=T.N<|oX 20 A;have d3:z.w.cell? ⟨tb,3,Á⟩=Â (À<|Â ⟨n,0,Á⟩):=(gQ<|T.r.r tb<|Ã vV).trans c3;have s3:ia z ⟨tb,3,Á⟩:=Ã<|Ã<|T.r.O tb vV;clear H oX b1 b5 b6 b7 b8;refine gl (n:=9) G7.r ?_;iterate 3 w_go fF
 refine Ë λ_ _=> ?_;refine oW (x:=⟨tb,3,Á⟩) U U (by k_ne) G7.r xB s3 d3 (λw h=>by go_simp) (λw h=>by simp[go_sem,h]) ?_;walk_nrm;refine gl (n:=9) G7.r ?_;iterate 2 w_go fF
 u_call qR.f_done (nm_done Lk) doneFn fF hF
 refine Ë λ_ _=> ?_;have xC:∀o,fL z z.w o->mA (λ_=>True) {z with w:=o} n/\SW (λ_=>True) {z with w:=o} n o/\Φ {z with w:=o}/\(τ {z with w:=o}).d=0/\∃E:ß->Prop,mA E (τ {z with w:=o}) n/\SW E (τ {z with w:=o}) n (τ {z with w:=o}).w/\∀s X,SW E (τ {z with w:=o}) n s->BK an N (Â ⟨ib,0,Á⟩) m c (kk+1) X->fq Ä Ì f {τ {z with w:=o}with d:=0,w:=s} (zz X qX):=λo r=>by
  refine AX {z with w:=o} x (G6.N rU r) ?_ ?_ ?_
  .let⟨y,y1,Y⟩:=ai6;exact⟨y,y1,λb h=>⟨(Y b h).1,(r.I b (Y b h).1).trans (Y b h).2⟩⟩
  .exact(r.N _<|Ã<|by rwa[G6.I]).trans ai7
  .exact(r.N _<|Ã<|by rwa[G6.I]).trans ai8
 let⟨k1,k2,_⟩:=xC z.w<|fL.gd _ _;refine ai2 qR τ Φ k1 k2 λo r=> ?_;let⟨_,_,f1,f4,E,f2,f3,f5⟩:=xC o r;refine⟨f1,f4,E,f2,f3,λs h=> ?_⟩;walk_nrm;refine gl (n:=30) h.1 ?_;iterate 7 w_go fF
 refine Ë λ_ _=> ?_;refine f5 s _ h ⟨U,U,U,U,?_⟩;simp;exact BL Z Z
end
def ai9:Array å:=#[⟨Â 2,ć 76<|Ù 0,76, "work.go:24",#[],Á⟩,
 ⟨Â 3,ć 54<|Ù 1,54, "work.go:24",#[],Á⟩,
 ⟨Â 4,Ě {callee:=ĕ (ķ 32),args:=#[Ù 2,Ù 3],argTypes:=#[76,54]},0, "work.go:24",#[⟨0,Ü⟩,⟨1,Ü⟩],Á⟩]
def zF(a:Nat)(b c d e:Ï):é:=(baseD 47).at ⟨#[À<|Â ⟨a,0,Á⟩,b,c,d,e],[pE 48 #[À<|Â ⟨a,0,Á⟩] #[]]⟩ [Ñ Za [1]]
def vW(a b c d e:Ï):é:=(base 31).at ⟨#[a,b,c,d,e],[]⟩ [Ñ ai9 [2]]
section
variable{Ψ:ß->Prop}{J:Jd}{l:fh}{a e f o p:Ï}
def aja(c:j0 l)(g:¬l.q)(k:ia l ⟨j9,0,Á⟩)(r:ia l ⟨j7,0,Á⟩)(s:ia l ⟨b,0,Á⟩)(t:l.w.cell? ⟨j9,0,Á⟩=Â (Ĉ (ù 31) #[] #[À<|Â ⟨j7,0,Á⟩,À<|Â ⟨b,0,Á⟩]))(u:l.w.cell? ⟨j7,0,Á⟩=Â (Æ O m n))(y:l.w.cell? ⟨b,0,Á⟩=Â (Æ (Â ⟨j,0,Á⟩) i i)) (B:∀d a e f o v x z jQ p,BK j i O m n 0 d->fq Ä Ì J l (zz d [vW v x z jQ p,zF j6 a e f o,n5 Ä])): fq Ä Ì J l (born Ä<|pE 47 #[À<|Â ⟨j6,0,Á⟩,À<|Â ⟨j9,0,Á⟩] #[]):=by
 apply gl (n:=30) c;have hF:=trivial;u_c (Y2 Ů gh U) fF hF;walk_nrmf Ι;iterate 3 w_go fF
 u_c (Y0 U U (by k_ne) U U) fF hF
 walk_nrm;repeat w_go fF
 refine Ë λ_ _=> ?_;apply oW U U (by k_ne) c g k t (λw h=>by go_simp) (λw h=>by simp[go_sem,h]);walk_nrm;apply gl (n:=30) c;u_c (Y1 U U (by k_ne) U U ů gh U) fF hF;walk_nrmf Tryz.f31;w_go fF;refine Ë λ_ _=> ?_;apply oW U U (by k_ne) c g r u (λw h=>by go_simp) (λw h=>by simp[go_sem,h]);walk_nrm;apply oW U U (by k_ne) c g s y (λw h=>by go_simp) (λw h=>by simp[go_sem,h]);walk_nrm;apply gl (n:=30) c;u_call Ű gh Θ fF hF;iterate 8 w_go fF
 refine Ë λ_ _=> ?_;exact B _ _ _ _ _ _ _ _ _ _ ⟨U,U,U,U,U⟩
def ajb(b:BK j i O m n m d)(h:l.K ⟨k,0,Á⟩/\l.K ⟨k,1,Á⟩)(r:mA Ψ l k)(c:SW Ψ l k l.w)(s:l.d=0)(t:¬l.q)(u:ia l ⟨j6,0,Á⟩)(y:l.w.cell? ⟨j6,0,Á⟩=Â (À<|Â ⟨k,0,Á⟩)): fq Ä Ì (λl g=>yY Ä Ì k (D5 Ä) (kI l) g) l (zz d [vW v x z jQ p,zF j6 a e f o,n5 Ä]):=by
 obtain⟨C,D,E,F,G,H,I,g,B,J,L,M,N,P,Q,S,T,V,W,X,Y,s8,s9,td,rM,sY,rN,pD,oy,qe,qf,qg,uu,sZ,s5,rO,rQ,rfl⟩:=Ry d b.r;obtain rfl:g=Ê Î m:=by simpa using b.C
 obtain rfl:B=Ê Î m:=by simpa using b.I
 have hmm:¬(m:Int)<(m:Int):=Z
 simp only[zz];conv in KW=>whnf
 apply gl (n:=40) c.1;have hF:=trivial;iterate 8 w_go fF
 u_leave0 Ű fF hF
 iterate 2 w_go fF
 u_leave0 ů fF hF
 refine Ë λ_ _=> ?_;exact Zb h r c s t u y
end
def G8:å:=⟨Â 14,ę<|Ù 1,54, "work.go:65",#[],Á⟩
def G9:å:=⟨Â 15,ð 148 (Ù 4) 1,0, "work.go:65",#[],Á⟩
def Eh:å:=⟨Â 16,ć 3<|Ù 15,3, "work.go:65",#[⟨1,Ü⟩],Á⟩
def Ha:å:=⟨Â 17,ð 148 (Ù 4) 2,0, "work.go:65",#[],Á⟩
def Ei:å:=⟨Â 18,ć 77<|Ù 17,77, "work.go:65",#[⟨3,Ü⟩],Á⟩
def Ej:å:=⟨Â 19,ĩ<|Ù 18,0, "work.go:65",#[⟨4,Ü⟩],Á⟩
def Ek:å:=⟨Â 20,ð 96 (Ù 19) 1,0, "work.go:65",#[⟨5,Ü⟩],Á⟩
def El:å:=⟨Â 21,ć 56<|Ù 20,56, "work.go:65",#[⟨6,Ü⟩],Á⟩
def Hb:å:=⟨Â 22,ð 148 (Ù 4) 0,0, "work.go:65",#[],Á⟩
def Em:å:=⟨Â 23,ć 140<|Ù 22,140, "work.go:65",#[⟨8,Ü⟩],Á⟩
def BM:å:=⟨Â 24,Ě {callee:=ĕ<|ķ 51,args:=#[Ù 21,Ù 23],argTypes:=#[56,140]},9, "work.go:65",#[⟨7,Ü⟩,⟨9,Ü⟩],Á⟩
def BN:å:=⟨Â 25,ő 54 (Ù 14)<|Ù 16,0, "work.go:65",#[⟨0,Ü⟩,⟨2,Ü⟩,⟨0,Í⟩,⟨1,Í⟩,⟨2,Í⟩,⟨3,Í⟩,⟨4,Í⟩,⟨5,Í⟩,⟨6,Í⟩,⟨7,Í⟩,⟨8,Í⟩,⟨9,Í⟩,⟨10,Í⟩],Á⟩
def BO:å:=⟨Á,š 9 (Ù 25)<|Ù 24,0, "work.go:65",#[⟨11,Ü⟩,⟨10,Ü⟩,⟨10,Ţ⟩,⟨0,Í⟩,⟨1,Í⟩,⟨2,Í⟩,⟨3,Í⟩,⟨4,Í⟩,⟨5,Í⟩,⟨6,Í⟩,⟨7,Í⟩,⟨8,Í⟩,⟨9,Í⟩,⟨10,Í⟩],Á⟩
def vY:Array å:=#[G8,G9,Eh,Ha,Ei,Ej,Ek,El,Hb,Em,BM,BN,BO]
def qT(tb a b N c:Nat)(d e:Ï)(x:ByteArray):Nat->Ï
 |0=>Æ (Â ⟨b,0,Á⟩) N N
 |1=>À<|Â ⟨tb,1,Á⟩
 |2=>Ê Î c
 |3=>À<|Â ⟨tb,2,Á⟩
 |4=>À<|Â ⟨a,0,Á⟩
 |5=>À<|Â ⟨a,0,Á⟩
 |6=>À<|Â ⟨a,2,Á⟩
 |7=>e
 |8=>À<|Â ⟨tb,0,Á⟩
 |9=>d
 |10=>à x
 |11=>À<|Â ⟨b,c,Á⟩
 |_=>Å
structure En(jk:fh)(an pl:Nat)(Q:ByteArray->Prop)(listed:Array Bool)(x:ByteArray)(l:fh):Prop where
 r:iG (λa=>a=⟨an,pl,Á⟩) jk l
 vS:listed.getD 10 Ì=Ò->Q x
 I:listed.getD 12 Ì=Ò->l.w.cell? ⟨an,pl,Á⟩=Â (à x)
def En.C{b l:fh}{Q:ByteArray->Prop}{listed:Array Bool}{x:ByteArray}(h:En b n j Q listed x l)(e:i≠10)(f:i≠12)(c:b.r ⟨n,j,Á⟩)(d:ß)(r:fL l l.w d):En b n j Q (listed.setIfInBounds i Ò) x {l with w:=d}:=by
 refine⟨h.r.N (λa q=>by rwa[q]) r,λq=> ?_,λq=> ?_⟩
 .rw[ç Ì e]at q;exact h.vS q
 .rw[ç Ì f]at q;exact(r.N _<|by rw[h.r.C];exact Ã c).trans<|h.I q
section
variable{J:Jd}{jk:fh}{an pl:Nat}{Q:ByteArray->Prop}
def ajc(W:gF jk)(hq:¬jk.q)(ht:d.size=26)(BH:d[1]?=Â (Æ (Â ⟨an,0,Á⟩) i i))(Hc:d[4]?=Â (À<|Â ⟨j,0,Á⟩))(hO:jk.O j) (J:jk.w.cell? ⟨j,0,Á⟩=Â v) (K:jk.w.cell? ⟨j,1,Á⟩=Â (Ê Î pl)) (M:jk.w.cell? ⟨j,2,Á⟩=Â (À<|Â ⟨n,0,Á⟩)) (X:jk.N ⟨n,2,Á⟩) (p8:jk.w.cell? ⟨n,2,Á⟩=Â z) (B:jk.r ⟨an,pl,Á⟩) (e2:(jk.w.cell? ⟨an,pl,Á⟩).isSome=Ò) (z2:jk.w.frozen? ⟨an,pl,Á⟩=Ì) (rI:pl<i) (RF:∀l,iG (λa=>a=⟨an,pl,Á⟩) jk l->∀t lX,fq Ä Ì (λP S=>P.d=l.d/\∃T,S=G (t.finish<|à T) lX/\Q T) (mB l)<|G (Ă Ä 51 #[z,v] Ğ)<|t::lX) (md:ý) (listed:Array Bool) (a:ŏ) (l:fh) (b:Nat) (rest:List Nat) (hI:II vY d (qT j n an i pl v z) (En jk an pl Q) listed a l) (p:b∈Û md vY listed): fq Ä Ì (λP S=>∃I,S=G ((base 34).at I<|Ñ vY rest::L) qX/\II vY d (qT j n an i pl v z) (En jk an pl Q) (listed.setIfInBounds b Ò) I P) l (G ((base 34).at a<|Ñ vY (b::rest)::L) qX):=by
 let⟨x,m,s⟩:=hI;have E:qO vY d.size=Ò:=by rw[ht];decide
 have Zf:=Ro p;have gP:=zv p;have F:=s.r.fA;have H:¬l.q:=by rwa[s.r.q]
 have V:∀y:â,y=⟨an,pl,Á⟩->jk.r y:=λy ha=>by rwa[ha]
 have nG:a.tmps[1]?=Â (Æ (Â ⟨an,0,Á⟩) i i):=(m.C A).trans BH;have Y:a.tmps[4]?=Â (À<|Â ⟨j,0,Á⟩):=(m.C A).trans Hc;have t:∀c g,jk.w.cell? ⟨j,c,Á⟩=Â g->ia l ⟨j,c,Á⟩/\l.w.cell? ⟨j,c,Á⟩=Â g:=λc g h=>⟨Ã<|Ã<|s.r.O j hO,by rwa[gQ<|s.r.r j<|Ã hO]⟩;have Rr:¬((⟨n,2,Á⟩:â)=⟨an,pl,Á⟩):=λq=>W.Y _ B<|q▸X;have N:ia l ⟨n,2,Á⟩/\l.w.cell? ⟨n,2,Á⟩=Â z:=⟨Ç (Ç<|by rwa[s.r.c]),by rwa[s.r.e _ (Ç X) Rr]⟩;have Rs:(pl:Int)<(i:Int):=Z
 have kh:vY.size=13:=A
 rw[kh]at gP;match b,gP with
 |0,_=>
  refine iy (o:=G8) E m U U p (by k_ne) F H (λk r=> ?_) (λk r e u=> ?_)<|s.C A A B
  .simp only[qT,G8];go_simp
  .simp[go_sem,G8,nG]at u
 |1,_=>
  refine iy (o:=G9) E m U U p (by k_ne) F H (λk r=> ?_) (λk r e u=> ?_)<|s.C A A B
  .simp only[qT,G9];go_simp
  .simp[go_sem,G9,Y]at u
 |2,_=>
  have Ru:a.tmps[15]?=Â (À<|Â ⟨j,1,Á⟩):=m.r 1 G9 15 U (ik (o:=Eh) p U U) U;refine iy (o:=Eh) E m U U p (by k_ne) F H (λk r=> ?_) (λk r e u=> ?_)<|s.C A A B
  .have D:k.cell? ⟨j,1,Á⟩=Â (Ê Î pl):=((t 1 _ K).1.r r).trans (t 1 _ K).2;simp only[qT,Eh];go_simp
  .have D:k.cell? ⟨j,1,Á⟩=Â (Ê Î pl):=((t 1 _ K).1.r r).trans (t 1 _ K).2;have I:e=⟨û ⟨j,1,Á⟩,Ì,Ì⟩:=by simp[go_sem,Eh,D,Ru]at u;exact u
   subst I;exact(t 1 _ K).1.C
 |3,_=>
  refine iy (o:=Ha) E m U U p (by k_ne) F H (λk r=> ?_) (λk r e u=> ?_)<|s.C A A B
  .simp only[qT,Ha];go_simp
  .simp[go_sem,Ha,Y]at u
 |4,_=>
  have Rv:a.tmps[17]?=Â (À<|Â ⟨j,2,Á⟩):=m.r 3 Ha 17 U (ik (o:=Ei) p U U) U;refine iy (o:=Ei) E m U U p (by k_ne) F H (λk r=> ?_) (λk r e u=> ?_)<|s.C A A B
  .have D:k.cell? ⟨j,2,Á⟩=Â (À<|Â ⟨n,0,Á⟩):=((t 2 _ M).1.r r).trans (t 2 _ M).2;simp only[qT,Ei];go_simp
  .have D:k.cell? ⟨j,2,Á⟩=Â (À<|Â ⟨n,0,Á⟩):=((t 2 _ M).1.r r).trans (t 2 _ M).2;have I:e=⟨û ⟨j,2,Á⟩,Ì,Ì⟩:=by simp[go_sem,Ei,D,Rv]at u;exact u
   subst I;exact(t 2 _ M).1.C
 |5,_=>
  have RG:a.tmps[18]?=Â (À<|Â ⟨n,0,Á⟩):=m.r 4 Ei 18 U (ik (o:=Ej) p U U) U;refine iy (o:=Ej) E m U U p (by k_ne) F H (λk r=> ?_) (λk r e u=> ?_)<|s.C A A B
  .simp only[qT,Ej];go_simp
  .simp[go_sem,Ej,RG]at u
 |6,_=>
  have h19:a.tmps[19]?=Â (À<|Â ⟨n,0,Á⟩):=m.r 5 Ej 19 U (ik (o:=Ek) p U U) U;refine iy (o:=Ek) E m U U p (by k_ne) F H (λk r=> ?_) (λk r e u=> ?_)<|s.C A A B
  .simp only[qT,Ek];go_simp
  .simp[go_sem,Ek,h19]at u
 |7,_=>
  have KX:a.tmps[20]?=Â (À<|Â ⟨n,2,Á⟩):=m.r 6 Ek 20 U (ik (o:=El) p U U) U;refine iy (o:=El) E m U U p (by k_ne) F H (λk r=> ?_) (λk r e u=> ?_)<|s.C A A B
  .have D:k.cell? ⟨n,2,Á⟩=Â (z):=(N.1.r r).trans N.2;simp only[qT,El];go_simp
  .have D:k.cell? ⟨n,2,Á⟩=Â (z):=(N.1.r r).trans N.2;have I:e=⟨û ⟨n,2,Á⟩,Ì,Ì⟩:=by simp[go_sem,El,D,KX]at u;exact u
   subst I;exact N.1.C
 |8,_=>
  refine iy (o:=Hb) E m U U p (by k_ne) F H (λk r=> ?_) (λk r e u=> ?_)<|s.C A A B
  .simp only[qT,Hb];go_simp
  .simp[go_sem,Hb,Y]at u
 |9,_=>
  have G4:a.tmps[22]?=Â (À<|Â ⟨j,0,Á⟩):=m.r 8 Hb 22 U (ik (o:=Em) p U U) U;refine iy (o:=Em) E m U U p (by k_ne) F H (λk r=> ?_) (λk r e u=> ?_)<|s.C A A B
  .have D:k.cell? ⟨j,0,Á⟩=Â (v):=((t 0 _ J).1.r r).trans (t 0 _ J).2;simp only[qT,Em];go_simp
  .have D:k.cell? ⟨j,0,Á⟩=Â (v):=((t 0 _ J).1.r r).trans (t 0 _ J).2;have I:e=⟨û ⟨j,0,Á⟩,Ì,Ì⟩:=by simp[go_sem,Em,D,G4]at u;exact u
   subst I;exact(t 0 _ J).1.C
 |10,_=>
  have RH:a.tmps[21]?=Â (z):=m.r 7 El 21 U (ik (o:=BM) p U U) U;have h23:a.tmps[23]?=Â (v):=m.r 9 Em 23 U (ik (o:=BM) p U U) U;refine Y9 (o:=BM) E m U U p (by k_ne) F (f:=51) (args:=#[z,v]) (λw=>by simp only[BM];go_simp) (λw=>ł (o:=BM) U Tryz.func51 U U #[]) λk r=> ?_;have I:=s.r.N V r;refine((RF _ I _ _).mB<|I.G W).fT ?_;rintro P S ⟨y,⟨hy0,T,rfl,hQ⟩,rfl,hA,Zc,aiZ,ai0⟩;refine⟨T,U,⟨I.GX V hA hy0,λ_=>hQ,λq=> ?_⟩,λc hj=> ?_⟩
  .rw[ç Ì A]at q;exact absurd (m.I (o:=BO) U q U)<|vP Zf
  .match c,hj with
   |10,hj=>exact absurd hj<|vP Zf
   |0,_|1,_|2,_|3,_|4,_|5,_|6,_|7,_|8,_|9,_|11,_|12,_|n+13,_=>rfl
 |11,_=>
  have I:a.tmps[14]?=Â (Æ (Â ⟨an,0,Á⟩) i i):=m.r 0 G8 14 U (ik (o:=BN) p U U) U;have h16:a.tmps[16]?=Â (Ê Î pl):=m.r 2 Eh 16 U (ik (o:=BN) p U U) U;refine iy (o:=BN) E m U U p (by k_ne) F H (λk r=> ?_) (λk r e u=> ?_)<|s.C A A B
  .simp only[qT,BN];go_simp
  .simp[go_sem,BN,rI,Rs,I,h16]at u
 |12,_=>
  have h25:a.tmps[25]?=Â (À<|Â ⟨an,pl,Á⟩):=m.r 11 BN 25 U (ik (o:=BO) p U U) U;have KS:a.tmps[24]?=Â (à x):=m.r 10 BM 24 U (ik (o:=BO) p U U) U;have I:(l.w.cell? ⟨an,pl,Á⟩).isSome=Ò:=s.r.g _ U e2;have BJ:l.w.frozen? ⟨an,pl,Á⟩=Ì:=(s.r.S _<|Ã B).trans z2;have lQ:qj l ⟨an,pl,Á⟩:=Ç (by rwa[s.r.I]);refine Rp (o:=BO) (y:=⟨an,pl,Á⟩) (v:=à x) E m U U U p (by k_ne) F H U lQ I BJ (λw D e=> ?_) (λw D e=> ?_) λk r=> ?_
  .let⟨u,hu⟩:=Ô.1 D;simp only[BO];go_simp
  .let⟨u,hu⟩:=Ô.1 D;simp[go_sem,BO,h25,KS,á _ _ _ _ _ _ (show Ø (à x)=Ò from rfl),hu,e]
  .have hA:=s.r.qE W V (x:=⟨an,pl,Á⟩) (v:=à x) U U I;refine⟨hA.N V ⟨r.r,r.I,r.N,r.Y,r.S⟩,λq=> ?_,λq=> ?_⟩
   .rw[ç Ì A]at q;exact s.vS q
   .exact(r.N _<|by rw[s.r.C];exact Ã B).trans<|A2 (Ô.1 I).choose_spec
 |n+13,h=>exact absurd h Z
end
def zG:Array å:=#[⟨Â 6,.recv 158 (Ù 5) Ò,0, "work.go:63",#[],Á⟩,⟨Â 7,Ő (Ù 6) 1,4, "work.go:63",#[⟨0,Ü⟩],Á⟩]
def Zg:Array å:=#[⟨Â 8,Ő (Ù 6) 0,148, "work.go:63",#[],Á⟩,⟨Â 4,.alloc 148,0, "work.go:63",#[],Á⟩,⟨Á,š 148 (Ù 4)<|Ù 8,0, "work.go:63",#[⟨1,Ü⟩,⟨0,Ü⟩,⟨0,Í⟩,⟨1,Í⟩],Á⟩]
def RJ:Array å:=#[⟨Â 9,ð 148 (Ù 4) 2,0, "work.go:64",#[],Á⟩,⟨Â 10,ć 77<|Ù 9,77, "work.go:64",#[⟨0,Ü⟩],Á⟩,⟨Â 11,ĩ<|Ù 10,0, "work.go:64",#[⟨1,Ü⟩],Á⟩,⟨Â 12,ð 96 (Ù 11) 0,0, "work.go:64",#[⟨2,Ü⟩],Á⟩,⟨Â 13,Ě {callee:=ĕ<|ķ 36,args:=#[Ù 12],argTypes:=#[88]},0, "work.go:64",#[⟨3,Ü⟩],Á⟩]
def Eo:Ę:=((Ť (Ù 7) ť<|Ŧ 0).seq<|İ 1<|(ä 2 Zg Ì).seq<|(ä 3 RJ Ì).seq<|ä 4 vY Ò)
def BP:Ę:=(ä 1 zG Ì).seq Eo
def ajd:Array å:=#[⟨Â 2,ć 92<|Ù 0,92, "work.go:30",#[],Á⟩,
 ⟨Â 3,ć 54<|Ù 1,54, "work.go:30",#[],Á⟩,
 ⟨Â 4,Ě {callee:=ĕ (ķ 34),args:=#[Ù 2,Ù 3],argTypes:=#[158,54]},0, "work.go:30",#[⟨0,Ü⟩,⟨1,Ü⟩],Á⟩]
def Hd(a b c d e:Ï):é:=(base 33).at ⟨#[a,b,c,d,e],[]⟩ [Ñ ajd [2]]
def Zh(t:Array Ï)(a:List é):Ý:=G ((base 34).at ⟨t,[]⟩ [ö BP,ą BP,ô 0]) a
def zH(t:Array Ï)(a:List é):Ý:=G ((base 34).at ⟨t,[]⟩ [Ñ zG [0,1],ö Eo,ą BP,ô 0]) a
def KY(t:Array Ï)(a:List é):Ý:=G ((base 34).at ⟨t,[]⟩ [Ñ RJ [],ö<|ä 4 vY Ò,ô 1,ą BP,ô 0]) a
def RL(t:Array Ï)(a:List é):Ý:=G ((base 34).at ⟨t,[]⟩ [Ñ zG [1],ö Eo,ą BP,ô 0]) a
def Zi(t:Array Ï)(v:Ï)(a:List é):({zH t a with frame:=(zH t a).frame.finish v}:Ý)=RL (t.setIfInBounds 6 v) a:=by have:(zH t a).frame.finish v=(base 34).at (Ο ⟨t,[]⟩ (Â 6) v) [Ñ zG [1],ö Eo,ą BP,ô 0]:=Ģ _ _ _ _ _ _ _;rw[this];rfl
def zT:Ï:=Đ #[À Á,Ê Î 0,À Á,À Á]
structure QT(an N ch:Nat)(t:Array Ï):Prop where
 r:t.size=26
 C:t[1]?=Â (Æ (Â ⟨an,0,Á⟩) N N)
 I:t[5]?=Â (è<|Â ch)
def aje(t:Array Ï)(h:t.size=26):∃a b c d e f g i j k l m n o p q r s u v w x y z B C:Ï,t=#[a,b,c,d,e,f,g,i,j,k,l,m,n,o,p,q,r,s,u,v,w,x,y,z,B,C]:=by obtain⟨_,rfl⟩:=uI t h;exact⟨_,_,_,_,_,_,_,_,_,_,_,_,_,_,_,_,_,_,_,_,_,_,_,_,_,_,U⟩
section
variable{Ψ:ß->Prop}{J u:Jd}{l:fh}{t:Array Ï}{ch an N:Nat}{a:Option â}{Q:ByteArray->Prop}{o p r s c f:Ï}{τ:fh->fh}
def Zj(a:j0 l)(b:fq Ä Ì J l (zH t qX)):fq Ä Ì J l (Zh t qX):=by apply gl (n:=5) a;have hF:=trivial;simp only[Zh,BP];w_go fF;u_c Ĺ fF hF;exact Ë λ_ _=>b
def ajf(a:j0 l)(d:¬l.q)(e:ia l ⟨k,0,Á⟩)(g:ia l ⟨b,0,Á⟩)(i:ia l ⟨n,0,Á⟩)(j:l.w.cell? ⟨k,0,Á⟩=Â (Ĉ (ù 33) #[] #[À<|Â ⟨b,0,Á⟩,À<|Â ⟨n,0,Á⟩]))(u:l.w.cell? ⟨b,0,Á⟩=Â (è<|Â ch))(v:l.w.cell? ⟨n,0,Á⟩=Â (Æ (Â ⟨an,0,Á⟩) N N)) (y:∀t o p r s x z jQ c f,QT an N ch t->fq Ä Ì J l (zH t [Hd x z jQ c f,zF m o p r s,n5 Ä])): fq Ä Ì J l (born Ä<|pE 47 #[À<|Â ⟨m,0,Á⟩,À<|Â ⟨k,0,Á⟩] #[]):=by
 apply gl (n:=30) a;have hF:=trivial;u_c (Y2 Ů gh U) fF hF;walk_nrmf Ι;iterate 3 w_go fF
 u_c (Y0 U U (by k_ne) U U) fF hF
 walk_nrm;repeat w_go fF
 refine Ë λ_ _=> ?_;apply oW U U (by k_ne) a d e j (λw h=>by go_simp) (λw h=>by simp[go_sem,h]);walk_nrm;apply gl (n:=30) a;u_c (Y1 U U (by k_ne) U U ű gh U) fF hF;walk_nrmf Tryz.f33;w_go fF;refine Ë λ_ _=> ?_;apply oW U U (by k_ne) a d g u (λw h=>by go_simp) (λw h=>by simp[go_sem,h]);walk_nrm;apply oW U U (by k_ne) a d i v (λw h=>by go_simp) (λw h=>by simp[go_sem,h]);walk_nrm;apply gl (n:=30) a;u_call Ų gh Tryz.f34 fF hF;iterate 6 w_go fF
 refine Ë λ_ _=> ?_;exact Zj a<|y _ _ _ _ _ _ _ _ _ _ ⟨U,U,U⟩
def ajg{Y:Ï}(G:gF l)(M:¬l.q)(P:l.d=0)(hT:QT an N ch t)(hB:60<=i)(ajh:Y=Đ #[À a,Ê Î j7,À<|Â ⟨j9,0,Á⟩,À O])(Q:l.K ⟨j9,0,Á⟩/\l.K ⟨j9,1,Á⟩)(He:nF j9 l.w) (RN:l.K ⟨j,0,Á⟩/\l.K ⟨j,1,Á⟩) (hsa:nF j l.w) (hs:ia l ⟨m,0,Á⟩) (hc:l.w.cell? ⟨m,0,Á⟩=Â (À<|Â ⟨j,0,Á⟩)) (aji:∀H k t',iG fl l H->H.d=0->H.O k->H.w.cell? ⟨k,0,Á⟩=Â (À a)->H.w.cell? ⟨k,1,Á⟩=Â (Ê Î j7)->H.w.cell? ⟨k,2,Á⟩=Â (À<|Â ⟨j9,0,Á⟩)->QT an N ch t'->t'[4]?=Â (À<|Â ⟨k,0,Á⟩)->u H (KY t' [Hd x z jQ c f,zF m o p r s,n5 Ä])): xi Ä Ì ch zT (λb=>match b with
  |some v=>λl g=>v=Y->qM Ä Ì i j9 u .jd l g
  |none=>λl g=>yY Ä Ì j (D5 Ä) (kI l) g) l (zH t [Hd x z jQ c f,zF m o p r s,n5 Ä]):=by
 obtain⟨y0,y1,y2,y3,y4,y5,y6,y7,y8,y9,xy,zD,xA,rT,s7,qS,vT,vU,uJ,uK,uL,s8,s9,td,rM,sY,rfl⟩:=aje t hT.r;obtain rfl:y1=Æ (Â ⟨an,0,Á⟩) N N:=by simpa using hT.C
 obtain rfl:y5=è (Â ch):=by simpa using hT.I
 have hF:=trivial;refine⟨U,U,λD=> ?_,λb=> ?_⟩
 .refine(Ż (cases:=#[rcase ch zT]) (blocking:=Ò) (shape:=.recv Ò) (w':=D) rfl rfl (by k_ne) ?_).trans ?_
  .simp[go_sem,zG,ĉ,rcase,zT]
  .simp[listed,go_sem,zG,ĉ,Ī];rfl
 cases b with
 |none=>
  rw[Zi];simp only[RL,Eo,zG,Option.getD_none,ı,ē,Ĳ,ĳ];apply gl (n:=30) G.r;iterate 6 w_go fF
  u_leave0 Ų fF hF
  iterate 2 w_go fF
  u_leave0 ű fF hF
  refine Ë λ_ _=> ?_;exact Zb (Ψ:=λ_=>True) RN ⟨Ã RN.1,Ã RN.2,λ_ _ _ _ _ _ _ _=>trivial⟩ ⟨G.r,hsa,trivial⟩ P M hs hc
 |some v=>
  by_cases hv:v=Y
  .subst hv;subst ajh;apply fq.fT λl g h _=>h;rw[Zi];simp only[RL,Eo,zG,Ń,Option.isSome_some,ē,Ĳ,ĳ];apply gl (n:=30) G.r;iterate 7 w_go fF
   u_c Ĺ fF hF
   simp only[Zg,ĺ,ń,ŋ,ś,č,ã,List.range.loop];w_go fF;refine Ë λ_ _=> ?_;have rU:∀y:â,False->l.r y:=λy ha=>ha.elim;refine G5 (ob:=É #[À Á,Ê Î 0,À Á,À Á] 148) U U (by k_ne) G.r M (λw=>by go_simp) (λw=>by simp[go_sem]) λD kL=> ?_;walk_nrm;have S:iG fl l (gS l D<|É #[À Á,Ê Î 0,À Á,À Á] 148):=KU G rU kL;have nG:(gS l D<|É #[À Á,Ê Î 0,À Á,À Á] 148).w.heap[D.heap.size]?=Â (É #[À Á,Ê Î 0,À Á,À Á] 148):=n7;have tf:=kL.r;have I:(gS l D<|É #[À Á,Ê Î 0,À Á,À Á] 148).O D.heap.size:=Ç U;generalize gS l D (É #[À Á,Ê Î 0,À Á,À Á] 148)=l₁ at S nG I|-;generalize D.heap.size=k at nG I tf|-;refine vM U U (by k_ne) λC oz=> ?_;have J:=(oz.I k<|Ã I).trans nG;have Ep:C.cell? ⟨k,0,Á⟩=Â (À Á):=by simp[Ö,J]
   have xw:C.cell? ⟨k,1,Á⟩=Â (Ê Î 0):=by simp[Ö,J]
   have qU:C.cell? ⟨k,2,Á⟩=Â (À Á):=by simp[Ö,J]
   have uN:C.cell? ⟨k,3,Á⟩=Â (À Á):=by simp[Ö,J]
   have hz:∀g,C.frozen? ⟨k,g,Á⟩=Ì:=λg=>by simp[î,J]
   go_simp;refine⟨{l₁ with w:=iZ C k (À a) (Ê Î j7) (À<|Â ⟨j9,0,Á⟩) (À O)},KV (my S.fA oz) (by rwa[S.q]) I xx (λg F=>zy F) ⟨U,U,U⟩ λe L=> ?_,?_⟩
   .have E:=đ L;have B:∀g,qj l₁ ⟨k,g,Á⟩:=λg=>Ã I;simp[go_sem,á _ _ _ _ _ _ (show Ø (À a)=Ò from rfl),á _ _ _ _ _ _ (show Ø (À<|Â ⟨j9,0,Á⟩)=Ò from rfl),á _ _ _ _ _ _ (show Ø (À O)=Ò from rfl),Ep,xw,qU,uN,hz]at E;rcases E with rfl|rfl|rfl|rfl
    .exact(B _).r
    .exact(B _).r
    .exact(B _).r
    .exact(B _).r
   obtain⟨T,V,L,c3⟩:=Rw Ep xw qU uN;have E:=Rx (w':=iZ C k (À a) (Ê Î j7) (À<|Â ⟨j9,0,Á⟩)<|À O) G rU S oz tf xx λg F=>zy F;have W:({l₁ with w:=iZ C k (À a) (Ê Î j7) (À<|Â ⟨j9,0,Á⟩) (À O)}:fh).O k:=I;replace T:({l₁ with w:=iZ C k (À a) (Ê Î j7) (À<|Â ⟨j9,0,Á⟩) (À O)}:fh).w.cell? ⟨k,0,Á⟩=_:=T;replace V:({l₁ with w:=iZ C k (À a) (Ê Î j7) (À<|Â ⟨j9,0,Á⟩) (À O)}:fh).w.cell? ⟨k,1,Á⟩=_:=V;replace L:({l₁ with w:=iZ C k (À a) (Ê Î j7) (À<|Â ⟨j9,0,Á⟩) (À O)}:fh).w.cell? ⟨k,2,Á⟩=_:=L;generalize({l₁ with w:=iZ C k (À a) (Ê Î j7) (À<|Â ⟨j9,0,Á⟩) (À O)}:fh)=l₂ at T V L E W|-;have X:=E.G G;have qk:¬l₂.q:=by rwa[E.q]
   apply gl (n:=9) X.r;iterate 2 w_go fF
   u_c Ĺ fF hF
   simp only[RJ,ĺ,ń,ŋ,ś,č,ã,List.range.loop];w_go fF;refine Ë λ_ _=> ?_;apply oW U U (by k_ne) X.r qk (Ã<|Ã W) L (λw h=>by go_simp) (λw h=>by simp[go_sem,h]);walk_nrm;apply gl (n:=9) X.r;iterate 2 w_go fF
   u_call qR.f_wait (nm_wait Lk) waitFn fF hF
   refine Ë λ_ _=> ?_;have k2:mA (λw=>fL l₂ l₂.w w) l₂ j9:=⟨Ã (by rw[E.K];exact Q.1),Ã (by rw[E.K];exact Q.2),λw D h1 h2 h3 h4 h5 h=>h.fj ⟨h1,h2,h3,h4,h5⟩⟩;have s2:SW (λw=>fL l₂ l₂.w w) l₂ j9 l₂.w:=⟨X.r,⟨E.b _ Q.1 He.1,E.b _ Q.2 He.2⟩,fL.gd _ _⟩;refine YY qR hB k2 s2 (E.d.trans P) λD Zk=> ?_;walk_nrm;refine .fE λD4 F=> ?_;have B:=E.N rU<|Zk.2.2.fj ⟨F.r,F.I,F.N,F.Y,F.S⟩;have hdd:=E.d.trans P;have BQ:iG fl l ({l₂ with d:=0,w:=D4}:fh):=⟨B.O,B.h,B.Y,B.I,B.c,B.K,B.q,P.symm,B.fA,B.f,B.r,B.e,B.S,B.b,B.g⟩;have rr:=Zk.2.2.fj ⟨F.r,F.I,F.N,F.Y,F.S⟩;have cc:∀g,D4.cell? ⟨k,g,Á⟩=l₂.w.cell? ⟨k,g,Á⟩:=λg=>gQ<|rr.I k<|Ã W;exact aji {l₂ with d:=0,w:=D4} k _ BQ U W ((cc 0).trans T) ((cc 1).trans V) ((cc 2).trans L) ⟨U,U,U⟩ U
  .exact .fE λ_ _ e=>absurd e hv
end
section
variable{J:Jd}{l:fh}{t:Array Ï}{Q:ByteArray->Prop}
def Hf(f:gF l)(D:¬l.q)(g:QT n i j t)(M:t[4]?=Â (À<|Â ⟨m,0,Á⟩))(N:l.O m) (P:l.w.cell? ⟨m,0,Á⟩=Â (À O)) (S:l.w.cell? ⟨m,1,Á⟩=Â (Ê Î k)) (T:l.w.cell? ⟨m,2,Á⟩=Â (À<|Â ⟨b,0,Á⟩)) (V:l.N ⟨b,2,Á⟩) (W:l.w.cell? ⟨b,2,Á⟩=Â v) (p:l.r ⟨n,k,Á⟩) (X:(l.w.cell? ⟨n,k,Á⟩).isSome=Ò) (Y:l.w.frozen? ⟨n,k,Á⟩=Ì) (rI:k<i) (RF:∀e,iG (λa=>a=⟨n,k,Á⟩) l e->∀E F,fq Ä Ì (λl'' g'=>l''.d=e.d/\∃H,g'=G (E.finish<|à H) F/\Q H) (mB e)<|G (Ă Ä 51 #[v,À O] Ğ)<|E::F) (hJ:∀e x I,iG (λa=>a=⟨n,k,Á⟩) l e->Q x->e.w.cell? ⟨n,k,Á⟩=Â (à x)->QT n i j I->J e (zH I qX)): fq Ä Ì J l (KY t qX):=by
 have K:∀y:â,y=⟨n,k,Á⟩->l.r y:=λy ha=>by rwa[ha]
 have hF:=trivial;apply gl (n:=3) f.r;simp only[KY];w_go fF;refine Ë λ_ _=> ?_;refine KO (II vY t (qT m b n i k (À O) v)<|En l n k Q) f.r D (λo h=> ?_) (λs u a l c o z r=>ajc f D g.r g.C M N P S T V W p X Y rI RF s u a l c o z r) λs u a kA z B C=> ?_
 .refine⟨ByteArray.empty,lP.S _ _ _,(iG.gd f.r).N K ⟨h.r,h.I,h.N,h.Y,h.S⟩,λq=> ?_,λq=> ?_⟩<;>exact absurd q A
 let⟨x,o,h⟩:=z;have L:∀c∈ã 13,u.getD c Ì=Ò:=by
  cases s
  .exact pF C B (ã 13) [] gh λc r=>by cases r
  .exact pF C B (ã 13) [] gh λc r=>by cases r
  .exact pF C B (ã 13) [] gh λc r=>by cases r
 have s:=h.r.G f;let⟨B,C⟩:=a;obtain rfl:C=[]:=o.M;apply gl (n:=9) s.r;iterate 3 w_go fF
 refine Ë λ_ _=> ?_;refine Zj s.r<|.fE λw₁ r=>(hJ {kA with w:=w₁} x B (h.r.N K r) (h.vS<|L 10 A) ((r.N _<|Ã<|by rwa[h.r.I]).trans<|h.I<|L 12 A) ⟨o.Y.trans g.r,((o.C A).trans g.C),((o.C A).trans g.I)⟩)
end
structure gu(X:Nat->Prop)(l l':fh):Prop where
 O:∀j,l.O j->l'.O j
 c:∀j,l'.O j->l.O j\/l.w.heap.size<=j
 S:l'.I=l.I
 Y:l'.r=l.r
 b:l'.N=l.N
 K:l'.K=l.K
 q:l'.q=l.q
 d:l'.d=l.d
 fA:j0 l'
 I:l.w.heap.size<=l'.w.heap.size
 r:∀j,l.M j->¬X j->l'.w.heap[j]?=l.w.heap[j]?
 f:∀a,l.C a->l'.w.cell? a=l.w.cell? a
 g:∀a,l.C a->l'.w.frozen? a=l.w.frozen? a
 e:∀a,l.K a->(l.w.cell? a).isSome=Ò->(l'.w.cell? a).isSome=Ò
section
variable{l l' l'':fh}
theorem gu.gd(h:j0 l):gu X l l:=⟨λ_ h=>h,λ_ h=>Ã h,U,U,U,U,U,U,h,Ú _,λ_ _ _=>rfl,λ_ _=>rfl,λ_ _=>rfl,λ_ _ h=>h⟩
def gu.C(h:gu X l l'):l'.C=l.C:=by unfold fh.C;rw[h.Y,h.b]
def gu.M(h:gu X l l')(a:l.M b):l'.M b:=a.imp (h.O b)<|by rw[h.S];exact id
def gu.fj(h:gu X l l')(k:gu X l' l''):gu X l l'':=by have e:=h.C;exact⟨λj c=>k.O j<|h.O j c,λj c=>(k.c j c).elim (h.c j) λq=>Ç<|Õ h.I q,k.S.trans h.S,k.Y.trans h.Y,k.b.trans h.b,k.K.trans h.K,k.q.trans h.q,k.d.trans h.d,k.fA,Õ h.I k.I,λj c f=>(k.r j (h.M c) f).trans<|h.r j c f,λa b=>(k.f a<|by rwa[e]).trans<|h.f a b,λa b=>(k.g a<|by rwa[e]).trans<|h.g a b,λa b q=>k.e a (by rwa[h.K])<|h.e a b q⟩
def gu.G(h:gu X l l'){w₁:ß}(r:fL l' l'.w w₁):gu X l {l' with w:=w₁}:= h.fj ⟨λ_ q=>q,λ_ q=>Ã q,U,U,U,U,U,U,my h.fA r,r.r,λj a _=>r.I j a,r.N,r.Y,r.S⟩
def gu.fT{a:Nat->Prop}(h:gu X l l')(c:∀j,l.M j->X j->a j):gu a l l':=⟨h.O,h.c,h.S,h.Y,h.b,h.K,h.q,h.d,h.fA,h.I,λj b e=>h.r j b λq=>e<|c j b q,h.f,h.g,h.e⟩
def gu.N(h:gu X l l')(s:gF l):gF l' where
 c b hb:=by
  rw[h.S];rcases h.c b hb with q|q
  .exact s.c b q
  .exact λz=>by have:=s.fA b<|Ç z;omega
 Y a ha:=by rw[h.b];exact s.Y a<|by rwa[<-h.Y]
 N a ha hb:=by
  rw[h.C]at ha;rcases hb with q|q
  .rcases h.c _ q with z|z
   .exact s.N a ha<|Ã z
   .have:=s.I a ha;omega
  .rw[h.S]at q;exact s.N a ha<|Ç q
 fA b hb:=by
  rcases hb with q|q
  .exact h.fA b q
  .rw[h.S]at q;exact È (s.fA b<|Ç q) h.I
 I a ha:=by rw[h.C]at ha;exact È (s.I a ha) h.I
 S a ha:=by
  rw[h.K]at ha;let⟨c,d,e⟩:=s.S a ha;refine⟨λq=> ?_,È d h.I,by rwa[h.Y]⟩;rcases q with q|q
  .rcases h.c _ q with z|z
   .exact c<|Ã z
   .omega
  .rw[h.S]at q;exact c<|Ç q
def oA{ob:Ÿ}(s:gF l){w₁:ß}(r:fL l l.w w₁):gu X l (gS l w₁ ob):=by have h:=KU (E:=fl) (ob:=ob) s (λ_ q=>q.elim) r;exact⟨h.O,h.h,h.Y,h.I,h.c,h.K,h.q,h.d,h.fA,h.f,λj b _=>h.r j b,λa c=>h.e a c id,h.S,h.b⟩
def KZ{w':ß}{p:Nat}(s:gF l)(r:fL l l.w u)(c:l.O p)(g:X p)(d:w'.heap.size=u.heap.size)(b:∀j,j≠p->w'.heap[j]?=u.heap[j]?):gu X l {l with w:=w'}:=by
 have f:∀a:â,l.C a->a.block≠p:=λa h e=>s.N a h<|Ã<|e▸c;refine⟨λ_ q=>q,λ_ q=>Ã q,U,U,U,U,U,U,λj q=> ?_,?_,λj q n=>(b j λe=>n<|e▸g).trans<|r.I j q,λa q=>(gQ<|b _<|f a q).trans<|r.N a q,λa q=>(xh<|b _<|f a q).trans<|r.Y a q,λa q z=> ?_⟩
 .show j<w'.heap.size;rw[d];exact È (s.fA j<|Ã q) r.r
 .show l.w.heap.size<=w'.heap.size;rw[d];exact r.r
 .show(w'.cell? a).isSome=Ò;rw[gQ (b a.block λe=>(s.S a q).1<|Ã<|e▸c)];exact r.S a q z
end
section
variable{J:Jd}{l:fh}{a:ŏ}{k:List ŷ}{cs:List é}{ob:Ÿ}
def qV{V:Nat->Ï}(c:Q[i]?=Â o)(d:Ė o (ţ Q a.tmps)=Ò)(e:f.kind≠Ź)(g:j0 l)(h:¬l.q) (j:∀w,(ĉ a.eval o).run P w=.ok (.value<|V w.heap.size) (w.alloc ob)) (m:∀w,(ĉ a.eval o).events P w #[]=#[]) (n:∀b,fL l l.w b->fq P yQ J (gS l b ob) (G (f.at (a.put o.dst<|V b.heap.size)<|Ñ Q jJ::k) cs)):fq P yQ J l (G (f.at a<|Ñ Q (i::jJ)::k) cs):=by
 refine vM c d e λb r=> ?_;rw[j b];refine⟨_,?_,n b r⟩;have:listed P f.fn a o b=#[]:=by unfold listed;rw[m b,Ī]
 rw[this];exact Zd (my g r) h
def Hg{p off:Nat}{u:Ï}(m:Q[i]?=Â o)(n:Ė o (ţ Q a.tmps)=Ò)(s:f.kind≠Ź)(t:j0 l)(x:¬l.q)(b:l.O p)(d:l.w.cell? ⟨p,off,Á⟩=Â u)(y:l.w.frozen? ⟨p,off,Á⟩=Ì)(z:o.dst=Á) (B:∀w,w.cell? ⟨p,off,Á⟩=Â u->w.frozen? ⟨p,off,Á⟩=Ì->(ĉ a.eval o).run P w=.ok .skip (w.setCell ⟨p,off,Á⟩ v)) (C:∀w,w.cell? ⟨p,off,Á⟩=Â u->w.frozen? ⟨p,off,Á⟩=Ì->(ĉ a.eval o).events P w #[]=#[⟨û ⟨p,off,Á⟩,Ò,Ì⟩]) (D:fq P yQ J {l with w:=l.w.setCell ⟨p,off,Á⟩ v} (G (f.at a<|Ñ Q jJ::k) cs)):fq P yQ J l (G (f.at a<|Ñ Q (i::jJ)::k) cs):=by
 have E:ia l ⟨p,off,Á⟩:=Ã<|Ã b;refine vM m n s λg r=> ?_;have c:=(E.r r).trans d;have j:=(xh<|r.I p<|Ã b).trans y;rw[B g c j];refine⟨_,Y7 U (my t r) x (Ã b) λe h=> ?_,?_⟩
 .have:=đ h;rw[C g c j]at this;have:e=⟨û ⟨p,off,Á⟩,Ò,Ì⟩:=by simpa using this
  subst this;exact qj.r<|Ã b
 .have:(a.put o.dst Å)=a:=by rw[z];rfl
  rw[this];exact D.kg<|zq<|Y6 U (by rw[d];rfl) (by rw[c];rfl) r
def oB(l:fh)(w₁ a:ß):fh:={l with O:=λf=>l.O f\/(w₁.heap.size<=f/\f<a.heap.size),w:=a}
def RO(s:gF l){w₁:ß}(r:fL l l.w w₁){a:Option Nat}(d:w₁.grownBy u a)(c:∀k,a=Â k->l.O k/\X k):gu X l (oB l w₁ u):=by
 have i:=r.r;have m:=d.size;have b:∀j,j<l.w.heap.size->Â j≠a->u.heap[j]?=w₁.heap[j]?:=λj o g=>d.block j Z g;have f:∀x:â,l.C x->Â x.block≠a:=λx h e=>s.N x h<|Ã (c _ e.symm).1;refine⟨λ_ q=>Ã q,λj q=>q.imp id λz=>by omega,U,U,U,U,U,U,λj q=> ?_,?_,λj q n=>(b j (s.fA j q) λe=>n (c j e.symm).2).trans<|r.I j q,λx q=>(gQ<|b _ (s.I x q)<|f x q).trans<|r.N x q,λx q=>(xh<|b _ (s.I x q)<|f x q).trans<|r.Y x q,λx q z=> ?_⟩
 .show j<u.heap.size;rcases q with q|q
  .have:=s.fA j<|Ã q;omega
  .exact q.2
 .show l.w.heap.size<=u.heap.size;omega
 .show(u.cell? x).isSome=Ò;rw[gQ (b x.block (s.S x q).2.1 λe=>(s.S x q).1<|Ã (c _ e.symm).1)];exact r.S x q z
def pH{w₁:ß}{sz:Nat}{xs:List Ï}(h:w.ownsRow i e sz v n xs)(a:∀k,v.ownBlock=Â k->w₁.heap[k]?=w.heap[k]?):w₁.ownsRow i e sz v n xs:=by refine⟨h.1,h.2.imp id ?_⟩;rintro⟨g,b,c,rfl,d,f,j⟩;exact⟨g,b,c,U,d,(a g U).trans f,j⟩
def ajj{p:Nat}{u:Ï}(h:w.cell? ⟨p,0,Á⟩=Â u):∀j y,[u][j]?=Â y->w.cell? ⟨p,j,Á⟩=Â y
 |0,_,e=>Ó e▸h
 |_+1,_,e=>by cases e
def ajk{s a:List Ï}(h:P.underlying t=Â (.slice e))(k:P.info? e=Â zJ)(B:zJ.zero=Â z)(l:zJ.size=m)(C:a.length=m)(F:(n+1)*zJ.bytes<=140737488355328)(G:n+1<=œ) (o:w.ownsRow 0 e m v n s) (p:∀j y,a[j]?=Â y->w.cell? ((⟨b,0,Á⟩:â).add j)=Â y) (H:∀u∈a,u.oneCell'=Ò) (d:(Builtin.append_ #[t,t] T #[v,Æ (Â ⟨b,0,Á⟩) 1 i]).run P w=.ok x W):x.ownBlock=v.ownBlock\/x.ownBlock=Â w.heap.size:=by
 have q:a.length=1*zJ.size:=by rw[l,C];omega
 have L:n+1<=9223372036854775807:=by simp only[œ]at G;omega
 rcases o.2 with⟨rfl,rfl⟩|⟨g,r,D,rfl,_,I,M,N,J,O⟩
 .have f:=run_append_nil (P:=P) w t T e zJ z h k B ⟨b,0,Á⟩ 1 i a q p Z Z Z;rw[f]at d;cases d;exact Ç U
 .by_cases E:n+1<=r
  .have K:n*zJ.size+a.length<=D.size:=by
    rw[J,l,C,show n*m+m=(n+1)*m by rw[Nat.add_mul];omega];exact Nat.mul_le_mul_right _ E
   have f:=run_append_room (P:=P) w t T e zJ h k g n r D I ⟨b,0,Á⟩ 1 i a q p H E K;rw[f]at d;cases d;exact Ã U
  .have f:=run_append_grow (P:=P) w t T e zJ z h k B ⟨g,0,Á⟩ n r s (by rw[l];exact o.1) (o.cells (g:=g) U) ⟨b,0,Á⟩ 1 i a q p Z Z<|growslice_fits Z F;rw[f]at d;cases d;exact Ç U
theorem RP{x:Ĥ}{inf:Ž}{c px sz:Nat}{xs us:List Ï}(ho:Q[i]?=Â o)(hw:Ė o (ţ Q a.tmps)=Ò)(hk:f.kind≠Ź)(sn:gF l)(hq:¬l.q) (V:o.op=Ě {callee:=Ŕ .append,args:=#[qQ,x],argTypes:=#[t,t]}) (W:a.eval qQ=v) (X:a.eval x=Æ (Â ⟨px,0,Á⟩) 1 c) (E:P.underlying t=Â (.slice e)) (F:P.info? e=Â inf) (H:inf.zero=Â z) (I:inf.size=sz) (kh:0<sz) (K0:us.length=sz) (rW:z.cells.size=sz) (K:(n+1)*inf.bytes<=140737488355328) (L:n+1<=œ) (lQ:l.w.ownsRow 0 e sz v n xs) (C:∀k,v.ownBlock=Â k->l.O k) (Zl:l.O px) (hu:∀j u,us[j]?=Â u->l.w.cell? ⟨px,j,Á⟩=Â u) (d:∀u∈us,u.oneCell'=Ò) (hn:∀b B g,fL l l.w b->g.ownsRow 0 e sz B (n+1) (xs++us)->b.grownBy g v.ownBlock->(∀k,B.ownBlock=Â k->(oB l b g).O k)->(B.ownBlock=v.ownBlock\/B.ownBlock=Â b.heap.size)->fq P yQ J (oB l b g) (G (f.at (a.put o.dst B)<|Ñ Q jJ::k) cs)): fq P yQ J l (G (f.at a<|Ñ Q (i::jJ)::k) cs):=by
 refine vM ho hw hk λb r=> ?_;have hM:∀k,l.O k->b.heap[k]?=l.w.heap[k]?:=λk q=>r.I k<|Ã q;have M:=pH lQ (w₁:=b) λk q=>hM k<|C k q;have N:∀j w,us[j]?=Â w->b.cell? ((⟨px,0,Á⟩:â).add j)=Â w:=λj w h=>by rw[ğ,č];grind [gQ]
 have Y:us.length=1*sz:=Z
 let⟨B,g,iN,hown',p,zE⟩:=run_append_own (P:=P) b 0 t o.type e inf z sz inf.bytes E F H I U rW kh v n xs M ⟨px,0,Á⟩ 1 c us Y N d L K<|ă _;have uO:=ajk E F H I K0 K L M N d iN;refine uponK_append qQ x t V W X iN ⟨oB l b g,?_,hn b B g r hown' p (λk q=> ?_) uO⟩
 .have he:∀D∈listed P f.fn a o b,vN (oB l b g) D:=λD S=>by
   have h2:=đ S;rw[events_append_op qQ x t V W X]at h2;rcases(events_append_where (P:=P) b 0 t o.type e inf z sz inf.bytes E F H I rfl v n xs M ⟨px,0,Á⟩ 1 c us Y N d L K) D h2 with⟨ad,T,y⟩|⟨m,rfl,ajl⟩
   .refine⟨Ã ⟨ad,T,Ã ?_⟩,by rw[T];simp,by rw[T];simp⟩;rcases y with⟨_,y⟩|y
    .exact Ã<|by rwa[y]
    .exact Ã<|C _ y.symm
   .have um:m=.noRoom:=ajl;subst um;exact⟨Ç<|Ã U,ft,ft⟩
  refine⟨p.size,λj q=>q.imp id λz=>z.1,λj q=> ?_,U,U,U,U,λj T d _=>p.block j T λe=>d<|C j e.symm,λy m d _=>gQ (p.block _ m λe=>d<|C _ e.symm),λy m d=>xg (p.block _ m λe=>d<|C _ e.symm),p.os,p.output,p.tape,λD S=>(he D S).1,(KM he _).symm,U,λq=>absurd q hq,U⟩;rcases q with q|q
  .exact È ((my sn.r r) j q) p.size
  .exact q.2
 .have y:k<g.heap.size:=(hown'.lt k q).2;rcases uO with m|m
  .exact Ã<|C k<|by rwa[<-m]
  .rw[m]at q;obtain rfl:=Ó q;exact Ç ⟨Ú _,y⟩
end
def Zm:Array å:=#[⟨Â 25,Ş (ù 31) #[] #[Ù 9,Ù 8],1, "work.go:24",#[],Á⟩,⟨Â 26,Ě {callee:=ĕ<|ķ 30,args:=#[Ù 12,Ù 25],argTypes:=#[88,1]},0, "work.go:24",#[⟨0,Ü⟩],Á⟩]
def Zn:Array å:=#[⟨Â 13,ŧ<|Ũ<|Æ Á 0 0,91, "work.go:25",#[],Á⟩]
def Zo:Array å:=#[⟨Â 27,ę<|Ù 2,3, "work.go:26",#[],Á⟩,⟨Â 28,ę<|Ũ<|Ê Î 0,3, "work.go:26",#[],Á⟩]
def RR:Array å:=#[⟨Â 29,Κ .lss 3 (Ù 28) (Ù 27) 3,4, "work.go:26",#[],Á⟩]
def Zp:Array å:=#[⟨Â 30,ę<|Ù 10,76, "work.go:28",#[],Á⟩,⟨Â 31,Ě {callee:=Ŕ .len,args:=#[Ù 30],argTypes:=#[76]},3, "work.go:28",#[⟨0,Ü⟩],Á⟩,⟨Â 32,.makeChan 92<|Ù 31,92, "work.go:28",#[⟨1,Ü⟩],Á⟩,⟨Â 14,.alloc 92,0, "work.go:28",#[],Á⟩,⟨Á,š 92 (Ù 14)<|Ù 32,0, "work.go:28",#[⟨3,Ü⟩,⟨2,Ü⟩,⟨0,Í⟩,⟨1,Í⟩,⟨2,Í⟩,⟨3,Í⟩],Á⟩]
def Zq:Array å:=#[⟨Â 33,ę<|Ù 13,91, "work.go:29",#[],Á⟩,⟨Â 34,ć 92<|Ù 14,92, "work.go:29",#[],Á⟩,⟨Â 35,.buildSlice 91 1 #[(0,Ù 34)],91, "work.go:29",#[⟨1,Ü⟩],Á⟩,⟨Â 36,Ě {callee:=Ŕ .append,args:=#[Ù 33,Ù 35],argTypes:=#[91,91]},91, "work.go:29",#[⟨0,Ü⟩,⟨2,Ü⟩],Á⟩,⟨Â 13,ŧ<|Ù 36,91, "work.go:29",#[⟨3,Ü⟩,⟨3,Ţ⟩,⟨0,Í⟩,⟨1,Í⟩,⟨2,Í⟩,⟨3,Í⟩],Á⟩]
def K1:Array å:=#[⟨Â 37,Ş (ù 33) #[] #[Ù 14,Ù 8],1, "work.go:30",#[],Á⟩,⟨Â 38,Ě {callee:=ĕ<|ķ 30,args:=#[Ù 12,Ù 37],argTypes:=#[88,1]},0, "work.go:30",#[⟨0,Ü⟩],Á⟩]
def RU:Array å:=#[⟨Â 39,Κ .add 3 (Ù 28) (Ũ<|Ê Î 1) 3,3, "work.go:26",#[],Á⟩,⟨Â 28,ę<|Ù 39,3, "work.go:26",#[⟨0,Ü⟩],Á⟩]
def K2:Array å:=#[⟨Â 40,ę<|Ù 10,76, "work.go:32",#[],Á⟩,⟨Â 41,ę<|Ù 13,91, "work.go:32",#[],Á⟩,⟨Â 42,Ě {callee:=ĕ<|ķ 35,args:=#[Ù 40,Ù 41],argTypes:=#[76,91]},0, "work.go:32",#[⟨0,Ü⟩,⟨1,Ü⟩],Á⟩]
def K3:Array å:=#[⟨Â 43,Ě {callee:=ĕ<|ķ 36,args:=#[Ù 12],argTypes:=#[88]},0, "work.go:33",#[],Á⟩]
def Hh:å:=⟨Â 44,ć 54<|Ù 8,54, "work.go:34",#[],Á⟩
def Hi:å:=⟨Â 45,ę<|Ù 11,77, "work.go:34",#[{on:=5,ground:=õ Ð}],Á⟩
def Hj:å:=⟨Â 46,ĩ<|Ù 45,0, "work.go:34",#[⟨1,Ü⟩,{on:=5,ground:=õ Ð}],Á⟩
def Hk:å:=⟨Â 47,ð 96 (Ù 46) 1,0, "work.go:34",#[⟨2,Ü⟩,{on:=5,ground:=õ Ð}],Á⟩
def Hl:å:=⟨Â 48,ć 56<|Ù 47,56, "work.go:34",#[⟨3,Ü⟩,{on:=5,ground:=õ Ð}],Á⟩
def Hm:å:=⟨Â 6,ŧ<|Ù 44,54, "work.go:34",#[⟨0,Ü⟩,⟨0,Í⟩,{on:=1,ground:=Þ Ð},{on:=2,ground:=Þ Ð},{on:=3,ground:=Þ Ð},{on:=4,ground:=Þ Ð}],Á⟩
def Hn:å:=⟨Â 7,ŧ<|Ù 48,56, "work.go:34",#[⟨4,Ü⟩,⟨5,Ţ⟩,⟨0,Í⟩,⟨1,Í⟩,⟨2,Í⟩,⟨3,Í⟩,⟨4,Í⟩,⟨5,Í⟩],Á⟩
def xD:Array å:=#[Hh,Hi,Hj,Hk,Hl,Hm,Hn]
def K4:Ę:=(ä 14 xD Ò).seq Ρ
def K5:Ę:=(ä 12 K2 Ì).seq<|(ä 13 K3 Ì).seq K4
def Er:Ę:=(ä 7 RR Ì).seq<|(Ť (Ù 29) ť<|Ŧ 0).seq<|(İ 1<|(ä 8 Zp Ì).seq<|(ä 9 Zq Ì).seq<|ä 10 K1 Ì).seq<|ä 11 RU Ì
def sA:Ę:=(ä 5 Zn Ì).seq<|((ä 6 Zo Ì).seq<|İ 0 Er.loop).seq K5
def BR(t:Array Ï)(a:List é):Ý:=G ((base 20).at ⟨t,[]⟩ [ö Er,ą Er,ô 0,ö K5]) a
def Es(t:Array Ï):é:=(base 20).at ⟨t,[]⟩ [Ñ Zm [1],ö sA]
def K6(t:Array Ï):é:=(base 20).at ⟨t,[]⟩ [Ñ K1 [1],ô 1,ö<|ä 11 RU Ì,ą Er,ô 0,ö K5]
def Ho:Array å:=#[⟨Â 6,Ş (ù 47) #[] #[Ù 2,Ù 3],1, "waitgroup.go:238",#[],Á⟩,
 ⟨Á,.go {callee:=ĕ (Ù 6),args:=#[],argTypes:=#[]},0, "waitgroup.go:238",#[⟨0,Ü⟩],Á⟩]
def tG(c d e f:Ï)(a b:Nat):Array Ï:=#[c,d,À<|Â ⟨a,0,Á⟩,À<|Â ⟨b,0,Á⟩,e,f,Ĉ (ù 47) #[] #[À<|Â ⟨a,0,Á⟩,À<|Â ⟨b,0,Á⟩]]
def BS(a b c d:Ï)(e f:Nat)(g:List é):Ý:=G ((base 30).at ⟨tG a b c d e f,[]⟩ [Ñ Ho [1]]) g
def Hp(a b c d:Ï)(e f:Nat)(g:List é):Ý:=G ((base 30).at ⟨tG a b c d e f,[]⟩ [Ñ Ho []]) g
def Zr(c e f g:Ï)(a b:Nat)(h:List é)(w:ß):stepG Ä Ò (BS c e f g a b h) w=.spawn (Hp c e f g a b h) (born Ä<|pE 47 #[À<|Â ⟨a,0,Á⟩,À<|Â ⟨b,0,Á⟩] #[]) w #[]:=by
 refine(stepG_spawn (d:=pE 47 #[À<|Â ⟨a,0,Á⟩,À<|Â ⟨b,0,Á⟩] #[]) (w':=w) U U (by k_ne) ?_ U).trans ?_
 .simp[Ho,ĉ,ſ,ě,ĥ,tG,pE]
 .have:listed Ä (base 30).fn ⟨tG c e f g a b,[]⟩ Ho[1] w=#[]:=by
   unfold listed;simp[Ho,ĉ,ſ,ě,ĥ,tG,Ī]
  rw[this];rfl
structure ST(ba all n8 n j:Nat)(qs dv:Ï)(t:Array Ï):Prop where
 r:t.size=49
 a:t[8]?=Â (À<|Â ⟨ba,0,Á⟩)
 C:t[10]?=Â qs
 I:t[11]?=Â (À<|Â ⟨n8,0,Á⟩)
 M:t[12]?=Â (À<|Â ⟨all,0,Á⟩)
 N:t[13]?=Â dv
 S:t[27]?=Â (Ê Î n)
 Y:t[28]?=Â (Ê Î j)
structure Hq(ba all n8 n:Nat)(qs:Ï)(t:Array Ï):Prop where
 Dw:t.size=49
 t2:t[2]?=Â (Ê Î n)
 t8:t[8]?=Â (À<|Â ⟨ba,0,Á⟩)
 ajm:t[10]?=Â qs
 ajn:t[11]?=Â (À<|Â ⟨n8,0,Á⟩)
 RV:t[12]?=Â (À<|Â ⟨all,0,Á⟩)
def Hr(t:Array Ï)(h:t.size=49):∃a b c d e f g i j k l m n o p q r s u v w x y z B C D E F G H I J K L M N O P Q S T V W X Y qh qi xv:Ï,t=#[a,b,c,d,e,f,g,i,j,k,l,m,n,o,p,q,r,s,u,v,w,x,y,z,B,C,D,E,F,G,H,I,J,K,L,M,N,O,P,Q,S,T,V,W,X,Y,qh,qi,xv]:=by obtain⟨_,rfl⟩:=uI t h;exact⟨_,_,_,_,_,_,_,_,_,_,_,_,_,_,_,_,_,_,_,_,_,_,_,_,_,_,_,_,_,_,_,_,_,_,_,_,_,_,_,_,_,_,_,_,_,_,_,_,_,U⟩
section
variable{Ψ:ß->Prop}{J a:Jd}{l:fh}{t:Array Ï}{ba all n8:Nat}{qs dv:Ï}
def ajo(d:j0 l)(a:Hq ba all n8 n qs t)(e:∀c,ST ba all n8 n 0 qs (Æ Á 0 0) c->fq Ä Ò J l (BR c qX)):fq Ä Ò J l (Hp v x z jQ b i<|Es t::qX):=by
 obtain⟨m,o,f,p,q,r,s,u,g,w,h,j,k,y,B,C,D,E,F,G,H,I,K,L,M,N,O,P,Q,S,T,V,W,X,Y,rO,rQ,uw,uy,uz,uA,uB,uC,uD,uE,uF,qh,qi,xv,rfl⟩:=Hr t a.Dw;obtain rfl:f=Ê Î n:=by simpa using a.t2
 obtain rfl:g=À (Â ⟨ba,0,Á⟩):=by simpa using a.t8
 obtain rfl:h=qs:=by simpa using a.ajm
 obtain rfl:j=À (Â ⟨n8,0,Á⟩):=by simpa using a.ajn
 obtain rfl:k=À (Â ⟨all,0,Á⟩):=by simpa using a.RV
 apply gl (n:=40) d;have hF:=trivial;simp only[Hp,Es,Zm];iterate 2 w_go fF
 u_leave0 Ħ fF hF
 simp only[sA,Zn,Zo];iterate 13 w_go fF
 refine Ë λ_ _=> ?_;exact e _ ⟨U,U,U,U,U,U,U,U⟩
theorem ajp(d:j0 l)(a:ST ba all n8 n j qs dv t)(q:j<1000)(e:∀c,ST ba all n8 n (j+1) qs dv c->fq Ä Ò J l (BR c qX)):fq Ä Ò J l (Hp v x z jQ b i<|K6 t::qX):=by
 obtain⟨r,s,u,w,y,B,C,D,f,E,g,h,k,m,F,G,H,I,K,L,M,N,O,P,Q,S,T,o,p,V,W,X,Y,sZ,s5,rO,rQ,uw,uy,uz,uA,uB,uC,uD,uE,uF,qh,qi,xv,rfl⟩:=Hr t a.r;obtain rfl:f=À (Â ⟨ba,0,Á⟩):=by simpa using a.a
 obtain rfl:g=qs:=by simpa using a.C
 obtain rfl:h=À (Â ⟨n8,0,Á⟩):=by simpa using a.I
 obtain rfl:k=À (Â ⟨all,0,Á⟩):=by simpa using a.M
 obtain rfl:m=dv:=by simpa using a.N
 obtain rfl:o=Ê Î n:=by simpa using a.S
 obtain rfl:p=Ê Î j:=by simpa using a.Y
 apply gl (n:=40) d;have hF:=trivial;simp only[Hp,K6,K1];iterate 2 w_go fF
 u_leave0 Ħ fF hF
 simp only[RU];iterate 7 w_go fF
 refine Ë λ_ _=> ?_;refine e _ ⟨U,U,U,U,U,U,U,?_⟩;simp;grind [BL]
end
section
variable{l l' y:fh}
def gu.fR(h:gu X l l')(s:gF l){p off:Nat}(c:l.w.heap.size<=p):gu X l {l' with w:=l'.w.setCell ⟨p,off,Á⟩ v}:=by
 have b:∀j,j<l.w.heap.size->(l'.w.setCell ⟨p,off,Á⟩ v).heap[j]?=l'.w.heap[j]?:=λj e=>lD (by show j≠p;omega);refine⟨h.O,h.c,h.S,h.Y,h.b,h.K,h.q,h.d,λj q=> ?_,?_,λj q n=>(b j<|s.fA j q).trans<|h.r j q n,λa q=>(gQ<|b _<|s.I a q).trans<|h.f a q,λa q=>sT.trans<|h.g a q,λa q z=>yW<|h.e a q z⟩
 .show j<(l'.w.setCell ⟨p,off,Á⟩ v).heap.size;rw[j4];exact h.fA j q
 .show l.w.heap.size<=(l'.w.setCell ⟨p,off,Á⟩ v).heap.size;rw[j4];exact h.I
structure il(l:fh)(b:Nat)(o:Ÿ):Prop where
 fx:l.O b
 I:l.w.heap[b]?=Â o
def il.r{o:Ÿ}(h:il l b o)(k:gu X l l')(a:¬X b):il l' b o:=⟨k.O b h.fx,(k.r b (Ã h.fx) a).trans h.I⟩
def il.C(h:il l b (É d e xJ))(a:d[i]?=Â v):l.w.cell? ⟨b,i,Á⟩=Â v:=by simp[Ö,h.I,a]
end
def Zs{sz:Nat}{xs:List Ï}(h:w.ownsRow i e sz v n xs)(a:w.heap.size<=b):¬(Â b=v.ownBlock):=λq=>by have:=(h.lt b q.symm).2;omega
structure Zt(ba all q:Nat)(BT:Ï)(xs:List Ï)(ch bd bw bf:Nat)(l':fh):Prop where
 S:l'.w.ownsRow 0 92 1 BT xs.length xs
 M:∀k,BT.ownBlock=Â k->l'.O k
 r:il l' ch (ŕ q #[] Ì 0 0 Ì)
 C:il l' bd (É #[è<|Â ch] 92)
 N:il l' bw (É #[À<|Â ⟨all,0,Á⟩] 155)
 I:il l' bf (É #[Ĉ (ù 33) #[] #[À<|Â ⟨bd,0,Á⟩,À<|Â ⟨ba,0,Á⟩]] 1)
section
variable{g:Jd}{l:fh}{ba all q:Nat}{f:Option â}{xs:List Ï}
def ajq(t:gF l)(E:¬l.q)(hd:l.d=0)(F:ST ba all m n j (Æ f q i) x d)(vI:j<n)(hn:n<1000)(BU:q<1000)(K7:l.K ⟨all,0,Á⟩/\l.K ⟨all,1,Á⟩)(He:nF all l.w) (lQ:l.w.ownsRow 0 92 1 x j xs) (hO:∀k,x.ownBlock=Â k->l.O k) (hJ0:∀l' t' a r y Q B v1,gu (λb=>Â b=x.ownBlock) l l'->ST ba all m n j (Æ f q i) B t'->Zt ba all q B (xs++[è<|Â a]) a r y Q l'->l.w.heap.size<=a->a<r->r<y->y<Q->(∀k,B.ownBlock=Â k->k≠a/\k≠r/\k≠y/\k≠Q)->g l' (BS (À<|Â ⟨all,0,Á⟩) v1 (À<|Â ⟨all,0,Á⟩) (ñ #[]) y Q<|K6 t'::qX)): fq Ä Ò (KL Ä Ò all g) l (BR d qX):=by
 obtain⟨y0,y1,y2,y3,y4,y5,y6,y7,y8,y9,xy,zD,xA,rT,s7,qS,vT,vU,uJ,uK,uL,s8,s9,td,rM,sY,rN,pD,oy,qe,qf,qg,uu,sZ,s5,rO,rQ,uw,uy,uz,uA,uB,uC,uD,uE,uF,qh,qi,xv,rfl⟩:=Hr d F.r;obtain rfl:y8=À (Â ⟨ba,0,Á⟩):=by simpa using F.a
 obtain rfl:xy=Æ f q i:=by simpa using F.C
 obtain rfl:zD=À (Â ⟨m,0,Á⟩):=by simpa using F.I
 obtain rfl:xA=À (Â ⟨all,0,Á⟩):=by simpa using F.M
 obtain rfl:x=rT:=(show rT=x by simpa using F.N).symm;obtain rfl:pD=Ê Î n:=by simpa using F.S
 obtain rfl:oy=Ê Î j:=by simpa using F.Y
 have au1:(j:Int)<(n:Int):=Z
 have hF:True:=trivial;apply gl (n:=40) t.r;simp only[BR,Er,RR,Zp];repeat w_go fF
 refine Ë λ_ _=> ?_;have Et:Ä.info? 148=Â Ą:=Ļ;refine qV (V:=λp=>è<|Â p) (ob:=ŕ q #[] Ì 0 0 Ì) U U (by k_ne) t.r E (λw=> ?_) (λw=> ?_) λJ kL=> ?_
 .have C:=run_makeChan (P:=Ä) (w:=w) ļ Et Î q Z (by simp[Ą];omega);go_simp
 .simp[go_sem,(events_makeChan (P:=Ä) (w:=w) ļ Et Î q Z (by simp[Ą];omega) #[])]
 walk_nrm;have uM:gu fl l (gS l J<|ŕ q #[] Ì 0 0 Ì):=oA t kL;have c1:il (gS l J<|ŕ q #[] Ì 0 0 Ì) J.heap.size (ŕ q #[] Ì 0 0 Ì):=⟨Ç U,n7⟩;have Zu:l.w.heap.size<=J.heap.size:=kL.r;generalize gS l J (ŕ q #[] Ì 0 0 Ì)=l₁ at uM c1|-;generalize J.heap.size=a at c1 Zu|-;have xE:=uM.N t;have Zv:¬l₁.q:=by rwa[uM.q]
 refine qV (V:=λp=>À<|Â ⟨p,0,Á⟩) (ob:=É #[è Á] 92) U U (by k_ne) xE.r Zv (λw=>by go_simp) (λw=>by simp[go_sem]) λS oz=> ?_;walk_nrm;have Hs:gu fl l (gS l₁ S<|É #[è Á] 92):=uM.fj<|oA xE oz;have c2:=c1.r (oA (X:=fl) (ob:=É #[è Á] 92) xE oz) id;have G:il (gS l₁ S<|É #[è Á] 92) S.heap.size (É #[è Á] 92):=⟨Ç U,n7⟩;have JD:a<S.heap.size:=È (xE.fA a<|Ã c1.fx) oz.r;generalize gS l₁ S (É #[è Á] 92)=l₂ at Hs c2 G|-;generalize S.heap.size=r at G JD|-;clear c1 uM Zv xE oz l₁;have rV:=Hs.N t;have qk:¬l₂.q:=by rwa[Hs.q]
 refine Hg (p:=r) (off:=0) (v:=è<|Â a) (u:=è Á) U U (by k_ne) rV.r qk G.fx (G.C U) (by simp[î,G.I]) U (λw o s=>by go_simp) (λw o s=>by simp[go_sem,o,s]) ?_;have L:gu fl l {l₂ with w:=l₂.w.setCell ⟨r,0,Á⟩ (è<|Â a)}:=Hs.fR t Z;have c3:il {l₂ with w:=l₂.w.setCell ⟨r,0,Á⟩ (è<|Â a)} a (ŕ q #[] Ì 0 0 Ì):=⟨c2.fx,(lD<|by show a≠r;omega).trans c2.I⟩;have T:il {l₂ with w:=l₂.w.setCell ⟨r,0,Á⟩ (è<|Â a)} r (É #[è<|Â a] 92):=⟨G.fx,by show(l₂.w.setCell ⟨r,0,Á⟩<|è<|Â a).heap[r]?=_;unfold þ;simp[í,G.I]⟩;generalize({l₂ with w:=l₂.w.setCell ⟨r,0,Á⟩ (è<|Â a)}:fh)=kA at L c3 T|-;clear c2 G Hs rV qk l₂;have M:=L.N t;have xB:¬kA.q:=by rwa[L.q]
 have Eu:∀k,x.ownBlock=Â k->kA.O k:=λk e=>L.O k<|hO k e;have K8:kA.w.ownsRow 0 92 1 x j xs:=pH lQ λk e=>L.r k (Ã<|hO k e) id;apply gl (n:=10) M.r;simp only[Zq,K1];iterate 4 w_go fF
 refine Ë λ_ _=> ?_;apply oW (x:=⟨r,0,Á⟩) U U (by k_ne) M.r xB (Ã<|Ã T.fx) (T.C U) (λw h=>by go_simp) (λw h=>by simp[go_sem,h]);walk_nrm;refine qV (V:=λp=>Æ (Â ⟨p,0,Á⟩) 1 1) (ob:=É #[è<|Â a] 92) U U (by k_ne) M.r xB (λw=>by go_simp) (λw=>by simp[go_sem]) λH BV=> ?_;walk_nrm;have BQ:gu fl l (gS kA H<|É #[è<|Â a] 92):=L.fj<|oA M BV;have k4:=oA (X:=fl) (ob:=É #[è<|Â a] 92) M BV;have c4:=c3.r k4 id;have d4:=T.r k4 id;have W:il (gS kA H<|É #[è<|Â a] 92) H.heap.size (É #[è<|Â a] 92):=⟨Ç U,n7⟩;have Zl:r<H.heap.size:=È (M.fA r<|Ã T.fx) BV.r;have xF:∀k,x.ownBlock=Â k->(gS kA H<|É #[è<|Â a] 92).O k:=λk e=>Ã<|Eu k e;have BW:=pH K8 (w₁:=(gS kA H<|É #[è<|Â a] 92).w) λk e=>k4.r k (Ã<|Eu k e) id;generalize gS kA H (É #[è<|Â a] 92)=l₄ at BQ c4 d4 W xF BW|-;generalize H.heap.size=px at W Zl|-;clear c3 T L M xB Eu K8 k4 BV kA;have zI:=BQ.N t;have BX:¬l₄.q:=by rwa[BQ.q]
 refine RP (v:=x) (us:=[è<|Â a]) (px:=px) (c:=1) (n:=j) (xs:=xs) (inf:=Λ) (z:=è Á) U U (by k_ne) zI BX U U U Tryz.underlying91 Tryz.type92 U U Nat.one_pos U U (by simp[Λ];omega) (by simp only[œ];omega) BW xF W.fx (ajj<|W.C U) (λ_ C=>List.mem_singleton.1 C▸rfl) λY B N BY sR Ht BZ uO=> ?_;walk_nrm;have Zw:∀b,l.w.heap.size<=b->¬(Â b=x.ownBlock):=λb hb=>Zs lQ hb;have k5:gu (λb=>Â b=x.ownBlock) l₄ (oB l₄ Y N):=RO zI BY Ht λk e=>⟨xF k e,e.symm⟩;have vZ:gu (λb=>Â b=x.ownBlock) l (oB l₄ Y N):=(BQ.fT λ_ _ q=>q.elim).fj k5;have c5:=c4.r k5<|Zw a Z;have d5:=d4.r k5<|Zw r Z;have hl4:px<Y.heap.size:=È (zI.fA px<|Ã W.fx) BY.r;have K9:∀k,B.ownBlock=Â k->k<N.heap.size/\k≠a/\k≠r:=λk e=>by
  have C:=(sR.lt k e).2;rcases uO with z|z
  .rw[z]at e;have:=(lQ.lt k e).2;exact⟨C,Z,Z⟩
  .rw[z]at e;obtain rfl:=Ó e;exact⟨C,Z,Z⟩
 have xG:(oB l₄ Y N).w.ownsRow 0 92 1 B (j+1) (xs++[è<|Â a]):=sR;have RY:(oB l₄ Y N).w.heap.size=N.heap.size:=U;generalize oB l₄ Y N=tg at vZ c5 d5 xG BZ RY|-;rw[<-RY]at K9;clear k5 Ht sR uO c4 d4 W BQ zI BX xF BW BY l₄ RY;have rX:=vZ.N t;have Zx:¬tg.q:=by rwa[vZ.q]
 apply gl (n:=20) rX.r;iterate 4 w_go fF
 u_call Ħ gh Μ fF hF
 iterate 2 w_go fF
 refine Ë λ_ _=> ?_;refine qV (V:=λp=>À<|Â ⟨p,0,Á⟩) (ob:=É #[À<|Â ⟨all,0,Á⟩] 155) U U (by k_ne) rX.r Zx (λw=>by go_simp) (λw=>by simp[go_sem]) λC La=> ?_;walk_nrm;have k6:=oA (X:=fl) (ob:=É #[À<|Â ⟨all,0,Á⟩] 155) rX La;have B2:gu (λb=>Â b=x.ownBlock) l (gS tg C<|É #[À<|Â ⟨all,0,Á⟩] 155):=vZ.fj (k6.fT λ_ _ q=>q.elim);have c6:=c5.r k6 id;have d6:=d5.r k6 id;have g6:il (gS tg C<|É #[À<|Â ⟨all,0,Á⟩] 155) C.heap.size (É #[À<|Â ⟨all,0,Á⟩] 155):=⟨Ç U,n7⟩;have B3:r<C.heap.size:=È (rX.fA r<|Ã d5.fx) La.r;have Hu:∀k,B.ownBlock=Â k->k<C.heap.size/\k≠a/\k≠r:=λk e=>⟨È (K9 k e).1 La.r,(K9 k e).2⟩;have Lb:∀k,B.ownBlock=Â k->(gS tg C<|É #[À<|Â ⟨all,0,Á⟩] 155).O k:=λk e=>Ã<|BZ k e;have RZ:=pH xG (w₁:=(gS tg C<|É #[À<|Â ⟨all,0,Á⟩] 155).w) λk e=>k6.r k (Ã<|BZ k e) id;generalize gS tg C (É #[À<|Â ⟨all,0,Á⟩] 155)=B4 at B2 c6 d6 g6 Lb RZ|-;generalize C.heap.size=y at g6 B3 Hu|-;clear k6 c5 d5 vZ rX Zx BZ xG K9 La tg;have Lc:=B2.N t;have Zy:¬B4.q:=by rwa[B2.q]
 refine qV (V:=λp=>À<|Â ⟨p,0,Á⟩) (ob:=É #[Ĉ (ù 33) #[] #[À<|Â ⟨r,0,Á⟩,À<|Â ⟨ba,0,Á⟩]] 1) U U (by k_ne) Lc.r Zy (λw=>by go_simp) (λw=>by simp[go_sem]) λI R0=> ?_;walk_nrm;have k7:=oA (X:=fl) (ob:=É #[Ĉ (ù 33) #[] #[À<|Â ⟨r,0,Á⟩,À<|Â ⟨ba,0,Á⟩]] 1) Lc R0;have D:gu (λb=>Â b=x.ownBlock) l (gS B4 I<|É #[Ĉ (ù 33) #[] #[À<|Â ⟨r,0,Á⟩,À<|Â ⟨ba,0,Á⟩]] 1):=B2.fj (k7.fT λ_ _ q=>q.elim);have c7:=c6.r k7 id;have d7:=d6.r k7 id;have g7:=g6.r k7 id;have f7:il (gS B4 I<|É #[Ĉ (ù 33) #[] #[À<|Â ⟨r,0,Á⟩,À<|Â ⟨ba,0,Á⟩]] 1) I.heap.size (É #[Ĉ (ù 33) #[] #[À<|Â ⟨r,0,Á⟩,À<|Â ⟨ba,0,Á⟩]] 1):=⟨Ç U,n7⟩;have Ld:y<I.heap.size:=È (Lc.fA y<|Ã g6.fx) R0.r;have R1:∀k,B.ownBlock=Â k->(gS B4 I<|É #[Ĉ (ù 33) #[] #[À<|Â ⟨r,0,Á⟩,À<|Â ⟨ba,0,Á⟩]] 1).O k:=λk e=>Ã<|Lb k e;have Zz:=pH RZ (w₁:=(gS B4 I<|É #[Ĉ (ù 33) #[] #[À<|Â ⟨r,0,Á⟩,À<|Â ⟨ba,0,Á⟩]] 1).w) λk e=>k7.r k (Ã<|Lb k e) id;generalize gS B4 I (É #[Ĉ (ù 33) #[] #[À<|Â ⟨r,0,Á⟩,À<|Â ⟨ba,0,Á⟩]] 1)=B5 at D c7 d7 g7 f7 R1 Zz|-;generalize I.heap.size=Q at f7 Ld|-;clear k7 c6 d6 g6 B2 Lc Zy Lb RZ R0 B4;have Le:=D.N t;apply gl (n:=10) Le.r;iterate 3 w_go fF
 refine Ë λ_ _=> ?_;apply oW (x:=⟨y,0,Á⟩) U U (by k_ne) Le.r (by rwa[D.q]) (Ã<|Ã g7.fx) (g7.C U) (λw h=>by go_simp) (λw h=>by simp[go_sem,h]);walk_nrm;apply gl (n:=10) Le.r;u_call qR.f_add (nm_add Lk) addFn fF hF;refine Ë λ_ _=> ?_;refine YZ qR (⟨Ã (by rw[D.K];exact K7.1),Ã (by rw[D.K];exact K7.2),λw J o s h3 h4 h5 h=>h.fj ⟨o,s,h3,h4,h5⟩⟩) (⟨Le.r,⟨D.e _ K7.1 He.1,D.e _ K7.2 He.2⟩,fL.gd _ _⟩) (D.d.trans hd) λajr ZA=> ?_;walk_nrm;apply gl (l:={B5 with d:=0,w:=ajr}) (n:=10) ZA.1;iterate 3 w_go fF
 refine Ë λ_ _=> ?_;refine .fE λB6 xH=> ?_;have rr:fL B5 B5.w B6:=ZA.2.2.fj ⟨xH.r,xH.I,xH.N,xH.Y,xH.S⟩;have s:=D.G rr;have hA9:gu (λb=>Â b=x.ownBlock) l ({B5 with d:=0,w:=B6}:fh):=⟨s.O,s.c,s.S,s.Y,s.b,s.K,s.q,hd.symm,s.fA,s.I,s.r,s.f,s.g,s.e⟩;have at9:∀{b:Nat} {o:Ÿ},il B5 b o->il ({B5 with d:=0,w:=B6}:fh) b o:=λh=>⟨h.fx,(rr.I _<|Ã h.fx).trans h.I⟩;have hlen:(xs++[è<|Â a]).length=j+1:=by have:=lQ.1;simp;omega
 refine hJ0 {B5 with d:=0,w:=B6} _ a r y Q B _ hA9 ⟨U,U,U,U,U,U,U,U⟩ ⟨?_,R1,at9 c7,at9 d7,at9 g7,at9 f7⟩ Zu JD B3 Ld λk e=>⟨(Hu k e).2.1,(Hu k e).2.2,by have:=(Hu k e).1;omega,by have:=(Hu k e).1;omega⟩;rw[hlen];exact pH Zz λk e=>rr.I k<|Ã<|R1 k e
end
def tj(l:fh)(b:Nat):fh:={l with O:=λj=>l.O j/\j≠b,K:=λa=>l.K a\/a=⟨b,0,Á⟩\/a=⟨b,1,Á⟩}
def nu(l x:fh)(b:Nat):fh:={x with O:=λj=>x.O j\/j=b,K:=l.K}
section
variable{S:Jd}{l:fh}
def fq.R2(W:∀a,l.K a->a.block≠b){x:fh}(h:fq P yQ S x g):¬x.M b->(∀a,x.C a->a.block≠b)->x.K=(tj l b).K->b<x.w.heap.size->(x.w.cell? ⟨b,0,Á⟩).isSome=Ò->(x.w.cell? ⟨b,1,Á⟩).isSome=Ò->j0 x-> fq P yQ (λG H=>∃d,S d H/\G=nu l d b/\¬d.M b/\(∀a,d.C a->a.block≠b)/\d.K=(tj l b).K/\b<d.w.heap.size/\d.w.heap[b]?=x.w.heap[b]?/\d.q=x.q/\j0 d) (nu l x b) g:=by
 have u:∀{x:fh} {c:ß},x.K=(tj l b).K->(x.w.cell? ⟨b,0,Á⟩).isSome=Ò->(x.w.cell? ⟨b,1,Á⟩).isSome=Ò->fL (nu l x b) x.w c->fL x x.w c:=λ{x c} f i m r=>
  ⟨r.r,λj p=>r.I j<|p.imp Ã id,r.N,r.Y,λa o q=>by
   rw[f]at o;rcases o with z|z|z
   .exact r.S a z q
   .rw[z,gQ<|r.I b<|Ã<|Ç U];exact i
   .rw[z,gQ (r.I b (Ã (Ç U)))];exact m⟩
 induction h with
 |@fE x g h=>
  intro s t f v i m I;refine .fE λc r=>⟨{x with w:=c},h c<|u f i m r,U,s,t,f,È v r.r,r.I b<|Ã<|Ç U,U,my I<|u f i m r⟩
 |@jR x g G' W' E' L' iN h hd _ ih=>
  intro s t f v i m I;refine .mk iN λc r=> ?_;have B:=u f i m r;have D:=hd c B;have E:=È v r.r;have J:=λq=>s<|Ã q;have L:=D.jY b E J λa e q=>t a (Ã q) e;have F:(L' c).w.heap[b]?=x.w.heap[b]?:=by rw[D.b];exact L.trans<|r.I b<|Ã<|Ç U
  refine⟨G' c,W' c,E' c,nu l (L' c) b,h c B,?_,?_⟩
  .refine⟨D.C,λj q=> ?_,λj q=> ?_,D.I,D.r,D.M,U,λj p y n=>D.jY j p (λq=>y<|Ã q) n,λa o y n=>D.N a o (λq=>y<|Ã q) n,λa o y=>D.Y a o λq=>y<|Ã q,D.f,D.g,D.m,λe N=> ?_,D.h,D.q,λq=> ?_,D.b⟩
   .rcases q with q|q
    .exact(D.S j q).imp Ã id
    .exact Ã<|Ç q
   .rcases q with q|q
    .exact D.fA j q
    .rw[q];exact È E D.C
   .rcases D.c e N with⟨a,y,n⟩|h|h|h|h|⟨a,y,n⟩
    .exact Ã ⟨a,y,n.imp Ã id⟩
    .exact Ç<|Ã h
    .exact Ç<|Ç<|Ã h
    .exact Ç<|Ç<|Ç<|Ã h
    .exact Ç<|Ç<|Ç<|Ç<|Ã h
    .exact Ç<|Ç<|Ç<|Ç<|Ç ⟨a,Ã y,n⟩
   .let⟨Q,T,V⟩:=D.i q;exact⟨Q,T,by funext j;show((L' c).O j\/j=b)=(x.O j\/j=b);rw[V]⟩
  .refine(ih c B (λq=>q.elim (λz=>(D.S b z).elim J λy=>by omega) λz=>s<|Ç<|by rw[<-D.I];exact z) (λa q=>t a<|q.imp (by rw[D.r];exact id)<|by rw[D.M];exact id) (D.k.trans f) (by rw[D.b];exact È E D.C) (by rw[gQ F];exact i) (by rw[gQ F];exact m) λj p=>by rw[D.b];exact D.fA j p).fT ?_;rintro G H ⟨d,y,e,j,n,o,p,z,N,Q⟩;exact⟨d,y,e,j,n,o,p,z.trans F,N.trans D.q,Q⟩
end
section
variable{L:WgLink}{l:fh}{J:Jd}{c:é}{k:List ŷ}{ty:ŭ}
structure ajs(b:Nat)(cc:Array Ï)(ty:ŭ)(l l':fh):Prop where
 r:gu (λj=>j=b) l l'
 O:l'.O=l.O
 C:l'.w.heap[b]?=Â (É (cc.setIfInBounds 0<|Ê ê 4294967296) ty)
theorem ZB(a:l.O b)(w:ß)(d:Nat):nu l {tj l b with d:=d,w:=w} b={l with d:=d,w:=w}:=by
 have:(λj=>(l.O j/\j≠b)\/j=b)=l.O:=by grind
 unfold nu tj;simp only[this]
def ZC{C:Array Ï}(H:WgLib P L)(s:gF l)(hq:¬l.q)(Y:l.d=0)(x:l.O b)(M:l.w.heap[b]?=Â (É C ty))(N:C[0]?=Â (Ê ê 0))(o:(C[1]?).isSome=Ò) (hT:∀B,ajs b C ty l B->fq P yQ J B (G (c.at (y.put ((Q[i]?).bind (·.dst))<|ñ #[])<|Ñ Q jJ::k) qX)): fq P yQ J l (G ((base L.add).at ⟨#[À<|Â ⟨b,0,Á⟩,Ê Î 1,Å,Å,Å,Å,Å,Å,Å,Å,Å,Å,Å,Å,Å,Å,Å,Å,Å,Å,Å,Å,Å,Å,Å,Å,Å,Å,Å,Å,Å,Å,Å,Å,Å,Å,Å,Å,Å,Å,Å,Å,Å,Å,Å,Å,Å,Å,Å,Å,Å,Å,Å,Å,Å,Å,Å,Å,Å,Å,Å,Å,Å,Å,Å,Å,Å,Å,Å,Å,Å,Å,Å,Å,Å,Å,Å,Å,Å,Å,Å,Å,Å,Å,Å,Å,Å,Å,Å,Å,Å,Å,Å,Å,Å,Å,Å,Å,Å,Å,Å,Å,Å,Å,Å,Å,Å,Å,Å,Å,Å,Å,Å,Å,Å,Å,Å],[]⟩ [ö<|body_add L])<|c.at y (Ñ Q (i::jJ)::k)::qX):=by
 have e0:l.w.cell? ⟨b,0,Á⟩=Â (Ê ê 0):=by simp[Ö,M,N]
 have e1:(l.w.cell? ⟨b,1,Á⟩).isSome=Ò:=by let⟨u,D⟩:=Ô.1 o;simp[Ö,M,D]
 have S:∀y:â,l.K y->y.block≠b:=λy T e=>(s.S y T).1<|Ã<|e▸x;let J1:Jd:=λB g'=>g'=G (c.at (y.put ((Q[i]?).bind (·.dst))<|ñ #[])<|Ñ Q jJ::k) qX/\B={tj l b with d:=0,w:=B.w}/\fL (tj l b) l.w B.w
 have hW:fq P yQ (KL P yQ b J1) (tj l b) (G ((base L.add).at ⟨#[À<|Â ⟨b,0,Á⟩,Ê Î 1,Å,Å,Å,Å,Å,Å,Å,Å,Å,Å,Å,Å,Å,Å,Å,Å,Å,Å,Å,Å,Å,Å,Å,Å,Å,Å,Å,Å,Å,Å,Å,Å,Å,Å,Å,Å,Å,Å,Å,Å,Å,Å,Å,Å,Å,Å,Å,Å,Å,Å,Å,Å,Å,Å,Å,Å,Å,Å,Å,Å,Å,Å,Å,Å,Å,Å,Å,Å,Å,Å,Å,Å,Å,Å,Å,Å,Å,Å,Å,Å,Å,Å,Å,Å,Å,Å,Å,Å,Å,Å,Å,Å,Å,Å,Å,Å,Å,Å,Å,Å,Å,Å,Å,Å,Å,Å,Å,Å,Å,Å,Å,Å,Å,Å,Å],[]⟩ [ö<|body_add L])<|c.at y (Ñ Q (i::jJ)::k)::qX):=by refine YZ (Ψ:=λw=>fL (tj l b) l.w w) H ⟨Ã<|Ç<|Ã U,Ã<|Ç<|Ç U,λw n o t a g m h=>h.fj ⟨o,t,a,g,m⟩⟩ ⟨λj f=>s.fA j<|Ã f.1,⟨by rw[show(tj l b).w=l.w from rfl,e0];rfl,e1⟩,fL.gd _ _⟩ Y λn v=> .fE λp r=>⟨U,U,v.2.2.fj ⟨r.r,r.I,r.N,r.Y,r.S⟩⟩
 have hstart:=hW.R2 S (λq=>q.elim (λz=>z.2 U) λz=>s.c b x z) (λy T e=>s.N y T<|Ã<|e▸x) U (s.fA b<|Ã x) (by rw[show(tj l b).w=l.w from rfl,e0];rfl) e1 λj f=>s.fA j<|Ã f.1;rw[show nu l (tj l b) b=l from ZB x l.w l.d]at hstart;apply hstart.mo;rintro l1 g1 ⟨E,⟨B7,ajt,hA⟩,rfl,ZD,ZE,uk,hlt1,nG,BU,lo1⟩;let⟨g2,ZF,V⟩:=hA 0;have sW:ê.wrap (0+gk)=gk:=by rw[show(0:Int)+gk=gk from rfl];exact J7 A A
 rw[sW]at V ZF;rw[if_pos U]at V;have hqx:¬E.q:=by rwa[BU]
 refine .mk ajt λn r=> ?_;have F:=(r.I b<|Ã<|Ç U).trans<|nG.trans M;have c0:n.cell? (fS b)=Â (Ê ê 0):=by simp[Ö,fS,F,N]
 have au2:=È hlt1 r.r;have W:(n.setCell (fS b)<|Ê ê gk).heap[b]?=Â (É (C.setIfInBounds 0<|Ê ê 4294967296) ty):=by unfold þ;simp[í,fS,F,gk]
 have rx:fL E E.w (n.setCell (fS b)<|Ê ê gk):=by
  refine⟨by rw[j4];exact r.r,λj f=>((lD λe=>ZD (by have t:j=b:=e;rwa[<-t])).trans<|r.I j<|f.imp Ã id),λa g=>(gQ<|lD<|ZE a g).trans<|r.N a g,λa g=>sT.trans<|r.Y a g,λa g q=> ?_⟩
  .rw[uk]at g;refine yW ?_;rcases g with z|z|z
   .exact r.S a z q
   .rw[z,gQ<|r.I b<|Ã<|Ç U];rwa[z]at q
   .rw[z,gQ<|r.I b<|Ã<|Ç U];rwa[z]at q
 refine⟨g2,_,_,nu l {E with w:=n.setCell (fS b) (Ê ê gk)} b,ZF n c0 (by simp[î,fS,F]),?_,?_⟩
 .refine⟨by rw[j4];exact Ú _,λ_ h=>Ã h,λj h=> ?_,U,U,U,U,λj _ o _=>lD λe=>o<|Ç e,λa _ o _=>gQ (lD λe=>o<|Ç e),λ_ _ _=>OU,U,U,U,λe t=> ?_,?_,U,λq=>absurd q hqx,U⟩
  .rw[j4];rcases h with h|h
   .exact È (lo1 j h) r.r
   .rwa[h]
  .have:e=kG (fS b)\/e=mY (fS b):=by simpa using t
   rcases this with rfl|rfl
   .exact Ã ⟨fS b,U,Ã<|Ç U⟩
   .exact Ã ⟨fS b,U,Ã<|Ç U⟩
  .exact(Ņ (λe t=>by
    have:e=kG (fS b)\/e=mY (fS b):=by simpa using t
    rcases this with rfl|rfl<;>exact⟨by simp[kG,mY],by simp[kG,mY]⟩) _).symm
 have z1:((n.setCell (fS b)<|Ê ê gk).cell? ⟨b,1,Á⟩).isSome=Ò:=by let⟨u,D⟩:=Ô.1 o;exact yW<|by simp[Ö,F,D]
 have aju:=(V.kg rx).R2 S ZD ZE uk (by show b<(n.setCell (fS b)<|Ê ê gk).heap.size;rwa[j4]) (yW<|by rw[show(⟨b,0,Á⟩:â)=fS b from rfl,c0];rfl) z1 (λj f=>by show j<(n.setCell (fS b)<|Ê ê gk).heap.size;rw[j4];exact È (lo1 j f) r.r);apply aju.mo;rintro l2 g3 ⟨v,⟨n9,ajv,g4,ajw,hN2⟩,rfl,nM2,nC2,zt,Lf,X,qk,lo2⟩;have ajx:¬v.q:=by rwa[qk]
 refine .mk ajv λp m=> ?_;have I:∀a:â,a.block=b->p.cell? a=v.w.cell? a:=λa e=>gQ<|m.I a.block<|Ã<|Ç e;have rx2:fL v v.w p:=⟨m.r,λj f=>m.I j<|f.imp Ã id,m.N,m.Y,λa g q=>by
  rw[zt]at g;rcases g with z|z|z
  .exact m.S a z q
  .rwa[I a (by rw[z])]
  .rwa[I a (by rw[z])]⟩
 refine⟨g4,p,_,nu l {v with w:=p} b,ajw p,?_,?_⟩
 .refine⟨Ú _,λ_ h=>Ã h,λj h=> ?_,U,U,U,U,λ_ _ _ _=>rfl,λ_ _ _ _=>rfl,λ_ _ _=>rfl,U,U,U,λe t=> ?_,?_,U,λq=>absurd q ajx,U⟩
  .rcases h with h|h
   .exact È (lo2 j h) m.r
   .rw[h];exact È Lf m.r
  .have:e=jZ (.read<|gT b):=by simpa using t
   rw[this];exact Ç<|Ç<|Ç<|Ç<|Ç ⟨gT b,Ç U,Ã U⟩
  .exact(Ņ (λe t=>by
    have:e=jZ (.read<|gT b):=by simpa using t
    rw[this];exact⟨by simp[jZ],by simp[jZ]⟩) _).symm
 have z:(p.cell? ⟨b,0,Á⟩).isSome=Ò:=by rw[I _ U];have:v.w.heap[b]?=_:=X.trans W;simp[Ö,this,(æ.1 N).1]
 have y1:(p.cell? ⟨b,1,Á⟩).isSome=Ò:=by rw[I _ U];have:v.w.heap[b]?=_:=X.trans W;let⟨u,D⟩:=Ô.1 o;simp[Ö,this,(æ.1 D).1]
 have u:=(hN2.kg rx2).R2 S nM2 nC2 zt (È Lf m.r) z y1 λj f=>È (lo2 j f) m.r;apply u.mo;rintro l3 g5 ⟨x3,⟨rfl,D,t⟩,rfl,nM3,nC3,hk3,ajy,hb3,xB,lo3⟩;rw[D,ZB x];have R3:=hb3.trans<|(m.I b<|Ã<|Ç U).trans<|X.trans W;refine hT _ ⟨⟨λ_ h=>h,λ_ h=>Ã h,U,U,U,U,U,Y.symm,λj f=>È (s.fA j<|Ã f) t.r,t.r,λj f hn=>t.I j (f.imp (λq=>⟨q,hn⟩) id),t.N,t.Y,λa g=>t.S a<|Ã g⟩,U,R3⟩
end
noncomputable def R4:Ę:=lj Ĝ [1,1,1]
noncomputable def ZG:Ę:=lj Ĝ [1,1,0,1,0,0,1,1,0,0,1,1,1]
noncomputable def R5:Ę:=lj Ĝ [1,1,0,1,0,0,1,1,0,0,1,1,0,1]
noncomputable def Hv:Ę:=lj Ĝ [1,1,0,1,0,0]
noncomputable def R6:Ę:=lj Ĝ [1,1,0,1,0,0,1,1,1]
noncomputable def B8 (t:Array Ï) (a:List é):Ý:=G ((base 29).at ⟨t,[]⟩ [ö Hv,ą Hv,ô 0,ö R4]) a
noncomputable def Hw (t:Array Ï) (a:List é):Ý:=G ((base 29).at ⟨t,[]⟩ [ö R5,ö ZG,ô 1,ö R6,ą Hv,ô 0,ö R4]) a
structure PT(iv qv rs:Ï)(lg R i:Nat)(t:Array Ï):Prop where
 r:t.size=48
 N:t[4]?=Â iv
 S:t[5]?=Â qv
 Y:t[6]?=Â (À<|Â ⟨lg,0,Á⟩)
 C:t[13]?=Â rs
 I:t[14]?=Â (Ê Î R)
 M:t[15]?=Â (Ê Î i)
def Lg(t:Array Ï)(h:t.size=48):∃a b c d e f g i j k l m n o p q r s u v w x y z B C D E F G H I J K L M N O P Q S T V W X Y qh qi:Ï,t=#[a,b,c,d,e,f,g,i,j,k,l,m,n,o,p,q,r,s,u,v,w,x,y,z,B,C,D,E,F,G,H,I,J,K,L,M,N,O,P,Q,S,T,V,W,X,Y,qh,qi]:=by obtain⟨_,rfl⟩:=uI t h;exact⟨_,_,_,_,_,_,_,_,_,_,_,_,_,_,_,_,_,_,_,_,_,_,_,_,_,_,_,_,_,_,_,_,_,_,_,_,_,_,_,_,_,_,_,_,_,_,_,_,U⟩
def ajz(w:ß)(a c:Option â)(b:Int):(Ċ 148 #[(0,À a),(1,Ê Î b),(2,À c)]).run Ä w=.ok (Đ #[À a,Ê Î b,À c,À Á]) w:=run_build w 148 _ _ gh
def ajA(w:ß)(a c:Option â)(b:Int):(Ċ 148 #[(0,À a),(1,Ê Î b),(2,À c)]).events Ä w #[]=#[]:=by unfold Ċ;simp only[Sem.events_bind];simp[go_sem]
section
variable{p:Nat}{v0 v1 v2 v3:Ï}
def ajB(h:w.heap[p]?=Â (É #[v,x,z,jQ] e)):(iZ w p v0 v1 v2 v3).heap[p]?=Â (É #[v0,v1,v2,v3] e):=by unfold iZ þ;simp[í,h]
def gu.iZ{l c:fh}(h:gu X l c)(s:gF l)(r:fL c c.w u)(f:l.w.heap.size<=p):gu X l {c with w:=fB.iZ u p v0 v1 v2 v3}:=by
 have b:=h.G r;have e:∀{j:Nat},j<l.w.heap.size->(fB.iZ u p v0 v1 v2 v3).heap[j]?=u.heap[j]?:=λ{j} q=>zy Z;refine⟨b.O,b.c,b.S,b.Y,b.b,b.K,b.q,b.d,λj q=> ?_,?_,λj q n=>(e<|s.fA j q).trans<|b.r j q n,λa q=>(gQ<|e<|s.I a q).trans<|b.f a q,λa q=>(xh<|e<|s.I a q).trans<|b.g a q,λa q z=> ?_⟩
 .show j<(fB.iZ u p v0 v1 v2 v3).heap.size;rw[xx];exact b.fA j q
 .show l.w.heap.size<=(fB.iZ u p v0 v1 v2 v3).heap.size;rw[xx];exact b.I
 .show((fB.iZ u p v0 v1 v2 v3).cell? a).isSome=Ò;rw[gQ<|e (s.S a q).2.1];exact b.e a q z
def il.rly{l:fh}{o:Ÿ}(h:il l b o)(r:fL l l.w u):il {l with w:=u} b o:=⟨h.fx,(r.I b<|Ã h.fx).trans h.I⟩
end
section
variable{J:Jd}{l:fh}{t:Array Ï}{iv qv:Ï}{lg R:Nat}{kd:Int}
def ajC(f:gF l)(o:¬l.q)(k:PT iv qv (Æ (Â ⟨j,0,Á⟩) R n) lg R i t)(ZH:i<R)(hR:R<1000)(T:l.M j)(V:l.w.cell? ⟨j,i,Á⟩=Â (À<|Â ⟨b,0,Á⟩))(F:l.M b)(W:l.w.cell? ⟨b,4,Á⟩=Â (Ê Î kd)) (X:∀B u a,gu fl l B->l.w.heap.size<=a->il B a (É #[À<|Â ⟨b,0,Á⟩,Ê Î i,À<|Â ⟨lg,0,Á⟩,À Á] 148)->PT iv qv (Æ (Â ⟨j,0,Á⟩) R n) lg R i u->u[9]?=Â (À<|Â ⟨a,0,Á⟩)->u[28]?=Â (ŝ<|decide<|kd≠1)->fq Ä Ò J B (Hw u qX)): fq Ä Ò J l (B8 t qX):=by
 obtain⟨y0,y1,y2,y3,G,H,Y,y7,y8,y9,xy,zD,xA,rT,s7,qS,vT,vU,uJ,uK,uL,s8,s9,td,rM,sY,rN,pD,oy,qe,qf,qg,uu,sZ,s5,rO,rQ,uw,uy,uz,uA,uB,uC,uD,uE,uF,qh,qi,rfl⟩:=Lg t k.r;obtain rfl:iv=G:=(show G=iv by simpa using k.N).symm;obtain rfl:qv=H:=(show H=qv by simpa using k.S).symm;obtain rfl:Y=À (Â ⟨lg,0,Á⟩):=by simpa using k.Y
 obtain rfl:rT=Æ (Â ⟨j,0,Á⟩) R n:=by simpa using k.C
 obtain rfl:s7=Ê Î R:=by simpa using k.I
 obtain rfl:qS=Ê Î i:=by simpa using k.M
 have au3:(i:Int)<(R:Int):=Z
 have hF:True:=trivial;have rU:∀y:â,False->l.r y:=λy ha=>ha.elim;apply gl (n:=40) f.r;simp only[B8];conv in Hv=>whnf
 repeat w_go fF
 refine Ë λ_ _=> ?_;apply oW (x:=⟨j,i,Á⟩) U U (by k_ne) f.r o (Ã T) V (λw h=>by go_simp) (λw h=>by simp[go_sem,h]);walk_nrm;apply gl (n:=40) f.r;repeat w_go fF
 refine Ë λ_ _=> ?_;refine rS (v:=Đ #[À<|Â ⟨b,0,Á⟩,Ê Î i,À<|Â ⟨lg,0,Á⟩,À Á]) U U (by k_ne) f.r o (λc r=> ?_) (λc r e C=> ?_) ?_
 .have S:=ajz c (Â ⟨b,0,Á⟩) (Â ⟨lg,0,Á⟩) i;go_simp
 .simp[go_sem,ajA c (Â ⟨b,0,Á⟩) (Â ⟨lg,0,Á⟩) i]at C
 walk_nrm;refine G5 (ob:=É #[À Á,Ê Î 0,À Á,À Á] 148) U U (by k_ne) f.r o (λw=>by go_simp) (λw=>by simp[go_sem]) λc D=> ?_;walk_nrm;have s:gu fl l (gS l c<|É #[À Á,Ê Î 0,À Á,À Á] 148):=oA f D;have m:il (gS l c<|É #[À Á,Ê Î 0,À Á,À Á] 148) c.heap.size (É #[À Á,Ê Î 0,À Á,À Á] 148):=⟨Ç U,n7⟩;have E:l.w.heap.size<=c.heap.size:=D.r;generalize gS l c (É #[À Á,Ê Î 0,À Á,À Á] 148)=l₁ at s m|-;generalize c.heap.size=a at m E|-;have I:=s.N f;have K:¬l₁.q:=by rwa[s.q]
 refine vM U U (by k_ne) λd z=> ?_;have g:=m.rly z;replace g:d.heap[a]?=_:=g.I;have L:d.cell? ⟨a,0,Á⟩=Â (À Á):=by simp[Ö,g]
 have N:d.cell? ⟨a,1,Á⟩=Â (Ê Î 0):=by simp[Ö,g]
 have O:d.cell? ⟨a,2,Á⟩=Â (À Á):=by simp[Ö,g]
 have P:d.cell? ⟨a,3,Á⟩=Â (À Á):=by simp[Ö,g]
 have Q:∀r,d.frozen? ⟨a,r,Á⟩=Ì:=λr=>by simp[î,g]
 go_simp;refine⟨{l₁ with w:=iZ d a (À<|Â ⟨b,0,Á⟩) (Ê Î i) (À<|Â ⟨lg,0,Á⟩) (À Á)},KV (p:=a) (my I.r z) K m.fx xx (λr S=>zy S) ⟨U,U,U⟩ λe C=> ?_,?_⟩
 .have S:=đ C;have e:∀r,qj l₁ ⟨a,r,Á⟩:=λr=>Ã m.fx;simp[go_sem,á _ _ _ _ _ _ (show Ø (À<|Â ⟨b,0,Á⟩)=Ò from rfl),á _ _ _ _ _ _ (show Ø (À<|Â ⟨lg,0,Á⟩)=Ò from rfl),á _ _ _ _ _ _ (show Ø (À Á)=Ò from rfl),L,N,O,P,Q]at S;rcases S with rfl|rfl|rfl|rfl
  .exact(e _).r
  .exact(e _).r
  .exact(e _).r
  .exact(e _).r
 have e:gu fl l ({l₁ with w:=iZ d a (À<|Â ⟨b,0,Á⟩) (Ê Î i) (À<|Â ⟨lg,0,Á⟩) (À Á)}:fh):=s.iZ f z E;have S:il ({l₁ with w:=iZ d a (À<|Â ⟨b,0,Á⟩) (Ê Î i) (À<|Â ⟨lg,0,Á⟩) (À Á)}:fh) a (É #[À<|Â ⟨b,0,Á⟩,Ê Î i,À<|Â ⟨lg,0,Á⟩,À Á] 148):=⟨m.fx,ajB g⟩;generalize({l₁ with w:=iZ d a (À<|Â ⟨b,0,Á⟩) (Ê Î i) (À<|Â ⟨lg,0,Á⟩) (À Á)}:fh)=l₂ at e S|-;clear m s I K g L N O P Q z d l₁ D c;have C:=e.N f;apply gl (n:=20) C.r;repeat w_go fF
 refine Ë λ_ _=> ?_;apply oW (x:=⟨b,4,Á⟩) U U (by k_ne) C.r (by rwa[e.q]) (Ã<|e.M F) ((gQ<|e.r b F id).trans W) (λw h=>by go_simp) (λw h=>by simp[go_sem,h]);walk_nrm;apply gl (n:=20) C.r;iterate 2 w_go fF
 refine Ë λ_ _=> ?_;apply X l₂ _ a e E S ⟨U,U,U,U,U,U,U⟩ U;simp;rfl
end
section
variable{J:Jd}{l:fh}{xs:List Ï}
def ajD(s:gF l)(E:¬l.q)(o:PT v x z b j i d)(ZH:i<j)(hR:j<1000)(h9:d[9]?=Â (À<|Â ⟨m,0,Á⟩))(R7:d[28]?=Â (ŝ Ò))(hn:n<1000) (h:il l m (É #[À<|Â ⟨k,0,Á⟩,Ê Î i,À<|Â ⟨b,0,Á⟩,À Á] 148)) (lQ:l.w.ownsRow 0 148 4 x n xs) (K:∀a,x.ownBlock=Â a->l.O a) (hJ:∀B L t,gu (λf=>Â f=x.ownBlock) l B->B.w.ownsRow 0 148 4 t (n+1) (xs++[À<|Â ⟨k,0,Á⟩,Ê Î i,À<|Â ⟨b,0,Á⟩,À Á])->(∀a,t.ownBlock=Â a->B.O a)->(t.ownBlock=x.ownBlock\/∃a,t.ownBlock=Â a/\l.w.heap.size<=a)->PT v t z b j (i+1) L->fq Ä Ò J B (B8 L qX)): fq Ä Ò J l (Hw d qX):=by
 obtain⟨y0,y1,y2,y3,M,N,y6,y7,y8,y9,xy,zD,xA,P,s7,qS,vT,vU,uJ,uK,uL,s8,s9,td,rM,sY,rN,pD,oy,qe,qf,qg,uu,sZ,s5,rO,rQ,uw,uy,uz,uA,uB,uC,uD,uE,uF,qh,qi,rfl⟩:=Lg d o.r;obtain rfl:v=M:=(show M=v by simpa using o.N).symm;obtain rfl:x=N:=(show N=x by simpa using o.S).symm;obtain rfl:y6=À (Â ⟨b,0,Á⟩):=by simpa using o.Y
 obtain rfl:y9=À (Â ⟨m,0,Á⟩):=by simpa using h9
 obtain rfl:z=P:=(show P=z by simpa using o.C).symm;obtain rfl:s7=Ê Î j:=by simpa using o.I
 obtain rfl:qS=Ê Î i:=by simpa using o.M
 obtain rfl:oy=ŝ Ò:=by simpa using R7
 have hF:True:=trivial;apply gl (n:=40) s.r;simp only[Hw];conv in R5=>whnf
 conv in R6=>whnf
 repeat w_go fF
 refine Ë λ_ _=> ?_;refine rS (v:=Đ #[À<|Â ⟨k,0,Á⟩,Ê Î i,À<|Â ⟨b,0,Á⟩,À Á]) U U (by k_ne) s.r E (λp r=> ?_) (λp r e y=> ?_) ?_
 .skip;have C:p.cell? ⟨m,0,Á⟩=Â (À<|Â ⟨k,0,Á⟩):=(ia.r (show ia l ⟨m,0,Á⟩from Ã<|Ã h.fx) r).trans<|h.C U;have D:p.cell? ⟨m,1,Á⟩=Â (Ê Î i):=(ia.r (show ia l ⟨m,1,Á⟩from Ã<|Ã h.fx) r).trans<|h.C U;have F:p.cell? ⟨m,2,Á⟩=Â (À<|Â ⟨b,0,Á⟩):=(ia.r (show ia l ⟨m,2,Á⟩from Ã<|Ã h.fx) r).trans<|h.C U;have G:p.cell? ⟨m,3,Á⟩=Â (À Á):=(ia.r (show ia l ⟨m,3,Á⟩from Ã<|Ã h.fx) r).trans<|h.C U;go_simp
 .have u:∀g,ia l ⟨m,g,Á⟩:=λg=>Ã<|Ã h.fx;have C:p.cell? ⟨m,0,Á⟩=Â (À<|Â ⟨k,0,Á⟩):=(ia.r (show ia l ⟨m,0,Á⟩from Ã<|Ã h.fx) r).trans<|h.C U;have D:p.cell? ⟨m,1,Á⟩=Â (Ê Î i):=(ia.r (show ia l ⟨m,1,Á⟩from Ã<|Ã h.fx) r).trans<|h.C U;have F:p.cell? ⟨m,2,Á⟩=Â (À<|Â ⟨b,0,Á⟩):=(ia.r (show ia l ⟨m,2,Á⟩from Ã<|Ã h.fx) r).trans<|h.C U;have G:p.cell? ⟨m,3,Á⟩=Â (À Á):=(ia.r (show ia l ⟨m,3,Á⟩from Ã<|Ã h.fx) r).trans<|h.C U;simp[go_sem,C,D,F,G]at y;rcases y with rfl|rfl|rfl|rfl
  .exact(u _).C
  .exact(u _).C
  .exact(u _).C
  .exact(u _).C
 walk_nrm;refine qV (V:=λp=>Æ (Â ⟨p,0,Á⟩) 1 1) (ob:=É #[À<|Â ⟨k,0,Á⟩,Ê Î i,À<|Â ⟨b,0,Á⟩,À Á] 148) U U (by k_ne) s.r E (λw=>by go_simp) (λw=>by simp[go_sem]) λr Q=> ?_;walk_nrm;have p:=oA (X:=fl) (ob:=É #[À<|Â ⟨k,0,Á⟩,Ê Î i,À<|Â ⟨b,0,Á⟩,À Á] 148) s Q;have y:il (gS l r<|É #[À<|Â ⟨k,0,Á⟩,Ê Î i,À<|Â ⟨b,0,Á⟩,À Á] 148) r.heap.size (É #[À<|Â ⟨k,0,Á⟩,Ê Î i,À<|Â ⟨b,0,Á⟩,À Á] 148):=⟨Ç U,n7⟩;have C:∀a,x.ownBlock=Â a->(gS l r<|É #[À<|Â ⟨k,0,Á⟩,Ê Î i,À<|Â ⟨b,0,Á⟩,À Á] 148).O a:=λa e=>Ã<|K a e;have F:=pH lQ (w₁:=(gS l r<|É #[À<|Â ⟨k,0,Á⟩,Ê Î i,À<|Â ⟨b,0,Á⟩,À Á] 148).w) λa e=>p.r a (Ã<|K a e) id;generalize gS l r (É #[À<|Â ⟨k,0,Á⟩,Ê Î i,À<|Â ⟨b,0,Á⟩,À Á] 148)=l₄ at p y C F|-;generalize r.heap.size=px at y|-;have G:=p.N s;have S:¬l₄.q:=by rwa[p.q]
 have Et:Ä.info? 148=Â Ą:=Ļ;refine RP (v:=x) (us:=[À<|Â ⟨k,0,Á⟩,Ê Î i,À<|Â ⟨b,0,Á⟩,À Á]) (px:=px) (c:=1) (n:=n) (sz:=4) (xs:=xs) (inf:=Ą) (z:=Đ #[À Á,Ê Î 0,À Á,À Á]) U U (by k_ne) G S U U U Ľ Et U U Z U U (by simp[Ą];omega) (by simp only[œ];omega) F C y.fx (λg u D=>y.C<|by simpa using D) (by simp[Ø]) λu g D H T W Y uO=> ?_;walk_nrm;have k5:gu (λf=>Â f=x.ownBlock) l₄ (oB l₄ u D):=RO G H W λa e=>⟨C a e,e.symm⟩;have I:gu (λf=>Â f=x.ownBlock) l (oB l₄ u D):=(p.fT λ_ _ q=>q.elim).fj k5;have R8:g.ownBlock=x.ownBlock\/∃a,g.ownBlock=Â a/\l.w.heap.size<=a:=uO.imp id λq=>⟨_,q,Õ p.I H.r⟩;have xG:(oB l₄ u D).w.ownsRow 0 148 4 g (n+1) (xs++[À<|Â ⟨k,0,Á⟩,Ê Î i,À<|Â ⟨b,0,Á⟩,À Á]):=T;generalize oB l₄ u D=tg at I xG Y|-;clear p k5 W T uO y G S C F H Q;have rX:=I.N s;have hw:Î.wrap ((i:Int)+1)=((i+1:Nat):Int):=by rw[BL Z Z];omega
 apply gl (n:=40) rX.r;repeat w_go fF
 refine Ë λ_ _=> ?_;refine hJ tg _ g I xG Y R8 ⟨U,U,U,U,U,U,?_⟩;simp[hw]
def ajE(G:gF l)(hq:¬l.q)(hd:l.d=0)(I:PT v x z b j i d)(ZH:i<j)(hR:j<1000)(h9:d[9]?=Â (À<|Â ⟨m,0,Á⟩))(R7:d[28]?=Â (ŝ Ì))(hn:n<1000) (h0:il l m (É #[À<|Â ⟨k,0,Á⟩,Ê Î i,À<|Â ⟨b,0,Á⟩,À Á] 148)) (lQ:l.w.ownsRow 0 148 4 v n xs) (hO:∀f,v.ownBlock=Â f->l.O f) (tf:v.ownBlock≠Â m) (hJ:∀T t' W s,gu (λg=>Â g=v.ownBlock\/g=m) l T->T.w.ownsRow 0 148 4 W (n+1) (xs++[À<|Â ⟨k,0,Á⟩,Ê Î i,À<|Â ⟨b,0,Á⟩,À<|Â ⟨s,0,Á⟩])->(∀f,W.ownBlock=Â f->T.O f)->(W.ownBlock=v.ownBlock\/∃f,W.ownBlock=Â f/\s<f)->l.w.heap.size<=s->il T s (É #[Ê ê 4294967296,Ê Ď 0,Æ Á 0 0] 96)->PT W x z s j (i+1) t'->fq Ä Ò J T (B8 t' qX)): fq Ä Ò J l (Hw d qX):=by
 obtain⟨y0,y1,y2,y3,y4,y5,y6,y7,y8,y9,xy,zD,xA,rT,s7,qS,vT,vU,uJ,uK,uL,s8,s9,td,rM,sY,rN,pD,oy,qe,qf,qg,uu,sZ,s5,rO,rQ,uw,uy,uz,uA,uB,uC,uD,uE,uF,qh,qi,rfl⟩:=Lg d I.r;obtain rfl:v=y4:=(show y4=v by simpa using I.N).symm;obtain rfl:x=y5:=(show y5=x by simpa using I.S).symm;obtain rfl:y6=À (Â ⟨b,0,Á⟩):=by simpa using I.Y
 obtain rfl:y9=À (Â ⟨m,0,Á⟩):=by simpa using h9
 obtain rfl:z=rT:=(show rT=z by simpa using I.C).symm;obtain rfl:s7=Ê Î j:=by simpa using I.I
 obtain rfl:qS=Ê Î i:=by simpa using I.M
 obtain rfl:oy=ŝ Ì:=by simpa using R7
 have hF:True:=trivial;apply gl (n:=40) G.r;simp only[Hw];conv in R5=>whnf
 conv in ZG=>whnf
 conv in R6=>whnf
 repeat w_go fF
 refine Ë λ_ _=> ?_;refine G5 (ob:=É #[Ê ê 0,Ê Ď 0,Æ Á 0 0] 96) U U (by k_ne) G.r hq (λw=>by go_simp) (λw=>by simp[go_sem]) λD kL=> ?_;walk_nrm;have t:gu fl l (gS l D<|É #[Ê ê 0,Ê Ď 0,Æ Á 0 0] 96):=oA G kL;have F:il (gS l D<|É #[Ê ê 0,Ê Ď 0,Æ Á 0 0] 96) D.heap.size (É #[Ê ê 0,Ê Ď 0,Æ Á 0 0] 96):=⟨Ç U,n7⟩;have Hx:l.w.heap.size<=D.heap.size:=kL.r;generalize gS l D (É #[Ê ê 0,Ê Ď 0,Æ Á 0 0] 96)=l₁ at t F|-;generalize D.heap.size=s at F Hx|-;clear kL D;have xE:=t.N G;have BU:¬l₁.q:=by rwa[t.q]
 have htl:m<l.w.heap.size:=G.fA m<|Ã h0.fx;have t1:=h0.r t id;apply gl (n:=40) xE.r;iterate 7 w_go fF
 u_call qR.f_add (nm_add Lk) addFn fF hF
 refine Ë λ_ _=> ?_;refine ZC qR xE BU (by rwa[t.d]) F.fx F.I U U λy hC=> ?_;walk_nrm;have E:gu (λg=>g=s) l₁ y:=hC.r;have Lh:gu fl l y:=⟨λf q=>E.O f<|t.O f q,λf q=>(E.c f q).elim (t.c f) λh=>Ç<|Õ t.I h,E.S.trans t.S,E.Y.trans t.Y,E.b.trans t.b,E.K.trans t.K,E.q.trans t.q,E.d.trans t.d,E.fA,Õ t.I E.I,λo Y nx=>(E.r o (t.M Y) λe=>by have:=G.fA o Y;omega).trans<|t.r o Y nx,λa H=>(E.f a<|by rwa[t.C]).trans<|t.f a H,λa H=>(E.g a<|by rwa[t.C]).trans<|t.g a H,λa H h=>E.e a (by rwa[t.K])<|t.e a H h⟩;have L:=t1.r E Z;have N:il y s (É #[Ê ê 4294967296,Ê Ď 0,Æ Á 0 0] 96):=⟨E.O s F.fx,hC.C⟩;have rV:=Lh.N G;have qk:¬y.q:=by rwa[Lh.q]
 have hgl:s<y.w.heap.size:=rV.fA s<|Ã N.fx;clear hC E t1 F t xE BU l₁;apply gl (n:=40) rV.r;iterate 5 w_go fF
 refine Ë λ_ _=> ?_;refine Hg (p:=m) (off:=3) (v:=À<|Â ⟨s,0,Á⟩) (u:=À Á) U U (by k_ne) rV.r qk L.fx (L.C U) (by simp[î,L.I]) U (λw r S=>by go_simp) (λw r S=>by simp[go_sem,á _ _ _ _ _ _ (show Ø (À<|Â ⟨s,0,Á⟩)=Ò from rfl),r,S]) ?_;have P:gu (λg=>g=m) l {y with w:=y.w.setCell ⟨m,3,Á⟩ (À<|Â ⟨s,0,Á⟩)}:=(Lh.fT λ_ _ q=>q.elim).fj (KZ (p:=m) rV (fL.gd _ _) L.fx U j4 λo Y=>lD Y);have B:il {y with w:=y.w.setCell ⟨m,3,Á⟩ (À<|Â ⟨s,0,Á⟩)} m (É #[À<|Â ⟨k,0,Á⟩,Ê Î i,À<|Â ⟨b,0,Á⟩,À<|Â ⟨s,0,Á⟩] 148):=⟨L.fx,by show(y.w.setCell ⟨m,3,Á⟩<|À<|Â ⟨s,0,Á⟩).heap[m]?=_;unfold þ;simp[í,L.I]⟩;have g3:il {y with w:=y.w.setCell ⟨m,3,Á⟩ (À<|Â ⟨s,0,Á⟩)} s (É #[Ê ê 4294967296,Ê Ď 0,Æ Á 0 0] 96):=⟨N.fx,(lD<|by show s≠m;omega).trans N.I⟩;have ajF:s<({y with w:=y.w.setCell ⟨m,3,Á⟩ (À<|Â ⟨s,0,Á⟩)}:fh).w.heap.size:=by show s<(y.w.setCell ⟨m,3,Á⟩<|À<|Â ⟨s,0,Á⟩).heap.size;rwa[j4]
 generalize({y with w:=y.w.setCell ⟨m,3,Á⟩ (À<|Â ⟨s,0,Á⟩)}:fh)=kA at P B g3 ajF|-;clear L N Lh rV qk hgl y;have Q:=P.N G;have xB:¬kA.q:=by rwa[P.q]
 have Eu:∀f,v.ownBlock=Â f->kA.O f:=λf e=>P.O f<|hO f e;have K8:kA.w.ownsRow 0 148 4 v n xs:=pH lQ λf e=>P.r f (Ã<|hO f e) λh=>tf<|h▸e;apply gl (n:=40) Q.r;iterate 3 w_go fF
 refine Ë λ_ _=> ?_;refine rS (v:=Đ #[À<|Â ⟨k,0,Á⟩,Ê Î i,À<|Â ⟨b,0,Á⟩,À<|Â ⟨s,0,Á⟩]) U U (by k_ne) Q.r xB (λD r=> ?_) (λD r e he=> ?_) ?_
 .skip;have g0:D.cell? ⟨m,0,Á⟩=Â (À<|Â ⟨k,0,Á⟩):=(ia.r (show ia kA ⟨m,0,Á⟩from Ã<|Ã B.fx) r).trans<|B.C U;have F:D.cell? ⟨m,1,Á⟩=Â (Ê Î i):=(ia.r (show ia kA ⟨m,1,Á⟩from Ã<|Ã B.fx) r).trans<|B.C U;have N:D.cell? ⟨m,2,Á⟩=Â (À<|Â ⟨b,0,Á⟩):=(ia.r (show ia kA ⟨m,2,Á⟩from Ã<|Ã B.fx) r).trans<|B.C U;have g3:D.cell? ⟨m,3,Á⟩=Â (À<|Â ⟨s,0,Á⟩):=(ia.r (show ia kA ⟨m,3,Á⟩from Ã<|Ã B.fx) r).trans<|B.C U;go_simp
 .have S:∀o,ia kA ⟨m,o,Á⟩:=λo=>Ã<|Ã B.fx;have g0:D.cell? ⟨m,0,Á⟩=Â (À<|Â ⟨k,0,Á⟩):=(ia.r (show ia kA ⟨m,0,Á⟩from Ã<|Ã B.fx) r).trans<|B.C U;have F:D.cell? ⟨m,1,Á⟩=Â (Ê Î i):=(ia.r (show ia kA ⟨m,1,Á⟩from Ã<|Ã B.fx) r).trans<|B.C U;have N:D.cell? ⟨m,2,Á⟩=Â (À<|Â ⟨b,0,Á⟩):=(ia.r (show ia kA ⟨m,2,Á⟩from Ã<|Ã B.fx) r).trans<|B.C U;have g3:D.cell? ⟨m,3,Á⟩=Â (À<|Â ⟨s,0,Á⟩):=(ia.r (show ia kA ⟨m,3,Á⟩from Ã<|Ã B.fx) r).trans<|B.C U;simp[go_sem,g0,F,N,g3]at he;rcases he with rfl|rfl|rfl|rfl
  .exact(S _).C
  .exact(S _).C
  .exact(S _).C
  .exact(S _).C
 walk_nrm;refine qV (V:=λp=>Æ (Â ⟨p,0,Á⟩) 1 1) (ob:=É #[À<|Â ⟨k,0,Á⟩,Ê Î i,À<|Â ⟨b,0,Á⟩,À<|Â ⟨s,0,Á⟩] 148) U U (by k_ne) Q.r xB (λw=>by go_simp) (λw=>by simp[go_sem]) λS BV=> ?_;walk_nrm;have r:=oA (X:=fl) (ob:=É #[À<|Â ⟨k,0,Á⟩,Ê Î i,À<|Â ⟨b,0,Á⟩,À<|Â ⟨s,0,Á⟩] 148) Q BV;have p4:il (gS kA S<|É #[À<|Â ⟨k,0,Á⟩,Ê Î i,À<|Â ⟨b,0,Á⟩,À<|Â ⟨s,0,Á⟩] 148) S.heap.size (É #[À<|Â ⟨k,0,Á⟩,Ê Î i,À<|Â ⟨b,0,Á⟩,À<|Â ⟨s,0,Á⟩] 148):=⟨Ç U,n7⟩;have xF:∀f,v.ownBlock=Â f->(gS kA S<|É #[À<|Â ⟨k,0,Á⟩,Ê Î i,À<|Â ⟨b,0,Á⟩,À<|Â ⟨s,0,Á⟩] 148).O f:=λf e=>Ã<|Eu f e;have BW:=pH K8 (w₁:=(gS kA S<|É #[À<|Â ⟨k,0,Á⟩,Ê Î i,À<|Â ⟨b,0,Á⟩,À<|Â ⟨s,0,Á⟩] 148).w) λf e=>r.r f (Ã<|Eu f e) id;generalize gS kA S (É #[À<|Â ⟨k,0,Á⟩,Ê Î i,À<|Â ⟨b,0,Á⟩,À<|Â ⟨s,0,Á⟩] 148)=l₄ at r p4 xF BW|-;generalize S.heap.size=px at p4|-;have zI:=r.N Q;have BX:¬l₄.q:=by rwa[r.q]
 have Et:Ä.info? 148=Â Ą:=Ļ;refine RP (v:=v) (us:=[À<|Â ⟨k,0,Á⟩,Ê Î i,À<|Â ⟨b,0,Á⟩,À<|Â ⟨s,0,Á⟩]) (px:=px) (c:=1) (n:=n) (sz:=4) (xs:=xs) (inf:=Ą) (z:=Đ #[À Á,Ê Î 0,À Á,À Á]) U U (by k_ne) zI BX U U U Ľ Et U U Z U U (by simp[Ą];omega) (by simp only[œ];omega) BW xF p4.fx (λo u hu=>p4.C<|by simpa using hu) (by simp[Ø]) λEv BT Li BY sR Ht BZ uO=> ?_;walk_nrm;have k5:gu (λg=>Â g=v.ownBlock) l₄ (oB l₄ Ev Li):=RO zI BY Ht λf e=>⟨xF f e,e.symm⟩;have vZ:gu (λg=>Â g=v.ownBlock) kA (oB l₄ Ev Li):=(r.fT λ_ _ q=>q.elim).fj k5;have R8:BT.ownBlock=v.ownBlock\/∃f,BT.ownBlock=Â f/\kA.w.heap.size<=f:=uO.imp id λq=>⟨_,q,Õ r.I BY.r⟩;have xG:(oB l₄ Ev Li).w.ownsRow 0 148 4 BT (n+1) (xs++[À<|Â ⟨k,0,Á⟩,Ê Î i,À<|Â ⟨b,0,Á⟩,À<|Â ⟨s,0,Á⟩]):=sR;generalize oB l₄ Ev Li=tg at vZ xG BZ|-;clear r k5 Ht sR uO p4 zI BX xF BW BY BV;have rX:=vZ.N Q;have hw:Î.wrap ((i:Int)+1)=((i+1:Nat):Int):=by rw[BL Z Z];omega
 have g5:=g3.r vZ<|Zs lQ Hx;have B2:gu (λg=>Â g=v.ownBlock\/g=m) l tg:=(P.fT λ_ _ q=>Ç q).fj (vZ.fT λ_ _ q=>Ã q);apply gl (n:=40) rX.r;repeat w_go fF
 refine Ë λ_ _=> ?_;refine hJ tg _ BT s B2 xG BZ (R8.imp id λ⟨f,q1,q2⟩=>⟨f,q1,Z⟩) Hx g5 ⟨U,U,U,U,U,U,?_⟩;simp[hw]
end
def ie(kd:Nat->Int)(i:Nat):List Nat:=(ã i).filter λj=>decide<|kd j=1
def jC(kd:Nat->Int)(i:Nat):List Nat:=(ã i).filter λj=>decide<|kd j≠1
def fQ(kd:Nat->Int)(i:Nat):Nat:=(ie kd i).length
def tI(a g:Nat->Nat)(p:Nat×Nat):List Ï:=[À<|Â ⟨a p.1,0,Á⟩,Ê Î p.1,À<|Â ⟨g p.2,0,Á⟩,À<|Â ⟨g<|p.2+1,0,Á⟩]
def tQ(kd:Nat->Int)(a g:Nat->Nat)(p:Nat):List Ï:=[À<|Â ⟨a p,0,Á⟩,Ê Î p,À<|Â ⟨g<|fQ kd p,0,Á⟩,À Á]
def jT(kd:Nat->Int)(rq g:Nat->Nat)(i:Nat):List Ï:=(ie kd i).zipIdx.flatMap<|tI rq g
def mP(kd:Nat->Int)(a g:Nat->Nat)(i:Nat):List Ï:=(jC kd i).flatMap<|tQ kd a g
section
variable{kd:Nat->Int}{rq g:Nat->Nat}
def tq(h:kd i=1):ie kd (i+1)=ie kd i++[i]:=by simp[ie,ÿ,ā,h]
def we(h:kd i≠1):ie kd (i+1)=ie kd i:=by simp[ie,ÿ,ā,h]
def R9(h:kd i=1):jC kd (i+1)=jC kd i:=by simp[jC,ÿ,ā,h]
theorem Sb(h:kd i≠1):jC kd (i+1)=jC kd i++[i]:=by simp[jC,ÿ,ā,h]
def Sc:∀i,fQ kd i<=i:=λi=>by unfold fQ ie;exact Õ (ģ _ _) ft
def ajG:∀i,(jC kd i).length<=i:=λi=>by unfold jC;exact Õ (ģ _ _) ft
def ZI(h:j<=i):fQ kd j<=fQ kd i:=by
 induction i with
 |zero=>
  have:j=0:=Z
  rw[this];exact Ú _
 |succ i c=>
  by_cases e:j=i+1
  .rw[e];exact Ú _
  .have a:=c Z;by_cases b:kd i=1
   .unfold fQ at a|-;rw[tq b];simp;omega
   .unfold fQ at a|-;rwa[we b]
def ajH(h:kd i=1):jT kd rq g (i+1)=jT kd rq g i++tI rq g (i,fQ kd i):=by unfold jT;rw[tq h,List.zipIdx_append,List.flatMap_append];simp[fQ]
def ajI(h:kd i≠1):jT kd rq g (i+1)=jT kd rq g i:=by unfold jT;rw[we h]
def ajJ(h:kd i=1):mP kd rq g (i+1)=mP kd rq g i:=by unfold mP;rw[R9 h]
theorem ajK(h:kd i≠1):mP kd rq g (i+1)=mP kd rq g i++tQ kd rq g i:=by unfold mP;grind [Sb]
def Sd{α:Type}{f a:α->List Ï}:∀(l:List α),(∀x∈l,f x=a x)->l.flatMap f=l.flatMap a
 |[],_=>rfl
 |x::l,h=>by rw[Ć,Ć,h x List.mem_cons_self,Sd l λy b=>h y<|List.mem_cons_of_mem _ b]
def ajL(h:∀k,k<=fQ kd i->D k=g k):jT kd rq D i=jT kd rq g i:=by
 unfold jT;refine Sd _ λx a=> ?_;let⟨p,k⟩:=x;have b:=(List.mem_zipIdx a).2.1;have c:k<fQ kd i:=by unfold fQ;omega
 simp[tI,h k Z,h (k+1) Z]
def ajM(h:∀k,k<=fQ kd i->D k=g k):mP kd rq D i=mP kd rq g i:=by
 unfold mP;refine Sd _ λp a=> ?_;have b:p<i:=by have:=(Ā.1 a).1;simpa using this
 simp[tQ,h (fQ kd p)<|ZI Z]
def Se{α:Type}{f:α->List Ï}(a:∀x,(f x).length=4)(b:i<4):∀(l:List α) (k:Nat) (x:α),l[k]?=Â x->(l.flatMap f)[k*4+i]?=(f x)[i]?
 |[],k,x,h=>by simp at h
 |y::l,0,x,h=>by
  obtain rfl:y=x:=by simpa using h
  rw[Ć,List.getElem?_append_left (by rw[a];omega)];simp
 |y::l,k+1,x,h=>by rw[Ć,List.getElem?_append_right (by rw[a];omega),a,show(k+1)*4+i-4=k*4+i by omega];exact Se a b l k x<|by simpa using h
end
section
variable{Y:Nat->Prop}{l m o:fh}
def gu.xI(h:gu X l m)(k:gu Y m o)(e:∀j,l.M j->¬Y j):gu X l o:= ⟨λj q=>k.O j<|h.O j q,λj q=>(k.c j q).elim (h.c j) λz=>Ç<|Õ h.I z,k.S.trans h.S,k.Y.trans h.Y,k.b.trans h.b,k.K.trans h.K,k.q.trans h.q,k.d.trans h.d,k.fA,Õ h.I k.I,λj c f=>(k.r j (h.M c)<|e j c).trans<|h.r j c f,λa b=>(k.f a<|by rwa[h.C]).trans<|h.f a b,λa b=>(k.g a<|by rwa[h.C]).trans<|h.g a b,λa b z=>k.e a (by rwa[h.K])<|h.e a b z⟩
end
abbrev Sf:Ÿ:=É #[Ê ê 4294967296,Ê Ď 0,Æ Á 0 0] 96
structure zK(kd:Nat->Int)(rq g:Nat->Nat)(S i:Nat)(iv qv:Ï)(l0 l:fh):Prop where
 r:gu fl l0 l
 jT:l.w.ownsRow 0 148 4 iv (fQ kd i) (jT kd rq g i)
 mP:l.w.ownsRow 0 148 4 qv (jC kd i).length (mP kd rq g i)
 C:∀k,iv.ownBlock=Â k->l.O k/\l0.w.heap.size<=k
 I:∀k,qv.ownBlock=Â k->l.O k/\l0.w.heap.size<=k
 M:∀k,iv.ownBlock=Â k->qv.ownBlock≠Â k
 N:∀k,1<=k->k<=fQ kd i->il l (g k) Sf/\l0.w.heap.size<=g k/\iv.ownBlock≠Â (g k)/\qv.ownBlock≠Â (g k)
 g0:g 0<l0.w.heap.size
 S:g 0=S
 Y:∀k k',k<k'->k'<=fQ kd i->g k<g k'
section
variable{kd:Nat->Int}{rq g:Nat->Nat}{iv qv:Ï}{l0 l m o:fh}
theorem zK.ajN(h:zK kd rq g n i iv qv l0 l)(C:gF l0)(s:gF l)(t:kd i≠1)(a:gu fl l m)(d:gu (λb=>Â b=qv.ownBlock) m o)(G:o.w.ownsRow 0 148 4 v ((jC kd i).length+1) (fB.mP kd rq g i++tQ kd rq g i))(D:∀k,v.ownBlock=Â k->o.O k)(u:v.ownBlock=qv.ownBlock\/∃k,v.ownBlock=Â k/\m.w.heap.size<=k):zK kd rq g n (i+1) iv v l0 o:=by
 have p:fQ kd (i+1)=fQ kd i:=by unfold fQ;rw[we t]
 have x:∀{j},l.O j->qv.ownBlock≠Â j->v.ownBlock≠Â j:=λ{j} c hn e=>by
  rcases u with z|⟨k,q,B⟩
  .grind
  .rw[q]at e;have:=Ó e;have:=(λc=>È (s.fA _<|Ã c) a.I) c;omega
 refine⟨(h.r.fj a).xI d λj c e=> ?_,?_,?_,λk e=>⟨d.O k<|a.O k (h.C k e).1,(h.C k e).2⟩,λk e=>⟨D k e,?_⟩,λk e=>x (h.C k e).1<|h.M k e,λk r f=> ?_,h.g0,h.S,λk y r f=>h.Y k y r<|by rwa[<-p]⟩
 .have:=(h.I j e.symm).2;have:=C.fA j c;omega
 .rw[p,ajI t];refine pH h.jT λk e=>(d.r k (Ã<|a.O k (h.C k e).1) λz=>h.M k e z.symm).trans<|a.r k (Ã (h.C k e).1) id
 .grind [Sb,ajK]
 .rcases u with z|⟨y,q,B⟩
  .rw[z]at e;exact(h.I k e).2
  .rw[q]at e;have:=Ó e;have:=h.r.I;have:=a.I;omega
 .rw[p]at f;let⟨q,E,F,B⟩:=h.N k r f;exact⟨(q.r a id).r d λz=>B z.symm,E,F,x q.fx B⟩
theorem zK.kV{tb:Nat}(h:zK kd rq g n i iv qv l0 l)(F:gF l0)(s:gF l)(a:kd i=1)(c:gu fl l m)(P:l.w.heap.size<=tb)(p:gu (λb=>Â b=iv.ownBlock\/b=tb) m o)(G:o.w.ownsRow 0 148 4 v (fQ kd i+1) (fB.jT kd rq g i++[À<|Â ⟨rq i,0,Á⟩,Ê Î i,À<|Â ⟨g<|fQ kd i,0,Á⟩,À<|Â ⟨J,0,Á⟩]))(H:∀k,v.ownBlock=Â k->o.O k)(u:v.ownBlock=iv.ownBlock\/∃k,v.ownBlock=Â k/\J<k)(Q:m.w.heap.size<=J)(I:il o J Sf):zK kd rq (λk=>if k<=fQ kd i then g k else J) n (i+1) v qv l0 o:=by
 have x:fQ kd (i+1)=fQ kd i+1:=by unfold fQ;rw[tq a];simp
 have S:=h.r.I;have T:=c.I;have d:∀{j},l.O j->j<l.w.heap.size:=λq=>s.fA _<|Ã q;have B:∀{j},l.O j->iv.ownBlock≠Â j->v.ownBlock≠Â j:=λ{j} q hn e=>by grind
 have C:∀k,k<=fQ kd i->(if k<=fQ kd i then g k else J)=g k:=λk a=>if_pos a;refine⟨(h.r.fj c).xI p λj q e=> ?_,?_,?_,λk e=>⟨H k e,?_⟩,λk e=>⟨p.O k<|c.O k (h.I k e).1,(h.I k e).2⟩,λk e z=>B (h.I k z).1 (λy=>h.M k y z) e,λk t D=> ?_,?_,?_,λk r t D=> ?_⟩
 .have:=F.fA j q;rcases e with e|e
  .have:=(h.C j e.symm).2;omega
  .omega
 .rw[x,ajH a,ajL C];simpa[tI,show¬(fQ kd i+1<=fQ kd i) by omega]using G
 .rw[R9 a,ajJ a,ajM C];refine pH h.mP λk e=> ?_;refine(p.r k (Ã<|c.O k (h.I k e).1) ?_).trans<|c.r k (Ã (h.I k e).1) id;rintro(z|z)
  .exact h.M k z.symm e
  .have:=d (h.I k e).1;omega
 .rcases u with z|⟨r,K,L⟩
  .rw[z]at e;exact(h.C k e).2
  .grind
 .by_cases y:k<=fQ kd i
  .simp only[if_pos y];let⟨f,M,E,N⟩:=h.N k t y;refine⟨(f.r c id).r p ?_,M,B f.fx E,N⟩;rintro(z|z)
   .exact E z.symm
   .have:=d f.fx;omega
  .simp only[if_neg y];refine⟨I,Z,λe=> ?_,λe=> ?_⟩
   .rcases u with z|⟨r,K,L⟩
    .rw[z]at e;have:=d (h.C J e).1;omega
    .grind
   .have:=d (h.I J e).1;omega
 .simp only[ă,if_true];exact h.g0
 .simp only[ă,if_true];exact h.S
 .rw[x]at D;by_cases y:r<=fQ kd i
  .simp only[if_pos y,if_pos (show k<=fQ kd i by omega)];exact h.Y k r t y
  .simp only[if_neg y,if_pos (show k<=fQ kd i by omega)];by_cases E:k=0
   .subst E;have:=h.g0;omega
   .let⟨f,_⟩:=h.N k Z Z;have:=d f.fx;omega
end
section
variable{J:Jd}{ra:Option â}{rb cr R:Nat}{cs:List é}{kd:Nat->Int}{rq:Nat->Nat}{l0:fh}
def Sg(j:gF l0)(u:¬l0.q)(v:l0.d=0)(m:R<1000)(p:0<R->ra=Â ⟨rb,0,Á⟩)(x:0<R->l0.M rb)(y:∀i,i<R->l0.w.cell? ⟨rb,i,Á⟩=Â (À<|Â ⟨rq i,0,Á⟩))(r:∀i,i<R->l0.M (rq i))(z:∀i,i<R->l0.w.cell? ⟨rq i,4,Á⟩=Â (Ê Î<|kd i)) (B:∀g N P a b,zK kd rq g n R a b l0 N->PT a b (Æ ra R cr) (g<|fQ kd R) R R P->fq Ä Ò J N (B8 P cs)): ∀d i,R=i+d->∀g l t a b,zK kd rq g n i a b l0 l->PT a b (Æ ra R cr) (g<|fQ kd i) R i t->fq Ä Ò J l (B8 t cs)
 |0,i,hi,g,l,t,a,b,hP,hT=>by obtain rfl:R=i:=hi;exact B g l t a b hP hT
 |d+1,i,hi,g,l,t,a,b,hP,hT=>by
  have f:i<R:=Z
  have o:=hP.r.N j;have Q:¬l.q:=by rwa[hP.r.q]
  have S:=x Z;refine ajC o Q (by rwa[<-p Z]) f m (hP.r.M S) ((gQ<|hP.r.r rb S id).trans<|y i f) (hP.r.M<|r i f) ((gQ<|hP.r.r _ (r i f) id).trans<|z i f) λl1 t1 T c tf V C W s=> ?_;rw[<-p Z]at C;have X:=c.N o;have Y:¬l1.q:=by rwa[c.q]
  have hc:=Sc (kd:=kd) i;have hcq:=ajG (kd:=kd) i;by_cases h:kd i=1
  .rw[decide_eq_false (by simpa using h)]at s;refine ajE X Y (by rwa[c.d,hP.r.d]) C f m W s Z V (pH hP.jT λk e=>c.r k (Ã (hP.C k e).1) id) (λk e=>c.O k (hP.C k e).1) (λe=>by have:=o.fA T<|Ã (hP.C T e).1;omega) λD E iv' gt F G H I Hx hg K=> ?_;apply Sg j u v m p x y r z B d (i+1) Z _ D E iv' b (hP.kV j o h c tf F G H I Hx hg);have L:fQ kd (i+1)=fQ kd i+1:=by unfold fQ;rw[tq h];simp
   rw[L];simp only[show¬(fQ kd i+1<=fQ kd i) by omega,if_false];exact K
  .rw[decide_eq_true (by simpa using h)]at s;refine ajD X Y C f m W s Z V (pH hP.mP λk e=>c.r k (Ã (hP.I k e).1) id) (λk e=>c.O k (hP.I k e).1) λD E e F G H I K=> ?_;apply Sg j u v m p x y r z B d (i+1) Z _ D E a e (hP.ajN j o h c F G H I);have L:fQ kd (i+1)=fQ kd i:=by unfold fQ;rw[we h]
   rwa[L]
end
noncomputable def ZJ:Ę:=lj Ĝ []
noncomputable def ZK (a b:Ï) (c:List é):Ý:=G ((base 29).at ⟨#[a,b,Å,Å,Å,Å,Å,Å,Å,Å,Å,Å,Å,Å,Å,Å,Å,Å,Å,Å,Å,Å,Å,Å,Å,Å,Å,Å,Å,Å,Å,Å,Å,Å,Å,Å,Å,Å,Å,Å,Å,Å,Å,Å,Å,Å,Å,Å],[]⟩ [ö ZJ]) c
def ajO{c:é}{d:ŏ}{k:List ŷ}{K:Ý->ß->Array ž->Prop}{t u v:Tmp}(g:f.kind=Ğ)(j:y.defers=[])(l:P.funcs[f.fn]?=Â s)(e:s.results=#[.tmp t,.tmp u,.tmp v]) (h:K (G (c.at (d.put ((Q[i]?).bind (·.dst))<|ñ #[y.tmps.getD t Å,y.tmps.getD u Å,y.tmps.getD v Å])<|Ñ Q jJ::k) qX) w #[]): (stepG P yQ (G {f.at y L with mode:=.returning}<|c.at d (Ñ Q (i::jJ)::k)::qX) w).goes K:=by rwa[stepG_leave g j l (v:=ñ #[y.tmps.getD t Å,y.tmps.getD u Å,y.tmps.getD v Å]) (by simp[results,e,go_sem]) (by simp[results,e,go_sem]),Ģ]
structure Hz(kd:Nat->Int)(rq g:Nat->Nat)(R:Nat)(iv qv sv:Ï)(l l':fh):Prop where
 Y:gu fl l l'
 jT:l'.w.ownsRow 0 148 4 iv (fQ kd R) (jT kd rq g R)
 mP:l'.w.ownsRow 0 148 4 qv (jC kd R).length (mP kd rq g R)
 r:∀k,iv.ownBlock=Â k->l'.O k/\l.w.heap.size<=k
 C:∀k,qv.ownBlock=Â k->l'.O k/\l.w.heap.size<=k
 dis:∀k,iv.ownBlock=Â k->qv.ownBlock≠Â k
 N:il l' (g 0) (É #[Ê ê 0,Ê Ď 0,sv] 96)
 I:∀k,1<=k->k<=fQ kd R->il l' (g k) Sf
 M:∀k,k<=fQ kd R->l.w.heap.size<=g k/\iv.ownBlock≠Â (g k)/\qv.ownBlock≠Â (g k)
 S:∀k k',k<k'->k'<=fQ kd R->g k<g k'
def ajP(w:ß)(a:Option â)(b c:Nat):(Ċ 96 #[(1,Æ a b c)]).run Ä w=.ok (Đ #[Ê ê 0,Ê Ď 0,Æ a b c]) w:=run_build w 96 _ _ gh
def ajQ(w:ß)(a:Option â)(b c:Nat):(Ċ 96 #[(1,Æ a b c)]).events Ä w #[]=#[]:=by unfold Ċ;simp only[Sem.events_bind];simp[go_sem]
section
variable{J:Jd}{l:fh}{ra:Option â}{rb cr R:Nat}{sa:Option â}{sn sc:Nat}{k:List ŷ}{kd:Nat->Int}{rq:Nat->Nat}
def ajR(j:gF l)(u:¬l.q)(I:l.d=0)(K:R<1000)(L:0<R->ra=Â ⟨rb,0,Á⟩)(z:0<R->l.M rb)(N:∀i,i<R->l.w.cell? ⟨rb,i,Á⟩=Â (À<|Â ⟨rq i,0,Á⟩))(B:∀i,i<R->l.M (rq i))(O:∀i,i<R->l.w.cell? ⟨rq i,4,Á⟩=Â (Ê Î<|kd i)) (P:∀g s b c,Hz kd rq g R b c (Æ sa sn sc) l s->fq Ä Ò J s (G (f.at (y.put ((Q[i]?).bind (·.dst))<|ñ #[b,c,À<|Â ⟨g<|fQ kd R,0,Á⟩])<|Ñ Q jJ::k) qX)): fq Ä Ò J l (ZK (Æ ra R cr) (Æ sa sn sc)<|f.at y (Ñ Q (i::jJ)::k)::qX):=by
 have hF:=trivial;apply gl (n:=40) j.r;simp only[ZK];conv in ZJ=>whnf
 repeat w_go fF
 refine Ë λ_ _=> ?_;refine rS (v:=Đ #[Ê ê 0,Ê Ď 0,Æ sa sn sc]) U U (by k_ne) j.r u (λa r=> ?_) (λa r e p=> ?_) ?_
 .have h:=ajP a sa sn sc;go_simp
 .have h:=ajQ a sa sn sc;simp[go_sem,h]at p
 walk_nrm;refine qV (V:=λp=>À<|Â ⟨p,0,Á⟩) (ob:=É #[Ê ê 0,Ê Ď 0,Æ sa sn sc] 96) U U (by k_ne) j.r u (λw=>by go_simp) (λw=>by simp[go_sem]) λa C=> ?_;walk_nrm;have p:gu fl l (gS l a<|É #[Ê ê 0,Ê Ď 0,Æ sa sn sc] 96):=oA j C;have t:il (gS l a<|É #[Ê ê 0,Ê Ď 0,Æ sa sn sc] 96) a.heap.size (É #[Ê ê 0,Ê Ď 0,Æ sa sn sc] 96):=⟨Ç U,n7⟩;have D:=C.r;generalize gS l a (É #[Ê ê 0,Ê Ď 0,Æ sa sn sc] 96)=l₁ at p t|-;generalize a.heap.size=gt at t D|-;have m:=p.N j;have S:¬l₁.q:=by rwa[p.q]
 apply gl (n:=40) m.r;repeat w_bar fF
 w_go fF
 refine Ë λ_ _=> ?_;have T:=m.fA gt<|Ã t.fx;refine Sg m S (by rwa[p.d]) K L (λh=>p.M<|z h) (λi h=>(gQ<|p.r rb (z Z) id).trans<|N i h) (λi h=>p.M<|B i h) (λi h=>(gQ<|p.r _ (B i h) id).trans<|O i h) (λg s W b c h r=> ?_) R 0 Z (λ_=>gt) l₁ _ (Æ Á 0 0) (Æ Á 0 0) ⟨gu.gd m.r,⟨U,Ã ⟨U,U⟩⟩,⟨U,Ã ⟨U,U⟩⟩,λk e=>(by cases e),λk e=>(by cases e),λk e=>(by cases e),λk x o=> ?_,T,rfl,λk X x o=> ?_⟩ ⟨rfl,rfl,rfl,rfl,rfl,rfl,rfl⟩
 .have Y:=h.r.N m;obtain⟨y0,y1,y2,y3,E,F,y6,y7,y8,y9,xy,zD,xA,rT,s7,qS,vT,vU,uJ,uK,uL,s8,s9,td,rM,sY,rN,pD,oy,qe,qf,qg,uu,sZ,s5,rO,rQ,uw,uy,uz,uA,uB,uC,uD,uE,uF,qh,qi,rfl⟩:=Lg W r.r;obtain rfl:b=E:=(show E=b by simpa using r.N).symm;obtain rfl:c=F:=(show F=c by simpa using r.S).symm;obtain rfl:y6=À (Â ⟨g<|fQ kd R,0,Á⟩):=by simpa using r.Y
  obtain rfl:rT=Æ ra R cr:=by simpa using r.C
  obtain rfl:s7=Ê Î R:=by simpa using r.I
  obtain rfl:qS=Ê Î R:=by simpa using r.M
  have gP:¬((R:Int)<(R:Int)):=Z
  apply gl (n:=40) Y.r;simp only[B8];conv in Hv=>whnf
  conv in R4=>whnf
  repeat w_go fF
  u_in fF hF
  refine ajO U U ų U ⟨by u_nil,?_⟩;walk_nrm;refine Ë λ_ _=> ?_;have H:=h.S;refine P g s b c ⟨p.fj h.r,h.jT,h.mP,λk e=>⟨(h.C k e).1,Õ p.I (h.C k e).2⟩,λk e=>⟨(h.I k e).1,Õ p.I (h.I k e).2⟩,h.M,H▸t.r h.r id,λk x o=>(h.N k x o).1,λk hk=> ?_,h.Y⟩;by_cases h0:k=0
  .subst h0;rw[H];exact⟨D,λe=>by have:=(h.C _ e).2;omega,λe=>by have:=(h.I _ e).2;omega⟩
  .let⟨_,a2,a3,a4⟩:=h.N k Z hk;exact⟨Õ p.I a2,a3,a4⟩
 .have:k<=0:=o;omega
 .have:X<=0:=o;omega
end
noncomputable def ZL:Ę:=lj Tryz.f20 []
noncomputable def Ew (a b:Ï) (n:Nat) (c:List é):Ý:=G ((base 20).at ⟨#[a,b,Ê Î n,Å,Å,Å,Å,Å,Å,Å,Å,Å,Å,Å,Å,Å,Å,Å,Å,Å,Å,Å,Å,Å,Å,Å,Å,Å,Å,Å,Å,Å,Å,Å,Å,Å,Å,Å,Å,Å,Å,Å,Å,Å,Å,Å,Å,Å,Å],[]⟩ [ö ZL]) c
def Hz.xI{kd:Nat->Int}{rq:Nat->Nat}{R:Nat}{l a b:fh}(h:Hz kd rq D R v x z l a)(k:gu fl a b):Hz kd rq D R v x z l b:= ⟨h.Y.fj k,pH h.jT λj e=>k.r j (Ã (h.r j e).1) id,pH h.mP λj e=>k.r j (Ã (h.C j e).1) id,λj e=>⟨k.O j (h.r j e).1,(h.r j e).2⟩,λj e=>⟨k.O j (h.C j e).1,(h.C j e).2⟩,h.dis,h.N.r k id,λj c d=>(h.I j c d).r k id,h.M,h.S⟩
abbrev xK(R:Nat):Ÿ:=É (madeCells (Ŵ<|à ⟨#[]⟩) R) 9
structure Lj(kd:Nat->Int)(rq g:Nat->Nat)(R:Nat)(iv qv sv:Ï)(an ba bi all bw bf:Nat)(l lp l':fh):Prop where
 C:gu fl l l'
 r:Hz kd rq g R iv qv sv lp l'
 I:il l' an (xK R)
 a:il l' ba (É #[Æ (Â ⟨an,0,Á⟩) R R] 54)
 c:il l' bi (É #[iv] 76)
 Y:il l' all (É #[Ê ê 4294967296,Ê Ď 0] 88)
 d:il l' bw (É #[À<|Â ⟨all,0,Á⟩] 155)
 b:il l' bf (É #[Ĉ (ù 31) #[] #[À<|Â ⟨bi,0,Á⟩,À<|Â ⟨ba,0,Á⟩]] 1)
 M:l.w.heap.size<=an/\an<ba/\ba<lp.w.heap.size
 N:∀k,k<=fQ kd R->g k<bi
 o3:∀k,iv.ownBlock=Â k->k<bi
 o4:∀k,qv.ownBlock=Â k->k<bi
 S:bi<all/\all<bw/\bw<bf
section
variable{J:Jd}{l:fh}{ra:Option â}{rb cr R:Nat}{sa:Option â}{sn sc:Nat}{kd:Nat->Int}{rq:Nat->Nat}
def ajS(C:gF l)(G:¬l.q)(hd:l.d=0)(hR:R<1000)(HB:0<R->ra=Â ⟨rb,0,Á⟩)(wh:0<R->l.M rb)(HC:∀i,i<R->l.w.cell? ⟨rb,i,Á⟩=Â (À<|Â ⟨rq i,0,Á⟩))(Kp:∀i,i<R->l.M (rq i))(HF:∀i,i<R->l.w.cell? ⟨rq i,4,Á⟩=Â (Ê Î<|kd i)) (hJ:∀g lp l' t iv qv H y z D W bf v1,Lj kd rq g R iv qv (Æ sa sn sc) H y z D W bf l lp l'->Hq y D (g<|fQ kd R) n qv t->J l' (BS (À<|Â ⟨D,0,Á⟩) v1 (À<|Â ⟨D,0,Á⟩) (ñ #[]) W bf<|Es t::qX)): fq Ä Ò J l (Ew (Æ sa sn sc) (Æ ra R cr) n qX):=by
 have hF:True:=trivial;have ZM:Ä.info? 9=Â Ġ:=Tryz.type9;have PL:∀w:ß,(Ŏ 54 (Ê Î (R:Int))<|Ê Î (R:Int)).run Ä w=.ok (Æ (Â ⟨w.heap.size,0,Á⟩) R R) (w.alloc<|xK R):=λw=>by have:=run_makeSlice (P:=Ä) w 54 9 Ġ (à ⟨#[]⟩) ľ ZM U Î Î (R:Int) (R:Int) Z Z (by simp[Ġ];omega) (by simp[Ġ];omega) Z;simpa[Ġ]using this
 have hme:∀w:ß,(Ŏ 54 (Ê Î (R:Int))<|Ê Î (R:Int)).events Ä w #[]=#[]:=λw=>
  events_make (P:=Ä) w 54 9 Ġ (à ⟨#[]⟩) ľ ZM U Î Î (R:Int) (R:Int) Z Z (by simp[Ġ];omega) Z (by simp[Ġ];omega) _
 apply gl (n:=40) C.r;simp only[Ew];conv in ZL=>whnf
 repeat w_go fF
 refine Ë λ_ _=> ?_;refine qV (V:=λp=>Æ (Â ⟨p,0,Á⟩) R R) (ob:=xK R) U U (by k_ne) C.r G (λw=>by have k:=PL w;go_simp) (λw=>by have k:=hme w;simp[go_sem,k]) λc m=> ?_;walk_nrm;have a:=oA (X:=fl) (ob:=xK R) C m;have r:il (gS l c<|xK R) c.heap.size (xK R):=⟨Ç U,n7⟩;have han:l.w.heap.size<=c.heap.size:=m.r;generalize gS l c (xK R)=l1 at a r|-;generalize c.heap.size=H at r han|-;clear m c;have Si:gu fl l l1:=a;have Sj:=Si.N C;have ajT:¬l1.q:=by rwa[Si.q]
 have au4:l.w.heap.size<=l1.w.heap.size:=a.I;clear a;have lan:=Sj.fA H<|Ã r.fx;refine qV (V:=λp=>À<|Â ⟨p,0,Á⟩) (ob:=É #[Æ Á 0 0] 54) U U (by k_ne) Sj.r ajT (λw=>by go_simp) (λw=>by simp[go_sem]) λc m=> ?_;walk_nrm;have a:=oA (X:=fl) (ob:=É #[Æ Á 0 0] 54) Sj m;have f:il (gS l1 c<|É #[Æ Á 0 0] 54) c.heap.size (É #[Æ Á 0 0] 54):=⟨Ç U,n7⟩;have ZN:l1.w.heap.size<=c.heap.size:=m.r;generalize gS l1 c (É #[Æ Á 0 0] 54)=l2 at a f|-;generalize c.heap.size=y at f ZN|-;clear m c;have Sk:gu fl l l2:=Si.fj a;replace r:=r.r a id;have Sl:=Sk.N C;have ajU:¬l2.q:=by rwa[Sk.q]
 have au5:l1.w.heap.size<=l2.w.heap.size:=a.I;clear a;have lba:=Sl.fA y<|Ã f.fx;refine Hg (p:=y) (off:=0) (v:=Æ (Â ⟨H,0,Á⟩) R R) (u:=Æ Á 0 0) U U (by k_ne) Sl.r ajU f.fx (f.C U) (by simp[î,f.I]) U (λw o F=>by go_simp) (λw o F=>by simp[go_sem,á _ _ _ _ _ _ (show Ø (Æ (Â ⟨H,0,Á⟩) R R)=Ò from rfl),o,F]) ?_;have a:=KZ (X:=λb=>b=y) (p:=y) (w':=l2.w.setCell ⟨y,0,Á⟩<|Æ (Â ⟨H,0,Á⟩) R R) Sl (fL.gd _ _) f.fx U j4 λj E=>lD E;replace f:il ({l2 with w:=l2.w.setCell ⟨y,0,Á⟩ (Æ (Â ⟨H,0,Á⟩) R R)}:fh) y (É #[Æ (Â ⟨H,0,Á⟩) R R] 54):=⟨f.fx,by show(l2.w.setCell ⟨y,0,Á⟩<|Æ (Â ⟨H,0,Á⟩) R R).heap[y]?=_;unfold þ;simp[í,f.I]⟩;generalize({l2 with w:=l2.w.setCell ⟨y,0,Á⟩ (Æ (Â ⟨H,0,Á⟩) R R)}:fh)=l3 at a f|-;have S:gu fl l l3:=Sk.xI a λj E e=>by have:=C.fA j E;omega
 replace r:=r.r a Z;have ZO:=S.N C;have ajV:¬l3.q:=by rwa[S.q]
 have au6:l2.w.heap.size<=l3.w.heap.size:=a.I;clear a;apply gl (n:=20) ZO.r;iterate 5 w_go fF
 u_call ų gh Ĝ fF hF
 refine Ë λ_ _=> ?_;refine ajR (l:=l3) (kd:=kd) (rq:=rq) (ra:=ra) (rb:=rb) (cr:=cr) (R:=R) (sa:=sa) (sn:=sn) (sc:=sc) ZO ajV (by rwa[S.d]) hR HB (λh=>S.M<|wh h) (λi k=>(gQ<|S.r rb (wh Z) id).trans<|HC i k) (λi k=>S.M<|Kp i k) (λi k=>(gQ<|S.r _ (Kp i k) id).trans<|HF i k) λg B iv qv T=> ?_;walk_nrm;have a:=T.Y;have Sm:gu fl l B:=S.fj a;replace r:=r.r a id;replace f:=f.r a id;have L:=Sm.N C;have ajW:¬B.q:=by rwa[Sm.q]
 have au7:l3.w.heap.size<=B.w.heap.size:=a.I;clear a;have ajX:gu fl B B:=gu.gd L.r;obtain⟨I,K,rfl⟩:∃I K,iv=Æ I (fQ kd R) K:=by
  rcases T.jT.2 with⟨k,s⟩|⟨b,N,Q,k,_⟩
  .exact⟨Á,0,by rwa[s]⟩
  .exact⟨_,_,k⟩
 have og:∀k,k<=fQ kd R->g k<B.w.heap.size:=λk hk=>by
  by_cases s:k=0
  .subst s;exact L.fA _<|Ã T.N.fx
  .exact L.fA _<|Ã (T.I k Z hk).fx
 have oi:∀k,(Æ I (fQ kd R) K).ownBlock=Â k->k<B.w.heap.size:=λk e=>L.fA _<|Ã (T.r k e).1;have oq:∀k,qv.ownBlock=Â k->k<B.w.heap.size:=λk e=>L.fA _<|Ã (T.C k e).1;apply gl (n:=20) L.r;iterate 4 w_go fF
 refine Ë λ_ _=> ?_;refine qV (V:=λp=>À<|Â ⟨p,0,Á⟩) (ob:=É #[Æ Á 0 0] 76) U U (by k_ne) L.r ajW (λw=>by go_simp) (λw=>by simp[go_sem]) λc m=> ?_;walk_nrm;have a:=oA (X:=fl) (ob:=É #[Æ Á 0 0] 76) L m;have s:il (gS B c<|É #[Æ Á 0 0] 76) c.heap.size (É #[Æ Á 0 0] 76):=⟨Ç U,n7⟩;have Sn:B.w.heap.size<=c.heap.size:=m.r;generalize gS B c (É #[Æ Á 0 0] 76)=l5 at a s|-;generalize c.heap.size=z at s Sn|-;clear m c;have So:gu fl l l5:=Sm.fj a;have ajY:gu fl B l5:=ajX.fj a;replace r:=r.r a id;replace f:=f.r a id;have Sp:=So.N C;have ajZ:¬l5.q:=by rwa[So.q]
 have au8:B.w.heap.size<=l5.w.heap.size:=a.I;clear a;have lbi:=Sp.fA z<|Ã s.fx;refine Hg (p:=z) (off:=0) (v:=Æ I (fQ kd R) K) (u:=Æ Á 0 0) U U (by k_ne) Sp.r ajZ s.fx (s.C U) (by simp[î,s.I]) U (λw o F=>by go_simp) (λw o F=>by simp[go_sem,á _ _ _ _ _ _ (show Ø (Æ I (fQ kd R) K)=Ò from rfl),o,F]) ?_;have a:=KZ (X:=λb=>b=z) (p:=z) (w':=l5.w.setCell ⟨z,0,Á⟩<|Æ I (fQ kd R) K) Sp (fL.gd _ _) s.fx U j4 λj E=>lD E;replace s:il ({l5 with w:=l5.w.setCell ⟨z,0,Á⟩ (Æ I (fQ kd R) K)}:fh) z (É #[Æ I (fQ kd R) K] 76):=⟨s.fx,by show(l5.w.setCell ⟨z,0,Á⟩<|Æ I (fQ kd R) K).heap[z]?=_;unfold þ;simp[í,s.I]⟩;generalize({l5 with w:=l5.w.setCell ⟨z,0,Á⟩ (Æ I (fQ kd R) K)}:fh)=l6 at a s|-;have Sq:gu fl l l6:=So.xI a λj E e=>by have:=C.fA j E;omega
 have aj0:gu fl B l6:=ajY.xI a λj E e=>by have:=L.fA j E;omega
 replace r:=r.r a Z;replace f:=f.r a Z;have Sr:=Sq.N C;have aj1:¬l6.q:=by rwa[Sq.q]
 have au9:l5.w.heap.size<=l6.w.heap.size:=a.I;clear a;apply gl (n:=20) Sr.r;iterate 5 w_go fF
 refine Ë λ_ _=> ?_;refine qV (V:=λp=>À<|Â ⟨p,0,Á⟩) (ob:=É #[Ê ê 0,Ê Ď 0] 88) U U (by k_ne) Sr.r aj1 (λw=>by go_simp) (λw=>by simp[go_sem]) λc m=> ?_;walk_nrm;have a:=oA (X:=fl) (ob:=É #[Ê ê 0,Ê Ď 0] 88) Sr m;have F:il (gS l6 c<|É #[Ê ê 0,Ê Ď 0] 88) c.heap.size (É #[Ê ê 0,Ê Ď 0] 88):=⟨Ç U,n7⟩;have oX:l6.w.heap.size<=c.heap.size:=m.r;generalize gS l6 c (É #[Ê ê 0,Ê Ď 0] 88)=l7 at a F|-;generalize c.heap.size=D at F oX|-;clear m c;have Ss:gu fl l l7:=Sq.fj a;have aj2:gu fl B l7:=aj0.fj a;replace r:=r.r a id;replace f:=f.r a id;replace s:=s.r a id;have Ll:=Ss.N C;have aj3:¬l7.q:=by rwa[Ss.q]
 have ava:l6.w.heap.size<=l7.w.heap.size:=a.I;clear a;have avb:=Ll.fA D<|Ã F.fx;apply gl (n:=20) Ll.r;iterate 4 w_go fF
 u_call Ħ gh Μ fF hF
 iterate 2 w_go fF
 refine Ë λ_ _=> ?_;refine qV (V:=λp=>À<|Â ⟨p,0,Á⟩) (ob:=É #[À<|Â ⟨D,0,Á⟩] 155) U U (by k_ne) Ll.r aj3 (λw=>by go_simp) (λw=>by simp[go_sem]) λc m=> ?_;walk_nrm;have a:=oA (X:=fl) (ob:=É #[À<|Â ⟨D,0,Á⟩] 155) Ll m;have N:il (gS l7 c<|É #[À<|Â ⟨D,0,Á⟩] 155) c.heap.size (É #[À<|Â ⟨D,0,Á⟩] 155):=⟨Ç U,n7⟩;have B3:l7.w.heap.size<=c.heap.size:=m.r;generalize gS l7 c (É #[À<|Â ⟨D,0,Á⟩] 155)=l8 at a N|-;generalize c.heap.size=W at N B3|-;clear m c;have Sv:gu fl l l8:=Ss.fj a;have aj4:gu fl B l8:=aj2.fj a;replace r:=r.r a id;replace f:=f.r a id;replace s:=s.r a id;replace F:=F.r a id;have Sw:=Sv.N C;have aj5:¬l8.q:=by rwa[Sv.q]
 have avc:l7.w.heap.size<=l8.w.heap.size:=a.I;clear a;have lbw:=Sw.fA W<|Ã N.fx;refine qV (V:=λp=>À<|Â ⟨p,0,Á⟩) (ob:=É #[Ĉ (ù 31) #[] #[À<|Â ⟨z,0,Á⟩,À<|Â ⟨y,0,Á⟩]] 1) U U (by k_ne) Sw.r aj5 (λw=>by go_simp) (λw=>by simp[go_sem]) λc m=> ?_;walk_nrm;have a:=oA (X:=fl) (ob:=É #[Ĉ (ù 31) #[] #[À<|Â ⟨z,0,Á⟩,À<|Â ⟨y,0,Á⟩]] 1) Sw m;have Y:il (gS l8 c<|É #[Ĉ (ù 31) #[] #[À<|Â ⟨z,0,Á⟩,À<|Â ⟨y,0,Á⟩]] 1) c.heap.size (É #[Ĉ (ù 31) #[] #[À<|Â ⟨z,0,Á⟩,À<|Â ⟨y,0,Á⟩]] 1):=⟨Ç U,n7⟩;have Ld:l8.w.heap.size<=c.heap.size:=m.r;generalize gS l8 c (É #[Ĉ (ù 31) #[] #[À<|Â ⟨z,0,Á⟩,À<|Â ⟨y,0,Á⟩]] 1)=l9 at a Y|-;generalize c.heap.size=bf at Y Ld|-;clear m c;have Lm:gu fl l l9:=Sv.fj a;have aj6:gu fl B l9:=aj4.fj a;replace r:=r.r a id;replace f:=f.r a id;replace s:=s.r a id;replace F:=F.r a id;replace N:=N.r a id;have HG:=Lm.N C;have ZQ:¬l9.q:=by rwa[Lm.q]
 have avd:l8.w.heap.size<=l9.w.heap.size:=a.I;clear a;have lbf:=HG.fA bf<|Ã Y.fx;apply gl (n:=20) HG.r;iterate 3 w_go fF
 refine Ë λ_ _=> ?_;apply oW (x:=⟨W,0,Á⟩) U U (by k_ne) HG.r ZQ (Ã<|Ã N.fx) (N.C U) (λw h=>by go_simp) (λw h=>by simp[go_sem,h]);walk_nrm;apply gl (n:=20) HG.r;u_call qR.f_add (nm_add Lk) addFn fF hF;refine Ë λ_ _=> ?_;refine ZC qR HG ZQ (by rwa[Lm.d]) F.fx F.I U U λQ hC=> ?_;walk_nrm;have a:gu (λb=>b=D) l9 Q:=hC.r;replace F:il Q D (É #[Ê ê 4294967296,Ê Ď 0] 88):=⟨hC.r.O D F.fx,hC.C⟩;have Sx:gu fl l Q:=Lm.xI a λj E e=>by have:=C.fA j E;omega
 have aj7:gu fl B Q:=aj6.xI a λj E e=>by have:=L.fA j E;omega
 replace r:=r.r a Z;replace f:=f.r a Z;replace s:=s.r a Z;replace N:=N.r a Z;replace Y:=Y.r a Z;have aj8:=Sx.N C;have ave:¬Q.q:=by rwa[Sx.q]
 have avf:l9.w.heap.size<=Q.w.heap.size:=a.I;clear a;apply gl (n:=20) aj8.r;iterate 3 w_go fF
 refine Ë λ_ _=> ?_;refine .fE λB6 xH=> ?_;have at9:∀{b:Nat} {o:Ÿ},il Q b o->il ({Q with w:=B6}:fh) b o:=λh=>⟨h.fx,(xH.I _<|Ã h.fx).trans h.I⟩;exact hJ g l3 {Q with w:=B6} _ (Æ I (fQ kd R) K) qv H y z D W bf _ ⟨Sx.G xH,T.xI<|aj7.G xH,at9 r,at9 f,at9 s,at9 F,at9 N,at9 Y,⟨Z,Z,Z⟩,λk hk=>by have:=og k hk;omega,λk e=>by have:=oi k e;omega,λk e=>by have:=oq k e;omega,⟨Z,Z,Z⟩⟩ ⟨U,U,U,U,U,U⟩
end
def aj9{md:ý}{listed:Array Bool}(h:Û md Q listed=[]):∀(a t:Nat),ë md Q a t listed []=[]:=by
 intro a t;cases a with
 |zero=>rfl
 |succ a=>
  simp only[ë];change(match(Û md Q listed)[t%(Û md Q listed).length]? with
   |some i=>ë md Q a (t/(Û md Q listed).length) (listed.setIfInBounds i Ò) [i]
   |none=>[].reverse)=[]
  rw[h];rfl
section
variable{J:Jd}{l:fh}
def ZR{md:ý}(I:Array Bool->ŏ->fh->Prop) (p:∀b a l i k,I b a l->b.size=Q.size->i∈Û md Q b->(Û md Q (b.setIfInBounds i Ò)=[]->k=[])->fq P yQ (λg m=>(∃h,m=G (f.at h<|Ñ Q k::L) qX/\I (b.setIfInBounds i Ò) h g)\/fq P yQ J g m) l (G (f.at a<|Ñ Q (i::k)::L) qX)) (o:∀b a l,I b a l->b.size=Q.size->Û md Q b=[]->fq P yQ J l (G (f.at a<|Ñ Q []::L) qX)): ∀(c t:Nat) (b:Array Bool) (a:ŏ) (l:fh),b.size=Q.size->jy b<=c->I b a l->fq P yQ J l (G (f.at a<|Ñ Q (ë md Q c t b [])::L) qX):=by
 intro c
 induction c with
 |zero=>
  intro t b a l d q j;simpa[ë]using o b a l j d<|Rl d Z
 |succ c r=>
  intro t b a l d q j;simp only[ë];change fq P yQ J l (G (f.at a (Ñ Q (match(Û md Q b)[t%(Û md Q b).length]? with
   |some i=>ë md Q c (t/(Û md Q b).length) (b.setIfInBounds i Ò) [i]
   |none=>[].reverse)::L)) qX)
  cases n:(Û md Q b)[t%(Û md Q b).length]? with
  |none=>
   have s:Û md Q b=[]:=by
    cases u:Û md Q b with
    |nil=>rfl
    |cons x e=>
     rw[u]at n;have v:t%(x::e).length<(x::e).length:=Ĵ _ ft;simp at n;simp at v;omega
   simpa using o b a l j d s
  |some i=>
   simp only[];rw[linearise_go_acc,List.reverse_singleton,List.singleton_append];have x:=ħ n;refine(p b a l i _ j d x λe=>aj9 e _ _).mo ?_;rintro g m (⟨h,rfl,hI'⟩|hW)
   .exact r _ _ h g (by simpa using d) (by have:=KN (mem_ready.1 x).1;omega) hI'
   .exact hW
def akb{id:Nat}(I:Array Bool->ŏ->fh->Prop)(o:j0 l)(p:¬l.q) (g:∀c,fL l l.w c->I (Array.replicate Q.size Ì) y {l with w:={c with drawn:=c.drawn+1}}) (h:∀d b y l i e,I b y l->b.size=Q.size->i∈Û d Q b->(Û d Q (b.setIfInBounds i Ò)=[]->e=[])->fq P yQ (λj k=>(∃m,k=G (f.at m<|Ñ Q e::L) qX/\I (b.setIfInBounds i Ò) m j)\/fq P yQ J j k) l (G (f.at y<|Ñ Q (i::e)::L) qX)) (n:∀d b y l,I b y l->b.size=Q.size->Û d Q b=[]->fq P yQ J l (G (f.at y<|Ñ Q []::L) qX)): fq P yQ J l (G (f.at y<|ö (ä id Q Ò)::L) qX):=by
 refine .mk U λc r=>⟨_,_,_,_,stepG_region_draw,Rk (my o r) p,?_⟩;unfold Region.schedule;split
 .exact ZR I (h _) (n _) _ _ _ _ _ ft (by rw[D6];exact Ú _)<|g c r
 .exact ZR I (h _) (n _) _ _ _ _ _ ft (by rw[D6];exact Ú _)<|g c r
end
def B9:å:=⟨Â 15,ę<|Ù 1,91, "work.go:72",#[],Á⟩
def Ca:å:=⟨Â 16,ę<|Ù 4,3, "work.go:72",#[],Á⟩
def Cb:å:=⟨Â 17,ę<|Ù 1,91, "work.go:72",#[],Á⟩
def xL:å:=⟨Â 18,Ě {callee:=Ŕ .len,args:=#[Ù 17],argTypes:=#[91]},3, "work.go:72",#[⟨2,Ü⟩],Á⟩
def uP:å:=⟨Â 19,Κ .rem 3 (Ù 16) (Ù 18) 3,3, "work.go:72",#[⟨1,Ü⟩,⟨3,Ü⟩],Á⟩
def uQ:å:=⟨Â 20,ő 91 (Ù 15)<|Ù 19,0, "work.go:72",#[⟨0,Ü⟩,⟨4,Ü⟩],Á⟩
def xM:å:=⟨Â 21,ć 92<|Ù 20,92, "work.go:72",#[⟨5,Ü⟩],Á⟩
def Cc:å:=⟨Â 22,ć 148<|Ù 5,148, "work.go:72",#[],Á⟩
def xN:å:=⟨Á,.send (Ù 21)<|Ù 22,0, "work.go:72",#[⟨6,Ü⟩,⟨7,Ü⟩],Á⟩
def oa:Array å:=#[B9,Ca,Cb,xL,uP,uQ,xM,Cc,xN]
noncomputable def Ln:Ę:=lj Ŗ [1,1,0,0]
noncomputable def ZS:Ę:=lj Ŗ [1]
noncomputable def Lp:Ę:=lj Ŗ [0,1,0,0]
noncomputable def Cd (t:Array Ï) (a:List é):Ý:=G ((base 35).at ⟨t,[]⟩ [ö Lp,ą Lp,ô 0,ö ZS]) a
structure DT(dv:Ï)(qb:Option â)(q cq i:Nat)(t:Array Ï):Prop where
 r:t.size=32
 C:t[1]?=Â dv
 t8:t[8]?=Â (Æ qb q cq)
 M:t[9]?=Â (Ê Î q)
 I:t[10]?=Â (Ê Î i)
def HJ(t:Array Ï)(h:t.size=32):∃a b c d e f g i j k l m n o p q r s u v w x y z B C D E F G H I:Ï,t=#[a,b,c,d,e,f,g,i,j,k,l,m,n,o,p,q,r,s,u,v,w,x,y,z,B,C,D,E,F,G,H,I]:=by obtain⟨_,rfl⟩:=uI t h;exact⟨_,_,_,_,_,_,_,_,_,_,_,_,_,_,_,_,_,_,_,_,_,_,_,_,_,_,_,_,_,_,_,_,U⟩
def uR(c n i a d:Nat)(b tk:Ï)(_:Unit):Nat->Ï
 |0=>b
 |1=>Ê Î i
 |2=>b
 |3=>Ê Î n
 |4=>Ê Î a
 |5=>À<|Â ⟨c,a,Á⟩
 |6=>è<|Â d
 |7=>tk
 |_=>Å
def Lq(a:fh)(listed:Array Bool)(_:Unit)(l:fh):Prop:=iG fl a l/\¬listed.getD 8 Ì=Ò
section
variable{J N:Jd}{p:fh}{g s:Nat}{u:Option â}
def akc(Ex:gF p)(hq:¬p.q)(ht:d.size=32)(BH:d[1]?=Â (Æ (Â ⟨j9,0,Á⟩) n j))(Hc:d[4]?=Â (Ê Î i))(Rq:d[5]?=Â (À<|Â ⟨g,0,Á⟩))(z:p.O g)(T:p.O j9)(hn:0<n)(wi:n<1000)(hi1:i<1000) (ZT:i%n=j6) (V:p.w.cell? ⟨j9,j6,Á⟩=Â (è<|Â m)) (W:p.w.cell? ⟨g,0,Á⟩=Â (À u)) (X:p.w.cell? ⟨g,1,Á⟩=Â (Ê Î s)) (Y:p.w.cell? ⟨g,2,Á⟩=Â (À<|Â ⟨j7,0,Á⟩)) (c3:p.w.cell? ⟨g,3,Á⟩=Â (À O)) (hJ:∀l H,iG fl p l->H.size=32->(∀c,c<15->H[c]?=d[c]?)->A1 Ä Ò m (Đ #[À u,Ê Î s,À<|Â ⟨j7,0,Á⟩,À O]) N l (G ((base 35).at ⟨H,[]⟩<|Ñ oa [8]::L) qX)->J l (G ((base 35).at ⟨H,[]⟩<|Ñ oa [8]::L) qX)) (hN:∀l H,iG fl p l->H.size=32->(∀c,c<15->H[c]?=d[c]?)->fq Ä Ò N l (G ((base 35).at ⟨H,[]⟩<|Ñ oa []::L) qX)) (md:ý) (listed:Array Bool) (a:ŏ) (l:fh) (i':Nat) (rest:List Nat) (hI:II oa d (uR j9 n i j6 m (Æ (Â ⟨j9,0,Á⟩) n j)<|Đ #[À u,Ê Î s,À<|Â ⟨j7,0,Á⟩,À O]) (Lq p) listed a l) (kh:listed.size=oa.size) (C:i'∈Û md oa listed) (HL:Û md oa (listed.setIfInBounds i' Ò)=[]->rest=[]): fq Ä Ò (λD F=>(∃Q,F=G ((base 35).at Q<|Ñ oa rest::L) qX/\II oa d (uR j9 n i j6 m (Æ (Â ⟨j9,0,Á⟩) n j)<|Đ #[À u,Ê Î s,À<|Â ⟨j7,0,Á⟩,À O]) (Lq p) (listed.setIfInBounds i' Ò) Q D)\/fq Ä Ò J D F) l (G ((base 35).at a<|Ñ oa (i'::rest)::L) qX):=by
 let⟨x,t,S,h8⟩:=hI;have I:qO oa d.size=Ò:=by rw[ht];decide
 have gP:=zv C;have K:=S.fA;have M:¬l.q:=by rwa[S.q]
 have nG:a.tmps[1]?=Â (Æ (Â ⟨j9,0,Á⟩) n j):=(t.C A).trans BH;have R3:a.tmps[4]?=Â (Ê Î i):=(t.C A).trans Hc;have uH:a.tmps[5]?=Â (À<|Â ⟨g,0,Á⟩):=(t.C A).trans Rq;have y:∀b f v,p.O b->p.w.cell? ⟨b,f,Á⟩=Â v->ia l ⟨b,f,Á⟩/\l.w.cell? ⟨b,f,Á⟩=Â v:=λb f v E h=>⟨Ã<|Ã<|S.O b E,by rwa[gQ<|S.r b<|Ã E]⟩;have P:∀{k:Nat},k≠8->∀B,fL l l.w B->Lq p (listed.setIfInBounds k Ò) () {l with w:=B}:=λhm B r=>⟨S.N (λ_ q=>q.elim) r,by rwa[ç Ì hm]⟩;have akd:j6<n:=by rw[<-ZT];exact Ĵ _ hn
 have ake:(j6:Int)<(n:Int):=Z
 have HM:¬(n:Int)=0:=Z
 have akf:¬n=0:=Z
 have htm:Int.tmod (i:Int) (n:Int)=(j6:Int):=by rw[Int.tmod_eq_emod_of_nonneg Z,<-ZT];simp
 have ox:Î.wrap (j6:Int)=(j6:Int):=BL Z Z;have Lr:oa.size=9:=A
 rw[Lr]at gP;match i',gP with
 |0,_=>
  refine(iy (o:=B9) I t U U C (by k_ne) K M (λB r=> ?_) (λB r e D=> ?_)<|P A).fT λ_ _ h=>Ã h
  .simp only[uR,B9];go_simp
  .simp[go_sem,B9,nG]at D
 |1,_=>
  refine(iy (o:=Ca) I t U U C (by k_ne) K M (λB r=> ?_) (λB r e D=> ?_)<|P A).fT λ_ _ h=>Ã h
  .simp only[uR,Ca];go_simp
  .simp[go_sem,Ca,R3]at D
 |2,_=>
  refine(iy (o:=Cb) I t U U C (by k_ne) K M (λB r=> ?_) (λB r e D=> ?_)<|P A).fT λ_ _ h=>Ã h
  .simp only[uR,Cb];go_simp
  .simp[go_sem,Cb,nG]at D
 |3,_=>
  have F:a.tmps[17]?=Â (Æ (Â ⟨j9,0,Á⟩) n j):=t.r 2 Cb 17 U (ik (o:=xL) C U U) U;refine(iy (o:=xL) I t U U C (by k_ne) K M (λB r=> ?_) (λB r e D=> ?_)<|P A).fT λ_ _ h=>Ã h
  .simp only[uR,xL];go_simp
  .simp[go_sem,xL,F]at D
 |4,_=>
  have F:a.tmps[16]?=Â (Ê Î i):=t.r 1 Ca 16 U (ik (o:=uP) C U U) U;have Q:a.tmps[18]?=Â (Ê Î n):=t.r 3 xL 18 U (ik (o:=uP) C U U) U;refine(iy (o:=uP) I t U U C (by k_ne) K M (λB r=> ?_) (λB r e D=> ?_)<|P A).fT λ_ _ h=>Ã h
  .simp only[uR,uP];go_simp
  .simp[go_sem,uP,F,Q,HM,akf,htm,ox]at D
 |5,_=>
  have F:a.tmps[15]?=Â (Æ (Â ⟨j9,0,Á⟩) n j):=t.r 0 B9 15 U (ik (o:=uQ) C U U) U;have Q:a.tmps[19]?=Â (Ê Î j6):=t.r 4 uP 19 U (ik (o:=uQ) C U U) U;refine(iy (o:=uQ) I t U U C (by k_ne) K M (λB r=> ?_) (λB r e D=> ?_)<|P A).fT λ_ _ h=>Ã h
  .simp only[uR,uQ];go_simp
  .simp[go_sem,uQ,F,Q,akd,ake]at D
 |6,_=>
  have Q:a.tmps[20]?=Â (À<|Â ⟨j9,j6,Á⟩):=t.r 5 uQ 20 U (ik (o:=xM) C U U) U;refine(iy (o:=xM) I t U U C (by k_ne) K M (λB r=> ?_) (λB r e D=> ?_)<|P A).fT λ_ _ h=>Ã h
  .have F:=((y j9 _ _ T V).1.r r).trans (y j9 _ _ T V).2;simp only[uR,xM];go_simp
  .have F:=((y j9 _ _ T V).1.r r).trans (y j9 _ _ T V).2;have hee:e=⟨û ⟨j9,j6,Á⟩,Ì,Ì⟩:=by simp[go_sem,xM,F,Q]at D;exact D
   subst hee;exact(y j9 _ _ T V).1.C
 |7,_=>
  refine(iy (o:=Cc) I t U U C (by k_ne) K M (λB r=> ?_) (λB r e D=> ?_)<|P A).fT λ_ _ h=>Ã h
  .have F:=((y g _ _ z W).1.r r).trans (y g _ _ z W).2;have Q:=((y g _ _ z X).1.r r).trans (y g _ _ z X).2;have qU:=((y g _ _ z Y).1.r r).trans (y g _ _ z Y).2;have uN:=((y g _ _ z c3).1.r r).trans (y g _ _ z c3).2;simp only[uR,Cc];go_simp
  .have F:=((y g _ _ z W).1.r r).trans (y g _ _ z W).2;have Q:=((y g _ _ z X).1.r r).trans (y g _ _ z X).2;have qU:=((y g _ _ z Y).1.r r).trans (y g _ _ z Y).2;have uN:=((y g _ _ z c3).1.r r).trans (y g _ _ z c3).2;simp[go_sem,Cc,uH,F,Q,qU,uN]at D;rcases D with rfl|rfl|rfl|rfl
   .exact(y g _ _ z W).1.C
   .exact(y g _ _ z X).1.C
   .exact(y g _ _ z Y).1.C
   .exact(y g _ _ z c3).1.C
 |8,_=>
  have d6:=ik (j:=6) (o:=xN) C U U;have d7:=ik (j:=7) (o:=xN) C U U;have RH:a.tmps[21]?=Â (è<|Â m):=t.r 6 xM 21 U d6 U;have G4:a.tmps[22]?=Â (Đ #[À u,Ê Î s,À<|Â ⟨j7,0,Á⟩,À O]):=t.r 7 Cc 22 U d7 U;have d5:=t.I (j:=5) (o:=xM) U d6 U;have d0:=t.I (j:=0) (o:=uQ) U d5 U;have d4:=t.I (j:=4) (o:=uQ) U d5 U;have d1:=t.I (j:=1) (o:=uP) U d4 U;have d3:=t.I (j:=3) (o:=uP) U d4 U;have d2:=t.I (j:=2) (o:=xL) U d3 U;have oX:Û md oa (listed.setIfInBounds 8 Ò)=[]:=by
   rw[List.eq_nil_iff_forall_not_mem];intro f hj;have HN:=zv hj;have F:=Ro hj;rw[Lr]at HN;by_cases Q:f=8
   .subst Q;have D:8<listed.size:=by rw[kh,Lr];decide
    simp[D]at F
   .rw[ç Ò<|Ne.symm Q]at F;have D:=vP F;match f,HN,Q with
    |0,_,_=>exact D d0
    |1,_,_=>exact D d1
    |2,_,_=>exact D d2
    |3,_,_=>exact D d3
    |4,_,_=>exact D d4
    |5,_,_=>exact D d5
    |6,_,_=>exact D d6
    |7,_,_=>exact D d7
    |8,_,h=>exact h U
  obtain rfl:=HL oX;let⟨F,ds⟩:=a;obtain rfl:ds=[]:=t.M;have HO:F.size=32:=t.Y.trans ht;have Ls:∀c,c<15->F[c]?=d[c]?:=λc hd=>t.c c λf o E _ e=>by
   have HN:=(æ.1 E).1;rw[Lr]at HN;match f,HN with
   |0,_=>
    have D:o=B9:=(Ó<|show Â B9=Â o from E).symm;rw[D]at e;have Q:15=c:=Ó (show Â 15=Â c from e);omega
   |1,_=>
    have D:o=Ca:=(Ó<|show Â Ca=Â o from E).symm;rw[D]at e;have Q:16=c:=Ó (show Â 16=Â c from e);omega
   |2,_=>
    have D:o=Cb:=(Ó<|show Â Cb=Â o from E).symm;rw[D]at e;have Q:17=c:=Ó (show Â 17=Â c from e);omega
   |3,_=>
    have D:o=xL:=(Ó<|show Â xL=Â o from E).symm;rw[D]at e;have Q:18=c:=Ó (show Â 18=Â c from e);omega
   |4,_=>
    have D:o=uP:=(Ó<|show Â uP=Â o from E).symm;rw[D]at e;have Q:19=c:=Ó (show Â 19=Â c from e);omega
   |5,_=>
    have D:o=uQ:=(Ó<|show Â uQ=Â o from E).symm;rw[D]at e;have Q:20=c:=Ó (show Â 20=Â c from e);omega
   |6,_=>
    have D:o=xM:=(Ó<|show Â xM=Â o from E).symm;rw[D]at e;have Q:21=c:=Ó (show Â 21=Â c from e);omega
   |7,_=>
    have D:o=Cc:=(Ó<|show Â Cc=Â o from E).symm;rw[D]at e;have Q:22=c:=Ó (show Â 22=Â c from e);omega
   |8,_=>
    have D:o=xN:=(Ó<|show Â xN=Â o from E).symm;rw[D]at e;cases(show Á=Â c from e)
  refine .fE λB r=>Ç (.fE λAY D=> ?_);have Q:iG fl p ({l with w:=AY}:fh):=S.N (λ_ q=>q.elim)<|r.fj ⟨D.r,D.I,D.N,D.Y,D.S⟩;refine hJ _ F Q HO Ls ⟨U,U,λD=>⟨ñ #[],?_⟩,?_⟩
  .refine(Ż (cases:=#[scase m (Đ #[À u,Ê Î s,À<|Â ⟨j7,0,Á⟩,À O])<|ñ #[]]) (blocking:=Ò) (shape:=.send) (w':=D) (o:=xN) rfl rfl (by k_ne) ?_).trans ?_
   .simp[go_sem,xN,ĉ,scase,ĥ,RH,G4]
   .have:ŗ Ä (base 35).fn ⟨F,[]⟩ xN D=#[]:=by
     unfold ŗ;simp[go_sem,xN,ĉ,ĥ,RH,G4,Ī]
    rw[this]
  .have e:({G ((base 35).at ⟨F,[]⟩<|Ñ oa [8]::L) qX with frame:=(G ((base 35).at ⟨F,[]⟩<|Ñ oa [8]::L) qX).frame.finish Å}:Ý)=G ((base 35).at ⟨F,[]⟩<|Ñ oa []::L) qX:=by
    have:(G ((base 35).at ⟨F,[]⟩<|Ñ oa [8]::L) qX).frame.finish Å=(base 35).at (Ο ⟨F,[]⟩ Á Å) (Ñ oa []::L):=Ģ _ _ _ _ _ _ _;rw[this];rfl
   rw[e];exact hN _ F Q HO Ls
 |n+9,h=>exact absurd h Z
end
section
variable{N:Jd}{l:fh}{f:Option â}
theorem akg(s:gF l)(K:¬l.q)(G:DT (Æ (Â ⟨J,0,Á⟩) n j) (Â ⟨j6,0,Á⟩) b m i d)(hiq:i<b)(BU:b<1000)(hn:0<n)(wi:n<1000)(ZU:l.O J)(cd:l.w.cell? ⟨J,i%n,Á⟩=Â (è<|Â k))(Sy:l.M j6) (i0:l.w.cell? ⟨j6,i*4,Á⟩=Â (À f)) (i1:l.w.cell? ⟨j6,i*4+1,Á⟩=Â (Ê Î j7)) (i2:l.w.cell? ⟨j6,i*4+2,Á⟩=Â (À<|Â ⟨j9,0,Á⟩)) (i3:l.w.cell? ⟨j6,i*4+3,Á⟩=Â (À O)) (hN:∀t H,iG fl l t->DT (Æ (Â ⟨J,0,Á⟩) n j) (Â ⟨j6,0,Á⟩) b m (i+1) H->fq Ä Ò N t (Cd H qX)): fq Ä Ò (A1 Ä Ò k (Đ #[À f,Ê Î j7,À<|Â ⟨j9,0,Á⟩,À O]) N) l (Cd d qX):=by
 obtain⟨y0,y1,y2,y3,y4,y5,y6,y7,y8,y9,xy,zD,xA,rT,s7,qS,vT,vU,uJ,uK,uL,s8,s9,td,rM,sY,rN,pD,oy,qe,qf,qg,rfl⟩:=HJ d G.r;obtain rfl:y1=Æ (Â ⟨J,0,Á⟩) n j:=by simpa using G.C
 obtain rfl:y8=Æ (Â ⟨j6,0,Á⟩) b m:=by simpa using G.t8
 obtain rfl:y9=Ê Î b:=by simpa using G.M
 obtain rfl:xy=Ê Î i:=by simpa using G.I
 have rU:∀y:â,False->l.r y:=λy ha=>ha.elim;have avg:(i:Int)<(b:Int):=Z
 have hF:True:=trivial;simp only[Cd];conv in Lp=>whnf
 apply gl (n:=30) s.r;repeat w_go fF
 refine Ë λ_ _=> ?_;have g:∀c,ia l ⟨j6,c,Á⟩:=λc=>Ã Sy;refine rS (v:=Đ #[À f,Ê Î j7,À<|Â ⟨j9,0,Á⟩,À O]) U U (by k_ne) s.r K (λo r=> ?_) (λo r e h=> ?_) ?_
 .have u:=((g<|i*4).r r).trans i0;have z:=((g<|i*4+1).r r).trans i1;have B:=((g<|i*4+2).r r).trans i2;have C:=((g<|i*4+3).r r).trans i3;go_simp
 .have u:=((g<|i*4).r r).trans i0;have z:=((g<|i*4+1).r r).trans i1;have B:=((g<|i*4+2).r r).trans i2;have C:=((g<|i*4+3).r r).trans i3;simp[go_sem,u,z,B,C]at h;rcases h with rfl|rfl|rfl|rfl
  .exact(g _).C
  .exact(g _).C
  .exact(g _).C
  .exact(g _).C
 walk_nrm;refine G5 (ob:=É #[À Á,Ê Î 0,À Á,À Á] 148) U U (by k_ne) s.r K (λw=>by go_simp) (λw=>by simp[go_sem]) λo X=> ?_;walk_nrm;have D:iG fl l (gS l o<|É #[À Á,Ê Î 0,À Á,À Á] 148):=KU s rU X;have L:(gS l o<|É #[À Á,Ê Î 0,À Á,À Á] 148).w.heap[o.heap.size]?=Â (É #[À Á,Ê Î 0,À Á,À Á] 148):=n7;have tf:l.w.heap.size<=o.heap.size:=X.r;have q:(gS l o<|É #[À Á,Ê Î 0,À Á,À Á] 148).O o.heap.size:=Ç U;generalize gS l o (É #[À Á,Ê Î 0,À Á,À Á] 148)=l₁ at D L q|-;generalize o.heap.size=tb at L q tf|-;apply gl (n:=3) D.fA;w_go fF;refine Ë λ_ _=> ?_;refine vM U U (by k_ne) λr P=> ?_;have E:r.heap[tb]?=_:=(P.I tb<|Ã q).trans L;have u:r.cell? ⟨tb,0,Á⟩=Â (À Á):=by simp[Ö,E]
 have z:r.cell? ⟨tb,1,Á⟩=Â (Ê Î 0):=by simp[Ö,E]
 have B:r.cell? ⟨tb,2,Á⟩=Â (À Á):=by simp[Ö,E]
 have C:r.cell? ⟨tb,3,Á⟩=Â (À Á):=by simp[Ö,E]
 have hz:∀c,r.frozen? ⟨tb,c,Á⟩=Ì:=λc=>by simp[î,E]
 go_simp;refine⟨{l₁ with w:=iZ r tb (À f) (Ê Î j7) (À<|Â ⟨j9,0,Á⟩) (À O)},KV (p:=tb) (my D.fA P) (by rwa[D.q]) q xx (λc x=>zy x) ⟨U,U,U⟩ λe h=> ?_,?_⟩
 .have a:=đ h;have e:∀c,qj l₁ ⟨tb,c,Á⟩:=λc=>Ã q;simp[go_sem,á _ _ _ _ _ _ (show Ø (À f)=Ò from rfl),á _ _ _ _ _ _ (show Ø (À<|Â ⟨j9,0,Á⟩)=Ò from rfl),á _ _ _ _ _ _ (show Ø (À O)=Ò from rfl),u,z,B,C,hz]at a;rcases a with rfl|rfl|rfl|rfl
  .exact(e _).r
  .exact(e _).r
  .exact(e _).r
  .exact(e _).r
 let⟨Q,S,T,V⟩:=Rw (v0:=À f) (v1:=Ê Î j7) (v2:=À<|Â ⟨j9,0,Á⟩) (v3:=À O) u z B C;have F:=Rx (w':=iZ r tb (À f) (Ê Î j7) (À<|Â ⟨j9,0,Á⟩)<|À O) s rU D P tf xx λc x=>zy x;have vV:({l₁ with w:=iZ r tb (À f) (Ê Î j7) (À<|Â ⟨j9,0,Á⟩) (À O)}:fh).O tb:=q;replace Q:({l₁ with w:=iZ r tb (À f) (Ê Î j7) (À<|Â ⟨j9,0,Á⟩) (À O)}:fh).w.cell? ⟨tb,0,Á⟩=_:=Q;replace S:({l₁ with w:=iZ r tb (À f) (Ê Î j7) (À<|Â ⟨j9,0,Á⟩) (À O)}:fh).w.cell? ⟨tb,1,Á⟩=_:=S;replace T:({l₁ with w:=iZ r tb (À f) (Ê Î j7) (À<|Â ⟨j9,0,Á⟩) (À O)}:fh).w.cell? ⟨tb,2,Á⟩=_:=T;replace V:({l₁ with w:=iZ r tb (À f) (Ê Î j7) (À<|Â ⟨j9,0,Á⟩) (À O)}:fh).w.cell? ⟨tb,3,Á⟩=_:=V;generalize({l₁ with w:=iZ r tb (À f) (Ê Î j7) (À<|Â ⟨j9,0,Á⟩) (À O)}:fh)=l₂ at Q S T V F vV|-;clear L q D E u z B C hz P r l₁ X o;have W:=F.G s;have qk:¬l₂.q:=by rwa[F.q]
 have cd2:l₂.w.cell? ⟨J,i%n,Á⟩=Â (è<|Â k):=(gQ<|F.r J<|Ã ZU).trans cd;apply gl (n:=5) W.r;w_go fF;refine Ë λ_ _=> ?_;refine akb (II oa #[y0,Æ (Â ⟨J,0,Á⟩) n j,y2,y3,Ê Î i,À<|Â ⟨tb,0,Á⟩,y6,y7,Æ (Â ⟨j6,0,Á⟩) b m,Ê Î b,Ê Î i,ŝ Ò,Ê Î i,À<|Â ⟨j6,i*4,Á⟩,Đ #[À f,Ê Î j7,À<|Â ⟨j9,0,Á⟩,À O],qS,vT,vU,uJ,uK,uL,s8,s9,td,rM,sY,rN,pD,oy,qe,qf,qg] (uR J n i (i%n) k (Æ (Â ⟨J,0,Á⟩) n j)<|Đ #[À f,Ê Î j7,À<|Â ⟨j9,0,Á⟩,À O])<|Lq l₂) W.r qk (λa x=> ?_) (λY listed a t i' rest hI I e HL=>akc (J:=A1 Ä Ò k (Đ #[À f,Ê Î j7,À<|Â ⟨j9,0,Á⟩,À O]) N) (N:=N) W qk U U U U vV (F.O J ZU) hn wi Z U cd2 Q S T V (λl H _ _ _ h=>h) (λt H hA hs h=> ?_) Y listed a t i' rest hI I e HL) λY listed a kA hI I zE=> ?_
 .exact⟨(),lP.S _ _ _,(iG.gd W.r).N (λ_ b=>b.elim) ⟨x.r,x.I,x.N,x.Y,x.S⟩,A⟩
 .have x:=F.fj hA;have a:=(h 1 A).trans (show _=Â (Æ (Â ⟨J,0,Á⟩) n j)from U);have o8:=(h 8 A).trans (show _=Â (Æ (Â ⟨j6,0,Á⟩) b m)from U);have o9:=(h 9 A).trans (show _=Â (Ê Î b)from U);have o10:=(h 10 A).trans (show _=Â (Ê Î i)from U);clear h;obtain⟨x0,x1,x2,x3,x4,x5,x6,x7,x8,x9,Ze,x11,x12,x13,x14,x15,x16,x17,x18,x19,x20,x21,x22,x23,x24,x25,x26,x27,x28,x29,x30,x31,rfl⟩:=HJ H hs;obtain rfl:x1=Æ (Â ⟨J,0,Á⟩) n j:=by simpa using a
  obtain rfl:x8=Æ (Â ⟨j6,0,Á⟩) b m:=by simpa using o8
  obtain rfl:x9=Ê Î b:=by simpa using o9
  obtain rfl:Ze=Ê Î i:=by simpa using o10
  apply gl (n:=9) x.fA;iterate 7 w_go fF
  refine Ë λ_ _=> ?_;refine hN t _ x ⟨U,U,U,U,?_⟩;simp;grind [BL]
 .let⟨x,a,h,h8⟩:=hI;have oX:∀i∈ã 9,listed.getD i Ì=Ò:=by
   cases Y
   .exact pF zE I (ã 9) [] gh λi e=>by cases e
   .exact pF zE I (ã 9) [] gh λi e=>by cases e
   .exact pF zE I (ã 9) [] gh λi e=>by cases e
  grind
end
noncomputable def Ce (t:Array Ï) (a:List é):Ý:=G ((base 35).at ⟨t,[]⟩ [ö Ln,ą Ln,ô 2]) a
structure ET(dv:Ï)(n j:Nat)(t:Array Ï):Prop where
 r:t.size=32
 akh:t[24]?=Â dv
 C:t[25]?=Â (Ê Î n)
 I:t[26]?=Â (Ê Î j)
def HP(t:Array Ï):é:=(base 20).at ⟨t,[]⟩ [Ñ K2 [2],ö<|(ä 13 K3 Ì).seq K4]
def Ey(t:Array Ï)(a:List é):Ý:=G ((base 20).at ⟨t,[]⟩ [Ñ K3 [],ö K4]) a
structure SE(ba all n8:Nat)(t:Array Ï):Prop where
 r:t.size=49
 I:t[8]?=Â (À<|Â ⟨ba,0,Á⟩)
 C:t[11]?=Â (À<|Â ⟨n8,0,Á⟩)
 RV:t[12]?=Â (À<|Â ⟨all,0,Á⟩)
section
variable{J a N:Jd}{l:fh}{t:Array Ï}{ba all n8:Nat}{dv:Ï}
def aki(e:j0 l)(a:ST ba all n8 n n (Æ O k j9) dv t)(f:∀b d,DT dv O k j9 0 b->SE ba all n8 d->fq Ä Ò J l (Cd b<|HP d::qX)):fq Ä Ò J l (BR t qX):=by
 obtain⟨p,q,r,s,u,v,w,x,g,y,h,i,j,c,z,B,C,D,E,F,G,H,I,K,L,M,N,m,o,P,Q,S,T,V,W,X,Y,uw,uy,uz,uA,uB,uC,uD,uE,uF,qh,qi,xv,rfl⟩:=Hr t a.r;obtain rfl:g=À (Â ⟨ba,0,Á⟩):=by simpa using a.a
 obtain rfl:h=Æ O k j9:=by simpa using a.C
 obtain rfl:i=À (Â ⟨n8,0,Á⟩):=by simpa using a.I
 obtain rfl:j=À (Â ⟨all,0,Á⟩):=by simpa using a.M
 obtain rfl:dv=c:=(show c=dv by simpa using a.N).symm;obtain rfl:m=Ê Î n:=by simpa using a.S
 obtain rfl:o=Ê Î n:=by simpa using a.Y
 have hF:True:=trivial;apply gl (n:=40) e;simp only[BR,Er,RR];iterate 7 w_go fF
 simp only[K5,K2];iterate 4 w_go fF
 u_call ŵ gh Ŗ fF hF
 iterate 9 w_go fF
 refine Ë λ_ _=> ?_;exact f _ _ ⟨U,U,U,U,U⟩ ⟨U,U,U,U⟩
def akj(d:j0 l)(a:DT (Æ (Â ⟨j7,0,Á⟩) n b) O k j9 k t)(e:∀c,ET (Æ (Â ⟨j7,0,Á⟩) n b) n 0 c->fq Ä Ò J l (Ce c qX)):fq Ä Ò J l (Cd t qX):=by
 obtain⟨i,f,j,m,o,p,q,r,s,g,h,u,v,w,x,y,z,B,C,D,E,F,G,H,I,K,L,M,N,P,Q,S,rfl⟩:=HJ t a.r;obtain rfl:f=Æ (Â ⟨j7,0,Á⟩) n b:=by simpa using a.C
 obtain rfl:g=Ê Î k:=by simpa using a.M
 obtain rfl:h=Ê Î k:=by simpa using a.I
 have hF:True:=trivial;apply gl (n:=40) d;simp only[Cd];conv in Lp=>whnf
 iterate 7 w_go fF
 conv in ZS=>whnf
 iterate 8 w_go fF
 refine Ë λ_ _=> ?_;exact e _ ⟨U,U,U,U⟩
def akk(a:gF l)(g:¬l.q)(c:ET (Æ (Â ⟨j7,0,Á⟩) n b) n j t)(z:j<n)(B:n<1000)(i:l.O j7)(o:l.w.cell? ⟨j7,j,Á⟩=Â (è<|Â m)) (p:∀d e,iG fl l d->ET (Æ (Â ⟨j7,0,Á⟩) n b) n (j+1) e->fq Ä Ò N d (Ce e qX)):fq Ä Ò (JY Ä Ò m N) l (Ce t qX):=by
 obtain⟨C,D,F,G,H,I,J,K,L,M,P,Q,S,T,V,W,X,Y,uJ,uK,uL,s8,s9,td,q,u,v,pD,oy,qe,qf,qg,rfl⟩:=HJ t c.r;obtain rfl:q=Æ (Â ⟨j7,0,Á⟩) n b:=by simpa using c.akh
 obtain rfl:u=Ê Î n:=by simpa using c.C
 obtain rfl:v=Ê Î j:=by simpa using c.I
 have hF:True:=trivial;apply gl (n:=40) a.r;simp only[Ce];conv in Ln=>whnf
 repeat w_go fF
 refine Ë λ_ _=> ?_;apply oW (x:=⟨j7,j,Á⟩) U U (by k_ne) a.r g (Ã<|Ã i) o (λw h=>by go_simp) (λw h=>by simp[go_sem,h]);walk_nrm;apply gl (n:=40) a.r;iterate 4 w_go fF
 refine Ë λ_ _=> ?_;refine .fE λw₁ y=>⟨U,U,_,U,λAY cap buf s r tm h=>(stepG_close U U (by k_ne) U U h gh).trans U,?_⟩;walk_nrm;have f:=(iG.gd (E:=fl) a.r).N (λ_ k=>k.elim) y;apply gl (n:=20) f.fA;iterate 7 w_go fF
 refine Ë λ_ _=> ?_;refine p _ _ f ⟨U,U,U,?_⟩;simp;exact BL Z Z
def akl(e:gF l)(g:l.d=0)(p:60<=i)(f:ET dv n n t)(c:SE ba all n8 d)(j:l.K ⟨all,0,Á⟩/\l.K ⟨all,1,Á⟩)(q:nF all l.w) (r:∀m o,iG fl l m->SE ba all n8 o->a m (Ey o qX)):fq Ä Ò (qM Ä Ò i all a .jd) l (Ce t<|HP d::qX):=by
 obtain⟨G,H,I,J,L,M,N,P,Q,S,T,V,W,X,Y,qS,vT,vU,uJ,uK,uL,s8,s9,td,rM,s,u,pD,oy,qe,qf,qg,rfl⟩:=HJ t f.r;obtain rfl:s=Ê Î n:=by simpa using f.C
 obtain rfl:u=Ê Î n:=by simpa using f.I
 have hF:True:=trivial;apply gl (n:=40) e.r;simp only[Ce,HP,K2];conv in Ln=>whnf
 iterate 8 w_go fF
 obtain⟨z0,z1,z2,z3,z4,z5,z6,z7,v,z9,z10,x,y,z13,z14,z15,z16,z17,z18,z19,z20,z21,z22,z23,z24,z25,z26,z27,z28,z29,z30,z31,z32,z33,z34,z35,z36,z37,z38,z39,z40,z41,z42,z43,z44,z45,z46,z47,z48,rfl⟩:=Hr d c.r;obtain rfl:v=À (Â ⟨ba,0,Á⟩):=by simpa using c.I
 obtain rfl:x=À (Â ⟨n8,0,Á⟩):=by simpa using c.C
 obtain rfl:y=À (Â ⟨all,0,Á⟩):=by simpa using c.RV
 u_leave0 ŵ fF hF
 simp only[K3];iterate 3 w_go fF
 u_call qR.f_wait (nm_wait Lk) waitFn fF hF
 refine Ë λ_ _=> ?_;refine YY qR p (⟨Ã j.1,Ã j.2,λw z b B C D F h=>h.fj ⟨b,B,C,D,F⟩⟩) ⟨e.r,q,fL.gd _ _⟩ g λz B=> ?_;walk_nrm;refine .fE λC b=> ?_;have h:=(iG.gd (E:=fl) e.r).N (λ_ k=>k.elim)<|B.2.2.fj ⟨b.r,b.I,b.N,b.Y,b.S⟩;exact r {l with d:=0,w:=C} _ ⟨h.O,h.h,h.Y,h.I,h.c,h.K,h.q,g.symm,h.fA,h.f,h.r,h.e,h.S,h.b,h.g⟩ ⟨U,U,U,U⟩
end
def wj(a:Nat)(b c:Ï)(_:Unit):Nat->Ï
 |0=>b
 |1=>À<|Â ⟨a,0,Á⟩
 |2=>À<|Â ⟨a,0,Á⟩
 |3=>À<|Â ⟨a,2,Á⟩
 |4=>c
 |5=>b
 |_=>c
def Lt(a:fh)(_:Array Bool)(_:Unit)(l:fh):Prop:=gu fl a l
section
variable{J:Jd}{g:fh}{h:Option â}
def akm(K:¬g.q)(N:q.size=49)(P:q[8]?=Â (À<|Â ⟨m,0,Á⟩))(Q:q[11]?=Â (À<|Â ⟨j9,0,Á⟩))(E:g.M m)(F:ia g ⟨j9,2,Á⟩)(S:g.w.cell? ⟨m,0,Á⟩=Â (Æ O b n))(T:g.w.cell? ⟨j9,2,Á⟩=Â (Æ h j6 j7)) (md:ý) (listed:Array Bool) (y:ŏ) (l:fh) (i:Nat) (jJ:List Nat) (V:II xD q (wj j9 (Æ O b n)<|Æ h j6 j7) (Lt g) listed y l) (k:i∈Û md xD listed): fq Ä Ò (λc d=>∃a,d=G ((base 20).at a<|Ñ xD jJ::L) qX/\II xD q (wj j9 (Æ O b n)<|Æ h j6 j7) (Lt g) (listed.setIfInBounds i Ò) a c) l (G ((base 20).at y<|Ñ xD (i::jJ)::L) qX):=by
 let⟨x,j,p⟩:=V;have s:qO xD q.size=Ò:=by rw[N];decide
 have H:=zv k;have t:=p.fA;have u:¬l.q:=by rwa[show l.q=g.q from p.q]
 have W:=(j.C A).trans P;have X:=(j.C A).trans Q;have B:ia l ⟨m,0,Á⟩:=Ã<|p.M E;have D:ia l ⟨j9,2,Á⟩:=F.imp (λa=>p.M a) λa=>by rwa[p.C]
 have I:=(gQ<|p.r m E id).trans S;have J:l.w.cell? ⟨j9,2,Á⟩=Â (Æ h j6 j7):=by
  refine Ŀ ?_ T;rcases F with a|a
  .exact gQ<|p.r _ a id
  .exact p.f _ a
 have v:∀{c:Nat},∀d,fL l l.w d->Lt g (listed.setIfInBounds c Ò) () {l with w:=d}:=λd r=>p.G r;have Y:xD.size=7:=A
 rw[Y]at H;match i,H with
 |0,_=>
  refine iy (o:=Hh) s j U U k (by k_ne) t u (λd r=> ?_) (λd r e f=> ?_) v
  .have z:=(B.r r).trans I;simp only[wj,Hh];go_simp
  .have z:=(B.r r).trans I;simp[go_sem,Hh,W,z]at f;subst f;exact B.C
 |4,_=>
  have h47:y.tmps[47]?=Â (À<|Â ⟨j9,2,Á⟩):=j.r 3 Hk 47 U (ik k U U) U;refine iy (o:=Hl) s j U U k (by k_ne) t u (λd r=> ?_) (λd r e f=> ?_) v
  .have z:=(D.r r).trans J;simp only[wj,Hl];go_simp
  .have z:=(D.r r).trans J;simp[go_sem,Hl,h47,z]at f;subst f;exact D.C
 |1,_=>
  refine iy (o:=Hi) s j U U k (by k_ne) t u (λd r=> ?_) (λd r e f=> ?_) v
  .simp only[wj,Hi];go_simp
  .simp[go_sem,Hi,X]at f
 |2,_=>
  have z:y.tmps[45]?=Â (À<|Â ⟨j9,0,Á⟩):=j.r 1 Hi 45 U (ik k U U) U;refine iy (o:=Hj) s j U U k (by k_ne) t u (λd r=> ?_) (λd r e f=> ?_) v
  .simp only[wj,Hj];go_simp
  .simp[go_sem,Hj,z]at f
 |3,_=>
  have z:y.tmps[46]?=Â (À<|Â ⟨j9,0,Á⟩):=j.r 2 Hj 46 U (ik k U U) U;refine iy (o:=Hk) s j U U k (by k_ne) t u (λd r=> ?_) (λd r e f=> ?_) v
  .simp only[wj,Hk];go_simp
  .simp[go_sem,Hk,z]at f
 |5,_=>
  have z:y.tmps[44]?=Â (Æ O b n):=j.r 0 Hh 44 U (ik k U U) U;refine iy (o:=Hm) s j U U k (by k_ne) t u (λd r=> ?_) (λd r e f=> ?_) v
  .simp only[wj,Hm];go_simp
  .simp[go_sem,Hm,z]at f
 |6,_=>
  have z:y.tmps[48]?=Â (Æ h j6 j7):=j.r 4 Hl 48 U (ik k U U) U;refine iy (o:=Hn) s j U U k (by k_ne) t u (λd r=> ?_) (λd r e f=> ?_) v
  .simp only[wj,Hn];go_simp
  .simp[go_sem,Hn,z]at f
def akn(c:gF g)(t:¬g.q)(e:SE m j j9 d)(B:g.M m)(C:ia g ⟨j9,2,Á⟩)(D:g.w.cell? ⟨m,0,Á⟩=Â (Æ O b n))(E:g.w.cell? ⟨j9,2,Á⟩=Â (Æ h j6 j7)) (F:∀u,gu fl g u->fq Ä Ò J u (G (f.at (y.put ((Q[i]?).bind (·.dst))<|ñ #[Æ O b n,Æ h j6 j7])<|Ñ Q jJ::L) qX)): fq Ä Ò J g (Ey d<|f.at y (Ñ Q (i::jJ)::L)::qX):=by
 have hF:=trivial;apply gl (n:=9) c.r;simp only[Ey,K4];iterate 2 w_go fF
 refine Ë λ_ _=> ?_;refine KO (II xD d (wj j9 (Æ O b n)<|Æ h j6 j7)<|Lt g) c.r t (λl a=>⟨(),lP.S _ _ _,(gu.gd c.r).G ⟨a.r,a.I,a.N,a.Y,a.S⟩⟩) (λk o y l i jJ p a=>akm t e.r e.I e.C B C D E k o y l i jJ p a) λk o H I p r s=> ?_;let⟨x,l,K⟩:=p;have v:∀i∈ã 7,o.getD i Ì=Ò:=by
  cases k
  .exact pF s r (ã 7) [] gh λi a=>by cases a
  .exact λi a=>pF s r [0,5,1,2,3,4,6] [] gh (λi a=>by cases a) i (by have:=Ē.1 a;revert i;decide)
  .exact pF s r (ã 7) [] gh λi a=>by cases a
 let⟨a,N⟩:=H;obtain rfl:N=[]:=l.M;have P:a[6]?=Â (Æ O b n):=l.r 5 Hm 6 U (v 5 A) U;have S:a[7]?=Â (Æ h j6 j7):=l.r 6 Hn 7 U (v 6 A) U;have X:=l.Y.trans e.r;have z:=K;have T:=z.N c;have V:a.getD 6 Å=Æ O b n:=by simp[ď,P]
 have W:a.getD 7 Å=Æ h j6 j7:=by simp[ď,S]
 apply gl (n:=9) T.r;iterate 2 w_go fF
 u_in fF hF
 refine goes_leave2 U U Tryz.func20 U ⟨by u_nil,?_⟩;rw[V,W];refine Ë λ_ _=>F I z
end
structure SD where
 L:Nat
 g:Nat
 n:Nat
 m:Nat
 q:Nat
 N:Nat
 I:Nat
 C:Nat->Nat
 M:Nat
 S:Nat
 s:Nat
 u:Option â
 t:Nat
 l:Option â
 k:Nat
 o:Nat->Option â
 a:Nat->Nat
 i:Nat->Option â
 c:Nat->Nat
 b:Nat->Nat
 f:List é
 d:Nat->Prop
 RC:ß->Prop
 p:ß->Prop
 γ:Type
 w:γ
 v:Nat->Prop
 h:Nat->γ->γ->Prop
 RD:γ->Ï->(Nat->Prop)->ß->Prop
 e:Nat->ByteArray
 j:Nat->ByteArray
def SD.Y(D:SD):Fx:=⟨D.L,D.m,D.I,D.C⟩
def SD.ako(D:SD)(i:Nat):Ï:=Đ #[À<|D.i i,Ê Î<|D.c i,À<|Â ⟨D.C<|D.b i,0,Á⟩,À Á]
structure lR(D:SD)(S:Nat->Prop)(l:fh):Prop where
 C:∀b,D.Y.M b->l.K ⟨b,0,Á⟩/\l.K ⟨b,1,Á⟩
 M:∀b,D.Y.M b->nF b l.w
 c:S D.S
 d:l.w.cell? ⟨D.S,0,Á⟩=Â (Æ (Â ⟨D.M,0,Á⟩) D.N D.N)
 f:S D.s
 g:l.w.cell? ⟨D.s,0,Á⟩=Â (Æ D.u D.m D.t)
 h:∀k,k<D.m->∃b,D.u=Â ⟨b,0,Á⟩/\S b/\l.w.cell? ⟨b,k*4,Á⟩=Â (À<|D.o<|k+1)/\l.w.cell? ⟨b,k*4+1,Á⟩=Â (Ê Î<|D.a<|k+1)/\l.w.cell? ⟨b,k*4+2,Á⟩=Â (À<|Â ⟨D.C k,0,Á⟩)/\l.w.cell? ⟨b,k*4+3,Á⟩=Â (À<|Â ⟨D.C<|k+1,0,Á⟩)
 j:∀i,i<D.q->∃b,D.l=Â ⟨b,0,Á⟩/\S b/\l.w.cell? ⟨b,i*4,Á⟩=Â (À<|D.i i)/\l.w.cell? ⟨b,i*4+1,Á⟩=Â (Ê Î<|D.c i)/\l.w.cell? ⟨b,i*4+2,Á⟩=Â (À<|Â ⟨D.C<|D.b i,0,Á⟩)/\l.w.cell? ⟨b,i*4+3,Á⟩=Â (À Á)
 r:∀a,l.r a->(l.w.cell? a).isSome=Ò/\l.w.frozen? a=Ì
 Y:∀b,D.d b->S b
 e:D.RC l.w
structure SD.Ok(D:SD):Prop where
 C:∀w w',D.RC w->(∀b,D.d b->w'.heap[b]?=w.heap[b]?)->D.RC w'
 ioS:∀w w',D.p w->(w'.os=w.os/\w'.output=w.output)->D.p w'
 r:∀s sl V w w',D.RD s sl V w->(∀b,V b->w'.heap[b]?=w.heap[b]?)->D.RD s sl V w'
 I:1<=D.n
 L1:1<=D.L
 gq:D.n+D.q+D.m<1000
 N1:D.N<1000
 S:∀i,D.b i<=D.m
 a:∀i,i<D.q->D.c i<D.N
 Y:∀k,1<=k->k<=D.m->D.a k<D.N
 akp:∀k,k<=D.m->D.C k≠D.I
 akq:∀k k',k<=D.m->k'<=D.m->D.C k=D.C k'->k=k'
 M:¬D.Y.M D.M
 pq:∀i i',i<D.q->i'<D.q->D.c i=D.c i'->i=i'
 pi:∀k k',1<=k->k<=D.m->1<=k'->k'<=D.m->D.a k=D.a k'->k=k'
 O2:∀i k,i<D.q->1<=k->k<=D.m->D.c i≠D.a k
 gB:∀b,D.Y.M b\/b=D.M->D.g<=b
section
variable{D:SD}{S:Nat->Prop}{l f:fh}
def lR.I(h:lR D S l)(ok:D.Ok)(e:∀b,S b->X b)(c:∀b,S b->f.w.heap[b]?=l.w.heap[b]?)(q:f.K=l.K)(p:∀a,l.K a->(l.w.cell? a).isSome=Ò->(f.w.cell? a).isSome=Ò)(r:∀a,f.r a->(f.w.cell? a).isSome=Ò/\f.w.frozen? a=Ì):lR D X f where
 C b hg:=by rw[q];exact h.C b hg
 M b hg:=⟨p _ (h.C b hg).1 (h.M b hg).1,p _ (h.C b hg).2 (h.M b hg).2⟩;c:=e _ h.c;d:=(gQ<|c _ h.c).trans h.d;f:=e _ h.f;g:=(gQ<|c _ h.f).trans h.g;h k hk:=by let⟨b,g,d,j,m,n,o⟩:=h.h k hk;exact⟨b,g,e b d,(gQ<|c b d).trans j,(gQ<|c b d).trans m,(gQ<|c b d).trans n,(gQ<|c b d).trans o⟩
 j i hi:=by let⟨b,g,d,j,m,n,o⟩:=h.j i hi;exact⟨b,g,e b d,(gQ<|c b d).trans j,(gQ<|c b d).trans m,(gQ<|c b d).trans n,(gQ<|c b d).trans o⟩
 r:=r;Y b d:=e b<|h.Y b d;e:=ok.C _ _ h.e λb d=>c b<|h.Y b d
def lR.G(h:lR D S l)(ok:D.Ok)(c:∀b,S b->l.M b)(r:fL l l.w u):lR D S {l with w:=u}:= h.I ok (λ_ q=>q) (λb q=>r.I b<|c b q) U r.S λa q=>by have:=h.r a q;exact⟨by show(u.cell? a).isSome=Ò;rw[r.N a<|Ã q];exact this.1,(r.Y a<|Ã q).trans this.2⟩
def lR.Sz{E:â->Prop}(h:lR D S l)(ok:D.Ok)(g:∀b,S b->l.M b)(c:iG E l f):lR D S f:= h.I ok (λ_ q=>q) (λb q=>c.r b<|g b q) c.K c.b λa q=>by
  rw[c.I]at q;let⟨d,i⟩:=h.r a q;refine⟨?_,(c.S a<|Ã q).trans i⟩;by_cases e:E a
  .exact c.g a e d
  .rwa[c.e a (Ã q) e]
def lR.akr(h:lR D S l)(ok:D.Ok)(d:∀b,S b->l.M b/\¬X b)(c:gu X l f):lR D S f:= h.I ok (λ_ q=>q) (λb q=>c.r b (d b q).1 (d b q).2) c.K c.e λa q=>by rw[c.Y]at q;let⟨e,g⟩:=h.r a q;exact⟨by rwa[c.f a<|Ã q],(c.g a<|Ã q).trans g⟩
def lR.N(h:lR D S l)(a:∀b,S b->X b):lR D X l:=⟨h.C,h.M,a _ h.c,h.d,a _ h.f,h.g,λk c=>let⟨b,d,e,f⟩:=h.h k c;⟨b,d,a b e,f⟩,λk c=>let⟨b,d,e,f⟩:=h.j k c;⟨b,d,a b e,f⟩,h.r,λb q=>a b<|h.Y b q,h.e⟩
end
section
variable(D:SD)
def jL(a:Nat->Nat)(j:Nat):List Ï:=(ã j).map λi=>è<|Â<|a i
def Cf(k:Nat):Jd:=λl g=>l.d=0/\¬l.q/\lR D l.M l/\∃t a b c e f h i j n o,BK D.M D.N D.u D.m D.t k t/\l.M a/\l.w.cell? ⟨a,0,Á⟩=Â (À<|Â ⟨D.I,0,Á⟩)/\g=zz t [vW h i j n o,zF a b c e f,n5 Ä]
def ZV(c i:Nat):Jd:=λl g=>l.d=0/\¬l.q/\lR D l.M l/\∃t a b e f h j k m n o p,QT D.M D.N c t/\t[4]?=Â (À<|Â ⟨a,0,Á⟩)/\l.O a/\l.w.cell? ⟨a,0,Á⟩=Â (À<|D.i i)/\l.w.cell? ⟨a,1,Á⟩=Â (Ê Î<|D.c i)/\l.w.cell? ⟨a,2,Á⟩=Â (À<|Â ⟨D.C<|D.b i,0,Á⟩)/\l.M b/\l.w.cell? ⟨b,0,Á⟩=Â (À<|Â ⟨D.I,0,Á⟩)/\g=KY t [Hd k m n o p,zF b e f h j,n5 Ä]
def aks:Jd:=λl g=>lR D l.M l/\∃t a b c,Hq D.S D.I (D.C D.m) D.n (Æ D.l D.q D.k) t/\il l a (É #[À<|Â ⟨D.I,0,Á⟩] 155)/\il l b (É #[Ĉ (ù 31) #[] #[À<|Â ⟨D.s,0,Á⟩,À<|Â ⟨D.S,0,Á⟩]] 1)/\g=BS (À<|Â ⟨D.I,0,Á⟩) c (À<|Â ⟨D.I,0,Á⟩) (ñ #[]) a b (Es t::D.f)
def akt(j:Nat)(a:Nat->Nat):Jd:=λl g=>lR D l.I l/\∃t e c b d f,ST D.S D.I (D.C D.m) D.n (j-1) (Æ D.l D.q D.k) e t/\Zt D.S D.I D.q e (jL a j) (a<|j-1) c b d l/\a (j-1)<c/\c<b/\b<d/\(∀k,e.ownBlock=Â k->k≠a (j-1)/\k≠c/\k≠b/\k≠d)/\D.g<=a (j-1)/\g=BS (À<|Â ⟨D.I,0,Á⟩) f (À<|Â ⟨D.I,0,Á⟩) (ñ #[]) b d (K6 t::D.f)
def Lu(j:Nat)(a:Nat->Nat):Jd:=λl g=>l.d=0/\¬l.q/\D.g<=l.w.heap.size/\((j=0/\aks D l g)\/(1<=j/\akt D j a l g))
def ZW:Jd:=λl g=>l.d=0/\¬l.q/\lR D l.I l/\∃a,SE D.S D.I (D.C D.m) a/\g=Ey a D.f
def SD.r(P:ė):Ph where
 toFx:=D.Y
 P:=P
 S:=D.g
 n:=D.n
 q:=D.q
 Y:=D.M
 f:=D.N
 r:=D.b
 a:=D.c
 b:=D.a
 c:=D.ako
 z:=zT
 B:=60
 γ:=D.γ
 l:=D.w
 i:=D.v
 p:=D.h
 d:=λk s V w=>(∃a,w.cell? ⟨D.C k,2,Á⟩=Â a/\D.RD s a V w)/\(k=0->w.cell? ⟨D.M,D.N,Á⟩=Á/\lb w D.M=Â (0,0)/\D.p w)
 o:=D.e
 k:=D.j
 g:=Lu D
 h:=Cf D
 e:=ZV D
 j:=λ_=>ZW D
end
def Ez(D:SD):Prop:=∀k s e V l,k<D.m->nz (D.r Ä) k s->D.RD s e V l.w->(∀b,V b->l.M b)->gF l->¬l.q->(∀b,D.d b->l.M b)->D.RC l.w->∀f g,fq Ä Ì (λa j=>a.d=l.d/\∃p n c,j=G (f.finish<|ñ #[Æ p n c,à<|D.e<|k+1]) g/\∃h i,D.h k s h/\D.RD h (Æ p n c) i a.w/\∀b,i b->a.M b) (mB l)<|G (Ă Ä 50 #[e,À<|D.o<|k+1] Ğ)<|f::g
def EA(D:SD):Prop:=∀i s a V l,i<D.q->nz (D.r Ä) (D.b i) s->D.RD s a V l.w->(∀b,V b->l.M b)->gF l->¬l.q->(∀b,D.d b->l.M b)->D.RC l.w->∀b c,fq Ä Ì (λe f=>e.d=l.d/\f=G (b.finish<|à<|D.j i) c) (mB l)<|G (Ă Ä 51 #[a,À<|D.i i] Ğ)<|b::c
section
variable{D:SD}
def HQ(k:Nat)(a:k<=D.m):D.Y.M (D.C k):=Ç ⟨k,a,U⟩
def zL:D.Y.M D.I:=Ã U
def aku(ok:D.Ok):(D.r Ä).Ok:=⟨ok.I,ok.L1,ok.gq,λi _=>ok.S i,ok.akp,ok.akq,ok.M,ok.pq,ok.pi,ok.O2,ok.gB,⟨λk a b e=>by have c:D.a k=D.N:=e;have:=ok.Y k a b;omega,λi d e=>by have c:D.c i=D.N:=e;have:=ok.a i d;omega⟩⟩
theorem akv(ok:D.Ok)(uj:Ez D):∀k s V l g,k<D.m->Cf D k l g->gF l->nz (D.r Ä) k s->(D.r Ä).d k s V l.w->(∀b,V b->l.I b)->l.N (jj D.Y k)->l.r (jj D.Y<|k+1)->l.r (jw (D.r Ä)<|D.a<|k+1)->∀B:Nat->D.γ,B k=s->fq Ä Ì (JI (D.r Ä) B<|.mk (k+1)) l g:=by
 intro k s V l g o hJ Ex SA Bn hV uG C E B hsg;obtain⟨hd,F,f,t,G,v1,v2,v3,v4,u0,u1,u2,u3,u4,hT,B3,cbw,rfl⟩:=hJ;let⟨⟨sl,hsl,qW⟩,_⟩:=Bn;let⟨b,zC,hbM,i0,i1,i2,i3⟩:=f.h k o;have Gy:=ok.gq;have lM:(⟨D.C<|k+1,2,Á⟩:â)≠⟨D.M,D.a<|k+1,Á⟩:=λe=>ok.M (by injection e with H _ _;rw[<-H];exact HQ (k+1) o);have A9:BK D.M D.N (Â ⟨b,0,Á⟩) D.m D.t k t:=by rwa[<-zC]
 have⟨oc1,oz1⟩:=f.r _ C;have⟨oc2,oz2⟩:=f.r _ E;have rU:∀a:â,(a=⟨D.C<|k+1,2,Á⟩\/a=⟨D.M,D.a<|k+1,Á⟩)->l.r a:=λa p=>by rcases p with rfl|rfl;exact C;exact E
 have r:=f.C _<|HQ (k+1) o;have ZX:=f.M _<|HQ (k+1) o;refine fq.fT (Stop:=λl g=>(∃i n,D.h k s i/\(D.r Ä).d (k+1) i n l.w/\(∀b,n b->l.M b)/\l.w.cell? ⟨D.M,D.a<|k+1,Á⟩=Â (à<|D.e<|k+1))/\yY Ä Ì (D.C<|k+1) (fq Ä Ì<|Cf D<|k+1) (qa (D.r Ä) l<|k+1) g) (λl g h=> ?_) ?_
 .let⟨⟨i,n,I,J,L,O⟩,P⟩:=h;exact⟨i,n,by subst hsg;exact I,J,L,O,P⟩
 refine ai3 (Q:=λv x y=>x=D.e (k+1)/\∃i n,D.h k s i/\D.RD i v n y.w/\∀b,n b->y.M b) (τ:=λl=>qa (D.r Ä) l<|k+1) Ex F hd A9 o Z (by have:=ok.N1;omega) (ok.Y (k+1) Z o) hbM i0 i1 i2 i3 uG hsl C E oc1 oc2 oz1 oz2 lM (λc v j u=> ?_) λc x v hQ RG KX=> ?_
 .refine(uj k s sl V c o SA (ok.r _ _ _ _ _ qW λb x=>v.r b<|Ç<|hV b x) (λb x=>v.M<|Ç<|hV b x) (v.G Ex) (by rwa[v.q]) (λb x=>v.M<|f.Y b x) (ok.C _ _ f.e λb x=>v.r b<|f.Y b x) j u).fT ?_;grind
 .let⟨y,⟨hstr,i,n,hnx,akw,ZY⟩,hy⟩:=hQ;rw[hstr]at KX;have ZZ:nF (D.C<|k+1) c.w:=⟨v.b _ r.1 ZX.1,v.b _ r.2 ZX.2⟩;refine⟨⟨Ã (by rw[v.K];exact r.1),Ã (by rw[v.K];exact r.2),λ_ _ _ _ _ _ _ _=>trivial⟩,⟨v.fA,ZZ,trivial⟩,⟨i,n,hnx,⟨⟨_,RG,ok.r _ _ _ _ _ akw λb x=>(hy b<|ZY b x).2⟩,λe=>by omega⟩,λb x=>(hy b<|ZY b x).1,KX⟩,v.d.trans hd,λw=>fL (qa (D.r Ä) c<|k+1) c.w w,⟨Ã (by show c.K _;rw[v.K];exact r.1),Ã (by show c.K _;rw[v.K];exact r.2),λw w₁ I J L O P h=>h.fj ⟨I,J,L,O,P⟩⟩,⟨λj h=>h.elim,ZZ,fL.gd _ _⟩,λAY t' akx X8=> ?_⟩;refine .fE λS u=> ?_;have z:=akx.2.2.fj ⟨u.r,u.I,u.N,u.Y,u.S⟩;have x:=λb x=>(z.I b<|Ç<|v.M x).trans<|v.r b x;have Z0:∀b,l.M b->({qa (D.r Ä) c (k+1)with d:=0,w:=S}:fh).M b:=λb x=>Ç<|v.M x;refine⟨U,by show¬c.q;rwa[v.q],f.I ok Z0 x (by show c.K=l.K;exact v.K) (λa p h=>z.S a (by show c.K a;rwa[v.K])<|v.b a p h) λa p=> ?_,t',G,v1,v2,v3,v4,u0,u1,u2,u3,u4,by rwa[zC],Z0 G B3,(gQ<|x G B3).trans cbw,U⟩;obtain⟨T,W,X⟩:c.r a/\a≠⟨D.M,D.a<|k+1,Á⟩/\a≠⟨D.C<|k+1,2,Á⟩:=p;have Y:l.r a:=by rwa[<-v.I]
  let⟨H,e2⟩:=f.r a Y;refine⟨?_,?_⟩
  .show(S.cell? a).isSome=Ò;rwa[z.N a<|Ã ⟨T,W,X⟩,v.e a (Ã Y) λq=>q.elim X W]
  .show S.frozen? a=Ì;rwa[z.Y a<|Ã ⟨T,W,X⟩,v.S a<|Ã Y]
def aky:∀l g,Cf D D.m l g->gF l->fq Ä Ì (A5<|D.r Ä) l g:=by intro l g c d;obtain⟨e,f,b,t,k,n,o,p,q,r,s,u,v,w,h,i,j,rfl⟩:=c;have a:=b.C _<|zL;exact ajb (Ψ:=λ_=>True) h a ⟨Ã a.1,Ã a.2,λ_ _ _ _ _ _ _ _=>trivial⟩ ⟨d.r,b.M _ zL,trivial⟩ e f (Ã i) j
def Z1(ok:D.Ok){r:Nat}{l:fh}{t:Array Ï}{g h m o p:Ï}(B:gF l)(s:¬l.q)(C:l.d=0)(a:lR D l.M l)(E:QT D.M D.N i t)(f:l.M k)(u:l.w.cell? ⟨k,0,Á⟩=Â (À<|Â ⟨D.I,0,Á⟩)): Dv (D.r Ä) i j r l (zH t [Hd g h m o p,zF k v x z jQ,n5 Ä]):=by have y:=ok.S<|j+r*D.n;refine ajg B s C E (Ú _) U (a.C _<|HQ _ y) (a.M _<|HQ _ y) (a.C _ zL) (a.M _ zL) (Ã f) u λQ F G e H I J K L O P=>(⟨H,by rwa[e.q],(a.Sz ok (λ_ q=>q) e).N λb q=>e.M q,G,F,k,v,x,z,jQ,g,h,m,o,p,O,P,I,J,K,L,e.M f,(gQ<|e.r k f).trans u,U⟩)
theorem akz(ok:D.Ok)(W:EA D):∀c j r s V l g,j+r*D.n<D.q->ZV D c (j+r*D.n) l g->∀f:fh,gF f->f.O=l.O->(∀b,l.I b\/V b->f.I b)->f.w=l.w->f.d=l.d->f.q=l.q->f.r=l.r->f.K=l.K->nz (D.r Ä) (D.b<|j+r*D.n) s->(D.r Ä).d (D.b<|j+r*D.n) s V l.w->f.N (jj D.Y<|D.b<|j+r*D.n)->f.r (jw (D.r Ä)<|D.c<|j+r*D.n)->fq Ä Ì (JW (D.r Ä) c j<|.oQ r) f g:=by
 intro c j r s V l g E X f v F y o Y SB Ko hK SA Bn uG p;obtain⟨hd,hq,G,t,tb,u,v1,v2,v3,v4,u0,u1,u2,u3,u4,hT,h4,hOt,H,I,J,L,N,rfl⟩:=X;let⟨⟨sl,P,S⟩,_⟩:=Bn;have B:∀b,l.M b->f.M b:=λb q=>q.elim (λz=>Ã<|by rwa[F]) λz=>Ç<|y b<|Ã z;have m:=G.I ok B (λb _=>by rw[o]) hK (λa _ h=>by rwa[o]) λa q=>by rw[o];exact G.r a<|by rwa[<-Ko]
 have C:¬f.q:=by rwa[SB]
 rw[<-o]at H I J N P S;let⟨e2,z2⟩:=m.r _ p;refine Hf (Q:=λx=>x=D.j (j+r*D.n)) v C hT h4 (by rwa[F]) H I J uG P p e2 z2 (ok.a _ E) (λi e k T=> ?_) λi x t' e hx hcx A9=> ?_
 .refine(W _ s sl V i E SA (ok.r _ _ _ _ _ S λb x=>e.r b<|Ç<|y b<|Ç x) (λb x=>e.M<|Ç<|y b<|Ç x) (e.G v) (by rwa[e.q]) (λb x=>e.M<|m.Y b x) (ok.C _ _ m.e λb x=>e.r b<|m.Y b x) k T).fT ?_;grind
 .have T:=(m.Sz ok (λ_ q=>q) e).N λb q=>e.M q;refine⟨hcx.trans (by rw[hx];rfl),?_⟩;have k:=e.G v;have G7:gF (vG (D.r Ä) i<|j+r*D.n):=by
   refine⟨k.c,λa x=> ?_,λa x=> ?_,k.fA,λa x=> ?_,λa x=> ?_⟩
   .rintro(q|q)
    .exact k.Y a x.1 q
    .exact x.2 q
   .refine k.N a ?_;rcases x with q|q|q
    .exact Ã q.1
    .exact Ç q
    .rw[q];exact Ã<|by rwa[e.I]
   .refine k.I a ?_;rcases x with q|q|q
    .exact Ã q.1
    .exact Ç q
    .rw[q];exact Ã<|by rwa[e.I]
   .let⟨k1,k2,k3⟩:=k.S a x;exact⟨k1,k2,λq=>k3 q.1⟩
  refine Z1 ok G7 (by show¬i.q;rwa[e.q]) (by show i.d=0;rwa[e.d,Y]) (T.I ok (λ_ q=>q) (λ_ _=>rfl) U (λ_ _ h=>h) λa q=>T.r a q.1) A9 (by show i.M u;exact e.M<|B u L)<|(gQ<|e.r u<|B u L).trans N
end
section
variable{D:SD}{dk:Nat->Nat}{dv:Ï}{l f:fh}
structure MF(D:SD)(dk:Nat->Nat)(dv:Ï)(l:fh):Prop where
 C:gF l
 q:¬l.q
 d:l.d=0
 r:lR D l.I l
 I:∃db c,dv=Æ (Â ⟨db,0,Á⟩) D.n c/\l.O db/\∀i,i<D.n->l.w.cell? ⟨db,i,Á⟩=Â (è<|Â<|dk i)
def MF.M(h:MF D dk dv l)(ok:D.Ok)(a:iG fl l f):MF D dk dv f where
 C:=a.G h.C;q:=by rw[a.q];exact h.q
 d:=a.d.trans h.d;r:=(h.r.Sz ok (λ_ q=>Ç q) a).N λb q=>by rwa[a.Y]
 I:=by let⟨e,c,j,g,k⟩:=h.I;exact⟨e,c,j,a.O e g,λi m=>(gQ<|a.r e<|Ã g).trans<|k i m⟩
def akA(ok:D.Ok):∀r,r<=D.n->∀l t b,MF D dk dv l->ET dv D.n (D.n-r) t->SE D.S D.I (D.C D.m) b->fq Ä Ò (A6 (D.r Ä) dk r) l (Ce t<|HP b::D.f):=by
 intro r
 induction r with
 |zero=>
  intro _ l t b a e g;rw[ũ]at e;refine akl a.C a.d (Ú _) e g (a.r.C _ zL) (a.r.M _ zL) λf i h j=> ?_;have c:=a.M ok h;exact⟨c.d,c.q,c.r,i,j,U⟩
 |succ r j=>
  intro s l t b a e g;obtain⟨u,c,rfl,k,o⟩:=a.I;have v:=ok.gq;refine akk a.C a.q e Z Z k (o (D.n-(r+1)) Z) λf p h i=> ?_;refine j Z f p b (a.M ok h) ?_ g;rwa[show D.n-(r+1)+1=D.n-r by omega]at i
def akB(ok:D.Ok):∀r,r<=D.q->∀l t d,MF D dk dv l->DT dv D.l D.q D.k (D.q-r) t->SE D.S D.I (D.C D.m) d->fq Ä Ò (Gm (D.r Ä) dk r) l (Cd t<|HP d::D.f):=by
 intro r
 induction r with
 |zero=>
  intro _ l t d a e h;rw[ũ]at e;obtain⟨j,c,rfl,k,o⟩:=a.I;refine akj a.C.r e λi g=>akA ok D.n (Ú _) l i d a ?_ h;rwa[Ū]
 |succ r s=>
  intro C l t d a e h;obtain⟨j,c,rfl,k,o⟩:=a.I;have E:=ok.gq;have F:=ok.I;let⟨b,p,u,v,w,x,y⟩:=a.r.j (D.q-(r+1)) Z;have z:DT (Æ (Â ⟨j,0,Á⟩) D.n c) (Â ⟨b,0,Á⟩) D.q D.k (D.q-(r+1)) t:=by rwa[<-p]
  refine akg a.C a.q z Z Z Z Z k (o _<|Ĵ _ Z) (Ç u) v w x y λf i B g=> ?_;refine s Z f i d (a.M ok B) ?_ h;rwa[show D.q-(r+1)+1=D.q-r by omega,<-p]at g
theorem akC(dk:Nat->Nat)(j a:Nat):jL (fC dk j a) (j+1)=jL dk j++[è<|Â a]:=by unfold jL;grind [ÿ,List.map_congr_left,fM,gI]
def akD(dk:Nat->Nat)(j:Nat):(jL dk j).length=j:=by simp[jL]
def akE(dk:Nat->Nat)(j i:Nat)(h:i<j):(jL dk j)[i]?=Â (è<|Â<|dk i):=by simp[jL,h]
theorem Z2(ok:D.Ok){t:Array Ï}(K:j<=D.n)(a:gF l)(o:¬l.q)(p:l.d=0)(h:lR D l.I l)(x:D.g<=l.w.heap.size)(v:ST D.S D.I (D.C D.m) D.n j (Æ D.l D.q D.k) dv t)(r:l.w.ownsRow 0 92 1 dv j (jL dk j))(s:∀k,dv.ownBlock=Â k->l.O k): fq Ä Ò (JM (D.r Ä) dk<|if j<D.n then .iI (j+1)else .iO D.q) l (BR t D.f):=by
 have L:=ok.gq;by_cases u:j<D.n
 .rw[if_pos u];show fq Ä Ò (O1 (D.r Ä) (j+1) dk) l _;rw[aiI];refine ajq a o p v u Z Z (h.C _ zL) (h.M _ zL) r s λf i y z B C E F c G H M N I J P=> ?_;refine⟨y,c.d.trans p,by rwa[c.q],Õ x c.I,Ç ⟨Z,(h.akr ok (λb g=>⟨Ç g,λe=>a.c b (s b e.symm) g⟩) c).N λb q=>(by rwa[c.S]),i,E,z,B,C,F,?_,?_,?_,I,J,?_,?_,U⟩⟩
  .rwa[ø]
  .rwa[ø,akC,gI]
  .grind [ø,gI]
  .grind [ø,gI]
  .grind [ø,gI,Õ]
 .have e:j=D.n:=Z
  subst e;rw[if_neg u];have y:∃b c,dv=Æ (Â ⟨b,0,Á⟩) D.n c/\l.O b/\∀i,i<D.n->l.w.cell? ⟨b,i,Á⟩=Â (è<|Â<|dk i):=by
   rcases r.2 with⟨_,C⟩|⟨g,z,E,rfl,_⟩
   .have:=ok.I;omega
   .refine⟨g,z,U,s g U,λi B=> ?_⟩;have:=r.cells U i _<|akE dk D.n i B;grind [ğ]
  refine aki a.r v λg z B C=>(akB ok D.q (Ú _) l g z ⟨a,o,p,h,y⟩ (by rwa[Ū]) C)
def akF(ok:D.Ok)(h:Cf D k l g)(r:fL l l.w u):Cf D k {l with w:=u} g:=by obtain⟨c,d,e,t,a,f,i,j,m,n,o,p,s,v,x,b,y,rfl⟩:=h;exact⟨c,d,e.G ok (λ_ q=>q) r,t,a,f,i,j,m,n,o,p,s,v,x,b,(gQ<|r.I a b).trans y,U⟩
def il.M{o:Ÿ}(h:il l b o)(r:fL l l.w u):il {l with w:=u} b o:=⟨h.fx,(r.I b<|Ã h.fx).trans h.I⟩
def Gn(ok:D.Ok)(h:Lu D j dk l g)(r:fL l l.w u):Lu D j dk {l with w:=u} g:=by
 let⟨m,n,o,h⟩:=h;refine⟨m,n,Õ o r.r,?_⟩;rcases h with⟨p,b,t,c,d,f,i,s,v,rfl⟩|⟨x,b,t,dv,y,c,d,f,i,a,z,B,C,E,F,rfl⟩
 .exact Ã ⟨p,b.G ok (λ_ q=>q) r,t,c,d,f,i,s.M r,v.M r,U⟩
 .exact Ç ⟨x,b.G ok (λ_ q=>Ç q) r,t,dv,y,c,d,f,i,⟨pH a.S λk e=>r.I k<|Ã<|a.M k e,a.M,a.r.M r,a.C.M r,a.N.M r,a.I.M r⟩,z,B,C,E,F,U⟩
theorem akG(ok:D.Ok):∀j dk l g,j<=D.n->Lu D j dk l g->gF l->l.d=0/\∃(G H:Ý) (X:Nat->Prop),G.status=ċ/\H.status=ċ/\(∀u,stepG Ä Ò g u=.spawn G H u #[])/\(∀b,X b->l.O b)/\ (1<=j->l.O (dk<|j-1)/\¬X (dk<|j-1)/\l.w.heap[dk<|j-1]?=Â (ŕ D.q #[] Ì 0 0 Ì)/\D.g<=dk (j-1))/\ (∀f:fh,gF f->(∀b,X b\/l.I b->f.I b)->f.w=l.w->f.d=0->¬f.q->(∀b,¬f.O b)->f.K=l.K->f.N=l.N->(∀a,f.r a->l.r a)->fq Ä Ì (if j=0 then Cf D 0 else Dv (D.r Ä) (dk<|j-1) (j-1) 0) f H)/\ (∀f:fh,gF f->f.O=(λb=>l.O b/\¬X b/\(1<=j->b≠dk (j-1)))->(∀b,X b\/l.I b->f.I b)->f.w=l.w->f.d=0->f.q=l.q->f.K=l.K->f.N=l.N->(∀a,f.r a->l.r a)->fq Ä Ò (JM (D.r Ä) dk<|if j<D.n then .iI (j+1)else .iO D.q) f G):=by
 intro j dk l g L h Ex;let⟨hd,N,P,h⟩:=h;refine⟨hd,?_⟩;rcases h with⟨rfl,o,t,x,C,v1,I,Q,S,rfl⟩|⟨h1,o,t,dv,T,x,C,v1,I,c,x1,x2,x3,x4,x5,rfl⟩
 .refine⟨_,_,l.O,U,U,λu=>Zr _ _ _ _ _ _ _ u,λ_ q=>q,λq=>by omega,λf i m X y p E z J B=> ?_,λf i E m X y p z J B=> ?_⟩
  .rw[if_pos U];have e:=λb q=>m b q;have s:lR D f.M f:=o.I ok (λb q=>Ç<|e b q) (λb _=>by rw[X]) z (λa _ h=>by rwa[X]) λa q=>by rw[X];exact o.r a<|B a q
   refine aja i.r p (Ã<|Ç<|e C<|Ã S.fx) (Ã s.f) (Ã s.c) (by rw[X];exact S.C U) s.g s.d λF V W Y w4 u0 u1 u2 u3 u4 v=> .fE λu r=>akF ok ⟨y,p,s,F,x,V,W,Y,w4,u0,u1,u2,u3,u4,v,Ç<|e x<|Ã Q.fx,by rw[X];exact Q.C U,U⟩ r
  .refine ajo i.r I λF v=>(Z2 ok L i (by rwa[p]) y (o.I ok (λb q=>m b q) (λb _=>by rw[X]) z (λa _ h=>by rwa[X]) λa q=>by rw[X];exact o.r a<|B a q) (by rwa[X]) v (World.ownsRow_nil _ _ _ _) λk e=>by cases e)
 .refine⟨_,_,λb=>b=T\/b=x\/b=C,U,U,λu=>Zr _ _ _ _ _ _ _ u,λb q=> ?_,λ_=>⟨c.r.fx,?_,c.r.I,x5⟩,λf i m X y p E z J B=> ?_,λf i E m X y p z J B=> ?_⟩
  .rcases q with rfl|rfl|rfl
   .exact c.C.fx
   .exact c.N.fx
   .exact c.I.fx
  .grind
  .rw[if_neg Z];have s:lR D f.M f:=o.I ok (λb q=>Ç<|m b<|Ç q) (λb _=>by rw[X]) z (λa _ h=>by rwa[X]) λa q=>by rw[X];exact o.r a<|B a q
   have Z3:f.M x:=Ç<|m x<|Ã<|Ç<|Ã U;refine ajf i.r p (Ã<|Ç<|m C<|Ã<|Ç<|Ç U) (Ã<|Ç<|m T<|Ã<|Ã U) (Ã s.c) (by rw[X];exact c.I.C U) (by rw[X];exact c.C.C U) s.d λF V W Y w4 u0 u1 u2 u3 u4 v=> .fE λu r=>(Z1 ok (i.kg r.r) p y (s.G ok (λ_ q=>q) r) v Z3<|(gQ<|r.I x Z3).trans<|by rw[X];exact c.N.C U)
  .have s:=ok.gq;refine ajp i.r I Z λF v=> ?_;rw[show j-1+1=j by omega]at v;have r:=c.S;rw[akD]at r;refine Z2 ok L i (by rwa[p]) y (o.I ok (λb q=>m b<|Ç q) (λb _=>by rw[X]) z (λa _ h=>by rwa[X]) λa q=>by rw[X];exact o.r a<|B a q) (by rwa[X]) v (by rwa[X]) λk e=> ?_;rw[E];let⟨a,V,W,Y⟩:=x4 k e;refine⟨c.M k e,?_,λ_=>a⟩;grind
def akH(ok:D.Ok)(b:Ez D)(d:EA D):gW (D.r Ä) where
 C:=aku ok;S k s V w w' h hV hc hz hf xO:=by let⟨⟨a,f,m⟩,t⟩:=h;exact⟨⟨a,hc.trans f,ok.r _ _ _ _ _ m hV⟩,λe=>⟨hz.trans (t e).1,hf.trans (t e).2.1,ok.ioS _ _ (t e).2.2 xO⟩⟩
 Gn j dk l g w₁ h r:=Gn ok h r;I j dk l g h:=by let⟨_,_,_,h⟩:=h;rcases h with⟨_,_,t,e,f,a,_,_,_,rfl⟩|⟨_,_,t,dv,m,e,f,a,_,_,_,_,_,_,_,rfl⟩<;>rfl
 N k l g h:=by obtain⟨_,_,_,t,e,a,f,m,n,o,p,q,u,v,_,_,_,rfl⟩:=h;rfl
 Y c i l g h:=by obtain⟨_,_,_,t,tb,e,a,f,m,n,o,p,q,u,v,_,_,_,_,_,_,_,_,rfl⟩:=h;rfl
 M dk l g h:=by obtain⟨_,_,_,f,_,rfl⟩:=h;rfl
 go:=akG ok;f:=akv ok b;h:=aky;e:=akz ok d
end
end Go.Proofs.Y.fB
namespace Go.Proofs.Y.fB
open Go Go.Conc Go.Proofs.Y.Lift
open Go.ConcN (sumTo sumTo_congr)
structure kN(P:ė)(Y:Nat->Prop)(jv:Ν->Prop)(H:Nat)(J:Jd)(T:gD)(lv:Nat->Nat)(lot:Nat->fh)(gs:Array Ý)(w:ß)(t:ż):Prop where
 C:1<=gs.size
 r:gO P 0 Y (λi=>if i=0 then J else pA P (lv i)) (λi=>if i=0 then T else .fE) (λ_=> .no) lot gs w t
 c:∀i,0<i->i<gs.size->lot i=kI (lot i)
 d:¬(lot 0).q
 M:∀p a,touchAt t p=Â a->a.loc.isMemory=Ò->Knows t 0 p\/(jv a.loc/\a.kind=.atomic)
 S:∀p a x,touchAt t p=Â a->a.loc=û x->t.g? p=Â 0\/x.block<H
 b:∀a:â,H<=a.block->NoRelease a t
 N:t.HandedOver
abbrev rY(P:ė):=kN P λ_=>False
structure qY(l l':fh)(w w':ß):Prop where
 r:w.heap.size<=w'.heap.size
 N:∀j,l'.O j->l.O j\/w.heap.size<=j
 c:l'.I=l.I
 S:l'.r=l.r
 b:l'.N=l.N
 k:l'.K=l.K
 jY:∀j,j<w.heap.size->¬l.O j->(∀a:â,a.block=j->¬l.r a)->w'.heap[j]?=w.heap[j]?
 M:∀a:â,a.block<w.heap.size->¬l.O a.block->¬l.r a->w'.cell? a=w.cell? a
 Y:∀j,j<w.heap.size->¬l.O j->lb w' j=lb w j
 C:w'.os=w.os
 I:w'.output=w.output
 d:w'.tape=w.tape
theorem qY.gd(l:fh)(w:ß):qY l l w w:=⟨Ú _,λ_ h=>Ã h,U,U,U,U,λ_ _ _ _=>rfl,λ_ _ _ _=>rfl,λ_ _ _=>rfl,U,U,U⟩
def qY.fj{l e i:fh}{w':ß}(h:qY l e w w')(k:qY e i w' u):qY l i w u:=by
 have f:∀j,j<w.heap.size->¬l.O j->¬e.O j:=λj c b q=>(h.N j q).elim b λz=>by omega
 refine⟨Õ h.r k.r,λj q=> ?_,k.c.trans h.c,k.S.trans h.S,k.b.trans h.b,k.k.trans h.k,λj c b d=>((k.jY j (È c h.r) (f j c b)<|by rwa[h.S]).trans<|h.jY j c b d),λa g b d=>((k.M a (È g h.r) (f _ g b)<|by rwa[h.S]).trans<|h.M a g b d),λj c b=>(k.Y j (È c h.r)<|f j c b).trans<|h.Y j c b,k.C.trans h.C,k.I.trans h.I,k.d.trans h.d⟩
 .rcases k.N j q with z|z
  .exact h.N j z
  .exact Ç<|Õ h.r z
def mL.akI{l a:fh}(h:mL l a w u V):qY l a w u:=⟨h.C,h.S,h.I,h.r,h.M,h.k,h.jY,h.N,λj b c=>h.Y ⟨j,0,Á⟩ b c,h.f,h.g,h.m⟩
def qY.G{l a:fh}(h:qY l a (w.at i) u):qY l a w u:=⟨h.r,h.N,h.c,h.S,h.b,h.k,h.jY,h.M,h.Y,h.C,h.I,h.d⟩
section
variable{Y:Nat->Prop}{jv:Ν->Prop}{H:Nat}{J:Jd}{T:gD}{lv:Nat->Nat}{lot:Nat->fh}{gs:Array Ý}{t:ż}{sl:Option (Nat×Nat)}
def kN.I(c:kN P Y jv H J T lv lot gs w t)(d:Nat):kN P Y jv H J T lv lot gs (w.at d) t:=⟨c.C,c.r.at d,c.c,c.d,c.M,c.S,c.b,c.N⟩
def akJ{l:fh}{e:ž}(h:yS l e)(a:â):ï e≠.mark (.release a):=by
 let⟨c,d,g⟩:=e;rcases h with⟨x,b,_⟩|h|⟨f,h⟩|h|h|⟨x,_,h⟩
 .simp only at b;subst b;simp[ï]
 .simp only at h;subst h;simp[ï]
 .simp only at h;subst h;simp[ï]
 .simp only at h;subst h;simp[ï]
 .simp only at h;subst h;simp[ï]
 .simp only at h;rcases h with rfl|rfl|rfl|rfl<;>simp[ï]
theorem akK{e:ž}(h:e.mute=Ò)(a:â):ï e≠.mark (.release a):=by let⟨b,c,d⟩:=e;cases b<;>simp_all[Event.mute];rename_i m;cases m<;>simp_all[ï]
theorem kN.akL{k:ß->gD}(c:kN P Y jv H J (.jR k) lv lot gs w t)(o:∀l g,J l g->g.status=ċ\/g.status=ş)(r:gs[0]?=Â g): ∃e b d u,runT P (Ĭ gs w sl) 0=(.next<|Ĭ b d sl,u)/\b.size=gs.size/\qY (lot 0) (e 0) w d/\kN P Y jv H J (k w) lv e b d (t++u):=by
 obtain⟨b,d,G,s,v,f,I,K,j,y⟩:=c.r.fx r U λl g h=>o l g h;refine⟨gC lot 0 s,b,d,_,v,f,by rw[gY];exact j.akI,by rw[f];exact c.C,?_,λi z B=> ?_,?_,λp a h C=> ?_,λp a x h D=> ?_,λa h=>(c.b a h).app λu m=> ?_,Ř c.N λu m=>Ã<|ov u m⟩
 .have e:fC (λi=>if i=0 then(.jR k:gD)else .fE) 0 (k w)=λi=>if i=0 then k w else .fE:=by
   funext i;unfold fC;grind
  rwa[<-e]
 .rw[gK lot _ Z];exact c.c i z<|by rwa[<-f]
 .rw[gY,j.q];exact c.d
 .rcases mX h with⟨_,e⟩|⟨_,u,e,E,n⟩
  .exact(c.M p a e C).imp (·.app _) id
  .have:=knows_own n;grind [ov]
 .rcases mX h with⟨F,e⟩|⟨_,u,e,E,n⟩
  .rw[g?_old F];exact c.S p a x e D
  .apply Ã;unfold Trace.g?;grind [ov]
 .obtain⟨e,n,rfl⟩:=Č m;exact akJ (j.c e n) a
theorem kN.Z4(c:kN P Y jv H J T lv lot gs w t)(q:gs[i]?=Â g)(b:i≠0)(y:g.status=ċ): ∃a e f u,runT P (Ĭ gs w sl) i=(.next<|Ĭ f w sl,u)/\f.size=gs.size/\sumTo gs.size a+1=sumTo gs.size lv/\e 0=lot 0/\kN P Y jv H J T a e f w (t++u):=by
 have z:=(æ.1 q).1;obtain⟨f,r,m,M,B,o,N,C,D⟩:=c.r.OM (n:=lv i) q b y U (by simp[b]) (by simp[b]);have E:∀u∈MemOp.ofEvents i g.frame.fn g.frame.place r,u.act.touch?=Á:=λu h=>by obtain⟨e,s,rfl⟩:=Č h;exact touch_mute<|C e s
 refine⟨fC lv i m,gC lot i {lot i with d:=į (lot i).d r,w:=w},f,_,B,o,?_,gK lot _<|Ne.symm b,by rw[o];exact c.C,?_,λj v F=> ?_,?_,λp a k G=> ?_,λp a x k I=> ?_,λa k=>(c.b a k).app λu h=> ?_,Ř c.N λu h=>Ç<|E u h⟩
 .grind [xn,fM,gI]
 .have l:fC (λi=>if i=0 then J else pA P (lv i)) i (pA P m)=λj=>if j=0 then J else pA P (fC lv i m j):=by
   funext j;unfold fC;grind
  rwa[<-l]
 .by_cases e:j=i
  .subst e;rw[gY];have:=c.c j v z;rw[this];rfl
  .rw[gK lot _ e];exact c.c j v<|by rwa[<-o]
 .rw[gK lot _<|Ne.symm b];exact c.d
 .rcases mX k with⟨_,l⟩|⟨_,u,l,K,_⟩
  .exact(c.M p a l G).imp (·.app _) id
  .grind
 .rcases mX k with⟨L,l⟩|⟨_,u,l,K,_⟩
  .rw[g?_old L];exact c.S p a x l I
  .grind
 .obtain⟨e,s,rfl⟩:=Č h;grind [akK]
def kN.KD(c:kN P Y jv H J T lv lot gs w t):∀g∈gs,awake g:=by
 intro g e;obtain⟨i,f,rfl⟩:=Array.mem_iff_getElem.1 e;let⟨g0,_,b,a,_⟩:=c.r.C i _<|ì f;intro τ d;generalize gs[i]=g at b d;cases b with
 |gw=>rcases a with a|a<;>rw[d]at a<;>cases a
theorem kN.G(K:∀l g,J l g->g.status=ċ\/g.status=ş):∀(T:gD) (s:Nat) (lv:Nat->Nat) (lot:Nat->fh) (gs:Array Ý) (w:ß) (sl:Option (Nat×Nat)) (t:ż),sumTo gs.size lv=s->kN P Y jv H J T lv lot gs w t-> ∃N h b a f e c,Ŷ P N (Ĭ gs w sl) t=(.next<|Ĭ a f e,c)/\a.size=gs.size/\qY (lot 0) (b 0) w f/\kN P Y jv H J .fE h b a f c:=by
 intro T
 induction XF.apply T with
 |intro T _ L=>
  intro s
  induction s using Nat.strongRecOn with
  |_ s M=>
   intro lv lot gs w sl t V c;cases C:T with
   |fE=>
    subst C;exact⟨0,lv,lot,gs,w,sl,t,U,U,qY.gd _ _,c⟩
   |jR k=>
    subst C;have W:=c.C;obtain⟨g0,D⟩:∃g,gs[0]?=Â g:=⟨_,ì Z⟩;have O:g0.status=ċ:=by let⟨S,d,i,_,_⟩:=c.r.C 0 g0 D;grind [agE]
    let⟨i,g,d,e,E,Q,F⟩:=crowd_pick (P:=P) (w:=w) (sl:=sl) c.KD ⟨0,g0,D,O⟩;by_cases G:i=0
    .subst G;let⟨b,a,f,u,n,j,S,I⟩:=(c.I d).akL (sl:=e) K E;let⟨N,o,p,q,r,v,x,y,z,m,B⟩:=L (k<|w.at d) ⟨_,U⟩ _ lv b a f e (t++u) U I;exact⟨N+1,o,p,q,r,v,x,by simp only[Ŷ,F,n];exact y,z.trans j,S.G.fj m,B⟩
    .let⟨h,b,a,u,n,j,I,f,S⟩:=(c.I d).Z4 (sl:=e) E G Q;let⟨N,o,p,q,r,v,x,y,z,m,B⟩:=M (sumTo a.size h) (by rw[j];omega) h b a (w.at d) e (t++u) U S;exact⟨N+1,o,p,q,r,v,x,by simp only[Ŷ,F,n];exact y,z.trans j,by rw[f]at m;exact m.G,B⟩
end
section
variable{F:Ph}{E:fZ F}{S:Nat->Jd}{tr:Nat->gD}{o:Nat->iD}{f:Nat->fh}{gs:Array Ý}
def PI.jy(p:PI F i zX E S tr o f gs w qJ)(c:E.M=.gp):E.r=F.n+1/\∀x,x<F.n+1->∃N,E.N x=Â (.jy N):=by
 refine⟨(by unfold fZ.r;rw[c];rfl),λx g=> ?_⟩;have a:=PK (p.C.B<|Ç<|Ç c) x g;have j:x<E.M.ad F.n:=by rwa[c]
 unfold fZ.G at a;rw[if_pos j]at a;have l:E.M.gH=0:=by rw[c];rfl
 cases d:E.N x with
 |none=>rw[d]at a;simp[mr]at a
 |some e=>
  rw[d]at a;simp only[mr]at a;cases e with
  |oS=>simp[iw.kX]at a
  |jy N=>exact⟨N,U⟩
  |gp q=>
   let⟨h,k⟩:=p.C.N x q d;cases q with
   |jH=>simp[iw.kX,jK.kX]at a
   |iI=>simp[iw.kX,jK.kX]at a
   |gE W=>
    let⟨_,b⟩:=h W<|Ã U;have r:=p.M.C.r;rw[b]at r;have:=(p.C.g W b).2.1;simp only[GS.ok]at r;omega
   |jg W=>
    let⟨_,b⟩:=h W<|Ç U;have r:=p.M.C.r;rw[b]at r;have:=(p.C.g W b).2.1;simp only[GS.ok]at r;omega
   |iE r=>
    let⟨W,_,s,b⟩:=k r U;have:=(p.C.u r s b).2.1;omega
def xP(l:fh):fh:={l with O:=λ_=>False,I:=λ_=>False,r:=λ_=>False,N:=λ_=>False,K:=λ_=>False,q:=True}
def vC(f:Nat->fh)(l:fh):Nat->fh:=λi=>if i=0 then l else xP (f i)
def SC(f:Nat->fh)(l:fh):vC f l 0=l:=rfl
def wm(f:Nat->fh)(l:fh)(h:i≠0):vC f l i=xP (f i):=if_neg h
def HR{l:fh}(h:i≠0):¬(vC f l i).M b:=by rw[wm f l h];exact λq=>q.elim id id
def HT{l:fh}(h:i≠0):¬(vC f l i).C a:=by rw[wm f l h];exact λq=>q.elim id id
def iX.Y{Y I:Nat->Prop}(C:iX n I Y f w qJ)(u:I 0){l:fh}(v:n<=m)(x:∀b,l.O b->¬l.I b)(y:∀a,l.r a->¬l.N a)(B:∀b,l.M b->¬X b)(D:∀a,l.C a->X a.block)(E:∀b,l.M b->b<w.heap.size)(F:∀b,X b->b<w.heap.size)(G:fL l l.w w)(H:OD qJ 0 l)(J:l.d=(f 0).d)(t:∀a,l.K a->X a.block/\¬l.r a):iX m I X (vC f l) w qJ:=by
 refine⟨λi j g L s b o=> ?_,λi j g L s a e=> ?_,λi g b o=> ?_,λi g a e=> ?_,λi g b o=> ?_,λi g a e=> ?_,λi g b o=> ?_,F,λi g=> ?_,λi g=> ?_,λi g=> ?_,C.l,C.q,λp a c N r P=>È (C.s p a c N r P) v,λi g a e=> ?_⟩
 .by_cases h:j=0
  .subst h;exact absurd (Ã o)<|HR s
  .exact HR h
 .by_cases h:j=0
  .subst h;exact absurd (Ã e)<|HT s
  .exact HT h
 .by_cases h:i=0
  .subst h;exact x b o
  .exact absurd (Ã o)<|HR h
 .by_cases h:i=0
  .subst h;exact y a e
  .exact absurd (Ã e)<|HT h
 .by_cases h:i=0
  .subst h;exact B b o
  .exact absurd o<|HR h
 .by_cases h:i=0
  .subst h;exact D a e
  .exact absurd e<|HT h
 .by_cases h:i=0
  .subst h;exact E b o
  .exact absurd o<|HR h
 .by_cases h:i=0
  .subst h;exact G
  .rw[wm f l h];exact⟨(C.r i g).r,λj q=>q.elim (λz=>z.elim) λz=>z.elim,λa q=>q.elim (λz=>z.elim) λz=>z.elim,λa q=>q.elim (λz=>z.elim) λz=>z.elim,λa q=>q.elim⟩
 .by_cases h:i=0
  .subst h;exact H
  .rw[wm f l h];exact⟨λa e=>e.elim,λa e=>e.elim,λa e=>e.elim,λa e=>e.elim⟩
 .by_cases h:i=0
  .subst h;rw[SC,J];exact C.f 0 u
  .rw[wm f l h];exact C.f i g
 .by_cases h:i=0
  .subst h;refine⟨(t a e).1,λk z q=> ?_⟩;by_cases r:k=0
   .subst r;exact(t a e).2 q
   .exact absurd (Ã q)<|HT r
  .rw[wm f l h]at e;exact e.elim
theorem PI.akM(p:PI F i zX E S tr o f gs w qJ)(m:E.M=.gp)(r:Kz F zX qJ)(y:F.S=0)(M:1<=F.L): ∃z:Nat->Nat,kN F.P E.Y (λk=>zX k\/∃x:â,k=û x/\x.block=F.C) w.heap.size (F.j E.I) (tr 0) z (vC f<|f 0) gs w qJ:=by
 let⟨B,s⟩:=p.jy m;have O:gs.size=F.L+(F.n+1):=by rw[p.b,B]
 have C:=p.I.r;have c:0<gs.size:=Z
 refine⟨λb=>if h:F.L<=b/\b<F.L+(F.n+1)then Classical.choose (s (b-F.L) Z)else E.h b,Z,⟨?_,λb x t=> ?_,p.I.I⟩,λb Q _=> ?_,p.a.M 0<|Ã U,λq a d D=> ?_,λq a x d G=>Ç<|XC C.q d G,λa d q u=> ?_,r.2⟩
 .rw[y]at C;exact C.Y c (Ú _) (C.m 0 c) (C.g 0 c) (C.I 0 c) (C.e 0 c) (C.fA 0 c) C.N (C.r 0 c) (C.S 0 c) U λa d=>⟨(C.n 0 c a d).1,(C.n 0 c a d).2 0 c⟩
 .let⟨k,j,l,v,H⟩:=p.I.C b x t;by_cases h:b=0
  .subst h;rw[p.h.1,m]at j;rw[p.h.2,m]at l;exact⟨k,j,l,v,H⟩
  .have T:=(æ.1 t).1;simp only[h,if_false];rw[wm f _ h];have I:∀N,S b=pA F.P N->tr b=.fE->o b=.no->∃k,lr F.P (b==0) (pA F.P N) .fE (xP<|f b) k/\xj k .no x/\(k.status=ċ\/k.status=ş)/\(x=k\/True):=λN z e g=>by
    rw[z,e]at j;rw[g]at l;exact⟨k,λJ _=>j _<|fL.gd _ _,l,v,Ç trivial⟩
   by_cases J:b<F.L
   .let⟨z,e,g⟩:=p.l b Z J;grind
   .have K:F.L<=b/\b<F.L+(F.n+1):=Z
    simp only[K,dif_pos,and_self];let⟨z,e,g⟩:=p.k (b-F.L) _ Z<|Classical.choose_spec<|s (b-F.L) Z;rw[show F.L+(b-F.L)=b by omega]at z e g;exact I _ z (g ⟨_,U⟩) e
 .rw[wm f _ Z];rfl
 .rcases r.1 q a d D with z|⟨z,k⟩;all_goals grind
 .unfold Trace.act? at u;let⟨k,z,g⟩:=ġ.1 u;have:=C.q k<|Array.mem_of_getElem? z;rw[g]at this;have e:a.block<w.heap.size:=this;omega
theorem kN.Y{Y:Nat->Prop}{J:Jd}{s:gD}(c:kN P Y zX n J s D f gs w qJ)(t:(f 0).d=0)(o:gs[0]?=Â g)(u:g.status=ċ){p:Jd}{T:gD}{l:fh}(v:l.w=w)(y:l.d=0)(B:¬l.q)(k:∀b,¬l.I b)(r:∀a,¬l.r a)(m:∀a,¬l.N a)(C:∀a,¬l.K a)(E:∀b,l.O b->b<w.heap.size/\∀x:â,x.block=b->¬zX (û x))(F:lr P Ò p T l g): rY P zX n p T D (vC f l) gs w qJ:=by
 refine⟨c.C,⟨?_,λi x j=> ?_,c.r.I⟩,λi o _=> ?_,B,c.M,c.S,c.b,c.N⟩
 .refine(c.r.r).Y c.C (Ú _) (λb _=>k b) (λa _=>m a) (λ_ _=>id) (λa e=>e.elim (λq=>absurd q<|r a) λq=>absurd q<|m a) (λb z=>z.elim (λq=>(E b q).1) λq=>absurd q<|k b) (λ_ h=>h.elim) (by rw[v];exact fL.gd _ _) ⟨λa e G x j I=> ?_,λa e=>(k _ e).elim,λa e=>(r a e).elim,λa e=>(m a e).elim⟩ (by rw[y,t]) λa e=>absurd e<|C a;rcases c.M G x j (by rw[I];rfl)with z|⟨z,_⟩;all_goals grind
 .by_cases h:i=0
  .subst h;rw[o]at j;obtain rfl:=Ó j;exact⟨g,F,.gw,Ã u,Ã U⟩
  .let⟨g0,e,G,I,z⟩:=c.r.C i x j;simp only[h,if_false]at e z|-;rw[wm f _ h];exact⟨g0,λL _=>e _<|fL.gd _ _,G,I,z⟩
 .rw[wm f _ Z];rfl
end
section
variable{F:Ph}{H:Nat}{J:Jd}{f:Nat->fh}{gs:Array Ý}
structure SF(F:Ph)(H:Nat)(l0 l:fh)(w:ß):Prop where
 fx:∀b,l.O b->l0.O b/\¬(F.M b\/b=F.Y)
 r:∀b,l.I b->l0.O b/\¬(F.M b\/b=F.Y)/\¬l.O b
 C:∀a,l.r a↔∃x,x<=F.n/\mb F x a
 I:∀a,l.N a↔a=jj F.toFx 0
 k:∀a,l.K a->F.G a
 M:∀b,F.M b\/b=F.Y->l0.O b
 N:∀b,F.M b->H<=b
 g:l.w=w
 d:l.d=0
 q:¬l.q
 S:∀b,F.i b->l.I b
 Y:ij w F.C (.cl 1 0)
 c:ij w (F.I 0) (.cl 0 0)
 e:∀k,1<=k->k<=F.m->ij w (F.I k) (.cl 1 0)
 f:F.d 0 F.l F.i w
def mC(F:Ph)(D:Nat->Nat)(a:Nat->Nat):fZ F where
 M:=.go 0
 S:=.kV 0
 C:=λ_=> .ny 0
 N:=λ_=>Á
 I:=a
 c:=λ_=>F.l
 V:=λk=>if k=0 then F.i else λ_=>False
 e:=λ_=>0
 d:=λ_=>Á
 f:=λ_=>0
 b:=.cl 1 0
 a:=λk=>if k=0 then .cl 0 0 else .cl 1 0
 g:=Á
 h:=D
theorem Lv(ok:F.Ok)(h:mb F i a):(∃k,1<=k/\k<=F.m/\a=jj F.toFx k)\/∃p,p≠F.f/\a=jw F p:=by
 unfold mb at h;split at h
 .obtain⟨k,c,d,b|b⟩:=h
  .grind
  .exact Ç ⟨_,ok.Y.1 k c d,b⟩
 .let⟨k,c,_,b⟩:=h;exact Ç ⟨_,ok.Y.2 _ (by assumption),b⟩
def Z5(ok:F.Ok)(h:mb F i (jj F.toFx 0)):False:=by
 rcases Lv ok h with⟨k,c,b,a⟩|⟨p,_,a⟩
 .have:F.I 0=F.I k:=by injection a
  have:=ok.S 0 k Z b this;omega
 .have:F.I 0=F.Y:=by injection a
  exact ok.C<|by rw[<-this];exact Ç ⟨0,Z,U⟩
theorem rY.akN(X:gW F)(c:rY F.P zX H J .fE D f gs w qJ)(hL:F.L=gs.size)(hB:F.S=0)(E:gs[0]?=Â g){l:fh}(st:SF F H (f 0) l w)(pC:(f 0).d=0)(u:Nat->Nat)(hgo:F.g 0 u l g): PI F qJ.size zX (mC F D u) (λi=>if i=0 then F.g 0 u else pA F.P (D i)) (λ_=> .fE) (λ_=> .no) (λi=>if i=0 then l else xP (f i)) gs w qJ:=by
 have S:=X.C;have C:=c.r.r;have kh:=c.C;have T:0<gs.size:=Z
 have y:(mC F D u).r=0:=U;have hY:∀b,(mC F D u).Y b↔(F.M b\/b=F.Y):=λb=>by
  constructor
  .rintro(q|q|⟨j,B,_⟩);all_goals grind
  .rintro(q|q)
   .exact Ã q
   .exact Ç<|Ã q
 have Z6:∀a,l.C a->F.M a.block\/a.block=F.Y:=λa o=>by
  rcases o with q|q
  .let⟨x,_,G⟩:=(st.C a).1 q;rcases Lv S G with⟨k,B,t,rfl⟩|⟨p,_,rfl⟩
   .exact Ã<|Ç ⟨k,t,U⟩
   .exact Ç U
  .rw[(st.I a).1 q];exact Ã<|Ç ⟨0,Z,U⟩
 have nC:∀i,i≠0->∀a,¬((λi=>if i=0 then l else xP (f i)) i).C a:=λi h a q=>by simp only[h,if_false]at q;exact q.elim id id
 have nM:∀i,i≠0->∀b,¬((λi=>if i=0 then l else xP (f i)) i).M b:=λi h b q=>by simp only[h,if_false]at q;exact q.elim id id
 have hM0:∀b,l.M b->(f 0).O b/\¬(F.M b\/b=F.Y):=λb q=>q.elim (st.fx b) λz=>⟨(st.r b z).1,(st.r b z).2.1⟩;have PN:iX F.S (λi=>i<gs.size) (mC F D u).Y (λi=>if i=0 then l else xP (f i)) w qJ:=by
  refine⟨λi j E hj N b v=> ?_,λi j E hj N a o=> ?_,λi E b v=> ?_,λi E a o=> ?_,λi E b v=> ?_,λi E a o=> ?_,λi E b v=> ?_,λb v=>C.fA 0 T b<|Ã<|st.M b<|(hY b).1 v,λi E=> ?_,λi E=> ?_,λi E=> ?_,C.l,C.q,λq a e B t I=> ?_,λi E a o=> ?_⟩
  .by_cases h:j=0
   .subst h;simp only[N,if_false]at v;exact v.elim
   .exact nM j h b
  .by_cases h:j=0
   .subst h;simp only[N,if_false]at o;exact o.elim
   .exact nC j h a
  .by_cases h:i=0
   .subst h;simp only[if_true]at v|-;exact λq=>(st.r b q).2.2 v
   .simp only[h,if_false]at v;exact v.elim
  .by_cases h:i=0
   .subst h;simp only[if_true]at o|-;intro q;rw[(st.I a).1 q]at o;let⟨x,_,G⟩:=(st.C _).1 o;exact Z5 S G
   .simp only[h,if_false]at o;exact o.elim
  .by_cases h:i=0;all_goals simp_all
  .by_cases h:i=0;all_goals simp_all
  .by_cases h:i=0
   .subst h;simp only[if_true]at v;exact C.fA 0 T b<|Ã (hM0 b v).1
   .simp_all
  .by_cases h:i=0
   .subst h;simp only[if_true];rw[st.g];exact fL.gd _ _
   .simp only[h,if_false];exact⟨(C.r i E).r,λj q=>q.elim (λz=>z.elim) λz=>z.elim,λa q=>q.elim (λz=>z.elim) λz=>z.elim,λa q=>q.elim (λz=>z.elim) λz=>z.elim,λa q=>q.elim⟩
  .by_cases h:i=0
   .subst h;simp only[if_true];have s:=(C.S 0 T).fx;exact⟨λa o=>s a (st.fx _ o).1,λa o=>(s a (st.r _ o).1).r,λa o=>s a<|st.M _<|Z6 a<|Ã o,λa o=>(s a<|st.M _<|Z6 a<|Ç o).r⟩
   .simp only[h,if_false];exact⟨λa o=>o.elim,λa o=>o.elim,λa o=>o.elim,λa o=>o.elim⟩
  .by_cases h:i=0
   .subst h;simp only[if_true];rw[C.f 0 T,pC,st.d]
   .simp only[h,if_false];exact C.f i E
  .have:=C.s q a e B t I;omega
  .by_cases h:i=0
   .subst h;simp only[if_true]at o;let⟨b,v,s⟩:=st.k a o;have Q:a.block=b:=by rcases s with rfl|rfl<;>rfl
    refine⟨by rw[hY,Q];exact Ã v,λk K q=> ?_⟩;by_cases t:k=0
    .subst t;simp only[if_true]at q;let⟨x,_,G⟩:=(st.C a).1 q;rcases Lv S G with⟨k',_,_,I⟩|⟨p',_,I⟩
     .rcases s with W|W<;>rw[W]at I<;>simp[fS,gT,jj]at I
     .have:a.block=F.Y:=by rw[I];rfl
      exact S.C<|by rwa[<-this,Q]
    .simp only[t,if_false]at q;exact q
   .simp only[h,if_false]at o;exact o.elim
 have Z7:gO F.P F.S (mC F D u).Y (λi=>if i=0 then F.g 0 u else pA F.P (D i)) (λ_=> .fE) (λ_=> .no) (λi=>if i=0 then l else xP (f i)) gs w qJ:=by
  refine⟨PN,λi x G=> ?_,c.r.I⟩;by_cases h:i=0
  .subst h;rw[E]at G;obtain rfl:=Ó G;simp only[if_true];exact⟨g,λs r=>X.Gn 0 u l g s hgo r,.gw,Ã<|X.I 0 u l g hgo,Ã U⟩
  .let⟨g0,Q,q2,N,q4⟩:=c.r.C i x G;simp only[h,if_false]at Q|-;exact⟨g0,λs _=>Q _<|fL.gd _ _,q2,N,Ç trivial⟩
 have akO:iJ F (mC F D u) (λi=>if i=0 then l else xP (f i)) gs.size w:=by
  refine⟨λi E a o=> ?_,λx _ t a o=> ?_,λ_=> ?_,λh=>absurd h (by rw[y];omega),λh=>absurd h (by rw[y];omega),λj h=>absurd h (by rw[y];omega),λj h=>absurd h (by rw[y];omega),λx ⟨e,B,_⟩=>(by cases B),λi h=> ?_,λi B t=> ?_,λk K b v=> ?_,λk K i E q=> ?_,λk B t=> ?_,λj h=>absurd h<|by rw[y];omega⟩
  .by_cases h:i=0
   .subst h;simp only[if_true]at o;rcases o with q|q
    .let⟨x,_,G⟩:=(st.C a).1 q;grind [Lv]
    .exact Ã ⟨0,Z,(st.I a).1 q⟩
   .simp_all
  .simp only[if_true];exact(st.C a).2 ⟨x,t,o⟩
  .simp only[if_true];exact⟨(st.I _).2 U,st.S⟩
  .rcases h with rfl|⟨x,G,_⟩
   .simp only[if_true];exact st.q
   .grind
  .have:i≠0:=Z
   simp only[this,if_false];rfl
  .have Q:k=0:=by have:k<=0:=K;omega
   subst Q;have B:=st.S b v;refine⟨C.fA 0 T b<|Ã (st.r b B).1,by rw[hY];exact(st.r b B).2.1,λi E q=> ?_⟩;by_cases h:i=0
   .subst h;simp only[if_true]at q;exact(st.r b B).2.2 q
   .simp only[h,if_false]at q;exact q
  .have Q:k=0:=by have:k<=0:=K;omega
   subst Q;by_cases h:i=0
   .subst h;simp only[if_true]at q;let⟨x,_,G⟩:=(st.C _).1 q;exact Z5 S G
   .simp only[h,if_false]at q;exact q
  .have:k<=0:=t;omega
 have gg:∀k,k<=F.m->ij w (F.I k) ((mC F D u).a k):=λk K=>by
  by_cases h:k=0
  .subst h;exact st.c
  .have:(mC F D u).a k=.cl 1 0:=by simp[mC,h]
   rw[this];exact st.e k Z K
 have wdd:Wd F (mC F D u) w:=by
  refine⟨st.Y,gg,λj h=>absurd h (by rw[y];omega),λk K=> ?_,λk B t=> ?_,λj h=>absurd h<|by rw[y];omega⟩
  .have Q:k=0:=by have:k<=0:=K;omega
   subst Q;exact⟨.vB,st.f⟩
  .have:k<=0:=t;omega
 have Z8:∀k,(sumTo F.n λj=>((mC F D u).C j).gH F j k)=0:=λk=>by
  have:∀n,(sumTo n λ_=>0)=0:=λn=>by
   induction n with
   |zero=>rfl
   |succ n s=>simp[sumTo,s]
  exact this F.n
 have akP:sumTo (F.n+1) (mC F D u).G=1:=by
  have B:=xn (f':=(mC F D u).G) (j:=0) (n:=F.n+1) Z (λi E=>by
   have:¬i<1:=Z
   show(if i<1 then _ else _)=0;rw[if_neg this])
  have t:∀n,(sumTo n λ_=>0)=0:=λn=>by
   induction n with
   |zero=>rfl
   |succ n s=>simp[sumTo,s]
  rw[t]at B;have I:(mC F D u).G 0=1:=U;omega
 have pss:Ps F (mC F D u):=by
  refine⟨U,λj h=> ?_,λj h=> ?_,λr=>⟨λh=>(by cases h),λh=>(by cases h)⟩,λ_=>rfl,λk=>⟨λh=> ?_,λh=>(by cases h),λp h=>by cases h⟩,λ_ _=>rfl,λj r h=>absurd h (by rw[y];omega),λj h=>absurd h (by rw[y];omega),λh=>absurd U h,λ_ _=>rfl,λj j' h=>absurd h (by rw[y];omega),λj h=>absurd h (by rw[y];omega),λc reg h=> ?_,λreg h=>(by cases h),λr s h=>(by cases h),λx p h=>(by cases h),λh=> ?_,λk B t I=> ?_,λk B t=> ?_,λj r h=>absurd h (by rw[y];omega),λj r h=>absurd h (by rw[y];omega),λh=>(by cases h),λ_ _=>⟨1,rfl⟩,λ_ _ _=>rfl,λj r h=>absurd h<|by rw[y];omega⟩
  .rcases h with h|h|h|h<;>cases h;omega
  .rcases h with h|h|h<;>cases h
  .cases h;omega
  .cases h;exact⟨akP.symm,U⟩
  .rcases h with h|h|h<;>cases h
  .rw[Z8];have:k≠0:=Z
   simp[mC,this]
  .have Q:k=0:=by have:k<=0:=t;omega
   subst Q;exact Ç<|Ç ⟨λp h=>(by cases h),Ã ⟨rfl,Z8 0⟩⟩
 have s:TI F.toFx qJ.size zX (mC F D u).r (mC F D u).S.rl (mC F D u).V (mC F D u).e (mC F D u).d (mC F D u).iB (mC F D u).f qJ:=by
  refine⟨Ú _,λp a x o Q hc=> ?_,λx h=>absurd h (by rw[y];omega),λk B t=> ?_,λk B t=> ?_,λb v=>c.b _<|st.N b v,λx h=>absurd h (by rw[y];omega),λp a B t=> ?_,λp a _ t I=>c.M p a t I,λp g _ t I W=>c.N p g t I W⟩
  .let⟨b,v,G⟩:=hc;have PH:x.block=b:=by rcases G with rfl|rfl<;>rfl
   rcases c.S p a x o Q with q|q
   .exact Ã ⟨O0 o,q⟩
   .have:=st.N b v;omega
  .have:k<=0:=t;omega
  .have:k<=0:=t;omega
  .have:=O0 t;omega
 refine⟨by rw[y,hL];rfl,Z7,⟨by simp only[if_true];rfl,U⟩,λh=>absurd h (by rw[y];omega),λj h=>absurd h (by rw[y];omega),λx e h=>absurd h (by rw[y];omega),λi B t=>⟨?_,U,U⟩,akO,wdd,pss,s,λi x G v=> ?_,λj r h=>absurd h<|by rw[y];omega⟩
 .have:i≠0:=Z
  simp only[this,if_false];rfl
 .let⟨g0,_,q2,N,_⟩:=Z7.C i x G;cases q2 with
  |gw=>rcases N with N|N<;>rw[v]at N<;>cases N
end
end Go.Proofs.Y.fB
namespace Go.Proofs.Y.fB
open Go Go.Conc Go.Proofs.Y.Lift Go.RowKit Go.Conc.Lib Go.ConcR.Gen
open Go.Proofs Go.Proofs.YtgpphkdoanciiabGreatDoor
section
variable{kd:Nat->Int}{R:Nat}
theorem HU(h:i∈ie kd R):i<R/\kd i=1:=by have:=Ā.1 h;grind
theorem HY(h:i∈jC kd R):i<R/\kd i≠1:=by have:=Ā.1 h;grind
def akQ:(ie kd R).Nodup:=ņ.filter _
def akR:(jC kd R).Nodup:=ņ.filter _
def Cg(h:k<jJ.length):jJ[k]?=Â (jJ.getD k 0):=by simp[List.getD,h]
def wo{l:List Nat}(h:k<l.length):l.getD k 0∈l:=ħ<|Cg h
def Z9(c:jJ.Nodup)(a:i<jJ.length)(d:j<jJ.length)(h:jJ.getD i 0=jJ.getD j 0):i=j:=by have b:=Cg a;rw[h]at b;exact(List.getElem?_inj a c).1<|b.trans (Cg d).symm
def a_:∀R,(ie kd R).length+(jC kd R).length=R
 |0=>rfl
 |R+1=>by
  have:=a_ R;by_cases h:kd R=1
  .rw[tq h,R9 h];simp;omega
  .rw[we h,Sb h];simp;omega
end
structure xR where
 γ:Type
 C:γ
 M:Nat->γ->γ->Prop
 RD:γ->Ï->(Nat->Prop)->ß->Prop
 I:Nat->ByteArray
 r:Nat->Prop
def Lw(M:xR)(L n R:Nat)(kd:Nat->Int)(a g:Nat->Nat)(b c:Option â)(d e f h j l:Nat)(o:List é)(p:Nat->Prop)(RC fe:ß->Prop):SD where
 L:=L
 g:=0
 n:=n
 m:=fQ kd R
 q:=(jC kd R).length
 N:=R
 I:=l
 C:=g
 M:=f
 S:=h
 s:=j
 u:=b
 t:=d
 l:=c
 k:=e
 o:=λk=>Â ⟨a<|(ie kd R).getD (k-1) 0,0,Á⟩
 a:=λk=>(ie kd R).getD (k-1) 0
 i:=λi=>Â ⟨a<|(jC kd R).getD i 0,0,Á⟩
 c:=λi=>(jC kd R).getD i 0
 b:=λi=>if i<(jC kd R).length then fQ kd ((jC kd R).getD i 0)else 0
 f:=o
 d:=p
 RC:=RC
 p:=fe
 γ:=M.γ
 w:=M.C
 v:=M.r
 h:=M.M
 RD:=M.RD
 e:=λk=>M.I<|(ie kd R).getD (k-1) 0
 j:=λi=>M.I<|(jC kd R).getD i 0
section
variable{M:xR}{L R:Nat}{kd:Nat->Int}{a:Nat->Nat}{c:Option â}{cs:List é}{RB:Nat->Prop}{RC fe:ß->Prop}{l d f:fh}
def akS(h:Lj kd a D R (Æ O (fQ kd R) j7) (Æ c (jC kd R).length j6) v j b J i j9 m l d f)(F:∀w p,RC w->(∀g,RB g->p.heap[g]?=w.heap[g]?)->RC p)(G:∀w p,fe w->(p.os=w.os/\p.output=w.output)->fe p)(H:∀s B V w p,M.RD s B V w->(∀g,V g->p.heap[g]?=w.heap[g]?)->M.RD s B V p)(I:1<=n)(K:1<=L)(X:n+R<1000):(Lw M L n R kd a D O c j7 j6 j b J i cs RB RC fe).Ok:=by
 have Y:=a_ (kd:=kd) R;have hc:(ie kd R).length=fQ kd R:=U;let⟨a1,a2,a3⟩:=h.M;let⟨a4,a5,a6⟩:=h.S;have z:∀k,k<=fQ kd R->d.w.heap.size<=D k/\D k<J:=λk r=>⟨(h.r.M k r).1,h.N k r⟩;have Sn:=Õ (z 0 Z).1<|Ł (z 0 Z).2;refine⟨F,G,H,I,K,?_,?_,λo=> ?_,λo t=>(HY<|wo t).1,λk C x=> ?_,λk r e=> ?_,λk u r N e=> ?_,?_,λo i' t P e=>Z9 akR t P e,λk u C x h3 Q e=> ?_,λo k t C x e=> ?_,λg _=>ă g⟩
 .show n+(jC kd R).length+fQ kd R<1000;omega
 .show R<1000;omega
 .show(if o<(jC kd R).length then fQ kd ((jC kd R).getD o 0)else 0)<=fQ kd R;split
  .rename_i t;exact ZI<|Ł (HY<|wo t).1
  .omega
 .refine(HU<|wo ?_).1;have:k<=fQ kd R:=x;omega
 .have:=(z k r).2;have y:D k=i:=e;omega
 .have y:D k=D u:=e;have S:=r;have T:=N;rcases Nat.lt_trichotomy k u with q|q|q
  .have:=h.r.S k u q T;omega
  .exact q
  .have:=h.r.S u k q S;omega
 .rintro(e|⟨k,r,e⟩)
  .have y:j=i:=e;omega
  .have y:j=D k:=e;have:=(z k r).1;omega
 .have W:k<=fQ kd R:=x;have h4':u<=fQ kd R:=Q;have:=Z9 akQ Z Z e;omega
 .have W:k<=fQ kd R:=x;have y:(jC kd R).getD o 0=(ie kd R).getD (k-1) 0:=e;have E:=(HY<|wo t).2;rw[y]at E;exact E<|(HU (kd:=kd) (R:=R)<|wo (k:=k-1) Z).2
end
abbrev kO(M:xR)(L n R:Nat)(kd:Nat->Int)(c g:Nat->Nat)(d e:Option â)(f h i a j k:Nat)(cs:List é)(l:fh):SD:=Lw M L n R kd c g d e f h i a j k cs (λb=>l.O b\/b=a) (λw=>∀b,l.O b->w.heap[b]?=l.w.heap[b]?) λw=>w.os=l.w.os/\w.output=l.w.output
def Lx(D:SD)(l:fh):fh:={l with O:=λb=>l.O b/\¬(D.Y.M b\/b=D.M)/\¬D.d b,I:=D.d,r:=λa=>∃x,x<=D.n/\mb (D.r Ä) x a,N:=λa=>a=jj D.Y 0,K:=D.Y.G}
section
variable{M:xR}{L:Nat}{f:Nat->Int}{r:Nat->Nat}{u:Option â}{y:Nat}{cs:List é}{l B o:fh}
def Ly{cs:Array Ï}(h:w.heap[b]?=Â (É cs e)):w.frozen? ⟨b,i,Á⟩=Ì:=by simp[î,h]
def SG{cs:Array Ï}(h:w.heap[b]?=Â (É cs e))(a:cs[0]?=Â (Ê ê<|(i:Int)*gk+0))(d:cs[1]?=Â (Ê Ď 0))(f:i<1000000):ij w b (.cl i 0):=by
 refine⟨?_,?_,Ly h,Ly h,(⟨f,Z,λ_=>rfl⟩)⟩
 .simp[Ö,fS,h,a,GS.st]
 .simp[Ö,gT,h,d,GS.sm]
def akT(h:Lj f r D j (Æ O (fQ f j) j6) (Æ u (jC f j).length y) v k m j9 b j7 J l B o)(s:gF l)(Lz:∀g,¬l.I g)(W:¬l.q)(X:l.d=0)(hH:i<=l.w.heap.size)(hV:∀g,M.r g->l.O g)(qW:M.RD M.C v M.r o.w)(xO:o.w.os=l.w.os/\o.w.output=l.w.output)(hn:1<=n)(hs:n+j<1000){t:Array Ï}(hT:Hq m b (D<|fQ f j) n (Æ u (jC f j).length y) t)(dk:Nat->Nat): SF ((kO M L n j f r D O u j6 y k m j9 b cs l).r Ä) i o (Lx (kO M L n j f r D O u j6 y k m j9 b cs l) o) o.w/\ ((kO M L n j f r D O u j6 y k m j9 b cs l).r Ä).g 0 dk (Lx (kO M L n j f r D O u j6 y k m j9 b cs l) o) (BS (À<|Â ⟨b,0,Á⟩) jQ (À<|Â ⟨b,0,Á⟩) (ñ #[]) j7 J<|Es t::cs):=by
 let⟨a1,a2,a3⟩:=h.M;let⟨a4,a5,a6⟩:=h.S;have N:∀C,C<=fQ f j->B.w.heap.size<=D C/\D C<j9:=λC E=>⟨(h.r.M C E).1,h.N C E⟩;have Sn:=Õ (N 0 Z).1<|Ł (N 0 Z).2;have Y:=λg q=>s.fA g<|Ã q;have hc:(ie f j).length=fQ f j:=rfl;have Q:∀g,(kO M L n j f r D O u j6 y k m j9 b cs l).Y.M g\/g=k->g=b\/(∃C,C<=fQ f j/\g=D C)\/g=k:=λg q=>by
  rcases q with(q|⟨C,S,q2⟩)|q
  .exact Ã q
  .exact Ç<|Ã ⟨C,S,q2⟩
  .exact Ç<|Ç q
 have H:∀g,(kO M L n j f r D O u j6 y k m j9 b cs l).Y.M g\/g=k->l.w.heap.size<=g/\g≠m/\g≠j9/\g≠j7/\g≠J/\(∀C,(Æ O (fQ f j) j6).ownBlock=Â C->g≠C)/\(∀C,(Æ u (jC f j).length y).ownBlock=Â C->g≠C):=λg q=>by
  rcases Q g q with rfl|⟨C,E,rfl⟩|rfl
  .exact⟨Z,Z,Z,Z,Z,λC e=>by have:=h.o3 C e;omega,λC e=>by have:=h.o4 C e;omega⟩
  .have:=N C E;exact⟨Z,Z,Z,Z,Z,λp e z=>(h.r.M C E).2.1<|z▸e,λp e z=>(h.r.M C E).2.2<|z▸e⟩
  .exact⟨Z,Z,Z,Z,Z,λC e=>by have:=(h.r.r C e).2;omega,λC e=>by have:=(h.r.C C e).2;omega⟩
 have akU:∀g,(kO M L n j f r D O u j6 y k m j9 b cs l).Y.M g\/g=k->o.O g:=λg q=>by
  rcases Q g q with rfl|⟨C,E,rfl⟩|rfl
  .exact h.Y.fx
  .by_cases x:C=0
   .subst x;exact h.r.N.fx
   .exact(h.r.I C Z E).fx
  .exact h.I.fx
 have K:∀g,o.O g->l.w.heap.size<=g->g≠m->¬((kO M L n j f r D O u j6 y k m j9 b cs l).Y.M g\/g=k)->(Lx (kO M L n j f r D O u j6 y k m j9 b cs l) o).O g:=λg S q2 q4 q3=>⟨S,q3,λq=>q.elim (λq=>by have:=Y g q;omega) q4⟩;have b_:ij o.w b (.cl 1 0):=SG h.Y.I U U Z;have c_:ij o.w (D 0) (.cl 0 0):=SG h.r.N.I U U Z;have d_:∀C,1<=C->C<=fQ f j->ij o.w (D C) (.cl 1 0):=λC I P=>SG (h.r.I C I P).I U U Z;have T:∀g c,ij o.w g c->nF g o.w:=λg c q=>⟨by rw[show(⟨g,0,Á⟩:â)=fS g from rfl,q.C];rfl,by rw[show(⟨g,1,Á⟩:â)=gT g from rfl,q.M];rfl⟩;refine⟨⟨λg q=>⟨q.1,q.2.1⟩,λg q=>⟨?_,λz=> ?_,λz=>z.2.2 q⟩,λa=>Iff.rfl,λa=>Iff.rfl,λa q=>q,λg q=>akU g q,λg q=>Õ hH (H g<|Ã q).1,U,h.C.d.trans X,by show¬o.q;rwa[h.C.q],λg q=>Ã<|hV g q,b_,c_,d_,⟨⟨v,h.r.N.C U,qW⟩,λ_=> ?_⟩⟩,?_⟩
 .rcases q with q|q
  .exact h.C.O g q
  .rw[q];exact h.a.fx
 .rcases q with q|q
  .have:=(H g z).1;have:=Y g q;omega
  .exact(H g z).2.1 q
 .refine⟨?_,by unfold lb;rw[show o.w.heap[(kO M L n j f r D O u j6 y k m j9 b cs l).M]?=Â (xK j)from h.I.I],xO⟩;show o.w.cell? ⟨k,j,Á⟩=Á;simp only[Ö,h.I.I,xK,ı,ĵ,if_false];exact Array.getElem?_eq_none<|by rw[ř];exact Ú _
 refine⟨h.C.d.trans X,by show¬o.q;rwa[h.C.q],ă _,Ã ⟨U,⟨λg q=>⟨⟨g,q,Ã U⟩,⟨g,q,Ç U⟩⟩,λg q=> ?_,Ç<|Ç U,h.a.C U,(Ã<|K j9 h.c.fx Z Z λz=>(H j9 z).2.2.1 U),h.c.C U,λC E=> ?_,λe hi=> ?_,λa q=> ?_,λg q=>Ç q,λg q=>h.C.r g (Ã q) id⟩,t,j7,J,jQ,hT,⟨(K j7 h.d.fx Z Z λz=>(H j7 z).2.2.2.1 U),h.d.I⟩,⟨(K J h.b.fx Z Z λz=>(H J z).2.2.2.2.1 U),h.b.I⟩,U⟩⟩
 .rcases Q g (Ã q)with rfl|⟨C,E,rfl⟩|rfl
  .exact T _ _ b_
  .by_cases x:C=0
   .subst x;exact T _ _ c_
   .exact T _ _<|d_ C Z E
  .exact absurd q λz=>by
    rcases z with z|⟨C,x,F⟩
    .have G:g=b:=z;omega
    .have G:g=D C:=F;have:=(N C x).1;omega
 .have tX:C<fQ f j:=E;rcases h.r.jT.2 with⟨_,e2⟩|⟨g,cap,cur,V,_,hcur,HL⟩
  .omega
  .have zC:O=Â ⟨g,0,Á⟩:=by injection V
   subst zC;have x:=h.r.jT.cells U;have hz:(ie f j).zipIdx[C]?=Â ((ie f j).getD C 0,C):=by rw[List.getElem?_zipIdx,Cg Z];simp
   have F:∀c,c<4->(jT f r D j)[C*4+c]?=(tI r D ((ie f j).getD C 0,C))[c]?:=λc q=>Se (λ_=>rfl) q _ C _ hz;have G:∀p,(⟨g,0,Á⟩:â).add p=⟨g,p,Á⟩:=λp=>by rw[ğ,č]
   refine⟨g,U,Ã (K g (h.r.r g U).1 (Õ Z (h.r.r g U).2) (by have:=(h.r.r g U).2;omega) λz=>(H g z).2.2.2.2.2.1 g U U),?_,?_,?_,?_⟩
   .have:=x (C*4+0) _<|F 0 Z;rwa[G]at this
   .have:=x (C*4+1) _<|F 1 Z;rwa[G]at this
   .have:=x (C*4+2) _<|F 2 Z;rwa[G]at this
   .have:=x (C*4+3) _<|F 3 Z;rwa[G]at this
 .have lF:e<(jC f j).length:=hi;rcases h.r.mP.2 with⟨_,e2⟩|⟨g,cap,cur,V,_,hcur,HL⟩
  .omega
  .have Sy:u=Â ⟨g,0,Á⟩:=by injection V
   subst Sy;have x:=h.r.mP.cells U;have F:∀c,c<4->(mP f r D j)[e*4+c]?=(tQ f r D<|(jC f j).getD e 0)[c]?:=λc q=>Se (λ_=>rfl) q _ e _<|Cg lF;have G:∀p,(⟨g,0,Á⟩:â).add p=⟨g,p,Á⟩:=λp=>by rw[ğ,č]
   refine⟨g,U,Ã (K g (h.r.C g U).1 (Õ Z (h.r.C g U).2) (by have:=(h.r.C g U).2;omega) λz=>(H g z).2.2.2.2.2.2 g U U),?_,?_,?_,?_⟩
   .have:=x (e*4+0) _<|F 0 Z;rwa[G]at this
   .have:=x (e*4+1) _<|F 1 Z;rwa[G]at this
   .have:=x (e*4+2) _<|F 2 Z;rw[G]at this;show o.w.cell? ⟨g,e*4+2,Á⟩=Â (À<|Â ⟨D (if e<(jC f j).length then fQ f ((jC f j).getD e 0)else 0),0,Á⟩);rw[if_pos lF];exact this
   .have:=x (e*4+3) _<|F 3 Z;rwa[G]at this
 .have V:∀p,p<j->(o.w.cell? ⟨k,p,Á⟩).isSome=Ò/\o.w.frozen? ⟨k,p,Á⟩=Ì:=λp hp=>by
   refine⟨?_,Ly h.I.I⟩;have:p<(madeCells (Ŵ<|à ⟨#[]⟩) j).size:=by rwa[ř]
   simp[Ö,h.I.I,this]
  let⟨x,_,F⟩:=q;unfold mb at F;split at F
  .obtain⟨C,I,P,rfl|rfl⟩:=F
   .have G:=P;refine⟨?_,Ly (h.r.I C I G).I⟩;show(o.w.cell? ⟨D C,2,Á⟩).isSome=Ò;rw[(h.r.I C I G).C U];rfl
   .have G:C<=fQ f j:=P;exact V _ (HU<|wo Z).1
  .obtain⟨e,I,_,rfl⟩:=F;exact V _ (HY<|wo I).1
end
end Go.Proofs.Y.fB
namespace Go.Proofs.Y.fB
open Go Go.Conc Go.Proofs.Y.Lift Go.RowKit Go.Conc.Lib Go.ConcR.Gen
open Go.Proofs Go.Proofs.YtgpphkdoanciiabGreatDoor
open Go.ConcN (sumTo sumTo_congr)
def LA(kd:Nat->Int)(f:Nat->Nat)(R n:Nat)(h:Ï)(l:fh)(cs:List é):Jd:=λi j=>
 ∃g k t m b o c p a d e q,Lj kd f g R m b h o c p a d e l k i/\Hq c a (g<|fQ kd R) n b t/\j=BS (À<|Â ⟨a,0,Á⟩) q (À<|Â ⟨a,0,Á⟩) (ñ #[]) d e (Es t::cs)
theorem f_(h:w.ownsRow i e j v n l):∃b c,v=Æ b n c:=by rcases h.2 with⟨a,d⟩|⟨b,f,g,a,_⟩;all_goals grind
section
variable{F:Ph}{E:fZ F}{S:Nat->Jd}{B:Nat->gD}{G:Nat->iD}{y:Nat->fh}{o:Array Ý}
theorem PI.akV(p:PI F j9 zX E S B G y o w qJ)(c:E.M=.gp)(d:1<=F.n):E.S=.kV F.m/\(∀i,i<F.q->w.cell? (jw F<|F.a i)=Â (à<|F.k i)/\∀k,k<o.size->¬(y k).r (jw F<|F.a i)):=by
 let⟨j,a⟩:=p.jy c;refine⟨p.C.f (by let⟨N,h⟩:=a 0 Z;rw[h];simp),λi k=> ?_⟩;have l:i%F.n<F.n:=Ĵ _ d;have e:i%F.n+i/F.n*F.n=i:=by rw[Nat.mul_comm];exact Nat.mod_add_div i F.n
 let⟨N,h⟩:=a (i%F.n+1) Z;let⟨_,r,f,g⟩:=p.C.l (i%F.n) Z (by rw[h];simp);have b:i/F.n<(E.C<|i%F.n).kJ:=by rw[f];exact(g (i/F.n)<|by rwa[e])
 have s:=p.M.N (i%F.n) Z (i/F.n) (by rwa[e]) b;have t:=p.a.d (i%F.n) Z (i/F.n) (by rwa[e]) b;grind
end
structure akW(D:SD)(l:fh)(w:ß)(g:Ý):Prop where
 I:∀b,l.O b->w.heap[b]?=l.w.heap[b]?
 cba:w.cell? ⟨D.S,0,Á⟩=Â (Æ (Â ⟨D.M,0,Á⟩) D.N D.N)
 kV:∀k,1<=k->k<=D.m->w.cell? ⟨D.M,D.a k,Á⟩=Â (à<|D.e k)
 SH:∀i,i<D.q->w.cell? ⟨D.M,D.c i,Á⟩=Â (à<|D.j i)
 HZ:∃s sl V,nz (D.r Ä) D.m s/\w.cell? ⟨D.C D.m,2,Á⟩=Â sl/\D.RD s sl V w/\∀b,V b->b<w.heap.size/\b≠D.I
 fA:D.M<w.heap.size/\D.S<w.heap.size/\D.C D.m<w.heap.size
 r:D.M≠D.I/\D.S≠D.I/\D.C D.m≠D.I
 SJ:∃ts,SE D.S D.I (D.C D.m) ts/\g=Ey ts D.f
 C:w.cell? ⟨D.M,D.N,Á⟩=Á/\lb w D.M=Â (0,0)
 io:w.os=l.w.os/\w.output=l.w.output
section
variable{M:xR}{f:Nat->Int}{u:Nat->Nat}{cs:List é}{l:fh}{I:Nat->Nat}{y:Nat->fh}{o:Array Ý}
theorem akX(c:rY Ä zX j (LA f u J n v l cs) .fE I y o w qJ)(S:Option (Nat×Nat))(s:gF l)(Lz:∀b,¬l.I b)(hq:¬l.q)(hd:l.d=0)(hH:j<=l.w.heap.size)(hV:∀b,M.r b->l.O b)(qW:∀s S V w G,M.RD s S V w->(∀b,V b->G.heap[b]?=w.heap[b]?)->M.RD s S V G)(Ch:M.RD M.C v M.r l.w)(xO:w.os=l.w.os/\w.output=l.w.output)(hn:1<=n)(hs:n+J<1000) (hA:∀g r t B D e m p h,l.w.heap.size<=m->Ez (kO M o.size n J f u g r t B D e m p h cs l)/\EA (kO M o.size n J f u g r t B D e m p h cs l)): ∃g r t B D e m p h,(l.w.heap.size<=e/\l.w.heap.size<=m/\l.w.heap.size<=h/\∀k,k<=fQ f J->l.w.heap.size<=g k)/\ ∃N Y a H C i G K E z,Ŷ Ä N (Ĭ o w S) qJ=(.next<|Ĭ i G K,E)/\i.size=o.size+(n+1)/\i[0]?=Â z/\a<=G.heap.size/\h<a/\j<=a/\(C 0).d=0/\z.status=ċ/\ kN Ä Y (λF=>zX F\/∃x:â,F=û x/\x.block=h) a (ZW<|kO M o.size n J f u g r t B D e m p h cs l) .fE H C i G E/\akW (kO M o.size n J f u g r t B D e m p h cs l) l G z:=by
 have h0:=c.C;obtain⟨g0,xt⟩:∃g,o[0]?=Â g:=⟨_,ì h0⟩;let⟨g1,q1,q2,q3,_⟩:=c.r.C 0 g0 xt;obtain rfl:g0=g1:=by cases q2;rfl
 have hz:=q1 w<|c.r.r.r 0 h0;let⟨g,lp,tt,iv,qv,e,m,p,h,bw,bf,T,F,hT,hg⟩:=hz;obtain⟨r,B,rfl⟩:=f_ F.r.jT;obtain⟨t,D,rfl⟩:=f_ F.r.mP;let⟨a1,a2,a3⟩:=F.M;let⟨a4,a5,a6⟩:=F.S;have SK:∀k,k<=fQ f J->lp.w.heap.size<=g k/\g k<p:=λk W=>⟨(F.r.M k W).1,F.N k W⟩;have avh:=SK 0 Z;have akY:=qW _ _ _ _ _ Ch λb q=>F.C.r b (Ã<|hV b q) id;obtain⟨st,hgo⟩:=akT F s Lz hq hd hH hV akY xO hn hs hT λ_=>0;have ok:=akS (L:=o.size) (cs:=cs) (RB:=λb=>l.O b\/b=m) (RC:=λw=>∀b,l.O b->w.heap[b]?=l.w.heap[b]?) F (λw G P X b a=>(X b<|Ã a).trans<|P b a) (fe:=λw=>w.os=l.w.os/\w.output=l.w.output) (λw G P X=>⟨X.1.trans P.1,X.2.trans P.2⟩) qW hn Z hs;let⟨hAdd,akZ⟩:=hA g r t B D e m p h Z;have Hy:=akH ok hAdd akZ;have B7:=F.C.d.trans hd;have st':SF ((kO M o.size n J f u g r t B D e m p h cs l).r Ä) j (y 0) (Lx (kO M o.size n J f u g r t B D e m p h cs l) {y 0 with w:=w}) w:=⟨st.fx,st.r,st.C,st.I,st.k,st.M,st.N,st.g,st.d,st.q,st.S,st.Y,st.c,st.e,st.f⟩;rw[<-hg]at hgo;have p0:=c.akN Hy U U xt st' B7 (λ_=>0) hgo;let⟨N1,E,S1,tr1,kp1,avi,gs1,w1,g_,t1,r1,x,hf,he⟩:=aiy Hy _ _ _ _ _ _ _ o w S qJ U U p0 (by intro q;cases q);let⟨oR,_⟩:=x.jy hf;let⟨zM,c1⟩:=x.akM hf he U h0;let⟨N2,LB,SL,gs2,w2,LC,t2,r2,z2,N,c2⟩:=c1.G (λa i z=>Ã<|Hy.M E.I a i z) (tr1 0) _ zM _ gs1 w1 g_ t1 U;have EB:gs1.size=o.size+(n+1):=by rw[x.b,oR];rfl
 have LD:=c2.C;obtain⟨g2,LF⟩:∃g,gs2[0]?=Â g:=⟨_,ì LD⟩;let⟨g3,u1,u2,u3,_⟩:=c2.r.C 0 g2 LF;obtain rfl:g2=g3:=by cases u2;rfl
 have hE:=u1 w2<|c2.r.r.r 0 LD;let⟨e1,e2,dat,ts,qZ,hge⟩:=hE;have Q:0<gs1.size:=Z
 have C:=x.I.r;have hY:=λb q z=>C.I 0 Q b (Ã z) q;have H:E.Y e:=Ç<|Ã U;have yG:∀k,k<=fQ f J->E.Y (g k):=λk W=>Ã<|Ç ⟨k,W,U⟩;have h_:E.Y h:=Ã<|Ã U;let⟨hip,ak0⟩:=x.akV hf hn;have hmd:E.S.md=fQ f J:=by rw[hip];rfl
 let⟨GO,⟨h',SN,LG⟩,_⟩:=x.M.M (fQ f J) Z;have K:=C.N;refine⟨g,r,t,B,D,e,m,p,h,⟨a1,Z,Z,λk W=>by have:=SK k W;omega⟩,N1+N2,E.Y,w1.heap.size,LB,SL,gs2,w2,LC,t2,g2,?_,Z,LF,N.r,K h h_,?_,e1,Hy.M E.I _ _<|u1 w2<|c2.r.r.r 0 LD,c2,⟨dat.e,dat.d,λk P X=> ?_,λi hi=> ?_,?_,?_,(⟨show e≠h by omega,show m≠h by omega,show g (fQ f J)≠h by have:=SK (fQ f J)<|Ú _;omega⟩),⟨ts,qZ,hge⟩,?_,?_⟩⟩
 .rwa[runNT_add,show Ŷ Ä N1 (Ĭ o w S) qJ=_ from r1]
 .grind
 .have a:k<=fQ f J:=X;refine Ŀ (N.M ⟨e,_,Á⟩ (K e H) (hY e H)<|x.a.g k P Z 0 Q)<|x.M.S k P Z
 .let⟨T,v2⟩:=ak0 i hi;exact Ŀ (N.M ⟨e,_,Á⟩ (K e H) (hY e H)<|v2 0 Q) T
 .refine⟨E.c<|fQ f J,h',E.V<|fQ f J,GO,(Ŀ (N.M ⟨g<|fQ f J,2,Á⟩ (K _<|yG _<|Ú _) (hY _<|yG _<|Ú _)<|x.a.N (fQ f J) Z 0 Q) SN),qW _ _ _ _ _ LG λb q=> ?_,λb q=> ?_⟩
  .let⟨T,v2,v3⟩:=x.a.I (fQ f J) Z b q;exact N.jY b T (v3 0 Q) λa ha z=>v2<|ha▸C.e 0 Q a (Ã z)
  .let⟨T,v2,v3⟩:=x.a.I (fQ f J) Z b q;exact⟨È T N.r,λz=>v2<|z▸h_⟩
 .refine⟨È (K e H) N.r,c2.r.r.fA 0 LD m<|Ç dat.c,È (K _<|yG _<|Ú _) N.r⟩
 .let⟨a,y2,_⟩:=(x.M.M 0<|ă _).2.2 U;exact⟨Ŀ (N.M ⟨e,J,Á⟩ (K e H) (hY e H)<|x.a.O3 Hy.C 0 Q) a,(N.Y e (K e H)<|hY e H).trans y2⟩
 .let⟨_,_,a⟩:=(x.M.M 0<|ă _).2.2 U;exact⟨N.C.trans a.1,N.I.trans a.2⟩
end
def SO(a:Ν->Prop)(w:ß):fh where
 O:=λb=>b<w.heap.size/\∀x:â,x.block=b->¬a (û x)
 I:=λ_=>False
 r:=λ_=>False
 N:=λ_=>False
 K:=λ_=>False
 q:=False
 d:=0
 w:=w
def i_(a:Ν->Prop)(w:ß):gF (SO a w):= ⟨λ_ _ h=>h,λ_ h=>h.elim,λ_ h=>h.elim (λq=>q.elim) λq=>q.elim,λ_ h=>h.elim (λq=>q.1) λq=>q.elim,λ_ h=>h.elim (λq=>q.elim) λq=>q.elim,λ_ h=>h.elim⟩
structure wq(jv:Ν->Prop)(H:Nat)(l:fh):Prop where
 r:∀x:â,jv (û x)->x.block<H
 fx:∀b,l.O b->∀x:â,x.block=b->¬jv (û x)
 C:H<=l.w.heap.size
inductive zN(M:xR):Nat->M.γ->Prop
 |vB:zN M 0 M.C
 |Du {k:Nat} {s s':M.γ} (h:zN M k s) (hn:M.M k s s'):zN M (k+1) s'
structure F7(M:xR)(R:Nat)(kd:Nat->Int)(l:fh)(an:Nat)(sl:Ï)(l':fh):Prop where
 vF:∀b,l.O b->l'.O b/\l'.w.heap[b]?=l.w.heap[b]?
 kJ:l'.O an/\∀p,p<R->l'.w.cell? ⟨an,p,Á⟩=Â (à<|M.I p)
 HZ:∃s V,zN M (fQ kd R) s/\M.RD s sl V l'.w/\∀b,V b->l'.O b
 d:l'.d=0
 q:¬l'.q
 rd:∀b,¬l'.I b
 xS:(∀a,¬l'.r a)/\(∀a,¬l'.N a)/\∀a,¬l'.K a
 Dd:l'.w.cell? ⟨an,R,Á⟩=Á/\lb l'.w an=Â (0,0)
section
variable{M:xR}{R H:Nat}{kd:Nat->Int}{e:Nat->Nat}{f:List é}{l:fh}{jv:Ν->Prop}{o:Nat->fh}
def ak1{a:Option â}{s:M.γ}(h:nz ((kO M i n R kd e D O a j b m J j9 j7 qX l).r Ä) k s):zN M k s:=by
 have c:∀(k:Nat) (s:((kO M i n R kd e D O a j b m J j9 j7 qX l).r Ä).γ),nz ((kO M i n R kd e D O a j b m J j9 j7 qX l).r Ä) k s->zN M k s:=λk s h=>by
  induction h with
  |vB=>exact .vB
  |Du _ d f=>exact .Du f d
 exact c k s h
def ak2{J:(Ν->Prop)->Nat->Jd}{cf:é}{a:ŏ}(GK:qX=cf.at a (Ñ Q (i::jJ)::L)::f)(c:rY Ä jv H (LA kd e R n v l qX) .fE D o E w qJ)(F:Option (Nat×Nat))(s:gF l)(Lz:∀b,¬l.I b)(hq:¬l.q)(hd:l.d=0)(S:wq jv H l)(hV:∀b,M.r b->l.O b)(qW:∀s F V w u,M.RD s F V w->(∀b,V b->u.heap[b]?=w.heap[b]?)->M.RD s F V u)(ak3:∀s F V w,M.RD s F V w->(∃p m c,F=Æ p m c)/\∀b,V b->l.O b\/l.w.heap.size<=b)(Ch:M.RD M.C v M.r l.w)(xO:w.os=l.w.os/\w.output=l.w.output)(hn:1<=n)(hs:n+R<1000) (hA:∀g ib qb ci cq B ba bi I,l.w.heap.size<=ba->Ez (kO M E.size n R kd e g ib qb ci cq B ba bi I qX l)/\EA (kO M E.size n R kd e g ib qb ci cq B ba bi I qX l)) (hJ:∀EC C W B p m c,wq EC C W->gF W->F7 M R kd l B (Æ p m c) W->fq Ä Ò (J EC C) W (G (cf.at (a.put ((Q[i]?).bind (·.dst))<|ñ #[Æ (Â ⟨B,0,Á⟩) R R,Æ p m c])<|Ñ Q jJ::L) f)): ∃N EC C T jD H0 gs' u tu t',Ŷ Ä N (Ĭ E w F) qJ=(.next<|Ĭ gs' u tu,t')/\(u.os=l.w.os/\u.output=l.w.output)/\rY Ä EC C (J EC C) T jD H0 gs' u t':=by
 let⟨g,ib,qb,ci,cq,B,ba,bi,I,⟨b1,b2,b3,b4⟩,N,Y,C,jD,H0,gs',u,tu,t',g',r,z1,z2,z3,z4,z5,z6,z7,cY,t⟩:=akX c F s Lz hq hd S.C hV qW Ch xO hn hs hA;let⟨st,h',V,GO,SN,LG,LH⟩:=t.HZ;obtain⟨⟨sp,sm,sc,rfl⟩,j_⟩:=ak3 _ _ _ _ LG;obtain⟨ts,qZ,rfl⟩:=t.SJ;have hH:=S.C;have k_:=λb q=>s.fA b<|Ã q;have X:∀b,(l.O b\/l.w.heap.size<=b)->b<u.heap.size->b≠I->(SO (λj=>jv j\/∃x:â,j=û x/\x.block=I) u).O b:=λb hb gP lM=>by
  refine⟨gP,λx hx=> ?_⟩;rintro(q|⟨y,P,q2⟩)
  .rcases hb with hb|hb
   .exact S.fx b hb x hx q
   .have:=S.r x q;omega
  .injection P with P;subst P;omega
 have ak4:=λb q=>by have h:=t.I b q;rw[ì<|k_ b q]at h;exact(æ.1 h).1
 have keep:=λb q=>X b (Ã q) (ak4 b q) (by have:=k_ b q;omega);have LJ:=X B (Ç b1) t.fA.1 t.r.1;have ak5:fq Ä Ò (J (λj=>jv j\/∃x:â,j=û x/\x.block=I) C) (SO (λj=>jv j\/∃x:â,j=û x/\x.block=I) u) (Ey ts qX):=by
  rw[GK];refine akn (i_ _ _) (λq=>q) qZ (Ã<|X ba (Ç b2) t.fA.2.1 t.r.2.1) (Ã<|Ã<|X _ (Ç<|b4 _<|Ú _) t.fA.2.2 t.r.2.2) t.cba SN λW h=> ?_;refine hJ (λj=>jv j\/∃x:â,j=û x/\x.block=I) C W B sp sm sc ⟨λx q=> ?_,λb q x hx=> ?_,Õ z3 h.I⟩ (h.N<|i_ _ _) ⟨λb q=>⟨h.O b<|keep b q,(h.r b (Ã<|keep b q) id).trans<|t.I b q⟩,⟨h.O B LJ,λp hp=> ?_⟩,⟨st,V,ak1 GO,qW _ _ _ _ _ LG λb q=>h.r b (Ã<|X b (j_ b q) (LH b q).1 (LH b q).2) id,λb q=>h.O b<|X b (j_ b q) (LH b q).1 (LH b q).2⟩,h.d,?_,λb q=> ?_,⟨λa q=> ?_,λa q=> ?_,λa q=> ?_⟩,⟨(gQ<|h.r B (Ã LJ) id).trans t.C.1,(xg<|h.r B (Ã LJ) id).trans t.C.2⟩⟩
  .rcases q with q|⟨y,P,q2⟩
   .exact È (S.r x q) z5
   .injection P with P;subst P;omega
  .rcases h.c b q with q|q
   .exact q.2 x hx
   .have j:u.heap.size<=b:=q;rintro(z|⟨y,z1,z2⟩)
    .have:=S.r x z;omega
    .injection z1 with z1;subst z1;omega
  .refine(gQ<|h.r B (Ã LJ) id).trans ?_;by_cases hk:kd p=1
   .have hm:p∈ie kd R:=Ā.2 ⟨Ē.2 hp,by simpa using hk⟩;let⟨j,y⟩:=Ĩ hm;have P:=(Ĕ.1 y).1;have:=t.kV (j+1) Z (show j+1<=fQ kd R from P);have e2:(ie kd R).getD (j+1-1) 0=p:=Ó<|(Cg P).symm.trans y;simp only[kO,Lw,e2]at this;exact this
   .have hm:p∈jC kd R:=Ā.2 ⟨Ē.2 hp,by simpa using hk⟩;let⟨j,y⟩:=Ĩ hm;have P:=(Ĕ.1 y).1;have:=t.SH j P;simp only[kO,Lw,Ó<|(Cg P).symm.trans y]at this;exact this
  .rw[h.q];exact id
  .rw[h.S]at q;exact q
  .rw[h.Y]at q;exact q
  .rw[h.b]at q;exact q
  .rw[h.K]at q;exact q
 let⟨T,h⟩:=ju ak5;exact⟨N,_,C,T,jD,_,gs',u,tu,t',r,t.io,cY.Y z6 z2 z7 U U id (λ_=>id) (λ_=>id) (λ_=>id) (λ_=>id) (λb q=>q) h⟩
end
end Go.Proofs.Y.fB
namespace Go.Proofs.Y.fB
open Go Go.Conc Go.Proofs.Y.Lift Go.RowKit Go.Conc.Lib Go.ConcR.Gen
open Go.Proofs Go.Proofs.YtgpphkdoanciiabGreatDoor
def qm(V:Nat->Prop)(base:Nat):fy:=⟨λi j=>i=j/\V i,base⟩
def ak6(V:Nat->Prop)(base:Nat):Bi (qm V base):= ⟨λ_ _ _ h k=>h.1.symm.trans k.1,λ_ _ _ h k=>h.1.trans k.1.symm,λi j h=>by rw[h.1]⟩
def lG(j:Nat):Bool:=j==3||j==4
def uS(c:Array Ï):Array Ï:=c.extract 0 16
def ak7(c:Array Ï):(uS c).size=min 16 c.size:=by simp[uS]
open Classical in
noncomputable def pI (a:Nat->Prop) (j:Nat):Ÿ->Ÿ
 |É c e b=>if a j then(if lG j=Ò then É (uS c) e (0,(uS c).size)else É c e (0,c.size))else É c e b
 |_=>É #[] 0
noncomputable def lz (Sh:Nat->Prop) (w:ß):ß:={w with heap:=w.heap.mapIdx (pI Sh)}
section
variable{V Sh:Nat->Prop}{base:Nat}
def ED(j:Nat):(lz Sh w).heap[j]?=(w.heap[j]?).map (pI Sh j):=by simp[lz,Array.getElem?_mapIdx]
def m_:ko (lz Sh w):=λi o h=>by
 rw[ED]at h;obtain⟨x,_,rfl⟩:=ġ.1 h;cases x<;>simp only[pI]<;>try exact id
 split
 .split<;>exact id
 .exact id
structure LK(V Sh:Nat->Prop)(base:Nat)(w:ß):Prop where
 SJ:∀b,V b->∃c e fr,w.heap[b]?=Â (É c e fr)/\fr.2<=c.size/\fX (qm V base) c c/\(Sh b->0<c.size/\(lG b=Ò->(e=298\/e=299)/\fr.2<=16)/\(lG b=Ì->C9 c))
 fA:base<=w.heap.size
def ak8(h:LK V Sh base w):rH (qm V base) Sh (lz Sh w) w:=by
 refine⟨U,U,ak6 V base,by show base<=(w.heap.mapIdx<|pI Sh).size;rw[Array.size_mapIdx];exact h.fA,h.fA,λi j o=> ?_⟩;obtain⟨rfl,p⟩:=o;let⟨c,e,a,b,l,f,r⟩:=h.SJ i p;have g:(lz Sh w).heap[i]?=Â (pI Sh i<|É c e a):=by rw[ED,b];rfl
 by_cases s:Sh i
 .let⟨t,u,v⟩:=r s;cases d:lG i with
  |true=>
   let⟨x,y⟩:=u d;have z:=ak7 c;have m:FK e (uS c).size:=⟨x,Z⟩;refine⟨uS c,c,e,(0,(uS c).size),a,?_,b,⟨λk B n=> ?_,Z,Ç ⟨s,m⟩⟩,λ_=>⟨U,Ú _,by show a.2<=(uS c).size;omega,Z,Ç m⟩,λq=>absurd s q,Ú _⟩
   .show(lz Sh w).heap[i]?=_;rw[g];simp[pI,s,d]
   .have:(uS c)[k]=c[k]:=by simp[uS]
    rw[this];exact f.C k n n
  |false=>
   refine⟨c,c,e,(0,c.size),a,?_,b,pf.M f,λ_=>⟨U,Ú _,l,t,Ã<|v d⟩,λq=>absurd s q,Ú _⟩;rw[g];simp[pI,s,d]
 .refine⟨c,c,e,a,a,?_,b,pf.M f,λq=>absurd q s,λ_=>rfl,l⟩;rw[g];simp[pI,s]
end
section
variable{a:Nat->Prop}{l:fh}{V:Nat->Prop}
theorem EE(y:nT P)(B:pv P a X)(hF:tV P X)(C:xe vQ){k:Array Ï}(D:X F)(E:P.funcs[F]?=Â s)(H:s.body=Â wX)(r:gF l)(I:¬l.q) (n:∀b,V b->l.M b) (J:LK V (λj=>V j/\¬l.O j) P.globals.size l.w) (K:∀g,a g->V g) (L:fX (qm V P.globals.size) k k) (N:∀T,Calls P F k (World.tp (lz (λj=>V j/\¬l.O j) l.w) T 0) fun|.returned v,e=>vQ v e/\ko e|_,_=>False) (t:Bool) (o:é) (p:List é): fq P t (λh u=>∃(Y:fy) (e:ß) (v m:Ï),(qm V P.globals.size).r Y/\rH Y (λj=>V j/\¬l.O j) e h.w/\fu Y v m/\vQ v e/\u=G (o.finish m) p/\(∀i j,Y i j->h.M j/\(V j\/l.O j\/l.w.heap.size<=j))/\(∀j,l.O j->h.O j)/\h.d=l.d) l (G (Ă P F k Ğ)<|o::p):=by
 refine(agz (afw y B hF C D E H m_ N (Y:=qm V P.globals.size) U (λg q=>⟨U,K g q⟩) L (ak8 J) (λj q=>r.fA j<|n j q.1) (λi j _ q=>(n j q.1).resolve_left q.2) t o p) l U (λj q=> ?_) (λ_ q=>q) (λj q=>r.fA j<|Ã q) I).fT ?_
 .obtain⟨⟨i,rfl,x⟩,Q⟩:=q;grind
 .rintro h u ⟨O',⟨Y,e,v,m,S,rfl,W,q3,q4,q5⟩,Q,h3,h4,h5,h6,h7,h8,h9,h10,h11,h12⟩;refine⟨Y,e,v,m,S,W,q3,q4,q5,λi j SQ=> ?_,h4,h10⟩;by_cases z:V j/\¬l.O j
  .exact⟨Ç (by rw[h7];exact(n j z.1).resolve_left z.2),Ã z.1⟩
  .have x:=h3 j ⟨⟨i,SQ⟩,z⟩;exact⟨Ã x,Ç<|h6 j x⟩
end
section
variable{l:fh}{V GL:Nat->Prop}
def EF(s:gF l):gF (mB l):=by refine⟨λ_ h=>h.elim,λ_ h=>h.elim,λa c d=>s.N a (c.resolve_left id)<|d.resolve_left id,λb d=>s.fA b<|d.resolve_left id,λa c=>s.I a<|c.resolve_left id,λa c=>⟨λq=>(s.S a c).1<|q.resolve_left id,(s.S a c).2.1,id⟩⟩
structure EG(GL:Nat->Prop)(f:Ķ)(args:Array Ï)(l:fh)(V:Nat->Prop)(kF:Ï->ß->Prop):Prop where
 N:∀b,V b->l.M b
 S:LK V V Ä.globals.size l.w
 I:∀g,GL g->V g
 r:fX (qm V Ä.globals.size) args args
 C:∀T,Calls Ä f args (World.tp (lz V l.w) T 0) fun|.returned v,u'=>kF v u'/\ko u'|_,_=>False
def ak9(m:nT Ä)(n:pv Ä GL X)(hF:tV Ä X)(e:X 51){D:SD}(h:∀i s d W l,i<D.q->nz (D.r Ä) (D.b i) s->D.RD s d W l.w->(∀b,W b->l.M b)->gF l->¬l.q->(∀b,D.d b->l.M b)->D.RC l.w->∃V,EG GL 51 #[d,À<|D.i i] l V λv _=>v=à (D.j i)):EA D:=by
 intro i s d W l o p r t f g x y z B;let⟨V,a⟩:=h i s d W l o p r t f g x y;let⟨G,c,C,E⟩:=hF 51 e;have k:(λj=>V j/\¬(mB l).O j)=V:=by funext j;exact propext ⟨λq=>q.1,λq=>⟨q,id⟩⟩
 refine(EE m n hF (λv u T D h=>h) e C E (EF f) g (λb q=>Ç<|a.N b q) (by rw[k];exact a.S) a.I a.r (by rw[k];exact a.C) Ì z B).fT ?_;rintro H I ⟨Y,J,v,K,_,_,j,u,T,_,_,F⟩;subst u;cases j;exact⟨F,T⟩
theorem ala(P:nT Ä)(Q:pv Ä GL X)(hF:tV Ä X)(B:X 50){D:SD}(Rg:D.γ->Ï->ß->Prop)(hRg:∀s a u T n,Rg s a u->Rg s a (World.tp u T n)) (h:∀k s a W l,k<D.m->nz (D.r Ä) k s->D.RD s a W l.w->(∀b,W b->l.M b)->gF l->¬l.q->(∀b,D.d b->l.M b)->D.RC l.w->∃V,EG GL 50 #[a,À<|D.o<|k+1] l V (λv u=>∃p n c d,v=ñ #[Æ p n c,à<|D.e<|k+1]/\D.h k s d/\Rg d (Æ p n c) u)/\ ∀Y S u w d a C,rH Y S u w->fu Y a C->Rg d a u->(∀i j,Y i j->V j\/l.w.heap.size<=j)->∃e,D.RD d C e w/\∀b,e b->∃i,Y i b):Ez D:=by
 intro k s a W l hk hr qW hW E F hRB hRC cl lX;let⟨V,f,tr⟩:=h k s a W l hk hr qW hW E F hRB hRC;let⟨fn,c,hf,g⟩:=hF 50 B;have G:(λj=>V j/\¬(mB l).O j)=V:=by funext j;exact propext ⟨λq=>q.1,λq=>⟨q,id⟩⟩
 refine(EE P Q hF (λv u T D h=> ?_) B hf g (EF E) F (λb q=>Ç<|f.N b q) (by rw[G];exact f.S) f.I f.r (by rw[G];exact f.C) Ì cl lX).fT ?_
 .grind
 .rintro l' g' ⟨Y,u',v,v',_,q2,q3,⟨p,n,c,d,rfl,H,h3⟩,I,o,_,J⟩;cases q3 with
  |@nR _ cs'' hs mN=>
   let⟨ls⟩:=cs'';match ls,hs with
   |[x,y],_=>
    have r:=mN 0 ft ft;have K:=mN 1 ft ft;simp at r K;cases K;let⟨e,L,N⟩:=tr Y _ u' l'.w d _ x q2 r h3 λi j SQ=>(o i j SQ).2.imp id λz=>z.resolve_left id;cases r with
    |ou=>exact⟨J,Á,n,c,I,d,e,H,L,λb g=>by let⟨i,t⟩:=N b g;exact(o i b t).1⟩
    |kS=>exact⟨J,_,n,c,I,d,e,H,L,λb g=>by let⟨i,t⟩:=N b g;exact(o i b t).1⟩
end
end Go.Proofs.Y.fB
namespace Go.Proofs.Y.Lift
open Go
def EH(a:Nat->Bool):Ĥ->Bool
 |Ũ (Đ cs)=>cs.toList.all yN
 |Ũ (ñ cs)=>cs.toList.all yN
 |x=>xf a x
def n_(a:Nat->Bool)(x:Ĥ):EH a x=xf a x:=by
 cases x with
 |const v=>cases v<;>simp[EH,xf,Oj,ĝ]
 |_=>rfl
def LL(P:ė)(a:Nat->Bool)(b c:Ķ->Bool)(o:å):Bool:=(Dm P b o.op&&o.op.operands.toList.all (EH a))||(OB P c o.op&&o.op.operands.toList.all (EH a))
def LN(a:Nat->Bool)(b c:Ķ->Bool)(o:å):LL P a b c o=Dp P a b c o:=by have:(EH a)=xf a:=funext<|n_ a;simp[LL,Dp,Ou,this,ĝ]
def re(P:ė)(a:Nat->Bool)(b d:Ķ->Bool):Ę->Bool
 |Ρ|ť|.label _|Ŧ _|.goto _=>Ò
 |.seq x y=>re P a b d x&&re P a b d y
 |Ť c x y=>EH a c&&re P a b d x&&re P a b d y
 |İ _ c|.loop c|.scope c=>re P a b d c
 |ä _ c _=>c.toList.all<|LL P a b d
 |.refuse _=>Ò
 |_=>Ì
def zO(a:Nat->Bool)(b d:Ķ->Bool):∀c:Ę,re P a b d c=nX P a b d c
 |Ρ|ť|.label _|Ŧ _|.goto _|.refuse _|.rangeFunc _ _ _ _=>rfl
 |.seq x y=>by simp only[re,nX,zO a b d x,zO a b d y]
 |Ť c x y=>by simp only[re,nX,n_,zO a b d x,zO a b d y]
 |İ _ c|.loop c|.scope c=>by simp only[re,nX,zO a b d c]
 |ä _ x _=>by have:LL P a b d=Dp P a b d:=funext<|LN a b d;simp only[re,nX,this,ĝ]
end Go.Proofs.Y.Lift
namespace Go.Proofs.Y.fB
open Go Go.Conc Go.Proofs.Y.Lift Go.RowKit Go.Conc.Lib Go.ConcR.Gen
open Go.Proofs Go.Proofs.YtgpphkdoanciiabGreatDoor
def o_:List Nat:=[17,21,27,37,38,39,44,50,51,62,63,87,97,98,99,100,101,102,103,104,105,106,107,108,109,110,137,138,139,140,141,142,143,144,145,146,152,153,154,155,156,157,158,159,160,161,162,170,171,172,173,174,175,176,177,178,180,181,182,183,184,185,186,187,188,189,190,191,192,193,194,195]
def xT(g:Nat):Bool:=[1,2,3,4].contains g
def xU(f:Nat):Bool:=o_.contains f
def zP(f:Nat):Bool:=[113,114].contains f
def Ci(P:ė)(f:Nat):Bool:=match P.funcs[f]? with
 |some a=>match a.body with
  |some c=>re P xT xU zP c
  |none=>Ì
 |none=>Ì
def alb:o_.all (Ci Ä)=Ò:=by rfl
def p_(h:xU i=Ò):Ci Ä i=Ò:=(Ň.1 alb) i<|by simpa[xU]using h
def alc(h:Ci P i=Ò):∃a c,P.funcs[i]?=Â a/\a.body=Â c:=by
 unfold Ci at h;split at h
 .rename_i a b;split at h
  .rename_i c d;exact⟨a,c,b,d⟩
  .cases h
 .cases h
def ald(h:Ci P i=Ò)(a:P.funcs[i]?=Â s)(b:s.body=Â wX):re P xT xU zP wX=Ò:=by unfold Ci at h;rw[a]at h;simp only[b]at h;exact h
def q_:tV Ä (λf=>xU f=Ò):=λ_ h=>alc<|p_ h
def ale[AJ P](h:∀f,xU f=Ò->Ci P f=Ò)(a:Gb P zP):pv P (λg=>xT g=Ò) (λf=>xU f=Ò):=λf g e c b d=>by have:=ald (h f g) b d;rw[zO]at this;exact vD a this
instance avj:AJ Ä:=⟨λe n h=>by
 have h1:Ä.cellsOf 298=32:=fv
 have h2:Ä.cellsOf 299=64:=fv
 obtain⟨rfl|rfl,h3⟩:=h
 .rw[h1];omega
 .rw[h2];omega⟩
def alf(a:Gb Ä zP):pv Ä (λg=>xT g=Ò) (λf=>xU f=Ò):=ale (λ_ h=>p_ h) a
def EI:Gb Ä zP:=λf h=>by
 have:f=113\/f=114:=by simpa[zP]using h
 rcases this with rfl|rfl
 .exact⟨_,Extern.AbiNoEscape.same,Tryz.func113,gh,gh,gh,gh,λ_ v a h=>afU v a h,afV⟩
 .exact⟨_,Extern.BytealgMakeNoZero.makeNoZero #[3] #[98],Tryz.func114,gh,gh,gh,gh,λ_ v a h=>afW #[3] 98 v a h,afX #[3] 98⟩
def q':pv Ä (λg=>xT g=Ò) (λf=>xU f=Ò):=alf EI
end Go.Proofs.Y.fB
namespace Go.Proofs.Y.Lift
open Go Go.Conc
section
variable{Y:fy}{b:Ķ->Prop}
def alg{e:Array Ï->Sem Ï}{y:Ĥ}{m:Array ŭ}(d:o.op=Ě {callee:=ĕ<|ķ F,args:=#[qQ,y],argTypes:=m})(q:P.funcs[F]?=Â s)(r:(s.name== "runtime.NumGoroutine")=Ì)(t:s.body.isNone=Ò)(B:Extern.findNext s=Á)(C:Extern.find s=Â e) (D:∀(Y:fy) (v i z j:Ï),fu Y v i->fu Y z j->fK P fu Y (e #[v,z]) (e #[i,j])) (E:∀v z,fI P<|e #[v,z]) (G:∀y∈o.op.operands,mK X y):mU P X b o:=by
 have c:∀a:ŏ,ĉ a.eval o=Ś F #[a.eval qQ,a.eval y]:=by intro a;unfold ĉ;rw[d];simp only[ſ,ĥ,ě,invoke,pure_bind,Array.empty_append,Array.append_empty,List.map_toArray,List.map_cons,List.map_nil]
 have k:∀(v z:Ï) (u:ß),(Ś F #[v,z]).run P u=(mark (.extern F)>>=λ_=>e #[v,z]>>=λy=>pure (Next.value y):Sem Next).run P u:=by intro v z u;unfold Ś;simp_all
 refine Xc (λY a w _ _ _ h=> ?_) (λa=> ?_) (λa u n H g=> ?_) G
 .rw[c,c];have I:=h qQ (by rw[d];simp[ŉ,Call.operands]);have J:=h y (by rw[d];simp[ŉ,Call.operands]);unfold Ś;refine .gB (fJ rv ?_);rintro M p N w ⟨K,L⟩;rw[K,L];simp only[q,r,t,B,C,ĵ,if_false,if_true];apply fJ (V:=jx) (.C8 (Ç ⟨F,U⟩) (.fH U));intro O _ _ l _;exact mT<|D _ _ _ _ _ ((I.fT w).fT l)<|(J.fT w).fT l
 .rw[c];exact Jt (k _ _)<|gA (F1 _) λ_=>lZ<|E _ _
 .rw[c,k,Sem.run_bind]at g;simp only[mark,Sem.run,Result.andThen_ok]at g;have:Sem.run P (e #[a.eval qQ,a.eval y]>>=λy=>pure (Next.value y):Sem Next) u=.ok n H:=g;rw[Sem.run_bind]at this;cases h:(e #[a.eval qQ,a.eval y]).run P u with
  |ok v w=>rw[h]at this;cases this;exact⟨v,U⟩
  |halt z w=>rw[h]at this;cases this
def r_:∀(n:Nat) {Y:fy} {a b:â} (c:ByteArray),ic Y a b->fK P jx Y (ò a n c) (ò b n c)
 |0,_,_,_,_,_=> .fH U
 |n+1,Y,a,b,c,h=>by
  unfold ò;refine fJ (Jj h) ?_;intro f v g d e;cases e<;>first|exact .fU|skip
  rename_i k z;cases k<;>first|exact .fU|skip
  exact r_ n _<|(h.r d).C 1
theorem t_:∀(n:Nat) (a:â) (b:ByteArray),fI P<|ò a n b
 |0,_,_=>gJ _
 |n+1,a,b=>by
  unfold ò;refine gA (F2 _ _) λv=> ?_;split
  .exact t_ n _ _
  .exact jh _
def alh(h:fu Y v x):fK P jx Y (ú v) (ú x):=by
 cases h<;>first|exact .fU|exact .fH U|skip
 exact r_ _ _<|by assumption
theorem ali(v:Ï):fI P (ú v):=by unfold ú;grind [gJ,t_,jh]
def alj(h:fu Y v x):fK P jx Y (ü v) (ü x):=by
 cases h<;>first|exact .fU|skip
 rename_i k z;cases k<;>first|exact .fU|exact .fH U
theorem alk(v:Ï):fI P (ü v):=by unfold ü;grind [gJ,jh]
def alm(v a z b:Ï)(h:fu Y v a)(k:fu Y z b):fK P fu Y (ó #[v,z]) (ó #[a,b]):=by
 apply fJ (alh h);rintro j s d e f;obtain rfl:s=d:=f;apply fJ (alj<|k.fT e);rintro l c g m i;obtain rfl:c=g:=i;split
 .exact .fH (.iH _ _)
 .exact .fH (.iH _ _)
theorem aln(v z:Ï):fI P (ó #[v,z]):=by refine gA (ali v) λs=>gA (alk z) λc=> ?_;grind [gJ]
end
end Go.Proofs.Y.Lift
namespace Go.Proofs.Y.fB
open Go Go.Conc Go.Proofs.Y.Lift
open Go.Proofs Go.Proofs.YtgpphkdoanciiabGreatDoor
def SR:List Nat:=[9,40,7,6,17,27,44,21,37,38,39,62,63,19,28,45,78,79,80,81,82,83,84,85,86,87,88,129,130,131,132,133]
def EJ(f:Nat):Bool:=SR.contains f||f==151
def LO(_:Nat):Bool:=Ì
def LP(P:ė)(f:Nat):Bool:=match P.funcs[f]? with
 |some a=>match a.body with
  |some c=>re P LO EJ zP c
  |none=>Ì
 |none=>Ì
def alo:SR.all (LP Ä)=Ò:=by rfl
def u_(h:SR.contains i=Ò):LP Ä i=Ò:=(Ň.1 alo) i<|by simpa using h
theorem w_(h:LP P i=Ò):∃a c,P.funcs[i]?=Â a/\a.body=Â c/\re P LO EJ zP c=Ò:=by unfold LP at h;grind
def zR:tV Ä (λf=>EJ f=Ò):=λf h=>by
 rcases ī.1 h with q|q
 .let⟨a,c,b,d,_⟩:=w_<|u_ q;exact⟨a,c,b,d⟩
 .rw[beq_iff_eq]at q;subst q;exact⟨_,_,Ŭ,U⟩
def alp(h:Ε.body=Â wX):kU Ä (λg=>LO g=Ò) (λf=>EJ f=Ò) wX:=by
 unfold Ε at h;cases h;refine .rE (vD EI<|by rw[<-zO];rfl) (.rE (.tU _ _ λo f=> ?_) .vy);simp only[List.mem_toArray,List.mem_cons,List.not_mem_nil,or_false]at f;rcases f with rfl|rfl|rfl|rfl
 .exact JV EI<|by rw[<-LN];rfl
 .exact JV EI<|by rw[<-LN];rfl
 .exact alg U Tryz.func169 gh gh gh gh (λ_ v g z o=>alm v g z o) aln λy g=>JN (by simp[ŉ,Call.operands]at g;rcases g with rfl|rfl|rfl<;>rfl)
 .exact JV EI<|by rw[<-LN];rfl
def LQ:pv Ä (λg=>LO g=Ò) (λf=>EJ f=Ò):=λf h i c g a=>by
 rcases ī.1 h with q|q
 .let⟨j,k,b,d,e⟩:=w_<|u_ q;rw[g]at b;cases b;rw[a]at d;cases d;rw[zO]at e;exact vD EI e
 .rw[beq_iff_eq]at q;subst q;rw[Ŭ]at g;cases g;exact alp a
end Go.Proofs.Y.fB
