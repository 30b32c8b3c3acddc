import Derived.Test.YtgpphkdoanciiaaGreatDoorWAB
import Derived.Conc.AppendWalk
import Derived.Conc.TokenWalk
set_option linter.all false
set_option maxRecDepth 1000000
set_option maxHeartbeats 8000000
open Go.Value renaming pointer->À,slice->Æ,int->Ê,oneCell'->Ø,string->à,chan->è,tuple->ñ,func->Ĉ,agg->Đ,bool->ŝ,cells->Ŵ
open Option renaming none->Á,some->Â,isSome_iff_exists->Ô,map_eq_some_iff->ġ,isSome_none->ı,getD_some->Ń
open Or renaming inl->Ã,inr->Ç
open Go.Proofs.Tryz renaming prog->Ä,t155->Ą,f46->Ĝ,t9->Ġ,func47->Ħ,underlying101->Ĵ,type155->ļ,underlying85->Ľ,underlying25->ľ,f52->Ŗ,func167->Ŭ,func63->Ů,func48->ů,func49->Ű,func50->ű,func51->Ų,func46->ų,func52->ŵ,t101->Δ,f167->Ζ,f49->Ι,f63->Κ,f47->Μ
open Go renaming undef->Å,Value->Ï,Goroutine->Ý,World->ß,events_store->á,Addr->â,Oper->å,getD_set_ne->ç,Frame->é,execOp->ĉ,Program->ė,Code->Ę,Operand->Ĥ,deafBehind->į,FuncId->ķ,Act->ŏ,maxLen->œ,size_madeCells->ř,callFunc->Ś,yielded->ţ,TypeId->ŭ,runNT->Ŷ,Item->ŷ,Obj->Ÿ,Trace->ż,TypeInfo->Ž,Event->ž,resolve->ſ,Loc->Ν
open Nat renaming lt_of_lt_of_le->È,le_trans->Õ,le_refl->Ú,add_sub_cancel->ø,zero_le->ă,zero_add->č,mod_lt->ĵ,lt_succ_of_lt->Ĺ,le_of_lt->Ł,reduceAdd->ś,sub_zero->ũ,sub_self->Ū
open Go.Obj renaming cells->É,chan->ŕ
open Go.Conc.Goes renaming stop->Ë
open Bool renaming false->Ì,true->Ò,or_eq_true_iff->ī,false_eq_true->Ķ
open Go.Ground renaming phase->Í,data->Ü,textOnly->Þ,gcOnly->õ,chain->Ţ
open Go.IntKind renaming i64->Î,u64->ê,u32->Ď,wrap_i64->Γ
open Go.Departure renaming lateStores->Ð
open Go.Item renaming inRegion->Ñ,inBlock->ô,code->ö,inLoop->ą
open Option.some renaming inj->Ó
open Go.World renaming cell?->Ö,frozen?->î,setCell->þ,alloc->ň
open Go.Operand renaming tmp->Ù,func->ĸ,const->Ũ
open Go.Region renaming ready->Û,Mode->ý,wanted->Ė
open List renaming range->ã,range_succ->ÿ,mem_filter->Ā,filter_append->ā,flatMap_cons->Ć,mem_range->Ē,setIfInBounds_toArray->ē,getElem?_eq_some_iff->Ĕ,length_filter_le->ģ,mem_of_getElem?->ħ,getElem?_of_mem->Ĩ,set_cons_succ->Ĳ,set_cons_zero->ĳ,size_toArray->Ļ,length_cons->ń,nodup_range->ņ,all_eq_true->Ň,length_nil->ŋ
open Go.Code renaming region->ä,block->İ,cond->Ť,skip->ť,exit->Ŧ,ret->Ρ
open Array renaming getElem?_eq_some_iff->æ,getElem?_eq_getElem->ì,getElem?_modify->í,getD_eq_getD_getElem?->ď,all_toList->ĝ
open Go.Region.linearise renaming go->ë
open Go.MemAct renaming ofEvent->ï
open Go.Op renaming fieldAddr->ð,load->ć,move->ę,call->Ě,nilCheck->ĩ,operands->ŉ,extract->Ő,indexAddr->ő,makeFunc->Ş,store->š,assign->ŧ,binOp->Λ
open Go.Extern.Bytes renaming loadBytes->ò,bytesOf->ú,asByte->ü
open Go.Extern.BytealgIndexByte renaming indexByte->ó
open Go.Fn renaming func->ù
open Go.Loc renaming cell->û
open Go.Frame renaming enter->Ă,finish_at->Ģ
open Go.Instr renaming build->Ċ,makeSlice->Ŏ
open Go.GoStatus renaming running->ċ,finished->ş
open Go.Conc renaming mem_ofEvents->Č,mem_listed->đ,seen_none->Ī,crowd->Ĭ,stepG_region->ĺ,events_call_body->ł,deafBehind_still->Ņ,listed->ŗ,handedOver_app->Ř,stepG_seq->Ŝ,stepG_comm->Ż
open Go.Callee renaming value->ĕ,builtin->Ŕ
open Go.Deferred renaming ofValue->ě
open Go.CallKind renaming normal->Ğ,early->Ź
open Go.Addr renaming add_lit->ğ
open Go.Act renaming eval->ĥ,put->Ο
open Eq renaming trans->Ŀ
variable{i n j b k m J j9 j7 j6:Nat}{w u W jX:ß}{v x z jQ:Ï}{g:Ý}{a p:â}{h c:Int}{e t T:ŭ}{d q:Array Ï}{P:ė}{y:ŏ}{B:ByteArray}{X:Nat->Prop}{O:Option â}{l:List Ï}{yQ:Bool}{K H:ŏ->ß->Prop}{o:å}{D:Nat->Nat}{E:Array Ý}{L:List ŷ}{jJ:List Nat}{qX:List é}{qQ:Ĥ}{qJ:ż}{zX:Ν->Prop}{zQ:List Int}{zJ:Ž}{xX:Ĥ->Ï}{xQ:Go.Tape}{xJ:Nat×Nat}{wX:Ę}{wQ:Go.MemOp}{wJ:Array Bool}{vX:List ByteArray}{vQ:Ï->ß->Prop}{vJ:Go.Exit->ŏ->ß->Prop}{yX:ý}{Q:Array å}{f:é}{V:Array ž}{F:ķ}{s:Go.Func}
namespace Go.Proofs.Y.fv
open Go Go.Conc Go.Proofs.Y.Lift Go.RowKit Go.Conc.Lib Go.ConcR.Gen
open Go.Proofs Go.Proofs.YtgpphkdoanciiaaGreatDoor
def Hb:å:=⟨Â 13,ð 155 (Ù 5) 3,0, "work.go:57",#[],Á⟩
def Ec:å:=⟨Â 14,ć 86<|Ù 13,86, "work.go:57",#[⟨0,Ü⟩],Á⟩
def Hc:å:=⟨Â 15,ę<|Ù 1,25, "work.go:57",#[{on:=18,ground:=õ Ð}],Á⟩
def Hd:å:=⟨Â 16,ð 155 (Ù 5) 1,0, "work.go:57",#[{on:=18,ground:=õ Ð}],Á⟩
def Ed:å:=⟨Â 17,ć 3<|Ù 16,3, "work.go:57",#[⟨3,Ü⟩,{on:=18,ground:=õ Ð}],Á⟩
def He:å:=⟨Â 18,ð 155 (Ù 5) 2,0, "work.go:57",#[],Á⟩
def Ee:å:=⟨Â 19,ć 86<|Ù 18,86, "work.go:57",#[⟨5,Ü⟩],Á⟩
def Ef:å:=⟨Â 20,ĩ<|Ù 19,0, "work.go:57",#[⟨6,Ü⟩],Á⟩
def Eg:å:=⟨Â 21,ð 105 (Ù 20) 1,0, "work.go:57",#[⟨7,Ü⟩],Á⟩
def Eh:å:=⟨Â 22,ć 65<|Ù 21,65, "work.go:57",#[⟨8,Ü⟩],Á⟩
def Hf:å:=⟨Â 23,ð 155 (Ù 5) 0,0, "work.go:57",#[],Á⟩
def Ei:å:=⟨Â 24,ć 148<|Ù 23,148, "work.go:57",#[⟨10,Ü⟩],Á⟩
def BG:å:=⟨Â 25,Ě {callee:=ĕ<|ĸ 66,args:=#[Ù 22,Ù 24],argTypes:=#[65,148]},163, "work.go:57",#[⟨9,Ü⟩,⟨11,Ü⟩],Á⟩
def vV:å:=⟨Â 12,ę<|Ù 25,163, "work.go:57",#[⟨12,Ü⟩],Á⟩
def BH:å:=⟨Â 26,Ő (Ù 12) 0,65, "work.go:57",#[⟨13,Ü⟩],Á⟩
def BJ:å:=⟨Â 27,Ő (Ù 12) 1,9, "work.go:57",#[⟨13,Ü⟩,{on:=18,ground:=õ Ð}],Á⟩
def Ej:å:=⟨Â 28,ĩ<|Ù 14,0, "work.go:57",#[⟨1,Ü⟩,⟨0,Í⟩,⟨1,Í⟩,{on:=2,ground:=Þ Ð},{on:=3,ground:=Þ Ð},{on:=4,ground:=Þ Ð},⟨5,Í⟩,⟨6,Í⟩,⟨7,Í⟩,⟨8,Í⟩,⟨9,Í⟩,⟨10,Í⟩,⟨11,Í⟩,⟨12,Í⟩,⟨13,Í⟩,⟨14,Í⟩,{on:=15,ground:=Þ Ð}],Á⟩
def Ek:å:=⟨Â 29,ð 105 (Ù 28) 1,0, "work.go:57",#[⟨16,Ü⟩,⟨0,Í⟩,⟨1,Í⟩,{on:=2,ground:=Þ Ð},{on:=3,ground:=Þ Ð},{on:=4,ground:=Þ Ð},⟨5,Í⟩,⟨6,Í⟩,⟨7,Í⟩,⟨8,Í⟩,⟨9,Í⟩,⟨10,Í⟩,⟨11,Í⟩,⟨12,Í⟩,⟨13,Í⟩,⟨14,Í⟩,{on:=15,ground:=Þ Ð}],Á⟩
def BK:å:=⟨Á,š 65 (Ù 29)<|Ù 26,0, "work.go:57",#[⟨17,Ü⟩,⟨14,Ü⟩,⟨12,Ţ⟩,⟨0,Í⟩,⟨1,Í⟩,{on:=2,ground:=Þ Ð},{on:=3,ground:=Þ Ð},{on:=4,ground:=Þ Ð},⟨5,Í⟩,⟨6,Í⟩,⟨7,Í⟩,⟨8,Í⟩,⟨9,Í⟩,⟨10,Í⟩,⟨11,Í⟩,⟨12,Í⟩,⟨13,Í⟩,⟨14,Í⟩,{on:=15,ground:=Þ Ð}],Á⟩
def BL:å:=⟨Â 30,ő 25 (Ù 15)<|Ù 17,0, "work.go:57",#[⟨2,Ü⟩,⟨4,Ü⟩,⟨0,Í⟩,⟨1,Í⟩,⟨2,Í⟩,⟨3,Í⟩,⟨4,Í⟩,⟨5,Í⟩,⟨6,Í⟩,⟨7,Í⟩,⟨8,Í⟩,⟨9,Í⟩,⟨10,Í⟩,⟨11,Í⟩,⟨12,Í⟩,⟨13,Í⟩,⟨14,Í⟩,⟨15,Í⟩,⟨16,Í⟩,⟨17,Í⟩,⟨18,Í⟩],Á⟩
def BM:å:=⟨Á,š 9 (Ù 30)<|Ù 27,0, "work.go:57",#[⟨19,Ü⟩,⟨15,Ü⟩,⟨18,Ţ⟩,⟨0,Í⟩,⟨1,Í⟩,⟨2,Í⟩,⟨3,Í⟩,⟨4,Í⟩,⟨5,Í⟩,⟨6,Í⟩,⟨7,Í⟩,⟨8,Í⟩,⟨9,Í⟩,⟨10,Í⟩,⟨11,Í⟩,⟨12,Í⟩,⟨13,Í⟩,⟨14,Í⟩,⟨15,Í⟩,⟨16,Í⟩,⟨17,Í⟩,⟨18,Í⟩],Á⟩
def zF:Array å:=#[Hb,Ec,Hc,Hd,Ed,He,Ee,Ef,Eg,Eh,Hf,Ei,BG,vV,BH,BJ,Ej,Ek,BK,BL,BM]
def mZ(tb a b c N d:Nat)(e f:Ï)(x:(Option Addr×Nat×Nat)×ByteArray):Nat->Ï
 |0=>À<|Â ⟨tb,3,Á⟩
 |1=>À<|Â ⟨b,0,Á⟩
 |2=>Æ (Â ⟨c,0,Á⟩) N N
 |3=>À<|Â ⟨tb,1,Á⟩
 |4=>Ê Î d
 |5=>À<|Â ⟨tb,2,Á⟩
 |6=>À<|Â ⟨a,0,Á⟩
 |7=>À<|Â ⟨a,0,Á⟩
 |8=>À<|Â ⟨a,2,Á⟩
 |9=>f
 |10=>À<|Â ⟨tb,0,Á⟩
 |11=>e
 |12=>ñ #[Æ x.1.1 x.1.2.1 x.1.2.2,à x.2]
 |13=>ñ #[Æ x.1.1 x.1.2.1 x.1.2.2,à x.2]
 |14=>Æ x.1.1 x.1.2.1 x.1.2.2
 |15=>à x.2
 |16=>À<|Â ⟨b,0,Á⟩
 |17=>À<|Â ⟨b,2,Á⟩
 |19=>À<|Â ⟨c,d,Á⟩
 |_=>Å
structure El(iq:fc)(ga gb an pl:Nat)(s9:Ï)(Q:Ï->ByteArray->fc->Prop)(listed:Array Bool)(x:(Option Addr×Nat×Nat)×ByteArray)(l:fc):Prop where
 r:iH (λa=>a=⟨gb,2,Á⟩\/a=⟨an,pl,Á⟩) iq l
 vW:listed.getD 12 Ì=Ò->∃y,Q (Æ x.1.1 x.1.2.1 x.1.2.2) x.2 y/\(∀b,y.M b->l.M b/\l.w.heap[b]?=y.w.heap[b]?)
 I:listed.getD 18 Ì=Ò->l.w.cell? ⟨gb,2,Á⟩=Â (Æ x.1.1 x.1.2.1 x.1.2.2)
 N:listed.getD 20 Ì=Ò->l.w.cell? ⟨an,pl,Á⟩=Â (à x.2)
def El.C{d l:fc}{Q:Ï->ByteArray->fc->Prop}{listed:Array Bool}{x:(Option Addr×Nat×Nat)×ByteArray}(h:El d n j b k v Q listed x l)(o:i≠12)(p:i≠18)(s:i≠20)(e:d.r ⟨j,2,Á⟩/\d.r ⟨b,k,Á⟩)(m:ß)(r:fG l l.w m):El d n j b k v Q (listed.setIfInBounds i Ò) x {l with w:=m}:=by
 have t:∀a,(a=⟨j,2,Á⟩\/a=⟨b,k,Á⟩)->d.r a:=λa u=>by rcases u with rfl|rfl;exact e.1;exact e.2
 refine⟨h.r.N t r,λq=> ?_,λq=> ?_,λq=> ?_⟩
 .rw[ç Ì o]at q;let⟨y,z,f⟩:=h.vW q;exact⟨y,z,λc g=>⟨(f c g).1,(r.I c (f c g).1).trans (f c g).2⟩⟩
 .rw[ç Ì p]at q;exact(r.N _<|by rw[h.r.C];exact Ã e.1).trans<|h.I q
 .rw[ç Ì s]at q;exact(r.N _<|by rw[h.r.C];exact Ã e.2).trans<|h.N q
section
variable{J:Jd}{iq:fc}{ga gb an pl:Nat}{s9:Ï}{Q:Ï->ByteArray->fc->Prop}
def aju(S:gA iq)(hq:¬iq.q)(ht:d.size=37)(uQ:d[1]?=Â (Æ (Â ⟨an,0,Á⟩) i i))(RU:d[5]?=Â (À<|Â ⟨n,0,Á⟩))(hO:iq.O n) (X:iq.w.cell? ⟨n,0,Á⟩=Â v) (Y:iq.w.cell? ⟨n,1,Á⟩=Â (Ê Î pl)) (c2:iq.w.cell? ⟨n,2,Á⟩=Â (À<|Â ⟨ga,0,Á⟩)) (c3:iq.w.cell? ⟨n,3,Á⟩=Â (À<|Â ⟨gb,0,Á⟩)) (uR:iq.N ⟨ga,2,Á⟩) (qd:iq.w.cell? ⟨ga,2,Á⟩=Â s9) (F:iq.r ⟨gb,2,Á⟩) (H:iq.r ⟨an,pl,Á⟩) (e1:(iq.w.cell? ⟨gb,2,Á⟩).isSome=Ò) (e2:(iq.w.cell? ⟨an,pl,Á⟩).isSome=Ò) (z1:iq.w.frozen? ⟨gb,2,Á⟩=Ì) (z2:iq.w.frozen? ⟨an,pl,Á⟩=Ì) (rL:pl<i) (hN:i<1000000) (lz:(⟨gb,2,Á⟩:â)≠⟨an,pl,Á⟩) (uz:∀l,iH (λa=>a=⟨gb,2,Á⟩\/a=⟨an,pl,Á⟩) iq l->∀I lX,fi Ä Ì (λl' g'=>l'.d=l.d/\∃p g c str,g'=G (I.finish<|ñ #[Æ p g c,à str]) lX/\Q (Æ p g c) str l') (mq l)<|G (Ă Ä 66 #[s9,v] Ğ)<|I::lX) (md:ý) (listed:Array Bool) (a:ŏ) (l:fc) (k:Nat) (rest:List Nat) (hI:II zF d (mZ n ga gb an i pl v s9) (El iq ga gb an pl s9 Q) listed a l) (D:k∈Û md zF listed): fi Ä Ì (λl' g'=>∃u,g'=G ((base 49).at u<|Ñ zF rest::L) qX/\II zF d (mZ n ga gb an i pl v s9) (El iq ga gb an pl s9 Q) (listed.setIfInBounds k Ò) u l') l (G ((base 49).at a<|Ñ zF (k::rest)::L) qX):=by
 let⟨x,s,B⟩:=hI;have K:qY zF d.size=Ò:=by rw[ht];decide
 have V:=RO D;have gT:=zE D;have M:=B.r.fx;have N:¬l.q:=by rwa[B.r.q]
 have W:∀y:â,(y=⟨gb,2,Á⟩\/y=⟨an,pl,Á⟩)->iq.r y:=λy ha=>by rcases ha with rfl|rfl;exact F;exact H
 have nI:a.tmps[1]?=Â (Æ (Â ⟨an,0,Á⟩) i i):=(s.C A).trans uQ;have rW:a.tmps[5]?=Â (À<|Â ⟨n,0,Á⟩):=(s.C A).trans RU;have I:∀j m,iq.w.cell? ⟨n,j,Á⟩=Â m->gX l ⟨n,j,Á⟩/\l.w.cell? ⟨n,j,Á⟩=Â m:=λj m h=>⟨Ã<|Ã<|B.r.O n hO,by rwa[gN<|B.r.r n<|Ã hO]⟩;have RV:¬((⟨ga,2,Á⟩:â)=⟨gb,2,Á⟩\/(⟨ga,2,Á⟩:â)=⟨an,pl,Á⟩):=λq=>by
  rcases q with q|q
  .exact S.Y _ F<|q▸uR
  .exact S.Y _ H<|q▸uR
 have Hg:gX l ⟨ga,2,Á⟩/\l.w.cell? ⟨ga,2,Á⟩=Â s9:=⟨Ç (Ç<|by rwa[B.r.c]),by rwa[B.r.e _ (Ç uR) RV]⟩;have RY:(pl:Int)<(i:Int):=Z
 have ku:zF.size=21:=A
 rw[ku]at gT;match k,gT with
 |0,_=>
  refine im (o:=Hb) K s U U D (by k_ne) M N (λt r=> ?_) (λt r e E=> ?_)<|B.C A A A ⟨F,H⟩
  .simp only[mZ,Hb];go_simp
  .simp[go_sem,Hb,rW]at E
 |1,_=>
  have u:a.tmps[13]?=Â (À<|Â ⟨n,3,Á⟩):=s.r 0 Hb 13 U (ig (o:=Ec) D U U) U;refine im (o:=Ec) K s U U D (by k_ne) M N (λt r=> ?_) (λt r e E=> ?_)<|B.C A A A ⟨F,H⟩
  .have J:t.cell? ⟨n,3,Á⟩=Â (À<|Â ⟨gb,0,Á⟩):=((I 3 _ c3).1.r r).trans (I 3 _ c3).2;simp only[mZ,Ec];go_simp
  .have J:t.cell? ⟨n,3,Á⟩=Â (À<|Â ⟨gb,0,Á⟩):=((I 3 _ c3).1.r r).trans (I 3 _ c3).2;have b:e=⟨û ⟨n,3,Á⟩,Ì,Ì⟩:=by simp[go_sem,Ec,J,u]at E;exact E
   subst b;exact(I 3 _ c3).1.rd
 |2,_=>
  refine im (o:=Hc) K s U U D (by k_ne) M N (λt r=> ?_) (λt r e E=> ?_)<|B.C A A A ⟨F,H⟩
  .simp only[mZ,Hc];go_simp
  .simp[go_sem,Hc,nI]at E
 |3,_=>
  refine im (o:=Hd) K s U U D (by k_ne) M N (λt r=> ?_) (λt r e E=> ?_)<|B.C A A A ⟨F,H⟩
  .simp only[mZ,Hd];go_simp
  .simp[go_sem,Hd,rW]at E
 |4,_=>
  have u:a.tmps[16]?=Â (À<|Â ⟨n,1,Á⟩):=s.r 3 Hd 16 U (ig (o:=Ed) D U U) U;refine im (o:=Ed) K s U U D (by k_ne) M N (λt r=> ?_) (λt r e E=> ?_)<|B.C A A A ⟨F,H⟩
  .have J:t.cell? ⟨n,1,Á⟩=Â (Ê Î pl):=((I 1 _ Y).1.r r).trans (I 1 _ Y).2;simp only[mZ,Ed];go_simp
  .have J:t.cell? ⟨n,1,Á⟩=Â (Ê Î pl):=((I 1 _ Y).1.r r).trans (I 1 _ Y).2;have b:e=⟨û ⟨n,1,Á⟩,Ì,Ì⟩:=by simp[go_sem,Ed,J,u]at E;exact E
   subst b;exact(I 1 _ Y).1.rd
 |5,_=>
  refine im (o:=He) K s U U D (by k_ne) M N (λt r=> ?_) (λt r e E=> ?_)<|B.C A A A ⟨F,H⟩
  .simp only[mZ,He];go_simp
  .simp[go_sem,He,rW]at E
 |6,_=>
  have u:a.tmps[18]?=Â (À<|Â ⟨n,2,Á⟩):=s.r 5 He 18 U (ig (o:=Ee) D U U) U;refine im (o:=Ee) K s U U D (by k_ne) M N (λt r=> ?_) (λt r e E=> ?_)<|B.C A A A ⟨F,H⟩
  .have J:t.cell? ⟨n,2,Á⟩=Â (À<|Â ⟨ga,0,Á⟩):=((I 2 _ c2).1.r r).trans (I 2 _ c2).2;simp only[mZ,Ee];go_simp
  .have J:t.cell? ⟨n,2,Á⟩=Â (À<|Â ⟨ga,0,Á⟩):=((I 2 _ c2).1.r r).trans (I 2 _ c2).2;have b:e=⟨û ⟨n,2,Á⟩,Ì,Ì⟩:=by simp[go_sem,Ee,J,u]at E;exact E
   subst b;exact(I 2 _ c2).1.rd
 |7,_=>
  have u:a.tmps[19]?=Â (À<|Â ⟨ga,0,Á⟩):=s.r 6 Ee 19 U (ig (o:=Ef) D U U) U;refine im (o:=Ef) K s U U D (by k_ne) M N (λt r=> ?_) (λt r e E=> ?_)<|B.C A A A ⟨F,H⟩
  .simp only[mZ,Ef];go_simp
  .simp[go_sem,Ef,u]at E
 |8,_=>
  have u:a.tmps[20]?=Â (À<|Â ⟨ga,0,Á⟩):=s.r 7 Ef 20 U (ig (o:=Eg) D U U) U;refine im (o:=Eg) K s U U D (by k_ne) M N (λt r=> ?_) (λt r e E=> ?_)<|B.C A A A ⟨F,H⟩
  .simp only[mZ,Eg];go_simp
  .simp[go_sem,Eg,u]at E
 |9,_=>
  have u:a.tmps[21]?=Â (À<|Â ⟨ga,2,Á⟩):=s.r 8 Eg 21 U (ig (o:=Eh) D U U) U;refine im (o:=Eh) K s U U D (by k_ne) M N (λt r=> ?_) (λt r e E=> ?_)<|B.C A A A ⟨F,H⟩
  .have J:t.cell? ⟨ga,2,Á⟩=Â (s9):=(Hg.1.r r).trans Hg.2;simp only[mZ,Eh];go_simp
  .have J:t.cell? ⟨ga,2,Á⟩=Â (s9):=(Hg.1.r r).trans Hg.2;have b:e=⟨û ⟨ga,2,Á⟩,Ì,Ì⟩:=by simp[go_sem,Eh,J,u]at E;exact E
   subst b;exact Hg.1.rd
 |10,_=>
  refine im (o:=Hf) K s U U D (by k_ne) M N (λt r=> ?_) (λt r e E=> ?_)<|B.C A A A ⟨F,H⟩
  .simp only[mZ,Hf];go_simp
  .simp[go_sem,Hf,rW]at E
 |11,_=>
  have u:a.tmps[23]?=Â (À<|Â ⟨n,0,Á⟩):=s.r 10 Hf 23 U (ig (o:=Ei) D U U) U;refine im (o:=Ei) K s U U D (by k_ne) M N (λt r=> ?_) (λt r e E=> ?_)<|B.C A A A ⟨F,H⟩
  .have J:t.cell? ⟨n,0,Á⟩=Â (v):=((I 0 _ X).1.r r).trans (I 0 _ X).2;simp only[mZ,Ei];go_simp
  .have J:t.cell? ⟨n,0,Á⟩=Â (v):=((I 0 _ X).1.r r).trans (I 0 _ X).2;have b:e=⟨û ⟨n,0,Á⟩,Ì,Ì⟩:=by simp[go_sem,Ei,J,u]at E;exact E
   subst b;exact(I 0 _ X).1.rd
 |12,_=>
  have Hh:a.tmps[22]?=Â (s9):=s.r 9 Eh 22 U (ig (o:=BG) D U U) U;have K6:a.tmps[24]?=Â (v):=s.r 11 Ei 24 U (ig (o:=BG) D U U) U;refine Zn (o:=BG) K s U U D (by k_ne) M (f:=66) (args:=#[s9,v]) (λw=>by simp only[BG];go_simp) (λw=>ł (o:=BG) U Tryz.func66 U U #[]) λt r=> ?_;have T:=B.r.N W r;refine((uz _ T _ _).mq<|T.G S).fR ?_;rintro l' g' ⟨y,⟨hy0,p,g,c,str,rfl,hQ⟩,rfl,hA,Zq,ajv,ajw⟩;refine⟨((p,g,c),str),U,⟨T.RP W hA hy0,λ_=>⟨y,hQ,λb P=>⟨?_,U⟩⟩,λq=> ?_,λq=> ?_⟩,λj u=> ?_⟩
  .rcases P with q|q
   .exact Ã<|Ã q
   .rw[Zq]at q;exact q.elim (λz=>Ã<|Ç z) Ç
  .rw[ç Ì A]at q;exact absurd (s.I (o:=BK) U q U)<|xF V
  .rw[ç Ì A]at q;exact absurd (s.I (o:=BM) U q U)<|xF V
  .match j,u with
   |12,u=>exact absurd u<|xF V
   |13,u=>exact absurd (s.I (o:=vV) U u U)<|xF V
   |14,u=>exact absurd (s.I (o:=vV) U (s.I (j:=13) (o:=BH) U u U) U)<|xF V
   |15,u=>exact absurd (s.I (o:=vV) U (s.I (j:=13) (o:=BJ) U u U) U)<|xF V
   |0,_|1,_|2,_|3,_|4,_|5,_|6,_|7,_|8,_|9,_|10,_|11,_|16,_|17,_|18,_|19,_|20,_|g+21,_=>rfl
 |13,_=>
  have u:a.tmps[25]?=Â (ñ #[Æ x.1.1 x.1.2.1 x.1.2.2,à x.2]):=s.r 12 BG 25 U (ig (o:=vV) D U U) U;refine im (o:=vV) K s U U D (by k_ne) M N (λt r=> ?_) (λt r e E=> ?_)<|B.C A A A ⟨F,H⟩
  .simp only[mZ,vV];go_simp
  .simp[go_sem,vV,u]at E
 |14,_=>
  have u:a.tmps[12]?=Â (ñ #[Æ x.1.1 x.1.2.1 x.1.2.2,à x.2]):=s.r 13 vV 12 U (ig (o:=BH) D U U) U;refine im (o:=BH) K s U U D (by k_ne) M N (λt r=> ?_) (λt r e E=> ?_)<|B.C A A A ⟨F,H⟩
  .simp only[mZ,BH];go_simp
  .simp[go_sem,BH,u]at E
 |15,_=>
  have u:a.tmps[12]?=Â (ñ #[Æ x.1.1 x.1.2.1 x.1.2.2,à x.2]):=s.r 13 vV 12 U (ig (o:=BJ) D U U) U;refine im (o:=BJ) K s U U D (by k_ne) M N (λt r=> ?_) (λt r e E=> ?_)<|B.C A A A ⟨F,H⟩
  .simp only[mZ,BJ];go_simp
  .simp[go_sem,BJ,u]at E
 |16,_=>
  have u:a.tmps[14]?=Â (À<|Â ⟨gb,0,Á⟩):=s.r 1 Ec 14 U (ig (o:=Ej) D U U) U;refine im (o:=Ej) K s U U D (by k_ne) M N (λt r=> ?_) (λt r e E=> ?_)<|B.C A A A ⟨F,H⟩
  .simp only[mZ,Ej];go_simp
  .simp[go_sem,Ej,u]at E
 |17,_=>
  have u:a.tmps[28]?=Â (À<|Â ⟨gb,0,Á⟩):=s.r 16 Ej 28 U (ig (o:=Ek) D U U) U;refine im (o:=Ek) K s U U D (by k_ne) M N (λt r=> ?_) (λt r e E=> ?_)<|B.C A A A ⟨F,H⟩
  .simp only[mZ,Ek];go_simp
  .simp[go_sem,Ek,u]at E
 |18,_=>
  have h29:a.tmps[29]?=Â (À<|Â ⟨gb,2,Á⟩):=s.r 17 Ek 29 U (ig (o:=BK) D U U) U;have h26:a.tmps[26]?=Â (Æ x.1.1 x.1.2.1 x.1.2.2):=s.r 14 BH 26 U (ig (o:=BK) D U U) U;have T:(l.w.cell? ⟨gb,2,Á⟩).isSome=Ò:=B.r.g _ (Ã U) e1;have BN:l.w.frozen? ⟨gb,2,Á⟩=Ì:=(B.r.S _<|Ã F).trans z1;have lM:qo l ⟨gb,2,Á⟩:=Ç (by rwa[B.r.I]);refine RR (o:=BK) (y:=⟨gb,2,Á⟩) (v:=Æ x.1.1 x.1.2.1 x.1.2.2) K s U U U D (by k_ne) M N U lM T BN (λw J hz=> ?_) (λw J hz=> ?_) λt r=> ?_
  .let⟨u,hu⟩:=Ô.1 J;simp only[BK];go_simp
  .let⟨u,hu⟩:=Ô.1 J;simp[go_sem,BK,h29,h26,á _ _ _ _ _ _ (show Ø (Æ x.1.1 x.1.2.1 x.1.2.2)=Ò from rfl),hu,hz]
  .have hA:=B.r.qN S W (x:=⟨gb,2,Á⟩) (v:=Æ x.1.1 x.1.2.1 x.1.2.2) (Ã U) U T;refine⟨hA.N W ⟨r.r,r.I,r.N,r.Y,r.S⟩,λq=> ?_,λq=> ?_,λq=> ?_⟩
   .rw[ç Ì A]at q;let⟨y,y1,z⟩:=B.vW q;refine⟨y,y1,λb P=>⟨(z b P).1,?_⟩⟩;have RZ:b≠(⟨gb,2,Á⟩:â).block:=λe=>(B.r.G S).N ⟨gb,2,Á⟩ (by rw[B.r.C];exact Ã F)<|e▸(z b P).1;exact(r.I b (z b P).1).trans<|(lA RZ).trans (z b P).2
   .exact(r.N _ (by rw[B.r.C];first|exact Ã F|exact Ã H)).trans<|A7 (Ô.1 T).choose_spec
   .rw[ç Ì A]at q;exact(r.N ⟨an,pl,Á⟩<|by rw[B.r.C];exact Ã H).trans<|(BF U λe=>lz e.symm).trans<|B.N q
 |19,_=>
  have R0:a.tmps[15]?=Â (Æ (Â ⟨an,0,Á⟩) i i):=s.r 2 Hc 15 U (ig (o:=BL) D U U) U;have R1:a.tmps[17]?=Â (Ê Î pl):=s.r 4 Ed 17 U (ig (o:=BL) D U U) U;refine im (o:=BL) K s U U D (by k_ne) M N (λt r=> ?_) (λt r e E=> ?_)<|B.C A A A ⟨F,H⟩
  .simp only[mZ,BL];go_simp
  .simp[go_sem,BL,rL,RY,R0,R1]at E
 |20,_=>
  have E:a.tmps[30]?=Â (À<|Â ⟨an,pl,Á⟩):=s.r 19 BL 30 U (ig (o:=BM) D U U) U;have h27:a.tmps[27]?=Â (à x.2):=s.r 15 BJ 27 U (ig (o:=BM) D U U) U;have T:(l.w.cell? ⟨an,pl,Á⟩).isSome=Ò:=B.r.g _ (Ç U) e2;have BN:l.w.frozen? ⟨an,pl,Á⟩=Ì:=(B.r.S _<|Ã H).trans z2;have lM:qo l ⟨an,pl,Á⟩:=Ç (by rwa[B.r.I]);refine RR (o:=BM) (y:=⟨an,pl,Á⟩) (v:=à x.2) K s U U U D (by k_ne) M N U lM T BN (λw J hz=> ?_) (λw J hz=> ?_) λt r=> ?_
  .let⟨u,hu⟩:=Ô.1 J;simp only[BM];go_simp
  .let⟨u,hu⟩:=Ô.1 J;simp[go_sem,BM,E,h27,á _ _ _ _ _ _ (show Ø (à x.2)=Ò from rfl),hu,hz]
  .have hA:=B.r.qN S W (x:=⟨an,pl,Á⟩) (v:=à x.2) (Ç U) U T;refine⟨hA.N W ⟨r.r,r.I,r.N,r.Y,r.S⟩,λq=> ?_,λq=> ?_,λq=> ?_⟩
   .rw[ç Ì A]at q;let⟨y,y1,z⟩:=B.vW q;refine⟨y,y1,λb P=>⟨(z b P).1,?_⟩⟩;have RZ:b≠(⟨an,pl,Á⟩:â).block:=λe=>(B.r.G S).N ⟨an,pl,Á⟩ (by rw[B.r.C];exact Ã H)<|e▸(z b P).1;exact(r.I b (z b P).1).trans<|(lA RZ).trans (z b P).2
   .rw[ç Ì A]at q;exact(r.N ⟨gb,2,Á⟩<|by rw[B.r.C];exact Ã F).trans<|(BF U<|lz).trans<|B.I q
   .exact(r.N _ (by rw[B.r.C];first|exact Ã F|exact Ã H)).trans<|A7 (Ô.1 T).choose_spec
 |g+21,h=>exact absurd h Z
end
section
variable{E:â->Prop}{l c g:fc}
def iH.ff(h:iH E l c)(k:iH E c g):iH E l g:=by have f:=h.C;exact⟨λj e=>k.O j<|h.O j e,λj e=>(k.h j e).elim (h.h j) λq=>Ç<|Õ h.f q,k.Y.trans h.Y,k.I.trans h.I,k.c.trans h.c,k.K.trans h.K,k.q.trans h.q,k.d.trans h.d,k.fx,Õ h.f k.f,λj e=>(k.r j<|h.M e).trans<|h.r j e,λa b i=>(k.e a (by rwa[f]) i).trans<|h.e a b i,λa b=>(k.S a<|by rwa[f]).trans<|h.S a b,λa b q=>k.b a (by rwa[h.K])<|h.b a b q,λa b q=>k.g a b<|h.g a b q⟩
end
def gI(l:fc)(w₁:ß)(o:Ÿ):fc:={l with O:=λb=>l.O b\/b=w₁.heap.size,w:=w₁.alloc o}
theorem zG{o:Ÿ}(h:j<w.heap.size):(w.alloc o).heap[j]?=w.heap[j]?:=by unfold ň;grind
theorem na{o:Ÿ}:(w.alloc o).heap[w.heap.size]?=Â o:=by unfold ň;simp
def K7{o:Ÿ}:(w.alloc o).heap.size=w.heap.size+1:=by unfold ň;simp
section
variable{J:Jd}{l:fc}{a:ŏ}{k:List ŷ}{cs:List é}{ob:Ÿ}{E:â->Prop}
def Zr(b:∀j,l.O j->j<w.heap.size)(c:¬l.q):mI l (gI l w ob) w (w.alloc ob) #[]:= ⟨by rw[K7];omega,λj h=>h.imp id λe=>by omega,λj h=>by rw[K7];exact h.elim (λq=>Ĺ<|b j q) λe=>by omega,U,U,U,U,λj d _ _=>zG d,λx a _ _=>gN<|zG a,λx a _=>xn<|zG a,U,U,U,λe f=>by simp at f,by simp[į,gI],U,λq=>absurd q c,U⟩
def Hi(c:Q[i]?=Â o)(d:Ė o (ţ Q a.tmps)=Ò)(e:f.kind≠Ź)(g:jZ l)(h:¬l.q) (j:∀w,(ĉ a.eval o).run P w=.ok (.value<|À<|Â ⟨w.heap.size,0,Á⟩) (w.alloc ob)) (m:∀w,(ĉ a.eval o).events P w #[]=#[]) (n:∀b,fG l l.w b->fi P yQ J (gI l b ob) (G (f.at (a.put o.dst<|À<|Â ⟨b.heap.size,0,Á⟩)<|Ñ Q jJ::k) cs)):fi P yQ J l (G (f.at a<|Ñ Q (i::jJ)::k) cs):=by
 refine vS c d e λb r=> ?_;rw[j b];refine⟨_,?_,n b r⟩;have:listed P f.fn a o b=#[]:=by unfold listed;rw[m b,Ī]
 rw[this];exact Zr (mb g r) h
def K8(s:gA l)(d:∀a,E a->l.r a)(r:fG l l.w u):iH E l (gI l u ob):=by
 have c:=r.r;refine⟨λj h=>Ã h,λj h=>h.imp id λe=>by omega,U,U,U,U,U,U,λj h=> ?_,?_,λj f=>(zG<|È (s.fx j f) c).trans<|r.I j f,λx b _=>(gN<|zG<|È (s.I x b) c).trans<|r.N x b,λx b=>(xo<|zG<|È (s.I x b) c).trans<|r.Y x b,λx b q=> ?_,λx b q=> ?_⟩
 .show j<(u.alloc ob).heap.size;rw[K7];exact h.elim (λq=>Ĺ<|È (s.fx j<|Ã q) c) λe=>by omega
 .show l.w.heap.size<=(u.alloc ob).heap.size;rw[K7];omega
 .show((u.alloc ob).cell? x).isSome=Ò;rw[gN<|zG<|È (s.S x b).2.1 c];exact r.S x b q
 .show((u.alloc ob).cell? x).isSome=Ò;rwa[gN<|zG<|È (s.I x<|Ã<|d x b) c,r.N x<|Ã<|d x b]
def K9{w':ß}{p:Nat}(g:∀j,l.O j->j<w.heap.size)(i:¬l.q)(b:l.O p)(k:w'.heap.size=w.heap.size)(c:∀j,j≠p->w'.heap[j]?=w.heap[j]?)(d:w'.os=w.os/\w'.output=w.output/\w'.tape=w.tape)(f:∀e∈V,vT l e):mI l {l with w:=w'} w w' V:=by refine⟨Z,λ_ h=>Ã h,λj h=>by rw[k];exact g j h,U,U,U,U,λj _ a _=>c j λe=>a<|e▸b,λx _ a _=>gN (c _ λe=>a<|e▸b),λx _ a=>xn (c _ λe=>a<|e▸b),d.1,d.2.1,d.2.2,λe h=>(f e h).1,(K0 f _).symm,U,λq=>absurd q i,U⟩
end
def iY(w:ß)(p:Nat)(v0 v1 v2 v3:Ï):ß:=(((w.setCell ⟨p,0,Á⟩ v0).setCell ⟨p,1,Á⟩ v1).setCell ⟨p,2,Á⟩ v2).setCell ⟨p,3,Á⟩ v3
section
variable{p:Nat}{v0 v1 v2 v3:Ï}
def xG:(iY w p v0 v1 v2 v3).heap.size=w.heap.size:=by unfold iY;rw[kg,kg,kg,kg]
def zH(h:j≠p):(iY w p v0 v1 v2 v3).heap[j]?=w.heap[j]?:=by unfold iY;rw[lA h,lA h,lA h,lA h]
theorem R2(b:w.cell? ⟨p,0,Á⟩=Â v)(c:w.cell? ⟨p,1,Á⟩=Â x)(d:w.cell? ⟨p,2,Á⟩=Â z)(e:w.cell? ⟨p,3,Á⟩=Â jQ): (iY w p v0 v1 v2 v3).cell? ⟨p,0,Á⟩=Â v0/\(iY w p v0 v1 v2 v3).cell? ⟨p,1,Á⟩=Â v1/\(iY w p v0 v1 v2 v3).cell? ⟨p,2,Á⟩=Â v2/\(iY w p v0 v1 v2 v3).cell? ⟨p,3,Á⟩=Â v3:=by have f:∀(w:ß) (i j:Nat) (a:Ï),i≠j->(w.setCell ⟨p,i,Á⟩ a).cell? ⟨p,j,Á⟩=w.cell? ⟨p,j,Á⟩:=λw i j a h=>ze<|Ç h;unfold iY;grind [A7]
def R3{E:â->Prop}{l e:fc}(s:gA l)(f:∀a,E a->l.r a)(h:iH E l e){w':ß}(r:fG e e.w u)(k:l.w.heap.size<=p)(g:w'.heap.size=u.heap.size)(i:∀j,j≠p->w'.heap[j]?=u.heap[j]?):iH E l {e with w:=w'}:=by
 have b:=h.N f r;have c:∀{j:Nat},j<l.w.heap.size->w'.heap[j]?=u.heap[j]?:=λ{j} q=>i j Z;refine⟨b.O,b.h,b.Y,b.I,b.c,b.K,b.q,b.d,λj q=> ?_,?_,λj q=>(c<|s.fx j q).trans<|b.r j q,λa q n=>(gN<|c<|s.I a q).trans<|b.e a q n,λa q=>(xo<|c<|s.I a q).trans<|b.S a q,λa q z=> ?_,λa q z=> ?_⟩
 .show j<w'.heap.size;rw[g];exact b.fx j q
 .show l.w.heap.size<=w'.heap.size;rw[g];exact b.f
 .show(w'.cell? a).isSome=Ò;rw[gN<|c (s.S a q).2.1];exact b.b a q z
 .show(w'.cell? a).isSome=Ò;rw[gN<|c<|s.I a<|Ã<|f a q];exact b.g a q z
end
def vY(t:Array Ï)(h:t.size=n):∃u:Nat->Ï,t=((ã n).map u).toArray:=by subst h;refine⟨λi=>t.getD i Å,Array.ext fl λi a _=> ?_⟩;simp_all
def R4(t:Array Ï)(h:t.size=37):∃a b c d e f g i j k l m n o p q r s u v w x y z B C D E F G H I J K L M N:Ï,t=#[a,b,c,d,e,f,g,i,j,k,l,m,n,o,p,q,r,s,u,v,w,x,y,z,B,C,D,E,F,G,H,I,J,K,L,M,N]:=by obtain⟨_,rfl⟩:=vY t h;exact⟨_,_,_,_,_,_,_,_,_,_,_,_,_,_,_,_,_,_,_,_,_,_,_,_,_,_,_,_,_,_,_,_,_,_,_,_,_,U⟩
end Go.Proofs.Y.fv
namespace Go.Proofs.Y.fv
open Go Go.Conc Go.Proofs.Y.Lift Go.RowKit Go.Conc.Lib Go.ConcR.Gen
section
variable{Ψ:ß->Prop}{L:WgLink}{l:fc}{e:Jd}{k:List ŷ}
def R5(Ψ:ß->Prop)(l:fc)(b:Nat)(w:ß):Prop:=SW Ψ l b w/\fG l l.w w
def pH(a:mo Ψ l b)(h:R5 Ψ l b w)(r:fG l w u):R5 Ψ l b u:=⟨fK h.1<|a.r r,h.2.ff r⟩
def ajx{J:Jd}(a:SW Ψ l b l.w)(c:Goes P yQ (fG l) Go.ConcR.DC0 (λd e=>fi P yQ J {l with w:=e} d) n g l.w):fi P yQ J l g:= Ql c (λ_ _ r=>r) a.1 λ_ _ _ h=>h
def ajy(H:WgLib P L)(τ:fc->fc)(Φ:fc->Prop)(c:mo Ψ l b)(z:SW Ψ l b l.w) (N:∀a,fG l l.w a->Φ {l with w:=a}/\(τ {l with w:=a}).d=0/\∃q:ß->Prop,mo q (τ {l with w:=a}) b/\SW q (τ {l with w:=a}) b (τ {l with w:=a}).w/\ ∀j,SW q (τ {l with w:=a}) b j->fi P Ì e {τ {l with w:=a}with d:=0,w:=j} (G (f.at (y.put ((Q[i]?).bind (·.dst))<|ñ #[])<|Ñ Q jJ::k) qX)): fi P Ì (λl g=>Φ l/\zg P Ì b (fi P Ì e) (τ l) g) l (G ((base L.done).at ⟨#[À<|Â ⟨b,0,Á⟩,Å,Å,Å],[]⟩ [ö<|body_done L])<|f.at y (Ñ Q (i::jJ)::k)::qX):=by
 lib_facts;simp only[body_done,doneFn,Ń];have hF:R5 Ψ l b l.w:=⟨z,fG.fX _ _⟩;apply ajx z (n:=40);u_reg (pH c) hF;u_op (pH c) hF;u_call H.f_add (nm_add L) addFn (pH c) hF;u_c Ŝ (pH c) hF;u_cond Ò (pH c) hF;u_c Ŝ (pH c) hF;u_c Ŝ (pH c) hF;u_reg (pH c) hF;u_op (pH c) hF;u_op (pH c) hF;u_c stepG_region_end (pH c) hF;u_cond Ò (pH c) hF;u_reg (pH c) hF;u_op (pH c) hF;u_conv H.underlying_tWgP H.room_tWg (nH.r hF.1.2.1).choose_spec (pH c) hF;refine Ë λa g=> ?_;replace hF:=pH c hF g;clear g;refine .fB λj r=> ?_;let⟨O,B,q,h,C,D⟩:=N j<|hF.2.ff<|zx r;refine⟨O,B,U,_,λ_=>stepG_markAt .releaseMerge fl U U (by k_ne) U H.f_relMerge (x_relMerge_n L) (x_relMerge_b L) (x_relMerge_x L) (x_relMerge_f L) (by simp[ĥ,fQ]),?_⟩;walk_nrm;show fi P Ì (Pk P Ì b<|fi P Ì e) (τ {l with w:=j}) _;clear O r;generalize τ {l with w:=j}=l2 at h C B D|-;replace hF:=C;clear C c z N;apply jL h hF (n:=10);iterate 3 w_go fK
 refine Ë λa g=> ?_;replace hF:=fK hF g;clear g;refine vR (l:={l2 with w:=a}) h hF (Ã U) U (λ_=>stepG_mark0 .disable fl U U (by k_ne) U H.f_disable (x_disable_n L) (x_disable_b L) (x_disable_x L)<|x_disable_f L) λE hF=> ?_;walk_nrm;have W:į l2.d #[jW .disable]=1:=by rw[B];rfl
 rw[W];apply jL (l:={l2 with d:=1,w:=E}) h hF (n:=50);iterate 2 w_go fK
 u_defer fK hF
 iterate 8 w_go fK
 u_bub fK hF
 iterate 11 w_go fK
 u_call H.f_uAdd (nm_uAdd L) uAddFn fK hF
 iterate 10 w_go fK
 refine Ë λa g=> ?_;replace hF:=fK hF g;clear g;refine n7 (l:={l2 with d:=1,w:=a}) h hF λj hF=>⟨U,U,λv=>⟨_,λa p F=>(stepG_add_atomic U U (by k_ne) U H.f_addU64 (x_addU64_n L) (x_addU64_b L) (x_addU64_x L) ê (x_addU64_f L) U U p F).trans fP,?_⟩⟩;walk_nrm;have S:ê.wrap (v+18446744069414584320)=ê.wrap (v+qU):=rfl;rw[S];clear S;obtain⟨s,I⟩:∃s,ê.wrap (v+qU)=s:=⟨_,U⟩;simp only[I];have J:0<=s:=by rw[<-I];have:ê.wrap (v+qU)=(v+qU)%18446744073709551616:=rfl;rw[this];omega
 clear I v;by_cases o:s=0\/(gf<=s/\s<1000000*gf/\s%gf<1000000)
 .rw[if_pos o];by_cases m:s=0;focus
   subst m;clear o J
  rotate_left;focus
   have X:=o.resolve_left m;clear o m J;let⟨Y,c5,c6⟩:=X;have q4:(4294967296:Int)<=s:=Y;have K:s<1000000*4294967296:=c5;have T:s%4294967296<1000000:=c6;have f1:=D8 s Z K T;have t:=D9 s Z K T;obtain⟨u,g1⟩:∃u,(s/4294967296+2147483648)%4294967296-2147483648=u:=⟨_,U⟩;have g2:¬u<0:=Z
   have g3:0<u:=Z
   by_cases M:s%4294967296=0;focus rw[M]at t
   rotate_left;focus
    obtain⟨x,g4⟩:∃x,s%4294967296=x:=⟨_,U⟩;rw[g4]at t M;have V:x%4294967296=x:=Z
    have g6:(x !=0)=Ò:=by simpa using M
  all_goals
   apply jL (l:={l2 with d:=1,w:=j}) h hF (n:=150);iterate 3 w_go fK
   u_leave1 H.f_uAdd fK hF
   iterate 83 w_go fK
   refine Ë λa g=> ?_;replace hF:=fK hF g;clear g;refine vR (l:={l2 with d:=1,w:=a}) h hF (Ç U) U (λw=>KU .enable fl U H.f_enable (x_enable_n L) (x_enable_b L) (x_enable_x L) (x_enable_f L) w) λE hF=> ?_;have u:į 1 #[jW .enable]=0:=rfl;rw[u];apply jL (l:={l2 with d:=0,w:=E}) h hF (n:=10);u_leave0 H.f_add fK hF;iterate 2 w_go fK
   u_leave0 H.f_done fK hF
   refine Ë λa g=> ?_;replace hF:=fK hF g;clear g;exact D _ hF
 .rw[if_neg o];by_cases m:0<s/\s<1000000
  .rw[if_pos m];let⟨q4,K⟩:=m;clear o J;have f1:=D8 s Z Z Z;have t:=D9 s Z Z Z;have g1:(s/4294967296+2147483648)%4294967296-2147483648=0:=Z
   have V:s%4294967296=s:=Z
   rw[V]at t;have g6:(s !=0)=Ò:=by simp;omega
   have X:(s==0)=Ì:=by simp;omega
   have M:(s.toNat:Int)=s:=Z
   apply jL (l:={l2 with d:=1,w:=j}) h hF (n:=150);iterate 3 w_go fK
   u_leave1 H.f_uAdd fK hF
   iterate 89 w_go fK
   u_call H.f_uLoad (nm_uLoad L) uLoadFn fK hF
   iterate 9 w_go fK
   refine Ë λa g=> ?_;replace hF:=fK hF g;clear g;refine n7 (l:={l2 with d:=1,w:=a}) h hF λj hF=>⟨U,U,λv=>⟨_,λa p=>stepG_load_atomic U U (by k_ne) U H.f_loadU64 (x_loadU64_n L) (x_loadU64_b L) (x_loadU64_x L) ê (x_loadU64_f L) U p,?_⟩⟩;show fi P Ì (if v=(s.toNat:Int)then Kp P Ì b (fi P Ì e) s.toNat else λ_ _=>True) _ _;by_cases u:v=(s.toNat:Int)
   .rw[if_pos u];rw[M]at u;subst u;walk_nrm;have Y:(v !=v)=Ì:=fl
    apply jL (l:={l2 with d:=1,w:=j}) h hF (n:=150);iterate 3 w_go fK
    u_leave1 H.f_uLoad fK hF
    iterate 10 w_go fK
    u_call H.f_uStore (nm_uStore L) uStoreFn fK hF
    iterate 5 w_go fK
    refine Ë λa g=> ?_;replace hF:=fK hF g;clear g;refine n7 (l:={l2 with d:=1,w:=a}) h hF λj hF=>⟨U,U,_,λa x p F=>stepG_store_atomic U U (by k_ne) U H.f_storeU64 (x_storeU64_n L) (x_storeU64_b L) (x_storeU64_x L) (x_storeU64_f L) U U p F,?_⟩;walk_nrm;obtain⟨r,T⟩:∃r,v.toNat=r+1:=⟨v.toNat-1,Z⟩;rw[T];apply jL (l:={l2 with d:=1,w:=j}) h hF (n:=150);iterate 2 w_go fK
    u_leave0 H.f_uStore fK hF
    iterate 24 w_go fK
    refine Ë λa g=> ?_;replace hF:=fK hF g;clear g;apply ai7 H h D r v<;>first|exact hF|omega
   .rw[if_neg u];exact .fB λ_ _=>trivial
  .rw[if_neg m];trivial
end
end Go.Proofs.Y.fv
namespace Go.Proofs.Y.fv
open Go Go.Conc Go.Proofs.Y.Lift Go.RowKit Go.Conc.Lib Go.ConcR.Gen
open Go.Proofs Go.Proofs.YtgpphkdoanciiaaGreatDoor
noncomputable def La:Ę:=kU Ι [1,0,0]
noncomputable def zI (t:Array Ï) (a:List é):Ý:=G ((base 49).at ⟨t,[]⟩ [ö La,ą La,ô 0]) a
structure BO(an N:Nat)(ib:Option â)(m c kk:Nat)(t:Array Ï):Prop where
 r:t.size=37
 t1:t[1]?=Â (Æ (Â ⟨an,0,Á⟩) N N)
 t6:t[6]?=Â (Æ ib m c)
 C:t[7]?=Â (Ê Î m)
 I:t[8]?=Â (Ê Î kk)
theorem BP{x:Int}(a:0<=x)(b:x<1000000):Î.wrap x=x:=by rw[Γ];omega
section
variable{f:Jd}{l:fc}{t:Array Ï}{an N ib c kk:Nat}{Q:Ï->ByteArray->fc->Prop}{τ:fc->fc}{Φ:fc->Prop}
def ajz(D:gA l)(V:¬l.q)(hd:l.d=0)(W:BO an N (Â ⟨ib,0,Á⟩) m c kk t)(hkk:kk<m)(hm:m<1000)(hN:N<1000000)(rL:j<N)(zK:l.M ib) (i0:l.w.cell? ⟨ib,kk*4,Á⟩=Â (À O)) (i1:l.w.cell? ⟨ib,kk*4+1,Á⟩=Â (Ê Î j)) (i2:l.w.cell? ⟨ib,kk*4+2,Á⟩=Â (À<|Â ⟨i,0,Á⟩)) (i3:l.w.cell? ⟨ib,kk*4+3,Á⟩=Â (À<|Â ⟨n,0,Á⟩)) (uR:l.N ⟨i,2,Á⟩) (qd:l.w.cell? ⟨i,2,Á⟩=Â v) (o1:l.r ⟨n,2,Á⟩) (o2:l.r ⟨an,j,Á⟩) (e1:(l.w.cell? ⟨n,2,Á⟩).isSome=Ò) (e2:(l.w.cell? ⟨an,j,Á⟩).isSome=Ò) (z1:l.w.frozen? ⟨n,2,Á⟩=Ì) (z2:l.w.frozen? ⟨an,j,Á⟩=Ì) (lz:(⟨n,2,Á⟩:â)≠⟨an,j,Á⟩) (uz:∀u,iH (λa=>a=⟨n,2,Á⟩\/a=⟨an,j,Á⟩) l u->∀cl lX,fi Ä Ì (λl'' g'=>l''.d=u.d/\∃p k c str,g'=G (cl.finish<|ñ #[Æ p k c,à str]) lX/\Q (Æ p k c) str l'') (mq u)<|G (Ă Ä 66 #[v,À O] Ğ)<|cl::lX) (A0:∀u (x:(Option Addr×Nat×Nat)×ByteArray),iH (λa=>a=⟨n,2,Á⟩\/a=⟨an,j,Á⟩) l u->(∃y,Q (Æ x.1.1 x.1.2.1 x.1.2.2) x.2 y/\(∀b,y.M b->u.M b/\u.w.heap[b]?=y.w.heap[b]?))->u.w.cell? ⟨n,2,Á⟩=Â (Æ x.1.1 x.1.2.1 x.1.2.2)->u.w.cell? ⟨an,j,Á⟩=Â (à x.2)-> mo (λ_=>True) u n/\SW (λ_=>True) u n u.w/\Φ u/\(τ u).d=0/\∃E:ß->Prop,mo E (τ u) n/\SW E (τ u) n (τ u).w/\∀s X,SW E (τ u) n s->BO an N (Â ⟨ib,0,Á⟩) m c (kk+1) X->fi Ä Ì f {τ u with d:=0,w:=s} (zI X qX)): fi Ä Ì (λl g=>Φ l/\zg Ä Ì n (fi Ä Ì f) (τ l) g) l (zI t qX):=by
 obtain⟨y0,y1,Y,y3,y4,y5,y6,y7,y8,y9,xH,zL,xI,rX,td,rf,vZ,we,uS,uT,uU,tf,tg,tj,rQ,s6,rR,pE,oD,qi,qj,qk,uF,s7,s8,rS,rT,rfl⟩:=R4 t W.r;obtain rfl:y1=Æ (Â ⟨an,0,Á⟩) N N:=by simpa using W.t1
 obtain rfl:y6=Æ (Â ⟨ib,0,Á⟩) m c:=by simpa using W.t6
 obtain rfl:y7=Ê Î m:=by simpa using W.C
 obtain rfl:y8=Ê Î kk:=by simpa using W.I
 have rY:∀y:â,(y=⟨n,2,Á⟩\/y=⟨an,j,Á⟩)->l.r y:=λy ha=>by rcases ha with rfl|rfl;exact o1;exact o2
 have avq:(kk:Int)<(m:Int):=Z
 simp only[zI];conv in La=>whnf
 refine fN (n:=30) D.r ?_;have hF:True:=trivial;repeat w_go fu
 refine Ë λ_ _=> ?_;have B:∀g,gX l ⟨ib,g,Á⟩:=λg=>Ã zK;refine mY (v:=Đ #[À O,Ê Î j,À<|Â ⟨i,0,Á⟩,À<|Â ⟨n,0,Á⟩]) U U (by k_ne) D.r V (λo r=> ?_) (λo r e F=> ?_) ?_
 .have J:=((B<|kk*4).r r).trans i0;have K:=((B<|kk*4+1).r r).trans i1;have L:=((B<|kk*4+2).r r).trans i2;have P:=((B<|kk*4+3).r r).trans i3;go_simp
 .have J:=((B<|kk*4).r r).trans i0;have K:=((B<|kk*4+1).r r).trans i1;have L:=((B<|kk*4+2).r r).trans i2;have P:=((B<|kk*4+3).r r).trans i3;simp[go_sem,J,K,L,P]at F;rcases F with rfl|rfl|rfl|rfl
  .exact(B _).rd
  .exact(B _).rd
  .exact(B _).rd
  .exact(B _).rd
 walk_nrm;refine Hi (ob:=É #[À Á,Ê Î 0,À Á,À Á] 155) U U (by k_ne) D.r V (λw=>by go_simp) (λw=>by simp[go_sem]) λo jY=> ?_;walk_nrm;have uV:iH (λa=>a=⟨n,2,Á⟩\/a=⟨an,j,Á⟩) l (gI l o<|É #[À Á,Ê Î 0,À Á,À Á] 155):=K8 D rY jY;have nI:(gI l o<|É #[À Á,Ê Î 0,À Á,À Á] 155).w.heap[o.heap.size]?=Â (É #[À Á,Ê Î 0,À Á,À Á] 155):=na;have tq:l.w.heap.size<=o.heap.size:=jY.r;have I:(gI l o<|É #[À Á,Ê Î 0,À Á,À Á] 155).O o.heap.size:=Ç U;generalize gI l o (É #[À Á,Ê Î 0,À Á,À Á] 155)=l₁ at uV nI I|-;generalize o.heap.size=tb at nI I tq|-;refine vS U U (by k_ne) λs oE=> ?_;have S:s.heap[tb]?=_:=(oE.I tb<|Ã I).trans nI;have J:s.cell? ⟨tb,0,Á⟩=Â (À Á):=by simp[Ö,S]
 have K:s.cell? ⟨tb,1,Á⟩=Â (Ê Î 0):=by simp[Ö,S]
 have L:s.cell? ⟨tb,2,Á⟩=Â (À Á):=by simp[Ö,S]
 have P:s.cell? ⟨tb,3,Á⟩=Â (À Á):=by simp[Ö,S]
 have hz:∀g,s.frozen? ⟨tb,g,Á⟩=Ì:=λg=>by simp[î,S]
 go_simp;refine⟨{l₁ with w:=iY s tb (À O) (Ê Î j) (À<|Â ⟨i,0,Á⟩) (À<|Â ⟨n,0,Á⟩)},K9 (p:=tb) (mb uV.fx oE) (by rwa[uV.q]) I xG (λg H=>zH H) ⟨U,U,U⟩ λe F=> ?_,?_⟩
 .have h:=đ F;have e:∀g,qo l₁ ⟨tb,g,Á⟩:=λg=>Ã I;simp[go_sem,á _ _ _ _ _ _ (show Ø (À O)=Ò from rfl),á _ _ _ _ _ _ (show Ø (À<|Â ⟨i,0,Á⟩)=Ò from rfl),á _ _ _ _ _ _ (show Ø (À<|Â ⟨n,0,Á⟩)=Ò from rfl),J,K,L,P,hz]at h;rcases h with rfl|rfl|rfl|rfl
  .exact(e _).r
  .exact(e _).r
  .exact(e _).r
  .exact(e _).r
 let⟨c0,c1,c2,c3⟩:=R2 (v0:=À O) (v1:=Ê Î j) (v2:=À<|Â ⟨i,0,Á⟩) (v3:=À<|Â ⟨n,0,Á⟩) J K L P;have C:=R3 (w':=iY s tb (À O) (Ê Î j) (À<|Â ⟨i,0,Á⟩)<|À<|Â ⟨n,0,Á⟩) D rY uV oE tq xG λg H=>zH H;have zM:({l₁ with w:=iY s tb (À O) (Ê Î j) (À<|Â ⟨i,0,Á⟩) (À<|Â ⟨n,0,Á⟩)}:fc).O tb:=I;replace c0:({l₁ with w:=iY s tb (À O) (Ê Î j) (À<|Â ⟨i,0,Á⟩) (À<|Â ⟨n,0,Á⟩)}:fc).w.cell? ⟨tb,0,Á⟩=_:=c0;replace c1:({l₁ with w:=iY s tb (À O) (Ê Î j) (À<|Â ⟨i,0,Á⟩) (À<|Â ⟨n,0,Á⟩)}:fc).w.cell? ⟨tb,1,Á⟩=_:=c1;replace c2:({l₁ with w:=iY s tb (À O) (Ê Î j) (À<|Â ⟨i,0,Á⟩) (À<|Â ⟨n,0,Á⟩)}:fc).w.cell? ⟨tb,2,Á⟩=_:=c2;replace c3:({l₁ with w:=iY s tb (À O) (Ê Î j) (À<|Â ⟨i,0,Á⟩) (À<|Â ⟨n,0,Á⟩)}:fc).w.cell? ⟨tb,3,Á⟩=_:=c3;generalize({l₁ with w:=iY s tb (À O) (Ê Î j) (À<|Â ⟨i,0,Á⟩) (À<|Â ⟨n,0,Á⟩)}:fc)=l₂ at c0 c1 c2 c3 C zM|-;clear nI I uV S J K L P hz oE s l₁ jY o;have rZ:=C.G D;have qp:¬l₂.q:=by rwa[C.q]
 have ajA:l₂.N ⟨i,2,Á⟩:=by rwa[C.c]
 have nE:¬((⟨i,2,Á⟩:â)=⟨n,2,Á⟩\/(⟨i,2,Á⟩:â)=⟨an,j,Á⟩):=λq=>by
  rcases q with q|q
  .exact D.Y _ o1<|q▸uR
  .exact D.Y _ o2<|q▸uR
 have ajB:l₂.w.cell? ⟨i,2,Á⟩=Â v:=(C.e _ (Ç uR) nE).trans qd;have R6:∀y:â,(y=⟨n,2,Á⟩\/y=⟨an,j,Á⟩)->l₂.r y:=λy hy=>by rw[C.I];exact rY y hy
 refine fN (n:=5) rZ.r ?_;iterate 2 w_go fu
 refine Ë λ_ _=> ?_;refine K2 (II zF #[y0,Æ (Â ⟨an,0,Á⟩) N N,Y,y3,y4,À<|Â ⟨tb,0,Á⟩,Æ (Â ⟨ib,0,Á⟩) m c,Ê Î m,Ê Î kk,ŝ Ò,À<|Â ⟨ib,kk*4,Á⟩,Đ #[À O,Ê Î j,À<|Â ⟨i,0,Á⟩,À<|Â ⟨n,0,Á⟩],xI,rX,td,rf,vZ,we,uS,uT,uU,tf,tg,tj,rQ,s6,rR,pE,oD,qi,qj,qk,uF,s7,s8,rS,rT] (mZ tb i n an N j (À O) v)<|El l₂ i n an j v Q) rZ.r qp (λh H=> ?_) (λmd listed a l e z hI F=>aju rZ qp U U U zM c0 c1 c2 c3 ajA ajB (R6 _<|Ã U) (R6 _<|Ç U) (C.g _ (Ã U) e1) (C.g _ (Ç U) e2) ((C.S _<|Ã o1).trans z1) ((C.S _<|Ã o2).trans z2) rL hN lz (λu h=>uz u<|C.ff h) md listed a l e z hI F) λmd listed a z hI ku zN=> ?_
 .refine⟨((Á,0,0),ByteArray.empty),lL.G _ _ _,(iH.fX rZ.r).N R6 ⟨H.r,H.I,H.N,H.Y,H.S⟩,λq=> ?_,λq=> ?_,λq=> ?_⟩<;>exact absurd q A
 let⟨x,H,T⟩:=hI;have mr:∀e∈ã 21,listed.getD e Ì=Ò:=by
  cases md
  .exact pG zN ku (ã 21) [] fP λe F=>by cases F
  .exact λe F=>pG zN ku [0,1,5,6,7,8,9,10,11,12,13,14,16,17,18,2,3,4,15,19,20] [] fP (λe F=>by cases F) e (by have:=Ē.1 F;revert e;decide)
  .exact pG zN ku (ã 21) [] fP λe F=>by cases F
 have Hj:=C.ff T.r;have Hk:=Hj.G D;have xK:¬z.q:=by rwa[Hj.q]
 let⟨F,ds⟩:=a;obtain rfl:ds=[]:=H.M;have b1:F[1]?=Â (Æ (Â ⟨an,0,Á⟩) N N):=H.C (d:=1) A;have b5:F[5]?=Â (À<|Â ⟨tb,0,Á⟩):=H.C (d:=5) A;have b6:F[6]?=Â (Æ (Â ⟨ib,0,Á⟩) m c):=H.C (d:=6) A;have b7:F[7]?=Â (Ê Î m):=H.C (d:=7) A;have b8:F[8]?=Â (Ê Î kk):=H.C (d:=8) A;obtain⟨x0,x1,x2,x3,x4,x5,x6,x7,x8,x9,Zs,x11,x12,x13,x14,x15,x16,x17,x18,x19,x20,x21,x22,x23,x24,x25,x26,x27,x28,x29,x30,x31,x32,x33,x34,x35,x36,rfl⟩:=R4 F H.S;obtain rfl:x1=Æ (Â ⟨an,0,Á⟩) N N:=by simpa using b1
 obtain rfl:x5=À (Â ⟨tb,0,Á⟩):=by simpa using b5
 obtain rfl:x6=Æ (Â ⟨ib,0,Á⟩) m c:=by simpa using b6
 obtain rfl:x7=Ê Î m:=by simpa using b7
 obtain rfl:x8=Ê Î kk:=by simpa using b8
 have ajC:=T.vW<|mr 12 A;have ajD:=T.I<|mr 18 A;have ajE:=T.N<|mr 20 A;have d3:z.w.cell? ⟨tb,3,Á⟩=Â (À<|Â ⟨n,0,Á⟩):=(gN<|T.r.r tb<|Ã zM).trans c3;have s3:gX z ⟨tb,3,Á⟩:=Ã<|Ã<|T.r.O tb zM;clear H mr b1 b5 b6 b7 b8;refine fN (n:=9) Hk.r ?_;iterate 3 w_go fu
 refine Ë λ_ _=> ?_;refine oZ (x:=⟨tb,3,Á⟩) U U (by k_ne) Hk.r xK s3 d3 (λw h=>by go_simp) (λw h=>by simp[go_sem,h]) ?_;walk_nrm;refine fN (n:=9) Hk.r ?_;iterate 2 w_go fu
 u_call re.f_done (nm_done Lk) doneFn fu hF
 refine Ë λ_ _=> ?_;have xL:∀o,fG z z.w o->mo (λ_=>True) {z with w:=o} n/\SW (λ_=>True) {z with w:=o} n o/\Φ {z with w:=o}/\(τ {z with w:=o}).d=0/\∃E:ß->Prop,mo E (τ {z with w:=o}) n/\SW E (τ {z with w:=o}) n (τ {z with w:=o}).w/\∀s X,SW E (τ {z with w:=o}) n s->BO an N (Â ⟨ib,0,Á⟩) m c (kk+1) X->fi Ä Ì f {τ {z with w:=o}with d:=0,w:=s} (zI X qX):=λo r=>by
  refine A0 {z with w:=o} x (Hj.N rY r) ?_ ?_ ?_
  .let⟨y,y1,Y⟩:=ajC;exact⟨y,y1,λb h=>⟨(Y b h).1,(r.I b (Y b h).1).trans (Y b h).2⟩⟩
  .exact(r.N _<|Ã<|by rwa[Hj.I]).trans ajD
  .exact(r.N _<|Ã<|by rwa[Hj.I]).trans ajE
 let⟨k1,k2,_⟩:=xL z.w<|fG.fX _ _;refine ajy re τ Φ k1 k2 λo r=> ?_;let⟨_,_,f1,f4,E,f2,f3,f5⟩:=xL o r;refine⟨f1,f4,E,f2,f3,λs h=> ?_⟩;walk_nrm;refine fN (n:=30) h.1 ?_;iterate 7 w_go fu
 refine Ë λ_ _=> ?_;refine f5 s _ h ⟨U,U,U,U,?_⟩;simp;exact BP Z Z
end
def ajF:Array å:=#[⟨Â 2,ć 85<|Ù 0,85, "work.go:24",#[],Á⟩,
 ⟨Â 3,ć 25<|Ù 1,25, "work.go:24",#[],Á⟩,
 ⟨Â 4,Ě {callee:=ĕ (ĸ 49),args:=#[Ù 2,Ù 3],argTypes:=#[85,25]},0, "work.go:24",#[⟨0,Ü⟩,⟨1,Ü⟩],Á⟩]
def zO(a:Nat)(b c d e:Ï):é:=(baseD 63).at ⟨#[À<|Â ⟨a,0,Á⟩,b,c,d,e],[pF 64 #[À<|Â ⟨a,0,Á⟩] #[]]⟩ [Ñ Zo [1]]
def wh(a b c d e:Ï):é:=(base 48).at ⟨#[a,b,c,d,e],[]⟩ [Ñ ajF [2]]
section
variable{Ψ:ß->Prop}{J:Jd}{l:fc}{a e f o p:Ï}
def ajG(c:jZ l)(g:¬l.q)(k:gX l ⟨j9,0,Á⟩)(r:gX l ⟨j7,0,Á⟩)(s:gX l ⟨b,0,Á⟩)(t:l.w.cell? ⟨j9,0,Á⟩=Â (Ĉ (ù 48) #[] #[À<|Â ⟨j7,0,Á⟩,À<|Â ⟨b,0,Á⟩]))(u:l.w.cell? ⟨j7,0,Á⟩=Â (Æ O m n))(y:l.w.cell? ⟨b,0,Á⟩=Â (Æ (Â ⟨j,0,Á⟩) i i)) (B:∀d a e f o v x z jQ p,BO j i O m n 0 d->fi Ä Ì J l (zI d [wh v x z jQ p,zO j6 a e f o,n8 Ä])): fi Ä Ì J l (born Ä<|pF 63 #[À<|Â ⟨j6,0,Á⟩,À<|Â ⟨j9,0,Á⟩] #[]):=by
 apply fN (n:=30) c;have hF:=trivial;u_c (Ze Ů fP U) fu hF;walk_nrmf Κ;iterate 3 w_go fu
 u_c (Zc U U (by k_ne) U U) fu hF
 walk_nrm;repeat w_go fu
 refine Ë λ_ _=> ?_;apply oZ U U (by k_ne) c g k t (λw h=>by go_simp) (λw h=>by simp[go_sem,h]);walk_nrm;apply fN (n:=30) c;u_c (Zd U U (by k_ne) U U ů fP U) fu hF;walk_nrmf Tryz.f48;w_go fu;refine Ë λ_ _=> ?_;apply oZ U U (by k_ne) c g r u (λw h=>by go_simp) (λw h=>by simp[go_sem,h]);walk_nrm;apply oZ U U (by k_ne) c g s y (λw h=>by go_simp) (λw h=>by simp[go_sem,h]);walk_nrm;apply fN (n:=30) c;u_call Ű fP Ι fu hF;iterate 8 w_go fu
 refine Ë λ_ _=> ?_;exact B _ _ _ _ _ _ _ _ _ _ ⟨U,U,U,U,U⟩
def ajH(b:BO j i O m n m d)(h:l.K ⟨k,0,Á⟩/\l.K ⟨k,1,Á⟩)(r:mo Ψ l k)(c:SW Ψ l k l.w)(s:l.d=0)(t:¬l.q)(u:gX l ⟨j6,0,Á⟩)(y:l.w.cell? ⟨j6,0,Á⟩=Â (À<|Â ⟨k,0,Á⟩)): fi Ä Ì (λl g=>zg Ä Ì k (Ea Ä) (kI l) g) l (zI d [wh v x z jQ p,zO j6 a e f o,n8 Ä]):=by
 obtain⟨C,D,E,F,G,H,I,g,B,J,L,M,N,P,Q,S,T,V,W,X,Y,tf,tg,tj,rQ,s6,rR,pE,oD,qi,qj,qk,uF,s7,s8,rS,rT,rfl⟩:=R4 d b.r;obtain rfl:g=Ê Î m:=by simpa using b.C
 obtain rfl:B=Ê Î m:=by simpa using b.I
 have hmm:¬(m:Int)<(m:Int):=Z
 simp only[zI];conv in La=>whnf
 apply fN (n:=40) c.1;have hF:=trivial;iterate 8 w_go fu
 u_leave0 Ű fu hF
 iterate 2 w_go fu
 u_leave0 ů fu hF
 refine Ë λ_ _=> ?_;exact Zp h r c s t u y
end
def Hl:å:=⟨Â 14,ę<|Ù 1,25, "work.go:65",#[],Á⟩
def Hm:å:=⟨Â 15,ð 155 (Ù 4) 1,0, "work.go:65",#[],Á⟩
def Em:å:=⟨Â 16,ć 3<|Ù 15,3, "work.go:65",#[⟨1,Ü⟩],Á⟩
def Hn:å:=⟨Â 17,ð 155 (Ù 4) 2,0, "work.go:65",#[],Á⟩
def En:å:=⟨Â 18,ć 86<|Ù 17,86, "work.go:65",#[⟨3,Ü⟩],Á⟩
def Eo:å:=⟨Â 19,ĩ<|Ù 18,0, "work.go:65",#[⟨4,Ü⟩],Á⟩
def Ep:å:=⟨Â 20,ð 105 (Ù 19) 1,0, "work.go:65",#[⟨5,Ü⟩],Á⟩
def Er:å:=⟨Â 21,ć 65<|Ù 20,65, "work.go:65",#[⟨6,Ü⟩],Á⟩
def Ho:å:=⟨Â 22,ð 155 (Ù 4) 0,0, "work.go:65",#[],Á⟩
def Es:å:=⟨Â 23,ć 148<|Ù 22,148, "work.go:65",#[⟨8,Ü⟩],Á⟩
def BQ:å:=⟨Â 24,Ě {callee:=ĕ<|ĸ 67,args:=#[Ù 21,Ù 23],argTypes:=#[65,148]},9, "work.go:65",#[⟨7,Ü⟩,⟨9,Ü⟩],Á⟩
def BR:å:=⟨Â 25,ő 25 (Ù 14)<|Ù 16,0, "work.go:65",#[⟨0,Ü⟩,⟨2,Ü⟩,⟨0,Í⟩,⟨1,Í⟩,⟨2,Í⟩,⟨3,Í⟩,⟨4,Í⟩,⟨5,Í⟩,⟨6,Í⟩,⟨7,Í⟩,⟨8,Í⟩,⟨9,Í⟩,⟨10,Í⟩],Á⟩
def BS:å:=⟨Á,š 9 (Ù 25)<|Ù 24,0, "work.go:65",#[⟨11,Ü⟩,⟨10,Ü⟩,⟨10,Ţ⟩,⟨0,Í⟩,⟨1,Í⟩,⟨2,Í⟩,⟨3,Í⟩,⟨4,Í⟩,⟨5,Í⟩,⟨6,Í⟩,⟨7,Í⟩,⟨8,Í⟩,⟨9,Í⟩,⟨10,Í⟩],Á⟩
def wi:Array å:=#[Hl,Hm,Em,Hn,En,Eo,Ep,Er,Ho,Es,BQ,BR,BS]
def rh(tb a b N c:Nat)(d e:Ï)(x:ByteArray):Nat->Ï
 |0=>Æ (Â ⟨b,0,Á⟩) N N
 |1=>À<|Â ⟨tb,1,Á⟩
 |2=>Ê Î c
 |3=>À<|Â ⟨tb,2,Á⟩
 |4=>À<|Â ⟨a,0,Á⟩
 |5=>À<|Â ⟨a,0,Á⟩
 |6=>À<|Â ⟨a,2,Á⟩
 |7=>e
 |8=>À<|Â ⟨tb,0,Á⟩
 |9=>d
 |10=>à x
 |11=>À<|Â ⟨b,c,Á⟩
 |_=>Å
structure Et(iq:fc)(an pl:Nat)(Q:ByteArray->Prop)(listed:Array Bool)(x:ByteArray)(l:fc):Prop where
 r:iH (λa=>a=⟨an,pl,Á⟩) iq l
 vW:listed.getD 10 Ì=Ò->Q x
 I:listed.getD 12 Ì=Ò->l.w.cell? ⟨an,pl,Á⟩=Â (à x)
def Et.C{b l:fc}{Q:ByteArray->Prop}{listed:Array Bool}{x:ByteArray}(h:Et b n j Q listed x l)(e:i≠10)(f:i≠12)(c:b.r ⟨n,j,Á⟩)(d:ß)(r:fG l l.w d):Et b n j Q (listed.setIfInBounds i Ò) x {l with w:=d}:=by
 refine⟨h.r.N (λa q=>by rwa[q]) r,λq=> ?_,λq=> ?_⟩
 .rw[ç Ì e]at q;exact h.vW q
 .rw[ç Ì f]at q;exact(r.N _<|by rw[h.r.C];exact Ã c).trans<|h.I q
section
variable{J:Jd}{iq:fc}{an pl:Nat}{Q:ByteArray->Prop}
def ajI(W:gA iq)(hq:¬iq.q)(ht:d.size=26)(uQ:d[1]?=Â (Æ (Â ⟨an,0,Á⟩) i i))(Hp:d[4]?=Â (À<|Â ⟨j,0,Á⟩))(hO:iq.O j) (J:iq.w.cell? ⟨j,0,Á⟩=Â v) (K:iq.w.cell? ⟨j,1,Á⟩=Â (Ê Î pl)) (M:iq.w.cell? ⟨j,2,Á⟩=Â (À<|Â ⟨n,0,Á⟩)) (X:iq.N ⟨n,2,Á⟩) (qd:iq.w.cell? ⟨n,2,Á⟩=Â z) (B:iq.r ⟨an,pl,Á⟩) (e2:(iq.w.cell? ⟨an,pl,Á⟩).isSome=Ò) (z2:iq.w.frozen? ⟨an,pl,Á⟩=Ì) (rL:pl<i) (R7:∀l,iH (λa=>a=⟨an,pl,Á⟩) iq l->∀t lX,fi Ä Ì (λP S=>P.d=l.d/\∃T,S=G (t.finish<|à T) lX/\Q T) (mq l)<|G (Ă Ä 67 #[z,v] Ğ)<|t::lX) (md:ý) (listed:Array Bool) (a:ŏ) (l:fc) (b:Nat) (rest:List Nat) (hI:II wi d (rh j n an i pl v z) (Et iq an pl Q) listed a l) (p:b∈Û md wi listed): fi Ä Ì (λP S=>∃I,S=G ((base 51).at I<|Ñ wi rest::L) qX/\II wi d (rh j n an i pl v z) (Et iq an pl Q) (listed.setIfInBounds b Ò) I P) l (G ((base 51).at a<|Ñ wi (b::rest)::L) qX):=by
 let⟨x,m,s⟩:=hI;have E:qY wi d.size=Ò:=by rw[ht];decide
 have Zt:=RO p;have gT:=zE p;have F:=s.r.fx;have H:¬l.q:=by rwa[s.r.q]
 have V:∀y:â,y=⟨an,pl,Á⟩->iq.r y:=λy ha=>by rwa[ha]
 have nI:a.tmps[1]?=Â (Æ (Â ⟨an,0,Á⟩) i i):=(m.C A).trans uQ;have Y:a.tmps[4]?=Â (À<|Â ⟨j,0,Á⟩):=(m.C A).trans Hp;have t:∀c g,iq.w.cell? ⟨j,c,Á⟩=Â g->gX l ⟨j,c,Á⟩/\l.w.cell? ⟨j,c,Á⟩=Â g:=λc g h=>⟨Ã<|Ã<|s.r.O j hO,by rwa[gN<|s.r.r j<|Ã hO]⟩;have RV:¬((⟨n,2,Á⟩:â)=⟨an,pl,Á⟩):=λq=>W.Y _ B<|q▸X;have N:gX l ⟨n,2,Á⟩/\l.w.cell? ⟨n,2,Á⟩=Â z:=⟨Ç (Ç<|by rwa[s.r.c]),by rwa[s.r.e _ (Ç X) RV]⟩;have RY:(pl:Int)<(i:Int):=Z
 have ku:wi.size=13:=A
 rw[ku]at gT;match b,gT with
 |0,_=>
  refine im (o:=Hl) E m U U p (by k_ne) F H (λk r=> ?_) (λk r e u=> ?_)<|s.C A A B
  .simp only[rh,Hl];go_simp
  .simp[go_sem,Hl,nI]at u
 |1,_=>
  refine im (o:=Hm) E m U U p (by k_ne) F H (λk r=> ?_) (λk r e u=> ?_)<|s.C A A B
  .simp only[rh,Hm];go_simp
  .simp[go_sem,Hm,Y]at u
 |2,_=>
  have R0:a.tmps[15]?=Â (À<|Â ⟨j,1,Á⟩):=m.r 1 Hm 15 U (ig (o:=Em) p U U) U;refine im (o:=Em) E m U U p (by k_ne) F H (λk r=> ?_) (λk r e u=> ?_)<|s.C A A B
  .have D:k.cell? ⟨j,1,Á⟩=Â (Ê Î pl):=((t 1 _ K).1.r r).trans (t 1 _ K).2;simp only[rh,Em];go_simp
  .have D:k.cell? ⟨j,1,Á⟩=Â (Ê Î pl):=((t 1 _ K).1.r r).trans (t 1 _ K).2;have I:e=⟨û ⟨j,1,Á⟩,Ì,Ì⟩:=by simp[go_sem,Em,D,R0]at u;exact u
   subst I;exact(t 1 _ K).1.rd
 |3,_=>
  refine im (o:=Hn) E m U U p (by k_ne) F H (λk r=> ?_) (λk r e u=> ?_)<|s.C A A B
  .simp only[rh,Hn];go_simp
  .simp[go_sem,Hn,Y]at u
 |4,_=>
  have R1:a.tmps[17]?=Â (À<|Â ⟨j,2,Á⟩):=m.r 3 Hn 17 U (ig (o:=En) p U U) U;refine im (o:=En) E m U U p (by k_ne) F H (λk r=> ?_) (λk r e u=> ?_)<|s.C A A B
  .have D:k.cell? ⟨j,2,Á⟩=Â (À<|Â ⟨n,0,Á⟩):=((t 2 _ M).1.r r).trans (t 2 _ M).2;simp only[rh,En];go_simp
  .have D:k.cell? ⟨j,2,Á⟩=Â (À<|Â ⟨n,0,Á⟩):=((t 2 _ M).1.r r).trans (t 2 _ M).2;have I:e=⟨û ⟨j,2,Á⟩,Ì,Ì⟩:=by simp[go_sem,En,D,R1]at u;exact u
   subst I;exact(t 2 _ M).1.rd
 |5,_=>
  have R8:a.tmps[18]?=Â (À<|Â ⟨n,0,Á⟩):=m.r 4 En 18 U (ig (o:=Eo) p U U) U;refine im (o:=Eo) E m U U p (by k_ne) F H (λk r=> ?_) (λk r e u=> ?_)<|s.C A A B
  .simp only[rh,Eo];go_simp
  .simp[go_sem,Eo,R8]at u
 |6,_=>
  have h19:a.tmps[19]?=Â (À<|Â ⟨n,0,Á⟩):=m.r 5 Eo 19 U (ig (o:=Ep) p U U) U;refine im (o:=Ep) E m U U p (by k_ne) F H (λk r=> ?_) (λk r e u=> ?_)<|s.C A A B
  .simp only[rh,Ep];go_simp
  .simp[go_sem,Ep,h19]at u
 |7,_=>
  have Lb:a.tmps[20]?=Â (À<|Â ⟨n,2,Á⟩):=m.r 6 Ep 20 U (ig (o:=Er) p U U) U;refine im (o:=Er) E m U U p (by k_ne) F H (λk r=> ?_) (λk r e u=> ?_)<|s.C A A B
  .have D:k.cell? ⟨n,2,Á⟩=Â (z):=(N.1.r r).trans N.2;simp only[rh,Er];go_simp
  .have D:k.cell? ⟨n,2,Á⟩=Â (z):=(N.1.r r).trans N.2;have I:e=⟨û ⟨n,2,Á⟩,Ì,Ì⟩:=by simp[go_sem,Er,D,Lb]at u;exact u
   subst I;exact N.1.rd
 |8,_=>
  refine im (o:=Ho) E m U U p (by k_ne) F H (λk r=> ?_) (λk r e u=> ?_)<|s.C A A B
  .simp only[rh,Ho];go_simp
  .simp[go_sem,Ho,Y]at u
 |9,_=>
  have Hh:a.tmps[22]?=Â (À<|Â ⟨j,0,Á⟩):=m.r 8 Ho 22 U (ig (o:=Es) p U U) U;refine im (o:=Es) E m U U p (by k_ne) F H (λk r=> ?_) (λk r e u=> ?_)<|s.C A A B
  .have D:k.cell? ⟨j,0,Á⟩=Â (v):=((t 0 _ J).1.r r).trans (t 0 _ J).2;simp only[rh,Es];go_simp
  .have D:k.cell? ⟨j,0,Á⟩=Â (v):=((t 0 _ J).1.r r).trans (t 0 _ J).2;have I:e=⟨û ⟨j,0,Á⟩,Ì,Ì⟩:=by simp[go_sem,Es,D,Hh]at u;exact u
   subst I;exact(t 0 _ J).1.rd
 |10,_=>
  have R9:a.tmps[21]?=Â (z):=m.r 7 Er 21 U (ig (o:=BQ) p U U) U;have h23:a.tmps[23]?=Â (v):=m.r 9 Es 23 U (ig (o:=BQ) p U U) U;refine Zn (o:=BQ) E m U U p (by k_ne) F (f:=67) (args:=#[z,v]) (λw=>by simp only[BQ];go_simp) (λw=>ł (o:=BQ) U Tryz.func67 U U #[]) λk r=> ?_;have I:=s.r.N V r;refine((R7 _ I _ _).mq<|I.G W).fR ?_;rintro P S ⟨y,⟨hy0,T,rfl,hQ⟩,rfl,hA,Zq,ajv,ajw⟩;refine⟨T,U,⟨I.RP V hA hy0,λ_=>hQ,λq=> ?_⟩,λc hj=> ?_⟩
  .rw[ç Ì A]at q;exact absurd (m.I (o:=BS) U q U)<|xF Zt
  .match c,hj with
   |10,hj=>exact absurd hj<|xF Zt
   |0,_|1,_|2,_|3,_|4,_|5,_|6,_|7,_|8,_|9,_|11,_|12,_|n+13,_=>rfl
 |11,_=>
  have I:a.tmps[14]?=Â (Æ (Â ⟨an,0,Á⟩) i i):=m.r 0 Hl 14 U (ig (o:=BR) p U U) U;have h16:a.tmps[16]?=Â (Ê Î pl):=m.r 2 Em 16 U (ig (o:=BR) p U U) U;refine im (o:=BR) E m U U p (by k_ne) F H (λk r=> ?_) (λk r e u=> ?_)<|s.C A A B
  .simp only[rh,BR];go_simp
  .simp[go_sem,BR,rL,RY,I,h16]at u
 |12,_=>
  have h25:a.tmps[25]?=Â (À<|Â ⟨an,pl,Á⟩):=m.r 11 BR 25 U (ig (o:=BS) p U U) U;have K6:a.tmps[24]?=Â (à x):=m.r 10 BQ 24 U (ig (o:=BS) p U U) U;have I:(l.w.cell? ⟨an,pl,Á⟩).isSome=Ò:=s.r.g _ U e2;have BN:l.w.frozen? ⟨an,pl,Á⟩=Ì:=(s.r.S _<|Ã B).trans z2;have lM:qo l ⟨an,pl,Á⟩:=Ç (by rwa[s.r.I]);refine RR (o:=BS) (y:=⟨an,pl,Á⟩) (v:=à x) E m U U U p (by k_ne) F H U lM I BN (λw D e=> ?_) (λw D e=> ?_) λk r=> ?_
  .let⟨u,hu⟩:=Ô.1 D;simp only[BS];go_simp
  .let⟨u,hu⟩:=Ô.1 D;simp[go_sem,BS,h25,K6,á _ _ _ _ _ _ (show Ø (à x)=Ò from rfl),hu,e]
  .have hA:=s.r.qN W V (x:=⟨an,pl,Á⟩) (v:=à x) U U I;refine⟨hA.N V ⟨r.r,r.I,r.N,r.Y,r.S⟩,λq=> ?_,λq=> ?_⟩
   .rw[ç Ì A]at q;exact s.vW q
   .exact(r.N _<|by rw[s.r.C];exact Ã B).trans<|A7 (Ô.1 I).choose_spec
 |n+13,h=>exact absurd h Z
end
def zP:Array å:=#[⟨Â 6,.recv 165 (Ù 5) Ò,0, "work.go:63",#[],Á⟩,⟨Â 7,Ő (Ù 6) 1,4, "work.go:63",#[⟨0,Ü⟩],Á⟩]
def Zu:Array å:=#[⟨Â 8,Ő (Ù 6) 0,155, "work.go:63",#[],Á⟩,⟨Â 4,.alloc 155,0, "work.go:63",#[],Á⟩,⟨Á,š 155 (Ù 4)<|Ù 8,0, "work.go:63",#[⟨1,Ü⟩,⟨0,Ü⟩,⟨0,Í⟩,⟨1,Í⟩],Á⟩]
def Sb:Array å:=#[⟨Â 9,ð 155 (Ù 4) 2,0, "work.go:64",#[],Á⟩,⟨Â 10,ć 86<|Ù 9,86, "work.go:64",#[⟨0,Ü⟩],Á⟩,⟨Â 11,ĩ<|Ù 10,0, "work.go:64",#[⟨1,Ü⟩],Á⟩,⟨Â 12,ð 105 (Ù 11) 0,0, "work.go:64",#[⟨2,Ü⟩],Á⟩,⟨Â 13,Ě {callee:=ĕ<|ĸ 53,args:=#[Ù 12],argTypes:=#[97]},0, "work.go:64",#[⟨3,Ü⟩],Á⟩]
def Eu:Ę:=((Ť (Ù 7) ť<|Ŧ 0).seq<|İ 1<|(ä 2 Zu Ì).seq<|(ä 3 Sb Ì).seq<|ä 4 wi Ò)
def BT:Ę:=(ä 1 zP Ì).seq Eu
def ajJ:Array å:=#[⟨Â 2,ć 101<|Ù 0,101, "work.go:30",#[],Á⟩,
 ⟨Â 3,ć 25<|Ù 1,25, "work.go:30",#[],Á⟩,
 ⟨Â 4,Ě {callee:=ĕ (ĸ 51),args:=#[Ù 2,Ù 3],argTypes:=#[165,25]},0, "work.go:30",#[⟨0,Ü⟩,⟨1,Ü⟩],Á⟩]
def Hq(a b c d e:Ï):é:=(base 50).at ⟨#[a,b,c,d,e],[]⟩ [Ñ ajJ [2]]
def Zv(t:Array Ï)(a:List é):Ý:=G ((base 51).at ⟨t,[]⟩ [ö BT,ą BT,ô 0]) a
def zR(t:Array Ï)(a:List é):Ý:=G ((base 51).at ⟨t,[]⟩ [Ñ zP [0,1],ö Eu,ą BT,ô 0]) a
def Lc(t:Array Ï)(a:List é):Ý:=G ((base 51).at ⟨t,[]⟩ [Ñ Sb [],ö<|ä 4 wi Ò,ô 1,ą BT,ô 0]) a
def Sc(t:Array Ï)(a:List é):Ý:=G ((base 51).at ⟨t,[]⟩ [Ñ zP [1],ö Eu,ą BT,ô 0]) a
def Zw(t:Array Ï)(v:Ï)(a:List é):({zR t a with frame:=(zR t a).frame.finish v}:Ý)=Sc (t.setIfInBounds 6 v) a:=by have:(zR t a).frame.finish v=(base 51).at (Ο ⟨t,[]⟩ (Â 6) v) [Ñ zP [1],ö Eu,ą BT,ô 0]:=Ģ _ _ _ _ _ _ _;rw[this];rfl
def zT:Ï:=Đ #[À Á,Ê Î 0,À Á,À Á]
structure QT(an N ch:Nat)(t:Array Ï):Prop where
 r:t.size=26
 C:t[1]?=Â (Æ (Â ⟨an,0,Á⟩) N N)
 I:t[5]?=Â (è<|Â ch)
def ajK(t:Array Ï)(h:t.size=26):∃a b c d e f g i j k l m n o p q r s u v w x y z B C:Ï,t=#[a,b,c,d,e,f,g,i,j,k,l,m,n,o,p,q,r,s,u,v,w,x,y,z,B,C]:=by obtain⟨_,rfl⟩:=vY t h;exact⟨_,_,_,_,_,_,_,_,_,_,_,_,_,_,_,_,_,_,_,_,_,_,_,_,_,_,U⟩
section
variable{Ψ:ß->Prop}{J u:Jd}{l:fc}{t:Array Ï}{ch an N:Nat}{a:Option â}{Q:ByteArray->Prop}{o p r s c f:Ï}{τ:fc->fc}
def Zx(a:jZ l)(b:fi Ä Ì J l (zR t qX)):fi Ä Ì J l (Zv t qX):=by apply fN (n:=5) a;have hF:=trivial;simp only[Zv,BT];w_go fu;u_c ĺ fu hF;exact Ë λ_ _=>b
def ajL(a:jZ l)(d:¬l.q)(e:gX l ⟨k,0,Á⟩)(g:gX l ⟨b,0,Á⟩)(i:gX l ⟨n,0,Á⟩)(j:l.w.cell? ⟨k,0,Á⟩=Â (Ĉ (ù 50) #[] #[À<|Â ⟨b,0,Á⟩,À<|Â ⟨n,0,Á⟩]))(u:l.w.cell? ⟨b,0,Á⟩=Â (è<|Â ch))(v:l.w.cell? ⟨n,0,Á⟩=Â (Æ (Â ⟨an,0,Á⟩) N N)) (y:∀t o p r s x z jQ c f,QT an N ch t->fi Ä Ì J l (zR t [Hq x z jQ c f,zO m o p r s,n8 Ä])): fi Ä Ì J l (born Ä<|pF 63 #[À<|Â ⟨m,0,Á⟩,À<|Â ⟨k,0,Á⟩] #[]):=by
 apply fN (n:=30) a;have hF:=trivial;u_c (Ze Ů fP U) fu hF;walk_nrmf Κ;iterate 3 w_go fu
 u_c (Zc U U (by k_ne) U U) fu hF
 walk_nrm;repeat w_go fu
 refine Ë λ_ _=> ?_;apply oZ U U (by k_ne) a d e j (λw h=>by go_simp) (λw h=>by simp[go_sem,h]);walk_nrm;apply fN (n:=30) a;u_c (Zd U U (by k_ne) U U ű fP U) fu hF;walk_nrmf Tryz.f50;w_go fu;refine Ë λ_ _=> ?_;apply oZ U U (by k_ne) a d g u (λw h=>by go_simp) (λw h=>by simp[go_sem,h]);walk_nrm;apply oZ U U (by k_ne) a d i v (λw h=>by go_simp) (λw h=>by simp[go_sem,h]);walk_nrm;apply fN (n:=30) a;u_call Ų fP Tryz.f51 fu hF;iterate 6 w_go fu
 refine Ë λ_ _=> ?_;exact Zx a<|y _ _ _ _ _ _ _ _ _ _ ⟨U,U,U⟩
def ajM{Y:Ï}(G:gA l)(M:¬l.q)(P:l.d=0)(hT:QT an N ch t)(hB:60<=i)(ajN:Y=Đ #[À a,Ê Î j7,À<|Â ⟨j9,0,Á⟩,À O])(Q:l.K ⟨j9,0,Á⟩/\l.K ⟨j9,1,Á⟩)(Hr:nH j9 l.w) (Sd:l.K ⟨j,0,Á⟩/\l.K ⟨j,1,Á⟩) (hsa:nH j l.w) (hs:gX l ⟨m,0,Á⟩) (hc:l.w.cell? ⟨m,0,Á⟩=Â (À<|Â ⟨j,0,Á⟩)) (ajO:∀H k t',iH fg l H->H.d=0->H.O k->H.w.cell? ⟨k,0,Á⟩=Â (À a)->H.w.cell? ⟨k,1,Á⟩=Â (Ê Î j7)->H.w.cell? ⟨k,2,Á⟩=Â (À<|Â ⟨j9,0,Á⟩)->QT an N ch t'->t'[4]?=Â (À<|Â ⟨k,0,Á⟩)->u H (Lc t' [Hq x z jQ c f,zO m o p r s,n8 Ä])): xp Ä Ì ch zT (λb=>match b with
  |some v=>λl g=>v=Y->qV Ä Ì i j9 u .jc l g
  |none=>λl g=>zg Ä Ì j (Ea Ä) (kI l) g) l (zR t [Hq x z jQ c f,zO m o p r s,n8 Ä]):=by
 obtain⟨y0,y1,y2,y3,y4,y5,y6,y7,y8,y9,xH,zL,xI,rX,td,rf,vZ,we,uS,uT,uU,tf,tg,tj,rQ,s6,rfl⟩:=ajK t hT.r;obtain rfl:y1=Æ (Â ⟨an,0,Á⟩) N N:=by simpa using hT.C
 obtain rfl:y5=è (Â ch):=by simpa using hT.I
 have hF:=trivial;refine⟨U,U,λD=> ?_,λb=> ?_⟩
 .refine(Ż (cases:=#[rcase ch zT]) (blocking:=Ò) (shape:=.recv Ò) (w':=D) rfl rfl (by k_ne) ?_).trans ?_
  .simp[go_sem,zP,ĉ,rcase,zT]
  .simp[listed,go_sem,zP,ĉ,Ī];rfl
 cases b with
 |none=>
  rw[Zw];simp only[Sc,Eu,zP,Option.getD_none,ı,ē,Ĳ,ĳ];apply fN (n:=30) G.r;iterate 6 w_go fu
  u_leave0 Ų fu hF
  iterate 2 w_go fu
  u_leave0 ű fu hF
  refine Ë λ_ _=> ?_;exact Zp (Ψ:=λ_=>True) Sd ⟨Ã Sd.1,Ã Sd.2,λ_ _ _ _ _ _ _ _=>trivial⟩ ⟨G.r,hsa,trivial⟩ P M hs hc
 |some v=>
  by_cases hv:v=Y
  .subst hv;subst ajN;apply fi.fR λl g h _=>h;rw[Zw];simp only[Sc,Eu,zP,Ń,Option.isSome_some,ē,Ĳ,ĳ];apply fN (n:=30) G.r;iterate 7 w_go fu
   u_c ĺ fu hF
   simp only[Zu,Ļ,ń,ŋ,ś,č,ã,List.range.loop];w_go fu;refine Ë λ_ _=> ?_;have rY:∀y:â,False->l.r y:=λy ha=>ha.elim;refine Hi (ob:=É #[À Á,Ê Î 0,À Á,À Á] 155) U U (by k_ne) G.r M (λw=>by go_simp) (λw=>by simp[go_sem]) λD jY=> ?_;walk_nrm;have S:iH fg l (gI l D<|É #[À Á,Ê Î 0,À Á,À Á] 155):=K8 G rY jY;have nI:(gI l D<|É #[À Á,Ê Î 0,À Á,À Á] 155).w.heap[D.heap.size]?=Â (É #[À Á,Ê Î 0,À Á,À Á] 155):=na;have tq:=jY.r;have I:(gI l D<|É #[À Á,Ê Î 0,À Á,À Á] 155).O D.heap.size:=Ç U;generalize gI l D (É #[À Á,Ê Î 0,À Á,À Á] 155)=l₁ at S nI I|-;generalize D.heap.size=k at nI I tq|-;refine vS U U (by k_ne) λC oE=> ?_;have J:=(oE.I k<|Ã I).trans nI;have Ev:C.cell? ⟨k,0,Á⟩=Â (À Á):=by simp[Ö,J]
   have xE:C.cell? ⟨k,1,Á⟩=Â (Ê Î 0):=by simp[Ö,J]
   have qt:C.cell? ⟨k,2,Á⟩=Â (À Á):=by simp[Ö,J]
   have tu:C.cell? ⟨k,3,Á⟩=Â (À Á):=by simp[Ö,J]
   have hz:∀g,C.frozen? ⟨k,g,Á⟩=Ì:=λg=>by simp[î,J]
   go_simp;refine⟨{l₁ with w:=iY C k (À a) (Ê Î j7) (À<|Â ⟨j9,0,Á⟩) (À O)},K9 (mb S.fx oE) (by rwa[S.q]) I xG (λg F=>zH F) ⟨U,U,U⟩ λe L=> ?_,?_⟩
   .have E:=đ L;have B:∀g,qo l₁ ⟨k,g,Á⟩:=λg=>Ã I;simp[go_sem,á _ _ _ _ _ _ (show Ø (À a)=Ò from rfl),á _ _ _ _ _ _ (show Ø (À<|Â ⟨j9,0,Á⟩)=Ò from rfl),á _ _ _ _ _ _ (show Ø (À O)=Ò from rfl),Ev,xE,qt,tu,hz]at E;rcases E with rfl|rfl|rfl|rfl
    .exact(B _).r
    .exact(B _).r
    .exact(B _).r
    .exact(B _).r
   obtain⟨T,V,L,c3⟩:=R2 Ev xE qt tu;have E:=R3 (w':=iY C k (À a) (Ê Î j7) (À<|Â ⟨j9,0,Á⟩)<|À O) G rY S oE tq xG λg F=>zH F;have W:({l₁ with w:=iY C k (À a) (Ê Î j7) (À<|Â ⟨j9,0,Á⟩) (À O)}:fc).O k:=I;replace T:({l₁ with w:=iY C k (À a) (Ê Î j7) (À<|Â ⟨j9,0,Á⟩) (À O)}:fc).w.cell? ⟨k,0,Á⟩=_:=T;replace V:({l₁ with w:=iY C k (À a) (Ê Î j7) (À<|Â ⟨j9,0,Á⟩) (À O)}:fc).w.cell? ⟨k,1,Á⟩=_:=V;replace L:({l₁ with w:=iY C k (À a) (Ê Î j7) (À<|Â ⟨j9,0,Á⟩) (À O)}:fc).w.cell? ⟨k,2,Á⟩=_:=L;generalize({l₁ with w:=iY C k (À a) (Ê Î j7) (À<|Â ⟨j9,0,Á⟩) (À O)}:fc)=l₂ at T V L E W|-;have X:=E.G G;have qp:¬l₂.q:=by rwa[E.q]
   apply fN (n:=9) X.r;iterate 2 w_go fu
   u_c ĺ fu hF
   simp only[Sb,Ļ,ń,ŋ,ś,č,ã,List.range.loop];w_go fu;refine Ë λ_ _=> ?_;apply oZ U U (by k_ne) X.r qp (Ã<|Ã W) L (λw h=>by go_simp) (λw h=>by simp[go_sem,h]);walk_nrm;apply fN (n:=9) X.r;iterate 2 w_go fu
   u_call re.f_wait (nm_wait Lk) waitFn fu hF
   refine Ë λ_ _=> ?_;have k2:mo (λw=>fG l₂ l₂.w w) l₂ j9:=⟨Ã (by rw[E.K];exact Q.1),Ã (by rw[E.K];exact Q.2),λw D h1 h2 h3 h4 h5 h=>h.ff ⟨h1,h2,h3,h4,h5⟩⟩;have s2:SW (λw=>fG l₂ l₂.w w) l₂ j9 l₂.w:=⟨X.r,⟨E.b _ Q.1 Hr.1,E.b _ Q.2 Hr.2⟩,fG.fX _ _⟩;refine Za re hB k2 s2 (E.d.trans P) λD Zy=> ?_;walk_nrm;refine .fB λzD F=> ?_;have B:=E.N rY<|Zy.2.2.ff ⟨F.r,F.I,F.N,F.Y,F.S⟩;have hdd:=E.d.trans P;have BU:iH fg l ({l₂ with d:=0,w:=zD}:fc):=⟨B.O,B.h,B.Y,B.I,B.c,B.K,B.q,P.symm,B.fx,B.f,B.r,B.e,B.S,B.b,B.g⟩;have rr:=Zy.2.2.ff ⟨F.r,F.I,F.N,F.Y,F.S⟩;have cc:∀g,zD.cell? ⟨k,g,Á⟩=l₂.w.cell? ⟨k,g,Á⟩:=λg=>gN<|rr.I k<|Ã W;exact ajO {l₂ with d:=0,w:=zD} k _ BU U W ((cc 0).trans T) ((cc 1).trans V) ((cc 2).trans L) ⟨U,U,U⟩ U
  .exact .fB λ_ _ e=>absurd e hv
end
section
variable{J:Jd}{l:fc}{t:Array Ï}{N:Nat}{Q:ByteArray->Prop}
def uW(f:gA l)(C:¬l.q)(g:QT i N n t)(L:t[4]?=Â (À<|Â ⟨k,0,Á⟩))(M:l.O k) (P:l.w.cell? ⟨k,0,Á⟩=Â (À O)) (S:l.w.cell? ⟨k,1,Á⟩=Â (Ê Î b)) (T:l.w.cell? ⟨k,2,Á⟩=Â (À<|Â ⟨j,0,Á⟩)) (V:l.N ⟨j,2,Á⟩) (W:l.w.cell? ⟨j,2,Á⟩=Â v) (o:l.r ⟨i,b,Á⟩) (X:(l.w.cell? ⟨i,b,Á⟩).isSome=Ò) (Y:l.w.frozen? ⟨i,b,Á⟩=Ì) (rL:b<N) (R7:∀e,iH (λa=>a=⟨i,b,Á⟩) l e->∀D E,fi Ä Ì (λl'' g'=>l''.d=e.d/\∃F,g'=G (D.finish<|à F) E/\Q F) (mq e)<|G (Ă Ä 67 #[v,À O] Ğ)<|D::E) (hJ:∀e x H,iH (λa=>a=⟨i,b,Á⟩) l e->Q x->e.w.cell? ⟨i,b,Á⟩=Â (à x)->QT i N n H->J e (zR H qX)): fi Ä Ì J l (Lc t qX):=by
 have I:∀y:â,y=⟨i,b,Á⟩->l.r y:=λy ha=>by rwa[ha]
 have hF:=trivial;apply fN (n:=3) f.r;simp only[Lc];w_go fu;refine Ë λ_ _=> ?_;refine K2 (II wi t (rh k j i N b (À O) v)<|Et l i b Q) f.r C (λm h=> ?_) (λp s a l c m u r=>ajI f C g.r g.C L M P S T V W o X Y rL R7 p s a l c m u r) λp s a kE u z B=> ?_
 .refine⟨ByteArray.empty,lL.G _ _ _,(iH.fX f.r).N I ⟨h.r,h.I,h.N,h.Y,h.S⟩,λq=> ?_,λq=> ?_⟩<;>exact absurd q A
 let⟨x,m,h⟩:=u;have K:∀c∈ã 13,s.getD c Ì=Ò:=by
  cases p
  .exact pG B z (ã 13) [] fP λc r=>by cases r
  .exact pG B z (ã 13) [] fP λc r=>by cases r
  .exact pG B z (ã 13) [] fP λc r=>by cases r
 have p:=h.r.G f;let⟨z,B⟩:=a;obtain rfl:B=[]:=m.M;apply fN (n:=9) p.r;iterate 3 w_go fu
 refine Ë λ_ _=> ?_;refine Zx p.r<|.fB λw₁ r=>(hJ {kE with w:=w₁} x z (h.r.N I r) (h.vW<|K 10 A) ((r.N _<|Ã<|by rwa[h.r.I]).trans<|h.I<|K 12 A) ⟨m.S.trans g.r,((m.C A).trans g.C),((m.C A).trans g.I)⟩)
end
structure gk(X:Nat->Prop)(l l':fc):Prop where
 O:∀j,l.O j->l'.O j
 c:∀j,l'.O j->l.O j\/l.w.heap.size<=j
 S:l'.I=l.I
 Y:l'.r=l.r
 b:l'.N=l.N
 K:l'.K=l.K
 q:l'.q=l.q
 d:l'.d=l.d
 fx:jZ l'
 I:l.w.heap.size<=l'.w.heap.size
 r:∀j,l.M j->¬X j->l'.w.heap[j]?=l.w.heap[j]?
 f:∀a,l.C a->l'.w.cell? a=l.w.cell? a
 g:∀a,l.C a->l'.w.frozen? a=l.w.frozen? a
 e:∀a,l.K a->(l.w.cell? a).isSome=Ò->(l'.w.cell? a).isSome=Ò
section
variable{l l' l'':fc}
theorem gk.fX(h:jZ l):gk X l l:=⟨λ_ h=>h,λ_ h=>Ã h,U,U,U,U,U,U,h,Ú _,λ_ _ _=>rfl,λ_ _=>rfl,λ_ _=>rfl,λ_ _ h=>h⟩
def gk.C(h:gk X l l'):l'.C=l.C:=by unfold fc.C;rw[h.Y,h.b]
def gk.M(h:gk X l l')(a:l.M b):l'.M b:=a.imp (h.O b)<|by rw[h.S];exact id
def gk.ff(h:gk X l l')(k:gk X l' l''):gk X l l'':=by have e:=h.C;exact⟨λj c=>k.O j<|h.O j c,λj c=>(k.c j c).elim (h.c j) λq=>Ç<|Õ h.I q,k.S.trans h.S,k.Y.trans h.Y,k.b.trans h.b,k.K.trans h.K,k.q.trans h.q,k.d.trans h.d,k.fx,Õ h.I k.I,λj c f=>(k.r j (h.M c) f).trans<|h.r j c f,λa b=>(k.f a<|by rwa[e]).trans<|h.f a b,λa b=>(k.g a<|by rwa[e]).trans<|h.g a b,λa b q=>k.e a (by rwa[h.K])<|h.e a b q⟩
def gk.G(h:gk X l l'){w₁:ß}(r:fG l' l'.w w₁):gk X l {l' with w:=w₁}:= h.ff ⟨λ_ q=>q,λ_ q=>Ã q,U,U,U,U,U,U,mb h.fx r,r.r,λj a _=>r.I j a,r.N,r.Y,r.S⟩
def gk.fR{a:Nat->Prop}(h:gk X l l')(c:∀j,l.M j->X j->a j):gk a l l':=⟨h.O,h.c,h.S,h.Y,h.b,h.K,h.q,h.d,h.fx,h.I,λj b e=>h.r j b λq=>e<|c j b q,h.f,h.g,h.e⟩
def gk.N(h:gk X l l')(s:gA l):gA l' where
 c b hb:=by
  rw[h.S];rcases h.c b hb with q|q
  .exact s.c b q
  .exact λz=>by have:=s.fx b<|Ç z;omega
 Y a ha:=by rw[h.b];exact s.Y a<|by rwa[<-h.Y]
 N a ha hb:=by
  rw[h.C]at ha;rcases hb with q|q
  .rcases h.c _ q with z|z
   .exact s.N a ha<|Ã z
   .have:=s.I a ha;omega
  .rw[h.S]at q;exact s.N a ha<|Ç q
 fx b hb:=by
  rcases hb with q|q
  .exact h.fx b q
  .rw[h.S]at q;exact È (s.fx b<|Ç q) h.I
 I a ha:=by rw[h.C]at ha;exact È (s.I a ha) h.I
 S a ha:=by
  rw[h.K]at ha;let⟨c,d,e⟩:=s.S a ha;refine⟨λq=> ?_,È d h.I,by rwa[h.Y]⟩;rcases q with q|q
  .rcases h.c _ q with z|z
   .exact c<|Ã z
   .omega
  .rw[h.S]at q;exact c<|Ç q
def ng{ob:Ÿ}(s:gA l){w₁:ß}(r:fG l l.w w₁):gk X l (gI l w₁ ob):=by have h:=K8 (E:=fg) (ob:=ob) s (λ_ q=>q.elim) r;exact⟨h.O,h.h,h.Y,h.I,h.c,h.K,h.q,h.d,h.fx,h.f,λj b _=>h.r j b,λa c=>h.e a c id,h.S,h.b⟩
def Ld{w':ß}{p:Nat}(s:gA l)(r:fG l l.w u)(c:l.O p)(g:X p)(d:w'.heap.size=u.heap.size)(b:∀j,j≠p->w'.heap[j]?=u.heap[j]?):gk X l {l with w:=w'}:=by
 have f:∀a:â,l.C a->a.block≠p:=λa h e=>s.N a h<|Ã<|e▸c;refine⟨λ_ q=>q,λ_ q=>Ã q,U,U,U,U,U,U,λj q=> ?_,?_,λj q n=>(b j λe=>n<|e▸g).trans<|r.I j q,λa q=>(gN<|b _<|f a q).trans<|r.N a q,λa q=>(xo<|b _<|f a q).trans<|r.Y a q,λa q z=> ?_⟩
 .show j<w'.heap.size;rw[d];exact È (s.fx j<|Ã q) r.r
 .show l.w.heap.size<=w'.heap.size;rw[d];exact r.r
 .show(w'.cell? a).isSome=Ò;rw[gN (b a.block λe=>(s.S a q).1<|Ã<|e▸c)];exact r.S a q z
end
section
variable{J:Jd}{l:fc}{a:ŏ}{k:List ŷ}{cs:List é}{ob:Ÿ}
def pI{V:Nat->Ï}(c:Q[i]?=Â o)(d:Ė o (ţ Q a.tmps)=Ò)(e:f.kind≠Ź)(g:jZ l)(h:¬l.q) (j:∀w,(ĉ a.eval o).run P w=.ok (.value<|V w.heap.size) (w.alloc ob)) (m:∀w,(ĉ a.eval o).events P w #[]=#[]) (n:∀b,fG l l.w b->fi P yQ J (gI l b ob) (G (f.at (a.put o.dst<|V b.heap.size)<|Ñ Q jJ::k) cs)):fi P yQ J l (G (f.at a<|Ñ Q (i::jJ)::k) cs):=by
 refine vS c d e λb r=> ?_;rw[j b];refine⟨_,?_,n b r⟩;have:listed P f.fn a o b=#[]:=by unfold listed;rw[m b,Ī]
 rw[this];exact Zr (mb g r) h
def Hs{p off:Nat}{u:Ï}(m:Q[i]?=Â o)(n:Ė o (ţ Q a.tmps)=Ò)(s:f.kind≠Ź)(t:jZ l)(x:¬l.q)(b:l.O p)(d:l.w.cell? ⟨p,off,Á⟩=Â u)(y:l.w.frozen? ⟨p,off,Á⟩=Ì)(z:o.dst=Á) (B:∀w,w.cell? ⟨p,off,Á⟩=Â u->w.frozen? ⟨p,off,Á⟩=Ì->(ĉ a.eval o).run P w=.ok .skip (w.setCell ⟨p,off,Á⟩ v)) (C:∀w,w.cell? ⟨p,off,Á⟩=Â u->w.frozen? ⟨p,off,Á⟩=Ì->(ĉ a.eval o).events P w #[]=#[⟨û ⟨p,off,Á⟩,Ò,Ì⟩]) (D:fi P yQ J {l with w:=l.w.setCell ⟨p,off,Á⟩ v} (G (f.at a<|Ñ Q jJ::k) cs)):fi P yQ J l (G (f.at a<|Ñ Q (i::jJ)::k) cs):=by
 have E:gX l ⟨p,off,Á⟩:=Ã<|Ã b;refine vS m n s λg r=> ?_;have c:=(E.r r).trans d;have j:=(xo<|r.I p<|Ã b).trans y;rw[B g c j];refine⟨_,Zl U (mb t r) x (Ã b) λe h=> ?_,?_⟩
 .have:=đ h;rw[C g c j]at this;have:e=⟨û ⟨p,off,Á⟩,Ò,Ì⟩:=by simpa using this
  subst this;exact qo.r<|Ã b
 .have:(a.put o.dst Å)=a:=by rw[z];rfl
  rw[this];exact D.ki<|zx<|Zk U (by rw[d];rfl) (by rw[c];rfl) r
def nh(l:fc)(w₁ a:ß):fc:={l with O:=λf=>l.O f\/(w₁.heap.size<=f/\f<a.heap.size),w:=a}
def Le(s:gA l){w₁:ß}(r:fG l l.w w₁){a:Option Nat}(d:w₁.grownBy u a)(c:∀k,a=Â k->l.O k/\X k):gk X l (nh l w₁ u):=by
 have i:=r.r;have m:=d.size;have b:∀j,j<l.w.heap.size->Â j≠a->u.heap[j]?=w₁.heap[j]?:=λj o g=>d.block j Z g;have f:∀x:â,l.C x->Â x.block≠a:=λx h e=>s.N x h<|Ã (c _ e.symm).1;refine⟨λ_ q=>Ã q,λj q=>q.imp id λz=>by omega,U,U,U,U,U,U,λj q=> ?_,?_,λj q n=>(b j (s.fx j q) λe=>n (c j e.symm).2).trans<|r.I j q,λx q=>(gN<|b _ (s.I x q)<|f x q).trans<|r.N x q,λx q=>(xo<|b _ (s.I x q)<|f x q).trans<|r.Y x q,λx q z=> ?_⟩
 .show j<u.heap.size;rcases q with q|q
  .have:=s.fx j<|Ã q;omega
  .exact q.2
 .show l.w.heap.size<=u.heap.size;omega
 .show(u.cell? x).isSome=Ò;rw[gN (b x.block (s.S x q).2.1 λe=>(s.S x q).1<|Ã (c _ e.symm).1)];exact r.S x q z
def n9{w₁:ß}{sz:Nat}{xs:List Ï}(h:w.ownsRow i e sz v n xs)(a:∀k,v.ownBlock=Â k->w₁.heap[k]?=w.heap[k]?):w₁.ownsRow i e sz v n xs:=by refine⟨h.1,h.2.imp id ?_⟩;rintro⟨g,b,c,rfl,d,f,j⟩;exact⟨g,b,c,U,d,(a g U).trans f,j⟩
def Se{p:Nat}{u:Ï}(h:w.cell? ⟨p,0,Á⟩=Â u):∀j y,[u][j]?=Â y->w.cell? ⟨p,j,Á⟩=Â y
 |0,_,e=>Ó e▸h
 |_+1,_,e=>by cases e
def ajP{s a:List Ï}(h:P.underlying t=Â (.slice e))(k:P.info? e=Â zJ)(B:zJ.zero=Â z)(l:zJ.size=m)(C:a.length=m)(F:(n+1)*zJ.bytes<=140737488355328)(G:n+1<=œ) (o:w.ownsRow 0 e m v n s) (p:∀j y,a[j]?=Â y->w.cell? ((⟨b,0,Á⟩:â).add j)=Â y) (H:∀u∈a,u.oneCell'=Ò) (d:(Builtin.append_ #[t,t] T #[v,Æ (Â ⟨b,0,Á⟩) 1 i]).run P w=.ok x W):x.ownBlock=v.ownBlock\/x.ownBlock=Â w.heap.size:=by
 have q:a.length=1*zJ.size:=by rw[l,C];omega
 have L:n+1<=9223372036854775807:=by simp only[œ]at G;omega
 rcases o.2 with⟨rfl,rfl⟩|⟨g,r,D,rfl,_,I,M,N,J,O⟩
 .have f:=run_append_nil (P:=P) w t T e zJ z h k B ⟨b,0,Á⟩ 1 i a q p Z Z Z;rw[f]at d;cases d;exact Ç U
 .by_cases E:n+1<=r
  .have K:n*zJ.size+a.length<=D.size:=by
    rw[J,l,C,show n*m+m=(n+1)*m by rw[Nat.add_mul];omega];exact Nat.mul_le_mul_right _ E
   have f:=run_append_room (P:=P) w t T e zJ h k g n r D I ⟨b,0,Á⟩ 1 i a q p H E K;rw[f]at d;cases d;exact Ã U
  .have f:=run_append_grow (P:=P) w t T e zJ z h k B ⟨g,0,Á⟩ n r s (by rw[l];exact o.1) (o.cells (g:=g) U) ⟨b,0,Á⟩ 1 i a q p Z Z<|growslice_fits Z F;rw[f]at d;cases d;exact Ç U
theorem Ht{x:Ĥ}{inf:Ž}{c px sz:Nat}{xs us:List Ï}(ho:Q[i]?=Â o)(hw:Ė o (ţ Q a.tmps)=Ò)(hk:f.kind≠Ź)(sn:gA l)(hq:¬l.q) (V:o.op=Ě {callee:=Ŕ .append,args:=#[qQ,x],argTypes:=#[t,t]}) (W:a.eval qQ=v) (X:a.eval x=Æ (Â ⟨px,0,Á⟩) 1 c) (E:P.underlying t=Â (.slice e)) (F:P.info? e=Â inf) (H:inf.zero=Â z) (I:inf.size=sz) (ku:0<sz) (Lf:us.length=sz) (sd:z.cells.size=sz) (K:(n+1)*inf.bytes<=140737488355328) (L:n+1<=œ) (lM:l.w.ownsRow 0 e sz v n xs) (C:∀k,v.ownBlock=Â k->l.O k) (Zz:l.O px) (hu:∀j u,us[j]?=Â u->l.w.cell? ⟨px,j,Á⟩=Â u) (d:∀u∈us,u.oneCell'=Ò) (hn:∀b B g,fG l l.w b->g.ownsRow 0 e sz B (n+1) (xs++us)->b.grownBy g v.ownBlock->(∀k,B.ownBlock=Â k->(nh l b g).O k)->(B.ownBlock=v.ownBlock\/B.ownBlock=Â b.heap.size)->fi P yQ J (nh l b g) (G (f.at (a.put o.dst B)<|Ñ Q jJ::k) cs)): fi P yQ J l (G (f.at a<|Ñ Q (i::jJ)::k) cs):=by
 refine vS ho hw hk λb r=> ?_;have hM:∀k,l.O k->b.heap[k]?=l.w.heap[k]?:=λk q=>r.I k<|Ã q;have M:=n9 lM (w₁:=b) λk q=>hM k<|C k q;have N:∀j w,us[j]?=Â w->b.cell? ((⟨px,0,Á⟩:â).add j)=Â w:=λj w h=>by rw[ğ,č];grind [gN]
 have Y:us.length=1*sz:=Z
 let⟨B,g,iK,hown',p,zN⟩:=run_append_own (P:=P) b 0 t o.type e inf z sz inf.bytes E F H I U sd ku v n xs M ⟨px,0,Á⟩ 1 c us Y N d L K<|ă _;have uX:=ajP E F H I Lf K L M N d iK;refine uponK_append qQ x t V W X iK ⟨nh l b g,?_,hn b B g r hown' p (λk q=> ?_) uX⟩
 .have he:∀D∈listed P f.fn a o b,vT (nh l b g) D:=λD S=>by
   have h2:=đ S;rw[events_append_op qQ x t V W X]at h2;rcases(events_append_where (P:=P) b 0 t o.type e inf z sz inf.bytes E F H I rfl v n xs M ⟨px,0,Á⟩ 1 c us Y N d L K) D h2 with⟨ad,T,y⟩|⟨m,rfl,ajQ⟩
   .refine⟨Ã ⟨ad,T,Ã ?_⟩,by rw[T];simp,by rw[T];simp⟩;rcases y with⟨_,y⟩|y
    .exact Ã<|by rwa[y]
    .exact Ã<|C _ y.symm
   .have uC:m=.noRoom:=ajQ;subst uC;exact⟨Ç<|Ã U,fl,fl⟩
  refine⟨p.size,λj q=>q.imp id λz=>z.1,λj q=> ?_,U,U,U,U,λj T d _=>p.block j T λe=>d<|C j e.symm,λy m d _=>gN (p.block _ m λe=>d<|C _ e.symm),λy m d=>xn (p.block _ m λe=>d<|C _ e.symm),p.os,p.output,p.tape,λD S=>(he D S).1,(K0 he _).symm,U,λq=>absurd q hq,U⟩;rcases q with q|q
  .exact È ((mb sn.r r) j q) p.size
  .exact q.2
 .have y:k<g.heap.size:=(hown'.lt k q).2;rcases uX with m|m
  .exact Ã<|C k<|by rwa[<-m]
  .rw[m]at q;obtain rfl:=Ó q;exact Ç ⟨Ú _,y⟩
end
def ZA:Array å:=#[⟨Â 25,Ş (ù 48) #[] #[Ù 9,Ù 8],1, "work.go:24",#[],Á⟩,⟨Â 26,Ě {callee:=ĕ<|ĸ 47,args:=#[Ù 12,Ù 25],argTypes:=#[97,1]},0, "work.go:24",#[⟨0,Ü⟩],Á⟩]
def ZB:Array å:=#[⟨Â 13,ŧ<|Ũ<|Æ Á 0 0,100, "work.go:25",#[],Á⟩]
def ZC:Array å:=#[⟨Â 27,ę<|Ù 2,3, "work.go:26",#[],Á⟩,⟨Â 28,ę<|Ũ<|Ê Î 0,3, "work.go:26",#[],Á⟩]
def Sf:Array å:=#[⟨Â 29,Λ .lss 3 (Ù 28) (Ù 27) 3,4, "work.go:26",#[],Á⟩]
def ZD:Array å:=#[⟨Â 30,ę<|Ù 10,85, "work.go:28",#[],Á⟩,⟨Â 31,Ě {callee:=Ŕ .len,args:=#[Ù 30],argTypes:=#[85]},3, "work.go:28",#[⟨0,Ü⟩],Á⟩,⟨Â 32,.makeChan 101<|Ù 31,101, "work.go:28",#[⟨1,Ü⟩],Á⟩,⟨Â 14,.alloc 101,0, "work.go:28",#[],Á⟩,⟨Á,š 101 (Ù 14)<|Ù 32,0, "work.go:28",#[⟨3,Ü⟩,⟨2,Ü⟩,⟨0,Í⟩,⟨1,Í⟩,⟨2,Í⟩,⟨3,Í⟩],Á⟩]
def ZE:Array å:=#[⟨Â 33,ę<|Ù 13,100, "work.go:29",#[],Á⟩,⟨Â 34,ć 101<|Ù 14,101, "work.go:29",#[],Á⟩,⟨Â 35,.buildSlice 100 1 #[(0,Ù 34)],100, "work.go:29",#[⟨1,Ü⟩],Á⟩,⟨Â 36,Ě {callee:=Ŕ .append,args:=#[Ù 33,Ù 35],argTypes:=#[100,100]},100, "work.go:29",#[⟨0,Ü⟩,⟨2,Ü⟩],Á⟩,⟨Â 13,ŧ<|Ù 36,100, "work.go:29",#[⟨3,Ü⟩,⟨3,Ţ⟩,⟨0,Í⟩,⟨1,Í⟩,⟨2,Í⟩,⟨3,Í⟩],Á⟩]
def Lg:Array å:=#[⟨Â 37,Ş (ù 50) #[] #[Ù 14,Ù 8],1, "work.go:30",#[],Á⟩,⟨Â 38,Ě {callee:=ĕ<|ĸ 47,args:=#[Ù 12,Ù 37],argTypes:=#[97,1]},0, "work.go:30",#[⟨0,Ü⟩],Á⟩]
def Sg:Array å:=#[⟨Â 39,Λ .add 3 (Ù 28) (Ũ<|Ê Î 1) 3,3, "work.go:26",#[],Á⟩,⟨Â 28,ę<|Ù 39,3, "work.go:26",#[⟨0,Ü⟩],Á⟩]
def Lh:Array å:=#[⟨Â 40,ę<|Ù 10,85, "work.go:32",#[],Á⟩,⟨Â 41,ę<|Ù 13,100, "work.go:32",#[],Á⟩,⟨Â 42,Ě {callee:=ĕ<|ĸ 52,args:=#[Ù 40,Ù 41],argTypes:=#[85,100]},0, "work.go:32",#[⟨0,Ü⟩,⟨1,Ü⟩],Á⟩]
def Li:Array å:=#[⟨Â 43,Ě {callee:=ĕ<|ĸ 53,args:=#[Ù 12],argTypes:=#[97]},0, "work.go:33",#[],Á⟩]
def Hu:å:=⟨Â 44,ć 25<|Ù 8,25, "work.go:34",#[],Á⟩
def Hv:å:=⟨Â 45,ę<|Ù 11,86, "work.go:34",#[{on:=5,ground:=õ Ð}],Á⟩
def Hw:å:=⟨Â 46,ĩ<|Ù 45,0, "work.go:34",#[⟨1,Ü⟩,{on:=5,ground:=õ Ð}],Á⟩
def Hx:å:=⟨Â 47,ð 105 (Ù 46) 1,0, "work.go:34",#[⟨2,Ü⟩,{on:=5,ground:=õ Ð}],Á⟩
def Hz:å:=⟨Â 48,ć 65<|Ù 47,65, "work.go:34",#[⟨3,Ü⟩,{on:=5,ground:=õ Ð}],Á⟩
def HA:å:=⟨Â 6,ŧ<|Ù 44,25, "work.go:34",#[⟨0,Ü⟩,⟨0,Í⟩,{on:=1,ground:=Þ Ð},{on:=2,ground:=Þ Ð},{on:=3,ground:=Þ Ð},{on:=4,ground:=Þ Ð}],Á⟩
def HB:å:=⟨Â 7,ŧ<|Ù 48,65, "work.go:34",#[⟨4,Ü⟩,⟨5,Ţ⟩,⟨0,Í⟩,⟨1,Í⟩,⟨2,Í⟩,⟨3,Í⟩,⟨4,Í⟩,⟨5,Í⟩],Á⟩
def xM:Array å:=#[Hu,Hv,Hw,Hx,Hz,HA,HB]
def Lj:Ę:=(ä 14 xM Ò).seq Ρ
def Ll:Ę:=(ä 12 Lh Ì).seq<|(ä 13 Li Ì).seq Lj
def Ew:Ę:=(ä 7 Sf Ì).seq<|(Ť (Ù 29) ť<|Ŧ 0).seq<|(İ 1<|(ä 8 ZD Ì).seq<|(ä 9 ZE Ì).seq<|ä 10 Lg Ì).seq<|ä 11 Sg Ì
def sA:Ę:=(ä 5 ZB Ì).seq<|((ä 6 ZC Ì).seq<|İ 0 Ew.loop).seq Ll
def BV(t:Array Ï)(a:List é):Ý:=G ((base 37).at ⟨t,[]⟩ [ö Ew,ą Ew,ô 0,ö Ll]) a
def Ex(t:Array Ï):é:=(base 37).at ⟨t,[]⟩ [Ñ ZA [1],ö sA]
def Lm(t:Array Ï):é:=(base 37).at ⟨t,[]⟩ [Ñ Lg [1],ô 1,ö<|ä 11 Sg Ì,ą Ew,ô 0,ö Ll]
def HC:Array å:=#[⟨Â 6,Ş (ù 63) #[] #[Ù 2,Ù 3],1, "waitgroup.go:238",#[],Á⟩,
 ⟨Á,.go {callee:=ĕ (Ù 6),args:=#[],argTypes:=#[]},0, "waitgroup.go:238",#[⟨0,Ü⟩],Á⟩]
def tG(c d e f:Ï)(a b:Nat):Array Ï:=#[c,d,À<|Â ⟨a,0,Á⟩,À<|Â ⟨b,0,Á⟩,e,f,Ĉ (ù 63) #[] #[À<|Â ⟨a,0,Á⟩,À<|Â ⟨b,0,Á⟩]]
def BW(a b c d:Ï)(e f:Nat)(g:List é):Ý:=G ((base 47).at ⟨tG a b c d e f,[]⟩ [Ñ HC [1]]) g
def HF(a b c d:Ï)(e f:Nat)(g:List é):Ý:=G ((base 47).at ⟨tG a b c d e f,[]⟩ [Ñ HC []]) g
def ZF(c e f g:Ï)(a b:Nat)(h:List é)(w:ß):stepG Ä Ò (BW c e f g a b h) w=.spawn (HF c e f g a b h) (born Ä<|pF 63 #[À<|Â ⟨a,0,Á⟩,À<|Â ⟨b,0,Á⟩] #[]) w #[]:=by
 refine(stepG_spawn (d:=pF 63 #[À<|Â ⟨a,0,Á⟩,À<|Â ⟨b,0,Á⟩] #[]) (w':=w) U U (by k_ne) ?_ U).trans ?_
 .simp[HC,ĉ,ſ,ě,ĥ,tG,pF]
 .have:listed Ä (base 47).fn ⟨tG c e f g a b,[]⟩ HC[1] w=#[]:=by
   unfold listed;simp[HC,ĉ,ſ,ě,ĥ,tG,Ī]
  rw[this];rfl
structure ST(ba all oa n j:Nat)(qs dv:Ï)(t:Array Ï):Prop where
 r:t.size=49
 a:t[8]?=Â (À<|Â ⟨ba,0,Á⟩)
 C:t[10]?=Â qs
 I:t[11]?=Â (À<|Â ⟨oa,0,Á⟩)
 M:t[12]?=Â (À<|Â ⟨all,0,Á⟩)
 N:t[13]?=Â dv
 S:t[27]?=Â (Ê Î n)
 Y:t[28]?=Â (Ê Î j)
structure HG(ba all oa n:Nat)(qs:Ï)(t:Array Ï):Prop where
 DF:t.size=49
 t2:t[2]?=Â (Ê Î n)
 t8:t[8]?=Â (À<|Â ⟨ba,0,Á⟩)
 ajR:t[10]?=Â qs
 ajS:t[11]?=Â (À<|Â ⟨oa,0,Á⟩)
 Si:t[12]?=Â (À<|Â ⟨all,0,Á⟩)
def HJ(t:Array Ï)(h:t.size=49):∃a b c d e f g i j k l m n o p q r s u v w x y z B C D E F G H I J K L M N O P Q S T V W X Y qm qn xD:Ï,t=#[a,b,c,d,e,f,g,i,j,k,l,m,n,o,p,q,r,s,u,v,w,x,y,z,B,C,D,E,F,G,H,I,J,K,L,M,N,O,P,Q,S,T,V,W,X,Y,qm,qn,xD]:=by obtain⟨_,rfl⟩:=vY t h;exact⟨_,_,_,_,_,_,_,_,_,_,_,_,_,_,_,_,_,_,_,_,_,_,_,_,_,_,_,_,_,_,_,_,_,_,_,_,_,_,_,_,_,_,_,_,_,_,_,_,_,U⟩
section
variable{Ψ:ß->Prop}{J a:Jd}{l:fc}{t:Array Ï}{ba all oa:Nat}{qs dv:Ï}
def ajT(d:jZ l)(a:HG ba all oa n qs t)(e:∀c,ST ba all oa n 0 qs (Æ Á 0 0) c->fi Ä Ò J l (BV c qX)):fi Ä Ò J l (HF v x z jQ b i<|Ex t::qX):=by
 obtain⟨m,o,f,p,q,r,s,u,g,w,h,j,k,y,B,C,D,E,F,G,H,I,K,L,M,N,O,P,Q,S,T,V,W,X,Y,rS,rT,uG,uH,uI,uJ,uK,uL,uM,uN,uO,qm,qn,xD,rfl⟩:=HJ t a.DF;obtain rfl:f=Ê Î n:=by simpa using a.t2
 obtain rfl:g=À (Â ⟨ba,0,Á⟩):=by simpa using a.t8
 obtain rfl:h=qs:=by simpa using a.ajR
 obtain rfl:j=À (Â ⟨oa,0,Á⟩):=by simpa using a.ajS
 obtain rfl:k=À (Â ⟨all,0,Á⟩):=by simpa using a.Si
 apply fN (n:=40) d;have hF:=trivial;simp only[HF,Ex,ZA];iterate 2 w_go fu
 u_leave0 Ħ fu hF
 simp only[sA,ZB,ZC];iterate 13 w_go fu
 refine Ë λ_ _=> ?_;exact e _ ⟨U,U,U,U,U,U,U,U⟩
theorem ajU(d:jZ l)(a:ST ba all oa n j qs dv t)(q:j<1000)(e:∀c,ST ba all oa n (j+1) qs dv c->fi Ä Ò J l (BV c qX)):fi Ä Ò J l (HF v x z jQ b i<|Lm t::qX):=by
 obtain⟨r,s,u,w,y,B,C,D,f,E,g,h,k,m,F,G,H,I,K,L,M,N,O,P,Q,S,T,o,p,V,W,X,Y,s7,s8,rS,rT,uG,uH,uI,uJ,uK,uL,uM,uN,uO,qm,qn,xD,rfl⟩:=HJ t a.r;obtain rfl:f=À (Â ⟨ba,0,Á⟩):=by simpa using a.a
 obtain rfl:g=qs:=by simpa using a.C
 obtain rfl:h=À (Â ⟨oa,0,Á⟩):=by simpa using a.I
 obtain rfl:k=À (Â ⟨all,0,Á⟩):=by simpa using a.M
 obtain rfl:m=dv:=by simpa using a.N
 obtain rfl:o=Ê Î n:=by simpa using a.S
 obtain rfl:p=Ê Î j:=by simpa using a.Y
 apply fN (n:=40) d;have hF:=trivial;simp only[HF,Lm,Lg];iterate 2 w_go fu
 u_leave0 Ħ fu hF
 simp only[Sg];iterate 7 w_go fu
 refine Ë λ_ _=> ?_;refine e _ ⟨U,U,U,U,U,U,U,?_⟩;simp;grind [BP]
end
section
variable{l l' y:fc}
def gk.fL(h:gk X l l')(s:gA l){p off:Nat}(c:l.w.heap.size<=p):gk X l {l' with w:=l'.w.setCell ⟨p,off,Á⟩ v}:=by
 have b:∀j,j<l.w.heap.size->(l'.w.setCell ⟨p,off,Á⟩ v).heap[j]?=l'.w.heap[j]?:=λj e=>lA (by show j≠p;omega);refine⟨h.O,h.c,h.S,h.Y,h.b,h.K,h.q,h.d,λj q=> ?_,?_,λj q n=>(b j<|s.fx j q).trans<|h.r j q n,λa q=>(gN<|b _<|s.I a q).trans<|h.f a q,λa q=>sW.trans<|h.g a q,λa q z=>zf<|h.e a q z⟩
 .show j<(l'.w.setCell ⟨p,off,Á⟩ v).heap.size;rw[kg];exact h.fx j q
 .show l.w.heap.size<=(l'.w.setCell ⟨p,off,Á⟩ v).heap.size;rw[kg];exact h.I
structure ia(l:fc)(b:Nat)(o:Ÿ):Prop where
 fq:l.O b
 I:l.w.heap[b]?=Â o
def ia.r{o:Ÿ}(h:ia l b o)(k:gk X l l')(a:¬X b):ia l' b o:=⟨k.O b h.fq,(k.r b (Ã h.fq) a).trans h.I⟩
def ia.C(h:ia l b (É d e xJ))(a:d[i]?=Â v):l.w.cell? ⟨b,i,Á⟩=Â v:=by simp[Ö,h.I,a]
end
def ZG{sz:Nat}{xs:List Ï}(h:w.ownsRow i e sz v n xs)(a:w.heap.size<=b):¬(Â b=v.ownBlock):=λq=>by have:=(h.lt b q.symm).2;omega
structure ZH(ba all q:Nat)(BX:Ï)(xs:List Ï)(ch bd bw bf:Nat)(l':fc):Prop where
 S:l'.w.ownsRow 0 101 1 BX xs.length xs
 M:∀k,BX.ownBlock=Â k->l'.O k
 r:ia l' ch (ŕ q #[] Ì 0 0 Ì)
 C:ia l' bd (É #[è<|Â ch] 101)
 N:ia l' bw (É #[À<|Â ⟨all,0,Á⟩] 162)
 I:ia l' bf (É #[Ĉ (ù 50) #[] #[À<|Â ⟨bd,0,Á⟩,À<|Â ⟨ba,0,Á⟩]] 1)
section
variable{g:Jd}{l:fc}{t:Array Ï}{ba all q:Nat}{f:Option â}{xs:List Ï}
def ajV(y:gA l)(F:¬l.q)(hd:l.d=0)(G:ST ba all m n j (Æ f q i) x t)(vO:j<n)(hn:n<1000)(BY:q<1000)(Ln:l.K ⟨all,0,Á⟩/\l.K ⟨all,1,Á⟩)(Hr:nH all l.w) (lM:l.w.ownsRow 0 101 1 x j xs) (hO:∀k,x.ownBlock=Â k->l.O k) (hJ0:∀l' t' a r B S C v1,gk (λb=>Â b=x.ownBlock) l l'->ST ba all m n j (Æ f q i) C t'->ZH ba all q C (xs++[è<|Â a]) a r B S l'->l.w.heap.size<=a->a<r->r<B->B<S->(∀k,C.ownBlock=Â k->k≠a/\k≠r/\k≠B/\k≠S)->g l' (BW (À<|Â ⟨all,0,Á⟩) v1 (À<|Â ⟨all,0,Á⟩) (ñ #[]) B S<|Lm t'::qX)): fi Ä Ò (KZ Ä Ò all g) l (BV t qX):=by
 obtain⟨y0,y1,y2,y3,y4,y5,y6,y7,y8,y9,xH,zL,xI,rX,td,rf,vZ,we,uS,uT,uU,tf,tg,tj,rQ,s6,rR,pE,oD,qi,qj,qk,uF,s7,s8,rS,rT,uG,uH,uI,uJ,uK,uL,uM,uN,uO,qm,qn,xD,rfl⟩:=HJ t G.r;obtain rfl:y8=À (Â ⟨ba,0,Á⟩):=by simpa using G.a
 obtain rfl:xH=Æ f q i:=by simpa using G.C
 obtain rfl:zL=À (Â ⟨m,0,Á⟩):=by simpa using G.I
 obtain rfl:xI=À (Â ⟨all,0,Á⟩):=by simpa using G.M
 obtain rfl:x=rX:=(show rX=x by simpa using G.N).symm;obtain rfl:pE=Ê Î n:=by simpa using G.S
 obtain rfl:oD=Ê Î j:=by simpa using G.Y
 have avr:(j:Int)<(n:Int):=Z
 have hF:True:=trivial;apply fN (n:=40) y.r;simp only[BV,Ew,Sf,ZD];repeat w_go fu
 refine Ë λ_ _=> ?_;have Ey:Ä.info? 155=Â Ą:=ļ;refine pI (V:=λp=>è<|Â p) (ob:=ŕ q #[] Ì 0 0 Ì) U U (by k_ne) y.r F (λw=> ?_) (λw=> ?_) λL jY=> ?_
 .have D:=run_makeChan (P:=Ä) (w:=w) Ĵ Ey Î q Z (by simp[Ą];omega);go_simp
 .simp[go_sem,(events_makeChan (P:=Ä) (w:=w) Ĵ Ey Î q Z (by simp[Ą];omega) #[])]
 walk_nrm;have uV:gk fg l (gI l L<|ŕ q #[] Ì 0 0 Ì):=ng y jY;have c1:ia (gI l L<|ŕ q #[] Ì 0 0 Ì) L.heap.size (ŕ q #[] Ì 0 0 Ì):=⟨Ç U,na⟩;have ZI:l.w.heap.size<=L.heap.size:=jY.r;generalize gI l L (ŕ q #[] Ì 0 0 Ì)=l₁ at uV c1|-;generalize L.heap.size=a at c1 ZI|-;have xN:=uV.N y;have ZJ:¬l₁.q:=by rwa[uV.q]
 refine pI (V:=λp=>À<|Â ⟨p,0,Á⟩) (ob:=É #[è Á] 101) U U (by k_ne) xN.r ZJ (λw=>by go_simp) (λw=>by simp[go_sem]) λT oE=> ?_;walk_nrm;have HL:gk fg l (gI l₁ T<|É #[è Á] 101):=uV.ff<|ng xN oE;have c2:=c1.r (ng (X:=fg) (ob:=É #[è Á] 101) xN oE) id;have H:ia (gI l₁ T<|É #[è Á] 101) T.heap.size (É #[è Á] 101):=⟨Ç U,na⟩;have JX:a<T.heap.size:=È (xN.fx a<|Ã c1.fq) oE.r;generalize gI l₁ T (É #[è Á] 101)=l₂ at HL c2 H|-;generalize T.heap.size=r at H JX|-;clear c1 uV ZJ xN oE l₁;have rZ:=HL.N y;have qp:¬l₂.q:=by rwa[HL.q]
 refine Hs (p:=r) (off:=0) (v:=è<|Â a) (u:=è Á) U U (by k_ne) rZ.r qp H.fq (H.C U) (by simp[î,H.I]) U (λw o s=>by go_simp) (λw o s=>by simp[go_sem,o,s]) ?_;have M:gk fg l {l₂ with w:=l₂.w.setCell ⟨r,0,Á⟩ (è<|Â a)}:=HL.fL y Z;have c3:ia {l₂ with w:=l₂.w.setCell ⟨r,0,Á⟩ (è<|Â a)} a (ŕ q #[] Ì 0 0 Ì):=⟨c2.fq,(lA<|by show a≠r;omega).trans c2.I⟩;have W:ia {l₂ with w:=l₂.w.setCell ⟨r,0,Á⟩ (è<|Â a)} r (É #[è<|Â a] 101):=⟨H.fq,by show(l₂.w.setCell ⟨r,0,Á⟩<|è<|Â a).heap[r]?=_;unfold þ;simp[í,H.I]⟩;generalize({l₂ with w:=l₂.w.setCell ⟨r,0,Á⟩ (è<|Â a)}:fc)=kE at M c3 W|-;clear c2 H HL rZ qp l₂;have N:=M.N y;have xK:¬kE.q:=by rwa[M.q]
 have Ez:∀k,x.ownBlock=Â k->kE.O k:=λk e=>M.O k<|hO k e;have Lp:kE.w.ownsRow 0 101 1 x j xs:=n9 lM λk e=>M.r k (Ã<|hO k e) id;apply fN (n:=10) N.r;simp only[ZE,Lg];iterate 4 w_go fu
 refine Ë λ_ _=> ?_;apply oZ (x:=⟨r,0,Á⟩) U U (by k_ne) N.r xK (Ã<|Ã W.fq) (W.C U) (λw h=>by go_simp) (λw h=>by simp[go_sem,h]);walk_nrm;refine pI (V:=λp=>Æ (Â ⟨p,0,Á⟩) 1 1) (ob:=É #[è<|Â a] 101) U U (by k_ne) N.r xK (λw=>by go_simp) (λw=>by simp[go_sem]) λI BZ=> ?_;walk_nrm;have BU:gk fg l (gI kE I<|É #[è<|Â a] 101):=M.ff<|ng N BZ;have k4:=ng (X:=fg) (ob:=É #[è<|Â a] 101) N BZ;have c4:=c3.r k4 id;have d4:=W.r k4 id;have Y:ia (gI kE I<|É #[è<|Â a] 101) I.heap.size (É #[è<|Â a] 101):=⟨Ç U,na⟩;have Zz:r<I.heap.size:=È (N.fx r<|Ã W.fq) BZ.r;have xO:∀k,x.ownBlock=Â k->(gI kE I<|É #[è<|Â a] 101).O k:=λk e=>Ã<|Ez k e;have B1:=n9 Lp (w₁:=(gI kE I<|É #[è<|Â a] 101).w) λk e=>k4.r k (Ã<|Ez k e) id;generalize gI kE I (É #[è<|Â a] 101)=l₄ at BU c4 d4 Y xO B1|-;generalize I.heap.size=px at Y Zz|-;clear c3 W M N xK Ez Lp k4 BZ kE;have zS:=BU.N y;have B2:¬l₄.q:=by rwa[BU.q]
 refine Ht (v:=x) (us:=[è<|Â a]) (px:=px) (c:=1) (n:=j) (xs:=xs) (inf:=Δ) (z:=è Á) U U (by k_ne) zS B2 U U U Tryz.underlying100 Tryz.type101 U U Nat.one_pos U U (by simp[Δ];omega) (by simp only[œ];omega) B1 xO Y.fq (Se<|Y.C U) (λ_ D=>List.mem_singleton.1 D▸rfl) λse C Q B3 pz HM B4 uX=> ?_;walk_nrm;have ZK:∀b,l.w.heap.size<=b->¬(Â b=x.ownBlock):=λb hb=>ZG lM hb;have k5:gk (λb=>Â b=x.ownBlock) l₄ (nh l₄ se Q):=Le zS B3 HM λk e=>⟨xO k e,e.symm⟩;have wj:gk (λb=>Â b=x.ownBlock) l (nh l₄ se Q):=(BU.fR λ_ _ q=>q.elim).ff k5;have c5:=c4.r k5<|ZK a Z;have d5:=d4.r k5<|ZK r Z;have hl4:px<se.heap.size:=È (zS.fx px<|Ã Y.fq) B3.r;have Lq:∀k,C.ownBlock=Â k->k<Q.heap.size/\k≠a/\k≠r:=λk e=>by
  have D:=(pz.lt k e).2;rcases uX with z|z
  .rw[z]at e;have:=(lM.lt k e).2;exact⟨D,Z,Z⟩
  .rw[z]at e;obtain rfl:=Ó e;exact⟨D,Z,Z⟩
 have xP:(nh l₄ se Q).w.ownsRow 0 101 1 C (j+1) (xs++[è<|Â a]):=pz;have Sj:(nh l₄ se Q).w.heap.size=Q.heap.size:=U;generalize nh l₄ se Q=tw at wj c5 d5 xP B4 Sj|-;rw[<-Sj]at Lq;clear k5 HM pz uX c4 d4 Y BU zS B2 xO B1 B3 l₄ Sj;have sf:=wj.N y;have ZL:¬tw.q:=by rwa[wj.q]
 apply fN (n:=20) sf.r;iterate 4 w_go fu
 u_call Ħ fP Μ fu hF
 iterate 2 w_go fu
 refine Ë λ_ _=> ?_;refine pI (V:=λp=>À<|Â ⟨p,0,Á⟩) (ob:=É #[À<|Â ⟨all,0,Á⟩] 162) U U (by k_ne) sf.r ZL (λw=>by go_simp) (λw=>by simp[go_sem]) λD Lr=> ?_;walk_nrm;have k6:=ng (X:=fg) (ob:=É #[À<|Â ⟨all,0,Á⟩] 162) sf Lr;have B5:gk (λb=>Â b=x.ownBlock) l (gI tw D<|É #[À<|Â ⟨all,0,Á⟩] 162):=wj.ff (k6.fR λ_ _ q=>q.elim);have c6:=c5.r k6 id;have d6:=d5.r k6 id;have g6:ia (gI tw D<|É #[À<|Â ⟨all,0,Á⟩] 162) D.heap.size (É #[À<|Â ⟨all,0,Á⟩] 162):=⟨Ç U,na⟩;have B6:r<D.heap.size:=È (sf.fx r<|Ã d5.fq) Lr.r;have HN:∀k,C.ownBlock=Â k->k<D.heap.size/\k≠a/\k≠r:=λk e=>⟨È (Lq k e).1 Lr.r,(Lq k e).2⟩;have Ls:∀k,C.ownBlock=Â k->(gI tw D<|É #[À<|Â ⟨all,0,Á⟩] 162).O k:=λk e=>Ã<|B4 k e;have Sk:=n9 xP (w₁:=(gI tw D<|É #[À<|Â ⟨all,0,Á⟩] 162).w) λk e=>k6.r k (Ã<|B4 k e) id;generalize gI tw D (É #[À<|Â ⟨all,0,Á⟩] 162)=B7 at B5 c6 d6 g6 Ls Sk|-;generalize D.heap.size=B at g6 B6 HN|-;clear k6 c5 d5 wj sf ZL B4 xP Lq Lr tw;have Lt:=B5.N y;have ZM:¬B7.q:=by rwa[B5.q]
 refine pI (V:=λp=>À<|Â ⟨p,0,Á⟩) (ob:=É #[Ĉ (ù 50) #[] #[À<|Â ⟨r,0,Á⟩,À<|Â ⟨ba,0,Á⟩]] 1) U U (by k_ne) Lt.r ZM (λw=>by go_simp) (λw=>by simp[go_sem]) λJ Sl=> ?_;walk_nrm;have k7:=ng (X:=fg) (ob:=É #[Ĉ (ù 50) #[] #[À<|Â ⟨r,0,Á⟩,À<|Â ⟨ba,0,Á⟩]] 1) Lt Sl;have E:gk (λb=>Â b=x.ownBlock) l (gI B7 J<|É #[Ĉ (ù 50) #[] #[À<|Â ⟨r,0,Á⟩,À<|Â ⟨ba,0,Á⟩]] 1):=B5.ff (k7.fR λ_ _ q=>q.elim);have c7:=c6.r k7 id;have d7:=d6.r k7 id;have g7:=g6.r k7 id;have f7:ia (gI B7 J<|É #[Ĉ (ù 50) #[] #[À<|Â ⟨r,0,Á⟩,À<|Â ⟨ba,0,Á⟩]] 1) J.heap.size (É #[Ĉ (ù 50) #[] #[À<|Â ⟨r,0,Á⟩,À<|Â ⟨ba,0,Á⟩]] 1):=⟨Ç U,na⟩;have Lu:B<J.heap.size:=È (Lt.fx B<|Ã g6.fq) Sl.r;have Sn:∀k,C.ownBlock=Â k->(gI B7 J<|É #[Ĉ (ù 50) #[] #[À<|Â ⟨r,0,Á⟩,À<|Â ⟨ba,0,Á⟩]] 1).O k:=λk e=>Ã<|Ls k e;have ZN:=n9 Sk (w₁:=(gI B7 J<|É #[Ĉ (ù 50) #[] #[À<|Â ⟨r,0,Á⟩,À<|Â ⟨ba,0,Á⟩]] 1).w) λk e=>k7.r k (Ã<|Ls k e) id;generalize gI B7 J (É #[Ĉ (ù 50) #[] #[À<|Â ⟨r,0,Á⟩,À<|Â ⟨ba,0,Á⟩]] 1)=B8 at E c7 d7 g7 f7 Sn ZN|-;generalize J.heap.size=S at f7 Lu|-;clear k7 c6 d6 g6 B5 Lt ZM Ls Sk Sl B7;have Lv:=E.N y;apply fN (n:=10) Lv.r;iterate 3 w_go fu
 refine Ë λ_ _=> ?_;apply oZ (x:=⟨B,0,Á⟩) U U (by k_ne) Lv.r (by rwa[E.q]) (Ã<|Ã g7.fq) (g7.C U) (λw h=>by go_simp) (λw h=>by simp[go_sem,h]);walk_nrm;apply fN (n:=10) Lv.r;u_call re.f_add (nm_add Lk) addFn fu hF;refine Ë λ_ _=> ?_;refine Zb re (⟨Ã (by rw[E.K];exact Ln.1),Ã (by rw[E.K];exact Ln.2),λw L o s h3 h4 h5 h=>h.ff ⟨o,s,h3,h4,h5⟩⟩) (⟨Lv.r,⟨E.e _ Ln.1 Hr.1,E.e _ Ln.2 Hr.2⟩,fG.fX _ _⟩) (E.d.trans hd) λLw ZO=> ?_;walk_nrm;apply fN (l:={B8 with d:=0,w:=Lw}) (n:=10) ZO.1;iterate 3 w_go fu
 refine Ë λ_ _=> ?_;refine .fB λB9 xR=> ?_;have rr:fG B8 B8.w B9:=ZO.2.2.ff ⟨xR.r,xR.I,xR.N,xR.Y,xR.S⟩;have s:=E.G rr;have hA9:gk (λb=>Â b=x.ownBlock) l ({B8 with d:=0,w:=B9}:fc):=⟨s.O,s.c,s.S,s.Y,s.b,s.K,s.q,hd.symm,s.fx,s.I,s.r,s.f,s.g,s.e⟩;have at9:∀{b:Nat} {o:Ÿ},ia B8 b o->ia ({B8 with d:=0,w:=B9}:fc) b o:=λh=>⟨h.fq,(rr.I _<|Ã h.fq).trans h.I⟩;have hlen:(xs++[è<|Â a]).length=j+1:=by have:=lM.1;simp;omega
 refine hJ0 {B8 with d:=0,w:=B9} _ a r B S C _ hA9 ⟨U,U,U,U,U,U,U,U⟩ ⟨?_,Sn,at9 c7,at9 d7,at9 g7,at9 f7⟩ ZI JX B6 Lu λk e=>⟨(HN k e).2.1,(HN k e).2.2,by have:=(HN k e).1;omega,by have:=(HN k e).1;omega⟩;rw[hlen];exact n9 ZN λk e=>rr.I k<|Ã<|Sn k e
end
def tx(l:fc)(b:Nat):fc:={l with O:=λj=>l.O j/\j≠b,K:=λa=>l.K a\/a=⟨b,0,Á⟩\/a=⟨b,1,Á⟩}
def nz(l x:fc)(b:Nat):fc:={x with O:=λj=>x.O j\/j=b,K:=l.K}
section
variable{S:Jd}{l:fc}
def fi.So(W:∀a,l.K a->a.block≠b){x:fc}(h:fi P yQ S x g):¬x.M b->(∀a,x.C a->a.block≠b)->x.K=(tx l b).K->b<x.w.heap.size->(x.w.cell? ⟨b,0,Á⟩).isSome=Ò->(x.w.cell? ⟨b,1,Á⟩).isSome=Ò->jZ x-> fi P yQ (λG H=>∃d,S d H/\G=nz l d b/\¬d.M b/\(∀a,d.C a->a.block≠b)/\d.K=(tx l b).K/\b<d.w.heap.size/\d.w.heap[b]?=x.w.heap[b]?/\d.q=x.q/\jZ d) (nz l x b) g:=by
 have u:∀{x:fc} {c:ß},x.K=(tx l b).K->(x.w.cell? ⟨b,0,Á⟩).isSome=Ò->(x.w.cell? ⟨b,1,Á⟩).isSome=Ò->fG (nz l x b) x.w c->fG x x.w c:=λ{x c} f i m r=>
  ⟨r.r,λj p=>r.I j<|p.imp Ã id,r.N,r.Y,λa o q=>by
   rw[f]at o;rcases o with z|z|z
   .exact r.S a z q
   .rw[z,gN<|r.I b<|Ã<|Ç U];exact i
   .rw[z,gN (r.I b (Ã (Ç U)))];exact m⟩
 induction h with
 |@fB x g h=>
  intro s t f v i m I;refine .fB λc r=>⟨{x with w:=c},h c<|u f i m r,U,s,t,f,È v r.r,r.I b<|Ã<|Ç U,U,mb I<|u f i m r⟩
 |@jA x g G' W' E' L' iK h hd _ ih=>
  intro s t f v i m I;refine .mk iK λc r=> ?_;have B:=u f i m r;have D:=hd c B;have E:=È v r.r;have J:=λq=>s<|Ã q;have L:=D.jV b E J λa e q=>t a (Ã q) e;have F:(L' c).w.heap[b]?=x.w.heap[b]?:=by rw[D.Y];exact L.trans<|r.I b<|Ã<|Ç U
  refine⟨G' c,W' c,E' c,nz l (L' c) b,h c B,?_,?_⟩
  .refine⟨D.C,λj q=> ?_,λj q=> ?_,D.rd,D.r,D.I,U,λj p y n=>D.jV j p (λq=>y<|Ã q) n,λa o y n=>D.M a o (λq=>y<|Ã q) n,λa o y=>D.S a o λq=>y<|Ã q,D.c,D.f,D.i,λe N=> ?_,D.g,D.q,λq=> ?_,D.Y⟩
   .rcases q with q|q
    .exact(D.N j q).imp Ã id
    .exact Ã<|Ç q
   .rcases q with q|q
    .exact D.fx j q
    .rw[q];exact È E D.C
   .rcases D.b e N with⟨a,y,n⟩|h|h|h|h|⟨a,y,n⟩
    .exact Ã ⟨a,y,n.imp Ã id⟩
    .exact Ç<|Ã h
    .exact Ç<|Ç<|Ã h
    .exact Ç<|Ç<|Ç<|Ã h
    .exact Ç<|Ç<|Ç<|Ç<|Ã h
    .exact Ç<|Ç<|Ç<|Ç<|Ç ⟨a,Ã y,n⟩
   .let⟨Q,T,V⟩:=D.h q;exact⟨Q,T,by funext j;show((L' c).O j\/j=b)=(x.O j\/j=b);rw[V]⟩
  .refine(ih c B (λq=>q.elim (λz=>(D.N b z).elim J λy=>by omega) λz=>s<|Ç<|by rw[<-D.rd];exact z) (λa q=>t a<|q.imp (by rw[D.r];exact id)<|by rw[D.I];exact id) (D.k.trans f) (by rw[D.Y];exact È E D.C) (by rw[gN F];exact i) (by rw[gN F];exact m) λj p=>by rw[D.Y];exact D.fx j p).fR ?_;rintro G H ⟨d,y,e,j,n,o,p,z,N,Q⟩;exact⟨d,y,e,j,n,o,p,z.trans F,N.trans D.q,Q⟩
end
section
variable{L:WgLink}{l:fc}{J:Jd}{c:é}{k:List ŷ}{ty:ŭ}
structure ajW(b:Nat)(cc:Array Ï)(ty:ŭ)(l l':fc):Prop where
 r:gk (λj=>j=b) l l'
 O:l'.O=l.O
 C:l'.w.heap[b]?=Â (É (cc.setIfInBounds 0<|Ê ê 4294967296) ty)
theorem ZQ(a:l.O b)(w:ß)(d:Nat):nz l {tx l b with d:=d,w:=w} b={l with d:=d,w:=w}:=by
 have:(λj=>(l.O j/\j≠b)\/j=b)=l.O:=by grind
 unfold nz tx;simp only[this]
def ZR{C:Array Ï}(H:WgLib P L)(s:gA l)(hq:¬l.q)(Y:l.d=0)(x:l.O b)(M:l.w.heap[b]?=Â (É C ty))(N:C[0]?=Â (Ê ê 0))(o:(C[1]?).isSome=Ò) (hT:∀B,ajW b C ty l B->fi P yQ J B (G (c.at (y.put ((Q[i]?).bind (·.dst))<|ñ #[])<|Ñ Q jJ::k) qX)): fi P yQ J l (G ((base L.add).at ⟨#[À<|Â ⟨b,0,Á⟩,Ê Î 1,Å,Å,Å,Å,Å,Å,Å,Å,Å,Å,Å,Å,Å,Å,Å,Å,Å,Å,Å,Å,Å,Å,Å,Å,Å,Å,Å,Å,Å,Å,Å,Å,Å,Å,Å,Å,Å,Å,Å,Å,Å,Å,Å,Å,Å,Å,Å,Å,Å,Å,Å,Å,Å,Å,Å,Å,Å,Å,Å,Å,Å,Å,Å,Å,Å,Å,Å,Å,Å,Å,Å,Å,Å,Å,Å,Å,Å,Å,Å,Å,Å,Å,Å,Å,Å,Å,Å,Å,Å,Å,Å,Å,Å,Å,Å,Å,Å,Å,Å,Å,Å,Å,Å,Å,Å,Å,Å,Å,Å,Å,Å,Å,Å,Å,Å],[]⟩ [ö<|body_add L])<|c.at y (Ñ Q (i::jJ)::k)::qX):=by
 have e0:l.w.cell? ⟨b,0,Á⟩=Â (Ê ê 0):=by simp[Ö,M,N]
 have e1:(l.w.cell? ⟨b,1,Á⟩).isSome=Ò:=by let⟨u,D⟩:=Ô.1 o;simp[Ö,M,D]
 have S:∀y:â,l.K y->y.block≠b:=λy T e=>(s.S y T).1<|Ã<|e▸x;let J1:Jd:=λB g'=>g'=G (c.at (y.put ((Q[i]?).bind (·.dst))<|ñ #[])<|Ñ Q jJ::k) qX/\B={tx l b with d:=0,w:=B.w}/\fG (tx l b) l.w B.w
 have hW:fi P yQ (KZ P yQ b J1) (tx l b) (G ((base L.add).at ⟨#[À<|Â ⟨b,0,Á⟩,Ê Î 1,Å,Å,Å,Å,Å,Å,Å,Å,Å,Å,Å,Å,Å,Å,Å,Å,Å,Å,Å,Å,Å,Å,Å,Å,Å,Å,Å,Å,Å,Å,Å,Å,Å,Å,Å,Å,Å,Å,Å,Å,Å,Å,Å,Å,Å,Å,Å,Å,Å,Å,Å,Å,Å,Å,Å,Å,Å,Å,Å,Å,Å,Å,Å,Å,Å,Å,Å,Å,Å,Å,Å,Å,Å,Å,Å,Å,Å,Å,Å,Å,Å,Å,Å,Å,Å,Å,Å,Å,Å,Å,Å,Å,Å,Å,Å,Å,Å,Å,Å,Å,Å,Å,Å,Å,Å,Å,Å,Å,Å,Å,Å,Å,Å,Å,Å],[]⟩ [ö<|body_add L])<|c.at y (Ñ Q (i::jJ)::k)::qX):=by refine Zb (Ψ:=λw=>fG (tx l b) l.w w) H ⟨Ã<|Ç<|Ã U,Ã<|Ç<|Ç U,λw n o t a g m h=>h.ff ⟨o,t,a,g,m⟩⟩ ⟨λj f=>s.fx j<|Ã f.1,⟨by rw[show(tx l b).w=l.w from rfl,e0];rfl,e1⟩,fG.fX _ _⟩ Y λn v=> .fB λp r=>⟨U,U,v.2.2.ff ⟨r.r,r.I,r.N,r.Y,r.S⟩⟩
 have hstart:=hW.So S (λq=>q.elim (λz=>z.2 U) λz=>s.c b x z) (λy T e=>s.N y T<|Ã<|e▸x) U (s.fx b<|Ã x) (by rw[show(tx l b).w=l.w from rfl,e0];rfl) e1 λj f=>s.fx j<|Ã f.1;rw[show nz l (tx l b) b=l from ZQ x l.w l.d]at hstart;apply hstart.lG;rintro l1 g1 ⟨E,⟨Ca,ajX,hA⟩,rfl,ZS,ZT,uA,hlt1,nI,BY,lo1⟩;let⟨g2,ZU,V⟩:=hA 0;have sZ:ê.wrap (0+gf)=gf:=by rw[show(0:Int)+gf=gf from rfl];exact Ko A A
 rw[sZ]at V ZU;rw[if_pos U]at V;have hqx:¬E.q:=by rwa[BY]
 refine .mk ajX λn r=> ?_;have F:=(r.I b<|Ã<|Ç U).trans<|nI.trans M;have c0:n.cell? (fQ b)=Â (Ê ê 0):=by simp[Ö,fQ,F,N]
 have avs:=È hlt1 r.r;have W:(n.setCell (fQ b)<|Ê ê gf).heap[b]?=Â (É (C.setIfInBounds 0<|Ê ê 4294967296) ty):=by unfold þ;simp[í,fQ,F,gf]
 have rx:fG E E.w (n.setCell (fQ b)<|Ê ê gf):=by
  refine⟨by rw[kg];exact r.r,λj f=>((lA λe=>ZS (by have t:j=b:=e;rwa[<-t])).trans<|r.I j<|f.imp Ã id),λa g=>(gN<|lA<|ZT a g).trans<|r.N a g,λa g=>sW.trans<|r.Y a g,λa g q=> ?_⟩
  .rw[uA]at g;refine zf ?_;rcases g with z|z|z
   .exact r.S a z q
   .rw[z,gN<|r.I b<|Ã<|Ç U];rwa[z]at q
   .rw[z,gN<|r.I b<|Ã<|Ç U];rwa[z]at q
 refine⟨g2,_,_,nz l {E with w:=n.setCell (fQ b) (Ê ê gf)} b,ZU n c0 (by simp[î,fQ,F]),?_,?_⟩
 .refine⟨by rw[kg];exact Ú _,λ_ h=>Ã h,λj h=> ?_,U,U,U,U,λj _ o _=>lA λe=>o<|Ç e,λa _ o _=>gN (lA λe=>o<|Ç e),λ_ _ _=>Pj,U,U,U,λe t=> ?_,?_,U,λq=>absurd q hqx,U⟩
  .rw[kg];rcases h with h|h
   .exact È (lo1 j h) r.r
   .rwa[h]
  .have:e=kG (fQ b)\/e=mX (fQ b):=by simpa using t
   rcases this with rfl|rfl
   .exact Ã ⟨fQ b,U,Ã<|Ç U⟩
   .exact Ã ⟨fQ b,U,Ã<|Ç U⟩
  .exact(Ņ (λe t=>by
    have:e=kG (fQ b)\/e=mX (fQ b):=by simpa using t
    rcases this with rfl|rfl<;>exact⟨by simp[kG,mX],by simp[kG,mX]⟩) _).symm
 have z1:((n.setCell (fQ b)<|Ê ê gf).cell? ⟨b,1,Á⟩).isSome=Ò:=by let⟨u,D⟩:=Ô.1 o;exact zf<|by simp[Ö,F,D]
 have ajY:=(V.ki rx).So S ZS ZT uA (by show b<(n.setCell (fQ b)<|Ê ê gf).heap.size;rwa[kg]) (zf<|by rw[show(⟨b,0,Á⟩:â)=fQ b from rfl,c0];rfl) z1 (λj f=>by show j<(n.setCell (fQ b)<|Ê ê gf).heap.size;rw[kg];exact È (lo1 j f) r.r);apply ajY.lG;rintro l2 g3 ⟨v,⟨oc,ajZ,g4,aj0,hN2⟩,rfl,nM2,nC2,zz,Lx,X,qp,lo2⟩;have aj1:¬v.q:=by rwa[qp]
 refine .mk ajZ λp m=> ?_;have I:∀a:â,a.block=b->p.cell? a=v.w.cell? a:=λa e=>gN<|m.I a.block<|Ã<|Ç e;have rx2:fG v v.w p:=⟨m.r,λj f=>m.I j<|f.imp Ã id,m.N,m.Y,λa g q=>by
  rw[zz]at g;rcases g with z|z|z
  .exact m.S a z q
  .rwa[I a (by rw[z])]
  .rwa[I a (by rw[z])]⟩
 refine⟨g4,p,_,nz l {v with w:=p} b,aj0 p,?_,?_⟩
 .refine⟨Ú _,λ_ h=>Ã h,λj h=> ?_,U,U,U,U,λ_ _ _ _=>rfl,λ_ _ _ _=>rfl,λ_ _ _=>rfl,U,U,U,λe t=> ?_,?_,U,λq=>absurd q aj1,U⟩
  .rcases h with h|h
   .exact È (lo2 j h) m.r
   .rw[h];exact È Lx m.r
  .have:e=jW (.read<|gY b):=by simpa using t
   rw[this];exact Ç<|Ç<|Ç<|Ç<|Ç ⟨gY b,Ç U,Ã U⟩
  .exact(Ņ (λe t=>by
    have:e=jW (.read<|gY b):=by simpa using t
    rw[this];exact⟨by simp[jW],by simp[jW]⟩) _).symm
 have z:(p.cell? ⟨b,0,Á⟩).isSome=Ò:=by rw[I _ U];have:v.w.heap[b]?=_:=X.trans W;simp[Ö,this,(æ.1 N).1]
 have y1:(p.cell? ⟨b,1,Á⟩).isSome=Ò:=by rw[I _ U];have:v.w.heap[b]?=_:=X.trans W;let⟨u,D⟩:=Ô.1 o;simp[Ö,this,(æ.1 D).1]
 have u:=(hN2.ki rx2).So S nM2 nC2 zz (È Lx m.r) z y1 λj f=>È (lo2 j f) m.r;apply u.lG;rintro l3 g5 ⟨x3,⟨rfl,D,t⟩,rfl,nM3,nC3,hk3,aj2,Ly,xK,lo3⟩;rw[D,ZQ x];have zU:=Ly.trans<|(m.I b<|Ã<|Ç U).trans<|X.trans W;refine hT _ ⟨⟨λ_ h=>h,λ_ h=>Ã h,U,U,U,U,U,Y.symm,λj f=>È (s.fx j<|Ã f) t.r,t.r,λj f hn=>t.I j (f.imp (λq=>⟨q,hn⟩) id),t.N,t.Y,λa g=>t.S a<|Ã g⟩,U,zU⟩
end
noncomputable def Sp:Ę:=kU Ĝ [1,1,1]
noncomputable def ZV:Ę:=kU Ĝ [1,1,0,1,0,0,1,1,0,0,1,1,1]
noncomputable def Sq:Ę:=kU Ĝ [1,1,0,1,0,0,1,1,0,0,1,1,0,1]
noncomputable def HO:Ę:=kU Ĝ [1,1,0,1,0,0]
noncomputable def Sr:Ę:=kU Ĝ [1,1,0,1,0,0,1,1,1]
noncomputable def Cb (t:Array Ï) (a:List é):Ý:=G ((base 46).at ⟨t,[]⟩ [ö HO,ą HO,ô 0,ö Sp]) a
noncomputable def HQ (t:Array Ï) (a:List é):Ý:=G ((base 46).at ⟨t,[]⟩ [ö Sq,ö ZV,ô 1,ö Sr,ą HO,ô 0,ö Sp]) a
structure PT(iv qv rs:Ï)(lg R i:Nat)(t:Array Ï):Prop where
 r:t.size=48
 N:t[4]?=Â iv
 S:t[5]?=Â qv
 Y:t[6]?=Â (À<|Â ⟨lg,0,Á⟩)
 C:t[13]?=Â rs
 I:t[14]?=Â (Ê Î R)
 M:t[15]?=Â (Ê Î i)
def Lz(t:Array Ï)(h:t.size=48):∃a b c d e f g i j k l m n o p q r s u v w x y z B C D E F G H I J K L M N O P Q S T V W X Y qm qn:Ï,t=#[a,b,c,d,e,f,g,i,j,k,l,m,n,o,p,q,r,s,u,v,w,x,y,z,B,C,D,E,F,G,H,I,J,K,L,M,N,O,P,Q,S,T,V,W,X,Y,qm,qn]:=by obtain⟨_,rfl⟩:=vY t h;exact⟨_,_,_,_,_,_,_,_,_,_,_,_,_,_,_,_,_,_,_,_,_,_,_,_,_,_,_,_,_,_,_,_,_,_,_,_,_,_,_,_,_,_,_,_,_,_,_,_,U⟩
def aj3(w:ß)(a c:Option â)(b:Int):(Ċ 155 #[(0,À a),(1,Ê Î b),(2,À c)]).run Ä w=.ok (Đ #[À a,Ê Î b,À c,À Á]) w:=run_build w 155 _ _ fP
def aj4(w:ß)(a c:Option â)(b:Int):(Ċ 155 #[(0,À a),(1,Ê Î b),(2,À c)]).events Ä w #[]=#[]:=by unfold Ċ;simp only[Sem.events_bind];simp[go_sem]
section
variable{p:Nat}{v0 v1 v2 v3:Ï}
def aj5(h:w.heap[p]?=Â (É #[v,x,z,jQ] e)):(iY w p v0 v1 v2 v3).heap[p]?=Â (É #[v0,v1,v2,v3] e):=by unfold iY þ;simp[í,h]
def gk.iY{l c:fc}(h:gk X l c)(s:gA l)(r:fG c c.w u)(f:l.w.heap.size<=p):gk X l {c with w:=fv.iY u p v0 v1 v2 v3}:=by
 have b:=h.G r;have e:∀{j:Nat},j<l.w.heap.size->(fv.iY u p v0 v1 v2 v3).heap[j]?=u.heap[j]?:=λ{j} q=>zH Z;refine⟨b.O,b.c,b.S,b.Y,b.b,b.K,b.q,b.d,λj q=> ?_,?_,λj q n=>(e<|s.fx j q).trans<|b.r j q n,λa q=>(gN<|e<|s.I a q).trans<|b.f a q,λa q=>(xo<|e<|s.I a q).trans<|b.g a q,λa q z=> ?_⟩
 .show j<(fv.iY u p v0 v1 v2 v3).heap.size;rw[xG];exact b.fx j q
 .show l.w.heap.size<=(fv.iY u p v0 v1 v2 v3).heap.size;rw[xG];exact b.I
 .show((fv.iY u p v0 v1 v2 v3).cell? a).isSome=Ò;rw[gN<|e (s.S a q).2.1];exact b.e a q z
def ia.rly{l:fc}{o:Ÿ}(h:ia l b o)(r:fG l l.w u):ia {l with w:=u} b o:=⟨h.fq,(r.I b<|Ã h.fq).trans h.I⟩
end
section
variable{J:Jd}{l:fc}{t:Array Ï}{iv qv:Ï}{lg R:Nat}{kd:Int}
def aj6(f:gA l)(o:¬l.q)(k:PT iv qv (Æ (Â ⟨j,0,Á⟩) R n) lg R i t)(ZW:i<R)(hR:R<1000)(T:l.M j)(V:l.w.cell? ⟨j,i,Á⟩=Â (À<|Â ⟨b,0,Á⟩))(F:l.M b)(W:l.w.cell? ⟨b,4,Á⟩=Â (Ê Î kd)) (X:∀B u a,gk fg l B->l.w.heap.size<=a->ia B a (É #[À<|Â ⟨b,0,Á⟩,Ê Î i,À<|Â ⟨lg,0,Á⟩,À Á] 155)->PT iv qv (Æ (Â ⟨j,0,Á⟩) R n) lg R i u->u[9]?=Â (À<|Â ⟨a,0,Á⟩)->u[28]?=Â (ŝ<|decide<|kd≠1)->fi Ä Ò J B (HQ u qX)): fi Ä Ò J l (Cb t qX):=by
 obtain⟨y0,y1,y2,y3,G,H,Y,y7,y8,y9,xH,zL,xI,rX,td,rf,vZ,we,uS,uT,uU,tf,tg,tj,rQ,s6,rR,pE,oD,qi,qj,qk,uF,s7,s8,rS,rT,uG,uH,uI,uJ,uK,uL,uM,uN,uO,qm,qn,rfl⟩:=Lz t k.r;obtain rfl:iv=G:=(show G=iv by simpa using k.N).symm;obtain rfl:qv=H:=(show H=qv by simpa using k.S).symm;obtain rfl:Y=À (Â ⟨lg,0,Á⟩):=by simpa using k.Y
 obtain rfl:rX=Æ (Â ⟨j,0,Á⟩) R n:=by simpa using k.C
 obtain rfl:td=Ê Î R:=by simpa using k.I
 obtain rfl:rf=Ê Î i:=by simpa using k.M
 have avt:(i:Int)<(R:Int):=Z
 have hF:True:=trivial;have rY:∀y:â,False->l.r y:=λy ha=>ha.elim;apply fN (n:=40) f.r;simp only[Cb];conv in HO=>whnf
 repeat w_go fu
 refine Ë λ_ _=> ?_;apply oZ (x:=⟨j,i,Á⟩) U U (by k_ne) f.r o (Ã T) V (λw h=>by go_simp) (λw h=>by simp[go_sem,h]);walk_nrm;apply fN (n:=40) f.r;repeat w_go fu
 refine Ë λ_ _=> ?_;refine mY (v:=Đ #[À<|Â ⟨b,0,Á⟩,Ê Î i,À<|Â ⟨lg,0,Á⟩,À Á]) U U (by k_ne) f.r o (λc r=> ?_) (λc r e C=> ?_) ?_
 .have S:=aj3 c (Â ⟨b,0,Á⟩) (Â ⟨lg,0,Á⟩) i;go_simp
 .simp[go_sem,aj4 c (Â ⟨b,0,Á⟩) (Â ⟨lg,0,Á⟩) i]at C
 walk_nrm;refine Hi (ob:=É #[À Á,Ê Î 0,À Á,À Á] 155) U U (by k_ne) f.r o (λw=>by go_simp) (λw=>by simp[go_sem]) λc D=> ?_;walk_nrm;have s:gk fg l (gI l c<|É #[À Á,Ê Î 0,À Á,À Á] 155):=ng f D;have m:ia (gI l c<|É #[À Á,Ê Î 0,À Á,À Á] 155) c.heap.size (É #[À Á,Ê Î 0,À Á,À Á] 155):=⟨Ç U,na⟩;have E:l.w.heap.size<=c.heap.size:=D.r;generalize gI l c (É #[À Á,Ê Î 0,À Á,À Á] 155)=l₁ at s m|-;generalize c.heap.size=a at m E|-;have I:=s.N f;have K:¬l₁.q:=by rwa[s.q]
 refine vS U U (by k_ne) λd z=> ?_;have g:=m.rly z;replace g:d.heap[a]?=_:=g.I;have L:d.cell? ⟨a,0,Á⟩=Â (À Á):=by simp[Ö,g]
 have N:d.cell? ⟨a,1,Á⟩=Â (Ê Î 0):=by simp[Ö,g]
 have O:d.cell? ⟨a,2,Á⟩=Â (À Á):=by simp[Ö,g]
 have P:d.cell? ⟨a,3,Á⟩=Â (À Á):=by simp[Ö,g]
 have Q:∀r,d.frozen? ⟨a,r,Á⟩=Ì:=λr=>by simp[î,g]
 go_simp;refine⟨{l₁ with w:=iY d a (À<|Â ⟨b,0,Á⟩) (Ê Î i) (À<|Â ⟨lg,0,Á⟩) (À Á)},K9 (p:=a) (mb I.r z) K m.fq xG (λr S=>zH S) ⟨U,U,U⟩ λe C=> ?_,?_⟩
 .have S:=đ C;have e:∀r,qo l₁ ⟨a,r,Á⟩:=λr=>Ã m.fq;simp[go_sem,á _ _ _ _ _ _ (show Ø (À<|Â ⟨b,0,Á⟩)=Ò from rfl),á _ _ _ _ _ _ (show Ø (À<|Â ⟨lg,0,Á⟩)=Ò from rfl),á _ _ _ _ _ _ (show Ø (À Á)=Ò from rfl),L,N,O,P,Q]at S;rcases S with rfl|rfl|rfl|rfl
  .exact(e _).r
  .exact(e _).r
  .exact(e _).r
  .exact(e _).r
 have e:gk fg l ({l₁ with w:=iY d a (À<|Â ⟨b,0,Á⟩) (Ê Î i) (À<|Â ⟨lg,0,Á⟩) (À Á)}:fc):=s.iY f z E;have S:ia ({l₁ with w:=iY d a (À<|Â ⟨b,0,Á⟩) (Ê Î i) (À<|Â ⟨lg,0,Á⟩) (À Á)}:fc) a (É #[À<|Â ⟨b,0,Á⟩,Ê Î i,À<|Â ⟨lg,0,Á⟩,À Á] 155):=⟨m.fq,aj5 g⟩;generalize({l₁ with w:=iY d a (À<|Â ⟨b,0,Á⟩) (Ê Î i) (À<|Â ⟨lg,0,Á⟩) (À Á)}:fc)=l₂ at e S|-;clear m s I K g L N O P Q z d l₁ D c;have C:=e.N f;apply fN (n:=20) C.r;repeat w_go fu
 refine Ë λ_ _=> ?_;apply oZ (x:=⟨b,4,Á⟩) U U (by k_ne) C.r (by rwa[e.q]) (Ã<|e.M F) ((gN<|e.r b F id).trans W) (λw h=>by go_simp) (λw h=>by simp[go_sem,h]);walk_nrm;apply fN (n:=20) C.r;iterate 2 w_go fu
 refine Ë λ_ _=> ?_;apply X l₂ _ a e E S ⟨U,U,U,U,U,U,U⟩ U;simp;rfl
end
section
variable{J:Jd}{l:fc}{xs:List Ï}
def aj7(s:gA l)(E:¬l.q)(o:PT v x z b j i d)(ZW:i<j)(hR:j<1000)(h9:d[9]?=Â (À<|Â ⟨m,0,Á⟩))(Ss:d[28]?=Â (ŝ Ò))(hn:n<1000) (h:ia l m (É #[À<|Â ⟨k,0,Á⟩,Ê Î i,À<|Â ⟨b,0,Á⟩,À Á] 155)) (lM:l.w.ownsRow 0 155 4 x n xs) (K:∀a,x.ownBlock=Â a->l.O a) (hJ:∀B L t,gk (λf=>Â f=x.ownBlock) l B->B.w.ownsRow 0 155 4 t (n+1) (xs++[À<|Â ⟨k,0,Á⟩,Ê Î i,À<|Â ⟨b,0,Á⟩,À Á])->(∀a,t.ownBlock=Â a->B.O a)->(t.ownBlock=x.ownBlock\/∃a,t.ownBlock=Â a/\l.w.heap.size<=a)->PT v t z b j (i+1) L->fi Ä Ò J B (Cb L qX)): fi Ä Ò J l (HQ d qX):=by
 obtain⟨y0,y1,y2,y3,M,N,y6,y7,y8,y9,xH,zL,xI,P,td,rf,vZ,we,uS,uT,uU,tf,tg,tj,rQ,s6,rR,pE,oD,qi,qj,qk,uF,s7,s8,rS,rT,uG,uH,uI,uJ,uK,uL,uM,uN,uO,qm,qn,rfl⟩:=Lz d o.r;obtain rfl:v=M:=(show M=v by simpa using o.N).symm;obtain rfl:x=N:=(show N=x by simpa using o.S).symm;obtain rfl:y6=À (Â ⟨b,0,Á⟩):=by simpa using o.Y
 obtain rfl:y9=À (Â ⟨m,0,Á⟩):=by simpa using h9
 obtain rfl:z=P:=(show P=z by simpa using o.C).symm;obtain rfl:td=Ê Î j:=by simpa using o.I
 obtain rfl:rf=Ê Î i:=by simpa using o.M
 obtain rfl:oD=ŝ Ò:=by simpa using Ss
 have hF:True:=trivial;apply fN (n:=40) s.r;simp only[HQ];conv in Sq=>whnf
 conv in Sr=>whnf
 repeat w_go fu
 refine Ë λ_ _=> ?_;refine mY (v:=Đ #[À<|Â ⟨k,0,Á⟩,Ê Î i,À<|Â ⟨b,0,Á⟩,À Á]) U U (by k_ne) s.r E (λp r=> ?_) (λp r e y=> ?_) ?_
 .skip;have C:p.cell? ⟨m,0,Á⟩=Â (À<|Â ⟨k,0,Á⟩):=(gX.r (show gX l ⟨m,0,Á⟩from Ã<|Ã h.fq) r).trans<|h.C U;have D:p.cell? ⟨m,1,Á⟩=Â (Ê Î i):=(gX.r (show gX l ⟨m,1,Á⟩from Ã<|Ã h.fq) r).trans<|h.C U;have F:p.cell? ⟨m,2,Á⟩=Â (À<|Â ⟨b,0,Á⟩):=(gX.r (show gX l ⟨m,2,Á⟩from Ã<|Ã h.fq) r).trans<|h.C U;have G:p.cell? ⟨m,3,Á⟩=Â (À Á):=(gX.r (show gX l ⟨m,3,Á⟩from Ã<|Ã h.fq) r).trans<|h.C U;go_simp
 .have u:∀g,gX l ⟨m,g,Á⟩:=λg=>Ã<|Ã h.fq;have C:p.cell? ⟨m,0,Á⟩=Â (À<|Â ⟨k,0,Á⟩):=(gX.r (show gX l ⟨m,0,Á⟩from Ã<|Ã h.fq) r).trans<|h.C U;have D:p.cell? ⟨m,1,Á⟩=Â (Ê Î i):=(gX.r (show gX l ⟨m,1,Á⟩from Ã<|Ã h.fq) r).trans<|h.C U;have F:p.cell? ⟨m,2,Á⟩=Â (À<|Â ⟨b,0,Á⟩):=(gX.r (show gX l ⟨m,2,Á⟩from Ã<|Ã h.fq) r).trans<|h.C U;have G:p.cell? ⟨m,3,Á⟩=Â (À Á):=(gX.r (show gX l ⟨m,3,Á⟩from Ã<|Ã h.fq) r).trans<|h.C U;simp[go_sem,C,D,F,G]at y;rcases y with rfl|rfl|rfl|rfl
  .exact(u _).rd
  .exact(u _).rd
  .exact(u _).rd
  .exact(u _).rd
 walk_nrm;refine pI (V:=λp=>Æ (Â ⟨p,0,Á⟩) 1 1) (ob:=É #[À<|Â ⟨k,0,Á⟩,Ê Î i,À<|Â ⟨b,0,Á⟩,À Á] 155) U U (by k_ne) s.r E (λw=>by go_simp) (λw=>by simp[go_sem]) λr Q=> ?_;walk_nrm;have p:=ng (X:=fg) (ob:=É #[À<|Â ⟨k,0,Á⟩,Ê Î i,À<|Â ⟨b,0,Á⟩,À Á] 155) s Q;have y:ia (gI l r<|É #[À<|Â ⟨k,0,Á⟩,Ê Î i,À<|Â ⟨b,0,Á⟩,À Á] 155) r.heap.size (É #[À<|Â ⟨k,0,Á⟩,Ê Î i,À<|Â ⟨b,0,Á⟩,À Á] 155):=⟨Ç U,na⟩;have C:∀a,x.ownBlock=Â a->(gI l r<|É #[À<|Â ⟨k,0,Á⟩,Ê Î i,À<|Â ⟨b,0,Á⟩,À Á] 155).O a:=λa e=>Ã<|K a e;have F:=n9 lM (w₁:=(gI l r<|É #[À<|Â ⟨k,0,Á⟩,Ê Î i,À<|Â ⟨b,0,Á⟩,À Á] 155).w) λa e=>p.r a (Ã<|K a e) id;generalize gI l r (É #[À<|Â ⟨k,0,Á⟩,Ê Î i,À<|Â ⟨b,0,Á⟩,À Á] 155)=l₄ at p y C F|-;generalize r.heap.size=px at y|-;have G:=p.N s;have S:¬l₄.q:=by rwa[p.q]
 have Ey:Ä.info? 155=Â Ą:=ļ;refine Ht (v:=x) (us:=[À<|Â ⟨k,0,Á⟩,Ê Î i,À<|Â ⟨b,0,Á⟩,À Á]) (px:=px) (c:=1) (n:=n) (sz:=4) (xs:=xs) (inf:=Ą) (z:=Đ #[À Á,Ê Î 0,À Á,À Á]) U U (by k_ne) G S U U U Ľ Ey U U Z U U (by simp[Ą];omega) (by simp only[œ];omega) F C y.fq (λg u D=>y.C<|by simpa using D) (by simp[Ø]) λu g D H T W Y uX=> ?_;walk_nrm;have k5:gk (λf=>Â f=x.ownBlock) l₄ (nh l₄ u D):=Le G H W λa e=>⟨C a e,e.symm⟩;have I:gk (λf=>Â f=x.ownBlock) l (nh l₄ u D):=(p.fR λ_ _ q=>q.elim).ff k5;have Sv:g.ownBlock=x.ownBlock\/∃a,g.ownBlock=Â a/\l.w.heap.size<=a:=uX.imp id λq=>⟨_,q,Õ p.I H.r⟩;have xP:(nh l₄ u D).w.ownsRow 0 155 4 g (n+1) (xs++[À<|Â ⟨k,0,Á⟩,Ê Î i,À<|Â ⟨b,0,Á⟩,À Á]):=T;generalize nh l₄ u D=tw at I xP Y|-;clear p k5 W T uX y G S C F H Q;have sf:=I.N s;have hw:Î.wrap ((i:Int)+1)=((i+1:Nat):Int):=by rw[BP Z Z];omega
 apply fN (n:=40) sf.r;repeat w_go fu
 refine Ë λ_ _=> ?_;refine hJ tw _ g I xP Y Sv ⟨U,U,U,U,U,U,?_⟩;simp[hw]
def aj8(G:gA l)(hq:¬l.q)(hd:l.d=0)(I:PT v x z b j i d)(ZW:i<j)(hR:j<1000)(h9:d[9]?=Â (À<|Â ⟨m,0,Á⟩))(Ss:d[28]?=Â (ŝ Ì))(hn:n<1000) (h0:ia l m (É #[À<|Â ⟨k,0,Á⟩,Ê Î i,À<|Â ⟨b,0,Á⟩,À Á] 155)) (lM:l.w.ownsRow 0 155 4 v n xs) (hO:∀f,v.ownBlock=Â f->l.O f) (tq:v.ownBlock≠Â m) (hJ:∀T t' W s,gk (λg=>Â g=v.ownBlock\/g=m) l T->T.w.ownsRow 0 155 4 W (n+1) (xs++[À<|Â ⟨k,0,Á⟩,Ê Î i,À<|Â ⟨b,0,Á⟩,À<|Â ⟨s,0,Á⟩])->(∀f,W.ownBlock=Â f->T.O f)->(W.ownBlock=v.ownBlock\/∃f,W.ownBlock=Â f/\s<f)->l.w.heap.size<=s->ia T s (É #[Ê ê 4294967296,Ê Ď 0,Æ Á 0 0] 105)->PT W x z s j (i+1) t'->fi Ä Ò J T (Cb t' qX)): fi Ä Ò J l (HQ d qX):=by
 obtain⟨y0,y1,y2,y3,y4,y5,y6,y7,y8,y9,xH,zL,xI,rX,td,rf,vZ,we,uS,uT,uU,tf,tg,tj,rQ,s6,rR,pE,oD,qi,qj,qk,uF,s7,s8,rS,rT,uG,uH,uI,uJ,uK,uL,uM,uN,uO,qm,qn,rfl⟩:=Lz d I.r;obtain rfl:v=y4:=(show y4=v by simpa using I.N).symm;obtain rfl:x=y5:=(show y5=x by simpa using I.S).symm;obtain rfl:y6=À (Â ⟨b,0,Á⟩):=by simpa using I.Y
 obtain rfl:y9=À (Â ⟨m,0,Á⟩):=by simpa using h9
 obtain rfl:z=rX:=(show rX=z by simpa using I.C).symm;obtain rfl:td=Ê Î j:=by simpa using I.I
 obtain rfl:rf=Ê Î i:=by simpa using I.M
 obtain rfl:oD=ŝ Ì:=by simpa using Ss
 have hF:True:=trivial;apply fN (n:=40) G.r;simp only[HQ];conv in Sq=>whnf
 conv in ZV=>whnf
 conv in Sr=>whnf
 repeat w_go fu
 refine Ë λ_ _=> ?_;refine Hi (ob:=É #[Ê ê 0,Ê Ď 0,Æ Á 0 0] 105) U U (by k_ne) G.r hq (λw=>by go_simp) (λw=>by simp[go_sem]) λD jY=> ?_;walk_nrm;have t:gk fg l (gI l D<|É #[Ê ê 0,Ê Ď 0,Æ Á 0 0] 105):=ng G jY;have F:ia (gI l D<|É #[Ê ê 0,Ê Ď 0,Æ Á 0 0] 105) D.heap.size (É #[Ê ê 0,Ê Ď 0,Æ Á 0 0] 105):=⟨Ç U,na⟩;have HR:l.w.heap.size<=D.heap.size:=jY.r;generalize gI l D (É #[Ê ê 0,Ê Ď 0,Æ Á 0 0] 105)=l₁ at t F|-;generalize D.heap.size=s at F HR|-;clear jY D;have xN:=t.N G;have BY:¬l₁.q:=by rwa[t.q]
 have htl:m<l.w.heap.size:=G.fx m<|Ã h0.fq;have t1:=h0.r t id;apply fN (n:=40) xN.r;iterate 7 w_go fu
 u_call re.f_add (nm_add Lk) addFn fu hF
 refine Ë λ_ _=> ?_;refine ZR re xN BY (by rwa[t.d]) F.fq F.I U U λy hC=> ?_;walk_nrm;have E:gk (λg=>g=s) l₁ y:=hC.r;have LA:gk fg l y:=⟨λf q=>E.O f<|t.O f q,λf q=>(E.c f q).elim (t.c f) λh=>Ç<|Õ t.I h,E.S.trans t.S,E.Y.trans t.Y,E.b.trans t.b,E.K.trans t.K,E.q.trans t.q,E.d.trans t.d,E.fx,Õ t.I E.I,λo Y nx=>(E.r o (t.M Y) λe=>by have:=G.fx o Y;omega).trans<|t.r o Y nx,λa H=>(E.f a<|by rwa[t.C]).trans<|t.f a H,λa H=>(E.g a<|by rwa[t.C]).trans<|t.g a H,λa H h=>E.e a (by rwa[t.K])<|t.e a H h⟩;have L:=t1.r E Z;have N:ia y s (É #[Ê ê 4294967296,Ê Ď 0,Æ Á 0 0] 105):=⟨E.O s F.fq,hC.C⟩;have rZ:=LA.N G;have qp:¬y.q:=by rwa[LA.q]
 have hgl:s<y.w.heap.size:=rZ.fx s<|Ã N.fq;clear hC E t1 F t xN BY l₁;apply fN (n:=40) rZ.r;iterate 5 w_go fu
 refine Ë λ_ _=> ?_;refine Hs (p:=m) (off:=3) (v:=À<|Â ⟨s,0,Á⟩) (u:=À Á) U U (by k_ne) rZ.r qp L.fq (L.C U) (by simp[î,L.I]) U (λw r S=>by go_simp) (λw r S=>by simp[go_sem,á _ _ _ _ _ _ (show Ø (À<|Â ⟨s,0,Á⟩)=Ò from rfl),r,S]) ?_;have P:gk (λg=>g=m) l {y with w:=y.w.setCell ⟨m,3,Á⟩ (À<|Â ⟨s,0,Á⟩)}:=(LA.fR λ_ _ q=>q.elim).ff (Ld (p:=m) rZ (fG.fX _ _) L.fq U kg λo Y=>lA Y);have B:ia {y with w:=y.w.setCell ⟨m,3,Á⟩ (À<|Â ⟨s,0,Á⟩)} m (É #[À<|Â ⟨k,0,Á⟩,Ê Î i,À<|Â ⟨b,0,Á⟩,À<|Â ⟨s,0,Á⟩] 155):=⟨L.fq,by show(y.w.setCell ⟨m,3,Á⟩<|À<|Â ⟨s,0,Á⟩).heap[m]?=_;unfold þ;simp[í,L.I]⟩;have g3:ia {y with w:=y.w.setCell ⟨m,3,Á⟩ (À<|Â ⟨s,0,Á⟩)} s (É #[Ê ê 4294967296,Ê Ď 0,Æ Á 0 0] 105):=⟨N.fq,(lA<|by show s≠m;omega).trans N.I⟩;have aj9:s<({y with w:=y.w.setCell ⟨m,3,Á⟩ (À<|Â ⟨s,0,Á⟩)}:fc).w.heap.size:=by show s<(y.w.setCell ⟨m,3,Á⟩<|À<|Â ⟨s,0,Á⟩).heap.size;rwa[kg]
 generalize({y with w:=y.w.setCell ⟨m,3,Á⟩ (À<|Â ⟨s,0,Á⟩)}:fc)=kE at P B g3 aj9|-;clear L N LA rZ qp hgl y;have Q:=P.N G;have xK:¬kE.q:=by rwa[P.q]
 have Ez:∀f,v.ownBlock=Â f->kE.O f:=λf e=>P.O f<|hO f e;have Lp:kE.w.ownsRow 0 155 4 v n xs:=n9 lM λf e=>P.r f (Ã<|hO f e) λh=>tq<|h▸e;apply fN (n:=40) Q.r;iterate 3 w_go fu
 refine Ë λ_ _=> ?_;refine mY (v:=Đ #[À<|Â ⟨k,0,Á⟩,Ê Î i,À<|Â ⟨b,0,Á⟩,À<|Â ⟨s,0,Á⟩]) U U (by k_ne) Q.r xK (λD r=> ?_) (λD r e he=> ?_) ?_
 .skip;have g0:D.cell? ⟨m,0,Á⟩=Â (À<|Â ⟨k,0,Á⟩):=(gX.r (show gX kE ⟨m,0,Á⟩from Ã<|Ã B.fq) r).trans<|B.C U;have F:D.cell? ⟨m,1,Á⟩=Â (Ê Î i):=(gX.r (show gX kE ⟨m,1,Á⟩from Ã<|Ã B.fq) r).trans<|B.C U;have N:D.cell? ⟨m,2,Á⟩=Â (À<|Â ⟨b,0,Á⟩):=(gX.r (show gX kE ⟨m,2,Á⟩from Ã<|Ã B.fq) r).trans<|B.C U;have g3:D.cell? ⟨m,3,Á⟩=Â (À<|Â ⟨s,0,Á⟩):=(gX.r (show gX kE ⟨m,3,Á⟩from Ã<|Ã B.fq) r).trans<|B.C U;go_simp
 .have S:∀o,gX kE ⟨m,o,Á⟩:=λo=>Ã<|Ã B.fq;have g0:D.cell? ⟨m,0,Á⟩=Â (À<|Â ⟨k,0,Á⟩):=(gX.r (show gX kE ⟨m,0,Á⟩from Ã<|Ã B.fq) r).trans<|B.C U;have F:D.cell? ⟨m,1,Á⟩=Â (Ê Î i):=(gX.r (show gX kE ⟨m,1,Á⟩from Ã<|Ã B.fq) r).trans<|B.C U;have N:D.cell? ⟨m,2,Á⟩=Â (À<|Â ⟨b,0,Á⟩):=(gX.r (show gX kE ⟨m,2,Á⟩from Ã<|Ã B.fq) r).trans<|B.C U;have g3:D.cell? ⟨m,3,Á⟩=Â (À<|Â ⟨s,0,Á⟩):=(gX.r (show gX kE ⟨m,3,Á⟩from Ã<|Ã B.fq) r).trans<|B.C U;simp[go_sem,g0,F,N,g3]at he;rcases he with rfl|rfl|rfl|rfl
  .exact(S _).rd
  .exact(S _).rd
  .exact(S _).rd
  .exact(S _).rd
 walk_nrm;refine pI (V:=λp=>Æ (Â ⟨p,0,Á⟩) 1 1) (ob:=É #[À<|Â ⟨k,0,Á⟩,Ê Î i,À<|Â ⟨b,0,Á⟩,À<|Â ⟨s,0,Á⟩] 155) U U (by k_ne) Q.r xK (λw=>by go_simp) (λw=>by simp[go_sem]) λS BZ=> ?_;walk_nrm;have r:=ng (X:=fg) (ob:=É #[À<|Â ⟨k,0,Á⟩,Ê Î i,À<|Â ⟨b,0,Á⟩,À<|Â ⟨s,0,Á⟩] 155) Q BZ;have p4:ia (gI kE S<|É #[À<|Â ⟨k,0,Á⟩,Ê Î i,À<|Â ⟨b,0,Á⟩,À<|Â ⟨s,0,Á⟩] 155) S.heap.size (É #[À<|Â ⟨k,0,Á⟩,Ê Î i,À<|Â ⟨b,0,Á⟩,À<|Â ⟨s,0,Á⟩] 155):=⟨Ç U,na⟩;have xO:∀f,v.ownBlock=Â f->(gI kE S<|É #[À<|Â ⟨k,0,Á⟩,Ê Î i,À<|Â ⟨b,0,Á⟩,À<|Â ⟨s,0,Á⟩] 155).O f:=λf e=>Ã<|Ez f e;have B1:=n9 Lp (w₁:=(gI kE S<|É #[À<|Â ⟨k,0,Á⟩,Ê Î i,À<|Â ⟨b,0,Á⟩,À<|Â ⟨s,0,Á⟩] 155).w) λf e=>r.r f (Ã<|Ez f e) id;generalize gI kE S (É #[À<|Â ⟨k,0,Á⟩,Ê Î i,À<|Â ⟨b,0,Á⟩,À<|Â ⟨s,0,Á⟩] 155)=l₄ at r p4 xO B1|-;generalize S.heap.size=px at p4|-;have zS:=r.N Q;have B2:¬l₄.q:=by rwa[r.q]
 have Ey:Ä.info? 155=Â Ą:=ļ;refine Ht (v:=v) (us:=[À<|Â ⟨k,0,Á⟩,Ê Î i,À<|Â ⟨b,0,Á⟩,À<|Â ⟨s,0,Á⟩]) (px:=px) (c:=1) (n:=n) (sz:=4) (xs:=xs) (inf:=Ą) (z:=Đ #[À Á,Ê Î 0,À Á,À Á]) U U (by k_ne) zS B2 U U U Ľ Ey U U Z U U (by simp[Ą];omega) (by simp only[œ];omega) B1 xO p4.fq (λo u hu=>p4.C<|by simpa using hu) (by simp[Ø]) λse BX LB B3 pz HM B4 uX=> ?_;walk_nrm;have k5:gk (λg=>Â g=v.ownBlock) l₄ (nh l₄ se LB):=Le zS B3 HM λf e=>⟨xO f e,e.symm⟩;have wj:gk (λg=>Â g=v.ownBlock) kE (nh l₄ se LB):=(r.fR λ_ _ q=>q.elim).ff k5;have Sv:BX.ownBlock=v.ownBlock\/∃f,BX.ownBlock=Â f/\kE.w.heap.size<=f:=uX.imp id λq=>⟨_,q,Õ r.I B3.r⟩;have xP:(nh l₄ se LB).w.ownsRow 0 155 4 BX (n+1) (xs++[À<|Â ⟨k,0,Á⟩,Ê Î i,À<|Â ⟨b,0,Á⟩,À<|Â ⟨s,0,Á⟩]):=pz;generalize nh l₄ se LB=tw at wj xP B4|-;clear r k5 HM pz uX p4 zS B2 xO B1 B3 BZ;have sf:=wj.N Q;have hw:Î.wrap ((i:Int)+1)=((i+1:Nat):Int):=by rw[BP Z Z];omega
 have g5:=g3.r wj<|ZG lM HR;have B5:gk (λg=>Â g=v.ownBlock\/g=m) l tw:=(P.fR λ_ _ q=>Ç q).ff (wj.fR λ_ _ q=>Ã q);apply fN (n:=40) sf.r;repeat w_go fu
 refine Ë λ_ _=> ?_;refine hJ tw _ BX s B5 xP B4 (Sv.imp id λ⟨f,q1,q2⟩=>⟨f,q1,Z⟩) HR g5 ⟨U,U,U,U,U,U,?_⟩;simp[hw]
end
def ic(kd:Nat->Int)(i:Nat):List Nat:=(ã i).filter λj=>decide<|kd j=1
def jC(kd:Nat->Int)(i:Nat):List Nat:=(ã i).filter λj=>decide<|kd j≠1
def fO(kd:Nat->Int)(i:Nat):Nat:=(ic kd i).length
def tI(a g:Nat->Nat)(p:Nat×Nat):List Ï:=[À<|Â ⟨a p.1,0,Á⟩,Ê Î p.1,À<|Â ⟨g p.2,0,Á⟩,À<|Â ⟨g<|p.2+1,0,Á⟩]
def tQ(kd:Nat->Int)(a g:Nat->Nat)(p:Nat):List Ï:=[À<|Â ⟨a p,0,Á⟩,Ê Î p,À<|Â ⟨g<|fO kd p,0,Á⟩,À Á]
def jP(kd:Nat->Int)(rq g:Nat->Nat)(i:Nat):List Ï:=(ic kd i).zipIdx.flatMap<|tI rq g
def mM(kd:Nat->Int)(a g:Nat->Nat)(i:Nat):List Ï:=(jC kd i).flatMap<|tQ kd a g
section
variable{kd:Nat->Int}{rq g:Nat->Nat}
def tA(h:kd i=1):ic kd (i+1)=ic kd i++[i]:=by simp[ic,ÿ,ā,h]
def wm(h:kd i≠1):ic kd (i+1)=ic kd i:=by simp[ic,ÿ,ā,h]
def Sw(h:kd i=1):jC kd (i+1)=jC kd i:=by simp[jC,ÿ,ā,h]
theorem Sx(h:kd i≠1):jC kd (i+1)=jC kd i++[i]:=by simp[jC,ÿ,ā,h]
def Sy:∀i,fO kd i<=i:=λi=>by unfold fO ic;exact Õ (ģ _ _) fl
def akb:∀i,(jC kd i).length<=i:=λi=>by unfold jC;exact Õ (ģ _ _) fl
def ZX(h:j<=i):fO kd j<=fO kd i:=by
 induction i with
 |zero=>
  have:j=0:=Z
  rw[this];exact Ú _
 |succ i c=>
  by_cases e:j=i+1
  .rw[e];exact Ú _
  .have a:=c Z;by_cases b:kd i=1
   .unfold fO at a|-;rw[tA b];simp;omega
   .unfold fO at a|-;rwa[wm b]
def akc(h:kd i=1):jP kd rq g (i+1)=jP kd rq g i++tI rq g (i,fO kd i):=by unfold jP;rw[tA h,List.zipIdx_append,List.flatMap_append];simp[fO]
def akd(h:kd i≠1):jP kd rq g (i+1)=jP kd rq g i:=by unfold jP;rw[wm h]
def ake(h:kd i=1):mM kd rq g (i+1)=mM kd rq g i:=by unfold mM;rw[Sw h]
theorem akf(h:kd i≠1):mM kd rq g (i+1)=mM kd rq g i++tQ kd rq g i:=by unfold mM;grind [Sx]
def Sz{α:Type}{f a:α->List Ï}:∀(l:List α),(∀x∈l,f x=a x)->l.flatMap f=l.flatMap a
 |[],_=>rfl
 |x::l,h=>by rw[Ć,Ć,h x List.mem_cons_self,Sz l λy b=>h y<|List.mem_cons_of_mem _ b]
def akg(h:∀k,k<=fO kd i->D k=g k):jP kd rq D i=jP kd rq g i:=by
 unfold jP;refine Sz _ λx a=> ?_;let⟨p,k⟩:=x;have b:=(List.mem_zipIdx a).2.1;have c:k<fO kd i:=by unfold fO;omega
 simp[tI,h k Z,h (k+1) Z]
def akh(h:∀k,k<=fO kd i->D k=g k):mM kd rq D i=mM kd rq g i:=by
 unfold mM;refine Sz _ λp a=> ?_;have b:p<i:=by have:=(Ā.1 a).1;simpa using this
 simp[tQ,h (fO kd p)<|ZX Z]
def SA{α:Type}{f:α->List Ï}(a:∀x,(f x).length=4)(b:i<4):∀(l:List α) (k:Nat) (x:α),l[k]?=Â x->(l.flatMap f)[k*4+i]?=(f x)[i]?
 |[],k,x,h=>by simp at h
 |y::l,0,x,h=>by
  obtain rfl:y=x:=by simpa using h
  rw[Ć,List.getElem?_append_left (by rw[a];omega)];simp
 |y::l,k+1,x,h=>by rw[Ć,List.getElem?_append_right (by rw[a];omega),a,show(k+1)*4+i-4=k*4+i by omega];exact SA a b l k x<|by simpa using h
end
section
variable{Y:Nat->Prop}{l m o:fc}
def gk.wo(h:gk X l m)(k:gk Y m o)(e:∀j,l.M j->¬Y j):gk X l o:= ⟨λj q=>k.O j<|h.O j q,λj q=>(k.c j q).elim (h.c j) λz=>Ç<|Õ h.I z,k.S.trans h.S,k.Y.trans h.Y,k.b.trans h.b,k.K.trans h.K,k.q.trans h.q,k.d.trans h.d,k.fx,Õ h.I k.I,λj c f=>(k.r j (h.M c)<|e j c).trans<|h.r j c f,λa b=>(k.f a<|by rwa[h.C]).trans<|h.f a b,λa b=>(k.g a<|by rwa[h.C]).trans<|h.g a b,λa b z=>k.e a (by rwa[h.K])<|h.e a b z⟩
end
abbrev SB:Ÿ:=É #[Ê ê 4294967296,Ê Ď 0,Æ Á 0 0] 105
structure zV(kd:Nat->Int)(rq g:Nat->Nat)(S i:Nat)(iv qv:Ï)(l0 l:fc):Prop where
 r:gk fg l0 l
 jP:l.w.ownsRow 0 155 4 iv (fO kd i) (jP kd rq g i)
 mM:l.w.ownsRow 0 155 4 qv (jC kd i).length (mM kd rq g i)
 C:∀k,iv.ownBlock=Â k->l.O k/\l0.w.heap.size<=k
 I:∀k,qv.ownBlock=Â k->l.O k/\l0.w.heap.size<=k
 M:∀k,iv.ownBlock=Â k->qv.ownBlock≠Â k
 N:∀k,1<=k->k<=fO kd i->ia l (g k) SB/\l0.w.heap.size<=g k/\iv.ownBlock≠Â (g k)/\qv.ownBlock≠Â (g k)
 g0:g 0<l0.w.heap.size
 S:g 0=S
 Y:∀k k',k<k'->k'<=fO kd i->g k<g k'
section
variable{kd:Nat->Int}{rq g:Nat->Nat}{iv qv:Ï}{l0 l m o:fc}
theorem zV.aki(h:zV kd rq g n i iv qv l0 l)(C:gA l0)(s:gA l)(t:kd i≠1)(a:gk fg l m)(d:gk (λb=>Â b=qv.ownBlock) m o)(G:o.w.ownsRow 0 155 4 v ((jC kd i).length+1) (fv.mM kd rq g i++tQ kd rq g i))(D:∀k,v.ownBlock=Â k->o.O k)(u:v.ownBlock=qv.ownBlock\/∃k,v.ownBlock=Â k/\m.w.heap.size<=k):zV kd rq g n (i+1) iv v l0 o:=by
 have p:fO kd (i+1)=fO kd i:=by unfold fO;rw[wm t]
 have x:∀{j},l.O j->qv.ownBlock≠Â j->v.ownBlock≠Â j:=λ{j} c hn e=>by
  rcases u with z|⟨k,q,B⟩
  .grind
  .rw[q]at e;have:=Ó e;have:=(λc=>È (s.fx _<|Ã c) a.I) c;omega
 refine⟨(h.r.ff a).wo d λj c e=> ?_,?_,?_,λk e=>⟨d.O k<|a.O k (h.C k e).1,(h.C k e).2⟩,λk e=>⟨D k e,?_⟩,λk e=>x (h.C k e).1<|h.M k e,λk r f=> ?_,h.g0,h.S,λk y r f=>h.Y k y r<|by rwa[<-p]⟩
 .have:=(h.I j e.symm).2;have:=C.fx j c;omega
 .rw[p,akd t];refine n9 h.jP λk e=>(d.r k (Ã<|a.O k (h.C k e).1) λz=>h.M k e z.symm).trans<|a.r k (Ã (h.C k e).1) id
 .grind [Sx,akf]
 .rcases u with z|⟨y,q,B⟩
  .rw[z]at e;exact(h.I k e).2
  .rw[q]at e;have:=Ó e;have:=h.r.I;have:=a.I;omega
 .rw[p]at f;let⟨q,E,F,B⟩:=h.N k r f;exact⟨(q.r a id).r d λz=>B z.symm,E,F,x q.fq B⟩
theorem zV.kS{tb:Nat}(h:zV kd rq g n i iv qv l0 l)(F:gA l0)(s:gA l)(a:kd i=1)(c:gk fg l m)(P:l.w.heap.size<=tb)(p:gk (λb=>Â b=iv.ownBlock\/b=tb) m o)(G:o.w.ownsRow 0 155 4 v (fO kd i+1) (fv.jP kd rq g i++[À<|Â ⟨rq i,0,Á⟩,Ê Î i,À<|Â ⟨g<|fO kd i,0,Á⟩,À<|Â ⟨J,0,Á⟩]))(H:∀k,v.ownBlock=Â k->o.O k)(u:v.ownBlock=iv.ownBlock\/∃k,v.ownBlock=Â k/\J<k)(Q:m.w.heap.size<=J)(I:ia o J SB):zV kd rq (λk=>if k<=fO kd i then g k else J) n (i+1) v qv l0 o:=by
 have x:fO kd (i+1)=fO kd i+1:=by unfold fO;rw[tA a];simp
 have S:=h.r.I;have T:=c.I;have d:∀{j},l.O j->j<l.w.heap.size:=λq=>s.fx _<|Ã q;have B:∀{j},l.O j->iv.ownBlock≠Â j->v.ownBlock≠Â j:=λ{j} q hn e=>by grind
 have C:∀k,k<=fO kd i->(if k<=fO kd i then g k else J)=g k:=λk a=>if_pos a;refine⟨(h.r.ff c).wo p λj q e=> ?_,?_,?_,λk e=>⟨H k e,?_⟩,λk e=>⟨p.O k<|c.O k (h.I k e).1,(h.I k e).2⟩,λk e z=>B (h.I k z).1 (λy=>h.M k y z) e,λk t D=> ?_,?_,?_,λk r t D=> ?_⟩
 .have:=F.fx j q;rcases e with e|e
  .have:=(h.C j e.symm).2;omega
  .omega
 .rw[x,akc a,akg C];simpa[tI,show¬(fO kd i+1<=fO kd i) by omega]using G
 .rw[Sw a,ake a,akh C];refine n9 h.mM λk e=> ?_;refine(p.r k (Ã<|c.O k (h.I k e).1) ?_).trans<|c.r k (Ã (h.I k e).1) id;rintro(z|z)
  .exact h.M k z.symm e
  .have:=d (h.I k e).1;omega
 .rcases u with z|⟨r,K,L⟩
  .rw[z]at e;exact(h.C k e).2
  .grind
 .by_cases y:k<=fO kd i
  .simp only[if_pos y];let⟨f,M,E,N⟩:=h.N k t y;refine⟨(f.r c id).r p ?_,M,B f.fq E,N⟩;rintro(z|z)
   .exact E z.symm
   .have:=d f.fq;omega
  .simp only[if_neg y];refine⟨I,Z,λe=> ?_,λe=> ?_⟩
   .rcases u with z|⟨r,K,L⟩
    .rw[z]at e;have:=d (h.C J e).1;omega
    .grind
   .have:=d (h.I J e).1;omega
 .simp only[ă,if_true];exact h.g0
 .simp only[ă,if_true];exact h.S
 .rw[x]at D;by_cases y:r<=fO kd i
  .simp only[if_pos y,if_pos (show k<=fO kd i by omega)];exact h.Y k r t y
  .simp only[if_neg y,if_pos (show k<=fO kd i by omega)];by_cases E:k=0
   .subst E;have:=h.g0;omega
   .let⟨f,_⟩:=h.N k Z Z;have:=d f.fq;omega
end
section
variable{J:Jd}{ra:Option â}{rb cr R:Nat}{cs:List é}{kd:Nat->Int}{rq:Nat->Nat}{l0:fc}
def SC(j:gA l0)(u:¬l0.q)(v:l0.d=0)(m:R<1000)(p:0<R->ra=Â ⟨rb,0,Á⟩)(x:0<R->l0.M rb)(y:∀i,i<R->l0.w.cell? ⟨rb,i,Á⟩=Â (À<|Â ⟨rq i,0,Á⟩))(r:∀i,i<R->l0.M (rq i))(z:∀i,i<R->l0.w.cell? ⟨rq i,4,Á⟩=Â (Ê Î<|kd i)) (B:∀g N P a b,zV kd rq g n R a b l0 N->PT a b (Æ ra R cr) (g<|fO kd R) R R P->fi Ä Ò J N (Cb P cs)): ∀d i,R=i+d->∀g l t a b,zV kd rq g n i a b l0 l->PT a b (Æ ra R cr) (g<|fO kd i) R i t->fi Ä Ò J l (Cb t cs)
 |0,i,hi,g,l,t,a,b,hP,hT=>by obtain rfl:R=i:=hi;exact B g l t a b hP hT
 |d+1,i,hi,g,l,t,a,b,hP,hT=>by
  have f:i<R:=Z
  have o:=hP.r.N j;have Q:¬l.q:=by rwa[hP.r.q]
  have S:=x Z;refine aj6 o Q (by rwa[<-p Z]) f m (hP.r.M S) ((gN<|hP.r.r rb S id).trans<|y i f) (hP.r.M<|r i f) ((gN<|hP.r.r _ (r i f) id).trans<|z i f) λl1 t1 T c tq V C W s=> ?_;rw[<-p Z]at C;have X:=c.N o;have Y:¬l1.q:=by rwa[c.q]
  have hc:=Sy (kd:=kd) i;have hcq:=akb (kd:=kd) i;by_cases h:kd i=1
  .rw[decide_eq_false (by simpa using h)]at s;refine aj8 X Y (by rwa[c.d,hP.r.d]) C f m W s Z V (n9 hP.jP λk e=>c.r k (Ã (hP.C k e).1) id) (λk e=>c.O k (hP.C k e).1) (λe=>by have:=o.fx T<|Ã (hP.C T e).1;omega) λD E iv' gt F G H I HR hg K=> ?_;apply SC j u v m p x y r z B d (i+1) Z _ D E iv' b (hP.kS j o h c tq F G H I HR hg);have L:fO kd (i+1)=fO kd i+1:=by unfold fO;rw[tA h];simp
   rw[L];simp only[show¬(fO kd i+1<=fO kd i) by omega,if_false];exact K
  .rw[decide_eq_true (by simpa using h)]at s;refine aj7 X Y C f m W s Z V (n9 hP.mM λk e=>c.r k (Ã (hP.I k e).1) id) (λk e=>c.O k (hP.I k e).1) λD E e F G H I K=> ?_;apply SC j u v m p x y r z B d (i+1) Z _ D E a e (hP.aki j o h c F G H I);have L:fO kd (i+1)=fO kd i:=by unfold fO;rw[wm h]
   rwa[L]
end
noncomputable def ZY:Ę:=kU Ĝ []
noncomputable def ZZ (a b:Ï) (c:List é):Ý:=G ((base 46).at ⟨#[a,b,Å,Å,Å,Å,Å,Å,Å,Å,Å,Å,Å,Å,Å,Å,Å,Å,Å,Å,Å,Å,Å,Å,Å,Å,Å,Å,Å,Å,Å,Å,Å,Å,Å,Å,Å,Å,Å,Å,Å,Å,Å,Å,Å,Å,Å,Å],[]⟩ [ö ZY]) c
def akj{c:é}{d:ŏ}{k:List ŷ}{K:Ý->ß->Array ž->Prop}{t u v:Tmp}(g:f.kind=Ğ)(j:y.defers=[])(l:P.funcs[f.fn]?=Â s)(e:s.results=#[.tmp t,.tmp u,.tmp v]) (h:K (G (c.at (d.put ((Q[i]?).bind (·.dst))<|ñ #[y.tmps.getD t Å,y.tmps.getD u Å,y.tmps.getD v Å])<|Ñ Q jJ::k) qX) w #[]): (stepG P yQ (G {f.at y L with mode:=.returning}<|c.at d (Ñ Q (i::jJ)::k)::qX) w).goes K:=by rwa[stepG_leave g j l (v:=ñ #[y.tmps.getD t Å,y.tmps.getD u Å,y.tmps.getD v Å]) (by simp[results,e,go_sem]) (by simp[results,e,go_sem]),Ģ]
structure HT(kd:Nat->Int)(rq g:Nat->Nat)(R:Nat)(iv qv sv:Ï)(l l':fc):Prop where
 Y:gk fg l l'
 jP:l'.w.ownsRow 0 155 4 iv (fO kd R) (jP kd rq g R)
 mM:l'.w.ownsRow 0 155 4 qv (jC kd R).length (mM kd rq g R)
 r:∀k,iv.ownBlock=Â k->l'.O k/\l.w.heap.size<=k
 C:∀k,qv.ownBlock=Â k->l'.O k/\l.w.heap.size<=k
 dis:∀k,iv.ownBlock=Â k->qv.ownBlock≠Â k
 N:ia l' (g 0) (É #[Ê ê 0,Ê Ď 0,sv] 105)
 I:∀k,1<=k->k<=fO kd R->ia l' (g k) SB
 M:∀k,k<=fO kd R->l.w.heap.size<=g k/\iv.ownBlock≠Â (g k)/\qv.ownBlock≠Â (g k)
 S:∀k k',k<k'->k'<=fO kd R->g k<g k'
def akk(w:ß)(a:Option â)(b c:Nat):(Ċ 105 #[(1,Æ a b c)]).run Ä w=.ok (Đ #[Ê ê 0,Ê Ď 0,Æ a b c]) w:=run_build w 105 _ _ fP
def akl(w:ß)(a:Option â)(b c:Nat):(Ċ 105 #[(1,Æ a b c)]).events Ä w #[]=#[]:=by unfold Ċ;simp only[Sem.events_bind];simp[go_sem]
section
variable{J:Jd}{l:fc}{ra:Option â}{rb cr R:Nat}{sa:Option â}{sn sc:Nat}{k:List ŷ}{kd:Nat->Int}{rq:Nat->Nat}
def akm(j:gA l)(u:¬l.q)(I:l.d=0)(K:R<1000)(L:0<R->ra=Â ⟨rb,0,Á⟩)(z:0<R->l.M rb)(N:∀i,i<R->l.w.cell? ⟨rb,i,Á⟩=Â (À<|Â ⟨rq i,0,Á⟩))(B:∀i,i<R->l.M (rq i))(O:∀i,i<R->l.w.cell? ⟨rq i,4,Á⟩=Â (Ê Î<|kd i)) (P:∀g s b c,HT kd rq g R b c (Æ sa sn sc) l s->fi Ä Ò J s (G (f.at (y.put ((Q[i]?).bind (·.dst))<|ñ #[b,c,À<|Â ⟨g<|fO kd R,0,Á⟩])<|Ñ Q jJ::k) qX)): fi Ä Ò J l (ZZ (Æ ra R cr) (Æ sa sn sc)<|f.at y (Ñ Q (i::jJ)::k)::qX):=by
 have hF:=trivial;apply fN (n:=40) j.r;simp only[ZZ];conv in ZY=>whnf
 repeat w_go fu
 refine Ë λ_ _=> ?_;refine mY (v:=Đ #[Ê ê 0,Ê Ď 0,Æ sa sn sc]) U U (by k_ne) j.r u (λa r=> ?_) (λa r e p=> ?_) ?_
 .have h:=akk a sa sn sc;go_simp
 .have h:=akl a sa sn sc;simp[go_sem,h]at p
 walk_nrm;refine pI (V:=λp=>À<|Â ⟨p,0,Á⟩) (ob:=É #[Ê ê 0,Ê Ď 0,Æ sa sn sc] 105) U U (by k_ne) j.r u (λw=>by go_simp) (λw=>by simp[go_sem]) λa C=> ?_;walk_nrm;have p:gk fg l (gI l a<|É #[Ê ê 0,Ê Ď 0,Æ sa sn sc] 105):=ng j C;have t:ia (gI l a<|É #[Ê ê 0,Ê Ď 0,Æ sa sn sc] 105) a.heap.size (É #[Ê ê 0,Ê Ď 0,Æ sa sn sc] 105):=⟨Ç U,na⟩;have D:=C.r;generalize gI l a (É #[Ê ê 0,Ê Ď 0,Æ sa sn sc] 105)=l₁ at p t|-;generalize a.heap.size=gt at t D|-;have m:=p.N j;have S:¬l₁.q:=by rwa[p.q]
 apply fN (n:=40) m.r;repeat w_bar fu
 w_go fu
 refine Ë λ_ _=> ?_;have T:=m.fx gt<|Ã t.fq;refine SC m S (by rwa[p.d]) K L (λh=>p.M<|z h) (λi h=>(gN<|p.r rb (z Z) id).trans<|N i h) (λi h=>p.M<|B i h) (λi h=>(gN<|p.r _ (B i h) id).trans<|O i h) (λg s W b c h r=> ?_) R 0 Z (λ_=>gt) l₁ _ (Æ Á 0 0) (Æ Á 0 0) ⟨gk.fX m.r,⟨U,Ã ⟨U,U⟩⟩,⟨U,Ã ⟨U,U⟩⟩,λk e=>(by cases e),λk e=>(by cases e),λk e=>(by cases e),λk x o=> ?_,T,rfl,λk X x o=> ?_⟩ ⟨rfl,rfl,rfl,rfl,rfl,rfl,rfl⟩
 .have Y:=h.r.N m;obtain⟨y0,y1,y2,y3,E,F,y6,y7,y8,y9,xH,zL,xI,rX,td,rf,vZ,we,uS,uT,uU,tf,tg,tj,rQ,s6,rR,pE,oD,qi,qj,qk,uF,s7,s8,rS,rT,uG,uH,uI,uJ,uK,uL,uM,uN,uO,qm,qn,rfl⟩:=Lz W r.r;obtain rfl:b=E:=(show E=b by simpa using r.N).symm;obtain rfl:c=F:=(show F=c by simpa using r.S).symm;obtain rfl:y6=À (Â ⟨g<|fO kd R,0,Á⟩):=by simpa using r.Y
  obtain rfl:rX=Æ ra R cr:=by simpa using r.C
  obtain rfl:td=Ê Î R:=by simpa using r.I
  obtain rfl:rf=Ê Î R:=by simpa using r.M
  have gT:¬((R:Int)<(R:Int)):=Z
  apply fN (n:=40) Y.r;simp only[Cb];conv in HO=>whnf
  conv in Sp=>whnf
  repeat w_go fu
  u_in fu hF
  refine akj U U ų U ⟨by u_nil,?_⟩;walk_nrm;refine Ë λ_ _=> ?_;have H:=h.S;refine P g s b c ⟨p.ff h.r,h.jP,h.mM,λk e=>⟨(h.C k e).1,Õ p.I (h.C k e).2⟩,λk e=>⟨(h.I k e).1,Õ p.I (h.I k e).2⟩,h.M,H▸t.r h.r id,λk x o=>(h.N k x o).1,λk hk=> ?_,h.Y⟩;by_cases h0:k=0
  .subst h0;rw[H];exact⟨D,λe=>by have:=(h.C _ e).2;omega,λe=>by have:=(h.I _ e).2;omega⟩
  .let⟨_,a2,a3,a4⟩:=h.N k Z hk;exact⟨Õ p.I a2,a3,a4⟩
 .have:k<=0:=o;omega
 .have:X<=0:=o;omega
end
noncomputable def Z0:Ę:=kU Tryz.f37 []
noncomputable def EA (a b:Ï) (n:Nat) (c:List é):Ý:=G ((base 37).at ⟨#[a,b,Ê Î n,Å,Å,Å,Å,Å,Å,Å,Å,Å,Å,Å,Å,Å,Å,Å,Å,Å,Å,Å,Å,Å,Å,Å,Å,Å,Å,Å,Å,Å,Å,Å,Å,Å,Å,Å,Å,Å,Å,Å,Å,Å,Å,Å,Å,Å,Å],[]⟩ [ö Z0]) c
def HT.wo{kd:Nat->Int}{rq:Nat->Nat}{R:Nat}{l a b:fc}(h:HT kd rq D R v x z l a)(k:gk fg a b):HT kd rq D R v x z l b:= ⟨h.Y.ff k,n9 h.jP λj e=>k.r j (Ã (h.r j e).1) id,n9 h.mM λj e=>k.r j (Ã (h.C j e).1) id,λj e=>⟨k.O j (h.r j e).1,(h.r j e).2⟩,λj e=>⟨k.O j (h.C j e).1,(h.C j e).2⟩,h.dis,h.N.r k id,λj c d=>(h.I j c d).r k id,h.M,h.S⟩
abbrev xS(R:Nat):Ÿ:=É (madeCells (Ŵ<|à ⟨#[]⟩) R) 9
structure LC(kd:Nat->Int)(rq g:Nat->Nat)(R:Nat)(iv qv sv:Ï)(an ba bi all bw bf:Nat)(l lp l':fc):Prop where
 C:gk fg l l'
 r:HT kd rq g R iv qv sv lp l'
 I:ia l' an (xS R)
 a:ia l' ba (É #[Æ (Â ⟨an,0,Á⟩) R R] 25)
 c:ia l' bi (É #[iv] 85)
 Y:ia l' all (É #[Ê ê 4294967296,Ê Ď 0] 97)
 d:ia l' bw (É #[À<|Â ⟨all,0,Á⟩] 162)
 b:ia l' bf (É #[Ĉ (ù 48) #[] #[À<|Â ⟨bi,0,Á⟩,À<|Â ⟨ba,0,Á⟩]] 1)
 M:l.w.heap.size<=an/\an<ba/\ba<lp.w.heap.size
 N:∀k,k<=fO kd R->g k<bi
 o3:∀k,iv.ownBlock=Â k->k<bi
 o4:∀k,qv.ownBlock=Â k->k<bi
 S:bi<all/\all<bw/\bw<bf
section
variable{J:Jd}{l:fc}{ra:Option â}{rb cr R:Nat}{sa:Option â}{sn sc:Nat}{kd:Nat->Int}{rq:Nat->Nat}
def akn(C:gA l)(G:¬l.q)(hd:l.d=0)(hR:R<1000)(HU:0<R->ra=Â ⟨rb,0,Á⟩)(wq:0<R->l.M rb)(HY:∀i,i<R->l.w.cell? ⟨rb,i,Á⟩=Â (À<|Â ⟨rq i,0,Á⟩))(KE:∀i,i<R->l.M (rq i))(HZ:∀i,i<R->l.w.cell? ⟨rq i,4,Á⟩=Â (Ê Î<|kd i)) (hJ:∀g lp l' t iv qv H y z D W bf v1,LC kd rq g R iv qv (Æ sa sn sc) H y z D W bf l lp l'->HG y D (g<|fO kd R) n qv t->J l' (BW (À<|Â ⟨D,0,Á⟩) v1 (À<|Â ⟨D,0,Á⟩) (ñ #[]) W bf<|Ex t::qX)): fi Ä Ò J l (EA (Æ sa sn sc) (Æ ra R cr) n qX):=by
 have hF:True:=trivial;have Z1:Ä.info? 9=Â Ġ:=Tryz.type9;have Qc:∀w:ß,(Ŏ 25 (Ê Î (R:Int))<|Ê Î (R:Int)).run Ä w=.ok (Æ (Â ⟨w.heap.size,0,Á⟩) R R) (w.alloc<|xS R):=λw=>by have:=run_makeSlice (P:=Ä) w 25 9 Ġ (à ⟨#[]⟩) ľ Z1 U Î Î (R:Int) (R:Int) Z Z (by simp[Ġ];omega) (by simp[Ġ];omega) Z;simpa[Ġ]using this
 have hme:∀w:ß,(Ŏ 25 (Ê Î (R:Int))<|Ê Î (R:Int)).events Ä w #[]=#[]:=λw=>
  events_make (P:=Ä) w 25 9 Ġ (à ⟨#[]⟩) ľ Z1 U Î Î (R:Int) (R:Int) Z Z (by simp[Ġ];omega) Z (by simp[Ġ];omega) _
 apply fN (n:=40) C.r;simp only[EA];conv in Z0=>whnf
 repeat w_go fu
 refine Ë λ_ _=> ?_;refine pI (V:=λp=>Æ (Â ⟨p,0,Á⟩) R R) (ob:=xS R) U U (by k_ne) C.r G (λw=>by have k:=Qc w;go_simp) (λw=>by have k:=hme w;simp[go_sem,k]) λc m=> ?_;walk_nrm;have a:=ng (X:=fg) (ob:=xS R) C m;have r:ia (gI l c<|xS R) c.heap.size (xS R):=⟨Ç U,na⟩;have han:l.w.heap.size<=c.heap.size:=m.r;generalize gI l c (xS R)=l1 at a r|-;generalize c.heap.size=H at r han|-;clear m c;have SF:gk fg l l1:=a;have SG:=SF.N C;have ako:¬l1.q:=by rwa[SF.q]
 have avu:l.w.heap.size<=l1.w.heap.size:=a.I;clear a;have lan:=SG.fx H<|Ã r.fq;refine pI (V:=λp=>À<|Â ⟨p,0,Á⟩) (ob:=É #[Æ Á 0 0] 25) U U (by k_ne) SG.r ako (λw=>by go_simp) (λw=>by simp[go_sem]) λc m=> ?_;walk_nrm;have a:=ng (X:=fg) (ob:=É #[Æ Á 0 0] 25) SG m;have f:ia (gI l1 c<|É #[Æ Á 0 0] 25) c.heap.size (É #[Æ Á 0 0] 25):=⟨Ç U,na⟩;have Z2:l1.w.heap.size<=c.heap.size:=m.r;generalize gI l1 c (É #[Æ Á 0 0] 25)=l2 at a f|-;generalize c.heap.size=y at f Z2|-;clear m c;have SH:gk fg l l2:=SF.ff a;replace r:=r.r a id;have SJ:=SH.N C;have akp:¬l2.q:=by rwa[SH.q]
 have avv:l1.w.heap.size<=l2.w.heap.size:=a.I;clear a;have lba:=SJ.fx y<|Ã f.fq;refine Hs (p:=y) (off:=0) (v:=Æ (Â ⟨H,0,Á⟩) R R) (u:=Æ Á 0 0) U U (by k_ne) SJ.r akp f.fq (f.C U) (by simp[î,f.I]) U (λw o F=>by go_simp) (λw o F=>by simp[go_sem,á _ _ _ _ _ _ (show Ø (Æ (Â ⟨H,0,Á⟩) R R)=Ò from rfl),o,F]) ?_;have a:=Ld (X:=λb=>b=y) (p:=y) (w':=l2.w.setCell ⟨y,0,Á⟩<|Æ (Â ⟨H,0,Á⟩) R R) SJ (fG.fX _ _) f.fq U kg λj E=>lA E;replace f:ia ({l2 with w:=l2.w.setCell ⟨y,0,Á⟩ (Æ (Â ⟨H,0,Á⟩) R R)}:fc) y (É #[Æ (Â ⟨H,0,Á⟩) R R] 25):=⟨f.fq,by show(l2.w.setCell ⟨y,0,Á⟩<|Æ (Â ⟨H,0,Á⟩) R R).heap[y]?=_;unfold þ;simp[í,f.I]⟩;generalize({l2 with w:=l2.w.setCell ⟨y,0,Á⟩ (Æ (Â ⟨H,0,Á⟩) R R)}:fc)=l3 at a f|-;have S:gk fg l l3:=SH.wo a λj E e=>by have:=C.fx j E;omega
 replace r:=r.r a Z;have Z3:=S.N C;have akq:¬l3.q:=by rwa[S.q]
 have avw:l2.w.heap.size<=l3.w.heap.size:=a.I;clear a;apply fN (n:=20) Z3.r;iterate 5 w_go fu
 u_call ų fP Ĝ fu hF
 refine Ë λ_ _=> ?_;refine akm (l:=l3) (kd:=kd) (rq:=rq) (ra:=ra) (rb:=rb) (cr:=cr) (R:=R) (sa:=sa) (sn:=sn) (sc:=sc) Z3 akq (by rwa[S.d]) hR HU (λh=>S.M<|wq h) (λi k=>(gN<|S.r rb (wq Z) id).trans<|HY i k) (λi k=>S.M<|KE i k) (λi k=>(gN<|S.r _ (KE i k) id).trans<|HZ i k) λg B iv qv T=> ?_;walk_nrm;have a:=T.Y;have SK:gk fg l B:=S.ff a;replace r:=r.r a id;replace f:=f.r a id;have L:=SK.N C;have akr:¬B.q:=by rwa[SK.q]
 have avx:l3.w.heap.size<=B.w.heap.size:=a.I;clear a;have aks:gk fg B B:=gk.fX L.r;obtain⟨I,K,rfl⟩:∃I K,iv=Æ I (fO kd R) K:=by
  rcases T.jP.2 with⟨k,s⟩|⟨b,N,Q,k,_⟩
  .exact⟨Á,0,by rwa[s]⟩
  .exact⟨_,_,k⟩
 have og:∀k,k<=fO kd R->g k<B.w.heap.size:=λk hk=>by
  by_cases s:k=0
  .subst s;exact L.fx _<|Ã T.N.fq
  .exact L.fx _<|Ã (T.I k Z hk).fq
 have oi:∀k,(Æ I (fO kd R) K).ownBlock=Â k->k<B.w.heap.size:=λk e=>L.fx _<|Ã (T.r k e).1;have oq:∀k,qv.ownBlock=Â k->k<B.w.heap.size:=λk e=>L.fx _<|Ã (T.C k e).1;apply fN (n:=20) L.r;iterate 4 w_go fu
 refine Ë λ_ _=> ?_;refine pI (V:=λp=>À<|Â ⟨p,0,Á⟩) (ob:=É #[Æ Á 0 0] 85) U U (by k_ne) L.r akr (λw=>by go_simp) (λw=>by simp[go_sem]) λc m=> ?_;walk_nrm;have a:=ng (X:=fg) (ob:=É #[Æ Á 0 0] 85) L m;have s:ia (gI B c<|É #[Æ Á 0 0] 85) c.heap.size (É #[Æ Á 0 0] 85):=⟨Ç U,na⟩;have SL:B.w.heap.size<=c.heap.size:=m.r;generalize gI B c (É #[Æ Á 0 0] 85)=l5 at a s|-;generalize c.heap.size=z at s SL|-;clear m c;have SN:gk fg l l5:=SK.ff a;have akt:gk fg B l5:=aks.ff a;replace r:=r.r a id;replace f:=f.r a id;have SO:=SN.N C;have aku:¬l5.q:=by rwa[SN.q]
 have avy:B.w.heap.size<=l5.w.heap.size:=a.I;clear a;have lbi:=SO.fx z<|Ã s.fq;refine Hs (p:=z) (off:=0) (v:=Æ I (fO kd R) K) (u:=Æ Á 0 0) U U (by k_ne) SO.r aku s.fq (s.C U) (by simp[î,s.I]) U (λw o F=>by go_simp) (λw o F=>by simp[go_sem,á _ _ _ _ _ _ (show Ø (Æ I (fO kd R) K)=Ò from rfl),o,F]) ?_;have a:=Ld (X:=λb=>b=z) (p:=z) (w':=l5.w.setCell ⟨z,0,Á⟩<|Æ I (fO kd R) K) SO (fG.fX _ _) s.fq U kg λj E=>lA E;replace s:ia ({l5 with w:=l5.w.setCell ⟨z,0,Á⟩ (Æ I (fO kd R) K)}:fc) z (É #[Æ I (fO kd R) K] 85):=⟨s.fq,by show(l5.w.setCell ⟨z,0,Á⟩<|Æ I (fO kd R) K).heap[z]?=_;unfold þ;simp[í,s.I]⟩;generalize({l5 with w:=l5.w.setCell ⟨z,0,Á⟩ (Æ I (fO kd R) K)}:fc)=l6 at a s|-;have SQ:gk fg l l6:=SN.wo a λj E e=>by have:=C.fx j E;omega
 have akv:gk fg B l6:=akt.wo a λj E e=>by have:=L.fx j E;omega
 replace r:=r.r a Z;replace f:=f.r a Z;have SR:=SQ.N C;have akw:¬l6.q:=by rwa[SQ.q]
 have avz:l5.w.heap.size<=l6.w.heap.size:=a.I;clear a;apply fN (n:=20) SR.r;iterate 5 w_go fu
 refine Ë λ_ _=> ?_;refine pI (V:=λp=>À<|Â ⟨p,0,Á⟩) (ob:=É #[Ê ê 0,Ê Ď 0] 97) U U (by k_ne) SR.r akw (λw=>by go_simp) (λw=>by simp[go_sem]) λc m=> ?_;walk_nrm;have a:=ng (X:=fg) (ob:=É #[Ê ê 0,Ê Ď 0] 97) SR m;have F:ia (gI l6 c<|É #[Ê ê 0,Ê Ď 0] 97) c.heap.size (É #[Ê ê 0,Ê Ď 0] 97):=⟨Ç U,na⟩;have mr:l6.w.heap.size<=c.heap.size:=m.r;generalize gI l6 c (É #[Ê ê 0,Ê Ď 0] 97)=l7 at a F|-;generalize c.heap.size=D at F mr|-;clear m c;have SS:gk fg l l7:=SQ.ff a;have akx:gk fg B l7:=akv.ff a;replace r:=r.r a id;replace f:=f.r a id;replace s:=s.r a id;have LD:=SS.N C;have aky:¬l7.q:=by rwa[SS.q]
 have avA:l6.w.heap.size<=l7.w.heap.size:=a.I;clear a;have avB:=LD.fx D<|Ã F.fq;apply fN (n:=20) LD.r;iterate 4 w_go fu
 u_call Ħ fP Μ fu hF
 iterate 2 w_go fu
 refine Ë λ_ _=> ?_;refine pI (V:=λp=>À<|Â ⟨p,0,Á⟩) (ob:=É #[À<|Â ⟨D,0,Á⟩] 162) U U (by k_ne) LD.r aky (λw=>by go_simp) (λw=>by simp[go_sem]) λc m=> ?_;walk_nrm;have a:=ng (X:=fg) (ob:=É #[À<|Â ⟨D,0,Á⟩] 162) LD m;have N:ia (gI l7 c<|É #[À<|Â ⟨D,0,Á⟩] 162) c.heap.size (É #[À<|Â ⟨D,0,Á⟩] 162):=⟨Ç U,na⟩;have B6:l7.w.heap.size<=c.heap.size:=m.r;generalize gI l7 c (É #[À<|Â ⟨D,0,Á⟩] 162)=l8 at a N|-;generalize c.heap.size=W at N B6|-;clear m c;have SU:gk fg l l8:=SS.ff a;have akz:gk fg B l8:=akx.ff a;replace r:=r.r a id;replace f:=f.r a id;replace s:=s.r a id;replace F:=F.r a id;have SV:=SU.N C;have akA:¬l8.q:=by rwa[SU.q]
 have avC:l7.w.heap.size<=l8.w.heap.size:=a.I;clear a;have lbw:=SV.fx W<|Ã N.fq;refine pI (V:=λp=>À<|Â ⟨p,0,Á⟩) (ob:=É #[Ĉ (ù 48) #[] #[À<|Â ⟨z,0,Á⟩,À<|Â ⟨y,0,Á⟩]] 1) U U (by k_ne) SV.r akA (λw=>by go_simp) (λw=>by simp[go_sem]) λc m=> ?_;walk_nrm;have a:=ng (X:=fg) (ob:=É #[Ĉ (ù 48) #[] #[À<|Â ⟨z,0,Á⟩,À<|Â ⟨y,0,Á⟩]] 1) SV m;have Y:ia (gI l8 c<|É #[Ĉ (ù 48) #[] #[À<|Â ⟨z,0,Á⟩,À<|Â ⟨y,0,Á⟩]] 1) c.heap.size (É #[Ĉ (ù 48) #[] #[À<|Â ⟨z,0,Á⟩,À<|Â ⟨y,0,Á⟩]] 1):=⟨Ç U,na⟩;have Lu:l8.w.heap.size<=c.heap.size:=m.r;generalize gI l8 c (É #[Ĉ (ù 48) #[] #[À<|Â ⟨z,0,Á⟩,À<|Â ⟨y,0,Á⟩]] 1)=l9 at a Y|-;generalize c.heap.size=bf at Y Lu|-;clear m c;have LF:gk fg l l9:=SU.ff a;have akB:gk fg B l9:=akz.ff a;replace r:=r.r a id;replace f:=f.r a id;replace s:=s.r a id;replace F:=F.r a id;replace N:=N.r a id;have H0:=LF.N C;have Z4:¬l9.q:=by rwa[LF.q]
 have avD:l8.w.heap.size<=l9.w.heap.size:=a.I;clear a;have lbf:=H0.fx bf<|Ã Y.fq;apply fN (n:=20) H0.r;iterate 3 w_go fu
 refine Ë λ_ _=> ?_;apply oZ (x:=⟨W,0,Á⟩) U U (by k_ne) H0.r Z4 (Ã<|Ã N.fq) (N.C U) (λw h=>by go_simp) (λw h=>by simp[go_sem,h]);walk_nrm;apply fN (n:=20) H0.r;u_call re.f_add (nm_add Lk) addFn fu hF;refine Ë λ_ _=> ?_;refine ZR re H0 Z4 (by rwa[LF.d]) F.fq F.I U U λQ hC=> ?_;walk_nrm;have a:gk (λb=>b=D) l9 Q:=hC.r;replace F:ia Q D (É #[Ê ê 4294967296,Ê Ď 0] 97):=⟨hC.r.O D F.fq,hC.C⟩;have SY:gk fg l Q:=LF.wo a λj E e=>by have:=C.fx j E;omega
 have akC:gk fg B Q:=akB.wo a λj E e=>by have:=L.fx j E;omega
 replace r:=r.r a Z;replace f:=f.r a Z;replace s:=s.r a Z;replace N:=N.r a Z;replace Y:=Y.r a Z;have akD:=SY.N C;have avE:¬Q.q:=by rwa[SY.q]
 have avF:l9.w.heap.size<=Q.w.heap.size:=a.I;clear a;apply fN (n:=20) akD.r;iterate 3 w_go fu
 refine Ë λ_ _=> ?_;refine .fB λB9 xR=> ?_;have at9:∀{b:Nat} {o:Ÿ},ia Q b o->ia ({Q with w:=B9}:fc) b o:=λh=>⟨h.fq,(xR.I _<|Ã h.fq).trans h.I⟩;exact hJ g l3 {Q with w:=B9} _ (Æ I (fO kd R) K) qv H y z D W bf _ ⟨SY.G xR,T.wo<|akC.G xR,at9 r,at9 f,at9 s,at9 F,at9 N,at9 Y,⟨Z,Z,Z⟩,λk hk=>by have:=og k hk;omega,λk e=>by have:=oi k e;omega,λk e=>by have:=oq k e;omega,⟨Z,Z,Z⟩⟩ ⟨U,U,U,U,U,U⟩
end
def akE{md:ý}{listed:Array Bool}(h:Û md Q listed=[]):∀(a t:Nat),ë md Q a t listed []=[]:=by
 intro a t;cases a with
 |zero=>rfl
 |succ a=>
  simp only[ë];change(match(Û md Q listed)[t%(Û md Q listed).length]? with
   |some i=>ë md Q a (t/(Û md Q listed).length) (listed.setIfInBounds i Ò) [i]
   |none=>[].reverse)=[]
  rw[h];rfl
section
variable{J:Jd}{l:fc}
def Z5{md:ý}(I:Array Bool->ŏ->fc->Prop) (p:∀b a l i k,I b a l->b.size=Q.size->i∈Û md Q b->(Û md Q (b.setIfInBounds i Ò)=[]->k=[])->fi P yQ (λg m=>(∃h,m=G (f.at h<|Ñ Q k::L) qX/\I (b.setIfInBounds i Ò) h g)\/fi P yQ J g m) l (G (f.at a<|Ñ Q (i::k)::L) qX)) (o:∀b a l,I b a l->b.size=Q.size->Û md Q b=[]->fi P yQ J l (G (f.at a<|Ñ Q []::L) qX)): ∀(c t:Nat) (b:Array Bool) (a:ŏ) (l:fc),b.size=Q.size->jw b<=c->I b a l->fi P yQ J l (G (f.at a<|Ñ Q (ë md Q c t b [])::L) qX):=by
 intro c
 induction c with
 |zero=>
  intro t b a l d q j;simpa[ë]using o b a l j d<|RL d Z
 |succ c r=>
  intro t b a l d q j;simp only[ë];change fi P yQ J l (G (f.at a (Ñ Q (match(Û md Q b)[t%(Û md Q b).length]? with
   |some i=>ë md Q c (t/(Û md Q b).length) (b.setIfInBounds i Ò) [i]
   |none=>[].reverse)::L)) qX)
  cases n:(Û md Q b)[t%(Û md Q b).length]? with
  |none=>
   have s:Û md Q b=[]:=by
    cases u:Û md Q b with
    |nil=>rfl
    |cons x e=>
     rw[u]at n;have v:t%(x::e).length<(x::e).length:=ĵ _ fl;simp at n;simp at v;omega
   simpa using o b a l j d s
  |some i=>
   simp only[];rw[linearise_go_acc,List.reverse_singleton,List.singleton_append];have x:=ħ n;refine(p b a l i _ j d x λe=>akE e _ _).lG ?_;rintro g m (⟨h,rfl,hI'⟩|hW)
   .exact r _ _ h g (by simpa using d) (by have:=K1 (mem_ready.1 x).1;omega) hI'
   .exact hW
def akF{id:Nat}(I:Array Bool->ŏ->fc->Prop)(o:jZ l)(p:¬l.q) (g:∀c,fG l l.w c->I (Array.replicate Q.size Ì) y {l with w:={c with drawn:=c.drawn+1}}) (h:∀d b y l i e,I b y l->b.size=Q.size->i∈Û d Q b->(Û d Q (b.setIfInBounds i Ò)=[]->e=[])->fi P yQ (λj k=>(∃m,k=G (f.at m<|Ñ Q e::L) qX/\I (b.setIfInBounds i Ò) m j)\/fi P yQ J j k) l (G (f.at y<|Ñ Q (i::e)::L) qX)) (n:∀d b y l,I b y l->b.size=Q.size->Û d Q b=[]->fi P yQ J l (G (f.at y<|Ñ Q []::L) qX)): fi P yQ J l (G (f.at y<|ö (ä id Q Ò)::L) qX):=by
 refine .mk U λc r=>⟨_,_,_,_,stepG_region_draw,RJ (mb o r) p,?_⟩;unfold Region.schedule;split
 .exact Z5 I (h _) (n _) _ _ _ _ _ fl (by rw[Eb];exact Ú _)<|g c r
 .exact Z5 I (h _) (n _) _ _ _ _ _ fl (by rw[Eb];exact Ú _)<|g c r
end
def Cc:å:=⟨Â 15,ę<|Ù 1,100, "work.go:72",#[],Á⟩
def Cd:å:=⟨Â 16,ę<|Ù 4,3, "work.go:72",#[],Á⟩
def Ce:å:=⟨Â 17,ę<|Ù 1,100, "work.go:72",#[],Á⟩
def xT:å:=⟨Â 18,Ě {callee:=Ŕ .len,args:=#[Ù 17],argTypes:=#[100]},3, "work.go:72",#[⟨2,Ü⟩],Á⟩
def uY:å:=⟨Â 19,Λ .rem 3 (Ù 16) (Ù 18) 3,3, "work.go:72",#[⟨1,Ü⟩,⟨3,Ü⟩],Á⟩
def uZ:å:=⟨Â 20,ő 100 (Ù 15)<|Ù 19,0, "work.go:72",#[⟨0,Ü⟩,⟨4,Ü⟩],Á⟩
def xU:å:=⟨Â 21,ć 101<|Ù 20,101, "work.go:72",#[⟨5,Ü⟩],Á⟩
def Cf:å:=⟨Â 22,ć 155<|Ù 5,155, "work.go:72",#[],Á⟩
def xV:å:=⟨Á,.send (Ù 21)<|Ù 22,0, "work.go:72",#[⟨6,Ü⟩,⟨7,Ü⟩],Á⟩
def oe:Array å:=#[Cc,Cd,Ce,xT,uY,uZ,xU,Cf,xV]
noncomputable def LG:Ę:=kU Ŗ [1,1,0,0]
noncomputable def Z6:Ę:=kU Ŗ [1]
noncomputable def LH:Ę:=kU Ŗ [0,1,0,0]
noncomputable def Cg (t:Array Ï) (a:List é):Ý:=G ((base 52).at ⟨t,[]⟩ [ö LH,ą LH,ô 0,ö Z6]) a
structure DT(dv:Ï)(qb:Option â)(q cq i:Nat)(t:Array Ï):Prop where
 r:t.size=32
 C:t[1]?=Â dv
 t8:t[8]?=Â (Æ qb q cq)
 M:t[9]?=Â (Ê Î q)
 I:t[10]?=Â (Ê Î i)
def H2(t:Array Ï)(h:t.size=32):∃a b c d e f g i j k l m n o p q r s u v w x y z B C D E F G H I:Ï,t=#[a,b,c,d,e,f,g,i,j,k,l,m,n,o,p,q,r,s,u,v,w,x,y,z,B,C,D,E,F,G,H,I]:=by obtain⟨_,rfl⟩:=vY t h;exact⟨_,_,_,_,_,_,_,_,_,_,_,_,_,_,_,_,_,_,_,_,_,_,_,_,_,_,_,_,_,_,_,_,U⟩
def u5(c n i a d:Nat)(b tk:Ï)(_:Unit):Nat->Ï
 |0=>b
 |1=>Ê Î i
 |2=>b
 |3=>Ê Î n
 |4=>Ê Î a
 |5=>À<|Â ⟨c,a,Á⟩
 |6=>è<|Â d
 |7=>tk
 |_=>Å
def LJ(a:fc)(listed:Array Bool)(_:Unit)(l:fc):Prop:=iH fg a l/\¬listed.getD 8 Ì=Ò
section
variable{J N:Jd}{p:fc}{g s:Nat}{u:Option â}
def akG(EB:gA p)(hq:¬p.q)(ht:d.size=32)(uQ:d[1]?=Â (Æ (Â ⟨j9,0,Á⟩) n j))(Hp:d[4]?=Â (Ê Î i))(RU:d[5]?=Â (À<|Â ⟨g,0,Á⟩))(z:p.O g)(T:p.O j9)(hn:0<n)(wv:n<1000)(hi1:i<1000) (Z7:i%n=j6) (V:p.w.cell? ⟨j9,j6,Á⟩=Â (è<|Â m)) (W:p.w.cell? ⟨g,0,Á⟩=Â (À u)) (X:p.w.cell? ⟨g,1,Á⟩=Â (Ê Î s)) (Y:p.w.cell? ⟨g,2,Á⟩=Â (À<|Â ⟨j7,0,Á⟩)) (c3:p.w.cell? ⟨g,3,Á⟩=Â (À O)) (hJ:∀l H,iH fg p l->H.size=32->(∀c,c<15->H[c]?=d[c]?)->A6 Ä Ò m (Đ #[À u,Ê Î s,À<|Â ⟨j7,0,Á⟩,À O]) N l (G ((base 52).at ⟨H,[]⟩<|Ñ oe [8]::L) qX)->J l (G ((base 52).at ⟨H,[]⟩<|Ñ oe [8]::L) qX)) (hN:∀l H,iH fg p l->H.size=32->(∀c,c<15->H[c]?=d[c]?)->fi Ä Ò N l (G ((base 52).at ⟨H,[]⟩<|Ñ oe []::L) qX)) (md:ý) (listed:Array Bool) (a:ŏ) (l:fc) (i':Nat) (rest:List Nat) (hI:II oe d (u5 j9 n i j6 m (Æ (Â ⟨j9,0,Á⟩) n j)<|Đ #[À u,Ê Î s,À<|Â ⟨j7,0,Á⟩,À O]) (LJ p) listed a l) (ku:listed.size=oe.size) (C:i'∈Û md oe listed) (H3:Û md oe (listed.setIfInBounds i' Ò)=[]->rest=[]): fi Ä Ò (λD F=>(∃Q,F=G ((base 52).at Q<|Ñ oe rest::L) qX/\II oe d (u5 j9 n i j6 m (Æ (Â ⟨j9,0,Á⟩) n j)<|Đ #[À u,Ê Î s,À<|Â ⟨j7,0,Á⟩,À O]) (LJ p) (listed.setIfInBounds i' Ò) Q D)\/fi Ä Ò J D F) l (G ((base 52).at a<|Ñ oe (i'::rest)::L) qX):=by
 let⟨x,t,S,h8⟩:=hI;have I:qY oe d.size=Ò:=by rw[ht];decide
 have gT:=zE C;have K:=S.fx;have M:¬l.q:=by rwa[S.q]
 have nI:a.tmps[1]?=Â (Æ (Â ⟨j9,0,Á⟩) n j):=(t.C A).trans uQ;have zU:a.tmps[4]?=Â (Ê Î i):=(t.C A).trans Hp;have rW:a.tmps[5]?=Â (À<|Â ⟨g,0,Á⟩):=(t.C A).trans RU;have y:∀b f v,p.O b->p.w.cell? ⟨b,f,Á⟩=Â v->gX l ⟨b,f,Á⟩/\l.w.cell? ⟨b,f,Á⟩=Â v:=λb f v E h=>⟨Ã<|Ã<|S.O b E,by rwa[gN<|S.r b<|Ã E]⟩;have P:∀{k:Nat},k≠8->∀B,fG l l.w B->LJ p (listed.setIfInBounds k Ò) () {l with w:=B}:=λhm B r=>⟨S.N (λ_ q=>q.elim) r,by rwa[ç Ì hm]⟩;have akH:j6<n:=by rw[<-Z7];exact ĵ _ hn
 have akI:(j6:Int)<(n:Int):=Z
 have H4:¬(n:Int)=0:=Z
 have akJ:¬n=0:=Z
 have htm:Int.tmod (i:Int) (n:Int)=(j6:Int):=by rw[Int.tmod_eq_emod_of_nonneg Z,<-Z7];simp
 have oW:Î.wrap (j6:Int)=(j6:Int):=BP Z Z;have LK:oe.size=9:=A
 rw[LK]at gT;match i',gT with
 |0,_=>
  refine(im (o:=Cc) I t U U C (by k_ne) K M (λB r=> ?_) (λB r e D=> ?_)<|P A).fR λ_ _ h=>Ã h
  .simp only[u5,Cc];go_simp
  .simp[go_sem,Cc,nI]at D
 |1,_=>
  refine(im (o:=Cd) I t U U C (by k_ne) K M (λB r=> ?_) (λB r e D=> ?_)<|P A).fR λ_ _ h=>Ã h
  .simp only[u5,Cd];go_simp
  .simp[go_sem,Cd,zU]at D
 |2,_=>
  refine(im (o:=Ce) I t U U C (by k_ne) K M (λB r=> ?_) (λB r e D=> ?_)<|P A).fR λ_ _ h=>Ã h
  .simp only[u5,Ce];go_simp
  .simp[go_sem,Ce,nI]at D
 |3,_=>
  have F:a.tmps[17]?=Â (Æ (Â ⟨j9,0,Á⟩) n j):=t.r 2 Ce 17 U (ig (o:=xT) C U U) U;refine(im (o:=xT) I t U U C (by k_ne) K M (λB r=> ?_) (λB r e D=> ?_)<|P A).fR λ_ _ h=>Ã h
  .simp only[u5,xT];go_simp
  .simp[go_sem,xT,F]at D
 |4,_=>
  have F:a.tmps[16]?=Â (Ê Î i):=t.r 1 Cd 16 U (ig (o:=uY) C U U) U;have Q:a.tmps[18]?=Â (Ê Î n):=t.r 3 xT 18 U (ig (o:=uY) C U U) U;refine(im (o:=uY) I t U U C (by k_ne) K M (λB r=> ?_) (λB r e D=> ?_)<|P A).fR λ_ _ h=>Ã h
  .simp only[u5,uY];go_simp
  .simp[go_sem,uY,F,Q,H4,akJ,htm,oW]at D
 |5,_=>
  have F:a.tmps[15]?=Â (Æ (Â ⟨j9,0,Á⟩) n j):=t.r 0 Cc 15 U (ig (o:=uZ) C U U) U;have Q:a.tmps[19]?=Â (Ê Î j6):=t.r 4 uY 19 U (ig (o:=uZ) C U U) U;refine(im (o:=uZ) I t U U C (by k_ne) K M (λB r=> ?_) (λB r e D=> ?_)<|P A).fR λ_ _ h=>Ã h
  .simp only[u5,uZ];go_simp
  .simp[go_sem,uZ,F,Q,akH,akI]at D
 |6,_=>
  have Q:a.tmps[20]?=Â (À<|Â ⟨j9,j6,Á⟩):=t.r 5 uZ 20 U (ig (o:=xU) C U U) U;refine(im (o:=xU) I t U U C (by k_ne) K M (λB r=> ?_) (λB r e D=> ?_)<|P A).fR λ_ _ h=>Ã h
  .have F:=((y j9 _ _ T V).1.r r).trans (y j9 _ _ T V).2;simp only[u5,xU];go_simp
  .have F:=((y j9 _ _ T V).1.r r).trans (y j9 _ _ T V).2;have hee:e=⟨û ⟨j9,j6,Á⟩,Ì,Ì⟩:=by simp[go_sem,xU,F,Q]at D;exact D
   subst hee;exact(y j9 _ _ T V).1.rd
 |7,_=>
  refine(im (o:=Cf) I t U U C (by k_ne) K M (λB r=> ?_) (λB r e D=> ?_)<|P A).fR λ_ _ h=>Ã h
  .have F:=((y g _ _ z W).1.r r).trans (y g _ _ z W).2;have Q:=((y g _ _ z X).1.r r).trans (y g _ _ z X).2;have qt:=((y g _ _ z Y).1.r r).trans (y g _ _ z Y).2;have tu:=((y g _ _ z c3).1.r r).trans (y g _ _ z c3).2;simp only[u5,Cf];go_simp
  .have F:=((y g _ _ z W).1.r r).trans (y g _ _ z W).2;have Q:=((y g _ _ z X).1.r r).trans (y g _ _ z X).2;have qt:=((y g _ _ z Y).1.r r).trans (y g _ _ z Y).2;have tu:=((y g _ _ z c3).1.r r).trans (y g _ _ z c3).2;simp[go_sem,Cf,rW,F,Q,qt,tu]at D;rcases D with rfl|rfl|rfl|rfl
   .exact(y g _ _ z W).1.rd
   .exact(y g _ _ z X).1.rd
   .exact(y g _ _ z Y).1.rd
   .exact(y g _ _ z c3).1.rd
 |8,_=>
  have d6:=ig (j:=6) (o:=xV) C U U;have d7:=ig (j:=7) (o:=xV) C U U;have R9:a.tmps[21]?=Â (è<|Â m):=t.r 6 xU 21 U d6 U;have Hh:a.tmps[22]?=Â (Đ #[À u,Ê Î s,À<|Â ⟨j7,0,Á⟩,À O]):=t.r 7 Cf 22 U d7 U;have d5:=t.I (j:=5) (o:=xU) U d6 U;have d0:=t.I (j:=0) (o:=uZ) U d5 U;have d4:=t.I (j:=4) (o:=uZ) U d5 U;have d1:=t.I (j:=1) (o:=uY) U d4 U;have d3:=t.I (j:=3) (o:=uY) U d4 U;have d2:=t.I (j:=2) (o:=xT) U d3 U;have mr:Û md oe (listed.setIfInBounds 8 Ò)=[]:=by
   rw[List.eq_nil_iff_forall_not_mem];intro f hj;have EC:=zE hj;have F:=RO hj;rw[LK]at EC;by_cases Q:f=8
   .subst Q;have D:8<listed.size:=by rw[ku,LK];decide
    simp[D]at F
   .rw[ç Ò<|Ne.symm Q]at F;have D:=xF F;match f,EC,Q with
    |0,_,_=>exact D d0
    |1,_,_=>exact D d1
    |2,_,_=>exact D d2
    |3,_,_=>exact D d3
    |4,_,_=>exact D d4
    |5,_,_=>exact D d5
    |6,_,_=>exact D d6
    |7,_,_=>exact D d7
    |8,_,h=>exact h U
  obtain rfl:=H3 mr;let⟨F,ds⟩:=a;obtain rfl:ds=[]:=t.M;have H5:F.size=32:=t.S.trans ht;have LL:∀c,c<15->F[c]?=d[c]?:=λc hd=>t.b c λf o E _ e=>by
   have EC:=(æ.1 E).1;rw[LK]at EC;match f,EC with
   |0,_=>
    have D:o=Cc:=(Ó<|show Â Cc=Â o from E).symm;rw[D]at e;have Q:15=c:=Ó (show Â 15=Â c from e);omega
   |1,_=>
    have D:o=Cd:=(Ó<|show Â Cd=Â o from E).symm;rw[D]at e;have Q:16=c:=Ó (show Â 16=Â c from e);omega
   |2,_=>
    have D:o=Ce:=(Ó<|show Â Ce=Â o from E).symm;rw[D]at e;have Q:17=c:=Ó (show Â 17=Â c from e);omega
   |3,_=>
    have D:o=xT:=(Ó<|show Â xT=Â o from E).symm;rw[D]at e;have Q:18=c:=Ó (show Â 18=Â c from e);omega
   |4,_=>
    have D:o=uY:=(Ó<|show Â uY=Â o from E).symm;rw[D]at e;have Q:19=c:=Ó (show Â 19=Â c from e);omega
   |5,_=>
    have D:o=uZ:=(Ó<|show Â uZ=Â o from E).symm;rw[D]at e;have Q:20=c:=Ó (show Â 20=Â c from e);omega
   |6,_=>
    have D:o=xU:=(Ó<|show Â xU=Â o from E).symm;rw[D]at e;have Q:21=c:=Ó (show Â 21=Â c from e);omega
   |7,_=>
    have D:o=Cf:=(Ó<|show Â Cf=Â o from E).symm;rw[D]at e;have Q:22=c:=Ó (show Â 22=Â c from e);omega
   |8,_=>
    have D:o=xV:=(Ó<|show Â xV=Â o from E).symm;rw[D]at e;cases(show Á=Â c from e)
  refine .fB λB r=>Ç (.fB λxk D=> ?_);have Q:iH fg p ({l with w:=xk}:fc):=S.N (λ_ q=>q.elim)<|r.ff ⟨D.r,D.I,D.N,D.Y,D.S⟩;refine hJ _ F Q H5 LL ⟨U,U,λD=>⟨ñ #[],?_⟩,?_⟩
  .refine(Ż (cases:=#[scase m (Đ #[À u,Ê Î s,À<|Â ⟨j7,0,Á⟩,À O])<|ñ #[]]) (blocking:=Ò) (shape:=.send) (w':=D) (o:=xV) rfl rfl (by k_ne) ?_).trans ?_
   .simp[go_sem,xV,ĉ,scase,ĥ,R9,Hh]
   .have:ŗ Ä (base 52).fn ⟨F,[]⟩ xV D=#[]:=by
     unfold ŗ;simp[go_sem,xV,ĉ,ĥ,R9,Hh,Ī]
    rw[this]
  .have e:({G ((base 52).at ⟨F,[]⟩<|Ñ oe [8]::L) qX with frame:=(G ((base 52).at ⟨F,[]⟩<|Ñ oe [8]::L) qX).frame.finish Å}:Ý)=G ((base 52).at ⟨F,[]⟩<|Ñ oe []::L) qX:=by
    have:(G ((base 52).at ⟨F,[]⟩<|Ñ oe [8]::L) qX).frame.finish Å=(base 52).at (Ο ⟨F,[]⟩ Á Å) (Ñ oe []::L):=Ģ _ _ _ _ _ _ _;rw[this];rfl
   rw[e];exact hN _ F Q H5 LL
 |n+9,h=>exact absurd h Z
end
section
variable{N:Jd}{l:fc}{f:Option â}
theorem akK(s:gA l)(K:¬l.q)(G:DT (Æ (Â ⟨J,0,Á⟩) n j) (Â ⟨j6,0,Á⟩) b m i d)(hiq:i<b)(BY:b<1000)(hn:0<n)(wv:n<1000)(Z8:l.O J)(cd:l.w.cell? ⟨J,i%n,Á⟩=Â (è<|Â k))(SZ:l.M j6) (i0:l.w.cell? ⟨j6,i*4,Á⟩=Â (À f)) (i1:l.w.cell? ⟨j6,i*4+1,Á⟩=Â (Ê Î j7)) (i2:l.w.cell? ⟨j6,i*4+2,Á⟩=Â (À<|Â ⟨j9,0,Á⟩)) (i3:l.w.cell? ⟨j6,i*4+3,Á⟩=Â (À O)) (hN:∀t H,iH fg l t->DT (Æ (Â ⟨J,0,Á⟩) n j) (Â ⟨j6,0,Á⟩) b m (i+1) H->fi Ä Ò N t (Cg H qX)): fi Ä Ò (A6 Ä Ò k (Đ #[À f,Ê Î j7,À<|Â ⟨j9,0,Á⟩,À O]) N) l (Cg d qX):=by
 obtain⟨y0,y1,y2,y3,y4,y5,y6,y7,y8,y9,xH,zL,xI,rX,td,rf,vZ,we,uS,uT,uU,tf,tg,tj,rQ,s6,rR,pE,oD,qi,qj,qk,rfl⟩:=H2 d G.r;obtain rfl:y1=Æ (Â ⟨J,0,Á⟩) n j:=by simpa using G.C
 obtain rfl:y8=Æ (Â ⟨j6,0,Á⟩) b m:=by simpa using G.t8
 obtain rfl:y9=Ê Î b:=by simpa using G.M
 obtain rfl:xH=Ê Î i:=by simpa using G.I
 have rY:∀y:â,False->l.r y:=λy ha=>ha.elim;have avG:(i:Int)<(b:Int):=Z
 have hF:True:=trivial;simp only[Cg];conv in LH=>whnf
 apply fN (n:=30) s.r;repeat w_go fu
 refine Ë λ_ _=> ?_;have g:∀c,gX l ⟨j6,c,Á⟩:=λc=>Ã SZ;refine mY (v:=Đ #[À f,Ê Î j7,À<|Â ⟨j9,0,Á⟩,À O]) U U (by k_ne) s.r K (λo r=> ?_) (λo r e h=> ?_) ?_
 .have u:=((g<|i*4).r r).trans i0;have z:=((g<|i*4+1).r r).trans i1;have B:=((g<|i*4+2).r r).trans i2;have C:=((g<|i*4+3).r r).trans i3;go_simp
 .have u:=((g<|i*4).r r).trans i0;have z:=((g<|i*4+1).r r).trans i1;have B:=((g<|i*4+2).r r).trans i2;have C:=((g<|i*4+3).r r).trans i3;simp[go_sem,u,z,B,C]at h;rcases h with rfl|rfl|rfl|rfl
  .exact(g _).rd
  .exact(g _).rd
  .exact(g _).rd
  .exact(g _).rd
 walk_nrm;refine Hi (ob:=É #[À Á,Ê Î 0,À Á,À Á] 155) U U (by k_ne) s.r K (λw=>by go_simp) (λw=>by simp[go_sem]) λo X=> ?_;walk_nrm;have D:iH fg l (gI l o<|É #[À Á,Ê Î 0,À Á,À Á] 155):=K8 s rY X;have L:(gI l o<|É #[À Á,Ê Î 0,À Á,À Á] 155).w.heap[o.heap.size]?=Â (É #[À Á,Ê Î 0,À Á,À Á] 155):=na;have tq:l.w.heap.size<=o.heap.size:=X.r;have q:(gI l o<|É #[À Á,Ê Î 0,À Á,À Á] 155).O o.heap.size:=Ç U;generalize gI l o (É #[À Á,Ê Î 0,À Á,À Á] 155)=l₁ at D L q|-;generalize o.heap.size=tb at L q tq|-;apply fN (n:=3) D.fx;w_go fu;refine Ë λ_ _=> ?_;refine vS U U (by k_ne) λr P=> ?_;have E:r.heap[tb]?=_:=(P.I tb<|Ã q).trans L;have u:r.cell? ⟨tb,0,Á⟩=Â (À Á):=by simp[Ö,E]
 have z:r.cell? ⟨tb,1,Á⟩=Â (Ê Î 0):=by simp[Ö,E]
 have B:r.cell? ⟨tb,2,Á⟩=Â (À Á):=by simp[Ö,E]
 have C:r.cell? ⟨tb,3,Á⟩=Â (À Á):=by simp[Ö,E]
 have hz:∀c,r.frozen? ⟨tb,c,Á⟩=Ì:=λc=>by simp[î,E]
 go_simp;refine⟨{l₁ with w:=iY r tb (À f) (Ê Î j7) (À<|Â ⟨j9,0,Á⟩) (À O)},K9 (p:=tb) (mb D.fx P) (by rwa[D.q]) q xG (λc x=>zH x) ⟨U,U,U⟩ λe h=> ?_,?_⟩
 .have a:=đ h;have e:∀c,qo l₁ ⟨tb,c,Á⟩:=λc=>Ã q;simp[go_sem,á _ _ _ _ _ _ (show Ø (À f)=Ò from rfl),á _ _ _ _ _ _ (show Ø (À<|Â ⟨j9,0,Á⟩)=Ò from rfl),á _ _ _ _ _ _ (show Ø (À O)=Ò from rfl),u,z,B,C,hz]at a;rcases a with rfl|rfl|rfl|rfl
  .exact(e _).r
  .exact(e _).r
  .exact(e _).r
  .exact(e _).r
 let⟨Q,S,T,V⟩:=R2 (v0:=À f) (v1:=Ê Î j7) (v2:=À<|Â ⟨j9,0,Á⟩) (v3:=À O) u z B C;have F:=R3 (w':=iY r tb (À f) (Ê Î j7) (À<|Â ⟨j9,0,Á⟩)<|À O) s rY D P tq xG λc x=>zH x;have zM:({l₁ with w:=iY r tb (À f) (Ê Î j7) (À<|Â ⟨j9,0,Á⟩) (À O)}:fc).O tb:=q;replace Q:({l₁ with w:=iY r tb (À f) (Ê Î j7) (À<|Â ⟨j9,0,Á⟩) (À O)}:fc).w.cell? ⟨tb,0,Á⟩=_:=Q;replace S:({l₁ with w:=iY r tb (À f) (Ê Î j7) (À<|Â ⟨j9,0,Á⟩) (À O)}:fc).w.cell? ⟨tb,1,Á⟩=_:=S;replace T:({l₁ with w:=iY r tb (À f) (Ê Î j7) (À<|Â ⟨j9,0,Á⟩) (À O)}:fc).w.cell? ⟨tb,2,Á⟩=_:=T;replace V:({l₁ with w:=iY r tb (À f) (Ê Î j7) (À<|Â ⟨j9,0,Á⟩) (À O)}:fc).w.cell? ⟨tb,3,Á⟩=_:=V;generalize({l₁ with w:=iY r tb (À f) (Ê Î j7) (À<|Â ⟨j9,0,Á⟩) (À O)}:fc)=l₂ at Q S T V F zM|-;clear L q D E u z B C hz P r l₁ X o;have W:=F.G s;have qp:¬l₂.q:=by rwa[F.q]
 have cd2:l₂.w.cell? ⟨J,i%n,Á⟩=Â (è<|Â k):=(gN<|F.r J<|Ã Z8).trans cd;apply fN (n:=5) W.r;w_go fu;refine Ë λ_ _=> ?_;refine akF (II oe #[y0,Æ (Â ⟨J,0,Á⟩) n j,y2,y3,Ê Î i,À<|Â ⟨tb,0,Á⟩,y6,y7,Æ (Â ⟨j6,0,Á⟩) b m,Ê Î b,Ê Î i,ŝ Ò,Ê Î i,À<|Â ⟨j6,i*4,Á⟩,Đ #[À f,Ê Î j7,À<|Â ⟨j9,0,Á⟩,À O],rf,vZ,we,uS,uT,uU,tf,tg,tj,rQ,s6,rR,pE,oD,qi,qj,qk] (u5 J n i (i%n) k (Æ (Â ⟨J,0,Á⟩) n j)<|Đ #[À f,Ê Î j7,À<|Â ⟨j9,0,Á⟩,À O])<|LJ l₂) W.r qp (λa x=> ?_) (λY listed a t i' rest hI I e H3=>akG (J:=A6 Ä Ò k (Đ #[À f,Ê Î j7,À<|Â ⟨j9,0,Á⟩,À O]) N) (N:=N) W qp U U U U zM (F.O J Z8) hn wv Z U cd2 Q S T V (λl H _ _ _ h=>h) (λt H hA hs h=> ?_) Y listed a t i' rest hI I e H3) λY listed a kE hI I zN=> ?_
 .exact⟨(),lL.G _ _ _,(iH.fX W.r).N (λ_ b=>b.elim) ⟨x.r,x.I,x.N,x.Y,x.S⟩,A⟩
 .have x:=F.ff hA;have a:=(h 1 A).trans (show _=Â (Æ (Â ⟨J,0,Á⟩) n j)from U);have o8:=(h 8 A).trans (show _=Â (Æ (Â ⟨j6,0,Á⟩) b m)from U);have o9:=(h 9 A).trans (show _=Â (Ê Î b)from U);have o10:=(h 10 A).trans (show _=Â (Ê Î i)from U);clear h;obtain⟨x0,x1,x2,x3,x4,x5,x6,x7,x8,x9,Zs,x11,x12,x13,x14,x15,x16,x17,x18,x19,x20,x21,x22,x23,x24,x25,x26,x27,x28,x29,x30,x31,rfl⟩:=H2 H hs;obtain rfl:x1=Æ (Â ⟨J,0,Á⟩) n j:=by simpa using a
  obtain rfl:x8=Æ (Â ⟨j6,0,Á⟩) b m:=by simpa using o8
  obtain rfl:x9=Ê Î b:=by simpa using o9
  obtain rfl:Zs=Ê Î i:=by simpa using o10
  apply fN (n:=9) x.fx;iterate 7 w_go fu
  refine Ë λ_ _=> ?_;refine hN t _ x ⟨U,U,U,U,?_⟩;simp;grind [BP]
 .let⟨x,a,h,h8⟩:=hI;have mr:∀i∈ã 9,listed.getD i Ì=Ò:=by
   cases Y
   .exact pG zN I (ã 9) [] fP λi e=>by cases e
   .exact pG zN I (ã 9) [] fP λi e=>by cases e
   .exact pG zN I (ã 9) [] fP λi e=>by cases e
  grind
end
noncomputable def Ch (t:Array Ï) (a:List é):Ý:=G ((base 52).at ⟨t,[]⟩ [ö LG,ą LG,ô 2]) a
structure ET(dv:Ï)(n j:Nat)(t:Array Ï):Prop where
 r:t.size=32
 akL:t[24]?=Â dv
 C:t[25]?=Â (Ê Î n)
 I:t[26]?=Â (Ê Î j)
def H6(t:Array Ï):é:=(base 37).at ⟨t,[]⟩ [Ñ Lh [2],ö<|(ä 13 Li Ì).seq Lj]
def ED(t:Array Ï)(a:List é):Ý:=G ((base 37).at ⟨t,[]⟩ [Ñ Li [],ö Lj]) a
structure SE(ba all oa:Nat)(t:Array Ï):Prop where
 r:t.size=49
 I:t[8]?=Â (À<|Â ⟨ba,0,Á⟩)
 C:t[11]?=Â (À<|Â ⟨oa,0,Á⟩)
 Si:t[12]?=Â (À<|Â ⟨all,0,Á⟩)
section
variable{J a N:Jd}{l:fc}{t:Array Ï}{ba all oa:Nat}{dv:Ï}
def akM(e:jZ l)(a:ST ba all oa n n (Æ O k j9) dv t)(f:∀b d,DT dv O k j9 0 b->SE ba all oa d->fi Ä Ò J l (Cg b<|H6 d::qX)):fi Ä Ò J l (BV t qX):=by
 obtain⟨p,q,r,s,u,v,w,x,g,y,h,i,j,c,z,B,C,D,E,F,G,H,I,K,L,M,N,m,o,P,Q,S,T,V,W,X,Y,uG,uH,uI,uJ,uK,uL,uM,uN,uO,qm,qn,xD,rfl⟩:=HJ t a.r;obtain rfl:g=À (Â ⟨ba,0,Á⟩):=by simpa using a.a
 obtain rfl:h=Æ O k j9:=by simpa using a.C
 obtain rfl:i=À (Â ⟨oa,0,Á⟩):=by simpa using a.I
 obtain rfl:j=À (Â ⟨all,0,Á⟩):=by simpa using a.M
 obtain rfl:dv=c:=(show c=dv by simpa using a.N).symm;obtain rfl:m=Ê Î n:=by simpa using a.S
 obtain rfl:o=Ê Î n:=by simpa using a.Y
 have hF:True:=trivial;apply fN (n:=40) e;simp only[BV,Ew,Sf];iterate 7 w_go fu
 simp only[Ll,Lh];iterate 4 w_go fu
 u_call ŵ fP Ŗ fu hF
 iterate 9 w_go fu
 refine Ë λ_ _=> ?_;exact f _ _ ⟨U,U,U,U,U⟩ ⟨U,U,U,U⟩
def akN(d:jZ l)(a:DT (Æ (Â ⟨j7,0,Á⟩) n b) O k j9 k t)(e:∀c,ET (Æ (Â ⟨j7,0,Á⟩) n b) n 0 c->fi Ä Ò J l (Ch c qX)):fi Ä Ò J l (Cg t qX):=by
 obtain⟨i,f,j,m,o,p,q,r,s,g,h,u,v,w,x,y,z,B,C,D,E,F,G,H,I,K,L,M,N,P,Q,S,rfl⟩:=H2 t a.r;obtain rfl:f=Æ (Â ⟨j7,0,Á⟩) n b:=by simpa using a.C
 obtain rfl:g=Ê Î k:=by simpa using a.M
 obtain rfl:h=Ê Î k:=by simpa using a.I
 have hF:True:=trivial;apply fN (n:=40) d;simp only[Cg];conv in LH=>whnf
 iterate 7 w_go fu
 conv in Z6=>whnf
 iterate 8 w_go fu
 refine Ë λ_ _=> ?_;exact e _ ⟨U,U,U,U⟩
def akO(a:gA l)(g:¬l.q)(c:ET (Æ (Â ⟨j7,0,Á⟩) n b) n j t)(z:j<n)(B:n<1000)(i:l.O j7)(o:l.w.cell? ⟨j7,j,Á⟩=Â (è<|Â m)) (p:∀d e,iH fg l d->ET (Æ (Â ⟨j7,0,Á⟩) n b) n (j+1) e->fi Ä Ò N d (Ch e qX)):fi Ä Ò (Kh Ä Ò m N) l (Ch t qX):=by
 obtain⟨C,D,F,G,H,I,J,K,L,M,P,Q,S,T,V,W,X,Y,uS,uT,uU,tf,tg,tj,q,u,v,pE,oD,qi,qj,qk,rfl⟩:=H2 t c.r;obtain rfl:q=Æ (Â ⟨j7,0,Á⟩) n b:=by simpa using c.akL
 obtain rfl:u=Ê Î n:=by simpa using c.C
 obtain rfl:v=Ê Î j:=by simpa using c.I
 have hF:True:=trivial;apply fN (n:=40) a.r;simp only[Ch];conv in LG=>whnf
 repeat w_go fu
 refine Ë λ_ _=> ?_;apply oZ (x:=⟨j7,j,Á⟩) U U (by k_ne) a.r g (Ã<|Ã i) o (λw h=>by go_simp) (λw h=>by simp[go_sem,h]);walk_nrm;apply fN (n:=40) a.r;iterate 4 w_go fu
 refine Ë λ_ _=> ?_;refine .fB λw₁ y=>⟨U,U,_,U,λxk cap buf s r tm h=>(stepG_close U U (by k_ne) U U h fP).trans U,?_⟩;walk_nrm;have f:=(iH.fX (E:=fg) a.r).N (λ_ k=>k.elim) y;apply fN (n:=20) f.fx;iterate 7 w_go fu
 refine Ë λ_ _=> ?_;refine p _ _ f ⟨U,U,U,?_⟩;simp;exact BP Z Z
def akP(e:gA l)(g:l.d=0)(p:60<=i)(f:ET dv n n t)(c:SE ba all oa d)(j:l.K ⟨all,0,Á⟩/\l.K ⟨all,1,Á⟩)(q:nH all l.w) (r:∀m o,iH fg l m->SE ba all oa o->a m (ED o qX)):fi Ä Ò (qV Ä Ò i all a .jc) l (Ch t<|H6 d::qX):=by
 obtain⟨G,H,I,J,L,M,N,P,Q,S,T,V,W,X,Y,rf,vZ,we,uS,uT,uU,tf,tg,tj,rQ,s,u,pE,oD,qi,qj,qk,rfl⟩:=H2 t f.r;obtain rfl:s=Ê Î n:=by simpa using f.C
 obtain rfl:u=Ê Î n:=by simpa using f.I
 have hF:True:=trivial;apply fN (n:=40) e.r;simp only[Ch,H6,Lh];conv in LG=>whnf
 iterate 8 w_go fu
 obtain⟨z0,z1,z2,z3,z4,z5,z6,z7,v,z9,z10,x,y,z13,z14,z15,z16,z17,z18,z19,z20,z21,z22,z23,z24,z25,z26,z27,z28,z29,z30,z31,z32,z33,z34,z35,z36,z37,z38,z39,z40,z41,z42,z43,z44,z45,z46,z47,z48,rfl⟩:=HJ d c.r;obtain rfl:v=À (Â ⟨ba,0,Á⟩):=by simpa using c.I
 obtain rfl:x=À (Â ⟨oa,0,Á⟩):=by simpa using c.C
 obtain rfl:y=À (Â ⟨all,0,Á⟩):=by simpa using c.Si
 u_leave0 ŵ fu hF
 simp only[Li];iterate 3 w_go fu
 u_call re.f_wait (nm_wait Lk) waitFn fu hF
 refine Ë λ_ _=> ?_;refine Za re p (⟨Ã j.1,Ã j.2,λw z b B C D F h=>h.ff ⟨b,B,C,D,F⟩⟩) ⟨e.r,q,fG.fX _ _⟩ g λz B=> ?_;walk_nrm;refine .fB λC b=> ?_;have h:=(iH.fX (E:=fg) e.r).N (λ_ k=>k.elim)<|B.2.2.ff ⟨b.r,b.I,b.N,b.Y,b.S⟩;exact r {l with d:=0,w:=C} _ ⟨h.O,h.h,h.Y,h.I,h.c,h.K,h.q,g.symm,h.fx,h.f,h.r,h.e,h.S,h.b,h.g⟩ ⟨U,U,U,U⟩
end
def wx(a:Nat)(b c:Ï)(_:Unit):Nat->Ï
 |0=>b
 |1=>À<|Â ⟨a,0,Á⟩
 |2=>À<|Â ⟨a,0,Á⟩
 |3=>À<|Â ⟨a,2,Á⟩
 |4=>c
 |5=>b
 |_=>c
def LN(a:fc)(_:Array Bool)(_:Unit)(l:fc):Prop:=gk fg a l
section
variable{J:Jd}{g:fc}{h:Option â}
def akQ(K:¬g.q)(N:q.size=49)(P:q[8]?=Â (À<|Â ⟨m,0,Á⟩))(Q:q[11]?=Â (À<|Â ⟨j9,0,Á⟩))(E:g.M m)(F:gX g ⟨j9,2,Á⟩)(S:g.w.cell? ⟨m,0,Á⟩=Â (Æ O b n))(T:g.w.cell? ⟨j9,2,Á⟩=Â (Æ h j6 j7)) (md:ý) (listed:Array Bool) (y:ŏ) (l:fc) (i:Nat) (jJ:List Nat) (V:II xM q (wx j9 (Æ O b n)<|Æ h j6 j7) (LN g) listed y l) (k:i∈Û md xM listed): fi Ä Ò (λc d=>∃a,d=G ((base 37).at a<|Ñ xM jJ::L) qX/\II xM q (wx j9 (Æ O b n)<|Æ h j6 j7) (LN g) (listed.setIfInBounds i Ò) a c) l (G ((base 37).at y<|Ñ xM (i::jJ)::L) qX):=by
 let⟨x,j,p⟩:=V;have s:qY xM q.size=Ò:=by rw[N];decide
 have H:=zE k;have t:=p.fx;have u:¬l.q:=by rwa[show l.q=g.q from p.q]
 have W:=(j.C A).trans P;have X:=(j.C A).trans Q;have B:gX l ⟨m,0,Á⟩:=Ã<|p.M E;have D:gX l ⟨j9,2,Á⟩:=F.imp (λa=>p.M a) λa=>by rwa[p.C]
 have I:=(gN<|p.r m E id).trans S;have J:l.w.cell? ⟨j9,2,Á⟩=Â (Æ h j6 j7):=by
  refine Ŀ ?_ T;rcases F with a|a
  .exact gN<|p.r _ a id
  .exact p.f _ a
 have v:∀{c:Nat},∀d,fG l l.w d->LN g (listed.setIfInBounds c Ò) () {l with w:=d}:=λd r=>p.G r;have Y:xM.size=7:=A
 rw[Y]at H;match i,H with
 |0,_=>
  refine im (o:=Hu) s j U U k (by k_ne) t u (λd r=> ?_) (λd r e f=> ?_) v
  .have z:=(B.r r).trans I;simp only[wx,Hu];go_simp
  .have z:=(B.r r).trans I;simp[go_sem,Hu,W,z]at f;subst f;exact B.rd
 |4,_=>
  have h47:y.tmps[47]?=Â (À<|Â ⟨j9,2,Á⟩):=j.r 3 Hx 47 U (ig k U U) U;refine im (o:=Hz) s j U U k (by k_ne) t u (λd r=> ?_) (λd r e f=> ?_) v
  .have z:=(D.r r).trans J;simp only[wx,Hz];go_simp
  .have z:=(D.r r).trans J;simp[go_sem,Hz,h47,z]at f;subst f;exact D.rd
 |1,_=>
  refine im (o:=Hv) s j U U k (by k_ne) t u (λd r=> ?_) (λd r e f=> ?_) v
  .simp only[wx,Hv];go_simp
  .simp[go_sem,Hv,X]at f
 |2,_=>
  have z:y.tmps[45]?=Â (À<|Â ⟨j9,0,Á⟩):=j.r 1 Hv 45 U (ig k U U) U;refine im (o:=Hw) s j U U k (by k_ne) t u (λd r=> ?_) (λd r e f=> ?_) v
  .simp only[wx,Hw];go_simp
  .simp[go_sem,Hw,z]at f
 |3,_=>
  have z:y.tmps[46]?=Â (À<|Â ⟨j9,0,Á⟩):=j.r 2 Hw 46 U (ig k U U) U;refine im (o:=Hx) s j U U k (by k_ne) t u (λd r=> ?_) (λd r e f=> ?_) v
  .simp only[wx,Hx];go_simp
  .simp[go_sem,Hx,z]at f
 |5,_=>
  have z:y.tmps[44]?=Â (Æ O b n):=j.r 0 Hu 44 U (ig k U U) U;refine im (o:=HA) s j U U k (by k_ne) t u (λd r=> ?_) (λd r e f=> ?_) v
  .simp only[wx,HA];go_simp
  .simp[go_sem,HA,z]at f
 |6,_=>
  have z:y.tmps[48]?=Â (Æ h j6 j7):=j.r 4 Hz 48 U (ig k U U) U;refine im (o:=HB) s j U U k (by k_ne) t u (λd r=> ?_) (λd r e f=> ?_) v
  .simp only[wx,HB];go_simp
  .simp[go_sem,HB,z]at f
def akR(c:gA g)(t:¬g.q)(e:SE m j j9 d)(B:g.M m)(C:gX g ⟨j9,2,Á⟩)(D:g.w.cell? ⟨m,0,Á⟩=Â (Æ O b n))(E:g.w.cell? ⟨j9,2,Á⟩=Â (Æ h j6 j7)) (F:∀u,gk fg g u->fi Ä Ò J u (G (f.at (y.put ((Q[i]?).bind (·.dst))<|ñ #[Æ O b n,Æ h j6 j7])<|Ñ Q jJ::L) qX)): fi Ä Ò J g (ED d<|f.at y (Ñ Q (i::jJ)::L)::qX):=by
 have hF:=trivial;apply fN (n:=9) c.r;simp only[ED,Lj];iterate 2 w_go fu
 refine Ë λ_ _=> ?_;refine K2 (II xM d (wx j9 (Æ O b n)<|Æ h j6 j7)<|LN g) c.r t (λl a=>⟨(),lL.G _ _ _,(gk.fX c.r).G ⟨a.r,a.I,a.N,a.Y,a.S⟩⟩) (λk o y l i jJ p a=>akQ t e.r e.I e.C B C D E k o y l i jJ p a) λk o H I p r s=> ?_;let⟨x,l,K⟩:=p;have v:∀i∈ã 7,o.getD i Ì=Ò:=by
  cases k
  .exact pG s r (ã 7) [] fP λi a=>by cases a
  .exact λi a=>pG s r [0,5,1,2,3,4,6] [] fP (λi a=>by cases a) i (by have:=Ē.1 a;revert i;decide)
  .exact pG s r (ã 7) [] fP λi a=>by cases a
 let⟨a,N⟩:=H;obtain rfl:N=[]:=l.M;have P:a[6]?=Â (Æ O b n):=l.r 5 HA 6 U (v 5 A) U;have S:a[7]?=Â (Æ h j6 j7):=l.r 6 HB 7 U (v 6 A) U;have X:=l.S.trans e.r;have z:=K;have T:=z.N c;have V:a.getD 6 Å=Æ O b n:=by simp[ď,P]
 have W:a.getD 7 Å=Æ h j6 j7:=by simp[ď,S]
 apply fN (n:=9) T.r;iterate 2 w_go fu
 u_in fu hF
 refine goes_leave2 U U Tryz.func37 U ⟨by u_nil,?_⟩;rw[V,W];refine Ë λ_ _=>F I z
end
structure SD where
 L:Nat
 g:Nat
 n:Nat
 m:Nat
 q:Nat
 N:Nat
 I:Nat
 C:Nat->Nat
 M:Nat
 S:Nat
 s:Nat
 u:Option â
 t:Nat
 l:Option â
 k:Nat
 o:Nat->Option â
 a:Nat->Nat
 i:Nat->Option â
 c:Nat->Nat
 b:Nat->Nat
 f:List é
 d:Nat->Prop
 RC:ß->Prop
 p:ß->Prop
 γ:Type
 w:γ
 v:Nat->Prop
 h:Nat->γ->γ->Prop
 RD:γ->Ï->(Nat->Prop)->ß->Prop
 e:Nat->ByteArray
 j:Nat->ByteArray
def SD.Y(D:SD):Fx:=⟨D.L,D.m,D.I,D.C⟩
def SD.akS(D:SD)(i:Nat):Ï:=Đ #[À<|D.i i,Ê Î<|D.c i,À<|Â ⟨D.C<|D.b i,0,Á⟩,À Á]
structure lN(D:SD)(S:Nat->Prop)(l:fc):Prop where
 C:∀b,D.Y.M b->l.K ⟨b,0,Á⟩/\l.K ⟨b,1,Á⟩
 M:∀b,D.Y.M b->nH b l.w
 c:S D.S
 d:l.w.cell? ⟨D.S,0,Á⟩=Â (Æ (Â ⟨D.M,0,Á⟩) D.N D.N)
 f:S D.s
 g:l.w.cell? ⟨D.s,0,Á⟩=Â (Æ D.u D.m D.t)
 h:∀k,k<D.m->∃b,D.u=Â ⟨b,0,Á⟩/\S b/\l.w.cell? ⟨b,k*4,Á⟩=Â (À<|D.o<|k+1)/\l.w.cell? ⟨b,k*4+1,Á⟩=Â (Ê Î<|D.a<|k+1)/\l.w.cell? ⟨b,k*4+2,Á⟩=Â (À<|Â ⟨D.C k,0,Á⟩)/\l.w.cell? ⟨b,k*4+3,Á⟩=Â (À<|Â ⟨D.C<|k+1,0,Á⟩)
 j:∀i,i<D.q->∃b,D.l=Â ⟨b,0,Á⟩/\S b/\l.w.cell? ⟨b,i*4,Á⟩=Â (À<|D.i i)/\l.w.cell? ⟨b,i*4+1,Á⟩=Â (Ê Î<|D.c i)/\l.w.cell? ⟨b,i*4+2,Á⟩=Â (À<|Â ⟨D.C<|D.b i,0,Á⟩)/\l.w.cell? ⟨b,i*4+3,Á⟩=Â (À Á)
 r:∀a,l.r a->(l.w.cell? a).isSome=Ò/\l.w.frozen? a=Ì
 Y:∀b,D.d b->S b
 e:D.RC l.w
structure SD.Ok(D:SD):Prop where
 C:∀w w',D.RC w->(∀b,D.d b->w'.heap[b]?=w.heap[b]?)->D.RC w'
 ioS:∀w w',D.p w->(w'.os=w.os/\w'.output=w.output)->D.p w'
 r:∀s sl V w w',D.RD s sl V w->(∀b,V b->w'.heap[b]?=w.heap[b]?)->D.RD s sl V w'
 I:1<=D.n
 L1:1<=D.L
 gi:D.n+D.q+D.m<1000
 N1:D.N<1000
 S:∀i,D.b i<=D.m
 a:∀i,i<D.q->D.c i<D.N
 Y:∀k,1<=k->k<=D.m->D.a k<D.N
 akT:∀k,k<=D.m->D.C k≠D.I
 akU:∀k k',k<=D.m->k'<=D.m->D.C k=D.C k'->k=k'
 M:¬D.Y.M D.M
 pq:∀i i',i<D.q->i'<D.q->D.c i=D.c i'->i=i'
 pi:∀k k',1<=k->k<=D.m->1<=k'->k'<=D.m->D.a k=D.a k'->k=k'
 Pr:∀i k,i<D.q->1<=k->k<=D.m->D.c i≠D.a k
 gu:∀b,D.Y.M b\/b=D.M->D.g<=b
section
variable{D:SD}{S:Nat->Prop}{l f:fc}
def lN.I(h:lN D S l)(ok:D.Ok)(e:∀b,S b->X b)(c:∀b,S b->f.w.heap[b]?=l.w.heap[b]?)(q:f.K=l.K)(p:∀a,l.K a->(l.w.cell? a).isSome=Ò->(f.w.cell? a).isSome=Ò)(r:∀a,f.r a->(f.w.cell? a).isSome=Ò/\f.w.frozen? a=Ì):lN D X f where
 C b hg:=by rw[q];exact h.C b hg
 M b hg:=⟨p _ (h.C b hg).1 (h.M b hg).1,p _ (h.C b hg).2 (h.M b hg).2⟩;c:=e _ h.c;d:=(gN<|c _ h.c).trans h.d;f:=e _ h.f;g:=(gN<|c _ h.f).trans h.g;h k hk:=by let⟨b,g,d,j,m,n,o⟩:=h.h k hk;exact⟨b,g,e b d,(gN<|c b d).trans j,(gN<|c b d).trans m,(gN<|c b d).trans n,(gN<|c b d).trans o⟩
 j i hi:=by let⟨b,g,d,j,m,n,o⟩:=h.j i hi;exact⟨b,g,e b d,(gN<|c b d).trans j,(gN<|c b d).trans m,(gN<|c b d).trans n,(gN<|c b d).trans o⟩
 r:=r;Y b d:=e b<|h.Y b d;e:=ok.C _ _ h.e λb d=>c b<|h.Y b d
def lN.G(h:lN D S l)(ok:D.Ok)(c:∀b,S b->l.M b)(r:fG l l.w u):lN D S {l with w:=u}:= h.I ok (λ_ q=>q) (λb q=>r.I b<|c b q) U r.S λa q=>by have:=h.r a q;exact⟨by show(u.cell? a).isSome=Ò;rw[r.N a<|Ã q];exact this.1,(r.Y a<|Ã q).trans this.2⟩
def lN.S0{E:â->Prop}(h:lN D S l)(ok:D.Ok)(g:∀b,S b->l.M b)(c:iH E l f):lN D S f:= h.I ok (λ_ q=>q) (λb q=>c.r b<|g b q) c.K c.b λa q=>by
  rw[c.I]at q;let⟨d,i⟩:=h.r a q;refine⟨?_,(c.S a<|Ã q).trans i⟩;by_cases e:E a
  .exact c.g a e d
  .rwa[c.e a (Ã q) e]
def lN.akV(h:lN D S l)(ok:D.Ok)(d:∀b,S b->l.M b/\¬X b)(c:gk X l f):lN D S f:= h.I ok (λ_ q=>q) (λb q=>c.r b (d b q).1 (d b q).2) c.K c.e λa q=>by rw[c.Y]at q;let⟨e,g⟩:=h.r a q;exact⟨by rwa[c.f a<|Ã q],(c.g a<|Ã q).trans g⟩
def lN.N(h:lN D S l)(a:∀b,S b->X b):lN D X l:=⟨h.C,h.M,a _ h.c,h.d,a _ h.f,h.g,λk c=>let⟨b,d,e,f⟩:=h.h k c;⟨b,d,a b e,f⟩,λk c=>let⟨b,d,e,f⟩:=h.j k c;⟨b,d,a b e,f⟩,h.r,λb q=>a b<|h.Y b q,h.e⟩
end
section
variable(D:SD)
def jK(a:Nat->Nat)(j:Nat):List Ï:=(ã j).map λi=>è<|Â<|a i
def Ci(k:Nat):Jd:=λl g=>l.d=0/\¬l.q/\lN D l.M l/\∃t a b c e f h i j n o,BO D.M D.N D.u D.m D.t k t/\l.M a/\l.w.cell? ⟨a,0,Á⟩=Â (À<|Â ⟨D.I,0,Á⟩)/\g=zI t [wh h i j n o,zO a b c e f,n8 Ä]
def Z9(c i:Nat):Jd:=λl g=>l.d=0/\¬l.q/\lN D l.M l/\∃t a b e f h j k m n o p,QT D.M D.N c t/\t[4]?=Â (À<|Â ⟨a,0,Á⟩)/\l.O a/\l.w.cell? ⟨a,0,Á⟩=Â (À<|D.i i)/\l.w.cell? ⟨a,1,Á⟩=Â (Ê Î<|D.c i)/\l.w.cell? ⟨a,2,Á⟩=Â (À<|Â ⟨D.C<|D.b i,0,Á⟩)/\l.M b/\l.w.cell? ⟨b,0,Á⟩=Â (À<|Â ⟨D.I,0,Á⟩)/\g=Lc t [Hq k m n o p,zO b e f h j,n8 Ä]
def akW:Jd:=λl g=>lN D l.M l/\∃t a b c,HG D.S D.I (D.C D.m) D.n (Æ D.l D.q D.k) t/\ia l a (É #[À<|Â ⟨D.I,0,Á⟩] 162)/\ia l b (É #[Ĉ (ù 48) #[] #[À<|Â ⟨D.s,0,Á⟩,À<|Â ⟨D.S,0,Á⟩]] 1)/\g=BW (À<|Â ⟨D.I,0,Á⟩) c (À<|Â ⟨D.I,0,Á⟩) (ñ #[]) a b (Ex t::D.f)
def akX(j:Nat)(a:Nat->Nat):Jd:=λl g=>lN D l.I l/\∃t e c b d f,ST D.S D.I (D.C D.m) D.n (j-1) (Æ D.l D.q D.k) e t/\ZH D.S D.I D.q e (jK a j) (a<|j-1) c b d l/\a (j-1)<c/\c<b/\b<d/\(∀k,e.ownBlock=Â k->k≠a (j-1)/\k≠c/\k≠b/\k≠d)/\D.g<=a (j-1)/\g=BW (À<|Â ⟨D.I,0,Á⟩) f (À<|Â ⟨D.I,0,Á⟩) (ñ #[]) b d (Lm t::D.f)
def LO(j:Nat)(a:Nat->Nat):Jd:=λl g=>l.d=0/\¬l.q/\D.g<=l.w.heap.size/\((j=0/\akW D l g)\/(1<=j/\akX D j a l g))
def a_:Jd:=λl g=>l.d=0/\¬l.q/\lN D l.I l/\∃a,SE D.S D.I (D.C D.m) a/\g=ED a D.f
def SD.r(P:ė):Ph where
 toFx:=D.Y
 P:=P
 S:=D.g
 n:=D.n
 q:=D.q
 Y:=D.M
 f:=D.N
 r:=D.b
 a:=D.c
 b:=D.a
 c:=D.akS
 z:=zT
 B:=60
 γ:=D.γ
 l:=D.w
 i:=D.v
 p:=D.h
 d:=λk s V w=>(∃a,w.cell? ⟨D.C k,2,Á⟩=Â a/\D.RD s a V w)/\(k=0->w.cell? ⟨D.M,D.N,Á⟩=Á/\kY w D.M=Â (0,0)/\D.p w)
 o:=D.e
 k:=D.j
 g:=LO D
 h:=Ci D
 e:=Z9 D
 j:=λ_=>a_ D
end
def EE(D:SD):Prop:=∀k s e V l,k<D.m->nD (D.r Ä) k s->D.RD s e V l.w->(∀b,V b->l.M b)->gA l->¬l.q->(∀b,D.d b->l.M b)->D.RC l.w->∀f g,fi Ä Ì (λa j=>a.d=l.d/\∃p n c,j=G (f.finish<|ñ #[Æ p n c,à<|D.e<|k+1]) g/\∃h i,D.h k s h/\D.RD h (Æ p n c) i a.w/\∀b,i b->a.M b) (mq l)<|G (Ă Ä 66 #[e,À<|D.o<|k+1] Ğ)<|f::g
def EF(D:SD):Prop:=∀i s a V l,i<D.q->nD (D.r Ä) (D.b i) s->D.RD s a V l.w->(∀b,V b->l.M b)->gA l->¬l.q->(∀b,D.d b->l.M b)->D.RC l.w->∀b c,fi Ä Ì (λe f=>e.d=l.d/\f=G (b.finish<|à<|D.j i) c) (mq l)<|G (Ă Ä 67 #[a,À<|D.i i] Ğ)<|b::c
section
variable{D:SD}
def H7(k:Nat)(a:k<=D.m):D.Y.M (D.C k):=Ç ⟨k,a,U⟩
def zW:D.Y.M D.I:=Ã U
def akY(ok:D.Ok):(D.r Ä).Ok:=⟨ok.I,ok.L1,ok.gi,λi _=>ok.S i,ok.akT,ok.akU,ok.M,ok.pq,ok.pi,ok.Pr,ok.gu,⟨λk a b e=>by have c:D.a k=D.N:=e;have:=ok.Y k a b;omega,λi d e=>by have c:D.c i=D.N:=e;have:=ok.a i d;omega⟩⟩
theorem akZ(ok:D.Ok)(uz:EE D):∀k s V l g,k<D.m->Ci D k l g->gA l->nD (D.r Ä) k s->(D.r Ä).d k s V l.w->(∀b,V b->l.I b)->l.N (ji D.Y k)->l.r (ji D.Y<|k+1)->l.r (ju (D.r Ä)<|D.a<|k+1)->∀B:Nat->D.γ,B k=s->fi Ä Ì (JI (D.r Ä) B<|.mk (k+1)) l g:=by
 intro k s V l g o hJ EB S2 Bs hV uR C E B hsg;obtain⟨hd,F,f,t,G,v1,v2,v3,v4,u0,u1,u2,u3,u4,hT,B6,cbw,rfl⟩:=hJ;let⟨⟨sl,hsl,ri⟩,_⟩:=Bs;let⟨b,zK,hbM,i0,i1,i2,i3⟩:=f.h k o;have GQ:=ok.gi;have lz:(⟨D.C<|k+1,2,Á⟩:â)≠⟨D.M,D.a<|k+1,Á⟩:=λe=>ok.M (by injection e with H _ _;rw[<-H];exact H7 (k+1) o);have Be:BO D.M D.N (Â ⟨b,0,Á⟩) D.m D.t k t:=by rwa[<-zK]
 have⟨oc1,oz1⟩:=f.r _ C;have⟨oc2,oz2⟩:=f.r _ E;have rY:∀a:â,(a=⟨D.C<|k+1,2,Á⟩\/a=⟨D.M,D.a<|k+1,Á⟩)->l.r a:=λa p=>by rcases p with rfl|rfl;exact C;exact E
 have r:=f.C _<|H7 (k+1) o;have b_:=f.M _<|H7 (k+1) o;refine fi.fR (Stop:=λl g=>(∃i n,D.h k s i/\(D.r Ä).d (k+1) i n l.w/\(∀b,n b->l.M b)/\l.w.cell? ⟨D.M,D.a<|k+1,Á⟩=Â (à<|D.e<|k+1))/\zg Ä Ì (D.C<|k+1) (fi Ä Ì<|Ci D<|k+1) (qf (D.r Ä) l<|k+1) g) (λl g h=> ?_) ?_
 .let⟨⟨i,n,I,J,L,O⟩,P⟩:=h;exact⟨i,n,by subst hsg;exact I,J,L,O,P⟩
 refine ajz (Q:=λv x y=>x=D.e (k+1)/\∃i n,D.h k s i/\D.RD i v n y.w/\∀b,n b->y.M b) (τ:=λl=>qf (D.r Ä) l<|k+1) EB F hd Be o Z (by have:=ok.N1;omega) (ok.Y (k+1) Z o) hbM i0 i1 i2 i3 uR hsl C E oc1 oc2 oz1 oz2 lz (λc v j u=> ?_) λc x v hQ R8 Lb=> ?_
 .refine(uz k s sl V c o S2 (ok.r _ _ _ _ _ ri λb x=>v.r b<|Ç<|hV b x) (λb x=>v.M<|Ç<|hV b x) (v.G EB) (by rwa[v.q]) (λb x=>v.M<|f.Y b x) (ok.C _ _ f.e λb x=>v.r b<|f.Y b x) j u).fR ?_;grind
 .let⟨y,⟨hstr,i,n,hnx,ak0,c_⟩,hy⟩:=hQ;rw[hstr]at Lb;have d_:nH (D.C<|k+1) c.w:=⟨v.b _ r.1 b_.1,v.b _ r.2 b_.2⟩;refine⟨⟨Ã (by rw[v.K];exact r.1),Ã (by rw[v.K];exact r.2),λ_ _ _ _ _ _ _ _=>trivial⟩,⟨v.fx,d_,trivial⟩,⟨i,n,hnx,⟨⟨_,R8,ok.r _ _ _ _ _ ak0 λb x=>(hy b<|c_ b x).2⟩,λe=>by omega⟩,λb x=>(hy b<|c_ b x).1,Lb⟩,v.d.trans hd,λw=>fG (qf (D.r Ä) c<|k+1) c.w w,⟨Ã (by show c.K _;rw[v.K];exact r.1),Ã (by show c.K _;rw[v.K];exact r.2),λw w₁ I J L O P h=>h.ff ⟨I,J,L,O,P⟩⟩,⟨λj h=>h.elim,d_,fG.fX _ _⟩,λxk t' ak1 Yk=> ?_⟩;refine .fB λS u=> ?_;have z:=ak1.2.2.ff ⟨u.r,u.I,u.N,u.Y,u.S⟩;have x:=λb x=>(z.I b<|Ç<|v.M x).trans<|v.r b x;have f_:∀b,l.M b->({qf (D.r Ä) c (k+1)with d:=0,w:=S}:fc).M b:=λb x=>Ç<|v.M x;refine⟨U,by show¬c.q;rwa[v.q],f.I ok f_ x (by show c.K=l.K;exact v.K) (λa p h=>z.S a (by show c.K a;rwa[v.K])<|v.b a p h) λa p=> ?_,t',G,v1,v2,v3,v4,u0,u1,u2,u3,u4,by rwa[zK],f_ G B6,(gN<|x G B6).trans cbw,U⟩;obtain⟨T,W,X⟩:c.r a/\a≠⟨D.M,D.a<|k+1,Á⟩/\a≠⟨D.C<|k+1,2,Á⟩:=p;have Y:l.r a:=by rwa[<-v.I]
  let⟨H,e2⟩:=f.r a Y;refine⟨?_,?_⟩
  .show(S.cell? a).isSome=Ò;rwa[z.N a<|Ã ⟨T,W,X⟩,v.e a (Ã Y) λq=>q.elim X W]
  .show S.frozen? a=Ì;rwa[z.Y a<|Ã ⟨T,W,X⟩,v.S a<|Ã Y]
def ak2:∀l g,Ci D D.m l g->gA l->fi Ä Ì (Ba<|D.r Ä) l g:=by intro l g c d;obtain⟨e,f,b,t,k,n,o,p,q,r,s,u,v,w,h,i,j,rfl⟩:=c;have a:=b.C _<|zW;exact ajH (Ψ:=λ_=>True) h a ⟨Ã a.1,Ã a.2,λ_ _ _ _ _ _ _ _=>trivial⟩ ⟨d.r,b.M _ zW,trivial⟩ e f (Ã i) j
def g_(ok:D.Ok){r:Nat}{l:fc}{t:Array Ï}{g h m o p:Ï}(B:gA l)(s:¬l.q)(C:l.d=0)(a:lN D l.M l)(E:QT D.M D.N i t)(f:l.M k)(u:l.w.cell? ⟨k,0,Á⟩=Â (À<|Â ⟨D.I,0,Á⟩)): DC (D.r Ä) i j r l (zR t [Hq g h m o p,zO k v x z jQ,n8 Ä]):=by have y:=ok.S<|j+r*D.n;refine ajM B s C E (Ú _) U (a.C _<|H7 _ y) (a.M _<|H7 _ y) (a.C _ zW) (a.M _ zW) (Ã f) u λQ F G e H I J K L O P=>(⟨H,by rwa[e.q],(a.S0 ok (λ_ q=>q) e).N λb q=>e.M q,G,F,k,v,x,z,jQ,g,h,m,o,p,O,P,I,J,K,L,e.M f,(gN<|e.r k f).trans u,U⟩)
theorem ak3(ok:D.Ok)(W:EF D):∀c j r s V l g,j+r*D.n<D.q->Z9 D c (j+r*D.n) l g->∀f:fc,gA f->f.O=l.O->(∀b,l.I b\/V b->f.I b)->f.w=l.w->f.d=l.d->f.q=l.q->f.r=l.r->f.K=l.K->nD (D.r Ä) (D.b<|j+r*D.n) s->(D.r Ä).d (D.b<|j+r*D.n) s V l.w->f.N (ji D.Y<|D.b<|j+r*D.n)->f.r (ju (D.r Ä)<|D.c<|j+r*D.n)->fi Ä Ì (JW (D.r Ä) c j<|.oS r) f g:=by
 intro c j r s V l g E X f v F y o Y S3 KD hK S2 Bs uR p;obtain⟨hd,hq,G,t,tb,u,v1,v2,v3,v4,u0,u1,u2,u3,u4,hT,h4,hOt,H,I,J,L,N,rfl⟩:=X;let⟨⟨sl,P,S⟩,_⟩:=Bs;have B:∀b,l.M b->f.M b:=λb q=>q.elim (λz=>Ã<|by rwa[F]) λz=>Ç<|y b<|Ã z;have m:=G.I ok B (λb _=>by rw[o]) hK (λa _ h=>by rwa[o]) λa q=>by rw[o];exact G.r a<|by rwa[<-KD]
 have C:¬f.q:=by rwa[S3]
 rw[<-o]at H I J N P S;let⟨e2,z2⟩:=m.r _ p;refine uW (Q:=λx=>x=D.j (j+r*D.n)) v C hT h4 (by rwa[F]) H I J uR P p e2 z2 (ok.a _ E) (λi e k T=> ?_) λi x t' e hx hcx Be=> ?_
 .refine(W _ s sl V i E S2 (ok.r _ _ _ _ _ S λb x=>e.r b<|Ç<|y b<|Ç x) (λb x=>e.M<|Ç<|y b<|Ç x) (e.G v) (by rwa[e.q]) (λb x=>e.M<|m.Y b x) (ok.C _ _ m.e λb x=>e.r b<|m.Y b x) k T).fR ?_;grind
 .have T:=(m.S0 ok (λ_ q=>q) e).N λb q=>e.M q;refine⟨hcx.trans (by rw[hx];rfl),?_⟩;have k:=e.G v;have Hk:gA (vM (D.r Ä) i<|j+r*D.n):=by
   refine⟨k.c,λa x=> ?_,λa x=> ?_,k.fx,λa x=> ?_,λa x=> ?_⟩
   .rintro(q|q)
    .exact k.Y a x.1 q
    .exact x.2 q
   .refine k.N a ?_;rcases x with q|q|q
    .exact Ã q.1
    .exact Ç q
    .rw[q];exact Ã<|by rwa[e.I]
   .refine k.I a ?_;rcases x with q|q|q
    .exact Ã q.1
    .exact Ç q
    .rw[q];exact Ã<|by rwa[e.I]
   .let⟨k1,k2,k3⟩:=k.S a x;exact⟨k1,k2,λq=>k3 q.1⟩
  refine g_ ok Hk (by show¬i.q;rwa[e.q]) (by show i.d=0;rwa[e.d,Y]) (T.I ok (λ_ q=>q) (λ_ _=>rfl) U (λ_ _ h=>h) λa q=>T.r a q.1) Be (by show i.M u;exact e.M<|B u L)<|(gN<|e.r u<|B u L).trans N
end
section
variable{D:SD}{dk:Nat->Nat}{dv:Ï}{l f:fc}
structure MF(D:SD)(dk:Nat->Nat)(dv:Ï)(l:fc):Prop where
 C:gA l
 q:¬l.q
 d:l.d=0
 r:lN D l.I l
 I:∃db c,dv=Æ (Â ⟨db,0,Á⟩) D.n c/\l.O db/\∀i,i<D.n->l.w.cell? ⟨db,i,Á⟩=Â (è<|Â<|dk i)
def MF.M(h:MF D dk dv l)(ok:D.Ok)(a:iH fg l f):MF D dk dv f where
 C:=a.G h.C;q:=by rw[a.q];exact h.q
 d:=a.d.trans h.d;r:=(h.r.S0 ok (λ_ q=>Ç q) a).N λb q=>by rwa[a.Y]
 I:=by let⟨e,c,j,g,k⟩:=h.I;exact⟨e,c,j,a.O e g,λi m=>(gN<|a.r e<|Ã g).trans<|k i m⟩
def ak4(ok:D.Ok):∀r,r<=D.n->∀l t b,MF D dk dv l->ET dv D.n (D.n-r) t->SE D.S D.I (D.C D.m) b->fi Ä Ò (Bb (D.r Ä) dk r) l (Ch t<|H6 b::D.f):=by
 intro r
 induction r with
 |zero=>
  intro _ l t b a e g;rw[ũ]at e;refine akP a.C a.d (Ú _) e g (a.r.C _ zW) (a.r.M _ zW) λf i h j=> ?_;have c:=a.M ok h;exact⟨c.d,c.q,c.r,i,j,U⟩
 |succ r j=>
  intro s l t b a e g;obtain⟨u,c,rfl,k,o⟩:=a.I;have v:=ok.gi;refine akO a.C a.q e Z Z k (o (D.n-(r+1)) Z) λf p h i=> ?_;refine j Z f p b (a.M ok h) ?_ g;rwa[show D.n-(r+1)+1=D.n-r by omega]at i
def ak5(ok:D.Ok):∀r,r<=D.q->∀l t d,MF D dk dv l->DT dv D.l D.q D.k (D.q-r) t->SE D.S D.I (D.C D.m) d->fi Ä Ò (GB (D.r Ä) dk r) l (Cg t<|H6 d::D.f):=by
 intro r
 induction r with
 |zero=>
  intro _ l t d a e h;rw[ũ]at e;obtain⟨j,c,rfl,k,o⟩:=a.I;refine akN a.C.r e λi g=>ak4 ok D.n (Ú _) l i d a ?_ h;rwa[Ū]
 |succ r s=>
  intro C l t d a e h;obtain⟨j,c,rfl,k,o⟩:=a.I;have E:=ok.gi;have F:=ok.I;let⟨b,p,u,v,w,x,y⟩:=a.r.j (D.q-(r+1)) Z;have z:DT (Æ (Â ⟨j,0,Á⟩) D.n c) (Â ⟨b,0,Á⟩) D.q D.k (D.q-(r+1)) t:=by rwa[<-p]
  refine akK a.C a.q z Z Z Z Z k (o _<|ĵ _ Z) (Ç u) v w x y λf i B g=> ?_;refine s Z f i d (a.M ok B) ?_ h;rwa[show D.q-(r+1)+1=D.q-r by omega,<-p]at g
theorem ak6(dk:Nat->Nat)(j a:Nat):jK (fy dk j a) (j+1)=jK dk j++[è<|Â a]:=by unfold jK;grind [ÿ,List.map_congr_left,fJ,gF]
def ak7(dk:Nat->Nat)(j:Nat):(jK dk j).length=j:=by simp[jK]
def ak8(dk:Nat->Nat)(j i:Nat)(h:i<j):(jK dk j)[i]?=Â (è<|Â<|dk i):=by simp[jK,h]
theorem h_(ok:D.Ok){t:Array Ï}(K:j<=D.n)(a:gA l)(o:¬l.q)(p:l.d=0)(h:lN D l.I l)(x:D.g<=l.w.heap.size)(v:ST D.S D.I (D.C D.m) D.n j (Æ D.l D.q D.k) dv t)(r:l.w.ownsRow 0 101 1 dv j (jK dk j))(s:∀k,dv.ownBlock=Â k->l.O k): fi Ä Ò (JM (D.r Ä) dk<|if j<D.n then .iI (j+1)else .iL D.q) l (BV t D.f):=by
 have L:=ok.gi;by_cases u:j<D.n
 .rw[if_pos u];show fi Ä Ò (Pq (D.r Ä) (j+1) dk) l _;rw[aje];refine ajV a o p v u Z Z (h.C _ zW) (h.M _ zW) r s λf i y z B C E F c G H M N I J P=> ?_;refine⟨y,c.d.trans p,by rwa[c.q],Õ x c.I,Ç ⟨Z,(h.akV ok (λb g=>⟨Ç g,λe=>a.c b (s b e.symm) g⟩) c).N λb q=>(by rwa[c.S]),i,E,z,B,C,F,?_,?_,?_,I,J,?_,?_,U⟩⟩
  .rwa[ø]
  .rwa[ø,ak6,gF]
  .grind [ø,gF]
  .grind [ø,gF]
  .grind [ø,gF,Õ]
 .have e:j=D.n:=Z
  subst e;rw[if_neg u];have y:∃b c,dv=Æ (Â ⟨b,0,Á⟩) D.n c/\l.O b/\∀i,i<D.n->l.w.cell? ⟨b,i,Á⟩=Â (è<|Â<|dk i):=by
   rcases r.2 with⟨_,C⟩|⟨g,z,E,rfl,_⟩
   .have:=ok.I;omega
   .refine⟨g,z,U,s g U,λi B=> ?_⟩;have:=r.cells U i _<|ak8 dk D.n i B;grind [ğ]
  refine akM a.r v λg z B C=>(ak5 ok D.q (Ú _) l g z ⟨a,o,p,h,y⟩ (by rwa[Ū]) C)
def ak9(ok:D.Ok)(h:Ci D k l g)(r:fG l l.w u):Ci D k {l with w:=u} g:=by obtain⟨c,d,e,t,a,f,i,j,m,n,o,p,s,v,x,b,y,rfl⟩:=h;exact⟨c,d,e.G ok (λ_ q=>q) r,t,a,f,i,j,m,n,o,p,s,v,x,b,(gN<|r.I a b).trans y,U⟩
def ia.M{o:Ÿ}(h:ia l b o)(r:fG l l.w u):ia {l with w:=u} b o:=⟨h.fq,(r.I b<|Ã h.fq).trans h.I⟩
def GD(ok:D.Ok)(h:LO D j dk l g)(r:fG l l.w u):LO D j dk {l with w:=u} g:=by
 let⟨m,n,o,h⟩:=h;refine⟨m,n,Õ o r.r,?_⟩;rcases h with⟨p,b,t,c,d,f,i,s,v,rfl⟩|⟨x,b,t,dv,y,c,d,f,i,a,z,B,C,E,F,rfl⟩
 .exact Ã ⟨p,b.G ok (λ_ q=>q) r,t,c,d,f,i,s.M r,v.M r,U⟩
 .exact Ç ⟨x,b.G ok (λ_ q=>Ç q) r,t,dv,y,c,d,f,i,⟨n9 a.S λk e=>r.I k<|Ã<|a.M k e,a.M,a.r.M r,a.C.M r,a.N.M r,a.I.M r⟩,z,B,C,E,F,U⟩
theorem ala(ok:D.Ok):∀j dk l g,j<=D.n->LO D j dk l g->gA l->l.d=0/\∃(G H:Ý) (X:Nat->Prop),G.status=ċ/\H.status=ċ/\(∀u,stepG Ä Ò g u=.spawn G H u #[])/\(∀b,X b->l.O b)/\ (1<=j->l.O (dk<|j-1)/\¬X (dk<|j-1)/\l.w.heap[dk<|j-1]?=Â (ŕ D.q #[] Ì 0 0 Ì)/\D.g<=dk (j-1))/\ (∀f:fc,gA f->(∀b,X b\/l.I b->f.I b)->f.w=l.w->f.d=0->¬f.q->(∀b,¬f.O b)->f.K=l.K->f.N=l.N->(∀a,f.r a->l.r a)->fi Ä Ì (if j=0 then Ci D 0 else DC (D.r Ä) (dk<|j-1) (j-1) 0) f H)/\ (∀f:fc,gA f->f.O=(λb=>l.O b/\¬X b/\(1<=j->b≠dk (j-1)))->(∀b,X b\/l.I b->f.I b)->f.w=l.w->f.d=0->f.q=l.q->f.K=l.K->f.N=l.N->(∀a,f.r a->l.r a)->fi Ä Ò (JM (D.r Ä) dk<|if j<D.n then .iI (j+1)else .iL D.q) f G):=by
 intro j dk l g L h EB;let⟨hd,N,P,h⟩:=h;refine⟨hd,?_⟩;rcases h with⟨rfl,o,t,x,C,v1,I,Q,S,rfl⟩|⟨h1,o,t,dv,T,x,C,v1,I,c,x1,x2,x3,x4,x5,rfl⟩
 .refine⟨_,_,l.O,U,U,λu=>ZF _ _ _ _ _ _ _ u,λ_ q=>q,λq=>by omega,λf i m X y p E z J B=> ?_,λf i E m X y p z J B=> ?_⟩
  .rw[if_pos U];have e:=λb q=>m b q;have s:lN D f.M f:=o.I ok (λb q=>Ç<|e b q) (λb _=>by rw[X]) z (λa _ h=>by rwa[X]) λa q=>by rw[X];exact o.r a<|B a q
   refine ajG i.r p (Ã<|Ç<|e C<|Ã S.fq) (Ã s.f) (Ã s.c) (by rw[X];exact S.C U) s.g s.d λF V W Y w4 u0 u1 u2 u3 u4 v=> .fB λu r=>ak9 ok ⟨y,p,s,F,x,V,W,Y,w4,u0,u1,u2,u3,u4,v,Ç<|e x<|Ã Q.fq,by rw[X];exact Q.C U,U⟩ r
  .refine ajT i.r I λF v=>(h_ ok L i (by rwa[p]) y (o.I ok (λb q=>m b q) (λb _=>by rw[X]) z (λa _ h=>by rwa[X]) λa q=>by rw[X];exact o.r a<|B a q) (by rwa[X]) v (World.ownsRow_nil _ _ _ _) λk e=>by cases e)
 .refine⟨_,_,λb=>b=T\/b=x\/b=C,U,U,λu=>ZF _ _ _ _ _ _ _ u,λb q=> ?_,λ_=>⟨c.r.fq,?_,c.r.I,x5⟩,λf i m X y p E z J B=> ?_,λf i E m X y p z J B=> ?_⟩
  .rcases q with rfl|rfl|rfl
   .exact c.C.fq
   .exact c.N.fq
   .exact c.I.fq
  .grind
  .rw[if_neg Z];have s:lN D f.M f:=o.I ok (λb q=>Ç<|m b<|Ç q) (λb _=>by rw[X]) z (λa _ h=>by rwa[X]) λa q=>by rw[X];exact o.r a<|B a q
   have i_:f.M x:=Ç<|m x<|Ã<|Ç<|Ã U;refine ajL i.r p (Ã<|Ç<|m C<|Ã<|Ç<|Ç U) (Ã<|Ç<|m T<|Ã<|Ã U) (Ã s.c) (by rw[X];exact c.I.C U) (by rw[X];exact c.C.C U) s.d λF V W Y w4 u0 u1 u2 u3 u4 v=> .fB λu r=>(g_ ok (i.ki r.r) p y (s.G ok (λ_ q=>q) r) v i_<|(gN<|r.I x i_).trans<|by rw[X];exact c.N.C U)
  .have s:=ok.gi;refine ajU i.r I Z λF v=> ?_;rw[show j-1+1=j by omega]at v;have r:=c.S;rw[ak7]at r;refine h_ ok L i (by rwa[p]) y (o.I ok (λb q=>m b<|Ç q) (λb _=>by rw[X]) z (λa _ h=>by rwa[X]) λa q=>by rw[X];exact o.r a<|B a q) (by rwa[X]) v (by rwa[X]) λk e=> ?_;rw[E];let⟨a,V,W,Y⟩:=x4 k e;refine⟨c.M k e,?_,λ_=>a⟩;grind
def alb(ok:D.Ok)(b:EE D)(d:EF D):gS (D.r Ä) where
 C:=akY ok;S k s V w w' h hV hc hz hf xW:=by let⟨⟨a,f,m⟩,t⟩:=h;exact⟨⟨a,hc.trans f,ok.r _ _ _ _ _ m hV⟩,λe=>⟨hz.trans (t e).1,hf.trans (t e).2.1,ok.ioS _ _ (t e).2.2 xW⟩⟩
 GD j dk l g w₁ h r:=GD ok h r;I j dk l g h:=by let⟨_,_,_,h⟩:=h;rcases h with⟨_,_,t,e,f,a,_,_,_,rfl⟩|⟨_,_,t,dv,m,e,f,a,_,_,_,_,_,_,_,rfl⟩<;>rfl
 N k l g h:=by obtain⟨_,_,_,t,e,a,f,m,n,o,p,q,u,v,_,_,_,rfl⟩:=h;rfl
 Y c i l g h:=by obtain⟨_,_,_,t,tb,e,a,f,m,n,o,p,q,u,v,_,_,_,_,_,_,_,_,rfl⟩:=h;rfl
 M dk l g h:=by obtain⟨_,_,_,f,_,rfl⟩:=h;rfl
 go:=ala ok;f:=akZ ok b;h:=ak2;e:=ak3 ok d
end
end Go.Proofs.Y.fv
namespace Go.Proofs.Y.fv
open Go Go.Conc Go.Proofs.Y.Lift
open Go.ConcN (sumTo sumTo_congr)
structure kL(P:ė)(Y:Nat->Prop)(jr:Ν->Prop)(H:Nat)(J:Jd)(T:gy)(lv:Nat->Nat)(lot:Nat->fc)(gs:Array Ý)(w:ß)(t:ż):Prop where
 C:1<=gs.size
 r:gO P 0 Y (λi=>if i=0 then J else pB P (lv i)) (λi=>if i=0 then T else .fB) (λ_=> .no) lot gs w t
 c:∀i,0<i->i<gs.size->lot i=kI (lot i)
 d:¬(lot 0).q
 M:∀p a,touchAt t p=Â a->a.loc.isMemory=Ò->Knows t 0 p\/(jr a.loc/\a.kind=.atomic)
 S:∀p a x,touchAt t p=Â a->a.loc=û x->t.g? p=Â 0\/x.block<H
 b:∀a:â,H<=a.block->NoRelease a t
 N:t.HandedOver
abbrev si(P:ė):=kL P λ_=>False
structure rj(l l':fc)(w w':ß):Prop where
 r:w.heap.size<=w'.heap.size
 N:∀j,l'.O j->l.O j\/w.heap.size<=j
 rd:l'.I=l.I
 S:l'.r=l.r
 b:l'.N=l.N
 k:l'.K=l.K
 jV:∀j,j<w.heap.size->¬l.O j->(∀a:â,a.block=j->¬l.r a)->w'.heap[j]?=w.heap[j]?
 M:∀a:â,a.block<w.heap.size->¬l.O a.block->¬l.r a->w'.cell? a=w.cell? a
 Y:∀j,j<w.heap.size->¬l.O j->kY w' j=kY w j
 C:w'.os=w.os
 I:w'.output=w.output
 c:w'.tape=w.tape
theorem rj.fX(l:fc)(w:ß):rj l l w w:=⟨Ú _,λ_ h=>Ã h,U,U,U,U,λ_ _ _ _=>rfl,λ_ _ _ _=>rfl,λ_ _ _=>rfl,U,U,U⟩
def rj.ff{l e i:fc}{w':ß}(h:rj l e w w')(k:rj e i w' u):rj l i w u:=by
 have f:∀j,j<w.heap.size->¬l.O j->¬e.O j:=λj c b q=>(h.N j q).elim b λz=>by omega
 refine⟨Õ h.r k.r,λj q=> ?_,k.rd.trans h.rd,k.S.trans h.S,k.b.trans h.b,k.k.trans h.k,λj c b d=>((k.jV j (È c h.r) (f j c b)<|by rwa[h.S]).trans<|h.jV j c b d),λa g b d=>((k.M a (È g h.r) (f _ g b)<|by rwa[h.S]).trans<|h.M a g b d),λj c b=>(k.Y j (È c h.r)<|f j c b).trans<|h.Y j c b,k.C.trans h.C,k.I.trans h.I,k.c.trans h.c⟩
 .rcases k.N j q with z|z
  .exact h.N j z
  .exact Ç<|Õ h.r z
def mI.alc{l a:fc}(h:mI l a w u V):rj l a w u:=⟨h.C,h.N,h.rd,h.r,h.I,h.k,h.jV,h.M,λj b c=>h.S ⟨j,0,Á⟩ b c,h.c,h.f,h.i⟩
def rj.G{l a:fc}(h:rj l a (w.at i) u):rj l a w u:=⟨h.r,h.N,h.rd,h.S,h.b,h.k,h.jV,h.M,h.Y,h.C,h.I,h.c⟩
section
variable{Y:Nat->Prop}{jr:Ν->Prop}{H:Nat}{J:Jd}{T:gy}{lv:Nat->Nat}{lot:Nat->fc}{gs:Array Ý}{t:ż}{sl:Option (Nat×Nat)}
def kL.I(c:kL P Y jr H J T lv lot gs w t)(d:Nat):kL P Y jr H J T lv lot gs (w.at d) t:=⟨c.C,c.r.at d,c.c,c.d,c.M,c.S,c.b,c.N⟩
def ald{l:fc}{e:ž}(h:yZ l e)(a:â):ï e≠.mark (.release a):=by
 let⟨c,d,g⟩:=e;rcases h with⟨x,b,_⟩|h|⟨f,h⟩|h|h|⟨x,_,h⟩
 .simp only at b;subst b;simp[ï]
 .simp only at h;subst h;simp[ï]
 .simp only at h;subst h;simp[ï]
 .simp only at h;subst h;simp[ï]
 .simp only at h;subst h;simp[ï]
 .simp only at h;rcases h with rfl|rfl|rfl|rfl<;>simp[ï]
theorem ale{e:ž}(h:e.mute=Ò)(a:â):ï e≠.mark (.release a):=by let⟨b,c,d⟩:=e;cases b<;>simp_all[Event.mute];rename_i m;cases m<;>simp_all[ï]
theorem kL.alf{k:ß->gy}(c:kL P Y jr H J (.jA k) lv lot gs w t)(o:∀l g,J l g->g.status=ċ\/g.status=ş)(r:gs[0]?=Â g): ∃e b d u,runT P (Ĭ gs w sl) 0=(.next<|Ĭ b d sl,u)/\b.size=gs.size/\rj (lot 0) (e 0) w d/\kL P Y jr H J (k w) lv e b d (t++u):=by
 obtain⟨b,d,G,s,v,f,I,K,j,y⟩:=c.r.fq r U λl g h=>o l g h;refine⟨gw lot 0 s,b,d,_,v,f,by rw[gV];exact j.alc,by rw[f];exact c.C,?_,λi z B=> ?_,?_,λp a h C=> ?_,λp a x h D=> ?_,λa h=>(c.b a h).app λu m=> ?_,Ř c.N λu m=>Ã<|oB u m⟩
 .have e:fy (λi=>if i=0 then(.jA k:gy)else .fB) 0 (k w)=λi=>if i=0 then k w else .fB:=by
   funext i;unfold fy;grind
  rwa[<-e]
 .rw[gH lot _ Z];exact c.c i z<|by rwa[<-f]
 .rw[gV,j.q];exact c.d
 .rcases mW h with⟨_,e⟩|⟨_,u,e,E,n⟩
  .exact(c.M p a e C).imp (·.app _) id
  .have:=knows_own n;grind [oB]
 .rcases mW h with⟨F,e⟩|⟨_,u,e,E,n⟩
  .rw[g?_old F];exact c.S p a x e D
  .apply Ã;unfold Trace.g?;grind [oB]
 .obtain⟨e,n,rfl⟩:=Č m;exact ald (j.b e n) a
theorem kL.j_(c:kL P Y jr H J T lv lot gs w t)(q:gs[i]?=Â g)(b:i≠0)(y:g.status=ċ): ∃a e f u,runT P (Ĭ gs w sl) i=(.next<|Ĭ f w sl,u)/\f.size=gs.size/\sumTo gs.size a+1=sumTo gs.size lv/\e 0=lot 0/\kL P Y jr H J T a e f w (t++u):=by
 have z:=(æ.1 q).1;obtain⟨f,r,m,M,B,o,N,C,D⟩:=c.r.O8 (n:=lv i) q b y U (by simp[b]) (by simp[b]);have E:∀u∈MemOp.ofEvents i g.frame.fn g.frame.place r,u.act.touch?=Á:=λu h=>by obtain⟨e,s,rfl⟩:=Č h;exact touch_mute<|C e s
 refine⟨fy lv i m,gw lot i {lot i with d:=į (lot i).d r,w:=w},f,_,B,o,?_,gH lot _<|Ne.symm b,by rw[o];exact c.C,?_,λj v F=> ?_,?_,λp a k G=> ?_,λp a x k I=> ?_,λa k=>(c.b a k).app λu h=> ?_,Ř c.N λu h=>Ç<|E u h⟩
 .grind [xv,fJ,gF]
 .have l:fy (λi=>if i=0 then J else pB P (lv i)) i (pB P m)=λj=>if j=0 then J else pB P (fy lv i m j):=by
   funext j;unfold fy;grind
  rwa[<-l]
 .by_cases e:j=i
  .subst e;rw[gV];have:=c.c j v z;rw[this];rfl
  .rw[gH lot _ e];exact c.c j v<|by rwa[<-o]
 .rw[gH lot _<|Ne.symm b];exact c.d
 .rcases mW k with⟨_,l⟩|⟨_,u,l,K,_⟩
  .exact(c.M p a l G).imp (·.app _) id
  .grind
 .rcases mW k with⟨L,l⟩|⟨_,u,l,K,_⟩
  .rw[g?_old L];exact c.S p a x l I
  .grind
 .obtain⟨e,s,rfl⟩:=Č h;grind [ale]
def kL.KT(c:kL P Y jr H J T lv lot gs w t):∀g∈gs,awake g:=by
 intro g e;obtain⟨i,f,rfl⟩:=Array.mem_iff_getElem.1 e;let⟨g0,_,b,a,_⟩:=c.r.C i _<|ì f;intro τ d;generalize gs[i]=g at b d;cases b with
 |gl=>rcases a with a|a<;>rw[d]at a<;>cases a
theorem kL.G(K:∀l g,J l g->g.status=ċ\/g.status=ş):∀(T:gy) (s:Nat) (lv:Nat->Nat) (lot:Nat->fc) (gs:Array Ý) (w:ß) (sl:Option (Nat×Nat)) (t:ż),sumTo gs.size lv=s->kL P Y jr H J T lv lot gs w t-> ∃N h b a f e c,Ŷ P N (Ĭ gs w sl) t=(.next<|Ĭ a f e,c)/\a.size=gs.size/\rj (lot 0) (b 0) w f/\kL P Y jr H J .fB h b a f c:=by
 intro T
 induction XT.apply T with
 |intro T _ L=>
  intro s
  induction s using Nat.strongRecOn with
  |_ s M=>
   intro lv lot gs w sl t V c;cases C:T with
   |fB=>
    subst C;exact⟨0,lv,lot,gs,w,sl,t,U,U,rj.fX _ _,c⟩
   |jA k=>
    subst C;have W:=c.C;obtain⟨g0,D⟩:∃g,gs[0]?=Â g:=⟨_,ì Z⟩;have O:g0.status=ċ:=by let⟨S,d,i,_,_⟩:=c.r.C 0 g0 D;grind [aha]
    let⟨i,g,d,e,E,Q,F⟩:=crowd_pick (P:=P) (w:=w) (sl:=sl) c.KT ⟨0,g0,D,O⟩;by_cases G:i=0
    .subst G;let⟨b,a,f,u,n,j,S,I⟩:=(c.I d).alf (sl:=e) K E;let⟨N,o,p,q,r,v,x,y,z,m,B⟩:=L (k<|w.at d) ⟨_,U⟩ _ lv b a f e (t++u) U I;exact⟨N+1,o,p,q,r,v,x,by simp only[Ŷ,F,n];exact y,z.trans j,S.G.ff m,B⟩
    .let⟨h,b,a,u,n,j,I,f,S⟩:=(c.I d).j_ (sl:=e) E G Q;let⟨N,o,p,q,r,v,x,y,z,m,B⟩:=M (sumTo a.size h) (by rw[j];omega) h b a (w.at d) e (t++u) U S;exact⟨N+1,o,p,q,r,v,x,by simp only[Ŷ,F,n];exact y,z.trans j,by rw[f]at m;exact m.G,B⟩
end
section
variable{F:Ph}{E:fV F}{S:Nat->Jd}{tr:Nat->gy}{o:Nat->iC}{f:Nat->fc}{gs:Array Ý}
def PI.jw(p:PI F i zX E S tr o f gs w qJ)(c:E.M=.gh):E.r=F.n+1/\∀x,x<F.n+1->∃N,E.N x=Â (.jw N):=by
 refine⟨(by unfold fV.r;rw[c];rfl),λx g=> ?_⟩;have a:=Qb (p.C.B<|Ç<|Ç c) x g;have j:x<E.M.ad F.n:=by rwa[c]
 unfold fV.G at a;rw[if_pos j]at a;have l:E.M.gD=0:=by rw[c];rfl
 cases d:E.N x with
 |none=>rw[d]at a;simp[ml]at a
 |some e=>
  rw[d]at a;simp only[ml]at a;cases e with
  |oU=>simp[il.kT]at a
  |jw N=>exact⟨N,U⟩
  |gh q=>
   let⟨h,k⟩:=p.C.N x q d;cases q with
   |jG=>simp[il.kT,jI.kT]at a
   |iI=>simp[il.kT,jI.kT]at a
   |gB W=>
    let⟨_,b⟩:=h W<|Ã U;have r:=p.M.C.r;rw[b]at r;have:=(p.C.g W b).2.1;simp only[GS.ok]at r;omega
   |jf W=>
    let⟨_,b⟩:=h W<|Ç U;have r:=p.M.C.r;rw[b]at r;have:=(p.C.g W b).2.1;simp only[GS.ok]at r;omega
   |iD r=>
    let⟨W,_,s,b⟩:=k r U;have:=(p.C.u r s b).2.1;omega
def xY(l:fc):fc:={l with O:=λ_=>False,I:=λ_=>False,r:=λ_=>False,N:=λ_=>False,K:=λ_=>False,q:=True}
def vH(f:Nat->fc)(l:fc):Nat->fc:=λi=>if i=0 then l else xY (f i)
def S4(f:Nat->fc)(l:fc):vH f l 0=l:=rfl
def wy(f:Nat->fc)(l:fc)(h:i≠0):vH f l i=xY (f i):=if_neg h
def H8{l:fc}(h:i≠0):¬(vH f l i).M b:=by rw[wy f l h];exact λq=>q.elim id id
def H9{l:fc}(h:i≠0):¬(vH f l i).C a:=by rw[wy f l h];exact λq=>q.elim id id
def iW.Y{Y I:Nat->Prop}(C:iW n I Y f w qJ)(u:I 0){l:fc}(v:n<=m)(x:∀b,l.O b->¬l.I b)(y:∀a,l.r a->¬l.N a)(B:∀b,l.M b->¬X b)(D:∀a,l.C a->X a.block)(E:∀b,l.M b->b<w.heap.size)(F:∀b,X b->b<w.heap.size)(G:fG l l.w w)(H:O3 qJ 0 l)(J:l.d=(f 0).d)(t:∀a,l.K a->X a.block/\¬l.r a):iW m I X (vH f l) w qJ:=by
 refine⟨λi j g L s b o=> ?_,λi j g L s a e=> ?_,λi g b o=> ?_,λi g a e=> ?_,λi g b o=> ?_,λi g a e=> ?_,λi g b o=> ?_,F,λi g=> ?_,λi g=> ?_,λi g=> ?_,C.l,C.q,λp a c N r P=>È (C.s p a c N r P) v,λi g a e=> ?_⟩
 .by_cases h:j=0
  .subst h;exact absurd (Ã o)<|H8 s
  .exact H8 h
 .by_cases h:j=0
  .subst h;exact absurd (Ã e)<|H9 s
  .exact H9 h
 .by_cases h:i=0
  .subst h;exact x b o
  .exact absurd (Ã o)<|H8 h
 .by_cases h:i=0
  .subst h;exact y a e
  .exact absurd (Ã e)<|H9 h
 .by_cases h:i=0
  .subst h;exact B b o
  .exact absurd o<|H8 h
 .by_cases h:i=0
  .subst h;exact D a e
  .exact absurd e<|H9 h
 .by_cases h:i=0
  .subst h;exact E b o
  .exact absurd o<|H8 h
 .by_cases h:i=0
  .subst h;exact G
  .rw[wy f l h];exact⟨(C.r i g).r,λj q=>q.elim (λz=>z.elim) λz=>z.elim,λa q=>q.elim (λz=>z.elim) λz=>z.elim,λa q=>q.elim (λz=>z.elim) λz=>z.elim,λa q=>q.elim⟩
 .by_cases h:i=0
  .subst h;exact H
  .rw[wy f l h];exact⟨λa e=>e.elim,λa e=>e.elim,λa e=>e.elim,λa e=>e.elim⟩
 .by_cases h:i=0
  .subst h;rw[S4,J];exact C.f 0 u
  .rw[wy f l h];exact C.f i g
 .by_cases h:i=0
  .subst h;refine⟨(t a e).1,λk z q=> ?_⟩;by_cases r:k=0
   .subst r;exact(t a e).2 q
   .exact absurd (Ã q)<|H9 r
  .rw[wy f l h]at e;exact e.elim
theorem PI.alg(p:PI F i zX E S tr o f gs w qJ)(m:E.M=.gh)(r:KP F zX qJ)(y:F.S=0)(M:1<=F.L): ∃z:Nat->Nat,kL F.P E.Y (λk=>zX k\/∃x:â,k=û x/\x.block=F.C) w.heap.size (F.j E.I) (tr 0) z (vH f<|f 0) gs w qJ:=by
 let⟨B,s⟩:=p.jw m;have O:gs.size=F.L+(F.n+1):=by rw[p.b,B]
 have C:=p.I.r;have c:0<gs.size:=Z
 refine⟨λb=>if h:F.L<=b/\b<F.L+(F.n+1)then Classical.choose (s (b-F.L) Z)else E.h b,Z,⟨?_,λb x t=> ?_,p.I.I⟩,λb Q _=> ?_,p.a.M 0<|Ã U,λq a d D=> ?_,λq a x d G=>Ç<|XR C.q d G,λa d q u=> ?_,r.2⟩
 .rw[y]at C;exact C.Y c (Ú _) (C.m 0 c) (C.g 0 c) (C.I 0 c) (C.e 0 c) (C.fx 0 c) C.N (C.r 0 c) (C.S 0 c) U λa d=>⟨(C.n 0 c a d).1,(C.n 0 c a d).2 0 c⟩
 .let⟨k,j,l,v,H⟩:=p.I.C b x t;by_cases h:b=0
  .subst h;rw[p.h.1,m]at j;rw[p.h.2,m]at l;exact⟨k,j,l,v,H⟩
  .have T:=(æ.1 t).1;simp only[h,if_false];rw[wy f _ h];have I:∀N,S b=pB F.P N->tr b=.fB->o b=.no->∃k,lk F.P (b==0) (pB F.P N) .fB (xY<|f b) k/\xq k .no x/\(k.status=ċ\/k.status=ş)/\(x=k\/True):=λN z e g=>by
    rw[z,e]at j;rw[g]at l;exact⟨k,λJ _=>j _<|fG.fX _ _,l,v,Ç trivial⟩
   by_cases J:b<F.L
   .let⟨z,e,g⟩:=p.l b Z J;grind
   .have K:F.L<=b/\b<F.L+(F.n+1):=Z
    simp only[K,dif_pos,and_self];let⟨z,e,g⟩:=p.k (b-F.L) _ Z<|Classical.choose_spec<|s (b-F.L) Z;rw[show F.L+(b-F.L)=b by omega]at z e g;exact I _ z (g ⟨_,U⟩) e
 .rw[wy f _ Z];rfl
 .rcases r.1 q a d D with z|⟨z,k⟩;all_goals grind
 .unfold Trace.act? at u;let⟨k,z,g⟩:=ġ.1 u;have:=C.q k<|Array.mem_of_getElem? z;rw[g]at this;have e:a.block<w.heap.size:=this;omega
theorem kL.Y{Y:Nat->Prop}{J:Jd}{s:gy}(c:kL P Y zX n J s D f gs w qJ)(t:(f 0).d=0)(o:gs[0]?=Â g)(u:g.status=ċ){p:Jd}{T:gy}{l:fc}(v:l.w=w)(y:l.d=0)(B:¬l.q)(k:∀b,¬l.I b)(r:∀a,¬l.r a)(m:∀a,¬l.N a)(C:∀a,¬l.K a)(E:∀b,l.O b->b<w.heap.size/\∀x:â,x.block=b->¬zX (û x))(F:lk P Ò p T l g): si P zX n p T D (vH f l) gs w qJ:=by
 refine⟨c.C,⟨?_,λi x j=> ?_,c.r.I⟩,λi o _=> ?_,B,c.M,c.S,c.b,c.N⟩
 .refine(c.r.r).Y c.C (Ú _) (λb _=>k b) (λa _=>m a) (λ_ _=>id) (λa e=>e.elim (λq=>absurd q<|r a) λq=>absurd q<|m a) (λb z=>z.elim (λq=>(E b q).1) λq=>absurd q<|k b) (λ_ h=>h.elim) (by rw[v];exact fG.fX _ _) ⟨λa e G x j I=> ?_,λa e=>(k _ e).elim,λa e=>(r a e).elim,λa e=>(m a e).elim⟩ (by rw[y,t]) λa e=>absurd e<|C a;rcases c.M G x j (by rw[I];rfl)with z|⟨z,_⟩;all_goals grind
 .by_cases h:i=0
  .subst h;rw[o]at j;obtain rfl:=Ó j;exact⟨g,F,.gl,Ã u,Ã U⟩
  .let⟨g0,e,G,I,z⟩:=c.r.C i x j;simp only[h,if_false]at e z|-;rw[wy f _ h];exact⟨g0,λL _=>e _<|fG.fX _ _,G,I,z⟩
 .rw[wy f _ Z];rfl
end
section
variable{F:Ph}{H:Nat}{J:Jd}{f:Nat->fc}{gs:Array Ý}
structure S5(F:Ph)(H:Nat)(l0 l:fc)(w:ß):Prop where
 fq:∀b,l.O b->l0.O b/\¬(F.M b\/b=F.Y)
 rd:∀b,l.I b->l0.O b/\¬(F.M b\/b=F.Y)/\¬l.O b
 r:∀a,l.r a↔∃x,x<=F.n/\ma F x a
 C:∀a,l.N a↔a=ji F.toFx 0
 k:∀a,l.K a->F.G a
 I:∀b,F.M b\/b=F.Y->l0.O b
 M:∀b,F.M b->H<=b
 f:l.w=w
 d:l.d=0
 q:¬l.q
 N:∀b,F.i b->l.I b
 S:ie w F.C (.cl 1 0)
 Y:ie w (F.I 0) (.cl 0 0)
 c:∀k,1<=k->k<=F.m->ie w (F.I k) (.cl 1 0)
 e:F.d 0 F.l F.i w
def my(F:Ph)(D:Nat->Nat)(a:Nat->Nat):fV F where
 M:=.go 0
 S:=.kS 0
 C:=λ_=> .nA 0
 N:=λ_=>Á
 I:=a
 c:=λ_=>F.l
 V:=λk=>if k=0 then F.i else λ_=>False
 e:=λ_=>0
 d:=λ_=>Á
 f:=λ_=>0
 b:=.cl 1 0
 a:=λk=>if k=0 then .cl 0 0 else .cl 1 0
 g:=Á
 h:=D
theorem LP(ok:F.Ok)(h:ma F i a):(∃k,1<=k/\k<=F.m/\a=ji F.toFx k)\/∃p,p≠F.f/\a=ju F p:=by
 unfold ma at h;split at h
 .obtain⟨k,c,d,b|b⟩:=h
  .grind
  .exact Ç ⟨_,ok.Y.1 k c d,b⟩
 .let⟨k,c,_,b⟩:=h;exact Ç ⟨_,ok.Y.2 _ (by assumption),b⟩
def k_(ok:F.Ok)(h:ma F i (ji F.toFx 0)):False:=by
 rcases LP ok h with⟨k,c,b,a⟩|⟨p,_,a⟩
 .have:F.I 0=F.I k:=by injection a
  have:=ok.S 0 k Z b this;omega
 .have:F.I 0=F.Y:=by injection a
  exact ok.C<|by rw[<-this];exact Ç ⟨0,Z,U⟩
theorem si.alh(X:gS F)(c:si F.P zX H J .fB D f gs w qJ)(hL:F.L=gs.size)(hB:F.S=0)(E:gs[0]?=Â g){l:fc}(st:S5 F H (f 0) l w)(pD:(f 0).d=0)(u:Nat->Nat)(hgo:F.g 0 u l g): PI F qJ.size zX (my F D u) (λi=>if i=0 then F.g 0 u else pB F.P (D i)) (λ_=> .fB) (λ_=> .no) (λi=>if i=0 then l else xY (f i)) gs w qJ:=by
 have S:=X.C;have C:=c.r.r;have ku:=c.C;have T:0<gs.size:=Z
 have y:(my F D u).r=0:=U;have hY:∀b,(my F D u).Y b↔(F.M b\/b=F.Y):=λb=>by
  constructor
  .rintro(q|q|⟨j,B,_⟩);all_goals grind
  .rintro(q|q)
   .exact Ã q
   .exact Ç<|Ã q
 have m_:∀a,l.C a->F.M a.block\/a.block=F.Y:=λa o=>by
  rcases o with q|q
  .let⟨x,_,G⟩:=(st.r a).1 q;rcases LP S G with⟨k,B,t,rfl⟩|⟨p,_,rfl⟩
   .exact Ã<|Ç ⟨k,t,U⟩
   .exact Ç U
  .rw[(st.C a).1 q];exact Ã<|Ç ⟨0,Z,U⟩
 have nC:∀i,i≠0->∀a,¬((λi=>if i=0 then l else xY (f i)) i).C a:=λi h a q=>by simp only[h,if_false]at q;exact q.elim id id
 have nM:∀i,i≠0->∀b,¬((λi=>if i=0 then l else xY (f i)) i).M b:=λi h b q=>by simp only[h,if_false]at q;exact q.elim id id
 have hM0:∀b,l.M b->(f 0).O b/\¬(F.M b\/b=F.Y):=λb q=>q.elim (st.fq b) λz=>⟨(st.rd b z).1,(st.rd b z).2.1⟩;have Qd:iW F.S (λi=>i<gs.size) (my F D u).Y (λi=>if i=0 then l else xY (f i)) w qJ:=by
  refine⟨λi j E hj N b v=> ?_,λi j E hj N a o=> ?_,λi E b v=> ?_,λi E a o=> ?_,λi E b v=> ?_,λi E a o=> ?_,λi E b v=> ?_,λb v=>C.fx 0 T b<|Ã<|st.I b<|(hY b).1 v,λi E=> ?_,λi E=> ?_,λi E=> ?_,C.l,C.q,λq a e B t I=> ?_,λi E a o=> ?_⟩
  .by_cases h:j=0
   .subst h;simp only[N,if_false]at v;exact v.elim
   .exact nM j h b
  .by_cases h:j=0
   .subst h;simp only[N,if_false]at o;exact o.elim
   .exact nC j h a
  .by_cases h:i=0
   .subst h;simp only[if_true]at v|-;exact λq=>(st.rd b q).2.2 v
   .simp only[h,if_false]at v;exact v.elim
  .by_cases h:i=0
   .subst h;simp only[if_true]at o|-;intro q;rw[(st.C a).1 q]at o;let⟨x,_,G⟩:=(st.r _).1 o;exact k_ S G
   .simp only[h,if_false]at o;exact o.elim
  .by_cases h:i=0;all_goals simp_all
  .by_cases h:i=0;all_goals simp_all
  .by_cases h:i=0
   .subst h;simp only[if_true]at v;exact C.fx 0 T b<|Ã (hM0 b v).1
   .simp_all
  .by_cases h:i=0
   .subst h;simp only[if_true];rw[st.f];exact fG.fX _ _
   .simp only[h,if_false];exact⟨(C.r i E).r,λj q=>q.elim (λz=>z.elim) λz=>z.elim,λa q=>q.elim (λz=>z.elim) λz=>z.elim,λa q=>q.elim (λz=>z.elim) λz=>z.elim,λa q=>q.elim⟩
  .by_cases h:i=0
   .subst h;simp only[if_true];have s:=(C.S 0 T).fq;exact⟨λa o=>s a (st.fq _ o).1,λa o=>(s a (st.rd _ o).1).r,λa o=>s a<|st.I _<|m_ a<|Ã o,λa o=>(s a<|st.I _<|m_ a<|Ç o).r⟩
   .simp only[h,if_false];exact⟨λa o=>o.elim,λa o=>o.elim,λa o=>o.elim,λa o=>o.elim⟩
  .by_cases h:i=0
   .subst h;simp only[if_true];rw[C.f 0 T,pD,st.d]
   .simp only[h,if_false];exact C.f i E
  .have:=C.s q a e B t I;omega
  .by_cases h:i=0
   .subst h;simp only[if_true]at o;let⟨b,v,s⟩:=st.k a o;have Q:a.block=b:=by rcases s with rfl|rfl<;>rfl
    refine⟨by rw[hY,Q];exact Ã v,λk K q=> ?_⟩;by_cases t:k=0
    .subst t;simp only[if_true]at q;let⟨x,_,G⟩:=(st.r a).1 q;rcases LP S G with⟨k',_,_,I⟩|⟨p',_,I⟩
     .rcases s with W|W<;>rw[W]at I<;>simp[fQ,gY,ji]at I
     .have:a.block=F.Y:=by rw[I];rfl
      exact S.C<|by rwa[<-this,Q]
    .simp only[t,if_false]at q;exact q
   .simp only[h,if_false]at o;exact o.elim
 have n_:gO F.P F.S (my F D u).Y (λi=>if i=0 then F.g 0 u else pB F.P (D i)) (λ_=> .fB) (λ_=> .no) (λi=>if i=0 then l else xY (f i)) gs w qJ:=by
  refine⟨Qd,λi x G=> ?_,c.r.I⟩;by_cases h:i=0
  .subst h;rw[E]at G;obtain rfl:=Ó G;simp only[if_true];exact⟨g,λs r=>X.GD 0 u l g s hgo r,.gl,Ã<|X.I 0 u l g hgo,Ã U⟩
  .let⟨g0,Q,q2,N,q4⟩:=c.r.C i x G;simp only[h,if_false]at Q|-;exact⟨g0,λs _=>Q _<|fG.fX _ _,q2,N,Ç trivial⟩
 have ali:iJ F (my F D u) (λi=>if i=0 then l else xY (f i)) gs.size w:=by
  refine⟨λi E a o=> ?_,λx _ t a o=> ?_,λ_=> ?_,λh=>absurd h (by rw[y];omega),λh=>absurd h (by rw[y];omega),λj h=>absurd h (by rw[y];omega),λj h=>absurd h (by rw[y];omega),λx ⟨e,B,_⟩=>(by cases B),λi h=> ?_,λi B t=> ?_,λk K b v=> ?_,λk K i E q=> ?_,λk B t=> ?_,λj h=>absurd h<|by rw[y];omega⟩
  .by_cases h:i=0
   .subst h;simp only[if_true]at o;rcases o with q|q
    .let⟨x,_,G⟩:=(st.r a).1 q;grind [LP]
    .exact Ã ⟨0,Z,(st.C a).1 q⟩
   .simp_all
  .simp only[if_true];exact(st.r a).2 ⟨x,t,o⟩
  .simp only[if_true];exact⟨(st.C _).2 U,st.N⟩
  .rcases h with rfl|⟨x,G,_⟩
   .simp only[if_true];exact st.q
   .grind
  .have:i≠0:=Z
   simp only[this,if_false];rfl
  .have Q:k=0:=by have:k<=0:=K;omega
   subst Q;have B:=st.N b v;refine⟨C.fx 0 T b<|Ã (st.rd b B).1,by rw[hY];exact(st.rd b B).2.1,λi E q=> ?_⟩;by_cases h:i=0
   .subst h;simp only[if_true]at q;exact(st.rd b B).2.2 q
   .simp only[h,if_false]at q;exact q
  .have Q:k=0:=by have:k<=0:=K;omega
   subst Q;by_cases h:i=0
   .subst h;simp only[if_true]at q;let⟨x,_,G⟩:=(st.r _).1 q;exact k_ S G
   .simp only[h,if_false]at q;exact q
  .have:k<=0:=t;omega
 have gg:∀k,k<=F.m->ie w (F.I k) ((my F D u).a k):=λk K=>by
  by_cases h:k=0
  .subst h;exact st.Y
  .have:(my F D u).a k=.cl 1 0:=by simp[my,h]
   rw[this];exact st.c k Z K
 have wdd:Wd F (my F D u) w:=by
  refine⟨st.S,gg,λj h=>absurd h (by rw[y];omega),λk K=> ?_,λk B t=> ?_,λj h=>absurd h<|by rw[y];omega⟩
  .have Q:k=0:=by have:k<=0:=K;omega
   subst Q;exact⟨.vG,st.e⟩
  .have:k<=0:=t;omega
 have o_:∀k,(sumTo F.n λj=>((my F D u).C j).gD F j k)=0:=λk=>by
  have:∀n,(sumTo n λ_=>0)=0:=λn=>by
   induction n with
   |zero=>rfl
   |succ n s=>simp[sumTo,s]
  exact this F.n
 have alj:sumTo (F.n+1) (my F D u).G=1:=by
  have B:=xv (f':=(my F D u).G) (j:=0) (n:=F.n+1) Z (λi E=>by
   have:¬i<1:=Z
   show(if i<1 then _ else _)=0;rw[if_neg this])
  have t:∀n,(sumTo n λ_=>0)=0:=λn=>by
   induction n with
   |zero=>rfl
   |succ n s=>simp[sumTo,s]
  rw[t]at B;have I:(my F D u).G 0=1:=U;omega
 have pss:Ps F (my F D u):=by
  refine⟨U,λj h=> ?_,λj h=> ?_,λr=>⟨λh=>(by cases h),λh=>(by cases h)⟩,λ_=>rfl,λk=>⟨λh=> ?_,λh=>(by cases h),λp h=>by cases h⟩,λ_ _=>rfl,λj r h=>absurd h (by rw[y];omega),λj h=>absurd h (by rw[y];omega),λh=>absurd U h,λ_ _=>rfl,λj j' h=>absurd h (by rw[y];omega),λj h=>absurd h (by rw[y];omega),λc reg h=> ?_,λreg h=>(by cases h),λr s h=>(by cases h),λx p h=>(by cases h),λh=> ?_,λk B t I=> ?_,λk B t=> ?_,λj r h=>absurd h (by rw[y];omega),λj r h=>absurd h (by rw[y];omega),λh=>(by cases h),λ_ _=>⟨1,rfl⟩,λ_ _ _=>rfl,λj r h=>absurd h<|by rw[y];omega⟩
  .rcases h with h|h|h|h<;>cases h;omega
  .rcases h with h|h|h<;>cases h
  .cases h;omega
  .cases h;exact⟨alj.symm,U⟩
  .rcases h with h|h|h<;>cases h
  .rw[o_];have:k≠0:=Z
   simp[my,this]
  .have Q:k=0:=by have:k<=0:=t;omega
   subst Q;exact Ç<|Ç ⟨λp h=>(by cases h),Ã ⟨rfl,o_ 0⟩⟩
 have s:TI F.toFx qJ.size zX (my F D u).r (my F D u).S.rl (my F D u).V (my F D u).e (my F D u).d (my F D u).iz (my F D u).f qJ:=by
  refine⟨Ú _,λp a x o Q hc=> ?_,λx h=>absurd h (by rw[y];omega),λk B t=> ?_,λk B t=> ?_,λb v=>c.b _<|st.M b v,λx h=>absurd h (by rw[y];omega),λp a B t=> ?_,λp a _ t I=>c.M p a t I,λp g _ t I W=>c.N p g t I W⟩
  .let⟨b,v,G⟩:=hc;have Qa:x.block=b:=by rcases G with rfl|rfl<;>rfl
   rcases c.S p a x o Q with q|q
   .exact Ã ⟨Pp o,q⟩
   .have:=st.M b v;omega
  .have:k<=0:=t;omega
  .have:k<=0:=t;omega
  .have:=Pp t;omega
 refine⟨by rw[y,hL];rfl,n_,⟨by simp only[if_true];rfl,U⟩,λh=>absurd h (by rw[y];omega),λj h=>absurd h (by rw[y];omega),λx e h=>absurd h (by rw[y];omega),λi B t=>⟨?_,U,U⟩,ali,wdd,pss,s,λi x G v=> ?_,λj r h=>absurd h<|by rw[y];omega⟩
 .have:i≠0:=Z
  simp only[this,if_false];rfl
 .let⟨g0,_,q2,N,_⟩:=n_.C i x G;cases q2 with
  |gl=>rcases N with N|N<;>rw[v]at N<;>cases N
end
end Go.Proofs.Y.fv
namespace Go.Proofs.Y.fv
open Go Go.Conc Go.Proofs.Y.Lift Go.RowKit Go.Conc.Lib Go.ConcR.Gen
open Go.Proofs Go.Proofs.YtgpphkdoanciiaaGreatDoor
section
variable{kd:Nat->Int}{R:Nat}
theorem Ia(h:i∈ic kd R):i<R/\kd i=1:=by have:=Ā.1 h;grind
theorem Ib(h:i∈jC kd R):i<R/\kd i≠1:=by have:=Ā.1 h;grind
def alk:(ic kd R).Nodup:=ņ.filter _
def alm:(jC kd R).Nodup:=ņ.filter _
def Cj(h:k<jJ.length):jJ[k]?=Â (jJ.getD k 0):=by simp[List.getD,h]
def wz{l:List Nat}(h:k<l.length):l.getD k 0∈l:=ħ<|Cj h
def p_(c:jJ.Nodup)(a:i<jJ.length)(d:j<jJ.length)(h:jJ.getD i 0=jJ.getD j 0):i=j:=by have b:=Cj a;rw[h]at b;exact(List.getElem?_inj a c).1<|b.trans (Cj d).symm
def q_:∀R,(ic kd R).length+(jC kd R).length=R
 |0=>rfl
 |R+1=>by
  have:=q_ R;by_cases h:kd R=1
  .rw[tA h,Sw h];simp;omega
  .rw[wm h,Sx h];simp;omega
end
structure xZ where
 γ:Type
 C:γ
 M:Nat->γ->γ->Prop
 RD:γ->Ï->(Nat->Prop)->ß->Prop
 I:Nat->ByteArray
 r:Nat->Prop
def LQ(M:xZ)(L n R:Nat)(kd:Nat->Int)(a g:Nat->Nat)(b c:Option â)(d e f h j l:Nat)(o:List é)(p:Nat->Prop)(RC e7:ß->Prop):SD where
 L:=L
 g:=0
 n:=n
 m:=fO kd R
 q:=(jC kd R).length
 N:=R
 I:=l
 C:=g
 M:=f
 S:=h
 s:=j
 u:=b
 t:=d
 l:=c
 k:=e
 o:=λk=>Â ⟨a<|(ic kd R).getD (k-1) 0,0,Á⟩
 a:=λk=>(ic kd R).getD (k-1) 0
 i:=λi=>Â ⟨a<|(jC kd R).getD i 0,0,Á⟩
 c:=λi=>(jC kd R).getD i 0
 b:=λi=>if i<(jC kd R).length then fO kd ((jC kd R).getD i 0)else 0
 f:=o
 d:=p
 RC:=RC
 p:=e7
 γ:=M.γ
 w:=M.C
 v:=M.r
 h:=M.M
 RD:=M.RD
 e:=λk=>M.I<|(ic kd R).getD (k-1) 0
 j:=λi=>M.I<|(jC kd R).getD i 0
section
variable{M:xZ}{L R:Nat}{kd:Nat->Int}{a:Nat->Nat}{c:Option â}{cs:List é}{RB:Nat->Prop}{RC e7:ß->Prop}{l d f:fc}
def aln(h:LC kd a D R (Æ O (fO kd R) j7) (Æ c (jC kd R).length j6) v j b J i j9 m l d f)(F:∀w p,RC w->(∀g,RB g->p.heap[g]?=w.heap[g]?)->RC p)(G:∀w p,e7 w->(p.os=w.os/\p.output=w.output)->e7 p)(H:∀s B V w p,M.RD s B V w->(∀g,V g->p.heap[g]?=w.heap[g]?)->M.RD s B V p)(I:1<=n)(K:1<=L)(X:n+R<1000):(LQ M L n R kd a D O c j7 j6 j b J i cs RB RC e7).Ok:=by
 have Y:=q_ (kd:=kd) R;have hc:(ic kd R).length=fO kd R:=U;let⟨a1,a2,a3⟩:=h.M;let⟨a4,a5,a6⟩:=h.S;have z:∀k,k<=fO kd R->d.w.heap.size<=D k/\D k<J:=λk r=>⟨(h.r.M k r).1,h.N k r⟩;have SL:=Õ (z 0 Z).1<|Ł (z 0 Z).2;refine⟨F,G,H,I,K,?_,?_,λo=> ?_,λo t=>(Ib<|wz t).1,λk C x=> ?_,λk r e=> ?_,λk u r N e=> ?_,?_,λo i' t P e=>p_ alm t P e,λk u C x h3 Q e=> ?_,λo k t C x e=> ?_,λg _=>ă g⟩
 .show n+(jC kd R).length+fO kd R<1000;omega
 .show R<1000;omega
 .show(if o<(jC kd R).length then fO kd ((jC kd R).getD o 0)else 0)<=fO kd R;split
  .rename_i t;exact ZX<|Ł (Ib<|wz t).1
  .omega
 .refine(Ia<|wz ?_).1;have:k<=fO kd R:=x;omega
 .have:=(z k r).2;have y:D k=i:=e;omega
 .have y:D k=D u:=e;have S:=r;have T:=N;rcases Nat.lt_trichotomy k u with q|q|q
  .have:=h.r.S k u q T;omega
  .exact q
  .have:=h.r.S u k q S;omega
 .rintro(e|⟨k,r,e⟩)
  .have y:j=i:=e;omega
  .have y:j=D k:=e;have:=(z k r).1;omega
 .have W:k<=fO kd R:=x;have h4':u<=fO kd R:=Q;have:=p_ alk Z Z e;omega
 .have W:k<=fO kd R:=x;have y:(jC kd R).getD o 0=(ic kd R).getD (k-1) 0:=e;have E:=(Ib<|wz t).2;rw[y]at E;exact E<|(Ia (kd:=kd) (R:=R)<|wz (k:=k-1) Z).2
end
abbrev kN(M:xZ)(L n R:Nat)(kd:Nat->Int)(c g:Nat->Nat)(d e:Option â)(f h i a j k:Nat)(cs:List é)(l:fc):SD:=LQ M L n R kd c g d e f h i a j k cs (λb=>l.O b\/b=a) (λw=>∀b,l.O b->w.heap[b]?=l.w.heap[b]?) λw=>w.os=l.w.os/\w.output=l.w.output
def LU(D:SD)(l:fc):fc:={l with O:=λb=>l.O b/\¬(D.Y.M b\/b=D.M)/\¬D.d b,I:=D.d,r:=λa=>∃x,x<=D.n/\ma (D.r Ä) x a,N:=λa=>a=ji D.Y 0,K:=D.Y.G}
section
variable{M:xZ}{L:Nat}{f:Nat->Int}{r:Nat->Nat}{u:Option â}{y:Nat}{cs:List é}{l B o:fc}
def LV{cs:Array Ï}(h:w.heap[b]?=Â (É cs e)):w.frozen? ⟨b,i,Á⟩=Ì:=by simp[î,h]
def S6{cs:Array Ï}(h:w.heap[b]?=Â (É cs e))(a:cs[0]?=Â (Ê ê<|(i:Int)*gf+0))(d:cs[1]?=Â (Ê Ď 0))(f:i<1000000):ie w b (.cl i 0):=by
 refine⟨?_,?_,LV h,LV h,(⟨f,Z,λ_=>rfl⟩)⟩
 .simp[Ö,fQ,h,a,GS.st]
 .simp[Ö,gY,h,d,GS.sm]
def alo(h:LC f r D j (Æ O (fO f j) j6) (Æ u (jC f j).length y) v k m j9 b j7 J l B o)(s:gA l)(LW:∀g,¬l.I g)(W:¬l.q)(X:l.d=0)(hH:i<=l.w.heap.size)(hV:∀g,M.r g->l.O g)(ri:M.RD M.C v M.r o.w)(xW:o.w.os=l.w.os/\o.w.output=l.w.output)(hn:1<=n)(hs:n+j<1000){t:Array Ï}(hT:HG m b (D<|fO f j) n (Æ u (jC f j).length y) t)(dk:Nat->Nat): S5 ((kN M L n j f r D O u j6 y k m j9 b cs l).r Ä) i o (LU (kN M L n j f r D O u j6 y k m j9 b cs l) o) o.w/\ ((kN M L n j f r D O u j6 y k m j9 b cs l).r Ä).g 0 dk (LU (kN M L n j f r D O u j6 y k m j9 b cs l) o) (BW (À<|Â ⟨b,0,Á⟩) jQ (À<|Â ⟨b,0,Á⟩) (ñ #[]) j7 J<|Ex t::cs):=by
 let⟨a1,a2,a3⟩:=h.M;let⟨a4,a5,a6⟩:=h.S;have N:∀C,C<=fO f j->B.w.heap.size<=D C/\D C<j9:=λC E=>⟨(h.r.M C E).1,h.N C E⟩;have SL:=Õ (N 0 Z).1<|Ł (N 0 Z).2;have Y:=λg q=>s.fx g<|Ã q;have hc:(ic f j).length=fO f j:=rfl;have Q:∀g,(kN M L n j f r D O u j6 y k m j9 b cs l).Y.M g\/g=k->g=b\/(∃C,C<=fO f j/\g=D C)\/g=k:=λg q=>by
  rcases q with(q|⟨C,S,q2⟩)|q
  .exact Ã q
  .exact Ç<|Ã ⟨C,S,q2⟩
  .exact Ç<|Ç q
 have H:∀g,(kN M L n j f r D O u j6 y k m j9 b cs l).Y.M g\/g=k->l.w.heap.size<=g/\g≠m/\g≠j9/\g≠j7/\g≠J/\(∀C,(Æ O (fO f j) j6).ownBlock=Â C->g≠C)/\(∀C,(Æ u (jC f j).length y).ownBlock=Â C->g≠C):=λg q=>by
  rcases Q g q with rfl|⟨C,E,rfl⟩|rfl
  .exact⟨Z,Z,Z,Z,Z,λC e=>by have:=h.o3 C e;omega,λC e=>by have:=h.o4 C e;omega⟩
  .have:=N C E;exact⟨Z,Z,Z,Z,Z,λp e z=>(h.r.M C E).2.1<|z▸e,λp e z=>(h.r.M C E).2.2<|z▸e⟩
  .exact⟨Z,Z,Z,Z,Z,λC e=>by have:=(h.r.r C e).2;omega,λC e=>by have:=(h.r.C C e).2;omega⟩
 have alp:∀g,(kN M L n j f r D O u j6 y k m j9 b cs l).Y.M g\/g=k->o.O g:=λg q=>by
  rcases Q g q with rfl|⟨C,E,rfl⟩|rfl
  .exact h.Y.fq
  .by_cases x:C=0
   .subst x;exact h.r.N.fq
   .exact(h.r.I C Z E).fq
  .exact h.I.fq
 have K:∀g,o.O g->l.w.heap.size<=g->g≠m->¬((kN M L n j f r D O u j6 y k m j9 b cs l).Y.M g\/g=k)->(LU (kN M L n j f r D O u j6 y k m j9 b cs l) o).O g:=λg S q2 q4 q3=>⟨S,q3,λq=>q.elim (λq=>by have:=Y g q;omega) q4⟩;have q':ie o.w b (.cl 1 0):=S6 h.Y.I U U Z;have r_:ie o.w (D 0) (.cl 0 0):=S6 h.r.N.I U U Z;have t_:∀C,1<=C->C<=fO f j->ie o.w (D C) (.cl 1 0):=λC I P=>S6 (h.r.I C I P).I U U Z;have T:∀g c,ie o.w g c->nH g o.w:=λg c q=>⟨by rw[show(⟨g,0,Á⟩:â)=fQ g from rfl,q.C];rfl,by rw[show(⟨g,1,Á⟩:â)=gY g from rfl,q.M];rfl⟩;refine⟨⟨λg q=>⟨q.1,q.2.1⟩,λg q=>⟨?_,λz=> ?_,λz=>z.2.2 q⟩,λa=>Iff.rfl,λa=>Iff.rfl,λa q=>q,λg q=>alp g q,λg q=>Õ hH (H g<|Ã q).1,U,h.C.d.trans X,by show¬o.q;rwa[h.C.q],λg q=>Ã<|hV g q,q',r_,t_,⟨⟨v,h.r.N.C U,ri⟩,λ_=> ?_⟩⟩,?_⟩
 .rcases q with q|q
  .exact h.C.O g q
  .rw[q];exact h.a.fq
 .rcases q with q|q
  .have:=(H g z).1;have:=Y g q;omega
  .exact(H g z).2.1 q
 .refine⟨?_,by unfold kY;rw[show o.w.heap[(kN M L n j f r D O u j6 y k m j9 b cs l).M]?=Â (xS j)from h.I.I],xW⟩;show o.w.cell? ⟨k,j,Á⟩=Á;simp only[Ö,h.I.I,xS,ı,Ķ,if_false];exact Array.getElem?_eq_none<|by rw[ř];exact Ú _
 refine⟨h.C.d.trans X,by show¬o.q;rwa[h.C.q],ă _,Ã ⟨U,⟨λg q=>⟨⟨g,q,Ã U⟩,⟨g,q,Ç U⟩⟩,λg q=> ?_,Ç<|Ç U,h.a.C U,(Ã<|K j9 h.c.fq Z Z λz=>(H j9 z).2.2.1 U),h.c.C U,λC E=> ?_,λe hi=> ?_,λa q=> ?_,λg q=>Ç q,λg q=>h.C.r g (Ã q) id⟩,t,j7,J,jQ,hT,⟨(K j7 h.d.fq Z Z λz=>(H j7 z).2.2.2.1 U),h.d.I⟩,⟨(K J h.b.fq Z Z λz=>(H J z).2.2.2.2.1 U),h.b.I⟩,U⟩⟩
 .rcases Q g (Ã q)with rfl|⟨C,E,rfl⟩|rfl
  .exact T _ _ q'
  .by_cases x:C=0
   .subst x;exact T _ _ r_
   .exact T _ _<|t_ C Z E
  .exact absurd q λz=>by
    rcases z with z|⟨C,x,F⟩
    .have G:g=b:=z;omega
    .have G:g=D C:=F;have:=(N C x).1;omega
 .have uj:C<fO f j:=E;rcases h.r.jP.2 with⟨_,e2⟩|⟨g,cap,cur,V,_,hcur,H3⟩
  .omega
  .have zK:O=Â ⟨g,0,Á⟩:=by injection V
   subst zK;have x:=h.r.jP.cells U;have hz:(ic f j).zipIdx[C]?=Â ((ic f j).getD C 0,C):=by rw[List.getElem?_zipIdx,Cj Z];simp
   have F:∀c,c<4->(jP f r D j)[C*4+c]?=(tI r D ((ic f j).getD C 0,C))[c]?:=λc q=>SA (λ_=>rfl) q _ C _ hz;have G:∀p,(⟨g,0,Á⟩:â).add p=⟨g,p,Á⟩:=λp=>by rw[ğ,č]
   refine⟨g,U,Ã (K g (h.r.r g U).1 (Õ Z (h.r.r g U).2) (by have:=(h.r.r g U).2;omega) λz=>(H g z).2.2.2.2.2.1 g U U),?_,?_,?_,?_⟩
   .have:=x (C*4+0) _<|F 0 Z;rwa[G]at this
   .have:=x (C*4+1) _<|F 1 Z;rwa[G]at this
   .have:=x (C*4+2) _<|F 2 Z;rwa[G]at this
   .have:=x (C*4+3) _<|F 3 Z;rwa[G]at this
 .have lC:e<(jC f j).length:=hi;rcases h.r.mM.2 with⟨_,e2⟩|⟨g,cap,cur,V,_,hcur,H3⟩
  .omega
  .have SZ:u=Â ⟨g,0,Á⟩:=by injection V
   subst SZ;have x:=h.r.mM.cells U;have F:∀c,c<4->(mM f r D j)[e*4+c]?=(tQ f r D<|(jC f j).getD e 0)[c]?:=λc q=>SA (λ_=>rfl) q _ e _<|Cj lC;have G:∀p,(⟨g,0,Á⟩:â).add p=⟨g,p,Á⟩:=λp=>by rw[ğ,č]
   refine⟨g,U,Ã (K g (h.r.C g U).1 (Õ Z (h.r.C g U).2) (by have:=(h.r.C g U).2;omega) λz=>(H g z).2.2.2.2.2.2 g U U),?_,?_,?_,?_⟩
   .have:=x (e*4+0) _<|F 0 Z;rwa[G]at this
   .have:=x (e*4+1) _<|F 1 Z;rwa[G]at this
   .have:=x (e*4+2) _<|F 2 Z;rw[G]at this;show o.w.cell? ⟨g,e*4+2,Á⟩=Â (À<|Â ⟨D (if e<(jC f j).length then fO f ((jC f j).getD e 0)else 0),0,Á⟩);rw[if_pos lC];exact this
   .have:=x (e*4+3) _<|F 3 Z;rwa[G]at this
 .have V:∀p,p<j->(o.w.cell? ⟨k,p,Á⟩).isSome=Ò/\o.w.frozen? ⟨k,p,Á⟩=Ì:=λp hp=>by
   refine⟨?_,LV h.I.I⟩;have:p<(madeCells (Ŵ<|à ⟨#[]⟩) j).size:=by rwa[ř]
   simp[Ö,h.I.I,this]
  let⟨x,_,F⟩:=q;unfold ma at F;split at F
  .obtain⟨C,I,P,rfl|rfl⟩:=F
   .have G:=P;refine⟨?_,LV (h.r.I C I G).I⟩;show(o.w.cell? ⟨D C,2,Á⟩).isSome=Ò;rw[(h.r.I C I G).C U];rfl
   .have G:C<=fO f j:=P;exact V _ (Ia<|wz Z).1
  .obtain⟨e,I,_,rfl⟩:=F;exact V _ (Ib<|wz I).1
end
end Go.Proofs.Y.fv
namespace Go.Proofs.Y.fv
open Go Go.Conc Go.Proofs.Y.Lift Go.RowKit Go.Conc.Lib Go.ConcR.Gen
open Go.Proofs Go.Proofs.YtgpphkdoanciiaaGreatDoor
open Go.ConcN (sumTo sumTo_congr)
def LX(kd:Nat->Int)(f:Nat->Nat)(R n:Nat)(h:Ï)(l:fc)(cs:List é):Jd:=λi j=>
 ∃g k t m b o c p a d e q,LC kd f g R m b h o c p a d e l k i/\HG c a (g<|fO kd R) n b t/\j=BW (À<|Â ⟨a,0,Á⟩) q (À<|Â ⟨a,0,Á⟩) (ñ #[]) d e (Ex t::cs)
theorem u_(h:w.ownsRow i e j v n l):∃b c,v=Æ b n c:=by rcases h.2 with⟨a,d⟩|⟨b,f,g,a,_⟩;all_goals grind
section
variable{F:Ph}{E:fV F}{S:Nat->Jd}{B:Nat->gy}{G:Nat->iC}{y:Nat->fc}{o:Array Ý}
theorem PI.alq(p:PI F j9 zX E S B G y o w qJ)(c:E.M=.gh)(d:1<=F.n):E.S=.kS F.m/\(∀i,i<F.q->w.cell? (ju F<|F.a i)=Â (à<|F.k i)/\∀k,k<o.size->¬(y k).r (ju F<|F.a i)):=by
 let⟨j,a⟩:=p.jw c;refine⟨p.C.f (by let⟨N,h⟩:=a 0 Z;rw[h];simp),λi k=> ?_⟩;have l:i%F.n<F.n:=ĵ _ d;have e:i%F.n+i/F.n*F.n=i:=by rw[Nat.mul_comm];exact Nat.mod_add_div i F.n
 let⟨N,h⟩:=a (i%F.n+1) Z;let⟨_,r,f,g⟩:=p.C.l (i%F.n) Z (by rw[h];simp);have b:i/F.n<(E.C<|i%F.n).kJ:=by rw[f];exact(g (i/F.n)<|by rwa[e])
 have s:=p.M.N (i%F.n) Z (i/F.n) (by rwa[e]) b;have t:=p.a.d (i%F.n) Z (i/F.n) (by rwa[e]) b;grind
end
structure alr(D:SD)(l:fc)(w:ß)(g:Ý):Prop where
 I:∀b,l.O b->w.heap[b]?=l.w.heap[b]?
 cba:w.cell? ⟨D.S,0,Á⟩=Â (Æ (Â ⟨D.M,0,Á⟩) D.N D.N)
 kS:∀k,1<=k->k<=D.m->w.cell? ⟨D.M,D.a k,Á⟩=Â (à<|D.e k)
 S7:∀i,i<D.q->w.cell? ⟨D.M,D.c i,Á⟩=Â (à<|D.j i)
 Ic:∃s sl V,nD (D.r Ä) D.m s/\w.cell? ⟨D.C D.m,2,Á⟩=Â sl/\D.RD s sl V w/\∀b,V b->b<w.heap.size/\b≠D.I
 fx:D.M<w.heap.size/\D.S<w.heap.size/\D.C D.m<w.heap.size
 r:D.M≠D.I/\D.S≠D.I/\D.C D.m≠D.I
 S8:∃ts,SE D.S D.I (D.C D.m) ts/\g=ED ts D.f
 C:w.cell? ⟨D.M,D.N,Á⟩=Á/\kY w D.M=Â (0,0)
 io:w.os=l.w.os/\w.output=l.w.output
section
variable{M:xZ}{f:Nat->Int}{u:Nat->Nat}{cs:List é}{l:fc}{I:Nat->Nat}{y:Nat->fc}{o:Array Ý}
theorem als(c:si Ä zX j (LX f u J n v l cs) .fB I y o w qJ)(S:Option (Nat×Nat))(s:gA l)(LW:∀b,¬l.I b)(hq:¬l.q)(hd:l.d=0)(hH:j<=l.w.heap.size)(hV:∀b,M.r b->l.O b)(ri:∀s S V w G,M.RD s S V w->(∀b,V b->G.heap[b]?=w.heap[b]?)->M.RD s S V G)(Ck:M.RD M.C v M.r l.w)(xW:w.os=l.w.os/\w.output=l.w.output)(hn:1<=n)(hs:n+J<1000) (hA:∀g r t B D e m p h,l.w.heap.size<=m->EE (kN M o.size n J f u g r t B D e m p h cs l)/\EF (kN M o.size n J f u g r t B D e m p h cs l)): ∃g r t B D e m p h,(l.w.heap.size<=e/\l.w.heap.size<=m/\l.w.heap.size<=h/\∀k,k<=fO f J->l.w.heap.size<=g k)/\ ∃N Y a H C i G K E z,Ŷ Ä N (Ĭ o w S) qJ=(.next<|Ĭ i G K,E)/\i.size=o.size+(n+1)/\i[0]?=Â z/\a<=G.heap.size/\h<a/\j<=a/\(C 0).d=0/\z.status=ċ/\ kL Ä Y (λF=>zX F\/∃x:â,F=û x/\x.block=h) a (a_<|kN M o.size n J f u g r t B D e m p h cs l) .fB H C i G E/\alr (kN M o.size n J f u g r t B D e m p h cs l) l G z:=by
 have h0:=c.C;obtain⟨g0,xB⟩:∃g,o[0]?=Â g:=⟨_,ì h0⟩;let⟨g1,q1,q2,q3,_⟩:=c.r.C 0 g0 xB;obtain rfl:g0=g1:=by cases q2;rfl
 have hz:=q1 w<|c.r.r.r 0 h0;let⟨g,lp,tt,iv,qv,e,m,p,h,bw,bf,T,F,hT,hg⟩:=hz;obtain⟨r,B,rfl⟩:=u_ F.r.jP;obtain⟨t,D,rfl⟩:=u_ F.r.mM;let⟨a1,a2,a3⟩:=F.M;let⟨a4,a5,a6⟩:=F.S;have S9:∀k,k<=fO f J->lp.w.heap.size<=g k/\g k<p:=λk W=>⟨(F.r.M k W).1,F.N k W⟩;have avH:=S9 0 Z;have alu:=ri _ _ _ _ _ Ck λb q=>F.C.r b (Ã<|hV b q) id;obtain⟨st,hgo⟩:=alo F s LW hq hd hH hV alu xW hn hs hT λ_=>0;have ok:=aln (L:=o.size) (cs:=cs) (RB:=λb=>l.O b\/b=m) (RC:=λw=>∀b,l.O b->w.heap[b]?=l.w.heap[b]?) F (λw G P X b a=>(X b<|Ã a).trans<|P b a) (e7:=λw=>w.os=l.w.os/\w.output=l.w.output) (λw G P X=>⟨X.1.trans P.1,X.2.trans P.2⟩) ri hn Z hs;let⟨hAdd,alv⟩:=hA g r t B D e m p h Z;have Hy:=alb ok hAdd alv;have Ca:=F.C.d.trans hd;have st':S5 ((kN M o.size n J f u g r t B D e m p h cs l).r Ä) j (y 0) (LU (kN M o.size n J f u g r t B D e m p h cs l) {y 0 with w:=w}) w:=⟨st.fq,st.rd,st.r,st.C,st.k,st.I,st.M,st.f,st.d,st.q,st.N,st.S,st.Y,st.c,st.e⟩;rw[<-hg]at hgo;have p0:=c.alh Hy U U xB st' Ca (λ_=>0) hgo;let⟨N1,E,S1,tr1,kp1,avI,gs1,w1,w_,t1,r1,x,hf,he⟩:=ai4 Hy _ _ _ _ _ _ _ o w S qJ U U p0 (by intro q;cases q);let⟨oT,_⟩:=x.jw hf;let⟨zY,c1⟩:=x.alg hf he U h0;let⟨N2,LY,Ta,gs2,w2,LZ,t2,r2,z2,N,c2⟩:=c1.G (λa i z=>Ã<|Hy.M E.I a i z) (tr1 0) _ zY _ gs1 w1 w_ t1 U;have EG:gs1.size=o.size+(n+1):=by rw[x.b,oT];rfl
 have L0:=c2.C;obtain⟨g2,L3⟩:∃g,gs2[0]?=Â g:=⟨_,ì L0⟩;let⟨g3,u1,u2,u3,_⟩:=c2.r.C 0 g2 L3;obtain rfl:g2=g3:=by cases u2;rfl
 have hE:=u1 w2<|c2.r.r.r 0 L0;let⟨e1,e2,dat,ts,rm,hge⟩:=hE;have Q:0<gs1.size:=Z
 have C:=x.I.r;have hY:=λb q z=>C.I 0 Q b (Ã z) q;have H:E.Y e:=Ç<|Ã U;have yG:∀k,k<=fO f J->E.Y (g k):=λk W=>Ã<|Ç ⟨k,W,U⟩;have y_:E.Y h:=Ã<|Ã U;let⟨hip,alx⟩:=x.alq hf hn;have hmd:E.S.md=fO f J:=by rw[hip];rfl
 let⟨G6,⟨z_,Tb,L4⟩,_⟩:=x.M.M (fO f J) Z;have K:=C.N;refine⟨g,r,t,B,D,e,m,p,h,⟨a1,Z,Z,λk W=>by have:=S9 k W;omega⟩,N1+N2,E.Y,w1.heap.size,LY,Ta,gs2,w2,LZ,t2,g2,?_,Z,L3,N.r,K h y_,?_,e1,Hy.M E.I _ _<|u1 w2<|c2.r.r.r 0 L0,c2,⟨dat.e,dat.d,λk P X=> ?_,λi hi=> ?_,?_,?_,(⟨show e≠h by omega,show m≠h by omega,show g (fO f J)≠h by have:=S9 (fO f J)<|Ú _;omega⟩),⟨ts,rm,hge⟩,?_,?_⟩⟩
 .rwa[runNT_add,show Ŷ Ä N1 (Ĭ o w S) qJ=_ from r1]
 .grind
 .have a:k<=fO f J:=X;refine Ŀ (N.M ⟨e,_,Á⟩ (K e H) (hY e H)<|x.a.g k P Z 0 Q)<|x.M.S k P Z
 .let⟨T,v2⟩:=alx i hi;exact Ŀ (N.M ⟨e,_,Á⟩ (K e H) (hY e H)<|v2 0 Q) T
 .refine⟨E.c<|fO f J,z_,E.V<|fO f J,G6,(Ŀ (N.M ⟨g<|fO f J,2,Á⟩ (K _<|yG _<|Ú _) (hY _<|yG _<|Ú _)<|x.a.N (fO f J) Z 0 Q) Tb),ri _ _ _ _ _ L4 λb q=> ?_,λb q=> ?_⟩
  .let⟨T,v2,v3⟩:=x.a.I (fO f J) Z b q;exact N.jV b T (v3 0 Q) λa ha z=>v2<|ha▸C.e 0 Q a (Ã z)
  .let⟨T,v2,v3⟩:=x.a.I (fO f J) Z b q;exact⟨È T N.r,λz=>v2<|z▸y_⟩
 .refine⟨È (K e H) N.r,c2.r.r.fx 0 L0 m<|Ç dat.c,È (K _<|yG _<|Ú _) N.r⟩
 .let⟨a,y2,_⟩:=(x.M.M 0<|ă _).2.2 U;exact⟨Ŀ (N.M ⟨e,J,Á⟩ (K e H) (hY e H)<|x.a.Pt Hy.C 0 Q) a,(N.Y e (K e H)<|hY e H).trans y2⟩
 .let⟨_,_,a⟩:=(x.M.M 0<|ă _).2.2 U;exact⟨N.C.trans a.1,N.I.trans a.2⟩
end
def Td(a:Ν->Prop)(w:ß):fc where
 O:=λb=>b<w.heap.size/\∀x:â,x.block=b->¬a (û x)
 I:=λ_=>False
 r:=λ_=>False
 N:=λ_=>False
 K:=λ_=>False
 q:=False
 d:=0
 w:=w
def A_(a:Ν->Prop)(w:ß):gA (Td a w):= ⟨λ_ _ h=>h,λ_ h=>h.elim,λ_ h=>h.elim (λq=>q.elim) λq=>q.elim,λ_ h=>h.elim (λq=>q.1) λq=>q.elim,λ_ h=>h.elim (λq=>q.elim) λq=>q.elim,λ_ h=>h.elim⟩
structure wA(jr:Ν->Prop)(H:Nat)(l:fc):Prop where
 r:∀x:â,jr (û x)->x.block<H
 fq:∀b,l.O b->∀x:â,x.block=b->¬jr (û x)
 C:H<=l.w.heap.size
inductive zZ(M:xZ):Nat->M.γ->Prop
 |vG:zZ M 0 M.C
 |Dz {k:Nat} {s s':M.γ} (h:zZ M k s) (hn:M.M k s s'):zZ M (k+1) s'
structure Gp(M:xZ)(R:Nat)(kd:Nat->Int)(l:fc)(an:Nat)(sl:Ï)(l':fc):Prop where
 vL:∀b,l.O b->l'.O b/\l'.w.heap[b]?=l.w.heap[b]?
 kJ:l'.O an/\∀p,p<R->l'.w.cell? ⟨an,p,Á⟩=Â (à<|M.I p)
 Ic:∃s V,zZ M (fO kd R) s/\M.RD s sl V l'.w/\∀b,V b->l'.O b
 d:l'.d=0
 q:¬l'.q
 rd:∀b,¬l'.I b
 u7:(∀a,¬l'.r a)/\(∀a,¬l'.N a)/\∀a,¬l'.K a
 Dh:l'.w.cell? ⟨an,R,Á⟩=Á/\kY l'.w an=Â (0,0)
section
variable{M:xZ}{R H:Nat}{kd:Nat->Int}{e:Nat->Nat}{f:List é}{l:fc}{jr:Ν->Prop}{o:Nat->fc}
def aly{a:Option â}{s:M.γ}(h:nD ((kN M i n R kd e D O a j b m J j9 j7 qX l).r Ä) k s):zZ M k s:=by
 have c:∀(k:Nat) (s:((kN M i n R kd e D O a j b m J j9 j7 qX l).r Ä).γ),nD ((kN M i n R kd e D O a j b m J j9 j7 qX l).r Ä) k s->zZ M k s:=λk s h=>by
  induction h with
  |vG=>exact .vG
  |Dz _ d f=>exact .Dz f d
 exact c k s h
def alz{J:(Ν->Prop)->Nat->Jd}{cf:é}{a:ŏ}(G3:qX=cf.at a (Ñ Q (i::jJ)::L)::f)(c:si Ä jr H (LX kd e R n v l qX) .fB D o E w qJ)(F:Option (Nat×Nat))(s:gA l)(LW:∀b,¬l.I b)(hq:¬l.q)(hd:l.d=0)(S:wA jr H l)(hV:∀b,M.r b->l.O b)(ri:∀s F V w u,M.RD s F V w->(∀b,V b->u.heap[b]?=w.heap[b]?)->M.RD s F V u)(alA:∀s F V w,M.RD s F V w->(∃p m c,F=Æ p m c)/\∀b,V b->l.O b\/l.w.heap.size<=b)(Ck:M.RD M.C v M.r l.w)(xW:w.os=l.w.os/\w.output=l.w.output)(hn:1<=n)(hs:n+R<1000) (hA:∀g ib qb ci cq B ba bi I,l.w.heap.size<=ba->EE (kN M E.size n R kd e g ib qb ci cq B ba bi I qX l)/\EF (kN M E.size n R kd e g ib qb ci cq B ba bi I qX l)) (hJ:∀EH C W B p m c,wA EH C W->gA W->Gp M R kd l B (Æ p m c) W->fi Ä Ò (J EH C) W (G (cf.at (a.put ((Q[i]?).bind (·.dst))<|ñ #[Æ (Â ⟨B,0,Á⟩) R R,Æ p m c])<|Ñ Q jJ::L) f)): ∃N EH C T jD Ie gs' u tB t',Ŷ Ä N (Ĭ E w F) qJ=(.next<|Ĭ gs' u tB,t')/\(u.os=l.w.os/\u.output=l.w.output)/\si Ä EH C (J EH C) T jD Ie gs' u t':=by
 let⟨g,ib,qb,ci,cq,B,ba,bi,I,⟨b1,b2,b3,b4⟩,N,Y,C,jD,Ie,gs',u,tB,t',g',r,z1,z2,z3,z4,z5,z6,z7,cY,t⟩:=als c F s LW hq hd S.C hV ri Ck xW hn hs hA;let⟨st,z_,V,G6,Tb,L4,L5⟩:=t.Ic;obtain⟨⟨sp,sm,sc,rfl⟩,A'⟩:=alA _ _ _ _ L4;obtain⟨ts,rm,rfl⟩:=t.S8;have hH:=S.C;have B_:=λb q=>s.fx b<|Ã q;have X:∀b,(l.O b\/l.w.heap.size<=b)->b<u.heap.size->b≠I->(Td (λj=>jr j\/∃x:â,j=û x/\x.block=I) u).O b:=λb hb gT lz=>by
  refine⟨gT,λx hx=> ?_⟩;rintro(q|⟨y,P,q2⟩)
  .rcases hb with hb|hb
   .exact S.fq b hb x hx q
   .have:=S.r x q;omega
  .injection P with P;subst P;omega
 have alB:=λb q=>by have h:=t.I b q;rw[ì<|B_ b q]at h;exact(æ.1 h).1
 have keep:=λb q=>X b (Ã q) (alB b q) (by have:=B_ b q;omega);have L8:=X B (Ç b1) t.fx.1 t.r.1;have alC:fi Ä Ò (J (λj=>jr j\/∃x:â,j=û x/\x.block=I) C) (Td (λj=>jr j\/∃x:â,j=û x/\x.block=I) u) (ED ts qX):=by
  rw[G3];refine akR (A_ _ _) (λq=>q) rm (Ã<|X ba (Ç b2) t.fx.2.1 t.r.2.1) (Ã<|Ã<|X _ (Ç<|b4 _<|Ú _) t.fx.2.2 t.r.2.2) t.cba Tb λW h=> ?_;refine hJ (λj=>jr j\/∃x:â,j=û x/\x.block=I) C W B sp sm sc ⟨λx q=> ?_,λb q x hx=> ?_,Õ z3 h.I⟩ (h.N<|A_ _ _) ⟨λb q=>⟨h.O b<|keep b q,(h.r b (Ã<|keep b q) id).trans<|t.I b q⟩,⟨h.O B L8,λp hp=> ?_⟩,⟨st,V,aly G6,ri _ _ _ _ _ L4 λb q=>h.r b (Ã<|X b (A' b q) (L5 b q).1 (L5 b q).2) id,λb q=>h.O b<|X b (A' b q) (L5 b q).1 (L5 b q).2⟩,h.d,?_,λb q=> ?_,⟨λa q=> ?_,λa q=> ?_,λa q=> ?_⟩,⟨(gN<|h.r B (Ã L8) id).trans t.C.1,(xn<|h.r B (Ã L8) id).trans t.C.2⟩⟩
  .rcases q with q|⟨y,P,q2⟩
   .exact È (S.r x q) z5
   .injection P with P;subst P;omega
  .rcases h.c b q with q|q
   .exact q.2 x hx
   .have j:u.heap.size<=b:=q;rintro(z|⟨y,z1,z2⟩)
    .have:=S.r x z;omega
    .injection z1 with z1;subst z1;omega
  .refine(gN<|h.r B (Ã L8) id).trans ?_;by_cases hk:kd p=1
   .have hm:p∈ic kd R:=Ā.2 ⟨Ē.2 hp,by simpa using hk⟩;let⟨j,y⟩:=Ĩ hm;have P:=(Ĕ.1 y).1;have:=t.kS (j+1) Z (show j+1<=fO kd R from P);have e2:(ic kd R).getD (j+1-1) 0=p:=Ó<|(Cj P).symm.trans y;simp only[kN,LQ,e2]at this;exact this
   .have hm:p∈jC kd R:=Ā.2 ⟨Ē.2 hp,by simpa using hk⟩;let⟨j,y⟩:=Ĩ hm;have P:=(Ĕ.1 y).1;have:=t.S7 j P;simp only[kN,LQ,Ó<|(Cj P).symm.trans y]at this;exact this
  .rw[h.q];exact id
  .rw[h.S]at q;exact q
  .rw[h.Y]at q;exact q
  .rw[h.b]at q;exact q
  .rw[h.K]at q;exact q
 let⟨T,h⟩:=jq alC;exact⟨N,_,C,T,jD,_,gs',u,tB,t',r,t.io,cY.Y z6 z2 z7 U U id (λ_=>id) (λ_=>id) (λ_=>id) (λ_=>id) (λb q=>q) h⟩
end
end Go.Proofs.Y.fv
namespace Go.Proofs.Y.fv
open Go Go.Conc Go.Proofs.Y.Lift Go.RowKit Go.Conc.Lib Go.ConcR.Gen
open Go.Proofs Go.Proofs.YtgpphkdoanciiaaGreatDoor
def qu(V:Nat->Prop)(base:Nat):fw:=⟨λi j=>i=j/\V i,base⟩
def alD(V:Nat->Prop)(base:Nat):Bi (qu V base):= ⟨λ_ _ _ h k=>h.1.symm.trans k.1,λ_ _ _ h k=>h.1.trans k.1.symm,λi j h=>by rw[h.1]⟩
def lD(j:Nat):Bool:=j==3||j==4
def u9(c:Array Ï):Array Ï:=c.extract 0 16
def alE(c:Array Ï):(u9 c).size=min 16 c.size:=by simp[u9]
open Classical in
noncomputable def pJ (a:Nat->Prop) (j:Nat):Ÿ->Ÿ
 |É c e b=>if a j then(if lD j=Ò then É (u9 c) e (0,(u9 c).size)else É c e (0,c.size))else É c e b
 |_=>É #[] 0
noncomputable def lq (Sh:Nat->Prop) (w:ß):ß:={w with heap:=w.heap.mapIdx (pJ Sh)}
section
variable{V Sh:Nat->Prop}{base:Nat}
def EI(j:Nat):(lq Sh w).heap[j]?=(w.heap[j]?).map (pJ Sh j):=by simp[lq,Array.getElem?_mapIdx]
def B':kt (lq Sh w):=λi o h=>by
 rw[EI]at h;obtain⟨x,_,rfl⟩:=ġ.1 h;cases x<;>simp only[pJ]<;>try exact id
 split
 .split<;>exact id
 .exact id
structure L9(V Sh:Nat->Prop)(base:Nat)(w:ß):Prop where
 S8:∀b,V b->∃c e fr,w.heap[b]?=Â (É c e fr)/\fr.2<=c.size/\fT (qu V base) c c/\(Sh b->0<c.size/\(lD b=Ò->(e=304\/e=305)/\fr.2<=16)/\(lD b=Ì->Dd c))
 fx:base<=w.heap.size
def alF(h:L9 V Sh base w):rK (qu V base) Sh (lq Sh w) w:=by
 refine⟨U,U,alD V base,by show base<=(w.heap.mapIdx<|pJ Sh).size;rw[Array.size_mapIdx];exact h.fx,h.fx,λi j o=> ?_⟩;obtain⟨rfl,p⟩:=o;let⟨c,e,a,b,l,f,r⟩:=h.S8 i p;have g:(lq Sh w).heap[i]?=Â (pJ Sh i<|É c e a):=by rw[EI,b];rfl
 by_cases s:Sh i
 .let⟨t,u,v⟩:=r s;cases d:lD i with
  |true=>
   let⟨x,y⟩:=u d;have z:=alE c;have m:FZ e (u9 c).size:=⟨x,Z⟩;refine⟨u9 c,c,e,(0,(u9 c).size),a,?_,b,⟨λk B n=> ?_,Z,Ç ⟨s,m⟩⟩,λ_=>⟨U,Ú _,by show a.2<=(u9 c).size;omega,Z,Ç m⟩,λq=>absurd s q,Ú _⟩
   .show(lq Sh w).heap[i]?=_;rw[g];simp[pJ,s,d]
   .have:(u9 c)[k]=c[k]:=by simp[u9]
    rw[this];exact f.C k n n
  |false=>
   refine⟨c,c,e,(0,c.size),a,?_,b,pg.M f,λ_=>⟨U,Ú _,l,t,Ã<|v d⟩,λq=>absurd s q,Ú _⟩;rw[g];simp[pJ,s,d]
 .refine⟨c,c,e,a,a,?_,b,pg.M f,λq=>absurd q s,λ_=>rfl,l⟩;rw[g];simp[pJ,s]
end
section
variable{a:Nat->Prop}{l:fc}{V:Nat->Prop}
theorem EJ(y:nV P)(B:pw P a X)(hF:uh P X)(C:xl vQ){k:Array Ï}(D:X F)(E:P.funcs[F]?=Â s)(H:s.body=Â wX)(r:gA l)(I:¬l.q) (n:∀b,V b->l.M b) (J:L9 V (λj=>V j/\¬l.O j) P.globals.size l.w) (K:∀g,a g->V g) (L:fT (qu V P.globals.size) k k) (N:∀T,Calls P F k (World.tp (lq (λj=>V j/\¬l.O j) l.w) T 0) fun|.returned v,e=>vQ v e/\kt e|_,_=>False) (t:Bool) (o:é) (p:List é): fi P t (λh u=>∃(Y:fw) (e:ß) (v m:Ï),(qu V P.globals.size).r Y/\rK Y (λj=>V j/\¬l.O j) e h.w/\fp Y v m/\vQ v e/\u=G (o.finish m) p/\(∀i j,Y i j->h.M j/\(V j\/l.O j\/l.w.heap.size<=j))/\(∀j,l.O j->h.O j)/\h.d=l.d) l (G (Ă P F k Ğ)<|o::p):=by
 refine(ag5 (af3 y B hF C D E H B' N (Y:=qu V P.globals.size) U (λg q=>⟨U,K g q⟩) L (alF J) (λj q=>r.fx j<|n j q.1) (λi j _ q=>(n j q.1).resolve_left q.2) t o p) l U (λj q=> ?_) (λ_ q=>q) (λj q=>r.fx j<|Ã q) I).fR ?_
 .obtain⟨⟨i,rfl,x⟩,Q⟩:=q;grind
 .rintro h u ⟨O',⟨Y,e,v,m,S,rfl,W,q3,q4,q5⟩,Q,h3,h4,h5,h6,h7,h8,h9,h10,h11,h12⟩;refine⟨Y,e,v,m,S,W,q3,q4,q5,λi j Te=> ?_,h4,h10⟩;by_cases z:V j/\¬l.O j
  .exact⟨Ç (by rw[h7];exact(n j z.1).resolve_left z.2),Ã z.1⟩
  .have x:=h3 j ⟨⟨i,Te⟩,z⟩;exact⟨Ã x,Ç<|h6 j x⟩
end
section
variable{l:fc}{V GL:Nat->Prop}
def EK(s:gA l):gA (mq l):=by refine⟨λ_ h=>h.elim,λ_ h=>h.elim,λa c d=>s.N a (c.resolve_left id)<|d.resolve_left id,λb d=>s.fx b<|d.resolve_left id,λa c=>s.I a<|c.resolve_left id,λa c=>⟨λq=>(s.S a c).1<|q.resolve_left id,(s.S a c).2.1,id⟩⟩
structure EL(GL:Nat->Prop)(f:ķ)(args:Array Ï)(l:fc)(V:Nat->Prop)(kr:Ï->ß->Prop):Prop where
 N:∀b,V b->l.M b
 S:L9 V V Ä.globals.size l.w
 I:∀g,GL g->V g
 r:fT (qu V Ä.globals.size) args args
 C:∀T,Calls Ä f args (World.tp (lq V l.w) T 0) fun|.returned v,u'=>kr v u'/\kt u'|_,_=>False
def alG(m:nV Ä)(n:pw Ä GL X)(hF:uh Ä X)(e:X 67){D:SD}(h:∀i s d W l,i<D.q->nD (D.r Ä) (D.b i) s->D.RD s d W l.w->(∀b,W b->l.M b)->gA l->¬l.q->(∀b,D.d b->l.M b)->D.RC l.w->∃V,EL GL 67 #[d,À<|D.i i] l V λv _=>v=à (D.j i)):EF D:=by
 intro i s d W l o p r t f g x y z B;let⟨V,a⟩:=h i s d W l o p r t f g x y;let⟨G,c,C,E⟩:=hF 67 e;have k:(λj=>V j/\¬(mq l).O j)=V:=by funext j;exact propext ⟨λq=>q.1,λq=>⟨q,id⟩⟩
 refine(EJ m n hF (λv u T D h=>h) e C E (EK f) g (λb q=>Ç<|a.N b q) (by rw[k];exact a.S) a.I a.r (by rw[k];exact a.C) Ì z B).fR ?_;rintro H I ⟨Y,J,v,K,_,_,j,u,T,_,_,F⟩;subst u;cases j;exact⟨F,T⟩
theorem alH(P:nV Ä)(Q:pw Ä GL X)(hF:uh Ä X)(B:X 66){D:SD}(Rg:D.γ->Ï->ß->Prop)(hRg:∀s a u T n,Rg s a u->Rg s a (World.tp u T n)) (h:∀k s a W l,k<D.m->nD (D.r Ä) k s->D.RD s a W l.w->(∀b,W b->l.M b)->gA l->¬l.q->(∀b,D.d b->l.M b)->D.RC l.w->∃V,EL GL 66 #[a,À<|D.o<|k+1] l V (λv u=>∃p n c d,v=ñ #[Æ p n c,à<|D.e<|k+1]/\D.h k s d/\Rg d (Æ p n c) u)/\ ∀Y S u w d a C,rK Y S u w->fp Y a C->Rg d a u->(∀i j,Y i j->V j\/l.w.heap.size<=j)->∃e,D.RD d C e w/\∀b,e b->∃i,Y i b):EE D:=by
 intro k s a W l hk hr ri hW E F hRB hRC cl lX;let⟨V,f,tr⟩:=h k s a W l hk hr ri hW E F hRB hRC;let⟨fn,c,hf,g⟩:=hF 66 B;have G:(λj=>V j/\¬(mq l).O j)=V:=by funext j;exact propext ⟨λq=>q.1,λq=>⟨q,id⟩⟩
 refine(EJ P Q hF (λv u T D h=> ?_) B hf g (EK E) F (λb q=>Ç<|f.N b q) (by rw[G];exact f.S) f.I f.r (by rw[G];exact f.C) Ì cl lX).fR ?_
 .grind
 .rintro l' g' ⟨Y,u',v,v',_,q2,q3,⟨p,n,c,d,rfl,H,h3⟩,I,o,_,J⟩;cases q3 with
  |@nT _ cs'' hs mK=>
   let⟨ls⟩:=cs'';match ls,hs with
   |[x,y],_=>
    have r:=mK 0 fl fl;have K:=mK 1 fl fl;simp at r K;cases K;let⟨e,L,N⟩:=tr Y _ u' l'.w d _ x q2 r h3 λi j Te=>(o i j Te).2.imp id λz=>z.resolve_left id;cases r with
    |oz=>exact⟨J,Á,n,c,I,d,e,H,L,λb g=>by let⟨i,t⟩:=N b g;exact(o i b t).1⟩
    |kP=>exact⟨J,_,n,c,I,d,e,H,L,λb g=>by let⟨i,t⟩:=N b g;exact(o i b t).1⟩
end
end Go.Proofs.Y.fv
namespace Go.Proofs.Y.Lift
open Go
def EM(a:Nat->Bool):Ĥ->Bool
 |Ũ (Đ cs)=>cs.toList.all yU
 |Ũ (ñ cs)=>cs.toList.all yU
 |x=>xm a x
def C_(a:Nat->Bool)(x:Ĥ):EM a x=xm a x:=by
 cases x with
 |const v=>cases v<;>simp[EM,xm,ON,ĝ]
 |_=>rfl
def Ma(P:ė)(a:Nat->Bool)(b c:ķ->Bool)(o:å):Bool:=(Dr P b o.op&&o.op.operands.toList.all (EM a))||(O1 P c o.op&&o.op.operands.toList.all (EM a))
def Mb(a:Nat->Bool)(b c:ķ->Bool)(o:å):Ma P a b c o=Du P a b c o:=by have:(EM a)=xm a:=funext<|C_ a;simp[Ma,Du,OV,this,ĝ]
def rn(P:ė)(a:Nat->Bool)(b d:ķ->Bool):Ę->Bool
 |Ρ|ť|.label _|Ŧ _|.goto _=>Ò
 |.seq x y=>rn P a b d x&&rn P a b d y
 |Ť c x y=>EM a c&&rn P a b d x&&rn P a b d y
 |İ _ c|.loop c|.scope c=>rn P a b d c
 |ä _ c _=>c.toList.all<|Ma P a b d
 |.refuse _=>Ò
 |_=>Ì
def z8(a:Nat->Bool)(b d:ķ->Bool):∀c:Ę,rn P a b d c=nZ P a b d c
 |Ρ|ť|.label _|Ŧ _|.goto _|.refuse _|.rangeFunc _ _ _ _=>rfl
 |.seq x y=>by simp only[rn,nZ,z8 a b d x,z8 a b d y]
 |Ť c x y=>by simp only[rn,nZ,C_,z8 a b d x,z8 a b d y]
 |İ _ c|.loop c|.scope c=>by simp only[rn,nZ,z8 a b d c]
 |ä _ x _=>by have:Ma P a b d=Du P a b d:=funext<|Mb a b d;simp only[rn,nZ,this,ĝ]
end Go.Proofs.Y.Lift
namespace Go.Proofs.Y.fv
open Go Go.Conc Go.Proofs.Y.Lift Go.RowKit Go.Conc.Lib Go.ConcR.Gen
open Go.Proofs Go.Proofs.YtgpphkdoanciiaaGreatDoor
def C':List Nat:=[35,38,44,54,55,56,60,66,67,78,79,103,113,114,115,116,117,118,119,120,121,122,123,124,125,126,153,154,155,156,157,158,159,160,161,162,168,169,170,171,172,173,174,175,176,177,178,186,187,188,189,190,191,192,193,194,196,197,198,199,200,201,202,203,204,205,206,207,208,209,210,211]
def ya(g:Nat):Bool:=[1,2,3,4].contains g
def yb(f:Nat):Bool:=C'.contains f
def Aa(f:Nat):Bool:=[129,130].contains f
def Cl(P:ė)(f:Nat):Bool:=match P.funcs[f]? with
 |some a=>match a.body with
  |some c=>rn P ya yb Aa c
  |none=>Ì
 |none=>Ì
def alI:C'.all (Cl Ä)=Ò:=by rfl
def D_(h:yb i=Ò):Cl Ä i=Ò:=(Ň.1 alI) i<|by simpa[yb]using h
def alJ(h:Cl P i=Ò):∃a c,P.funcs[i]?=Â a/\a.body=Â c:=by
 unfold Cl at h;split at h
 .rename_i a b;split at h
  .rename_i c d;exact⟨a,c,b,d⟩
  .cases h
 .cases h
def alK(h:Cl P i=Ò)(a:P.funcs[i]?=Â s)(b:s.body=Â wX):rn P ya yb Aa wX=Ò:=by unfold Cl at h;rw[a]at h;simp only[b]at h;exact h
def D':uh Ä (λf=>yb f=Ò):=λ_ h=>alJ<|D_ h
def alL[AO P](h:∀f,yb f=Ò->Cl P f=Ò)(a:Gs P Aa):pw P (λg=>ya g=Ò) (λf=>yb f=Ò):=λf g e c b d=>by have:=alK (h f g) b d;rw[z8]at this;exact vI a this
instance avJ:AO Ä:=⟨λe n h=>by
 have h1:Ä.cellsOf 304=32:=ft
 have h2:Ä.cellsOf 305=64:=ft
 obtain⟨rfl|rfl,h3⟩:=h
 .rw[h1];omega
 .rw[h2];omega⟩
def alM(a:Gs Ä Aa):pw Ä (λg=>ya g=Ò) (λf=>yb f=Ò):=alL (λ_ h=>D_ h) a
def EN:Gs Ä Aa:=λf h=>by
 have:f=129\/f=130:=by simpa[Aa]using h
 rcases this with rfl|rfl
 .exact⟨_,Extern.AbiNoEscape.same,Tryz.func129,fP,fP,fP,fP,λ_ v a h=>agv v a h,agw⟩
 .exact⟨_,Extern.BytealgMakeNoZero.makeNoZero #[3] #[107],Tryz.func130,fP,fP,fP,fP,λ_ v a h=>agx #[3] 107 v a h,agy #[3] 107⟩
def E_:pw Ä (λg=>ya g=Ò) (λf=>yb f=Ò):=alM EN
end Go.Proofs.Y.fv
namespace Go.Proofs.Y.Lift
open Go Go.Conc
section
variable{Y:fw}{b:ķ->Prop}
def alN{e:Array Ï->Sem Ï}{y:Ĥ}{m:Array ŭ}(d:o.op=Ě {callee:=ĕ<|ĸ F,args:=#[qQ,y],argTypes:=m})(q:P.funcs[F]?=Â s)(r:(s.name== "runtime.NumGoroutine")=Ì)(t:s.body.isNone=Ò)(B:Extern.findNext s=Á)(C:Extern.find s=Â e) (D:∀(Y:fw) (v i z j:Ï),fp Y v i->fp Y z j->fI P fp Y (e #[v,z]) (e #[i,j])) (E:∀v z,fE P<|e #[v,z]) (G:∀y∈o.op.operands,mH X y):mT P X b o:=by
 have c:∀a:ŏ,ĉ a.eval o=Ś F #[a.eval qQ,a.eval y]:=by intro a;unfold ĉ;rw[d];simp only[ſ,ĥ,ě,invoke,pure_bind,Array.empty_append,Array.append_empty,List.map_toArray,List.map_cons,List.map_nil]
 have k:∀(v z:Ï) (u:ß),(Ś F #[v,z]).run P u=(mark (.extern F)>>=λ_=>e #[v,z]>>=λy=>pure (Next.value y):Sem Next).run P u:=by intro v z u;unfold Ś;simp_all
 refine Xo (λY a w _ _ _ h=> ?_) (λa=> ?_) (λa u n H g=> ?_) G
 .rw[c,c];have I:=h qQ (by rw[d];simp[ŉ,Call.operands]);have J:=h y (by rw[d];simp[ŉ,Call.operands]);unfold Ś;refine .gu (fF rB ?_);rintro M p N w ⟨K,L⟩;rw[K,L];simp only[q,r,t,B,C,Ķ,if_false,if_true];apply fF (V:=jv) (.Dc (Ç ⟨F,U⟩) (.fD U));intro O _ _ l _;exact mS<|D _ _ _ _ _ ((I.fR w).fR l)<|(J.fR w).fR l
 .rw[c];exact JK (k _ _)<|gq (Gi _) λ_=>lZ<|E _ _
 .rw[c,k,Sem.run_bind]at g;simp only[mark,Sem.run,Result.andThen_ok]at g;have:Sem.run P (e #[a.eval qQ,a.eval y]>>=λy=>pure (Next.value y):Sem Next) u=.ok n H:=g;rw[Sem.run_bind]at this;cases h:(e #[a.eval qQ,a.eval y]).run P u with
  |ok v w=>rw[h]at this;cases this;exact⟨v,U⟩
  |halt z w=>rw[h]at this;cases this
def F_:∀(n:Nat) {Y:fw} {a b:â} (c:ByteArray),hD Y a b->fI P jv Y (ò a n c) (ò b n c)
 |0,_,_,_,_,_=> .fD U
 |n+1,Y,a,b,c,h=>by
  unfold ò;refine fF (Jy h) ?_;intro f v g d e;cases e<;>first|exact .fS|skip
  rename_i k z;cases k<;>first|exact .fS|skip
  exact F_ n _<|(h.r d).C 1
theorem F':∀(n:Nat) (a:â) (b:ByteArray),fE P<|ò a n b
 |0,_,_=>gG _
 |n+1,a,b=>by
  unfold ò;refine gq (Gj _ _) λv=> ?_;split
  .exact F' n _ _
  .exact jg _
def alO(h:fp Y v x):fI P jv Y (ú v) (ú x):=by
 cases h<;>first|exact .fS|exact .fD U|skip
 exact F_ _ _<|by assumption
theorem alP(v:Ï):fE P (ú v):=by unfold ú;grind [gG,F',jg]
def alQ(h:fp Y v x):fI P jv Y (ü v) (ü x):=by
 cases h<;>first|exact .fS|skip
 rename_i k z;cases k<;>first|exact .fS|exact .fD U
theorem alR(v:Ï):fE P (ü v):=by unfold ü;grind [gG,jg]
def alS(v a z b:Ï)(h:fp Y v a)(k:fp Y z b):fI P fp Y (ó #[v,z]) (ó #[a,b]):=by
 apply fF (alO h);rintro j s d e f;obtain rfl:s=d:=f;apply fF (alQ<|k.fR e);rintro l c g m i;obtain rfl:c=g:=i;split
 .exact .fD (.iG _ _)
 .exact .fD (.iG _ _)
theorem alT(v z:Ï):fE P (ó #[v,z]):=by refine gq (alP v) λs=>gq (alR z) λc=> ?_;grind [gG]
end
end Go.Proofs.Y.Lift
namespace Go.Proofs.Y.fv
open Go Go.Conc Go.Proofs.Y.Lift
open Go.Proofs Go.Proofs.YtgpphkdoanciiaaGreatDoor
def Tf:List Nat:=[16,18,21,23,24,25,28,29,30,31,35,44,60,38,54,55,56,78,79,36,45,61,94,95,96,97,98,99,100,101,102,103,104,145,146,147,148,149]
def EO(f:Nat):Bool:=Tf.contains f||f==167
def Mc(_:Nat):Bool:=Ì
def Md(P:ė)(f:Nat):Bool:=match P.funcs[f]? with
 |some a=>match a.body with
  |some c=>rn P Mc EO Aa c
  |none=>Ì
 |none=>Ì
def alU:Tf.all (Md Ä)=Ò:=by rfl
def G_(h:Tf.contains i=Ò):Md Ä i=Ò:=(Ň.1 alU) i<|by simpa using h
theorem H_(h:Md P i=Ò):∃a c,P.funcs[i]?=Â a/\a.body=Â c/\rn P Mc EO Aa c=Ò:=by unfold Md at h;grind
def Ab:uh Ä (λf=>EO f=Ò):=λf h=>by
 rcases ī.1 h with q|q
 .let⟨a,c,b,d,_⟩:=H_<|G_ q;exact⟨a,c,b,d⟩
 .rw[beq_iff_eq]at q;subst q;exact⟨_,_,Ŭ,U⟩
def alV(h:Ζ.body=Â wX):kR Ä (λg=>Mc g=Ò) (λf=>EO f=Ò) wX:=by
 unfold Ζ at h;cases h;refine .rH (vI EN<|by rw[<-z8];rfl) (.rH (.ug _ _ λo f=> ?_) .vD);simp only[List.mem_toArray,List.mem_cons,List.not_mem_nil,or_false]at f;rcases f with rfl|rfl|rfl|rfl
 .exact Kf EN<|by rw[<-Mb];rfl
 .exact Kf EN<|by rw[<-Mb];rfl
 .exact alN U Tryz.func185 fP fP fP fP (λ_ v g z o=>alS v g z o) alT λy g=>J6 (by simp[ŉ,Call.operands]at g;rcases g with rfl|rfl|rfl<;>rfl)
 .exact Kf EN<|by rw[<-Mb];rfl
def Me:pw Ä (λg=>Mc g=Ò) (λf=>EO f=Ò):=λf h i c g a=>by
 rcases ī.1 h with q|q
 .let⟨j,k,b,d,e⟩:=H_<|G_ q;rw[g]at b;cases b;rw[a]at d;cases d;rw[z8]at e;exact vI EN e
 .rw[beq_iff_eq]at q;subst q;rw[Ŭ]at g;cases g;exact alV a
end Go.Proofs.Y.fv
