import Derived.Test.YtgpphkdoanciiaaGreatDoorWAB
import Derived.Conc.AppendWalk
import Derived.Conc.TokenWalk
set_option linter.all false
set_option maxRecDepth 1000000
set_option maxHeartbeats 8000000
open Go.Value renaming pointer->À,slice->Æ,int->É,oneCell'->Ú,string->á,chan->è,tuple->ñ,func->Ď,agg->ę,bool->Ĭ,cells->Γ
open Option renaming none->Á,some->Â,isSome_iff_exists->Ö,map_eq_some_iff->ĩ,isSome_none->ļ,getD_some->ŏ
open Or renaming inl->Ã,inr->Ç
open Go.Proofs.Tryz renaming prog->Ä,t155->ĉ,f46->Ģ,t9->Ĩ,func47->Į,underlying101->Ŀ,type155->Ň,underlying85->ň,underlying25->ŉ,f52->Ũ,func167->Ź,func63->ż,func48->Ž,func49->ž,func50->ſ,func51->Α,func46->Β,func52->Δ,t101->Υ,f167->Ω,f49->θ,f63->ι,f47->κ
open Go renaming undef->Å,Value->Ð,Goroutine->Ý,World->ß,events_store->â,Addr->ã,Oper->å,getD_set_ne->ç,Frame->é,deafBehind->ď,execOp->Đ,Program->ğ,Code->Ġ,Operand->ĭ,FuncId->ł,Act->Ş,maxLen->ť,size_madeCells->ū,callFunc->Ŭ,yielded->ŵ,TypeId->ź,Item->Ż,runNT->Ε,Obj->Ζ,Trace->Κ,TypeInfo->Λ,Event->Μ,resolve->Ν,Loc->ν
open Nat renaming lt_of_lt_of_le->È,le_trans->Ø,le_refl->Û,add_sub_cancel->ù,zero_le->Ĉ,zero_add->ĕ,mod_lt->ŀ,lt_succ_of_lt->Ń,le_of_lt->Ō,reduceAdd->Ů,sub_zero->Ŷ,sub_self->ŷ
open Go.Obj renaming cells->Ê,chan->ŧ
open Go.Conc.Goes renaming stop->Ë
open Go.Ground renaming phase->Ì,data->Õ,textOnly->Þ,gcOnly->ø,chain->Ŵ
open Bool renaming false->Í,true->Ó,or_eq_true_iff->Ĵ,false_eq_true->Ł
open Go.IntKind renaming i64->Î,u64->ë,u32->ú,wrap_i64->Τ
open Go.Item renaming inRegion->Ï,inBlock->ï,code->ö,inLoop->Ā
open Go.Departure renaming lateStores->Ñ
open Go.Operand renaming tmp->Ò,const->ò,func->Ċ
open Option.some renaming inj->Ô
open Go.World renaming cell?->Ù,frozen?->ð,setCell->ă,alloc->Ŕ
open Go.Region renaming ready->Ü,Mode->Ă,wanted->Ğ
open Go.Code renaming region->à,block->ĥ,cond->ŕ,skip->Ŗ,exit->ŗ,ret->π
open List renaming range->ä,range_succ->Ą,mem_filter->ą,filter_append->Ć,flatMap_cons->ċ,mem_range->ě,setIfInBounds_toArray->Ĝ,getElem?_eq_some_iff->ĝ,length_filter_le->ī,mem_of_getElem?->į,getElem?_of_mem->İ,flatMap_append->ĳ,set_cons_succ->Ľ,set_cons_zero->ľ,size_toArray->ņ,length_cons->Ő,nodup_range->Œ,all_eq_true->œ,length_nil->Ś
open Array renaming getElem?_eq_some_iff->æ,getElem?_eq_getElem->í,getElem?_modify->î,getD_eq_getD_getElem?->Ė,all_toList->ģ
open Go.Op renaming fieldAddr->ê,move->ü,load->Č,call->č,nilCheck->Ĕ,assign->Ĳ,binOp->ń,operands->Ř,extract->ş,indexAddr->Š,makeFunc->Ű,store->ų
open Go.Region.linearise renaming go->ì
open Go.MemAct renaming ofEvent->ó
open Go.Extern.Bytes renaming loadBytes->ô,bytesOf->þ,asByte->ā
open Go.Extern.BytealgIndexByte renaming indexByte->õ
open Go.Callee renaming value->û,builtin->Ŧ
open Go.Fn renaming func->ý
open Go.Loc renaming cell->ÿ
open Go.Frame renaming enter->ć,finish_at->Ī
open Go.Instr renaming build->đ,makeSlice->ŝ
open Go.GoStatus renaming running->Ē,finished->ű
open Go.Conc renaming mem_ofEvents->ē,mem_listed->Ě,seen_none->ı,crowd->ĵ,stepG_region->Ņ,events_call_body->ō,stepG_semrelease->Ŏ,deafBehind_still->ő,listed->ũ,handedOver_app->Ū,stepG_seq->ů,stepG_comm->Ι
open Go.ConcR.Gen renaming x_semrelease_b->ė,x_enable_n->ĸ,x_enable_b->Ĺ,x_enable_x->ĺ,x_enable_f->Ļ,x_semrelease_n->Ţ,x_semrelease_x->ţ,x_semrelease_f->Ť,mayWake_entry->ŭ,nm_add->Θ
open Go.Act renaming eval->Ę,put->ο
open Go.Deferred renaming ofValue->ġ
open Go.CallKind renaming normal->Ĥ,early->Η
open Go.Mark renaming enable->Ħ
open Go.Addr renaming add_lit->ħ
open Eq renaming trans->Ŋ
variable{i n j b k m J j9 j7 j6:Nat}{w u W jX:ß}{v x z jQ:Ð}{g:Ý}{a p:ã}{h c:Int}{e t T:ź}{d q:Array Ð}{P:ğ}{y:Ş}{B:ByteArray}{X:Nat->Prop}{O:Option ã}{l:List Ð}{yQ:Bool}{K H:Ş->ß->Prop}{o:å}{D:Nat->Nat}{E:Array Ý}{L:List Ż}{jJ:List Nat}{qX:List é}{qQ:ĭ}{qJ:Κ}{zX:ν->Prop}{zQ:List Int}{zJ:Λ}{xX:ĭ->Ð}{xQ:Go.Tape}{xJ:Nat×Nat}{wX:Ġ}{wQ:Go.MemOp}{wJ:Array Bool}{vX:List ByteArray}{vQ:Ð->ß->Prop}{vJ:Go.Exit->Ş->ß->Prop}{yX:Ă}{Q:Array å}{f:é}{V:Array Μ}{F:ł}{s:Go.Func}
namespace Go.Proofs.Y.fu
open Go Go.Conc Go.Proofs.Y.Lift Go.RowKit Go.Conc.Lib Go.ConcR.Gen
open Go.Proofs Go.Proofs.YtgpphkdoanciiaaGreatDoor
def HN:å:=⟨Â 13,ê 155 (Ò 5) 3,0, "work.go:57",#[],Á⟩
def EO:å:=⟨Â 14,Č 86<|Ò 13,86, "work.go:57",#[⟨0,Õ⟩],Á⟩
def HO:å:=⟨Â 15,ü<|Ò 1,25, "work.go:57",#[{on:=18,ground:=ø Ñ}],Á⟩
def HP:å:=⟨Â 16,ê 155 (Ò 5) 1,0, "work.go:57",#[{on:=18,ground:=ø Ñ}],Á⟩
def EP:å:=⟨Â 17,Č 3<|Ò 16,3, "work.go:57",#[⟨3,Õ⟩,{on:=18,ground:=ø Ñ}],Á⟩
def HQ:å:=⟨Â 18,ê 155 (Ò 5) 2,0, "work.go:57",#[],Á⟩
def ER:å:=⟨Â 19,Č 86<|Ò 18,86, "work.go:57",#[⟨5,Õ⟩],Á⟩
def ES:å:=⟨Â 20,Ĕ<|Ò 19,0, "work.go:57",#[⟨6,Õ⟩],Á⟩
def EU:å:=⟨Â 21,ê 105 (Ò 20) 1,0, "work.go:57",#[⟨7,Õ⟩],Á⟩
def EV:å:=⟨Â 22,Č 65<|Ò 21,65, "work.go:57",#[⟨8,Õ⟩],Á⟩
def HR:å:=⟨Â 23,ê 155 (Ò 5) 0,0, "work.go:57",#[],Á⟩
def EW:å:=⟨Â 24,Č 148<|Ò 23,148, "work.go:57",#[⟨10,Õ⟩],Á⟩
def Cd:å:=⟨Â 25,č {callee:=û<|Ċ 66,args:=#[Ò 22,Ò 24],argTypes:=#[65,148]},163, "work.go:57",#[⟨9,Õ⟩,⟨11,Õ⟩],Á⟩
def vp:å:=⟨Â 12,ü<|Ò 25,163, "work.go:57",#[⟨12,Õ⟩],Á⟩
def Ce:å:=⟨Â 26,ş (Ò 12) 0,65, "work.go:57",#[⟨13,Õ⟩],Á⟩
def Cf:å:=⟨Â 27,ş (Ò 12) 1,9, "work.go:57",#[⟨13,Õ⟩,{on:=18,ground:=ø Ñ}],Á⟩
def EX:å:=⟨Â 28,Ĕ<|Ò 14,0, "work.go:57",#[⟨1,Õ⟩,⟨0,Ì⟩,⟨1,Ì⟩,{on:=2,ground:=Þ Ñ},{on:=3,ground:=Þ Ñ},{on:=4,ground:=Þ Ñ},⟨5,Ì⟩,⟨6,Ì⟩,⟨7,Ì⟩,⟨8,Ì⟩,⟨9,Ì⟩,⟨10,Ì⟩,⟨11,Ì⟩,⟨12,Ì⟩,⟨13,Ì⟩,⟨14,Ì⟩,{on:=15,ground:=Þ Ñ}],Á⟩
def EY:å:=⟨Â 29,ê 105 (Ò 28) 1,0, "work.go:57",#[⟨16,Õ⟩,⟨0,Ì⟩,⟨1,Ì⟩,{on:=2,ground:=Þ Ñ},{on:=3,ground:=Þ Ñ},{on:=4,ground:=Þ Ñ},⟨5,Ì⟩,⟨6,Ì⟩,⟨7,Ì⟩,⟨8,Ì⟩,⟨9,Ì⟩,⟨10,Ì⟩,⟨11,Ì⟩,⟨12,Ì⟩,⟨13,Ì⟩,⟨14,Ì⟩,{on:=15,ground:=Þ Ñ}],Á⟩
def Cg:å:=⟨Á,ų 65 (Ò 29)<|Ò 26,0, "work.go:57",#[⟨17,Õ⟩,⟨14,Õ⟩,⟨12,Ŵ⟩,⟨0,Ì⟩,⟨1,Ì⟩,{on:=2,ground:=Þ Ñ},{on:=3,ground:=Þ Ñ},{on:=4,ground:=Þ Ñ},⟨5,Ì⟩,⟨6,Ì⟩,⟨7,Ì⟩,⟨8,Ì⟩,⟨9,Ì⟩,⟨10,Ì⟩,⟨11,Ì⟩,⟨12,Ì⟩,⟨13,Ì⟩,⟨14,Ì⟩,{on:=15,ground:=Þ Ñ}],Á⟩
def Ch:å:=⟨Â 30,Š 25 (Ò 15)<|Ò 17,0, "work.go:57",#[⟨2,Õ⟩,⟨4,Õ⟩,⟨0,Ì⟩,⟨1,Ì⟩,⟨2,Ì⟩,⟨3,Ì⟩,⟨4,Ì⟩,⟨5,Ì⟩,⟨6,Ì⟩,⟨7,Ì⟩,⟨8,Ì⟩,⟨9,Ì⟩,⟨10,Ì⟩,⟨11,Ì⟩,⟨12,Ì⟩,⟨13,Ì⟩,⟨14,Ì⟩,⟨15,Ì⟩,⟨16,Ì⟩,⟨17,Ì⟩,⟨18,Ì⟩],Á⟩
def Ci:å:=⟨Á,ų 9 (Ò 30)<|Ò 27,0, "work.go:57",#[⟨19,Õ⟩,⟨15,Õ⟩,⟨18,Ŵ⟩,⟨0,Ì⟩,⟨1,Ì⟩,⟨2,Ì⟩,⟨3,Ì⟩,⟨4,Ì⟩,⟨5,Ì⟩,⟨6,Ì⟩,⟨7,Ì⟩,⟨8,Ì⟩,⟨9,Ì⟩,⟨10,Ì⟩,⟨11,Ì⟩,⟨12,Ì⟩,⟨13,Ì⟩,⟨14,Ì⟩,⟨15,Ì⟩,⟨16,Ì⟩,⟨17,Ì⟩,⟨18,Ì⟩],Á⟩
def yP:Array å:=#[HN,EO,HO,HP,EP,HQ,ER,ES,EU,EV,HR,EW,Cd,vp,Ce,Cf,EX,EY,Cg,Ch,Ci]
def mP(tb a b c N d:Nat)(e f:Ð)(x:(Option Addr×Nat×Nat)×ByteArray):Nat->Ð
 |0=>À<|Â ⟨tb,3,Á⟩
 |1=>À<|Â ⟨b,0,Á⟩
 |2=>Æ (Â ⟨c,0,Á⟩) N N
 |3=>À<|Â ⟨tb,1,Á⟩
 |4=>É Î d
 |5=>À<|Â ⟨tb,2,Á⟩
 |6=>À<|Â ⟨a,0,Á⟩
 |7=>À<|Â ⟨a,0,Á⟩
 |8=>À<|Â ⟨a,2,Á⟩
 |9=>f
 |10=>À<|Â ⟨tb,0,Á⟩
 |11=>e
 |12=>ñ #[Æ x.1.1 x.1.2.1 x.1.2.2,á x.2]
 |13=>ñ #[Æ x.1.1 x.1.2.1 x.1.2.2,á x.2]
 |14=>Æ x.1.1 x.1.2.1 x.1.2.2
 |15=>á x.2
 |16=>À<|Â ⟨b,0,Á⟩
 |17=>À<|Â ⟨b,2,Á⟩
 |19=>À<|Â ⟨c,d,Á⟩
 |_=>Å
structure EZ(ik:fc)(ga gb an pl:Nat)(sM:Ð)(Q:Ð->ByteArray->fc->Prop)(listed:Array Bool)(x:(Option Addr×Nat×Nat)×ByteArray)(l:fc):Prop where
 r:iC (λa=>a=⟨gb,2,Á⟩\/a=⟨an,pl,Á⟩) ik l
 vq:listed.getD 12 Í=Ó->∃y,Q (Æ x.1.1 x.1.2.1 x.1.2.2) x.2 y/\(∀b,y.M b->l.M b/\l.w.heap[b]?=y.w.heap[b]?)
 I:listed.getD 18 Í=Ó->l.w.cell? ⟨gb,2,Á⟩=Â (Æ x.1.1 x.1.2.1 x.1.2.2)
 N:listed.getD 20 Í=Ó->l.w.cell? ⟨an,pl,Á⟩=Â (á x.2)
def EZ.C{d l:fc}{Q:Ð->ByteArray->fc->Prop}{listed:Array Bool}{x:(Option Addr×Nat×Nat)×ByteArray}(h:EZ d n j b k v Q listed x l)(o:i≠12)(p:i≠18)(s:i≠20)(e:d.r ⟨j,2,Á⟩/\d.r ⟨b,k,Á⟩)(m:ß)(r:fI l l.w m):EZ d n j b k v Q (listed.setIfInBounds i Ó) x {l with w:=m}:=by
 have t:∀a,(a=⟨j,2,Á⟩\/a=⟨b,k,Á⟩)->d.r a:=λa u=>by rcases u with rfl|rfl;exact e.1;exact e.2
 refine⟨h.r.N t r,λq=> ?_,λq=> ?_,λq=> ?_⟩
 .rw[ç Í o]at q;let⟨y,z,f⟩:=h.vq q;exact⟨y,z,λc g=>⟨(f c g).1,(r.I c (f c g).1).trans (f c g).2⟩⟩
 .rw[ç Í p]at q;exact(r.N _<|by rw[h.r.C];exact Ã e.1).trans<|h.I q
 .rw[ç Í s]at q;exact(r.N _<|by rw[h.r.C];exact Ã e.2).trans<|h.N q
section
variable{J:Jd}{ik:fc}{ga gb an pl:Nat}{sM:Ð}{Q:Ð->ByteArray->fc->Prop}
def air(S:gw ik)(hq:¬ik.q)(ht:d.size=37)(Cj:d[1]?=Â (Æ (Â ⟨an,0,Á⟩) i i))(QW:d[5]?=Â (À<|Â ⟨n,0,Á⟩))(hO:ik.O n) (X:ik.w.cell? ⟨n,0,Á⟩=Â v) (Y:ik.w.cell? ⟨n,1,Á⟩=Â (É Î pl)) (c2:ik.w.cell? ⟨n,2,Á⟩=Â (À<|Â ⟨ga,0,Á⟩)) (c3:ik.w.cell? ⟨n,3,Á⟩=Â (À<|Â ⟨gb,0,Á⟩)) (uh:ik.N ⟨ga,2,Á⟩) (pL:ik.w.cell? ⟨ga,2,Á⟩=Â sM) (F:ik.r ⟨gb,2,Á⟩) (H:ik.r ⟨an,pl,Á⟩) (e1:(ik.w.cell? ⟨gb,2,Á⟩).isSome=Ó) (e2:(ik.w.cell? ⟨an,pl,Á⟩).isSome=Ó) (z1:ik.w.frozen? ⟨gb,2,Á⟩=Í) (z2:ik.w.frozen? ⟨an,pl,Á⟩=Í) (rz:pl<i) (hN:i<1000000) (lB:(⟨gb,2,Á⟩:ã)≠⟨an,pl,Á⟩) (tV:∀l,iC (λa=>a=⟨gb,2,Á⟩\/a=⟨an,pl,Á⟩) ik l->∀I lO,fh Ä Í (λl' g'=>l'.d=l.d/\∃p g c str,g'=G (I.finish<|ñ #[Æ p g c,á str]) lO/\Q (Æ p g c) str l') (lZ l)<|G (ć Ä 66 #[sM,v] Ĥ)<|I::lO) (md:Ă) (listed:Array Bool) (a:Ş) (l:fc) (k:Nat) (rest:List Nat) (hI:II yP d (mP n ga gb an i pl v sM) (EZ ik ga gb an pl sM Q) listed a l) (D:k∈Ü md yP listed): fh Ä Í (λl' g'=>∃u,g'=G ((base 49).at u<|Ï yP rest::L) qX/\II yP d (mP n ga gb an i pl v sM) (EZ ik ga gb an pl sM Q) (listed.setIfInBounds k Ó) u l') l (G ((base 49).at a<|Ï yP (k::rest)::L) qX):=by
 let⟨x,s,B⟩:=hI;have K:ug yP d.size=Ó:=by rw[ht];decide
 have V:=QS D;have gJ:=EN D;have M:=B.r.fx;have N:¬l.q:=by rwa[B.r.q]
 have W:∀y:ã,(y=⟨gb,2,Á⟩\/y=⟨an,pl,Á⟩)->ik.r y:=λy ha=>by rcases ha with rfl|rfl;exact F;exact H
 have oL:a.tmps[1]?=Â (Æ (Â ⟨an,0,Á⟩) i i):=(s.C A).trans Cj;have ui:a.tmps[5]?=Â (À<|Â ⟨n,0,Á⟩):=(s.C A).trans QW;have I:∀j m,ik.w.cell? ⟨n,j,Á⟩=Â m->gX l ⟨n,j,Á⟩/\l.w.cell? ⟨n,j,Á⟩=Â m:=λj m h=>⟨Ã<|Ã<|B.r.O n hO,by rwa[gK<|B.r.r n<|Ã hO]⟩;have QX:¬((⟨ga,2,Á⟩:ã)=⟨gb,2,Á⟩\/(⟨ga,2,Á⟩:ã)=⟨an,pl,Á⟩):=λq=>by
  rcases q with q|q
  .exact S.Y _ F<|q▸uh
  .exact S.Y _ H<|q▸uh
 have HS:gX l ⟨ga,2,Á⟩/\l.w.cell? ⟨ga,2,Á⟩=Â sM:=⟨Ç (Ç<|by rwa[B.r.c]),by rwa[B.r.e _ (Ç uh) QX]⟩;have QY:(pl:Int)<(i:Int):=Z
 have jr:yP.size=21:=A
 rw[jr]at gJ;match k,gJ with
 |0,_=>
  refine ij (o:=HN) K s U U D (by k_ne) M N (λt r=> ?_) (λt r e E=> ?_)<|B.C A A A ⟨F,H⟩
  .simp only[mP,HN];go_simp
  .simp[go_sem,HN,ui]at E
 |1,_=>
  have u:a.tmps[13]?=Â (À<|Â ⟨n,3,Á⟩):=s.r 0 HN 13 U (ie (o:=EO) D U U) U;refine ij (o:=EO) K s U U D (by k_ne) M N (λt r=> ?_) (λt r e E=> ?_)<|B.C A A A ⟨F,H⟩
  .have J:t.cell? ⟨n,3,Á⟩=Â (À<|Â ⟨gb,0,Á⟩):=((I 3 _ c3).1.r r).trans (I 3 _ c3).2;simp only[mP,EO];go_simp
  .have J:t.cell? ⟨n,3,Á⟩=Â (À<|Â ⟨gb,0,Á⟩):=((I 3 _ c3).1.r r).trans (I 3 _ c3).2;have b:e=⟨ÿ ⟨n,3,Á⟩,Í,Í⟩:=by simp[go_sem,EO,J,u]at E;exact E
   subst b;exact(I 3 _ c3).1.C
 |2,_=>
  refine ij (o:=HO) K s U U D (by k_ne) M N (λt r=> ?_) (λt r e E=> ?_)<|B.C A A A ⟨F,H⟩
  .simp only[mP,HO];go_simp
  .simp[go_sem,HO,oL]at E
 |3,_=>
  refine ij (o:=HP) K s U U D (by k_ne) M N (λt r=> ?_) (λt r e E=> ?_)<|B.C A A A ⟨F,H⟩
  .simp only[mP,HP];go_simp
  .simp[go_sem,HP,ui]at E
 |4,_=>
  have u:a.tmps[16]?=Â (À<|Â ⟨n,1,Á⟩):=s.r 3 HP 16 U (ie (o:=EP) D U U) U;refine ij (o:=EP) K s U U D (by k_ne) M N (λt r=> ?_) (λt r e E=> ?_)<|B.C A A A ⟨F,H⟩
  .have J:t.cell? ⟨n,1,Á⟩=Â (É Î pl):=((I 1 _ Y).1.r r).trans (I 1 _ Y).2;simp only[mP,EP];go_simp
  .have J:t.cell? ⟨n,1,Á⟩=Â (É Î pl):=((I 1 _ Y).1.r r).trans (I 1 _ Y).2;have b:e=⟨ÿ ⟨n,1,Á⟩,Í,Í⟩:=by simp[go_sem,EP,J,u]at E;exact E
   subst b;exact(I 1 _ Y).1.C
 |5,_=>
  refine ij (o:=HQ) K s U U D (by k_ne) M N (λt r=> ?_) (λt r e E=> ?_)<|B.C A A A ⟨F,H⟩
  .simp only[mP,HQ];go_simp
  .simp[go_sem,HQ,ui]at E
 |6,_=>
  have u:a.tmps[18]?=Â (À<|Â ⟨n,2,Á⟩):=s.r 5 HQ 18 U (ie (o:=ER) D U U) U;refine ij (o:=ER) K s U U D (by k_ne) M N (λt r=> ?_) (λt r e E=> ?_)<|B.C A A A ⟨F,H⟩
  .have J:t.cell? ⟨n,2,Á⟩=Â (À<|Â ⟨ga,0,Á⟩):=((I 2 _ c2).1.r r).trans (I 2 _ c2).2;simp only[mP,ER];go_simp
  .have J:t.cell? ⟨n,2,Á⟩=Â (À<|Â ⟨ga,0,Á⟩):=((I 2 _ c2).1.r r).trans (I 2 _ c2).2;have b:e=⟨ÿ ⟨n,2,Á⟩,Í,Í⟩:=by simp[go_sem,ER,J,u]at E;exact E
   subst b;exact(I 2 _ c2).1.C
 |7,_=>
  have u:a.tmps[19]?=Â (À<|Â ⟨ga,0,Á⟩):=s.r 6 ER 19 U (ie (o:=ES) D U U) U;refine ij (o:=ES) K s U U D (by k_ne) M N (λt r=> ?_) (λt r e E=> ?_)<|B.C A A A ⟨F,H⟩
  .simp only[mP,ES];go_simp
  .simp[go_sem,ES,u]at E
 |8,_=>
  have u:a.tmps[20]?=Â (À<|Â ⟨ga,0,Á⟩):=s.r 7 ES 20 U (ie (o:=EU) D U U) U;refine ij (o:=EU) K s U U D (by k_ne) M N (λt r=> ?_) (λt r e E=> ?_)<|B.C A A A ⟨F,H⟩
  .simp only[mP,EU];go_simp
  .simp[go_sem,EU,u]at E
 |9,_=>
  have u:a.tmps[21]?=Â (À<|Â ⟨ga,2,Á⟩):=s.r 8 EU 21 U (ie (o:=EV) D U U) U;refine ij (o:=EV) K s U U D (by k_ne) M N (λt r=> ?_) (λt r e E=> ?_)<|B.C A A A ⟨F,H⟩
  .have J:t.cell? ⟨ga,2,Á⟩=Â (sM):=(HS.1.r r).trans HS.2;simp only[mP,EV];go_simp
  .have J:t.cell? ⟨ga,2,Á⟩=Â (sM):=(HS.1.r r).trans HS.2;have b:e=⟨ÿ ⟨ga,2,Á⟩,Í,Í⟩:=by simp[go_sem,EV,J,u]at E;exact E
   subst b;exact HS.1.C
 |10,_=>
  refine ij (o:=HR) K s U U D (by k_ne) M N (λt r=> ?_) (λt r e E=> ?_)<|B.C A A A ⟨F,H⟩
  .simp only[mP,HR];go_simp
  .simp[go_sem,HR,ui]at E
 |11,_=>
  have u:a.tmps[23]?=Â (À<|Â ⟨n,0,Á⟩):=s.r 10 HR 23 U (ie (o:=EW) D U U) U;refine ij (o:=EW) K s U U D (by k_ne) M N (λt r=> ?_) (λt r e E=> ?_)<|B.C A A A ⟨F,H⟩
  .have J:t.cell? ⟨n,0,Á⟩=Â (v):=((I 0 _ X).1.r r).trans (I 0 _ X).2;simp only[mP,EW];go_simp
  .have J:t.cell? ⟨n,0,Á⟩=Â (v):=((I 0 _ X).1.r r).trans (I 0 _ X).2;have b:e=⟨ÿ ⟨n,0,Á⟩,Í,Í⟩:=by simp[go_sem,EW,J,u]at E;exact E
   subst b;exact(I 0 _ X).1.C
 |12,_=>
  have HT:a.tmps[22]?=Â (sM):=s.r 9 EV 22 U (ie (o:=Cd) D U U) U;have Ly:a.tmps[24]?=Â (v):=s.r 11 EW 24 U (ie (o:=Cd) D U U) U;refine YD (o:=Cd) K s U U D (by k_ne) M (f:=66) (args:=#[sM,v]) (λw=>by simp only[Cd];go_simp) (λw=>ō (o:=Cd) U Tryz.func66 U U #[]) λt r=> ?_;have T:=B.r.N W r;refine((tV _ T _ _).lZ<|T.G S).fM ?_;rintro l' g' ⟨y,⟨hy0,p,g,c,str,rfl,hQ⟩,rfl,hA,YG,ais,ait⟩;refine⟨((p,g,c),str),U,⟨T.QU W hA hy0,λ_=>⟨y,hQ,λb P=>⟨?_,U⟩⟩,λq=> ?_,λq=> ?_⟩,λj u=> ?_⟩
  .rcases P with q|q
   .exact Ã<|Ã q
   .rw[YG]at q;exact q.elim (λz=>Ã<|Ç z) Ç
  .rw[ç Í A]at q;exact absurd (s.I (o:=Cg) U q U)<|wV V
  .rw[ç Í A]at q;exact absurd (s.I (o:=Ci) U q U)<|wV V
  .match j,u with
   |12,u=>exact absurd u<|wV V
   |13,u=>exact absurd (s.I (o:=vp) U u U)<|wV V
   |14,u=>exact absurd (s.I (o:=vp) U (s.I (j:=13) (o:=Ce) U u U) U)<|wV V
   |15,u=>exact absurd (s.I (o:=vp) U (s.I (j:=13) (o:=Cf) U u U) U)<|wV V
   |0,_|1,_|2,_|3,_|4,_|5,_|6,_|7,_|8,_|9,_|10,_|11,_|16,_|17,_|18,_|19,_|20,_|g+21,_=>rfl
 |13,_=>
  have u:a.tmps[25]?=Â (ñ #[Æ x.1.1 x.1.2.1 x.1.2.2,á x.2]):=s.r 12 Cd 25 U (ie (o:=vp) D U U) U;refine ij (o:=vp) K s U U D (by k_ne) M N (λt r=> ?_) (λt r e E=> ?_)<|B.C A A A ⟨F,H⟩
  .simp only[mP,vp];go_simp
  .simp[go_sem,vp,u]at E
 |14,_=>
  have u:a.tmps[12]?=Â (ñ #[Æ x.1.1 x.1.2.1 x.1.2.2,á x.2]):=s.r 13 vp 12 U (ie (o:=Ce) D U U) U;refine ij (o:=Ce) K s U U D (by k_ne) M N (λt r=> ?_) (λt r e E=> ?_)<|B.C A A A ⟨F,H⟩
  .simp only[mP,Ce];go_simp
  .simp[go_sem,Ce,u]at E
 |15,_=>
  have u:a.tmps[12]?=Â (ñ #[Æ x.1.1 x.1.2.1 x.1.2.2,á x.2]):=s.r 13 vp 12 U (ie (o:=Cf) D U U) U;refine ij (o:=Cf) K s U U D (by k_ne) M N (λt r=> ?_) (λt r e E=> ?_)<|B.C A A A ⟨F,H⟩
  .simp only[mP,Cf];go_simp
  .simp[go_sem,Cf,u]at E
 |16,_=>
  have u:a.tmps[14]?=Â (À<|Â ⟨gb,0,Á⟩):=s.r 1 EO 14 U (ie (o:=EX) D U U) U;refine ij (o:=EX) K s U U D (by k_ne) M N (λt r=> ?_) (λt r e E=> ?_)<|B.C A A A ⟨F,H⟩
  .simp only[mP,EX];go_simp
  .simp[go_sem,EX,u]at E
 |17,_=>
  have u:a.tmps[28]?=Â (À<|Â ⟨gb,0,Á⟩):=s.r 16 EX 28 U (ie (o:=EY) D U U) U;refine ij (o:=EY) K s U U D (by k_ne) M N (λt r=> ?_) (λt r e E=> ?_)<|B.C A A A ⟨F,H⟩
  .simp only[mP,EY];go_simp
  .simp[go_sem,EY,u]at E
 |18,_=>
  have h29:a.tmps[29]?=Â (À<|Â ⟨gb,2,Á⟩):=s.r 17 EY 29 U (ie (o:=Cg) D U U) U;have h26:a.tmps[26]?=Â (Æ x.1.1 x.1.2.1 x.1.2.2):=s.r 14 Ce 26 U (ie (o:=Cg) D U U) U;have T:(l.w.cell? ⟨gb,2,Á⟩).isSome=Ó:=B.r.g _ (Ã U) e1;have Ck:l.w.frozen? ⟨gb,2,Á⟩=Í:=(B.r.S _<|Ã F).trans z1;have lE:p7 l ⟨gb,2,Á⟩:=Ç (by rwa[B.r.I]);refine QV (o:=Cg) (y:=⟨gb,2,Á⟩) (v:=Æ x.1.1 x.1.2.1 x.1.2.2) K s U U U D (by k_ne) M N U lE T Ck (λw J hz=> ?_) (λw J hz=> ?_) λt r=> ?_
  .let⟨u,hu⟩:=Ö.1 J;simp only[Cg];go_simp
  .let⟨u,hu⟩:=Ö.1 J;simp[go_sem,Cg,h29,h26,â _ _ _ _ _ _ (show Ú (Æ x.1.1 x.1.2.1 x.1.2.2)=Ó from rfl),hu,hz]
  .have hA:=B.r.qz S W (x:=⟨gb,2,Á⟩) (v:=Æ x.1.1 x.1.2.1 x.1.2.2) (Ã U) U T;refine⟨hA.N W ⟨r.r,r.I,r.N,r.Y,r.S⟩,λq=> ?_,λq=> ?_,λq=> ?_⟩
   .rw[ç Í A]at q;let⟨y,y1,z⟩:=B.vq q;refine⟨y,y1,λb P=>⟨(z b P).1,?_⟩⟩;have QZ:b≠(⟨gb,2,Á⟩:ã).block:=λe=>(B.r.G S).N ⟨gb,2,Á⟩ (by rw[B.r.C];exact Ã F)<|e▸(z b P).1;exact(r.I b (z b P).1).trans<|(lk QZ).trans (z b P).2
   .exact(r.N _ (by rw[B.r.C];first|exact Ã F|exact Ã H)).trans<|tM (Ö.1 T).choose_spec
   .rw[ç Í A]at q;exact(r.N ⟨an,pl,Á⟩<|by rw[B.r.C];exact Ã H).trans<|(Cc U λe=>lB e.symm).trans<|B.N q
 |19,_=>
  have Q0:a.tmps[15]?=Â (Æ (Â ⟨an,0,Á⟩) i i):=s.r 2 HO 15 U (ie (o:=Ch) D U U) U;have Q5:a.tmps[17]?=Â (É Î pl):=s.r 4 EP 17 U (ie (o:=Ch) D U U) U;refine ij (o:=Ch) K s U U D (by k_ne) M N (λt r=> ?_) (λt r e E=> ?_)<|B.C A A A ⟨F,H⟩
  .simp only[mP,Ch];go_simp
  .simp[go_sem,Ch,rz,QY,Q0,Q5]at E
 |20,_=>
  have E:a.tmps[30]?=Â (À<|Â ⟨an,pl,Á⟩):=s.r 19 Ch 30 U (ie (o:=Ci) D U U) U;have h27:a.tmps[27]?=Â (á x.2):=s.r 15 Cf 27 U (ie (o:=Ci) D U U) U;have T:(l.w.cell? ⟨an,pl,Á⟩).isSome=Ó:=B.r.g _ (Ç U) e2;have Ck:l.w.frozen? ⟨an,pl,Á⟩=Í:=(B.r.S _<|Ã H).trans z2;have lE:p7 l ⟨an,pl,Á⟩:=Ç (by rwa[B.r.I]);refine QV (o:=Ci) (y:=⟨an,pl,Á⟩) (v:=á x.2) K s U U U D (by k_ne) M N U lE T Ck (λw J hz=> ?_) (λw J hz=> ?_) λt r=> ?_
  .let⟨u,hu⟩:=Ö.1 J;simp only[Ci];go_simp
  .let⟨u,hu⟩:=Ö.1 J;simp[go_sem,Ci,E,h27,â _ _ _ _ _ _ (show Ú (á x.2)=Ó from rfl),hu,hz]
  .have hA:=B.r.qz S W (x:=⟨an,pl,Á⟩) (v:=á x.2) (Ç U) U T;refine⟨hA.N W ⟨r.r,r.I,r.N,r.Y,r.S⟩,λq=> ?_,λq=> ?_,λq=> ?_⟩
   .rw[ç Í A]at q;let⟨y,y1,z⟩:=B.vq q;refine⟨y,y1,λb P=>⟨(z b P).1,?_⟩⟩;have QZ:b≠(⟨an,pl,Á⟩:ã).block:=λe=>(B.r.G S).N ⟨an,pl,Á⟩ (by rw[B.r.C];exact Ã H)<|e▸(z b P).1;exact(r.I b (z b P).1).trans<|(lk QZ).trans (z b P).2
   .rw[ç Í A]at q;exact(r.N ⟨gb,2,Á⟩<|by rw[B.r.C];exact Ã F).trans<|(Cc U<|lB).trans<|B.I q
   .exact(r.N _ (by rw[B.r.C];first|exact Ã F|exact Ã H)).trans<|tM (Ö.1 T).choose_spec
 |g+21,h=>exact absurd h Z
end
section
variable{E:ã->Prop}{l c g:fc}
def iC.ff(h:iC E l c)(k:iC E c g):iC E l g:=by have f:=h.C;exact⟨λj e=>k.O j<|h.O j e,λj e=>(k.h j e).elim (h.h j) λq=>Ç<|Ø h.f q,k.Y.trans h.Y,k.I.trans h.I,k.c.trans h.c,k.K.trans h.K,k.q.trans h.q,k.d.trans h.d,k.fx,Ø h.f k.f,λj e=>(k.r j<|h.M e).trans<|h.r j e,λa b i=>(k.e a (by rwa[f]) i).trans<|h.e a b i,λa b=>(k.S a<|by rwa[f]).trans<|h.S a b,λa b q=>k.b a (by rwa[h.K])<|h.b a b q,λa b q=>k.g a b<|h.g a b q⟩
end
def gI(l:fc)(w₁:ß)(o:Ζ):fc:={l with O:=λb=>l.O b\/b=w₁.heap.size,w:=w₁.alloc o}
theorem yR{o:Ζ}(h:j<w.heap.size):(w.alloc o).heap[j]?=w.heap[j]?:=by unfold Ŕ;grind
def mQ{o:Ζ}:(w.alloc o).heap[w.heap.size]?=Â o:=by unfold Ŕ;simp
def Lz{o:Ζ}:(w.alloc o).heap.size=w.heap.size+1:=by unfold Ŕ;simp
section
variable{J:Jd}{l:fc}{a:Ş}{k:List Ż}{cs:List é}{ob:Ζ}{E:ã->Prop}
def YH(b:∀j,l.O j->j<w.heap.size)(c:¬l.q):mo l (gI l w ob) w (w.alloc ob) #[]:= ⟨by rw[Lz];omega,λj h=>h.imp id λe=>by omega,λj h=>by rw[Lz];exact h.elim (λq=>Ń<|b j q) λe=>by omega,U,U,U,U,λj d _ _=>yR d,λx a _ _=>gK<|yR a,λx a _=>wF<|yR a,U,U,U,λe f=>by simp at f,by simp[ď,gI],U,λq=>absurd q c,U⟩
def HU(c:Q[i]?=Â o)(d:Ğ o (ŵ Q a.tmps)=Ó)(e:f.kind≠Η)(g:ki l)(h:¬l.q) (j:∀w,(Đ a.eval o).run P w=.ok (.value<|À<|Â ⟨w.heap.size,0,Á⟩) (w.alloc ob)) (m:∀w,(Đ a.eval o).events P w #[]=#[]) (n:∀b,fI l l.w b->fh P yQ J (gI l b ob) (G (f.at (a.put o.dst<|À<|Â ⟨b.heap.size,0,Á⟩)<|Ï Q jJ::k) cs)):fh P yQ J l (G (f.at a<|Ï Q (i::jJ)::k) cs):=by
 refine vo c d e λb r=> ?_;rw[j b];refine⟨_,?_,n b r⟩;have:listed P f.fn a o b=#[]:=by unfold listed;rw[m b,ı]
 rw[this];exact YH (mA g r) h
def LA(s:gw l)(d:∀a,E a->l.r a)(r:fI l l.w u):iC E l (gI l u ob):=by
 have c:=r.r;refine⟨λj h=>Ã h,λj h=>h.imp id λe=>by omega,U,U,U,U,U,U,λj h=> ?_,?_,λj f=>(yR<|È (s.fx j f) c).trans<|r.I j f,λx b _=>(gK<|yR<|È (s.I x b) c).trans<|r.N x b,λx b=>(wG<|yR<|È (s.I x b) c).trans<|r.Y x b,λx b q=> ?_,λx b q=> ?_⟩
 .show j<(u.alloc ob).heap.size;rw[Lz];exact h.elim (λq=>Ń<|È (s.fx j<|Ã q) c) λe=>by omega
 .show l.w.heap.size<=(u.alloc ob).heap.size;rw[Lz];omega
 .show((u.alloc ob).cell? x).isSome=Ó;rw[gK<|yR<|È (s.S x b).2.1 c];exact r.S x b q
 .show((u.alloc ob).cell? x).isSome=Ó;rwa[gK<|yR<|È (s.I x<|Ã<|d x b) c,r.N x<|Ã<|d x b]
def LB{w':ß}{p:Nat}(g:∀j,l.O j->j<w.heap.size)(i:¬l.q)(b:l.O p)(k:w'.heap.size=w.heap.size)(c:∀j,j≠p->w'.heap[j]?=w.heap[j]?)(d:w'.os=w.os/\w'.output=w.output/\w'.tape=w.tape)(f:∀e∈V,wU l e):mo l {l with w:=w'} w w' V:=by refine⟨Z,λ_ h=>Ã h,λj h=>by rw[k];exact g j h,U,U,U,U,λj _ a _=>c j λe=>a<|e▸b,λx _ a _=>gK (c _ λe=>a<|e▸b),λx _ a=>wF (c _ λe=>a<|e▸b),d.1,d.2.1,d.2.2,λe h=>(f e h).1,(Lu f _).symm,U,λq=>absurd q i,U⟩
end
def iR(w:ß)(p:Nat)(v0 v1 v2 v3:Ð):ß:=(((w.setCell ⟨p,0,Á⟩ v0).setCell ⟨p,1,Á⟩ v1).setCell ⟨p,2,Á⟩ v2).setCell ⟨p,3,Á⟩ v3
section
variable{p:Nat}{v0 v1 v2 v3:Ð}
def wW:(iR w p v0 v1 v2 v3).heap.size=w.heap.size:=by unfold iR;rw[jU,jU,jU,jU]
def yS(h:j≠p):(iR w p v0 v1 v2 v3).heap[j]?=w.heap[j]?:=by unfold iR;rw[lk h,lk h,lk h,lk h]
def Q6(c:w.cell? ⟨p,0,Á⟩=Â v)(d:w.cell? ⟨p,1,Á⟩=Â x)(e:w.cell? ⟨p,2,Á⟩=Â z)(f:w.cell? ⟨p,3,Á⟩=Â jQ): (iR w p v0 v1 v2 v3).cell? ⟨p,0,Á⟩=Â v0/\(iR w p v0 v1 v2 v3).cell? ⟨p,1,Á⟩=Â v1/\(iR w p v0 v1 v2 v3).cell? ⟨p,2,Á⟩=Â v2/\(iR w p v0 v1 v2 v3).cell? ⟨p,3,Á⟩=Â v3:=by
 have b:∀(w:ß) (i j:Nat) (a:Ð),i≠j->(w.setCell ⟨p,i,Á⟩ a).cell? ⟨p,j,Á⟩=w.cell? ⟨p,j,Á⟩:=λw i j a h=>yq<|Ç h;unfold iR;refine⟨?_,?_,?_,(tM<|(b _ 2 3 _ A).trans<|(b _ 1 3 _ A).trans<|(b _ 0 3 _ A).trans f)⟩
 .rw[b _ 3 0 _ A,b _ 2 0 _ A,b _ 1 0 _ A];exact tM c
 .rw[b _ 3 1 _ A,b _ 2 1 _ A];exact tM<|(b _ 0 1 _ A).trans d
 .rw[b _ 3 2 _ A];exact tM<|(b _ 1 2 _ A).trans<|(b _ 0 2 _ A).trans e
def Q7{E:ã->Prop}{l e:fc}(s:gw l)(f:∀a,E a->l.r a)(h:iC E l e){w':ß}(r:fI e e.w u)(k:l.w.heap.size<=p)(g:w'.heap.size=u.heap.size)(i:∀j,j≠p->w'.heap[j]?=u.heap[j]?):iC E l {e with w:=w'}:=by
 have b:=h.N f r;have c:∀{j:Nat},j<l.w.heap.size->w'.heap[j]?=u.heap[j]?:=λ{j} q=>i j Z;refine⟨b.O,b.h,b.Y,b.I,b.c,b.K,b.q,b.d,λj q=> ?_,?_,λj q=>(c<|s.fx j q).trans<|b.r j q,λa q n=>(gK<|c<|s.I a q).trans<|b.e a q n,λa q=>(wG<|c<|s.I a q).trans<|b.S a q,λa q z=> ?_,λa q z=> ?_⟩
 .show j<w'.heap.size;rw[g];exact b.fx j q
 .show l.w.heap.size<=w'.heap.size;rw[g];exact b.f
 .show(w'.cell? a).isSome=Ó;rw[gK<|c (s.S a q).2.1];exact b.b a q z
 .show(w'.cell? a).isSome=Ó;rw[gK<|c<|s.I a<|Ã<|f a q];exact b.g a q z
end
def rF(t:Array Ð)(h:t.size=n):∃u:Nat->Ð,t=((ä n).map u).toArray:=by subst h;refine⟨λi=>t.getD i Å,Array.ext fj λi a _=> ?_⟩;simp_all
def Q8(t:Array Ð)(h:t.size=37):∃a b c d e f g i j k l m n o p q r s u v w x y z B C D E F G H I J K L M N:Ð,t=#[a,b,c,d,e,f,g,i,j,k,l,m,n,o,p,q,r,s,u,v,w,x,y,z,B,C,D,E,F,G,H,I,J,K,L,M,N]:=by obtain⟨_,rfl⟩:=rF t h;exact⟨_,_,_,_,_,_,_,_,_,_,_,_,_,_,_,_,_,_,_,_,_,_,_,_,_,_,_,_,_,_,_,_,_,_,_,_,_,U⟩
end Go.Proofs.Y.fu
namespace Go.Proofs.Y.fu
open Go Go.Conc Go.Proofs.Y.Lift Go.RowKit Go.Conc.Lib Go.ConcR.Gen
section
variable{Ψ:ß->Prop}{L:WgLink}{l:fc}{e:Jd}{k:List Ż}
def aiu(H:WgLib P L)(h:lY Ψ l b)(hT:∀a,SW Ψ l b a->fh P Í e {l with d:=0,w:=a} (G (f.at (y.put ((Q[i]?).bind (·.dst))<|ñ #[])<|Ï Q jJ::k) qX)): ∀(r:Nat) (c:Int) (j m o p q s t u v x z B C D E F I J K M N O S T V W X Y p9 qa pR o6 o7 oJ oK pS pT pU pV pW pX pY pZ p6 nQ nR rE A1 A2 A3 A4 A5 A6 A7 A8 A9 Ba Bb Bc Bd Be Bf Bg Bh Bj Bl Bm Bn Bo Bp Bq Br Bs Bt Bu Bv Bw Bx By Bz BA BB BD BF BG BH BJ BK BL BM BN BO BP BQ BR BS BT BU BV BW BX BY BZ B1 B2 B3 B4 B5 B6 B7 B8 B9 Ca Cb:Ð) (a:ß),SW Ψ l b a->(c<=(r:Int)+1/\(r:Int)+1<=c)->r+1<1000000-> fh P Í (Ha P Í b (fh P Í e)<|r+1) {l with d:=1,w:=a} (G ((base L.add).at ⟨#[À<|Â ⟨b,0,Á⟩,j,m,o,p,q,s,t,É ú c,u,v,x,z,B,C,D,E,F,I,J,K,M,N,O,S,T,V,W,X,Y,p9,qa,pR,o6,o7,oJ,oK,pS,pT,pU,pV,pW,pX,pY,pZ,p6,nQ,nR,rE,A1,A2,A3,A4,A5,A6,A7,A8,A9,Ba,Bb,Bc,Bd,Be,Bf,Bg,Bh,Bj,Bl,Bm,Bn,Bo,Bp,Bq,Br,Bs,Bt,Bu,Bv,Bw,Bx,By,Bz,BA,BB,BD,BF,BG,BH,BJ,BK,BL,BM,BN,BO,BP,BQ,BR,BS,BT,BU,BV,BW,BX,BY,BZ,B1,B2,B3,B4,B5,B6,B7,B8,B9,Ca,À<|Â ⟨b,1,Á⟩,Cb],[dcall L.enable #[]]⟩ [Ï #[{dst:=Â 113,op:=ü<|Ò 0,type:=L.tWgP,pos:= "waitgroup.go:142",after:=#[],guard:=Á},{dst:=Â 114,op:=Ĕ<|Ò 113,type:=0,pos:= "waitgroup.go:142",after:=#[{on:=0,ground:=Õ}],guard:=Á},{dst:=Â 115,op:=ê L.tWg (Ò 114) 2,type:=0,pos:= "waitgroup.go:142",after:=#[{on:=1,ground:=Õ}],guard:=Á},{dst:=Â 116,op:= č {callee:=û<|Ċ L.semrelease,args:= #[Ò 115,ò<|Ĭ Í,ò<|É Î 0],argTypes:=#[L.tPU32,4,3]},type:=0,pos:= "waitgroup.go:142",after:=#[{on:=2,ground:=Õ}],guard:=Á}] [3],ï 2,ö<|à 33 #[{dst:=Â 111,op:=ü<|Ò 8,type:=L.tU32,pos:= "waitgroup.go:141",after:=#[],guard:=Á},{dst:=Â 112,op:=ń BinOp.sub L.tU32 (Ò 111) (ò<|É ú 1) L.tU32,type:=L.tU32,pos:= "waitgroup.go:141",after:=#[{on:=0,ground:=Õ}],guard:=Á},{dst:=Â 8,op:=Ĳ<|Ò 112,type:=L.tU32,pos:= "waitgroup.go:141",after:= #[{on:=1,ground:=Õ},{on:=0,ground:=Ì},{on:=1,ground:=Ì}],guard:=Á}] Í,Ā<|((à 32 #[{dst:=Â 109,op:=ü<|Ò 8,type:=L.tU32,pos:= "waitgroup.go:141",after:=#[],guard:=Á},{dst:=Â 110,op:= ń BinOp.neq L.tU32 (Ò 109) (ò<|É ú 0) L.tU32,type:=4,pos:= "waitgroup.go:141",after:=#[{on:=0,ground:=Õ}],guard:=Á}] Í).seq<|ŕ (Ò 110) Ŗ<|ŗ 1).seq<|(ĥ 2<|à 34 #[{dst:=Â 113,op:=ü<|Ò 0,type:=L.tWgP,pos:= "waitgroup.go:142",after:=#[],guard:=Á},{dst:=Â 114,op:=Ĕ<|Ò 113,type:=0,pos:= "waitgroup.go:142",after:=#[{on:=0,ground:=Õ}],guard:=Á},{dst:=Â 115,op:=ê L.tWg (Ò 114) 2,type:=0,pos:= "waitgroup.go:142",after:=#[{on:=1,ground:=Õ}],guard:=Á},{dst:=Â 116,op:= č {callee:=û<|Ċ L.semrelease,args:= #[Ò 115,ò<|Ĭ Í,ò<|É Î 0],argTypes:=#[L.tPU32,4,3]},type:=0,pos:= "waitgroup.go:142",after:=#[{on:=2,ground:=Õ}],guard:=Á}] Í).seq<|à 33 #[{dst:=Â 111,op:=ü<|Ò 8,type:=L.tU32,pos:= "waitgroup.go:141",after:=#[],guard:=Á},{dst:=Â 112,op:= ń BinOp.sub L.tU32 (Ò 111) (ò<|É ú 1) L.tU32,type:=L.tU32,pos:= "waitgroup.go:141",after:=#[{on:=0,ground:=Õ}],guard:=Á},{dst:=Â 8,op:=Ĳ<|Ò 112,type:=L.tU32,pos:= "waitgroup.go:141",after:= #[{on:=1,ground:=Õ},{on:=0,ground:=Ì},{on:=1,ground:=Ì}],guard:=Á}] Í,ï 1])<|(base L.done).at {tmps:= #[À<|Â {block:=b,off:=0},Å,À<|Â {block:=b,off:=0},Å],defers:=[]} [Ï #[{dst:=Â 2,op:=ü<|Ò 0,type:=L.tWgP,pos:= "waitgroup.go:156",after:=#[],guard:=Á},{dst:=Â 3,op:= č {callee:=û<|Ċ L.add,args:=#[Ò 2,ò<|É Î<|-1],argTypes:=#[L.tWgP,3]},type:=0,pos:= "waitgroup.go:156",after:=#[{on:=0,ground:=Õ}],guard:=Á}] [1]]::f.at y (Ï Q (i::jJ)::k)::qX):=by
 intro r;lib_facts
 induction r with
 |zero=>
  intro c j m o p q s t u v x z B C D E F I J K M N O S T V W X Y p9 qa pR o6 o7 oJ oK pS pT pU pV pW pX pY pZ p6 nQ nR rE A1 A2 A3 A4 A5 A6 A7 A8 A9 Ba Bb Bc Bd Be Bf Bg Bh Bj Bl Bm Bn Bo Bp Bq Br Bs Bt Bu Bv Bw Bx By Bz BA BB BD BF BG BH BJ BK BL BM BN BO BP BQ BR BS BT BU BV BW BX BY BZ B1 B2 B3 B4 B5 B6 B7 B8 B9 Ca Cb a hF HM gJ;have e1:c=1:=Z
  subst e1;clear HM gJ;refine mB (l:={l with d:=1,w:=a}) h hF λqC hF=>⟨U,U,ŭ U U H.f_semrelease<|ė L,_,U,λa n hc hf=>(Ŏ U U (by k_ne) U H.f_semrelease (Ţ L) (ė L) (ţ L) (Ť L) (by simp[Ę,gQ]) hc hf).trans fO,?_⟩;walk_nrm;apply iX (l:={l with d:=1,w:=qC}) h hF (n:=50);iterate 17 w_go fB
  refine Ë λa g=> ?_;replace hF:=fB hF g;clear g;refine rD (l:={l with d:=1,w:=a}) h hF (Ç U) U (λw=>EI Ħ fj U H.f_enable (ĸ L) (Ĺ L) (ĺ L) (Ļ L) w) λCl hF=> ?_;have oG:ď 1 #[jw Ħ]=0:=rfl;rw[oG];apply iX (l:={l with d:=0,w:=Cl}) h hF (n:=10);u_leave0 H.f_add fB hF;iterate 2 w_go fB
  u_leave0 H.f_done fB hF
  refine Ë λa g=> ?_;replace hF:=fB hF g;clear g;exact hT _ hF
 |succ r ih=>
  intro c j m o p q s t u v x z B C D E F I J K M N O S T V W X Y p9 qa pR o6 o7 oJ oK pS pT pU pV pW pX pY pZ p6 nQ nR rE A1 A2 A3 A4 A5 A6 A7 A8 A9 Ba Bb Bc Bd Be Bf Bg Bh Bj Bl Bm Bn Bo Bp Bq Br Bs Bt Bu Bv Bw Bx By Bz BA BB BD BF BG BH BJ BK BL BM BN BO BP BQ BR BS BT BU BV BW BX BY BZ B1 B2 B3 B4 B5 B6 B7 B8 B9 Ca Cb a hF HM gJ;have g1:(c-1)%4294967296=c-1:=Z
  have g2:(c-1 !=0)=Ó:=by simp;omega
  refine mB (l:={l with d:=1,w:=a}) h hF λqC hF=>⟨U,U,ŭ U U H.f_semrelease<|ė L,_,U,λa n hc hf=>(Ŏ U U (by k_ne) U H.f_semrelease (Ţ L) (ė L) (ţ L) (Ť L) (by simp[Ę,gQ]) hc hf).trans fO,?_⟩;walk_nrm;apply iX (l:={l with d:=1,w:=qC}) h hF (n:=50);iterate 22 w_go fB
  refine Ë λa g=> ?_;replace hF:=fB hF g;clear g;exact ih (c-1) _ _ _ _ _ _ _ _ _ _ _ _ _ _ _ _ _ _ _ _ _ _ _ _ _ _ _ _ _ _ _ _ _ _ _ _ _ _ _ _ _ _ _ _ _ _ _ _ _ _ _ _ _ _ _ _ _ _ _ _ _ _ _ _ _ _ _ _ _ _ _ _ _ _ _ _ _ _ _ _ _ _ _ _ _ _ _ _ _ _ _ _ _ _ _ _ _ _ _ _ _ _ _ _ _ _ _ _ _ _ _ _ _ _ a hF Z Z
end
section
variable{Ψ:ß->Prop}{L:WgLink}{l:fc}{e:Jd}{k:List Ż}
def Q9(Ψ:ß->Prop)(l:fc)(b:Nat)(w:ß):Prop:=SW Ψ l b w/\fI l l.w w
def pe(a:lY Ψ l b)(h:Q9 Ψ l b w)(r:fI l w u):Q9 Ψ l b u:=⟨fB h.1<|a.r r,h.2.ff r⟩
def aiv{J:Jd}(a:SW Ψ l b l.w)(c:Goes P yQ (fI l) Go.ConcR.DC0 (λd e=>fh P yQ J {l with w:=e} d) n g l.w):fh P yQ J l g:= QK c (λ_ _ r=>r) a.1 λ_ _ _ h=>h
def aiw(H:WgLib P L)(τ:fc->fc)(Φ:fc->Prop)(h:lY Ψ l b)(D:SW Ψ l b l.w) (O:∀a,fI l l.w a->Φ {l with w:=a}/\(τ {l with w:=a}).d=0/\∃z:ß->Prop,lY z (τ {l with w:=a}) b/\SW z (τ {l with w:=a}) b (τ {l with w:=a}).w/\ ∀j,SW z (τ {l with w:=a}) b j->fh P Í e {τ {l with w:=a}with d:=0,w:=j} (G (f.at (y.put ((Q[i]?).bind (·.dst))<|ñ #[])<|Ï Q jJ::k) qX)): fh P Í (λl g=>Φ l/\yt P Í b (fh P Í e) (τ l) g) l (G ((base L.done).at ⟨#[À<|Â ⟨b,0,Á⟩,Å,Å,Å],[]⟩ [ö<|body_done L])<|f.at y (Ï Q (i::jJ)::k)::qX):=by
 lib_facts;simp only[body_done,doneFn,ŏ];have hF:Q9 Ψ l b l.w:=⟨D,fI.fT _ _⟩;apply aiv D (n:=40);u_reg (pe h) hF;u_op (pe h) hF;u_call H.f_add (Θ L) addFn (pe h) hF;u_c ů (pe h) hF;u_cond Ó (pe h) hF;u_c ů (pe h) hF;u_c ů (pe h) hF;u_reg (pe h) hF;u_op (pe h) hF;u_op (pe h) hF;u_c stepG_region_end (pe h) hF;u_cond Ó (pe h) hF;u_reg (pe h) hF;u_op (pe h) hF;u_conv H.underlying_tWgP H.room_tWg (mN.r hF.1.2.1).choose_spec (pe h) hF;refine Ë λa g=> ?_;replace hF:=pe h hF g;clear g;refine .fA λj r=> ?_;let⟨S,E,z,c,F,q⟩:=O j<|hF.2.ff<|yJ r;refine⟨S,E,U,_,λ_=>stepG_markAt .releaseMerge fj U U (by k_ne) U H.f_relMerge (x_relMerge_n L) (x_relMerge_b L) (x_relMerge_x L) (x_relMerge_f L) (by simp[Ę,fL]),?_⟩;walk_nrm;show fh P Í (PO P Í b<|fh P Í e) (τ {l with w:=j}) _;clear S r;generalize τ {l with w:=j}=l2 at c F E q|-;replace hF:=F;clear F h D O;apply iX c hF (n:=10);iterate 3 w_go fB
 refine Ë λa g=> ?_;replace hF:=fB hF g;clear g;refine rD (l:={l2 with w:=a}) c hF (Ã U) U (λ_=>stepG_mark0 .disable fj U U (by k_ne) U H.f_disable (x_disable_n L) (x_disable_b L) (x_disable_x L)<|x_disable_f L) λm hF=> ?_;walk_nrm;have X:ď l2.d #[jw .disable]=1:=by rw[E];rfl
 rw[X];apply iX (l:={l2 with d:=1,w:=m}) c hF (n:=50);iterate 2 w_go fB
 u_defer fB hF
 iterate 8 w_go fB
 u_bub fB hF
 iterate 11 w_go fB
 u_call H.f_uAdd (nm_uAdd L) uAddFn fB hF
 iterate 10 w_go fB
 refine Ë λa g=> ?_;replace hF:=fB hF g;clear g;refine mB (l:={l2 with d:=1,w:=a}) c hF λj hF=>⟨U,U,λv=>⟨_,λa t I=>(stepG_add_atomic U U (by k_ne) U H.f_addU64 (x_addU64_n L) (x_addU64_b L) (x_addU64_x L) ë (x_addU64_f L) U U t I).trans fO,?_⟩⟩;walk_nrm;have T:ë.wrap (v+18446744069414584320)=ë.wrap (v+qG):=rfl;rw[T];clear T;obtain⟨s,J⟩:∃s,ë.wrap (v+qG)=s:=⟨_,U⟩;simp only[J];have K:0<=s:=by rw[<-J];have:ë.wrap (v+qG)=(v+qG)%18446744073709551616:=rfl;rw[this];omega
 clear J v;by_cases p:s=0\/(fX<=s/\s<1000000*fX/\s%fX<1000000)
 .rw[if_pos p];by_cases o:s=0
  .subst o;clear p K;apply iX (l:={l2 with d:=1,w:=j}) c hF (n:=150);iterate 3 w_go fB
   u_leave1 H.f_uAdd fB hF
   iterate 83 w_go fB
   refine Ë λa g=> ?_;replace hF:=fB hF g;clear g;refine rD (l:={l2 with d:=1,w:=a}) c hF (Ç U) U (λw=>EI Ħ fj U H.f_enable (ĸ L) (Ĺ L) (ĺ L) (Ļ L) w) λm hF=> ?_;have x:ď 1 #[jw Ħ]=0:=rfl;rw[x];apply iX (l:={l2 with d:=0,w:=m}) c hF (n:=10);u_leave0 H.f_add fB hF;iterate 2 w_go fB
   u_leave0 H.f_done fB hF
   refine Ë λa g=> ?_;replace hF:=fB hF g;clear g;exact q _ hF
  .have Y:=p.resolve_left o;clear p o K;let⟨c4,c5,c6⟩:=Y;have q4:(4294967296:Int)<=s:=c4;have M:s<1000000*4294967296:=c5;have V:s%4294967296<1000000:=c6;have f1:=EJ s Z M V;have B:=EK s Z M V;obtain⟨C,g1⟩:∃C,(s/4294967296+2147483648)%4294967296-2147483648=C:=⟨_,U⟩;have g2:¬C<0:=Z
   have g3:0<C:=Z
   by_cases N:s%4294967296=0
   .rw[N]at B;apply iX (l:={l2 with d:=1,w:=j}) c hF (n:=150);iterate 3 w_go fB
    u_leave1 H.f_uAdd fB hF
    iterate 83 w_go fB
    refine Ë λa g=> ?_;replace hF:=fB hF g;clear g;refine rD (l:={l2 with d:=1,w:=a}) c hF (Ç U) U (λw=>EI Ħ fj U H.f_enable (ĸ L) (Ĺ L) (ĺ L) (Ļ L) w) λm hF=> ?_;have x:ď 1 #[jw Ħ]=0:=rfl;rw[x];apply iX (l:={l2 with d:=0,w:=m}) c hF (n:=10);u_leave0 H.f_add fB hF;iterate 2 w_go fB
    u_leave0 H.f_done fB hF
    refine Ë λa g=> ?_;replace hF:=fB hF g;clear g;exact q _ hF
   .obtain⟨u,g4⟩:∃u,s%4294967296=u:=⟨_,U⟩;rw[g4]at B N;have W:u%4294967296=u:=Z
    have g6:(u !=0)=Ó:=by simpa using N
    apply iX (l:={l2 with d:=1,w:=j}) c hF (n:=150);iterate 3 w_go fB
    u_leave1 H.f_uAdd fB hF
    iterate 83 w_go fB
    refine Ë λa g=> ?_;replace hF:=fB hF g;clear g;refine rD (l:={l2 with d:=1,w:=a}) c hF (Ç U) U (λw=>EI Ħ fj U H.f_enable (ĸ L) (Ĺ L) (ĺ L) (Ļ L) w) λm hF=> ?_;have x:ď 1 #[jw Ħ]=0:=rfl;rw[x];apply iX (l:={l2 with d:=0,w:=m}) c hF (n:=10);u_leave0 H.f_add fB hF;iterate 2 w_go fB
    u_leave0 H.f_done fB hF
    refine Ë λa g=> ?_;replace hF:=fB hF g;clear g;exact q _ hF
 .rw[if_neg p];by_cases o:0<s/\s<1000000
  .rw[if_pos o];let⟨q4,M⟩:=o;clear p K;have f1:=EJ s Z Z Z;have B:=EK s Z Z Z;have g1:(s/4294967296+2147483648)%4294967296-2147483648=0:=Z
   have W:s%4294967296=s:=Z
   rw[W]at B;have g6:(s !=0)=Ó:=by simp;omega
   have V:(s==0)=Í:=by simp;omega
   have C:(s.toNat:Int)=s:=Z
   apply iX (l:={l2 with d:=1,w:=j}) c hF (n:=150);iterate 3 w_go fB
   u_leave1 H.f_uAdd fB hF
   iterate 89 w_go fB
   u_call H.f_uLoad (nm_uLoad L) uLoadFn fB hF
   iterate 9 w_go fB
   refine Ë λa g=> ?_;replace hF:=fB hF g;clear g;refine mB (l:={l2 with d:=1,w:=a}) c hF λj hF=>⟨U,U,λv=>⟨_,λa t=>stepG_load_atomic U U (by k_ne) U H.f_loadU64 (x_loadU64_n L) (x_loadU64_b L) (x_loadU64_x L) ë (x_loadU64_f L) U t,?_⟩⟩;show fh P Í (if v=(s.toNat:Int)then KV P Í b (fh P Í e) s.toNat else λ_ _=>True) _ _;by_cases u:v=(s.toNat:Int)
   .rw[if_pos u];rw[C]at u;subst u;walk_nrm;have Y:(v !=v)=Í:=fj
    apply iX (l:={l2 with d:=1,w:=j}) c hF (n:=150);iterate 3 w_go fB
    u_leave1 H.f_uLoad fB hF
    iterate 10 w_go fB
    u_call H.f_uStore (nm_uStore L) uStoreFn fB hF
    iterate 5 w_go fB
    refine Ë λa g=> ?_;replace hF:=fB hF g;clear g;refine mB (l:={l2 with d:=1,w:=a}) c hF λj hF=>⟨U,U,_,λa x t I=>stepG_store_atomic U U (by k_ne) U H.f_storeU64 (x_storeU64_n L) (x_storeU64_b L) (x_storeU64_x L) (x_storeU64_f L) U U t I,?_⟩;walk_nrm;obtain⟨r,N⟩:∃r,v.toNat=r+1:=⟨v.toNat-1,Z⟩;rw[N];apply iX (l:={l2 with d:=1,w:=j}) c hF (n:=150);iterate 2 w_go fB
    u_leave0 H.f_uStore fB hF
    iterate 24 w_go fB
    refine Ë λa g=> ?_;replace hF:=fB hF g;clear g;exact aiu H c q r v _ _ _ _ _ _ _ _ _ _ _ _ _ _ _ _ _ _ _ _ _ _ _ _ _ _ _ _ _ _ _ _ _ _ _ _ _ _ _ _ _ _ _ _ _ _ _ _ _ _ _ _ _ _ _ _ _ _ _ _ _ _ _ _ _ _ _ _ _ _ _ _ _ _ _ _ _ _ _ _ _ _ _ _ _ _ _ _ _ _ _ _ _ _ _ _ _ _ _ _ _ _ _ _ _ _ _ _ _ _ _ _ _ _ a hF Z Z
   .rw[if_neg u];exact .fA λ_ _=>trivial
  .rw[if_neg o];trivial
end
end Go.Proofs.Y.fu
namespace Go.Proofs.Y.fu
open Go Go.Conc Go.Proofs.Y.Lift Go.RowKit Go.Conc.Lib Go.ConcR.Gen
open Go.Proofs Go.Proofs.YtgpphkdoanciiaaGreatDoor
noncomputable def LC:Ġ:=jZ θ [1,0,0]
noncomputable def yT (t:Array Ð) (a:List é):Ý:=G ((base 49).at ⟨t,[]⟩ [ö LC,Ā LC,ï 0]) a
structure Cm(an N:Nat)(ib:Option ã)(m c kk:Nat)(t:Array Ð):Prop where
 r:t.size=37
 t1:t[1]?=Â (Æ (Â ⟨an,0,Á⟩) N N)
 t6:t[6]?=Â (Æ ib m c)
 C:t[7]?=Â (É Î m)
 I:t[8]?=Â (É Î kk)
def Cn{x:Int}(a:0<=x)(b:x<1000000):Î.wrap x=x:=by rw[Τ];omega
section
variable{f:Jd}{l:fc}{t:Array Ð}{an N ib c kk:Nat}{Q:Ð->ByteArray->fc->Prop}{τ:fc->fc}{Φ:fc->Prop}
def aix(D:gw l)(V:¬l.q)(hd:l.d=0)(W:Cm an N (Â ⟨ib,0,Á⟩) m c kk t)(hkk:kk<m)(hm:m<1000)(hN:N<1000000)(rz:j<N)(yU:l.M ib) (i0:l.w.cell? ⟨ib,kk*4,Á⟩=Â (À O)) (i1:l.w.cell? ⟨ib,kk*4+1,Á⟩=Â (É Î j)) (i2:l.w.cell? ⟨ib,kk*4+2,Á⟩=Â (À<|Â ⟨i,0,Á⟩)) (i3:l.w.cell? ⟨ib,kk*4+3,Á⟩=Â (À<|Â ⟨n,0,Á⟩)) (uh:l.N ⟨i,2,Á⟩) (pL:l.w.cell? ⟨i,2,Á⟩=Â v) (o1:l.r ⟨n,2,Á⟩) (o2:l.r ⟨an,j,Á⟩) (e1:(l.w.cell? ⟨n,2,Á⟩).isSome=Ó) (e2:(l.w.cell? ⟨an,j,Á⟩).isSome=Ó) (z1:l.w.frozen? ⟨n,2,Á⟩=Í) (z2:l.w.frozen? ⟨an,j,Á⟩=Í) (lB:(⟨n,2,Á⟩:ã)≠⟨an,j,Á⟩) (tV:∀u,iC (λa=>a=⟨n,2,Á⟩\/a=⟨an,j,Á⟩) l u->∀cl lO,fh Ä Í (λl'' g'=>l''.d=u.d/\∃p k c str,g'=G (cl.finish<|ñ #[Æ p k c,á str]) lO/\Q (Æ p k c) str l'') (lZ u)<|G (ć Ä 66 #[v,À O] Ĥ)<|cl::lO) (Ap:∀u (x:(Option Addr×Nat×Nat)×ByteArray),iC (λa=>a=⟨n,2,Á⟩\/a=⟨an,j,Á⟩) l u->(∃y,Q (Æ x.1.1 x.1.2.1 x.1.2.2) x.2 y/\(∀b,y.M b->u.M b/\u.w.heap[b]?=y.w.heap[b]?))->u.w.cell? ⟨n,2,Á⟩=Â (Æ x.1.1 x.1.2.1 x.1.2.2)->u.w.cell? ⟨an,j,Á⟩=Â (á x.2)-> lY (λ_=>True) u n/\SW (λ_=>True) u n u.w/\Φ u/\(τ u).d=0/\∃E:ß->Prop,lY E (τ u) n/\SW E (τ u) n (τ u).w/\∀s X,SW E (τ u) n s->Cm an N (Â ⟨ib,0,Á⟩) m c (kk+1) X->fh Ä Í f {τ u with d:=0,w:=s} (yT X qX)): fh Ä Í (λl g=>Φ l/\yt Ä Í n (fh Ä Í f) (τ l) g) l (yT t qX):=by
 obtain⟨y0,y1,Y,y3,y4,y5,y6,y7,y8,y9,wY,yV,wZ,rG,sN,qM,vr,vt,uj,uk,um,sP,sQ,sR,uo,vu,w7,sS,qN,uq,p9,qa,pR,o6,o7,oJ,oK,rfl⟩:=Q8 t W.r;obtain rfl:y1=Æ (Â ⟨an,0,Á⟩) N N:=by simpa using W.t1
 obtain rfl:y6=Æ (Â ⟨ib,0,Á⟩) m c:=by simpa using W.t6
 obtain rfl:y7=É Î m:=by simpa using W.C
 obtain rfl:y8=É Î kk:=by simpa using W.I
 have rH:∀y:ã,(y=⟨n,2,Á⟩\/y=⟨an,j,Á⟩)->l.r y:=λy ha=>by rcases ha with rfl|rfl;exact o1;exact o2
 have atW:(kk:Int)<(m:Int):=Z
 simp only[yT];conv in LC=>whnf
 refine fN (n:=30) D.r ?_;have hF:True:=trivial;repeat w_go fv
 refine Ë λ_ _=> ?_;have B:∀g,gX l ⟨ib,g,Á⟩:=λg=>Ã yU;refine pd (v:=ę #[À O,É Î j,À<|Â ⟨i,0,Á⟩,À<|Â ⟨n,0,Á⟩]) U U (by k_ne) D.r V (λo r=> ?_) (λo r e F=> ?_) ?_
 .have J:=((B<|kk*4).r r).trans i0;have K:=((B<|kk*4+1).r r).trans i1;have L:=((B<|kk*4+2).r r).trans i2;have P:=((B<|kk*4+3).r r).trans i3;go_simp
 .have J:=((B<|kk*4).r r).trans i0;have K:=((B<|kk*4+1).r r).trans i1;have L:=((B<|kk*4+2).r r).trans i2;have P:=((B<|kk*4+3).r r).trans i3;simp[go_sem,J,K,L,P]at F;rcases F with rfl|rfl|rfl|rfl
  .exact(B _).C
  .exact(B _).C
  .exact(B _).C
  .exact(B _).C
 walk_nrm;refine HU (ob:=Ê #[À Á,É Î 0,À Á,À Á] 155) U U (by k_ne) D.r V (λw=>by go_simp) (λw=>by simp[go_sem]) λo kC=> ?_;walk_nrm;have uu:iC (λa=>a=⟨n,2,Á⟩\/a=⟨an,j,Á⟩) l (gI l o<|Ê #[À Á,É Î 0,À Á,À Á] 155):=LA D rH kC;have oL:(gI l o<|Ê #[À Á,É Î 0,À Á,À Á] 155).w.heap[o.heap.size]?=Â (Ê #[À Á,É Î 0,À Á,À Á] 155):=mQ;have sT:l.w.heap.size<=o.heap.size:=kC.r;have I:(gI l o<|Ê #[À Á,É Î 0,À Á,À Á] 155).O o.heap.size:=Ç U;generalize gI l o (Ê #[À Á,É Î 0,À Á,À Á] 155)=l₁ at uu oL I|-;generalize o.heap.size=tb at oL I sT|-;refine vo U U (by k_ne) λs n8=> ?_;have S:s.heap[tb]?=_:=(n8.I tb<|Ã I).trans oL;have J:s.cell? ⟨tb,0,Á⟩=Â (À Á):=by simp[Ù,S]
 have K:s.cell? ⟨tb,1,Á⟩=Â (É Î 0):=by simp[Ù,S]
 have L:s.cell? ⟨tb,2,Á⟩=Â (À Á):=by simp[Ù,S]
 have P:s.cell? ⟨tb,3,Á⟩=Â (À Á):=by simp[Ù,S]
 have hz:∀g,s.frozen? ⟨tb,g,Á⟩=Í:=λg=>by simp[ð,S]
 go_simp;refine⟨{l₁ with w:=iR s tb (À O) (É Î j) (À<|Â ⟨i,0,Á⟩) (À<|Â ⟨n,0,Á⟩)},LB (p:=tb) (mA uu.fx n8) (by rwa[uu.q]) I wW (λg H=>yS H) ⟨U,U,U⟩ λe F=> ?_,?_⟩
 .have h:=Ě F;have e:∀g,p7 l₁ ⟨tb,g,Á⟩:=λg=>Ã I;simp[go_sem,â _ _ _ _ _ _ (show Ú (À O)=Ó from rfl),â _ _ _ _ _ _ (show Ú (À<|Â ⟨i,0,Á⟩)=Ó from rfl),â _ _ _ _ _ _ (show Ú (À<|Â ⟨n,0,Á⟩)=Ó from rfl),J,K,L,P,hz]at h;rcases h with rfl|rfl|rfl|rfl
  .exact(e _).r
  .exact(e _).r
  .exact(e _).r
  .exact(e _).r
 let⟨c0,c1,c2,c3⟩:=Q6 (v0:=À O) (v1:=É Î j) (v2:=À<|Â ⟨i,0,Á⟩) (v3:=À<|Â ⟨n,0,Á⟩) J K L P;have C:=Q7 (w':=iR s tb (À O) (É Î j) (À<|Â ⟨i,0,Á⟩)<|À<|Â ⟨n,0,Á⟩) D rH uu n8 sT wW λg H=>yS H;have xa:({l₁ with w:=iR s tb (À O) (É Î j) (À<|Â ⟨i,0,Á⟩) (À<|Â ⟨n,0,Á⟩)}:fc).O tb:=I;replace c0:({l₁ with w:=iR s tb (À O) (É Î j) (À<|Â ⟨i,0,Á⟩) (À<|Â ⟨n,0,Á⟩)}:fc).w.cell? ⟨tb,0,Á⟩=_:=c0;replace c1:({l₁ with w:=iR s tb (À O) (É Î j) (À<|Â ⟨i,0,Á⟩) (À<|Â ⟨n,0,Á⟩)}:fc).w.cell? ⟨tb,1,Á⟩=_:=c1;replace c2:({l₁ with w:=iR s tb (À O) (É Î j) (À<|Â ⟨i,0,Á⟩) (À<|Â ⟨n,0,Á⟩)}:fc).w.cell? ⟨tb,2,Á⟩=_:=c2;replace c3:({l₁ with w:=iR s tb (À O) (É Î j) (À<|Â ⟨i,0,Á⟩) (À<|Â ⟨n,0,Á⟩)}:fc).w.cell? ⟨tb,3,Á⟩=_:=c3;generalize({l₁ with w:=iR s tb (À O) (É Î j) (À<|Â ⟨i,0,Á⟩) (À<|Â ⟨n,0,Á⟩)}:fc)=l₂ at c0 c1 c2 c3 C xa|-;clear oL I uu S J K L P hz n8 s l₁ kC o;have rI:=C.G D;have qc:¬l₂.q:=by rwa[C.q]
 have aiy:l₂.N ⟨i,2,Á⟩:=by rwa[C.c]
 have nE:¬((⟨i,2,Á⟩:ã)=⟨n,2,Á⟩\/(⟨i,2,Á⟩:ã)=⟨an,j,Á⟩):=λq=>by
  rcases q with q|q
  .exact D.Y _ o1<|q▸uh
  .exact D.Y _ o2<|q▸uh
 have aiz:l₂.w.cell? ⟨i,2,Á⟩=Â v:=(C.e _ (Ç uh) nE).trans pL;have Ra:∀y:ã,(y=⟨n,2,Á⟩\/y=⟨an,j,Á⟩)->l₂.r y:=λy hy=>by rw[C.I];exact rH y hy
 refine fN (n:=5) rI.r ?_;iterate 2 w_go fv
 refine Ë λ_ _=> ?_;refine QP (II yP #[y0,Æ (Â ⟨an,0,Á⟩) N N,Y,y3,y4,À<|Â ⟨tb,0,Á⟩,Æ (Â ⟨ib,0,Á⟩) m c,É Î m,É Î kk,Ĭ Ó,À<|Â ⟨ib,kk*4,Á⟩,ę #[À O,É Î j,À<|Â ⟨i,0,Á⟩,À<|Â ⟨n,0,Á⟩],wZ,rG,sN,qM,vr,vt,uj,uk,um,sP,sQ,sR,uo,vu,w7,sS,qN,uq,p9,qa,pR,o6,o7,oJ,oK] (mP tb i n an N j (À O) v)<|EZ l₂ i n an j v Q) rI.r qc (λh H=> ?_) (λmd listed a l e z hI F=>air rI qc U U U xa c0 c1 c2 c3 aiy aiz (Ra _<|Ã U) (Ra _<|Ç U) (C.g _ (Ã U) e1) (C.g _ (Ç U) e2) ((C.S _<|Ã o1).trans z1) ((C.S _<|Ã o2).trans z2) rz hN lB (λu h=>tV u<|C.ff h) md listed a l e z hI F) λmd listed a z hI jr vv=> ?_
 .refine⟨((Á,0,0),ByteArray.empty),mO.G _ _ _,(iC.fT rI.r).N Ra ⟨H.r,H.I,H.N,H.Y,H.S⟩,λq=> ?_,λq=> ?_,λq=> ?_⟩<;>exact absurd q A
 let⟨x,H,T⟩:=hI;have qd:∀e∈ä 21,listed.getD e Í=Ó:=by
  cases md
  .exact p8 vv jr (ä 21) [] fO λe F=>by cases F
  .exact λe F=>p8 vv jr [0,1,5,6,7,8,9,10,11,12,13,14,16,17,18,2,3,4,15,19,20] [] fO (λe F=>by cases F) e (by have:=ě.1 F;revert e;decide)
  .exact p8 vv jr (ä 21) [] fO λe F=>by cases F
 have HY:=C.ff T.r;have HZ:=HY.G D;have xb:¬z.q:=by rwa[HY.q]
 let⟨F,ds⟩:=a;obtain rfl:ds=[]:=H.M;have b1:F[1]?=Â (Æ (Â ⟨an,0,Á⟩) N N):=H.C (d:=1) A;have b5:F[5]?=Â (À<|Â ⟨tb,0,Á⟩):=H.C (d:=5) A;have b6:F[6]?=Â (Æ (Â ⟨ib,0,Á⟩) m c):=H.C (d:=6) A;have b7:F[7]?=Â (É Î m):=H.C (d:=7) A;have b8:F[8]?=Â (É Î kk):=H.C (d:=8) A;obtain⟨x0,x1,x2,x3,x4,x5,x6,x7,x8,x9,YI,x11,x12,x13,x14,x15,x16,x17,x18,x19,x20,x21,x22,x23,x24,x25,x26,x27,x28,x29,x30,x31,x32,x33,x34,x35,x36,rfl⟩:=Q8 F H.S;obtain rfl:x1=Æ (Â ⟨an,0,Á⟩) N N:=by simpa using b1
 obtain rfl:x5=À (Â ⟨tb,0,Á⟩):=by simpa using b5
 obtain rfl:x6=Æ (Â ⟨ib,0,Á⟩) m c:=by simpa using b6
 obtain rfl:x7=É Î m:=by simpa using b7
 obtain rfl:x8=É Î kk:=by simpa using b8
 have aiA:=T.vq<|qd 12 A;have aiB:=T.I<|qd 18 A;have aiC:=T.N<|qd 20 A;have d3:z.w.cell? ⟨tb,3,Á⟩=Â (À<|Â ⟨n,0,Á⟩):=(gK<|T.r.r tb<|Ã xa).trans c3;have s3:gX z ⟨tb,3,Á⟩:=Ã<|Ã<|T.r.O tb xa;clear H qd b1 b5 b6 b7 b8;refine fN (n:=9) HZ.r ?_;iterate 3 w_go fv
 refine Ë λ_ _=> ?_;refine nT (x:=⟨tb,3,Á⟩) U U (by k_ne) HZ.r xb s3 d3 (λw h=>by go_simp) (λw h=>by simp[go_sem,h]) ?_;walk_nrm;refine fN (n:=9) HZ.r ?_;iterate 2 w_go fv
 u_call qL.f_done (nm_done Lk) doneFn fv hF
 refine Ë λ_ _=> ?_;have rJ:∀o,fI z z.w o->lY (λ_=>True) {z with w:=o} n/\SW (λ_=>True) {z with w:=o} n o/\Φ {z with w:=o}/\(τ {z with w:=o}).d=0/\∃E:ß->Prop,lY E (τ {z with w:=o}) n/\SW E (τ {z with w:=o}) n (τ {z with w:=o}).w/\∀s X,SW E (τ {z with w:=o}) n s->Cm an N (Â ⟨ib,0,Á⟩) m c (kk+1) X->fh Ä Í f {τ {z with w:=o}with d:=0,w:=s} (yT X qX):=λo r=>by
  refine Ap {z with w:=o} x (HY.N rH r) ?_ ?_ ?_
  .let⟨y,y1,Y⟩:=aiA;exact⟨y,y1,λb h=>⟨(Y b h).1,(r.I b (Y b h).1).trans (Y b h).2⟩⟩
  .exact(r.N _<|Ã<|by rwa[HY.I]).trans aiB
  .exact(r.N _<|Ã<|by rwa[HY.I]).trans aiC
 let⟨k1,k2,_⟩:=rJ z.w<|fI.fT _ _;refine aiw qL τ Φ k1 k2 λo r=> ?_;let⟨_,_,f1,f4,E,f2,f3,f5⟩:=rJ o r;refine⟨f1,f4,E,f2,f3,λs h=> ?_⟩;walk_nrm;refine fN (n:=30) h.1 ?_;iterate 7 w_go fv
 refine Ë λ_ _=> ?_;refine f5 s _ h ⟨U,U,U,U,?_⟩;simp;exact Cn Z Z
end
def aiD:Array å:=#[⟨Â 2,Č 85<|Ò 0,85, "work.go:24",#[],Á⟩,
 ⟨Â 3,Č 25<|Ò 1,25, "work.go:24",#[],Á⟩,
 ⟨Â 4,č {callee:=û (Ċ 49),args:=#[Ò 2,Ò 3],argTypes:=#[85,25]},0, "work.go:24",#[⟨0,Õ⟩,⟨1,Õ⟩],Á⟩]
def yW(a:Nat)(b c d e:Ð):é:=(baseD 63).at ⟨#[À<|Â ⟨a,0,Á⟩,b,c,d,e],[pb 64 #[À<|Â ⟨a,0,Á⟩] #[]]⟩ [Ï YE [1]]
def vw(a b c d e:Ð):é:=(base 48).at ⟨#[a,b,c,d,e],[]⟩ [Ï aiD [2]]
section
variable{Ψ:ß->Prop}{J:Jd}{l:fc}{a e f o p:Ð}
def aiE(c:ki l)(g:¬l.q)(k:gX l ⟨j9,0,Á⟩)(r:gX l ⟨j7,0,Á⟩)(s:gX l ⟨b,0,Á⟩)(t:l.w.cell? ⟨j9,0,Á⟩=Â (Ď (ý 48) #[] #[À<|Â ⟨j7,0,Á⟩,À<|Â ⟨b,0,Á⟩]))(u:l.w.cell? ⟨j7,0,Á⟩=Â (Æ O m n))(y:l.w.cell? ⟨b,0,Á⟩=Â (Æ (Â ⟨j,0,Á⟩) i i)) (B:∀d a e f o v x z jQ p,Cm j i O m n 0 d->fh Ä Í J l (yT d [vw v x z jQ p,yW j6 a e f o,nS Ä])): fh Ä Í J l (born Ä<|pb 63 #[À<|Â ⟨j6,0,Á⟩,À<|Â ⟨j9,0,Á⟩] #[]):=by
 apply fN (n:=30) c;have hF:=trivial;u_c (Yu ż fO U) fv hF;walk_nrmf ι;iterate 3 w_go fv
 u_c (Ys U U (by k_ne) U U) fv hF
 walk_nrm;repeat w_go fv
 refine Ë λ_ _=> ?_;apply nT U U (by k_ne) c g k t (λw h=>by go_simp) (λw h=>by simp[go_sem,h]);walk_nrm;apply fN (n:=30) c;u_c (Yt U U (by k_ne) U U Ž fO U) fv hF;walk_nrmf Tryz.f48;w_go fv;refine Ë λ_ _=> ?_;apply nT U U (by k_ne) c g r u (λw h=>by go_simp) (λw h=>by simp[go_sem,h]);walk_nrm;apply nT U U (by k_ne) c g s y (λw h=>by go_simp) (λw h=>by simp[go_sem,h]);walk_nrm;apply fN (n:=30) c;u_call ž fO θ fv hF;iterate 8 w_go fv
 refine Ë λ_ _=> ?_;exact B _ _ _ _ _ _ _ _ _ _ ⟨U,U,U,U,U⟩
def aiF(b:Cm j i O m n m d)(h:l.K ⟨k,0,Á⟩/\l.K ⟨k,1,Á⟩)(r:lY Ψ l k)(c:SW Ψ l k l.w)(s:l.d=0)(t:¬l.q)(u:gX l ⟨j6,0,Á⟩)(y:l.w.cell? ⟨j6,0,Á⟩=Â (À<|Â ⟨k,0,Á⟩)): fh Ä Í (λl g=>yt Ä Í k (EL Ä) (kz l) g) l (yT d [vw v x z jQ p,yW j6 a e f o,nS Ä]):=by
 obtain⟨C,D,E,F,G,H,I,g,B,J,L,M,N,P,Q,S,T,V,W,X,Y,sP,sQ,sR,uo,vu,w7,sS,qN,uq,p9,qa,pR,o6,o7,oJ,oK,rfl⟩:=Q8 d b.r;obtain rfl:g=É Î m:=by simpa using b.C
 obtain rfl:B=É Î m:=by simpa using b.I
 have hmm:¬(m:Int)<(m:Int):=Z
 simp only[yT];conv in LC=>whnf
 apply fN (n:=40) c.1;have hF:=trivial;iterate 8 w_go fv
 u_leave0 ž fv hF
 iterate 2 w_go fv
 u_leave0 Ž fv hF
 refine Ë λ_ _=> ?_;exact YF h r c s t u y
end
def H0:å:=⟨Â 14,ü<|Ò 1,25, "work.go:65",#[],Á⟩
def H2:å:=⟨Â 15,ê 155 (Ò 4) 1,0, "work.go:65",#[],Á⟩
def E0:å:=⟨Â 16,Č 3<|Ò 15,3, "work.go:65",#[⟨1,Õ⟩],Á⟩
def H3:å:=⟨Â 17,ê 155 (Ò 4) 2,0, "work.go:65",#[],Á⟩
def E1:å:=⟨Â 18,Č 86<|Ò 17,86, "work.go:65",#[⟨3,Õ⟩],Á⟩
def E2:å:=⟨Â 19,Ĕ<|Ò 18,0, "work.go:65",#[⟨4,Õ⟩],Á⟩
def E3:å:=⟨Â 20,ê 105 (Ò 19) 1,0, "work.go:65",#[⟨5,Õ⟩],Á⟩
def E4:å:=⟨Â 21,Č 65<|Ò 20,65, "work.go:65",#[⟨6,Õ⟩],Á⟩
def H4:å:=⟨Â 22,ê 155 (Ò 4) 0,0, "work.go:65",#[],Á⟩
def E5:å:=⟨Â 23,Č 148<|Ò 22,148, "work.go:65",#[⟨8,Õ⟩],Á⟩
def Co:å:=⟨Â 24,č {callee:=û<|Ċ 67,args:=#[Ò 21,Ò 23],argTypes:=#[65,148]},9, "work.go:65",#[⟨7,Õ⟩,⟨9,Õ⟩],Á⟩
def Cp:å:=⟨Â 25,Š 25 (Ò 14)<|Ò 16,0, "work.go:65",#[⟨0,Õ⟩,⟨2,Õ⟩,⟨0,Ì⟩,⟨1,Ì⟩,⟨2,Ì⟩,⟨3,Ì⟩,⟨4,Ì⟩,⟨5,Ì⟩,⟨6,Ì⟩,⟨7,Ì⟩,⟨8,Ì⟩,⟨9,Ì⟩,⟨10,Ì⟩],Á⟩
def Cq:å:=⟨Á,ų 9 (Ò 25)<|Ò 24,0, "work.go:65",#[⟨11,Õ⟩,⟨10,Õ⟩,⟨10,Ŵ⟩,⟨0,Ì⟩,⟨1,Ì⟩,⟨2,Ì⟩,⟨3,Ì⟩,⟨4,Ì⟩,⟨5,Ì⟩,⟨6,Ì⟩,⟨7,Ì⟩,⟨8,Ì⟩,⟨9,Ì⟩,⟨10,Ì⟩],Á⟩
def vx:Array å:=#[H0,H2,E0,H3,E1,E2,E3,E4,H4,E5,Co,Cp,Cq]
def qO(tb a b N c:Nat)(d e:Ð)(x:ByteArray):Nat->Ð
 |0=>Æ (Â ⟨b,0,Á⟩) N N
 |1=>À<|Â ⟨tb,1,Á⟩
 |2=>É Î c
 |3=>À<|Â ⟨tb,2,Á⟩
 |4=>À<|Â ⟨a,0,Á⟩
 |5=>À<|Â ⟨a,0,Á⟩
 |6=>À<|Â ⟨a,2,Á⟩
 |7=>e
 |8=>À<|Â ⟨tb,0,Á⟩
 |9=>d
 |10=>á x
 |11=>À<|Â ⟨b,c,Á⟩
 |_=>Å
structure E6(ik:fc)(an pl:Nat)(Q:ByteArray->Prop)(listed:Array Bool)(x:ByteArray)(l:fc):Prop where
 r:iC (λa=>a=⟨an,pl,Á⟩) ik l
 vq:listed.getD 10 Í=Ó->Q x
 I:listed.getD 12 Í=Ó->l.w.cell? ⟨an,pl,Á⟩=Â (á x)
def E6.C{b l:fc}{Q:ByteArray->Prop}{listed:Array Bool}{x:ByteArray}(h:E6 b n j Q listed x l)(e:i≠10)(f:i≠12)(c:b.r ⟨n,j,Á⟩)(d:ß)(r:fI l l.w d):E6 b n j Q (listed.setIfInBounds i Ó) x {l with w:=d}:=by
 refine⟨h.r.N (λa q=>by rwa[q]) r,λq=> ?_,λq=> ?_⟩
 .rw[ç Í e]at q;exact h.vq q
 .rw[ç Í f]at q;exact(r.N _<|by rw[h.r.C];exact Ã c).trans<|h.I q
section
variable{J:Jd}{ik:fc}{an pl:Nat}{Q:ByteArray->Prop}
def aiG(W:gw ik)(hq:¬ik.q)(ht:d.size=26)(Cj:d[1]?=Â (Æ (Â ⟨an,0,Á⟩) i i))(H5:d[4]?=Â (À<|Â ⟨j,0,Á⟩))(hO:ik.O j) (J:ik.w.cell? ⟨j,0,Á⟩=Â v) (K:ik.w.cell? ⟨j,1,Á⟩=Â (É Î pl)) (M:ik.w.cell? ⟨j,2,Á⟩=Â (À<|Â ⟨n,0,Á⟩)) (X:ik.N ⟨n,2,Á⟩) (pL:ik.w.cell? ⟨n,2,Á⟩=Â z) (B:ik.r ⟨an,pl,Á⟩) (e2:(ik.w.cell? ⟨an,pl,Á⟩).isSome=Ó) (z2:ik.w.frozen? ⟨an,pl,Á⟩=Í) (rz:pl<i) (Rb:∀l,iC (λa=>a=⟨an,pl,Á⟩) ik l->∀t lO,fh Ä Í (λP S=>P.d=l.d/\∃T,S=G (t.finish<|á T) lO/\Q T) (lZ l)<|G (ć Ä 67 #[z,v] Ĥ)<|t::lO) (md:Ă) (listed:Array Bool) (a:Ş) (l:fc) (b:Nat) (rest:List Nat) (hI:II vx d (qO j n an i pl v z) (E6 ik an pl Q) listed a l) (p:b∈Ü md vx listed): fh Ä Í (λP S=>∃I,S=G ((base 51).at I<|Ï vx rest::L) qX/\II vx d (qO j n an i pl v z) (E6 ik an pl Q) (listed.setIfInBounds b Ó) I P) l (G ((base 51).at a<|Ï vx (b::rest)::L) qX):=by
 let⟨x,m,s⟩:=hI;have E:ug vx d.size=Ó:=by rw[ht];decide
 have YJ:=QS p;have gJ:=EN p;have F:=s.r.fx;have H:¬l.q:=by rwa[s.r.q]
 have V:∀y:ã,y=⟨an,pl,Á⟩->ik.r y:=λy ha=>by rwa[ha]
 have oL:a.tmps[1]?=Â (Æ (Â ⟨an,0,Á⟩) i i):=(m.C A).trans Cj;have Y:a.tmps[4]?=Â (À<|Â ⟨j,0,Á⟩):=(m.C A).trans H5;have t:∀c g,ik.w.cell? ⟨j,c,Á⟩=Â g->gX l ⟨j,c,Á⟩/\l.w.cell? ⟨j,c,Á⟩=Â g:=λc g h=>⟨Ã<|Ã<|s.r.O j hO,by rwa[gK<|s.r.r j<|Ã hO]⟩;have QX:¬((⟨n,2,Á⟩:ã)=⟨an,pl,Á⟩):=λq=>W.Y _ B<|q▸X;have N:gX l ⟨n,2,Á⟩/\l.w.cell? ⟨n,2,Á⟩=Â z:=⟨Ç (Ç<|by rwa[s.r.c]),by rwa[s.r.e _ (Ç X) QX]⟩;have QY:(pl:Int)<(i:Int):=Z
 have jr:vx.size=13:=A
 rw[jr]at gJ;match b,gJ with
 |0,_=>
  refine ij (o:=H0) E m U U p (by k_ne) F H (λk r=> ?_) (λk r e u=> ?_)<|s.C A A B
  .simp only[qO,H0];go_simp
  .simp[go_sem,H0,oL]at u
 |1,_=>
  refine ij (o:=H2) E m U U p (by k_ne) F H (λk r=> ?_) (λk r e u=> ?_)<|s.C A A B
  .simp only[qO,H2];go_simp
  .simp[go_sem,H2,Y]at u
 |2,_=>
  have Q0:a.tmps[15]?=Â (À<|Â ⟨j,1,Á⟩):=m.r 1 H2 15 U (ie (o:=E0) p U U) U;refine ij (o:=E0) E m U U p (by k_ne) F H (λk r=> ?_) (λk r e u=> ?_)<|s.C A A B
  .have D:k.cell? ⟨j,1,Á⟩=Â (É Î pl):=((t 1 _ K).1.r r).trans (t 1 _ K).2;simp only[qO,E0];go_simp
  .have D:k.cell? ⟨j,1,Á⟩=Â (É Î pl):=((t 1 _ K).1.r r).trans (t 1 _ K).2;have I:e=⟨ÿ ⟨j,1,Á⟩,Í,Í⟩:=by simp[go_sem,E0,D,Q0]at u;exact u
   subst I;exact(t 1 _ K).1.C
 |3,_=>
  refine ij (o:=H3) E m U U p (by k_ne) F H (λk r=> ?_) (λk r e u=> ?_)<|s.C A A B
  .simp only[qO,H3];go_simp
  .simp[go_sem,H3,Y]at u
 |4,_=>
  have Q5:a.tmps[17]?=Â (À<|Â ⟨j,2,Á⟩):=m.r 3 H3 17 U (ie (o:=E1) p U U) U;refine ij (o:=E1) E m U U p (by k_ne) F H (λk r=> ?_) (λk r e u=> ?_)<|s.C A A B
  .have D:k.cell? ⟨j,2,Á⟩=Â (À<|Â ⟨n,0,Á⟩):=((t 2 _ M).1.r r).trans (t 2 _ M).2;simp only[qO,E1];go_simp
  .have D:k.cell? ⟨j,2,Á⟩=Â (À<|Â ⟨n,0,Á⟩):=((t 2 _ M).1.r r).trans (t 2 _ M).2;have I:e=⟨ÿ ⟨j,2,Á⟩,Í,Í⟩:=by simp[go_sem,E1,D,Q5]at u;exact u
   subst I;exact(t 2 _ M).1.C
 |5,_=>
  have Rc:a.tmps[18]?=Â (À<|Â ⟨n,0,Á⟩):=m.r 4 E1 18 U (ie (o:=E2) p U U) U;refine ij (o:=E2) E m U U p (by k_ne) F H (λk r=> ?_) (λk r e u=> ?_)<|s.C A A B
  .simp only[qO,E2];go_simp
  .simp[go_sem,E2,Rc]at u
 |6,_=>
  have h19:a.tmps[19]?=Â (À<|Â ⟨n,0,Á⟩):=m.r 5 E2 19 U (ie (o:=E3) p U U) U;refine ij (o:=E3) E m U U p (by k_ne) F H (λk r=> ?_) (λk r e u=> ?_)<|s.C A A B
  .simp only[qO,E3];go_simp
  .simp[go_sem,E3,h19]at u
 |7,_=>
  have LD:a.tmps[20]?=Â (À<|Â ⟨n,2,Á⟩):=m.r 6 E3 20 U (ie (o:=E4) p U U) U;refine ij (o:=E4) E m U U p (by k_ne) F H (λk r=> ?_) (λk r e u=> ?_)<|s.C A A B
  .have D:k.cell? ⟨n,2,Á⟩=Â (z):=(N.1.r r).trans N.2;simp only[qO,E4];go_simp
  .have D:k.cell? ⟨n,2,Á⟩=Â (z):=(N.1.r r).trans N.2;have I:e=⟨ÿ ⟨n,2,Á⟩,Í,Í⟩:=by simp[go_sem,E4,D,LD]at u;exact u
   subst I;exact N.1.C
 |8,_=>
  refine ij (o:=H4) E m U U p (by k_ne) F H (λk r=> ?_) (λk r e u=> ?_)<|s.C A A B
  .simp only[qO,H4];go_simp
  .simp[go_sem,H4,Y]at u
 |9,_=>
  have HT:a.tmps[22]?=Â (À<|Â ⟨j,0,Á⟩):=m.r 8 H4 22 U (ie (o:=E5) p U U) U;refine ij (o:=E5) E m U U p (by k_ne) F H (λk r=> ?_) (λk r e u=> ?_)<|s.C A A B
  .have D:k.cell? ⟨j,0,Á⟩=Â (v):=((t 0 _ J).1.r r).trans (t 0 _ J).2;simp only[qO,E5];go_simp
  .have D:k.cell? ⟨j,0,Á⟩=Â (v):=((t 0 _ J).1.r r).trans (t 0 _ J).2;have I:e=⟨ÿ ⟨j,0,Á⟩,Í,Í⟩:=by simp[go_sem,E5,D,HT]at u;exact u
   subst I;exact(t 0 _ J).1.C
 |10,_=>
  have Re:a.tmps[21]?=Â (z):=m.r 7 E4 21 U (ie (o:=Co) p U U) U;have h23:a.tmps[23]?=Â (v):=m.r 9 E5 23 U (ie (o:=Co) p U U) U;refine YD (o:=Co) E m U U p (by k_ne) F (f:=67) (args:=#[z,v]) (λw=>by simp only[Co];go_simp) (λw=>ō (o:=Co) U Tryz.func67 U U #[]) λk r=> ?_;have I:=s.r.N V r;refine((Rb _ I _ _).lZ<|I.G W).fM ?_;rintro P S ⟨y,⟨hy0,T,rfl,hQ⟩,rfl,hA,YG,ais,ait⟩;refine⟨T,U,⟨I.QU V hA hy0,λ_=>hQ,λq=> ?_⟩,λc hj=> ?_⟩
  .rw[ç Í A]at q;exact absurd (m.I (o:=Cq) U q U)<|wV YJ
  .match c,hj with
   |10,hj=>exact absurd hj<|wV YJ
   |0,_|1,_|2,_|3,_|4,_|5,_|6,_|7,_|8,_|9,_|11,_|12,_|n+13,_=>rfl
 |11,_=>
  have I:a.tmps[14]?=Â (Æ (Â ⟨an,0,Á⟩) i i):=m.r 0 H0 14 U (ie (o:=Cp) p U U) U;have h16:a.tmps[16]?=Â (É Î pl):=m.r 2 E0 16 U (ie (o:=Cp) p U U) U;refine ij (o:=Cp) E m U U p (by k_ne) F H (λk r=> ?_) (λk r e u=> ?_)<|s.C A A B
  .simp only[qO,Cp];go_simp
  .simp[go_sem,Cp,rz,QY,I,h16]at u
 |12,_=>
  have h25:a.tmps[25]?=Â (À<|Â ⟨an,pl,Á⟩):=m.r 11 Cp 25 U (ie (o:=Cq) p U U) U;have Ly:a.tmps[24]?=Â (á x):=m.r 10 Co 24 U (ie (o:=Cq) p U U) U;have I:(l.w.cell? ⟨an,pl,Á⟩).isSome=Ó:=s.r.g _ U e2;have Ck:l.w.frozen? ⟨an,pl,Á⟩=Í:=(s.r.S _<|Ã B).trans z2;have lE:p7 l ⟨an,pl,Á⟩:=Ç (by rwa[s.r.I]);refine QV (o:=Cq) (y:=⟨an,pl,Á⟩) (v:=á x) E m U U U p (by k_ne) F H U lE I Ck (λw D e=> ?_) (λw D e=> ?_) λk r=> ?_
  .let⟨u,hu⟩:=Ö.1 D;simp only[Cq];go_simp
  .let⟨u,hu⟩:=Ö.1 D;simp[go_sem,Cq,h25,Ly,â _ _ _ _ _ _ (show Ú (á x)=Ó from rfl),hu,e]
  .have hA:=s.r.qz W V (x:=⟨an,pl,Á⟩) (v:=á x) U U I;refine⟨hA.N V ⟨r.r,r.I,r.N,r.Y,r.S⟩,λq=> ?_,λq=> ?_⟩
   .rw[ç Í A]at q;exact s.vq q
   .exact(r.N _<|by rw[s.r.C];exact Ã B).trans<|tM (Ö.1 I).choose_spec
 |n+13,h=>exact absurd h Z
end
def yY:Array å:=#[⟨Â 6,.recv 165 (Ò 5) Ó,0, "work.go:63",#[],Á⟩,⟨Â 7,ş (Ò 6) 1,4, "work.go:63",#[⟨0,Õ⟩],Á⟩]
def YK:Array å:=#[⟨Â 8,ş (Ò 6) 0,155, "work.go:63",#[],Á⟩,⟨Â 4,.alloc 155,0, "work.go:63",#[],Á⟩,⟨Á,ų 155 (Ò 4)<|Ò 8,0, "work.go:63",#[⟨1,Õ⟩,⟨0,Õ⟩,⟨0,Ì⟩,⟨1,Ì⟩],Á⟩]
def Rf:Array å:=#[⟨Â 9,ê 155 (Ò 4) 2,0, "work.go:64",#[],Á⟩,⟨Â 10,Č 86<|Ò 9,86, "work.go:64",#[⟨0,Õ⟩],Á⟩,⟨Â 11,Ĕ<|Ò 10,0, "work.go:64",#[⟨1,Õ⟩],Á⟩,⟨Â 12,ê 105 (Ò 11) 0,0, "work.go:64",#[⟨2,Õ⟩],Á⟩,⟨Â 13,č {callee:=û<|Ċ 53,args:=#[Ò 12],argTypes:=#[97]},0, "work.go:64",#[⟨3,Õ⟩],Á⟩]
def E7:Ġ:=((ŕ (Ò 7) Ŗ<|ŗ 0).seq<|ĥ 1<|(à 2 YK Í).seq<|(à 3 Rf Í).seq<|à 4 vx Ó)
def Cr:Ġ:=(à 1 yY Í).seq E7
def aiH:Array å:=#[⟨Â 2,Č 101<|Ò 0,101, "work.go:30",#[],Á⟩,
 ⟨Â 3,Č 25<|Ò 1,25, "work.go:30",#[],Á⟩,
 ⟨Â 4,č {callee:=û (Ċ 51),args:=#[Ò 2,Ò 3],argTypes:=#[165,25]},0, "work.go:30",#[⟨0,Õ⟩,⟨1,Õ⟩],Á⟩]
def H6(a b c d e:Ð):é:=(base 50).at ⟨#[a,b,c,d,e],[]⟩ [Ï aiH [2]]
def YL(t:Array Ð)(a:List é):Ý:=G ((base 51).at ⟨t,[]⟩ [ö Cr,Ā Cr,ï 0]) a
def yZ(t:Array Ð)(a:List é):Ý:=G ((base 51).at ⟨t,[]⟩ [Ï yY [0,1],ö E7,Ā Cr,ï 0]) a
def LF(t:Array Ð)(a:List é):Ý:=G ((base 51).at ⟨t,[]⟩ [Ï Rf [],ö<|à 4 vx Ó,ï 1,Ā Cr,ï 0]) a
def Rh(t:Array Ð)(a:List é):Ý:=G ((base 51).at ⟨t,[]⟩ [Ï yY [1],ö E7,Ā Cr,ï 0]) a
def YM(t:Array Ð)(v:Ð)(a:List é):({yZ t a with frame:=(yZ t a).frame.finish v}:Ý)=Rh (t.setIfInBounds 6 v) a:=by have:(yZ t a).frame.finish v=(base 51).at (ο ⟨t,[]⟩ (Â 6) v) [Ï yY [1],ö E7,Ā Cr,ï 0]:=Ī _ _ _ _ _ _ _;rw[this];rfl
def zT:Ð:=ę #[À Á,É Î 0,À Á,À Á]
structure QT(an N ch:Nat)(t:Array Ð):Prop where
 r:t.size=26
 C:t[1]?=Â (Æ (Â ⟨an,0,Á⟩) N N)
 I:t[5]?=Â (è<|Â ch)
def aiI(t:Array Ð)(h:t.size=26):∃a b c d e f g i j k l m n o p q r s u v w x y z B C:Ð,t=#[a,b,c,d,e,f,g,i,j,k,l,m,n,o,p,q,r,s,u,v,w,x,y,z,B,C]:=by obtain⟨_,rfl⟩:=rF t h;exact⟨_,_,_,_,_,_,_,_,_,_,_,_,_,_,_,_,_,_,_,_,_,_,_,_,_,_,U⟩
section
variable{Ψ:ß->Prop}{J u:Jd}{l:fc}{t:Array Ð}{ch an N:Nat}{a:Option ã}{Q:ByteArray->Prop}{o p r s c f:Ð}{τ:fc->fc}
def YN(a:ki l)(b:fh Ä Í J l (yZ t qX)):fh Ä Í J l (YL t qX):=by apply fN (n:=5) a;have hF:=trivial;simp only[YL,Cr];w_go fv;u_c Ņ fv hF;exact Ë λ_ _=>b
def aiJ(a:ki l)(d:¬l.q)(e:gX l ⟨k,0,Á⟩)(g:gX l ⟨b,0,Á⟩)(i:gX l ⟨n,0,Á⟩)(j:l.w.cell? ⟨k,0,Á⟩=Â (Ď (ý 50) #[] #[À<|Â ⟨b,0,Á⟩,À<|Â ⟨n,0,Á⟩]))(u:l.w.cell? ⟨b,0,Á⟩=Â (è<|Â ch))(v:l.w.cell? ⟨n,0,Á⟩=Â (Æ (Â ⟨an,0,Á⟩) N N)) (y:∀t o p r s x z jQ c f,QT an N ch t->fh Ä Í J l (yZ t [H6 x z jQ c f,yW m o p r s,nS Ä])): fh Ä Í J l (born Ä<|pb 63 #[À<|Â ⟨m,0,Á⟩,À<|Â ⟨k,0,Á⟩] #[]):=by
 apply fN (n:=30) a;have hF:=trivial;u_c (Yu ż fO U) fv hF;walk_nrmf ι;iterate 3 w_go fv
 u_c (Ys U U (by k_ne) U U) fv hF
 walk_nrm;repeat w_go fv
 refine Ë λ_ _=> ?_;apply nT U U (by k_ne) a d e j (λw h=>by go_simp) (λw h=>by simp[go_sem,h]);walk_nrm;apply fN (n:=30) a;u_c (Yt U U (by k_ne) U U ſ fO U) fv hF;walk_nrmf Tryz.f50;w_go fv;refine Ë λ_ _=> ?_;apply nT U U (by k_ne) a d g u (λw h=>by go_simp) (λw h=>by simp[go_sem,h]);walk_nrm;apply nT U U (by k_ne) a d i v (λw h=>by go_simp) (λw h=>by simp[go_sem,h]);walk_nrm;apply fN (n:=30) a;u_call Α fO Tryz.f51 fv hF;iterate 6 w_go fv
 refine Ë λ_ _=> ?_;exact YN a<|y _ _ _ _ _ _ _ _ _ _ ⟨U,U,U⟩
def aiK{Y:Ð}(G:gw l)(M:¬l.q)(P:l.d=0)(hT:QT an N ch t)(hB:60<=i)(aiL:Y=ę #[À a,É Î j7,À<|Â ⟨j9,0,Á⟩,À O])(Q:l.K ⟨j9,0,Á⟩/\l.K ⟨j9,1,Á⟩)(H7:mN j9 l.w) (Ri:l.K ⟨j,0,Á⟩/\l.K ⟨j,1,Á⟩) (hsa:mN j l.w) (hs:gX l ⟨m,0,Á⟩) (hc:l.w.cell? ⟨m,0,Á⟩=Â (À<|Â ⟨j,0,Á⟩)) (aiM:∀H k t',iC (λ_=>False) l H->H.d=0->H.O k->H.w.cell? ⟨k,0,Á⟩=Â (À a)->H.w.cell? ⟨k,1,Á⟩=Â (É Î j7)->H.w.cell? ⟨k,2,Á⟩=Â (À<|Â ⟨j9,0,Á⟩)->QT an N ch t'->t'[4]?=Â (À<|Â ⟨k,0,Á⟩)->u H (LF t' [H6 x z jQ c f,yW m o p r s,nS Ä])): wH Ä Í ch zT (λb=>match b with
  |some v=>λl g=>v=Y->qH Ä Í i j9 u .iW l g
  |none=>λl g=>yt Ä Í j (EL Ä) (kz l) g) l (yZ t [H6 x z jQ c f,yW m o p r s,nS Ä]):=by
 obtain⟨y0,y1,y2,y3,y4,y5,y6,y7,y8,y9,wY,yV,wZ,rG,sN,qM,vr,vt,uj,uk,um,sP,sQ,sR,uo,vu,rfl⟩:=aiI t hT.r;obtain rfl:y1=Æ (Â ⟨an,0,Á⟩) N N:=by simpa using hT.C
 obtain rfl:y5=è (Â ch):=by simpa using hT.I
 have hF:=trivial;refine⟨U,U,λD=> ?_,λb=> ?_⟩
 .refine(Ι (cases:=#[rcase ch zT]) (blocking:=Ó) (shape:=.recv Ó) (w':=D) rfl rfl (by k_ne) ?_).trans ?_
  .simp[go_sem,yY,Đ,rcase,zT]
  .simp[listed,go_sem,yY,Đ,ı];rfl
 cases b with
 |none=>
  rw[YM];simp only[Rh,E7,yY,Option.getD_none,ļ,Ĝ,Ľ,ľ];apply fN (n:=30) G.r;iterate 6 w_go fv
  u_leave0 Α fv hF
  iterate 2 w_go fv
  u_leave0 ſ fv hF
  refine Ë λ_ _=> ?_;exact YF (Ψ:=λ_=>True) Ri ⟨Ã Ri.1,Ã Ri.2,λ_ _ _ _ _ _ _ _=>trivial⟩ ⟨G.r,hsa,trivial⟩ P M hs hc
 |some v=>
  by_cases hv:v=Y
  .subst hv;subst aiL;apply fh.fM λl g h _=>h;rw[YM];simp only[Rh,E7,yY,ŏ,Option.isSome_some,Ĝ,Ľ,ľ];apply fN (n:=30) G.r;iterate 7 w_go fv
   u_c Ņ fv hF
   simp only[YK,ņ,Ő,Ś,Ů,ĕ,ä,List.range.loop];w_go fv;refine Ë λ_ _=> ?_;have rH:∀y:ã,False->l.r y:=λy ha=>ha.elim;refine HU (ob:=Ê #[À Á,É Î 0,À Á,À Á] 155) U U (by k_ne) G.r M (λw=>by go_simp) (λw=>by simp[go_sem]) λD kC=> ?_;walk_nrm;have S:iC (λ_=>False) l (gI l D<|Ê #[À Á,É Î 0,À Á,À Á] 155):=LA G rH kC;have oL:(gI l D<|Ê #[À Á,É Î 0,À Á,À Á] 155).w.heap[D.heap.size]?=Â (Ê #[À Á,É Î 0,À Á,À Á] 155):=mQ;have sT:=kC.r;have I:(gI l D<|Ê #[À Á,É Î 0,À Á,À Á] 155).O D.heap.size:=Ç U;generalize gI l D (Ê #[À Á,É Î 0,À Á,À Á] 155)=l₁ at S oL I|-;generalize D.heap.size=k at oL I sT|-;refine vo U U (by k_ne) λC n8=> ?_;have J:=(n8.I k<|Ã I).trans oL;have E8:C.cell? ⟨k,0,Á⟩=Â (À Á):=by simp[Ù,J]
   have yN:C.cell? ⟨k,1,Á⟩=Â (É Î 0):=by simp[Ù,J]
   have qP:C.cell? ⟨k,2,Á⟩=Â (À Á):=by simp[Ù,J]
   have uw:C.cell? ⟨k,3,Á⟩=Â (À Á):=by simp[Ù,J]
   have hz:∀g,C.frozen? ⟨k,g,Á⟩=Í:=λg=>by simp[ð,J]
   go_simp;refine⟨{l₁ with w:=iR C k (À a) (É Î j7) (À<|Â ⟨j9,0,Á⟩) (À O)},LB (mA S.fx n8) (by rwa[S.q]) I wW (λg F=>yS F) ⟨U,U,U⟩ λe L=> ?_,?_⟩
   .have E:=Ě L;have B:∀g,p7 l₁ ⟨k,g,Á⟩:=λg=>Ã I;simp[go_sem,â _ _ _ _ _ _ (show Ú (À a)=Ó from rfl),â _ _ _ _ _ _ (show Ú (À<|Â ⟨j9,0,Á⟩)=Ó from rfl),â _ _ _ _ _ _ (show Ú (À O)=Ó from rfl),E8,yN,qP,uw,hz]at E;rcases E with rfl|rfl|rfl|rfl
    .exact(B _).r
    .exact(B _).r
    .exact(B _).r
    .exact(B _).r
   obtain⟨T,V,L,c3⟩:=Q6 E8 yN qP uw;have E:=Q7 (w':=iR C k (À a) (É Î j7) (À<|Â ⟨j9,0,Á⟩)<|À O) G rH S n8 sT wW λg F=>yS F;have W:({l₁ with w:=iR C k (À a) (É Î j7) (À<|Â ⟨j9,0,Á⟩) (À O)}:fc).O k:=I;replace T:({l₁ with w:=iR C k (À a) (É Î j7) (À<|Â ⟨j9,0,Á⟩) (À O)}:fc).w.cell? ⟨k,0,Á⟩=_:=T;replace V:({l₁ with w:=iR C k (À a) (É Î j7) (À<|Â ⟨j9,0,Á⟩) (À O)}:fc).w.cell? ⟨k,1,Á⟩=_:=V;replace L:({l₁ with w:=iR C k (À a) (É Î j7) (À<|Â ⟨j9,0,Á⟩) (À O)}:fc).w.cell? ⟨k,2,Á⟩=_:=L;generalize({l₁ with w:=iR C k (À a) (É Î j7) (À<|Â ⟨j9,0,Á⟩) (À O)}:fc)=l₂ at T V L E W|-;have X:=E.G G;have qc:¬l₂.q:=by rwa[E.q]
   apply fN (n:=9) X.r;iterate 2 w_go fv
   u_c Ņ fv hF
   simp only[Rf,ņ,Ő,Ś,Ů,ĕ,ä,List.range.loop];w_go fv;refine Ë λ_ _=> ?_;apply nT U U (by k_ne) X.r qc (Ã<|Ã W) L (λw h=>by go_simp) (λw h=>by simp[go_sem,h]);walk_nrm;apply fN (n:=9) X.r;iterate 2 w_go fv
   u_call qL.f_wait (nm_wait Lk) waitFn fv hF
   refine Ë λ_ _=> ?_;have k2:lY (λw=>fI l₂ l₂.w w) l₂ j9:=⟨Ã (by rw[E.K];exact Q.1),Ã (by rw[E.K];exact Q.2),λw D h1 h2 h3 h4 h5 h=>h.ff ⟨h1,h2,h3,h4,h5⟩⟩;have s2:SW (λw=>fI l₂ l₂.w w) l₂ j9 l₂.w:=⟨X.r,⟨E.b _ Q.1 H7.1,E.b _ Q.2 H7.2⟩,fI.fT _ _⟩;refine Yq qL hB k2 s2 (E.d.trans P) λD YO=> ?_;walk_nrm;refine .fA λCl F=> ?_;have B:=E.N rH<|YO.2.2.ff ⟨F.r,F.I,F.N,F.Y,F.S⟩;have hdd:=E.d.trans P;have Cs:iC (λ_=>False) l ({l₂ with d:=0,w:=Cl}:fc):=⟨B.O,B.h,B.Y,B.I,B.c,B.K,B.q,P.symm,B.fx,B.f,B.r,B.e,B.S,B.b,B.g⟩;have rr:=YO.2.2.ff ⟨F.r,F.I,F.N,F.Y,F.S⟩;have cc:∀g,Cl.cell? ⟨k,g,Á⟩=l₂.w.cell? ⟨k,g,Á⟩:=λg=>gK<|rr.I k<|Ã W;exact aiM {l₂ with d:=0,w:=Cl} k _ Cs U W ((cc 0).trans T) ((cc 1).trans V) ((cc 2).trans L) ⟨U,U,U⟩ U
  .exact .fA λ_ _ e=>absurd e hv
end
section
variable{J:Jd}{l:fc}{t:Array Ð}{Q:ByteArray->Prop}
def za(f:gw l)(D:¬l.q)(g:QT n i j t)(M:t[4]?=Â (À<|Â ⟨m,0,Á⟩))(N:l.O m) (P:l.w.cell? ⟨m,0,Á⟩=Â (À O)) (S:l.w.cell? ⟨m,1,Á⟩=Â (É Î k)) (T:l.w.cell? ⟨m,2,Á⟩=Â (À<|Â ⟨b,0,Á⟩)) (V:l.N ⟨b,2,Á⟩) (W:l.w.cell? ⟨b,2,Á⟩=Â v) (p:l.r ⟨n,k,Á⟩) (X:(l.w.cell? ⟨n,k,Á⟩).isSome=Ó) (Y:l.w.frozen? ⟨n,k,Á⟩=Í) (rz:k<i) (Rb:∀e,iC (λa=>a=⟨n,k,Á⟩) l e->∀E F,fh Ä Í (λl'' g'=>l''.d=e.d/\∃H,g'=G (E.finish<|á H) F/\Q H) (lZ e)<|G (ć Ä 67 #[v,À O] Ĥ)<|E::F) (hJ:∀e x I,iC (λa=>a=⟨n,k,Á⟩) l e->Q x->e.w.cell? ⟨n,k,Á⟩=Â (á x)->QT n i j I->J e (yZ I qX)): fh Ä Í J l (LF t qX):=by
 have K:∀y:ã,y=⟨n,k,Á⟩->l.r y:=λy ha=>by rwa[ha]
 have hF:=trivial;apply fN (n:=3) f.r;simp only[LF];w_go fv;refine Ë λ_ _=> ?_;refine QP (II vx t (qO m b n i k (À O) v)<|E6 l n k Q) f.r D (λo h=> ?_) (λs u a l c o z r=>aiG f D g.r g.C M N P S T V W p X Y rz Rb s u a l c o z r) λs u a kt z B C=> ?_
 .refine⟨ByteArray.empty,mO.G _ _ _,(iC.fT f.r).N K ⟨h.r,h.I,h.N,h.Y,h.S⟩,λq=> ?_,λq=> ?_⟩<;>exact absurd q A
 let⟨x,o,h⟩:=z;have L:∀c∈ä 13,u.getD c Í=Ó:=by
  cases s
  .exact p8 C B (ä 13) [] fO λc r=>by cases r
  .exact p8 C B (ä 13) [] fO λc r=>by cases r
  .exact p8 C B (ä 13) [] fO λc r=>by cases r
 have s:=h.r.G f;let⟨B,C⟩:=a;obtain rfl:C=[]:=o.M;apply fN (n:=9) s.r;iterate 3 w_go fv
 refine Ë λ_ _=> ?_;refine YN s.r<|.fA λw₁ r=>(hJ {kt with w:=w₁} x B (h.r.N K r) (h.vq<|L 10 A) ((r.N _<|Ã<|by rwa[h.r.I]).trans<|h.I<|L 12 A) ⟨o.S.trans g.r,((o.C A).trans g.C),((o.C A).trans g.I)⟩)
end
structure gh(X:Nat->Prop)(l l':fc):Prop where
 O:∀j,l.O j->l'.O j
 c:∀j,l'.O j->l.O j\/l.w.heap.size<=j
 S:l'.I=l.I
 Y:l'.r=l.r
 b:l'.N=l.N
 K:l'.K=l.K
 q:l'.q=l.q
 d:l'.d=l.d
 fx:ki l'
 I:l.w.heap.size<=l'.w.heap.size
 r:∀j,l.M j->¬X j->l'.w.heap[j]?=l.w.heap[j]?
 f:∀a,l.C a->l'.w.cell? a=l.w.cell? a
 g:∀a,l.C a->l'.w.frozen? a=l.w.frozen? a
 e:∀a,l.K a->(l.w.cell? a).isSome=Ó->(l'.w.cell? a).isSome=Ó
section
variable{l l' l'':fc}
def gh.fT(h:ki l):gh X l l:=⟨λ_ h=>h,λ_ h=>Ã h,U,U,U,U,U,U,h,Û _,λ_ _ _=>rfl,λ_ _=>rfl,λ_ _=>rfl,λ_ _ h=>h⟩
def gh.C(h:gh X l l'):l'.C=l.C:=by unfold fc.C;rw[h.Y,h.b]
def gh.M(h:gh X l l')(a:l.M b):l'.M b:=a.imp (h.O b)<|by rw[h.S];exact id
def gh.ff(h:gh X l l')(k:gh X l' l''):gh X l l'':=by have e:=h.C;exact⟨λj c=>k.O j<|h.O j c,λj c=>(k.c j c).elim (h.c j) λq=>Ç<|Ø h.I q,k.S.trans h.S,k.Y.trans h.Y,k.b.trans h.b,k.K.trans h.K,k.q.trans h.q,k.d.trans h.d,k.fx,Ø h.I k.I,λj c f=>(k.r j (h.M c) f).trans<|h.r j c f,λa b=>(k.f a<|by rwa[e]).trans<|h.f a b,λa b=>(k.g a<|by rwa[e]).trans<|h.g a b,λa b q=>k.e a (by rwa[h.K])<|h.e a b q⟩
def gh.G(h:gh X l l'){w₁:ß}(r:fI l' l'.w w₁):gh X l {l' with w:=w₁}:= h.ff ⟨λ_ q=>q,λ_ q=>Ã q,U,U,U,U,U,U,mA h.fx r,r.r,λj a _=>r.I j a,r.N,r.Y,r.S⟩
def gh.fM{a:Nat->Prop}(h:gh X l l')(c:∀j,l.M j->X j->a j):gh a l l':=⟨h.O,h.c,h.S,h.Y,h.b,h.K,h.q,h.d,h.fx,h.I,λj b e=>h.r j b λq=>e<|c j b q,h.f,h.g,h.e⟩
def gh.N(h:gh X l l')(s:gw l):gw l' where
 c b hb:=by
  rw[h.S];rcases h.c b hb with q|q
  .exact s.c b q
  .exact λz=>by have:=s.fx b<|Ç z;omega
 Y a ha:=by rw[h.b];exact s.Y a<|by rwa[<-h.Y]
 N a ha hb:=by
  rw[h.C]at ha;rcases hb with q|q
  .rcases h.c _ q with z|z
   .exact s.N a ha<|Ã z
   .have:=s.I a ha;omega
  .rw[h.S]at q;exact s.N a ha<|Ç q
 fx b hb:=by
  rcases hb with q|q
  .exact h.fx b q
  .rw[h.S]at q;exact È (s.fx b<|Ç q) h.I
 I a ha:=by rw[h.C]at ha;exact È (s.I a ha) h.I
 S a ha:=by
  rw[h.K]at ha;let⟨c,d,e⟩:=s.S a ha;refine⟨λq=> ?_,È d h.I,by rwa[h.Y]⟩;rcases q with q|q
  .rcases h.c _ q with z|z
   .exact c<|Ã z
   .omega
  .rw[h.S]at q;exact c<|Ç q
def mR{ob:Ζ}(s:gw l){w₁:ß}(r:fI l l.w w₁):gh X l (gI l w₁ ob):=by have h:=LA (E:=λ_=>False) (ob:=ob) s (λ_ q=>q.elim) r;exact⟨h.O,h.h,h.Y,h.I,h.c,h.K,h.q,h.d,h.fx,h.f,λj b _=>h.r j b,λa c=>h.e a c id,h.S,h.b⟩
def LG{w':ß}{p:Nat}(s:gw l)(r:fI l l.w u)(c:l.O p)(g:X p)(d:w'.heap.size=u.heap.size)(b:∀j,j≠p->w'.heap[j]?=u.heap[j]?):gh X l {l with w:=w'}:=by
 have f:∀a:ã,l.C a->a.block≠p:=λa h e=>s.N a h<|Ã<|e▸c;refine⟨λ_ q=>q,λ_ q=>Ã q,U,U,U,U,U,U,λj q=> ?_,?_,λj q n=>(b j λe=>n<|e▸g).trans<|r.I j q,λa q=>(gK<|b _<|f a q).trans<|r.N a q,λa q=>(wG<|b _<|f a q).trans<|r.Y a q,λa q z=> ?_⟩
 .show j<w'.heap.size;rw[d];exact È (s.fx j<|Ã q) r.r
 .show l.w.heap.size<=w'.heap.size;rw[d];exact r.r
 .show(w'.cell? a).isSome=Ó;rw[gK (b a.block λe=>(s.S a q).1<|Ã<|e▸c)];exact r.S a q z
end
section
variable{J:Jd}{l:fc}{b:é}{a:Ş}{k:List Ż}{cs:List é}{ob:Ζ}
def pf{V:Nat->Ð}(d:Q[i]?=Â o)(e:Ğ o (ŵ Q a.tmps)=Ó)(f:b.kind≠Η)(g:ki l)(h:¬l.q) (j:∀w,(Đ a.eval o).run P w=.ok (.value<|V w.heap.size) (w.alloc ob)) (m:∀w,(Đ a.eval o).events P w #[]=#[]) (n:∀c,fI l l.w c->fh P yQ J (gI l c ob) (G (b.at (a.put o.dst<|V c.heap.size)<|Ï Q jJ::k) cs)):fh P yQ J l (G (b.at a<|Ï Q (i::jJ)::k) cs):=by
 refine vo d e f λc r=> ?_;rw[j c];refine⟨_,?_,n c r⟩;have:listed P b.fn a o c=#[]:=by unfold listed;rw[m c,ı]
 rw[this];exact YH (mA g r) h
def H8{p off:Nat}{u:Ð}(m:Q[i]?=Â o)(n:Ğ o (ŵ Q a.tmps)=Ó)(s:b.kind≠Η)(t:ki l)(x:¬l.q)(c:l.O p)(f:l.w.cell? ⟨p,off,Á⟩=Â u)(y:l.w.frozen? ⟨p,off,Á⟩=Í)(z:o.dst=Á) (B:∀w,w.cell? ⟨p,off,Á⟩=Â u->w.frozen? ⟨p,off,Á⟩=Í->(Đ a.eval o).run P w=.ok .skip (w.setCell ⟨p,off,Á⟩ v)) (C:∀w,w.cell? ⟨p,off,Á⟩=Â u->w.frozen? ⟨p,off,Á⟩=Í->(Đ a.eval o).events P w #[]=#[⟨ÿ ⟨p,off,Á⟩,Ó,Í⟩]) (D:fh P yQ J {l with w:=l.w.setCell ⟨p,off,Á⟩ v} (G (b.at a<|Ï Q jJ::k) cs)):fh P yQ J l (G (b.at a<|Ï Q (i::jJ)::k) cs):=by
 have E:gX l ⟨p,off,Á⟩:=Ã<|Ã c;refine vo m n s λg r=> ?_;have d:=(E.r r).trans f;have j:=(wG<|r.I p<|Ã c).trans y;rw[B g d j];refine⟨_,YB U (mA t r) x (Ã c) λe h=> ?_,?_⟩
 .have:=Ě h;rw[C g d j]at this;have:e=⟨ÿ ⟨p,off,Á⟩,Ó,Í⟩:=by simpa using this
  subst this;exact p7.r<|Ã c
 .have:(a.put o.dst Å)=a:=by rw[z];rfl
  rw[this];exact D.jW<|yJ<|YA U (by rw[f];rfl) (by rw[d];rfl) r
def mS(l:fc)(w₁ a:ß):fc:={l with O:=λb=>l.O b\/(w₁.heap.size<=b/\b<a.heap.size),w:=a}
def LH(s:gw l){w₁:ß}(r:fI l l.w w₁){a:Option Nat}(d:w₁.grownBy u a)(c:∀k,a=Â k->l.O k/\X k):gh X l (mS l w₁ u):=by
 have i:=r.r;have m:=d.size;have b:∀j,j<l.w.heap.size->Â j≠a->u.heap[j]?=w₁.heap[j]?:=λj o g=>d.block j Z g;have f:∀x:ã,l.C x->Â x.block≠a:=λx h e=>s.N x h<|Ã (c _ e.symm).1;refine⟨λ_ q=>Ã q,λj q=>q.imp id λz=>by omega,U,U,U,U,U,U,λj q=> ?_,?_,λj q n=>(b j (s.fx j q) λe=>n (c j e.symm).2).trans<|r.I j q,λx q=>(gK<|b _ (s.I x q)<|f x q).trans<|r.N x q,λx q=>(wG<|b _ (s.I x q)<|f x q).trans<|r.Y x q,λx q z=> ?_⟩
 .show j<u.heap.size;rcases q with q|q
  .have:=s.fx j<|Ã q;omega
  .exact q.2
 .show l.w.heap.size<=u.heap.size;omega
 .show(u.cell? x).isSome=Ó;rw[gK (b x.block (s.S x q).2.1 λe=>(s.S x q).1<|Ã (c _ e.symm).1)];exact r.S x q z
def nU{w₁:ß}{sz:Nat}{xs:List Ð}(h:w.ownsRow i e sz v n xs)(a:∀k,v.ownBlock=Â k->w₁.heap[k]?=w.heap[k]?):w₁.ownsRow i e sz v n xs:=by refine⟨h.1,h.2.imp id ?_⟩;rintro⟨g,b,c,rfl,d,f,j⟩;exact⟨g,b,c,U,d,(a g U).trans f,j⟩
def Rj{p:Nat}{u:Ð}(h:w.cell? ⟨p,0,Á⟩=Â u):∀j y,[u][j]?=Â y->w.cell? ⟨p,j,Á⟩=Â y
 |0,_,e=>Ô e▸h
 |_+1,_,e=>by cases e
def aiN{r a:List Ð}(f:P.underlying t=Â (.slice e))(h:P.info? e=Â zJ)(s:zJ.zero=Â z)(k:zJ.size=j9)(B:a.length=j9)(E:(n+1)*zJ.bytes<=140737488355328)(F:n+1<=ť) (l:w.ownsRow 0 e j9 v n r) (o:∀j y,a[j]?=Â y->w.cell? ((⟨m,0,Á⟩:ã).add j)=Â y) (G:∀u∈a,u.oneCell'=Ó) (b:(Builtin.append_ #[t,t] T #[v,Æ (Â ⟨m,0,Á⟩) 1 i]).run P w=.ok x W):x.ownBlock=v.ownBlock\/x.ownBlock=Â w.heap.size:=by
 have p:a.length=1*zJ.size:=by rw[k,B];omega
 have K:n+1<=9223372036854775807:=by simp only[ť]at F;omega
 rcases l.2 with⟨rfl,rfl⟩|⟨g,q,C,rfl,_,H,L,M,I,N⟩
 .have d:=run_append_nil (P:=P) w t T e zJ z f h s ⟨m,0,Á⟩ 1 i a p o Z Z Z;rw[d]at b;cases b;exact Ç U
 .by_cases D:n+1<=q
  .have J:n*zJ.size+a.length<=C.size:=by
    rw[I,k,B,show n*j9+j9=(n+1)*j9 by rw[Nat.add_mul];omega];exact Nat.mul_le_mul_right _ D
   have d:=run_append_room (P:=P) w t T e zJ f h g n q C H ⟨m,0,Á⟩ 1 i a p o G D J;rw[d]at b;cases b;exact Ã U
  .have d:=run_append_grow (P:=P) w t T e zJ z f h s ⟨g,0,Á⟩ n q r (by rw[k];exact l.1) (l.cells (g:=g) U) ⟨m,0,Á⟩ 1 i a p o Z Z<|growslice_fits Z E;rw[d]at b;cases b;exact Ç U
def H9{x:ĭ}{inf:Λ}{c px sz:Nat}{xs us:List Ð}(ho:Q[i]?=Â o)(hw:Ğ o (ŵ Q a.tmps)=Ó)(hk:b.kind≠Η)(sn:gw l)(hq:¬l.q) (V:o.op=č {callee:=Ŧ .append,args:=#[qQ,x],argTypes:=#[t,t]}) (W:a.eval qQ=v) (X:a.eval x=Æ (Â ⟨px,0,Á⟩) 1 c) (E:P.underlying t=Â (.slice e)) (F:P.info? e=Â inf) (H:inf.zero=Â z) (I:inf.size=sz) (jr:0<sz) (LJ:us.length=sz) (rK:z.cells.size=sz) (K:(n+1)*inf.bytes<=140737488355328) (L:n+1<=ť) (lE:l.w.ownsRow 0 e sz v n xs) (C:∀k,v.ownBlock=Â k->l.O k) (Y:l.O px) (hu:∀j u,us[j]?=Â u->l.w.cell? ⟨px,j,Á⟩=Â u) (f:∀u∈us,u.oneCell'=Ó) (hn:∀d B g,fI l l.w d->g.ownsRow 0 e sz B (n+1) (xs++us)->d.grownBy g v.ownBlock->(∀k,B.ownBlock=Â k->(mS l d g).O k)->(B.ownBlock=v.ownBlock\/B.ownBlock=Â d.heap.size)->fh P yQ J (mS l d g) (G (b.at (a.put o.dst B)<|Ï Q jJ::k) cs)): fh P yQ J l (G (b.at a<|Ï Q (i::jJ)::k) cs):=by
 refine vo ho hw hk λd r=> ?_;have hM:∀k,l.O k->d.heap[k]?=l.w.heap[k]?:=λk q=>r.I k<|Ã q;have M:=nU lE (w₁:=d) λk q=>hM k<|C k q;have N:∀j w,us[j]?=Â w->d.cell? ((⟨px,0,Á⟩:ã).add j)=Â w:=λj w h=>by rw[ħ,ĕ];exact(gK<|hM px Y).trans<|hu j w h
 have Ct:us.length=1*sz:=Z
 let⟨B,g,iH,hown',p,vv⟩:=run_append_own (P:=P) d 0 t o.type e inf z sz inf.bytes E F H I U rK jr v n xs M ⟨px,0,Á⟩ 1 c us Ct N f L K<|Ĉ _;have uy:=aiN E F H I LJ K L M N f iH;refine uponK_append qQ x t V W X iH ⟨mS l d g,?_,hn d B g r hown' p (λk q=> ?_) uy⟩
 .have he:∀D∈listed P b.fn a o d,wU (mS l d g) D:=λD S=>by
   have h2:=Ě S;rw[events_append_op qQ x t V W X]at h2;rcases(events_append_where (P:=P) d 0 t o.type e inf z sz inf.bytes E F H I rfl v n xs M ⟨px,0,Á⟩ 1 c us Ct N f L K) D h2 with⟨ad,T,y⟩|⟨m,rfl,aiO⟩
   .refine⟨Ã ⟨ad,T,Ã ?_⟩,by rw[T];simp,by rw[T];simp⟩;rcases y with⟨_,y⟩|y
    .exact Ã<|by rwa[y]
    .exact Ã<|C _ y.symm
   .have tY:m=.noRoom:=aiO;subst tY;exact⟨Ç<|Ã U,fj,fj⟩
  refine⟨p.size,λj q=>q.imp id λz=>z.1,λj q=> ?_,U,U,U,U,λj T f _=>p.block j T λe=>f<|C j e.symm,λy m f _=>gK (p.block _ m λe=>f<|C _ e.symm),λy m f=>wF (p.block _ m λe=>f<|C _ e.symm),p.os,p.output,p.tape,λD S=>(he D S).1,(Lu he _).symm,U,λq=>absurd q hq,U⟩;rcases q with q|q
  .exact È ((mA sn.r r) j q) p.size
  .exact q.2
 .have y:k<g.heap.size:=(hown'.lt k q).2;rcases uy with m|m
  .exact Ã<|C k<|by rwa[<-m]
  .rw[m]at q;obtain rfl:=Ô q;exact Ç ⟨Û _,y⟩
end
def YP:Array å:=#[⟨Â 25,Ű (ý 48) #[] #[Ò 9,Ò 8],1, "work.go:24",#[],Á⟩,⟨Â 26,č {callee:=û<|Ċ 47,args:=#[Ò 12,Ò 25],argTypes:=#[97,1]},0, "work.go:24",#[⟨0,Õ⟩],Á⟩]
def YQ:Array å:=#[⟨Â 13,Ĳ<|ò<|Æ Á 0 0,100, "work.go:25",#[],Á⟩]
def YR:Array å:=#[⟨Â 27,ü<|Ò 2,3, "work.go:26",#[],Á⟩,⟨Â 28,ü<|ò<|É Î 0,3, "work.go:26",#[],Á⟩]
def Rk:Array å:=#[⟨Â 29,ń .lss 3 (Ò 28) (Ò 27) 3,4, "work.go:26",#[],Á⟩]
def YS:Array å:=#[⟨Â 30,ü<|Ò 10,85, "work.go:28",#[],Á⟩,⟨Â 31,č {callee:=Ŧ .len,args:=#[Ò 30],argTypes:=#[85]},3, "work.go:28",#[⟨0,Õ⟩],Á⟩,⟨Â 32,.makeChan 101<|Ò 31,101, "work.go:28",#[⟨1,Õ⟩],Á⟩,⟨Â 14,.alloc 101,0, "work.go:28",#[],Á⟩,⟨Á,ų 101 (Ò 14)<|Ò 32,0, "work.go:28",#[⟨3,Õ⟩,⟨2,Õ⟩,⟨0,Ì⟩,⟨1,Ì⟩,⟨2,Ì⟩,⟨3,Ì⟩],Á⟩]
def YT:Array å:=#[⟨Â 33,ü<|Ò 13,100, "work.go:29",#[],Á⟩,⟨Â 34,Č 101<|Ò 14,101, "work.go:29",#[],Á⟩,⟨Â 35,.buildSlice 100 1 #[(0,Ò 34)],100, "work.go:29",#[⟨1,Õ⟩],Á⟩,⟨Â 36,č {callee:=Ŧ .append,args:=#[Ò 33,Ò 35],argTypes:=#[100,100]},100, "work.go:29",#[⟨0,Õ⟩,⟨2,Õ⟩],Á⟩,⟨Â 13,Ĳ<|Ò 36,100, "work.go:29",#[⟨3,Õ⟩,⟨3,Ŵ⟩,⟨0,Ì⟩,⟨1,Ì⟩,⟨2,Ì⟩,⟨3,Ì⟩],Á⟩]
def LK:Array å:=#[⟨Â 37,Ű (ý 50) #[] #[Ò 14,Ò 8],1, "work.go:30",#[],Á⟩,⟨Â 38,č {callee:=û<|Ċ 47,args:=#[Ò 12,Ò 37],argTypes:=#[97,1]},0, "work.go:30",#[⟨0,Õ⟩],Á⟩]
def Rl:Array å:=#[⟨Â 39,ń .add 3 (Ò 28) (ò<|É Î 1) 3,3, "work.go:26",#[],Á⟩,⟨Â 28,ü<|Ò 39,3, "work.go:26",#[⟨0,Õ⟩],Á⟩]
def LL:Array å:=#[⟨Â 40,ü<|Ò 10,85, "work.go:32",#[],Á⟩,⟨Â 41,ü<|Ò 13,100, "work.go:32",#[],Á⟩,⟨Â 42,č {callee:=û<|Ċ 52,args:=#[Ò 40,Ò 41],argTypes:=#[85,100]},0, "work.go:32",#[⟨0,Õ⟩,⟨1,Õ⟩],Á⟩]
def LN:Array å:=#[⟨Â 43,č {callee:=û<|Ċ 53,args:=#[Ò 12],argTypes:=#[97]},0, "work.go:33",#[],Á⟩]
def Ia:å:=⟨Â 44,Č 25<|Ò 8,25, "work.go:34",#[],Á⟩
def Ib:å:=⟨Â 45,ü<|Ò 11,86, "work.go:34",#[{on:=5,ground:=ø Ñ}],Á⟩
def Ic:å:=⟨Â 46,Ĕ<|Ò 45,0, "work.go:34",#[⟨1,Õ⟩,{on:=5,ground:=ø Ñ}],Á⟩
def Ie:å:=⟨Â 47,ê 105 (Ò 46) 1,0, "work.go:34",#[⟨2,Õ⟩,{on:=5,ground:=ø Ñ}],Á⟩
def Ig:å:=⟨Â 48,Č 65<|Ò 47,65, "work.go:34",#[⟨3,Õ⟩,{on:=5,ground:=ø Ñ}],Á⟩
def Ih:å:=⟨Â 6,Ĳ<|Ò 44,25, "work.go:34",#[⟨0,Õ⟩,⟨0,Ì⟩,{on:=1,ground:=Þ Ñ},{on:=2,ground:=Þ Ñ},{on:=3,ground:=Þ Ñ},{on:=4,ground:=Þ Ñ}],Á⟩
def Ii:å:=⟨Â 7,Ĳ<|Ò 48,65, "work.go:34",#[⟨4,Õ⟩,⟨5,Ŵ⟩,⟨0,Ì⟩,⟨1,Ì⟩,⟨2,Ì⟩,⟨3,Ì⟩,⟨4,Ì⟩,⟨5,Ì⟩],Á⟩
def xc:Array å:=#[Ia,Ib,Ic,Ie,Ig,Ih,Ii]
def LO:Ġ:=(à 14 xc Ó).seq π
def LP:Ġ:=(à 12 LL Í).seq<|(à 13 LN Í).seq LO
def E9:Ġ:=(à 7 Rk Í).seq<|(ŕ (Ò 29) Ŗ<|ŗ 0).seq<|(ĥ 1<|(à 8 YS Í).seq<|(à 9 YT Í).seq<|à 10 LK Í).seq<|à 11 Rl Í
def sA:Ġ:=(à 5 YQ Í).seq<|((à 6 YR Í).seq<|ĥ 0 E9.loop).seq LP
def Cu(t:Array Ð)(a:List é):Ý:=G ((base 37).at ⟨t,[]⟩ [ö E9,Ā E9,ï 0,ö LP]) a
def Fa(t:Array Ð):é:=(base 37).at ⟨t,[]⟩ [Ï YP [1],ö sA]
def LQ(t:Array Ð):é:=(base 37).at ⟨t,[]⟩ [Ï LK [1],ï 1,ö<|à 11 Rl Í,Ā E9,ï 0,ö LP]
def Ij:Array å:=#[⟨Â 6,Ű (ý 63) #[] #[Ò 2,Ò 3],1, "waitgroup.go:238",#[],Á⟩,
 ⟨Á,.go {callee:=û (Ò 6),args:=#[],argTypes:=#[]},0, "waitgroup.go:238",#[⟨0,Õ⟩],Á⟩]
def tG(c d e f:Ð)(a b:Nat):Array Ð:=#[c,d,À<|Â ⟨a,0,Á⟩,À<|Â ⟨b,0,Á⟩,e,f,Ď (ý 63) #[] #[À<|Â ⟨a,0,Á⟩,À<|Â ⟨b,0,Á⟩]]
def Cv(a b c d:Ð)(e f:Nat)(g:List é):Ý:=G ((base 47).at ⟨tG a b c d e f,[]⟩ [Ï Ij [1]]) g
def Ik(a b c d:Ð)(e f:Nat)(g:List é):Ý:=G ((base 47).at ⟨tG a b c d e f,[]⟩ [Ï Ij []]) g
def YU(c e f g:Ð)(a b:Nat)(h:List é)(w:ß):stepG Ä Ó (Cv c e f g a b h) w=.spawn (Ik c e f g a b h) (born Ä<|pb 63 #[À<|Â ⟨a,0,Á⟩,À<|Â ⟨b,0,Á⟩] #[]) w #[]:=by
 refine(stepG_spawn (d:=pb 63 #[À<|Â ⟨a,0,Á⟩,À<|Â ⟨b,0,Á⟩] #[]) (w':=w) U U (by k_ne) ?_ U).trans ?_
 .simp[Ij,Đ,Ν,ġ,Ę,tG,pb]
 .have:listed Ä (base 47).fn ⟨tG c e f g a b,[]⟩ Ij[1] w=#[]:=by
   unfold listed;simp[Ij,Đ,Ν,ġ,Ę,tG,ı]
  rw[this];rfl
structure ST(ba all nV n j:Nat)(qs dv:Ð)(t:Array Ð):Prop where
 r:t.size=49
 a:t[8]?=Â (À<|Â ⟨ba,0,Á⟩)
 C:t[10]?=Â qs
 I:t[11]?=Â (À<|Â ⟨nV,0,Á⟩)
 M:t[12]?=Â (À<|Â ⟨all,0,Á⟩)
 N:t[13]?=Â dv
 S:t[27]?=Â (É Î n)
 Y:t[28]?=Â (É Î j)
structure Il(ba all nV n:Nat)(qs:Ð)(t:Array Ð):Prop where
 Ep:t.size=49
 t2:t[2]?=Â (É Î n)
 t8:t[8]?=Â (À<|Â ⟨ba,0,Á⟩)
 aiP:t[10]?=Â qs
 aiQ:t[11]?=Â (À<|Â ⟨nV,0,Á⟩)
 Rm:t[12]?=Â (À<|Â ⟨all,0,Á⟩)
def Im(t:Array Ð)(h:t.size=49):∃a b c d e f g i j k l m n o p q r s u v w x y z B C D E F G H I J K L M N O P Q S T V W X Y nQ nR rE:Ð,t=#[a,b,c,d,e,f,g,i,j,k,l,m,n,o,p,q,r,s,u,v,w,x,y,z,B,C,D,E,F,G,H,I,J,K,L,M,N,O,P,Q,S,T,V,W,X,Y,nQ,nR,rE]:=by obtain⟨_,rfl⟩:=rF t h;exact⟨_,_,_,_,_,_,_,_,_,_,_,_,_,_,_,_,_,_,_,_,_,_,_,_,_,_,_,_,_,_,_,_,_,_,_,_,_,_,_,_,_,_,_,_,_,_,_,_,_,U⟩
section
variable{Ψ:ß->Prop}{J a:Jd}{l:fc}{t:Array Ð}{ba all nV:Nat}{qs dv:Ð}
def aiR(d:ki l)(a:Il ba all nV n qs t)(e:∀c,ST ba all nV n 0 qs (Æ Á 0 0) c->fh Ä Ó J l (Cu c qX)):fh Ä Ó J l (Ik v x z jQ b i<|Fa t::qX):=by
 obtain⟨m,o,f,p,q,r,s,u,g,w,h,j,k,y,B,C,D,E,F,G,H,I,K,L,M,N,O,P,Q,S,T,V,W,X,Y,oJ,oK,pS,pT,pU,pV,pW,pX,pY,pZ,p6,nQ,nR,rE,rfl⟩:=Im t a.Ep;obtain rfl:f=É Î n:=by simpa using a.t2
 obtain rfl:g=À (Â ⟨ba,0,Á⟩):=by simpa using a.t8
 obtain rfl:h=qs:=by simpa using a.aiP
 obtain rfl:j=À (Â ⟨nV,0,Á⟩):=by simpa using a.aiQ
 obtain rfl:k=À (Â ⟨all,0,Á⟩):=by simpa using a.Rm
 apply fN (n:=40) d;have hF:=trivial;simp only[Ik,Fa,YP];iterate 2 w_go fv
 u_leave0 Į fv hF
 simp only[sA,YQ,YR];iterate 13 w_go fv
 refine Ë λ_ _=> ?_;exact e _ ⟨U,U,U,U,U,U,U,U⟩
def aiS(d:ki l)(a:ST ba all nV n j qs dv t)(q:j<1000)(e:∀c,ST ba all nV n (j+1) qs dv c->fh Ä Ó J l (Cu c qX)):fh Ä Ó J l (Ik v x z jQ b i<|LQ t::qX):=by
 obtain⟨r,s,u,w,y,B,C,D,f,E,g,h,k,m,F,G,H,I,K,L,M,N,O,P,Q,S,T,o,p,V,W,X,Y,o6,o7,oJ,oK,pS,pT,pU,pV,pW,pX,pY,pZ,p6,nQ,nR,rE,rfl⟩:=Im t a.r;obtain rfl:f=À (Â ⟨ba,0,Á⟩):=by simpa using a.a
 obtain rfl:g=qs:=by simpa using a.C
 obtain rfl:h=À (Â ⟨nV,0,Á⟩):=by simpa using a.I
 obtain rfl:k=À (Â ⟨all,0,Á⟩):=by simpa using a.M
 obtain rfl:m=dv:=by simpa using a.N
 obtain rfl:o=É Î n:=by simpa using a.S
 obtain rfl:p=É Î j:=by simpa using a.Y
 apply fN (n:=40) d;have hF:=trivial;simp only[Ik,LQ,LK];iterate 2 w_go fv
 u_leave0 Į fv hF
 simp only[Rl];iterate 7 w_go fv
 refine Ë λ_ _=> ?_;refine e _ ⟨U,U,U,U,U,U,U,?_⟩;simp;exact Cn Z Z
end
section
variable{l l' y:fc}
def gh.fW(h:gh X l l')(s:gw l){p off:Nat}(c:l.w.heap.size<=p):gh X l {l' with w:=l'.w.setCell ⟨p,off,Á⟩ v}:=by
 have b:∀j,j<l.w.heap.size->(l'.w.setCell ⟨p,off,Á⟩ v).heap[j]?=l'.w.heap[j]?:=λj e=>lk (by show j≠p;omega);refine⟨h.O,h.c,h.S,h.Y,h.b,h.K,h.q,h.d,λj q=> ?_,?_,λj q n=>(b j<|s.fx j q).trans<|h.r j q n,λa q=>(gK<|b _<|s.I a q).trans<|h.f a q,λa q=>sH.trans<|h.g a q,λa q z=>yr<|h.e a q z⟩
 .show j<(l'.w.setCell ⟨p,off,Á⟩ v).heap.size;rw[jU];exact h.fx j q
 .show l.w.heap.size<=(l'.w.setCell ⟨p,off,Á⟩ v).heap.size;rw[jU];exact h.I
structure gZ(l:fc)(b:Nat)(o:Ζ):Prop where
 fp:l.O b
 I:l.w.heap[b]?=Â o
def gZ.r{o:Ζ}(h:gZ l b o)(k:gh X l l')(a:¬X b):gZ l' b o:=⟨k.O b h.fp,(k.r b (Ã h.fp) a).trans h.I⟩
def gZ.C(h:gZ l b (Ê d e xJ))(a:d[i]?=Â v):l.w.cell? ⟨b,i,Á⟩=Â v:=by simp[Ù,h.I,a]
end
def YV{sz:Nat}{xs:List Ð}(h:w.ownsRow i e sz v n xs)(a:w.heap.size<=b):¬(Â b=v.ownBlock):=λq=>by have:=(h.lt b q.symm).2;omega
structure YW(ba all q:Nat)(Cw:Ð)(xs:List Ð)(ch bd bw bf:Nat)(l':fc):Prop where
 S:l'.w.ownsRow 0 101 1 Cw xs.length xs
 M:∀k,Cw.ownBlock=Â k->l'.O k
 r:gZ l' ch (ŧ q #[] Í 0 0 Í)
 C:gZ l' bd (Ê #[è<|Â ch] 101)
 N:gZ l' bw (Ê #[À<|Â ⟨all,0,Á⟩] 162)
 I:gZ l' bf (Ê #[Ď (ý 50) #[] #[À<|Â ⟨bd,0,Á⟩,À<|Â ⟨ba,0,Á⟩]] 1)
section
variable{g:Jd}{l:fc}{t:Array Ð}{ba all q:Nat}{f:Option ã}{xs:List Ð}
def Rn(y:gw l)(F:¬l.q)(hd:l.d=0)(G:ST ba all m n j (Æ f q i) x t)(vl:j<n)(hn:n<1000)(Cx:q<1000)(LU:l.K ⟨all,0,Á⟩/\l.K ⟨all,1,Á⟩)(H7:mN all l.w) (lE:l.w.ownsRow 0 101 1 x j xs) (hO:∀k,x.ownBlock=Â k->l.O k) (hJ0:∀l' t' a r B S C v1,gh (λb=>Â b=x.ownBlock) l l'->ST ba all m n j (Æ f q i) C t'->YW ba all q C (xs++[è<|Â a]) a r B S l'->l.w.heap.size<=a->a<r->r<B->B<S->(∀k,C.ownBlock=Â k->k≠a/\k≠r/\k≠B/\k≠S)->g l' (Cv (À<|Â ⟨all,0,Á⟩) v1 (À<|Â ⟨all,0,Á⟩) (ñ #[]) B S<|LQ t'::qX)): fh Ä Ó (Lt Ä Ó all g) l (Cu t qX):=by
 obtain⟨y0,y1,y2,y3,y4,y5,y6,y7,y8,y9,wY,yV,wZ,rG,sN,qM,vr,vt,uj,uk,um,sP,sQ,sR,uo,vu,w7,sS,qN,uq,p9,qa,pR,o6,o7,oJ,oK,pS,pT,pU,pV,pW,pX,pY,pZ,p6,nQ,nR,rE,rfl⟩:=Im t G.r;obtain rfl:y8=À (Â ⟨ba,0,Á⟩):=by simpa using G.a
 obtain rfl:wY=Æ f q i:=by simpa using G.C
 obtain rfl:yV=À (Â ⟨m,0,Á⟩):=by simpa using G.I
 obtain rfl:wZ=À (Â ⟨all,0,Á⟩):=by simpa using G.M
 obtain rfl:x=rG:=(show rG=x by simpa using G.N).symm;obtain rfl:sS=É Î n:=by simpa using G.S
 obtain rfl:qN=É Î j:=by simpa using G.Y
 have atX:(j:Int)<(n:Int):=Z
 have hF:True:=trivial;apply fN (n:=40) y.r;simp only[Cu,E9,Rk,YS];repeat w_go fv
 refine Ë λ_ _=> ?_;have Fb:Ä.info? 155=Â ĉ:=Ň;refine pf (V:=λp=>è<|Â p) (ob:=ŧ q #[] Í 0 0 Í) U U (by k_ne) y.r F (λw=> ?_) (λw=> ?_) λL kC=> ?_
 .have D:=run_makeChan (P:=Ä) (w:=w) Ŀ Fb Î q Z (by simp[ĉ];omega);go_simp
 .simp[go_sem,(events_makeChan (P:=Ä) (w:=w) Ŀ Fb Î q Z (by simp[ĉ];omega) #[])]
 walk_nrm;have uu:gh (λ_=>False) l (gI l L<|ŧ q #[] Í 0 0 Í):=mR y kC;have c1:gZ (gI l L<|ŧ q #[] Í 0 0 Í) L.heap.size (ŧ q #[] Í 0 0 Í):=⟨Ç U,mQ⟩;have YX:l.w.heap.size<=L.heap.size:=kC.r;generalize gI l L (ŧ q #[] Í 0 0 Í)=l₁ at uu c1|-;generalize L.heap.size=a at c1 YX|-;have xd:=uu.N y;have YY:¬l₁.q:=by rwa[uu.q]
 refine pf (V:=λp=>À<|Â ⟨p,0,Á⟩) (ob:=Ê #[è Á] 101) U U (by k_ne) xd.r YY (λw=>by go_simp) (λw=>by simp[go_sem]) λT n8=> ?_;walk_nrm;have Io:gh (λ_=>False) l (gI l₁ T<|Ê #[è Á] 101):=uu.ff<|mR xd n8;have c2:=c1.r (mR (X:=λ_=>False) (ob:=Ê #[è Á] 101) xd n8) id;have H:gZ (gI l₁ T<|Ê #[è Á] 101) T.heap.size (Ê #[è Á] 101):=⟨Ç U,mQ⟩;have Kx:a<T.heap.size:=È (xd.fx a<|Ã c1.fp) n8.r;generalize gI l₁ T (Ê #[è Á] 101)=l₂ at Io c2 H|-;generalize T.heap.size=r at H Kx|-;clear c1 uu YY xd n8 l₁;have rI:=Io.N y;have qc:¬l₂.q:=by rwa[Io.q]
 refine H8 (p:=r) (off:=0) (v:=è<|Â a) (u:=è Á) U U (by k_ne) rI.r qc H.fp (H.C U) (by simp[ð,H.I]) U (λw o s=>by go_simp) (λw o s=>by simp[go_sem,o,s]) ?_;have M:gh (λ_=>False) l {l₂ with w:=l₂.w.setCell ⟨r,0,Á⟩ (è<|Â a)}:=Io.fW y Z;have c3:gZ {l₂ with w:=l₂.w.setCell ⟨r,0,Á⟩ (è<|Â a)} a (ŧ q #[] Í 0 0 Í):=⟨c2.fp,(lk<|by show a≠r;omega).trans c2.I⟩;have W:gZ {l₂ with w:=l₂.w.setCell ⟨r,0,Á⟩ (è<|Â a)} r (Ê #[è<|Â a] 101):=⟨H.fp,by show(l₂.w.setCell ⟨r,0,Á⟩<|è<|Â a).heap[r]?=_;unfold ă;simp[î,H.I]⟩;generalize({l₂ with w:=l₂.w.setCell ⟨r,0,Á⟩ (è<|Â a)}:fc)=kt at M c3 W|-;clear c2 H Io rI qc l₂;have N:=M.N y;have xb:¬kt.q:=by rwa[M.q]
 have Fc:∀k,x.ownBlock=Â k->kt.O k:=λk e=>M.O k<|hO k e;have LV:kt.w.ownsRow 0 101 1 x j xs:=nU lE λk e=>M.r k (Ã<|hO k e) id;apply fN (n:=10) N.r;simp only[YT,LK];iterate 4 w_go fv
 refine Ë λ_ _=> ?_;apply nT (x:=⟨r,0,Á⟩) U U (by k_ne) N.r xb (Ã<|Ã W.fp) (W.C U) (λw h=>by go_simp) (λw h=>by simp[go_sem,h]);walk_nrm;refine pf (V:=λp=>Æ (Â ⟨p,0,Á⟩) 1 1) (ob:=Ê #[è<|Â a] 101) U U (by k_ne) N.r xb (λw=>by go_simp) (λw=>by simp[go_sem]) λI Cy=> ?_;walk_nrm;have Cs:gh (λ_=>False) l (gI kt I<|Ê #[è<|Â a] 101):=M.ff<|mR N Cy;have k4:=mR (X:=λ_=>False) (ob:=Ê #[è<|Â a] 101) N Cy;have c4:=c3.r k4 id;have d4:=W.r k4 id;have Y:gZ (gI kt I<|Ê #[è<|Â a] 101) I.heap.size (Ê #[è<|Â a] 101):=⟨Ç U,mQ⟩;have hpx:r<I.heap.size:=È (N.fx r<|Ã W.fp) Cy.r;have xe:∀k,x.ownBlock=Â k->(gI kt I<|Ê #[è<|Â a] 101).O k:=λk e=>Ã<|Fc k e;have Cz:=nU LV (w₁:=(gI kt I<|Ê #[è<|Â a] 101).w) λk e=>k4.r k (Ã<|Fc k e) id;generalize gI kt I (Ê #[è<|Â a] 101)=l₄ at Cs c4 d4 Y xe Cz|-;generalize I.heap.size=px at Y hpx|-;clear c3 W M N xb Fc LV k4 Cy kt;have zd:=Cs.N y;have CB:¬l₄.q:=by rwa[Cs.q]
 refine H9 (v:=x) (us:=[è<|Â a]) (px:=px) (c:=1) (n:=j) (xs:=xs) (inf:=Υ) (z:=è Á) U U (by k_ne) zd CB U U U Tryz.underlying100 Tryz.type101 U U Nat.one_pos U U (by simp[Υ];omega) (by simp only[ť];omega) Cz xe Y.fp (Rj<|Y.C U) (λ_ D=>List.mem_singleton.1 D▸rfl) λsU C Q CC sF Ip CF uy=> ?_;walk_nrm;have YZ:∀b,l.w.heap.size<=b->¬(Â b=x.ownBlock):=λb hb=>YV lE hb;have k5:gh (λb=>Â b=x.ownBlock) l₄ (mS l₄ sU Q):=LH zd CC Ip λk e=>⟨xe k e,e.symm⟩;have vy:gh (λb=>Â b=x.ownBlock) l (mS l₄ sU Q):=(Cs.fM λ_ _ q=>q.elim).ff k5;have c5:=c4.r k5<|YZ a Z;have d5:=d4.r k5<|YZ r Z;have hl4:px<sU.heap.size:=È (zd.fx px<|Ã Y.fp) CC.r;have LW:∀k,C.ownBlock=Â k->k<Q.heap.size/\k≠a/\k≠r:=λk e=>by
  have D:=(sF.lt k e).2;rcases uy with z|z
  .rw[z]at e;have:=(lE.lt k e).2;exact⟨D,Z,Z⟩
  .rw[z]at e;obtain rfl:=Ô e;exact⟨D,Z,Z⟩
 have xf:(mS l₄ sU Q).w.ownsRow 0 101 1 C (j+1) (xs++[è<|Â a]):=sF;have Ro:(mS l₄ sU Q).w.heap.size=Q.heap.size:=U;generalize mS l₄ sU Q=sV at vy c5 d5 xf CF Ro|-;rw[<-Ro]at LW;clear k5 Ip sF uy c4 d4 Y Cs zd CB xe Cz CC l₄ Ro;have rL:=vy.N y;have Y0:¬sV.q:=by rwa[vy.q]
 apply fN (n:=20) rL.r;iterate 4 w_go fv
 u_call Į fO κ fv hF
 iterate 2 w_go fv
 refine Ë λ_ _=> ?_;refine pf (V:=λp=>À<|Â ⟨p,0,Á⟩) (ob:=Ê #[À<|Â ⟨all,0,Á⟩] 162) U U (by k_ne) rL.r Y0 (λw=>by go_simp) (λw=>by simp[go_sem]) λD LX=> ?_;walk_nrm;have k6:=mR (X:=λ_=>False) (ob:=Ê #[À<|Â ⟨all,0,Á⟩] 162) rL LX;have CG:gh (λb=>Â b=x.ownBlock) l (gI sV D<|Ê #[À<|Â ⟨all,0,Á⟩] 162):=vy.ff (k6.fM λ_ _ q=>q.elim);have c6:=c5.r k6 id;have d6:=d5.r k6 id;have g6:gZ (gI sV D<|Ê #[À<|Â ⟨all,0,Á⟩] 162) D.heap.size (Ê #[À<|Â ⟨all,0,Á⟩] 162):=⟨Ç U,mQ⟩;have CH:r<D.heap.size:=È (rL.fx r<|Ã d5.fp) LX.r;have Iq:∀k,C.ownBlock=Â k->k<D.heap.size/\k≠a/\k≠r:=λk e=>⟨È (LW k e).1 LX.r,(LW k e).2⟩;have LY:∀k,C.ownBlock=Â k->(gI sV D<|Ê #[À<|Â ⟨all,0,Á⟩] 162).O k:=λk e=>Ã<|CF k e;have Rp:=nU xf (w₁:=(gI sV D<|Ê #[À<|Â ⟨all,0,Á⟩] 162).w) λk e=>k6.r k (Ã<|CF k e) id;generalize gI sV D (Ê #[À<|Â ⟨all,0,Á⟩] 162)=CI at CG c6 d6 g6 LY Rp|-;generalize D.heap.size=B at g6 CH Iq|-;clear k6 c5 d5 vy rL Y0 CF xf LW LX sV;have LZ:=CG.N y;have Y1:¬CI.q:=by rwa[CG.q]
 refine pf (V:=λp=>À<|Â ⟨p,0,Á⟩) (ob:=Ê #[Ď (ý 50) #[] #[À<|Â ⟨r,0,Á⟩,À<|Â ⟨ba,0,Á⟩]] 1) U U (by k_ne) LZ.r Y1 (λw=>by go_simp) (λw=>by simp[go_sem]) λJ Rq=> ?_;walk_nrm;have k7:=mR (X:=λ_=>False) (ob:=Ê #[Ď (ý 50) #[] #[À<|Â ⟨r,0,Á⟩,À<|Â ⟨ba,0,Á⟩]] 1) LZ Rq;have E:gh (λb=>Â b=x.ownBlock) l (gI CI J<|Ê #[Ď (ý 50) #[] #[À<|Â ⟨r,0,Á⟩,À<|Â ⟨ba,0,Á⟩]] 1):=CG.ff (k7.fM λ_ _ q=>q.elim);have c7:=c6.r k7 id;have d7:=d6.r k7 id;have g7:=g6.r k7 id;have f7:gZ (gI CI J<|Ê #[Ď (ý 50) #[] #[À<|Â ⟨r,0,Á⟩,À<|Â ⟨ba,0,Á⟩]] 1) J.heap.size (Ê #[Ď (ý 50) #[] #[À<|Â ⟨r,0,Á⟩,À<|Â ⟨ba,0,Á⟩]] 1):=⟨Ç U,mQ⟩;have L0:B<J.heap.size:=È (LZ.fx B<|Ã g6.fp) Rq.r;have Rr:∀k,C.ownBlock=Â k->(gI CI J<|Ê #[Ď (ý 50) #[] #[À<|Â ⟨r,0,Á⟩,À<|Â ⟨ba,0,Á⟩]] 1).O k:=λk e=>Ã<|LY k e;have Y2:=nU Rp (w₁:=(gI CI J<|Ê #[Ď (ý 50) #[] #[À<|Â ⟨r,0,Á⟩,À<|Â ⟨ba,0,Á⟩]] 1).w) λk e=>k7.r k (Ã<|LY k e) id;generalize gI CI J (Ê #[Ď (ý 50) #[] #[À<|Â ⟨r,0,Á⟩,À<|Â ⟨ba,0,Á⟩]] 1)=CJ at E c7 d7 g7 f7 Rr Y2|-;generalize J.heap.size=S at f7 L0|-;clear k7 c6 d6 g6 CG LZ Y1 LY Rp Rq CI;have L3:=E.N y;apply fN (n:=10) L3.r;iterate 3 w_go fv
 refine Ë λ_ _=> ?_;apply nT (x:=⟨B,0,Á⟩) U U (by k_ne) L3.r (by rwa[E.q]) (Ã<|Ã g7.fp) (g7.C U) (λw h=>by go_simp) (λw h=>by simp[go_sem,h]);walk_nrm;apply fN (n:=10) L3.r;u_call qL.f_add (Θ Lk) addFn fv hF;refine Ë λ_ _=> ?_;refine Yr qL (⟨Ã (by rw[E.K];exact LU.1),Ã (by rw[E.K];exact LU.2),λw L o s h3 h4 h5 h=>h.ff ⟨o,s,h3,h4,h5⟩⟩) (⟨L3.r,⟨E.e _ LU.1 H7.1,E.e _ LU.2 H7.2⟩,fI.fT _ _⟩) (E.d.trans hd) λRs Y3=> ?_;walk_nrm;apply fN (l:={CJ with d:=0,w:=Rs}) (n:=10) Y3.1;iterate 3 w_go fv
 refine Ë λ_ _=> ?_;refine .fA λCK xg=> ?_;have rr:fI CJ CJ.w CK:=Y3.2.2.ff ⟨xg.r,xg.I,xg.N,xg.Y,xg.S⟩;have s:=E.G rr;have hA9:gh (λb=>Â b=x.ownBlock) l ({CJ with d:=0,w:=CK}:fc):=⟨s.O,s.c,s.S,s.Y,s.b,s.K,s.q,hd.symm,s.fx,s.I,s.r,s.f,s.g,s.e⟩;have at9:∀{b:Nat} {o:Ζ},gZ CJ b o->gZ ({CJ with d:=0,w:=CK}:fc) b o:=λh=>⟨h.fp,(rr.I _<|Ã h.fp).trans h.I⟩;have hlen:(xs++[è<|Â a]).length=j+1:=by have:=lE.1;simp;omega
 refine hJ0 {CJ with d:=0,w:=CK} _ a r B S C _ hA9 ⟨U,U,U,U,U,U,U,U⟩ ⟨?_,Rr,at9 c7,at9 d7,at9 g7,at9 f7⟩ YX Kx CH L0 λk e=>⟨(Iq k e).2.1,(Iq k e).2.2,by have:=(Iq k e).1;omega,by have:=(Iq k e).1;omega⟩;rw[hlen];exact nU Y2 λk e=>rr.I k<|Ã<|Rr k e
end
def sW(l:fc)(b:Nat):fc:={l with O:=λj=>l.O j/\j≠b,K:=λa=>l.K a\/a=⟨b,0,Á⟩\/a=⟨b,1,Á⟩}
def ni(l x:fc)(b:Nat):fc:={x with O:=λj=>x.O j\/j=b,K:=l.K}
section
variable{S:Jd}{l:fc}
def fh.Rt(W:∀a,l.K a->a.block≠b){x:fc}(h:fh P yQ S x g):¬x.M b->(∀a,x.C a->a.block≠b)->x.K=(sW l b).K->b<x.w.heap.size->(x.w.cell? ⟨b,0,Á⟩).isSome=Ó->(x.w.cell? ⟨b,1,Á⟩).isSome=Ó->ki x-> fh P yQ (λG H=>∃d,S d H/\G=ni l d b/\¬d.M b/\(∀a,d.C a->a.block≠b)/\d.K=(sW l b).K/\b<d.w.heap.size/\d.w.heap[b]?=x.w.heap[b]?/\d.q=x.q/\ki d) (ni l x b) g:=by
 have u:∀{x:fc} {c:ß},x.K=(sW l b).K->(x.w.cell? ⟨b,0,Á⟩).isSome=Ó->(x.w.cell? ⟨b,1,Á⟩).isSome=Ó->fI (ni l x b) x.w c->fI x x.w c:=λ{x c} f i m r=>
  ⟨r.r,λj p=>r.I j<|p.imp Ã id,r.N,r.Y,λa o q=>by
   rw[f]at o;rcases o with z|z|z
   .exact r.S a z q
   .rw[z,gK<|r.I b<|Ã<|Ç U];exact i
   .rw[z,gK (r.I b (Ã (Ç U)))];exact m⟩
 induction h with
 |@fA x g h=>
  intro s t f v i m I;refine .fA λc r=>⟨{x with w:=c},h c<|u f i m r,U,s,t,f,È v r.r,r.I b<|Ã<|Ç U,U,mA I<|u f i m r⟩
 |@jv x g G' W' E' L' iH h hd _ ih=>
  intro s t f v i m I;refine .mk iH λc r=> ?_;have B:=u f i m r;have D:=hd c B;have E:=È v r.r;have J:=λq=>s<|Ã q;have L:=D.jO b E J λa e q=>t a (Ã q) e;have F:(L' c).w.heap[b]?=x.w.heap[b]?:=by rw[D.b];exact L.trans<|r.I b<|Ã<|Ç U
  refine⟨G' c,W' c,E' c,ni l (L' c) b,h c B,?_,?_⟩
  .refine⟨D.C,λj q=> ?_,λj q=> ?_,D.I,D.r,D.M,U,λj p y n=>D.jO j p (λq=>y<|Ã q) n,λa o y n=>D.N a o (λq=>y<|Ã q) n,λa o y=>D.Y a o λq=>y<|Ã q,D.f,D.g,D.m,λe N=> ?_,D.h,D.q,λq=> ?_,D.b⟩
   .rcases q with q|q
    .exact(D.S j q).imp Ã id
    .exact Ã<|Ç q
   .rcases q with q|q
    .exact D.fx j q
    .rw[q];exact È E D.C
   .rcases D.c e N with⟨a,y,n⟩|h|h|h|h|⟨a,y,n⟩
    .exact Ã ⟨a,y,n.imp Ã id⟩
    .exact Ç<|Ã h
    .exact Ç<|Ç<|Ã h
    .exact Ç<|Ç<|Ç<|Ã h
    .exact Ç<|Ç<|Ç<|Ç<|Ã h
    .exact Ç<|Ç<|Ç<|Ç<|Ç ⟨a,Ã y,n⟩
   .let⟨Q,T,V⟩:=D.i q;exact⟨Q,T,by funext j;show((L' c).O j\/j=b)=(x.O j\/j=b);rw[V]⟩
  .refine(ih c B (λq=>q.elim (λz=>(D.S b z).elim J λy=>by omega) λz=>s<|Ç<|by rw[<-D.I];exact z) (λa q=>t a<|q.imp (by rw[D.r];exact id)<|by rw[D.M];exact id) (D.k.trans f) (by rw[D.b];exact È E D.C) (by rw[gK F];exact i) (by rw[gK F];exact m) λj p=>by rw[D.b];exact D.fx j p).fM ?_;rintro G H ⟨d,y,e,j,n,o,p,z,N,Q⟩;exact⟨d,y,e,j,n,o,p,z.trans F,N.trans D.q,Q⟩
end
section
variable{L:WgLink}{l:fc}{J:Jd}{c:é}{k:List Ż}{ty:ź}
structure aiT(b:Nat)(cc:Array Ð)(ty:ź)(l l':fc):Prop where
 r:gh (λj=>j=b) l l'
 O:l'.O=l.O
 C:l'.w.heap[b]?=Â (Ê (cc.setIfInBounds 0<|É ë 4294967296) ty)
theorem Y4(a:l.O b)(w:ß)(d:Nat):ni l {sW l b with d:=d,w:=w} b={l with d:=d,w:=w}:=by
 have:(λj=>(l.O j/\j≠b)\/j=b)=l.O:=by grind
 unfold ni sW;simp only[this]
def Y5{C:Array Ð}(H:WgLib P L)(s:gw l)(hq:¬l.q)(Y:l.d=0)(x:l.O b)(M:l.w.heap[b]?=Â (Ê C ty))(N:C[0]?=Â (É ë 0))(o:(C[1]?).isSome=Ó) (hT:∀B,aiT b C ty l B->fh P yQ J B (G (c.at (y.put ((Q[i]?).bind (·.dst))<|ñ #[])<|Ï Q jJ::k) qX)): fh P yQ J l (G ((base L.add).at ⟨#[À<|Â ⟨b,0,Á⟩,É Î 1,Å,Å,Å,Å,Å,Å,Å,Å,Å,Å,Å,Å,Å,Å,Å,Å,Å,Å,Å,Å,Å,Å,Å,Å,Å,Å,Å,Å,Å,Å,Å,Å,Å,Å,Å,Å,Å,Å,Å,Å,Å,Å,Å,Å,Å,Å,Å,Å,Å,Å,Å,Å,Å,Å,Å,Å,Å,Å,Å,Å,Å,Å,Å,Å,Å,Å,Å,Å,Å,Å,Å,Å,Å,Å,Å,Å,Å,Å,Å,Å,Å,Å,Å,Å,Å,Å,Å,Å,Å,Å,Å,Å,Å,Å,Å,Å,Å,Å,Å,Å,Å,Å,Å,Å,Å,Å,Å,Å,Å,Å,Å,Å,Å,Å,Å],[]⟩ [ö<|body_add L])<|c.at y (Ï Q (i::jJ)::k)::qX):=by
 have e0:l.w.cell? ⟨b,0,Á⟩=Â (É ë 0):=by simp[Ù,M,N]
 have e1:(l.w.cell? ⟨b,1,Á⟩).isSome=Ó:=by let⟨u,D⟩:=Ö.1 o;simp[Ù,M,D]
 have S:∀y:ã,l.K y->y.block≠b:=λy T e=>(s.S y T).1<|Ã<|e▸x;let J1:Jd:=λB g'=>g'=G (c.at (y.put ((Q[i]?).bind (·.dst))<|ñ #[])<|Ï Q jJ::k) qX/\B={sW l b with d:=0,w:=B.w}/\fI (sW l b) l.w B.w
 have hW:fh P yQ (Lt P yQ b J1) (sW l b) (G ((base L.add).at ⟨#[À<|Â ⟨b,0,Á⟩,É Î 1,Å,Å,Å,Å,Å,Å,Å,Å,Å,Å,Å,Å,Å,Å,Å,Å,Å,Å,Å,Å,Å,Å,Å,Å,Å,Å,Å,Å,Å,Å,Å,Å,Å,Å,Å,Å,Å,Å,Å,Å,Å,Å,Å,Å,Å,Å,Å,Å,Å,Å,Å,Å,Å,Å,Å,Å,Å,Å,Å,Å,Å,Å,Å,Å,Å,Å,Å,Å,Å,Å,Å,Å,Å,Å,Å,Å,Å,Å,Å,Å,Å,Å,Å,Å,Å,Å,Å,Å,Å,Å,Å,Å,Å,Å,Å,Å,Å,Å,Å,Å,Å,Å,Å,Å,Å,Å,Å,Å,Å,Å,Å,Å,Å,Å,Å],[]⟩ [ö<|body_add L])<|c.at y (Ï Q (i::jJ)::k)::qX):=by refine Yr (Ψ:=λw=>fI (sW l b) l.w w) H ⟨Ã<|Ç<|Ã U,Ã<|Ç<|Ç U,λw n o t a g m h=>h.ff ⟨o,t,a,g,m⟩⟩ ⟨λj f=>s.fx j<|Ã f.1,⟨by rw[show(sW l b).w=l.w from rfl,e0];rfl,e1⟩,fI.fT _ _⟩ Y λn v=> .fA λp r=>⟨U,U,v.2.2.ff ⟨r.r,r.I,r.N,r.Y,r.S⟩⟩
 have hstart:=hW.Rt S (λq=>q.elim (λz=>z.2 U) λz=>s.c b x z) (λy T e=>s.N y T<|Ã<|e▸x) U (s.fx b<|Ã x) (by rw[show(sW l b).w=l.w from rfl,e0];rfl) e1 λj f=>s.fx j<|Ã f.1;rw[show ni l (sW l b) b=l from Y4 x l.w l.d]at hstart;apply hstart.lV;rintro l1 g1 ⟨E,⟨CL,aiU,hA⟩,rfl,Y6,Y7,tW,hlt1,oL,Cx,lo1⟩;let⟨g2,Y8,V⟩:=hA 0;have sK:ë.wrap (0+fX)=fX:=by rw[show(0:Int)+fX=fX from rfl];exact KU A A
 rw[sK]at V Y8;rw[if_pos U]at V;have hqx:¬E.q:=by rwa[Cx]
 refine .mk aiU λn r=> ?_;have F:=(r.I b<|Ã<|Ç U).trans<|oL.trans M;have c0:n.cell? (fL b)=Â (É ë 0):=by simp[Ù,fL,F,N]
 have atY:=È hlt1 r.r;have W:(n.setCell (fL b)<|É ë fX).heap[b]?=Â (Ê (C.setIfInBounds 0<|É ë 4294967296) ty):=by unfold ă;simp[î,fL,F,fX]
 have rx:fI E E.w (n.setCell (fL b)<|É ë fX):=by
  refine⟨by rw[jU];exact r.r,λj f=>((lk λe=>Y6 (by have t:j=b:=e;rwa[<-t])).trans<|r.I j<|f.imp Ã id),λa g=>(gK<|lk<|Y7 a g).trans<|r.N a g,λa g=>sH.trans<|r.Y a g,λa g q=> ?_⟩
  .rw[tW]at g;refine yr ?_;rcases g with z|z|z
   .exact r.S a z q
   .rw[z,gK<|r.I b<|Ã<|Ç U];rwa[z]at q
   .rw[z,gK<|r.I b<|Ã<|Ç U];rwa[z]at q
 refine⟨g2,_,_,ni l {E with w:=n.setCell (fL b) (É ë fX)} b,Y8 n c0 (by simp[ð,fL,F]),?_,?_⟩
 .refine⟨by rw[jU];exact Û _,λ_ h=>Ã h,λj h=> ?_,U,U,U,U,λj _ o _=>lk λe=>o<|Ç e,λa _ o _=>gK (lk λe=>o<|Ç e),λ_ _ _=>PN,U,U,U,λe t=> ?_,?_,U,λq=>absurd q hqx,U⟩
  .rw[jU];rcases h with h|h
   .exact È (lo1 j h) r.r
   .rwa[h]
  .have:e=kx (fL b)\/e=mM (fL b):=by simpa using t
   rcases this with rfl|rfl
   .exact Ã ⟨fL b,U,Ã<|Ç U⟩
   .exact Ã ⟨fL b,U,Ã<|Ç U⟩
  .exact(ő (λe t=>by
    have:e=kx (fL b)\/e=mM (fL b):=by simpa using t
    rcases this with rfl|rfl<;>exact⟨by simp[kx,mM],by simp[kx,mM]⟩) _).symm
 have z1:((n.setCell (fL b)<|É ë fX).cell? ⟨b,1,Á⟩).isSome=Ó:=by let⟨u,D⟩:=Ö.1 o;exact yr<|by simp[Ù,F,D]
 have aiV:=(V.jW rx).Rt S Y6 Y7 tW (by show b<(n.setCell (fL b)<|É ë fX).heap.size;rwa[jU]) (yr<|by rw[show(⟨b,0,Á⟩:ã)=fL b from rfl,c0];rfl) z1 (λj f=>by show j<(n.setCell (fL b)<|É ë fX).heap.size;rw[jU];exact È (lo1 j f) r.r);apply aiV.lV;rintro l2 g3 ⟨v,⟨mT,aiW,g4,aiX,hN2⟩,rfl,nM2,nC2,yL,L4,X,qc,lo2⟩;have aiY:¬v.q:=by rwa[qc]
 refine .mk aiW λp m=> ?_;have I:∀a:ã,a.block=b->p.cell? a=v.w.cell? a:=λa e=>gK<|m.I a.block<|Ã<|Ç e;have rx2:fI v v.w p:=⟨m.r,λj f=>m.I j<|f.imp Ã id,m.N,m.Y,λa g q=>by
  rw[yL]at g;rcases g with z|z|z
  .exact m.S a z q
  .rwa[I a (by rw[z])]
  .rwa[I a (by rw[z])]⟩
 refine⟨g4,p,_,ni l {v with w:=p} b,aiX p,?_,?_⟩
 .refine⟨Û _,λ_ h=>Ã h,λj h=> ?_,U,U,U,U,λ_ _ _ _=>rfl,λ_ _ _ _=>rfl,λ_ _ _=>rfl,U,U,U,λe t=> ?_,?_,U,λq=>absurd q aiY,U⟩
  .rcases h with h|h
   .exact È (lo2 j h) m.r
   .rw[h];exact È L4 m.r
  .have:e=jw (.read<|gQ b):=by simpa using t
   rw[this];exact Ç<|Ç<|Ç<|Ç<|Ç ⟨gQ b,Ç U,Ã U⟩
  .exact(ő (λe t=>by
    have:e=jw (.read<|gQ b):=by simpa using t
    rw[this];exact⟨by simp[jw],by simp[jw]⟩) _).symm
 have z:(p.cell? ⟨b,0,Á⟩).isSome=Ó:=by rw[I _ U];have:v.w.heap[b]?=_:=X.trans W;simp[Ù,this,(æ.1 N).1]
 have y1:(p.cell? ⟨b,1,Á⟩).isSome=Ó:=by rw[I _ U];have:v.w.heap[b]?=_:=X.trans W;let⟨u,D⟩:=Ö.1 o;simp[Ù,this,(æ.1 D).1]
 have u:=(hN2.jW rx2).Rt S nM2 nC2 yL (È L4 m.r) z y1 λj f=>È (lo2 j f) m.r;apply u.lV;rintro l3 g5 ⟨x3,⟨rfl,D,t⟩,rfl,nM3,nC3,hk3,Y9,Ru,xb,lo3⟩;rw[D,Y4 x];have Rv:=Ru.trans<|(m.I b<|Ã<|Ç U).trans<|X.trans W;refine hT _ ⟨⟨λ_ h=>h,λ_ h=>Ã h,U,U,U,U,U,Y.symm,λj f=>È (s.fx j<|Ã f) t.r,t.r,λj f hn=>t.I j (f.imp (λq=>⟨q,hn⟩) id),t.N,t.Y,λa g=>t.S a<|Ã g⟩,U,Rv⟩
end
noncomputable def Rw:Ġ:=jZ Ģ [1,1,1]
noncomputable def Za:Ġ:=jZ Ģ [1,1,0,1,0,0,1,1,0,0,1,1,1]
noncomputable def Rx:Ġ:=jZ Ģ [1,1,0,1,0,0,1,1,0,0,1,1,0,1]
noncomputable def Ir:Ġ:=jZ Ģ [1,1,0,1,0,0]
noncomputable def Ry:Ġ:=jZ Ģ [1,1,0,1,0,0,1,1,1]
noncomputable def CM (t:Array Ð) (a:List é):Ý:=G ((base 46).at ⟨t,[]⟩ [ö Ir,Ā Ir,ï 0,ö Rw]) a
noncomputable def Is (t:Array Ð) (a:List é):Ý:=G ((base 46).at ⟨t,[]⟩ [ö Rx,ö Za,ï 1,ö Ry,Ā Ir,ï 0,ö Rw]) a
structure PT(iv qv rs:Ð)(lg R i:Nat)(t:Array Ð):Prop where
 r:t.size=48
 N:t[4]?=Â iv
 S:t[5]?=Â qv
 Y:t[6]?=Â (À<|Â ⟨lg,0,Á⟩)
 C:t[13]?=Â rs
 I:t[14]?=Â (É Î R)
 M:t[15]?=Â (É Î i)
def L5(t:Array Ð)(h:t.size=48):∃a b c d e f g i j k l m n o p q r s u v w x y z B C D E F G H I J K L M N O P Q S T V W X Y nQ nR:Ð,t=#[a,b,c,d,e,f,g,i,j,k,l,m,n,o,p,q,r,s,u,v,w,x,y,z,B,C,D,E,F,G,H,I,J,K,L,M,N,O,P,Q,S,T,V,W,X,Y,nQ,nR]:=by obtain⟨_,rfl⟩:=rF t h;exact⟨_,_,_,_,_,_,_,_,_,_,_,_,_,_,_,_,_,_,_,_,_,_,_,_,_,_,_,_,_,_,_,_,_,_,_,_,_,_,_,_,_,_,_,_,_,_,_,_,U⟩
def aiZ(w:ß)(a c:Option ã)(b:Int):(đ 155 #[(0,À a),(1,É Î b),(2,À c)]).run Ä w=.ok (ę #[À a,É Î b,À c,À Á]) w:=run_build w 155 _ _ fO
def ai0(w:ß)(a c:Option ã)(b:Int):(đ 155 #[(0,À a),(1,É Î b),(2,À c)]).events Ä w #[]=#[]:=by unfold đ;simp only[Sem.events_bind];simp[go_sem]
section
variable{p:Nat}{v0 v1 v2 v3:Ð}
def ai1(h:w.heap[p]?=Â (Ê #[v,x,z,jQ] e)):(iR w p v0 v1 v2 v3).heap[p]?=Â (Ê #[v0,v1,v2,v3] e):=by unfold iR ă;simp[î,h]
def gh.iR{l c:fc}(h:gh X l c)(s:gw l)(r:fI c c.w u)(f:l.w.heap.size<=p):gh X l {c with w:=fu.iR u p v0 v1 v2 v3}:=by
 have b:=h.G r;have e:∀{j:Nat},j<l.w.heap.size->(fu.iR u p v0 v1 v2 v3).heap[j]?=u.heap[j]?:=λ{j} q=>yS Z;refine⟨b.O,b.c,b.S,b.Y,b.b,b.K,b.q,b.d,λj q=> ?_,?_,λj q n=>(e<|s.fx j q).trans<|b.r j q n,λa q=>(gK<|e<|s.I a q).trans<|b.f a q,λa q=>(wG<|e<|s.I a q).trans<|b.g a q,λa q z=> ?_⟩
 .show j<(fu.iR u p v0 v1 v2 v3).heap.size;rw[wW];exact b.fx j q
 .show l.w.heap.size<=(fu.iR u p v0 v1 v2 v3).heap.size;rw[wW];exact b.I
 .show((fu.iR u p v0 v1 v2 v3).cell? a).isSome=Ó;rw[gK<|e (s.S a q).2.1];exact b.e a q z
def gZ.rly{l:fc}{o:Ζ}(h:gZ l b o)(r:fI l l.w u):gZ {l with w:=u} b o:=⟨h.fp,(r.I b<|Ã h.fp).trans h.I⟩
end
section
variable{J:Jd}{l:fc}{t:Array Ð}{iv qv:Ð}{lg R:Nat}{kd:Int}
def ai2(f:gw l)(o:¬l.q)(k:PT iv qv (Æ (Â ⟨j,0,Á⟩) R n) lg R i t)(Zb:i<R)(hR:R<1000)(T:l.M j)(V:l.w.cell? ⟨j,i,Á⟩=Â (À<|Â ⟨b,0,Á⟩))(F:l.M b)(W:l.w.cell? ⟨b,4,Á⟩=Â (É Î kd)) (X:∀B u a,gh (λ_=>False) l B->l.w.heap.size<=a->gZ B a (Ê #[À<|Â ⟨b,0,Á⟩,É Î i,À<|Â ⟨lg,0,Á⟩,À Á] 155)->PT iv qv (Æ (Â ⟨j,0,Á⟩) R n) lg R i u->u[9]?=Â (À<|Â ⟨a,0,Á⟩)->u[28]?=Â (Ĭ<|decide<|kd≠1)->fh Ä Ó J B (Is u qX)): fh Ä Ó J l (CM t qX):=by
 obtain⟨y0,y1,y2,y3,G,H,Y,y7,y8,y9,wY,yV,wZ,rG,sN,qM,vr,vt,uj,uk,um,sP,sQ,sR,uo,vu,w7,sS,qN,uq,p9,qa,pR,o6,o7,oJ,oK,pS,pT,pU,pV,pW,pX,pY,pZ,p6,nQ,nR,rfl⟩:=L5 t k.r;obtain rfl:iv=G:=(show G=iv by simpa using k.N).symm;obtain rfl:qv=H:=(show H=qv by simpa using k.S).symm;obtain rfl:Y=À (Â ⟨lg,0,Á⟩):=by simpa using k.Y
 obtain rfl:rG=Æ (Â ⟨j,0,Á⟩) R n:=by simpa using k.C
 obtain rfl:sN=É Î R:=by simpa using k.I
 obtain rfl:qM=É Î i:=by simpa using k.M
 have atZ:(i:Int)<(R:Int):=Z
 have hF:True:=trivial;have rH:∀y:ã,False->l.r y:=λy ha=>ha.elim;apply fN (n:=40) f.r;simp only[CM];conv in Ir=>whnf
 repeat w_go fv
 refine Ë λ_ _=> ?_;apply nT (x:=⟨j,i,Á⟩) U U (by k_ne) f.r o (Ã T) V (λw h=>by go_simp) (λw h=>by simp[go_sem,h]);walk_nrm;apply fN (n:=40) f.r;repeat w_go fv
 refine Ë λ_ _=> ?_;refine pd (v:=ę #[À<|Â ⟨b,0,Á⟩,É Î i,À<|Â ⟨lg,0,Á⟩,À Á]) U U (by k_ne) f.r o (λc r=> ?_) (λc r e C=> ?_) ?_
 .have S:=aiZ c (Â ⟨b,0,Á⟩) (Â ⟨lg,0,Á⟩) i;go_simp
 .simp[go_sem,ai0 c (Â ⟨b,0,Á⟩) (Â ⟨lg,0,Á⟩) i]at C
 walk_nrm;refine HU (ob:=Ê #[À Á,É Î 0,À Á,À Á] 155) U U (by k_ne) f.r o (λw=>by go_simp) (λw=>by simp[go_sem]) λc D=> ?_;walk_nrm;have s:gh (λ_=>False) l (gI l c<|Ê #[À Á,É Î 0,À Á,À Á] 155):=mR f D;have m:gZ (gI l c<|Ê #[À Á,É Î 0,À Á,À Á] 155) c.heap.size (Ê #[À Á,É Î 0,À Á,À Á] 155):=⟨Ç U,mQ⟩;have E:l.w.heap.size<=c.heap.size:=D.r;generalize gI l c (Ê #[À Á,É Î 0,À Á,À Á] 155)=l₁ at s m|-;generalize c.heap.size=a at m E|-;have I:=s.N f;have K:¬l₁.q:=by rwa[s.q]
 refine vo U U (by k_ne) λd z=> ?_;have g:=m.rly z;replace g:d.heap[a]?=_:=g.I;have L:d.cell? ⟨a,0,Á⟩=Â (À Á):=by simp[Ù,g]
 have N:d.cell? ⟨a,1,Á⟩=Â (É Î 0):=by simp[Ù,g]
 have O:d.cell? ⟨a,2,Á⟩=Â (À Á):=by simp[Ù,g]
 have P:d.cell? ⟨a,3,Á⟩=Â (À Á):=by simp[Ù,g]
 have Q:∀r,d.frozen? ⟨a,r,Á⟩=Í:=λr=>by simp[ð,g]
 go_simp;refine⟨{l₁ with w:=iR d a (À<|Â ⟨b,0,Á⟩) (É Î i) (À<|Â ⟨lg,0,Á⟩) (À Á)},LB (p:=a) (mA I.r z) K m.fp wW (λr S=>yS S) ⟨U,U,U⟩ λe C=> ?_,?_⟩
 .have S:=Ě C;have e:∀r,p7 l₁ ⟨a,r,Á⟩:=λr=>Ã m.fp;simp[go_sem,â _ _ _ _ _ _ (show Ú (À<|Â ⟨b,0,Á⟩)=Ó from rfl),â _ _ _ _ _ _ (show Ú (À<|Â ⟨lg,0,Á⟩)=Ó from rfl),â _ _ _ _ _ _ (show Ú (À Á)=Ó from rfl),L,N,O,P,Q]at S;rcases S with rfl|rfl|rfl|rfl
  .exact(e _).r
  .exact(e _).r
  .exact(e _).r
  .exact(e _).r
 have e:gh (λ_=>False) l ({l₁ with w:=iR d a (À<|Â ⟨b,0,Á⟩) (É Î i) (À<|Â ⟨lg,0,Á⟩) (À Á)}:fc):=s.iR f z E;have S:gZ ({l₁ with w:=iR d a (À<|Â ⟨b,0,Á⟩) (É Î i) (À<|Â ⟨lg,0,Á⟩) (À Á)}:fc) a (Ê #[À<|Â ⟨b,0,Á⟩,É Î i,À<|Â ⟨lg,0,Á⟩,À Á] 155):=⟨m.fp,ai1 g⟩;generalize({l₁ with w:=iR d a (À<|Â ⟨b,0,Á⟩) (É Î i) (À<|Â ⟨lg,0,Á⟩) (À Á)}:fc)=l₂ at e S|-;clear m s I K g L N O P Q z d l₁ D c;have C:=e.N f;apply fN (n:=20) C.r;repeat w_go fv
 refine Ë λ_ _=> ?_;apply nT (x:=⟨b,4,Á⟩) U U (by k_ne) C.r (by rwa[e.q]) (Ã<|e.M F) ((gK<|e.r b F id).trans W) (λw h=>by go_simp) (λw h=>by simp[go_sem,h]);walk_nrm;apply fN (n:=20) C.r;iterate 2 w_go fv
 refine Ë λ_ _=> ?_;apply X l₂ _ a e E S ⟨U,U,U,U,U,U,U⟩ U;simp;rfl
end
section
variable{J:Jd}{l:fc}{xs:List Ð}
def ai3(s:gw l)(E:¬l.q)(o:PT v x z b j i d)(Zb:i<j)(hR:j<1000)(h9:d[9]?=Â (À<|Â ⟨m,0,Á⟩))(Rz:d[28]?=Â (Ĭ Ó))(hn:n<1000) (h:gZ l m (Ê #[À<|Â ⟨k,0,Á⟩,É Î i,À<|Â ⟨b,0,Á⟩,À Á] 155)) (lE:l.w.ownsRow 0 155 4 x n xs) (K:∀a,x.ownBlock=Â a->l.O a) (hJ:∀B L t,gh (λf=>Â f=x.ownBlock) l B->B.w.ownsRow 0 155 4 t (n+1) (xs++[À<|Â ⟨k,0,Á⟩,É Î i,À<|Â ⟨b,0,Á⟩,À Á])->(∀a,t.ownBlock=Â a->B.O a)->(t.ownBlock=x.ownBlock\/∃a,t.ownBlock=Â a/\l.w.heap.size<=a)->PT v t z b j (i+1) L->fh Ä Ó J B (CM L qX)): fh Ä Ó J l (Is d qX):=by
 obtain⟨y0,y1,y2,y3,M,N,y6,y7,y8,y9,wY,yV,wZ,P,sN,qM,vr,vt,uj,uk,um,sP,sQ,sR,uo,vu,w7,sS,qN,uq,p9,qa,pR,o6,o7,oJ,oK,pS,pT,pU,pV,pW,pX,pY,pZ,p6,nQ,nR,rfl⟩:=L5 d o.r;obtain rfl:v=M:=(show M=v by simpa using o.N).symm;obtain rfl:x=N:=(show N=x by simpa using o.S).symm;obtain rfl:y6=À (Â ⟨b,0,Á⟩):=by simpa using o.Y
 obtain rfl:y9=À (Â ⟨m,0,Á⟩):=by simpa using h9
 obtain rfl:z=P:=(show P=z by simpa using o.C).symm;obtain rfl:sN=É Î j:=by simpa using o.I
 obtain rfl:qM=É Î i:=by simpa using o.M
 obtain rfl:qN=Ĭ Ó:=by simpa using Rz
 have hF:True:=trivial;apply fN (n:=40) s.r;simp only[Is];conv in Rx=>whnf
 conv in Ry=>whnf
 repeat w_go fv
 refine Ë λ_ _=> ?_;refine pd (v:=ę #[À<|Â ⟨k,0,Á⟩,É Î i,À<|Â ⟨b,0,Á⟩,À Á]) U U (by k_ne) s.r E (λp r=> ?_) (λp r e y=> ?_) ?_
 .skip;have C:p.cell? ⟨m,0,Á⟩=Â (À<|Â ⟨k,0,Á⟩):=(gX.r (show gX l ⟨m,0,Á⟩from Ã<|Ã h.fp) r).trans<|h.C U;have D:p.cell? ⟨m,1,Á⟩=Â (É Î i):=(gX.r (show gX l ⟨m,1,Á⟩from Ã<|Ã h.fp) r).trans<|h.C U;have F:p.cell? ⟨m,2,Á⟩=Â (À<|Â ⟨b,0,Á⟩):=(gX.r (show gX l ⟨m,2,Á⟩from Ã<|Ã h.fp) r).trans<|h.C U;have G:p.cell? ⟨m,3,Á⟩=Â (À Á):=(gX.r (show gX l ⟨m,3,Á⟩from Ã<|Ã h.fp) r).trans<|h.C U;go_simp
 .have u:∀g,gX l ⟨m,g,Á⟩:=λg=>Ã<|Ã h.fp;have C:p.cell? ⟨m,0,Á⟩=Â (À<|Â ⟨k,0,Á⟩):=(gX.r (show gX l ⟨m,0,Á⟩from Ã<|Ã h.fp) r).trans<|h.C U;have D:p.cell? ⟨m,1,Á⟩=Â (É Î i):=(gX.r (show gX l ⟨m,1,Á⟩from Ã<|Ã h.fp) r).trans<|h.C U;have F:p.cell? ⟨m,2,Á⟩=Â (À<|Â ⟨b,0,Á⟩):=(gX.r (show gX l ⟨m,2,Á⟩from Ã<|Ã h.fp) r).trans<|h.C U;have G:p.cell? ⟨m,3,Á⟩=Â (À Á):=(gX.r (show gX l ⟨m,3,Á⟩from Ã<|Ã h.fp) r).trans<|h.C U;simp[go_sem,C,D,F,G]at y;rcases y with rfl|rfl|rfl|rfl
  .exact(u _).C
  .exact(u _).C
  .exact(u _).C
  .exact(u _).C
 walk_nrm;refine pf (V:=λp=>Æ (Â ⟨p,0,Á⟩) 1 1) (ob:=Ê #[À<|Â ⟨k,0,Á⟩,É Î i,À<|Â ⟨b,0,Á⟩,À Á] 155) U U (by k_ne) s.r E (λw=>by go_simp) (λw=>by simp[go_sem]) λr Q=> ?_;walk_nrm;have p:=mR (X:=λ_=>False) (ob:=Ê #[À<|Â ⟨k,0,Á⟩,É Î i,À<|Â ⟨b,0,Á⟩,À Á] 155) s Q;have y:gZ (gI l r<|Ê #[À<|Â ⟨k,0,Á⟩,É Î i,À<|Â ⟨b,0,Á⟩,À Á] 155) r.heap.size (Ê #[À<|Â ⟨k,0,Á⟩,É Î i,À<|Â ⟨b,0,Á⟩,À Á] 155):=⟨Ç U,mQ⟩;have C:∀a,x.ownBlock=Â a->(gI l r<|Ê #[À<|Â ⟨k,0,Á⟩,É Î i,À<|Â ⟨b,0,Á⟩,À Á] 155).O a:=λa e=>Ã<|K a e;have F:=nU lE (w₁:=(gI l r<|Ê #[À<|Â ⟨k,0,Á⟩,É Î i,À<|Â ⟨b,0,Á⟩,À Á] 155).w) λa e=>p.r a (Ã<|K a e) id;generalize gI l r (Ê #[À<|Â ⟨k,0,Á⟩,É Î i,À<|Â ⟨b,0,Á⟩,À Á] 155)=l₄ at p y C F|-;generalize r.heap.size=px at y|-;have G:=p.N s;have S:¬l₄.q:=by rwa[p.q]
 have Fb:Ä.info? 155=Â ĉ:=Ň;refine H9 (v:=x) (us:=[À<|Â ⟨k,0,Á⟩,É Î i,À<|Â ⟨b,0,Á⟩,À Á]) (px:=px) (c:=1) (n:=n) (sz:=4) (xs:=xs) (inf:=ĉ) (z:=ę #[À Á,É Î 0,À Á,À Á]) U U (by k_ne) G S U U U ň Fb U U Z U U (by simp[ĉ];omega) (by simp only[ť];omega) F C y.fp (λg u D=>y.C<|by simpa using D) (by simp[Ú]) λu g D H T W Y uy=> ?_;walk_nrm;have k5:gh (λf=>Â f=x.ownBlock) l₄ (mS l₄ u D):=LH G H W λa e=>⟨C a e,e.symm⟩;have I:gh (λf=>Â f=x.ownBlock) l (mS l₄ u D):=(p.fM λ_ _ q=>q.elim).ff k5;have RE:g.ownBlock=x.ownBlock\/∃a,g.ownBlock=Â a/\l.w.heap.size<=a:=uy.imp id λq=>⟨_,q,Ø p.I H.r⟩;have xf:(mS l₄ u D).w.ownsRow 0 155 4 g (n+1) (xs++[À<|Â ⟨k,0,Á⟩,É Î i,À<|Â ⟨b,0,Á⟩,À Á]):=T;generalize mS l₄ u D=sV at I xf Y|-;clear p k5 W T uy y G S C F H Q;have rL:=I.N s;have hw:Î.wrap ((i:Int)+1)=((i+1:Nat):Int):=by rw[Cn Z Z];omega
 apply fN (n:=40) rL.r;repeat w_go fv
 refine Ë λ_ _=> ?_;refine hJ sV _ g I xf Y RE ⟨U,U,U,U,U,U,?_⟩;simp[hw]
def ai4(G:gw l)(hq:¬l.q)(hd:l.d=0)(I:PT v x z b j i d)(Zb:i<j)(hR:j<1000)(h9:d[9]?=Â (À<|Â ⟨m,0,Á⟩))(Rz:d[28]?=Â (Ĭ Í))(hn:n<1000) (h0:gZ l m (Ê #[À<|Â ⟨k,0,Á⟩,É Î i,À<|Â ⟨b,0,Á⟩,À Á] 155)) (lE:l.w.ownsRow 0 155 4 v n xs) (hO:∀f,v.ownBlock=Â f->l.O f) (sT:v.ownBlock≠Â m) (hJ:∀T t' W s,gh (λg=>Â g=v.ownBlock\/g=m) l T->T.w.ownsRow 0 155 4 W (n+1) (xs++[À<|Â ⟨k,0,Á⟩,É Î i,À<|Â ⟨b,0,Á⟩,À<|Â ⟨s,0,Á⟩])->(∀f,W.ownBlock=Â f->T.O f)->(W.ownBlock=v.ownBlock\/∃f,W.ownBlock=Â f/\s<f)->l.w.heap.size<=s->gZ T s (Ê #[É ë 4294967296,É ú 0,Æ Á 0 0] 105)->PT W x z s j (i+1) t'->fh Ä Ó J T (CM t' qX)): fh Ä Ó J l (Is d qX):=by
 obtain⟨y0,y1,y2,y3,y4,y5,y6,y7,y8,y9,wY,yV,wZ,rG,sN,qM,vr,vt,uj,uk,um,sP,sQ,sR,uo,vu,w7,sS,qN,uq,p9,qa,pR,o6,o7,oJ,oK,pS,pT,pU,pV,pW,pX,pY,pZ,p6,nQ,nR,rfl⟩:=L5 d I.r;obtain rfl:v=y4:=(show y4=v by simpa using I.N).symm;obtain rfl:x=y5:=(show y5=x by simpa using I.S).symm;obtain rfl:y6=À (Â ⟨b,0,Á⟩):=by simpa using I.Y
 obtain rfl:y9=À (Â ⟨m,0,Á⟩):=by simpa using h9
 obtain rfl:z=rG:=(show rG=z by simpa using I.C).symm;obtain rfl:sN=É Î j:=by simpa using I.I
 obtain rfl:qM=É Î i:=by simpa using I.M
 obtain rfl:qN=Ĭ Í:=by simpa using Rz
 have hF:True:=trivial;apply fN (n:=40) G.r;simp only[Is];conv in Rx=>whnf
 conv in Za=>whnf
 conv in Ry=>whnf
 repeat w_go fv
 refine Ë λ_ _=> ?_;refine HU (ob:=Ê #[É ë 0,É ú 0,Æ Á 0 0] 105) U U (by k_ne) G.r hq (λw=>by go_simp) (λw=>by simp[go_sem]) λD kC=> ?_;walk_nrm;have t:gh (λ_=>False) l (gI l D<|Ê #[É ë 0,É ú 0,Æ Á 0 0] 105):=mR G kC;have F:gZ (gI l D<|Ê #[É ë 0,É ú 0,Æ Á 0 0] 105) D.heap.size (Ê #[É ë 0,É ú 0,Æ Á 0 0] 105):=⟨Ç U,mQ⟩;have It:l.w.heap.size<=D.heap.size:=kC.r;generalize gI l D (Ê #[É ë 0,É ú 0,Æ Á 0 0] 105)=l₁ at t F|-;generalize D.heap.size=s at F It|-;clear kC D;have xd:=t.N G;have Cx:¬l₁.q:=by rwa[t.q]
 have htl:m<l.w.heap.size:=G.fx m<|Ã h0.fp;have t1:=h0.r t id;apply fN (n:=40) xd.r;iterate 7 w_go fv
 u_call qL.f_add (Θ Lk) addFn fv hF
 refine Ë λ_ _=> ?_;refine Y5 qL xd Cx (by rwa[t.d]) F.fp F.I U U λy hC=> ?_;walk_nrm;have E:gh (λg=>g=s) l₁ y:=hC.r;have L8:gh (λ_=>False) l y:=⟨λf q=>E.O f<|t.O f q,λf q=>(E.c f q).elim (t.c f) λh=>Ç<|Ø t.I h,E.S.trans t.S,E.Y.trans t.Y,E.b.trans t.b,E.K.trans t.K,E.q.trans t.q,E.d.trans t.d,E.fx,Ø t.I E.I,λo Y nx=>(E.r o (t.M Y) λe=>by have:=G.fx o Y;omega).trans<|t.r o Y nx,λa H=>(E.f a<|by rwa[t.C]).trans<|t.f a H,λa H=>(E.g a<|by rwa[t.C]).trans<|t.g a H,λa H h=>E.e a (by rwa[t.K])<|t.e a H h⟩;have L:=t1.r E Z;have N:gZ y s (Ê #[É ë 4294967296,É ú 0,Æ Á 0 0] 105):=⟨E.O s F.fp,hC.C⟩;have rI:=L8.N G;have qc:¬y.q:=by rwa[L8.q]
 have hgl:s<y.w.heap.size:=rI.fx s<|Ã N.fp;clear hC E t1 F t xd Cx l₁;apply fN (n:=40) rI.r;iterate 5 w_go fv
 refine Ë λ_ _=> ?_;refine H8 (p:=m) (off:=3) (v:=À<|Â ⟨s,0,Á⟩) (u:=À Á) U U (by k_ne) rI.r qc L.fp (L.C U) (by simp[ð,L.I]) U (λw r S=>by go_simp) (λw r S=>by simp[go_sem,â _ _ _ _ _ _ (show Ú (À<|Â ⟨s,0,Á⟩)=Ó from rfl),r,S]) ?_;have P:gh (λg=>g=m) l {y with w:=y.w.setCell ⟨m,3,Á⟩ (À<|Â ⟨s,0,Á⟩)}:=(L8.fM λ_ _ q=>q.elim).ff (LG (p:=m) rI (fI.fT _ _) L.fp U jU λo Y=>lk Y);have B:gZ {y with w:=y.w.setCell ⟨m,3,Á⟩ (À<|Â ⟨s,0,Á⟩)} m (Ê #[À<|Â ⟨k,0,Á⟩,É Î i,À<|Â ⟨b,0,Á⟩,À<|Â ⟨s,0,Á⟩] 155):=⟨L.fp,by show(y.w.setCell ⟨m,3,Á⟩<|À<|Â ⟨s,0,Á⟩).heap[m]?=_;unfold ă;simp[î,L.I]⟩;have g3:gZ {y with w:=y.w.setCell ⟨m,3,Á⟩ (À<|Â ⟨s,0,Á⟩)} s (Ê #[É ë 4294967296,É ú 0,Æ Á 0 0] 105):=⟨N.fp,(lk<|by show s≠m;omega).trans N.I⟩;have ai5:s<({y with w:=y.w.setCell ⟨m,3,Á⟩ (À<|Â ⟨s,0,Á⟩)}:fc).w.heap.size:=by show s<(y.w.setCell ⟨m,3,Á⟩<|À<|Â ⟨s,0,Á⟩).heap.size;rwa[jU]
 generalize({y with w:=y.w.setCell ⟨m,3,Á⟩ (À<|Â ⟨s,0,Á⟩)}:fc)=kt at P B g3 ai5|-;clear L N L8 rI qc hgl y;have Q:=P.N G;have xb:¬kt.q:=by rwa[P.q]
 have Fc:∀f,v.ownBlock=Â f->kt.O f:=λf e=>P.O f<|hO f e;have LV:kt.w.ownsRow 0 155 4 v n xs:=nU lE λf e=>P.r f (Ã<|hO f e) λh=>sT<|h▸e;apply fN (n:=40) Q.r;iterate 3 w_go fv
 refine Ë λ_ _=> ?_;refine pd (v:=ę #[À<|Â ⟨k,0,Á⟩,É Î i,À<|Â ⟨b,0,Á⟩,À<|Â ⟨s,0,Á⟩]) U U (by k_ne) Q.r xb (λD r=> ?_) (λD r e he=> ?_) ?_
 .skip;have g0:D.cell? ⟨m,0,Á⟩=Â (À<|Â ⟨k,0,Á⟩):=(gX.r (show gX kt ⟨m,0,Á⟩from Ã<|Ã B.fp) r).trans<|B.C U;have F:D.cell? ⟨m,1,Á⟩=Â (É Î i):=(gX.r (show gX kt ⟨m,1,Á⟩from Ã<|Ã B.fp) r).trans<|B.C U;have N:D.cell? ⟨m,2,Á⟩=Â (À<|Â ⟨b,0,Á⟩):=(gX.r (show gX kt ⟨m,2,Á⟩from Ã<|Ã B.fp) r).trans<|B.C U;have g3:D.cell? ⟨m,3,Á⟩=Â (À<|Â ⟨s,0,Á⟩):=(gX.r (show gX kt ⟨m,3,Á⟩from Ã<|Ã B.fp) r).trans<|B.C U;go_simp
 .have S:∀o,gX kt ⟨m,o,Á⟩:=λo=>Ã<|Ã B.fp;have g0:D.cell? ⟨m,0,Á⟩=Â (À<|Â ⟨k,0,Á⟩):=(gX.r (show gX kt ⟨m,0,Á⟩from Ã<|Ã B.fp) r).trans<|B.C U;have F:D.cell? ⟨m,1,Á⟩=Â (É Î i):=(gX.r (show gX kt ⟨m,1,Á⟩from Ã<|Ã B.fp) r).trans<|B.C U;have N:D.cell? ⟨m,2,Á⟩=Â (À<|Â ⟨b,0,Á⟩):=(gX.r (show gX kt ⟨m,2,Á⟩from Ã<|Ã B.fp) r).trans<|B.C U;have g3:D.cell? ⟨m,3,Á⟩=Â (À<|Â ⟨s,0,Á⟩):=(gX.r (show gX kt ⟨m,3,Á⟩from Ã<|Ã B.fp) r).trans<|B.C U;simp[go_sem,g0,F,N,g3]at he;rcases he with rfl|rfl|rfl|rfl
  .exact(S _).C
  .exact(S _).C
  .exact(S _).C
  .exact(S _).C
 walk_nrm;refine pf (V:=λp=>Æ (Â ⟨p,0,Á⟩) 1 1) (ob:=Ê #[À<|Â ⟨k,0,Á⟩,É Î i,À<|Â ⟨b,0,Á⟩,À<|Â ⟨s,0,Á⟩] 155) U U (by k_ne) Q.r xb (λw=>by go_simp) (λw=>by simp[go_sem]) λS Cy=> ?_;walk_nrm;have r:=mR (X:=λ_=>False) (ob:=Ê #[À<|Â ⟨k,0,Á⟩,É Î i,À<|Â ⟨b,0,Á⟩,À<|Â ⟨s,0,Á⟩] 155) Q Cy;have p4:gZ (gI kt S<|Ê #[À<|Â ⟨k,0,Á⟩,É Î i,À<|Â ⟨b,0,Á⟩,À<|Â ⟨s,0,Á⟩] 155) S.heap.size (Ê #[À<|Â ⟨k,0,Á⟩,É Î i,À<|Â ⟨b,0,Á⟩,À<|Â ⟨s,0,Á⟩] 155):=⟨Ç U,mQ⟩;have xe:∀f,v.ownBlock=Â f->(gI kt S<|Ê #[À<|Â ⟨k,0,Á⟩,É Î i,À<|Â ⟨b,0,Á⟩,À<|Â ⟨s,0,Á⟩] 155).O f:=λf e=>Ã<|Fc f e;have Cz:=nU LV (w₁:=(gI kt S<|Ê #[À<|Â ⟨k,0,Á⟩,É Î i,À<|Â ⟨b,0,Á⟩,À<|Â ⟨s,0,Á⟩] 155).w) λf e=>r.r f (Ã<|Fc f e) id;generalize gI kt S (Ê #[À<|Â ⟨k,0,Á⟩,É Î i,À<|Â ⟨b,0,Á⟩,À<|Â ⟨s,0,Á⟩] 155)=l₄ at r p4 xe Cz|-;generalize S.heap.size=px at p4|-;have zd:=r.N Q;have CB:¬l₄.q:=by rwa[r.q]
 have Fb:Ä.info? 155=Â ĉ:=Ň;refine H9 (v:=v) (us:=[À<|Â ⟨k,0,Á⟩,É Î i,À<|Â ⟨b,0,Á⟩,À<|Â ⟨s,0,Á⟩]) (px:=px) (c:=1) (n:=n) (sz:=4) (xs:=xs) (inf:=ĉ) (z:=ę #[À Á,É Î 0,À Á,À Á]) U U (by k_ne) zd CB U U U ň Fb U U Z U U (by simp[ĉ];omega) (by simp only[ť];omega) Cz xe p4.fp (λo u hu=>p4.C<|by simpa using hu) (by simp[Ú]) λsU Cw L9 CC sF Ip CF uy=> ?_;walk_nrm;have k5:gh (λg=>Â g=v.ownBlock) l₄ (mS l₄ sU L9):=LH zd CC Ip λf e=>⟨xe f e,e.symm⟩;have vy:gh (λg=>Â g=v.ownBlock) kt (mS l₄ sU L9):=(r.fM λ_ _ q=>q.elim).ff k5;have RE:Cw.ownBlock=v.ownBlock\/∃f,Cw.ownBlock=Â f/\kt.w.heap.size<=f:=uy.imp id λq=>⟨_,q,Ø r.I CC.r⟩;have xf:(mS l₄ sU L9).w.ownsRow 0 155 4 Cw (n+1) (xs++[À<|Â ⟨k,0,Á⟩,É Î i,À<|Â ⟨b,0,Á⟩,À<|Â ⟨s,0,Á⟩]):=sF;generalize mS l₄ sU L9=sV at vy xf CF|-;clear r k5 Ip sF uy p4 zd CB xe Cz CC Cy;have rL:=vy.N Q;have hw:Î.wrap ((i:Int)+1)=((i+1:Nat):Int):=by rw[Cn Z Z];omega
 have g5:=g3.r vy<|YV lE It;have CG:gh (λg=>Â g=v.ownBlock\/g=m) l sV:=(P.fM λ_ _ q=>Ç q).ff (vy.fM λ_ _ q=>Ã q);apply fN (n:=40) rL.r;repeat w_go fv
 refine Ë λ_ _=> ?_;refine hJ sV _ Cw s CG xf CF (RE.imp id λ⟨f,q1,q2⟩=>⟨f,q1,Z⟩) It g5 ⟨U,U,U,U,U,U,?_⟩;simp[hw]
end
def gW(kd:Nat->Int)(i:Nat):List Nat:=(ä i).filter λj=>decide<|kd j=1
def jy(kd:Nat->Int)(i:Nat):List Nat:=(ä i).filter λj=>decide<|kd j≠1
def fJ(kd:Nat->Int)(i:Nat):Nat:=(gW kd i).length
def tI(a g:Nat->Nat)(p:Nat×Nat):List Ð:=[À<|Â ⟨a p.1,0,Á⟩,É Î p.1,À<|Â ⟨g p.2,0,Á⟩,À<|Â ⟨g<|p.2+1,0,Á⟩]
def tQ(kd:Nat->Int)(a g:Nat->Nat)(p:Nat):List Ð:=[À<|Â ⟨a p,0,Á⟩,É Î p,À<|Â ⟨g<|fJ kd p,0,Á⟩,À Á]
def jM(kd:Nat->Int)(rq g:Nat->Nat)(i:Nat):List Ð:=(gW kd i).zipIdx.flatMap<|tI rq g
def mC(kd:Nat->Int)(a g:Nat->Nat)(i:Nat):List Ð:=(jy kd i).flatMap<|tQ kd a g
section
variable{kd:Nat->Int}{rq g:Nat->Nat}
def sX(h:kd i=1):gW kd (i+1)=gW kd i++[i]:=by simp[gW,Ą,Ć,h]
def vz(h:kd i≠1):gW kd (i+1)=gW kd i:=by simp[gW,Ą,Ć,h]
def RF(h:kd i=1):jy kd (i+1)=jy kd i:=by simp[jy,Ą,Ć,h]
def RG(h:kd i≠1):jy kd (i+1)=jy kd i++[i]:=by simp[jy,Ą,Ć,h]
def RH:∀i,fJ kd i<=i:=λi=>by unfold fJ gW;exact Ø (ī _ _) fj
def ai6:∀i,(jy kd i).length<=i:=λi=>by unfold jy;exact Ø (ī _ _) fj
def Zc(h:j<=i):fJ kd j<=fJ kd i:=by
 induction i with
 |zero=>
  have:j=0:=Z
  rw[this];exact Û _
 |succ i c=>
  by_cases e:j=i+1
  .rw[e];exact Û _
  .have a:=c Z;by_cases b:kd i=1
   .unfold fJ at a|-;rw[sX b];simp;omega
   .unfold fJ at a|-;rwa[vz b]
def ai7(h:kd i=1):jM kd rq g (i+1)=jM kd rq g i++tI rq g (i,fJ kd i):=by unfold jM;rw[sX h,List.zipIdx_append,ĳ];simp[fJ]
def ai8(h:kd i≠1):jM kd rq g (i+1)=jM kd rq g i:=by unfold jM;rw[vz h]
def ai9(h:kd i=1):mC kd rq g (i+1)=mC kd rq g i:=by unfold mC;rw[RF h]
def aja(h:kd i≠1):mC kd rq g (i+1)=mC kd rq g i++tQ kd rq g i:=by unfold mC;rw[RG h,ĳ];simp
def RJ{α:Type}{f a:α->List Ð}:∀(l:List α),(∀x∈l,f x=a x)->l.flatMap f=l.flatMap a
 |[],_=>rfl
 |x::l,h=>by rw[ċ,ċ,h x List.mem_cons_self,RJ l λy b=>h y<|List.mem_cons_of_mem _ b]
def ajb(h:∀k,k<=fJ kd i->D k=g k):jM kd rq D i=jM kd rq g i:=by
 unfold jM;refine RJ _ λx a=> ?_;let⟨p,k⟩:=x;have b:=(List.mem_zipIdx a).2.1;have c:k<fJ kd i:=by unfold fJ;omega
 simp[tI,h k Z,h (k+1) Z]
def ajc(h:∀k,k<=fJ kd i->D k=g k):mC kd rq D i=mC kd rq g i:=by
 unfold mC;refine RJ _ λp a=> ?_;have b:p<i:=by have:=(ą.1 a).1;simpa using this
 simp[tQ,h (fJ kd p)<|Zc Z]
def RL{α:Type}{f:α->List Ð}(a:∀x,(f x).length=4)(b:i<4):∀(l:List α) (k:Nat) (x:α),l[k]?=Â x->(l.flatMap f)[k*4+i]?=(f x)[i]?
 |[],k,x,h=>by simp at h
 |y::l,0,x,h=>by
  obtain rfl:y=x:=by simpa using h
  rw[ċ,List.getElem?_append_left (by rw[a];omega)];simp
 |y::l,k+1,x,h=>by rw[ċ,List.getElem?_append_right (by rw[a];omega),a,show(k+1)*4+i-4=k*4+i by omega];exact RL a b l k x<|by simpa using h
end
section
variable{Y:Nat->Prop}{l m o:fc}
def gh.vA(h:gh X l m)(k:gh Y m o)(e:∀j,l.M j->¬Y j):gh X l o:= ⟨λj q=>k.O j<|h.O j q,λj q=>(k.c j q).elim (h.c j) λz=>Ç<|Ø h.I z,k.S.trans h.S,k.Y.trans h.Y,k.b.trans h.b,k.K.trans h.K,k.q.trans h.q,k.d.trans h.d,k.fx,Ø h.I k.I,λj c f=>(k.r j (h.M c)<|e j c).trans<|h.r j c f,λa b=>(k.f a<|by rwa[h.C]).trans<|h.f a b,λa b=>(k.g a<|by rwa[h.C]).trans<|h.g a b,λa b z=>k.e a (by rwa[h.K])<|h.e a b z⟩
end
abbrev RN:Ζ:=Ê #[É ë 4294967296,É ú 0,Æ Á 0 0] 105
structure ze(kd:Nat->Int)(rq g:Nat->Nat)(S i:Nat)(iv qv:Ð)(l0 l:fc):Prop where
 r:gh (λ_=>False) l0 l
 jM:l.w.ownsRow 0 155 4 iv (fJ kd i) (jM kd rq g i)
 mC:l.w.ownsRow 0 155 4 qv (jy kd i).length (mC kd rq g i)
 C:∀k,iv.ownBlock=Â k->l.O k/\l0.w.heap.size<=k
 I:∀k,qv.ownBlock=Â k->l.O k/\l0.w.heap.size<=k
 M:∀k,iv.ownBlock=Â k->qv.ownBlock≠Â k
 N:∀k,1<=k->k<=fJ kd i->gZ l (g k) RN/\l0.w.heap.size<=g k/\iv.ownBlock≠Â (g k)/\qv.ownBlock≠Â (g k)
 g0:g 0<l0.w.heap.size
 S:g 0=S
 Y:∀k k',k<k'->k'<=fJ kd i->g k<g k'
section
variable{kd:Nat->Int}{rq g:Nat->Nat}{iv qv:Ð}{l0 l m o:fc}
theorem ze.ajd(h:ze kd rq g n i iv qv l0 l)(C:gw l0)(s:gw l)(d:kd i≠1)(a:gh (λ_=>False) l m)(f:gh (λb=>Â b=qv.ownBlock) m o)(D:o.w.ownsRow 0 155 4 v ((jy kd i).length+1) (fu.mC kd rq g i++tQ kd rq g i))(E:∀k,v.ownBlock=Â k->o.O k)(u:v.ownBlock=qv.ownBlock\/∃k,v.ownBlock=Â k/\m.w.heap.size<=k):ze kd rq g n (i+1) iv v l0 o:=by
 have q:fJ kd (i+1)=fJ kd i:=by unfold fJ;rw[vz d]
 have x:∀{j},l.O j->qv.ownBlock≠Â j->v.ownBlock≠Â j:=λ{j} c hn e=>by
  rcases u with z|⟨k,r,B⟩
  .grind
  .rw[r]at e;have:=Ô e;have:=(λc=>È (s.fx _<|Ã c) a.I) c;omega
 refine⟨(h.r.ff a).vA f λj c e=> ?_,?_,?_,λk e=>⟨f.O k<|a.O k (h.C k e).1,(h.C k e).2⟩,λk e=>⟨E k e,?_⟩,λk e=>x (h.C k e).1<|h.M k e,λk t p=> ?_,h.g0,h.S,λk y t p=>h.Y k y t<|by rwa[<-q]⟩
 .have:=(h.I j e.symm).2;have:=C.fx j c;omega
 .rw[q,ai8 d];refine nU h.jM λk e=>(f.r k (Ã<|a.O k (h.C k e).1) λz=>h.M k e z.symm).trans<|a.r k (Ã (h.C k e).1) id
 .rw[RG d,aja d];simpa using D
 .rcases u with z|⟨y,r,B⟩
  .rw[z]at e;exact(h.I k e).2
  .rw[r]at e;have:=Ô e;have:=h.r.I;have:=a.I;omega
 .rw[q]at p;let⟨r,F,G,B⟩:=h.N k t p;exact⟨(r.r a id).r f λz=>B z.symm,F,G,x r.fp B⟩
theorem ze.kK{tb:Nat}(h:ze kd rq g n i iv qv l0 l)(F:gw l0)(s:gw l)(a:kd i=1)(c:gh (λ_=>False) l m)(P:l.w.heap.size<=tb)(p:gh (λb=>Â b=iv.ownBlock\/b=tb) m o)(G:o.w.ownsRow 0 155 4 v (fJ kd i+1) (fu.jM kd rq g i++[À<|Â ⟨rq i,0,Á⟩,É Î i,À<|Â ⟨g<|fJ kd i,0,Á⟩,À<|Â ⟨J,0,Á⟩]))(H:∀k,v.ownBlock=Â k->o.O k)(u:v.ownBlock=iv.ownBlock\/∃k,v.ownBlock=Â k/\J<k)(Q:m.w.heap.size<=J)(I:gZ o J RN):ze kd rq (λk=>if k<=fJ kd i then g k else J) n (i+1) v qv l0 o:=by
 have x:fJ kd (i+1)=fJ kd i+1:=by unfold fJ;rw[sX a];simp
 have S:=h.r.I;have T:=c.I;have d:∀{j},l.O j->j<l.w.heap.size:=λq=>s.fx _<|Ã q;have B:∀{j},l.O j->iv.ownBlock≠Â j->v.ownBlock≠Â j:=λ{j} q hn e=>by grind
 have C:∀k,k<=fJ kd i->(if k<=fJ kd i then g k else J)=g k:=λk a=>if_pos a;refine⟨(h.r.ff c).vA p λj q e=> ?_,?_,?_,λk e=>⟨H k e,?_⟩,λk e=>⟨p.O k<|c.O k (h.I k e).1,(h.I k e).2⟩,λk e z=>B (h.I k z).1 (λy=>h.M k y z) e,λk t D=> ?_,?_,?_,λk r t D=> ?_⟩
 .have:=F.fx j q;rcases e with e|e
  .have:=(h.C j e.symm).2;omega
  .omega
 .rw[x,ai7 a,ajb C];simpa[tI,show¬(fJ kd i+1<=fJ kd i) by omega]using G
 .rw[RF a,ai9 a,ajc C];refine nU h.mC λk e=> ?_;refine(p.r k (Ã<|c.O k (h.I k e).1) ?_).trans<|c.r k (Ã (h.I k e).1) id;rintro(z|z)
  .exact h.M k z.symm e
  .have:=d (h.I k e).1;omega
 .rcases u with z|⟨r,K,L⟩
  .rw[z]at e;exact(h.C k e).2
  .grind
 .by_cases y:k<=fJ kd i
  .simp only[if_pos y];let⟨f,M,E,N⟩:=h.N k t y;refine⟨(f.r c id).r p ?_,M,B f.fp E,N⟩;rintro(z|z)
   .exact E z.symm
   .have:=d f.fp;omega
  .simp only[if_neg y];refine⟨I,Z,λe=> ?_,λe=> ?_⟩
   .rcases u with z|⟨r,K,L⟩
    .rw[z]at e;have:=d (h.C J e).1;omega
    .grind
   .have:=d (h.I J e).1;omega
 .simp only[Ĉ,if_true];exact h.g0
 .simp only[Ĉ,if_true];exact h.S
 .rw[x]at D;by_cases y:r<=fJ kd i
  .simp only[if_pos y,if_pos (show k<=fJ kd i by omega)];exact h.Y k r t y
  .simp only[if_neg y,if_pos (show k<=fJ kd i by omega)];by_cases E:k=0
   .subst E;have:=h.g0;omega
   .let⟨f,_⟩:=h.N k Z Z;have:=d f.fp;omega
end
section
variable{J:Jd}{ra:Option ã}{rb cr R:Nat}{cs:List é}{kd:Nat->Int}{rq:Nat->Nat}{l0:fc}
def RO(j:gw l0)(u:¬l0.q)(v:l0.d=0)(m:R<1000)(p:0<R->ra=Â ⟨rb,0,Á⟩)(x:0<R->l0.M rb)(y:∀i,i<R->l0.w.cell? ⟨rb,i,Á⟩=Â (À<|Â ⟨rq i,0,Á⟩))(r:∀i,i<R->l0.M (rq i))(z:∀i,i<R->l0.w.cell? ⟨rq i,4,Á⟩=Â (É Î<|kd i)) (B:∀g N P a b,ze kd rq g n R a b l0 N->PT a b (Æ ra R cr) (g<|fJ kd R) R R P->fh Ä Ó J N (CM P cs)): ∀d i,R=i+d->∀g l t a b,ze kd rq g n i a b l0 l->PT a b (Æ ra R cr) (g<|fJ kd i) R i t->fh Ä Ó J l (CM t cs)
 |0,i,hi,g,l,t,a,b,hP,hT=>by obtain rfl:R=i:=hi;exact B g l t a b hP hT
 |d+1,i,hi,g,l,t,a,b,hP,hT=>by
  have f:i<R:=Z
  have o:=hP.r.N j;have Q:¬l.q:=by rwa[hP.r.q]
  have S:=x Z;refine ai2 o Q (by rwa[<-p Z]) f m (hP.r.M S) ((gK<|hP.r.r rb S id).trans<|y i f) (hP.r.M<|r i f) ((gK<|hP.r.r _ (r i f) id).trans<|z i f) λl1 t1 T c sT V C W s=> ?_;rw[<-p Z]at C;have X:=c.N o;have Y:¬l1.q:=by rwa[c.q]
  have hc:=RH (kd:=kd) i;have hcq:=ai6 (kd:=kd) i;by_cases h:kd i=1
  .rw[decide_eq_false (by simpa using h)]at s;refine ai4 X Y (by rwa[c.d,hP.r.d]) C f m W s Z V (nU hP.jM λk e=>c.r k (Ã (hP.C k e).1) id) (λk e=>c.O k (hP.C k e).1) (λe=>by have:=o.fx T<|Ã (hP.C T e).1;omega) λD E iv' gt F G H I It hg K=> ?_;apply RO j u v m p x y r z B d (i+1) Z _ D E iv' b (hP.kK j o h c sT F G H I It hg);have L:fJ kd (i+1)=fJ kd i+1:=by unfold fJ;rw[sX h];simp
   rw[L];simp only[show¬(fJ kd i+1<=fJ kd i) by omega,if_false];exact K
  .rw[decide_eq_true (by simpa using h)]at s;refine ai3 X Y C f m W s Z V (nU hP.mC λk e=>c.r k (Ã (hP.I k e).1) id) (λk e=>c.O k (hP.I k e).1) λD E e F G H I K=> ?_;apply RO j u v m p x y r z B d (i+1) Z _ D E a e (hP.ajd j o h c F G H I);have L:fJ kd (i+1)=fJ kd i:=by unfold fJ;rw[vz h]
   rwa[L]
end
noncomputable def Zd:Ġ:=jZ Ģ []
noncomputable def Ze (a b:Ð) (c:List é):Ý:=G ((base 46).at ⟨#[a,b,Å,Å,Å,Å,Å,Å,Å,Å,Å,Å,Å,Å,Å,Å,Å,Å,Å,Å,Å,Å,Å,Å,Å,Å,Å,Å,Å,Å,Å,Å,Å,Å,Å,Å,Å,Å,Å,Å,Å,Å,Å,Å,Å,Å,Å,Å],[]⟩ [ö Zd]) c
def aje{c:é}{d:Ş}{k:List Ż}{K:Ý->ß->Array Μ->Prop}{t u v:Tmp}(g:f.kind=Ĥ)(j:y.defers=[])(l:P.funcs[f.fn]?=Â s)(e:s.results=#[.tmp t,.tmp u,.tmp v]) (h:K (G (c.at (d.put ((Q[i]?).bind (·.dst))<|ñ #[y.tmps.getD t Å,y.tmps.getD u Å,y.tmps.getD v Å])<|Ï Q jJ::k) qX) w #[]): (stepG P yQ (G {f.at y L with mode:=.returning}<|c.at d (Ï Q (i::jJ)::k)::qX) w).goes K:=by rwa[stepG_leave g j l (v:=ñ #[y.tmps.getD t Å,y.tmps.getD u Å,y.tmps.getD v Å]) (by simp[results,e,go_sem]) (by simp[results,e,go_sem]),Ī]
structure Iu(kd:Nat->Int)(rq g:Nat->Nat)(R:Nat)(iv qv sv:Ð)(l l':fc):Prop where
 Y:gh (λ_=>False) l l'
 jM:l'.w.ownsRow 0 155 4 iv (fJ kd R) (jM kd rq g R)
 mC:l'.w.ownsRow 0 155 4 qv (jy kd R).length (mC kd rq g R)
 r:∀k,iv.ownBlock=Â k->l'.O k/\l.w.heap.size<=k
 C:∀k,qv.ownBlock=Â k->l'.O k/\l.w.heap.size<=k
 dis:∀k,iv.ownBlock=Â k->qv.ownBlock≠Â k
 N:gZ l' (g 0) (Ê #[É ë 0,É ú 0,sv] 105)
 I:∀k,1<=k->k<=fJ kd R->gZ l' (g k) RN
 M:∀k,k<=fJ kd R->l.w.heap.size<=g k/\iv.ownBlock≠Â (g k)/\qv.ownBlock≠Â (g k)
 S:∀k k',k<k'->k'<=fJ kd R->g k<g k'
def ajf(w:ß)(a:Option ã)(b c:Nat):(đ 105 #[(1,Æ a b c)]).run Ä w=.ok (ę #[É ë 0,É ú 0,Æ a b c]) w:=run_build w 105 _ _ fO
def ajg(w:ß)(a:Option ã)(b c:Nat):(đ 105 #[(1,Æ a b c)]).events Ä w #[]=#[]:=by unfold đ;simp only[Sem.events_bind];simp[go_sem]
section
variable{J:Jd}{l:fc}{ra:Option ã}{rb cr R:Nat}{sa:Option ã}{sn sc:Nat}{k:List Ż}{kd:Nat->Int}{rq:Nat->Nat}
def ajh(j:gw l)(u:¬l.q)(I:l.d=0)(K:R<1000)(L:0<R->ra=Â ⟨rb,0,Á⟩)(z:0<R->l.M rb)(N:∀i,i<R->l.w.cell? ⟨rb,i,Á⟩=Â (À<|Â ⟨rq i,0,Á⟩))(B:∀i,i<R->l.M (rq i))(O:∀i,i<R->l.w.cell? ⟨rq i,4,Á⟩=Â (É Î<|kd i)) (P:∀g s b c,Iu kd rq g R b c (Æ sa sn sc) l s->fh Ä Ó J s (G (f.at (y.put ((Q[i]?).bind (·.dst))<|ñ #[b,c,À<|Â ⟨g<|fJ kd R,0,Á⟩])<|Ï Q jJ::k) qX)): fh Ä Ó J l (Ze (Æ ra R cr) (Æ sa sn sc)<|f.at y (Ï Q (i::jJ)::k)::qX):=by
 have hF:=trivial;apply fN (n:=40) j.r;simp only[Ze];conv in Zd=>whnf
 repeat w_go fv
 refine Ë λ_ _=> ?_;refine pd (v:=ę #[É ë 0,É ú 0,Æ sa sn sc]) U U (by k_ne) j.r u (λa r=> ?_) (λa r e p=> ?_) ?_
 .have h:=ajf a sa sn sc;go_simp
 .have h:=ajg a sa sn sc;simp[go_sem,h]at p
 walk_nrm;refine pf (V:=λp=>À<|Â ⟨p,0,Á⟩) (ob:=Ê #[É ë 0,É ú 0,Æ sa sn sc] 105) U U (by k_ne) j.r u (λw=>by go_simp) (λw=>by simp[go_sem]) λa C=> ?_;walk_nrm;have p:gh (λ_=>False) l (gI l a<|Ê #[É ë 0,É ú 0,Æ sa sn sc] 105):=mR j C;have t:gZ (gI l a<|Ê #[É ë 0,É ú 0,Æ sa sn sc] 105) a.heap.size (Ê #[É ë 0,É ú 0,Æ sa sn sc] 105):=⟨Ç U,mQ⟩;have D:=C.r;generalize gI l a (Ê #[É ë 0,É ú 0,Æ sa sn sc] 105)=l₁ at p t|-;generalize a.heap.size=gt at t D|-;have m:=p.N j;have S:¬l₁.q:=by rwa[p.q]
 apply fN (n:=40) m.r;repeat w_bar fv
 w_go fv
 refine Ë λ_ _=> ?_;have T:=m.fx gt<|Ã t.fp;refine RO m S (by rwa[p.d]) K L (λh=>p.M<|z h) (λi h=>(gK<|p.r rb (z Z) id).trans<|N i h) (λi h=>p.M<|B i h) (λi h=>(gK<|p.r _ (B i h) id).trans<|O i h) (λg s W b c h r=> ?_) R 0 Z (λ_=>gt) l₁ _ (Æ Á 0 0) (Æ Á 0 0) ⟨gh.fT m.r,⟨U,Ã ⟨U,U⟩⟩,⟨U,Ã ⟨U,U⟩⟩,λk e=>(by cases e),λk e=>(by cases e),λk e=>(by cases e),λk x o=> ?_,T,rfl,λk X x o=> ?_⟩ ⟨rfl,rfl,rfl,rfl,rfl,rfl,rfl⟩
 .have Y:=h.r.N m;obtain⟨y0,y1,y2,y3,E,F,y6,y7,y8,y9,wY,yV,wZ,rG,sN,qM,vr,vt,uj,uk,um,sP,sQ,sR,uo,vu,w7,sS,qN,uq,p9,qa,pR,o6,o7,oJ,oK,pS,pT,pU,pV,pW,pX,pY,pZ,p6,nQ,nR,rfl⟩:=L5 W r.r;obtain rfl:b=E:=(show E=b by simpa using r.N).symm;obtain rfl:c=F:=(show F=c by simpa using r.S).symm;obtain rfl:y6=À (Â ⟨g<|fJ kd R,0,Á⟩):=by simpa using r.Y
  obtain rfl:rG=Æ ra R cr:=by simpa using r.C
  obtain rfl:sN=É Î R:=by simpa using r.I
  obtain rfl:qM=É Î R:=by simpa using r.M
  have gJ:¬((R:Int)<(R:Int)):=Z
  apply fN (n:=40) Y.r;simp only[CM];conv in Ir=>whnf
  conv in Rw=>whnf
  repeat w_go fv
  u_in fv hF
  refine aje U U Β U ⟨by u_nil,?_⟩;walk_nrm;refine Ë λ_ _=> ?_;have H:=h.S;refine P g s b c ⟨p.ff h.r,h.jM,h.mC,λk e=>⟨(h.C k e).1,Ø p.I (h.C k e).2⟩,λk e=>⟨(h.I k e).1,Ø p.I (h.I k e).2⟩,h.M,H▸t.r h.r id,λk x o=>(h.N k x o).1,λk hk=> ?_,h.Y⟩;by_cases h0:k=0
  .subst h0;rw[H];exact⟨D,λe=>by have:=(h.C _ e).2;omega,λe=>by have:=(h.I _ e).2;omega⟩
  .let⟨_,a2,a3,a4⟩:=h.N k Z hk;exact⟨Ø p.I a2,a3,a4⟩
 .have:k<=0:=o;omega
 .have:X<=0:=o;omega
end
noncomputable def Zf:Ġ:=jZ Tryz.f37 []
noncomputable def Fe (a b:Ð) (n:Nat) (c:List é):Ý:=G ((base 37).at ⟨#[a,b,É Î n,Å,Å,Å,Å,Å,Å,Å,Å,Å,Å,Å,Å,Å,Å,Å,Å,Å,Å,Å,Å,Å,Å,Å,Å,Å,Å,Å,Å,Å,Å,Å,Å,Å,Å,Å,Å,Å,Å,Å,Å,Å,Å,Å,Å,Å,Å],[]⟩ [ö Zf]) c
def Iu.vA{kd:Nat->Int}{rq:Nat->Nat}{R:Nat}{l a b:fc}(h:Iu kd rq D R v x z l a)(k:gh (λ_=>False) a b):Iu kd rq D R v x z l b:= ⟨h.Y.ff k,nU h.jM λj e=>k.r j (Ã (h.r j e).1) id,nU h.mC λj e=>k.r j (Ã (h.C j e).1) id,λj e=>⟨k.O j (h.r j e).1,(h.r j e).2⟩,λj e=>⟨k.O j (h.C j e).1,(h.C j e).2⟩,h.dis,h.N.r k id,λj c d=>(h.I j c d).r k id,h.M,h.S⟩
abbrev xh(R:Nat):Ζ:=Ê (madeCells (Γ<|á ⟨#[]⟩) R) 9
structure Ma(kd:Nat->Int)(rq g:Nat->Nat)(R:Nat)(iv qv sv:Ð)(an ba bi all bw bf:Nat)(l lp l':fc):Prop where
 C:gh (λ_=>False) l l'
 r:Iu kd rq g R iv qv sv lp l'
 I:gZ l' an (xh R)
 a:gZ l' ba (Ê #[Æ (Â ⟨an,0,Á⟩) R R] 25)
 c:gZ l' bi (Ê #[iv] 85)
 Y:gZ l' all (Ê #[É ë 4294967296,É ú 0] 97)
 d:gZ l' bw (Ê #[À<|Â ⟨all,0,Á⟩] 162)
 b:gZ l' bf (Ê #[Ď (ý 48) #[] #[À<|Â ⟨bi,0,Á⟩,À<|Â ⟨ba,0,Á⟩]] 1)
 M:l.w.heap.size<=an/\an<ba/\ba<lp.w.heap.size
 N:∀k,k<=fJ kd R->g k<bi
 o3:∀k,iv.ownBlock=Â k->k<bi
 o4:∀k,qv.ownBlock=Â k->k<bi
 S:bi<all/\all<bw/\bw<bf
section
variable{J:Jd}{l:fc}{ra:Option ã}{rb cr R:Nat}{sa:Option ã}{sn sc:Nat}{kd:Nat->Int}{rq:Nat->Nat}
def aji(C:gw l)(G:¬l.q)(hd:l.d=0)(hR:R<1000)(Iv:0<R->ra=Â ⟨rb,0,Á⟩)(CN:0<R->l.M rb)(Iw:∀i,i<R->l.w.cell? ⟨rb,i,Á⟩=Â (À<|Â ⟨rq i,0,Á⟩))(La:∀i,i<R->l.M (rq i))(Ix:∀i,i<R->l.w.cell? ⟨rq i,4,Á⟩=Â (É Î<|kd i)) (hJ:∀g lp l' t iv qv H y z D W bf v1,Ma kd rq g R iv qv (Æ sa sn sc) H y z D W bf l lp l'->Il y D (g<|fJ kd R) n qv t->J l' (Cv (À<|Â ⟨D,0,Á⟩) v1 (À<|Â ⟨D,0,Á⟩) (ñ #[]) W bf<|Fa t::qX)): fh Ä Ó J l (Fe (Æ sa sn sc) (Æ ra R cr) n qX):=by
 have hF:True:=trivial;have Zg:Ä.info? 9=Â Ĩ:=Tryz.type9;have Qz:∀w:ß,(ŝ 25 (É Î (R:Int))<|É Î (R:Int)).run Ä w=.ok (Æ (Â ⟨w.heap.size,0,Á⟩) R R) (w.alloc<|xh R):=λw=>by have:=run_makeSlice (P:=Ä) w 25 9 Ĩ (á ⟨#[]⟩) ŉ Zg U Î Î (R:Int) (R:Int) Z Z (by simp[Ĩ];omega) (by simp[Ĩ];omega) Z;simpa[Ĩ]using this
 have hme:∀w:ß,(ŝ 25 (É Î (R:Int))<|É Î (R:Int)).events Ä w #[]=#[]:=λw=>
  events_make (P:=Ä) w 25 9 Ĩ (á ⟨#[]⟩) ŉ Zg U Î Î (R:Int) (R:Int) Z Z (by simp[Ĩ];omega) Z (by simp[Ĩ];omega) _
 apply fN (n:=40) C.r;simp only[Fe];conv in Zf=>whnf
 repeat w_go fv
 refine Ë λ_ _=> ?_;refine pf (V:=λp=>Æ (Â ⟨p,0,Á⟩) R R) (ob:=xh R) U U (by k_ne) C.r G (λw=>by have k:=Qz w;go_simp) (λw=>by have k:=hme w;simp[go_sem,k]) λc m=> ?_;walk_nrm;have a:=mR (X:=λ_=>False) (ob:=xh R) C m;have r:gZ (gI l c<|xh R) c.heap.size (xh R):=⟨Ç U,mQ⟩;have han:l.w.heap.size<=c.heap.size:=m.r;generalize gI l c (xh R)=l1 at a r|-;generalize c.heap.size=H at r han|-;clear m c;have RP:gh (λ_=>False) l l1:=a;have RR:=RP.N C;have ajj:¬l1.q:=by rwa[RP.q]
 have at0:l.w.heap.size<=l1.w.heap.size:=a.I;clear a;have lan:=RR.fx H<|Ã r.fp;refine pf (V:=λp=>À<|Â ⟨p,0,Á⟩) (ob:=Ê #[Æ Á 0 0] 25) U U (by k_ne) RR.r ajj (λw=>by go_simp) (λw=>by simp[go_sem]) λc m=> ?_;walk_nrm;have a:=mR (X:=λ_=>False) (ob:=Ê #[Æ Á 0 0] 25) RR m;have f:gZ (gI l1 c<|Ê #[Æ Á 0 0] 25) c.heap.size (Ê #[Æ Á 0 0] 25):=⟨Ç U,mQ⟩;have Zh:l1.w.heap.size<=c.heap.size:=m.r;generalize gI l1 c (Ê #[Æ Á 0 0] 25)=l2 at a f|-;generalize c.heap.size=y at f Zh|-;clear m c;have RU:gh (λ_=>False) l l2:=RP.ff a;replace r:=r.r a id;have RV:=RU.N C;have ajk:¬l2.q:=by rwa[RU.q]
 have at5:l1.w.heap.size<=l2.w.heap.size:=a.I;clear a;have lba:=RV.fx y<|Ã f.fp;refine H8 (p:=y) (off:=0) (v:=Æ (Â ⟨H,0,Á⟩) R R) (u:=Æ Á 0 0) U U (by k_ne) RV.r ajk f.fp (f.C U) (by simp[ð,f.I]) U (λw o F=>by go_simp) (λw o F=>by simp[go_sem,â _ _ _ _ _ _ (show Ú (Æ (Â ⟨H,0,Á⟩) R R)=Ó from rfl),o,F]) ?_;have a:=LG (X:=λb=>b=y) (p:=y) (w':=l2.w.setCell ⟨y,0,Á⟩<|Æ (Â ⟨H,0,Á⟩) R R) RV (fI.fT _ _) f.fp U jU λj E=>lk E;replace f:gZ ({l2 with w:=l2.w.setCell ⟨y,0,Á⟩ (Æ (Â ⟨H,0,Á⟩) R R)}:fc) y (Ê #[Æ (Â ⟨H,0,Á⟩) R R] 25):=⟨f.fp,by show(l2.w.setCell ⟨y,0,Á⟩<|Æ (Â ⟨H,0,Á⟩) R R).heap[y]?=_;unfold ă;simp[î,f.I]⟩;generalize({l2 with w:=l2.w.setCell ⟨y,0,Á⟩ (Æ (Â ⟨H,0,Á⟩) R R)}:fc)=l3 at a f|-;have S:gh (λ_=>False) l l3:=RU.vA a λj E e=>by have:=C.fx j E;omega
 replace r:=r.r a Z;have Zi:=S.N C;have ajl:¬l3.q:=by rwa[S.q]
 have at6:l2.w.heap.size<=l3.w.heap.size:=a.I;clear a;apply fN (n:=20) Zi.r;iterate 5 w_go fv
 u_call Β fO Ģ fv hF
 refine Ë λ_ _=> ?_;refine ajh (l:=l3) (kd:=kd) (rq:=rq) (ra:=ra) (rb:=rb) (cr:=cr) (R:=R) (sa:=sa) (sn:=sn) (sc:=sc) Zi ajl (by rwa[S.d]) hR Iv (λh=>S.M<|CN h) (λi k=>(gK<|S.r rb (CN Z) id).trans<|Iw i k) (λi k=>S.M<|La i k) (λi k=>(gK<|S.r _ (La i k) id).trans<|Ix i k) λg B iv qv T=> ?_;walk_nrm;have a:=T.Y;have RY:gh (λ_=>False) l B:=S.ff a;replace r:=r.r a id;replace f:=f.r a id;have L:=RY.N C;have ajm:¬B.q:=by rwa[RY.q]
 have at7:l3.w.heap.size<=B.w.heap.size:=a.I;clear a;have ajn:gh (λ_=>False) B B:=gh.fT L.r;obtain⟨I,K,rfl⟩:∃I K,iv=Æ I (fJ kd R) K:=by
  rcases T.jM.2 with⟨k,s⟩|⟨b,N,Q,k,_⟩
  .exact⟨Á,0,by rwa[s]⟩
  .exact⟨_,_,k⟩
 have og:∀k,k<=fJ kd R->g k<B.w.heap.size:=λk hk=>by
  by_cases s:k=0
  .subst s;exact L.fx _<|Ã T.N.fp
  .exact L.fx _<|Ã (T.I k Z hk).fp
 have oi:∀k,(Æ I (fJ kd R) K).ownBlock=Â k->k<B.w.heap.size:=λk e=>L.fx _<|Ã (T.r k e).1;have oq:∀k,qv.ownBlock=Â k->k<B.w.heap.size:=λk e=>L.fx _<|Ã (T.C k e).1;apply fN (n:=20) L.r;iterate 4 w_go fv
 refine Ë λ_ _=> ?_;refine pf (V:=λp=>À<|Â ⟨p,0,Á⟩) (ob:=Ê #[Æ Á 0 0] 85) U U (by k_ne) L.r ajm (λw=>by go_simp) (λw=>by simp[go_sem]) λc m=> ?_;walk_nrm;have a:=mR (X:=λ_=>False) (ob:=Ê #[Æ Á 0 0] 85) L m;have s:gZ (gI B c<|Ê #[Æ Á 0 0] 85) c.heap.size (Ê #[Æ Á 0 0] 85):=⟨Ç U,mQ⟩;have RZ:B.w.heap.size<=c.heap.size:=m.r;generalize gI B c (Ê #[Æ Á 0 0] 85)=l5 at a s|-;generalize c.heap.size=z at s RZ|-;clear m c;have R0:gh (λ_=>False) l l5:=RY.ff a;have ajo:gh (λ_=>False) B l5:=ajn.ff a;replace r:=r.r a id;replace f:=f.r a id;have R1:=R0.N C;have ajp:¬l5.q:=by rwa[R0.q]
 have aua:B.w.heap.size<=l5.w.heap.size:=a.I;clear a;have lbi:=R1.fx z<|Ã s.fp;refine H8 (p:=z) (off:=0) (v:=Æ I (fJ kd R) K) (u:=Æ Á 0 0) U U (by k_ne) R1.r ajp s.fp (s.C U) (by simp[ð,s.I]) U (λw o F=>by go_simp) (λw o F=>by simp[go_sem,â _ _ _ _ _ _ (show Ú (Æ I (fJ kd R) K)=Ó from rfl),o,F]) ?_;have a:=LG (X:=λb=>b=z) (p:=z) (w':=l5.w.setCell ⟨z,0,Á⟩<|Æ I (fJ kd R) K) R1 (fI.fT _ _) s.fp U jU λj E=>lk E;replace s:gZ ({l5 with w:=l5.w.setCell ⟨z,0,Á⟩ (Æ I (fJ kd R) K)}:fc) z (Ê #[Æ I (fJ kd R) K] 85):=⟨s.fp,by show(l5.w.setCell ⟨z,0,Á⟩<|Æ I (fJ kd R) K).heap[z]?=_;unfold ă;simp[î,s.I]⟩;generalize({l5 with w:=l5.w.setCell ⟨z,0,Á⟩ (Æ I (fJ kd R) K)}:fc)=l6 at a s|-;have R2:gh (λ_=>False) l l6:=R0.vA a λj E e=>by have:=C.fx j E;omega
 have ajq:gh (λ_=>False) B l6:=ajo.vA a λj E e=>by have:=L.fx j E;omega
 replace r:=r.r a Z;replace f:=f.r a Z;have R3:=R2.N C;have ajr:¬l6.q:=by rwa[R2.q]
 have aub:l5.w.heap.size<=l6.w.heap.size:=a.I;clear a;apply fN (n:=20) R3.r;iterate 5 w_go fv
 refine Ë λ_ _=> ?_;refine pf (V:=λp=>À<|Â ⟨p,0,Á⟩) (ob:=Ê #[É ë 0,É ú 0] 97) U U (by k_ne) R3.r ajr (λw=>by go_simp) (λw=>by simp[go_sem]) λc m=> ?_;walk_nrm;have a:=mR (X:=λ_=>False) (ob:=Ê #[É ë 0,É ú 0] 97) R3 m;have F:gZ (gI l6 c<|Ê #[É ë 0,É ú 0] 97) c.heap.size (Ê #[É ë 0,É ú 0] 97):=⟨Ç U,mQ⟩;have qd:l6.w.heap.size<=c.heap.size:=m.r;generalize gI l6 c (Ê #[É ë 0,É ú 0] 97)=l7 at a F|-;generalize c.heap.size=D at F qd|-;clear m c;have R4:gh (λ_=>False) l l7:=R2.ff a;have ajs:gh (λ_=>False) B l7:=ajq.ff a;replace r:=r.r a id;replace f:=f.r a id;replace s:=s.r a id;have Mb:=R4.N C;have ajt:¬l7.q:=by rwa[R4.q]
 have auc:l6.w.heap.size<=l7.w.heap.size:=a.I;clear a;have aud:=Mb.fx D<|Ã F.fp;apply fN (n:=20) Mb.r;iterate 4 w_go fv
 u_call Į fO κ fv hF
 iterate 2 w_go fv
 refine Ë λ_ _=> ?_;refine pf (V:=λp=>À<|Â ⟨p,0,Á⟩) (ob:=Ê #[À<|Â ⟨D,0,Á⟩] 162) U U (by k_ne) Mb.r ajt (λw=>by go_simp) (λw=>by simp[go_sem]) λc m=> ?_;walk_nrm;have a:=mR (X:=λ_=>False) (ob:=Ê #[À<|Â ⟨D,0,Á⟩] 162) Mb m;have N:gZ (gI l7 c<|Ê #[À<|Â ⟨D,0,Á⟩] 162) c.heap.size (Ê #[À<|Â ⟨D,0,Á⟩] 162):=⟨Ç U,mQ⟩;have CH:l7.w.heap.size<=c.heap.size:=m.r;generalize gI l7 c (Ê #[À<|Â ⟨D,0,Á⟩] 162)=l8 at a N|-;generalize c.heap.size=W at N CH|-;clear m c;have R5:gh (λ_=>False) l l8:=R4.ff a;have aju:gh (λ_=>False) B l8:=ajs.ff a;replace r:=r.r a id;replace f:=f.r a id;replace s:=s.r a id;replace F:=F.r a id;have R6:=R5.N C;have ajv:¬l8.q:=by rwa[R5.q]
 have aue:l7.w.heap.size<=l8.w.heap.size:=a.I;clear a;have lbw:=R6.fx W<|Ã N.fp;refine pf (V:=λp=>À<|Â ⟨p,0,Á⟩) (ob:=Ê #[Ď (ý 48) #[] #[À<|Â ⟨z,0,Á⟩,À<|Â ⟨y,0,Á⟩]] 1) U U (by k_ne) R6.r ajv (λw=>by go_simp) (λw=>by simp[go_sem]) λc m=> ?_;walk_nrm;have a:=mR (X:=λ_=>False) (ob:=Ê #[Ď (ý 48) #[] #[À<|Â ⟨z,0,Á⟩,À<|Â ⟨y,0,Á⟩]] 1) R6 m;have Y:gZ (gI l8 c<|Ê #[Ď (ý 48) #[] #[À<|Â ⟨z,0,Á⟩,À<|Â ⟨y,0,Á⟩]] 1) c.heap.size (Ê #[Ď (ý 48) #[] #[À<|Â ⟨z,0,Á⟩,À<|Â ⟨y,0,Á⟩]] 1):=⟨Ç U,mQ⟩;have L0:l8.w.heap.size<=c.heap.size:=m.r;generalize gI l8 c (Ê #[Ď (ý 48) #[] #[À<|Â ⟨z,0,Á⟩,À<|Â ⟨y,0,Á⟩]] 1)=l9 at a Y|-;generalize c.heap.size=bf at Y L0|-;clear m c;have Mc:gh (λ_=>False) l l9:=R5.ff a;have ajw:gh (λ_=>False) B l9:=aju.ff a;replace r:=r.r a id;replace f:=f.r a id;replace s:=s.r a id;replace F:=F.r a id;replace N:=N.r a id;have Iy:=Mc.N C;have Zj:¬l9.q:=by rwa[Mc.q]
 have auf:l8.w.heap.size<=l9.w.heap.size:=a.I;clear a;have lbf:=Iy.fx bf<|Ã Y.fp;apply fN (n:=20) Iy.r;iterate 3 w_go fv
 refine Ë λ_ _=> ?_;apply nT (x:=⟨W,0,Á⟩) U U (by k_ne) Iy.r Zj (Ã<|Ã N.fp) (N.C U) (λw h=>by go_simp) (λw h=>by simp[go_sem,h]);walk_nrm;apply fN (n:=20) Iy.r;u_call qL.f_add (Θ Lk) addFn fv hF;refine Ë λ_ _=> ?_;refine Y5 qL Iy Zj (by rwa[Mc.d]) F.fp F.I U U λQ hC=> ?_;walk_nrm;have a:gh (λb=>b=D) l9 Q:=hC.r;replace F:gZ Q D (Ê #[É ë 4294967296,É ú 0] 97):=⟨hC.r.O D F.fp,hC.C⟩;have R7:gh (λ_=>False) l Q:=Mc.vA a λj E e=>by have:=C.fx j E;omega
 have ajx:gh (λ_=>False) B Q:=ajw.vA a λj E e=>by have:=L.fx j E;omega
 replace r:=r.r a Z;replace f:=f.r a Z;replace s:=s.r a Z;replace N:=N.r a Z;replace Y:=Y.r a Z;have ajy:=R7.N C;have aug:¬Q.q:=by rwa[R7.q]
 have auh:l9.w.heap.size<=Q.w.heap.size:=a.I;clear a;apply fN (n:=20) ajy.r;iterate 3 w_go fv
 refine Ë λ_ _=> ?_;refine .fA λCK xg=> ?_;have at9:∀{b:Nat} {o:Ζ},gZ Q b o->gZ ({Q with w:=CK}:fc) b o:=λh=>⟨h.fp,(xg.I _<|Ã h.fp).trans h.I⟩;exact hJ g l3 {Q with w:=CK} _ (Æ I (fJ kd R) K) qv H y z D W bf _ ⟨R7.G xg,T.vA<|ajx.G xg,at9 r,at9 f,at9 s,at9 F,at9 N,at9 Y,⟨Z,Z,Z⟩,λk hk=>by have:=og k hk;omega,λk e=>by have:=oi k e;omega,λk e=>by have:=oq k e;omega,⟨Z,Z,Z⟩⟩ ⟨U,U,U,U,U,U⟩
end
def ajz{md:Ă}{listed:Array Bool}(h:Ü md Q listed=[]):∀(a t:Nat),ì md Q a t listed []=[]:=by
 intro a t;cases a with
 |zero=>rfl
 |succ a=>
  simp only[ì];change(match(Ü md Q listed)[t%(Ü md Q listed).length]? with
   |some i=>ì md Q a (t/(Ü md Q listed).length) (listed.setIfInBounds i Ó) [i]
   |none=>[].reverse)=[]
  rw[h];rfl
section
variable{J:Jd}{l:fc}
def Zk{md:Ă}(I:Array Bool->Ş->fc->Prop) (p:∀b a l i k,I b a l->b.size=Q.size->i∈Ü md Q b->(Ü md Q (b.setIfInBounds i Ó)=[]->k=[])->fh P yQ (λg m=>(∃h,m=G (f.at h<|Ï Q k::L) qX/\I (b.setIfInBounds i Ó) h g)\/fh P yQ J g m) l (G (f.at a<|Ï Q (i::k)::L) qX)) (o:∀b a l,I b a l->b.size=Q.size->Ü md Q b=[]->fh P yQ J l (G (f.at a<|Ï Q []::L) qX)): ∀(c t:Nat) (b:Array Bool) (a:Ş) (l:fc),b.size=Q.size->jo b<=c->I b a l->fh P yQ J l (G (f.at a<|Ï Q (ì md Q c t b [])::L) qX):=by
 intro c
 induction c with
 |zero=>
  intro t b a l d q j;simpa[ì]using o b a l j d<|QO d Z
 |succ c r=>
  intro t b a l d q j;simp only[ì];change fh P yQ J l (G (f.at a (Ï Q (match(Ü md Q b)[t%(Ü md Q b).length]? with
   |some i=>ì md Q c (t/(Ü md Q b).length) (b.setIfInBounds i Ó) [i]
   |none=>[].reverse)::L)) qX)
  cases n:(Ü md Q b)[t%(Ü md Q b).length]? with
  |none=>
   have s:Ü md Q b=[]:=by
    cases u:Ü md Q b with
    |nil=>rfl
    |cons x e=>
     rw[u]at n;have v:t%(x::e).length<(x::e).length:=ŀ _ fj;simp at n;simp at v;omega
   simpa using o b a l j d s
  |some i=>
   simp only[];rw[linearise_go_acc,List.reverse_singleton,List.singleton_append];have x:=į n;refine(p b a l i _ j d x λe=>ajz e _ _).lV ?_;rintro g m (⟨h,rfl,hI'⟩|hW)
   .exact r _ _ h g (by simpa using d) (by have:=Lv (mem_ready.1 x).1;omega) hI'
   .exact hW
def ajA{id:Nat}(I:Array Bool->Ş->fc->Prop)(o:ki l)(p:¬l.q) (g:∀c,fI l l.w c->I (Array.replicate Q.size Í) y {l with w:={c with drawn:=c.drawn+1}}) (h:∀d b y l i e,I b y l->b.size=Q.size->i∈Ü d Q b->(Ü d Q (b.setIfInBounds i Ó)=[]->e=[])->fh P yQ (λj k=>(∃m,k=G (f.at m<|Ï Q e::L) qX/\I (b.setIfInBounds i Ó) m j)\/fh P yQ J j k) l (G (f.at y<|Ï Q (i::e)::L) qX)) (n:∀d b y l,I b y l->b.size=Q.size->Ü d Q b=[]->fh P yQ J l (G (f.at y<|Ï Q []::L) qX)): fh P yQ J l (G (f.at y<|ö (à id Q Ó)::L) qX):=by
 refine .mk U λc r=>⟨_,_,_,_,stepG_region_draw,QM (mA o r) p,?_⟩;unfold Region.schedule;split
 .exact Zk I (h _) (n _) _ _ _ _ _ fj (by rw[EM];exact Û _)<|g c r
 .exact Zk I (h _) (n _) _ _ _ _ _ fj (by rw[EM];exact Û _)<|g c r
end
def CO:å:=⟨Â 15,ü<|Ò 1,100, "work.go:72",#[],Á⟩
def CP:å:=⟨Â 16,ü<|Ò 4,3, "work.go:72",#[],Á⟩
def CQ:å:=⟨Â 17,ü<|Ò 1,100, "work.go:72",#[],Á⟩
def xi:å:=⟨Â 18,č {callee:=Ŧ .len,args:=#[Ò 17],argTypes:=#[100]},3, "work.go:72",#[⟨2,Õ⟩],Á⟩
def uz:å:=⟨Â 19,ń .rem 3 (Ò 16) (Ò 18) 3,3, "work.go:72",#[⟨1,Õ⟩,⟨3,Õ⟩],Á⟩
def uA:å:=⟨Â 20,Š 100 (Ò 15)<|Ò 19,0, "work.go:72",#[⟨0,Õ⟩,⟨4,Õ⟩],Á⟩
def xj:å:=⟨Â 21,Č 101<|Ò 20,101, "work.go:72",#[⟨5,Õ⟩],Á⟩
def CR:å:=⟨Â 22,Č 155<|Ò 5,155, "work.go:72",#[],Á⟩
def xk:å:=⟨Á,.send (Ò 21)<|Ò 22,0, "work.go:72",#[⟨6,Õ⟩,⟨7,Õ⟩],Á⟩
def nW:Array å:=#[CO,CP,CQ,xi,uz,uA,xj,CR,xk]
noncomputable def Md:Ġ:=jZ Ũ [1,1,0,0]
noncomputable def Zl:Ġ:=jZ Ũ [1]
noncomputable def Me:Ġ:=jZ Ũ [0,1,0,0]
noncomputable def CS (t:Array Ð) (a:List é):Ý:=G ((base 52).at ⟨t,[]⟩ [ö Me,Ā Me,ï 0,ö Zl]) a
structure DT(dv:Ð)(qb:Option ã)(q cq i:Nat)(t:Array Ð):Prop where
 r:t.size=32
 C:t[1]?=Â dv
 t8:t[8]?=Â (Æ qb q cq)
 M:t[9]?=Â (É Î q)
 I:t[10]?=Â (É Î i)
def Iz(t:Array Ð)(h:t.size=32):∃a b c d e f g i j k l m n o p q r s u v w x y z B C D E F G H I:Ð,t=#[a,b,c,d,e,f,g,i,j,k,l,m,n,o,p,q,r,s,u,v,w,x,y,z,B,C,D,E,F,G,H,I]:=by obtain⟨_,rfl⟩:=rF t h;exact⟨_,_,_,_,_,_,_,_,_,_,_,_,_,_,_,_,_,_,_,_,_,_,_,_,_,_,_,_,_,_,_,_,U⟩
def uB(c n i a d:Nat)(b tk:Ð)(_:Unit):Nat->Ð
 |0=>b
 |1=>É Î i
 |2=>b
 |3=>É Î n
 |4=>É Î a
 |5=>À<|Â ⟨c,a,Á⟩
 |6=>è<|Â d
 |7=>tk
 |_=>Å
def Mf(a:fc)(listed:Array Bool)(_:Unit)(l:fc):Prop:=iC (λ_=>False) a l/\¬listed.getD 8 Í=Ó
section
variable{J N:Jd}{p:fc}{g s:Nat}{u:Option ã}
def ajB(Ff:gw p)(hq:¬p.q)(ht:d.size=32)(Cj:d[1]?=Â (Æ (Â ⟨j9,0,Á⟩) n j))(H5:d[4]?=Â (É Î i))(QW:d[5]?=Â (À<|Â ⟨g,0,Á⟩))(z:p.O g)(T:p.O j9)(hn:0<n)(vB:n<1000)(hi1:i<1000) (Zm:i%n=j6) (V:p.w.cell? ⟨j9,j6,Á⟩=Â (è<|Â m)) (W:p.w.cell? ⟨g,0,Á⟩=Â (À u)) (X:p.w.cell? ⟨g,1,Á⟩=Â (É Î s)) (Y:p.w.cell? ⟨g,2,Á⟩=Â (À<|Â ⟨j7,0,Á⟩)) (c3:p.w.cell? ⟨g,3,Á⟩=Â (À O)) (hJ:∀l H,iC (λ_=>False) p l->H.size=32->(∀c,c<15->H[c]?=d[c]?)->As Ä Ó m (ę #[À u,É Î s,À<|Â ⟨j7,0,Á⟩,À O]) N l (G ((base 52).at ⟨H,[]⟩<|Ï nW [8]::L) qX)->J l (G ((base 52).at ⟨H,[]⟩<|Ï nW [8]::L) qX)) (hN:∀l H,iC (λ_=>False) p l->H.size=32->(∀c,c<15->H[c]?=d[c]?)->fh Ä Ó N l (G ((base 52).at ⟨H,[]⟩<|Ï nW []::L) qX)) (md:Ă) (listed:Array Bool) (a:Ş) (l:fc) (i':Nat) (rest:List Nat) (hI:II nW d (uB j9 n i j6 m (Æ (Â ⟨j9,0,Á⟩) n j)<|ę #[À u,É Î s,À<|Â ⟨j7,0,Á⟩,À O]) (Mf p) listed a l) (jr:listed.size=nW.size) (C:i'∈Ü md nW listed) (IA:Ü md nW (listed.setIfInBounds i' Ó)=[]->rest=[]): fh Ä Ó (λD F=>(∃Q,F=G ((base 52).at Q<|Ï nW rest::L) qX/\II nW d (uB j9 n i j6 m (Æ (Â ⟨j9,0,Á⟩) n j)<|ę #[À u,É Î s,À<|Â ⟨j7,0,Á⟩,À O]) (Mf p) (listed.setIfInBounds i' Ó) Q D)\/fh Ä Ó J D F) l (G ((base 52).at a<|Ï nW (i'::rest)::L) qX):=by
 let⟨x,t,S,h8⟩:=hI;have I:ug nW d.size=Ó:=by rw[ht];decide
 have gJ:=EN C;have K:=S.fx;have M:¬l.q:=by rwa[S.q]
 have oL:a.tmps[1]?=Â (Æ (Â ⟨j9,0,Á⟩) n j):=(t.C A).trans Cj;have Rv:a.tmps[4]?=Â (É Î i):=(t.C A).trans H5;have ui:a.tmps[5]?=Â (À<|Â ⟨g,0,Á⟩):=(t.C A).trans QW;have y:∀b f v,p.O b->p.w.cell? ⟨b,f,Á⟩=Â v->gX l ⟨b,f,Á⟩/\l.w.cell? ⟨b,f,Á⟩=Â v:=λb f v E h=>⟨Ã<|Ã<|S.O b E,by rwa[gK<|S.r b<|Ã E]⟩;have P:∀{k:Nat},k≠8->∀B,fI l l.w B->Mf p (listed.setIfInBounds k Ó) () {l with w:=B}:=λhm B r=>⟨S.N (λ_ q=>q.elim) r,by rwa[ç Í hm]⟩;have ajC:j6<n:=by rw[<-Zm];exact ŀ _ hn
 have ajD:(j6:Int)<(n:Int):=Z
 have IB:¬(n:Int)=0:=Z
 have ajE:¬n=0:=Z
 have htm:Int.tmod (i:Int) (n:Int)=(j6:Int):=by rw[Int.tmod_eq_emod_of_nonneg Z,<-Zm];simp
 have oF:Î.wrap (j6:Int)=(j6:Int):=Cn Z Z;have Mg:nW.size=9:=A
 rw[Mg]at gJ;match i',gJ with
 |0,_=>
  refine(ij (o:=CO) I t U U C (by k_ne) K M (λB r=> ?_) (λB r e D=> ?_)<|P A).fM λ_ _ h=>Ã h
  .simp only[uB,CO];go_simp
  .simp[go_sem,CO,oL]at D
 |1,_=>
  refine(ij (o:=CP) I t U U C (by k_ne) K M (λB r=> ?_) (λB r e D=> ?_)<|P A).fM λ_ _ h=>Ã h
  .simp only[uB,CP];go_simp
  .simp[go_sem,CP,Rv]at D
 |2,_=>
  refine(ij (o:=CQ) I t U U C (by k_ne) K M (λB r=> ?_) (λB r e D=> ?_)<|P A).fM λ_ _ h=>Ã h
  .simp only[uB,CQ];go_simp
  .simp[go_sem,CQ,oL]at D
 |3,_=>
  have F:a.tmps[17]?=Â (Æ (Â ⟨j9,0,Á⟩) n j):=t.r 2 CQ 17 U (ie (o:=xi) C U U) U;refine(ij (o:=xi) I t U U C (by k_ne) K M (λB r=> ?_) (λB r e D=> ?_)<|P A).fM λ_ _ h=>Ã h
  .simp only[uB,xi];go_simp
  .simp[go_sem,xi,F]at D
 |4,_=>
  have F:a.tmps[16]?=Â (É Î i):=t.r 1 CP 16 U (ie (o:=uz) C U U) U;have Q:a.tmps[18]?=Â (É Î n):=t.r 3 xi 18 U (ie (o:=uz) C U U) U;refine(ij (o:=uz) I t U U C (by k_ne) K M (λB r=> ?_) (λB r e D=> ?_)<|P A).fM λ_ _ h=>Ã h
  .simp only[uB,uz];go_simp
  .simp[go_sem,uz,F,Q,IB,ajE,htm,oF]at D
 |5,_=>
  have F:a.tmps[15]?=Â (Æ (Â ⟨j9,0,Á⟩) n j):=t.r 0 CO 15 U (ie (o:=uA) C U U) U;have Q:a.tmps[19]?=Â (É Î j6):=t.r 4 uz 19 U (ie (o:=uA) C U U) U;refine(ij (o:=uA) I t U U C (by k_ne) K M (λB r=> ?_) (λB r e D=> ?_)<|P A).fM λ_ _ h=>Ã h
  .simp only[uB,uA];go_simp
  .simp[go_sem,uA,F,Q,ajC,ajD]at D
 |6,_=>
  have Q:a.tmps[20]?=Â (À<|Â ⟨j9,j6,Á⟩):=t.r 5 uA 20 U (ie (o:=xj) C U U) U;refine(ij (o:=xj) I t U U C (by k_ne) K M (λB r=> ?_) (λB r e D=> ?_)<|P A).fM λ_ _ h=>Ã h
  .have F:=((y j9 _ _ T V).1.r r).trans (y j9 _ _ T V).2;simp only[uB,xj];go_simp
  .have F:=((y j9 _ _ T V).1.r r).trans (y j9 _ _ T V).2;have hee:e=⟨ÿ ⟨j9,j6,Á⟩,Í,Í⟩:=by simp[go_sem,xj,F,Q]at D;exact D
   subst hee;exact(y j9 _ _ T V).1.C
 |7,_=>
  refine(ij (o:=CR) I t U U C (by k_ne) K M (λB r=> ?_) (λB r e D=> ?_)<|P A).fM λ_ _ h=>Ã h
  .have F:=((y g _ _ z W).1.r r).trans (y g _ _ z W).2;have Q:=((y g _ _ z X).1.r r).trans (y g _ _ z X).2;have qP:=((y g _ _ z Y).1.r r).trans (y g _ _ z Y).2;have uw:=((y g _ _ z c3).1.r r).trans (y g _ _ z c3).2;simp only[uB,CR];go_simp
  .have F:=((y g _ _ z W).1.r r).trans (y g _ _ z W).2;have Q:=((y g _ _ z X).1.r r).trans (y g _ _ z X).2;have qP:=((y g _ _ z Y).1.r r).trans (y g _ _ z Y).2;have uw:=((y g _ _ z c3).1.r r).trans (y g _ _ z c3).2;simp[go_sem,CR,ui,F,Q,qP,uw]at D;rcases D with rfl|rfl|rfl|rfl
   .exact(y g _ _ z W).1.C
   .exact(y g _ _ z X).1.C
   .exact(y g _ _ z Y).1.C
   .exact(y g _ _ z c3).1.C
 |8,_=>
  have d6:=ie (j:=6) (o:=xk) C U U;have d7:=ie (j:=7) (o:=xk) C U U;have Re:a.tmps[21]?=Â (è<|Â m):=t.r 6 xj 21 U d6 U;have HT:a.tmps[22]?=Â (ę #[À u,É Î s,À<|Â ⟨j7,0,Á⟩,À O]):=t.r 7 CR 22 U d7 U;have d5:=t.I (j:=5) (o:=xj) U d6 U;have d0:=t.I (j:=0) (o:=uA) U d5 U;have d4:=t.I (j:=4) (o:=uA) U d5 U;have d1:=t.I (j:=1) (o:=uz) U d4 U;have d3:=t.I (j:=3) (o:=uz) U d4 U;have d2:=t.I (j:=2) (o:=xi) U d3 U;have qd:Ü md nW (listed.setIfInBounds 8 Ó)=[]:=by
   rw[List.eq_nil_iff_forall_not_mem];intro f hj;have IC:=EN hj;have F:=QS hj;rw[Mg]at IC;by_cases Q:f=8
   .subst Q;have D:8<listed.size:=by rw[jr,Mg];decide
    simp[D]at F
   .rw[ç Ó<|Ne.symm Q]at F;have D:=wV F;match f,IC,Q with
    |0,_,_=>exact D d0
    |1,_,_=>exact D d1
    |2,_,_=>exact D d2
    |3,_,_=>exact D d3
    |4,_,_=>exact D d4
    |5,_,_=>exact D d5
    |6,_,_=>exact D d6
    |7,_,_=>exact D d7
    |8,_,h=>exact h U
  obtain rfl:=IA qd;let⟨F,ds⟩:=a;obtain rfl:ds=[]:=t.M;have IF:F.size=32:=t.S.trans ht;have Mh:∀c,c<15->F[c]?=d[c]?:=λc hd=>t.b c λf o E _ e=>by
   have IC:=(æ.1 E).1;rw[Mg]at IC;match f,IC with
   |0,_=>
    have D:o=CO:=(Ô<|show Â CO=Â o from E).symm;rw[D]at e;have Q:15=c:=Ô (show Â 15=Â c from e);omega
   |1,_=>
    have D:o=CP:=(Ô<|show Â CP=Â o from E).symm;rw[D]at e;have Q:16=c:=Ô (show Â 16=Â c from e);omega
   |2,_=>
    have D:o=CQ:=(Ô<|show Â CQ=Â o from E).symm;rw[D]at e;have Q:17=c:=Ô (show Â 17=Â c from e);omega
   |3,_=>
    have D:o=xi:=(Ô<|show Â xi=Â o from E).symm;rw[D]at e;have Q:18=c:=Ô (show Â 18=Â c from e);omega
   |4,_=>
    have D:o=uz:=(Ô<|show Â uz=Â o from E).symm;rw[D]at e;have Q:19=c:=Ô (show Â 19=Â c from e);omega
   |5,_=>
    have D:o=uA:=(Ô<|show Â uA=Â o from E).symm;rw[D]at e;have Q:20=c:=Ô (show Â 20=Â c from e);omega
   |6,_=>
    have D:o=xj:=(Ô<|show Â xj=Â o from E).symm;rw[D]at e;have Q:21=c:=Ô (show Â 21=Â c from e);omega
   |7,_=>
    have D:o=CR:=(Ô<|show Â CR=Â o from E).symm;rw[D]at e;have Q:22=c:=Ô (show Â 22=Â c from e);omega
   |8,_=>
    have D:o=xk:=(Ô<|show Â xk=Â o from E).symm;rw[D]at e;cases(show Á=Â c from e)
  refine .fA λB r=>Ç (.fA λqC D=> ?_);have Q:iC (λ_=>False) p ({l with w:=qC}:fc):=S.N (λ_ q=>q.elim)<|r.ff ⟨D.r,D.I,D.N,D.Y,D.S⟩;refine hJ _ F Q IF Mh ⟨U,U,λD=>⟨ñ #[],?_⟩,?_⟩
  .refine(Ι (cases:=#[scase m (ę #[À u,É Î s,À<|Â ⟨j7,0,Á⟩,À O])<|ñ #[]]) (blocking:=Ó) (shape:=.send) (w':=D) (o:=xk) rfl rfl (by k_ne) ?_).trans ?_
   .simp[go_sem,xk,Đ,scase,Ę,Re,HT]
   .have:ũ Ä (base 52).fn ⟨F,[]⟩ xk D=#[]:=by
     unfold ũ;simp[go_sem,xk,Đ,Ę,Re,HT,ı]
    rw[this]
  .have e:({G ((base 52).at ⟨F,[]⟩<|Ï nW [8]::L) qX with frame:=(G ((base 52).at ⟨F,[]⟩<|Ï nW [8]::L) qX).frame.finish Å}:Ý)=G ((base 52).at ⟨F,[]⟩<|Ï nW []::L) qX:=by
    have:(G ((base 52).at ⟨F,[]⟩<|Ï nW [8]::L) qX).frame.finish Å=(base 52).at (ο ⟨F,[]⟩ Á Å) (Ï nW []::L):=Ī _ _ _ _ _ _ _;rw[this];rfl
   rw[e];exact hN _ F Q IF Mh
 |n+9,h=>exact absurd h Z
end
section
variable{N:Jd}{l:fc}{f:Option ã}
theorem ajF(s:gw l)(K:¬l.q)(G:DT (Æ (Â ⟨J,0,Á⟩) n j) (Â ⟨j6,0,Á⟩) b m i d)(hiq:i<b)(Cx:b<1000)(hn:0<n)(vB:n<1000)(Zn:l.O J)(cd:l.w.cell? ⟨J,i%n,Á⟩=Â (è<|Â k))(R8:l.M j6) (i0:l.w.cell? ⟨j6,i*4,Á⟩=Â (À f)) (i1:l.w.cell? ⟨j6,i*4+1,Á⟩=Â (É Î j7)) (i2:l.w.cell? ⟨j6,i*4+2,Á⟩=Â (À<|Â ⟨j9,0,Á⟩)) (i3:l.w.cell? ⟨j6,i*4+3,Á⟩=Â (À O)) (hN:∀t H,iC (λ_=>False) l t->DT (Æ (Â ⟨J,0,Á⟩) n j) (Â ⟨j6,0,Á⟩) b m (i+1) H->fh Ä Ó N t (CS H qX)): fh Ä Ó (As Ä Ó k (ę #[À f,É Î j7,À<|Â ⟨j9,0,Á⟩,À O]) N) l (CS d qX):=by
 obtain⟨y0,y1,y2,y3,y4,y5,y6,y7,y8,y9,wY,yV,wZ,rG,sN,qM,vr,vt,uj,uk,um,sP,sQ,sR,uo,vu,w7,sS,qN,uq,p9,qa,rfl⟩:=Iz d G.r;obtain rfl:y1=Æ (Â ⟨J,0,Á⟩) n j:=by simpa using G.C
 obtain rfl:y8=Æ (Â ⟨j6,0,Á⟩) b m:=by simpa using G.t8
 obtain rfl:y9=É Î b:=by simpa using G.M
 obtain rfl:wY=É Î i:=by simpa using G.I
 have rH:∀y:ã,False->l.r y:=λy ha=>ha.elim;have aui:(i:Int)<(b:Int):=Z
 have hF:True:=trivial;simp only[CS];conv in Me=>whnf
 apply fN (n:=30) s.r;repeat w_go fv
 refine Ë λ_ _=> ?_;have g:∀c,gX l ⟨j6,c,Á⟩:=λc=>Ã R8;refine pd (v:=ę #[À f,É Î j7,À<|Â ⟨j9,0,Á⟩,À O]) U U (by k_ne) s.r K (λo r=> ?_) (λo r e h=> ?_) ?_
 .have u:=((g<|i*4).r r).trans i0;have z:=((g<|i*4+1).r r).trans i1;have B:=((g<|i*4+2).r r).trans i2;have C:=((g<|i*4+3).r r).trans i3;go_simp
 .have u:=((g<|i*4).r r).trans i0;have z:=((g<|i*4+1).r r).trans i1;have B:=((g<|i*4+2).r r).trans i2;have C:=((g<|i*4+3).r r).trans i3;simp[go_sem,u,z,B,C]at h;rcases h with rfl|rfl|rfl|rfl
  .exact(g _).C
  .exact(g _).C
  .exact(g _).C
  .exact(g _).C
 walk_nrm;refine HU (ob:=Ê #[À Á,É Î 0,À Á,À Á] 155) U U (by k_ne) s.r K (λw=>by go_simp) (λw=>by simp[go_sem]) λo X=> ?_;walk_nrm;have D:iC (λ_=>False) l (gI l o<|Ê #[À Á,É Î 0,À Á,À Á] 155):=LA s rH X;have L:(gI l o<|Ê #[À Á,É Î 0,À Á,À Á] 155).w.heap[o.heap.size]?=Â (Ê #[À Á,É Î 0,À Á,À Á] 155):=mQ;have sT:l.w.heap.size<=o.heap.size:=X.r;have q:(gI l o<|Ê #[À Á,É Î 0,À Á,À Á] 155).O o.heap.size:=Ç U;generalize gI l o (Ê #[À Á,É Î 0,À Á,À Á] 155)=l₁ at D L q|-;generalize o.heap.size=tb at L q sT|-;apply fN (n:=3) D.fx;w_go fv;refine Ë λ_ _=> ?_;refine vo U U (by k_ne) λr P=> ?_;have E:r.heap[tb]?=_:=(P.I tb<|Ã q).trans L;have u:r.cell? ⟨tb,0,Á⟩=Â (À Á):=by simp[Ù,E]
 have z:r.cell? ⟨tb,1,Á⟩=Â (É Î 0):=by simp[Ù,E]
 have B:r.cell? ⟨tb,2,Á⟩=Â (À Á):=by simp[Ù,E]
 have C:r.cell? ⟨tb,3,Á⟩=Â (À Á):=by simp[Ù,E]
 have hz:∀c,r.frozen? ⟨tb,c,Á⟩=Í:=λc=>by simp[ð,E]
 go_simp;refine⟨{l₁ with w:=iR r tb (À f) (É Î j7) (À<|Â ⟨j9,0,Á⟩) (À O)},LB (p:=tb) (mA D.fx P) (by rwa[D.q]) q wW (λc x=>yS x) ⟨U,U,U⟩ λe h=> ?_,?_⟩
 .have a:=Ě h;have e:∀c,p7 l₁ ⟨tb,c,Á⟩:=λc=>Ã q;simp[go_sem,â _ _ _ _ _ _ (show Ú (À f)=Ó from rfl),â _ _ _ _ _ _ (show Ú (À<|Â ⟨j9,0,Á⟩)=Ó from rfl),â _ _ _ _ _ _ (show Ú (À O)=Ó from rfl),u,z,B,C,hz]at a;rcases a with rfl|rfl|rfl|rfl
  .exact(e _).r
  .exact(e _).r
  .exact(e _).r
  .exact(e _).r
 let⟨Q,S,T,V⟩:=Q6 (v0:=À f) (v1:=É Î j7) (v2:=À<|Â ⟨j9,0,Á⟩) (v3:=À O) u z B C;have F:=Q7 (w':=iR r tb (À f) (É Î j7) (À<|Â ⟨j9,0,Á⟩)<|À O) s rH D P sT wW λc x=>yS x;have xa:({l₁ with w:=iR r tb (À f) (É Î j7) (À<|Â ⟨j9,0,Á⟩) (À O)}:fc).O tb:=q;replace Q:({l₁ with w:=iR r tb (À f) (É Î j7) (À<|Â ⟨j9,0,Á⟩) (À O)}:fc).w.cell? ⟨tb,0,Á⟩=_:=Q;replace S:({l₁ with w:=iR r tb (À f) (É Î j7) (À<|Â ⟨j9,0,Á⟩) (À O)}:fc).w.cell? ⟨tb,1,Á⟩=_:=S;replace T:({l₁ with w:=iR r tb (À f) (É Î j7) (À<|Â ⟨j9,0,Á⟩) (À O)}:fc).w.cell? ⟨tb,2,Á⟩=_:=T;replace V:({l₁ with w:=iR r tb (À f) (É Î j7) (À<|Â ⟨j9,0,Á⟩) (À O)}:fc).w.cell? ⟨tb,3,Á⟩=_:=V;generalize({l₁ with w:=iR r tb (À f) (É Î j7) (À<|Â ⟨j9,0,Á⟩) (À O)}:fc)=l₂ at Q S T V F xa|-;clear L q D E u z B C hz P r l₁ X o;have W:=F.G s;have qc:¬l₂.q:=by rwa[F.q]
 have cd2:l₂.w.cell? ⟨J,i%n,Á⟩=Â (è<|Â k):=(gK<|F.r J<|Ã Zn).trans cd;apply fN (n:=5) W.r;w_go fv;refine Ë λ_ _=> ?_;refine ajA (II nW #[y0,Æ (Â ⟨J,0,Á⟩) n j,y2,y3,É Î i,À<|Â ⟨tb,0,Á⟩,y6,y7,Æ (Â ⟨j6,0,Á⟩) b m,É Î b,É Î i,Ĭ Ó,É Î i,À<|Â ⟨j6,i*4,Á⟩,ę #[À f,É Î j7,À<|Â ⟨j9,0,Á⟩,À O],qM,vr,vt,uj,uk,um,sP,sQ,sR,uo,vu,w7,sS,qN,uq,p9,qa] (uB J n i (i%n) k (Æ (Â ⟨J,0,Á⟩) n j)<|ę #[À f,É Î j7,À<|Â ⟨j9,0,Á⟩,À O])<|Mf l₂) W.r qc (λa x=> ?_) (λY listed a t i' rest hI I e IA=>ajB (J:=As Ä Ó k (ę #[À f,É Î j7,À<|Â ⟨j9,0,Á⟩,À O]) N) (N:=N) W qc U U U U xa (F.O J Zn) hn vB Z U cd2 Q S T V (λl H _ _ _ h=>h) (λt H hA hs h=> ?_) Y listed a t i' rest hI I e IA) λY listed a kt hI I vv=> ?_
 .exact⟨(),mO.G _ _ _,(iC.fT W.r).N (λ_ b=>b.elim) ⟨x.r,x.I,x.N,x.Y,x.S⟩,A⟩
 .have x:=F.ff hA;have a:=(h 1 A).trans (show _=Â (Æ (Â ⟨J,0,Á⟩) n j)from U);have o8:=(h 8 A).trans (show _=Â (Æ (Â ⟨j6,0,Á⟩) b m)from U);have o9:=(h 9 A).trans (show _=Â (É Î b)from U);have o10:=(h 10 A).trans (show _=Â (É Î i)from U);clear h;obtain⟨x0,x1,x2,x3,x4,x5,x6,x7,x8,x9,YI,x11,x12,x13,x14,x15,x16,x17,x18,x19,x20,x21,x22,x23,x24,x25,x26,x27,x28,x29,x30,x31,rfl⟩:=Iz H hs;obtain rfl:x1=Æ (Â ⟨J,0,Á⟩) n j:=by simpa using a
  obtain rfl:x8=Æ (Â ⟨j6,0,Á⟩) b m:=by simpa using o8
  obtain rfl:x9=É Î b:=by simpa using o9
  obtain rfl:YI=É Î i:=by simpa using o10
  apply fN (n:=9) x.fx;iterate 7 w_go fv
  refine Ë λ_ _=> ?_;refine hN t _ x ⟨U,U,U,U,?_⟩;simp;exact Cn Z Z
 .let⟨x,a,h,h8⟩:=hI;have qd:∀i∈ä 9,listed.getD i Í=Ó:=by
   cases Y
   .exact p8 vv I (ä 9) [] fO λi e=>by cases e
   .exact p8 vv I (ä 9) [] fO λi e=>by cases e
   .exact p8 vv I (ä 9) [] fO λi e=>by cases e
  grind
end
noncomputable def CU (t:Array Ð) (a:List é):Ý:=G ((base 52).at ⟨t,[]⟩ [ö Md,Ā Md,ï 2]) a
structure ET(dv:Ð)(n j:Nat)(t:Array Ð):Prop where
 r:t.size=32
 ajG:t[24]?=Â dv
 C:t[25]?=Â (É Î n)
 I:t[26]?=Â (É Î j)
def IG(t:Array Ð):é:=(base 37).at ⟨t,[]⟩ [Ï LL [2],ö<|(à 13 LN Í).seq LO]
def Fg(t:Array Ð)(a:List é):Ý:=G ((base 37).at ⟨t,[]⟩ [Ï LN [],ö LO]) a
structure SE(ba all nV:Nat)(t:Array Ð):Prop where
 r:t.size=49
 I:t[8]?=Â (À<|Â ⟨ba,0,Á⟩)
 C:t[11]?=Â (À<|Â ⟨nV,0,Á⟩)
 Rm:t[12]?=Â (À<|Â ⟨all,0,Á⟩)
section
variable{J a N:Jd}{l:fc}{t:Array Ð}{ba all nV:Nat}{dv:Ð}
def ajH(e:ki l)(a:ST ba all nV n n (Æ O k j9) dv t)(f:∀b d,DT dv O k j9 0 b->SE ba all nV d->fh Ä Ó J l (CS b<|IG d::qX)):fh Ä Ó J l (Cu t qX):=by
 obtain⟨p,q,r,s,u,v,w,x,g,y,h,i,j,c,z,B,C,D,E,F,G,H,I,K,L,M,N,m,o,P,Q,S,T,V,W,X,Y,pS,pT,pU,pV,pW,pX,pY,pZ,p6,nQ,nR,rE,rfl⟩:=Im t a.r;obtain rfl:g=À (Â ⟨ba,0,Á⟩):=by simpa using a.a
 obtain rfl:h=Æ O k j9:=by simpa using a.C
 obtain rfl:i=À (Â ⟨nV,0,Á⟩):=by simpa using a.I
 obtain rfl:j=À (Â ⟨all,0,Á⟩):=by simpa using a.M
 obtain rfl:dv=c:=(show c=dv by simpa using a.N).symm;obtain rfl:m=É Î n:=by simpa using a.S
 obtain rfl:o=É Î n:=by simpa using a.Y
 have hF:True:=trivial;apply fN (n:=40) e;simp only[Cu,E9,Rk];iterate 7 w_go fv
 simp only[LP,LL];iterate 4 w_go fv
 u_call Δ fO Ũ fv hF
 iterate 9 w_go fv
 refine Ë λ_ _=> ?_;exact f _ _ ⟨U,U,U,U,U⟩ ⟨U,U,U,U⟩
def ajI(d:ki l)(a:DT (Æ (Â ⟨j7,0,Á⟩) n b) O k j9 k t)(e:∀c,ET (Æ (Â ⟨j7,0,Á⟩) n b) n 0 c->fh Ä Ó J l (CU c qX)):fh Ä Ó J l (CS t qX):=by
 obtain⟨i,f,j,m,o,p,q,r,s,g,h,u,v,w,x,y,z,B,C,D,E,F,G,H,I,K,L,M,N,P,Q,S,rfl⟩:=Iz t a.r;obtain rfl:f=Æ (Â ⟨j7,0,Á⟩) n b:=by simpa using a.C
 obtain rfl:g=É Î k:=by simpa using a.M
 obtain rfl:h=É Î k:=by simpa using a.I
 have hF:True:=trivial;apply fN (n:=40) d;simp only[CS];conv in Me=>whnf
 iterate 7 w_go fv
 conv in Zl=>whnf
 iterate 8 w_go fv
 refine Ë λ_ _=> ?_;exact e _ ⟨U,U,U,U⟩
def ajJ(a:gw l)(g:¬l.q)(c:ET (Æ (Â ⟨j7,0,Á⟩) n b) n j t)(z:j<n)(B:n<1000)(i:l.O j7)(o:l.w.cell? ⟨j7,j,Á⟩=Â (è<|Â m)) (p:∀d e,iC (λ_=>False) l d->ET (Æ (Â ⟨j7,0,Á⟩) n b) n (j+1) e->fh Ä Ó N d (CU e qX)):fh Ä Ó (KN Ä Ó m N) l (CU t qX):=by
 obtain⟨C,D,F,G,H,I,J,K,L,M,P,Q,S,T,V,W,X,Y,uj,uk,um,sP,sQ,sR,q,u,v,sS,qN,uq,p9,qa,rfl⟩:=Iz t c.r;obtain rfl:q=Æ (Â ⟨j7,0,Á⟩) n b:=by simpa using c.ajG
 obtain rfl:u=É Î n:=by simpa using c.C
 obtain rfl:v=É Î j:=by simpa using c.I
 have hF:True:=trivial;apply fN (n:=40) a.r;simp only[CU];conv in Md=>whnf
 repeat w_go fv
 refine Ë λ_ _=> ?_;apply nT (x:=⟨j7,j,Á⟩) U U (by k_ne) a.r g (Ã<|Ã i) o (λw h=>by go_simp) (λw h=>by simp[go_sem,h]);walk_nrm;apply fN (n:=40) a.r;iterate 4 w_go fv
 refine Ë λ_ _=> ?_;refine .fA λw₁ y=>⟨U,U,_,U,λqC cap buf s r tm h=>(stepG_close U U (by k_ne) U U h fO).trans U,?_⟩;walk_nrm;have f:=(iC.fT (E:=λ_=>False) a.r).N (λ_ k=>k.elim) y;apply fN (n:=20) f.fx;iterate 7 w_go fv
 refine Ë λ_ _=> ?_;refine p _ _ f ⟨U,U,U,?_⟩;simp;exact Cn Z Z
def ajK(e:gw l)(g:l.d=0)(p:60<=i)(f:ET dv n n t)(c:SE ba all nV d)(j:l.K ⟨all,0,Á⟩/\l.K ⟨all,1,Á⟩)(q:mN all l.w) (r:∀m o,iC (λ_=>False) l m->SE ba all nV o->a m (Fg o qX)):fh Ä Ó (qH Ä Ó i all a .iW) l (CU t<|IG d::qX):=by
 obtain⟨G,H,I,J,L,M,N,P,Q,S,T,V,W,X,Y,qM,vr,vt,uj,uk,um,sP,sQ,sR,uo,s,u,sS,qN,uq,p9,qa,rfl⟩:=Iz t f.r;obtain rfl:s=É Î n:=by simpa using f.C
 obtain rfl:u=É Î n:=by simpa using f.I
 have hF:True:=trivial;apply fN (n:=40) e.r;simp only[CU,IG,LL];conv in Md=>whnf
 iterate 8 w_go fv
 obtain⟨z0,z1,z2,z3,z4,z5,z6,z7,v,z9,z10,x,y,z13,z14,z15,z16,z17,z18,z19,z20,z21,z22,z23,z24,z25,z26,z27,z28,z29,z30,z31,z32,z33,z34,z35,z36,z37,z38,z39,z40,z41,z42,z43,z44,z45,z46,z47,z48,rfl⟩:=Im d c.r;obtain rfl:v=À (Â ⟨ba,0,Á⟩):=by simpa using c.I
 obtain rfl:x=À (Â ⟨nV,0,Á⟩):=by simpa using c.C
 obtain rfl:y=À (Â ⟨all,0,Á⟩):=by simpa using c.Rm
 u_leave0 Δ fv hF
 simp only[LN];iterate 3 w_go fv
 u_call qL.f_wait (nm_wait Lk) waitFn fv hF
 refine Ë λ_ _=> ?_;refine Yq qL p (⟨Ã j.1,Ã j.2,λw z b B C D F h=>h.ff ⟨b,B,C,D,F⟩⟩) ⟨e.r,q,fI.fT _ _⟩ g λz B=> ?_;walk_nrm;refine .fA λC b=> ?_;have h:=(iC.fT (E:=λ_=>False) e.r).N (λ_ k=>k.elim)<|B.2.2.ff ⟨b.r,b.I,b.N,b.Y,b.S⟩;exact r {l with d:=0,w:=C} _ ⟨h.O,h.h,h.Y,h.I,h.c,h.K,h.q,g.symm,h.fx,h.f,h.r,h.e,h.S,h.b,h.g⟩ ⟨U,U,U,U⟩
end
def vC(a:Nat)(b c:Ð)(_:Unit):Nat->Ð
 |0=>b
 |1=>À<|Â ⟨a,0,Á⟩
 |2=>À<|Â ⟨a,0,Á⟩
 |3=>À<|Â ⟨a,2,Á⟩
 |4=>c
 |5=>b
 |_=>c
def Mi(a:fc)(_:Array Bool)(_:Unit)(l:fc):Prop:=gh (λ_=>False) a l
section
variable{J:Jd}{g:fc}{h:Option ã}
def ajL(K:¬g.q)(N:q.size=49)(P:q[8]?=Â (À<|Â ⟨m,0,Á⟩))(Q:q[11]?=Â (À<|Â ⟨j9,0,Á⟩))(E:g.M m)(F:gX g ⟨j9,2,Á⟩)(S:g.w.cell? ⟨m,0,Á⟩=Â (Æ O b n))(T:g.w.cell? ⟨j9,2,Á⟩=Â (Æ h j6 j7)) (md:Ă) (listed:Array Bool) (y:Ş) (l:fc) (i:Nat) (jJ:List Nat) (V:II xc q (vC j9 (Æ O b n)<|Æ h j6 j7) (Mi g) listed y l) (k:i∈Ü md xc listed): fh Ä Ó (λc d=>∃a,d=G ((base 37).at a<|Ï xc jJ::L) qX/\II xc q (vC j9 (Æ O b n)<|Æ h j6 j7) (Mi g) (listed.setIfInBounds i Ó) a c) l (G ((base 37).at y<|Ï xc (i::jJ)::L) qX):=by
 let⟨x,j,p⟩:=V;have s:ug xc q.size=Ó:=by rw[N];decide
 have H:=EN k;have t:=p.fx;have u:¬l.q:=by rwa[show l.q=g.q from p.q]
 have W:=(j.C A).trans P;have X:=(j.C A).trans Q;have B:gX l ⟨m,0,Á⟩:=Ã<|p.M E;have D:gX l ⟨j9,2,Á⟩:=F.imp (λa=>p.M a) λa=>by rwa[p.C]
 have I:=(gK<|p.r m E id).trans S;have J:l.w.cell? ⟨j9,2,Á⟩=Â (Æ h j6 j7):=by
  refine Ŋ ?_ T;rcases F with a|a
  .exact gK<|p.r _ a id
  .exact p.f _ a
 have v:∀{c:Nat},∀d,fI l l.w d->Mi g (listed.setIfInBounds c Ó) () {l with w:=d}:=λd r=>p.G r;have Y:xc.size=7:=A
 rw[Y]at H;match i,H with
 |0,_=>
  refine ij (o:=Ia) s j U U k (by k_ne) t u (λd r=> ?_) (λd r e f=> ?_) v
  .have z:=(B.r r).trans I;simp only[vC,Ia];go_simp
  .have z:=(B.r r).trans I;simp[go_sem,Ia,W,z]at f;subst f;exact B.C
 |4,_=>
  have Zo:y.tmps[47]?=Â (À<|Â ⟨j9,2,Á⟩):=j.r 3 Ie 47 U (ie k U U) U;refine ij (o:=Ig) s j U U k (by k_ne) t u (λd r=> ?_) (λd r e f=> ?_) v
  .have z:=(D.r r).trans J;simp only[vC,Ig];go_simp
  .have z:=(D.r r).trans J;simp[go_sem,Ig,Zo,z]at f;subst f;exact D.C
 |1,_=>
  refine ij (o:=Ib) s j U U k (by k_ne) t u (λd r=> ?_) (λd r e f=> ?_) v
  .simp only[vC,Ib];go_simp
  .simp[go_sem,Ib,X]at f
 |2,_=>
  have z:y.tmps[45]?=Â (À<|Â ⟨j9,0,Á⟩):=j.r 1 Ib 45 U (ie k U U) U;refine ij (o:=Ic) s j U U k (by k_ne) t u (λd r=> ?_) (λd r e f=> ?_) v
  .simp only[vC,Ic];go_simp
  .simp[go_sem,Ic,z]at f
 |3,_=>
  have z:y.tmps[46]?=Â (À<|Â ⟨j9,0,Á⟩):=j.r 2 Ic 46 U (ie k U U) U;refine ij (o:=Ie) s j U U k (by k_ne) t u (λd r=> ?_) (λd r e f=> ?_) v
  .simp only[vC,Ie];go_simp
  .simp[go_sem,Ie,z]at f
 |5,_=>
  have z:y.tmps[44]?=Â (Æ O b n):=j.r 0 Ia 44 U (ie k U U) U;refine ij (o:=Ih) s j U U k (by k_ne) t u (λd r=> ?_) (λd r e f=> ?_) v
  .simp only[vC,Ih];go_simp
  .simp[go_sem,Ih,z]at f
 |6,_=>
  have z:y.tmps[48]?=Â (Æ h j6 j7):=j.r 4 Ig 48 U (ie k U U) U;refine ij (o:=Ii) s j U U k (by k_ne) t u (λd r=> ?_) (λd r e f=> ?_) v
  .simp only[vC,Ii];go_simp
  .simp[go_sem,Ii,z]at f
def ajM(c:gw g)(t:¬g.q)(e:SE m j j9 d)(B:g.M m)(C:gX g ⟨j9,2,Á⟩)(D:g.w.cell? ⟨m,0,Á⟩=Â (Æ O b n))(E:g.w.cell? ⟨j9,2,Á⟩=Â (Æ h j6 j7)) (F:∀u,gh (λ_=>False) g u->fh Ä Ó J u (G (f.at (y.put ((Q[i]?).bind (·.dst))<|ñ #[Æ O b n,Æ h j6 j7])<|Ï Q jJ::L) qX)): fh Ä Ó J g (Fg d<|f.at y (Ï Q (i::jJ)::L)::qX):=by
 have hF:=trivial;apply fN (n:=9) c.r;simp only[Fg,LO];iterate 2 w_go fv
 refine Ë λ_ _=> ?_;refine QP (II xc d (vC j9 (Æ O b n)<|Æ h j6 j7)<|Mi g) c.r t (λl a=>⟨(),mO.G _ _ _,(gh.fT c.r).G ⟨a.r,a.I,a.N,a.Y,a.S⟩⟩) (λk o y l i jJ p a=>ajL t e.r e.I e.C B C D E k o y l i jJ p a) λk o H I p r s=> ?_;let⟨x,l,K⟩:=p;have v:∀i∈ä 7,o.getD i Í=Ó:=by
  cases k
  .exact p8 s r (ä 7) [] fO λi a=>by cases a
  .exact λi a=>p8 s r [0,5,1,2,3,4,6] [] fO (λi a=>by cases a) i (by have:=ě.1 a;revert i;decide)
  .exact p8 s r (ä 7) [] fO λi a=>by cases a
 let⟨a,N⟩:=H;obtain rfl:N=[]:=l.M;have P:a[6]?=Â (Æ O b n):=l.r 5 Ih 6 U (v 5 A) U;have S:a[7]?=Â (Æ h j6 j7):=l.r 6 Ii 7 U (v 6 A) U;have X:=l.S.trans e.r;have z:=K;have T:=z.N c;have V:a.getD 6 Å=Æ O b n:=by simp[Ė,P]
 have W:a.getD 7 Å=Æ h j6 j7:=by simp[Ė,S]
 apply fN (n:=9) T.r;iterate 2 w_go fv
 u_in fv hF
 refine goes_leave2 U U Tryz.func37 U ⟨by u_nil,?_⟩;rw[V,W];refine Ë λ_ _=>F I z
end
structure SD where
 L:Nat
 f:Nat
 n:Nat
 m:Nat
 q:Nat
 N:Nat
 I:Nat
 C:Nat->Nat
 an:Nat
 S:Nat
 p:Nat
 t:Option ã
 s:Nat
 k:Option ã
 j:Nat
 l:Nat->Option ã
 Y:Nat->Nat
 h:Nat->Option ã
 b:Nat->Nat
 a:Nat->Nat
 e:List é
 c:Nat->Prop
 RC:ß->Prop
 o:ß->Prop
 γ:Type
 v:γ
 u:Nat->Prop
 g:Nat->γ->γ->Prop
 RD:γ->Ð->(Nat->Prop)->ß->Prop
 d:Nat->ByteArray
 i:Nat->ByteArray
def SD.M(D:SD):Fx:=⟨D.L,D.m,D.I,D.C⟩
def SD.ajN(D:SD)(i:Nat):Ð:=ę #[À<|D.h i,É Î<|D.b i,À<|Â ⟨D.C<|D.a i,0,Á⟩,À Á]
structure lF(D:SD)(S:Nat->Prop)(l:fc):Prop where
 C:∀b,D.M.M b->l.K ⟨b,0,Á⟩/\l.K ⟨b,1,Á⟩
 M:∀b,D.M.M b->mN b l.w
 c:S D.S
 d:l.w.cell? ⟨D.S,0,Á⟩=Â (Æ (Â ⟨D.an,0,Á⟩) D.N D.N)
 f:S D.p
 g:l.w.cell? ⟨D.p,0,Á⟩=Â (Æ D.t D.m D.s)
 h:∀k,k<D.m->∃b,D.t=Â ⟨b,0,Á⟩/\S b/\l.w.cell? ⟨b,k*4,Á⟩=Â (À<|D.l<|k+1)/\l.w.cell? ⟨b,k*4+1,Á⟩=Â (É Î<|D.Y<|k+1)/\l.w.cell? ⟨b,k*4+2,Á⟩=Â (À<|Â ⟨D.C k,0,Á⟩)/\l.w.cell? ⟨b,k*4+3,Á⟩=Â (À<|Â ⟨D.C<|k+1,0,Á⟩)
 j:∀i,i<D.q->∃b,D.k=Â ⟨b,0,Á⟩/\S b/\l.w.cell? ⟨b,i*4,Á⟩=Â (À<|D.h i)/\l.w.cell? ⟨b,i*4+1,Á⟩=Â (É Î<|D.b i)/\l.w.cell? ⟨b,i*4+2,Á⟩=Â (À<|Â ⟨D.C<|D.a i,0,Á⟩)/\l.w.cell? ⟨b,i*4+3,Á⟩=Â (À Á)
 r:∀a,l.r a->(l.w.cell? a).isSome=Ó/\l.w.frozen? a=Í
 Y:∀b,D.c b->S b
 e:D.RC l.w
structure SD.Ok(D:SD):Prop where
 C:∀w w',D.RC w->(∀b,D.c b->w'.heap[b]?=w.heap[b]?)->D.RC w'
 ioS:∀w w',D.o w->(w'.os=w.os/\w'.output=w.output)->D.o w'
 r:∀s sl V w w',D.RD s sl V w->(∀b,V b->w'.heap[b]?=w.heap[b]?)->D.RD s sl V w'
 I:1<=D.n
 L1:1<=D.L
 fY:D.n+D.q+D.m<1000
 N1:D.N<1000
 S:∀i,D.a i<=D.m
 a:∀i,i<D.q->D.b i<D.N
 Y:∀k,1<=k->k<=D.m->D.Y k<D.N
 ajO:∀k,k<=D.m->D.C k≠D.I
 ajP:∀k k',k<=D.m->k'<=D.m->D.C k=D.C k'->k=k'
 M:¬D.M.M D.an
 pq:∀i i',i<D.q->i'<D.q->D.b i=D.b i'->i=i'
 pi:∀k k',1<=k->k<=D.m->1<=k'->k'<=D.m->D.Y k=D.Y k'->k=k'
 PZ:∀i k,i<D.q->1<=k->k<=D.m->D.b i≠D.Y k
 gp:∀b,D.M.M b\/b=D.an->D.f<=b
section
variable{D:SD}{S:Nat->Prop}{l f:fc}
def lF.I(h:lF D S l)(ok:D.Ok)(e:∀b,S b->X b)(c:∀b,S b->f.w.heap[b]?=l.w.heap[b]?)(q:f.K=l.K)(p:∀a,l.K a->(l.w.cell? a).isSome=Ó->(f.w.cell? a).isSome=Ó)(r:∀a,f.r a->(f.w.cell? a).isSome=Ó/\f.w.frozen? a=Í):lF D X f where
 C b hg:=by rw[q];exact h.C b hg
 M b hg:=⟨p _ (h.C b hg).1 (h.M b hg).1,p _ (h.C b hg).2 (h.M b hg).2⟩;c:=e _ h.c;d:=(gK<|c _ h.c).trans h.d;f:=e _ h.f;g:=(gK<|c _ h.f).trans h.g;h k hk:=by let⟨b,g,d,j,m,n,o⟩:=h.h k hk;exact⟨b,g,e b d,(gK<|c b d).trans j,(gK<|c b d).trans m,(gK<|c b d).trans n,(gK<|c b d).trans o⟩
 j i hi:=by let⟨b,g,d,j,m,n,o⟩:=h.j i hi;exact⟨b,g,e b d,(gK<|c b d).trans j,(gK<|c b d).trans m,(gK<|c b d).trans n,(gK<|c b d).trans o⟩
 r:=r;Y b d:=e b<|h.Y b d;e:=ok.C _ _ h.e λb d=>c b<|h.Y b d
def lF.G(h:lF D S l)(ok:D.Ok)(c:∀b,S b->l.M b)(r:fI l l.w u):lF D S {l with w:=u}:= h.I ok (λ_ q=>q) (λb q=>r.I b<|c b q) U r.S λa q=>by have:=h.r a q;exact⟨by show(u.cell? a).isSome=Ó;rw[r.N a<|Ã q];exact this.1,(r.Y a<|Ã q).trans this.2⟩
def lF.R9{E:ã->Prop}(h:lF D S l)(ok:D.Ok)(g:∀b,S b->l.M b)(c:iC E l f):lF D S f:= h.I ok (λ_ q=>q) (λb q=>c.r b<|g b q) c.K c.b λa q=>by
  rw[c.I]at q;let⟨d,i⟩:=h.r a q;refine⟨?_,(c.S a<|Ã q).trans i⟩;by_cases e:E a
  .exact c.g a e d
  .rwa[c.e a (Ã q) e]
def lF.ajQ(h:lF D S l)(ok:D.Ok)(d:∀b,S b->l.M b/\¬X b)(c:gh X l f):lF D S f:= h.I ok (λ_ q=>q) (λb q=>c.r b (d b q).1 (d b q).2) c.K c.e λa q=>by rw[c.Y]at q;let⟨e,g⟩:=h.r a q;exact⟨by rwa[c.f a<|Ã q],(c.g a<|Ã q).trans g⟩
def lF.N(h:lF D S l)(a:∀b,S b->X b):lF D X l:=⟨h.C,h.M,a _ h.c,h.d,a _ h.f,h.g,λk c=>let⟨b,d,e,f⟩:=h.h k c;⟨b,d,a b e,f⟩,λk c=>let⟨b,d,e,f⟩:=h.j k c;⟨b,d,a b e,f⟩,h.r,λb q=>a b<|h.Y b q,h.e⟩
end
section
variable(D:SD)
def jG(a:Nat->Nat)(j:Nat):List Ð:=(ä j).map λi=>è<|Â<|a i
def CV(k:Nat):Jd:=λl g=>l.d=0/\¬l.q/\lF D l.M l/\∃t a b c e f h i j n o,Cm D.an D.N D.t D.m D.s k t/\l.M a/\l.w.cell? ⟨a,0,Á⟩=Â (À<|Â ⟨D.I,0,Á⟩)/\g=yT t [vw h i j n o,yW a b c e f,nS Ä]
def Zp(c i:Nat):Jd:=λl g=>l.d=0/\¬l.q/\lF D l.M l/\∃t a b e f h j k m n o p,QT D.an D.N c t/\t[4]?=Â (À<|Â ⟨a,0,Á⟩)/\l.O a/\l.w.cell? ⟨a,0,Á⟩=Â (À<|D.h i)/\l.w.cell? ⟨a,1,Á⟩=Â (É Î<|D.b i)/\l.w.cell? ⟨a,2,Á⟩=Â (À<|Â ⟨D.C<|D.a i,0,Á⟩)/\l.M b/\l.w.cell? ⟨b,0,Á⟩=Â (À<|Â ⟨D.I,0,Á⟩)/\g=LF t [H6 k m n o p,yW b e f h j,nS Ä]
def ajR:Jd:=λl g=>lF D l.M l/\∃t a b c,Il D.S D.I (D.C D.m) D.n (Æ D.k D.q D.j) t/\gZ l a (Ê #[À<|Â ⟨D.I,0,Á⟩] 162)/\gZ l b (Ê #[Ď (ý 48) #[] #[À<|Â ⟨D.p,0,Á⟩,À<|Â ⟨D.S,0,Á⟩]] 1)/\g=Cv (À<|Â ⟨D.I,0,Á⟩) c (À<|Â ⟨D.I,0,Á⟩) (ñ #[]) a b (Fa t::D.e)
def ajS(j:Nat)(a:Nat->Nat):Jd:=λl g=>lF D l.I l/\∃t e c b d f,ST D.S D.I (D.C D.m) D.n (j-1) (Æ D.k D.q D.j) e t/\YW D.S D.I D.q e (jG a j) (a<|j-1) c b d l/\a (j-1)<c/\c<b/\b<d/\(∀k,e.ownBlock=Â k->k≠a (j-1)/\k≠c/\k≠b/\k≠d)/\D.f<=a (j-1)/\g=Cv (À<|Â ⟨D.I,0,Á⟩) f (À<|Â ⟨D.I,0,Á⟩) (ñ #[]) b d (LQ t::D.e)
def Mj(j:Nat)(a:Nat->Nat):Jd:=λl g=>l.d=0/\¬l.q/\D.f<=l.w.heap.size/\((j=0/\ajR D l g)\/(1<=j/\ajS D j a l g))
def Zq:Jd:=λl g=>l.d=0/\¬l.q/\lF D l.I l/\∃a,SE D.S D.I (D.C D.m) a/\g=Fg a D.e
def SD.r(P:ğ):Ph where
 toFx:=D.M
 P:=P
 S:=D.f
 n:=D.n
 q:=D.q
 Y:=D.an
 f:=D.N
 r:=D.a
 a:=D.b
 b:=D.Y
 c:=D.ajN
 z:=zT
 B:=60
 γ:=D.γ
 l:=D.v
 i:=D.u
 p:=D.g
 d:=λk s V w=>(∃a,w.cell? ⟨D.C k,2,Á⟩=Â a/\D.RD s a V w)/\(k=0->w.cell? ⟨D.an,D.N,Á⟩=Á/\kR w D.an=Â (0,0)/\D.o w)
 o:=D.d
 k:=D.i
 g:=Mj D
 h:=CV D
 e:=Zp D
 j:=λ_=>Zq D
end
def Fh(D:SD):Prop:=∀k s e V l,k<D.m->nk (D.r Ä) k s->D.RD s e V l.w->(∀b,V b->l.M b)->gw l->¬l.q->(∀b,D.c b->l.M b)->D.RC l.w->∀f g,fh Ä Í (λa j=>a.d=l.d/\∃p n c,j=G (f.finish<|ñ #[Æ p n c,á<|D.d<|k+1]) g/\∃h i,D.g k s h/\D.RD h (Æ p n c) i a.w/\∀b,i b->a.M b) (lZ l)<|G (ć Ä 66 #[e,À<|D.l<|k+1] Ĥ)<|f::g
def Fi(D:SD):Prop:=∀i s a V l,i<D.q->nk (D.r Ä) (D.a i) s->D.RD s a V l.w->(∀b,V b->l.M b)->gw l->¬l.q->(∀b,D.c b->l.M b)->D.RC l.w->∀b c,fh Ä Í (λe f=>e.d=l.d/\f=G (b.finish<|á<|D.i i) c) (lZ l)<|G (ć Ä 67 #[a,À<|D.h i] Ĥ)<|b::c
section
variable{D:SD}
def IH(k:Nat)(a:k<=D.m):D.M.M (D.C k):=Ç ⟨k,a,U⟩
def zf:D.M.M D.I:=Ã U
def ajT(ok:D.Ok):(D.r Ä).Ok:=⟨ok.I,ok.L1,ok.fY,λi _=>ok.S i,ok.ajO,ok.ajP,ok.M,ok.pq,ok.pi,ok.PZ,ok.gp,⟨λk a b e=>by have c:D.Y k=D.N:=e;have:=ok.Y k a b;omega,λi d e=>by have c:D.b i=D.N:=e;have:=ok.a i d;omega⟩⟩
theorem ajU(ok:D.Ok)(tV:Fh D):∀k s V l g,k<D.m->CV D k l g->gw l->nk (D.r Ä) k s->(D.r Ä).d k s V l.w->(∀b,V b->l.I b)->l.N (jf D.M k)->l.r (jf D.M<|k+1)->l.r (jk (D.r Ä)<|D.Y<|k+1)->∀B:Nat->D.γ,B k=s->fh Ä Í (JI (D.r Ä) B<|.mk (k+1)) l g:=by
 intro k s V l g o hJ Ff Sb AQ hV uh C E B hsg;obtain⟨hd,F,f,t,G,v1,v2,v3,v4,u0,u1,u2,u3,u4,hT,CH,cbw,rfl⟩:=hJ;let⟨⟨sl,hsl,qR⟩,_⟩:=AQ;let⟨b,yU,hbM,i0,i1,i2,i3⟩:=f.h k o;have Ew:=ok.fY;have lB:(⟨D.C<|k+1,2,Á⟩:ã)≠⟨D.an,D.Y<|k+1,Á⟩:=λe=>ok.M (by injection e with H _ _;rw[<-H];exact IH (k+1) o);have Az:Cm D.an D.N (Â ⟨b,0,Á⟩) D.m D.s k t:=by rwa[<-yU]
 have⟨oc1,oz1⟩:=f.r _ C;have⟨oc2,oz2⟩:=f.r _ E;have rH:∀a:ã,(a=⟨D.C<|k+1,2,Á⟩\/a=⟨D.an,D.Y<|k+1,Á⟩)->l.r a:=λa p=>by rcases p with rfl|rfl;exact C;exact E
 have r:=f.C _<|IH (k+1) o;have Zr:=f.M _<|IH (k+1) o;refine fh.fM (Stop:=λl g=>(∃i n,D.g k s i/\(D.r Ä).d (k+1) i n l.w/\(∀b,n b->l.M b)/\l.w.cell? ⟨D.an,D.Y<|k+1,Á⟩=Â (á<|D.d<|k+1))/\yt Ä Í (D.C<|k+1) (fh Ä Í<|CV D<|k+1) (pN (D.r Ä) l<|k+1) g) (λl g h=> ?_) ?_
 .let⟨⟨i,n,I,J,L,O⟩,P⟩:=h;exact⟨i,n,by subst hsg;exact I,J,L,O,P⟩
 refine aix (Q:=λv x y=>x=D.d (k+1)/\∃i n,D.g k s i/\D.RD i v n y.w/\∀b,n b->y.M b) (τ:=λl=>pN (D.r Ä) l<|k+1) Ff F hd Az o Z (by have:=ok.N1;omega) (ok.Y (k+1) Z o) hbM i0 i1 i2 i3 uh hsl C E oc1 oc2 oz1 oz2 lB (λc v j u=> ?_) λc x v hQ Rc LD=> ?_
 .refine(tV k s sl V c o Sb (ok.r _ _ _ _ _ qR λb x=>v.r b<|Ç<|hV b x) (λb x=>v.M<|Ç<|hV b x) (v.G Ff) (by rwa[v.q]) (λb x=>v.M<|f.Y b x) (ok.C _ _ f.e λb x=>v.r b<|f.Y b x) j u).fM ?_;grind
 .let⟨y,⟨hstr,i,n,hnx,ajV,Zs⟩,hy⟩:=hQ;rw[hstr]at LD;have Zt:mN (D.C<|k+1) c.w:=⟨v.b _ r.1 Zr.1,v.b _ r.2 Zr.2⟩;refine⟨⟨Ã (by rw[v.K];exact r.1),Ã (by rw[v.K];exact r.2),λ_ _ _ _ _ _ _ _=>trivial⟩,⟨v.fx,Zt,trivial⟩,⟨i,n,hnx,⟨⟨_,Rc,ok.r _ _ _ _ _ ajV λb x=>(hy b<|Zs b x).2⟩,λe=>by omega⟩,λb x=>(hy b<|Zs b x).1,LD⟩,v.d.trans hd,λw=>fI (pN (D.r Ä) c<|k+1) c.w w,⟨Ã (by show c.K _;rw[v.K];exact r.1),Ã (by show c.K _;rw[v.K];exact r.2),λw w₁ I J L O P h=>h.ff ⟨I,J,L,O,P⟩⟩,⟨λj h=>h.elim,Zt,fI.fT _ _⟩,λqC t' ajW Xw=> ?_⟩;refine .fA λS u=> ?_;have z:=ajW.2.2.ff ⟨u.r,u.I,u.N,u.Y,u.S⟩;have x:=λb x=>(z.I b<|Ç<|v.M x).trans<|v.r b x;have Zu:∀b,l.M b->({pN (D.r Ä) c (k+1)with d:=0,w:=S}:fc).M b:=λb x=>Ç<|v.M x;refine⟨U,by show¬c.q;rwa[v.q],f.I ok Zu x (by show c.K=l.K;exact v.K) (λa p h=>z.S a (by show c.K a;rwa[v.K])<|v.b a p h) λa p=> ?_,t',G,v1,v2,v3,v4,u0,u1,u2,u3,u4,by rwa[yU],Zu G CH,(gK<|x G CH).trans cbw,U⟩;obtain⟨T,W,X⟩:c.r a/\a≠⟨D.an,D.Y<|k+1,Á⟩/\a≠⟨D.C<|k+1,2,Á⟩:=p;have Y:l.r a:=by rwa[<-v.I]
  let⟨H,e2⟩:=f.r a Y;refine⟨?_,?_⟩
  .show(S.cell? a).isSome=Ó;rwa[z.N a<|Ã ⟨T,W,X⟩,v.e a (Ã Y) λq=>q.elim X W]
  .show S.frozen? a=Í;rwa[z.Y a<|Ã ⟨T,W,X⟩,v.S a<|Ã Y]
def ajX:∀l g,CV D D.m l g->gw l->fh Ä Í (Av<|D.r Ä) l g:=by intro l g c d;obtain⟨e,f,b,t,k,n,o,p,q,r,s,u,v,w,h,i,j,rfl⟩:=c;have a:=b.C _<|zf;exact aiF (Ψ:=λ_=>True) h a ⟨Ã a.1,Ã a.2,λ_ _ _ _ _ _ _ _=>trivial⟩ ⟨d.r,b.M _ zf,trivial⟩ e f (Ã i) j
def Zv(ok:D.Ok){r:Nat}{l:fc}{t:Array Ð}{g h m o p:Ð}(B:gw l)(s:¬l.q)(C:l.d=0)(a:lF D l.M l)(E:QT D.an D.N i t)(f:l.M k)(u:l.w.cell? ⟨k,0,Á⟩=Â (À<|Â ⟨D.I,0,Á⟩)): Eo (D.r Ä) i j r l (yZ t [H6 g h m o p,yW k v x z jQ,nS Ä]):=by have y:=ok.S<|j+r*D.n;refine aiK B s C E (Û _) U (a.C _<|IH _ y) (a.M _<|IH _ y) (a.C _ zf) (a.M _ zf) (Ã f) u λQ F G e H I J K L O P=>(⟨H,by rwa[e.q],(a.R9 ok (λ_ q=>q) e).N λb q=>e.M q,G,F,k,v,x,z,jQ,g,h,m,o,p,O,P,I,J,K,L,e.M f,(gK<|e.r k f).trans u,U⟩)
theorem ajY(ok:D.Ok)(W:Fi D):∀c j r s V l g,j+r*D.n<D.q->Zp D c (j+r*D.n) l g->∀f:fc,gw f->f.O=l.O->(∀b,l.I b\/V b->f.I b)->f.w=l.w->f.d=l.d->f.q=l.q->f.r=l.r->f.K=l.K->nk (D.r Ä) (D.a<|j+r*D.n) s->(D.r Ä).d (D.a<|j+r*D.n) s V l.w->f.N (jf D.M<|D.a<|j+r*D.n)->f.r (jk (D.r Ä)<|D.b<|j+r*D.n)->fh Ä Í (JW (D.r Ä) c j<|.nh r) f g:=by
 intro c j r s V l g E X f v F y o Y hq' K9 hK Sb AQ uh p;obtain⟨hd,hq,G,t,tb,u,v1,v2,v3,v4,u0,u1,u2,u3,u4,hT,h4,hOt,H,I,J,L,N,rfl⟩:=X;let⟨⟨sl,P,S⟩,_⟩:=AQ;have B:∀b,l.M b->f.M b:=λb q=>q.elim (λz=>Ã<|by rwa[F]) λz=>Ç<|y b<|Ã z;have m:=G.I ok B (λb _=>by rw[o]) hK (λa _ h=>by rwa[o]) λa q=>by rw[o];exact G.r a<|by rwa[<-K9]
 have C:¬f.q:=by rwa[hq']
 rw[<-o]at H I J N P S;let⟨e2,z2⟩:=m.r _ p;refine za (Q:=λx=>x=D.i (j+r*D.n)) v C hT h4 (by rwa[F]) H I J uh P p e2 z2 (ok.a _ E) (λi e k T=> ?_) λi x t' e hx hcx Az=> ?_
 .refine(W _ s sl V i E Sb (ok.r _ _ _ _ _ S λb x=>e.r b<|Ç<|y b<|Ç x) (λb x=>e.M<|Ç<|y b<|Ç x) (e.G v) (by rwa[e.q]) (λb x=>e.M<|m.Y b x) (ok.C _ _ m.e λb x=>e.r b<|m.Y b x) k T).fM ?_;grind
 .have T:=(m.R9 ok (λ_ q=>q) e).N λb q=>e.M q;refine⟨hcx.trans (by rw[hx];rfl),?_⟩;have k:=e.G v;have HZ:gw (vj (D.r Ä) i<|j+r*D.n):=by
   refine⟨k.c,λa x=> ?_,λa x=> ?_,k.fx,λa x=> ?_,λa x=> ?_⟩
   .rintro(q|q)
    .exact k.Y a x.1 q
    .exact x.2 q
   .refine k.N a ?_;rcases x with q|q|q
    .exact Ã q.1
    .exact Ç q
    .rw[q];exact Ã<|by rwa[e.I]
   .refine k.I a ?_;rcases x with q|q|q
    .exact Ã q.1
    .exact Ç q
    .rw[q];exact Ã<|by rwa[e.I]
   .let⟨k1,k2,k3⟩:=k.S a x;exact⟨k1,k2,λq=>k3 q.1⟩
  refine Zv ok HZ (by show¬i.q;rwa[e.q]) (by show i.d=0;rwa[e.d,Y]) (T.I ok (λ_ q=>q) (λ_ _=>rfl) U (λ_ _ h=>h) λa q=>T.r a q.1) Az (by show i.M u;exact e.M<|B u L)<|(gK<|e.r u<|B u L).trans N
end
section
variable{D:SD}{dk:Nat->Nat}{dv:Ð}{l f:fc}
structure MF(D:SD)(dk:Nat->Nat)(dv:Ð)(l:fc):Prop where
 C:gw l
 q:¬l.q
 d:l.d=0
 r:lF D l.I l
 I:∃db c,dv=Æ (Â ⟨db,0,Á⟩) D.n c/\l.O db/\∀i,i<D.n->l.w.cell? ⟨db,i,Á⟩=Â (è<|Â<|dk i)
def MF.M(h:MF D dk dv l)(ok:D.Ok)(a:iC (λ_=>False) l f):MF D dk dv f where
 C:=a.G h.C;q:=by rw[a.q];exact h.q
 d:=a.d.trans h.d;r:=(h.r.R9 ok (λ_ q=>Ç q) a).N λb q=>by rwa[a.Y]
 I:=by let⟨e,c,j,g,k⟩:=h.I;exact⟨e,c,j,a.O e g,λi m=>(gK<|a.r e<|Ã g).trans<|k i m⟩
def ajZ(ok:D.Ok):∀r,r<=D.n->∀l t b,MF D dk dv l->ET dv D.n (D.n-r) t->SE D.S D.I (D.C D.m) b->fh Ä Ó (Aw (D.r Ä) dk r) l (CU t<|IG b::D.e):=by
 intro r
 induction r with
 |zero=>
  intro _ l t b a e g;rw[Ŷ]at e;refine ajK a.C a.d (Û _) e g (a.r.C _ zf) (a.r.M _ zf) λf i h j=> ?_;have c:=a.M ok h;exact⟨c.d,c.q,c.r,i,j,U⟩
 |succ r j=>
  intro s l t b a e g;obtain⟨u,c,rfl,k,o⟩:=a.I;have v:=ok.fY;refine ajJ a.C a.q e Z Z k (o (D.n-(r+1)) Z) λf p h i=> ?_;refine j Z f p b (a.M ok h) ?_ g;rwa[show D.n-(r+1)+1=D.n-r by omega]at i
def aj0(ok:D.Ok):∀r,r<=D.q->∀l t d,MF D dk dv l->DT dv D.k D.q D.j (D.q-r) t->SE D.S D.I (D.C D.m) d->fh Ä Ó (He (D.r Ä) dk r) l (CS t<|IG d::D.e):=by
 intro r
 induction r with
 |zero=>
  intro _ l t d a e h;rw[Ŷ]at e;obtain⟨j,c,rfl,k,o⟩:=a.I;refine ajI a.C.r e λi g=>ajZ ok D.n (Û _) l i d a ?_ h;rwa[ŷ]
 |succ r s=>
  intro C l t d a e h;obtain⟨j,c,rfl,k,o⟩:=a.I;have E:=ok.fY;have F:=ok.I;let⟨b,p,u,v,w,x,y⟩:=a.r.j (D.q-(r+1)) Z;have z:DT (Æ (Â ⟨j,0,Á⟩) D.n c) (Â ⟨b,0,Á⟩) D.q D.j (D.q-(r+1)) t:=by rwa[<-p]
  refine ajF a.C a.q z Z Z Z Z k (o _<|ŀ _ Z) (Ç u) v w x y λf i B g=> ?_;refine s Z f i d (a.M ok B) ?_ h;rwa[show D.q-(r+1)+1=D.q-r by omega,<-p]at g
theorem aj1(dk:Nat->Nat)(j a:Nat):jG (fw dk j a) (j+1)=jG dk j++[è<|Â a]:=by
 unfold jG;rw[Ą,List.map_append];congr 1
 .refine List.map_congr_left λi b=> ?_;rw[fH];grind
 .simp[gC]
def aj2(dk:Nat->Nat)(j:Nat):(jG dk j).length=j:=by simp[jG]
def aj3(dk:Nat->Nat)(j i:Nat)(h:i<j):(jG dk j)[i]?=Â (è<|Â<|dk i):=by simp[jG,h]
def Zw(ok:D.Ok){t:Array Ð}(N:j<=D.n)(a:gw l)(o:¬l.q)(p:l.d=0)(h:lF D l.I l)(v:D.f<=l.w.heap.size)(x:ST D.S D.I (D.C D.m) D.n j (Æ D.k D.q D.j) dv t)(r:l.w.ownsRow 0 101 1 dv j (jG dk j))(s:∀k,dv.ownBlock=Â k->l.O k): fh Ä Ó (JM (D.r Ä) dk<|if j<D.n then .iE (j+1)else .iI D.q) l (Cu t D.e):=by
 have P:=ok.fY;by_cases u:j<D.n
 .rw[if_pos u];show fh Ä Ó (PY (D.r Ä) (j+1) dk) l _;rw[ah6];refine Rn a o p x u Z Z (h.C _ zf) (h.M _ zf) r s λf i y z B C E F c G H I J K L M=> ?_;refine⟨y,c.d.trans p,by rwa[c.q],Ø v c.I,Ç ⟨Z,(h.ajQ ok (λb g=>⟨Ç g,λe=>a.c b (s b e.symm) g⟩) c).N λb q=>(by rwa[c.S]),i,E,z,B,C,F,?_,?_,?_,K,L,?_,?_,U⟩⟩
  .rwa[ù]
  .rwa[ù,aj1,gC]
  .rwa[ù,gC]
  .rwa[ù,gC]
  .rw[ù,gC];exact Ø v I
 .have e:j=D.n:=Z
  subst e;rw[if_neg u];have y:∃b c,dv=Æ (Â ⟨b,0,Á⟩) D.n c/\l.O b/\∀i,i<D.n->l.w.cell? ⟨b,i,Á⟩=Â (è<|Â<|dk i):=by
   rcases r.2 with⟨_,C⟩|⟨g,z,E,rfl,_⟩
   .have:=ok.I;omega
   .refine⟨g,z,U,s g U,λi B=> ?_⟩;have:=r.cells U i _<|aj3 dk D.n i B;rw[ħ]at this;simpa using this
  refine ajH a.r x λg z B C=>(aj0 ok D.q (Û _) l g z ⟨a,o,p,h,y⟩ (by rwa[ŷ]) C)
def aj4(ok:D.Ok)(h:CV D k l g)(r:fI l l.w u):CV D k {l with w:=u} g:=by obtain⟨c,d,e,t,a,f,i,j,m,n,o,p,s,v,x,b,y,rfl⟩:=h;exact⟨c,d,e.G ok (λ_ q=>q) r,t,a,f,i,j,m,n,o,p,s,v,x,b,(gK<|r.I a b).trans y,U⟩
def gZ.M{o:Ζ}(h:gZ l b o)(r:fI l l.w u):gZ {l with w:=u} b o:=⟨h.fp,(r.I b<|Ã h.fp).trans h.I⟩
def Hf(ok:D.Ok)(h:Mj D j dk l g)(r:fI l l.w u):Mj D j dk {l with w:=u} g:=by
 let⟨m,n,o,h⟩:=h;refine⟨m,n,Ø o r.r,?_⟩;rcases h with⟨p,b,t,c,d,f,i,s,v,rfl⟩|⟨x,b,t,dv,y,c,d,f,i,a,z,B,C,E,F,rfl⟩
 .exact Ã ⟨p,b.G ok (λ_ q=>q) r,t,c,d,f,i,s.M r,v.M r,U⟩
 .exact Ç ⟨x,b.G ok (λ_ q=>Ç q) r,t,dv,y,c,d,f,i,⟨nU a.S λk e=>r.I k<|Ã<|a.M k e,a.M,a.r.M r,a.C.M r,a.N.M r,a.I.M r⟩,z,B,C,E,F,U⟩
theorem aj5(ok:D.Ok):∀j dk l g,j<=D.n->Mj D j dk l g->gw l->l.d=0/\∃(G H:Ý) (X:Nat->Prop),G.status=Ē/\H.status=Ē/\(∀u,stepG Ä Ó g u=.spawn G H u #[])/\(∀b,X b->l.O b)/\ (1<=j->l.O (dk<|j-1)/\¬X (dk<|j-1)/\l.w.heap[dk<|j-1]?=Â (ŧ D.q #[] Í 0 0 Í)/\D.f<=dk (j-1))/\ (∀f:fc,gw f->(∀b,X b\/l.I b->f.I b)->f.w=l.w->f.d=0->¬f.q->(∀b,¬f.O b)->f.K=l.K->f.N=l.N->(∀a,f.r a->l.r a)->fh Ä Í (if j=0 then CV D 0 else Eo (D.r Ä) (dk<|j-1) (j-1) 0) f H)/\ (∀f:fc,gw f->f.O=(λb=>l.O b/\¬X b/\(1<=j->b≠dk (j-1)))->(∀b,X b\/l.I b->f.I b)->f.w=l.w->f.d=0->f.q=l.q->f.K=l.K->f.N=l.N->(∀a,f.r a->l.r a)->fh Ä Ó (JM (D.r Ä) dk<|if j<D.n then .iE (j+1)else .iI D.q) f G):=by
 intro j dk l g L h Ff;let⟨hd,N,P,h⟩:=h;refine⟨hd,?_⟩;rcases h with⟨rfl,o,t,x,C,v1,I,Q,S,rfl⟩|⟨h1,o,t,dv,T,x,C,v1,I,c,x1,x2,x3,x4,x5,rfl⟩
 .refine⟨_,_,l.O,U,U,λu=>YU _ _ _ _ _ _ _ u,λ_ q=>q,λq=>by omega,λf i m X y p E z J B=> ?_,λf i E m X y p z J B=> ?_⟩
  .rw[if_pos U];have e:=λb q=>m b q;have s:lF D f.M f:=o.I ok (λb q=>Ç<|e b q) (λb _=>by rw[X]) z (λa _ h=>by rwa[X]) λa q=>by rw[X];exact o.r a<|B a q
   refine aiE i.r p (Ã<|Ç<|e C<|Ã S.fp) (Ã s.f) (Ã s.c) (by rw[X];exact S.C U) s.g s.d λF V W Y w4 u0 u1 u2 u3 u4 v=> .fA λu r=>aj4 ok ⟨y,p,s,F,x,V,W,Y,w4,u0,u1,u2,u3,u4,v,Ç<|e x<|Ã Q.fp,by rw[X];exact Q.C U,U⟩ r
  .refine aiR i.r I λF v=>(Zw ok L i (by rwa[p]) y (o.I ok (λb q=>m b q) (λb _=>by rw[X]) z (λa _ h=>by rwa[X]) λa q=>by rw[X];exact o.r a<|B a q) (by rwa[X]) v (World.ownsRow_nil _ _ _ _) λk e=>by cases e)
 .refine⟨_,_,λb=>b=T\/b=x\/b=C,U,U,λu=>YU _ _ _ _ _ _ _ u,λb q=> ?_,λ_=>⟨c.r.fp,?_,c.r.I,x5⟩,λf i m X y p E z J B=> ?_,λf i E m X y p z J B=> ?_⟩
  .rcases q with rfl|rfl|rfl
   .exact c.C.fp
   .exact c.N.fp
   .exact c.I.fp
  .grind
  .rw[if_neg Z];have s:lF D f.M f:=o.I ok (λb q=>Ç<|m b<|Ç q) (λb _=>by rw[X]) z (λa _ h=>by rwa[X]) λa q=>by rw[X];exact o.r a<|B a q
   have Zx:f.M x:=Ç<|m x<|Ã<|Ç<|Ã U;refine aiJ i.r p (Ã<|Ç<|m C<|Ã<|Ç<|Ç U) (Ã<|Ç<|m T<|Ã<|Ã U) (Ã s.c) (by rw[X];exact c.I.C U) (by rw[X];exact c.C.C U) s.d λF V W Y w4 u0 u1 u2 u3 u4 v=> .fA λu r=>(Zv ok (i.jW r.r) p y (s.G ok (λ_ q=>q) r) v Zx<|(gK<|r.I x Zx).trans<|by rw[X];exact c.N.C U)
  .have s:=ok.fY;refine aiS i.r I Z λF v=> ?_;rw[show j-1+1=j by omega]at v;have r:=c.S;rw[aj2]at r;refine Zw ok L i (by rwa[p]) y (o.I ok (λb q=>m b<|Ç q) (λb _=>by rw[X]) z (λa _ h=>by rwa[X]) λa q=>by rw[X];exact o.r a<|B a q) (by rwa[X]) v (by rwa[X]) λk e=> ?_;rw[E];let⟨a,V,W,Y⟩:=x4 k e;refine⟨c.M k e,?_,λ_=>a⟩;grind
def aj6(ok:D.Ok)(b:Fh D)(d:Fi D):gR (D.r Ä) where
 C:=ajT ok;S k s V w w' h hV hc hz hf xl:=by let⟨⟨a,f,m⟩,t⟩:=h;exact⟨⟨a,hc.trans f,ok.r _ _ _ _ _ m hV⟩,λe=>⟨hz.trans (t e).1,hf.trans (t e).2.1,ok.ioS _ _ (t e).2.2 xl⟩⟩
 Hf j dk l g w₁ h r:=Hf ok h r;I j dk l g h:=by let⟨_,_,_,h⟩:=h;rcases h with⟨_,_,t,e,f,a,_,_,_,rfl⟩|⟨_,_,t,dv,m,e,f,a,_,_,_,_,_,_,_,rfl⟩<;>rfl
 N k l g h:=by obtain⟨_,_,_,t,e,a,f,m,n,o,p,q,u,v,_,_,_,rfl⟩:=h;rfl
 Y c i l g h:=by obtain⟨_,_,_,t,tb,e,a,f,m,n,o,p,q,u,v,_,_,_,_,_,_,_,_,rfl⟩:=h;rfl
 M dk l g h:=by obtain⟨_,_,_,f,_,rfl⟩:=h;rfl
 go:=aj5 ok;f:=ajU ok b;h:=ajX;e:=ajY ok d
end
end Go.Proofs.Y.fu
namespace Go.Proofs.Y.fu
open Go Go.Conc Go.Proofs.Y.Lift
open Go.ConcN (sumTo sumTo_congr)
structure kD(P:ğ)(Y:Nat->Prop)(jj:ν->Prop)(H:Nat)(J:Jd)(T:gu)(lv:Nat->Nat)(lot:Nat->fc)(gs:Array Ý)(w:ß)(t:Κ):Prop where
 C:1<=gs.size
 r:gL P 0 Y (λi=>if i=0 then J else oC P (lv i)) (λi=>if i=0 then T else .fA) (λ_=> .no) lot gs w t
 c:∀i,0<i->i<gs.size->lot i=kz (lot i)
 d:¬(lot 0).q
 M:∀p a,touchAt t p=Â a->a.loc.isMemory=Ó->Knows t 0 p\/(jj a.loc/\a.kind=.atomic)
 S:∀p a x,touchAt t p=Â a->a.loc=ÿ x->t.g? p=Â 0\/x.block<H
 b:∀a:ã,H<=a.block->NoRelease a t
 N:t.HandedOver
abbrev rM(P:ğ):=kD P λ_=>False
structure qS(l l':fc)(w w':ß):Prop where
 r:w.heap.size<=w'.heap.size
 N:∀j,l'.O j->l.O j\/w.heap.size<=j
 c:l'.I=l.I
 S:l'.r=l.r
 b:l'.N=l.N
 k:l'.K=l.K
 jO:∀j,j<w.heap.size->¬l.O j->(∀a:ã,a.block=j->¬l.r a)->w'.heap[j]?=w.heap[j]?
 M:∀a:ã,a.block<w.heap.size->¬l.O a.block->¬l.r a->w'.cell? a=w.cell? a
 Y:∀j,j<w.heap.size->¬l.O j->kR w' j=kR w j
 C:w'.os=w.os
 I:w'.output=w.output
 d:w'.tape=w.tape
def qS.fT(l:fc)(w:ß):qS l l w w:=⟨Û _,λ_ h=>Ã h,U,U,U,U,λ_ _ _ _=>rfl,λ_ _ _ _=>rfl,λ_ _ _=>rfl,U,U,U⟩
def qS.ff{l e i:fc}{w':ß}(h:qS l e w w')(k:qS e i w' u):qS l i w u:=by
 have f:∀j,j<w.heap.size->¬l.O j->¬e.O j:=λj c b q=>(h.N j q).elim b λz=>by omega
 refine⟨Ø h.r k.r,λj q=> ?_,k.c.trans h.c,k.S.trans h.S,k.b.trans h.b,k.k.trans h.k,λj c b d=>((k.jO j (È c h.r) (f j c b)<|by rwa[h.S]).trans<|h.jO j c b d),λa g b d=>((k.M a (È g h.r) (f _ g b)<|by rwa[h.S]).trans<|h.M a g b d),λj c b=>(k.Y j (È c h.r)<|f j c b).trans<|h.Y j c b,k.C.trans h.C,k.I.trans h.I,k.d.trans h.d⟩
 .rcases k.N j q with z|z
  .exact h.N j z
  .exact Ç<|Ø h.r z
def mo.aj7{l a:fc}(h:mo l a w u V):qS l a w u:=⟨h.C,h.S,h.I,h.r,h.M,h.k,h.jO,h.N,λj b c=>h.Y ⟨j,0,Á⟩ b c,h.f,h.g,h.m⟩
def qS.G{l a:fc}(h:qS l a (w.at i) u):qS l a w u:=⟨h.r,h.N,h.c,h.S,h.b,h.k,h.jO,h.M,h.Y,h.C,h.I,h.d⟩
section
variable{Y:Nat->Prop}{jj:ν->Prop}{H:Nat}{J:Jd}{T:gu}{lv:Nat->Nat}{lot:Nat->fc}{gs:Array Ý}{t:Κ}{sl:Option (Nat×Nat)}
def kD.I(c:kD P Y jj H J T lv lot gs w t)(d:Nat):kD P Y jj H J T lv lot gs (w.at d) t:=⟨c.C,c.r.at d,c.c,c.d,c.M,c.S,c.b,c.N⟩
def aj8{l:fc}{e:Μ}(h:yn l e)(a:ã):ó e≠.mark (.release a):=by
 let⟨c,d,g⟩:=e;rcases h with⟨x,b,_⟩|h|⟨f,h⟩|h|h|⟨x,_,h⟩
 .simp only at b;subst b;simp[ó]
 .simp only at h;subst h;simp[ó]
 .simp only at h;subst h;simp[ó]
 .simp only at h;subst h;simp[ó]
 .simp only at h;subst h;simp[ó]
 .simp only at h;rcases h with rfl|rfl|rfl|rfl<;>simp[ó]
def aj9{e:Μ}(h:e.mute=Ó)(a:ã):ó e≠.mark (.release a):=by let⟨b,c,d⟩:=e;cases b<;>simp_all[Event.mute];rename_i m;cases m<;>simp_all[ó]
theorem kD.akb{k:ß->gu}(c:kD P Y jj H J (.jv k) lv lot gs w t)(o:∀l g,J l g->g.status=Ē\/g.status=ű)(r:gs[0]?=Â g): ∃e b d u,runT P (ĵ gs w sl) 0=(.next<|ĵ b d sl,u)/\b.size=gs.size/\qS (lot 0) (e 0) w d/\kD P Y jj H J (k w) lv e b d (t++u):=by
 obtain⟨b,d,G,s,v,f,I,K,j,y⟩:=c.r.fp r U λl g h=>o l g h;refine⟨gq lot 0 s,b,d,_,v,f,by rw[gT];exact j.aj7,by rw[f];exact c.C,?_,λi z B=> ?_,?_,λp a u C=> ?_,λp a x u D=> ?_,λa u=>(c.b a u).app λh m=> ?_,Ū c.N λh m=>Ã<|n5 h m⟩
 .have e:fw (λi=>if i=0 then(.jv k:gu)else .fA) 0 (k w)=λi=>if i=0 then k w else .fA:=by
   funext i;unfold fw;grind
  rwa[<-e]
 .rw[gH lot _ Z];exact c.c i z<|by rwa[<-f]
 .rw[gT,j.q];exact c.d
 .rcases mL u with⟨_,e⟩|⟨_,h,e,E,n⟩
  .exact(c.M p a e C).imp (·.app _) id
  .have:=knows_own n;rw[n5 h e]at this;exact Ã this
 .rcases mL u with⟨F,e⟩|⟨_,h,e,E,n⟩
  .rw[g?_old F];exact c.S p a x e D
  .apply Ã;unfold Trace.g?;rw[n];simp[n5 h e]
 .obtain⟨e,n,rfl⟩:=ē m;exact aj8 (j.c e n) a
theorem kD.Zy(c:kD P Y jj H J T lv lot gs w t)(s:gs[i]?=Â g)(b:i≠0)(B:g.status=Ē): ∃a e f u,runT P (ĵ gs w sl) i=(.next<|ĵ f w sl,u)/\f.size=gs.size/\sumTo gs.size a+1=sumTo gs.size lv/\e 0=lot 0/\kD P Y jj H J T a e f w (t++u):=by
 have v:=(æ.1 s).1;obtain⟨f,y,h,M,C,q,N,z,D⟩:=c.r.Pz (n:=lv i) s b B U (by simp[b]) (by simp[b]);have E:∀u∈MemOp.ofEvents i g.frame.fn g.frame.place y,u.act.touch?=Á:=λu k=>by obtain⟨e,r,rfl⟩:=ē k;exact touch_mute<|z e r
 refine⟨fw lv i h,gq lot i {lot i with d:=ď (lot i).d y,w:=w},f,_,C,q,?_,gH lot _<|Ne.symm b,by rw[q];exact c.C,?_,λj o F=> ?_,?_,λp a l G=> ?_,λp a x l I=> ?_,λa l=>(c.b a l).app λu k=> ?_,Ū c.N λu k=>Ç<|E u k⟩
 .have:=wN (f':=fw lv i h) v λj o=>fH lv h o;rw[gC]at this;omega
 .have m:fw (λi=>if i=0 then J else oC P (lv i)) i (oC P h)=λj=>if j=0 then J else oC P (fw lv i h j):=by
   funext j;unfold fw;grind
  rwa[<-m]
 .by_cases e:j=i
  .subst e;rw[gT];have:=c.c j o v;rw[this];rfl
  .rw[gH lot _ e];exact c.c j o<|by rwa[<-q]
 .rw[gH lot _<|Ne.symm b];exact c.d
 .rcases mL l with⟨_,m⟩|⟨_,u,m,K,_⟩
  .exact(c.M p a m G).imp (·.app _) id
  .grind
 .rcases mL l with⟨L,m⟩|⟨_,u,m,K,_⟩
  .rw[g?_old L];exact c.S p a x m I
  .grind
 .obtain⟨e,r,rfl⟩:=ē k;exact aj9 (z e r) a
def kD.Lr(c:kD P Y jj H J T lv lot gs w t):∀g∈gs,awake g:=by
 intro g e;obtain⟨i,f,rfl⟩:=Array.mem_iff_getElem.1 e;let⟨g0,_,b,a,_⟩:=c.r.C i _<|í f;intro τ d;generalize gs[i]=g at b d;cases b with
 |gk=>rcases a with a|a<;>rw[d]at a<;>cases a
def kD.G(K:∀l g,J l g->g.status=Ē\/g.status=ű):∀(T:gu) (s:Nat) (lv:Nat->Nat) (lot:Nat->fc) (gs:Array Ý) (w:ß) (sl:Option (Nat×Nat)) (t:Κ),sumTo gs.size lv=s->kD P Y jj H J T lv lot gs w t-> ∃N h b a f e c,Ε P N (ĵ gs w sl) t=(.next<|ĵ a f e,c)/\a.size=gs.size/\qS (lot 0) (b 0) w f/\kD P Y jj H J .fA h b a f c:=by
 intro T
 induction W6.apply T with
 |intro T _ L=>
  intro s
  induction s using Nat.strongRecOn with
  |_ s M=>
   intro lv lot gs w sl t V c;cases C:T with
   |fA=>
    subst C;exact⟨0,lv,lot,gs,w,sl,t,U,U,qS.fT _ _,c⟩
   |jv k=>
    subst C;have W:=c.C;obtain⟨g0,D⟩:∃g,gs[0]?=Â g:=⟨_,í Z⟩;have O:g0.status=Ē:=by
     let⟨S,d,i,_,_⟩:=c.r.C 0 g0 D;cases i with
     |gk=>exact af3 d
    let⟨i,g,d,e,E,Q,F⟩:=crowd_pick (P:=P) (w:=w) (sl:=sl) c.Lr ⟨0,g0,D,O⟩;by_cases G:i=0
    .subst G;let⟨b,a,f,u,n,j,S,I⟩:=(c.I d).akb (sl:=e) K E;let⟨N,o,p,q,r,v,x,y,z,m,B⟩:=L (k<|w.at d) ⟨_,U⟩ _ lv b a f e (t++u) U I;exact⟨N+1,o,p,q,r,v,x,by simp only[Ε,F,n];exact y,z.trans j,S.G.ff m,B⟩
    .let⟨h,b,a,u,n,j,I,f,S⟩:=(c.I d).Zy (sl:=e) E G Q;let⟨N,o,p,q,r,v,x,y,z,m,B⟩:=M (sumTo a.size h) (by rw[j];omega) h b a (w.at d) e (t++u) U S;exact⟨N+1,o,p,q,r,v,x,by simp only[Ε,F,n];exact y,z.trans j,by rw[f]at m;exact m.G,B⟩
end
section
variable{F:Ph}{E:fS F}{S:Nat->Jd}{tr:Nat->gu}{o:Nat->iw}{f:Nat->fc}{gs:Array Ý}
def PI.jo(p:PI F i zX E S tr o f gs w qJ)(c:E.M=.gd):E.r=F.n+1/\∀x,x<F.n+1->∃N,E.N x=Â (.jo N):=by
 refine⟨(by unfold fS.r;rw[c];rfl),λx g=> ?_⟩;have a:=Qy (p.C.B<|Ç<|Ç c) x g;have j:x<E.M.ad F.n:=by rwa[c]
 unfold fS.G at a;rw[if_pos j]at a;have l:E.M.gE=0:=by rw[c];rfl
 cases d:E.N x with
 |none=>rw[d]at a;simp[lX]at a
 |some e=>
  rw[d]at a;simp only[lX]at a;cases e with
  |oD=>simp[ig.kL]at a
  |jo N=>exact⟨N,U⟩
  |gd q=>
   let⟨h,k⟩:=p.C.N x q d;cases q with
   |jD=>simp[ig.kL,jF.kL]at a
   |iE=>simp[ig.kL,jF.kL]at a
   |gy W=>
    let⟨_,b⟩:=h W<|Ã U;have r:=p.M.C.r;rw[b]at r;have:=(p.C.g W b).2.1;simp only[GS.ok]at r;omega
   |ja W=>
    let⟨_,b⟩:=h W<|Ç U;have r:=p.M.C.r;rw[b]at r;have:=(p.C.g W b).2.1;simp only[GS.ok]at r;omega
   |iy r=>
    let⟨W,_,s,b⟩:=k r U;have:=(p.C.u r s b).2.1;omega
def xm(l:fc):fc:={l with O:=λ_=>False,I:=λ_=>False,r:=λ_=>False,N:=λ_=>False,K:=λ_=>False,q:=True}
def ve(f:Nat->fc)(l:fc):Nat->fc:=λi=>if i=0 then l else xm (f i)
def Sc(f:Nat->fc)(l:fc):ve f l 0=l:=rfl
def vD(f:Nat->fc)(l:fc)(h:i≠0):ve f l i=xm (f i):=if_neg h
def IJ{l:fc}(h:i≠0):¬(ve f l i).M b:=by rw[vD f l h];exact λq=>q.elim id id
def IK{l:fc}(h:i≠0):¬(ve f l i).C a:=by rw[vD f l h];exact λq=>q.elim id id
def iP.Y{Y I:Nat->Prop}(C:iP n I Y f w qJ)(u:I 0){l:fc}(v:n<=m)(x:∀b,l.O b->¬l.I b)(y:∀a,l.r a->¬l.N a)(B:∀b,l.M b->¬X b)(D:∀a,l.C a->X a.block)(E:∀b,l.M b->b<w.heap.size)(F:∀b,X b->b<w.heap.size)(G:fI l l.w w)(H:Pt qJ 0 l)(J:l.d=(f 0).d)(t:∀a,l.K a->X a.block/\¬l.r a):iP m I X (ve f l) w qJ:=by
 refine⟨λi j g L s b o=> ?_,λi j g L s a e=> ?_,λi g b o=> ?_,λi g a e=> ?_,λi g b o=> ?_,λi g a e=> ?_,λi g b o=> ?_,F,λi g=> ?_,λi g=> ?_,λi g=> ?_,C.l,C.q,λp a c N r P=>È (C.s p a c N r P) v,λi g a e=> ?_⟩
 .by_cases h:j=0
  .subst h;exact absurd (Ã o)<|IJ s
  .exact IJ h
 .by_cases h:j=0
  .subst h;exact absurd (Ã e)<|IK s
  .exact IK h
 .by_cases h:i=0
  .subst h;exact x b o
  .exact absurd (Ã o)<|IJ h
 .by_cases h:i=0
  .subst h;exact y a e
  .exact absurd (Ã e)<|IK h
 .by_cases h:i=0
  .subst h;exact B b o
  .exact absurd o<|IJ h
 .by_cases h:i=0
  .subst h;exact D a e
  .exact absurd e<|IK h
 .by_cases h:i=0
  .subst h;exact E b o
  .exact absurd o<|IJ h
 .by_cases h:i=0
  .subst h;exact G
  .rw[vD f l h];exact⟨(C.r i g).r,λj q=>q.elim (λz=>z.elim) λz=>z.elim,λa q=>q.elim (λz=>z.elim) λz=>z.elim,λa q=>q.elim (λz=>z.elim) λz=>z.elim,λa q=>q.elim⟩
 .by_cases h:i=0
  .subst h;exact H
  .rw[vD f l h];exact⟨λa e=>e.elim,λa e=>e.elim,λa e=>e.elim,λa e=>e.elim⟩
 .by_cases h:i=0
  .subst h;rw[Sc,J];exact C.f 0 u
  .rw[vD f l h];exact C.f i g
 .by_cases h:i=0
  .subst h;refine⟨(t a e).1,λk z q=> ?_⟩;by_cases r:k=0
   .subst r;exact(t a e).2 q
   .exact absurd (Ã q)<|IK r
  .rw[vD f l h]at e;exact e.elim
theorem PI.akc(p:PI F i zX E S tr o f gs w qJ)(m:E.M=.gd)(r:Lm F zX qJ)(y:F.S=0)(M:1<=F.L): ∃z:Nat->Nat,kD F.P E.Y (λk=>zX k\/∃x:ã,k=ÿ x/\x.block=F.C) w.heap.size (F.j E.I) (tr 0) z (ve f<|f 0) gs w qJ:=by
 let⟨B,s⟩:=p.jo m;have O:gs.size=F.L+(F.n+1):=by rw[p.b,B]
 have C:=p.I.r;have c:0<gs.size:=Z
 refine⟨λb=>if h:F.L<=b/\b<F.L+(F.n+1)then Classical.choose (s (b-F.L) Z)else E.h b,Z,⟨?_,λb x t=> ?_,p.I.I⟩,λb Q _=> ?_,p.a.M 0<|Ã U,λq a d D=> ?_,λq a x d G=>Ç<|W4 C.q d G,λa d q u=> ?_,r.2⟩
 .rw[y]at C;exact C.Y c (Û _) (C.m 0 c) (C.g 0 c) (C.I 0 c) (C.e 0 c) (C.fx 0 c) C.N (C.r 0 c) (C.S 0 c) U λa d=>⟨(C.n 0 c a d).1,(C.n 0 c a d).2 0 c⟩
 .let⟨k,j,l,v,H⟩:=p.I.C b x t;by_cases h:b=0
  .subst h;rw[p.h.1,m]at j;rw[p.h.2,m]at l;exact⟨k,j,l,v,H⟩
  .have T:=(æ.1 t).1;simp only[h,if_false];rw[vD f _ h];have I:∀N,S b=oC F.P N->tr b=.fA->o b=.no->∃k,kX F.P (b==0) (oC F.P N) .fA (xm<|f b) k/\wI k .no x/\(k.status=Ē\/k.status=ű)/\(x=k\/True):=λN z e g=>by
    rw[z,e]at j;rw[g]at l;exact⟨k,λJ _=>j _<|fI.fT _ _,l,v,Ç trivial⟩
   by_cases J:b<F.L
   .let⟨z,e,g⟩:=p.l b Z J;grind
   .have K:F.L<=b/\b<F.L+(F.n+1):=Z
    simp only[K,dif_pos,and_self];let⟨z,e,g⟩:=p.k (b-F.L) _ Z<|Classical.choose_spec<|s (b-F.L) Z;rw[show F.L+(b-F.L)=b by omega]at z e g;exact I _ z (g ⟨_,U⟩) e
 .rw[vD f _ Z];rfl
 .rcases r.1 q a d D with z|⟨z,k⟩;all_goals grind
 .unfold Trace.act? at u;let⟨k,z,g⟩:=ĩ.1 u;have:=C.q k<|Array.mem_of_getElem? z;rw[g]at this;have e:a.block<w.heap.size:=this;omega
theorem kD.Y{Y:Nat->Prop}{J:Jd}{s:gu}(c:kD P Y zX n J s D f gs w qJ)(t:(f 0).d=0)(o:gs[0]?=Â g)(u:g.status=Ē){p:Jd}{T:gu}{l:fc}(v:l.w=w)(y:l.d=0)(B:¬l.q)(k:∀b,¬l.I b)(r:∀a,¬l.r a)(m:∀a,¬l.N a)(C:∀a,¬l.K a)(E:∀b,l.O b->b<w.heap.size/\∀x:ã,x.block=b->¬zX (ÿ x))(F:kX P Ó p T l g): rM P zX n p T D (ve f l) gs w qJ:=by
 refine⟨c.C,⟨?_,λi x j=> ?_,c.r.I⟩,λi o _=> ?_,B,c.M,c.S,c.b,c.N⟩
 .refine(c.r.r).Y c.C (Û _) (λb _=>k b) (λa _=>m a) (λ_ _=>id) (λa e=>e.elim (λq=>absurd q<|r a) λq=>absurd q<|m a) (λb z=>z.elim (λq=>(E b q).1) λq=>absurd q<|k b) (λ_ h=>h.elim) (by rw[v];exact fI.fT _ _) ⟨λa e G x j I=> ?_,λa e=>(k _ e).elim,λa e=>(r a e).elim,λa e=>(m a e).elim⟩ (by rw[y,t]) λa e=>absurd e<|C a;rcases c.M G x j (by rw[I];rfl)with z|⟨z,_⟩;all_goals grind
 .by_cases h:i=0
  .subst h;rw[o]at j;obtain rfl:=Ô j;exact⟨g,F,.gk,Ã u,Ã U⟩
  .let⟨g0,e,G,I,z⟩:=c.r.C i x j;simp only[h,if_false]at e z|-;rw[vD f _ h];exact⟨g0,λL _=>e _<|fI.fT _ _,G,I,z⟩
 .rw[vD f _ Z];rfl
end
section
variable{F:Ph}{H:Nat}{J:Jd}{f:Nat->fc}{gs:Array Ý}
structure Sd(F:Ph)(H:Nat)(l0 l:fc)(w:ß):Prop where
 fp:∀b,l.O b->l0.O b/\¬(F.M b\/b=F.Y)
 r:∀b,l.I b->l0.O b/\¬(F.M b\/b=F.Y)/\¬l.O b
 C:∀a,l.r a↔∃x,x<=F.n/\lR F x a
 I:∀a,l.N a↔a=jf F.toFx 0
 k:∀a,l.K a->F.G a
 M:∀b,F.M b\/b=F.Y->l0.O b
 N:∀b,F.M b->H<=b
 g:l.w=w
 d:l.d=0
 q:¬l.q
 S:∀b,F.i b->l.I b
 Y:hD w F.C (.cl 1 0)
 c:hD w (F.I 0) (.cl 0 0)
 e:∀k,1<=k->k<=F.m->hD w (F.I k) (.cl 1 0)
 f:F.d 0 F.l F.i w
def ma(F:Ph)(D:Nat->Nat)(a:Nat->Nat):fS F where
 M:=.go 0
 S:=.kK 0
 C:=λ_=> .nj 0
 N:=λ_=>Á
 I:=a
 c:=λ_=>F.l
 V:=λk=>if k=0 then F.i else λ_=>False
 e:=λ_=>0
 d:=λ_=>Á
 f:=λ_=>0
 b:=.cl 1 0
 a:=λk=>if k=0 then .cl 0 0 else .cl 1 0
 g:=Á
 h:=D
theorem Mk(ok:F.Ok)(h:lR F i a):(∃k,1<=k/\k<=F.m/\a=jf F.toFx k)\/∃p,p≠F.f/\a=jk F p:=by
 unfold lR at h;split at h
 .obtain⟨k,c,d,b|b⟩:=h
  .grind
  .exact Ç ⟨_,ok.Y.1 k c d,b⟩
 .let⟨k,c,_,b⟩:=h;exact Ç ⟨_,ok.Y.2 _ (by assumption),b⟩
def Zz(ok:F.Ok)(h:lR F i (jf F.toFx 0)):False:=by
 rcases Mk ok h with⟨k,c,b,a⟩|⟨p,_,a⟩
 .have:F.I 0=F.I k:=by injection a
  have:=ok.S 0 k Z b this;omega
 .have:F.I 0=F.Y:=by injection a
  exact ok.C<|by rw[<-this];exact Ç ⟨0,Z,U⟩
theorem rM.akd(X:gR F)(c:rM F.P zX H J .fA D f gs w qJ)(hL:F.L=gs.size)(hB:F.S=0)(E:gs[0]?=Â g){l:fc}(st:Sd F H (f 0) l w)(oG:(f 0).d=0)(u:Nat->Nat)(hgo:F.g 0 u l g): PI F qJ.size zX (ma F D u) (λi=>if i=0 then F.g 0 u else oC F.P (D i)) (λ_=> .fA) (λ_=> .no) (λi=>if i=0 then l else xm (f i)) gs w qJ:=by
 have S:=X.C;have C:=c.r.r;have jr:=c.C;have T:0<gs.size:=Z
 have y:(ma F D u).r=0:=U;have hY:∀b,(ma F D u).Y b↔(F.M b\/b=F.Y):=λb=>by
  constructor
  .rintro(q|q|⟨j,B,_⟩);all_goals grind
  .rintro(q|q)
   .exact Ã q
   .exact Ç<|Ã q
 have ZA:∀a,l.C a->F.M a.block\/a.block=F.Y:=λa o=>by
  rcases o with q|q
  .let⟨x,_,G⟩:=(st.C a).1 q;rcases Mk S G with⟨k,B,t,rfl⟩|⟨p,_,rfl⟩
   .exact Ã<|Ç ⟨k,t,U⟩
   .exact Ç U
  .rw[(st.I a).1 q];exact Ã<|Ç ⟨0,Z,U⟩
 have nC:∀i,i≠0->∀a,¬((λi=>if i=0 then l else xm (f i)) i).C a:=λi h a q=>by simp only[h,if_false]at q;exact q.elim id id
 have nM:∀i,i≠0->∀b,¬((λi=>if i=0 then l else xm (f i)) i).M b:=λi h b q=>by simp only[h,if_false]at q;exact q.elim id id
 have hM0:∀b,l.M b->(f 0).O b/\¬(F.M b\/b=F.Y):=λb q=>q.elim (st.fp b) λz=>⟨(st.r b z).1,(st.r b z).2.1⟩;have QA:iP F.S (λi=>i<gs.size) (ma F D u).Y (λi=>if i=0 then l else xm (f i)) w qJ:=by
  refine⟨λi j E hj N b v=> ?_,λi j E hj N a o=> ?_,λi E b v=> ?_,λi E a o=> ?_,λi E b v=> ?_,λi E a o=> ?_,λi E b v=> ?_,λb v=>C.fx 0 T b<|Ã<|st.M b<|(hY b).1 v,λi E=> ?_,λi E=> ?_,λi E=> ?_,C.l,C.q,λq a e B t I=> ?_,λi E a o=> ?_⟩
  .by_cases h:j=0
   .subst h;simp only[N,if_false]at v;exact v.elim
   .exact nM j h b
  .by_cases h:j=0
   .subst h;simp only[N,if_false]at o;exact o.elim
   .exact nC j h a
  .by_cases h:i=0
   .subst h;simp only[if_true]at v|-;exact λq=>(st.r b q).2.2 v
   .simp only[h,if_false]at v;exact v.elim
  .by_cases h:i=0
   .subst h;simp only[if_true]at o|-;intro q;rw[(st.I a).1 q]at o;let⟨x,_,G⟩:=(st.C _).1 o;exact Zz S G
   .simp only[h,if_false]at o;exact o.elim
  .by_cases h:i=0;all_goals simp_all
  .by_cases h:i=0;all_goals simp_all
  .by_cases h:i=0
   .subst h;simp only[if_true]at v;exact C.fx 0 T b<|Ã (hM0 b v).1
   .simp_all
  .by_cases h:i=0
   .subst h;simp only[if_true];rw[st.g];exact fI.fT _ _
   .simp only[h,if_false];exact⟨(C.r i E).r,λj q=>q.elim (λz=>z.elim) λz=>z.elim,λa q=>q.elim (λz=>z.elim) λz=>z.elim,λa q=>q.elim (λz=>z.elim) λz=>z.elim,λa q=>q.elim⟩
  .by_cases h:i=0
   .subst h;simp only[if_true];have s:=(C.S 0 T).fp;exact⟨λa o=>s a (st.fp _ o).1,λa o=>(s a (st.r _ o).1).r,λa o=>s a<|st.M _<|ZA a<|Ã o,λa o=>(s a<|st.M _<|ZA a<|Ç o).r⟩
   .simp only[h,if_false];exact⟨λa o=>o.elim,λa o=>o.elim,λa o=>o.elim,λa o=>o.elim⟩
  .by_cases h:i=0
   .subst h;simp only[if_true];rw[C.f 0 T,oG,st.d]
   .simp only[h,if_false];exact C.f i E
  .have:=C.s q a e B t I;omega
  .by_cases h:i=0
   .subst h;simp only[if_true]at o;let⟨b,v,s⟩:=st.k a o;have Q:a.block=b:=by rcases s with rfl|rfl<;>rfl
    refine⟨by rw[hY,Q];exact Ã v,λk K q=> ?_⟩;by_cases t:k=0
    .subst t;simp only[if_true]at q;let⟨x,_,G⟩:=(st.C a).1 q;rcases Mk S G with⟨k',_,_,I⟩|⟨p',_,I⟩
     .rcases s with W|W<;>rw[W]at I<;>simp[fL,gQ,jf]at I
     .have:a.block=F.Y:=by rw[I];rfl
      exact S.C<|by rwa[<-this,Q]
    .simp only[t,if_false]at q;exact q
   .simp only[h,if_false]at o;exact o.elim
 have ZB:gL F.P F.S (ma F D u).Y (λi=>if i=0 then F.g 0 u else oC F.P (D i)) (λ_=> .fA) (λ_=> .no) (λi=>if i=0 then l else xm (f i)) gs w qJ:=by
  refine⟨QA,λi x G=> ?_,c.r.I⟩;by_cases h:i=0
  .subst h;rw[E]at G;obtain rfl:=Ô G;simp only[if_true];exact⟨g,λs r=>X.Hf 0 u l g s hgo r,.gk,Ã<|X.I 0 u l g hgo,Ã U⟩
  .let⟨g0,Q,q2,N,q4⟩:=c.r.C i x G;simp only[h,if_false]at Q|-;exact⟨g0,λs _=>Q _<|fI.fT _ _,q2,N,Ç trivial⟩
 have ake:iF F (ma F D u) (λi=>if i=0 then l else xm (f i)) gs.size w:=by
  refine⟨λi E a o=> ?_,λx _ t a o=> ?_,λ_=> ?_,λh=>absurd h (by rw[y];omega),λh=>absurd h (by rw[y];omega),λj h=>absurd h (by rw[y];omega),λj h=>absurd h (by rw[y];omega),λx ⟨e,B,_⟩=>(by cases B),λi h=> ?_,λi B t=> ?_,λk K b v=> ?_,λk K i E q=> ?_,λk B t=> ?_,λj h=>absurd h<|by rw[y];omega⟩
  .by_cases h:i=0
   .subst h;simp only[if_true]at o;rcases o with q|q
    .let⟨x,_,G⟩:=(st.C a).1 q;rcases Mk S G with⟨k,_,t,I⟩|I;all_goals grind
    .exact Ã ⟨0,Z,(st.I a).1 q⟩
   .simp_all
  .simp only[if_true];exact(st.C a).2 ⟨x,t,o⟩
  .simp only[if_true];exact⟨(st.I _).2 U,st.S⟩
  .rcases h with rfl|⟨x,G,_⟩
   .simp only[if_true];exact st.q
   .grind
  .have:i≠0:=Z
   simp only[this,if_false];rfl
  .have Q:k=0:=by have:k<=0:=K;omega
   subst Q;have B:=st.S b v;refine⟨C.fx 0 T b<|Ã (st.r b B).1,by rw[hY];exact(st.r b B).2.1,λi E q=> ?_⟩;by_cases h:i=0
   .subst h;simp only[if_true]at q;exact(st.r b B).2.2 q
   .simp only[h,if_false]at q;exact q
  .have Q:k=0:=by have:k<=0:=K;omega
   subst Q;by_cases h:i=0
   .subst h;simp only[if_true]at q;let⟨x,_,G⟩:=(st.C _).1 q;exact Zz S G
   .simp only[h,if_false]at q;exact q
  .have:k<=0:=t;omega
 have gg:∀k,k<=F.m->hD w (F.I k) ((ma F D u).a k):=λk K=>by
  by_cases h:k=0
  .subst h;exact st.c
  .have:(ma F D u).a k=.cl 1 0:=by simp[ma,h]
   rw[this];exact st.e k Z K
 have wdd:Wd F (ma F D u) w:=by
  refine⟨st.Y,gg,λj h=>absurd h (by rw[y];omega),λk K=> ?_,λk B t=> ?_,λj h=>absurd h<|by rw[y];omega⟩
  .have Q:k=0:=by have:k<=0:=K;omega
   subst Q;exact⟨.vd,st.f⟩
  .have:k<=0:=t;omega
 have ZC:∀k,(sumTo F.n λj=>((ma F D u).C j).gE F j k)=0:=λk=>by
  have:∀n,(sumTo n λ_=>0)=0:=λn=>by
   induction n with
   |zero=>rfl
   |succ n s=>simp[sumTo,s]
  exact this F.n
 have akf:sumTo (F.n+1) (ma F D u).G=1:=by
  have B:=wN (f':=(ma F D u).G) (j:=0) (n:=F.n+1) Z (λi E=>by
   have:¬i<1:=Z
   show(if i<1 then _ else _)=0;rw[if_neg this])
  have t:∀n,(sumTo n λ_=>0)=0:=λn=>by
   induction n with
   |zero=>rfl
   |succ n s=>simp[sumTo,s]
  rw[t]at B;have I:(ma F D u).G 0=1:=U;omega
 have pss:Ps F (ma F D u):=by
  refine⟨U,λj h=> ?_,λj h=> ?_,λr=>⟨λh=>(by cases h),λh=>(by cases h)⟩,λ_=>rfl,λk=>⟨λh=> ?_,λh=>(by cases h),λp h=>by cases h⟩,λ_ _=>rfl,λj r h=>absurd h (by rw[y];omega),λj h=>absurd h (by rw[y];omega),λh=>absurd U h,λ_ _=>rfl,λj j' h=>absurd h (by rw[y];omega),λj h=>absurd h (by rw[y];omega),λc reg h=> ?_,λreg h=>(by cases h),λr s h=>(by cases h),λx p h=>(by cases h),λh=> ?_,λk B t I=> ?_,λk B t=> ?_,λj r h=>absurd h (by rw[y];omega),λj r h=>absurd h (by rw[y];omega),λh=>(by cases h),λ_ _=>⟨1,rfl⟩,λ_ _ _=>rfl,λj r h=>absurd h<|by rw[y];omega⟩
  .rcases h with h|h|h|h<;>cases h;omega
  .rcases h with h|h|h<;>cases h
  .cases h;omega
  .cases h;exact⟨akf.symm,U⟩
  .rcases h with h|h|h<;>cases h
  .rw[ZC];have:k≠0:=Z
   simp[ma,this]
  .have Q:k=0:=by have:k<=0:=t;omega
   subst Q;exact Ç<|Ç ⟨λp h=>(by cases h),Ã ⟨rfl,ZC 0⟩⟩
 have s:TI F.toFx qJ.size zX (ma F D u).r (ma F D u).S.rl (ma F D u).V (ma F D u).e (ma F D u).d (ma F D u).iq (ma F D u).f qJ:=by
  refine⟨Û _,λp a x o Q hc=> ?_,λx h=>absurd h (by rw[y];omega),λk B t=> ?_,λk B t=> ?_,λb v=>c.b _<|st.N b v,λx h=>absurd h (by rw[y];omega),λp a B t=> ?_,λp a _ t I=>c.M p a t I,λp g _ t I W=>c.N p g t I W⟩
  .let⟨b,v,G⟩:=hc;have Qx:x.block=b:=by rcases G with rfl|rfl<;>rfl
   rcases c.S p a x o Q with q|q
   .exact Ã ⟨PX o,q⟩
   .have:=st.N b v;omega
  .have:k<=0:=t;omega
  .have:k<=0:=t;omega
  .have:=PX t;omega
 refine⟨by rw[y,hL];rfl,ZB,⟨by simp only[if_true];rfl,U⟩,λh=>absurd h (by rw[y];omega),λj h=>absurd h (by rw[y];omega),λx e h=>absurd h (by rw[y];omega),λi B t=>⟨?_,U,U⟩,ake,wdd,pss,s,λi x G v=> ?_,λj r h=>absurd h<|by rw[y];omega⟩
 .have:i≠0:=Z
  simp only[this,if_false];rfl
 .let⟨g0,_,q2,N,_⟩:=ZB.C i x G;cases q2 with
  |gk=>rcases N with N|N<;>rw[v]at N<;>cases N
end
end Go.Proofs.Y.fu
namespace Go.Proofs.Y.fu
open Go Go.Conc Go.Proofs.Y.Lift Go.RowKit Go.Conc.Lib Go.ConcR.Gen
open Go.Proofs Go.Proofs.YtgpphkdoanciiaaGreatDoor
section
variable{kd:Nat->Int}{R:Nat}
theorem IL(h:i∈gW kd R):i<R/\kd i=1:=by have:=ą.1 h;grind
theorem IN(h:i∈jy kd R):i<R/\kd i≠1:=by have:=ą.1 h;grind
def akg:(gW kd R).Nodup:=Œ.filter _
def akh:(jy kd R).Nodup:=Œ.filter _
def CW(h:k<jJ.length):jJ[k]?=Â (jJ.getD k 0):=by simp[List.getD,h]
def vE{l:List Nat}(h:k<l.length):l.getD k 0∈l:=į<|CW h
def ZD(c:jJ.Nodup)(a:i<jJ.length)(d:j<jJ.length)(h:jJ.getD i 0=jJ.getD j 0):i=j:=by have b:=CW a;rw[h]at b;exact(List.getElem?_inj a c).1<|b.trans (CW d).symm
def ZE:∀R,(gW kd R).length+(jy kd R).length=R
 |0=>rfl
 |R+1=>by
  have:=ZE R;by_cases h:kd R=1
  .rw[sX h,RF h];simp;omega
  .rw[vz h,RG h];simp;omega
end
structure xn where
 γ:Type
 C:γ
 M:Nat->γ->γ->Prop
 RD:γ->Ð->(Nat->Prop)->ß->Prop
 I:Nat->ByteArray
 r:Nat->Prop
def Ml(M:xn)(L n R:Nat)(kd:Nat->Int)(a g:Nat->Nat)(b c:Option ã)(d e f h j l:Nat)(o:List é)(p:Nat->Prop)(RC eZ:ß->Prop):SD where
 L:=L
 f:=0
 n:=n
 m:=fJ kd R
 q:=(jy kd R).length
 N:=R
 I:=l
 C:=g
 an:=f
 S:=h
 p:=j
 t:=b
 s:=d
 k:=c
 j:=e
 l:=λk=>Â ⟨a<|(gW kd R).getD (k-1) 0,0,Á⟩
 Y:=λk=>(gW kd R).getD (k-1) 0
 h:=λi=>Â ⟨a<|(jy kd R).getD i 0,0,Á⟩
 b:=λi=>(jy kd R).getD i 0
 a:=λi=>if i<(jy kd R).length then fJ kd ((jy kd R).getD i 0)else 0
 e:=o
 c:=p
 RC:=RC
 o:=eZ
 γ:=M.γ
 v:=M.C
 u:=M.r
 g:=M.M
 RD:=M.RD
 d:=λk=>M.I<|(gW kd R).getD (k-1) 0
 i:=λi=>M.I<|(jy kd R).getD i 0
section
variable{M:xn}{L R:Nat}{kd:Nat->Int}{a:Nat->Nat}{c:Option ã}{cs:List é}{RB:Nat->Prop}{RC eZ:ß->Prop}{l d f:fc}
def aki(h:Ma kd a D R (Æ O (fJ kd R) j7) (Æ c (jy kd R).length j6) v j b J i j9 m l d f)(F:∀w p,RC w->(∀g,RB g->p.heap[g]?=w.heap[g]?)->RC p)(G:∀w p,eZ w->(p.os=w.os/\p.output=w.output)->eZ p)(H:∀s B V w p,M.RD s B V w->(∀g,V g->p.heap[g]?=w.heap[g]?)->M.RD s B V p)(I:1<=n)(K:1<=L)(X:n+R<1000):(Ml M L n R kd a D O c j7 j6 j b J i cs RB RC eZ).Ok:=by
 have Y:=ZE (kd:=kd) R;have hc:(gW kd R).length=fJ kd R:=U;let⟨a1,a2,a3⟩:=h.M;let⟨a4,a5,a6⟩:=h.S;have z:∀k,k<=fJ kd R->d.w.heap.size<=D k/\D k<J:=λk r=>⟨(h.r.M k r).1,h.N k r⟩;have RZ:=Ø (z 0 Z).1<|Ō (z 0 Z).2;refine⟨F,G,H,I,K,?_,?_,λo=> ?_,λo t=>(IN<|vE t).1,λk C x=> ?_,λk r e=> ?_,λk u r N e=> ?_,?_,λo i' t P e=>ZD akh t P e,λk u C x h3 Q e=> ?_,λo k t C x e=> ?_,λg _=>Ĉ g⟩
 .show n+(jy kd R).length+fJ kd R<1000;omega
 .show R<1000;omega
 .show(if o<(jy kd R).length then fJ kd ((jy kd R).getD o 0)else 0)<=fJ kd R;split
  .rename_i t;exact Zc<|Ō (IN<|vE t).1
  .omega
 .refine(IL<|vE ?_).1;have:k<=fJ kd R:=x;omega
 .have:=(z k r).2;have y:D k=i:=e;omega
 .have y:D k=D u:=e;have S:=r;have T:=N;rcases Nat.lt_trichotomy k u with q|q|q
  .have:=h.r.S k u q T;omega
  .exact q
  .have:=h.r.S u k q S;omega
 .rintro(e|⟨k,r,e⟩)
  .have y:j=i:=e;omega
  .have y:j=D k:=e;have:=(z k r).1;omega
 .have W:k<=fJ kd R:=x;have h4':u<=fJ kd R:=Q;have:=ZD akg Z Z e;omega
 .have W:k<=fJ kd R:=x;have y:(jy kd R).getD o 0=(gW kd R).getD (k-1) 0:=e;have E:=(IN<|vE t).2;rw[y]at E;exact E<|(IL (kd:=kd) (R:=R)<|vE (k:=k-1) Z).2
end
abbrev kE(M:xn)(L n R:Nat)(kd:Nat->Int)(c g:Nat->Nat)(d e:Option ã)(f h i a j k:Nat)(cs:List é)(l:fc):SD:=Ml M L n R kd c g d e f h i a j k cs (λb=>l.O b\/b=a) (λw=>∀b,l.O b->w.heap[b]?=l.w.heap[b]?) λw=>w.os=l.w.os/\w.output=l.w.output
def Mm(D:SD)(l:fc):fc:={l with O:=λb=>l.O b/\¬(D.M.M b\/b=D.an)/\¬D.c b,I:=D.c,r:=λa=>∃x,x<=D.n/\lR (D.r Ä) x a,N:=λa=>a=jf D.M 0,K:=D.M.G}
section
variable{M:xn}{L:Nat}{f:Nat->Int}{r:Nat->Nat}{u:Option ã}{y:Nat}{cs:List é}{l B o:fc}
def Mn{cs:Array Ð}(h:w.heap[b]?=Â (Ê cs e)):w.frozen? ⟨b,i,Á⟩=Í:=by simp[ð,h]
def Se{cs:Array Ð}(h:w.heap[b]?=Â (Ê cs e))(a:cs[0]?=Â (É ë<|(i:Int)*fX+0))(d:cs[1]?=Â (É ú 0))(f:i<1000000):hD w b (.cl i 0):=by
 refine⟨?_,?_,Mn h,Mn h,(⟨f,Z,λ_=>rfl⟩)⟩
 .simp[Ù,fL,h,a,GS.st]
 .simp[Ù,gQ,h,d,GS.sm]
def akj(h:Ma f r D j (Æ O (fJ f j) j6) (Æ u (jy f j).length y) v k m j9 b j7 J l B o)(s:gw l)(Mp:∀g,¬l.I g)(W:¬l.q)(X:l.d=0)(hH:i<=l.w.heap.size)(hV:∀g,M.r g->l.O g)(qR:M.RD M.C v M.r o.w)(xl:o.w.os=l.w.os/\o.w.output=l.w.output)(hn:1<=n)(hs:n+j<1000){t:Array Ð}(hT:Il m b (D<|fJ f j) n (Æ u (jy f j).length y) t)(dk:Nat->Nat): Sd ((kE M L n j f r D O u j6 y k m j9 b cs l).r Ä) i o (Mm (kE M L n j f r D O u j6 y k m j9 b cs l) o) o.w/\ ((kE M L n j f r D O u j6 y k m j9 b cs l).r Ä).g 0 dk (Mm (kE M L n j f r D O u j6 y k m j9 b cs l) o) (Cv (À<|Â ⟨b,0,Á⟩) jQ (À<|Â ⟨b,0,Á⟩) (ñ #[]) j7 J<|Fa t::cs):=by
 let⟨a1,a2,a3⟩:=h.M;let⟨a4,a5,a6⟩:=h.S;have N:∀C,C<=fJ f j->B.w.heap.size<=D C/\D C<j9:=λC E=>⟨(h.r.M C E).1,h.N C E⟩;have RZ:=Ø (N 0 Z).1<|Ō (N 0 Z).2;have Y:=λg q=>s.fx g<|Ã q;have hc:(gW f j).length=fJ f j:=rfl;have Q:∀g,(kE M L n j f r D O u j6 y k m j9 b cs l).M.M g\/g=k->g=b\/(∃C,C<=fJ f j/\g=D C)\/g=k:=λg q=>by
  rcases q with(q|⟨C,S,q2⟩)|q
  .exact Ã q
  .exact Ç<|Ã ⟨C,S,q2⟩
  .exact Ç<|Ç q
 have H:∀g,(kE M L n j f r D O u j6 y k m j9 b cs l).M.M g\/g=k->l.w.heap.size<=g/\g≠m/\g≠j9/\g≠j7/\g≠J/\(∀C,(Æ O (fJ f j) j6).ownBlock=Â C->g≠C)/\(∀C,(Æ u (jy f j).length y).ownBlock=Â C->g≠C):=λg q=>by
  rcases Q g q with rfl|⟨C,E,rfl⟩|rfl
  .exact⟨Z,Z,Z,Z,Z,λC e=>by have:=h.o3 C e;omega,λC e=>by have:=h.o4 C e;omega⟩
  .have:=N C E;exact⟨Z,Z,Z,Z,Z,λp e z=>(h.r.M C E).2.1<|z▸e,λp e z=>(h.r.M C E).2.2<|z▸e⟩
  .exact⟨Z,Z,Z,Z,Z,λC e=>by have:=(h.r.r C e).2;omega,λC e=>by have:=(h.r.C C e).2;omega⟩
 have akk:∀g,(kE M L n j f r D O u j6 y k m j9 b cs l).M.M g\/g=k->o.O g:=λg q=>by
  rcases Q g q with rfl|⟨C,E,rfl⟩|rfl
  .exact h.Y.fp
  .by_cases x:C=0
   .subst x;exact h.r.N.fp
   .exact(h.r.I C Z E).fp
  .exact h.I.fp
 have K:∀g,o.O g->l.w.heap.size<=g->g≠m->¬((kE M L n j f r D O u j6 y k m j9 b cs l).M.M g\/g=k)->(Mm (kE M L n j f r D O u j6 y k m j9 b cs l) o).O g:=λg S q2 q4 q3=>⟨S,q3,λq=>q.elim (λq=>by have:=Y g q;omega) q4⟩;have ZF:hD o.w b (.cl 1 0):=Se h.Y.I U U Z;have ZG:hD o.w (D 0) (.cl 0 0):=Se h.r.N.I U U Z;have ZH:∀C,1<=C->C<=fJ f j->hD o.w (D C) (.cl 1 0):=λC I P=>Se (h.r.I C I P).I U U Z;have T:∀g c,hD o.w g c->mN g o.w:=λg c q=>⟨by rw[show(⟨g,0,Á⟩:ã)=fL g from rfl,q.C];rfl,by rw[show(⟨g,1,Á⟩:ã)=gQ g from rfl,q.M];rfl⟩;refine⟨⟨λg q=>⟨q.1,q.2.1⟩,λg q=>⟨?_,λz=> ?_,λz=>z.2.2 q⟩,λa=>Iff.rfl,λa=>Iff.rfl,λa q=>q,λg q=>akk g q,λg q=>Ø hH (H g<|Ã q).1,U,h.C.d.trans X,by show¬o.q;rwa[h.C.q],λg q=>Ã<|hV g q,ZF,ZG,ZH,⟨⟨v,h.r.N.C U,qR⟩,λ_=> ?_⟩⟩,?_⟩
 .rcases q with q|q
  .exact h.C.O g q
  .rw[q];exact h.a.fp
 .rcases q with q|q
  .have:=(H g z).1;have:=Y g q;omega
  .exact(H g z).2.1 q
 .refine⟨?_,by unfold kR;rw[show o.w.heap[(kE M L n j f r D O u j6 y k m j9 b cs l).an]?=Â (xh j)from h.I.I],xl⟩;show o.w.cell? ⟨k,j,Á⟩=Á;simp only[Ù,h.I.I,xh,ļ,Ł,if_false];exact Array.getElem?_eq_none<|by rw[ū];exact Û _
 refine⟨h.C.d.trans X,by show¬o.q;rwa[h.C.q],Ĉ _,Ã ⟨U,⟨λg q=>⟨⟨g,q,Ã U⟩,⟨g,q,Ç U⟩⟩,λg q=> ?_,Ç<|Ç U,h.a.C U,(Ã<|K j9 h.c.fp Z Z λz=>(H j9 z).2.2.1 U),h.c.C U,λC E=> ?_,λe hi=> ?_,λa q=> ?_,λg q=>Ç q,λg q=>h.C.r g (Ã q) id⟩,t,j7,J,jQ,hT,⟨(K j7 h.d.fp Z Z λz=>(H j7 z).2.2.2.1 U),h.d.I⟩,⟨(K J h.b.fp Z Z λz=>(H J z).2.2.2.2.1 U),h.b.I⟩,U⟩⟩
 .rcases Q g (Ã q)with rfl|⟨C,E,rfl⟩|rfl
  .exact T _ _ ZF
  .by_cases x:C=0
   .subst x;exact T _ _ ZG
   .exact T _ _<|ZH C Z E
  .exact absurd q λz=>by
    rcases z with z|⟨C,x,F⟩
    .have G:g=b:=z;omega
    .have G:g=D C:=F;have:=(N C x).1;omega
 .have tL:C<fJ f j:=E;rcases h.r.jM.2 with⟨_,e2⟩|⟨g,cap,cur,V,_,hcur,IA⟩
  .omega
  .have yU:O=Â ⟨g,0,Á⟩:=by injection V
   subst yU;have x:=h.r.jM.cells U;have hz:(gW f j).zipIdx[C]?=Â ((gW f j).getD C 0,C):=by rw[List.getElem?_zipIdx,CW Z];simp
   have F:∀c,c<4->(jM f r D j)[C*4+c]?=(tI r D ((gW f j).getD C 0,C))[c]?:=λc q=>RL (λ_=>rfl) q _ C _ hz;have G:∀p,(⟨g,0,Á⟩:ã).add p=⟨g,p,Á⟩:=λp=>by rw[ħ,ĕ]
   refine⟨g,U,Ã (K g (h.r.r g U).1 (Ø Z (h.r.r g U).2) (by have:=(h.r.r g U).2;omega) λz=>(H g z).2.2.2.2.2.1 g U U),?_,?_,?_,?_⟩
   .have:=x (C*4+0) _<|F 0 Z;rwa[G]at this
   .have:=x (C*4+1) _<|F 1 Z;rwa[G]at this
   .have:=x (C*4+2) _<|F 2 Z;rwa[G]at this
   .have:=x (C*4+3) _<|F 3 Z;rwa[G]at this
 .have ln:e<(jy f j).length:=hi;rcases h.r.mC.2 with⟨_,e2⟩|⟨g,cap,cur,V,_,hcur,IA⟩
  .omega
  .have R8:u=Â ⟨g,0,Á⟩:=by injection V
   subst R8;have x:=h.r.mC.cells U;have F:∀c,c<4->(mC f r D j)[e*4+c]?=(tQ f r D<|(jy f j).getD e 0)[c]?:=λc q=>RL (λ_=>rfl) q _ e _<|CW ln;have G:∀p,(⟨g,0,Á⟩:ã).add p=⟨g,p,Á⟩:=λp=>by rw[ħ,ĕ]
   refine⟨g,U,Ã (K g (h.r.C g U).1 (Ø Z (h.r.C g U).2) (by have:=(h.r.C g U).2;omega) λz=>(H g z).2.2.2.2.2.2 g U U),?_,?_,?_,?_⟩
   .have:=x (e*4+0) _<|F 0 Z;rwa[G]at this
   .have:=x (e*4+1) _<|F 1 Z;rwa[G]at this
   .have:=x (e*4+2) _<|F 2 Z;rw[G]at this;show o.w.cell? ⟨g,e*4+2,Á⟩=Â (À<|Â ⟨D (if e<(jy f j).length then fJ f ((jy f j).getD e 0)else 0),0,Á⟩);rw[if_pos ln];exact this
   .have:=x (e*4+3) _<|F 3 Z;rwa[G]at this
 .have V:∀p,p<j->(o.w.cell? ⟨k,p,Á⟩).isSome=Ó/\o.w.frozen? ⟨k,p,Á⟩=Í:=λp hp=>by
   refine⟨?_,Mn h.I.I⟩;have:p<(madeCells (Γ<|á ⟨#[]⟩) j).size:=by rwa[ū]
   simp[Ù,h.I.I,this]
  let⟨x,_,F⟩:=q;unfold lR at F;split at F
  .obtain⟨C,I,P,rfl|rfl⟩:=F
   .have G:=P;refine⟨?_,Mn (h.r.I C I G).I⟩;show(o.w.cell? ⟨D C,2,Á⟩).isSome=Ó;rw[(h.r.I C I G).C U];rfl
   .have G:C<=fJ f j:=P;exact V _ (IL<|vE Z).1
  .obtain⟨e,I,_,rfl⟩:=F;exact V _ (IN<|vE I).1
end
end Go.Proofs.Y.fu
namespace Go.Proofs.Y.fu
open Go Go.Conc Go.Proofs.Y.Lift Go.RowKit Go.Conc.Lib Go.ConcR.Gen
open Go.Proofs Go.Proofs.YtgpphkdoanciiaaGreatDoor
open Go.ConcN (sumTo sumTo_congr)
def Mq(kd:Nat->Int)(f:Nat->Nat)(R n:Nat)(h:Ð)(l:fc)(cs:List é):Jd:=λi j=>
 ∃g k t m b o c p a d e q,Ma kd f g R m b h o c p a d e l k i/\Il c a (g<|fJ kd R) n b t/\j=Cv (À<|Â ⟨a,0,Á⟩) q (À<|Â ⟨a,0,Á⟩) (ñ #[]) d e (Fa t::cs)
theorem ZI(h:w.ownsRow i e j v n l):∃b c,v=Æ b n c:=by rcases h.2 with⟨a,d⟩|⟨b,f,g,a,_⟩;all_goals grind
section
variable{F:Ph}{E:fS F}{S:Nat->Jd}{B:Nat->gu}{G:Nat->iw}{y:Nat->fc}{o:Array Ý}
theorem PI.akl(p:PI F j9 zX E S B G y o w qJ)(c:E.M=.gd)(d:1<=F.n):E.S=.kK F.m/\(∀i,i<F.q->w.cell? (jk F<|F.a i)=Â (á<|F.k i)/\∀k,k<o.size->¬(y k).r (jk F<|F.a i)):=by
 let⟨j,a⟩:=p.jo c;refine⟨p.C.f (by let⟨N,h⟩:=a 0 Z;rw[h];simp),λi k=> ?_⟩;have l:i%F.n<F.n:=ŀ _ d;have e:i%F.n+i/F.n*F.n=i:=by rw[Nat.mul_comm];exact Nat.mod_add_div i F.n
 let⟨N,h⟩:=a (i%F.n+1) Z;let⟨_,r,f,g⟩:=p.C.l (i%F.n) Z (by rw[h];simp);have b:i/F.n<(E.C<|i%F.n).kA:=by rw[f];exact(g (i/F.n)<|by rwa[e])
 have s:=p.M.N (i%F.n) Z (i/F.n) (by rwa[e]) b;have t:=p.a.d (i%F.n) Z (i/F.n) (by rwa[e]) b;grind
end
structure akm(D:SD)(l:fc)(w:ß)(g:Ý):Prop where
 I:∀b,l.O b->w.heap[b]?=l.w.heap[b]?
 cba:w.cell? ⟨D.S,0,Á⟩=Â (Æ (Â ⟨D.an,0,Á⟩) D.N D.N)
 kK:∀k,1<=k->k<=D.m->w.cell? ⟨D.an,D.Y k,Á⟩=Â (á<|D.d k)
 Sf:∀i,i<D.q->w.cell? ⟨D.an,D.b i,Á⟩=Â (á<|D.i i)
 IP:∃s sl V,nk (D.r Ä) D.m s/\w.cell? ⟨D.C D.m,2,Á⟩=Â sl/\D.RD s sl V w/\∀b,V b->b<w.heap.size/\b≠D.I
 fx:D.an<w.heap.size/\D.S<w.heap.size/\D.C D.m<w.heap.size
 r:D.an≠D.I/\D.S≠D.I/\D.C D.m≠D.I
 Sg:∃ts,SE D.S D.I (D.C D.m) ts/\g=Fg ts D.e
 C:w.cell? ⟨D.an,D.N,Á⟩=Á/\kR w D.an=Â (0,0)
 io:w.os=l.w.os/\w.output=l.w.output
section
variable{M:xn}{f:Nat->Int}{u:Nat->Nat}{cs:List é}{l:fc}{I:Nat->Nat}{y:Nat->fc}{o:Array Ý}
theorem akn(c:rM Ä zX j (Mq f u J n v l cs) .fA I y o w qJ)(S:Option (Nat×Nat))(s:gw l)(Mp:∀b,¬l.I b)(hq:¬l.q)(hd:l.d=0)(hH:j<=l.w.heap.size)(hV:∀b,M.r b->l.O b)(qR:∀s S V w G,M.RD s S V w->(∀b,V b->G.heap[b]?=w.heap[b]?)->M.RD s S V G)(CX:M.RD M.C v M.r l.w)(xl:w.os=l.w.os/\w.output=l.w.output)(hn:1<=n)(hs:n+J<1000) (hA:∀g r t B D e m p h,l.w.heap.size<=m->Fh (kE M o.size n J f u g r t B D e m p h cs l)/\Fi (kE M o.size n J f u g r t B D e m p h cs l)): ∃g r t B D e m p h,(l.w.heap.size<=e/\l.w.heap.size<=m/\l.w.heap.size<=h/\∀k,k<=fJ f J->l.w.heap.size<=g k)/\ ∃N Y a H C i G K E z,Ε Ä N (ĵ o w S) qJ=(.next<|ĵ i G K,E)/\i.size=o.size+(n+1)/\i[0]?=Â z/\a<=G.heap.size/\h<a/\j<=a/\(C 0).d=0/\z.status=Ē/\ kD Ä Y (λF=>zX F\/∃x:ã,F=ÿ x/\x.block=h) a (Zq<|kE M o.size n J f u g r t B D e m p h cs l) .fA H C i G E/\akm (kE M o.size n J f u g r t B D e m p h cs l) l G z:=by
 have h0:=c.C;obtain⟨g0,vm⟩:∃g,o[0]?=Â g:=⟨_,í h0⟩;let⟨g1,q1,q2,q3,_⟩:=c.r.C 0 g0 vm;obtain rfl:g0=g1:=by cases q2;rfl
 have hz:=q1 w<|c.r.r.r 0 h0;let⟨g,lp,tt,iv,qv,e,m,p,h,bw,bf,T,F,hT,hg⟩:=hz;obtain⟨r,B,rfl⟩:=ZI F.r.jM;obtain⟨t,D,rfl⟩:=ZI F.r.mC;let⟨a1,a2,a3⟩:=F.M;let⟨a4,a5,a6⟩:=F.S;have Si:∀k,k<=fJ f J->lp.w.heap.size<=g k/\g k<p:=λk W=>⟨(F.r.M k W).1,F.N k W⟩;have auj:=Si 0 Z;have ako:=qR _ _ _ _ _ CX λb q=>F.C.r b (Ã<|hV b q) id;obtain⟨st,hgo⟩:=akj F s Mp hq hd hH hV ako xl hn hs hT λ_=>0;have ok:=aki (L:=o.size) (cs:=cs) (RB:=λb=>l.O b\/b=m) (RC:=λw=>∀b,l.O b->w.heap[b]?=l.w.heap[b]?) F (λw G P X b a=>(X b<|Ã a).trans<|P b a) (eZ:=λw=>w.os=l.w.os/\w.output=l.w.output) (λw G P X=>⟨X.1.trans P.1,X.2.trans P.2⟩) qR hn Z hs;let⟨hAdd,akp⟩:=hA g r t B D e m p h Z;have Hy:=aj6 ok hAdd akp;have CL:=F.C.d.trans hd;have st':Sd ((kE M o.size n J f u g r t B D e m p h cs l).r Ä) j (y 0) (Mm (kE M o.size n J f u g r t B D e m p h cs l) {y 0 with w:=w}) w:=⟨st.fp,st.r,st.C,st.I,st.k,st.M,st.N,st.g,st.d,st.q,st.S,st.Y,st.c,st.e,st.f⟩;rw[<-hg]at hgo;have p0:=c.akd Hy U U vm st' CL (λ_=>0) hgo;let⟨N1,E,S1,tr1,kp1,auk,gs1,w1,ZJ,t1,r1,x,hf,he⟩:=ahX Hy _ _ _ _ _ _ _ o w S qJ U U p0 (by intro q;cases q);let⟨oB,_⟩:=x.jo hf;let⟨zg,c1⟩:=x.akc hf he U h0;let⟨N2,Mr,Sj,gs2,w2,Ms,t2,r2,z2,N,c2⟩:=c1.G (λa i z=>Ã<|Hy.M E.I a i z) (tr1 0) _ zg _ gs1 w1 ZJ t1 U;have Sk:gs1.size=o.size+(n+1):=by rw[x.b,oB];rfl
 have Mt:=c2.C;obtain⟨g2,Mv⟩:∃g,gs2[0]?=Â g:=⟨_,í Mt⟩;let⟨g3,u1,u2,u3,_⟩:=c2.r.C 0 g2 Mv;obtain rfl:g2=g3:=by cases u2;rfl
 have hE:=u1 w2<|c2.r.r.r 0 Mt;let⟨e1,e2,dat,ts,qT,hge⟩:=hE;have Q:0<gs1.size:=Z
 have C:=x.I.r;have hY:=λb q z=>C.I 0 Q b (Ã z) q;have H:E.Y e:=Ç<|Ã U;have yG:∀k,k<=fJ f J->E.Y (g k):=λk W=>Ã<|Ç ⟨k,W,U⟩;have ZK:E.Y h:=Ã<|Ã U;let⟨hip,akq⟩:=x.akl hf hn;have hmd:E.S.md=fJ f J:=by rw[hip];rfl
 let⟨HC,⟨ZL,Sl,Mw⟩,_⟩:=x.M.M (fJ f J) Z;have K:=C.N;refine⟨g,r,t,B,D,e,m,p,h,⟨a1,Z,Z,λk W=>by have:=Si k W;omega⟩,N1+N2,E.Y,w1.heap.size,Mr,Sj,gs2,w2,Ms,t2,g2,?_,Z,Mv,N.r,K h ZK,?_,e1,Hy.M E.I _ _<|u1 w2<|c2.r.r.r 0 Mt,c2,⟨dat.e,dat.d,λk P X=> ?_,λi hi=> ?_,?_,?_,(⟨show e≠h by omega,show m≠h by omega,show g (fJ f J)≠h by have:=Si (fJ f J)<|Û _;omega⟩),⟨ts,qT,hge⟩,?_,?_⟩⟩
 .rwa[runNT_add,show Ε Ä N1 (ĵ o w S) qJ=_ from r1]
 .grind
 .have a:k<=fJ f J:=X;refine Ŋ (N.M ⟨e,_,Á⟩ (K e H) (hY e H)<|x.a.g k P Z 0 Q)<|x.M.S k P Z
 .let⟨T,v2⟩:=akq i hi;exact Ŋ (N.M ⟨e,_,Á⟩ (K e H) (hY e H)<|v2 0 Q) T
 .refine⟨E.c<|fJ f J,ZL,E.V<|fJ f J,HC,(Ŋ (N.M ⟨g<|fJ f J,2,Á⟩ (K _<|yG _<|Û _) (hY _<|yG _<|Û _)<|x.a.N (fJ f J) Z 0 Q) Sl),qR _ _ _ _ _ Mw λb q=> ?_,λb q=> ?_⟩
  .let⟨T,v2,v3⟩:=x.a.I (fJ f J) Z b q;exact N.jO b T (v3 0 Q) λa ha z=>v2<|ha▸C.e 0 Q a (Ã z)
  .let⟨T,v2,v3⟩:=x.a.I (fJ f J) Z b q;exact⟨È T N.r,λz=>v2<|z▸ZK⟩
 .refine⟨È (K e H) N.r,c2.r.r.fx 0 Mt m<|Ç dat.c,È (K _<|yG _<|Û _) N.r⟩
 .let⟨a,y2,_⟩:=(x.M.M 0<|Ĉ _).2.2 U;exact⟨Ŋ (N.M ⟨e,J,Á⟩ (K e H) (hY e H)<|x.a.P0 Hy.C 0 Q) a,(N.Y e (K e H)<|hY e H).trans y2⟩
 .let⟨_,_,a⟩:=(x.M.M 0<|Ĉ _).2.2 U;exact⟨N.C.trans a.1,N.I.trans a.2⟩
end
def Sm(a:ν->Prop)(w:ß):fc where
 O:=λb=>b<w.heap.size/\∀x:ã,x.block=b->¬a (ÿ x)
 I:=λ_=>False
 r:=λ_=>False
 N:=λ_=>False
 K:=λ_=>False
 q:=False
 d:=0
 w:=w
def ZM(a:ν->Prop)(w:ß):gw (Sm a w):= ⟨λ_ _ h=>h,λ_ h=>h.elim,λ_ h=>h.elim (λq=>q.elim) λq=>q.elim,λ_ h=>h.elim (λq=>q.1) λq=>q.elim,λ_ h=>h.elim (λq=>q.elim) λq=>q.elim,λ_ h=>h.elim⟩
structure vF(jj:ν->Prop)(H:Nat)(l:fc):Prop where
 r:∀x:ã,jj (ÿ x)->x.block<H
 fp:∀b,l.O b->∀x:ã,x.block=b->¬jj (ÿ x)
 C:H<=l.w.heap.size
inductive zh(M:xn):Nat->M.γ->Prop
 |vd:zh M 0 M.C
 |En {k:Nat} {s s':M.γ} (h:zh M k s) (hn:M.M k s s'):zh M (k+1) s'
structure G2(M:xn)(R:Nat)(kd:Nat->Int)(l:fc)(an:Nat)(sl:Ð)(l':fc):Prop where
 vi:∀b,l.O b->l'.O b/\l'.w.heap[b]?=l.w.heap[b]?
 kA:l'.O an/\∀p,p<R->l'.w.cell? ⟨an,p,Á⟩=Â (á<|M.I p)
 IP:∃s V,zh M (fJ kd R) s/\M.RD s sl V l'.w/\∀b,V b->l'.O b
 d:l'.d=0
 q:¬l'.q
 rd:∀b,¬l'.I b
 CY:(∀a,¬l'.r a)/\(∀a,¬l'.N a)/\∀a,¬l'.K a
 D6:l'.w.cell? ⟨an,R,Á⟩=Á/\kR l'.w an=Â (0,0)
section
variable{M:xn}{R H:Nat}{kd:Nat->Int}{e:Nat->Nat}{f:List é}{l:fc}{jj:ν->Prop}{o:Nat->fc}
def akr{a:Option ã}{s:M.γ}(h:nk ((kE M i n R kd e D O a j b m J j9 j7 qX l).r Ä) k s):zh M k s:=by
 have c:∀(k:Nat) (s:((kE M i n R kd e D O a j b m J j9 j7 qX l).r Ä).γ),nk ((kE M i n R kd e D O a j b m J j9 j7 qX l).r Ä) k s->zh M k s:=λk s h=>by
  induction h with
  |vd=>exact .vd
  |En _ d f=>exact .En f d
 exact c k s h
def aks{J:(ν->Prop)->Nat->Jd}{cf:é}{a:Ş}(Hz:qX=cf.at a (Ï Q (i::jJ)::L)::f)(c:rM Ä jj H (Mq kd e R n v l qX) .fA D o E w qJ)(F:Option (Nat×Nat))(s:gw l)(Mp:∀b,¬l.I b)(hq:¬l.q)(hd:l.d=0)(S:vF jj H l)(hV:∀b,M.r b->l.O b)(qR:∀s F V w u,M.RD s F V w->(∀b,V b->u.heap[b]?=w.heap[b]?)->M.RD s F V u)(akt:∀s F V w,M.RD s F V w->(∃p m c,F=Æ p m c)/\∀b,V b->l.O b\/l.w.heap.size<=b)(CX:M.RD M.C v M.r l.w)(xl:w.os=l.w.os/\w.output=l.w.output)(hn:1<=n)(hs:n+R<1000) (hA:∀g ib qb ci cq B ba bi I,l.w.heap.size<=ba->Fh (kE M E.size n R kd e g ib qb ci cq B ba bi I qX l)/\Fi (kE M E.size n R kd e g ib qb ci cq B ba bi I qX l)) (hJ:∀Fj C W B p m c,vF Fj C W->gw W->G2 M R kd l B (Æ p m c) W->fh Ä Ó (J Fj C) W (G (cf.at (a.put ((Q[i]?).bind (·.dst))<|ñ #[Æ (Â ⟨B,0,Á⟩) R R,Æ p m c])<|Ï Q jJ::L) f)): ∃N Fj C T jz IQ gs' u sY t',Ε Ä N (ĵ E w F) qJ=(.next<|ĵ gs' u sY,t')/\(u.os=l.w.os/\u.output=l.w.output)/\rM Ä Fj C (J Fj C) T jz IQ gs' u t':=by
 let⟨g,ib,qb,ci,cq,B,ba,bi,I,⟨b1,b2,b3,b4⟩,N,Y,C,jz,IQ,gs',u,sY,t',g',r,z1,z2,z3,z4,z5,z6,z7,cY,t⟩:=akn c F s Mp hq hd S.C hV qR CX xl hn hs hA;let⟨st,ZL,V,HC,Sl,Mw,Mx⟩:=t.IP;obtain⟨⟨sp,sm,sc,rfl⟩,ZN⟩:=akt _ _ _ _ Mw;obtain⟨ts,qT,rfl⟩:=t.Sg;have hH:=S.C;have ZO:=λb q=>s.fx b<|Ã q;have X:∀b,(l.O b\/l.w.heap.size<=b)->b<u.heap.size->b≠I->(Sm (λj=>jj j\/∃x:ã,j=ÿ x/\x.block=I) u).O b:=λb hb gJ lB=>by
  refine⟨gJ,λx hx=> ?_⟩;rintro(q|⟨y,P,q2⟩)
  .rcases hb with hb|hb
   .exact S.fp b hb x hx q
   .have:=S.r x q;omega
  .injection P with P;subst P;omega
 have aku:=λb q=>by have h:=t.I b q;rw[í<|ZO b q]at h;exact(æ.1 h).1
 have keep:=λb q=>X b (Ã q) (aku b q) (by have:=ZO b q;omega);have My:=X B (Ç b1) t.fx.1 t.r.1;have akv:fh Ä Ó (J (λj=>jj j\/∃x:ã,j=ÿ x/\x.block=I) C) (Sm (λj=>jj j\/∃x:ã,j=ÿ x/\x.block=I) u) (Fg ts qX):=by
  rw[Hz];refine ajM (ZM _ _) (λq=>q) qT (Ã<|X ba (Ç b2) t.fx.2.1 t.r.2.1) (Ã<|Ã<|X _ (Ç<|b4 _<|Û _) t.fx.2.2 t.r.2.2) t.cba Sl λW h=> ?_;refine hJ (λj=>jj j\/∃x:ã,j=ÿ x/\x.block=I) C W B sp sm sc ⟨λx q=> ?_,λb q x hx=> ?_,Ø z3 h.I⟩ (h.N<|ZM _ _) ⟨λb q=>⟨h.O b<|keep b q,(h.r b (Ã<|keep b q) id).trans<|t.I b q⟩,⟨h.O B My,λp hp=> ?_⟩,⟨st,V,akr HC,qR _ _ _ _ _ Mw λb q=>h.r b (Ã<|X b (ZN b q) (Mx b q).1 (Mx b q).2) id,λb q=>h.O b<|X b (ZN b q) (Mx b q).1 (Mx b q).2⟩,h.d,?_,λb q=> ?_,⟨λa q=> ?_,λa q=> ?_,λa q=> ?_⟩,⟨(gK<|h.r B (Ã My) id).trans t.C.1,(wF<|h.r B (Ã My) id).trans t.C.2⟩⟩
  .rcases q with q|⟨y,P,q2⟩
   .exact È (S.r x q) z5
   .injection P with P;subst P;omega
  .rcases h.c b q with q|q
   .exact q.2 x hx
   .have j:u.heap.size<=b:=q;rintro(z|⟨y,z1,z2⟩)
    .have:=S.r x z;omega
    .injection z1 with z1;subst z1;omega
  .refine(gK<|h.r B (Ã My) id).trans ?_;by_cases hk:kd p=1
   .have hm:p∈gW kd R:=ą.2 ⟨ě.2 hp,by simpa using hk⟩;let⟨j,y⟩:=İ hm;have P:=(ĝ.1 y).1;have:=t.kK (j+1) Z (show j+1<=fJ kd R from P);have e2:(gW kd R).getD (j+1-1) 0=p:=Ô<|(CW P).symm.trans y;simp only[kE,Ml,e2]at this;exact this
   .have hm:p∈jy kd R:=ą.2 ⟨ě.2 hp,by simpa using hk⟩;let⟨j,y⟩:=İ hm;have P:=(ĝ.1 y).1;have:=t.Sf j P;simp only[kE,Ml,Ô<|(CW P).symm.trans y]at this;exact this
  .rw[h.q];exact id
  .rw[h.S]at q;exact q
  .rw[h.Y]at q;exact q
  .rw[h.b]at q;exact q
  .rw[h.K]at q;exact q
 let⟨T,h⟩:=ji akv;exact⟨N,_,C,T,jz,_,gs',u,sY,t',r,t.io,cY.Y z6 z2 z7 U U id (λ_=>id) (λ_=>id) (λ_=>id) (λ_=>id) (λb q=>q) h⟩
end
end Go.Proofs.Y.fu
namespace Go.Proofs.Y.fu
open Go Go.Conc Go.Proofs.Y.Lift Go.RowKit Go.Conc.Lib Go.ConcR.Gen
open Go.Proofs Go.Proofs.YtgpphkdoanciiaaGreatDoor
def qe(V:Nat->Prop)(base:Nat):fq:=⟨λi j=>i=j/\V i,base⟩
def akw(V:Nat->Prop)(base:Nat):Bi (qe V base):= ⟨λ_ _ _ h k=>h.1.symm.trans k.1,λ_ _ _ h k=>h.1.trans k.1.symm,λi j h=>by rw[h.1]⟩
def lq(j:Nat):Bool:=j==3||j==4
def uC(c:Array Ð):Array Ð:=c.extract 0 16
def akx(c:Array Ð):(uC c).size=min 16 c.size:=by simp[uC]
open Classical in
noncomputable def pg (a:Nat->Prop) (j:Nat):Ζ->Ζ
 |Ê c e b=>if a j then(if lq j=Ó then Ê (uC c) e (0,(uC c).size)else Ê c e (0,c.size))else Ê c e b
 |_=>Ê #[] 0
noncomputable def k9 (Sh:Nat->Prop) (w:ß):ß:={w with heap:=w.heap.mapIdx (pg Sh)}
section
variable{V Sh:Nat->Prop}{base:Nat}
def Fl(j:Nat):(k9 Sh w).heap[j]?=(w.heap[j]?).map (pg Sh j):=by simp[k9,Array.getElem?_mapIdx]
def ZQ:kh (k9 Sh w):=λi o h=>by
 rw[Fl]at h;obtain⟨x,_,rfl⟩:=ĩ.1 h;cases x<;>simp only[pg]<;>try exact id
 split
 .split<;>exact id
 .exact id
structure Mz(V Sh:Nat->Prop)(base:Nat)(w:ß):Prop where
 Sg:∀b,V b->∃c e fr,w.heap[b]?=Â (Ê c e fr)/\fr.2<=c.size/\fQ (qe V base) c c/\(Sh b->0<c.size/\(lq b=Ó->(e=304\/e=305)/\fr.2<=16)/\(lq b=Í->D3 c))
 fx:base<=w.heap.size
def aky(h:Mz V Sh base w):ry (qe V base) Sh (k9 Sh w) w:=by
 refine⟨U,U,akw V base,by show base<=(w.heap.mapIdx<|pg Sh).size;rw[Array.size_mapIdx];exact h.fx,h.fx,λi j o=> ?_⟩;obtain⟨rfl,p⟩:=o;let⟨c,e,a,b,l,f,r⟩:=h.Sg i p;have g:(k9 Sh w).heap[i]?=Â (pg Sh i<|Ê c e a):=by rw[Fl,b];rfl
 by_cases s:Sh i
 .let⟨t,u,v⟩:=r s;cases d:lq i with
  |true=>
   let⟨x,y⟩:=u d;have z:=akx c;have m:Gw e (uC c).size:=⟨x,Z⟩;refine⟨uC c,c,e,(0,(uC c).size),a,?_,b,⟨λk B n=> ?_,Z,Ç ⟨s,m⟩⟩,λ_=>⟨U,Û _,by show a.2<=(uC c).size;omega,Z,Ç m⟩,λq=>absurd s q,Û _⟩
   .show(k9 Sh w).heap[i]?=_;rw[g];simp[pg,s,d]
   .have:(uC c)[k]=c[k]:=by simp[uC]
    rw[this];exact f.C k n n
  |false=>
   refine⟨c,c,e,(0,c.size),a,?_,b,oS.M f,λ_=>⟨U,Û _,l,t,Ã<|v d⟩,λq=>absurd s q,Û _⟩;rw[g];simp[pg,s,d]
 .refine⟨c,c,e,a,a,?_,b,oS.M f,λq=>absurd q s,λ_=>rfl,l⟩;rw[g];simp[pg,s]
end
section
variable{a:Nat->Prop}{l:fc}{V:Nat->Prop}
theorem Fo(y:nJ P)(B:oX P a X)(hF:tJ P X)(C:wD vQ){k:Array Ð}(D:X F)(E:P.funcs[F]?=Â s)(H:s.body=Â wX)(r:gw l)(I:¬l.q) (n:∀b,V b->l.M b) (J:Mz V (λj=>V j/\¬l.O j) P.globals.size l.w) (K:∀g,a g->V g) (L:fQ (qe V P.globals.size) k k) (N:∀T,Calls P F k (World.tp (k9 (λj=>V j/\¬l.O j) l.w) T 0) fun|.returned v,e=>vQ v e/\kh e|_,_=>False) (t:Bool) (o:é) (p:List é): fh P t (λh u=>∃(Y:fq) (e:ß) (v m:Ð),(qe V P.globals.size).r Y/\ry Y (λj=>V j/\¬l.O j) e h.w/\fi Y v m/\vQ v e/\u=G (o.finish m) p/\(∀i j,Y i j->h.M j/\(V j\/l.O j\/l.w.heap.size<=j))/\(∀j,l.O j->h.O j)/\h.d=l.d) l (G (ć P F k Ĥ)<|o::p):=by
 refine(afX (aeZ y B hF C D E H ZQ N (Y:=qe V P.globals.size) U (λg q=>⟨U,K g q⟩) L (aky J) (λj q=>r.fx j<|n j q.1) (λi j _ q=>(n j q.1).resolve_left q.2) t o p) l U (λj q=> ?_) (λ_ q=>q) (λj q=>r.fx j<|Ã q) I).fM ?_
 .obtain⟨⟨i,rfl,x⟩,Q⟩:=q;grind
 .rintro h u ⟨O',⟨Y,e,v,m,S,rfl,W,q3,q4,q5⟩,Q,h3,h4,h5,h6,h7,h8,h9,h10,h11,h12⟩;refine⟨Y,e,v,m,S,W,q3,q4,q5,λi j Sn=> ?_,h4,h10⟩;by_cases z:V j/\¬l.O j
  .exact⟨Ç (by rw[h7];exact(n j z.1).resolve_left z.2),Ã z.1⟩
  .have x:=h3 j ⟨⟨i,Sn⟩,z⟩;exact⟨Ã x,Ç<|h6 j x⟩
end
section
variable{l:fc}{V GL:Nat->Prop}
def Fp(s:gw l):gw (lZ l):=by refine⟨λ_ h=>h.elim,λ_ h=>h.elim,λa c d=>s.N a (c.resolve_left id)<|d.resolve_left id,λb d=>s.fx b<|d.resolve_left id,λa c=>s.I a<|c.resolve_left id,λa c=>⟨λq=>(s.S a c).1<|q.resolve_left id,(s.S a c).2.1,id⟩⟩
structure Fq(GL:Nat->Prop)(f:ł)(args:Array Ð)(l:fc)(V:Nat->Prop)(kg:Ð->ß->Prop):Prop where
 N:∀b,V b->l.M b
 S:Mz V V Ä.globals.size l.w
 I:∀g,GL g->V g
 r:fQ (qe V Ä.globals.size) args args
 C:∀T,Calls Ä f args (World.tp (k9 V l.w) T 0) fun|.returned v,u'=>kg v u'/\kh u'|_,_=>False
def akz(m:nJ Ä)(n:oX Ä GL X)(hF:tJ Ä X)(e:X 67){D:SD}(h:∀i s d W l,i<D.q->nk (D.r Ä) (D.a i) s->D.RD s d W l.w->(∀b,W b->l.M b)->gw l->¬l.q->(∀b,D.c b->l.M b)->D.RC l.w->∃V,Fq GL 67 #[d,À<|D.h i] l V λv _=>v=á (D.i i)):Fi D:=by
 intro i s d W l o p r t f g x y z B;let⟨V,a⟩:=h i s d W l o p r t f g x y;let⟨G,c,C,E⟩:=hF 67 e;have k:(λj=>V j/\¬(lZ l).O j)=V:=by funext j;exact propext ⟨λq=>q.1,λq=>⟨q,id⟩⟩
 refine(Fo m n hF (λv u T D h=>h) e C E (Fp f) g (λb q=>Ç<|a.N b q) (by rw[k];exact a.S) a.I a.r (by rw[k];exact a.C) Í z B).fM ?_;rintro H I ⟨Y,J,v,K,_,_,j,u,T,_,_,F⟩;subst u;cases j;exact⟨F,T⟩
theorem akA(P:nJ Ä)(Q:oX Ä GL X)(hF:tJ Ä X)(B:X 66){D:SD}(Rg:D.γ->Ð->ß->Prop)(hRg:∀s a u T n,Rg s a u->Rg s a (World.tp u T n)) (h:∀k s a W l,k<D.m->nk (D.r Ä) k s->D.RD s a W l.w->(∀b,W b->l.M b)->gw l->¬l.q->(∀b,D.c b->l.M b)->D.RC l.w->∃V,Fq GL 66 #[a,À<|D.l<|k+1] l V (λv u=>∃p n c d,v=ñ #[Æ p n c,á<|D.d<|k+1]/\D.g k s d/\Rg d (Æ p n c) u)/\ ∀Y S u w d a C,ry Y S u w->fi Y a C->Rg d a u->(∀i j,Y i j->V j\/l.w.heap.size<=j)->∃e,D.RD d C e w/\∀b,e b->∃i,Y i b):Fh D:=by
 intro k s a W l hk hr qR hW E F hRB hRC cl lO;let⟨V,f,tr⟩:=h k s a W l hk hr qR hW E F hRB hRC;let⟨fn,c,hf,g⟩:=hF 66 B;have G:(λj=>V j/\¬(lZ l).O j)=V:=by funext j;exact propext ⟨λq=>q.1,λq=>⟨q,id⟩⟩
 refine(Fo P Q hF (λv u T D h=> ?_) B hf g (Fp E) F (λb q=>Ç<|f.N b q) (by rw[G];exact f.S) f.I f.r (by rw[G];exact f.C) Í cl lO).fM ?_
 .grind
 .rintro l' g' ⟨Y,u',v,v',_,q2,q3,⟨p,n,c,d,rfl,H,h3⟩,I,o,_,J⟩;cases q3 with
  |@nH _ cs'' hs mr=>
   let⟨ls⟩:=cs'';match ls,hs with
   |[x,y],_=>
    have r:=mr 0 fj fj;have K:=mr 1 fj fj;simp at r K;cases K;let⟨e,L,N⟩:=tr Y _ u' l'.w d _ x q2 r h3 λi j Sn=>(o i j Sn).2.imp id λz=>z.resolve_left id;cases r with
    |nG=>exact⟨J,Á,n,c,I,d,e,H,L,λb g=>by let⟨i,t⟩:=N b g;exact(o i b t).1⟩
    |kQ=>exact⟨J,_,n,c,I,d,e,H,L,λb g=>by let⟨i,t⟩:=N b g;exact(o i b t).1⟩
end
end Go.Proofs.Y.fu
namespace Go.Proofs.Y.Lift
open Go
def Fs(a:Nat->Bool):ĭ->Bool
 |ò (ę cs)=>cs.toList.all yk
 |ò (ñ cs)=>cs.toList.all yk
 |x=>wE a x
def ZR(a:Nat->Bool)(x:ĭ):Fs a x=wE a x:=by
 cases x with
 |const v=>cases v<;>simp[Fs,wE,O9,ģ]
 |_=>rfl
def MA(P:ğ)(a:Nat->Bool)(b c:ł->Bool)(o:å):Bool:=(Ef P b o.op&&o.op.operands.toList.all (Fs a))||(Pq P c o.op&&o.op.operands.toList.all (Fs a))
def MB(a:Nat->Bool)(b c:ł->Bool)(o:å):MA P a b c o=Eh P a b c o:=by have:(Fs a)=wE a:=funext<|ZR a;simp[MA,Eh,Pk,this,ģ]
def qU(P:ğ)(a:Nat->Bool)(b d:ł->Bool):Ġ->Bool
 |π|Ŗ|.label _|ŗ _|.goto _=>Ó
 |.seq x y=>qU P a b d x&&qU P a b d y
 |ŕ c x y=>Fs a c&&qU P a b d x&&qU P a b d y
 |ĥ _ c|.loop c|.scope c=>qU P a b d c
 |à _ c _=>c.toList.all<|MA P a b d
 |.refuse _=>Ó
 |_=>Í
def zi(a:Nat->Bool)(b d:ł->Bool):∀c:Ġ,qU P a b d c=nO P a b d c
 |π|Ŗ|.label _|ŗ _|.goto _|.refuse _|.rangeFunc _ _ _ _=>rfl
 |.seq x y=>by simp only[qU,nO,zi a b d x,zi a b d y]
 |ŕ c x y=>by simp only[qU,nO,ZR,zi a b d x,zi a b d y]
 |ĥ _ c|.loop c|.scope c=>by simp only[qU,nO,zi a b d c]
 |à _ x _=>by have:MA P a b d=Eh P a b d:=funext<|MB a b d;simp only[qU,nO,this,ģ]
end Go.Proofs.Y.Lift
namespace Go.Proofs.Y.fu
open Go Go.Conc Go.Proofs.Y.Lift Go.RowKit Go.Conc.Lib Go.ConcR.Gen
open Go.Proofs Go.Proofs.YtgpphkdoanciiaaGreatDoor
def ZS:List Nat:=[35,38,44,54,55,56,60,66,67,78,79,103,113,114,115,116,117,118,119,120,121,122,123,124,125,126,153,154,155,156,157,158,159,160,161,162,168,169,170,171,172,173,174,175,176,177,178,186,187,188,189,190,191,192,193,194,196,197,198,199,200,201,202,203,204,205,206,207,208,209,210,211]
def xo(g:Nat):Bool:=[1,2,3,4].contains g
def xp(f:Nat):Bool:=ZS.contains f
def zj(f:Nat):Bool:=[129,130].contains f
def CZ(P:ğ)(f:Nat):Bool:=match P.funcs[f]? with
 |some a=>match a.body with
  |some c=>qU P xo xp zj c
  |none=>Í
 |none=>Í
def akB:ZS.all (CZ Ä)=Ó:=by rfl
def ZT(h:xp i=Ó):CZ Ä i=Ó:=(œ.1 akB) i<|by simpa[xp]using h
def akC(h:CZ P i=Ó):∃a c,P.funcs[i]?=Â a/\a.body=Â c:=by
 unfold CZ at h;split at h
 .rename_i a b;split at h
  .rename_i c d;exact⟨a,c,b,d⟩
  .cases h
 .cases h
def akD(h:CZ P i=Ó)(a:P.funcs[i]?=Â s)(b:s.body=Â wX):qU P xo xp zj wX=Ó:=by unfold CZ at h;rw[a]at h;simp only[b]at h;exact h
def ZU:tJ Ä (λf=>xp f=Ó):=λ_ h=>akC<|ZT h
def akE[Ac P](h:∀f,xp f=Ó->CZ P f=Ó)(a:G6 P zj):oX P (λg=>xo g=Ó) (λf=>xp f=Ó):=λf g e c b d=>by have:=akD (h f g) b d;rw[zi]at this;exact vg a this
instance aul:Ac Ä:=⟨λe n h=>by
 have h1:Ä.cellsOf 304=32:=ft
 have h2:Ä.cellsOf 305=64:=ft
 obtain⟨rfl|rfl,h3⟩:=h
 .rw[h1];omega
 .rw[h2];omega⟩
def akF(a:G6 Ä zj):oX Ä (λg=>xo g=Ó) (λf=>xp f=Ó):=akE (λ_ h=>ZT h) a
def Ft:G6 Ä zj:=λf h=>by
 have:f=129\/f=130:=by simpa[zj]using h
 rcases this with rfl|rfl
 .exact⟨_,Extern.AbiNoEscape.same,Tryz.func129,fO,fO,fO,fO,λ_ v a h=>afn v a h,afo⟩
 .exact⟨_,Extern.BytealgMakeNoZero.makeNoZero #[3] #[107],Tryz.func130,fO,fO,fO,fO,λ_ v a h=>afp #[3] 107 v a h,afq #[3] 107⟩
def ZV:oX Ä (λg=>xo g=Ó) (λf=>xp f=Ó):=akF Ft
end Go.Proofs.Y.fu
namespace Go.Proofs.Y.Lift
open Go Go.Conc
section
variable{Y:fq}{b:ł->Prop}
def akG{e:Array Ð->Sem Ð}{y:ĭ}{m:Array ź}(d:o.op=č {callee:=û<|Ċ F,args:=#[qQ,y],argTypes:=m})(q:P.funcs[F]?=Â s)(r:(s.name== "runtime.NumGoroutine")=Í)(t:s.body.isNone=Ó)(B:Extern.findNext s=Á)(C:Extern.find s=Â e) (D:∀(Y:fq) (v i z j:Ð),fi Y v i->fi Y z j->fF P fi Y (e #[v,z]) (e #[i,j])) (E:∀v z,fC P<|e #[v,z]) (G:∀y∈o.op.operands,ml X y):mI P X b o:=by
 have c:∀a:Ş,Đ a.eval o=Ŭ F #[a.eval qQ,a.eval y]:=by intro a;unfold Đ;rw[d];simp only[Ν,Ę,ġ,invoke,pure_bind,Array.empty_append,Array.append_empty,List.map_toArray,List.map_cons,List.map_nil]
 have k:∀(v z:Ð) (u:ß),(Ŭ F #[v,z]).run P u=(mark (.extern F)>>=λ_=>e #[v,z]>>=λy=>pure (Next.value y):Sem Next).run P u:=by intro v z u;unfold Ŭ;simp_all
 refine WA (λY a w _ _ _ h=> ?_) (λa=> ?_) (λa u n H g=> ?_) G
 .rw[c,c];have I:=h qQ (by rw[d];simp[Ř,Call.operands]);have J:=h y (by rw[d];simp[Ř,Call.operands]);unfold Ŭ;refine .gp (fE rh ?_);rintro M p N w ⟨K,L⟩;rw[K,L];simp only[q,r,t,B,C,Ł,if_false,if_true];apply fE (V:=jm) (.D2 (Ç ⟨F,U⟩) (.fD U));intro O _ _ l _;exact mH<|D _ _ _ _ _ ((I.fM w).fM l)<|(J.fM w).fM l
 .rw[c];exact Kn (k _ _)<|gl (GV _) λ_=>lQ<|E _ _
 .rw[c,k,Sem.run_bind]at g;simp only[mark,Sem.run,Result.andThen_ok]at g;have:Sem.run P (e #[a.eval qQ,a.eval y]>>=λy=>pure (Next.value y):Sem Next) u=.ok n H:=g;rw[Sem.run_bind]at this;cases h:(e #[a.eval qQ,a.eval y]).run P u with
  |ok v w=>rw[h]at this;cases this;exact⟨v,U⟩
  |halt z w=>rw[h]at this;cases this
def ZW:∀(n:Nat) {Y:fq} {a b:ã} (c:ByteArray),gY Y a b->fF P jm Y (ô a n c) (ô b n c)
 |0,_,_,_,_,_=> .fD U
 |n+1,Y,a,b,c,h=>by
  unfold ô;refine fE (Kb h) ?_;intro f v g d e;cases e<;>first|exact .fP|skip
  rename_i k z;cases k<;>first|exact .fP|skip
  exact ZW n _<|(h.r d).C 1
def ZX:∀(n:Nat) (a:ã) (b:ByteArray),fC P<|ô a n b
 |0,_,_=>gB _
 |n+1,a,b=>by
  unfold ô;refine gl (GX _ _) λv=> ?_;split
  .exact ZX n _ _
  .exact jd _
def akH(h:fi Y v x):fF P jm Y (þ v) (þ x):=by
 cases h<;>first|exact .fP|exact .fD U|skip
 exact ZW _ _<|by assumption
def akI(v:Ð):fC P (þ v):=by
 unfold þ;split
 .exact gB _
 .exact gB _
 .exact ZX _ _ _
 .exact jd _
def akJ(h:fi Y v x):fF P jm Y (ā v) (ā x):=by
 cases h<;>first|exact .fP|skip
 rename_i k z;cases k<;>first|exact .fP|exact .fD U
def akK(v:Ð):fC P (ā v):=by
 unfold ā;split
 .exact gB _
 .exact jd _
def akL(v a z b:Ð)(h:fi Y v a)(k:fi Y z b):fF P fi Y (õ #[v,z]) (õ #[a,b]):=by
 apply fE (akH h);rintro j s d e f;obtain rfl:s=d:=f;apply fE (akJ<|k.fM e);rintro l c g m i;obtain rfl:c=g:=i;split
 .exact .fD (.iD _ _)
 .exact .fD (.iD _ _)
def akM(v z:Ð):fC P (õ #[v,z]):=by
 refine gl (akI v) λs=>gl (akK z) λc=> ?_;split
 .exact gB _
 .exact gB _
end
end Go.Proofs.Y.Lift
namespace Go.Proofs.Y.fu
open Go Go.Conc Go.Proofs.Y.Lift
open Go.Proofs Go.Proofs.YtgpphkdoanciiaaGreatDoor
def So:List Nat:=[16,18,21,23,24,25,28,29,30,31,35,44,60,38,54,55,56,78,79,36,45,61,94,95,96,97,98,99,100,101,102,103,104,145,146,147,148,149]
def Fu(f:Nat):Bool:=So.contains f||f==167
def MC(_:Nat):Bool:=Í
def MD(P:ğ)(f:Nat):Bool:=match P.funcs[f]? with
 |some a=>match a.body with
  |some c=>qU P MC Fu zj c
  |none=>Í
 |none=>Í
def akN:So.all (MD Ä)=Ó:=by rfl
def ZY(h:So.contains i=Ó):MD Ä i=Ó:=(œ.1 akN) i<|by simpa using h
theorem ZZ(h:MD P i=Ó):∃a c,P.funcs[i]?=Â a/\a.body=Â c/\qU P MC Fu zj c=Ó:=by unfold MD at h;grind
def zk:tJ Ä (λf=>Fu f=Ó):=λf h=>by
 rcases Ĵ.1 h with q|q
 .let⟨a,c,b,d,_⟩:=ZZ<|ZY q;exact⟨a,c,b,d⟩
 .rw[beq_iff_eq]at q;subst q;exact⟨_,_,Ź,U⟩
def akO(h:Ω.body=Â wX):kJ Ä (λg=>MC g=Ó) (λf=>Fu f=Ó) wX:=by
 unfold Ω at h;cases h;refine .rp (vg Ft<|by rw[<-zi];rfl) (.rp (.tH _ _ λo f=> ?_) .u7);simp only[List.mem_toArray,List.mem_cons,List.not_mem_nil,or_false]at f;rcases f with rfl|rfl|rfl|rfl
 .exact KL Ft<|by rw[<-MB];rfl
 .exact KL Ft<|by rw[<-MB];rfl
 .exact akG U Tryz.func185 fO fO fO fO (λ_ v g z o=>akL v g z o) akM λy g=>KE (by simp[Ř,Call.operands]at g;rcases g with rfl|rfl|rfl<;>rfl)
 .exact KL Ft<|by rw[<-MB];rfl
def ME:oX Ä (λg=>MC g=Ó) (λf=>Fu f=Ó):=λf h i c g a=>by
 rcases Ĵ.1 h with q|q
 .let⟨j,k,b,d,e⟩:=ZZ<|ZY q;rw[g]at b;cases b;rw[a]at d;cases d;rw[zi]at e;exact vg Ft e
 .rw[beq_iff_eq]at q;subst q;rw[Ź]at g;cases g;exact akO a
end Go.Proofs.Y.fu
