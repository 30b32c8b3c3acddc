import Derived.Test.YtgpphkdoanciiaaGreatDoorWAB
import Derived.Conc.AppendWalk
import Derived.Conc.TokenWalk
set_option linter.all false
set_option maxRecDepth 1000000
set_option maxHeartbeats 8000000
open Go.Value renaming pointer->À,slice->Æ,int->É,oneCell'->Ú,string->á,chan->é,tuple->ñ,func->ď,agg->Ě,bool->ĭ,cells->Δ
open Option renaming none->Á,some->Â,isSome_iff_exists->Ö,map_eq_some_iff->Ī,isSome_none->Ľ,getD_some->ő
open Or renaming inl->Ã,inr->Ç
open Go.Proofs.Tryz renaming prog->Ä,t155->Ċ,f46->ģ,t9->ĩ,func47->į,underlying101->ŀ,type155->Ň,underlying85->ň,underlying25->ŉ,f52->Ū,func167->ź,func63->Ž,func48->ž,func49->ſ,func50->Α,func51->Β,func46->Γ,func52->Ε,t101->Χ,f167->ε,f49->ι,f63->κ,f47->ν
open Go renaming undef->Å,Value->Ð,Goroutine->Ý,World->ß,events_store->â,Addr->ã,Oper->å,getD_set_ne->è,Frame->ê,deafBehind->Đ,execOp->đ,Program->Ġ,Code->ġ,Operand->Į,FuncId->ł,Act->Š,maxLen->ŧ,size_madeCells->ŭ,callFunc->Ů,yielded->ŷ,TypeId->Ż,Item->ż,runNT->Ζ,Obj->Η,Trace->Λ,TypeInfo->Μ,Event->Ν,resolve->Ξ,Loc->ξ
open Nat renaming lt_of_lt_of_le->È,le_trans->Ø,le_refl->Û,add_sub_cancel->ú,zero_le->ĉ,zero_add->Ė,mod_lt->Ł,lt_succ_of_lt->Ń,le_of_lt->Ō,reduceAdd->Ű,sub_zero->Ÿ,sub_self->Ź
open Go.Obj renaming cells->Ê,chan->ũ
open Go.Conc.Goes renaming stop->Ë
open Go.Ground renaming phase->Ì,data->Õ,textOnly->Þ,gcOnly->ø,chain->Ŷ
open Bool renaming false->Í,true->Ô,false_eq_true->ĝ,or_eq_true_iff->ĵ
open Go.IntKind renaming i64->Î,u64->ì,u32->û,wrap_i64->Υ
open Go.Item renaming inRegion->Ï,inBlock->ï,code->ö,inLoop->ā
open Go.Departure renaming lateStores->Ñ
open Go.Operand renaming tmp->Ò,const->ò,func->ċ
open Option.some renaming inj->Ó
open Go.World renaming cell?->Ù,frozen?->ð,setCell->Ą,alloc->Ŗ
open Go.Region renaming ready->Ü,Mode->ă,wanted->ğ
open Go.Code renaming region->à,block->Ħ,cond->ŗ,skip->Ř,exit->ř,ret->ρ
open List renaming range->ä,mem_range->ù,range_succ->ą,mem_filter->Ć,filter_append->ć,flatMap_cons->Č,setIfInBounds_toArray->Ĝ,getElem?_eq_some_iff->Ğ,length_filter_le->Ĭ,mem_of_getElem?->İ,getElem?_of_mem->ı,flatMap_append->Ĵ,set_cons_succ->ľ,set_cons_zero->Ŀ,size_toArray->ņ,length_cons->Œ,nodup_range->Ŕ,all_eq_true->ŕ,length_nil->Ŝ
open Array renaming getElem?_eq_some_iff->æ,getElem?_eq_getElem->ç,getElem?_modify->î,getD_eq_getD_getElem?->ė,all_toList->Ĥ
open Go.Op renaming fieldAddr->ë,move->ý,load->č,call->Ď,nilCheck->ĕ,assign->ĳ,binOp->ń,operands->Ś,extract->š,indexAddr->Ţ,makeFunc->Ų,store->ŵ
open Go.Region.linearise renaming go->í
open Go.MemAct renaming ofEvent->ó
open Go.Extern.Bytes renaming loadBytes->ô,bytesOf->ÿ,asByte->Ă
open Go.Extern.BytealgIndexByte renaming indexByte->õ
open Go.Callee renaming value->ü,builtin->Ũ
open Go.Fn renaming func->þ
open Go.Loc renaming cell->Ā
open Go.Frame renaming enter->Ĉ,finish_at->ī
open Go.Instr renaming build->Ē,makeSlice->ş
open Go.GoStatus renaming running->ē,finished->ų
open Go.Conc renaming mem_ofEvents->Ĕ,mem_listed->ě,seen_none->Ĳ,crowd->Ķ,stepG_region->Ņ,events_call_body->ŏ,stepG_semrelease->Ő,deafBehind_still->œ,listed->ū,handedOver_app->Ŭ,stepG_seq->ű,stepG_comm->Κ
open Go.ConcR.Gen renaming x_semrelease_b->Ę,x_enable_n->Ĺ,x_enable_b->ĺ,x_enable_x->Ļ,x_enable_f->ļ,x_semrelease_n->Ť,x_semrelease_x->ť,x_semrelease_f->Ŧ,mayWake_entry->ů,nm_add->Ι
open Go.Act renaming eval->ę,put->π
open Go.Deferred renaming ofValue->Ģ
open Go.CallKind renaming normal->ĥ,early->Θ
open Go.Mark renaming enable->ħ
open Go.Addr renaming add_lit->Ĩ
open Eq renaming trans->Ŋ
open Go.Sem renaming run_bind->ō,events_bind->Ş,run->σ
variable{i n j b k m J j9 j7 j6:Nat}{w u W jX:ß}{v x z jQ:Ð}{g:Ý}{a p:ã}{h c:Int}{e t T:Ż}{d q:Array Ð}{P:Ġ}{y:Š}{B:ByteArray}{X:Nat->Prop}{O:Option ã}{l:List Ð}{yQ:Bool}{K H:Š->ß->Prop}{o:å}{D:Nat->Nat}{E:Array Ý}{L:List ż}{jJ:List Nat}{qX:List ê}{qQ:Į}{qJ:Λ}{zX:ξ->Prop}{zQ:List Int}{zJ:Μ}{xX:Į->Ð}{xQ:Go.Tape}{xJ:Nat×Nat}{wX:ġ}{wQ:Go.MemOp}{wJ:Array Bool}{vX:List ByteArray}{vQ:Ð->ß->Prop}{vJ:Go.Exit->Š->ß->Prop}{yX:ă}{Q:Array å}{f:ê}{V:Array Ν}{F:ł}{s:Go.Func}
namespace Go.Proofs.Y.fv
open Go Go.Conc Go.Proofs.Y.Lift Go.RowKit Go.Conc.Lib Go.ConcR.Gen
open Go.Proofs Go.Proofs.YtgpphkdoanciiaaGreatDoor
def HT:å:=⟨Â 13,ë 155 (Ò 5) 3,0, "work.go:57",#[],Á⟩
def E4:å:=⟨Â 14,č 86<|Ò 13,86, "work.go:57",#[⟨0,Õ⟩],Á⟩
def HU:å:=⟨Â 15,ý<|Ò 1,25, "work.go:57",#[{on:=18,ground:=ø Ñ}],Á⟩
def HY:å:=⟨Â 16,ë 155 (Ò 5) 1,0, "work.go:57",#[{on:=18,ground:=ø Ñ}],Á⟩
def E5:å:=⟨Â 17,č 3<|Ò 16,3, "work.go:57",#[⟨3,Õ⟩,{on:=18,ground:=ø Ñ}],Á⟩
def HZ:å:=⟨Â 18,ë 155 (Ò 5) 2,0, "work.go:57",#[],Á⟩
def E6:å:=⟨Â 19,č 86<|Ò 18,86, "work.go:57",#[⟨5,Õ⟩],Á⟩
def E7:å:=⟨Â 20,ĕ<|Ò 19,0, "work.go:57",#[⟨6,Õ⟩],Á⟩
def E8:å:=⟨Â 21,ë 105 (Ò 20) 1,0, "work.go:57",#[⟨7,Õ⟩],Á⟩
def E9:å:=⟨Â 22,č 65<|Ò 21,65, "work.go:57",#[⟨8,Õ⟩],Á⟩
def H0:å:=⟨Â 23,ë 155 (Ò 5) 0,0, "work.go:57",#[],Á⟩
def Fa:å:=⟨Â 24,č 148<|Ò 23,148, "work.go:57",#[⟨10,Õ⟩],Á⟩
def Cr:å:=⟨Â 25,Ď {callee:=ü<|ċ 66,args:=#[Ò 22,Ò 24],argTypes:=#[65,148]},163, "work.go:57",#[⟨9,Õ⟩,⟨11,Õ⟩],Á⟩
def vA:å:=⟨Â 12,ý<|Ò 25,163, "work.go:57",#[⟨12,Õ⟩],Á⟩
def Cs:å:=⟨Â 26,š (Ò 12) 0,65, "work.go:57",#[⟨13,Õ⟩],Á⟩
def Ct:å:=⟨Â 27,š (Ò 12) 1,9, "work.go:57",#[⟨13,Õ⟩,{on:=18,ground:=ø Ñ}],Á⟩
def Fb:å:=⟨Â 28,ĕ<|Ò 14,0, "work.go:57",#[⟨1,Õ⟩,⟨0,Ì⟩,⟨1,Ì⟩,{on:=2,ground:=Þ Ñ},{on:=3,ground:=Þ Ñ},{on:=4,ground:=Þ Ñ},⟨5,Ì⟩,⟨6,Ì⟩,⟨7,Ì⟩,⟨8,Ì⟩,⟨9,Ì⟩,⟨10,Ì⟩,⟨11,Ì⟩,⟨12,Ì⟩,⟨13,Ì⟩,⟨14,Ì⟩,{on:=15,ground:=Þ Ñ}],Á⟩
def Fc:å:=⟨Â 29,ë 105 (Ò 28) 1,0, "work.go:57",#[⟨16,Õ⟩,⟨0,Ì⟩,⟨1,Ì⟩,{on:=2,ground:=Þ Ñ},{on:=3,ground:=Þ Ñ},{on:=4,ground:=Þ Ñ},⟨5,Ì⟩,⟨6,Ì⟩,⟨7,Ì⟩,⟨8,Ì⟩,⟨9,Ì⟩,⟨10,Ì⟩,⟨11,Ì⟩,⟨12,Ì⟩,⟨13,Ì⟩,⟨14,Ì⟩,{on:=15,ground:=Þ Ñ}],Á⟩
def Cu:å:=⟨Á,ŵ 65 (Ò 29)<|Ò 26,0, "work.go:57",#[⟨17,Õ⟩,⟨14,Õ⟩,⟨12,Ŷ⟩,⟨0,Ì⟩,⟨1,Ì⟩,{on:=2,ground:=Þ Ñ},{on:=3,ground:=Þ Ñ},{on:=4,ground:=Þ Ñ},⟨5,Ì⟩,⟨6,Ì⟩,⟨7,Ì⟩,⟨8,Ì⟩,⟨9,Ì⟩,⟨10,Ì⟩,⟨11,Ì⟩,⟨12,Ì⟩,⟨13,Ì⟩,⟨14,Ì⟩,{on:=15,ground:=Þ Ñ}],Á⟩
def Cv:å:=⟨Â 30,Ţ 25 (Ò 15)<|Ò 17,0, "work.go:57",#[⟨2,Õ⟩,⟨4,Õ⟩,⟨0,Ì⟩,⟨1,Ì⟩,⟨2,Ì⟩,⟨3,Ì⟩,⟨4,Ì⟩,⟨5,Ì⟩,⟨6,Ì⟩,⟨7,Ì⟩,⟨8,Ì⟩,⟨9,Ì⟩,⟨10,Ì⟩,⟨11,Ì⟩,⟨12,Ì⟩,⟨13,Ì⟩,⟨14,Ì⟩,⟨15,Ì⟩,⟨16,Ì⟩,⟨17,Ì⟩,⟨18,Ì⟩],Á⟩
def Cw:å:=⟨Á,ŵ 9 (Ò 30)<|Ò 27,0, "work.go:57",#[⟨19,Õ⟩,⟨15,Õ⟩,⟨18,Ŷ⟩,⟨0,Ì⟩,⟨1,Ì⟩,⟨2,Ì⟩,⟨3,Ì⟩,⟨4,Ì⟩,⟨5,Ì⟩,⟨6,Ì⟩,⟨7,Ì⟩,⟨8,Ì⟩,⟨9,Ì⟩,⟨10,Ì⟩,⟨11,Ì⟩,⟨12,Ì⟩,⟨13,Ì⟩,⟨14,Ì⟩,⟨15,Ì⟩,⟨16,Ì⟩,⟨17,Ì⟩,⟨18,Ì⟩],Á⟩
def zh:Array å:=#[HT,E4,HU,HY,E5,HZ,E6,E7,E8,E9,H0,Fa,Cr,vA,Cs,Ct,Fb,Fc,Cu,Cv,Cw]
def mR(tb a b c N d:Nat)(e f:Ð)(x:(Option Addr×Nat×Nat)×ByteArray):Nat->Ð
 |0=>À<|Â ⟨tb,3,Á⟩
 |1=>À<|Â ⟨b,0,Á⟩
 |2=>Æ (Â ⟨c,0,Á⟩) N N
 |3=>À<|Â ⟨tb,1,Á⟩
 |4=>É Î d
 |5=>À<|Â ⟨tb,2,Á⟩
 |6=>À<|Â ⟨a,0,Á⟩
 |7=>À<|Â ⟨a,0,Á⟩
 |8=>À<|Â ⟨a,2,Á⟩
 |9=>f
 |10=>À<|Â ⟨tb,0,Á⟩
 |11=>e
 |12=>ñ #[Æ x.1.1 x.1.2.1 x.1.2.2,á x.2]
 |13=>ñ #[Æ x.1.1 x.1.2.1 x.1.2.2,á x.2]
 |14=>Æ x.1.1 x.1.2.1 x.1.2.2
 |15=>á x.2
 |16=>À<|Â ⟨b,0,Á⟩
 |17=>À<|Â ⟨b,2,Á⟩
 |19=>À<|Â ⟨c,d,Á⟩
 |_=>Å
structure Fe(il:fe)(ga gb an pl:Nat)(sT:Ð)(Q:Ð->ByteArray->fe->Prop)(listed:Array Bool)(x:(Option Addr×Nat×Nat)×ByteArray)(l:fe):Prop where
 r:iC (λa=>a=⟨gb,2,Á⟩\/a=⟨an,pl,Á⟩) il l
 vB:listed.getD 12 Í=Ô->∃y,Q (Æ x.1.1 x.1.2.1 x.1.2.2) x.2 y/\(∀b,y.M b->l.M b/\l.w.heap[b]?=y.w.heap[b]?)
 I:listed.getD 18 Í=Ô->l.w.cell? ⟨gb,2,Á⟩=Â (Æ x.1.1 x.1.2.1 x.1.2.2)
 N:listed.getD 20 Í=Ô->l.w.cell? ⟨an,pl,Á⟩=Â (á x.2)
def Fe.C{d l:fe}{Q:Ð->ByteArray->fe->Prop}{listed:Array Bool}{x:(Option Addr×Nat×Nat)×ByteArray}(h:Fe d n j b k v Q listed x l)(o:i≠12)(p:i≠18)(s:i≠20)(e:d.r ⟨j,2,Á⟩/\d.r ⟨b,k,Á⟩)(m:ß)(r:fH l l.w m):Fe d n j b k v Q (listed.setIfInBounds i Ô) x {l with w:=m}:=by
 have t:∀a,(a=⟨j,2,Á⟩\/a=⟨b,k,Á⟩)->d.r a:=λa u=>by rcases u with rfl|rfl;exact e.1;exact e.2
 refine⟨h.r.N t r,λq=> ?_,λq=> ?_,λq=> ?_⟩
 .rw[è Í o]at q;let⟨y,z,f⟩:=h.vB q;exact⟨y,z,λc g=>⟨(f c g).1,(r.I c (f c g).1).trans (f c g).2⟩⟩
 .rw[è Í p]at q;exact(r.N _<|by rw[h.r.C];exact Ã e.1).trans<|h.I q
 .rw[è Í s]at q;exact(r.N _<|by rw[h.r.C];exact Ã e.2).trans<|h.N q
section
variable{J:Jd}{il:fe}{ga gb an pl:Nat}{sT:Ð}{Q:Ð->ByteArray->fe->Prop}
def aie(S:gw il)(hq:¬il.q)(ht:d.size=37)(Cx:d[1]?=Â (Æ (Â ⟨an,0,Á⟩) i i))(Rb:d[5]?=Â (À<|Â ⟨n,0,Á⟩))(hO:il.O n) (X:il.w.cell? ⟨n,0,Á⟩=Â v) (Y:il.w.cell? ⟨n,1,Á⟩=Â (É Î pl)) (c2:il.w.cell? ⟨n,2,Á⟩=Â (À<|Â ⟨ga,0,Á⟩)) (c3:il.w.cell? ⟨n,3,Á⟩=Â (À<|Â ⟨gb,0,Á⟩)) (uk:il.N ⟨ga,2,Á⟩) (nk:il.w.cell? ⟨ga,2,Á⟩=Â sT) (F:il.r ⟨gb,2,Á⟩) (H:il.r ⟨an,pl,Á⟩) (e1:(il.w.cell? ⟨gb,2,Á⟩).isSome=Ô) (e2:(il.w.cell? ⟨an,pl,Á⟩).isSome=Ô) (z1:il.w.frozen? ⟨gb,2,Á⟩=Í) (z2:il.w.frozen? ⟨an,pl,Á⟩=Í) (rC:pl<i) (hN:i<1000000) (lk:(⟨gb,2,Á⟩:ã)≠⟨an,pl,Á⟩) (tX:∀l,iC (λa=>a=⟨gb,2,Á⟩\/a=⟨an,pl,Á⟩) il l->∀I lM,fi Ä Í (λl' g'=>l'.d=l.d/\∃p g c str,g'=G (I.finish<|ñ #[Æ p g c,á str]) lM/\Q (Æ p g c) str l') (lZ l)<|G (Ĉ Ä 66 #[sT,v] ĥ)<|I::lM) (md:ă) (listed:Array Bool) (a:Š) (l:fe) (k:Nat) (rest:List Nat) (hI:II zh d (mR n ga gb an i pl v sT) (Fe il ga gb an pl sT Q) listed a l) (D:k∈Ü md zh listed): fi Ä Í (λl' g'=>∃u,g'=G ((base 49).at u<|Ï zh rest::L) qX/\II zh d (mR n ga gb an i pl v sT) (Fe il ga gb an pl sT Q) (listed.setIfInBounds k Ô) u l') l (G ((base 49).at a<|Ï zh (k::rest)::L) qX):=by
 let⟨x,s,B⟩:=hI;have K:qL zh d.size=Ô:=by rw[ht];decide
 have V:=Q8 D;have gJ:=zg D;have M:=B.r.fx;have N:¬l.q:=by rwa[B.r.q]
 have W:∀y:ã,(y=⟨gb,2,Á⟩\/y=⟨an,pl,Á⟩)->il.r y:=λy ha=>by rcases ha with rfl|rfl;exact F;exact H
 have nz:a.tmps[1]?=Â (Æ (Â ⟨an,0,Á⟩) i i):=(s.C A).trans Cx;have um:a.tmps[5]?=Â (À<|Â ⟨n,0,Á⟩):=(s.C A).trans Rb;have I:∀j m,il.w.cell? ⟨n,j,Á⟩=Â m->gW l ⟨n,j,Á⟩/\l.w.cell? ⟨n,j,Á⟩=Â m:=λj m h=>⟨Ã<|Ã<|B.r.O n hO,by rwa[gK<|B.r.r n<|Ã hO]⟩;have Rc:¬((⟨ga,2,Á⟩:ã)=⟨gb,2,Á⟩\/(⟨ga,2,Á⟩:ã)=⟨an,pl,Á⟩):=λq=>by
  rcases q with q|q
  .exact S.Y _ F<|q▸uk
  .exact S.Y _ H<|q▸uk
 have H2:gW l ⟨ga,2,Á⟩/\l.w.cell? ⟨ga,2,Á⟩=Â sT:=⟨Ç (Ç<|by rwa[B.r.c]),by rwa[B.r.e _ (Ç uk) Rc]⟩;have Re:(pl:Int)<(i:Int):=Z
 have jH:zh.size=21:=A
 rw[jH]at gJ;match k,gJ with
 |0,_=>
  refine ik (o:=HT) K s U U D (by k_ne) M N (λt r=> ?_) (λt r e E=> ?_)<|B.C A A A ⟨F,H⟩
  .simp only[mR,HT];go_simp
  .simp[go_sem,HT,um]at E
 |1,_=>
  have u:a.tmps[13]?=Â (À<|Â ⟨n,3,Á⟩):=s.r 0 HT 13 U (ia (o:=E4) D U U) U;refine ik (o:=E4) K s U U D (by k_ne) M N (λt r=> ?_) (λt r e E=> ?_)<|B.C A A A ⟨F,H⟩
  .have J:t.cell? ⟨n,3,Á⟩=Â (À<|Â ⟨gb,0,Á⟩):=((I 3 _ c3).1.r r).trans (I 3 _ c3).2;simp only[mR,E4];go_simp
  .have J:t.cell? ⟨n,3,Á⟩=Â (À<|Â ⟨gb,0,Á⟩):=((I 3 _ c3).1.r r).trans (I 3 _ c3).2;have b:e=⟨Ā ⟨n,3,Á⟩,Í,Í⟩:=by simp[go_sem,E4,J,u]at E;exact E
   subst b;exact(I 3 _ c3).1.C
 |2,_=>
  refine ik (o:=HU) K s U U D (by k_ne) M N (λt r=> ?_) (λt r e E=> ?_)<|B.C A A A ⟨F,H⟩
  .simp only[mR,HU];go_simp
  .simp[go_sem,HU,nz]at E
 |3,_=>
  refine ik (o:=HY) K s U U D (by k_ne) M N (λt r=> ?_) (λt r e E=> ?_)<|B.C A A A ⟨F,H⟩
  .simp only[mR,HY];go_simp
  .simp[go_sem,HY,um]at E
 |4,_=>
  have u:a.tmps[16]?=Â (À<|Â ⟨n,1,Á⟩):=s.r 3 HY 16 U (ia (o:=E5) D U U) U;refine ik (o:=E5) K s U U D (by k_ne) M N (λt r=> ?_) (λt r e E=> ?_)<|B.C A A A ⟨F,H⟩
  .have J:t.cell? ⟨n,1,Á⟩=Â (É Î pl):=((I 1 _ Y).1.r r).trans (I 1 _ Y).2;simp only[mR,E5];go_simp
  .have J:t.cell? ⟨n,1,Á⟩=Â (É Î pl):=((I 1 _ Y).1.r r).trans (I 1 _ Y).2;have b:e=⟨Ā ⟨n,1,Á⟩,Í,Í⟩:=by simp[go_sem,E5,J,u]at E;exact E
   subst b;exact(I 1 _ Y).1.C
 |5,_=>
  refine ik (o:=HZ) K s U U D (by k_ne) M N (λt r=> ?_) (λt r e E=> ?_)<|B.C A A A ⟨F,H⟩
  .simp only[mR,HZ];go_simp
  .simp[go_sem,HZ,um]at E
 |6,_=>
  have u:a.tmps[18]?=Â (À<|Â ⟨n,2,Á⟩):=s.r 5 HZ 18 U (ia (o:=E6) D U U) U;refine ik (o:=E6) K s U U D (by k_ne) M N (λt r=> ?_) (λt r e E=> ?_)<|B.C A A A ⟨F,H⟩
  .have J:t.cell? ⟨n,2,Á⟩=Â (À<|Â ⟨ga,0,Á⟩):=((I 2 _ c2).1.r r).trans (I 2 _ c2).2;simp only[mR,E6];go_simp
  .have J:t.cell? ⟨n,2,Á⟩=Â (À<|Â ⟨ga,0,Á⟩):=((I 2 _ c2).1.r r).trans (I 2 _ c2).2;have b:e=⟨Ā ⟨n,2,Á⟩,Í,Í⟩:=by simp[go_sem,E6,J,u]at E;exact E
   subst b;exact(I 2 _ c2).1.C
 |7,_=>
  have u:a.tmps[19]?=Â (À<|Â ⟨ga,0,Á⟩):=s.r 6 E6 19 U (ia (o:=E7) D U U) U;refine ik (o:=E7) K s U U D (by k_ne) M N (λt r=> ?_) (λt r e E=> ?_)<|B.C A A A ⟨F,H⟩
  .simp only[mR,E7];go_simp
  .simp[go_sem,E7,u]at E
 |8,_=>
  have u:a.tmps[20]?=Â (À<|Â ⟨ga,0,Á⟩):=s.r 7 E7 20 U (ia (o:=E8) D U U) U;refine ik (o:=E8) K s U U D (by k_ne) M N (λt r=> ?_) (λt r e E=> ?_)<|B.C A A A ⟨F,H⟩
  .simp only[mR,E8];go_simp
  .simp[go_sem,E8,u]at E
 |9,_=>
  have u:a.tmps[21]?=Â (À<|Â ⟨ga,2,Á⟩):=s.r 8 E8 21 U (ia (o:=E9) D U U) U;refine ik (o:=E9) K s U U D (by k_ne) M N (λt r=> ?_) (λt r e E=> ?_)<|B.C A A A ⟨F,H⟩
  .have J:t.cell? ⟨ga,2,Á⟩=Â (sT):=(H2.1.r r).trans H2.2;simp only[mR,E9];go_simp
  .have J:t.cell? ⟨ga,2,Á⟩=Â (sT):=(H2.1.r r).trans H2.2;have b:e=⟨Ā ⟨ga,2,Á⟩,Í,Í⟩:=by simp[go_sem,E9,J,u]at E;exact E
   subst b;exact H2.1.C
 |10,_=>
  refine ik (o:=H0) K s U U D (by k_ne) M N (λt r=> ?_) (λt r e E=> ?_)<|B.C A A A ⟨F,H⟩
  .simp only[mR,H0];go_simp
  .simp[go_sem,H0,um]at E
 |11,_=>
  have u:a.tmps[23]?=Â (À<|Â ⟨n,0,Á⟩):=s.r 10 H0 23 U (ia (o:=Fa) D U U) U;refine ik (o:=Fa) K s U U D (by k_ne) M N (λt r=> ?_) (λt r e E=> ?_)<|B.C A A A ⟨F,H⟩
  .have J:t.cell? ⟨n,0,Á⟩=Â (v):=((I 0 _ X).1.r r).trans (I 0 _ X).2;simp only[mR,Fa];go_simp
  .have J:t.cell? ⟨n,0,Á⟩=Â (v):=((I 0 _ X).1.r r).trans (I 0 _ X).2;have b:e=⟨Ā ⟨n,0,Á⟩,Í,Í⟩:=by simp[go_sem,Fa,J,u]at E;exact E
   subst b;exact(I 0 _ X).1.C
 |12,_=>
  have H3:a.tmps[22]?=Â (sT):=s.r 9 E9 22 U (ia (o:=Cr) D U U) U;have LH:a.tmps[24]?=Â (v):=s.r 11 Fa 24 U (ia (o:=Cr) D U U) U;refine YV (o:=Cr) K s U U D (by k_ne) M (f:=66) (args:=#[sT,v]) (λw=>by simp only[Cr];go_simp) (λw=>ŏ (o:=Cr) U Tryz.func66 U U #[]) λt r=> ?_;have T:=B.r.N W r;refine((tX _ T _ _).lZ<|T.G S).fN ?_;rintro l' g' ⟨y,⟨hy0,p,g,c,str,rfl,hQ⟩,rfl,hA,YY,aif,aii⟩;refine⟨((p,g,c),str),U,⟨T.Q9 W hA hy0,λ_=>⟨y,hQ,λb P=>⟨?_,U⟩⟩,λq=> ?_,λq=> ?_⟩,λj u=> ?_⟩
  .rcases P with q|q
   .exact Ã<|Ã q
   .rw[YY]at q;exact q.elim (λz=>Ã<|Ç z) Ç
  .rw[è Í A]at q;exact absurd (s.I (o:=Cu) U q U)<|xh V
  .rw[è Í A]at q;exact absurd (s.I (o:=Cw) U q U)<|xh V
  .match j,u with
   |12,u=>exact absurd u<|xh V
   |13,u=>exact absurd (s.I (o:=vA) U u U)<|xh V
   |14,u=>exact absurd (s.I (o:=vA) U (s.I (j:=13) (o:=Cs) U u U) U)<|xh V
   |15,u=>exact absurd (s.I (o:=vA) U (s.I (j:=13) (o:=Ct) U u U) U)<|xh V
   |0,_|1,_|2,_|3,_|4,_|5,_|6,_|7,_|8,_|9,_|10,_|11,_|16,_|17,_|18,_|19,_|20,_|g+21,_=>rfl
 |13,_=>
  have u:a.tmps[25]?=Â (ñ #[Æ x.1.1 x.1.2.1 x.1.2.2,á x.2]):=s.r 12 Cr 25 U (ia (o:=vA) D U U) U;refine ik (o:=vA) K s U U D (by k_ne) M N (λt r=> ?_) (λt r e E=> ?_)<|B.C A A A ⟨F,H⟩
  .simp only[mR,vA];go_simp
  .simp[go_sem,vA,u]at E
 |14,_=>
  have u:a.tmps[12]?=Â (ñ #[Æ x.1.1 x.1.2.1 x.1.2.2,á x.2]):=s.r 13 vA 12 U (ia (o:=Cs) D U U) U;refine ik (o:=Cs) K s U U D (by k_ne) M N (λt r=> ?_) (λt r e E=> ?_)<|B.C A A A ⟨F,H⟩
  .simp only[mR,Cs];go_simp
  .simp[go_sem,Cs,u]at E
 |15,_=>
  have u:a.tmps[12]?=Â (ñ #[Æ x.1.1 x.1.2.1 x.1.2.2,á x.2]):=s.r 13 vA 12 U (ia (o:=Ct) D U U) U;refine ik (o:=Ct) K s U U D (by k_ne) M N (λt r=> ?_) (λt r e E=> ?_)<|B.C A A A ⟨F,H⟩
  .simp only[mR,Ct];go_simp
  .simp[go_sem,Ct,u]at E
 |16,_=>
  have u:a.tmps[14]?=Â (À<|Â ⟨gb,0,Á⟩):=s.r 1 E4 14 U (ia (o:=Fb) D U U) U;refine ik (o:=Fb) K s U U D (by k_ne) M N (λt r=> ?_) (λt r e E=> ?_)<|B.C A A A ⟨F,H⟩
  .simp only[mR,Fb];go_simp
  .simp[go_sem,Fb,u]at E
 |17,_=>
  have u:a.tmps[28]?=Â (À<|Â ⟨gb,0,Á⟩):=s.r 16 Fb 28 U (ia (o:=Fc) D U U) U;refine ik (o:=Fc) K s U U D (by k_ne) M N (λt r=> ?_) (λt r e E=> ?_)<|B.C A A A ⟨F,H⟩
  .simp only[mR,Fc];go_simp
  .simp[go_sem,Fc,u]at E
 |18,_=>
  have h29:a.tmps[29]?=Â (À<|Â ⟨gb,2,Á⟩):=s.r 17 Fc 29 U (ia (o:=Cu) D U U) U;have h26:a.tmps[26]?=Â (Æ x.1.1 x.1.2.1 x.1.2.2):=s.r 14 Cs 26 U (ia (o:=Cu) D U U) U;have T:(l.w.cell? ⟨gb,2,Á⟩).isSome=Ô:=B.r.g _ (Ã U) e1;have Cy:l.w.frozen? ⟨gb,2,Á⟩=Í:=(B.r.S _<|Ã F).trans z1;have lD:qf l ⟨gb,2,Á⟩:=Ç (by rwa[B.r.I]);refine Ra (o:=Cu) (y:=⟨gb,2,Á⟩) (v:=Æ x.1.1 x.1.2.1 x.1.2.2) K s U U U D (by k_ne) M N U lD T Cy (λw J hz=> ?_) (λw J hz=> ?_) λt r=> ?_
  .let⟨u,hu⟩:=Ö.1 J;simp only[Cu];go_simp
  .let⟨u,hu⟩:=Ö.1 J;simp[go_sem,Cu,h29,h26,â _ _ _ _ _ _ (show Ú (Æ x.1.1 x.1.2.1 x.1.2.2)=Ô from rfl),hu,hz]
  .have hA:=B.r.qC S W (x:=⟨gb,2,Á⟩) (v:=Æ x.1.1 x.1.2.1 x.1.2.2) (Ã U) U T;refine⟨hA.N W ⟨r.r,r.I,r.N,r.Y,r.S⟩,λq=> ?_,λq=> ?_,λq=> ?_⟩
   .rw[è Í A]at q;let⟨y,y1,z⟩:=B.vB q;refine⟨y,y1,λb P=>⟨(z b P).1,?_⟩⟩;have Rf:b≠(⟨gb,2,Á⟩:ã).block:=λe=>(B.r.G S).N ⟨gb,2,Á⟩ (by rw[B.r.C];exact Ã F)<|e▸(z b P).1;exact(r.I b (z b P).1).trans<|(ll Rf).trans (z b P).2
   .exact(r.N _ (by rw[B.r.C];first|exact Ã F|exact Ã H)).trans<|tO (Ö.1 T).choose_spec
   .rw[è Í A]at q;exact(r.N ⟨an,pl,Á⟩<|by rw[B.r.C];exact Ã H).trans<|(Cq U λe=>lk e.symm).trans<|B.N q
 |19,_=>
  have Rh:a.tmps[15]?=Â (Æ (Â ⟨an,0,Á⟩) i i):=s.r 2 HU 15 U (ia (o:=Cv) D U U) U;have Ri:a.tmps[17]?=Â (É Î pl):=s.r 4 E5 17 U (ia (o:=Cv) D U U) U;refine ik (o:=Cv) K s U U D (by k_ne) M N (λt r=> ?_) (λt r e E=> ?_)<|B.C A A A ⟨F,H⟩
  .simp only[mR,Cv];go_simp
  .simp[go_sem,Cv,rC,Re,Rh,Ri]at E
 |20,_=>
  have E:a.tmps[30]?=Â (À<|Â ⟨an,pl,Á⟩):=s.r 19 Cv 30 U (ia (o:=Cw) D U U) U;have h27:a.tmps[27]?=Â (á x.2):=s.r 15 Ct 27 U (ia (o:=Cw) D U U) U;have T:(l.w.cell? ⟨an,pl,Á⟩).isSome=Ô:=B.r.g _ (Ç U) e2;have Cy:l.w.frozen? ⟨an,pl,Á⟩=Í:=(B.r.S _<|Ã H).trans z2;have lD:qf l ⟨an,pl,Á⟩:=Ç (by rwa[B.r.I]);refine Ra (o:=Cw) (y:=⟨an,pl,Á⟩) (v:=á x.2) K s U U U D (by k_ne) M N U lD T Cy (λw J hz=> ?_) (λw J hz=> ?_) λt r=> ?_
  .let⟨u,hu⟩:=Ö.1 J;simp only[Cw];go_simp
  .let⟨u,hu⟩:=Ö.1 J;simp[go_sem,Cw,E,h27,â _ _ _ _ _ _ (show Ú (á x.2)=Ô from rfl),hu,hz]
  .have hA:=B.r.qC S W (x:=⟨an,pl,Á⟩) (v:=á x.2) (Ç U) U T;refine⟨hA.N W ⟨r.r,r.I,r.N,r.Y,r.S⟩,λq=> ?_,λq=> ?_,λq=> ?_⟩
   .rw[è Í A]at q;let⟨y,y1,z⟩:=B.vB q;refine⟨y,y1,λb P=>⟨(z b P).1,?_⟩⟩;have Rf:b≠(⟨an,pl,Á⟩:ã).block:=λe=>(B.r.G S).N ⟨an,pl,Á⟩ (by rw[B.r.C];exact Ã H)<|e▸(z b P).1;exact(r.I b (z b P).1).trans<|(ll Rf).trans (z b P).2
   .rw[è Í A]at q;exact(r.N ⟨gb,2,Á⟩<|by rw[B.r.C];exact Ã F).trans<|(Cq U<|lk).trans<|B.I q
   .exact(r.N _ (by rw[B.r.C];first|exact Ã F|exact Ã H)).trans<|tO (Ö.1 T).choose_spec
 |g+21,h=>exact absurd h Z
end
section
variable{E:ã->Prop}{l c g:fe}
def iC.fg(h:iC E l c)(k:iC E c g):iC E l g:=by have f:=h.C;exact⟨λj e=>k.O j<|h.O j e,λj e=>(k.h j e).elim (h.h j) λq=>Ç<|Ø h.f q,k.Y.trans h.Y,k.I.trans h.I,k.c.trans h.c,k.K.trans h.K,k.q.trans h.q,k.d.trans h.d,k.fx,Ø h.f k.f,λj e=>(k.r j<|h.M e).trans<|h.r j e,λa b i=>(k.e a (by rwa[f]) i).trans<|h.e a b i,λa b=>(k.S a<|by rwa[f]).trans<|h.S a b,λa b q=>k.b a (by rwa[h.K])<|h.b a b q,λa b q=>k.g a b<|h.g a b q⟩
end
def gG(l:fe)(w₁:ß)(o:Η):fe:={l with O:=λb=>l.O b\/b=w₁.heap.size,w:=w₁.alloc o}
def zi{o:Η}(h:j<w.heap.size):(w.alloc o).heap[j]?=w.heap[j]?:=by unfold Ŗ;rw[Array.getElem?_push_lt h];exact(ç h).symm
def mS{o:Η}:(w.alloc o).heap[w.heap.size]?=Â o:=by unfold Ŗ;simp
def LJ{o:Η}:(w.alloc o).heap.size=w.heap.size+1:=by unfold Ŗ;simp
section
variable{J:Jd}{l:fe}{a:Š}{k:List ż}{cs:List ê}{ob:Η}{E:ã->Prop}
def YZ(b:∀j,l.O j->j<w.heap.size)(c:¬l.q):mr l (gG l w ob) w (w.alloc ob) #[]:= ⟨by rw[LJ];omega,λj h=>h.imp id λe=>by omega,λj h=>by rw[LJ];exact h.elim (λq=>Ń<|b j q) λe=>by omega,U,U,U,U,λj d _ _=>zi d,λx a _ _=>gK<|zi a,λx a _=>wS<|zi a,U,U,U,λe f=>by simp at f,by simp[Đ,gG],U,λq=>absurd q c,U⟩
def H4(c:Q[i]?=Â o)(d:ğ o (ŷ Q a.tmps)=Ô)(e:f.kind≠Θ)(g:jS l)(h:¬l.q) (j:∀w,(đ a.eval o).run P w=.ok (.value<|À<|Â ⟨w.heap.size,0,Á⟩) (w.alloc ob)) (m:∀w,(đ a.eval o).events P w #[]=#[]) (n:∀b,fH l l.w b->fi P yQ J (gG l b ob) (G (f.at (a.put o.dst<|À<|Â ⟨b.heap.size,0,Á⟩)<|Ï Q jJ::k) cs)):fi P yQ J l (G (f.at a<|Ï Q (i::jJ)::k) cs):=by
 refine vy c d e λb r=> ?_;rw[j b];refine⟨_,?_,n b r⟩;have:listed P f.fn a o b=#[]:=by unfold listed;rw[m b,Ĳ]
 rw[this];exact YZ (lX g r) h
def LK(s:gw l)(d:∀a,E a->l.r a)(r:fH l l.w u):iC E l (gG l u ob):=by
 have c:=r.r;refine⟨λj h=>Ã h,λj h=>h.imp id λe=>by omega,U,U,U,U,U,U,λj h=> ?_,?_,λj f=>(zi<|È (s.fx j f) c).trans<|r.I j f,λx b _=>(gK<|zi<|È (s.I x b) c).trans<|r.N x b,λx b=>(wT<|zi<|È (s.I x b) c).trans<|r.Y x b,λx b q=> ?_,λx b q=> ?_⟩
 .show j<(u.alloc ob).heap.size;rw[LJ];exact h.elim (λq=>Ń<|È (s.fx j<|Ã q) c) λe=>by omega
 .show l.w.heap.size<=(u.alloc ob).heap.size;rw[LJ];omega
 .show((u.alloc ob).cell? x).isSome=Ô;rw[gK<|zi<|È (s.S x b).2.1 c];exact r.S x b q
 .show((u.alloc ob).cell? x).isSome=Ô;rwa[gK<|zi<|È (s.I x<|Ã<|d x b) c,r.N x<|Ã<|d x b]
def LL{w':ß}{p:Nat}(g:∀j,l.O j->j<w.heap.size)(i:¬l.q)(b:l.O p)(k:w'.heap.size=w.heap.size)(c:∀j,j≠p->w'.heap[j]?=w.heap[j]?)(d:w'.os=w.os/\w'.output=w.output/\w'.tape=w.tape)(f:∀e∈V,uj l e):mr l {l with w:=w'} w w' V:=by refine⟨Z,λ_ h=>Ã h,λj h=>by rw[k];exact g j h,U,U,U,U,λj _ a _=>c j λe=>a<|e▸b,λx _ a _=>gK (c _ λe=>a<|e▸b),λx _ a=>wS (c _ λe=>a<|e▸b),d.1,d.2.1,d.2.2,λe h=>(f e h).1,(LA f _).symm,U,λq=>absurd q i,U⟩
end
def iT(w:ß)(p:Nat)(v0 v1 v2 v3:Ð):ß:=(((w.setCell ⟨p,0,Á⟩ v0).setCell ⟨p,1,Á⟩ v1).setCell ⟨p,2,Á⟩ v2).setCell ⟨p,3,Á⟩ v3
section
variable{p:Nat}{v0 v1 v2 v3:Ð}
def xi:(iT w p v0 v1 v2 v3).heap.size=w.heap.size:=by unfold iT;rw[jO,jO,jO,jO]
def zj(h:j≠p):(iT w p v0 v1 v2 v3).heap[j]?=w.heap[j]?:=by unfold iT;rw[ll h,ll h,ll h,ll h]
def Rj(c:w.cell? ⟨p,0,Á⟩=Â v)(d:w.cell? ⟨p,1,Á⟩=Â x)(e:w.cell? ⟨p,2,Á⟩=Â z)(f:w.cell? ⟨p,3,Á⟩=Â jQ): (iT w p v0 v1 v2 v3).cell? ⟨p,0,Á⟩=Â v0/\(iT w p v0 v1 v2 v3).cell? ⟨p,1,Á⟩=Â v1/\(iT w p v0 v1 v2 v3).cell? ⟨p,2,Á⟩=Â v2/\(iT w p v0 v1 v2 v3).cell? ⟨p,3,Á⟩=Â v3:=by
 have b:∀(w:ß) (i j:Nat) (a:Ð),i≠j->(w.setCell ⟨p,i,Á⟩ a).cell? ⟨p,j,Á⟩=w.cell? ⟨p,j,Á⟩:=λw i j a h=>yE<|Ç h;unfold iT;refine⟨?_,?_,?_,(tO<|(b _ 2 3 _ A).trans<|(b _ 1 3 _ A).trans<|(b _ 0 3 _ A).trans f)⟩
 .rw[b _ 3 0 _ A,b _ 2 0 _ A,b _ 1 0 _ A];exact tO c
 .rw[b _ 3 1 _ A,b _ 2 1 _ A];exact tO<|(b _ 0 1 _ A).trans d
 .rw[b _ 3 2 _ A];exact tO<|(b _ 1 2 _ A).trans<|(b _ 0 2 _ A).trans e
def Rk{E:ã->Prop}{l e:fe}(s:gw l)(f:∀a,E a->l.r a)(h:iC E l e){w':ß}(r:fH e e.w u)(k:l.w.heap.size<=p)(g:w'.heap.size=u.heap.size)(i:∀j,j≠p->w'.heap[j]?=u.heap[j]?):iC E l {e with w:=w'}:=by
 have b:=h.N f r;have c:∀{j:Nat},j<l.w.heap.size->w'.heap[j]?=u.heap[j]?:=λ{j} q=>i j Z;refine⟨b.O,b.h,b.Y,b.I,b.c,b.K,b.q,b.d,λj q=> ?_,?_,λj q=>(c<|s.fx j q).trans<|b.r j q,λa q n=>(gK<|c<|s.I a q).trans<|b.e a q n,λa q=>(wT<|c<|s.I a q).trans<|b.S a q,λa q z=> ?_,λa q z=> ?_⟩
 .show j<w'.heap.size;rw[g];exact b.fx j q
 .show l.w.heap.size<=w'.heap.size;rw[g];exact b.f
 .show(w'.cell? a).isSome=Ô;rw[gK<|c (s.S a q).2.1];exact b.b a q z
 .show(w'.cell? a).isSome=Ô;rw[gK<|c<|s.I a<|Ã<|f a q];exact b.g a q z
end
def uo(t:Array Ð)(h:t.size=n):∃u:Nat->Ð,t=((ä n).map u).toArray:=by subst h;refine⟨λi=>t.getD i Å,Array.ext fj λi a _=> ?_⟩;simp[Array.getD,a]
def Rl(t:Array Ð)(h:t.size=37):∃a b c d e f g i j k l m n o p q r s u v w x y z B C D E F G H I J K L M N:Ð,t=#[a,b,c,d,e,f,g,i,j,k,l,m,n,o,p,q,r,s,u,v,w,x,y,z,B,C,D,E,F,G,H,I,J,K,L,M,N]:=by obtain⟨_,rfl⟩:=uo t h;exact⟨_,_,_,_,_,_,_,_,_,_,_,_,_,_,_,_,_,_,_,_,_,_,_,_,_,_,_,_,_,_,_,_,_,_,_,_,_,U⟩
end Go.Proofs.Y.fv
namespace Go.Proofs.Y.fv
open Go Go.Conc Go.Proofs.Y.Lift Go.RowKit Go.Conc.Lib Go.ConcR.Gen
section
variable{Ψ:ß->Prop}{L:WgLink}{l:fe}{e:Jd}{k:List ż}
def aij(H:WgLib P L)(h:lY Ψ l b)(hT:∀a,SW Ψ l b a->fi P Í e {l with d:=0,w:=a} (G (f.at (y.put ((Q[i]?).bind (·.dst))<|ñ #[])<|Ï Q jJ::k) qX)): ∀(r:Nat) (c:Int) (j m o p q s t u v x z B C D E F I J K M N O S T V W X Y qg qh pY pf pg oK oL pZ p6 p7 p8 p9 qa qc qd qe nU nV rJ Bf Bg Bh Bj Bl Bm Bn Bo Bp Bq Br Bs Bt Bu Bv Bw Bx By Bz BA BB BD BF BG BH BJ BK BL BM BN BO BP BQ BR BS BT BU BV BW BX BY BZ B1 B2 B3 B4 B5 B6 B7 B8 B9 Ca Cb Cc Cd Ce Cf Cg Ch Ci Cj Ck Cl Cm Cn Co Cp:Ð) (a:ß),SW Ψ l b a->(c<=(r:Int)+1/\(r:Int)+1<=c)->r+1<1000000-> fi P Í (Hh P Í b (fi P Í e)<|r+1) {l with d:=1,w:=a} (G ((base L.add).at ⟨#[À<|Â ⟨b,0,Á⟩,j,m,o,p,q,s,t,É û c,u,v,x,z,B,C,D,E,F,I,J,K,M,N,O,S,T,V,W,X,Y,qg,qh,pY,pf,pg,oK,oL,pZ,p6,p7,p8,p9,qa,qc,qd,qe,nU,nV,rJ,Bf,Bg,Bh,Bj,Bl,Bm,Bn,Bo,Bp,Bq,Br,Bs,Bt,Bu,Bv,Bw,Bx,By,Bz,BA,BB,BD,BF,BG,BH,BJ,BK,BL,BM,BN,BO,BP,BQ,BR,BS,BT,BU,BV,BW,BX,BY,BZ,B1,B2,B3,B4,B5,B6,B7,B8,B9,Ca,Cb,Cc,Cd,Ce,Cf,Cg,Ch,Ci,Cj,Ck,Cl,Cm,Cn,Co,À<|Â ⟨b,1,Á⟩,Cp],[dcall L.enable #[]]⟩ [Ï #[{dst:=Â 113,op:=ý<|Ò 0,type:=L.tWgP,pos:= "waitgroup.go:142",after:=#[],guard:=Á},{dst:=Â 114,op:=ĕ<|Ò 113,type:=0,pos:= "waitgroup.go:142",after:=#[{on:=0,ground:=Õ}],guard:=Á},{dst:=Â 115,op:=ë L.tWg (Ò 114) 2,type:=0,pos:= "waitgroup.go:142",after:=#[{on:=1,ground:=Õ}],guard:=Á},{dst:=Â 116,op:= Ď {callee:=ü<|ċ L.semrelease,args:= #[Ò 115,ò<|ĭ Í,ò<|É Î 0],argTypes:=#[L.tPU32,4,3]},type:=0,pos:= "waitgroup.go:142",after:=#[{on:=2,ground:=Õ}],guard:=Á}] [3],ï 2,ö<|à 33 #[{dst:=Â 111,op:=ý<|Ò 8,type:=L.tU32,pos:= "waitgroup.go:141",after:=#[],guard:=Á},{dst:=Â 112,op:=ń BinOp.sub L.tU32 (Ò 111) (ò<|É û 1) L.tU32,type:=L.tU32,pos:= "waitgroup.go:141",after:=#[{on:=0,ground:=Õ}],guard:=Á},{dst:=Â 8,op:=ĳ<|Ò 112,type:=L.tU32,pos:= "waitgroup.go:141",after:= #[{on:=1,ground:=Õ},{on:=0,ground:=Ì},{on:=1,ground:=Ì}],guard:=Á}] Í,ā<|((à 32 #[{dst:=Â 109,op:=ý<|Ò 8,type:=L.tU32,pos:= "waitgroup.go:141",after:=#[],guard:=Á},{dst:=Â 110,op:= ń BinOp.neq L.tU32 (Ò 109) (ò<|É û 0) L.tU32,type:=4,pos:= "waitgroup.go:141",after:=#[{on:=0,ground:=Õ}],guard:=Á}] Í).seq<|ŗ (Ò 110) Ř<|ř 1).seq<|(Ħ 2<|à 34 #[{dst:=Â 113,op:=ý<|Ò 0,type:=L.tWgP,pos:= "waitgroup.go:142",after:=#[],guard:=Á},{dst:=Â 114,op:=ĕ<|Ò 113,type:=0,pos:= "waitgroup.go:142",after:=#[{on:=0,ground:=Õ}],guard:=Á},{dst:=Â 115,op:=ë L.tWg (Ò 114) 2,type:=0,pos:= "waitgroup.go:142",after:=#[{on:=1,ground:=Õ}],guard:=Á},{dst:=Â 116,op:= Ď {callee:=ü<|ċ L.semrelease,args:= #[Ò 115,ò<|ĭ Í,ò<|É Î 0],argTypes:=#[L.tPU32,4,3]},type:=0,pos:= "waitgroup.go:142",after:=#[{on:=2,ground:=Õ}],guard:=Á}] Í).seq<|à 33 #[{dst:=Â 111,op:=ý<|Ò 8,type:=L.tU32,pos:= "waitgroup.go:141",after:=#[],guard:=Á},{dst:=Â 112,op:= ń BinOp.sub L.tU32 (Ò 111) (ò<|É û 1) L.tU32,type:=L.tU32,pos:= "waitgroup.go:141",after:=#[{on:=0,ground:=Õ}],guard:=Á},{dst:=Â 8,op:=ĳ<|Ò 112,type:=L.tU32,pos:= "waitgroup.go:141",after:= #[{on:=1,ground:=Õ},{on:=0,ground:=Ì},{on:=1,ground:=Ì}],guard:=Á}] Í,ï 1])<|(base L.done).at {tmps:= #[À<|Â {block:=b,off:=0},Å,À<|Â {block:=b,off:=0},Å],defers:=[]} [Ï #[{dst:=Â 2,op:=ý<|Ò 0,type:=L.tWgP,pos:= "waitgroup.go:156",after:=#[],guard:=Á},{dst:=Â 3,op:= Ď {callee:=ü<|ċ L.add,args:=#[Ò 2,ò<|É Î<|-1],argTypes:=#[L.tWgP,3]},type:=0,pos:= "waitgroup.go:156",after:=#[{on:=0,ground:=Õ}],guard:=Á}] [1]]::f.at y (Ï Q (i::jJ)::k)::qX):=by
 intro r;lib_facts
 induction r with
 |zero=>
  intro c j m o p q s t u v x z B C D E F I J K M N O S T V W X Y qg qh pY pf pg oK oL pZ p6 p7 p8 p9 qa qc qd qe nU nV rJ Bf Bg Bh Bj Bl Bm Bn Bo Bp Bq Br Bs Bt Bu Bv Bw Bx By Bz BA BB BD BF BG BH BJ BK BL BM BN BO BP BQ BR BS BT BU BV BW BX BY BZ B1 B2 B3 B4 B5 B6 B7 B8 B9 Ca Cb Cc Cd Ce Cf Cg Ch Ci Cj Ck Cl Cm Cn Co Cp a hF HS gJ;have e1:c=1:=Z
  subst e1;clear HS gJ;refine mE (l:={l with d:=1,w:=a}) h hF λpb hF=>⟨U,U,ů U U H.f_semrelease<|Ę L,_,U,λa n hc hf=>(Ő U U (by k_ne) U H.f_semrelease (Ť L) (Ę L) (ť L) (Ŧ L) (by simp[ę,gP]) hc hf).trans fP,?_⟩;walk_nrm;apply iX (l:={l with d:=1,w:=pb}) h hF (n:=50);iterate 17 w_go fC
  refine Ë λa g=> ?_;replace hF:=fC hF g;clear g;refine rI (l:={l with d:=1,w:=a}) h hF (Ç U) U (λw=>EY ħ fj U H.f_enable (Ĺ L) (ĺ L) (Ļ L) (ļ L) w) λFf hF=> ?_;have oH:Đ 1 #[jw ħ]=0:=rfl;rw[oH];apply iX (l:={l with d:=0,w:=Ff}) h hF (n:=10);u_leave0 H.f_add fC hF;iterate 2 w_go fC
  u_leave0 H.f_done fC hF
  refine Ë λa g=> ?_;replace hF:=fC hF g;clear g;exact hT _ hF
 |succ r ih=>
  intro c j m o p q s t u v x z B C D E F I J K M N O S T V W X Y qg qh pY pf pg oK oL pZ p6 p7 p8 p9 qa qc qd qe nU nV rJ Bf Bg Bh Bj Bl Bm Bn Bo Bp Bq Br Bs Bt Bu Bv Bw Bx By Bz BA BB BD BF BG BH BJ BK BL BM BN BO BP BQ BR BS BT BU BV BW BX BY BZ B1 B2 B3 B4 B5 B6 B7 B8 B9 Ca Cb Cc Cd Ce Cf Cg Ch Ci Cj Ck Cl Cm Cn Co Cp a hF HS gJ;have g1:(c-1)%4294967296=c-1:=Z
  have g2:(c-1 !=0)=Ô:=by simp;omega
  refine mE (l:={l with d:=1,w:=a}) h hF λpb hF=>⟨U,U,ů U U H.f_semrelease<|Ę L,_,U,λa n hc hf=>(Ő U U (by k_ne) U H.f_semrelease (Ť L) (Ę L) (ť L) (Ŧ L) (by simp[ę,gP]) hc hf).trans fP,?_⟩;walk_nrm;apply iX (l:={l with d:=1,w:=pb}) h hF (n:=50);iterate 22 w_go fC
  refine Ë λa g=> ?_;replace hF:=fC hF g;clear g;exact ih (c-1) _ _ _ _ _ _ _ _ _ _ _ _ _ _ _ _ _ _ _ _ _ _ _ _ _ _ _ _ _ _ _ _ _ _ _ _ _ _ _ _ _ _ _ _ _ _ _ _ _ _ _ _ _ _ _ _ _ _ _ _ _ _ _ _ _ _ _ _ _ _ _ _ _ _ _ _ _ _ _ _ _ _ _ _ _ _ _ _ _ _ _ _ _ _ _ _ _ _ _ _ _ _ _ _ _ _ _ _ _ _ _ _ _ _ a hF Z Z
end
section
variable{Ψ:ß->Prop}{L:WgLink}{l:fe}{e:Jd}{k:List ż}
def Rm(Ψ:ß->Prop)(l:fe)(b:Nat)(w:ß):Prop:=SW Ψ l b w/\fH l l.w w
def pv(a:lY Ψ l b)(h:Rm Ψ l b w)(r:fH l w u):Rm Ψ l b u:=⟨fC h.1<|a.r r,h.2.fg r⟩
def aik{J:Jd}(a:SW Ψ l b l.w)(c:Goes P yQ (fH l) Go.ConcR.DC0 (λd e=>fi P yQ J {l with w:=e} d) n g l.w):fi P yQ J l g:= QZ c (λ_ _ r=>r) a.1 λ_ _ _ h=>h
def ail(H:WgLib P L)(τ:fe->fe)(Φ:fe->Prop)(h:lY Ψ l b)(D:SW Ψ l b l.w) (O:∀a,fH l l.w a->Φ {l with w:=a}/\(τ {l with w:=a}).d=0/\∃z:ß->Prop,lY z (τ {l with w:=a}) b/\SW z (τ {l with w:=a}) b (τ {l with w:=a}).w/\ ∀j,SW z (τ {l with w:=a}) b j->fi P Í e {τ {l with w:=a}with d:=0,w:=j} (G (f.at (y.put ((Q[i]?).bind (·.dst))<|ñ #[])<|Ï Q jJ::k) qX)): fi P Í (λl g=>Φ l/\yH P Í b (fi P Í e) (τ l) g) l (G ((base L.done).at ⟨#[À<|Â ⟨b,0,Á⟩,Å,Å,Å],[]⟩ [ö<|body_done L])<|f.at y (Ï Q (i::jJ)::k)::qX):=by
 lib_facts;simp only[body_done,doneFn,ő];have hF:Rm Ψ l b l.w:=⟨D,fH.fT _ _⟩;apply aik D (n:=40);u_reg (pv h) hF;u_op (pv h) hF;u_call H.f_add (Ι L) addFn (pv h) hF;u_c ű (pv h) hF;u_cond Ô (pv h) hF;u_c ű (pv h) hF;u_c ű (pv h) hF;u_reg (pv h) hF;u_op (pv h) hF;u_op (pv h) hF;u_c stepG_region_end (pv h) hF;u_cond Ô (pv h) hF;u_reg (pv h) hF;u_op (pv h) hF;u_conv H.underlying_tWgP H.room_tWg (mQ.r hF.1.2.1).choose_spec (pv h) hF;refine Ë λa g=> ?_;replace hF:=pv h hF g;clear g;refine .fB λj r=> ?_;let⟨S,E,z,c,F,q⟩:=O j<|hF.2.fg<|za r;refine⟨S,E,U,_,λ_=>stepG_markAt .releaseMerge fj U U (by k_ne) U H.f_relMerge (x_relMerge_n L) (x_relMerge_b L) (x_relMerge_x L) (x_relMerge_f L) (by simp[ę,fM]),?_⟩;walk_nrm;show fi P Í (P5 P Í b<|fi P Í e) (τ {l with w:=j}) _;clear S r;generalize τ {l with w:=j}=l2 at c F E q|-;replace hF:=F;clear F h D O;apply iX c hF (n:=10);iterate 3 w_go fC
 refine Ë λa g=> ?_;replace hF:=fC hF g;clear g;refine rI (l:={l2 with w:=a}) c hF (Ã U) U (λ_=>stepG_mark0 .disable fj U U (by k_ne) U H.f_disable (x_disable_n L) (x_disable_b L) (x_disable_x L)<|x_disable_f L) λm hF=> ?_;walk_nrm;have X:Đ l2.d #[jw .disable]=1:=by rw[E];rfl
 rw[X];apply iX (l:={l2 with d:=1,w:=m}) c hF (n:=50);iterate 2 w_go fC
 u_defer fC hF
 iterate 8 w_go fC
 u_bub fC hF
 iterate 11 w_go fC
 u_call H.f_uAdd (nm_uAdd L) uAddFn fC hF
 iterate 10 w_go fC
 refine Ë λa g=> ?_;replace hF:=fC hF g;clear g;refine mE (l:={l2 with d:=1,w:=a}) c hF λj hF=>⟨U,U,λv=>⟨_,λa t I=>(stepG_add_atomic U U (by k_ne) U H.f_addU64 (x_addU64_n L) (x_addU64_b L) (x_addU64_x L) ì (x_addU64_f L) U U t I).trans fP,?_⟩⟩;walk_nrm;have T:ì.wrap (v+18446744069414584320)=ì.wrap (v+qH):=rfl;rw[T];clear T;obtain⟨s,J⟩:∃s,ì.wrap (v+qH)=s:=⟨_,U⟩;simp only[J];have K:0<=s:=by rw[<-J];have:ì.wrap (v+qH)=(v+qH)%18446744073709551616:=rfl;rw[this];omega
 clear J v;by_cases p:s=0\/(fY<=s/\s<1000000*fY/\s%fY<1000000)
 .rw[if_pos p];by_cases o:s=0
  .subst o;clear p K;apply iX (l:={l2 with d:=1,w:=j}) c hF (n:=150);iterate 3 w_go fC
   u_leave1 H.f_uAdd fC hF
   iterate 83 w_go fC
   refine Ë λa g=> ?_;replace hF:=fC hF g;clear g;refine rI (l:={l2 with d:=1,w:=a}) c hF (Ç U) U (λw=>EY ħ fj U H.f_enable (Ĺ L) (ĺ L) (Ļ L) (ļ L) w) λm hF=> ?_;have x:Đ 1 #[jw ħ]=0:=rfl;rw[x];apply iX (l:={l2 with d:=0,w:=m}) c hF (n:=10);u_leave0 H.f_add fC hF;iterate 2 w_go fC
   u_leave0 H.f_done fC hF
   refine Ë λa g=> ?_;replace hF:=fC hF g;clear g;exact q _ hF
  .have Y:=p.resolve_left o;clear p o K;let⟨c4,c5,c6⟩:=Y;have q4:(4294967296:Int)<=s:=c4;have M:s<1000000*4294967296:=c5;have V:s%4294967296<1000000:=c6;have f1:=EZ s Z M V;have B:=E1 s Z M V;obtain⟨C,g1⟩:∃C,(s/4294967296+2147483648)%4294967296-2147483648=C:=⟨_,U⟩;have g2:¬C<0:=Z
   have g3:0<C:=Z
   by_cases N:s%4294967296=0
   .rw[N]at B;apply iX (l:={l2 with d:=1,w:=j}) c hF (n:=150);iterate 3 w_go fC
    u_leave1 H.f_uAdd fC hF
    iterate 83 w_go fC
    refine Ë λa g=> ?_;replace hF:=fC hF g;clear g;refine rI (l:={l2 with d:=1,w:=a}) c hF (Ç U) U (λw=>EY ħ fj U H.f_enable (Ĺ L) (ĺ L) (Ļ L) (ļ L) w) λm hF=> ?_;have x:Đ 1 #[jw ħ]=0:=rfl;rw[x];apply iX (l:={l2 with d:=0,w:=m}) c hF (n:=10);u_leave0 H.f_add fC hF;iterate 2 w_go fC
    u_leave0 H.f_done fC hF
    refine Ë λa g=> ?_;replace hF:=fC hF g;clear g;exact q _ hF
   .obtain⟨u,g4⟩:∃u,s%4294967296=u:=⟨_,U⟩;rw[g4]at B N;have W:u%4294967296=u:=Z
    have g6:(u !=0)=Ô:=by simpa using N
    apply iX (l:={l2 with d:=1,w:=j}) c hF (n:=150);iterate 3 w_go fC
    u_leave1 H.f_uAdd fC hF
    iterate 83 w_go fC
    refine Ë λa g=> ?_;replace hF:=fC hF g;clear g;refine rI (l:={l2 with d:=1,w:=a}) c hF (Ç U) U (λw=>EY ħ fj U H.f_enable (Ĺ L) (ĺ L) (Ļ L) (ļ L) w) λm hF=> ?_;have x:Đ 1 #[jw ħ]=0:=rfl;rw[x];apply iX (l:={l2 with d:=0,w:=m}) c hF (n:=10);u_leave0 H.f_add fC hF;iterate 2 w_go fC
    u_leave0 H.f_done fC hF
    refine Ë λa g=> ?_;replace hF:=fC hF g;clear g;exact q _ hF
 .rw[if_neg p];by_cases o:0<s/\s<1000000
  .rw[if_pos o];let⟨q4,M⟩:=o;clear p K;have f1:=EZ s Z Z Z;have B:=E1 s Z Z Z;have g1:(s/4294967296+2147483648)%4294967296-2147483648=0:=Z
   have W:s%4294967296=s:=Z
   rw[W]at B;have g6:(s !=0)=Ô:=by simp;omega
   have V:(s==0)=Í:=by simp;omega
   have C:(s.toNat:Int)=s:=Z
   apply iX (l:={l2 with d:=1,w:=j}) c hF (n:=150);iterate 3 w_go fC
   u_leave1 H.f_uAdd fC hF
   iterate 89 w_go fC
   u_call H.f_uLoad (nm_uLoad L) uLoadFn fC hF
   iterate 9 w_go fC
   refine Ë λa g=> ?_;replace hF:=fC hF g;clear g;refine mE (l:={l2 with d:=1,w:=a}) c hF λj hF=>⟨U,U,λv=>⟨_,λa t=>stepG_load_atomic U U (by k_ne) U H.f_loadU64 (x_loadU64_n L) (x_loadU64_b L) (x_loadU64_x L) ì (x_loadU64_f L) U t,?_⟩⟩;show fi P Í (if v=(s.toNat:Int)then K1 P Í b (fi P Í e) s.toNat else λ_ _=>True) _ _;by_cases u:v=(s.toNat:Int)
   .rw[if_pos u];rw[C]at u;subst u;walk_nrm;have Y:(v !=v)=Í:=fj
    apply iX (l:={l2 with d:=1,w:=j}) c hF (n:=150);iterate 3 w_go fC
    u_leave1 H.f_uLoad fC hF
    iterate 10 w_go fC
    u_call H.f_uStore (nm_uStore L) uStoreFn fC hF
    iterate 5 w_go fC
    refine Ë λa g=> ?_;replace hF:=fC hF g;clear g;refine mE (l:={l2 with d:=1,w:=a}) c hF λj hF=>⟨U,U,_,λa x t I=>stepG_store_atomic U U (by k_ne) U H.f_storeU64 (x_storeU64_n L) (x_storeU64_b L) (x_storeU64_x L) (x_storeU64_f L) U U t I,?_⟩;walk_nrm;obtain⟨r,N⟩:∃r,v.toNat=r+1:=⟨v.toNat-1,Z⟩;rw[N];apply iX (l:={l2 with d:=1,w:=j}) c hF (n:=150);iterate 2 w_go fC
    u_leave0 H.f_uStore fC hF
    iterate 24 w_go fC
    refine Ë λa g=> ?_;replace hF:=fC hF g;clear g;exact aij H c q r v _ _ _ _ _ _ _ _ _ _ _ _ _ _ _ _ _ _ _ _ _ _ _ _ _ _ _ _ _ _ _ _ _ _ _ _ _ _ _ _ _ _ _ _ _ _ _ _ _ _ _ _ _ _ _ _ _ _ _ _ _ _ _ _ _ _ _ _ _ _ _ _ _ _ _ _ _ _ _ _ _ _ _ _ _ _ _ _ _ _ _ _ _ _ _ _ _ _ _ _ _ _ _ _ _ _ _ _ _ _ _ _ _ _ a hF Z Z
   .rw[if_neg u];exact .fB λ_ _=>trivial
  .rw[if_neg o];trivial
end
end Go.Proofs.Y.fv
namespace Go.Proofs.Y.fv
open Go Go.Conc Go.Proofs.Y.Lift Go.RowKit Go.Conc.Lib Go.ConcR.Gen
open Go.Proofs Go.Proofs.YtgpphkdoanciiaaGreatDoor
noncomputable def LN:ġ:=kY ι [1,0,0]
noncomputable def zk (t:Array Ð) (a:List ê):Ý:=G ((base 49).at ⟨t,[]⟩ [ö LN,ā LN,ï 0]) a
structure Cz(an N:Nat)(ib:Option ã)(m c kk:Nat)(t:Array Ð):Prop where
 r:t.size=37
 t1:t[1]?=Â (Æ (Â ⟨an,0,Á⟩) N N)
 t6:t[6]?=Â (Æ ib m c)
 C:t[7]?=Â (É Î m)
 I:t[8]?=Â (É Î kk)
def CB{x:Int}(a:0<=x)(b:x<1000000):Î.wrap x=x:=by rw[Υ];omega
section
variable{f:Jd}{l:fe}{t:Array Ð}{an N ib c kk:Nat}{Q:Ð->ByteArray->fe->Prop}{τ:fe->fe}{Φ:fe->Prop}
def ain(D:gw l)(V:¬l.q)(hd:l.d=0)(W:Cz an N (Â ⟨ib,0,Á⟩) m c kk t)(hkk:kk<m)(hm:m<1000)(hN:N<1000000)(rC:j<N)(zm:l.M ib) (i0:l.w.cell? ⟨ib,kk*4,Á⟩=Â (À O)) (i1:l.w.cell? ⟨ib,kk*4+1,Á⟩=Â (É Î j)) (i2:l.w.cell? ⟨ib,kk*4+2,Á⟩=Â (À<|Â ⟨i,0,Á⟩)) (i3:l.w.cell? ⟨ib,kk*4+3,Á⟩=Â (À<|Â ⟨n,0,Á⟩)) (uk:l.N ⟨i,2,Á⟩) (nk:l.w.cell? ⟨i,2,Á⟩=Â v) (o1:l.r ⟨n,2,Á⟩) (o2:l.r ⟨an,j,Á⟩) (e1:(l.w.cell? ⟨n,2,Á⟩).isSome=Ô) (e2:(l.w.cell? ⟨an,j,Á⟩).isSome=Ô) (z1:l.w.frozen? ⟨n,2,Á⟩=Í) (z2:l.w.frozen? ⟨an,j,Á⟩=Í) (lk:(⟨n,2,Á⟩:ã)≠⟨an,j,Á⟩) (tX:∀u,iC (λa=>a=⟨n,2,Á⟩\/a=⟨an,j,Á⟩) l u->∀cl lM,fi Ä Í (λl'' g'=>l''.d=u.d/\∃p k c str,g'=G (cl.finish<|ñ #[Æ p k c,á str]) lM/\Q (Æ p k c) str l'') (lZ u)<|G (Ĉ Ä 66 #[v,À O] ĥ)<|cl::lM) (AG:∀u (x:(Option Addr×Nat×Nat)×ByteArray),iC (λa=>a=⟨n,2,Á⟩\/a=⟨an,j,Á⟩) l u->(∃y,Q (Æ x.1.1 x.1.2.1 x.1.2.2) x.2 y/\(∀b,y.M b->u.M b/\u.w.heap[b]?=y.w.heap[b]?))->u.w.cell? ⟨n,2,Á⟩=Â (Æ x.1.1 x.1.2.1 x.1.2.2)->u.w.cell? ⟨an,j,Á⟩=Â (á x.2)-> lY (λ_=>True) u n/\SW (λ_=>True) u n u.w/\Φ u/\(τ u).d=0/\∃E:ß->Prop,lY E (τ u) n/\SW E (τ u) n (τ u).w/\∀s X,SW E (τ u) n s->Cz an N (Â ⟨ib,0,Á⟩) m c (kk+1) X->fi Ä Í f {τ u with d:=0,w:=s} (zk X qX)): fi Ä Í (λl g=>Φ l/\yH Ä Í n (fi Ä Í f) (τ l) g) l (zk t qX):=by
 obtain⟨y0,y1,Y,y3,y4,y5,y6,y7,y8,y9,xj,zn,xk,rK,sU,qO,vC,vD,uq,uu,uw,sV,sW,sX,uy,vE,xl,sY,qP,uz,qg,qh,pY,pf,pg,oK,oL,rfl⟩:=Rl t W.r;obtain rfl:y1=Æ (Â ⟨an,0,Á⟩) N N:=by simpa using W.t1
 obtain rfl:y6=Æ (Â ⟨ib,0,Á⟩) m c:=by simpa using W.t6
 obtain rfl:y7=É Î m:=by simpa using W.C
 obtain rfl:y8=É Î kk:=by simpa using W.I
 have rL:∀y:ã,(y=⟨n,2,Á⟩\/y=⟨an,j,Á⟩)->l.r y:=λy ha=>by rcases ha with rfl|rfl;exact o1;exact o2
 have ato:(kk:Int)<(m:Int):=Z
 simp only[zk];conv in LN=>whnf
 refine fW (n:=30) D.r ?_;have hF:True:=trivial;repeat w_go fA
 refine Ë λ_ _=> ?_;have B:∀g,gW l ⟨ib,g,Á⟩:=λg=>Ã zm;refine oM (v:=Ě #[À O,É Î j,À<|Â ⟨i,0,Á⟩,À<|Â ⟨n,0,Á⟩]) U U (by k_ne) D.r V (λo r=> ?_) (λo r e F=> ?_) ?_
 .have J:=((B<|kk*4).r r).trans i0;have K:=((B<|kk*4+1).r r).trans i1;have L:=((B<|kk*4+2).r r).trans i2;have P:=((B<|kk*4+3).r r).trans i3;go_simp
 .have J:=((B<|kk*4).r r).trans i0;have K:=((B<|kk*4+1).r r).trans i1;have L:=((B<|kk*4+2).r r).trans i2;have P:=((B<|kk*4+3).r r).trans i3;simp[go_sem,J,K,L,P]at F;rcases F with rfl|rfl|rfl|rfl
  .exact(B _).C
  .exact(B _).C
  .exact(B _).C
  .exact(B _).C
 walk_nrm;refine H4 (ob:=Ê #[À Á,É Î 0,À Á,À Á] 155) U U (by k_ne) D.r V (λw=>by go_simp) (λw=>by simp[go_sem]) λo mP=> ?_;walk_nrm;have uA:iC (λa=>a=⟨n,2,Á⟩\/a=⟨an,j,Á⟩) l (gG l o<|Ê #[À Á,É Î 0,À Á,À Á] 155):=LK D rL mP;have nz:(gG l o<|Ê #[À Á,É Î 0,À Á,À Á] 155).w.heap[o.heap.size]?=Â (Ê #[À Á,É Î 0,À Á,À Á] 155):=mS;have sZ:l.w.heap.size<=o.heap.size:=mP.r;have I:(gG l o<|Ê #[À Á,É Î 0,À Á,À Á] 155).O o.heap.size:=Ç U;generalize gG l o (Ê #[À Á,É Î 0,À Á,À Á] 155)=l₁ at uA nz I|-;generalize o.heap.size=tb at nz I sZ|-;refine vy U U (by k_ne) λs pw=> ?_;have S:s.heap[tb]?=_:=(pw.I tb<|Ã I).trans nz;have J:s.cell? ⟨tb,0,Á⟩=Â (À Á):=by simp[Ù,S]
 have K:s.cell? ⟨tb,1,Á⟩=Â (É Î 0):=by simp[Ù,S]
 have L:s.cell? ⟨tb,2,Á⟩=Â (À Á):=by simp[Ù,S]
 have P:s.cell? ⟨tb,3,Á⟩=Â (À Á):=by simp[Ù,S]
 have hz:∀g,s.frozen? ⟨tb,g,Á⟩=Í:=λg=>by simp[ð,S]
 go_simp;refine⟨{l₁ with w:=iT s tb (À O) (É Î j) (À<|Â ⟨i,0,Á⟩) (À<|Â ⟨n,0,Á⟩)},LL (p:=tb) (lX uA.fx pw) (by rwa[uA.q]) I xi (λg H=>zj H) ⟨U,U,U⟩ λe F=> ?_,?_⟩
 .have h:=ě F;have e:∀g,qf l₁ ⟨tb,g,Á⟩:=λg=>Ã I;simp[go_sem,â _ _ _ _ _ _ (show Ú (À O)=Ô from rfl),â _ _ _ _ _ _ (show Ú (À<|Â ⟨i,0,Á⟩)=Ô from rfl),â _ _ _ _ _ _ (show Ú (À<|Â ⟨n,0,Á⟩)=Ô from rfl),J,K,L,P,hz]at h;rcases h with rfl|rfl|rfl|rfl
  .exact(e _).r
  .exact(e _).r
  .exact(e _).r
  .exact(e _).r
 let⟨c0,c1,c2,c3⟩:=Rj (v0:=À O) (v1:=É Î j) (v2:=À<|Â ⟨i,0,Á⟩) (v3:=À<|Â ⟨n,0,Á⟩) J K L P;have C:=Rk (w':=iT s tb (À O) (É Î j) (À<|Â ⟨i,0,Á⟩)<|À<|Â ⟨n,0,Á⟩) D rL uA pw sZ xi λg H=>zj H;have CC:({l₁ with w:=iT s tb (À O) (É Î j) (À<|Â ⟨i,0,Á⟩) (À<|Â ⟨n,0,Á⟩)}:fe).O tb:=I;replace c0:({l₁ with w:=iT s tb (À O) (É Î j) (À<|Â ⟨i,0,Á⟩) (À<|Â ⟨n,0,Á⟩)}:fe).w.cell? ⟨tb,0,Á⟩=_:=c0;replace c1:({l₁ with w:=iT s tb (À O) (É Î j) (À<|Â ⟨i,0,Á⟩) (À<|Â ⟨n,0,Á⟩)}:fe).w.cell? ⟨tb,1,Á⟩=_:=c1;replace c2:({l₁ with w:=iT s tb (À O) (É Î j) (À<|Â ⟨i,0,Á⟩) (À<|Â ⟨n,0,Á⟩)}:fe).w.cell? ⟨tb,2,Á⟩=_:=c2;replace c3:({l₁ with w:=iT s tb (À O) (É Î j) (À<|Â ⟨i,0,Á⟩) (À<|Â ⟨n,0,Á⟩)}:fe).w.cell? ⟨tb,3,Á⟩=_:=c3;generalize({l₁ with w:=iT s tb (À O) (É Î j) (À<|Â ⟨i,0,Á⟩) (À<|Â ⟨n,0,Á⟩)}:fe)=l₂ at c0 c1 c2 c3 C CC|-;clear nz I uA S J K L P hz pw s l₁ mP o;have rM:=C.G D;have qi:¬l₂.q:=by rwa[C.q]
 have aio:l₂.N ⟨i,2,Á⟩:=by rwa[C.c]
 have nE:¬((⟨i,2,Á⟩:ã)=⟨n,2,Á⟩\/(⟨i,2,Á⟩:ã)=⟨an,j,Á⟩):=λq=>by
  rcases q with q|q
  .exact D.Y _ o1<|q▸uk
  .exact D.Y _ o2<|q▸uk
 have aip:l₂.w.cell? ⟨i,2,Á⟩=Â v:=(C.e _ (Ç uk) nE).trans nk;have Rn:∀y:ã,(y=⟨n,2,Á⟩\/y=⟨an,j,Á⟩)->l₂.r y:=λy hy=>by rw[C.I];exact rL y hy
 refine fW (n:=5) rM.r ?_;iterate 2 w_go fA
 refine Ë λ_ _=> ?_;refine LC (II zh #[y0,Æ (Â ⟨an,0,Á⟩) N N,Y,y3,y4,À<|Â ⟨tb,0,Á⟩,Æ (Â ⟨ib,0,Á⟩) m c,É Î m,É Î kk,ĭ Ô,À<|Â ⟨ib,kk*4,Á⟩,Ě #[À O,É Î j,À<|Â ⟨i,0,Á⟩,À<|Â ⟨n,0,Á⟩],xk,rK,sU,qO,vC,vD,uq,uu,uw,sV,sW,sX,uy,vE,xl,sY,qP,uz,qg,qh,pY,pf,pg,oK,oL] (mR tb i n an N j (À O) v)<|Fe l₂ i n an j v Q) rM.r qi (λh H=> ?_) (λmd listed a l e z hI F=>aie rM qi U U U CC c0 c1 c2 c3 aio aip (Rn _<|Ã U) (Rn _<|Ç U) (C.g _ (Ã U) e1) (C.g _ (Ç U) e2) ((C.S _<|Ã o1).trans z1) ((C.S _<|Ã o2).trans z2) rC hN lk (λu h=>tX u<|C.fg h) md listed a l e z hI F) λmd listed a z hI jH vF=> ?_
 .refine⟨((Á,0,0),ByteArray.empty),lC.Y _ _ _,(iC.fT rM.r).N Rn ⟨H.r,H.I,H.N,H.Y,H.S⟩,λq=> ?_,λq=> ?_,λq=> ?_⟩<;>exact absurd q A
 let⟨x,H,T⟩:=hI;have qR:∀e∈ä 21,listed.getD e Í=Ô:=by
  cases md
  .exact po vF jH (ä 21) [] fP λe F=>by cases F
  .exact λe F=>po vF jH [0,1,5,6,7,8,9,10,11,12,13,14,16,17,18,2,3,4,15,19,20] [] fP (λe F=>by cases F) e (by have:=ù.1 F;revert e;decide)
  .exact po vF jH (ä 21) [] fP λe F=>by cases F
 have H5:=C.fg T.r;have H6:=H5.G D;have xm:¬z.q:=by rwa[H5.q]
 let⟨F,ds⟩:=a;obtain rfl:ds=[]:=H.M;have b1:F[1]?=Â (Æ (Â ⟨an,0,Á⟩) N N):=H.C (d:=1) A;have b5:F[5]?=Â (À<|Â ⟨tb,0,Á⟩):=H.C (d:=5) A;have b6:F[6]?=Â (Æ (Â ⟨ib,0,Á⟩) m c):=H.C (d:=6) A;have b7:F[7]?=Â (É Î m):=H.C (d:=7) A;have b8:F[8]?=Â (É Î kk):=H.C (d:=8) A;obtain⟨x0,x1,x2,x3,x4,x5,x6,x7,x8,x9,Y0,x11,x12,x13,x14,x15,x16,x17,x18,x19,x20,x21,x22,x23,x24,x25,x26,x27,x28,x29,x30,x31,x32,x33,x34,x35,x36,rfl⟩:=Rl F H.N;obtain rfl:x1=Æ (Â ⟨an,0,Á⟩) N N:=by simpa using b1
 obtain rfl:x5=À (Â ⟨tb,0,Á⟩):=by simpa using b5
 obtain rfl:x6=Æ (Â ⟨ib,0,Á⟩) m c:=by simpa using b6
 obtain rfl:x7=É Î m:=by simpa using b7
 obtain rfl:x8=É Î kk:=by simpa using b8
 have aiq:=T.vB<|qR 12 A;have air:=T.I<|qR 18 A;have ais:=T.N<|qR 20 A;have d3:z.w.cell? ⟨tb,3,Á⟩=Â (À<|Â ⟨n,0,Á⟩):=(gK<|T.r.r tb<|Ã CC).trans c3;have s3:gW z ⟨tb,3,Á⟩:=Ã<|Ã<|T.r.O tb CC;clear H qR b1 b5 b6 b7 b8;refine fW (n:=9) H6.r ?_;iterate 3 w_go fA
 refine Ë λ_ _=> ?_;refine pn (x:=⟨tb,3,Á⟩) U U (by k_ne) H6.r xm s3 d3 (λw h=>by go_simp) (λw h=>by simp[go_sem,h]) ?_;walk_nrm;refine fW (n:=9) H6.r ?_;iterate 2 w_go fA
 u_call qN.f_done (nm_done Lk) doneFn fA hF
 refine Ë λ_ _=> ?_;have rN:∀o,fH z z.w o->lY (λ_=>True) {z with w:=o} n/\SW (λ_=>True) {z with w:=o} n o/\Φ {z with w:=o}/\(τ {z with w:=o}).d=0/\∃E:ß->Prop,lY E (τ {z with w:=o}) n/\SW E (τ {z with w:=o}) n (τ {z with w:=o}).w/\∀s X,SW E (τ {z with w:=o}) n s->Cz an N (Â ⟨ib,0,Á⟩) m c (kk+1) X->fi Ä Í f {τ {z with w:=o}with d:=0,w:=s} (zk X qX):=λo r=>by
  refine AG {z with w:=o} x (H5.N rL r) ?_ ?_ ?_
  .let⟨y,y1,Y⟩:=aiq;exact⟨y,y1,λb h=>⟨(Y b h).1,(r.I b (Y b h).1).trans (Y b h).2⟩⟩
  .exact(r.N _<|Ã<|by rwa[H5.I]).trans air
  .exact(r.N _<|Ã<|by rwa[H5.I]).trans ais
 let⟨k1,k2,_⟩:=rN z.w<|fH.fT _ _;refine ail qN τ Φ k1 k2 λo r=> ?_;let⟨_,_,f1,f4,E,f2,f3,f5⟩:=rN o r;refine⟨f1,f4,E,f2,f3,λs h=> ?_⟩;walk_nrm;refine fW (n:=30) h.1 ?_;iterate 7 w_go fA
 refine Ë λ_ _=> ?_;refine f5 s _ h ⟨U,U,U,U,?_⟩;simp;exact CB Z Z
end
def ait:Array å:=#[⟨Â 2,č 85<|Ò 0,85, "work.go:24",#[],Á⟩,
 ⟨Â 3,č 25<|Ò 1,25, "work.go:24",#[],Á⟩,
 ⟨Â 4,Ď {callee:=ü (ċ 49),args:=#[Ò 2,Ò 3],argTypes:=#[85,25]},0, "work.go:24",#[⟨0,Õ⟩,⟨1,Õ⟩],Á⟩]
def zo(a:Nat)(b c d e:Ð):ê:=(baseD 63).at ⟨#[À<|Â ⟨a,0,Á⟩,b,c,d,e],[pj 64 #[À<|Â ⟨a,0,Á⟩] #[]]⟩ [Ï YW [1]]
def vG(a b c d e:Ð):ê:=(base 48).at ⟨#[a,b,c,d,e],[]⟩ [Ï ait [2]]
section
variable{Ψ:ß->Prop}{J:Jd}{l:fe}{a e f o p:Ð}
def aiu(c:jS l)(g:¬l.q)(k:gW l ⟨j9,0,Á⟩)(r:gW l ⟨j7,0,Á⟩)(s:gW l ⟨b,0,Á⟩)(t:l.w.cell? ⟨j9,0,Á⟩=Â (ď (þ 48) #[] #[À<|Â ⟨j7,0,Á⟩,À<|Â ⟨b,0,Á⟩]))(u:l.w.cell? ⟨j7,0,Á⟩=Â (Æ O m n))(y:l.w.cell? ⟨b,0,Á⟩=Â (Æ (Â ⟨j,0,Á⟩) i i)) (B:∀d a e f o v x z jQ p,Cz j i O m n 0 d->fi Ä Í J l (zk d [vG v x z jQ p,zo j6 a e f o,nW Ä])): fi Ä Í J l (born Ä<|pj 63 #[À<|Â ⟨j6,0,Á⟩,À<|Â ⟨j9,0,Á⟩] #[]):=by
 apply fW (n:=30) c;have hF:=trivial;u_c (YL Ž fP U) fA hF;walk_nrmf κ;iterate 3 w_go fA
 u_c (YJ U U (by k_ne) U U) fA hF
 walk_nrm;repeat w_go fA
 refine Ë λ_ _=> ?_;apply pn U U (by k_ne) c g k t (λw h=>by go_simp) (λw h=>by simp[go_sem,h]);walk_nrm;apply fW (n:=30) c;u_c (YK U U (by k_ne) U U ž fP U) fA hF;walk_nrmf Tryz.f48;w_go fA;refine Ë λ_ _=> ?_;apply pn U U (by k_ne) c g r u (λw h=>by go_simp) (λw h=>by simp[go_sem,h]);walk_nrm;apply pn U U (by k_ne) c g s y (λw h=>by go_simp) (λw h=>by simp[go_sem,h]);walk_nrm;apply fW (n:=30) c;u_call ſ fP ι fA hF;iterate 8 w_go fA
 refine Ë λ_ _=> ?_;exact B _ _ _ _ _ _ _ _ _ _ ⟨U,U,U,U,U⟩
def aiv(b:Cz j i O m n m d)(h:l.K ⟨k,0,Á⟩/\l.K ⟨k,1,Á⟩)(r:lY Ψ l k)(c:SW Ψ l k l.w)(s:l.d=0)(t:¬l.q)(u:gW l ⟨j6,0,Á⟩)(y:l.w.cell? ⟨j6,0,Á⟩=Â (À<|Â ⟨k,0,Á⟩)): fi Ä Í (λl g=>yH Ä Í k (E2 Ä) (kx l) g) l (zk d [vG v x z jQ p,zo j6 a e f o,nW Ä]):=by
 obtain⟨C,D,E,F,G,H,I,g,B,J,L,M,N,P,Q,S,T,V,W,X,Y,sV,sW,sX,uy,vE,xl,sY,qP,uz,qg,qh,pY,pf,pg,oK,oL,rfl⟩:=Rl d b.r;obtain rfl:g=É Î m:=by simpa using b.C
 obtain rfl:B=É Î m:=by simpa using b.I
 have hmm:¬(m:Int)<(m:Int):=Z
 simp only[zk];conv in LN=>whnf
 apply fW (n:=40) c.1;have hF:=trivial;iterate 8 w_go fA
 u_leave0 ſ fA hF
 iterate 2 w_go fA
 u_leave0 ž fA hF
 refine Ë λ_ _=> ?_;exact YX h r c s t u y
end
def H7:å:=⟨Â 14,ý<|Ò 1,25, "work.go:65",#[],Á⟩
def H8:å:=⟨Â 15,ë 155 (Ò 4) 1,0, "work.go:65",#[],Á⟩
def Fg:å:=⟨Â 16,č 3<|Ò 15,3, "work.go:65",#[⟨1,Õ⟩],Á⟩
def H9:å:=⟨Â 17,ë 155 (Ò 4) 2,0, "work.go:65",#[],Á⟩
def Fh:å:=⟨Â 18,č 86<|Ò 17,86, "work.go:65",#[⟨3,Õ⟩],Á⟩
def Fi:å:=⟨Â 19,ĕ<|Ò 18,0, "work.go:65",#[⟨4,Õ⟩],Á⟩
def Fj:å:=⟨Â 20,ë 105 (Ò 19) 1,0, "work.go:65",#[⟨5,Õ⟩],Á⟩
def Fl:å:=⟨Â 21,č 65<|Ò 20,65, "work.go:65",#[⟨6,Õ⟩],Á⟩
def Ia:å:=⟨Â 22,ë 155 (Ò 4) 0,0, "work.go:65",#[],Á⟩
def Fo:å:=⟨Â 23,č 148<|Ò 22,148, "work.go:65",#[⟨8,Õ⟩],Á⟩
def CF:å:=⟨Â 24,Ď {callee:=ü<|ċ 67,args:=#[Ò 21,Ò 23],argTypes:=#[65,148]},9, "work.go:65",#[⟨7,Õ⟩,⟨9,Õ⟩],Á⟩
def CG:å:=⟨Â 25,Ţ 25 (Ò 14)<|Ò 16,0, "work.go:65",#[⟨0,Õ⟩,⟨2,Õ⟩,⟨0,Ì⟩,⟨1,Ì⟩,⟨2,Ì⟩,⟨3,Ì⟩,⟨4,Ì⟩,⟨5,Ì⟩,⟨6,Ì⟩,⟨7,Ì⟩,⟨8,Ì⟩,⟨9,Ì⟩,⟨10,Ì⟩],Á⟩
def CH:å:=⟨Á,ŵ 9 (Ò 25)<|Ò 24,0, "work.go:65",#[⟨11,Õ⟩,⟨10,Õ⟩,⟨10,Ŷ⟩,⟨0,Ì⟩,⟨1,Ì⟩,⟨2,Ì⟩,⟨3,Ì⟩,⟨4,Ì⟩,⟨5,Ì⟩,⟨6,Ì⟩,⟨7,Ì⟩,⟨8,Ì⟩,⟨9,Ì⟩,⟨10,Ì⟩],Á⟩
def vH:Array å:=#[H7,H8,Fg,H9,Fh,Fi,Fj,Fl,Ia,Fo,CF,CG,CH]
def qS(tb a b N c:Nat)(d e:Ð)(x:ByteArray):Nat->Ð
 |0=>Æ (Â ⟨b,0,Á⟩) N N
 |1=>À<|Â ⟨tb,1,Á⟩
 |2=>É Î c
 |3=>À<|Â ⟨tb,2,Á⟩
 |4=>À<|Â ⟨a,0,Á⟩
 |5=>À<|Â ⟨a,0,Á⟩
 |6=>À<|Â ⟨a,2,Á⟩
 |7=>e
 |8=>À<|Â ⟨tb,0,Á⟩
 |9=>d
 |10=>á x
 |11=>À<|Â ⟨b,c,Á⟩
 |_=>Å
structure Fp(il:fe)(an pl:Nat)(Q:ByteArray->Prop)(listed:Array Bool)(x:ByteArray)(l:fe):Prop where
 r:iC (λa=>a=⟨an,pl,Á⟩) il l
 vB:listed.getD 10 Í=Ô->Q x
 I:listed.getD 12 Í=Ô->l.w.cell? ⟨an,pl,Á⟩=Â (á x)
def Fp.C{b l:fe}{Q:ByteArray->Prop}{listed:Array Bool}{x:ByteArray}(h:Fp b n j Q listed x l)(e:i≠10)(f:i≠12)(c:b.r ⟨n,j,Á⟩)(d:ß)(r:fH l l.w d):Fp b n j Q (listed.setIfInBounds i Ô) x {l with w:=d}:=by
 refine⟨h.r.N (λa q=>by rwa[q]) r,λq=> ?_,λq=> ?_⟩
 .rw[è Í e]at q;exact h.vB q
 .rw[è Í f]at q;exact(r.N _<|by rw[h.r.C];exact Ã c).trans<|h.I q
section
variable{J:Jd}{il:fe}{an pl:Nat}{Q:ByteArray->Prop}
def aiw(W:gw il)(hq:¬il.q)(ht:d.size=26)(Cx:d[1]?=Â (Æ (Â ⟨an,0,Á⟩) i i))(Ib:d[4]?=Â (À<|Â ⟨j,0,Á⟩))(hO:il.O j) (J:il.w.cell? ⟨j,0,Á⟩=Â v) (K:il.w.cell? ⟨j,1,Á⟩=Â (É Î pl)) (M:il.w.cell? ⟨j,2,Á⟩=Â (À<|Â ⟨n,0,Á⟩)) (X:il.N ⟨n,2,Á⟩) (nk:il.w.cell? ⟨n,2,Á⟩=Â z) (B:il.r ⟨an,pl,Á⟩) (e2:(il.w.cell? ⟨an,pl,Á⟩).isSome=Ô) (z2:il.w.frozen? ⟨an,pl,Á⟩=Í) (rC:pl<i) (Ro:∀l,iC (λa=>a=⟨an,pl,Á⟩) il l->∀t lM,fi Ä Í (λP S=>P.d=l.d/\∃T,S=G (t.finish<|á T) lM/\Q T) (lZ l)<|G (Ĉ Ä 67 #[z,v] ĥ)<|t::lM) (md:ă) (listed:Array Bool) (a:Š) (l:fe) (b:Nat) (rest:List Nat) (hI:II vH d (qS j n an i pl v z) (Fp il an pl Q) listed a l) (p:b∈Ü md vH listed): fi Ä Í (λP S=>∃I,S=G ((base 51).at I<|Ï vH rest::L) qX/\II vH d (qS j n an i pl v z) (Fp il an pl Q) (listed.setIfInBounds b Ô) I P) l (G ((base 51).at a<|Ï vH (b::rest)::L) qX):=by
 let⟨x,m,s⟩:=hI;have E:qL vH d.size=Ô:=by rw[ht];decide
 have Y1:=Q8 p;have gJ:=zg p;have F:=s.r.fx;have H:¬l.q:=by rwa[s.r.q]
 have V:∀y:ã,y=⟨an,pl,Á⟩->il.r y:=λy ha=>by rwa[ha]
 have nz:a.tmps[1]?=Â (Æ (Â ⟨an,0,Á⟩) i i):=(m.C A).trans Cx;have Y:a.tmps[4]?=Â (À<|Â ⟨j,0,Á⟩):=(m.C A).trans Ib;have t:∀c g,il.w.cell? ⟨j,c,Á⟩=Â g->gW l ⟨j,c,Á⟩/\l.w.cell? ⟨j,c,Á⟩=Â g:=λc g h=>⟨Ã<|Ã<|s.r.O j hO,by rwa[gK<|s.r.r j<|Ã hO]⟩;have Rc:¬((⟨n,2,Á⟩:ã)=⟨an,pl,Á⟩):=λq=>W.Y _ B<|q▸X;have N:gW l ⟨n,2,Á⟩/\l.w.cell? ⟨n,2,Á⟩=Â z:=⟨Ç (Ç<|by rwa[s.r.c]),by rwa[s.r.e _ (Ç X) Rc]⟩;have Re:(pl:Int)<(i:Int):=Z
 have jH:vH.size=13:=A
 rw[jH]at gJ;match b,gJ with
 |0,_=>
  refine ik (o:=H7) E m U U p (by k_ne) F H (λk r=> ?_) (λk r e u=> ?_)<|s.C A A B
  .simp only[qS,H7];go_simp
  .simp[go_sem,H7,nz]at u
 |1,_=>
  refine ik (o:=H8) E m U U p (by k_ne) F H (λk r=> ?_) (λk r e u=> ?_)<|s.C A A B
  .simp only[qS,H8];go_simp
  .simp[go_sem,H8,Y]at u
 |2,_=>
  have Rh:a.tmps[15]?=Â (À<|Â ⟨j,1,Á⟩):=m.r 1 H8 15 U (ia (o:=Fg) p U U) U;refine ik (o:=Fg) E m U U p (by k_ne) F H (λk r=> ?_) (λk r e u=> ?_)<|s.C A A B
  .have D:k.cell? ⟨j,1,Á⟩=Â (É Î pl):=((t 1 _ K).1.r r).trans (t 1 _ K).2;simp only[qS,Fg];go_simp
  .have D:k.cell? ⟨j,1,Á⟩=Â (É Î pl):=((t 1 _ K).1.r r).trans (t 1 _ K).2;have I:e=⟨Ā ⟨j,1,Á⟩,Í,Í⟩:=by simp[go_sem,Fg,D,Rh]at u;exact u
   subst I;exact(t 1 _ K).1.C
 |3,_=>
  refine ik (o:=H9) E m U U p (by k_ne) F H (λk r=> ?_) (λk r e u=> ?_)<|s.C A A B
  .simp only[qS,H9];go_simp
  .simp[go_sem,H9,Y]at u
 |4,_=>
  have Ri:a.tmps[17]?=Â (À<|Â ⟨j,2,Á⟩):=m.r 3 H9 17 U (ia (o:=Fh) p U U) U;refine ik (o:=Fh) E m U U p (by k_ne) F H (λk r=> ?_) (λk r e u=> ?_)<|s.C A A B
  .have D:k.cell? ⟨j,2,Á⟩=Â (À<|Â ⟨n,0,Á⟩):=((t 2 _ M).1.r r).trans (t 2 _ M).2;simp only[qS,Fh];go_simp
  .have D:k.cell? ⟨j,2,Á⟩=Â (À<|Â ⟨n,0,Á⟩):=((t 2 _ M).1.r r).trans (t 2 _ M).2;have I:e=⟨Ā ⟨j,2,Á⟩,Í,Í⟩:=by simp[go_sem,Fh,D,Ri]at u;exact u
   subst I;exact(t 2 _ M).1.C
 |5,_=>
  have Rp:a.tmps[18]?=Â (À<|Â ⟨n,0,Á⟩):=m.r 4 Fh 18 U (ia (o:=Fi) p U U) U;refine ik (o:=Fi) E m U U p (by k_ne) F H (λk r=> ?_) (λk r e u=> ?_)<|s.C A A B
  .simp only[qS,Fi];go_simp
  .simp[go_sem,Fi,Rp]at u
 |6,_=>
  have h19:a.tmps[19]?=Â (À<|Â ⟨n,0,Á⟩):=m.r 5 Fi 19 U (ia (o:=Fj) p U U) U;refine ik (o:=Fj) E m U U p (by k_ne) F H (λk r=> ?_) (λk r e u=> ?_)<|s.C A A B
  .simp only[qS,Fj];go_simp
  .simp[go_sem,Fj,h19]at u
 |7,_=>
  have LO:a.tmps[20]?=Â (À<|Â ⟨n,2,Á⟩):=m.r 6 Fj 20 U (ia (o:=Fl) p U U) U;refine ik (o:=Fl) E m U U p (by k_ne) F H (λk r=> ?_) (λk r e u=> ?_)<|s.C A A B
  .have D:k.cell? ⟨n,2,Á⟩=Â (z):=(N.1.r r).trans N.2;simp only[qS,Fl];go_simp
  .have D:k.cell? ⟨n,2,Á⟩=Â (z):=(N.1.r r).trans N.2;have I:e=⟨Ā ⟨n,2,Á⟩,Í,Í⟩:=by simp[go_sem,Fl,D,LO]at u;exact u
   subst I;exact N.1.C
 |8,_=>
  refine ik (o:=Ia) E m U U p (by k_ne) F H (λk r=> ?_) (λk r e u=> ?_)<|s.C A A B
  .simp only[qS,Ia];go_simp
  .simp[go_sem,Ia,Y]at u
 |9,_=>
  have H3:a.tmps[22]?=Â (À<|Â ⟨j,0,Á⟩):=m.r 8 Ia 22 U (ia (o:=Fo) p U U) U;refine ik (o:=Fo) E m U U p (by k_ne) F H (λk r=> ?_) (λk r e u=> ?_)<|s.C A A B
  .have D:k.cell? ⟨j,0,Á⟩=Â (v):=((t 0 _ J).1.r r).trans (t 0 _ J).2;simp only[qS,Fo];go_simp
  .have D:k.cell? ⟨j,0,Á⟩=Â (v):=((t 0 _ J).1.r r).trans (t 0 _ J).2;have I:e=⟨Ā ⟨j,0,Á⟩,Í,Í⟩:=by simp[go_sem,Fo,D,H3]at u;exact u
   subst I;exact(t 0 _ J).1.C
 |10,_=>
  have Rq:a.tmps[21]?=Â (z):=m.r 7 Fl 21 U (ia (o:=CF) p U U) U;have h23:a.tmps[23]?=Â (v):=m.r 9 Fo 23 U (ia (o:=CF) p U U) U;refine YV (o:=CF) E m U U p (by k_ne) F (f:=67) (args:=#[z,v]) (λw=>by simp only[CF];go_simp) (λw=>ŏ (o:=CF) U Tryz.func67 U U #[]) λk r=> ?_;have I:=s.r.N V r;refine((Ro _ I _ _).lZ<|I.G W).fN ?_;rintro P S ⟨y,⟨hy0,T,rfl,hQ⟩,rfl,hA,YY,aif,aii⟩;refine⟨T,U,⟨I.Q9 V hA hy0,λ_=>hQ,λq=> ?_⟩,λc hj=> ?_⟩
  .rw[è Í A]at q;exact absurd (m.I (o:=CH) U q U)<|xh Y1
  .match c,hj with
   |10,hj=>exact absurd hj<|xh Y1
   |0,_|1,_|2,_|3,_|4,_|5,_|6,_|7,_|8,_|9,_|11,_|12,_|n+13,_=>rfl
 |11,_=>
  have I:a.tmps[14]?=Â (Æ (Â ⟨an,0,Á⟩) i i):=m.r 0 H7 14 U (ia (o:=CG) p U U) U;have h16:a.tmps[16]?=Â (É Î pl):=m.r 2 Fg 16 U (ia (o:=CG) p U U) U;refine ik (o:=CG) E m U U p (by k_ne) F H (λk r=> ?_) (λk r e u=> ?_)<|s.C A A B
  .simp only[qS,CG];go_simp
  .simp[go_sem,CG,rC,Re,I,h16]at u
 |12,_=>
  have h25:a.tmps[25]?=Â (À<|Â ⟨an,pl,Á⟩):=m.r 11 CG 25 U (ia (o:=CH) p U U) U;have LH:a.tmps[24]?=Â (á x):=m.r 10 CF 24 U (ia (o:=CH) p U U) U;have I:(l.w.cell? ⟨an,pl,Á⟩).isSome=Ô:=s.r.g _ U e2;have Cy:l.w.frozen? ⟨an,pl,Á⟩=Í:=(s.r.S _<|Ã B).trans z2;have lD:qf l ⟨an,pl,Á⟩:=Ç (by rwa[s.r.I]);refine Ra (o:=CH) (y:=⟨an,pl,Á⟩) (v:=á x) E m U U U p (by k_ne) F H U lD I Cy (λw D e=> ?_) (λw D e=> ?_) λk r=> ?_
  .let⟨u,hu⟩:=Ö.1 D;simp only[CH];go_simp
  .let⟨u,hu⟩:=Ö.1 D;simp[go_sem,CH,h25,LH,â _ _ _ _ _ _ (show Ú (á x)=Ô from rfl),hu,e]
  .have hA:=s.r.qC W V (x:=⟨an,pl,Á⟩) (v:=á x) U U I;refine⟨hA.N V ⟨r.r,r.I,r.N,r.Y,r.S⟩,λq=> ?_,λq=> ?_⟩
   .rw[è Í A]at q;exact s.vB q
   .exact(r.N _<|by rw[s.r.C];exact Ã B).trans<|tO (Ö.1 I).choose_spec
 |n+13,h=>exact absurd h Z
end
def zp:Array å:=#[⟨Â 6,.recv 165 (Ò 5) Ô,0, "work.go:63",#[],Á⟩,⟨Â 7,š (Ò 6) 1,4, "work.go:63",#[⟨0,Õ⟩],Á⟩]
def Y2:Array å:=#[⟨Â 8,š (Ò 6) 0,155, "work.go:63",#[],Á⟩,⟨Â 4,.alloc 155,0, "work.go:63",#[],Á⟩,⟨Á,ŵ 155 (Ò 4)<|Ò 8,0, "work.go:63",#[⟨1,Õ⟩,⟨0,Õ⟩,⟨0,Ì⟩,⟨1,Ì⟩],Á⟩]
def Rr:Array å:=#[⟨Â 9,ë 155 (Ò 4) 2,0, "work.go:64",#[],Á⟩,⟨Â 10,č 86<|Ò 9,86, "work.go:64",#[⟨0,Õ⟩],Á⟩,⟨Â 11,ĕ<|Ò 10,0, "work.go:64",#[⟨1,Õ⟩],Á⟩,⟨Â 12,ë 105 (Ò 11) 0,0, "work.go:64",#[⟨2,Õ⟩],Á⟩,⟨Â 13,Ď {callee:=ü<|ċ 53,args:=#[Ò 12],argTypes:=#[97]},0, "work.go:64",#[⟨3,Õ⟩],Á⟩]
def Fq:ġ:=((ŗ (Ò 7) Ř<|ř 0).seq<|Ħ 1<|(à 2 Y2 Í).seq<|(à 3 Rr Í).seq<|à 4 vH Ô)
def CI:ġ:=(à 1 zp Í).seq Fq
def aix:Array å:=#[⟨Â 2,č 101<|Ò 0,101, "work.go:30",#[],Á⟩,
 ⟨Â 3,č 25<|Ò 1,25, "work.go:30",#[],Á⟩,
 ⟨Â 4,Ď {callee:=ü (ċ 51),args:=#[Ò 2,Ò 3],argTypes:=#[165,25]},0, "work.go:30",#[⟨0,Õ⟩,⟨1,Õ⟩],Á⟩]
def Ic(a b c d e:Ð):ê:=(base 50).at ⟨#[a,b,c,d,e],[]⟩ [Ï aix [2]]
def Y3(t:Array Ð)(a:List ê):Ý:=G ((base 51).at ⟨t,[]⟩ [ö CI,ā CI,ï 0]) a
def zq(t:Array Ð)(a:List ê):Ý:=G ((base 51).at ⟨t,[]⟩ [Ï zp [0,1],ö Fq,ā CI,ï 0]) a
def LP(t:Array Ð)(a:List ê):Ý:=G ((base 51).at ⟨t,[]⟩ [Ï Rr [],ö<|à 4 vH Ô,ï 1,ā CI,ï 0]) a
def Rs(t:Array Ð)(a:List ê):Ý:=G ((base 51).at ⟨t,[]⟩ [Ï zp [1],ö Fq,ā CI,ï 0]) a
def Y4(t:Array Ð)(v:Ð)(a:List ê):({zq t a with frame:=(zq t a).frame.finish v}:Ý)=Rs (t.setIfInBounds 6 v) a:=by have:(zq t a).frame.finish v=(base 51).at (π ⟨t,[]⟩ (Â 6) v) [Ï zp [1],ö Fq,ā CI,ï 0]:=ī _ _ _ _ _ _ _;rw[this];rfl
def zT:Ð:=Ě #[À Á,É Î 0,À Á,À Á]
structure QT(an N ch:Nat)(t:Array Ð):Prop where
 r:t.size=26
 C:t[1]?=Â (Æ (Â ⟨an,0,Á⟩) N N)
 I:t[5]?=Â (é<|Â ch)
def aiy(t:Array Ð)(h:t.size=26):∃a b c d e f g i j k l m n o p q r s u v w x y z B C:Ð,t=#[a,b,c,d,e,f,g,i,j,k,l,m,n,o,p,q,r,s,u,v,w,x,y,z,B,C]:=by obtain⟨_,rfl⟩:=uo t h;exact⟨_,_,_,_,_,_,_,_,_,_,_,_,_,_,_,_,_,_,_,_,_,_,_,_,_,_,U⟩
section
variable{Ψ:ß->Prop}{J u:Jd}{l:fe}{t:Array Ð}{ch an N:Nat}{a:Option ã}{Q:ByteArray->Prop}{o p r s c f:Ð}{τ:fe->fe}
def Y5(a:jS l)(b:fi Ä Í J l (zq t qX)):fi Ä Í J l (Y3 t qX):=by apply fW (n:=5) a;have hF:=trivial;simp only[Y3,CI];w_go fA;u_c Ņ fA hF;exact Ë λ_ _=>b
def aiz(a:jS l)(d:¬l.q)(e:gW l ⟨k,0,Á⟩)(g:gW l ⟨b,0,Á⟩)(i:gW l ⟨n,0,Á⟩)(j:l.w.cell? ⟨k,0,Á⟩=Â (ď (þ 50) #[] #[À<|Â ⟨b,0,Á⟩,À<|Â ⟨n,0,Á⟩]))(u:l.w.cell? ⟨b,0,Á⟩=Â (é<|Â ch))(v:l.w.cell? ⟨n,0,Á⟩=Â (Æ (Â ⟨an,0,Á⟩) N N)) (y:∀t o p r s x z jQ c f,QT an N ch t->fi Ä Í J l (zq t [Ic x z jQ c f,zo m o p r s,nW Ä])): fi Ä Í J l (born Ä<|pj 63 #[À<|Â ⟨m,0,Á⟩,À<|Â ⟨k,0,Á⟩] #[]):=by
 apply fW (n:=30) a;have hF:=trivial;u_c (YL Ž fP U) fA hF;walk_nrmf κ;iterate 3 w_go fA
 u_c (YJ U U (by k_ne) U U) fA hF
 walk_nrm;repeat w_go fA
 refine Ë λ_ _=> ?_;apply pn U U (by k_ne) a d e j (λw h=>by go_simp) (λw h=>by simp[go_sem,h]);walk_nrm;apply fW (n:=30) a;u_c (YK U U (by k_ne) U U Α fP U) fA hF;walk_nrmf Tryz.f50;w_go fA;refine Ë λ_ _=> ?_;apply pn U U (by k_ne) a d g u (λw h=>by go_simp) (λw h=>by simp[go_sem,h]);walk_nrm;apply pn U U (by k_ne) a d i v (λw h=>by go_simp) (λw h=>by simp[go_sem,h]);walk_nrm;apply fW (n:=30) a;u_call Β fP Tryz.f51 fA hF;iterate 6 w_go fA
 refine Ë λ_ _=> ?_;exact Y5 a<|y _ _ _ _ _ _ _ _ _ _ ⟨U,U,U⟩
def aiA{Y:Ð}(G:gw l)(M:¬l.q)(P:l.d=0)(hT:QT an N ch t)(hB:60<=i)(aiB:Y=Ě #[À a,É Î j7,À<|Â ⟨j9,0,Á⟩,À O])(Q:l.K ⟨j9,0,Á⟩/\l.K ⟨j9,1,Á⟩)(Ie:mQ j9 l.w) (Rt:l.K ⟨j,0,Á⟩/\l.K ⟨j,1,Á⟩) (hsa:mQ j l.w) (hs:gW l ⟨m,0,Á⟩) (hc:l.w.cell? ⟨m,0,Á⟩=Â (À<|Â ⟨j,0,Á⟩)) (aiC:∀H k t',iC (λ_=>False) l H->H.d=0->H.O k->H.w.cell? ⟨k,0,Á⟩=Â (À a)->H.w.cell? ⟨k,1,Á⟩=Â (É Î j7)->H.w.cell? ⟨k,2,Á⟩=Â (À<|Â ⟨j9,0,Á⟩)->QT an N ch t'->t'[4]?=Â (À<|Â ⟨k,0,Á⟩)->u H (LP t' [Ic x z jQ c f,zo m o p r s,nW Ä])): wU Ä Í ch zT (λb=>match b with
  |some v=>λl g=>v=Y->qI Ä Í i j9 u .iW l g
  |none=>λl g=>yH Ä Í j (E2 Ä) (kx l) g) l (zq t [Ic x z jQ c f,zo m o p r s,nW Ä]):=by
 obtain⟨y0,y1,y2,y3,y4,y5,y6,y7,y8,y9,xj,zn,xk,rK,sU,qO,vC,vD,uq,uu,uw,sV,sW,sX,uy,vE,rfl⟩:=aiy t hT.r;obtain rfl:y1=Æ (Â ⟨an,0,Á⟩) N N:=by simpa using hT.C
 obtain rfl:y5=é (Â ch):=by simpa using hT.I
 have hF:=trivial;refine⟨U,U,λD=> ?_,λb=> ?_⟩
 .refine(Κ (cases:=#[rcase ch zT]) (blocking:=Ô) (shape:=.recv Ô) (w':=D) rfl rfl (by k_ne) ?_).trans ?_
  .simp[go_sem,zp,đ,rcase,zT]
  .simp[listed,go_sem,zp,đ,Ĳ];rfl
 cases b with
 |none=>
  rw[Y4];simp only[Rs,Fq,zp,Option.getD_none,Ľ,Ĝ,ľ,Ŀ];apply fW (n:=30) G.r;iterate 6 w_go fA
  u_leave0 Β fA hF
  iterate 2 w_go fA
  u_leave0 Α fA hF
  refine Ë λ_ _=> ?_;exact YX (Ψ:=λ_=>True) Rt ⟨Ã Rt.1,Ã Rt.2,λ_ _ _ _ _ _ _ _=>trivial⟩ ⟨G.r,hsa,trivial⟩ P M hs hc
 |some v=>
  by_cases hv:v=Y
  .subst hv;subst aiB;apply fi.fN λl g h _=>h;rw[Y4];simp only[Rs,Fq,zp,ő,Option.isSome_some,Ĝ,ľ,Ŀ];apply fW (n:=30) G.r;iterate 7 w_go fA
   u_c Ņ fA hF
   simp only[Y2,ņ,Œ,Ŝ,Ű,Ė,ä,List.range.loop];w_go fA;refine Ë λ_ _=> ?_;have rL:∀y:ã,False->l.r y:=λy ha=>ha.elim;refine H4 (ob:=Ê #[À Á,É Î 0,À Á,À Á] 155) U U (by k_ne) G.r M (λw=>by go_simp) (λw=>by simp[go_sem]) λD mP=> ?_;walk_nrm;have S:iC (λ_=>False) l (gG l D<|Ê #[À Á,É Î 0,À Á,À Á] 155):=LK G rL mP;have nz:(gG l D<|Ê #[À Á,É Î 0,À Á,À Á] 155).w.heap[D.heap.size]?=Â (Ê #[À Á,É Î 0,À Á,À Á] 155):=mS;have sZ:=mP.r;have I:(gG l D<|Ê #[À Á,É Î 0,À Á,À Á] 155).O D.heap.size:=Ç U;generalize gG l D (Ê #[À Á,É Î 0,À Á,À Á] 155)=l₁ at S nz I|-;generalize D.heap.size=k at nz I sZ|-;refine vy U U (by k_ne) λC pw=> ?_;have J:=(pw.I k<|Ã I).trans nz;have Fs:C.cell? ⟨k,0,Á⟩=Â (À Á):=by simp[Ù,J]
   have zf:C.cell? ⟨k,1,Á⟩=Â (É Î 0):=by simp[Ù,J]
   have qT:C.cell? ⟨k,2,Á⟩=Â (À Á):=by simp[Ù,J]
   have uB:C.cell? ⟨k,3,Á⟩=Â (À Á):=by simp[Ù,J]
   have hz:∀g,C.frozen? ⟨k,g,Á⟩=Í:=λg=>by simp[ð,J]
   go_simp;refine⟨{l₁ with w:=iT C k (À a) (É Î j7) (À<|Â ⟨j9,0,Á⟩) (À O)},LL (lX S.fx pw) (by rwa[S.q]) I xi (λg F=>zj F) ⟨U,U,U⟩ λe L=> ?_,?_⟩
   .have E:=ě L;have B:∀g,qf l₁ ⟨k,g,Á⟩:=λg=>Ã I;simp[go_sem,â _ _ _ _ _ _ (show Ú (À a)=Ô from rfl),â _ _ _ _ _ _ (show Ú (À<|Â ⟨j9,0,Á⟩)=Ô from rfl),â _ _ _ _ _ _ (show Ú (À O)=Ô from rfl),Fs,zf,qT,uB,hz]at E;rcases E with rfl|rfl|rfl|rfl
    .exact(B _).r
    .exact(B _).r
    .exact(B _).r
    .exact(B _).r
   obtain⟨T,V,L,c3⟩:=Rj Fs zf qT uB;have E:=Rk (w':=iT C k (À a) (É Î j7) (À<|Â ⟨j9,0,Á⟩)<|À O) G rL S pw sZ xi λg F=>zj F;have W:({l₁ with w:=iT C k (À a) (É Î j7) (À<|Â ⟨j9,0,Á⟩) (À O)}:fe).O k:=I;replace T:({l₁ with w:=iT C k (À a) (É Î j7) (À<|Â ⟨j9,0,Á⟩) (À O)}:fe).w.cell? ⟨k,0,Á⟩=_:=T;replace V:({l₁ with w:=iT C k (À a) (É Î j7) (À<|Â ⟨j9,0,Á⟩) (À O)}:fe).w.cell? ⟨k,1,Á⟩=_:=V;replace L:({l₁ with w:=iT C k (À a) (É Î j7) (À<|Â ⟨j9,0,Á⟩) (À O)}:fe).w.cell? ⟨k,2,Á⟩=_:=L;generalize({l₁ with w:=iT C k (À a) (É Î j7) (À<|Â ⟨j9,0,Á⟩) (À O)}:fe)=l₂ at T V L E W|-;have X:=E.G G;have qi:¬l₂.q:=by rwa[E.q]
   apply fW (n:=9) X.r;iterate 2 w_go fA
   u_c Ņ fA hF
   simp only[Rr,ņ,Œ,Ŝ,Ű,Ė,ä,List.range.loop];w_go fA;refine Ë λ_ _=> ?_;apply pn U U (by k_ne) X.r qi (Ã<|Ã W) L (λw h=>by go_simp) (λw h=>by simp[go_sem,h]);walk_nrm;apply fW (n:=9) X.r;iterate 2 w_go fA
   u_call qN.f_wait (nm_wait Lk) waitFn fA hF
   refine Ë λ_ _=> ?_;have k2:lY (λw=>fH l₂ l₂.w w) l₂ j9:=⟨Ã (by rw[E.K];exact Q.1),Ã (by rw[E.K];exact Q.2),λw D h1 h2 h3 h4 h5 h=>h.fg ⟨h1,h2,h3,h4,h5⟩⟩;have s2:SW (λw=>fH l₂ l₂.w w) l₂ j9 l₂.w:=⟨X.r,⟨E.b _ Q.1 Ie.1,E.b _ Q.2 Ie.2⟩,fH.fT _ _⟩;refine YH qN hB k2 s2 (E.d.trans P) λD Y6=> ?_;walk_nrm;refine .fB λFf F=> ?_;have B:=E.N rL<|Y6.2.2.fg ⟨F.r,F.I,F.N,F.Y,F.S⟩;have hdd:=E.d.trans P;have CJ:iC (λ_=>False) l ({l₂ with d:=0,w:=Ff}:fe):=⟨B.O,B.h,B.Y,B.I,B.c,B.K,B.q,P.symm,B.fx,B.f,B.r,B.e,B.S,B.b,B.g⟩;have rr:=Y6.2.2.fg ⟨F.r,F.I,F.N,F.Y,F.S⟩;have cc:∀g,Ff.cell? ⟨k,g,Á⟩=l₂.w.cell? ⟨k,g,Á⟩:=λg=>gK<|rr.I k<|Ã W;exact aiC {l₂ with d:=0,w:=Ff} k _ CJ U W ((cc 0).trans T) ((cc 1).trans V) ((cc 2).trans L) ⟨U,U,U⟩ U
  .exact .fB λ_ _ e=>absurd e hv
end
section
variable{J:Jd}{l:fe}{Q:ByteArray->Prop}
def aiD(f:gw l)(C:¬l.q)(g:QT n i j d)(L:d[4]?=Â (À<|Â ⟨m,0,Á⟩))(M:l.O m) (N:l.w.cell? ⟨m,0,Á⟩=Â (À O)) (P:l.w.cell? ⟨m,1,Á⟩=Â (É Î k)) (S:l.w.cell? ⟨m,2,Á⟩=Â (À<|Â ⟨b,0,Á⟩)) (T:l.N ⟨b,2,Á⟩) (V:l.w.cell? ⟨b,2,Á⟩=Â v) (p:l.r ⟨n,k,Á⟩) (W:(l.w.cell? ⟨n,k,Á⟩).isSome=Ô) (X:l.w.frozen? ⟨n,k,Á⟩=Í) (Y:k<i) (Ro:∀e,iC (λa=>a=⟨n,k,Á⟩) l e->∀D E,fi Ä Í (λl'' g'=>l''.d=e.d/\∃F,g'=G (D.finish<|á F) E/\Q F) (lZ e)<|G (Ĉ Ä 67 #[v,À O] ĥ)<|D::E) (hJ:∀e x H,iC (λa=>a=⟨n,k,Á⟩) l e->Q x->e.w.cell? ⟨n,k,Á⟩=Â (á x)->QT n i j H->J e (zq H qX)): fi Ä Í J l (LP d qX):=by
 have I:∀y:ã,y=⟨n,k,Á⟩->l.r y:=λy ha=>by rwa[ha]
 have hF:=trivial;apply fW (n:=3) f.r;simp only[LP];w_go fA;refine Ë λ_ _=> ?_;refine LC (II vH d (qS m b n i k (À O) v)<|Fp l n k Q) f.r C (λo h=> ?_) (λs t a l c o u r=>aiw f C g.r g.C L M N P S T V p W X Y Ro s t a l c o u r) λs t a kn u z B=> ?_
 .refine⟨ByteArray.empty,lC.Y _ _ _,(iC.fT f.r).N I ⟨h.r,h.I,h.N,h.Y,h.S⟩,λq=> ?_,λq=> ?_⟩<;>exact absurd q A
 let⟨x,o,h⟩:=u;have K:∀c∈ä 13,t.getD c Í=Ô:=by
  cases s
  .exact po B z (ä 13) [] fP λc r=>by cases r
  .exact po B z (ä 13) [] fP λc r=>by cases r
  .exact po B z (ä 13) [] fP λc r=>by cases r
 have s:=h.r.G f;let⟨z,B⟩:=a;obtain rfl:B=[]:=o.M;apply fW (n:=9) s.r;iterate 3 w_go fA
 refine Ë λ_ _=> ?_;refine Y5 s.r<|.fB λw₁ r=>(hJ {kn with w:=w₁} x z (h.r.N I r) (h.vB<|K 10 A) ((r.N _<|Ã<|by rwa[h.r.I]).trans<|h.I<|K 12 A) ⟨o.N.trans g.r,((o.C A).trans g.C),((o.C A).trans g.I)⟩)
end
structure gh(X:Nat->Prop)(l l':fe):Prop where
 O:∀j,l.O j->l'.O j
 c:∀j,l'.O j->l.O j\/l.w.heap.size<=j
 S:l'.I=l.I
 Y:l'.r=l.r
 b:l'.N=l.N
 K:l'.K=l.K
 q:l'.q=l.q
 d:l'.d=l.d
 fx:jS l'
 I:l.w.heap.size<=l'.w.heap.size
 r:∀j,l.M j->¬X j->l'.w.heap[j]?=l.w.heap[j]?
 f:∀a,l.C a->l'.w.cell? a=l.w.cell? a
 g:∀a,l.C a->l'.w.frozen? a=l.w.frozen? a
 e:∀a,l.K a->(l.w.cell? a).isSome=Ô->(l'.w.cell? a).isSome=Ô
section
variable{l l' l'':fe}
def gh.fT(h:jS l):gh X l l:=⟨λ_ h=>h,λ_ h=>Ã h,U,U,U,U,U,U,h,Û _,λ_ _ _=>rfl,λ_ _=>rfl,λ_ _=>rfl,λ_ _ h=>h⟩
def gh.C(h:gh X l l'):l'.C=l.C:=by unfold fe.C;rw[h.Y,h.b]
def gh.M(h:gh X l l')(a:l.M b):l'.M b:=a.imp (h.O b)<|by rw[h.S];exact id
def gh.fg(h:gh X l l')(k:gh X l' l''):gh X l l'':=by have e:=h.C;exact⟨λj c=>k.O j<|h.O j c,λj c=>(k.c j c).elim (h.c j) λq=>Ç<|Ø h.I q,k.S.trans h.S,k.Y.trans h.Y,k.b.trans h.b,k.K.trans h.K,k.q.trans h.q,k.d.trans h.d,k.fx,Ø h.I k.I,λj c f=>(k.r j (h.M c) f).trans<|h.r j c f,λa b=>(k.f a<|by rwa[e]).trans<|h.f a b,λa b=>(k.g a<|by rwa[e]).trans<|h.g a b,λa b q=>k.e a (by rwa[h.K])<|h.e a b q⟩
def gh.G(h:gh X l l'){w₁:ß}(r:fH l' l'.w w₁):gh X l {l' with w:=w₁}:= h.fg ⟨λ_ q=>q,λ_ q=>Ã q,U,U,U,U,U,U,lX h.fx r,r.r,λj a _=>r.I j a,r.N,r.Y,r.S⟩
def gh.fN{a:Nat->Prop}(h:gh X l l')(c:∀j,l.M j->X j->a j):gh a l l':=⟨h.O,h.c,h.S,h.Y,h.b,h.K,h.q,h.d,h.fx,h.I,λj b e=>h.r j b λq=>e<|c j b q,h.f,h.g,h.e⟩
def gh.N(h:gh X l l')(s:gw l):gw l' where
 c b hb:=by
  rw[h.S];rcases h.c b hb with q|q
  .exact s.c b q
  .exact λz=>by have:=s.fx b<|Ç z;omega
 Y a ha:=by rw[h.b];exact s.Y a<|by rwa[<-h.Y]
 N a ha hb:=by
  rw[h.C]at ha;rcases hb with q|q
  .rcases h.c _ q with z|z
   .exact s.N a ha<|Ã z
   .have:=s.I a ha;omega
  .rw[h.S]at q;exact s.N a ha<|Ç q
 fx b hb:=by
  rcases hb with q|q
  .exact h.fx b q
  .rw[h.S]at q;exact È (s.fx b<|Ç q) h.I
 I a ha:=by rw[h.C]at ha;exact È (s.I a ha) h.I
 S a ha:=by
  rw[h.K]at ha;let⟨c,d,e⟩:=s.S a ha;refine⟨λq=> ?_,È d h.I,by rwa[h.Y]⟩;rcases q with q|q
  .rcases h.c _ q with z|z
   .exact c<|Ã z
   .omega
  .rw[h.S]at q;exact c<|Ç q
def mT{ob:Η}(s:gw l){w₁:ß}(r:fH l l.w w₁):gh X l (gG l w₁ ob):=by have h:=LK (E:=λ_=>False) (ob:=ob) s (λ_ q=>q.elim) r;exact⟨h.O,h.h,h.Y,h.I,h.c,h.K,h.q,h.d,h.fx,h.f,λj b _=>h.r j b,λa c=>h.e a c id,h.S,h.b⟩
def LQ{w':ß}{p:Nat}(s:gw l)(r:fH l l.w u)(c:l.O p)(g:X p)(d:w'.heap.size=u.heap.size)(b:∀j,j≠p->w'.heap[j]?=u.heap[j]?):gh X l {l with w:=w'}:=by
 have f:∀a:ã,l.C a->a.block≠p:=λa h e=>s.N a h<|Ã<|e▸c;refine⟨λ_ q=>q,λ_ q=>Ã q,U,U,U,U,U,U,λj q=> ?_,?_,λj q n=>(b j λe=>n<|e▸g).trans<|r.I j q,λa q=>(gK<|b _<|f a q).trans<|r.N a q,λa q=>(wT<|b _<|f a q).trans<|r.Y a q,λa q z=> ?_⟩
 .show j<w'.heap.size;rw[d];exact È (s.fx j<|Ã q) r.r
 .show l.w.heap.size<=w'.heap.size;rw[d];exact r.r
 .show(w'.cell? a).isSome=Ô;rw[gK (b a.block λe=>(s.S a q).1<|Ã<|e▸c)];exact r.S a q z
end
section
variable{J:Jd}{l:fe}{a:Š}{k:List ż}{cs:List ê}{ob:Η}
def py{V:Nat->Ð}(c:Q[i]?=Â o)(d:ğ o (ŷ Q a.tmps)=Ô)(e:f.kind≠Θ)(g:jS l)(h:¬l.q) (j:∀w,(đ a.eval o).run P w=.ok (.value<|V w.heap.size) (w.alloc ob)) (m:∀w,(đ a.eval o).events P w #[]=#[]) (n:∀b,fH l l.w b->fi P yQ J (gG l b ob) (G (f.at (a.put o.dst<|V b.heap.size)<|Ï Q jJ::k) cs)):fi P yQ J l (G (f.at a<|Ï Q (i::jJ)::k) cs):=by
 refine vy c d e λb r=> ?_;rw[j b];refine⟨_,?_,n b r⟩;have:listed P f.fn a o b=#[]:=by unfold listed;rw[m b,Ĳ]
 rw[this];exact YZ (lX g r) h
def Ig{p off:Nat}{u:Ð}(m:Q[i]?=Â o)(n:ğ o (ŷ Q a.tmps)=Ô)(s:f.kind≠Θ)(t:jS l)(x:¬l.q)(b:l.O p)(d:l.w.cell? ⟨p,off,Á⟩=Â u)(y:l.w.frozen? ⟨p,off,Á⟩=Í)(z:o.dst=Á) (B:∀w,w.cell? ⟨p,off,Á⟩=Â u->w.frozen? ⟨p,off,Á⟩=Í->(đ a.eval o).run P w=.ok .skip (w.setCell ⟨p,off,Á⟩ v)) (C:∀w,w.cell? ⟨p,off,Á⟩=Â u->w.frozen? ⟨p,off,Á⟩=Í->(đ a.eval o).events P w #[]=#[⟨Ā ⟨p,off,Á⟩,Ô,Í⟩]) (D:fi P yQ J {l with w:=l.w.setCell ⟨p,off,Á⟩ v} (G (f.at a<|Ï Q jJ::k) cs)):fi P yQ J l (G (f.at a<|Ï Q (i::jJ)::k) cs):=by
 have E:gW l ⟨p,off,Á⟩:=Ã<|Ã b;refine vy m n s λg r=> ?_;have c:=(E.r r).trans d;have j:=(wT<|r.I p<|Ã b).trans y;rw[B g c j];refine⟨_,YT U (lX t r) x (Ã b) λe h=> ?_,?_⟩
 .have:=ě h;rw[C g c j]at this;have:e=⟨Ā ⟨p,off,Á⟩,Ô,Í⟩:=by simpa using this
  subst this;exact qf.r<|Ã b
 .have:(a.put o.dst Å)=a:=by rw[z];rfl
  rw[this];exact D.jL<|za<|YS U (by rw[d];rfl) (by rw[c];rfl) r
def mU(l:fe)(w₁ a:ß):fe:={l with O:=λf=>l.O f\/(w₁.heap.size<=f/\f<a.heap.size),w:=a}
def LU(s:gw l){w₁:ß}(r:fH l l.w w₁){a:Option Nat}(d:w₁.grownBy u a)(c:∀k,a=Â k->l.O k/\X k):gh X l (mU l w₁ u):=by
 have i:=r.r;have m:=d.size;have b:∀j,j<l.w.heap.size->Â j≠a->u.heap[j]?=w₁.heap[j]?:=λj o g=>d.block j Z g;have f:∀x:ã,l.C x->Â x.block≠a:=λx h e=>s.N x h<|Ã (c _ e.symm).1;refine⟨λ_ q=>Ã q,λj q=>q.imp id λz=>by omega,U,U,U,U,U,U,λj q=> ?_,?_,λj q n=>(b j (s.fx j q) λe=>n (c j e.symm).2).trans<|r.I j q,λx q=>(gK<|b _ (s.I x q)<|f x q).trans<|r.N x q,λx q=>(wT<|b _ (s.I x q)<|f x q).trans<|r.Y x q,λx q z=> ?_⟩
 .show j<u.heap.size;rcases q with q|q
  .have:=s.fx j<|Ã q;omega
  .exact q.2
 .show l.w.heap.size<=u.heap.size;omega
 .show(u.cell? x).isSome=Ô;rw[gK (b x.block (s.S x q).2.1 λe=>(s.S x q).1<|Ã (c _ e.symm).1)];exact r.S x q z
def nX{w₁:ß}{sz:Nat}{xs:List Ð}(h:w.ownsRow i e sz v n xs)(a:∀k,v.ownBlock=Â k->w₁.heap[k]?=w.heap[k]?):w₁.ownsRow i e sz v n xs:=by refine⟨h.1,h.2.imp id ?_⟩;rintro⟨g,b,c,rfl,d,f,j⟩;exact⟨g,b,c,U,d,(a g U).trans f,j⟩
def Ru{p:Nat}{u:Ð}(h:w.cell? ⟨p,0,Á⟩=Â u):∀j y,[u][j]?=Â y->w.cell? ⟨p,j,Á⟩=Â y
 |0,_,e=>Ó e▸h
 |_+1,_,e=>by cases e
def aiE{s a:List Ð}(h:P.underlying t=Â (.slice e))(k:P.info? e=Â zJ)(B:zJ.zero=Â z)(l:zJ.size=m)(C:a.length=m)(F:(n+1)*zJ.bytes<=140737488355328)(G:n+1<=ŧ) (o:w.ownsRow 0 e m v n s) (p:∀j y,a[j]?=Â y->w.cell? ((⟨b,0,Á⟩:ã).add j)=Â y) (H:∀u∈a,u.oneCell'=Ô) (d:(Builtin.append_ #[t,t] T #[v,Æ (Â ⟨b,0,Á⟩) 1 i]).run P w=.ok x W):x.ownBlock=v.ownBlock\/x.ownBlock=Â w.heap.size:=by
 have q:a.length=1*zJ.size:=by rw[l,C];omega
 have L:n+1<=9223372036854775807:=by simp only[ŧ]at G;omega
 rcases o.2 with⟨rfl,rfl⟩|⟨g,r,D,rfl,_,I,M,N,J,O⟩
 .have f:=run_append_nil (P:=P) w t T e zJ z h k B ⟨b,0,Á⟩ 1 i a q p Z Z Z;rw[f]at d;cases d;exact Ç U
 .by_cases E:n+1<=r
  .have K:n*zJ.size+a.length<=D.size:=by
    rw[J,l,C,show n*m+m=(n+1)*m by rw[Nat.add_mul];omega];exact Nat.mul_le_mul_right _ E
   have f:=run_append_room (P:=P) w t T e zJ h k g n r D I ⟨b,0,Á⟩ 1 i a q p H E K;rw[f]at d;cases d;exact Ã U
  .have f:=run_append_grow (P:=P) w t T e zJ z h k B ⟨g,0,Á⟩ n r s (by rw[l];exact o.1) (o.cells (g:=g) U) ⟨b,0,Á⟩ 1 i a q p Z Z<|growslice_fits Z F;rw[f]at d;cases d;exact Ç U
def Ih{x:Į}{inf:Μ}{c px sz:Nat}{xs us:List Ð}(ho:Q[i]?=Â o)(hw:ğ o (ŷ Q a.tmps)=Ô)(hk:f.kind≠Θ)(sn:gw l)(hq:¬l.q) (V:o.op=Ď {callee:=Ũ .append,args:=#[qQ,x],argTypes:=#[t,t]}) (W:a.eval qQ=v) (X:a.eval x=Æ (Â ⟨px,0,Á⟩) 1 c) (E:P.underlying t=Â (.slice e)) (F:P.info? e=Â inf) (H:inf.zero=Â z) (I:inf.size=sz) (jH:0<sz) (LV:us.length=sz) (rO:z.cells.size=sz) (K:(n+1)*inf.bytes<=140737488355328) (L:n+1<=ŧ) (lD:l.w.ownsRow 0 e sz v n xs) (C:∀k,v.ownBlock=Â k->l.O k) (Y:l.O px) (hu:∀j u,us[j]?=Â u->l.w.cell? ⟨px,j,Á⟩=Â u) (d:∀u∈us,u.oneCell'=Ô) (hn:∀b B g,fH l l.w b->g.ownsRow 0 e sz B (n+1) (xs++us)->b.grownBy g v.ownBlock->(∀k,B.ownBlock=Â k->(mU l b g).O k)->(B.ownBlock=v.ownBlock\/B.ownBlock=Â b.heap.size)->fi P yQ J (mU l b g) (G (f.at (a.put o.dst B)<|Ï Q jJ::k) cs)): fi P yQ J l (G (f.at a<|Ï Q (i::jJ)::k) cs):=by
 refine vy ho hw hk λb r=> ?_;have hM:∀k,l.O k->b.heap[k]?=l.w.heap[k]?:=λk q=>r.I k<|Ã q;have M:=nX lD (w₁:=b) λk q=>hM k<|C k q;have N:∀j w,us[j]?=Â w->b.cell? ((⟨px,0,Á⟩:ã).add j)=Â w:=λj w h=>by rw[Ĩ,Ė];exact(gK<|hM px Y).trans<|hu j w h
 have CK:us.length=1*sz:=Z
 let⟨B,g,iH,hown',p,vF⟩:=run_append_own (P:=P) b 0 t o.type e inf z sz inf.bytes E F H I U rO jH v n xs M ⟨px,0,Á⟩ 1 c us CK N d L K<|ĉ _;have uC:=aiE E F H I LV K L M N d iH;refine uponK_append qQ x t V W X iH ⟨mU l b g,?_,hn b B g r hown' p (λk q=> ?_) uC⟩
 .have he:∀D∈listed P f.fn a o b,uj (mU l b g) D:=λD S=>by
   have h2:=ě S;rw[events_append_op qQ x t V W X]at h2;rcases(events_append_where (P:=P) b 0 t o.type e inf z sz inf.bytes E F H I rfl v n xs M ⟨px,0,Á⟩ 1 c us CK N d L K) D h2 with⟨ad,T,y⟩|⟨m,rfl,aiF⟩
   .refine⟨Ã ⟨ad,T,Ã ?_⟩,by rw[T];simp,by rw[T];simp⟩;rcases y with⟨_,y⟩|y
    .exact Ã<|by rwa[y]
    .exact Ã<|C _ y.symm
   .have uf:m=.noRoom:=aiF;subst uf;exact⟨Ç<|Ã U,fj,fj⟩
  refine⟨p.size,λj q=>q.imp id λz=>z.1,λj q=> ?_,U,U,U,U,λj T d _=>p.block j T λe=>d<|C j e.symm,λy m d _=>gK (p.block _ m λe=>d<|C _ e.symm),λy m d=>wS (p.block _ m λe=>d<|C _ e.symm),p.os,p.output,p.tape,λD S=>(he D S).1,(LA he _).symm,U,λq=>absurd q hq,U⟩;rcases q with q|q
  .exact È ((lX sn.r r) j q) p.size
  .exact q.2
 .have y:k<g.heap.size:=(hown'.lt k q).2;rcases uC with m|m
  .exact Ã<|C k<|by rwa[<-m]
  .rw[m]at q;obtain rfl:=Ó q;exact Ç ⟨Û _,y⟩
end
def Y7:Array å:=#[⟨Â 25,Ų (þ 48) #[] #[Ò 9,Ò 8],1, "work.go:24",#[],Á⟩,⟨Â 26,Ď {callee:=ü<|ċ 47,args:=#[Ò 12,Ò 25],argTypes:=#[97,1]},0, "work.go:24",#[⟨0,Õ⟩],Á⟩]
def Y8:Array å:=#[⟨Â 13,ĳ<|ò<|Æ Á 0 0,100, "work.go:25",#[],Á⟩]
def Y9:Array å:=#[⟨Â 27,ý<|Ò 2,3, "work.go:26",#[],Á⟩,⟨Â 28,ý<|ò<|É Î 0,3, "work.go:26",#[],Á⟩]
def Rv:Array å:=#[⟨Â 29,ń .lss 3 (Ò 28) (Ò 27) 3,4, "work.go:26",#[],Á⟩]
def Za:Array å:=#[⟨Â 30,ý<|Ò 10,85, "work.go:28",#[],Á⟩,⟨Â 31,Ď {callee:=Ũ .len,args:=#[Ò 30],argTypes:=#[85]},3, "work.go:28",#[⟨0,Õ⟩],Á⟩,⟨Â 32,.makeChan 101<|Ò 31,101, "work.go:28",#[⟨1,Õ⟩],Á⟩,⟨Â 14,.alloc 101,0, "work.go:28",#[],Á⟩,⟨Á,ŵ 101 (Ò 14)<|Ò 32,0, "work.go:28",#[⟨3,Õ⟩,⟨2,Õ⟩,⟨0,Ì⟩,⟨1,Ì⟩,⟨2,Ì⟩,⟨3,Ì⟩],Á⟩]
def Zb:Array å:=#[⟨Â 33,ý<|Ò 13,100, "work.go:29",#[],Á⟩,⟨Â 34,č 101<|Ò 14,101, "work.go:29",#[],Á⟩,⟨Â 35,.buildSlice 100 1 #[(0,Ò 34)],100, "work.go:29",#[⟨1,Õ⟩],Á⟩,⟨Â 36,Ď {callee:=Ũ .append,args:=#[Ò 33,Ò 35],argTypes:=#[100,100]},100, "work.go:29",#[⟨0,Õ⟩,⟨2,Õ⟩],Á⟩,⟨Â 13,ĳ<|Ò 36,100, "work.go:29",#[⟨3,Õ⟩,⟨3,Ŷ⟩,⟨0,Ì⟩,⟨1,Ì⟩,⟨2,Ì⟩,⟨3,Ì⟩],Á⟩]
def LW:Array å:=#[⟨Â 37,Ų (þ 50) #[] #[Ò 14,Ò 8],1, "work.go:30",#[],Á⟩,⟨Â 38,Ď {callee:=ü<|ċ 47,args:=#[Ò 12,Ò 37],argTypes:=#[97,1]},0, "work.go:30",#[⟨0,Õ⟩],Á⟩]
def Rw:Array å:=#[⟨Â 39,ń .add 3 (Ò 28) (ò<|É Î 1) 3,3, "work.go:26",#[],Á⟩,⟨Â 28,ý<|Ò 39,3, "work.go:26",#[⟨0,Õ⟩],Á⟩]
def LX:Array å:=#[⟨Â 40,ý<|Ò 10,85, "work.go:32",#[],Á⟩,⟨Â 41,ý<|Ò 13,100, "work.go:32",#[],Á⟩,⟨Â 42,Ď {callee:=ü<|ċ 52,args:=#[Ò 40,Ò 41],argTypes:=#[85,100]},0, "work.go:32",#[⟨0,Õ⟩,⟨1,Õ⟩],Á⟩]
def LY:Array å:=#[⟨Â 43,Ď {callee:=ü<|ċ 53,args:=#[Ò 12],argTypes:=#[97]},0, "work.go:33",#[],Á⟩]
def Ii:å:=⟨Â 44,č 25<|Ò 8,25, "work.go:34",#[],Á⟩
def Ij:å:=⟨Â 45,ý<|Ò 11,86, "work.go:34",#[{on:=5,ground:=ø Ñ}],Á⟩
def Ik:å:=⟨Â 46,ĕ<|Ò 45,0, "work.go:34",#[⟨1,Õ⟩,{on:=5,ground:=ø Ñ}],Á⟩
def Il:å:=⟨Â 47,ë 105 (Ò 46) 1,0, "work.go:34",#[⟨2,Õ⟩,{on:=5,ground:=ø Ñ}],Á⟩
def Im:å:=⟨Â 48,č 65<|Ò 47,65, "work.go:34",#[⟨3,Õ⟩,{on:=5,ground:=ø Ñ}],Á⟩
def Io:å:=⟨Â 6,ĳ<|Ò 44,25, "work.go:34",#[⟨0,Õ⟩,⟨0,Ì⟩,{on:=1,ground:=Þ Ñ},{on:=2,ground:=Þ Ñ},{on:=3,ground:=Þ Ñ},{on:=4,ground:=Þ Ñ}],Á⟩
def Ip:å:=⟨Â 7,ĳ<|Ò 48,65, "work.go:34",#[⟨4,Õ⟩,⟨5,Ŷ⟩,⟨0,Ì⟩,⟨1,Ì⟩,⟨2,Ì⟩,⟨3,Ì⟩,⟨4,Ì⟩,⟨5,Ì⟩],Á⟩
def xn:Array å:=#[Ii,Ij,Ik,Il,Im,Io,Ip]
def LZ:ġ:=(à 14 xn Ô).seq ρ
def L0:ġ:=(à 12 LX Í).seq<|(à 13 LY Í).seq LZ
def Ft:ġ:=(à 7 Rv Í).seq<|(ŗ (Ò 29) Ř<|ř 0).seq<|(Ħ 1<|(à 8 Za Í).seq<|(à 9 Zb Í).seq<|à 10 LW Í).seq<|à 11 Rw Í
def sA:ġ:=(à 5 Y8 Í).seq<|((à 6 Y9 Í).seq<|Ħ 0 Ft.loop).seq L0
def CL(t:Array Ð)(a:List ê):Ý:=G ((base 37).at ⟨t,[]⟩ [ö Ft,ā Ft,ï 0,ö L0]) a
def Fu(t:Array Ð):ê:=(base 37).at ⟨t,[]⟩ [Ï Y7 [1],ö sA]
def L3(t:Array Ð):ê:=(base 37).at ⟨t,[]⟩ [Ï LW [1],ï 1,ö<|à 11 Rw Í,ā Ft,ï 0,ö L0]
def Iq:Array å:=#[⟨Â 6,Ų (þ 63) #[] #[Ò 2,Ò 3],1, "waitgroup.go:238",#[],Á⟩,
 ⟨Á,.go {callee:=ü (Ò 6),args:=#[],argTypes:=#[]},0, "waitgroup.go:238",#[⟨0,Õ⟩],Á⟩]
def tG(c d e f:Ð)(a b:Nat):Array Ð:=#[c,d,À<|Â ⟨a,0,Á⟩,À<|Â ⟨b,0,Á⟩,e,f,ď (þ 63) #[] #[À<|Â ⟨a,0,Á⟩,À<|Â ⟨b,0,Á⟩]]
def CM(a b c d:Ð)(e f:Nat)(g:List ê):Ý:=G ((base 47).at ⟨tG a b c d e f,[]⟩ [Ï Iq [1]]) g
def Ir(a b c d:Ð)(e f:Nat)(g:List ê):Ý:=G ((base 47).at ⟨tG a b c d e f,[]⟩ [Ï Iq []]) g
def Zc(c e f g:Ð)(a b:Nat)(h:List ê)(w:ß):stepG Ä Ô (CM c e f g a b h) w=.spawn (Ir c e f g a b h) (born Ä<|pj 63 #[À<|Â ⟨a,0,Á⟩,À<|Â ⟨b,0,Á⟩] #[]) w #[]:=by
 refine(stepG_spawn (d:=pj 63 #[À<|Â ⟨a,0,Á⟩,À<|Â ⟨b,0,Á⟩] #[]) (w':=w) U U (by k_ne) ?_ U).trans ?_
 .simp[Iq,đ,Ξ,Ģ,ę,tG,pj]
 .have:listed Ä (base 47).fn ⟨tG c e f g a b,[]⟩ Iq[1] w=#[]:=by
   unfold listed;simp[Iq,đ,Ξ,Ģ,ę,tG,Ĳ]
  rw[this];rfl
structure ST(ba all nY n j:Nat)(qs dv:Ð)(t:Array Ð):Prop where
 r:t.size=49
 a:t[8]?=Â (À<|Â ⟨ba,0,Á⟩)
 C:t[10]?=Â qs
 I:t[11]?=Â (À<|Â ⟨nY,0,Á⟩)
 M:t[12]?=Â (À<|Â ⟨all,0,Á⟩)
 N:t[13]?=Â dv
 S:t[27]?=Â (É Î n)
 Y:t[28]?=Â (É Î j)
structure Is(ba all nY n:Nat)(qs:Ð)(t:Array Ð):Prop where
 EE:t.size=49
 t2:t[2]?=Â (É Î n)
 t8:t[8]?=Â (À<|Â ⟨ba,0,Á⟩)
 Rx:t[10]?=Â qs
 Ry:t[11]?=Â (À<|Â ⟨nY,0,Á⟩)
 Rz:t[12]?=Â (À<|Â ⟨all,0,Á⟩)
def It(t:Array Ð)(h:t.size=49):∃a b c d e f g i j k l m n o p q r s u v w x y z B C D E F G H I J K L M N O P Q S T V W X Y nU nV rJ:Ð,t=#[a,b,c,d,e,f,g,i,j,k,l,m,n,o,p,q,r,s,u,v,w,x,y,z,B,C,D,E,F,G,H,I,J,K,L,M,N,O,P,Q,S,T,V,W,X,Y,nU,nV,rJ]:=by obtain⟨_,rfl⟩:=uo t h;exact⟨_,_,_,_,_,_,_,_,_,_,_,_,_,_,_,_,_,_,_,_,_,_,_,_,_,_,_,_,_,_,_,_,_,_,_,_,_,_,_,_,_,_,_,_,_,_,_,_,_,U⟩
section
variable{Ψ:ß->Prop}{J a:Jd}{l:fe}{t:Array Ð}{ba all nY:Nat}{qs dv:Ð}
def aiG(d:jS l)(a:Is ba all nY n qs t)(e:∀c,ST ba all nY n 0 qs (Æ Á 0 0) c->fi Ä Ô J l (CL c qX)):fi Ä Ô J l (Ir v x z jQ b i<|Fu t::qX):=by
 obtain⟨m,o,f,p,q,r,s,u,g,w,h,j,k,y,B,C,D,E,F,G,H,I,K,L,M,N,O,P,Q,S,T,V,W,X,Y,oK,oL,pZ,p6,p7,p8,p9,qa,qc,qd,qe,nU,nV,rJ,rfl⟩:=It t a.EE;obtain rfl:f=É Î n:=by simpa using a.t2
 obtain rfl:g=À (Â ⟨ba,0,Á⟩):=by simpa using a.t8
 obtain rfl:h=qs:=by simpa using a.Rx
 obtain rfl:j=À (Â ⟨nY,0,Á⟩):=by simpa using a.Ry
 obtain rfl:k=À (Â ⟨all,0,Á⟩):=by simpa using a.Rz
 apply fW (n:=40) d;have hF:=trivial;simp only[Ir,Fu,Y7];iterate 2 w_go fA
 u_leave0 į fA hF
 simp only[sA,Y8,Y9];iterate 13 w_go fA
 refine Ë λ_ _=> ?_;exact e _ ⟨U,U,U,U,U,U,U,U⟩
def aiH(d:jS l)(a:ST ba all nY n j qs dv t)(q:j<1000)(e:∀c,ST ba all nY n (j+1) qs dv c->fi Ä Ô J l (CL c qX)):fi Ä Ô J l (Ir v x z jQ b i<|L3 t::qX):=by
 obtain⟨r,s,u,w,y,B,C,D,f,E,g,h,k,m,F,G,H,I,K,L,M,N,O,P,Q,S,T,o,p,V,W,X,Y,pf,pg,oK,oL,pZ,p6,p7,p8,p9,qa,qc,qd,qe,nU,nV,rJ,rfl⟩:=It t a.r;obtain rfl:f=À (Â ⟨ba,0,Á⟩):=by simpa using a.a
 obtain rfl:g=qs:=by simpa using a.C
 obtain rfl:h=À (Â ⟨nY,0,Á⟩):=by simpa using a.I
 obtain rfl:k=À (Â ⟨all,0,Á⟩):=by simpa using a.M
 obtain rfl:m=dv:=by simpa using a.N
 obtain rfl:o=É Î n:=by simpa using a.S
 obtain rfl:p=É Î j:=by simpa using a.Y
 apply fW (n:=40) d;have hF:=trivial;simp only[Ir,L3,LW];iterate 2 w_go fA
 u_leave0 į fA hF
 simp only[Rw];iterate 7 w_go fA
 refine Ë λ_ _=> ?_;refine e _ ⟨U,U,U,U,U,U,U,?_⟩;simp;exact CB Z Z
end
section
variable{l l' y:fe}
def gh.fZ(h:gh X l l')(s:gw l){p off:Nat}(c:l.w.heap.size<=p):gh X l {l' with w:=l'.w.setCell ⟨p,off,Á⟩ v}:=by
 have b:∀j,j<l.w.heap.size->(l'.w.setCell ⟨p,off,Á⟩ v).heap[j]?=l'.w.heap[j]?:=λj e=>ll (by show j≠p;omega);refine⟨h.O,h.c,h.S,h.Y,h.b,h.K,h.q,h.d,λj q=> ?_,?_,λj q n=>(b j<|s.fx j q).trans<|h.r j q n,λa q=>(gK<|b _<|s.I a q).trans<|h.f a q,λa q=>sP.trans<|h.g a q,λa q z=>yF<|h.e a q z⟩
 .show j<(l'.w.setCell ⟨p,off,Á⟩ v).heap.size;rw[jO];exact h.fx j q
 .show l.w.heap.size<=(l'.w.setCell ⟨p,off,Á⟩ v).heap.size;rw[jO];exact h.I
structure gZ(l:fe)(b:Nat)(o:Η):Prop where
 fq:l.O b
 I:l.w.heap[b]?=Â o
def gZ.r{o:Η}(h:gZ l b o)(k:gh X l l')(a:¬X b):gZ l' b o:=⟨k.O b h.fq,(k.r b (Ã h.fq) a).trans h.I⟩
def gZ.C(h:gZ l b (Ê d e xJ))(a:d[i]?=Â v):l.w.cell? ⟨b,i,Á⟩=Â v:=by simp[Ù,h.I,a]
end
def Zd{sz:Nat}{xs:List Ð}(h:w.ownsRow i e sz v n xs)(a:w.heap.size<=b):¬(Â b=v.ownBlock):=λq=>by have:=(h.lt b q.symm).2;omega
structure Ze(ba all q:Nat)(CN:Ð)(xs:List Ð)(ch bd bw bf:Nat)(l':fe):Prop where
 S:l'.w.ownsRow 0 101 1 CN xs.length xs
 M:∀k,CN.ownBlock=Â k->l'.O k
 r:gZ l' ch (ũ q #[] Í 0 0 Í)
 C:gZ l' bd (Ê #[é<|Â ch] 101)
 N:gZ l' bw (Ê #[À<|Â ⟨all,0,Á⟩] 162)
 I:gZ l' bf (Ê #[ď (þ 50) #[] #[À<|Â ⟨bd,0,Á⟩,À<|Â ⟨ba,0,Á⟩]] 1)
section
variable{g:Jd}{l:fe}{t:Array Ð}{ba all q:Nat}{f:Option ã}{xs:List Ð}
def aiI(y:gw l)(F:¬l.q)(hd:l.d=0)(G:ST ba all m n j (Æ f q i) x t)(yO:j<n)(hn:n<1000)(CO:q<1000)(L4:l.K ⟨all,0,Á⟩/\l.K ⟨all,1,Á⟩)(Ie:mQ all l.w) (lD:l.w.ownsRow 0 101 1 x j xs) (hO:∀k,x.ownBlock=Â k->l.O k) (hJ0:∀l' t' a r B S C v1,gh (λb=>Â b=x.ownBlock) l l'->ST ba all m n j (Æ f q i) C t'->Ze ba all q C (xs++[é<|Â a]) a r B S l'->l.w.heap.size<=a->a<r->r<B->B<S->(∀k,C.ownBlock=Â k->k≠a/\k≠r/\k≠B/\k≠S)->g l' (CM (À<|Â ⟨all,0,Á⟩) v1 (À<|Â ⟨all,0,Á⟩) (ñ #[]) B S<|L3 t'::qX)): fi Ä Ô (Lz Ä Ô all g) l (CL t qX):=by
 obtain⟨y0,y1,y2,y3,y4,y5,y6,y7,y8,y9,xj,zn,xk,rK,sU,qO,vC,vD,uq,uu,uw,sV,sW,sX,uy,vE,xl,sY,qP,uz,qg,qh,pY,pf,pg,oK,oL,pZ,p6,p7,p8,p9,qa,qc,qd,qe,nU,nV,rJ,rfl⟩:=It t G.r;obtain rfl:y8=À (Â ⟨ba,0,Á⟩):=by simpa using G.a
 obtain rfl:xj=Æ f q i:=by simpa using G.C
 obtain rfl:zn=À (Â ⟨m,0,Á⟩):=by simpa using G.I
 obtain rfl:xk=À (Â ⟨all,0,Á⟩):=by simpa using G.M
 obtain rfl:x=rK:=(show rK=x by simpa using G.N).symm;obtain rfl:sY=É Î n:=by simpa using G.S
 obtain rfl:qP=É Î j:=by simpa using G.Y
 have atp:(j:Int)<(n:Int):=Z
 have hF:True:=trivial;apply fW (n:=40) y.r;simp only[CL,Ft,Rv,Za];repeat w_go fA
 refine Ë λ_ _=> ?_;have Fv:Ä.info? 155=Â Ċ:=Ň;refine py (V:=λp=>é<|Â p) (ob:=ũ q #[] Í 0 0 Í) U U (by k_ne) y.r F (λw=> ?_) (λw=> ?_) λL mP=> ?_
 .have D:=run_makeChan (P:=Ä) (w:=w) ŀ Fv Î q Z (by simp[Ċ];omega);go_simp
 .simp[go_sem,(events_makeChan (P:=Ä) (w:=w) ŀ Fv Î q Z (by simp[Ċ];omega) #[])]
 walk_nrm;have uA:gh (λ_=>False) l (gG l L<|ũ q #[] Í 0 0 Í):=mT y mP;have c1:gZ (gG l L<|ũ q #[] Í 0 0 Í) L.heap.size (ũ q #[] Í 0 0 Í):=⟨Ç U,mS⟩;have Zf:l.w.heap.size<=L.heap.size:=mP.r;generalize gG l L (ũ q #[] Í 0 0 Í)=l₁ at uA c1|-;generalize L.heap.size=a at c1 Zf|-;have xo:=uA.N y;have Zg:¬l₁.q:=by rwa[uA.q]
 refine py (V:=λp=>À<|Â ⟨p,0,Á⟩) (ob:=Ê #[é Á] 101) U U (by k_ne) xo.r Zg (λw=>by go_simp) (λw=>by simp[go_sem]) λT pw=> ?_;walk_nrm;have Iu:gh (λ_=>False) l (gG l₁ T<|Ê #[é Á] 101):=uA.fg<|mT xo pw;have c2:=c1.r (mT (X:=λ_=>False) (ob:=Ê #[é Á] 101) xo pw) id;have H:gZ (gG l₁ T<|Ê #[é Á] 101) T.heap.size (Ê #[é Á] 101):=⟨Ç U,mS⟩;have KD:a<T.heap.size:=È (xo.fx a<|Ã c1.fq) pw.r;generalize gG l₁ T (Ê #[é Á] 101)=l₂ at Iu c2 H|-;generalize T.heap.size=r at H KD|-;clear c1 uA Zg xo pw l₁;have rM:=Iu.N y;have qi:¬l₂.q:=by rwa[Iu.q]
 refine Ig (p:=r) (off:=0) (v:=é<|Â a) (u:=é Á) U U (by k_ne) rM.r qi H.fq (H.C U) (by simp[ð,H.I]) U (λw o s=>by go_simp) (λw o s=>by simp[go_sem,o,s]) ?_;have M:gh (λ_=>False) l {l₂ with w:=l₂.w.setCell ⟨r,0,Á⟩ (é<|Â a)}:=Iu.fZ y Z;have c3:gZ {l₂ with w:=l₂.w.setCell ⟨r,0,Á⟩ (é<|Â a)} a (ũ q #[] Í 0 0 Í):=⟨c2.fq,(ll<|by show a≠r;omega).trans c2.I⟩;have W:gZ {l₂ with w:=l₂.w.setCell ⟨r,0,Á⟩ (é<|Â a)} r (Ê #[é<|Â a] 101):=⟨H.fq,by show(l₂.w.setCell ⟨r,0,Á⟩<|é<|Â a).heap[r]?=_;unfold Ą;simp[î,H.I]⟩;generalize({l₂ with w:=l₂.w.setCell ⟨r,0,Á⟩ (é<|Â a)}:fe)=kn at M c3 W|-;clear c2 H Iu rM qi l₂;have N:=M.N y;have xm:¬kn.q:=by rwa[M.q]
 have xp:∀k,x.ownBlock=Â k->kn.O k:=λk e=>M.O k<|hO k e;have L5:kn.w.ownsRow 0 101 1 x j xs:=nX lD λk e=>M.r k (Ã<|hO k e) id;apply fW (n:=10) N.r;simp only[Zb,LW];iterate 4 w_go fA
 refine Ë λ_ _=> ?_;apply pn (x:=⟨r,0,Á⟩) U U (by k_ne) N.r xm (Ã<|Ã W.fq) (W.C U) (λw h=>by go_simp) (λw h=>by simp[go_sem,h]);walk_nrm;refine py (V:=λp=>Æ (Â ⟨p,0,Á⟩) 1 1) (ob:=Ê #[é<|Â a] 101) U U (by k_ne) N.r xm (λw=>by go_simp) (λw=>by simp[go_sem]) λI vI=> ?_;walk_nrm;have CJ:gh (λ_=>False) l (gG kn I<|Ê #[é<|Â a] 101):=M.fg<|mT N vI;have k4:=mT (X:=λ_=>False) (ob:=Ê #[é<|Â a] 101) N vI;have c4:=c3.r k4 id;have d4:=W.r k4 id;have Y:gZ (gG kn I<|Ê #[é<|Â a] 101) I.heap.size (Ê #[é<|Â a] 101):=⟨Ç U,mS⟩;have hpx:r<I.heap.size:=È (N.fx r<|Ã W.fq) vI.r;have xq:∀k,x.ownBlock=Â k->(gG kn I<|Ê #[é<|Â a] 101).O k:=λk e=>Ã<|xp k e;have CP:=nX L5 (w₁:=(gG kn I<|Ê #[é<|Â a] 101).w) λk e=>k4.r k (Ã<|xp k e) id;generalize gG kn I (Ê #[é<|Â a] 101)=l₄ at CJ c4 d4 Y xq CP|-;generalize I.heap.size=px at Y hpx|-;clear c3 W M N xm xp L5 k4 vI kn;have zr:=CJ.N y;have CQ:¬l₄.q:=by rwa[CJ.q]
 refine Ih (v:=x) (us:=[é<|Â a]) (px:=px) (c:=1) (n:=j) (xs:=xs) (inf:=Χ) (z:=é Á) U U (by k_ne) zr CQ U U U Tryz.underlying100 Tryz.type101 U U Nat.one_pos U U (by simp[Χ];omega) (by simp only[ŧ];omega) CP xq Y.fq (Ru<|Y.C U) (λ_ D=>List.mem_singleton.1 D▸rfl) λs5 C Q CR sM Iv CS uC=> ?_;walk_nrm;have Zh:∀b,l.w.heap.size<=b->¬(Â b=x.ownBlock):=λb hb=>Zd lD hb;have k5:gh (λb=>Â b=x.ownBlock) l₄ (mU l₄ s5 Q):=LU zr CR Iv λk e=>⟨xq k e,e.symm⟩;have vK:gh (λb=>Â b=x.ownBlock) l (mU l₄ s5 Q):=(CJ.fN λ_ _ q=>q.elim).fg k5;have c5:=c4.r k5<|Zh a Z;have d5:=d4.r k5<|Zh r Z;have hl4:px<s5.heap.size:=È (zr.fx px<|Ã Y.fq) CR.r;have L8:∀k,C.ownBlock=Â k->k<Q.heap.size/\k≠a/\k≠r:=λk e=>by
  have D:=(sM.lt k e).2;rcases uC with z|z
  .rw[z]at e;have:=(lD.lt k e).2;exact⟨D,Z,Z⟩
  .rw[z]at e;obtain rfl:=Ó e;exact⟨D,Z,Z⟩
 have xr:(mU l₄ s5 Q).w.ownsRow 0 101 1 C (j+1) (xs++[é<|Â a]):=sM;have RE:(mU l₄ s5 Q).w.heap.size=Q.heap.size:=U;generalize mU l₄ s5 Q=s6 at vK c5 d5 xr CS RE|-;rw[<-RE]at L8;clear k5 Iv sM uC c4 d4 Y CJ zr CQ xq CP CR l₄ RE;have rP:=vK.N y;have Zi:¬s6.q:=by rwa[vK.q]
 apply fW (n:=20) rP.r;iterate 4 w_go fA
 u_call į fP ν fA hF
 iterate 2 w_go fA
 refine Ë λ_ _=> ?_;refine py (V:=λp=>À<|Â ⟨p,0,Á⟩) (ob:=Ê #[À<|Â ⟨all,0,Á⟩] 162) U U (by k_ne) rP.r Zi (λw=>by go_simp) (λw=>by simp[go_sem]) λD L9=> ?_;walk_nrm;have k6:=mT (X:=λ_=>False) (ob:=Ê #[À<|Â ⟨all,0,Á⟩] 162) rP L9;have CU:gh (λb=>Â b=x.ownBlock) l (gG s6 D<|Ê #[À<|Â ⟨all,0,Á⟩] 162):=vK.fg (k6.fN λ_ _ q=>q.elim);have c6:=c5.r k6 id;have d6:=d5.r k6 id;have g6:gZ (gG s6 D<|Ê #[À<|Â ⟨all,0,Á⟩] 162) D.heap.size (Ê #[À<|Â ⟨all,0,Á⟩] 162):=⟨Ç U,mS⟩;have CV:r<D.heap.size:=È (rP.fx r<|Ã d5.fq) L9.r;have Iw:∀k,C.ownBlock=Â k->k<D.heap.size/\k≠a/\k≠r:=λk e=>⟨È (L8 k e).1 L9.r,(L8 k e).2⟩;have Ma:∀k,C.ownBlock=Â k->(gG s6 D<|Ê #[À<|Â ⟨all,0,Á⟩] 162).O k:=λk e=>Ã<|CS k e;have RF:=nX xr (w₁:=(gG s6 D<|Ê #[À<|Â ⟨all,0,Á⟩] 162).w) λk e=>k6.r k (Ã<|CS k e) id;generalize gG s6 D (Ê #[À<|Â ⟨all,0,Á⟩] 162)=CW at CU c6 d6 g6 Ma RF|-;generalize D.heap.size=B at g6 CV Iw|-;clear k6 c5 d5 vK rP Zi CS xr L8 L9 s6;have Mb:=CU.N y;have Zj:¬CW.q:=by rwa[CU.q]
 refine py (V:=λp=>À<|Â ⟨p,0,Á⟩) (ob:=Ê #[ď (þ 50) #[] #[À<|Â ⟨r,0,Á⟩,À<|Â ⟨ba,0,Á⟩]] 1) U U (by k_ne) Mb.r Zj (λw=>by go_simp) (λw=>by simp[go_sem]) λJ RG=> ?_;walk_nrm;have k7:=mT (X:=λ_=>False) (ob:=Ê #[ď (þ 50) #[] #[À<|Â ⟨r,0,Á⟩,À<|Â ⟨ba,0,Á⟩]] 1) Mb RG;have E:gh (λb=>Â b=x.ownBlock) l (gG CW J<|Ê #[ď (þ 50) #[] #[À<|Â ⟨r,0,Á⟩,À<|Â ⟨ba,0,Á⟩]] 1):=CU.fg (k7.fN λ_ _ q=>q.elim);have c7:=c6.r k7 id;have d7:=d6.r k7 id;have g7:=g6.r k7 id;have f7:gZ (gG CW J<|Ê #[ď (þ 50) #[] #[À<|Â ⟨r,0,Á⟩,À<|Â ⟨ba,0,Á⟩]] 1) J.heap.size (Ê #[ď (þ 50) #[] #[À<|Â ⟨r,0,Á⟩,À<|Â ⟨ba,0,Á⟩]] 1):=⟨Ç U,mS⟩;have Mc:B<J.heap.size:=È (Mb.fx B<|Ã g6.fq) RG.r;have RH:∀k,C.ownBlock=Â k->(gG CW J<|Ê #[ď (þ 50) #[] #[À<|Â ⟨r,0,Á⟩,À<|Â ⟨ba,0,Á⟩]] 1).O k:=λk e=>Ã<|Ma k e;have Zk:=nX RF (w₁:=(gG CW J<|Ê #[ď (þ 50) #[] #[À<|Â ⟨r,0,Á⟩,À<|Â ⟨ba,0,Á⟩]] 1).w) λk e=>k7.r k (Ã<|Ma k e) id;generalize gG CW J (Ê #[ď (þ 50) #[] #[À<|Â ⟨r,0,Á⟩,À<|Â ⟨ba,0,Á⟩]] 1)=CX at E c7 d7 g7 f7 RH Zk|-;generalize J.heap.size=S at f7 Mc|-;clear k7 c6 d6 g6 CU Mb Zj Ma RF RG CW;have Md:=E.N y;apply fW (n:=10) Md.r;iterate 3 w_go fA
 refine Ë λ_ _=> ?_;apply pn (x:=⟨B,0,Á⟩) U U (by k_ne) Md.r (by rwa[E.q]) (Ã<|Ã g7.fq) (g7.C U) (λw h=>by go_simp) (λw h=>by simp[go_sem,h]);walk_nrm;apply fW (n:=10) Md.r;u_call qN.f_add (Ι Lk) addFn fA hF;refine Ë λ_ _=> ?_;refine YI qN (⟨Ã (by rw[E.K];exact L4.1),Ã (by rw[E.K];exact L4.2),λw L o s h3 h4 h5 h=>h.fg ⟨o,s,h3,h4,h5⟩⟩) (⟨Md.r,⟨E.e _ L4.1 Ie.1,E.e _ L4.2 Ie.2⟩,fH.fT _ _⟩) (E.d.trans hd) λCY Zl=> ?_;walk_nrm;apply fW (l:={CX with d:=0,w:=CY}) (n:=10) Zl.1;iterate 3 w_go fA
 refine Ë λ_ _=> ?_;refine .fB λvL xt=> ?_;have rr:fH CX CX.w vL:=Zl.2.2.fg ⟨xt.r,xt.I,xt.N,xt.Y,xt.S⟩;have s:=E.G rr;have hA9:gh (λb=>Â b=x.ownBlock) l ({CX with d:=0,w:=vL}:fe):=⟨s.O,s.c,s.S,s.Y,s.b,s.K,s.q,hd.symm,s.fx,s.I,s.r,s.f,s.g,s.e⟩;have at9:∀{b:Nat} {o:Η},gZ CX b o->gZ ({CX with d:=0,w:=vL}:fe) b o:=λh=>⟨h.fq,(rr.I _<|Ã h.fq).trans h.I⟩;have hlen:(xs++[é<|Â a]).length=j+1:=by have:=lD.1;simp;omega
 refine hJ0 {CX with d:=0,w:=vL} _ a r B S C _ hA9 ⟨U,U,U,U,U,U,U,U⟩ ⟨?_,RH,at9 c7,at9 d7,at9 g7,at9 f7⟩ Zf KD CV Mc λk e=>⟨(Iw k e).2.1,(Iw k e).2.2,by have:=(Iw k e).1;omega,by have:=(Iw k e).1;omega⟩;rw[hlen];exact nX Zk λk e=>rr.I k<|Ã<|RH k e
end
def s7(l:fe)(b:Nat):fe:={l with O:=λj=>l.O j/\j≠b,K:=λa=>l.K a\/a=⟨b,0,Á⟩\/a=⟨b,1,Á⟩}
def nn(l x:fe)(b:Nat):fe:={x with O:=λj=>x.O j\/j=b,K:=l.K}
section
variable{S:Jd}{l:fe}
def fi.RJ(W:∀a,l.K a->a.block≠b){x:fe}(h:fi P yQ S x g):¬x.M b->(∀a,x.C a->a.block≠b)->x.K=(s7 l b).K->b<x.w.heap.size->(x.w.cell? ⟨b,0,Á⟩).isSome=Ô->(x.w.cell? ⟨b,1,Á⟩).isSome=Ô->jS x-> fi P yQ (λG H=>∃d,S d H/\G=nn l d b/\¬d.M b/\(∀a,d.C a->a.block≠b)/\d.K=(s7 l b).K/\b<d.w.heap.size/\d.w.heap[b]?=x.w.heap[b]?/\d.q=x.q/\jS d) (nn l x b) g:=by
 have u:∀{x:fe} {c:ß},x.K=(s7 l b).K->(x.w.cell? ⟨b,0,Á⟩).isSome=Ô->(x.w.cell? ⟨b,1,Á⟩).isSome=Ô->fH (nn l x b) x.w c->fH x x.w c:=λ{x c} f i m r=>
  ⟨r.r,λj p=>r.I j<|p.imp Ã id,r.N,r.Y,λa o q=>by
   rw[f]at o;rcases o with z|z|z
   .exact r.S a z q
   .rw[z,gK<|r.I b<|Ã<|Ç U];exact i
   .rw[z,gK (r.I b (Ã (Ç U)))];exact m⟩
 induction h with
 |@fB x g h=>
  intro s t f v i m I;refine .fB λc r=>⟨{x with w:=c},h c<|u f i m r,U,s,t,f,È v r.r,r.I b<|Ã<|Ç U,U,lX I<|u f i m r⟩
 |@jv x g G' W' E' L' iH h hd _ ih=>
  intro s t f v i m I;refine .mk iH λc r=> ?_;have B:=u f i m r;have D:=hd c B;have E:=È v r.r;have J:=λq=>s<|Ã q;have L:=D.jR b E J λa e q=>t a (Ã q) e;have F:(L' c).w.heap[b]?=x.w.heap[b]?:=by rw[D.b];exact L.trans<|r.I b<|Ã<|Ç U
  refine⟨G' c,W' c,E' c,nn l (L' c) b,h c B,?_,?_⟩
  .refine⟨D.C,λj q=> ?_,λj q=> ?_,D.I,D.r,D.M,U,λj p y n=>D.jR j p (λq=>y<|Ã q) n,λa o y n=>D.N a o (λq=>y<|Ã q) n,λa o y=>D.Y a o λq=>y<|Ã q,D.f,D.g,D.m,λe N=> ?_,D.h,D.q,λq=> ?_,D.b⟩
   .rcases q with q|q
    .exact(D.S j q).imp Ã id
    .exact Ã<|Ç q
   .rcases q with q|q
    .exact D.fx j q
    .rw[q];exact È E D.C
   .rcases D.c e N with⟨a,y,n⟩|h|h|h|h|⟨a,y,n⟩
    .exact Ã ⟨a,y,n.imp Ã id⟩
    .exact Ç<|Ã h
    .exact Ç<|Ç<|Ã h
    .exact Ç<|Ç<|Ç<|Ã h
    .exact Ç<|Ç<|Ç<|Ç<|Ã h
    .exact Ç<|Ç<|Ç<|Ç<|Ç ⟨a,Ã y,n⟩
   .let⟨Q,T,V⟩:=D.i q;exact⟨Q,T,by funext j;show((L' c).O j\/j=b)=(x.O j\/j=b);rw[V]⟩
  .refine(ih c B (λq=>q.elim (λz=>(D.S b z).elim J λy=>by omega) λz=>s<|Ç<|by rw[<-D.I];exact z) (λa q=>t a<|q.imp (by rw[D.r];exact id)<|by rw[D.M];exact id) (D.k.trans f) (by rw[D.b];exact È E D.C) (by rw[gK F];exact i) (by rw[gK F];exact m) λj p=>by rw[D.b];exact D.fx j p).fN ?_;rintro G H ⟨d,y,e,j,n,o,p,z,N,Q⟩;exact⟨d,y,e,j,n,o,p,z.trans F,N.trans D.q,Q⟩
end
section
variable{L:WgLink}{l:fe}{J:Jd}{c:ê}{k:List ż}{ty:Ż}
structure aiJ(b:Nat)(cc:Array Ð)(ty:Ż)(l l':fe):Prop where
 r:gh (λj=>j=b) l l'
 O:l'.O=l.O
 C:l'.w.heap[b]?=Â (Ê (cc.setIfInBounds 0<|É ì 4294967296) ty)
def Zm(a:l.O b)(w:ß)(d:Nat):nn l {s7 l b with d:=d,w:=w} b={l with d:=d,w:=w}:=by
 have:(λj=>(l.O j/\j≠b)\/j=b)=l.O:=by
  funext j;refine propext ⟨λh=>h.elim (·.1) λe=>e▸a,λh=> ?_⟩;by_cases e:j=b
  .exact Ç e
  .exact Ã ⟨h,e⟩
 unfold nn s7;simp only[this]
def Zn{C:Array Ð}(H:WgLib P L)(s:gw l)(hq:¬l.q)(Y:l.d=0)(x:l.O b)(M:l.w.heap[b]?=Â (Ê C ty))(N:C[0]?=Â (É ì 0))(o:(C[1]?).isSome=Ô) (hT:∀B,aiJ b C ty l B->fi P yQ J B (G (c.at (y.put ((Q[i]?).bind (·.dst))<|ñ #[])<|Ï Q jJ::k) qX)): fi P yQ J l (G ((base L.add).at ⟨#[À<|Â ⟨b,0,Á⟩,É Î 1,Å,Å,Å,Å,Å,Å,Å,Å,Å,Å,Å,Å,Å,Å,Å,Å,Å,Å,Å,Å,Å,Å,Å,Å,Å,Å,Å,Å,Å,Å,Å,Å,Å,Å,Å,Å,Å,Å,Å,Å,Å,Å,Å,Å,Å,Å,Å,Å,Å,Å,Å,Å,Å,Å,Å,Å,Å,Å,Å,Å,Å,Å,Å,Å,Å,Å,Å,Å,Å,Å,Å,Å,Å,Å,Å,Å,Å,Å,Å,Å,Å,Å,Å,Å,Å,Å,Å,Å,Å,Å,Å,Å,Å,Å,Å,Å,Å,Å,Å,Å,Å,Å,Å,Å,Å,Å,Å,Å,Å,Å,Å,Å,Å,Å,Å],[]⟩ [ö<|body_add L])<|c.at y (Ï Q (i::jJ)::k)::qX):=by
 have e0:l.w.cell? ⟨b,0,Á⟩=Â (É ì 0):=by simp[Ù,M,N]
 have e1:(l.w.cell? ⟨b,1,Á⟩).isSome=Ô:=by let⟨u,D⟩:=Ö.1 o;simp[Ù,M,D]
 have S:∀y:ã,l.K y->y.block≠b:=λy T e=>(s.S y T).1<|Ã<|e▸x;let J1:Jd:=λB g'=>g'=G (c.at (y.put ((Q[i]?).bind (·.dst))<|ñ #[])<|Ï Q jJ::k) qX/\B={s7 l b with d:=0,w:=B.w}/\fH (s7 l b) l.w B.w
 have hW:fi P yQ (Lz P yQ b J1) (s7 l b) (G ((base L.add).at ⟨#[À<|Â ⟨b,0,Á⟩,É Î 1,Å,Å,Å,Å,Å,Å,Å,Å,Å,Å,Å,Å,Å,Å,Å,Å,Å,Å,Å,Å,Å,Å,Å,Å,Å,Å,Å,Å,Å,Å,Å,Å,Å,Å,Å,Å,Å,Å,Å,Å,Å,Å,Å,Å,Å,Å,Å,Å,Å,Å,Å,Å,Å,Å,Å,Å,Å,Å,Å,Å,Å,Å,Å,Å,Å,Å,Å,Å,Å,Å,Å,Å,Å,Å,Å,Å,Å,Å,Å,Å,Å,Å,Å,Å,Å,Å,Å,Å,Å,Å,Å,Å,Å,Å,Å,Å,Å,Å,Å,Å,Å,Å,Å,Å,Å,Å,Å,Å,Å,Å,Å,Å,Å,Å,Å],[]⟩ [ö<|body_add L])<|c.at y (Ï Q (i::jJ)::k)::qX):=by refine YI (Ψ:=λw=>fH (s7 l b) l.w w) H ⟨Ã<|Ç<|Ã U,Ã<|Ç<|Ç U,λw n o t a g m h=>h.fg ⟨o,t,a,g,m⟩⟩ ⟨λj f=>s.fx j<|Ã f.1,⟨by rw[show(s7 l b).w=l.w from rfl,e0];rfl,e1⟩,fH.fT _ _⟩ Y λn v=> .fB λp r=>⟨U,U,v.2.2.fg ⟨r.r,r.I,r.N,r.Y,r.S⟩⟩
 have hstart:=hW.RJ S (λq=>q.elim (λz=>z.2 U) λz=>s.c b x z) (λy T e=>s.N y T<|Ã<|e▸x) U (s.fx b<|Ã x) (by rw[show(s7 l b).w=l.w from rfl,e0];rfl) e1 λj f=>s.fx j<|Ã f.1;rw[show nn l (s7 l b) b=l from Zm x l.w l.d]at hstart;apply hstart.lN;rintro l1 g1 ⟨E,⟨CZ,aiK,hA⟩,rfl,Zo,Zp,rG,hlt1,nz,CO,lo1⟩;let⟨g2,Zq,V⟩:=hA 0;have sR:ì.wrap (0+fY)=fY:=by rw[show(0:Int)+fY=fY from rfl];exact K0 A A
 rw[sR]at V Zq;rw[if_pos U]at V;have hqx:¬E.q:=by rwa[CO]
 refine .mk aiK λn r=> ?_;have F:=(r.I b<|Ã<|Ç U).trans<|nz.trans M;have c0:n.cell? (fM b)=Â (É ì 0):=by simp[Ù,fM,F,N]
 have atq:=È hlt1 r.r;have W:(n.setCell (fM b)<|É ì fY).heap[b]?=Â (Ê (C.setIfInBounds 0<|É ì 4294967296) ty):=by unfold Ą;simp[î,fM,F,fY]
 have rx:fH E E.w (n.setCell (fM b)<|É ì fY):=by
  refine⟨by rw[jO];exact r.r,λj f=>((ll λe=>Zo (by have t:j=b:=e;rwa[<-t])).trans<|r.I j<|f.imp Ã id),λa g=>(gK<|ll<|Zp a g).trans<|r.N a g,λa g=>sP.trans<|r.Y a g,λa g q=> ?_⟩
  .rw[rG]at g;refine yF ?_;rcases g with z|z|z
   .exact r.S a z q
   .rw[z,gK<|r.I b<|Ã<|Ç U];rwa[z]at q
   .rw[z,gK<|r.I b<|Ã<|Ç U];rwa[z]at q
 refine⟨g2,_,_,nn l {E with w:=n.setCell (fM b) (É ì fY)} b,Zq n c0 (by simp[ð,fM,F]),?_,?_⟩
 .refine⟨by rw[jO];exact Û _,λ_ h=>Ã h,λj h=> ?_,U,U,U,U,λj _ o _=>ll λe=>o<|Ç e,λa _ o _=>gK (ll λe=>o<|Ç e),λ_ _ _=>P4,U,U,U,λe t=> ?_,?_,U,λq=>absurd q hqx,U⟩
  .rw[jO];rcases h with h|h
   .exact È (lo1 j h) r.r
   .rwa[h]
  .have:e=ku (fM b)\/e=mO (fM b):=by simpa using t
   rcases this with rfl|rfl
   .exact Ã ⟨fM b,U,Ã<|Ç U⟩
   .exact Ã ⟨fM b,U,Ã<|Ç U⟩
  .exact(œ (λe t=>by
    have:e=ku (fM b)\/e=mO (fM b):=by simpa using t
    rcases this with rfl|rfl<;>exact⟨by simp[ku,mO],by simp[ku,mO]⟩) _).symm
 have z1:((n.setCell (fM b)<|É ì fY).cell? ⟨b,1,Á⟩).isSome=Ô:=by let⟨u,D⟩:=Ö.1 o;exact yF<|by simp[Ù,F,D]
 have aiL:=(V.jL rx).RJ S Zo Zp rG (by show b<(n.setCell (fM b)<|É ì fY).heap.size;rwa[jO]) (yF<|by rw[show(⟨b,0,Á⟩:ã)=fM b from rfl,c0];rfl) z1 (λj f=>by show j<(n.setCell (fM b)<|É ì fY).heap.size;rw[jO];exact È (lo1 j f) r.r);apply aiL.lN;rintro l2 g3 ⟨v,⟨mV,aiM,g4,aiN,hN2⟩,rfl,nM2,nC2,zd,Me,X,qi,lo2⟩;have aiO:¬v.q:=by rwa[qi]
 refine .mk aiM λp m=> ?_;have I:∀a:ã,a.block=b->p.cell? a=v.w.cell? a:=λa e=>gK<|m.I a.block<|Ã<|Ç e;have rx2:fH v v.w p:=⟨m.r,λj f=>m.I j<|f.imp Ã id,m.N,m.Y,λa g q=>by
  rw[zd]at g;rcases g with z|z|z
  .exact m.S a z q
  .rwa[I a (by rw[z])]
  .rwa[I a (by rw[z])]⟩
 refine⟨g4,p,_,nn l {v with w:=p} b,aiN p,?_,?_⟩
 .refine⟨Û _,λ_ h=>Ã h,λj h=> ?_,U,U,U,U,λ_ _ _ _=>rfl,λ_ _ _ _=>rfl,λ_ _ _=>rfl,U,U,U,λe t=> ?_,?_,U,λq=>absurd q aiO,U⟩
  .rcases h with h|h
   .exact È (lo2 j h) m.r
   .rw[h];exact È Me m.r
  .have:e=jw (.read<|gP b):=by simpa using t
   rw[this];exact Ç<|Ç<|Ç<|Ç<|Ç ⟨gP b,Ç U,Ã U⟩
  .exact(œ (λe t=>by
    have:e=jw (.read<|gP b):=by simpa using t
    rw[this];exact⟨by simp[jw],by simp[jw]⟩) _).symm
 have z:(p.cell? ⟨b,0,Á⟩).isSome=Ô:=by rw[I _ U];have:v.w.heap[b]?=_:=X.trans W;simp[Ù,this,(æ.1 N).1]
 have y1:(p.cell? ⟨b,1,Á⟩).isSome=Ô:=by rw[I _ U];have:v.w.heap[b]?=_:=X.trans W;let⟨u,D⟩:=Ö.1 o;simp[Ù,this,(æ.1 D).1]
 have u:=(hN2.jL rx2).RJ S nM2 nC2 zd (È Me m.r) z y1 λj f=>È (lo2 j f) m.r;apply u.lN;rintro l3 g5 ⟨x3,⟨rfl,D,t⟩,rfl,nM3,nC3,hk3,Zr,hb3,xm,lo3⟩;rw[D,Zm x];have C0:=hb3.trans<|(m.I b<|Ã<|Ç U).trans<|X.trans W;refine hT _ ⟨⟨λ_ h=>h,λ_ h=>Ã h,U,U,U,U,U,Y.symm,λj f=>È (s.fx j<|Ã f) t.r,t.r,λj f hn=>t.I j (f.imp (λq=>⟨q,hn⟩) id),t.N,t.Y,λa g=>t.S a<|Ã g⟩,U,C0⟩
end
noncomputable def RL:ġ:=kY ģ [1,1,1]
noncomputable def Zs:ġ:=kY ģ [1,1,0,1,0,0,1,1,0,0,1,1,1]
noncomputable def RN:ġ:=kY ģ [1,1,0,1,0,0,1,1,0,0,1,1,0,1]
noncomputable def Ix:ġ:=kY ģ [1,1,0,1,0,0]
noncomputable def RO:ġ:=kY ģ [1,1,0,1,0,0,1,1,1]
noncomputable def C3 (t:Array Ð) (a:List ê):Ý:=G ((base 46).at ⟨t,[]⟩ [ö Ix,ā Ix,ï 0,ö RL]) a
noncomputable def Iy (t:Array Ð) (a:List ê):Ý:=G ((base 46).at ⟨t,[]⟩ [ö RN,ö Zs,ï 1,ö RO,ā Ix,ï 0,ö RL]) a
structure PT(iv qv rs:Ð)(lg R i:Nat)(t:Array Ð):Prop where
 r:t.size=48
 N:t[4]?=Â iv
 S:t[5]?=Â qv
 Y:t[6]?=Â (À<|Â ⟨lg,0,Á⟩)
 C:t[13]?=Â rs
 I:t[14]?=Â (É Î R)
 M:t[15]?=Â (É Î i)
def Mf(t:Array Ð)(h:t.size=48):∃a b c d e f g i j k l m n o p q r s u v w x y z B C D E F G H I J K L M N O P Q S T V W X Y nU nV:Ð,t=#[a,b,c,d,e,f,g,i,j,k,l,m,n,o,p,q,r,s,u,v,w,x,y,z,B,C,D,E,F,G,H,I,J,K,L,M,N,O,P,Q,S,T,V,W,X,Y,nU,nV]:=by obtain⟨_,rfl⟩:=uo t h;exact⟨_,_,_,_,_,_,_,_,_,_,_,_,_,_,_,_,_,_,_,_,_,_,_,_,_,_,_,_,_,_,_,_,_,_,_,_,_,_,_,_,_,_,_,_,_,_,_,_,U⟩
def aiP(w:ß)(a c:Option ã)(b:Int):(Ē 155 #[(0,À a),(1,É Î b),(2,À c)]).run Ä w=.ok (Ě #[À a,É Î b,À c,À Á]) w:=run_build w 155 _ _ fP
def aiQ(w:ß)(a c:Option ã)(b:Int):(Ē 155 #[(0,À a),(1,É Î b),(2,À c)]).events Ä w #[]=#[]:=by unfold Ē;simp only[Ş];simp[go_sem]
section
variable{p:Nat}{v0 v1 v2 v3:Ð}
def aiR(h:w.heap[p]?=Â (Ê #[v,x,z,jQ] e)):(iT w p v0 v1 v2 v3).heap[p]?=Â (Ê #[v0,v1,v2,v3] e):=by unfold iT Ą;simp[î,h]
def gh.iT{l c:fe}(h:gh X l c)(s:gw l)(r:fH c c.w u)(f:l.w.heap.size<=p):gh X l {c with w:=fv.iT u p v0 v1 v2 v3}:=by
 have b:=h.G r;have e:∀{j:Nat},j<l.w.heap.size->(fv.iT u p v0 v1 v2 v3).heap[j]?=u.heap[j]?:=λ{j} q=>zj Z;refine⟨b.O,b.c,b.S,b.Y,b.b,b.K,b.q,b.d,λj q=> ?_,?_,λj q n=>(e<|s.fx j q).trans<|b.r j q n,λa q=>(gK<|e<|s.I a q).trans<|b.f a q,λa q=>(wT<|e<|s.I a q).trans<|b.g a q,λa q z=> ?_⟩
 .show j<(fv.iT u p v0 v1 v2 v3).heap.size;rw[xi];exact b.fx j q
 .show l.w.heap.size<=(fv.iT u p v0 v1 v2 v3).heap.size;rw[xi];exact b.I
 .show((fv.iT u p v0 v1 v2 v3).cell? a).isSome=Ô;rw[gK<|e (s.S a q).2.1];exact b.e a q z
def gZ.rly{l:fe}{o:Η}(h:gZ l b o)(r:fH l l.w u):gZ {l with w:=u} b o:=⟨h.fq,(r.I b<|Ã h.fq).trans h.I⟩
end
section
variable{J:Jd}{l:fe}{t:Array Ð}{iv qv:Ð}{lg R:Nat}{kd:Int}
def aiS(f:gw l)(o:¬l.q)(k:PT iv qv (Æ (Â ⟨j,0,Á⟩) R n) lg R i t)(Zt:i<R)(hR:R<1000)(T:l.M j)(V:l.w.cell? ⟨j,i,Á⟩=Â (À<|Â ⟨b,0,Á⟩))(F:l.M b)(W:l.w.cell? ⟨b,4,Á⟩=Â (É Î kd)) (X:∀B u a,gh (λ_=>False) l B->l.w.heap.size<=a->gZ B a (Ê #[À<|Â ⟨b,0,Á⟩,É Î i,À<|Â ⟨lg,0,Á⟩,À Á] 155)->PT iv qv (Æ (Â ⟨j,0,Á⟩) R n) lg R i u->u[9]?=Â (À<|Â ⟨a,0,Á⟩)->u[28]?=Â (ĭ<|decide<|kd≠1)->fi Ä Ô J B (Iy u qX)): fi Ä Ô J l (C3 t qX):=by
 obtain⟨y0,y1,y2,y3,G,H,Y,y7,y8,y9,xj,zn,xk,rK,sU,qO,vC,vD,uq,uu,uw,sV,sW,sX,uy,vE,xl,sY,qP,uz,qg,qh,pY,pf,pg,oK,oL,pZ,p6,p7,p8,p9,qa,qc,qd,qe,nU,nV,rfl⟩:=Mf t k.r;obtain rfl:iv=G:=(show G=iv by simpa using k.N).symm;obtain rfl:qv=H:=(show H=qv by simpa using k.S).symm;obtain rfl:Y=À (Â ⟨lg,0,Á⟩):=by simpa using k.Y
 obtain rfl:rK=Æ (Â ⟨j,0,Á⟩) R n:=by simpa using k.C
 obtain rfl:sU=É Î R:=by simpa using k.I
 obtain rfl:qO=É Î i:=by simpa using k.M
 have atr:(i:Int)<(R:Int):=Z
 have hF:True:=trivial;have rL:∀y:ã,False->l.r y:=λy ha=>ha.elim;apply fW (n:=40) f.r;simp only[C3];conv in Ix=>whnf
 repeat w_go fA
 refine Ë λ_ _=> ?_;apply pn (x:=⟨j,i,Á⟩) U U (by k_ne) f.r o (Ã T) V (λw h=>by go_simp) (λw h=>by simp[go_sem,h]);walk_nrm;apply fW (n:=40) f.r;repeat w_go fA
 refine Ë λ_ _=> ?_;refine oM (v:=Ě #[À<|Â ⟨b,0,Á⟩,É Î i,À<|Â ⟨lg,0,Á⟩,À Á]) U U (by k_ne) f.r o (λc r=> ?_) (λc r e C=> ?_) ?_
 .have S:=aiP c (Â ⟨b,0,Á⟩) (Â ⟨lg,0,Á⟩) i;go_simp
 .simp[go_sem,aiQ c (Â ⟨b,0,Á⟩) (Â ⟨lg,0,Á⟩) i]at C
 walk_nrm;refine H4 (ob:=Ê #[À Á,É Î 0,À Á,À Á] 155) U U (by k_ne) f.r o (λw=>by go_simp) (λw=>by simp[go_sem]) λc D=> ?_;walk_nrm;have s:gh (λ_=>False) l (gG l c<|Ê #[À Á,É Î 0,À Á,À Á] 155):=mT f D;have m:gZ (gG l c<|Ê #[À Á,É Î 0,À Á,À Á] 155) c.heap.size (Ê #[À Á,É Î 0,À Á,À Á] 155):=⟨Ç U,mS⟩;have E:l.w.heap.size<=c.heap.size:=D.r;generalize gG l c (Ê #[À Á,É Î 0,À Á,À Á] 155)=l₁ at s m|-;generalize c.heap.size=a at m E|-;have I:=s.N f;have K:¬l₁.q:=by rwa[s.q]
 refine vy U U (by k_ne) λd z=> ?_;have g:=m.rly z;replace g:d.heap[a]?=_:=g.I;have L:d.cell? ⟨a,0,Á⟩=Â (À Á):=by simp[Ù,g]
 have N:d.cell? ⟨a,1,Á⟩=Â (É Î 0):=by simp[Ù,g]
 have O:d.cell? ⟨a,2,Á⟩=Â (À Á):=by simp[Ù,g]
 have P:d.cell? ⟨a,3,Á⟩=Â (À Á):=by simp[Ù,g]
 have Q:∀r,d.frozen? ⟨a,r,Á⟩=Í:=λr=>by simp[ð,g]
 go_simp;refine⟨{l₁ with w:=iT d a (À<|Â ⟨b,0,Á⟩) (É Î i) (À<|Â ⟨lg,0,Á⟩) (À Á)},LL (p:=a) (lX I.r z) K m.fq xi (λr S=>zj S) ⟨U,U,U⟩ λe C=> ?_,?_⟩
 .have S:=ě C;have e:∀r,qf l₁ ⟨a,r,Á⟩:=λr=>Ã m.fq;simp[go_sem,â _ _ _ _ _ _ (show Ú (À<|Â ⟨b,0,Á⟩)=Ô from rfl),â _ _ _ _ _ _ (show Ú (À<|Â ⟨lg,0,Á⟩)=Ô from rfl),â _ _ _ _ _ _ (show Ú (À Á)=Ô from rfl),L,N,O,P,Q]at S;rcases S with rfl|rfl|rfl|rfl
  .exact(e _).r
  .exact(e _).r
  .exact(e _).r
  .exact(e _).r
 have e:gh (λ_=>False) l ({l₁ with w:=iT d a (À<|Â ⟨b,0,Á⟩) (É Î i) (À<|Â ⟨lg,0,Á⟩) (À Á)}:fe):=s.iT f z E;have S:gZ ({l₁ with w:=iT d a (À<|Â ⟨b,0,Á⟩) (É Î i) (À<|Â ⟨lg,0,Á⟩) (À Á)}:fe) a (Ê #[À<|Â ⟨b,0,Á⟩,É Î i,À<|Â ⟨lg,0,Á⟩,À Á] 155):=⟨m.fq,aiR g⟩;generalize({l₁ with w:=iT d a (À<|Â ⟨b,0,Á⟩) (É Î i) (À<|Â ⟨lg,0,Á⟩) (À Á)}:fe)=l₂ at e S|-;clear m s I K g L N O P Q z d l₁ D c;have C:=e.N f;apply fW (n:=20) C.r;repeat w_go fA
 refine Ë λ_ _=> ?_;apply pn (x:=⟨b,4,Á⟩) U U (by k_ne) C.r (by rwa[e.q]) (Ã<|e.M F) ((gK<|e.r b F id).trans W) (λw h=>by go_simp) (λw h=>by simp[go_sem,h]);walk_nrm;apply fW (n:=20) C.r;iterate 2 w_go fA
 refine Ë λ_ _=> ?_;apply X l₂ _ a e E S ⟨U,U,U,U,U,U,U⟩ U;simp;rfl
end
section
variable{J:Jd}{l:fe}{xs:List Ð}
def aiT(s:gw l)(E:¬l.q)(o:PT v x z b j i d)(Zt:i<j)(hR:j<1000)(h9:d[9]?=Â (À<|Â ⟨m,0,Á⟩))(RP:d[28]?=Â (ĭ Ô))(hn:n<1000) (h:gZ l m (Ê #[À<|Â ⟨k,0,Á⟩,É Î i,À<|Â ⟨b,0,Á⟩,À Á] 155)) (lD:l.w.ownsRow 0 155 4 x n xs) (K:∀a,x.ownBlock=Â a->l.O a) (hJ:∀B L t,gh (λf=>Â f=x.ownBlock) l B->B.w.ownsRow 0 155 4 t (n+1) (xs++[À<|Â ⟨k,0,Á⟩,É Î i,À<|Â ⟨b,0,Á⟩,À Á])->(∀a,t.ownBlock=Â a->B.O a)->(t.ownBlock=x.ownBlock\/∃a,t.ownBlock=Â a/\l.w.heap.size<=a)->PT v t z b j (i+1) L->fi Ä Ô J B (C3 L qX)): fi Ä Ô J l (Iy d qX):=by
 obtain⟨y0,y1,y2,y3,M,N,y6,y7,y8,y9,xj,zn,xk,P,sU,qO,vC,vD,uq,uu,uw,sV,sW,sX,uy,vE,xl,sY,qP,uz,qg,qh,pY,pf,pg,oK,oL,pZ,p6,p7,p8,p9,qa,qc,qd,qe,nU,nV,rfl⟩:=Mf d o.r;obtain rfl:v=M:=(show M=v by simpa using o.N).symm;obtain rfl:x=N:=(show N=x by simpa using o.S).symm;obtain rfl:y6=À (Â ⟨b,0,Á⟩):=by simpa using o.Y
 obtain rfl:y9=À (Â ⟨m,0,Á⟩):=by simpa using h9
 obtain rfl:z=P:=(show P=z by simpa using o.C).symm;obtain rfl:sU=É Î j:=by simpa using o.I
 obtain rfl:qO=É Î i:=by simpa using o.M
 obtain rfl:qP=ĭ Ô:=by simpa using RP
 have hF:True:=trivial;apply fW (n:=40) s.r;simp only[Iy];conv in RN=>whnf
 conv in RO=>whnf
 repeat w_go fA
 refine Ë λ_ _=> ?_;refine oM (v:=Ě #[À<|Â ⟨k,0,Á⟩,É Î i,À<|Â ⟨b,0,Á⟩,À Á]) U U (by k_ne) s.r E (λp r=> ?_) (λp r e y=> ?_) ?_
 .skip;have C:p.cell? ⟨m,0,Á⟩=Â (À<|Â ⟨k,0,Á⟩):=(gW.r (show gW l ⟨m,0,Á⟩from Ã<|Ã h.fq) r).trans<|h.C U;have D:p.cell? ⟨m,1,Á⟩=Â (É Î i):=(gW.r (show gW l ⟨m,1,Á⟩from Ã<|Ã h.fq) r).trans<|h.C U;have F:p.cell? ⟨m,2,Á⟩=Â (À<|Â ⟨b,0,Á⟩):=(gW.r (show gW l ⟨m,2,Á⟩from Ã<|Ã h.fq) r).trans<|h.C U;have G:p.cell? ⟨m,3,Á⟩=Â (À Á):=(gW.r (show gW l ⟨m,3,Á⟩from Ã<|Ã h.fq) r).trans<|h.C U;go_simp
 .have u:∀g,gW l ⟨m,g,Á⟩:=λg=>Ã<|Ã h.fq;have C:p.cell? ⟨m,0,Á⟩=Â (À<|Â ⟨k,0,Á⟩):=(gW.r (show gW l ⟨m,0,Á⟩from Ã<|Ã h.fq) r).trans<|h.C U;have D:p.cell? ⟨m,1,Á⟩=Â (É Î i):=(gW.r (show gW l ⟨m,1,Á⟩from Ã<|Ã h.fq) r).trans<|h.C U;have F:p.cell? ⟨m,2,Á⟩=Â (À<|Â ⟨b,0,Á⟩):=(gW.r (show gW l ⟨m,2,Á⟩from Ã<|Ã h.fq) r).trans<|h.C U;have G:p.cell? ⟨m,3,Á⟩=Â (À Á):=(gW.r (show gW l ⟨m,3,Á⟩from Ã<|Ã h.fq) r).trans<|h.C U;simp[go_sem,C,D,F,G]at y;rcases y with rfl|rfl|rfl|rfl
  .exact(u _).C
  .exact(u _).C
  .exact(u _).C
  .exact(u _).C
 walk_nrm;refine py (V:=λp=>Æ (Â ⟨p,0,Á⟩) 1 1) (ob:=Ê #[À<|Â ⟨k,0,Á⟩,É Î i,À<|Â ⟨b,0,Á⟩,À Á] 155) U U (by k_ne) s.r E (λw=>by go_simp) (λw=>by simp[go_sem]) λr Q=> ?_;walk_nrm;have p:=mT (X:=λ_=>False) (ob:=Ê #[À<|Â ⟨k,0,Á⟩,É Î i,À<|Â ⟨b,0,Á⟩,À Á] 155) s Q;have y:gZ (gG l r<|Ê #[À<|Â ⟨k,0,Á⟩,É Î i,À<|Â ⟨b,0,Á⟩,À Á] 155) r.heap.size (Ê #[À<|Â ⟨k,0,Á⟩,É Î i,À<|Â ⟨b,0,Á⟩,À Á] 155):=⟨Ç U,mS⟩;have C:∀a,x.ownBlock=Â a->(gG l r<|Ê #[À<|Â ⟨k,0,Á⟩,É Î i,À<|Â ⟨b,0,Á⟩,À Á] 155).O a:=λa e=>Ã<|K a e;have F:=nX lD (w₁:=(gG l r<|Ê #[À<|Â ⟨k,0,Á⟩,É Î i,À<|Â ⟨b,0,Á⟩,À Á] 155).w) λa e=>p.r a (Ã<|K a e) id;generalize gG l r (Ê #[À<|Â ⟨k,0,Á⟩,É Î i,À<|Â ⟨b,0,Á⟩,À Á] 155)=l₄ at p y C F|-;generalize r.heap.size=px at y|-;have G:=p.N s;have S:¬l₄.q:=by rwa[p.q]
 have Fv:Ä.info? 155=Â Ċ:=Ň;refine Ih (v:=x) (us:=[À<|Â ⟨k,0,Á⟩,É Î i,À<|Â ⟨b,0,Á⟩,À Á]) (px:=px) (c:=1) (n:=n) (sz:=4) (xs:=xs) (inf:=Ċ) (z:=Ě #[À Á,É Î 0,À Á,À Á]) U U (by k_ne) G S U U U ň Fv U U Z U U (by simp[Ċ];omega) (by simp only[ŧ];omega) F C y.fq (λg u D=>y.C<|by simpa using D) (by simp[Ú]) λu g D H T W Y uC=> ?_;walk_nrm;have k5:gh (λf=>Â f=x.ownBlock) l₄ (mU l₄ u D):=LU G H W λa e=>⟨C a e,e.symm⟩;have I:gh (λf=>Â f=x.ownBlock) l (mU l₄ u D):=(p.fN λ_ _ q=>q.elim).fg k5;have RR:g.ownBlock=x.ownBlock\/∃a,g.ownBlock=Â a/\l.w.heap.size<=a:=uC.imp id λq=>⟨_,q,Ø p.I H.r⟩;have xr:(mU l₄ u D).w.ownsRow 0 155 4 g (n+1) (xs++[À<|Â ⟨k,0,Á⟩,É Î i,À<|Â ⟨b,0,Á⟩,À Á]):=T;generalize mU l₄ u D=s6 at I xr Y|-;clear p k5 W T uC y G S C F H Q;have rP:=I.N s;have hw:Î.wrap ((i:Int)+1)=((i+1:Nat):Int):=by rw[CB Z Z];omega
 apply fW (n:=40) rP.r;repeat w_go fA
 refine Ë λ_ _=> ?_;refine hJ s6 _ g I xr Y RR ⟨U,U,U,U,U,U,?_⟩;simp[hw]
def aiU(G:gw l)(hq:¬l.q)(hd:l.d=0)(I:PT v x z b j i d)(Zt:i<j)(hR:j<1000)(h9:d[9]?=Â (À<|Â ⟨m,0,Á⟩))(RP:d[28]?=Â (ĭ Í))(hn:n<1000) (h0:gZ l m (Ê #[À<|Â ⟨k,0,Á⟩,É Î i,À<|Â ⟨b,0,Á⟩,À Á] 155)) (lD:l.w.ownsRow 0 155 4 v n xs) (hO:∀f,v.ownBlock=Â f->l.O f) (sZ:v.ownBlock≠Â m) (hJ:∀T t' W s,gh (λg=>Â g=v.ownBlock\/g=m) l T->T.w.ownsRow 0 155 4 W (n+1) (xs++[À<|Â ⟨k,0,Á⟩,É Î i,À<|Â ⟨b,0,Á⟩,À<|Â ⟨s,0,Á⟩])->(∀f,W.ownBlock=Â f->T.O f)->(W.ownBlock=v.ownBlock\/∃f,W.ownBlock=Â f/\s<f)->l.w.heap.size<=s->gZ T s (Ê #[É ì 4294967296,É û 0,Æ Á 0 0] 105)->PT W x z s j (i+1) t'->fi Ä Ô J T (C3 t' qX)): fi Ä Ô J l (Iy d qX):=by
 obtain⟨y0,y1,y2,y3,y4,y5,y6,y7,y8,y9,xj,zn,xk,rK,sU,qO,vC,vD,uq,uu,uw,sV,sW,sX,uy,vE,xl,sY,qP,uz,qg,qh,pY,pf,pg,oK,oL,pZ,p6,p7,p8,p9,qa,qc,qd,qe,nU,nV,rfl⟩:=Mf d I.r;obtain rfl:v=y4:=(show y4=v by simpa using I.N).symm;obtain rfl:x=y5:=(show y5=x by simpa using I.S).symm;obtain rfl:y6=À (Â ⟨b,0,Á⟩):=by simpa using I.Y
 obtain rfl:y9=À (Â ⟨m,0,Á⟩):=by simpa using h9
 obtain rfl:z=rK:=(show rK=z by simpa using I.C).symm;obtain rfl:sU=É Î j:=by simpa using I.I
 obtain rfl:qO=É Î i:=by simpa using I.M
 obtain rfl:qP=ĭ Í:=by simpa using RP
 have hF:True:=trivial;apply fW (n:=40) G.r;simp only[Iy];conv in RN=>whnf
 conv in Zs=>whnf
 conv in RO=>whnf
 repeat w_go fA
 refine Ë λ_ _=> ?_;refine H4 (ob:=Ê #[É ì 0,É û 0,Æ Á 0 0] 105) U U (by k_ne) G.r hq (λw=>by go_simp) (λw=>by simp[go_sem]) λD mP=> ?_;walk_nrm;have t:gh (λ_=>False) l (gG l D<|Ê #[É ì 0,É û 0,Æ Á 0 0] 105):=mT G mP;have F:gZ (gG l D<|Ê #[É ì 0,É û 0,Æ Á 0 0] 105) D.heap.size (Ê #[É ì 0,É û 0,Æ Á 0 0] 105):=⟨Ç U,mS⟩;have Iz:l.w.heap.size<=D.heap.size:=mP.r;generalize gG l D (Ê #[É ì 0,É û 0,Æ Á 0 0] 105)=l₁ at t F|-;generalize D.heap.size=s at F Iz|-;clear mP D;have xo:=t.N G;have CO:¬l₁.q:=by rwa[t.q]
 have htl:m<l.w.heap.size:=G.fx m<|Ã h0.fq;have t1:=h0.r t id;apply fW (n:=40) xo.r;iterate 7 w_go fA
 u_call qN.f_add (Ι Lk) addFn fA hF
 refine Ë λ_ _=> ?_;refine Zn qN xo CO (by rwa[t.d]) F.fq F.I U U λy hC=> ?_;walk_nrm;have E:gh (λg=>g=s) l₁ y:=hC.r;have Mg:gh (λ_=>False) l y:=⟨λf q=>E.O f<|t.O f q,λf q=>(E.c f q).elim (t.c f) λh=>Ç<|Ø t.I h,E.S.trans t.S,E.Y.trans t.Y,E.b.trans t.b,E.K.trans t.K,E.q.trans t.q,E.d.trans t.d,E.fx,Ø t.I E.I,λo Y nx=>(E.r o (t.M Y) λe=>by have:=G.fx o Y;omega).trans<|t.r o Y nx,λa H=>(E.f a<|by rwa[t.C]).trans<|t.f a H,λa H=>(E.g a<|by rwa[t.C]).trans<|t.g a H,λa H h=>E.e a (by rwa[t.K])<|t.e a H h⟩;have L:=t1.r E Z;have N:gZ y s (Ê #[É ì 4294967296,É û 0,Æ Á 0 0] 105):=⟨E.O s F.fq,hC.C⟩;have rM:=Mg.N G;have qi:¬y.q:=by rwa[Mg.q]
 have hgl:s<y.w.heap.size:=rM.fx s<|Ã N.fq;clear hC E t1 F t xo CO l₁;apply fW (n:=40) rM.r;iterate 5 w_go fA
 refine Ë λ_ _=> ?_;refine Ig (p:=m) (off:=3) (v:=À<|Â ⟨s,0,Á⟩) (u:=À Á) U U (by k_ne) rM.r qi L.fq (L.C U) (by simp[ð,L.I]) U (λw r S=>by go_simp) (λw r S=>by simp[go_sem,â _ _ _ _ _ _ (show Ú (À<|Â ⟨s,0,Á⟩)=Ô from rfl),r,S]) ?_;have P:gh (λg=>g=m) l {y with w:=y.w.setCell ⟨m,3,Á⟩ (À<|Â ⟨s,0,Á⟩)}:=(Mg.fN λ_ _ q=>q.elim).fg (LQ (p:=m) rM (fH.fT _ _) L.fq U jO λo Y=>ll Y);have B:gZ {y with w:=y.w.setCell ⟨m,3,Á⟩ (À<|Â ⟨s,0,Á⟩)} m (Ê #[À<|Â ⟨k,0,Á⟩,É Î i,À<|Â ⟨b,0,Á⟩,À<|Â ⟨s,0,Á⟩] 155):=⟨L.fq,by show(y.w.setCell ⟨m,3,Á⟩<|À<|Â ⟨s,0,Á⟩).heap[m]?=_;unfold Ą;simp[î,L.I]⟩;have g3:gZ {y with w:=y.w.setCell ⟨m,3,Á⟩ (À<|Â ⟨s,0,Á⟩)} s (Ê #[É ì 4294967296,É û 0,Æ Á 0 0] 105):=⟨N.fq,(ll<|by show s≠m;omega).trans N.I⟩;have aiV:s<({y with w:=y.w.setCell ⟨m,3,Á⟩ (À<|Â ⟨s,0,Á⟩)}:fe).w.heap.size:=by show s<(y.w.setCell ⟨m,3,Á⟩<|À<|Â ⟨s,0,Á⟩).heap.size;rwa[jO]
 generalize({y with w:=y.w.setCell ⟨m,3,Á⟩ (À<|Â ⟨s,0,Á⟩)}:fe)=kn at P B g3 aiV|-;clear L N Mg rM qi hgl y;have Q:=P.N G;have xm:¬kn.q:=by rwa[P.q]
 have xp:∀f,v.ownBlock=Â f->kn.O f:=λf e=>P.O f<|hO f e;have L5:kn.w.ownsRow 0 155 4 v n xs:=nX lD λf e=>P.r f (Ã<|hO f e) λh=>sZ<|h▸e;apply fW (n:=40) Q.r;iterate 3 w_go fA
 refine Ë λ_ _=> ?_;refine oM (v:=Ě #[À<|Â ⟨k,0,Á⟩,É Î i,À<|Â ⟨b,0,Á⟩,À<|Â ⟨s,0,Á⟩]) U U (by k_ne) Q.r xm (λD r=> ?_) (λD r e he=> ?_) ?_
 .skip;have g0:D.cell? ⟨m,0,Á⟩=Â (À<|Â ⟨k,0,Á⟩):=(gW.r (show gW kn ⟨m,0,Á⟩from Ã<|Ã B.fq) r).trans<|B.C U;have F:D.cell? ⟨m,1,Á⟩=Â (É Î i):=(gW.r (show gW kn ⟨m,1,Á⟩from Ã<|Ã B.fq) r).trans<|B.C U;have N:D.cell? ⟨m,2,Á⟩=Â (À<|Â ⟨b,0,Á⟩):=(gW.r (show gW kn ⟨m,2,Á⟩from Ã<|Ã B.fq) r).trans<|B.C U;have g3:D.cell? ⟨m,3,Á⟩=Â (À<|Â ⟨s,0,Á⟩):=(gW.r (show gW kn ⟨m,3,Á⟩from Ã<|Ã B.fq) r).trans<|B.C U;go_simp
 .have S:∀o,gW kn ⟨m,o,Á⟩:=λo=>Ã<|Ã B.fq;have g0:D.cell? ⟨m,0,Á⟩=Â (À<|Â ⟨k,0,Á⟩):=(gW.r (show gW kn ⟨m,0,Á⟩from Ã<|Ã B.fq) r).trans<|B.C U;have F:D.cell? ⟨m,1,Á⟩=Â (É Î i):=(gW.r (show gW kn ⟨m,1,Á⟩from Ã<|Ã B.fq) r).trans<|B.C U;have N:D.cell? ⟨m,2,Á⟩=Â (À<|Â ⟨b,0,Á⟩):=(gW.r (show gW kn ⟨m,2,Á⟩from Ã<|Ã B.fq) r).trans<|B.C U;have g3:D.cell? ⟨m,3,Á⟩=Â (À<|Â ⟨s,0,Á⟩):=(gW.r (show gW kn ⟨m,3,Á⟩from Ã<|Ã B.fq) r).trans<|B.C U;simp[go_sem,g0,F,N,g3]at he;rcases he with rfl|rfl|rfl|rfl
  .exact(S _).C
  .exact(S _).C
  .exact(S _).C
  .exact(S _).C
 walk_nrm;refine py (V:=λp=>Æ (Â ⟨p,0,Á⟩) 1 1) (ob:=Ê #[À<|Â ⟨k,0,Á⟩,É Î i,À<|Â ⟨b,0,Á⟩,À<|Â ⟨s,0,Á⟩] 155) U U (by k_ne) Q.r xm (λw=>by go_simp) (λw=>by simp[go_sem]) λS vI=> ?_;walk_nrm;have r:=mT (X:=λ_=>False) (ob:=Ê #[À<|Â ⟨k,0,Á⟩,É Î i,À<|Â ⟨b,0,Á⟩,À<|Â ⟨s,0,Á⟩] 155) Q vI;have p4:gZ (gG kn S<|Ê #[À<|Â ⟨k,0,Á⟩,É Î i,À<|Â ⟨b,0,Á⟩,À<|Â ⟨s,0,Á⟩] 155) S.heap.size (Ê #[À<|Â ⟨k,0,Á⟩,É Î i,À<|Â ⟨b,0,Á⟩,À<|Â ⟨s,0,Á⟩] 155):=⟨Ç U,mS⟩;have xq:∀f,v.ownBlock=Â f->(gG kn S<|Ê #[À<|Â ⟨k,0,Á⟩,É Î i,À<|Â ⟨b,0,Á⟩,À<|Â ⟨s,0,Á⟩] 155).O f:=λf e=>Ã<|xp f e;have CP:=nX L5 (w₁:=(gG kn S<|Ê #[À<|Â ⟨k,0,Á⟩,É Î i,À<|Â ⟨b,0,Á⟩,À<|Â ⟨s,0,Á⟩] 155).w) λf e=>r.r f (Ã<|xp f e) id;generalize gG kn S (Ê #[À<|Â ⟨k,0,Á⟩,É Î i,À<|Â ⟨b,0,Á⟩,À<|Â ⟨s,0,Á⟩] 155)=l₄ at r p4 xq CP|-;generalize S.heap.size=px at p4|-;have zr:=r.N Q;have CQ:¬l₄.q:=by rwa[r.q]
 have Fv:Ä.info? 155=Â Ċ:=Ň;refine Ih (v:=v) (us:=[À<|Â ⟨k,0,Á⟩,É Î i,À<|Â ⟨b,0,Á⟩,À<|Â ⟨s,0,Á⟩]) (px:=px) (c:=1) (n:=n) (sz:=4) (xs:=xs) (inf:=Ċ) (z:=Ě #[À Á,É Î 0,À Á,À Á]) U U (by k_ne) zr CQ U U U ň Fv U U Z U U (by simp[Ċ];omega) (by simp only[ŧ];omega) CP xq p4.fq (λo u hu=>p4.C<|by simpa using hu) (by simp[Ú]) λs5 CN Mh CR sM Iv CS uC=> ?_;walk_nrm;have k5:gh (λg=>Â g=v.ownBlock) l₄ (mU l₄ s5 Mh):=LU zr CR Iv λf e=>⟨xq f e,e.symm⟩;have vK:gh (λg=>Â g=v.ownBlock) kn (mU l₄ s5 Mh):=(r.fN λ_ _ q=>q.elim).fg k5;have RR:CN.ownBlock=v.ownBlock\/∃f,CN.ownBlock=Â f/\kn.w.heap.size<=f:=uC.imp id λq=>⟨_,q,Ø r.I CR.r⟩;have xr:(mU l₄ s5 Mh).w.ownsRow 0 155 4 CN (n+1) (xs++[À<|Â ⟨k,0,Á⟩,É Î i,À<|Â ⟨b,0,Á⟩,À<|Â ⟨s,0,Á⟩]):=sM;generalize mU l₄ s5 Mh=s6 at vK xr CS|-;clear r k5 Iv sM uC p4 zr CQ xq CP CR vI;have rP:=vK.N Q;have hw:Î.wrap ((i:Int)+1)=((i+1:Nat):Int):=by rw[CB Z Z];omega
 have g5:=g3.r vK<|Zd lD Iz;have CU:gh (λg=>Â g=v.ownBlock\/g=m) l s6:=(P.fN λ_ _ q=>Ç q).fg (vK.fN λ_ _ q=>Ã q);apply fW (n:=40) rP.r;repeat w_go fA
 refine Ë λ_ _=> ?_;refine hJ s6 _ CN s CU xr CS (RR.imp id λ⟨f,q1,q2⟩=>⟨f,q1,Z⟩) Iz g5 ⟨U,U,U,U,U,U,?_⟩;simp[hw]
end
def gX(kd:Nat->Int)(i:Nat):List Nat:=(ä i).filter λj=>decide<|kd j=1
def jy(kd:Nat->Int)(i:Nat):List Nat:=(ä i).filter λj=>decide<|kd j≠1
def fK(kd:Nat->Int)(i:Nat):Nat:=(gX kd i).length
def tI(a g:Nat->Nat)(p:Nat×Nat):List Ð:=[À<|Â ⟨a p.1,0,Á⟩,É Î p.1,À<|Â ⟨g p.2,0,Á⟩,À<|Â ⟨g<|p.2+1,0,Á⟩]
def tQ(kd:Nat->Int)(a g:Nat->Nat)(p:Nat):List Ð:=[À<|Â ⟨a p,0,Á⟩,É Î p,À<|Â ⟨g<|fK kd p,0,Á⟩,À Á]
def jN(kd:Nat->Int)(rq g:Nat->Nat)(i:Nat):List Ð:=(gX kd i).zipIdx.flatMap<|tI rq g
def mF(kd:Nat->Int)(a g:Nat->Nat)(i:Nat):List Ð:=(jy kd i).flatMap<|tQ kd a g
section
variable{kd:Nat->Int}{rq g:Nat->Nat}
def s8(h:kd i=1):gX kd (i+1)=gX kd i++[i]:=by simp[gX,ą,ć,h]
def vM(h:kd i≠1):gX kd (i+1)=gX kd i:=by simp[gX,ą,ć,h]
def RU(h:kd i=1):jy kd (i+1)=jy kd i:=by simp[jy,ą,ć,h]
def RV(h:kd i≠1):jy kd (i+1)=jy kd i++[i]:=by simp[jy,ą,ć,h]
def RY:∀i,fK kd i<=i:=λi=>by unfold fK gX;exact Ø (Ĭ _ _) fj
def aiW:∀i,(jy kd i).length<=i:=λi=>by unfold jy;exact Ø (Ĭ _ _) fj
def Zu(h:j<=i):fK kd j<=fK kd i:=by
 induction i with
 |zero=>
  have:j=0:=Z
  rw[this];exact Û _
 |succ i c=>
  by_cases e:j=i+1
  .rw[e];exact Û _
  .have a:=c Z;by_cases b:kd i=1
   .unfold fK at a|-;rw[s8 b];simp;omega
   .unfold fK at a|-;rwa[vM b]
def aiX(h:kd i=1):jN kd rq g (i+1)=jN kd rq g i++tI rq g (i,fK kd i):=by unfold jN;rw[s8 h,List.zipIdx_append,Ĵ];simp[fK]
def aiY(h:kd i≠1):jN kd rq g (i+1)=jN kd rq g i:=by unfold jN;rw[vM h]
def aiZ(h:kd i=1):mF kd rq g (i+1)=mF kd rq g i:=by unfold mF;rw[RU h]
def ai0(h:kd i≠1):mF kd rq g (i+1)=mF kd rq g i++tQ kd rq g i:=by unfold mF;rw[RV h,Ĵ];simp
def RZ{α:Type}{f a:α->List Ð}:∀(l:List α),(∀x∈l,f x=a x)->l.flatMap f=l.flatMap a
 |[],_=>rfl
 |x::l,h=>by rw[Č,Č,h x List.mem_cons_self,RZ l λy b=>h y<|List.mem_cons_of_mem _ b]
def ai1(h:∀k,k<=fK kd i->D k=g k):jN kd rq D i=jN kd rq g i:=by
 unfold jN;refine RZ _ λx a=> ?_;let⟨p,k⟩:=x;have b:=(List.mem_zipIdx a).2.1;have c:k<fK kd i:=by unfold fK;omega
 simp[tI,h k Z,h (k+1) Z]
def ai2(h:∀k,k<=fK kd i->D k=g k):mF kd rq D i=mF kd rq g i:=by
 unfold mF;refine RZ _ λp a=> ?_;have b:p<i:=by have:=(Ć.1 a).1;simpa using this
 simp[tQ,h (fK kd p)<|Zu Z]
def R0{α:Type}{f:α->List Ð}(a:∀x,(f x).length=4)(b:i<4):∀(l:List α) (k:Nat) (x:α),l[k]?=Â x->(l.flatMap f)[k*4+i]?=(f x)[i]?
 |[],k,x,h=>by simp at h
 |y::l,0,x,h=>by
  obtain rfl:y=x:=by simpa using h
  rw[Č,List.getElem?_append_left (by rw[a];omega)];simp
 |y::l,k+1,x,h=>by rw[Č,List.getElem?_append_right (by rw[a];omega),a,show(k+1)*4+i-4=k*4+i by omega];exact R0 a b l k x<|by simpa using h
end
section
variable{Y:Nat->Prop}{l m o:fe}
def gh.vN(h:gh X l m)(k:gh Y m o)(e:∀j,l.M j->¬Y j):gh X l o:= ⟨λj q=>k.O j<|h.O j q,λj q=>(k.c j q).elim (h.c j) λz=>Ç<|Ø h.I z,k.S.trans h.S,k.Y.trans h.Y,k.b.trans h.b,k.K.trans h.K,k.q.trans h.q,k.d.trans h.d,k.fx,Ø h.I k.I,λj c f=>(k.r j (h.M c)<|e j c).trans<|h.r j c f,λa b=>(k.f a<|by rwa[h.C]).trans<|h.f a b,λa b=>(k.g a<|by rwa[h.C]).trans<|h.g a b,λa b z=>k.e a (by rwa[h.K])<|h.e a b z⟩
end
abbrev R1:Η:=Ê #[É ì 4294967296,É û 0,Æ Á 0 0] 105
structure zt(kd:Nat->Int)(rq g:Nat->Nat)(S i:Nat)(iv qv:Ð)(l0 l:fe):Prop where
 r:gh (λ_=>False) l0 l
 jN:l.w.ownsRow 0 155 4 iv (fK kd i) (jN kd rq g i)
 mF:l.w.ownsRow 0 155 4 qv (jy kd i).length (mF kd rq g i)
 C:∀k,iv.ownBlock=Â k->l.O k/\l0.w.heap.size<=k
 I:∀k,qv.ownBlock=Â k->l.O k/\l0.w.heap.size<=k
 M:∀k,iv.ownBlock=Â k->qv.ownBlock≠Â k
 N:∀k,1<=k->k<=fK kd i->gZ l (g k) R1/\l0.w.heap.size<=g k/\iv.ownBlock≠Â (g k)/\qv.ownBlock≠Â (g k)
 g0:g 0<l0.w.heap.size
 S:g 0=S
 Y:∀k k',k<k'->k'<=fK kd i->g k<g k'
section
variable{kd:Nat->Int}{rq g:Nat->Nat}{iv qv:Ð}{l0 l m o:fe}
def zt.ai3(h:zt kd rq g n i iv qv l0 l)(C:gw l0)(s:gw l)(d:kd i≠1)(a:gh (λ_=>False) l m)(f:gh (λb=>Â b=qv.ownBlock) m o)(D:o.w.ownsRow 0 155 4 v ((jy kd i).length+1) (fv.mF kd rq g i++tQ kd rq g i))(E:∀k,v.ownBlock=Â k->o.O k)(u:v.ownBlock=qv.ownBlock\/∃k,v.ownBlock=Â k/\m.w.heap.size<=k):zt kd rq g n (i+1) iv v l0 o:=by
 have q:fK kd (i+1)=fK kd i:=by unfold fK;rw[vM d]
 have x:∀{j},l.O j->qv.ownBlock≠Â j->v.ownBlock≠Â j:=λ{j} c hn e=>by
  rcases u with z|⟨k,r,B⟩
  .rw[z]at e;exact hn e
  .rw[r]at e;have:=Ó e;have:=(λc=>È (s.fx _<|Ã c) a.I) c;omega
 refine⟨(h.r.fg a).vN f λj c e=> ?_,?_,?_,λk e=>⟨f.O k<|a.O k (h.C k e).1,(h.C k e).2⟩,λk e=>⟨E k e,?_⟩,λk e=>x (h.C k e).1<|h.M k e,λk t p=> ?_,h.g0,h.S,λk y t p=>h.Y k y t<|by rwa[<-q]⟩
 .have:=(h.I j e.symm).2;have:=C.fx j c;omega
 .rw[q,aiY d];refine nX h.jN λk e=>(f.r k (Ã<|a.O k (h.C k e).1) λz=>h.M k e z.symm).trans<|a.r k (Ã (h.C k e).1) id
 .rw[RV d,ai0 d];simpa using D
 .rcases u with z|⟨y,r,B⟩
  .rw[z]at e;exact(h.I k e).2
  .rw[r]at e;have:=Ó e;have:=h.r.I;have:=a.I;omega
 .rw[q]at p;let⟨r,F,G,B⟩:=h.N k t p;exact⟨(r.r a id).r f λz=>B z.symm,F,G,x r.fq B⟩
def zt.kH{tb:Nat}(h:zt kd rq g n i iv qv l0 l)(H:gw l0)(s:gw l)(a:kd i=1)(c:gh (λ_=>False) l m)(P:l.w.heap.size<=tb)(r:gh (λb=>Â b=iv.ownBlock\/b=tb) m o)(I:o.w.ownsRow 0 155 4 v (fK kd i+1) (fv.jN kd rq g i++[À<|Â ⟨rq i,0,Á⟩,É Î i,À<|Â ⟨g<|fK kd i,0,Á⟩,À<|Â ⟨J,0,Á⟩]))(K:∀k,v.ownBlock=Â k->o.O k)(u:v.ownBlock=iv.ownBlock\/∃k,v.ownBlock=Â k/\J<k)(Q:m.w.heap.size<=J)(L:gZ o J R1):zt kd rq (λk=>if k<=fK kd i then g k else J) n (i+1) v qv l0 o:=by
 have B:fK kd (i+1)=fK kd i+1:=by unfold fK;rw[s8 a];simp
 have S:=h.r.I;have T:=c.I;have d:∀{j},l.O j->j<l.w.heap.size:=λf=>s.fx _<|Ã f;have C:∀{j},l.O j->iv.ownBlock≠Â j->v.ownBlock≠Â j:=λ{j} f hn e=>by
  rcases u with z|⟨k,p,D⟩
  .rw[z]at e;exact hn e
  .rw[p]at e;have:=Ó e;have:=d f;omega
 have E:∀k,k<=fK kd i->(if k<=fK kd i then g k else J)=g k:=λk a=>if_pos a;refine⟨(h.r.fg c).vN r λj f e=> ?_,?_,?_,λk e=>⟨K k e,?_⟩,λk e=>⟨r.O k<|c.O k (h.I k e).1,(h.I k e).2⟩,λk e z=>C (h.I k z).1 (λy=>h.M k y z) e,λk x F=> ?_,?_,?_,λk t x F=> ?_⟩
 .have:=H.fx j f;rcases e with e|e
  .have:=(h.C j e.symm).2;omega
  .omega
 .rw[B,aiX a,ai1 E];simpa[tI,show¬(fK kd i+1<=fK kd i) by omega]using I
 .rw[RU a,aiZ a,ai2 E];refine nX h.mF λk e=> ?_;refine(r.r k (Ã<|c.O k (h.I k e).1) ?_).trans<|c.r k (Ã (h.I k e).1) id;rintro(z|z)
  .exact h.M k z.symm e
  .have:=d (h.I k e).1;omega
 .rcases u with z|⟨t,p,D⟩
  .rw[z]at e;exact(h.C k e).2
  .rw[p]at e;have:=Ó e;omega
 .by_cases y:k<=fK kd i
  .simp only[if_pos y];let⟨q,M,G,N⟩:=h.N k x y;refine⟨(q.r c id).r r ?_,M,C q.fq G,N⟩;rintro(z|z)
   .exact G z.symm
   .have:=d q.fq;omega
  .simp only[if_neg y];refine⟨L,Z,λe=> ?_,λe=> ?_⟩
   .rcases u with z|⟨t,p,D⟩
    .rw[z]at e;have:=d (h.C J e).1;omega
    .rw[p]at e;have:=Ó e;omega
   .have:=d (h.I J e).1;omega
 .simp only[ĉ,if_true];exact h.g0
 .simp only[ĉ,if_true];exact h.S
 .rw[B]at F;by_cases y:t<=fK kd i
  .simp only[if_pos y,if_pos (show k<=fK kd i by omega)];exact h.Y k t x y
  .simp only[if_neg y,if_pos (show k<=fK kd i by omega)];by_cases p:k=0
   .subst p;have:=h.g0;omega
   .let⟨q,_⟩:=h.N k Z Z;have:=d q.fq;omega
end
section
variable{J:Jd}{ra:Option ã}{rb cr R:Nat}{cs:List ê}{kd:Nat->Int}{rq:Nat->Nat}{l0:fe}
def R2(j:gw l0)(u:¬l0.q)(v:l0.d=0)(m:R<1000)(p:0<R->ra=Â ⟨rb,0,Á⟩)(x:0<R->l0.M rb)(y:∀i,i<R->l0.w.cell? ⟨rb,i,Á⟩=Â (À<|Â ⟨rq i,0,Á⟩))(r:∀i,i<R->l0.M (rq i))(z:∀i,i<R->l0.w.cell? ⟨rq i,4,Á⟩=Â (É Î<|kd i)) (B:∀g N P a b,zt kd rq g n R a b l0 N->PT a b (Æ ra R cr) (g<|fK kd R) R R P->fi Ä Ô J N (C3 P cs)): ∀d i,R=i+d->∀g l t a b,zt kd rq g n i a b l0 l->PT a b (Æ ra R cr) (g<|fK kd i) R i t->fi Ä Ô J l (C3 t cs)
 |0,i,hi,g,l,t,a,b,hP,hT=>by obtain rfl:R=i:=hi;exact B g l t a b hP hT
 |d+1,i,hi,g,l,t,a,b,hP,hT=>by
  have f:i<R:=Z
  have o:=hP.r.N j;have Q:¬l.q:=by rwa[hP.r.q]
  have S:=x Z;refine aiS o Q (by rwa[<-p Z]) f m (hP.r.M S) ((gK<|hP.r.r rb S id).trans<|y i f) (hP.r.M<|r i f) ((gK<|hP.r.r _ (r i f) id).trans<|z i f) λl1 t1 T c sZ V C W s=> ?_;rw[<-p Z]at C;have X:=c.N o;have Y:¬l1.q:=by rwa[c.q]
  have hc:=RY (kd:=kd) i;have hcq:=aiW (kd:=kd) i;by_cases h:kd i=1
  .rw[decide_eq_false (by simpa using h)]at s;refine aiU X Y (by rwa[c.d,hP.r.d]) C f m W s Z V (nX hP.jN λk e=>c.r k (Ã (hP.C k e).1) id) (λk e=>c.O k (hP.C k e).1) (λe=>by have:=o.fx T<|Ã (hP.C T e).1;omega) λD E iv' gt F G H I Iz hg K=> ?_;apply R2 j u v m p x y r z B d (i+1) Z _ D E iv' b (hP.kH j o h c sZ F G H I Iz hg);have L:fK kd (i+1)=fK kd i+1:=by unfold fK;rw[s8 h];simp
   rw[L];simp only[show¬(fK kd i+1<=fK kd i) by omega,if_false];exact K
  .rw[decide_eq_true (by simpa using h)]at s;refine aiT X Y C f m W s Z V (nX hP.mF λk e=>c.r k (Ã (hP.I k e).1) id) (λk e=>c.O k (hP.I k e).1) λD E e F G H I K=> ?_;apply R2 j u v m p x y r z B d (i+1) Z _ D E a e (hP.ai3 j o h c F G H I);have L:fK kd (i+1)=fK kd i:=by unfold fK;rw[vM h]
   rwa[L]
end
noncomputable def Zv:ġ:=kY ģ []
noncomputable def Zw (a b:Ð) (c:List ê):Ý:=G ((base 46).at ⟨#[a,b,Å,Å,Å,Å,Å,Å,Å,Å,Å,Å,Å,Å,Å,Å,Å,Å,Å,Å,Å,Å,Å,Å,Å,Å,Å,Å,Å,Å,Å,Å,Å,Å,Å,Å,Å,Å,Å,Å,Å,Å,Å,Å,Å,Å,Å,Å],[]⟩ [ö Zv]) c
def ai4{c:ê}{d:Š}{k:List ż}{K:Ý->ß->Array Ν->Prop}{t u v:Tmp}(g:f.kind=ĥ)(j:y.defers=[])(l:P.funcs[f.fn]?=Â s)(e:s.results=#[.tmp t,.tmp u,.tmp v]) (h:K (G (c.at (d.put ((Q[i]?).bind (·.dst))<|ñ #[y.tmps.getD t Å,y.tmps.getD u Å,y.tmps.getD v Å])<|Ï Q jJ::k) qX) w #[]): (stepG P yQ (G {f.at y L with mode:=.returning}<|c.at d (Ï Q (i::jJ)::k)::qX) w).goes K:=by rwa[stepG_leave g j l (v:=ñ #[y.tmps.getD t Å,y.tmps.getD u Å,y.tmps.getD v Å]) (by simp[results,e,go_sem]) (by simp[results,e,go_sem]),ī]
structure IA(kd:Nat->Int)(rq g:Nat->Nat)(R:Nat)(iv qv sv:Ð)(l l':fe):Prop where
 Y:gh (λ_=>False) l l'
 jN:l'.w.ownsRow 0 155 4 iv (fK kd R) (jN kd rq g R)
 mF:l'.w.ownsRow 0 155 4 qv (jy kd R).length (mF kd rq g R)
 r:∀k,iv.ownBlock=Â k->l'.O k/\l.w.heap.size<=k
 C:∀k,qv.ownBlock=Â k->l'.O k/\l.w.heap.size<=k
 dis:∀k,iv.ownBlock=Â k->qv.ownBlock≠Â k
 N:gZ l' (g 0) (Ê #[É ì 0,É û 0,sv] 105)
 I:∀k,1<=k->k<=fK kd R->gZ l' (g k) R1
 M:∀k,k<=fK kd R->l.w.heap.size<=g k/\iv.ownBlock≠Â (g k)/\qv.ownBlock≠Â (g k)
 S:∀k k',k<k'->k'<=fK kd R->g k<g k'
def ai5(w:ß)(a:Option ã)(b c:Nat):(Ē 105 #[(1,Æ a b c)]).run Ä w=.ok (Ě #[É ì 0,É û 0,Æ a b c]) w:=run_build w 105 _ _ fP
def ai6(w:ß)(a:Option ã)(b c:Nat):(Ē 105 #[(1,Æ a b c)]).events Ä w #[]=#[]:=by unfold Ē;simp only[Ş];simp[go_sem]
section
variable{J:Jd}{l:fe}{ra:Option ã}{rb cr R:Nat}{sa:Option ã}{sn sc:Nat}{k:List ż}{kd:Nat->Int}{rq:Nat->Nat}
def ai7(j:gw l)(u:¬l.q)(I:l.d=0)(K:R<1000)(L:0<R->ra=Â ⟨rb,0,Á⟩)(z:0<R->l.M rb)(N:∀i,i<R->l.w.cell? ⟨rb,i,Á⟩=Â (À<|Â ⟨rq i,0,Á⟩))(B:∀i,i<R->l.M (rq i))(O:∀i,i<R->l.w.cell? ⟨rq i,4,Á⟩=Â (É Î<|kd i)) (P:∀g s b c,IA kd rq g R b c (Æ sa sn sc) l s->fi Ä Ô J s (G (f.at (y.put ((Q[i]?).bind (·.dst))<|ñ #[b,c,À<|Â ⟨g<|fK kd R,0,Á⟩])<|Ï Q jJ::k) qX)): fi Ä Ô J l (Zw (Æ ra R cr) (Æ sa sn sc)<|f.at y (Ï Q (i::jJ)::k)::qX):=by
 have hF:=trivial;apply fW (n:=40) j.r;simp only[Zw];conv in Zv=>whnf
 repeat w_go fA
 refine Ë λ_ _=> ?_;refine oM (v:=Ě #[É ì 0,É û 0,Æ sa sn sc]) U U (by k_ne) j.r u (λa r=> ?_) (λa r e p=> ?_) ?_
 .have h:=ai5 a sa sn sc;go_simp
 .have h:=ai6 a sa sn sc;simp[go_sem,h]at p
 walk_nrm;refine py (V:=λp=>À<|Â ⟨p,0,Á⟩) (ob:=Ê #[É ì 0,É û 0,Æ sa sn sc] 105) U U (by k_ne) j.r u (λw=>by go_simp) (λw=>by simp[go_sem]) λa C=> ?_;walk_nrm;have p:gh (λ_=>False) l (gG l a<|Ê #[É ì 0,É û 0,Æ sa sn sc] 105):=mT j C;have t:gZ (gG l a<|Ê #[É ì 0,É û 0,Æ sa sn sc] 105) a.heap.size (Ê #[É ì 0,É û 0,Æ sa sn sc] 105):=⟨Ç U,mS⟩;have D:=C.r;generalize gG l a (Ê #[É ì 0,É û 0,Æ sa sn sc] 105)=l₁ at p t|-;generalize a.heap.size=gt at t D|-;have m:=p.N j;have S:¬l₁.q:=by rwa[p.q]
 apply fW (n:=40) m.r;repeat w_bar fA
 w_go fA
 refine Ë λ_ _=> ?_;have T:=m.fx gt<|Ã t.fq;refine R2 m S (by rwa[p.d]) K L (λh=>p.M<|z h) (λi h=>(gK<|p.r rb (z Z) id).trans<|N i h) (λi h=>p.M<|B i h) (λi h=>(gK<|p.r _ (B i h) id).trans<|O i h) (λg s W b c h r=> ?_) R 0 Z (λ_=>gt) l₁ _ (Æ Á 0 0) (Æ Á 0 0) ⟨gh.fT m.r,⟨U,Ã ⟨U,U⟩⟩,⟨U,Ã ⟨U,U⟩⟩,λk e=>(by cases e),λk e=>(by cases e),λk e=>(by cases e),λk x o=> ?_,T,rfl,λk X x o=> ?_⟩ ⟨rfl,rfl,rfl,rfl,rfl,rfl,rfl⟩
 .have Y:=h.r.N m;obtain⟨y0,y1,y2,y3,E,F,y6,y7,y8,y9,xj,zn,xk,rK,sU,qO,vC,vD,uq,uu,uw,sV,sW,sX,uy,vE,xl,sY,qP,uz,qg,qh,pY,pf,pg,oK,oL,pZ,p6,p7,p8,p9,qa,qc,qd,qe,nU,nV,rfl⟩:=Mf W r.r;obtain rfl:b=E:=(show E=b by simpa using r.N).symm;obtain rfl:c=F:=(show F=c by simpa using r.S).symm;obtain rfl:y6=À (Â ⟨g<|fK kd R,0,Á⟩):=by simpa using r.Y
  obtain rfl:rK=Æ ra R cr:=by simpa using r.C
  obtain rfl:sU=É Î R:=by simpa using r.I
  obtain rfl:qO=É Î R:=by simpa using r.M
  have gJ:¬((R:Int)<(R:Int)):=Z
  apply fW (n:=40) Y.r;simp only[C3];conv in Ix=>whnf
  conv in RL=>whnf
  repeat w_go fA
  u_in fA hF
  refine ai4 U U Γ U ⟨by u_nil,?_⟩;walk_nrm;refine Ë λ_ _=> ?_;have H:=h.S;refine P g s b c ⟨p.fg h.r,h.jN,h.mF,λk e=>⟨(h.C k e).1,Ø p.I (h.C k e).2⟩,λk e=>⟨(h.I k e).1,Ø p.I (h.I k e).2⟩,h.M,H▸t.r h.r id,λk x o=>(h.N k x o).1,λk hk=> ?_,h.Y⟩;by_cases h0:k=0
  .subst h0;rw[H];exact⟨D,λe=>by have:=(h.C _ e).2;omega,λe=>by have:=(h.I _ e).2;omega⟩
  .let⟨_,a2,a3,a4⟩:=h.N k Z hk;exact⟨Ø p.I a2,a3,a4⟩
 .have:k<=0:=o;omega
 .have:X<=0:=o;omega
end
noncomputable def Zx:ġ:=kY Tryz.f37 []
noncomputable def Fw (a b:Ð) (n:Nat) (c:List ê):Ý:=G ((base 37).at ⟨#[a,b,É Î n,Å,Å,Å,Å,Å,Å,Å,Å,Å,Å,Å,Å,Å,Å,Å,Å,Å,Å,Å,Å,Å,Å,Å,Å,Å,Å,Å,Å,Å,Å,Å,Å,Å,Å,Å,Å,Å,Å,Å,Å,Å,Å,Å,Å,Å,Å],[]⟩ [ö Zx]) c
def IA.vN{kd:Nat->Int}{rq:Nat->Nat}{R:Nat}{l a b:fe}(h:IA kd rq D R v x z l a)(k:gh (λ_=>False) a b):IA kd rq D R v x z l b:= ⟨h.Y.fg k,nX h.jN λj e=>k.r j (Ã (h.r j e).1) id,nX h.mF λj e=>k.r j (Ã (h.C j e).1) id,λj e=>⟨k.O j (h.r j e).1,(h.r j e).2⟩,λj e=>⟨k.O j (h.C j e).1,(h.C j e).2⟩,h.dis,h.N.r k id,λj c d=>(h.I j c d).r k id,h.M,h.S⟩
abbrev xu(R:Nat):Η:=Ê (madeCells (Δ<|á ⟨#[]⟩) R) 9
structure Mi(kd:Nat->Int)(rq g:Nat->Nat)(R:Nat)(iv qv sv:Ð)(an ba bi all bw bf:Nat)(l lp l':fe):Prop where
 C:gh (λ_=>False) l l'
 r:IA kd rq g R iv qv sv lp l'
 I:gZ l' an (xu R)
 a:gZ l' ba (Ê #[Æ (Â ⟨an,0,Á⟩) R R] 25)
 c:gZ l' bi (Ê #[iv] 85)
 Y:gZ l' all (Ê #[É ì 4294967296,É û 0] 97)
 d:gZ l' bw (Ê #[À<|Â ⟨all,0,Á⟩] 162)
 b:gZ l' bf (Ê #[ď (þ 48) #[] #[À<|Â ⟨bi,0,Á⟩,À<|Â ⟨ba,0,Á⟩]] 1)
 M:l.w.heap.size<=an/\an<ba/\ba<lp.w.heap.size
 N:∀k,k<=fK kd R->g k<bi
 o3:∀k,iv.ownBlock=Â k->k<bi
 o4:∀k,qv.ownBlock=Â k->k<bi
 S:bi<all/\all<bw/\bw<bf
section
variable{J:Jd}{l:fe}{ra:Option ã}{rb cr R:Nat}{sa:Option ã}{sn sc:Nat}{kd:Nat->Int}{rq:Nat->Nat}
def ai8(C:gw l)(G:¬l.q)(hd:l.d=0)(hR:R<1000)(IB:0<R->ra=Â ⟨rb,0,Á⟩)(C4:0<R->l.M rb)(IC:∀i,i<R->l.w.cell? ⟨rb,i,Á⟩=Â (À<|Â ⟨rq i,0,Á⟩))(Lf:∀i,i<R->l.M (rq i))(IF:∀i,i<R->l.w.cell? ⟨rq i,4,Á⟩=Â (É Î<|kd i)) (hJ:∀g lp l' t iv qv H y z D W bf v1,Mi kd rq g R iv qv (Æ sa sn sc) H y z D W bf l lp l'->Is y D (g<|fK kd R) n qv t->J l' (CM (À<|Â ⟨D,0,Á⟩) v1 (À<|Â ⟨D,0,Á⟩) (ñ #[]) W bf<|Fu t::qX)): fi Ä Ô J l (Fw (Æ sa sn sc) (Æ ra R cr) n qX):=by
 have hF:True:=trivial;have Zy:Ä.info? 9=Â ĩ:=Tryz.type9;have QM:∀w:ß,(ş 25 (É Î (R:Int))<|É Î (R:Int)).run Ä w=.ok (Æ (Â ⟨w.heap.size,0,Á⟩) R R) (w.alloc<|xu R):=λw=>by have:=run_makeSlice (P:=Ä) w 25 9 ĩ (á ⟨#[]⟩) ŉ Zy U Î Î (R:Int) (R:Int) Z Z (by simp[ĩ];omega) (by simp[ĩ];omega) Z;simpa[ĩ]using this
 have hme:∀w:ß,(ş 25 (É Î (R:Int))<|É Î (R:Int)).events Ä w #[]=#[]:=λw=>
  events_make (P:=Ä) w 25 9 ĩ (á ⟨#[]⟩) ŉ Zy U Î Î (R:Int) (R:Int) Z Z (by simp[ĩ];omega) Z (by simp[ĩ];omega) _
 apply fW (n:=40) C.r;simp only[Fw];conv in Zx=>whnf
 repeat w_go fA
 refine Ë λ_ _=> ?_;refine py (V:=λp=>Æ (Â ⟨p,0,Á⟩) R R) (ob:=xu R) U U (by k_ne) C.r G (λw=>by have k:=QM w;go_simp) (λw=>by have k:=hme w;simp[go_sem,k]) λc m=> ?_;walk_nrm;have a:=mT (X:=λ_=>False) (ob:=xu R) C m;have r:gZ (gG l c<|xu R) c.heap.size (xu R):=⟨Ç U,mS⟩;have han:l.w.heap.size<=c.heap.size:=m.r;generalize gG l c (xu R)=l1 at a r|-;generalize c.heap.size=H at r han|-;clear m c;have R3:gh (λ_=>False) l l1:=a;have R4:=R3.N C;have ai9:¬l1.q:=by rwa[R3.q]
 have atu:l.w.heap.size<=l1.w.heap.size:=a.I;clear a;have lan:=R4.fx H<|Ã r.fq;refine py (V:=λp=>À<|Â ⟨p,0,Á⟩) (ob:=Ê #[Æ Á 0 0] 25) U U (by k_ne) R4.r ai9 (λw=>by go_simp) (λw=>by simp[go_sem]) λc m=> ?_;walk_nrm;have a:=mT (X:=λ_=>False) (ob:=Ê #[Æ Á 0 0] 25) R4 m;have f:gZ (gG l1 c<|Ê #[Æ Á 0 0] 25) c.heap.size (Ê #[Æ Á 0 0] 25):=⟨Ç U,mS⟩;have Zz:l1.w.heap.size<=c.heap.size:=m.r;generalize gG l1 c (Ê #[Æ Á 0 0] 25)=l2 at a f|-;generalize c.heap.size=y at f Zz|-;clear m c;have R5:gh (λ_=>False) l l2:=R3.fg a;replace r:=r.r a id;have R6:=R5.N C;have aja:¬l2.q:=by rwa[R5.q]
 have atv:l1.w.heap.size<=l2.w.heap.size:=a.I;clear a;have lba:=R6.fx y<|Ã f.fq;refine Ig (p:=y) (off:=0) (v:=Æ (Â ⟨H,0,Á⟩) R R) (u:=Æ Á 0 0) U U (by k_ne) R6.r aja f.fq (f.C U) (by simp[ð,f.I]) U (λw o F=>by go_simp) (λw o F=>by simp[go_sem,â _ _ _ _ _ _ (show Ú (Æ (Â ⟨H,0,Á⟩) R R)=Ô from rfl),o,F]) ?_;have a:=LQ (X:=λb=>b=y) (p:=y) (w':=l2.w.setCell ⟨y,0,Á⟩<|Æ (Â ⟨H,0,Á⟩) R R) R6 (fH.fT _ _) f.fq U jO λj E=>ll E;replace f:gZ ({l2 with w:=l2.w.setCell ⟨y,0,Á⟩ (Æ (Â ⟨H,0,Á⟩) R R)}:fe) y (Ê #[Æ (Â ⟨H,0,Á⟩) R R] 25):=⟨f.fq,by show(l2.w.setCell ⟨y,0,Á⟩<|Æ (Â ⟨H,0,Á⟩) R R).heap[y]?=_;unfold Ą;simp[î,f.I]⟩;generalize({l2 with w:=l2.w.setCell ⟨y,0,Á⟩ (Æ (Â ⟨H,0,Á⟩) R R)}:fe)=l3 at a f|-;have S:gh (λ_=>False) l l3:=R5.vN a λj E e=>by have:=C.fx j E;omega
 replace r:=r.r a Z;have ZA:=S.N C;have ajb:¬l3.q:=by rwa[S.q]
 have atw:l2.w.heap.size<=l3.w.heap.size:=a.I;clear a;apply fW (n:=20) ZA.r;iterate 5 w_go fA
 u_call Γ fP ģ fA hF
 refine Ë λ_ _=> ?_;refine ai7 (l:=l3) (kd:=kd) (rq:=rq) (ra:=ra) (rb:=rb) (cr:=cr) (R:=R) (sa:=sa) (sn:=sn) (sc:=sc) ZA ajb (by rwa[S.d]) hR IB (λh=>S.M<|C4 h) (λi k=>(gK<|S.r rb (C4 Z) id).trans<|IC i k) (λi k=>S.M<|Lf i k) (λi k=>(gK<|S.r _ (Lf i k) id).trans<|IF i k) λg B iv qv T=> ?_;walk_nrm;have a:=T.Y;have R7:gh (λ_=>False) l B:=S.fg a;replace r:=r.r a id;replace f:=f.r a id;have L:=R7.N C;have ajc:¬B.q:=by rwa[R7.q]
 have atx:l3.w.heap.size<=B.w.heap.size:=a.I;clear a;have ajd:gh (λ_=>False) B B:=gh.fT L.r;obtain⟨I,K,rfl⟩:∃I K,iv=Æ I (fK kd R) K:=by
  rcases T.jN.2 with⟨k,s⟩|⟨b,N,Q,k,_⟩
  .exact⟨Á,0,by rwa[s]⟩
  .exact⟨_,_,k⟩
 have og:∀k,k<=fK kd R->g k<B.w.heap.size:=λk hk=>by
  by_cases s:k=0
  .subst s;exact L.fx _<|Ã T.N.fq
  .exact L.fx _<|Ã (T.I k Z hk).fq
 have oi:∀k,(Æ I (fK kd R) K).ownBlock=Â k->k<B.w.heap.size:=λk e=>L.fx _<|Ã (T.r k e).1;have oq:∀k,qv.ownBlock=Â k->k<B.w.heap.size:=λk e=>L.fx _<|Ã (T.C k e).1;apply fW (n:=20) L.r;iterate 4 w_go fA
 refine Ë λ_ _=> ?_;refine py (V:=λp=>À<|Â ⟨p,0,Á⟩) (ob:=Ê #[Æ Á 0 0] 85) U U (by k_ne) L.r ajc (λw=>by go_simp) (λw=>by simp[go_sem]) λc m=> ?_;walk_nrm;have a:=mT (X:=λ_=>False) (ob:=Ê #[Æ Á 0 0] 85) L m;have s:gZ (gG B c<|Ê #[Æ Á 0 0] 85) c.heap.size (Ê #[Æ Á 0 0] 85):=⟨Ç U,mS⟩;have R8:B.w.heap.size<=c.heap.size:=m.r;generalize gG B c (Ê #[Æ Á 0 0] 85)=l5 at a s|-;generalize c.heap.size=z at s R8|-;clear m c;have R9:gh (λ_=>False) l l5:=R7.fg a;have aje:gh (λ_=>False) B l5:=ajd.fg a;replace r:=r.r a id;replace f:=f.r a id;have Sb:=R9.N C;have ajf:¬l5.q:=by rwa[R9.q]
 have aty:B.w.heap.size<=l5.w.heap.size:=a.I;clear a;have lbi:=Sb.fx z<|Ã s.fq;refine Ig (p:=z) (off:=0) (v:=Æ I (fK kd R) K) (u:=Æ Á 0 0) U U (by k_ne) Sb.r ajf s.fq (s.C U) (by simp[ð,s.I]) U (λw o F=>by go_simp) (λw o F=>by simp[go_sem,â _ _ _ _ _ _ (show Ú (Æ I (fK kd R) K)=Ô from rfl),o,F]) ?_;have a:=LQ (X:=λb=>b=z) (p:=z) (w':=l5.w.setCell ⟨z,0,Á⟩<|Æ I (fK kd R) K) Sb (fH.fT _ _) s.fq U jO λj E=>ll E;replace s:gZ ({l5 with w:=l5.w.setCell ⟨z,0,Á⟩ (Æ I (fK kd R) K)}:fe) z (Ê #[Æ I (fK kd R) K] 85):=⟨s.fq,by show(l5.w.setCell ⟨z,0,Á⟩<|Æ I (fK kd R) K).heap[z]?=_;unfold Ą;simp[î,s.I]⟩;generalize({l5 with w:=l5.w.setCell ⟨z,0,Á⟩ (Æ I (fK kd R) K)}:fe)=l6 at a s|-;have Sc:gh (λ_=>False) l l6:=R9.vN a λj E e=>by have:=C.fx j E;omega
 have ajg:gh (λ_=>False) B l6:=aje.vN a λj E e=>by have:=L.fx j E;omega
 replace r:=r.r a Z;replace f:=f.r a Z;have Sd:=Sc.N C;have ajh:¬l6.q:=by rwa[Sc.q]
 have atz:l5.w.heap.size<=l6.w.heap.size:=a.I;clear a;apply fW (n:=20) Sd.r;iterate 5 w_go fA
 refine Ë λ_ _=> ?_;refine py (V:=λp=>À<|Â ⟨p,0,Á⟩) (ob:=Ê #[É ì 0,É û 0] 97) U U (by k_ne) Sd.r ajh (λw=>by go_simp) (λw=>by simp[go_sem]) λc m=> ?_;walk_nrm;have a:=mT (X:=λ_=>False) (ob:=Ê #[É ì 0,É û 0] 97) Sd m;have F:gZ (gG l6 c<|Ê #[É ì 0,É û 0] 97) c.heap.size (Ê #[É ì 0,É û 0] 97):=⟨Ç U,mS⟩;have qR:l6.w.heap.size<=c.heap.size:=m.r;generalize gG l6 c (Ê #[É ì 0,É û 0] 97)=l7 at a F|-;generalize c.heap.size=D at F qR|-;clear m c;have Se:gh (λ_=>False) l l7:=Sc.fg a;have aji:gh (λ_=>False) B l7:=ajg.fg a;replace r:=r.r a id;replace f:=f.r a id;replace s:=s.r a id;have Mj:=Se.N C;have ajj:¬l7.q:=by rwa[Se.q]
 have atA:l6.w.heap.size<=l7.w.heap.size:=a.I;clear a;have atB:=Mj.fx D<|Ã F.fq;apply fW (n:=20) Mj.r;iterate 4 w_go fA
 u_call į fP ν fA hF
 iterate 2 w_go fA
 refine Ë λ_ _=> ?_;refine py (V:=λp=>À<|Â ⟨p,0,Á⟩) (ob:=Ê #[À<|Â ⟨D,0,Á⟩] 162) U U (by k_ne) Mj.r ajj (λw=>by go_simp) (λw=>by simp[go_sem]) λc m=> ?_;walk_nrm;have a:=mT (X:=λ_=>False) (ob:=Ê #[À<|Â ⟨D,0,Á⟩] 162) Mj m;have N:gZ (gG l7 c<|Ê #[À<|Â ⟨D,0,Á⟩] 162) c.heap.size (Ê #[À<|Â ⟨D,0,Á⟩] 162):=⟨Ç U,mS⟩;have CV:l7.w.heap.size<=c.heap.size:=m.r;generalize gG l7 c (Ê #[À<|Â ⟨D,0,Á⟩] 162)=l8 at a N|-;generalize c.heap.size=W at N CV|-;clear m c;have Sf:gh (λ_=>False) l l8:=Se.fg a;have ajk:gh (λ_=>False) B l8:=aji.fg a;replace r:=r.r a id;replace f:=f.r a id;replace s:=s.r a id;replace F:=F.r a id;have Sg:=Sf.N C;have ajl:¬l8.q:=by rwa[Sf.q]
 have atC:l7.w.heap.size<=l8.w.heap.size:=a.I;clear a;have lbw:=Sg.fx W<|Ã N.fq;refine py (V:=λp=>À<|Â ⟨p,0,Á⟩) (ob:=Ê #[ď (þ 48) #[] #[À<|Â ⟨z,0,Á⟩,À<|Â ⟨y,0,Á⟩]] 1) U U (by k_ne) Sg.r ajl (λw=>by go_simp) (λw=>by simp[go_sem]) λc m=> ?_;walk_nrm;have a:=mT (X:=λ_=>False) (ob:=Ê #[ď (þ 48) #[] #[À<|Â ⟨z,0,Á⟩,À<|Â ⟨y,0,Á⟩]] 1) Sg m;have Y:gZ (gG l8 c<|Ê #[ď (þ 48) #[] #[À<|Â ⟨z,0,Á⟩,À<|Â ⟨y,0,Á⟩]] 1) c.heap.size (Ê #[ď (þ 48) #[] #[À<|Â ⟨z,0,Á⟩,À<|Â ⟨y,0,Á⟩]] 1):=⟨Ç U,mS⟩;have Mc:l8.w.heap.size<=c.heap.size:=m.r;generalize gG l8 c (Ê #[ď (þ 48) #[] #[À<|Â ⟨z,0,Á⟩,À<|Â ⟨y,0,Á⟩]] 1)=l9 at a Y|-;generalize c.heap.size=bf at Y Mc|-;clear m c;have Mk:gh (λ_=>False) l l9:=Sf.fg a;have ajm:gh (λ_=>False) B l9:=ajk.fg a;replace r:=r.r a id;replace f:=f.r a id;replace s:=s.r a id;replace F:=F.r a id;replace N:=N.r a id;have IG:=Mk.N C;have ZB:¬l9.q:=by rwa[Mk.q]
 have atD:l8.w.heap.size<=l9.w.heap.size:=a.I;clear a;have lbf:=IG.fx bf<|Ã Y.fq;apply fW (n:=20) IG.r;iterate 3 w_go fA
 refine Ë λ_ _=> ?_;apply pn (x:=⟨W,0,Á⟩) U U (by k_ne) IG.r ZB (Ã<|Ã N.fq) (N.C U) (λw h=>by go_simp) (λw h=>by simp[go_sem,h]);walk_nrm;apply fW (n:=20) IG.r;u_call qN.f_add (Ι Lk) addFn fA hF;refine Ë λ_ _=> ?_;refine Zn qN IG ZB (by rwa[Mk.d]) F.fq F.I U U λQ hC=> ?_;walk_nrm;have a:gh (λb=>b=D) l9 Q:=hC.r;replace F:gZ Q D (Ê #[É ì 4294967296,É û 0] 97):=⟨hC.r.O D F.fq,hC.C⟩;have Si:gh (λ_=>False) l Q:=Mk.vN a λj E e=>by have:=C.fx j E;omega
 have ajn:gh (λ_=>False) B Q:=ajm.vN a λj E e=>by have:=L.fx j E;omega
 replace r:=r.r a Z;replace f:=f.r a Z;replace s:=s.r a Z;replace N:=N.r a Z;replace Y:=Y.r a Z;have ajo:=Si.N C;have atE:¬Q.q:=by rwa[Si.q]
 have atF:l9.w.heap.size<=Q.w.heap.size:=a.I;clear a;apply fW (n:=20) ajo.r;iterate 3 w_go fA
 refine Ë λ_ _=> ?_;refine .fB λvL xt=> ?_;have at9:∀{b:Nat} {o:Η},gZ Q b o->gZ ({Q with w:=vL}:fe) b o:=λh=>⟨h.fq,(xt.I _<|Ã h.fq).trans h.I⟩;exact hJ g l3 {Q with w:=vL} _ (Æ I (fK kd R) K) qv H y z D W bf _ ⟨Si.G xt,T.vN<|ajn.G xt,at9 r,at9 f,at9 s,at9 F,at9 N,at9 Y,⟨Z,Z,Z⟩,λk hk=>by have:=og k hk;omega,λk e=>by have:=oi k e;omega,λk e=>by have:=oq k e;omega,⟨Z,Z,Z⟩⟩ ⟨U,U,U,U,U,U⟩
end
def ajp{md:ă}{listed:Array Bool}(h:Ü md Q listed=[]):∀(a t:Nat),í md Q a t listed []=[]:=by
 intro a t;cases a with
 |zero=>rfl
 |succ a=>
  simp only[í];change(match(Ü md Q listed)[t%(Ü md Q listed).length]? with
   |some i=>í md Q a (t/(Ü md Q listed).length) (listed.setIfInBounds i Ô) [i]
   |none=>[].reverse)=[]
  rw[h];rfl
section
variable{J:Jd}{l:fe}
def ZC{md:ă}(I:Array Bool->Š->fe->Prop) (p:∀b a l i k,I b a l->b.size=Q.size->i∈Ü md Q b->(Ü md Q (b.setIfInBounds i Ô)=[]->k=[])->fi P yQ (λg m=>(∃h,m=G (f.at h<|Ï Q k::L) qX/\I (b.setIfInBounds i Ô) h g)\/fi P yQ J g m) l (G (f.at a<|Ï Q (i::k)::L) qX)) (o:∀b a l,I b a l->b.size=Q.size->Ü md Q b=[]->fi P yQ J l (G (f.at a<|Ï Q []::L) qX)): ∀(c t:Nat) (b:Array Bool) (a:Š) (l:fe),b.size=Q.size->jr b<=c->I b a l->fi P yQ J l (G (f.at a<|Ï Q (í md Q c t b [])::L) qX):=by
 intro c
 induction c with
 |zero=>
  intro t b a l d q j;simpa[í]using o b a l j d<|Q6 d Z
 |succ c r=>
  intro t b a l d q j;simp only[í];change fi P yQ J l (G (f.at a (Ï Q (match(Ü md Q b)[t%(Ü md Q b).length]? with
   |some i=>í md Q c (t/(Ü md Q b).length) (b.setIfInBounds i Ô) [i]
   |none=>[].reverse)::L)) qX)
  cases n:(Ü md Q b)[t%(Ü md Q b).length]? with
  |none=>
   have s:Ü md Q b=[]:=by
    cases u:Ü md Q b with
    |nil=>rfl
    |cons x e=>
     rw[u]at n;have v:t%(x::e).length<(x::e).length:=Ł _ fj;simp at n;simp at v;omega
   simpa using o b a l j d s
  |some i=>
   simp only[];rw[linearise_go_acc,List.reverse_singleton,List.singleton_append];have x:=İ n;refine(p b a l i _ j d x λe=>ajp e _ _).lN ?_;rintro g m (⟨h,rfl,hI'⟩|hW)
   .exact r _ _ h g (by simpa using d) (by have:=LB (mem_ready.1 x).1;omega) hI'
   .exact hW
def ajq{id:Nat}(I:Array Bool->Š->fe->Prop)(o:jS l)(p:¬l.q) (g:∀c,fH l l.w c->I (Array.replicate Q.size Í) y {l with w:={c with drawn:=c.drawn+1}}) (h:∀d b y l i e,I b y l->b.size=Q.size->i∈Ü d Q b->(Ü d Q (b.setIfInBounds i Ô)=[]->e=[])->fi P yQ (λj k=>(∃m,k=G (f.at m<|Ï Q e::L) qX/\I (b.setIfInBounds i Ô) m j)\/fi P yQ J j k) l (G (f.at y<|Ï Q (i::e)::L) qX)) (n:∀d b y l,I b y l->b.size=Q.size->Ü d Q b=[]->fi P yQ J l (G (f.at y<|Ï Q []::L) qX)): fi P yQ J l (G (f.at y<|ö (à id Q Ô)::L) qX):=by
 refine .mk U λc r=>⟨_,_,_,_,stepG_region_draw,Q5 (lX o r) p,?_⟩;unfold Region.schedule;split
 .exact ZC I (h _) (n _) _ _ _ _ _ fj (by rw[E3];exact Û _)<|g c r
 .exact ZC I (h _) (n _) _ _ _ _ _ fj (by rw[E3];exact Û _)<|g c r
end
def C5:å:=⟨Â 15,ý<|Ò 1,100, "work.go:72",#[],Á⟩
def C6:å:=⟨Â 16,ý<|Ò 4,3, "work.go:72",#[],Á⟩
def C7:å:=⟨Â 17,ý<|Ò 1,100, "work.go:72",#[],Á⟩
def xv:å:=⟨Â 18,Ď {callee:=Ũ .len,args:=#[Ò 17],argTypes:=#[100]},3, "work.go:72",#[⟨2,Õ⟩],Á⟩
def uD:å:=⟨Â 19,ń .rem 3 (Ò 16) (Ò 18) 3,3, "work.go:72",#[⟨1,Õ⟩,⟨3,Õ⟩],Á⟩
def uE:å:=⟨Â 20,Ţ 100 (Ò 15)<|Ò 19,0, "work.go:72",#[⟨0,Õ⟩,⟨4,Õ⟩],Á⟩
def xw:å:=⟨Â 21,č 101<|Ò 20,101, "work.go:72",#[⟨5,Õ⟩],Á⟩
def C8:å:=⟨Â 22,č 155<|Ò 5,155, "work.go:72",#[],Á⟩
def xx:å:=⟨Á,.send (Ò 21)<|Ò 22,0, "work.go:72",#[⟨6,Õ⟩,⟨7,Õ⟩],Á⟩
def nZ:Array å:=#[C5,C6,C7,xv,uD,uE,xw,C8,xx]
noncomputable def Ml:ġ:=kY Ū [1,1,0,0]
noncomputable def ZD:ġ:=kY Ū [1]
noncomputable def Mm:ġ:=kY Ū [0,1,0,0]
noncomputable def C9 (t:Array Ð) (a:List ê):Ý:=G ((base 52).at ⟨t,[]⟩ [ö Mm,ā Mm,ï 0,ö ZD]) a
structure DT(dv:Ð)(qb:Option ã)(q cq i:Nat)(t:Array Ð):Prop where
 r:t.size=32
 C:t[1]?=Â dv
 t8:t[8]?=Â (Æ qb q cq)
 M:t[9]?=Â (É Î q)
 I:t[10]?=Â (É Î i)
def IH(t:Array Ð)(h:t.size=32):∃a b c d e f g i j k l m n o p q r s u v w x y z B C D E F G H I:Ð,t=#[a,b,c,d,e,f,g,i,j,k,l,m,n,o,p,q,r,s,u,v,w,x,y,z,B,C,D,E,F,G,H,I]:=by obtain⟨_,rfl⟩:=uo t h;exact⟨_,_,_,_,_,_,_,_,_,_,_,_,_,_,_,_,_,_,_,_,_,_,_,_,_,_,_,_,_,_,_,_,U⟩
def uF(c n i a d:Nat)(b tk:Ð)(_:Unit):Nat->Ð
 |0=>b
 |1=>É Î i
 |2=>b
 |3=>É Î n
 |4=>É Î a
 |5=>À<|Â ⟨c,a,Á⟩
 |6=>é<|Â d
 |7=>tk
 |_=>Å
def Mn(a:fe)(listed:Array Bool)(_:Unit)(l:fe):Prop:=iC (λ_=>False) a l/\¬listed.getD 8 Í=Ô
section
variable{J N:Jd}{p:fe}{g s:Nat}{u:Option ã}
def ajr(Fy:gw p)(hq:¬p.q)(ht:d.size=32)(Cx:d[1]?=Â (Æ (Â ⟨j9,0,Á⟩) n j))(Ib:d[4]?=Â (É Î i))(Rb:d[5]?=Â (À<|Â ⟨g,0,Á⟩))(z:p.O g)(T:p.O j9)(hn:0<n)(vO:n<1000)(hi1:i<1000) (ZE:i%n=j6) (V:p.w.cell? ⟨j9,j6,Á⟩=Â (é<|Â m)) (W:p.w.cell? ⟨g,0,Á⟩=Â (À u)) (X:p.w.cell? ⟨g,1,Á⟩=Â (É Î s)) (Y:p.w.cell? ⟨g,2,Á⟩=Â (À<|Â ⟨j7,0,Á⟩)) (c3:p.w.cell? ⟨g,3,Á⟩=Â (À O)) (hJ:∀l H,iC (λ_=>False) p l->H.size=32->(∀c,c<15->H[c]?=d[c]?)->AK Ä Ô m (Ě #[À u,É Î s,À<|Â ⟨j7,0,Á⟩,À O]) N l (G ((base 52).at ⟨H,[]⟩<|Ï nZ [8]::L) qX)->J l (G ((base 52).at ⟨H,[]⟩<|Ï nZ [8]::L) qX)) (hN:∀l H,iC (λ_=>False) p l->H.size=32->(∀c,c<15->H[c]?=d[c]?)->fi Ä Ô N l (G ((base 52).at ⟨H,[]⟩<|Ï nZ []::L) qX)) (md:ă) (listed:Array Bool) (a:Š) (l:fe) (i':Nat) (rest:List Nat) (hI:II nZ d (uF j9 n i j6 m (Æ (Â ⟨j9,0,Á⟩) n j)<|Ě #[À u,É Î s,À<|Â ⟨j7,0,Á⟩,À O]) (Mn p) listed a l) (jH:listed.size=nZ.size) (C:i'∈Ü md nZ listed) (IJ:Ü md nZ (listed.setIfInBounds i' Ô)=[]->rest=[]): fi Ä Ô (λD F=>(∃Q,F=G ((base 52).at Q<|Ï nZ rest::L) qX/\II nZ d (uF j9 n i j6 m (Æ (Â ⟨j9,0,Á⟩) n j)<|Ě #[À u,É Î s,À<|Â ⟨j7,0,Á⟩,À O]) (Mn p) (listed.setIfInBounds i' Ô) Q D)\/fi Ä Ô J D F) l (G ((base 52).at a<|Ï nZ (i'::rest)::L) qX):=by
 let⟨x,t,S,h8⟩:=hI;have I:qL nZ d.size=Ô:=by rw[ht];decide
 have gJ:=zg C;have K:=S.fx;have M:¬l.q:=by rwa[S.q]
 have nz:a.tmps[1]?=Â (Æ (Â ⟨j9,0,Á⟩) n j):=(t.C A).trans Cx;have C0:a.tmps[4]?=Â (É Î i):=(t.C A).trans Ib;have um:a.tmps[5]?=Â (À<|Â ⟨g,0,Á⟩):=(t.C A).trans Rb;have y:∀b f v,p.O b->p.w.cell? ⟨b,f,Á⟩=Â v->gW l ⟨b,f,Á⟩/\l.w.cell? ⟨b,f,Á⟩=Â v:=λb f v E h=>⟨Ã<|Ã<|S.O b E,by rwa[gK<|S.r b<|Ã E]⟩;have P:∀{k:Nat},k≠8->∀B,fH l l.w B->Mn p (listed.setIfInBounds k Ô) () {l with w:=B}:=λhm B r=>⟨S.N (λ_ q=>q.elim) r,by rwa[è Í hm]⟩;have ajs:j6<n:=by rw[<-ZE];exact Ł _ hn
 have ajt:(j6:Int)<(n:Int):=Z
 have IK:¬(n:Int)=0:=Z
 have aju:¬n=0:=Z
 have htm:Int.tmod (i:Int) (n:Int)=(j6:Int):=by rw[Int.tmod_eq_emod_of_nonneg Z,<-ZE];simp
 have oG:Î.wrap (j6:Int)=(j6:Int):=CB Z Z;have Mp:nZ.size=9:=A
 rw[Mp]at gJ;match i',gJ with
 |0,_=>
  refine(ik (o:=C5) I t U U C (by k_ne) K M (λB r=> ?_) (λB r e D=> ?_)<|P A).fN λ_ _ h=>Ã h
  .simp only[uF,C5];go_simp
  .simp[go_sem,C5,nz]at D
 |1,_=>
  refine(ik (o:=C6) I t U U C (by k_ne) K M (λB r=> ?_) (λB r e D=> ?_)<|P A).fN λ_ _ h=>Ã h
  .simp only[uF,C6];go_simp
  .simp[go_sem,C6,C0]at D
 |2,_=>
  refine(ik (o:=C7) I t U U C (by k_ne) K M (λB r=> ?_) (λB r e D=> ?_)<|P A).fN λ_ _ h=>Ã h
  .simp only[uF,C7];go_simp
  .simp[go_sem,C7,nz]at D
 |3,_=>
  have F:a.tmps[17]?=Â (Æ (Â ⟨j9,0,Á⟩) n j):=t.r 2 C7 17 U (ia (o:=xv) C U U) U;refine(ik (o:=xv) I t U U C (by k_ne) K M (λB r=> ?_) (λB r e D=> ?_)<|P A).fN λ_ _ h=>Ã h
  .simp only[uF,xv];go_simp
  .simp[go_sem,xv,F]at D
 |4,_=>
  have F:a.tmps[16]?=Â (É Î i):=t.r 1 C6 16 U (ia (o:=uD) C U U) U;have Q:a.tmps[18]?=Â (É Î n):=t.r 3 xv 18 U (ia (o:=uD) C U U) U;refine(ik (o:=uD) I t U U C (by k_ne) K M (λB r=> ?_) (λB r e D=> ?_)<|P A).fN λ_ _ h=>Ã h
  .simp only[uF,uD];go_simp
  .simp[go_sem,uD,F,Q,IK,aju,htm,oG]at D
 |5,_=>
  have F:a.tmps[15]?=Â (Æ (Â ⟨j9,0,Á⟩) n j):=t.r 0 C5 15 U (ia (o:=uE) C U U) U;have Q:a.tmps[19]?=Â (É Î j6):=t.r 4 uD 19 U (ia (o:=uE) C U U) U;refine(ik (o:=uE) I t U U C (by k_ne) K M (λB r=> ?_) (λB r e D=> ?_)<|P A).fN λ_ _ h=>Ã h
  .simp only[uF,uE];go_simp
  .simp[go_sem,uE,F,Q,ajs,ajt]at D
 |6,_=>
  have Q:a.tmps[20]?=Â (À<|Â ⟨j9,j6,Á⟩):=t.r 5 uE 20 U (ia (o:=xw) C U U) U;refine(ik (o:=xw) I t U U C (by k_ne) K M (λB r=> ?_) (λB r e D=> ?_)<|P A).fN λ_ _ h=>Ã h
  .have F:=((y j9 _ _ T V).1.r r).trans (y j9 _ _ T V).2;simp only[uF,xw];go_simp
  .have F:=((y j9 _ _ T V).1.r r).trans (y j9 _ _ T V).2;have hee:e=⟨Ā ⟨j9,j6,Á⟩,Í,Í⟩:=by simp[go_sem,xw,F,Q]at D;exact D
   subst hee;exact(y j9 _ _ T V).1.C
 |7,_=>
  refine(ik (o:=C8) I t U U C (by k_ne) K M (λB r=> ?_) (λB r e D=> ?_)<|P A).fN λ_ _ h=>Ã h
  .have F:=((y g _ _ z W).1.r r).trans (y g _ _ z W).2;have Q:=((y g _ _ z X).1.r r).trans (y g _ _ z X).2;have qT:=((y g _ _ z Y).1.r r).trans (y g _ _ z Y).2;have uB:=((y g _ _ z c3).1.r r).trans (y g _ _ z c3).2;simp only[uF,C8];go_simp
  .have F:=((y g _ _ z W).1.r r).trans (y g _ _ z W).2;have Q:=((y g _ _ z X).1.r r).trans (y g _ _ z X).2;have qT:=((y g _ _ z Y).1.r r).trans (y g _ _ z Y).2;have uB:=((y g _ _ z c3).1.r r).trans (y g _ _ z c3).2;simp[go_sem,C8,um,F,Q,qT,uB]at D;rcases D with rfl|rfl|rfl|rfl
   .exact(y g _ _ z W).1.C
   .exact(y g _ _ z X).1.C
   .exact(y g _ _ z Y).1.C
   .exact(y g _ _ z c3).1.C
 |8,_=>
  have d6:=ia (j:=6) (o:=xx) C U U;have d7:=ia (j:=7) (o:=xx) C U U;have Rq:a.tmps[21]?=Â (é<|Â m):=t.r 6 xw 21 U d6 U;have H3:a.tmps[22]?=Â (Ě #[À u,É Î s,À<|Â ⟨j7,0,Á⟩,À O]):=t.r 7 C8 22 U d7 U;have d5:=t.I (j:=5) (o:=xw) U d6 U;have d0:=t.I (j:=0) (o:=uE) U d5 U;have d4:=t.I (j:=4) (o:=uE) U d5 U;have d1:=t.I (j:=1) (o:=uD) U d4 U;have d3:=t.I (j:=3) (o:=uD) U d4 U;have d2:=t.I (j:=2) (o:=xv) U d3 U;have qR:Ü md nZ (listed.setIfInBounds 8 Ô)=[]:=by
   rw[List.eq_nil_iff_forall_not_mem];intro f hj;have IL:=zg hj;have F:=Q8 hj;rw[Mp]at IL;by_cases Q:f=8
   .subst Q;have D:8<listed.size:=by rw[jH,Mp];decide
    simp[D]at F
   .rw[è Ô<|Ne.symm Q]at F;have D:=xh F;match f,IL,Q with
    |0,_,_=>exact D d0
    |1,_,_=>exact D d1
    |2,_,_=>exact D d2
    |3,_,_=>exact D d3
    |4,_,_=>exact D d4
    |5,_,_=>exact D d5
    |6,_,_=>exact D d6
    |7,_,_=>exact D d7
    |8,_,h=>exact h U
  obtain rfl:=IJ qR;let⟨F,ds⟩:=a;obtain rfl:ds=[]:=t.M;have IN:F.size=32:=t.N.trans ht;have Mq:∀c,c<15->F[c]?=d[c]?:=λc hd=>t.b c λf o E _ e=>by
   have IL:=(æ.1 E).1;rw[Mp]at IL;match f,IL with
   |0,_=>
    have D:o=C5:=(Ó<|show Â C5=Â o from E).symm;rw[D]at e;have Q:15=c:=Ó (show Â 15=Â c from e);omega
   |1,_=>
    have D:o=C6:=(Ó<|show Â C6=Â o from E).symm;rw[D]at e;have Q:16=c:=Ó (show Â 16=Â c from e);omega
   |2,_=>
    have D:o=C7:=(Ó<|show Â C7=Â o from E).symm;rw[D]at e;have Q:17=c:=Ó (show Â 17=Â c from e);omega
   |3,_=>
    have D:o=xv:=(Ó<|show Â xv=Â o from E).symm;rw[D]at e;have Q:18=c:=Ó (show Â 18=Â c from e);omega
   |4,_=>
    have D:o=uD:=(Ó<|show Â uD=Â o from E).symm;rw[D]at e;have Q:19=c:=Ó (show Â 19=Â c from e);omega
   |5,_=>
    have D:o=uE:=(Ó<|show Â uE=Â o from E).symm;rw[D]at e;have Q:20=c:=Ó (show Â 20=Â c from e);omega
   |6,_=>
    have D:o=xw:=(Ó<|show Â xw=Â o from E).symm;rw[D]at e;have Q:21=c:=Ó (show Â 21=Â c from e);omega
   |7,_=>
    have D:o=C8:=(Ó<|show Â C8=Â o from E).symm;rw[D]at e;have Q:22=c:=Ó (show Â 22=Â c from e);omega
   |8,_=>
    have D:o=xx:=(Ó<|show Â xx=Â o from E).symm;rw[D]at e;cases(show Á=Â c from e)
  refine .fB λB r=>Ç (.fB λpb D=> ?_);have Q:iC (λ_=>False) p ({l with w:=pb}:fe):=S.N (λ_ q=>q.elim)<|r.fg ⟨D.r,D.I,D.N,D.Y,D.S⟩;refine hJ _ F Q IN Mq ⟨U,U,λD=>⟨ñ #[],?_⟩,?_⟩
  .refine(Κ (cases:=#[scase m (Ě #[À u,É Î s,À<|Â ⟨j7,0,Á⟩,À O])<|ñ #[]]) (blocking:=Ô) (shape:=.send) (w':=D) (o:=xx) rfl rfl (by k_ne) ?_).trans ?_
   .simp[go_sem,xx,đ,scase,ę,Rq,H3]
   .have:ū Ä (base 52).fn ⟨F,[]⟩ xx D=#[]:=by
     unfold ū;simp[go_sem,xx,đ,ę,Rq,H3,Ĳ]
    rw[this]
  .have e:({G ((base 52).at ⟨F,[]⟩<|Ï nZ [8]::L) qX with frame:=(G ((base 52).at ⟨F,[]⟩<|Ï nZ [8]::L) qX).frame.finish Å}:Ý)=G ((base 52).at ⟨F,[]⟩<|Ï nZ []::L) qX:=by
    have:(G ((base 52).at ⟨F,[]⟩<|Ï nZ [8]::L) qX).frame.finish Å=(base 52).at (π ⟨F,[]⟩ Á Å) (Ï nZ []::L):=ī _ _ _ _ _ _ _;rw[this];rfl
   rw[e];exact hN _ F Q IN Mq
 |n+9,h=>exact absurd h Z
end
section
variable{N:Jd}{l:fe}{f:Option ã}
def ajv(s:gw l)(K:¬l.q)(G:DT (Æ (Â ⟨J,0,Á⟩) n j) (Â ⟨j6,0,Á⟩) b m i d)(hiq:i<b)(CO:b<1000)(hn:0<n)(vO:n<1000)(ZF:l.O J)(cd:l.w.cell? ⟨J,i%n,Á⟩=Â (é<|Â k))(Sj:l.M j6) (i0:l.w.cell? ⟨j6,i*4,Á⟩=Â (À f)) (i1:l.w.cell? ⟨j6,i*4+1,Á⟩=Â (É Î j7)) (i2:l.w.cell? ⟨j6,i*4+2,Á⟩=Â (À<|Â ⟨j9,0,Á⟩)) (i3:l.w.cell? ⟨j6,i*4+3,Á⟩=Â (À O)) (hN:∀t H,iC (λ_=>False) l t->DT (Æ (Â ⟨J,0,Á⟩) n j) (Â ⟨j6,0,Á⟩) b m (i+1) H->fi Ä Ô N t (C9 H qX)): fi Ä Ô (AK Ä Ô k (Ě #[À f,É Î j7,À<|Â ⟨j9,0,Á⟩,À O]) N) l (C9 d qX):=by
 obtain⟨y0,y1,y2,y3,y4,y5,y6,y7,y8,y9,xj,zn,xk,rK,sU,qO,vC,vD,uq,uu,uw,sV,sW,sX,uy,vE,xl,sY,qP,uz,qg,qh,rfl⟩:=IH d G.r;obtain rfl:y1=Æ (Â ⟨J,0,Á⟩) n j:=by simpa using G.C
 obtain rfl:y8=Æ (Â ⟨j6,0,Á⟩) b m:=by simpa using G.t8
 obtain rfl:y9=É Î b:=by simpa using G.M
 obtain rfl:xj=É Î i:=by simpa using G.I
 have rL:∀y:ã,False->l.r y:=λy ha=>ha.elim;have atG:(i:Int)<(b:Int):=Z
 have hF:True:=trivial;simp only[C9];conv in Mm=>whnf
 apply fW (n:=30) s.r;repeat w_go fA
 refine Ë λ_ _=> ?_;have g:∀c,gW l ⟨j6,c,Á⟩:=λc=>Ã Sj;refine oM (v:=Ě #[À f,É Î j7,À<|Â ⟨j9,0,Á⟩,À O]) U U (by k_ne) s.r K (λo r=> ?_) (λo r e h=> ?_) ?_
 .have u:=((g<|i*4).r r).trans i0;have z:=((g<|i*4+1).r r).trans i1;have B:=((g<|i*4+2).r r).trans i2;have C:=((g<|i*4+3).r r).trans i3;go_simp
 .have u:=((g<|i*4).r r).trans i0;have z:=((g<|i*4+1).r r).trans i1;have B:=((g<|i*4+2).r r).trans i2;have C:=((g<|i*4+3).r r).trans i3;simp[go_sem,u,z,B,C]at h;rcases h with rfl|rfl|rfl|rfl
  .exact(g _).C
  .exact(g _).C
  .exact(g _).C
  .exact(g _).C
 walk_nrm;refine H4 (ob:=Ê #[À Á,É Î 0,À Á,À Á] 155) U U (by k_ne) s.r K (λw=>by go_simp) (λw=>by simp[go_sem]) λo X=> ?_;walk_nrm;have D:iC (λ_=>False) l (gG l o<|Ê #[À Á,É Î 0,À Á,À Á] 155):=LK s rL X;have L:(gG l o<|Ê #[À Á,É Î 0,À Á,À Á] 155).w.heap[o.heap.size]?=Â (Ê #[À Á,É Î 0,À Á,À Á] 155):=mS;have sZ:l.w.heap.size<=o.heap.size:=X.r;have q:(gG l o<|Ê #[À Á,É Î 0,À Á,À Á] 155).O o.heap.size:=Ç U;generalize gG l o (Ê #[À Á,É Î 0,À Á,À Á] 155)=l₁ at D L q|-;generalize o.heap.size=tb at L q sZ|-;apply fW (n:=3) D.fx;w_go fA;refine Ë λ_ _=> ?_;refine vy U U (by k_ne) λr P=> ?_;have E:r.heap[tb]?=_:=(P.I tb<|Ã q).trans L;have u:r.cell? ⟨tb,0,Á⟩=Â (À Á):=by simp[Ù,E]
 have z:r.cell? ⟨tb,1,Á⟩=Â (É Î 0):=by simp[Ù,E]
 have B:r.cell? ⟨tb,2,Á⟩=Â (À Á):=by simp[Ù,E]
 have C:r.cell? ⟨tb,3,Á⟩=Â (À Á):=by simp[Ù,E]
 have hz:∀c,r.frozen? ⟨tb,c,Á⟩=Í:=λc=>by simp[ð,E]
 go_simp;refine⟨{l₁ with w:=iT r tb (À f) (É Î j7) (À<|Â ⟨j9,0,Á⟩) (À O)},LL (p:=tb) (lX D.fx P) (by rwa[D.q]) q xi (λc x=>zj x) ⟨U,U,U⟩ λe h=> ?_,?_⟩
 .have a:=ě h;have e:∀c,qf l₁ ⟨tb,c,Á⟩:=λc=>Ã q;simp[go_sem,â _ _ _ _ _ _ (show Ú (À f)=Ô from rfl),â _ _ _ _ _ _ (show Ú (À<|Â ⟨j9,0,Á⟩)=Ô from rfl),â _ _ _ _ _ _ (show Ú (À O)=Ô from rfl),u,z,B,C,hz]at a;rcases a with rfl|rfl|rfl|rfl
  .exact(e _).r
  .exact(e _).r
  .exact(e _).r
  .exact(e _).r
 let⟨Q,S,T,V⟩:=Rj (v0:=À f) (v1:=É Î j7) (v2:=À<|Â ⟨j9,0,Á⟩) (v3:=À O) u z B C;have F:=Rk (w':=iT r tb (À f) (É Î j7) (À<|Â ⟨j9,0,Á⟩)<|À O) s rL D P sZ xi λc x=>zj x;have CC:({l₁ with w:=iT r tb (À f) (É Î j7) (À<|Â ⟨j9,0,Á⟩) (À O)}:fe).O tb:=q;replace Q:({l₁ with w:=iT r tb (À f) (É Î j7) (À<|Â ⟨j9,0,Á⟩) (À O)}:fe).w.cell? ⟨tb,0,Á⟩=_:=Q;replace S:({l₁ with w:=iT r tb (À f) (É Î j7) (À<|Â ⟨j9,0,Á⟩) (À O)}:fe).w.cell? ⟨tb,1,Á⟩=_:=S;replace T:({l₁ with w:=iT r tb (À f) (É Î j7) (À<|Â ⟨j9,0,Á⟩) (À O)}:fe).w.cell? ⟨tb,2,Á⟩=_:=T;replace V:({l₁ with w:=iT r tb (À f) (É Î j7) (À<|Â ⟨j9,0,Á⟩) (À O)}:fe).w.cell? ⟨tb,3,Á⟩=_:=V;generalize({l₁ with w:=iT r tb (À f) (É Î j7) (À<|Â ⟨j9,0,Á⟩) (À O)}:fe)=l₂ at Q S T V F CC|-;clear L q D E u z B C hz P r l₁ X o;have W:=F.G s;have qi:¬l₂.q:=by rwa[F.q]
 have cd2:l₂.w.cell? ⟨J,i%n,Á⟩=Â (é<|Â k):=(gK<|F.r J<|Ã ZF).trans cd;apply fW (n:=5) W.r;w_go fA;refine Ë λ_ _=> ?_;refine ajq (II nZ #[y0,Æ (Â ⟨J,0,Á⟩) n j,y2,y3,É Î i,À<|Â ⟨tb,0,Á⟩,y6,y7,Æ (Â ⟨j6,0,Á⟩) b m,É Î b,É Î i,ĭ Ô,É Î i,À<|Â ⟨j6,i*4,Á⟩,Ě #[À f,É Î j7,À<|Â ⟨j9,0,Á⟩,À O],qO,vC,vD,uq,uu,uw,sV,sW,sX,uy,vE,xl,sY,qP,uz,qg,qh] (uF J n i (i%n) k (Æ (Â ⟨J,0,Á⟩) n j)<|Ě #[À f,É Î j7,À<|Â ⟨j9,0,Á⟩,À O])<|Mn l₂) W.r qi (λa x=> ?_) (λY listed a t i' rest hI I e IJ=>ajr (J:=AK Ä Ô k (Ě #[À f,É Î j7,À<|Â ⟨j9,0,Á⟩,À O]) N) (N:=N) W qi U U U U CC (F.O J ZF) hn vO Z U cd2 Q S T V (λl H _ _ _ h=>h) (λt H hA hs h=> ?_) Y listed a t i' rest hI I e IJ) λY listed a kn hI I vF=> ?_
 .exact⟨(),lC.Y _ _ _,(iC.fT W.r).N (λ_ b=>b.elim) ⟨x.r,x.I,x.N,x.Y,x.S⟩,A⟩
 .have x:=F.fg hA;have a:=(h 1 A).trans (show _=Â (Æ (Â ⟨J,0,Á⟩) n j)from U);have o8:=(h 8 A).trans (show _=Â (Æ (Â ⟨j6,0,Á⟩) b m)from U);have o9:=(h 9 A).trans (show _=Â (É Î b)from U);have o10:=(h 10 A).trans (show _=Â (É Î i)from U);clear h;obtain⟨x0,x1,x2,x3,x4,x5,x6,x7,x8,x9,Y0,x11,x12,x13,x14,x15,x16,x17,x18,x19,x20,x21,x22,x23,x24,x25,x26,x27,x28,x29,x30,x31,rfl⟩:=IH H hs;obtain rfl:x1=Æ (Â ⟨J,0,Á⟩) n j:=by simpa using a
  obtain rfl:x8=Æ (Â ⟨j6,0,Á⟩) b m:=by simpa using o8
  obtain rfl:x9=É Î b:=by simpa using o9
  obtain rfl:Y0=É Î i:=by simpa using o10
  apply fW (n:=9) x.fx;iterate 7 w_go fA
  refine Ë λ_ _=> ?_;refine hN t _ x ⟨U,U,U,U,?_⟩;simp;exact CB Z Z
 .let⟨x,hR,hS3,a⟩:=hI;have h:∀i∈ä 9,listed.getD i Í=Ô:=by
   cases Y
   .exact po vF I (ä 9) [] fP λi e=>by cases e
   .exact po vF I (ä 9) [] fP λi e=>by cases e
   .exact po vF I (ä 9) [] fP λi e=>by cases e
  exact absurd (h 8 A) a
end
noncomputable def Da (t:Array Ð) (a:List ê):Ý:=G ((base 52).at ⟨t,[]⟩ [ö Ml,ā Ml,ï 2]) a
structure ET(dv:Ð)(n j:Nat)(t:Array Ð):Prop where
 r:t.size=32
 ajw:t[24]?=Â dv
 C:t[25]?=Â (É Î n)
 I:t[26]?=Â (É Î j)
def IP(t:Array Ð):ê:=(base 37).at ⟨t,[]⟩ [Ï LX [2],ö<|(à 13 LY Í).seq LZ]
def Fz(t:Array Ð)(a:List ê):Ý:=G ((base 37).at ⟨t,[]⟩ [Ï LY [],ö LZ]) a
structure SE(ba all nY:Nat)(t:Array Ð):Prop where
 r:t.size=49
 I:t[8]?=Â (À<|Â ⟨ba,0,Á⟩)
 C:t[11]?=Â (À<|Â ⟨nY,0,Á⟩)
 Rz:t[12]?=Â (À<|Â ⟨all,0,Á⟩)
section
variable{J a N:Jd}{l:fe}{t:Array Ð}{ba all nY:Nat}{dv:Ð}
def ajx(e:jS l)(a:ST ba all nY n n (Æ O k j9) dv t)(f:∀b d,DT dv O k j9 0 b->SE ba all nY d->fi Ä Ô J l (C9 b<|IP d::qX)):fi Ä Ô J l (CL t qX):=by
 obtain⟨p,q,r,s,u,v,w,x,g,y,h,i,j,c,z,B,C,D,E,F,G,H,I,K,L,M,N,m,o,P,Q,S,T,V,W,X,Y,pZ,p6,p7,p8,p9,qa,qc,qd,qe,nU,nV,rJ,rfl⟩:=It t a.r;obtain rfl:g=À (Â ⟨ba,0,Á⟩):=by simpa using a.a
 obtain rfl:h=Æ O k j9:=by simpa using a.C
 obtain rfl:i=À (Â ⟨nY,0,Á⟩):=by simpa using a.I
 obtain rfl:j=À (Â ⟨all,0,Á⟩):=by simpa using a.M
 obtain rfl:dv=c:=(show c=dv by simpa using a.N).symm;obtain rfl:m=É Î n:=by simpa using a.S
 obtain rfl:o=É Î n:=by simpa using a.Y
 have hF:True:=trivial;apply fW (n:=40) e;simp only[CL,Ft,Rv];iterate 7 w_go fA
 simp only[L0,LX];iterate 4 w_go fA
 u_call Ε fP Ū fA hF
 iterate 9 w_go fA
 refine Ë λ_ _=> ?_;exact f _ _ ⟨U,U,U,U,U⟩ ⟨U,U,U,U⟩
def ajy(d:jS l)(a:DT (Æ (Â ⟨j7,0,Á⟩) n b) O k j9 k t)(e:∀c,ET (Æ (Â ⟨j7,0,Á⟩) n b) n 0 c->fi Ä Ô J l (Da c qX)):fi Ä Ô J l (C9 t qX):=by
 obtain⟨i,f,j,m,o,p,q,r,s,g,h,u,v,w,x,y,z,B,C,D,E,F,G,H,I,K,L,M,N,P,Q,S,rfl⟩:=IH t a.r;obtain rfl:f=Æ (Â ⟨j7,0,Á⟩) n b:=by simpa using a.C
 obtain rfl:g=É Î k:=by simpa using a.M
 obtain rfl:h=É Î k:=by simpa using a.I
 have hF:True:=trivial;apply fW (n:=40) d;simp only[C9];conv in Mm=>whnf
 iterate 7 w_go fA
 conv in ZD=>whnf
 iterate 8 w_go fA
 refine Ë λ_ _=> ?_;exact e _ ⟨U,U,U,U⟩
def ajz(a:gw l)(g:¬l.q)(c:ET (Æ (Â ⟨j7,0,Á⟩) n b) n j t)(z:j<n)(B:n<1000)(i:l.O j7)(o:l.w.cell? ⟨j7,j,Á⟩=Â (é<|Â m)) (p:∀d e,iC (λ_=>False) l d->ET (Æ (Â ⟨j7,0,Á⟩) n b) n (j+1) e->fi Ä Ô N d (Da e qX)):fi Ä Ô (KT Ä Ô m N) l (Da t qX):=by
 obtain⟨C,D,F,G,H,I,J,K,L,M,P,Q,S,T,V,W,X,Y,uq,uu,uw,sV,sW,sX,q,u,v,sY,qP,uz,qg,qh,rfl⟩:=IH t c.r;obtain rfl:q=Æ (Â ⟨j7,0,Á⟩) n b:=by simpa using c.ajw
 obtain rfl:u=É Î n:=by simpa using c.C
 obtain rfl:v=É Î j:=by simpa using c.I
 have hF:True:=trivial;apply fW (n:=40) a.r;simp only[Da];conv in Ml=>whnf
 repeat w_go fA
 refine Ë λ_ _=> ?_;apply pn (x:=⟨j7,j,Á⟩) U U (by k_ne) a.r g (Ã<|Ã i) o (λw h=>by go_simp) (λw h=>by simp[go_sem,h]);walk_nrm;apply fW (n:=40) a.r;iterate 4 w_go fA
 refine Ë λ_ _=> ?_;refine .fB λw₁ y=>⟨U,U,_,U,λpb cap buf s r tm h=>(stepG_close U U (by k_ne) U U h fP).trans U,?_⟩;walk_nrm;have f:=(iC.fT (E:=λ_=>False) a.r).N (λ_ k=>k.elim) y;apply fW (n:=20) f.fx;iterate 7 w_go fA
 refine Ë λ_ _=> ?_;refine p _ _ f ⟨U,U,U,?_⟩;simp;exact CB Z Z
def ajA(e:gw l)(g:l.d=0)(p:60<=i)(f:ET dv n n t)(c:SE ba all nY d)(j:l.K ⟨all,0,Á⟩/\l.K ⟨all,1,Á⟩)(q:mQ all l.w) (r:∀m o,iC (λ_=>False) l m->SE ba all nY o->a m (Fz o qX)):fi Ä Ô (qI Ä Ô i all a .iW) l (Da t<|IP d::qX):=by
 obtain⟨G,H,I,J,L,M,N,P,Q,S,T,V,W,X,Y,qO,vC,vD,uq,uu,uw,sV,sW,sX,uy,s,u,sY,qP,uz,qg,qh,rfl⟩:=IH t f.r;obtain rfl:s=É Î n:=by simpa using f.C
 obtain rfl:u=É Î n:=by simpa using f.I
 have hF:True:=trivial;apply fW (n:=40) e.r;simp only[Da,IP,LX];conv in Ml=>whnf
 iterate 8 w_go fA
 obtain⟨z0,z1,z2,z3,z4,z5,z6,z7,v,z9,z10,x,y,z13,z14,z15,z16,z17,z18,z19,z20,z21,z22,z23,z24,z25,z26,z27,z28,z29,z30,z31,z32,z33,z34,z35,z36,z37,z38,z39,z40,z41,z42,z43,z44,z45,z46,z47,z48,rfl⟩:=It d c.r;obtain rfl:v=À (Â ⟨ba,0,Á⟩):=by simpa using c.I
 obtain rfl:x=À (Â ⟨nY,0,Á⟩):=by simpa using c.C
 obtain rfl:y=À (Â ⟨all,0,Á⟩):=by simpa using c.Rz
 u_leave0 Ε fA hF
 simp only[LY];iterate 3 w_go fA
 u_call qN.f_wait (nm_wait Lk) waitFn fA hF
 refine Ë λ_ _=> ?_;refine YH qN p (⟨Ã j.1,Ã j.2,λw z b B C D F h=>h.fg ⟨b,B,C,D,F⟩⟩) ⟨e.r,q,fH.fT _ _⟩ g λz B=> ?_;walk_nrm;refine .fB λC b=> ?_;have h:=(iC.fT (E:=λ_=>False) e.r).N (λ_ k=>k.elim)<|B.2.2.fg ⟨b.r,b.I,b.N,b.Y,b.S⟩;exact r {l with d:=0,w:=C} _ ⟨h.O,h.h,h.Y,h.I,h.c,h.K,h.q,g.symm,h.fx,h.f,h.r,h.e,h.S,h.b,h.g⟩ ⟨U,U,U,U⟩
end
def vP(a:Nat)(b c:Ð)(_:Unit):Nat->Ð
 |0=>b
 |1=>À<|Â ⟨a,0,Á⟩
 |2=>À<|Â ⟨a,0,Á⟩
 |3=>À<|Â ⟨a,2,Á⟩
 |4=>c
 |5=>b
 |_=>c
def Mr(a:fe)(_:Array Bool)(_:Unit)(l:fe):Prop:=gh (λ_=>False) a l
section
variable{J:Jd}{g:fe}{h:Option ã}
def ajB(K:¬g.q)(N:q.size=49)(P:q[8]?=Â (À<|Â ⟨m,0,Á⟩))(Q:q[11]?=Â (À<|Â ⟨j9,0,Á⟩))(E:g.M m)(F:gW g ⟨j9,2,Á⟩)(S:g.w.cell? ⟨m,0,Á⟩=Â (Æ O b n))(T:g.w.cell? ⟨j9,2,Á⟩=Â (Æ h j6 j7)) (md:ă) (listed:Array Bool) (y:Š) (l:fe) (i:Nat) (jJ:List Nat) (V:II xn q (vP j9 (Æ O b n)<|Æ h j6 j7) (Mr g) listed y l) (k:i∈Ü md xn listed): fi Ä Ô (λc d=>∃a,d=G ((base 37).at a<|Ï xn jJ::L) qX/\II xn q (vP j9 (Æ O b n)<|Æ h j6 j7) (Mr g) (listed.setIfInBounds i Ô) a c) l (G ((base 37).at y<|Ï xn (i::jJ)::L) qX):=by
 let⟨x,j,p⟩:=V;have s:qL xn q.size=Ô:=by rw[N];decide
 have H:=zg k;have t:=p.fx;have u:¬l.q:=by rwa[show l.q=g.q from p.q]
 have W:=(j.C A).trans P;have X:=(j.C A).trans Q;have B:gW l ⟨m,0,Á⟩:=Ã<|p.M E;have D:gW l ⟨j9,2,Á⟩:=F.imp (λa=>p.M a) λa=>by rwa[p.C]
 have I:=(gK<|p.r m E id).trans S;have J:l.w.cell? ⟨j9,2,Á⟩=Â (Æ h j6 j7):=by
  refine Ŋ ?_ T;rcases F with a|a
  .exact gK<|p.r _ a id
  .exact p.f _ a
 have v:∀{c:Nat},∀d,fH l l.w d->Mr g (listed.setIfInBounds c Ô) () {l with w:=d}:=λd r=>p.G r;have Y:xn.size=7:=A
 rw[Y]at H;match i,H with
 |0,_=>
  refine ik (o:=Ii) s j U U k (by k_ne) t u (λd r=> ?_) (λd r e f=> ?_) v
  .have z:=(B.r r).trans I;simp only[vP,Ii];go_simp
  .have z:=(B.r r).trans I;simp[go_sem,Ii,W,z]at f;subst f;exact B.C
 |4,_=>
  have h47:y.tmps[47]?=Â (À<|Â ⟨j9,2,Á⟩):=j.r 3 Il 47 U (ia k U U) U;refine ik (o:=Im) s j U U k (by k_ne) t u (λd r=> ?_) (λd r e f=> ?_) v
  .have z:=(D.r r).trans J;simp only[vP,Im];go_simp
  .have z:=(D.r r).trans J;simp[go_sem,Im,h47,z]at f;subst f;exact D.C
 |1,_=>
  refine ik (o:=Ij) s j U U k (by k_ne) t u (λd r=> ?_) (λd r e f=> ?_) v
  .simp only[vP,Ij];go_simp
  .simp[go_sem,Ij,X]at f
 |2,_=>
  have z:y.tmps[45]?=Â (À<|Â ⟨j9,0,Á⟩):=j.r 1 Ij 45 U (ia k U U) U;refine ik (o:=Ik) s j U U k (by k_ne) t u (λd r=> ?_) (λd r e f=> ?_) v
  .simp only[vP,Ik];go_simp
  .simp[go_sem,Ik,z]at f
 |3,_=>
  have z:y.tmps[46]?=Â (À<|Â ⟨j9,0,Á⟩):=j.r 2 Ik 46 U (ia k U U) U;refine ik (o:=Il) s j U U k (by k_ne) t u (λd r=> ?_) (λd r e f=> ?_) v
  .simp only[vP,Il];go_simp
  .simp[go_sem,Il,z]at f
 |5,_=>
  have z:y.tmps[44]?=Â (Æ O b n):=j.r 0 Ii 44 U (ia k U U) U;refine ik (o:=Io) s j U U k (by k_ne) t u (λd r=> ?_) (λd r e f=> ?_) v
  .simp only[vP,Io];go_simp
  .simp[go_sem,Io,z]at f
 |6,_=>
  have z:y.tmps[48]?=Â (Æ h j6 j7):=j.r 4 Im 48 U (ia k U U) U;refine ik (o:=Ip) s j U U k (by k_ne) t u (λd r=> ?_) (λd r e f=> ?_) v
  .simp only[vP,Ip];go_simp
  .simp[go_sem,Ip,z]at f
def ajC(c:gw g)(t:¬g.q)(e:SE m j j9 d)(B:g.M m)(C:gW g ⟨j9,2,Á⟩)(D:g.w.cell? ⟨m,0,Á⟩=Â (Æ O b n))(E:g.w.cell? ⟨j9,2,Á⟩=Â (Æ h j6 j7)) (F:∀u,gh (λ_=>False) g u->fi Ä Ô J u (G (f.at (y.put ((Q[i]?).bind (·.dst))<|ñ #[Æ O b n,Æ h j6 j7])<|Ï Q jJ::L) qX)): fi Ä Ô J g (Fz d<|f.at y (Ï Q (i::jJ)::L)::qX):=by
 have hF:=trivial;apply fW (n:=9) c.r;simp only[Fz,LZ];iterate 2 w_go fA
 refine Ë λ_ _=> ?_;refine LC (II xn d (vP j9 (Æ O b n)<|Æ h j6 j7)<|Mr g) c.r t (λl a=>⟨(),lC.Y _ _ _,(gh.fT c.r).G ⟨a.r,a.I,a.N,a.Y,a.S⟩⟩) (λk o y l i jJ p a=>ajB t e.r e.I e.C B C D E k o y l i jJ p a) λk o H I p r s=> ?_;let⟨x,l,K⟩:=p;have v:∀i∈ä 7,o.getD i Í=Ô:=by
  cases k
  .exact po s r (ä 7) [] fP λi a=>by cases a
  .exact λi a=>po s r [0,5,1,2,3,4,6] [] fP (λi a=>by cases a) i (by have:=ù.1 a;revert i;decide)
  .exact po s r (ä 7) [] fP λi a=>by cases a
 let⟨a,N⟩:=H;obtain rfl:N=[]:=l.M;have P:a[6]?=Â (Æ O b n):=l.r 5 Io 6 U (v 5 A) U;have S:a[7]?=Â (Æ h j6 j7):=l.r 6 Ip 7 U (v 6 A) U;have X:=l.N.trans e.r;have z:=K;have T:=z.N c;have V:a.getD 6 Å=Æ O b n:=by simp[ė,P]
 have W:a.getD 7 Å=Æ h j6 j7:=by simp[ė,S]
 apply fW (n:=9) T.r;iterate 2 w_go fA
 u_in fA hF
 refine goes_leave2 U U Tryz.func37 U ⟨by u_nil,?_⟩;rw[V,W];refine Ë λ_ _=>F I z
end
structure SD where
 L:Nat
 f:Nat
 n:Nat
 m:Nat
 q:Nat
 N:Nat
 I:Nat
 C:Nat->Nat
 an:Nat
 S:Nat
 p:Nat
 t:Option ã
 s:Nat
 k:Option ã
 j:Nat
 l:Nat->Option ã
 Y:Nat->Nat
 h:Nat->Option ã
 b:Nat->Nat
 a:Nat->Nat
 e:List ê
 c:Nat->Prop
 RC:ß->Prop
 o:ß->Prop
 γ:Type
 v:γ
 u:Nat->Prop
 g:Nat->γ->γ->Prop
 RD:γ->Ð->(Nat->Prop)->ß->Prop
 d:Nat->ByteArray
 i:Nat->ByteArray
def SD.M(D:SD):Fx:=⟨D.L,D.m,D.I,D.C⟩
def SD.ajD(D:SD)(i:Nat):Ð:=Ě #[À<|D.h i,É Î<|D.b i,À<|Â ⟨D.C<|D.a i,0,Á⟩,À Á]
structure lE(D:SD)(S:Nat->Prop)(l:fe):Prop where
 C:∀b,D.M.M b->l.K ⟨b,0,Á⟩/\l.K ⟨b,1,Á⟩
 M:∀b,D.M.M b->mQ b l.w
 c:S D.S
 d:l.w.cell? ⟨D.S,0,Á⟩=Â (Æ (Â ⟨D.an,0,Á⟩) D.N D.N)
 f:S D.p
 g:l.w.cell? ⟨D.p,0,Á⟩=Â (Æ D.t D.m D.s)
 h:∀k,k<D.m->∃b,D.t=Â ⟨b,0,Á⟩/\S b/\l.w.cell? ⟨b,k*4,Á⟩=Â (À<|D.l<|k+1)/\l.w.cell? ⟨b,k*4+1,Á⟩=Â (É Î<|D.Y<|k+1)/\l.w.cell? ⟨b,k*4+2,Á⟩=Â (À<|Â ⟨D.C k,0,Á⟩)/\l.w.cell? ⟨b,k*4+3,Á⟩=Â (À<|Â ⟨D.C<|k+1,0,Á⟩)
 j:∀i,i<D.q->∃b,D.k=Â ⟨b,0,Á⟩/\S b/\l.w.cell? ⟨b,i*4,Á⟩=Â (À<|D.h i)/\l.w.cell? ⟨b,i*4+1,Á⟩=Â (É Î<|D.b i)/\l.w.cell? ⟨b,i*4+2,Á⟩=Â (À<|Â ⟨D.C<|D.a i,0,Á⟩)/\l.w.cell? ⟨b,i*4+3,Á⟩=Â (À Á)
 r:∀a,l.r a->(l.w.cell? a).isSome=Ô/\l.w.frozen? a=Í
 Y:∀b,D.c b->S b
 e:D.RC l.w
structure SD.Ok(D:SD):Prop where
 C:∀w w',D.RC w->(∀b,D.c b->w'.heap[b]?=w.heap[b]?)->D.RC w'
 ioS:∀w w',D.o w->(w'.os=w.os/\w'.output=w.output)->D.o w'
 r:∀s sl V w w',D.RD s sl V w->(∀b,V b->w'.heap[b]?=w.heap[b]?)->D.RD s sl V w'
 I:1<=D.n
 L1:1<=D.L
 fX:D.n+D.q+D.m<1000
 N1:D.N<1000
 S:∀i,D.a i<=D.m
 a:∀i,i<D.q->D.b i<D.N
 Y:∀k,1<=k->k<=D.m->D.Y k<D.N
 ajE:∀k,k<=D.m->D.C k≠D.I
 ajF:∀k k',k<=D.m->k'<=D.m->D.C k=D.C k'->k=k'
 M:¬D.M.M D.an
 pq:∀i i',i<D.q->i'<D.q->D.b i=D.b i'->i=i'
 pi:∀k k',1<=k->k<=D.m->1<=k'->k'<=D.m->D.Y k=D.Y k'->k=k'
 Qc:∀i k,i<D.q->1<=k->k<=D.m->D.b i≠D.Y k
 gp:∀b,D.M.M b\/b=D.an->D.f<=b
section
variable{D:SD}{S:Nat->Prop}{l f:fe}
def lE.I(h:lE D S l)(ok:D.Ok)(e:∀b,S b->X b)(c:∀b,S b->f.w.heap[b]?=l.w.heap[b]?)(q:f.K=l.K)(p:∀a,l.K a->(l.w.cell? a).isSome=Ô->(f.w.cell? a).isSome=Ô)(r:∀a,f.r a->(f.w.cell? a).isSome=Ô/\f.w.frozen? a=Í):lE D X f where
 C b hg:=by rw[q];exact h.C b hg
 M b hg:=⟨p _ (h.C b hg).1 (h.M b hg).1,p _ (h.C b hg).2 (h.M b hg).2⟩;c:=e _ h.c;d:=(gK<|c _ h.c).trans h.d;f:=e _ h.f;g:=(gK<|c _ h.f).trans h.g;h k hk:=by let⟨b,g,d,j,m,n,o⟩:=h.h k hk;exact⟨b,g,e b d,(gK<|c b d).trans j,(gK<|c b d).trans m,(gK<|c b d).trans n,(gK<|c b d).trans o⟩
 j i hi:=by let⟨b,g,d,j,m,n,o⟩:=h.j i hi;exact⟨b,g,e b d,(gK<|c b d).trans j,(gK<|c b d).trans m,(gK<|c b d).trans n,(gK<|c b d).trans o⟩
 r:=r;Y b d:=e b<|h.Y b d;e:=ok.C _ _ h.e λb d=>c b<|h.Y b d
def lE.G(h:lE D S l)(ok:D.Ok)(c:∀b,S b->l.M b)(r:fH l l.w u):lE D S {l with w:=u}:= h.I ok (λ_ q=>q) (λb q=>r.I b<|c b q) U r.S λa q=>by have:=h.r a q;exact⟨by show(u.cell? a).isSome=Ô;rw[r.N a<|Ã q];exact this.1,(r.Y a<|Ã q).trans this.2⟩
def lE.Sk{E:ã->Prop}(h:lE D S l)(ok:D.Ok)(g:∀b,S b->l.M b)(c:iC E l f):lE D S f:= h.I ok (λ_ q=>q) (λb q=>c.r b<|g b q) c.K c.b λa q=>by
  rw[c.I]at q;let⟨d,i⟩:=h.r a q;refine⟨?_,(c.S a<|Ã q).trans i⟩;by_cases e:E a
  .exact c.g a e d
  .rwa[c.e a (Ã q) e]
def lE.ajG(h:lE D S l)(ok:D.Ok)(d:∀b,S b->l.M b/\¬X b)(c:gh X l f):lE D S f:= h.I ok (λ_ q=>q) (λb q=>c.r b (d b q).1 (d b q).2) c.K c.e λa q=>by rw[c.Y]at q;let⟨e,g⟩:=h.r a q;exact⟨by rwa[c.f a<|Ã q],(c.g a<|Ã q).trans g⟩
def lE.N(h:lE D S l)(a:∀b,S b->X b):lE D X l:=⟨h.C,h.M,a _ h.c,h.d,a _ h.f,h.g,λk c=>let⟨b,d,e,f⟩:=h.h k c;⟨b,d,a b e,f⟩,λk c=>let⟨b,d,e,f⟩:=h.j k c;⟨b,d,a b e,f⟩,h.r,λb q=>a b<|h.Y b q,h.e⟩
end
section
variable(D:SD)
def jG(a:Nat->Nat)(j:Nat):List Ð:=(ä j).map λi=>é<|Â<|a i
def Db(k:Nat):Jd:=λl g=>l.d=0/\¬l.q/\lE D l.M l/\∃t a b c e f h i j n o,Cz D.an D.N D.t D.m D.s k t/\l.M a/\l.w.cell? ⟨a,0,Á⟩=Â (À<|Â ⟨D.I,0,Á⟩)/\g=zk t [vG h i j n o,zo a b c e f,nW Ä]
def ZG(c i:Nat):Jd:=λl g=>l.d=0/\¬l.q/\lE D l.M l/\∃t a b e f h j k m n o p,QT D.an D.N c t/\t[4]?=Â (À<|Â ⟨a,0,Á⟩)/\l.O a/\l.w.cell? ⟨a,0,Á⟩=Â (À<|D.h i)/\l.w.cell? ⟨a,1,Á⟩=Â (É Î<|D.b i)/\l.w.cell? ⟨a,2,Á⟩=Â (À<|Â ⟨D.C<|D.a i,0,Á⟩)/\l.M b/\l.w.cell? ⟨b,0,Á⟩=Â (À<|Â ⟨D.I,0,Á⟩)/\g=LP t [Ic k m n o p,zo b e f h j,nW Ä]
def ajH:Jd:=λl g=>lE D l.M l/\∃t a b c,Is D.S D.I (D.C D.m) D.n (Æ D.k D.q D.j) t/\gZ l a (Ê #[À<|Â ⟨D.I,0,Á⟩] 162)/\gZ l b (Ê #[ď (þ 48) #[] #[À<|Â ⟨D.p,0,Á⟩,À<|Â ⟨D.S,0,Á⟩]] 1)/\g=CM (À<|Â ⟨D.I,0,Á⟩) c (À<|Â ⟨D.I,0,Á⟩) (ñ #[]) a b (Fu t::D.e)
def ajI(j:Nat)(a:Nat->Nat):Jd:=λl g=>lE D l.I l/\∃t e c b d f,ST D.S D.I (D.C D.m) D.n (j-1) (Æ D.k D.q D.j) e t/\Ze D.S D.I D.q e (jG a j) (a<|j-1) c b d l/\a (j-1)<c/\c<b/\b<d/\(∀k,e.ownBlock=Â k->k≠a (j-1)/\k≠c/\k≠b/\k≠d)/\D.f<=a (j-1)/\g=CM (À<|Â ⟨D.I,0,Á⟩) f (À<|Â ⟨D.I,0,Á⟩) (ñ #[]) b d (L3 t::D.e)
def Ms(j:Nat)(a:Nat->Nat):Jd:=λl g=>l.d=0/\¬l.q/\D.f<=l.w.heap.size/\((j=0/\ajH D l g)\/(1<=j/\ajI D j a l g))
def ZH:Jd:=λl g=>l.d=0/\¬l.q/\lE D l.I l/\∃a,SE D.S D.I (D.C D.m) a/\g=Fz a D.e
def SD.r(P:Ġ):Ph where
 toFx:=D.M
 P:=P
 S:=D.f
 n:=D.n
 q:=D.q
 Y:=D.an
 f:=D.N
 r:=D.a
 a:=D.b
 b:=D.Y
 c:=D.ajD
 z:=zT
 B:=60
 γ:=D.γ
 l:=D.v
 i:=D.u
 p:=D.g
 d:=λk s V w=>(∃a,w.cell? ⟨D.C k,2,Á⟩=Â a/\D.RD s a V w)/\(k=0->w.cell? ⟨D.an,D.N,Á⟩=Á/\kP w D.an=Â (0,0)/\D.o w)
 o:=D.d
 k:=D.i
 g:=Ms D
 h:=Db D
 e:=ZG D
 j:=λ_=>ZH D
end
def FA(D:SD):Prop:=∀k s e V l,k<D.m->nt (D.r Ä) k s->D.RD s e V l.w->(∀b,V b->l.M b)->gw l->¬l.q->(∀b,D.c b->l.M b)->D.RC l.w->∀f g,fi Ä Í (λa j=>a.d=l.d/\∃p n c,j=G (f.finish<|ñ #[Æ p n c,á<|D.d<|k+1]) g/\∃h i,D.g k s h/\D.RD h (Æ p n c) i a.w/\∀b,i b->a.M b) (lZ l)<|G (Ĉ Ä 66 #[e,À<|D.l<|k+1] ĥ)<|f::g
def FB(D:SD):Prop:=∀i s a V l,i<D.q->nt (D.r Ä) (D.a i) s->D.RD s a V l.w->(∀b,V b->l.M b)->gw l->¬l.q->(∀b,D.c b->l.M b)->D.RC l.w->∀b c,fi Ä Í (λe f=>e.d=l.d/\f=G (b.finish<|á<|D.i i) c) (lZ l)<|G (Ĉ Ä 67 #[a,À<|D.h i] ĥ)<|b::c
section
variable{D:SD}
def IQ(k:Nat)(a:k<=D.m):D.M.M (D.C k):=Ç ⟨k,a,U⟩
def zu:D.M.M D.I:=Ã U
def ajJ(ok:D.Ok):(D.r Ä).Ok:=⟨ok.I,ok.L1,ok.fX,λi _=>ok.S i,ok.ajE,ok.ajF,ok.M,ok.pq,ok.pi,ok.Qc,ok.gp,⟨λk a b e=>by have c:D.Y k=D.N:=e;have:=ok.Y k a b;omega,λi d e=>by have c:D.b i=D.N:=e;have:=ok.a i d;omega⟩⟩
def ajK(ok:D.Ok)(tX:FA D):∀k s V l g,k<D.m->Db D k l g->gw l->nt (D.r Ä) k s->(D.r Ä).d k s V l.w->(∀b,V b->l.I b)->l.N (jf D.M k)->l.r (jf D.M<|k+1)->l.r (jm (D.r Ä)<|D.Y<|k+1)->∀C:Nat->D.γ,C k=s->fi Ä Í (JI (D.r Ä) C<|.mk (k+1)) l g:=by
 intro k s V l g u hJ Fy Sl A5 hV uk E F C hsg;obtain⟨hd,G,i,t,H,v1,v2,v3,v4,u0,u1,u2,u3,u4,hT,CV,cbw,rfl⟩:=hJ;let⟨⟨sl,hsl,qU⟩,_⟩:=A5;let⟨b,zm,hbM,i0,i1,i2,i3⟩:=i.h k u;have EK:=ok.fX;have lk:(⟨D.C<|k+1,2,Á⟩:ã)≠⟨D.an,D.Y<|k+1,Á⟩:=λe=>ok.M (by injection e with I _ _;rw[<-I];exact IQ (k+1) u);have AS:Cz D.an D.N (Â ⟨b,0,Á⟩) D.m D.s k t:=by rwa[<-zm]
 have⟨oc1,oz1⟩:=i.r _ E;have⟨oc2,oz2⟩:=i.r _ F;have rL:∀a:ã,(a=⟨D.C<|k+1,2,Á⟩\/a=⟨D.an,D.Y<|k+1,Á⟩)->l.r a:=λa z=>by rcases z with rfl|rfl;exact E;exact F
 have B:=i.C _<|IQ (k+1) u;have ZI:=i.M _<|IQ (k+1) u;refine fi.fN (Stop:=λl g=>(∃o r,D.g k s o/\(D.r Ä).d (k+1) o r l.w/\(∀b,r b->l.M b)/\l.w.cell? ⟨D.an,D.Y<|k+1,Á⟩=Â (á<|D.d<|k+1))/\yH Ä Í (D.C<|k+1) (fi Ä Í<|Db D<|k+1) (pU (D.r Ä) l<|k+1) g) (λl g h=> ?_) ?_
 .let⟨⟨o,r,J,L,O,P⟩,S⟩:=h;exact⟨o,r,by subst hsg;exact J,L,O,P,S⟩
 refine ain (Q:=λv c y=>c=D.d (k+1)/\∃o r,D.g k s o/\D.RD o v r y.w/\∀b,r b->y.M b) (τ:=λl=>pU (D.r Ä) l<|k+1) Fy G hd AS u Z (by have:=ok.N1;omega) (ok.Y (k+1) Z u) hbM i0 i1 i2 i3 uk hsl E F oc1 oc2 oz1 oz2 lk (λf v c n=> ?_) λf x v hQ Rp LO=> ?_
 .refine(tX k s sl V f u Sl (ok.r _ _ _ _ _ qU λb x=>v.r b<|Ç<|hV b x) (λb x=>v.M<|Ç<|hV b x) (v.G Fy) (by rwa[v.q]) (λb x=>v.M<|i.Y b x) (ok.C _ _ i.e λb x=>v.r b<|i.Y b x) c n).fN ?_;rintro W X ⟨j,p,n,c,rfl,T⟩;exact⟨j,p,n,c,_,U,U,T⟩
 .let⟨y,⟨hstr,o,r,hnx,ajL,ZJ⟩,hy⟩:=hQ;rw[hstr]at LO;have ZK:mQ (D.C<|k+1) f.w:=⟨v.b _ B.1 ZI.1,v.b _ B.2 ZI.2⟩;refine⟨⟨Ã (by rw[v.K];exact B.1),Ã (by rw[v.K];exact B.2),λ_ _ _ _ _ _ _ _=>trivial⟩,⟨v.fx,ZK,trivial⟩,⟨o,r,hnx,⟨⟨_,Rp,ok.r _ _ _ _ _ ajL λb x=>(hy b<|ZJ b x).2⟩,λe=>by omega⟩,λb x=>(hy b<|ZJ b x).1,LO⟩,v.d.trans hd,λw=>fH (pU (D.r Ä) f<|k+1) f.w w,⟨Ã (by show f.K _;rw[v.K];exact B.1),Ã (by show f.K _;rw[v.K];exact B.2),λw w₁ J L O P S h=>h.fg ⟨J,L,O,P,S⟩⟩,⟨λj h=>h.elim,ZK,fH.fT _ _⟩,λpb t' ajM XS=> ?_⟩;refine .fB λp c=> ?_;have n:=ajM.2.2.fg ⟨c.r,c.I,c.N,c.Y,c.S⟩;have x:=λb x=>(n.I b<|Ç<|v.M x).trans<|v.r b x;have ZL:∀b,l.M b->({pU (D.r Ä) f (k+1)with d:=0,w:=p}:fe).M b:=λb x=>Ç<|v.M x;refine⟨U,by show¬f.q;rwa[v.q],i.I ok ZL x (by show f.K=l.K;exact v.K) (λa z h=>n.S a (by show f.K a;rwa[v.K])<|v.b a z h) λa z=> ?_,t',H,v1,v2,v3,v4,u0,u1,u2,u3,u4,by rwa[zm],ZL H CV,(gK<|x H CV).trans cbw,U⟩;obtain⟨T,W,X⟩:f.r a/\a≠⟨D.an,D.Y<|k+1,Á⟩/\a≠⟨D.C<|k+1,2,Á⟩:=z;have Y:l.r a:=by rwa[<-v.I]
  let⟨I,e2⟩:=i.r a Y;refine⟨?_,?_⟩
  .show(p.cell? a).isSome=Ô;rwa[n.N a<|Ã ⟨T,W,X⟩,v.e a (Ã Y) λq=>q.elim X W]
  .show p.frozen? a=Í;rwa[n.Y a<|Ã ⟨T,W,X⟩,v.S a<|Ã Y]
def ajN:∀l g,Db D D.m l g->gw l->fi Ä Í (AO<|D.r Ä) l g:=by intro l g c d;obtain⟨e,f,b,t,k,n,o,p,q,r,s,u,v,w,h,i,j,rfl⟩:=c;have a:=b.C _<|zu;exact aiv (Ψ:=λ_=>True) h a ⟨Ã a.1,Ã a.2,λ_ _ _ _ _ _ _ _=>trivial⟩ ⟨d.r,b.M _ zu,trivial⟩ e f (Ã i) j
def ZM(ok:D.Ok){r:Nat}{l:fe}{t:Array Ð}{g h m o p:Ð}(B:gw l)(s:¬l.q)(C:l.d=0)(a:lE D l.M l)(E:QT D.an D.N i t)(f:l.M k)(u:l.w.cell? ⟨k,0,Á⟩=Â (À<|Â ⟨D.I,0,Á⟩)): ED (D.r Ä) i j r l (zq t [Ic g h m o p,zo k v x z jQ,nW Ä]):=by have y:=ok.S<|j+r*D.n;refine aiA B s C E (Û _) U (a.C _<|IQ _ y) (a.M _<|IQ _ y) (a.C _ zu) (a.M _ zu) (Ã f) u λQ F G e H I J K L O P=>(⟨H,by rwa[e.q],(a.Sk ok (λ_ q=>q) e).N λb q=>e.M q,G,F,k,v,x,z,jQ,g,h,m,o,p,O,P,I,J,K,L,e.M f,(gK<|e.r k f).trans u,U⟩)
def ajO(ok:D.Ok)(W:FB D):∀c j r s V l g,j+r*D.n<D.q->ZG D c (j+r*D.n) l g->∀f:fe,gw f->f.O=l.O->(∀b,l.I b\/V b->f.I b)->f.w=l.w->f.d=l.d->f.q=l.q->f.r=l.r->f.K=l.K->nt (D.r Ä) (D.a<|j+r*D.n) s->(D.r Ä).d (D.a<|j+r*D.n) s V l.w->f.N (jf D.M<|D.a<|j+r*D.n)->f.r (jm (D.r Ä)<|D.b<|j+r*D.n)->fi Ä Í (JW (D.r Ä) c j<|.nj r) f g:=by
 intro c j r s V l g E X f v F y o Y hq' Le hK Sl A5 uk p;obtain⟨hd,hq,G,t,tb,u,v1,v2,v3,v4,u0,u1,u2,u3,u4,hT,h4,hOt,H,I,J,L,N,rfl⟩:=X;let⟨⟨sl,P,S⟩,_⟩:=A5;have B:∀b,l.M b->f.M b:=λb q=>q.elim (λz=>Ã<|by rwa[F]) λz=>Ç<|y b<|Ã z;have m:=G.I ok B (λb _=>by rw[o]) hK (λa _ h=>by rwa[o]) λa q=>by rw[o];exact G.r a<|by rwa[<-Le]
 have C:¬f.q:=by rwa[hq']
 rw[<-o]at H I J N P S;let⟨e2,z2⟩:=m.r _ p;refine aiD (Q:=λx=>x=D.i (j+r*D.n)) v C hT h4 (by rwa[F]) H I J uk P p e2 z2 (ok.a _ E) (λi e k T=> ?_) λi x t' e hx hcx AS=> ?_
 .refine(W _ s sl V i E Sl (ok.r _ _ _ _ _ S λb x=>e.r b<|Ç<|y b<|Ç x) (λb x=>e.M<|Ç<|y b<|Ç x) (e.G v) (by rwa[e.q]) (λb x=>e.M<|m.Y b x) (ok.C _ _ m.e λb x=>e.r b<|m.Y b x) k T).fN ?_;rintro T g' ⟨x,k⟩;exact⟨x,_,k,U⟩
 .have T:=(m.Sk ok (λ_ q=>q) e).N λb q=>e.M q;refine⟨hcx.trans (by rw[hx];rfl),?_⟩;have k:=e.G v;have H6:gw (vu (D.r Ä) i<|j+r*D.n):=by
   refine⟨k.c,λa x=> ?_,λa x=> ?_,k.fx,λa x=> ?_,λa x=> ?_⟩
   .rintro(q|q)
    .exact k.Y a x.1 q
    .exact x.2 q
   .refine k.N a ?_;rcases x with q|q|q
    .exact Ã q.1
    .exact Ç q
    .rw[q];exact Ã<|by rwa[e.I]
   .refine k.I a ?_;rcases x with q|q|q
    .exact Ã q.1
    .exact Ç q
    .rw[q];exact Ã<|by rwa[e.I]
   .let⟨k1,k2,k3⟩:=k.S a x;exact⟨k1,k2,λq=>k3 q.1⟩
  refine ZM ok H6 (by show¬i.q;rwa[e.q]) (by show i.d=0;rwa[e.d,Y]) (T.I ok (λ_ q=>q) (λ_ _=>rfl) U (λ_ _ h=>h) λa q=>T.r a q.1) AS (by show i.M u;exact e.M<|B u L)<|(gK<|e.r u<|B u L).trans N
end
section
variable{D:SD}{dk:Nat->Nat}{dv:Ð}{l f:fe}
structure MF(D:SD)(dk:Nat->Nat)(dv:Ð)(l:fe):Prop where
 C:gw l
 q:¬l.q
 d:l.d=0
 r:lE D l.I l
 I:∃db c,dv=Æ (Â ⟨db,0,Á⟩) D.n c/\l.O db/\∀i,i<D.n->l.w.cell? ⟨db,i,Á⟩=Â (é<|Â<|dk i)
def MF.M(h:MF D dk dv l)(ok:D.Ok)(a:iC (λ_=>False) l f):MF D dk dv f where
 C:=a.G h.C;q:=by rw[a.q];exact h.q
 d:=a.d.trans h.d;r:=(h.r.Sk ok (λ_ q=>Ç q) a).N λb q=>by rwa[a.Y]
 I:=by let⟨e,c,j,g,k⟩:=h.I;exact⟨e,c,j,a.O e g,λi m=>(gK<|a.r e<|Ã g).trans<|k i m⟩
def ajP(ok:D.Ok):∀r,r<=D.n->∀l t b,MF D dk dv l->ET dv D.n (D.n-r) t->SE D.S D.I (D.C D.m) b->fi Ä Ô (AP (D.r Ä) dk r) l (Da t<|IP b::D.e):=by
 intro r
 induction r with
 |zero=>
  intro _ l t b a e g;rw[Ÿ]at e;refine ajA a.C a.d (Û _) e g (a.r.C _ zu) (a.r.M _ zu) λf i h j=> ?_;have c:=a.M ok h;exact⟨c.d,c.q,c.r,i,j,U⟩
 |succ r j=>
  intro s l t b a e g;obtain⟨u,c,rfl,k,o⟩:=a.I;have v:=ok.fX;refine ajz a.C a.q e Z Z k (o (D.n-(r+1)) Z) λf p h i=> ?_;refine j Z f p b (a.M ok h) ?_ g;rwa[show D.n-(r+1)+1=D.n-r by omega]at i
def ajQ(ok:D.Ok):∀r,r<=D.q->∀l t d,MF D dk dv l->DT dv D.k D.q D.j (D.q-r) t->SE D.S D.I (D.C D.m) d->fi Ä Ô (Hm (D.r Ä) dk r) l (C9 t<|IP d::D.e):=by
 intro r
 induction r with
 |zero=>
  intro _ l t d a e h;rw[Ÿ]at e;obtain⟨j,c,rfl,k,o⟩:=a.I;refine ajy a.C.r e λi g=>ajP ok D.n (Û _) l i d a ?_ h;rwa[Ź]
 |succ r s=>
  intro C l t d a e h;obtain⟨j,c,rfl,k,o⟩:=a.I;have E:=ok.fX;have F:=ok.I;let⟨b,p,u,v,w,x,y⟩:=a.r.j (D.q-(r+1)) Z;have z:DT (Æ (Â ⟨j,0,Á⟩) D.n c) (Â ⟨b,0,Á⟩) D.q D.j (D.q-(r+1)) t:=by rwa[<-p]
  refine ajv a.C a.q z Z Z Z Z k (o _<|Ł _ Z) (Ç u) v w x y λf i B g=> ?_;refine s Z f i d (a.M ok B) ?_ h;rwa[show D.q-(r+1)+1=D.q-r by omega,<-p]at g
def ajR(dk:Nat->Nat)(j a:Nat):jG (fw dk j a) (j+1)=jG dk j++[é<|Â a]:=by
 unfold jG;rw[ą,List.map_append];congr 1
 .refine List.map_congr_left λi b=> ?_;rw[fI];have:=ù.1 b;omega
 .simp[gB]
def ajS(dk:Nat->Nat)(j:Nat):(jG dk j).length=j:=by simp[jG]
def ajT(dk:Nat->Nat)(j i:Nat)(h:i<j):(jG dk j)[i]?=Â (é<|Â<|dk i):=by simp[jG,h]
def ZN(ok:D.Ok){t:Array Ð}(N:j<=D.n)(a:gw l)(o:¬l.q)(p:l.d=0)(h:lE D l.I l)(v:D.f<=l.w.heap.size)(x:ST D.S D.I (D.C D.m) D.n j (Æ D.k D.q D.j) dv t)(r:l.w.ownsRow 0 101 1 dv j (jG dk j))(s:∀k,dv.ownBlock=Â k->l.O k): fi Ä Ô (JM (D.r Ä) dk<|if j<D.n then .iD (j+1)else .iI D.q) l (CL t D.e):=by
 have P:=ok.fX;by_cases u:j<D.n
 .rw[if_pos u];show fi Ä Ô (Qb (D.r Ä) (j+1) dk) l _;rw[ahY];refine aiI a o p x u Z Z (h.C _ zu) (h.M _ zu) r s λf i y z B C E F c G H I J K L M=> ?_;refine⟨y,c.d.trans p,by rwa[c.q],Ø v c.I,Ç ⟨Z,(h.ajG ok (λb g=>⟨Ç g,λe=>a.c b (s b e.symm) g⟩) c).N λb q=>(by rwa[c.S]),i,E,z,B,C,F,?_,?_,?_,K,L,?_,?_,U⟩⟩
  .rwa[ú]
  .rwa[ú,ajR,gB]
  .rwa[ú,gB]
  .rwa[ú,gB]
  .rw[ú,gB];exact Ø v I
 .have e:j=D.n:=Z
  subst e;rw[if_neg u];have y:∃b c,dv=Æ (Â ⟨b,0,Á⟩) D.n c/\l.O b/\∀i,i<D.n->l.w.cell? ⟨b,i,Á⟩=Â (é<|Â<|dk i):=by
   rcases r.2 with⟨_,C⟩|⟨g,z,E,rfl,_⟩
   .have:=ok.I;omega
   .refine⟨g,z,U,s g U,λi B=> ?_⟩;have:=r.cells U i _<|ajT dk D.n i B;rw[Ĩ]at this;simpa using this
  refine ajx a.r x λg z B C=>(ajQ ok D.q (Û _) l g z ⟨a,o,p,h,y⟩ (by rwa[Ź]) C)
def ajU(ok:D.Ok)(h:Db D k l g)(r:fH l l.w u):Db D k {l with w:=u} g:=by obtain⟨c,d,e,t,a,f,i,j,m,n,o,p,s,v,x,b,y,rfl⟩:=h;exact⟨c,d,e.G ok (λ_ q=>q) r,t,a,f,i,j,m,n,o,p,s,v,x,b,(gK<|r.I a b).trans y,U⟩
def gZ.M{o:Η}(h:gZ l b o)(r:fH l l.w u):gZ {l with w:=u} b o:=⟨h.fq,(r.I b<|Ã h.fq).trans h.I⟩
def Hn(ok:D.Ok)(h:Ms D j dk l g)(r:fH l l.w u):Ms D j dk {l with w:=u} g:=by
 let⟨m,n,o,h⟩:=h;refine⟨m,n,Ø o r.r,?_⟩;rcases h with⟨p,b,t,c,d,f,i,s,v,rfl⟩|⟨x,b,t,dv,y,c,d,f,i,a,z,B,C,E,F,rfl⟩
 .exact Ã ⟨p,b.G ok (λ_ q=>q) r,t,c,d,f,i,s.M r,v.M r,U⟩
 .exact Ç ⟨x,b.G ok (λ_ q=>Ç q) r,t,dv,y,c,d,f,i,⟨nX a.S λk e=>r.I k<|Ã<|a.M k e,a.M,a.r.M r,a.C.M r,a.N.M r,a.I.M r⟩,z,B,C,E,F,U⟩
def ajV(ok:D.Ok):∀j dk l g,j<=D.n->Ms D j dk l g->gw l->l.d=0/\∃(G H:Ý) (X:Nat->Prop),G.status=ē/\H.status=ē/\(∀u,stepG Ä Ô g u=.spawn G H u #[])/\(∀b,X b->l.O b)/\ (1<=j->l.O (dk<|j-1)/\¬X (dk<|j-1)/\l.w.heap[dk<|j-1]?=Â (ũ D.q #[] Í 0 0 Í)/\D.f<=dk (j-1))/\ (∀f:fe,gw f->(∀b,X b\/l.I b->f.I b)->f.w=l.w->f.d=0->¬f.q->(∀b,¬f.O b)->f.K=l.K->f.N=l.N->(∀a,f.r a->l.r a)->fi Ä Í (if j=0 then Db D 0 else ED (D.r Ä) (dk<|j-1) (j-1) 0) f H)/\ (∀f:fe,gw f->f.O=(λb=>l.O b/\¬X b/\(1<=j->b≠dk (j-1)))->(∀b,X b\/l.I b->f.I b)->f.w=l.w->f.d=0->f.q=l.q->f.K=l.K->f.N=l.N->(∀a,f.r a->l.r a)->fi Ä Ô (JM (D.r Ä) dk<|if j<D.n then .iD (j+1)else .iI D.q) f G):=by
 intro j dk l g L h Fy;let⟨hd,N,P,h⟩:=h;refine⟨hd,?_⟩;rcases h with⟨rfl,o,t,x,C,v1,I,Q,S,rfl⟩|⟨h1,o,t,dv,T,x,C,v1,I,c,x1,x2,x3,x4,x5,rfl⟩
 .refine⟨_,_,l.O,U,U,λu=>Zc _ _ _ _ _ _ _ u,λ_ q=>q,λq=>by omega,λf i m X y p E z J B=> ?_,λf i E m X y p z J B=> ?_⟩
  .rw[if_pos U];have e:=λb q=>m b q;have s:lE D f.M f:=o.I ok (λb q=>Ç<|e b q) (λb _=>by rw[X]) z (λa _ h=>by rwa[X]) λa q=>by rw[X];exact o.r a<|B a q
   refine aiu i.r p (Ã<|Ç<|e C<|Ã S.fq) (Ã s.f) (Ã s.c) (by rw[X];exact S.C U) s.g s.d λF V W Y w4 u0 u1 u2 u3 u4 v=> .fB λu r=>ajU ok ⟨y,p,s,F,x,V,W,Y,w4,u0,u1,u2,u3,u4,v,Ç<|e x<|Ã Q.fq,by rw[X];exact Q.C U,U⟩ r
  .refine aiG i.r I λF v=>(ZN ok L i (by rwa[p]) y (o.I ok (λb q=>m b q) (λb _=>by rw[X]) z (λa _ h=>by rwa[X]) λa q=>by rw[X];exact o.r a<|B a q) (by rwa[X]) v (World.ownsRow_nil _ _ _ _) λk e=>by cases e)
 .refine⟨_,_,λb=>b=T\/b=x\/b=C,U,U,λu=>Zc _ _ _ _ _ _ _ u,λb q=> ?_,λ_=>⟨c.r.fq,?_,c.r.I,x5⟩,λf i m X y p E z J B=> ?_,λf i E m X y p z J B=> ?_⟩
  .rcases q with rfl|rfl|rfl
   .exact c.C.fq
   .exact c.N.fq
   .exact c.I.fq
  .rintro(q|q|q)<;>omega
  .rw[if_neg Z];have s:lE D f.M f:=o.I ok (λb q=>Ç<|m b<|Ç q) (λb _=>by rw[X]) z (λa _ h=>by rwa[X]) λa q=>by rw[X];exact o.r a<|B a q
   have ZO:f.M x:=Ç<|m x<|Ã<|Ç<|Ã U;refine aiz i.r p (Ã<|Ç<|m C<|Ã<|Ç<|Ç U) (Ã<|Ç<|m T<|Ã<|Ã U) (Ã s.c) (by rw[X];exact c.I.C U) (by rw[X];exact c.C.C U) s.d λF V W Y w4 u0 u1 u2 u3 u4 v=> .fB λu r=>(ZM ok (i.jL r.r) p y (s.G ok (λ_ q=>q) r) v ZO<|(gK<|r.I x ZO).trans<|by rw[X];exact c.N.C U)
  .have Y:=ok.fX;refine aiH i.r I Z λF v=> ?_;rw[show j-1+1=j by omega]at v;have r:=c.S;rw[ajS]at r;refine ZN ok L i (by rwa[p]) y (o.I ok (λb q=>m b<|Ç q) (λb _=>by rw[X]) z (λa _ h=>by rwa[X]) λa q=>by rw[X];exact o.r a<|B a q) (by rwa[X]) v (by rwa[X]) λk e=> ?_;rw[E];let⟨a,s,V,W⟩:=x4 k e;refine⟨c.M k e,?_,λ_=>a⟩;rintro(q|q|q)
   .exact s q
   .exact V q
   .exact W q
def ajW(ok:D.Ok)(b:FA D)(d:FB D):gQ (D.r Ä) where
 C:=ajJ ok;S k s V w w' h hV hc hz hf xy:=by let⟨⟨a,f,m⟩,t⟩:=h;exact⟨⟨a,hc.trans f,ok.r _ _ _ _ _ m hV⟩,λe=>⟨hz.trans (t e).1,hf.trans (t e).2.1,ok.ioS _ _ (t e).2.2 xy⟩⟩
 Hn j dk l g w₁ h r:=Hn ok h r;I j dk l g h:=by let⟨_,_,_,h⟩:=h;rcases h with⟨_,_,t,e,f,a,_,_,_,rfl⟩|⟨_,_,t,dv,m,e,f,a,_,_,_,_,_,_,_,rfl⟩<;>rfl
 N k l g h:=by obtain⟨_,_,_,t,e,a,f,m,n,o,p,q,u,v,_,_,_,rfl⟩:=h;rfl
 Y c i l g h:=by obtain⟨_,_,_,t,tb,e,a,f,m,n,o,p,q,u,v,_,_,_,_,_,_,_,_,rfl⟩:=h;rfl
 M dk l g h:=by obtain⟨_,_,_,f,_,rfl⟩:=h;rfl
 go:=ajV ok;f:=ajK ok b;h:=ajN;e:=ajO ok d
end
end Go.Proofs.Y.fv
namespace Go.Proofs.Y.fv
open Go Go.Conc Go.Proofs.Y.Lift
open Go.ConcN (sumTo sumTo_congr)
structure kA(P:Ġ)(Y:Nat->Prop)(jl:ξ->Prop)(H:Nat)(J:Jd)(T:gu)(lv:Nat->Nat)(lot:Nat->fe)(gs:Array Ý)(w:ß)(t:Λ):Prop where
 C:1<=gs.size
 r:gL P 0 Y (λi=>if i=0 then J else oD P (lv i)) (λi=>if i=0 then T else .fB) (λ_=> .no) lot gs w t
 c:∀i,0<i->i<gs.size->lot i=kx (lot i)
 d:¬(lot 0).q
 M:∀p a,touchAt t p=Â a->a.loc.isMemory=Ô->Knows t 0 p\/(jl a.loc/\a.kind=.atomic)
 S:∀p a x,touchAt t p=Â a->a.loc=Ā x->t.g? p=Â 0\/x.block<H
 b:∀a:ã,H<=a.block->NoRelease a t
 N:t.HandedOver
abbrev rQ(P:Ġ):=kA P λ_=>False
structure qV(l l':fe)(w w':ß):Prop where
 r:w.heap.size<=w'.heap.size
 N:∀j,l'.O j->l.O j\/w.heap.size<=j
 c:l'.I=l.I
 S:l'.r=l.r
 b:l'.N=l.N
 k:l'.K=l.K
 jR:∀j,j<w.heap.size->¬l.O j->(∀a:ã,a.block=j->¬l.r a)->w'.heap[j]?=w.heap[j]?
 M:∀a:ã,a.block<w.heap.size->¬l.O a.block->¬l.r a->w'.cell? a=w.cell? a
 Y:∀j,j<w.heap.size->¬l.O j->kP w' j=kP w j
 C:w'.os=w.os
 I:w'.output=w.output
 d:w'.tape=w.tape
def qV.fT(l:fe)(w:ß):qV l l w w:=⟨Û _,λ_ h=>Ã h,U,U,U,U,λ_ _ _ _=>rfl,λ_ _ _ _=>rfl,λ_ _ _=>rfl,U,U,U⟩
def qV.fg{l e i:fe}{w':ß}(h:qV l e w w')(k:qV e i w' u):qV l i w u:=by
 have f:∀j,j<w.heap.size->¬l.O j->¬e.O j:=λj c b q=>(h.N j q).elim b λz=>by omega
 refine⟨Ø h.r k.r,λj q=> ?_,k.c.trans h.c,k.S.trans h.S,k.b.trans h.b,k.k.trans h.k,λj c b d=>((k.jR j (È c h.r) (f j c b)<|by rwa[h.S]).trans<|h.jR j c b d),λa g b d=>((k.M a (È g h.r) (f _ g b)<|by rwa[h.S]).trans<|h.M a g b d),λj c b=>(k.Y j (È c h.r)<|f j c b).trans<|h.Y j c b,k.C.trans h.C,k.I.trans h.I,k.d.trans h.d⟩
 .rcases k.N j q with z|z
  .exact h.N j z
  .exact Ç<|Ø h.r z
def mr.ajX{l a:fe}(h:mr l a w u V):qV l a w u:=⟨h.C,h.S,h.I,h.r,h.M,h.k,h.jR,h.N,λj b c=>h.Y ⟨j,0,Á⟩ b c,h.f,h.g,h.m⟩
def qV.G{l a:fe}(h:qV l a (w.at i) u):qV l a w u:=⟨h.r,h.N,h.c,h.S,h.b,h.k,h.jR,h.M,h.Y,h.C,h.I,h.d⟩
section
variable{Y:Nat->Prop}{jl:ξ->Prop}{H:Nat}{J:Jd}{T:gu}{lv:Nat->Nat}{lot:Nat->fe}{gs:Array Ý}{t:Λ}{sl:Option (Nat×Nat)}
def kA.I(c:kA P Y jl H J T lv lot gs w t)(d:Nat):kA P Y jl H J T lv lot gs (w.at d) t:=⟨c.C,c.r.at d,c.c,c.d,c.M,c.S,c.b,c.N⟩
def ajY{l:fe}{e:Ν}(h:yz l e)(a:ã):ó e≠.mark (.release a):=by
 let⟨c,d,g⟩:=e;rcases h with⟨x,b,_⟩|h|⟨f,h⟩|h|h|⟨x,_,h⟩
 .simp only at b;subst b;simp[ó]
 .simp only at h;subst h;simp[ó]
 .simp only at h;subst h;simp[ó]
 .simp only at h;subst h;simp[ó]
 .simp only at h;subst h;simp[ó]
 .simp only at h;rcases h with rfl|rfl|rfl|rfl<;>simp[ó]
def ajZ{e:Ν}(h:e.mute=Ô)(a:ã):ó e≠.mark (.release a):=by let⟨b,c,d⟩:=e;cases b<;>simp_all[Event.mute];rename_i m;cases m<;>simp_all[ó]
def kA.aj0{k:ß->gu}(c:kA P Y jl H J (.jv k) lv lot gs w t)(o:∀l g,J l g->g.status=ē\/g.status=ų)(r:gs[0]?=Â g): ∃e b d u,runT P (Ķ gs w sl) 0=(.next<|Ķ b d sl,u)/\b.size=gs.size/\qV (lot 0) (e 0) w d/\kA P Y jl H J (k w) lv e b d (t++u):=by
 obtain⟨b,d,G,s,v,j,I,K,m,y⟩:=c.r.fq r U λl g h=>o l g h;refine⟨gq lot 0 s,b,d,_,v,j,by rw[gT];exact m.ajX,by rw[j];exact c.C,?_,λi z B=> ?_,?_,λp a f C=> ?_,λp a x f D=> ?_,λa f=>(c.b a f).app λu n=> ?_,Ŭ c.N λu n=>Ã<|oa u n⟩
 .have e:fw (λi=>if i=0 then(.jv k:gu)else .fB) 0 (k w)=λi=>if i=0 then k w else .fB:=by
   funext i;unfold fw;by_cases h:i=0<;>simp[h]
  rwa[<-e]
 .rw[gF lot _ Z];exact c.c i z<|by rwa[<-j]
 .rw[gT,m.q];exact c.d
 .rcases mN f with⟨_,e⟩|⟨_,u,e,E,h⟩
  .exact(c.M p a e C).imp (·.app _) id
  .have:=knows_own h;rw[oa u e]at this;exact Ã this
 .rcases mN f with⟨F,e⟩|⟨_,u,e,E,h⟩
  .rw[g?_old F];exact c.S p a x e D
  .apply Ã;unfold Trace.g?;rw[h];simp[oa u e]
 .obtain⟨e,h,rfl⟩:=Ĕ n;exact ajY (m.c e h) a
def kA.ZQ(c:kA P Y jl H J T lv lot gs w t)(y:gs[i]?=Â g)(b:i≠0)(D:g.status=ē): ∃h a f u,runT P (Ķ gs w sl) i=(.next<|Ķ f w sl,u)/\f.size=gs.size/\sumTo gs.size h+1=sumTo gs.size lv/\a 0=lot 0/\kA P Y jl H J T h a f w (t++u):=by
 have z:=(æ.1 y).1;obtain⟨f,B,k,M,E,r,N,C,F⟩:=c.r.PW (n:=lv i) y b D U (by simp[b]) (by simp[b]);have s:∀u∈MemOp.ofEvents i g.frame.fn g.frame.place B,u.act.touch?=Á:=λu l=>by obtain⟨e,v,rfl⟩:=Ĕ l;exact touch_mute<|C e v
 refine⟨fw lv i k,gq lot i {lot i with d:=Đ (lot i).d B,w:=w},f,_,E,r,?_,gF lot _<|Ne.symm b,by rw[r];exact c.C,?_,λj q G=> ?_,?_,λp a m I=> ?_,λp a x m K=> ?_,λa m=>(c.b a m).app λu l=> ?_,Ŭ c.N λu l=>Ç<|s u l⟩
 .have:=w7 (f':=fw lv i k) z λj q=>fI lv k q;rw[gB]at this;omega
 .have o:fw (λi=>if i=0 then J else oD P (lv i)) i (oD P k)=λj=>if j=0 then J else oD P (fw lv i k j):=by
   funext j;unfold fw;by_cases h:j=i
   .subst h;simp[b]
   .simp[h]
  rwa[<-o]
 .by_cases e:j=i
  .subst e;rw[gT];have:=c.c j q z;rw[this];rfl
  .rw[gF lot _ e];exact c.c j q<|by rwa[<-r]
 .rw[gF lot _<|Ne.symm b];exact c.d
 .rcases mN m with⟨_,h⟩|⟨_,u,h,o,_⟩
  .exact(c.M p a h I).imp (·.app _) id
  .rw[s u h]at o;cases o
 .rcases mN m with⟨L,h⟩|⟨_,u,h,o,_⟩
  .rw[g?_old L];exact c.S p a x h K
  .rw[s u h]at o;cases o
 .obtain⟨e,v,rfl⟩:=Ĕ l;exact ajZ (C e v) a
def kA.Lx(c:kA P Y jl H J T lv lot gs w t):∀g∈gs,awake g:=by
 intro g e;obtain⟨i,f,rfl⟩:=Array.mem_iff_getElem.1 e;let⟨g0,_,b,a,_⟩:=c.r.C i _<|ç f;intro τ d;generalize gs[i]=g at b d;cases b with
 |gk=>rcases a with a|a<;>rw[d]at a<;>cases a
def kA.G(K:∀l g,J l g->g.status=ē\/g.status=ų):∀(T:gu) (s:Nat) (lv:Nat->Nat) (lot:Nat->fe) (gs:Array Ý) (w:ß) (sl:Option (Nat×Nat)) (t:Λ),sumTo gs.size lv=s->kA P Y jl H J T lv lot gs w t-> ∃N h b a f e c,Ζ P N (Ķ gs w sl) t=(.next<|Ķ a f e,c)/\a.size=gs.size/\qV (lot 0) (b 0) w f/\kA P Y jl H J .fB h b a f c:=by
 intro T
 induction Xp.apply T with
 |intro T _ L=>
  intro s
  induction s using Nat.strongRecOn with
  |_ s M=>
   intro lv lot gs w sl t V c;cases C:T with
   |fB=>
    subst C;exact⟨0,lv,lot,gs,w,sl,t,U,U,qV.fT _ _,c⟩
   |jv k=>
    subst C;have W:=c.C;obtain⟨g0,D⟩:∃g,gs[0]?=Â g:=⟨_,ç Z⟩;have O:g0.status=ē:=by
     let⟨S,d,i,_,_⟩:=c.r.C 0 g0 D;cases i with
     |gk=>exact afX d
    let⟨i,g,d,e,E,Q,F⟩:=crowd_pick (P:=P) (w:=w) (sl:=sl) c.Lx ⟨0,g0,D,O⟩;by_cases G:i=0
    .subst G;let⟨b,a,f,u,n,j,S,I⟩:=(c.I d).aj0 (sl:=e) K E;let⟨N,o,p,q,r,v,x,y,z,m,B⟩:=L (k<|w.at d) ⟨_,U⟩ _ lv b a f e (t++u) U I;exact⟨N+1,o,p,q,r,v,x,by simp only[Ζ,F,n];exact y,z.trans j,S.G.fg m,B⟩
    .let⟨h,b,a,u,n,j,I,f,S⟩:=(c.I d).ZQ (sl:=e) E G Q;let⟨N,o,p,q,r,v,x,y,z,m,B⟩:=M (sumTo a.size h) (by rw[j];omega) h b a (w.at d) e (t++u) U S;exact⟨N+1,o,p,q,r,v,x,by simp only[Ζ,F,n];exact y,z.trans j,by rw[f]at m;exact m.G,B⟩
end
section
variable{F:Ph}{E:fS F}{S:Nat->Jd}{tr:Nat->gu}{o:Nat->iz}{f:Nat->fe}{gs:Array Ý}
def PI.jr(p:PI F i zX E S tr o f gs w qJ)(c:E.M=.gf):E.r=F.n+1/\∀x,x<F.n+1->∃N,E.N x=Â (.jr N):=by
 refine⟨(by unfold fS.r;rw[c];rfl),λx g=> ?_⟩;have a:=QL (p.C.B<|Ç<|Ç c) x g;have j:x<E.M.ad F.n:=by rwa[c]
 unfold fS.G at a;rw[if_pos j]at a;have l:E.M.gC=0:=by rw[c];rfl
 cases d:E.N x with
 |none=>rw[d]at a;simp[lW]at a
 |some e=>
  rw[d]at a;simp only[lW]at a;cases e with
  |oE=>simp[ij.kI]at a
  |jr N=>exact⟨N,U⟩
  |gf q=>
   let⟨h,k⟩:=p.C.N x q d;cases q with
   |jD=>simp[ij.kI,jF.kI]at a
   |iD=>simp[ij.kI,jF.kI]at a
   |gy W=>
    let⟨_,b⟩:=h W<|Ã U;have r:=p.M.C.r;rw[b]at r;have:=(p.C.g W b).2.1;simp only[GS.ok]at r;omega
   |jb W=>
    let⟨_,b⟩:=h W<|Ç U;have r:=p.M.C.r;rw[b]at r;have:=(p.C.g W b).2.1;simp only[GS.ok]at r;omega
   |iA r=>
    let⟨W,_,s,b⟩:=k r U;have:=(p.C.u r s b).2.1;omega
def xA(l:fe):fe:={l with O:=λ_=>False,I:=λ_=>False,r:=λ_=>False,N:=λ_=>False,K:=λ_=>False,q:=True}
def vo(f:Nat->fe)(l:fe):Nat->fe:=λi=>if i=0 then l else xA (f i)
def Sm(f:Nat->fe)(l:fe):vo f l 0=l:=rfl
def vR(f:Nat->fe)(l:fe)(h:i≠0):vo f l i=xA (f i):=if_neg h
def IT{l:fe}(h:i≠0):¬(vo f l i).M b:=by rw[vR f l h];exact λq=>q.elim id id
def IU{l:fe}(h:i≠0):¬(vo f l i).C a:=by rw[vR f l h];exact λq=>q.elim id id
def iQ.Y{Y I:Nat->Prop}(C:iQ n I Y f w qJ)(u:I 0){l:fe}(v:n<=m)(x:∀b,l.O b->¬l.I b)(y:∀a,l.r a->¬l.N a)(B:∀b,l.M b->¬X b)(D:∀a,l.C a->X a.block)(E:∀b,l.M b->b<w.heap.size)(F:∀b,X b->b<w.heap.size)(G:fH l l.w w)(H:PN qJ 0 l)(J:l.d=(f 0).d)(t:∀a,l.K a->X a.block/\¬l.r a):iQ m I X (vo f l) w qJ:=by
 refine⟨λi j g L s b o=> ?_,λi j g L s a e=> ?_,λi g b o=> ?_,λi g a e=> ?_,λi g b o=> ?_,λi g a e=> ?_,λi g b o=> ?_,F,λi g=> ?_,λi g=> ?_,λi g=> ?_,C.l,C.q,λp a c N r P=>È (C.s p a c N r P) v,λi g a e=> ?_⟩
 .by_cases h:j=0
  .subst h;exact absurd (Ã o)<|IT s
  .exact IT h
 .by_cases h:j=0
  .subst h;exact absurd (Ã e)<|IU s
  .exact IU h
 .by_cases h:i=0
  .subst h;exact x b o
  .exact absurd (Ã o)<|IT h
 .by_cases h:i=0
  .subst h;exact y a e
  .exact absurd (Ã e)<|IU h
 .by_cases h:i=0
  .subst h;exact B b o
  .exact absurd o<|IT h
 .by_cases h:i=0
  .subst h;exact D a e
  .exact absurd e<|IU h
 .by_cases h:i=0
  .subst h;exact E b o
  .exact absurd o<|IT h
 .by_cases h:i=0
  .subst h;exact G
  .rw[vR f l h];exact⟨(C.r i g).r,λj q=>q.elim (λz=>z.elim) λz=>z.elim,λa q=>q.elim (λz=>z.elim) λz=>z.elim,λa q=>q.elim (λz=>z.elim) λz=>z.elim,λa q=>q.elim⟩
 .by_cases h:i=0
  .subst h;exact H
  .rw[vR f l h];exact⟨λa e=>e.elim,λa e=>e.elim,λa e=>e.elim,λa e=>e.elim⟩
 .by_cases h:i=0
  .subst h;rw[Sm,J];exact C.f 0 u
  .rw[vR f l h];exact C.f i g
 .by_cases h:i=0
  .subst h;refine⟨(t a e).1,λk z q=> ?_⟩;by_cases r:k=0
   .subst r;exact(t a e).2 q
   .exact absurd (Ã q)<|IU r
  .rw[vR f l h]at e;exact e.elim
def PI.aj1(p:PI F i zX E S tr o f gs w qJ)(m:E.M=.gf)(r:Lt F zX qJ)(B:F.S=0)(M:1<=F.L): ∃z:Nat->Nat,kA F.P E.Y (λk=>zX k\/∃x:ã,k=Ā x/\x.block=F.C) w.heap.size (F.j E.I) (tr 0) z (vo f<|f 0) gs w qJ:=by
 let⟨D,s⟩:=p.jr m;have O:gs.size=F.L+(F.n+1):=by rw[p.b,D]
 have C:=p.I.r;have c:0<gs.size:=Z
 refine⟨λb=>if h:F.L<=b/\b<F.L+(F.n+1)then Classical.choose (s (b-F.L) Z)else E.h b,Z,⟨?_,λb x t=> ?_,p.I.I⟩,λb Q _=> ?_,p.a.M 0<|Ã U,λq a d G=> ?_,λq a x d H=>Ç<|Xn C.q d H,λa d q u=> ?_,r.2⟩
 .rw[B]at C;exact C.Y c (Û _) (C.m 0 c) (C.g 0 c) (C.I 0 c) (C.e 0 c) (C.fx 0 c) C.N (C.r 0 c) (C.S 0 c) U λa d=>⟨(C.n 0 c a d).1,(C.n 0 c a d).2 0 c⟩
 .let⟨k,j,l,v,I⟩:=p.I.C b x t;by_cases h:b=0
  .subst h;rw[p.h.1,m]at j;rw[p.h.2,m]at l;exact⟨k,j,l,v,I⟩
  .have T:=(æ.1 t).1;simp only[h,if_false];rw[vR f _ h];have y:∀N,S b=oD F.P N->tr b=.fB->o b=.no->∃k,kV F.P (b==0) (oD F.P N) .fB (xA<|f b) k/\wV k .no x/\(k.status=ē\/k.status=ų)/\(x=k\/True):=λN z e g=>by
    rw[z,e]at j;rw[g]at l;exact⟨k,λK _=>j _<|fH.fT _ _,l,v,Ç trivial⟩
   by_cases J:b<F.L
   .let⟨z,e,g⟩:=p.l b Z J;have K:¬(F.L<=b/\b<F.L+(F.n+1)):=Z
    simp only[K,dif_neg,not_false_eq_true];exact y _ z e g
   .have K:F.L<=b/\b<F.L+(F.n+1):=Z
    simp only[K,dif_pos,and_self];let⟨z,e,g⟩:=p.k (b-F.L) _ Z<|Classical.choose_spec<|s (b-F.L) Z;rw[show F.L+(b-F.L)=b by omega]at z e g;exact y _ z (g ⟨_,U⟩) e
 .rw[vR f _ Z];rfl
 .rcases r.1 q a d G with z|⟨z,k⟩
  .exact Ã z
  .exact Ç ⟨z,k⟩
 .unfold Trace.act? at u;let⟨k,z,K⟩:=Ī.1 u;have:=C.q k<|Array.mem_of_getElem? z;rw[K]at this;have e:a.block<w.heap.size:=this;omega
def kA.Y{Y:Nat->Prop}{J:Jd}{u:gu}(c:kA P Y zX n J u D f gs w qJ)(v:(f 0).d=0)(o:gs[0]?=Â g)(y:g.status=ē){p:Jd}{T:gu}{l:fe}(B:l.w=w)(C:l.d=0)(E:¬l.q)(k:∀b,¬l.I b)(r:∀a,¬l.r a)(m:∀a,¬l.N a)(F:∀a,¬l.K a)(s:∀b,l.O b->b<w.heap.size/\∀x:ã,x.block=b->¬zX (Ā x))(G:kV P Ô p T l g): rQ P zX n p T D (vo f l) gs w qJ:=by
 refine⟨c.C,⟨?_,λi x j=> ?_,c.r.I⟩,λi o _=> ?_,E,c.M,c.S,c.b,c.N⟩
 .refine(c.r.r).Y c.C (Û _) (λb _=>k b) (λa _=>m a) (λ_ _=>id) (λa e=>e.elim (λq=>absurd q<|r a) λq=>absurd q<|m a) (λb t=>t.elim (λq=>(s b q).1) λq=>absurd q<|k b) (λ_ h=>h.elim) (by rw[B];exact fH.fT _ _) ⟨λa e I x j t=> ?_,λa e=>(k _ e).elim,λa e=>(r a e).elim,λa e=>(m a e).elim⟩ (by rw[C,v]) λa e=>absurd e<|F a;rcases c.M I x j (by rw[t];rfl)with z|⟨z,_⟩
  .exact z
  .rw[t]at z;exact absurd z<|(s _ e).2 a U
 .by_cases h:i=0
  .subst h;rw[o]at j;obtain rfl:=Ó j;exact⟨g,G,.gk,Ã y,Ã U⟩
  .let⟨g0,e,z,I,t⟩:=c.r.C i x j;simp only[h,if_false]at e t|-;rw[vR f _ h];exact⟨g0,λL _=>e _<|fH.fT _ _,z,I,t⟩
 .rw[vR f _ Z];rfl
end
section
variable{F:Ph}{H:Nat}{J:Jd}{f:Nat->fe}{gs:Array Ý}
structure Sn(F:Ph)(H:Nat)(l0 l:fe)(w:ß):Prop where
 fq:∀b,l.O b->l0.O b/\¬(F.M b\/b=F.Y)
 r:∀b,l.I b->l0.O b/\¬(F.M b\/b=F.Y)/\¬l.O b
 C:∀a,l.r a↔∃x,x<=F.n/\lQ F x a
 I:∀a,l.N a↔a=jf F.toFx 0
 k:∀a,l.K a->F.G a
 M:∀b,F.M b\/b=F.Y->l0.O b
 N:∀b,F.M b->H<=b
 g:l.w=w
 d:l.d=0
 q:¬l.q
 S:∀b,F.i b->l.I b
 Y:hD w F.C (.cl 1 0)
 c:hD w (F.I 0) (.cl 0 0)
 e:∀k,1<=k->k<=F.m->hD w (F.I k) (.cl 1 0)
 f:F.d 0 F.l F.i w
def ma(F:Ph)(D:Nat->Nat)(a:Nat->Nat):fS F where
 M:=.go 0
 S:=.kH 0
 C:=λ_=> .np 0
 N:=λ_=>Á
 I:=a
 c:=λ_=>F.l
 V:=λk=>if k=0 then F.i else λ_=>False
 e:=λ_=>0
 d:=λ_=>Á
 f:=λ_=>0
 b:=.cl 1 0
 a:=λk=>if k=0 then .cl 0 0 else .cl 1 0
 g:=Á
 h:=D
def Mt(ok:F.Ok)(h:lQ F i a):(∃k,1<=k/\k<=F.m/\a=jf F.toFx k)\/∃p,p≠F.f/\a=jm F p:=by
 unfold lQ at h;split at h
 .obtain⟨k,c,d,b|b⟩:=h
  .exact Ã ⟨k,c,d,b⟩
  .exact Ç ⟨_,ok.Y.1 k c d,b⟩
 .let⟨k,c,_,b⟩:=h;exact Ç ⟨_,ok.Y.2 _ (by assumption),b⟩
def ZR(ok:F.Ok)(h:lQ F i (jf F.toFx 0)):False:=by
 rcases Mt ok h with⟨k,c,b,a⟩|⟨p,_,a⟩
 .have:F.I 0=F.I k:=by injection a
  have:=ok.S 0 k Z b this;omega
 .have:F.I 0=F.Y:=by injection a
  exact ok.C<|by rw[<-this];exact Ç ⟨0,Z,U⟩
def rQ.aj2(Hy:gQ F)(c:rQ F.P zX H J .fB D f gs w qJ)(hL:F.L=gs.size)(hB:F.S=0)(G:gs[0]?=Â g){l:fe}(st:Sn F H (f 0) l w)(oH:(f 0).d=0)(v:Nat->Nat)(hgo:F.g 0 v l g): PI F qJ.size zX (ma F D v) (λi=>if i=0 then F.g 0 v else oD F.P (D i)) (λ_=> .fB) (λ_=> .no) (λi=>if i=0 then l else xA (f i)) gs w qJ:=by
 have S:=Hy.C;have C:=c.r.r;have jH:=c.C;have T:0<gs.size:=Z
 have y:(ma F D v).r=0:=U;have W:∀b,(ma F D v).Y b↔(F.M b\/b=F.Y):=λb=>by
  constructor
  .rintro(q|q|⟨j,B,_⟩)
   .exact Ã q
   .exact Ç q
   .rw[y]at B;omega
  .rintro(q|q)
   .exact Ã q
   .exact Ç<|Ã q
 have So:∀a,l.C a->F.M a.block\/a.block=F.Y:=λa o=>by
  rcases o with q|q
  .let⟨x,_,E⟩:=(st.C a).1 q;rcases Mt S E with⟨k,B,t,rfl⟩|⟨p,_,rfl⟩
   .exact Ã<|Ç ⟨k,t,U⟩
   .exact Ç U
  .rw[(st.I a).1 q];exact Ã<|Ç ⟨0,Z,U⟩
 have nC:∀i,i≠0->∀a,¬((λi=>if i=0 then l else xA (f i)) i).C a:=λi h a q=>by simp only[h,if_false]at q;exact q.elim id id
 have nM:∀i,i≠0->∀b,¬((λi=>if i=0 then l else xA (f i)) i).M b:=λi h b q=>by simp only[h,if_false]at q;exact q.elim id id
 have ZS:∀b,l.M b->(f 0).O b/\¬(F.M b\/b=F.Y):=λb q=>q.elim (st.fq b) λz=>⟨(st.r b z).1,(st.r b z).2.1⟩;have QO:iQ F.S (λi=>i<gs.size) (ma F D v).Y (λi=>if i=0 then l else xA (f i)) w qJ:=by
  refine⟨λi j G hj N b u=> ?_,λi j G hj N a o=> ?_,λi G b u=> ?_,λi G a o=> ?_,λi G b u=> ?_,λi G a o=> ?_,λi G b u=> ?_,λb u=>C.fx 0 T b<|Ã<|st.M b<|(W b).1 u,λi G=> ?_,λi G=> ?_,λi G=> ?_,C.l,C.q,λq a e B t I=> ?_,λi G a o=> ?_⟩
  .by_cases h:j=0
   .subst h;simp only[N,if_false]at u;exact u.elim
   .exact nM j h b
  .by_cases h:j=0
   .subst h;simp only[N,if_false]at o;exact o.elim
   .exact nC j h a
  .by_cases h:i=0
   .subst h;simp only[if_true]at u|-;exact λq=>(st.r b q).2.2 u
   .simp only[h,if_false]at u;exact u.elim
  .by_cases h:i=0
   .subst h;simp only[if_true]at o|-;intro q;rw[(st.I a).1 q]at o;let⟨x,_,E⟩:=(st.C _).1 o;exact ZR S E
   .simp only[h,if_false]at o;exact o.elim
  .by_cases h:i=0
   .subst h;simp only[if_true]at u;rw[W];exact(ZS b u).2
   .exact absurd u<|nM i h b
  .by_cases h:i=0
   .subst h;simp only[if_true]at o;rw[W];exact So a o
   .exact absurd o<|nC i h a
  .by_cases h:i=0
   .subst h;simp only[if_true]at u;exact C.fx 0 T b<|Ã (ZS b u).1
   .exact absurd u<|nM i h b
  .by_cases h:i=0
   .subst h;simp only[if_true];rw[st.g];exact fH.fT _ _
   .simp only[h,if_false];exact⟨(C.r i G).r,λj q=>q.elim (λz=>z.elim) λz=>z.elim,λa q=>q.elim (λz=>z.elim) λz=>z.elim,λa q=>q.elim (λz=>z.elim) λz=>z.elim,λa q=>q.elim⟩
  .by_cases h:i=0
   .subst h;simp only[if_true];have s:=(C.S 0 T).fq;exact⟨λa o=>s a (st.fq _ o).1,λa o=>(s a (st.r _ o).1).r,λa o=>s a<|st.M _<|So a<|Ã o,λa o=>(s a<|st.M _<|So a<|Ç o).r⟩
   .simp only[h,if_false];exact⟨λa o=>o.elim,λa o=>o.elim,λa o=>o.elim,λa o=>o.elim⟩
  .by_cases h:i=0
   .subst h;simp only[if_true];rw[C.f 0 T,oH,st.d]
   .simp only[h,if_false];exact C.f i G
  .have:=C.s q a e B t I;omega
  .by_cases h:i=0
   .subst h;simp only[if_true]at o;let⟨b,u,s⟩:=st.k a o;have Q:a.block=b:=by rcases s with rfl|rfl<;>rfl
    refine⟨by rw[W,Q];exact Ã u,λk K q=> ?_⟩;by_cases t:k=0
    .subst t;simp only[if_true]at q;let⟨x,_,E⟩:=(st.C a).1 q;rcases Mt S E with⟨k',_,_,I⟩|⟨p',_,I⟩
     .rcases s with X|X<;>rw[X]at I<;>simp[fM,gP,jf]at I
     .have:a.block=F.Y:=by rw[I];rfl
      exact S.C<|by rwa[<-this,Q]
    .simp only[t,if_false]at q;exact q
   .simp only[h,if_false]at o;exact o.elim
 have ZT:gL F.P F.S (ma F D v).Y (λi=>if i=0 then F.g 0 v else oD F.P (D i)) (λ_=> .fB) (λ_=> .no) (λi=>if i=0 then l else xA (f i)) gs w qJ:=by
  refine⟨QO,λi x E=> ?_,c.r.I⟩;by_cases h:i=0
  .subst h;rw[G]at E;obtain rfl:=Ó E;simp only[if_true];exact⟨g,λs r=>Hy.Hn 0 v l g s hgo r,.gk,Ã<|Hy.I 0 v l g hgo,Ã U⟩
  .let⟨g0,Q,q2,N,q4⟩:=c.r.C i x E;simp only[h,if_false]at Q|-;exact⟨g0,λs _=>Q _<|fH.fT _ _,q2,N,Ç trivial⟩
 have aj3:iG F (ma F D v) (λi=>if i=0 then l else xA (f i)) gs.size w:=by
  refine⟨λi G a o=> ?_,λx _ t a o=> ?_,λ_=> ?_,λh=>absurd h (by rw[y];omega),λh=>absurd h (by rw[y];omega),λj h=>absurd h (by rw[y];omega),λj h=>absurd h (by rw[y];omega),λx ⟨e,B,_⟩=>(by cases B),λi h=> ?_,λi B t=> ?_,λk K b u=> ?_,λk K i G q=> ?_,λk B t=> ?_,λj h=>absurd h<|by rw[y];omega⟩
  .by_cases h:i=0
   .subst h;simp only[if_true]at o;rcases o with q|q
    .let⟨x,_,E⟩:=(st.C a).1 q;rcases Mt S E with⟨k,_,t,I⟩|I
     .exact Ã ⟨k,t,I⟩
     .exact Ç I
    .exact Ã ⟨0,Z,(st.I a).1 q⟩
   .exact absurd o<|nC i h a
  .simp only[if_true];exact(st.C a).2 ⟨x,t,o⟩
  .simp only[if_true];exact⟨(st.I _).2 U,st.S⟩
  .rcases h with rfl|⟨x,E,_⟩
   .simp only[if_true];exact st.q
   .rw[y]at E;omega
  .have:i≠0:=Z
   simp only[this,if_false];rfl
  .have Q:k=0:=by have:k<=0:=K;omega
   subst Q;have B:=st.S b u;refine⟨C.fx 0 T b<|Ã (st.r b B).1,by rw[W];exact(st.r b B).2.1,λi G q=> ?_⟩;by_cases h:i=0
   .subst h;simp only[if_true]at q;exact(st.r b B).2.2 q
   .simp only[h,if_false]at q;exact q
  .have Q:k=0:=by have:k<=0:=K;omega
   subst Q;by_cases h:i=0
   .subst h;simp only[if_true]at q;let⟨x,_,E⟩:=(st.C _).1 q;exact ZR S E
   .simp only[h,if_false]at q;exact q
  .have:k<=0:=t;omega
 have gg:∀k,k<=F.m->hD w (F.I k) ((ma F D v).a k):=λk K=>by
  by_cases h:k=0
  .subst h;exact st.c
  .have:(ma F D v).a k=.cl 1 0:=by simp[ma,h]
   rw[this];exact st.e k Z K
 have wdd:Wd F (ma F D v) w:=by
  refine⟨st.Y,gg,λj h=>absurd h (by rw[y];omega),λk K=> ?_,λk B t=> ?_,λj h=>absurd h<|by rw[y];omega⟩
  .have Q:k=0:=by have:k<=0:=K;omega
   subst Q;exact⟨.vm,st.f⟩
  .have:k<=0:=t;omega
 have ZU:∀k,(sumTo F.n λj=>((ma F D v).C j).gC F j k)=0:=λk=>by
  have:∀n,(sumTo n λ_=>0)=0:=λn=>by
   induction n with
   |zero=>rfl
   |succ n s=>simp[sumTo,s]
  exact this F.n
 have aj4:sumTo (F.n+1) (ma F D v).G=1:=by
  have B:=w7 (f':=(ma F D v).G) (j:=0) (n:=F.n+1) Z (λi G=>by
   have:¬i<1:=Z
   show(if i<1 then _ else _)=0;rw[if_neg this])
  have t:∀n,(sumTo n λ_=>0)=0:=λn=>by
   induction n with
   |zero=>rfl
   |succ n s=>simp[sumTo,s]
  rw[t]at B;have I:(ma F D v).G 0=1:=U;omega
 have pss:Ps F (ma F D v):=by
  refine⟨U,λj h=> ?_,λj h=> ?_,λr=>⟨λh=>(by cases h),λh=>(by cases h)⟩,λ_=>rfl,λk=>⟨λh=> ?_,λh=>(by cases h),λp h=>by cases h⟩,λ_ _=>rfl,λj r h=>absurd h (by rw[y];omega),λj h=>absurd h (by rw[y];omega),λh=>absurd U h,λ_ _=>rfl,λj j' h=>absurd h (by rw[y];omega),λj h=>absurd h (by rw[y];omega),λc reg h=> ?_,λreg h=>(by cases h),λr s h=>(by cases h),λx p h=>(by cases h),λh=> ?_,λk B t I=> ?_,λk B t=> ?_,λj r h=>absurd h (by rw[y];omega),λj r h=>absurd h (by rw[y];omega),λh=>(by cases h),λ_ _=>⟨1,rfl⟩,λ_ _ _=>rfl,λj r h=>absurd h<|by rw[y];omega⟩
  .rcases h with h|h|h|h<;>cases h;omega
  .rcases h with h|h|h<;>cases h
  .cases h;omega
  .cases h;exact⟨aj4.symm,U⟩
  .rcases h with h|h|h<;>cases h
  .rw[ZU];have:k≠0:=Z
   simp[ma,this]
  .have Q:k=0:=by have:k<=0:=t;omega
   subst Q;exact Ç<|Ç ⟨λp h=>(by cases h),Ã ⟨rfl,ZU 0⟩⟩
 have s:TI F.toFx qJ.size zX (ma F D v).r (ma F D v).S.rl (ma F D v).V (ma F D v).e (ma F D v).d (ma F D v).iu (ma F D v).f qJ:=by
  refine⟨Û _,λp a x o Q hc=> ?_,λx h=>absurd h (by rw[y];omega),λk B t=> ?_,λk B t=> ?_,λb u=>c.b _<|st.N b u,λx h=>absurd h (by rw[y];omega),λp a B t=> ?_,λp a _ t I=>c.M p a t I,λp g _ t I X=>c.N p g t I X⟩
  .let⟨b,u,E⟩:=hc;have QK:x.block=b:=by rcases E with rfl|rfl<;>rfl
   rcases c.S p a x o Q with q|q
   .exact Ã ⟨Qa o,q⟩
   .have:=st.N b u;omega
  .have:k<=0:=t;omega
  .have:k<=0:=t;omega
  .have:=Qa t;omega
 refine⟨by rw[y,hL];rfl,ZT,⟨by simp only[if_true];rfl,U⟩,λh=>absurd h (by rw[y];omega),λj h=>absurd h (by rw[y];omega),λx e h=>absurd h (by rw[y];omega),λi B t=>⟨?_,U,U⟩,aj3,wdd,pss,s,λi x E u=> ?_,λj r h=>absurd h<|by rw[y];omega⟩
 .have:i≠0:=Z
  simp only[this,if_false];rfl
 .let⟨g0,_,q2,N,_⟩:=ZT.C i x E;cases q2 with
  |gk=>rcases N with N|N<;>rw[u]at N<;>cases N
end
end Go.Proofs.Y.fv
namespace Go.Proofs.Y.fv
open Go Go.Conc Go.Proofs.Y.Lift Go.RowKit Go.Conc.Lib Go.ConcR.Gen
open Go.Proofs Go.Proofs.YtgpphkdoanciiaaGreatDoor
section
variable{kd:Nat->Int}{R:Nat}
def IV(h:i∈gX kd R):i<R/\kd i=1:=by have:=Ć.1 h;exact⟨ù.1 this.1,by simpa using this.2⟩
def IW(h:i∈jy kd R):i<R/\kd i≠1:=by have:=Ć.1 h;exact⟨ù.1 this.1,by simpa using this.2⟩
def aj5:(gX kd R).Nodup:=Ŕ.filter _
def aj6:(jy kd R).Nodup:=Ŕ.filter _
def Dc(h:k<jJ.length):jJ[k]?=Â (jJ.getD k 0):=by simp[List.getD,h]
def vS{l:List Nat}(h:k<l.length):l.getD k 0∈l:=İ<|Dc h
def ZV(c:jJ.Nodup)(a:i<jJ.length)(d:j<jJ.length)(h:jJ.getD i 0=jJ.getD j 0):i=j:=by have b:=Dc a;rw[h]at b;exact(List.getElem?_inj a c).1<|b.trans (Dc d).symm
def ZW:∀R,(gX kd R).length+(jy kd R).length=R
 |0=>rfl
 |R+1=>by
  have:=ZW R;by_cases h:kd R=1
  .rw[s8 h,RU h];simp;omega
  .rw[vM h,RV h];simp;omega
end
structure xB where
 γ:Type
 C:γ
 M:Nat->γ->γ->Prop
 RD:γ->Ð->(Nat->Prop)->ß->Prop
 I:Nat->ByteArray
 r:Nat->Prop
def Mv(M:xB)(L n R:Nat)(kd:Nat->Int)(a g:Nat->Nat)(b c:Option ã)(d e f h j l:Nat)(o:List ê)(p:Nat->Prop)(RC e8:ß->Prop):SD where
 L:=L
 f:=0
 n:=n
 m:=fK kd R
 q:=(jy kd R).length
 N:=R
 I:=l
 C:=g
 an:=f
 S:=h
 p:=j
 t:=b
 s:=d
 k:=c
 j:=e
 l:=λk=>Â ⟨a<|(gX kd R).getD (k-1) 0,0,Á⟩
 Y:=λk=>(gX kd R).getD (k-1) 0
 h:=λi=>Â ⟨a<|(jy kd R).getD i 0,0,Á⟩
 b:=λi=>(jy kd R).getD i 0
 a:=λi=>if i<(jy kd R).length then fK kd ((jy kd R).getD i 0)else 0
 e:=o
 c:=p
 RC:=RC
 o:=e8
 γ:=M.γ
 v:=M.C
 u:=M.r
 g:=M.M
 RD:=M.RD
 d:=λk=>M.I<|(gX kd R).getD (k-1) 0
 i:=λi=>M.I<|(jy kd R).getD i 0
section
variable{M:xB}{L R:Nat}{kd:Nat->Int}{a:Nat->Nat}{c:Option ã}{cs:List ê}{RB:Nat->Prop}{RC e8:ß->Prop}{l d f:fe}
def aj7(h:Mi kd a D R (Æ O (fK kd R) j7) (Æ c (jy kd R).length j6) v j b J i j9 m l d f)(F:∀w p,RC w->(∀g,RB g->p.heap[g]?=w.heap[g]?)->RC p)(G:∀w p,e8 w->(p.os=w.os/\p.output=w.output)->e8 p)(H:∀s B V w p,M.RD s B V w->(∀g,V g->p.heap[g]?=w.heap[g]?)->M.RD s B V p)(I:1<=n)(K:1<=L)(X:n+R<1000):(Mv M L n R kd a D O c j7 j6 j b J i cs RB RC e8).Ok:=by
 have Y:=ZW (kd:=kd) R;have hc:(gX kd R).length=fK kd R:=U;let⟨a1,a2,a3⟩:=h.M;let⟨a4,a5,a6⟩:=h.S;have z:∀k,k<=fK kd R->d.w.heap.size<=D k/\D k<J:=λk r=>⟨(h.r.M k r).1,h.N k r⟩;have R8:=Ø (z 0 Z).1<|Ō (z 0 Z).2;refine⟨F,G,H,I,K,?_,?_,λo=> ?_,λo t=>(IW<|vS t).1,λk C x=> ?_,λk r e=> ?_,λk u r N e=> ?_,?_,λo i' t P e=>ZV aj6 t P e,λk u C x h3 Q e=> ?_,λo k t C x e=> ?_,λg _=>ĉ g⟩
 .show n+(jy kd R).length+fK kd R<1000;omega
 .show R<1000;omega
 .show(if o<(jy kd R).length then fK kd ((jy kd R).getD o 0)else 0)<=fK kd R;split
  .rename_i t;exact Zu<|Ō (IW<|vS t).1
  .omega
 .refine(IV<|vS ?_).1;have:k<=fK kd R:=x;omega
 .have:=(z k r).2;have y:D k=i:=e;omega
 .have y:D k=D u:=e;have S:=r;have T:=N;rcases Nat.lt_trichotomy k u with q|q|q
  .have:=h.r.S k u q T;omega
  .exact q
  .have:=h.r.S u k q S;omega
 .rintro(e|⟨k,r,e⟩)
  .have y:j=i:=e;omega
  .have y:j=D k:=e;have:=(z k r).1;omega
 .have W:k<=fK kd R:=x;have h4':u<=fK kd R:=Q;have:=ZV aj5 Z Z e;omega
 .have W:k<=fK kd R:=x;have y:(jy kd R).getD o 0=(gX kd R).getD (k-1) 0:=e;have E:=(IW<|vS t).2;rw[y]at E;exact E<|(IV (kd:=kd) (R:=R)<|vS (k:=k-1) Z).2
end
abbrev kB(M:xB)(L n R:Nat)(kd:Nat->Int)(c g:Nat->Nat)(d e:Option ã)(f h i a j k:Nat)(cs:List ê)(l:fe):SD:=Mv M L n R kd c g d e f h i a j k cs (λb=>l.O b\/b=a) (λw=>∀b,l.O b->w.heap[b]?=l.w.heap[b]?) λw=>w.os=l.w.os/\w.output=l.w.output
def Mw(D:SD)(l:fe):fe:={l with O:=λb=>l.O b/\¬(D.M.M b\/b=D.an)/\¬D.c b,I:=D.c,r:=λa=>∃x,x<=D.n/\lQ (D.r Ä) x a,N:=λa=>a=jf D.M 0,K:=D.M.G}
section
variable{M:xB}{L:Nat}{f:Nat->Int}{r:Nat->Nat}{u:Option ã}{y:Nat}{cs:List ê}{l B o:fe}
def Mx{cs:Array Ð}(h:w.heap[b]?=Â (Ê cs e)):w.frozen? ⟨b,i,Á⟩=Í:=by simp[ð,h]
def Sp{cs:Array Ð}(h:w.heap[b]?=Â (Ê cs e))(a:cs[0]?=Â (É ì<|(i:Int)*fY+0))(d:cs[1]?=Â (É û 0))(f:i<1000000):hD w b (.cl i 0):=by
 refine⟨?_,?_,Mx h,Mx h,(⟨f,Z,λ_=>rfl⟩)⟩
 .simp[Ù,fM,h,a,GS.st]
 .simp[Ù,gP,h,d,GS.sm]
def aj8(h:Mi f r D j (Æ O (fK f j) j6) (Æ u (jy f j).length y) v k m j9 b j7 J l B o)(s:gw l)(My:∀g,¬l.I g)(W:¬l.q)(X:l.d=0)(hH:i<=l.w.heap.size)(hV:∀g,M.r g->l.O g)(qU:M.RD M.C v M.r o.w)(xy:o.w.os=l.w.os/\o.w.output=l.w.output)(hn:1<=n)(hs:n+j<1000){t:Array Ð}(hT:Is m b (D<|fK f j) n (Æ u (jy f j).length y) t)(dk:Nat->Nat): Sn ((kB M L n j f r D O u j6 y k m j9 b cs l).r Ä) i o (Mw (kB M L n j f r D O u j6 y k m j9 b cs l) o) o.w/\ ((kB M L n j f r D O u j6 y k m j9 b cs l).r Ä).g 0 dk (Mw (kB M L n j f r D O u j6 y k m j9 b cs l) o) (CM (À<|Â ⟨b,0,Á⟩) jQ (À<|Â ⟨b,0,Á⟩) (ñ #[]) j7 J<|Fu t::cs):=by
 let⟨a1,a2,a3⟩:=h.M;let⟨a4,a5,a6⟩:=h.S;have N:∀C,C<=fK f j->B.w.heap.size<=D C/\D C<j9:=λC E=>⟨(h.r.M C E).1,h.N C E⟩;have R8:=Ø (N 0 Z).1<|Ō (N 0 Z).2;have Y:=λg q=>s.fx g<|Ã q;have hc:(gX f j).length=fK f j:=rfl;have Q:∀g,(kB M L n j f r D O u j6 y k m j9 b cs l).M.M g\/g=k->g=b\/(∃C,C<=fK f j/\g=D C)\/g=k:=λg q=>by
  rcases q with(q|⟨C,S,q2⟩)|q
  .exact Ã q
  .exact Ç<|Ã ⟨C,S,q2⟩
  .exact Ç<|Ç q
 have H:∀g,(kB M L n j f r D O u j6 y k m j9 b cs l).M.M g\/g=k->l.w.heap.size<=g/\g≠m/\g≠j9/\g≠j7/\g≠J/\(∀C,(Æ O (fK f j) j6).ownBlock=Â C->g≠C)/\(∀C,(Æ u (jy f j).length y).ownBlock=Â C->g≠C):=λg q=>by
  rcases Q g q with rfl|⟨C,E,rfl⟩|rfl
  .exact⟨Z,Z,Z,Z,Z,λC e=>by have:=h.o3 C e;omega,λC e=>by have:=h.o4 C e;omega⟩
  .have:=N C E;exact⟨Z,Z,Z,Z,Z,λp e z=>(h.r.M C E).2.1<|z▸e,λp e z=>(h.r.M C E).2.2<|z▸e⟩
  .exact⟨Z,Z,Z,Z,Z,λC e=>by have:=(h.r.r C e).2;omega,λC e=>by have:=(h.r.C C e).2;omega⟩
 have aj9:∀g,(kB M L n j f r D O u j6 y k m j9 b cs l).M.M g\/g=k->o.O g:=λg q=>by
  rcases Q g q with rfl|⟨C,E,rfl⟩|rfl
  .exact h.Y.fq
  .by_cases x:C=0
   .subst x;exact h.r.N.fq
   .exact(h.r.I C Z E).fq
  .exact h.I.fq
 have K:∀g,o.O g->l.w.heap.size<=g->g≠m->¬((kB M L n j f r D O u j6 y k m j9 b cs l).M.M g\/g=k)->(Mw (kB M L n j f r D O u j6 y k m j9 b cs l) o).O g:=λg S q2 q4 q3=>⟨S,q3,λq=>q.elim (λq=>by have:=Y g q;omega) q4⟩;have ZX:hD o.w b (.cl 1 0):=Sp h.Y.I U U Z;have ZY:hD o.w (D 0) (.cl 0 0):=Sp h.r.N.I U U Z;have ZZ:∀C,1<=C->C<=fK f j->hD o.w (D C) (.cl 1 0):=λC I P=>Sp (h.r.I C I P).I U U Z;have T:∀g c,hD o.w g c->mQ g o.w:=λg c q=>⟨by rw[show(⟨g,0,Á⟩:ã)=fM g from rfl,q.C];rfl,by rw[show(⟨g,1,Á⟩:ã)=gP g from rfl,q.M];rfl⟩;refine⟨⟨λg q=>⟨q.1,q.2.1⟩,λg q=>⟨?_,λz=> ?_,λz=>z.2.2 q⟩,λa=>Iff.rfl,λa=>Iff.rfl,λa q=>q,λg q=>aj9 g q,λg q=>Ø hH (H g<|Ã q).1,U,h.C.d.trans X,by show¬o.q;rwa[h.C.q],λg q=>Ã<|hV g q,ZX,ZY,ZZ,⟨⟨v,h.r.N.C U,qU⟩,λ_=> ?_⟩⟩,?_⟩
 .rcases q with q|q
  .exact h.C.O g q
  .rw[q];exact h.a.fq
 .rcases q with q|q
  .have:=(H g z).1;have:=Y g q;omega
  .exact(H g z).2.1 q
 .refine⟨?_,by unfold kP;rw[show o.w.heap[(kB M L n j f r D O u j6 y k m j9 b cs l).an]?=Â (xu j)from h.I.I],xy⟩;show o.w.cell? ⟨k,j,Á⟩=Á;simp only[Ù,h.I.I,xu,Ľ,ĝ,if_false];exact Array.getElem?_eq_none<|by rw[ŭ];exact Û _
 refine⟨h.C.d.trans X,by show¬o.q;rwa[h.C.q],ĉ _,Ã ⟨U,⟨λg q=>⟨⟨g,q,Ã U⟩,⟨g,q,Ç U⟩⟩,λg q=> ?_,Ç<|Ç U,h.a.C U,(Ã<|K j9 h.c.fq Z Z λz=>(H j9 z).2.2.1 U),h.c.C U,λC E=> ?_,λe hi=> ?_,λa q=> ?_,λg q=>Ç q,λg q=>h.C.r g (Ã q) id⟩,t,j7,J,jQ,hT,⟨(K j7 h.d.fq Z Z λz=>(H j7 z).2.2.2.1 U),h.d.I⟩,⟨(K J h.b.fq Z Z λz=>(H J z).2.2.2.2.1 U),h.b.I⟩,U⟩⟩
 .rcases Q g (Ã q)with rfl|⟨C,E,rfl⟩|rfl
  .exact T _ _ ZX
  .by_cases x:C=0
   .subst x;exact T _ _ ZY
   .exact T _ _<|ZZ C Z E
  .exact absurd q λz=>by
    rcases z with z|⟨C,x,F⟩
    .have G:g=b:=z;omega
    .have G:g=D C:=F;have:=(N C x).1;omega
 .have tN:C<fK f j:=E;rcases h.r.jN.2 with⟨_,e2⟩|⟨g,cap,cur,V,_,hcur,IJ⟩
  .omega
  .have zm:O=Â ⟨g,0,Á⟩:=by injection V
   subst zm;have x:=h.r.jN.cells U;have hz:(gX f j).zipIdx[C]?=Â ((gX f j).getD C 0,C):=by rw[List.getElem?_zipIdx,Dc Z];simp
   have F:∀c,c<4->(jN f r D j)[C*4+c]?=(tI r D ((gX f j).getD C 0,C))[c]?:=λc q=>R0 (λ_=>rfl) q _ C _ hz;have G:∀p,(⟨g,0,Á⟩:ã).add p=⟨g,p,Á⟩:=λp=>by rw[Ĩ,Ė]
   refine⟨g,U,Ã (K g (h.r.r g U).1 (Ø Z (h.r.r g U).2) (by have:=(h.r.r g U).2;omega) λz=>(H g z).2.2.2.2.2.1 g U U),?_,?_,?_,?_⟩
   .have:=x (C*4+0) _<|F 0 Z;rwa[G]at this
   .have:=x (C*4+1) _<|F 1 Z;rwa[G]at this
   .have:=x (C*4+2) _<|F 2 Z;rwa[G]at this
   .have:=x (C*4+3) _<|F 3 Z;rwa[G]at this
 .have lq:e<(jy f j).length:=hi;rcases h.r.mF.2 with⟨_,e2⟩|⟨g,cap,cur,V,_,hcur,IJ⟩
  .omega
  .have Sj:u=Â ⟨g,0,Á⟩:=by injection V
   subst Sj;have x:=h.r.mF.cells U;have F:∀c,c<4->(mF f r D j)[e*4+c]?=(tQ f r D<|(jy f j).getD e 0)[c]?:=λc q=>R0 (λ_=>rfl) q _ e _<|Dc lq;have G:∀p,(⟨g,0,Á⟩:ã).add p=⟨g,p,Á⟩:=λp=>by rw[Ĩ,Ė]
   refine⟨g,U,Ã (K g (h.r.C g U).1 (Ø Z (h.r.C g U).2) (by have:=(h.r.C g U).2;omega) λz=>(H g z).2.2.2.2.2.2 g U U),?_,?_,?_,?_⟩
   .have:=x (e*4+0) _<|F 0 Z;rwa[G]at this
   .have:=x (e*4+1) _<|F 1 Z;rwa[G]at this
   .have:=x (e*4+2) _<|F 2 Z;rw[G]at this;show o.w.cell? ⟨g,e*4+2,Á⟩=Â (À<|Â ⟨D (if e<(jy f j).length then fK f ((jy f j).getD e 0)else 0),0,Á⟩);rw[if_pos lq];exact this
   .have:=x (e*4+3) _<|F 3 Z;rwa[G]at this
 .have V:∀p,p<j->(o.w.cell? ⟨k,p,Á⟩).isSome=Ô/\o.w.frozen? ⟨k,p,Á⟩=Í:=λp hp=>by
   refine⟨?_,Mx h.I.I⟩;have:p<(madeCells (Δ<|á ⟨#[]⟩) j).size:=by rwa[ŭ]
   simp[Ù,h.I.I,this]
  let⟨x,_,F⟩:=q;unfold lQ at F;split at F
  .obtain⟨C,I,P,rfl|rfl⟩:=F
   .have G:=P;refine⟨?_,Mx (h.r.I C I G).I⟩;show(o.w.cell? ⟨D C,2,Á⟩).isSome=Ô;rw[(h.r.I C I G).C U];rfl
   .have G:C<=fK f j:=P;exact V _ (IV<|vS Z).1
  .obtain⟨e,I,_,rfl⟩:=F;exact V _ (IW<|vS I).1
end
end Go.Proofs.Y.fv
namespace Go.Proofs.Y.fv
open Go Go.Conc Go.Proofs.Y.Lift Go.RowKit Go.Conc.Lib Go.ConcR.Gen
open Go.Proofs Go.Proofs.YtgpphkdoanciiaaGreatDoor
open Go.ConcN (sumTo sumTo_congr)
def Mz(kd:Nat->Int)(f:Nat->Nat)(R n:Nat)(h:Ð)(l:fe)(cs:List ê):Jd:=λi j=>
 ∃g k t m b o c p a d e q,Mi kd f g R m b h o c p a d e l k i/\Is c a (g<|fK kd R) n b t/\j=CM (À<|Â ⟨a,0,Á⟩) q (À<|Â ⟨a,0,Á⟩) (ñ #[]) d e (Fu t::cs)
def Z0(h:w.ownsRow i e j v n l):∃b c,v=Æ b n c:=by
 rcases h.2 with⟨a,d⟩|⟨b,f,g,a,_⟩
 .exact⟨Á,0,by rwa[d]⟩
 .exact⟨_,_,a⟩
section
variable{F:Ph}{E:fS F}{S:Nat->Jd}{B:Nat->gu}{G:Nat->iz}{y:Nat->fe}{o:Array Ý}
def PI.akb(p:PI F j9 zX E S B G y o w qJ)(f:E.M=.gf)(g:1<=F.n):E.S=.kH F.m/\(∀i,i<F.q->w.cell? (jm F<|F.a i)=Â (á<|F.k i)/\∀k,k<o.size->¬(y k).r (jm F<|F.a i)):=by
 let⟨s,a⟩:=p.jr f;refine⟨p.C.f (by let⟨N,h⟩:=a 0 Z;rw[h];simp),λi k=> ?_⟩;have t:i%F.n<F.n:=Ł _ g;have e:i%F.n+i/F.n*F.n=i:=by rw[Nat.mul_comm];exact Nat.mod_add_div i F.n
 let⟨N,h⟩:=a (i%F.n+1) Z;let⟨_,r,j,l⟩:=p.C.l (i%F.n) Z (by rw[h];simp);have b:i/F.n<(E.C<|i%F.n).ky:=by rw[j];exact(l (i/F.n)<|by rwa[e])
 have c:=p.M.N (i%F.n) Z (i/F.n) (by rwa[e]) b;have d:=p.a.d (i%F.n) Z (i/F.n) (by rwa[e]) b;rw[e]at c d;exact⟨c,d⟩
end
structure akc(D:SD)(l:fe)(w:ß)(g:Ý):Prop where
 I:∀b,l.O b->w.heap[b]?=l.w.heap[b]?
 cba:w.cell? ⟨D.S,0,Á⟩=Â (Æ (Â ⟨D.an,0,Á⟩) D.N D.N)
 kH:∀k,1<=k->k<=D.m->w.cell? ⟨D.an,D.Y k,Á⟩=Â (á<|D.d k)
 Sq:∀i,i<D.q->w.cell? ⟨D.an,D.b i,Á⟩=Â (á<|D.i i)
 IX:∃s sl V,nt (D.r Ä) D.m s/\w.cell? ⟨D.C D.m,2,Á⟩=Â sl/\D.RD s sl V w/\∀b,V b->b<w.heap.size/\b≠D.I
 fx:D.an<w.heap.size/\D.S<w.heap.size/\D.C D.m<w.heap.size
 r:D.an≠D.I/\D.S≠D.I/\D.C D.m≠D.I
 Sr:∃ts,SE D.S D.I (D.C D.m) ts/\g=Fz ts D.e
 C:w.cell? ⟨D.an,D.N,Á⟩=Á/\kP w D.an=Â (0,0)
 io:w.os=l.w.os/\w.output=l.w.output
section
variable{M:xB}{f:Nat->Int}{u:Nat->Nat}{cs:List ê}{l:fe}{I:Nat->Nat}{y:Nat->fe}{o:Array Ý}
def akd(c:rQ Ä zX j (Mz f u J n v l cs) .fB I y o w qJ)(S:Option (Nat×Nat))(s:gw l)(My:∀b,¬l.I b)(hq:¬l.q)(hd:l.d=0)(hH:j<=l.w.heap.size)(hV:∀b,M.r b->l.O b)(qU:∀s S V w G,M.RD s S V w->(∀b,V b->G.heap[b]?=w.heap[b]?)->M.RD s S V G)(Dd:M.RD M.C v M.r l.w)(xy:w.os=l.w.os/\w.output=l.w.output)(hn:1<=n)(hs:n+J<1000) (hA:∀g r t B D e m p h,l.w.heap.size<=m->FA (kB M o.size n J f u g r t B D e m p h cs l)/\FB (kB M o.size n J f u g r t B D e m p h cs l)): ∃g r t B D e m p h,(l.w.heap.size<=e/\l.w.heap.size<=m/\l.w.heap.size<=h/\∀k,k<=fK f J->l.w.heap.size<=g k)/\ ∃N Y a H C i G K E z,Ζ Ä N (Ķ o w S) qJ=(.next<|Ķ i G K,E)/\i.size=o.size+(n+1)/\i[0]?=Â z/\a<=G.heap.size/\h<a/\j<=a/\(C 0).d=0/\z.status=ē/\ kA Ä Y (λF=>zX F\/∃x:ã,F=Ā x/\x.block=h) a (ZH<|kB M o.size n J f u g r t B D e m p h cs l) .fB H C i G E/\akc (kB M o.size n J f u g r t B D e m p h cs l) l G z:=by
 have h0:=c.C;obtain⟨g0,ua⟩:∃g,o[0]?=Â g:=⟨_,ç h0⟩;let⟨g1,q1,q2,q3,_⟩:=c.r.C 0 g0 ua;obtain rfl:g0=g1:=by cases q2;rfl
 have hz:=q1 w<|c.r.r.r 0 h0;let⟨g,lp,tt,iv,qv,e,m,p,h,bw,bf,T,F,hT,hg⟩:=hz;obtain⟨r,B,rfl⟩:=Z0 F.r.jN;obtain⟨t,D,rfl⟩:=Z0 F.r.mF;let⟨a1,a2,a3⟩:=F.M;let⟨a4,a5,a6⟩:=F.S;have Ss:∀k,k<=fK f J->lp.w.heap.size<=g k/\g k<p:=λk W=>⟨(F.r.M k W).1,F.N k W⟩;have atH:=Ss 0 Z;have ake:=qU _ _ _ _ _ Dd λb q=>F.C.r b (Ã<|hV b q) id;obtain⟨st,hgo⟩:=aj8 F s My hq hd hH hV ake xy hn hs hT λ_=>0;have ok:=aj7 (L:=o.size) (cs:=cs) (RB:=λb=>l.O b\/b=m) (RC:=λw=>∀b,l.O b->w.heap[b]?=l.w.heap[b]?) F (λw G P X b a=>(X b<|Ã a).trans<|P b a) (e8:=λw=>w.os=l.w.os/\w.output=l.w.output) (λw G P X=>⟨X.1.trans P.1,X.2.trans P.2⟩) qU hn Z hs;let⟨hAdd,akf⟩:=hA g r t B D e m p h Z;have Hy:=ajW ok hAdd akf;have CZ:=F.C.d.trans hd;have st':Sn ((kB M o.size n J f u g r t B D e m p h cs l).r Ä) j (y 0) (Mw (kB M o.size n J f u g r t B D e m p h cs l) {y 0 with w:=w}) w:=⟨st.fq,st.r,st.C,st.I,st.k,st.M,st.N,st.g,st.d,st.q,st.S,st.Y,st.c,st.e,st.f⟩;rw[<-hg]at hgo;have p0:=c.aj2 Hy U U ua st' CZ (λ_=>0) hgo;let⟨N1,E,S1,tr1,kp1,atI,gs1,w1,Z1,t1,r1,x,hf,he⟩:=ahP Hy _ _ _ _ _ _ _ o w S qJ U U p0 (by intro q;cases q);let⟨oC,_⟩:=x.jr hf;let⟨zv,c1⟩:=x.aj1 hf he U h0;let⟨N2,MA,Sv,gs2,w2,MB,t2,r2,z2,N,c2⟩:=c1.G (λa i z=>Ã<|Hy.M E.I a i z) (tr1 0) _ zv _ gs1 w1 Z1 t1 U;have Sw:gs1.size=o.size+(n+1):=by rw[x.b,oC];rfl
 have MC:=c2.C;obtain⟨g2,MD⟩:∃g,gs2[0]?=Â g:=⟨_,ç MC⟩;let⟨g3,u1,u2,u3,_⟩:=c2.r.C 0 g2 MD;obtain rfl:g2=g3:=by cases u2;rfl
 have hE:=u1 w2<|c2.r.r.r 0 MC;let⟨e1,e2,dat,ts,qW,hge⟩:=hE;have Q:0<gs1.size:=Z
 have C:=x.I.r;have hY:=λb q z=>C.I 0 Q b (Ã z) q;have H:E.Y e:=Ç<|Ã U;have yG:∀k,k<=fK f J->E.Y (g k):=λk W=>Ã<|Ç ⟨k,W,U⟩;have Sx:E.Y h:=Ã<|Ã U;let⟨hip,akg⟩:=x.akb hf hn;have hmd:E.S.md=fK f J:=by rw[hip];rfl
 let⟨HO,⟨Z2,Sy,ME⟩,_⟩:=x.M.M (fK f J) Z;have K:=C.N;refine⟨g,r,t,B,D,e,m,p,h,⟨a1,Z,Z,λk W=>by have:=Ss k W;omega⟩,N1+N2,E.Y,w1.heap.size,MA,Sv,gs2,w2,MB,t2,g2,?_,Z,MD,N.r,K h Sx,?_,e1,Hy.M E.I _ _<|u1 w2<|c2.r.r.r 0 MC,c2,⟨dat.e,dat.d,λk P X=> ?_,λi hi=> ?_,?_,?_,(⟨show e≠h by omega,show m≠h by omega,show g (fK f J)≠h by have:=Ss (fK f J)<|Û _;omega⟩),⟨ts,qW,hge⟩,?_,?_⟩⟩
 .rwa[runNT_add,show Ζ Ä N1 (Ķ o w S) qJ=_ from r1]
 .have:=K h Sx;omega
 .have a:k<=fK f J:=X;refine Ŋ (N.M ⟨e,_,Á⟩ (K e H) (hY e H)<|x.a.g k P Z 0 Q)<|x.M.S k P Z
 .let⟨T,v2⟩:=akg i hi;exact Ŋ (N.M ⟨e,_,Á⟩ (K e H) (hY e H)<|v2 0 Q) T
 .refine⟨E.c<|fK f J,Z2,E.V<|fK f J,HO,(Ŋ (N.M ⟨g<|fK f J,2,Á⟩ (K _<|yG _<|Û _) (hY _<|yG _<|Û _)<|x.a.N (fK f J) Z 0 Q) Sy),qU _ _ _ _ _ ME λb q=> ?_,λb q=> ?_⟩
  .let⟨T,v2,v3⟩:=x.a.I (fK f J) Z b q;exact N.jR b T (v3 0 Q) λa ha z=>v2<|ha▸C.e 0 Q a (Ã z)
  .let⟨T,v2,v3⟩:=x.a.I (fK f J) Z b q;exact⟨È T N.r,λz=>v2<|z▸Sx⟩
 .refine⟨È (K e H) N.r,c2.r.r.fx 0 MC m<|Ç dat.c,È (K _<|yG _<|Û _) N.r⟩
 .let⟨a,y2,_⟩:=(x.M.M 0<|ĉ _).2.2 U;exact⟨Ŋ (N.M ⟨e,J,Á⟩ (K e H) (hY e H)<|x.a.Qd Hy.C 0 Q) a,(N.Y e (K e H)<|hY e H).trans y2⟩
 .let⟨_,_,a⟩:=(x.M.M 0<|ĉ _).2.2 U;exact⟨N.C.trans a.1,N.I.trans a.2⟩
end
def Sz(a:ξ->Prop)(w:ß):fe where
 O:=λb=>b<w.heap.size/\∀x:ã,x.block=b->¬a (Ā x)
 I:=λ_=>False
 r:=λ_=>False
 N:=λ_=>False
 K:=λ_=>False
 q:=False
 d:=0
 w:=w
def Z3(a:ξ->Prop)(w:ß):gw (Sz a w):= ⟨λ_ _ h=>h,λ_ h=>h.elim,λ_ h=>h.elim (λq=>q.elim) λq=>q.elim,λ_ h=>h.elim (λq=>q.1) λq=>q.elim,λ_ h=>h.elim (λq=>q.elim) λq=>q.elim,λ_ h=>h.elim⟩
structure vT(jl:ξ->Prop)(H:Nat)(l:fe):Prop where
 r:∀x:ã,jl (Ā x)->x.block<H
 fq:∀b,l.O b->∀x:ã,x.block=b->¬jl (Ā x)
 C:H<=l.w.heap.size
inductive zw(M:xB):Nat->M.γ->Prop
 |vm:zw M 0 M.C
 |EC {k:Nat} {s s':M.γ} (h:zw M k s) (hn:M.M k s s'):zw M (k+1) s'
structure G9(M:xB)(R:Nat)(kd:Nat->Int)(l:fe)(an:Nat)(sl:Ð)(l':fe):Prop where
 vt:∀b,l.O b->l'.O b/\l'.w.heap[b]?=l.w.heap[b]?
 ky:l'.O an/\∀p,p<R->l'.w.cell? ⟨an,p,Á⟩=Â (á<|M.I p)
 IX:∃s V,zw M (fK kd R) s/\M.RD s sl V l'.w/\∀b,V b->l'.O b
 d:l'.d=0
 q:¬l'.q
 rd:∀b,¬l'.I b
 zx:(∀a,¬l'.r a)/\(∀a,¬l'.N a)/\∀a,¬l'.K a
 Ek:l'.w.cell? ⟨an,R,Á⟩=Á/\kP l'.w an=Â (0,0)
section
variable{M:xB}{R H:Nat}{kd:Nat->Int}{e:Nat->Nat}{f:List ê}{l:fe}{jl:ξ->Prop}{o:Nat->fe}
def akh{a:Option ã}{s:M.γ}(h:nt ((kB M i n R kd e D O a j b m J j9 j7 qX l).r Ä) k s):zw M k s:=by
 have c:∀(k:Nat) (s:((kB M i n R kd e D O a j b m J j9 j7 qX l).r Ä).γ),nt ((kB M i n R kd e D O a j b m J j9 j7 qX l).r Ä) k s->zw M k s:=λk s h=>by
  induction h with
  |vm=>exact .vm
  |EC _ d f=>exact .EC f d
 exact c k s h
def aki{J:(ξ->Prop)->Nat->Jd}{cf:ê}{a:Š}(yU:qX=cf.at a (Ï Q (i::jJ)::L)::f)(c:rQ Ä jl H (Mz kd e R n v l qX) .fB D o E w qJ)(F:Option (Nat×Nat))(s:gw l)(My:∀b,¬l.I b)(hq:¬l.q)(hd:l.d=0)(S:vT jl H l)(hV:∀b,M.r b->l.O b)(qU:∀s F V w u,M.RD s F V w->(∀b,V b->u.heap[b]?=w.heap[b]?)->M.RD s F V u)(akj:∀s F V w,M.RD s F V w->(∃p m c,F=Æ p m c)/\∀b,V b->l.O b\/l.w.heap.size<=b)(Dd:M.RD M.C v M.r l.w)(xy:w.os=l.w.os/\w.output=l.w.output)(hn:1<=n)(hs:n+R<1000) (hA:∀g ib qb ci cq B ba bi I,l.w.heap.size<=ba->FA (kB M E.size n R kd e g ib qb ci cq B ba bi I qX l)/\FB (kB M E.size n R kd e g ib qb ci cq B ba bi I qX l)) (hJ:∀FC C W B p m c,vT FC C W->gw W->G9 M R kd l B (Æ p m c) W->fi Ä Ô (J FC C) W (G (cf.at (a.put ((Q[i]?).bind (·.dst))<|ñ #[Æ (Â ⟨B,0,Á⟩) R R,Æ p m c])<|Ï Q jJ::L) f)): ∃N FC C T jz IY gs' u td t',Ζ Ä N (Ķ E w F) qJ=(.next<|Ķ gs' u td,t')/\(u.os=l.w.os/\u.output=l.w.output)/\rQ Ä FC C (J FC C) T jz IY gs' u t':=by
 let⟨g,ib,qb,ci,cq,B,ba,bi,I,⟨b1,b2,b3,b4⟩,N,Y,C,jz,IY,gs',u,td,t',g',r,z1,z2,z3,z4,z5,z6,z7,cY,t⟩:=akd c F s My hq hd S.C hV qU Dd xy hn hs hA;let⟨st,Z2,V,HO,Sy,ME,MG⟩:=t.IX;obtain⟨⟨sp,sm,sc,rfl⟩,Z4⟩:=akj _ _ _ _ ME;obtain⟨ts,qW,rfl⟩:=t.Sr;have hH:=S.C;have Z5:=λb q=>s.fx b<|Ã q;have X:∀b,(l.O b\/l.w.heap.size<=b)->b<u.heap.size->b≠I->(Sz (λj=>jl j\/∃x:ã,j=Ā x/\x.block=I) u).O b:=λb hb gJ lk=>by
  refine⟨gJ,λx hx=> ?_⟩;rintro(q|⟨y,P,q2⟩)
  .rcases hb with hb|hb
   .exact S.fq b hb x hx q
   .have:=S.r x q;omega
  .injection P with P;subst P;omega
 have akk:=λb q=>by have h:=t.I b q;rw[ç<|Z5 b q]at h;exact(æ.1 h).1
 have keep:=λb q=>X b (Ã q) (akk b q) (by have:=Z5 b q;omega);have MH:=X B (Ç b1) t.fx.1 t.r.1;have akl:fi Ä Ô (J (λj=>jl j\/∃x:ã,j=Ā x/\x.block=I) C) (Sz (λj=>jl j\/∃x:ã,j=Ā x/\x.block=I) u) (Fz ts qX):=by
  rw[yU];refine ajC (Z3 _ _) (λq=>q) qW (Ã<|X ba (Ç b2) t.fx.2.1 t.r.2.1) (Ã<|Ã<|X _ (Ç<|b4 _<|Û _) t.fx.2.2 t.r.2.2) t.cba Sy λW h=> ?_;refine hJ (λj=>jl j\/∃x:ã,j=Ā x/\x.block=I) C W B sp sm sc ⟨λx q=> ?_,λb q x hx=> ?_,Ø z3 h.I⟩ (h.N<|Z3 _ _) ⟨λb q=>⟨h.O b<|keep b q,(h.r b (Ã<|keep b q) id).trans<|t.I b q⟩,⟨h.O B MH,λp hp=> ?_⟩,⟨st,V,akh HO,qU _ _ _ _ _ ME λb q=>h.r b (Ã<|X b (Z4 b q) (MG b q).1 (MG b q).2) id,λb q=>h.O b<|X b (Z4 b q) (MG b q).1 (MG b q).2⟩,h.d,?_,λb q=> ?_,⟨λa q=> ?_,λa q=> ?_,λa q=> ?_⟩,⟨(gK<|h.r B (Ã MH) id).trans t.C.1,(wS<|h.r B (Ã MH) id).trans t.C.2⟩⟩
  .rcases q with q|⟨y,P,q2⟩
   .exact È (S.r x q) z5
   .injection P with P;subst P;omega
  .rcases h.c b q with q|q
   .exact q.2 x hx
   .have j:u.heap.size<=b:=q;rintro(z|⟨y,z1,z2⟩)
    .have:=S.r x z;omega
    .injection z1 with z1;subst z1;omega
  .refine(gK<|h.r B (Ã MH) id).trans ?_;by_cases hk:kd p=1
   .have hm:p∈gX kd R:=Ć.2 ⟨ù.2 hp,by simpa using hk⟩;let⟨j,y⟩:=ı hm;have P:=(Ğ.1 y).1;have:=t.kH (j+1) Z (show j+1<=fK kd R from P);have e2:(gX kd R).getD (j+1-1) 0=p:=Ó<|(Dc P).symm.trans y;simp only[kB,Mv,e2]at this;exact this
   .have hm:p∈jy kd R:=Ć.2 ⟨ù.2 hp,by simpa using hk⟩;let⟨j,y⟩:=ı hm;have P:=(Ğ.1 y).1;have:=t.Sq j P;simp only[kB,Mv,Ó<|(Dc P).symm.trans y]at this;exact this
  .rw[h.q];exact id
  .rw[h.S]at q;exact q
  .rw[h.Y]at q;exact q
  .rw[h.b]at q;exact q
  .rw[h.K]at q;exact q
 let⟨T,h⟩:=jj akl;exact⟨N,_,C,T,jz,_,gs',u,td,t',r,t.io,cY.Y z6 z2 z7 U U id (λ_=>id) (λ_=>id) (λ_=>id) (λ_=>id) (λb q=>q) h⟩
end
end Go.Proofs.Y.fv
namespace Go.Proofs.Y.fv
open Go Go.Conc Go.Proofs.Y.Lift Go.RowKit Go.Conc.Lib Go.ConcR.Gen
open Go.Proofs Go.Proofs.YtgpphkdoanciiaaGreatDoor
def qj(V:Nat->Prop)(base:Nat):fp:=⟨λi j=>i=j/\V i,base⟩
def akm(V:Nat->Prop)(base:Nat):Bi (qj V base):= ⟨λ_ _ _ h k=>h.1.symm.trans k.1,λ_ _ _ h k=>h.1.trans k.1.symm,λi j h=>by rw[h.1]⟩
def lr(j:Nat):Bool:=j==3||j==4
def uG(c:Array Ð):Array Ð:=c.extract 0 16
def akn(c:Array Ð):(uG c).size=min 16 c.size:=by simp[uG]
open Classical in
noncomputable def pz (a:Nat->Prop) (j:Nat):Η->Η
 |Ê c e b=>if a j then(if lr j=Ô then Ê (uG c) e (0,(uG c).size)else Ê c e (0,c.size))else Ê c e b
 |_=>Ê #[] 0
noncomputable def kZ (Sh:Nat->Prop) (w:ß):ß:={w with heap:=w.heap.mapIdx (pz Sh)}
section
variable{V Sh:Nat->Prop}{base:Nat}
def FD(j:Nat):(kZ Sh w).heap[j]?=(w.heap[j]?).map (pz Sh j):=by simp[kZ,Array.getElem?_mapIdx]
def Z6:j5 (kZ Sh w):=λi o h=>by
 rw[FD]at h;obtain⟨x,_,rfl⟩:=Ī.1 h;cases x<;>simp only[pz]<;>try exact id
 split
 .split<;>exact id
 .exact id
structure MI(V Sh:Nat->Prop)(base:Nat)(w:ß):Prop where
 Sr:∀b,V b->∃c e fr,w.heap[b]?=Â (Ê c e fr)/\fr.2<=c.size/\fQ (qj V base) c c/\(Sh b->0<c.size/\(lr b=Ô->(e=304\/e=305)/\fr.2<=16)/\(lr b=Í->Eh c))
 fx:base<=w.heap.size
def ako(h:MI V Sh base w):rB (qj V base) Sh (kZ Sh w) w:=by
 refine⟨U,U,akm V base,by show base<=(w.heap.mapIdx<|pz Sh).size;rw[Array.size_mapIdx];exact h.fx,h.fx,λi j o=> ?_⟩;obtain⟨rfl,p⟩:=o;let⟨c,e,a,b,l,f,r⟩:=h.Sr i p;have g:(kZ Sh w).heap[i]?=Â (pz Sh i<|Ê c e a):=by rw[FD,b];rfl
 by_cases s:Sh i
 .let⟨t,u,v⟩:=r s;cases d:lr i with
  |true=>
   let⟨x,y⟩:=u d;have z:=akn c;have m:GF e (uG c).size:=⟨x,Z⟩;refine⟨uG c,c,e,(0,(uG c).size),a,?_,b,⟨λk B n=> ?_,Z,Ç ⟨s,m⟩⟩,λ_=>⟨U,Û _,by show a.2<=(uG c).size;omega,Z,Ç m⟩,λq=>absurd s q,Û _⟩
   .show(kZ Sh w).heap[i]?=_;rw[g];simp[pz,s,d]
   .have:(uG c)[k]=c[k]:=by simp[uG]
    rw[this];exact f.C k n n
  |false=>
   refine⟨c,c,e,(0,c.size),a,?_,b,oX.M f,λ_=>⟨U,Û _,l,t,Ã<|v d⟩,λq=>absurd s q,Û _⟩;rw[g];simp[pz,s,d]
 .refine⟨c,c,e,a,a,?_,b,oX.M f,λq=>absurd q s,λ_=>rfl,l⟩;rw[g];simp[pz,s]
end
section
variable{a:Nat->Prop}{l:fe}{V:Nat->Prop}
def FE(B:nO P)(C:o6 P a X)(hF:tL P X)(D:wP vQ){k:Array Ð}(E:X F)(H:P.funcs[F]?=Â s)(I:s.body=Â wX)(r:gw l)(J:¬l.q) (n:∀b,V b->l.M b) (K:MI V (λj=>V j/\¬l.O j) P.globals.size l.w) (L:∀g,a g->V g) (N:fQ (qj V P.globals.size) k k) (Q:∀T,Calls P F k (World.tp (kZ (λj=>V j/\¬l.O j) l.w) T 0) fun|.returned v,e=>vQ v e/\j5 e|_,_=>False) (t:Bool) (o:ê) (p:List ê): fi P t (λh u=>∃(Y:fp) (e:ß) (v m:Ð),(qj V P.globals.size).r Y/\rB Y (λj=>V j/\¬l.O j) e h.w/\fl Y v m/\vQ v e/\u=G (o.finish m) p/\(∀i j,Y i j->h.M j/\(V j\/l.O j\/l.w.heap.size<=j))/\(∀j,l.O j->h.O j)/\h.d=l.d) l (G (Ĉ P F k ĥ)<|o::p):=by
 refine(afS (aeU B C hF D E H I Z6 Q (Y:=qj V P.globals.size) U (λg q=>⟨U,L g q⟩) N (ako K) (λj q=>r.fx j<|n j q.1) (λi j _ q=>(n j q.1).resolve_left q.2) t o p) l U (λj q=> ?_) (λ_ q=>q) (λj q=>r.fx j<|Ã q) J).fN ?_
 .obtain⟨⟨i,rfl,y⟩,x⟩:=q;exact Classical.byContradiction λz=>x ⟨y,z⟩
 .rintro h u ⟨O',⟨Y,e,v,m,S,rfl,W,q3,q4,q5⟩,x,h3,h4,h5,h6,h7,h8,h9,h10,h11,h12⟩;refine⟨Y,e,v,m,S,W,q3,q4,q5,λi j SA=> ?_,h4,h10⟩;by_cases z:V j/\¬l.O j
  .exact⟨Ç (by rw[h7];exact(n j z.1).resolve_left z.2),Ã z.1⟩
  .have y:=h3 j ⟨⟨i,SA⟩,z⟩;exact⟨Ã y,Ç<|h6 j y⟩
end
section
variable{l:fe}{V GL:Nat->Prop}
def FF(s:gw l):gw (lZ l):=by refine⟨λ_ h=>h.elim,λ_ h=>h.elim,λa c d=>s.N a (c.resolve_left id)<|d.resolve_left id,λb d=>s.fx b<|d.resolve_left id,λa c=>s.I a<|c.resolve_left id,λa c=>⟨λq=>(s.S a c).1<|q.resolve_left id,(s.S a c).2.1,id⟩⟩
structure FG(GL:Nat->Prop)(f:ł)(args:Array Ð)(l:fe)(V:Nat->Prop)(kU:Ð->ß->Prop):Prop where
 N:∀b,V b->l.M b
 S:MI V V Ä.globals.size l.w
 I:∀g,GL g->V g
 r:fQ (qj V Ä.globals.size) args args
 C:∀T,Calls Ä f args (World.tp (kZ V l.w) T 0) fun|.returned v,u'=>kU v u'/\j5 u'|_,_=>False
def akp(m:nO Ä)(n:o6 Ä GL X)(hF:tL Ä X)(e:X 67){D:SD}(h:∀i s d W l,i<D.q->nt (D.r Ä) (D.a i) s->D.RD s d W l.w->(∀b,W b->l.M b)->gw l->¬l.q->(∀b,D.c b->l.M b)->D.RC l.w->∃V,FG GL 67 #[d,À<|D.h i] l V λv _=>v=á (D.i i)):FB D:=by
 intro i s d W l o p r t f g x y z B;let⟨V,a⟩:=h i s d W l o p r t f g x y;let⟨G,c,C,E⟩:=hF 67 e;have k:(λj=>V j/\¬(lZ l).O j)=V:=by funext j;exact propext ⟨λq=>q.1,λq=>⟨q,id⟩⟩
 refine(FE m n hF (λv u T D h=>h) e C E (FF f) g (λb q=>Ç<|a.N b q) (by rw[k];exact a.S) a.I a.r (by rw[k];exact a.C) Í z B).fN ?_;rintro H I ⟨Y,J,v,K,_,_,j,u,T,_,_,F⟩;subst u;cases j;exact⟨F,T⟩
def akq(Q:nO Ä)(S:o6 Ä GL X)(hF:tL Ä X)(E:X 66){D:SD}(Rg:D.γ->Ð->ß->Prop)(hRg:∀s d u T n,Rg s d u->Rg s d (World.tp u T n)) (h:∀k s d W l,k<D.m->nt (D.r Ä) k s->D.RD s d W l.w->(∀b,W b->l.M b)->gw l->¬l.q->(∀b,D.c b->l.M b)->D.RC l.w->∃V,FG GL 66 #[d,À<|D.l<|k+1] l V (λv u=>∃p n c a,v=ñ #[Æ p n c,á<|D.d<|k+1]/\D.g k s a/\Rg a (Æ p n c) u)/\ ∀Y Sh u w a d F,rB Y Sh u w->fl Y d F->Rg a d u->(∀i j,Y i j->V j\/l.w.heap.size<=j)->∃e,D.RD a F e w/\∀b,e b->∃i,Y i b):FA D:=by
 intro k s d W l hk hr qU hW G H hRB hRC cl lM;let⟨V,f,tr⟩:=h k s d W l hk hr qU hW G H hRB hRC;let⟨fn,c,hf,g⟩:=hF 66 E;have I:(λj=>V j/\¬(lZ l).O j)=V:=by funext j;exact propext ⟨λq=>q.1,λq=>⟨q,id⟩⟩
 refine(FE Q S hF (λv u T D h=> ?_) E hf g (FF G) H (λb q=>Ç<|f.N b q) (by rw[I];exact f.S) f.I f.r (by rw[I];exact f.C) Í cl lM).fN ?_
 .let⟨p,n,c,a,t,o,r⟩:=h;exact⟨p,n,c,a,t,o,hRg _ _ _ _ _ r⟩
 .rintro l' g' ⟨Y,u',v,v',_,q2,q3,⟨p,n,c,a,rfl,o,r⟩,J,t,_,K⟩;cases q3 with
  |@nL _ cs'' hs mA=>
   let⟨ls⟩:=cs'';match ls,hs with
   |[x,y],_=>
    have B:=mA 0 fj fj;have L:=mA 1 fj fj;simp at B L;cases L;let⟨e,N,P⟩:=tr Y _ u' l'.w a _ x q2 B r λi j SA=>(t i j SA).2.imp id λz=>z.resolve_left id;cases B with
    |nK=>exact⟨K,Á,n,c,J,a,e,o,N,λb g=>by let⟨i,C⟩:=P b g;exact(t i b C).1⟩
    |kO=>exact⟨K,_,n,c,J,a,e,o,N,λb g=>by let⟨i,C⟩:=P b g;exact(t i b C).1⟩
end
end Go.Proofs.Y.fv
namespace Go.Proofs.Y.Lift
open Go
def FH(a:Nat->Bool):Į->Bool
 |ò (Ě cs)=>cs.toList.all yw
 |ò (ñ cs)=>cs.toList.all yw
 |x=>wR a x
def Z7(a:Nat->Bool)(x:Į):FH a x=wR a x:=by
 cases x with
 |const v=>cases v<;>simp[FH,wR,Pp,Ĥ]
 |_=>rfl
def MJ(P:Ġ)(a:Nat->Bool)(b c:ł->Bool)(o:å):Bool:=(Eu P b o.op&&o.op.operands.toList.all (FH a))||(PK P c o.op&&o.op.operands.toList.all (FH a))
def MK(a:Nat->Bool)(b c:ł->Bool)(o:å):MJ P a b c o=Ew P a b c o:=by have:(FH a)=wR a:=funext<|Z7 a;simp[MJ,Ew,Py,this,Ĥ]
def qY(P:Ġ)(a:Nat->Bool)(b d:ł->Bool):ġ->Bool
 |ρ|Ř|.label _|ř _|.goto _=>Ô
 |.seq x y=>qY P a b d x&&qY P a b d y
 |ŗ c x y=>FH a c&&qY P a b d x&&qY P a b d y
 |Ħ _ c|.loop c|.scope c=>qY P a b d c
 |à _ c _=>c.toList.all<|MJ P a b d
 |.refuse _=>Ô
 |_=>Í
def zy(a:Nat->Bool)(b d:ł->Bool):∀c:ġ,qY P a b d c=nS P a b d c
 |ρ|Ř|.label _|ř _|.goto _|.refuse _|.rangeFunc _ _ _ _=>rfl
 |.seq x y=>by simp only[qY,nS,zy a b d x,zy a b d y]
 |ŗ c x y=>by simp only[qY,nS,Z7,zy a b d x,zy a b d y]
 |Ħ _ c|.loop c|.scope c=>by simp only[qY,nS,zy a b d c]
 |à _ x _=>by have:MJ P a b d=Ew P a b d:=funext<|MK a b d;simp only[qY,nS,this,Ĥ]
end Go.Proofs.Y.Lift
namespace Go.Proofs.Y.fv
open Go Go.Conc Go.Proofs.Y.Lift Go.RowKit Go.Conc.Lib Go.ConcR.Gen
open Go.Proofs Go.Proofs.YtgpphkdoanciiaaGreatDoor
def Z8:List Nat:=[35,38,44,54,55,56,60,66,67,78,79,103,113,114,115,116,117,118,119,120,121,122,123,124,125,126,153,154,155,156,157,158,159,160,161,162,168,169,170,171,172,173,174,175,176,177,178,186,187,188,189,190,191,192,193,194,196,197,198,199,200,201,202,203,204,205,206,207,208,209,210,211]
def xC(g:Nat):Bool:=[1,2,3,4].contains g
def xD(f:Nat):Bool:=Z8.contains f
def zz(f:Nat):Bool:=[129,130].contains f
def De(P:Ġ)(f:Nat):Bool:=match P.funcs[f]? with
 |some a=>match a.body with
  |some c=>qY P xC xD zz c
  |none=>Í
 |none=>Í
def akr:Z8.all (De Ä)=Ô:=by rfl
def Z9(h:xD i=Ô):De Ä i=Ô:=(ŕ.1 akr) i<|by simpa[xD]using h
def aks(h:De P i=Ô):∃a c,P.funcs[i]?=Â a/\a.body=Â c:=by
 unfold De at h;split at h
 .rename_i a b;split at h
  .rename_i c d;exact⟨a,c,b,d⟩
  .cases h
 .cases h
def akt(h:De P i=Ô)(a:P.funcs[i]?=Â s)(b:s.body=Â wX):qY P xC xD zz wX=Ô:=by unfold De at h;rw[a]at h;simp only[b]at h;exact h
def a_:tL Ä (λf=>xD f=Ô):=λ_ h=>aks<|Z9 h
def aku[Aq P](h:∀f,xD f=Ô->De P f=Ô)(a:Hd P zz):o6 P (λg=>xC g=Ô) (λf=>xD f=Ô):=λf g e c b d=>by have:=akt (h f g) b d;rw[zy]at this;exact vq a this
instance atJ:Aq Ä:=⟨λe n h=>by
 have h1:Ä.cellsOf 304=32:=ft
 have h2:Ä.cellsOf 305=64:=ft
 obtain⟨rfl|rfl,h3⟩:=h
 .rw[h1];omega
 .rw[h2];omega⟩
def akv(a:Hd Ä zz):o6 Ä (λg=>xC g=Ô) (λf=>xD f=Ô):=aku (λ_ h=>Z9 h) a
def FI:Hd Ä zz:=λf h=>by
 have:f=129\/f=130:=by simpa[zz]using h
 rcases this with rfl|rfl
 .exact⟨_,Extern.AbiNoEscape.same,Tryz.func129,fP,fP,fP,fP,λ_ v a h=>afi v a h,afj⟩
 .exact⟨_,Extern.BytealgMakeNoZero.makeNoZero #[3] #[107],Tryz.func130,fP,fP,fP,fP,λ_ v a h=>afk #[3] 107 v a h,afl #[3] 107⟩
def b_:o6 Ä (λg=>xC g=Ô) (λf=>xD f=Ô):=akv FI
end Go.Proofs.Y.fv
namespace Go.Proofs.Y.Lift
open Go Go.Conc
section
variable{Y:fp}{b:ł->Prop}
def akw{e:Array Ð->Sem Ð}{y:Į}{C:Array Ż}(d:o.op=Ď {callee:=ü<|ċ F,args:=#[qQ,y],argTypes:=C})(i:P.funcs[F]?=Â s)(j:(s.name== "runtime.NumGoroutine")=Í)(k:s.body.isNone=Ô)(l:Extern.findNext s=Á)(m:Extern.find s=Â e) (D:∀(Y:fp) (v q z r:Ð),fl Y v q->fl Y z r->fG P fl Y (e #[v,z]) (e #[q,r])) (E:∀v z,fD P<|e #[v,z]) (G:∀y∈o.op.operands,mq X y):mK P X b o:=by
 have c:∀a:Š,đ a.eval o=Ů F #[a.eval qQ,a.eval y]:=by intro a;unfold đ;rw[d];simp only[Ξ,ę,Ģ,invoke,pure_bind,Array.empty_append,Array.append_empty,List.map_toArray,List.map_cons,List.map_nil]
 have t:∀(v z:Ð) (u:ß),(Ů F #[v,z]).run P u=(mark (.extern F)>>=λ_=>e #[v,z]>>=λy=>pure (Next.value y):Sem Next).run P u:=by intro v z u;unfold Ů;rw[ō,run_program];simp only[Result.andThen_ok,i,j,k,l,m,ĝ,if_false,if_true]
 refine WW (λY a w _ _ _ h=> ?_) (λa=> ?_) (λa u n H g=> ?_) G
 .rw[c,c];have I:=h qQ (by rw[d];simp[Ś,Call.operands]);have J:=h y (by rw[d];simp[Ś,Call.operands]);unfold Ů;refine .gp (fF rm ?_);rintro M p N w ⟨K,L⟩;rw[K,L];simp only[i,j,k,l,m,ĝ,if_false,if_true];apply fF (V:=jq) (.Eg (Ç ⟨F,U⟩) (.fE U));intro O _ _ B _;exact mJ<|D _ _ _ _ _ ((I.fN w).fN B)<|(J.fN w).fN B
 .rw[c];exact Kt (t _ _)<|gl (G3 _) λ_=>lP<|E _ _
 .rw[c,t,ō]at g;simp only[mark,σ,Result.andThen_ok]at g;have:σ P (e #[a.eval qQ,a.eval y]>>=λy=>pure (Next.value y):Sem Next) u=.ok n H:=g;rw[ō]at this;cases h:(e #[a.eval qQ,a.eval y]).run P u with
  |ok v w=>rw[h]at this;cases this;exact⟨v,U⟩
  |halt z w=>rw[h]at this;cases this
def c_:∀(n:Nat) {Y:fp} {a b:ã} (c:ByteArray),gY Y a b->fG P jq Y (ô a n c) (ô b n c)
 |0,_,_,_,_,_=> .fE U
 |n+1,Y,a,b,c,h=>by
  unfold ô;refine fF (Kj h) ?_;intro f v g d e;cases e<;>first|exact .fO|skip
  rename_i k z;cases k<;>first|exact .fO|skip
  exact c_ n _<|(h.r d).C 1
def d_:∀(n:Nat) (a:ã) (b:ByteArray),fD P<|ô a n b
 |0,_,_=>gA _
 |n+1,a,b=>by
  unfold ô;refine gl (G4 _ _) λv=> ?_;split
  .exact d_ n _ _
  .exact jd _
def akx(h:fl Y v x):fG P jq Y (ÿ v) (ÿ x):=by
 cases h<;>first|exact .fO|exact .fE U|skip
 exact c_ _ _<|by assumption
def aky(v:Ð):fD P (ÿ v):=by
 unfold ÿ;split
 .exact gA _
 .exact gA _
 .exact d_ _ _ _
 .exact jd _
def akz(h:fl Y v x):fG P jq Y (Ă v) (Ă x):=by
 cases h<;>first|exact .fO|skip
 rename_i k z;cases k<;>first|exact .fO|exact .fE U
def akA(v:Ð):fD P (Ă v):=by
 unfold Ă;split
 .exact gA _
 .exact jd _
def akB(v a z b:Ð)(h:fl Y v a)(k:fl Y z b):fG P fl Y (õ #[v,z]) (õ #[a,b]):=by
 apply fF (akx h);rintro j s d e f;obtain rfl:s=d:=f;apply fF (akz<|k.fN e);rintro l c g m i;obtain rfl:c=g:=i;split
 .exact .fE (.iF _ _)
 .exact .fE (.iF _ _)
def akC(v z:Ð):fD P (õ #[v,z]):=by
 refine gl (aky v) λs=>gl (akA z) λc=> ?_;split
 .exact gA _
 .exact gA _
end
end Go.Proofs.Y.Lift
namespace Go.Proofs.Y.fv
open Go Go.Conc Go.Proofs.Y.Lift
open Go.Proofs Go.Proofs.YtgpphkdoanciiaaGreatDoor
def SB:List Nat:=[16,18,21,23,24,25,28,29,30,31,35,44,60,38,54,55,56,78,79,36,45,61,94,95,96,97,98,99,100,101,102,103,104,145,146,147,148,149]
def FJ(f:Nat):Bool:=SB.contains f||f==167
def ML(_:Nat):Bool:=Í
def MN(P:Ġ)(f:Nat):Bool:=match P.funcs[f]? with
 |some a=>match a.body with
  |some c=>qY P ML FJ zz c
  |none=>Í
 |none=>Í
def akD:SB.all (MN Ä)=Ô:=by rfl
def f_(h:SB.contains i=Ô):MN Ä i=Ô:=(ŕ.1 akD) i<|by simpa using h
def g_(h:MN P i=Ô):∃a c,P.funcs[i]?=Â a/\a.body=Â c/\qY P ML FJ zz c=Ô:=by
 unfold MN at h;split at h
 .rename_i a b;split at h
  .rename_i c d;exact⟨a,c,b,d,h⟩
  .cases h
 .cases h
def zD:tL Ä (λf=>FJ f=Ô):=λf h=>by
 rcases ĵ.1 h with q|q
 .let⟨a,c,b,d,_⟩:=g_<|f_ q;exact⟨a,c,b,d⟩
 .rw[beq_iff_eq]at q;subst q;exact⟨_,_,ź,U⟩
def akE(h:ε.body=Â wX):kG Ä (λg=>ML g=Ô) (λf=>FJ f=Ô) wX:=by
 unfold ε at h;cases h;refine .ry (vq FI<|by rw[<-zy];rfl) (.ry (.tK _ _ λo f=> ?_) .vj);simp only[List.mem_toArray,List.mem_cons,List.not_mem_nil,or_false]at f;rcases f with rfl|rfl|rfl|rfl
 .exact KR FI<|by rw[<-MK];rfl
 .exact KR FI<|by rw[<-MK];rfl
 .exact akw U Tryz.func185 fP fP fP fP (λ_ v g z o=>akB v g z o) akC λy g=>KL (by simp[Ś,Call.operands]at g;rcases g with rfl|rfl|rfl<;>rfl)
 .exact KR FI<|by rw[<-MK];rfl
def MO:o6 Ä (λg=>ML g=Ô) (λf=>FJ f=Ô):=λf h i c g a=>by
 rcases ĵ.1 h with q|q
 .let⟨j,k,b,d,e⟩:=g_<|f_ q;rw[g]at b;cases b;rw[a]at d;cases d;rw[zy]at e;exact vq FI e
 .rw[beq_iff_eq]at q;subst q;rw[ź]at g;cases g;exact akE a
end Go.Proofs.Y.fv
