import Derived.Test.YtgpphkdoanciiaaGreatDoorWAB
import Derived.Conc.AppendWalk
import Derived.Conc.TokenWalk
set_option linter.all false
set_option maxRecDepth 1000000
set_option maxHeartbeats 8000000
open Go.Value renaming pointer->À,slice->Æ,int->É,oneCell'->Ú,string->á,chan->è,tuple->ñ,func->Ď,agg->ę,bool->Ĭ,cells->Β
open Option renaming none->Á,some->Â,isSome_iff_exists->Ö,map_eq_some_iff->ĩ,isSome_none->Ļ,getD_some->Ŏ
open Or renaming inl->Ã,inr->Ç
open Go.Proofs.Tryz renaming prog->Ä,t155->ĉ,f46->Ģ,t9->Ĩ,func47->Į,underlying101->ľ,type155->ņ,underlying85->Ň,underlying25->ň,f52->ŧ,func167->Ÿ,func63->Ż,func48->ż,func49->Ž,func50->ž,func51->ſ,func46->Α,func52->Γ,t101->Τ,f167->Χ,f49->η,f63->θ,f47->ι
open Go renaming undef->Å,Value->Ð,Goroutine->Ý,World->ß,events_store->â,Addr->ã,Oper->å,getD_set_ne->ç,Frame->é,deafBehind->ď,execOp->Đ,Program->ğ,Code->Ġ,Operand->ĭ,FuncId->Ł,Act->ŝ,maxLen->Ť,size_madeCells->Ū,callFunc->ū,yielded->Ŵ,TypeId->Ź,Item->ź,runNT->Δ,Obj->Ε,Trace->Ι,TypeInfo->Κ,Event->Λ,resolve->Μ,Loc->κ
open Nat renaming lt_of_lt_of_le->È,le_trans->Ø,le_refl->Û,add_sub_cancel->ù,zero_le->Ĉ,zero_add->ĕ,mod_lt->Ŀ,lt_succ_of_lt->ł,le_of_lt->ŋ,reduceAdd->ŭ,sub_zero->ŵ,sub_self->Ŷ
open Go.Obj renaming cells->Ê,chan->Ŧ
open Go.Conc.Goes renaming stop->Ë
open Go.Ground renaming phase->Ì,data->Õ,textOnly->Þ,gcOnly->ø,chain->ų
open Bool renaming false->Í,true->Ó,or_eq_true_iff->ĳ,false_eq_true->ŀ
open Go.IntKind renaming i64->Î,u64->ë,u32->ú,wrap_i64->Ρ
open Go.Item renaming inRegion->Ï,inBlock->ï,code->ö,inLoop->Ā
open Go.Departure renaming lateStores->Ñ
open Go.Operand renaming tmp->Ò,const->ò,func->Ċ
open Option.some renaming inj->Ô
open Go.World renaming cell?->Ù,frozen?->ð,setCell->ă,alloc->œ
open Go.Region renaming ready->Ü,Mode->Ă,wanted->Ğ
open Go.Code renaming region->à,block->ĥ,cond->Ŕ,skip->ŕ,exit->Ŗ,ret->ο
open List renaming range->ä,range_succ->Ą,mem_filter->ą,filter_append->Ć,flatMap_cons->ċ,mem_range->ě,setIfInBounds_toArray->Ĝ,getElem?_eq_some_iff->ĝ,length_filter_le->ī,mem_of_getElem?->į,getElem?_of_mem->İ,set_cons_succ->ļ,set_cons_zero->Ľ,size_toArray->Ņ,length_cons->ŏ,nodup_range->ő,all_eq_true->Œ,length_nil->ř
open Array renaming getElem?_eq_some_iff->æ,getElem?_eq_getElem->í,getElem?_modify->î,getD_eq_getD_getElem?->Ė,all_toList->ģ
open Go.Op renaming fieldAddr->ê,move->ü,load->Č,call->č,nilCheck->Ĕ,assign->Ĳ,binOp->Ń,operands->ŗ,extract->Ş,indexAddr->ş,makeFunc->ů,store->Ų
open Go.Region.linearise renaming go->ì
open Go.MemAct renaming ofEvent->ó
open Go.Extern.Bytes renaming loadBytes->ô,bytesOf->þ,asByte->ā
open Go.Extern.BytealgIndexByte renaming indexByte->õ
open Go.Callee renaming value->û,builtin->ť
open Go.Fn renaming func->ý
open Go.Loc renaming cell->ÿ
open Go.Frame renaming enter->ć,finish_at->Ī
open Go.Instr renaming build->đ,makeSlice->Ŝ
open Go.GoStatus renaming running->Ē,finished->Ű
open Go.Conc renaming mem_ofEvents->ē,mem_listed->Ě,seen_none->ı,crowd->Ĵ,stepG_region->ń,events_call_body->Ō,stepG_semrelease->ō,deafBehind_still->Ő,listed->Ũ,handedOver_app->ũ,stepG_seq->Ů,stepG_comm->Θ
open Go.ConcR.Gen renaming x_semrelease_b->ė,x_enable_n->ķ,x_enable_b->ĸ,x_enable_x->Ĺ,x_enable_f->ĺ,x_semrelease_n->š,x_semrelease_x->Ţ,x_semrelease_f->ţ,mayWake_entry->Ŭ,nm_add->Η
open Go.Act renaming eval->Ę,put->ξ
open Go.Deferred renaming ofValue->ġ
open Go.CallKind renaming normal->Ĥ,early->Ζ
open Go.Mark renaming enable->Ħ
open Go.Addr renaming add_lit->ħ
open Eq renaming trans->ŉ
variable{i n j b k m J j9 j7 j6:Nat}{w u W jX:ß}{v x z jQ:Ð}{g:Ý}{a p:ã}{h c:Int}{e t T:Ź}{d q:Array Ð}{P:ğ}{y:ŝ}{B:ByteArray}{X:Nat->Prop}{O:Option ã}{l:List Ð}{yQ:Bool}{K H:ŝ->ß->Prop}{o:å}{D:Nat->Nat}{E:Array Ý}{L:List ź}{jJ:List Nat}{qX:List é}{qQ:ĭ}{qJ:Ι}{zX:κ->Prop}{zQ:List Int}{zJ:Κ}{xX:ĭ->Ð}{xQ:Go.Tape}{xJ:Nat×Nat}{wX:Ġ}{wQ:Go.MemOp}{wJ:Array Bool}{vX:List ByteArray}{vQ:Ð->ß->Prop}{vJ:Go.Exit->ŝ->ß->Prop}{yX:Ă}{Q:Array å}{f:é}{V:Array Λ}{F:Ł}{s:Go.Func}
namespace Go.Proofs.Y.fq
open Go Go.Conc Go.Proofs.Y.Lift Go.RowKit Go.Conc.Lib Go.ConcR.Gen
open Go.Proofs Go.Proofs.YtgpphkdoanciiaaGreatDoor
def H8:å:=⟨Â 13,ê 155 (Ò 5) 3,0, "work.go:57",#[],Á⟩
def E5:å:=⟨Â 14,Č 86<|Ò 13,86, "work.go:57",#[⟨0,Õ⟩],Á⟩
def H9:å:=⟨Â 15,ü<|Ò 1,25, "work.go:57",#[{on:=18,ground:=ø Ñ}],Á⟩
def Ia:å:=⟨Â 16,ê 155 (Ò 5) 1,0, "work.go:57",#[{on:=18,ground:=ø Ñ}],Á⟩
def E6:å:=⟨Â 17,Č 3<|Ò 16,3, "work.go:57",#[⟨3,Õ⟩,{on:=18,ground:=ø Ñ}],Á⟩
def Ib:å:=⟨Â 18,ê 155 (Ò 5) 2,0, "work.go:57",#[],Á⟩
def E7:å:=⟨Â 19,Č 86<|Ò 18,86, "work.go:57",#[⟨5,Õ⟩],Á⟩
def E8:å:=⟨Â 20,Ĕ<|Ò 19,0, "work.go:57",#[⟨6,Õ⟩],Á⟩
def E9:å:=⟨Â 21,ê 105 (Ò 20) 1,0, "work.go:57",#[⟨7,Õ⟩],Á⟩
def Fa:å:=⟨Â 22,Č 65<|Ò 21,65, "work.go:57",#[⟨8,Õ⟩],Á⟩
def Ic:å:=⟨Â 23,ê 155 (Ò 5) 0,0, "work.go:57",#[],Á⟩
def Fb:å:=⟨Â 24,Č 148<|Ò 23,148, "work.go:57",#[⟨10,Õ⟩],Á⟩
def Cr:å:=⟨Â 25,č {callee:=û<|Ċ 66,args:=#[Ò 22,Ò 24],argTypes:=#[65,148]},163, "work.go:57",#[⟨9,Õ⟩,⟨11,Õ⟩],Á⟩
def vC:å:=⟨Â 12,ü<|Ò 25,163, "work.go:57",#[⟨12,Õ⟩],Á⟩
def Cs:å:=⟨Â 26,Ş (Ò 12) 0,65, "work.go:57",#[⟨13,Õ⟩],Á⟩
def Ct:å:=⟨Â 27,Ş (Ò 12) 1,9, "work.go:57",#[⟨13,Õ⟩,{on:=18,ground:=ø Ñ}],Á⟩
def Fc:å:=⟨Â 28,Ĕ<|Ò 14,0, "work.go:57",#[⟨1,Õ⟩,⟨0,Ì⟩,⟨1,Ì⟩,{on:=2,ground:=Þ Ñ},{on:=3,ground:=Þ Ñ},{on:=4,ground:=Þ Ñ},⟨5,Ì⟩,⟨6,Ì⟩,⟨7,Ì⟩,⟨8,Ì⟩,⟨9,Ì⟩,⟨10,Ì⟩,⟨11,Ì⟩,⟨12,Ì⟩,⟨13,Ì⟩,⟨14,Ì⟩,{on:=15,ground:=Þ Ñ}],Á⟩
def Fe:å:=⟨Â 29,ê 105 (Ò 28) 1,0, "work.go:57",#[⟨16,Õ⟩,⟨0,Ì⟩,⟨1,Ì⟩,{on:=2,ground:=Þ Ñ},{on:=3,ground:=Þ Ñ},{on:=4,ground:=Þ Ñ},⟨5,Ì⟩,⟨6,Ì⟩,⟨7,Ì⟩,⟨8,Ì⟩,⟨9,Ì⟩,⟨10,Ì⟩,⟨11,Ì⟩,⟨12,Ì⟩,⟨13,Ì⟩,⟨14,Ì⟩,{on:=15,ground:=Þ Ñ}],Á⟩
def Cu:å:=⟨Á,Ų 65 (Ò 29)<|Ò 26,0, "work.go:57",#[⟨17,Õ⟩,⟨14,Õ⟩,⟨12,ų⟩,⟨0,Ì⟩,⟨1,Ì⟩,{on:=2,ground:=Þ Ñ},{on:=3,ground:=Þ Ñ},{on:=4,ground:=Þ Ñ},⟨5,Ì⟩,⟨6,Ì⟩,⟨7,Ì⟩,⟨8,Ì⟩,⟨9,Ì⟩,⟨10,Ì⟩,⟨11,Ì⟩,⟨12,Ì⟩,⟨13,Ì⟩,⟨14,Ì⟩,{on:=15,ground:=Þ Ñ}],Á⟩
def Cv:å:=⟨Â 30,ş 25 (Ò 15)<|Ò 17,0, "work.go:57",#[⟨2,Õ⟩,⟨4,Õ⟩,⟨0,Ì⟩,⟨1,Ì⟩,⟨2,Ì⟩,⟨3,Ì⟩,⟨4,Ì⟩,⟨5,Ì⟩,⟨6,Ì⟩,⟨7,Ì⟩,⟨8,Ì⟩,⟨9,Ì⟩,⟨10,Ì⟩,⟨11,Ì⟩,⟨12,Ì⟩,⟨13,Ì⟩,⟨14,Ì⟩,⟨15,Ì⟩,⟨16,Ì⟩,⟨17,Ì⟩,⟨18,Ì⟩],Á⟩
def Cw:å:=⟨Á,Ų 9 (Ò 30)<|Ò 27,0, "work.go:57",#[⟨19,Õ⟩,⟨15,Õ⟩,⟨18,ų⟩,⟨0,Ì⟩,⟨1,Ì⟩,⟨2,Ì⟩,⟨3,Ì⟩,⟨4,Ì⟩,⟨5,Ì⟩,⟨6,Ì⟩,⟨7,Ì⟩,⟨8,Ì⟩,⟨9,Ì⟩,⟨10,Ì⟩,⟨11,Ì⟩,⟨12,Ì⟩,⟨13,Ì⟩,⟨14,Ì⟩,⟨15,Ì⟩,⟨16,Ì⟩,⟨17,Ì⟩,⟨18,Ì⟩],Á⟩
def zi:Array å:=#[H8,E5,H9,Ia,E6,Ib,E7,E8,E9,Fa,Ic,Fb,Cr,vC,Cs,Ct,Fc,Fe,Cu,Cv,Cw]
def mW(tb a b c N d:Nat)(e f:Ð)(x:(Option Addr×Nat×Nat)×ByteArray):Nat->Ð
 |0=>À<|Â ⟨tb,3,Á⟩
 |1=>À<|Â ⟨b,0,Á⟩
 |2=>Æ (Â ⟨c,0,Á⟩) N N
 |3=>À<|Â ⟨tb,1,Á⟩
 |4=>É Î d
 |5=>À<|Â ⟨tb,2,Á⟩
 |6=>À<|Â ⟨a,0,Á⟩
 |7=>À<|Â ⟨a,0,Á⟩
 |8=>À<|Â ⟨a,2,Á⟩
 |9=>f
 |10=>À<|Â ⟨tb,0,Á⟩
 |11=>e
 |12=>ñ #[Æ x.1.1 x.1.2.1 x.1.2.2,á x.2]
 |13=>ñ #[Æ x.1.1 x.1.2.1 x.1.2.2,á x.2]
 |14=>Æ x.1.1 x.1.2.1 x.1.2.2
 |15=>á x.2
 |16=>À<|Â ⟨b,0,Á⟩
 |17=>À<|Â ⟨b,2,Á⟩
 |19=>À<|Â ⟨c,d,Á⟩
 |_=>Å
structure Ff(il:e9)(ga gb an pl:Nat)(s8:Ð)(Q:Ð->ByteArray->e9->Prop)(listed:Array Bool)(x:(Option Addr×Nat×Nat)×ByteArray)(l:e9):Prop where
 r:iD (λa=>a=⟨gb,2,Á⟩\/a=⟨an,pl,Á⟩) il l
 vD:listed.getD 12 Í=Ó->∃y,Q (Æ x.1.1 x.1.2.1 x.1.2.2) x.2 y/\(∀b,y.M b->l.M b/\l.w.heap[b]?=y.w.heap[b]?)
 I:listed.getD 18 Í=Ó->l.w.cell? ⟨gb,2,Á⟩=Â (Æ x.1.1 x.1.2.1 x.1.2.2)
 N:listed.getD 20 Í=Ó->l.w.cell? ⟨an,pl,Á⟩=Â (á x.2)
def Ff.C{d l:e9}{Q:Ð->ByteArray->e9->Prop}{listed:Array Bool}{x:(Option Addr×Nat×Nat)×ByteArray}(h:Ff d n j b k v Q listed x l)(o:i≠12)(p:i≠18)(s:i≠20)(e:d.r ⟨j,2,Á⟩/\d.r ⟨b,k,Á⟩)(m:ß)(r:fF l l.w m):Ff d n j b k v Q (listed.setIfInBounds i Ó) x {l with w:=m}:=by
 have t:∀a,(a=⟨j,2,Á⟩\/a=⟨b,k,Á⟩)->d.r a:=λa u=>by rcases u with rfl|rfl;exact e.1;exact e.2
 refine⟨h.r.N t r,λq=> ?_,λq=> ?_,λq=> ?_⟩
 .rw[ç Í o]at q;let⟨y,z,f⟩:=h.vD q;exact⟨y,z,λc g=>⟨(f c g).1,(r.I c (f c g).1).trans (f c g).2⟩⟩
 .rw[ç Í p]at q;exact(r.N _<|by rw[h.r.C];exact Ã e.1).trans<|h.I q
 .rw[ç Í s]at q;exact(r.N _<|by rw[h.r.C];exact Ã e.2).trans<|h.N q
section
variable{J:Jd}{il:e9}{ga gb an pl:Nat}{s8:Ð}{Q:Ð->ByteArray->e9->Prop}
def aiZ(S:gu il)(hq:¬il.q)(ht:d.size=37)(uy:d[1]?=Â (Æ (Â ⟨an,0,Á⟩) i i))(Rl:d[5]?=Â (À<|Â ⟨n,0,Á⟩))(hO:il.O n) (X:il.w.cell? ⟨n,0,Á⟩=Â v) (Y:il.w.cell? ⟨n,1,Á⟩=Â (É Î pl)) (c2:il.w.cell? ⟨n,2,Á⟩=Â (À<|Â ⟨ga,0,Á⟩)) (c3:il.w.cell? ⟨n,3,Á⟩=Â (À<|Â ⟨gb,0,Á⟩)) (uz:il.N ⟨ga,2,Á⟩) (p7:il.w.cell? ⟨ga,2,Á⟩=Â s8) (F:il.r ⟨gb,2,Á⟩) (H:il.r ⟨an,pl,Á⟩) (e1:(il.w.cell? ⟨gb,2,Á⟩).isSome=Ó) (e2:(il.w.cell? ⟨an,pl,Á⟩).isSome=Ó) (z1:il.w.frozen? ⟨gb,2,Á⟩=Í) (z2:il.w.frozen? ⟨an,pl,Á⟩=Í) (rO:pl<i) (hN:i<1000000) (lr:(⟨gb,2,Á⟩:ã)≠⟨an,pl,Á⟩) (uj:∀l,iD (λa=>a=⟨gb,2,Á⟩\/a=⟨an,pl,Á⟩) il l->∀I lT,fg Ä Í (λl' g'=>l'.d=l.d/\∃p g c str,g'=G (I.finish<|ñ #[Æ p g c,á str]) lT/\Q (Æ p g c) str l') (mg l)<|G (ć Ä 66 #[s8,v] Ĥ)<|I::lT) (md:Ă) (listed:Array Bool) (a:ŝ) (l:e9) (k:Nat) (rest:List Nat) (hI:II zi d (mW n ga gb an i pl v s8) (Ff il ga gb an pl s8 Q) listed a l) (D:k∈Ü md zi listed): fg Ä Í (λl' g'=>∃u,g'=G ((base 49).at u<|Ï zi rest::L) qX/\II zi d (mW n ga gb an i pl v s8) (Ff il ga gb an pl s8 Q) (listed.setIfInBounds k Ó) u l') l (G ((base 49).at a<|Ï zi (k::rest)::L) qX):=by
 let⟨x,s,B⟩:=hI;have K:qZ zi d.size=Ó:=by rw[ht];decide
 have V:=Ri D;have gI:=zh D;have M:=B.r.fv;have N:¬l.q:=by rwa[B.r.q]
 have W:∀y:ã,(y=⟨gb,2,Á⟩\/y=⟨an,pl,Á⟩)->il.r y:=λy ha=>by rcases ha with rfl|rfl;exact F;exact H
 have oY:a.tmps[1]?=Â (Æ (Â ⟨an,0,Á⟩) i i):=(s.C A).trans uy;have rV:a.tmps[5]?=Â (À<|Â ⟨n,0,Á⟩):=(s.C A).trans Rl;have I:∀j m,il.w.cell? ⟨n,j,Á⟩=Â m->gX l ⟨n,j,Á⟩/\l.w.cell? ⟨n,j,Á⟩=Â m:=λj m h=>⟨Ã<|Ã<|B.r.O n hO,by rwa[gM<|B.r.r n<|Ã hO]⟩;have Rm:¬((⟨ga,2,Á⟩:ã)=⟨gb,2,Á⟩\/(⟨ga,2,Á⟩:ã)=⟨an,pl,Á⟩):=λq=>by
  rcases q with q|q
  .exact S.Y _ F<|q▸uz
  .exact S.Y _ H<|q▸uz
 have Ie:gX l ⟨ga,2,Á⟩/\l.w.cell? ⟨ga,2,Á⟩=Â s8:=⟨Ç (Ç<|by rwa[B.r.c]),by rwa[B.r.e _ (Ç uz) Rm]⟩;have Rn:(pl:Int)<(i:Int):=Z
 have ji:zi.size=21:=A
 rw[ji]at gI;match k,gI with
 |0,_=>
  refine ik (o:=H8) K s U U D (by k_ne) M N (λt r=> ?_) (λt r e E=> ?_)<|B.C A A A ⟨F,H⟩
  .simp only[mW,H8];go_simp
  .simp[go_sem,H8,rV]at E
 |1,_=>
  have u:a.tmps[13]?=Â (À<|Â ⟨n,3,Á⟩):=s.r 0 H8 13 U (ic (o:=E5) D U U) U;refine ik (o:=E5) K s U U D (by k_ne) M N (λt r=> ?_) (λt r e E=> ?_)<|B.C A A A ⟨F,H⟩
  .have J:t.cell? ⟨n,3,Á⟩=Â (À<|Â ⟨gb,0,Á⟩):=((I 3 _ c3).1.r r).trans (I 3 _ c3).2;simp only[mW,E5];go_simp
  .have J:t.cell? ⟨n,3,Á⟩=Â (À<|Â ⟨gb,0,Á⟩):=((I 3 _ c3).1.r r).trans (I 3 _ c3).2;have b:e=⟨ÿ ⟨n,3,Á⟩,Í,Í⟩:=by simp[go_sem,E5,J,u]at E;exact E
   subst b;exact(I 3 _ c3).1.rd
 |2,_=>
  refine ik (o:=H9) K s U U D (by k_ne) M N (λt r=> ?_) (λt r e E=> ?_)<|B.C A A A ⟨F,H⟩
  .simp only[mW,H9];go_simp
  .simp[go_sem,H9,oY]at E
 |3,_=>
  refine ik (o:=Ia) K s U U D (by k_ne) M N (λt r=> ?_) (λt r e E=> ?_)<|B.C A A A ⟨F,H⟩
  .simp only[mW,Ia];go_simp
  .simp[go_sem,Ia,rV]at E
 |4,_=>
  have u:a.tmps[16]?=Â (À<|Â ⟨n,1,Á⟩):=s.r 3 Ia 16 U (ic (o:=E6) D U U) U;refine ik (o:=E6) K s U U D (by k_ne) M N (λt r=> ?_) (λt r e E=> ?_)<|B.C A A A ⟨F,H⟩
  .have J:t.cell? ⟨n,1,Á⟩=Â (É Î pl):=((I 1 _ Y).1.r r).trans (I 1 _ Y).2;simp only[mW,E6];go_simp
  .have J:t.cell? ⟨n,1,Á⟩=Â (É Î pl):=((I 1 _ Y).1.r r).trans (I 1 _ Y).2;have b:e=⟨ÿ ⟨n,1,Á⟩,Í,Í⟩:=by simp[go_sem,E6,J,u]at E;exact E
   subst b;exact(I 1 _ Y).1.rd
 |5,_=>
  refine ik (o:=Ib) K s U U D (by k_ne) M N (λt r=> ?_) (λt r e E=> ?_)<|B.C A A A ⟨F,H⟩
  .simp only[mW,Ib];go_simp
  .simp[go_sem,Ib,rV]at E
 |6,_=>
  have u:a.tmps[18]?=Â (À<|Â ⟨n,2,Á⟩):=s.r 5 Ib 18 U (ic (o:=E7) D U U) U;refine ik (o:=E7) K s U U D (by k_ne) M N (λt r=> ?_) (λt r e E=> ?_)<|B.C A A A ⟨F,H⟩
  .have J:t.cell? ⟨n,2,Á⟩=Â (À<|Â ⟨ga,0,Á⟩):=((I 2 _ c2).1.r r).trans (I 2 _ c2).2;simp only[mW,E7];go_simp
  .have J:t.cell? ⟨n,2,Á⟩=Â (À<|Â ⟨ga,0,Á⟩):=((I 2 _ c2).1.r r).trans (I 2 _ c2).2;have b:e=⟨ÿ ⟨n,2,Á⟩,Í,Í⟩:=by simp[go_sem,E7,J,u]at E;exact E
   subst b;exact(I 2 _ c2).1.rd
 |7,_=>
  have u:a.tmps[19]?=Â (À<|Â ⟨ga,0,Á⟩):=s.r 6 E7 19 U (ic (o:=E8) D U U) U;refine ik (o:=E8) K s U U D (by k_ne) M N (λt r=> ?_) (λt r e E=> ?_)<|B.C A A A ⟨F,H⟩
  .simp only[mW,E8];go_simp
  .simp[go_sem,E8,u]at E
 |8,_=>
  have u:a.tmps[20]?=Â (À<|Â ⟨ga,0,Á⟩):=s.r 7 E8 20 U (ic (o:=E9) D U U) U;refine ik (o:=E9) K s U U D (by k_ne) M N (λt r=> ?_) (λt r e E=> ?_)<|B.C A A A ⟨F,H⟩
  .simp only[mW,E9];go_simp
  .simp[go_sem,E9,u]at E
 |9,_=>
  have u:a.tmps[21]?=Â (À<|Â ⟨ga,2,Á⟩):=s.r 8 E9 21 U (ic (o:=Fa) D U U) U;refine ik (o:=Fa) K s U U D (by k_ne) M N (λt r=> ?_) (λt r e E=> ?_)<|B.C A A A ⟨F,H⟩
  .have J:t.cell? ⟨ga,2,Á⟩=Â (s8):=(Ie.1.r r).trans Ie.2;simp only[mW,Fa];go_simp
  .have J:t.cell? ⟨ga,2,Á⟩=Â (s8):=(Ie.1.r r).trans Ie.2;have b:e=⟨ÿ ⟨ga,2,Á⟩,Í,Í⟩:=by simp[go_sem,Fa,J,u]at E;exact E
   subst b;exact Ie.1.rd
 |10,_=>
  refine ik (o:=Ic) K s U U D (by k_ne) M N (λt r=> ?_) (λt r e E=> ?_)<|B.C A A A ⟨F,H⟩
  .simp only[mW,Ic];go_simp
  .simp[go_sem,Ic,rV]at E
 |11,_=>
  have u:a.tmps[23]?=Â (À<|Â ⟨n,0,Á⟩):=s.r 10 Ic 23 U (ic (o:=Fb) D U U) U;refine ik (o:=Fb) K s U U D (by k_ne) M N (λt r=> ?_) (λt r e E=> ?_)<|B.C A A A ⟨F,H⟩
  .have J:t.cell? ⟨n,0,Á⟩=Â (v):=((I 0 _ X).1.r r).trans (I 0 _ X).2;simp only[mW,Fb];go_simp
  .have J:t.cell? ⟨n,0,Á⟩=Â (v):=((I 0 _ X).1.r r).trans (I 0 _ X).2;have b:e=⟨ÿ ⟨n,0,Á⟩,Í,Í⟩:=by simp[go_sem,Fb,J,u]at E;exact E
   subst b;exact(I 0 _ X).1.rd
 |12,_=>
  have Ig:a.tmps[22]?=Â (s8):=s.r 9 Fa 22 U (ic (o:=Cr) D U U) U;have LX:a.tmps[24]?=Â (v):=s.r 11 Fb 24 U (ic (o:=Cr) D U U) U;refine Y4 (o:=Cr) K s U U D (by k_ne) M (f:=66) (args:=#[s8,v]) (λw=>by simp only[Cr];go_simp) (λw=>Ō (o:=Cr) U Tryz.func66 U U #[]) λt r=> ?_;have T:=B.r.N W r;refine((uj _ T _ _).mg<|T.G S).fN ?_;rintro l' g' ⟨y,⟨hy0,p,g,c,str,rfl,hQ⟩,rfl,hA,Y7,ai0,ai1⟩;refine⟨((p,g,c),str),U,⟨T.Rj W hA hy0,λ_=>⟨y,hQ,λb P=>⟨?_,U⟩⟩,λq=> ?_,λq=> ?_⟩,λj u=> ?_⟩
  .rcases P with q|q
   .exact Ã<|Ã q
   .rw[Y7]at q;exact q.elim (λz=>Ã<|Ç z) Ç
  .rw[ç Í A]at q;exact absurd (s.I (o:=Cu) U q U)<|xk V
  .rw[ç Í A]at q;exact absurd (s.I (o:=Cw) U q U)<|xk V
  .match j,u with
   |12,u=>exact absurd u<|xk V
   |13,u=>exact absurd (s.I (o:=vC) U u U)<|xk V
   |14,u=>exact absurd (s.I (o:=vC) U (s.I (j:=13) (o:=Cs) U u U) U)<|xk V
   |15,u=>exact absurd (s.I (o:=vC) U (s.I (j:=13) (o:=Ct) U u U) U)<|xk V
   |0,_|1,_|2,_|3,_|4,_|5,_|6,_|7,_|8,_|9,_|10,_|11,_|16,_|17,_|18,_|19,_|20,_|g+21,_=>rfl
 |13,_=>
  have u:a.tmps[25]?=Â (ñ #[Æ x.1.1 x.1.2.1 x.1.2.2,á x.2]):=s.r 12 Cr 25 U (ic (o:=vC) D U U) U;refine ik (o:=vC) K s U U D (by k_ne) M N (λt r=> ?_) (λt r e E=> ?_)<|B.C A A A ⟨F,H⟩
  .simp only[mW,vC];go_simp
  .simp[go_sem,vC,u]at E
 |14,_=>
  have u:a.tmps[12]?=Â (ñ #[Æ x.1.1 x.1.2.1 x.1.2.2,á x.2]):=s.r 13 vC 12 U (ic (o:=Cs) D U U) U;refine ik (o:=Cs) K s U U D (by k_ne) M N (λt r=> ?_) (λt r e E=> ?_)<|B.C A A A ⟨F,H⟩
  .simp only[mW,Cs];go_simp
  .simp[go_sem,Cs,u]at E
 |15,_=>
  have u:a.tmps[12]?=Â (ñ #[Æ x.1.1 x.1.2.1 x.1.2.2,á x.2]):=s.r 13 vC 12 U (ic (o:=Ct) D U U) U;refine ik (o:=Ct) K s U U D (by k_ne) M N (λt r=> ?_) (λt r e E=> ?_)<|B.C A A A ⟨F,H⟩
  .simp only[mW,Ct];go_simp
  .simp[go_sem,Ct,u]at E
 |16,_=>
  have u:a.tmps[14]?=Â (À<|Â ⟨gb,0,Á⟩):=s.r 1 E5 14 U (ic (o:=Fc) D U U) U;refine ik (o:=Fc) K s U U D (by k_ne) M N (λt r=> ?_) (λt r e E=> ?_)<|B.C A A A ⟨F,H⟩
  .simp only[mW,Fc];go_simp
  .simp[go_sem,Fc,u]at E
 |17,_=>
  have u:a.tmps[28]?=Â (À<|Â ⟨gb,0,Á⟩):=s.r 16 Fc 28 U (ic (o:=Fe) D U U) U;refine ik (o:=Fe) K s U U D (by k_ne) M N (λt r=> ?_) (λt r e E=> ?_)<|B.C A A A ⟨F,H⟩
  .simp only[mW,Fe];go_simp
  .simp[go_sem,Fe,u]at E
 |18,_=>
  have h29:a.tmps[29]?=Â (À<|Â ⟨gb,2,Á⟩):=s.r 17 Fe 29 U (ic (o:=Cu) D U U) U;have h26:a.tmps[26]?=Â (Æ x.1.1 x.1.2.1 x.1.2.2):=s.r 14 Cs 26 U (ic (o:=Cu) D U U) U;have T:(l.w.cell? ⟨gb,2,Á⟩).isSome=Ó:=B.r.g _ (Ã U) e1;have Cx:l.w.frozen? ⟨gb,2,Á⟩=Í:=(B.r.S _<|Ã F).trans z1;have lJ:qp l ⟨gb,2,Á⟩:=Ç (by rwa[B.r.I]);refine Rk (o:=Cu) (y:=⟨gb,2,Á⟩) (v:=Æ x.1.1 x.1.2.1 x.1.2.2) K s U U U D (by k_ne) M N U lJ T Cx (λw J hz=> ?_) (λw J hz=> ?_) λt r=> ?_
  .let⟨u,hu⟩:=Ö.1 J;simp only[Cu];go_simp
  .let⟨u,hu⟩:=Ö.1 J;simp[go_sem,Cu,h29,h26,â _ _ _ _ _ _ (show Ú (Æ x.1.1 x.1.2.1 x.1.2.2)=Ó from rfl),hu,hz]
  .have hA:=B.r.qN S W (x:=⟨gb,2,Á⟩) (v:=Æ x.1.1 x.1.2.1 x.1.2.2) (Ã U) U T;refine⟨hA.N W ⟨r.r,r.I,r.N,r.Y,r.S⟩,λq=> ?_,λq=> ?_,λq=> ?_⟩
   .rw[ç Í A]at q;let⟨y,y1,z⟩:=B.vD q;refine⟨y,y1,λb P=>⟨(z b P).1,?_⟩⟩;have Ro:b≠(⟨gb,2,Á⟩:ã).block:=λe=>(B.r.G S).N ⟨gb,2,Á⟩ (by rw[B.r.C];exact Ã F)<|e▸(z b P).1;exact(r.I b (z b P).1).trans<|(lu Ro).trans (z b P).2
   .exact(r.N _ (by rw[B.r.C];first|exact Ã F|exact Ã H)).trans<|AK (Ö.1 T).choose_spec
   .rw[ç Í A]at q;exact(r.N ⟨an,pl,Á⟩<|by rw[B.r.C];exact Ã H).trans<|(Cq U λe=>lr e.symm).trans<|B.N q
 |19,_=>
  have Rp:a.tmps[15]?=Â (Æ (Â ⟨an,0,Á⟩) i i):=s.r 2 H9 15 U (ic (o:=Cv) D U U) U;have Rq:a.tmps[17]?=Â (É Î pl):=s.r 4 E6 17 U (ic (o:=Cv) D U U) U;refine ik (o:=Cv) K s U U D (by k_ne) M N (λt r=> ?_) (λt r e E=> ?_)<|B.C A A A ⟨F,H⟩
  .simp only[mW,Cv];go_simp
  .simp[go_sem,Cv,rO,Rn,Rp,Rq]at E
 |20,_=>
  have E:a.tmps[30]?=Â (À<|Â ⟨an,pl,Á⟩):=s.r 19 Cv 30 U (ic (o:=Cw) D U U) U;have h27:a.tmps[27]?=Â (á x.2):=s.r 15 Ct 27 U (ic (o:=Cw) D U U) U;have T:(l.w.cell? ⟨an,pl,Á⟩).isSome=Ó:=B.r.g _ (Ç U) e2;have Cx:l.w.frozen? ⟨an,pl,Á⟩=Í:=(B.r.S _<|Ã H).trans z2;have lJ:qp l ⟨an,pl,Á⟩:=Ç (by rwa[B.r.I]);refine Rk (o:=Cw) (y:=⟨an,pl,Á⟩) (v:=á x.2) K s U U U D (by k_ne) M N U lJ T Cx (λw J hz=> ?_) (λw J hz=> ?_) λt r=> ?_
  .let⟨u,hu⟩:=Ö.1 J;simp only[Cw];go_simp
  .let⟨u,hu⟩:=Ö.1 J;simp[go_sem,Cw,E,h27,â _ _ _ _ _ _ (show Ú (á x.2)=Ó from rfl),hu,hz]
  .have hA:=B.r.qN S W (x:=⟨an,pl,Á⟩) (v:=á x.2) (Ç U) U T;refine⟨hA.N W ⟨r.r,r.I,r.N,r.Y,r.S⟩,λq=> ?_,λq=> ?_,λq=> ?_⟩
   .rw[ç Í A]at q;let⟨y,y1,z⟩:=B.vD q;refine⟨y,y1,λb P=>⟨(z b P).1,?_⟩⟩;have Ro:b≠(⟨an,pl,Á⟩:ã).block:=λe=>(B.r.G S).N ⟨an,pl,Á⟩ (by rw[B.r.C];exact Ã H)<|e▸(z b P).1;exact(r.I b (z b P).1).trans<|(lu Ro).trans (z b P).2
   .rw[ç Í A]at q;exact(r.N ⟨gb,2,Á⟩<|by rw[B.r.C];exact Ã F).trans<|(Cq U<|lr).trans<|B.I q
   .exact(r.N _ (by rw[B.r.C];first|exact Ã F|exact Ã H)).trans<|AK (Ö.1 T).choose_spec
 |g+21,h=>exact absurd h Z
end
section
variable{E:ã->Prop}{l c g:e9}
def iD.fe(h:iD E l c)(k:iD E c g):iD E l g:=by have f:=h.C;exact⟨λj e=>k.O j<|h.O j e,λj e=>(k.h j e).elim (h.h j) λq=>Ç<|Ø h.f q,k.Y.trans h.Y,k.I.trans h.I,k.c.trans h.c,k.K.trans h.K,k.q.trans h.q,k.d.trans h.d,k.fv,Ø h.f k.f,λj e=>(k.r j<|h.M e).trans<|h.r j e,λa b i=>(k.e a (by rwa[f]) i).trans<|h.e a b i,λa b=>(k.S a<|by rwa[f]).trans<|h.S a b,λa b q=>k.b a (by rwa[h.K])<|h.b a b q,λa b q=>k.g a b<|h.g a b q⟩
end
def gG(l:e9)(w₁:ß)(o:Ε):e9:={l with O:=λb=>l.O b\/b=w₁.heap.size,w:=w₁.alloc o}
theorem zj{o:Ε}(h:j<w.heap.size):(w.alloc o).heap[j]?=w.heap[j]?:=by unfold œ;grind
theorem mX{o:Ε}:(w.alloc o).heap[w.heap.size]?=Â o:=by unfold œ;simp
def LY{o:Ε}:(w.alloc o).heap.size=w.heap.size+1:=by unfold œ;simp
section
variable{J:Jd}{l:e9}{a:ŝ}{k:List ź}{cs:List é}{ob:Ε}{E:ã->Prop}
def Y8(b:∀j,l.O j->j<w.heap.size)(c:¬l.q):mE l (gG l w ob) w (w.alloc ob) #[]:= ⟨by rw[LY];omega,λj h=>h.imp id λe=>by omega,λj h=>by rw[LY];exact h.elim (λq=>ł<|b j q) λe=>by omega,U,U,U,U,λj d _ _=>zj d,λx a _ _=>gM<|zj a,λx a _=>wY<|zj a,U,U,U,λe f=>by simp at f,by simp[ď,gG],U,λq=>absurd q c,U⟩
def Ih(c:Q[i]?=Â o)(d:Ğ o (Ŵ Q a.tmps)=Ó)(e:f.kind≠Ζ)(g:jU l)(h:¬l.q) (j:∀w,(Đ a.eval o).run P w=.ok (.value<|À<|Â ⟨w.heap.size,0,Á⟩) (w.alloc ob)) (m:∀w,(Đ a.eval o).events P w #[]=#[]) (n:∀b,fF l l.w b->fg P yQ J (gG l b ob) (G (f.at (a.put o.dst<|À<|Â ⟨b.heap.size,0,Á⟩)<|Ï Q jJ::k) cs)):fg P yQ J l (G (f.at a<|Ï Q (i::jJ)::k) cs):=by
 refine vz c d e λb r=> ?_;rw[j b];refine⟨_,?_,n b r⟩;have:listed P f.fn a o b=#[]:=by unfold listed;rw[m b,ı]
 rw[this];exact Y8 (lH g r) h
def LZ(s:gu l)(d:∀a,E a->l.r a)(r:fF l l.w u):iD E l (gG l u ob):=by
 have c:=r.r;refine⟨λj h=>Ã h,λj h=>h.imp id λe=>by omega,U,U,U,U,U,U,λj h=> ?_,?_,λj f=>(zj<|È (s.fv j f) c).trans<|r.I j f,λx b _=>(gM<|zj<|È (s.I x b) c).trans<|r.N x b,λx b=>(wZ<|zj<|È (s.I x b) c).trans<|r.Y x b,λx b q=> ?_,λx b q=> ?_⟩
 .show j<(u.alloc ob).heap.size;rw[LY];exact h.elim (λq=>ł<|È (s.fv j<|Ã q) c) λe=>by omega
 .show l.w.heap.size<=(u.alloc ob).heap.size;rw[LY];omega
 .show((u.alloc ob).cell? x).isSome=Ó;rw[gM<|zj<|È (s.S x b).2.1 c];exact r.S x b q
 .show((u.alloc ob).cell? x).isSome=Ó;rwa[gM<|zj<|È (s.I x<|Ã<|d x b) c,r.N x<|Ã<|d x b]
def L0{w':ß}{p:Nat}(g:∀j,l.O j->j<w.heap.size)(i:¬l.q)(b:l.O p)(k:w'.heap.size=w.heap.size)(c:∀j,j≠p->w'.heap[j]?=w.heap[j]?)(d:w'.os=w.os/\w'.output=w.output/\w'.tape=w.tape)(f:∀e∈V,vA l e):mE l {l with w:=w'} w w' V:=by refine⟨Z,λ_ h=>Ã h,λj h=>by rw[k];exact g j h,U,U,U,U,λj _ a _=>c j λe=>a<|e▸b,λx _ a _=>gM (c _ λe=>a<|e▸b),λx _ a=>wY (c _ λe=>a<|e▸b),d.1,d.2.1,d.2.2,λe h=>(f e h).1,(LO f _).symm,U,λq=>absurd q i,U⟩
end
def iT(w:ß)(p:Nat)(v0 v1 v2 v3:Ð):ß:=(((w.setCell ⟨p,0,Á⟩ v0).setCell ⟨p,1,Á⟩ v1).setCell ⟨p,2,Á⟩ v2).setCell ⟨p,3,Á⟩ v3
section
variable{p:Nat}{v0 v1 v2 v3:Ð}
def xl:(iT w p v0 v1 v2 v3).heap.size=w.heap.size:=by unfold iT;rw[j1,j1,j1,j1]
def zk(h:j≠p):(iT w p v0 v1 v2 v3).heap[j]?=w.heap[j]?:=by unfold iT;rw[lu h,lu h,lu h,lu h]
theorem Rr(b:w.cell? ⟨p,0,Á⟩=Â v)(c:w.cell? ⟨p,1,Á⟩=Â x)(d:w.cell? ⟨p,2,Á⟩=Â z)(e:w.cell? ⟨p,3,Á⟩=Â jQ): (iT w p v0 v1 v2 v3).cell? ⟨p,0,Á⟩=Â v0/\(iT w p v0 v1 v2 v3).cell? ⟨p,1,Á⟩=Â v1/\(iT w p v0 v1 v2 v3).cell? ⟨p,2,Á⟩=Â v2/\(iT w p v0 v1 v2 v3).cell? ⟨p,3,Á⟩=Â v3:=by have f:∀(w:ß) (i j:Nat) (a:Ð),i≠j->(w.setCell ⟨p,i,Á⟩ a).cell? ⟨p,j,Á⟩=w.cell? ⟨p,j,Á⟩:=λw i j a h=>yI<|Ç h;unfold iT;grind [AK]
def Rs{E:ã->Prop}{l e:e9}(s:gu l)(f:∀a,E a->l.r a)(h:iD E l e){w':ß}(r:fF e e.w u)(k:l.w.heap.size<=p)(g:w'.heap.size=u.heap.size)(i:∀j,j≠p->w'.heap[j]?=u.heap[j]?):iD E l {e with w:=w'}:=by
 have b:=h.N f r;have c:∀{j:Nat},j<l.w.heap.size->w'.heap[j]?=u.heap[j]?:=λ{j} q=>i j Z;refine⟨b.O,b.h,b.Y,b.I,b.c,b.K,b.q,b.d,λj q=> ?_,?_,λj q=>(c<|s.fv j q).trans<|b.r j q,λa q n=>(gM<|c<|s.I a q).trans<|b.e a q n,λa q=>(wZ<|c<|s.I a q).trans<|b.S a q,λa q z=> ?_,λa q z=> ?_⟩
 .show j<w'.heap.size;rw[g];exact b.fv j q
 .show l.w.heap.size<=w'.heap.size;rw[g];exact b.f
 .show(w'.cell? a).isSome=Ó;rw[gM<|c (s.S a q).2.1];exact b.b a q z
 .show(w'.cell? a).isSome=Ó;rw[gM<|c<|s.I a<|Ã<|f a q];exact b.g a q z
end
def xm(t:Array Ð)(h:t.size=n):∃u:Nat->Ð,t=((ä n).map u).toArray:=by subst h;refine⟨λi=>t.getD i Å,Array.ext fi λi a _=> ?_⟩;simp_all
def Rt(t:Array Ð)(h:t.size=37):∃a b c d e f g i j k l m n o p q r s u v w x y z B C D E F G H I J K L M N:Ð,t=#[a,b,c,d,e,f,g,i,j,k,l,m,n,o,p,q,r,s,u,v,w,x,y,z,B,C,D,E,F,G,H,I,J,K,L,M,N]:=by obtain⟨_,rfl⟩:=xm t h;exact⟨_,_,_,_,_,_,_,_,_,_,_,_,_,_,_,_,_,_,_,_,_,_,_,_,_,_,_,_,_,_,_,_,_,_,_,_,_,U⟩
end Go.Proofs.Y.fq
namespace Go.Proofs.Y.fq
open Go Go.Conc Go.Proofs.Y.Lift Go.RowKit Go.Conc.Lib Go.ConcR.Gen
section
variable{Ψ:ß->Prop}{L:WgLink}{l:e9}{e:Jd}{k:List ź}
def ai2(H:WgLib P L)(h:mf Ψ l b)(hT:∀a,SW Ψ l b a->fg P Í e {l with d:=0,w:=a} (G (f.at (y.put ((Q[i]?).bind (·.dst))<|ñ #[])<|Ï Q jJ::k) qX)): ∀(r:Nat) (c:Int) (j m o p q s t u v x z B C D E F I J K M N O S T V W X Y qt qu qe pD pE oW oX qf qg qh qi qj qk qm qn qo n5 n7 rU Bf Bg Bh Bj Bl Bm Bn Bo Bp Bq Br Bs Bt Bu Bv Bw Bx By Bz BA BB BD BF BG BH BJ BK BL BM BN BO BP BQ BR BS BT BU BV BW BX BY BZ B1 B2 B3 B4 B5 B6 B7 B8 B9 Ca Cb Cc Cd Ce Cf Cg Ch Ci Cj Ck Cl Cm Cn Co Cp:Ð) (a:ß),SW Ψ l b a->(c<=(r:Int)+1/\(r:Int)+1<=c)->r+1<1000000-> fg P Í (Ho P Í b (fg P Í e)<|r+1) {l with d:=1,w:=a} (G ((base L.add).at ⟨#[À<|Â ⟨b,0,Á⟩,j,m,o,p,q,s,t,É ú c,u,v,x,z,B,C,D,E,F,I,J,K,M,N,O,S,T,V,W,X,Y,qt,qu,qe,pD,pE,oW,oX,qf,qg,qh,qi,qj,qk,qm,qn,qo,n5,n7,rU,Bf,Bg,Bh,Bj,Bl,Bm,Bn,Bo,Bp,Bq,Br,Bs,Bt,Bu,Bv,Bw,Bx,By,Bz,BA,BB,BD,BF,BG,BH,BJ,BK,BL,BM,BN,BO,BP,BQ,BR,BS,BT,BU,BV,BW,BX,BY,BZ,B1,B2,B3,B4,B5,B6,B7,B8,B9,Ca,Cb,Cc,Cd,Ce,Cf,Cg,Ch,Ci,Cj,Ck,Cl,Cm,Cn,Co,À<|Â ⟨b,1,Á⟩,Cp],[dcall L.enable #[]]⟩ [Ï #[{dst:=Â 113,op:=ü<|Ò 0,type:=L.tWgP,pos:= "waitgroup.go:142",after:=#[],guard:=Á},{dst:=Â 114,op:=Ĕ<|Ò 113,type:=0,pos:= "waitgroup.go:142",after:=#[{on:=0,ground:=Õ}],guard:=Á},{dst:=Â 115,op:=ê L.tWg (Ò 114) 2,type:=0,pos:= "waitgroup.go:142",after:=#[{on:=1,ground:=Õ}],guard:=Á},{dst:=Â 116,op:= č {callee:=û<|Ċ L.semrelease,args:= #[Ò 115,ò<|Ĭ Í,ò<|É Î 0],argTypes:=#[L.tPU32,4,3]},type:=0,pos:= "waitgroup.go:142",after:=#[{on:=2,ground:=Õ}],guard:=Á}] [3],ï 2,ö<|à 33 #[{dst:=Â 111,op:=ü<|Ò 8,type:=L.tU32,pos:= "waitgroup.go:141",after:=#[],guard:=Á},{dst:=Â 112,op:=Ń BinOp.sub L.tU32 (Ò 111) (ò<|É ú 1) L.tU32,type:=L.tU32,pos:= "waitgroup.go:141",after:=#[{on:=0,ground:=Õ}],guard:=Á},{dst:=Â 8,op:=Ĳ<|Ò 112,type:=L.tU32,pos:= "waitgroup.go:141",after:= #[{on:=1,ground:=Õ},{on:=0,ground:=Ì},{on:=1,ground:=Ì}],guard:=Á}] Í,Ā<|((à 32 #[{dst:=Â 109,op:=ü<|Ò 8,type:=L.tU32,pos:= "waitgroup.go:141",after:=#[],guard:=Á},{dst:=Â 110,op:= Ń BinOp.neq L.tU32 (Ò 109) (ò<|É ú 0) L.tU32,type:=4,pos:= "waitgroup.go:141",after:=#[{on:=0,ground:=Õ}],guard:=Á}] Í).seq<|Ŕ (Ò 110) ŕ<|Ŗ 1).seq<|(ĥ 2<|à 34 #[{dst:=Â 113,op:=ü<|Ò 0,type:=L.tWgP,pos:= "waitgroup.go:142",after:=#[],guard:=Á},{dst:=Â 114,op:=Ĕ<|Ò 113,type:=0,pos:= "waitgroup.go:142",after:=#[{on:=0,ground:=Õ}],guard:=Á},{dst:=Â 115,op:=ê L.tWg (Ò 114) 2,type:=0,pos:= "waitgroup.go:142",after:=#[{on:=1,ground:=Õ}],guard:=Á},{dst:=Â 116,op:= č {callee:=û<|Ċ L.semrelease,args:= #[Ò 115,ò<|Ĭ Í,ò<|É Î 0],argTypes:=#[L.tPU32,4,3]},type:=0,pos:= "waitgroup.go:142",after:=#[{on:=2,ground:=Õ}],guard:=Á}] Í).seq<|à 33 #[{dst:=Â 111,op:=ü<|Ò 8,type:=L.tU32,pos:= "waitgroup.go:141",after:=#[],guard:=Á},{dst:=Â 112,op:= Ń BinOp.sub L.tU32 (Ò 111) (ò<|É ú 1) L.tU32,type:=L.tU32,pos:= "waitgroup.go:141",after:=#[{on:=0,ground:=Õ}],guard:=Á},{dst:=Â 8,op:=Ĳ<|Ò 112,type:=L.tU32,pos:= "waitgroup.go:141",after:= #[{on:=1,ground:=Õ},{on:=0,ground:=Ì},{on:=1,ground:=Ì}],guard:=Á}] Í,ï 1])<|(base L.done).at {tmps:= #[À<|Â {block:=b,off:=0},Å,À<|Â {block:=b,off:=0},Å],defers:=[]} [Ï #[{dst:=Â 2,op:=ü<|Ò 0,type:=L.tWgP,pos:= "waitgroup.go:156",after:=#[],guard:=Á},{dst:=Â 3,op:= č {callee:=û<|Ċ L.add,args:=#[Ò 2,ò<|É Î<|-1],argTypes:=#[L.tWgP,3]},type:=0,pos:= "waitgroup.go:156",after:=#[{on:=0,ground:=Õ}],guard:=Á}] [1]]::f.at y (Ï Q (i::jJ)::k)::qX):=by
 intro r;lib_facts
 induction r with
 |zero=>
  intro c j m o p q s t u v x z B C D E F I J K M N O S T V W X Y qt qu qe pD pE oW oX qf qg qh qi qj qk qm qn qo n5 n7 rU Bf Bg Bh Bj Bl Bm Bn Bo Bp Bq Br Bs Bt Bu Bv Bw Bx By Bz BA BB BD BF BG BH BJ BK BL BM BN BO BP BQ BR BS BT BU BV BW BX BY BZ B1 B2 B3 B4 B5 B6 B7 B8 B9 Ca Cb Cc Cd Ce Cf Cg Ch Ci Cj Ck Cl Cm Cn Co Cp a hF H7 gI;have e1:c=1:=Z
  subst e1;clear H7 gI;refine mI (l:={l with d:=1,w:=a}) h hF λpz hF=>⟨U,U,Ŭ U U H.f_semrelease<|ė L,_,U,λa n hc hf=>(ō U U (by k_ne) U H.f_semrelease (š L) (ė L) (Ţ L) (ţ L) (by simp[Ę,gR]) hc hf).trans fM,?_⟩;walk_nrm;apply iY (l:={l with d:=1,w:=pz}) h hF (n:=50);iterate 17 w_go fA
  refine Ë λa g=> ?_;replace hF:=fA hF g;clear g;refine rT (l:={l with d:=1,w:=a}) h hF (Ç U) U (λw=>E0 Ħ fi U H.f_enable (ķ L) (ĸ L) (Ĺ L) (ĺ L) w) λCy hF=> ?_;have oT:ď 1 #[jy Ħ]=0:=rfl;rw[oT];apply iY (l:={l with d:=0,w:=Cy}) h hF (n:=10);u_leave0 H.f_add fA hF;iterate 2 w_go fA
  u_leave0 H.f_done fA hF
  refine Ë λa g=> ?_;replace hF:=fA hF g;clear g;exact hT _ hF
 |succ r ih=>
  intro c j m o p q s t u v x z B C D E F I J K M N O S T V W X Y qt qu qe pD pE oW oX qf qg qh qi qj qk qm qn qo n5 n7 rU Bf Bg Bh Bj Bl Bm Bn Bo Bp Bq Br Bs Bt Bu Bv Bw Bx By Bz BA BB BD BF BG BH BJ BK BL BM BN BO BP BQ BR BS BT BU BV BW BX BY BZ B1 B2 B3 B4 B5 B6 B7 B8 B9 Ca Cb Cc Cd Ce Cf Cg Ch Ci Cj Ck Cl Cm Cn Co Cp a hF H7 gI;have g1:(c-1)%4294967296=c-1:=Z
  have g2:(c-1 !=0)=Ó:=by simp;omega
  refine mI (l:={l with d:=1,w:=a}) h hF λpz hF=>⟨U,U,Ŭ U U H.f_semrelease<|ė L,_,U,λa n hc hf=>(ō U U (by k_ne) U H.f_semrelease (š L) (ė L) (Ţ L) (ţ L) (by simp[Ę,gR]) hc hf).trans fM,?_⟩;walk_nrm;apply iY (l:={l with d:=1,w:=pz}) h hF (n:=50);iterate 22 w_go fA
  refine Ë λa g=> ?_;replace hF:=fA hF g;clear g;exact ih (c-1) _ _ _ _ _ _ _ _ _ _ _ _ _ _ _ _ _ _ _ _ _ _ _ _ _ _ _ _ _ _ _ _ _ _ _ _ _ _ _ _ _ _ _ _ _ _ _ _ _ _ _ _ _ _ _ _ _ _ _ _ _ _ _ _ _ _ _ _ _ _ _ _ _ _ _ _ _ _ _ _ _ _ _ _ _ _ _ _ _ _ _ _ _ _ _ _ _ _ _ _ _ _ _ _ _ _ _ _ _ _ _ _ _ _ a hF Z Z
end
section
variable{Ψ:ß->Prop}{L:WgLink}{l:e9}{e:Jd}{k:List ź}
def Ru(Ψ:ß->Prop)(l:e9)(b:Nat)(w:ß):Prop:=SW Ψ l b w/\fF l l.w w
def pI(a:mf Ψ l b)(h:Ru Ψ l b w)(r:fF l w u):Ru Ψ l b u:=⟨fA h.1<|a.r r,h.2.fe r⟩
def ai3{J:Jd}(a:SW Ψ l b l.w)(c:Goes P yQ (fF l) Go.ConcR.DC0 (λd e=>fg P yQ J {l with w:=e} d) n g l.w):fg P yQ J l g:= Rb c (λ_ _ r=>r) a.1 λ_ _ _ h=>h
def ai4(H:WgLib P L)(τ:e9->e9)(Φ:e9->Prop)(h:mf Ψ l b)(D:SW Ψ l b l.w) (O:∀a,fF l l.w a->Φ {l with w:=a}/\(τ {l with w:=a}).d=0/\∃z:ß->Prop,mf z (τ {l with w:=a}) b/\SW z (τ {l with w:=a}) b (τ {l with w:=a}).w/\ ∀j,SW z (τ {l with w:=a}) b j->fg P Í e {τ {l with w:=a}with d:=0,w:=j} (G (f.at (y.put ((Q[i]?).bind (·.dst))<|ñ #[])<|Ï Q jJ::k) qX)): fg P Í (λl g=>Φ l/\yK P Í b (fg P Í e) (τ l) g) l (G ((base L.done).at ⟨#[À<|Â ⟨b,0,Á⟩,Å,Å,Å],[]⟩ [ö<|body_done L])<|f.at y (Ï Q (i::jJ)::k)::qX):=by
 lib_facts;simp only[body_done,doneFn,Ŏ];have hF:Ru Ψ l b l.w:=⟨D,fF.fU _ _⟩;apply ai3 D (n:=40);u_reg (pI h) hF;u_op (pI h) hF;u_call H.f_add (Η L) addFn (pI h) hF;u_c Ů (pI h) hF;u_cond Ó (pI h) hF;u_c Ů (pI h) hF;u_c Ů (pI h) hF;u_reg (pI h) hF;u_op (pI h) hF;u_op (pI h) hF;u_c stepG_region_end (pI h) hF;u_cond Ó (pI h) hF;u_reg (pI h) hF;u_op (pI h) hF;u_conv H.underlying_tWgP H.room_tWg (mV.r hF.1.2.1).choose_spec (pI h) hF;refine Ë λa g=> ?_;replace hF:=pI h hF g;clear g;refine .fy λj r=> ?_;let⟨S,E,z,c,F,q⟩:=O j<|hF.2.fe<|za r;refine⟨S,E,U,_,λ_=>stepG_markAt .releaseMerge fi U U (by k_ne) U H.f_relMerge (x_relMerge_n L) (x_relMerge_b L) (x_relMerge_x L) (x_relMerge_f L) (by simp[Ę,fL]),?_⟩;walk_nrm;show fg P Í (Qg P Í b<|fg P Í e) (τ {l with w:=j}) _;clear S r;generalize τ {l with w:=j}=l2 at c F E q|-;replace hF:=F;clear F h D O;apply iY c hF (n:=10);iterate 3 w_go fA
 refine Ë λa g=> ?_;replace hF:=fA hF g;clear g;refine rT (l:={l2 with w:=a}) c hF (Ã U) U (λ_=>stepG_mark0 .disable fi U U (by k_ne) U H.f_disable (x_disable_n L) (x_disable_b L) (x_disable_x L)<|x_disable_f L) λm hF=> ?_;walk_nrm;have X:ď l2.d #[jy .disable]=1:=by rw[E];rfl
 rw[X];apply iY (l:={l2 with d:=1,w:=m}) c hF (n:=50);iterate 2 w_go fA
 u_defer fA hF
 iterate 8 w_go fA
 u_bub fA hF
 iterate 11 w_go fA
 u_call H.f_uAdd (nm_uAdd L) uAddFn fA hF
 iterate 10 w_go fA
 refine Ë λa g=> ?_;replace hF:=fA hF g;clear g;refine mI (l:={l2 with d:=1,w:=a}) c hF λj hF=>⟨U,U,λv=>⟨_,λa t I=>(stepG_add_atomic U U (by k_ne) U H.f_addU64 (x_addU64_n L) (x_addU64_b L) (x_addU64_x L) ë (x_addU64_f L) U U t I).trans fM,?_⟩⟩;walk_nrm;have T:ë.wrap (v+18446744069414584320)=ë.wrap (v+qV):=rfl;rw[T];clear T;obtain⟨s,J⟩:∃s,ë.wrap (v+qV)=s:=⟨_,U⟩;simp only[J];have K:0<=s:=by rw[<-J];have:ë.wrap (v+qV)=(v+qV)%18446744073709551616:=rfl;rw[this];omega
 clear J v;by_cases p:s=0\/(fX<=s/\s<1000000*fX/\s%fX<1000000)
 .rw[if_pos p];by_cases o:s=0
  .subst o;clear p K;apply iY (l:={l2 with d:=1,w:=j}) c hF (n:=150);iterate 3 w_go fA
   u_leave1 H.f_uAdd fA hF
   iterate 83 w_go fA
   refine Ë λa g=> ?_;replace hF:=fA hF g;clear g;refine rT (l:={l2 with d:=1,w:=a}) c hF (Ç U) U (λw=>E0 Ħ fi U H.f_enable (ķ L) (ĸ L) (Ĺ L) (ĺ L) w) λm hF=> ?_;have x:ď 1 #[jy Ħ]=0:=rfl;rw[x];apply iY (l:={l2 with d:=0,w:=m}) c hF (n:=10);u_leave0 H.f_add fA hF;iterate 2 w_go fA
   u_leave0 H.f_done fA hF
   refine Ë λa g=> ?_;replace hF:=fA hF g;clear g;exact q _ hF
  .have Y:=p.resolve_left o;clear p o K;let⟨c4,c5,c6⟩:=Y;have q4:(4294967296:Int)<=s:=c4;have M:s<1000000*4294967296:=c5;have V:s%4294967296<1000000:=c6;have f1:=E1 s Z M V;have B:=E2 s Z M V;obtain⟨C,g1⟩:∃C,(s/4294967296+2147483648)%4294967296-2147483648=C:=⟨_,U⟩;have g2:¬C<0:=Z
   have g3:0<C:=Z
   by_cases N:s%4294967296=0
   .rw[N]at B;apply iY (l:={l2 with d:=1,w:=j}) c hF (n:=150);iterate 3 w_go fA
    u_leave1 H.f_uAdd fA hF
    iterate 83 w_go fA
    refine Ë λa g=> ?_;replace hF:=fA hF g;clear g;refine rT (l:={l2 with d:=1,w:=a}) c hF (Ç U) U (λw=>E0 Ħ fi U H.f_enable (ķ L) (ĸ L) (Ĺ L) (ĺ L) w) λm hF=> ?_;have x:ď 1 #[jy Ħ]=0:=rfl;rw[x];apply iY (l:={l2 with d:=0,w:=m}) c hF (n:=10);u_leave0 H.f_add fA hF;iterate 2 w_go fA
    u_leave0 H.f_done fA hF
    refine Ë λa g=> ?_;replace hF:=fA hF g;clear g;exact q _ hF
   .obtain⟨u,g4⟩:∃u,s%4294967296=u:=⟨_,U⟩;rw[g4]at B N;have W:u%4294967296=u:=Z
    have g6:(u !=0)=Ó:=by simpa using N
    apply iY (l:={l2 with d:=1,w:=j}) c hF (n:=150);iterate 3 w_go fA
    u_leave1 H.f_uAdd fA hF
    iterate 83 w_go fA
    refine Ë λa g=> ?_;replace hF:=fA hF g;clear g;refine rT (l:={l2 with d:=1,w:=a}) c hF (Ç U) U (λw=>E0 Ħ fi U H.f_enable (ķ L) (ĸ L) (Ĺ L) (ĺ L) w) λm hF=> ?_;have x:ď 1 #[jy Ħ]=0:=rfl;rw[x];apply iY (l:={l2 with d:=0,w:=m}) c hF (n:=10);u_leave0 H.f_add fA hF;iterate 2 w_go fA
    u_leave0 H.f_done fA hF
    refine Ë λa g=> ?_;replace hF:=fA hF g;clear g;exact q _ hF
 .rw[if_neg p];by_cases o:0<s/\s<1000000
  .rw[if_pos o];let⟨q4,M⟩:=o;clear p K;have f1:=E1 s Z Z Z;have B:=E2 s Z Z Z;have g1:(s/4294967296+2147483648)%4294967296-2147483648=0:=Z
   have W:s%4294967296=s:=Z
   rw[W]at B;have g6:(s !=0)=Ó:=by simp;omega
   have V:(s==0)=Í:=by simp;omega
   have C:(s.toNat:Int)=s:=Z
   apply iY (l:={l2 with d:=1,w:=j}) c hF (n:=150);iterate 3 w_go fA
   u_leave1 H.f_uAdd fA hF
   iterate 89 w_go fA
   u_call H.f_uLoad (nm_uLoad L) uLoadFn fA hF
   iterate 9 w_go fA
   refine Ë λa g=> ?_;replace hF:=fA hF g;clear g;refine mI (l:={l2 with d:=1,w:=a}) c hF λj hF=>⟨U,U,λv=>⟨_,λa t=>stepG_load_atomic U U (by k_ne) U H.f_loadU64 (x_loadU64_n L) (x_loadU64_b L) (x_loadU64_x L) ë (x_loadU64_f L) U t,?_⟩⟩;show fg P Í (if v=(s.toNat:Int)then Lb P Í b (fg P Í e) s.toNat else λ_ _=>True) _ _;by_cases u:v=(s.toNat:Int)
   .rw[if_pos u];rw[C]at u;subst u;walk_nrm;have Y:(v !=v)=Í:=fi
    apply iY (l:={l2 with d:=1,w:=j}) c hF (n:=150);iterate 3 w_go fA
    u_leave1 H.f_uLoad fA hF
    iterate 10 w_go fA
    u_call H.f_uStore (nm_uStore L) uStoreFn fA hF
    iterate 5 w_go fA
    refine Ë λa g=> ?_;replace hF:=fA hF g;clear g;refine mI (l:={l2 with d:=1,w:=a}) c hF λj hF=>⟨U,U,_,λa x t I=>stepG_store_atomic U U (by k_ne) U H.f_storeU64 (x_storeU64_n L) (x_storeU64_b L) (x_storeU64_x L) (x_storeU64_f L) U U t I,?_⟩;walk_nrm;obtain⟨r,N⟩:∃r,v.toNat=r+1:=⟨v.toNat-1,Z⟩;rw[N];apply iY (l:={l2 with d:=1,w:=j}) c hF (n:=150);iterate 2 w_go fA
    u_leave0 H.f_uStore fA hF
    iterate 24 w_go fA
    refine Ë λa g=> ?_;replace hF:=fA hF g;clear g;exact ai2 H c q r v _ _ _ _ _ _ _ _ _ _ _ _ _ _ _ _ _ _ _ _ _ _ _ _ _ _ _ _ _ _ _ _ _ _ _ _ _ _ _ _ _ _ _ _ _ _ _ _ _ _ _ _ _ _ _ _ _ _ _ _ _ _ _ _ _ _ _ _ _ _ _ _ _ _ _ _ _ _ _ _ _ _ _ _ _ _ _ _ _ _ _ _ _ _ _ _ _ _ _ _ _ _ _ _ _ _ _ _ _ _ _ _ _ _ a hF Z Z
   .rw[if_neg u];exact .fy λ_ _=>trivial
  .rw[if_neg o];trivial
end
end Go.Proofs.Y.fq
namespace Go.Proofs.Y.fq
open Go Go.Conc Go.Proofs.Y.Lift Go.RowKit Go.Conc.Lib Go.ConcR.Gen
open Go.Proofs Go.Proofs.YtgpphkdoanciiaaGreatDoor
noncomputable def L3:Ġ:=kY η [1,0,0]
noncomputable def zm (t:Array Ð) (a:List é):Ý:=G ((base 49).at ⟨t,[]⟩ [ö L3,Ā L3,ï 0]) a
structure Cz(an N:Nat)(ib:Option ã)(m c kk:Nat)(t:Array Ð):Prop where
 r:t.size=37
 t1:t[1]?=Â (Æ (Â ⟨an,0,Á⟩) N N)
 t6:t[6]?=Â (Æ ib m c)
 C:t[7]?=Â (É Î m)
 I:t[8]?=Â (É Î kk)
theorem CB{x:Int}(a:0<=x)(b:x<1000000):Î.wrap x=x:=by rw[Ρ];omega
section
variable{f:Jd}{l:e9}{t:Array Ð}{an N ib c kk:Nat}{Q:Ð->ByteArray->e9->Prop}{τ:e9->e9}{Φ:e9->Prop}
def ai5(D:gu l)(V:¬l.q)(hd:l.d=0)(W:Cz an N (Â ⟨ib,0,Á⟩) m c kk t)(hkk:kk<m)(hm:m<1000)(hN:N<1000000)(rO:j<N)(zn:l.M ib) (i0:l.w.cell? ⟨ib,kk*4,Á⟩=Â (À O)) (i1:l.w.cell? ⟨ib,kk*4+1,Á⟩=Â (É Î j)) (i2:l.w.cell? ⟨ib,kk*4+2,Á⟩=Â (À<|Â ⟨i,0,Á⟩)) (i3:l.w.cell? ⟨ib,kk*4+3,Á⟩=Â (À<|Â ⟨n,0,Á⟩)) (uz:l.N ⟨i,2,Á⟩) (p7:l.w.cell? ⟨i,2,Á⟩=Â v) (o1:l.r ⟨n,2,Á⟩) (o2:l.r ⟨an,j,Á⟩) (e1:(l.w.cell? ⟨n,2,Á⟩).isSome=Ó) (e2:(l.w.cell? ⟨an,j,Á⟩).isSome=Ó) (z1:l.w.frozen? ⟨n,2,Á⟩=Í) (z2:l.w.frozen? ⟨an,j,Á⟩=Í) (lr:(⟨n,2,Á⟩:ã)≠⟨an,j,Á⟩) (uj:∀u,iD (λa=>a=⟨n,2,Á⟩\/a=⟨an,j,Á⟩) l u->∀cl lT,fg Ä Í (λl'' g'=>l''.d=u.d/\∃p k c str,g'=G (cl.finish<|ñ #[Æ p k c,á str]) lT/\Q (Æ p k c) str l'') (mg u)<|G (ć Ä 66 #[v,À O] Ĥ)<|cl::lT) (AF:∀u (x:(Option Addr×Nat×Nat)×ByteArray),iD (λa=>a=⟨n,2,Á⟩\/a=⟨an,j,Á⟩) l u->(∃y,Q (Æ x.1.1 x.1.2.1 x.1.2.2) x.2 y/\(∀b,y.M b->u.M b/\u.w.heap[b]?=y.w.heap[b]?))->u.w.cell? ⟨n,2,Á⟩=Â (Æ x.1.1 x.1.2.1 x.1.2.2)->u.w.cell? ⟨an,j,Á⟩=Â (á x.2)-> mf (λ_=>True) u n/\SW (λ_=>True) u n u.w/\Φ u/\(τ u).d=0/\∃E:ß->Prop,mf E (τ u) n/\SW E (τ u) n (τ u).w/\∀s X,SW E (τ u) n s->Cz an N (Â ⟨ib,0,Á⟩) m c (kk+1) X->fg Ä Í f {τ u with d:=0,w:=s} (zm X qX)): fg Ä Í (λl g=>Φ l/\yK Ä Í n (fg Ä Í f) (τ l) g) l (zm t qX):=by
 obtain⟨y0,y1,Y,y3,y4,y5,y6,y7,y8,y9,xn,zo,xo,rW,s9,rh,vE,vF,uA,uB,uC,td,tf,tg,uD,vG,xp,tj,ri,uE,qt,qu,qe,pD,pE,oW,oX,rfl⟩:=Rt t W.r;obtain rfl:y1=Æ (Â ⟨an,0,Á⟩) N N:=by simpa using W.t1
 obtain rfl:y6=Æ (Â ⟨ib,0,Á⟩) m c:=by simpa using W.t6
 obtain rfl:y7=É Î m:=by simpa using W.C
 obtain rfl:y8=É Î kk:=by simpa using W.I
 have rX:∀y:ã,(y=⟨n,2,Á⟩\/y=⟨an,j,Á⟩)->l.r y:=λy ha=>by rcases ha with rfl|rfl;exact o1;exact o2
 have auM:(kk:Int)<(m:Int):=Z
 simp only[zm];conv in L3=>whnf
 refine fO (n:=30) D.r ?_;have hF:True:=trivial;repeat w_go ft
 refine Ë λ_ _=> ?_;have B:∀g,gX l ⟨ib,g,Á⟩:=λg=>Ã zn;refine nH (v:=ę #[À O,É Î j,À<|Â ⟨i,0,Á⟩,À<|Â ⟨n,0,Á⟩]) U U (by k_ne) D.r V (λo r=> ?_) (λo r e F=> ?_) ?_
 .have J:=((B<|kk*4).r r).trans i0;have K:=((B<|kk*4+1).r r).trans i1;have L:=((B<|kk*4+2).r r).trans i2;have P:=((B<|kk*4+3).r r).trans i3;go_simp
 .have J:=((B<|kk*4).r r).trans i0;have K:=((B<|kk*4+1).r r).trans i1;have L:=((B<|kk*4+2).r r).trans i2;have P:=((B<|kk*4+3).r r).trans i3;simp[go_sem,J,K,L,P]at F;rcases F with rfl|rfl|rfl|rfl
  .exact(B _).rd
  .exact(B _).rd
  .exact(B _).rd
  .exact(B _).rd
 walk_nrm;refine Ih (ob:=Ê #[À Á,É Î 0,À Á,À Á] 155) U U (by k_ne) D.r V (λw=>by go_simp) (λw=>by simp[go_sem]) λo kg=> ?_;walk_nrm;have uF:iD (λa=>a=⟨n,2,Á⟩\/a=⟨an,j,Á⟩) l (gG l o<|Ê #[À Á,É Î 0,À Á,À Á] 155):=LZ D rX kg;have oY:(gG l o<|Ê #[À Á,É Î 0,À Á,À Á] 155).w.heap[o.heap.size]?=Â (Ê #[À Á,É Î 0,À Á,À Á] 155):=mX;have tq:l.w.heap.size<=o.heap.size:=kg.r;have I:(gG l o<|Ê #[À Á,É Î 0,À Á,À Á] 155).O o.heap.size:=Ç U;generalize gG l o (Ê #[À Á,É Î 0,À Á,À Á] 155)=l₁ at uF oY I|-;generalize o.heap.size=tb at oY I tq|-;refine vz U U (by k_ne) λs ox=> ?_;have S:s.heap[tb]?=_:=(ox.I tb<|Ã I).trans oY;have J:s.cell? ⟨tb,0,Á⟩=Â (À Á):=by simp[Ù,S]
 have K:s.cell? ⟨tb,1,Á⟩=Â (É Î 0):=by simp[Ù,S]
 have L:s.cell? ⟨tb,2,Á⟩=Â (À Á):=by simp[Ù,S]
 have P:s.cell? ⟨tb,3,Á⟩=Â (À Á):=by simp[Ù,S]
 have hz:∀g,s.frozen? ⟨tb,g,Á⟩=Í:=λg=>by simp[ð,S]
 go_simp;refine⟨{l₁ with w:=iT s tb (À O) (É Î j) (À<|Â ⟨i,0,Á⟩) (À<|Â ⟨n,0,Á⟩)},L0 (p:=tb) (lH uF.fv ox) (by rwa[uF.q]) I xl (λg H=>zk H) ⟨U,U,U⟩ λe F=> ?_,?_⟩
 .have h:=Ě F;have e:∀g,qp l₁ ⟨tb,g,Á⟩:=λg=>Ã I;simp[go_sem,â _ _ _ _ _ _ (show Ú (À O)=Ó from rfl),â _ _ _ _ _ _ (show Ú (À<|Â ⟨i,0,Á⟩)=Ó from rfl),â _ _ _ _ _ _ (show Ú (À<|Â ⟨n,0,Á⟩)=Ó from rfl),J,K,L,P,hz]at h;rcases h with rfl|rfl|rfl|rfl
  .exact(e _).r
  .exact(e _).r
  .exact(e _).r
  .exact(e _).r
 let⟨c0,c1,c2,c3⟩:=Rr (v0:=À O) (v1:=É Î j) (v2:=À<|Â ⟨i,0,Á⟩) (v3:=À<|Â ⟨n,0,Á⟩) J K L P;have C:=Rs (w':=iT s tb (À O) (É Î j) (À<|Â ⟨i,0,Á⟩)<|À<|Â ⟨n,0,Á⟩) D rX uF ox tq xl λg H=>zk H;have vH:({l₁ with w:=iT s tb (À O) (É Î j) (À<|Â ⟨i,0,Á⟩) (À<|Â ⟨n,0,Á⟩)}:e9).O tb:=I;replace c0:({l₁ with w:=iT s tb (À O) (É Î j) (À<|Â ⟨i,0,Á⟩) (À<|Â ⟨n,0,Á⟩)}:e9).w.cell? ⟨tb,0,Á⟩=_:=c0;replace c1:({l₁ with w:=iT s tb (À O) (É Î j) (À<|Â ⟨i,0,Á⟩) (À<|Â ⟨n,0,Á⟩)}:e9).w.cell? ⟨tb,1,Á⟩=_:=c1;replace c2:({l₁ with w:=iT s tb (À O) (É Î j) (À<|Â ⟨i,0,Á⟩) (À<|Â ⟨n,0,Á⟩)}:e9).w.cell? ⟨tb,2,Á⟩=_:=c2;replace c3:({l₁ with w:=iT s tb (À O) (É Î j) (À<|Â ⟨i,0,Á⟩) (À<|Â ⟨n,0,Á⟩)}:e9).w.cell? ⟨tb,3,Á⟩=_:=c3;generalize({l₁ with w:=iT s tb (À O) (É Î j) (À<|Â ⟨i,0,Á⟩) (À<|Â ⟨n,0,Á⟩)}:e9)=l₂ at c0 c1 c2 c3 C vH|-;clear oY I uF S J K L P hz ox s l₁ kg o;have rY:=C.G D;have qw:¬l₂.q:=by rwa[C.q]
 have ai6:l₂.N ⟨i,2,Á⟩:=by rwa[C.c]
 have nE:¬((⟨i,2,Á⟩:ã)=⟨n,2,Á⟩\/(⟨i,2,Á⟩:ã)=⟨an,j,Á⟩):=λq=>by
  rcases q with q|q
  .exact D.Y _ o1<|q▸uz
  .exact D.Y _ o2<|q▸uz
 have ai7:l₂.w.cell? ⟨i,2,Á⟩=Â v:=(C.e _ (Ç uz) nE).trans p7;have Rv:∀y:ã,(y=⟨n,2,Á⟩\/y=⟨an,j,Á⟩)->l₂.r y:=λy hy=>by rw[C.I];exact rX y hy
 refine fO (n:=5) rY.r ?_;iterate 2 w_go ft
 refine Ë λ_ _=> ?_;refine LQ (II zi #[y0,Æ (Â ⟨an,0,Á⟩) N N,Y,y3,y4,À<|Â ⟨tb,0,Á⟩,Æ (Â ⟨ib,0,Á⟩) m c,É Î m,É Î kk,Ĭ Ó,À<|Â ⟨ib,kk*4,Á⟩,ę #[À O,É Î j,À<|Â ⟨i,0,Á⟩,À<|Â ⟨n,0,Á⟩],xo,rW,s9,rh,vE,vF,uA,uB,uC,td,tf,tg,uD,vG,xp,tj,ri,uE,qt,qu,qe,pD,pE,oW,oX] (mW tb i n an N j (À O) v)<|Ff l₂ i n an j v Q) rY.r qw (λh H=> ?_) (λmd listed a l e z hI F=>aiZ rY qw U U U vH c0 c1 c2 c3 ai6 ai7 (Rv _<|Ã U) (Rv _<|Ç U) (C.g _ (Ã U) e1) (C.g _ (Ç U) e2) ((C.S _<|Ã o1).trans z1) ((C.S _<|Ã o2).trans z2) rO hN lr (λu h=>uj u<|C.fe h) md listed a l e z hI F) λmd listed a z hI ji zp=> ?_
 .refine⟨((Á,0,0),ByteArray.empty),lI.G _ _ _,(iD.fU rY.r).N Rv ⟨H.r,H.I,H.N,H.Y,H.S⟩,λq=> ?_,λq=> ?_,λq=> ?_⟩<;>exact absurd q A
 let⟨x,H,T⟩:=hI;have nI:∀e∈ä 21,listed.getD e Í=Ó:=by
  cases md
  .exact pH zp ji (ä 21) [] fM λe F=>by cases F
  .exact λe F=>pH zp ji [0,1,5,6,7,8,9,10,11,12,13,14,16,17,18,2,3,4,15,19,20] [] fM (λe F=>by cases F) e (by have:=ě.1 F;revert e;decide)
  .exact pH zp ji (ä 21) [] fM λe F=>by cases F
 have Ii:=C.fe T.r;have Ij:=Ii.G D;have xq:¬z.q:=by rwa[Ii.q]
 let⟨F,ds⟩:=a;obtain rfl:ds=[]:=H.M;have b1:F[1]?=Â (Æ (Â ⟨an,0,Á⟩) N N):=H.C (d:=1) A;have b5:F[5]?=Â (À<|Â ⟨tb,0,Á⟩):=H.C (d:=5) A;have b6:F[6]?=Â (Æ (Â ⟨ib,0,Á⟩) m c):=H.C (d:=6) A;have b7:F[7]?=Â (É Î m):=H.C (d:=7) A;have b8:F[8]?=Â (É Î kk):=H.C (d:=8) A;obtain⟨x0,x1,x2,x3,x4,x5,x6,x7,x8,x9,Y9,x11,x12,x13,x14,x15,x16,x17,x18,x19,x20,x21,x22,x23,x24,x25,x26,x27,x28,x29,x30,x31,x32,x33,x34,x35,x36,rfl⟩:=Rt F H.S;obtain rfl:x1=Æ (Â ⟨an,0,Á⟩) N N:=by simpa using b1
 obtain rfl:x5=À (Â ⟨tb,0,Á⟩):=by simpa using b5
 obtain rfl:x6=Æ (Â ⟨ib,0,Á⟩) m c:=by simpa using b6
 obtain rfl:x7=É Î m:=by simpa using b7
 obtain rfl:x8=É Î kk:=by simpa using b8
 have ai8:=T.vD<|nI 12 A;have ai9:=T.I<|nI 18 A;have aja:=T.N<|nI 20 A;have d3:z.w.cell? ⟨tb,3,Á⟩=Â (À<|Â ⟨n,0,Á⟩):=(gM<|T.r.r tb<|Ã vH).trans c3;have s3:gX z ⟨tb,3,Á⟩:=Ã<|Ã<|T.r.O tb vH;clear H nI b1 b5 b6 b7 b8;refine fO (n:=9) Ij.r ?_;iterate 3 w_go ft
 refine Ë λ_ _=> ?_;refine pG (x:=⟨tb,3,Á⟩) U U (by k_ne) Ij.r xq s3 d3 (λw h=>by go_simp) (λw h=>by simp[go_sem,h]) ?_;walk_nrm;refine fO (n:=9) Ij.r ?_;iterate 2 w_go ft
 u_call rf.f_done (nm_done Lk) doneFn ft hF
 refine Ë λ_ _=> ?_;have rZ:∀o,fF z z.w o->mf (λ_=>True) {z with w:=o} n/\SW (λ_=>True) {z with w:=o} n o/\Φ {z with w:=o}/\(τ {z with w:=o}).d=0/\∃E:ß->Prop,mf E (τ {z with w:=o}) n/\SW E (τ {z with w:=o}) n (τ {z with w:=o}).w/\∀s X,SW E (τ {z with w:=o}) n s->Cz an N (Â ⟨ib,0,Á⟩) m c (kk+1) X->fg Ä Í f {τ {z with w:=o}with d:=0,w:=s} (zm X qX):=λo r=>by
  refine AF {z with w:=o} x (Ii.N rX r) ?_ ?_ ?_
  .let⟨y,y1,Y⟩:=ai8;exact⟨y,y1,λb h=>⟨(Y b h).1,(r.I b (Y b h).1).trans (Y b h).2⟩⟩
  .exact(r.N _<|Ã<|by rwa[Ii.I]).trans ai9
  .exact(r.N _<|Ã<|by rwa[Ii.I]).trans aja
 let⟨k1,k2,_⟩:=rZ z.w<|fF.fU _ _;refine ai4 rf τ Φ k1 k2 λo r=> ?_;let⟨_,_,f1,f4,E,f2,f3,f5⟩:=rZ o r;refine⟨f1,f4,E,f2,f3,λs h=> ?_⟩;walk_nrm;refine fO (n:=30) h.1 ?_;iterate 7 w_go ft
 refine Ë λ_ _=> ?_;refine f5 s _ h ⟨U,U,U,U,?_⟩;simp;exact CB Z Z
end
def ajb:Array å:=#[⟨Â 2,Č 85<|Ò 0,85, "work.go:24",#[],Á⟩,
 ⟨Â 3,Č 25<|Ò 1,25, "work.go:24",#[],Á⟩,
 ⟨Â 4,č {callee:=û (Ċ 49),args:=#[Ò 2,Ò 3],argTypes:=#[85,25]},0, "work.go:24",#[⟨0,Õ⟩,⟨1,Õ⟩],Á⟩]
def zq(a:Nat)(b c d e:Ð):é:=(baseD 63).at ⟨#[À<|Â ⟨a,0,Á⟩,b,c,d,e],[pF 64 #[À<|Â ⟨a,0,Á⟩] #[]]⟩ [Ï Y5 [1]]
def vI(a b c d e:Ð):é:=(base 48).at ⟨#[a,b,c,d,e],[]⟩ [Ï ajb [2]]
section
variable{Ψ:ß->Prop}{J:Jd}{l:e9}{a e f o p:Ð}
def ajc(c:jU l)(g:¬l.q)(k:gX l ⟨j9,0,Á⟩)(r:gX l ⟨j7,0,Á⟩)(s:gX l ⟨b,0,Á⟩)(t:l.w.cell? ⟨j9,0,Á⟩=Â (Ď (ý 48) #[] #[À<|Â ⟨j7,0,Á⟩,À<|Â ⟨b,0,Á⟩]))(u:l.w.cell? ⟨j7,0,Á⟩=Â (Æ O m n))(y:l.w.cell? ⟨b,0,Á⟩=Â (Æ (Â ⟨j,0,Á⟩) i i)) (B:∀d a e f o v x z jQ p,Cz j i O m n 0 d->fg Ä Í J l (zm d [vI v x z jQ p,zq j6 a e f o,n8 Ä])): fg Ä Í J l (born Ä<|pF 63 #[À<|Â ⟨j6,0,Á⟩,À<|Â ⟨j9,0,Á⟩] #[]):=by
 apply fO (n:=30) c;have hF:=trivial;u_c (YV Ż fM U) ft hF;walk_nrmf θ;iterate 3 w_go ft
 u_c (YT U U (by k_ne) U U) ft hF
 walk_nrm;repeat w_go ft
 refine Ë λ_ _=> ?_;apply pG U U (by k_ne) c g k t (λw h=>by go_simp) (λw h=>by simp[go_sem,h]);walk_nrm;apply fO (n:=30) c;u_c (YU U U (by k_ne) U U ż fM U) ft hF;walk_nrmf Tryz.f48;w_go ft;refine Ë λ_ _=> ?_;apply pG U U (by k_ne) c g r u (λw h=>by go_simp) (λw h=>by simp[go_sem,h]);walk_nrm;apply pG U U (by k_ne) c g s y (λw h=>by go_simp) (λw h=>by simp[go_sem,h]);walk_nrm;apply fO (n:=30) c;u_call Ž fM η ft hF;iterate 8 w_go ft
 refine Ë λ_ _=> ?_;exact B _ _ _ _ _ _ _ _ _ _ ⟨U,U,U,U,U⟩
def ajd(b:Cz j i O m n m d)(h:l.K ⟨k,0,Á⟩/\l.K ⟨k,1,Á⟩)(r:mf Ψ l k)(c:SW Ψ l k l.w)(s:l.d=0)(t:¬l.q)(u:gX l ⟨j6,0,Á⟩)(y:l.w.cell? ⟨j6,0,Á⟩=Â (À<|Â ⟨k,0,Á⟩)): fg Ä Í (λl g=>yK Ä Í k (E3 Ä) (kC l) g) l (zm d [vI v x z jQ p,zq j6 a e f o,n8 Ä]):=by
 obtain⟨C,D,E,F,G,H,I,g,B,J,L,M,N,P,Q,S,T,V,W,X,Y,td,tf,tg,uD,vG,xp,tj,ri,uE,qt,qu,qe,pD,pE,oW,oX,rfl⟩:=Rt d b.r;obtain rfl:g=É Î m:=by simpa using b.C
 obtain rfl:B=É Î m:=by simpa using b.I
 have hmm:¬(m:Int)<(m:Int):=Z
 simp only[zm];conv in L3=>whnf
 apply fO (n:=40) c.1;have hF:=trivial;iterate 8 w_go ft
 u_leave0 Ž ft hF
 iterate 2 w_go ft
 u_leave0 ż ft hF
 refine Ë λ_ _=> ?_;exact Y6 h r c s t u y
end
def Ik:å:=⟨Â 14,ü<|Ò 1,25, "work.go:65",#[],Á⟩
def Il:å:=⟨Â 15,ê 155 (Ò 4) 1,0, "work.go:65",#[],Á⟩
def Fg:å:=⟨Â 16,Č 3<|Ò 15,3, "work.go:65",#[⟨1,Õ⟩],Á⟩
def Im:å:=⟨Â 17,ê 155 (Ò 4) 2,0, "work.go:65",#[],Á⟩
def Fh:å:=⟨Â 18,Č 86<|Ò 17,86, "work.go:65",#[⟨3,Õ⟩],Á⟩
def Fi:å:=⟨Â 19,Ĕ<|Ò 18,0, "work.go:65",#[⟨4,Õ⟩],Á⟩
def Fj:å:=⟨Â 20,ê 105 (Ò 19) 1,0, "work.go:65",#[⟨5,Õ⟩],Á⟩
def Fl:å:=⟨Â 21,Č 65<|Ò 20,65, "work.go:65",#[⟨6,Õ⟩],Á⟩
def Io:å:=⟨Â 22,ê 155 (Ò 4) 0,0, "work.go:65",#[],Á⟩
def Fo:å:=⟨Â 23,Č 148<|Ò 22,148, "work.go:65",#[⟨8,Õ⟩],Á⟩
def CC:å:=⟨Â 24,č {callee:=û<|Ċ 67,args:=#[Ò 21,Ò 23],argTypes:=#[65,148]},9, "work.go:65",#[⟨7,Õ⟩,⟨9,Õ⟩],Á⟩
def CF:å:=⟨Â 25,ş 25 (Ò 14)<|Ò 16,0, "work.go:65",#[⟨0,Õ⟩,⟨2,Õ⟩,⟨0,Ì⟩,⟨1,Ì⟩,⟨2,Ì⟩,⟨3,Ì⟩,⟨4,Ì⟩,⟨5,Ì⟩,⟨6,Ì⟩,⟨7,Ì⟩,⟨8,Ì⟩,⟨9,Ì⟩,⟨10,Ì⟩],Á⟩
def CG:å:=⟨Á,Ų 9 (Ò 25)<|Ò 24,0, "work.go:65",#[⟨11,Õ⟩,⟨10,Õ⟩,⟨10,ų⟩,⟨0,Ì⟩,⟨1,Ì⟩,⟨2,Ì⟩,⟨3,Ì⟩,⟨4,Ì⟩,⟨5,Ì⟩,⟨6,Ì⟩,⟨7,Ì⟩,⟨8,Ì⟩,⟨9,Ì⟩,⟨10,Ì⟩],Á⟩
def vK:Array å:=#[Ik,Il,Fg,Im,Fh,Fi,Fj,Fl,Io,Fo,CC,CF,CG]
def rj(tb a b N c:Nat)(d e:Ð)(x:ByteArray):Nat->Ð
 |0=>Æ (Â ⟨b,0,Á⟩) N N
 |1=>À<|Â ⟨tb,1,Á⟩
 |2=>É Î c
 |3=>À<|Â ⟨tb,2,Á⟩
 |4=>À<|Â ⟨a,0,Á⟩
 |5=>À<|Â ⟨a,0,Á⟩
 |6=>À<|Â ⟨a,2,Á⟩
 |7=>e
 |8=>À<|Â ⟨tb,0,Á⟩
 |9=>d
 |10=>á x
 |11=>À<|Â ⟨b,c,Á⟩
 |_=>Å
structure Fp(il:e9)(an pl:Nat)(Q:ByteArray->Prop)(listed:Array Bool)(x:ByteArray)(l:e9):Prop where
 r:iD (λa=>a=⟨an,pl,Á⟩) il l
 vD:listed.getD 10 Í=Ó->Q x
 I:listed.getD 12 Í=Ó->l.w.cell? ⟨an,pl,Á⟩=Â (á x)
def Fp.C{b l:e9}{Q:ByteArray->Prop}{listed:Array Bool}{x:ByteArray}(h:Fp b n j Q listed x l)(e:i≠10)(f:i≠12)(c:b.r ⟨n,j,Á⟩)(d:ß)(r:fF l l.w d):Fp b n j Q (listed.setIfInBounds i Ó) x {l with w:=d}:=by
 refine⟨h.r.N (λa q=>by rwa[q]) r,λq=> ?_,λq=> ?_⟩
 .rw[ç Í e]at q;exact h.vD q
 .rw[ç Í f]at q;exact(r.N _<|by rw[h.r.C];exact Ã c).trans<|h.I q
section
variable{J:Jd}{il:e9}{an pl:Nat}{Q:ByteArray->Prop}
def aje(W:gu il)(hq:¬il.q)(ht:d.size=26)(uy:d[1]?=Â (Æ (Â ⟨an,0,Á⟩) i i))(Ip:d[4]?=Â (À<|Â ⟨j,0,Á⟩))(hO:il.O j) (J:il.w.cell? ⟨j,0,Á⟩=Â v) (K:il.w.cell? ⟨j,1,Á⟩=Â (É Î pl)) (M:il.w.cell? ⟨j,2,Á⟩=Â (À<|Â ⟨n,0,Á⟩)) (X:il.N ⟨n,2,Á⟩) (p7:il.w.cell? ⟨n,2,Á⟩=Â z) (B:il.r ⟨an,pl,Á⟩) (e2:(il.w.cell? ⟨an,pl,Á⟩).isSome=Ó) (z2:il.w.frozen? ⟨an,pl,Á⟩=Í) (rO:pl<i) (Rw:∀l,iD (λa=>a=⟨an,pl,Á⟩) il l->∀t lT,fg Ä Í (λP S=>P.d=l.d/\∃T,S=G (t.finish<|á T) lT/\Q T) (mg l)<|G (ć Ä 67 #[z,v] Ĥ)<|t::lT) (md:Ă) (listed:Array Bool) (a:ŝ) (l:e9) (b:Nat) (rest:List Nat) (hI:II vK d (rj j n an i pl v z) (Fp il an pl Q) listed a l) (p:b∈Ü md vK listed): fg Ä Í (λP S=>∃I,S=G ((base 51).at I<|Ï vK rest::L) qX/\II vK d (rj j n an i pl v z) (Fp il an pl Q) (listed.setIfInBounds b Ó) I P) l (G ((base 51).at a<|Ï vK (b::rest)::L) qX):=by
 let⟨x,m,s⟩:=hI;have E:qZ vK d.size=Ó:=by rw[ht];decide
 have Za:=Ri p;have gI:=zh p;have F:=s.r.fv;have H:¬l.q:=by rwa[s.r.q]
 have V:∀y:ã,y=⟨an,pl,Á⟩->il.r y:=λy ha=>by rwa[ha]
 have oY:a.tmps[1]?=Â (Æ (Â ⟨an,0,Á⟩) i i):=(m.C A).trans uy;have Y:a.tmps[4]?=Â (À<|Â ⟨j,0,Á⟩):=(m.C A).trans Ip;have t:∀c g,il.w.cell? ⟨j,c,Á⟩=Â g->gX l ⟨j,c,Á⟩/\l.w.cell? ⟨j,c,Á⟩=Â g:=λc g h=>⟨Ã<|Ã<|s.r.O j hO,by rwa[gM<|s.r.r j<|Ã hO]⟩;have Rm:¬((⟨n,2,Á⟩:ã)=⟨an,pl,Á⟩):=λq=>W.Y _ B<|q▸X;have N:gX l ⟨n,2,Á⟩/\l.w.cell? ⟨n,2,Á⟩=Â z:=⟨Ç (Ç<|by rwa[s.r.c]),by rwa[s.r.e _ (Ç X) Rm]⟩;have Rn:(pl:Int)<(i:Int):=Z
 have ji:vK.size=13:=A
 rw[ji]at gI;match b,gI with
 |0,_=>
  refine ik (o:=Ik) E m U U p (by k_ne) F H (λk r=> ?_) (λk r e u=> ?_)<|s.C A A B
  .simp only[rj,Ik];go_simp
  .simp[go_sem,Ik,oY]at u
 |1,_=>
  refine ik (o:=Il) E m U U p (by k_ne) F H (λk r=> ?_) (λk r e u=> ?_)<|s.C A A B
  .simp only[rj,Il];go_simp
  .simp[go_sem,Il,Y]at u
 |2,_=>
  have Rp:a.tmps[15]?=Â (À<|Â ⟨j,1,Á⟩):=m.r 1 Il 15 U (ic (o:=Fg) p U U) U;refine ik (o:=Fg) E m U U p (by k_ne) F H (λk r=> ?_) (λk r e u=> ?_)<|s.C A A B
  .have D:k.cell? ⟨j,1,Á⟩=Â (É Î pl):=((t 1 _ K).1.r r).trans (t 1 _ K).2;simp only[rj,Fg];go_simp
  .have D:k.cell? ⟨j,1,Á⟩=Â (É Î pl):=((t 1 _ K).1.r r).trans (t 1 _ K).2;have I:e=⟨ÿ ⟨j,1,Á⟩,Í,Í⟩:=by simp[go_sem,Fg,D,Rp]at u;exact u
   subst I;exact(t 1 _ K).1.rd
 |3,_=>
  refine ik (o:=Im) E m U U p (by k_ne) F H (λk r=> ?_) (λk r e u=> ?_)<|s.C A A B
  .simp only[rj,Im];go_simp
  .simp[go_sem,Im,Y]at u
 |4,_=>
  have Rq:a.tmps[17]?=Â (À<|Â ⟨j,2,Á⟩):=m.r 3 Im 17 U (ic (o:=Fh) p U U) U;refine ik (o:=Fh) E m U U p (by k_ne) F H (λk r=> ?_) (λk r e u=> ?_)<|s.C A A B
  .have D:k.cell? ⟨j,2,Á⟩=Â (À<|Â ⟨n,0,Á⟩):=((t 2 _ M).1.r r).trans (t 2 _ M).2;simp only[rj,Fh];go_simp
  .have D:k.cell? ⟨j,2,Á⟩=Â (À<|Â ⟨n,0,Á⟩):=((t 2 _ M).1.r r).trans (t 2 _ M).2;have I:e=⟨ÿ ⟨j,2,Á⟩,Í,Í⟩:=by simp[go_sem,Fh,D,Rq]at u;exact u
   subst I;exact(t 2 _ M).1.rd
 |5,_=>
  have Rx:a.tmps[18]?=Â (À<|Â ⟨n,0,Á⟩):=m.r 4 Fh 18 U (ic (o:=Fi) p U U) U;refine ik (o:=Fi) E m U U p (by k_ne) F H (λk r=> ?_) (λk r e u=> ?_)<|s.C A A B
  .simp only[rj,Fi];go_simp
  .simp[go_sem,Fi,Rx]at u
 |6,_=>
  have h19:a.tmps[19]?=Â (À<|Â ⟨n,0,Á⟩):=m.r 5 Fi 19 U (ic (o:=Fj) p U U) U;refine ik (o:=Fj) E m U U p (by k_ne) F H (λk r=> ?_) (λk r e u=> ?_)<|s.C A A B
  .simp only[rj,Fj];go_simp
  .simp[go_sem,Fj,h19]at u
 |7,_=>
  have L4:a.tmps[20]?=Â (À<|Â ⟨n,2,Á⟩):=m.r 6 Fj 20 U (ic (o:=Fl) p U U) U;refine ik (o:=Fl) E m U U p (by k_ne) F H (λk r=> ?_) (λk r e u=> ?_)<|s.C A A B
  .have D:k.cell? ⟨n,2,Á⟩=Â (z):=(N.1.r r).trans N.2;simp only[rj,Fl];go_simp
  .have D:k.cell? ⟨n,2,Á⟩=Â (z):=(N.1.r r).trans N.2;have I:e=⟨ÿ ⟨n,2,Á⟩,Í,Í⟩:=by simp[go_sem,Fl,D,L4]at u;exact u
   subst I;exact N.1.rd
 |8,_=>
  refine ik (o:=Io) E m U U p (by k_ne) F H (λk r=> ?_) (λk r e u=> ?_)<|s.C A A B
  .simp only[rj,Io];go_simp
  .simp[go_sem,Io,Y]at u
 |9,_=>
  have Ig:a.tmps[22]?=Â (À<|Â ⟨j,0,Á⟩):=m.r 8 Io 22 U (ic (o:=Fo) p U U) U;refine ik (o:=Fo) E m U U p (by k_ne) F H (λk r=> ?_) (λk r e u=> ?_)<|s.C A A B
  .have D:k.cell? ⟨j,0,Á⟩=Â (v):=((t 0 _ J).1.r r).trans (t 0 _ J).2;simp only[rj,Fo];go_simp
  .have D:k.cell? ⟨j,0,Á⟩=Â (v):=((t 0 _ J).1.r r).trans (t 0 _ J).2;have I:e=⟨ÿ ⟨j,0,Á⟩,Í,Í⟩:=by simp[go_sem,Fo,D,Ig]at u;exact u
   subst I;exact(t 0 _ J).1.rd
 |10,_=>
  have Ry:a.tmps[21]?=Â (z):=m.r 7 Fl 21 U (ic (o:=CC) p U U) U;have h23:a.tmps[23]?=Â (v):=m.r 9 Fo 23 U (ic (o:=CC) p U U) U;refine Y4 (o:=CC) E m U U p (by k_ne) F (f:=67) (args:=#[z,v]) (λw=>by simp only[CC];go_simp) (λw=>Ō (o:=CC) U Tryz.func67 U U #[]) λk r=> ?_;have I:=s.r.N V r;refine((Rw _ I _ _).mg<|I.G W).fN ?_;rintro P S ⟨y,⟨hy0,T,rfl,hQ⟩,rfl,hA,Y7,ai0,ai1⟩;refine⟨T,U,⟨I.Rj V hA hy0,λ_=>hQ,λq=> ?_⟩,λc hj=> ?_⟩
  .rw[ç Í A]at q;exact absurd (m.I (o:=CG) U q U)<|xk Za
  .match c,hj with
   |10,hj=>exact absurd hj<|xk Za
   |0,_|1,_|2,_|3,_|4,_|5,_|6,_|7,_|8,_|9,_|11,_|12,_|n+13,_=>rfl
 |11,_=>
  have I:a.tmps[14]?=Â (Æ (Â ⟨an,0,Á⟩) i i):=m.r 0 Ik 14 U (ic (o:=CF) p U U) U;have h16:a.tmps[16]?=Â (É Î pl):=m.r 2 Fg 16 U (ic (o:=CF) p U U) U;refine ik (o:=CF) E m U U p (by k_ne) F H (λk r=> ?_) (λk r e u=> ?_)<|s.C A A B
  .simp only[rj,CF];go_simp
  .simp[go_sem,CF,rO,Rn,I,h16]at u
 |12,_=>
  have h25:a.tmps[25]?=Â (À<|Â ⟨an,pl,Á⟩):=m.r 11 CF 25 U (ic (o:=CG) p U U) U;have LX:a.tmps[24]?=Â (á x):=m.r 10 CC 24 U (ic (o:=CG) p U U) U;have I:(l.w.cell? ⟨an,pl,Á⟩).isSome=Ó:=s.r.g _ U e2;have Cx:l.w.frozen? ⟨an,pl,Á⟩=Í:=(s.r.S _<|Ã B).trans z2;have lJ:qp l ⟨an,pl,Á⟩:=Ç (by rwa[s.r.I]);refine Rk (o:=CG) (y:=⟨an,pl,Á⟩) (v:=á x) E m U U U p (by k_ne) F H U lJ I Cx (λw D e=> ?_) (λw D e=> ?_) λk r=> ?_
  .let⟨u,hu⟩:=Ö.1 D;simp only[CG];go_simp
  .let⟨u,hu⟩:=Ö.1 D;simp[go_sem,CG,h25,LX,â _ _ _ _ _ _ (show Ú (á x)=Ó from rfl),hu,e]
  .have hA:=s.r.qN W V (x:=⟨an,pl,Á⟩) (v:=á x) U U I;refine⟨hA.N V ⟨r.r,r.I,r.N,r.Y,r.S⟩,λq=> ?_,λq=> ?_⟩
   .rw[ç Í A]at q;exact s.vD q
   .exact(r.N _<|by rw[s.r.C];exact Ã B).trans<|AK (Ö.1 I).choose_spec
 |n+13,h=>exact absurd h Z
end
def zr:Array å:=#[⟨Â 6,.recv 165 (Ò 5) Ó,0, "work.go:63",#[],Á⟩,⟨Â 7,Ş (Ò 6) 1,4, "work.go:63",#[⟨0,Õ⟩],Á⟩]
def Zb:Array å:=#[⟨Â 8,Ş (Ò 6) 0,155, "work.go:63",#[],Á⟩,⟨Â 4,.alloc 155,0, "work.go:63",#[],Á⟩,⟨Á,Ų 155 (Ò 4)<|Ò 8,0, "work.go:63",#[⟨1,Õ⟩,⟨0,Õ⟩,⟨0,Ì⟩,⟨1,Ì⟩],Á⟩]
def Rz:Array å:=#[⟨Â 9,ê 155 (Ò 4) 2,0, "work.go:64",#[],Á⟩,⟨Â 10,Č 86<|Ò 9,86, "work.go:64",#[⟨0,Õ⟩],Á⟩,⟨Â 11,Ĕ<|Ò 10,0, "work.go:64",#[⟨1,Õ⟩],Á⟩,⟨Â 12,ê 105 (Ò 11) 0,0, "work.go:64",#[⟨2,Õ⟩],Á⟩,⟨Â 13,č {callee:=û<|Ċ 53,args:=#[Ò 12],argTypes:=#[97]},0, "work.go:64",#[⟨3,Õ⟩],Á⟩]
def Fq:Ġ:=((Ŕ (Ò 7) ŕ<|Ŗ 0).seq<|ĥ 1<|(à 2 Zb Í).seq<|(à 3 Rz Í).seq<|à 4 vK Ó)
def CH:Ġ:=(à 1 zr Í).seq Fq
def ajf:Array å:=#[⟨Â 2,Č 101<|Ò 0,101, "work.go:30",#[],Á⟩,
 ⟨Â 3,Č 25<|Ò 1,25, "work.go:30",#[],Á⟩,
 ⟨Â 4,č {callee:=û (Ċ 51),args:=#[Ò 2,Ò 3],argTypes:=#[165,25]},0, "work.go:30",#[⟨0,Õ⟩,⟨1,Õ⟩],Á⟩]
def Iq(a b c d e:Ð):é:=(base 50).at ⟨#[a,b,c,d,e],[]⟩ [Ï ajf [2]]
def Zc(t:Array Ð)(a:List é):Ý:=G ((base 51).at ⟨t,[]⟩ [ö CH,Ā CH,ï 0]) a
def zt(t:Array Ð)(a:List é):Ý:=G ((base 51).at ⟨t,[]⟩ [Ï zr [0,1],ö Fq,Ā CH,ï 0]) a
def L5(t:Array Ð)(a:List é):Ý:=G ((base 51).at ⟨t,[]⟩ [Ï Rz [],ö<|à 4 vK Ó,ï 1,Ā CH,ï 0]) a
def RE(t:Array Ð)(a:List é):Ý:=G ((base 51).at ⟨t,[]⟩ [Ï zr [1],ö Fq,Ā CH,ï 0]) a
def Zd(t:Array Ð)(v:Ð)(a:List é):({zt t a with frame:=(zt t a).frame.finish v}:Ý)=RE (t.setIfInBounds 6 v) a:=by have:(zt t a).frame.finish v=(base 51).at (ξ ⟨t,[]⟩ (Â 6) v) [Ï zr [1],ö Fq,Ā CH,ï 0]:=Ī _ _ _ _ _ _ _;rw[this];rfl
def zT:Ð:=ę #[À Á,É Î 0,À Á,À Á]
structure QT(an N ch:Nat)(t:Array Ð):Prop where
 r:t.size=26
 C:t[1]?=Â (Æ (Â ⟨an,0,Á⟩) N N)
 I:t[5]?=Â (è<|Â ch)
def ajg(t:Array Ð)(h:t.size=26):∃a b c d e f g i j k l m n o p q r s u v w x y z B C:Ð,t=#[a,b,c,d,e,f,g,i,j,k,l,m,n,o,p,q,r,s,u,v,w,x,y,z,B,C]:=by obtain⟨_,rfl⟩:=xm t h;exact⟨_,_,_,_,_,_,_,_,_,_,_,_,_,_,_,_,_,_,_,_,_,_,_,_,_,_,U⟩
section
variable{Ψ:ß->Prop}{J u:Jd}{l:e9}{t:Array Ð}{ch an N:Nat}{a:Option ã}{Q:ByteArray->Prop}{o p r s c f:Ð}{τ:e9->e9}
def Ze(a:jU l)(b:fg Ä Í J l (zt t qX)):fg Ä Í J l (Zc t qX):=by apply fO (n:=5) a;have hF:=trivial;simp only[Zc,CH];w_go ft;u_c ń ft hF;exact Ë λ_ _=>b
def ajh(a:jU l)(d:¬l.q)(e:gX l ⟨k,0,Á⟩)(g:gX l ⟨b,0,Á⟩)(i:gX l ⟨n,0,Á⟩)(j:l.w.cell? ⟨k,0,Á⟩=Â (Ď (ý 50) #[] #[À<|Â ⟨b,0,Á⟩,À<|Â ⟨n,0,Á⟩]))(u:l.w.cell? ⟨b,0,Á⟩=Â (è<|Â ch))(v:l.w.cell? ⟨n,0,Á⟩=Â (Æ (Â ⟨an,0,Á⟩) N N)) (y:∀t o p r s x z jQ c f,QT an N ch t->fg Ä Í J l (zt t [Iq x z jQ c f,zq m o p r s,n8 Ä])): fg Ä Í J l (born Ä<|pF 63 #[À<|Â ⟨m,0,Á⟩,À<|Â ⟨k,0,Á⟩] #[]):=by
 apply fO (n:=30) a;have hF:=trivial;u_c (YV Ż fM U) ft hF;walk_nrmf θ;iterate 3 w_go ft
 u_c (YT U U (by k_ne) U U) ft hF
 walk_nrm;repeat w_go ft
 refine Ë λ_ _=> ?_;apply pG U U (by k_ne) a d e j (λw h=>by go_simp) (λw h=>by simp[go_sem,h]);walk_nrm;apply fO (n:=30) a;u_c (YU U U (by k_ne) U U ž fM U) ft hF;walk_nrmf Tryz.f50;w_go ft;refine Ë λ_ _=> ?_;apply pG U U (by k_ne) a d g u (λw h=>by go_simp) (λw h=>by simp[go_sem,h]);walk_nrm;apply pG U U (by k_ne) a d i v (λw h=>by go_simp) (λw h=>by simp[go_sem,h]);walk_nrm;apply fO (n:=30) a;u_call ſ fM Tryz.f51 ft hF;iterate 6 w_go ft
 refine Ë λ_ _=> ?_;exact Ze a<|y _ _ _ _ _ _ _ _ _ _ ⟨U,U,U⟩
def aji{Y:Ð}(G:gu l)(M:¬l.q)(P:l.d=0)(hT:QT an N ch t)(hB:60<=i)(ajj:Y=ę #[À a,É Î j7,À<|Â ⟨j9,0,Á⟩,À O])(Q:l.K ⟨j9,0,Á⟩/\l.K ⟨j9,1,Á⟩)(Ir:mV j9 l.w) (RF:l.K ⟨j,0,Á⟩/\l.K ⟨j,1,Á⟩) (hsa:mV j l.w) (hs:gX l ⟨m,0,Á⟩) (hc:l.w.cell? ⟨m,0,Á⟩=Â (À<|Â ⟨j,0,Á⟩)) (ajk:∀H k t',iD (λ_=>False) l H->H.d=0->H.O k->H.w.cell? ⟨k,0,Á⟩=Â (À a)->H.w.cell? ⟨k,1,Á⟩=Â (É Î j7)->H.w.cell? ⟨k,2,Á⟩=Â (À<|Â ⟨j9,0,Á⟩)->QT an N ch t'->t'[4]?=Â (À<|Â ⟨k,0,Á⟩)->u H (L5 t' [Iq x z jQ c f,zq m o p r s,n8 Ä])): w7 Ä Í ch zT (λb=>match b with
  |some v=>λl g=>v=Y->qW Ä Í i j9 u .iX l g
  |none=>λl g=>yK Ä Í j (E3 Ä) (kC l) g) l (zt t [Iq x z jQ c f,zq m o p r s,n8 Ä]):=by
 obtain⟨y0,y1,y2,y3,y4,y5,y6,y7,y8,y9,xn,zo,xo,rW,s9,rh,vE,vF,uA,uB,uC,td,tf,tg,uD,vG,rfl⟩:=ajg t hT.r;obtain rfl:y1=Æ (Â ⟨an,0,Á⟩) N N:=by simpa using hT.C
 obtain rfl:y5=è (Â ch):=by simpa using hT.I
 have hF:=trivial;refine⟨U,U,λD=> ?_,λb=> ?_⟩
 .refine(Θ (cases:=#[rcase ch zT]) (blocking:=Ó) (shape:=.recv Ó) (w':=D) rfl rfl (by k_ne) ?_).trans ?_
  .simp[go_sem,zr,Đ,rcase,zT]
  .simp[listed,go_sem,zr,Đ,ı];rfl
 cases b with
 |none=>
  rw[Zd];simp only[RE,Fq,zr,Option.getD_none,Ļ,Ĝ,ļ,Ľ];apply fO (n:=30) G.r;iterate 6 w_go ft
  u_leave0 ſ ft hF
  iterate 2 w_go ft
  u_leave0 ž ft hF
  refine Ë λ_ _=> ?_;exact Y6 (Ψ:=λ_=>True) RF ⟨Ã RF.1,Ã RF.2,λ_ _ _ _ _ _ _ _=>trivial⟩ ⟨G.r,hsa,trivial⟩ P M hs hc
 |some v=>
  by_cases hv:v=Y
  .subst hv;subst ajj;apply fg.fN λl g h _=>h;rw[Zd];simp only[RE,Fq,zr,Ŏ,Option.isSome_some,Ĝ,ļ,Ľ];apply fO (n:=30) G.r;iterate 7 w_go ft
   u_c ń ft hF
   simp only[Zb,Ņ,ŏ,ř,ŭ,ĕ,ä,List.range.loop];w_go ft;refine Ë λ_ _=> ?_;have rX:∀y:ã,False->l.r y:=λy ha=>ha.elim;refine Ih (ob:=Ê #[À Á,É Î 0,À Á,À Á] 155) U U (by k_ne) G.r M (λw=>by go_simp) (λw=>by simp[go_sem]) λD kg=> ?_;walk_nrm;have S:iD (λ_=>False) l (gG l D<|Ê #[À Á,É Î 0,À Á,À Á] 155):=LZ G rX kg;have oY:(gG l D<|Ê #[À Á,É Î 0,À Á,À Á] 155).w.heap[D.heap.size]?=Â (Ê #[À Á,É Î 0,À Á,À Á] 155):=mX;have tq:=kg.r;have I:(gG l D<|Ê #[À Á,É Î 0,À Á,À Á] 155).O D.heap.size:=Ç U;generalize gG l D (Ê #[À Á,É Î 0,À Á,À Á] 155)=l₁ at S oY I|-;generalize D.heap.size=k at oY I tq|-;refine vz U U (by k_ne) λC ox=> ?_;have J:=(ox.I k<|Ã I).trans oY;have Fs:C.cell? ⟨k,0,Á⟩=Â (À Á):=by simp[Ù,J]
   have zg:C.cell? ⟨k,1,Á⟩=Â (É Î 0):=by simp[Ù,J]
   have rm:C.cell? ⟨k,2,Á⟩=Â (À Á):=by simp[Ù,J]
   have uG:C.cell? ⟨k,3,Á⟩=Â (À Á):=by simp[Ù,J]
   have hz:∀g,C.frozen? ⟨k,g,Á⟩=Í:=λg=>by simp[ð,J]
   go_simp;refine⟨{l₁ with w:=iT C k (À a) (É Î j7) (À<|Â ⟨j9,0,Á⟩) (À O)},L0 (lH S.fv ox) (by rwa[S.q]) I xl (λg F=>zk F) ⟨U,U,U⟩ λe L=> ?_,?_⟩
   .have E:=Ě L;have B:∀g,qp l₁ ⟨k,g,Á⟩:=λg=>Ã I;simp[go_sem,â _ _ _ _ _ _ (show Ú (À a)=Ó from rfl),â _ _ _ _ _ _ (show Ú (À<|Â ⟨j9,0,Á⟩)=Ó from rfl),â _ _ _ _ _ _ (show Ú (À O)=Ó from rfl),Fs,zg,rm,uG,hz]at E;rcases E with rfl|rfl|rfl|rfl
    .exact(B _).r
    .exact(B _).r
    .exact(B _).r
    .exact(B _).r
   obtain⟨T,V,L,c3⟩:=Rr Fs zg rm uG;have E:=Rs (w':=iT C k (À a) (É Î j7) (À<|Â ⟨j9,0,Á⟩)<|À O) G rX S ox tq xl λg F=>zk F;have W:({l₁ with w:=iT C k (À a) (É Î j7) (À<|Â ⟨j9,0,Á⟩) (À O)}:e9).O k:=I;replace T:({l₁ with w:=iT C k (À a) (É Î j7) (À<|Â ⟨j9,0,Á⟩) (À O)}:e9).w.cell? ⟨k,0,Á⟩=_:=T;replace V:({l₁ with w:=iT C k (À a) (É Î j7) (À<|Â ⟨j9,0,Á⟩) (À O)}:e9).w.cell? ⟨k,1,Á⟩=_:=V;replace L:({l₁ with w:=iT C k (À a) (É Î j7) (À<|Â ⟨j9,0,Á⟩) (À O)}:e9).w.cell? ⟨k,2,Á⟩=_:=L;generalize({l₁ with w:=iT C k (À a) (É Î j7) (À<|Â ⟨j9,0,Á⟩) (À O)}:e9)=l₂ at T V L E W|-;have X:=E.G G;have qw:¬l₂.q:=by rwa[E.q]
   apply fO (n:=9) X.r;iterate 2 w_go ft
   u_c ń ft hF
   simp only[Rz,Ņ,ŏ,ř,ŭ,ĕ,ä,List.range.loop];w_go ft;refine Ë λ_ _=> ?_;apply pG U U (by k_ne) X.r qw (Ã<|Ã W) L (λw h=>by go_simp) (λw h=>by simp[go_sem,h]);walk_nrm;apply fO (n:=9) X.r;iterate 2 w_go ft
   u_call rf.f_wait (nm_wait Lk) waitFn ft hF
   refine Ë λ_ _=> ?_;have k2:mf (λw=>fF l₂ l₂.w w) l₂ j9:=⟨Ã (by rw[E.K];exact Q.1),Ã (by rw[E.K];exact Q.2),λw D h1 h2 h3 h4 h5 h=>h.fe ⟨h1,h2,h3,h4,h5⟩⟩;have s2:SW (λw=>fF l₂ l₂.w w) l₂ j9 l₂.w:=⟨X.r,⟨E.b _ Q.1 Ir.1,E.b _ Q.2 Ir.2⟩,fF.fU _ _⟩;refine YR rf hB k2 s2 (E.d.trans P) λD Zf=> ?_;walk_nrm;refine .fy λCy F=> ?_;have B:=E.N rX<|Zf.2.2.fe ⟨F.r,F.I,F.N,F.Y,F.S⟩;have hdd:=E.d.trans P;have CI:iD (λ_=>False) l ({l₂ with d:=0,w:=Cy}:e9):=⟨B.O,B.h,B.Y,B.I,B.c,B.K,B.q,P.symm,B.fv,B.f,B.r,B.e,B.S,B.b,B.g⟩;have rr:=Zf.2.2.fe ⟨F.r,F.I,F.N,F.Y,F.S⟩;have cc:∀g,Cy.cell? ⟨k,g,Á⟩=l₂.w.cell? ⟨k,g,Á⟩:=λg=>gM<|rr.I k<|Ã W;exact ajk {l₂ with d:=0,w:=Cy} k _ CI U W ((cc 0).trans T) ((cc 1).trans V) ((cc 2).trans L) ⟨U,U,U⟩ U
  .exact .fy λ_ _ e=>absurd e hv
end
section
variable{J:Jd}{l:e9}{t:Array Ð}{N:Nat}{Q:ByteArray->Prop}
def Is(f:gu l)(C:¬l.q)(g:QT i N n t)(L:t[4]?=Â (À<|Â ⟨k,0,Á⟩))(M:l.O k) (P:l.w.cell? ⟨k,0,Á⟩=Â (À O)) (S:l.w.cell? ⟨k,1,Á⟩=Â (É Î b)) (T:l.w.cell? ⟨k,2,Á⟩=Â (À<|Â ⟨j,0,Á⟩)) (V:l.N ⟨j,2,Á⟩) (W:l.w.cell? ⟨j,2,Á⟩=Â v) (o:l.r ⟨i,b,Á⟩) (X:(l.w.cell? ⟨i,b,Á⟩).isSome=Ó) (Y:l.w.frozen? ⟨i,b,Á⟩=Í) (rO:b<N) (Rw:∀e,iD (λa=>a=⟨i,b,Á⟩) l e->∀D E,fg Ä Í (λl'' g'=>l''.d=e.d/\∃F,g'=G (D.finish<|á F) E/\Q F) (mg e)<|G (ć Ä 67 #[v,À O] Ĥ)<|D::E) (hJ:∀e x H,iD (λa=>a=⟨i,b,Á⟩) l e->Q x->e.w.cell? ⟨i,b,Á⟩=Â (á x)->QT i N n H->J e (zt H qX)): fg Ä Í J l (L5 t qX):=by
 have I:∀y:ã,y=⟨i,b,Á⟩->l.r y:=λy ha=>by rwa[ha]
 have hF:=trivial;apply fO (n:=3) f.r;simp only[L5];w_go ft;refine Ë λ_ _=> ?_;refine LQ (II vK t (rj k j i N b (À O) v)<|Fp l i b Q) f.r C (λm h=> ?_) (λp s a l c m u r=>aje f C g.r g.C L M P S T V W o X Y rO Rw p s a l c m u r) λp s a ky u z B=> ?_
 .refine⟨ByteArray.empty,lI.G _ _ _,(iD.fU f.r).N I ⟨h.r,h.I,h.N,h.Y,h.S⟩,λq=> ?_,λq=> ?_⟩<;>exact absurd q A
 let⟨x,m,h⟩:=u;have K:∀c∈ä 13,s.getD c Í=Ó:=by
  cases p
  .exact pH B z (ä 13) [] fM λc r=>by cases r
  .exact pH B z (ä 13) [] fM λc r=>by cases r
  .exact pH B z (ä 13) [] fM λc r=>by cases r
 have p:=h.r.G f;let⟨z,B⟩:=a;obtain rfl:B=[]:=m.M;apply fO (n:=9) p.r;iterate 3 w_go ft
 refine Ë λ_ _=> ?_;refine Ze p.r<|.fy λw₁ r=>(hJ {ky with w:=w₁} x z (h.r.N I r) (h.vD<|K 10 A) ((r.N _<|Ã<|by rwa[h.r.I]).trans<|h.I<|K 12 A) ⟨m.S.trans g.r,((m.C A).trans g.C),((m.C A).trans g.I)⟩)
end
structure gf(X:Nat->Prop)(l l':e9):Prop where
 O:∀j,l.O j->l'.O j
 c:∀j,l'.O j->l.O j\/l.w.heap.size<=j
 S:l'.I=l.I
 Y:l'.r=l.r
 b:l'.N=l.N
 K:l'.K=l.K
 q:l'.q=l.q
 d:l'.d=l.d
 fv:jU l'
 I:l.w.heap.size<=l'.w.heap.size
 r:∀j,l.M j->¬X j->l'.w.heap[j]?=l.w.heap[j]?
 f:∀a,l.C a->l'.w.cell? a=l.w.cell? a
 g:∀a,l.C a->l'.w.frozen? a=l.w.frozen? a
 e:∀a,l.K a->(l.w.cell? a).isSome=Ó->(l'.w.cell? a).isSome=Ó
section
variable{l l' l'':e9}
theorem gf.fU(h:jU l):gf X l l:=⟨λ_ h=>h,λ_ h=>Ã h,U,U,U,U,U,U,h,Û _,λ_ _ _=>rfl,λ_ _=>rfl,λ_ _=>rfl,λ_ _ h=>h⟩
def gf.C(h:gf X l l'):l'.C=l.C:=by unfold e9.C;rw[h.Y,h.b]
def gf.M(h:gf X l l')(a:l.M b):l'.M b:=a.imp (h.O b)<|by rw[h.S];exact id
def gf.fe(h:gf X l l')(k:gf X l' l''):gf X l l'':=by have e:=h.C;exact⟨λj c=>k.O j<|h.O j c,λj c=>(k.c j c).elim (h.c j) λq=>Ç<|Ø h.I q,k.S.trans h.S,k.Y.trans h.Y,k.b.trans h.b,k.K.trans h.K,k.q.trans h.q,k.d.trans h.d,k.fv,Ø h.I k.I,λj c f=>(k.r j (h.M c) f).trans<|h.r j c f,λa b=>(k.f a<|by rwa[e]).trans<|h.f a b,λa b=>(k.g a<|by rwa[e]).trans<|h.g a b,λa b q=>k.e a (by rwa[h.K])<|h.e a b q⟩
def gf.G(h:gf X l l'){w₁:ß}(r:fF l' l'.w w₁):gf X l {l' with w:=w₁}:= h.fe ⟨λ_ q=>q,λ_ q=>Ã q,U,U,U,U,U,U,lH h.fv r,r.r,λj a _=>r.I j a,r.N,r.Y,r.S⟩
def gf.fN{a:Nat->Prop}(h:gf X l l')(c:∀j,l.M j->X j->a j):gf a l l':=⟨h.O,h.c,h.S,h.Y,h.b,h.K,h.q,h.d,h.fv,h.I,λj b e=>h.r j b λq=>e<|c j b q,h.f,h.g,h.e⟩
def gf.N(h:gf X l l')(s:gu l):gu l' where
 c b hb:=by
  rw[h.S];rcases h.c b hb with q|q
  .exact s.c b q
  .exact λz=>by have:=s.fv b<|Ç z;omega
 Y a ha:=by rw[h.b];exact s.Y a<|by rwa[<-h.Y]
 N a ha hb:=by
  rw[h.C]at ha;rcases hb with q|q
  .rcases h.c _ q with z|z
   .exact s.N a ha<|Ã z
   .have:=s.I a ha;omega
  .rw[h.S]at q;exact s.N a ha<|Ç q
 fv b hb:=by
  rcases hb with q|q
  .exact h.fv b q
  .rw[h.S]at q;exact È (s.fv b<|Ç q) h.I
 I a ha:=by rw[h.C]at ha;exact È (s.I a ha) h.I
 S a ha:=by
  rw[h.K]at ha;let⟨c,d,e⟩:=s.S a ha;refine⟨λq=> ?_,È d h.I,by rwa[h.Y]⟩;rcases q with q|q
  .rcases h.c _ q with z|z
   .exact c<|Ã z
   .omega
  .rw[h.S]at q;exact c<|Ç q
def mY{ob:Ε}(s:gu l){w₁:ß}(r:fF l l.w w₁):gf X l (gG l w₁ ob):=by have h:=LZ (E:=λ_=>False) (ob:=ob) s (λ_ q=>q.elim) r;exact⟨h.O,h.h,h.Y,h.I,h.c,h.K,h.q,h.d,h.fv,h.f,λj b _=>h.r j b,λa c=>h.e a c id,h.S,h.b⟩
def L8{w':ß}{p:Nat}(s:gu l)(r:fF l l.w u)(c:l.O p)(g:X p)(d:w'.heap.size=u.heap.size)(b:∀j,j≠p->w'.heap[j]?=u.heap[j]?):gf X l {l with w:=w'}:=by
 have f:∀a:ã,l.C a->a.block≠p:=λa h e=>s.N a h<|Ã<|e▸c;refine⟨λ_ q=>q,λ_ q=>Ã q,U,U,U,U,U,U,λj q=> ?_,?_,λj q n=>(b j λe=>n<|e▸g).trans<|r.I j q,λa q=>(gM<|b _<|f a q).trans<|r.N a q,λa q=>(wZ<|b _<|f a q).trans<|r.Y a q,λa q z=> ?_⟩
 .show j<w'.heap.size;rw[d];exact È (s.fv j<|Ã q) r.r
 .show l.w.heap.size<=w'.heap.size;rw[d];exact r.r
 .show(w'.cell? a).isSome=Ó;rw[gM (b a.block λe=>(s.S a q).1<|Ã<|e▸c)];exact r.S a q z
end
section
variable{J:Jd}{l:e9}{a:ŝ}{k:List ź}{cs:List é}{ob:Ε}
def pJ{V:Nat->Ð}(c:Q[i]?=Â o)(d:Ğ o (Ŵ Q a.tmps)=Ó)(e:f.kind≠Ζ)(g:jU l)(h:¬l.q) (j:∀w,(Đ a.eval o).run P w=.ok (.value<|V w.heap.size) (w.alloc ob)) (m:∀w,(Đ a.eval o).events P w #[]=#[]) (n:∀b,fF l l.w b->fg P yQ J (gG l b ob) (G (f.at (a.put o.dst<|V b.heap.size)<|Ï Q jJ::k) cs)):fg P yQ J l (G (f.at a<|Ï Q (i::jJ)::k) cs):=by
 refine vz c d e λb r=> ?_;rw[j b];refine⟨_,?_,n b r⟩;have:listed P f.fn a o b=#[]:=by unfold listed;rw[m b,ı]
 rw[this];exact Y8 (lH g r) h
def It{p off:Nat}{u:Ð}(m:Q[i]?=Â o)(n:Ğ o (Ŵ Q a.tmps)=Ó)(s:f.kind≠Ζ)(t:jU l)(x:¬l.q)(b:l.O p)(d:l.w.cell? ⟨p,off,Á⟩=Â u)(y:l.w.frozen? ⟨p,off,Á⟩=Í)(z:o.dst=Á) (B:∀w,w.cell? ⟨p,off,Á⟩=Â u->w.frozen? ⟨p,off,Á⟩=Í->(Đ a.eval o).run P w=.ok .skip (w.setCell ⟨p,off,Á⟩ v)) (C:∀w,w.cell? ⟨p,off,Á⟩=Â u->w.frozen? ⟨p,off,Á⟩=Í->(Đ a.eval o).events P w #[]=#[⟨ÿ ⟨p,off,Á⟩,Ó,Í⟩]) (D:fg P yQ J {l with w:=l.w.setCell ⟨p,off,Á⟩ v} (G (f.at a<|Ï Q jJ::k) cs)):fg P yQ J l (G (f.at a<|Ï Q (i::jJ)::k) cs):=by
 have E:gX l ⟨p,off,Á⟩:=Ã<|Ã b;refine vz m n s λg r=> ?_;have c:=(E.r r).trans d;have j:=(wZ<|r.I p<|Ã b).trans y;rw[B g c j];refine⟨_,Y2 U (lH t r) x (Ã b) λe h=> ?_,?_⟩
 .have:=Ě h;rw[C g c j]at this;have:e=⟨ÿ ⟨p,off,Á⟩,Ó,Í⟩:=by simpa using this
  subst this;exact qp.r<|Ã b
 .have:(a.put o.dst Å)=a:=by rw[z];rfl
  rw[this];exact D.j4<|za<|Y1 U (by rw[d];rfl) (by rw[c];rfl) r
def mZ(l:e9)(w₁ a:ß):e9:={l with O:=λf=>l.O f\/(w₁.heap.size<=f/\f<a.heap.size),w:=a}
def L9(s:gu l){w₁:ß}(r:fF l l.w w₁){a:Option Nat}(d:w₁.grownBy u a)(c:∀k,a=Â k->l.O k/\X k):gf X l (mZ l w₁ u):=by
 have i:=r.r;have m:=d.size;have b:∀j,j<l.w.heap.size->Â j≠a->u.heap[j]?=w₁.heap[j]?:=λj o g=>d.block j Z g;have f:∀x:ã,l.C x->Â x.block≠a:=λx h e=>s.N x h<|Ã (c _ e.symm).1;refine⟨λ_ q=>Ã q,λj q=>q.imp id λz=>by omega,U,U,U,U,U,U,λj q=> ?_,?_,λj q n=>(b j (s.fv j q) λe=>n (c j e.symm).2).trans<|r.I j q,λx q=>(gM<|b _ (s.I x q)<|f x q).trans<|r.N x q,λx q=>(wZ<|b _ (s.I x q)<|f x q).trans<|r.Y x q,λx q z=> ?_⟩
 .show j<u.heap.size;rcases q with q|q
  .have:=s.fv j<|Ã q;omega
  .exact q.2
 .show l.w.heap.size<=u.heap.size;omega
 .show(u.cell? x).isSome=Ó;rw[gM (b x.block (s.S x q).2.1 λe=>(s.S x q).1<|Ã (c _ e.symm).1)];exact r.S x q z
def n9{w₁:ß}{sz:Nat}{xs:List Ð}(h:w.ownsRow i e sz v n xs)(a:∀k,v.ownBlock=Â k->w₁.heap[k]?=w.heap[k]?):w₁.ownsRow i e sz v n xs:=by refine⟨h.1,h.2.imp id ?_⟩;rintro⟨g,b,c,rfl,d,f,j⟩;exact⟨g,b,c,U,d,(a g U).trans f,j⟩
def RG{p:Nat}{u:Ð}(h:w.cell? ⟨p,0,Á⟩=Â u):∀j y,[u][j]?=Â y->w.cell? ⟨p,j,Á⟩=Â y
 |0,_,e=>Ô e▸h
 |_+1,_,e=>by cases e
def ajl{s a:List Ð}(h:P.underlying t=Â (.slice e))(k:P.info? e=Â zJ)(B:zJ.zero=Â z)(l:zJ.size=m)(C:a.length=m)(F:(n+1)*zJ.bytes<=140737488355328)(G:n+1<=Ť) (o:w.ownsRow 0 e m v n s) (p:∀j y,a[j]?=Â y->w.cell? ((⟨b,0,Á⟩:ã).add j)=Â y) (H:∀u∈a,u.oneCell'=Ó) (d:(Builtin.append_ #[t,t] T #[v,Æ (Â ⟨b,0,Á⟩) 1 i]).run P w=.ok x W):x.ownBlock=v.ownBlock\/x.ownBlock=Â w.heap.size:=by
 have q:a.length=1*zJ.size:=by rw[l,C];omega
 have L:n+1<=9223372036854775807:=by simp only[Ť]at G;omega
 rcases o.2 with⟨rfl,rfl⟩|⟨g,r,D,rfl,_,I,M,N,J,O⟩
 .have f:=run_append_nil (P:=P) w t T e zJ z h k B ⟨b,0,Á⟩ 1 i a q p Z Z Z;rw[f]at d;cases d;exact Ç U
 .by_cases E:n+1<=r
  .have K:n*zJ.size+a.length<=D.size:=by
    rw[J,l,C,show n*m+m=(n+1)*m by rw[Nat.add_mul];omega];exact Nat.mul_le_mul_right _ E
   have f:=run_append_room (P:=P) w t T e zJ h k g n r D I ⟨b,0,Á⟩ 1 i a q p H E K;rw[f]at d;cases d;exact Ã U
  .have f:=run_append_grow (P:=P) w t T e zJ z h k B ⟨g,0,Á⟩ n r s (by rw[l];exact o.1) (o.cells (g:=g) U) ⟨b,0,Á⟩ 1 i a q p Z Z<|growslice_fits Z F;rw[f]at d;cases d;exact Ç U
theorem Iu{x:ĭ}{inf:Κ}{c px sz:Nat}{xs us:List Ð}(ho:Q[i]?=Â o)(hw:Ğ o (Ŵ Q a.tmps)=Ó)(hk:f.kind≠Ζ)(sn:gu l)(hq:¬l.q) (V:o.op=č {callee:=ť .append,args:=#[qQ,x],argTypes:=#[t,t]}) (W:a.eval qQ=v) (X:a.eval x=Æ (Â ⟨px,0,Á⟩) 1 c) (E:P.underlying t=Â (.slice e)) (F:P.info? e=Â inf) (H:inf.zero=Â z) (I:inf.size=sz) (ji:0<sz) (Ma:us.length=sz) (sd:z.cells.size=sz) (K:(n+1)*inf.bytes<=140737488355328) (L:n+1<=Ť) (lJ:l.w.ownsRow 0 e sz v n xs) (C:∀k,v.ownBlock=Â k->l.O k) (Zg:l.O px) (hu:∀j u,us[j]?=Â u->l.w.cell? ⟨px,j,Á⟩=Â u) (d:∀u∈us,u.oneCell'=Ó) (hn:∀b B g,fF l l.w b->g.ownsRow 0 e sz B (n+1) (xs++us)->b.grownBy g v.ownBlock->(∀k,B.ownBlock=Â k->(mZ l b g).O k)->(B.ownBlock=v.ownBlock\/B.ownBlock=Â b.heap.size)->fg P yQ J (mZ l b g) (G (f.at (a.put o.dst B)<|Ï Q jJ::k) cs)): fg P yQ J l (G (f.at a<|Ï Q (i::jJ)::k) cs):=by
 refine vz ho hw hk λb r=> ?_;have hM:∀k,l.O k->b.heap[k]?=l.w.heap[k]?:=λk q=>r.I k<|Ã q;have M:=n9 lJ (w₁:=b) λk q=>hM k<|C k q;have N:∀j w,us[j]?=Â w->b.cell? ((⟨px,0,Á⟩:ã).add j)=Â w:=λj w h=>by rw[ħ,ĕ];grind [gM]
 have Y:us.length=1*sz:=Z
 let⟨B,g,iH,hown',p,zp⟩:=run_append_own (P:=P) b 0 t o.type e inf z sz inf.bytes E F H I U sd ji v n xs M ⟨px,0,Á⟩ 1 c us Y N d L K<|Ĉ _;have uH:=ajl E F H I Ma K L M N d iH;refine uponK_append qQ x t V W X iH ⟨mZ l b g,?_,hn b B g r hown' p (λk q=> ?_) uH⟩
 .have he:∀D∈listed P f.fn a o b,vA (mZ l b g) D:=λD S=>by
   have h2:=Ě S;rw[events_append_op qQ x t V W X]at h2;rcases(events_append_where (P:=P) b 0 t o.type e inf z sz inf.bytes E F H I rfl v n xs M ⟨px,0,Á⟩ 1 c us Y N d L K) D h2 with⟨ad,T,y⟩|⟨m,rfl,ajm⟩
   .refine⟨Ã ⟨ad,T,Ã ?_⟩,by rw[T];simp,by rw[T];simp⟩;rcases y with⟨_,y⟩|y
    .exact Ã<|by rwa[y]
    .exact Ã<|C _ y.symm
   .have uo:m=.noRoom:=ajm;subst uo;exact⟨Ç<|Ã U,fi,fi⟩
  refine⟨p.size,λj q=>q.imp id λz=>z.1,λj q=> ?_,U,U,U,U,λj T d _=>p.block j T λe=>d<|C j e.symm,λy m d _=>gM (p.block _ m λe=>d<|C _ e.symm),λy m d=>wY (p.block _ m λe=>d<|C _ e.symm),p.os,p.output,p.tape,λD S=>(he D S).1,(LO he _).symm,U,λq=>absurd q hq,U⟩;rcases q with q|q
  .exact È ((lH sn.r r) j q) p.size
  .exact q.2
 .have y:k<g.heap.size:=(hown'.lt k q).2;rcases uH with m|m
  .exact Ã<|C k<|by rwa[<-m]
  .rw[m]at q;obtain rfl:=Ô q;exact Ç ⟨Û _,y⟩
end
def Zh:Array å:=#[⟨Â 25,ů (ý 48) #[] #[Ò 9,Ò 8],1, "work.go:24",#[],Á⟩,⟨Â 26,č {callee:=û<|Ċ 47,args:=#[Ò 12,Ò 25],argTypes:=#[97,1]},0, "work.go:24",#[⟨0,Õ⟩],Á⟩]
def Zi:Array å:=#[⟨Â 13,Ĳ<|ò<|Æ Á 0 0,100, "work.go:25",#[],Á⟩]
def Zj:Array å:=#[⟨Â 27,ü<|Ò 2,3, "work.go:26",#[],Á⟩,⟨Â 28,ü<|ò<|É Î 0,3, "work.go:26",#[],Á⟩]
def RH:Array å:=#[⟨Â 29,Ń .lss 3 (Ò 28) (Ò 27) 3,4, "work.go:26",#[],Á⟩]
def Zk:Array å:=#[⟨Â 30,ü<|Ò 10,85, "work.go:28",#[],Á⟩,⟨Â 31,č {callee:=ť .len,args:=#[Ò 30],argTypes:=#[85]},3, "work.go:28",#[⟨0,Õ⟩],Á⟩,⟨Â 32,.makeChan 101<|Ò 31,101, "work.go:28",#[⟨1,Õ⟩],Á⟩,⟨Â 14,.alloc 101,0, "work.go:28",#[],Á⟩,⟨Á,Ų 101 (Ò 14)<|Ò 32,0, "work.go:28",#[⟨3,Õ⟩,⟨2,Õ⟩,⟨0,Ì⟩,⟨1,Ì⟩,⟨2,Ì⟩,⟨3,Ì⟩],Á⟩]
def Zl:Array å:=#[⟨Â 33,ü<|Ò 13,100, "work.go:29",#[],Á⟩,⟨Â 34,Č 101<|Ò 14,101, "work.go:29",#[],Á⟩,⟨Â 35,.buildSlice 100 1 #[(0,Ò 34)],100, "work.go:29",#[⟨1,Õ⟩],Á⟩,⟨Â 36,č {callee:=ť .append,args:=#[Ò 33,Ò 35],argTypes:=#[100,100]},100, "work.go:29",#[⟨0,Õ⟩,⟨2,Õ⟩],Á⟩,⟨Â 13,Ĳ<|Ò 36,100, "work.go:29",#[⟨3,Õ⟩,⟨3,ų⟩,⟨0,Ì⟩,⟨1,Ì⟩,⟨2,Ì⟩,⟨3,Ì⟩],Á⟩]
def Mb:Array å:=#[⟨Â 37,ů (ý 50) #[] #[Ò 14,Ò 8],1, "work.go:30",#[],Á⟩,⟨Â 38,č {callee:=û<|Ċ 47,args:=#[Ò 12,Ò 37],argTypes:=#[97,1]},0, "work.go:30",#[⟨0,Õ⟩],Á⟩]
def RJ:Array å:=#[⟨Â 39,Ń .add 3 (Ò 28) (ò<|É Î 1) 3,3, "work.go:26",#[],Á⟩,⟨Â 28,ü<|Ò 39,3, "work.go:26",#[⟨0,Õ⟩],Á⟩]
def Mc:Array å:=#[⟨Â 40,ü<|Ò 10,85, "work.go:32",#[],Á⟩,⟨Â 41,ü<|Ò 13,100, "work.go:32",#[],Á⟩,⟨Â 42,č {callee:=û<|Ċ 52,args:=#[Ò 40,Ò 41],argTypes:=#[85,100]},0, "work.go:32",#[⟨0,Õ⟩,⟨1,Õ⟩],Á⟩]
def Md:Array å:=#[⟨Â 43,č {callee:=û<|Ċ 53,args:=#[Ò 12],argTypes:=#[97]},0, "work.go:33",#[],Á⟩]
def Iv:å:=⟨Â 44,Č 25<|Ò 8,25, "work.go:34",#[],Á⟩
def Iw:å:=⟨Â 45,ü<|Ò 11,86, "work.go:34",#[{on:=5,ground:=ø Ñ}],Á⟩
def Ix:å:=⟨Â 46,Ĕ<|Ò 45,0, "work.go:34",#[⟨1,Õ⟩,{on:=5,ground:=ø Ñ}],Á⟩
def Iy:å:=⟨Â 47,ê 105 (Ò 46) 1,0, "work.go:34",#[⟨2,Õ⟩,{on:=5,ground:=ø Ñ}],Á⟩
def Iz:å:=⟨Â 48,Č 65<|Ò 47,65, "work.go:34",#[⟨3,Õ⟩,{on:=5,ground:=ø Ñ}],Á⟩
def IA:å:=⟨Â 6,Ĳ<|Ò 44,25, "work.go:34",#[⟨0,Õ⟩,⟨0,Ì⟩,{on:=1,ground:=Þ Ñ},{on:=2,ground:=Þ Ñ},{on:=3,ground:=Þ Ñ},{on:=4,ground:=Þ Ñ}],Á⟩
def IB:å:=⟨Â 7,Ĳ<|Ò 48,65, "work.go:34",#[⟨4,Õ⟩,⟨5,ų⟩,⟨0,Ì⟩,⟨1,Ì⟩,⟨2,Ì⟩,⟨3,Ì⟩,⟨4,Ì⟩,⟨5,Ì⟩],Á⟩
def xr:Array å:=#[Iv,Iw,Ix,Iy,Iz,IA,IB]
def Me:Ġ:=(à 14 xr Ó).seq ο
def Mf:Ġ:=(à 12 Mc Í).seq<|(à 13 Md Í).seq Me
def Ft:Ġ:=(à 7 RH Í).seq<|(Ŕ (Ò 29) ŕ<|Ŗ 0).seq<|(ĥ 1<|(à 8 Zk Í).seq<|(à 9 Zl Í).seq<|à 10 Mb Í).seq<|à 11 RJ Í
def sA:Ġ:=(à 5 Zi Í).seq<|((à 6 Zj Í).seq<|ĥ 0 Ft.loop).seq Mf
def vL(t:Array Ð)(a:List é):Ý:=G ((base 37).at ⟨t,[]⟩ [ö Ft,Ā Ft,ï 0,ö Mf]) a
def Fu(t:Array Ð):é:=(base 37).at ⟨t,[]⟩ [Ï Zh [1],ö sA]
def Mg(t:Array Ð):é:=(base 37).at ⟨t,[]⟩ [Ï Mb [1],ï 1,ö<|à 11 RJ Í,Ā Ft,ï 0,ö Mf]
def IC:Array å:=#[⟨Â 6,ů (ý 63) #[] #[Ò 2,Ò 3],1, "waitgroup.go:238",#[],Á⟩,
 ⟨Á,.go {callee:=û (Ò 6),args:=#[],argTypes:=#[]},0, "waitgroup.go:238",#[⟨0,Õ⟩],Á⟩]
def tG(c d e f:Ð)(a b:Nat):Array Ð:=#[c,d,À<|Â ⟨a,0,Á⟩,À<|Â ⟨b,0,Á⟩,e,f,Ď (ý 63) #[] #[À<|Â ⟨a,0,Á⟩,À<|Â ⟨b,0,Á⟩]]
def CJ(a b c d:Ð)(e f:Nat)(g:List é):Ý:=G ((base 47).at ⟨tG a b c d e f,[]⟩ [Ï IC [1]]) g
def IF(a b c d:Ð)(e f:Nat)(g:List é):Ý:=G ((base 47).at ⟨tG a b c d e f,[]⟩ [Ï IC []]) g
def Zm(c e f g:Ð)(a b:Nat)(h:List é)(w:ß):stepG Ä Ó (CJ c e f g a b h) w=.spawn (IF c e f g a b h) (born Ä<|pF 63 #[À<|Â ⟨a,0,Á⟩,À<|Â ⟨b,0,Á⟩] #[]) w #[]:=by
 refine(stepG_spawn (d:=pF 63 #[À<|Â ⟨a,0,Á⟩,À<|Â ⟨b,0,Á⟩] #[]) (w':=w) U U (by k_ne) ?_ U).trans ?_
 .simp[IC,Đ,Μ,ġ,Ę,tG,pF]
 .have:listed Ä (base 47).fn ⟨tG c e f g a b,[]⟩ IC[1] w=#[]:=by
   unfold listed;simp[IC,Đ,Μ,ġ,Ę,tG,ı]
  rw[this];rfl
structure ST(ba all oa n j:Nat)(qs dv:Ð)(t:Array Ð):Prop where
 r:t.size=49
 a:t[8]?=Â (À<|Â ⟨ba,0,Á⟩)
 C:t[10]?=Â qs
 I:t[11]?=Â (À<|Â ⟨oa,0,Á⟩)
 M:t[12]?=Â (À<|Â ⟨all,0,Á⟩)
 N:t[13]?=Â dv
 S:t[27]?=Â (É Î n)
 Y:t[28]?=Â (É Î j)
structure IG(ba all oa n:Nat)(qs:Ð)(t:Array Ð):Prop where
 EF:t.size=49
 t2:t[2]?=Â (É Î n)
 t8:t[8]?=Â (À<|Â ⟨ba,0,Á⟩)
 ajn:t[10]?=Â qs
 ajo:t[11]?=Â (À<|Â ⟨oa,0,Á⟩)
 RL:t[12]?=Â (À<|Â ⟨all,0,Á⟩)
def IH(t:Array Ð)(h:t.size=49):∃a b c d e f g i j k l m n o p q r s u v w x y z B C D E F G H I J K L M N O P Q S T V W X Y n5 n7 rU:Ð,t=#[a,b,c,d,e,f,g,i,j,k,l,m,n,o,p,q,r,s,u,v,w,x,y,z,B,C,D,E,F,G,H,I,J,K,L,M,N,O,P,Q,S,T,V,W,X,Y,n5,n7,rU]:=by obtain⟨_,rfl⟩:=xm t h;exact⟨_,_,_,_,_,_,_,_,_,_,_,_,_,_,_,_,_,_,_,_,_,_,_,_,_,_,_,_,_,_,_,_,_,_,_,_,_,_,_,_,_,_,_,_,_,_,_,_,_,U⟩
section
variable{Ψ:ß->Prop}{J a:Jd}{l:e9}{t:Array Ð}{ba all oa:Nat}{qs dv:Ð}
def ajp(d:jU l)(a:IG ba all oa n qs t)(e:∀c,ST ba all oa n 0 qs (Æ Á 0 0) c->fg Ä Ó J l (vL c qX)):fg Ä Ó J l (IF v x z jQ b i<|Fu t::qX):=by
 obtain⟨m,o,f,p,q,r,s,u,g,w,h,j,k,y,B,C,D,E,F,G,H,I,K,L,M,N,O,P,Q,S,T,V,W,X,Y,oW,oX,qf,qg,qh,qi,qj,qk,qm,qn,qo,n5,n7,rU,rfl⟩:=IH t a.EF;obtain rfl:f=É Î n:=by simpa using a.t2
 obtain rfl:g=À (Â ⟨ba,0,Á⟩):=by simpa using a.t8
 obtain rfl:h=qs:=by simpa using a.ajn
 obtain rfl:j=À (Â ⟨oa,0,Á⟩):=by simpa using a.ajo
 obtain rfl:k=À (Â ⟨all,0,Á⟩):=by simpa using a.RL
 apply fO (n:=40) d;have hF:=trivial;simp only[IF,Fu,Zh];iterate 2 w_go ft
 u_leave0 Į ft hF
 simp only[sA,Zi,Zj];iterate 13 w_go ft
 refine Ë λ_ _=> ?_;exact e _ ⟨U,U,U,U,U,U,U,U⟩
theorem ajq(d:jU l)(a:ST ba all oa n j qs dv t)(q:j<1000)(e:∀c,ST ba all oa n (j+1) qs dv c->fg Ä Ó J l (vL c qX)):fg Ä Ó J l (IF v x z jQ b i<|Mg t::qX):=by
 obtain⟨r,s,u,w,y,B,C,D,f,E,g,h,k,m,F,G,H,I,K,L,M,N,O,P,Q,S,T,o,p,V,W,X,Y,pD,pE,oW,oX,qf,qg,qh,qi,qj,qk,qm,qn,qo,n5,n7,rU,rfl⟩:=IH t a.r;obtain rfl:f=À (Â ⟨ba,0,Á⟩):=by simpa using a.a
 obtain rfl:g=qs:=by simpa using a.C
 obtain rfl:h=À (Â ⟨oa,0,Á⟩):=by simpa using a.I
 obtain rfl:k=À (Â ⟨all,0,Á⟩):=by simpa using a.M
 obtain rfl:m=dv:=by simpa using a.N
 obtain rfl:o=É Î n:=by simpa using a.S
 obtain rfl:p=É Î j:=by simpa using a.Y
 apply fO (n:=40) d;have hF:=trivial;simp only[IF,Mg,Mb];iterate 2 w_go ft
 u_leave0 Į ft hF
 simp only[RJ];iterate 7 w_go ft
 refine Ë λ_ _=> ?_;refine e _ ⟨U,U,U,U,U,U,U,?_⟩;simp;grind [CB]
end
section
variable{l l' y:e9}
def gf.fP(h:gf X l l')(s:gu l){p off:Nat}(c:l.w.heap.size<=p):gf X l {l' with w:=l'.w.setCell ⟨p,off,Á⟩ v}:=by
 have b:∀j,j<l.w.heap.size->(l'.w.setCell ⟨p,off,Á⟩ v).heap[j]?=l'.w.heap[j]?:=λj e=>lu (by show j≠p;omega);refine⟨h.O,h.c,h.S,h.Y,h.b,h.K,h.q,h.d,λj q=> ?_,?_,λj q n=>(b j<|s.fv j q).trans<|h.r j q n,λa q=>(gM<|b _<|s.I a q).trans<|h.f a q,λa q=>sX.trans<|h.g a q,λa q z=>yJ<|h.e a q z⟩
 .show j<(l'.w.setCell ⟨p,off,Á⟩ v).heap.size;rw[j1];exact h.fv j q
 .show l.w.heap.size<=(l'.w.setCell ⟨p,off,Á⟩ v).heap.size;rw[j1];exact h.I
structure hD(l:e9)(b:Nat)(o:Ε):Prop where
 fj:l.O b
 I:l.w.heap[b]?=Â o
def hD.r{o:Ε}(h:hD l b o)(k:gf X l l')(a:¬X b):hD l' b o:=⟨k.O b h.fj,(k.r b (Ã h.fj) a).trans h.I⟩
def hD.C(h:hD l b (Ê d e xJ))(a:d[i]?=Â v):l.w.cell? ⟨b,i,Á⟩=Â v:=by simp[Ù,h.I,a]
end
def Zn{sz:Nat}{xs:List Ð}(h:w.ownsRow i e sz v n xs)(a:w.heap.size<=b):¬(Â b=v.ownBlock):=λq=>by have:=(h.lt b q.symm).2;omega
structure Zo(ba all q:Nat)(CK:Ð)(xs:List Ð)(ch bd bw bf:Nat)(l':e9):Prop where
 S:l'.w.ownsRow 0 101 1 CK xs.length xs
 M:∀k,CK.ownBlock=Â k->l'.O k
 r:hD l' ch (Ŧ q #[] Í 0 0 Í)
 C:hD l' bd (Ê #[è<|Â ch] 101)
 N:hD l' bw (Ê #[À<|Â ⟨all,0,Á⟩] 162)
 I:hD l' bf (Ê #[Ď (ý 50) #[] #[À<|Â ⟨bd,0,Á⟩,À<|Â ⟨ba,0,Á⟩]] 1)
section
variable{g:Jd}{l:e9}{t:Array Ð}{ba all q:Nat}{f:Option ã}{xs:List Ð}
def ajr(y:gu l)(F:¬l.q)(hd:l.d=0)(G:ST ba all m n j (Æ f q i) x t)(vw:j<n)(hn:n<1000)(CL:q<1000)(Mh:l.K ⟨all,0,Á⟩/\l.K ⟨all,1,Á⟩)(Ir:mV all l.w) (lJ:l.w.ownsRow 0 101 1 x j xs) (hO:∀k,x.ownBlock=Â k->l.O k) (hJ0:∀l' t' a r B S C v1,gf (λb=>Â b=x.ownBlock) l l'->ST ba all m n j (Æ f q i) C t'->Zo ba all q C (xs++[è<|Â a]) a r B S l'->l.w.heap.size<=a->a<r->r<B->B<S->(∀k,C.ownBlock=Â k->k≠a/\k≠r/\k≠B/\k≠S)->g l' (CJ (À<|Â ⟨all,0,Á⟩) v1 (À<|Â ⟨all,0,Á⟩) (ñ #[]) B S<|Mg t'::qX)): fg Ä Ó (LN Ä Ó all g) l (vL t qX):=by
 obtain⟨y0,y1,y2,y3,y4,y5,y6,y7,y8,y9,xn,zo,xo,rW,s9,rh,vE,vF,uA,uB,uC,td,tf,tg,uD,vG,xp,tj,ri,uE,qt,qu,qe,pD,pE,oW,oX,qf,qg,qh,qi,qj,qk,qm,qn,qo,n5,n7,rU,rfl⟩:=IH t G.r;obtain rfl:y8=À (Â ⟨ba,0,Á⟩):=by simpa using G.a
 obtain rfl:xn=Æ f q i:=by simpa using G.C
 obtain rfl:zo=À (Â ⟨m,0,Á⟩):=by simpa using G.I
 obtain rfl:xo=À (Â ⟨all,0,Á⟩):=by simpa using G.M
 obtain rfl:x=rW:=(show rW=x by simpa using G.N).symm;obtain rfl:tj=É Î n:=by simpa using G.S
 obtain rfl:ri=É Î j:=by simpa using G.Y
 have auN:(j:Int)<(n:Int):=Z
 have hF:True:=trivial;apply fO (n:=40) y.r;simp only[vL,Ft,RH,Zk];repeat w_go ft
 refine Ë λ_ _=> ?_;have Fv:Ä.info? 155=Â ĉ:=ņ;refine pJ (V:=λp=>è<|Â p) (ob:=Ŧ q #[] Í 0 0 Í) U U (by k_ne) y.r F (λw=> ?_) (λw=> ?_) λL kg=> ?_
 .have D:=run_makeChan (P:=Ä) (w:=w) ľ Fv Î q Z (by simp[ĉ];omega);go_simp
 .simp[go_sem,(events_makeChan (P:=Ä) (w:=w) ľ Fv Î q Z (by simp[ĉ];omega) #[])]
 walk_nrm;have uF:gf (λ_=>False) l (gG l L<|Ŧ q #[] Í 0 0 Í):=mY y kg;have c1:hD (gG l L<|Ŧ q #[] Í 0 0 Í) L.heap.size (Ŧ q #[] Í 0 0 Í):=⟨Ç U,mX⟩;have Zp:l.w.heap.size<=L.heap.size:=kg.r;generalize gG l L (Ŧ q #[] Í 0 0 Í)=l₁ at uF c1|-;generalize L.heap.size=a at c1 Zp|-;have xt:=uF.N y;have Zq:¬l₁.q:=by rwa[uF.q]
 refine pJ (V:=λp=>À<|Â ⟨p,0,Á⟩) (ob:=Ê #[è Á] 101) U U (by k_ne) xt.r Zq (λw=>by go_simp) (λw=>by simp[go_sem]) λT ox=> ?_;walk_nrm;have IJ:gf (λ_=>False) l (gG l₁ T<|Ê #[è Á] 101):=uF.fe<|mY xt ox;have c2:=c1.r (mY (X:=λ_=>False) (ob:=Ê #[è Á] 101) xt ox) id;have H:hD (gG l₁ T<|Ê #[è Á] 101) T.heap.size (Ê #[è Á] 101):=⟨Ç U,mX⟩;have KN:a<T.heap.size:=È (xt.fv a<|Ã c1.fj) ox.r;generalize gG l₁ T (Ê #[è Á] 101)=l₂ at IJ c2 H|-;generalize T.heap.size=r at H KN|-;clear c1 uF Zq xt ox l₁;have rY:=IJ.N y;have qw:¬l₂.q:=by rwa[IJ.q]
 refine It (p:=r) (off:=0) (v:=è<|Â a) (u:=è Á) U U (by k_ne) rY.r qw H.fj (H.C U) (by simp[ð,H.I]) U (λw o s=>by go_simp) (λw o s=>by simp[go_sem,o,s]) ?_;have M:gf (λ_=>False) l {l₂ with w:=l₂.w.setCell ⟨r,0,Á⟩ (è<|Â a)}:=IJ.fP y Z;have c3:hD {l₂ with w:=l₂.w.setCell ⟨r,0,Á⟩ (è<|Â a)} a (Ŧ q #[] Í 0 0 Í):=⟨c2.fj,(lu<|by show a≠r;omega).trans c2.I⟩;have W:hD {l₂ with w:=l₂.w.setCell ⟨r,0,Á⟩ (è<|Â a)} r (Ê #[è<|Â a] 101):=⟨H.fj,by show(l₂.w.setCell ⟨r,0,Á⟩<|è<|Â a).heap[r]?=_;unfold ă;simp[î,H.I]⟩;generalize({l₂ with w:=l₂.w.setCell ⟨r,0,Á⟩ (è<|Â a)}:e9)=ky at M c3 W|-;clear c2 H IJ rY qw l₂;have N:=M.N y;have xq:¬ky.q:=by rwa[M.q]
 have Fw:∀k,x.ownBlock=Â k->ky.O k:=λk e=>M.O k<|hO k e;have Mi:ky.w.ownsRow 0 101 1 x j xs:=n9 lJ λk e=>M.r k (Ã<|hO k e) id;apply fO (n:=10) N.r;simp only[Zl,Mb];iterate 4 w_go ft
 refine Ë λ_ _=> ?_;apply pG (x:=⟨r,0,Á⟩) U U (by k_ne) N.r xq (Ã<|Ã W.fj) (W.C U) (λw h=>by go_simp) (λw h=>by simp[go_sem,h]);walk_nrm;refine pJ (V:=λp=>Æ (Â ⟨p,0,Á⟩) 1 1) (ob:=Ê #[è<|Â a] 101) U U (by k_ne) N.r xq (λw=>by go_simp) (λw=>by simp[go_sem]) λI CM=> ?_;walk_nrm;have CI:gf (λ_=>False) l (gG ky I<|Ê #[è<|Â a] 101):=M.fe<|mY N CM;have k4:=mY (X:=λ_=>False) (ob:=Ê #[è<|Â a] 101) N CM;have c4:=c3.r k4 id;have d4:=W.r k4 id;have Y:hD (gG ky I<|Ê #[è<|Â a] 101) I.heap.size (Ê #[è<|Â a] 101):=⟨Ç U,mX⟩;have Zg:r<I.heap.size:=È (N.fv r<|Ã W.fj) CM.r;have xu:∀k,x.ownBlock=Â k->(gG ky I<|Ê #[è<|Â a] 101).O k:=λk e=>Ã<|Fw k e;have CN:=n9 Mi (w₁:=(gG ky I<|Ê #[è<|Â a] 101).w) λk e=>k4.r k (Ã<|Fw k e) id;generalize gG ky I (Ê #[è<|Â a] 101)=l₄ at CI c4 d4 Y xu CN|-;generalize I.heap.size=px at Y Zg|-;clear c3 W M N xq Fw Mi k4 CM ky;have zu:=CI.N y;have CO:¬l₄.q:=by rwa[CI.q]
 refine Iu (v:=x) (us:=[è<|Â a]) (px:=px) (c:=1) (n:=j) (xs:=xs) (inf:=Τ) (z:=è Á) U U (by k_ne) zu CO U U U Tryz.underlying100 Tryz.type101 U U Nat.one_pos U U (by simp[Τ];omega) (by simp only[Ť];omega) CN xu Y.fj (RG<|Y.C U) (λ_ D=>List.mem_singleton.1 D▸rfl) λse C Q CP sV IK CQ uH=> ?_;walk_nrm;have Zr:∀b,l.w.heap.size<=b->¬(Â b=x.ownBlock):=λb hb=>Zn lJ hb;have k5:gf (λb=>Â b=x.ownBlock) l₄ (mZ l₄ se Q):=L9 zu CP IK λk e=>⟨xu k e,e.symm⟩;have vM:gf (λb=>Â b=x.ownBlock) l (mZ l₄ se Q):=(CI.fN λ_ _ q=>q.elim).fe k5;have c5:=c4.r k5<|Zr a Z;have d5:=d4.r k5<|Zr r Z;have hl4:px<se.heap.size:=È (zu.fv px<|Ã Y.fj) CP.r;have Mj:∀k,C.ownBlock=Â k->k<Q.heap.size/\k≠a/\k≠r:=λk e=>by
  have D:=(sV.lt k e).2;rcases uH with z|z
  .rw[z]at e;have:=(lJ.lt k e).2;exact⟨D,Z,Z⟩
  .rw[z]at e;obtain rfl:=Ô e;exact⟨D,Z,Z⟩
 have xv:(mZ l₄ se Q).w.ownsRow 0 101 1 C (j+1) (xs++[è<|Â a]):=sV;have RN:(mZ l₄ se Q).w.heap.size=Q.heap.size:=U;generalize mZ l₄ se Q=tu at vM c5 d5 xv CQ RN|-;rw[<-RN]at Mj;clear k5 IK sV uH c4 d4 Y CI zu CO xu CN CP l₄ RN;have sf:=vM.N y;have Zs:¬tu.q:=by rwa[vM.q]
 apply fO (n:=20) sf.r;iterate 4 w_go ft
 u_call Į fM ι ft hF
 iterate 2 w_go ft
 refine Ë λ_ _=> ?_;refine pJ (V:=λp=>À<|Â ⟨p,0,Á⟩) (ob:=Ê #[À<|Â ⟨all,0,Á⟩] 162) U U (by k_ne) sf.r Zs (λw=>by go_simp) (λw=>by simp[go_sem]) λD Mk=> ?_;walk_nrm;have k6:=mY (X:=λ_=>False) (ob:=Ê #[À<|Â ⟨all,0,Á⟩] 162) sf Mk;have CR:gf (λb=>Â b=x.ownBlock) l (gG tu D<|Ê #[À<|Â ⟨all,0,Á⟩] 162):=vM.fe (k6.fN λ_ _ q=>q.elim);have c6:=c5.r k6 id;have d6:=d5.r k6 id;have g6:hD (gG tu D<|Ê #[À<|Â ⟨all,0,Á⟩] 162) D.heap.size (Ê #[À<|Â ⟨all,0,Á⟩] 162):=⟨Ç U,mX⟩;have CS:r<D.heap.size:=È (sf.fv r<|Ã d5.fj) Mk.r;have IL:∀k,C.ownBlock=Â k->k<D.heap.size/\k≠a/\k≠r:=λk e=>⟨È (Mj k e).1 Mk.r,(Mj k e).2⟩;have Ml:∀k,C.ownBlock=Â k->(gG tu D<|Ê #[À<|Â ⟨all,0,Á⟩] 162).O k:=λk e=>Ã<|CQ k e;have RO:=n9 xv (w₁:=(gG tu D<|Ê #[À<|Â ⟨all,0,Á⟩] 162).w) λk e=>k6.r k (Ã<|CQ k e) id;generalize gG tu D (Ê #[À<|Â ⟨all,0,Á⟩] 162)=CU at CR c6 d6 g6 Ml RO|-;generalize D.heap.size=B at g6 CS IL|-;clear k6 c5 d5 vM sf Zs CQ xv Mj Mk tu;have Mm:=CR.N y;have Zt:¬CU.q:=by rwa[CR.q]
 refine pJ (V:=λp=>À<|Â ⟨p,0,Á⟩) (ob:=Ê #[Ď (ý 50) #[] #[À<|Â ⟨r,0,Á⟩,À<|Â ⟨ba,0,Á⟩]] 1) U U (by k_ne) Mm.r Zt (λw=>by go_simp) (λw=>by simp[go_sem]) λJ RP=> ?_;walk_nrm;have k7:=mY (X:=λ_=>False) (ob:=Ê #[Ď (ý 50) #[] #[À<|Â ⟨r,0,Á⟩,À<|Â ⟨ba,0,Á⟩]] 1) Mm RP;have E:gf (λb=>Â b=x.ownBlock) l (gG CU J<|Ê #[Ď (ý 50) #[] #[À<|Â ⟨r,0,Á⟩,À<|Â ⟨ba,0,Á⟩]] 1):=CR.fe (k7.fN λ_ _ q=>q.elim);have c7:=c6.r k7 id;have d7:=d6.r k7 id;have g7:=g6.r k7 id;have f7:hD (gG CU J<|Ê #[Ď (ý 50) #[] #[À<|Â ⟨r,0,Á⟩,À<|Â ⟨ba,0,Á⟩]] 1) J.heap.size (Ê #[Ď (ý 50) #[] #[À<|Â ⟨r,0,Á⟩,À<|Â ⟨ba,0,Á⟩]] 1):=⟨Ç U,mX⟩;have Mn:B<J.heap.size:=È (Mm.fv B<|Ã g6.fj) RP.r;have RR:∀k,C.ownBlock=Â k->(gG CU J<|Ê #[Ď (ý 50) #[] #[À<|Â ⟨r,0,Á⟩,À<|Â ⟨ba,0,Á⟩]] 1).O k:=λk e=>Ã<|Ml k e;have Zu:=n9 RO (w₁:=(gG CU J<|Ê #[Ď (ý 50) #[] #[À<|Â ⟨r,0,Á⟩,À<|Â ⟨ba,0,Á⟩]] 1).w) λk e=>k7.r k (Ã<|Ml k e) id;generalize gG CU J (Ê #[Ď (ý 50) #[] #[À<|Â ⟨r,0,Á⟩,À<|Â ⟨ba,0,Á⟩]] 1)=CV at E c7 d7 g7 f7 RR Zu|-;generalize J.heap.size=S at f7 Mn|-;clear k7 c6 d6 g6 CR Mm Zt Ml RO RP CU;have Mp:=E.N y;apply fO (n:=10) Mp.r;iterate 3 w_go ft
 refine Ë λ_ _=> ?_;apply pG (x:=⟨B,0,Á⟩) U U (by k_ne) Mp.r (by rwa[E.q]) (Ã<|Ã g7.fj) (g7.C U) (λw h=>by go_simp) (λw h=>by simp[go_sem,h]);walk_nrm;apply fO (n:=10) Mp.r;u_call rf.f_add (Η Lk) addFn ft hF;refine Ë λ_ _=> ?_;refine YS rf (⟨Ã (by rw[E.K];exact Mh.1),Ã (by rw[E.K];exact Mh.2),λw L o s h3 h4 h5 h=>h.fe ⟨o,s,h3,h4,h5⟩⟩) (⟨Mp.r,⟨E.e _ Mh.1 Ir.1,E.e _ Mh.2 Ir.2⟩,fF.fU _ _⟩) (E.d.trans hd) λRU Zv=> ?_;walk_nrm;apply fO (l:={CV with d:=0,w:=RU}) (n:=10) Zv.1;iterate 3 w_go ft
 refine Ë λ_ _=> ?_;refine .fy λCW xw=> ?_;have rr:fF CV CV.w CW:=Zv.2.2.fe ⟨xw.r,xw.I,xw.N,xw.Y,xw.S⟩;have s:=E.G rr;have hA9:gf (λb=>Â b=x.ownBlock) l ({CV with d:=0,w:=CW}:e9):=⟨s.O,s.c,s.S,s.Y,s.b,s.K,s.q,hd.symm,s.fv,s.I,s.r,s.f,s.g,s.e⟩;have at9:∀{b:Nat} {o:Ε},hD CV b o->hD ({CV with d:=0,w:=CW}:e9) b o:=λh=>⟨h.fj,(rr.I _<|Ã h.fj).trans h.I⟩;have hlen:(xs++[è<|Â a]).length=j+1:=by have:=lJ.1;simp;omega
 refine hJ0 {CV with d:=0,w:=CW} _ a r B S C _ hA9 ⟨U,U,U,U,U,U,U,U⟩ ⟨?_,RR,at9 c7,at9 d7,at9 g7,at9 f7⟩ Zp KN CS Mn λk e=>⟨(IL k e).2.1,(IL k e).2.2,by have:=(IL k e).1;omega,by have:=(IL k e).1;omega⟩;rw[hlen];exact n9 Zu λk e=>rr.I k<|Ã<|RR k e
end
def tw(l:e9)(b:Nat):e9:={l with O:=λj=>l.O j/\j≠b,K:=λa=>l.K a\/a=⟨b,0,Á⟩\/a=⟨b,1,Á⟩}
def nz(l x:e9)(b:Nat):e9:={x with O:=λj=>x.O j\/j=b,K:=l.K}
section
variable{S:Jd}{l:e9}
def fg.RV(W:∀a,l.K a->a.block≠b){x:e9}(h:fg P yQ S x g):¬x.M b->(∀a,x.C a->a.block≠b)->x.K=(tw l b).K->b<x.w.heap.size->(x.w.cell? ⟨b,0,Á⟩).isSome=Ó->(x.w.cell? ⟨b,1,Á⟩).isSome=Ó->jU x-> fg P yQ (λG H=>∃d,S d H/\G=nz l d b/\¬d.M b/\(∀a,d.C a->a.block≠b)/\d.K=(tw l b).K/\b<d.w.heap.size/\d.w.heap[b]?=x.w.heap[b]?/\d.q=x.q/\jU d) (nz l x b) g:=by
 have u:∀{x:e9} {c:ß},x.K=(tw l b).K->(x.w.cell? ⟨b,0,Á⟩).isSome=Ó->(x.w.cell? ⟨b,1,Á⟩).isSome=Ó->fF (nz l x b) x.w c->fF x x.w c:=λ{x c} f i m r=>
  ⟨r.r,λj p=>r.I j<|p.imp Ã id,r.N,r.Y,λa o q=>by
   rw[f]at o;rcases o with z|z|z
   .exact r.S a z q
   .rw[z,gM<|r.I b<|Ã<|Ç U];exact i
   .rw[z,gM (r.I b (Ã (Ç U)))];exact m⟩
 induction h with
 |@fy x g h=>
  intro s t f v i m I;refine .fy λc r=>⟨{x with w:=c},h c<|u f i m r,U,s,t,f,È v r.r,r.I b<|Ã<|Ç U,U,lH I<|u f i m r⟩
 |@jM x g G' W' E' L' iH h hd _ ih=>
  intro s t f v i m I;refine .mk iH λc r=> ?_;have B:=u f i m r;have D:=hd c B;have E:=È v r.r;have J:=λq=>s<|Ã q;have L:=D.jT b E J λa e q=>t a (Ã q) e;have F:(L' c).w.heap[b]?=x.w.heap[b]?:=by rw[D.Y];exact L.trans<|r.I b<|Ã<|Ç U
  refine⟨G' c,W' c,E' c,nz l (L' c) b,h c B,?_,?_⟩
  .refine⟨D.C,λj q=> ?_,λj q=> ?_,D.rd,D.r,D.I,U,λj p y n=>D.jT j p (λq=>y<|Ã q) n,λa o y n=>D.M a o (λq=>y<|Ã q) n,λa o y=>D.S a o λq=>y<|Ã q,D.c,D.f,D.i,λe N=> ?_,D.g,D.q,λq=> ?_,D.Y⟩
   .rcases q with q|q
    .exact(D.N j q).imp Ã id
    .exact Ã<|Ç q
   .rcases q with q|q
    .exact D.fv j q
    .rw[q];exact È E D.C
   .rcases D.b e N with⟨a,y,n⟩|h|h|h|h|⟨a,y,n⟩
    .exact Ã ⟨a,y,n.imp Ã id⟩
    .exact Ç<|Ã h
    .exact Ç<|Ç<|Ã h
    .exact Ç<|Ç<|Ç<|Ã h
    .exact Ç<|Ç<|Ç<|Ç<|Ã h
    .exact Ç<|Ç<|Ç<|Ç<|Ç ⟨a,Ã y,n⟩
   .let⟨Q,T,V⟩:=D.h q;exact⟨Q,T,by funext j;show((L' c).O j\/j=b)=(x.O j\/j=b);rw[V]⟩
  .refine(ih c B (λq=>q.elim (λz=>(D.N b z).elim J λy=>by omega) λz=>s<|Ç<|by rw[<-D.rd];exact z) (λa q=>t a<|q.imp (by rw[D.r];exact id)<|by rw[D.I];exact id) (D.k.trans f) (by rw[D.Y];exact È E D.C) (by rw[gM F];exact i) (by rw[gM F];exact m) λj p=>by rw[D.Y];exact D.fv j p).fN ?_;rintro G H ⟨d,y,e,j,n,o,p,z,N,Q⟩;exact⟨d,y,e,j,n,o,p,z.trans F,N.trans D.q,Q⟩
end
section
variable{L:WgLink}{l:e9}{J:Jd}{c:é}{k:List ź}{ty:Ź}
structure ajs(b:Nat)(cc:Array Ð)(ty:Ź)(l l':e9):Prop where
 r:gf (λj=>j=b) l l'
 O:l'.O=l.O
 C:l'.w.heap[b]?=Â (Ê (cc.setIfInBounds 0<|É ë 4294967296) ty)
theorem Zw(a:l.O b)(w:ß)(d:Nat):nz l {tw l b with d:=d,w:=w} b={l with d:=d,w:=w}:=by
 have:(λj=>(l.O j/\j≠b)\/j=b)=l.O:=by grind
 unfold nz tw;simp only[this]
def Zx{C:Array Ð}(H:WgLib P L)(s:gu l)(hq:¬l.q)(Y:l.d=0)(x:l.O b)(M:l.w.heap[b]?=Â (Ê C ty))(N:C[0]?=Â (É ë 0))(o:(C[1]?).isSome=Ó) (hT:∀B,ajs b C ty l B->fg P yQ J B (G (c.at (y.put ((Q[i]?).bind (·.dst))<|ñ #[])<|Ï Q jJ::k) qX)): fg P yQ J l (G ((base L.add).at ⟨#[À<|Â ⟨b,0,Á⟩,É Î 1,Å,Å,Å,Å,Å,Å,Å,Å,Å,Å,Å,Å,Å,Å,Å,Å,Å,Å,Å,Å,Å,Å,Å,Å,Å,Å,Å,Å,Å,Å,Å,Å,Å,Å,Å,Å,Å,Å,Å,Å,Å,Å,Å,Å,Å,Å,Å,Å,Å,Å,Å,Å,Å,Å,Å,Å,Å,Å,Å,Å,Å,Å,Å,Å,Å,Å,Å,Å,Å,Å,Å,Å,Å,Å,Å,Å,Å,Å,Å,Å,Å,Å,Å,Å,Å,Å,Å,Å,Å,Å,Å,Å,Å,Å,Å,Å,Å,Å,Å,Å,Å,Å,Å,Å,Å,Å,Å,Å,Å,Å,Å,Å,Å,Å,Å],[]⟩ [ö<|body_add L])<|c.at y (Ï Q (i::jJ)::k)::qX):=by
 have e0:l.w.cell? ⟨b,0,Á⟩=Â (É ë 0):=by simp[Ù,M,N]
 have e1:(l.w.cell? ⟨b,1,Á⟩).isSome=Ó:=by let⟨u,D⟩:=Ö.1 o;simp[Ù,M,D]
 have S:∀y:ã,l.K y->y.block≠b:=λy T e=>(s.S y T).1<|Ã<|e▸x;let J1:Jd:=λB g'=>g'=G (c.at (y.put ((Q[i]?).bind (·.dst))<|ñ #[])<|Ï Q jJ::k) qX/\B={tw l b with d:=0,w:=B.w}/\fF (tw l b) l.w B.w
 have hW:fg P yQ (LN P yQ b J1) (tw l b) (G ((base L.add).at ⟨#[À<|Â ⟨b,0,Á⟩,É Î 1,Å,Å,Å,Å,Å,Å,Å,Å,Å,Å,Å,Å,Å,Å,Å,Å,Å,Å,Å,Å,Å,Å,Å,Å,Å,Å,Å,Å,Å,Å,Å,Å,Å,Å,Å,Å,Å,Å,Å,Å,Å,Å,Å,Å,Å,Å,Å,Å,Å,Å,Å,Å,Å,Å,Å,Å,Å,Å,Å,Å,Å,Å,Å,Å,Å,Å,Å,Å,Å,Å,Å,Å,Å,Å,Å,Å,Å,Å,Å,Å,Å,Å,Å,Å,Å,Å,Å,Å,Å,Å,Å,Å,Å,Å,Å,Å,Å,Å,Å,Å,Å,Å,Å,Å,Å,Å,Å,Å,Å,Å,Å,Å,Å,Å,Å],[]⟩ [ö<|body_add L])<|c.at y (Ï Q (i::jJ)::k)::qX):=by refine YS (Ψ:=λw=>fF (tw l b) l.w w) H ⟨Ã<|Ç<|Ã U,Ã<|Ç<|Ç U,λw n o t a g m h=>h.fe ⟨o,t,a,g,m⟩⟩ ⟨λj f=>s.fv j<|Ã f.1,⟨by rw[show(tw l b).w=l.w from rfl,e0];rfl,e1⟩,fF.fU _ _⟩ Y λn v=> .fy λp r=>⟨U,U,v.2.2.fe ⟨r.r,r.I,r.N,r.Y,r.S⟩⟩
 have hstart:=hW.RV S (λq=>q.elim (λz=>z.2 U) λz=>s.c b x z) (λy T e=>s.N y T<|Ã<|e▸x) U (s.fv b<|Ã x) (by rw[show(tw l b).w=l.w from rfl,e0];rfl) e1 λj f=>s.fv j<|Ã f.1;rw[show nz l (tw l b) b=l from Zw x l.w l.d]at hstart;apply hstart.lD;rintro l1 g1 ⟨E,⟨CX,ajt,hA⟩,rfl,Zy,Zz,uk,hlt1,oY,CL,lo1⟩;let⟨g2,ZA,V⟩:=hA 0;have s5:ë.wrap (0+fX)=fX:=by rw[show(0:Int)+fX=fX from rfl];exact La A A
 rw[s5]at V ZA;rw[if_pos U]at V;have hqx:¬E.q:=by rwa[CL]
 refine .mk ajt λn r=> ?_;have F:=(r.I b<|Ã<|Ç U).trans<|oY.trans M;have c0:n.cell? (fL b)=Â (É ë 0):=by simp[Ù,fL,F,N]
 have auO:=È hlt1 r.r;have W:(n.setCell (fL b)<|É ë fX).heap[b]?=Â (Ê (C.setIfInBounds 0<|É ë 4294967296) ty):=by unfold ă;simp[î,fL,F,fX]
 have rx:fF E E.w (n.setCell (fL b)<|É ë fX):=by
  refine⟨by rw[j1];exact r.r,λj f=>((lu λe=>Zy (by have t:j=b:=e;rwa[<-t])).trans<|r.I j<|f.imp Ã id),λa g=>(gM<|lu<|Zz a g).trans<|r.N a g,λa g=>sX.trans<|r.Y a g,λa g q=> ?_⟩
  .rw[uk]at g;refine yJ ?_;rcases g with z|z|z
   .exact r.S a z q
   .rw[z,gM<|r.I b<|Ã<|Ç U];rwa[z]at q
   .rw[z,gM<|r.I b<|Ã<|Ç U];rwa[z]at q
 refine⟨g2,_,_,nz l {E with w:=n.setCell (fL b) (É ë fX)} b,ZA n c0 (by simp[ð,fL,F]),?_,?_⟩
 .refine⟨by rw[j1];exact Û _,λ_ h=>Ã h,λj h=> ?_,U,U,U,U,λj _ o _=>lu λe=>o<|Ç e,λa _ o _=>gM (lu λe=>o<|Ç e),λ_ _ _=>Qf,U,U,U,λe t=> ?_,?_,U,λq=>absurd q hqx,U⟩
  .rw[j1];rcases h with h|h
   .exact È (lo1 j h) r.r
   .rwa[h]
  .have:e=kA (fL b)\/e=mU (fL b):=by simpa using t
   rcases this with rfl|rfl
   .exact Ã ⟨fL b,U,Ã<|Ç U⟩
   .exact Ã ⟨fL b,U,Ã<|Ç U⟩
  .exact(Ő (λe t=>by
    have:e=kA (fL b)\/e=mU (fL b):=by simpa using t
    rcases this with rfl|rfl<;>exact⟨by simp[kA,mU],by simp[kA,mU]⟩) _).symm
 have z1:((n.setCell (fL b)<|É ë fX).cell? ⟨b,1,Á⟩).isSome=Ó:=by let⟨u,D⟩:=Ö.1 o;exact yJ<|by simp[Ù,F,D]
 have aju:=(V.j4 rx).RV S Zy Zz uk (by show b<(n.setCell (fL b)<|É ë fX).heap.size;rwa[j1]) (yJ<|by rw[show(⟨b,0,Á⟩:ã)=fL b from rfl,c0];rfl) z1 (λj f=>by show j<(n.setCell (fL b)<|É ë fX).heap.size;rw[j1];exact È (lo1 j f) r.r);apply aju.lD;rintro l2 g3 ⟨v,⟨na,ajv,g4,ajw,hN2⟩,rfl,nM2,nC2,ze,Mq,X,qw,lo2⟩;have ajx:¬v.q:=by rwa[qw]
 refine .mk ajv λp m=> ?_;have I:∀a:ã,a.block=b->p.cell? a=v.w.cell? a:=λa e=>gM<|m.I a.block<|Ã<|Ç e;have rx2:fF v v.w p:=⟨m.r,λj f=>m.I j<|f.imp Ã id,m.N,m.Y,λa g q=>by
  rw[ze]at g;rcases g with z|z|z
  .exact m.S a z q
  .rwa[I a (by rw[z])]
  .rwa[I a (by rw[z])]⟩
 refine⟨g4,p,_,nz l {v with w:=p} b,ajw p,?_,?_⟩
 .refine⟨Û _,λ_ h=>Ã h,λj h=> ?_,U,U,U,U,λ_ _ _ _=>rfl,λ_ _ _ _=>rfl,λ_ _ _=>rfl,U,U,U,λe t=> ?_,?_,U,λq=>absurd q ajx,U⟩
  .rcases h with h|h
   .exact È (lo2 j h) m.r
   .rw[h];exact È Mq m.r
  .have:e=jy (.read<|gR b):=by simpa using t
   rw[this];exact Ç<|Ç<|Ç<|Ç<|Ç ⟨gR b,Ç U,Ã U⟩
  .exact(Ő (λe t=>by
    have:e=jy (.read<|gR b):=by simpa using t
    rw[this];exact⟨by simp[jy],by simp[jy]⟩) _).symm
 have z:(p.cell? ⟨b,0,Á⟩).isSome=Ó:=by rw[I _ U];have:v.w.heap[b]?=_:=X.trans W;simp[Ù,this,(æ.1 N).1]
 have y1:(p.cell? ⟨b,1,Á⟩).isSome=Ó:=by rw[I _ U];have:v.w.heap[b]?=_:=X.trans W;let⟨u,D⟩:=Ö.1 o;simp[Ù,this,(æ.1 D).1]
 have u:=(hN2.j4 rx2).RV S nM2 nC2 ze (È Mq m.r) z y1 λj f=>È (lo2 j f) m.r;apply u.lD;rintro l3 g5 ⟨x3,⟨rfl,D,t⟩,rfl,nM3,nC3,hk3,ZB,hb3,xq,lo3⟩;rw[D,Zw x];have RY:=hb3.trans<|(m.I b<|Ã<|Ç U).trans<|X.trans W;refine hT _ ⟨⟨λ_ h=>h,λ_ h=>Ã h,U,U,U,U,U,Y.symm,λj f=>È (s.fv j<|Ã f) t.r,t.r,λj f hn=>t.I j (f.imp (λq=>⟨q,hn⟩) id),t.N,t.Y,λa g=>t.S a<|Ã g⟩,U,RY⟩
end
noncomputable def RZ:Ġ:=kY Ģ [1,1,1]
noncomputable def ZC:Ġ:=kY Ģ [1,1,0,1,0,0,1,1,0,0,1,1,1]
noncomputable def R0:Ġ:=kY Ģ [1,1,0,1,0,0,1,1,0,0,1,1,0,1]
noncomputable def IN:Ġ:=kY Ģ [1,1,0,1,0,0]
noncomputable def R1:Ġ:=kY Ģ [1,1,0,1,0,0,1,1,1]
noncomputable def CY (t:Array Ð) (a:List é):Ý:=G ((base 46).at ⟨t,[]⟩ [ö IN,Ā IN,ï 0,ö RZ]) a
noncomputable def IP (t:Array Ð) (a:List é):Ý:=G ((base 46).at ⟨t,[]⟩ [ö R0,ö ZC,ï 1,ö R1,Ā IN,ï 0,ö RZ]) a
structure PT(iv qv rs:Ð)(lg R i:Nat)(t:Array Ð):Prop where
 r:t.size=48
 N:t[4]?=Â iv
 S:t[5]?=Â qv
 Y:t[6]?=Â (À<|Â ⟨lg,0,Á⟩)
 C:t[13]?=Â rs
 I:t[14]?=Â (É Î R)
 M:t[15]?=Â (É Î i)
def Mr(t:Array Ð)(h:t.size=48):∃a b c d e f g i j k l m n o p q r s u v w x y z B C D E F G H I J K L M N O P Q S T V W X Y n5 n7:Ð,t=#[a,b,c,d,e,f,g,i,j,k,l,m,n,o,p,q,r,s,u,v,w,x,y,z,B,C,D,E,F,G,H,I,J,K,L,M,N,O,P,Q,S,T,V,W,X,Y,n5,n7]:=by obtain⟨_,rfl⟩:=xm t h;exact⟨_,_,_,_,_,_,_,_,_,_,_,_,_,_,_,_,_,_,_,_,_,_,_,_,_,_,_,_,_,_,_,_,_,_,_,_,_,_,_,_,_,_,_,_,_,_,_,_,U⟩
def ajy(w:ß)(a c:Option ã)(b:Int):(đ 155 #[(0,À a),(1,É Î b),(2,À c)]).run Ä w=.ok (ę #[À a,É Î b,À c,À Á]) w:=run_build w 155 _ _ fM
def ajz(w:ß)(a c:Option ã)(b:Int):(đ 155 #[(0,À a),(1,É Î b),(2,À c)]).events Ä w #[]=#[]:=by unfold đ;simp only[Sem.events_bind];simp[go_sem]
section
variable{p:Nat}{v0 v1 v2 v3:Ð}
def ajA(h:w.heap[p]?=Â (Ê #[v,x,z,jQ] e)):(iT w p v0 v1 v2 v3).heap[p]?=Â (Ê #[v0,v1,v2,v3] e):=by unfold iT ă;simp[î,h]
def gf.iT{l c:e9}(h:gf X l c)(s:gu l)(r:fF c c.w u)(f:l.w.heap.size<=p):gf X l {c with w:=fq.iT u p v0 v1 v2 v3}:=by
 have b:=h.G r;have e:∀{j:Nat},j<l.w.heap.size->(fq.iT u p v0 v1 v2 v3).heap[j]?=u.heap[j]?:=λ{j} q=>zk Z;refine⟨b.O,b.c,b.S,b.Y,b.b,b.K,b.q,b.d,λj q=> ?_,?_,λj q n=>(e<|s.fv j q).trans<|b.r j q n,λa q=>(gM<|e<|s.I a q).trans<|b.f a q,λa q=>(wZ<|e<|s.I a q).trans<|b.g a q,λa q z=> ?_⟩
 .show j<(fq.iT u p v0 v1 v2 v3).heap.size;rw[xl];exact b.fv j q
 .show l.w.heap.size<=(fq.iT u p v0 v1 v2 v3).heap.size;rw[xl];exact b.I
 .show((fq.iT u p v0 v1 v2 v3).cell? a).isSome=Ó;rw[gM<|e (s.S a q).2.1];exact b.e a q z
def hD.rly{l:e9}{o:Ε}(h:hD l b o)(r:fF l l.w u):hD {l with w:=u} b o:=⟨h.fj,(r.I b<|Ã h.fj).trans h.I⟩
end
section
variable{J:Jd}{l:e9}{t:Array Ð}{iv qv:Ð}{lg R:Nat}{kd:Int}
def ajB(f:gu l)(o:¬l.q)(k:PT iv qv (Æ (Â ⟨j,0,Á⟩) R n) lg R i t)(ZD:i<R)(hR:R<1000)(T:l.M j)(V:l.w.cell? ⟨j,i,Á⟩=Â (À<|Â ⟨b,0,Á⟩))(F:l.M b)(W:l.w.cell? ⟨b,4,Á⟩=Â (É Î kd)) (X:∀B u a,gf (λ_=>False) l B->l.w.heap.size<=a->hD B a (Ê #[À<|Â ⟨b,0,Á⟩,É Î i,À<|Â ⟨lg,0,Á⟩,À Á] 155)->PT iv qv (Æ (Â ⟨j,0,Á⟩) R n) lg R i u->u[9]?=Â (À<|Â ⟨a,0,Á⟩)->u[28]?=Â (Ĭ<|decide<|kd≠1)->fg Ä Ó J B (IP u qX)): fg Ä Ó J l (CY t qX):=by
 obtain⟨y0,y1,y2,y3,G,H,Y,y7,y8,y9,xn,zo,xo,rW,s9,rh,vE,vF,uA,uB,uC,td,tf,tg,uD,vG,xp,tj,ri,uE,qt,qu,qe,pD,pE,oW,oX,qf,qg,qh,qi,qj,qk,qm,qn,qo,n5,n7,rfl⟩:=Mr t k.r;obtain rfl:iv=G:=(show G=iv by simpa using k.N).symm;obtain rfl:qv=H:=(show H=qv by simpa using k.S).symm;obtain rfl:Y=À (Â ⟨lg,0,Á⟩):=by simpa using k.Y
 obtain rfl:rW=Æ (Â ⟨j,0,Á⟩) R n:=by simpa using k.C
 obtain rfl:s9=É Î R:=by simpa using k.I
 obtain rfl:rh=É Î i:=by simpa using k.M
 have auP:(i:Int)<(R:Int):=Z
 have hF:True:=trivial;have rX:∀y:ã,False->l.r y:=λy ha=>ha.elim;apply fO (n:=40) f.r;simp only[CY];conv in IN=>whnf
 repeat w_go ft
 refine Ë λ_ _=> ?_;apply pG (x:=⟨j,i,Á⟩) U U (by k_ne) f.r o (Ã T) V (λw h=>by go_simp) (λw h=>by simp[go_sem,h]);walk_nrm;apply fO (n:=40) f.r;repeat w_go ft
 refine Ë λ_ _=> ?_;refine nH (v:=ę #[À<|Â ⟨b,0,Á⟩,É Î i,À<|Â ⟨lg,0,Á⟩,À Á]) U U (by k_ne) f.r o (λc r=> ?_) (λc r e C=> ?_) ?_
 .have S:=ajy c (Â ⟨b,0,Á⟩) (Â ⟨lg,0,Á⟩) i;go_simp
 .simp[go_sem,ajz c (Â ⟨b,0,Á⟩) (Â ⟨lg,0,Á⟩) i]at C
 walk_nrm;refine Ih (ob:=Ê #[À Á,É Î 0,À Á,À Á] 155) U U (by k_ne) f.r o (λw=>by go_simp) (λw=>by simp[go_sem]) λc D=> ?_;walk_nrm;have s:gf (λ_=>False) l (gG l c<|Ê #[À Á,É Î 0,À Á,À Á] 155):=mY f D;have m:hD (gG l c<|Ê #[À Á,É Î 0,À Á,À Á] 155) c.heap.size (Ê #[À Á,É Î 0,À Á,À Á] 155):=⟨Ç U,mX⟩;have E:l.w.heap.size<=c.heap.size:=D.r;generalize gG l c (Ê #[À Á,É Î 0,À Á,À Á] 155)=l₁ at s m|-;generalize c.heap.size=a at m E|-;have I:=s.N f;have K:¬l₁.q:=by rwa[s.q]
 refine vz U U (by k_ne) λd z=> ?_;have g:=m.rly z;replace g:d.heap[a]?=_:=g.I;have L:d.cell? ⟨a,0,Á⟩=Â (À Á):=by simp[Ù,g]
 have N:d.cell? ⟨a,1,Á⟩=Â (É Î 0):=by simp[Ù,g]
 have O:d.cell? ⟨a,2,Á⟩=Â (À Á):=by simp[Ù,g]
 have P:d.cell? ⟨a,3,Á⟩=Â (À Á):=by simp[Ù,g]
 have Q:∀r,d.frozen? ⟨a,r,Á⟩=Í:=λr=>by simp[ð,g]
 go_simp;refine⟨{l₁ with w:=iT d a (À<|Â ⟨b,0,Á⟩) (É Î i) (À<|Â ⟨lg,0,Á⟩) (À Á)},L0 (p:=a) (lH I.r z) K m.fj xl (λr S=>zk S) ⟨U,U,U⟩ λe C=> ?_,?_⟩
 .have S:=Ě C;have e:∀r,qp l₁ ⟨a,r,Á⟩:=λr=>Ã m.fj;simp[go_sem,â _ _ _ _ _ _ (show Ú (À<|Â ⟨b,0,Á⟩)=Ó from rfl),â _ _ _ _ _ _ (show Ú (À<|Â ⟨lg,0,Á⟩)=Ó from rfl),â _ _ _ _ _ _ (show Ú (À Á)=Ó from rfl),L,N,O,P,Q]at S;rcases S with rfl|rfl|rfl|rfl
  .exact(e _).r
  .exact(e _).r
  .exact(e _).r
  .exact(e _).r
 have e:gf (λ_=>False) l ({l₁ with w:=iT d a (À<|Â ⟨b,0,Á⟩) (É Î i) (À<|Â ⟨lg,0,Á⟩) (À Á)}:e9):=s.iT f z E;have S:hD ({l₁ with w:=iT d a (À<|Â ⟨b,0,Á⟩) (É Î i) (À<|Â ⟨lg,0,Á⟩) (À Á)}:e9) a (Ê #[À<|Â ⟨b,0,Á⟩,É Î i,À<|Â ⟨lg,0,Á⟩,À Á] 155):=⟨m.fj,ajA g⟩;generalize({l₁ with w:=iT d a (À<|Â ⟨b,0,Á⟩) (É Î i) (À<|Â ⟨lg,0,Á⟩) (À Á)}:e9)=l₂ at e S|-;clear m s I K g L N O P Q z d l₁ D c;have C:=e.N f;apply fO (n:=20) C.r;repeat w_go ft
 refine Ë λ_ _=> ?_;apply pG (x:=⟨b,4,Á⟩) U U (by k_ne) C.r (by rwa[e.q]) (Ã<|e.M F) ((gM<|e.r b F id).trans W) (λw h=>by go_simp) (λw h=>by simp[go_sem,h]);walk_nrm;apply fO (n:=20) C.r;iterate 2 w_go ft
 refine Ë λ_ _=> ?_;apply X l₂ _ a e E S ⟨U,U,U,U,U,U,U⟩ U;simp;rfl
end
section
variable{J:Jd}{l:e9}{xs:List Ð}
def ajC(s:gu l)(E:¬l.q)(o:PT v x z b j i d)(ZD:i<j)(hR:j<1000)(h9:d[9]?=Â (À<|Â ⟨m,0,Á⟩))(R2:d[28]?=Â (Ĭ Ó))(hn:n<1000) (h:hD l m (Ê #[À<|Â ⟨k,0,Á⟩,É Î i,À<|Â ⟨b,0,Á⟩,À Á] 155)) (lJ:l.w.ownsRow 0 155 4 x n xs) (K:∀a,x.ownBlock=Â a->l.O a) (hJ:∀B L t,gf (λf=>Â f=x.ownBlock) l B->B.w.ownsRow 0 155 4 t (n+1) (xs++[À<|Â ⟨k,0,Á⟩,É Î i,À<|Â ⟨b,0,Á⟩,À Á])->(∀a,t.ownBlock=Â a->B.O a)->(t.ownBlock=x.ownBlock\/∃a,t.ownBlock=Â a/\l.w.heap.size<=a)->PT v t z b j (i+1) L->fg Ä Ó J B (CY L qX)): fg Ä Ó J l (IP d qX):=by
 obtain⟨y0,y1,y2,y3,M,N,y6,y7,y8,y9,xn,zo,xo,P,s9,rh,vE,vF,uA,uB,uC,td,tf,tg,uD,vG,xp,tj,ri,uE,qt,qu,qe,pD,pE,oW,oX,qf,qg,qh,qi,qj,qk,qm,qn,qo,n5,n7,rfl⟩:=Mr d o.r;obtain rfl:v=M:=(show M=v by simpa using o.N).symm;obtain rfl:x=N:=(show N=x by simpa using o.S).symm;obtain rfl:y6=À (Â ⟨b,0,Á⟩):=by simpa using o.Y
 obtain rfl:y9=À (Â ⟨m,0,Á⟩):=by simpa using h9
 obtain rfl:z=P:=(show P=z by simpa using o.C).symm;obtain rfl:s9=É Î j:=by simpa using o.I
 obtain rfl:rh=É Î i:=by simpa using o.M
 obtain rfl:ri=Ĭ Ó:=by simpa using R2
 have hF:True:=trivial;apply fO (n:=40) s.r;simp only[IP];conv in R0=>whnf
 conv in R1=>whnf
 repeat w_go ft
 refine Ë λ_ _=> ?_;refine nH (v:=ę #[À<|Â ⟨k,0,Á⟩,É Î i,À<|Â ⟨b,0,Á⟩,À Á]) U U (by k_ne) s.r E (λp r=> ?_) (λp r e y=> ?_) ?_
 .skip;have C:p.cell? ⟨m,0,Á⟩=Â (À<|Â ⟨k,0,Á⟩):=(gX.r (show gX l ⟨m,0,Á⟩from Ã<|Ã h.fj) r).trans<|h.C U;have D:p.cell? ⟨m,1,Á⟩=Â (É Î i):=(gX.r (show gX l ⟨m,1,Á⟩from Ã<|Ã h.fj) r).trans<|h.C U;have F:p.cell? ⟨m,2,Á⟩=Â (À<|Â ⟨b,0,Á⟩):=(gX.r (show gX l ⟨m,2,Á⟩from Ã<|Ã h.fj) r).trans<|h.C U;have G:p.cell? ⟨m,3,Á⟩=Â (À Á):=(gX.r (show gX l ⟨m,3,Á⟩from Ã<|Ã h.fj) r).trans<|h.C U;go_simp
 .have u:∀g,gX l ⟨m,g,Á⟩:=λg=>Ã<|Ã h.fj;have C:p.cell? ⟨m,0,Á⟩=Â (À<|Â ⟨k,0,Á⟩):=(gX.r (show gX l ⟨m,0,Á⟩from Ã<|Ã h.fj) r).trans<|h.C U;have D:p.cell? ⟨m,1,Á⟩=Â (É Î i):=(gX.r (show gX l ⟨m,1,Á⟩from Ã<|Ã h.fj) r).trans<|h.C U;have F:p.cell? ⟨m,2,Á⟩=Â (À<|Â ⟨b,0,Á⟩):=(gX.r (show gX l ⟨m,2,Á⟩from Ã<|Ã h.fj) r).trans<|h.C U;have G:p.cell? ⟨m,3,Á⟩=Â (À Á):=(gX.r (show gX l ⟨m,3,Á⟩from Ã<|Ã h.fj) r).trans<|h.C U;simp[go_sem,C,D,F,G]at y;rcases y with rfl|rfl|rfl|rfl
  .exact(u _).rd
  .exact(u _).rd
  .exact(u _).rd
  .exact(u _).rd
 walk_nrm;refine pJ (V:=λp=>Æ (Â ⟨p,0,Á⟩) 1 1) (ob:=Ê #[À<|Â ⟨k,0,Á⟩,É Î i,À<|Â ⟨b,0,Á⟩,À Á] 155) U U (by k_ne) s.r E (λw=>by go_simp) (λw=>by simp[go_sem]) λr Q=> ?_;walk_nrm;have p:=mY (X:=λ_=>False) (ob:=Ê #[À<|Â ⟨k,0,Á⟩,É Î i,À<|Â ⟨b,0,Á⟩,À Á] 155) s Q;have y:hD (gG l r<|Ê #[À<|Â ⟨k,0,Á⟩,É Î i,À<|Â ⟨b,0,Á⟩,À Á] 155) r.heap.size (Ê #[À<|Â ⟨k,0,Á⟩,É Î i,À<|Â ⟨b,0,Á⟩,À Á] 155):=⟨Ç U,mX⟩;have C:∀a,x.ownBlock=Â a->(gG l r<|Ê #[À<|Â ⟨k,0,Á⟩,É Î i,À<|Â ⟨b,0,Á⟩,À Á] 155).O a:=λa e=>Ã<|K a e;have F:=n9 lJ (w₁:=(gG l r<|Ê #[À<|Â ⟨k,0,Á⟩,É Î i,À<|Â ⟨b,0,Á⟩,À Á] 155).w) λa e=>p.r a (Ã<|K a e) id;generalize gG l r (Ê #[À<|Â ⟨k,0,Á⟩,É Î i,À<|Â ⟨b,0,Á⟩,À Á] 155)=l₄ at p y C F|-;generalize r.heap.size=px at y|-;have G:=p.N s;have S:¬l₄.q:=by rwa[p.q]
 have Fv:Ä.info? 155=Â ĉ:=ņ;refine Iu (v:=x) (us:=[À<|Â ⟨k,0,Á⟩,É Î i,À<|Â ⟨b,0,Á⟩,À Á]) (px:=px) (c:=1) (n:=n) (sz:=4) (xs:=xs) (inf:=ĉ) (z:=ę #[À Á,É Î 0,À Á,À Á]) U U (by k_ne) G S U U U Ň Fv U U Z U U (by simp[ĉ];omega) (by simp only[Ť];omega) F C y.fj (λg u D=>y.C<|by simpa using D) (by simp[Ú]) λu g D H T W Y uH=> ?_;walk_nrm;have k5:gf (λf=>Â f=x.ownBlock) l₄ (mZ l₄ u D):=L9 G H W λa e=>⟨C a e,e.symm⟩;have I:gf (λf=>Â f=x.ownBlock) l (mZ l₄ u D):=(p.fN λ_ _ q=>q.elim).fe k5;have R3:g.ownBlock=x.ownBlock\/∃a,g.ownBlock=Â a/\l.w.heap.size<=a:=uH.imp id λq=>⟨_,q,Ø p.I H.r⟩;have xv:(mZ l₄ u D).w.ownsRow 0 155 4 g (n+1) (xs++[À<|Â ⟨k,0,Á⟩,É Î i,À<|Â ⟨b,0,Á⟩,À Á]):=T;generalize mZ l₄ u D=tu at I xv Y|-;clear p k5 W T uH y G S C F H Q;have sf:=I.N s;have hw:Î.wrap ((i:Int)+1)=((i+1:Nat):Int):=by rw[CB Z Z];omega
 apply fO (n:=40) sf.r;repeat w_go ft
 refine Ë λ_ _=> ?_;refine hJ tu _ g I xv Y R3 ⟨U,U,U,U,U,U,?_⟩;simp[hw]
def ajD(G:gu l)(hq:¬l.q)(hd:l.d=0)(I:PT v x z b j i d)(ZD:i<j)(hR:j<1000)(h9:d[9]?=Â (À<|Â ⟨m,0,Á⟩))(R2:d[28]?=Â (Ĭ Í))(hn:n<1000) (h0:hD l m (Ê #[À<|Â ⟨k,0,Á⟩,É Î i,À<|Â ⟨b,0,Á⟩,À Á] 155)) (lJ:l.w.ownsRow 0 155 4 v n xs) (hO:∀f,v.ownBlock=Â f->l.O f) (tq:v.ownBlock≠Â m) (hJ:∀T t' W s,gf (λg=>Â g=v.ownBlock\/g=m) l T->T.w.ownsRow 0 155 4 W (n+1) (xs++[À<|Â ⟨k,0,Á⟩,É Î i,À<|Â ⟨b,0,Á⟩,À<|Â ⟨s,0,Á⟩])->(∀f,W.ownBlock=Â f->T.O f)->(W.ownBlock=v.ownBlock\/∃f,W.ownBlock=Â f/\s<f)->l.w.heap.size<=s->hD T s (Ê #[É ë 4294967296,É ú 0,Æ Á 0 0] 105)->PT W x z s j (i+1) t'->fg Ä Ó J T (CY t' qX)): fg Ä Ó J l (IP d qX):=by
 obtain⟨y0,y1,y2,y3,y4,y5,y6,y7,y8,y9,xn,zo,xo,rW,s9,rh,vE,vF,uA,uB,uC,td,tf,tg,uD,vG,xp,tj,ri,uE,qt,qu,qe,pD,pE,oW,oX,qf,qg,qh,qi,qj,qk,qm,qn,qo,n5,n7,rfl⟩:=Mr d I.r;obtain rfl:v=y4:=(show y4=v by simpa using I.N).symm;obtain rfl:x=y5:=(show y5=x by simpa using I.S).symm;obtain rfl:y6=À (Â ⟨b,0,Á⟩):=by simpa using I.Y
 obtain rfl:y9=À (Â ⟨m,0,Á⟩):=by simpa using h9
 obtain rfl:z=rW:=(show rW=z by simpa using I.C).symm;obtain rfl:s9=É Î j:=by simpa using I.I
 obtain rfl:rh=É Î i:=by simpa using I.M
 obtain rfl:ri=Ĭ Í:=by simpa using R2
 have hF:True:=trivial;apply fO (n:=40) G.r;simp only[IP];conv in R0=>whnf
 conv in ZC=>whnf
 conv in R1=>whnf
 repeat w_go ft
 refine Ë λ_ _=> ?_;refine Ih (ob:=Ê #[É ë 0,É ú 0,Æ Á 0 0] 105) U U (by k_ne) G.r hq (λw=>by go_simp) (λw=>by simp[go_sem]) λD kg=> ?_;walk_nrm;have t:gf (λ_=>False) l (gG l D<|Ê #[É ë 0,É ú 0,Æ Á 0 0] 105):=mY G kg;have F:hD (gG l D<|Ê #[É ë 0,É ú 0,Æ Á 0 0] 105) D.heap.size (Ê #[É ë 0,É ú 0,Æ Á 0 0] 105):=⟨Ç U,mX⟩;have IQ:l.w.heap.size<=D.heap.size:=kg.r;generalize gG l D (Ê #[É ë 0,É ú 0,Æ Á 0 0] 105)=l₁ at t F|-;generalize D.heap.size=s at F IQ|-;clear kg D;have xt:=t.N G;have CL:¬l₁.q:=by rwa[t.q]
 have htl:m<l.w.heap.size:=G.fv m<|Ã h0.fj;have t1:=h0.r t id;apply fO (n:=40) xt.r;iterate 7 w_go ft
 u_call rf.f_add (Η Lk) addFn ft hF
 refine Ë λ_ _=> ?_;refine Zx rf xt CL (by rwa[t.d]) F.fj F.I U U λy hC=> ?_;walk_nrm;have E:gf (λg=>g=s) l₁ y:=hC.r;have Ms:gf (λ_=>False) l y:=⟨λf q=>E.O f<|t.O f q,λf q=>(E.c f q).elim (t.c f) λh=>Ç<|Ø t.I h,E.S.trans t.S,E.Y.trans t.Y,E.b.trans t.b,E.K.trans t.K,E.q.trans t.q,E.d.trans t.d,E.fv,Ø t.I E.I,λo Y nx=>(E.r o (t.M Y) λe=>by have:=G.fv o Y;omega).trans<|t.r o Y nx,λa H=>(E.f a<|by rwa[t.C]).trans<|t.f a H,λa H=>(E.g a<|by rwa[t.C]).trans<|t.g a H,λa H h=>E.e a (by rwa[t.K])<|t.e a H h⟩;have L:=t1.r E Z;have N:hD y s (Ê #[É ë 4294967296,É ú 0,Æ Á 0 0] 105):=⟨E.O s F.fj,hC.C⟩;have rY:=Ms.N G;have qw:¬y.q:=by rwa[Ms.q]
 have hgl:s<y.w.heap.size:=rY.fv s<|Ã N.fj;clear hC E t1 F t xt CL l₁;apply fO (n:=40) rY.r;iterate 5 w_go ft
 refine Ë λ_ _=> ?_;refine It (p:=m) (off:=3) (v:=À<|Â ⟨s,0,Á⟩) (u:=À Á) U U (by k_ne) rY.r qw L.fj (L.C U) (by simp[ð,L.I]) U (λw r S=>by go_simp) (λw r S=>by simp[go_sem,â _ _ _ _ _ _ (show Ú (À<|Â ⟨s,0,Á⟩)=Ó from rfl),r,S]) ?_;have P:gf (λg=>g=m) l {y with w:=y.w.setCell ⟨m,3,Á⟩ (À<|Â ⟨s,0,Á⟩)}:=(Ms.fN λ_ _ q=>q.elim).fe (L8 (p:=m) rY (fF.fU _ _) L.fj U j1 λo Y=>lu Y);have B:hD {y with w:=y.w.setCell ⟨m,3,Á⟩ (À<|Â ⟨s,0,Á⟩)} m (Ê #[À<|Â ⟨k,0,Á⟩,É Î i,À<|Â ⟨b,0,Á⟩,À<|Â ⟨s,0,Á⟩] 155):=⟨L.fj,by show(y.w.setCell ⟨m,3,Á⟩<|À<|Â ⟨s,0,Á⟩).heap[m]?=_;unfold ă;simp[î,L.I]⟩;have g3:hD {y with w:=y.w.setCell ⟨m,3,Á⟩ (À<|Â ⟨s,0,Á⟩)} s (Ê #[É ë 4294967296,É ú 0,Æ Á 0 0] 105):=⟨N.fj,(lu<|by show s≠m;omega).trans N.I⟩;have ajE:s<({y with w:=y.w.setCell ⟨m,3,Á⟩ (À<|Â ⟨s,0,Á⟩)}:e9).w.heap.size:=by show s<(y.w.setCell ⟨m,3,Á⟩<|À<|Â ⟨s,0,Á⟩).heap.size;rwa[j1]
 generalize({y with w:=y.w.setCell ⟨m,3,Á⟩ (À<|Â ⟨s,0,Á⟩)}:e9)=ky at P B g3 ajE|-;clear L N Ms rY qw hgl y;have Q:=P.N G;have xq:¬ky.q:=by rwa[P.q]
 have Fw:∀f,v.ownBlock=Â f->ky.O f:=λf e=>P.O f<|hO f e;have Mi:ky.w.ownsRow 0 155 4 v n xs:=n9 lJ λf e=>P.r f (Ã<|hO f e) λh=>tq<|h▸e;apply fO (n:=40) Q.r;iterate 3 w_go ft
 refine Ë λ_ _=> ?_;refine nH (v:=ę #[À<|Â ⟨k,0,Á⟩,É Î i,À<|Â ⟨b,0,Á⟩,À<|Â ⟨s,0,Á⟩]) U U (by k_ne) Q.r xq (λD r=> ?_) (λD r e he=> ?_) ?_
 .skip;have g0:D.cell? ⟨m,0,Á⟩=Â (À<|Â ⟨k,0,Á⟩):=(gX.r (show gX ky ⟨m,0,Á⟩from Ã<|Ã B.fj) r).trans<|B.C U;have F:D.cell? ⟨m,1,Á⟩=Â (É Î i):=(gX.r (show gX ky ⟨m,1,Á⟩from Ã<|Ã B.fj) r).trans<|B.C U;have N:D.cell? ⟨m,2,Á⟩=Â (À<|Â ⟨b,0,Á⟩):=(gX.r (show gX ky ⟨m,2,Á⟩from Ã<|Ã B.fj) r).trans<|B.C U;have g3:D.cell? ⟨m,3,Á⟩=Â (À<|Â ⟨s,0,Á⟩):=(gX.r (show gX ky ⟨m,3,Á⟩from Ã<|Ã B.fj) r).trans<|B.C U;go_simp
 .have S:∀o,gX ky ⟨m,o,Á⟩:=λo=>Ã<|Ã B.fj;have g0:D.cell? ⟨m,0,Á⟩=Â (À<|Â ⟨k,0,Á⟩):=(gX.r (show gX ky ⟨m,0,Á⟩from Ã<|Ã B.fj) r).trans<|B.C U;have F:D.cell? ⟨m,1,Á⟩=Â (É Î i):=(gX.r (show gX ky ⟨m,1,Á⟩from Ã<|Ã B.fj) r).trans<|B.C U;have N:D.cell? ⟨m,2,Á⟩=Â (À<|Â ⟨b,0,Á⟩):=(gX.r (show gX ky ⟨m,2,Á⟩from Ã<|Ã B.fj) r).trans<|B.C U;have g3:D.cell? ⟨m,3,Á⟩=Â (À<|Â ⟨s,0,Á⟩):=(gX.r (show gX ky ⟨m,3,Á⟩from Ã<|Ã B.fj) r).trans<|B.C U;simp[go_sem,g0,F,N,g3]at he;rcases he with rfl|rfl|rfl|rfl
  .exact(S _).rd
  .exact(S _).rd
  .exact(S _).rd
  .exact(S _).rd
 walk_nrm;refine pJ (V:=λp=>Æ (Â ⟨p,0,Á⟩) 1 1) (ob:=Ê #[À<|Â ⟨k,0,Á⟩,É Î i,À<|Â ⟨b,0,Á⟩,À<|Â ⟨s,0,Á⟩] 155) U U (by k_ne) Q.r xq (λw=>by go_simp) (λw=>by simp[go_sem]) λS CM=> ?_;walk_nrm;have r:=mY (X:=λ_=>False) (ob:=Ê #[À<|Â ⟨k,0,Á⟩,É Î i,À<|Â ⟨b,0,Á⟩,À<|Â ⟨s,0,Á⟩] 155) Q CM;have p4:hD (gG ky S<|Ê #[À<|Â ⟨k,0,Á⟩,É Î i,À<|Â ⟨b,0,Á⟩,À<|Â ⟨s,0,Á⟩] 155) S.heap.size (Ê #[À<|Â ⟨k,0,Á⟩,É Î i,À<|Â ⟨b,0,Á⟩,À<|Â ⟨s,0,Á⟩] 155):=⟨Ç U,mX⟩;have xu:∀f,v.ownBlock=Â f->(gG ky S<|Ê #[À<|Â ⟨k,0,Á⟩,É Î i,À<|Â ⟨b,0,Á⟩,À<|Â ⟨s,0,Á⟩] 155).O f:=λf e=>Ã<|Fw f e;have CN:=n9 Mi (w₁:=(gG ky S<|Ê #[À<|Â ⟨k,0,Á⟩,É Î i,À<|Â ⟨b,0,Á⟩,À<|Â ⟨s,0,Á⟩] 155).w) λf e=>r.r f (Ã<|Fw f e) id;generalize gG ky S (Ê #[À<|Â ⟨k,0,Á⟩,É Î i,À<|Â ⟨b,0,Á⟩,À<|Â ⟨s,0,Á⟩] 155)=l₄ at r p4 xu CN|-;generalize S.heap.size=px at p4|-;have zu:=r.N Q;have CO:¬l₄.q:=by rwa[r.q]
 have Fv:Ä.info? 155=Â ĉ:=ņ;refine Iu (v:=v) (us:=[À<|Â ⟨k,0,Á⟩,É Î i,À<|Â ⟨b,0,Á⟩,À<|Â ⟨s,0,Á⟩]) (px:=px) (c:=1) (n:=n) (sz:=4) (xs:=xs) (inf:=ĉ) (z:=ę #[À Á,É Î 0,À Á,À Á]) U U (by k_ne) zu CO U U U Ň Fv U U Z U U (by simp[ĉ];omega) (by simp only[Ť];omega) CN xu p4.fj (λo u hu=>p4.C<|by simpa using hu) (by simp[Ú]) λse CK Mt CP sV IK CQ uH=> ?_;walk_nrm;have k5:gf (λg=>Â g=v.ownBlock) l₄ (mZ l₄ se Mt):=L9 zu CP IK λf e=>⟨xu f e,e.symm⟩;have vM:gf (λg=>Â g=v.ownBlock) ky (mZ l₄ se Mt):=(r.fN λ_ _ q=>q.elim).fe k5;have R3:CK.ownBlock=v.ownBlock\/∃f,CK.ownBlock=Â f/\ky.w.heap.size<=f:=uH.imp id λq=>⟨_,q,Ø r.I CP.r⟩;have xv:(mZ l₄ se Mt).w.ownsRow 0 155 4 CK (n+1) (xs++[À<|Â ⟨k,0,Á⟩,É Î i,À<|Â ⟨b,0,Á⟩,À<|Â ⟨s,0,Á⟩]):=sV;generalize mZ l₄ se Mt=tu at vM xv CQ|-;clear r k5 IK sV uH p4 zu CO xu CN CP CM;have sf:=vM.N Q;have hw:Î.wrap ((i:Int)+1)=((i+1:Nat):Int):=by rw[CB Z Z];omega
 have g5:=g3.r vM<|Zn lJ IQ;have CR:gf (λg=>Â g=v.ownBlock\/g=m) l tu:=(P.fN λ_ _ q=>Ç q).fe (vM.fN λ_ _ q=>Ã q);apply fO (n:=40) sf.r;repeat w_go ft
 refine Ë λ_ _=> ?_;refine hJ tu _ CK s CR xv CQ (R3.imp id λ⟨f,q1,q2⟩=>⟨f,q1,Z⟩) IQ g5 ⟨U,U,U,U,U,U,?_⟩;simp[hw]
end
def gY(kd:Nat->Int)(i:Nat):List Nat:=(ä i).filter λj=>decide<|kd j=1
def jB(kd:Nat->Int)(i:Nat):List Nat:=(ä i).filter λj=>decide<|kd j≠1
def fJ(kd:Nat->Int)(i:Nat):Nat:=(gY kd i).length
def tI(a g:Nat->Nat)(p:Nat×Nat):List Ð:=[À<|Â ⟨a p.1,0,Á⟩,É Î p.1,À<|Â ⟨g p.2,0,Á⟩,À<|Â ⟨g<|p.2+1,0,Á⟩]
def tQ(kd:Nat->Int)(a g:Nat->Nat)(p:Nat):List Ð:=[À<|Â ⟨a p,0,Á⟩,É Î p,À<|Â ⟨g<|fJ kd p,0,Á⟩,À Á]
def jO(kd:Nat->Int)(rq g:Nat->Nat)(i:Nat):List Ð:=(gY kd i).zipIdx.flatMap<|tI rq g
def mJ(kd:Nat->Int)(a g:Nat->Nat)(i:Nat):List Ð:=(jB kd i).flatMap<|tQ kd a g
section
variable{kd:Nat->Int}{rq g:Nat->Nat}
def tx(h:kd i=1):gY kd (i+1)=gY kd i++[i]:=by simp[gY,Ą,Ć,h]
def vN(h:kd i≠1):gY kd (i+1)=gY kd i:=by simp[gY,Ą,Ć,h]
def R4(h:kd i=1):jB kd (i+1)=jB kd i:=by simp[jB,Ą,Ć,h]
theorem R5(h:kd i≠1):jB kd (i+1)=jB kd i++[i]:=by simp[jB,Ą,Ć,h]
def R6:∀i,fJ kd i<=i:=λi=>by unfold fJ gY;exact Ø (ī _ _) fi
def ajF:∀i,(jB kd i).length<=i:=λi=>by unfold jB;exact Ø (ī _ _) fi
def ZE(h:j<=i):fJ kd j<=fJ kd i:=by
 induction i with
 |zero=>
  have:j=0:=Z
  rw[this];exact Û _
 |succ i c=>
  by_cases e:j=i+1
  .rw[e];exact Û _
  .have a:=c Z;by_cases b:kd i=1
   .unfold fJ at a|-;rw[tx b];simp;omega
   .unfold fJ at a|-;rwa[vN b]
def ajG(h:kd i=1):jO kd rq g (i+1)=jO kd rq g i++tI rq g (i,fJ kd i):=by unfold jO;rw[tx h,List.zipIdx_append,List.flatMap_append];simp[fJ]
def ajH(h:kd i≠1):jO kd rq g (i+1)=jO kd rq g i:=by unfold jO;rw[vN h]
def ajI(h:kd i=1):mJ kd rq g (i+1)=mJ kd rq g i:=by unfold mJ;rw[R4 h]
theorem ajJ(h:kd i≠1):mJ kd rq g (i+1)=mJ kd rq g i++tQ kd rq g i:=by unfold mJ;grind [R5]
def R7{α:Type}{f a:α->List Ð}:∀(l:List α),(∀x∈l,f x=a x)->l.flatMap f=l.flatMap a
 |[],_=>rfl
 |x::l,h=>by rw[ċ,ċ,h x List.mem_cons_self,R7 l λy b=>h y<|List.mem_cons_of_mem _ b]
def ajK(h:∀k,k<=fJ kd i->D k=g k):jO kd rq D i=jO kd rq g i:=by
 unfold jO;refine R7 _ λx a=> ?_;let⟨p,k⟩:=x;have b:=(List.mem_zipIdx a).2.1;have c:k<fJ kd i:=by unfold fJ;omega
 simp[tI,h k Z,h (k+1) Z]
def ajL(h:∀k,k<=fJ kd i->D k=g k):mJ kd rq D i=mJ kd rq g i:=by
 unfold mJ;refine R7 _ λp a=> ?_;have b:p<i:=by have:=(ą.1 a).1;simpa using this
 simp[tQ,h (fJ kd p)<|ZE Z]
def R8{α:Type}{f:α->List Ð}(a:∀x,(f x).length=4)(b:i<4):∀(l:List α) (k:Nat) (x:α),l[k]?=Â x->(l.flatMap f)[k*4+i]?=(f x)[i]?
 |[],k,x,h=>by simp at h
 |y::l,0,x,h=>by
  obtain rfl:y=x:=by simpa using h
  rw[ċ,List.getElem?_append_left (by rw[a];omega)];simp
 |y::l,k+1,x,h=>by rw[ċ,List.getElem?_append_right (by rw[a];omega),a,show(k+1)*4+i-4=k*4+i by omega];exact R8 a b l k x<|by simpa using h
end
section
variable{Y:Nat->Prop}{l m o:e9}
def gf.vO(h:gf X l m)(k:gf Y m o)(e:∀j,l.M j->¬Y j):gf X l o:= ⟨λj q=>k.O j<|h.O j q,λj q=>(k.c j q).elim (h.c j) λz=>Ç<|Ø h.I z,k.S.trans h.S,k.Y.trans h.Y,k.b.trans h.b,k.K.trans h.K,k.q.trans h.q,k.d.trans h.d,k.fv,Ø h.I k.I,λj c f=>(k.r j (h.M c)<|e j c).trans<|h.r j c f,λa b=>(k.f a<|by rwa[h.C]).trans<|h.f a b,λa b=>(k.g a<|by rwa[h.C]).trans<|h.g a b,λa b z=>k.e a (by rwa[h.K])<|h.e a b z⟩
end
abbrev R9:Ε:=Ê #[É ë 4294967296,É ú 0,Æ Á 0 0] 105
structure zv(kd:Nat->Int)(rq g:Nat->Nat)(S i:Nat)(iv qv:Ð)(l0 l:e9):Prop where
 r:gf (λ_=>False) l0 l
 jO:l.w.ownsRow 0 155 4 iv (fJ kd i) (jO kd rq g i)
 mJ:l.w.ownsRow 0 155 4 qv (jB kd i).length (mJ kd rq g i)
 C:∀k,iv.ownBlock=Â k->l.O k/\l0.w.heap.size<=k
 I:∀k,qv.ownBlock=Â k->l.O k/\l0.w.heap.size<=k
 M:∀k,iv.ownBlock=Â k->qv.ownBlock≠Â k
 N:∀k,1<=k->k<=fJ kd i->hD l (g k) R9/\l0.w.heap.size<=g k/\iv.ownBlock≠Â (g k)/\qv.ownBlock≠Â (g k)
 g0:g 0<l0.w.heap.size
 S:g 0=S
 Y:∀k k',k<k'->k'<=fJ kd i->g k<g k'
section
variable{kd:Nat->Int}{rq g:Nat->Nat}{iv qv:Ð}{l0 l m o:e9}
theorem zv.ajM(h:zv kd rq g n i iv qv l0 l)(C:gu l0)(s:gu l)(t:kd i≠1)(a:gf (λ_=>False) l m)(d:gf (λb=>Â b=qv.ownBlock) m o)(G:o.w.ownsRow 0 155 4 v ((jB kd i).length+1) (fq.mJ kd rq g i++tQ kd rq g i))(D:∀k,v.ownBlock=Â k->o.O k)(u:v.ownBlock=qv.ownBlock\/∃k,v.ownBlock=Â k/\m.w.heap.size<=k):zv kd rq g n (i+1) iv v l0 o:=by
 have p:fJ kd (i+1)=fJ kd i:=by unfold fJ;rw[vN t]
 have x:∀{j},l.O j->qv.ownBlock≠Â j->v.ownBlock≠Â j:=λ{j} c hn e=>by
  rcases u with z|⟨k,q,B⟩
  .grind
  .rw[q]at e;have:=Ô e;have:=(λc=>È (s.fv _<|Ã c) a.I) c;omega
 refine⟨(h.r.fe a).vO d λj c e=> ?_,?_,?_,λk e=>⟨d.O k<|a.O k (h.C k e).1,(h.C k e).2⟩,λk e=>⟨D k e,?_⟩,λk e=>x (h.C k e).1<|h.M k e,λk r f=> ?_,h.g0,h.S,λk y r f=>h.Y k y r<|by rwa[<-p]⟩
 .have:=(h.I j e.symm).2;have:=C.fv j c;omega
 .rw[p,ajH t];refine n9 h.jO λk e=>(d.r k (Ã<|a.O k (h.C k e).1) λz=>h.M k e z.symm).trans<|a.r k (Ã (h.C k e).1) id
 .grind [R5,ajJ]
 .rcases u with z|⟨y,q,B⟩
  .rw[z]at e;exact(h.I k e).2
  .rw[q]at e;have:=Ô e;have:=h.r.I;have:=a.I;omega
 .rw[p]at f;let⟨q,E,F,B⟩:=h.N k r f;exact⟨(q.r a id).r d λz=>B z.symm,E,F,x q.fj B⟩
theorem zv.kN{tb:Nat}(h:zv kd rq g n i iv qv l0 l)(F:gu l0)(s:gu l)(a:kd i=1)(c:gf (λ_=>False) l m)(P:l.w.heap.size<=tb)(p:gf (λb=>Â b=iv.ownBlock\/b=tb) m o)(G:o.w.ownsRow 0 155 4 v (fJ kd i+1) (fq.jO kd rq g i++[À<|Â ⟨rq i,0,Á⟩,É Î i,À<|Â ⟨g<|fJ kd i,0,Á⟩,À<|Â ⟨J,0,Á⟩]))(H:∀k,v.ownBlock=Â k->o.O k)(u:v.ownBlock=iv.ownBlock\/∃k,v.ownBlock=Â k/\J<k)(Q:m.w.heap.size<=J)(I:hD o J R9):zv kd rq (λk=>if k<=fJ kd i then g k else J) n (i+1) v qv l0 o:=by
 have x:fJ kd (i+1)=fJ kd i+1:=by unfold fJ;rw[tx a];simp
 have S:=h.r.I;have T:=c.I;have d:∀{j},l.O j->j<l.w.heap.size:=λq=>s.fv _<|Ã q;have B:∀{j},l.O j->iv.ownBlock≠Â j->v.ownBlock≠Â j:=λ{j} q hn e=>by grind
 have C:∀k,k<=fJ kd i->(if k<=fJ kd i then g k else J)=g k:=λk a=>if_pos a;refine⟨(h.r.fe c).vO p λj q e=> ?_,?_,?_,λk e=>⟨H k e,?_⟩,λk e=>⟨p.O k<|c.O k (h.I k e).1,(h.I k e).2⟩,λk e z=>B (h.I k z).1 (λy=>h.M k y z) e,λk t D=> ?_,?_,?_,λk r t D=> ?_⟩
 .have:=F.fv j q;rcases e with e|e
  .have:=(h.C j e.symm).2;omega
  .omega
 .rw[x,ajG a,ajK C];simpa[tI,show¬(fJ kd i+1<=fJ kd i) by omega]using G
 .rw[R4 a,ajI a,ajL C];refine n9 h.mJ λk e=> ?_;refine(p.r k (Ã<|c.O k (h.I k e).1) ?_).trans<|c.r k (Ã (h.I k e).1) id;rintro(z|z)
  .exact h.M k z.symm e
  .have:=d (h.I k e).1;omega
 .rcases u with z|⟨r,K,L⟩
  .rw[z]at e;exact(h.C k e).2
  .grind
 .by_cases y:k<=fJ kd i
  .simp only[if_pos y];let⟨f,M,E,N⟩:=h.N k t y;refine⟨(f.r c id).r p ?_,M,B f.fj E,N⟩;rintro(z|z)
   .exact E z.symm
   .have:=d f.fj;omega
  .simp only[if_neg y];refine⟨I,Z,λe=> ?_,λe=> ?_⟩
   .rcases u with z|⟨r,K,L⟩
    .rw[z]at e;have:=d (h.C J e).1;omega
    .grind
   .have:=d (h.I J e).1;omega
 .simp only[Ĉ,if_true];exact h.g0
 .simp only[Ĉ,if_true];exact h.S
 .rw[x]at D;by_cases y:r<=fJ kd i
  .simp only[if_pos y,if_pos (show k<=fJ kd i by omega)];exact h.Y k r t y
  .simp only[if_neg y,if_pos (show k<=fJ kd i by omega)];by_cases E:k=0
   .subst E;have:=h.g0;omega
   .let⟨f,_⟩:=h.N k Z Z;have:=d f.fj;omega
end
section
variable{J:Jd}{ra:Option ã}{rb cr R:Nat}{cs:List é}{kd:Nat->Int}{rq:Nat->Nat}{l0:e9}
def Sb(j:gu l0)(u:¬l0.q)(v:l0.d=0)(m:R<1000)(p:0<R->ra=Â ⟨rb,0,Á⟩)(x:0<R->l0.M rb)(y:∀i,i<R->l0.w.cell? ⟨rb,i,Á⟩=Â (À<|Â ⟨rq i,0,Á⟩))(r:∀i,i<R->l0.M (rq i))(z:∀i,i<R->l0.w.cell? ⟨rq i,4,Á⟩=Â (É Î<|kd i)) (B:∀g N P a b,zv kd rq g n R a b l0 N->PT a b (Æ ra R cr) (g<|fJ kd R) R R P->fg Ä Ó J N (CY P cs)): ∀d i,R=i+d->∀g l t a b,zv kd rq g n i a b l0 l->PT a b (Æ ra R cr) (g<|fJ kd i) R i t->fg Ä Ó J l (CY t cs)
 |0,i,hi,g,l,t,a,b,hP,hT=>by obtain rfl:R=i:=hi;exact B g l t a b hP hT
 |d+1,i,hi,g,l,t,a,b,hP,hT=>by
  have f:i<R:=Z
  have o:=hP.r.N j;have Q:¬l.q:=by rwa[hP.r.q]
  have S:=x Z;refine ajB o Q (by rwa[<-p Z]) f m (hP.r.M S) ((gM<|hP.r.r rb S id).trans<|y i f) (hP.r.M<|r i f) ((gM<|hP.r.r _ (r i f) id).trans<|z i f) λl1 t1 T c tq V C W s=> ?_;rw[<-p Z]at C;have X:=c.N o;have Y:¬l1.q:=by rwa[c.q]
  have hc:=R6 (kd:=kd) i;have Mv:=ajF (kd:=kd) i;by_cases h:kd i=1
  .rw[decide_eq_false (by simpa using h)]at s;refine ajD X Y (by rwa[c.d,hP.r.d]) C f m W s Z V (n9 hP.jO λk e=>c.r k (Ã (hP.C k e).1) id) (λk e=>c.O k (hP.C k e).1) (λe=>by have:=o.fv T<|Ã (hP.C T e).1;omega) λD E iv' gt F G H I IQ hg K=> ?_;apply Sb j u v m p x y r z B d (i+1) Z _ D E iv' b (hP.kN j o h c tq F G H I IQ hg);have L:fJ kd (i+1)=fJ kd i+1:=by unfold fJ;rw[tx h];simp
   rw[L];simp only[show¬(fJ kd i+1<=fJ kd i) by omega,if_false];exact K
  .rw[decide_eq_true (by simpa using h)]at s;refine ajC X Y C f m W s Z V (n9 hP.mJ λk e=>c.r k (Ã (hP.I k e).1) id) (λk e=>c.O k (hP.I k e).1) λD E e F G H I K=> ?_;apply Sb j u v m p x y r z B d (i+1) Z _ D E a e (hP.ajM j o h c F G H I);have L:fJ kd (i+1)=fJ kd i:=by unfold fJ;rw[vN h]
   rwa[L]
end
noncomputable def ZF:Ġ:=kY Ģ []
noncomputable def ZG (a b:Ð) (c:List é):Ý:=G ((base 46).at ⟨#[a,b,Å,Å,Å,Å,Å,Å,Å,Å,Å,Å,Å,Å,Å,Å,Å,Å,Å,Å,Å,Å,Å,Å,Å,Å,Å,Å,Å,Å,Å,Å,Å,Å,Å,Å,Å,Å,Å,Å,Å,Å,Å,Å,Å,Å,Å,Å],[]⟩ [ö ZF]) c
def ajN{c:é}{d:ŝ}{k:List ź}{K:Ý->ß->Array Λ->Prop}{t u v:Tmp}(g:f.kind=Ĥ)(j:y.defers=[])(l:P.funcs[f.fn]?=Â s)(e:s.results=#[.tmp t,.tmp u,.tmp v]) (h:K (G (c.at (d.put ((Q[i]?).bind (·.dst))<|ñ #[y.tmps.getD t Å,y.tmps.getD u Å,y.tmps.getD v Å])<|Ï Q jJ::k) qX) w #[]): (stepG P yQ (G {f.at y L with mode:=.returning}<|c.at d (Ï Q (i::jJ)::k)::qX) w).goes K:=by rwa[stepG_leave g j l (v:=ñ #[y.tmps.getD t Å,y.tmps.getD u Å,y.tmps.getD v Å]) (by simp[results,e,go_sem]) (by simp[results,e,go_sem]),Ī]
structure IT(kd:Nat->Int)(rq g:Nat->Nat)(R:Nat)(iv qv sv:Ð)(l l':e9):Prop where
 Y:gf (λ_=>False) l l'
 jO:l'.w.ownsRow 0 155 4 iv (fJ kd R) (jO kd rq g R)
 mJ:l'.w.ownsRow 0 155 4 qv (jB kd R).length (mJ kd rq g R)
 r:∀k,iv.ownBlock=Â k->l'.O k/\l.w.heap.size<=k
 C:∀k,qv.ownBlock=Â k->l'.O k/\l.w.heap.size<=k
 dis:∀k,iv.ownBlock=Â k->qv.ownBlock≠Â k
 N:hD l' (g 0) (Ê #[É ë 0,É ú 0,sv] 105)
 I:∀k,1<=k->k<=fJ kd R->hD l' (g k) R9
 M:∀k,k<=fJ kd R->l.w.heap.size<=g k/\iv.ownBlock≠Â (g k)/\qv.ownBlock≠Â (g k)
 S:∀k k',k<k'->k'<=fJ kd R->g k<g k'
def ajO(w:ß)(a:Option ã)(b c:Nat):(đ 105 #[(1,Æ a b c)]).run Ä w=.ok (ę #[É ë 0,É ú 0,Æ a b c]) w:=run_build w 105 _ _ fM
def ajP(w:ß)(a:Option ã)(b c:Nat):(đ 105 #[(1,Æ a b c)]).events Ä w #[]=#[]:=by unfold đ;simp only[Sem.events_bind];simp[go_sem]
section
variable{J:Jd}{l:e9}{ra:Option ã}{rb cr R:Nat}{sa:Option ã}{sn sc:Nat}{k:List ź}{kd:Nat->Int}{rq:Nat->Nat}
def ajQ(j:gu l)(u:¬l.q)(I:l.d=0)(K:R<1000)(L:0<R->ra=Â ⟨rb,0,Á⟩)(z:0<R->l.M rb)(N:∀i,i<R->l.w.cell? ⟨rb,i,Á⟩=Â (À<|Â ⟨rq i,0,Á⟩))(B:∀i,i<R->l.M (rq i))(O:∀i,i<R->l.w.cell? ⟨rq i,4,Á⟩=Â (É Î<|kd i)) (P:∀g s b c,IT kd rq g R b c (Æ sa sn sc) l s->fg Ä Ó J s (G (f.at (y.put ((Q[i]?).bind (·.dst))<|ñ #[b,c,À<|Â ⟨g<|fJ kd R,0,Á⟩])<|Ï Q jJ::k) qX)): fg Ä Ó J l (ZG (Æ ra R cr) (Æ sa sn sc)<|f.at y (Ï Q (i::jJ)::k)::qX):=by
 have hF:=trivial;apply fO (n:=40) j.r;simp only[ZG];conv in ZF=>whnf
 repeat w_go ft
 refine Ë λ_ _=> ?_;refine nH (v:=ę #[É ë 0,É ú 0,Æ sa sn sc]) U U (by k_ne) j.r u (λa r=> ?_) (λa r e p=> ?_) ?_
 .have h:=ajO a sa sn sc;go_simp
 .have h:=ajP a sa sn sc;simp[go_sem,h]at p
 walk_nrm;refine pJ (V:=λp=>À<|Â ⟨p,0,Á⟩) (ob:=Ê #[É ë 0,É ú 0,Æ sa sn sc] 105) U U (by k_ne) j.r u (λw=>by go_simp) (λw=>by simp[go_sem]) λa C=> ?_;walk_nrm;have p:gf (λ_=>False) l (gG l a<|Ê #[É ë 0,É ú 0,Æ sa sn sc] 105):=mY j C;have t:hD (gG l a<|Ê #[É ë 0,É ú 0,Æ sa sn sc] 105) a.heap.size (Ê #[É ë 0,É ú 0,Æ sa sn sc] 105):=⟨Ç U,mX⟩;have D:=C.r;generalize gG l a (Ê #[É ë 0,É ú 0,Æ sa sn sc] 105)=l₁ at p t|-;generalize a.heap.size=gt at t D|-;have m:=p.N j;have S:¬l₁.q:=by rwa[p.q]
 apply fO (n:=40) m.r;repeat w_bar ft
 w_go ft
 refine Ë λ_ _=> ?_;have T:=m.fv gt<|Ã t.fj;refine Sb m S (by rwa[p.d]) K L (λh=>p.M<|z h) (λi h=>(gM<|p.r rb (z Z) id).trans<|N i h) (λi h=>p.M<|B i h) (λi h=>(gM<|p.r _ (B i h) id).trans<|O i h) (λg s W b c h r=> ?_) R 0 Z (λ_=>gt) l₁ _ (Æ Á 0 0) (Æ Á 0 0) ⟨gf.fU m.r,⟨U,Ã ⟨U,U⟩⟩,⟨U,Ã ⟨U,U⟩⟩,λk e=>(by cases e),λk e=>(by cases e),λk e=>(by cases e),λk x o=> ?_,T,rfl,λk X x o=> ?_⟩ ⟨rfl,rfl,rfl,rfl,rfl,rfl,rfl⟩
 .have Y:=h.r.N m;obtain⟨y0,y1,y2,y3,E,F,y6,y7,y8,y9,xn,zo,xo,rW,s9,rh,vE,vF,uA,uB,uC,td,tf,tg,uD,vG,xp,tj,ri,uE,qt,qu,qe,pD,pE,oW,oX,qf,qg,qh,qi,qj,qk,qm,qn,qo,n5,n7,rfl⟩:=Mr W r.r;obtain rfl:b=E:=(show E=b by simpa using r.N).symm;obtain rfl:c=F:=(show F=c by simpa using r.S).symm;obtain rfl:y6=À (Â ⟨g<|fJ kd R,0,Á⟩):=by simpa using r.Y
  obtain rfl:rW=Æ ra R cr:=by simpa using r.C
  obtain rfl:s9=É Î R:=by simpa using r.I
  obtain rfl:rh=É Î R:=by simpa using r.M
  have gI:¬((R:Int)<(R:Int)):=Z
  apply fO (n:=40) Y.r;simp only[CY];conv in IN=>whnf
  conv in RZ=>whnf
  repeat w_go ft
  u_in ft hF
  refine ajN U U Α U ⟨by u_nil,?_⟩;walk_nrm;refine Ë λ_ _=> ?_;have H:=h.S;refine P g s b c ⟨p.fe h.r,h.jO,h.mJ,λk e=>⟨(h.C k e).1,Ø p.I (h.C k e).2⟩,λk e=>⟨(h.I k e).1,Ø p.I (h.I k e).2⟩,h.M,H▸t.r h.r id,λk x o=>(h.N k x o).1,λk hk=> ?_,h.Y⟩;by_cases h0:k=0
  .subst h0;rw[H];exact⟨D,λe=>by have:=(h.C _ e).2;omega,λe=>by have:=(h.I _ e).2;omega⟩
  .let⟨_,a2,a3,a4⟩:=h.N k Z hk;exact⟨Ø p.I a2,a3,a4⟩
 .have:k<=0:=o;omega
 .have:X<=0:=o;omega
end
noncomputable def ZH:Ġ:=kY Tryz.f37 []
noncomputable def Fy (a b:Ð) (n:Nat) (c:List é):Ý:=G ((base 37).at ⟨#[a,b,É Î n,Å,Å,Å,Å,Å,Å,Å,Å,Å,Å,Å,Å,Å,Å,Å,Å,Å,Å,Å,Å,Å,Å,Å,Å,Å,Å,Å,Å,Å,Å,Å,Å,Å,Å,Å,Å,Å,Å,Å,Å,Å,Å,Å,Å,Å,Å],[]⟩ [ö ZH]) c
def IT.vO{kd:Nat->Int}{rq:Nat->Nat}{R:Nat}{l a b:e9}(h:IT kd rq D R v x z l a)(k:gf (λ_=>False) a b):IT kd rq D R v x z l b:= ⟨h.Y.fe k,n9 h.jO λj e=>k.r j (Ã (h.r j e).1) id,n9 h.mJ λj e=>k.r j (Ã (h.C j e).1) id,λj e=>⟨k.O j (h.r j e).1,(h.r j e).2⟩,λj e=>⟨k.O j (h.C j e).1,(h.C j e).2⟩,h.dis,h.N.r k id,λj c d=>(h.I j c d).r k id,h.M,h.S⟩
abbrev xx(R:Nat):Ε:=Ê (madeCells (Β<|á ⟨#[]⟩) R) 9
structure Mw(kd:Nat->Int)(rq g:Nat->Nat)(R:Nat)(iv qv sv:Ð)(an ba bi all bw bf:Nat)(l lp l':e9):Prop where
 C:gf (λ_=>False) l l'
 r:IT kd rq g R iv qv sv lp l'
 I:hD l' an (xx R)
 a:hD l' ba (Ê #[Æ (Â ⟨an,0,Á⟩) R R] 25)
 c:hD l' bi (Ê #[iv] 85)
 Y:hD l' all (Ê #[É ë 4294967296,É ú 0] 97)
 d:hD l' bw (Ê #[À<|Â ⟨all,0,Á⟩] 162)
 b:hD l' bf (Ê #[Ď (ý 48) #[] #[À<|Â ⟨bi,0,Á⟩,À<|Â ⟨ba,0,Á⟩]] 1)
 M:l.w.heap.size<=an/\an<ba/\ba<lp.w.heap.size
 N:∀k,k<=fJ kd R->g k<bi
 o3:∀k,iv.ownBlock=Â k->k<bi
 o4:∀k,qv.ownBlock=Â k->k<bi
 S:bi<all/\all<bw/\bw<bf
section
variable{J:Jd}{l:e9}{ra:Option ã}{rb cr R:Nat}{sa:Option ã}{sn sc:Nat}{kd:Nat->Int}{rq:Nat->Nat}
def ajR(C:gu l)(G:¬l.q)(hd:l.d=0)(hR:R<1000)(IU:0<R->ra=Â ⟨rb,0,Á⟩)(CZ:0<R->l.M rb)(IV:∀i,i<R->l.w.cell? ⟨rb,i,Á⟩=Â (À<|Â ⟨rq i,0,Á⟩))(Ls:∀i,i<R->l.M (rq i))(IW:∀i,i<R->l.w.cell? ⟨rq i,4,Á⟩=Â (É Î<|kd i)) (hJ:∀g lp l' t iv qv H y z D W bf v1,Mw kd rq g R iv qv (Æ sa sn sc) H y z D W bf l lp l'->IG y D (g<|fJ kd R) n qv t->J l' (CJ (À<|Â ⟨D,0,Á⟩) v1 (À<|Â ⟨D,0,Á⟩) (ñ #[]) W bf<|Fu t::qX)): fg Ä Ó J l (Fy (Æ sa sn sc) (Æ ra R cr) n qX):=by
 have hF:True:=trivial;have ZI:Ä.info? 9=Â Ĩ:=Tryz.type9;have QY:∀w:ß,(Ŝ 25 (É Î (R:Int))<|É Î (R:Int)).run Ä w=.ok (Æ (Â ⟨w.heap.size,0,Á⟩) R R) (w.alloc<|xx R):=λw=>by have:=run_makeSlice (P:=Ä) w 25 9 Ĩ (á ⟨#[]⟩) ň ZI U Î Î (R:Int) (R:Int) Z Z (by simp[Ĩ];omega) (by simp[Ĩ];omega) Z;simpa[Ĩ]using this
 have hme:∀w:ß,(Ŝ 25 (É Î (R:Int))<|É Î (R:Int)).events Ä w #[]=#[]:=λw=>
  events_make (P:=Ä) w 25 9 Ĩ (á ⟨#[]⟩) ň ZI U Î Î (R:Int) (R:Int) Z Z (by simp[Ĩ];omega) Z (by simp[Ĩ];omega) _
 apply fO (n:=40) C.r;simp only[Fy];conv in ZH=>whnf
 repeat w_go ft
 refine Ë λ_ _=> ?_;refine pJ (V:=λp=>Æ (Â ⟨p,0,Á⟩) R R) (ob:=xx R) U U (by k_ne) C.r G (λw=>by have k:=QY w;go_simp) (λw=>by have k:=hme w;simp[go_sem,k]) λc m=> ?_;walk_nrm;have a:=mY (X:=λ_=>False) (ob:=xx R) C m;have r:hD (gG l c<|xx R) c.heap.size (xx R):=⟨Ç U,mX⟩;have han:l.w.heap.size<=c.heap.size:=m.r;generalize gG l c (xx R)=l1 at a r|-;generalize c.heap.size=H at r han|-;clear m c;have Sc:gf (λ_=>False) l l1:=a;have Sd:=Sc.N C;have ajS:¬l1.q:=by rwa[Sc.q]
 have auQ:l.w.heap.size<=l1.w.heap.size:=a.I;clear a;have lan:=Sd.fv H<|Ã r.fj;refine pJ (V:=λp=>À<|Â ⟨p,0,Á⟩) (ob:=Ê #[Æ Á 0 0] 25) U U (by k_ne) Sd.r ajS (λw=>by go_simp) (λw=>by simp[go_sem]) λc m=> ?_;walk_nrm;have a:=mY (X:=λ_=>False) (ob:=Ê #[Æ Á 0 0] 25) Sd m;have f:hD (gG l1 c<|Ê #[Æ Á 0 0] 25) c.heap.size (Ê #[Æ Á 0 0] 25):=⟨Ç U,mX⟩;have ZJ:l1.w.heap.size<=c.heap.size:=m.r;generalize gG l1 c (Ê #[Æ Á 0 0] 25)=l2 at a f|-;generalize c.heap.size=y at f ZJ|-;clear m c;have Se:gf (λ_=>False) l l2:=Sc.fe a;replace r:=r.r a id;have Sf:=Se.N C;have ajT:¬l2.q:=by rwa[Se.q]
 have auR:l1.w.heap.size<=l2.w.heap.size:=a.I;clear a;have lba:=Sf.fv y<|Ã f.fj;refine It (p:=y) (off:=0) (v:=Æ (Â ⟨H,0,Á⟩) R R) (u:=Æ Á 0 0) U U (by k_ne) Sf.r ajT f.fj (f.C U) (by simp[ð,f.I]) U (λw o F=>by go_simp) (λw o F=>by simp[go_sem,â _ _ _ _ _ _ (show Ú (Æ (Â ⟨H,0,Á⟩) R R)=Ó from rfl),o,F]) ?_;have a:=L8 (X:=λb=>b=y) (p:=y) (w':=l2.w.setCell ⟨y,0,Á⟩<|Æ (Â ⟨H,0,Á⟩) R R) Sf (fF.fU _ _) f.fj U j1 λj E=>lu E;replace f:hD ({l2 with w:=l2.w.setCell ⟨y,0,Á⟩ (Æ (Â ⟨H,0,Á⟩) R R)}:e9) y (Ê #[Æ (Â ⟨H,0,Á⟩) R R] 25):=⟨f.fj,by show(l2.w.setCell ⟨y,0,Á⟩<|Æ (Â ⟨H,0,Á⟩) R R).heap[y]?=_;unfold ă;simp[î,f.I]⟩;generalize({l2 with w:=l2.w.setCell ⟨y,0,Á⟩ (Æ (Â ⟨H,0,Á⟩) R R)}:e9)=l3 at a f|-;have S:gf (λ_=>False) l l3:=Se.vO a λj E e=>by have:=C.fv j E;omega
 replace r:=r.r a Z;have ZK:=S.N C;have ajU:¬l3.q:=by rwa[S.q]
 have auS:l2.w.heap.size<=l3.w.heap.size:=a.I;clear a;apply fO (n:=20) ZK.r;iterate 5 w_go ft
 u_call Α fM Ģ ft hF
 refine Ë λ_ _=> ?_;refine ajQ (l:=l3) (kd:=kd) (rq:=rq) (ra:=ra) (rb:=rb) (cr:=cr) (R:=R) (sa:=sa) (sn:=sn) (sc:=sc) ZK ajU (by rwa[S.d]) hR IU (λh=>S.M<|CZ h) (λi k=>(gM<|S.r rb (CZ Z) id).trans<|IV i k) (λi k=>S.M<|Ls i k) (λi k=>(gM<|S.r _ (Ls i k) id).trans<|IW i k) λg B iv qv T=> ?_;walk_nrm;have a:=T.Y;have Sg:gf (λ_=>False) l B:=S.fe a;replace r:=r.r a id;replace f:=f.r a id;have L:=Sg.N C;have ajV:¬B.q:=by rwa[Sg.q]
 have auT:l3.w.heap.size<=B.w.heap.size:=a.I;clear a;have ajW:gf (λ_=>False) B B:=gf.fU L.r;obtain⟨I,K,rfl⟩:∃I K,iv=Æ I (fJ kd R) K:=by
  rcases T.jO.2 with⟨k,s⟩|⟨b,N,Q,k,_⟩
  .exact⟨Á,0,by rwa[s]⟩
  .exact⟨_,_,k⟩
 have og:∀k,k<=fJ kd R->g k<B.w.heap.size:=λk hk=>by
  by_cases s:k=0
  .subst s;exact L.fv _<|Ã T.N.fj
  .exact L.fv _<|Ã (T.I k Z hk).fj
 have oi:∀k,(Æ I (fJ kd R) K).ownBlock=Â k->k<B.w.heap.size:=λk e=>L.fv _<|Ã (T.r k e).1;have oq:∀k,qv.ownBlock=Â k->k<B.w.heap.size:=λk e=>L.fv _<|Ã (T.C k e).1;apply fO (n:=20) L.r;iterate 4 w_go ft
 refine Ë λ_ _=> ?_;refine pJ (V:=λp=>À<|Â ⟨p,0,Á⟩) (ob:=Ê #[Æ Á 0 0] 85) U U (by k_ne) L.r ajV (λw=>by go_simp) (λw=>by simp[go_sem]) λc m=> ?_;walk_nrm;have a:=mY (X:=λ_=>False) (ob:=Ê #[Æ Á 0 0] 85) L m;have s:hD (gG B c<|Ê #[Æ Á 0 0] 85) c.heap.size (Ê #[Æ Á 0 0] 85):=⟨Ç U,mX⟩;have Si:B.w.heap.size<=c.heap.size:=m.r;generalize gG B c (Ê #[Æ Á 0 0] 85)=l5 at a s|-;generalize c.heap.size=z at s Si|-;clear m c;have Sj:gf (λ_=>False) l l5:=Sg.fe a;have ajX:gf (λ_=>False) B l5:=ajW.fe a;replace r:=r.r a id;replace f:=f.r a id;have Sk:=Sj.N C;have ajY:¬l5.q:=by rwa[Sj.q]
 have auU:B.w.heap.size<=l5.w.heap.size:=a.I;clear a;have lbi:=Sk.fv z<|Ã s.fj;refine It (p:=z) (off:=0) (v:=Æ I (fJ kd R) K) (u:=Æ Á 0 0) U U (by k_ne) Sk.r ajY s.fj (s.C U) (by simp[ð,s.I]) U (λw o F=>by go_simp) (λw o F=>by simp[go_sem,â _ _ _ _ _ _ (show Ú (Æ I (fJ kd R) K)=Ó from rfl),o,F]) ?_;have a:=L8 (X:=λb=>b=z) (p:=z) (w':=l5.w.setCell ⟨z,0,Á⟩<|Æ I (fJ kd R) K) Sk (fF.fU _ _) s.fj U j1 λj E=>lu E;replace s:hD ({l5 with w:=l5.w.setCell ⟨z,0,Á⟩ (Æ I (fJ kd R) K)}:e9) z (Ê #[Æ I (fJ kd R) K] 85):=⟨s.fj,by show(l5.w.setCell ⟨z,0,Á⟩<|Æ I (fJ kd R) K).heap[z]?=_;unfold ă;simp[î,s.I]⟩;generalize({l5 with w:=l5.w.setCell ⟨z,0,Á⟩ (Æ I (fJ kd R) K)}:e9)=l6 at a s|-;have Sl:gf (λ_=>False) l l6:=Sj.vO a λj E e=>by have:=C.fv j E;omega
 have ajZ:gf (λ_=>False) B l6:=ajX.vO a λj E e=>by have:=L.fv j E;omega
 replace r:=r.r a Z;replace f:=f.r a Z;have Sm:=Sl.N C;have aj0:¬l6.q:=by rwa[Sl.q]
 have auV:l5.w.heap.size<=l6.w.heap.size:=a.I;clear a;apply fO (n:=20) Sm.r;iterate 5 w_go ft
 refine Ë λ_ _=> ?_;refine pJ (V:=λp=>À<|Â ⟨p,0,Á⟩) (ob:=Ê #[É ë 0,É ú 0] 97) U U (by k_ne) Sm.r aj0 (λw=>by go_simp) (λw=>by simp[go_sem]) λc m=> ?_;walk_nrm;have a:=mY (X:=λ_=>False) (ob:=Ê #[É ë 0,É ú 0] 97) Sm m;have F:hD (gG l6 c<|Ê #[É ë 0,É ú 0] 97) c.heap.size (Ê #[É ë 0,É ú 0] 97):=⟨Ç U,mX⟩;have nI:l6.w.heap.size<=c.heap.size:=m.r;generalize gG l6 c (Ê #[É ë 0,É ú 0] 97)=l7 at a F|-;generalize c.heap.size=D at F nI|-;clear m c;have Sn:gf (λ_=>False) l l7:=Sl.fe a;have aj1:gf (λ_=>False) B l7:=ajZ.fe a;replace r:=r.r a id;replace f:=f.r a id;replace s:=s.r a id;have Mx:=Sn.N C;have aj2:¬l7.q:=by rwa[Sn.q]
 have auW:l6.w.heap.size<=l7.w.heap.size:=a.I;clear a;have auX:=Mx.fv D<|Ã F.fj;apply fO (n:=20) Mx.r;iterate 4 w_go ft
 u_call Į fM ι ft hF
 iterate 2 w_go ft
 refine Ë λ_ _=> ?_;refine pJ (V:=λp=>À<|Â ⟨p,0,Á⟩) (ob:=Ê #[À<|Â ⟨D,0,Á⟩] 162) U U (by k_ne) Mx.r aj2 (λw=>by go_simp) (λw=>by simp[go_sem]) λc m=> ?_;walk_nrm;have a:=mY (X:=λ_=>False) (ob:=Ê #[À<|Â ⟨D,0,Á⟩] 162) Mx m;have N:hD (gG l7 c<|Ê #[À<|Â ⟨D,0,Á⟩] 162) c.heap.size (Ê #[À<|Â ⟨D,0,Á⟩] 162):=⟨Ç U,mX⟩;have CS:l7.w.heap.size<=c.heap.size:=m.r;generalize gG l7 c (Ê #[À<|Â ⟨D,0,Á⟩] 162)=l8 at a N|-;generalize c.heap.size=W at N CS|-;clear m c;have So:gf (λ_=>False) l l8:=Sn.fe a;have aj3:gf (λ_=>False) B l8:=aj1.fe a;replace r:=r.r a id;replace f:=f.r a id;replace s:=s.r a id;replace F:=F.r a id;have Sp:=So.N C;have aj4:¬l8.q:=by rwa[So.q]
 have auY:l7.w.heap.size<=l8.w.heap.size:=a.I;clear a;have lbw:=Sp.fv W<|Ã N.fj;refine pJ (V:=λp=>À<|Â ⟨p,0,Á⟩) (ob:=Ê #[Ď (ý 48) #[] #[À<|Â ⟨z,0,Á⟩,À<|Â ⟨y,0,Á⟩]] 1) U U (by k_ne) Sp.r aj4 (λw=>by go_simp) (λw=>by simp[go_sem]) λc m=> ?_;walk_nrm;have a:=mY (X:=λ_=>False) (ob:=Ê #[Ď (ý 48) #[] #[À<|Â ⟨z,0,Á⟩,À<|Â ⟨y,0,Á⟩]] 1) Sp m;have Y:hD (gG l8 c<|Ê #[Ď (ý 48) #[] #[À<|Â ⟨z,0,Á⟩,À<|Â ⟨y,0,Á⟩]] 1) c.heap.size (Ê #[Ď (ý 48) #[] #[À<|Â ⟨z,0,Á⟩,À<|Â ⟨y,0,Á⟩]] 1):=⟨Ç U,mX⟩;have Mn:l8.w.heap.size<=c.heap.size:=m.r;generalize gG l8 c (Ê #[Ď (ý 48) #[] #[À<|Â ⟨z,0,Á⟩,À<|Â ⟨y,0,Á⟩]] 1)=l9 at a Y|-;generalize c.heap.size=bf at Y Mn|-;clear m c;have My:gf (λ_=>False) l l9:=So.fe a;have aj5:gf (λ_=>False) B l9:=aj3.fe a;replace r:=r.r a id;replace f:=f.r a id;replace s:=s.r a id;replace F:=F.r a id;replace N:=N.r a id;have IX:=My.N C;have ZL:¬l9.q:=by rwa[My.q]
 have auZ:l8.w.heap.size<=l9.w.heap.size:=a.I;clear a;have lbf:=IX.fv bf<|Ã Y.fj;apply fO (n:=20) IX.r;iterate 3 w_go ft
 refine Ë λ_ _=> ?_;apply pG (x:=⟨W,0,Á⟩) U U (by k_ne) IX.r ZL (Ã<|Ã N.fj) (N.C U) (λw h=>by go_simp) (λw h=>by simp[go_sem,h]);walk_nrm;apply fO (n:=20) IX.r;u_call rf.f_add (Η Lk) addFn ft hF;refine Ë λ_ _=> ?_;refine Zx rf IX ZL (by rwa[My.d]) F.fj F.I U U λQ hC=> ?_;walk_nrm;have a:gf (λb=>b=D) l9 Q:=hC.r;replace F:hD Q D (Ê #[É ë 4294967296,É ú 0] 97):=⟨hC.r.O D F.fj,hC.C⟩;have Sq:gf (λ_=>False) l Q:=My.vO a λj E e=>by have:=C.fv j E;omega
 have aj6:gf (λ_=>False) B Q:=aj5.vO a λj E e=>by have:=L.fv j E;omega
 replace r:=r.r a Z;replace f:=f.r a Z;replace s:=s.r a Z;replace N:=N.r a Z;replace Y:=Y.r a Z;have aj7:=Sq.N C;have au0:¬Q.q:=by rwa[Sq.q]
 have au1:l9.w.heap.size<=Q.w.heap.size:=a.I;clear a;apply fO (n:=20) aj7.r;iterate 3 w_go ft
 refine Ë λ_ _=> ?_;refine .fy λCW xw=> ?_;have at9:∀{b:Nat} {o:Ε},hD Q b o->hD ({Q with w:=CW}:e9) b o:=λh=>⟨h.fj,(xw.I _<|Ã h.fj).trans h.I⟩;exact hJ g l3 {Q with w:=CW} _ (Æ I (fJ kd R) K) qv H y z D W bf _ ⟨Sq.G xw,T.vO<|aj6.G xw,at9 r,at9 f,at9 s,at9 F,at9 N,at9 Y,⟨Z,Z,Z⟩,λk hk=>by have:=og k hk;omega,λk e=>by have:=oi k e;omega,λk e=>by have:=oq k e;omega,⟨Z,Z,Z⟩⟩ ⟨U,U,U,U,U,U⟩
end
def aj8{md:Ă}{listed:Array Bool}(h:Ü md Q listed=[]):∀(a t:Nat),ì md Q a t listed []=[]:=by
 intro a t;cases a with
 |zero=>rfl
 |succ a=>
  simp only[ì];change(match(Ü md Q listed)[t%(Ü md Q listed).length]? with
   |some i=>ì md Q a (t/(Ü md Q listed).length) (listed.setIfInBounds i Ó) [i]
   |none=>[].reverse)=[]
  rw[h];rfl
section
variable{J:Jd}{l:e9}
def ZM{md:Ă}(I:Array Bool->ŝ->e9->Prop) (p:∀b a l i k,I b a l->b.size=Q.size->i∈Ü md Q b->(Ü md Q (b.setIfInBounds i Ó)=[]->k=[])->fg P yQ (λg m=>(∃h,m=G (f.at h<|Ï Q k::L) qX/\I (b.setIfInBounds i Ó) h g)\/fg P yQ J g m) l (G (f.at a<|Ï Q (i::k)::L) qX)) (o:∀b a l,I b a l->b.size=Q.size->Ü md Q b=[]->fg P yQ J l (G (f.at a<|Ï Q []::L) qX)): ∀(c t:Nat) (b:Array Bool) (a:ŝ) (l:e9),b.size=Q.size->ju b<=c->I b a l->fg P yQ J l (G (f.at a<|Ï Q (ì md Q c t b [])::L) qX):=by
 intro c
 induction c with
 |zero=>
  intro t b a l d q j;simpa[ì]using o b a l j d<|Rf d Z
 |succ c r=>
  intro t b a l d q j;simp only[ì];change fg P yQ J l (G (f.at a (Ï Q (match(Ü md Q b)[t%(Ü md Q b).length]? with
   |some i=>ì md Q c (t/(Ü md Q b).length) (b.setIfInBounds i Ó) [i]
   |none=>[].reverse)::L)) qX)
  cases n:(Ü md Q b)[t%(Ü md Q b).length]? with
  |none=>
   have s:Ü md Q b=[]:=by
    cases u:Ü md Q b with
    |nil=>rfl
    |cons x e=>
     rw[u]at n;have v:t%(x::e).length<(x::e).length:=Ŀ _ fi;simp at n;simp at v;omega
   simpa using o b a l j d s
  |some i=>
   simp only[];rw[linearise_go_acc,List.reverse_singleton,List.singleton_append];have x:=į n;refine(p b a l i _ j d x λe=>aj8 e _ _).lD ?_;rintro g m (⟨h,rfl,hI'⟩|hW)
   .exact r _ _ h g (by simpa using d) (by have:=LP (mem_ready.1 x).1;omega) hI'
   .exact hW
def aj9{id:Nat}(I:Array Bool->ŝ->e9->Prop)(o:jU l)(p:¬l.q) (g:∀c,fF l l.w c->I (Array.replicate Q.size Í) y {l with w:={c with drawn:=c.drawn+1}}) (h:∀d b y l i e,I b y l->b.size=Q.size->i∈Ü d Q b->(Ü d Q (b.setIfInBounds i Ó)=[]->e=[])->fg P yQ (λj k=>(∃m,k=G (f.at m<|Ï Q e::L) qX/\I (b.setIfInBounds i Ó) m j)\/fg P yQ J j k) l (G (f.at y<|Ï Q (i::e)::L) qX)) (n:∀d b y l,I b y l->b.size=Q.size->Ü d Q b=[]->fg P yQ J l (G (f.at y<|Ï Q []::L) qX)): fg P yQ J l (G (f.at y<|ö (à id Q Ó)::L) qX):=by
 refine .mk U λc r=>⟨_,_,_,_,stepG_region_draw,Re (lH o r) p,?_⟩;unfold Region.schedule;split
 .exact ZM I (h _) (n _) _ _ _ _ _ fi (by rw[E4];exact Û _)<|g c r
 .exact ZM I (h _) (n _) _ _ _ _ _ fi (by rw[E4];exact Û _)<|g c r
end
def C0:å:=⟨Â 15,ü<|Ò 1,100, "work.go:72",#[],Á⟩
def C4:å:=⟨Â 16,ü<|Ò 4,3, "work.go:72",#[],Á⟩
def C5:å:=⟨Â 17,ü<|Ò 1,100, "work.go:72",#[],Á⟩
def xy:å:=⟨Â 18,č {callee:=ť .len,args:=#[Ò 17],argTypes:=#[100]},3, "work.go:72",#[⟨2,Õ⟩],Á⟩
def uI:å:=⟨Â 19,Ń .rem 3 (Ò 16) (Ò 18) 3,3, "work.go:72",#[⟨1,Õ⟩,⟨3,Õ⟩],Á⟩
def uJ:å:=⟨Â 20,ş 100 (Ò 15)<|Ò 19,0, "work.go:72",#[⟨0,Õ⟩,⟨4,Õ⟩],Á⟩
def xA:å:=⟨Â 21,Č 101<|Ò 20,101, "work.go:72",#[⟨5,Õ⟩],Á⟩
def C6:å:=⟨Â 22,Č 155<|Ò 5,155, "work.go:72",#[],Á⟩
def xB:å:=⟨Á,.send (Ò 21)<|Ò 22,0, "work.go:72",#[⟨6,Õ⟩,⟨7,Õ⟩],Á⟩
def oc:Array å:=#[C0,C4,C5,xy,uI,uJ,xA,C6,xB]
noncomputable def Mz:Ġ:=kY ŧ [1,1,0,0]
noncomputable def ZN:Ġ:=kY ŧ [1]
noncomputable def MA:Ġ:=kY ŧ [0,1,0,0]
noncomputable def C7 (t:Array Ð) (a:List é):Ý:=G ((base 52).at ⟨t,[]⟩ [ö MA,Ā MA,ï 0,ö ZN]) a
structure DT(dv:Ð)(qb:Option ã)(q cq i:Nat)(t:Array Ð):Prop where
 r:t.size=32
 C:t[1]?=Â dv
 t8:t[8]?=Â (Æ qb q cq)
 M:t[9]?=Â (É Î q)
 I:t[10]?=Â (É Î i)
def IY(t:Array Ð)(h:t.size=32):∃a b c d e f g i j k l m n o p q r s u v w x y z B C D E F G H I:Ð,t=#[a,b,c,d,e,f,g,i,j,k,l,m,n,o,p,q,r,s,u,v,w,x,y,z,B,C,D,E,F,G,H,I]:=by obtain⟨_,rfl⟩:=xm t h;exact⟨_,_,_,_,_,_,_,_,_,_,_,_,_,_,_,_,_,_,_,_,_,_,_,_,_,_,_,_,_,_,_,_,U⟩
def uK(c n i a d:Nat)(b tk:Ð)(_:Unit):Nat->Ð
 |0=>b
 |1=>É Î i
 |2=>b
 |3=>É Î n
 |4=>É Î a
 |5=>À<|Â ⟨c,a,Á⟩
 |6=>è<|Â d
 |7=>tk
 |_=>Å
def MB(a:e9)(listed:Array Bool)(_:Unit)(l:e9):Prop:=iD (λ_=>False) a l/\¬listed.getD 8 Í=Ó
section
variable{J N:Jd}{p:e9}{g s:Nat}{u:Option ã}
def akb(Fz:gu p)(hq:¬p.q)(ht:d.size=32)(uy:d[1]?=Â (Æ (Â ⟨j9,0,Á⟩) n j))(Ip:d[4]?=Â (É Î i))(Rl:d[5]?=Â (À<|Â ⟨g,0,Á⟩))(z:p.O g)(T:p.O j9)(hn:0<n)(vP:n<1000)(hi1:i<1000) (ZO:i%n=j6) (V:p.w.cell? ⟨j9,j6,Á⟩=Â (è<|Â m)) (W:p.w.cell? ⟨g,0,Á⟩=Â (À u)) (X:p.w.cell? ⟨g,1,Á⟩=Â (É Î s)) (Y:p.w.cell? ⟨g,2,Á⟩=Â (À<|Â ⟨j7,0,Á⟩)) (c3:p.w.cell? ⟨g,3,Á⟩=Â (À O)) (hJ:∀l H,iD (λ_=>False) p l->H.size=32->(∀c,c<15->H[c]?=d[c]?)->AJ Ä Ó m (ę #[À u,É Î s,À<|Â ⟨j7,0,Á⟩,À O]) N l (G ((base 52).at ⟨H,[]⟩<|Ï oc [8]::L) qX)->J l (G ((base 52).at ⟨H,[]⟩<|Ï oc [8]::L) qX)) (hN:∀l H,iD (λ_=>False) p l->H.size=32->(∀c,c<15->H[c]?=d[c]?)->fg Ä Ó N l (G ((base 52).at ⟨H,[]⟩<|Ï oc []::L) qX)) (md:Ă) (listed:Array Bool) (a:ŝ) (l:e9) (i':Nat) (rest:List Nat) (hI:II oc d (uK j9 n i j6 m (Æ (Â ⟨j9,0,Á⟩) n j)<|ę #[À u,É Î s,À<|Â ⟨j7,0,Á⟩,À O]) (MB p) listed a l) (ji:listed.size=oc.size) (C:i'∈Ü md oc listed) (IZ:Ü md oc (listed.setIfInBounds i' Ó)=[]->rest=[]): fg Ä Ó (λD F=>(∃Q,F=G ((base 52).at Q<|Ï oc rest::L) qX/\II oc d (uK j9 n i j6 m (Æ (Â ⟨j9,0,Á⟩) n j)<|ę #[À u,É Î s,À<|Â ⟨j7,0,Á⟩,À O]) (MB p) (listed.setIfInBounds i' Ó) Q D)\/fg Ä Ó J D F) l (G ((base 52).at a<|Ï oc (i'::rest)::L) qX):=by
 let⟨x,t,S,h8⟩:=hI;have I:qZ oc d.size=Ó:=by rw[ht];decide
 have gI:=zh C;have K:=S.fv;have M:¬l.q:=by rwa[S.q]
 have oY:a.tmps[1]?=Â (Æ (Â ⟨j9,0,Á⟩) n j):=(t.C A).trans uy;have RY:a.tmps[4]?=Â (É Î i):=(t.C A).trans Ip;have rV:a.tmps[5]?=Â (À<|Â ⟨g,0,Á⟩):=(t.C A).trans Rl;have y:∀b f v,p.O b->p.w.cell? ⟨b,f,Á⟩=Â v->gX l ⟨b,f,Á⟩/\l.w.cell? ⟨b,f,Á⟩=Â v:=λb f v E h=>⟨Ã<|Ã<|S.O b E,by rwa[gM<|S.r b<|Ã E]⟩;have P:∀{k:Nat},k≠8->∀B,fF l l.w B->MB p (listed.setIfInBounds k Ó) () {l with w:=B}:=λhm B r=>⟨S.N (λ_ q=>q.elim) r,by rwa[ç Í hm]⟩;have akc:j6<n:=by rw[<-ZO];exact Ŀ _ hn
 have akd:(j6:Int)<(n:Int):=Z
 have I0:¬(n:Int)=0:=Z
 have ake:¬n=0:=Z
 have htm:Int.tmod (i:Int) (n:Int)=(j6:Int):=by rw[Int.tmod_eq_emod_of_nonneg Z,<-ZO];simp
 have oS:Î.wrap (j6:Int)=(j6:Int):=CB Z Z;have MC:oc.size=9:=A
 rw[MC]at gI;match i',gI with
 |0,_=>
  refine(ik (o:=C0) I t U U C (by k_ne) K M (λB r=> ?_) (λB r e D=> ?_)<|P A).fN λ_ _ h=>Ã h
  .simp only[uK,C0];go_simp
  .simp[go_sem,C0,oY]at D
 |1,_=>
  refine(ik (o:=C4) I t U U C (by k_ne) K M (λB r=> ?_) (λB r e D=> ?_)<|P A).fN λ_ _ h=>Ã h
  .simp only[uK,C4];go_simp
  .simp[go_sem,C4,RY]at D
 |2,_=>
  refine(ik (o:=C5) I t U U C (by k_ne) K M (λB r=> ?_) (λB r e D=> ?_)<|P A).fN λ_ _ h=>Ã h
  .simp only[uK,C5];go_simp
  .simp[go_sem,C5,oY]at D
 |3,_=>
  have F:a.tmps[17]?=Â (Æ (Â ⟨j9,0,Á⟩) n j):=t.r 2 C5 17 U (ic (o:=xy) C U U) U;refine(ik (o:=xy) I t U U C (by k_ne) K M (λB r=> ?_) (λB r e D=> ?_)<|P A).fN λ_ _ h=>Ã h
  .simp only[uK,xy];go_simp
  .simp[go_sem,xy,F]at D
 |4,_=>
  have F:a.tmps[16]?=Â (É Î i):=t.r 1 C4 16 U (ic (o:=uI) C U U) U;have Q:a.tmps[18]?=Â (É Î n):=t.r 3 xy 18 U (ic (o:=uI) C U U) U;refine(ik (o:=uI) I t U U C (by k_ne) K M (λB r=> ?_) (λB r e D=> ?_)<|P A).fN λ_ _ h=>Ã h
  .simp only[uK,uI];go_simp
  .simp[go_sem,uI,F,Q,I0,ake,htm,oS]at D
 |5,_=>
  have F:a.tmps[15]?=Â (Æ (Â ⟨j9,0,Á⟩) n j):=t.r 0 C0 15 U (ic (o:=uJ) C U U) U;have Q:a.tmps[19]?=Â (É Î j6):=t.r 4 uI 19 U (ic (o:=uJ) C U U) U;refine(ik (o:=uJ) I t U U C (by k_ne) K M (λB r=> ?_) (λB r e D=> ?_)<|P A).fN λ_ _ h=>Ã h
  .simp only[uK,uJ];go_simp
  .simp[go_sem,uJ,F,Q,akc,akd]at D
 |6,_=>
  have Q:a.tmps[20]?=Â (À<|Â ⟨j9,j6,Á⟩):=t.r 5 uJ 20 U (ic (o:=xA) C U U) U;refine(ik (o:=xA) I t U U C (by k_ne) K M (λB r=> ?_) (λB r e D=> ?_)<|P A).fN λ_ _ h=>Ã h
  .have F:=((y j9 _ _ T V).1.r r).trans (y j9 _ _ T V).2;simp only[uK,xA];go_simp
  .have F:=((y j9 _ _ T V).1.r r).trans (y j9 _ _ T V).2;have hee:e=⟨ÿ ⟨j9,j6,Á⟩,Í,Í⟩:=by simp[go_sem,xA,F,Q]at D;exact D
   subst hee;exact(y j9 _ _ T V).1.rd
 |7,_=>
  refine(ik (o:=C6) I t U U C (by k_ne) K M (λB r=> ?_) (λB r e D=> ?_)<|P A).fN λ_ _ h=>Ã h
  .have F:=((y g _ _ z W).1.r r).trans (y g _ _ z W).2;have Q:=((y g _ _ z X).1.r r).trans (y g _ _ z X).2;have rm:=((y g _ _ z Y).1.r r).trans (y g _ _ z Y).2;have uG:=((y g _ _ z c3).1.r r).trans (y g _ _ z c3).2;simp only[uK,C6];go_simp
  .have F:=((y g _ _ z W).1.r r).trans (y g _ _ z W).2;have Q:=((y g _ _ z X).1.r r).trans (y g _ _ z X).2;have rm:=((y g _ _ z Y).1.r r).trans (y g _ _ z Y).2;have uG:=((y g _ _ z c3).1.r r).trans (y g _ _ z c3).2;simp[go_sem,C6,rV,F,Q,rm,uG]at D;rcases D with rfl|rfl|rfl|rfl
   .exact(y g _ _ z W).1.rd
   .exact(y g _ _ z X).1.rd
   .exact(y g _ _ z Y).1.rd
   .exact(y g _ _ z c3).1.rd
 |8,_=>
  have d6:=ic (j:=6) (o:=xB) C U U;have d7:=ic (j:=7) (o:=xB) C U U;have Ry:a.tmps[21]?=Â (è<|Â m):=t.r 6 xA 21 U d6 U;have Ig:a.tmps[22]?=Â (ę #[À u,É Î s,À<|Â ⟨j7,0,Á⟩,À O]):=t.r 7 C6 22 U d7 U;have d5:=t.I (j:=5) (o:=xA) U d6 U;have d0:=t.I (j:=0) (o:=uJ) U d5 U;have d4:=t.I (j:=4) (o:=uJ) U d5 U;have d1:=t.I (j:=1) (o:=uI) U d4 U;have d3:=t.I (j:=3) (o:=uI) U d4 U;have d2:=t.I (j:=2) (o:=xy) U d3 U;have nI:Ü md oc (listed.setIfInBounds 8 Ó)=[]:=by
   rw[List.eq_nil_iff_forall_not_mem];intro f hj;have C8:=zh hj;have F:=Ri hj;rw[MC]at C8;by_cases Q:f=8
   .subst Q;have D:8<listed.size:=by rw[ji,MC];decide
    simp[D]at F
   .rw[ç Ó<|Ne.symm Q]at F;have D:=xk F;match f,C8,Q with
    |0,_,_=>exact D d0
    |1,_,_=>exact D d1
    |2,_,_=>exact D d2
    |3,_,_=>exact D d3
    |4,_,_=>exact D d4
    |5,_,_=>exact D d5
    |6,_,_=>exact D d6
    |7,_,_=>exact D d7
    |8,_,h=>exact h U
  obtain rfl:=IZ nI;let⟨F,ds⟩:=a;obtain rfl:ds=[]:=t.M;have I1:F.size=32:=t.S.trans ht;have MD:∀c,c<15->F[c]?=d[c]?:=λc hd=>t.b c λf o E _ e=>by
   have C8:=(æ.1 E).1;rw[MC]at C8;match f,C8 with
   |0,_=>
    have D:o=C0:=(Ô<|show Â C0=Â o from E).symm;rw[D]at e;have Q:15=c:=Ô (show Â 15=Â c from e);omega
   |1,_=>
    have D:o=C4:=(Ô<|show Â C4=Â o from E).symm;rw[D]at e;have Q:16=c:=Ô (show Â 16=Â c from e);omega
   |2,_=>
    have D:o=C5:=(Ô<|show Â C5=Â o from E).symm;rw[D]at e;have Q:17=c:=Ô (show Â 17=Â c from e);omega
   |3,_=>
    have D:o=xy:=(Ô<|show Â xy=Â o from E).symm;rw[D]at e;have Q:18=c:=Ô (show Â 18=Â c from e);omega
   |4,_=>
    have D:o=uI:=(Ô<|show Â uI=Â o from E).symm;rw[D]at e;have Q:19=c:=Ô (show Â 19=Â c from e);omega
   |5,_=>
    have D:o=uJ:=(Ô<|show Â uJ=Â o from E).symm;rw[D]at e;have Q:20=c:=Ô (show Â 20=Â c from e);omega
   |6,_=>
    have D:o=xA:=(Ô<|show Â xA=Â o from E).symm;rw[D]at e;have Q:21=c:=Ô (show Â 21=Â c from e);omega
   |7,_=>
    have D:o=C6:=(Ô<|show Â C6=Â o from E).symm;rw[D]at e;have Q:22=c:=Ô (show Â 22=Â c from e);omega
   |8,_=>
    have D:o=xB:=(Ô<|show Â xB=Â o from E).symm;rw[D]at e;cases(show Á=Â c from e)
  refine .fy λB r=>Ç (.fy λpz D=> ?_);have Q:iD (λ_=>False) p ({l with w:=pz}:e9):=S.N (λ_ q=>q.elim)<|r.fe ⟨D.r,D.I,D.N,D.Y,D.S⟩;refine hJ _ F Q I1 MD ⟨U,U,λD=>⟨ñ #[],?_⟩,?_⟩
  .refine(Θ (cases:=#[scase m (ę #[À u,É Î s,À<|Â ⟨j7,0,Á⟩,À O])<|ñ #[]]) (blocking:=Ó) (shape:=.send) (w':=D) (o:=xB) rfl rfl (by k_ne) ?_).trans ?_
   .simp[go_sem,xB,Đ,scase,Ę,Ry,Ig]
   .have:Ũ Ä (base 52).fn ⟨F,[]⟩ xB D=#[]:=by
     unfold Ũ;simp[go_sem,xB,Đ,Ę,Ry,Ig,ı]
    rw[this]
  .have e:({G ((base 52).at ⟨F,[]⟩<|Ï oc [8]::L) qX with frame:=(G ((base 52).at ⟨F,[]⟩<|Ï oc [8]::L) qX).frame.finish Å}:Ý)=G ((base 52).at ⟨F,[]⟩<|Ï oc []::L) qX:=by
    have:(G ((base 52).at ⟨F,[]⟩<|Ï oc [8]::L) qX).frame.finish Å=(base 52).at (ξ ⟨F,[]⟩ Á Å) (Ï oc []::L):=Ī _ _ _ _ _ _ _;rw[this];rfl
   rw[e];exact hN _ F Q I1 MD
 |n+9,h=>exact absurd h Z
end
section
variable{N:Jd}{l:e9}{f:Option ã}
theorem akf(s:gu l)(K:¬l.q)(G:DT (Æ (Â ⟨J,0,Á⟩) n j) (Â ⟨j6,0,Á⟩) b m i d)(hiq:i<b)(CL:b<1000)(hn:0<n)(vP:n<1000)(ZQ:l.O J)(cd:l.w.cell? ⟨J,i%n,Á⟩=Â (è<|Â k))(Sr:l.M j6) (i0:l.w.cell? ⟨j6,i*4,Á⟩=Â (À f)) (i1:l.w.cell? ⟨j6,i*4+1,Á⟩=Â (É Î j7)) (i2:l.w.cell? ⟨j6,i*4+2,Á⟩=Â (À<|Â ⟨j9,0,Á⟩)) (i3:l.w.cell? ⟨j6,i*4+3,Á⟩=Â (À O)) (hN:∀t H,iD (λ_=>False) l t->DT (Æ (Â ⟨J,0,Á⟩) n j) (Â ⟨j6,0,Á⟩) b m (i+1) H->fg Ä Ó N t (C7 H qX)): fg Ä Ó (AJ Ä Ó k (ę #[À f,É Î j7,À<|Â ⟨j9,0,Á⟩,À O]) N) l (C7 d qX):=by
 obtain⟨y0,y1,y2,y3,y4,y5,y6,y7,y8,y9,xn,zo,xo,rW,s9,rh,vE,vF,uA,uB,uC,td,tf,tg,uD,vG,xp,tj,ri,uE,qt,qu,rfl⟩:=IY d G.r;obtain rfl:y1=Æ (Â ⟨J,0,Á⟩) n j:=by simpa using G.C
 obtain rfl:y8=Æ (Â ⟨j6,0,Á⟩) b m:=by simpa using G.t8
 obtain rfl:y9=É Î b:=by simpa using G.M
 obtain rfl:xn=É Î i:=by simpa using G.I
 have rX:∀y:ã,False->l.r y:=λy ha=>ha.elim;have au2:(i:Int)<(b:Int):=Z
 have hF:True:=trivial;simp only[C7];conv in MA=>whnf
 apply fO (n:=30) s.r;repeat w_go ft
 refine Ë λ_ _=> ?_;have g:∀c,gX l ⟨j6,c,Á⟩:=λc=>Ã Sr;refine nH (v:=ę #[À f,É Î j7,À<|Â ⟨j9,0,Á⟩,À O]) U U (by k_ne) s.r K (λo r=> ?_) (λo r e h=> ?_) ?_
 .have u:=((g<|i*4).r r).trans i0;have z:=((g<|i*4+1).r r).trans i1;have B:=((g<|i*4+2).r r).trans i2;have C:=((g<|i*4+3).r r).trans i3;go_simp
 .have u:=((g<|i*4).r r).trans i0;have z:=((g<|i*4+1).r r).trans i1;have B:=((g<|i*4+2).r r).trans i2;have C:=((g<|i*4+3).r r).trans i3;simp[go_sem,u,z,B,C]at h;rcases h with rfl|rfl|rfl|rfl
  .exact(g _).rd
  .exact(g _).rd
  .exact(g _).rd
  .exact(g _).rd
 walk_nrm;refine Ih (ob:=Ê #[À Á,É Î 0,À Á,À Á] 155) U U (by k_ne) s.r K (λw=>by go_simp) (λw=>by simp[go_sem]) λo X=> ?_;walk_nrm;have D:iD (λ_=>False) l (gG l o<|Ê #[À Á,É Î 0,À Á,À Á] 155):=LZ s rX X;have L:(gG l o<|Ê #[À Á,É Î 0,À Á,À Á] 155).w.heap[o.heap.size]?=Â (Ê #[À Á,É Î 0,À Á,À Á] 155):=mX;have tq:l.w.heap.size<=o.heap.size:=X.r;have q:(gG l o<|Ê #[À Á,É Î 0,À Á,À Á] 155).O o.heap.size:=Ç U;generalize gG l o (Ê #[À Á,É Î 0,À Á,À Á] 155)=l₁ at D L q|-;generalize o.heap.size=tb at L q tq|-;apply fO (n:=3) D.fv;w_go ft;refine Ë λ_ _=> ?_;refine vz U U (by k_ne) λr P=> ?_;have E:r.heap[tb]?=_:=(P.I tb<|Ã q).trans L;have u:r.cell? ⟨tb,0,Á⟩=Â (À Á):=by simp[Ù,E]
 have z:r.cell? ⟨tb,1,Á⟩=Â (É Î 0):=by simp[Ù,E]
 have B:r.cell? ⟨tb,2,Á⟩=Â (À Á):=by simp[Ù,E]
 have C:r.cell? ⟨tb,3,Á⟩=Â (À Á):=by simp[Ù,E]
 have hz:∀c,r.frozen? ⟨tb,c,Á⟩=Í:=λc=>by simp[ð,E]
 go_simp;refine⟨{l₁ with w:=iT r tb (À f) (É Î j7) (À<|Â ⟨j9,0,Á⟩) (À O)},L0 (p:=tb) (lH D.fv P) (by rwa[D.q]) q xl (λc x=>zk x) ⟨U,U,U⟩ λe h=> ?_,?_⟩
 .have a:=Ě h;have e:∀c,qp l₁ ⟨tb,c,Á⟩:=λc=>Ã q;simp[go_sem,â _ _ _ _ _ _ (show Ú (À f)=Ó from rfl),â _ _ _ _ _ _ (show Ú (À<|Â ⟨j9,0,Á⟩)=Ó from rfl),â _ _ _ _ _ _ (show Ú (À O)=Ó from rfl),u,z,B,C,hz]at a;rcases a with rfl|rfl|rfl|rfl
  .exact(e _).r
  .exact(e _).r
  .exact(e _).r
  .exact(e _).r
 let⟨Q,S,T,V⟩:=Rr (v0:=À f) (v1:=É Î j7) (v2:=À<|Â ⟨j9,0,Á⟩) (v3:=À O) u z B C;have F:=Rs (w':=iT r tb (À f) (É Î j7) (À<|Â ⟨j9,0,Á⟩)<|À O) s rX D P tq xl λc x=>zk x;have vH:({l₁ with w:=iT r tb (À f) (É Î j7) (À<|Â ⟨j9,0,Á⟩) (À O)}:e9).O tb:=q;replace Q:({l₁ with w:=iT r tb (À f) (É Î j7) (À<|Â ⟨j9,0,Á⟩) (À O)}:e9).w.cell? ⟨tb,0,Á⟩=_:=Q;replace S:({l₁ with w:=iT r tb (À f) (É Î j7) (À<|Â ⟨j9,0,Á⟩) (À O)}:e9).w.cell? ⟨tb,1,Á⟩=_:=S;replace T:({l₁ with w:=iT r tb (À f) (É Î j7) (À<|Â ⟨j9,0,Á⟩) (À O)}:e9).w.cell? ⟨tb,2,Á⟩=_:=T;replace V:({l₁ with w:=iT r tb (À f) (É Î j7) (À<|Â ⟨j9,0,Á⟩) (À O)}:e9).w.cell? ⟨tb,3,Á⟩=_:=V;generalize({l₁ with w:=iT r tb (À f) (É Î j7) (À<|Â ⟨j9,0,Á⟩) (À O)}:e9)=l₂ at Q S T V F vH|-;clear L q D E u z B C hz P r l₁ X o;have W:=F.G s;have qw:¬l₂.q:=by rwa[F.q]
 have cd2:l₂.w.cell? ⟨J,i%n,Á⟩=Â (è<|Â k):=(gM<|F.r J<|Ã ZQ).trans cd;apply fO (n:=5) W.r;w_go ft;refine Ë λ_ _=> ?_;refine aj9 (II oc #[y0,Æ (Â ⟨J,0,Á⟩) n j,y2,y3,É Î i,À<|Â ⟨tb,0,Á⟩,y6,y7,Æ (Â ⟨j6,0,Á⟩) b m,É Î b,É Î i,Ĭ Ó,É Î i,À<|Â ⟨j6,i*4,Á⟩,ę #[À f,É Î j7,À<|Â ⟨j9,0,Á⟩,À O],rh,vE,vF,uA,uB,uC,td,tf,tg,uD,vG,xp,tj,ri,uE,qt,qu] (uK J n i (i%n) k (Æ (Â ⟨J,0,Á⟩) n j)<|ę #[À f,É Î j7,À<|Â ⟨j9,0,Á⟩,À O])<|MB l₂) W.r qw (λa x=> ?_) (λY listed a t i' rest hI I e IZ=>akb (J:=AJ Ä Ó k (ę #[À f,É Î j7,À<|Â ⟨j9,0,Á⟩,À O]) N) (N:=N) W qw U U U U vH (F.O J ZQ) hn vP Z U cd2 Q S T V (λl H _ _ _ h=>h) (λt H hA hs h=> ?_) Y listed a t i' rest hI I e IZ) λY listed a ky hI I zp=> ?_
 .exact⟨(),lI.G _ _ _,(iD.fU W.r).N (λ_ b=>b.elim) ⟨x.r,x.I,x.N,x.Y,x.S⟩,A⟩
 .have x:=F.fe hA;have a:=(h 1 A).trans (show _=Â (Æ (Â ⟨J,0,Á⟩) n j)from U);have o8:=(h 8 A).trans (show _=Â (Æ (Â ⟨j6,0,Á⟩) b m)from U);have o9:=(h 9 A).trans (show _=Â (É Î b)from U);have o10:=(h 10 A).trans (show _=Â (É Î i)from U);clear h;obtain⟨x0,x1,x2,x3,x4,x5,x6,x7,x8,x9,Y9,x11,x12,x13,x14,x15,x16,x17,x18,x19,x20,x21,x22,x23,x24,x25,x26,x27,x28,x29,x30,x31,rfl⟩:=IY H hs;obtain rfl:x1=Æ (Â ⟨J,0,Á⟩) n j:=by simpa using a
  obtain rfl:x8=Æ (Â ⟨j6,0,Á⟩) b m:=by simpa using o8
  obtain rfl:x9=É Î b:=by simpa using o9
  obtain rfl:Y9=É Î i:=by simpa using o10
  apply fO (n:=9) x.fv;iterate 7 w_go ft
  refine Ë λ_ _=> ?_;refine hN t _ x ⟨U,U,U,U,?_⟩;simp;grind [CB]
 .let⟨x,a,h,h8⟩:=hI;have nI:∀i∈ä 9,listed.getD i Í=Ó:=by
   cases Y
   .exact pH zp I (ä 9) [] fM λi e=>by cases e
   .exact pH zp I (ä 9) [] fM λi e=>by cases e
   .exact pH zp I (ä 9) [] fM λi e=>by cases e
  grind
end
noncomputable def C9 (t:Array Ð) (a:List é):Ý:=G ((base 52).at ⟨t,[]⟩ [ö Mz,Ā Mz,ï 2]) a
structure ET(dv:Ð)(n j:Nat)(t:Array Ð):Prop where
 r:t.size=32
 akg:t[24]?=Â dv
 C:t[25]?=Â (É Î n)
 I:t[26]?=Â (É Î j)
def I2(t:Array Ð):é:=(base 37).at ⟨t,[]⟩ [Ï Mc [2],ö<|(à 13 Md Í).seq Me]
def FA(t:Array Ð)(a:List é):Ý:=G ((base 37).at ⟨t,[]⟩ [Ï Md [],ö Me]) a
structure SE(ba all oa:Nat)(t:Array Ð):Prop where
 r:t.size=49
 I:t[8]?=Â (À<|Â ⟨ba,0,Á⟩)
 C:t[11]?=Â (À<|Â ⟨oa,0,Á⟩)
 RL:t[12]?=Â (À<|Â ⟨all,0,Á⟩)
section
variable{J a N:Jd}{l:e9}{t:Array Ð}{ba all oa:Nat}{dv:Ð}
def akh(e:jU l)(a:ST ba all oa n n (Æ O k j9) dv t)(f:∀b d,DT dv O k j9 0 b->SE ba all oa d->fg Ä Ó J l (C7 b<|I2 d::qX)):fg Ä Ó J l (vL t qX):=by
 obtain⟨p,q,r,s,u,v,w,x,g,y,h,i,j,c,z,B,C,D,E,F,G,H,I,K,L,M,N,m,o,P,Q,S,T,V,W,X,Y,qf,qg,qh,qi,qj,qk,qm,qn,qo,n5,n7,rU,rfl⟩:=IH t a.r;obtain rfl:g=À (Â ⟨ba,0,Á⟩):=by simpa using a.a
 obtain rfl:h=Æ O k j9:=by simpa using a.C
 obtain rfl:i=À (Â ⟨oa,0,Á⟩):=by simpa using a.I
 obtain rfl:j=À (Â ⟨all,0,Á⟩):=by simpa using a.M
 obtain rfl:dv=c:=(show c=dv by simpa using a.N).symm;obtain rfl:m=É Î n:=by simpa using a.S
 obtain rfl:o=É Î n:=by simpa using a.Y
 have hF:True:=trivial;apply fO (n:=40) e;simp only[vL,Ft,RH];iterate 7 w_go ft
 simp only[Mf,Mc];iterate 4 w_go ft
 u_call Γ fM ŧ ft hF
 iterate 9 w_go ft
 refine Ë λ_ _=> ?_;exact f _ _ ⟨U,U,U,U,U⟩ ⟨U,U,U,U⟩
def aki(d:jU l)(a:DT (Æ (Â ⟨j7,0,Á⟩) n b) O k j9 k t)(e:∀c,ET (Æ (Â ⟨j7,0,Á⟩) n b) n 0 c->fg Ä Ó J l (C9 c qX)):fg Ä Ó J l (C7 t qX):=by
 obtain⟨i,f,j,m,o,p,q,r,s,g,h,u,v,w,x,y,z,B,C,D,E,F,G,H,I,K,L,M,N,P,Q,S,rfl⟩:=IY t a.r;obtain rfl:f=Æ (Â ⟨j7,0,Á⟩) n b:=by simpa using a.C
 obtain rfl:g=É Î k:=by simpa using a.M
 obtain rfl:h=É Î k:=by simpa using a.I
 have hF:True:=trivial;apply fO (n:=40) d;simp only[C7];conv in MA=>whnf
 iterate 7 w_go ft
 conv in ZN=>whnf
 iterate 8 w_go ft
 refine Ë λ_ _=> ?_;exact e _ ⟨U,U,U,U⟩
def akj(a:gu l)(g:¬l.q)(c:ET (Æ (Â ⟨j7,0,Á⟩) n b) n j t)(z:j<n)(B:n<1000)(i:l.O j7)(o:l.w.cell? ⟨j7,j,Á⟩=Â (è<|Â m)) (p:∀d e,iD (λ_=>False) l d->ET (Æ (Â ⟨j7,0,Á⟩) n b) n (j+1) e->fg Ä Ó N d (C9 e qX)):fg Ä Ó (K3 Ä Ó m N) l (C9 t qX):=by
 obtain⟨C,D,F,G,H,I,J,K,L,M,P,Q,S,T,V,W,X,Y,uA,uB,uC,td,tf,tg,q,u,v,tj,ri,uE,qt,qu,rfl⟩:=IY t c.r;obtain rfl:q=Æ (Â ⟨j7,0,Á⟩) n b:=by simpa using c.akg
 obtain rfl:u=É Î n:=by simpa using c.C
 obtain rfl:v=É Î j:=by simpa using c.I
 have hF:True:=trivial;apply fO (n:=40) a.r;simp only[C9];conv in Mz=>whnf
 repeat w_go ft
 refine Ë λ_ _=> ?_;apply pG (x:=⟨j7,j,Á⟩) U U (by k_ne) a.r g (Ã<|Ã i) o (λw h=>by go_simp) (λw h=>by simp[go_sem,h]);walk_nrm;apply fO (n:=40) a.r;iterate 4 w_go ft
 refine Ë λ_ _=> ?_;refine .fy λw₁ y=>⟨U,U,_,U,λpz cap buf s r tm h=>(stepG_close U U (by k_ne) U U h fM).trans U,?_⟩;walk_nrm;have f:=(iD.fU (E:=λ_=>False) a.r).N (λ_ k=>k.elim) y;apply fO (n:=20) f.fv;iterate 7 w_go ft
 refine Ë λ_ _=> ?_;refine p _ _ f ⟨U,U,U,?_⟩;simp;exact CB Z Z
def akk(e:gu l)(g:l.d=0)(p:60<=i)(f:ET dv n n t)(c:SE ba all oa d)(j:l.K ⟨all,0,Á⟩/\l.K ⟨all,1,Á⟩)(q:mV all l.w) (r:∀m o,iD (λ_=>False) l m->SE ba all oa o->a m (FA o qX)):fg Ä Ó (qW Ä Ó i all a .iX) l (C9 t<|I2 d::qX):=by
 obtain⟨G,H,I,J,L,M,N,P,Q,S,T,V,W,X,Y,rh,vE,vF,uA,uB,uC,td,tf,tg,uD,s,u,tj,ri,uE,qt,qu,rfl⟩:=IY t f.r;obtain rfl:s=É Î n:=by simpa using f.C
 obtain rfl:u=É Î n:=by simpa using f.I
 have hF:True:=trivial;apply fO (n:=40) e.r;simp only[C9,I2,Mc];conv in Mz=>whnf
 iterate 8 w_go ft
 obtain⟨z0,z1,z2,z3,z4,z5,z6,z7,v,z9,z10,x,y,z13,z14,z15,z16,z17,z18,z19,z20,z21,z22,z23,z24,z25,z26,z27,z28,z29,z30,z31,z32,z33,z34,z35,z36,z37,z38,z39,z40,z41,z42,z43,z44,z45,z46,z47,z48,rfl⟩:=IH d c.r;obtain rfl:v=À (Â ⟨ba,0,Á⟩):=by simpa using c.I
 obtain rfl:x=À (Â ⟨oa,0,Á⟩):=by simpa using c.C
 obtain rfl:y=À (Â ⟨all,0,Á⟩):=by simpa using c.RL
 u_leave0 Γ ft hF
 simp only[Md];iterate 3 w_go ft
 u_call rf.f_wait (nm_wait Lk) waitFn ft hF
 refine Ë λ_ _=> ?_;refine YR rf p (⟨Ã j.1,Ã j.2,λw z b B C D F h=>h.fe ⟨b,B,C,D,F⟩⟩) ⟨e.r,q,fF.fU _ _⟩ g λz B=> ?_;walk_nrm;refine .fy λC b=> ?_;have h:=(iD.fU (E:=λ_=>False) e.r).N (λ_ k=>k.elim)<|B.2.2.fe ⟨b.r,b.I,b.N,b.Y,b.S⟩;exact r {l with d:=0,w:=C} _ ⟨h.O,h.h,h.Y,h.I,h.c,h.K,h.q,g.symm,h.fv,h.f,h.r,h.e,h.S,h.b,h.g⟩ ⟨U,U,U,U⟩
end
def vR(a:Nat)(b c:Ð)(_:Unit):Nat->Ð
 |0=>b
 |1=>À<|Â ⟨a,0,Á⟩
 |2=>À<|Â ⟨a,0,Á⟩
 |3=>À<|Â ⟨a,2,Á⟩
 |4=>c
 |5=>b
 |_=>c
def ME(a:e9)(_:Array Bool)(_:Unit)(l:e9):Prop:=gf (λ_=>False) a l
section
variable{J:Jd}{g:e9}{h:Option ã}
def akl(K:¬g.q)(N:q.size=49)(P:q[8]?=Â (À<|Â ⟨m,0,Á⟩))(Q:q[11]?=Â (À<|Â ⟨j9,0,Á⟩))(E:g.M m)(F:gX g ⟨j9,2,Á⟩)(S:g.w.cell? ⟨m,0,Á⟩=Â (Æ O b n))(T:g.w.cell? ⟨j9,2,Á⟩=Â (Æ h j6 j7)) (md:Ă) (listed:Array Bool) (y:ŝ) (l:e9) (i:Nat) (jJ:List Nat) (V:II xr q (vR j9 (Æ O b n)<|Æ h j6 j7) (ME g) listed y l) (k:i∈Ü md xr listed): fg Ä Ó (λc d=>∃a,d=G ((base 37).at a<|Ï xr jJ::L) qX/\II xr q (vR j9 (Æ O b n)<|Æ h j6 j7) (ME g) (listed.setIfInBounds i Ó) a c) l (G ((base 37).at y<|Ï xr (i::jJ)::L) qX):=by
 let⟨x,j,p⟩:=V;have s:qZ xr q.size=Ó:=by rw[N];decide
 have H:=zh k;have t:=p.fv;have u:¬l.q:=by rwa[show l.q=g.q from p.q]
 have W:=(j.C A).trans P;have X:=(j.C A).trans Q;have B:gX l ⟨m,0,Á⟩:=Ã<|p.M E;have D:gX l ⟨j9,2,Á⟩:=F.imp (λa=>p.M a) λa=>by rwa[p.C]
 have I:=(gM<|p.r m E id).trans S;have J:l.w.cell? ⟨j9,2,Á⟩=Â (Æ h j6 j7):=by
  refine ŉ ?_ T;rcases F with a|a
  .exact gM<|p.r _ a id
  .exact p.f _ a
 have v:∀{c:Nat},∀d,fF l l.w d->ME g (listed.setIfInBounds c Ó) () {l with w:=d}:=λd r=>p.G r;have Y:xr.size=7:=A
 rw[Y]at H;match i,H with
 |0,_=>
  refine ik (o:=Iv) s j U U k (by k_ne) t u (λd r=> ?_) (λd r e f=> ?_) v
  .have z:=(B.r r).trans I;simp only[vR,Iv];go_simp
  .have z:=(B.r r).trans I;simp[go_sem,Iv,W,z]at f;subst f;exact B.rd
 |4,_=>
  have h47:y.tmps[47]?=Â (À<|Â ⟨j9,2,Á⟩):=j.r 3 Iy 47 U (ic k U U) U;refine ik (o:=Iz) s j U U k (by k_ne) t u (λd r=> ?_) (λd r e f=> ?_) v
  .have z:=(D.r r).trans J;simp only[vR,Iz];go_simp
  .have z:=(D.r r).trans J;simp[go_sem,Iz,h47,z]at f;subst f;exact D.rd
 |1,_=>
  refine ik (o:=Iw) s j U U k (by k_ne) t u (λd r=> ?_) (λd r e f=> ?_) v
  .simp only[vR,Iw];go_simp
  .simp[go_sem,Iw,X]at f
 |2,_=>
  have z:y.tmps[45]?=Â (À<|Â ⟨j9,0,Á⟩):=j.r 1 Iw 45 U (ic k U U) U;refine ik (o:=Ix) s j U U k (by k_ne) t u (λd r=> ?_) (λd r e f=> ?_) v
  .simp only[vR,Ix];go_simp
  .simp[go_sem,Ix,z]at f
 |3,_=>
  have z:y.tmps[46]?=Â (À<|Â ⟨j9,0,Á⟩):=j.r 2 Ix 46 U (ic k U U) U;refine ik (o:=Iy) s j U U k (by k_ne) t u (λd r=> ?_) (λd r e f=> ?_) v
  .simp only[vR,Iy];go_simp
  .simp[go_sem,Iy,z]at f
 |5,_=>
  have z:y.tmps[44]?=Â (Æ O b n):=j.r 0 Iv 44 U (ic k U U) U;refine ik (o:=IA) s j U U k (by k_ne) t u (λd r=> ?_) (λd r e f=> ?_) v
  .simp only[vR,IA];go_simp
  .simp[go_sem,IA,z]at f
 |6,_=>
  have z:y.tmps[48]?=Â (Æ h j6 j7):=j.r 4 Iz 48 U (ic k U U) U;refine ik (o:=IB) s j U U k (by k_ne) t u (λd r=> ?_) (λd r e f=> ?_) v
  .simp only[vR,IB];go_simp
  .simp[go_sem,IB,z]at f
def akm(c:gu g)(t:¬g.q)(e:SE m j j9 d)(B:g.M m)(C:gX g ⟨j9,2,Á⟩)(D:g.w.cell? ⟨m,0,Á⟩=Â (Æ O b n))(E:g.w.cell? ⟨j9,2,Á⟩=Â (Æ h j6 j7)) (F:∀u,gf (λ_=>False) g u->fg Ä Ó J u (G (f.at (y.put ((Q[i]?).bind (·.dst))<|ñ #[Æ O b n,Æ h j6 j7])<|Ï Q jJ::L) qX)): fg Ä Ó J g (FA d<|f.at y (Ï Q (i::jJ)::L)::qX):=by
 have hF:=trivial;apply fO (n:=9) c.r;simp only[FA,Me];iterate 2 w_go ft
 refine Ë λ_ _=> ?_;refine LQ (II xr d (vR j9 (Æ O b n)<|Æ h j6 j7)<|ME g) c.r t (λl a=>⟨(),lI.G _ _ _,(gf.fU c.r).G ⟨a.r,a.I,a.N,a.Y,a.S⟩⟩) (λk o y l i jJ p a=>akl t e.r e.I e.C B C D E k o y l i jJ p a) λk o H I p r s=> ?_;let⟨x,l,K⟩:=p;have v:∀i∈ä 7,o.getD i Í=Ó:=by
  cases k
  .exact pH s r (ä 7) [] fM λi a=>by cases a
  .exact λi a=>pH s r [0,5,1,2,3,4,6] [] fM (λi a=>by cases a) i (by have:=ě.1 a;revert i;decide)
  .exact pH s r (ä 7) [] fM λi a=>by cases a
 let⟨a,N⟩:=H;obtain rfl:N=[]:=l.M;have P:a[6]?=Â (Æ O b n):=l.r 5 IA 6 U (v 5 A) U;have S:a[7]?=Â (Æ h j6 j7):=l.r 6 IB 7 U (v 6 A) U;have X:=l.S.trans e.r;have z:=K;have T:=z.N c;have V:a.getD 6 Å=Æ O b n:=by simp[Ė,P]
 have W:a.getD 7 Å=Æ h j6 j7:=by simp[Ė,S]
 apply fO (n:=9) T.r;iterate 2 w_go ft
 u_in ft hF
 refine goes_leave2 U U Tryz.func37 U ⟨by u_nil,?_⟩;rw[V,W];refine Ë λ_ _=>F I z
end
structure SD where
 L:Nat
 f:Nat
 n:Nat
 m:Nat
 q:Nat
 N:Nat
 I:Nat
 C:Nat->Nat
 an:Nat
 S:Nat
 p:Nat
 t:Option ã
 s:Nat
 k:Option ã
 j:Nat
 l:Nat->Option ã
 Y:Nat->Nat
 h:Nat->Option ã
 b:Nat->Nat
 a:Nat->Nat
 e:List é
 c:Nat->Prop
 RC:ß->Prop
 o:ß->Prop
 γ:Type
 v:γ
 u:Nat->Prop
 g:Nat->γ->γ->Prop
 RD:γ->Ð->(Nat->Prop)->ß->Prop
 d:Nat->ByteArray
 i:Nat->ByteArray
def SD.M(D:SD):Fx:=⟨D.L,D.m,D.I,D.C⟩
def SD.akn(D:SD)(i:Nat):Ð:=ę #[À<|D.h i,É Î<|D.b i,À<|Â ⟨D.C<|D.a i,0,Á⟩,À Á]
structure lL(D:SD)(S:Nat->Prop)(l:e9):Prop where
 C:∀b,D.M.M b->l.K ⟨b,0,Á⟩/\l.K ⟨b,1,Á⟩
 M:∀b,D.M.M b->mV b l.w
 c:S D.S
 d:l.w.cell? ⟨D.S,0,Á⟩=Â (Æ (Â ⟨D.an,0,Á⟩) D.N D.N)
 f:S D.p
 g:l.w.cell? ⟨D.p,0,Á⟩=Â (Æ D.t D.m D.s)
 h:∀k,k<D.m->∃b,D.t=Â ⟨b,0,Á⟩/\S b/\l.w.cell? ⟨b,k*4,Á⟩=Â (À<|D.l<|k+1)/\l.w.cell? ⟨b,k*4+1,Á⟩=Â (É Î<|D.Y<|k+1)/\l.w.cell? ⟨b,k*4+2,Á⟩=Â (À<|Â ⟨D.C k,0,Á⟩)/\l.w.cell? ⟨b,k*4+3,Á⟩=Â (À<|Â ⟨D.C<|k+1,0,Á⟩)
 j:∀i,i<D.q->∃b,D.k=Â ⟨b,0,Á⟩/\S b/\l.w.cell? ⟨b,i*4,Á⟩=Â (À<|D.h i)/\l.w.cell? ⟨b,i*4+1,Á⟩=Â (É Î<|D.b i)/\l.w.cell? ⟨b,i*4+2,Á⟩=Â (À<|Â ⟨D.C<|D.a i,0,Á⟩)/\l.w.cell? ⟨b,i*4+3,Á⟩=Â (À Á)
 r:∀a,l.r a->(l.w.cell? a).isSome=Ó/\l.w.frozen? a=Í
 Y:∀b,D.c b->S b
 e:D.RC l.w
structure SD.Ok(D:SD):Prop where
 C:∀w w',D.RC w->(∀b,D.c b->w'.heap[b]?=w.heap[b]?)->D.RC w'
 ioS:∀w w',D.o w->(w'.os=w.os/\w'.output=w.output)->D.o w'
 r:∀s sl V w w',D.RD s sl V w->(∀b,V b->w'.heap[b]?=w.heap[b]?)->D.RD s sl V w'
 I:1<=D.n
 L1:1<=D.L
 gd:D.n+D.q+D.m<1000
 N1:D.N<1000
 S:∀i,D.a i<=D.m
 a:∀i,i<D.q->D.b i<D.N
 Y:∀k,1<=k->k<=D.m->D.Y k<D.N
 ako:∀k,k<=D.m->D.C k≠D.I
 akp:∀k k',k<=D.m->k'<=D.m->D.C k=D.C k'->k=k'
 M:¬D.M.M D.an
 pq:∀i i',i<D.q->i'<D.q->D.b i=D.b i'->i=i'
 pi:∀k k',1<=k->k<=D.m->1<=k'->k'<=D.m->D.Y k=D.Y k'->k=k'
 Qo:∀i k,i<D.q->1<=k->k<=D.m->D.b i≠D.Y k
 gl:∀b,D.M.M b\/b=D.an->D.f<=b
section
variable{D:SD}{S:Nat->Prop}{l f:e9}
def lL.I(h:lL D S l)(ok:D.Ok)(e:∀b,S b->X b)(c:∀b,S b->f.w.heap[b]?=l.w.heap[b]?)(q:f.K=l.K)(p:∀a,l.K a->(l.w.cell? a).isSome=Ó->(f.w.cell? a).isSome=Ó)(r:∀a,f.r a->(f.w.cell? a).isSome=Ó/\f.w.frozen? a=Í):lL D X f where
 C b hg:=by rw[q];exact h.C b hg
 M b hg:=⟨p _ (h.C b hg).1 (h.M b hg).1,p _ (h.C b hg).2 (h.M b hg).2⟩;c:=e _ h.c;d:=(gM<|c _ h.c).trans h.d;f:=e _ h.f;g:=(gM<|c _ h.f).trans h.g;h k hk:=by let⟨b,g,d,j,m,n,o⟩:=h.h k hk;exact⟨b,g,e b d,(gM<|c b d).trans j,(gM<|c b d).trans m,(gM<|c b d).trans n,(gM<|c b d).trans o⟩
 j i hi:=by let⟨b,g,d,j,m,n,o⟩:=h.j i hi;exact⟨b,g,e b d,(gM<|c b d).trans j,(gM<|c b d).trans m,(gM<|c b d).trans n,(gM<|c b d).trans o⟩
 r:=r;Y b d:=e b<|h.Y b d;e:=ok.C _ _ h.e λb d=>c b<|h.Y b d
def lL.G(h:lL D S l)(ok:D.Ok)(c:∀b,S b->l.M b)(r:fF l l.w u):lL D S {l with w:=u}:= h.I ok (λ_ q=>q) (λb q=>r.I b<|c b q) U r.S λa q=>by have:=h.r a q;exact⟨by show(u.cell? a).isSome=Ó;rw[r.N a<|Ã q];exact this.1,(r.Y a<|Ã q).trans this.2⟩
def lL.Ss{E:ã->Prop}(h:lL D S l)(ok:D.Ok)(g:∀b,S b->l.M b)(c:iD E l f):lL D S f:= h.I ok (λ_ q=>q) (λb q=>c.r b<|g b q) c.K c.b λa q=>by
  rw[c.I]at q;let⟨d,i⟩:=h.r a q;refine⟨?_,(c.S a<|Ã q).trans i⟩;by_cases e:E a
  .exact c.g a e d
  .rwa[c.e a (Ã q) e]
def lL.akq(h:lL D S l)(ok:D.Ok)(d:∀b,S b->l.M b/\¬X b)(c:gf X l f):lL D S f:= h.I ok (λ_ q=>q) (λb q=>c.r b (d b q).1 (d b q).2) c.K c.e λa q=>by rw[c.Y]at q;let⟨e,g⟩:=h.r a q;exact⟨by rwa[c.f a<|Ã q],(c.g a<|Ã q).trans g⟩
def lL.N(h:lL D S l)(a:∀b,S b->X b):lL D X l:=⟨h.C,h.M,a _ h.c,h.d,a _ h.f,h.g,λk c=>let⟨b,d,e,f⟩:=h.h k c;⟨b,d,a b e,f⟩,λk c=>let⟨b,d,e,f⟩:=h.j k c;⟨b,d,a b e,f⟩,h.r,λb q=>a b<|h.Y b q,h.e⟩
end
section
variable(D:SD)
def jI(a:Nat->Nat)(j:Nat):List Ð:=(ä j).map λi=>è<|Â<|a i
def Da(k:Nat):Jd:=λl g=>l.d=0/\¬l.q/\lL D l.M l/\∃t a b c e f h i j n o,Cz D.an D.N D.t D.m D.s k t/\l.M a/\l.w.cell? ⟨a,0,Á⟩=Â (À<|Â ⟨D.I,0,Á⟩)/\g=zm t [vI h i j n o,zq a b c e f,n8 Ä]
def ZR(c i:Nat):Jd:=λl g=>l.d=0/\¬l.q/\lL D l.M l/\∃t a b e f h j k m n o p,QT D.an D.N c t/\t[4]?=Â (À<|Â ⟨a,0,Á⟩)/\l.O a/\l.w.cell? ⟨a,0,Á⟩=Â (À<|D.h i)/\l.w.cell? ⟨a,1,Á⟩=Â (É Î<|D.b i)/\l.w.cell? ⟨a,2,Á⟩=Â (À<|Â ⟨D.C<|D.a i,0,Á⟩)/\l.M b/\l.w.cell? ⟨b,0,Á⟩=Â (À<|Â ⟨D.I,0,Á⟩)/\g=L5 t [Iq k m n o p,zq b e f h j,n8 Ä]
def akr:Jd:=λl g=>lL D l.M l/\∃t a b c,IG D.S D.I (D.C D.m) D.n (Æ D.k D.q D.j) t/\hD l a (Ê #[À<|Â ⟨D.I,0,Á⟩] 162)/\hD l b (Ê #[Ď (ý 48) #[] #[À<|Â ⟨D.p,0,Á⟩,À<|Â ⟨D.S,0,Á⟩]] 1)/\g=CJ (À<|Â ⟨D.I,0,Á⟩) c (À<|Â ⟨D.I,0,Á⟩) (ñ #[]) a b (Fu t::D.e)
def aks(j:Nat)(a:Nat->Nat):Jd:=λl g=>lL D l.I l/\∃t e c b d f,ST D.S D.I (D.C D.m) D.n (j-1) (Æ D.k D.q D.j) e t/\Zo D.S D.I D.q e (jI a j) (a<|j-1) c b d l/\a (j-1)<c/\c<b/\b<d/\(∀k,e.ownBlock=Â k->k≠a (j-1)/\k≠c/\k≠b/\k≠d)/\D.f<=a (j-1)/\g=CJ (À<|Â ⟨D.I,0,Á⟩) f (À<|Â ⟨D.I,0,Á⟩) (ñ #[]) b d (Mg t::D.e)
def MG(j:Nat)(a:Nat->Nat):Jd:=λl g=>l.d=0/\¬l.q/\D.f<=l.w.heap.size/\((j=0/\akr D l g)\/(1<=j/\aks D j a l g))
def ZS:Jd:=λl g=>l.d=0/\¬l.q/\lL D l.I l/\∃a,SE D.S D.I (D.C D.m) a/\g=FA a D.e
def SD.r(P:ğ):Ph where
 toFx:=D.M
 P:=P
 S:=D.f
 n:=D.n
 q:=D.q
 Y:=D.an
 f:=D.N
 r:=D.a
 a:=D.b
 b:=D.Y
 c:=D.akn
 z:=zT
 B:=60
 γ:=D.γ
 l:=D.v
 i:=D.u
 p:=D.g
 d:=λk s V w=>(∃a,w.cell? ⟨D.C k,2,Á⟩=Â a/\D.RD s a V w)/\(k=0->w.cell? ⟨D.an,D.N,Á⟩=Á/\kV w D.an=Â (0,0)/\D.o w)
 o:=D.d
 k:=D.i
 g:=MG D
 h:=Da D
 e:=ZR D
 j:=λ_=>ZS D
end
def FB(D:SD):Prop:=∀k s e V l,k<D.m->nD (D.r Ä) k s->D.RD s e V l.w->(∀b,V b->l.M b)->gu l->¬l.q->(∀b,D.c b->l.M b)->D.RC l.w->∀f g,fg Ä Í (λa j=>a.d=l.d/\∃p n c,j=G (f.finish<|ñ #[Æ p n c,á<|D.d<|k+1]) g/\∃h i,D.g k s h/\D.RD h (Æ p n c) i a.w/\∀b,i b->a.M b) (mg l)<|G (ć Ä 66 #[e,À<|D.l<|k+1] Ĥ)<|f::g
def FC(D:SD):Prop:=∀i s a V l,i<D.q->nD (D.r Ä) (D.a i) s->D.RD s a V l.w->(∀b,V b->l.M b)->gu l->¬l.q->(∀b,D.c b->l.M b)->D.RC l.w->∀b c,fg Ä Í (λe f=>e.d=l.d/\f=G (b.finish<|á<|D.i i) c) (mg l)<|G (ć Ä 67 #[a,À<|D.h i] Ĥ)<|b::c
section
variable{D:SD}
def I3(k:Nat)(a:k<=D.m):D.M.M (D.C k):=Ç ⟨k,a,U⟩
def zw:D.M.M D.I:=Ã U
def akt(ok:D.Ok):(D.r Ä).Ok:=⟨ok.I,ok.L1,ok.gd,λi _=>ok.S i,ok.ako,ok.akp,ok.M,ok.pq,ok.pi,ok.Qo,ok.gl,⟨λk a b e=>by have c:D.Y k=D.N:=e;have:=ok.Y k a b;omega,λi d e=>by have c:D.b i=D.N:=e;have:=ok.a i d;omega⟩⟩
theorem aku(ok:D.Ok)(uj:FB D):∀k s V l g,k<D.m->Da D k l g->gu l->nD (D.r Ä) k s->(D.r Ä).d k s V l.w->(∀b,V b->l.I b)->l.N (jg D.M k)->l.r (jg D.M<|k+1)->l.r (jo (D.r Ä)<|D.Y<|k+1)->∀B:Nat->D.γ,B k=s->fg Ä Í (JI (D.r Ä) B<|.mk (k+1)) l g:=by
 intro k s V l g o hJ Fz Sv A4 hV uz C E B hsg;obtain⟨hd,F,f,t,G,v1,v2,v3,v4,u0,u1,u2,u3,u4,hT,CS,cbw,rfl⟩:=hJ;let⟨⟨sl,hsl,rn⟩,_⟩:=A4;let⟨b,zn,hbM,i0,i1,i2,i3⟩:=f.h k o;have HJ:=ok.gd;have lr:(⟨D.C<|k+1,2,Á⟩:ã)≠⟨D.an,D.Y<|k+1,Á⟩:=λe=>ok.M (by injection e with H _ _;rw[<-H];exact I3 (k+1) o);have AS:Cz D.an D.N (Â ⟨b,0,Á⟩) D.m D.s k t:=by rwa[<-zn]
 have⟨oc1,oz1⟩:=f.r _ C;have⟨oc2,oz2⟩:=f.r _ E;have rX:∀a:ã,(a=⟨D.C<|k+1,2,Á⟩\/a=⟨D.an,D.Y<|k+1,Á⟩)->l.r a:=λa p=>by rcases p with rfl|rfl;exact C;exact E
 have r:=f.C _<|I3 (k+1) o;have ZT:=f.M _<|I3 (k+1) o;refine fg.fN (Stop:=λl g=>(∃i n,D.g k s i/\(D.r Ä).d (k+1) i n l.w/\(∀b,n b->l.M b)/\l.w.cell? ⟨D.an,D.Y<|k+1,Á⟩=Â (á<|D.d<|k+1))/\yK Ä Í (D.C<|k+1) (fg Ä Í<|Da D<|k+1) (p9 (D.r Ä) l<|k+1) g) (λl g h=> ?_) ?_
 .let⟨⟨i,n,I,J,L,O⟩,P⟩:=h;exact⟨i,n,by subst hsg;exact I,J,L,O,P⟩
 refine ai5 (Q:=λv x y=>x=D.d (k+1)/\∃i n,D.g k s i/\D.RD i v n y.w/\∀b,n b->y.M b) (τ:=λl=>p9 (D.r Ä) l<|k+1) Fz F hd AS o Z (by have:=ok.N1;omega) (ok.Y (k+1) Z o) hbM i0 i1 i2 i3 uz hsl C E oc1 oc2 oz1 oz2 lr (λc v j u=> ?_) λc x v hQ Rx L4=> ?_
 .refine(uj k s sl V c o Sv (ok.r _ _ _ _ _ rn λb x=>v.r b<|Ç<|hV b x) (λb x=>v.M<|Ç<|hV b x) (v.G Fz) (by rwa[v.q]) (λb x=>v.M<|f.Y b x) (ok.C _ _ f.e λb x=>v.r b<|f.Y b x) j u).fN ?_;grind
 .let⟨y,⟨hstr,i,n,hnx,akv,ZU⟩,hy⟩:=hQ;rw[hstr]at L4;have ZV:mV (D.C<|k+1) c.w:=⟨v.b _ r.1 ZT.1,v.b _ r.2 ZT.2⟩;refine⟨⟨Ã (by rw[v.K];exact r.1),Ã (by rw[v.K];exact r.2),λ_ _ _ _ _ _ _ _=>trivial⟩,⟨v.fv,ZV,trivial⟩,⟨i,n,hnx,⟨⟨_,Rx,ok.r _ _ _ _ _ akv λb x=>(hy b<|ZU b x).2⟩,λe=>by omega⟩,λb x=>(hy b<|ZU b x).1,L4⟩,v.d.trans hd,λw=>fF (p9 (D.r Ä) c<|k+1) c.w w,⟨Ã (by show c.K _;rw[v.K];exact r.1),Ã (by show c.K _;rw[v.K];exact r.2),λw w₁ I J L O P h=>h.fe ⟨I,J,L,O,P⟩⟩,⟨λj h=>h.elim,ZV,fF.fU _ _⟩,λpz t' akw EM=> ?_⟩;refine .fy λS u=> ?_;have z:=akw.2.2.fe ⟨u.r,u.I,u.N,u.Y,u.S⟩;have x:=λb x=>(z.I b<|Ç<|v.M x).trans<|v.r b x;have ZW:∀b,l.M b->({p9 (D.r Ä) c (k+1)with d:=0,w:=S}:e9).M b:=λb x=>Ç<|v.M x;refine⟨U,by show¬c.q;rwa[v.q],f.I ok ZW x (by show c.K=l.K;exact v.K) (λa p h=>z.S a (by show c.K a;rwa[v.K])<|v.b a p h) λa p=> ?_,t',G,v1,v2,v3,v4,u0,u1,u2,u3,u4,by rwa[zn],ZW G CS,(gM<|x G CS).trans cbw,U⟩;obtain⟨T,W,X⟩:c.r a/\a≠⟨D.an,D.Y<|k+1,Á⟩/\a≠⟨D.C<|k+1,2,Á⟩:=p;have Y:l.r a:=by rwa[<-v.I]
  let⟨H,e2⟩:=f.r a Y;refine⟨?_,?_⟩
  .show(S.cell? a).isSome=Ó;rwa[z.N a<|Ã ⟨T,W,X⟩,v.e a (Ã Y) λq=>q.elim X W]
  .show S.frozen? a=Í;rwa[z.Y a<|Ã ⟨T,W,X⟩,v.S a<|Ã Y]
def akx:∀l g,Da D D.m l g->gu l->fg Ä Í (AO<|D.r Ä) l g:=by intro l g c d;obtain⟨e,f,b,t,k,n,o,p,q,r,s,u,v,w,h,i,j,rfl⟩:=c;have a:=b.C _<|zw;exact ajd (Ψ:=λ_=>True) h a ⟨Ã a.1,Ã a.2,λ_ _ _ _ _ _ _ _=>trivial⟩ ⟨d.r,b.M _ zw,trivial⟩ e f (Ã i) j
def ZX(ok:D.Ok){r:Nat}{l:e9}{t:Array Ð}{g h m o p:Ð}(B:gu l)(s:¬l.q)(C:l.d=0)(a:lL D l.M l)(E:QT D.an D.N i t)(f:l.M k)(u:l.w.cell? ⟨k,0,Á⟩=Â (À<|Â ⟨D.I,0,Á⟩)): EE (D.r Ä) i j r l (zt t [Iq g h m o p,zq k v x z jQ,n8 Ä]):=by have y:=ok.S<|j+r*D.n;refine aji B s C E (Û _) U (a.C _<|I3 _ y) (a.M _<|I3 _ y) (a.C _ zw) (a.M _ zw) (Ã f) u λQ F G e H I J K L O P=>(⟨H,by rwa[e.q],(a.Ss ok (λ_ q=>q) e).N λb q=>e.M q,G,F,k,v,x,z,jQ,g,h,m,o,p,O,P,I,J,K,L,e.M f,(gM<|e.r k f).trans u,U⟩)
theorem aky(ok:D.Ok)(W:FC D):∀c j r s V l g,j+r*D.n<D.q->ZR D c (j+r*D.n) l g->∀f:e9,gu f->f.O=l.O->(∀b,l.I b\/V b->f.I b)->f.w=l.w->f.d=l.d->f.q=l.q->f.r=l.r->f.K=l.K->nD (D.r Ä) (D.a<|j+r*D.n) s->(D.r Ä).d (D.a<|j+r*D.n) s V l.w->f.N (jg D.M<|D.a<|j+r*D.n)->f.r (jo (D.r Ä)<|D.b<|j+r*D.n)->fg Ä Í (JW (D.r Ä) c j<|.oO r) f g:=by
 intro c j r s V l g E X f v F y o Y hq' Lr hK Sv A4 uz p;obtain⟨hd,hq,G,t,tb,u,v1,v2,v3,v4,u0,u1,u2,u3,u4,hT,h4,hOt,H,I,J,L,N,rfl⟩:=X;let⟨⟨sl,P,S⟩,_⟩:=A4;have B:∀b,l.M b->f.M b:=λb q=>q.elim (λz=>Ã<|by rwa[F]) λz=>Ç<|y b<|Ã z;have m:=G.I ok B (λb _=>by rw[o]) hK (λa _ h=>by rwa[o]) λa q=>by rw[o];exact G.r a<|by rwa[<-Lr]
 have C:¬f.q:=by rwa[hq']
 rw[<-o]at H I J N P S;let⟨e2,z2⟩:=m.r _ p;refine Is (Q:=λx=>x=D.i (j+r*D.n)) v C hT h4 (by rwa[F]) H I J uz P p e2 z2 (ok.a _ E) (λi e k T=> ?_) λi x t' e hx hcx AS=> ?_
 .refine(W _ s sl V i E Sv (ok.r _ _ _ _ _ S λb x=>e.r b<|Ç<|y b<|Ç x) (λb x=>e.M<|Ç<|y b<|Ç x) (e.G v) (by rwa[e.q]) (λb x=>e.M<|m.Y b x) (ok.C _ _ m.e λb x=>e.r b<|m.Y b x) k T).fN ?_;grind
 .have T:=(m.Ss ok (λ_ q=>q) e).N λb q=>e.M q;refine⟨hcx.trans (by rw[hx];rfl),?_⟩;have k:=e.G v;have Ij:gu (vu (D.r Ä) i<|j+r*D.n):=by
   refine⟨k.c,λa x=> ?_,λa x=> ?_,k.fv,λa x=> ?_,λa x=> ?_⟩
   .rintro(q|q)
    .exact k.Y a x.1 q
    .exact x.2 q
   .refine k.N a ?_;rcases x with q|q|q
    .exact Ã q.1
    .exact Ç q
    .rw[q];exact Ã<|by rwa[e.I]
   .refine k.I a ?_;rcases x with q|q|q
    .exact Ã q.1
    .exact Ç q
    .rw[q];exact Ã<|by rwa[e.I]
   .let⟨k1,k2,k3⟩:=k.S a x;exact⟨k1,k2,λq=>k3 q.1⟩
  refine ZX ok Ij (by show¬i.q;rwa[e.q]) (by show i.d=0;rwa[e.d,Y]) (T.I ok (λ_ q=>q) (λ_ _=>rfl) U (λ_ _ h=>h) λa q=>T.r a q.1) AS (by show i.M u;exact e.M<|B u L)<|(gM<|e.r u<|B u L).trans N
end
section
variable{D:SD}{dk:Nat->Nat}{dv:Ð}{l f:e9}
structure MF(D:SD)(dk:Nat->Nat)(dv:Ð)(l:e9):Prop where
 C:gu l
 q:¬l.q
 d:l.d=0
 r:lL D l.I l
 I:∃db c,dv=Æ (Â ⟨db,0,Á⟩) D.n c/\l.O db/\∀i,i<D.n->l.w.cell? ⟨db,i,Á⟩=Â (è<|Â<|dk i)
def MF.M(h:MF D dk dv l)(ok:D.Ok)(a:iD (λ_=>False) l f):MF D dk dv f where
 C:=a.G h.C;q:=by rw[a.q];exact h.q
 d:=a.d.trans h.d;r:=(h.r.Ss ok (λ_ q=>Ç q) a).N λb q=>by rwa[a.Y]
 I:=by let⟨e,c,j,g,k⟩:=h.I;exact⟨e,c,j,a.O e g,λi m=>(gM<|a.r e<|Ã g).trans<|k i m⟩
def akz(ok:D.Ok):∀r,r<=D.n->∀l t b,MF D dk dv l->ET dv D.n (D.n-r) t->SE D.S D.I (D.C D.m) b->fg Ä Ó (AP (D.r Ä) dk r) l (C9 t<|I2 b::D.e):=by
 intro r
 induction r with
 |zero=>
  intro _ l t b a e g;rw[ŵ]at e;refine akk a.C a.d (Û _) e g (a.r.C _ zw) (a.r.M _ zw) λf i h j=> ?_;have c:=a.M ok h;exact⟨c.d,c.q,c.r,i,j,U⟩
 |succ r j=>
  intro s l t b a e g;obtain⟨u,c,rfl,k,o⟩:=a.I;have v:=ok.gd;refine akj a.C a.q e Z Z k (o (D.n-(r+1)) Z) λf p h i=> ?_;refine j Z f p b (a.M ok h) ?_ g;rwa[show D.n-(r+1)+1=D.n-r by omega]at i
def akA(ok:D.Ok):∀r,r<=D.q->∀l t d,MF D dk dv l->DT dv D.k D.q D.j (D.q-r) t->SE D.S D.I (D.C D.m) d->fg Ä Ó (Hs (D.r Ä) dk r) l (C7 t<|I2 d::D.e):=by
 intro r
 induction r with
 |zero=>
  intro _ l t d a e h;rw[ŵ]at e;obtain⟨j,c,rfl,k,o⟩:=a.I;refine aki a.C.r e λi g=>akz ok D.n (Û _) l i d a ?_ h;rwa[Ŷ]
 |succ r s=>
  intro C l t d a e h;obtain⟨j,c,rfl,k,o⟩:=a.I;have E:=ok.gd;have F:=ok.I;let⟨b,p,u,v,w,x,y⟩:=a.r.j (D.q-(r+1)) Z;have z:DT (Æ (Â ⟨j,0,Á⟩) D.n c) (Â ⟨b,0,Á⟩) D.q D.j (D.q-(r+1)) t:=by rwa[<-p]
  refine akf a.C a.q z Z Z Z Z k (o _<|Ŀ _ Z) (Ç u) v w x y λf i B g=> ?_;refine s Z f i d (a.M ok B) ?_ h;rwa[show D.q-(r+1)+1=D.q-r by omega,<-p]at g
theorem akB(dk:Nat->Nat)(j a:Nat):jI (fw dk j a) (j+1)=jI dk j++[è<|Â a]:=by unfold jI;grind [Ą,List.map_congr_left,fG,gC]
def akC(dk:Nat->Nat)(j:Nat):(jI dk j).length=j:=by simp[jI]
def akD(dk:Nat->Nat)(j i:Nat)(h:i<j):(jI dk j)[i]?=Â (è<|Â<|dk i):=by simp[jI,h]
theorem ZY(ok:D.Ok){t:Array Ð}(K:j<=D.n)(a:gu l)(o:¬l.q)(p:l.d=0)(h:lL D l.I l)(x:D.f<=l.w.heap.size)(v:ST D.S D.I (D.C D.m) D.n j (Æ D.k D.q D.j) dv t)(r:l.w.ownsRow 0 101 1 dv j (jI dk j))(s:∀k,dv.ownBlock=Â k->l.O k): fg Ä Ó (JM (D.r Ä) dk<|if j<D.n then .iE (j+1)else .iI D.q) l (vL t D.e):=by
 have L:=ok.gd;by_cases u:j<D.n
 .rw[if_pos u];show fg Ä Ó (Qm (D.r Ä) (j+1) dk) l _;rw[aiJ];refine ajr a o p v u Z Z (h.C _ zw) (h.M _ zw) r s λf i y z B C E F c G H M N I J P=> ?_;refine⟨y,c.d.trans p,by rwa[c.q],Ø x c.I,Ç ⟨Z,(h.akq ok (λb g=>⟨Ç g,λe=>a.c b (s b e.symm) g⟩) c).N λb q=>(by rwa[c.S]),i,E,z,B,C,F,?_,?_,?_,I,J,?_,?_,U⟩⟩
  .rwa[ù]
  .rwa[ù,akB,gC]
  .grind [ù,gC]
  .grind [ù,gC]
  .grind [ù,gC,Ø]
 .have e:j=D.n:=Z
  subst e;rw[if_neg u];have y:∃b c,dv=Æ (Â ⟨b,0,Á⟩) D.n c/\l.O b/\∀i,i<D.n->l.w.cell? ⟨b,i,Á⟩=Â (è<|Â<|dk i):=by
   rcases r.2 with⟨_,C⟩|⟨g,z,E,rfl,_⟩
   .have:=ok.I;omega
   .refine⟨g,z,U,s g U,λi B=> ?_⟩;have:=r.cells U i _<|akD dk D.n i B;grind [ħ]
  refine akh a.r v λg z B C=>(akA ok D.q (Û _) l g z ⟨a,o,p,h,y⟩ (by rwa[Ŷ]) C)
def akE(ok:D.Ok)(h:Da D k l g)(r:fF l l.w u):Da D k {l with w:=u} g:=by obtain⟨c,d,e,t,a,f,i,j,m,n,o,p,s,v,x,b,y,rfl⟩:=h;exact⟨c,d,e.G ok (λ_ q=>q) r,t,a,f,i,j,m,n,o,p,s,v,x,b,(gM<|r.I a b).trans y,U⟩
def hD.M{o:Ε}(h:hD l b o)(r:fF l l.w u):hD {l with w:=u} b o:=⟨h.fj,(r.I b<|Ã h.fj).trans h.I⟩
def Ht(ok:D.Ok)(h:MG D j dk l g)(r:fF l l.w u):MG D j dk {l with w:=u} g:=by
 let⟨m,n,o,h⟩:=h;refine⟨m,n,Ø o r.r,?_⟩;rcases h with⟨p,b,t,c,d,f,i,s,v,rfl⟩|⟨x,b,t,dv,y,c,d,f,i,a,z,B,C,E,F,rfl⟩
 .exact Ã ⟨p,b.G ok (λ_ q=>q) r,t,c,d,f,i,s.M r,v.M r,U⟩
 .exact Ç ⟨x,b.G ok (λ_ q=>Ç q) r,t,dv,y,c,d,f,i,⟨n9 a.S λk e=>r.I k<|Ã<|a.M k e,a.M,a.r.M r,a.C.M r,a.N.M r,a.I.M r⟩,z,B,C,E,F,U⟩
theorem akF(ok:D.Ok):∀j dk l g,j<=D.n->MG D j dk l g->gu l->l.d=0/\∃(G H:Ý) (X:Nat->Prop),G.status=Ē/\H.status=Ē/\(∀u,stepG Ä Ó g u=.spawn G H u #[])/\(∀b,X b->l.O b)/\ (1<=j->l.O (dk<|j-1)/\¬X (dk<|j-1)/\l.w.heap[dk<|j-1]?=Â (Ŧ D.q #[] Í 0 0 Í)/\D.f<=dk (j-1))/\ (∀f:e9,gu f->(∀b,X b\/l.I b->f.I b)->f.w=l.w->f.d=0->¬f.q->(∀b,¬f.O b)->f.K=l.K->f.N=l.N->(∀a,f.r a->l.r a)->fg Ä Í (if j=0 then Da D 0 else EE (D.r Ä) (dk<|j-1) (j-1) 0) f H)/\ (∀f:e9,gu f->f.O=(λb=>l.O b/\¬X b/\(1<=j->b≠dk (j-1)))->(∀b,X b\/l.I b->f.I b)->f.w=l.w->f.d=0->f.q=l.q->f.K=l.K->f.N=l.N->(∀a,f.r a->l.r a)->fg Ä Ó (JM (D.r Ä) dk<|if j<D.n then .iE (j+1)else .iI D.q) f G):=by
 intro j dk l g L h Fz;let⟨hd,N,P,h⟩:=h;refine⟨hd,?_⟩;rcases h with⟨rfl,o,t,x,C,v1,I,Q,S,rfl⟩|⟨h1,o,t,dv,T,x,C,v1,I,c,x1,x2,x3,x4,x5,rfl⟩
 .refine⟨_,_,l.O,U,U,λu=>Zm _ _ _ _ _ _ _ u,λ_ q=>q,λq=>by omega,λf i m X y p E z J B=> ?_,λf i E m X y p z J B=> ?_⟩
  .rw[if_pos U];have e:=λb q=>m b q;have s:lL D f.M f:=o.I ok (λb q=>Ç<|e b q) (λb _=>by rw[X]) z (λa _ h=>by rwa[X]) λa q=>by rw[X];exact o.r a<|B a q
   refine ajc i.r p (Ã<|Ç<|e C<|Ã S.fj) (Ã s.f) (Ã s.c) (by rw[X];exact S.C U) s.g s.d λF V W Y w4 u0 u1 u2 u3 u4 v=> .fy λu r=>akE ok ⟨y,p,s,F,x,V,W,Y,w4,u0,u1,u2,u3,u4,v,Ç<|e x<|Ã Q.fj,by rw[X];exact Q.C U,U⟩ r
  .refine ajp i.r I λF v=>(ZY ok L i (by rwa[p]) y (o.I ok (λb q=>m b q) (λb _=>by rw[X]) z (λa _ h=>by rwa[X]) λa q=>by rw[X];exact o.r a<|B a q) (by rwa[X]) v (World.ownsRow_nil _ _ _ _) λk e=>by cases e)
 .refine⟨_,_,λb=>b=T\/b=x\/b=C,U,U,λu=>Zm _ _ _ _ _ _ _ u,λb q=> ?_,λ_=>⟨c.r.fj,?_,c.r.I,x5⟩,λf i m X y p E z J B=> ?_,λf i E m X y p z J B=> ?_⟩
  .rcases q with rfl|rfl|rfl
   .exact c.C.fj
   .exact c.N.fj
   .exact c.I.fj
  .grind
  .rw[if_neg Z];have s:lL D f.M f:=o.I ok (λb q=>Ç<|m b<|Ç q) (λb _=>by rw[X]) z (λa _ h=>by rwa[X]) λa q=>by rw[X];exact o.r a<|B a q
   have ZZ:f.M x:=Ç<|m x<|Ã<|Ç<|Ã U;refine ajh i.r p (Ã<|Ç<|m C<|Ã<|Ç<|Ç U) (Ã<|Ç<|m T<|Ã<|Ã U) (Ã s.c) (by rw[X];exact c.I.C U) (by rw[X];exact c.C.C U) s.d λF V W Y w4 u0 u1 u2 u3 u4 v=> .fy λu r=>(ZX ok (i.j4 r.r) p y (s.G ok (λ_ q=>q) r) v ZZ<|(gM<|r.I x ZZ).trans<|by rw[X];exact c.N.C U)
  .have s:=ok.gd;refine ajq i.r I Z λF v=> ?_;rw[show j-1+1=j by omega]at v;have r:=c.S;rw[akC]at r;refine ZY ok L i (by rwa[p]) y (o.I ok (λb q=>m b<|Ç q) (λb _=>by rw[X]) z (λa _ h=>by rwa[X]) λa q=>by rw[X];exact o.r a<|B a q) (by rwa[X]) v (by rwa[X]) λk e=> ?_;rw[E];let⟨a,V,W,Y⟩:=x4 k e;refine⟨c.M k e,?_,λ_=>a⟩;grind
def akG(ok:D.Ok)(b:FB D)(d:FC D):gS (D.r Ä) where
 C:=akt ok;S k s V w w' h hV hc hz hf xC:=by let⟨⟨a,f,m⟩,t⟩:=h;exact⟨⟨a,hc.trans f,ok.r _ _ _ _ _ m hV⟩,λe=>⟨hz.trans (t e).1,hf.trans (t e).2.1,ok.ioS _ _ (t e).2.2 xC⟩⟩
 Ht j dk l g w₁ h r:=Ht ok h r;I j dk l g h:=by let⟨_,_,_,h⟩:=h;rcases h with⟨_,_,t,e,f,a,_,_,_,rfl⟩|⟨_,_,t,dv,m,e,f,a,_,_,_,_,_,_,_,rfl⟩<;>rfl
 N k l g h:=by obtain⟨_,_,_,t,e,a,f,m,n,o,p,q,u,v,_,_,_,rfl⟩:=h;rfl
 Y c i l g h:=by obtain⟨_,_,_,t,tb,e,a,f,m,n,o,p,q,u,v,_,_,_,_,_,_,_,_,rfl⟩:=h;rfl
 M dk l g h:=by obtain⟨_,_,_,f,_,rfl⟩:=h;rfl
 go:=akF ok;f:=aku ok b;h:=akx;e:=aky ok d
end
end Go.Proofs.Y.fq
namespace Go.Proofs.Y.fq
open Go Go.Conc Go.Proofs.Y.Lift
open Go.ConcN (sumTo sumTo_congr)
structure kF(P:ğ)(Y:Nat->Prop)(jm:κ->Prop)(H:Nat)(J:Jd)(T:gq)(lv:Nat->Nat)(lot:Nat->e9)(gs:Array Ý)(w:ß)(t:Ι):Prop where
 C:1<=gs.size
 r:gN P 0 Y (λi=>if i=0 then J else pB P (lv i)) (λi=>if i=0 then T else .fy) (λ_=> .no) lot gs w t
 c:∀i,0<i->i<gs.size->lot i=kC (lot i)
 d:¬(lot 0).q
 M:∀p a,touchAt t p=Â a->a.loc.isMemory=Ó->Knows t 0 p\/(jm a.loc/\a.kind=.atomic)
 S:∀p a x,touchAt t p=Â a->a.loc=ÿ x->t.g? p=Â 0\/x.block<H
 b:∀a:ã,H<=a.block->NoRelease a t
 N:t.HandedOver
abbrev si(P:ğ):=kF P λ_=>False
structure rp(l l':e9)(w w':ß):Prop where
 r:w.heap.size<=w'.heap.size
 N:∀j,l'.O j->l.O j\/w.heap.size<=j
 rd:l'.I=l.I
 S:l'.r=l.r
 b:l'.N=l.N
 k:l'.K=l.K
 jT:∀j,j<w.heap.size->¬l.O j->(∀a:ã,a.block=j->¬l.r a)->w'.heap[j]?=w.heap[j]?
 M:∀a:ã,a.block<w.heap.size->¬l.O a.block->¬l.r a->w'.cell? a=w.cell? a
 Y:∀j,j<w.heap.size->¬l.O j->kV w' j=kV w j
 C:w'.os=w.os
 I:w'.output=w.output
 c:w'.tape=w.tape
theorem rp.fU(l:e9)(w:ß):rp l l w w:=⟨Û _,λ_ h=>Ã h,U,U,U,U,λ_ _ _ _=>rfl,λ_ _ _ _=>rfl,λ_ _ _=>rfl,U,U,U⟩
def rp.fe{l e i:e9}{w':ß}(h:rp l e w w')(k:rp e i w' u):rp l i w u:=by
 have f:∀j,j<w.heap.size->¬l.O j->¬e.O j:=λj c b q=>(h.N j q).elim b λz=>by omega
 refine⟨Ø h.r k.r,λj q=> ?_,k.rd.trans h.rd,k.S.trans h.S,k.b.trans h.b,k.k.trans h.k,λj c b d=>((k.jT j (È c h.r) (f j c b)<|by rwa[h.S]).trans<|h.jT j c b d),λa g b d=>((k.M a (È g h.r) (f _ g b)<|by rwa[h.S]).trans<|h.M a g b d),λj c b=>(k.Y j (È c h.r)<|f j c b).trans<|h.Y j c b,k.C.trans h.C,k.I.trans h.I,k.c.trans h.c⟩
 .rcases k.N j q with z|z
  .exact h.N j z
  .exact Ç<|Ø h.r z
def mE.akH{l a:e9}(h:mE l a w u V):rp l a w u:=⟨h.C,h.N,h.rd,h.r,h.I,h.k,h.jT,h.M,λj b c=>h.S ⟨j,0,Á⟩ b c,h.c,h.f,h.i⟩
def rp.G{l a:e9}(h:rp l a (w.at i) u):rp l a w u:=⟨h.r,h.N,h.rd,h.S,h.b,h.k,h.jT,h.M,h.Y,h.C,h.I,h.c⟩
section
variable{Y:Nat->Prop}{jm:κ->Prop}{H:Nat}{J:Jd}{T:gq}{lv:Nat->Nat}{lot:Nat->e9}{gs:Array Ý}{t:Ι}{sl:Option (Nat×Nat)}
def kF.I(c:kF P Y jm H J T lv lot gs w t)(d:Nat):kF P Y jm H J T lv lot gs (w.at d) t:=⟨c.C,c.r.at d,c.c,c.d,c.M,c.S,c.b,c.N⟩
def akI{l:e9}{e:Λ}(h:yE l e)(a:ã):ó e≠.mark (.release a):=by
 let⟨c,d,g⟩:=e;rcases h with⟨x,b,_⟩|h|⟨f,h⟩|h|h|⟨x,_,h⟩
 .simp only at b;subst b;simp[ó]
 .simp only at h;subst h;simp[ó]
 .simp only at h;subst h;simp[ó]
 .simp only at h;subst h;simp[ó]
 .simp only at h;subst h;simp[ó]
 .simp only at h;rcases h with rfl|rfl|rfl|rfl<;>simp[ó]
theorem akJ{e:Λ}(h:e.mute=Ó)(a:ã):ó e≠.mark (.release a):=by let⟨b,c,d⟩:=e;cases b<;>simp_all[Event.mute];rename_i m;cases m<;>simp_all[ó]
theorem kF.akK{k:ß->gq}(c:kF P Y jm H J (.jM k) lv lot gs w t)(o:∀l g,J l g->g.status=Ē\/g.status=Ű)(r:gs[0]?=Â g): ∃e b d u,runT P (Ĵ gs w sl) 0=(.next<|Ĵ b d sl,u)/\b.size=gs.size/\rp (lot 0) (e 0) w d/\kF P Y jm H J (k w) lv e b d (t++u):=by
 obtain⟨b,d,G,s,v,f,I,K,j,y⟩:=c.r.fj r U λl g h=>o l g h;refine⟨gp lot 0 s,b,d,_,v,f,by rw[gU];exact j.akH,by rw[f];exact c.C,?_,λi z B=> ?_,?_,λp a h C=> ?_,λp a x h D=> ?_,λa h=>(c.b a h).app λu m=> ?_,ũ c.N λu m=>Ã<|ov u m⟩
 .have e:fw (λi=>if i=0 then(.jM k:gq)else .fy) 0 (k w)=λi=>if i=0 then k w else .fy:=by
   funext i;unfold fw;grind
  rwa[<-e]
 .rw[gF lot _ Z];exact c.c i z<|by rwa[<-f]
 .rw[gU,j.q];exact c.d
 .rcases mS h with⟨_,e⟩|⟨_,u,e,E,n⟩
  .exact(c.M p a e C).imp (·.app _) id
  .have:=knows_own n;grind [ov]
 .rcases mS h with⟨F,e⟩|⟨_,u,e,E,n⟩
  .rw[g?_old F];exact c.S p a x e D
  .apply Ã;unfold Trace.g?;grind [ov]
 .obtain⟨e,n,rfl⟩:=ē m;exact akI (j.b e n) a
theorem kF.Z0(c:kF P Y jm H J T lv lot gs w t)(q:gs[i]?=Â g)(b:i≠0)(y:g.status=Ē): ∃a e f u,runT P (Ĵ gs w sl) i=(.next<|Ĵ f w sl,u)/\f.size=gs.size/\sumTo gs.size a+1=sumTo gs.size lv/\e 0=lot 0/\kF P Y jm H J T a e f w (t++u):=by
 have z:=(æ.1 q).1;obtain⟨f,r,m,M,B,o,N,C,D⟩:=c.r.P8 (n:=lv i) q b y U (by simp[b]) (by simp[b]);have E:∀u∈MemOp.ofEvents i g.frame.fn g.frame.place r,u.act.touch?=Á:=λu h=>by obtain⟨e,s,rfl⟩:=ē h;exact touch_mute<|C e s
 refine⟨fw lv i m,gp lot i {lot i with d:=ď (lot i).d r,w:=w},f,_,B,o,?_,gF lot _<|Ne.symm b,by rw[o];exact c.C,?_,λj v F=> ?_,?_,λp a k G=> ?_,λp a x k I=> ?_,λa k=>(c.b a k).app λu h=> ?_,ũ c.N λu h=>Ç<|E u h⟩
 .grind [xe,fG,gC]
 .have l:fw (λi=>if i=0 then J else pB P (lv i)) i (pB P m)=λj=>if j=0 then J else pB P (fw lv i m j):=by
   funext j;unfold fw;grind
  rwa[<-l]
 .by_cases e:j=i
  .subst e;rw[gU];have:=c.c j v z;rw[this];rfl
  .rw[gF lot _ e];exact c.c j v<|by rwa[<-o]
 .rw[gF lot _<|Ne.symm b];exact c.d
 .rcases mS k with⟨_,l⟩|⟨_,u,l,K,_⟩
  .exact(c.M p a l G).imp (·.app _) id
  .grind
 .rcases mS k with⟨L,l⟩|⟨_,u,l,K,_⟩
  .rw[g?_old L];exact c.S p a x l I
  .grind
 .obtain⟨e,s,rfl⟩:=ē h;grind [akJ]
def kF.LJ(c:kF P Y jm H J T lv lot gs w t):∀g∈gs,awake g:=by
 intro g e;obtain⟨i,f,rfl⟩:=Array.mem_iff_getElem.1 e;let⟨g0,_,b,a,_⟩:=c.r.C i _<|í f;intro τ d;generalize gs[i]=g at b d;cases b with
 |gi=>rcases a with a|a<;>rw[d]at a<;>cases a
theorem kF.G(K:∀l g,J l g->g.status=Ē\/g.status=Ű):∀(T:gq) (s:Nat) (lv:Nat->Nat) (lot:Nat->e9) (gs:Array Ý) (w:ß) (sl:Option (Nat×Nat)) (t:Ι),sumTo gs.size lv=s->kF P Y jm H J T lv lot gs w t-> ∃N h b a f e c,Δ P N (Ĵ gs w sl) t=(.next<|Ĵ a f e,c)/\a.size=gs.size/\rp (lot 0) (b 0) w f/\kF P Y jm H J .fy h b a f c:=by
 intro T
 induction Xy.apply T with
 |intro T _ L=>
  intro s
  induction s using Nat.strongRecOn with
  |_ s M=>
   intro lv lot gs w sl t V c;cases C:T with
   |fy=>
    subst C;exact⟨0,lv,lot,gs,w,sl,t,U,U,rp.fU _ _,c⟩
   |jM k=>
    subst C;have W:=c.C;obtain⟨g0,D⟩:∃g,gs[0]?=Â g:=⟨_,í Z⟩;have O:g0.status=Ē:=by let⟨S,d,i,_,_⟩:=c.r.C 0 g0 D;grind [agG]
    let⟨i,g,d,e,E,Q,F⟩:=crowd_pick (P:=P) (w:=w) (sl:=sl) c.LJ ⟨0,g0,D,O⟩;by_cases G:i=0
    .subst G;let⟨b,a,f,u,n,j,S,I⟩:=(c.I d).akK (sl:=e) K E;let⟨N,o,p,q,r,v,x,y,z,m,B⟩:=L (k<|w.at d) ⟨_,U⟩ _ lv b a f e (t++u) U I;exact⟨N+1,o,p,q,r,v,x,by simp only[Δ,F,n];exact y,z.trans j,S.G.fe m,B⟩
    .let⟨h,b,a,u,n,j,I,f,S⟩:=(c.I d).Z0 (sl:=e) E G Q;let⟨N,o,p,q,r,v,x,y,z,m,B⟩:=M (sumTo a.size h) (by rw[j];omega) h b a (w.at d) e (t++u) U S;exact⟨N+1,o,p,q,r,v,x,by simp only[Δ,F,n];exact y,z.trans j,by rw[f]at m;exact m.G,B⟩
end
section
variable{F:Ph}{E:fT F}{S:Nat->Jd}{tr:Nat->gq}{o:Nat->iz}{f:Nat->e9}{gs:Array Ý}
def PI.ju(p:PI F i zX E S tr o f gs w qJ)(c:E.M=.fZ):E.r=F.n+1/\∀x,x<F.n+1->∃N,E.N x=Â (.ju N):=by
 refine⟨(by unfold fT.r;rw[c];rfl),λx g=> ?_⟩;have a:=QX (p.C.B<|Ç<|Ç c) x g;have j:x<E.M.ad F.n:=by rwa[c]
 unfold fT.G at a;rw[if_pos j]at a;have l:E.M.gB=0:=by rw[c];rfl
 cases d:E.N x with
 |none=>rw[d]at a;simp[me]at a
 |some e=>
  rw[d]at a;simp only[me]at a;cases e with
  |oQ=>simp[ij.kO]at a
  |ju N=>exact⟨N,U⟩
  |fZ q=>
   let⟨h,k⟩:=p.C.N x q d;cases q with
   |jF=>simp[ij.kO,jH.kO]at a
   |iE=>simp[ij.kO,jH.kO]at a
   |gy W=>
    let⟨_,b⟩:=h W<|Ã U;have r:=p.M.C.r;rw[b]at r;have:=(p.C.g W b).2.1;simp only[GS.ok]at r;omega
   |jc W=>
    let⟨_,b⟩:=h W<|Ç U;have r:=p.M.C.r;rw[b]at r;have:=(p.C.g W b).2.1;simp only[GS.ok]at r;omega
   |iA r=>
    let⟨W,_,s,b⟩:=k r U;have:=(p.C.u r s b).2.1;omega
def xD(l:e9):e9:={l with O:=λ_=>False,I:=λ_=>False,r:=λ_=>False,N:=λ_=>False,K:=λ_=>False,q:=True}
def vp(f:Nat->e9)(l:e9):Nat->e9:=λi=>if i=0 then l else xD (f i)
def Sw(f:Nat->e9)(l:e9):vp f l 0=l:=rfl
def vS(f:Nat->e9)(l:e9)(h:i≠0):vp f l i=xD (f i):=if_neg h
def I4{l:e9}(h:i≠0):¬(vp f l i).M b:=by rw[vS f l h];exact λq=>q.elim id id
def I5{l:e9}(h:i≠0):¬(vp f l i).C a:=by rw[vS f l h];exact λq=>q.elim id id
def iQ.Y{Y I:Nat->Prop}(C:iQ n I Y f w qJ)(u:I 0){l:e9}(v:n<=m)(x:∀b,l.O b->¬l.I b)(y:∀a,l.r a->¬l.N a)(B:∀b,l.M b->¬X b)(D:∀a,l.C a->X a.block)(E:∀b,l.M b->b<w.heap.size)(F:∀b,X b->b<w.heap.size)(G:fF l l.w w)(H:P1 qJ 0 l)(J:l.d=(f 0).d)(t:∀a,l.K a->X a.block/\¬l.r a):iQ m I X (vp f l) w qJ:=by
 refine⟨λi j g L s b o=> ?_,λi j g L s a e=> ?_,λi g b o=> ?_,λi g a e=> ?_,λi g b o=> ?_,λi g a e=> ?_,λi g b o=> ?_,F,λi g=> ?_,λi g=> ?_,λi g=> ?_,C.l,C.q,λp a c N r P=>È (C.s p a c N r P) v,λi g a e=> ?_⟩
 .by_cases h:j=0
  .subst h;exact absurd (Ã o)<|I4 s
  .exact I4 h
 .by_cases h:j=0
  .subst h;exact absurd (Ã e)<|I5 s
  .exact I5 h
 .by_cases h:i=0
  .subst h;exact x b o
  .exact absurd (Ã o)<|I4 h
 .by_cases h:i=0
  .subst h;exact y a e
  .exact absurd (Ã e)<|I5 h
 .by_cases h:i=0
  .subst h;exact B b o
  .exact absurd o<|I4 h
 .by_cases h:i=0
  .subst h;exact D a e
  .exact absurd e<|I5 h
 .by_cases h:i=0
  .subst h;exact E b o
  .exact absurd o<|I4 h
 .by_cases h:i=0
  .subst h;exact G
  .rw[vS f l h];exact⟨(C.r i g).r,λj q=>q.elim (λz=>z.elim) λz=>z.elim,λa q=>q.elim (λz=>z.elim) λz=>z.elim,λa q=>q.elim (λz=>z.elim) λz=>z.elim,λa q=>q.elim⟩
 .by_cases h:i=0
  .subst h;exact H
  .rw[vS f l h];exact⟨λa e=>e.elim,λa e=>e.elim,λa e=>e.elim,λa e=>e.elim⟩
 .by_cases h:i=0
  .subst h;rw[Sw,J];exact C.f 0 u
  .rw[vS f l h];exact C.f i g
 .by_cases h:i=0
  .subst h;refine⟨(t a e).1,λk z q=> ?_⟩;by_cases r:k=0
   .subst r;exact(t a e).2 q
   .exact absurd (Ã q)<|I5 r
  .rw[vS f l h]at e;exact e.elim
theorem PI.akL(p:PI F i zX E S tr o f gs w qJ)(m:E.M=.fZ)(r:LD F zX qJ)(y:F.S=0)(M:1<=F.L): ∃z:Nat->Nat,kF F.P E.Y (λk=>zX k\/∃x:ã,k=ÿ x/\x.block=F.C) w.heap.size (F.j E.I) (tr 0) z (vp f<|f 0) gs w qJ:=by
 let⟨B,s⟩:=p.ju m;have O:gs.size=F.L+(F.n+1):=by rw[p.b,B]
 have C:=p.I.r;have c:0<gs.size:=Z
 refine⟨λb=>if h:F.L<=b/\b<F.L+(F.n+1)then Classical.choose (s (b-F.L) Z)else E.h b,Z,⟨?_,λb x t=> ?_,p.I.I⟩,λb Q _=> ?_,p.a.M 0<|Ã U,λq a d D=> ?_,λq a x d G=>Ç<|Xw C.q d G,λa d q u=> ?_,r.2⟩
 .rw[y]at C;exact C.Y c (Û _) (C.m 0 c) (C.g 0 c) (C.I 0 c) (C.e 0 c) (C.fv 0 c) C.N (C.r 0 c) (C.S 0 c) U λa d=>⟨(C.n 0 c a d).1,(C.n 0 c a d).2 0 c⟩
 .let⟨k,j,l,v,H⟩:=p.I.C b x t;by_cases h:b=0
  .subst h;rw[p.h.1,m]at j;rw[p.h.2,m]at l;exact⟨k,j,l,v,H⟩
  .have T:=(æ.1 t).1;simp only[h,if_false];rw[vS f _ h];have I:∀N,S b=pB F.P N->tr b=.fy->o b=.no->∃k,lh F.P (b==0) (pB F.P N) .fy (xD<|f b) k/\xa k .no x/\(k.status=Ē\/k.status=Ű)/\(x=k\/True):=λN z e g=>by
    rw[z,e]at j;rw[g]at l;exact⟨k,λJ _=>j _<|fF.fU _ _,l,v,Ç trivial⟩
   by_cases J:b<F.L
   .let⟨z,e,g⟩:=p.l b Z J;grind
   .have K:F.L<=b/\b<F.L+(F.n+1):=Z
    simp only[K,dif_pos,and_self];let⟨z,e,g⟩:=p.k (b-F.L) _ Z<|Classical.choose_spec<|s (b-F.L) Z;rw[show F.L+(b-F.L)=b by omega]at z e g;exact I _ z (g ⟨_,U⟩) e
 .rw[vS f _ Z];rfl
 .rcases r.1 q a d D with z|⟨z,k⟩;all_goals grind
 .unfold Trace.act? at u;let⟨k,z,g⟩:=ĩ.1 u;have:=C.q k<|Array.mem_of_getElem? z;rw[g]at this;have e:a.block<w.heap.size:=this;omega
theorem kF.Y{Y:Nat->Prop}{J:Jd}{s:gq}(c:kF P Y zX n J s D f gs w qJ)(t:(f 0).d=0)(o:gs[0]?=Â g)(u:g.status=Ē){p:Jd}{T:gq}{l:e9}(v:l.w=w)(y:l.d=0)(B:¬l.q)(k:∀b,¬l.I b)(r:∀a,¬l.r a)(m:∀a,¬l.N a)(C:∀a,¬l.K a)(E:∀b,l.O b->b<w.heap.size/\∀x:ã,x.block=b->¬zX (ÿ x))(F:lh P Ó p T l g): si P zX n p T D (vp f l) gs w qJ:=by
 refine⟨c.C,⟨?_,λi x j=> ?_,c.r.I⟩,λi o _=> ?_,B,c.M,c.S,c.b,c.N⟩
 .refine(c.r.r).Y c.C (Û _) (λb _=>k b) (λa _=>m a) (λ_ _=>id) (λa e=>e.elim (λq=>absurd q<|r a) λq=>absurd q<|m a) (λb z=>z.elim (λq=>(E b q).1) λq=>absurd q<|k b) (λ_ h=>h.elim) (by rw[v];exact fF.fU _ _) ⟨λa e G x j I=> ?_,λa e=>(k _ e).elim,λa e=>(r a e).elim,λa e=>(m a e).elim⟩ (by rw[y,t]) λa e=>absurd e<|C a;rcases c.M G x j (by rw[I];rfl)with z|⟨z,_⟩;all_goals grind
 .by_cases h:i=0
  .subst h;rw[o]at j;obtain rfl:=Ô j;exact⟨g,F,.gi,Ã u,Ã U⟩
  .let⟨g0,e,G,I,z⟩:=c.r.C i x j;simp only[h,if_false]at e z|-;rw[vS f _ h];exact⟨g0,λL _=>e _<|fF.fU _ _,G,I,z⟩
 .rw[vS f _ Z];rfl
end
section
variable{F:Ph}{H:Nat}{J:Jd}{f:Nat->e9}{gs:Array Ý}
structure Sx(F:Ph)(H:Nat)(l0 l:e9)(w:ß):Prop where
 fj:∀b,l.O b->l0.O b/\¬(F.M b\/b=F.Y)
 rd:∀b,l.I b->l0.O b/\¬(F.M b\/b=F.Y)/\¬l.O b
 r:∀a,l.r a↔∃x,x<=F.n/\lW F x a
 C:∀a,l.N a↔a=jg F.toFx 0
 k:∀a,l.K a->F.G a
 I:∀b,F.M b\/b=F.Y->l0.O b
 M:∀b,F.M b->H<=b
 f:l.w=w
 d:l.d=0
 q:¬l.q
 N:∀b,F.i b->l.I b
 S:ia w F.C (.cl 1 0)
 Y:ia w (F.I 0) (.cl 0 0)
 c:∀k,1<=k->k<=F.m->ia w (F.I k) (.cl 1 0)
 e:F.d 0 F.l F.i w
def mh(F:Ph)(D:Nat->Nat)(a:Nat->Nat):fT F where
 M:=.go 0
 S:=.kN 0
 C:=λ_=> .nA 0
 N:=λ_=>Á
 I:=a
 c:=λ_=>F.l
 V:=λk=>if k=0 then F.i else λ_=>False
 e:=λ_=>0
 d:=λ_=>Á
 f:=λ_=>0
 b:=.cl 1 0
 a:=λk=>if k=0 then .cl 0 0 else .cl 1 0
 g:=Á
 h:=D
theorem MH(ok:F.Ok)(h:lW F i a):(∃k,1<=k/\k<=F.m/\a=jg F.toFx k)\/∃p,p≠F.f/\a=jo F p:=by
 unfold lW at h;split at h
 .obtain⟨k,c,d,b|b⟩:=h
  .grind
  .exact Ç ⟨_,ok.Y.1 k c d,b⟩
 .let⟨k,c,_,b⟩:=h;exact Ç ⟨_,ok.Y.2 _ (by assumption),b⟩
def Z1(ok:F.Ok)(h:lW F i (jg F.toFx 0)):False:=by
 rcases MH ok h with⟨k,c,b,a⟩|⟨p,_,a⟩
 .have:F.I 0=F.I k:=by injection a
  have:=ok.S 0 k Z b this;omega
 .have:F.I 0=F.Y:=by injection a
  exact ok.C<|by rw[<-this];exact Ç ⟨0,Z,U⟩
theorem si.akM(X:gS F)(c:si F.P zX H J .fy D f gs w qJ)(hL:F.L=gs.size)(hB:F.S=0)(E:gs[0]?=Â g){l:e9}(st:Sx F H (f 0) l w)(oT:(f 0).d=0)(u:Nat->Nat)(hgo:F.g 0 u l g): PI F qJ.size zX (mh F D u) (λi=>if i=0 then F.g 0 u else pB F.P (D i)) (λ_=> .fy) (λ_=> .no) (λi=>if i=0 then l else xD (f i)) gs w qJ:=by
 have S:=X.C;have C:=c.r.r;have ji:=c.C;have T:0<gs.size:=Z
 have y:(mh F D u).r=0:=U;have hY:∀b,(mh F D u).Y b↔(F.M b\/b=F.Y):=λb=>by
  constructor
  .rintro(q|q|⟨j,B,_⟩);all_goals grind
  .rintro(q|q)
   .exact Ã q
   .exact Ç<|Ã q
 have Z2:∀a,l.C a->F.M a.block\/a.block=F.Y:=λa o=>by
  rcases o with q|q
  .let⟨x,_,G⟩:=(st.r a).1 q;rcases MH S G with⟨k,B,t,rfl⟩|⟨p,_,rfl⟩
   .exact Ã<|Ç ⟨k,t,U⟩
   .exact Ç U
  .rw[(st.C a).1 q];exact Ã<|Ç ⟨0,Z,U⟩
 have nC:∀i,i≠0->∀a,¬((λi=>if i=0 then l else xD (f i)) i).C a:=λi h a q=>by simp only[h,if_false]at q;exact q.elim id id
 have nM:∀i,i≠0->∀b,¬((λi=>if i=0 then l else xD (f i)) i).M b:=λi h b q=>by simp only[h,if_false]at q;exact q.elim id id
 have hM0:∀b,l.M b->(f 0).O b/\¬(F.M b\/b=F.Y):=λb q=>q.elim (st.fj b) λz=>⟨(st.rd b z).1,(st.rd b z).2.1⟩;have QZ:iQ F.S (λi=>i<gs.size) (mh F D u).Y (λi=>if i=0 then l else xD (f i)) w qJ:=by
  refine⟨λi j E hj N b v=> ?_,λi j E hj N a o=> ?_,λi E b v=> ?_,λi E a o=> ?_,λi E b v=> ?_,λi E a o=> ?_,λi E b v=> ?_,λb v=>C.fv 0 T b<|Ã<|st.I b<|(hY b).1 v,λi E=> ?_,λi E=> ?_,λi E=> ?_,C.l,C.q,λq a e B t I=> ?_,λi E a o=> ?_⟩
  .by_cases h:j=0
   .subst h;simp only[N,if_false]at v;exact v.elim
   .exact nM j h b
  .by_cases h:j=0
   .subst h;simp only[N,if_false]at o;exact o.elim
   .exact nC j h a
  .by_cases h:i=0
   .subst h;simp only[if_true]at v|-;exact λq=>(st.rd b q).2.2 v
   .simp only[h,if_false]at v;exact v.elim
  .by_cases h:i=0
   .subst h;simp only[if_true]at o|-;intro q;rw[(st.C a).1 q]at o;let⟨x,_,G⟩:=(st.r _).1 o;exact Z1 S G
   .simp only[h,if_false]at o;exact o.elim
  .by_cases h:i=0;all_goals simp_all
  .by_cases h:i=0;all_goals simp_all
  .by_cases h:i=0
   .subst h;simp only[if_true]at v;exact C.fv 0 T b<|Ã (hM0 b v).1
   .simp_all
  .by_cases h:i=0
   .subst h;simp only[if_true];rw[st.f];exact fF.fU _ _
   .simp only[h,if_false];exact⟨(C.r i E).r,λj q=>q.elim (λz=>z.elim) λz=>z.elim,λa q=>q.elim (λz=>z.elim) λz=>z.elim,λa q=>q.elim (λz=>z.elim) λz=>z.elim,λa q=>q.elim⟩
  .by_cases h:i=0
   .subst h;simp only[if_true];have s:=(C.S 0 T).fj;exact⟨λa o=>s a (st.fj _ o).1,λa o=>(s a (st.rd _ o).1).r,λa o=>s a<|st.I _<|Z2 a<|Ã o,λa o=>(s a<|st.I _<|Z2 a<|Ç o).r⟩
   .simp only[h,if_false];exact⟨λa o=>o.elim,λa o=>o.elim,λa o=>o.elim,λa o=>o.elim⟩
  .by_cases h:i=0
   .subst h;simp only[if_true];rw[C.f 0 T,oT,st.d]
   .simp only[h,if_false];exact C.f i E
  .have:=C.s q a e B t I;omega
  .by_cases h:i=0
   .subst h;simp only[if_true]at o;let⟨b,v,s⟩:=st.k a o;have Q:a.block=b:=by rcases s with rfl|rfl<;>rfl
    refine⟨by rw[hY,Q];exact Ã v,λk K q=> ?_⟩;by_cases t:k=0
    .subst t;simp only[if_true]at q;let⟨x,_,G⟩:=(st.r a).1 q;rcases MH S G with⟨k',_,_,I⟩|⟨p',_,I⟩
     .rcases s with W|W<;>rw[W]at I<;>simp[fL,gR,jg]at I
     .have:a.block=F.Y:=by rw[I];rfl
      exact S.C<|by rwa[<-this,Q]
    .simp only[t,if_false]at q;exact q
   .simp only[h,if_false]at o;exact o.elim
 have Z3:gN F.P F.S (mh F D u).Y (λi=>if i=0 then F.g 0 u else pB F.P (D i)) (λ_=> .fy) (λ_=> .no) (λi=>if i=0 then l else xD (f i)) gs w qJ:=by
  refine⟨QZ,λi x G=> ?_,c.r.I⟩;by_cases h:i=0
  .subst h;rw[E]at G;obtain rfl:=Ô G;simp only[if_true];exact⟨g,λs r=>X.Ht 0 u l g s hgo r,.gi,Ã<|X.I 0 u l g hgo,Ã U⟩
  .let⟨g0,Q,q2,N,q4⟩:=c.r.C i x G;simp only[h,if_false]at Q|-;exact⟨g0,λs _=>Q _<|fF.fU _ _,q2,N,Ç trivial⟩
 have akN:iG F (mh F D u) (λi=>if i=0 then l else xD (f i)) gs.size w:=by
  refine⟨λi E a o=> ?_,λx _ t a o=> ?_,λ_=> ?_,λh=>absurd h (by rw[y];omega),λh=>absurd h (by rw[y];omega),λj h=>absurd h (by rw[y];omega),λj h=>absurd h (by rw[y];omega),λx ⟨e,B,_⟩=>(by cases B),λi h=> ?_,λi B t=> ?_,λk K b v=> ?_,λk K i E q=> ?_,λk B t=> ?_,λj h=>absurd h<|by rw[y];omega⟩
  .by_cases h:i=0
   .subst h;simp only[if_true]at o;rcases o with q|q
    .let⟨x,_,G⟩:=(st.r a).1 q;grind [MH]
    .exact Ã ⟨0,Z,(st.C a).1 q⟩
   .simp_all
  .simp only[if_true];exact(st.r a).2 ⟨x,t,o⟩
  .simp only[if_true];exact⟨(st.C _).2 U,st.N⟩
  .rcases h with rfl|⟨x,G,_⟩
   .simp only[if_true];exact st.q
   .grind
  .have:i≠0:=Z
   simp only[this,if_false];rfl
  .have Q:k=0:=by have:k<=0:=K;omega
   subst Q;have B:=st.N b v;refine⟨C.fv 0 T b<|Ã (st.rd b B).1,by rw[hY];exact(st.rd b B).2.1,λi E q=> ?_⟩;by_cases h:i=0
   .subst h;simp only[if_true]at q;exact(st.rd b B).2.2 q
   .simp only[h,if_false]at q;exact q
  .have Q:k=0:=by have:k<=0:=K;omega
   subst Q;by_cases h:i=0
   .subst h;simp only[if_true]at q;let⟨x,_,G⟩:=(st.r _).1 q;exact Z1 S G
   .simp only[h,if_false]at q;exact q
  .have:k<=0:=t;omega
 have gg:∀k,k<=F.m->ia w (F.I k) ((mh F D u).a k):=λk K=>by
  by_cases h:k=0
  .subst h;exact st.Y
  .have:(mh F D u).a k=.cl 1 0:=by simp[mh,h]
   rw[this];exact st.c k Z K
 have wdd:Wd F (mh F D u) w:=by
  refine⟨st.S,gg,λj h=>absurd h (by rw[y];omega),λk K=> ?_,λk B t=> ?_,λj h=>absurd h<|by rw[y];omega⟩
  .have Q:k=0:=by have:k<=0:=K;omega
   subst Q;exact⟨.vo,st.e⟩
  .have:k<=0:=t;omega
 have Z4:∀k,(sumTo F.n λj=>((mh F D u).C j).gB F j k)=0:=λk=>by
  have:∀n,(sumTo n λ_=>0)=0:=λn=>by
   induction n with
   |zero=>rfl
   |succ n s=>simp[sumTo,s]
  exact this F.n
 have akO:sumTo (F.n+1) (mh F D u).G=1:=by
  have B:=xe (f':=(mh F D u).G) (j:=0) (n:=F.n+1) Z (λi E=>by
   have:¬i<1:=Z
   show(if i<1 then _ else _)=0;rw[if_neg this])
  have t:∀n,(sumTo n λ_=>0)=0:=λn=>by
   induction n with
   |zero=>rfl
   |succ n s=>simp[sumTo,s]
  rw[t]at B;have I:(mh F D u).G 0=1:=U;omega
 have pss:Ps F (mh F D u):=by
  refine⟨U,λj h=> ?_,λj h=> ?_,λr=>⟨λh=>(by cases h),λh=>(by cases h)⟩,λ_=>rfl,λk=>⟨λh=> ?_,λh=>(by cases h),λp h=>by cases h⟩,λ_ _=>rfl,λj r h=>absurd h (by rw[y];omega),λj h=>absurd h (by rw[y];omega),λh=>absurd U h,λ_ _=>rfl,λj j' h=>absurd h (by rw[y];omega),λj h=>absurd h (by rw[y];omega),λc reg h=> ?_,λreg h=>(by cases h),λr s h=>(by cases h),λx p h=>(by cases h),λh=> ?_,λk B t I=> ?_,λk B t=> ?_,λj r h=>absurd h (by rw[y];omega),λj r h=>absurd h (by rw[y];omega),λh=>(by cases h),λ_ _=>⟨1,rfl⟩,λ_ _ _=>rfl,λj r h=>absurd h<|by rw[y];omega⟩
  .rcases h with h|h|h|h<;>cases h;omega
  .rcases h with h|h|h<;>cases h
  .cases h;omega
  .cases h;exact⟨akO.symm,U⟩
  .rcases h with h|h|h<;>cases h
  .rw[Z4];have:k≠0:=Z
   simp[mh,this]
  .have Q:k=0:=by have:k<=0:=t;omega
   subst Q;exact Ç<|Ç ⟨λp h=>(by cases h),Ã ⟨rfl,Z4 0⟩⟩
 have s:TI F.toFx qJ.size zX (mh F D u).r (mh F D u).S.rl (mh F D u).V (mh F D u).e (mh F D u).d (mh F D u).iw (mh F D u).f qJ:=by
  refine⟨Û _,λp a x o Q hc=> ?_,λx h=>absurd h (by rw[y];omega),λk B t=> ?_,λk B t=> ?_,λb v=>c.b _<|st.M b v,λx h=>absurd h (by rw[y];omega),λp a B t=> ?_,λp a _ t I=>c.M p a t I,λp g _ t I W=>c.N p g t I W⟩
  .let⟨b,v,G⟩:=hc;have QW:x.block=b:=by rcases G with rfl|rfl<;>rfl
   rcases c.S p a x o Q with q|q
   .exact Ã ⟨Ql o,q⟩
   .have:=st.M b v;omega
  .have:k<=0:=t;omega
  .have:k<=0:=t;omega
  .have:=Ql t;omega
 refine⟨by rw[y,hL];rfl,Z3,⟨by simp only[if_true];rfl,U⟩,λh=>absurd h (by rw[y];omega),λj h=>absurd h (by rw[y];omega),λx e h=>absurd h (by rw[y];omega),λi B t=>⟨?_,U,U⟩,akN,wdd,pss,s,λi x G v=> ?_,λj r h=>absurd h<|by rw[y];omega⟩
 .have:i≠0:=Z
  simp only[this,if_false];rfl
 .let⟨g0,_,q2,N,_⟩:=Z3.C i x G;cases q2 with
  |gi=>rcases N with N|N<;>rw[v]at N<;>cases N
end
end Go.Proofs.Y.fq
namespace Go.Proofs.Y.fq
open Go Go.Conc Go.Proofs.Y.Lift Go.RowKit Go.Conc.Lib Go.ConcR.Gen
open Go.Proofs Go.Proofs.YtgpphkdoanciiaaGreatDoor
section
variable{kd:Nat->Int}{R:Nat}
theorem I6(h:i∈gY kd R):i<R/\kd i=1:=by have:=ą.1 h;grind
theorem I7(h:i∈jB kd R):i<R/\kd i≠1:=by have:=ą.1 h;grind
def akP:(gY kd R).Nodup:=ő.filter _
def akQ:(jB kd R).Nodup:=ő.filter _
def Db(h:k<jJ.length):jJ[k]?=Â (jJ.getD k 0):=by simp[List.getD,h]
def vT{l:List Nat}(h:k<l.length):l.getD k 0∈l:=į<|Db h
def Z5(c:jJ.Nodup)(a:i<jJ.length)(d:j<jJ.length)(h:jJ.getD i 0=jJ.getD j 0):i=j:=by have b:=Db a;rw[h]at b;exact(List.getElem?_inj a c).1<|b.trans (Db d).symm
def Z6:∀R,(gY kd R).length+(jB kd R).length=R
 |0=>rfl
 |R+1=>by
  have:=Z6 R;by_cases h:kd R=1
  .rw[tx h,R4 h];simp;omega
  .rw[vN h,R5 h];simp;omega
end
structure xE where
 γ:Type
 C:γ
 M:Nat->γ->γ->Prop
 RD:γ->Ð->(Nat->Prop)->ß->Prop
 I:Nat->ByteArray
 r:Nat->Prop
def MI(M:xE)(L n R:Nat)(kd:Nat->Int)(a g:Nat->Nat)(b c:Option ã)(d e f h j l:Nat)(o:List é)(p:Nat->Prop)(RC e5:ß->Prop):SD where
 L:=L
 f:=0
 n:=n
 m:=fJ kd R
 q:=(jB kd R).length
 N:=R
 I:=l
 C:=g
 an:=f
 S:=h
 p:=j
 t:=b
 s:=d
 k:=c
 j:=e
 l:=λk=>Â ⟨a<|(gY kd R).getD (k-1) 0,0,Á⟩
 Y:=λk=>(gY kd R).getD (k-1) 0
 h:=λi=>Â ⟨a<|(jB kd R).getD i 0,0,Á⟩
 b:=λi=>(jB kd R).getD i 0
 a:=λi=>if i<(jB kd R).length then fJ kd ((jB kd R).getD i 0)else 0
 e:=o
 c:=p
 RC:=RC
 o:=e5
 γ:=M.γ
 v:=M.C
 u:=M.r
 g:=M.M
 RD:=M.RD
 d:=λk=>M.I<|(gY kd R).getD (k-1) 0
 i:=λi=>M.I<|(jB kd R).getD i 0
section
variable{M:xE}{L R:Nat}{kd:Nat->Int}{a:Nat->Nat}{c:Option ã}{cs:List é}{RB:Nat->Prop}{RC e5:ß->Prop}{l d f:e9}
def akR(h:Mw kd a D R (Æ O (fJ kd R) j7) (Æ c (jB kd R).length j6) v j b J i j9 m l d f)(F:∀w p,RC w->(∀g,RB g->p.heap[g]?=w.heap[g]?)->RC p)(G:∀w p,e5 w->(p.os=w.os/\p.output=w.output)->e5 p)(H:∀s B V w p,M.RD s B V w->(∀g,V g->p.heap[g]?=w.heap[g]?)->M.RD s B V p)(I:1<=n)(K:1<=L)(X:n+R<1000):(MI M L n R kd a D O c j7 j6 j b J i cs RB RC e5).Ok:=by
 have Y:=Z6 (kd:=kd) R;have hc:(gY kd R).length=fJ kd R:=U;let⟨a1,a2,a3⟩:=h.M;let⟨a4,a5,a6⟩:=h.S;have z:∀k,k<=fJ kd R->d.w.heap.size<=D k/\D k<J:=λk r=>⟨(h.r.M k r).1,h.N k r⟩;have Si:=Ø (z 0 Z).1<|ŋ (z 0 Z).2;refine⟨F,G,H,I,K,?_,?_,λo=> ?_,λo t=>(I7<|vT t).1,λk C x=> ?_,λk r e=> ?_,λk u r N e=> ?_,?_,λo i' t P e=>Z5 akQ t P e,λk u C x h3 Q e=> ?_,λo k t C x e=> ?_,λg _=>Ĉ g⟩
 .show n+(jB kd R).length+fJ kd R<1000;omega
 .show R<1000;omega
 .show(if o<(jB kd R).length then fJ kd ((jB kd R).getD o 0)else 0)<=fJ kd R;split
  .rename_i t;exact ZE<|ŋ (I7<|vT t).1
  .omega
 .refine(I6<|vT ?_).1;have:k<=fJ kd R:=x;omega
 .have:=(z k r).2;have y:D k=i:=e;omega
 .have y:D k=D u:=e;have S:=r;have T:=N;rcases Nat.lt_trichotomy k u with q|q|q
  .have:=h.r.S k u q T;omega
  .exact q
  .have:=h.r.S u k q S;omega
 .rintro(e|⟨k,r,e⟩)
  .have y:j=i:=e;omega
  .have y:j=D k:=e;have:=(z k r).1;omega
 .have W:k<=fJ kd R:=x;have h4':u<=fJ kd R:=Q;have:=Z5 akP Z Z e;omega
 .have W:k<=fJ kd R:=x;have y:(jB kd R).getD o 0=(gY kd R).getD (k-1) 0:=e;have E:=(I7<|vT t).2;rw[y]at E;exact E<|(I6 (kd:=kd) (R:=R)<|vT (k:=k-1) Z).2
end
abbrev kG(M:xE)(L n R:Nat)(kd:Nat->Int)(c g:Nat->Nat)(d e:Option ã)(f h i a j k:Nat)(cs:List é)(l:e9):SD:=MI M L n R kd c g d e f h i a j k cs (λb=>l.O b\/b=a) (λw=>∀b,l.O b->w.heap[b]?=l.w.heap[b]?) λw=>w.os=l.w.os/\w.output=l.w.output
def MJ(D:SD)(l:e9):e9:={l with O:=λb=>l.O b/\¬(D.M.M b\/b=D.an)/\¬D.c b,I:=D.c,r:=λa=>∃x,x<=D.n/\lW (D.r Ä) x a,N:=λa=>a=jg D.M 0,K:=D.M.G}
section
variable{M:xE}{L:Nat}{f:Nat->Int}{r:Nat->Nat}{u:Option ã}{y:Nat}{cs:List é}{l B o:e9}
def MK{cs:Array Ð}(h:w.heap[b]?=Â (Ê cs e)):w.frozen? ⟨b,i,Á⟩=Í:=by simp[ð,h]
def Sy{cs:Array Ð}(h:w.heap[b]?=Â (Ê cs e))(a:cs[0]?=Â (É ë<|(i:Int)*fX+0))(d:cs[1]?=Â (É ú 0))(f:i<1000000):ia w b (.cl i 0):=by
 refine⟨?_,?_,MK h,MK h,(⟨f,Z,λ_=>rfl⟩)⟩
 .simp[Ù,fL,h,a,GS.st]
 .simp[Ù,gR,h,d,GS.sm]
def akS(h:Mw f r D j (Æ O (fJ f j) j6) (Æ u (jB f j).length y) v k m j9 b j7 J l B o)(s:gu l)(ML:∀g,¬l.I g)(W:¬l.q)(X:l.d=0)(hH:i<=l.w.heap.size)(hV:∀g,M.r g->l.O g)(rn:M.RD M.C v M.r o.w)(xC:o.w.os=l.w.os/\o.w.output=l.w.output)(hn:1<=n)(hs:n+j<1000){t:Array Ð}(hT:IG m b (D<|fJ f j) n (Æ u (jB f j).length y) t)(dk:Nat->Nat): Sx ((kG M L n j f r D O u j6 y k m j9 b cs l).r Ä) i o (MJ (kG M L n j f r D O u j6 y k m j9 b cs l) o) o.w/\ ((kG M L n j f r D O u j6 y k m j9 b cs l).r Ä).g 0 dk (MJ (kG M L n j f r D O u j6 y k m j9 b cs l) o) (CJ (À<|Â ⟨b,0,Á⟩) jQ (À<|Â ⟨b,0,Á⟩) (ñ #[]) j7 J<|Fu t::cs):=by
 let⟨a1,a2,a3⟩:=h.M;let⟨a4,a5,a6⟩:=h.S;have N:∀C,C<=fJ f j->B.w.heap.size<=D C/\D C<j9:=λC E=>⟨(h.r.M C E).1,h.N C E⟩;have Si:=Ø (N 0 Z).1<|ŋ (N 0 Z).2;have Y:=λg q=>s.fv g<|Ã q;have hc:(gY f j).length=fJ f j:=rfl;have Q:∀g,(kG M L n j f r D O u j6 y k m j9 b cs l).M.M g\/g=k->g=b\/(∃C,C<=fJ f j/\g=D C)\/g=k:=λg q=>by
  rcases q with(q|⟨C,S,q2⟩)|q
  .exact Ã q
  .exact Ç<|Ã ⟨C,S,q2⟩
  .exact Ç<|Ç q
 have H:∀g,(kG M L n j f r D O u j6 y k m j9 b cs l).M.M g\/g=k->l.w.heap.size<=g/\g≠m/\g≠j9/\g≠j7/\g≠J/\(∀C,(Æ O (fJ f j) j6).ownBlock=Â C->g≠C)/\(∀C,(Æ u (jB f j).length y).ownBlock=Â C->g≠C):=λg q=>by
  rcases Q g q with rfl|⟨C,E,rfl⟩|rfl
  .exact⟨Z,Z,Z,Z,Z,λC e=>by have:=h.o3 C e;omega,λC e=>by have:=h.o4 C e;omega⟩
  .have:=N C E;exact⟨Z,Z,Z,Z,Z,λp e z=>(h.r.M C E).2.1<|z▸e,λp e z=>(h.r.M C E).2.2<|z▸e⟩
  .exact⟨Z,Z,Z,Z,Z,λC e=>by have:=(h.r.r C e).2;omega,λC e=>by have:=(h.r.C C e).2;omega⟩
 have akT:∀g,(kG M L n j f r D O u j6 y k m j9 b cs l).M.M g\/g=k->o.O g:=λg q=>by
  rcases Q g q with rfl|⟨C,E,rfl⟩|rfl
  .exact h.Y.fj
  .by_cases x:C=0
   .subst x;exact h.r.N.fj
   .exact(h.r.I C Z E).fj
  .exact h.I.fj
 have K:∀g,o.O g->l.w.heap.size<=g->g≠m->¬((kG M L n j f r D O u j6 y k m j9 b cs l).M.M g\/g=k)->(MJ (kG M L n j f r D O u j6 y k m j9 b cs l) o).O g:=λg S q2 q4 q3=>⟨S,q3,λq=>q.elim (λq=>by have:=Y g q;omega) q4⟩;have Z7:ia o.w b (.cl 1 0):=Sy h.Y.I U U Z;have Z8:ia o.w (D 0) (.cl 0 0):=Sy h.r.N.I U U Z;have Z9:∀C,1<=C->C<=fJ f j->ia o.w (D C) (.cl 1 0):=λC I P=>Sy (h.r.I C I P).I U U Z;have T:∀g c,ia o.w g c->mV g o.w:=λg c q=>⟨by rw[show(⟨g,0,Á⟩:ã)=fL g from rfl,q.C];rfl,by rw[show(⟨g,1,Á⟩:ã)=gR g from rfl,q.M];rfl⟩;refine⟨⟨λg q=>⟨q.1,q.2.1⟩,λg q=>⟨?_,λz=> ?_,λz=>z.2.2 q⟩,λa=>Iff.rfl,λa=>Iff.rfl,λa q=>q,λg q=>akT g q,λg q=>Ø hH (H g<|Ã q).1,U,h.C.d.trans X,by show¬o.q;rwa[h.C.q],λg q=>Ã<|hV g q,Z7,Z8,Z9,⟨⟨v,h.r.N.C U,rn⟩,λ_=> ?_⟩⟩,?_⟩
 .rcases q with q|q
  .exact h.C.O g q
  .rw[q];exact h.a.fj
 .rcases q with q|q
  .have:=(H g z).1;have:=Y g q;omega
  .exact(H g z).2.1 q
 .refine⟨?_,by unfold kV;rw[show o.w.heap[(kG M L n j f r D O u j6 y k m j9 b cs l).an]?=Â (xx j)from h.I.I],xC⟩;show o.w.cell? ⟨k,j,Á⟩=Á;simp only[Ù,h.I.I,xx,Ļ,ŀ,if_false];exact Array.getElem?_eq_none<|by rw[Ū];exact Û _
 refine⟨h.C.d.trans X,by show¬o.q;rwa[h.C.q],Ĉ _,Ã ⟨U,⟨λg q=>⟨⟨g,q,Ã U⟩,⟨g,q,Ç U⟩⟩,λg q=> ?_,Ç<|Ç U,h.a.C U,(Ã<|K j9 h.c.fj Z Z λz=>(H j9 z).2.2.1 U),h.c.C U,λC E=> ?_,λe hi=> ?_,λa q=> ?_,λg q=>Ç q,λg q=>h.C.r g (Ã q) id⟩,t,j7,J,jQ,hT,⟨(K j7 h.d.fj Z Z λz=>(H j7 z).2.2.2.1 U),h.d.I⟩,⟨(K J h.b.fj Z Z λz=>(H J z).2.2.2.2.1 U),h.b.I⟩,U⟩⟩
 .rcases Q g (Ã q)with rfl|⟨C,E,rfl⟩|rfl
  .exact T _ _ Z7
  .by_cases x:C=0
   .subst x;exact T _ _ Z8
   .exact T _ _<|Z9 C Z E
  .exact absurd q λz=>by
    rcases z with z|⟨C,x,F⟩
    .have G:g=b:=z;omega
    .have G:g=D C:=F;have:=(N C x).1;omega
 .have tX:C<fJ f j:=E;rcases h.r.jO.2 with⟨_,e2⟩|⟨g,cap,cur,V,_,hcur,IZ⟩
  .omega
  .have zn:O=Â ⟨g,0,Á⟩:=by injection V
   subst zn;have x:=h.r.jO.cells U;have hz:(gY f j).zipIdx[C]?=Â ((gY f j).getD C 0,C):=by rw[List.getElem?_zipIdx,Db Z];simp
   have F:∀c,c<4->(jO f r D j)[C*4+c]?=(tI r D ((gY f j).getD C 0,C))[c]?:=λc q=>R8 (λ_=>rfl) q _ C _ hz;have G:∀p,(⟨g,0,Á⟩:ã).add p=⟨g,p,Á⟩:=λp=>by rw[ħ,ĕ]
   refine⟨g,U,Ã (K g (h.r.r g U).1 (Ø Z (h.r.r g U).2) (by have:=(h.r.r g U).2;omega) λz=>(H g z).2.2.2.2.2.1 g U U),?_,?_,?_,?_⟩
   .have:=x (C*4+0) _<|F 0 Z;rwa[G]at this
   .have:=x (C*4+1) _<|F 1 Z;rwa[G]at this
   .have:=x (C*4+2) _<|F 2 Z;rwa[G]at this
   .have:=x (C*4+3) _<|F 3 Z;rwa[G]at this
 .have lz:e<(jB f j).length:=hi;rcases h.r.mJ.2 with⟨_,e2⟩|⟨g,cap,cur,V,_,hcur,IZ⟩
  .omega
  .have Sr:u=Â ⟨g,0,Á⟩:=by injection V
   subst Sr;have x:=h.r.mJ.cells U;have F:∀c,c<4->(mJ f r D j)[e*4+c]?=(tQ f r D<|(jB f j).getD e 0)[c]?:=λc q=>R8 (λ_=>rfl) q _ e _<|Db lz;have G:∀p,(⟨g,0,Á⟩:ã).add p=⟨g,p,Á⟩:=λp=>by rw[ħ,ĕ]
   refine⟨g,U,Ã (K g (h.r.C g U).1 (Ø Z (h.r.C g U).2) (by have:=(h.r.C g U).2;omega) λz=>(H g z).2.2.2.2.2.2 g U U),?_,?_,?_,?_⟩
   .have:=x (e*4+0) _<|F 0 Z;rwa[G]at this
   .have:=x (e*4+1) _<|F 1 Z;rwa[G]at this
   .have:=x (e*4+2) _<|F 2 Z;rw[G]at this;show o.w.cell? ⟨g,e*4+2,Á⟩=Â (À<|Â ⟨D (if e<(jB f j).length then fJ f ((jB f j).getD e 0)else 0),0,Á⟩);rw[if_pos lz];exact this
   .have:=x (e*4+3) _<|F 3 Z;rwa[G]at this
 .have V:∀p,p<j->(o.w.cell? ⟨k,p,Á⟩).isSome=Ó/\o.w.frozen? ⟨k,p,Á⟩=Í:=λp hp=>by
   refine⟨?_,MK h.I.I⟩;have:p<(madeCells (Β<|á ⟨#[]⟩) j).size:=by rwa[Ū]
   simp[Ù,h.I.I,this]
  let⟨x,_,F⟩:=q;unfold lW at F;split at F
  .obtain⟨C,I,P,rfl|rfl⟩:=F
   .have G:=P;refine⟨?_,MK (h.r.I C I G).I⟩;show(o.w.cell? ⟨D C,2,Á⟩).isSome=Ó;rw[(h.r.I C I G).C U];rfl
   .have G:C<=fJ f j:=P;exact V _ (I6<|vT Z).1
  .obtain⟨e,I,_,rfl⟩:=F;exact V _ (I7<|vT I).1
end
end Go.Proofs.Y.fq
namespace Go.Proofs.Y.fq
open Go Go.Conc Go.Proofs.Y.Lift Go.RowKit Go.Conc.Lib Go.ConcR.Gen
open Go.Proofs Go.Proofs.YtgpphkdoanciiaaGreatDoor
open Go.ConcN (sumTo sumTo_congr)
def MN(kd:Nat->Int)(f:Nat->Nat)(R n:Nat)(h:Ð)(l:e9)(cs:List é):Jd:=λi j=>
 ∃g k t m b o c p a d e q,Mw kd f g R m b h o c p a d e l k i/\IG c a (g<|fJ kd R) n b t/\j=CJ (À<|Â ⟨a,0,Á⟩) q (À<|Â ⟨a,0,Á⟩) (ñ #[]) d e (Fu t::cs)
theorem a_(h:w.ownsRow i e j v n l):∃b c,v=Æ b n c:=by rcases h.2 with⟨a,d⟩|⟨b,f,g,a,_⟩;all_goals grind
section
variable{F:Ph}{E:fT F}{S:Nat->Jd}{B:Nat->gq}{G:Nat->iz}{y:Nat->e9}{o:Array Ý}
theorem PI.akU(p:PI F j9 zX E S B G y o w qJ)(c:E.M=.fZ)(d:1<=F.n):E.S=.kN F.m/\(∀i,i<F.q->w.cell? (jo F<|F.a i)=Â (á<|F.k i)/\∀k,k<o.size->¬(y k).r (jo F<|F.a i)):=by
 let⟨j,a⟩:=p.ju c;refine⟨p.C.f (by let⟨N,h⟩:=a 0 Z;rw[h];simp),λi k=> ?_⟩;have l:i%F.n<F.n:=Ŀ _ d;have e:i%F.n+i/F.n*F.n=i:=by rw[Nat.mul_comm];exact Nat.mod_add_div i F.n
 let⟨N,h⟩:=a (i%F.n+1) Z;let⟨_,r,f,g⟩:=p.C.l (i%F.n) Z (by rw[h];simp);have b:i/F.n<(E.C<|i%F.n).kD:=by rw[f];exact(g (i/F.n)<|by rwa[e])
 have s:=p.M.N (i%F.n) Z (i/F.n) (by rwa[e]) b;have t:=p.a.d (i%F.n) Z (i/F.n) (by rwa[e]) b;grind
end
structure akV(D:SD)(l:e9)(w:ß)(g:Ý):Prop where
 I:∀b,l.O b->w.heap[b]?=l.w.heap[b]?
 cba:w.cell? ⟨D.S,0,Á⟩=Â (Æ (Â ⟨D.an,0,Á⟩) D.N D.N)
 kN:∀k,1<=k->k<=D.m->w.cell? ⟨D.an,D.Y k,Á⟩=Â (á<|D.d k)
 Sz:∀i,i<D.q->w.cell? ⟨D.an,D.b i,Á⟩=Â (á<|D.i i)
 I8:∃s sl V,nD (D.r Ä) D.m s/\w.cell? ⟨D.C D.m,2,Á⟩=Â sl/\D.RD s sl V w/\∀b,V b->b<w.heap.size/\b≠D.I
 fv:D.an<w.heap.size/\D.S<w.heap.size/\D.C D.m<w.heap.size
 r:D.an≠D.I/\D.S≠D.I/\D.C D.m≠D.I
 SA:∃ts,SE D.S D.I (D.C D.m) ts/\g=FA ts D.e
 C:w.cell? ⟨D.an,D.N,Á⟩=Á/\kV w D.an=Â (0,0)
 io:w.os=l.w.os/\w.output=l.w.output
section
variable{M:xE}{f:Nat->Int}{u:Nat->Nat}{cs:List é}{l:e9}{I:Nat->Nat}{y:Nat->e9}{o:Array Ý}
theorem akW(c:si Ä zX j (MN f u J n v l cs) .fy I y o w qJ)(S:Option (Nat×Nat))(s:gu l)(ML:∀b,¬l.I b)(hq:¬l.q)(hd:l.d=0)(hH:j<=l.w.heap.size)(hV:∀b,M.r b->l.O b)(rn:∀s S V w G,M.RD s S V w->(∀b,V b->G.heap[b]?=w.heap[b]?)->M.RD s S V G)(Dc:M.RD M.C v M.r l.w)(xC:w.os=l.w.os/\w.output=l.w.output)(hn:1<=n)(hs:n+J<1000) (hA:∀g r t B D e m p h,l.w.heap.size<=m->FB (kG M o.size n J f u g r t B D e m p h cs l)/\FC (kG M o.size n J f u g r t B D e m p h cs l)): ∃g r t B D e m p h,(l.w.heap.size<=e/\l.w.heap.size<=m/\l.w.heap.size<=h/\∀k,k<=fJ f J->l.w.heap.size<=g k)/\ ∃N Y a H C i G K E z,Δ Ä N (Ĵ o w S) qJ=(.next<|Ĵ i G K,E)/\i.size=o.size+(n+1)/\i[0]?=Â z/\a<=G.heap.size/\h<a/\j<=a/\(C 0).d=0/\z.status=Ē/\ kF Ä Y (λF=>zX F\/∃x:ã,F=ÿ x/\x.block=h) a (ZS<|kG M o.size n J f u g r t B D e m p h cs l) .fy H C i G E/\akV (kG M o.size n J f u g r t B D e m p h cs l) l G z:=by
 have h0:=c.C;obtain⟨g0,vx⟩:∃g,o[0]?=Â g:=⟨_,í h0⟩;let⟨g1,q1,q2,q3,_⟩:=c.r.C 0 g0 vx;obtain rfl:g0=g1:=by cases q2;rfl
 have hz:=q1 w<|c.r.r.r 0 h0;let⟨g,lp,tt,iv,qv,e,m,p,h,bw,bf,T,F,hT,hg⟩:=hz;obtain⟨r,B,rfl⟩:=a_ F.r.jO;obtain⟨t,D,rfl⟩:=a_ F.r.mJ;let⟨a1,a2,a3⟩:=F.M;let⟨a4,a5,a6⟩:=F.S;have SB:∀k,k<=fJ f J->lp.w.heap.size<=g k/\g k<p:=λk W=>⟨(F.r.M k W).1,F.N k W⟩;have au3:=SB 0 Z;have akX:=rn _ _ _ _ _ Dc λb q=>F.C.r b (Ã<|hV b q) id;obtain⟨st,hgo⟩:=akS F s ML hq hd hH hV akX xC hn hs hT λ_=>0;have ok:=akR (L:=o.size) (cs:=cs) (RB:=λb=>l.O b\/b=m) (RC:=λw=>∀b,l.O b->w.heap[b]?=l.w.heap[b]?) F (λw G P X b a=>(X b<|Ã a).trans<|P b a) (e5:=λw=>w.os=l.w.os/\w.output=l.w.output) (λw G P X=>⟨X.1.trans P.1,X.2.trans P.2⟩) rn hn Z hs;let⟨hAdd,akY⟩:=hA g r t B D e m p h Z;have Hy:=akG ok hAdd akY;have CX:=F.C.d.trans hd;have st':Sx ((kG M o.size n J f u g r t B D e m p h cs l).r Ä) j (y 0) (MJ (kG M o.size n J f u g r t B D e m p h cs l) {y 0 with w:=w}) w:=⟨st.fj,st.rd,st.r,st.C,st.k,st.I,st.M,st.f,st.d,st.q,st.N,st.S,st.Y,st.c,st.e⟩;rw[<-hg]at hgo;have p0:=c.akM Hy U U vx st' CX (λ_=>0) hgo;let⟨N1,E,S1,tr1,kp1,au4,gs1,w1,b_,t1,r1,x,hf,he⟩:=aiA Hy _ _ _ _ _ _ _ o w S qJ U U p0 (by intro q;cases q);let⟨oP,_⟩:=x.ju hf;let⟨zx,c1⟩:=x.akL hf he U h0;let⟨N2,MO,SC,gs2,w2,MP,t2,r2,z2,N,c2⟩:=c1.G (λa i z=>Ã<|Hy.M E.I a i z) (tr1 0) _ zx _ gs1 w1 b_ t1 U;have SF:gs1.size=o.size+(n+1):=by rw[x.b,oP];rfl
 have MQ:=c2.C;obtain⟨g2,MR⟩:∃g,gs2[0]?=Â g:=⟨_,í MQ⟩;let⟨g3,u1,u2,u3,_⟩:=c2.r.C 0 g2 MR;obtain rfl:g2=g3:=by cases u2;rfl
 have hE:=u1 w2<|c2.r.r.r 0 MQ;let⟨e1,e2,dat,ts,ru,hge⟩:=hE;have Q:0<gs1.size:=Z
 have C:=x.I.r;have hY:=λb q z=>C.I 0 Q b (Ã z) q;have H:E.Y e:=Ç<|Ã U;have yG:∀k,k<=fJ f J->E.Y (g k):=λk W=>Ã<|Ç ⟨k,W,U⟩;have c_:E.Y h:=Ã<|Ã U;let⟨hip,akZ⟩:=x.akU hf hn;have hmd:E.S.md=fJ f J:=by rw[hip];rfl
 let⟨H3,⟨d_,SG,MS⟩,_⟩:=x.M.M (fJ f J) Z;have K:=C.N;refine⟨g,r,t,B,D,e,m,p,h,⟨a1,Z,Z,λk W=>by have:=SB k W;omega⟩,N1+N2,E.Y,w1.heap.size,MO,SC,gs2,w2,MP,t2,g2,?_,Z,MR,N.r,K h c_,?_,e1,Hy.M E.I _ _<|u1 w2<|c2.r.r.r 0 MQ,c2,⟨dat.e,dat.d,λk P X=> ?_,λi hi=> ?_,?_,?_,(⟨show e≠h by omega,show m≠h by omega,show g (fJ f J)≠h by have:=SB (fJ f J)<|Û _;omega⟩),⟨ts,ru,hge⟩,?_,?_⟩⟩
 .rwa[runNT_add,show Δ Ä N1 (Ĵ o w S) qJ=_ from r1]
 .grind
 .have a:k<=fJ f J:=X;refine ŉ (N.M ⟨e,_,Á⟩ (K e H) (hY e H)<|x.a.g k P Z 0 Q)<|x.M.S k P Z
 .let⟨T,v2⟩:=akZ i hi;exact ŉ (N.M ⟨e,_,Á⟩ (K e H) (hY e H)<|v2 0 Q) T
 .refine⟨E.c<|fJ f J,d_,E.V<|fJ f J,H3,(ŉ (N.M ⟨g<|fJ f J,2,Á⟩ (K _<|yG _<|Û _) (hY _<|yG _<|Û _)<|x.a.N (fJ f J) Z 0 Q) SG),rn _ _ _ _ _ MS λb q=> ?_,λb q=> ?_⟩
  .let⟨T,v2,v3⟩:=x.a.I (fJ f J) Z b q;exact N.jT b T (v3 0 Q) λa ha z=>v2<|ha▸C.e 0 Q a (Ã z)
  .let⟨T,v2,v3⟩:=x.a.I (fJ f J) Z b q;exact⟨È T N.r,λz=>v2<|z▸c_⟩
 .refine⟨È (K e H) N.r,c2.r.r.fv 0 MQ m<|Ç dat.c,È (K _<|yG _<|Û _) N.r⟩
 .let⟨a,y2,_⟩:=(x.M.M 0<|Ĉ _).2.2 U;exact⟨ŉ (N.M ⟨e,J,Á⟩ (K e H) (hY e H)<|x.a.Qp Hy.C 0 Q) a,(N.Y e (K e H)<|hY e H).trans y2⟩
 .let⟨_,_,a⟩:=(x.M.M 0<|Ĉ _).2.2 U;exact⟨N.C.trans a.1,N.I.trans a.2⟩
end
def SH(a:κ->Prop)(w:ß):e9 where
 O:=λb=>b<w.heap.size/\∀x:ã,x.block=b->¬a (ÿ x)
 I:=λ_=>False
 r:=λ_=>False
 N:=λ_=>False
 K:=λ_=>False
 q:=False
 d:=0
 w:=w
def f_(a:κ->Prop)(w:ß):gu (SH a w):= ⟨λ_ _ h=>h,λ_ h=>h.elim,λ_ h=>h.elim (λq=>q.elim) λq=>q.elim,λ_ h=>h.elim (λq=>q.1) λq=>q.elim,λ_ h=>h.elim (λq=>q.elim) λq=>q.elim,λ_ h=>h.elim⟩
structure vU(jm:κ->Prop)(H:Nat)(l:e9):Prop where
 r:∀x:ã,jm (ÿ x)->x.block<H
 fj:∀b,l.O b->∀x:ã,x.block=b->¬jm (ÿ x)
 C:H<=l.w.heap.size
inductive zy(M:xE):Nat->M.γ->Prop
 |vo:zy M 0 M.C
 |ED {k:Nat} {s s':M.γ} (h:zy M k s) (hn:M.M k s s'):zy M (k+1) s'
structure Hg(M:xE)(R:Nat)(kd:Nat->Int)(l:e9)(an:Nat)(sl:Ð)(l':e9):Prop where
 vt:∀b,l.O b->l'.O b/\l'.w.heap[b]?=l.w.heap[b]?
 kD:l'.O an/\∀p,p<R->l'.w.cell? ⟨an,p,Á⟩=Â (á<|M.I p)
 I8:∃s V,zy M (fJ kd R) s/\M.RD s sl V l'.w/\∀b,V b->l'.O b
 d:l'.d=0
 q:¬l'.q
 rd:∀b,¬l'.I b
 xF:(∀a,¬l'.r a)/\(∀a,¬l'.N a)/\∀a,¬l'.K a
 Ek:l'.w.cell? ⟨an,R,Á⟩=Á/\kV l'.w an=Â (0,0)
section
variable{M:xE}{R H:Nat}{kd:Nat->Int}{e:Nat->Nat}{f:List é}{l:e9}{jm:κ->Prop}{o:Nat->e9}
def ak0{a:Option ã}{s:M.γ}(h:nD ((kG M i n R kd e D O a j b m J j9 j7 qX l).r Ä) k s):zy M k s:=by
 have c:∀(k:Nat) (s:((kG M i n R kd e D O a j b m J j9 j7 qX l).r Ä).γ),nD ((kG M i n R kd e D O a j b m J j9 j7 qX l).r Ä) k s->zy M k s:=λk s h=>by
  induction h with
  |vo=>exact .vo
  |ED _ d f=>exact .ED f d
 exact c k s h
def ak1{J:(κ->Prop)->Nat->Jd}{cf:é}{a:ŝ}(HZ:qX=cf.at a (Ï Q (i::jJ)::L)::f)(c:si Ä jm H (MN kd e R n v l qX) .fy D o E w qJ)(F:Option (Nat×Nat))(s:gu l)(ML:∀b,¬l.I b)(hq:¬l.q)(hd:l.d=0)(S:vU jm H l)(hV:∀b,M.r b->l.O b)(rn:∀s F V w u,M.RD s F V w->(∀b,V b->u.heap[b]?=w.heap[b]?)->M.RD s F V u)(ak2:∀s F V w,M.RD s F V w->(∃p m c,F=Æ p m c)/\∀b,V b->l.O b\/l.w.heap.size<=b)(Dc:M.RD M.C v M.r l.w)(xC:w.os=l.w.os/\w.output=l.w.output)(hn:1<=n)(hs:n+R<1000) (hA:∀g ib qb ci cq B ba bi I,l.w.heap.size<=ba->FB (kG M E.size n R kd e g ib qb ci cq B ba bi I qX l)/\FC (kG M E.size n R kd e g ib qb ci cq B ba bi I qX l)) (hJ:∀FD C W B p m c,vU FD C W->gu W->Hg M R kd l B (Æ p m c) W->fg Ä Ó (J FD C) W (G (cf.at (a.put ((Q[i]?).bind (·.dst))<|ñ #[Æ (Â ⟨B,0,Á⟩) R R,Æ p m c])<|Ï Q jJ::L) f)): ∃N FD C T jC I9 gs' u tA t',Δ Ä N (Ĵ E w F) qJ=(.next<|Ĵ gs' u tA,t')/\(u.os=l.w.os/\u.output=l.w.output)/\si Ä FD C (J FD C) T jC I9 gs' u t':=by
 let⟨g,ib,qb,ci,cq,B,ba,bi,I,⟨b1,b2,b3,b4⟩,N,Y,C,jC,I9,gs',u,tA,t',g',r,z1,z2,z3,z4,z5,z6,z7,cY,t⟩:=akW c F s ML hq hd S.C hV rn Dc xC hn hs hA;let⟨st,d_,V,H3,SG,MS,MU⟩:=t.I8;obtain⟨⟨sp,sm,sc,rfl⟩,g_⟩:=ak2 _ _ _ _ MS;obtain⟨ts,ru,rfl⟩:=t.SA;have hH:=S.C;have h_:=λb q=>s.fv b<|Ã q;have X:∀b,(l.O b\/l.w.heap.size<=b)->b<u.heap.size->b≠I->(SH (λj=>jm j\/∃x:ã,j=ÿ x/\x.block=I) u).O b:=λb hb gI lr=>by
  refine⟨gI,λx hx=> ?_⟩;rintro(q|⟨y,P,q2⟩)
  .rcases hb with hb|hb
   .exact S.fj b hb x hx q
   .have:=S.r x q;omega
  .injection P with P;subst P;omega
 have ak3:=λb q=>by have h:=t.I b q;rw[í<|h_ b q]at h;exact(æ.1 h).1
 have keep:=λb q=>X b (Ã q) (ak3 b q) (by have:=h_ b q;omega);have MV:=X B (Ç b1) t.fv.1 t.r.1;have ak4:fg Ä Ó (J (λj=>jm j\/∃x:ã,j=ÿ x/\x.block=I) C) (SH (λj=>jm j\/∃x:ã,j=ÿ x/\x.block=I) u) (FA ts qX):=by
  rw[HZ];refine akm (f_ _ _) (λq=>q) ru (Ã<|X ba (Ç b2) t.fv.2.1 t.r.2.1) (Ã<|Ã<|X _ (Ç<|b4 _<|Û _) t.fv.2.2 t.r.2.2) t.cba SG λW h=> ?_;refine hJ (λj=>jm j\/∃x:ã,j=ÿ x/\x.block=I) C W B sp sm sc ⟨λx q=> ?_,λb q x hx=> ?_,Ø z3 h.I⟩ (h.N<|f_ _ _) ⟨λb q=>⟨h.O b<|keep b q,(h.r b (Ã<|keep b q) id).trans<|t.I b q⟩,⟨h.O B MV,λp hp=> ?_⟩,⟨st,V,ak0 H3,rn _ _ _ _ _ MS λb q=>h.r b (Ã<|X b (g_ b q) (MU b q).1 (MU b q).2) id,λb q=>h.O b<|X b (g_ b q) (MU b q).1 (MU b q).2⟩,h.d,?_,λb q=> ?_,⟨λa q=> ?_,λa q=> ?_,λa q=> ?_⟩,⟨(gM<|h.r B (Ã MV) id).trans t.C.1,(wY<|h.r B (Ã MV) id).trans t.C.2⟩⟩
  .rcases q with q|⟨y,P,q2⟩
   .exact È (S.r x q) z5
   .injection P with P;subst P;omega
  .rcases h.c b q with q|q
   .exact q.2 x hx
   .have j:u.heap.size<=b:=q;rintro(z|⟨y,z1,z2⟩)
    .have:=S.r x z;omega
    .injection z1 with z1;subst z1;omega
  .refine(gM<|h.r B (Ã MV) id).trans ?_;by_cases hk:kd p=1
   .have hm:p∈gY kd R:=ą.2 ⟨ě.2 hp,by simpa using hk⟩;let⟨j,y⟩:=İ hm;have P:=(ĝ.1 y).1;have:=t.kN (j+1) Z (show j+1<=fJ kd R from P);have e2:(gY kd R).getD (j+1-1) 0=p:=Ô<|(Db P).symm.trans y;simp only[kG,MI,e2]at this;exact this
   .have hm:p∈jB kd R:=ą.2 ⟨ě.2 hp,by simpa using hk⟩;let⟨j,y⟩:=İ hm;have P:=(ĝ.1 y).1;have:=t.Sz j P;simp only[kG,MI,Ô<|(Db P).symm.trans y]at this;exact this
  .rw[h.q];exact id
  .rw[h.S]at q;exact q
  .rw[h.Y]at q;exact q
  .rw[h.b]at q;exact q
  .rw[h.K]at q;exact q
 let⟨T,h⟩:=jl ak4;exact⟨N,_,C,T,jC,_,gs',u,tA,t',r,t.io,cY.Y z6 z2 z7 U U id (λ_=>id) (λ_=>id) (λ_=>id) (λ_=>id) (λb q=>q) h⟩
end
end Go.Proofs.Y.fq
namespace Go.Proofs.Y.fq
open Go Go.Conc Go.Proofs.Y.Lift Go.RowKit Go.Conc.Lib Go.ConcR.Gen
open Go.Proofs Go.Proofs.YtgpphkdoanciiaaGreatDoor
def qx(V:Nat->Prop)(base:Nat):fl:=⟨λi j=>i=j/\V i,base⟩
def ak5(V:Nat->Prop)(base:Nat):Bi (qx V base):= ⟨λ_ _ _ h k=>h.1.symm.trans k.1,λ_ _ _ h k=>h.1.trans k.1.symm,λi j h=>by rw[h.1]⟩
def lA(j:Nat):Bool:=j==3||j==4
def uL(c:Array Ð):Array Ð:=c.extract 0 16
def ak6(c:Array Ð):(uL c).size=min 16 c.size:=by simp[uL]
open Classical in
noncomputable def pK (a:Nat->Prop) (j:Nat):Ε->Ε
 |Ê c e b=>if a j then(if lA j=Ó then Ê (uL c) e (0,(uL c).size)else Ê c e (0,c.size))else Ê c e b
 |_=>Ê #[] 0
noncomputable def ll (Sh:Nat->Prop) (w:ß):ß:={w with heap:=w.heap.mapIdx (pK Sh)}
section
variable{V Sh:Nat->Prop}{base:Nat}
def FE(j:Nat):(ll Sh w).heap[j]?=(w.heap[j]?).map (pK Sh j):=by simp[ll,Array.getElem?_mapIdx]
def h':ko (ll Sh w):=λi o h=>by
 rw[FE]at h;obtain⟨x,_,rfl⟩:=ĩ.1 h;cases x<;>simp only[pK]<;>try exact id
 split
 .split<;>exact id
 .exact id
structure MW(V Sh:Nat->Prop)(base:Nat)(w:ß):Prop where
 SA:∀b,V b->∃c e fr,w.heap[b]?=Â (Ê c e fr)/\fr.2<=c.size/\fR (qx V base) c c/\(Sh b->0<c.size/\(lA b=Ó->(e=304\/e=305)/\fr.2<=16)/\(lA b=Í->Eh c))
 fv:base<=w.heap.size
def ak7(h:MW V Sh base w):rN (qx V base) Sh (ll Sh w) w:=by
 refine⟨U,U,ak5 V base,by show base<=(w.heap.mapIdx<|pK Sh).size;rw[Array.size_mapIdx];exact h.fv,h.fv,λi j o=> ?_⟩;obtain⟨rfl,p⟩:=o;let⟨c,e,a,b,l,f,r⟩:=h.SA i p;have g:(ll Sh w).heap[i]?=Â (pK Sh i<|Ê c e a):=by rw[FE,b];rfl
 by_cases s:Sh i
 .let⟨t,u,v⟩:=r s;cases d:lA i with
  |true=>
   let⟨x,y⟩:=u d;have z:=ak6 c;have m:GN e (uL c).size:=⟨x,Z⟩;refine⟨uL c,c,e,(0,(uL c).size),a,?_,b,⟨λk B n=> ?_,Z,Ç ⟨s,m⟩⟩,λ_=>⟨U,Û _,by show a.2<=(uL c).size;omega,Z,Ç m⟩,λq=>absurd s q,Û _⟩
   .show(ll Sh w).heap[i]?=_;rw[g];simp[pK,s,d]
   .have:(uL c)[k]=c[k]:=by simp[uL]
    rw[this];exact f.C k n n
  |false=>
   refine⟨c,c,e,(0,c.size),a,?_,b,pg.M f,λ_=>⟨U,Û _,l,t,Ã<|v d⟩,λq=>absurd s q,Û _⟩;rw[g];simp[pK,s,d]
 .refine⟨c,c,e,a,a,?_,b,pg.M f,λq=>absurd q s,λ_=>rfl,l⟩;rw[g];simp[pK,s]
end
section
variable{a:Nat->Prop}{l:e9}{V:Nat->Prop}
theorem FF(y:nU P)(B:pw P a X)(hF:tV P X)(C:wV vQ){k:Array Ð}(D:X F)(E:P.funcs[F]?=Â s)(H:s.body=Â wX)(r:gu l)(I:¬l.q) (n:∀b,V b->l.M b) (J:MW V (λj=>V j/\¬l.O j) P.globals.size l.w) (K:∀g,a g->V g) (L:fR (qx V P.globals.size) k k) (N:∀T,Calls P F k (World.tp (ll (λj=>V j/\¬l.O j) l.w) T 0) fun|.returned v,e=>vQ v e/\ko e|_,_=>False) (t:Bool) (o:é) (p:List é): fg P t (λh u=>∃(Y:fl) (e:ß) (v m:Ð),(qx V P.globals.size).r Y/\rN Y (λj=>V j/\¬l.O j) e h.w/\fh Y v m/\vQ v e/\u=G (o.finish m) p/\(∀i j,Y i j->h.M j/\(V j\/l.O j\/l.w.heap.size<=j))/\(∀j,l.O j->h.O j)/\h.d=l.d) l (G (ć P F k Ĥ)<|o::p):=by
 refine(agB (afy y B hF C D E H h' N (Y:=qx V P.globals.size) U (λg q=>⟨U,K g q⟩) L (ak7 J) (λj q=>r.fv j<|n j q.1) (λi j _ q=>(n j q.1).resolve_left q.2) t o p) l U (λj q=> ?_) (λ_ q=>q) (λj q=>r.fv j<|Ã q) I).fN ?_
 .obtain⟨⟨i,rfl,x⟩,Q⟩:=q;grind
 .rintro h u ⟨O',⟨Y,e,v,m,S,rfl,W,q3,q4,q5⟩,Q,h3,h4,h5,h6,h7,h8,h9,h10,h11,h12⟩;refine⟨Y,e,v,m,S,W,q3,q4,q5,λi j SJ=> ?_,h4,h10⟩;by_cases z:V j/\¬l.O j
  .exact⟨Ç (by rw[h7];exact(n j z.1).resolve_left z.2),Ã z.1⟩
  .have x:=h3 j ⟨⟨i,SJ⟩,z⟩;exact⟨Ã x,Ç<|h6 j x⟩
end
section
variable{l:e9}{V GL:Nat->Prop}
def FG(s:gu l):gu (mg l):=by refine⟨λ_ h=>h.elim,λ_ h=>h.elim,λa c d=>s.N a (c.resolve_left id)<|d.resolve_left id,λb d=>s.fv b<|d.resolve_left id,λa c=>s.I a<|c.resolve_left id,λa c=>⟨λq=>(s.S a c).1<|q.resolve_left id,(s.S a c).2.1,id⟩⟩
structure FH(GL:Nat->Prop)(f:Ł)(args:Array Ð)(l:e9)(V:Nat->Prop)(kn:Ð->ß->Prop):Prop where
 N:∀b,V b->l.M b
 S:MW V V Ä.globals.size l.w
 I:∀g,GL g->V g
 r:fR (qx V Ä.globals.size) args args
 C:∀T,Calls Ä f args (World.tp (ll V l.w) T 0) fun|.returned v,u'=>kn v u'/\ko u'|_,_=>False
def ak8(m:nU Ä)(n:pw Ä GL X)(hF:tV Ä X)(e:X 67){D:SD}(h:∀i s d W l,i<D.q->nD (D.r Ä) (D.a i) s->D.RD s d W l.w->(∀b,W b->l.M b)->gu l->¬l.q->(∀b,D.c b->l.M b)->D.RC l.w->∃V,FH GL 67 #[d,À<|D.h i] l V λv _=>v=á (D.i i)):FC D:=by
 intro i s d W l o p r t f g x y z B;let⟨V,a⟩:=h i s d W l o p r t f g x y;let⟨G,c,C,E⟩:=hF 67 e;have k:(λj=>V j/\¬(mg l).O j)=V:=by funext j;exact propext ⟨λq=>q.1,λq=>⟨q,id⟩⟩
 refine(FF m n hF (λv u T D h=>h) e C E (FG f) g (λb q=>Ç<|a.N b q) (by rw[k];exact a.S) a.I a.r (by rw[k];exact a.C) Í z B).fN ?_;rintro H I ⟨Y,J,v,K,_,_,j,u,T,_,_,F⟩;subst u;cases j;exact⟨F,T⟩
theorem ak9(P:nU Ä)(Q:pw Ä GL X)(hF:tV Ä X)(B:X 66){D:SD}(Rg:D.γ->Ð->ß->Prop)(hRg:∀s a u T n,Rg s a u->Rg s a (World.tp u T n)) (h:∀k s a W l,k<D.m->nD (D.r Ä) k s->D.RD s a W l.w->(∀b,W b->l.M b)->gu l->¬l.q->(∀b,D.c b->l.M b)->D.RC l.w->∃V,FH GL 66 #[a,À<|D.l<|k+1] l V (λv u=>∃p n c d,v=ñ #[Æ p n c,á<|D.d<|k+1]/\D.g k s d/\Rg d (Æ p n c) u)/\ ∀Y S u w d a C,rN Y S u w->fh Y a C->Rg d a u->(∀i j,Y i j->V j\/l.w.heap.size<=j)->∃e,D.RD d C e w/\∀b,e b->∃i,Y i b):FB D:=by
 intro k s a W l hk hr rn hW E F hRB hRC cl lT;let⟨V,f,tr⟩:=h k s a W l hk hr rn hW E F hRB hRC;let⟨fn,c,hf,g⟩:=hF 66 B;have G:(λj=>V j/\¬(mg l).O j)=V:=by funext j;exact propext ⟨λq=>q.1,λq=>⟨q,id⟩⟩
 refine(FF P Q hF (λv u T D h=> ?_) B hf g (FG E) F (λb q=>Ç<|f.N b q) (by rw[G];exact f.S) f.I f.r (by rw[G];exact f.C) Í cl lT).fN ?_
 .grind
 .rintro l' g' ⟨Y,u',v,v',_,q2,q3,⟨p,n,c,d,rfl,H,h3⟩,I,o,_,J⟩;cases q3 with
  |@nS _ cs'' hs mG=>
   let⟨ls⟩:=cs'';match ls,hs with
   |[x,y],_=>
    have r:=mG 0 fi fi;have K:=mG 1 fi fi;simp at r K;cases K;let⟨e,L,N⟩:=tr Y _ u' l'.w d _ x q2 r h3 λi j SJ=>(o i j SJ).2.imp id λz=>z.resolve_left id;cases r with
    |nR=>exact⟨J,Á,n,c,I,d,e,H,L,λb g=>by let⟨i,t⟩:=N b g;exact(o i b t).1⟩
    |kU=>exact⟨J,_,n,c,I,d,e,H,L,λb g=>by let⟨i,t⟩:=N b g;exact(o i b t).1⟩
end
end Go.Proofs.Y.fq
namespace Go.Proofs.Y.Lift
open Go
def FI(a:Nat->Bool):ĭ->Bool
 |ò (ę cs)=>cs.toList.all yA
 |ò (ñ cs)=>cs.toList.all yA
 |x=>wW a x
def i_(a:Nat->Bool)(x:ĭ):FI a x=wW a x:=by
 cases x with
 |const v=>cases v<;>simp[FI,wW,PF,ģ]
 |_=>rfl
def MX(P:ğ)(a:Nat->Bool)(b c:Ł->Bool)(o:å):Bool:=(Eu P b o.op&&o.op.operands.toList.all (FI a))||(PZ P c o.op&&o.op.operands.toList.all (FI a))
def MY(a:Nat->Bool)(b c:Ł->Bool)(o:å):MX P a b c o=Ex P a b c o:=by have:(FI a)=wW a:=funext<|i_ a;simp[MX,Ex,PQ,this,ģ]
def rv(P:ğ)(a:Nat->Bool)(b d:Ł->Bool):Ġ->Bool
 |ο|ŕ|.label _|Ŗ _|.goto _=>Ó
 |.seq x y=>rv P a b d x&&rv P a b d y
 |Ŕ c x y=>FI a c&&rv P a b d x&&rv P a b d y
 |ĥ _ c|.loop c|.scope c=>rv P a b d c
 |à _ c _=>c.toList.all<|MX P a b d
 |.refuse _=>Ó
 |_=>Í
def zz(a:Nat->Bool)(b d:Ł->Bool):∀c:Ġ,rv P a b d c=nY P a b d c
 |ο|ŕ|.label _|Ŗ _|.goto _|.refuse _|.rangeFunc _ _ _ _=>rfl
 |.seq x y=>by simp only[rv,nY,zz a b d x,zz a b d y]
 |Ŕ c x y=>by simp only[rv,nY,i_,zz a b d x,zz a b d y]
 |ĥ _ c|.loop c|.scope c=>by simp only[rv,nY,zz a b d c]
 |à _ x _=>by have:MX P a b d=Ex P a b d:=funext<|MY a b d;simp only[rv,nY,this,ģ]
end Go.Proofs.Y.Lift
namespace Go.Proofs.Y.fq
open Go Go.Conc Go.Proofs.Y.Lift Go.RowKit Go.Conc.Lib Go.ConcR.Gen
open Go.Proofs Go.Proofs.YtgpphkdoanciiaaGreatDoor
def j_:List Nat:=[35,38,44,54,55,56,60,66,67,78,79,103,113,114,115,116,117,118,119,120,121,122,123,124,125,126,153,154,155,156,157,158,159,160,161,162,168,169,170,171,172,173,174,175,176,177,178,186,187,188,189,190,191,192,193,194,196,197,198,199,200,201,202,203,204,205,206,207,208,209,210,211]
def xG(g:Nat):Bool:=[1,2,3,4].contains g
def xH(f:Nat):Bool:=j_.contains f
def zC(f:Nat):Bool:=[129,130].contains f
def Dd(P:ğ)(f:Nat):Bool:=match P.funcs[f]? with
 |some a=>match a.body with
  |some c=>rv P xG xH zC c
  |none=>Í
 |none=>Í
def ala:j_.all (Dd Ä)=Ó:=by rfl
def k_(h:xH i=Ó):Dd Ä i=Ó:=(Œ.1 ala) i<|by simpa[xH]using h
def alb(h:Dd P i=Ó):∃a c,P.funcs[i]?=Â a/\a.body=Â c:=by
 unfold Dd at h;split at h
 .rename_i a b;split at h
  .rename_i c d;exact⟨a,c,b,d⟩
  .cases h
 .cases h
def alc(h:Dd P i=Ó)(a:P.funcs[i]?=Â s)(b:s.body=Â wX):rv P xG xH zC wX=Ó:=by unfold Dd at h;rw[a]at h;simp only[b]at h;exact h
def m_:tV Ä (λf=>xH f=Ó):=λ_ h=>alb<|k_ h
def ald[Ap P](h:∀f,xH f=Ó->Dd P f=Ó)(a:Hk P zC):pw P (λg=>xG g=Ó) (λf=>xH f=Ó):=λf g e c b d=>by have:=alc (h f g) b d;rw[zz]at this;exact vq a this
instance au5:Ap Ä:=⟨λe n h=>by
 have h1:Ä.cellsOf 304=32:=fp
 have h2:Ä.cellsOf 305=64:=fp
 obtain⟨rfl|rfl,h3⟩:=h
 .rw[h1];omega
 .rw[h2];omega⟩
def ale(a:Hk Ä zC):pw Ä (λg=>xG g=Ó) (λf=>xH f=Ó):=ald (λ_ h=>k_ h) a
def FJ:Hk Ä zC:=λf h=>by
 have:f=129\/f=130:=by simpa[zC]using h
 rcases this with rfl|rfl
 .exact⟨_,Extern.AbiNoEscape.same,Tryz.func129,fM,fM,fM,fM,λ_ v a h=>afW v a h,afX⟩
 .exact⟨_,Extern.BytealgMakeNoZero.makeNoZero #[3] #[107],Tryz.func130,fM,fM,fM,fM,λ_ v a h=>afY #[3] 107 v a h,afZ #[3] 107⟩
def n_:pw Ä (λg=>xG g=Ó) (λf=>xH f=Ó):=ale FJ
end Go.Proofs.Y.fq
namespace Go.Proofs.Y.Lift
open Go Go.Conc
section
variable{Y:fl}{b:Ł->Prop}
def alf{e:Array Ð->Sem Ð}{y:ĭ}{m:Array Ź}(d:o.op=č {callee:=û<|Ċ F,args:=#[qQ,y],argTypes:=m})(q:P.funcs[F]?=Â s)(r:(s.name== "runtime.NumGoroutine")=Í)(t:s.body.isNone=Ó)(B:Extern.findNext s=Á)(C:Extern.find s=Â e) (D:∀(Y:fl) (v i z j:Ð),fh Y v i->fh Y z j->fE P fh Y (e #[v,z]) (e #[i,j])) (E:∀v z,fB P<|e #[v,z]) (G:∀y∈o.op.operands,mD X y):mP P X b o:=by
 have c:∀a:ŝ,Đ a.eval o=ū F #[a.eval qQ,a.eval y]:=by intro a;unfold Đ;rw[d];simp only[Μ,Ę,ġ,invoke,pure_bind,Array.empty_append,Array.append_empty,List.map_toArray,List.map_cons,List.map_nil]
 have k:∀(v z:Ð) (u:ß),(ū F #[v,z]).run P u=(mark (.extern F)>>=λ_=>e #[v,z]>>=λy=>pure (Next.value y):Sem Next).run P u:=by intro v z u;unfold ū;simp_all
 refine W6 (λY a w _ _ _ h=> ?_) (λa=> ?_) (λa u n H g=> ?_) G
 .rw[c,c];have I:=h qQ (by rw[d];simp[ŗ,Call.operands]);have J:=h y (by rw[d];simp[ŗ,Call.operands]);unfold ū;refine .gl (fD rF ?_);rintro M p N w ⟨K,L⟩;rw[K,L];simp only[q,r,t,B,C,ŀ,if_false,if_true];apply fD (V:=jr) (.Eg (Ç ⟨F,U⟩) (.fC U));intro O _ _ l _;exact mO<|D _ _ _ _ _ ((I.fN w).fN l)<|(J.fN w).fN l
 .rw[c];exact KC (k _ _)<|gk (Ha _) λ_=>lV<|E _ _
 .rw[c,k,Sem.run_bind]at g;simp only[mark,Sem.run,Result.andThen_ok]at g;have:Sem.run P (e #[a.eval qQ,a.eval y]>>=λy=>pure (Next.value y):Sem Next) u=.ok n H:=g;rw[Sem.run_bind]at this;cases h:(e #[a.eval qQ,a.eval y]).run P u with
  |ok v w=>rw[h]at this;cases this;exact⟨v,U⟩
  |halt z w=>rw[h]at this;cases this
def o_:∀(n:Nat) {Y:fl} {a b:ã} (c:ByteArray),gZ Y a b->fE P jr Y (ô a n c) (ô b n c)
 |0,_,_,_,_,_=> .fC U
 |n+1,Y,a,b,c,h=>by
  unfold ô;refine fD (Ks h) ?_;intro f v g d e;cases e<;>first|exact .fQ|skip
  rename_i k z;cases k<;>first|exact .fQ|skip
  exact o_ n _<|(h.r d).C 1
theorem p_:∀(n:Nat) (a:ã) (b:ByteArray),fB P<|ô a n b
 |0,_,_=>gD _
 |n+1,a,b=>by
  unfold ô;refine gk (Hb _ _) λv=> ?_;split
  .exact p_ n _ _
  .exact je _
def alg(h:fh Y v x):fE P jr Y (þ v) (þ x):=by
 cases h<;>first|exact .fQ|exact .fC U|skip
 exact o_ _ _<|by assumption
theorem alh(v:Ð):fB P (þ v):=by unfold þ;grind [gD,p_,je]
def ali(h:fh Y v x):fE P jr Y (ā v) (ā x):=by
 cases h<;>first|exact .fQ|skip
 rename_i k z;cases k<;>first|exact .fQ|exact .fC U
theorem alj(v:Ð):fB P (ā v):=by unfold ā;grind [gD,je]
def alk(v a z b:Ð)(h:fh Y v a)(k:fh Y z b):fE P fh Y (õ #[v,z]) (õ #[a,b]):=by
 apply fD (alg h);rintro j s d e f;obtain rfl:s=d:=f;apply fD (ali<|k.fN e);rintro l c g m i;obtain rfl:c=g:=i;split
 .exact .fC (.iC _ _)
 .exact .fC (.iC _ _)
theorem alm(v z:Ð):fB P (õ #[v,z]):=by refine gk (alh v) λs=>gk (alj z) λc=> ?_;grind [gD]
end
end Go.Proofs.Y.Lift
namespace Go.Proofs.Y.fq
open Go Go.Conc Go.Proofs.Y.Lift
open Go.Proofs Go.Proofs.YtgpphkdoanciiaaGreatDoor
def SK:List Nat:=[16,18,21,23,24,25,28,29,30,31,35,44,60,38,54,55,56,78,79,36,45,61,94,95,96,97,98,99,100,101,102,103,104,145,146,147,148,149]
def FK(f:Nat):Bool:=SK.contains f||f==167
def MZ(_:Nat):Bool:=Í
def M0(P:ğ)(f:Nat):Bool:=match P.funcs[f]? with
 |some a=>match a.body with
  |some c=>rv P MZ FK zC c
  |none=>Í
 |none=>Í
def aln:SK.all (M0 Ä)=Ó:=by rfl
def q_(h:SK.contains i=Ó):M0 Ä i=Ó:=(Œ.1 aln) i<|by simpa using h
theorem q'(h:M0 P i=Ó):∃a c,P.funcs[i]?=Â a/\a.body=Â c/\rv P MZ FK zC c=Ó:=by unfold M0 at h;grind
def zD:tV Ä (λf=>FK f=Ó):=λf h=>by
 rcases ĳ.1 h with q|q
 .let⟨a,c,b,d,_⟩:=q'<|q_ q;exact⟨a,c,b,d⟩
 .rw[beq_iff_eq]at q;subst q;exact⟨_,_,Ÿ,U⟩
def alo(h:Χ.body=Â wX):kL Ä (λg=>MZ g=Ó) (λf=>FK f=Ó) wX:=by
 unfold Χ at h;cases h;refine .rK (vq FJ<|by rw[<-zz];rfl) (.rK (.tU _ _ λo f=> ?_) .vl);simp only[List.mem_toArray,List.mem_cons,List.not_mem_nil,or_false]at f;rcases f with rfl|rfl|rfl|rfl
 .exact K1 FJ<|by rw[<-MY];rfl
 .exact K1 FJ<|by rw[<-MY];rfl
 .exact alf U Tryz.func185 fM fM fM fM (λ_ v g z o=>alk v g z o) alm λy g=>KU (by simp[ŗ,Call.operands]at g;rcases g with rfl|rfl|rfl<;>rfl)
 .exact K1 FJ<|by rw[<-MY];rfl
def M1:pw Ä (λg=>MZ g=Ó) (λf=>FK f=Ó):=λf h i c g a=>by
 rcases ĳ.1 h with q|q
 .let⟨j,k,b,d,e⟩:=q'<|q_ q;rw[g]at b;cases b;rw[a]at d;cases d;rw[zz]at e;exact vq FJ e
 .rw[beq_iff_eq]at q;subst q;rw[Ÿ]at g;cases g;exact alo a
end Go.Proofs.Y.fq
