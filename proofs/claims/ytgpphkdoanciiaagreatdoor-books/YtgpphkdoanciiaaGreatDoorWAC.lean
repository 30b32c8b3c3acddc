import Derived.Test.YtgpphkdoanciiaaGreatDoorWAB
import Derived.Conc.AppendWalk
import Derived.Conc.TokenWalk
set_option linter.all false
set_option maxRecDepth 1000000
set_option maxHeartbeats 8000000
open Go.Value renaming pointer->À,slice->Æ,int->Ê,oneCell'->Ø,string->à,chan->é,tuple->ñ,func->Ĉ,agg->Đ,bool->Ş,cells->ŵ
open Option renaming none->Á,some->Â,isSome_iff_exists->Ô,map_eq_some_iff->ġ,isSome_none->ı,getD_some->Ń
open Or renaming inl->Ã,inr->Ç
open Go.Proofs.Tryz renaming prog->Ä,t155->Ą,f46->Ĝ,t9->Ġ,func47->Ħ,underlying101->Ĵ,type155->ļ,underlying85->Ľ,underlying25->ľ,f52->Ŗ,func167->ŭ,func63->ů,func48->Ű,func49->ű,func50->Ų,func51->ų,func46->Ŵ,func52->Ŷ,t101->Δ,f167->Ζ,f49->Ι,f63->Κ,f47->Μ
open Go renaming undef->Å,Value->Ï,Goroutine->Ý,World->ß,events_store->á,Addr->â,Oper->å,Frame->ç,getD_set_ne->è,execOp->ĉ,Program->ė,Code->Ę,Operand->Ĥ,deafBehind->į,FuncId->ķ,Act->ŏ,maxLen->œ,size_madeCells->ř,callFunc->Ś,Item->Ŝ,yielded->Ť,TypeId->Ů,runNT->ŷ,Obj->Ÿ,Trace->ż,TypeInfo->Ž,Event->ž,resolve->ſ,Loc->Ν
open Nat renaming lt_of_lt_of_le->È,le_trans->Õ,le_refl->Ú,add_sub_cancel->ø,zero_le->ă,zero_add->č,mod_lt->ĵ,lt_succ_of_lt->Ĺ,le_of_lt->Ł,reduceAdd->ś,sub_zero->Ū,sub_self->ū
open Go.Obj renaming cells->É,chan->ŕ
open Go.Conc.Goes renaming stop->Ë
open Bool renaming false->Ì,true->Ò,or_eq_true_iff->ī,false_eq_true->Ķ
open Go.Ground renaming phase->Í,data->Ü,textOnly->Þ,gcOnly->õ,chain->ţ
open Go.IntKind renaming i64->Î,u64->ê,u32->Ď,wrap_i64->Γ
open Go.Departure renaming lateStores->Ð
open Go.Item renaming inRegion->Ñ,inBlock->ô,code->ö,inLoop->ą
open Option.some renaming inj->Ó
open Go.World renaming cell?->Ö,frozen?->î,setCell->þ,alloc->ň
open Go.Operand renaming tmp->Ù,func->ĸ,const->ũ
open Go.Region renaming ready->Û,Mode->ý,wanted->Ė
open List renaming range->ã,range_succ->ÿ,mem_filter->Ā,filter_append->ā,flatMap_cons->Ć,mem_range->Ē,setIfInBounds_toArray->ē,getElem?_eq_some_iff->Ĕ,length_filter_le->ģ,mem_of_getElem?->ħ,getElem?_of_mem->Ĩ,set_cons_succ->Ĳ,set_cons_zero->ĳ,size_toArray->Ļ,length_cons->ń,nodup_range->ņ,all_eq_true->Ň,length_nil->ŋ
open Go.Code renaming region->ä,block->İ,cond->ť,skip->Ŧ,exit->ŧ,ret->Ρ
open Array renaming getElem?_eq_some_iff->æ,getElem?_eq_getElem->ì,getElem?_modify->í,getD_eq_getD_getElem?->ď,all_toList->ĝ
open Go.Region.linearise renaming go->ë
open Go.MemAct renaming ofEvent->ï
open Go.Op renaming fieldAddr->ð,load->ć,move->ę,call->Ě,nilCheck->ĩ,operands->ŉ,extract->Ő,indexAddr->ő,makeFunc->ş,store->Ţ,assign->Ũ,binOp->Λ
open Go.Extern.Bytes renaming loadBytes->ò,bytesOf->ú,asByte->ü
open Go.Extern.BytealgIndexByte renaming indexByte->ó
open Go.Fn renaming func->ù
open Go.Loc renaming cell->û
open Go.Frame renaming enter->Ă,finish_at->Ģ
open Go.Instr renaming build->Ċ,makeSlice->Ŏ
open Go.GoStatus renaming running->ċ,finished->Š
open Go.Conc renaming mem_ofEvents->Č,mem_listed->đ,seen_none->Ī,crowd->Ĭ,stepG_region->ĺ,events_call_body->ł,deafBehind_still->Ņ,listed->ŗ,handedOver_app->Ř,stepG_seq->ŝ,stepG_comm->Ż
open Go.Callee renaming value->ĕ,builtin->Ŕ
open Go.Deferred renaming ofValue->ě
open Go.CallKind renaming normal->Ğ,early->Ź
open Go.Addr renaming add_lit->ğ
open Go.Act renaming eval->ĥ,put->Ο
open Eq renaming trans->Ŀ
variable{i n j b k m J j9 j7 j6:Nat}{w u W jX:ß}{v x z jQ:Ï}{g:Ý}{a p:â}{h c:Int}{e t T:Ů}{d q:Array Ï}{P:ė}{y:ŏ}{B:ByteArray}{X:Nat->Prop}{O:Option â}{l:List Ï}{yQ:Bool}{K H:ŏ->ß->Prop}{o:å}{D:Nat->Nat}{E:Array Ý}{L:List Ŝ}{jJ:List Nat}{qX:List ç}{qQ:Ĥ}{qJ:ż}{zX:Ν->Prop}{zQ:List Int}{zJ:Ž}{xX:Ĥ->Ï}{xQ:Go.Tape}{xJ:Nat×Nat}{wX:Ę}{wQ:Go.MemOp}{wJ:Array Bool}{vX:List ByteArray}{vQ:Ï->ß->Prop}{vJ:Go.Exit->ŏ->ß->Prop}{yX:ý}{Q:Array å}{f:ç}{V:Array ž}{F:ķ}{s:Go.Func}
namespace Go.Proofs.Y.fA
open Go Go.Conc Go.Proofs.Y.Lift Go.RowKit Go.Conc.Lib Go.ConcR.Gen
open Go.Proofs Go.Proofs.YtgpphkdoanciiaaGreatDoor
def Hm:å:=⟨Â 13,ð 155 (Ù 5) 3,0, "work.go:57",#[],Á⟩
def EL:å:=⟨Â 14,ć 86<|Ù 13,86, "work.go:57",#[⟨0,Ü⟩],Á⟩
def Hn:å:=⟨Â 15,ę<|Ù 1,25, "work.go:57",#[{on:=18,ground:=õ Ð}],Á⟩
def Ho:å:=⟨Â 16,ð 155 (Ù 5) 1,0, "work.go:57",#[{on:=18,ground:=õ Ð}],Á⟩
def EM:å:=⟨Â 17,ć 3<|Ù 16,3, "work.go:57",#[⟨3,Ü⟩,{on:=18,ground:=õ Ð}],Á⟩
def Hp:å:=⟨Â 18,ð 155 (Ù 5) 2,0, "work.go:57",#[],Á⟩
def EN:å:=⟨Â 19,ć 86<|Ù 18,86, "work.go:57",#[⟨5,Ü⟩],Á⟩
def EO:å:=⟨Â 20,ĩ<|Ù 19,0, "work.go:57",#[⟨6,Ü⟩],Á⟩
def EP:å:=⟨Â 21,ð 105 (Ù 20) 1,0, "work.go:57",#[⟨7,Ü⟩],Á⟩
def ER:å:=⟨Â 22,ć 65<|Ù 21,65, "work.go:57",#[⟨8,Ü⟩],Á⟩
def Hq:å:=⟨Â 23,ð 155 (Ù 5) 0,0, "work.go:57",#[],Á⟩
def ES:å:=⟨Â 24,ć 148<|Ù 23,148, "work.go:57",#[⟨10,Ü⟩],Á⟩
def Cj:å:=⟨Â 25,Ě {callee:=ĕ<|ĸ 66,args:=#[Ù 22,Ù 24],argTypes:=#[65,148]},163, "work.go:57",#[⟨9,Ü⟩,⟨11,Ü⟩],Á⟩
def wV:å:=⟨Â 12,ę<|Ù 25,163, "work.go:57",#[⟨12,Ü⟩],Á⟩
def Ck:å:=⟨Â 26,Ő (Ù 12) 0,65, "work.go:57",#[⟨13,Ü⟩],Á⟩
def Cl:å:=⟨Â 27,Ő (Ù 12) 1,9, "work.go:57",#[⟨13,Ü⟩,{on:=18,ground:=õ Ð}],Á⟩
def EU:å:=⟨Â 28,ĩ<|Ù 14,0, "work.go:57",#[⟨1,Ü⟩,⟨0,Í⟩,⟨1,Í⟩,{on:=2,ground:=Þ Ð},{on:=3,ground:=Þ Ð},{on:=4,ground:=Þ Ð},⟨5,Í⟩,⟨6,Í⟩,⟨7,Í⟩,⟨8,Í⟩,⟨9,Í⟩,⟨10,Í⟩,⟨11,Í⟩,⟨12,Í⟩,⟨13,Í⟩,⟨14,Í⟩,{on:=15,ground:=Þ Ð}],Á⟩
def EV:å:=⟨Â 29,ð 105 (Ù 28) 1,0, "work.go:57",#[⟨16,Ü⟩,⟨0,Í⟩,⟨1,Í⟩,{on:=2,ground:=Þ Ð},{on:=3,ground:=Þ Ð},{on:=4,ground:=Þ Ð},⟨5,Í⟩,⟨6,Í⟩,⟨7,Í⟩,⟨8,Í⟩,⟨9,Í⟩,⟨10,Í⟩,⟨11,Í⟩,⟨12,Í⟩,⟨13,Í⟩,⟨14,Í⟩,{on:=15,ground:=Þ Ð}],Á⟩
def Cm:å:=⟨Á,Ţ 65 (Ù 29)<|Ù 26,0, "work.go:57",#[⟨17,Ü⟩,⟨14,Ü⟩,⟨12,ţ⟩,⟨0,Í⟩,⟨1,Í⟩,{on:=2,ground:=Þ Ð},{on:=3,ground:=Þ Ð},{on:=4,ground:=Þ Ð},⟨5,Í⟩,⟨6,Í⟩,⟨7,Í⟩,⟨8,Í⟩,⟨9,Í⟩,⟨10,Í⟩,⟨11,Í⟩,⟨12,Í⟩,⟨13,Í⟩,⟨14,Í⟩,{on:=15,ground:=Þ Ð}],Á⟩
def Cn:å:=⟨Â 30,ő 25 (Ù 15)<|Ù 17,0, "work.go:57",#[⟨2,Ü⟩,⟨4,Ü⟩,⟨0,Í⟩,⟨1,Í⟩,⟨2,Í⟩,⟨3,Í⟩,⟨4,Í⟩,⟨5,Í⟩,⟨6,Í⟩,⟨7,Í⟩,⟨8,Í⟩,⟨9,Í⟩,⟨10,Í⟩,⟨11,Í⟩,⟨12,Í⟩,⟨13,Í⟩,⟨14,Í⟩,⟨15,Í⟩,⟨16,Í⟩,⟨17,Í⟩,⟨18,Í⟩],Á⟩
def Co:å:=⟨Á,Ţ 9 (Ù 30)<|Ù 27,0, "work.go:57",#[⟨19,Ü⟩,⟨15,Ü⟩,⟨18,ţ⟩,⟨0,Í⟩,⟨1,Í⟩,⟨2,Í⟩,⟨3,Í⟩,⟨4,Í⟩,⟨5,Í⟩,⟨6,Í⟩,⟨7,Í⟩,⟨8,Í⟩,⟨9,Í⟩,⟨10,Í⟩,⟨11,Í⟩,⟨12,Í⟩,⟨13,Í⟩,⟨14,Í⟩,⟨15,Í⟩,⟨16,Í⟩,⟨17,Í⟩,⟨18,Í⟩],Á⟩
def Au:Array å:=#[Hm,EL,Hn,Ho,EM,Hp,EN,EO,EP,ER,Hq,ES,Cj,wV,Ck,Cl,EU,EV,Cm,Cn,Co]
def np(tb a b c N d:Nat)(rq e:Ï)(x:(Option Addr×Nat×Nat)×ByteArray):Nat->Ï
 |0=>À<|Â ⟨tb,3,Á⟩
 |1=>À<|Â ⟨b,0,Á⟩
 |2=>Æ (Â ⟨c,0,Á⟩) N N
 |3=>À<|Â ⟨tb,1,Á⟩
 |4=>Ê Î d
 |5=>À<|Â ⟨tb,2,Á⟩
 |6=>À<|Â ⟨a,0,Á⟩
 |7=>À<|Â ⟨a,0,Á⟩
 |8=>À<|Â ⟨a,2,Á⟩
 |9=>e
 |10=>À<|Â ⟨tb,0,Á⟩
 |11=>rq
 |12=>ñ #[Æ x.1.1 x.1.2.1 x.1.2.2,à x.2]
 |13=>ñ #[Æ x.1.1 x.1.2.1 x.1.2.2,à x.2]
 |14=>Æ x.1.1 x.1.2.1 x.1.2.2
 |15=>à x.2
 |16=>À<|Â ⟨b,0,Á⟩
 |17=>À<|Â ⟨b,2,Á⟩
 |19=>À<|Â ⟨c,d,Á⟩
 |_=>Å
structure EW(jl:fe)(ga gb an pl:Nat)(ua:Ï)(Q:Ï->ByteArray->fe->Prop)(listed:Array Bool)(x:(Option Addr×Nat×Nat)×ByteArray)(l:fe):Prop where
 r:iI (λa=>a=⟨gb,2,Á⟩\/a=⟨an,pl,Á⟩) jl l
 Av:listed.getD 12 Ì=Ò->∃y,Q (Æ x.1.1 x.1.2.1 x.1.2.2) x.2 y/\(∀b,y.M b->l.M b/\l.w.heap[b]?=y.w.heap[b]?)
 C:listed.getD 18 Ì=Ò->l.w.cell? ⟨gb,2,Á⟩=Â (Æ x.1.1 x.1.2.1 x.1.2.2)
 I:listed.getD 20 Ì=Ò->l.w.cell? ⟨an,pl,Á⟩=Â (à x.2)
def EW.ff{d l:fe}{Q:Ï->ByteArray->fe->Prop}{listed:Array Bool}{x:(Option Addr×Nat×Nat)×ByteArray}(h:EW d n j b k v Q listed x l)(m:i≠12)(o:i≠18)(p:i≠20)(e:d.r ⟨j,2,Á⟩/\d.r ⟨b,k,Á⟩)(w₁:ß)(r:fI l l.w w₁):EW d n j b k v Q (listed.setIfInBounds i Ò) x {l with w:=w₁}:=by
 have s:∀a,(a=⟨j,2,Á⟩\/a=⟨b,k,Á⟩)->d.r a:=λa t=>by rcases t with rfl|rfl;exact e.1;exact e.2
 refine⟨h.r.N s r,λq=> ?_,λq=> ?_,λq=> ?_⟩
 .rw[è Ì m]at q;let⟨y,u,f⟩:=h.Av q;exact⟨y,u,λc g=>⟨(f c g).1,(r.I c (f c g).1).trans (f c g).2⟩⟩
 .rw[è Ì o]at q;exact(r.N _<|by rw[h.r.C];exact Ã e.1).trans<|h.C q
 .rw[è Ì p]at q;exact(r.N _<|by rw[h.r.C];exact Ã e.2).trans<|h.I q
section
variable{J:Jd}{jl:fe}{ga gb an pl:Nat}{ua:Ï}{Q:Ï->ByteArray->fe->Prop}{k:List Ŝ}{cs:List ç}
def ajj(S:gq jl)(hq:¬jl.q)(ht:d.size=37)(Cp:d[1]?=Â (Æ (Â ⟨an,0,Á⟩) i i))(R8:d[5]?=Â (À<|Â ⟨n,0,Á⟩))(hO:jl.O n) (X:jl.w.cell? ⟨n,0,Á⟩=Â v) (Y:jl.w.cell? ⟨n,1,Á⟩=Â (Ê Î pl)) (c2:jl.w.cell? ⟨n,2,Á⟩=Â (À<|Â ⟨ga,0,Á⟩)) (c3:jl.w.cell? ⟨n,3,Á⟩=Â (À<|Â ⟨gb,0,Á⟩)) (vy:jl.N ⟨ga,2,Á⟩) (qC:jl.w.cell? ⟨ga,2,Á⟩=Â ua) (H:jl.r ⟨gb,2,Á⟩) (I:jl.r ⟨an,pl,Á⟩) (e1:(jl.w.cell? ⟨gb,2,Á⟩).isSome=Ò) (e2:(jl.w.cell? ⟨an,pl,Á⟩).isSome=Ò) (z1:jl.w.frozen? ⟨gb,2,Á⟩=Ì) (z2:jl.w.frozen? ⟨an,pl,Á⟩=Ì) (mI:pl<i) (hN:i<1000000) (lN:(⟨gb,2,Á⟩:â)≠⟨an,pl,Á⟩) (vf:∀l,iI (λa=>a=⟨gb,2,Á⟩\/a=⟨an,pl,Á⟩) jl l->∀J ku,fi Ä Ì (λl' g'=>l'.d=l.d/\∃p g c str,g'=G (J.finish<|ñ #[Æ p g c,à str]) ku/\Q (Æ p g c) str l') (mB l)<|G (Ă Ä 66 #[ua,v] Ğ)<|J::ku) (md:ý) (listed:Array Bool) (a:ŏ) (l:fe) (m:Nat) (rest:List Nat) (hI:II Au d (np n ga gb an i pl v ua) (EW jl ga gb an pl ua Q) listed a l) (E:m∈Û md Au listed): fi Ä Ì (λl' g'=>∃u,g'=G ((base 49).at u<|Ñ Au rest::k) cs/\II Au d (np n ga gb an i pl v ua) (EW jl ga gb an pl ua Q) (listed.setIfInBounds m Ò) u l') l (G ((base 49).at a<|Ñ Au (m::rest)::k) cs):=by
 let⟨x,t,D⟩:=hI;have L:rA Au d.size=Ò:=by rw[ht];decide
 have V:=R5 E;have gE:=At E;have M:=D.r.fv;have N:¬l.q:=by rwa[D.r.q]
 have W:∀y:â,(y=⟨gb,2,Á⟩\/y=⟨an,pl,Á⟩)->jl.r y:=λy ha=>by rcases ha with rfl|rfl;exact H;exact I
 have nT:a.tmps[1]?=Â (Æ (Â ⟨an,0,Á⟩) i i):=(t.C A).trans Cp;have rC:a.tmps[5]?=Â (À<|Â ⟨n,0,Á⟩):=(t.C A).trans R8;have J:∀j s,jl.w.cell? ⟨n,j,Á⟩=Â s->gQ l ⟨n,j,Á⟩/\l.w.cell? ⟨n,j,Á⟩=Â s:=λj s h=>⟨Ã<|Ã<|D.r.O n hO,by rwa[gK<|D.r.r n<|Ã hO]⟩;have R9:¬((⟨ga,2,Á⟩:â)=⟨gb,2,Á⟩\/(⟨ga,2,Á⟩:â)=⟨an,pl,Á⟩):=λq=>by
  rcases q with q|q
  .exact S.Y _ H<|q▸vy
  .exact S.Y _ I<|q▸vy
 have Hr:gQ l ⟨ga,2,Á⟩/\l.w.cell? ⟨ga,2,Á⟩=Â ua:=⟨Ç (Ç<|by rwa[D.r.c]),by rwa[D.r.e _ (Ç vy) R9]⟩;have EX:(pl:Int)<(i:Int):=Z
 have iO:Au.size=21:=A
 rw[iO]at gE;match m,gE with
 |0,_=>
  refine iu (o:=Hm) L t U U E (by k_ne) M N (λB r=> ?_) (λB r e F=> ?_)<|D.ff A A A ⟨H,I⟩
  .simp only[np,Hm];go_simp
  .simp[go_sem,Hm,rC]at F
 |1,_=>
  have u:a.tmps[13]?=Â (À<|Â ⟨n,3,Á⟩):=t.r 0 Hm 13 U (il (o:=EL) E U U) U;refine iu (o:=EL) L t U U E (by k_ne) M N (λB r=> ?_) (λB r e F=> ?_)<|D.ff A A A ⟨H,I⟩
  .have K:B.cell? ⟨n,3,Á⟩=Â (À<|Â ⟨gb,0,Á⟩):=((J 3 _ c3).1.r r).trans (J 3 _ c3).2;simp only[np,EL];go_simp
  .have K:B.cell? ⟨n,3,Á⟩=Â (À<|Â ⟨gb,0,Á⟩):=((J 3 _ c3).1.r r).trans (J 3 _ c3).2;have b:e=⟨û ⟨n,3,Á⟩,Ì,Ì⟩:=by simp[go_sem,EL,K,u]at F;exact F
   subst b;exact(J 3 _ c3).1.rd
 |2,_=>
  refine iu (o:=Hn) L t U U E (by k_ne) M N (λB r=> ?_) (λB r e F=> ?_)<|D.ff A A A ⟨H,I⟩
  .simp only[np,Hn];go_simp
  .simp[go_sem,Hn,nT]at F
 |3,_=>
  refine iu (o:=Ho) L t U U E (by k_ne) M N (λB r=> ?_) (λB r e F=> ?_)<|D.ff A A A ⟨H,I⟩
  .simp only[np,Ho];go_simp
  .simp[go_sem,Ho,rC]at F
 |4,_=>
  have u:a.tmps[16]?=Â (À<|Â ⟨n,1,Á⟩):=t.r 3 Ho 16 U (il (o:=EM) E U U) U;refine iu (o:=EM) L t U U E (by k_ne) M N (λB r=> ?_) (λB r e F=> ?_)<|D.ff A A A ⟨H,I⟩
  .have K:B.cell? ⟨n,1,Á⟩=Â (Ê Î pl):=((J 1 _ Y).1.r r).trans (J 1 _ Y).2;simp only[np,EM];go_simp
  .have K:B.cell? ⟨n,1,Á⟩=Â (Ê Î pl):=((J 1 _ Y).1.r r).trans (J 1 _ Y).2;have b:e=⟨û ⟨n,1,Á⟩,Ì,Ì⟩:=by simp[go_sem,EM,K,u]at F;exact F
   subst b;exact(J 1 _ Y).1.rd
 |5,_=>
  refine iu (o:=Hp) L t U U E (by k_ne) M N (λB r=> ?_) (λB r e F=> ?_)<|D.ff A A A ⟨H,I⟩
  .simp only[np,Hp];go_simp
  .simp[go_sem,Hp,rC]at F
 |6,_=>
  have u:a.tmps[18]?=Â (À<|Â ⟨n,2,Á⟩):=t.r 5 Hp 18 U (il (o:=EN) E U U) U;refine iu (o:=EN) L t U U E (by k_ne) M N (λB r=> ?_) (λB r e F=> ?_)<|D.ff A A A ⟨H,I⟩
  .have K:B.cell? ⟨n,2,Á⟩=Â (À<|Â ⟨ga,0,Á⟩):=((J 2 _ c2).1.r r).trans (J 2 _ c2).2;simp only[np,EN];go_simp
  .have K:B.cell? ⟨n,2,Á⟩=Â (À<|Â ⟨ga,0,Á⟩):=((J 2 _ c2).1.r r).trans (J 2 _ c2).2;have b:e=⟨û ⟨n,2,Á⟩,Ì,Ì⟩:=by simp[go_sem,EN,K,u]at F;exact F
   subst b;exact(J 2 _ c2).1.rd
 |7,_=>
  have u:a.tmps[19]?=Â (À<|Â ⟨ga,0,Á⟩):=t.r 6 EN 19 U (il (o:=EO) E U U) U;refine iu (o:=EO) L t U U E (by k_ne) M N (λB r=> ?_) (λB r e F=> ?_)<|D.ff A A A ⟨H,I⟩
  .simp only[np,EO];go_simp
  .simp[go_sem,EO,u]at F
 |8,_=>
  have u:a.tmps[20]?=Â (À<|Â ⟨ga,0,Á⟩):=t.r 7 EO 20 U (il (o:=EP) E U U) U;refine iu (o:=EP) L t U U E (by k_ne) M N (λB r=> ?_) (λB r e F=> ?_)<|D.ff A A A ⟨H,I⟩
  .simp only[np,EP];go_simp
  .simp[go_sem,EP,u]at F
 |9,_=>
  have u:a.tmps[21]?=Â (À<|Â ⟨ga,2,Á⟩):=t.r 8 EP 21 U (il (o:=ER) E U U) U;refine iu (o:=ER) L t U U E (by k_ne) M N (λB r=> ?_) (λB r e F=> ?_)<|D.ff A A A ⟨H,I⟩
  .have K:B.cell? ⟨ga,2,Á⟩=Â (ua):=(Hr.1.r r).trans Hr.2;simp only[np,ER];go_simp
  .have K:B.cell? ⟨ga,2,Á⟩=Â (ua):=(Hr.1.r r).trans Hr.2;have b:e=⟨û ⟨ga,2,Á⟩,Ì,Ì⟩:=by simp[go_sem,ER,K,u]at F;exact F
   subst b;exact Hr.1.rd
 |10,_=>
  refine iu (o:=Hq) L t U U E (by k_ne) M N (λB r=> ?_) (λB r e F=> ?_)<|D.ff A A A ⟨H,I⟩
  .simp only[np,Hq];go_simp
  .simp[go_sem,Hq,rC]at F
 |11,_=>
  have u:a.tmps[23]?=Â (À<|Â ⟨n,0,Á⟩):=t.r 10 Hq 23 U (il (o:=ES) E U U) U;refine iu (o:=ES) L t U U E (by k_ne) M N (λB r=> ?_) (λB r e F=> ?_)<|D.ff A A A ⟨H,I⟩
  .have K:B.cell? ⟨n,0,Á⟩=Â (v):=((J 0 _ X).1.r r).trans (J 0 _ X).2;simp only[np,ES];go_simp
  .have K:B.cell? ⟨n,0,Á⟩=Â (v):=((J 0 _ X).1.r r).trans (J 0 _ X).2;have b:e=⟨û ⟨n,0,Á⟩,Ì,Ì⟩:=by simp[go_sem,ES,K,u]at F;exact F
   subst b;exact(J 0 _ X).1.rd
 |12,_=>
  have Hs:a.tmps[22]?=Â (ua):=t.r 9 ER 22 U (il (o:=Cj) E U U) U;have Cq:a.tmps[24]?=Â (v):=t.r 11 ES 24 U (il (o:=Cj) E U U) U;refine Zu (o:=Cj) L t U U E (by k_ne) M (f:=66) (args:=#[ua,v]) (λw=>by simp only[Cj];go_simp) (λw=>ł (o:=Cj) U Tryz.func66 U U #[]) λB r=> ?_;have T:=D.r.N W r;refine((vf _ T _ _).mB<|T.G S).ff ?_;rintro l' g' ⟨y,⟨hy0,p,g,c,str,rfl,hQ⟩,rfl,hA,Zx,ajk,ajl⟩;refine⟨((p,g,c),str),U,⟨T.R6 W hA hy0,λ_=>⟨y,hQ,λb P=>⟨?_,U⟩⟩,λq=> ?_,λq=> ?_⟩,λj u=> ?_⟩
  .rcases P with q|q
   .exact Ã<|Ã q
   .rw[Zx]at q;exact q.elim (λz=>Ã<|Ç z) Ç
  .rw[è Ì A]at q;exact absurd (t.I (o:=Cm) U q U)<|yB V
  .rw[è Ì A]at q;exact absurd (t.I (o:=Co) U q U)<|yB V
  .match j,u with
   |12,u=>exact absurd u<|yB V
   |13,u=>exact absurd (t.I (o:=wV) U u U)<|yB V
   |14,u=>exact absurd (t.I (o:=wV) U (t.I (j:=13) (o:=Ck) U u U) U)<|yB V
   |15,u=>exact absurd (t.I (o:=wV) U (t.I (j:=13) (o:=Cl) U u U) U)<|yB V
   |0,_|1,_|2,_|3,_|4,_|5,_|6,_|7,_|8,_|9,_|10,_|11,_|16,_|17,_|18,_|19,_|20,_|g+21,_=>rfl
 |13,_=>
  have u:a.tmps[25]?=Â (ñ #[Æ x.1.1 x.1.2.1 x.1.2.2,à x.2]):=t.r 12 Cj 25 U (il (o:=wV) E U U) U;refine iu (o:=wV) L t U U E (by k_ne) M N (λB r=> ?_) (λB r e F=> ?_)<|D.ff A A A ⟨H,I⟩
  .simp only[np,wV];go_simp
  .simp[go_sem,wV,u]at F
 |14,_=>
  have u:a.tmps[12]?=Â (ñ #[Æ x.1.1 x.1.2.1 x.1.2.2,à x.2]):=t.r 13 wV 12 U (il (o:=Ck) E U U) U;refine iu (o:=Ck) L t U U E (by k_ne) M N (λB r=> ?_) (λB r e F=> ?_)<|D.ff A A A ⟨H,I⟩
  .simp only[np,Ck];go_simp
  .simp[go_sem,Ck,u]at F
 |15,_=>
  have u:a.tmps[12]?=Â (ñ #[Æ x.1.1 x.1.2.1 x.1.2.2,à x.2]):=t.r 13 wV 12 U (il (o:=Cl) E U U) U;refine iu (o:=Cl) L t U U E (by k_ne) M N (λB r=> ?_) (λB r e F=> ?_)<|D.ff A A A ⟨H,I⟩
  .simp only[np,Cl];go_simp
  .simp[go_sem,Cl,u]at F
 |16,_=>
  have u:a.tmps[14]?=Â (À<|Â ⟨gb,0,Á⟩):=t.r 1 EL 14 U (il (o:=EU) E U U) U;refine iu (o:=EU) L t U U E (by k_ne) M N (λB r=> ?_) (λB r e F=> ?_)<|D.ff A A A ⟨H,I⟩
  .simp only[np,EU];go_simp
  .simp[go_sem,EU,u]at F
 |17,_=>
  have u:a.tmps[28]?=Â (À<|Â ⟨gb,0,Á⟩):=t.r 16 EU 28 U (il (o:=EV) E U U) U;refine iu (o:=EV) L t U U E (by k_ne) M N (λB r=> ?_) (λB r e F=> ?_)<|D.ff A A A ⟨H,I⟩
  .simp only[np,EV];go_simp
  .simp[go_sem,EV,u]at F
 |18,_=>
  have h29:a.tmps[29]?=Â (À<|Â ⟨gb,2,Á⟩):=t.r 17 EV 29 U (il (o:=Cm) E U U) U;have h26:a.tmps[26]?=Â (Æ x.1.1 x.1.2.1 x.1.2.2):=t.r 14 Ck 26 U (il (o:=Cm) E U U) U;have T:(l.w.cell? ⟨gb,2,Á⟩).isSome=Ò:=D.r.g _ (Ã U) e1;have Cr:l.w.frozen? ⟨gb,2,Á⟩=Ì:=(D.r.S _<|Ã H).trans z1;have lS:pD l ⟨gb,2,Á⟩:=Ç (by rwa[D.r.I]);refine R7 (o:=Cm) (y:=⟨gb,2,Á⟩) (v:=Æ x.1.1 x.1.2.1 x.1.2.2) L t U U U E (by k_ne) M N U lS T Cr (λw K hz=> ?_) (λw K hz=> ?_) λB r=> ?_
  .let⟨u,hu⟩:=Ô.1 K;simp only[Cm];go_simp
  .let⟨u,hu⟩:=Ô.1 K;simp[go_sem,Cm,h29,h26,á _ _ _ _ _ _ (show Ø (Æ x.1.1 x.1.2.1 x.1.2.2)=Ò from rfl),hu,hz]
  .have hA:=D.r.rh S W (x:=⟨gb,2,Á⟩) (v:=Æ x.1.1 x.1.2.1 x.1.2.2) (Ã U) U T;refine⟨hA.N W ⟨r.r,r.I,r.N,r.Y,r.S⟩,λq=> ?_,λq=> ?_,λq=> ?_⟩
   .rw[è Ì A]at q;let⟨y,y1,z⟩:=D.Av q;refine⟨y,y1,λb P=>⟨(z b P).1,?_⟩⟩;have Sb:b≠(⟨gb,2,Á⟩:â).block:=λe=>(D.r.G S).S ⟨gb,2,Á⟩ (by rw[D.r.C];exact Ã H)<|e▸(z b P).1;exact(r.I b (z b P).1).trans<|(lF Sb).trans (z b P).2
   .exact(r.N _ (by rw[D.r.C];first|exact Ã H|exact Ã I)).trans<|BI (Ô.1 T).choose_spec
   .rw[è Ì A]at q;exact(r.N ⟨an,pl,Á⟩<|by rw[D.r.C];exact Ã I).trans<|(Ci U λe=>lN e.symm).trans<|D.I q
 |19,_=>
  have Sc:a.tmps[15]?=Â (Æ (Â ⟨an,0,Á⟩) i i):=t.r 2 Hn 15 U (il (o:=Cn) E U U) U;have Sd:a.tmps[17]?=Â (Ê Î pl):=t.r 4 EM 17 U (il (o:=Cn) E U U) U;refine iu (o:=Cn) L t U U E (by k_ne) M N (λB r=> ?_) (λB r e F=> ?_)<|D.ff A A A ⟨H,I⟩
  .simp only[np,Cn];go_simp
  .simp[go_sem,Cn,mI,EX,Sc,Sd]at F
 |20,_=>
  have F:a.tmps[30]?=Â (À<|Â ⟨an,pl,Á⟩):=t.r 19 Cn 30 U (il (o:=Co) E U U) U;have h27:a.tmps[27]?=Â (à x.2):=t.r 15 Cl 27 U (il (o:=Co) E U U) U;have T:(l.w.cell? ⟨an,pl,Á⟩).isSome=Ò:=D.r.g _ (Ç U) e2;have Cr:l.w.frozen? ⟨an,pl,Á⟩=Ì:=(D.r.S _<|Ã I).trans z2;have lS:pD l ⟨an,pl,Á⟩:=Ç (by rwa[D.r.I]);refine R7 (o:=Co) (y:=⟨an,pl,Á⟩) (v:=à x.2) L t U U U E (by k_ne) M N U lS T Cr (λw K hz=> ?_) (λw K hz=> ?_) λB r=> ?_
  .let⟨u,hu⟩:=Ô.1 K;simp only[Co];go_simp
  .let⟨u,hu⟩:=Ô.1 K;simp[go_sem,Co,F,h27,á _ _ _ _ _ _ (show Ø (à x.2)=Ò from rfl),hu,hz]
  .have hA:=D.r.rh S W (x:=⟨an,pl,Á⟩) (v:=à x.2) (Ç U) U T;refine⟨hA.N W ⟨r.r,r.I,r.N,r.Y,r.S⟩,λq=> ?_,λq=> ?_,λq=> ?_⟩
   .rw[è Ì A]at q;let⟨y,y1,z⟩:=D.Av q;refine⟨y,y1,λb P=>⟨(z b P).1,?_⟩⟩;have Sb:b≠(⟨an,pl,Á⟩:â).block:=λe=>(D.r.G S).S ⟨an,pl,Á⟩ (by rw[D.r.C];exact Ã I)<|e▸(z b P).1;exact(r.I b (z b P).1).trans<|(lF Sb).trans (z b P).2
   .rw[è Ì A]at q;exact(r.N ⟨gb,2,Á⟩<|by rw[D.r.C];exact Ã H).trans<|(Ci U<|lN).trans<|D.C q
   .exact(r.N _ (by rw[D.r.C];first|exact Ã H|exact Ã I)).trans<|BI (Ô.1 T).choose_spec
 |g+21,h=>exact absurd h Z
end
section
variable{E:â->Prop}{l c g:fe}
def iI.fj(h:iI E l c)(k:iI E c g):iI E l g:=by have f:=h.C;exact⟨λj e=>k.O j<|h.O j e,λj e=>(k.h j e).elim (h.h j) λq=>Ç<|Õ h.f q,k.Y.trans h.Y,k.I.trans h.I,k.c.trans h.c,k.K.trans h.K,k.q.trans h.q,k.d.trans h.d,k.fv,Õ h.f k.f,λj e=>(k.r j<|h.M e).trans<|h.r j e,λa b i=>(k.e a (by rwa[f]) i).trans<|h.e a b i,λa b=>(k.S a<|by rwa[f]).trans<|h.S a b,λa b q=>k.b a (by rwa[h.K])<|h.b a b q,λa b q=>k.g a b<|h.g a b q⟩
end
def gF(l:fe)(w₁:ß)(o:Ÿ):fe:={l with O:=λb=>l.O b\/b=w₁.heap.size,w:=w₁.alloc o}
theorem uf{o:Ÿ}(h:j<w.heap.size):(w.alloc o).heap[j]?=w.heap[j]?:=by unfold ň;grind
theorem nU{o:Ÿ}:(w.alloc o).heap[w.heap.size]?=Â o:=by unfold ň;simp
def EY{o:Ÿ}:(w.alloc o).heap.size=w.heap.size+1:=by unfold ň;simp
section
variable{J:Jd}{l:fe}{a:ŏ}{k:List Ŝ}{cs:List ç}{ob:Ÿ}{E:â->Prop}
def Zy(b:∀j,l.O j->j<w.heap.size)(c:¬l.q):mH l (gF l w ob) w (w.alloc ob) #[]:= ⟨by rw[EY];omega,λj h=>h.imp id λe=>by omega,λj h=>by rw[EY];exact h.elim (λq=>Ĺ<|b j q) λe=>by omega,U,U,U,U,λj d _ _=>uf d,λx a _ _=>gK<|uf a,λx a _=>yl<|uf a,U,U,U,λe f=>by simp at f,by simp[į,gF],U,λq=>absurd q c,U⟩
def Cs(c:Q[i]?=Â o)(d:Ė o (Ť Q a.tmps)=Ò)(e:f.kind≠Ź)(g:kn l)(h:¬l.q) (j:∀w,(ĉ a.eval o).run P w=.ok (.value<|À<|Â ⟨w.heap.size,0,Á⟩) (w.alloc ob)) (m:∀w,(ĉ a.eval o).events P w #[]=#[]) (n:∀b,fI l l.w b->fi P yQ J (gF l b ob) (G (f.at (a.put o.dst<|À<|Â ⟨b.heap.size,0,Á⟩)<|Ñ Q jJ::k) cs)):fi P yQ J l (G (f.at a<|Ñ Q (i::jJ)::k) cs):=by
 refine tY c d e λb r=> ?_;rw[j b];refine⟨_,?_,n b r⟩;have:listed P f.fn a o b=#[]:=by unfold listed;rw[m b,Ī]
 rw[this];exact Zy (lQ g r) h
def L0(s:gq l)(d:∀a,E a->l.r a)(r:fI l l.w u):iI E l (gF l u ob):=by
 have c:=r.r;refine⟨λj h=>Ã h,λj h=>h.imp id λe=>by omega,U,U,U,U,U,U,λj h=> ?_,?_,λj f=>(uf<|È (s.fv j f) c).trans<|r.I j f,λx b _=>(gK<|uf<|È (s.I x b) c).trans<|r.N x b,λx b=>(uX<|uf<|È (s.I x b) c).trans<|r.Y x b,λx b q=> ?_,λx b q=> ?_⟩
 .show j<(u.alloc ob).heap.size;rw[EY];exact h.elim (λq=>Ĺ<|È (s.fv j<|Ã q) c) λe=>by omega
 .show l.w.heap.size<=(u.alloc ob).heap.size;rw[EY];omega
 .show((u.alloc ob).cell? x).isSome=Ò;rw[gK<|uf<|È (s.N x b).2.1 c];exact r.S x b q
 .show((u.alloc ob).cell? x).isSome=Ò;rwa[gK<|uf<|È (s.I x<|Ã<|d x b) c,r.N x<|Ã<|d x b]
def EZ{w':ß}{p:Nat}(g:∀j,l.O j->j<w.heap.size)(i:¬l.q)(b:l.O p)(k:w'.heap.size=w.heap.size)(c:∀j,j≠p->w'.heap[j]?=w.heap[j]?)(d:w'.os=w.os/\w'.output=w.output/\w'.tape=w.tape)(f:∀e∈V,tZ l e):mH l {l with w:=w'} w w' V:=by refine⟨Z,λ_ h=>Ã h,λj h=>by rw[k];exact g j h,U,U,U,U,λj _ a _=>c j λe=>a<|e▸b,λx _ a _=>gK (c _ λe=>a<|e▸b),λx _ a=>yl (c _ λe=>a<|e▸b),d.1,d.2.1,d.2.2,λe h=>(f e h).1,(LV f _).symm,U,λq=>absurd q i,U⟩
end
def iK(w:ß)(p:Nat)(v0 v1 v2 v3:Ï):ß:=(((w.setCell ⟨p,0,Á⟩ v0).setCell ⟨p,1,Á⟩ v1).setCell ⟨p,2,Á⟩ v2).setCell ⟨p,3,Á⟩ v3
section
variable{p:Nat}{v0 v1 v2 v3:Ï}
def wW:(iK w p v0 v1 v2 v3).heap.size=w.heap.size:=by unfold iK;rw[kg,kg,kg,kg]
def yC(h:j≠p):(iK w p v0 v1 v2 v3).heap[j]?=w.heap[j]?:=by unfold iK;rw[lF h,lF h,lF h,lF h]
theorem Se(b:w.cell? ⟨p,0,Á⟩=Â v)(c:w.cell? ⟨p,1,Á⟩=Â x)(d:w.cell? ⟨p,2,Á⟩=Â z)(e:w.cell? ⟨p,3,Á⟩=Â jQ): (iK w p v0 v1 v2 v3).cell? ⟨p,0,Á⟩=Â v0/\(iK w p v0 v1 v2 v3).cell? ⟨p,1,Á⟩=Â v1/\(iK w p v0 v1 v2 v3).cell? ⟨p,2,Á⟩=Â v2/\(iK w p v0 v1 v2 v3).cell? ⟨p,3,Á⟩=Â v3:=by have f:∀(w:ß) (i j:Nat) (a:Ï),i≠j->(w.setCell ⟨p,i,Á⟩ a).cell? ⟨p,j,Á⟩=w.cell? ⟨p,j,Á⟩:=λw i j a h=>z8<|Ç h;unfold iK;grind [BI]
def Sf{E:â->Prop}{l e:fe}(s:gq l)(f:∀a,E a->l.r a)(h:iI E l e){w':ß}(r:fI e e.w u)(k:l.w.heap.size<=p)(g:w'.heap.size=u.heap.size)(i:∀j,j≠p->w'.heap[j]?=u.heap[j]?):iI E l {e with w:=w'}:=by
 have b:=h.N f r;have c:∀{j:Nat},j<l.w.heap.size->w'.heap[j]?=u.heap[j]?:=λ{j} q=>i j Z;refine⟨b.O,b.h,b.Y,b.I,b.c,b.K,b.q,b.d,λj q=> ?_,?_,λj q=>(c<|s.fv j q).trans<|b.r j q,λa q n=>(gK<|c<|s.I a q).trans<|b.e a q n,λa q=>(uX<|c<|s.I a q).trans<|b.S a q,λa q z=> ?_,λa q z=> ?_⟩
 .show j<w'.heap.size;rw[g];exact b.fv j q
 .show l.w.heap.size<=w'.heap.size;rw[g];exact b.f
 .show(w'.cell? a).isSome=Ò;rw[gK<|c (s.N a q).2.1];exact b.b a q z
 .show(w'.cell? a).isSome=Ò;rw[gK<|c<|s.I a<|Ã<|f a q];exact b.g a q z
end
def Aw(t:Array Ï)(h:t.size=n):∃u:Nat->Ï,t=((ã n).map u).toArray:=by subst h;refine⟨λi=>t.getD i Å,Array.ext fp λi a _=> ?_⟩;simp_all
def Sg(t:Array Ï)(h:t.size=37):∃a b c d e f g i j k l m n o p q r s u v w x y z B C D E F G H I J K L M N:Ï,t=#[a,b,c,d,e,f,g,i,j,k,l,m,n,o,p,q,r,s,u,v,w,x,y,z,B,C,D,E,F,G,H,I,J,K,L,M,N]:=by obtain⟨_,rfl⟩:=Aw t h;exact⟨_,_,_,_,_,_,_,_,_,_,_,_,_,_,_,_,_,_,_,_,_,_,_,_,_,_,_,_,_,_,_,_,_,_,_,_,_,U⟩
end Go.Proofs.Y.fA
namespace Go.Proofs.Y.fA
open Go Go.Conc Go.Proofs.Y.Lift Go.RowKit Go.Conc.Lib Go.ConcR.Gen
section
variable{Ψ:ß->Prop}{L:WgLink}{l:fe}{e:Jd}{k:List Ŝ}
def Si(Ψ:ß->Prop)(l:fe)(b:Nat)(w:ß):Prop:=SW Ψ l b w/\fI l l.w w
def qf(a:mA Ψ l b)(h:Si Ψ l b w)(r:fI l w u):Si Ψ l b u:=⟨fN h.1<|a.r r,h.2.fj r⟩
def ajm{J:Jd}(a:SW Ψ l b l.w)(c:Goes P yQ (fI l) Go.ConcR.DC0 (λd e=>fi P yQ J {l with w:=e} d) n g l.w):fi P yQ J l g:= Qy c (λ_ _ r=>r) a.1 λ_ _ _ h=>h
def ajn(H:WgLib P L)(τ:fe->fe)(Φ:fe->Prop)(c:mA Ψ l b)(z:SW Ψ l b l.w) (N:∀a,fI l l.w a->Φ {l with w:=a}/\(τ {l with w:=a}).d=0/\∃q:ß->Prop,mA q (τ {l with w:=a}) b/\SW q (τ {l with w:=a}) b (τ {l with w:=a}).w/\ ∀j,SW q (τ {l with w:=a}) b j->fi P Ì e {τ {l with w:=a}with d:=0,w:=j} (G (f.at (y.put ((Q[i]?).bind (·.dst))<|ñ #[])<|Ñ Q jJ::k) qX)): fi P Ì (λl g=>Φ l/\Ab P Ì b (fi P Ì e) (τ l) g) l (G ((base L.done).at ⟨#[À<|Â ⟨b,0,Á⟩,Å,Å,Å],[]⟩ [ö<|body_done L])<|f.at y (Ñ Q (i::jJ)::k)::qX):=by
 lib_facts;simp only[body_done,doneFn,Ń];have hF:Si Ψ l b l.w:=⟨z,fI.fV _ _⟩;apply ajm z (n:=40);u_reg (qf c) hF;u_op (qf c) hF;u_call H.f_add (nm_add L) addFn (qf c) hF;u_c ŝ (qf c) hF;u_cond Ò (qf c) hF;u_c ŝ (qf c) hF;u_c ŝ (qf c) hF;u_reg (qf c) hF;u_op (qf c) hF;u_op (qf c) hF;u_c stepG_region_end (qf c) hF;u_cond Ò (qf c) hF;u_reg (qf c) hF;u_op (qf c) hF;u_conv H.underlying_tWgP H.room_tWg (nQ.r hF.1.2.1).choose_spec (qf c) hF;refine Ë λa g=> ?_;replace hF:=qf c hF g;clear g;refine .fD λj r=> ?_;let⟨O,B,q,h,C,D⟩:=N j<|hF.2.fj<|Aq r;refine⟨O,B,U,_,λ_=>stepG_markAt .releaseMerge fp U U (by k_ne) U H.f_relMerge (x_relMerge_n L) (x_relMerge_b L) (x_relMerge_x L) (x_relMerge_f L) (by simp[ĥ,fQ]),?_⟩;walk_nrm;show fi P Ì (PK P Ì b<|fi P Ì e) (τ {l with w:=j}) _;clear O r;generalize τ {l with w:=j}=l2 at h C B D|-;replace hF:=C;clear C c z N;apply jP h hF (n:=10);iterate 3 w_go fN
 refine Ë λa g=> ?_;replace hF:=fN hF g;clear g;refine wU (l:={l2 with w:=a}) h hF (Ã U) U (λ_=>stepG_mark0 .disable fp U U (by k_ne) U H.f_disable (x_disable_n L) (x_disable_b L) (x_disable_x L)<|x_disable_f L) λE hF=> ?_;walk_nrm;have W:į l2.d #[j1 .disable]=1:=by rw[B];rfl
 rw[W];apply jP (l:={l2 with d:=1,w:=E}) h hF (n:=50);iterate 2 w_go fN
 u_defer fN hF
 iterate 8 w_go fN
 u_bub fN hF
 iterate 11 w_go fN
 u_call H.f_uAdd (nm_uAdd L) uAddFn fN hF
 iterate 10 w_go fN
 refine Ë λa g=> ?_;replace hF:=fN hF g;clear g;refine oA (l:={l2 with d:=1,w:=a}) h hF λj hF=>⟨U,U,λv=>⟨_,λa p F=>(stepG_add_atomic U U (by k_ne) U H.f_addU64 (x_addU64_n L) (x_addU64_b L) (x_addU64_x L) ê (x_addU64_f L) U U p F).trans fL,?_⟩⟩;walk_nrm;have S:ê.wrap (v+18446744069414584320)=ê.wrap (v+ru):=rfl;rw[S];clear S;obtain⟨s,I⟩:∃s,ê.wrap (v+ru)=s:=⟨_,U⟩;simp only[I];have J:0<=s:=by rw[<-I];have:ê.wrap (v+ru)=(v+ru)%18446744073709551616:=rfl;rw[this];omega
 clear I v;by_cases o:s=0\/(fY<=s/\s<1000000*fY/\s%fY<1000000)
 .rw[if_pos o];by_cases m:s=0;focus
   subst m;clear o J
  rotate_left;focus
   have X:=o.resolve_left m;clear o m J;let⟨Y,c5,c6⟩:=X;have q4:(4294967296:Int)<=s:=Y;have K:s<1000000*4294967296:=c5;have T:s%4294967296<1000000:=c6;have f1:=EH s Z K T;have t:=EI s Z K T;obtain⟨u,g1⟩:∃u,(s/4294967296+2147483648)%4294967296-2147483648=u:=⟨_,U⟩;have g2:¬u<0:=Z
   have g3:0<u:=Z
   by_cases M:s%4294967296=0;focus rw[M]at t
   rotate_left;focus
    obtain⟨x,g4⟩:∃x,s%4294967296=x:=⟨_,U⟩;rw[g4]at t M;have V:x%4294967296=x:=Z
    have g6:(x !=0)=Ò:=by simpa using M
  all_goals
   apply jP (l:={l2 with d:=1,w:=j}) h hF (n:=150);iterate 3 w_go fN
   u_leave1 H.f_uAdd fN hF
   iterate 83 w_go fN
   refine Ë λa g=> ?_;replace hF:=fN hF g;clear g;refine wU (l:={l2 with d:=1,w:=a}) h hF (Ç U) U (λw=>LL .enable fp U H.f_enable (x_enable_n L) (x_enable_b L) (x_enable_x L) (x_enable_f L) w) λE hF=> ?_;have u:į 1 #[j1 .enable]=0:=rfl;rw[u];apply jP (l:={l2 with d:=0,w:=E}) h hF (n:=10);u_leave0 H.f_add fN hF;iterate 2 w_go fN
   u_leave0 H.f_done fN hF
   refine Ë λa g=> ?_;replace hF:=fN hF g;clear g;exact D _ hF
 .rw[if_neg o];by_cases m:0<s/\s<1000000
  .rw[if_pos m];let⟨q4,K⟩:=m;clear o J;have f1:=EH s Z Z Z;have t:=EI s Z Z Z;have g1:(s/4294967296+2147483648)%4294967296-2147483648=0:=Z
   have V:s%4294967296=s:=Z
   rw[V]at t;have g6:(s !=0)=Ò:=by simp;omega
   have X:(s==0)=Ì:=by simp;omega
   have M:(s.toNat:Int)=s:=Z
   apply jP (l:={l2 with d:=1,w:=j}) h hF (n:=150);iterate 3 w_go fN
   u_leave1 H.f_uAdd fN hF
   iterate 89 w_go fN
   u_call H.f_uLoad (nm_uLoad L) uLoadFn fN hF
   iterate 9 w_go fN
   refine Ë λa g=> ?_;replace hF:=fN hF g;clear g;refine oA (l:={l2 with d:=1,w:=a}) h hF λj hF=>⟨U,U,λv=>⟨_,λa p=>stepG_load_atomic U U (by k_ne) U H.f_loadU64 (x_loadU64_n L) (x_loadU64_b L) (x_loadU64_x L) ê (x_loadU64_f L) U p,?_⟩⟩;show fi P Ì (if v=(s.toNat:Int)then K9 P Ì b (fi P Ì e) s.toNat else λ_ _=>True) _ _;by_cases u:v=(s.toNat:Int)
   .rw[if_pos u];rw[M]at u;subst u;walk_nrm;have Y:(v !=v)=Ì:=fp
    apply jP (l:={l2 with d:=1,w:=j}) h hF (n:=150);iterate 3 w_go fN
    u_leave1 H.f_uLoad fN hF
    iterate 10 w_go fN
    u_call H.f_uStore (nm_uStore L) uStoreFn fN hF
    iterate 5 w_go fN
    refine Ë λa g=> ?_;replace hF:=fN hF g;clear g;refine oA (l:={l2 with d:=1,w:=a}) h hF λj hF=>⟨U,U,_,λa x p F=>stepG_store_atomic U U (by k_ne) U H.f_storeU64 (x_storeU64_n L) (x_storeU64_b L) (x_storeU64_x L) (x_storeU64_f L) U U p F,?_⟩;walk_nrm;obtain⟨r,T⟩:∃r,v.toNat=r+1:=⟨v.toNat-1,Z⟩;rw[T];apply jP (l:={l2 with d:=1,w:=j}) h hF (n:=150);iterate 2 w_go fN
    u_leave0 H.f_uStore fN hF
    iterate 24 w_go fN
    refine Ë λa g=> ?_;replace hF:=fN hF g;clear g;apply aiV H h D r v<;>first|exact hF|omega
   .rw[if_neg u];exact .fD λ_ _=>trivial
  .rw[if_neg m];trivial
end
end Go.Proofs.Y.fA
namespace Go.Proofs.Y.fA
open Go Go.Conc Go.Proofs.Y.Lift Go.RowKit Go.Conc.Lib Go.ConcR.Gen
open Go.Proofs Go.Proofs.YtgpphkdoanciiaaGreatDoor
noncomputable def L2:Ę:=mg Ι [1,0,0]
noncomputable def Ax (t:Array Ï) (a:List ç):Ý:=G ((base 49).at ⟨t,[]⟩ [ö L2,ą L2,ô 0]) a
structure Ct(an N:Nat)(ib:Option â)(m c kk:Nat)(t:Array Ï):Prop where
 r:t.size=37
 t1:t[1]?=Â (Æ (Â ⟨an,0,Á⟩) N N)
 t6:t[6]?=Â (Æ ib m c)
 C:t[7]?=Â (Ê Î m)
 I:t[8]?=Â (Ê Î kk)
theorem Cu{x:Int}(a:0<=x)(b:x<1000000):Î.wrap x=x:=by rw[Γ];omega
section
variable{f:Jd}{l:fe}{t:Array Ï}{an N ib c kk:Nat}{Q:Ï->ByteArray->fe->Prop}{τ:fe->fe}{Φ:fe->Prop}
def ajo(D:gq l)(V:¬l.q)(hd:l.d=0)(W:Ct an N (Â ⟨ib,0,Á⟩) m c kk t)(hkk:kk<m)(hm:m<1000)(hN:N<1000000)(mI:j<N)(Ay:l.M ib) (i0:l.w.cell? ⟨ib,kk*4,Á⟩=Â (À O)) (i1:l.w.cell? ⟨ib,kk*4+1,Á⟩=Â (Ê Î j)) (i2:l.w.cell? ⟨ib,kk*4+2,Á⟩=Â (À<|Â ⟨i,0,Á⟩)) (i3:l.w.cell? ⟨ib,kk*4+3,Á⟩=Â (À<|Â ⟨n,0,Á⟩)) (vy:l.N ⟨i,2,Á⟩) (qC:l.w.cell? ⟨i,2,Á⟩=Â v) (o1:l.r ⟨n,2,Á⟩) (o2:l.r ⟨an,j,Á⟩) (e1:(l.w.cell? ⟨n,2,Á⟩).isSome=Ò) (e2:(l.w.cell? ⟨an,j,Á⟩).isSome=Ò) (z1:l.w.frozen? ⟨n,2,Á⟩=Ì) (z2:l.w.frozen? ⟨an,j,Á⟩=Ì) (lN:(⟨n,2,Á⟩:â)≠⟨an,j,Á⟩) (vf:∀u,iI (λa=>a=⟨n,2,Á⟩\/a=⟨an,j,Á⟩) l u->∀cl ku,fi Ä Ì (λl'' g'=>l''.d=u.d/\∃p k c str,g'=G (cl.finish<|ñ #[Æ p k c,à str]) ku/\Q (Æ p k c) str l'') (mB u)<|G (Ă Ä 66 #[v,À O] Ğ)<|cl::ku) (BD:∀u (x:(Option Addr×Nat×Nat)×ByteArray),iI (λa=>a=⟨n,2,Á⟩\/a=⟨an,j,Á⟩) l u->(∃y,Q (Æ x.1.1 x.1.2.1 x.1.2.2) x.2 y/\(∀b,y.M b->u.M b/\u.w.heap[b]?=y.w.heap[b]?))->u.w.cell? ⟨n,2,Á⟩=Â (Æ x.1.1 x.1.2.1 x.1.2.2)->u.w.cell? ⟨an,j,Á⟩=Â (à x.2)-> mA (λ_=>True) u n/\SW (λ_=>True) u n u.w/\Φ u/\(τ u).d=0/\∃E:ß->Prop,mA E (τ u) n/\SW E (τ u) n (τ u).w/\∀s X,SW E (τ u) n s->Ct an N (Â ⟨ib,0,Á⟩) m c (kk+1) X->fi Ä Ì f {τ u with d:=0,w:=s} (Ax X qX)): fi Ä Ì (λl g=>Φ l/\Ab Ä Ì n (fi Ä Ì f) (τ l) g) l (Ax t qX):=by
 obtain⟨y0,y1,Y,y3,y4,y5,y6,y7,y8,y9,yD,Az,yE,sH,ug,rD,wY,wZ,vA,vB,vC,uh,ui,uj,sC,tV,sD,qc,oU,qK,qL,qM,vm,tW,tX,sE,sF,rfl⟩:=Sg t W.r;obtain rfl:y1=Æ (Â ⟨an,0,Á⟩) N N:=by simpa using W.t1
 obtain rfl:y6=Æ (Â ⟨ib,0,Á⟩) m c:=by simpa using W.t6
 obtain rfl:y7=Ê Î m:=by simpa using W.C
 obtain rfl:y8=Ê Î kk:=by simpa using W.I
 have sI:∀y:â,(y=⟨n,2,Á⟩\/y=⟨an,j,Á⟩)->l.r y:=λy ha=>by rcases ha with rfl|rfl;exact o1;exact o2
 have at6:(kk:Int)<(m:Int):=Z
 simp only[Ax];conv in L2=>whnf
 refine fR (n:=30) D.r ?_;have hF:True:=trivial;repeat w_go fy
 refine Ë λ_ _=> ?_;have B:∀g,gQ l ⟨ib,g,Á⟩:=λg=>Ã Ay;refine oC (v:=Đ #[À O,Ê Î j,À<|Â ⟨i,0,Á⟩,À<|Â ⟨n,0,Á⟩]) U U (by k_ne) D.r V (λo r=> ?_) (λo r e F=> ?_) ?_
 .have J:=((B<|kk*4).r r).trans i0;have K:=((B<|kk*4+1).r r).trans i1;have L:=((B<|kk*4+2).r r).trans i2;have P:=((B<|kk*4+3).r r).trans i3;go_simp
 .have J:=((B<|kk*4).r r).trans i0;have K:=((B<|kk*4+1).r r).trans i1;have L:=((B<|kk*4+2).r r).trans i2;have P:=((B<|kk*4+3).r r).trans i3;simp[go_sem,J,K,L,P]at F;rcases F with rfl|rfl|rfl|rfl
  .exact(B _).rd
  .exact(B _).rd
  .exact(B _).rd
  .exact(B _).rd
 walk_nrm;refine Cs (ob:=É #[À Á,Ê Î 0,À Á,À Á] 155) U U (by k_ne) D.r V (λw=>by go_simp) (λw=>by simp[go_sem]) λo kT=> ?_;walk_nrm;have vD:iI (λa=>a=⟨n,2,Á⟩\/a=⟨an,j,Á⟩) l (gF l o<|É #[À Á,Ê Î 0,À Á,À Á] 155):=L0 D sI kT;have nT:(gF l o<|É #[À Á,Ê Î 0,À Á,À Á] 155).w.heap[o.heap.size]?=Â (É #[À Á,Ê Î 0,À Á,À Á] 155):=nU;have qP:l.w.heap.size<=o.heap.size:=kT.r;have I:(gF l o<|É #[À Á,Ê Î 0,À Á,À Á] 155).O o.heap.size:=Ç U;generalize gF l o (É #[À Á,Ê Î 0,À Á,À Á] 155)=l₁ at vD nT I|-;generalize o.heap.size=tb at nT I qP|-;refine tY U U (by k_ne) λs lT=> ?_;have S:s.heap[tb]?=_:=(lT.I tb<|Ã I).trans nT;have J:s.cell? ⟨tb,0,Á⟩=Â (À Á):=by simp[Ö,S]
 have K:s.cell? ⟨tb,1,Á⟩=Â (Ê Î 0):=by simp[Ö,S]
 have L:s.cell? ⟨tb,2,Á⟩=Â (À Á):=by simp[Ö,S]
 have P:s.cell? ⟨tb,3,Á⟩=Â (À Á):=by simp[Ö,S]
 have hz:∀g,s.frozen? ⟨tb,g,Á⟩=Ì:=λg=>by simp[î,S]
 go_simp;refine⟨{l₁ with w:=iK s tb (À O) (Ê Î j) (À<|Â ⟨i,0,Á⟩) (À<|Â ⟨n,0,Á⟩)},EZ (p:=tb) (lQ vD.fv lT) (by rwa[vD.q]) I wW (λg H=>yC H) ⟨U,U,U⟩ λe F=> ?_,?_⟩
 .have h:=đ F;have e:∀g,pD l₁ ⟨tb,g,Á⟩:=λg=>Ã I;simp[go_sem,á _ _ _ _ _ _ (show Ø (À O)=Ò from rfl),á _ _ _ _ _ _ (show Ø (À<|Â ⟨i,0,Á⟩)=Ò from rfl),á _ _ _ _ _ _ (show Ø (À<|Â ⟨n,0,Á⟩)=Ò from rfl),J,K,L,P,hz]at h;rcases h with rfl|rfl|rfl|rfl
  .exact(e _).r
  .exact(e _).r
  .exact(e _).r
  .exact(e _).r
 let⟨c0,c1,c2,c3⟩:=Se (v0:=À O) (v1:=Ê Î j) (v2:=À<|Â ⟨i,0,Á⟩) (v3:=À<|Â ⟨n,0,Á⟩) J K L P;have C:=Sf (w':=iK s tb (À O) (Ê Î j) (À<|Â ⟨i,0,Á⟩)<|À<|Â ⟨n,0,Á⟩) D sI vD lT qP wW λg H=>yC H;have xa:({l₁ with w:=iK s tb (À O) (Ê Î j) (À<|Â ⟨i,0,Á⟩) (À<|Â ⟨n,0,Á⟩)}:fe).O tb:=I;replace c0:({l₁ with w:=iK s tb (À O) (Ê Î j) (À<|Â ⟨i,0,Á⟩) (À<|Â ⟨n,0,Á⟩)}:fe).w.cell? ⟨tb,0,Á⟩=_:=c0;replace c1:({l₁ with w:=iK s tb (À O) (Ê Î j) (À<|Â ⟨i,0,Á⟩) (À<|Â ⟨n,0,Á⟩)}:fe).w.cell? ⟨tb,1,Á⟩=_:=c1;replace c2:({l₁ with w:=iK s tb (À O) (Ê Î j) (À<|Â ⟨i,0,Á⟩) (À<|Â ⟨n,0,Á⟩)}:fe).w.cell? ⟨tb,2,Á⟩=_:=c2;replace c3:({l₁ with w:=iK s tb (À O) (Ê Î j) (À<|Â ⟨i,0,Á⟩) (À<|Â ⟨n,0,Á⟩)}:fe).w.cell? ⟨tb,3,Á⟩=_:=c3;generalize({l₁ with w:=iK s tb (À O) (Ê Î j) (À<|Â ⟨i,0,Á⟩) (À<|Â ⟨n,0,Á⟩)}:fe)=l₂ at c0 c1 c2 c3 C xa|-;clear nT I vD S J K L P hz lT s l₁ kT o;have sJ:=C.G D;have oV:¬l₂.q:=by rwa[C.q]
 have ajp:l₂.N ⟨i,2,Á⟩:=by rwa[C.c]
 have nE:¬((⟨i,2,Á⟩:â)=⟨n,2,Á⟩\/(⟨i,2,Á⟩:â)=⟨an,j,Á⟩):=λq=>by
  rcases q with q|q
  .exact D.Y _ o1<|q▸vy
  .exact D.Y _ o2<|q▸vy
 have ajq:l₂.w.cell? ⟨i,2,Á⟩=Â v:=(C.e _ (Ç vy) nE).trans qC;have Sj:∀y:â,(y=⟨n,2,Á⟩\/y=⟨an,j,Á⟩)->l₂.r y:=λy hy=>by rw[C.I];exact sI y hy
 refine fR (n:=5) sJ.r ?_;iterate 2 w_go fy
 refine Ë λ_ _=> ?_;refine LX (II Au #[y0,Æ (Â ⟨an,0,Á⟩) N N,Y,y3,y4,À<|Â ⟨tb,0,Á⟩,Æ (Â ⟨ib,0,Á⟩) m c,Ê Î m,Ê Î kk,Ş Ò,À<|Â ⟨ib,kk*4,Á⟩,Đ #[À O,Ê Î j,À<|Â ⟨i,0,Á⟩,À<|Â ⟨n,0,Á⟩],yE,sH,ug,rD,wY,wZ,vA,vB,vC,uh,ui,uj,sC,tV,sD,qc,oU,qK,qL,qM,vm,tW,tX,sE,sF] (np tb i n an N j (À O) v)<|EW l₂ i n an j v Q) sJ.r oV (λh H=> ?_) (λmd listed a l e z hI F=>ajj sJ oV U U U xa c0 c1 c2 c3 ajp ajq (Sj _<|Ã U) (Sj _<|Ç U) (C.g _ (Ã U) e1) (C.g _ (Ç U) e2) ((C.S _<|Ã o1).trans z1) ((C.S _<|Ã o2).trans z2) mI hN lN (λu h=>vf u<|C.fj h) md listed a l e z hI F) λmd listed a z hI iO AA=> ?_
 .refine⟨((Á,0,0),ByteArray.empty),lR.Y _ _ _,(iI.fV sJ.r).N Sj ⟨H.r,H.I,H.N,H.Y,H.S⟩,λq=> ?_,λq=> ?_,λq=> ?_⟩<;>exact absurd q A
 let⟨x,H,T⟩:=hI;have uk:∀e∈ã 21,listed.getD e Ì=Ò:=by
  cases md
  .exact qe AA iO (ã 21) [] fL λe F=>by cases F
  .exact λe F=>qe AA iO [0,1,5,6,7,8,9,10,11,12,13,14,16,17,18,2,3,4,15,19,20] [] fL (λe F=>by cases F) e (by have:=Ē.1 F;revert e;decide)
  .exact qe AA iO (ã 21) [] fL λe F=>by cases F
 have Ht:=C.fj T.r;have Hu:=Ht.G D;have vE:¬z.q:=by rwa[Ht.q]
 let⟨F,ds⟩:=a;obtain rfl:ds=[]:=H.M;have b1:F[1]?=Â (Æ (Â ⟨an,0,Á⟩) N N):=H.C (d:=1) A;have b5:F[5]?=Â (À<|Â ⟨tb,0,Á⟩):=H.C (d:=5) A;have b6:F[6]?=Â (Æ (Â ⟨ib,0,Á⟩) m c):=H.C (d:=6) A;have b7:F[7]?=Â (Ê Î m):=H.C (d:=7) A;have b8:F[8]?=Â (Ê Î kk):=H.C (d:=8) A;obtain⟨x0,x1,x2,x3,x4,x5,x6,x7,x8,x9,Zz,x11,x12,x13,x14,x15,x16,x17,x18,x19,x20,x21,x22,x23,x24,x25,x26,x27,x28,x29,x30,x31,x32,x33,x34,x35,x36,rfl⟩:=Sg F H.b;obtain rfl:x1=Æ (Â ⟨an,0,Á⟩) N N:=by simpa using b1
 obtain rfl:x5=À (Â ⟨tb,0,Á⟩):=by simpa using b5
 obtain rfl:x6=Æ (Â ⟨ib,0,Á⟩) m c:=by simpa using b6
 obtain rfl:x7=Ê Î m:=by simpa using b7
 obtain rfl:x8=Ê Î kk:=by simpa using b8
 have ajr:=T.Av<|uk 12 A;have ajs:=T.C<|uk 18 A;have ajt:=T.I<|uk 20 A;have d3:z.w.cell? ⟨tb,3,Á⟩=Â (À<|Â ⟨n,0,Á⟩):=(gK<|T.r.r tb<|Ã xa).trans c3;have s3:gQ z ⟨tb,3,Á⟩:=Ã<|Ã<|T.r.O tb xa;clear H uk b1 b5 b6 b7 b8;refine fR (n:=9) Hu.r ?_;iterate 3 w_go fy
 refine Ë λ_ _=> ?_;refine kA (x:=⟨tb,3,Á⟩) U U (by k_ne) Hu.r vE s3 d3 (λw h=>by go_simp) (λw h=>by simp[go_sem,h]) ?_;walk_nrm;refine fR (n:=9) Hu.r ?_;iterate 2 w_go fy
 u_call rB.f_done (nm_done Lk) doneFn fy hF
 refine Ë λ_ _=> ?_;have Hv:∀o,fI z z.w o->mA (λ_=>True) {z with w:=o} n/\SW (λ_=>True) {z with w:=o} n o/\Φ {z with w:=o}/\(τ {z with w:=o}).d=0/\∃E:ß->Prop,mA E (τ {z with w:=o}) n/\SW E (τ {z with w:=o}) n (τ {z with w:=o}).w/\∀s X,SW E (τ {z with w:=o}) n s->Ct an N (Â ⟨ib,0,Á⟩) m c (kk+1) X->fi Ä Ì f {τ {z with w:=o}with d:=0,w:=s} (Ax X qX):=λo r=>by
  refine BD {z with w:=o} x (Ht.N sI r) ?_ ?_ ?_
  .let⟨y,y1,Y⟩:=ajr;exact⟨y,y1,λb h=>⟨(Y b h).1,(r.I b (Y b h).1).trans (Y b h).2⟩⟩
  .exact(r.N _<|Ã<|by rwa[Ht.I]).trans ajs
  .exact(r.N _<|Ã<|by rwa[Ht.I]).trans ajt
 let⟨k1,k2,_⟩:=Hv z.w<|fI.fV _ _;refine ajn rB τ Φ k1 k2 λo r=> ?_;let⟨_,_,f1,f4,E,f2,f3,f5⟩:=Hv o r;refine⟨f1,f4,E,f2,f3,λs h=> ?_⟩;walk_nrm;refine fR (n:=30) h.1 ?_;iterate 7 w_go fy
 refine Ë λ_ _=> ?_;refine f5 s _ h ⟨U,U,U,U,?_⟩;simp;exact Cu Z Z
end
def aju:Array å:=#[⟨Â 2,ć 85<|Ù 0,85, "work.go:24",#[],Á⟩,
 ⟨Â 3,ć 25<|Ù 1,25, "work.go:24",#[],Á⟩,
 ⟨Â 4,Ě {callee:=ĕ (ĸ 49),args:=#[Ù 2,Ù 3],argTypes:=#[85,25]},0, "work.go:24",#[⟨0,Ü⟩,⟨1,Ü⟩],Á⟩]
def AB(a:Nat)(b c d e:Ï):ç:=(baseD 63).at ⟨#[À<|Â ⟨a,0,Á⟩,b,c,d,e],[qd 64 #[À<|Â ⟨a,0,Á⟩] #[]]⟩ [Ñ Zv [1]]
def Sk(a b c d e:Ï):ç:=(base 48).at ⟨#[a,b,c,d,e],[]⟩ [Ñ aju [2]]
section
variable{Ψ:ß->Prop}{J:Jd}{l:fe}{a e f o p:Ï}
def ajv(c:kn l)(g:¬l.q)(k:gQ l ⟨j9,0,Á⟩)(r:gQ l ⟨j7,0,Á⟩)(s:gQ l ⟨b,0,Á⟩)(t:l.w.cell? ⟨j9,0,Á⟩=Â (Ĉ (ù 48) #[] #[À<|Â ⟨j7,0,Á⟩,À<|Â ⟨b,0,Á⟩]))(u:l.w.cell? ⟨j7,0,Á⟩=Â (Æ O m n))(y:l.w.cell? ⟨b,0,Á⟩=Â (Æ (Â ⟨j,0,Á⟩) i i)) (B:∀d a e f o v x z jQ p,Ct j i O m n 0 d->fi Ä Ì J l (Ax d [Sk v x z jQ p,AB j6 a e f o,oB Ä])): fi Ä Ì J l (born Ä<|qd 63 #[À<|Â ⟨j6,0,Á⟩,À<|Â ⟨j9,0,Á⟩] #[]):=by
 apply fR (n:=30) c;have hF:=trivial;u_c (Zn ů fL U) fy hF;walk_nrmf Κ;iterate 3 w_go fy
 u_c (Zl U U (by k_ne) U U) fy hF
 walk_nrm;repeat w_go fy
 refine Ë λ_ _=> ?_;apply kA U U (by k_ne) c g k t (λw h=>by go_simp) (λw h=>by simp[go_sem,h]);walk_nrm;apply fR (n:=30) c;u_c (Zm U U (by k_ne) U U Ű fL U) fy hF;walk_nrmf Tryz.f48;w_go fy;refine Ë λ_ _=> ?_;apply kA U U (by k_ne) c g r u (λw h=>by go_simp) (λw h=>by simp[go_sem,h]);walk_nrm;apply kA U U (by k_ne) c g s y (λw h=>by go_simp) (λw h=>by simp[go_sem,h]);walk_nrm;apply fR (n:=30) c;u_call ű fL Ι fy hF;iterate 8 w_go fy
 refine Ë λ_ _=> ?_;exact B _ _ _ _ _ _ _ _ _ _ ⟨U,U,U,U,U⟩
def ajw(b:Ct j i O m n m d)(h:l.K ⟨k,0,Á⟩/\l.K ⟨k,1,Á⟩)(r:mA Ψ l k)(c:SW Ψ l k l.w)(s:l.d=0)(t:¬l.q)(u:gQ l ⟨j6,0,Á⟩)(y:l.w.cell? ⟨j6,0,Á⟩=Â (À<|Â ⟨k,0,Á⟩)): fi Ä Ì (λl g=>Ab Ä Ì k (EJ Ä) (kI l) g) l (Ax d [Sk v x z jQ p,AB j6 a e f o,oB Ä]):=by
 obtain⟨C,D,E,F,G,H,I,g,B,J,L,M,N,P,Q,S,T,V,W,X,Y,uh,ui,uj,sC,tV,sD,qc,oU,qK,qL,qM,vm,tW,tX,sE,sF,rfl⟩:=Sg d b.r;obtain rfl:g=Ê Î m:=by simpa using b.C
 obtain rfl:B=Ê Î m:=by simpa using b.I
 have hmm:¬(m:Int)<(m:Int):=Z
 simp only[Ax];conv in L2=>whnf
 apply fR (n:=40) c.1;have hF:=trivial;iterate 8 w_go fy
 u_leave0 ű fy hF
 iterate 2 w_go fy
 u_leave0 Ű fy hF
 refine Ë λ_ _=> ?_;exact Zw h r c s t u y
end
def Hw:å:=⟨Â 14,ę<|Ù 1,25, "work.go:65",#[],Á⟩
def Hx:å:=⟨Â 15,ð 155 (Ù 4) 1,0, "work.go:65",#[],Á⟩
def E0:å:=⟨Â 16,ć 3<|Ù 15,3, "work.go:65",#[⟨1,Ü⟩],Á⟩
def Hz:å:=⟨Â 17,ð 155 (Ù 4) 2,0, "work.go:65",#[],Á⟩
def E1:å:=⟨Â 18,ć 86<|Ù 17,86, "work.go:65",#[⟨3,Ü⟩],Á⟩
def E2:å:=⟨Â 19,ĩ<|Ù 18,0, "work.go:65",#[⟨4,Ü⟩],Á⟩
def E3:å:=⟨Â 20,ð 105 (Ù 19) 1,0, "work.go:65",#[⟨5,Ü⟩],Á⟩
def E4:å:=⟨Â 21,ć 65<|Ù 20,65, "work.go:65",#[⟨6,Ü⟩],Á⟩
def HA:å:=⟨Â 22,ð 155 (Ù 4) 0,0, "work.go:65",#[],Á⟩
def E5:å:=⟨Â 23,ć 148<|Ù 22,148, "work.go:65",#[⟨8,Ü⟩],Á⟩
def Cv:å:=⟨Â 24,Ě {callee:=ĕ<|ĸ 67,args:=#[Ù 21,Ù 23],argTypes:=#[65,148]},9, "work.go:65",#[⟨7,Ü⟩,⟨9,Ü⟩],Á⟩
def Cw:å:=⟨Â 25,ő 25 (Ù 14)<|Ù 16,0, "work.go:65",#[⟨0,Ü⟩,⟨2,Ü⟩,⟨0,Í⟩,⟨1,Í⟩,⟨2,Í⟩,⟨3,Í⟩,⟨4,Í⟩,⟨5,Í⟩,⟨6,Í⟩,⟨7,Í⟩,⟨8,Í⟩,⟨9,Í⟩,⟨10,Í⟩],Á⟩
def Cx:å:=⟨Á,Ţ 9 (Ù 25)<|Ù 24,0, "work.go:65",#[⟨11,Ü⟩,⟨10,Ü⟩,⟨10,ţ⟩,⟨0,Í⟩,⟨1,Í⟩,⟨2,Í⟩,⟨3,Í⟩,⟨4,Í⟩,⟨5,Í⟩,⟨6,Í⟩,⟨7,Í⟩,⟨8,Í⟩,⟨9,Í⟩,⟨10,Í⟩],Á⟩
def xb:Array å:=#[Hw,Hx,E0,Hz,E1,E2,E3,E4,HA,E5,Cv,Cw,Cx]
def rE(tb a b N c:Nat)(rq d:Ï)(x:ByteArray):Nat->Ï
 |0=>Æ (Â ⟨b,0,Á⟩) N N
 |1=>À<|Â ⟨tb,1,Á⟩
 |2=>Ê Î c
 |3=>À<|Â ⟨tb,2,Á⟩
 |4=>À<|Â ⟨a,0,Á⟩
 |5=>À<|Â ⟨a,0,Á⟩
 |6=>À<|Â ⟨a,2,Á⟩
 |7=>d
 |8=>À<|Â ⟨tb,0,Á⟩
 |9=>rq
 |10=>à x
 |11=>À<|Â ⟨b,c,Á⟩
 |_=>Å
structure E6(jl:fe)(an pl:Nat)(Q:ByteArray->Prop)(listed:Array Bool)(x:ByteArray)(l:fe):Prop where
 r:iI (λa=>a=⟨an,pl,Á⟩) jl l
 Av:listed.getD 10 Ì=Ò->Q x
 C:listed.getD 12 Ì=Ò->l.w.cell? ⟨an,pl,Á⟩=Â (à x)
def E6.ff{b l:fe}{Q:ByteArray->Prop}{listed:Array Bool}{x:ByteArray}(h:E6 b n j Q listed x l)(d:i≠10)(e:i≠12)(c:b.r ⟨n,j,Á⟩)(w₁:ß)(r:fI l l.w w₁):E6 b n j Q (listed.setIfInBounds i Ò) x {l with w:=w₁}:=by
 refine⟨h.r.N (λa q=>by rwa[q]) r,λq=> ?_,λq=> ?_⟩
 .rw[è Ì d]at q;exact h.Av q
 .rw[è Ì e]at q;exact(r.N _<|by rw[h.r.C];exact Ã c).trans<|h.C q
section
variable{J:Jd}{jl:fe}{an pl:Nat}{Q:ByteArray->Prop}{k:List Ŝ}{cs:List ç}
def ajx(W:gq jl)(hq:¬jl.q)(ht:d.size=26)(Cp:d[1]?=Â (Æ (Â ⟨an,0,Á⟩) i i))(HJ:d[4]?=Â (À<|Â ⟨j,0,Á⟩))(hO:jl.O j) (K:jl.w.cell? ⟨j,0,Á⟩=Â v) (L:jl.w.cell? ⟨j,1,Á⟩=Â (Ê Î pl)) (M:jl.w.cell? ⟨j,2,Á⟩=Â (À<|Â ⟨n,0,Á⟩)) (X:jl.N ⟨n,2,Á⟩) (qC:jl.w.cell? ⟨n,2,Á⟩=Â z) (D:jl.r ⟨an,pl,Á⟩) (e2:(jl.w.cell? ⟨an,pl,Á⟩).isSome=Ò) (z2:jl.w.frozen? ⟨an,pl,Á⟩=Ì) (mI:pl<i) (Sl:∀l,iI (λa=>a=⟨an,pl,Á⟩) jl l->∀B ku,fi Ä Ì (λP S=>P.d=l.d/\∃T,S=G (B.finish<|à T) ku/\Q T) (mB l)<|G (Ă Ä 67 #[z,v] Ğ)<|B::ku) (md:ý) (listed:Array Bool) (a:ŏ) (l:fe) (b:Nat) (rest:List Nat) (hI:II xb d (rE j n an i pl v z) (E6 jl an pl Q) listed a l) (s:b∈Û md xb listed): fi Ä Ì (λP S=>∃J,S=G ((base 51).at J<|Ñ xb rest::k) cs/\II xb d (rE j n an i pl v z) (E6 jl an pl Q) (listed.setIfInBounds b Ò) J P) l (G ((base 51).at a<|Ñ xb (b::rest)::k) cs):=by
 let⟨x,p,t⟩:=hI;have F:rA xb d.size=Ò:=by rw[ht];decide
 have Sm:=R5 s;have gE:=At s;have H:=t.r.fv;have I:¬l.q:=by rwa[t.r.q]
 have V:∀y:â,y=⟨an,pl,Á⟩->jl.r y:=λy ha=>by rwa[ha]
 have nT:a.tmps[1]?=Â (Æ (Â ⟨an,0,Á⟩) i i):=(p.C A).trans Cp;have Y:a.tmps[4]?=Â (À<|Â ⟨j,0,Á⟩):=(p.C A).trans HJ;have B:∀c g,jl.w.cell? ⟨j,c,Á⟩=Â g->gQ l ⟨j,c,Á⟩/\l.w.cell? ⟨j,c,Á⟩=Â g:=λc g h=>⟨Ã<|Ã<|t.r.O j hO,by rwa[gK<|t.r.r j<|Ã hO]⟩;have R9:¬((⟨n,2,Á⟩:â)=⟨an,pl,Á⟩):=λq=>W.Y _ D<|q▸X;have N:gQ l ⟨n,2,Á⟩/\l.w.cell? ⟨n,2,Á⟩=Â z:=⟨Ç (Ç<|by rwa[t.r.c]),by rwa[t.r.e _ (Ç X) R9]⟩;have EX:(pl:Int)<(i:Int):=Z
 have iO:xb.size=13:=A
 rw[iO]at gE;match b,gE with
 |0,_=>
  refine iu (o:=Hw) F p U U s (by k_ne) H I (λm r=> ?_) (λm r e u=> ?_)<|t.ff A A D
  .simp only[rE,Hw];go_simp
  .simp[go_sem,Hw,nT]at u
 |1,_=>
  refine iu (o:=Hx) F p U U s (by k_ne) H I (λm r=> ?_) (λm r e u=> ?_)<|t.ff A A D
  .simp only[rE,Hx];go_simp
  .simp[go_sem,Hx,Y]at u
 |2,_=>
  have Sc:a.tmps[15]?=Â (À<|Â ⟨j,1,Á⟩):=p.r 1 Hx 15 U (il (o:=E0) s U U) U;refine iu (o:=E0) F p U U s (by k_ne) H I (λm r=> ?_) (λm r e u=> ?_)<|t.ff A A D
  .have E:m.cell? ⟨j,1,Á⟩=Â (Ê Î pl):=((B 1 _ L).1.r r).trans (B 1 _ L).2;simp only[rE,E0];go_simp
  .have E:m.cell? ⟨j,1,Á⟩=Â (Ê Î pl):=((B 1 _ L).1.r r).trans (B 1 _ L).2;have J:e=⟨û ⟨j,1,Á⟩,Ì,Ì⟩:=by simp[go_sem,E0,E,Sc]at u;exact u
   subst J;exact(B 1 _ L).1.rd
 |3,_=>
  refine iu (o:=Hz) F p U U s (by k_ne) H I (λm r=> ?_) (λm r e u=> ?_)<|t.ff A A D
  .simp only[rE,Hz];go_simp
  .simp[go_sem,Hz,Y]at u
 |4,_=>
  have Sd:a.tmps[17]?=Â (À<|Â ⟨j,2,Á⟩):=p.r 3 Hz 17 U (il (o:=E1) s U U) U;refine iu (o:=E1) F p U U s (by k_ne) H I (λm r=> ?_) (λm r e u=> ?_)<|t.ff A A D
  .have E:m.cell? ⟨j,2,Á⟩=Â (À<|Â ⟨n,0,Á⟩):=((B 2 _ M).1.r r).trans (B 2 _ M).2;simp only[rE,E1];go_simp
  .have E:m.cell? ⟨j,2,Á⟩=Â (À<|Â ⟨n,0,Á⟩):=((B 2 _ M).1.r r).trans (B 2 _ M).2;have J:e=⟨û ⟨j,2,Á⟩,Ì,Ì⟩:=by simp[go_sem,E1,E,Sd]at u;exact u
   subst J;exact(B 2 _ M).1.rd
 |5,_=>
  have Sn:a.tmps[18]?=Â (À<|Â ⟨n,0,Á⟩):=p.r 4 E1 18 U (il (o:=E2) s U U) U;refine iu (o:=E2) F p U U s (by k_ne) H I (λm r=> ?_) (λm r e u=> ?_)<|t.ff A A D
  .simp only[rE,E2];go_simp
  .simp[go_sem,E2,Sn]at u
 |6,_=>
  have h19:a.tmps[19]?=Â (À<|Â ⟨n,0,Á⟩):=p.r 5 E2 19 U (il (o:=E3) s U U) U;refine iu (o:=E3) F p U U s (by k_ne) H I (λm r=> ?_) (λm r e u=> ?_)<|t.ff A A D
  .simp only[rE,E3];go_simp
  .simp[go_sem,E3,h19]at u
 |7,_=>
  have L3:a.tmps[20]?=Â (À<|Â ⟨n,2,Á⟩):=p.r 6 E3 20 U (il (o:=E4) s U U) U;refine iu (o:=E4) F p U U s (by k_ne) H I (λm r=> ?_) (λm r e u=> ?_)<|t.ff A A D
  .have E:m.cell? ⟨n,2,Á⟩=Â (z):=(N.1.r r).trans N.2;simp only[rE,E4];go_simp
  .have E:m.cell? ⟨n,2,Á⟩=Â (z):=(N.1.r r).trans N.2;have J:e=⟨û ⟨n,2,Á⟩,Ì,Ì⟩:=by simp[go_sem,E4,E,L3]at u;exact u
   subst J;exact N.1.rd
 |8,_=>
  refine iu (o:=HA) F p U U s (by k_ne) H I (λm r=> ?_) (λm r e u=> ?_)<|t.ff A A D
  .simp only[rE,HA];go_simp
  .simp[go_sem,HA,Y]at u
 |9,_=>
  have Hs:a.tmps[22]?=Â (À<|Â ⟨j,0,Á⟩):=p.r 8 HA 22 U (il (o:=E5) s U U) U;refine iu (o:=E5) F p U U s (by k_ne) H I (λm r=> ?_) (λm r e u=> ?_)<|t.ff A A D
  .have E:m.cell? ⟨j,0,Á⟩=Â (v):=((B 0 _ K).1.r r).trans (B 0 _ K).2;simp only[rE,E5];go_simp
  .have E:m.cell? ⟨j,0,Á⟩=Â (v):=((B 0 _ K).1.r r).trans (B 0 _ K).2;have J:e=⟨û ⟨j,0,Á⟩,Ì,Ì⟩:=by simp[go_sem,E5,E,Hs]at u;exact u
   subst J;exact(B 0 _ K).1.rd
 |10,_=>
  have So:a.tmps[21]?=Â (z):=p.r 7 E4 21 U (il (o:=Cv) s U U) U;have h23:a.tmps[23]?=Â (v):=p.r 9 E5 23 U (il (o:=Cv) s U U) U;refine Zu (o:=Cv) F p U U s (by k_ne) H (f:=67) (args:=#[z,v]) (λw=>by simp only[Cv];go_simp) (λw=>ł (o:=Cv) U Tryz.func67 U U #[]) λm r=> ?_;have J:=t.r.N V r;refine((Sl _ J _ _).mB<|J.G W).ff ?_;rintro P S ⟨y,⟨hy0,T,rfl,hQ⟩,rfl,hA,Zx,ajk,ajl⟩;refine⟨T,U,⟨J.R6 V hA hy0,λ_=>hQ,λq=> ?_⟩,λc hj=> ?_⟩
  .rw[è Ì A]at q;exact absurd (p.I (o:=Cx) U q U)<|yB Sm
  .match c,hj with
   |10,hj=>exact absurd hj<|yB Sm
   |0,_|1,_|2,_|3,_|4,_|5,_|6,_|7,_|8,_|9,_|11,_|12,_|n+13,_=>rfl
 |11,_=>
  have J:a.tmps[14]?=Â (Æ (Â ⟨an,0,Á⟩) i i):=p.r 0 Hw 14 U (il (o:=Cw) s U U) U;have h16:a.tmps[16]?=Â (Ê Î pl):=p.r 2 E0 16 U (il (o:=Cw) s U U) U;refine iu (o:=Cw) F p U U s (by k_ne) H I (λm r=> ?_) (λm r e u=> ?_)<|t.ff A A D
  .simp only[rE,Cw];go_simp
  .simp[go_sem,Cw,mI,EX,J,h16]at u
 |12,_=>
  have h25:a.tmps[25]?=Â (À<|Â ⟨an,pl,Á⟩):=p.r 11 Cw 25 U (il (o:=Cx) s U U) U;have Cq:a.tmps[24]?=Â (à x):=p.r 10 Cv 24 U (il (o:=Cx) s U U) U;have J:(l.w.cell? ⟨an,pl,Á⟩).isSome=Ò:=t.r.g _ U e2;have Cr:l.w.frozen? ⟨an,pl,Á⟩=Ì:=(t.r.S _<|Ã D).trans z2;have lS:pD l ⟨an,pl,Á⟩:=Ç (by rwa[t.r.I]);refine R7 (o:=Cx) (y:=⟨an,pl,Á⟩) (v:=à x) F p U U U s (by k_ne) H I U lS J Cr (λw E e=> ?_) (λw E e=> ?_) λm r=> ?_
  .let⟨u,hu⟩:=Ô.1 E;simp only[Cx];go_simp
  .let⟨u,hu⟩:=Ô.1 E;simp[go_sem,Cx,h25,Cq,á _ _ _ _ _ _ (show Ø (à x)=Ò from rfl),hu,e]
  .have hA:=t.r.rh W V (x:=⟨an,pl,Á⟩) (v:=à x) U U J;refine⟨hA.N V ⟨r.r,r.I,r.N,r.Y,r.S⟩,λq=> ?_,λq=> ?_⟩
   .rw[è Ì A]at q;exact t.Av q
   .exact(r.N _<|by rw[t.r.C];exact Ã D).trans<|BI (Ô.1 J).choose_spec
 |n+13,h=>exact absurd h Z
end
def AE:Array å:=#[⟨Â 6,.recv 165 (Ù 5) Ò,0, "work.go:63",#[],Á⟩,⟨Â 7,Ő (Ù 6) 1,4, "work.go:63",#[⟨0,Ü⟩],Á⟩]
def ZA:Array å:=#[⟨Â 8,Ő (Ù 6) 0,155, "work.go:63",#[],Á⟩,⟨Â 4,.alloc 155,0, "work.go:63",#[],Á⟩,⟨Á,Ţ 155 (Ù 4)<|Ù 8,0, "work.go:63",#[⟨1,Ü⟩,⟨0,Ü⟩,⟨0,Í⟩,⟨1,Í⟩],Á⟩]
def Sp:Array å:=#[⟨Â 9,ð 155 (Ù 4) 2,0, "work.go:64",#[],Á⟩,⟨Â 10,ć 86<|Ù 9,86, "work.go:64",#[⟨0,Ü⟩],Á⟩,⟨Â 11,ĩ<|Ù 10,0, "work.go:64",#[⟨1,Ü⟩],Á⟩,⟨Â 12,ð 105 (Ù 11) 0,0, "work.go:64",#[⟨2,Ü⟩],Á⟩,⟨Â 13,Ě {callee:=ĕ<|ĸ 53,args:=#[Ù 12],argTypes:=#[97]},0, "work.go:64",#[⟨3,Ü⟩],Á⟩]
def E7:Ę:=((ť (Ù 7) Ŧ<|ŧ 0).seq<|İ 1<|(ä 2 ZA Ì).seq<|(ä 3 Sp Ì).seq<|ä 4 xb Ò)
def Cy:Ę:=(ä 1 AE Ì).seq E7
def ajy:Array å:=#[⟨Â 2,ć 101<|Ù 0,101, "work.go:30",#[],Á⟩,
 ⟨Â 3,ć 25<|Ù 1,25, "work.go:30",#[],Á⟩,
 ⟨Â 4,Ě {callee:=ĕ (ĸ 51),args:=#[Ù 2,Ù 3],argTypes:=#[165,25]},0, "work.go:30",#[⟨0,Ü⟩,⟨1,Ü⟩],Á⟩]
def HM(a b c d e:Ï):ç:=(base 50).at ⟨#[a,b,c,d,e],[]⟩ [Ñ ajy [2]]
def ZB(t:Array Ï)(a:List ç):Ý:=G ((base 51).at ⟨t,[]⟩ [ö Cy,ą Cy,ô 0]) a
def AF(t:Array Ï)(a:List ç):Ý:=G ((base 51).at ⟨t,[]⟩ [Ñ AE [0,1],ö E7,ą Cy,ô 0]) a
def L4(t:Array Ï)(a:List ç):Ý:=G ((base 51).at ⟨t,[]⟩ [Ñ Sp [],ö<|ä 4 xb Ò,ô 1,ą Cy,ô 0]) a
def Sq(t:Array Ï)(a:List ç):Ý:=G ((base 51).at ⟨t,[]⟩ [Ñ AE [1],ö E7,ą Cy,ô 0]) a
def ZC(t:Array Ï)(v:Ï)(a:List ç):({AF t a with frame:=(AF t a).frame.finish v}:Ý)=Sq (t.setIfInBounds 6 v) a:=by have:(AF t a).frame.finish v=(base 51).at (Ο ⟨t,[]⟩ (Â 6) v) [Ñ AE [1],ö E7,ą Cy,ô 0]:=Ģ _ _ _ _ _ _ _;rw[this];rfl
def zT:Ï:=Đ #[À Á,Ê Î 0,À Á,À Á]
structure QT(an N ch:Nat)(t:Array Ï):Prop where
 r:t.size=26
 C:t[1]?=Â (Æ (Â ⟨an,0,Á⟩) N N)
 I:t[5]?=Â (é<|Â ch)
def ajz(t:Array Ï)(h:t.size=26):∃a b c d e f g i j k l m n o p q r s u v w x y z B C:Ï,t=#[a,b,c,d,e,f,g,i,j,k,l,m,n,o,p,q,r,s,u,v,w,x,y,z,B,C]:=by obtain⟨_,rfl⟩:=Aw t h;exact⟨_,_,_,_,_,_,_,_,_,_,_,_,_,_,_,_,_,_,_,_,_,_,_,_,_,_,U⟩
section
variable{Ψ:ß->Prop}{J u:Jd}{l:fe}{t:Array Ï}{ch an N:Nat}{a:Option â}{Q:ByteArray->Prop}{o p r s c f:Ï}{τ:fe->fe}
def ZD(a:kn l)(b:fi Ä Ì J l (AF t qX)):fi Ä Ì J l (ZB t qX):=by apply fR (n:=5) a;have hF:=trivial;simp only[ZB,Cy];w_go fy;u_c ĺ fy hF;exact Ë λ_ _=>b
def ajA(a:kn l)(d:¬l.q)(e:gQ l ⟨k,0,Á⟩)(g:gQ l ⟨b,0,Á⟩)(i:gQ l ⟨n,0,Á⟩)(j:l.w.cell? ⟨k,0,Á⟩=Â (Ĉ (ù 50) #[] #[À<|Â ⟨b,0,Á⟩,À<|Â ⟨n,0,Á⟩]))(u:l.w.cell? ⟨b,0,Á⟩=Â (é<|Â ch))(v:l.w.cell? ⟨n,0,Á⟩=Â (Æ (Â ⟨an,0,Á⟩) N N)) (y:∀t o p r s x z jQ c f,QT an N ch t->fi Ä Ì J l (AF t [HM x z jQ c f,AB m o p r s,oB Ä])): fi Ä Ì J l (born Ä<|qd 63 #[À<|Â ⟨m,0,Á⟩,À<|Â ⟨k,0,Á⟩] #[]):=by
 apply fR (n:=30) a;have hF:=trivial;u_c (Zn ů fL U) fy hF;walk_nrmf Κ;iterate 3 w_go fy
 u_c (Zl U U (by k_ne) U U) fy hF
 walk_nrm;repeat w_go fy
 refine Ë λ_ _=> ?_;apply kA U U (by k_ne) a d e j (λw h=>by go_simp) (λw h=>by simp[go_sem,h]);walk_nrm;apply fR (n:=30) a;u_c (Zm U U (by k_ne) U U Ų fL U) fy hF;walk_nrmf Tryz.f50;w_go fy;refine Ë λ_ _=> ?_;apply kA U U (by k_ne) a d g u (λw h=>by go_simp) (λw h=>by simp[go_sem,h]);walk_nrm;apply kA U U (by k_ne) a d i v (λw h=>by go_simp) (λw h=>by simp[go_sem,h]);walk_nrm;apply fR (n:=30) a;u_call ų fL Tryz.f51 fy hF;iterate 6 w_go fy
 refine Ë λ_ _=> ?_;exact ZD a<|y _ _ _ _ _ _ _ _ _ _ ⟨U,U,U⟩
def ajB{Y:Ï}(G:gq l)(M:¬l.q)(P:l.d=0)(hT:QT an N ch t)(hB:60<=i)(ajC:Y=Đ #[À a,Ê Î j7,À<|Â ⟨j9,0,Á⟩,À O])(Q:l.K ⟨j9,0,Á⟩/\l.K ⟨j9,1,Á⟩)(HO:nQ j9 l.w) (Sr:l.K ⟨j,0,Á⟩/\l.K ⟨j,1,Á⟩) (hsa:nQ j l.w) (hs:gQ l ⟨m,0,Á⟩) (hc:l.w.cell? ⟨m,0,Á⟩=Â (À<|Â ⟨j,0,Á⟩)) (ajD:∀H k t',iI fh l H->H.d=0->H.O k->H.w.cell? ⟨k,0,Á⟩=Â (À a)->H.w.cell? ⟨k,1,Á⟩=Â (Ê Î j7)->H.w.cell? ⟨k,2,Á⟩=Â (À<|Â ⟨j9,0,Á⟩)->QT an N ch t'->t'[4]?=Â (À<|Â ⟨k,0,Á⟩)->u H (L4 t' [HM x z jQ c f,AB m o p r s,oB Ä])): ym Ä Ì ch zT (λb=>match b with
  |some v=>λl g=>v=Y->rv Ä Ì i j9 u .jc l g
  |none=>λl g=>Ab Ä Ì j (EJ Ä) (kI l) g) l (AF t [HM x z jQ c f,AB m o p r s,oB Ä]):=by
 obtain⟨y0,y1,y2,y3,y4,y5,y6,y7,y8,y9,yD,Az,yE,sH,ug,rD,wY,wZ,vA,vB,vC,uh,ui,uj,sC,tV,rfl⟩:=ajz t hT.r;obtain rfl:y1=Æ (Â ⟨an,0,Á⟩) N N:=by simpa using hT.C
 obtain rfl:y5=é (Â ch):=by simpa using hT.I
 have hF:=trivial;refine⟨U,U,λD=> ?_,λb=> ?_⟩
 .refine(Ż (cases:=#[rcase ch zT]) (blocking:=Ò) (shape:=.recv Ò) (w':=D) rfl rfl (by k_ne) ?_).trans ?_
  .simp[go_sem,AE,ĉ,rcase,zT]
  .simp[listed,go_sem,AE,ĉ,Ī];rfl
 cases b with
 |none=>
  rw[ZC];simp only[Sq,E7,AE,Option.getD_none,ı,ē,Ĳ,ĳ];apply fR (n:=30) G.r;iterate 6 w_go fy
  u_leave0 ų fy hF
  iterate 2 w_go fy
  u_leave0 Ų fy hF
  refine Ë λ_ _=> ?_;exact Zw (Ψ:=λ_=>True) Sr ⟨Ã Sr.1,Ã Sr.2,λ_ _ _ _ _ _ _ _=>trivial⟩ ⟨G.r,hsa,trivial⟩ P M hs hc
 |some v=>
  by_cases hv:v=Y
  .subst hv;subst ajC;apply fi.ff λl g h _=>h;rw[ZC];simp only[Sq,E7,AE,Ń,Option.isSome_some,ē,Ĳ,ĳ];apply fR (n:=30) G.r;iterate 7 w_go fy
   u_c ĺ fy hF
   simp only[ZA,Ļ,ń,ŋ,ś,č,ã,List.range.loop];w_go fy;refine Ë λ_ _=> ?_;have sI:∀y:â,False->l.r y:=λy ha=>ha.elim;refine Cs (ob:=É #[À Á,Ê Î 0,À Á,À Á] 155) U U (by k_ne) G.r M (λw=>by go_simp) (λw=>by simp[go_sem]) λD kT=> ?_;walk_nrm;have S:iI fh l (gF l D<|É #[À Á,Ê Î 0,À Á,À Á] 155):=L0 G sI kT;have nT:(gF l D<|É #[À Á,Ê Î 0,À Á,À Á] 155).w.heap[D.heap.size]?=Â (É #[À Á,Ê Î 0,À Á,À Á] 155):=nU;have qP:=kT.r;have I:(gF l D<|É #[À Á,Ê Î 0,À Á,À Á] 155).O D.heap.size:=Ç U;generalize gF l D (É #[À Á,Ê Î 0,À Á,À Á] 155)=l₁ at S nT I|-;generalize D.heap.size=k at nT I qP|-;refine tY U U (by k_ne) λC lT=> ?_;have J:=(lT.I k<|Ã I).trans nT;have yF:C.cell? ⟨k,0,Á⟩=Â (À Á):=by simp[Ö,J]
   have sK:C.cell? ⟨k,1,Á⟩=Â (Ê Î 0):=by simp[Ö,J]
   have sL:C.cell? ⟨k,2,Á⟩=Â (À Á):=by simp[Ö,J]
   have xc:C.cell? ⟨k,3,Á⟩=Â (À Á):=by simp[Ö,J]
   have hz:∀g,C.frozen? ⟨k,g,Á⟩=Ì:=λg=>by simp[î,J]
   go_simp;refine⟨{l₁ with w:=iK C k (À a) (Ê Î j7) (À<|Â ⟨j9,0,Á⟩) (À O)},EZ (lQ S.fv lT) (by rwa[S.q]) I wW (λg F=>yC F) ⟨U,U,U⟩ λe L=> ?_,?_⟩
   .have E:=đ L;have B:∀g,pD l₁ ⟨k,g,Á⟩:=λg=>Ã I;simp[go_sem,á _ _ _ _ _ _ (show Ø (À a)=Ò from rfl),á _ _ _ _ _ _ (show Ø (À<|Â ⟨j9,0,Á⟩)=Ò from rfl),á _ _ _ _ _ _ (show Ø (À O)=Ò from rfl),yF,sK,sL,xc,hz]at E;rcases E with rfl|rfl|rfl|rfl
    .exact(B _).r
    .exact(B _).r
    .exact(B _).r
    .exact(B _).r
   obtain⟨T,V,L,c3⟩:=Se yF sK sL xc;have E:=Sf (w':=iK C k (À a) (Ê Î j7) (À<|Â ⟨j9,0,Á⟩)<|À O) G sI S lT qP wW λg F=>yC F;have W:({l₁ with w:=iK C k (À a) (Ê Î j7) (À<|Â ⟨j9,0,Á⟩) (À O)}:fe).O k:=I;replace T:({l₁ with w:=iK C k (À a) (Ê Î j7) (À<|Â ⟨j9,0,Á⟩) (À O)}:fe).w.cell? ⟨k,0,Á⟩=_:=T;replace V:({l₁ with w:=iK C k (À a) (Ê Î j7) (À<|Â ⟨j9,0,Á⟩) (À O)}:fe).w.cell? ⟨k,1,Á⟩=_:=V;replace L:({l₁ with w:=iK C k (À a) (Ê Î j7) (À<|Â ⟨j9,0,Á⟩) (À O)}:fe).w.cell? ⟨k,2,Á⟩=_:=L;generalize({l₁ with w:=iK C k (À a) (Ê Î j7) (À<|Â ⟨j9,0,Á⟩) (À O)}:fe)=l₂ at T V L E W|-;have X:=E.G G;have oV:¬l₂.q:=by rwa[E.q]
   apply fR (n:=9) X.r;iterate 2 w_go fy
   u_c ĺ fy hF
   simp only[Sp,Ļ,ń,ŋ,ś,č,ã,List.range.loop];w_go fy;refine Ë λ_ _=> ?_;apply kA U U (by k_ne) X.r oV (Ã<|Ã W) L (λw h=>by go_simp) (λw h=>by simp[go_sem,h]);walk_nrm;apply fR (n:=9) X.r;iterate 2 w_go fy
   u_call rB.f_wait (nm_wait Lk) waitFn fy hF
   refine Ë λ_ _=> ?_;have k2:mA (λw=>fI l₂ l₂.w w) l₂ j9:=⟨Ã (by rw[E.K];exact Q.1),Ã (by rw[E.K];exact Q.2),λw D h1 h2 h3 h4 h5 h=>h.fj ⟨h1,h2,h3,h4,h5⟩⟩;have s2:SW (λw=>fI l₂ l₂.w w) l₂ j9 l₂.w:=⟨X.r,⟨E.b _ Q.1 HO.1,E.b _ Q.2 HO.2⟩,fI.fV _ _⟩;refine Zj rB hB k2 s2 (E.d.trans P) λD ZE=> ?_;walk_nrm;refine .fD λyA F=> ?_;have B:=E.N sI<|ZE.2.2.fj ⟨F.r,F.I,F.N,F.Y,F.S⟩;have hdd:=E.d.trans P;have Cz:iI fh l ({l₂ with d:=0,w:=yA}:fe):=⟨B.O,B.h,B.Y,B.I,B.c,B.K,B.q,P.symm,B.fv,B.f,B.r,B.e,B.S,B.b,B.g⟩;have rr:=ZE.2.2.fj ⟨F.r,F.I,F.N,F.Y,F.S⟩;have cc:∀g,yA.cell? ⟨k,g,Á⟩=l₂.w.cell? ⟨k,g,Á⟩:=λg=>gK<|rr.I k<|Ã W;exact ajD {l₂ with d:=0,w:=yA} k _ Cz U W ((cc 0).trans T) ((cc 1).trans V) ((cc 2).trans L) ⟨U,U,U⟩ U
  .exact .fD λ_ _ e=>absurd e hv
end
section
variable{J:Jd}{l:fe}{Q:ByteArray->Prop}
def ajE(f:gq l)(C:¬l.q)(g:QT n i j d)(L:d[4]?=Â (À<|Â ⟨m,0,Á⟩))(M:l.O m) (N:l.w.cell? ⟨m,0,Á⟩=Â (À O)) (P:l.w.cell? ⟨m,1,Á⟩=Â (Ê Î k)) (S:l.w.cell? ⟨m,2,Á⟩=Â (À<|Â ⟨b,0,Á⟩)) (T:l.N ⟨b,2,Á⟩) (V:l.w.cell? ⟨b,2,Á⟩=Â v) (p:l.r ⟨n,k,Á⟩) (W:(l.w.cell? ⟨n,k,Á⟩).isSome=Ò) (X:l.w.frozen? ⟨n,k,Á⟩=Ì) (Y:k<i) (Sl:∀e,iI (λa=>a=⟨n,k,Á⟩) l e->∀D E,fi Ä Ì (λl'' g'=>l''.d=e.d/\∃F,g'=G (D.finish<|à F) E/\Q F) (mB e)<|G (Ă Ä 67 #[v,À O] Ğ)<|D::E) (hJ:∀e x H,iI (λa=>a=⟨n,k,Á⟩) l e->Q x->e.w.cell? ⟨n,k,Á⟩=Â (à x)->QT n i j H->J e (AF H qX)): fi Ä Ì J l (L4 d qX):=by
 have I:∀y:â,y=⟨n,k,Á⟩->l.r y:=λy ha=>by rwa[ha]
 have hF:=trivial;apply fR (n:=3) f.r;simp only[L4];w_go fy;refine Ë λ_ _=> ?_;refine LX (II xb d (rE m b n i k (À O) v)<|E6 l n k Q) f.r C (λo h=> ?_) (λs t a l c o u r=>ajx f C g.r g.C L M N P S T V p W X Y Sl s t a l c o u r) λs t a kF u z B=> ?_
 .refine⟨ByteArray.empty,lR.Y _ _ _,(iI.fV f.r).N I ⟨h.r,h.I,h.N,h.Y,h.S⟩,λq=> ?_,λq=> ?_⟩<;>exact absurd q A
 let⟨x,o,h⟩:=u;have K:∀c∈ã 13,t.getD c Ì=Ò:=by
  cases s
  .exact qe B z (ã 13) [] fL λc r=>by cases r
  .exact qe B z (ã 13) [] fL λc r=>by cases r
  .exact qe B z (ã 13) [] fL λc r=>by cases r
 have s:=h.r.G f;let⟨z,B⟩:=a;obtain rfl:B=[]:=o.M;apply fR (n:=9) s.r;iterate 3 w_go fy
 refine Ë λ_ _=> ?_;refine ZD s.r<|.fD λw₁ r=>(hJ {kF with w:=w₁} x z (h.r.N I r) (h.Av<|K 10 A) ((r.N _<|Ã<|by rwa[h.r.I]).trans<|h.C<|K 12 A) ⟨o.b.trans g.r,((o.C A).trans g.C),((o.C A).trans g.I)⟩)
end
structure gd(X:Nat->Prop)(l l':fe):Prop where
 O:∀j,l.O j->l'.O j
 c:∀j,l'.O j->l.O j\/l.w.heap.size<=j
 S:l'.I=l.I
 Y:l'.r=l.r
 b:l'.N=l.N
 K:l'.K=l.K
 q:l'.q=l.q
 d:l'.d=l.d
 fv:kn l'
 I:l.w.heap.size<=l'.w.heap.size
 r:∀j,l.M j->¬X j->l'.w.heap[j]?=l.w.heap[j]?
 f:∀a,l.C a->l'.w.cell? a=l.w.cell? a
 g:∀a,l.C a->l'.w.frozen? a=l.w.frozen? a
 e:∀a,l.K a->(l.w.cell? a).isSome=Ò->(l'.w.cell? a).isSome=Ò
section
variable{l l' l'':fe}
theorem gd.fV(h:kn l):gd X l l:=⟨λ_ h=>h,λ_ h=>Ã h,U,U,U,U,U,U,h,Ú _,λ_ _ _=>rfl,λ_ _=>rfl,λ_ _=>rfl,λ_ _ h=>h⟩
def gd.C(h:gd X l l'):l'.C=l.C:=by unfold fe.C;rw[h.Y,h.b]
def gd.M(h:gd X l l')(a:l.M b):l'.M b:=a.imp (h.O b)<|by rw[h.S];exact id
def gd.fj(h:gd X l l')(k:gd X l' l''):gd X l l'':=by have e:=h.C;exact⟨λj c=>k.O j<|h.O j c,λj c=>(k.c j c).elim (h.c j) λq=>Ç<|Õ h.I q,k.S.trans h.S,k.Y.trans h.Y,k.b.trans h.b,k.K.trans h.K,k.q.trans h.q,k.d.trans h.d,k.fv,Õ h.I k.I,λj c f=>(k.r j (h.M c) f).trans<|h.r j c f,λa b=>(k.f a<|by rwa[e]).trans<|h.f a b,λa b=>(k.g a<|by rwa[e]).trans<|h.g a b,λa b q=>k.e a (by rwa[h.K])<|h.e a b q⟩
def gd.G(h:gd X l l'){w₁:ß}(r:fI l' l'.w w₁):gd X l {l' with w:=w₁}:= h.fj ⟨λ_ q=>q,λ_ q=>Ã q,U,U,U,U,U,U,lQ h.fv r,r.r,λj a _=>r.I j a,r.N,r.Y,r.S⟩
def gd.ff{a:Nat->Prop}(h:gd X l l')(c:∀j,l.M j->X j->a j):gd a l l':=⟨h.O,h.c,h.S,h.Y,h.b,h.K,h.q,h.d,h.fv,h.I,λj b e=>h.r j b λq=>e<|c j b q,h.f,h.g,h.e⟩
def gd.N(h:gd X l l')(s:gq l):gq l' where
 c b hb:=by
  rw[h.S];rcases h.c b hb with q|q
  .exact s.c b q
  .exact λz=>by have:=s.fv b<|Ç z;omega
 Y a ha:=by rw[h.b];exact s.Y a<|by rwa[<-h.Y]
 S a ha hb:=by
  rw[h.C]at ha;rcases hb with q|q
  .rcases h.c _ q with z|z
   .exact s.S a ha<|Ã z
   .have:=s.I a ha;omega
  .rw[h.S]at q;exact s.S a ha<|Ç q
 fv b hb:=by
  rcases hb with q|q
  .exact h.fv b q
  .rw[h.S]at q;exact È (s.fv b<|Ç q) h.I
 I a ha:=by rw[h.C]at ha;exact È (s.I a ha) h.I
 N a ha:=by
  rw[h.K]at ha;let⟨c,d,e⟩:=s.N a ha;refine⟨λq=> ?_,È d h.I,by rwa[h.Y]⟩;rcases q with q|q
  .rcases h.c _ q with z|z
   .exact c<|Ã z
   .omega
  .rw[h.S]at q;exact c<|Ç q
def mL{ob:Ÿ}(s:gq l){w₁:ß}(r:fI l l.w w₁):gd X l (gF l w₁ ob):=by have h:=L0 (E:=fh) (ob:=ob) s (λ_ q=>q.elim) r;exact⟨h.O,h.h,h.Y,h.I,h.c,h.K,h.q,h.d,h.fv,h.f,λj b _=>h.r j b,λa c=>h.e a c id,h.S,h.b⟩
def HQ{w':ß}{p:Nat}(s:gq l)(r:fI l l.w u)(c:l.O p)(g:X p)(d:w'.heap.size=u.heap.size)(b:∀j,j≠p->w'.heap[j]?=u.heap[j]?):gd X l {l with w:=w'}:=by
 have f:∀a:â,l.C a->a.block≠p:=λa h e=>s.S a h<|Ã<|e▸c;refine⟨λ_ q=>q,λ_ q=>Ã q,U,U,U,U,U,U,λj q=> ?_,?_,λj q n=>(b j λe=>n<|e▸g).trans<|r.I j q,λa q=>(gK<|b _<|f a q).trans<|r.N a q,λa q=>(uX<|b _<|f a q).trans<|r.Y a q,λa q z=> ?_⟩
 .show j<w'.heap.size;rw[d];exact È (s.fv j<|Ã q) r.r
 .show l.w.heap.size<=w'.heap.size;rw[d];exact r.r
 .show(w'.cell? a).isSome=Ò;rw[gK (b a.block λe=>(s.N a q).1<|Ã<|e▸c)];exact r.S a q z
end
section
variable{main:Bool}{J:Jd}{l:fe}{b:ç}{a:ŏ}{k:List Ŝ}{cs:List ç}{rest:List Nat}{ob:Ÿ}
def pE{V:Nat->Ï}(d:Q[i]?=Â o)(e:Ė o (Ť Q a.tmps)=Ò)(f:b.kind≠Ź)(g:kn l)(h:¬l.q) (j:∀w,(ĉ a.eval o).run P w=.ok (.value<|V w.heap.size) (w.alloc ob)) (m:∀w,(ĉ a.eval o).events P w #[]=#[]) (n:∀c,fI l l.w c->fi P main J (gF l c ob) (G (b.at (a.put o.dst<|V c.heap.size)<|Ñ Q rest::k) cs)):fi P main J l (G (b.at a<|Ñ Q (i::rest)::k) cs):=by
 refine tY d e f λc r=> ?_;rw[j c];refine⟨_,?_,n c r⟩;have:listed P b.fn a o c=#[]:=by unfold listed;rw[m c,Ī]
 rw[this];exact Zy (lQ g r) h
def E8{p off:Nat}{u:Ï}(m:Q[i]?=Â o)(n:Ė o (Ť Q a.tmps)=Ò)(s:b.kind≠Ź)(t:kn l)(x:¬l.q)(c:l.O p)(f:l.w.cell? ⟨p,off,Á⟩=Â u)(y:l.w.frozen? ⟨p,off,Á⟩=Ì)(z:o.dst=Á) (B:∀w,w.cell? ⟨p,off,Á⟩=Â u->w.frozen? ⟨p,off,Á⟩=Ì->(ĉ a.eval o).run P w=.ok .skip (w.setCell ⟨p,off,Á⟩ v)) (C:∀w,w.cell? ⟨p,off,Á⟩=Â u->w.frozen? ⟨p,off,Á⟩=Ì->(ĉ a.eval o).events P w #[]=#[⟨û ⟨p,off,Á⟩,Ò,Ì⟩]) (D:fi P main J {l with w:=l.w.setCell ⟨p,off,Á⟩ v} (G (b.at a<|Ñ Q rest::k) cs)):fi P main J l (G (b.at a<|Ñ Q (i::rest)::k) cs):=by
 have E:gQ l ⟨p,off,Á⟩:=Ã<|Ã c;refine tY m n s λg r=> ?_;have d:=(E.r r).trans f;have j:=(uX<|r.I p<|Ã c).trans y;rw[B g d j];refine⟨_,Zs U (lQ t r) x (Ã c) λe h=> ?_,?_⟩
 .have:=đ h;rw[C g d j]at this;have:e=⟨û ⟨p,off,Á⟩,Ò,Ì⟩:=by simpa using this
  subst this;exact pD.r<|Ã c
 .have:(a.put o.dst Å)=a:=by rw[z];rfl
  rw[this];exact D.kj<|Aq<|Zr U (by rw[f];rfl) (by rw[d];rfl) r
def nt(l:fe)(w₁ w':ß):fe:={l with O:=λb=>l.O b\/(w₁.heap.size<=b/\b<w'.heap.size),w:=w'}
def L5(s:gq l){w₁ w':ß}(r:fI l l.w w₁){a:Option Nat}(d:w₁.grownBy w' a)(c:∀k,a=Â k->l.O k/\X k):gd X l (nt l w₁ w'):=by
 have i:=r.r;have m:=d.size;have b:∀j,j<l.w.heap.size->Â j≠a->w'.heap[j]?=w₁.heap[j]?:=λj o g=>d.block j Z g;have f:∀x:â,l.C x->Â x.block≠a:=λx h e=>s.S x h<|Ã (c _ e.symm).1;refine⟨λ_ q=>Ã q,λj q=>q.imp id λz=>by omega,U,U,U,U,U,U,λj q=> ?_,?_,λj q n=>(b j (s.fv j q) λe=>n (c j e.symm).2).trans<|r.I j q,λx q=>(gK<|b _ (s.I x q)<|f x q).trans<|r.N x q,λx q=>(uX<|b _ (s.I x q)<|f x q).trans<|r.Y x q,λx q z=> ?_⟩
 .show j<w'.heap.size;rcases q with q|q
  .have:=s.fv j<|Ã q;omega
  .exact q.2
 .show l.w.heap.size<=w'.heap.size;omega
 .show(w'.cell? x).isSome=Ò;rw[gK (b x.block (s.N x q).2.1 λe=>(s.N x q).1<|Ã (c _ e.symm).1)];exact r.S x q z
def oW{w₁:ß}{sz:Nat}{xs:List Ï}(h:w.ownsRow i e sz v n xs)(a:∀k,v.ownBlock=Â k->w₁.heap[k]?=w.heap[k]?):w₁.ownsRow i e sz v n xs:=by refine⟨h.1,h.2.imp id ?_⟩;rintro⟨g,b,c,rfl,d,f,j⟩;exact⟨g,b,c,U,d,(a g U).trans f,j⟩
def ajF{p:Nat}{u:Ï}(h:w.cell? ⟨p,0,Á⟩=Â u):∀j y,[u][j]?=Â y->w.cell? ⟨p,j,Á⟩=Â y
 |0,_,e=>Ó e▸h
 |_+1,_,e=>by cases e
def ajG{q us:List Ï}(d:P.underlying t=Â (.slice e))(f:P.info? e=Â zJ)(r:zJ.zero=Â z)(h:zJ.size=j9)(s:us.length=j9)(D:(n+1)*zJ.bytes<=140737488355328)(E:n+1<=œ) (k:w.ownsRow 0 e j9 v n q) (l:∀j y,us[j]?=Â y->w.cell? ((⟨m,0,Á⟩:â).add j)=Â y) (F:∀u∈us,u.oneCell'=Ò) (a:(Builtin.append_ #[t,t] T #[v,Æ (Â ⟨m,0,Á⟩) 1 i]).run P w=.ok x W):x.ownBlock=v.ownBlock\/x.ownBlock=Â w.heap.size:=by
 have o:us.length=1*zJ.size:=by rw[h,s];omega
 have J:n+1<=9223372036854775807:=by simp only[œ]at E;omega
 rcases k.2 with⟨rfl,rfl⟩|⟨g,p,B,rfl,_,G,K,L,H,M⟩
 .have b:=run_append_nil (P:=P) w t T e zJ z d f r ⟨m,0,Á⟩ 1 i us o l Z Z Z;rw[b]at a;cases a;exact Ç U
 .by_cases C:n+1<=p
  .have I:n*zJ.size+us.length<=B.size:=by
    rw[H,h,s,show n*j9+j9=(n+1)*j9 by rw[Nat.add_mul];omega];exact Nat.mul_le_mul_right _ C
   have b:=run_append_room (P:=P) w t T e zJ d f g n p B G ⟨m,0,Á⟩ 1 i us o l F C I;rw[b]at a;cases a;exact Ã U
  .have b:=run_append_grow (P:=P) w t T e zJ z d f r ⟨g,0,Á⟩ n p q (by rw[h];exact k.1) (k.cells (g:=g) U) ⟨m,0,Á⟩ 1 i us o l Z Z<|growslice_fits Z D;rw[b]at a;cases a;exact Ç U
theorem L6{x:Ĥ}{inf:Ž}{c px sz:Nat}{xs us:List Ï}(ho:Q[i]?=Â o)(hw:Ė o (Ť Q a.tmps)=Ò)(hk:b.kind≠Ź)(sn:gq l)(hq:¬l.q) (V:o.op=Ě {callee:=Ŕ .append,args:=#[qQ,x],argTypes:=#[t,t]}) (W:a.eval qQ=v) (X:a.eval x=Æ (Â ⟨px,0,Á⟩) 1 c) (E:P.underlying t=Â (.slice e)) (F:P.info? e=Â inf) (H:inf.zero=Â z) (I:inf.size=sz) (iO:0<sz) (L8:us.length=sz) (oD:z.cells.size=sz) (K:(n+1)*inf.bytes<=140737488355328) (L:n+1<=œ) (lS:l.w.ownsRow 0 e sz v n xs) (C:∀k,v.ownBlock=Â k->l.O k) (ZF:l.O px) (hu:∀j u,us[j]?=Â u->l.w.cell? ⟨px,j,Á⟩=Â u) (f:∀u∈us,u.oneCell'=Ò) (hn:∀d B g,fI l l.w d->g.ownsRow 0 e sz B (n+1) (xs++us)->d.grownBy g v.ownBlock->(∀k,B.ownBlock=Â k->(nt l d g).O k)->(B.ownBlock=v.ownBlock\/B.ownBlock=Â d.heap.size)->fi P main J (nt l d g) (G (b.at (a.put o.dst B)<|Ñ Q rest::k) cs)): fi P main J l (G (b.at a<|Ñ Q (i::rest)::k) cs):=by
 refine tY ho hw hk λd r=> ?_;have hM:∀k,l.O k->d.heap[k]?=l.w.heap[k]?:=λk q=>r.I k<|Ã q;have M:=oW lS (w₁:=d) λk q=>hM k<|C k q;have N:∀j w,us[j]?=Â w->d.cell? ((⟨px,0,Á⟩:â).add j)=Â w:=λj w h=>by rw[ğ,č];grind [gK]
 have Y:us.length=1*sz:=Z
 let⟨B,g,iJ,hown',p,AA⟩:=run_append_own (P:=P) d 0 t o.type e inf z sz inf.bytes E F H I U oD iO v n xs M ⟨px,0,Á⟩ 1 c us Y N f L K<|ă _;have sM:=ajG E F H I L8 K L M N f iJ;refine uponK_append qQ x t V W X iJ ⟨nt l d g,?_,hn d B g r hown' p (λk q=> ?_) sM⟩
 .have he:∀D∈listed P b.fn a o d,tZ (nt l d g) D:=λD S=>by
   have h2:=đ S;rw[events_append_op qQ x t V W X]at h2;rcases(events_append_where (P:=P) d 0 t o.type e inf z sz inf.bytes E F H I rfl v n xs M ⟨px,0,Á⟩ 1 c us Y N f L K) D h2 with⟨ad,T,y⟩|⟨m,rfl,ajH⟩
   .refine⟨Ã ⟨ad,T,Ã ?_⟩,by rw[T];simp,by rw[T];simp⟩;rcases y with⟨_,y⟩|y
    .exact Ã<|by rwa[y]
    .exact Ã<|C _ y.symm
   .have vi:m=.noRoom:=ajH;subst vi;exact⟨Ç<|Ã U,fp,fp⟩
  refine⟨p.size,λj q=>q.imp id λz=>z.1,λj q=> ?_,U,U,U,U,λj T f _=>p.block j T λe=>f<|C j e.symm,λy m f _=>gK (p.block _ m λe=>f<|C _ e.symm),λy m f=>yl (p.block _ m λe=>f<|C _ e.symm),p.os,p.output,p.tape,λD S=>(he D S).1,(LV he _).symm,U,λq=>absurd q hq,U⟩;rcases q with q|q
  .exact È ((lQ sn.r r) j q) p.size
  .exact q.2
 .have y:k<g.heap.size:=(hown'.lt k q).2;rcases sM with m|m
  .exact Ã<|C k<|by rwa[<-m]
  .rw[m]at q;obtain rfl:=Ó q;exact Ç ⟨Ú _,y⟩
end
def ZG:Array å:=#[⟨Â 25,ş (ù 48) #[] #[Ù 9,Ù 8],1, "work.go:24",#[],Á⟩,⟨Â 26,Ě {callee:=ĕ<|ĸ 47,args:=#[Ù 12,Ù 25],argTypes:=#[97,1]},0, "work.go:24",#[⟨0,Ü⟩],Á⟩]
def ZH:Array å:=#[⟨Â 13,Ũ<|ũ<|Æ Á 0 0,100, "work.go:25",#[],Á⟩]
def ZI:Array å:=#[⟨Â 27,ę<|Ù 2,3, "work.go:26",#[],Á⟩,⟨Â 28,ę<|ũ<|Ê Î 0,3, "work.go:26",#[],Á⟩]
def Ss:Array å:=#[⟨Â 29,Λ .lss 3 (Ù 28) (Ù 27) 3,4, "work.go:26",#[],Á⟩]
def ZJ:Array å:=#[⟨Â 30,ę<|Ù 10,85, "work.go:28",#[],Á⟩,⟨Â 31,Ě {callee:=Ŕ .len,args:=#[Ù 30],argTypes:=#[85]},3, "work.go:28",#[⟨0,Ü⟩],Á⟩,⟨Â 32,.makeChan 101<|Ù 31,101, "work.go:28",#[⟨1,Ü⟩],Á⟩,⟨Â 14,.alloc 101,0, "work.go:28",#[],Á⟩,⟨Á,Ţ 101 (Ù 14)<|Ù 32,0, "work.go:28",#[⟨3,Ü⟩,⟨2,Ü⟩,⟨0,Í⟩,⟨1,Í⟩,⟨2,Í⟩,⟨3,Í⟩],Á⟩]
def ZK:Array å:=#[⟨Â 33,ę<|Ù 13,100, "work.go:29",#[],Á⟩,⟨Â 34,ć 101<|Ù 14,101, "work.go:29",#[],Á⟩,⟨Â 35,.buildSlice 100 1 #[(0,Ù 34)],100, "work.go:29",#[⟨1,Ü⟩],Á⟩,⟨Â 36,Ě {callee:=Ŕ .append,args:=#[Ù 33,Ù 35],argTypes:=#[100,100]},100, "work.go:29",#[⟨0,Ü⟩,⟨2,Ü⟩],Á⟩,⟨Â 13,Ũ<|Ù 36,100, "work.go:29",#[⟨3,Ü⟩,⟨3,ţ⟩,⟨0,Í⟩,⟨1,Í⟩,⟨2,Í⟩,⟨3,Í⟩],Á⟩]
def L9:Array å:=#[⟨Â 37,ş (ù 50) #[] #[Ù 14,Ù 8],1, "work.go:30",#[],Á⟩,⟨Â 38,Ě {callee:=ĕ<|ĸ 47,args:=#[Ù 12,Ù 37],argTypes:=#[97,1]},0, "work.go:30",#[⟨0,Ü⟩],Á⟩]
def Sv:Array å:=#[⟨Â 39,Λ .add 3 (Ù 28) (ũ<|Ê Î 1) 3,3, "work.go:26",#[],Á⟩,⟨Â 28,ę<|Ù 39,3, "work.go:26",#[⟨0,Ü⟩],Á⟩]
def Ma:Array å:=#[⟨Â 40,ę<|Ù 10,85, "work.go:32",#[],Á⟩,⟨Â 41,ę<|Ù 13,100, "work.go:32",#[],Á⟩,⟨Â 42,Ě {callee:=ĕ<|ĸ 52,args:=#[Ù 40,Ù 41],argTypes:=#[85,100]},0, "work.go:32",#[⟨0,Ü⟩,⟨1,Ü⟩],Á⟩]
def Mb:Array å:=#[⟨Â 43,Ě {callee:=ĕ<|ĸ 53,args:=#[Ù 12],argTypes:=#[97]},0, "work.go:33",#[],Á⟩]
def H0:å:=⟨Â 44,ć 25<|Ù 8,25, "work.go:34",#[],Á⟩
def H4:å:=⟨Â 45,ę<|Ù 11,86, "work.go:34",#[{on:=5,ground:=õ Ð}],Á⟩
def H7:å:=⟨Â 46,ĩ<|Ù 45,0, "work.go:34",#[⟨1,Ü⟩,{on:=5,ground:=õ Ð}],Á⟩
def H8:å:=⟨Â 47,ð 105 (Ù 46) 1,0, "work.go:34",#[⟨2,Ü⟩,{on:=5,ground:=õ Ð}],Á⟩
def H9:å:=⟨Â 48,ć 65<|Ù 47,65, "work.go:34",#[⟨3,Ü⟩,{on:=5,ground:=õ Ð}],Á⟩
def Ia:å:=⟨Â 6,Ũ<|Ù 44,25, "work.go:34",#[⟨0,Ü⟩,⟨0,Í⟩,{on:=1,ground:=Þ Ð},{on:=2,ground:=Þ Ð},{on:=3,ground:=Þ Ð},{on:=4,ground:=Þ Ð}],Á⟩
def Ib:å:=⟨Â 7,Ũ<|Ù 48,65, "work.go:34",#[⟨4,Ü⟩,⟨5,ţ⟩,⟨0,Í⟩,⟨1,Í⟩,⟨2,Í⟩,⟨3,Í⟩,⟨4,Í⟩,⟨5,Í⟩],Á⟩
def yH:Array å:=#[H0,H4,H7,H8,H9,Ia,Ib]
def Mc:Ę:=(ä 14 yH Ò).seq Ρ
def Md:Ę:=(ä 12 Ma Ì).seq<|(ä 13 Mb Ì).seq Mc
def E9:Ę:=(ä 7 Ss Ì).seq<|(ť (Ù 29) Ŧ<|ŧ 0).seq<|(İ 1<|(ä 8 ZJ Ì).seq<|(ä 9 ZK Ì).seq<|ä 10 L9 Ì).seq<|ä 11 Sv Ì
def sA:Ę:=(ä 5 ZH Ì).seq<|((ä 6 ZI Ì).seq<|İ 0 E9.loop).seq Md
def CC(t:Array Ï)(a:List ç):Ý:=G ((base 37).at ⟨t,[]⟩ [ö E9,ą E9,ô 0,ö Md]) a
def Fa(t:Array Ï):ç:=(base 37).at ⟨t,[]⟩ [Ñ ZG [1],ö sA]
def Me(t:Array Ï):ç:=(base 37).at ⟨t,[]⟩ [Ñ L9 [1],ô 1,ö<|ä 11 Sv Ì,ą E9,ô 0,ö Md]
def Ic:Array å:=#[⟨Â 6,ş (ù 63) #[] #[Ù 2,Ù 3],1, "waitgroup.go:238",#[],Á⟩,
 ⟨Á,.go {callee:=ĕ (Ù 6),args:=#[],argTypes:=#[]},0, "waitgroup.go:238",#[⟨0,Ü⟩],Á⟩]
def tG(c d e f:Ï)(a b:Nat):Array Ï:=#[c,d,À<|Â ⟨a,0,Á⟩,À<|Â ⟨b,0,Á⟩,e,f,Ĉ (ù 63) #[] #[À<|Â ⟨a,0,Á⟩,À<|Â ⟨b,0,Á⟩]]
def CF(a b c d:Ï)(e f:Nat)(g:List ç):Ý:=G ((base 47).at ⟨tG a b c d e f,[]⟩ [Ñ Ic [1]]) g
def Ie(a b c d:Ï)(e f:Nat)(g:List ç):Ý:=G ((base 47).at ⟨tG a b c d e f,[]⟩ [Ñ Ic []]) g
def ZL(c e f g:Ï)(a b:Nat)(h:List ç)(w:ß):stepG Ä Ò (CF c e f g a b h) w=.spawn (Ie c e f g a b h) (born Ä<|qd 63 #[À<|Â ⟨a,0,Á⟩,À<|Â ⟨b,0,Á⟩] #[]) w #[]:=by
 refine(stepG_spawn (d:=qd 63 #[À<|Â ⟨a,0,Á⟩,À<|Â ⟨b,0,Á⟩] #[]) (w':=w) U U (by k_ne) ?_ U).trans ?_
 .simp[Ic,ĉ,ſ,ě,ĥ,tG,qd]
 .have:listed Ä (base 47).fn ⟨tG c e f g a b,[]⟩ Ic[1] w=#[]:=by
   unfold listed;simp[Ic,ĉ,ſ,ě,ĥ,tG,Ī]
  rw[this];rfl
structure ST(ba all oE n j:Nat)(qs dv:Ï)(t:Array Ï):Prop where
 r:t.size=49
 a:t[8]?=Â (À<|Â ⟨ba,0,Á⟩)
 C:t[10]?=Â qs
 I:t[11]?=Â (À<|Â ⟨oE,0,Á⟩)
 M:t[12]?=Â (À<|Â ⟨all,0,Á⟩)
 N:t[13]?=Â dv
 S:t[27]?=Â (Ê Î n)
 Y:t[28]?=Â (Ê Î j)
structure Ig(ba all oE n:Nat)(qs:Ï)(t:Array Ï):Prop where
 wO:t.size=49
 t2:t[2]?=Â (Ê Î n)
 t8:t[8]?=Â (À<|Â ⟨ba,0,Á⟩)
 ajI:t[10]?=Â qs
 ajJ:t[11]?=Â (À<|Â ⟨oE,0,Á⟩)
 Sw:t[12]?=Â (À<|Â ⟨all,0,Á⟩)
def Ih(t:Array Ï)(h:t.size=49):∃a b c d e f g i j k l m n o p q r s u v w x y z B C D E F G H I J K L M N O P Q S T V W X Y qN qO yz:Ï,t=#[a,b,c,d,e,f,g,i,j,k,l,m,n,o,p,q,r,s,u,v,w,x,y,z,B,C,D,E,F,G,H,I,J,K,L,M,N,O,P,Q,S,T,V,W,X,Y,qN,qO,yz]:=by obtain⟨_,rfl⟩:=Aw t h;exact⟨_,_,_,_,_,_,_,_,_,_,_,_,_,_,_,_,_,_,_,_,_,_,_,_,_,_,_,_,_,_,_,_,_,_,_,_,_,_,_,_,_,_,_,_,_,_,_,_,_,U⟩
section
variable{Ψ:ß->Prop}{J a:Jd}{l:fe}{t:Array Ï}{ba all oE:Nat}{qs dv:Ï}
def ajK(d:kn l)(a:Ig ba all oE n qs t)(e:∀c,ST ba all oE n 0 qs (Æ Á 0 0) c->fi Ä Ò J l (CC c qX)):fi Ä Ò J l (Ie v x z jQ b i<|Fa t::qX):=by
 obtain⟨m,o,f,p,q,r,s,u,g,w,h,j,k,y,B,C,D,E,F,G,H,I,K,L,M,N,O,P,Q,S,T,V,W,X,Y,sE,sF,vn,vo,vp,vq,vr,vt,vu,vv,vw,qN,qO,yz,rfl⟩:=Ih t a.wO;obtain rfl:f=Ê Î n:=by simpa using a.t2
 obtain rfl:g=À (Â ⟨ba,0,Á⟩):=by simpa using a.t8
 obtain rfl:h=qs:=by simpa using a.ajI
 obtain rfl:j=À (Â ⟨oE,0,Á⟩):=by simpa using a.ajJ
 obtain rfl:k=À (Â ⟨all,0,Á⟩):=by simpa using a.Sw
 apply fR (n:=40) d;have hF:=trivial;simp only[Ie,Fa,ZG];iterate 2 w_go fy
 u_leave0 Ħ fy hF
 simp only[sA,ZH,ZI];iterate 13 w_go fy
 refine Ë λ_ _=> ?_;exact e _ ⟨U,U,U,U,U,U,U,U⟩
theorem ajL(d:kn l)(a:ST ba all oE n j qs dv t)(q:j<1000)(e:∀c,ST ba all oE n (j+1) qs dv c->fi Ä Ò J l (CC c qX)):fi Ä Ò J l (Ie v x z jQ b i<|Me t::qX):=by
 obtain⟨r,s,u,w,y,B,C,D,f,E,g,h,k,m,F,G,H,I,K,L,M,N,O,P,Q,S,T,o,p,V,W,X,Y,tW,tX,sE,sF,vn,vo,vp,vq,vr,vt,vu,vv,vw,qN,qO,yz,rfl⟩:=Ih t a.r;obtain rfl:f=À (Â ⟨ba,0,Á⟩):=by simpa using a.a
 obtain rfl:g=qs:=by simpa using a.C
 obtain rfl:h=À (Â ⟨oE,0,Á⟩):=by simpa using a.I
 obtain rfl:k=À (Â ⟨all,0,Á⟩):=by simpa using a.M
 obtain rfl:m=dv:=by simpa using a.N
 obtain rfl:o=Ê Î n:=by simpa using a.S
 obtain rfl:p=Ê Î j:=by simpa using a.Y
 apply fR (n:=40) d;have hF:=trivial;simp only[Ie,Me,L9];iterate 2 w_go fy
 u_leave0 Ħ fy hF
 simp only[Sv];iterate 7 w_go fy
 refine Ë λ_ _=> ?_;refine e _ ⟨U,U,U,U,U,U,U,?_⟩;simp;grind [Cu]
end
section
variable{l l' y:fe}
def gd.fO(h:gd X l l')(s:gq l){p off:Nat}(c:l.w.heap.size<=p):gd X l {l' with w:=l'.w.setCell ⟨p,off,Á⟩ v}:=by
 have b:∀j,j<l.w.heap.size->(l'.w.setCell ⟨p,off,Á⟩ v).heap[j]?=l'.w.heap[j]?:=λj e=>lF (by show j≠p;omega);refine⟨h.O,h.c,h.S,h.Y,h.b,h.K,h.q,h.d,λj q=> ?_,?_,λj q n=>(b j<|s.fv j q).trans<|h.r j q n,λa q=>(gK<|b _<|s.I a q).trans<|h.f a q,λa q=>tS.trans<|h.g a q,λa q z=>Aa<|h.e a q z⟩
 .show j<(l'.w.setCell ⟨p,off,Á⟩ v).heap.size;rw[kg];exact h.fv j q
 .show l.w.heap.size<=(l'.w.setCell ⟨p,off,Á⟩ v).heap.size;rw[kg];exact h.I
structure gA(l:fe)(b:Nat)(o:Ÿ):Prop where
 fg:l.O b
 I:l.w.heap[b]?=Â o
def gA.C{o:Ÿ}(h:gA l b o)(k:gd X l l')(a:¬X b):gA l' b o:=⟨k.O b h.fg,(k.r b (Ã h.fg) a).trans h.I⟩
def gA.r(h:gA l b (É d e xJ))(a:d[i]?=Â v):l.w.cell? ⟨b,i,Á⟩=Â v:=by simp[Ö,h.I,a]
end
def ZM{sz:Nat}{xs:List Ï}(h:w.ownsRow i e sz v n xs)(a:w.heap.size<=b):¬(Â b=v.ownBlock):=λq=>by have:=(h.lt b q.symm).2;omega
structure ZN(ba all q:Nat)(CG:Ï)(xs:List Ï)(ch bd bw bf:Nat)(l':fe):Prop where
 S:l'.w.ownsRow 0 101 1 CG xs.length xs
 M:∀k,CG.ownBlock=Â k->l'.O k
 r:gA l' ch (ŕ q #[] Ì 0 0 Ì)
 C:gA l' bd (É #[é<|Â ch] 101)
 N:gA l' bw (É #[À<|Â ⟨all,0,Á⟩] 162)
 I:gA l' bf (É #[Ĉ (ù 50) #[] #[À<|Â ⟨bd,0,Á⟩,À<|Â ⟨ba,0,Á⟩]] 1)
section
variable{g:Jd}{l:fe}{t:Array Ï}{ba all q:Nat}{f:Option â}{xs:List Ï}{cs:List ç}
def ajM(y:gq l)(F:¬l.q)(hd:l.d=0)(G:ST ba all m n j (Æ f q i) x t)(wR:j<n)(hn:n<1000)(yI:q<1000)(Mf:l.K ⟨all,0,Á⟩/\l.K ⟨all,1,Á⟩)(HO:nQ all l.w) (lS:l.w.ownsRow 0 101 1 x j xs) (hO:∀k,x.ownBlock=Â k->l.O k) (hJ0:∀l' t' a r B S C v1,gd (λb=>Â b=x.ownBlock) l l'->ST ba all m n j (Æ f q i) C t'->ZN ba all q C (xs++[é<|Â a]) a r B S l'->l.w.heap.size<=a->a<r->r<B->B<S->(∀k,C.ownBlock=Â k->k≠a/\k≠r/\k≠B/\k≠S)->g l' (CF (À<|Â ⟨all,0,Á⟩) v1 (À<|Â ⟨all,0,Á⟩) (ñ #[]) B S<|Me t'::cs)): fi Ä Ò (LU Ä Ò all g) l (CC t cs):=by
 obtain⟨y0,y1,y2,y3,y4,y5,y6,y7,y8,y9,yD,Az,yE,sH,ug,rD,wY,wZ,vA,vB,vC,uh,ui,uj,sC,tV,sD,qc,oU,qK,qL,qM,vm,tW,tX,sE,sF,vn,vo,vp,vq,vr,vt,vu,vv,vw,qN,qO,yz,rfl⟩:=Ih t G.r;obtain rfl:y8=À (Â ⟨ba,0,Á⟩):=by simpa using G.a
 obtain rfl:yD=Æ f q i:=by simpa using G.C
 obtain rfl:Az=À (Â ⟨m,0,Á⟩):=by simpa using G.I
 obtain rfl:yE=À (Â ⟨all,0,Á⟩):=by simpa using G.M
 obtain rfl:x=sH:=(show sH=x by simpa using G.N).symm;obtain rfl:qc=Ê Î n:=by simpa using G.S
 obtain rfl:oU=Ê Î j:=by simpa using G.Y
 have at7:(j:Int)<(n:Int):=Z
 have hF:True:=trivial;apply fR (n:=40) y.r;simp only[CC,E9,Ss,ZJ];repeat w_go fy
 refine Ë λ_ _=> ?_;have Fb:Ä.info? 155=Â Ą:=ļ;refine pE (V:=λp=>é<|Â p) (ob:=ŕ q #[] Ì 0 0 Ì) U U (by k_ne) y.r F (λw=> ?_) (λw=> ?_) λL kT=> ?_
 .have D:=run_makeChan (P:=Ä) (w:=w) Ĵ Fb Î q Z (by simp[Ą];omega);go_simp
 .simp[go_sem,(events_makeChan (P:=Ä) (w:=w) Ĵ Fb Î q Z (by simp[Ą];omega) #[])]
 walk_nrm;have vD:gd fh l (gF l L<|ŕ q #[] Ì 0 0 Ì):=mL y kT;have c1:gA (gF l L<|ŕ q #[] Ì 0 0 Ì) L.heap.size (ŕ q #[] Ì 0 0 Ì):=⟨Ç U,nU⟩;have ZO:l.w.heap.size<=L.heap.size:=kT.r;generalize gF l L (ŕ q #[] Ì 0 0 Ì)=l₁ at vD c1|-;generalize L.heap.size=a at c1 ZO|-;have yJ:=vD.N y;have ZQ:¬l₁.q:=by rwa[vD.q]
 refine pE (V:=λp=>À<|Â ⟨p,0,Á⟩) (ob:=É #[é Á] 101) U U (by k_ne) yJ.r ZQ (λw=>by go_simp) (λw=>by simp[go_sem]) λT lT=> ?_;walk_nrm;have Ii:gd fh l (gF l₁ T<|É #[é Á] 101):=vD.fj<|mL yJ lT;have c2:=c1.C (mL (X:=fh) (ob:=É #[é Á] 101) yJ lT) id;have H:gA (gF l₁ T<|É #[é Á] 101) T.heap.size (É #[é Á] 101):=⟨Ç U,nU⟩;have KL:a<T.heap.size:=È (yJ.fv a<|Ã c1.fg) lT.r;generalize gF l₁ T (É #[é Á] 101)=l₂ at Ii c2 H|-;generalize T.heap.size=r at H KL|-;clear c1 vD ZQ yJ lT l₁;have sJ:=Ii.N y;have oV:¬l₂.q:=by rwa[Ii.q]
 refine E8 (p:=r) (off:=0) (v:=é<|Â a) (u:=é Á) U U (by k_ne) sJ.r oV H.fg (H.r U) (by simp[î,H.I]) U (λw o s=>by go_simp) (λw o s=>by simp[go_sem,o,s]) ?_;have M:gd fh l {l₂ with w:=l₂.w.setCell ⟨r,0,Á⟩ (é<|Â a)}:=Ii.fO y Z;have c3:gA {l₂ with w:=l₂.w.setCell ⟨r,0,Á⟩ (é<|Â a)} a (ŕ q #[] Ì 0 0 Ì):=⟨c2.fg,(lF<|by show a≠r;omega).trans c2.I⟩;have W:gA {l₂ with w:=l₂.w.setCell ⟨r,0,Á⟩ (é<|Â a)} r (É #[é<|Â a] 101):=⟨H.fg,by show(l₂.w.setCell ⟨r,0,Á⟩<|é<|Â a).heap[r]?=_;unfold þ;simp[í,H.I]⟩;generalize({l₂ with w:=l₂.w.setCell ⟨r,0,Á⟩ (é<|Â a)}:fe)=kF at M c3 W|-;clear c2 H Ii sJ oV l₂;have N:=M.N y;have vE:¬kF.q:=by rwa[M.q]
 have Fc:∀k,x.ownBlock=Â k->kF.O k:=λk e=>M.O k<|hO k e;have Mg:kF.w.ownsRow 0 101 1 x j xs:=oW lS λk e=>M.r k (Ã<|hO k e) id;apply fR (n:=10) N.r;simp only[ZK,L9];iterate 4 w_go fy
 refine Ë λ_ _=> ?_;apply kA (x:=⟨r,0,Á⟩) U U (by k_ne) N.r vE (Ã<|Ã W.fg) (W.r U) (λw h=>by go_simp) (λw h=>by simp[go_sem,h]);walk_nrm;refine pE (V:=λp=>Æ (Â ⟨p,0,Á⟩) 1 1) (ob:=É #[é<|Â a] 101) U U (by k_ne) N.r vE (λw=>by go_simp) (λw=>by simp[go_sem]) λI yK=> ?_;walk_nrm;have Cz:gd fh l (gF kF I<|É #[é<|Â a] 101):=M.fj<|mL N yK;have k4:=mL (X:=fh) (ob:=É #[é<|Â a] 101) N yK;have c4:=c3.C k4 id;have d4:=W.C k4 id;have Y:gA (gF kF I<|É #[é<|Â a] 101) I.heap.size (É #[é<|Â a] 101):=⟨Ç U,nU⟩;have ZF:r<I.heap.size:=È (N.fv r<|Ã W.fg) yK.r;have yL:∀k,x.ownBlock=Â k->(gF kF I<|É #[é<|Â a] 101).O k:=λk e=>Ã<|Fc k e;have CH:=oW Mg (w₁:=(gF kF I<|É #[é<|Â a] 101).w) λk e=>k4.r k (Ã<|Fc k e) id;generalize gF kF I (É #[é<|Â a] 101)=l₄ at Cz c4 d4 Y yL CH|-;generalize I.heap.size=px at Y ZF|-;clear c3 W M N vE Fc Mg k4 yK kF;have AG:=Cz.N y;have CI:¬l₄.q:=by rwa[Cz.q]
 refine L6 (v:=x) (us:=[é<|Â a]) (px:=px) (c:=1) (n:=j) (xs:=xs) (inf:=Δ) (z:=é Á) U U (by k_ne) AG CI U U U Tryz.underlying100 Tryz.type101 U U Nat.one_pos U U (by simp[Δ];omega) (by simp only[œ];omega) CH yL Y.fg (ajF<|Y.r U) (λ_ D=>List.mem_singleton.1 D▸rfl) λoF C Q xd rm CJ xe sM=> ?_;walk_nrm;have ZR:∀b,l.w.heap.size<=b->¬(Â b=x.ownBlock):=λb hb=>ZM lS hb;have k5:gd (λb=>Â b=x.ownBlock) l₄ (nt l₄ oF Q):=L5 AG xd CJ λk e=>⟨yL k e,e.symm⟩;have xf:gd (λb=>Â b=x.ownBlock) l (nt l₄ oF Q):=(Cz.ff λ_ _ q=>q.elim).fj k5;have c5:=c4.C k5<|ZR a Z;have d5:=d4.C k5<|ZR r Z;have hl4:px<oF.heap.size:=È (AG.fv px<|Ã Y.fg) xd.r;have Mh:∀k,C.ownBlock=Â k->k<Q.heap.size/\k≠a/\k≠r:=λk e=>by
  have D:=(rm.lt k e).2;rcases sM with z|z
  .rw[z]at e;have:=(lS.lt k e).2;exact⟨D,Z,Z⟩
  .rw[z]at e;obtain rfl:=Ó e;exact⟨D,Z,Z⟩
 have rF:(nt l₄ oF Q).w.ownsRow 0 101 1 C (j+1) (xs++[é<|Â a]):=rm;have Sx:(nt l₄ oF Q).w.heap.size=Q.heap.size:=U;generalize nt l₄ oF Q=um at xf c5 d5 rF xe Sx|-;rw[<-Sx]at Mh;clear k5 CJ rm sM c4 d4 Y Cz AG CI yL CH xd l₄ Sx;have sN:=xf.N y;have ZS:¬um.q:=by rwa[xf.q]
 apply fR (n:=20) sN.r;iterate 4 w_go fy
 u_call Ħ fL Μ fy hF
 iterate 2 w_go fy
 refine Ë λ_ _=> ?_;refine pE (V:=λp=>À<|Â ⟨p,0,Á⟩) (ob:=É #[À<|Â ⟨all,0,Á⟩] 162) U U (by k_ne) sN.r ZS (λw=>by go_simp) (λw=>by simp[go_sem]) λD AH=> ?_;walk_nrm;have k6:=mL (X:=fh) (ob:=É #[À<|Â ⟨all,0,Á⟩] 162) sN AH;have CK:gd (λb=>Â b=x.ownBlock) l (gF um D<|É #[À<|Â ⟨all,0,Á⟩] 162):=xf.fj (k6.ff λ_ _ q=>q.elim);have c6:=c5.C k6 id;have d6:=d5.C k6 id;have g6:gA (gF um D<|É #[À<|Â ⟨all,0,Á⟩] 162) D.heap.size (É #[À<|Â ⟨all,0,Á⟩] 162):=⟨Ç U,nU⟩;have CL:r<D.heap.size:=È (sN.fv r<|Ã d5.fg) AH.r;have Ij:∀k,C.ownBlock=Â k->k<D.heap.size/\k≠a/\k≠r:=λk e=>⟨È (Mh k e).1 AH.r,(Mh k e).2⟩;have Mi:∀k,C.ownBlock=Â k->(gF um D<|É #[À<|Â ⟨all,0,Á⟩] 162).O k:=λk e=>Ã<|xe k e;have Sy:=oW rF (w₁:=(gF um D<|É #[À<|Â ⟨all,0,Á⟩] 162).w) λk e=>k6.r k (Ã<|xe k e) id;generalize gF um D (É #[À<|Â ⟨all,0,Á⟩] 162)=CM at CK c6 d6 g6 Mi Sy|-;generalize D.heap.size=B at g6 CL Ij|-;clear k6 c5 d5 xf sN ZS xe rF Mh AH um;have Mj:=CK.N y;have ZT:¬CM.q:=by rwa[CK.q]
 refine pE (V:=λp=>À<|Â ⟨p,0,Á⟩) (ob:=É #[Ĉ (ù 50) #[] #[À<|Â ⟨r,0,Á⟩,À<|Â ⟨ba,0,Á⟩]] 1) U U (by k_ne) Mj.r ZT (λw=>by go_simp) (λw=>by simp[go_sem]) λJ Sz=> ?_;walk_nrm;have k7:=mL (X:=fh) (ob:=É #[Ĉ (ù 50) #[] #[À<|Â ⟨r,0,Á⟩,À<|Â ⟨ba,0,Á⟩]] 1) Mj Sz;have E:gd (λb=>Â b=x.ownBlock) l (gF CM J<|É #[Ĉ (ù 50) #[] #[À<|Â ⟨r,0,Á⟩,À<|Â ⟨ba,0,Á⟩]] 1):=CK.fj (k7.ff λ_ _ q=>q.elim);have c7:=c6.C k7 id;have d7:=d6.C k7 id;have g7:=g6.C k7 id;have f7:gA (gF CM J<|É #[Ĉ (ù 50) #[] #[À<|Â ⟨r,0,Á⟩,À<|Â ⟨ba,0,Á⟩]] 1) J.heap.size (É #[Ĉ (ù 50) #[] #[À<|Â ⟨r,0,Á⟩,À<|Â ⟨ba,0,Á⟩]] 1):=⟨Ç U,nU⟩;have Mk:B<J.heap.size:=È (Mj.fv B<|Ã g6.fg) Sz.r;have SA:∀k,C.ownBlock=Â k->(gF CM J<|É #[Ĉ (ù 50) #[] #[À<|Â ⟨r,0,Á⟩,À<|Â ⟨ba,0,Á⟩]] 1).O k:=λk e=>Ã<|Mi k e;have ZU:=oW Sy (w₁:=(gF CM J<|É #[Ĉ (ù 50) #[] #[À<|Â ⟨r,0,Á⟩,À<|Â ⟨ba,0,Á⟩]] 1).w) λk e=>k7.r k (Ã<|Mi k e) id;generalize gF CM J (É #[Ĉ (ù 50) #[] #[À<|Â ⟨r,0,Á⟩,À<|Â ⟨ba,0,Á⟩]] 1)=CN at E c7 d7 g7 f7 SA ZU|-;generalize J.heap.size=S at f7 Mk|-;clear k7 c6 d6 g6 CK Mj ZT Mi Sy Sz CM;have Ml:=E.N y;apply fR (n:=10) Ml.r;iterate 3 w_go fy
 refine Ë λ_ _=> ?_;apply kA (x:=⟨B,0,Á⟩) U U (by k_ne) Ml.r (by rwa[E.q]) (Ã<|Ã g7.fg) (g7.r U) (λw h=>by go_simp) (λw h=>by simp[go_sem,h]);walk_nrm;apply fR (n:=10) Ml.r;u_call rB.f_add (nm_add Lk) addFn fy hF;refine Ë λ_ _=> ?_;refine Zk rB (⟨Ã (by rw[E.K];exact Mf.1),Ã (by rw[E.K];exact Mf.2),λw L o s h3 h4 h5 h=>h.fj ⟨o,s,h3,h4,h5⟩⟩) (⟨Ml.r,⟨E.e _ Mf.1 HO.1,E.e _ Mf.2 HO.2⟩,fI.fV _ _⟩) (E.d.trans hd) λZV ZW=> ?_;walk_nrm;apply fR (l:={CN with d:=0,w:=ZV}) (n:=10) ZW.1;iterate 3 w_go fy
 refine Ë λ_ _=> ?_;refine .fD λCO yM=> ?_;have rr:fI CN CN.w CO:=ZW.2.2.fj ⟨yM.r,yM.I,yM.N,yM.Y,yM.S⟩;have s:=E.G rr;have hA9:gd (λb=>Â b=x.ownBlock) l ({CN with d:=0,w:=CO}:fe):=⟨s.O,s.c,s.S,s.Y,s.b,s.K,s.q,hd.symm,s.fv,s.I,s.r,s.f,s.g,s.e⟩;have at9:∀{b:Nat} {o:Ÿ},gA CN b o->gA ({CN with d:=0,w:=CO}:fe) b o:=λh=>⟨h.fg,(rr.I _<|Ã h.fg).trans h.I⟩;have hlen:(xs++[é<|Â a]).length=j+1:=by have:=lS.1;simp;omega
 refine hJ0 {CN with d:=0,w:=CO} _ a r B S C _ hA9 ⟨U,U,U,U,U,U,U,U⟩ ⟨?_,SA,at9 c7,at9 d7,at9 g7,at9 f7⟩ ZO KL CL Mk λk e=>⟨(Ij k e).2.1,(Ij k e).2.2,by have:=(Ij k e).1;omega,by have:=(Ij k e).1;omega⟩;rw[hlen];exact oW ZU λk e=>rr.I k<|Ã<|SA k e
end
def uo(l:fe)(b:Nat):fe:={l with O:=λj=>l.O j/\j≠b,K:=λa=>l.K a\/a=⟨b,0,Á⟩\/a=⟨b,1,Á⟩}
def nK(l x:fe)(b:Nat):fe:={x with O:=λj=>x.O j\/j=b,K:=l.K}
section
variable{S:Jd}{l:fe}
def fi.SB(W:∀a,l.K a->a.block≠b){x:fe}(h:fi P yQ S x g):¬x.M b->(∀a,x.C a->a.block≠b)->x.K=(uo l b).K->b<x.w.heap.size->(x.w.cell? ⟨b,0,Á⟩).isSome=Ò->(x.w.cell? ⟨b,1,Á⟩).isSome=Ò->kn x-> fi P yQ (λG H=>∃d,S d H/\G=nK l d b/\¬d.M b/\(∀a,d.C a->a.block≠b)/\d.K=(uo l b).K/\b<d.w.heap.size/\d.w.heap[b]?=x.w.heap[b]?/\d.q=x.q/\kn d) (nK l x b) g:=by
 have u:∀{x:fe} {c:ß},x.K=(uo l b).K->(x.w.cell? ⟨b,0,Á⟩).isSome=Ò->(x.w.cell? ⟨b,1,Á⟩).isSome=Ò->fI (nK l x b) x.w c->fI x x.w c:=λ{x c} f i m r=>
  ⟨r.r,λj p=>r.I j<|p.imp Ã id,r.N,r.Y,λa o q=>by
   rw[f]at o;rcases o with z|z|z
   .exact r.S a z q
   .rw[z,gK<|r.I b<|Ã<|Ç U];exact i
   .rw[z,gK (r.I b (Ã (Ç U)))];exact m⟩
 induction h with
 |@fD x g h=>
  intro s t f v i m I;refine .fD λc r=>⟨{x with w:=c},h c<|u f i m r,U,s,t,f,È v r.r,r.I b<|Ã<|Ç U,U,lQ I<|u f i m r⟩
 |@jL x g G' W' E' L' iJ h hd _ ih=>
  intro s t f v i m I;refine .mk iJ λc r=> ?_;have B:=u f i m r;have D:=hd c B;have E:=È v r.r;have J:=λq=>s<|Ã q;have L:=D.ki b E J λa e q=>t a (Ã q) e;have F:(L' c).w.heap[b]?=x.w.heap[b]?:=by rw[D.N];exact L.trans<|r.I b<|Ã<|Ç U
  refine⟨G' c,W' c,E' c,nK l (L' c) b,h c B,?_,?_⟩
  .refine⟨D.C,λj q=> ?_,λj q=> ?_,D.rd,D.r,D.I,U,λj p y n=>D.ki j p (λq=>y<|Ã q) n,λa o y n=>D.S a o (λq=>y<|Ã q) n,λa o y=>D.Y a o λq=>y<|Ã q,D.c,D.f,D.i,λe N=> ?_,D.g,D.q,λq=> ?_,D.N⟩
   .rcases q with q|q
    .exact(D.M j q).imp Ã id
    .exact Ã<|Ç q
   .rcases q with q|q
    .exact D.fv j q
    .rw[q];exact È E D.C
   .rcases D.b e N with⟨a,y,n⟩|h|h|h|h|⟨a,y,n⟩
    .exact Ã ⟨a,y,n.imp Ã id⟩
    .exact Ç<|Ã h
    .exact Ç<|Ç<|Ã h
    .exact Ç<|Ç<|Ç<|Ã h
    .exact Ç<|Ç<|Ç<|Ç<|Ã h
    .exact Ç<|Ç<|Ç<|Ç<|Ç ⟨a,Ã y,n⟩
   .let⟨Q,T,V⟩:=D.h q;exact⟨Q,T,by funext j;show((L' c).O j\/j=b)=(x.O j\/j=b);rw[V]⟩
  .refine(ih c B (λq=>q.elim (λz=>(D.M b z).elim J λy=>by omega) λz=>s<|Ç<|by rw[<-D.rd];exact z) (λa q=>t a<|q.imp (by rw[D.r];exact id)<|by rw[D.I];exact id) (D.k.trans f) (by rw[D.N];exact È E D.C) (by rw[gK F];exact i) (by rw[gK F];exact m) λj p=>by rw[D.N];exact D.fv j p).ff ?_;rintro G H ⟨d,y,e,j,n,o,p,z,N,Q⟩;exact⟨d,y,e,j,n,o,p,z.trans F,N.trans D.q,Q⟩
end
section
variable{L:WgLink}{l:fe}{J:Jd}{c:ç}{k:List Ŝ}{ty:Ů}
structure ajN(b:Nat)(cc:Array Ï)(ty:Ů)(l l':fe):Prop where
 r:gd (λj=>j=b) l l'
 O:l'.O=l.O
 C:l'.w.heap[b]?=Â (É (cc.setIfInBounds 0<|Ê ê 4294967296) ty)
theorem ZX(a:l.O b)(w:ß)(d:Nat):nK l {uo l b with d:=d,w:=w} b={l with d:=d,w:=w}:=by
 have:(λj=>(l.O j/\j≠b)\/j=b)=l.O:=by grind
 unfold nK uo;simp only[this]
def ZY{C:Array Ï}(H:WgLib P L)(s:gq l)(hq:¬l.q)(Y:l.d=0)(x:l.O b)(M:l.w.heap[b]?=Â (É C ty))(N:C[0]?=Â (Ê ê 0))(o:(C[1]?).isSome=Ò) (hT:∀B,ajN b C ty l B->fi P yQ J B (G (c.at (y.put ((Q[i]?).bind (·.dst))<|ñ #[])<|Ñ Q jJ::k) qX)): fi P yQ J l (G ((base L.add).at ⟨#[À<|Â ⟨b,0,Á⟩,Ê Î 1,Å,Å,Å,Å,Å,Å,Å,Å,Å,Å,Å,Å,Å,Å,Å,Å,Å,Å,Å,Å,Å,Å,Å,Å,Å,Å,Å,Å,Å,Å,Å,Å,Å,Å,Å,Å,Å,Å,Å,Å,Å,Å,Å,Å,Å,Å,Å,Å,Å,Å,Å,Å,Å,Å,Å,Å,Å,Å,Å,Å,Å,Å,Å,Å,Å,Å,Å,Å,Å,Å,Å,Å,Å,Å,Å,Å,Å,Å,Å,Å,Å,Å,Å,Å,Å,Å,Å,Å,Å,Å,Å,Å,Å,Å,Å,Å,Å,Å,Å,Å,Å,Å,Å,Å,Å,Å,Å,Å,Å,Å,Å,Å,Å,Å,Å],[]⟩ [ö<|body_add L])<|c.at y (Ñ Q (i::jJ)::k)::qX):=by
 have e0:l.w.cell? ⟨b,0,Á⟩=Â (Ê ê 0):=by simp[Ö,M,N]
 have e1:(l.w.cell? ⟨b,1,Á⟩).isSome=Ò:=by let⟨u,D⟩:=Ô.1 o;simp[Ö,M,D]
 have S:∀y:â,l.K y->y.block≠b:=λy T e=>(s.N y T).1<|Ã<|e▸x;let J1:Jd:=λB g'=>g'=G (c.at (y.put ((Q[i]?).bind (·.dst))<|ñ #[])<|Ñ Q jJ::k) qX/\B={uo l b with d:=0,w:=B.w}/\fI (uo l b) l.w B.w
 have hW:fi P yQ (LU P yQ b J1) (uo l b) (G ((base L.add).at ⟨#[À<|Â ⟨b,0,Á⟩,Ê Î 1,Å,Å,Å,Å,Å,Å,Å,Å,Å,Å,Å,Å,Å,Å,Å,Å,Å,Å,Å,Å,Å,Å,Å,Å,Å,Å,Å,Å,Å,Å,Å,Å,Å,Å,Å,Å,Å,Å,Å,Å,Å,Å,Å,Å,Å,Å,Å,Å,Å,Å,Å,Å,Å,Å,Å,Å,Å,Å,Å,Å,Å,Å,Å,Å,Å,Å,Å,Å,Å,Å,Å,Å,Å,Å,Å,Å,Å,Å,Å,Å,Å,Å,Å,Å,Å,Å,Å,Å,Å,Å,Å,Å,Å,Å,Å,Å,Å,Å,Å,Å,Å,Å,Å,Å,Å,Å,Å,Å,Å,Å,Å,Å,Å,Å,Å],[]⟩ [ö<|body_add L])<|c.at y (Ñ Q (i::jJ)::k)::qX):=by refine Zk (Ψ:=λw=>fI (uo l b) l.w w) H ⟨Ã<|Ç<|Ã U,Ã<|Ç<|Ç U,λw n o t a g m h=>h.fj ⟨o,t,a,g,m⟩⟩ ⟨λj f=>s.fv j<|Ã f.1,⟨by rw[show(uo l b).w=l.w from rfl,e0];rfl,e1⟩,fI.fV _ _⟩ Y λn v=> .fD λp r=>⟨U,U,v.2.2.fj ⟨r.r,r.I,r.N,r.Y,r.S⟩⟩
 have hstart:=hW.SB S (λq=>q.elim (λz=>z.2 U) λz=>s.c b x z) (λy T e=>s.S y T<|Ã<|e▸x) U (s.fv b<|Ã x) (by rw[show(uo l b).w=l.w from rfl,e0];rfl) e1 λj f=>s.fv j<|Ã f.1;rw[show nK l (uo l b) b=l from ZX x l.w l.d]at hstart;apply hstart.ma;rintro l1 g1 ⟨E,⟨sP,ajO,hA⟩,rfl,ZZ,Z0,oT,hlt1,nT,yI,lo1⟩;let⟨g2,Z1,V⟩:=hA 0;have rz:ê.wrap (0+fY)=fY:=by rw[show(0:Int)+fY=fY from rfl];exact K8 A A
 rw[rz]at V Z1;rw[if_pos U]at V;have hqx:¬E.q:=by rwa[yI]
 refine .mk ajO λn r=> ?_;have F:=(r.I b<|Ã<|Ç U).trans<|nT.trans M;have c0:n.cell? (fQ b)=Â (Ê ê 0):=by simp[Ö,fQ,F,N]
 have aua:=È hlt1 r.r;have W:(n.setCell (fQ b)<|Ê ê fY).heap[b]?=Â (É (C.setIfInBounds 0<|Ê ê 4294967296) ty):=by unfold þ;simp[í,fQ,F,fY]
 have rx:fI E E.w (n.setCell (fQ b)<|Ê ê fY):=by
  refine⟨by rw[kg];exact r.r,λj f=>((lF λe=>ZZ (by have t:j=b:=e;rwa[<-t])).trans<|r.I j<|f.imp Ã id),λa g=>(gK<|lF<|Z0 a g).trans<|r.N a g,λa g=>tS.trans<|r.Y a g,λa g q=> ?_⟩
  .rw[oT]at g;refine Aa ?_;rcases g with z|z|z
   .exact r.S a z q
   .rw[z,gK<|r.I b<|Ã<|Ç U];rwa[z]at q
   .rw[z,gK<|r.I b<|Ã<|Ç U];rwa[z]at q
 refine⟨g2,_,_,nK l {E with w:=n.setCell (fQ b) (Ê ê fY)} b,Z1 n c0 (by simp[î,fQ,F]),?_,?_⟩
 .refine⟨by rw[kg];exact Ú _,λ_ h=>Ã h,λj h=> ?_,U,U,U,U,λj _ o _=>lF λe=>o<|Ç e,λa _ o _=>gK (lF λe=>o<|Ç e),λ_ _ _=>PH,U,U,U,λe t=> ?_,?_,U,λq=>absurd q hqx,U⟩
  .rw[kg];rcases h with h|h
   .exact È (lo1 j h) r.r
   .rwa[h]
  .have:e=kG (fQ b)\/e=nk (fQ b):=by simpa using t
   rcases this with rfl|rfl
   .exact Ã ⟨fQ b,U,Ã<|Ç U⟩
   .exact Ã ⟨fQ b,U,Ã<|Ç U⟩
  .exact(Ņ (λe t=>by
    have:e=kG (fQ b)\/e=nk (fQ b):=by simpa using t
    rcases this with rfl|rfl<;>exact⟨by simp[kG,nk],by simp[kG,nk]⟩) _).symm
 have z1:((n.setCell (fQ b)<|Ê ê fY).cell? ⟨b,1,Á⟩).isSome=Ò:=by let⟨u,D⟩:=Ô.1 o;exact Aa<|by simp[Ö,F,D]
 have ajP:=(V.kj rx).SB S ZZ Z0 oT (by show b<(n.setCell (fQ b)<|Ê ê fY).heap.size;rwa[kg]) (Aa<|by rw[show(⟨b,0,Á⟩:â)=fQ b from rfl,c0];rfl) z1 (λj f=>by show j<(n.setCell (fQ b)<|Ê ê fY).heap.size;rw[kg];exact È (lo1 j f) r.r);apply ajP.ma;rintro l2 g3 ⟨v,⟨pF,ajQ,g4,ajR,hN2⟩,rfl,nM2,nC2,vg,hlt2,X,oV,lo2⟩;have ajS:¬v.q:=by rwa[oV]
 refine .mk ajQ λp m=> ?_;have I:∀a:â,a.block=b->p.cell? a=v.w.cell? a:=λa e=>gK<|m.I a.block<|Ã<|Ç e;have rx2:fI v v.w p:=⟨m.r,λj f=>m.I j<|f.imp Ã id,m.N,m.Y,λa g q=>by
  rw[vg]at g;rcases g with z|z|z
  .exact m.S a z q
  .rwa[I a (by rw[z])]
  .rwa[I a (by rw[z])]⟩
 refine⟨g4,p,_,nK l {v with w:=p} b,ajR p,?_,?_⟩
 .refine⟨Ú _,λ_ h=>Ã h,λj h=> ?_,U,U,U,U,λ_ _ _ _=>rfl,λ_ _ _ _=>rfl,λ_ _ _=>rfl,U,U,U,λe t=> ?_,?_,U,λq=>absurd q ajS,U⟩
  .rcases h with h|h
   .exact È (lo2 j h) m.r
   .rw[h];exact È hlt2 m.r
  .have:e=j1 (.read<|gY b):=by simpa using t
   rw[this];exact Ç<|Ç<|Ç<|Ç<|Ç ⟨gY b,Ç U,Ã U⟩
  .exact(Ņ (λe t=>by
    have:e=j1 (.read<|gY b):=by simpa using t
    rw[this];exact⟨by simp[j1],by simp[j1]⟩) _).symm
 have z:(p.cell? ⟨b,0,Á⟩).isSome=Ò:=by rw[I _ U];have:v.w.heap[b]?=_:=X.trans W;simp[Ö,this,(æ.1 N).1]
 have y1:(p.cell? ⟨b,1,Á⟩).isSome=Ò:=by rw[I _ U];have:v.w.heap[b]?=_:=X.trans W;let⟨u,D⟩:=Ô.1 o;simp[Ö,this,(æ.1 D).1]
 have u:=(hN2.kj rx2).SB S nM2 nC2 vg (È hlt2 m.r) z y1 λj f=>È (lo2 j f) m.r;apply u.ma;rintro l3 g5 ⟨x3,⟨rfl,D,t⟩,rfl,nM3,nC3,hk3,hlt3,CR,vE,lo3⟩;rw[D,ZX x];have rG:=CR.trans<|(m.I b<|Ã<|Ç U).trans<|X.trans W;refine hT _ ⟨⟨λ_ h=>h,λ_ h=>Ã h,U,U,U,U,U,Y.symm,λj f=>È (s.fv j<|Ã f) t.r,t.r,λj f hn=>t.I j (f.imp (λq=>⟨q,hn⟩) id),t.N,t.Y,λa g=>t.S a<|Ã g⟩,U,rG⟩
end
noncomputable def SC:Ę:=mg Ĝ [1,1,1]
noncomputable def Z2:Ę:=mg Ĝ [1,1,0,1,0,0,1,1,0,0,1,1,1]
noncomputable def SF:Ę:=mg Ĝ [1,1,0,1,0,0,1,1,0,0,1,1,0,1]
noncomputable def Ik:Ę:=mg Ĝ [1,1,0,1,0,0]
noncomputable def SG:Ę:=mg Ĝ [1,1,0,1,0,0,1,1,1]
noncomputable def CS (t:Array Ï) (a:List ç):Ý:=G ((base 46).at ⟨t,[]⟩ [ö Ik,ą Ik,ô 0,ö SC]) a
noncomputable def Il (t:Array Ï) (a:List ç):Ý:=G ((base 46).at ⟨t,[]⟩ [ö SF,ö Z2,ô 1,ö SG,ą Ik,ô 0,ö SC]) a
structure PT(iv qv rs:Ï)(lg R i:Nat)(t:Array Ï):Prop where
 r:t.size=48
 N:t[4]?=Â iv
 S:t[5]?=Â qv
 Y:t[6]?=Â (À<|Â ⟨lg,0,Á⟩)
 C:t[13]?=Â rs
 I:t[14]?=Â (Ê Î R)
 M:t[15]?=Â (Ê Î i)
def Mm(t:Array Ï)(h:t.size=48):∃a b c d e f g i j k l m n o p q r s u v w x y z B C D E F G H I J K L M N O P Q S T V W X Y qN qO:Ï,t=#[a,b,c,d,e,f,g,i,j,k,l,m,n,o,p,q,r,s,u,v,w,x,y,z,B,C,D,E,F,G,H,I,J,K,L,M,N,O,P,Q,S,T,V,W,X,Y,qN,qO]:=by obtain⟨_,rfl⟩:=Aw t h;exact⟨_,_,_,_,_,_,_,_,_,_,_,_,_,_,_,_,_,_,_,_,_,_,_,_,_,_,_,_,_,_,_,_,_,_,_,_,_,_,_,_,_,_,_,_,_,_,_,_,U⟩
def ajT(w:ß)(a c:Option â)(b:Int):(Ċ 155 #[(0,À a),(1,Ê Î b),(2,À c)]).run Ä w=.ok (Đ #[À a,Ê Î b,À c,À Á]) w:=run_build w 155 _ _ fL
def ajU(w:ß)(a c:Option â)(b:Int):(Ċ 155 #[(0,À a),(1,Ê Î b),(2,À c)]).events Ä w #[]=#[]:=by unfold Ċ;simp only[Sem.events_bind];simp[go_sem]
section
variable{p:Nat}{v0 v1 v2 v3:Ï}
def Z3(h:w.heap[p]?=Â (É #[v,x,z,jQ] e)):(iK w p v0 v1 v2 v3).heap[p]?=Â (É #[v0,v1,v2,v3] e):=by unfold iK þ;simp[í,h]
def gd.iK{l c:fe}(h:gd X l c)(s:gq l)(r:fI c c.w u)(f:l.w.heap.size<=p):gd X l {c with w:=fA.iK u p v0 v1 v2 v3}:=by
 have b:=h.G r;have e:∀{j:Nat},j<l.w.heap.size->(fA.iK u p v0 v1 v2 v3).heap[j]?=u.heap[j]?:=λ{j} q=>yC Z;refine⟨b.O,b.c,b.S,b.Y,b.b,b.K,b.q,b.d,λj q=> ?_,?_,λj q n=>(e<|s.fv j q).trans<|b.r j q n,λa q=>(gK<|e<|s.I a q).trans<|b.f a q,λa q=>(uX<|e<|s.I a q).trans<|b.g a q,λa q z=> ?_⟩
 .show j<(fA.iK u p v0 v1 v2 v3).heap.size;rw[wW];exact b.fv j q
 .show l.w.heap.size<=(fA.iK u p v0 v1 v2 v3).heap.size;rw[wW];exact b.I
 .show((fA.iK u p v0 v1 v2 v3).cell? a).isSome=Ò;rw[gK<|e (s.N a q).2.1];exact b.e a q z
def gA.N{l:fe}{o:Ÿ}(h:gA l b o)(r:fI l l.w u):gA {l with w:=u} b o:=⟨h.fg,(r.I b<|Ã h.fg).trans h.I⟩
end
section
variable{J:Jd}{l:fe}{t:Array Ï}{iv qv:Ï}{lg R:Nat}{kd:Int}
def ajV(f:gq l)(o:¬l.q)(k:PT iv qv (Æ (Â ⟨j,0,Á⟩) R n) lg R i t)(Z4:i<R)(hR:R<1000)(T:l.M j)(V:l.w.cell? ⟨j,i,Á⟩=Â (À<|Â ⟨b,0,Á⟩))(F:l.M b)(W:l.w.cell? ⟨b,4,Á⟩=Â (Ê Î kd)) (X:∀B u a,gd fh l B->l.w.heap.size<=a->gA B a (É #[À<|Â ⟨b,0,Á⟩,Ê Î i,À<|Â ⟨lg,0,Á⟩,À Á] 155)->PT iv qv (Æ (Â ⟨j,0,Á⟩) R n) lg R i u->u[9]?=Â (À<|Â ⟨a,0,Á⟩)->u[28]?=Â (Ş<|decide<|kd≠1)->fi Ä Ò J B (Il u qX)): fi Ä Ò J l (CS t qX):=by
 obtain⟨y0,y1,y2,y3,G,H,Y,y7,y8,y9,yD,Az,yE,sH,ug,rD,wY,wZ,vA,vB,vC,uh,ui,uj,sC,tV,sD,qc,oU,qK,qL,qM,vm,tW,tX,sE,sF,vn,vo,vp,vq,vr,vt,vu,vv,vw,qN,qO,rfl⟩:=Mm t k.r;obtain rfl:iv=G:=(show G=iv by simpa using k.N).symm;obtain rfl:qv=H:=(show H=qv by simpa using k.S).symm;obtain rfl:Y=À (Â ⟨lg,0,Á⟩):=by simpa using k.Y
 obtain rfl:sH=Æ (Â ⟨j,0,Á⟩) R n:=by simpa using k.C
 obtain rfl:ug=Ê Î R:=by simpa using k.I
 obtain rfl:rD=Ê Î i:=by simpa using k.M
 have aub:(i:Int)<(R:Int):=Z
 have hF:True:=trivial;have sI:∀y:â,False->l.r y:=λy ha=>ha.elim;apply fR (n:=40) f.r;simp only[CS];conv in Ik=>whnf
 repeat w_go fy
 refine Ë λ_ _=> ?_;apply kA (x:=⟨j,i,Á⟩) U U (by k_ne) f.r o (Ã T) V (λw h=>by go_simp) (λw h=>by simp[go_sem,h]);walk_nrm;apply fR (n:=40) f.r;repeat w_go fy
 refine Ë λ_ _=> ?_;refine oC (v:=Đ #[À<|Â ⟨b,0,Á⟩,Ê Î i,À<|Â ⟨lg,0,Á⟩,À Á]) U U (by k_ne) f.r o (λc r=> ?_) (λc r e C=> ?_) ?_
 .have S:=ajT c (Â ⟨b,0,Á⟩) (Â ⟨lg,0,Á⟩) i;go_simp
 .simp[go_sem,ajU c (Â ⟨b,0,Á⟩) (Â ⟨lg,0,Á⟩) i]at C
 walk_nrm;refine Cs (ob:=É #[À Á,Ê Î 0,À Á,À Á] 155) U U (by k_ne) f.r o (λw=>by go_simp) (λw=>by simp[go_sem]) λc D=> ?_;walk_nrm;have s:gd fh l (gF l c<|É #[À Á,Ê Î 0,À Á,À Á] 155):=mL f D;have m:gA (gF l c<|É #[À Á,Ê Î 0,À Á,À Á] 155) c.heap.size (É #[À Á,Ê Î 0,À Á,À Á] 155):=⟨Ç U,nU⟩;have E:l.w.heap.size<=c.heap.size:=D.r;generalize gF l c (É #[À Á,Ê Î 0,À Á,À Á] 155)=l₁ at s m|-;generalize c.heap.size=a at m E|-;have I:=s.N f;have K:¬l₁.q:=by rwa[s.q]
 refine tY U U (by k_ne) λd z=> ?_;have g:=m.N z;replace g:d.heap[a]?=_:=g.I;have L:d.cell? ⟨a,0,Á⟩=Â (À Á):=by simp[Ö,g]
 have N:d.cell? ⟨a,1,Á⟩=Â (Ê Î 0):=by simp[Ö,g]
 have O:d.cell? ⟨a,2,Á⟩=Â (À Á):=by simp[Ö,g]
 have P:d.cell? ⟨a,3,Á⟩=Â (À Á):=by simp[Ö,g]
 have Q:∀r,d.frozen? ⟨a,r,Á⟩=Ì:=λr=>by simp[î,g]
 go_simp;refine⟨{l₁ with w:=iK d a (À<|Â ⟨b,0,Á⟩) (Ê Î i) (À<|Â ⟨lg,0,Á⟩) (À Á)},EZ (p:=a) (lQ I.r z) K m.fg wW (λr S=>yC S) ⟨U,U,U⟩ λe C=> ?_,?_⟩
 .have S:=đ C;have e:∀r,pD l₁ ⟨a,r,Á⟩:=λr=>Ã m.fg;simp[go_sem,á _ _ _ _ _ _ (show Ø (À<|Â ⟨b,0,Á⟩)=Ò from rfl),á _ _ _ _ _ _ (show Ø (À<|Â ⟨lg,0,Á⟩)=Ò from rfl),á _ _ _ _ _ _ (show Ø (À Á)=Ò from rfl),L,N,O,P,Q]at S;rcases S with rfl|rfl|rfl|rfl
  .exact(e _).r
  .exact(e _).r
  .exact(e _).r
  .exact(e _).r
 have e:gd fh l ({l₁ with w:=iK d a (À<|Â ⟨b,0,Á⟩) (Ê Î i) (À<|Â ⟨lg,0,Á⟩) (À Á)}:fe):=s.iK f z E;have S:gA ({l₁ with w:=iK d a (À<|Â ⟨b,0,Á⟩) (Ê Î i) (À<|Â ⟨lg,0,Á⟩) (À Á)}:fe) a (É #[À<|Â ⟨b,0,Á⟩,Ê Î i,À<|Â ⟨lg,0,Á⟩,À Á] 155):=⟨m.fg,Z3 g⟩;generalize({l₁ with w:=iK d a (À<|Â ⟨b,0,Á⟩) (Ê Î i) (À<|Â ⟨lg,0,Á⟩) (À Á)}:fe)=l₂ at e S|-;clear m s I K g L N O P Q z d l₁ D c;have C:=e.N f;apply fR (n:=20) C.r;repeat w_go fy
 refine Ë λ_ _=> ?_;apply kA (x:=⟨b,4,Á⟩) U U (by k_ne) C.r (by rwa[e.q]) (Ã<|e.M F) ((gK<|e.r b F id).trans W) (λw h=>by go_simp) (λw h=>by simp[go_sem,h]);walk_nrm;apply fR (n:=20) C.r;iterate 2 w_go fy
 refine Ë λ_ _=> ?_;apply X l₂ _ a e E S ⟨U,U,U,U,U,U,U⟩ U;simp;rfl
end
section
variable{J:Jd}{l:fe}{xs:List Ï}
def ajW(s:gq l)(E:¬l.q)(o:PT v x z b j i d)(Z4:i<j)(hR:j<1000)(h9:d[9]?=Â (À<|Â ⟨m,0,Á⟩))(SH:d[28]?=Â (Ş Ò))(hn:n<1000) (h:gA l m (É #[À<|Â ⟨k,0,Á⟩,Ê Î i,À<|Â ⟨b,0,Á⟩,À Á] 155)) (lS:l.w.ownsRow 0 155 4 x n xs) (K:∀a,x.ownBlock=Â a->l.O a) (hJ:∀B L t,gd (λf=>Â f=x.ownBlock) l B->B.w.ownsRow 0 155 4 t (n+1) (xs++[À<|Â ⟨k,0,Á⟩,Ê Î i,À<|Â ⟨b,0,Á⟩,À Á])->(∀a,t.ownBlock=Â a->B.O a)->(t.ownBlock=x.ownBlock\/∃a,t.ownBlock=Â a/\l.w.heap.size<=a)->PT v t z b j (i+1) L->fi Ä Ò J B (CS L qX)): fi Ä Ò J l (Il d qX):=by
 obtain⟨y0,y1,y2,y3,M,N,y6,y7,y8,y9,yD,Az,yE,P,ug,rD,wY,wZ,vA,vB,vC,uh,ui,uj,sC,tV,sD,qc,oU,qK,qL,qM,vm,tW,tX,sE,sF,vn,vo,vp,vq,vr,vt,vu,vv,vw,qN,qO,rfl⟩:=Mm d o.r;obtain rfl:v=M:=(show M=v by simpa using o.N).symm;obtain rfl:x=N:=(show N=x by simpa using o.S).symm;obtain rfl:y6=À (Â ⟨b,0,Á⟩):=by simpa using o.Y
 obtain rfl:y9=À (Â ⟨m,0,Á⟩):=by simpa using h9
 obtain rfl:z=P:=(show P=z by simpa using o.C).symm;obtain rfl:ug=Ê Î j:=by simpa using o.I
 obtain rfl:rD=Ê Î i:=by simpa using o.M
 obtain rfl:oU=Ş Ò:=by simpa using SH
 have hF:True:=trivial;apply fR (n:=40) s.r;simp only[Il];conv in SF=>whnf
 conv in SG=>whnf
 repeat w_go fy
 refine Ë λ_ _=> ?_;refine oC (v:=Đ #[À<|Â ⟨k,0,Á⟩,Ê Î i,À<|Â ⟨b,0,Á⟩,À Á]) U U (by k_ne) s.r E (λp r=> ?_) (λp r e y=> ?_) ?_
 .skip;have C:p.cell? ⟨m,0,Á⟩=Â (À<|Â ⟨k,0,Á⟩):=(gQ.r (show gQ l ⟨m,0,Á⟩from Ã<|Ã h.fg) r).trans<|h.r U;have D:p.cell? ⟨m,1,Á⟩=Â (Ê Î i):=(gQ.r (show gQ l ⟨m,1,Á⟩from Ã<|Ã h.fg) r).trans<|h.r U;have F:p.cell? ⟨m,2,Á⟩=Â (À<|Â ⟨b,0,Á⟩):=(gQ.r (show gQ l ⟨m,2,Á⟩from Ã<|Ã h.fg) r).trans<|h.r U;have G:p.cell? ⟨m,3,Á⟩=Â (À Á):=(gQ.r (show gQ l ⟨m,3,Á⟩from Ã<|Ã h.fg) r).trans<|h.r U;go_simp
 .have u:∀g,gQ l ⟨m,g,Á⟩:=λg=>Ã<|Ã h.fg;have C:p.cell? ⟨m,0,Á⟩=Â (À<|Â ⟨k,0,Á⟩):=(gQ.r (show gQ l ⟨m,0,Á⟩from Ã<|Ã h.fg) r).trans<|h.r U;have D:p.cell? ⟨m,1,Á⟩=Â (Ê Î i):=(gQ.r (show gQ l ⟨m,1,Á⟩from Ã<|Ã h.fg) r).trans<|h.r U;have F:p.cell? ⟨m,2,Á⟩=Â (À<|Â ⟨b,0,Á⟩):=(gQ.r (show gQ l ⟨m,2,Á⟩from Ã<|Ã h.fg) r).trans<|h.r U;have G:p.cell? ⟨m,3,Á⟩=Â (À Á):=(gQ.r (show gQ l ⟨m,3,Á⟩from Ã<|Ã h.fg) r).trans<|h.r U;simp[go_sem,C,D,F,G]at y;rcases y with rfl|rfl|rfl|rfl
  .exact(u _).rd
  .exact(u _).rd
  .exact(u _).rd
  .exact(u _).rd
 walk_nrm;refine pE (V:=λp=>Æ (Â ⟨p,0,Á⟩) 1 1) (ob:=É #[À<|Â ⟨k,0,Á⟩,Ê Î i,À<|Â ⟨b,0,Á⟩,À Á] 155) U U (by k_ne) s.r E (λw=>by go_simp) (λw=>by simp[go_sem]) λr Q=> ?_;walk_nrm;have p:=mL (X:=fh) (ob:=É #[À<|Â ⟨k,0,Á⟩,Ê Î i,À<|Â ⟨b,0,Á⟩,À Á] 155) s Q;have y:gA (gF l r<|É #[À<|Â ⟨k,0,Á⟩,Ê Î i,À<|Â ⟨b,0,Á⟩,À Á] 155) r.heap.size (É #[À<|Â ⟨k,0,Á⟩,Ê Î i,À<|Â ⟨b,0,Á⟩,À Á] 155):=⟨Ç U,nU⟩;have C:∀a,x.ownBlock=Â a->(gF l r<|É #[À<|Â ⟨k,0,Á⟩,Ê Î i,À<|Â ⟨b,0,Á⟩,À Á] 155).O a:=λa e=>Ã<|K a e;have F:=oW lS (w₁:=(gF l r<|É #[À<|Â ⟨k,0,Á⟩,Ê Î i,À<|Â ⟨b,0,Á⟩,À Á] 155).w) λa e=>p.r a (Ã<|K a e) id;generalize gF l r (É #[À<|Â ⟨k,0,Á⟩,Ê Î i,À<|Â ⟨b,0,Á⟩,À Á] 155)=l₄ at p y C F|-;generalize r.heap.size=px at y|-;have G:=p.N s;have S:¬l₄.q:=by rwa[p.q]
 have Fb:Ä.info? 155=Â Ą:=ļ;refine L6 (v:=x) (us:=[À<|Â ⟨k,0,Á⟩,Ê Î i,À<|Â ⟨b,0,Á⟩,À Á]) (px:=px) (c:=1) (n:=n) (sz:=4) (xs:=xs) (inf:=Ą) (z:=Đ #[À Á,Ê Î 0,À Á,À Á]) U U (by k_ne) G S U U U Ľ Fb U U Z U U (by simp[Ą];omega) (by simp only[œ];omega) F C y.fg (λg u D=>y.r<|by simpa using D) (by simp[Ø]) λu g D H T W Y sM=> ?_;walk_nrm;have k5:gd (λf=>Â f=x.ownBlock) l₄ (nt l₄ u D):=L5 G H W λa e=>⟨C a e,e.symm⟩;have I:gd (λf=>Â f=x.ownBlock) l (nt l₄ u D):=(p.ff λ_ _ q=>q.elim).fj k5;have Im:g.ownBlock=x.ownBlock\/∃a,g.ownBlock=Â a/\l.w.heap.size<=a:=sM.imp id λq=>⟨_,q,Õ p.I H.r⟩;have rF:(nt l₄ u D).w.ownsRow 0 155 4 g (n+1) (xs++[À<|Â ⟨k,0,Á⟩,Ê Î i,À<|Â ⟨b,0,Á⟩,À Á]):=T;generalize nt l₄ u D=um at I rF Y|-;clear p k5 W T sM y G S C F H Q;have sN:=I.N s;have hw:Î.wrap ((i:Int)+1)=((i+1:Nat):Int):=by rw[Cu Z Z];omega
 apply fR (n:=40) sN.r;repeat w_go fy
 refine Ë λ_ _=> ?_;refine hJ um _ g I rF Y Im ⟨U,U,U,U,U,U,?_⟩;simp[hw]
def ajX(G:gq l)(hq:¬l.q)(hd:l.d=0)(I:PT v x z b j i d)(Z4:i<j)(hR:j<1000)(h9:d[9]?=Â (À<|Â ⟨m,0,Á⟩))(SH:d[28]?=Â (Ş Ì))(hn:n<1000) (h0:gA l m (É #[À<|Â ⟨k,0,Á⟩,Ê Î i,À<|Â ⟨b,0,Á⟩,À Á] 155)) (lS:l.w.ownsRow 0 155 4 v n xs) (hO:∀f,v.ownBlock=Â f->l.O f) (qP:v.ownBlock≠Â m) (hJ:∀T t' W s,gd (λg=>Â g=v.ownBlock\/g=m) l T->T.w.ownsRow 0 155 4 W (n+1) (xs++[À<|Â ⟨k,0,Á⟩,Ê Î i,À<|Â ⟨b,0,Á⟩,À<|Â ⟨s,0,Á⟩])->(∀f,W.ownBlock=Â f->T.O f)->(W.ownBlock=v.ownBlock\/∃f,W.ownBlock=Â f/\s<f)->l.w.heap.size<=s->gA T s (É #[Ê ê 4294967296,Ê Ď 0,Æ Á 0 0] 105)->PT W x z s j (i+1) t'->fi Ä Ò J T (CS t' qX)): fi Ä Ò J l (Il d qX):=by
 obtain⟨y0,y1,y2,y3,y4,y5,y6,y7,y8,y9,yD,Az,yE,sH,ug,rD,wY,wZ,vA,vB,vC,uh,ui,uj,sC,tV,sD,qc,oU,qK,qL,qM,vm,tW,tX,sE,sF,vn,vo,vp,vq,vr,vt,vu,vv,vw,qN,qO,rfl⟩:=Mm d I.r;obtain rfl:v=y4:=(show y4=v by simpa using I.N).symm;obtain rfl:x=y5:=(show y5=x by simpa using I.S).symm;obtain rfl:y6=À (Â ⟨b,0,Á⟩):=by simpa using I.Y
 obtain rfl:y9=À (Â ⟨m,0,Á⟩):=by simpa using h9
 obtain rfl:z=sH:=(show sH=z by simpa using I.C).symm;obtain rfl:ug=Ê Î j:=by simpa using I.I
 obtain rfl:rD=Ê Î i:=by simpa using I.M
 obtain rfl:oU=Ş Ì:=by simpa using SH
 have hF:True:=trivial;apply fR (n:=40) G.r;simp only[Il];conv in SF=>whnf
 conv in Z2=>whnf
 conv in SG=>whnf
 repeat w_go fy
 refine Ë λ_ _=> ?_;refine Cs (ob:=É #[Ê ê 0,Ê Ď 0,Æ Á 0 0] 105) U U (by k_ne) G.r hq (λw=>by go_simp) (λw=>by simp[go_sem]) λD kT=> ?_;walk_nrm;have t:gd fh l (gF l D<|É #[Ê ê 0,Ê Ď 0,Æ Á 0 0] 105):=mL G kT;have F:gA (gF l D<|É #[Ê ê 0,Ê Ď 0,Æ Á 0 0] 105) D.heap.size (É #[Ê ê 0,Ê Ď 0,Æ Á 0 0] 105):=⟨Ç U,nU⟩;have Io:l.w.heap.size<=D.heap.size:=kT.r;generalize gF l D (É #[Ê ê 0,Ê Ď 0,Æ Á 0 0] 105)=l₁ at t F|-;generalize D.heap.size=s at F Io|-;clear kT D;have yJ:=t.N G;have yI:¬l₁.q:=by rwa[t.q]
 have htl:m<l.w.heap.size:=G.fv m<|Ã h0.fg;have t1:=h0.C t id;apply fR (n:=40) yJ.r;iterate 7 w_go fy
 u_call rB.f_add (nm_add Lk) addFn fy hF
 refine Ë λ_ _=> ?_;refine ZY rB yJ yI (by rwa[t.d]) F.fg F.I U U λy hC=> ?_;walk_nrm;have E:gd (λg=>g=s) l₁ y:=hC.r;have Mn:gd fh l y:=⟨λf q=>E.O f<|t.O f q,λf q=>(E.c f q).elim (t.c f) λh=>Ç<|Õ t.I h,E.S.trans t.S,E.Y.trans t.Y,E.b.trans t.b,E.K.trans t.K,E.q.trans t.q,E.d.trans t.d,E.fv,Õ t.I E.I,λo Y nx=>(E.r o (t.M Y) λe=>by have:=G.fv o Y;omega).trans<|t.r o Y nx,λa H=>(E.f a<|by rwa[t.C]).trans<|t.f a H,λa H=>(E.g a<|by rwa[t.C]).trans<|t.g a H,λa H h=>E.e a (by rwa[t.K])<|t.e a H h⟩;have L:=t1.C E Z;have N:gA y s (É #[Ê ê 4294967296,Ê Ď 0,Æ Á 0 0] 105):=⟨E.O s F.fg,hC.C⟩;have sJ:=Mn.N G;have oV:¬y.q:=by rwa[Mn.q]
 have hgl:s<y.w.heap.size:=sJ.fv s<|Ã N.fg;clear hC E t1 F t yJ yI l₁;apply fR (n:=40) sJ.r;iterate 5 w_go fy
 refine Ë λ_ _=> ?_;refine E8 (p:=m) (off:=3) (v:=À<|Â ⟨s,0,Á⟩) (u:=À Á) U U (by k_ne) sJ.r oV L.fg (L.r U) (by simp[î,L.I]) U (λw r S=>by go_simp) (λw r S=>by simp[go_sem,á _ _ _ _ _ _ (show Ø (À<|Â ⟨s,0,Á⟩)=Ò from rfl),r,S]) ?_;have P:gd (λg=>g=m) l {y with w:=y.w.setCell ⟨m,3,Á⟩ (À<|Â ⟨s,0,Á⟩)}:=(Mn.ff λ_ _ q=>q.elim).fj (HQ (p:=m) sJ (fI.fV _ _) L.fg U kg λo Y=>lF Y);have B:gA {y with w:=y.w.setCell ⟨m,3,Á⟩ (À<|Â ⟨s,0,Á⟩)} m (É #[À<|Â ⟨k,0,Á⟩,Ê Î i,À<|Â ⟨b,0,Á⟩,À<|Â ⟨s,0,Á⟩] 155):=⟨L.fg,by show(y.w.setCell ⟨m,3,Á⟩<|À<|Â ⟨s,0,Á⟩).heap[m]?=_;unfold þ;simp[í,L.I]⟩;have g3:gA {y with w:=y.w.setCell ⟨m,3,Á⟩ (À<|Â ⟨s,0,Á⟩)} s (É #[Ê ê 4294967296,Ê Ď 0,Æ Á 0 0] 105):=⟨N.fg,(lF<|by show s≠m;omega).trans N.I⟩;have ajY:s<({y with w:=y.w.setCell ⟨m,3,Á⟩ (À<|Â ⟨s,0,Á⟩)}:fe).w.heap.size:=by show s<(y.w.setCell ⟨m,3,Á⟩<|À<|Â ⟨s,0,Á⟩).heap.size;rwa[kg]
 generalize({y with w:=y.w.setCell ⟨m,3,Á⟩ (À<|Â ⟨s,0,Á⟩)}:fe)=kF at P B g3 ajY|-;clear L N Mn sJ oV hgl y;have Q:=P.N G;have vE:¬kF.q:=by rwa[P.q]
 have Fc:∀f,v.ownBlock=Â f->kF.O f:=λf e=>P.O f<|hO f e;have Mg:kF.w.ownsRow 0 155 4 v n xs:=oW lS λf e=>P.r f (Ã<|hO f e) λh=>qP<|h▸e;apply fR (n:=40) Q.r;iterate 3 w_go fy
 refine Ë λ_ _=> ?_;refine oC (v:=Đ #[À<|Â ⟨k,0,Á⟩,Ê Î i,À<|Â ⟨b,0,Á⟩,À<|Â ⟨s,0,Á⟩]) U U (by k_ne) Q.r vE (λD r=> ?_) (λD r e he=> ?_) ?_
 .skip;have g0:D.cell? ⟨m,0,Á⟩=Â (À<|Â ⟨k,0,Á⟩):=(gQ.r (show gQ kF ⟨m,0,Á⟩from Ã<|Ã B.fg) r).trans<|B.r U;have F:D.cell? ⟨m,1,Á⟩=Â (Ê Î i):=(gQ.r (show gQ kF ⟨m,1,Á⟩from Ã<|Ã B.fg) r).trans<|B.r U;have N:D.cell? ⟨m,2,Á⟩=Â (À<|Â ⟨b,0,Á⟩):=(gQ.r (show gQ kF ⟨m,2,Á⟩from Ã<|Ã B.fg) r).trans<|B.r U;have g3:D.cell? ⟨m,3,Á⟩=Â (À<|Â ⟨s,0,Á⟩):=(gQ.r (show gQ kF ⟨m,3,Á⟩from Ã<|Ã B.fg) r).trans<|B.r U;go_simp
 .have S:∀o,gQ kF ⟨m,o,Á⟩:=λo=>Ã<|Ã B.fg;have g0:D.cell? ⟨m,0,Á⟩=Â (À<|Â ⟨k,0,Á⟩):=(gQ.r (show gQ kF ⟨m,0,Á⟩from Ã<|Ã B.fg) r).trans<|B.r U;have F:D.cell? ⟨m,1,Á⟩=Â (Ê Î i):=(gQ.r (show gQ kF ⟨m,1,Á⟩from Ã<|Ã B.fg) r).trans<|B.r U;have N:D.cell? ⟨m,2,Á⟩=Â (À<|Â ⟨b,0,Á⟩):=(gQ.r (show gQ kF ⟨m,2,Á⟩from Ã<|Ã B.fg) r).trans<|B.r U;have g3:D.cell? ⟨m,3,Á⟩=Â (À<|Â ⟨s,0,Á⟩):=(gQ.r (show gQ kF ⟨m,3,Á⟩from Ã<|Ã B.fg) r).trans<|B.r U;simp[go_sem,g0,F,N,g3]at he;rcases he with rfl|rfl|rfl|rfl
  .exact(S _).rd
  .exact(S _).rd
  .exact(S _).rd
  .exact(S _).rd
 walk_nrm;refine pE (V:=λp=>Æ (Â ⟨p,0,Á⟩) 1 1) (ob:=É #[À<|Â ⟨k,0,Á⟩,Ê Î i,À<|Â ⟨b,0,Á⟩,À<|Â ⟨s,0,Á⟩] 155) U U (by k_ne) Q.r vE (λw=>by go_simp) (λw=>by simp[go_sem]) λS yK=> ?_;walk_nrm;have r:=mL (X:=fh) (ob:=É #[À<|Â ⟨k,0,Á⟩,Ê Î i,À<|Â ⟨b,0,Á⟩,À<|Â ⟨s,0,Á⟩] 155) Q yK;have p4:gA (gF kF S<|É #[À<|Â ⟨k,0,Á⟩,Ê Î i,À<|Â ⟨b,0,Á⟩,À<|Â ⟨s,0,Á⟩] 155) S.heap.size (É #[À<|Â ⟨k,0,Á⟩,Ê Î i,À<|Â ⟨b,0,Á⟩,À<|Â ⟨s,0,Á⟩] 155):=⟨Ç U,nU⟩;have yL:∀f,v.ownBlock=Â f->(gF kF S<|É #[À<|Â ⟨k,0,Á⟩,Ê Î i,À<|Â ⟨b,0,Á⟩,À<|Â ⟨s,0,Á⟩] 155).O f:=λf e=>Ã<|Fc f e;have CH:=oW Mg (w₁:=(gF kF S<|É #[À<|Â ⟨k,0,Á⟩,Ê Î i,À<|Â ⟨b,0,Á⟩,À<|Â ⟨s,0,Á⟩] 155).w) λf e=>r.r f (Ã<|Fc f e) id;generalize gF kF S (É #[À<|Â ⟨k,0,Á⟩,Ê Î i,À<|Â ⟨b,0,Á⟩,À<|Â ⟨s,0,Á⟩] 155)=l₄ at r p4 yL CH|-;generalize S.heap.size=px at p4|-;have AG:=r.N Q;have CI:¬l₄.q:=by rwa[r.q]
 have Fb:Ä.info? 155=Â Ą:=ļ;refine L6 (v:=v) (us:=[À<|Â ⟨k,0,Á⟩,Ê Î i,À<|Â ⟨b,0,Á⟩,À<|Â ⟨s,0,Á⟩]) (px:=px) (c:=1) (n:=n) (sz:=4) (xs:=xs) (inf:=Ą) (z:=Đ #[À Á,Ê Î 0,À Á,À Á]) U U (by k_ne) AG CI U U U Ľ Fb U U Z U U (by simp[Ą];omega) (by simp only[œ];omega) CH yL p4.fg (λo u hu=>p4.r<|by simpa using hu) (by simp[Ø]) λoF CG AI xd rm CJ xe sM=> ?_;walk_nrm;have k5:gd (λg=>Â g=v.ownBlock) l₄ (nt l₄ oF AI):=L5 AG xd CJ λf e=>⟨yL f e,e.symm⟩;have xf:gd (λg=>Â g=v.ownBlock) kF (nt l₄ oF AI):=(r.ff λ_ _ q=>q.elim).fj k5;have Im:CG.ownBlock=v.ownBlock\/∃f,CG.ownBlock=Â f/\kF.w.heap.size<=f:=sM.imp id λq=>⟨_,q,Õ r.I xd.r⟩;have rF:(nt l₄ oF AI).w.ownsRow 0 155 4 CG (n+1) (xs++[À<|Â ⟨k,0,Á⟩,Ê Î i,À<|Â ⟨b,0,Á⟩,À<|Â ⟨s,0,Á⟩]):=rm;generalize nt l₄ oF AI=um at xf rF xe|-;clear r k5 CJ rm sM p4 AG CI yL CH xd yK;have sN:=xf.N Q;have hw:Î.wrap ((i:Int)+1)=((i+1:Nat):Int):=by rw[Cu Z Z];omega
 have g5:=g3.C xf<|ZM lS Io;have CK:gd (λg=>Â g=v.ownBlock\/g=m) l um:=(P.ff λ_ _ q=>Ç q).fj (xf.ff λ_ _ q=>Ã q);apply fR (n:=40) sN.r;repeat w_go fy
 refine Ë λ_ _=> ?_;refine hJ um _ CG s CK rF xe (Im.imp id λ⟨f,q1,q2⟩=>⟨f,q1,Z⟩) Io g5 ⟨U,U,U,U,U,U,?_⟩;simp[hw]
end
def ij(kd:Nat->Int)(i:Nat):List Nat:=(ã i).filter λj=>decide<|kd j=1
def jG(kd:Nat->Int)(i:Nat):List Nat:=(ã i).filter λj=>decide<|kd j≠1
def fP(kd:Nat->Int)(i:Nat):Nat:=(ij kd i).length
def tI(rq g:Nat->Nat)(p:Nat×Nat):List Ï:=[À<|Â ⟨rq p.1,0,Á⟩,Ê Î p.1,À<|Â ⟨g p.2,0,Á⟩,À<|Â ⟨g<|p.2+1,0,Á⟩]
def tQ(kd:Nat->Int)(rq g:Nat->Nat)(p:Nat):List Ï:=[À<|Â ⟨rq p,0,Á⟩,Ê Î p,À<|Â ⟨g<|fP kd p,0,Á⟩,À Á]
def ko(kd:Nat->Int)(rq g:Nat->Nat)(i:Nat):List Ï:=(ij kd i).zipIdx.flatMap<|tI rq g
def mM(kd:Nat->Int)(rq g:Nat->Nat)(i:Nat):List Ï:=(jG kd i).flatMap<|tQ kd rq g
section
variable{kd:Nat->Int}{rq g:Nat->Nat}
def uq(h:kd i=1):ij kd (i+1)=ij kd i++[i]:=by simp[ij,ÿ,ā,h]
def xg(h:kd i≠1):ij kd (i+1)=ij kd i:=by simp[ij,ÿ,ā,h]
def SI(h:kd i=1):jG kd (i+1)=jG kd i:=by simp[jG,ÿ,ā,h]
theorem SJ(h:kd i≠1):jG kd (i+1)=jG kd i++[i]:=by simp[jG,ÿ,ā,h]
def Mp:∀i,fP kd i<=i:=λi=>by unfold fP ij;exact Õ (ģ _ _) fp
def ajZ:∀i,(jG kd i).length<=i:=λi=>by unfold jG;exact Õ (ģ _ _) fp
def Z5(h:j<=i):fP kd j<=fP kd i:=by
 induction i with
 |zero=>
  have:j=0:=Z
  rw[this];exact Ú _
 |succ i c=>
  by_cases e:j=i+1
  .rw[e];exact Ú _
  .have a:=c Z;by_cases b:kd i=1
   .unfold fP at a|-;rw[uq b];simp;omega
   .unfold fP at a|-;rwa[xg b]
def aj0(h:kd i=1):ko kd rq g (i+1)=ko kd rq g i++tI rq g (i,fP kd i):=by unfold ko;rw[uq h,List.zipIdx_append,List.flatMap_append];simp[fP]
def aj1(h:kd i≠1):ko kd rq g (i+1)=ko kd rq g i:=by unfold ko;rw[xg h]
def aj2(h:kd i=1):mM kd rq g (i+1)=mM kd rq g i:=by unfold mM;rw[SI h]
theorem aj3(h:kd i≠1):mM kd rq g (i+1)=mM kd rq g i++tQ kd rq g i:=by unfold mM;grind [SJ]
def SK{α:Type}{f a:α->List Ï}:∀(l:List α),(∀x∈l,f x=a x)->l.flatMap f=l.flatMap a
 |[],_=>rfl
 |x::l,h=>by rw[Ć,Ć,h x List.mem_cons_self,SK l λy b=>h y<|List.mem_cons_of_mem _ b]
def aj4(h:∀k,k<=fP kd i->D k=g k):ko kd rq D i=ko kd rq g i:=by
 unfold ko;refine SK _ λx a=> ?_;let⟨p,k⟩:=x;have b:=(List.mem_zipIdx a).2.1;have c:k<fP kd i:=by unfold fP;omega
 simp[tI,h k Z,h (k+1) Z]
def aj5(h:∀k,k<=fP kd i->D k=g k):mM kd rq D i=mM kd rq g i:=by
 unfold mM;refine SK _ λp a=> ?_;have b:p<i:=by have:=(Ā.1 a).1;simpa using this
 simp[tQ,h (fP kd p)<|Z5 Z]
def SL{α:Type}{f:α->List Ï}(a:∀x,(f x).length=4)(b:i<4):∀(l:List α) (k:Nat) (x:α),l[k]?=Â x->(l.flatMap f)[k*4+i]?=(f x)[i]?
 |[],k,x,h=>by simp at h
 |y::l,0,x,h=>by
  obtain rfl:y=x:=by simpa using h
  rw[Ć,List.getElem?_append_left (by rw[a];omega)];simp
 |y::l,k+1,x,h=>by rw[Ć,List.getElem?_append_right (by rw[a];omega),a,show(k+1)*4+i-4=k*4+i by omega];exact SL a b l k x<|by simpa using h
end
section
variable{Y:Nat->Prop}{l m o:fe}
def gd.yN(h:gd X l m)(k:gd Y m o)(e:∀j,l.M j->¬Y j):gd X l o:= ⟨λj q=>k.O j<|h.O j q,λj q=>(k.c j q).elim (h.c j) λz=>Ç<|Õ h.I z,k.S.trans h.S,k.Y.trans h.Y,k.b.trans h.b,k.K.trans h.K,k.q.trans h.q,k.d.trans h.d,k.fv,Õ h.I k.I,λj c f=>(k.r j (h.M c)<|e j c).trans<|h.r j c f,λa b=>(k.f a<|by rwa[h.C]).trans<|h.f a b,λa b=>(k.g a<|by rwa[h.C]).trans<|h.g a b,λa b z=>k.e a (by rwa[h.K])<|h.e a b z⟩
end
abbrev SN:Ÿ:=É #[Ê ê 4294967296,Ê Ď 0,Æ Á 0 0] 105
structure AJ(kd:Nat->Int)(rq g:Nat->Nat)(S i:Nat)(iv qv:Ï)(l0 l:fe):Prop where
 r:gd fh l0 l
 ko:l.w.ownsRow 0 155 4 iv (fP kd i) (ko kd rq g i)
 mM:l.w.ownsRow 0 155 4 qv (jG kd i).length (mM kd rq g i)
 C:∀k,iv.ownBlock=Â k->l.O k/\l0.w.heap.size<=k
 I:∀k,qv.ownBlock=Â k->l.O k/\l0.w.heap.size<=k
 M:∀k,iv.ownBlock=Â k->qv.ownBlock≠Â k
 N:∀k,1<=k->k<=fP kd i->gA l (g k) SN/\l0.w.heap.size<=g k/\iv.ownBlock≠Â (g k)/\qv.ownBlock≠Â (g k)
 g0:g 0<l0.w.heap.size
 S:g 0=S
 Y:∀k k',k<k'->k'<=fP kd i->g k<g k'
section
variable{kd:Nat->Int}{rq g:Nat->Nat}{iv qv:Ï}{l0 l m o:fe}
theorem AJ.aj6(h:AJ kd rq g n i iv qv l0 l)(C:gq l0)(s:gq l)(t:kd i≠1)(a:gd fh l m)(d:gd (λb=>Â b=qv.ownBlock) m o)(G:o.w.ownsRow 0 155 4 v ((jG kd i).length+1) (fA.mM kd rq g i++tQ kd rq g i))(D:∀k,v.ownBlock=Â k->o.O k)(u:v.ownBlock=qv.ownBlock\/∃k,v.ownBlock=Â k/\m.w.heap.size<=k):AJ kd rq g n (i+1) iv v l0 o:=by
 have p:fP kd (i+1)=fP kd i:=by unfold fP;rw[xg t]
 have x:∀{j},l.O j->qv.ownBlock≠Â j->v.ownBlock≠Â j:=λ{j} c hn e=>by
  rcases u with z|⟨k,q,B⟩
  .grind
  .rw[q]at e;have:=Ó e;have:=(λc=>È (s.fv _<|Ã c) a.I) c;omega
 refine⟨(h.r.fj a).yN d λj c e=> ?_,?_,?_,λk e=>⟨d.O k<|a.O k (h.C k e).1,(h.C k e).2⟩,λk e=>⟨D k e,?_⟩,λk e=>x (h.C k e).1<|h.M k e,λk r f=> ?_,h.g0,h.S,λk y r f=>h.Y k y r<|by rwa[<-p]⟩
 .have:=(h.I j e.symm).2;have:=C.fv j c;omega
 .rw[p,aj1 t];refine oW h.ko λk e=>(d.r k (Ã<|a.O k (h.C k e).1) λz=>h.M k e z.symm).trans<|a.r k (Ã (h.C k e).1) id
 .grind [SJ,aj3]
 .rcases u with z|⟨y,q,B⟩
  .rw[z]at e;exact(h.I k e).2
  .rw[q]at e;have:=Ó e;have:=h.r.I;have:=a.I;omega
 .rw[p]at f;let⟨q,E,F,B⟩:=h.N k r f;exact⟨(q.C a id).C d λz=>B z.symm,E,F,x q.fg B⟩
theorem AJ.kR{tb:Nat}(h:AJ kd rq g n i iv qv l0 l)(F:gq l0)(s:gq l)(a:kd i=1)(c:gd fh l m)(P:l.w.heap.size<=tb)(p:gd (λb=>Â b=iv.ownBlock\/b=tb) m o)(G:o.w.ownsRow 0 155 4 v (fP kd i+1) (fA.ko kd rq g i++[À<|Â ⟨rq i,0,Á⟩,Ê Î i,À<|Â ⟨g<|fP kd i,0,Á⟩,À<|Â ⟨J,0,Á⟩]))(H:∀k,v.ownBlock=Â k->o.O k)(u:v.ownBlock=iv.ownBlock\/∃k,v.ownBlock=Â k/\J<k)(Q:m.w.heap.size<=J)(I:gA o J SN):AJ kd rq (λk=>if k<=fP kd i then g k else J) n (i+1) v qv l0 o:=by
 have x:fP kd (i+1)=fP kd i+1:=by unfold fP;rw[uq a];simp
 have S:=h.r.I;have T:=c.I;have d:∀{j},l.O j->j<l.w.heap.size:=λq=>s.fv _<|Ã q;have B:∀{j},l.O j->iv.ownBlock≠Â j->v.ownBlock≠Â j:=λ{j} q hn e=>by grind
 have C:∀k,k<=fP kd i->(if k<=fP kd i then g k else J)=g k:=λk a=>if_pos a;refine⟨(h.r.fj c).yN p λj q e=> ?_,?_,?_,λk e=>⟨H k e,?_⟩,λk e=>⟨p.O k<|c.O k (h.I k e).1,(h.I k e).2⟩,λk e z=>B (h.I k z).1 (λy=>h.M k y z) e,λk t D=> ?_,?_,?_,λk r t D=> ?_⟩
 .have:=F.fv j q;rcases e with e|e
  .have:=(h.C j e.symm).2;omega
  .omega
 .rw[x,aj0 a,aj4 C];simpa[tI,show¬(fP kd i+1<=fP kd i) by omega]using G
 .rw[SI a,aj2 a,aj5 C];refine oW h.mM λk e=> ?_;refine(p.r k (Ã<|c.O k (h.I k e).1) ?_).trans<|c.r k (Ã (h.I k e).1) id;rintro(z|z)
  .exact h.M k z.symm e
  .have:=d (h.I k e).1;omega
 .rcases u with z|⟨r,K,L⟩
  .rw[z]at e;exact(h.C k e).2
  .grind
 .by_cases y:k<=fP kd i
  .simp only[if_pos y];let⟨f,M,E,N⟩:=h.N k t y;refine⟨(f.C c id).C p ?_,M,B f.fg E,N⟩;rintro(z|z)
   .exact E z.symm
   .have:=d f.fg;omega
  .simp only[if_neg y];refine⟨I,Z,λe=> ?_,λe=> ?_⟩
   .rcases u with z|⟨r,K,L⟩
    .rw[z]at e;have:=d (h.C J e).1;omega
    .grind
   .have:=d (h.I J e).1;omega
 .simp only[ă,if_true];exact h.g0
 .simp only[ă,if_true];exact h.S
 .rw[x]at D;by_cases y:r<=fP kd i
  .simp only[if_pos y,if_pos (show k<=fP kd i by omega)];exact h.Y k r t y
  .simp only[if_neg y,if_pos (show k<=fP kd i by omega)];by_cases E:k=0
   .subst E;have:=h.g0;omega
   .let⟨f,_⟩:=h.N k Z Z;have:=d f.fg;omega
end
section
variable{J:Jd}{ra:Option â}{rb cr R:Nat}{cs:List ç}{kd:Nat->Int}{rq:Nat->Nat}{l0:fe}
def SO(j:gq l0)(u:¬l0.q)(v:l0.d=0)(m:R<1000)(p:0<R->ra=Â ⟨rb,0,Á⟩)(x:0<R->l0.M rb)(y:∀i,i<R->l0.w.cell? ⟨rb,i,Á⟩=Â (À<|Â ⟨rq i,0,Á⟩))(r:∀i,i<R->l0.M (rq i))(z:∀i,i<R->l0.w.cell? ⟨rq i,4,Á⟩=Â (Ê Î<|kd i)) (B:∀g N P a b,AJ kd rq g n R a b l0 N->PT a b (Æ ra R cr) (g<|fP kd R) R R P->fi Ä Ò J N (CS P cs)): ∀d i,R=i+d->∀g l t a b,AJ kd rq g n i a b l0 l->PT a b (Æ ra R cr) (g<|fP kd i) R i t->fi Ä Ò J l (CS t cs)
 |0,i,hi,g,l,t,a,b,hP,hT=>by obtain rfl:R=i:=hi;exact B g l t a b hP hT
 |d+1,i,hi,g,l,t,a,b,hP,hT=>by
  have f:i<R:=Z
  have o:=hP.r.N j;have Q:¬l.q:=by rwa[hP.r.q]
  have S:=x Z;refine ajV o Q (by rwa[<-p Z]) f m (hP.r.M S) ((gK<|hP.r.r rb S id).trans<|y i f) (hP.r.M<|r i f) ((gK<|hP.r.r _ (r i f) id).trans<|z i f) λl1 t1 T c qP V C W s=> ?_;rw[<-p Z]at C;have X:=c.N o;have Y:¬l1.q:=by rwa[c.q]
  have hc:=Mp (kd:=kd) i;have hcq:=ajZ (kd:=kd) i;by_cases h:kd i=1
  .rw[decide_eq_false (by simpa using h)]at s;refine ajX X Y (by rwa[c.d,hP.r.d]) C f m W s Z V (oW hP.ko λk e=>c.r k (Ã (hP.C k e).1) id) (λk e=>c.O k (hP.C k e).1) (λe=>by have:=o.fv T<|Ã (hP.C T e).1;omega) λD E iv' gt F G H I Io hg K=> ?_;apply SO j u v m p x y r z B d (i+1) Z _ D E iv' b (hP.kR j o h c qP F G H I Io hg);have L:fP kd (i+1)=fP kd i+1:=by unfold fP;rw[uq h];simp
   rw[L];simp only[show¬(fP kd i+1<=fP kd i) by omega,if_false];exact K
  .rw[decide_eq_true (by simpa using h)]at s;refine ajW X Y C f m W s Z V (oW hP.mM λk e=>c.r k (Ã (hP.I k e).1) id) (λk e=>c.O k (hP.I k e).1) λD E e F G H I K=> ?_;apply SO j u v m p x y r z B d (i+1) Z _ D E a e (hP.aj6 j o h c F G H I);have L:fP kd (i+1)=fP kd i:=by unfold fP;rw[xg h]
   rwa[L]
end
noncomputable def Z6:Ę:=mg Ĝ []
noncomputable def Z7 (a b:Ï) (c:List ç):Ý:=G ((base 46).at ⟨#[a,b,Å,Å,Å,Å,Å,Å,Å,Å,Å,Å,Å,Å,Å,Å,Å,Å,Å,Å,Å,Å,Å,Å,Å,Å,Å,Å,Å,Å,Å,Å,Å,Å,Å,Å,Å,Å,Å,Å,Å,Å,Å,Å,Å,Å,Å,Å],[]⟩ [ö Z6]) c
def aj7{c:ç}{d:ŏ}{k:List Ŝ}{K:Ý->ß->Array ž->Prop}{t u v:Tmp}(g:f.kind=Ğ)(j:y.defers=[])(l:P.funcs[f.fn]?=Â s)(e:s.results=#[.tmp t,.tmp u,.tmp v]) (h:K (G (c.at (d.put ((Q[i]?).bind (·.dst))<|ñ #[y.tmps.getD t Å,y.tmps.getD u Å,y.tmps.getD v Å])<|Ñ Q jJ::k) qX) w #[]): (stepG P yQ (G {f.at y L with mode:=.returning}<|c.at d (Ñ Q (i::jJ)::k)::qX) w).goes K:=by rwa[stepG_leave g j l (v:=ñ #[y.tmps.getD t Å,y.tmps.getD u Å,y.tmps.getD v Å]) (by simp[results,e,go_sem]) (by simp[results,e,go_sem]),Ģ]
structure Ip(kd:Nat->Int)(rq g:Nat->Nat)(R:Nat)(iv qv sv:Ï)(l l':fe):Prop where
 Y:gd fh l l'
 ko:l'.w.ownsRow 0 155 4 iv (fP kd R) (ko kd rq g R)
 mM:l'.w.ownsRow 0 155 4 qv (jG kd R).length (mM kd rq g R)
 r:∀k,iv.ownBlock=Â k->l'.O k/\l.w.heap.size<=k
 C:∀k,qv.ownBlock=Â k->l'.O k/\l.w.heap.size<=k
 dis:∀k,iv.ownBlock=Â k->qv.ownBlock≠Â k
 N:gA l' (g 0) (É #[Ê ê 0,Ê Ď 0,sv] 105)
 I:∀k,1<=k->k<=fP kd R->gA l' (g k) SN
 M:∀k,k<=fP kd R->l.w.heap.size<=g k/\iv.ownBlock≠Â (g k)/\qv.ownBlock≠Â (g k)
 S:∀k k',k<k'->k'<=fP kd R->g k<g k'
def aj8(w:ß)(a:Option â)(b c:Nat):(Ċ 105 #[(1,Æ a b c)]).run Ä w=.ok (Đ #[Ê ê 0,Ê Ď 0,Æ a b c]) w:=run_build w 105 _ _ fL
def aj9(w:ß)(a:Option â)(b c:Nat):(Ċ 105 #[(1,Æ a b c)]).events Ä w #[]=#[]:=by unfold Ċ;simp only[Sem.events_bind];simp[go_sem]
section
variable{J:Jd}{l:fe}{ra:Option â}{rb cr R:Nat}{sa:Option â}{sn sc:Nat}{k:List Ŝ}{kd:Nat->Int}{rq:Nat->Nat}
def akb(j:gq l)(u:¬l.q)(I:l.d=0)(K:R<1000)(L:0<R->ra=Â ⟨rb,0,Á⟩)(z:0<R->l.M rb)(N:∀i,i<R->l.w.cell? ⟨rb,i,Á⟩=Â (À<|Â ⟨rq i,0,Á⟩))(B:∀i,i<R->l.M (rq i))(O:∀i,i<R->l.w.cell? ⟨rq i,4,Á⟩=Â (Ê Î<|kd i)) (P:∀g s b c,Ip kd rq g R b c (Æ sa sn sc) l s->fi Ä Ò J s (G (f.at (y.put ((Q[i]?).bind (·.dst))<|ñ #[b,c,À<|Â ⟨g<|fP kd R,0,Á⟩])<|Ñ Q jJ::k) qX)): fi Ä Ò J l (Z7 (Æ ra R cr) (Æ sa sn sc)<|f.at y (Ñ Q (i::jJ)::k)::qX):=by
 have hF:=trivial;apply fR (n:=40) j.r;simp only[Z7];conv in Z6=>whnf
 repeat w_go fy
 refine Ë λ_ _=> ?_;refine oC (v:=Đ #[Ê ê 0,Ê Ď 0,Æ sa sn sc]) U U (by k_ne) j.r u (λa r=> ?_) (λa r e p=> ?_) ?_
 .have h:=aj8 a sa sn sc;go_simp
 .have h:=aj9 a sa sn sc;simp[go_sem,h]at p
 walk_nrm;refine pE (V:=λp=>À<|Â ⟨p,0,Á⟩) (ob:=É #[Ê ê 0,Ê Ď 0,Æ sa sn sc] 105) U U (by k_ne) j.r u (λw=>by go_simp) (λw=>by simp[go_sem]) λa C=> ?_;walk_nrm;have p:gd fh l (gF l a<|É #[Ê ê 0,Ê Ď 0,Æ sa sn sc] 105):=mL j C;have t:gA (gF l a<|É #[Ê ê 0,Ê Ď 0,Æ sa sn sc] 105) a.heap.size (É #[Ê ê 0,Ê Ď 0,Æ sa sn sc] 105):=⟨Ç U,nU⟩;have D:=C.r;generalize gF l a (É #[Ê ê 0,Ê Ď 0,Æ sa sn sc] 105)=l₁ at p t|-;generalize a.heap.size=gt at t D|-;have m:=p.N j;have S:¬l₁.q:=by rwa[p.q]
 apply fR (n:=40) m.r;repeat w_bar fy
 w_go fy
 refine Ë λ_ _=> ?_;have T:=m.fv gt<|Ã t.fg;refine SO m S (by rwa[p.d]) K L (λh=>p.M<|z h) (λi h=>(gK<|p.r rb (z Z) id).trans<|N i h) (λi h=>p.M<|B i h) (λi h=>(gK<|p.r _ (B i h) id).trans<|O i h) (λg s W b c h r=> ?_) R 0 Z (λ_=>gt) l₁ _ (Æ Á 0 0) (Æ Á 0 0) ⟨gd.fV m.r,⟨U,Ã ⟨U,U⟩⟩,⟨U,Ã ⟨U,U⟩⟩,λk e=>(by cases e),λk e=>(by cases e),λk e=>(by cases e),λk x o=> ?_,T,rfl,λk X x o=> ?_⟩ ⟨rfl,rfl,rfl,rfl,rfl,rfl,rfl⟩
 .have Y:=h.r.N m;obtain⟨y0,y1,y2,y3,E,F,y6,y7,y8,y9,yD,Az,yE,sH,ug,rD,wY,wZ,vA,vB,vC,uh,ui,uj,sC,tV,sD,qc,oU,qK,qL,qM,vm,tW,tX,sE,sF,vn,vo,vp,vq,vr,vt,vu,vv,vw,qN,qO,rfl⟩:=Mm W r.r;obtain rfl:b=E:=(show E=b by simpa using r.N).symm;obtain rfl:c=F:=(show F=c by simpa using r.S).symm;obtain rfl:y6=À (Â ⟨g<|fP kd R,0,Á⟩):=by simpa using r.Y
  obtain rfl:sH=Æ ra R cr:=by simpa using r.C
  obtain rfl:ug=Ê Î R:=by simpa using r.I
  obtain rfl:rD=Ê Î R:=by simpa using r.M
  have gE:¬((R:Int)<(R:Int)):=Z
  apply fR (n:=40) Y.r;simp only[CS];conv in Ik=>whnf
  conv in SC=>whnf
  repeat w_go fy
  u_in fy hF
  refine aj7 U U Ŵ U ⟨by u_nil,?_⟩;walk_nrm;refine Ë λ_ _=> ?_;have H:=h.S;refine P g s b c ⟨p.fj h.r,h.ko,h.mM,λk e=>⟨(h.C k e).1,Õ p.I (h.C k e).2⟩,λk e=>⟨(h.I k e).1,Õ p.I (h.I k e).2⟩,h.M,H▸t.C h.r id,λk x o=>(h.N k x o).1,λk hk=> ?_,h.Y⟩;by_cases h0:k=0
  .subst h0;rw[H];exact⟨D,λe=>by have:=(h.C _ e).2;omega,λe=>by have:=(h.I _ e).2;omega⟩
  .let⟨_,a2,a3,a4⟩:=h.N k Z hk;exact⟨Õ p.I a2,a3,a4⟩
 .have:k<=0:=o;omega
 .have:X<=0:=o;omega
end
noncomputable def Z8:Ę:=mg Tryz.f37 []
noncomputable def Fe (a b:Ï) (n:Nat) (c:List ç):Ý:=G ((base 37).at ⟨#[a,b,Ê Î n,Å,Å,Å,Å,Å,Å,Å,Å,Å,Å,Å,Å,Å,Å,Å,Å,Å,Å,Å,Å,Å,Å,Å,Å,Å,Å,Å,Å,Å,Å,Å,Å,Å,Å,Å,Å,Å,Å,Å,Å,Å,Å,Å,Å,Å,Å],[]⟩ [ö Z8]) c
def Ip.yN{kd:Nat->Int}{rq:Nat->Nat}{R:Nat}{l a b:fe}(h:Ip kd rq D R v x z l a)(k:gd fh a b):Ip kd rq D R v x z l b:= ⟨h.Y.fj k,oW h.ko λj e=>k.r j (Ã (h.r j e).1) id,oW h.mM λj e=>k.r j (Ã (h.C j e).1) id,λj e=>⟨k.O j (h.r j e).1,(h.r j e).2⟩,λj e=>⟨k.O j (h.C j e).1,(h.C j e).2⟩,h.dis,h.N.C k id,λj c d=>(h.I j c d).C k id,h.M,h.S⟩
abbrev yO(R:Nat):Ÿ:=É (madeCells (ŵ<|à ⟨#[]⟩) R) 9
structure Mq(kd:Nat->Int)(rq g:Nat->Nat)(R:Nat)(iv qv sv:Ï)(an ba bi all bw bf:Nat)(l lp l':fe):Prop where
 C:gd fh l l'
 r:Ip kd rq g R iv qv sv lp l'
 I:gA l' an (yO R)
 Y:gA l' ba (É #[Æ (Â ⟨an,0,Á⟩) R R] 25)
 b:gA l' bi (É #[iv] 85)
 gL:gA l' all (É #[Ê ê 4294967296,Ê Ď 0] 97)
 c:gA l' bw (É #[À<|Â ⟨all,0,Á⟩] 162)
 a:gA l' bf (É #[Ĉ (ù 48) #[] #[À<|Â ⟨bi,0,Á⟩,À<|Â ⟨ba,0,Á⟩]] 1)
 M:l.w.heap.size<=an/\an<ba/\ba<lp.w.heap.size
 N:∀k,k<=fP kd R->g k<bi
 o3:∀k,iv.ownBlock=Â k->k<bi
 o4:∀k,qv.ownBlock=Â k->k<bi
 S:bi<all/\all<bw/\bw<bf
section
variable{J:Jd}{l:fe}{ra:Option â}{rb cr R:Nat}{sa:Option â}{sn sc:Nat}{kd:Nat->Int}{rq:Nat->Nat}
def akc(C:gq l)(G:¬l.q)(hd:l.d=0)(hR:R<1000)(AK:0<R->ra=Â ⟨rb,0,Á⟩)(Ff:0<R->l.M rb)(Iq:∀i,i<R->l.w.cell? ⟨rb,i,Á⟩=Â (À<|Â ⟨rq i,0,Á⟩))(Lt:∀i,i<R->l.M (rq i))(Ir:∀i,i<R->l.w.cell? ⟨rq i,4,Á⟩=Â (Ê Î<|kd i)) (hJ:∀g lp l' t iv qv H y z D W bf v1,Mq kd rq g R iv qv (Æ sa sn sc) H y z D W bf l lp l'->Ig y D (g<|fP kd R) n qv t->J l' (CF (À<|Â ⟨D,0,Á⟩) v1 (À<|Â ⟨D,0,Á⟩) (ñ #[]) W bf<|Fa t::qX)): fi Ä Ò J l (Fe (Æ sa sn sc) (Æ ra R cr) n qX):=by
 have hF:True:=trivial;have Z9:Ä.info? 9=Â Ġ:=Tryz.type9;have Qq:∀w:ß,(Ŏ 25 (Ê Î (R:Int))<|Ê Î (R:Int)).run Ä w=.ok (Æ (Â ⟨w.heap.size,0,Á⟩) R R) (w.alloc<|yO R):=λw=>by have:=run_makeSlice (P:=Ä) w 25 9 Ġ (à ⟨#[]⟩) ľ Z9 U Î Î (R:Int) (R:Int) Z Z (by simp[Ġ];omega) (by simp[Ġ];omega) Z;simpa[Ġ]using this
 have hme:∀w:ß,(Ŏ 25 (Ê Î (R:Int))<|Ê Î (R:Int)).events Ä w #[]=#[]:=λw=>
  events_make (P:=Ä) w 25 9 Ġ (à ⟨#[]⟩) ľ Z9 U Î Î (R:Int) (R:Int) Z Z (by simp[Ġ];omega) Z (by simp[Ġ];omega) _
 apply fR (n:=40) C.r;simp only[Fe];conv in Z8=>whnf
 repeat w_go fy
 refine Ë λ_ _=> ?_;refine pE (V:=λp=>Æ (Â ⟨p,0,Á⟩) R R) (ob:=yO R) U U (by k_ne) C.r G (λw=>by have k:=Qq w;go_simp) (λw=>by have k:=hme w;simp[go_sem,k]) λc m=> ?_;walk_nrm;have a:=mL (X:=fh) (ob:=yO R) C m;have r:gA (gF l c<|yO R) c.heap.size (yO R):=⟨Ç U,nU⟩;have han:l.w.heap.size<=c.heap.size:=m.r;generalize gF l c (yO R)=l1 at a r|-;generalize c.heap.size=H at r han|-;clear m c;have SQ:gd fh l l1:=a;have SR:=SQ.N C;have akd:¬l1.q:=by rwa[SQ.q]
 have auc:l.w.heap.size<=l1.w.heap.size:=a.I;clear a;have lan:=SR.fv H<|Ã r.fg;refine pE (V:=λp=>À<|Â ⟨p,0,Á⟩) (ob:=É #[Æ Á 0 0] 25) U U (by k_ne) SR.r akd (λw=>by go_simp) (λw=>by simp[go_sem]) λc m=> ?_;walk_nrm;have a:=mL (X:=fh) (ob:=É #[Æ Á 0 0] 25) SR m;have f:gA (gF l1 c<|É #[Æ Á 0 0] 25) c.heap.size (É #[Æ Á 0 0] 25):=⟨Ç U,nU⟩;have a_:l1.w.heap.size<=c.heap.size:=m.r;generalize gF l1 c (É #[Æ Á 0 0] 25)=l2 at a f|-;generalize c.heap.size=y at f a_|-;clear m c;have SS:gd fh l l2:=SQ.fj a;replace r:=r.C a id;have SU:=SS.N C;have ake:¬l2.q:=by rwa[SS.q]
 have aud:l1.w.heap.size<=l2.w.heap.size:=a.I;clear a;have lba:=SU.fv y<|Ã f.fg;refine E8 (p:=y) (off:=0) (v:=Æ (Â ⟨H,0,Á⟩) R R) (u:=Æ Á 0 0) U U (by k_ne) SU.r ake f.fg (f.r U) (by simp[î,f.I]) U (λw o F=>by go_simp) (λw o F=>by simp[go_sem,á _ _ _ _ _ _ (show Ø (Æ (Â ⟨H,0,Á⟩) R R)=Ò from rfl),o,F]) ?_;have a:=HQ (X:=λb=>b=y) (p:=y) (w':=l2.w.setCell ⟨y,0,Á⟩<|Æ (Â ⟨H,0,Á⟩) R R) SU (fI.fV _ _) f.fg U kg λj E=>lF E;replace f:gA ({l2 with w:=l2.w.setCell ⟨y,0,Á⟩ (Æ (Â ⟨H,0,Á⟩) R R)}:fe) y (É #[Æ (Â ⟨H,0,Á⟩) R R] 25):=⟨f.fg,by show(l2.w.setCell ⟨y,0,Á⟩<|Æ (Â ⟨H,0,Á⟩) R R).heap[y]?=_;unfold þ;simp[í,f.I]⟩;generalize({l2 with w:=l2.w.setCell ⟨y,0,Á⟩ (Æ (Â ⟨H,0,Á⟩) R R)}:fe)=l3 at a f|-;have S:gd fh l l3:=SS.yN a λj E e=>by have:=C.fv j E;omega
 replace r:=r.C a Z;have b_:=S.N C;have akf:¬l3.q:=by rwa[S.q]
 have aue:l2.w.heap.size<=l3.w.heap.size:=a.I;clear a;apply fR (n:=20) b_.r;iterate 5 w_go fy
 u_call Ŵ fL Ĝ fy hF
 refine Ë λ_ _=> ?_;refine akb (l:=l3) (kd:=kd) (rq:=rq) (ra:=ra) (rb:=rb) (cr:=cr) (R:=R) (sa:=sa) (sn:=sn) (sc:=sc) b_ akf (by rwa[S.d]) hR AK (λh=>S.M<|Ff h) (λi k=>(gK<|S.r rb (Ff Z) id).trans<|Iq i k) (λi k=>S.M<|Lt i k) (λi k=>(gK<|S.r _ (Lt i k) id).trans<|Ir i k) λg B iv qv T=> ?_;walk_nrm;have a:=T.Y;have SV:gd fh l B:=S.fj a;replace r:=r.C a id;replace f:=f.C a id;have L:=SV.N C;have akg:¬B.q:=by rwa[SV.q]
 have auf:l3.w.heap.size<=B.w.heap.size:=a.I;clear a;have akh:gd fh B B:=gd.fV L.r;obtain⟨I,K,rfl⟩:∃I K,iv=Æ I (fP kd R) K:=by
  rcases T.ko.2 with⟨k,s⟩|⟨b,N,Q,k,_⟩
  .exact⟨Á,0,by rwa[s]⟩
  .exact⟨_,_,k⟩
 have og:∀k,k<=fP kd R->g k<B.w.heap.size:=λk hk=>by
  by_cases s:k=0
  .subst s;exact L.fv _<|Ã T.N.fg
  .exact L.fv _<|Ã (T.I k Z hk).fg
 have oi:∀k,(Æ I (fP kd R) K).ownBlock=Â k->k<B.w.heap.size:=λk e=>L.fv _<|Ã (T.r k e).1;have oq:∀k,qv.ownBlock=Â k->k<B.w.heap.size:=λk e=>L.fv _<|Ã (T.C k e).1;apply fR (n:=20) L.r;iterate 4 w_go fy
 refine Ë λ_ _=> ?_;refine pE (V:=λp=>À<|Â ⟨p,0,Á⟩) (ob:=É #[Æ Á 0 0] 85) U U (by k_ne) L.r akg (λw=>by go_simp) (λw=>by simp[go_sem]) λc m=> ?_;walk_nrm;have a:=mL (X:=fh) (ob:=É #[Æ Á 0 0] 85) L m;have s:gA (gF B c<|É #[Æ Á 0 0] 85) c.heap.size (É #[Æ Á 0 0] 85):=⟨Ç U,nU⟩;have SX:B.w.heap.size<=c.heap.size:=m.r;generalize gF B c (É #[Æ Á 0 0] 85)=l5 at a s|-;generalize c.heap.size=z at s SX|-;clear m c;have SY:gd fh l l5:=SV.fj a;have aki:gd fh B l5:=akh.fj a;replace r:=r.C a id;replace f:=f.C a id;have SZ:=SY.N C;have akj:¬l5.q:=by rwa[SY.q]
 have aug:B.w.heap.size<=l5.w.heap.size:=a.I;clear a;have lbi:=SZ.fv z<|Ã s.fg;refine E8 (p:=z) (off:=0) (v:=Æ I (fP kd R) K) (u:=Æ Á 0 0) U U (by k_ne) SZ.r akj s.fg (s.r U) (by simp[î,s.I]) U (λw o F=>by go_simp) (λw o F=>by simp[go_sem,á _ _ _ _ _ _ (show Ø (Æ I (fP kd R) K)=Ò from rfl),o,F]) ?_;have a:=HQ (X:=λb=>b=z) (p:=z) (w':=l5.w.setCell ⟨z,0,Á⟩<|Æ I (fP kd R) K) SZ (fI.fV _ _) s.fg U kg λj E=>lF E;replace s:gA ({l5 with w:=l5.w.setCell ⟨z,0,Á⟩ (Æ I (fP kd R) K)}:fe) z (É #[Æ I (fP kd R) K] 85):=⟨s.fg,by show(l5.w.setCell ⟨z,0,Á⟩<|Æ I (fP kd R) K).heap[z]?=_;unfold þ;simp[í,s.I]⟩;generalize({l5 with w:=l5.w.setCell ⟨z,0,Á⟩ (Æ I (fP kd R) K)}:fe)=l6 at a s|-;have S0:gd fh l l6:=SY.yN a λj E e=>by have:=C.fv j E;omega
 have akk:gd fh B l6:=aki.yN a λj E e=>by have:=L.fv j E;omega
 replace r:=r.C a Z;replace f:=f.C a Z;have S2:=S0.N C;have akl:¬l6.q:=by rwa[S0.q]
 have auh:l5.w.heap.size<=l6.w.heap.size:=a.I;clear a;apply fR (n:=20) S2.r;iterate 5 w_go fy
 refine Ë λ_ _=> ?_;refine pE (V:=λp=>À<|Â ⟨p,0,Á⟩) (ob:=É #[Ê ê 0,Ê Ď 0] 97) U U (by k_ne) S2.r akl (λw=>by go_simp) (λw=>by simp[go_sem]) λc m=> ?_;walk_nrm;have a:=mL (X:=fh) (ob:=É #[Ê ê 0,Ê Ď 0] 97) S2 m;have F:gA (gF l6 c<|É #[Ê ê 0,Ê Ď 0] 97) c.heap.size (É #[Ê ê 0,Ê Ď 0] 97):=⟨Ç U,nU⟩;have uk:l6.w.heap.size<=c.heap.size:=m.r;generalize gF l6 c (É #[Ê ê 0,Ê Ď 0] 97)=l7 at a F|-;generalize c.heap.size=D at F uk|-;clear m c;have S3:gd fh l l7:=S0.fj a;have akm:gd fh B l7:=akk.fj a;replace r:=r.C a id;replace f:=f.C a id;replace s:=s.C a id;have Mr:=S3.N C;have akn:¬l7.q:=by rwa[S3.q]
 have aui:l6.w.heap.size<=l7.w.heap.size:=a.I;clear a;have auj:=Mr.fv D<|Ã F.fg;apply fR (n:=20) Mr.r;iterate 4 w_go fy
 u_call Ħ fL Μ fy hF
 iterate 2 w_go fy
 refine Ë λ_ _=> ?_;refine pE (V:=λp=>À<|Â ⟨p,0,Á⟩) (ob:=É #[À<|Â ⟨D,0,Á⟩] 162) U U (by k_ne) Mr.r akn (λw=>by go_simp) (λw=>by simp[go_sem]) λc m=> ?_;walk_nrm;have a:=mL (X:=fh) (ob:=É #[À<|Â ⟨D,0,Á⟩] 162) Mr m;have N:gA (gF l7 c<|É #[À<|Â ⟨D,0,Á⟩] 162) c.heap.size (É #[À<|Â ⟨D,0,Á⟩] 162):=⟨Ç U,nU⟩;have CL:l7.w.heap.size<=c.heap.size:=m.r;generalize gF l7 c (É #[À<|Â ⟨D,0,Á⟩] 162)=l8 at a N|-;generalize c.heap.size=W at N CL|-;clear m c;have S5:gd fh l l8:=S3.fj a;have ako:gd fh B l8:=akm.fj a;replace r:=r.C a id;replace f:=f.C a id;replace s:=s.C a id;replace F:=F.C a id;have S6:=S5.N C;have akp:¬l8.q:=by rwa[S5.q]
 have auk:l7.w.heap.size<=l8.w.heap.size:=a.I;clear a;have lbw:=S6.fv W<|Ã N.fg;refine pE (V:=λp=>À<|Â ⟨p,0,Á⟩) (ob:=É #[Ĉ (ù 48) #[] #[À<|Â ⟨z,0,Á⟩,À<|Â ⟨y,0,Á⟩]] 1) U U (by k_ne) S6.r akp (λw=>by go_simp) (λw=>by simp[go_sem]) λc m=> ?_;walk_nrm;have a:=mL (X:=fh) (ob:=É #[Ĉ (ù 48) #[] #[À<|Â ⟨z,0,Á⟩,À<|Â ⟨y,0,Á⟩]] 1) S6 m;have Y:gA (gF l8 c<|É #[Ĉ (ù 48) #[] #[À<|Â ⟨z,0,Á⟩,À<|Â ⟨y,0,Á⟩]] 1) c.heap.size (É #[Ĉ (ù 48) #[] #[À<|Â ⟨z,0,Á⟩,À<|Â ⟨y,0,Á⟩]] 1):=⟨Ç U,nU⟩;have Mk:l8.w.heap.size<=c.heap.size:=m.r;generalize gF l8 c (É #[Ĉ (ù 48) #[] #[À<|Â ⟨z,0,Á⟩,À<|Â ⟨y,0,Á⟩]] 1)=l9 at a Y|-;generalize c.heap.size=bf at Y Mk|-;clear m c;have Ms:gd fh l l9:=S5.fj a;have akq:gd fh B l9:=ako.fj a;replace r:=r.C a id;replace f:=f.C a id;replace s:=s.C a id;replace F:=F.C a id;replace N:=N.C a id;have Is:=Ms.N C;have c_:¬l9.q:=by rwa[Ms.q]
 have aul:l8.w.heap.size<=l9.w.heap.size:=a.I;clear a;have lbf:=Is.fv bf<|Ã Y.fg;apply fR (n:=20) Is.r;iterate 3 w_go fy
 refine Ë λ_ _=> ?_;apply kA (x:=⟨W,0,Á⟩) U U (by k_ne) Is.r c_ (Ã<|Ã N.fg) (N.r U) (λw h=>by go_simp) (λw h=>by simp[go_sem,h]);walk_nrm;apply fR (n:=20) Is.r;u_call rB.f_add (nm_add Lk) addFn fy hF;refine Ë λ_ _=> ?_;refine ZY rB Is c_ (by rwa[Ms.d]) F.fg F.I U U λQ hC=> ?_;walk_nrm;have a:gd (λb=>b=D) l9 Q:=hC.r;replace F:gA Q D (É #[Ê ê 4294967296,Ê Ď 0] 97):=⟨hC.r.O D F.fg,hC.C⟩;have S7:gd fh l Q:=Ms.yN a λj E e=>by have:=C.fv j E;omega
 have akr:gd fh B Q:=akq.yN a λj E e=>by have:=L.fv j E;omega
 replace r:=r.C a Z;replace f:=f.C a Z;replace s:=s.C a Z;replace N:=N.C a Z;replace Y:=Y.C a Z;have aks:=S7.N C;have aum:¬Q.q:=by rwa[S7.q]
 have aun:l9.w.heap.size<=Q.w.heap.size:=a.I;clear a;apply fR (n:=20) aks.r;iterate 3 w_go fy
 refine Ë λ_ _=> ?_;refine .fD λCO yM=> ?_;have at9:∀{b:Nat} {o:Ÿ},gA Q b o->gA ({Q with w:=CO}:fe) b o:=λh=>⟨h.fg,(yM.I _<|Ã h.fg).trans h.I⟩;exact hJ g l3 {Q with w:=CO} _ (Æ I (fP kd R) K) qv H y z D W bf _ ⟨S7.G yM,T.yN<|akr.G yM,at9 r,at9 f,at9 s,at9 F,at9 N,at9 Y,⟨Z,Z,Z⟩,λk hk=>by have:=og k hk;omega,λk e=>by have:=oi k e;omega,λk e=>by have:=oq k e;omega,⟨Z,Z,Z⟩⟩ ⟨U,U,U,U,U,U⟩
end
def akt{md:ý}{listed:Array Bool}(h:Û md Q listed=[]):∀(a t:Nat),ë md Q a t listed []=[]:=by
 intro a t;cases a with
 |zero=>rfl
 |succ a=>
  simp only[ë];change(match(Û md Q listed)[t%(Û md Q listed).length]? with
   |some i=>ë md Q a (t/(Û md Q listed).length) (listed.setIfInBounds i Ò) [i]
   |none=>[].reverse)=[]
  rw[h];rfl
section
variable{J:Jd}{l:fe}
def d_{md:ý}(I:Array Bool->ŏ->fe->Prop) (p:∀b a l i k,I b a l->b.size=Q.size->i∈Û md Q b->(Û md Q (b.setIfInBounds i Ò)=[]->k=[])->fi P yQ (λg m=>(∃h,m=G (f.at h<|Ñ Q k::L) qX/\I (b.setIfInBounds i Ò) h g)\/fi P yQ J g m) l (G (f.at a<|Ñ Q (i::k)::L) qX)) (o:∀b a l,I b a l->b.size=Q.size->Û md Q b=[]->fi P yQ J l (G (f.at a<|Ñ Q []::L) qX)): ∀(c t:Nat) (b:Array Bool) (a:ŏ) (l:fe),b.size=Q.size->jz b<=c->I b a l->fi P yQ J l (G (f.at a<|Ñ Q (ë md Q c t b [])::L) qX):=by
 intro c
 induction c with
 |zero=>
  intro t b a l d q j;simpa[ë]using o b a l j d<|R3 d Z
 |succ c r=>
  intro t b a l d q j;simp only[ë];change fi P yQ J l (G (f.at a (Ñ Q (match(Û md Q b)[t%(Û md Q b).length]? with
   |some i=>ë md Q c (t/(Û md Q b).length) (b.setIfInBounds i Ò) [i]
   |none=>[].reverse)::L)) qX)
  cases n:(Û md Q b)[t%(Û md Q b).length]? with
  |none=>
   have s:Û md Q b=[]:=by
    cases u:Û md Q b with
    |nil=>rfl
    |cons x e=>
     rw[u]at n;have v:t%(x::e).length<(x::e).length:=ĵ _ fp;simp at n;simp at v;omega
   simpa using o b a l j d s
  |some i=>
   simp only[];rw[linearise_go_acc,List.reverse_singleton,List.singleton_append];have x:=ħ n;refine(p b a l i _ j d x λe=>akt e _ _).ma ?_;rintro g m (⟨h,rfl,hI'⟩|hW)
   .exact r _ _ h g (by simpa using d) (by have:=LW (mem_ready.1 x).1;omega) hI'
   .exact hW
def aku{id:Nat}(I:Array Bool->ŏ->fe->Prop)(o:kn l)(p:¬l.q) (g:∀c,fI l l.w c->I (Array.replicate Q.size Ì) y {l with w:={c with drawn:=c.drawn+1}}) (h:∀d b y l i e,I b y l->b.size=Q.size->i∈Û d Q b->(Û d Q (b.setIfInBounds i Ò)=[]->e=[])->fi P yQ (λj k=>(∃m,k=G (f.at m<|Ñ Q e::L) qX/\I (b.setIfInBounds i Ò) m j)\/fi P yQ J j k) l (G (f.at y<|Ñ Q (i::e)::L) qX)) (n:∀d b y l,I b y l->b.size=Q.size->Û d Q b=[]->fi P yQ J l (G (f.at y<|Ñ Q []::L) qX)): fi P yQ J l (G (f.at y<|ö (ä id Q Ò)::L) qX):=by
 refine .mk U λc r=>⟨_,_,_,_,stepG_region_draw,R2 (lQ o r) p,?_⟩;unfold Region.schedule;split
 .exact d_ I (h _) (n _) _ _ _ _ _ fp (by rw[EK];exact Ú _)<|g c r
 .exact d_ I (h _) (n _) _ _ _ _ _ fp (by rw[EK];exact Ú _)<|g c r
end
def CU:å:=⟨Â 15,ę<|Ù 1,100, "work.go:72",#[],Á⟩
def CV:å:=⟨Â 16,ę<|Ù 4,3, "work.go:72",#[],Á⟩
def CW:å:=⟨Â 17,ę<|Ù 1,100, "work.go:72",#[],Á⟩
def yP:å:=⟨Â 18,Ě {callee:=Ŕ .len,args:=#[Ù 17],argTypes:=#[100]},3, "work.go:72",#[⟨2,Ü⟩],Á⟩
def vF:å:=⟨Â 19,Λ .rem 3 (Ù 16) (Ù 18) 3,3, "work.go:72",#[⟨1,Ü⟩,⟨3,Ü⟩],Á⟩
def vG:å:=⟨Â 20,ő 100 (Ù 15)<|Ù 19,0, "work.go:72",#[⟨0,Ü⟩,⟨4,Ü⟩],Á⟩
def yR:å:=⟨Â 21,ć 101<|Ù 20,101, "work.go:72",#[⟨5,Ü⟩],Á⟩
def CX:å:=⟨Â 22,ć 155<|Ù 5,155, "work.go:72",#[],Á⟩
def yS:å:=⟨Á,.send (Ù 21)<|Ù 22,0, "work.go:72",#[⟨6,Ü⟩,⟨7,Ü⟩],Á⟩
def oG:Array å:=#[CU,CV,CW,yP,vF,vG,yR,CX,yS]
noncomputable def Mt:Ę:=mg Ŗ [1,1,0,0]
noncomputable def f_:Ę:=mg Ŗ [1]
noncomputable def Mv:Ę:=mg Ŗ [0,1,0,0]
noncomputable def CY (t:Array Ï) (a:List ç):Ý:=G ((base 52).at ⟨t,[]⟩ [ö Mv,ą Mv,ô 0,ö f_]) a
structure DT(dv:Ï)(qb:Option â)(q cq i:Nat)(t:Array Ï):Prop where
 r:t.size=32
 C:t[1]?=Â dv
 t8:t[8]?=Â (Æ qb q cq)
 M:t[9]?=Â (Ê Î q)
 I:t[10]?=Â (Ê Î i)
def It(t:Array Ï)(h:t.size=32):∃a b c d e f g i j k l m n o p q r s u v w x y z B C D E F G H I:Ï,t=#[a,b,c,d,e,f,g,i,j,k,l,m,n,o,p,q,r,s,u,v,w,x,y,z,B,C,D,E,F,G,H,I]:=by obtain⟨_,rfl⟩:=Aw t h;exact⟨_,_,_,_,_,_,_,_,_,_,_,_,_,_,_,_,_,_,_,_,_,_,_,_,_,_,_,_,_,_,_,_,U⟩
def vH(c n i a d:Nat)(b tk:Ï)(_:Unit):Nat->Ï
 |0=>b
 |1=>Ê Î i
 |2=>b
 |3=>Ê Î n
 |4=>Ê Î a
 |5=>À<|Â ⟨c,a,Á⟩
 |6=>é<|Â d
 |7=>tk
 |_=>Å
def Mw(a:fe)(listed:Array Bool)(_:Unit)(l:fe):Prop:=iI fh a l/\¬listed.getD 8 Ì=Ò
section
variable{J N:Jd}{p:fe}{g s:Nat}{u:Option â}
def akv(Fg:gq p)(hq:¬p.q)(ht:d.size=32)(Cp:d[1]?=Â (Æ (Â ⟨j9,0,Á⟩) n j))(HJ:d[4]?=Â (Ê Î i))(R8:d[5]?=Â (À<|Â ⟨g,0,Á⟩))(z:p.O g)(T:p.O j9)(hn:0<n)(Iu:n<1000)(hi1:i<1000) (g_:i%n=j6) (V:p.w.cell? ⟨j9,j6,Á⟩=Â (é<|Â m)) (W:p.w.cell? ⟨g,0,Á⟩=Â (À u)) (X:p.w.cell? ⟨g,1,Á⟩=Â (Ê Î s)) (Y:p.w.cell? ⟨g,2,Á⟩=Â (À<|Â ⟨j7,0,Á⟩)) (c3:p.w.cell? ⟨g,3,Á⟩=Â (À O)) (hJ:∀l H,iI fh p l->H.size=32->(∀c,c<15->H[c]?=d[c]?)->BH Ä Ò m (Đ #[À u,Ê Î s,À<|Â ⟨j7,0,Á⟩,À O]) N l (G ((base 52).at ⟨H,[]⟩<|Ñ oG [8]::L) qX)->J l (G ((base 52).at ⟨H,[]⟩<|Ñ oG [8]::L) qX)) (hN:∀l H,iI fh p l->H.size=32->(∀c,c<15->H[c]?=d[c]?)->fi Ä Ò N l (G ((base 52).at ⟨H,[]⟩<|Ñ oG []::L) qX)) (md:ý) (listed:Array Bool) (a:ŏ) (l:fe) (i':Nat) (rest:List Nat) (hI:II oG d (vH j9 n i j6 m (Æ (Â ⟨j9,0,Á⟩) n j)<|Đ #[À u,Ê Î s,À<|Â ⟨j7,0,Á⟩,À O]) (Mw p) listed a l) (iO:listed.size=oG.size) (C:i'∈Û md oG listed) (Iv:Û md oG (listed.setIfInBounds i' Ò)=[]->rest=[]): fi Ä Ò (λD F=>(∃Q,F=G ((base 52).at Q<|Ñ oG rest::L) qX/\II oG d (vH j9 n i j6 m (Æ (Â ⟨j9,0,Á⟩) n j)<|Đ #[À u,Ê Î s,À<|Â ⟨j7,0,Á⟩,À O]) (Mw p) (listed.setIfInBounds i' Ò) Q D)\/fi Ä Ò J D F) l (G ((base 52).at a<|Ñ oG (i'::rest)::L) qX):=by
 let⟨x,t,S,h8⟩:=hI;have I:rA oG d.size=Ò:=by rw[ht];decide
 have gE:=At C;have K:=S.fv;have M:¬l.q:=by rwa[S.q]
 have nT:a.tmps[1]?=Â (Æ (Â ⟨j9,0,Á⟩) n j):=(t.C A).trans Cp;have rG:a.tmps[4]?=Â (Ê Î i):=(t.C A).trans HJ;have rC:a.tmps[5]?=Â (À<|Â ⟨g,0,Á⟩):=(t.C A).trans R8;have y:∀b f v,p.O b->p.w.cell? ⟨b,f,Á⟩=Â v->gQ l ⟨b,f,Á⟩/\l.w.cell? ⟨b,f,Á⟩=Â v:=λb f v E h=>⟨Ã<|Ã<|S.O b E,by rwa[gK<|S.r b<|Ã E]⟩;have P:∀{k:Nat},k≠8->∀B,fI l l.w B->Mw p (listed.setIfInBounds k Ò) () {l with w:=B}:=λhm B r=>⟨S.N (λ_ q=>q.elim) r,by rwa[è Ì hm]⟩;have akw:j6<n:=by rw[<-g_];exact ĵ _ hn
 have akx:(j6:Int)<(n:Int):=Z
 have hn0:¬(n:Int)=0:=Z
 have aky:¬n=0:=Z
 have htm:Int.tmod (i:Int) (n:Int)=(j6:Int):=by rw[Int.tmod_eq_emod_of_nonneg Z,<-g_];simp
 have qF:Î.wrap (j6:Int)=(j6:Int):=Cu Z Z;have Mx:oG.size=9:=A
 rw[Mx]at gE;match i',gE with
 |0,_=>
  refine(iu (o:=CU) I t U U C (by k_ne) K M (λB r=> ?_) (λB r e D=> ?_)<|P A).ff λ_ _ h=>Ã h
  .simp only[vH,CU];go_simp
  .simp[go_sem,CU,nT]at D
 |1,_=>
  refine(iu (o:=CV) I t U U C (by k_ne) K M (λB r=> ?_) (λB r e D=> ?_)<|P A).ff λ_ _ h=>Ã h
  .simp only[vH,CV];go_simp
  .simp[go_sem,CV,rG]at D
 |2,_=>
  refine(iu (o:=CW) I t U U C (by k_ne) K M (λB r=> ?_) (λB r e D=> ?_)<|P A).ff λ_ _ h=>Ã h
  .simp only[vH,CW];go_simp
  .simp[go_sem,CW,nT]at D
 |3,_=>
  have F:a.tmps[17]?=Â (Æ (Â ⟨j9,0,Á⟩) n j):=t.r 2 CW 17 U (il (o:=yP) C U U) U;refine(iu (o:=yP) I t U U C (by k_ne) K M (λB r=> ?_) (λB r e D=> ?_)<|P A).ff λ_ _ h=>Ã h
  .simp only[vH,yP];go_simp
  .simp[go_sem,yP,F]at D
 |4,_=>
  have F:a.tmps[16]?=Â (Ê Î i):=t.r 1 CV 16 U (il (o:=vF) C U U) U;have Q:a.tmps[18]?=Â (Ê Î n):=t.r 3 yP 18 U (il (o:=vF) C U U) U;refine(iu (o:=vF) I t U U C (by k_ne) K M (λB r=> ?_) (λB r e D=> ?_)<|P A).ff λ_ _ h=>Ã h
  .simp only[vH,vF];go_simp
  .simp[go_sem,vF,F,Q,hn0,aky,htm,qF]at D
 |5,_=>
  have F:a.tmps[15]?=Â (Æ (Â ⟨j9,0,Á⟩) n j):=t.r 0 CU 15 U (il (o:=vG) C U U) U;have Q:a.tmps[19]?=Â (Ê Î j6):=t.r 4 vF 19 U (il (o:=vG) C U U) U;refine(iu (o:=vG) I t U U C (by k_ne) K M (λB r=> ?_) (λB r e D=> ?_)<|P A).ff λ_ _ h=>Ã h
  .simp only[vH,vG];go_simp
  .simp[go_sem,vG,F,Q,akw,akx]at D
 |6,_=>
  have Q:a.tmps[20]?=Â (À<|Â ⟨j9,j6,Á⟩):=t.r 5 vG 20 U (il (o:=yR) C U U) U;refine(iu (o:=yR) I t U U C (by k_ne) K M (λB r=> ?_) (λB r e D=> ?_)<|P A).ff λ_ _ h=>Ã h
  .have F:=((y j9 _ _ T V).1.r r).trans (y j9 _ _ T V).2;simp only[vH,yR];go_simp
  .have F:=((y j9 _ _ T V).1.r r).trans (y j9 _ _ T V).2;have hee:e=⟨û ⟨j9,j6,Á⟩,Ì,Ì⟩:=by simp[go_sem,yR,F,Q]at D;exact D
   subst hee;exact(y j9 _ _ T V).1.rd
 |7,_=>
  refine(iu (o:=CX) I t U U C (by k_ne) K M (λB r=> ?_) (λB r e D=> ?_)<|P A).ff λ_ _ h=>Ã h
  .have F:=((y g _ _ z W).1.r r).trans (y g _ _ z W).2;have Q:=((y g _ _ z X).1.r r).trans (y g _ _ z X).2;have sL:=((y g _ _ z Y).1.r r).trans (y g _ _ z Y).2;have xc:=((y g _ _ z c3).1.r r).trans (y g _ _ z c3).2;simp only[vH,CX];go_simp
  .have F:=((y g _ _ z W).1.r r).trans (y g _ _ z W).2;have Q:=((y g _ _ z X).1.r r).trans (y g _ _ z X).2;have sL:=((y g _ _ z Y).1.r r).trans (y g _ _ z Y).2;have xc:=((y g _ _ z c3).1.r r).trans (y g _ _ z c3).2;simp[go_sem,CX,rC,F,Q,sL,xc]at D;rcases D with rfl|rfl|rfl|rfl
   .exact(y g _ _ z W).1.rd
   .exact(y g _ _ z X).1.rd
   .exact(y g _ _ z Y).1.rd
   .exact(y g _ _ z c3).1.rd
 |8,_=>
  have d6:=il (j:=6) (o:=yS) C U U;have d7:=il (j:=7) (o:=yS) C U U;have So:a.tmps[21]?=Â (é<|Â m):=t.r 6 yR 21 U d6 U;have Hs:a.tmps[22]?=Â (Đ #[À u,Ê Î s,À<|Â ⟨j7,0,Á⟩,À O]):=t.r 7 CX 22 U d7 U;have d5:=t.I (j:=5) (o:=yR) U d6 U;have d0:=t.I (j:=0) (o:=vG) U d5 U;have d4:=t.I (j:=4) (o:=vG) U d5 U;have d1:=t.I (j:=1) (o:=vF) U d4 U;have d3:=t.I (j:=3) (o:=vF) U d4 U;have d2:=t.I (j:=2) (o:=yP) U d3 U;have uk:Û md oG (listed.setIfInBounds 8 Ò)=[]:=by
   rw[List.eq_nil_iff_forall_not_mem];intro f hj;have AL:=At hj;have F:=R5 hj;rw[Mx]at AL;by_cases Q:f=8
   .subst Q;have D:8<listed.size:=by rw[iO,Mx];decide
    simp[D]at F
   .rw[è Ò<|Ne.symm Q]at F;have D:=yB F;match f,AL,Q with
    |0,_,_=>exact D d0
    |1,_,_=>exact D d1
    |2,_,_=>exact D d2
    |3,_,_=>exact D d3
    |4,_,_=>exact D d4
    |5,_,_=>exact D d5
    |6,_,_=>exact D d6
    |7,_,_=>exact D d7
    |8,_,h=>exact h U
  obtain rfl:=Iv uk;let⟨F,ds⟩:=a;obtain rfl:ds=[]:=t.M;have CZ:F.size=32:=t.b.trans ht;have h_:∀c,c<15->F[c]?=d[c]?:=λc hd=>t.c c λf o E _ e=>by
   have AL:=(æ.1 E).1;rw[Mx]at AL;match f,AL with
   |0,_=>
    have D:o=CU:=(Ó<|show Â CU=Â o from E).symm;rw[D]at e;have Q:15=c:=Ó (show Â 15=Â c from e);omega
   |1,_=>
    have D:o=CV:=(Ó<|show Â CV=Â o from E).symm;rw[D]at e;have Q:16=c:=Ó (show Â 16=Â c from e);omega
   |2,_=>
    have D:o=CW:=(Ó<|show Â CW=Â o from E).symm;rw[D]at e;have Q:17=c:=Ó (show Â 17=Â c from e);omega
   |3,_=>
    have D:o=yP:=(Ó<|show Â yP=Â o from E).symm;rw[D]at e;have Q:18=c:=Ó (show Â 18=Â c from e);omega
   |4,_=>
    have D:o=vF:=(Ó<|show Â vF=Â o from E).symm;rw[D]at e;have Q:19=c:=Ó (show Â 19=Â c from e);omega
   |5,_=>
    have D:o=vG:=(Ó<|show Â vG=Â o from E).symm;rw[D]at e;have Q:20=c:=Ó (show Â 20=Â c from e);omega
   |6,_=>
    have D:o=yR:=(Ó<|show Â yR=Â o from E).symm;rw[D]at e;have Q:21=c:=Ó (show Â 21=Â c from e);omega
   |7,_=>
    have D:o=CX:=(Ó<|show Â CX=Â o from E).symm;rw[D]at e;have Q:22=c:=Ó (show Â 22=Â c from e);omega
   |8,_=>
    have D:o=yS:=(Ó<|show Â yS=Â o from E).symm;rw[D]at e;cases(show Á=Â c from e)
  refine .fD λB r=>Ç (.fD λBE D=> ?_);have Q:iI fh p ({l with w:=BE}:fe):=S.N (λ_ q=>q.elim)<|r.fj ⟨D.r,D.I,D.N,D.Y,D.S⟩;refine hJ _ F Q CZ h_ ⟨U,U,λD=>⟨ñ #[],?_⟩,?_⟩
  .refine(Ż (cases:=#[scase m (Đ #[À u,Ê Î s,À<|Â ⟨j7,0,Á⟩,À O])<|ñ #[]]) (blocking:=Ò) (shape:=.send) (w':=D) (o:=yS) rfl rfl (by k_ne) ?_).trans ?_
   .simp[go_sem,yS,ĉ,scase,ĥ,So,Hs]
   .have:ŗ Ä (base 52).fn ⟨F,[]⟩ yS D=#[]:=by
     unfold ŗ;simp[go_sem,yS,ĉ,ĥ,So,Hs,Ī]
    rw[this]
  .have e:({G ((base 52).at ⟨F,[]⟩<|Ñ oG [8]::L) qX with frame:=(G ((base 52).at ⟨F,[]⟩<|Ñ oG [8]::L) qX).frame.finish Å}:Ý)=G ((base 52).at ⟨F,[]⟩<|Ñ oG []::L) qX:=by
    have:(G ((base 52).at ⟨F,[]⟩<|Ñ oG [8]::L) qX).frame.finish Å=(base 52).at (Ο ⟨F,[]⟩ Á Å) (Ñ oG []::L):=Ģ _ _ _ _ _ _ _;rw[this];rfl
   rw[e];exact hN _ F Q CZ h_
 |n+9,h=>exact absurd h Z
end
section
variable{N:Jd}{l:fe}{f:Option â}
theorem akz(s:gq l)(K:¬l.q)(G:DT (Æ (Â ⟨J,0,Á⟩) n j) (Â ⟨j6,0,Á⟩) b m i d)(hiq:i<b)(yI:b<1000)(hn:0<n)(Iu:n<1000)(h':l.O J)(cd:l.w.cell? ⟨J,i%n,Á⟩=Â (é<|Â k))(S8:l.M j6) (i0:l.w.cell? ⟨j6,i*4,Á⟩=Â (À f)) (i1:l.w.cell? ⟨j6,i*4+1,Á⟩=Â (Ê Î j7)) (i2:l.w.cell? ⟨j6,i*4+2,Á⟩=Â (À<|Â ⟨j9,0,Á⟩)) (i3:l.w.cell? ⟨j6,i*4+3,Á⟩=Â (À O)) (hN:∀t H,iI fh l t->DT (Æ (Â ⟨J,0,Á⟩) n j) (Â ⟨j6,0,Á⟩) b m (i+1) H->fi Ä Ò N t (CY H qX)): fi Ä Ò (BH Ä Ò k (Đ #[À f,Ê Î j7,À<|Â ⟨j9,0,Á⟩,À O]) N) l (CY d qX):=by
 obtain⟨y0,y1,y2,y3,y4,y5,y6,y7,y8,y9,yD,Az,yE,sH,ug,rD,wY,wZ,vA,vB,vC,uh,ui,uj,sC,tV,sD,qc,oU,qK,qL,qM,rfl⟩:=It d G.r;obtain rfl:y1=Æ (Â ⟨J,0,Á⟩) n j:=by simpa using G.C
 obtain rfl:y8=Æ (Â ⟨j6,0,Á⟩) b m:=by simpa using G.t8
 obtain rfl:y9=Ê Î b:=by simpa using G.M
 obtain rfl:yD=Ê Î i:=by simpa using G.I
 have sI:∀y:â,False->l.r y:=λy ha=>ha.elim;have auo:(i:Int)<(b:Int):=Z
 have hF:True:=trivial;simp only[CY];conv in Mv=>whnf
 apply fR (n:=30) s.r;repeat w_go fy
 refine Ë λ_ _=> ?_;have g:∀c,gQ l ⟨j6,c,Á⟩:=λc=>Ã S8;refine oC (v:=Đ #[À f,Ê Î j7,À<|Â ⟨j9,0,Á⟩,À O]) U U (by k_ne) s.r K (λo r=> ?_) (λo r e h=> ?_) ?_
 .have u:=((g<|i*4).r r).trans i0;have z:=((g<|i*4+1).r r).trans i1;have B:=((g<|i*4+2).r r).trans i2;have C:=((g<|i*4+3).r r).trans i3;go_simp
 .have u:=((g<|i*4).r r).trans i0;have z:=((g<|i*4+1).r r).trans i1;have B:=((g<|i*4+2).r r).trans i2;have C:=((g<|i*4+3).r r).trans i3;simp[go_sem,u,z,B,C]at h;rcases h with rfl|rfl|rfl|rfl
  .exact(g _).rd
  .exact(g _).rd
  .exact(g _).rd
  .exact(g _).rd
 walk_nrm;refine Cs (ob:=É #[À Á,Ê Î 0,À Á,À Á] 155) U U (by k_ne) s.r K (λw=>by go_simp) (λw=>by simp[go_sem]) λo X=> ?_;walk_nrm;have D:iI fh l (gF l o<|É #[À Á,Ê Î 0,À Á,À Á] 155):=L0 s sI X;have L:(gF l o<|É #[À Á,Ê Î 0,À Á,À Á] 155).w.heap[o.heap.size]?=Â (É #[À Á,Ê Î 0,À Á,À Á] 155):=nU;have qP:l.w.heap.size<=o.heap.size:=X.r;have q:(gF l o<|É #[À Á,Ê Î 0,À Á,À Á] 155).O o.heap.size:=Ç U;generalize gF l o (É #[À Á,Ê Î 0,À Á,À Á] 155)=l₁ at D L q|-;generalize o.heap.size=tb at L q qP|-;apply fR (n:=3) D.fv;w_go fy;refine Ë λ_ _=> ?_;refine tY U U (by k_ne) λr P=> ?_;have E:r.heap[tb]?=_:=(P.I tb<|Ã q).trans L;have u:r.cell? ⟨tb,0,Á⟩=Â (À Á):=by simp[Ö,E]
 have z:r.cell? ⟨tb,1,Á⟩=Â (Ê Î 0):=by simp[Ö,E]
 have B:r.cell? ⟨tb,2,Á⟩=Â (À Á):=by simp[Ö,E]
 have C:r.cell? ⟨tb,3,Á⟩=Â (À Á):=by simp[Ö,E]
 have hz:∀c,r.frozen? ⟨tb,c,Á⟩=Ì:=λc=>by simp[î,E]
 go_simp;refine⟨{l₁ with w:=iK r tb (À f) (Ê Î j7) (À<|Â ⟨j9,0,Á⟩) (À O)},EZ (p:=tb) (lQ D.fv P) (by rwa[D.q]) q wW (λc x=>yC x) ⟨U,U,U⟩ λe h=> ?_,?_⟩
 .have a:=đ h;have e:∀c,pD l₁ ⟨tb,c,Á⟩:=λc=>Ã q;simp[go_sem,á _ _ _ _ _ _ (show Ø (À f)=Ò from rfl),á _ _ _ _ _ _ (show Ø (À<|Â ⟨j9,0,Á⟩)=Ò from rfl),á _ _ _ _ _ _ (show Ø (À O)=Ò from rfl),u,z,B,C,hz]at a;rcases a with rfl|rfl|rfl|rfl
  .exact(e _).r
  .exact(e _).r
  .exact(e _).r
  .exact(e _).r
 let⟨Q,S,T,V⟩:=Se (v0:=À f) (v1:=Ê Î j7) (v2:=À<|Â ⟨j9,0,Á⟩) (v3:=À O) u z B C;have F:=Sf (w':=iK r tb (À f) (Ê Î j7) (À<|Â ⟨j9,0,Á⟩)<|À O) s sI D P qP wW λc x=>yC x;have xa:({l₁ with w:=iK r tb (À f) (Ê Î j7) (À<|Â ⟨j9,0,Á⟩) (À O)}:fe).O tb:=q;replace Q:({l₁ with w:=iK r tb (À f) (Ê Î j7) (À<|Â ⟨j9,0,Á⟩) (À O)}:fe).w.cell? ⟨tb,0,Á⟩=_:=Q;replace S:({l₁ with w:=iK r tb (À f) (Ê Î j7) (À<|Â ⟨j9,0,Á⟩) (À O)}:fe).w.cell? ⟨tb,1,Á⟩=_:=S;replace T:({l₁ with w:=iK r tb (À f) (Ê Î j7) (À<|Â ⟨j9,0,Á⟩) (À O)}:fe).w.cell? ⟨tb,2,Á⟩=_:=T;replace V:({l₁ with w:=iK r tb (À f) (Ê Î j7) (À<|Â ⟨j9,0,Á⟩) (À O)}:fe).w.cell? ⟨tb,3,Á⟩=_:=V;generalize({l₁ with w:=iK r tb (À f) (Ê Î j7) (À<|Â ⟨j9,0,Á⟩) (À O)}:fe)=l₂ at Q S T V F xa|-;clear L q D E u z B C hz P r l₁ X o;have W:=F.G s;have oV:¬l₂.q:=by rwa[F.q]
 have cd2:l₂.w.cell? ⟨J,i%n,Á⟩=Â (é<|Â k):=(gK<|F.r J<|Ã h').trans cd;apply fR (n:=5) W.r;w_go fy;refine Ë λ_ _=> ?_;refine aku (II oG #[y0,Æ (Â ⟨J,0,Á⟩) n j,y2,y3,Ê Î i,À<|Â ⟨tb,0,Á⟩,y6,y7,Æ (Â ⟨j6,0,Á⟩) b m,Ê Î b,Ê Î i,Ş Ò,Ê Î i,À<|Â ⟨j6,i*4,Á⟩,Đ #[À f,Ê Î j7,À<|Â ⟨j9,0,Á⟩,À O],rD,wY,wZ,vA,vB,vC,uh,ui,uj,sC,tV,sD,qc,oU,qK,qL,qM] (vH J n i (i%n) k (Æ (Â ⟨J,0,Á⟩) n j)<|Đ #[À f,Ê Î j7,À<|Â ⟨j9,0,Á⟩,À O])<|Mw l₂) W.r oV (λa x=> ?_) (λY listed a t i' rest hI I e Iv=>akv (J:=BH Ä Ò k (Đ #[À f,Ê Î j7,À<|Â ⟨j9,0,Á⟩,À O]) N) (N:=N) W oV U U U U xa (F.O J h') hn Iu Z U cd2 Q S T V (λl H _ _ _ h=>h) (λt H hA hs h=> ?_) Y listed a t i' rest hI I e Iv) λY listed a kF hI I AA=> ?_
 .exact⟨(),lR.Y _ _ _,(iI.fV W.r).N (λ_ b=>b.elim) ⟨x.r,x.I,x.N,x.Y,x.S⟩,A⟩
 .have x:=F.fj hA;have a:=(h 1 A).trans (show _=Â (Æ (Â ⟨J,0,Á⟩) n j)from U);have o8:=(h 8 A).trans (show _=Â (Æ (Â ⟨j6,0,Á⟩) b m)from U);have o9:=(h 9 A).trans (show _=Â (Ê Î b)from U);have o10:=(h 10 A).trans (show _=Â (Ê Î i)from U);clear h;obtain⟨x0,x1,x2,x3,x4,x5,x6,x7,x8,x9,Zz,x11,x12,x13,x14,x15,x16,x17,x18,x19,x20,x21,x22,x23,x24,x25,x26,x27,x28,x29,x30,x31,rfl⟩:=It H hs;obtain rfl:x1=Æ (Â ⟨J,0,Á⟩) n j:=by simpa using a
  obtain rfl:x8=Æ (Â ⟨j6,0,Á⟩) b m:=by simpa using o8
  obtain rfl:x9=Ê Î b:=by simpa using o9
  obtain rfl:Zz=Ê Î i:=by simpa using o10
  apply fR (n:=9) x.fv;iterate 7 w_go fy
  refine Ë λ_ _=> ?_;refine hN t _ x ⟨U,U,U,U,?_⟩;simp;grind [Cu]
 .let⟨x,a,h,h8⟩:=hI;have uk:∀i∈ã 9,listed.getD i Ì=Ò:=by
   cases Y
   .exact qe AA I (ã 9) [] fL λi e=>by cases e
   .exact qe AA I (ã 9) [] fL λi e=>by cases e
   .exact qe AA I (ã 9) [] fL λi e=>by cases e
  grind
end
noncomputable def C0 (t:Array Ï) (a:List ç):Ý:=G ((base 52).at ⟨t,[]⟩ [ö Mt,ą Mt,ô 2]) a
structure ET(dv:Ï)(n j:Nat)(t:Array Ï):Prop where
 r:t.size=32
 akA:t[24]?=Â dv
 C:t[25]?=Â (Ê Î n)
 I:t[26]?=Â (Ê Î j)
def Iw(t:Array Ï):ç:=(base 37).at ⟨t,[]⟩ [Ñ Ma [2],ö<|(ä 13 Mb Ì).seq Mc]
def Fh(t:Array Ï)(a:List ç):Ý:=G ((base 37).at ⟨t,[]⟩ [Ñ Mb [],ö Mc]) a
structure SE(ba all oE:Nat)(t:Array Ï):Prop where
 r:t.size=49
 I:t[8]?=Â (À<|Â ⟨ba,0,Á⟩)
 C:t[11]?=Â (À<|Â ⟨oE,0,Á⟩)
 Sw:t[12]?=Â (À<|Â ⟨all,0,Á⟩)
section
variable{J a N:Jd}{l:fe}{t:Array Ï}{ba all oE:Nat}{dv:Ï}
def akB(e:kn l)(a:ST ba all oE n n (Æ O k j9) dv t)(f:∀b d,DT dv O k j9 0 b->SE ba all oE d->fi Ä Ò J l (CY b<|Iw d::qX)):fi Ä Ò J l (CC t qX):=by
 obtain⟨p,q,r,s,u,v,w,x,g,y,h,i,j,c,z,B,C,D,E,F,G,H,I,K,L,M,N,m,o,P,Q,S,T,V,W,X,Y,vn,vo,vp,vq,vr,vt,vu,vv,vw,qN,qO,yz,rfl⟩:=Ih t a.r;obtain rfl:g=À (Â ⟨ba,0,Á⟩):=by simpa using a.a
 obtain rfl:h=Æ O k j9:=by simpa using a.C
 obtain rfl:i=À (Â ⟨oE,0,Á⟩):=by simpa using a.I
 obtain rfl:j=À (Â ⟨all,0,Á⟩):=by simpa using a.M
 obtain rfl:dv=c:=(show c=dv by simpa using a.N).symm;obtain rfl:m=Ê Î n:=by simpa using a.S
 obtain rfl:o=Ê Î n:=by simpa using a.Y
 have hF:True:=trivial;apply fR (n:=40) e;simp only[CC,E9,Ss];iterate 7 w_go fy
 simp only[Md,Ma];iterate 4 w_go fy
 u_call Ŷ fL Ŗ fy hF
 iterate 9 w_go fy
 refine Ë λ_ _=> ?_;exact f _ _ ⟨U,U,U,U,U⟩ ⟨U,U,U,U⟩
def akC(d:kn l)(a:DT (Æ (Â ⟨j7,0,Á⟩) n b) O k j9 k t)(e:∀c,ET (Æ (Â ⟨j7,0,Á⟩) n b) n 0 c->fi Ä Ò J l (C0 c qX)):fi Ä Ò J l (CY t qX):=by
 obtain⟨i,f,j,m,o,p,q,r,s,g,h,u,v,w,x,y,z,B,C,D,E,F,G,H,I,K,L,M,N,P,Q,S,rfl⟩:=It t a.r;obtain rfl:f=Æ (Â ⟨j7,0,Á⟩) n b:=by simpa using a.C
 obtain rfl:g=Ê Î k:=by simpa using a.M
 obtain rfl:h=Ê Î k:=by simpa using a.I
 have hF:True:=trivial;apply fR (n:=40) d;simp only[CY];conv in Mv=>whnf
 iterate 7 w_go fy
 conv in f_=>whnf
 iterate 8 w_go fy
 refine Ë λ_ _=> ?_;exact e _ ⟨U,U,U,U⟩
def akD(a:gq l)(g:¬l.q)(c:ET (Æ (Â ⟨j7,0,Á⟩) n b) n j t)(z:j<n)(B:n<1000)(i:l.O j7)(o:l.w.cell? ⟨j7,j,Á⟩=Â (é<|Â m)) (p:∀d e,iI fh l d->ET (Æ (Â ⟨j7,0,Á⟩) n b) n (j+1) e->fi Ä Ò N d (C0 e qX)):fi Ä Ò (K1 Ä Ò m N) l (C0 t qX):=by
 obtain⟨C,D,F,G,H,I,J,K,L,M,P,Q,S,T,V,W,X,Y,vA,vB,vC,uh,ui,uj,q,u,v,qc,oU,qK,qL,qM,rfl⟩:=It t c.r;obtain rfl:q=Æ (Â ⟨j7,0,Á⟩) n b:=by simpa using c.akA
 obtain rfl:u=Ê Î n:=by simpa using c.C
 obtain rfl:v=Ê Î j:=by simpa using c.I
 have hF:True:=trivial;apply fR (n:=40) a.r;simp only[C0];conv in Mt=>whnf
 repeat w_go fy
 refine Ë λ_ _=> ?_;apply kA (x:=⟨j7,j,Á⟩) U U (by k_ne) a.r g (Ã<|Ã i) o (λw h=>by go_simp) (λw h=>by simp[go_sem,h]);walk_nrm;apply fR (n:=40) a.r;iterate 4 w_go fy
 refine Ë λ_ _=> ?_;refine .fD λw₁ y=>⟨U,U,_,U,λBE cap buf s r tm h=>(stepG_close U U (by k_ne) U U h fL).trans U,?_⟩;walk_nrm;have f:=(iI.fV (E:=fh) a.r).N (λ_ k=>k.elim) y;apply fR (n:=20) f.fv;iterate 7 w_go fy
 refine Ë λ_ _=> ?_;refine p _ _ f ⟨U,U,U,?_⟩;simp;exact Cu Z Z
def akE(e:gq l)(g:l.d=0)(p:60<=i)(f:ET dv n n t)(c:SE ba all oE d)(j:l.K ⟨all,0,Á⟩/\l.K ⟨all,1,Á⟩)(q:nQ all l.w) (r:∀m o,iI fh l m->SE ba all oE o->a m (Fh o qX)):fi Ä Ò (rv Ä Ò i all a .jc) l (C0 t<|Iw d::qX):=by
 obtain⟨G,H,I,J,L,M,N,P,Q,S,T,V,W,X,Y,rD,wY,wZ,vA,vB,vC,uh,ui,uj,sC,s,u,qc,oU,qK,qL,qM,rfl⟩:=It t f.r;obtain rfl:s=Ê Î n:=by simpa using f.C
 obtain rfl:u=Ê Î n:=by simpa using f.I
 have hF:True:=trivial;apply fR (n:=40) e.r;simp only[C0,Iw,Ma];conv in Mt=>whnf
 iterate 8 w_go fy
 obtain⟨z0,z1,z2,z3,z4,z5,z6,z7,v,z9,i_,x,y,z13,z14,z15,z16,z17,z18,z19,z20,z21,z22,z23,z24,z25,z26,z27,z28,z29,z30,z31,z32,z33,z34,z35,z36,z37,z38,z39,z40,z41,z42,z43,z44,z45,z46,z47,z48,rfl⟩:=Ih d c.r;obtain rfl:v=À (Â ⟨ba,0,Á⟩):=by simpa using c.I
 obtain rfl:x=À (Â ⟨oE,0,Á⟩):=by simpa using c.C
 obtain rfl:y=À (Â ⟨all,0,Á⟩):=by simpa using c.Sw
 u_leave0 Ŷ fy hF
 simp only[Mb];iterate 3 w_go fy
 u_call rB.f_wait (nm_wait Lk) waitFn fy hF
 refine Ë λ_ _=> ?_;refine Zj rB p (⟨Ã j.1,Ã j.2,λw z b B C D F h=>h.fj ⟨b,B,C,D,F⟩⟩) ⟨e.r,q,fI.fV _ _⟩ g λz B=> ?_;walk_nrm;refine .fD λC b=> ?_;have h:=(iI.fV (E:=fh) e.r).N (λ_ k=>k.elim)<|B.2.2.fj ⟨b.r,b.I,b.N,b.Y,b.S⟩;exact r {l with d:=0,w:=C} _ ⟨h.O,h.h,h.Y,h.I,h.c,h.K,h.q,g.symm,h.fv,h.f,h.r,h.e,h.S,h.b,h.g⟩ ⟨U,U,U,U⟩
end
def xh(a:Nat)(b c:Ï)(_:Unit):Nat->Ï
 |0=>b
 |1=>À<|Â ⟨a,0,Á⟩
 |2=>À<|Â ⟨a,0,Á⟩
 |3=>À<|Â ⟨a,2,Á⟩
 |4=>c
 |5=>b
 |_=>c
def My(a:fe)(_:Array Bool)(_:Unit)(l:fe):Prop:=gd fh a l
section
variable{J:Jd}{g:fe}{h:Option â}
def akF(K:¬g.q)(N:q.size=49)(P:q[8]?=Â (À<|Â ⟨m,0,Á⟩))(Q:q[11]?=Â (À<|Â ⟨j9,0,Á⟩))(E:g.M m)(F:gQ g ⟨j9,2,Á⟩)(S:g.w.cell? ⟨m,0,Á⟩=Â (Æ O b n))(T:g.w.cell? ⟨j9,2,Á⟩=Â (Æ h j6 j7)) (md:ý) (listed:Array Bool) (y:ŏ) (l:fe) (i:Nat) (jJ:List Nat) (V:II yH q (xh j9 (Æ O b n)<|Æ h j6 j7) (My g) listed y l) (k:i∈Û md yH listed): fi Ä Ò (λc d=>∃a,d=G ((base 37).at a<|Ñ yH jJ::L) qX/\II yH q (xh j9 (Æ O b n)<|Æ h j6 j7) (My g) (listed.setIfInBounds i Ò) a c) l (G ((base 37).at y<|Ñ yH (i::jJ)::L) qX):=by
 let⟨x,j,p⟩:=V;have s:rA yH q.size=Ò:=by rw[N];decide
 have H:=At k;have t:=p.fv;have u:¬l.q:=by rwa[show l.q=g.q from p.q]
 have W:=(j.C A).trans P;have X:=(j.C A).trans Q;have B:gQ l ⟨m,0,Á⟩:=Ã<|p.M E;have D:gQ l ⟨j9,2,Á⟩:=F.imp (λa=>p.M a) λa=>by rwa[p.C]
 have I:=(gK<|p.r m E id).trans S;have J:l.w.cell? ⟨j9,2,Á⟩=Â (Æ h j6 j7):=by
  refine Ŀ ?_ T;rcases F with a|a
  .exact gK<|p.r _ a id
  .exact p.f _ a
 have v:∀{c:Nat},∀d,fI l l.w d->My g (listed.setIfInBounds c Ò) () {l with w:=d}:=λd r=>p.G r;have Y:yH.size=7:=A
 rw[Y]at H;match i,H with
 |0,_=>
  refine iu (o:=H0) s j U U k (by k_ne) t u (λd r=> ?_) (λd r e f=> ?_) v
  .have z:=(B.r r).trans I;simp only[xh,H0];go_simp
  .have z:=(B.r r).trans I;simp[go_sem,H0,W,z]at f;subst f;exact B.rd
 |4,_=>
  have h47:y.tmps[47]?=Â (À<|Â ⟨j9,2,Á⟩):=j.r 3 H8 47 U (il k U U) U;refine iu (o:=H9) s j U U k (by k_ne) t u (λd r=> ?_) (λd r e f=> ?_) v
  .have z:=(D.r r).trans J;simp only[xh,H9];go_simp
  .have z:=(D.r r).trans J;simp[go_sem,H9,h47,z]at f;subst f;exact D.rd
 |1,_=>
  refine iu (o:=H4) s j U U k (by k_ne) t u (λd r=> ?_) (λd r e f=> ?_) v
  .simp only[xh,H4];go_simp
  .simp[go_sem,H4,X]at f
 |2,_=>
  have z:y.tmps[45]?=Â (À<|Â ⟨j9,0,Á⟩):=j.r 1 H4 45 U (il k U U) U;refine iu (o:=H7) s j U U k (by k_ne) t u (λd r=> ?_) (λd r e f=> ?_) v
  .simp only[xh,H7];go_simp
  .simp[go_sem,H7,z]at f
 |3,_=>
  have z:y.tmps[46]?=Â (À<|Â ⟨j9,0,Á⟩):=j.r 2 H7 46 U (il k U U) U;refine iu (o:=H8) s j U U k (by k_ne) t u (λd r=> ?_) (λd r e f=> ?_) v
  .simp only[xh,H8];go_simp
  .simp[go_sem,H8,z]at f
 |5,_=>
  have z:y.tmps[44]?=Â (Æ O b n):=j.r 0 H0 44 U (il k U U) U;refine iu (o:=Ia) s j U U k (by k_ne) t u (λd r=> ?_) (λd r e f=> ?_) v
  .simp only[xh,Ia];go_simp
  .simp[go_sem,Ia,z]at f
 |6,_=>
  have z:y.tmps[48]?=Â (Æ h j6 j7):=j.r 4 H9 48 U (il k U U) U;refine iu (o:=Ib) s j U U k (by k_ne) t u (λd r=> ?_) (λd r e f=> ?_) v
  .simp only[xh,Ib];go_simp
  .simp[go_sem,Ib,z]at f
def akG(c:gq g)(t:¬g.q)(e:SE m j j9 d)(B:g.M m)(C:gQ g ⟨j9,2,Á⟩)(D:g.w.cell? ⟨m,0,Á⟩=Â (Æ O b n))(E:g.w.cell? ⟨j9,2,Á⟩=Â (Æ h j6 j7)) (F:∀u,gd fh g u->fi Ä Ò J u (G (f.at (y.put ((Q[i]?).bind (·.dst))<|ñ #[Æ O b n,Æ h j6 j7])<|Ñ Q jJ::L) qX)): fi Ä Ò J g (Fh d<|f.at y (Ñ Q (i::jJ)::L)::qX):=by
 have hF:=trivial;apply fR (n:=9) c.r;simp only[Fh,Mc];iterate 2 w_go fy
 refine Ë λ_ _=> ?_;refine LX (II yH d (xh j9 (Æ O b n)<|Æ h j6 j7)<|My g) c.r t (λl a=>⟨(),lR.Y _ _ _,(gd.fV c.r).G ⟨a.r,a.I,a.N,a.Y,a.S⟩⟩) (λk o y l i jJ p a=>akF t e.r e.I e.C B C D E k o y l i jJ p a) λk o H I p r s=> ?_;let⟨x,l,K⟩:=p;have v:∀i∈ã 7,o.getD i Ì=Ò:=by
  cases k
  .exact qe s r (ã 7) [] fL λi a=>by cases a
  .exact λi a=>qe s r [0,5,1,2,3,4,6] [] fL (λi a=>by cases a) i (by have:=Ē.1 a;revert i;decide)
  .exact qe s r (ã 7) [] fL λi a=>by cases a
 let⟨a,N⟩:=H;obtain rfl:N=[]:=l.M;have P:a[6]?=Â (Æ O b n):=l.r 5 Ia 6 U (v 5 A) U;have S:a[7]?=Â (Æ h j6 j7):=l.r 6 Ib 7 U (v 6 A) U;have X:=l.b.trans e.r;have z:=K;have T:=z.N c;have V:a.getD 6 Å=Æ O b n:=by simp[ď,P]
 have W:a.getD 7 Å=Æ h j6 j7:=by simp[ď,S]
 apply fR (n:=9) T.r;iterate 2 w_go fy
 u_in fy hF
 refine goes_leave2 U U Tryz.func37 U ⟨by u_nil,?_⟩;rw[V,W];refine Ë λ_ _=>F I z
end
structure SD where
 L:Nat
 g:Nat
 n:Nat
 m:Nat
 q:Nat
 N:Nat
 I:Nat
 C:Nat->Nat
 M:Nat
 S:Nat
 s:Nat
 u:Option â
 t:Nat
 l:Option â
 k:Nat
 o:Nat->Option â
 a:Nat->Nat
 i:Nat->Option â
 c:Nat->Nat
 b:Nat->Nat
 f:List ç
 d:Nat->Prop
 RC:ß->Prop
 p:ß->Prop
 γ:Type
 w:γ
 v:Nat->Prop
 h:Nat->γ->γ->Prop
 RD:γ->Ï->(Nat->Prop)->ß->Prop
 e:Nat->ByteArray
 j:Nat->ByteArray
def SD.Y(D:SD):Fx:=⟨D.L,D.m,D.I,D.C⟩
def SD.akH(D:SD)(i:Nat):Ï:=Đ #[À<|D.i i,Ê Î<|D.c i,À<|Â ⟨D.C<|D.b i,0,Á⟩,À Á]
structure lU(D:SD)(S:Nat->Prop)(l:fe):Prop where
 C:∀b,D.Y.M b->l.K ⟨b,0,Á⟩/\l.K ⟨b,1,Á⟩
 I:∀b,D.Y.M b->nQ b l.w
 Y:S D.S
 c:l.w.cell? ⟨D.S,0,Á⟩=Â (Æ (Â ⟨D.M,0,Á⟩) D.N D.N)
 e:S D.s
 f:l.w.cell? ⟨D.s,0,Á⟩=Â (Æ D.u D.m D.t)
 g:∀k,k<D.m->∃b,D.u=Â ⟨b,0,Á⟩/\S b/\l.w.cell? ⟨b,k*4,Á⟩=Â (À<|D.o<|k+1)/\l.w.cell? ⟨b,k*4+1,Á⟩=Â (Ê Î<|D.a<|k+1)/\l.w.cell? ⟨b,k*4+2,Á⟩=Â (À<|Â ⟨D.C k,0,Á⟩)/\l.w.cell? ⟨b,k*4+3,Á⟩=Â (À<|Â ⟨D.C<|k+1,0,Á⟩)
 h:∀i,i<D.q->∃b,D.l=Â ⟨b,0,Á⟩/\S b/\l.w.cell? ⟨b,i*4,Á⟩=Â (À<|D.i i)/\l.w.cell? ⟨b,i*4+1,Á⟩=Â (Ê Î<|D.c i)/\l.w.cell? ⟨b,i*4+2,Á⟩=Â (À<|Â ⟨D.C<|D.b i,0,Á⟩)/\l.w.cell? ⟨b,i*4+3,Á⟩=Â (À Á)
 r:∀a,l.r a->(l.w.cell? a).isSome=Ò/\l.w.frozen? a=Ì
 M:∀b,D.d b->S b
 d:D.RC l.w
structure SD.Ok(D:SD):Prop where
 r:∀w w',D.RC w->(∀b,D.d b->w'.heap[b]?=w.heap[b]?)->D.RC w'
 ioS:∀w w',D.p w->(w'.os=w.os/\w'.output=w.output)->D.p w'
 yT:∀s sl V w w',D.RD s sl V w->(∀b,V b->w'.heap[b]?=w.heap[b]?)->D.RD s sl V w'
 C:1<=D.n
 L1:1<=D.L
 oz:D.n+D.q+D.m<1000
 N1:D.N<1000
 M:∀i,D.b i<=D.m
 Y:∀i,i<D.q->D.c i<D.N
 S:∀k,1<=k->k<=D.m->D.a k<D.N
 akI:∀k,k<=D.m->D.C k≠D.I
 akJ:∀k k',k<=D.m->k'<=D.m->D.C k=D.C k'->k=k'
 I:¬D.Y.M D.M
 pq:∀i i',i<D.q->i'<D.q->D.c i=D.c i'->i=i'
 pi:∀k k',1<=k->k<=D.m->1<=k'->k'<=D.m->D.a k=D.a k'->k=k'
 PV:∀i k,i<D.q->1<=k->k<=D.m->D.c i≠D.a k
 gh:∀b,D.Y.M b\/b=D.M->D.g<=b
section
variable{D:SD}{S:Nat->Prop}{l f:fe}
def lU.ff(h:lU D S l)(ok:D.Ok)(e:∀b,S b->X b)(c:∀b,S b->f.w.heap[b]?=l.w.heap[b]?)(q:f.K=l.K)(p:∀a,l.K a->(l.w.cell? a).isSome=Ò->(f.w.cell? a).isSome=Ò)(r:∀a,f.r a->(f.w.cell? a).isSome=Ò/\f.w.frozen? a=Ì):lU D X f where
 C b hg:=by rw[q];exact h.C b hg
 I b hg:=⟨p _ (h.C b hg).1 (h.I b hg).1,p _ (h.C b hg).2 (h.I b hg).2⟩;Y:=e _ h.Y;c:=(gK<|c _ h.Y).trans h.c;e:=e _ h.e;f:=(gK<|c _ h.e).trans h.f;g k hk:=by let⟨b,g,d,j,m,n,o⟩:=h.g k hk;exact⟨b,g,e b d,(gK<|c b d).trans j,(gK<|c b d).trans m,(gK<|c b d).trans n,(gK<|c b d).trans o⟩
 h i hi:=by let⟨b,g,d,j,m,n,o⟩:=h.h i hi;exact⟨b,g,e b d,(gK<|c b d).trans j,(gK<|c b d).trans m,(gK<|c b d).trans n,(gK<|c b d).trans o⟩
 r:=r;M b d:=e b<|h.M b d;d:=ok.r _ _ h.d λb d=>c b<|h.M b d
def lU.G(h:lU D S l)(ok:D.Ok)(c:∀b,S b->l.M b)(r:fI l l.w u):lU D S {l with w:=u}:= h.ff ok (λ_ q=>q) (λb q=>r.I b<|c b q) U r.S λa q=>by have:=h.r a q;exact⟨by show(u.cell? a).isSome=Ò;rw[r.N a<|Ã q];exact this.1,(r.Y a<|Ã q).trans this.2⟩
def lU.S9{E:â->Prop}(h:lU D S l)(ok:D.Ok)(g:∀b,S b->l.M b)(c:iI E l f):lU D S f:= h.ff ok (λ_ q=>q) (λb q=>c.r b<|g b q) c.K c.b λa q=>by
  rw[c.I]at q;let⟨d,i⟩:=h.r a q;refine⟨?_,(c.S a<|Ã q).trans i⟩;by_cases e:E a
  .exact c.g a e d
  .rwa[c.e a (Ã q) e]
def lU.akK(h:lU D S l)(ok:D.Ok)(d:∀b,S b->l.M b/\¬X b)(c:gd X l f):lU D S f:= h.ff ok (λ_ q=>q) (λb q=>c.r b (d b q).1 (d b q).2) c.K c.e λa q=>by rw[c.Y]at q;let⟨e,g⟩:=h.r a q;exact⟨by rwa[c.f a<|Ã q],(c.g a<|Ã q).trans g⟩
def lU.N(h:lU D S l)(a:∀b,S b->X b):lU D X l:=⟨h.C,h.I,a _ h.Y,h.c,a _ h.e,h.f,λk c=>let⟨b,d,e,f⟩:=h.g k c;⟨b,d,a b e,f⟩,λk c=>let⟨b,d,e,f⟩:=h.h k c;⟨b,d,a b e,f⟩,h.r,λb q=>a b<|h.M b q,h.d⟩
end
section
variable(D:SD)
def jO(a:Nat->Nat)(j:Nat):List Ï:=(ã j).map λi=>é<|Â<|a i
def C2(k:Nat):Jd:=λl g=>l.d=0/\¬l.q/\lU D l.M l/\∃t a b c e f h i j n o,Ct D.M D.N D.u D.m D.t k t/\l.M a/\l.w.cell? ⟨a,0,Á⟩=Â (À<|Â ⟨D.I,0,Á⟩)/\g=Ax t [Sk h i j n o,AB a b c e f,oB Ä]
def j_(c i:Nat):Jd:=λl g=>l.d=0/\¬l.q/\lU D l.M l/\∃t a b e f h j k m n o p,QT D.M D.N c t/\t[4]?=Â (À<|Â ⟨a,0,Á⟩)/\l.O a/\l.w.cell? ⟨a,0,Á⟩=Â (À<|D.i i)/\l.w.cell? ⟨a,1,Á⟩=Â (Ê Î<|D.c i)/\l.w.cell? ⟨a,2,Á⟩=Â (À<|Â ⟨D.C<|D.b i,0,Á⟩)/\l.M b/\l.w.cell? ⟨b,0,Á⟩=Â (À<|Â ⟨D.I,0,Á⟩)/\g=L4 t [HM k m n o p,AB b e f h j,oB Ä]
def akL:Jd:=λl g=>lU D l.M l/\∃t a b c,Ig D.S D.I (D.C D.m) D.n (Æ D.l D.q D.k) t/\gA l a (É #[À<|Â ⟨D.I,0,Á⟩] 162)/\gA l b (É #[Ĉ (ù 48) #[] #[À<|Â ⟨D.s,0,Á⟩,À<|Â ⟨D.S,0,Á⟩]] 1)/\g=CF (À<|Â ⟨D.I,0,Á⟩) c (À<|Â ⟨D.I,0,Á⟩) (ñ #[]) a b (Fa t::D.f)
def akM(j:Nat)(a:Nat->Nat):Jd:=λl g=>lU D l.I l/\∃t e c b d f,ST D.S D.I (D.C D.m) D.n (j-1) (Æ D.l D.q D.k) e t/\ZN D.S D.I D.q e (jO a j) (a<|j-1) c b d l/\a (j-1)<c/\c<b/\b<d/\(∀k,e.ownBlock=Â k->k≠a (j-1)/\k≠c/\k≠b/\k≠d)/\D.g<=a (j-1)/\g=CF (À<|Â ⟨D.I,0,Á⟩) f (À<|Â ⟨D.I,0,Á⟩) (ñ #[]) b d (Me t::D.f)
def Mz(j:Nat)(a:Nat->Nat):Jd:=λl g=>l.d=0/\¬l.q/\D.g<=l.w.heap.size/\((j=0/\akL D l g)\/(1<=j/\akM D j a l g))
def k_:Jd:=λl g=>l.d=0/\¬l.q/\lU D l.I l/\∃a,SE D.S D.I (D.C D.m) a/\g=Fh a D.f
def SD.r(P:ė):Ph where
 toFx:=D.Y
 P:=P
 S:=D.g
 n:=D.n
 q:=D.q
 Y:=D.M
 f:=D.N
 r:=D.b
 a:=D.c
 b:=D.a
 c:=D.akH
 z:=zT
 B:=60
 γ:=D.γ
 l:=D.w
 i:=D.v
 p:=D.h
 d:=λk s V w=>(∃a,w.cell? ⟨D.C k,2,Á⟩=Â a/\D.RD s a V w)/\(k=0->w.cell? ⟨D.M,D.N,Á⟩=Á/\kY w D.M=Â (0,0)/\D.p w)
 o:=D.e
 k:=D.j
 g:=Mz D
 h:=C2 D
 e:=j_ D
 j:=λ_=>k_ D
end
def Fi(D:SD):Prop:=∀k s e V l,k<D.m->nN (D.r Ä) k s->D.RD s e V l.w->(∀b,V b->l.M b)->gq l->¬l.q->(∀b,D.d b->l.M b)->D.RC l.w->∀f g,fi Ä Ì (λa j=>a.d=l.d/\∃p n c,j=G (f.finish<|ñ #[Æ p n c,à<|D.e<|k+1]) g/\∃h i,D.h k s h/\D.RD h (Æ p n c) i a.w/\∀b,i b->a.M b) (mB l)<|G (Ă Ä 66 #[e,À<|D.o<|k+1] Ğ)<|f::g
def Fj(D:SD):Prop:=∀i s a V l,i<D.q->nN (D.r Ä) (D.b i) s->D.RD s a V l.w->(∀b,V b->l.M b)->gq l->¬l.q->(∀b,D.d b->l.M b)->D.RC l.w->∀b c,fi Ä Ì (λe f=>e.d=l.d/\f=G (b.finish<|à<|D.j i) c) (mB l)<|G (Ă Ä 67 #[a,À<|D.i i] Ğ)<|b::c
section
variable{D:SD}
def Ix(k:Nat)(a:k<=D.m):D.Y.M (D.C k):=Ç ⟨k,a,U⟩
def AN:D.Y.M D.I:=Ã U
def akN(ok:D.Ok):(D.r Ä).Ok:=⟨ok.C,ok.L1,ok.oz,λi _=>ok.M i,ok.akI,ok.akJ,ok.I,ok.pq,ok.pi,ok.PV,ok.gh,⟨λk a b e=>by have c:D.a k=D.N:=e;have:=ok.S k a b;omega,λi d e=>by have c:D.c i=D.N:=e;have:=ok.Y i d;omega⟩⟩
theorem akO(ok:D.Ok)(vf:Fi D):∀k s V l g,k<D.m->C2 D k l g->gq l->nN (D.r Ä) k s->(D.r Ä).d k s V l.w->(∀b,V b->l.I b)->l.N (jk D.Y k)->l.r (jk D.Y<|k+1)->l.r (ju (D.r Ä)<|D.a<|k+1)->∀B:Nat->D.γ,B k=s->fi Ä Ì (JI (D.r Ä) B<|.mk (k+1)) l g:=by
 intro k s V l g o hJ Fg Ta B6 hV vy C E B hsg;obtain⟨hd,F,f,t,G,v1,v2,v3,v4,u0,u1,u2,u3,u4,hT,CL,cbw,rfl⟩:=hJ;let⟨⟨sl,hsl,qR⟩,_⟩:=B6;let⟨b,Ay,hbM,i0,i1,i2,i3⟩:=f.g k o;have vd:=ok.oz;have lN:(⟨D.C<|k+1,2,Á⟩:â)≠⟨D.M,D.a<|k+1,Á⟩:=λe=>ok.I (by injection e with H _ _;rw[<-H];exact Ix (k+1) o);have BS:Ct D.M D.N (Â ⟨b,0,Á⟩) D.m D.t k t:=by rwa[<-Ay]
 have⟨oc1,oz1⟩:=f.r _ C;have⟨oc2,oz2⟩:=f.r _ E;have sI:∀a:â,(a=⟨D.C<|k+1,2,Á⟩\/a=⟨D.M,D.a<|k+1,Á⟩)->l.r a:=λa p=>by rcases p with rfl|rfl;exact C;exact E
 have r:=f.C _<|Ix (k+1) o;have m_:=f.I _<|Ix (k+1) o;refine fi.ff (Stop:=λl g=>(∃i n,D.h k s i/\(D.r Ä).d (k+1) i n l.w/\(∀b,n b->l.M b)/\l.w.cell? ⟨D.M,D.a<|k+1,Á⟩=Â (à<|D.e<|k+1))/\Ab Ä Ì (D.C<|k+1) (fi Ä Ì<|C2 D<|k+1) (qE (D.r Ä) l<|k+1) g) (λl g h=> ?_) ?_
 .let⟨⟨i,n,I,J,L,O⟩,P⟩:=h;exact⟨i,n,by subst hsg;exact I,J,L,O,P⟩
 refine ajo (Q:=λv x y=>x=D.e (k+1)/\∃i n,D.h k s i/\D.RD i v n y.w/\∀b,n b->y.M b) (τ:=λl=>qE (D.r Ä) l<|k+1) Fg F hd BS o Z (by have:=ok.N1;omega) (ok.S (k+1) Z o) hbM i0 i1 i2 i3 vy hsl C E oc1 oc2 oz1 oz2 lN (λc v j u=> ?_) λc x v hQ Sn L3=> ?_
 .refine(vf k s sl V c o Ta (ok.yT _ _ _ _ _ qR λb x=>v.r b<|Ç<|hV b x) (λb x=>v.M<|Ç<|hV b x) (v.G Fg) (by rwa[v.q]) (λb x=>v.M<|f.M b x) (ok.r _ _ f.d λb x=>v.r b<|f.M b x) j u).ff ?_;grind
 .let⟨y,⟨hstr,i,n,AO,akP,n_⟩,hy⟩:=hQ;rw[hstr]at L3;have o_:nQ (D.C<|k+1) c.w:=⟨v.b _ r.1 m_.1,v.b _ r.2 m_.2⟩;refine⟨⟨Ã (by rw[v.K];exact r.1),Ã (by rw[v.K];exact r.2),λ_ _ _ _ _ _ _ _=>trivial⟩,⟨v.fv,o_,trivial⟩,⟨i,n,AO,⟨⟨_,Sn,ok.yT _ _ _ _ _ akP λb x=>(hy b<|n_ b x).2⟩,λe=>by omega⟩,λb x=>(hy b<|n_ b x).1,L3⟩,v.d.trans hd,λw=>fI (qE (D.r Ä) c<|k+1) c.w w,⟨Ã (by show c.K _;rw[v.K];exact r.1),Ã (by show c.K _;rw[v.K];exact r.2),λw w₁ I J L O P h=>h.fj ⟨I,J,L,O,P⟩⟩,⟨λj h=>h.elim,o_,fI.fV _ _⟩,λBE t' akQ Yr=> ?_⟩;refine .fD λS u=> ?_;have z:=akQ.2.2.fj ⟨u.r,u.I,u.N,u.Y,u.S⟩;have x:=λb x=>(z.I b<|Ç<|v.M x).trans<|v.r b x;have p_:∀b,l.M b->({qE (D.r Ä) c (k+1)with d:=0,w:=S}:fe).M b:=λb x=>Ç<|v.M x;refine⟨U,by show¬c.q;rwa[v.q],f.ff ok p_ x (by show c.K=l.K;exact v.K) (λa p h=>z.S a (by show c.K a;rwa[v.K])<|v.b a p h) λa p=> ?_,t',G,v1,v2,v3,v4,u0,u1,u2,u3,u4,by rwa[Ay],p_ G CL,(gK<|x G CL).trans cbw,U⟩;obtain⟨T,W,X⟩:c.r a/\a≠⟨D.M,D.a<|k+1,Á⟩/\a≠⟨D.C<|k+1,2,Á⟩:=p;have Y:l.r a:=by rwa[<-v.I]
  let⟨H,e2⟩:=f.r a Y;refine⟨?_,?_⟩
  .show(S.cell? a).isSome=Ò;rwa[z.N a<|Ã ⟨T,W,X⟩,v.e a (Ã Y) λq=>q.elim X W]
  .show S.frozen? a=Ì;rwa[z.Y a<|Ã ⟨T,W,X⟩,v.S a<|Ã Y]
def akR:∀l g,C2 D D.m l g->gq l->fi Ä Ì (BO<|D.r Ä) l g:=by intro l g c d;obtain⟨e,f,b,t,k,n,o,p,q,r,s,u,v,w,h,i,j,rfl⟩:=c;have a:=b.C _<|AN;exact ajw (Ψ:=λ_=>True) h a ⟨Ã a.1,Ã a.2,λ_ _ _ _ _ _ _ _=>trivial⟩ ⟨d.r,b.I _ AN,trivial⟩ e f (Ã i) j
def q_(ok:D.Ok){r:Nat}{l:fe}{t:Array Ï}{g h m o p:Ï}(B:gq l)(s:¬l.q)(C:l.d=0)(a:lU D l.M l)(E:QT D.M D.N i t)(f:l.M k)(u:l.w.cell? ⟨k,0,Á⟩=Â (À<|Â ⟨D.I,0,Á⟩)): En (D.r Ä) i j r l (AF t [HM g h m o p,AB k v x z jQ,oB Ä]):=by have y:=ok.M<|j+r*D.n;refine ajB B s C E (Ú _) U (a.C _<|Ix _ y) (a.I _<|Ix _ y) (a.C _ AN) (a.I _ AN) (Ã f) u λQ F G e H I J K L O P=>(⟨H,by rwa[e.q],(a.S9 ok (λ_ q=>q) e).N λb q=>e.M q,G,F,k,v,x,z,jQ,g,h,m,o,p,O,P,I,J,K,L,e.M f,(gK<|e.r k f).trans u,U⟩)
theorem akS(ok:D.Ok)(W:Fj D):∀c j r s V l g,j+r*D.n<D.q->j_ D c (j+r*D.n) l g->∀f:fe,gq f->f.O=l.O->(∀b,l.I b\/V b->f.I b)->f.w=l.w->f.d=l.d->f.q=l.q->f.r=l.r->f.K=l.K->nN (D.r Ä) (D.b<|j+r*D.n) s->(D.r Ä).d (D.b<|j+r*D.n) s V l.w->f.N (jk D.Y<|D.b<|j+r*D.n)->f.r (ju (D.r Ä)<|D.c<|j+r*D.n)->fi Ä Ì (JW (D.r Ä) c j<|.ox r) f g:=by
 intro c j r s V l g E X f v F y o Y Iy Ls hK Ta B6 vy p;obtain⟨hd,hq,G,t,tb,u,v1,v2,v3,v4,u0,u1,u2,u3,u4,hT,h4,hOt,H,I,J,L,N,rfl⟩:=X;let⟨⟨sl,P,S⟩,_⟩:=B6;have B:∀b,l.M b->f.M b:=λb q=>q.elim (λz=>Ã<|by rwa[F]) λz=>Ç<|y b<|Ã z;have m:=G.ff ok B (λb _=>by rw[o]) hK (λa _ h=>by rwa[o]) λa q=>by rw[o];exact G.r a<|by rwa[<-Ls]
 have C:¬f.q:=by rwa[Iy]
 rw[<-o]at H I J N P S;let⟨e2,z2⟩:=m.r _ p;refine ajE (Q:=λx=>x=D.j (j+r*D.n)) v C hT h4 (by rwa[F]) H I J vy P p e2 z2 (ok.Y _ E) (λi e k T=> ?_) λi x t' e hx hcx BS=> ?_
 .refine(W _ s sl V i E Ta (ok.yT _ _ _ _ _ S λb x=>e.r b<|Ç<|y b<|Ç x) (λb x=>e.M<|Ç<|y b<|Ç x) (e.G v) (by rwa[e.q]) (λb x=>e.M<|m.M b x) (ok.r _ _ m.d λb x=>e.r b<|m.M b x) k T).ff ?_;grind
 .have T:=(m.S9 ok (λ_ q=>q) e).N λb q=>e.M q;refine⟨hcx.trans (by rw[hx];rfl),?_⟩;have k:=e.G v;have Hu:gq (wN (D.r Ä) i<|j+r*D.n):=by
   refine⟨k.c,λa x=> ?_,λa x=> ?_,k.fv,λa x=> ?_,λa x=> ?_⟩
   .rintro(q|q)
    .exact k.Y a x.1 q
    .exact x.2 q
   .refine k.S a ?_;rcases x with q|q|q
    .exact Ã q.1
    .exact Ç q
    .rw[q];exact Ã<|by rwa[e.I]
   .refine k.I a ?_;rcases x with q|q|q
    .exact Ã q.1
    .exact Ç q
    .rw[q];exact Ã<|by rwa[e.I]
   .let⟨k1,k2,k3⟩:=k.N a x;exact⟨k1,k2,λq=>k3 q.1⟩
  refine q_ ok Hu (by show¬i.q;rwa[e.q]) (by show i.d=0;rwa[e.d,Y]) (T.ff ok (λ_ q=>q) (λ_ _=>rfl) U (λ_ _ h=>h) λa q=>T.r a q.1) BS (by show i.M u;exact e.M<|B u L)<|(gK<|e.r u<|B u L).trans N
end
section
variable{D:SD}{dk:Nat->Nat}{dv:Ï}{l f:fe}
structure MF(D:SD)(dk:Nat->Nat)(dv:Ï)(l:fe):Prop where
 C:gq l
 q:¬l.q
 d:l.d=0
 r:lU D l.I l
 I:∃db c,dv=Æ (Â ⟨db,0,Á⟩) D.n c/\l.O db/\∀i,i<D.n->l.w.cell? ⟨db,i,Á⟩=Â (é<|Â<|dk i)
def MF.M(h:MF D dk dv l)(ok:D.Ok)(a:iI fh l f):MF D dk dv f where
 C:=a.G h.C;q:=by rw[a.q];exact h.q
 d:=a.d.trans h.d;r:=(h.r.S9 ok (λ_ q=>Ç q) a).N λb q=>by rwa[a.Y]
 I:=by let⟨e,c,j,g,k⟩:=h.I;exact⟨e,c,j,a.O e g,λi m=>(gK<|a.r e<|Ã g).trans<|k i m⟩
def akT(ok:D.Ok):∀r,r<=D.n->∀l t b,MF D dk dv l->ET dv D.n (D.n-r) t->SE D.S D.I (D.C D.m) b->fi Ä Ò (BP (D.r Ä) dk r) l (C0 t<|Iw b::D.f):=by
 intro r
 induction r with
 |zero=>
  intro _ l t b a e g;rw[Ū]at e;refine akE a.C a.d (Ú _) e g (a.r.C _ AN) (a.r.I _ AN) λf i h j=> ?_;have c:=a.M ok h;exact⟨c.d,c.q,c.r,i,j,U⟩
 |succ r j=>
  intro s l t b a e g;obtain⟨u,c,rfl,k,o⟩:=a.I;have v:=ok.oz;refine akD a.C a.q e Z Z k (o (D.n-(r+1)) Z) λf p h i=> ?_;refine j Z f p b (a.M ok h) ?_ g;rwa[show D.n-(r+1)+1=D.n-r by omega]at i
def akU(ok:D.Ok):∀r,r<=D.q->∀l t d,MF D dk dv l->DT dv D.l D.q D.k (D.q-r) t->SE D.S D.I (D.C D.m) d->fi Ä Ò (GQ (D.r Ä) dk r) l (CY t<|Iw d::D.f):=by
 intro r
 induction r with
 |zero=>
  intro _ l t d a e h;rw[Ū]at e;obtain⟨j,c,rfl,k,o⟩:=a.I;refine akC a.C.r e λi g=>akT ok D.n (Ú _) l i d a ?_ h;rwa[ū]
 |succ r s=>
  intro C l t d a e h;obtain⟨j,c,rfl,k,o⟩:=a.I;have E:=ok.oz;have F:=ok.C;let⟨b,p,u,v,w,x,y⟩:=a.r.h (D.q-(r+1)) Z;have z:DT (Æ (Â ⟨j,0,Á⟩) D.n c) (Â ⟨b,0,Á⟩) D.q D.k (D.q-(r+1)) t:=by rwa[<-p]
  refine akz a.C a.q z Z Z Z Z k (o _<|ĵ _ Z) (Ç u) v w x y λf i B g=> ?_;refine s Z f i d (a.M ok B) ?_ h;rwa[show D.q-(r+1)+1=D.q-r by omega,<-p]at g
theorem akV(dk:Nat->Nat)(j a:Nat):jO (fB dk j a) (j+1)=jO dk j++[é<|Â a]:=by unfold jO;grind [ÿ,List.map_congr_left,fK,gD]
def akW(dk:Nat->Nat)(j:Nat):(jO dk j).length=j:=by simp[jO]
def akX(dk:Nat->Nat)(j i:Nat)(h:i<j):(jO dk j)[i]?=Â (é<|Â<|dk i):=by simp[jO,h]
theorem q'(ok:D.Ok){t:Array Ï}(K:j<=D.n)(a:gq l)(o:¬l.q)(p:l.d=0)(h:lU D l.I l)(x:D.g<=l.w.heap.size)(v:ST D.S D.I (D.C D.m) D.n j (Æ D.l D.q D.k) dv t)(r:l.w.ownsRow 0 101 1 dv j (jO dk j))(s:∀k,dv.ownBlock=Â k->l.O k): fi Ä Ò (JM (D.r Ä) dk<|if j<D.n then .iG (j+1)else .iQ D.q) l (CC t D.f):=by
 have L:=ok.oz;by_cases u:j<D.n
 .rw[if_pos u];show fi Ä Ò (PU (D.r Ä) (j+1) dk) l _;rw[ai2];refine ajM a o p v u Z Z (h.C _ AN) (h.I _ AN) r s λf i y z B C E F c G H M N I J P=> ?_;refine⟨y,c.d.trans p,by rwa[c.q],Õ x c.I,Ç ⟨Z,(h.akK ok (λb g=>⟨Ç g,λe=>a.c b (s b e.symm) g⟩) c).N λb q=>(by rwa[c.S]),i,E,z,B,C,F,?_,?_,?_,I,J,?_,?_,U⟩⟩
  .rwa[ø]
  .rwa[ø,akV,gD]
  .grind [ø,gD]
  .grind [ø,gD]
  .grind [ø,gD,Õ]
 .have e:j=D.n:=Z
  subst e;rw[if_neg u];have y:∃b c,dv=Æ (Â ⟨b,0,Á⟩) D.n c/\l.O b/\∀i,i<D.n->l.w.cell? ⟨b,i,Á⟩=Â (é<|Â<|dk i):=by
   rcases r.2 with⟨_,C⟩|⟨g,z,E,rfl,_⟩
   .have:=ok.C;omega
   .refine⟨g,z,U,s g U,λi B=> ?_⟩;have:=r.cells U i _<|akX dk D.n i B;grind [ğ]
  refine akB a.r v λg z B C=>(akU ok D.q (Ú _) l g z ⟨a,o,p,h,y⟩ (by rwa[ū]) C)
def akY(ok:D.Ok)(h:C2 D k l g)(r:fI l l.w u):C2 D k {l with w:=u} g:=by obtain⟨c,d,e,t,a,f,i,j,m,n,o,p,s,v,x,b,y,rfl⟩:=h;exact⟨c,d,e.G ok (λ_ q=>q) r,t,a,f,i,j,m,n,o,p,s,v,x,b,(gK<|r.I a b).trans y,U⟩
def gA.M{o:Ÿ}(h:gA l b o)(r:fI l l.w u):gA {l with w:=u} b o:=⟨h.fg,(r.I b<|Ã h.fg).trans h.I⟩
def GR(ok:D.Ok)(h:Mz D j dk l g)(r:fI l l.w u):Mz D j dk {l with w:=u} g:=by
 let⟨m,n,o,h⟩:=h;refine⟨m,n,Õ o r.r,?_⟩;rcases h with⟨p,b,t,c,d,f,i,s,v,rfl⟩|⟨x,b,t,dv,y,c,d,f,i,a,z,B,C,E,F,rfl⟩
 .exact Ã ⟨p,b.G ok (λ_ q=>q) r,t,c,d,f,i,s.M r,v.M r,U⟩
 .exact Ç ⟨x,b.G ok (λ_ q=>Ç q) r,t,dv,y,c,d,f,i,⟨oW a.S λk e=>r.I k<|Ã<|a.M k e,a.M,a.r.M r,a.C.M r,a.N.M r,a.I.M r⟩,z,B,C,E,F,U⟩
theorem akZ(ok:D.Ok):∀j dk l g,j<=D.n->Mz D j dk l g->gq l->l.d=0/\∃(G H:Ý) (X:Nat->Prop),G.status=ċ/\H.status=ċ/\(∀u,stepG Ä Ò g u=.spawn G H u #[])/\(∀b,X b->l.O b)/\ (1<=j->l.O (dk<|j-1)/\¬X (dk<|j-1)/\l.w.heap[dk<|j-1]?=Â (ŕ D.q #[] Ì 0 0 Ì)/\D.g<=dk (j-1))/\ (∀f:fe,gq f->(∀b,X b\/l.I b->f.I b)->f.w=l.w->f.d=0->¬f.q->(∀b,¬f.O b)->f.K=l.K->f.N=l.N->(∀a,f.r a->l.r a)->fi Ä Ì (if j=0 then C2 D 0 else En (D.r Ä) (dk<|j-1) (j-1) 0) f H)/\ (∀f:fe,gq f->f.O=(λb=>l.O b/\¬X b/\(1<=j->b≠dk (j-1)))->(∀b,X b\/l.I b->f.I b)->f.w=l.w->f.d=0->f.q=l.q->f.K=l.K->f.N=l.N->(∀a,f.r a->l.r a)->fi Ä Ò (JM (D.r Ä) dk<|if j<D.n then .iG (j+1)else .iQ D.q) f G):=by
 intro j dk l g L h Fg;let⟨hd,N,P,h⟩:=h;refine⟨hd,?_⟩;rcases h with⟨rfl,o,t,x,C,v1,I,Q,S,rfl⟩|⟨h1,o,t,dv,T,x,C,v1,I,c,x1,x2,x3,x4,x5,rfl⟩
 .refine⟨_,_,l.O,U,U,λu=>ZL _ _ _ _ _ _ _ u,λ_ q=>q,λq=>by omega,λf i m X y p E z J B=> ?_,λf i E m X y p z J B=> ?_⟩
  .rw[if_pos U];have e:=λb q=>m b q;have s:lU D f.M f:=o.ff ok (λb q=>Ç<|e b q) (λb _=>by rw[X]) z (λa _ h=>by rwa[X]) λa q=>by rw[X];exact o.r a<|B a q
   refine ajv i.r p (Ã<|Ç<|e C<|Ã S.fg) (Ã s.e) (Ã s.Y) (by rw[X];exact S.r U) s.f s.c λF V W Y w4 u0 u1 u2 u3 u4 v=> .fD λu r=>akY ok ⟨y,p,s,F,x,V,W,Y,w4,u0,u1,u2,u3,u4,v,Ç<|e x<|Ã Q.fg,by rw[X];exact Q.r U,U⟩ r
  .refine ajK i.r I λF v=>(q' ok L i (by rwa[p]) y (o.ff ok (λb q=>m b q) (λb _=>by rw[X]) z (λa _ h=>by rwa[X]) λa q=>by rw[X];exact o.r a<|B a q) (by rwa[X]) v (World.ownsRow_nil _ _ _ _) λk e=>by cases e)
 .refine⟨_,_,λb=>b=T\/b=x\/b=C,U,U,λu=>ZL _ _ _ _ _ _ _ u,λb q=> ?_,λ_=>⟨c.r.fg,?_,c.r.I,x5⟩,λf i m X y p E z J B=> ?_,λf i E m X y p z J B=> ?_⟩
  .rcases q with rfl|rfl|rfl
   .exact c.C.fg
   .exact c.N.fg
   .exact c.I.fg
  .grind
  .rw[if_neg Z];have s:lU D f.M f:=o.ff ok (λb q=>Ç<|m b<|Ç q) (λb _=>by rw[X]) z (λa _ h=>by rwa[X]) λa q=>by rw[X];exact o.r a<|B a q
   have r_:f.M x:=Ç<|m x<|Ã<|Ç<|Ã U;refine ajA i.r p (Ã<|Ç<|m C<|Ã<|Ç<|Ç U) (Ã<|Ç<|m T<|Ã<|Ã U) (Ã s.Y) (by rw[X];exact c.I.r U) (by rw[X];exact c.C.r U) s.c λF V W Y w4 u0 u1 u2 u3 u4 v=> .fD λu r=>(q_ ok (i.kj r.r) p y (s.G ok (λ_ q=>q) r) v r_<|(gK<|r.I x r_).trans<|by rw[X];exact c.N.r U)
  .have s:=ok.oz;refine ajL i.r I Z λF v=> ?_;rw[show j-1+1=j by omega]at v;have r:=c.S;rw[akW]at r;refine q' ok L i (by rwa[p]) y (o.ff ok (λb q=>m b<|Ç q) (λb _=>by rw[X]) z (λa _ h=>by rwa[X]) λa q=>by rw[X];exact o.r a<|B a q) (by rwa[X]) v (by rwa[X]) λk e=> ?_;rw[E];let⟨a,V,W,Y⟩:=x4 k e;refine⟨c.M k e,?_,λ_=>a⟩;grind
def ak0(ok:D.Ok)(b:Fi D)(d:Fj D):gT (D.r Ä) where
 C:=akN ok;S k s V w w' h hV hc hz hf yU:=by let⟨⟨a,f,m⟩,t⟩:=h;exact⟨⟨a,hc.trans f,ok.yT _ _ _ _ _ m hV⟩,λe=>⟨hz.trans (t e).1,hf.trans (t e).2.1,ok.ioS _ _ (t e).2.2 yU⟩⟩
 GR j dk l g w₁ h r:=GR ok h r;I j dk l g h:=by let⟨_,_,_,h⟩:=h;rcases h with⟨_,_,t,e,f,a,_,_,_,rfl⟩|⟨_,_,t,dv,m,e,f,a,_,_,_,_,_,_,_,rfl⟩<;>rfl
 N k l g h:=by obtain⟨_,_,_,t,e,a,f,m,n,o,p,q,u,v,_,_,_,rfl⟩:=h;rfl
 Y c i l g h:=by obtain⟨_,_,_,t,tb,e,a,f,m,n,o,p,q,u,v,_,_,_,_,_,_,_,_,rfl⟩:=h;rfl
 M dk l g h:=by obtain⟨_,_,_,f,_,rfl⟩:=h;rfl
 go:=akZ ok;e:=akO ok b;f:=akR;gL:=akS ok d
end
end Go.Proofs.Y.fA
namespace Go.Proofs.Y.fA
open Go Go.Conc Go.Proofs.Y.Lift
open Go.ConcN (sumTo sumTo_congr)
structure kK(P:ė)(Y:Nat->Prop)(jr:Ν->Prop)(H:Nat)(J:Jd)(T:gl)(lv:Nat->Nat)(lot:Nat->fe)(gs:Array Ý)(w:ß)(t:ż):Prop where
 C:1<=gs.size
 r:gM P 0 Y (λi=>if i=0 then J else p8 P (lv i)) (λi=>if i=0 then T else .fD) (λ_=> .no) lot gs w t
 c:∀i,0<i->i<gs.size->lot i=kI (lot i)
 d:¬(lot 0).q
 M:∀p a,touchAt t p=Â a->a.loc.isMemory=Ò->Knows t 0 p\/(jr a.loc/\a.kind=.atomic)
 S:∀p a x,touchAt t p=Â a->a.loc=û x->t.g? p=Â 0\/x.block<H
 b:∀a:â,H<=a.block->NoRelease a t
 N:t.HandedOver
abbrev sQ(P:ė):=kK P λ_=>False
structure rH(l l':fe)(w w':ß):Prop where
 r:w.heap.size<=w'.heap.size
 N:∀j,l'.O j->l.O j\/w.heap.size<=j
 rd:l'.I=l.I
 S:l'.r=l.r
 b:l'.N=l.N
 k:l'.K=l.K
 ki:∀j,j<w.heap.size->¬l.O j->(∀a:â,a.block=j->¬l.r a)->w'.heap[j]?=w.heap[j]?
 M:∀a:â,a.block<w.heap.size->¬l.O a.block->¬l.r a->w'.cell? a=w.cell? a
 Y:∀j,j<w.heap.size->¬l.O j->kY w' j=kY w j
 C:w'.os=w.os
 I:w'.output=w.output
 c:w'.tape=w.tape
theorem rH.fV(l:fe)(w:ß):rH l l w w:=⟨Ú _,λ_ h=>Ã h,U,U,U,U,λ_ _ _ _=>rfl,λ_ _ _ _=>rfl,λ_ _ _=>rfl,U,U,U⟩
def rH.fj{l e i:fe}{w':ß}(h:rH l e w w')(k:rH e i w' u):rH l i w u:=by
 have f:∀j,j<w.heap.size->¬l.O j->¬e.O j:=λj c b q=>(h.N j q).elim b λz=>by omega
 refine⟨Õ h.r k.r,λj q=> ?_,k.rd.trans h.rd,k.S.trans h.S,k.b.trans h.b,k.k.trans h.k,λj c b d=>((k.ki j (È c h.r) (f j c b)<|by rwa[h.S]).trans<|h.ki j c b d),λa g b d=>((k.M a (È g h.r) (f _ g b)<|by rwa[h.S]).trans<|h.M a g b d),λj c b=>(k.Y j (È c h.r)<|f j c b).trans<|h.Y j c b,k.C.trans h.C,k.I.trans h.I,k.c.trans h.c⟩
 .rcases k.N j q with z|z
  .exact h.N j z
  .exact Ç<|Õ h.r z
def mH.ak1{l a:fe}(h:mH l a w u V):rH l a w u:=⟨h.C,h.M,h.rd,h.r,h.I,h.k,h.ki,h.S,λj b c=>h.Y ⟨j,0,Á⟩ b c,h.c,h.f,h.i⟩
def rH.G{l a:fe}(h:rH l a (w.at i) u):rH l a w u:=⟨h.r,h.N,h.rd,h.S,h.b,h.k,h.ki,h.M,h.Y,h.C,h.I,h.c⟩
section
variable{Y:Nat->Prop}{jr:Ν->Prop}{H:Nat}{J:Jd}{T:gl}{lv:Nat->Nat}{lot:Nat->fe}{gs:Array Ý}{t:ż}{sl:Option (Nat×Nat)}
def kK.I(c:kK P Y jr H J T lv lot gs w t)(d:Nat):kK P Y jr H J T lv lot gs (w.at d) t:=⟨c.C,c.r.at d,c.c,c.d,c.M,c.S,c.b,c.N⟩
def ak2{l:fe}{e:ž}(h:wK l e)(a:â):ï e≠.mark (.release a):=by
 let⟨c,wr,d⟩:=e;rcases h with⟨x,b,_⟩|h|⟨f,h⟩|h|h|⟨x,_,h⟩
 .simp only at b;subst b;simp[ï]
 .simp only at h;subst h;simp[ï]
 .simp only at h;subst h;simp[ï]
 .simp only at h;subst h;simp[ï]
 .simp only at h;subst h;simp[ï]
 .simp only at h;rcases h with rfl|rfl|rfl|rfl<;>simp[ï]
theorem ak3{e:ž}(h:e.mute=Ò)(a:â):ï e≠.mark (.release a):=by let⟨b,wr,c⟩:=e;cases b<;>simp_all[Event.mute];rename_i m;cases m<;>simp_all[ï]
theorem kK.ak4{k:ß->gl}(c:kK P Y jr H J (.jL k) lv lot gs w t)(o:∀l g,J l g->g.status=ċ\/g.status=Š)(r:gs[0]?=Â g): ∃e b d u,runT P (Ĭ gs w sl) 0=(.next<|Ĭ b d sl,u)/\b.size=gs.size/\rH (lot 0) (e 0) w d/\kK P Y jr H J (k w) lv e b d (t++u):=by
 obtain⟨b,d,G,s,v,f,I,K,j,y⟩:=c.r.fg r U λl g h=>o l g h;refine⟨gi lot 0 s,b,d,_,v,f,by rw[gV];exact j.ak1,by rw[f];exact c.C,?_,λi z B=> ?_,?_,λp a h C=> ?_,λp a x h D=> ?_,λa h=>(c.b a h).app λu m=> ?_,Ř c.N λu m=>Ã<|oQ u m⟩
 .have e:fB (λi=>if i=0 then(.jL k:gl)else .fD) 0 (k w)=λi=>if i=0 then k w else .fD:=by
   funext i;unfold fB;grind
  rwa[<-e]
 .rw[gI lot _ Z];exact c.c i z<|by rwa[<-f]
 .rw[gV,j.q];exact c.d
 .rcases nj h with⟨_,e⟩|⟨_,u,e,E,n⟩
  .exact(c.M p a e C).imp (·.app _) id
  .have:=knows_own n;grind [oQ]
 .rcases nj h with⟨F,e⟩|⟨_,u,e,E,n⟩
  .rw[g?_old F];exact c.S p a x e D
  .apply Ã;unfold Trace.g?;grind [oQ]
 .obtain⟨e,n,rfl⟩:=Č m;exact ak2 (j.b e n) a
theorem kK.t_(c:kK P Y jr H J T lv lot gs w t)(q:gs[i]?=Â g)(b:i≠0)(y:g.status=ċ): ∃a e f u,runT P (Ĭ gs w sl) i=(.next<|Ĭ f w sl,u)/\f.size=gs.size/\sumTo gs.size a+1=sumTo gs.size lv/\e 0=lot 0/\kK P Y jr H J T a e f w (t++u):=by
 have z:=(æ.1 q).1;obtain⟨f,r,m,M,B,o,N,C,D⟩:=c.r.Pv (n:=lv i) q b y U (by simp[b]) (by simp[b]);have E:∀u∈MemOp.ofEvents i g.frame.fn g.frame.place r,u.act.touch?=Á:=λu h=>by obtain⟨e,s,rfl⟩:=Č h;exact touch_mute<|C e s
 refine⟨fB lv i m,gi lot i {lot i with d:=į (lot i).d r,w:=w},f,_,B,o,?_,gI lot _<|Ne.symm b,by rw[o];exact c.C,?_,λj v F=> ?_,?_,λp a k G=> ?_,λp a x k I=> ?_,λa k=>(c.b a k).app λu h=> ?_,Ř c.N λu h=>Ç<|E u h⟩
 .grind [yr,fK,gD]
 .have l:fB (λi=>if i=0 then J else p8 P (lv i)) i (p8 P m)=λj=>if j=0 then J else p8 P (fB lv i m j):=by
   funext j;unfold fB;grind
  rwa[<-l]
 .by_cases e:j=i
  .subst e;rw[gV];have:=c.c j v z;rw[this];rfl
  .rw[gI lot _ e];exact c.c j v<|by rwa[<-o]
 .rw[gI lot _<|Ne.symm b];exact c.d
 .rcases nj k with⟨_,l⟩|⟨_,u,l,K,_⟩
  .exact(c.M p a l G).imp (·.app _) id
  .grind
 .rcases nj k with⟨L,l⟩|⟨_,u,l,K,_⟩
  .rw[g?_old L];exact c.S p a x l I
  .grind
 .obtain⟨e,s,rfl⟩:=Č h;grind [ak3]
def kK.LJ(c:kK P Y jr H J T lv lot gs w t):∀g∈gs,awake g:=by
 intro g e;obtain⟨i,f,rfl⟩:=Array.mem_iff_getElem.1 e;let⟨g0,_,b,a,_⟩:=c.r.C i _<|ì f;intro τ d;generalize gs[i]=g at b d;cases b with
 |gO=>rcases a with a|a<;>rw[d]at a<;>cases a
theorem kK.G(K:∀l g,J l g->g.status=ċ\/g.status=Š):∀(T:gl) (s:Nat) (lv:Nat->Nat) (lot:Nat->fe) (gs:Array Ý) (w:ß) (sl:Option (Nat×Nat)) (t:ż),sumTo gs.size lv=s->kK P Y jr H J T lv lot gs w t-> ∃N h b a f e c,ŷ P N (Ĭ gs w sl) t=(.next<|Ĭ a f e,c)/\a.size=gs.size/\rH (lot 0) (b 0) w f/\kK P Y jr H J .fD h b a f c:=by
 intro T
 induction X0.apply T with
 |intro T _ L=>
  intro s
  induction s using Nat.strongRecOn with
  |_ s M=>
   intro lv lot gs w sl t V c;cases C:T with
   |fD=>
    subst C;exact⟨0,lv,lot,gs,w,sl,t,U,U,rH.fV _ _,c⟩
   |jL k=>
    subst C;have W:=c.C;obtain⟨g0,D⟩:∃g,gs[0]?=Â g:=⟨_,ì Z⟩;have O:g0.status=ċ:=by let⟨S,d,i,_,_⟩:=c.r.C 0 g0 D;grind [agY]
    let⟨i,g,d,e,E,Q,F⟩:=crowd_pick (P:=P) (w:=w) (sl:=sl) c.LJ ⟨0,g0,D,O⟩;by_cases G:i=0
    .subst G;let⟨b,a,f,u,n,j,S,I⟩:=(c.I d).ak4 (sl:=e) K E;let⟨N,o,p,q,r,v,x,y,z,m,B⟩:=L (k<|w.at d) ⟨_,U⟩ _ lv b a f e (t++u) U I;exact⟨N+1,o,p,q,r,v,x,by simp only[ŷ,F,n];exact y,z.trans j,S.G.fj m,B⟩
    .let⟨h,b,a,u,n,j,I,f,S⟩:=(c.I d).t_ (sl:=e) E G Q;let⟨N,o,p,q,r,v,x,y,z,m,B⟩:=M (sumTo a.size h) (by rw[j];omega) h b a (w.at d) e (t++u) U S;exact⟨N+1,o,p,q,r,v,x,by simp only[ŷ,F,n];exact y,z.trans j,by rw[f]at m;exact m.G,B⟩
end
section
variable{F:Ph}{E:fW F}{S:Nat->Jd}{tr:Nat->gl}{o:Nat->iD}{f:Nat->fe}{gs:Array Ý}
def PI.jz(p:PI F i zX E S tr o f gs w qJ)(c:E.M=.fZ):E.r=F.n+1/\∀x,x<F.n+1->∃N,E.N x=Â (.jz N):=by
 refine⟨(by unfold fW.r;rw[c];rfl),λx g=> ?_⟩;have a:=Qp (p.C.B<|Ç<|Ç c) x g;have j:x<E.M.ad F.n:=by rwa[c]
 unfold fW.G at a;rw[if_pos j]at a;have l:E.M.gB=0:=by rw[c];rfl
 cases d:E.N x with
 |none=>rw[d]at a;simp[my]at a
 |some e=>
  rw[d]at a;simp only[my]at a;cases e with
  |pA=>simp[iq.kS]at a
  |jz N=>exact⟨N,U⟩
  |fZ q=>
   let⟨h,k⟩:=p.C.N x q d;cases q with
   |jK=>simp[iq.kS,jN.kS]at a
   |iG=>simp[iq.kS,jN.kS]at a
   |gw W=>
    let⟨_,b⟩:=h W<|Ã U;have r:=p.M.C.r;rw[b]at r;have:=(p.C.g W b).2.1;simp only[GS.ok]at r;omega
   |jg W=>
    let⟨_,b⟩:=h W<|Ç U;have r:=p.M.C.r;rw[b]at r;have:=(p.C.g W b).2.1;simp only[GS.ok]at r;omega
   |iE r=>
    let⟨W,_,s,b⟩:=k r U;have:=(p.C.u r s b).2.1;omega
def yV(l:fe):fe:={l with O:=λ_=>False,I:=λ_=>False,r:=λ_=>False,N:=λ_=>False,K:=λ_=>False,q:=True}
def wH(f:Nat->fe)(l:fe):Nat->fe:=λi=>if i=0 then l else yV (f i)
def Tb(f:Nat->fe)(l:fe):wH f l 0=l:=rfl
def xi(f:Nat->fe)(l:fe)(h:i≠0):wH f l i=yV (f i):=if_neg h
def Iz{l:fe}(h:i≠0):¬(wH f l i).M b:=by rw[xi f l h];exact λq=>q.elim id id
def IA{l:fe}(h:i≠0):¬(wH f l i).C a:=by rw[xi f l h];exact λq=>q.elim id id
def ja.Y{Y I:Nat->Prop}(C:ja n I Y f w qJ)(u:I 0){l:fe}(v:n<=m)(x:∀b,l.O b->¬l.I b)(y:∀a,l.r a->¬l.N a)(B:∀b,l.M b->¬X b)(D:∀a,l.C a->X a.block)(E:∀b,l.M b->b<w.heap.size)(F:∀b,X b->b<w.heap.size)(G:fI l l.w w)(H:Po qJ 0 l)(J:l.d=(f 0).d)(t:∀a,l.K a->X a.block/\¬l.r a):ja m I X (wH f l) w qJ:=by
 refine⟨λi j g L s b o=> ?_,λi j g L s a e=> ?_,λi g b o=> ?_,λi g a e=> ?_,λi g b o=> ?_,λi g a e=> ?_,λi g b o=> ?_,F,λi g=> ?_,λi g=> ?_,λi g=> ?_,C.l,C.q,λp a c N r P=>È (C.s p a c N r P) v,λi g a e=> ?_⟩
 .by_cases h:j=0
  .subst h;exact absurd (Ã o)<|Iz s
  .exact Iz h
 .by_cases h:j=0
  .subst h;exact absurd (Ã e)<|IA s
  .exact IA h
 .by_cases h:i=0
  .subst h;exact x b o
  .exact absurd (Ã o)<|Iz h
 .by_cases h:i=0
  .subst h;exact y a e
  .exact absurd (Ã e)<|IA h
 .by_cases h:i=0
  .subst h;exact B b o
  .exact absurd o<|Iz h
 .by_cases h:i=0
  .subst h;exact D a e
  .exact absurd e<|IA h
 .by_cases h:i=0
  .subst h;exact E b o
  .exact absurd o<|Iz h
 .by_cases h:i=0
  .subst h;exact G
  .rw[xi f l h];exact⟨(C.r i g).r,λj q=>q.elim (λz=>z.elim) λz=>z.elim,λa q=>q.elim (λz=>z.elim) λz=>z.elim,λa q=>q.elim (λz=>z.elim) λz=>z.elim,λa q=>q.elim⟩
 .by_cases h:i=0
  .subst h;exact H
  .rw[xi f l h];exact⟨λa e=>e.elim,λa e=>e.elim,λa e=>e.elim,λa e=>e.elim⟩
 .by_cases h:i=0
  .subst h;rw[Tb,J];exact C.f 0 u
  .rw[xi f l h];exact C.f i g
 .by_cases h:i=0
  .subst h;refine⟨(t a e).1,λk z q=> ?_⟩;by_cases r:k=0
   .subst r;exact(t a e).2 q
   .exact absurd (Ã q)<|IA r
  .rw[xi f l h]at e;exact e.elim
theorem PI.ak5(p:PI F i zX E S tr o f gs w qJ)(m:E.M=.fZ)(r:LD F zX qJ)(y:F.S=0)(M:1<=F.L): ∃z:Nat->Nat,kK F.P E.Y (λk=>zX k\/∃x:â,k=û x/\x.block=F.C) w.heap.size (F.j E.I) (tr 0) z (wH f<|f 0) gs w qJ:=by
 let⟨B,s⟩:=p.jz m;have O:gs.size=F.L+(F.n+1):=by rw[p.b,B]
 have C:=p.I.r;have c:0<gs.size:=Z
 refine⟨λb=>if h:F.L<=b/\b<F.L+(F.n+1)then Classical.choose (s (b-F.L) Z)else E.h b,Z,⟨?_,λb x t=> ?_,p.I.I⟩,λb Q _=> ?_,p.a.M 0<|Ã U,λq a d D=> ?_,λq a x d G=>Ç<|XY C.q d G,λa d q u=> ?_,r.2⟩
 .rw[y]at C;exact C.Y c (Ú _) (C.m 0 c) (C.g 0 c) (C.I 0 c) (C.e 0 c) (C.fv 0 c) C.N (C.r 0 c) (C.S 0 c) U λa d=>⟨(C.n 0 c a d).1,(C.n 0 c a d).2 0 c⟩
 .let⟨k,j,l,v,H⟩:=p.I.C b x t;by_cases h:b=0
  .subst h;rw[p.h.1,m]at j;rw[p.h.2,m]at l;exact⟨k,j,l,v,H⟩
  .have T:=(æ.1 t).1;simp only[h,if_false];rw[xi f _ h];have I:∀N,S b=p8 F.P N->tr b=.fD->o b=.no->∃k,lu F.P (b==0) (p8 F.P N) .fD (yV<|f b) k/\yn k .no x/\(k.status=ċ\/k.status=Š)/\(x=k\/True):=λN z e g=>by
    rw[z,e]at j;rw[g]at l;exact⟨k,λJ _=>j _<|fI.fV _ _,l,v,Ç trivial⟩
   by_cases J:b<F.L
   .let⟨z,e,g⟩:=p.l b Z J;grind
   .have K:F.L<=b/\b<F.L+(F.n+1):=Z
    simp only[K,dif_pos,and_self];let⟨z,e,g⟩:=p.k (b-F.L) _ Z<|Classical.choose_spec<|s (b-F.L) Z;rw[show F.L+(b-F.L)=b by omega]at z e g;exact I _ z (g ⟨_,U⟩) e
 .rw[xi f _ Z];rfl
 .rcases r.1 q a d D with z|⟨z,k⟩;all_goals grind
 .unfold Trace.act? at u;let⟨k,z,g⟩:=ġ.1 u;have:=C.q k<|Array.mem_of_getElem? z;rw[g]at this;have e:a.block<w.heap.size:=this;omega
theorem kK.Y{Y:Nat->Prop}{J:Jd}{s:gl}(c:kK P Y zX n J s D f gs w qJ)(t:(f 0).d=0)(o:gs[0]?=Â g)(u:g.status=ċ){p:Jd}{T:gl}{l:fe}(v:l.w=w)(y:l.d=0)(B:¬l.q)(k:∀b,¬l.I b)(r:∀a,¬l.r a)(m:∀a,¬l.N a)(C:∀a,¬l.K a)(E:∀b,l.O b->b<w.heap.size/\∀x:â,x.block=b->¬zX (û x))(F:lu P Ò p T l g): sQ P zX n p T D (wH f l) gs w qJ:=by
 refine⟨c.C,⟨?_,λi x j=> ?_,c.r.I⟩,λi o _=> ?_,B,c.M,c.S,c.b,c.N⟩
 .refine(c.r.r).Y c.C (Ú _) (λb _=>k b) (λa _=>m a) (λ_ _=>id) (λa e=>e.elim (λq=>absurd q<|r a) λq=>absurd q<|m a) (λb z=>z.elim (λq=>(E b q).1) λq=>absurd q<|k b) (λ_ h=>h.elim) (by rw[v];exact fI.fV _ _) ⟨λa e G x j I=> ?_,λa e=>(k _ e).elim,λa e=>(r a e).elim,λa e=>(m a e).elim⟩ (by rw[y,t]) λa e=>absurd e<|C a;rcases c.M G x j (by rw[I];rfl)with z|⟨z,_⟩;all_goals grind
 .by_cases h:i=0
  .subst h;rw[o]at j;obtain rfl:=Ó j;exact⟨g,F,.gO,Ã u,Ã U⟩
  .let⟨g0,e,G,I,z⟩:=c.r.C i x j;simp only[h,if_false]at e z|-;rw[xi f _ h];exact⟨g0,λL _=>e _<|fI.fV _ _,G,I,z⟩
 .rw[xi f _ Z];rfl
end
section
variable{F:Ph}{H:Nat}{J:Jd}{f:Nat->fe}{gs:Array Ý}
structure Td(F:Ph)(H:Nat)(l0 l:fe)(w:ß):Prop where
 fg:∀b,l.O b->l0.O b/\¬(F.M b\/b=F.Y)
 rd:∀b,l.I b->l0.O b/\¬(F.M b\/b=F.Y)/\¬l.O b
 r:∀a,l.r a↔∃x,x<=F.n/\mf F x a
 C:∀a,l.N a↔a=jk F.toFx 0
 k:∀a,l.K a->F.G a
 I:∀b,F.M b\/b=F.Y->l0.O b
 M:∀b,F.M b->H<=b
 f:l.w=w
 d:l.d=0
 q:¬l.q
 N:∀b,F.i b->l.I b
 S:ik w F.C (.cl 1 0)
 Y:ik w (F.I 0) (.cl 0 0)
 c:∀k,1<=k->k<=F.m->ik w (F.I k) (.cl 1 0)
 e:F.d 0 F.l F.i w
def mC(F:Ph)(D:Nat->Nat)(a:Nat->Nat):fW F where
 M:=.go 0
 S:=.kR 0
 C:=λ_=> .nL 0
 N:=λ_=>Á
 I:=a
 c:=λ_=>F.l
 V:=λk=>if k=0 then F.i else λ_=>False
 e:=λ_=>0
 d:=λ_=>Á
 f:=λ_=>0
 b:=.cl 1 0
 a:=λk=>if k=0 then .cl 0 0 else .cl 1 0
 g:=Á
 h:=D
theorem MA(ok:F.Ok)(h:mf F i a):(∃k,1<=k/\k<=F.m/\a=jk F.toFx k)\/∃p,p≠F.f/\a=ju F p:=by
 unfold mf at h;split at h
 .obtain⟨k,c,d,b|b⟩:=h
  .grind
  .exact Ç ⟨_,ok.Y.1 k c d,b⟩
 .let⟨k,c,_,b⟩:=h;exact Ç ⟨_,ok.Y.2 _ (by assumption),b⟩
def u_(ok:F.Ok)(h:mf F i (jk F.toFx 0)):False:=by
 rcases MA ok h with⟨k,c,b,a⟩|⟨p,_,a⟩
 .have:F.I 0=F.I k:=by injection a
  have:=ok.S 0 k Z b this;omega
 .have:F.I 0=F.Y:=by injection a
  exact ok.C<|by rw[<-this];exact Ç ⟨0,Z,U⟩
theorem sQ.ak6(X:gT F)(c:sQ F.P zX H J .fD D f gs w qJ)(hL:F.L=gs.size)(hB:F.S=0)(E:gs[0]?=Â g){l:fe}(st:Td F H (f 0) l w)(vh:(f 0).d=0)(u:Nat->Nat)(hgo:F.g 0 u l g): PI F qJ.size zX (mC F D u) (λi=>if i=0 then F.g 0 u else p8 F.P (D i)) (λ_=> .fD) (λ_=> .no) (λi=>if i=0 then l else yV (f i)) gs w qJ:=by
 have S:=X.C;have C:=c.r.r;have iO:=c.C;have T:0<gs.size:=Z
 have y:(mC F D u).r=0:=U;have hY:∀b,(mC F D u).Y b↔(F.M b\/b=F.Y):=λb=>by
  constructor
  .rintro(q|q|⟨j,B,_⟩);all_goals grind
  .rintro(q|q)
   .exact Ã q
   .exact Ç<|Ã q
 have w_:∀a,l.C a->F.M a.block\/a.block=F.Y:=λa o=>by
  rcases o with q|q
  .let⟨x,_,G⟩:=(st.r a).1 q;rcases MA S G with⟨k,B,t,rfl⟩|⟨p,_,rfl⟩
   .exact Ã<|Ç ⟨k,t,U⟩
   .exact Ç U
  .rw[(st.C a).1 q];exact Ã<|Ç ⟨0,Z,U⟩
 have nC:∀i,i≠0->∀a,¬((λi=>if i=0 then l else yV (f i)) i).C a:=λi h a q=>by simp only[h,if_false]at q;exact q.elim id id
 have nM:∀i,i≠0->∀b,¬((λi=>if i=0 then l else yV (f i)) i).M b:=λi h b q=>by simp only[h,if_false]at q;exact q.elim id id
 have hM0:∀b,l.M b->(f 0).O b/\¬(F.M b\/b=F.Y):=λb q=>q.elim (st.fg b) λz=>⟨(st.rd b z).1,(st.rd b z).2.1⟩;have Qr:ja F.S (λi=>i<gs.size) (mC F D u).Y (λi=>if i=0 then l else yV (f i)) w qJ:=by
  refine⟨λi j E hj N b v=> ?_,λi j E hj N a o=> ?_,λi E b v=> ?_,λi E a o=> ?_,λi E b v=> ?_,λi E a o=> ?_,λi E b v=> ?_,λb v=>C.fv 0 T b<|Ã<|st.I b<|(hY b).1 v,λi E=> ?_,λi E=> ?_,λi E=> ?_,C.l,C.q,λq a e B t I=> ?_,λi E a o=> ?_⟩
  .by_cases h:j=0
   .subst h;simp only[N,if_false]at v;exact v.elim
   .exact nM j h b
  .by_cases h:j=0
   .subst h;simp only[N,if_false]at o;exact o.elim
   .exact nC j h a
  .by_cases h:i=0
   .subst h;simp only[if_true]at v|-;exact λq=>(st.rd b q).2.2 v
   .simp only[h,if_false]at v;exact v.elim
  .by_cases h:i=0
   .subst h;simp only[if_true]at o|-;intro q;rw[(st.C a).1 q]at o;let⟨x,_,G⟩:=(st.r _).1 o;exact u_ S G
   .simp only[h,if_false]at o;exact o.elim
  .by_cases h:i=0;all_goals simp_all
  .by_cases h:i=0;all_goals simp_all
  .by_cases h:i=0
   .subst h;simp only[if_true]at v;exact C.fv 0 T b<|Ã (hM0 b v).1
   .simp_all
  .by_cases h:i=0
   .subst h;simp only[if_true];rw[st.f];exact fI.fV _ _
   .simp only[h,if_false];exact⟨(C.r i E).r,λj q=>q.elim (λz=>z.elim) λz=>z.elim,λa q=>q.elim (λz=>z.elim) λz=>z.elim,λa q=>q.elim (λz=>z.elim) λz=>z.elim,λa q=>q.elim⟩
  .by_cases h:i=0
   .subst h;simp only[if_true];have s:=(C.S 0 T).fg;exact⟨λa o=>s a (st.fg _ o).1,λa o=>(s a (st.rd _ o).1).r,λa o=>s a<|st.I _<|w_ a<|Ã o,λa o=>(s a<|st.I _<|w_ a<|Ç o).r⟩
   .simp only[h,if_false];exact⟨λa o=>o.elim,λa o=>o.elim,λa o=>o.elim,λa o=>o.elim⟩
  .by_cases h:i=0
   .subst h;simp only[if_true];rw[C.f 0 T,vh,st.d]
   .simp only[h,if_false];exact C.f i E
  .have:=C.s q a e B t I;omega
  .by_cases h:i=0
   .subst h;simp only[if_true]at o;let⟨b,v,s⟩:=st.k a o;have Q:a.block=b:=by rcases s with rfl|rfl<;>rfl
    refine⟨by rw[hY,Q];exact Ã v,λk K q=> ?_⟩;by_cases t:k=0
    .subst t;simp only[if_true]at q;let⟨x,_,G⟩:=(st.r a).1 q;rcases MA S G with⟨k',_,_,I⟩|⟨p',_,I⟩
     .rcases s with W|W<;>rw[W]at I<;>simp[fQ,gY,jk]at I
     .have:a.block=F.Y:=by rw[I];rfl
      exact S.C<|by rwa[<-this,Q]
    .simp only[t,if_false]at q;exact q
   .simp only[h,if_false]at o;exact o.elim
 have y_:gM F.P F.S (mC F D u).Y (λi=>if i=0 then F.g 0 u else p8 F.P (D i)) (λ_=> .fD) (λ_=> .no) (λi=>if i=0 then l else yV (f i)) gs w qJ:=by
  refine⟨Qr,λi x G=> ?_,c.r.I⟩;by_cases h:i=0
  .subst h;rw[E]at G;obtain rfl:=Ó G;simp only[if_true];exact⟨g,λs r=>X.GR 0 u l g s hgo r,.gO,Ã<|X.I 0 u l g hgo,Ã U⟩
  .let⟨g0,Q,q2,N,q4⟩:=c.r.C i x G;simp only[h,if_false]at Q|-;exact⟨g0,λs _=>Q _<|fI.fV _ _,q2,N,Ç trivial⟩
 have ak7:iN F (mC F D u) (λi=>if i=0 then l else yV (f i)) gs.size w:=by
  refine⟨λi E a o=> ?_,λx _ t a o=> ?_,λ_=> ?_,λh=>absurd h (by rw[y];omega),λh=>absurd h (by rw[y];omega),λj h=>absurd h (by rw[y];omega),λj h=>absurd h (by rw[y];omega),λx ⟨e,B,_⟩=>(by cases B),λi h=> ?_,λi B t=> ?_,λk K b v=> ?_,λk K i E q=> ?_,λk B t=> ?_,λj h=>absurd h<|by rw[y];omega⟩
  .by_cases h:i=0
   .subst h;simp only[if_true]at o;rcases o with q|q
    .let⟨x,_,G⟩:=(st.r a).1 q;grind [MA]
    .exact Ã ⟨0,Z,(st.C a).1 q⟩
   .simp_all
  .simp only[if_true];exact(st.r a).2 ⟨x,t,o⟩
  .simp only[if_true];exact⟨(st.C _).2 U,st.N⟩
  .rcases h with rfl|⟨x,G,_⟩
   .simp only[if_true];exact st.q
   .grind
  .have:i≠0:=Z
   simp only[this,if_false];rfl
  .have Q:k=0:=by have:k<=0:=K;omega
   subst Q;have B:=st.N b v;refine⟨C.fv 0 T b<|Ã (st.rd b B).1,by rw[hY];exact(st.rd b B).2.1,λi E q=> ?_⟩;by_cases h:i=0
   .subst h;simp only[if_true]at q;exact(st.rd b B).2.2 q
   .simp only[h,if_false]at q;exact q
  .have Q:k=0:=by have:k<=0:=K;omega
   subst Q;by_cases h:i=0
   .subst h;simp only[if_true]at q;let⟨x,_,G⟩:=(st.r _).1 q;exact u_ S G
   .simp only[h,if_false]at q;exact q
  .have:k<=0:=t;omega
 have gg:∀k,k<=F.m->ik w (F.I k) ((mC F D u).a k):=λk K=>by
  by_cases h:k=0
  .subst h;exact st.Y
  .have:(mC F D u).a k=.cl 1 0:=by simp[mC,h]
   rw[this];exact st.c k Z K
 have wdd:Wd F (mC F D u) w:=by
  refine⟨st.S,gg,λj h=>absurd h (by rw[y];omega),λk K=> ?_,λk B t=> ?_,λj h=>absurd h<|by rw[y];omega⟩
  .have Q:k=0:=by have:k<=0:=K;omega
   subst Q;exact⟨.wF,st.e⟩
  .have:k<=0:=t;omega
 have z_:∀k,(sumTo F.n λj=>((mC F D u).C j).gB F j k)=0:=λk=>by
  have:∀n,(sumTo n λ_=>0)=0:=λn=>by
   induction n with
   |zero=>rfl
   |succ n s=>simp[sumTo,s]
  exact this F.n
 have ak8:sumTo (F.n+1) (mC F D u).G=1:=by
  have B:=yr (f':=(mC F D u).G) (j:=0) (n:=F.n+1) Z (λi E=>by
   have:¬i<1:=Z
   show(if i<1 then _ else _)=0;rw[if_neg this])
  have t:∀n,(sumTo n λ_=>0)=0:=λn=>by
   induction n with
   |zero=>rfl
   |succ n s=>simp[sumTo,s]
  rw[t]at B;have I:(mC F D u).G 0=1:=U;omega
 have pss:Ps F (mC F D u):=by
  refine⟨U,λj h=> ?_,λj h=> ?_,λr=>⟨λh=>(by cases h),λh=>(by cases h)⟩,λ_=>rfl,λk=>⟨λh=> ?_,λh=>(by cases h),λp h=>by cases h⟩,λ_ _=>rfl,λj r h=>absurd h (by rw[y];omega),λj h=>absurd h (by rw[y];omega),λh=>absurd U h,λ_ _=>rfl,λj j' h=>absurd h (by rw[y];omega),λj h=>absurd h (by rw[y];omega),λc reg h=> ?_,λreg h=>(by cases h),λr s h=>(by cases h),λx p h=>(by cases h),λh=> ?_,λk B t I=> ?_,λk B t=> ?_,λj r h=>absurd h (by rw[y];omega),λj r h=>absurd h (by rw[y];omega),λh=>(by cases h),λ_ _=>⟨1,rfl⟩,λ_ _ _=>rfl,λj r h=>absurd h<|by rw[y];omega⟩
  .rcases h with h|h|h|h<;>cases h;omega
  .rcases h with h|h|h<;>cases h
  .cases h;omega
  .cases h;exact⟨ak8.symm,U⟩
  .rcases h with h|h|h<;>cases h
  .rw[z_];have:k≠0:=Z
   simp[mC,this]
  .have Q:k=0:=by have:k<=0:=t;omega
   subst Q;exact Ç<|Ç ⟨λp h=>(by cases h),Ã ⟨rfl,z_ 0⟩⟩
 have s:TI F.toFx qJ.size zX (mC F D u).r (mC F D u).S.rl (mC F D u).V (mC F D u).e (mC F D u).d (mC F D u).iy (mC F D u).f qJ:=by
  refine⟨Ú _,λp a x o Q hc=> ?_,λx h=>absurd h (by rw[y];omega),λk B t=> ?_,λk B t=> ?_,λb v=>c.b _<|st.M b v,λx h=>absurd h (by rw[y];omega),λp a B t=> ?_,λp a _ t I=>c.M p a t I,λp g _ t I W=>c.N p g t I W⟩
  .let⟨b,v,G⟩:=hc;have Qo:x.block=b:=by rcases G with rfl|rfl<;>rfl
   rcases c.S p a x o Q with q|q
   .exact Ã ⟨PQ o,q⟩
   .have:=st.M b v;omega
  .have:k<=0:=t;omega
  .have:k<=0:=t;omega
  .have:=PQ t;omega
 refine⟨by rw[y,hL];rfl,y_,⟨by simp only[if_true];rfl,U⟩,λh=>absurd h (by rw[y];omega),λj h=>absurd h (by rw[y];omega),λx e h=>absurd h (by rw[y];omega),λi B t=>⟨?_,U,U⟩,ak7,wdd,pss,s,λi x G v=> ?_,λj r h=>absurd h<|by rw[y];omega⟩
 .have:i≠0:=Z
  simp only[this,if_false];rfl
 .let⟨g0,_,q2,N,_⟩:=y_.C i x G;cases q2 with
  |gO=>rcases N with N|N<;>rw[v]at N<;>cases N
end
end Go.Proofs.Y.fA
namespace Go.Proofs.Y.fA
open Go Go.Conc Go.Proofs.Y.Lift Go.RowKit Go.Conc.Lib Go.ConcR.Gen
open Go.Proofs Go.Proofs.YtgpphkdoanciiaaGreatDoor
section
variable{kd:Nat->Int}{R:Nat}
theorem IB(h:i∈ij kd R):i<R/\kd i=1:=by have:=Ā.1 h;grind
theorem IC(h:i∈jG kd R):i<R/\kd i≠1:=by have:=Ā.1 h;grind
def ak9:(ij kd R).Nodup:=ņ.filter _
def ala:(jG kd R).Nodup:=ņ.filter _
def C3(h:k<jJ.length):jJ[k]?=Â (jJ.getD k 0):=by simp[List.getD,h]
def xj{l:List Nat}(h:k<l.length):l.getD k 0∈l:=ħ<|C3 h
def A_(c:jJ.Nodup)(a:i<jJ.length)(d:j<jJ.length)(h:jJ.getD i 0=jJ.getD j 0):i=j:=by have b:=C3 a;rw[h]at b;exact(List.getElem?_inj a c).1<|b.trans (C3 d).symm
def A':∀R,(ij kd R).length+(jG kd R).length=R
 |0=>rfl
 |R+1=>by
  have:=A' R;by_cases h:kd R=1
  .rw[uq h,SI h];simp;omega
  .rw[xg h,SJ h];simp;omega
end
structure yW where
 γ:Type
 C:γ
 M:Nat->γ->γ->Prop
 RD:γ->Ï->(Nat->Prop)->ß->Prop
 I:Nat->ByteArray
 r:Nat->Prop
def MB(M:yW)(L n R:Nat)(kd:Nat->Int)(rq g:Nat->Nat)(a b:Option â)(c d e f h j:Nat)(l:List ç)(o:Nat->Prop)(RC eX:ß->Prop):SD where
 L:=L
 g:=0
 n:=n
 m:=fP kd R
 q:=(jG kd R).length
 N:=R
 I:=j
 C:=g
 M:=e
 S:=f
 s:=h
 u:=a
 t:=c
 l:=b
 k:=d
 o:=λk=>Â ⟨rq<|(ij kd R).getD (k-1) 0,0,Á⟩
 a:=λk=>(ij kd R).getD (k-1) 0
 i:=λi=>Â ⟨rq<|(jG kd R).getD i 0,0,Á⟩
 c:=λi=>(jG kd R).getD i 0
 b:=λi=>if i<(jG kd R).length then fP kd ((jG kd R).getD i 0)else 0
 f:=l
 d:=o
 RC:=RC
 p:=eX
 γ:=M.γ
 w:=M.C
 v:=M.r
 h:=M.M
 RD:=M.RD
 e:=λk=>M.I<|(ij kd R).getD (k-1) 0
 j:=λi=>M.I<|(jG kd R).getD i 0
section
variable{M:yW}{L R:Nat}{kd:Nat->Int}{a:Nat->Nat}{c:Option â}{cs:List ç}{RB:Nat->Prop}{RC eX:ß->Prop}{l d f:fe}
def alb(h:Mq kd a D R (Æ O (fP kd R) j7) (Æ c (jG kd R).length j6) v j b J i j9 m l d f)(F:∀w p,RC w->(∀g,RB g->p.heap[g]?=w.heap[g]?)->RC p)(G:∀w p,eX w->(p.os=w.os/\p.output=w.output)->eX p)(H:∀s B V w p,M.RD s B V w->(∀g,V g->p.heap[g]?=w.heap[g]?)->M.RD s B V p)(I:1<=n)(K:1<=L)(X:n+R<1000):(MB M L n R kd a D O c j7 j6 j b J i cs RB RC eX).Ok:=by
 have Y:=A' (kd:=kd) R;have hc:(ij kd R).length=fP kd R:=U;let⟨a1,a2,a3⟩:=h.M;let⟨a4,a5,a6⟩:=h.S;have z:∀k,k<=fP kd R->d.w.heap.size<=D k/\D k<J:=λk r=>⟨(h.r.M k r).1,h.N k r⟩;have SX:=Õ (z 0 Z).1<|Ł (z 0 Z).2;refine⟨F,G,H,I,K,?_,?_,λo=> ?_,λo t=>(IC<|xj t).1,λk C x=> ?_,λk r e=> ?_,λk u r N e=> ?_,?_,λo i' t P e=>A_ ala t P e,λk u C x h3 Q e=> ?_,λo k t C x e=> ?_,λg _=>ă g⟩
 .show n+(jG kd R).length+fP kd R<1000;omega
 .show R<1000;omega
 .show(if o<(jG kd R).length then fP kd ((jG kd R).getD o 0)else 0)<=fP kd R;split
  .rename_i t;exact Z5<|Ł (IC<|xj t).1
  .omega
 .refine(IB<|xj ?_).1;have:k<=fP kd R:=x;omega
 .have:=(z k r).2;have y:D k=i:=e;omega
 .have y:D k=D u:=e;have S:=r;have T:=N;rcases Nat.lt_trichotomy k u with q|q|q
  .have:=h.r.S k u q T;omega
  .exact q
  .have:=h.r.S u k q S;omega
 .rintro(e|⟨k,r,e⟩)
  .have y:j=i:=e;omega
  .have y:j=D k:=e;have:=(z k r).1;omega
 .have W:k<=fP kd R:=x;have h4':u<=fP kd R:=Q;have:=A_ ak9 Z Z e;omega
 .have W:k<=fP kd R:=x;have y:(jG kd R).getD o 0=(ij kd R).getD (k-1) 0:=e;have E:=(IC<|xj t).2;rw[y]at E;exact E<|(IB (kd:=kd) (R:=R)<|xj (k:=k-1) Z).2
end
abbrev kL(M:yW)(L n R:Nat)(kd:Nat->Int)(rq g:Nat->Nat)(c d:Option â)(e f h a i j:Nat)(cs:List ç)(l:fe):SD:=MB M L n R kd rq g c d e f h a i j cs (λb=>l.O b\/b=a) (λw=>∀b,l.O b->w.heap[b]?=l.w.heap[b]?) λw=>w.os=l.w.os/\w.output=l.w.output
def MC(D:SD)(l:fe):fe:={l with O:=λb=>l.O b/\¬(D.Y.M b\/b=D.M)/\¬D.d b,I:=D.d,r:=λa=>∃x,x<=D.n/\mf (D.r Ä) x a,N:=λa=>a=jk D.Y 0,K:=D.Y.G}
section
variable{M:yW}{L:Nat}{f:Nat->Int}{r:Nat->Nat}{u:Option â}{y:Nat}{cs:List ç}{l B o:fe}
def MD{cs:Array Ï}(h:w.heap[b]?=Â (É cs e)):w.frozen? ⟨b,i,Á⟩=Ì:=by simp[î,h]
def Te{cs:Array Ï}(h:w.heap[b]?=Â (É cs e))(a:cs[0]?=Â (Ê ê<|(i:Int)*fY+0))(d:cs[1]?=Â (Ê Ď 0))(f:i<1000000):ik w b (.cl i 0):=by
 refine⟨?_,?_,MD h,MD h,(⟨f,Z,λ_=>rfl⟩)⟩
 .simp[Ö,fQ,h,a,GS.st]
 .simp[Ö,gY,h,d,GS.sm]
def alc(h:Mq f r D j (Æ O (fP f j) j6) (Æ u (jG f j).length y) v k m j9 b j7 J l B o)(s:gq l)(ME:∀g,¬l.I g)(W:¬l.q)(X:l.d=0)(hH:i<=l.w.heap.size)(hV:∀g,M.r g->l.O g)(qR:M.RD M.C v M.r o.w)(yU:o.w.os=l.w.os/\o.w.output=l.w.output)(hn:1<=n)(hs:n+j<1000){t:Array Ï}(hT:Ig m b (D<|fP f j) n (Æ u (jG f j).length y) t)(dk:Nat->Nat): Td ((kL M L n j f r D O u j6 y k m j9 b cs l).r Ä) i o (MC (kL M L n j f r D O u j6 y k m j9 b cs l) o) o.w/\ ((kL M L n j f r D O u j6 y k m j9 b cs l).r Ä).g 0 dk (MC (kL M L n j f r D O u j6 y k m j9 b cs l) o) (CF (À<|Â ⟨b,0,Á⟩) jQ (À<|Â ⟨b,0,Á⟩) (ñ #[]) j7 J<|Fa t::cs):=by
 let⟨a1,a2,a3⟩:=h.M;let⟨a4,a5,a6⟩:=h.S;have N:∀C,C<=fP f j->B.w.heap.size<=D C/\D C<j9:=λC E=>⟨(h.r.M C E).1,h.N C E⟩;have SX:=Õ (N 0 Z).1<|Ł (N 0 Z).2;have Y:=λg q=>s.fv g<|Ã q;have hc:(ij f j).length=fP f j:=rfl;have Q:∀g,(kL M L n j f r D O u j6 y k m j9 b cs l).Y.M g\/g=k->g=b\/(∃C,C<=fP f j/\g=D C)\/g=k:=λg q=>by
  rcases q with(q|⟨C,S,q2⟩)|q
  .exact Ã q
  .exact Ç<|Ã ⟨C,S,q2⟩
  .exact Ç<|Ç q
 have H:∀g,(kL M L n j f r D O u j6 y k m j9 b cs l).Y.M g\/g=k->l.w.heap.size<=g/\g≠m/\g≠j9/\g≠j7/\g≠J/\(∀C,(Æ O (fP f j) j6).ownBlock=Â C->g≠C)/\(∀C,(Æ u (jG f j).length y).ownBlock=Â C->g≠C):=λg q=>by
  rcases Q g q with rfl|⟨C,E,rfl⟩|rfl
  .exact⟨Z,Z,Z,Z,Z,λC e=>by have:=h.o3 C e;omega,λC e=>by have:=h.o4 C e;omega⟩
  .have:=N C E;exact⟨Z,Z,Z,Z,Z,λp e z=>(h.r.M C E).2.1<|z▸e,λp e z=>(h.r.M C E).2.2<|z▸e⟩
  .exact⟨Z,Z,Z,Z,Z,λC e=>by have:=(h.r.r C e).2;omega,λC e=>by have:=(h.r.C C e).2;omega⟩
 have ald:∀g,(kL M L n j f r D O u j6 y k m j9 b cs l).Y.M g\/g=k->o.O g:=λg q=>by
  rcases Q g q with rfl|⟨C,E,rfl⟩|rfl
  .exact h.gL.fg
  .by_cases x:C=0
   .subst x;exact h.r.N.fg
   .exact(h.r.I C Z E).fg
  .exact h.I.fg
 have K:∀g,o.O g->l.w.heap.size<=g->g≠m->¬((kL M L n j f r D O u j6 y k m j9 b cs l).Y.M g\/g=k)->(MC (kL M L n j f r D O u j6 y k m j9 b cs l) o).O g:=λg S q2 q4 q3=>⟨S,q3,λq=>q.elim (λq=>by have:=Y g q;omega) q4⟩;have B_:ik o.w b (.cl 1 0):=Te h.gL.I U U Z;have B':ik o.w (D 0) (.cl 0 0):=Te h.r.N.I U U Z;have C_:∀C,1<=C->C<=fP f j->ik o.w (D C) (.cl 1 0):=λC I P=>Te (h.r.I C I P).I U U Z;have T:∀g c,ik o.w g c->nQ g o.w:=λg c q=>⟨by rw[show(⟨g,0,Á⟩:â)=fQ g from rfl,q.C];rfl,by rw[show(⟨g,1,Á⟩:â)=gY g from rfl,q.M];rfl⟩;refine⟨⟨λg q=>⟨q.1,q.2.1⟩,λg q=>⟨?_,λz=> ?_,λz=>z.2.2 q⟩,λa=>Iff.rfl,λa=>Iff.rfl,λa q=>q,λg q=>ald g q,λg q=>Õ hH (H g<|Ã q).1,U,h.C.d.trans X,by show¬o.q;rwa[h.C.q],λg q=>Ã<|hV g q,B_,B',C_,⟨⟨v,h.r.N.r U,qR⟩,λ_=> ?_⟩⟩,?_⟩
 .rcases q with q|q
  .exact h.C.O g q
  .rw[q];exact h.Y.fg
 .rcases q with q|q
  .have:=(H g z).1;have:=Y g q;omega
  .exact(H g z).2.1 q
 .refine⟨?_,by unfold kY;rw[show o.w.heap[(kL M L n j f r D O u j6 y k m j9 b cs l).M]?=Â (yO j)from h.I.I],yU⟩;show o.w.cell? ⟨k,j,Á⟩=Á;simp only[Ö,h.I.I,yO,ı,Ķ,if_false];exact Array.getElem?_eq_none<|by rw[ř];exact Ú _
 refine⟨h.C.d.trans X,by show¬o.q;rwa[h.C.q],ă _,Ã ⟨U,⟨λg q=>⟨⟨g,q,Ã U⟩,⟨g,q,Ç U⟩⟩,λg q=> ?_,Ç<|Ç U,h.Y.r U,(Ã<|K j9 h.b.fg Z Z λz=>(H j9 z).2.2.1 U),h.b.r U,λC E=> ?_,λe hi=> ?_,λa q=> ?_,λg q=>Ç q,λg q=>h.C.r g (Ã q) id⟩,t,j7,J,jQ,hT,⟨(K j7 h.c.fg Z Z λz=>(H j7 z).2.2.2.1 U),h.c.I⟩,⟨(K J h.a.fg Z Z λz=>(H J z).2.2.2.2.1 U),h.a.I⟩,U⟩⟩
 .rcases Q g (Ã q)with rfl|⟨C,E,rfl⟩|rfl
  .exact T _ _ B_
  .by_cases x:C=0
   .subst x;exact T _ _ B'
   .exact T _ _<|C_ C Z E
  .exact absurd q λz=>by
    rcases z with z|⟨C,x,F⟩
    .have G:g=b:=z;omega
    .have G:g=D C:=F;have:=(N C x).1;omega
 .have uZ:C<fP f j:=E;rcases h.r.ko.2 with⟨_,e2⟩|⟨g,cap,cur,V,_,hcur,Iv⟩
  .omega
  .have Ay:O=Â ⟨g,0,Á⟩:=by injection V
   subst Ay;have x:=h.r.ko.cells U;have hz:(ij f j).zipIdx[C]?=Â ((ij f j).getD C 0,C):=by rw[List.getElem?_zipIdx,C3 Z];simp
   have F:∀c,c<4->(ko f r D j)[C*4+c]?=(tI r D ((ij f j).getD C 0,C))[c]?:=λc q=>SL (λ_=>rfl) q _ C _ hz;have G:∀p,(⟨g,0,Á⟩:â).add p=⟨g,p,Á⟩:=λp=>by rw[ğ,č]
   refine⟨g,U,Ã (K g (h.r.r g U).1 (Õ Z (h.r.r g U).2) (by have:=(h.r.r g U).2;omega) λz=>(H g z).2.2.2.2.2.1 g U U),?_,?_,?_,?_⟩
   .have:=x (C*4+0) _<|F 0 Z;rwa[G]at this
   .have:=x (C*4+1) _<|F 1 Z;rwa[G]at this
   .have:=x (C*4+2) _<|F 2 Z;rwa[G]at this
   .have:=x (C*4+3) _<|F 3 Z;rwa[G]at this
 .have lH:e<(jG f j).length:=hi;rcases h.r.mM.2 with⟨_,e2⟩|⟨g,cap,cur,V,_,hcur,Iv⟩
  .omega
  .have S8:u=Â ⟨g,0,Á⟩:=by injection V
   subst S8;have x:=h.r.mM.cells U;have F:∀c,c<4->(mM f r D j)[e*4+c]?=(tQ f r D<|(jG f j).getD e 0)[c]?:=λc q=>SL (λ_=>rfl) q _ e _<|C3 lH;have G:∀p,(⟨g,0,Á⟩:â).add p=⟨g,p,Á⟩:=λp=>by rw[ğ,č]
   refine⟨g,U,Ã (K g (h.r.C g U).1 (Õ Z (h.r.C g U).2) (by have:=(h.r.C g U).2;omega) λz=>(H g z).2.2.2.2.2.2 g U U),?_,?_,?_,?_⟩
   .have:=x (e*4+0) _<|F 0 Z;rwa[G]at this
   .have:=x (e*4+1) _<|F 1 Z;rwa[G]at this
   .have:=x (e*4+2) _<|F 2 Z;rw[G]at this;show o.w.cell? ⟨g,e*4+2,Á⟩=Â (À<|Â ⟨D (if e<(jG f j).length then fP f ((jG f j).getD e 0)else 0),0,Á⟩);rw[if_pos lH];exact this
   .have:=x (e*4+3) _<|F 3 Z;rwa[G]at this
 .have V:∀p,p<j->(o.w.cell? ⟨k,p,Á⟩).isSome=Ò/\o.w.frozen? ⟨k,p,Á⟩=Ì:=λp hp=>by
   refine⟨?_,MD h.I.I⟩;have:p<(madeCells (ŵ<|à ⟨#[]⟩) j).size:=by rwa[ř]
   simp[Ö,h.I.I,this]
  let⟨x,_,F⟩:=q;unfold mf at F;split at F
  .obtain⟨C,I,P,rfl|rfl⟩:=F
   .have G:=P;refine⟨?_,MD (h.r.I C I G).I⟩;show(o.w.cell? ⟨D C,2,Á⟩).isSome=Ò;rw[(h.r.I C I G).r U];rfl
   .have G:C<=fP f j:=P;exact V _ (IB<|xj Z).1
  .obtain⟨e,I,_,rfl⟩:=F;exact V _ (IC<|xj I).1
end
end Go.Proofs.Y.fA
namespace Go.Proofs.Y.fA
open Go Go.Conc Go.Proofs.Y.Lift Go.RowKit Go.Conc.Lib Go.ConcR.Gen
open Go.Proofs Go.Proofs.YtgpphkdoanciiaaGreatDoor
open Go.ConcN (sumTo sumTo_congr)
def MG(kd:Nat->Int)(rq:Nat->Nat)(R n:Nat)(f:Ï)(l:fe)(cs:List ç):Jd:=λh i=>
 ∃g j t k b m c o a d e p,Mq kd rq g R k b f m c o a d e l j h/\Ig c a (g<|fP kd R) n b t/\i=CF (À<|Â ⟨a,0,Á⟩) p (À<|Â ⟨a,0,Á⟩) (ñ #[]) d e (Fa t::cs)
theorem C'(h:w.ownsRow i e j v n l):∃b c,v=Æ b n c:=by rcases h.2 with⟨a,d⟩|⟨b,f,g,a,_⟩;all_goals grind
section
variable{F:Ph}{E:fW F}{S:Nat->Jd}{B:Nat->gl}{G:Nat->iD}{y:Nat->fe}{o:Array Ý}
theorem PI.ale(p:PI F j9 zX E S B G y o w qJ)(c:E.M=.fZ)(d:1<=F.n):E.S=.kR F.m/\(∀i,i<F.q->w.cell? (ju F<|F.a i)=Â (à<|F.k i)/\∀k,k<o.size->¬(y k).r (ju F<|F.a i)):=by
 let⟨j,a⟩:=p.jz c;refine⟨p.C.f (by let⟨N,h⟩:=a 0 Z;rw[h];simp),λi k=> ?_⟩;have l:i%F.n<F.n:=ĵ _ d;have e:i%F.n+i/F.n*F.n=i:=by rw[Nat.mul_comm];exact Nat.mod_add_div i F.n
 let⟨N,h⟩:=a (i%F.n+1) Z;let⟨_,r,f,g⟩:=p.C.l (i%F.n) Z (by rw[h];simp);have b:i/F.n<(E.C<|i%F.n).ky:=by rw[f];exact(g (i/F.n)<|by rwa[e])
 have s:=p.M.N (i%F.n) Z (i/F.n) (by rwa[e]) b;have t:=p.a.d (i%F.n) Z (i/F.n) (by rwa[e]) b;grind
end
structure alf(D:SD)(l:fe)(w:ß)(g:Ý):Prop where
 I:∀b,l.O b->w.heap[b]?=l.w.heap[b]?
 cba:w.cell? ⟨D.S,0,Á⟩=Â (Æ (Â ⟨D.M,0,Á⟩) D.N D.N)
 kR:∀k,1<=k->k<=D.m->w.cell? ⟨D.M,D.a k,Á⟩=Â (à<|D.e k)
 Tf:∀i,i<D.q->w.cell? ⟨D.M,D.c i,Á⟩=Â (à<|D.j i)
 IE:∃s sl V,nN (D.r Ä) D.m s/\w.cell? ⟨D.C D.m,2,Á⟩=Â sl/\D.RD s sl V w/\∀b,V b->b<w.heap.size/\b≠D.I
 fv:D.M<w.heap.size/\D.S<w.heap.size/\D.C D.m<w.heap.size
 r:D.M≠D.I/\D.S≠D.I/\D.C D.m≠D.I
 alg:∃ts,SE D.S D.I (D.C D.m) ts/\g=Fh ts D.f
 C:w.cell? ⟨D.M,D.N,Á⟩=Á/\kY w D.M=Â (0,0)
 io:w.os=l.w.os/\w.output=l.w.output
section
variable{M:yW}{f:Nat->Int}{u:Nat->Nat}{cs:List ç}{l:fe}{I:Nat->Nat}{y:Nat->fe}{o:Array Ý}
theorem alh(c:sQ Ä zX j (MG f u J n v l cs) .fD I y o w qJ)(S:Option (Nat×Nat))(s:gq l)(ME:∀b,¬l.I b)(hq:¬l.q)(hd:l.d=0)(hH:j<=l.w.heap.size)(hV:∀b,M.r b->l.O b)(qR:∀s S V w G,M.RD s S V w->(∀b,V b->G.heap[b]?=w.heap[b]?)->M.RD s S V G)(C4:M.RD M.C v M.r l.w)(yU:w.os=l.w.os/\w.output=l.w.output)(hn:1<=n)(hs:n+J<1000) (hA:∀g r t B D e m p h,l.w.heap.size<=m->Fi (kL M o.size n J f u g r t B D e m p h cs l)/\Fj (kL M o.size n J f u g r t B D e m p h cs l)): ∃g r t B D e m p h,(l.w.heap.size<=e/\l.w.heap.size<=m/\l.w.heap.size<=h/\∀k,k<=fP f J->l.w.heap.size<=g k)/\ ∃N Y a H C i G K E z,ŷ Ä N (Ĭ o w S) qJ=(.next<|Ĭ i G K,E)/\i.size=o.size+(n+1)/\i[0]?=Â z/\a<=G.heap.size/\h<a/\j<=a/\(C 0).d=0/\z.status=ċ/\ kK Ä Y (λF=>zX F\/∃x:â,F=û x/\x.block=h) a (k_<|kL M o.size n J f u g r t B D e m p h cs l) .fD H C i G E/\alf (kL M o.size n J f u g r t B D e m p h cs l) l G z:=by
 have h0:=c.C;obtain⟨g0,LC⟩:∃g,o[0]?=Â g:=⟨_,ì h0⟩;let⟨g1,q1,q2,q3,_⟩:=c.r.C 0 g0 LC;obtain rfl:g0=g1:=by cases q2;rfl
 have hz:=q1 w<|c.r.r.r 0 h0;let⟨g,lp,tt,iv,qv,e,m,p,h,bw,bf,T,F,hT,hg⟩:=hz;obtain⟨r,B,rfl⟩:=C' F.r.ko;obtain⟨t,D,rfl⟩:=C' F.r.mM;let⟨a1,a2,a3⟩:=F.M;let⟨a4,a5,a6⟩:=F.S;have Tg:∀k,k<=fP f J->lp.w.heap.size<=g k/\g k<p:=λk W=>⟨(F.r.M k W).1,F.N k W⟩;have aup:=Tg 0 Z;have ali:=qR _ _ _ _ _ C4 λb q=>F.C.r b (Ã<|hV b q) id;obtain⟨st,hgo⟩:=alc F s ME hq hd hH hV ali yU hn hs hT λ_=>0;have ok:=alb (L:=o.size) (cs:=cs) (RB:=λb=>l.O b\/b=m) (RC:=λw=>∀b,l.O b->w.heap[b]?=l.w.heap[b]?) F (λw G P X b a=>(X b<|Ã a).trans<|P b a) (eX:=λw=>w.os=l.w.os/\w.output=l.w.output) (λw G P X=>⟨X.1.trans P.1,X.2.trans P.2⟩) qR hn Z hs;let⟨hAdd,alj⟩:=hA g r t B D e m p h Z;have Hy:=ak0 ok hAdd alj;have sP:=F.C.d.trans hd;have st':Td ((kL M o.size n J f u g r t B D e m p h cs l).r Ä) j (y 0) (MC (kL M o.size n J f u g r t B D e m p h cs l) {y 0 with w:=w}) w:=⟨st.fg,st.rd,st.r,st.C,st.k,st.I,st.M,st.f,st.d,st.q,st.N,st.S,st.Y,st.c,st.e⟩;rw[<-hg]at hgo;have p0:=c.ak6 Hy U U LC st' sP (λ_=>0) hgo;let⟨N1,E,S1,tr1,kp1,auq,gs1,w1,D_,t1,r1,x,hf,he⟩:=aiS Hy _ _ _ _ _ _ _ o w S qJ U U p0 (by intro q;cases q);let⟨pz,_⟩:=x.jz hf;let⟨Fl,c1⟩:=x.ak5 hf he U h0;let⟨N2,Ti,Tk,gs2,w2,MH,t2,r2,z2,N,c2⟩:=c1.G (λa i z=>Ã<|Hy.M E.I a i z) (tr1 0) _ Fl _ gs1 w1 D_ t1 U;have C5:gs1.size=o.size+(n+1):=by rw[x.b,pz];rfl
 have MI:=c2.C;obtain⟨g2,MJ⟩:∃g,gs2[0]?=Â g:=⟨_,ì MI⟩;let⟨g3,u1,u2,u3,_⟩:=c2.r.C 0 g2 MJ;obtain rfl:g2=g3:=by cases u2;rfl
 have hE:=u1 w2<|c2.r.r.r 0 MI;let⟨e1,e2,dat,ts,rI,hge⟩:=hE;have Q:0<gs1.size:=Z
 have C:=x.I.r;have hY:=λb q z=>C.I 0 Q b (Ã z) q;have H:E.Y e:=Ç<|Ã U;have yG:∀k,k<=fP f J->E.Y (g k):=λk W=>Ã<|Ç ⟨k,W,U⟩;have D':E.Y h:=Ã<|Ã U;let⟨hip,alk⟩:=x.ale hf hn;have hmd:E.S.md=fP f J:=by rw[hip];rfl
 let⟨Hg,⟨E_,Tl,ML⟩,_⟩:=x.M.M (fP f J) Z;have K:=C.N;refine⟨g,r,t,B,D,e,m,p,h,⟨a1,Z,Z,λk W=>by have:=Tg k W;omega⟩,N1+N2,E.Y,w1.heap.size,Ti,Tk,gs2,w2,MH,t2,g2,?_,Z,MJ,N.r,K h D',?_,e1,Hy.M E.I _ _<|u1 w2<|c2.r.r.r 0 MI,c2,⟨dat.d,dat.c,λk P X=> ?_,λi hi=> ?_,?_,?_,(⟨show e≠h by omega,show m≠h by omega,show g (fP f J)≠h by have:=Tg (fP f J)<|Ú _;omega⟩),⟨ts,rI,hge⟩,?_,?_⟩⟩
 .rwa[runNT_add,show ŷ Ä N1 (Ĭ o w S) qJ=_ from r1]
 .grind
 .have a:k<=fP f J:=X;refine Ŀ (N.M ⟨e,_,Á⟩ (K e H) (hY e H)<|x.a.g k P Z 0 Q)<|x.M.S k P Z
 .let⟨T,v2⟩:=alk i hi;exact Ŀ (N.M ⟨e,_,Á⟩ (K e H) (hY e H)<|v2 0 Q) T
 .refine⟨E.c<|fP f J,E_,E.V<|fP f J,Hg,(Ŀ (N.M ⟨g<|fP f J,2,Á⟩ (K _<|yG _<|Ú _) (hY _<|yG _<|Ú _)<|x.a.N (fP f J) Z 0 Q) Tl),qR _ _ _ _ _ ML λb q=> ?_,λb q=> ?_⟩
  .let⟨T,v2,v3⟩:=x.a.I (fP f J) Z b q;exact N.ki b T (v3 0 Q) λa ha z=>v2<|ha▸C.e 0 Q a (Ã z)
  .let⟨T,v2,v3⟩:=x.a.I (fP f J) Z b q;exact⟨È T N.r,λz=>v2<|z▸D'⟩
 .refine⟨È (K e H) N.r,c2.r.r.fv 0 MI m<|Ç dat.Y,È (K _<|yG _<|Ú _) N.r⟩
 .let⟨a,y2,_⟩:=(x.M.M 0<|ă _).2.2 U;exact⟨Ŀ (N.M ⟨e,J,Á⟩ (K e H) (hY e H)<|x.a.PW Hy.C 0 Q) a,(N.Y e (K e H)<|hY e H).trans y2⟩
 .let⟨_,_,a⟩:=(x.M.M 0<|ă _).2.2 U;exact⟨N.C.trans a.1,N.I.trans a.2⟩
end
def Tm(a:Ν->Prop)(w:ß):fe where
 O:=λb=>b<w.heap.size/\∀x:â,x.block=b->¬a (û x)
 I:=λ_=>False
 r:=λ_=>False
 N:=λ_=>False
 K:=λ_=>False
 q:=False
 d:=0
 w:=w
def F_(a:Ν->Prop)(w:ß):gq (Tm a w):= ⟨λ_ _ h=>h,λ_ h=>h.elim,λ_ h=>h.elim (λq=>q.elim) λq=>q.elim,λ_ h=>h.elim (λq=>q.1) λq=>q.elim,λ_ h=>h.elim (λq=>q.elim) λq=>q.elim,λ_ h=>h.elim⟩
structure xk(jr:Ν->Prop)(H:Nat)(l:fe):Prop where
 r:∀x:â,jr (û x)->x.block<H
 fg:∀b,l.O b->∀x:â,x.block=b->¬jr (û x)
 C:H<=l.w.heap.size
inductive AP(M:yW):Nat->M.γ->Prop
 |wF:AP M 0 M.C
 |Em {k:Nat} {s s':M.γ} (h:AP M k s) (hn:M.M k s s'):AP M (k+1) s'
structure GA(M:yW)(R:Nat)(kd:Nat->Int)(l:fe)(an:Nat)(sl:Ï)(l':fe):Prop where
 wM:∀b,l.O b->l'.O b/\l'.w.heap[b]?=l.w.heap[b]?
 ky:l'.O an/\∀p,p<R->l'.w.cell? ⟨an,p,Á⟩=Â (à<|M.I p)
 IE:∃s V,AP M (fP kd R) s/\M.RD s sl V l'.w/\∀b,V b->l'.O b
 d:l'.d=0
 q:¬l'.q
 rd:∀b,¬l'.I b
 xl:(∀a,¬l'.r a)/\(∀a,¬l'.N a)/\∀a,¬l'.K a
 D6:l'.w.cell? ⟨an,R,Á⟩=Á/\kY l'.w an=Â (0,0)
section
variable{M:yW}{R H:Nat}{kd:Nat->Int}{e:Nat->Nat}{f:List ç}{l:fe}{jr:Ν->Prop}{o:Nat->fe}
def alm{a:Option â}{s:M.γ}(h:nN ((kL M i n R kd e D O a j b m J j9 j7 qX l).r Ä) k s):AP M k s:=by
 have c:∀(k:Nat) (s:((kL M i n R kd e D O a j b m J j9 j7 qX l).r Ä).γ),nN ((kL M i n R kd e D O a j b m J j9 j7 qX l).r Ä) k s->AP M k s:=λk s h=>by
  induction h with
  |wF=>exact .wF
  |Em _ d f=>exact .Em f d
 exact c k s h
def aln{J:(Ν->Prop)->Nat->Jd}{cf:ç}{a:ŏ}(Hc:qX=cf.at a (Ñ Q (i::jJ)::L)::f)(c:sQ Ä jr H (MG kd e R n v l qX) .fD D o E w qJ)(F:Option (Nat×Nat))(s:gq l)(ME:∀b,¬l.I b)(hq:¬l.q)(hd:l.d=0)(S:xk jr H l)(hV:∀b,M.r b->l.O b)(qR:∀s F V w u,M.RD s F V w->(∀b,V b->u.heap[b]?=w.heap[b]?)->M.RD s F V u)(alo:∀s F V w,M.RD s F V w->(∃p m c,F=Æ p m c)/\∀b,V b->l.O b\/l.w.heap.size<=b)(C4:M.RD M.C v M.r l.w)(yU:w.os=l.w.os/\w.output=l.w.output)(hn:1<=n)(hs:n+R<1000) (hA:∀g ib qb ci cq B ba bi I,l.w.heap.size<=ba->Fi (kL M E.size n R kd e g ib qb ci cq B ba bi I qX l)/\Fj (kL M E.size n R kd e g ib qb ci cq B ba bi I qX l)) (hJ:∀Fo C W B p m c,xk Fo C W->gq W->GA M R kd l B (Æ p m c) W->fi Ä Ò (J Fo C) W (G (cf.at (a.put ((Q[i]?).bind (·.dst))<|ñ #[Æ (Â ⟨B,0,Á⟩) R R,Æ p m c])<|Ñ Q jJ::L) f)): ∃N Fo C T yY IF gs' u uu t',ŷ Ä N (Ĭ E w F) qJ=(.next<|Ĭ gs' u uu,t')/\(u.os=l.w.os/\u.output=l.w.output)/\sQ Ä Fo C (J Fo C) T yY IF gs' u t':=by
 let⟨g,ib,qb,ci,cq,B,ba,bi,I,⟨b1,b2,b3,b4⟩,N,Y,C,yY,IF,gs',u,uu,t',g',r,z1,z2,z3,z4,z5,z6,z7,cY,t⟩:=alh c F s ME hq hd S.C hV qR C4 yU hn hs hA;let⟨st,E_,V,Hg,Tl,ML,MN⟩:=t.IE;obtain⟨⟨sp,sm,sc,rfl⟩,F'⟩:=alo _ _ _ _ ML;obtain⟨ts,rI,rfl⟩:=t.alg;have hH:=S.C;have G_:=λb q=>s.fv b<|Ã q;have X:∀b,(l.O b\/l.w.heap.size<=b)->b<u.heap.size->b≠I->(Tm (λj=>jr j\/∃x:â,j=û x/\x.block=I) u).O b:=λb hb gE lN=>by
  refine⟨gE,λx hx=> ?_⟩;rintro(q|⟨y,P,q2⟩)
  .rcases hb with hb|hb
   .exact S.fg b hb x hx q
   .have:=S.r x q;omega
  .injection P with P;subst P;omega
 have Tn:=λb q=>by have h:=t.I b q;rw[ì<|G_ b q]at h;exact(æ.1 h).1
 have keep:=λb q=>X b (Ã q) (Tn b q) (by have:=G_ b q;omega);have MO:=X B (Ç b1) t.fv.1 t.r.1;have alp:fi Ä Ò (J (λj=>jr j\/∃x:â,j=û x/\x.block=I) C) (Tm (λj=>jr j\/∃x:â,j=û x/\x.block=I) u) (Fh ts qX):=by
  rw[Hc];refine akG (F_ _ _) (λq=>q) rI (Ã<|X ba (Ç b2) t.fv.2.1 t.r.2.1) (Ã<|Ã<|X _ (Ç<|b4 _<|Ú _) t.fv.2.2 t.r.2.2) t.cba Tl λW h=> ?_;refine hJ (λj=>jr j\/∃x:â,j=û x/\x.block=I) C W B sp sm sc ⟨λx q=> ?_,λb q x hx=> ?_,Õ z3 h.I⟩ (h.N<|F_ _ _) ⟨λb q=>⟨h.O b<|keep b q,(h.r b (Ã<|keep b q) id).trans<|t.I b q⟩,⟨h.O B MO,λp hp=> ?_⟩,⟨st,V,alm Hg,qR _ _ _ _ _ ML λb q=>h.r b (Ã<|X b (F' b q) (MN b q).1 (MN b q).2) id,λb q=>h.O b<|X b (F' b q) (MN b q).1 (MN b q).2⟩,h.d,?_,λb q=> ?_,⟨λa q=> ?_,λa q=> ?_,λa q=> ?_⟩,⟨(gK<|h.r B (Ã MO) id).trans t.C.1,(yl<|h.r B (Ã MO) id).trans t.C.2⟩⟩
  .rcases q with q|⟨y,P,q2⟩
   .exact È (S.r x q) z5
   .injection P with P;subst P;omega
  .rcases h.c b q with q|q
   .exact q.2 x hx
   .have j:u.heap.size<=b:=q;rintro(z|⟨y,z1,z2⟩)
    .have:=S.r x z;omega
    .injection z1 with z1;subst z1;omega
  .refine(gK<|h.r B (Ã MO) id).trans ?_;by_cases hk:kd p=1
   .have hm:p∈ij kd R:=Ā.2 ⟨Ē.2 hp,by simpa using hk⟩;let⟨j,y⟩:=Ĩ hm;have P:=(Ĕ.1 y).1;have:=t.kR (j+1) Z (show j+1<=fP kd R from P);have e2:(ij kd R).getD (j+1-1) 0=p:=Ó<|(C3 P).symm.trans y;simp only[kL,MB,e2]at this;exact this
   .have hm:p∈jG kd R:=Ā.2 ⟨Ē.2 hp,by simpa using hk⟩;let⟨j,y⟩:=Ĩ hm;have P:=(Ĕ.1 y).1;have:=t.Tf j P;simp only[kL,MB,Ó<|(C3 P).symm.trans y]at this;exact this
  .rw[h.q];exact id
  .rw[h.S]at q;exact q
  .rw[h.Y]at q;exact q
  .rw[h.b]at q;exact q
  .rw[h.K]at q;exact q
 let⟨T,h⟩:=jq alp;exact⟨N,_,C,T,yY,_,gs',u,uu,t',r,t.io,cY.Y z6 z2 z7 U U id (λ_=>id) (λ_=>id) (λ_=>id) (λ_=>id) (λb q=>q) h⟩
end
end Go.Proofs.Y.fA
namespace Go.Proofs.Y.fA
open Go Go.Conc Go.Proofs.Y.Lift Go.RowKit Go.Conc.Lib Go.ConcR.Gen
open Go.Proofs Go.Proofs.YtgpphkdoanciiaaGreatDoor
def mh(V:Nat->Prop)(base:Nat):fw:=⟨λi j=>i=j/\V i,base⟩
def alq(V:Nat->Prop)(base:Nat):Bi (mh V base):= ⟨λ_ _ _ h k=>h.1.symm.trans k.1,λ_ _ _ h k=>h.1.trans k.1.symm,λi j h=>by rw[h.1]⟩
def lI(j:Nat):Bool:=j==3||j==4
def vI(c:Array Ï):Array Ï:=c.extract 0 16
def alr(c:Array Ï):(vI c).size=min 16 c.size:=by simp[vI]
open Classical in
noncomputable def pG (a:Nat->Prop) (j:Nat):Ÿ->Ÿ
 |É c e b=>if a j then(if lI j=Ò then É (vI c) e (0,(vI c).size)else É c e (0,c.size))else É c e b
 |_=>É #[] 0
noncomputable def j2 (Sh:Nat->Prop) (w:ß):ß:={w with heap:=w.heap.mapIdx (pG Sh)}
section
variable{V Sh:Nat->Prop}{base:Nat}
def C6(j:Nat):(j2 Sh w).heap[j]?=(w.heap[j]?).map (pG Sh j):=by simp[j2,Array.getElem?_mapIdx]
def H_:kl (j2 Sh w):=λi o h=>by
 rw[C6]at h;obtain⟨x,_,rfl⟩:=ġ.1 h;cases x<;>simp only[pG]<;>try exact id
 split
 .split<;>exact id
 .exact id
structure yZ(V Sh:Nat->Prop)(base:Nat)(w:ß):Prop where
 r:∀b,V b->∃c e fr,w.heap[b]?=Â (É c e fr)/\fr.2<=c.size/\fU (mh V base) c c/\(Sh b->0<c.size/\(lI b=Ò->(e=304\/e=305)/\fr.2<=16)/\(lI b=Ì->D2 c))
 fv:base<=w.heap.size
def als(h:yZ V Sh base w):qA (mh V base) Sh (j2 Sh w) w:=by
 refine⟨U,U,alq V base,by show base<=(w.heap.mapIdx<|pG Sh).size;rw[Array.size_mapIdx];exact h.fv,h.fv,λi j n=> ?_⟩;obtain⟨rfl,o⟩:=n;let⟨c,e,a,b,l,f,p⟩:=h.r i o;have g:(j2 Sh w).heap[i]?=Â (pG Sh i<|É c e a):=by rw[C6,b];rfl
 by_cases s:Sh i
 .let⟨r,t,u⟩:=p s;cases d:lI i with
  |true=>
   let⟨v,x⟩:=t d;have y:=alr c;have hcut:F7 e (vI c).size:=⟨v,Z⟩;refine⟨vI c,c,e,(0,(vI c).size),a,?_,b,⟨λk z m=> ?_,Z,Ç ⟨s,hcut⟩⟩,λ_=>⟨U,Ú _,by show a.2<=(vI c).size;omega,Z,Ç hcut⟩,λq=>absurd s q,Ú _⟩
   .show(j2 Sh w).heap[i]?=_;rw[g];simp[pG,s,d]
   .have:(vI c)[k]=c[k]:=by simp[vI]
    rw[this];exact f.C k m m
  |false=>
   refine⟨c,c,e,(0,c.size),a,?_,b,pS.N f,λ_=>⟨U,Ú _,l,r,Ã<|u d⟩,λq=>absurd s q,Ú _⟩;rw[g];simp[pG,s,d]
 .refine⟨c,c,e,a,a,?_,b,pS.N f,λq=>absurd q s,λ_=>rfl,l⟩;rw[g];simp[pG,s]
end
section
variable{a:Nat->Prop}{Post:Ï->ß->Prop}{l:fe}{V:Nat->Prop}
theorem C7(y:om P)(B:pX P a X)(hF:uW P X)(C:wG Post){k:Array Ï}(D:X F)(E:P.funcs[F]?=Â s)(H:s.body=Â wX)(r:gq l)(I:¬l.q) (n:∀b,V b->l.M b) (J:yZ V (λj=>V j/\¬l.O j) P.globals.size l.w) (K:∀g,a g->V g) (L:fU (mh V P.globals.size) k k) (N:∀T,Calls P F k (World.tp (j2 (λj=>V j/\¬l.O j) l.w) T 0) fun|.returned v,e=>Post v e/\kl e|_,_=>False) (t:Bool) (o:ç) (p:List ç): fi P t (λh u=>∃(Y:fw) (e:ß) (v m:Ï),(mh V P.globals.size).r Y/\qA Y (λj=>V j/\¬l.O j) e h.w/\fu Y v m/\Post v e/\u=G (o.finish m) p/\(∀i j,Y i j->h.M j/\(V j\/l.O j\/l.w.heap.size<=j))/\(∀j,l.O j->h.O j)/\h.d=l.d) l (G (Ă P F k Ğ)<|o::p):=by
 refine(agT (afQ y B hF C D E H H_ N (Y:=mh V P.globals.size) U (λg q=>⟨U,K g q⟩) L (als J) (λj q=>r.fv j<|n j q.1) (λi j _ q=>(n j q.1).resolve_left q.2) t o p) l U (λj q=> ?_) (λ_ q=>q) (λj q=>r.fv j<|Ã q) I).ff ?_
 .obtain⟨⟨i,rfl,x⟩,Q⟩:=q;grind
 .rintro h u ⟨O',⟨Y,e,v,m,S,rfl,W,q3,q4,q5⟩,Q,h3,h4,h5,h6,h7,h8,h9,h10,h11,h12⟩;refine⟨Y,e,v,m,S,W,q3,q4,q5,λi j To=> ?_,h4,h10⟩;by_cases z:V j/\¬l.O j
  .exact⟨Ç (by rw[h7];exact(n j z.1).resolve_left z.2),Ã z.1⟩
  .have x:=h3 j ⟨⟨i,To⟩,z⟩;exact⟨Ã x,Ç<|h6 j x⟩
end
section
variable{l:fe}{V GL:Nat->Prop}
def Fp(s:gq l):gq (mB l):=by refine⟨λ_ h=>h.elim,λ_ h=>h.elim,λa c d=>s.S a (c.resolve_left id)<|d.resolve_left id,λb d=>s.fv b<|d.resolve_left id,λa c=>s.I a<|c.resolve_left id,λa c=>⟨λq=>(s.N a c).1<|q.resolve_left id,(s.N a c).2.1,id⟩⟩
structure Fq(GL:Nat->Prop)(f:ķ)(args:Array Ï)(l:fe)(V:Nat->Prop)(Post:Ï->ß->Prop):Prop where
 N:∀b,V b->l.M b
 S:yZ V V Ä.globals.size l.w
 I:∀g,GL g->V g
 r:fU (mh V Ä.globals.size) args args
 C:∀T,Calls Ä f args (World.tp (j2 V l.w) T 0) fun|.returned v,u'=>Post v u'/\kl u'|_,_=>False
def alu(m:om Ä)(n:pX Ä GL X)(hF:uW Ä X)(e:X 67){D:SD}(h:∀i s d W l,i<D.q->nN (D.r Ä) (D.b i) s->D.RD s d W l.w->(∀b,W b->l.M b)->gq l->¬l.q->(∀b,D.d b->l.M b)->D.RC l.w->∃V,Fq GL 67 #[d,À<|D.i i] l V λv _=>v=à (D.j i)):Fj D:=by
 intro i s d W l o p r t f g x y z B;let⟨V,a⟩:=h i s d W l o p r t f g x y;let⟨G,c,C,E⟩:=hF 67 e;have k:(λj=>V j/\¬(mB l).O j)=V:=by funext j;exact propext ⟨λq=>q.1,λq=>⟨q,id⟩⟩
 refine(C7 m n hF (λv u T D h=>h) e C E (Fp f) g (λb q=>Ç<|a.N b q) (by rw[k];exact a.S) a.I a.r (by rw[k];exact a.C) Ì z B).ff ?_;rintro H I ⟨Y,J,v,K,_,_,j,u,T,_,_,F⟩;subst u;cases j;exact⟨F,T⟩
theorem alv(P:om Ä)(Q:pX Ä GL X)(hF:uW Ä X)(B:X 66){D:SD}(Rg:D.γ->Ï->ß->Prop)(hRg:∀s a u T n,Rg s a u->Rg s a (World.tp u T n)) (h:∀k s a W l,k<D.m->nN (D.r Ä) k s->D.RD s a W l.w->(∀b,W b->l.M b)->gq l->¬l.q->(∀b,D.d b->l.M b)->D.RC l.w->∃V,Fq GL 66 #[a,À<|D.o<|k+1] l V (λv u=>∃p n c d,v=ñ #[Æ p n c,à<|D.e<|k+1]/\D.h k s d/\Rg d (Æ p n c) u)/\ ∀Y S u w d a C,qA Y S u w->fu Y a C->Rg d a u->(∀i j,Y i j->V j\/l.w.heap.size<=j)->∃e,D.RD d C e w/\∀b,e b->∃i,Y i b):Fi D:=by
 intro k s a W l hk hr qR hW E F hRB hRC cl ku;let⟨V,f,tr⟩:=h k s a W l hk hr qR hW E F hRB hRC;let⟨fn,c,hf,g⟩:=hF 66 B;have G:(λj=>V j/\¬(mB l).O j)=V:=by funext j;exact propext ⟨λq=>q.1,λq=>⟨q,id⟩⟩
 refine(C7 P Q hF (λv u T D h=> ?_) B hf g (Fp E) F (λb q=>Ç<|f.N b q) (by rw[G];exact f.S) f.I f.r (by rw[G];exact f.C) Ì cl ku).ff ?_
 .grind
 .rintro l' g' ⟨Y,u',v,v',_,q2,q3,⟨p,n,c,d,rfl,H,h3⟩,I,o,_,J⟩;cases q3 with
  |@lZ _ cs'' hs kz=>
   let⟨ls⟩:=cs'';match ls,hs with
   |[x,y],_=>
    have r:=kz 0 fp fp;have K:=kz 1 fp fp;simp at r K;cases K;let⟨e,L,N⟩:=tr Y _ u' l'.w d _ x q2 r h3 λi j To=>(o i j To).2.imp id λz=>z.resolve_left id;cases r with
    |nD=>exact⟨J,Á,n,c,I,d,e,H,L,λb g=>by let⟨i,t⟩:=N b g;exact(o i b t).1⟩
    |j5=>exact⟨J,_,n,c,I,d,e,H,L,λb g=>by let⟨i,t⟩:=N b g;exact(o i b t).1⟩
end
end Go.Proofs.Y.fA
namespace Go.Proofs.Y.Lift
open Go
def Fs(a:Nat->Bool):Ĥ->Bool
 |ũ (Đ cs)=>cs.toList.all zS
 |ũ (ñ cs)=>cs.toList.all zS
 |x=>yk a x
def I_(a:Nat->Bool)(x:Ĥ):Fs a x=yk a x:=by
 cases x with
 |const v=>cases v<;>simp[Fs,yk,O4,ĝ]
 |_=>rfl
def MP(P:ė)(a:Nat->Bool)(b c:ķ->Bool)(o:å):Bool:=(Ef P b o.op&&o.op.operands.toList.all (Fs a))||(Pm P c o.op&&o.op.operands.toList.all (Fs a))
def MQ(a:Nat->Bool)(b c:ķ->Bool)(o:å):MP P a b c o=Eh P a b c o:=by have:(Fs a)=yk a:=funext<|I_ a;simp[MP,Eh,Pb,this,ĝ]
def rJ(P:ė)(a:Nat->Bool)(b d:ķ->Bool):Ę->Bool
 |Ρ|Ŧ|.label _|ŧ _|.goto _=>Ò
 |.seq x y=>rJ P a b d x&&rJ P a b d y
 |ť c x y=>Fs a c&&rJ P a b d x&&rJ P a b d y
 |İ _ c|.loop c|.scope c=>rJ P a b d c
 |ä _ c _=>c.toList.all<|MP P a b d
 |.refuse _=>Ò
 |_=>Ì
def AQ(a:Nat->Bool)(b d:ķ->Bool):∀c:Ę,rJ P a b d c=oy P a b d c
 |Ρ|Ŧ|.label _|ŧ _|.goto _|.refuse _|.rangeFunc _ _ _ _=>rfl
 |.seq x y=>by simp only[rJ,oy,AQ a b d x,AQ a b d y]
 |ť c x y=>by simp only[rJ,oy,I_,AQ a b d x,AQ a b d y]
 |İ _ c|.loop c|.scope c=>by simp only[rJ,oy,AQ a b d c]
 |ä _ x _=>by have:MP P a b d=Eh P a b d:=funext<|MQ a b d;simp only[rJ,oy,this,ĝ]
end Go.Proofs.Y.Lift
namespace Go.Proofs.Y.fA
open Go Go.Conc Go.Proofs.Y.Lift Go.RowKit Go.Conc.Lib Go.ConcR.Gen
open Go.Proofs Go.Proofs.YtgpphkdoanciiaaGreatDoor
def I':List Nat:=[35,38,44,54,55,56,60,66,67,78,79,103,113,114,115,116,117,118,119,120,121,122,123,124,125,126,153,154,155,156,157,158,159,160,161,162,168,169,170,171,172,173,174,175,176,177,178,186,187,188,189,190,191,192,193,194,196,197,198,199,200,201,202,203,204,205,206,207,208,209,210,211]
def za(g:Nat):Bool:=[1,2,3,4].contains g
def zb(f:Nat):Bool:=I'.contains f
def AR(f:Nat):Bool:=[129,130].contains f
def C8(P:ė)(f:Nat):Bool:=match P.funcs[f]? with
 |some a=>match a.body with
  |some c=>rJ P za zb AR c
  |none=>Ì
 |none=>Ì
def alx:I'.all (C8 Ä)=Ò:=by rfl
def J_(h:zb i=Ò):C8 Ä i=Ò:=(Ň.1 alx) i<|by simpa[zb]using h
def aly(h:C8 P i=Ò):∃a c,P.funcs[i]?=Â a/\a.body=Â c:=by
 unfold C8 at h;split at h
 .rename_i a b;split at h
  .rename_i c d;exact⟨a,c,b,d⟩
  .cases h
 .cases h
def alz(h:C8 P i=Ò)(a:P.funcs[i]?=Â s)(b:s.body=Â wX):rJ P za zb AR wX=Ò:=by unfold C8 at h;rw[a]at h;simp only[b]at h;exact h
def J':uW Ä (λf=>zb f=Ò):=λ_ h=>aly<|J_ h
def alA[Bq P](h:∀f,zb f=Ò->C8 P f=Ò)(a:GF P AR):pX P (λg=>za g=Ò) (λf=>zb f=Ò):=λf g e c b d=>by have:=alz (h f g) b d;rw[AQ]at this;exact wI a this
instance aur:Bq Ä:=⟨λe n h=>by
 have h1:Ä.cellsOf 304=32:=fx
 have h2:Ä.cellsOf 305=64:=fx
 obtain⟨rfl|rfl,h3⟩:=h
 .rw[h1];omega
 .rw[h2];omega⟩
def alB(a:GF Ä AR):pX Ä (λg=>za g=Ò) (λf=>zb f=Ò):=alA (λ_ h=>J_ h) a
def Ft:GF Ä AR:=λf h=>by
 have:f=129\/f=130:=by simpa[AR]using h
 rcases this with rfl|rfl
 .exact⟨_,Extern.AbiNoEscape.same,Tryz.func129,fL,fL,fL,fL,λ_ v a h=>agh v a h,agi⟩
 .exact⟨_,Extern.BytealgMakeNoZero.makeNoZero #[3] #[107],Tryz.func130,fL,fL,fL,fL,λ_ v a h=>agj #[3] 107 v a h,agk #[3] 107⟩
def K_:pX Ä (λg=>za g=Ò) (λf=>zb f=Ò):=alB Ft
end Go.Proofs.Y.fA
namespace Go.Proofs.Y.Lift
open Go Go.Conc
section
variable{Y:fw}{b:ķ->Prop}
def alC{e:Array Ï->Sem Ï}{y:Ĥ}{m:Array Ů}(d:o.op=Ě {callee:=ĕ<|ĸ F,args:=#[qQ,y],argTypes:=m})(q:P.funcs[F]?=Â s)(r:(s.name== "runtime.NumGoroutine")=Ì)(t:s.body.isNone=Ò)(B:Extern.findNext s=Á)(C:Extern.find s=Â e) (hrel:∀(Y:fw) (v i z j:Ï),fu Y v i->fu Y z j->fJ P fu Y (e #[v,z]) (e #[i,j])) (D:∀v z,fG P<|e #[v,z]) (E:∀y∈o.op.operands,mG X y):ng P X b o:=by
 have c:∀a:ŏ,ĉ a.eval o=Ś F #[a.eval qQ,a.eval y]:=by intro a;unfold ĉ;rw[d];simp only[ſ,ĥ,ě,invoke,pure_bind,Array.empty_append,Array.append_empty,List.map_toArray,List.map_cons,List.map_nil]
 have k:∀(v z:Ï) (u:ß),(Ś F #[v,z]).run P u=(mark (.extern F)>>=λ_=>e #[v,z]>>=λy=>pure (Next.value y):Sem Next).run P u:=by intro v z u;unfold Ś;simp_all
 refine Xw (λY a w _ _ _ h=> ?_) (λa=> ?_) (λa u n G g=> ?_) E
 .rw[c,c];have H:=h qQ (by rw[d];simp[ŉ,Call.operands]);have I:=h y (by rw[d];simp[ŉ,Call.operands]);unfold Ś;refine .gh (fH sd ?_);rintro L p M w ⟨J,K⟩;rw[J,K];simp only[q,r,t,B,C,Ķ,if_false,if_true];apply fH (V:=jy) (.D1 (Ç ⟨F,U⟩) (.fF U));intro N _ _ l _;exact na<|hrel _ _ _ _ _ ((H.ff w).ff l)<|(I.ff w).ff l
 .rw[c];exact KA (k _ _)<|gf (Gu _) λ_=>me<|D _ _
 .rw[c,k,Sem.run_bind]at g;simp only[mark,Sem.run,Result.andThen_ok]at g;have:Sem.run P (e #[a.eval qQ,a.eval y]>>=λy=>pure (Next.value y):Sem Next) u=.ok n G:=g;rw[Sem.run_bind]at this;cases h:(e #[a.eval qQ,a.eval y]).run P u with
  |ok v w=>rw[h]at this;cases this;exact⟨v,U⟩
  |halt z w=>rw[h]at this;cases this
def L_:∀(n:Nat) {Y:fw} {a b:â} (c:ByteArray),ig Y a b->fJ P jy Y (ò a n c) (ò b n c)
 |0,_,_,_,_,_=> .fF U
 |n+1,Y,a,b,c,h=>by
  unfold ò;refine fH (Kq h) ?_;intro f v g d e;cases e<;>first|exact .fT|skip
  rename_i k z;cases k<;>first|exact .fT|skip
  exact L_ n _<|(h.ff d).r 1
theorem M_:∀(n:Nat) (a:â) (b:ByteArray),fG P<|ò a n b
 |0,_,_=>gH _
 |n+1,a,b=>by
  unfold ò;refine gf (Gv _ _) λv=> ?_;split
  .exact M_ n _ _
  .exact ji _
def alD(h:fu Y v x):fJ P jy Y (ú v) (ú x):=by
 cases h<;>first|exact .fT|exact .fF U|skip
 exact L_ _ _<|by assumption
theorem alE(v:Ï):fG P (ú v):=by unfold ú;grind [gH,M_,ji]
def alF(h:fu Y v x):fJ P jy Y (ü v) (ü x):=by
 cases h<;>first|exact .fT|skip
 rename_i k z;cases k<;>first|exact .fT|exact .fF U
theorem alG(v:Ï):fG P (ü v):=by unfold ü;grind [gH,ji]
def alH(v a z b:Ï)(h:fu Y v a)(k:fu Y z b):fJ P fu Y (ó #[v,z]) (ó #[a,b]):=by
 apply fH (alD h);rintro j s d e f;obtain rfl:s=d:=f;apply fH (alF<|k.ff e);rintro l c g m i;obtain rfl:c=g:=i;split
 .exact .fF (.iB _ _)
 .exact .fF (.iB _ _)
theorem alI(v z:Ï):fG P (ó #[v,z]):=by refine gf (alE v) λs=>gf (alG z) λc=> ?_;grind [gH]
end
end Go.Proofs.Y.Lift
namespace Go.Proofs.Y.fA
open Go Go.Conc Go.Proofs.Y.Lift
open Go.Proofs Go.Proofs.YtgpphkdoanciiaaGreatDoor
def Tp:List Nat:=[16,18,21,23,24,25,28,29,30,31,35,44,60,38,54,55,56,78,79,36,45,61,94,95,96,97,98,99,100,101,102,103,104,145,146,147,148,149,33,39,40,41,42,43,57,58,59,80,81,82,83,84,85,86,87,88,89,90,91,92,93,131,132,133,134,135,136,137,138,139,140,141,142,143,144,163,164,165,166,179,180,181,182,183,184,195]
def C9(f:Nat):Bool:=Tp.contains f||f==167
def MR(_:Nat):Bool:=Ì
def MS(P:ė)(f:Nat):Bool:=match P.funcs[f]? with
 |some a=>match a.body with
  |some c=>rJ P MR C9 AR c
  |none=>Ì
 |none=>Ì
def alJ:Tp.all (MS Ä)=Ò:=by rfl
def M'(h:Tp.contains i=Ò):MS Ä i=Ò:=(Ň.1 alJ) i<|by simpa using h
theorem N_(h:MS P i=Ò):∃a c,P.funcs[i]?=Â a/\a.body=Â c/\rJ P MR C9 AR c=Ò:=by unfold MS at h;grind
def xm:uW Ä (λf=>C9 f=Ò):=λf h=>by
 rcases ī.1 h with q|q
 .let⟨a,c,b,d,_⟩:=N_<|M' q;exact⟨a,c,b,d⟩
 .rw[beq_iff_eq]at q;subst q;exact⟨_,_,ŭ,U⟩
def alK(h:Ζ.body=Â wX):kQ Ä (λg=>MR g=Ò) (λf=>C9 f=Ò) wX:=by
 unfold Ζ at h;cases h;refine .sr (wI Ft<|by rw[<-AQ];rfl) (.sr (.uU _ _ λo f=> ?_) .ou);simp only[List.mem_toArray,List.mem_cons,List.not_mem_nil,or_false]at f;rcases f with rfl|rfl|rfl|rfl
 .exact KZ Ft<|by rw[<-MQ];rfl
 .exact KZ Ft<|by rw[<-MQ];rfl
 .exact alC U Tryz.func185 fL fL fL fL (λ_ v g z o=>alH v g z o) alI λy g=>KR (by simp[ŉ,Call.operands]at g;rcases g with rfl|rfl|rfl<;>rfl)
 .exact KZ Ft<|by rw[<-MQ];rfl
def IG:pX Ä (λg=>MR g=Ò) (λf=>C9 f=Ò):=λf h i c g a=>by
 rcases ī.1 h with q|q
 .let⟨j,k,b,d,e⟩:=N_<|M' q;rw[g]at b;cases b;rw[a]at d;cases d;rw[AQ]at e;exact wI Ft e
 .rw[beq_iff_eq]at q;subst q;rw[ŭ]at g;cases g;exact alK a
end Go.Proofs.Y.fA
