import Derived.Test.YtgpphkdoanciiaaGreatDoorWAB
import Derived.Conc.AppendWalk
import Derived.Conc.TokenWalk
set_option linter.all false
set_option maxRecDepth 1000000
set_option maxHeartbeats 8000000
open Go.Value renaming pointer->À,slice->Æ,int->Ê,oneCell'->Ø,string->à,chan->è,tuple->ñ,func->Ĉ,agg->Đ,bool->ŝ,cells->Ŵ
open Option renaming none->Á,some->Â,isSome_iff_exists->Ô,map_eq_some_iff->ġ,isSome_none->ı,getD_some->Ń
open Or renaming inl->Ã,inr->Ç
open Go.Proofs.Tryz renaming prog->Ä,t155->Ą,f46->Ĝ,t9->Ġ,func47->Ħ,underlying101->Ĵ,type155->ļ,underlying85->Ľ,underlying25->ľ,f52->Ŗ,func167->Ŭ,func63->Ů,func48->ů,func49->Ű,func50->ű,func51->Ų,func46->ų,func52->ŵ,t101->Δ,f167->Ζ,f49->Ι,f63->Κ,f47->Μ
open Go renaming undef->Å,Value->Ï,Goroutine->Ý,World->ß,events_store->á,Addr->â,Oper->å,getD_set_ne->ç,Frame->é,execOp->ĉ,Program->ė,Code->Ę,Operand->Ĥ,deafBehind->į,FuncId->ķ,Act->ŏ,maxLen->œ,size_madeCells->ř,callFunc->Ś,yielded->ţ,TypeId->ŭ,runNT->Ŷ,Item->ŷ,Obj->Ÿ,Trace->ż,TypeInfo->Ž,Event->ž,resolve->ſ,Loc->Ν
open Nat renaming lt_of_lt_of_le->È,le_trans->Õ,le_refl->Ú,add_sub_cancel->ø,zero_le->ă,zero_add->č,mod_lt->ĵ,lt_succ_of_lt->Ĺ,le_of_lt->Ł,reduceAdd->ś,sub_zero->ũ,sub_self->Ū
open Go.Obj renaming cells->É,chan->ŕ
open Go.Conc.Goes renaming stop->Ë
open Bool renaming false->Ì,true->Ò,or_eq_true_iff->ī,false_eq_true->Ķ
open Go.Ground renaming phase->Í,data->Ü,textOnly->Þ,gcOnly->õ,chain->Ţ
open Go.IntKind renaming i64->Î,u64->ê,u32->Ď,wrap_i64->Γ
open Go.Departure renaming lateStores->Ð
open Go.Item renaming inRegion->Ñ,inBlock->ô,code->ö,inLoop->ą
open Option.some renaming inj->Ó
open Go.World renaming cell?->Ö,frozen?->î,setCell->þ,alloc->ň
open Go.Operand renaming tmp->Ù,func->ĸ,const->Ũ
open Go.Region renaming ready->Û,Mode->ý,wanted->Ė
open List renaming range->ã,range_succ->ÿ,mem_filter->Ā,filter_append->ā,flatMap_cons->Ć,mem_range->Ē,setIfInBounds_toArray->ē,getElem?_eq_some_iff->Ĕ,length_filter_le->ģ,mem_of_getElem?->ħ,getElem?_of_mem->Ĩ,set_cons_succ->Ĳ,set_cons_zero->ĳ,size_toArray->Ļ,length_cons->ń,nodup_range->ņ,all_eq_true->Ň,length_nil->ŋ
open Go.Code renaming region->ä,block->İ,cond->Ť,skip->ť,exit->Ŧ,ret->Ρ
open Array renaming getElem?_eq_some_iff->æ,getElem?_eq_getElem->ì,getElem?_modify->í,getD_eq_getD_getElem?->ď,all_toList->ĝ
open Go.Region.linearise renaming go->ë
open Go.MemAct renaming ofEvent->ï
open Go.Op renaming fieldAddr->ð,load->ć,move->ę,call->Ě,nilCheck->ĩ,operands->ŉ,extract->Ő,indexAddr->ő,makeFunc->Ş,store->š,assign->ŧ,binOp->Λ
open Go.Extern.Bytes renaming loadBytes->ò,bytesOf->ú,asByte->ü
open Go.Extern.BytealgIndexByte renaming indexByte->ó
open Go.Fn renaming func->ù
open Go.Loc renaming cell->û
open Go.Frame renaming enter->Ă,finish_at->Ģ
open Go.Instr renaming build->Ċ,makeSlice->Ŏ
open Go.GoStatus renaming running->ċ,finished->ş
open Go.Conc renaming mem_ofEvents->Č,mem_listed->đ,seen_none->Ī,crowd->Ĭ,stepG_region->ĺ,events_call_body->ł,deafBehind_still->Ņ,listed->ŗ,handedOver_app->Ř,stepG_seq->Ŝ,stepG_comm->Ż
open Go.Callee renaming value->ĕ,builtin->Ŕ
open Go.Deferred renaming ofValue->ě
open Go.CallKind renaming normal->Ğ,early->Ź
open Go.Addr renaming add_lit->ğ
open Go.Act renaming eval->ĥ,put->Ο
open Eq renaming trans->Ŀ
variable{i n j b k m J j9 j7 j6:Nat}{w u W jX:ß}{v x z jQ:Ï}{g:Ý}{a p:â}{h c:Int}{e t T:ŭ}{d q:Array Ï}{P:ė}{y:ŏ}{B:ByteArray}{X:Nat->Prop}{O:Option â}{l:List Ï}{yQ:Bool}{K H:ŏ->ß->Prop}{o:å}{D:Nat->Nat}{E:Array Ý}{L:List ŷ}{jJ:List Nat}{qX:List é}{qQ:Ĥ}{qJ:ż}{zX:Ν->Prop}{zQ:List Int}{zJ:Ž}{xX:Ĥ->Ï}{xQ:Go.Tape}{xJ:Nat×Nat}{wX:Ę}{wQ:Go.MemOp}{wJ:Array Bool}{vX:List ByteArray}{vQ:Ï->ß->Prop}{vJ:Go.Exit->ŏ->ß->Prop}{yX:ý}{Q:Array å}{f:é}{V:Array ž}{F:ķ}{s:Go.Func}
namespace Go.Proofs.Y.fv
open Go Go.Conc Go.Proofs.Y.Lift Go.RowKit Go.Conc.Lib Go.ConcR.Gen
open Go.Proofs Go.Proofs.YtgpphkdoanciiaaGreatDoor
def Gq:å:=⟨Â 13,ð 155 (Ù 5) 3,0, "work.go:57",#[],Á⟩
def Dy:å:=⟨Â 14,ć 86<|Ù 13,86, "work.go:57",#[⟨0,Ü⟩],Á⟩
def Gr:å:=⟨Â 15,ę<|Ù 1,25, "work.go:57",#[{on:=18,ground:=õ Ð}],Á⟩
def Gs:å:=⟨Â 16,ð 155 (Ù 5) 1,0, "work.go:57",#[{on:=18,ground:=õ Ð}],Á⟩
def Dz:å:=⟨Â 17,ć 3<|Ù 16,3, "work.go:57",#[⟨3,Ü⟩,{on:=18,ground:=õ Ð}],Á⟩
def Gt:å:=⟨Â 18,ð 155 (Ù 5) 2,0, "work.go:57",#[],Á⟩
def DC:å:=⟨Â 19,ć 86<|Ù 18,86, "work.go:57",#[⟨5,Ü⟩],Á⟩
def DF:å:=⟨Â 20,ĩ<|Ù 19,0, "work.go:57",#[⟨6,Ü⟩],Á⟩
def DG:å:=⟨Â 21,ð 105 (Ù 20) 1,0, "work.go:57",#[⟨7,Ü⟩],Á⟩
def DK:å:=⟨Â 22,ć 65<|Ù 21,65, "work.go:57",#[⟨8,Ü⟩],Á⟩
def Gu:å:=⟨Â 23,ð 155 (Ù 5) 0,0, "work.go:57",#[],Á⟩
def DL:å:=⟨Â 24,ć 148<|Ù 23,148, "work.go:57",#[⟨10,Ü⟩],Á⟩
def A9:å:=⟨Â 25,Ě {callee:=ĕ<|ĸ 66,args:=#[Ù 22,Ù 24],argTypes:=#[65,148]},163, "work.go:57",#[⟨9,Ü⟩,⟨11,Ü⟩],Á⟩
def vo:å:=⟨Â 12,ę<|Ù 25,163, "work.go:57",#[⟨12,Ü⟩],Á⟩
def Ba:å:=⟨Â 26,Ő (Ù 12) 0,65, "work.go:57",#[⟨13,Ü⟩],Á⟩
def Bb:å:=⟨Â 27,Ő (Ù 12) 1,9, "work.go:57",#[⟨13,Ü⟩,{on:=18,ground:=õ Ð}],Á⟩
def DN:å:=⟨Â 28,ĩ<|Ù 14,0, "work.go:57",#[⟨1,Ü⟩,⟨0,Í⟩,⟨1,Í⟩,{on:=2,ground:=Þ Ð},{on:=3,ground:=Þ Ð},{on:=4,ground:=Þ Ð},⟨5,Í⟩,⟨6,Í⟩,⟨7,Í⟩,⟨8,Í⟩,⟨9,Í⟩,⟨10,Í⟩,⟨11,Í⟩,⟨12,Í⟩,⟨13,Í⟩,⟨14,Í⟩,{on:=15,ground:=Þ Ð}],Á⟩
def DR:å:=⟨Â 29,ð 105 (Ù 28) 1,0, "work.go:57",#[⟨16,Ü⟩,⟨0,Í⟩,⟨1,Í⟩,{on:=2,ground:=Þ Ð},{on:=3,ground:=Þ Ð},{on:=4,ground:=Þ Ð},⟨5,Í⟩,⟨6,Í⟩,⟨7,Í⟩,⟨8,Í⟩,⟨9,Í⟩,⟨10,Í⟩,⟨11,Í⟩,⟨12,Í⟩,⟨13,Í⟩,⟨14,Í⟩,{on:=15,ground:=Þ Ð}],Á⟩
def Bc:å:=⟨Á,š 65 (Ù 29)<|Ù 26,0, "work.go:57",#[⟨17,Ü⟩,⟨14,Ü⟩,⟨12,Ţ⟩,⟨0,Í⟩,⟨1,Í⟩,{on:=2,ground:=Þ Ð},{on:=3,ground:=Þ Ð},{on:=4,ground:=Þ Ð},⟨5,Í⟩,⟨6,Í⟩,⟨7,Í⟩,⟨8,Í⟩,⟨9,Í⟩,⟨10,Í⟩,⟨11,Í⟩,⟨12,Í⟩,⟨13,Í⟩,⟨14,Í⟩,{on:=15,ground:=Þ Ð}],Á⟩
def Bd:å:=⟨Â 30,ő 25 (Ù 15)<|Ù 17,0, "work.go:57",#[⟨2,Ü⟩,⟨4,Ü⟩,⟨0,Í⟩,⟨1,Í⟩,⟨2,Í⟩,⟨3,Í⟩,⟨4,Í⟩,⟨5,Í⟩,⟨6,Í⟩,⟨7,Í⟩,⟨8,Í⟩,⟨9,Í⟩,⟨10,Í⟩,⟨11,Í⟩,⟨12,Í⟩,⟨13,Í⟩,⟨14,Í⟩,⟨15,Í⟩,⟨16,Í⟩,⟨17,Í⟩,⟨18,Í⟩],Á⟩
def Be:å:=⟨Á,š 9 (Ù 30)<|Ù 27,0, "work.go:57",#[⟨19,Ü⟩,⟨15,Ü⟩,⟨18,Ţ⟩,⟨0,Í⟩,⟨1,Í⟩,⟨2,Í⟩,⟨3,Í⟩,⟨4,Í⟩,⟨5,Í⟩,⟨6,Í⟩,⟨7,Í⟩,⟨8,Í⟩,⟨9,Í⟩,⟨10,Í⟩,⟨11,Í⟩,⟨12,Í⟩,⟨13,Í⟩,⟨14,Í⟩,⟨15,Í⟩,⟨16,Í⟩,⟨17,Í⟩,⟨18,Í⟩],Á⟩
def yW:Array å:=#[Gq,Dy,Gr,Gs,Dz,Gt,DC,DF,DG,DK,Gu,DL,A9,vo,Ba,Bb,DN,DR,Bc,Bd,Be]
def mP(tb a b c N d:Nat)(e f:Ï)(x:(Option Addr×Nat×Nat)×ByteArray):Nat->Ï
 |0=>À<|Â ⟨tb,3,Á⟩
 |1=>À<|Â ⟨b,0,Á⟩
 |2=>Æ (Â ⟨c,0,Á⟩) N N
 |3=>À<|Â ⟨tb,1,Á⟩
 |4=>Ê Î d
 |5=>À<|Â ⟨tb,2,Á⟩
 |6=>À<|Â ⟨a,0,Á⟩
 |7=>À<|Â ⟨a,0,Á⟩
 |8=>À<|Â ⟨a,2,Á⟩
 |9=>f
 |10=>À<|Â ⟨tb,0,Á⟩
 |11=>e
 |12=>ñ #[Æ x.1.1 x.1.2.1 x.1.2.2,à x.2]
 |13=>ñ #[Æ x.1.1 x.1.2.1 x.1.2.2,à x.2]
 |14=>Æ x.1.1 x.1.2.1 x.1.2.2
 |15=>à x.2
 |16=>À<|Â ⟨b,0,Á⟩
 |17=>À<|Â ⟨b,2,Á⟩
 |19=>À<|Â ⟨c,d,Á⟩
 |_=>Å
structure DU(im:fe)(ga gb an pl:Nat)(sE:Ï)(Q:Ï->ByteArray->fe->Prop)(listed:Array Bool)(x:(Option Addr×Nat×Nat)×ByteArray)(l:fe):Prop where
 r:iD (λa=>a=⟨gb,2,Á⟩\/a=⟨an,pl,Á⟩) im l
 vp:listed.getD 12 Ì=Ò->∃y,Q (Æ x.1.1 x.1.2.1 x.1.2.2) x.2 y/\(∀b,y.M b->l.M b/\l.w.heap[b]?=y.w.heap[b]?)
 I:listed.getD 18 Ì=Ò->l.w.cell? ⟨gb,2,Á⟩=Â (Æ x.1.1 x.1.2.1 x.1.2.2)
 N:listed.getD 20 Ì=Ò->l.w.cell? ⟨an,pl,Á⟩=Â (à x.2)
def DU.C{d l:fe}{Q:Ï->ByteArray->fe->Prop}{listed:Array Bool}{x:(Option Addr×Nat×Nat)×ByteArray}(h:DU d n j b k v Q listed x l)(o:i≠12)(p:i≠18)(s:i≠20)(e:d.r ⟨j,2,Á⟩/\d.r ⟨b,k,Á⟩)(m:ß)(r:fG l l.w m):DU d n j b k v Q (listed.setIfInBounds i Ò) x {l with w:=m}:=by
 have t:∀a,(a=⟨j,2,Á⟩\/a=⟨b,k,Á⟩)->d.r a:=λa u=>by rcases u with rfl|rfl;exact e.1;exact e.2
 refine⟨h.r.N t r,λq=> ?_,λq=> ?_,λq=> ?_⟩
 .rw[ç Ì o]at q;let⟨y,z,f⟩:=h.vp q;exact⟨y,z,λc g=>⟨(f c g).1,(r.I c (f c g).1).trans (f c g).2⟩⟩
 .rw[ç Ì p]at q;exact(r.N _<|by rw[h.r.C];exact Ã e.1).trans<|h.I q
 .rw[ç Ì s]at q;exact(r.N _<|by rw[h.r.C];exact Ã e.2).trans<|h.N q
section
variable{J:Jd}{im:fe}{ga gb an pl:Nat}{sE:Ï}{Q:Ï->ByteArray->fe->Prop}
def aik(S:gy im)(hq:¬im.q)(ht:d.size=37)(Bf:d[1]?=Â (Æ (Â ⟨an,0,Á⟩) i i))(QW:d[5]?=Â (À<|Â ⟨n,0,Á⟩))(hO:im.O n) (X:im.w.cell? ⟨n,0,Á⟩=Â v) (Y:im.w.cell? ⟨n,1,Á⟩=Â (Ê Î pl)) (c2:im.w.cell? ⟨n,2,Á⟩=Â (À<|Â ⟨ga,0,Á⟩)) (c3:im.w.cell? ⟨n,3,Á⟩=Â (À<|Â ⟨gb,0,Á⟩)) (ua:im.N ⟨ga,2,Á⟩) (pH:im.w.cell? ⟨ga,2,Á⟩=Â sE) (F:im.r ⟨gb,2,Á⟩) (H:im.r ⟨an,pl,Á⟩) (e1:(im.w.cell? ⟨gb,2,Á⟩).isSome=Ò) (e2:(im.w.cell? ⟨an,pl,Á⟩).isSome=Ò) (z1:im.w.frozen? ⟨gb,2,Á⟩=Ì) (z2:im.w.frozen? ⟨an,pl,Á⟩=Ì) (tx:pl<i) (hN:i<1000000) (lr:(⟨gb,2,Á⟩:â)≠⟨an,pl,Á⟩) (tJ:∀l,iD (λa=>a=⟨gb,2,Á⟩\/a=⟨an,pl,Á⟩) im l->∀I lH,fj Ä Ì (λl' g'=>l'.d=l.d/\∃p g c str,g'=G (I.finish<|ñ #[Æ p g c,à str]) lH/\Q (Æ p g c) str l') (lX l)<|G (Ă Ä 66 #[sE,v] Ğ)<|I::lH) (md:ý) (listed:Array Bool) (a:ŏ) (l:fe) (k:Nat) (rest:List Nat) (hI:II yW d (mP n ga gb an i pl v sE) (DU im ga gb an pl sE Q) listed a l) (D:k∈Û md yW listed): fj Ä Ì (λl' g'=>∃u,g'=G ((base 49).at u<|Ñ yW rest::L) qX/\II yW d (mP n ga gb an i pl v sE) (DU im ga gb an pl sE Q) (listed.setIfInBounds k Ò) u l') l (G ((base 49).at a<|Ñ yW (k::rest)::L) qX):=by
 let⟨x,s,B⟩:=hI;have K:qu yW d.size=Ò:=by rw[ht];decide
 have V:=QS D;have gQ:=yV D;have M:=B.r.fx;have N:¬l.q:=by rwa[B.r.q]
 have W:∀y:â,(y=⟨gb,2,Á⟩\/y=⟨an,pl,Á⟩)->im.r y:=λy ha=>by rcases ha with rfl|rfl;exact F;exact H
 have lY:a.tmps[1]?=Â (Æ (Â ⟨an,0,Á⟩) i i):=(s.C A).trans Bf;have uf:a.tmps[5]?=Â (À<|Â ⟨n,0,Á⟩):=(s.C A).trans QW;have I:∀j m,im.w.cell? ⟨n,j,Á⟩=Â m->gX l ⟨n,j,Á⟩/\l.w.cell? ⟨n,j,Á⟩=Â m:=λj m h=>⟨Ã<|Ã<|B.r.O n hO,by rwa[gK<|B.r.r n<|Ã hO]⟩;have QX:¬((⟨ga,2,Á⟩:â)=⟨gb,2,Á⟩\/(⟨ga,2,Á⟩:â)=⟨an,pl,Á⟩):=λq=>by
  rcases q with q|q
  .exact S.Y _ F<|q▸ua
  .exact S.Y _ H<|q▸ua
 have Gv:gX l ⟨ga,2,Á⟩/\l.w.cell? ⟨ga,2,Á⟩=Â sE:=⟨Ç (Ç<|by rwa[B.r.c]),by rwa[B.r.e _ (Ç ua) QX]⟩;have QY:(pl:Int)<(i:Int):=Z
 have j5:yW.size=21:=A
 rw[j5]at gQ;match k,gQ with
 |0,_=>
  refine il (o:=Gq) K s U U D (by k_ne) M N (λt r=> ?_) (λt r e E=> ?_)<|B.C A A A ⟨F,H⟩
  .simp only[mP,Gq];go_simp
  .simp[go_sem,Gq,uf]at E
 |1,_=>
  have u:a.tmps[13]?=Â (À<|Â ⟨n,3,Á⟩):=s.r 0 Gq 13 U (ic (o:=Dy) D U U) U;refine il (o:=Dy) K s U U D (by k_ne) M N (λt r=> ?_) (λt r e E=> ?_)<|B.C A A A ⟨F,H⟩
  .have J:t.cell? ⟨n,3,Á⟩=Â (À<|Â ⟨gb,0,Á⟩):=((I 3 _ c3).1.r r).trans (I 3 _ c3).2;simp only[mP,Dy];go_simp
  .have J:t.cell? ⟨n,3,Á⟩=Â (À<|Â ⟨gb,0,Á⟩):=((I 3 _ c3).1.r r).trans (I 3 _ c3).2;have b:e=⟨û ⟨n,3,Á⟩,Ì,Ì⟩:=by simp[go_sem,Dy,J,u]at E;exact E
   subst b;exact(I 3 _ c3).1.C
 |2,_=>
  refine il (o:=Gr) K s U U D (by k_ne) M N (λt r=> ?_) (λt r e E=> ?_)<|B.C A A A ⟨F,H⟩
  .simp only[mP,Gr];go_simp
  .simp[go_sem,Gr,lY]at E
 |3,_=>
  refine il (o:=Gs) K s U U D (by k_ne) M N (λt r=> ?_) (λt r e E=> ?_)<|B.C A A A ⟨F,H⟩
  .simp only[mP,Gs];go_simp
  .simp[go_sem,Gs,uf]at E
 |4,_=>
  have u:a.tmps[16]?=Â (À<|Â ⟨n,1,Á⟩):=s.r 3 Gs 16 U (ic (o:=Dz) D U U) U;refine il (o:=Dz) K s U U D (by k_ne) M N (λt r=> ?_) (λt r e E=> ?_)<|B.C A A A ⟨F,H⟩
  .have J:t.cell? ⟨n,1,Á⟩=Â (Ê Î pl):=((I 1 _ Y).1.r r).trans (I 1 _ Y).2;simp only[mP,Dz];go_simp
  .have J:t.cell? ⟨n,1,Á⟩=Â (Ê Î pl):=((I 1 _ Y).1.r r).trans (I 1 _ Y).2;have b:e=⟨û ⟨n,1,Á⟩,Ì,Ì⟩:=by simp[go_sem,Dz,J,u]at E;exact E
   subst b;exact(I 1 _ Y).1.C
 |5,_=>
  refine il (o:=Gt) K s U U D (by k_ne) M N (λt r=> ?_) (λt r e E=> ?_)<|B.C A A A ⟨F,H⟩
  .simp only[mP,Gt];go_simp
  .simp[go_sem,Gt,uf]at E
 |6,_=>
  have u:a.tmps[18]?=Â (À<|Â ⟨n,2,Á⟩):=s.r 5 Gt 18 U (ic (o:=DC) D U U) U;refine il (o:=DC) K s U U D (by k_ne) M N (λt r=> ?_) (λt r e E=> ?_)<|B.C A A A ⟨F,H⟩
  .have J:t.cell? ⟨n,2,Á⟩=Â (À<|Â ⟨ga,0,Á⟩):=((I 2 _ c2).1.r r).trans (I 2 _ c2).2;simp only[mP,DC];go_simp
  .have J:t.cell? ⟨n,2,Á⟩=Â (À<|Â ⟨ga,0,Á⟩):=((I 2 _ c2).1.r r).trans (I 2 _ c2).2;have b:e=⟨û ⟨n,2,Á⟩,Ì,Ì⟩:=by simp[go_sem,DC,J,u]at E;exact E
   subst b;exact(I 2 _ c2).1.C
 |7,_=>
  have u:a.tmps[19]?=Â (À<|Â ⟨ga,0,Á⟩):=s.r 6 DC 19 U (ic (o:=DF) D U U) U;refine il (o:=DF) K s U U D (by k_ne) M N (λt r=> ?_) (λt r e E=> ?_)<|B.C A A A ⟨F,H⟩
  .simp only[mP,DF];go_simp
  .simp[go_sem,DF,u]at E
 |8,_=>
  have u:a.tmps[20]?=Â (À<|Â ⟨ga,0,Á⟩):=s.r 7 DF 20 U (ic (o:=DG) D U U) U;refine il (o:=DG) K s U U D (by k_ne) M N (λt r=> ?_) (λt r e E=> ?_)<|B.C A A A ⟨F,H⟩
  .simp only[mP,DG];go_simp
  .simp[go_sem,DG,u]at E
 |9,_=>
  have u:a.tmps[21]?=Â (À<|Â ⟨ga,2,Á⟩):=s.r 8 DG 21 U (ic (o:=DK) D U U) U;refine il (o:=DK) K s U U D (by k_ne) M N (λt r=> ?_) (λt r e E=> ?_)<|B.C A A A ⟨F,H⟩
  .have J:t.cell? ⟨ga,2,Á⟩=Â (sE):=(Gv.1.r r).trans Gv.2;simp only[mP,DK];go_simp
  .have J:t.cell? ⟨ga,2,Á⟩=Â (sE):=(Gv.1.r r).trans Gv.2;have b:e=⟨û ⟨ga,2,Á⟩,Ì,Ì⟩:=by simp[go_sem,DK,J,u]at E;exact E
   subst b;exact Gv.1.C
 |10,_=>
  refine il (o:=Gu) K s U U D (by k_ne) M N (λt r=> ?_) (λt r e E=> ?_)<|B.C A A A ⟨F,H⟩
  .simp only[mP,Gu];go_simp
  .simp[go_sem,Gu,uf]at E
 |11,_=>
  have u:a.tmps[23]?=Â (À<|Â ⟨n,0,Á⟩):=s.r 10 Gu 23 U (ic (o:=DL) D U U) U;refine il (o:=DL) K s U U D (by k_ne) M N (λt r=> ?_) (λt r e E=> ?_)<|B.C A A A ⟨F,H⟩
  .have J:t.cell? ⟨n,0,Á⟩=Â (v):=((I 0 _ X).1.r r).trans (I 0 _ X).2;simp only[mP,DL];go_simp
  .have J:t.cell? ⟨n,0,Á⟩=Â (v):=((I 0 _ X).1.r r).trans (I 0 _ X).2;have b:e=⟨û ⟨n,0,Á⟩,Ì,Ì⟩:=by simp[go_sem,DL,J,u]at E;exact E
   subst b;exact(I 0 _ X).1.C
 |12,_=>
  have Gw:a.tmps[22]?=Â (sE):=s.r 9 DK 22 U (ic (o:=A9) D U U) U;have Kn:a.tmps[24]?=Â (v):=s.r 11 DL 24 U (ic (o:=A9) D U U) U;refine YC (o:=A9) K s U U D (by k_ne) M (f:=66) (args:=#[sE,v]) (λw=>by simp only[A9];go_simp) (λw=>ł (o:=A9) U Tryz.func66 U U #[]) λt r=> ?_;have T:=B.r.N W r;refine((tJ _ T _ _).lX<|T.G S).fO ?_;rintro l' g' ⟨y,⟨hy0,p,g,c,str,rfl,hQ⟩,rfl,hA,YF,ail,ain⟩;refine⟨((p,g,c),str),U,⟨T.QU W hA hy0,λ_=>⟨y,hQ,λb P=>⟨?_,U⟩⟩,λq=> ?_,λq=> ?_⟩,λj u=> ?_⟩
  .rcases P with q|q
   .exact Ã<|Ã q
   .rw[YF]at q;exact q.elim (λz=>Ã<|Ç z) Ç
  .rw[ç Ì A]at q;exact absurd (s.I (o:=Bc) U q U)<|xb V
  .rw[ç Ì A]at q;exact absurd (s.I (o:=Be) U q U)<|xb V
  .match j,u with
   |12,u=>exact absurd u<|xb V
   |13,u=>exact absurd (s.I (o:=vo) U u U)<|xb V
   |14,u=>exact absurd (s.I (o:=vo) U (s.I (j:=13) (o:=Ba) U u U) U)<|xb V
   |15,u=>exact absurd (s.I (o:=vo) U (s.I (j:=13) (o:=Bb) U u U) U)<|xb V
   |0,_|1,_|2,_|3,_|4,_|5,_|6,_|7,_|8,_|9,_|10,_|11,_|16,_|17,_|18,_|19,_|20,_|g+21,_=>rfl
 |13,_=>
  have u:a.tmps[25]?=Â (ñ #[Æ x.1.1 x.1.2.1 x.1.2.2,à x.2]):=s.r 12 A9 25 U (ic (o:=vo) D U U) U;refine il (o:=vo) K s U U D (by k_ne) M N (λt r=> ?_) (λt r e E=> ?_)<|B.C A A A ⟨F,H⟩
  .simp only[mP,vo];go_simp
  .simp[go_sem,vo,u]at E
 |14,_=>
  have u:a.tmps[12]?=Â (ñ #[Æ x.1.1 x.1.2.1 x.1.2.2,à x.2]):=s.r 13 vo 12 U (ic (o:=Ba) D U U) U;refine il (o:=Ba) K s U U D (by k_ne) M N (λt r=> ?_) (λt r e E=> ?_)<|B.C A A A ⟨F,H⟩
  .simp only[mP,Ba];go_simp
  .simp[go_sem,Ba,u]at E
 |15,_=>
  have u:a.tmps[12]?=Â (ñ #[Æ x.1.1 x.1.2.1 x.1.2.2,à x.2]):=s.r 13 vo 12 U (ic (o:=Bb) D U U) U;refine il (o:=Bb) K s U U D (by k_ne) M N (λt r=> ?_) (λt r e E=> ?_)<|B.C A A A ⟨F,H⟩
  .simp only[mP,Bb];go_simp
  .simp[go_sem,Bb,u]at E
 |16,_=>
  have u:a.tmps[14]?=Â (À<|Â ⟨gb,0,Á⟩):=s.r 1 Dy 14 U (ic (o:=DN) D U U) U;refine il (o:=DN) K s U U D (by k_ne) M N (λt r=> ?_) (λt r e E=> ?_)<|B.C A A A ⟨F,H⟩
  .simp only[mP,DN];go_simp
  .simp[go_sem,DN,u]at E
 |17,_=>
  have u:a.tmps[28]?=Â (À<|Â ⟨gb,0,Á⟩):=s.r 16 DN 28 U (ic (o:=DR) D U U) U;refine il (o:=DR) K s U U D (by k_ne) M N (λt r=> ?_) (λt r e E=> ?_)<|B.C A A A ⟨F,H⟩
  .simp only[mP,DR];go_simp
  .simp[go_sem,DR,u]at E
 |18,_=>
  have h29:a.tmps[29]?=Â (À<|Â ⟨gb,2,Á⟩):=s.r 17 DR 29 U (ic (o:=Bc) D U U) U;have h26:a.tmps[26]?=Â (Æ x.1.1 x.1.2.1 x.1.2.2):=s.r 14 Ba 26 U (ic (o:=Bc) D U U) U;have T:(l.w.cell? ⟨gb,2,Á⟩).isSome=Ò:=B.r.g _ (Ã U) e1;have Bg:l.w.frozen? ⟨gb,2,Á⟩=Ì:=(B.r.S _<|Ã F).trans z1;have lA:pR l ⟨gb,2,Á⟩:=Ç (by rwa[B.r.I]);refine QV (o:=Bc) (y:=⟨gb,2,Á⟩) (v:=Æ x.1.1 x.1.2.1 x.1.2.2) K s U U U D (by k_ne) M N U lA T Bg (λw J hz=> ?_) (λw J hz=> ?_) λt r=> ?_
  .let⟨u,hu⟩:=Ô.1 J;simp only[Bc];go_simp
  .let⟨u,hu⟩:=Ô.1 J;simp[go_sem,Bc,h29,h26,á _ _ _ _ _ _ (show Ø (Æ x.1.1 x.1.2.1 x.1.2.2)=Ò from rfl),hu,hz]
  .have hA:=B.r.qh S W (x:=⟨gb,2,Á⟩) (v:=Æ x.1.1 x.1.2.1 x.1.2.2) (Ã U) U T;refine⟨hA.N W ⟨r.r,r.I,r.N,r.Y,r.S⟩,λq=> ?_,λq=> ?_,λq=> ?_⟩
   .rw[ç Ì A]at q;let⟨y,y1,z⟩:=B.vp q;refine⟨y,y1,λb P=>⟨(z b P).1,?_⟩⟩;have QZ:b≠(⟨gb,2,Á⟩:â).block:=λe=>(B.r.G S).N ⟨gb,2,Á⟩ (by rw[B.r.C];exact Ã F)<|e▸(z b P).1;exact(r.I b (z b P).1).trans<|(lh QZ).trans (z b P).2
   .exact(r.N _ (by rw[B.r.C];first|exact Ã F|exact Ã H)).trans<|Ay (Ô.1 T).choose_spec
   .rw[ç Ì A]at q;exact(r.N ⟨an,pl,Á⟩<|by rw[B.r.C];exact Ã H).trans<|(A8 U λe=>lr e.symm).trans<|B.N q
 |19,_=>
  have Q0:a.tmps[15]?=Â (Æ (Â ⟨an,0,Á⟩) i i):=s.r 2 Gr 15 U (ic (o:=Bd) D U U) U;have Q5:a.tmps[17]?=Â (Ê Î pl):=s.r 4 Dz 17 U (ic (o:=Bd) D U U) U;refine il (o:=Bd) K s U U D (by k_ne) M N (λt r=> ?_) (λt r e E=> ?_)<|B.C A A A ⟨F,H⟩
  .simp only[mP,Bd];go_simp
  .simp[go_sem,Bd,tx,QY,Q0,Q5]at E
 |20,_=>
  have E:a.tmps[30]?=Â (À<|Â ⟨an,pl,Á⟩):=s.r 19 Bd 30 U (ic (o:=Be) D U U) U;have h27:a.tmps[27]?=Â (à x.2):=s.r 15 Bb 27 U (ic (o:=Be) D U U) U;have T:(l.w.cell? ⟨an,pl,Á⟩).isSome=Ò:=B.r.g _ (Ç U) e2;have Bg:l.w.frozen? ⟨an,pl,Á⟩=Ì:=(B.r.S _<|Ã H).trans z2;have lA:pR l ⟨an,pl,Á⟩:=Ç (by rwa[B.r.I]);refine QV (o:=Be) (y:=⟨an,pl,Á⟩) (v:=à x.2) K s U U U D (by k_ne) M N U lA T Bg (λw J hz=> ?_) (λw J hz=> ?_) λt r=> ?_
  .let⟨u,hu⟩:=Ô.1 J;simp only[Be];go_simp
  .let⟨u,hu⟩:=Ô.1 J;simp[go_sem,Be,E,h27,á _ _ _ _ _ _ (show Ø (à x.2)=Ò from rfl),hu,hz]
  .have hA:=B.r.qh S W (x:=⟨an,pl,Á⟩) (v:=à x.2) (Ç U) U T;refine⟨hA.N W ⟨r.r,r.I,r.N,r.Y,r.S⟩,λq=> ?_,λq=> ?_,λq=> ?_⟩
   .rw[ç Ì A]at q;let⟨y,y1,z⟩:=B.vp q;refine⟨y,y1,λb P=>⟨(z b P).1,?_⟩⟩;have QZ:b≠(⟨an,pl,Á⟩:â).block:=λe=>(B.r.G S).N ⟨an,pl,Á⟩ (by rw[B.r.C];exact Ã H)<|e▸(z b P).1;exact(r.I b (z b P).1).trans<|(lh QZ).trans (z b P).2
   .rw[ç Ì A]at q;exact(r.N ⟨gb,2,Á⟩<|by rw[B.r.C];exact Ã F).trans<|(A8 U<|lr).trans<|B.I q
   .exact(r.N _ (by rw[B.r.C];first|exact Ã F|exact Ã H)).trans<|Ay (Ô.1 T).choose_spec
 |g+21,h=>exact absurd h Z
end
section
variable{E:â->Prop}{l c g:fe}
def iD.fg(h:iD E l c)(k:iD E c g):iD E l g:=by have f:=h.C;exact⟨λj e=>k.O j<|h.O j e,λj e=>(k.h j e).elim (h.h j) λq=>Ç<|Õ h.f q,k.Y.trans h.Y,k.I.trans h.I,k.c.trans h.c,k.K.trans h.K,k.q.trans h.q,k.d.trans h.d,k.fx,Õ h.f k.f,λj e=>(k.r j<|h.M e).trans<|h.r j e,λa b i=>(k.e a (by rwa[f]) i).trans<|h.e a b i,λa b=>(k.S a<|by rwa[f]).trans<|h.S a b,λa b q=>k.b a (by rwa[h.K])<|h.b a b q,λa b q=>k.g a b<|h.g a b q⟩
end
def gG(l:fe)(w₁:ß)(o:Ÿ):fe:={l with O:=λb=>l.O b\/b=w₁.heap.size,w:=w₁.alloc o}
theorem yY{o:Ÿ}(h:j<w.heap.size):(w.alloc o).heap[j]?=w.heap[j]?:=by unfold ň;grind
theorem mQ{o:Ÿ}:(w.alloc o).heap[w.heap.size]?=Â o:=by unfold ň;simp
def Ko{o:Ÿ}:(w.alloc o).heap.size=w.heap.size+1:=by unfold ň;simp
section
variable{J:Jd}{l:fe}{a:ŏ}{k:List ŷ}{cs:List é}{ob:Ÿ}{E:â->Prop}
def YG(b:∀j,l.O j->j<w.heap.size)(c:¬l.q):mq l (gG l w ob) w (w.alloc ob) #[]:= ⟨by rw[Ko];omega,λj h=>h.imp id λe=>by omega,λj h=>by rw[Ko];exact h.elim (λq=>Ĺ<|b j q) λe=>by omega,U,U,U,U,λj d _ _=>yY d,λx a _ _=>gK<|yY a,λx a _=>wL<|yY a,U,U,U,λe f=>by simp at f,by simp[į,gG],U,λq=>absurd q c,U⟩
def Gx(c:Q[i]?=Â o)(d:Ė o (ţ Q a.tmps)=Ò)(e:f.kind≠Ź)(g:jP l)(h:¬l.q) (j:∀w,(ĉ a.eval o).run P w=.ok (.value<|À<|Â ⟨w.heap.size,0,Á⟩) (w.alloc ob)) (m:∀w,(ĉ a.eval o).events P w #[]=#[]) (n:∀b,fG l l.w b->fj P yQ J (gG l b ob) (G (f.at (a.put o.dst<|À<|Â ⟨b.heap.size,0,Á⟩)<|Ñ Q jJ::k) cs)):fj P yQ J l (G (f.at a<|Ñ Q (i::jJ)::k) cs):=by
 refine vm c d e λb r=> ?_;rw[j b];refine⟨_,?_,n b r⟩;have:listed P f.fn a o b=#[]:=by unfold listed;rw[m b,Ī]
 rw[this];exact YG (lV g r) h
def Kp(s:gy l)(d:∀a,E a->l.r a)(r:fG l l.w u):iD E l (gG l u ob):=by
 have c:=r.r;refine⟨λj h=>Ã h,λj h=>h.imp id λe=>by omega,U,U,U,U,U,U,λj h=> ?_,?_,λj f=>(yY<|È (s.fx j f) c).trans<|r.I j f,λx b _=>(gK<|yY<|È (s.I x b) c).trans<|r.N x b,λx b=>(wM<|yY<|È (s.I x b) c).trans<|r.Y x b,λx b q=> ?_,λx b q=> ?_⟩
 .show j<(u.alloc ob).heap.size;rw[Ko];exact h.elim (λq=>Ĺ<|È (s.fx j<|Ã q) c) λe=>by omega
 .show l.w.heap.size<=(u.alloc ob).heap.size;rw[Ko];omega
 .show((u.alloc ob).cell? x).isSome=Ò;rw[gK<|yY<|È (s.S x b).2.1 c];exact r.S x b q
 .show((u.alloc ob).cell? x).isSome=Ò;rwa[gK<|yY<|È (s.I x<|Ã<|d x b) c,r.N x<|Ã<|d x b]
def Kq{w':ß}{p:Nat}(g:∀j,l.O j->j<w.heap.size)(i:¬l.q)(b:l.O p)(k:w'.heap.size=w.heap.size)(c:∀j,j≠p->w'.heap[j]?=w.heap[j]?)(d:w'.os=w.os/\w'.output=w.output/\w'.tape=w.tape)(f:∀e∈V,tZ l e):mq l {l with w:=w'} w w' V:=by refine⟨Z,λ_ h=>Ã h,λj h=>by rw[k];exact g j h,U,U,U,U,λj _ a _=>c j λe=>a<|e▸b,λx _ a _=>gK (c _ λe=>a<|e▸b),λx _ a=>wL (c _ λe=>a<|e▸b),d.1,d.2.1,d.2.2,λe h=>(f e h).1,(Kh f _).symm,U,λq=>absurd q i,U⟩
end
def iT(w:ß)(p:Nat)(v0 v1 v2 v3:Ï):ß:=(((w.setCell ⟨p,0,Á⟩ v0).setCell ⟨p,1,Á⟩ v1).setCell ⟨p,2,Á⟩ v2).setCell ⟨p,3,Á⟩ v3
section
variable{p:Nat}{v0 v1 v2 v3:Ï}
def xc:(iT w p v0 v1 v2 v3).heap.size=w.heap.size:=by unfold iT;rw[jT,jT,jT,jT]
def yZ(h:j≠p):(iT w p v0 v1 v2 v3).heap[j]?=w.heap[j]?:=by unfold iT;rw[lh h,lh h,lh h,lh h]
theorem Q6(b:w.cell? ⟨p,0,Á⟩=Â v)(c:w.cell? ⟨p,1,Á⟩=Â x)(d:w.cell? ⟨p,2,Á⟩=Â z)(e:w.cell? ⟨p,3,Á⟩=Â jQ): (iT w p v0 v1 v2 v3).cell? ⟨p,0,Á⟩=Â v0/\(iT w p v0 v1 v2 v3).cell? ⟨p,1,Á⟩=Â v1/\(iT w p v0 v1 v2 v3).cell? ⟨p,2,Á⟩=Â v2/\(iT w p v0 v1 v2 v3).cell? ⟨p,3,Á⟩=Â v3:=by have f:∀(w:ß) (i j:Nat) (a:Ï),i≠j->(w.setCell ⟨p,i,Á⟩ a).cell? ⟨p,j,Á⟩=w.cell? ⟨p,j,Á⟩:=λw i j a h=>yv<|Ç h;unfold iT;grind [Ay]
def Q7{E:â->Prop}{l e:fe}(s:gy l)(f:∀a,E a->l.r a)(h:iD E l e){w':ß}(r:fG e e.w u)(k:l.w.heap.size<=p)(g:w'.heap.size=u.heap.size)(i:∀j,j≠p->w'.heap[j]?=u.heap[j]?):iD E l {e with w:=w'}:=by
 have b:=h.N f r;have c:∀{j:Nat},j<l.w.heap.size->w'.heap[j]?=u.heap[j]?:=λ{j} q=>i j Z;refine⟨b.O,b.h,b.Y,b.I,b.c,b.K,b.q,b.d,λj q=> ?_,?_,λj q=>(c<|s.fx j q).trans<|b.r j q,λa q n=>(gK<|c<|s.I a q).trans<|b.e a q n,λa q=>(wM<|c<|s.I a q).trans<|b.S a q,λa q z=> ?_,λa q z=> ?_⟩
 .show j<w'.heap.size;rw[g];exact b.fx j q
 .show l.w.heap.size<=w'.heap.size;rw[g];exact b.f
 .show(w'.cell? a).isSome=Ò;rw[gK<|c (s.S a q).2.1];exact b.b a q z
 .show(w'.cell? a).isSome=Ò;rw[gK<|c<|s.I a<|Ã<|f a q];exact b.g a q z
end
def ug(t:Array Ï)(h:t.size=n):∃u:Nat->Ï,t=((ã n).map u).toArray:=by subst h;refine⟨λi=>t.getD i Å,Array.ext fp λi a _=> ?_⟩;simp_all
def Q8(t:Array Ï)(h:t.size=37):∃a b c d e f g i j k l m n o p q r s u v w x y z B C D E F G H I J K L M N:Ï,t=#[a,b,c,d,e,f,g,i,j,k,l,m,n,o,p,q,r,s,u,v,w,x,y,z,B,C,D,E,F,G,H,I,J,K,L,M,N]:=by obtain⟨_,rfl⟩:=ug t h;exact⟨_,_,_,_,_,_,_,_,_,_,_,_,_,_,_,_,_,_,_,_,_,_,_,_,_,_,_,_,_,_,_,_,_,_,_,_,_,U⟩
end Go.Proofs.Y.fv
namespace Go.Proofs.Y.fv
open Go Go.Conc Go.Proofs.Y.Lift Go.RowKit Go.Conc.Lib Go.ConcR.Gen
section
variable{Ψ:ß->Prop}{L:WgLink}{l:fe}{e:Jd}{k:List ŷ}
def Q9(Ψ:ß->Prop)(l:fe)(b:Nat)(w:ß):Prop:=SW Ψ l b w/\fG l l.w w
def o6(a:lW Ψ l b)(h:Q9 Ψ l b w)(r:fG l w u):Q9 Ψ l b u:=⟨fK h.1<|a.r r,h.2.fg r⟩
def aio{J:Jd}(a:SW Ψ l b l.w)(c:Goes P yQ (fG l) Go.ConcR.DC0 (λd e=>fj P yQ J {l with w:=e} d) n g l.w):fj P yQ J l g:= Po c (λ_ _ r=>r) a.1 λ_ _ _ h=>h
def aip(H:WgLib P L)(τ:fe->fe)(Φ:fe->Prop)(c:lW Ψ l b)(z:SW Ψ l b l.w) (N:∀a,fG l l.w a->Φ {l with w:=a}/\(τ {l with w:=a}).d=0/\∃q:ß->Prop,lW q (τ {l with w:=a}) b/\SW q (τ {l with w:=a}) b (τ {l with w:=a}).w/\ ∀j,SW q (τ {l with w:=a}) b j->fj P Ì e {τ {l with w:=a}with d:=0,w:=j} (G (f.at (y.put ((Q[i]?).bind (·.dst))<|ñ #[])<|Ñ Q jJ::k) qX)): fj P Ì (λl g=>Φ l/\yx P Ì b (fj P Ì e) (τ l) g) l (G ((base L.done).at ⟨#[À<|Â ⟨b,0,Á⟩,Å,Å,Å],[]⟩ [ö<|body_done L])<|f.at y (Ñ Q (i::jJ)::k)::qX):=by
 lib_facts;simp only[body_done,doneFn,Ń];have hF:Q9 Ψ l b l.w:=⟨z,fG.fU _ _⟩;apply aio z (n:=40);u_reg (o6 c) hF;u_op (o6 c) hF;u_call H.f_add (nm_add L) addFn (o6 c) hF;u_c Ŝ (o6 c) hF;u_cond Ò (o6 c) hF;u_c Ŝ (o6 c) hF;u_c Ŝ (o6 c) hF;u_reg (o6 c) hF;u_op (o6 c) hF;u_op (o6 c) hF;u_c stepG_region_end (o6 c) hF;u_cond Ò (o6 c) hF;u_reg (o6 c) hF;u_op (o6 c) hF;u_conv H.underlying_tWgP H.room_tWg (np.r hF.1.2.1).choose_spec (o6 c) hF;refine Ë λa g=> ?_;replace hF:=o6 c hF g;clear g;refine .fC λj r=> ?_;let⟨O,B,q,h,C,D⟩:=N j<|hF.2.fg<|yP r;refine⟨O,B,U,_,λ_=>stepG_markAt .releaseMerge fp U U (by k_ne) U H.f_relMerge (x_relMerge_n L) (x_relMerge_b L) (x_relMerge_x L) (x_relMerge_f L) (by simp[ĥ,fN]),?_⟩;walk_nrm;show fj P Ì (Oq P Ì b<|fj P Ì e) (τ {l with w:=j}) _;clear O r;generalize τ {l with w:=j}=l2 at h C B D|-;replace hF:=C;clear C c z N;apply jE h hF (n:=10);iterate 3 w_go fK
 refine Ë λa g=> ?_;replace hF:=fK hF g;clear g;refine vl (l:={l2 with w:=a}) h hF (Ã U) U (λ_=>stepG_mark0 .disable fp U U (by k_ne) U H.f_disable (x_disable_n L) (x_disable_b L) (x_disable_x L)<|x_disable_f L) λE hF=> ?_;walk_nrm;have W:į l2.d #[jO .disable]=1:=by rw[B];rfl
 rw[W];apply jE (l:={l2 with d:=1,w:=E}) h hF (n:=50);iterate 2 w_go fK
 u_defer fK hF
 iterate 8 w_go fK
 u_bub fK hF
 iterate 11 w_go fK
 u_call H.f_uAdd (nm_uAdd L) uAddFn fK hF
 iterate 10 w_go fK
 refine Ë λa g=> ?_;replace hF:=fK hF g;clear g;refine nN (l:={l2 with d:=1,w:=a}) h hF λj hF=>⟨U,U,λv=>⟨_,λa p F=>(stepG_add_atomic U U (by k_ne) U H.f_addU64 (x_addU64_n L) (x_addU64_b L) (x_addU64_x L) ê (x_addU64_f L) U U p F).trans fQ,?_⟩⟩;walk_nrm;have S:ê.wrap (v+18446744069414584320)=ê.wrap (v+qo):=rfl;rw[S];clear S;obtain⟨s,I⟩:∃s,ê.wrap (v+qo)=s:=⟨_,U⟩;simp only[I];have J:0<=s:=by rw[<-I];have:ê.wrap (v+qo)=(v+qo)%18446744073709551616:=rfl;rw[this];omega
 clear I v;by_cases o:s=0\/(fY<=s/\s<1000000*fY/\s%fY<1000000)
 .rw[if_pos o];by_cases m:s=0;focus
   subst m;clear o J
  rotate_left;focus
   have X:=o.resolve_left m;clear o m J;let⟨Y,c5,c6⟩:=X;have q4:(4294967296:Int)<=s:=Y;have K:s<1000000*4294967296:=c5;have T:s%4294967296<1000000:=c6;have f1:=Dt s Z K T;have t:=Du s Z K T;obtain⟨u,g1⟩:∃u,(s/4294967296+2147483648)%4294967296-2147483648=u:=⟨_,U⟩;have g2:¬u<0:=Z
   have g3:0<u:=Z
   by_cases M:s%4294967296=0;focus rw[M]at t
   rotate_left;focus
    obtain⟨x,g4⟩:∃x,s%4294967296=x:=⟨_,U⟩;rw[g4]at t M;have V:x%4294967296=x:=Z
    have g6:(x !=0)=Ò:=by simpa using M
  all_goals
   apply jE (l:={l2 with d:=1,w:=j}) h hF (n:=150);iterate 3 w_go fK
   u_leave1 H.f_uAdd fK hF
   iterate 83 w_go fK
   refine Ë λa g=> ?_;replace hF:=fK hF g;clear g;refine vl (l:={l2 with d:=1,w:=a}) h hF (Ç U) U (λw=>J9 .enable fp U H.f_enable (x_enable_n L) (x_enable_b L) (x_enable_x L) (x_enable_f L) w) λE hF=> ?_;have u:į 1 #[jO .enable]=0:=rfl;rw[u];apply jE (l:={l2 with d:=0,w:=E}) h hF (n:=10);u_leave0 H.f_add fK hF;iterate 2 w_go fK
   u_leave0 H.f_done fK hF
   refine Ë λa g=> ?_;replace hF:=fK hF g;clear g;exact D _ hF
 .rw[if_neg o];by_cases m:0<s/\s<1000000
  .rw[if_pos m];let⟨q4,K⟩:=m;clear o J;have f1:=Dt s Z Z Z;have t:=Du s Z Z Z;have g1:(s/4294967296+2147483648)%4294967296-2147483648=0:=Z
   have V:s%4294967296=s:=Z
   rw[V]at t;have g6:(s !=0)=Ò:=by simp;omega
   have X:(s==0)=Ì:=by simp;omega
   have M:(s.toNat:Int)=s:=Z
   apply jE (l:={l2 with d:=1,w:=j}) h hF (n:=150);iterate 3 w_go fK
   u_leave1 H.f_uAdd fK hF
   iterate 89 w_go fK
   u_call H.f_uLoad (nm_uLoad L) uLoadFn fK hF
   iterate 9 w_go fK
   refine Ë λa g=> ?_;replace hF:=fK hF g;clear g;refine nN (l:={l2 with d:=1,w:=a}) h hF λj hF=>⟨U,U,λv=>⟨_,λa p=>stepG_load_atomic U U (by k_ne) U H.f_loadU64 (x_loadU64_n L) (x_loadU64_b L) (x_loadU64_x L) ê (x_loadU64_f L) U p,?_⟩⟩;show fj P Ì (if v=(s.toNat:Int)then Jz P Ì b (fj P Ì e) s.toNat else λ_ _=>True) _ _;by_cases u:v=(s.toNat:Int)
   .rw[if_pos u];rw[M]at u;subst u;walk_nrm;have Y:(v !=v)=Ì:=fp
    apply jE (l:={l2 with d:=1,w:=j}) h hF (n:=150);iterate 3 w_go fK
    u_leave1 H.f_uLoad fK hF
    iterate 10 w_go fK
    u_call H.f_uStore (nm_uStore L) uStoreFn fK hF
    iterate 5 w_go fK
    refine Ë λa g=> ?_;replace hF:=fK hF g;clear g;refine nN (l:={l2 with d:=1,w:=a}) h hF λj hF=>⟨U,U,_,λa x p F=>stepG_store_atomic U U (by k_ne) U H.f_storeU64 (x_storeU64_n L) (x_storeU64_b L) (x_storeU64_x L) (x_storeU64_f L) U U p F,?_⟩;walk_nrm;obtain⟨r,T⟩:∃r,v.toNat=r+1:=⟨v.toNat-1,Z⟩;rw[T];apply jE (l:={l2 with d:=1,w:=j}) h hF (n:=150);iterate 2 w_go fK
    u_leave0 H.f_uStore fK hF
    iterate 24 w_go fK
    refine Ë λa g=> ?_;replace hF:=fK hF g;clear g;apply ahU H h D r v<;>first|exact hF|omega
   .rw[if_neg u];exact .fC λ_ _=>trivial
  .rw[if_neg m];trivial
end
end Go.Proofs.Y.fv
namespace Go.Proofs.Y.fv
open Go Go.Conc Go.Proofs.Y.Lift Go.RowKit Go.Conc.Lib Go.ConcR.Gen
open Go.Proofs Go.Proofs.YtgpphkdoanciiaaGreatDoor
noncomputable def Kr:Ę:=kV Ι [1,0,0]
noncomputable def za (t:Array Ï) (a:List é):Ý:=G ((base 49).at ⟨t,[]⟩ [ö Kr,ą Kr,ô 0]) a
structure Bh(an N:Nat)(ib:Option â)(m c kk:Nat)(t:Array Ï):Prop where
 r:t.size=37
 t1:t[1]?=Â (Æ (Â ⟨an,0,Á⟩) N N)
 t6:t[6]?=Â (Æ ib m c)
 C:t[7]?=Â (Ê Î m)
 I:t[8]?=Â (Ê Î kk)
theorem Bj{x:Int}(a:0<=x)(b:x<1000000):Î.wrap x=x:=by rw[Γ];omega
section
variable{f:Jd}{l:fe}{t:Array Ï}{an N ib c kk:Nat}{Q:Ï->ByteArray->fe->Prop}{τ:fe->fe}{Φ:fe->Prop}
def aiq(D:gy l)(V:¬l.q)(hd:l.d=0)(W:Bh an N (Â ⟨ib,0,Á⟩) m c kk t)(hkk:kk<m)(hm:m<1000)(hN:N<1000000)(tx:j<N)(zd:l.M ib) (i0:l.w.cell? ⟨ib,kk*4,Á⟩=Â (À O)) (i1:l.w.cell? ⟨ib,kk*4+1,Á⟩=Â (Ê Î j)) (i2:l.w.cell? ⟨ib,kk*4+2,Á⟩=Â (À<|Â ⟨i,0,Á⟩)) (i3:l.w.cell? ⟨ib,kk*4+3,Á⟩=Â (À<|Â ⟨n,0,Á⟩)) (ua:l.N ⟨i,2,Á⟩) (pH:l.w.cell? ⟨i,2,Á⟩=Â v) (o1:l.r ⟨n,2,Á⟩) (o2:l.r ⟨an,j,Á⟩) (e1:(l.w.cell? ⟨n,2,Á⟩).isSome=Ò) (e2:(l.w.cell? ⟨an,j,Á⟩).isSome=Ò) (z1:l.w.frozen? ⟨n,2,Á⟩=Ì) (z2:l.w.frozen? ⟨an,j,Á⟩=Ì) (lr:(⟨n,2,Á⟩:â)≠⟨an,j,Á⟩) (tJ:∀u,iD (λa=>a=⟨n,2,Á⟩\/a=⟨an,j,Á⟩) l u->∀cl lH,fj Ä Ì (λl'' g'=>l''.d=u.d/\∃p k c str,g'=G (cl.finish<|ñ #[Æ p k c,à str]) lH/\Q (Æ p k c) str l'') (lX u)<|G (Ă Ä 66 #[v,À O] Ğ)<|cl::lH) (Au:∀u (x:(Option Addr×Nat×Nat)×ByteArray),iD (λa=>a=⟨n,2,Á⟩\/a=⟨an,j,Á⟩) l u->(∃y,Q (Æ x.1.1 x.1.2.1 x.1.2.2) x.2 y/\(∀b,y.M b->u.M b/\u.w.heap[b]?=y.w.heap[b]?))->u.w.cell? ⟨n,2,Á⟩=Â (Æ x.1.1 x.1.2.1 x.1.2.2)->u.w.cell? ⟨an,j,Á⟩=Â (à x.2)-> lW (λ_=>True) u n/\SW (λ_=>True) u n u.w/\Φ u/\(τ u).d=0/\∃E:ß->Prop,lW E (τ u) n/\SW E (τ u) n (τ u).w/\∀s X,SW E (τ u) n s->Bh an N (Â ⟨ib,0,Á⟩) m c (kk+1) X->fj Ä Ì f {τ u with d:=0,w:=s} (za X qX)): fj Ä Ì (λl g=>Φ l/\yx Ä Ì n (fj Ä Ì f) (τ l) g) l (za t qX):=by
 obtain⟨y0,y1,Y,y3,y4,y5,y6,y7,y8,y9,xd,ze,xe,rp,sF,qy,vq,vr,uh,ui,uj,sG,sH,sI,rh,sB,ri,oY,n7,pM,pN,pO,tO,sC,sD,rj,rm,rfl⟩:=Q8 t W.r;obtain rfl:y1=Æ (Â ⟨an,0,Á⟩) N N:=by simpa using W.t1
 obtain rfl:y6=Æ (Â ⟨ib,0,Á⟩) m c:=by simpa using W.t6
 obtain rfl:y7=Ê Î m:=by simpa using W.C
 obtain rfl:y8=Ê Î kk:=by simpa using W.I
 have ru:∀y:â,(y=⟨n,2,Á⟩\/y=⟨an,j,Á⟩)->l.r y:=λy ha=>by rcases ha with rfl|rfl;exact o1;exact o2
 have atw:(kk:Int)<(m:Int):=Z
 simp only[za];conv in Kr=>whnf
 refine fX (n:=30) D.r ?_;have hF:True:=trivial;repeat w_go fB
 refine Ë λ_ _=> ?_;have B:∀g,gX l ⟨ib,g,Á⟩:=λg=>Ã zd;refine oD (v:=Đ #[À O,Ê Î j,À<|Â ⟨i,0,Á⟩,À<|Â ⟨n,0,Á⟩]) U U (by k_ne) D.r V (λo r=> ?_) (λo r e F=> ?_) ?_
 .have J:=((B<|kk*4).r r).trans i0;have K:=((B<|kk*4+1).r r).trans i1;have L:=((B<|kk*4+2).r r).trans i2;have P:=((B<|kk*4+3).r r).trans i3;go_simp
 .have J:=((B<|kk*4).r r).trans i0;have K:=((B<|kk*4+1).r r).trans i1;have L:=((B<|kk*4+2).r r).trans i2;have P:=((B<|kk*4+3).r r).trans i3;simp[go_sem,J,K,L,P]at F;rcases F with rfl|rfl|rfl|rfl
  .exact(B _).C
  .exact(B _).C
  .exact(B _).C
  .exact(B _).C
 walk_nrm;refine Gx (ob:=É #[À Á,Ê Î 0,À Á,À Á] 155) U U (by k_ne) D.r V (λw=>by go_simp) (λw=>by simp[go_sem]) λo mO=> ?_;walk_nrm;have uk:iD (λa=>a=⟨n,2,Á⟩\/a=⟨an,j,Á⟩) l (gG l o<|É #[À Á,Ê Î 0,À Á,À Á] 155):=Kp D ru mO;have lY:(gG l o<|É #[À Á,Ê Î 0,À Á,À Á] 155).w.heap[o.heap.size]?=Â (É #[À Á,Ê Î 0,À Á,À Á] 155):=mQ;have sJ:l.w.heap.size<=o.heap.size:=mO.r;have I:(gG l o<|É #[À Á,Ê Î 0,À Á,À Á] 155).O o.heap.size:=Ç U;generalize gG l o (É #[À Á,Ê Î 0,À Á,À Á] 155)=l₁ at uk lY I|-;generalize o.heap.size=tb at lY I sJ|-;refine vm U U (by k_ne) λs o7=> ?_;have S:s.heap[tb]?=_:=(o7.I tb<|Ã I).trans lY;have J:s.cell? ⟨tb,0,Á⟩=Â (À Á):=by simp[Ö,S]
 have K:s.cell? ⟨tb,1,Á⟩=Â (Ê Î 0):=by simp[Ö,S]
 have L:s.cell? ⟨tb,2,Á⟩=Â (À Á):=by simp[Ö,S]
 have P:s.cell? ⟨tb,3,Á⟩=Â (À Á):=by simp[Ö,S]
 have hz:∀g,s.frozen? ⟨tb,g,Á⟩=Ì:=λg=>by simp[î,S]
 go_simp;refine⟨{l₁ with w:=iT s tb (À O) (Ê Î j) (À<|Â ⟨i,0,Á⟩) (À<|Â ⟨n,0,Á⟩)},Kq (p:=tb) (lV uk.fx o7) (by rwa[uk.q]) I xc (λg H=>yZ H) ⟨U,U,U⟩ λe F=> ?_,?_⟩
 .have h:=đ F;have e:∀g,pR l₁ ⟨tb,g,Á⟩:=λg=>Ã I;simp[go_sem,á _ _ _ _ _ _ (show Ø (À O)=Ò from rfl),á _ _ _ _ _ _ (show Ø (À<|Â ⟨i,0,Á⟩)=Ò from rfl),á _ _ _ _ _ _ (show Ø (À<|Â ⟨n,0,Á⟩)=Ò from rfl),J,K,L,P,hz]at h;rcases h with rfl|rfl|rfl|rfl
  .exact(e _).r
  .exact(e _).r
  .exact(e _).r
  .exact(e _).r
 let⟨c0,c1,c2,c3⟩:=Q6 (v0:=À O) (v1:=Ê Î j) (v2:=À<|Â ⟨i,0,Á⟩) (v3:=À<|Â ⟨n,0,Á⟩) J K L P;have C:=Q7 (w':=iT s tb (À O) (Ê Î j) (À<|Â ⟨i,0,Á⟩)<|À<|Â ⟨n,0,Á⟩) D ru uk o7 sJ xc λg H=>yZ H;have Bl:({l₁ with w:=iT s tb (À O) (Ê Î j) (À<|Â ⟨i,0,Á⟩) (À<|Â ⟨n,0,Á⟩)}:fe).O tb:=I;replace c0:({l₁ with w:=iT s tb (À O) (Ê Î j) (À<|Â ⟨i,0,Á⟩) (À<|Â ⟨n,0,Á⟩)}:fe).w.cell? ⟨tb,0,Á⟩=_:=c0;replace c1:({l₁ with w:=iT s tb (À O) (Ê Î j) (À<|Â ⟨i,0,Á⟩) (À<|Â ⟨n,0,Á⟩)}:fe).w.cell? ⟨tb,1,Á⟩=_:=c1;replace c2:({l₁ with w:=iT s tb (À O) (Ê Î j) (À<|Â ⟨i,0,Á⟩) (À<|Â ⟨n,0,Á⟩)}:fe).w.cell? ⟨tb,2,Á⟩=_:=c2;replace c3:({l₁ with w:=iT s tb (À O) (Ê Î j) (À<|Â ⟨i,0,Á⟩) (À<|Â ⟨n,0,Á⟩)}:fe).w.cell? ⟨tb,3,Á⟩=_:=c3;generalize({l₁ with w:=iT s tb (À O) (Ê Î j) (À<|Â ⟨i,0,Á⟩) (À<|Â ⟨n,0,Á⟩)}:fe)=l₂ at c0 c1 c2 c3 C Bl|-;clear lY I uk S J K L P hz o7 s l₁ mO o;have rv:=C.G D;have pS:¬l₂.q:=by rwa[C.q]
 have air:l₂.N ⟨i,2,Á⟩:=by rwa[C.c]
 have nE:¬((⟨i,2,Á⟩:â)=⟨n,2,Á⟩\/(⟨i,2,Á⟩:â)=⟨an,j,Á⟩):=λq=>by
  rcases q with q|q
  .exact D.Y _ o1<|q▸ua
  .exact D.Y _ o2<|q▸ua
 have ais:l₂.w.cell? ⟨i,2,Á⟩=Â v:=(C.e _ (Ç ua) nE).trans pH;have Ra:∀y:â,(y=⟨n,2,Á⟩\/y=⟨an,j,Á⟩)->l₂.r y:=λy hy=>by rw[C.I];exact ru y hy
 refine fX (n:=5) rv.r ?_;iterate 2 w_go fB
 refine Ë λ_ _=> ?_;refine Kj (II yW #[y0,Æ (Â ⟨an,0,Á⟩) N N,Y,y3,y4,À<|Â ⟨tb,0,Á⟩,Æ (Â ⟨ib,0,Á⟩) m c,Ê Î m,Ê Î kk,ŝ Ò,À<|Â ⟨ib,kk*4,Á⟩,Đ #[À O,Ê Î j,À<|Â ⟨i,0,Á⟩,À<|Â ⟨n,0,Á⟩],xe,rp,sF,qy,vq,vr,uh,ui,uj,sG,sH,sI,rh,sB,ri,oY,n7,pM,pN,pO,tO,sC,sD,rj,rm] (mP tb i n an N j (À O) v)<|DU l₂ i n an j v Q) rv.r pS (λh H=> ?_) (λmd listed a l e z hI F=>aik rv pS U U U Bl c0 c1 c2 c3 air ais (Ra _<|Ã U) (Ra _<|Ç U) (C.g _ (Ã U) e1) (C.g _ (Ç U) e2) ((C.S _<|Ã o1).trans z1) ((C.S _<|Ã o2).trans z2) tx hN lr (λu h=>tJ u<|C.fg h) md listed a l e z hI F) λmd listed a z hI j5 zf=> ?_
 .refine⟨((Á,0,0),ByteArray.empty),lz.G _ _ _,(iD.fU rv.r).N Ra ⟨H.r,H.I,H.N,H.Y,H.S⟩,λq=> ?_,λq=> ?_,λq=> ?_⟩<;>exact absurd q A
 let⟨x,H,T⟩:=hI;have pT:∀e∈ã 21,listed.getD e Ì=Ò:=by
  cases md
  .exact o5 zf j5 (ã 21) [] fQ λe F=>by cases F
  .exact λe F=>o5 zf j5 [0,1,5,6,7,8,9,10,11,12,13,14,16,17,18,2,3,4,15,19,20] [] fQ (λe F=>by cases F) e (by have:=Ē.1 F;revert e;decide)
  .exact o5 zf j5 (ã 21) [] fQ λe F=>by cases F
 have Gy:=C.fg T.r;have Gz:=Gy.G D;have xf:¬z.q:=by rwa[Gy.q]
 let⟨F,ds⟩:=a;obtain rfl:ds=[]:=H.M;have b1:F[1]?=Â (Æ (Â ⟨an,0,Á⟩) N N):=H.C (d:=1) A;have b5:F[5]?=Â (À<|Â ⟨tb,0,Á⟩):=H.C (d:=5) A;have b6:F[6]?=Â (Æ (Â ⟨ib,0,Á⟩) m c):=H.C (d:=6) A;have b7:F[7]?=Â (Ê Î m):=H.C (d:=7) A;have b8:F[8]?=Â (Ê Î kk):=H.C (d:=8) A;obtain⟨x0,x1,x2,x3,x4,x5,x6,x7,x8,x9,YH,x11,x12,x13,x14,x15,x16,x17,x18,x19,x20,x21,x22,x23,x24,x25,x26,x27,x28,x29,x30,x31,x32,x33,x34,x35,x36,rfl⟩:=Q8 F H.S;obtain rfl:x1=Æ (Â ⟨an,0,Á⟩) N N:=by simpa using b1
 obtain rfl:x5=À (Â ⟨tb,0,Á⟩):=by simpa using b5
 obtain rfl:x6=Æ (Â ⟨ib,0,Á⟩) m c:=by simpa using b6
 obtain rfl:x7=Ê Î m:=by simpa using b7
 obtain rfl:x8=Ê Î kk:=by simpa using b8
 have ait:=T.vp<|pT 12 A;have aiu:=T.I<|pT 18 A;have aiv:=T.N<|pT 20 A;have d3:z.w.cell? ⟨tb,3,Á⟩=Â (À<|Â ⟨n,0,Á⟩):=(gK<|T.r.r tb<|Ã Bl).trans c3;have s3:gX z ⟨tb,3,Á⟩:=Ã<|Ã<|T.r.O tb Bl;clear H pT b1 b5 b6 b7 b8;refine fX (n:=9) Gz.r ?_;iterate 3 w_go fB
 refine Ë λ_ _=> ?_;refine o0 (x:=⟨tb,3,Á⟩) U U (by k_ne) Gz.r xf s3 d3 (λw h=>by go_simp) (λw h=>by simp[go_sem,h]) ?_;walk_nrm;refine fX (n:=9) Gz.r ?_;iterate 2 w_go fB
 u_call qx.f_done (nm_done Lk) doneFn fB hF
 refine Ë λ_ _=> ?_;have xg:∀o,fG z z.w o->lW (λ_=>True) {z with w:=o} n/\SW (λ_=>True) {z with w:=o} n o/\Φ {z with w:=o}/\(τ {z with w:=o}).d=0/\∃E:ß->Prop,lW E (τ {z with w:=o}) n/\SW E (τ {z with w:=o}) n (τ {z with w:=o}).w/\∀s X,SW E (τ {z with w:=o}) n s->Bh an N (Â ⟨ib,0,Á⟩) m c (kk+1) X->fj Ä Ì f {τ {z with w:=o}with d:=0,w:=s} (za X qX):=λo r=>by
  refine Au {z with w:=o} x (Gy.N ru r) ?_ ?_ ?_
  .let⟨y,y1,Y⟩:=ait;exact⟨y,y1,λb h=>⟨(Y b h).1,(r.I b (Y b h).1).trans (Y b h).2⟩⟩
  .exact(r.N _<|Ã<|by rwa[Gy.I]).trans aiu
  .exact(r.N _<|Ã<|by rwa[Gy.I]).trans aiv
 let⟨k1,k2,_⟩:=xg z.w<|fG.fU _ _;refine aip qx τ Φ k1 k2 λo r=> ?_;let⟨_,_,f1,f4,E,f2,f3,f5⟩:=xg o r;refine⟨f1,f4,E,f2,f3,λs h=> ?_⟩;walk_nrm;refine fX (n:=30) h.1 ?_;iterate 7 w_go fB
 refine Ë λ_ _=> ?_;refine f5 s _ h ⟨U,U,U,U,?_⟩;simp;exact Bj Z Z
end
def aiw:Array å:=#[⟨Â 2,ć 85<|Ù 0,85, "work.go:24",#[],Á⟩,
 ⟨Â 3,ć 25<|Ù 1,25, "work.go:24",#[],Á⟩,
 ⟨Â 4,Ě {callee:=ĕ (ĸ 49),args:=#[Ù 2,Ù 3],argTypes:=#[85,25]},0, "work.go:24",#[⟨0,Ü⟩,⟨1,Ü⟩],Á⟩]
def zg(a:Nat)(b c d e:Ï):é:=(baseD 63).at ⟨#[À<|Â ⟨a,0,Á⟩,b,c,d,e],[oZ 64 #[À<|Â ⟨a,0,Á⟩] #[]]⟩ [Ñ YD [1]]
def vt(a b c d e:Ï):é:=(base 48).at ⟨#[a,b,c,d,e],[]⟩ [Ñ aiw [2]]
section
variable{Ψ:ß->Prop}{J:Jd}{l:fe}{a e f o p:Ï}
def aix(c:jP l)(g:¬l.q)(k:gX l ⟨j9,0,Á⟩)(r:gX l ⟨j7,0,Á⟩)(s:gX l ⟨b,0,Á⟩)(t:l.w.cell? ⟨j9,0,Á⟩=Â (Ĉ (ù 48) #[] #[À<|Â ⟨j7,0,Á⟩,À<|Â ⟨b,0,Á⟩]))(u:l.w.cell? ⟨j7,0,Á⟩=Â (Æ O m n))(y:l.w.cell? ⟨b,0,Á⟩=Â (Æ (Â ⟨j,0,Á⟩) i i)) (B:∀d a e f o v x z jQ p,Bh j i O m n 0 d->fj Ä Ì J l (za d [vt v x z jQ p,zg j6 a e f o,nO Ä])): fj Ä Ì J l (born Ä<|oZ 63 #[À<|Â ⟨j6,0,Á⟩,À<|Â ⟨j9,0,Á⟩] #[]):=by
 apply fX (n:=30) c;have hF:=trivial;u_c (Yt Ů fQ U) fB hF;walk_nrmf Κ;iterate 3 w_go fB
 u_c (Yr U U (by k_ne) U U) fB hF
 walk_nrm;repeat w_go fB
 refine Ë λ_ _=> ?_;apply o0 U U (by k_ne) c g k t (λw h=>by go_simp) (λw h=>by simp[go_sem,h]);walk_nrm;apply fX (n:=30) c;u_c (Ys U U (by k_ne) U U ů fQ U) fB hF;walk_nrmf Tryz.f48;w_go fB;refine Ë λ_ _=> ?_;apply o0 U U (by k_ne) c g r u (λw h=>by go_simp) (λw h=>by simp[go_sem,h]);walk_nrm;apply o0 U U (by k_ne) c g s y (λw h=>by go_simp) (λw h=>by simp[go_sem,h]);walk_nrm;apply fX (n:=30) c;u_call Ű fQ Ι fB hF;iterate 8 w_go fB
 refine Ë λ_ _=> ?_;exact B _ _ _ _ _ _ _ _ _ _ ⟨U,U,U,U,U⟩
def aiy(b:Bh j i O m n m d)(h:l.K ⟨k,0,Á⟩/\l.K ⟨k,1,Á⟩)(r:lW Ψ l k)(c:SW Ψ l k l.w)(s:l.d=0)(t:¬l.q)(u:gX l ⟨j6,0,Á⟩)(y:l.w.cell? ⟨j6,0,Á⟩=Â (À<|Â ⟨k,0,Á⟩)): fj Ä Ì (λl g=>yx Ä Ì k (Dw Ä) (ku l) g) l (za d [vt v x z jQ p,zg j6 a e f o,nO Ä]):=by
 obtain⟨C,D,E,F,G,H,I,g,B,J,L,M,N,P,Q,S,T,V,W,X,Y,sG,sH,sI,rh,sB,ri,oY,n7,pM,pN,pO,tO,sC,sD,rj,rm,rfl⟩:=Q8 d b.r;obtain rfl:g=Ê Î m:=by simpa using b.C
 obtain rfl:B=Ê Î m:=by simpa using b.I
 have hmm:¬(m:Int)<(m:Int):=Z
 simp only[za];conv in Kr=>whnf
 apply fX (n:=40) c.1;have hF:=trivial;iterate 8 w_go fB
 u_leave0 Ű fB hF
 iterate 2 w_go fB
 u_leave0 ů fB hF
 refine Ë λ_ _=> ?_;exact YE h r c s t u y
end
def GA:å:=⟨Â 14,ę<|Ù 1,25, "work.go:65",#[],Á⟩
def GB:å:=⟨Â 15,ð 155 (Ù 4) 1,0, "work.go:65",#[],Á⟩
def DV:å:=⟨Â 16,ć 3<|Ù 15,3, "work.go:65",#[⟨1,Ü⟩],Á⟩
def GD:å:=⟨Â 17,ð 155 (Ù 4) 2,0, "work.go:65",#[],Á⟩
def DW:å:=⟨Â 18,ć 86<|Ù 17,86, "work.go:65",#[⟨3,Ü⟩],Á⟩
def DX:å:=⟨Â 19,ĩ<|Ù 18,0, "work.go:65",#[⟨4,Ü⟩],Á⟩
def DY:å:=⟨Â 20,ð 105 (Ù 19) 1,0, "work.go:65",#[⟨5,Ü⟩],Á⟩
def DZ:å:=⟨Â 21,ć 65<|Ù 20,65, "work.go:65",#[⟨6,Ü⟩],Á⟩
def GF:å:=⟨Â 22,ð 155 (Ù 4) 0,0, "work.go:65",#[],Á⟩
def D1:å:=⟨Â 23,ć 148<|Ù 22,148, "work.go:65",#[⟨8,Ü⟩],Á⟩
def Bm:å:=⟨Â 24,Ě {callee:=ĕ<|ĸ 67,args:=#[Ù 21,Ù 23],argTypes:=#[65,148]},9, "work.go:65",#[⟨7,Ü⟩,⟨9,Ü⟩],Á⟩
def Bn:å:=⟨Â 25,ő 25 (Ù 14)<|Ù 16,0, "work.go:65",#[⟨0,Ü⟩,⟨2,Ü⟩,⟨0,Í⟩,⟨1,Í⟩,⟨2,Í⟩,⟨3,Í⟩,⟨4,Í⟩,⟨5,Í⟩,⟨6,Í⟩,⟨7,Í⟩,⟨8,Í⟩,⟨9,Í⟩,⟨10,Í⟩],Á⟩
def Bo:å:=⟨Á,š 9 (Ù 25)<|Ù 24,0, "work.go:65",#[⟨11,Ü⟩,⟨10,Ü⟩,⟨10,Ţ⟩,⟨0,Í⟩,⟨1,Í⟩,⟨2,Í⟩,⟨3,Í⟩,⟨4,Í⟩,⟨5,Í⟩,⟨6,Í⟩,⟨7,Í⟩,⟨8,Í⟩,⟨9,Í⟩,⟨10,Í⟩],Á⟩
def vu:Array å:=#[GA,GB,DV,GD,DW,DX,DY,DZ,GF,D1,Bm,Bn,Bo]
def qz(tb a b N c:Nat)(d e:Ï)(x:ByteArray):Nat->Ï
 |0=>Æ (Â ⟨b,0,Á⟩) N N
 |1=>À<|Â ⟨tb,1,Á⟩
 |2=>Ê Î c
 |3=>À<|Â ⟨tb,2,Á⟩
 |4=>À<|Â ⟨a,0,Á⟩
 |5=>À<|Â ⟨a,0,Á⟩
 |6=>À<|Â ⟨a,2,Á⟩
 |7=>e
 |8=>À<|Â ⟨tb,0,Á⟩
 |9=>d
 |10=>à x
 |11=>À<|Â ⟨b,c,Á⟩
 |_=>Å
structure D2(im:fe)(an pl:Nat)(Q:ByteArray->Prop)(listed:Array Bool)(x:ByteArray)(l:fe):Prop where
 r:iD (λa=>a=⟨an,pl,Á⟩) im l
 vp:listed.getD 10 Ì=Ò->Q x
 I:listed.getD 12 Ì=Ò->l.w.cell? ⟨an,pl,Á⟩=Â (à x)
def D2.C{b l:fe}{Q:ByteArray->Prop}{listed:Array Bool}{x:ByteArray}(h:D2 b n j Q listed x l)(e:i≠10)(f:i≠12)(c:b.r ⟨n,j,Á⟩)(d:ß)(r:fG l l.w d):D2 b n j Q (listed.setIfInBounds i Ò) x {l with w:=d}:=by
 refine⟨h.r.N (λa q=>by rwa[q]) r,λq=> ?_,λq=> ?_⟩
 .rw[ç Ì e]at q;exact h.vp q
 .rw[ç Ì f]at q;exact(r.N _<|by rw[h.r.C];exact Ã c).trans<|h.I q
section
variable{J:Jd}{im:fe}{an pl:Nat}{Q:ByteArray->Prop}
def aiz(W:gy im)(hq:¬im.q)(ht:d.size=26)(Bf:d[1]?=Â (Æ (Â ⟨an,0,Á⟩) i i))(GG:d[4]?=Â (À<|Â ⟨j,0,Á⟩))(hO:im.O j) (J:im.w.cell? ⟨j,0,Á⟩=Â v) (K:im.w.cell? ⟨j,1,Á⟩=Â (Ê Î pl)) (M:im.w.cell? ⟨j,2,Á⟩=Â (À<|Â ⟨n,0,Á⟩)) (X:im.N ⟨n,2,Á⟩) (pH:im.w.cell? ⟨n,2,Á⟩=Â z) (B:im.r ⟨an,pl,Á⟩) (e2:(im.w.cell? ⟨an,pl,Á⟩).isSome=Ò) (z2:im.w.frozen? ⟨an,pl,Á⟩=Ì) (tx:pl<i) (Rb:∀l,iD (λa=>a=⟨an,pl,Á⟩) im l->∀t lH,fj Ä Ì (λP S=>P.d=l.d/\∃T,S=G (t.finish<|à T) lH/\Q T) (lX l)<|G (Ă Ä 67 #[z,v] Ğ)<|t::lH) (md:ý) (listed:Array Bool) (a:ŏ) (l:fe) (b:Nat) (rest:List Nat) (hI:II vu d (qz j n an i pl v z) (D2 im an pl Q) listed a l) (p:b∈Û md vu listed): fj Ä Ì (λP S=>∃I,S=G ((base 51).at I<|Ñ vu rest::L) qX/\II vu d (qz j n an i pl v z) (D2 im an pl Q) (listed.setIfInBounds b Ò) I P) l (G ((base 51).at a<|Ñ vu (b::rest)::L) qX):=by
 let⟨x,m,s⟩:=hI;have E:qu vu d.size=Ò:=by rw[ht];decide
 have YI:=QS p;have gQ:=yV p;have F:=s.r.fx;have H:¬l.q:=by rwa[s.r.q]
 have V:∀y:â,y=⟨an,pl,Á⟩->im.r y:=λy ha=>by rwa[ha]
 have lY:a.tmps[1]?=Â (Æ (Â ⟨an,0,Á⟩) i i):=(m.C A).trans Bf;have Y:a.tmps[4]?=Â (À<|Â ⟨j,0,Á⟩):=(m.C A).trans GG;have t:∀c g,im.w.cell? ⟨j,c,Á⟩=Â g->gX l ⟨j,c,Á⟩/\l.w.cell? ⟨j,c,Á⟩=Â g:=λc g h=>⟨Ã<|Ã<|s.r.O j hO,by rwa[gK<|s.r.r j<|Ã hO]⟩;have QX:¬((⟨n,2,Á⟩:â)=⟨an,pl,Á⟩):=λq=>W.Y _ B<|q▸X;have N:gX l ⟨n,2,Á⟩/\l.w.cell? ⟨n,2,Á⟩=Â z:=⟨Ç (Ç<|by rwa[s.r.c]),by rwa[s.r.e _ (Ç X) QX]⟩;have QY:(pl:Int)<(i:Int):=Z
 have j5:vu.size=13:=A
 rw[j5]at gQ;match b,gQ with
 |0,_=>
  refine il (o:=GA) E m U U p (by k_ne) F H (λk r=> ?_) (λk r e u=> ?_)<|s.C A A B
  .simp only[qz,GA];go_simp
  .simp[go_sem,GA,lY]at u
 |1,_=>
  refine il (o:=GB) E m U U p (by k_ne) F H (λk r=> ?_) (λk r e u=> ?_)<|s.C A A B
  .simp only[qz,GB];go_simp
  .simp[go_sem,GB,Y]at u
 |2,_=>
  have Q0:a.tmps[15]?=Â (À<|Â ⟨j,1,Á⟩):=m.r 1 GB 15 U (ic (o:=DV) p U U) U;refine il (o:=DV) E m U U p (by k_ne) F H (λk r=> ?_) (λk r e u=> ?_)<|s.C A A B
  .have D:k.cell? ⟨j,1,Á⟩=Â (Ê Î pl):=((t 1 _ K).1.r r).trans (t 1 _ K).2;simp only[qz,DV];go_simp
  .have D:k.cell? ⟨j,1,Á⟩=Â (Ê Î pl):=((t 1 _ K).1.r r).trans (t 1 _ K).2;have I:e=⟨û ⟨j,1,Á⟩,Ì,Ì⟩:=by simp[go_sem,DV,D,Q0]at u;exact u
   subst I;exact(t 1 _ K).1.C
 |3,_=>
  refine il (o:=GD) E m U U p (by k_ne) F H (λk r=> ?_) (λk r e u=> ?_)<|s.C A A B
  .simp only[qz,GD];go_simp
  .simp[go_sem,GD,Y]at u
 |4,_=>
  have Q5:a.tmps[17]?=Â (À<|Â ⟨j,2,Á⟩):=m.r 3 GD 17 U (ic (o:=DW) p U U) U;refine il (o:=DW) E m U U p (by k_ne) F H (λk r=> ?_) (λk r e u=> ?_)<|s.C A A B
  .have D:k.cell? ⟨j,2,Á⟩=Â (À<|Â ⟨n,0,Á⟩):=((t 2 _ M).1.r r).trans (t 2 _ M).2;simp only[qz,DW];go_simp
  .have D:k.cell? ⟨j,2,Á⟩=Â (À<|Â ⟨n,0,Á⟩):=((t 2 _ M).1.r r).trans (t 2 _ M).2;have I:e=⟨û ⟨j,2,Á⟩,Ì,Ì⟩:=by simp[go_sem,DW,D,Q5]at u;exact u
   subst I;exact(t 2 _ M).1.C
 |5,_=>
  have Rc:a.tmps[18]?=Â (À<|Â ⟨n,0,Á⟩):=m.r 4 DW 18 U (ic (o:=DX) p U U) U;refine il (o:=DX) E m U U p (by k_ne) F H (λk r=> ?_) (λk r e u=> ?_)<|s.C A A B
  .simp only[qz,DX];go_simp
  .simp[go_sem,DX,Rc]at u
 |6,_=>
  have h19:a.tmps[19]?=Â (À<|Â ⟨n,0,Á⟩):=m.r 5 DX 19 U (ic (o:=DY) p U U) U;refine il (o:=DY) E m U U p (by k_ne) F H (λk r=> ?_) (λk r e u=> ?_)<|s.C A A B
  .simp only[qz,DY];go_simp
  .simp[go_sem,DY,h19]at u
 |7,_=>
  have Ks:a.tmps[20]?=Â (À<|Â ⟨n,2,Á⟩):=m.r 6 DY 20 U (ic (o:=DZ) p U U) U;refine il (o:=DZ) E m U U p (by k_ne) F H (λk r=> ?_) (λk r e u=> ?_)<|s.C A A B
  .have D:k.cell? ⟨n,2,Á⟩=Â (z):=(N.1.r r).trans N.2;simp only[qz,DZ];go_simp
  .have D:k.cell? ⟨n,2,Á⟩=Â (z):=(N.1.r r).trans N.2;have I:e=⟨û ⟨n,2,Á⟩,Ì,Ì⟩:=by simp[go_sem,DZ,D,Ks]at u;exact u
   subst I;exact N.1.C
 |8,_=>
  refine il (o:=GF) E m U U p (by k_ne) F H (λk r=> ?_) (λk r e u=> ?_)<|s.C A A B
  .simp only[qz,GF];go_simp
  .simp[go_sem,GF,Y]at u
 |9,_=>
  have Gw:a.tmps[22]?=Â (À<|Â ⟨j,0,Á⟩):=m.r 8 GF 22 U (ic (o:=D1) p U U) U;refine il (o:=D1) E m U U p (by k_ne) F H (λk r=> ?_) (λk r e u=> ?_)<|s.C A A B
  .have D:k.cell? ⟨j,0,Á⟩=Â (v):=((t 0 _ J).1.r r).trans (t 0 _ J).2;simp only[qz,D1];go_simp
  .have D:k.cell? ⟨j,0,Á⟩=Â (v):=((t 0 _ J).1.r r).trans (t 0 _ J).2;have I:e=⟨û ⟨j,0,Á⟩,Ì,Ì⟩:=by simp[go_sem,D1,D,Gw]at u;exact u
   subst I;exact(t 0 _ J).1.C
 |10,_=>
  have Re:a.tmps[21]?=Â (z):=m.r 7 DZ 21 U (ic (o:=Bm) p U U) U;have h23:a.tmps[23]?=Â (v):=m.r 9 D1 23 U (ic (o:=Bm) p U U) U;refine YC (o:=Bm) E m U U p (by k_ne) F (f:=67) (args:=#[z,v]) (λw=>by simp only[Bm];go_simp) (λw=>ł (o:=Bm) U Tryz.func67 U U #[]) λk r=> ?_;have I:=s.r.N V r;refine((Rb _ I _ _).lX<|I.G W).fO ?_;rintro P S ⟨y,⟨hy0,T,rfl,hQ⟩,rfl,hA,YF,ail,ain⟩;refine⟨T,U,⟨I.QU V hA hy0,λ_=>hQ,λq=> ?_⟩,λc hj=> ?_⟩
  .rw[ç Ì A]at q;exact absurd (m.I (o:=Bo) U q U)<|xb YI
  .match c,hj with
   |10,hj=>exact absurd hj<|xb YI
   |0,_|1,_|2,_|3,_|4,_|5,_|6,_|7,_|8,_|9,_|11,_|12,_|n+13,_=>rfl
 |11,_=>
  have I:a.tmps[14]?=Â (Æ (Â ⟨an,0,Á⟩) i i):=m.r 0 GA 14 U (ic (o:=Bn) p U U) U;have h16:a.tmps[16]?=Â (Ê Î pl):=m.r 2 DV 16 U (ic (o:=Bn) p U U) U;refine il (o:=Bn) E m U U p (by k_ne) F H (λk r=> ?_) (λk r e u=> ?_)<|s.C A A B
  .simp only[qz,Bn];go_simp
  .simp[go_sem,Bn,tx,QY,I,h16]at u
 |12,_=>
  have h25:a.tmps[25]?=Â (À<|Â ⟨an,pl,Á⟩):=m.r 11 Bn 25 U (ic (o:=Bo) p U U) U;have Kn:a.tmps[24]?=Â (à x):=m.r 10 Bm 24 U (ic (o:=Bo) p U U) U;have I:(l.w.cell? ⟨an,pl,Á⟩).isSome=Ò:=s.r.g _ U e2;have Bg:l.w.frozen? ⟨an,pl,Á⟩=Ì:=(s.r.S _<|Ã B).trans z2;have lA:pR l ⟨an,pl,Á⟩:=Ç (by rwa[s.r.I]);refine QV (o:=Bo) (y:=⟨an,pl,Á⟩) (v:=à x) E m U U U p (by k_ne) F H U lA I Bg (λw D e=> ?_) (λw D e=> ?_) λk r=> ?_
  .let⟨u,hu⟩:=Ô.1 D;simp only[Bo];go_simp
  .let⟨u,hu⟩:=Ô.1 D;simp[go_sem,Bo,h25,Kn,á _ _ _ _ _ _ (show Ø (à x)=Ò from rfl),hu,e]
  .have hA:=s.r.qh W V (x:=⟨an,pl,Á⟩) (v:=à x) U U I;refine⟨hA.N V ⟨r.r,r.I,r.N,r.Y,r.S⟩,λq=> ?_,λq=> ?_⟩
   .rw[ç Ì A]at q;exact s.vp q
   .exact(r.N _<|by rw[s.r.C];exact Ã B).trans<|Ay (Ô.1 I).choose_spec
 |n+13,h=>exact absurd h Z
end
def zh:Array å:=#[⟨Â 6,.recv 165 (Ù 5) Ò,0, "work.go:63",#[],Á⟩,⟨Â 7,Ő (Ù 6) 1,4, "work.go:63",#[⟨0,Ü⟩],Á⟩]
def YJ:Array å:=#[⟨Â 8,Ő (Ù 6) 0,155, "work.go:63",#[],Á⟩,⟨Â 4,.alloc 155,0, "work.go:63",#[],Á⟩,⟨Á,š 155 (Ù 4)<|Ù 8,0, "work.go:63",#[⟨1,Ü⟩,⟨0,Ü⟩,⟨0,Í⟩,⟨1,Í⟩],Á⟩]
def Rf:Array å:=#[⟨Â 9,ð 155 (Ù 4) 2,0, "work.go:64",#[],Á⟩,⟨Â 10,ć 86<|Ù 9,86, "work.go:64",#[⟨0,Ü⟩],Á⟩,⟨Â 11,ĩ<|Ù 10,0, "work.go:64",#[⟨1,Ü⟩],Á⟩,⟨Â 12,ð 105 (Ù 11) 0,0, "work.go:64",#[⟨2,Ü⟩],Á⟩,⟨Â 13,Ě {callee:=ĕ<|ĸ 53,args:=#[Ù 12],argTypes:=#[97]},0, "work.go:64",#[⟨3,Ü⟩],Á⟩]
def D3:Ę:=((Ť (Ù 7) ť<|Ŧ 0).seq<|İ 1<|(ä 2 YJ Ì).seq<|(ä 3 Rf Ì).seq<|ä 4 vu Ò)
def Bp:Ę:=(ä 1 zh Ì).seq D3
def aiA:Array å:=#[⟨Â 2,ć 101<|Ù 0,101, "work.go:30",#[],Á⟩,
 ⟨Â 3,ć 25<|Ù 1,25, "work.go:30",#[],Á⟩,
 ⟨Â 4,Ě {callee:=ĕ (ĸ 51),args:=#[Ù 2,Ù 3],argTypes:=#[165,25]},0, "work.go:30",#[⟨0,Ü⟩,⟨1,Ü⟩],Á⟩]
def GH(a b c d e:Ï):é:=(base 50).at ⟨#[a,b,c,d,e],[]⟩ [Ñ aiA [2]]
def YK(t:Array Ï)(a:List é):Ý:=G ((base 51).at ⟨t,[]⟩ [ö Bp,ą Bp,ô 0]) a
def zi(t:Array Ï)(a:List é):Ý:=G ((base 51).at ⟨t,[]⟩ [Ñ zh [0,1],ö D3,ą Bp,ô 0]) a
def Kt(t:Array Ï)(a:List é):Ý:=G ((base 51).at ⟨t,[]⟩ [Ñ Rf [],ö<|ä 4 vu Ò,ô 1,ą Bp,ô 0]) a
def Rh(t:Array Ï)(a:List é):Ý:=G ((base 51).at ⟨t,[]⟩ [Ñ zh [1],ö D3,ą Bp,ô 0]) a
def YL(t:Array Ï)(v:Ï)(a:List é):({zi t a with frame:=(zi t a).frame.finish v}:Ý)=Rh (t.setIfInBounds 6 v) a:=by have:(zi t a).frame.finish v=(base 51).at (Ο ⟨t,[]⟩ (Â 6) v) [Ñ zh [1],ö D3,ą Bp,ô 0]:=Ģ _ _ _ _ _ _ _;rw[this];rfl
def zT:Ï:=Đ #[À Á,Ê Î 0,À Á,À Á]
structure QT(an N ch:Nat)(t:Array Ï):Prop where
 r:t.size=26
 C:t[1]?=Â (Æ (Â ⟨an,0,Á⟩) N N)
 I:t[5]?=Â (è<|Â ch)
def aiB(t:Array Ï)(h:t.size=26):∃a b c d e f g i j k l m n o p q r s u v w x y z B C:Ï,t=#[a,b,c,d,e,f,g,i,j,k,l,m,n,o,p,q,r,s,u,v,w,x,y,z,B,C]:=by obtain⟨_,rfl⟩:=ug t h;exact⟨_,_,_,_,_,_,_,_,_,_,_,_,_,_,_,_,_,_,_,_,_,_,_,_,_,_,U⟩
section
variable{Ψ:ß->Prop}{J u:Jd}{l:fe}{t:Array Ï}{ch an N:Nat}{a:Option â}{Q:ByteArray->Prop}{o p r s c f:Ï}{τ:fe->fe}
def YM(a:jP l)(b:fj Ä Ì J l (zi t qX)):fj Ä Ì J l (YK t qX):=by apply fX (n:=5) a;have hF:=trivial;simp only[YK,Bp];w_go fB;u_c ĺ fB hF;exact Ë λ_ _=>b
def aiC(a:jP l)(d:¬l.q)(e:gX l ⟨k,0,Á⟩)(g:gX l ⟨b,0,Á⟩)(i:gX l ⟨n,0,Á⟩)(j:l.w.cell? ⟨k,0,Á⟩=Â (Ĉ (ù 50) #[] #[À<|Â ⟨b,0,Á⟩,À<|Â ⟨n,0,Á⟩]))(u:l.w.cell? ⟨b,0,Á⟩=Â (è<|Â ch))(v:l.w.cell? ⟨n,0,Á⟩=Â (Æ (Â ⟨an,0,Á⟩) N N)) (y:∀t o p r s x z jQ c f,QT an N ch t->fj Ä Ì J l (zi t [GH x z jQ c f,zg m o p r s,nO Ä])): fj Ä Ì J l (born Ä<|oZ 63 #[À<|Â ⟨m,0,Á⟩,À<|Â ⟨k,0,Á⟩] #[]):=by
 apply fX (n:=30) a;have hF:=trivial;u_c (Yt Ů fQ U) fB hF;walk_nrmf Κ;iterate 3 w_go fB
 u_c (Yr U U (by k_ne) U U) fB hF
 walk_nrm;repeat w_go fB
 refine Ë λ_ _=> ?_;apply o0 U U (by k_ne) a d e j (λw h=>by go_simp) (λw h=>by simp[go_sem,h]);walk_nrm;apply fX (n:=30) a;u_c (Ys U U (by k_ne) U U ű fQ U) fB hF;walk_nrmf Tryz.f50;w_go fB;refine Ë λ_ _=> ?_;apply o0 U U (by k_ne) a d g u (λw h=>by go_simp) (λw h=>by simp[go_sem,h]);walk_nrm;apply o0 U U (by k_ne) a d i v (λw h=>by go_simp) (λw h=>by simp[go_sem,h]);walk_nrm;apply fX (n:=30) a;u_call Ų fQ Tryz.f51 fB hF;iterate 6 w_go fB
 refine Ë λ_ _=> ?_;exact YM a<|y _ _ _ _ _ _ _ _ _ _ ⟨U,U,U⟩
def aiD{Y:Ï}(G:gy l)(M:¬l.q)(P:l.d=0)(hT:QT an N ch t)(hB:60<=i)(aiE:Y=Đ #[À a,Ê Î j7,À<|Â ⟨j9,0,Á⟩,À O])(Q:l.K ⟨j9,0,Á⟩/\l.K ⟨j9,1,Á⟩)(GI:np j9 l.w) (Ri:l.K ⟨j,0,Á⟩/\l.K ⟨j,1,Á⟩) (hsa:np j l.w) (hs:gX l ⟨m,0,Á⟩) (hc:l.w.cell? ⟨m,0,Á⟩=Â (À<|Â ⟨j,0,Á⟩)) (aiF:∀H k t',iD fh l H->H.d=0->H.O k->H.w.cell? ⟨k,0,Á⟩=Â (À a)->H.w.cell? ⟨k,1,Á⟩=Â (Ê Î j7)->H.w.cell? ⟨k,2,Á⟩=Â (À<|Â ⟨j9,0,Á⟩)->QT an N ch t'->t'[4]?=Â (À<|Â ⟨k,0,Á⟩)->u H (Kt t' [GH x z jQ c f,zg m o p r s,nO Ä])): wN Ä Ì ch zT (λb=>match b with
  |some v=>λl g=>v=Y->qp Ä Ì i j9 u .iX l g
  |none=>λl g=>yx Ä Ì j (Dw Ä) (ku l) g) l (zi t [GH x z jQ c f,zg m o p r s,nO Ä]):=by
 obtain⟨y0,y1,y2,y3,y4,y5,y6,y7,y8,y9,xd,ze,xe,rp,sF,qy,vq,vr,uh,ui,uj,sG,sH,sI,rh,sB,rfl⟩:=aiB t hT.r;obtain rfl:y1=Æ (Â ⟨an,0,Á⟩) N N:=by simpa using hT.C
 obtain rfl:y5=è (Â ch):=by simpa using hT.I
 have hF:=trivial;refine⟨U,U,λD=> ?_,λb=> ?_⟩
 .refine(Ż (cases:=#[rcase ch zT]) (blocking:=Ò) (shape:=.recv Ò) (w':=D) rfl rfl (by k_ne) ?_).trans ?_
  .simp[go_sem,zh,ĉ,rcase,zT]
  .simp[listed,go_sem,zh,ĉ,Ī];rfl
 cases b with
 |none=>
  rw[YL];simp only[Rh,D3,zh,Option.getD_none,ı,ē,Ĳ,ĳ];apply fX (n:=30) G.r;iterate 6 w_go fB
  u_leave0 Ų fB hF
  iterate 2 w_go fB
  u_leave0 ű fB hF
  refine Ë λ_ _=> ?_;exact YE (Ψ:=λ_=>True) Ri ⟨Ã Ri.1,Ã Ri.2,λ_ _ _ _ _ _ _ _=>trivial⟩ ⟨G.r,hsa,trivial⟩ P M hs hc
 |some v=>
  by_cases hv:v=Y
  .subst hv;subst aiE;apply fj.fO λl g h _=>h;rw[YL];simp only[Rh,D3,zh,Ń,Option.isSome_some,ē,Ĳ,ĳ];apply fX (n:=30) G.r;iterate 7 w_go fB
   u_c ĺ fB hF
   simp only[YJ,Ļ,ń,ŋ,ś,č,ã,List.range.loop];w_go fB;refine Ë λ_ _=> ?_;have ru:∀y:â,False->l.r y:=λy ha=>ha.elim;refine Gx (ob:=É #[À Á,Ê Î 0,À Á,À Á] 155) U U (by k_ne) G.r M (λw=>by go_simp) (λw=>by simp[go_sem]) λD mO=> ?_;walk_nrm;have S:iD fh l (gG l D<|É #[À Á,Ê Î 0,À Á,À Á] 155):=Kp G ru mO;have lY:(gG l D<|É #[À Á,Ê Î 0,À Á,À Á] 155).w.heap[D.heap.size]?=Â (É #[À Á,Ê Î 0,À Á,À Á] 155):=mQ;have sJ:=mO.r;have I:(gG l D<|É #[À Á,Ê Î 0,À Á,À Á] 155).O D.heap.size:=Ç U;generalize gG l D (É #[À Á,Ê Î 0,À Á,À Á] 155)=l₁ at S lY I|-;generalize D.heap.size=k at lY I sJ|-;refine vm U U (by k_ne) λC o7=> ?_;have J:=(o7.I k<|Ã I).trans lY;have D4:C.cell? ⟨k,0,Á⟩=Â (À Á):=by simp[Ö,J]
   have yU:C.cell? ⟨k,1,Á⟩=Â (Ê Î 0):=by simp[Ö,J]
   have qA:C.cell? ⟨k,2,Á⟩=Â (À Á):=by simp[Ö,J]
   have um:C.cell? ⟨k,3,Á⟩=Â (À Á):=by simp[Ö,J]
   have hz:∀g,C.frozen? ⟨k,g,Á⟩=Ì:=λg=>by simp[î,J]
   go_simp;refine⟨{l₁ with w:=iT C k (À a) (Ê Î j7) (À<|Â ⟨j9,0,Á⟩) (À O)},Kq (lV S.fx o7) (by rwa[S.q]) I xc (λg F=>yZ F) ⟨U,U,U⟩ λe L=> ?_,?_⟩
   .have E:=đ L;have B:∀g,pR l₁ ⟨k,g,Á⟩:=λg=>Ã I;simp[go_sem,á _ _ _ _ _ _ (show Ø (À a)=Ò from rfl),á _ _ _ _ _ _ (show Ø (À<|Â ⟨j9,0,Á⟩)=Ò from rfl),á _ _ _ _ _ _ (show Ø (À O)=Ò from rfl),D4,yU,qA,um,hz]at E;rcases E with rfl|rfl|rfl|rfl
    .exact(B _).r
    .exact(B _).r
    .exact(B _).r
    .exact(B _).r
   obtain⟨T,V,L,c3⟩:=Q6 D4 yU qA um;have E:=Q7 (w':=iT C k (À a) (Ê Î j7) (À<|Â ⟨j9,0,Á⟩)<|À O) G ru S o7 sJ xc λg F=>yZ F;have W:({l₁ with w:=iT C k (À a) (Ê Î j7) (À<|Â ⟨j9,0,Á⟩) (À O)}:fe).O k:=I;replace T:({l₁ with w:=iT C k (À a) (Ê Î j7) (À<|Â ⟨j9,0,Á⟩) (À O)}:fe).w.cell? ⟨k,0,Á⟩=_:=T;replace V:({l₁ with w:=iT C k (À a) (Ê Î j7) (À<|Â ⟨j9,0,Á⟩) (À O)}:fe).w.cell? ⟨k,1,Á⟩=_:=V;replace L:({l₁ with w:=iT C k (À a) (Ê Î j7) (À<|Â ⟨j9,0,Á⟩) (À O)}:fe).w.cell? ⟨k,2,Á⟩=_:=L;generalize({l₁ with w:=iT C k (À a) (Ê Î j7) (À<|Â ⟨j9,0,Á⟩) (À O)}:fe)=l₂ at T V L E W|-;have X:=E.G G;have pS:¬l₂.q:=by rwa[E.q]
   apply fX (n:=9) X.r;iterate 2 w_go fB
   u_c ĺ fB hF
   simp only[Rf,Ļ,ń,ŋ,ś,č,ã,List.range.loop];w_go fB;refine Ë λ_ _=> ?_;apply o0 U U (by k_ne) X.r pS (Ã<|Ã W) L (λw h=>by go_simp) (λw h=>by simp[go_sem,h]);walk_nrm;apply fX (n:=9) X.r;iterate 2 w_go fB
   u_call qx.f_wait (nm_wait Lk) waitFn fB hF
   refine Ë λ_ _=> ?_;have k2:lW (λw=>fG l₂ l₂.w w) l₂ j9:=⟨Ã (by rw[E.K];exact Q.1),Ã (by rw[E.K];exact Q.2),λw D h1 h2 h3 h4 h5 h=>h.fg ⟨h1,h2,h3,h4,h5⟩⟩;have s2:SW (λw=>fG l₂ l₂.w w) l₂ j9 l₂.w:=⟨X.r,⟨E.b _ Q.1 GI.1,E.b _ Q.2 GI.2⟩,fG.fU _ _⟩;refine Yp qx hB k2 s2 (E.d.trans P) λD YN=> ?_;walk_nrm;refine .fC λDv F=> ?_;have B:=E.N ru<|YN.2.2.fg ⟨F.r,F.I,F.N,F.Y,F.S⟩;have hdd:=E.d.trans P;have Bq:iD fh l ({l₂ with d:=0,w:=Dv}:fe):=⟨B.O,B.h,B.Y,B.I,B.c,B.K,B.q,P.symm,B.fx,B.f,B.r,B.e,B.S,B.b,B.g⟩;have rr:=YN.2.2.fg ⟨F.r,F.I,F.N,F.Y,F.S⟩;have cc:∀g,Dv.cell? ⟨k,g,Á⟩=l₂.w.cell? ⟨k,g,Á⟩:=λg=>gK<|rr.I k<|Ã W;exact aiF {l₂ with d:=0,w:=Dv} k _ Bq U W ((cc 0).trans T) ((cc 1).trans V) ((cc 2).trans L) ⟨U,U,U⟩ U
  .exact .fC λ_ _ e=>absurd e hv
end
section
variable{J:Jd}{l:fe}{Q:ByteArray->Prop}
def aiG(f:gy l)(C:¬l.q)(g:QT n i j d)(L:d[4]?=Â (À<|Â ⟨m,0,Á⟩))(M:l.O m) (N:l.w.cell? ⟨m,0,Á⟩=Â (À O)) (P:l.w.cell? ⟨m,1,Á⟩=Â (Ê Î k)) (S:l.w.cell? ⟨m,2,Á⟩=Â (À<|Â ⟨b,0,Á⟩)) (T:l.N ⟨b,2,Á⟩) (V:l.w.cell? ⟨b,2,Á⟩=Â v) (p:l.r ⟨n,k,Á⟩) (W:(l.w.cell? ⟨n,k,Á⟩).isSome=Ò) (X:l.w.frozen? ⟨n,k,Á⟩=Ì) (Y:k<i) (Rb:∀e,iD (λa=>a=⟨n,k,Á⟩) l e->∀D E,fj Ä Ì (λl'' g'=>l''.d=e.d/\∃F,g'=G (D.finish<|à F) E/\Q F) (lX e)<|G (Ă Ä 67 #[v,À O] Ğ)<|D::E) (hJ:∀e x H,iD (λa=>a=⟨n,k,Á⟩) l e->Q x->e.w.cell? ⟨n,k,Á⟩=Â (à x)->QT n i j H->J e (zi H qX)): fj Ä Ì J l (Kt d qX):=by
 have I:∀y:â,y=⟨n,k,Á⟩->l.r y:=λy ha=>by rwa[ha]
 have hF:=trivial;apply fX (n:=3) f.r;simp only[Kt];w_go fB;refine Ë λ_ _=> ?_;refine Kj (II vu d (qz m b n i k (À O) v)<|D2 l n k Q) f.r C (λo h=> ?_) (λs t a l c o u r=>aiz f C g.r g.C L M N P S T V p W X Y Rb s t a l c o u r) λs t a kn u z B=> ?_
 .refine⟨ByteArray.empty,lz.G _ _ _,(iD.fU f.r).N I ⟨h.r,h.I,h.N,h.Y,h.S⟩,λq=> ?_,λq=> ?_⟩<;>exact absurd q A
 let⟨x,o,h⟩:=u;have K:∀c∈ã 13,t.getD c Ì=Ò:=by
  cases s
  .exact o5 B z (ã 13) [] fQ λc r=>by cases r
  .exact o5 B z (ã 13) [] fQ λc r=>by cases r
  .exact o5 B z (ã 13) [] fQ λc r=>by cases r
 have s:=h.r.G f;let⟨z,B⟩:=a;obtain rfl:B=[]:=o.M;apply fX (n:=9) s.r;iterate 3 w_go fB
 refine Ë λ_ _=> ?_;refine YM s.r<|.fC λw₁ r=>(hJ {kn with w:=w₁} x z (h.r.N I r) (h.vp<|K 10 A) ((r.N _<|Ã<|by rwa[h.r.I]).trans<|h.I<|K 12 A) ⟨o.S.trans g.r,((o.C A).trans g.C),((o.C A).trans g.I)⟩)
end
structure gi(X:Nat->Prop)(l l':fe):Prop where
 O:∀j,l.O j->l'.O j
 c:∀j,l'.O j->l.O j\/l.w.heap.size<=j
 S:l'.I=l.I
 Y:l'.r=l.r
 b:l'.N=l.N
 K:l'.K=l.K
 q:l'.q=l.q
 d:l'.d=l.d
 fx:jP l'
 I:l.w.heap.size<=l'.w.heap.size
 r:∀j,l.M j->¬X j->l'.w.heap[j]?=l.w.heap[j]?
 f:∀a,l.C a->l'.w.cell? a=l.w.cell? a
 g:∀a,l.C a->l'.w.frozen? a=l.w.frozen? a
 e:∀a,l.K a->(l.w.cell? a).isSome=Ò->(l'.w.cell? a).isSome=Ò
section
variable{l l' l'':fe}
theorem gi.fU(h:jP l):gi X l l:=⟨λ_ h=>h,λ_ h=>Ã h,U,U,U,U,U,U,h,Ú _,λ_ _ _=>rfl,λ_ _=>rfl,λ_ _=>rfl,λ_ _ h=>h⟩
def gi.C(h:gi X l l'):l'.C=l.C:=by unfold fe.C;rw[h.Y,h.b]
def gi.M(h:gi X l l')(a:l.M b):l'.M b:=a.imp (h.O b)<|by rw[h.S];exact id
def gi.fg(h:gi X l l')(k:gi X l' l''):gi X l l'':=by have e:=h.C;exact⟨λj c=>k.O j<|h.O j c,λj c=>(k.c j c).elim (h.c j) λq=>Ç<|Õ h.I q,k.S.trans h.S,k.Y.trans h.Y,k.b.trans h.b,k.K.trans h.K,k.q.trans h.q,k.d.trans h.d,k.fx,Õ h.I k.I,λj c f=>(k.r j (h.M c) f).trans<|h.r j c f,λa b=>(k.f a<|by rwa[e]).trans<|h.f a b,λa b=>(k.g a<|by rwa[e]).trans<|h.g a b,λa b q=>k.e a (by rwa[h.K])<|h.e a b q⟩
def gi.G(h:gi X l l'){w₁:ß}(r:fG l' l'.w w₁):gi X l {l' with w:=w₁}:= h.fg ⟨λ_ q=>q,λ_ q=>Ã q,U,U,U,U,U,U,lV h.fx r,r.r,λj a _=>r.I j a,r.N,r.Y,r.S⟩
def gi.fO{a:Nat->Prop}(h:gi X l l')(c:∀j,l.M j->X j->a j):gi a l l':=⟨h.O,h.c,h.S,h.Y,h.b,h.K,h.q,h.d,h.fx,h.I,λj b e=>h.r j b λq=>e<|c j b q,h.f,h.g,h.e⟩
def gi.N(h:gi X l l')(s:gy l):gy l' where
 c b hb:=by
  rw[h.S];rcases h.c b hb with q|q
  .exact s.c b q
  .exact λz=>by have:=s.fx b<|Ç z;omega
 Y a ha:=by rw[h.b];exact s.Y a<|by rwa[<-h.Y]
 N a ha hb:=by
  rw[h.C]at ha;rcases hb with q|q
  .rcases h.c _ q with z|z
   .exact s.N a ha<|Ã z
   .have:=s.I a ha;omega
  .rw[h.S]at q;exact s.N a ha<|Ç q
 fx b hb:=by
  rcases hb with q|q
  .exact h.fx b q
  .rw[h.S]at q;exact È (s.fx b<|Ç q) h.I
 I a ha:=by rw[h.C]at ha;exact È (s.I a ha) h.I
 S a ha:=by
  rw[h.K]at ha;let⟨c,d,e⟩:=s.S a ha;refine⟨λq=> ?_,È d h.I,by rwa[h.Y]⟩;rcases q with q|q
  .rcases h.c _ q with z|z
   .exact c<|Ã z
   .omega
  .rw[h.S]at q;exact c<|Ç q
def mR{ob:Ÿ}(s:gy l){w₁:ß}(r:fG l l.w w₁):gi X l (gG l w₁ ob):=by have h:=Kp (E:=fh) (ob:=ob) s (λ_ q=>q.elim) r;exact⟨h.O,h.h,h.Y,h.I,h.c,h.K,h.q,h.d,h.fx,h.f,λj b _=>h.r j b,λa c=>h.e a c id,h.S,h.b⟩
def Ku{w':ß}{p:Nat}(s:gy l)(r:fG l l.w u)(c:l.O p)(g:X p)(d:w'.heap.size=u.heap.size)(b:∀j,j≠p->w'.heap[j]?=u.heap[j]?):gi X l {l with w:=w'}:=by
 have f:∀a:â,l.C a->a.block≠p:=λa h e=>s.N a h<|Ã<|e▸c;refine⟨λ_ q=>q,λ_ q=>Ã q,U,U,U,U,U,U,λj q=> ?_,?_,λj q n=>(b j λe=>n<|e▸g).trans<|r.I j q,λa q=>(gK<|b _<|f a q).trans<|r.N a q,λa q=>(wM<|b _<|f a q).trans<|r.Y a q,λa q z=> ?_⟩
 .show j<w'.heap.size;rw[d];exact È (s.fx j<|Ã q) r.r
 .show l.w.heap.size<=w'.heap.size;rw[d];exact r.r
 .show(w'.cell? a).isSome=Ò;rw[gK (b a.block λe=>(s.S a q).1<|Ã<|e▸c)];exact r.S a q z
end
section
variable{J:Jd}{l:fe}{a:ŏ}{k:List ŷ}{cs:List é}{ob:Ÿ}
def pb{V:Nat->Ï}(c:Q[i]?=Â o)(d:Ė o (ţ Q a.tmps)=Ò)(e:f.kind≠Ź)(g:jP l)(h:¬l.q) (j:∀w,(ĉ a.eval o).run P w=.ok (.value<|V w.heap.size) (w.alloc ob)) (m:∀w,(ĉ a.eval o).events P w #[]=#[]) (n:∀b,fG l l.w b->fj P yQ J (gG l b ob) (G (f.at (a.put o.dst<|V b.heap.size)<|Ñ Q jJ::k) cs)):fj P yQ J l (G (f.at a<|Ñ Q (i::jJ)::k) cs):=by
 refine vm c d e λb r=> ?_;rw[j b];refine⟨_,?_,n b r⟩;have:listed P f.fn a o b=#[]:=by unfold listed;rw[m b,Ī]
 rw[this];exact YG (lV g r) h
def GJ{p off:Nat}{u:Ï}(m:Q[i]?=Â o)(n:Ė o (ţ Q a.tmps)=Ò)(s:f.kind≠Ź)(t:jP l)(x:¬l.q)(b:l.O p)(d:l.w.cell? ⟨p,off,Á⟩=Â u)(y:l.w.frozen? ⟨p,off,Á⟩=Ì)(z:o.dst=Á) (B:∀w,w.cell? ⟨p,off,Á⟩=Â u->w.frozen? ⟨p,off,Á⟩=Ì->(ĉ a.eval o).run P w=.ok .skip (w.setCell ⟨p,off,Á⟩ v)) (C:∀w,w.cell? ⟨p,off,Á⟩=Â u->w.frozen? ⟨p,off,Á⟩=Ì->(ĉ a.eval o).events P w #[]=#[⟨û ⟨p,off,Á⟩,Ò,Ì⟩]) (D:fj P yQ J {l with w:=l.w.setCell ⟨p,off,Á⟩ v} (G (f.at a<|Ñ Q jJ::k) cs)):fj P yQ J l (G (f.at a<|Ñ Q (i::jJ)::k) cs):=by
 have E:gX l ⟨p,off,Á⟩:=Ã<|Ã b;refine vm m n s λg r=> ?_;have c:=(E.r r).trans d;have j:=(wM<|r.I p<|Ã b).trans y;rw[B g c j];refine⟨_,YA U (lV t r) x (Ã b) λe h=> ?_,?_⟩
 .have:=đ h;rw[C g c j]at this;have:e=⟨û ⟨p,off,Á⟩,Ò,Ì⟩:=by simpa using this
  subst this;exact pR.r<|Ã b
 .have:(a.put o.dst Å)=a:=by rw[z];rfl
  rw[this];exact D.jV<|yP<|Yz U (by rw[d];rfl) (by rw[c];rfl) r
def mS(l:fe)(w₁ a:ß):fe:={l with O:=λf=>l.O f\/(w₁.heap.size<=f/\f<a.heap.size),w:=a}
def Kv(s:gy l){w₁:ß}(r:fG l l.w w₁){a:Option Nat}(d:w₁.grownBy u a)(c:∀k,a=Â k->l.O k/\X k):gi X l (mS l w₁ u):=by
 have i:=r.r;have m:=d.size;have b:∀j,j<l.w.heap.size->Â j≠a->u.heap[j]?=w₁.heap[j]?:=λj o g=>d.block j Z g;have f:∀x:â,l.C x->Â x.block≠a:=λx h e=>s.N x h<|Ã (c _ e.symm).1;refine⟨λ_ q=>Ã q,λj q=>q.imp id λz=>by omega,U,U,U,U,U,U,λj q=> ?_,?_,λj q n=>(b j (s.fx j q) λe=>n (c j e.symm).2).trans<|r.I j q,λx q=>(gK<|b _ (s.I x q)<|f x q).trans<|r.N x q,λx q=>(wM<|b _ (s.I x q)<|f x q).trans<|r.Y x q,λx q z=> ?_⟩
 .show j<u.heap.size;rcases q with q|q
  .have:=s.fx j<|Ã q;omega
  .exact q.2
 .show l.w.heap.size<=u.heap.size;omega
 .show(u.cell? x).isSome=Ò;rw[gK (b x.block (s.S x q).2.1 λe=>(s.S x q).1<|Ã (c _ e.symm).1)];exact r.S x q z
def nP{w₁:ß}{sz:Nat}{xs:List Ï}(h:w.ownsRow i e sz v n xs)(a:∀k,v.ownBlock=Â k->w₁.heap[k]?=w.heap[k]?):w₁.ownsRow i e sz v n xs:=by refine⟨h.1,h.2.imp id ?_⟩;rintro⟨g,b,c,rfl,d,f,j⟩;exact⟨g,b,c,U,d,(a g U).trans f,j⟩
def Rj{p:Nat}{u:Ï}(h:w.cell? ⟨p,0,Á⟩=Â u):∀j y,[u][j]?=Â y->w.cell? ⟨p,j,Á⟩=Â y
 |0,_,e=>Ó e▸h
 |_+1,_,e=>by cases e
def aiH{s a:List Ï}(h:P.underlying t=Â (.slice e))(k:P.info? e=Â zJ)(B:zJ.zero=Â z)(l:zJ.size=m)(C:a.length=m)(F:(n+1)*zJ.bytes<=140737488355328)(G:n+1<=œ) (o:w.ownsRow 0 e m v n s) (p:∀j y,a[j]?=Â y->w.cell? ((⟨b,0,Á⟩:â).add j)=Â y) (H:∀u∈a,u.oneCell'=Ò) (d:(Builtin.append_ #[t,t] T #[v,Æ (Â ⟨b,0,Á⟩) 1 i]).run P w=.ok x W):x.ownBlock=v.ownBlock\/x.ownBlock=Â w.heap.size:=by
 have q:a.length=1*zJ.size:=by rw[l,C];omega
 have L:n+1<=9223372036854775807:=by simp only[œ]at G;omega
 rcases o.2 with⟨rfl,rfl⟩|⟨g,r,D,rfl,_,I,M,N,J,O⟩
 .have f:=run_append_nil (P:=P) w t T e zJ z h k B ⟨b,0,Á⟩ 1 i a q p Z Z Z;rw[f]at d;cases d;exact Ç U
 .by_cases E:n+1<=r
  .have K:n*zJ.size+a.length<=D.size:=by
    rw[J,l,C,show n*m+m=(n+1)*m by rw[Nat.add_mul];omega];exact Nat.mul_le_mul_right _ E
   have f:=run_append_room (P:=P) w t T e zJ h k g n r D I ⟨b,0,Á⟩ 1 i a q p H E K;rw[f]at d;cases d;exact Ã U
  .have f:=run_append_grow (P:=P) w t T e zJ z h k B ⟨g,0,Á⟩ n r s (by rw[l];exact o.1) (o.cells (g:=g) U) ⟨b,0,Á⟩ 1 i a q p Z Z<|growslice_fits Z F;rw[f]at d;cases d;exact Ç U
theorem GK{x:Ĥ}{inf:Ž}{c px sz:Nat}{xs us:List Ï}(ho:Q[i]?=Â o)(hw:Ė o (ţ Q a.tmps)=Ò)(hk:f.kind≠Ź)(sn:gy l)(hq:¬l.q) (V:o.op=Ě {callee:=Ŕ .append,args:=#[qQ,x],argTypes:=#[t,t]}) (W:a.eval qQ=v) (X:a.eval x=Æ (Â ⟨px,0,Á⟩) 1 c) (E:P.underlying t=Â (.slice e)) (F:P.info? e=Â inf) (H:inf.zero=Â z) (I:inf.size=sz) (j5:0<sz) (Kw:us.length=sz) (ry:z.cells.size=sz) (K:(n+1)*inf.bytes<=140737488355328) (L:n+1<=œ) (lA:l.w.ownsRow 0 e sz v n xs) (C:∀k,v.ownBlock=Â k->l.O k) (YO:l.O px) (hu:∀j u,us[j]?=Â u->l.w.cell? ⟨px,j,Á⟩=Â u) (d:∀u∈us,u.oneCell'=Ò) (hn:∀b B g,fG l l.w b->g.ownsRow 0 e sz B (n+1) (xs++us)->b.grownBy g v.ownBlock->(∀k,B.ownBlock=Â k->(mS l b g).O k)->(B.ownBlock=v.ownBlock\/B.ownBlock=Â b.heap.size)->fj P yQ J (mS l b g) (G (f.at (a.put o.dst B)<|Ñ Q jJ::k) cs)): fj P yQ J l (G (f.at a<|Ñ Q (i::jJ)::k) cs):=by
 refine vm ho hw hk λb r=> ?_;have hM:∀k,l.O k->b.heap[k]?=l.w.heap[k]?:=λk q=>r.I k<|Ã q;have M:=nP lA (w₁:=b) λk q=>hM k<|C k q;have N:∀j w,us[j]?=Â w->b.cell? ((⟨px,0,Á⟩:â).add j)=Â w:=λj w h=>by rw[ğ,č];grind [gK]
 have Y:us.length=1*sz:=Z
 let⟨B,g,iI,hown',p,zf⟩:=run_append_own (P:=P) b 0 t o.type e inf z sz inf.bytes E F H I U ry j5 v n xs M ⟨px,0,Á⟩ 1 c us Y N d L K<|ă _;have uo:=aiH E F H I Kw K L M N d iI;refine uponK_append qQ x t V W X iI ⟨mS l b g,?_,hn b B g r hown' p (λk q=> ?_) uo⟩
 .have he:∀D∈listed P f.fn a o b,tZ (mS l b g) D:=λD S=>by
   have h2:=đ S;rw[events_append_op qQ x t V W X]at h2;rcases(events_append_where (P:=P) b 0 t o.type e inf z sz inf.bytes E F H I rfl v n xs M ⟨px,0,Á⟩ 1 c us Y N d L K) D h2 with⟨ad,T,y⟩|⟨m,rfl,aiI⟩
   .refine⟨Ã ⟨ad,T,Ã ?_⟩,by rw[T];simp,by rw[T];simp⟩;rcases y with⟨_,y⟩|y
    .exact Ã<|by rwa[y]
    .exact Ã<|C _ y.symm
   .have tL:m=.noRoom:=aiI;subst tL;exact⟨Ç<|Ã U,fp,fp⟩
  refine⟨p.size,λj q=>q.imp id λz=>z.1,λj q=> ?_,U,U,U,U,λj T d _=>p.block j T λe=>d<|C j e.symm,λy m d _=>gK (p.block _ m λe=>d<|C _ e.symm),λy m d=>wL (p.block _ m λe=>d<|C _ e.symm),p.os,p.output,p.tape,λD S=>(he D S).1,(Kh he _).symm,U,λq=>absurd q hq,U⟩;rcases q with q|q
  .exact È ((lV sn.r r) j q) p.size
  .exact q.2
 .have y:k<g.heap.size:=(hown'.lt k q).2;rcases uo with m|m
  .exact Ã<|C k<|by rwa[<-m]
  .rw[m]at q;obtain rfl:=Ó q;exact Ç ⟨Ú _,y⟩
end
def YP:Array å:=#[⟨Â 25,Ş (ù 48) #[] #[Ù 9,Ù 8],1, "work.go:24",#[],Á⟩,⟨Â 26,Ě {callee:=ĕ<|ĸ 47,args:=#[Ù 12,Ù 25],argTypes:=#[97,1]},0, "work.go:24",#[⟨0,Ü⟩],Á⟩]
def YQ:Array å:=#[⟨Â 13,ŧ<|Ũ<|Æ Á 0 0,100, "work.go:25",#[],Á⟩]
def YR:Array å:=#[⟨Â 27,ę<|Ù 2,3, "work.go:26",#[],Á⟩,⟨Â 28,ę<|Ũ<|Ê Î 0,3, "work.go:26",#[],Á⟩]
def Rk:Array å:=#[⟨Â 29,Λ .lss 3 (Ù 28) (Ù 27) 3,4, "work.go:26",#[],Á⟩]
def YS:Array å:=#[⟨Â 30,ę<|Ù 10,85, "work.go:28",#[],Á⟩,⟨Â 31,Ě {callee:=Ŕ .len,args:=#[Ù 30],argTypes:=#[85]},3, "work.go:28",#[⟨0,Ü⟩],Á⟩,⟨Â 32,.makeChan 101<|Ù 31,101, "work.go:28",#[⟨1,Ü⟩],Á⟩,⟨Â 14,.alloc 101,0, "work.go:28",#[],Á⟩,⟨Á,š 101 (Ù 14)<|Ù 32,0, "work.go:28",#[⟨3,Ü⟩,⟨2,Ü⟩,⟨0,Í⟩,⟨1,Í⟩,⟨2,Í⟩,⟨3,Í⟩],Á⟩]
def YT:Array å:=#[⟨Â 33,ę<|Ù 13,100, "work.go:29",#[],Á⟩,⟨Â 34,ć 101<|Ù 14,101, "work.go:29",#[],Á⟩,⟨Â 35,.buildSlice 100 1 #[(0,Ù 34)],100, "work.go:29",#[⟨1,Ü⟩],Á⟩,⟨Â 36,Ě {callee:=Ŕ .append,args:=#[Ù 33,Ù 35],argTypes:=#[100,100]},100, "work.go:29",#[⟨0,Ü⟩,⟨2,Ü⟩],Á⟩,⟨Â 13,ŧ<|Ù 36,100, "work.go:29",#[⟨3,Ü⟩,⟨3,Ţ⟩,⟨0,Í⟩,⟨1,Í⟩,⟨2,Í⟩,⟨3,Í⟩],Á⟩]
def Kx:Array å:=#[⟨Â 37,Ş (ù 50) #[] #[Ù 14,Ù 8],1, "work.go:30",#[],Á⟩,⟨Â 38,Ě {callee:=ĕ<|ĸ 47,args:=#[Ù 12,Ù 37],argTypes:=#[97,1]},0, "work.go:30",#[⟨0,Ü⟩],Á⟩]
def Rl:Array å:=#[⟨Â 39,Λ .add 3 (Ù 28) (Ũ<|Ê Î 1) 3,3, "work.go:26",#[],Á⟩,⟨Â 28,ę<|Ù 39,3, "work.go:26",#[⟨0,Ü⟩],Á⟩]
def Ky:Array å:=#[⟨Â 40,ę<|Ù 10,85, "work.go:32",#[],Á⟩,⟨Â 41,ę<|Ù 13,100, "work.go:32",#[],Á⟩,⟨Â 42,Ě {callee:=ĕ<|ĸ 52,args:=#[Ù 40,Ù 41],argTypes:=#[85,100]},0, "work.go:32",#[⟨0,Ü⟩,⟨1,Ü⟩],Á⟩]
def Kz:Array å:=#[⟨Â 43,Ě {callee:=ĕ<|ĸ 53,args:=#[Ù 12],argTypes:=#[97]},0, "work.go:33",#[],Á⟩]
def GM:å:=⟨Â 44,ć 25<|Ù 8,25, "work.go:34",#[],Á⟩
def GN:å:=⟨Â 45,ę<|Ù 11,86, "work.go:34",#[{on:=5,ground:=õ Ð}],Á⟩
def GO:å:=⟨Â 46,ĩ<|Ù 45,0, "work.go:34",#[⟨1,Ü⟩,{on:=5,ground:=õ Ð}],Á⟩
def GQ:å:=⟨Â 47,ð 105 (Ù 46) 1,0, "work.go:34",#[⟨2,Ü⟩,{on:=5,ground:=õ Ð}],Á⟩
def GR:å:=⟨Â 48,ć 65<|Ù 47,65, "work.go:34",#[⟨3,Ü⟩,{on:=5,ground:=õ Ð}],Á⟩
def GU:å:=⟨Â 6,ŧ<|Ù 44,25, "work.go:34",#[⟨0,Ü⟩,⟨0,Í⟩,{on:=1,ground:=Þ Ð},{on:=2,ground:=Þ Ð},{on:=3,ground:=Þ Ð},{on:=4,ground:=Þ Ð}],Á⟩
def GV:å:=⟨Â 7,ŧ<|Ù 48,65, "work.go:34",#[⟨4,Ü⟩,⟨5,Ţ⟩,⟨0,Í⟩,⟨1,Í⟩,⟨2,Í⟩,⟨3,Í⟩,⟨4,Í⟩,⟨5,Í⟩],Á⟩
def xh:Array å:=#[GM,GN,GO,GQ,GR,GU,GV]
def KA:Ę:=(ä 14 xh Ò).seq Ρ
def KB:Ę:=(ä 12 Ky Ì).seq<|(ä 13 Kz Ì).seq KA
def D5:Ę:=(ä 7 Rk Ì).seq<|(Ť (Ù 29) ť<|Ŧ 0).seq<|(İ 1<|(ä 8 YS Ì).seq<|(ä 9 YT Ì).seq<|ä 10 Kx Ì).seq<|ä 11 Rl Ì
def sA:Ę:=(ä 5 YQ Ì).seq<|((ä 6 YR Ì).seq<|İ 0 D5.loop).seq KB
def Br(t:Array Ï)(a:List é):Ý:=G ((base 37).at ⟨t,[]⟩ [ö D5,ą D5,ô 0,ö KB]) a
def D6(t:Array Ï):é:=(base 37).at ⟨t,[]⟩ [Ñ YP [1],ö sA]
def KC(t:Array Ï):é:=(base 37).at ⟨t,[]⟩ [Ñ Kx [1],ô 1,ö<|ä 11 Rl Ì,ą D5,ô 0,ö KB]
def GX:Array å:=#[⟨Â 6,Ş (ù 63) #[] #[Ù 2,Ù 3],1, "waitgroup.go:238",#[],Á⟩,
 ⟨Á,.go {callee:=ĕ (Ù 6),args:=#[],argTypes:=#[]},0, "waitgroup.go:238",#[⟨0,Ü⟩],Á⟩]
def tG(c d e f:Ï)(a b:Nat):Array Ï:=#[c,d,À<|Â ⟨a,0,Á⟩,À<|Â ⟨b,0,Á⟩,e,f,Ĉ (ù 63) #[] #[À<|Â ⟨a,0,Á⟩,À<|Â ⟨b,0,Á⟩]]
def Bs(a b c d:Ï)(e f:Nat)(g:List é):Ý:=G ((base 47).at ⟨tG a b c d e f,[]⟩ [Ñ GX [1]]) g
def GY(a b c d:Ï)(e f:Nat)(g:List é):Ý:=G ((base 47).at ⟨tG a b c d e f,[]⟩ [Ñ GX []]) g
def YU(c e f g:Ï)(a b:Nat)(h:List é)(w:ß):stepG Ä Ò (Bs c e f g a b h) w=.spawn (GY c e f g a b h) (born Ä<|oZ 63 #[À<|Â ⟨a,0,Á⟩,À<|Â ⟨b,0,Á⟩] #[]) w #[]:=by
 refine(stepG_spawn (d:=oZ 63 #[À<|Â ⟨a,0,Á⟩,À<|Â ⟨b,0,Á⟩] #[]) (w':=w) U U (by k_ne) ?_ U).trans ?_
 .simp[GX,ĉ,ſ,ě,ĥ,tG,oZ]
 .have:listed Ä (base 47).fn ⟨tG c e f g a b,[]⟩ GX[1] w=#[]:=by
   unfold listed;simp[GX,ĉ,ſ,ě,ĥ,tG,Ī]
  rw[this];rfl
structure ST(ba all nQ n j:Nat)(qs dv:Ï)(t:Array Ï):Prop where
 r:t.size=49
 a:t[8]?=Â (À<|Â ⟨ba,0,Á⟩)
 C:t[10]?=Â qs
 I:t[11]?=Â (À<|Â ⟨nQ,0,Á⟩)
 M:t[12]?=Â (À<|Â ⟨all,0,Á⟩)
 N:t[13]?=Â dv
 S:t[27]?=Â (Ê Î n)
 Y:t[28]?=Â (Ê Î j)
structure GZ(ba all nQ n:Nat)(qs:Ï)(t:Array Ï):Prop where
 Da:t.size=49
 t2:t[2]?=Â (Ê Î n)
 t8:t[8]?=Â (À<|Â ⟨ba,0,Á⟩)
 Rm:t[10]?=Â qs
 Rn:t[11]?=Â (À<|Â ⟨nQ,0,Á⟩)
 Ro:t[12]?=Â (À<|Â ⟨all,0,Á⟩)
def G0(t:Array Ï)(h:t.size=49):∃a b c d e f g i j k l m n o p q r s u v w x y z B C D E F G H I J K L M N O P Q S T V W X Y pP pQ xa:Ï,t=#[a,b,c,d,e,f,g,i,j,k,l,m,n,o,p,q,r,s,u,v,w,x,y,z,B,C,D,E,F,G,H,I,J,K,L,M,N,O,P,Q,S,T,V,W,X,Y,pP,pQ,xa]:=by obtain⟨_,rfl⟩:=ug t h;exact⟨_,_,_,_,_,_,_,_,_,_,_,_,_,_,_,_,_,_,_,_,_,_,_,_,_,_,_,_,_,_,_,_,_,_,_,_,_,_,_,_,_,_,_,_,_,_,_,_,_,U⟩
section
variable{Ψ:ß->Prop}{J a:Jd}{l:fe}{t:Array Ï}{ba all nQ:Nat}{qs dv:Ï}
def aiJ(d:jP l)(a:GZ ba all nQ n qs t)(e:∀c,ST ba all nQ n 0 qs (Æ Á 0 0) c->fj Ä Ò J l (Br c qX)):fj Ä Ò J l (GY v x z jQ b i<|D6 t::qX):=by
 obtain⟨m,o,f,p,q,r,s,u,g,w,h,j,k,y,B,C,D,E,F,G,H,I,K,L,M,N,O,P,Q,S,T,V,W,X,Y,rj,rm,tP,tR,tS,tT,tU,tV,tW,tX,tY,pP,pQ,xa,rfl⟩:=G0 t a.Da;obtain rfl:f=Ê Î n:=by simpa using a.t2
 obtain rfl:g=À (Â ⟨ba,0,Á⟩):=by simpa using a.t8
 obtain rfl:h=qs:=by simpa using a.Rm
 obtain rfl:j=À (Â ⟨nQ,0,Á⟩):=by simpa using a.Rn
 obtain rfl:k=À (Â ⟨all,0,Á⟩):=by simpa using a.Ro
 apply fX (n:=40) d;have hF:=trivial;simp only[GY,D6,YP];iterate 2 w_go fB
 u_leave0 Ħ fB hF
 simp only[sA,YQ,YR];iterate 13 w_go fB
 refine Ë λ_ _=> ?_;exact e _ ⟨U,U,U,U,U,U,U,U⟩
theorem aiK(d:jP l)(a:ST ba all nQ n j qs dv t)(q:j<1000)(e:∀c,ST ba all nQ n (j+1) qs dv c->fj Ä Ò J l (Br c qX)):fj Ä Ò J l (GY v x z jQ b i<|KC t::qX):=by
 obtain⟨r,s,u,w,y,B,C,D,f,E,g,h,k,m,F,G,H,I,K,L,M,N,O,P,Q,S,T,o,p,V,W,X,Y,sC,sD,rj,rm,tP,tR,tS,tT,tU,tV,tW,tX,tY,pP,pQ,xa,rfl⟩:=G0 t a.r;obtain rfl:f=À (Â ⟨ba,0,Á⟩):=by simpa using a.a
 obtain rfl:g=qs:=by simpa using a.C
 obtain rfl:h=À (Â ⟨nQ,0,Á⟩):=by simpa using a.I
 obtain rfl:k=À (Â ⟨all,0,Á⟩):=by simpa using a.M
 obtain rfl:m=dv:=by simpa using a.N
 obtain rfl:o=Ê Î n:=by simpa using a.S
 obtain rfl:p=Ê Î j:=by simpa using a.Y
 apply fX (n:=40) d;have hF:=trivial;simp only[GY,KC,Kx];iterate 2 w_go fB
 u_leave0 Ħ fB hF
 simp only[Rl];iterate 7 w_go fB
 refine Ë λ_ _=> ?_;refine e _ ⟨U,U,U,U,U,U,U,?_⟩;simp;grind [Bj]
end
section
variable{l l' y:fe}
def gi.fZ(h:gi X l l')(s:gy l){p off:Nat}(c:l.w.heap.size<=p):gi X l {l' with w:=l'.w.setCell ⟨p,off,Á⟩ v}:=by
 have b:∀j,j<l.w.heap.size->(l'.w.setCell ⟨p,off,Á⟩ v).heap[j]?=l'.w.heap[j]?:=λj e=>lh (by show j≠p;omega);refine⟨h.O,h.c,h.S,h.Y,h.b,h.K,h.q,h.d,λj q=> ?_,?_,λj q n=>(b j<|s.fx j q).trans<|h.r j q n,λa q=>(gK<|b _<|s.I a q).trans<|h.f a q,λa q=>sr.trans<|h.g a q,λa q z=>yw<|h.e a q z⟩
 .show j<(l'.w.setCell ⟨p,off,Á⟩ v).heap.size;rw[jT];exact h.fx j q
 .show l.w.heap.size<=(l'.w.setCell ⟨p,off,Á⟩ v).heap.size;rw[jT];exact h.I
structure hD(l:fe)(b:Nat)(o:Ÿ):Prop where
 fq:l.O b
 I:l.w.heap[b]?=Â o
def hD.r{o:Ÿ}(h:hD l b o)(k:gi X l l')(a:¬X b):hD l' b o:=⟨k.O b h.fq,(k.r b (Ã h.fq) a).trans h.I⟩
def hD.C(h:hD l b (É d e xJ))(a:d[i]?=Â v):l.w.cell? ⟨b,i,Á⟩=Â v:=by simp[Ö,h.I,a]
end
def YV{sz:Nat}{xs:List Ï}(h:w.ownsRow i e sz v n xs)(a:w.heap.size<=b):¬(Â b=v.ownBlock):=λq=>by have:=(h.lt b q.symm).2;omega
structure YW(ba all q:Nat)(Bt:Ï)(xs:List Ï)(ch bd bw bf:Nat)(l':fe):Prop where
 S:l'.w.ownsRow 0 101 1 Bt xs.length xs
 M:∀k,Bt.ownBlock=Â k->l'.O k
 r:hD l' ch (ŕ q #[] Ì 0 0 Ì)
 C:hD l' bd (É #[è<|Â ch] 101)
 N:hD l' bw (É #[À<|Â ⟨all,0,Á⟩] 162)
 I:hD l' bf (É #[Ĉ (ù 50) #[] #[À<|Â ⟨bd,0,Á⟩,À<|Â ⟨ba,0,Á⟩]] 1)
section
variable{g:Jd}{l:fe}{t:Array Ï}{ba all q:Nat}{f:Option â}{xs:List Ï}
def aiL(y:gy l)(F:¬l.q)(hd:l.d=0)(G:ST ba all m n j (Æ f q i) x t)(vj:j<n)(hn:n<1000)(Bu:q<1000)(KD:l.K ⟨all,0,Á⟩/\l.K ⟨all,1,Á⟩)(GI:np all l.w) (lA:l.w.ownsRow 0 101 1 x j xs) (hO:∀k,x.ownBlock=Â k->l.O k) (hJ0:∀l' t' a r B S C v1,gi (λb=>Â b=x.ownBlock) l l'->ST ba all m n j (Æ f q i) C t'->YW ba all q C (xs++[è<|Â a]) a r B S l'->l.w.heap.size<=a->a<r->r<B->B<S->(∀k,C.ownBlock=Â k->k≠a/\k≠r/\k≠B/\k≠S)->g l' (Bs (À<|Â ⟨all,0,Á⟩) v1 (À<|Â ⟨all,0,Á⟩) (ñ #[]) B S<|KC t'::qX)): fj Ä Ò (Kg Ä Ò all g) l (Br t qX):=by
 obtain⟨y0,y1,y2,y3,y4,y5,y6,y7,y8,y9,xd,ze,xe,rp,sF,qy,vq,vr,uh,ui,uj,sG,sH,sI,rh,sB,ri,oY,n7,pM,pN,pO,tO,sC,sD,rj,rm,tP,tR,tS,tT,tU,tV,tW,tX,tY,pP,pQ,xa,rfl⟩:=G0 t G.r;obtain rfl:y8=À (Â ⟨ba,0,Á⟩):=by simpa using G.a
 obtain rfl:xd=Æ f q i:=by simpa using G.C
 obtain rfl:ze=À (Â ⟨m,0,Á⟩):=by simpa using G.I
 obtain rfl:xe=À (Â ⟨all,0,Á⟩):=by simpa using G.M
 obtain rfl:x=rp:=(show rp=x by simpa using G.N).symm;obtain rfl:oY=Ê Î n:=by simpa using G.S
 obtain rfl:n7=Ê Î j:=by simpa using G.Y
 have atx:(j:Int)<(n:Int):=Z
 have hF:True:=trivial;apply fX (n:=40) y.r;simp only[Br,D5,Rk,YS];repeat w_go fB
 refine Ë λ_ _=> ?_;have D7:Ä.info? 155=Â Ą:=ļ;refine pb (V:=λp=>è<|Â p) (ob:=ŕ q #[] Ì 0 0 Ì) U U (by k_ne) y.r F (λw=> ?_) (λw=> ?_) λL mO=> ?_
 .have D:=run_makeChan (P:=Ä) (w:=w) Ĵ D7 Î q Z (by simp[Ą];omega);go_simp
 .simp[go_sem,(events_makeChan (P:=Ä) (w:=w) Ĵ D7 Î q Z (by simp[Ą];omega) #[])]
 walk_nrm;have uk:gi fh l (gG l L<|ŕ q #[] Ì 0 0 Ì):=mR y mO;have c1:hD (gG l L<|ŕ q #[] Ì 0 0 Ì) L.heap.size (ŕ q #[] Ì 0 0 Ì):=⟨Ç U,mQ⟩;have YX:l.w.heap.size<=L.heap.size:=mO.r;generalize gG l L (ŕ q #[] Ì 0 0 Ì)=l₁ at uk c1|-;generalize L.heap.size=a at c1 YX|-;have xi:=uk.N y;have YY:¬l₁.q:=by rwa[uk.q]
 refine pb (V:=λp=>À<|Â ⟨p,0,Á⟩) (ob:=É #[è Á] 101) U U (by k_ne) xi.r YY (λw=>by go_simp) (λw=>by simp[go_sem]) λT o7=> ?_;walk_nrm;have G1:gi fh l (gG l₁ T<|É #[è Á] 101):=uk.fg<|mR xi o7;have c2:=c1.r (mR (X:=fh) (ob:=É #[è Á] 101) xi o7) id;have H:hD (gG l₁ T<|É #[è Á] 101) T.heap.size (É #[è Á] 101):=⟨Ç U,mQ⟩;have Jb:a<T.heap.size:=È (xi.fx a<|Ã c1.fq) o7.r;generalize gG l₁ T (É #[è Á] 101)=l₂ at G1 c2 H|-;generalize T.heap.size=r at H Jb|-;clear c1 uk YY xi o7 l₁;have rv:=G1.N y;have pS:¬l₂.q:=by rwa[G1.q]
 refine GJ (p:=r) (off:=0) (v:=è<|Â a) (u:=è Á) U U (by k_ne) rv.r pS H.fq (H.C U) (by simp[î,H.I]) U (λw o s=>by go_simp) (λw o s=>by simp[go_sem,o,s]) ?_;have M:gi fh l {l₂ with w:=l₂.w.setCell ⟨r,0,Á⟩ (è<|Â a)}:=G1.fZ y Z;have c3:hD {l₂ with w:=l₂.w.setCell ⟨r,0,Á⟩ (è<|Â a)} a (ŕ q #[] Ì 0 0 Ì):=⟨c2.fq,(lh<|by show a≠r;omega).trans c2.I⟩;have W:hD {l₂ with w:=l₂.w.setCell ⟨r,0,Á⟩ (è<|Â a)} r (É #[è<|Â a] 101):=⟨H.fq,by show(l₂.w.setCell ⟨r,0,Á⟩<|è<|Â a).heap[r]?=_;unfold þ;simp[í,H.I]⟩;generalize({l₂ with w:=l₂.w.setCell ⟨r,0,Á⟩ (è<|Â a)}:fe)=kn at M c3 W|-;clear c2 H G1 rv pS l₂;have N:=M.N y;have xf:¬kn.q:=by rwa[M.q]
 have xj:∀k,x.ownBlock=Â k->kn.O k:=λk e=>M.O k<|hO k e;have KE:kn.w.ownsRow 0 101 1 x j xs:=nP lA λk e=>M.r k (Ã<|hO k e) id;apply fX (n:=10) N.r;simp only[YT,Kx];iterate 4 w_go fB
 refine Ë λ_ _=> ?_;apply o0 (x:=⟨r,0,Á⟩) U U (by k_ne) N.r xf (Ã<|Ã W.fq) (W.C U) (λw h=>by go_simp) (λw h=>by simp[go_sem,h]);walk_nrm;refine pb (V:=λp=>Æ (Â ⟨p,0,Á⟩) 1 1) (ob:=É #[è<|Â a] 101) U U (by k_ne) N.r xf (λw=>by go_simp) (λw=>by simp[go_sem]) λI vv=> ?_;walk_nrm;have Bq:gi fh l (gG kn I<|É #[è<|Â a] 101):=M.fg<|mR N vv;have k4:=mR (X:=fh) (ob:=É #[è<|Â a] 101) N vv;have c4:=c3.r k4 id;have d4:=W.r k4 id;have Y:hD (gG kn I<|É #[è<|Â a] 101) I.heap.size (É #[è<|Â a] 101):=⟨Ç U,mQ⟩;have YO:r<I.heap.size:=È (N.fx r<|Ã W.fq) vv.r;have xk:∀k,x.ownBlock=Â k->(gG kn I<|É #[è<|Â a] 101).O k:=λk e=>Ã<|xj k e;have Bv:=nP KE (w₁:=(gG kn I<|É #[è<|Â a] 101).w) λk e=>k4.r k (Ã<|xj k e) id;generalize gG kn I (É #[è<|Â a] 101)=l₄ at Bq c4 d4 Y xk Bv|-;generalize I.heap.size=px at Y YO|-;clear c3 W M N xf xj KE k4 vv kn;have zj:=Bq.N y;have Bw:¬l₄.q:=by rwa[Bq.q]
 refine GK (v:=x) (us:=[è<|Â a]) (px:=px) (c:=1) (n:=j) (xs:=xs) (inf:=Δ) (z:=è Á) U U (by k_ne) zj Bw U U U Tryz.underlying100 Tryz.type101 U U Nat.one_pos U U (by simp[Δ];omega) (by simp only[œ];omega) Bv xk Y.fq (Rj<|Y.C U) (λ_ D=>List.mem_singleton.1 D▸rfl) λsK C Q Bx sj G2 By uo=> ?_;walk_nrm;have YZ:∀b,l.w.heap.size<=b->¬(Â b=x.ownBlock):=λb hb=>YV lA hb;have k5:gi (λb=>Â b=x.ownBlock) l₄ (mS l₄ sK Q):=Kv zj Bx G2 λk e=>⟨xk k e,e.symm⟩;have vw:gi (λb=>Â b=x.ownBlock) l (mS l₄ sK Q):=(Bq.fO λ_ _ q=>q.elim).fg k5;have c5:=c4.r k5<|YZ a Z;have d5:=d4.r k5<|YZ r Z;have hl4:px<sK.heap.size:=È (zj.fx px<|Ã Y.fq) Bx.r;have KF:∀k,C.ownBlock=Â k->k<Q.heap.size/\k≠a/\k≠r:=λk e=>by
  have D:=(sj.lt k e).2;rcases uo with z|z
  .rw[z]at e;have:=(lA.lt k e).2;exact⟨D,Z,Z⟩
  .rw[z]at e;obtain rfl:=Ó e;exact⟨D,Z,Z⟩
 have xl:(mS l₄ sK Q).w.ownsRow 0 101 1 C (j+1) (xs++[è<|Â a]):=sj;have Rp:(mS l₄ sK Q).w.heap.size=Q.heap.size:=U;generalize mS l₄ sK Q=sL at vw c5 d5 xl By Rp|-;rw[<-Rp]at KF;clear k5 G2 sj uo c4 d4 Y Bq zj Bw xk Bv Bx l₄ Rp;have rz:=vw.N y;have Y0:¬sL.q:=by rwa[vw.q]
 apply fX (n:=20) rz.r;iterate 4 w_go fB
 u_call Ħ fQ Μ fB hF
 iterate 2 w_go fB
 refine Ë λ_ _=> ?_;refine pb (V:=λp=>À<|Â ⟨p,0,Á⟩) (ob:=É #[À<|Â ⟨all,0,Á⟩] 162) U U (by k_ne) rz.r Y0 (λw=>by go_simp) (λw=>by simp[go_sem]) λD KG=> ?_;walk_nrm;have k6:=mR (X:=fh) (ob:=É #[À<|Â ⟨all,0,Á⟩] 162) rz KG;have Bz:gi (λb=>Â b=x.ownBlock) l (gG sL D<|É #[À<|Â ⟨all,0,Á⟩] 162):=vw.fg (k6.fO λ_ _ q=>q.elim);have c6:=c5.r k6 id;have d6:=d5.r k6 id;have g6:hD (gG sL D<|É #[À<|Â ⟨all,0,Á⟩] 162) D.heap.size (É #[À<|Â ⟨all,0,Á⟩] 162):=⟨Ç U,mQ⟩;have BA:r<D.heap.size:=È (rz.fx r<|Ã d5.fq) KG.r;have G3:∀k,C.ownBlock=Â k->k<D.heap.size/\k≠a/\k≠r:=λk e=>⟨È (KF k e).1 KG.r,(KF k e).2⟩;have KH:∀k,C.ownBlock=Â k->(gG sL D<|É #[À<|Â ⟨all,0,Á⟩] 162).O k:=λk e=>Ã<|By k e;have Rq:=nP xl (w₁:=(gG sL D<|É #[À<|Â ⟨all,0,Á⟩] 162).w) λk e=>k6.r k (Ã<|By k e) id;generalize gG sL D (É #[À<|Â ⟨all,0,Á⟩] 162)=BB at Bz c6 d6 g6 KH Rq|-;generalize D.heap.size=B at g6 BA G3|-;clear k6 c5 d5 vw rz Y0 By xl KF KG sL;have KI:=Bz.N y;have Y1:¬BB.q:=by rwa[Bz.q]
 refine pb (V:=λp=>À<|Â ⟨p,0,Á⟩) (ob:=É #[Ĉ (ù 50) #[] #[À<|Â ⟨r,0,Á⟩,À<|Â ⟨ba,0,Á⟩]] 1) U U (by k_ne) KI.r Y1 (λw=>by go_simp) (λw=>by simp[go_sem]) λJ Rr=> ?_;walk_nrm;have k7:=mR (X:=fh) (ob:=É #[Ĉ (ù 50) #[] #[À<|Â ⟨r,0,Á⟩,À<|Â ⟨ba,0,Á⟩]] 1) KI Rr;have E:gi (λb=>Â b=x.ownBlock) l (gG BB J<|É #[Ĉ (ù 50) #[] #[À<|Â ⟨r,0,Á⟩,À<|Â ⟨ba,0,Á⟩]] 1):=Bz.fg (k7.fO λ_ _ q=>q.elim);have c7:=c6.r k7 id;have d7:=d6.r k7 id;have g7:=g6.r k7 id;have f7:hD (gG BB J<|É #[Ĉ (ù 50) #[] #[À<|Â ⟨r,0,Á⟩,À<|Â ⟨ba,0,Á⟩]] 1) J.heap.size (É #[Ĉ (ù 50) #[] #[À<|Â ⟨r,0,Á⟩,À<|Â ⟨ba,0,Á⟩]] 1):=⟨Ç U,mQ⟩;have KJ:B<J.heap.size:=È (KI.fx B<|Ã g6.fq) Rr.r;have Rs:∀k,C.ownBlock=Â k->(gG BB J<|É #[Ĉ (ù 50) #[] #[À<|Â ⟨r,0,Á⟩,À<|Â ⟨ba,0,Á⟩]] 1).O k:=λk e=>Ã<|KH k e;have Y2:=nP Rq (w₁:=(gG BB J<|É #[Ĉ (ù 50) #[] #[À<|Â ⟨r,0,Á⟩,À<|Â ⟨ba,0,Á⟩]] 1).w) λk e=>k7.r k (Ã<|KH k e) id;generalize gG BB J (É #[Ĉ (ù 50) #[] #[À<|Â ⟨r,0,Á⟩,À<|Â ⟨ba,0,Á⟩]] 1)=BD at E c7 d7 g7 f7 Rs Y2|-;generalize J.heap.size=S at f7 KJ|-;clear k7 c6 d6 g6 Bz KI Y1 KH Rq Rr BB;have KL:=E.N y;apply fX (n:=10) KL.r;iterate 3 w_go fB
 refine Ë λ_ _=> ?_;apply o0 (x:=⟨B,0,Á⟩) U U (by k_ne) KL.r (by rwa[E.q]) (Ã<|Ã g7.fq) (g7.C U) (λw h=>by go_simp) (λw h=>by simp[go_sem,h]);walk_nrm;apply fX (n:=10) KL.r;u_call qx.f_add (nm_add Lk) addFn fB hF;refine Ë λ_ _=> ?_;refine Yq qx (⟨Ã (by rw[E.K];exact KD.1),Ã (by rw[E.K];exact KD.2),λw L o s h3 h4 h5 h=>h.fg ⟨o,s,h3,h4,h5⟩⟩) (⟨KL.r,⟨E.e _ KD.1 GI.1,E.e _ KD.2 GI.2⟩,fG.fU _ _⟩) (E.d.trans hd) λBF Y3=> ?_;walk_nrm;apply fX (l:={BD with d:=0,w:=BF}) (n:=10) Y3.1;iterate 3 w_go fB
 refine Ë λ_ _=> ?_;refine .fC λvx xm=> ?_;have rr:fG BD BD.w vx:=Y3.2.2.fg ⟨xm.r,xm.I,xm.N,xm.Y,xm.S⟩;have s:=E.G rr;have hA9:gi (λb=>Â b=x.ownBlock) l ({BD with d:=0,w:=vx}:fe):=⟨s.O,s.c,s.S,s.Y,s.b,s.K,s.q,hd.symm,s.fx,s.I,s.r,s.f,s.g,s.e⟩;have at9:∀{b:Nat} {o:Ÿ},hD BD b o->hD ({BD with d:=0,w:=vx}:fe) b o:=λh=>⟨h.fq,(rr.I _<|Ã h.fq).trans h.I⟩;have hlen:(xs++[è<|Â a]).length=j+1:=by have:=lA.1;simp;omega
 refine hJ0 {BD with d:=0,w:=vx} _ a r B S C _ hA9 ⟨U,U,U,U,U,U,U,U⟩ ⟨?_,Rs,at9 c7,at9 d7,at9 g7,at9 f7⟩ YX Jb BA KJ λk e=>⟨(G3 k e).2.1,(G3 k e).2.2,by have:=(G3 k e).1;omega,by have:=(G3 k e).1;omega⟩;rw[hlen];exact nP Y2 λk e=>rr.I k<|Ã<|Rs k e
end
def sM(l:fe)(b:Nat):fe:={l with O:=λj=>l.O j/\j≠b,K:=λa=>l.K a\/a=⟨b,0,Á⟩\/a=⟨b,1,Á⟩}
def nh(l x:fe)(b:Nat):fe:={x with O:=λj=>x.O j\/j=b,K:=l.K}
section
variable{S:Jd}{l:fe}
def fj.Rt(W:∀a,l.K a->a.block≠b){x:fe}(h:fj P yQ S x g):¬x.M b->(∀a,x.C a->a.block≠b)->x.K=(sM l b).K->b<x.w.heap.size->(x.w.cell? ⟨b,0,Á⟩).isSome=Ò->(x.w.cell? ⟨b,1,Á⟩).isSome=Ò->jP x-> fj P yQ (λG H=>∃d,S d H/\G=nh l d b/\¬d.M b/\(∀a,d.C a->a.block≠b)/\d.K=(sM l b).K/\b<d.w.heap.size/\d.w.heap[b]?=x.w.heap[b]?/\d.q=x.q/\jP d) (nh l x b) g:=by
 have u:∀{x:fe} {c:ß},x.K=(sM l b).K->(x.w.cell? ⟨b,0,Á⟩).isSome=Ò->(x.w.cell? ⟨b,1,Á⟩).isSome=Ò->fG (nh l x b) x.w c->fG x x.w c:=λ{x c} f i m r=>
  ⟨r.r,λj p=>r.I j<|p.imp Ã id,r.N,r.Y,λa o q=>by
   rw[f]at o;rcases o with z|z|z
   .exact r.S a z q
   .rw[z,gK<|r.I b<|Ã<|Ç U];exact i
   .rw[z,gK (r.I b (Ã (Ç U)))];exact m⟩
 induction h with
 |@fC x g h=>
  intro s t f v i m I;refine .fC λc r=>⟨{x with w:=c},h c<|u f i m r,U,s,t,f,È v r.r,r.I b<|Ã<|Ç U,U,lV I<|u f i m r⟩
 |@ju x g G' W' E' L' iI h hd _ ih=>
  intro s t f v i m I;refine .mk iI λc r=> ?_;have B:=u f i m r;have D:=hd c B;have E:=È v r.r;have J:=λq=>s<|Ã q;have L:=D.jN b E J λa e q=>t a (Ã q) e;have F:(L' c).w.heap[b]?=x.w.heap[b]?:=by rw[D.b];exact L.trans<|r.I b<|Ã<|Ç U
  refine⟨G' c,W' c,E' c,nh l (L' c) b,h c B,?_,?_⟩
  .refine⟨D.C,λj q=> ?_,λj q=> ?_,D.I,D.r,D.M,U,λj p y n=>D.jN j p (λq=>y<|Ã q) n,λa o y n=>D.N a o (λq=>y<|Ã q) n,λa o y=>D.Y a o λq=>y<|Ã q,D.f,D.g,D.m,λe N=> ?_,D.h,D.q,λq=> ?_,D.b⟩
   .rcases q with q|q
    .exact(D.S j q).imp Ã id
    .exact Ã<|Ç q
   .rcases q with q|q
    .exact D.fx j q
    .rw[q];exact È E D.C
   .rcases D.c e N with⟨a,y,n⟩|h|h|h|h|⟨a,y,n⟩
    .exact Ã ⟨a,y,n.imp Ã id⟩
    .exact Ç<|Ã h
    .exact Ç<|Ç<|Ã h
    .exact Ç<|Ç<|Ç<|Ã h
    .exact Ç<|Ç<|Ç<|Ç<|Ã h
    .exact Ç<|Ç<|Ç<|Ç<|Ç ⟨a,Ã y,n⟩
   .let⟨Q,T,V⟩:=D.i q;exact⟨Q,T,by funext j;show((L' c).O j\/j=b)=(x.O j\/j=b);rw[V]⟩
  .refine(ih c B (λq=>q.elim (λz=>(D.S b z).elim J λy=>by omega) λz=>s<|Ç<|by rw[<-D.I];exact z) (λa q=>t a<|q.imp (by rw[D.r];exact id)<|by rw[D.M];exact id) (D.k.trans f) (by rw[D.b];exact È E D.C) (by rw[gK F];exact i) (by rw[gK F];exact m) λj p=>by rw[D.b];exact D.fx j p).fO ?_;rintro G H ⟨d,y,e,j,n,o,p,z,N,Q⟩;exact⟨d,y,e,j,n,o,p,z.trans F,N.trans D.q,Q⟩
end
section
variable{L:WgLink}{l:fe}{J:Jd}{c:é}{k:List ŷ}{ty:ŭ}
structure aiM(b:Nat)(cc:Array Ï)(ty:ŭ)(l l':fe):Prop where
 r:gi (λj=>j=b) l l'
 O:l'.O=l.O
 C:l'.w.heap[b]?=Â (É (cc.setIfInBounds 0<|Ê ê 4294967296) ty)
theorem Y4(a:l.O b)(w:ß)(d:Nat):nh l {sM l b with d:=d,w:=w} b={l with d:=d,w:=w}:=by
 have:(λj=>(l.O j/\j≠b)\/j=b)=l.O:=by grind
 unfold nh sM;simp only[this]
def Y5{C:Array Ï}(H:WgLib P L)(s:gy l)(hq:¬l.q)(Y:l.d=0)(x:l.O b)(M:l.w.heap[b]?=Â (É C ty))(N:C[0]?=Â (Ê ê 0))(o:(C[1]?).isSome=Ò) (hT:∀B,aiM b C ty l B->fj P yQ J B (G (c.at (y.put ((Q[i]?).bind (·.dst))<|ñ #[])<|Ñ Q jJ::k) qX)): fj P yQ J l (G ((base L.add).at ⟨#[À<|Â ⟨b,0,Á⟩,Ê Î 1,Å,Å,Å,Å,Å,Å,Å,Å,Å,Å,Å,Å,Å,Å,Å,Å,Å,Å,Å,Å,Å,Å,Å,Å,Å,Å,Å,Å,Å,Å,Å,Å,Å,Å,Å,Å,Å,Å,Å,Å,Å,Å,Å,Å,Å,Å,Å,Å,Å,Å,Å,Å,Å,Å,Å,Å,Å,Å,Å,Å,Å,Å,Å,Å,Å,Å,Å,Å,Å,Å,Å,Å,Å,Å,Å,Å,Å,Å,Å,Å,Å,Å,Å,Å,Å,Å,Å,Å,Å,Å,Å,Å,Å,Å,Å,Å,Å,Å,Å,Å,Å,Å,Å,Å,Å,Å,Å,Å,Å,Å,Å,Å,Å,Å,Å],[]⟩ [ö<|body_add L])<|c.at y (Ñ Q (i::jJ)::k)::qX):=by
 have e0:l.w.cell? ⟨b,0,Á⟩=Â (Ê ê 0):=by simp[Ö,M,N]
 have e1:(l.w.cell? ⟨b,1,Á⟩).isSome=Ò:=by let⟨u,D⟩:=Ô.1 o;simp[Ö,M,D]
 have S:∀y:â,l.K y->y.block≠b:=λy T e=>(s.S y T).1<|Ã<|e▸x;let J1:Jd:=λB g'=>g'=G (c.at (y.put ((Q[i]?).bind (·.dst))<|ñ #[])<|Ñ Q jJ::k) qX/\B={sM l b with d:=0,w:=B.w}/\fG (sM l b) l.w B.w
 have hW:fj P yQ (Kg P yQ b J1) (sM l b) (G ((base L.add).at ⟨#[À<|Â ⟨b,0,Á⟩,Ê Î 1,Å,Å,Å,Å,Å,Å,Å,Å,Å,Å,Å,Å,Å,Å,Å,Å,Å,Å,Å,Å,Å,Å,Å,Å,Å,Å,Å,Å,Å,Å,Å,Å,Å,Å,Å,Å,Å,Å,Å,Å,Å,Å,Å,Å,Å,Å,Å,Å,Å,Å,Å,Å,Å,Å,Å,Å,Å,Å,Å,Å,Å,Å,Å,Å,Å,Å,Å,Å,Å,Å,Å,Å,Å,Å,Å,Å,Å,Å,Å,Å,Å,Å,Å,Å,Å,Å,Å,Å,Å,Å,Å,Å,Å,Å,Å,Å,Å,Å,Å,Å,Å,Å,Å,Å,Å,Å,Å,Å,Å,Å,Å,Å,Å,Å,Å],[]⟩ [ö<|body_add L])<|c.at y (Ñ Q (i::jJ)::k)::qX):=by refine Yq (Ψ:=λw=>fG (sM l b) l.w w) H ⟨Ã<|Ç<|Ã U,Ã<|Ç<|Ç U,λw n o t a g m h=>h.fg ⟨o,t,a,g,m⟩⟩ ⟨λj f=>s.fx j<|Ã f.1,⟨by rw[show(sM l b).w=l.w from rfl,e0];rfl,e1⟩,fG.fU _ _⟩ Y λn v=> .fC λp r=>⟨U,U,v.2.2.fg ⟨r.r,r.I,r.N,r.Y,r.S⟩⟩
 have hstart:=hW.Rt S (λq=>q.elim (λz=>z.2 U) λz=>s.c b x z) (λy T e=>s.N y T<|Ã<|e▸x) U (s.fx b<|Ã x) (by rw[show(sM l b).w=l.w from rfl,e0];rfl) e1 λj f=>s.fx j<|Ã f.1;rw[show nh l (sM l b) b=l from Y4 x l.w l.d]at hstart;apply hstart.lI;rintro l1 g1 ⟨E,⟨BG,aiN,hA⟩,rfl,Y6,Y7,re,hlt1,lY,Bu,lo1⟩;let⟨g2,Y8,V⟩:=hA 0;have sx:ê.wrap (0+fY)=fY:=by rw[show(0:Int)+fY=fY from rfl];exact Jy A A
 rw[sx]at V Y8;rw[if_pos U]at V;have hqx:¬E.q:=by rwa[Bu]
 refine .mk aiN λn r=> ?_;have F:=(r.I b<|Ã<|Ç U).trans<|lY.trans M;have c0:n.cell? (fN b)=Â (Ê ê 0):=by simp[Ö,fN,F,N]
 have aty:=È hlt1 r.r;have W:(n.setCell (fN b)<|Ê ê fY).heap[b]?=Â (É (C.setIfInBounds 0<|Ê ê 4294967296) ty):=by unfold þ;simp[í,fN,F,fY]
 have rx:fG E E.w (n.setCell (fN b)<|Ê ê fY):=by
  refine⟨by rw[jT];exact r.r,λj f=>((lh λe=>Y6 (by have t:j=b:=e;rwa[<-t])).trans<|r.I j<|f.imp Ã id),λa g=>(gK<|lh<|Y7 a g).trans<|r.N a g,λa g=>sr.trans<|r.Y a g,λa g q=> ?_⟩
  .rw[re]at g;refine yw ?_;rcases g with z|z|z
   .exact r.S a z q
   .rw[z,gK<|r.I b<|Ã<|Ç U];rwa[z]at q
   .rw[z,gK<|r.I b<|Ã<|Ç U];rwa[z]at q
 refine⟨g2,_,_,nh l {E with w:=n.setCell (fN b) (Ê ê fY)} b,Y8 n c0 (by simp[î,fN,F]),?_,?_⟩
 .refine⟨by rw[jT];exact Ú _,λ_ h=>Ã h,λj h=> ?_,U,U,U,U,λj _ o _=>lh λe=>o<|Ç e,λa _ o _=>gK (lh λe=>o<|Ç e),λ_ _ _=>Oo,U,U,U,λe t=> ?_,?_,U,λq=>absurd q hqx,U⟩
  .rw[jT];rcases h with h|h
   .exact È (lo1 j h) r.r
   .rwa[h]
  .have:e=kr (fN b)\/e=mN (fN b):=by simpa using t
   rcases this with rfl|rfl
   .exact Ã ⟨fN b,U,Ã<|Ç U⟩
   .exact Ã ⟨fN b,U,Ã<|Ç U⟩
  .exact(Ņ (λe t=>by
    have:e=kr (fN b)\/e=mN (fN b):=by simpa using t
    rcases this with rfl|rfl<;>exact⟨by simp[kr,mN],by simp[kr,mN]⟩) _).symm
 have z1:((n.setCell (fN b)<|Ê ê fY).cell? ⟨b,1,Á⟩).isSome=Ò:=by let⟨u,D⟩:=Ô.1 o;exact yw<|by simp[Ö,F,D]
 have aiO:=(V.jV rx).Rt S Y6 Y7 re (by show b<(n.setCell (fN b)<|Ê ê fY).heap.size;rwa[jT]) (yw<|by rw[show(⟨b,0,Á⟩:â)=fN b from rfl,c0];rfl) z1 (λj f=>by show j<(n.setCell (fN b)<|Ê ê fY).heap.size;rw[jT];exact È (lo1 j f) r.r);apply aiO.lI;rintro l2 g3 ⟨v,⟨oE,aiP,g4,aiQ,hN2⟩,rfl,nM2,nC2,yS,KM,X,pS,lo2⟩;have aiR:¬v.q:=by rwa[pS]
 refine .mk aiP λp m=> ?_;have I:∀a:â,a.block=b->p.cell? a=v.w.cell? a:=λa e=>gK<|m.I a.block<|Ã<|Ç e;have rx2:fG v v.w p:=⟨m.r,λj f=>m.I j<|f.imp Ã id,m.N,m.Y,λa g q=>by
  rw[yS]at g;rcases g with z|z|z
  .exact m.S a z q
  .rwa[I a (by rw[z])]
  .rwa[I a (by rw[z])]⟩
 refine⟨g4,p,_,nh l {v with w:=p} b,aiQ p,?_,?_⟩
 .refine⟨Ú _,λ_ h=>Ã h,λj h=> ?_,U,U,U,U,λ_ _ _ _=>rfl,λ_ _ _ _=>rfl,λ_ _ _=>rfl,U,U,U,λe t=> ?_,?_,U,λq=>absurd q aiR,U⟩
  .rcases h with h|h
   .exact È (lo2 j h) m.r
   .rw[h];exact È KM m.r
  .have:e=jO (.read<|gV b):=by simpa using t
   rw[this];exact Ç<|Ç<|Ç<|Ç<|Ç ⟨gV b,Ç U,Ã U⟩
  .exact(Ņ (λe t=>by
    have:e=jO (.read<|gV b):=by simpa using t
    rw[this];exact⟨by simp[jO],by simp[jO]⟩) _).symm
 have z:(p.cell? ⟨b,0,Á⟩).isSome=Ò:=by rw[I _ U];have:v.w.heap[b]?=_:=X.trans W;simp[Ö,this,(æ.1 N).1]
 have y1:(p.cell? ⟨b,1,Á⟩).isSome=Ò:=by rw[I _ U];have:v.w.heap[b]?=_:=X.trans W;let⟨u,D⟩:=Ô.1 o;simp[Ö,this,(æ.1 D).1]
 have u:=(hN2.jV rx2).Rt S nM2 nC2 yS (È KM m.r) z y1 λj f=>È (lo2 j f) m.r;apply u.lI;rintro l3 g5 ⟨x3,⟨rfl,D,t⟩,rfl,nM3,nC3,hk3,aiS,hb3,xf,lo3⟩;rw[D,Y4 x];have BH:=hb3.trans<|(m.I b<|Ã<|Ç U).trans<|X.trans W;refine hT _ ⟨⟨λ_ h=>h,λ_ h=>Ã h,U,U,U,U,U,Y.symm,λj f=>È (s.fx j<|Ã f) t.r,t.r,λj f hn=>t.I j (f.imp (λq=>⟨q,hn⟩) id),t.N,t.Y,λa g=>t.S a<|Ã g⟩,U,BH⟩
end
noncomputable def Ru:Ę:=kV Ĝ [1,1,1]
noncomputable def Y9:Ę:=kV Ĝ [1,1,0,1,0,0,1,1,0,0,1,1,1]
noncomputable def Rv:Ę:=kV Ĝ [1,1,0,1,0,0,1,1,0,0,1,1,0,1]
noncomputable def G4:Ę:=kV Ĝ [1,1,0,1,0,0]
noncomputable def Rw:Ę:=kV Ĝ [1,1,0,1,0,0,1,1,1]
noncomputable def BJ (t:Array Ï) (a:List é):Ý:=G ((base 46).at ⟨t,[]⟩ [ö G4,ą G4,ô 0,ö Ru]) a
noncomputable def G5 (t:Array Ï) (a:List é):Ý:=G ((base 46).at ⟨t,[]⟩ [ö Rv,ö Y9,ô 1,ö Rw,ą G4,ô 0,ö Ru]) a
structure PT(iv qv rs:Ï)(lg R i:Nat)(t:Array Ï):Prop where
 r:t.size=48
 N:t[4]?=Â iv
 S:t[5]?=Â qv
 Y:t[6]?=Â (À<|Â ⟨lg,0,Á⟩)
 C:t[13]?=Â rs
 I:t[14]?=Â (Ê Î R)
 M:t[15]?=Â (Ê Î i)
def KN(t:Array Ï)(h:t.size=48):∃a b c d e f g i j k l m n o p q r s u v w x y z B C D E F G H I J K L M N O P Q S T V W X Y pP pQ:Ï,t=#[a,b,c,d,e,f,g,i,j,k,l,m,n,o,p,q,r,s,u,v,w,x,y,z,B,C,D,E,F,G,H,I,J,K,L,M,N,O,P,Q,S,T,V,W,X,Y,pP,pQ]:=by obtain⟨_,rfl⟩:=ug t h;exact⟨_,_,_,_,_,_,_,_,_,_,_,_,_,_,_,_,_,_,_,_,_,_,_,_,_,_,_,_,_,_,_,_,_,_,_,_,_,_,_,_,_,_,_,_,_,_,_,_,U⟩
def aiT(w:ß)(a c:Option â)(b:Int):(Ċ 155 #[(0,À a),(1,Ê Î b),(2,À c)]).run Ä w=.ok (Đ #[À a,Ê Î b,À c,À Á]) w:=run_build w 155 _ _ fQ
def aiU(w:ß)(a c:Option â)(b:Int):(Ċ 155 #[(0,À a),(1,Ê Î b),(2,À c)]).events Ä w #[]=#[]:=by unfold Ċ;simp only[Sem.events_bind];simp[go_sem]
section
variable{p:Nat}{v0 v1 v2 v3:Ï}
def aiV(h:w.heap[p]?=Â (É #[v,x,z,jQ] e)):(iT w p v0 v1 v2 v3).heap[p]?=Â (É #[v0,v1,v2,v3] e):=by unfold iT þ;simp[í,h]
def gi.iT{l c:fe}(h:gi X l c)(s:gy l)(r:fG c c.w u)(f:l.w.heap.size<=p):gi X l {c with w:=fv.iT u p v0 v1 v2 v3}:=by
 have b:=h.G r;have e:∀{j:Nat},j<l.w.heap.size->(fv.iT u p v0 v1 v2 v3).heap[j]?=u.heap[j]?:=λ{j} q=>yZ Z;refine⟨b.O,b.c,b.S,b.Y,b.b,b.K,b.q,b.d,λj q=> ?_,?_,λj q n=>(e<|s.fx j q).trans<|b.r j q n,λa q=>(gK<|e<|s.I a q).trans<|b.f a q,λa q=>(wM<|e<|s.I a q).trans<|b.g a q,λa q z=> ?_⟩
 .show j<(fv.iT u p v0 v1 v2 v3).heap.size;rw[xc];exact b.fx j q
 .show l.w.heap.size<=(fv.iT u p v0 v1 v2 v3).heap.size;rw[xc];exact b.I
 .show((fv.iT u p v0 v1 v2 v3).cell? a).isSome=Ò;rw[gK<|e (s.S a q).2.1];exact b.e a q z
def hD.rly{l:fe}{o:Ÿ}(h:hD l b o)(r:fG l l.w u):hD {l with w:=u} b o:=⟨h.fq,(r.I b<|Ã h.fq).trans h.I⟩
end
section
variable{J:Jd}{l:fe}{t:Array Ï}{iv qv:Ï}{lg R:Nat}{kd:Int}
def aiW(f:gy l)(o:¬l.q)(k:PT iv qv (Æ (Â ⟨j,0,Á⟩) R n) lg R i t)(Za:i<R)(hR:R<1000)(T:l.M j)(V:l.w.cell? ⟨j,i,Á⟩=Â (À<|Â ⟨b,0,Á⟩))(F:l.M b)(W:l.w.cell? ⟨b,4,Á⟩=Â (Ê Î kd)) (X:∀B u a,gi fh l B->l.w.heap.size<=a->hD B a (É #[À<|Â ⟨b,0,Á⟩,Ê Î i,À<|Â ⟨lg,0,Á⟩,À Á] 155)->PT iv qv (Æ (Â ⟨j,0,Á⟩) R n) lg R i u->u[9]?=Â (À<|Â ⟨a,0,Á⟩)->u[28]?=Â (ŝ<|decide<|kd≠1)->fj Ä Ò J B (G5 u qX)): fj Ä Ò J l (BJ t qX):=by
 obtain⟨y0,y1,y2,y3,G,H,Y,y7,y8,y9,xd,ze,xe,rp,sF,qy,vq,vr,uh,ui,uj,sG,sH,sI,rh,sB,ri,oY,n7,pM,pN,pO,tO,sC,sD,rj,rm,tP,tR,tS,tT,tU,tV,tW,tX,tY,pP,pQ,rfl⟩:=KN t k.r;obtain rfl:iv=G:=(show G=iv by simpa using k.N).symm;obtain rfl:qv=H:=(show H=qv by simpa using k.S).symm;obtain rfl:Y=À (Â ⟨lg,0,Á⟩):=by simpa using k.Y
 obtain rfl:rp=Æ (Â ⟨j,0,Á⟩) R n:=by simpa using k.C
 obtain rfl:sF=Ê Î R:=by simpa using k.I
 obtain rfl:qy=Ê Î i:=by simpa using k.M
 have atz:(i:Int)<(R:Int):=Z
 have hF:True:=trivial;have ru:∀y:â,False->l.r y:=λy ha=>ha.elim;apply fX (n:=40) f.r;simp only[BJ];conv in G4=>whnf
 repeat w_go fB
 refine Ë λ_ _=> ?_;apply o0 (x:=⟨j,i,Á⟩) U U (by k_ne) f.r o (Ã T) V (λw h=>by go_simp) (λw h=>by simp[go_sem,h]);walk_nrm;apply fX (n:=40) f.r;repeat w_go fB
 refine Ë λ_ _=> ?_;refine oD (v:=Đ #[À<|Â ⟨b,0,Á⟩,Ê Î i,À<|Â ⟨lg,0,Á⟩,À Á]) U U (by k_ne) f.r o (λc r=> ?_) (λc r e C=> ?_) ?_
 .have S:=aiT c (Â ⟨b,0,Á⟩) (Â ⟨lg,0,Á⟩) i;go_simp
 .simp[go_sem,aiU c (Â ⟨b,0,Á⟩) (Â ⟨lg,0,Á⟩) i]at C
 walk_nrm;refine Gx (ob:=É #[À Á,Ê Î 0,À Á,À Á] 155) U U (by k_ne) f.r o (λw=>by go_simp) (λw=>by simp[go_sem]) λc D=> ?_;walk_nrm;have s:gi fh l (gG l c<|É #[À Á,Ê Î 0,À Á,À Á] 155):=mR f D;have m:hD (gG l c<|É #[À Á,Ê Î 0,À Á,À Á] 155) c.heap.size (É #[À Á,Ê Î 0,À Á,À Á] 155):=⟨Ç U,mQ⟩;have E:l.w.heap.size<=c.heap.size:=D.r;generalize gG l c (É #[À Á,Ê Î 0,À Á,À Á] 155)=l₁ at s m|-;generalize c.heap.size=a at m E|-;have I:=s.N f;have K:¬l₁.q:=by rwa[s.q]
 refine vm U U (by k_ne) λd z=> ?_;have g:=m.rly z;replace g:d.heap[a]?=_:=g.I;have L:d.cell? ⟨a,0,Á⟩=Â (À Á):=by simp[Ö,g]
 have N:d.cell? ⟨a,1,Á⟩=Â (Ê Î 0):=by simp[Ö,g]
 have O:d.cell? ⟨a,2,Á⟩=Â (À Á):=by simp[Ö,g]
 have P:d.cell? ⟨a,3,Á⟩=Â (À Á):=by simp[Ö,g]
 have Q:∀r,d.frozen? ⟨a,r,Á⟩=Ì:=λr=>by simp[î,g]
 go_simp;refine⟨{l₁ with w:=iT d a (À<|Â ⟨b,0,Á⟩) (Ê Î i) (À<|Â ⟨lg,0,Á⟩) (À Á)},Kq (p:=a) (lV I.r z) K m.fq xc (λr S=>yZ S) ⟨U,U,U⟩ λe C=> ?_,?_⟩
 .have S:=đ C;have e:∀r,pR l₁ ⟨a,r,Á⟩:=λr=>Ã m.fq;simp[go_sem,á _ _ _ _ _ _ (show Ø (À<|Â ⟨b,0,Á⟩)=Ò from rfl),á _ _ _ _ _ _ (show Ø (À<|Â ⟨lg,0,Á⟩)=Ò from rfl),á _ _ _ _ _ _ (show Ø (À Á)=Ò from rfl),L,N,O,P,Q]at S;rcases S with rfl|rfl|rfl|rfl
  .exact(e _).r
  .exact(e _).r
  .exact(e _).r
  .exact(e _).r
 have e:gi fh l ({l₁ with w:=iT d a (À<|Â ⟨b,0,Á⟩) (Ê Î i) (À<|Â ⟨lg,0,Á⟩) (À Á)}:fe):=s.iT f z E;have S:hD ({l₁ with w:=iT d a (À<|Â ⟨b,0,Á⟩) (Ê Î i) (À<|Â ⟨lg,0,Á⟩) (À Á)}:fe) a (É #[À<|Â ⟨b,0,Á⟩,Ê Î i,À<|Â ⟨lg,0,Á⟩,À Á] 155):=⟨m.fq,aiV g⟩;generalize({l₁ with w:=iT d a (À<|Â ⟨b,0,Á⟩) (Ê Î i) (À<|Â ⟨lg,0,Á⟩) (À Á)}:fe)=l₂ at e S|-;clear m s I K g L N O P Q z d l₁ D c;have C:=e.N f;apply fX (n:=20) C.r;repeat w_go fB
 refine Ë λ_ _=> ?_;apply o0 (x:=⟨b,4,Á⟩) U U (by k_ne) C.r (by rwa[e.q]) (Ã<|e.M F) ((gK<|e.r b F id).trans W) (λw h=>by go_simp) (λw h=>by simp[go_sem,h]);walk_nrm;apply fX (n:=20) C.r;iterate 2 w_go fB
 refine Ë λ_ _=> ?_;apply X l₂ _ a e E S ⟨U,U,U,U,U,U,U⟩ U;simp;rfl
end
section
variable{J:Jd}{l:fe}{xs:List Ï}
def aiX(s:gy l)(E:¬l.q)(o:PT v x z b j i d)(Za:i<j)(hR:j<1000)(h9:d[9]?=Â (À<|Â ⟨m,0,Á⟩))(Rx:d[28]?=Â (ŝ Ò))(hn:n<1000) (h:hD l m (É #[À<|Â ⟨k,0,Á⟩,Ê Î i,À<|Â ⟨b,0,Á⟩,À Á] 155)) (lA:l.w.ownsRow 0 155 4 x n xs) (K:∀a,x.ownBlock=Â a->l.O a) (hJ:∀B L t,gi (λf=>Â f=x.ownBlock) l B->B.w.ownsRow 0 155 4 t (n+1) (xs++[À<|Â ⟨k,0,Á⟩,Ê Î i,À<|Â ⟨b,0,Á⟩,À Á])->(∀a,t.ownBlock=Â a->B.O a)->(t.ownBlock=x.ownBlock\/∃a,t.ownBlock=Â a/\l.w.heap.size<=a)->PT v t z b j (i+1) L->fj Ä Ò J B (BJ L qX)): fj Ä Ò J l (G5 d qX):=by
 obtain⟨y0,y1,y2,y3,M,N,y6,y7,y8,y9,xd,ze,xe,P,sF,qy,vq,vr,uh,ui,uj,sG,sH,sI,rh,sB,ri,oY,n7,pM,pN,pO,tO,sC,sD,rj,rm,tP,tR,tS,tT,tU,tV,tW,tX,tY,pP,pQ,rfl⟩:=KN d o.r;obtain rfl:v=M:=(show M=v by simpa using o.N).symm;obtain rfl:x=N:=(show N=x by simpa using o.S).symm;obtain rfl:y6=À (Â ⟨b,0,Á⟩):=by simpa using o.Y
 obtain rfl:y9=À (Â ⟨m,0,Á⟩):=by simpa using h9
 obtain rfl:z=P:=(show P=z by simpa using o.C).symm;obtain rfl:sF=Ê Î j:=by simpa using o.I
 obtain rfl:qy=Ê Î i:=by simpa using o.M
 obtain rfl:n7=ŝ Ò:=by simpa using Rx
 have hF:True:=trivial;apply fX (n:=40) s.r;simp only[G5];conv in Rv=>whnf
 conv in Rw=>whnf
 repeat w_go fB
 refine Ë λ_ _=> ?_;refine oD (v:=Đ #[À<|Â ⟨k,0,Á⟩,Ê Î i,À<|Â ⟨b,0,Á⟩,À Á]) U U (by k_ne) s.r E (λp r=> ?_) (λp r e y=> ?_) ?_
 .skip;have C:p.cell? ⟨m,0,Á⟩=Â (À<|Â ⟨k,0,Á⟩):=(gX.r (show gX l ⟨m,0,Á⟩from Ã<|Ã h.fq) r).trans<|h.C U;have D:p.cell? ⟨m,1,Á⟩=Â (Ê Î i):=(gX.r (show gX l ⟨m,1,Á⟩from Ã<|Ã h.fq) r).trans<|h.C U;have F:p.cell? ⟨m,2,Á⟩=Â (À<|Â ⟨b,0,Á⟩):=(gX.r (show gX l ⟨m,2,Á⟩from Ã<|Ã h.fq) r).trans<|h.C U;have G:p.cell? ⟨m,3,Á⟩=Â (À Á):=(gX.r (show gX l ⟨m,3,Á⟩from Ã<|Ã h.fq) r).trans<|h.C U;go_simp
 .have u:∀g,gX l ⟨m,g,Á⟩:=λg=>Ã<|Ã h.fq;have C:p.cell? ⟨m,0,Á⟩=Â (À<|Â ⟨k,0,Á⟩):=(gX.r (show gX l ⟨m,0,Á⟩from Ã<|Ã h.fq) r).trans<|h.C U;have D:p.cell? ⟨m,1,Á⟩=Â (Ê Î i):=(gX.r (show gX l ⟨m,1,Á⟩from Ã<|Ã h.fq) r).trans<|h.C U;have F:p.cell? ⟨m,2,Á⟩=Â (À<|Â ⟨b,0,Á⟩):=(gX.r (show gX l ⟨m,2,Á⟩from Ã<|Ã h.fq) r).trans<|h.C U;have G:p.cell? ⟨m,3,Á⟩=Â (À Á):=(gX.r (show gX l ⟨m,3,Á⟩from Ã<|Ã h.fq) r).trans<|h.C U;simp[go_sem,C,D,F,G]at y;rcases y with rfl|rfl|rfl|rfl
  .exact(u _).C
  .exact(u _).C
  .exact(u _).C
  .exact(u _).C
 walk_nrm;refine pb (V:=λp=>Æ (Â ⟨p,0,Á⟩) 1 1) (ob:=É #[À<|Â ⟨k,0,Á⟩,Ê Î i,À<|Â ⟨b,0,Á⟩,À Á] 155) U U (by k_ne) s.r E (λw=>by go_simp) (λw=>by simp[go_sem]) λr Q=> ?_;walk_nrm;have p:=mR (X:=fh) (ob:=É #[À<|Â ⟨k,0,Á⟩,Ê Î i,À<|Â ⟨b,0,Á⟩,À Á] 155) s Q;have y:hD (gG l r<|É #[À<|Â ⟨k,0,Á⟩,Ê Î i,À<|Â ⟨b,0,Á⟩,À Á] 155) r.heap.size (É #[À<|Â ⟨k,0,Á⟩,Ê Î i,À<|Â ⟨b,0,Á⟩,À Á] 155):=⟨Ç U,mQ⟩;have C:∀a,x.ownBlock=Â a->(gG l r<|É #[À<|Â ⟨k,0,Á⟩,Ê Î i,À<|Â ⟨b,0,Á⟩,À Á] 155).O a:=λa e=>Ã<|K a e;have F:=nP lA (w₁:=(gG l r<|É #[À<|Â ⟨k,0,Á⟩,Ê Î i,À<|Â ⟨b,0,Á⟩,À Á] 155).w) λa e=>p.r a (Ã<|K a e) id;generalize gG l r (É #[À<|Â ⟨k,0,Á⟩,Ê Î i,À<|Â ⟨b,0,Á⟩,À Á] 155)=l₄ at p y C F|-;generalize r.heap.size=px at y|-;have G:=p.N s;have S:¬l₄.q:=by rwa[p.q]
 have D7:Ä.info? 155=Â Ą:=ļ;refine GK (v:=x) (us:=[À<|Â ⟨k,0,Á⟩,Ê Î i,À<|Â ⟨b,0,Á⟩,À Á]) (px:=px) (c:=1) (n:=n) (sz:=4) (xs:=xs) (inf:=Ą) (z:=Đ #[À Á,Ê Î 0,À Á,À Á]) U U (by k_ne) G S U U U Ľ D7 U U Z U U (by simp[Ą];omega) (by simp only[œ];omega) F C y.fq (λg u D=>y.C<|by simpa using D) (by simp[Ø]) λu g D H T W Y uo=> ?_;walk_nrm;have k5:gi (λf=>Â f=x.ownBlock) l₄ (mS l₄ u D):=Kv G H W λa e=>⟨C a e,e.symm⟩;have I:gi (λf=>Â f=x.ownBlock) l (mS l₄ u D):=(p.fO λ_ _ q=>q.elim).fg k5;have Ry:g.ownBlock=x.ownBlock\/∃a,g.ownBlock=Â a/\l.w.heap.size<=a:=uo.imp id λq=>⟨_,q,Õ p.I H.r⟩;have xl:(mS l₄ u D).w.ownsRow 0 155 4 g (n+1) (xs++[À<|Â ⟨k,0,Á⟩,Ê Î i,À<|Â ⟨b,0,Á⟩,À Á]):=T;generalize mS l₄ u D=sL at I xl Y|-;clear p k5 W T uo y G S C F H Q;have rz:=I.N s;have hw:Î.wrap ((i:Int)+1)=((i+1:Nat):Int):=by rw[Bj Z Z];omega
 apply fX (n:=40) rz.r;repeat w_go fB
 refine Ë λ_ _=> ?_;refine hJ sL _ g I xl Y Ry ⟨U,U,U,U,U,U,?_⟩;simp[hw]
def aiY(G:gy l)(hq:¬l.q)(hd:l.d=0)(I:PT v x z b j i d)(Za:i<j)(hR:j<1000)(h9:d[9]?=Â (À<|Â ⟨m,0,Á⟩))(Rx:d[28]?=Â (ŝ Ì))(hn:n<1000) (h0:hD l m (É #[À<|Â ⟨k,0,Á⟩,Ê Î i,À<|Â ⟨b,0,Á⟩,À Á] 155)) (lA:l.w.ownsRow 0 155 4 v n xs) (hO:∀f,v.ownBlock=Â f->l.O f) (sJ:v.ownBlock≠Â m) (hJ:∀T t' W s,gi (λg=>Â g=v.ownBlock\/g=m) l T->T.w.ownsRow 0 155 4 W (n+1) (xs++[À<|Â ⟨k,0,Á⟩,Ê Î i,À<|Â ⟨b,0,Á⟩,À<|Â ⟨s,0,Á⟩])->(∀f,W.ownBlock=Â f->T.O f)->(W.ownBlock=v.ownBlock\/∃f,W.ownBlock=Â f/\s<f)->l.w.heap.size<=s->hD T s (É #[Ê ê 4294967296,Ê Ď 0,Æ Á 0 0] 105)->PT W x z s j (i+1) t'->fj Ä Ò J T (BJ t' qX)): fj Ä Ò J l (G5 d qX):=by
 obtain⟨y0,y1,y2,y3,y4,y5,y6,y7,y8,y9,xd,ze,xe,rp,sF,qy,vq,vr,uh,ui,uj,sG,sH,sI,rh,sB,ri,oY,n7,pM,pN,pO,tO,sC,sD,rj,rm,tP,tR,tS,tT,tU,tV,tW,tX,tY,pP,pQ,rfl⟩:=KN d I.r;obtain rfl:v=y4:=(show y4=v by simpa using I.N).symm;obtain rfl:x=y5:=(show y5=x by simpa using I.S).symm;obtain rfl:y6=À (Â ⟨b,0,Á⟩):=by simpa using I.Y
 obtain rfl:y9=À (Â ⟨m,0,Á⟩):=by simpa using h9
 obtain rfl:z=rp:=(show rp=z by simpa using I.C).symm;obtain rfl:sF=Ê Î j:=by simpa using I.I
 obtain rfl:qy=Ê Î i:=by simpa using I.M
 obtain rfl:n7=ŝ Ì:=by simpa using Rx
 have hF:True:=trivial;apply fX (n:=40) G.r;simp only[G5];conv in Rv=>whnf
 conv in Y9=>whnf
 conv in Rw=>whnf
 repeat w_go fB
 refine Ë λ_ _=> ?_;refine Gx (ob:=É #[Ê ê 0,Ê Ď 0,Æ Á 0 0] 105) U U (by k_ne) G.r hq (λw=>by go_simp) (λw=>by simp[go_sem]) λD mO=> ?_;walk_nrm;have t:gi fh l (gG l D<|É #[Ê ê 0,Ê Ď 0,Æ Á 0 0] 105):=mR G mO;have F:hD (gG l D<|É #[Ê ê 0,Ê Ď 0,Æ Á 0 0] 105) D.heap.size (É #[Ê ê 0,Ê Ď 0,Æ Á 0 0] 105):=⟨Ç U,mQ⟩;have G6:l.w.heap.size<=D.heap.size:=mO.r;generalize gG l D (É #[Ê ê 0,Ê Ď 0,Æ Á 0 0] 105)=l₁ at t F|-;generalize D.heap.size=s at F G6|-;clear mO D;have xi:=t.N G;have Bu:¬l₁.q:=by rwa[t.q]
 have htl:m<l.w.heap.size:=G.fx m<|Ã h0.fq;have t1:=h0.r t id;apply fX (n:=40) xi.r;iterate 7 w_go fB
 u_call qx.f_add (nm_add Lk) addFn fB hF
 refine Ë λ_ _=> ?_;refine Y5 qx xi Bu (by rwa[t.d]) F.fq F.I U U λy hC=> ?_;walk_nrm;have E:gi (λg=>g=s) l₁ y:=hC.r;have KO:gi fh l y:=⟨λf q=>E.O f<|t.O f q,λf q=>(E.c f q).elim (t.c f) λh=>Ç<|Õ t.I h,E.S.trans t.S,E.Y.trans t.Y,E.b.trans t.b,E.K.trans t.K,E.q.trans t.q,E.d.trans t.d,E.fx,Õ t.I E.I,λo Y nx=>(E.r o (t.M Y) λe=>by have:=G.fx o Y;omega).trans<|t.r o Y nx,λa H=>(E.f a<|by rwa[t.C]).trans<|t.f a H,λa H=>(E.g a<|by rwa[t.C]).trans<|t.g a H,λa H h=>E.e a (by rwa[t.K])<|t.e a H h⟩;have L:=t1.r E Z;have N:hD y s (É #[Ê ê 4294967296,Ê Ď 0,Æ Á 0 0] 105):=⟨E.O s F.fq,hC.C⟩;have rv:=KO.N G;have pS:¬y.q:=by rwa[KO.q]
 have hgl:s<y.w.heap.size:=rv.fx s<|Ã N.fq;clear hC E t1 F t xi Bu l₁;apply fX (n:=40) rv.r;iterate 5 w_go fB
 refine Ë λ_ _=> ?_;refine GJ (p:=m) (off:=3) (v:=À<|Â ⟨s,0,Á⟩) (u:=À Á) U U (by k_ne) rv.r pS L.fq (L.C U) (by simp[î,L.I]) U (λw r S=>by go_simp) (λw r S=>by simp[go_sem,á _ _ _ _ _ _ (show Ø (À<|Â ⟨s,0,Á⟩)=Ò from rfl),r,S]) ?_;have P:gi (λg=>g=m) l {y with w:=y.w.setCell ⟨m,3,Á⟩ (À<|Â ⟨s,0,Á⟩)}:=(KO.fO λ_ _ q=>q.elim).fg (Ku (p:=m) rv (fG.fU _ _) L.fq U jT λo Y=>lh Y);have B:hD {y with w:=y.w.setCell ⟨m,3,Á⟩ (À<|Â ⟨s,0,Á⟩)} m (É #[À<|Â ⟨k,0,Á⟩,Ê Î i,À<|Â ⟨b,0,Á⟩,À<|Â ⟨s,0,Á⟩] 155):=⟨L.fq,by show(y.w.setCell ⟨m,3,Á⟩<|À<|Â ⟨s,0,Á⟩).heap[m]?=_;unfold þ;simp[í,L.I]⟩;have g3:hD {y with w:=y.w.setCell ⟨m,3,Á⟩ (À<|Â ⟨s,0,Á⟩)} s (É #[Ê ê 4294967296,Ê Ď 0,Æ Á 0 0] 105):=⟨N.fq,(lh<|by show s≠m;omega).trans N.I⟩;have aiZ:s<({y with w:=y.w.setCell ⟨m,3,Á⟩ (À<|Â ⟨s,0,Á⟩)}:fe).w.heap.size:=by show s<(y.w.setCell ⟨m,3,Á⟩<|À<|Â ⟨s,0,Á⟩).heap.size;rwa[jT]
 generalize({y with w:=y.w.setCell ⟨m,3,Á⟩ (À<|Â ⟨s,0,Á⟩)}:fe)=kn at P B g3 aiZ|-;clear L N KO rv pS hgl y;have Q:=P.N G;have xf:¬kn.q:=by rwa[P.q]
 have xj:∀f,v.ownBlock=Â f->kn.O f:=λf e=>P.O f<|hO f e;have KE:kn.w.ownsRow 0 155 4 v n xs:=nP lA λf e=>P.r f (Ã<|hO f e) λh=>sJ<|h▸e;apply fX (n:=40) Q.r;iterate 3 w_go fB
 refine Ë λ_ _=> ?_;refine oD (v:=Đ #[À<|Â ⟨k,0,Á⟩,Ê Î i,À<|Â ⟨b,0,Á⟩,À<|Â ⟨s,0,Á⟩]) U U (by k_ne) Q.r xf (λD r=> ?_) (λD r e he=> ?_) ?_
 .skip;have g0:D.cell? ⟨m,0,Á⟩=Â (À<|Â ⟨k,0,Á⟩):=(gX.r (show gX kn ⟨m,0,Á⟩from Ã<|Ã B.fq) r).trans<|B.C U;have F:D.cell? ⟨m,1,Á⟩=Â (Ê Î i):=(gX.r (show gX kn ⟨m,1,Á⟩from Ã<|Ã B.fq) r).trans<|B.C U;have N:D.cell? ⟨m,2,Á⟩=Â (À<|Â ⟨b,0,Á⟩):=(gX.r (show gX kn ⟨m,2,Á⟩from Ã<|Ã B.fq) r).trans<|B.C U;have g3:D.cell? ⟨m,3,Á⟩=Â (À<|Â ⟨s,0,Á⟩):=(gX.r (show gX kn ⟨m,3,Á⟩from Ã<|Ã B.fq) r).trans<|B.C U;go_simp
 .have S:∀o,gX kn ⟨m,o,Á⟩:=λo=>Ã<|Ã B.fq;have g0:D.cell? ⟨m,0,Á⟩=Â (À<|Â ⟨k,0,Á⟩):=(gX.r (show gX kn ⟨m,0,Á⟩from Ã<|Ã B.fq) r).trans<|B.C U;have F:D.cell? ⟨m,1,Á⟩=Â (Ê Î i):=(gX.r (show gX kn ⟨m,1,Á⟩from Ã<|Ã B.fq) r).trans<|B.C U;have N:D.cell? ⟨m,2,Á⟩=Â (À<|Â ⟨b,0,Á⟩):=(gX.r (show gX kn ⟨m,2,Á⟩from Ã<|Ã B.fq) r).trans<|B.C U;have g3:D.cell? ⟨m,3,Á⟩=Â (À<|Â ⟨s,0,Á⟩):=(gX.r (show gX kn ⟨m,3,Á⟩from Ã<|Ã B.fq) r).trans<|B.C U;simp[go_sem,g0,F,N,g3]at he;rcases he with rfl|rfl|rfl|rfl
  .exact(S _).C
  .exact(S _).C
  .exact(S _).C
  .exact(S _).C
 walk_nrm;refine pb (V:=λp=>Æ (Â ⟨p,0,Á⟩) 1 1) (ob:=É #[À<|Â ⟨k,0,Á⟩,Ê Î i,À<|Â ⟨b,0,Á⟩,À<|Â ⟨s,0,Á⟩] 155) U U (by k_ne) Q.r xf (λw=>by go_simp) (λw=>by simp[go_sem]) λS vv=> ?_;walk_nrm;have r:=mR (X:=fh) (ob:=É #[À<|Â ⟨k,0,Á⟩,Ê Î i,À<|Â ⟨b,0,Á⟩,À<|Â ⟨s,0,Á⟩] 155) Q vv;have p4:hD (gG kn S<|É #[À<|Â ⟨k,0,Á⟩,Ê Î i,À<|Â ⟨b,0,Á⟩,À<|Â ⟨s,0,Á⟩] 155) S.heap.size (É #[À<|Â ⟨k,0,Á⟩,Ê Î i,À<|Â ⟨b,0,Á⟩,À<|Â ⟨s,0,Á⟩] 155):=⟨Ç U,mQ⟩;have xk:∀f,v.ownBlock=Â f->(gG kn S<|É #[À<|Â ⟨k,0,Á⟩,Ê Î i,À<|Â ⟨b,0,Á⟩,À<|Â ⟨s,0,Á⟩] 155).O f:=λf e=>Ã<|xj f e;have Bv:=nP KE (w₁:=(gG kn S<|É #[À<|Â ⟨k,0,Á⟩,Ê Î i,À<|Â ⟨b,0,Á⟩,À<|Â ⟨s,0,Á⟩] 155).w) λf e=>r.r f (Ã<|xj f e) id;generalize gG kn S (É #[À<|Â ⟨k,0,Á⟩,Ê Î i,À<|Â ⟨b,0,Á⟩,À<|Â ⟨s,0,Á⟩] 155)=l₄ at r p4 xk Bv|-;generalize S.heap.size=px at p4|-;have zj:=r.N Q;have Bw:¬l₄.q:=by rwa[r.q]
 have D7:Ä.info? 155=Â Ą:=ļ;refine GK (v:=v) (us:=[À<|Â ⟨k,0,Á⟩,Ê Î i,À<|Â ⟨b,0,Á⟩,À<|Â ⟨s,0,Á⟩]) (px:=px) (c:=1) (n:=n) (sz:=4) (xs:=xs) (inf:=Ą) (z:=Đ #[À Á,Ê Î 0,À Á,À Á]) U U (by k_ne) zj Bw U U U Ľ D7 U U Z U U (by simp[Ą];omega) (by simp only[œ];omega) Bv xk p4.fq (λo u hu=>p4.C<|by simpa using hu) (by simp[Ø]) λsK Bt KP Bx sj G2 By uo=> ?_;walk_nrm;have k5:gi (λg=>Â g=v.ownBlock) l₄ (mS l₄ sK KP):=Kv zj Bx G2 λf e=>⟨xk f e,e.symm⟩;have vw:gi (λg=>Â g=v.ownBlock) kn (mS l₄ sK KP):=(r.fO λ_ _ q=>q.elim).fg k5;have Ry:Bt.ownBlock=v.ownBlock\/∃f,Bt.ownBlock=Â f/\kn.w.heap.size<=f:=uo.imp id λq=>⟨_,q,Õ r.I Bx.r⟩;have xl:(mS l₄ sK KP).w.ownsRow 0 155 4 Bt (n+1) (xs++[À<|Â ⟨k,0,Á⟩,Ê Î i,À<|Â ⟨b,0,Á⟩,À<|Â ⟨s,0,Á⟩]):=sj;generalize mS l₄ sK KP=sL at vw xl By|-;clear r k5 G2 sj uo p4 zj Bw xk Bv Bx vv;have rz:=vw.N Q;have hw:Î.wrap ((i:Int)+1)=((i+1:Nat):Int):=by rw[Bj Z Z];omega
 have g5:=g3.r vw<|YV lA G6;have Bz:gi (λg=>Â g=v.ownBlock\/g=m) l sL:=(P.fO λ_ _ q=>Ç q).fg (vw.fO λ_ _ q=>Ã q);apply fX (n:=40) rz.r;repeat w_go fB
 refine Ë λ_ _=> ?_;refine hJ sL _ Bt s Bz xl By (Ry.imp id λ⟨f,q1,q2⟩=>⟨f,q1,Z⟩) G6 g5 ⟨U,U,U,U,U,U,?_⟩;simp[hw]
end
def gY(kd:Nat->Int)(i:Nat):List Nat:=(ã i).filter λj=>decide<|kd j=1
def jw(kd:Nat->Int)(i:Nat):List Nat:=(ã i).filter λj=>decide<|kd j≠1
def fL(kd:Nat->Int)(i:Nat):Nat:=(gY kd i).length
def tI(a g:Nat->Nat)(p:Nat×Nat):List Ï:=[À<|Â ⟨a p.1,0,Á⟩,Ê Î p.1,À<|Â ⟨g p.2,0,Á⟩,À<|Â ⟨g<|p.2+1,0,Á⟩]
def tQ(kd:Nat->Int)(a g:Nat->Nat)(p:Nat):List Ï:=[À<|Â ⟨a p,0,Á⟩,Ê Î p,À<|Â ⟨g<|fL kd p,0,Á⟩,À Á]
def jI(kd:Nat->Int)(rq g:Nat->Nat)(i:Nat):List Ï:=(gY kd i).zipIdx.flatMap<|tI rq g
def mD(kd:Nat->Int)(a g:Nat->Nat)(i:Nat):List Ï:=(jw kd i).flatMap<|tQ kd a g
section
variable{kd:Nat->Int}{rq g:Nat->Nat}
def sN(h:kd i=1):gY kd (i+1)=gY kd i++[i]:=by simp[gY,ÿ,ā,h]
def vy(h:kd i≠1):gY kd (i+1)=gY kd i:=by simp[gY,ÿ,ā,h]
def Rz(h:kd i=1):jw kd (i+1)=jw kd i:=by simp[jw,ÿ,ā,h]
theorem RE(h:kd i≠1):jw kd (i+1)=jw kd i++[i]:=by simp[jw,ÿ,ā,h]
def RF:∀i,fL kd i<=i:=λi=>by unfold fL gY;exact Õ (ģ _ _) fp
def ai0:∀i,(jw kd i).length<=i:=λi=>by unfold jw;exact Õ (ģ _ _) fp
def Zb(h:j<=i):fL kd j<=fL kd i:=by
 induction i with
 |zero=>
  have:j=0:=Z
  rw[this];exact Ú _
 |succ i c=>
  by_cases e:j=i+1
  .rw[e];exact Ú _
  .have a:=c Z;by_cases b:kd i=1
   .unfold fL at a|-;rw[sN b];simp;omega
   .unfold fL at a|-;rwa[vy b]
def ai1(h:kd i=1):jI kd rq g (i+1)=jI kd rq g i++tI rq g (i,fL kd i):=by unfold jI;rw[sN h,List.zipIdx_append,List.flatMap_append];simp[fL]
def ai2(h:kd i≠1):jI kd rq g (i+1)=jI kd rq g i:=by unfold jI;rw[vy h]
def ai3(h:kd i=1):mD kd rq g (i+1)=mD kd rq g i:=by unfold mD;rw[Rz h]
theorem ai4(h:kd i≠1):mD kd rq g (i+1)=mD kd rq g i++tQ kd rq g i:=by unfold mD;grind [RE]
def RG{α:Type}{f a:α->List Ï}:∀(l:List α),(∀x∈l,f x=a x)->l.flatMap f=l.flatMap a
 |[],_=>rfl
 |x::l,h=>by rw[Ć,Ć,h x List.mem_cons_self,RG l λy b=>h y<|List.mem_cons_of_mem _ b]
def ai5(h:∀k,k<=fL kd i->D k=g k):jI kd rq D i=jI kd rq g i:=by
 unfold jI;refine RG _ λx a=> ?_;let⟨p,k⟩:=x;have b:=(List.mem_zipIdx a).2.1;have c:k<fL kd i:=by unfold fL;omega
 simp[tI,h k Z,h (k+1) Z]
def ai6(h:∀k,k<=fL kd i->D k=g k):mD kd rq D i=mD kd rq g i:=by
 unfold mD;refine RG _ λp a=> ?_;have b:p<i:=by have:=(Ā.1 a).1;simpa using this
 simp[tQ,h (fL kd p)<|Zb Z]
def RH{α:Type}{f:α->List Ï}(a:∀x,(f x).length=4)(b:i<4):∀(l:List α) (k:Nat) (x:α),l[k]?=Â x->(l.flatMap f)[k*4+i]?=(f x)[i]?
 |[],k,x,h=>by simp at h
 |y::l,0,x,h=>by
  obtain rfl:y=x:=by simpa using h
  rw[Ć,List.getElem?_append_left (by rw[a];omega)];simp
 |y::l,k+1,x,h=>by rw[Ć,List.getElem?_append_right (by rw[a];omega),a,show(k+1)*4+i-4=k*4+i by omega];exact RH a b l k x<|by simpa using h
end
section
variable{Y:Nat->Prop}{l m o:fe}
def gi.vz(h:gi X l m)(k:gi Y m o)(e:∀j,l.M j->¬Y j):gi X l o:= ⟨λj q=>k.O j<|h.O j q,λj q=>(k.c j q).elim (h.c j) λz=>Ç<|Õ h.I z,k.S.trans h.S,k.Y.trans h.Y,k.b.trans h.b,k.K.trans h.K,k.q.trans h.q,k.d.trans h.d,k.fx,Õ h.I k.I,λj c f=>(k.r j (h.M c)<|e j c).trans<|h.r j c f,λa b=>(k.f a<|by rwa[h.C]).trans<|h.f a b,λa b=>(k.g a<|by rwa[h.C]).trans<|h.g a b,λa b z=>k.e a (by rwa[h.K])<|h.e a b z⟩
end
abbrev RJ:Ÿ:=É #[Ê ê 4294967296,Ê Ď 0,Æ Á 0 0] 105
structure zk(kd:Nat->Int)(rq g:Nat->Nat)(S i:Nat)(iv qv:Ï)(l0 l:fe):Prop where
 r:gi fh l0 l
 jI:l.w.ownsRow 0 155 4 iv (fL kd i) (jI kd rq g i)
 mD:l.w.ownsRow 0 155 4 qv (jw kd i).length (mD kd rq g i)
 C:∀k,iv.ownBlock=Â k->l.O k/\l0.w.heap.size<=k
 I:∀k,qv.ownBlock=Â k->l.O k/\l0.w.heap.size<=k
 M:∀k,iv.ownBlock=Â k->qv.ownBlock≠Â k
 N:∀k,1<=k->k<=fL kd i->hD l (g k) RJ/\l0.w.heap.size<=g k/\iv.ownBlock≠Â (g k)/\qv.ownBlock≠Â (g k)
 g0:g 0<l0.w.heap.size
 S:g 0=S
 Y:∀k k',k<k'->k'<=fL kd i->g k<g k'
section
variable{kd:Nat->Int}{rq g:Nat->Nat}{iv qv:Ï}{l0 l m o:fe}
theorem zk.ai7(h:zk kd rq g n i iv qv l0 l)(C:gy l0)(s:gy l)(t:kd i≠1)(a:gi fh l m)(d:gi (λb=>Â b=qv.ownBlock) m o)(G:o.w.ownsRow 0 155 4 v ((jw kd i).length+1) (fv.mD kd rq g i++tQ kd rq g i))(D:∀k,v.ownBlock=Â k->o.O k)(u:v.ownBlock=qv.ownBlock\/∃k,v.ownBlock=Â k/\m.w.heap.size<=k):zk kd rq g n (i+1) iv v l0 o:=by
 have p:fL kd (i+1)=fL kd i:=by unfold fL;rw[vy t]
 have x:∀{j},l.O j->qv.ownBlock≠Â j->v.ownBlock≠Â j:=λ{j} c hn e=>by
  rcases u with z|⟨k,q,B⟩
  .grind
  .rw[q]at e;have:=Ó e;have:=(λc=>È (s.fx _<|Ã c) a.I) c;omega
 refine⟨(h.r.fg a).vz d λj c e=> ?_,?_,?_,λk e=>⟨d.O k<|a.O k (h.C k e).1,(h.C k e).2⟩,λk e=>⟨D k e,?_⟩,λk e=>x (h.C k e).1<|h.M k e,λk r f=> ?_,h.g0,h.S,λk y r f=>h.Y k y r<|by rwa[<-p]⟩
 .have:=(h.I j e.symm).2;have:=C.fx j c;omega
 .rw[p,ai2 t];refine nP h.jI λk e=>(d.r k (Ã<|a.O k (h.C k e).1) λz=>h.M k e z.symm).trans<|a.r k (Ã (h.C k e).1) id
 .grind [RE,ai4]
 .rcases u with z|⟨y,q,B⟩
  .rw[z]at e;exact(h.I k e).2
  .rw[q]at e;have:=Ó e;have:=h.r.I;have:=a.I;omega
 .rw[p]at f;let⟨q,E,F,B⟩:=h.N k r f;exact⟨(q.r a id).r d λz=>B z.symm,E,F,x q.fq B⟩
theorem zk.kG{tb:Nat}(h:zk kd rq g n i iv qv l0 l)(F:gy l0)(s:gy l)(a:kd i=1)(c:gi fh l m)(P:l.w.heap.size<=tb)(p:gi (λb=>Â b=iv.ownBlock\/b=tb) m o)(G:o.w.ownsRow 0 155 4 v (fL kd i+1) (fv.jI kd rq g i++[À<|Â ⟨rq i,0,Á⟩,Ê Î i,À<|Â ⟨g<|fL kd i,0,Á⟩,À<|Â ⟨J,0,Á⟩]))(H:∀k,v.ownBlock=Â k->o.O k)(u:v.ownBlock=iv.ownBlock\/∃k,v.ownBlock=Â k/\J<k)(Q:m.w.heap.size<=J)(I:hD o J RJ):zk kd rq (λk=>if k<=fL kd i then g k else J) n (i+1) v qv l0 o:=by
 have x:fL kd (i+1)=fL kd i+1:=by unfold fL;rw[sN a];simp
 have S:=h.r.I;have T:=c.I;have d:∀{j},l.O j->j<l.w.heap.size:=λq=>s.fx _<|Ã q;have B:∀{j},l.O j->iv.ownBlock≠Â j->v.ownBlock≠Â j:=λ{j} q hn e=>by grind
 have C:∀k,k<=fL kd i->(if k<=fL kd i then g k else J)=g k:=λk a=>if_pos a;refine⟨(h.r.fg c).vz p λj q e=> ?_,?_,?_,λk e=>⟨H k e,?_⟩,λk e=>⟨p.O k<|c.O k (h.I k e).1,(h.I k e).2⟩,λk e z=>B (h.I k z).1 (λy=>h.M k y z) e,λk t D=> ?_,?_,?_,λk r t D=> ?_⟩
 .have:=F.fx j q;rcases e with e|e
  .have:=(h.C j e.symm).2;omega
  .omega
 .rw[x,ai1 a,ai5 C];simpa[tI,show¬(fL kd i+1<=fL kd i) by omega]using G
 .rw[Rz a,ai3 a,ai6 C];refine nP h.mD λk e=> ?_;refine(p.r k (Ã<|c.O k (h.I k e).1) ?_).trans<|c.r k (Ã (h.I k e).1) id;rintro(z|z)
  .exact h.M k z.symm e
  .have:=d (h.I k e).1;omega
 .rcases u with z|⟨r,K,L⟩
  .rw[z]at e;exact(h.C k e).2
  .grind
 .by_cases y:k<=fL kd i
  .simp only[if_pos y];let⟨f,M,E,N⟩:=h.N k t y;refine⟨(f.r c id).r p ?_,M,B f.fq E,N⟩;rintro(z|z)
   .exact E z.symm
   .have:=d f.fq;omega
  .simp only[if_neg y];refine⟨I,Z,λe=> ?_,λe=> ?_⟩
   .rcases u with z|⟨r,K,L⟩
    .rw[z]at e;have:=d (h.C J e).1;omega
    .grind
   .have:=d (h.I J e).1;omega
 .simp only[ă,if_true];exact h.g0
 .simp only[ă,if_true];exact h.S
 .rw[x]at D;by_cases y:r<=fL kd i
  .simp only[if_pos y,if_pos (show k<=fL kd i by omega)];exact h.Y k r t y
  .simp only[if_neg y,if_pos (show k<=fL kd i by omega)];by_cases E:k=0
   .subst E;have:=h.g0;omega
   .let⟨f,_⟩:=h.N k Z Z;have:=d f.fq;omega
end
section
variable{J:Jd}{ra:Option â}{rb cr R:Nat}{cs:List é}{kd:Nat->Int}{rq:Nat->Nat}{l0:fe}
def RL(j:gy l0)(u:¬l0.q)(v:l0.d=0)(m:R<1000)(p:0<R->ra=Â ⟨rb,0,Á⟩)(x:0<R->l0.M rb)(y:∀i,i<R->l0.w.cell? ⟨rb,i,Á⟩=Â (À<|Â ⟨rq i,0,Á⟩))(r:∀i,i<R->l0.M (rq i))(z:∀i,i<R->l0.w.cell? ⟨rq i,4,Á⟩=Â (Ê Î<|kd i)) (B:∀g N P a b,zk kd rq g n R a b l0 N->PT a b (Æ ra R cr) (g<|fL kd R) R R P->fj Ä Ò J N (BJ P cs)): ∀d i,R=i+d->∀g l t a b,zk kd rq g n i a b l0 l->PT a b (Æ ra R cr) (g<|fL kd i) R i t->fj Ä Ò J l (BJ t cs)
 |0,i,hi,g,l,t,a,b,hP,hT=>by obtain rfl:R=i:=hi;exact B g l t a b hP hT
 |d+1,i,hi,g,l,t,a,b,hP,hT=>by
  have f:i<R:=Z
  have o:=hP.r.N j;have Q:¬l.q:=by rwa[hP.r.q]
  have S:=x Z;refine aiW o Q (by rwa[<-p Z]) f m (hP.r.M S) ((gK<|hP.r.r rb S id).trans<|y i f) (hP.r.M<|r i f) ((gK<|hP.r.r _ (r i f) id).trans<|z i f) λl1 t1 T c sJ V C W s=> ?_;rw[<-p Z]at C;have X:=c.N o;have Y:¬l1.q:=by rwa[c.q]
  have hc:=RF (kd:=kd) i;have hcq:=ai0 (kd:=kd) i;by_cases h:kd i=1
  .rw[decide_eq_false (by simpa using h)]at s;refine aiY X Y (by rwa[c.d,hP.r.d]) C f m W s Z V (nP hP.jI λk e=>c.r k (Ã (hP.C k e).1) id) (λk e=>c.O k (hP.C k e).1) (λe=>by have:=o.fx T<|Ã (hP.C T e).1;omega) λD E iv' gt F G H I G6 hg K=> ?_;apply RL j u v m p x y r z B d (i+1) Z _ D E iv' b (hP.kG j o h c sJ F G H I G6 hg);have L:fL kd (i+1)=fL kd i+1:=by unfold fL;rw[sN h];simp
   rw[L];simp only[show¬(fL kd i+1<=fL kd i) by omega,if_false];exact K
  .rw[decide_eq_true (by simpa using h)]at s;refine aiX X Y C f m W s Z V (nP hP.mD λk e=>c.r k (Ã (hP.I k e).1) id) (λk e=>c.O k (hP.I k e).1) λD E e F G H I K=> ?_;apply RL j u v m p x y r z B d (i+1) Z _ D E a e (hP.ai7 j o h c F G H I);have L:fL kd (i+1)=fL kd i:=by unfold fL;rw[vy h]
   rwa[L]
end
noncomputable def Zc:Ę:=kV Ĝ []
noncomputable def Zd (a b:Ï) (c:List é):Ý:=G ((base 46).at ⟨#[a,b,Å,Å,Å,Å,Å,Å,Å,Å,Å,Å,Å,Å,Å,Å,Å,Å,Å,Å,Å,Å,Å,Å,Å,Å,Å,Å,Å,Å,Å,Å,Å,Å,Å,Å,Å,Å,Å,Å,Å,Å,Å,Å,Å,Å,Å,Å],[]⟩ [ö Zc]) c
def ai8{c:é}{d:ŏ}{k:List ŷ}{K:Ý->ß->Array ž->Prop}{t u v:Tmp}(g:f.kind=Ğ)(j:y.defers=[])(l:P.funcs[f.fn]?=Â s)(e:s.results=#[.tmp t,.tmp u,.tmp v]) (h:K (G (c.at (d.put ((Q[i]?).bind (·.dst))<|ñ #[y.tmps.getD t Å,y.tmps.getD u Å,y.tmps.getD v Å])<|Ñ Q jJ::k) qX) w #[]): (stepG P yQ (G {f.at y L with mode:=.returning}<|c.at d (Ñ Q (i::jJ)::k)::qX) w).goes K:=by rwa[stepG_leave g j l (v:=ñ #[y.tmps.getD t Å,y.tmps.getD u Å,y.tmps.getD v Å]) (by simp[results,e,go_sem]) (by simp[results,e,go_sem]),Ģ]
structure G7(kd:Nat->Int)(rq g:Nat->Nat)(R:Nat)(iv qv sv:Ï)(l l':fe):Prop where
 Y:gi fh l l'
 jI:l'.w.ownsRow 0 155 4 iv (fL kd R) (jI kd rq g R)
 mD:l'.w.ownsRow 0 155 4 qv (jw kd R).length (mD kd rq g R)
 r:∀k,iv.ownBlock=Â k->l'.O k/\l.w.heap.size<=k
 C:∀k,qv.ownBlock=Â k->l'.O k/\l.w.heap.size<=k
 dis:∀k,iv.ownBlock=Â k->qv.ownBlock≠Â k
 N:hD l' (g 0) (É #[Ê ê 0,Ê Ď 0,sv] 105)
 I:∀k,1<=k->k<=fL kd R->hD l' (g k) RJ
 M:∀k,k<=fL kd R->l.w.heap.size<=g k/\iv.ownBlock≠Â (g k)/\qv.ownBlock≠Â (g k)
 S:∀k k',k<k'->k'<=fL kd R->g k<g k'
def ai9(w:ß)(a:Option â)(b c:Nat):(Ċ 105 #[(1,Æ a b c)]).run Ä w=.ok (Đ #[Ê ê 0,Ê Ď 0,Æ a b c]) w:=run_build w 105 _ _ fQ
def aja(w:ß)(a:Option â)(b c:Nat):(Ċ 105 #[(1,Æ a b c)]).events Ä w #[]=#[]:=by unfold Ċ;simp only[Sem.events_bind];simp[go_sem]
section
variable{J:Jd}{l:fe}{ra:Option â}{rb cr R:Nat}{sa:Option â}{sn sc:Nat}{k:List ŷ}{kd:Nat->Int}{rq:Nat->Nat}
def ajb(j:gy l)(u:¬l.q)(I:l.d=0)(K:R<1000)(L:0<R->ra=Â ⟨rb,0,Á⟩)(z:0<R->l.M rb)(N:∀i,i<R->l.w.cell? ⟨rb,i,Á⟩=Â (À<|Â ⟨rq i,0,Á⟩))(B:∀i,i<R->l.M (rq i))(O:∀i,i<R->l.w.cell? ⟨rq i,4,Á⟩=Â (Ê Î<|kd i)) (P:∀g s b c,G7 kd rq g R b c (Æ sa sn sc) l s->fj Ä Ò J s (G (f.at (y.put ((Q[i]?).bind (·.dst))<|ñ #[b,c,À<|Â ⟨g<|fL kd R,0,Á⟩])<|Ñ Q jJ::k) qX)): fj Ä Ò J l (Zd (Æ ra R cr) (Æ sa sn sc)<|f.at y (Ñ Q (i::jJ)::k)::qX):=by
 have hF:=trivial;apply fX (n:=40) j.r;simp only[Zd];conv in Zc=>whnf
 repeat w_go fB
 refine Ë λ_ _=> ?_;refine oD (v:=Đ #[Ê ê 0,Ê Ď 0,Æ sa sn sc]) U U (by k_ne) j.r u (λa r=> ?_) (λa r e p=> ?_) ?_
 .have h:=ai9 a sa sn sc;go_simp
 .have h:=aja a sa sn sc;simp[go_sem,h]at p
 walk_nrm;refine pb (V:=λp=>À<|Â ⟨p,0,Á⟩) (ob:=É #[Ê ê 0,Ê Ď 0,Æ sa sn sc] 105) U U (by k_ne) j.r u (λw=>by go_simp) (λw=>by simp[go_sem]) λa C=> ?_;walk_nrm;have p:gi fh l (gG l a<|É #[Ê ê 0,Ê Ď 0,Æ sa sn sc] 105):=mR j C;have t:hD (gG l a<|É #[Ê ê 0,Ê Ď 0,Æ sa sn sc] 105) a.heap.size (É #[Ê ê 0,Ê Ď 0,Æ sa sn sc] 105):=⟨Ç U,mQ⟩;have D:=C.r;generalize gG l a (É #[Ê ê 0,Ê Ď 0,Æ sa sn sc] 105)=l₁ at p t|-;generalize a.heap.size=gt at t D|-;have m:=p.N j;have S:¬l₁.q:=by rwa[p.q]
 apply fX (n:=40) m.r;repeat w_bar fB
 w_go fB
 refine Ë λ_ _=> ?_;have T:=m.fx gt<|Ã t.fq;refine RL m S (by rwa[p.d]) K L (λh=>p.M<|z h) (λi h=>(gK<|p.r rb (z Z) id).trans<|N i h) (λi h=>p.M<|B i h) (λi h=>(gK<|p.r _ (B i h) id).trans<|O i h) (λg s W b c h r=> ?_) R 0 Z (λ_=>gt) l₁ _ (Æ Á 0 0) (Æ Á 0 0) ⟨gi.fU m.r,⟨U,Ã ⟨U,U⟩⟩,⟨U,Ã ⟨U,U⟩⟩,λk e=>(by cases e),λk e=>(by cases e),λk e=>(by cases e),λk x o=> ?_,T,rfl,λk X x o=> ?_⟩ ⟨rfl,rfl,rfl,rfl,rfl,rfl,rfl⟩
 .have Y:=h.r.N m;obtain⟨y0,y1,y2,y3,E,F,y6,y7,y8,y9,xd,ze,xe,rp,sF,qy,vq,vr,uh,ui,uj,sG,sH,sI,rh,sB,ri,oY,n7,pM,pN,pO,tO,sC,sD,rj,rm,tP,tR,tS,tT,tU,tV,tW,tX,tY,pP,pQ,rfl⟩:=KN W r.r;obtain rfl:b=E:=(show E=b by simpa using r.N).symm;obtain rfl:c=F:=(show F=c by simpa using r.S).symm;obtain rfl:y6=À (Â ⟨g<|fL kd R,0,Á⟩):=by simpa using r.Y
  obtain rfl:rp=Æ ra R cr:=by simpa using r.C
  obtain rfl:sF=Ê Î R:=by simpa using r.I
  obtain rfl:qy=Ê Î R:=by simpa using r.M
  have gQ:¬((R:Int)<(R:Int)):=Z
  apply fX (n:=40) Y.r;simp only[BJ];conv in G4=>whnf
  conv in Ru=>whnf
  repeat w_go fB
  u_in fB hF
  refine ai8 U U ų U ⟨by u_nil,?_⟩;walk_nrm;refine Ë λ_ _=> ?_;have H:=h.S;refine P g s b c ⟨p.fg h.r,h.jI,h.mD,λk e=>⟨(h.C k e).1,Õ p.I (h.C k e).2⟩,λk e=>⟨(h.I k e).1,Õ p.I (h.I k e).2⟩,h.M,H▸t.r h.r id,λk x o=>(h.N k x o).1,λk hk=> ?_,h.Y⟩;by_cases h0:k=0
  .subst h0;rw[H];exact⟨D,λe=>by have:=(h.C _ e).2;omega,λe=>by have:=(h.I _ e).2;omega⟩
  .let⟨_,a2,a3,a4⟩:=h.N k Z hk;exact⟨Õ p.I a2,a3,a4⟩
 .have:k<=0:=o;omega
 .have:X<=0:=o;omega
end
noncomputable def Ze:Ę:=kV Tryz.f37 []
noncomputable def D8 (a b:Ï) (n:Nat) (c:List é):Ý:=G ((base 37).at ⟨#[a,b,Ê Î n,Å,Å,Å,Å,Å,Å,Å,Å,Å,Å,Å,Å,Å,Å,Å,Å,Å,Å,Å,Å,Å,Å,Å,Å,Å,Å,Å,Å,Å,Å,Å,Å,Å,Å,Å,Å,Å,Å,Å,Å,Å,Å,Å,Å,Å,Å],[]⟩ [ö Ze]) c
def G7.vz{kd:Nat->Int}{rq:Nat->Nat}{R:Nat}{l a b:fe}(h:G7 kd rq D R v x z l a)(k:gi fh a b):G7 kd rq D R v x z l b:= ⟨h.Y.fg k,nP h.jI λj e=>k.r j (Ã (h.r j e).1) id,nP h.mD λj e=>k.r j (Ã (h.C j e).1) id,λj e=>⟨k.O j (h.r j e).1,(h.r j e).2⟩,λj e=>⟨k.O j (h.C j e).1,(h.C j e).2⟩,h.dis,h.N.r k id,λj c d=>(h.I j c d).r k id,h.M,h.S⟩
abbrev xn(R:Nat):Ÿ:=É (madeCells (Ŵ<|à ⟨#[]⟩) R) 9
structure KQ(kd:Nat->Int)(rq g:Nat->Nat)(R:Nat)(iv qv sv:Ï)(an ba bi all bw bf:Nat)(l lp l':fe):Prop where
 C:gi fh l l'
 r:G7 kd rq g R iv qv sv lp l'
 I:hD l' an (xn R)
 a:hD l' ba (É #[Æ (Â ⟨an,0,Á⟩) R R] 25)
 c:hD l' bi (É #[iv] 85)
 Y:hD l' all (É #[Ê ê 4294967296,Ê Ď 0] 97)
 d:hD l' bw (É #[À<|Â ⟨all,0,Á⟩] 162)
 b:hD l' bf (É #[Ĉ (ù 48) #[] #[À<|Â ⟨bi,0,Á⟩,À<|Â ⟨ba,0,Á⟩]] 1)
 M:l.w.heap.size<=an/\an<ba/\ba<lp.w.heap.size
 N:∀k,k<=fL kd R->g k<bi
 o3:∀k,iv.ownBlock=Â k->k<bi
 o4:∀k,qv.ownBlock=Â k->k<bi
 S:bi<all/\all<bw/\bw<bf
section
variable{J:Jd}{l:fe}{ra:Option â}{rb cr R:Nat}{sa:Option â}{sn sc:Nat}{kd:Nat->Int}{rq:Nat->Nat}
def ajc(C:gy l)(G:¬l.q)(hd:l.d=0)(hR:R<1000)(G8:0<R->ra=Â ⟨rb,0,Á⟩)(vA:0<R->l.M rb)(G9:∀i,i<R->l.w.cell? ⟨rb,i,Á⟩=Â (À<|Â ⟨rq i,0,Á⟩))(JQ:∀i,i<R->l.M (rq i))(Ha:∀i,i<R->l.w.cell? ⟨rq i,4,Á⟩=Â (Ê Î<|kd i)) (hJ:∀g lp l' t iv qv H y z D W bf v1,KQ kd rq g R iv qv (Æ sa sn sc) H y z D W bf l lp l'->GZ y D (g<|fL kd R) n qv t->J l' (Bs (À<|Â ⟨D,0,Á⟩) v1 (À<|Â ⟨D,0,Á⟩) (ñ #[]) W bf<|D6 t::qX)): fj Ä Ò J l (D8 (Æ sa sn sc) (Æ ra R cr) n qX):=by
 have hF:True:=trivial;have Zf:Ä.info? 9=Â Ġ:=Tryz.type9;have Pa:∀w:ß,(Ŏ 25 (Ê Î (R:Int))<|Ê Î (R:Int)).run Ä w=.ok (Æ (Â ⟨w.heap.size,0,Á⟩) R R) (w.alloc<|xn R):=λw=>by have:=run_makeSlice (P:=Ä) w 25 9 Ġ (à ⟨#[]⟩) ľ Zf U Î Î (R:Int) (R:Int) Z Z (by simp[Ġ];omega) (by simp[Ġ];omega) Z;simpa[Ġ]using this
 have hme:∀w:ß,(Ŏ 25 (Ê Î (R:Int))<|Ê Î (R:Int)).events Ä w #[]=#[]:=λw=>
  events_make (P:=Ä) w 25 9 Ġ (à ⟨#[]⟩) ľ Zf U Î Î (R:Int) (R:Int) Z Z (by simp[Ġ];omega) Z (by simp[Ġ];omega) _
 apply fX (n:=40) C.r;simp only[D8];conv in Ze=>whnf
 repeat w_go fB
 refine Ë λ_ _=> ?_;refine pb (V:=λp=>Æ (Â ⟨p,0,Á⟩) R R) (ob:=xn R) U U (by k_ne) C.r G (λw=>by have k:=Pa w;go_simp) (λw=>by have k:=hme w;simp[go_sem,k]) λc m=> ?_;walk_nrm;have a:=mR (X:=fh) (ob:=xn R) C m;have r:hD (gG l c<|xn R) c.heap.size (xn R):=⟨Ç U,mQ⟩;have han:l.w.heap.size<=c.heap.size:=m.r;generalize gG l c (xn R)=l1 at a r|-;generalize c.heap.size=H at r han|-;clear m c;have RN:gi fh l l1:=a;have RO:=RN.N C;have ajd:¬l1.q:=by rwa[RN.q]
 have atA:l.w.heap.size<=l1.w.heap.size:=a.I;clear a;have lan:=RO.fx H<|Ã r.fq;refine pb (V:=λp=>À<|Â ⟨p,0,Á⟩) (ob:=É #[Æ Á 0 0] 25) U U (by k_ne) RO.r ajd (λw=>by go_simp) (λw=>by simp[go_sem]) λc m=> ?_;walk_nrm;have a:=mR (X:=fh) (ob:=É #[Æ Á 0 0] 25) RO m;have f:hD (gG l1 c<|É #[Æ Á 0 0] 25) c.heap.size (É #[Æ Á 0 0] 25):=⟨Ç U,mQ⟩;have Zg:l1.w.heap.size<=c.heap.size:=m.r;generalize gG l1 c (É #[Æ Á 0 0] 25)=l2 at a f|-;generalize c.heap.size=y at f Zg|-;clear m c;have RP:gi fh l l2:=RN.fg a;replace r:=r.r a id;have RR:=RP.N C;have aje:¬l2.q:=by rwa[RP.q]
 have atB:l1.w.heap.size<=l2.w.heap.size:=a.I;clear a;have lba:=RR.fx y<|Ã f.fq;refine GJ (p:=y) (off:=0) (v:=Æ (Â ⟨H,0,Á⟩) R R) (u:=Æ Á 0 0) U U (by k_ne) RR.r aje f.fq (f.C U) (by simp[î,f.I]) U (λw o F=>by go_simp) (λw o F=>by simp[go_sem,á _ _ _ _ _ _ (show Ø (Æ (Â ⟨H,0,Á⟩) R R)=Ò from rfl),o,F]) ?_;have a:=Ku (X:=λb=>b=y) (p:=y) (w':=l2.w.setCell ⟨y,0,Á⟩<|Æ (Â ⟨H,0,Á⟩) R R) RR (fG.fU _ _) f.fq U jT λj E=>lh E;replace f:hD ({l2 with w:=l2.w.setCell ⟨y,0,Á⟩ (Æ (Â ⟨H,0,Á⟩) R R)}:fe) y (É #[Æ (Â ⟨H,0,Á⟩) R R] 25):=⟨f.fq,by show(l2.w.setCell ⟨y,0,Á⟩<|Æ (Â ⟨H,0,Á⟩) R R).heap[y]?=_;unfold þ;simp[í,f.I]⟩;generalize({l2 with w:=l2.w.setCell ⟨y,0,Á⟩ (Æ (Â ⟨H,0,Á⟩) R R)}:fe)=l3 at a f|-;have S:gi fh l l3:=RP.vz a λj E e=>by have:=C.fx j E;omega
 replace r:=r.r a Z;have Zh:=S.N C;have ajf:¬l3.q:=by rwa[S.q]
 have atC:l2.w.heap.size<=l3.w.heap.size:=a.I;clear a;apply fX (n:=20) Zh.r;iterate 5 w_go fB
 u_call ų fQ Ĝ fB hF
 refine Ë λ_ _=> ?_;refine ajb (l:=l3) (kd:=kd) (rq:=rq) (ra:=ra) (rb:=rb) (cr:=cr) (R:=R) (sa:=sa) (sn:=sn) (sc:=sc) Zh ajf (by rwa[S.d]) hR G8 (λh=>S.M<|vA h) (λi k=>(gK<|S.r rb (vA Z) id).trans<|G9 i k) (λi k=>S.M<|JQ i k) (λi k=>(gK<|S.r _ (JQ i k) id).trans<|Ha i k) λg B iv qv T=> ?_;walk_nrm;have a:=T.Y;have RU:gi fh l B:=S.fg a;replace r:=r.r a id;replace f:=f.r a id;have L:=RU.N C;have ajg:¬B.q:=by rwa[RU.q]
 have atD:l3.w.heap.size<=B.w.heap.size:=a.I;clear a;have ajh:gi fh B B:=gi.fU L.r;obtain⟨I,K,rfl⟩:∃I K,iv=Æ I (fL kd R) K:=by
  rcases T.jI.2 with⟨k,s⟩|⟨b,N,Q,k,_⟩
  .exact⟨Á,0,by rwa[s]⟩
  .exact⟨_,_,k⟩
 have og:∀k,k<=fL kd R->g k<B.w.heap.size:=λk hk=>by
  by_cases s:k=0
  .subst s;exact L.fx _<|Ã T.N.fq
  .exact L.fx _<|Ã (T.I k Z hk).fq
 have oi:∀k,(Æ I (fL kd R) K).ownBlock=Â k->k<B.w.heap.size:=λk e=>L.fx _<|Ã (T.r k e).1;have oq:∀k,qv.ownBlock=Â k->k<B.w.heap.size:=λk e=>L.fx _<|Ã (T.C k e).1;apply fX (n:=20) L.r;iterate 4 w_go fB
 refine Ë λ_ _=> ?_;refine pb (V:=λp=>À<|Â ⟨p,0,Á⟩) (ob:=É #[Æ Á 0 0] 85) U U (by k_ne) L.r ajg (λw=>by go_simp) (λw=>by simp[go_sem]) λc m=> ?_;walk_nrm;have a:=mR (X:=fh) (ob:=É #[Æ Á 0 0] 85) L m;have s:hD (gG B c<|É #[Æ Á 0 0] 85) c.heap.size (É #[Æ Á 0 0] 85):=⟨Ç U,mQ⟩;have RV:B.w.heap.size<=c.heap.size:=m.r;generalize gG B c (É #[Æ Á 0 0] 85)=l5 at a s|-;generalize c.heap.size=z at s RV|-;clear m c;have RY:gi fh l l5:=RU.fg a;have aji:gi fh B l5:=ajh.fg a;replace r:=r.r a id;replace f:=f.r a id;have RZ:=RY.N C;have ajj:¬l5.q:=by rwa[RY.q]
 have atE:B.w.heap.size<=l5.w.heap.size:=a.I;clear a;have lbi:=RZ.fx z<|Ã s.fq;refine GJ (p:=z) (off:=0) (v:=Æ I (fL kd R) K) (u:=Æ Á 0 0) U U (by k_ne) RZ.r ajj s.fq (s.C U) (by simp[î,s.I]) U (λw o F=>by go_simp) (λw o F=>by simp[go_sem,á _ _ _ _ _ _ (show Ø (Æ I (fL kd R) K)=Ò from rfl),o,F]) ?_;have a:=Ku (X:=λb=>b=z) (p:=z) (w':=l5.w.setCell ⟨z,0,Á⟩<|Æ I (fL kd R) K) RZ (fG.fU _ _) s.fq U jT λj E=>lh E;replace s:hD ({l5 with w:=l5.w.setCell ⟨z,0,Á⟩ (Æ I (fL kd R) K)}:fe) z (É #[Æ I (fL kd R) K] 85):=⟨s.fq,by show(l5.w.setCell ⟨z,0,Á⟩<|Æ I (fL kd R) K).heap[z]?=_;unfold þ;simp[í,s.I]⟩;generalize({l5 with w:=l5.w.setCell ⟨z,0,Á⟩ (Æ I (fL kd R) K)}:fe)=l6 at a s|-;have R0:gi fh l l6:=RY.vz a λj E e=>by have:=C.fx j E;omega
 have ajk:gi fh B l6:=aji.vz a λj E e=>by have:=L.fx j E;omega
 replace r:=r.r a Z;replace f:=f.r a Z;have R1:=R0.N C;have ajl:¬l6.q:=by rwa[R0.q]
 have atF:l5.w.heap.size<=l6.w.heap.size:=a.I;clear a;apply fX (n:=20) R1.r;iterate 5 w_go fB
 refine Ë λ_ _=> ?_;refine pb (V:=λp=>À<|Â ⟨p,0,Á⟩) (ob:=É #[Ê ê 0,Ê Ď 0] 97) U U (by k_ne) R1.r ajl (λw=>by go_simp) (λw=>by simp[go_sem]) λc m=> ?_;walk_nrm;have a:=mR (X:=fh) (ob:=É #[Ê ê 0,Ê Ď 0] 97) R1 m;have F:hD (gG l6 c<|É #[Ê ê 0,Ê Ď 0] 97) c.heap.size (É #[Ê ê 0,Ê Ď 0] 97):=⟨Ç U,mQ⟩;have pT:l6.w.heap.size<=c.heap.size:=m.r;generalize gG l6 c (É #[Ê ê 0,Ê Ď 0] 97)=l7 at a F|-;generalize c.heap.size=D at F pT|-;clear m c;have R2:gi fh l l7:=R0.fg a;have ajm:gi fh B l7:=ajk.fg a;replace r:=r.r a id;replace f:=f.r a id;replace s:=s.r a id;have KR:=R2.N C;have ajn:¬l7.q:=by rwa[R2.q]
 have atG:l6.w.heap.size<=l7.w.heap.size:=a.I;clear a;have atH:=KR.fx D<|Ã F.fq;apply fX (n:=20) KR.r;iterate 4 w_go fB
 u_call Ħ fQ Μ fB hF
 iterate 2 w_go fB
 refine Ë λ_ _=> ?_;refine pb (V:=λp=>À<|Â ⟨p,0,Á⟩) (ob:=É #[À<|Â ⟨D,0,Á⟩] 162) U U (by k_ne) KR.r ajn (λw=>by go_simp) (λw=>by simp[go_sem]) λc m=> ?_;walk_nrm;have a:=mR (X:=fh) (ob:=É #[À<|Â ⟨D,0,Á⟩] 162) KR m;have N:hD (gG l7 c<|É #[À<|Â ⟨D,0,Á⟩] 162) c.heap.size (É #[À<|Â ⟨D,0,Á⟩] 162):=⟨Ç U,mQ⟩;have BA:l7.w.heap.size<=c.heap.size:=m.r;generalize gG l7 c (É #[À<|Â ⟨D,0,Á⟩] 162)=l8 at a N|-;generalize c.heap.size=W at N BA|-;clear m c;have R3:gi fh l l8:=R2.fg a;have ajo:gi fh B l8:=ajm.fg a;replace r:=r.r a id;replace f:=f.r a id;replace s:=s.r a id;replace F:=F.r a id;have R4:=R3.N C;have ajp:¬l8.q:=by rwa[R3.q]
 have atI:l7.w.heap.size<=l8.w.heap.size:=a.I;clear a;have lbw:=R4.fx W<|Ã N.fq;refine pb (V:=λp=>À<|Â ⟨p,0,Á⟩) (ob:=É #[Ĉ (ù 48) #[] #[À<|Â ⟨z,0,Á⟩,À<|Â ⟨y,0,Á⟩]] 1) U U (by k_ne) R4.r ajp (λw=>by go_simp) (λw=>by simp[go_sem]) λc m=> ?_;walk_nrm;have a:=mR (X:=fh) (ob:=É #[Ĉ (ù 48) #[] #[À<|Â ⟨z,0,Á⟩,À<|Â ⟨y,0,Á⟩]] 1) R4 m;have Y:hD (gG l8 c<|É #[Ĉ (ù 48) #[] #[À<|Â ⟨z,0,Á⟩,À<|Â ⟨y,0,Á⟩]] 1) c.heap.size (É #[Ĉ (ù 48) #[] #[À<|Â ⟨z,0,Á⟩,À<|Â ⟨y,0,Á⟩]] 1):=⟨Ç U,mQ⟩;have KJ:l8.w.heap.size<=c.heap.size:=m.r;generalize gG l8 c (É #[Ĉ (ù 48) #[] #[À<|Â ⟨z,0,Á⟩,À<|Â ⟨y,0,Á⟩]] 1)=l9 at a Y|-;generalize c.heap.size=bf at Y KJ|-;clear m c;have KS:gi fh l l9:=R3.fg a;have ajq:gi fh B l9:=ajo.fg a;replace r:=r.r a id;replace f:=f.r a id;replace s:=s.r a id;replace F:=F.r a id;replace N:=N.r a id;have Hb:=KS.N C;have Zi:¬l9.q:=by rwa[KS.q]
 have atJ:l8.w.heap.size<=l9.w.heap.size:=a.I;clear a;have lbf:=Hb.fx bf<|Ã Y.fq;apply fX (n:=20) Hb.r;iterate 3 w_go fB
 refine Ë λ_ _=> ?_;apply o0 (x:=⟨W,0,Á⟩) U U (by k_ne) Hb.r Zi (Ã<|Ã N.fq) (N.C U) (λw h=>by go_simp) (λw h=>by simp[go_sem,h]);walk_nrm;apply fX (n:=20) Hb.r;u_call qx.f_add (nm_add Lk) addFn fB hF;refine Ë λ_ _=> ?_;refine Y5 qx Hb Zi (by rwa[KS.d]) F.fq F.I U U λQ hC=> ?_;walk_nrm;have a:gi (λb=>b=D) l9 Q:=hC.r;replace F:hD Q D (É #[Ê ê 4294967296,Ê Ď 0] 97):=⟨hC.r.O D F.fq,hC.C⟩;have R5:gi fh l Q:=KS.vz a λj E e=>by have:=C.fx j E;omega
 have ajr:gi fh B Q:=ajq.vz a λj E e=>by have:=L.fx j E;omega
 replace r:=r.r a Z;replace f:=f.r a Z;replace s:=s.r a Z;replace N:=N.r a Z;replace Y:=Y.r a Z;have ajs:=R5.N C;have atK:¬Q.q:=by rwa[R5.q]
 have atL:l9.w.heap.size<=Q.w.heap.size:=a.I;clear a;apply fX (n:=20) ajs.r;iterate 3 w_go fB
 refine Ë λ_ _=> ?_;refine .fC λvx xm=> ?_;have at9:∀{b:Nat} {o:Ÿ},hD Q b o->hD ({Q with w:=vx}:fe) b o:=λh=>⟨h.fq,(xm.I _<|Ã h.fq).trans h.I⟩;exact hJ g l3 {Q with w:=vx} _ (Æ I (fL kd R) K) qv H y z D W bf _ ⟨R5.G xm,T.vz<|ajr.G xm,at9 r,at9 f,at9 s,at9 F,at9 N,at9 Y,⟨Z,Z,Z⟩,λk hk=>by have:=og k hk;omega,λk e=>by have:=oi k e;omega,λk e=>by have:=oq k e;omega,⟨Z,Z,Z⟩⟩ ⟨U,U,U,U,U,U⟩
end
def ajt{md:ý}{listed:Array Bool}(h:Û md Q listed=[]):∀(a t:Nat),ë md Q a t listed []=[]:=by
 intro a t;cases a with
 |zero=>rfl
 |succ a=>
  simp only[ë];change(match(Û md Q listed)[t%(Û md Q listed).length]? with
   |some i=>ë md Q a (t/(Û md Q listed).length) (listed.setIfInBounds i Ò) [i]
   |none=>[].reverse)=[]
  rw[h];rfl
section
variable{J:Jd}{l:fe}
def Zj{md:ý}(I:Array Bool->ŏ->fe->Prop) (p:∀b a l i k,I b a l->b.size=Q.size->i∈Û md Q b->(Û md Q (b.setIfInBounds i Ò)=[]->k=[])->fj P yQ (λg m=>(∃h,m=G (f.at h<|Ñ Q k::L) qX/\I (b.setIfInBounds i Ò) h g)\/fj P yQ J g m) l (G (f.at a<|Ñ Q (i::k)::L) qX)) (o:∀b a l,I b a l->b.size=Q.size->Û md Q b=[]->fj P yQ J l (G (f.at a<|Ñ Q []::L) qX)): ∀(c t:Nat) (b:Array Bool) (a:ŏ) (l:fe),b.size=Q.size->jo b<=c->I b a l->fj P yQ J l (G (f.at a<|Ñ Q (ë md Q c t b [])::L) qX):=by
 intro c
 induction c with
 |zero=>
  intro t b a l d q j;simpa[ë]using o b a l j d<|QP d Z
 |succ c r=>
  intro t b a l d q j;simp only[ë];change fj P yQ J l (G (f.at a (Ñ Q (match(Û md Q b)[t%(Û md Q b).length]? with
   |some i=>ë md Q c (t/(Û md Q b).length) (b.setIfInBounds i Ò) [i]
   |none=>[].reverse)::L)) qX)
  cases n:(Û md Q b)[t%(Û md Q b).length]? with
  |none=>
   have s:Û md Q b=[]:=by
    cases u:Û md Q b with
    |nil=>rfl
    |cons x e=>
     rw[u]at n;have v:t%(x::e).length<(x::e).length:=ĵ _ fp;simp at n;simp at v;omega
   simpa using o b a l j d s
  |some i=>
   simp only[];rw[linearise_go_acc,List.reverse_singleton,List.singleton_append];have x:=ħ n;refine(p b a l i _ j d x λe=>ajt e _ _).lI ?_;rintro g m (⟨h,rfl,hI'⟩|hW)
   .exact r _ _ h g (by simpa using d) (by have:=Ki (mem_ready.1 x).1;omega) hI'
   .exact hW
def aju{id:Nat}(I:Array Bool->ŏ->fe->Prop)(o:jP l)(p:¬l.q) (g:∀c,fG l l.w c->I (Array.replicate Q.size Ì) y {l with w:={c with drawn:=c.drawn+1}}) (h:∀d b y l i e,I b y l->b.size=Q.size->i∈Û d Q b->(Û d Q (b.setIfInBounds i Ò)=[]->e=[])->fj P yQ (λj k=>(∃m,k=G (f.at m<|Ñ Q e::L) qX/\I (b.setIfInBounds i Ò) m j)\/fj P yQ J j k) l (G (f.at y<|Ñ Q (i::e)::L) qX)) (n:∀d b y l,I b y l->b.size=Q.size->Û d Q b=[]->fj P yQ J l (G (f.at y<|Ñ Q []::L) qX)): fj P yQ J l (G (f.at y<|ö (ä id Q Ò)::L) qX):=by
 refine .mk U λc r=>⟨_,_,_,_,stepG_region_draw,QO (lV o r) p,?_⟩;unfold Region.schedule;split
 .exact Zj I (h _) (n _) _ _ _ _ _ fp (by rw[Dx];exact Ú _)<|g c r
 .exact Zj I (h _) (n _) _ _ _ _ _ fp (by rw[Dx];exact Ú _)<|g c r
end
def BK:å:=⟨Â 15,ę<|Ù 1,100, "work.go:72",#[],Á⟩
def BL:å:=⟨Â 16,ę<|Ù 4,3, "work.go:72",#[],Á⟩
def BM:å:=⟨Â 17,ę<|Ù 1,100, "work.go:72",#[],Á⟩
def xo:å:=⟨Â 18,Ě {callee:=Ŕ .len,args:=#[Ù 17],argTypes:=#[100]},3, "work.go:72",#[⟨2,Ü⟩],Á⟩
def uq:å:=⟨Â 19,Λ .rem 3 (Ù 16) (Ù 18) 3,3, "work.go:72",#[⟨1,Ü⟩,⟨3,Ü⟩],Á⟩
def uu:å:=⟨Â 20,ő 100 (Ù 15)<|Ù 19,0, "work.go:72",#[⟨0,Ü⟩,⟨4,Ü⟩],Á⟩
def xp:å:=⟨Â 21,ć 101<|Ù 20,101, "work.go:72",#[⟨5,Ü⟩],Á⟩
def BN:å:=⟨Â 22,ć 155<|Ù 5,155, "work.go:72",#[],Á⟩
def xq:å:=⟨Á,.send (Ù 21)<|Ù 22,0, "work.go:72",#[⟨6,Ü⟩,⟨7,Ü⟩],Á⟩
def nR:Array å:=#[BK,BL,BM,xo,uq,uu,xp,BN,xq]
noncomputable def KT:Ę:=kV Ŗ [1,1,0,0]
noncomputable def Zk:Ę:=kV Ŗ [1]
noncomputable def KU:Ę:=kV Ŗ [0,1,0,0]
noncomputable def BO (t:Array Ï) (a:List é):Ý:=G ((base 52).at ⟨t,[]⟩ [ö KU,ą KU,ô 0,ö Zk]) a
structure DT(dv:Ï)(qb:Option â)(q cq i:Nat)(t:Array Ï):Prop where
 r:t.size=32
 C:t[1]?=Â dv
 t8:t[8]?=Â (Æ qb q cq)
 M:t[9]?=Â (Ê Î q)
 I:t[10]?=Â (Ê Î i)
def Hc(t:Array Ï)(h:t.size=32):∃a b c d e f g i j k l m n o p q r s u v w x y z B C D E F G H I:Ï,t=#[a,b,c,d,e,f,g,i,j,k,l,m,n,o,p,q,r,s,u,v,w,x,y,z,B,C,D,E,F,G,H,I]:=by obtain⟨_,rfl⟩:=ug t h;exact⟨_,_,_,_,_,_,_,_,_,_,_,_,_,_,_,_,_,_,_,_,_,_,_,_,_,_,_,_,_,_,_,_,U⟩
def uw(c n i a d:Nat)(b tk:Ï)(_:Unit):Nat->Ï
 |0=>b
 |1=>Ê Î i
 |2=>b
 |3=>Ê Î n
 |4=>Ê Î a
 |5=>À<|Â ⟨c,a,Á⟩
 |6=>è<|Â d
 |7=>tk
 |_=>Å
def KV(a:fe)(listed:Array Bool)(_:Unit)(l:fe):Prop:=iD fh a l/\¬listed.getD 8 Ì=Ò
section
variable{J N:Jd}{p:fe}{g s:Nat}{u:Option â}
def ajv(D9:gy p)(hq:¬p.q)(ht:d.size=32)(Bf:d[1]?=Â (Æ (Â ⟨j9,0,Á⟩) n j))(GG:d[4]?=Â (Ê Î i))(QW:d[5]?=Â (À<|Â ⟨g,0,Á⟩))(z:p.O g)(T:p.O j9)(hn:0<n)(vB:n<1000)(hi1:i<1000) (Zl:i%n=j6) (V:p.w.cell? ⟨j9,j6,Á⟩=Â (è<|Â m)) (W:p.w.cell? ⟨g,0,Á⟩=Â (À u)) (X:p.w.cell? ⟨g,1,Á⟩=Â (Ê Î s)) (Y:p.w.cell? ⟨g,2,Á⟩=Â (À<|Â ⟨j7,0,Á⟩)) (c3:p.w.cell? ⟨g,3,Á⟩=Â (À O)) (hJ:∀l H,iD fh p l->H.size=32->(∀c,c<15->H[c]?=d[c]?)->Ax Ä Ò m (Đ #[À u,Ê Î s,À<|Â ⟨j7,0,Á⟩,À O]) N l (G ((base 52).at ⟨H,[]⟩<|Ñ nR [8]::L) qX)->J l (G ((base 52).at ⟨H,[]⟩<|Ñ nR [8]::L) qX)) (hN:∀l H,iD fh p l->H.size=32->(∀c,c<15->H[c]?=d[c]?)->fj Ä Ò N l (G ((base 52).at ⟨H,[]⟩<|Ñ nR []::L) qX)) (md:ý) (listed:Array Bool) (a:ŏ) (l:fe) (i':Nat) (rest:List Nat) (hI:II nR d (uw j9 n i j6 m (Æ (Â ⟨j9,0,Á⟩) n j)<|Đ #[À u,Ê Î s,À<|Â ⟨j7,0,Á⟩,À O]) (KV p) listed a l) (j5:listed.size=nR.size) (C:i'∈Û md nR listed) (Hd:Û md nR (listed.setIfInBounds i' Ò)=[]->rest=[]): fj Ä Ò (λD F=>(∃Q,F=G ((base 52).at Q<|Ñ nR rest::L) qX/\II nR d (uw j9 n i j6 m (Æ (Â ⟨j9,0,Á⟩) n j)<|Đ #[À u,Ê Î s,À<|Â ⟨j7,0,Á⟩,À O]) (KV p) (listed.setIfInBounds i' Ò) Q D)\/fj Ä Ò J D F) l (G ((base 52).at a<|Ñ nR (i'::rest)::L) qX):=by
 let⟨x,t,S,h8⟩:=hI;have I:qu nR d.size=Ò:=by rw[ht];decide
 have gQ:=yV C;have K:=S.fx;have M:¬l.q:=by rwa[S.q]
 have lY:a.tmps[1]?=Â (Æ (Â ⟨j9,0,Á⟩) n j):=(t.C A).trans Bf;have BH:a.tmps[4]?=Â (Ê Î i):=(t.C A).trans GG;have uf:a.tmps[5]?=Â (À<|Â ⟨g,0,Á⟩):=(t.C A).trans QW;have y:∀b f v,p.O b->p.w.cell? ⟨b,f,Á⟩=Â v->gX l ⟨b,f,Á⟩/\l.w.cell? ⟨b,f,Á⟩=Â v:=λb f v E h=>⟨Ã<|Ã<|S.O b E,by rwa[gK<|S.r b<|Ã E]⟩;have P:∀{k:Nat},k≠8->∀B,fG l l.w B->KV p (listed.setIfInBounds k Ò) () {l with w:=B}:=λhm B r=>⟨S.N (λ_ q=>q.elim) r,by rwa[ç Ì hm]⟩;have ajw:j6<n:=by rw[<-Zl];exact ĵ _ hn
 have ajx:(j6:Int)<(n:Int):=Z
 have He:¬(n:Int)=0:=Z
 have ajy:¬n=0:=Z
 have htm:Int.tmod (i:Int) (n:Int)=(j6:Int):=by rw[Int.tmod_eq_emod_of_nonneg Z,<-Zl];simp
 have oA:Î.wrap (j6:Int)=(j6:Int):=Bj Z Z;have KW:nR.size=9:=A
 rw[KW]at gQ;match i',gQ with
 |0,_=>
  refine(il (o:=BK) I t U U C (by k_ne) K M (λB r=> ?_) (λB r e D=> ?_)<|P A).fO λ_ _ h=>Ã h
  .simp only[uw,BK];go_simp
  .simp[go_sem,BK,lY]at D
 |1,_=>
  refine(il (o:=BL) I t U U C (by k_ne) K M (λB r=> ?_) (λB r e D=> ?_)<|P A).fO λ_ _ h=>Ã h
  .simp only[uw,BL];go_simp
  .simp[go_sem,BL,BH]at D
 |2,_=>
  refine(il (o:=BM) I t U U C (by k_ne) K M (λB r=> ?_) (λB r e D=> ?_)<|P A).fO λ_ _ h=>Ã h
  .simp only[uw,BM];go_simp
  .simp[go_sem,BM,lY]at D
 |3,_=>
  have F:a.tmps[17]?=Â (Æ (Â ⟨j9,0,Á⟩) n j):=t.r 2 BM 17 U (ic (o:=xo) C U U) U;refine(il (o:=xo) I t U U C (by k_ne) K M (λB r=> ?_) (λB r e D=> ?_)<|P A).fO λ_ _ h=>Ã h
  .simp only[uw,xo];go_simp
  .simp[go_sem,xo,F]at D
 |4,_=>
  have F:a.tmps[16]?=Â (Ê Î i):=t.r 1 BL 16 U (ic (o:=uq) C U U) U;have Q:a.tmps[18]?=Â (Ê Î n):=t.r 3 xo 18 U (ic (o:=uq) C U U) U;refine(il (o:=uq) I t U U C (by k_ne) K M (λB r=> ?_) (λB r e D=> ?_)<|P A).fO λ_ _ h=>Ã h
  .simp only[uw,uq];go_simp
  .simp[go_sem,uq,F,Q,He,ajy,htm,oA]at D
 |5,_=>
  have F:a.tmps[15]?=Â (Æ (Â ⟨j9,0,Á⟩) n j):=t.r 0 BK 15 U (ic (o:=uu) C U U) U;have Q:a.tmps[19]?=Â (Ê Î j6):=t.r 4 uq 19 U (ic (o:=uu) C U U) U;refine(il (o:=uu) I t U U C (by k_ne) K M (λB r=> ?_) (λB r e D=> ?_)<|P A).fO λ_ _ h=>Ã h
  .simp only[uw,uu];go_simp
  .simp[go_sem,uu,F,Q,ajw,ajx]at D
 |6,_=>
  have Q:a.tmps[20]?=Â (À<|Â ⟨j9,j6,Á⟩):=t.r 5 uu 20 U (ic (o:=xp) C U U) U;refine(il (o:=xp) I t U U C (by k_ne) K M (λB r=> ?_) (λB r e D=> ?_)<|P A).fO λ_ _ h=>Ã h
  .have F:=((y j9 _ _ T V).1.r r).trans (y j9 _ _ T V).2;simp only[uw,xp];go_simp
  .have F:=((y j9 _ _ T V).1.r r).trans (y j9 _ _ T V).2;have hee:e=⟨û ⟨j9,j6,Á⟩,Ì,Ì⟩:=by simp[go_sem,xp,F,Q]at D;exact D
   subst hee;exact(y j9 _ _ T V).1.C
 |7,_=>
  refine(il (o:=BN) I t U U C (by k_ne) K M (λB r=> ?_) (λB r e D=> ?_)<|P A).fO λ_ _ h=>Ã h
  .have F:=((y g _ _ z W).1.r r).trans (y g _ _ z W).2;have Q:=((y g _ _ z X).1.r r).trans (y g _ _ z X).2;have qA:=((y g _ _ z Y).1.r r).trans (y g _ _ z Y).2;have um:=((y g _ _ z c3).1.r r).trans (y g _ _ z c3).2;simp only[uw,BN];go_simp
  .have F:=((y g _ _ z W).1.r r).trans (y g _ _ z W).2;have Q:=((y g _ _ z X).1.r r).trans (y g _ _ z X).2;have qA:=((y g _ _ z Y).1.r r).trans (y g _ _ z Y).2;have um:=((y g _ _ z c3).1.r r).trans (y g _ _ z c3).2;simp[go_sem,BN,uf,F,Q,qA,um]at D;rcases D with rfl|rfl|rfl|rfl
   .exact(y g _ _ z W).1.C
   .exact(y g _ _ z X).1.C
   .exact(y g _ _ z Y).1.C
   .exact(y g _ _ z c3).1.C
 |8,_=>
  have d6:=ic (j:=6) (o:=xq) C U U;have d7:=ic (j:=7) (o:=xq) C U U;have Re:a.tmps[21]?=Â (è<|Â m):=t.r 6 xp 21 U d6 U;have Gw:a.tmps[22]?=Â (Đ #[À u,Ê Î s,À<|Â ⟨j7,0,Á⟩,À O]):=t.r 7 BN 22 U d7 U;have d5:=t.I (j:=5) (o:=xp) U d6 U;have d0:=t.I (j:=0) (o:=uu) U d5 U;have d4:=t.I (j:=4) (o:=uu) U d5 U;have d1:=t.I (j:=1) (o:=uq) U d4 U;have d3:=t.I (j:=3) (o:=uq) U d4 U;have d2:=t.I (j:=2) (o:=xo) U d3 U;have pT:Û md nR (listed.setIfInBounds 8 Ò)=[]:=by
   rw[List.eq_nil_iff_forall_not_mem];intro f hj;have Hf:=yV hj;have F:=QS hj;rw[KW]at Hf;by_cases Q:f=8
   .subst Q;have D:8<listed.size:=by rw[j5,KW];decide
    simp[D]at F
   .rw[ç Ò<|Ne.symm Q]at F;have D:=xb F;match f,Hf,Q with
    |0,_,_=>exact D d0
    |1,_,_=>exact D d1
    |2,_,_=>exact D d2
    |3,_,_=>exact D d3
    |4,_,_=>exact D d4
    |5,_,_=>exact D d5
    |6,_,_=>exact D d6
    |7,_,_=>exact D d7
    |8,_,h=>exact h U
  obtain rfl:=Hd pT;let⟨F,ds⟩:=a;obtain rfl:ds=[]:=t.M;have Hg:F.size=32:=t.S.trans ht;have KX:∀c,c<15->F[c]?=d[c]?:=λc hd=>t.b c λf o E _ e=>by
   have Hf:=(æ.1 E).1;rw[KW]at Hf;match f,Hf with
   |0,_=>
    have D:o=BK:=(Ó<|show Â BK=Â o from E).symm;rw[D]at e;have Q:15=c:=Ó (show Â 15=Â c from e);omega
   |1,_=>
    have D:o=BL:=(Ó<|show Â BL=Â o from E).symm;rw[D]at e;have Q:16=c:=Ó (show Â 16=Â c from e);omega
   |2,_=>
    have D:o=BM:=(Ó<|show Â BM=Â o from E).symm;rw[D]at e;have Q:17=c:=Ó (show Â 17=Â c from e);omega
   |3,_=>
    have D:o=xo:=(Ó<|show Â xo=Â o from E).symm;rw[D]at e;have Q:18=c:=Ó (show Â 18=Â c from e);omega
   |4,_=>
    have D:o=uq:=(Ó<|show Â uq=Â o from E).symm;rw[D]at e;have Q:19=c:=Ó (show Â 19=Â c from e);omega
   |5,_=>
    have D:o=uu:=(Ó<|show Â uu=Â o from E).symm;rw[D]at e;have Q:20=c:=Ó (show Â 20=Â c from e);omega
   |6,_=>
    have D:o=xp:=(Ó<|show Â xp=Â o from E).symm;rw[D]at e;have Q:21=c:=Ó (show Â 21=Â c from e);omega
   |7,_=>
    have D:o=BN:=(Ó<|show Â BN=Â o from E).symm;rw[D]at e;have Q:22=c:=Ó (show Â 22=Â c from e);omega
   |8,_=>
    have D:o=xq:=(Ó<|show Â xq=Â o from E).symm;rw[D]at e;cases(show Á=Â c from e)
  refine .fC λB r=>Ç (.fC λwH D=> ?_);have Q:iD fh p ({l with w:=wH}:fe):=S.N (λ_ q=>q.elim)<|r.fg ⟨D.r,D.I,D.N,D.Y,D.S⟩;refine hJ _ F Q Hg KX ⟨U,U,λD=>⟨ñ #[],?_⟩,?_⟩
  .refine(Ż (cases:=#[scase m (Đ #[À u,Ê Î s,À<|Â ⟨j7,0,Á⟩,À O])<|ñ #[]]) (blocking:=Ò) (shape:=.send) (w':=D) (o:=xq) rfl rfl (by k_ne) ?_).trans ?_
   .simp[go_sem,xq,ĉ,scase,ĥ,Re,Gw]
   .have:ŗ Ä (base 52).fn ⟨F,[]⟩ xq D=#[]:=by
     unfold ŗ;simp[go_sem,xq,ĉ,ĥ,Re,Gw,Ī]
    rw[this]
  .have e:({G ((base 52).at ⟨F,[]⟩<|Ñ nR [8]::L) qX with frame:=(G ((base 52).at ⟨F,[]⟩<|Ñ nR [8]::L) qX).frame.finish Å}:Ý)=G ((base 52).at ⟨F,[]⟩<|Ñ nR []::L) qX:=by
    have:(G ((base 52).at ⟨F,[]⟩<|Ñ nR [8]::L) qX).frame.finish Å=(base 52).at (Ο ⟨F,[]⟩ Á Å) (Ñ nR []::L):=Ģ _ _ _ _ _ _ _;rw[this];rfl
   rw[e];exact hN _ F Q Hg KX
 |n+9,h=>exact absurd h Z
end
section
variable{N:Jd}{l:fe}{f:Option â}
theorem ajz(s:gy l)(K:¬l.q)(G:DT (Æ (Â ⟨J,0,Á⟩) n j) (Â ⟨j6,0,Á⟩) b m i d)(hiq:i<b)(Bu:b<1000)(hn:0<n)(vB:n<1000)(Zm:l.O J)(cd:l.w.cell? ⟨J,i%n,Á⟩=Â (è<|Â k))(R6:l.M j6) (i0:l.w.cell? ⟨j6,i*4,Á⟩=Â (À f)) (i1:l.w.cell? ⟨j6,i*4+1,Á⟩=Â (Ê Î j7)) (i2:l.w.cell? ⟨j6,i*4+2,Á⟩=Â (À<|Â ⟨j9,0,Á⟩)) (i3:l.w.cell? ⟨j6,i*4+3,Á⟩=Â (À O)) (hN:∀t H,iD fh l t->DT (Æ (Â ⟨J,0,Á⟩) n j) (Â ⟨j6,0,Á⟩) b m (i+1) H->fj Ä Ò N t (BO H qX)): fj Ä Ò (Ax Ä Ò k (Đ #[À f,Ê Î j7,À<|Â ⟨j9,0,Á⟩,À O]) N) l (BO d qX):=by
 obtain⟨y0,y1,y2,y3,y4,y5,y6,y7,y8,y9,xd,ze,xe,rp,sF,qy,vq,vr,uh,ui,uj,sG,sH,sI,rh,sB,ri,oY,n7,pM,pN,pO,rfl⟩:=Hc d G.r;obtain rfl:y1=Æ (Â ⟨J,0,Á⟩) n j:=by simpa using G.C
 obtain rfl:y8=Æ (Â ⟨j6,0,Á⟩) b m:=by simpa using G.t8
 obtain rfl:y9=Ê Î b:=by simpa using G.M
 obtain rfl:xd=Ê Î i:=by simpa using G.I
 have ru:∀y:â,False->l.r y:=λy ha=>ha.elim;have atM:(i:Int)<(b:Int):=Z
 have hF:True:=trivial;simp only[BO];conv in KU=>whnf
 apply fX (n:=30) s.r;repeat w_go fB
 refine Ë λ_ _=> ?_;have g:∀c,gX l ⟨j6,c,Á⟩:=λc=>Ã R6;refine oD (v:=Đ #[À f,Ê Î j7,À<|Â ⟨j9,0,Á⟩,À O]) U U (by k_ne) s.r K (λo r=> ?_) (λo r e h=> ?_) ?_
 .have u:=((g<|i*4).r r).trans i0;have z:=((g<|i*4+1).r r).trans i1;have B:=((g<|i*4+2).r r).trans i2;have C:=((g<|i*4+3).r r).trans i3;go_simp
 .have u:=((g<|i*4).r r).trans i0;have z:=((g<|i*4+1).r r).trans i1;have B:=((g<|i*4+2).r r).trans i2;have C:=((g<|i*4+3).r r).trans i3;simp[go_sem,u,z,B,C]at h;rcases h with rfl|rfl|rfl|rfl
  .exact(g _).C
  .exact(g _).C
  .exact(g _).C
  .exact(g _).C
 walk_nrm;refine Gx (ob:=É #[À Á,Ê Î 0,À Á,À Á] 155) U U (by k_ne) s.r K (λw=>by go_simp) (λw=>by simp[go_sem]) λo X=> ?_;walk_nrm;have D:iD fh l (gG l o<|É #[À Á,Ê Î 0,À Á,À Á] 155):=Kp s ru X;have L:(gG l o<|É #[À Á,Ê Î 0,À Á,À Á] 155).w.heap[o.heap.size]?=Â (É #[À Á,Ê Î 0,À Á,À Á] 155):=mQ;have sJ:l.w.heap.size<=o.heap.size:=X.r;have q:(gG l o<|É #[À Á,Ê Î 0,À Á,À Á] 155).O o.heap.size:=Ç U;generalize gG l o (É #[À Á,Ê Î 0,À Á,À Á] 155)=l₁ at D L q|-;generalize o.heap.size=tb at L q sJ|-;apply fX (n:=3) D.fx;w_go fB;refine Ë λ_ _=> ?_;refine vm U U (by k_ne) λr P=> ?_;have E:r.heap[tb]?=_:=(P.I tb<|Ã q).trans L;have u:r.cell? ⟨tb,0,Á⟩=Â (À Á):=by simp[Ö,E]
 have z:r.cell? ⟨tb,1,Á⟩=Â (Ê Î 0):=by simp[Ö,E]
 have B:r.cell? ⟨tb,2,Á⟩=Â (À Á):=by simp[Ö,E]
 have C:r.cell? ⟨tb,3,Á⟩=Â (À Á):=by simp[Ö,E]
 have hz:∀c,r.frozen? ⟨tb,c,Á⟩=Ì:=λc=>by simp[î,E]
 go_simp;refine⟨{l₁ with w:=iT r tb (À f) (Ê Î j7) (À<|Â ⟨j9,0,Á⟩) (À O)},Kq (p:=tb) (lV D.fx P) (by rwa[D.q]) q xc (λc x=>yZ x) ⟨U,U,U⟩ λe h=> ?_,?_⟩
 .have a:=đ h;have e:∀c,pR l₁ ⟨tb,c,Á⟩:=λc=>Ã q;simp[go_sem,á _ _ _ _ _ _ (show Ø (À f)=Ò from rfl),á _ _ _ _ _ _ (show Ø (À<|Â ⟨j9,0,Á⟩)=Ò from rfl),á _ _ _ _ _ _ (show Ø (À O)=Ò from rfl),u,z,B,C,hz]at a;rcases a with rfl|rfl|rfl|rfl
  .exact(e _).r
  .exact(e _).r
  .exact(e _).r
  .exact(e _).r
 let⟨Q,S,T,V⟩:=Q6 (v0:=À f) (v1:=Ê Î j7) (v2:=À<|Â ⟨j9,0,Á⟩) (v3:=À O) u z B C;have F:=Q7 (w':=iT r tb (À f) (Ê Î j7) (À<|Â ⟨j9,0,Á⟩)<|À O) s ru D P sJ xc λc x=>yZ x;have Bl:({l₁ with w:=iT r tb (À f) (Ê Î j7) (À<|Â ⟨j9,0,Á⟩) (À O)}:fe).O tb:=q;replace Q:({l₁ with w:=iT r tb (À f) (Ê Î j7) (À<|Â ⟨j9,0,Á⟩) (À O)}:fe).w.cell? ⟨tb,0,Á⟩=_:=Q;replace S:({l₁ with w:=iT r tb (À f) (Ê Î j7) (À<|Â ⟨j9,0,Á⟩) (À O)}:fe).w.cell? ⟨tb,1,Á⟩=_:=S;replace T:({l₁ with w:=iT r tb (À f) (Ê Î j7) (À<|Â ⟨j9,0,Á⟩) (À O)}:fe).w.cell? ⟨tb,2,Á⟩=_:=T;replace V:({l₁ with w:=iT r tb (À f) (Ê Î j7) (À<|Â ⟨j9,0,Á⟩) (À O)}:fe).w.cell? ⟨tb,3,Á⟩=_:=V;generalize({l₁ with w:=iT r tb (À f) (Ê Î j7) (À<|Â ⟨j9,0,Á⟩) (À O)}:fe)=l₂ at Q S T V F Bl|-;clear L q D E u z B C hz P r l₁ X o;have W:=F.G s;have pS:¬l₂.q:=by rwa[F.q]
 have cd2:l₂.w.cell? ⟨J,i%n,Á⟩=Â (è<|Â k):=(gK<|F.r J<|Ã Zm).trans cd;apply fX (n:=5) W.r;w_go fB;refine Ë λ_ _=> ?_;refine aju (II nR #[y0,Æ (Â ⟨J,0,Á⟩) n j,y2,y3,Ê Î i,À<|Â ⟨tb,0,Á⟩,y6,y7,Æ (Â ⟨j6,0,Á⟩) b m,Ê Î b,Ê Î i,ŝ Ò,Ê Î i,À<|Â ⟨j6,i*4,Á⟩,Đ #[À f,Ê Î j7,À<|Â ⟨j9,0,Á⟩,À O],qy,vq,vr,uh,ui,uj,sG,sH,sI,rh,sB,ri,oY,n7,pM,pN,pO] (uw J n i (i%n) k (Æ (Â ⟨J,0,Á⟩) n j)<|Đ #[À f,Ê Î j7,À<|Â ⟨j9,0,Á⟩,À O])<|KV l₂) W.r pS (λa x=> ?_) (λY listed a t i' rest hI I e Hd=>ajv (J:=Ax Ä Ò k (Đ #[À f,Ê Î j7,À<|Â ⟨j9,0,Á⟩,À O]) N) (N:=N) W pS U U U U Bl (F.O J Zm) hn vB Z U cd2 Q S T V (λl H _ _ _ h=>h) (λt H hA hs h=> ?_) Y listed a t i' rest hI I e Hd) λY listed a kn hI I zf=> ?_
 .exact⟨(),lz.G _ _ _,(iD.fU W.r).N (λ_ b=>b.elim) ⟨x.r,x.I,x.N,x.Y,x.S⟩,A⟩
 .have x:=F.fg hA;have a:=(h 1 A).trans (show _=Â (Æ (Â ⟨J,0,Á⟩) n j)from U);have o8:=(h 8 A).trans (show _=Â (Æ (Â ⟨j6,0,Á⟩) b m)from U);have o9:=(h 9 A).trans (show _=Â (Ê Î b)from U);have o10:=(h 10 A).trans (show _=Â (Ê Î i)from U);clear h;obtain⟨x0,x1,x2,x3,x4,x5,x6,x7,x8,x9,YH,x11,x12,x13,x14,x15,x16,x17,x18,x19,x20,x21,x22,x23,x24,x25,x26,x27,x28,x29,x30,x31,rfl⟩:=Hc H hs;obtain rfl:x1=Æ (Â ⟨J,0,Á⟩) n j:=by simpa using a
  obtain rfl:x8=Æ (Â ⟨j6,0,Á⟩) b m:=by simpa using o8
  obtain rfl:x9=Ê Î b:=by simpa using o9
  obtain rfl:YH=Ê Î i:=by simpa using o10
  apply fX (n:=9) x.fx;iterate 7 w_go fB
  refine Ë λ_ _=> ?_;refine hN t _ x ⟨U,U,U,U,?_⟩;simp;grind [Bj]
 .let⟨x,a,h,h8⟩:=hI;have pT:∀i∈ã 9,listed.getD i Ì=Ò:=by
   cases Y
   .exact o5 zf I (ã 9) [] fQ λi e=>by cases e
   .exact o5 zf I (ã 9) [] fQ λi e=>by cases e
   .exact o5 zf I (ã 9) [] fQ λi e=>by cases e
  grind
end
noncomputable def BP (t:Array Ï) (a:List é):Ý:=G ((base 52).at ⟨t,[]⟩ [ö KT,ą KT,ô 2]) a
structure ET(dv:Ï)(n j:Nat)(t:Array Ï):Prop where
 r:t.size=32
 ajA:t[24]?=Â dv
 C:t[25]?=Â (Ê Î n)
 I:t[26]?=Â (Ê Î j)
def Hh(t:Array Ï):é:=(base 37).at ⟨t,[]⟩ [Ñ Ky [2],ö<|(ä 13 Kz Ì).seq KA]
def Ea(t:Array Ï)(a:List é):Ý:=G ((base 37).at ⟨t,[]⟩ [Ñ Kz [],ö KA]) a
structure SE(ba all nQ:Nat)(t:Array Ï):Prop where
 r:t.size=49
 I:t[8]?=Â (À<|Â ⟨ba,0,Á⟩)
 C:t[11]?=Â (À<|Â ⟨nQ,0,Á⟩)
 Ro:t[12]?=Â (À<|Â ⟨all,0,Á⟩)
section
variable{J a N:Jd}{l:fe}{t:Array Ï}{ba all nQ:Nat}{dv:Ï}
def ajB(e:jP l)(a:ST ba all nQ n n (Æ O k j9) dv t)(f:∀b d,DT dv O k j9 0 b->SE ba all nQ d->fj Ä Ò J l (BO b<|Hh d::qX)):fj Ä Ò J l (Br t qX):=by
 obtain⟨p,q,r,s,u,v,w,x,g,y,h,i,j,c,z,B,C,D,E,F,G,H,I,K,L,M,N,m,o,P,Q,S,T,V,W,X,Y,tP,tR,tS,tT,tU,tV,tW,tX,tY,pP,pQ,xa,rfl⟩:=G0 t a.r;obtain rfl:g=À (Â ⟨ba,0,Á⟩):=by simpa using a.a
 obtain rfl:h=Æ O k j9:=by simpa using a.C
 obtain rfl:i=À (Â ⟨nQ,0,Á⟩):=by simpa using a.I
 obtain rfl:j=À (Â ⟨all,0,Á⟩):=by simpa using a.M
 obtain rfl:dv=c:=(show c=dv by simpa using a.N).symm;obtain rfl:m=Ê Î n:=by simpa using a.S
 obtain rfl:o=Ê Î n:=by simpa using a.Y
 have hF:True:=trivial;apply fX (n:=40) e;simp only[Br,D5,Rk];iterate 7 w_go fB
 simp only[KB,Ky];iterate 4 w_go fB
 u_call ŵ fQ Ŗ fB hF
 iterate 9 w_go fB
 refine Ë λ_ _=> ?_;exact f _ _ ⟨U,U,U,U,U⟩ ⟨U,U,U,U⟩
def ajC(d:jP l)(a:DT (Æ (Â ⟨j7,0,Á⟩) n b) O k j9 k t)(e:∀c,ET (Æ (Â ⟨j7,0,Á⟩) n b) n 0 c->fj Ä Ò J l (BP c qX)):fj Ä Ò J l (BO t qX):=by
 obtain⟨i,f,j,m,o,p,q,r,s,g,h,u,v,w,x,y,z,B,C,D,E,F,G,H,I,K,L,M,N,P,Q,S,rfl⟩:=Hc t a.r;obtain rfl:f=Æ (Â ⟨j7,0,Á⟩) n b:=by simpa using a.C
 obtain rfl:g=Ê Î k:=by simpa using a.M
 obtain rfl:h=Ê Î k:=by simpa using a.I
 have hF:True:=trivial;apply fX (n:=40) d;simp only[BO];conv in KU=>whnf
 iterate 7 w_go fB
 conv in Zk=>whnf
 iterate 8 w_go fB
 refine Ë λ_ _=> ?_;exact e _ ⟨U,U,U,U⟩
def ajD(a:gy l)(g:¬l.q)(c:ET (Æ (Â ⟨j7,0,Á⟩) n b) n j t)(z:j<n)(B:n<1000)(i:l.O j7)(o:l.w.cell? ⟨j7,j,Á⟩=Â (è<|Â m)) (p:∀d e,iD fh l d->ET (Æ (Â ⟨j7,0,Á⟩) n b) n (j+1) e->fj Ä Ò N d (BP e qX)):fj Ä Ò (Jr Ä Ò m N) l (BP t qX):=by
 obtain⟨C,D,F,G,H,I,J,K,L,M,P,Q,S,T,V,W,X,Y,uh,ui,uj,sG,sH,sI,q,u,v,oY,n7,pM,pN,pO,rfl⟩:=Hc t c.r;obtain rfl:q=Æ (Â ⟨j7,0,Á⟩) n b:=by simpa using c.ajA
 obtain rfl:u=Ê Î n:=by simpa using c.C
 obtain rfl:v=Ê Î j:=by simpa using c.I
 have hF:True:=trivial;apply fX (n:=40) a.r;simp only[BP];conv in KT=>whnf
 repeat w_go fB
 refine Ë λ_ _=> ?_;apply o0 (x:=⟨j7,j,Á⟩) U U (by k_ne) a.r g (Ã<|Ã i) o (λw h=>by go_simp) (λw h=>by simp[go_sem,h]);walk_nrm;apply fX (n:=40) a.r;iterate 4 w_go fB
 refine Ë λ_ _=> ?_;refine .fC λw₁ y=>⟨U,U,_,U,λwH cap buf s r tm h=>(stepG_close U U (by k_ne) U U h fQ).trans U,?_⟩;walk_nrm;have f:=(iD.fU (E:=fh) a.r).N (λ_ k=>k.elim) y;apply fX (n:=20) f.fx;iterate 7 w_go fB
 refine Ë λ_ _=> ?_;refine p _ _ f ⟨U,U,U,?_⟩;simp;exact Bj Z Z
def ajE(e:gy l)(g:l.d=0)(p:60<=i)(f:ET dv n n t)(c:SE ba all nQ d)(j:l.K ⟨all,0,Á⟩/\l.K ⟨all,1,Á⟩)(q:np all l.w) (r:∀m o,iD fh l m->SE ba all nQ o->a m (Ea o qX)):fj Ä Ò (qp Ä Ò i all a .iX) l (BP t<|Hh d::qX):=by
 obtain⟨G,H,I,J,L,M,N,P,Q,S,T,V,W,X,Y,qy,vq,vr,uh,ui,uj,sG,sH,sI,rh,s,u,oY,n7,pM,pN,pO,rfl⟩:=Hc t f.r;obtain rfl:s=Ê Î n:=by simpa using f.C
 obtain rfl:u=Ê Î n:=by simpa using f.I
 have hF:True:=trivial;apply fX (n:=40) e.r;simp only[BP,Hh,Ky];conv in KT=>whnf
 iterate 8 w_go fB
 obtain⟨z0,z1,z2,z3,z4,z5,z6,z7,v,z9,z10,x,y,z13,z14,z15,z16,z17,z18,z19,z20,z21,z22,z23,z24,z25,z26,z27,z28,z29,z30,z31,z32,z33,z34,z35,z36,z37,z38,z39,z40,z41,z42,z43,z44,z45,z46,z47,z48,rfl⟩:=G0 d c.r;obtain rfl:v=À (Â ⟨ba,0,Á⟩):=by simpa using c.I
 obtain rfl:x=À (Â ⟨nQ,0,Á⟩):=by simpa using c.C
 obtain rfl:y=À (Â ⟨all,0,Á⟩):=by simpa using c.Ro
 u_leave0 ŵ fB hF
 simp only[Kz];iterate 3 w_go fB
 u_call qx.f_wait (nm_wait Lk) waitFn fB hF
 refine Ë λ_ _=> ?_;refine Yp qx p (⟨Ã j.1,Ã j.2,λw z b B C D F h=>h.fg ⟨b,B,C,D,F⟩⟩) ⟨e.r,q,fG.fU _ _⟩ g λz B=> ?_;walk_nrm;refine .fC λC b=> ?_;have h:=(iD.fU (E:=fh) e.r).N (λ_ k=>k.elim)<|B.2.2.fg ⟨b.r,b.I,b.N,b.Y,b.S⟩;exact r {l with d:=0,w:=C} _ ⟨h.O,h.h,h.Y,h.I,h.c,h.K,h.q,g.symm,h.fx,h.f,h.r,h.e,h.S,h.b,h.g⟩ ⟨U,U,U,U⟩
end
def vC(a:Nat)(b c:Ï)(_:Unit):Nat->Ï
 |0=>b
 |1=>À<|Â ⟨a,0,Á⟩
 |2=>À<|Â ⟨a,0,Á⟩
 |3=>À<|Â ⟨a,2,Á⟩
 |4=>c
 |5=>b
 |_=>c
def KY(a:fe)(_:Array Bool)(_:Unit)(l:fe):Prop:=gi fh a l
section
variable{J:Jd}{g:fe}{h:Option â}
def ajF(K:¬g.q)(N:q.size=49)(P:q[8]?=Â (À<|Â ⟨m,0,Á⟩))(Q:q[11]?=Â (À<|Â ⟨j9,0,Á⟩))(E:g.M m)(F:gX g ⟨j9,2,Á⟩)(S:g.w.cell? ⟨m,0,Á⟩=Â (Æ O b n))(T:g.w.cell? ⟨j9,2,Á⟩=Â (Æ h j6 j7)) (md:ý) (listed:Array Bool) (y:ŏ) (l:fe) (i:Nat) (jJ:List Nat) (V:II xh q (vC j9 (Æ O b n)<|Æ h j6 j7) (KY g) listed y l) (k:i∈Û md xh listed): fj Ä Ò (λc d=>∃a,d=G ((base 37).at a<|Ñ xh jJ::L) qX/\II xh q (vC j9 (Æ O b n)<|Æ h j6 j7) (KY g) (listed.setIfInBounds i Ò) a c) l (G ((base 37).at y<|Ñ xh (i::jJ)::L) qX):=by
 let⟨x,j,p⟩:=V;have s:qu xh q.size=Ò:=by rw[N];decide
 have H:=yV k;have t:=p.fx;have u:¬l.q:=by rwa[show l.q=g.q from p.q]
 have W:=(j.C A).trans P;have X:=(j.C A).trans Q;have B:gX l ⟨m,0,Á⟩:=Ã<|p.M E;have D:gX l ⟨j9,2,Á⟩:=F.imp (λa=>p.M a) λa=>by rwa[p.C]
 have I:=(gK<|p.r m E id).trans S;have J:l.w.cell? ⟨j9,2,Á⟩=Â (Æ h j6 j7):=by
  refine Ŀ ?_ T;rcases F with a|a
  .exact gK<|p.r _ a id
  .exact p.f _ a
 have v:∀{c:Nat},∀d,fG l l.w d->KY g (listed.setIfInBounds c Ò) () {l with w:=d}:=λd r=>p.G r;have Y:xh.size=7:=A
 rw[Y]at H;match i,H with
 |0,_=>
  refine il (o:=GM) s j U U k (by k_ne) t u (λd r=> ?_) (λd r e f=> ?_) v
  .have z:=(B.r r).trans I;simp only[vC,GM];go_simp
  .have z:=(B.r r).trans I;simp[go_sem,GM,W,z]at f;subst f;exact B.C
 |4,_=>
  have h47:y.tmps[47]?=Â (À<|Â ⟨j9,2,Á⟩):=j.r 3 GQ 47 U (ic k U U) U;refine il (o:=GR) s j U U k (by k_ne) t u (λd r=> ?_) (λd r e f=> ?_) v
  .have z:=(D.r r).trans J;simp only[vC,GR];go_simp
  .have z:=(D.r r).trans J;simp[go_sem,GR,h47,z]at f;subst f;exact D.C
 |1,_=>
  refine il (o:=GN) s j U U k (by k_ne) t u (λd r=> ?_) (λd r e f=> ?_) v
  .simp only[vC,GN];go_simp
  .simp[go_sem,GN,X]at f
 |2,_=>
  have z:y.tmps[45]?=Â (À<|Â ⟨j9,0,Á⟩):=j.r 1 GN 45 U (ic k U U) U;refine il (o:=GO) s j U U k (by k_ne) t u (λd r=> ?_) (λd r e f=> ?_) v
  .simp only[vC,GO];go_simp
  .simp[go_sem,GO,z]at f
 |3,_=>
  have z:y.tmps[46]?=Â (À<|Â ⟨j9,0,Á⟩):=j.r 2 GO 46 U (ic k U U) U;refine il (o:=GQ) s j U U k (by k_ne) t u (λd r=> ?_) (λd r e f=> ?_) v
  .simp only[vC,GQ];go_simp
  .simp[go_sem,GQ,z]at f
 |5,_=>
  have z:y.tmps[44]?=Â (Æ O b n):=j.r 0 GM 44 U (ic k U U) U;refine il (o:=GU) s j U U k (by k_ne) t u (λd r=> ?_) (λd r e f=> ?_) v
  .simp only[vC,GU];go_simp
  .simp[go_sem,GU,z]at f
 |6,_=>
  have z:y.tmps[48]?=Â (Æ h j6 j7):=j.r 4 GR 48 U (ic k U U) U;refine il (o:=GV) s j U U k (by k_ne) t u (λd r=> ?_) (λd r e f=> ?_) v
  .simp only[vC,GV];go_simp
  .simp[go_sem,GV,z]at f
def ajG(c:gy g)(t:¬g.q)(e:SE m j j9 d)(B:g.M m)(C:gX g ⟨j9,2,Á⟩)(D:g.w.cell? ⟨m,0,Á⟩=Â (Æ O b n))(E:g.w.cell? ⟨j9,2,Á⟩=Â (Æ h j6 j7)) (F:∀u,gi fh g u->fj Ä Ò J u (G (f.at (y.put ((Q[i]?).bind (·.dst))<|ñ #[Æ O b n,Æ h j6 j7])<|Ñ Q jJ::L) qX)): fj Ä Ò J g (Ea d<|f.at y (Ñ Q (i::jJ)::L)::qX):=by
 have hF:=trivial;apply fX (n:=9) c.r;simp only[Ea,KA];iterate 2 w_go fB
 refine Ë λ_ _=> ?_;refine Kj (II xh d (vC j9 (Æ O b n)<|Æ h j6 j7)<|KY g) c.r t (λl a=>⟨(),lz.G _ _ _,(gi.fU c.r).G ⟨a.r,a.I,a.N,a.Y,a.S⟩⟩) (λk o y l i jJ p a=>ajF t e.r e.I e.C B C D E k o y l i jJ p a) λk o H I p r s=> ?_;let⟨x,l,K⟩:=p;have v:∀i∈ã 7,o.getD i Ì=Ò:=by
  cases k
  .exact o5 s r (ã 7) [] fQ λi a=>by cases a
  .exact λi a=>o5 s r [0,5,1,2,3,4,6] [] fQ (λi a=>by cases a) i (by have:=Ē.1 a;revert i;decide)
  .exact o5 s r (ã 7) [] fQ λi a=>by cases a
 let⟨a,N⟩:=H;obtain rfl:N=[]:=l.M;have P:a[6]?=Â (Æ O b n):=l.r 5 GU 6 U (v 5 A) U;have S:a[7]?=Â (Æ h j6 j7):=l.r 6 GV 7 U (v 6 A) U;have X:=l.S.trans e.r;have z:=K;have T:=z.N c;have V:a.getD 6 Å=Æ O b n:=by simp[ď,P]
 have W:a.getD 7 Å=Æ h j6 j7:=by simp[ď,S]
 apply fX (n:=9) T.r;iterate 2 w_go fB
 u_in fB hF
 refine goes_leave2 U U Tryz.func37 U ⟨by u_nil,?_⟩;rw[V,W];refine Ë λ_ _=>F I z
end
structure SD where
 L:Nat
 g:Nat
 n:Nat
 m:Nat
 q:Nat
 N:Nat
 I:Nat
 C:Nat->Nat
 M:Nat
 S:Nat
 s:Nat
 u:Option â
 t:Nat
 l:Option â
 k:Nat
 o:Nat->Option â
 a:Nat->Nat
 i:Nat->Option â
 c:Nat->Nat
 b:Nat->Nat
 f:List é
 d:Nat->Prop
 RC:ß->Prop
 p:ß->Prop
 γ:Type
 w:γ
 v:Nat->Prop
 h:Nat->γ->γ->Prop
 RD:γ->Ï->(Nat->Prop)->ß->Prop
 e:Nat->ByteArray
 j:Nat->ByteArray
def SD.Y(D:SD):Fx:=⟨D.L,D.m,D.I,D.C⟩
def SD.ajH(D:SD)(i:Nat):Ï:=Đ #[À<|D.i i,Ê Î<|D.c i,À<|Â ⟨D.C<|D.b i,0,Á⟩,À Á]
structure lB(D:SD)(S:Nat->Prop)(l:fe):Prop where
 C:∀b,D.Y.M b->l.K ⟨b,0,Á⟩/\l.K ⟨b,1,Á⟩
 M:∀b,D.Y.M b->np b l.w
 c:S D.S
 d:l.w.cell? ⟨D.S,0,Á⟩=Â (Æ (Â ⟨D.M,0,Á⟩) D.N D.N)
 f:S D.s
 g:l.w.cell? ⟨D.s,0,Á⟩=Â (Æ D.u D.m D.t)
 h:∀k,k<D.m->∃b,D.u=Â ⟨b,0,Á⟩/\S b/\l.w.cell? ⟨b,k*4,Á⟩=Â (À<|D.o<|k+1)/\l.w.cell? ⟨b,k*4+1,Á⟩=Â (Ê Î<|D.a<|k+1)/\l.w.cell? ⟨b,k*4+2,Á⟩=Â (À<|Â ⟨D.C k,0,Á⟩)/\l.w.cell? ⟨b,k*4+3,Á⟩=Â (À<|Â ⟨D.C<|k+1,0,Á⟩)
 j:∀i,i<D.q->∃b,D.l=Â ⟨b,0,Á⟩/\S b/\l.w.cell? ⟨b,i*4,Á⟩=Â (À<|D.i i)/\l.w.cell? ⟨b,i*4+1,Á⟩=Â (Ê Î<|D.c i)/\l.w.cell? ⟨b,i*4+2,Á⟩=Â (À<|Â ⟨D.C<|D.b i,0,Á⟩)/\l.w.cell? ⟨b,i*4+3,Á⟩=Â (À Á)
 r:∀a,l.r a->(l.w.cell? a).isSome=Ò/\l.w.frozen? a=Ì
 Y:∀b,D.d b->S b
 e:D.RC l.w
structure SD.Ok(D:SD):Prop where
 C:∀w w',D.RC w->(∀b,D.d b->w'.heap[b]?=w.heap[b]?)->D.RC w'
 ioS:∀w w',D.p w->(w'.os=w.os/\w'.output=w.output)->D.p w'
 r:∀s sl V w w',D.RD s sl V w->(∀b,V b->w'.heap[b]?=w.heap[b]?)->D.RD s sl V w'
 I:1<=D.n
 L1:1<=D.L
 gh:D.n+D.q+D.m<1000
 N1:D.N<1000
 S:∀i,D.b i<=D.m
 a:∀i,i<D.q->D.c i<D.N
 Y:∀k,1<=k->k<=D.m->D.a k<D.N
 ajI:∀k,k<=D.m->D.C k≠D.I
 ajJ:∀k k',k<=D.m->k'<=D.m->D.C k=D.C k'->k=k'
 M:¬D.Y.M D.M
 pq:∀i i',i<D.q->i'<D.q->D.c i=D.c i'->i=i'
 pi:∀k k',1<=k->k<=D.m->1<=k'->k'<=D.m->D.a k=D.a k'->k=k'
 Oz:∀i k,i<D.q->1<=k->k<=D.m->D.c i≠D.a k
 gq:∀b,D.Y.M b\/b=D.M->D.g<=b
section
variable{D:SD}{S:Nat->Prop}{l f:fe}
def lB.I(h:lB D S l)(ok:D.Ok)(e:∀b,S b->X b)(c:∀b,S b->f.w.heap[b]?=l.w.heap[b]?)(q:f.K=l.K)(p:∀a,l.K a->(l.w.cell? a).isSome=Ò->(f.w.cell? a).isSome=Ò)(r:∀a,f.r a->(f.w.cell? a).isSome=Ò/\f.w.frozen? a=Ì):lB D X f where
 C b hg:=by rw[q];exact h.C b hg
 M b hg:=⟨p _ (h.C b hg).1 (h.M b hg).1,p _ (h.C b hg).2 (h.M b hg).2⟩;c:=e _ h.c;d:=(gK<|c _ h.c).trans h.d;f:=e _ h.f;g:=(gK<|c _ h.f).trans h.g;h k hk:=by let⟨b,g,d,j,m,n,o⟩:=h.h k hk;exact⟨b,g,e b d,(gK<|c b d).trans j,(gK<|c b d).trans m,(gK<|c b d).trans n,(gK<|c b d).trans o⟩
 j i hi:=by let⟨b,g,d,j,m,n,o⟩:=h.j i hi;exact⟨b,g,e b d,(gK<|c b d).trans j,(gK<|c b d).trans m,(gK<|c b d).trans n,(gK<|c b d).trans o⟩
 r:=r;Y b d:=e b<|h.Y b d;e:=ok.C _ _ h.e λb d=>c b<|h.Y b d
def lB.G(h:lB D S l)(ok:D.Ok)(c:∀b,S b->l.M b)(r:fG l l.w u):lB D S {l with w:=u}:= h.I ok (λ_ q=>q) (λb q=>r.I b<|c b q) U r.S λa q=>by have:=h.r a q;exact⟨by show(u.cell? a).isSome=Ò;rw[r.N a<|Ã q];exact this.1,(r.Y a<|Ã q).trans this.2⟩
def lB.R7{E:â->Prop}(h:lB D S l)(ok:D.Ok)(g:∀b,S b->l.M b)(c:iD E l f):lB D S f:= h.I ok (λ_ q=>q) (λb q=>c.r b<|g b q) c.K c.b λa q=>by
  rw[c.I]at q;let⟨d,i⟩:=h.r a q;refine⟨?_,(c.S a<|Ã q).trans i⟩;by_cases e:E a
  .exact c.g a e d
  .rwa[c.e a (Ã q) e]
def lB.ajK(h:lB D S l)(ok:D.Ok)(d:∀b,S b->l.M b/\¬X b)(c:gi X l f):lB D S f:= h.I ok (λ_ q=>q) (λb q=>c.r b (d b q).1 (d b q).2) c.K c.e λa q=>by rw[c.Y]at q;let⟨e,g⟩:=h.r a q;exact⟨by rwa[c.f a<|Ã q],(c.g a<|Ã q).trans g⟩
def lB.N(h:lB D S l)(a:∀b,S b->X b):lB D X l:=⟨h.C,h.M,a _ h.c,h.d,a _ h.f,h.g,λk c=>let⟨b,d,e,f⟩:=h.h k c;⟨b,d,a b e,f⟩,λk c=>let⟨b,d,e,f⟩:=h.j k c;⟨b,d,a b e,f⟩,h.r,λb q=>a b<|h.Y b q,h.e⟩
end
section
variable(D:SD)
def jD(a:Nat->Nat)(j:Nat):List Ï:=(ã j).map λi=>è<|Â<|a i
def BQ(k:Nat):Jd:=λl g=>l.d=0/\¬l.q/\lB D l.M l/\∃t a b c e f h i j n o,Bh D.M D.N D.u D.m D.t k t/\l.M a/\l.w.cell? ⟨a,0,Á⟩=Â (À<|Â ⟨D.I,0,Á⟩)/\g=za t [vt h i j n o,zg a b c e f,nO Ä]
def Zn(c i:Nat):Jd:=λl g=>l.d=0/\¬l.q/\lB D l.M l/\∃t a b e f h j k m n o p,QT D.M D.N c t/\t[4]?=Â (À<|Â ⟨a,0,Á⟩)/\l.O a/\l.w.cell? ⟨a,0,Á⟩=Â (À<|D.i i)/\l.w.cell? ⟨a,1,Á⟩=Â (Ê Î<|D.c i)/\l.w.cell? ⟨a,2,Á⟩=Â (À<|Â ⟨D.C<|D.b i,0,Á⟩)/\l.M b/\l.w.cell? ⟨b,0,Á⟩=Â (À<|Â ⟨D.I,0,Á⟩)/\g=Kt t [GH k m n o p,zg b e f h j,nO Ä]
def ajL:Jd:=λl g=>lB D l.M l/\∃t a b c,GZ D.S D.I (D.C D.m) D.n (Æ D.l D.q D.k) t/\hD l a (É #[À<|Â ⟨D.I,0,Á⟩] 162)/\hD l b (É #[Ĉ (ù 48) #[] #[À<|Â ⟨D.s,0,Á⟩,À<|Â ⟨D.S,0,Á⟩]] 1)/\g=Bs (À<|Â ⟨D.I,0,Á⟩) c (À<|Â ⟨D.I,0,Á⟩) (ñ #[]) a b (D6 t::D.f)
def ajM(j:Nat)(a:Nat->Nat):Jd:=λl g=>lB D l.I l/\∃t e c b d f,ST D.S D.I (D.C D.m) D.n (j-1) (Æ D.l D.q D.k) e t/\YW D.S D.I D.q e (jD a j) (a<|j-1) c b d l/\a (j-1)<c/\c<b/\b<d/\(∀k,e.ownBlock=Â k->k≠a (j-1)/\k≠c/\k≠b/\k≠d)/\D.g<=a (j-1)/\g=Bs (À<|Â ⟨D.I,0,Á⟩) f (À<|Â ⟨D.I,0,Á⟩) (ñ #[]) b d (KC t::D.f)
def KZ(j:Nat)(a:Nat->Nat):Jd:=λl g=>l.d=0/\¬l.q/\D.g<=l.w.heap.size/\((j=0/\ajL D l g)\/(1<=j/\ajM D j a l g))
def Zo:Jd:=λl g=>l.d=0/\¬l.q/\lB D l.I l/\∃a,SE D.S D.I (D.C D.m) a/\g=Ea a D.f
def SD.r(P:ė):Ph where
 toFx:=D.Y
 P:=P
 S:=D.g
 n:=D.n
 q:=D.q
 Y:=D.M
 f:=D.N
 r:=D.b
 a:=D.c
 b:=D.a
 c:=D.ajH
 z:=zT
 B:=60
 γ:=D.γ
 l:=D.w
 i:=D.v
 p:=D.h
 d:=λk s V w=>(∃a,w.cell? ⟨D.C k,2,Á⟩=Â a/\D.RD s a V w)/\(k=0->w.cell? ⟨D.M,D.N,Á⟩=Á/\kN w D.M=Â (0,0)/\D.p w)
 o:=D.e
 k:=D.j
 g:=KZ D
 h:=BQ D
 e:=Zn D
 j:=λ_=>Zo D
end
def Eb(D:SD):Prop:=∀k s e V l,k<D.m->nj (D.r Ä) k s->D.RD s e V l.w->(∀b,V b->l.M b)->gy l->¬l.q->(∀b,D.d b->l.M b)->D.RC l.w->∀f g,fj Ä Ì (λa j=>a.d=l.d/\∃p n c,j=G (f.finish<|ñ #[Æ p n c,à<|D.e<|k+1]) g/\∃h i,D.h k s h/\D.RD h (Æ p n c) i a.w/\∀b,i b->a.M b) (lX l)<|G (Ă Ä 66 #[e,À<|D.o<|k+1] Ğ)<|f::g
def Ec(D:SD):Prop:=∀i s a V l,i<D.q->nj (D.r Ä) (D.b i) s->D.RD s a V l.w->(∀b,V b->l.M b)->gy l->¬l.q->(∀b,D.d b->l.M b)->D.RC l.w->∀b c,fj Ä Ì (λe f=>e.d=l.d/\f=G (b.finish<|à<|D.j i) c) (lX l)<|G (Ă Ä 67 #[a,À<|D.i i] Ğ)<|b::c
section
variable{D:SD}
def Hi(k:Nat)(a:k<=D.m):D.Y.M (D.C k):=Ç ⟨k,a,U⟩
def zm:D.Y.M D.I:=Ã U
def ajN(ok:D.Ok):(D.r Ä).Ok:=⟨ok.I,ok.L1,ok.gh,λi _=>ok.S i,ok.ajI,ok.ajJ,ok.M,ok.pq,ok.pi,ok.Oz,ok.gq,⟨λk a b e=>by have c:D.a k=D.N:=e;have:=ok.Y k a b;omega,λi d e=>by have c:D.c i=D.N:=e;have:=ok.a i d;omega⟩⟩
theorem ajO(ok:D.Ok)(tJ:Eb D):∀k s V l g,k<D.m->BQ D k l g->gy l->nj (D.r Ä) k s->(D.r Ä).d k s V l.w->(∀b,V b->l.I b)->l.N (jd D.Y k)->l.r (jd D.Y<|k+1)->l.r (jk (D.r Ä)<|D.a<|k+1)->∀B:Nat->D.γ,B k=s->fj Ä Ì (JI (D.r Ä) B<|.mk (k+1)) l g:=by
 intro k s V l g o hJ D9 R8 AX hV ua C E B hsg;obtain⟨hd,F,f,t,G,v1,v2,v3,v4,u0,u1,u2,u3,u4,hT,BA,cbw,rfl⟩:=hJ;let⟨⟨sl,hsl,qB⟩,_⟩:=AX;let⟨b,zd,hbM,i0,i1,i2,i3⟩:=f.h k o;have F5:=ok.gh;have lr:(⟨D.C<|k+1,2,Á⟩:â)≠⟨D.M,D.a<|k+1,Á⟩:=λe=>ok.M (by injection e with H _ _;rw[<-H];exact Hi (k+1) o);have AJ:Bh D.M D.N (Â ⟨b,0,Á⟩) D.m D.t k t:=by rwa[<-zd]
 have⟨oc1,oz1⟩:=f.r _ C;have⟨oc2,oz2⟩:=f.r _ E;have ru:∀a:â,(a=⟨D.C<|k+1,2,Á⟩\/a=⟨D.M,D.a<|k+1,Á⟩)->l.r a:=λa p=>by rcases p with rfl|rfl;exact C;exact E
 have r:=f.C _<|Hi (k+1) o;have Zp:=f.M _<|Hi (k+1) o;refine fj.fO (Stop:=λl g=>(∃i n,D.h k s i/\(D.r Ä).d (k+1) i n l.w/\(∀b,n b->l.M b)/\l.w.cell? ⟨D.M,D.a<|k+1,Á⟩=Â (à<|D.e<|k+1))/\yx Ä Ì (D.C<|k+1) (fj Ä Ì<|BQ D<|k+1) (pJ (D.r Ä) l<|k+1) g) (λl g h=> ?_) ?_
 .let⟨⟨i,n,I,J,L,O⟩,P⟩:=h;exact⟨i,n,by subst hsg;exact I,J,L,O,P⟩
 refine aiq (Q:=λv x y=>x=D.e (k+1)/\∃i n,D.h k s i/\D.RD i v n y.w/\∀b,n b->y.M b) (τ:=λl=>pJ (D.r Ä) l<|k+1) D9 F hd AJ o Z (by have:=ok.N1;omega) (ok.Y (k+1) Z o) hbM i0 i1 i2 i3 ua hsl C E oc1 oc2 oz1 oz2 lr (λc v j u=> ?_) λc x v hQ Rc Ks=> ?_
 .refine(tJ k s sl V c o R8 (ok.r _ _ _ _ _ qB λb x=>v.r b<|Ç<|hV b x) (λb x=>v.M<|Ç<|hV b x) (v.G D9) (by rwa[v.q]) (λb x=>v.M<|f.Y b x) (ok.C _ _ f.e λb x=>v.r b<|f.Y b x) j u).fO ?_;grind
 .let⟨y,⟨hstr,i,n,hnx,ajP,Zq⟩,hy⟩:=hQ;rw[hstr]at Ks;have Zr:np (D.C<|k+1) c.w:=⟨v.b _ r.1 Zp.1,v.b _ r.2 Zp.2⟩;refine⟨⟨Ã (by rw[v.K];exact r.1),Ã (by rw[v.K];exact r.2),λ_ _ _ _ _ _ _ _=>trivial⟩,⟨v.fx,Zr,trivial⟩,⟨i,n,hnx,⟨⟨_,Rc,ok.r _ _ _ _ _ ajP λb x=>(hy b<|Zq b x).2⟩,λe=>by omega⟩,λb x=>(hy b<|Zq b x).1,Ks⟩,v.d.trans hd,λw=>fG (pJ (D.r Ä) c<|k+1) c.w w,⟨Ã (by show c.K _;rw[v.K];exact r.1),Ã (by show c.K _;rw[v.K];exact r.2),λw w₁ I J L O P h=>h.fg ⟨I,J,L,O,P⟩⟩,⟨λj h=>h.elim,Zr,fG.fU _ _⟩,λwH t' ajQ Xw=> ?_⟩;refine .fC λS u=> ?_;have z:=ajQ.2.2.fg ⟨u.r,u.I,u.N,u.Y,u.S⟩;have x:=λb x=>(z.I b<|Ç<|v.M x).trans<|v.r b x;have Zs:∀b,l.M b->({pJ (D.r Ä) c (k+1)with d:=0,w:=S}:fe).M b:=λb x=>Ç<|v.M x;refine⟨U,by show¬c.q;rwa[v.q],f.I ok Zs x (by show c.K=l.K;exact v.K) (λa p h=>z.S a (by show c.K a;rwa[v.K])<|v.b a p h) λa p=> ?_,t',G,v1,v2,v3,v4,u0,u1,u2,u3,u4,by rwa[zd],Zs G BA,(gK<|x G BA).trans cbw,U⟩;obtain⟨T,W,X⟩:c.r a/\a≠⟨D.M,D.a<|k+1,Á⟩/\a≠⟨D.C<|k+1,2,Á⟩:=p;have Y:l.r a:=by rwa[<-v.I]
  let⟨H,e2⟩:=f.r a Y;refine⟨?_,?_⟩
  .show(S.cell? a).isSome=Ò;rwa[z.N a<|Ã ⟨T,W,X⟩,v.e a (Ã Y) λq=>q.elim X W]
  .show S.frozen? a=Ì;rwa[z.Y a<|Ã ⟨T,W,X⟩,v.S a<|Ã Y]
def ajR:∀l g,BQ D D.m l g->gy l->fj Ä Ì (AB<|D.r Ä) l g:=by intro l g c d;obtain⟨e,f,b,t,k,n,o,p,q,r,s,u,v,w,h,i,j,rfl⟩:=c;have a:=b.C _<|zm;exact aiy (Ψ:=λ_=>True) h a ⟨Ã a.1,Ã a.2,λ_ _ _ _ _ _ _ _=>trivial⟩ ⟨d.r,b.M _ zm,trivial⟩ e f (Ã i) j
def Zt(ok:D.Ok){r:Nat}{l:fe}{t:Array Ï}{g h m o p:Ï}(B:gy l)(s:¬l.q)(C:l.d=0)(a:lB D l.M l)(E:QT D.M D.N i t)(f:l.M k)(u:l.w.cell? ⟨k,0,Á⟩=Â (À<|Â ⟨D.I,0,Á⟩)): C9 (D.r Ä) i j r l (zi t [GH g h m o p,zg k v x z jQ,nO Ä]):=by have y:=ok.S<|j+r*D.n;refine aiD B s C E (Ú _) U (a.C _<|Hi _ y) (a.M _<|Hi _ y) (a.C _ zm) (a.M _ zm) (Ã f) u λQ F G e H I J K L O P=>(⟨H,by rwa[e.q],(a.R7 ok (λ_ q=>q) e).N λb q=>e.M q,G,F,k,v,x,z,jQ,g,h,m,o,p,O,P,I,J,K,L,e.M f,(gK<|e.r k f).trans u,U⟩)
theorem ajS(ok:D.Ok)(W:Ec D):∀c j r s V l g,j+r*D.n<D.q->Zn D c (j+r*D.n) l g->∀f:fe,gy f->f.O=l.O->(∀b,l.I b\/V b->f.I b)->f.w=l.w->f.d=l.d->f.q=l.q->f.r=l.r->f.K=l.K->nj (D.r Ä) (D.b<|j+r*D.n) s->(D.r Ä).d (D.b<|j+r*D.n) s V l.w->f.N (jd D.Y<|D.b<|j+r*D.n)->f.r (jk (D.r Ä)<|D.c<|j+r*D.n)->fj Ä Ì (JW (D.r Ä) c j<|.ng r) f g:=by
 intro c j r s V l g E X f v F y o Y hq' JP hK R8 AX ua p;obtain⟨hd,hq,G,t,tb,u,v1,v2,v3,v4,u0,u1,u2,u3,u4,hT,h4,hOt,H,I,J,L,N,rfl⟩:=X;let⟨⟨sl,P,S⟩,_⟩:=AX;have B:∀b,l.M b->f.M b:=λb q=>q.elim (λz=>Ã<|by rwa[F]) λz=>Ç<|y b<|Ã z;have m:=G.I ok B (λb _=>by rw[o]) hK (λa _ h=>by rwa[o]) λa q=>by rw[o];exact G.r a<|by rwa[<-JP]
 have C:¬f.q:=by rwa[hq']
 rw[<-o]at H I J N P S;let⟨e2,z2⟩:=m.r _ p;refine aiG (Q:=λx=>x=D.j (j+r*D.n)) v C hT h4 (by rwa[F]) H I J ua P p e2 z2 (ok.a _ E) (λi e k T=> ?_) λi x t' e hx hcx AJ=> ?_
 .refine(W _ s sl V i E R8 (ok.r _ _ _ _ _ S λb x=>e.r b<|Ç<|y b<|Ç x) (λb x=>e.M<|Ç<|y b<|Ç x) (e.G v) (by rwa[e.q]) (λb x=>e.M<|m.Y b x) (ok.C _ _ m.e λb x=>e.r b<|m.Y b x) k T).fO ?_;grind
 .have T:=(m.R7 ok (λ_ q=>q) e).N λb q=>e.M q;refine⟨hcx.trans (by rw[hx];rfl),?_⟩;have k:=e.G v;have Gz:gy (vh (D.r Ä) i<|j+r*D.n):=by
   refine⟨k.c,λa x=> ?_,λa x=> ?_,k.fx,λa x=> ?_,λa x=> ?_⟩
   .rintro(q|q)
    .exact k.Y a x.1 q
    .exact x.2 q
   .refine k.N a ?_;rcases x with q|q|q
    .exact Ã q.1
    .exact Ç q
    .rw[q];exact Ã<|by rwa[e.I]
   .refine k.I a ?_;rcases x with q|q|q
    .exact Ã q.1
    .exact Ç q
    .rw[q];exact Ã<|by rwa[e.I]
   .let⟨k1,k2,k3⟩:=k.S a x;exact⟨k1,k2,λq=>k3 q.1⟩
  refine Zt ok Gz (by show¬i.q;rwa[e.q]) (by show i.d=0;rwa[e.d,Y]) (T.I ok (λ_ q=>q) (λ_ _=>rfl) U (λ_ _ h=>h) λa q=>T.r a q.1) AJ (by show i.M u;exact e.M<|B u L)<|(gK<|e.r u<|B u L).trans N
end
section
variable{D:SD}{dk:Nat->Nat}{dv:Ï}{l f:fe}
structure MF(D:SD)(dk:Nat->Nat)(dv:Ï)(l:fe):Prop where
 C:gy l
 q:¬l.q
 d:l.d=0
 r:lB D l.I l
 I:∃db c,dv=Æ (Â ⟨db,0,Á⟩) D.n c/\l.O db/\∀i,i<D.n->l.w.cell? ⟨db,i,Á⟩=Â (è<|Â<|dk i)
def MF.M(h:MF D dk dv l)(ok:D.Ok)(a:iD fh l f):MF D dk dv f where
 C:=a.G h.C;q:=by rw[a.q];exact h.q
 d:=a.d.trans h.d;r:=(h.r.R7 ok (λ_ q=>Ç q) a).N λb q=>by rwa[a.Y]
 I:=by let⟨e,c,j,g,k⟩:=h.I;exact⟨e,c,j,a.O e g,λi m=>(gK<|a.r e<|Ã g).trans<|k i m⟩
def ajT(ok:D.Ok):∀r,r<=D.n->∀l t b,MF D dk dv l->ET dv D.n (D.n-r) t->SE D.S D.I (D.C D.m) b->fj Ä Ò (AF (D.r Ä) dk r) l (BP t<|Hh b::D.f):=by
 intro r
 induction r with
 |zero=>
  intro _ l t b a e g;rw[ũ]at e;refine ajE a.C a.d (Ú _) e g (a.r.C _ zm) (a.r.M _ zm) λf i h j=> ?_;have c:=a.M ok h;exact⟨c.d,c.q,c.r,i,j,U⟩
 |succ r j=>
  intro s l t b a e g;obtain⟨u,c,rfl,k,o⟩:=a.I;have v:=ok.gh;refine ajD a.C a.q e Z Z k (o (D.n-(r+1)) Z) λf p h i=> ?_;refine j Z f p b (a.M ok h) ?_ g;rwa[show D.n-(r+1)+1=D.n-r by omega]at i
def ajU(ok:D.Ok):∀r,r<=D.q->∀l t d,MF D dk dv l->DT dv D.l D.q D.k (D.q-r) t->SE D.S D.I (D.C D.m) d->fj Ä Ò (FU (D.r Ä) dk r) l (BO t<|Hh d::D.f):=by
 intro r
 induction r with
 |zero=>
  intro _ l t d a e h;rw[ũ]at e;obtain⟨j,c,rfl,k,o⟩:=a.I;refine ajC a.C.r e λi g=>ajT ok D.n (Ú _) l i d a ?_ h;rwa[Ū]
 |succ r s=>
  intro C l t d a e h;obtain⟨j,c,rfl,k,o⟩:=a.I;have E:=ok.gh;have F:=ok.I;let⟨b,p,u,v,w,x,y⟩:=a.r.j (D.q-(r+1)) Z;have z:DT (Æ (Â ⟨j,0,Á⟩) D.n c) (Â ⟨b,0,Á⟩) D.q D.k (D.q-(r+1)) t:=by rwa[<-p]
  refine ajz a.C a.q z Z Z Z Z k (o _<|ĵ _ Z) (Ç u) v w x y λf i B g=> ?_;refine s Z f i d (a.M ok B) ?_ h;rwa[show D.q-(r+1)+1=D.q-r by omega,<-p]at g
theorem ajV(dk:Nat->Nat)(j a:Nat):jD (fy dk j a) (j+1)=jD dk j++[è<|Â a]:=by unfold jD;grind [ÿ,List.map_congr_left,fI,gD]
def ajW(dk:Nat->Nat)(j:Nat):(jD dk j).length=j:=by simp[jD]
def ajX(dk:Nat->Nat)(j i:Nat)(h:i<j):(jD dk j)[i]?=Â (è<|Â<|dk i):=by simp[jD,h]
theorem Zu(ok:D.Ok){t:Array Ï}(K:j<=D.n)(a:gy l)(o:¬l.q)(p:l.d=0)(h:lB D l.I l)(x:D.g<=l.w.heap.size)(v:ST D.S D.I (D.C D.m) D.n j (Æ D.l D.q D.k) dv t)(r:l.w.ownsRow 0 101 1 dv j (jD dk j))(s:∀k,dv.ownBlock=Â k->l.O k): fj Ä Ò (JM (D.r Ä) dk<|if j<D.n then .iE (j+1)else .iJ D.q) l (Br t D.f):=by
 have L:=ok.gh;by_cases u:j<D.n
 .rw[if_pos u];show fj Ä Ò (Oy (D.r Ä) (j+1) dk) l _;rw[ah1];refine aiL a o p v u Z Z (h.C _ zm) (h.M _ zm) r s λf i y z B C E F c G H M N I J P=> ?_;refine⟨y,c.d.trans p,by rwa[c.q],Õ x c.I,Ç ⟨Z,(h.ajK ok (λb g=>⟨Ç g,λe=>a.c b (s b e.symm) g⟩) c).N λb q=>(by rwa[c.S]),i,E,z,B,C,F,?_,?_,?_,I,J,?_,?_,U⟩⟩
  .rwa[ø]
  .rwa[ø,ajV,gD]
  .grind [ø,gD]
  .grind [ø,gD]
  .grind [ø,gD,Õ]
 .have e:j=D.n:=Z
  subst e;rw[if_neg u];have y:∃b c,dv=Æ (Â ⟨b,0,Á⟩) D.n c/\l.O b/\∀i,i<D.n->l.w.cell? ⟨b,i,Á⟩=Â (è<|Â<|dk i):=by
   rcases r.2 with⟨_,C⟩|⟨g,z,E,rfl,_⟩
   .have:=ok.I;omega
   .refine⟨g,z,U,s g U,λi B=> ?_⟩;have:=r.cells U i _<|ajX dk D.n i B;grind [ğ]
  refine ajB a.r v λg z B C=>(ajU ok D.q (Ú _) l g z ⟨a,o,p,h,y⟩ (by rwa[Ū]) C)
def ajY(ok:D.Ok)(h:BQ D k l g)(r:fG l l.w u):BQ D k {l with w:=u} g:=by obtain⟨c,d,e,t,a,f,i,j,m,n,o,p,s,v,x,b,y,rfl⟩:=h;exact⟨c,d,e.G ok (λ_ q=>q) r,t,a,f,i,j,m,n,o,p,s,v,x,b,(gK<|r.I a b).trans y,U⟩
def hD.M{o:Ÿ}(h:hD l b o)(r:fG l l.w u):hD {l with w:=u} b o:=⟨h.fq,(r.I b<|Ã h.fq).trans h.I⟩
def FV(ok:D.Ok)(h:KZ D j dk l g)(r:fG l l.w u):KZ D j dk {l with w:=u} g:=by
 let⟨m,n,o,h⟩:=h;refine⟨m,n,Õ o r.r,?_⟩;rcases h with⟨p,b,t,c,d,f,i,s,v,rfl⟩|⟨x,b,t,dv,y,c,d,f,i,a,z,B,C,E,F,rfl⟩
 .exact Ã ⟨p,b.G ok (λ_ q=>q) r,t,c,d,f,i,s.M r,v.M r,U⟩
 .exact Ç ⟨x,b.G ok (λ_ q=>Ç q) r,t,dv,y,c,d,f,i,⟨nP a.S λk e=>r.I k<|Ã<|a.M k e,a.M,a.r.M r,a.C.M r,a.N.M r,a.I.M r⟩,z,B,C,E,F,U⟩
theorem ajZ(ok:D.Ok):∀j dk l g,j<=D.n->KZ D j dk l g->gy l->l.d=0/\∃(G H:Ý) (X:Nat->Prop),G.status=ċ/\H.status=ċ/\(∀u,stepG Ä Ò g u=.spawn G H u #[])/\(∀b,X b->l.O b)/\ (1<=j->l.O (dk<|j-1)/\¬X (dk<|j-1)/\l.w.heap[dk<|j-1]?=Â (ŕ D.q #[] Ì 0 0 Ì)/\D.g<=dk (j-1))/\ (∀f:fe,gy f->(∀b,X b\/l.I b->f.I b)->f.w=l.w->f.d=0->¬f.q->(∀b,¬f.O b)->f.K=l.K->f.N=l.N->(∀a,f.r a->l.r a)->fj Ä Ì (if j=0 then BQ D 0 else C9 (D.r Ä) (dk<|j-1) (j-1) 0) f H)/\ (∀f:fe,gy f->f.O=(λb=>l.O b/\¬X b/\(1<=j->b≠dk (j-1)))->(∀b,X b\/l.I b->f.I b)->f.w=l.w->f.d=0->f.q=l.q->f.K=l.K->f.N=l.N->(∀a,f.r a->l.r a)->fj Ä Ò (JM (D.r Ä) dk<|if j<D.n then .iE (j+1)else .iJ D.q) f G):=by
 intro j dk l g L h D9;let⟨hd,N,P,h⟩:=h;refine⟨hd,?_⟩;rcases h with⟨rfl,o,t,x,C,v1,I,Q,S,rfl⟩|⟨h1,o,t,dv,T,x,C,v1,I,c,x1,x2,x3,x4,x5,rfl⟩
 .refine⟨_,_,l.O,U,U,λu=>YU _ _ _ _ _ _ _ u,λ_ q=>q,λq=>by omega,λf i m X y p E z J B=> ?_,λf i E m X y p z J B=> ?_⟩
  .rw[if_pos U];have e:=λb q=>m b q;have s:lB D f.M f:=o.I ok (λb q=>Ç<|e b q) (λb _=>by rw[X]) z (λa _ h=>by rwa[X]) λa q=>by rw[X];exact o.r a<|B a q
   refine aix i.r p (Ã<|Ç<|e C<|Ã S.fq) (Ã s.f) (Ã s.c) (by rw[X];exact S.C U) s.g s.d λF V W Y w4 u0 u1 u2 u3 u4 v=> .fC λu r=>ajY ok ⟨y,p,s,F,x,V,W,Y,w4,u0,u1,u2,u3,u4,v,Ç<|e x<|Ã Q.fq,by rw[X];exact Q.C U,U⟩ r
  .refine aiJ i.r I λF v=>(Zu ok L i (by rwa[p]) y (o.I ok (λb q=>m b q) (λb _=>by rw[X]) z (λa _ h=>by rwa[X]) λa q=>by rw[X];exact o.r a<|B a q) (by rwa[X]) v (World.ownsRow_nil _ _ _ _) λk e=>by cases e)
 .refine⟨_,_,λb=>b=T\/b=x\/b=C,U,U,λu=>YU _ _ _ _ _ _ _ u,λb q=> ?_,λ_=>⟨c.r.fq,?_,c.r.I,x5⟩,λf i m X y p E z J B=> ?_,λf i E m X y p z J B=> ?_⟩
  .rcases q with rfl|rfl|rfl
   .exact c.C.fq
   .exact c.N.fq
   .exact c.I.fq
  .grind
  .rw[if_neg Z];have s:lB D f.M f:=o.I ok (λb q=>Ç<|m b<|Ç q) (λb _=>by rw[X]) z (λa _ h=>by rwa[X]) λa q=>by rw[X];exact o.r a<|B a q
   have Zv:f.M x:=Ç<|m x<|Ã<|Ç<|Ã U;refine aiC i.r p (Ã<|Ç<|m C<|Ã<|Ç<|Ç U) (Ã<|Ç<|m T<|Ã<|Ã U) (Ã s.c) (by rw[X];exact c.I.C U) (by rw[X];exact c.C.C U) s.d λF V W Y w4 u0 u1 u2 u3 u4 v=> .fC λu r=>(Zt ok (i.jV r.r) p y (s.G ok (λ_ q=>q) r) v Zv<|(gK<|r.I x Zv).trans<|by rw[X];exact c.N.C U)
  .have s:=ok.gh;refine aiK i.r I Z λF v=> ?_;rw[show j-1+1=j by omega]at v;have r:=c.S;rw[ajW]at r;refine Zu ok L i (by rwa[p]) y (o.I ok (λb q=>m b<|Ç q) (λb _=>by rw[X]) z (λa _ h=>by rwa[X]) λa q=>by rw[X];exact o.r a<|B a q) (by rwa[X]) v (by rwa[X]) λk e=> ?_;rw[E];let⟨a,V,W,Y⟩:=x4 k e;refine⟨c.M k e,?_,λ_=>a⟩;grind
def aj0(ok:D.Ok)(b:Eb D)(d:Ec D):gP (D.r Ä) where
 C:=ajN ok;S k s V w w' h hV hc hz hf xr:=by let⟨⟨a,f,m⟩,t⟩:=h;exact⟨⟨a,hc.trans f,ok.r _ _ _ _ _ m hV⟩,λe=>⟨hz.trans (t e).1,hf.trans (t e).2.1,ok.ioS _ _ (t e).2.2 xr⟩⟩
 FV j dk l g w₁ h r:=FV ok h r;I j dk l g h:=by let⟨_,_,_,h⟩:=h;rcases h with⟨_,_,t,e,f,a,_,_,_,rfl⟩|⟨_,_,t,dv,m,e,f,a,_,_,_,_,_,_,_,rfl⟩<;>rfl
 N k l g h:=by obtain⟨_,_,_,t,e,a,f,m,n,o,p,q,u,v,_,_,_,rfl⟩:=h;rfl
 Y c i l g h:=by obtain⟨_,_,_,t,tb,e,a,f,m,n,o,p,q,u,v,_,_,_,_,_,_,_,_,rfl⟩:=h;rfl
 M dk l g h:=by obtain⟨_,_,_,f,_,rfl⟩:=h;rfl
 go:=ajZ ok;f:=ajO ok b;h:=ajR;e:=ajS ok d
end
end Go.Proofs.Y.fv
namespace Go.Proofs.Y.fv
open Go Go.Conc Go.Proofs.Y.Lift
open Go.ConcN (sumTo sumTo_congr)
structure kz(P:ė)(Y:Nat->Prop)(jj:Ν->Prop)(H:Nat)(J:Jd)(T:gw)(lv:Nat->Nat)(lot:Nat->fe)(gs:Array Ý)(w:ß)(t:ż):Prop where
 C:1<=gs.size
 r:gL P 0 Y (λi=>if i=0 then J else oV P (lv i)) (λi=>if i=0 then T else .fC) (λ_=> .no) lot gs w t
 c:∀i,0<i->i<gs.size->lot i=ku (lot i)
 d:¬(lot 0).q
 M:∀p a,touchAt t p=Â a->a.loc.isMemory=Ò->Knows t 0 p\/(jj a.loc/\a.kind=.atomic)
 S:∀p a x,touchAt t p=Â a->a.loc=û x->t.g? p=Â 0\/x.block<H
 b:∀a:â,H<=a.block->NoRelease a t
 N:t.HandedOver
abbrev rA(P:ė):=kz P λ_=>False
structure qC(l l':fe)(w w':ß):Prop where
 r:w.heap.size<=w'.heap.size
 N:∀j,l'.O j->l.O j\/w.heap.size<=j
 c:l'.I=l.I
 S:l'.r=l.r
 b:l'.N=l.N
 k:l'.K=l.K
 jN:∀j,j<w.heap.size->¬l.O j->(∀a:â,a.block=j->¬l.r a)->w'.heap[j]?=w.heap[j]?
 M:∀a:â,a.block<w.heap.size->¬l.O a.block->¬l.r a->w'.cell? a=w.cell? a
 Y:∀j,j<w.heap.size->¬l.O j->kN w' j=kN w j
 C:w'.os=w.os
 I:w'.output=w.output
 d:w'.tape=w.tape
theorem qC.fU(l:fe)(w:ß):qC l l w w:=⟨Ú _,λ_ h=>Ã h,U,U,U,U,λ_ _ _ _=>rfl,λ_ _ _ _=>rfl,λ_ _ _=>rfl,U,U,U⟩
def qC.fg{l e i:fe}{w':ß}(h:qC l e w w')(k:qC e i w' u):qC l i w u:=by
 have f:∀j,j<w.heap.size->¬l.O j->¬e.O j:=λj c b q=>(h.N j q).elim b λz=>by omega
 refine⟨Õ h.r k.r,λj q=> ?_,k.c.trans h.c,k.S.trans h.S,k.b.trans h.b,k.k.trans h.k,λj c b d=>((k.jN j (È c h.r) (f j c b)<|by rwa[h.S]).trans<|h.jN j c b d),λa g b d=>((k.M a (È g h.r) (f _ g b)<|by rwa[h.S]).trans<|h.M a g b d),λj c b=>(k.Y j (È c h.r)<|f j c b).trans<|h.Y j c b,k.C.trans h.C,k.I.trans h.I,k.d.trans h.d⟩
 .rcases k.N j q with z|z
  .exact h.N j z
  .exact Ç<|Õ h.r z
def mq.aj1{l a:fe}(h:mq l a w u V):qC l a w u:=⟨h.C,h.S,h.I,h.r,h.M,h.k,h.jN,h.N,λj b c=>h.Y ⟨j,0,Á⟩ b c,h.f,h.g,h.m⟩
def qC.G{l a:fe}(h:qC l a (w.at i) u):qC l a w u:=⟨h.r,h.N,h.c,h.S,h.b,h.k,h.jN,h.M,h.Y,h.C,h.I,h.d⟩
section
variable{Y:Nat->Prop}{jj:Ν->Prop}{H:Nat}{J:Jd}{T:gw}{lv:Nat->Nat}{lot:Nat->fe}{gs:Array Ý}{t:ż}{sl:Option (Nat×Nat)}
def kz.I(c:kz P Y jj H J T lv lot gs w t)(d:Nat):kz P Y jj H J T lv lot gs (w.at d) t:=⟨c.C,c.r.at d,c.c,c.d,c.M,c.S,c.b,c.N⟩
def aj2{l:fe}{e:ž}(h:yr l e)(a:â):ï e≠.mark (.release a):=by
 let⟨c,d,g⟩:=e;rcases h with⟨x,b,_⟩|h|⟨f,h⟩|h|h|⟨x,_,h⟩
 .simp only at b;subst b;simp[ï]
 .simp only at h;subst h;simp[ï]
 .simp only at h;subst h;simp[ï]
 .simp only at h;subst h;simp[ï]
 .simp only at h;subst h;simp[ï]
 .simp only at h;rcases h with rfl|rfl|rfl|rfl<;>simp[ï]
theorem aj3{e:ž}(h:e.mute=Ò)(a:â):ï e≠.mark (.release a):=by let⟨b,c,d⟩:=e;cases b<;>simp_all[Event.mute];rename_i m;cases m<;>simp_all[ï]
theorem kz.aj4{k:ß->gw}(c:kz P Y jj H J (.ju k) lv lot gs w t)(o:∀l g,J l g->g.status=ċ\/g.status=ş)(r:gs[0]?=Â g): ∃e b d u,runT P (Ĭ gs w sl) 0=(.next<|Ĭ b d sl,u)/\b.size=gs.size/\qC (lot 0) (e 0) w d/\kz P Y jj H J (k w) lv e b d (t++u):=by
 obtain⟨b,d,G,s,v,f,I,K,j,y⟩:=c.r.fq r U λl g h=>o l g h;refine⟨gu lot 0 s,b,d,_,v,f,by rw[gT];exact j.aj1,by rw[f];exact c.C,?_,λi z B=> ?_,?_,λp a h C=> ?_,λp a x h D=> ?_,λa h=>(c.b a h).app λu m=> ?_,Ř c.N λu m=>Ã<|nZ u m⟩
 .have e:fy (λi=>if i=0 then(.ju k:gw)else .fC) 0 (k w)=λi=>if i=0 then k w else .fC:=by
   funext i;unfold fy;grind
  rwa[<-e]
 .rw[gF lot _ Z];exact c.c i z<|by rwa[<-f]
 .rw[gT,j.q];exact c.d
 .rcases mM h with⟨_,e⟩|⟨_,u,e,E,n⟩
  .exact(c.M p a e C).imp (·.app _) id
  .have:=knows_own n;grind [nZ]
 .rcases mM h with⟨F,e⟩|⟨_,u,e,E,n⟩
  .rw[g?_old F];exact c.S p a x e D
  .apply Ã;unfold Trace.g?;grind [nZ]
 .obtain⟨e,n,rfl⟩:=Č m;exact aj2 (j.c e n) a
theorem kz.Zw(c:kz P Y jj H J T lv lot gs w t)(q:gs[i]?=Â g)(b:i≠0)(y:g.status=ċ): ∃a e f u,runT P (Ĭ gs w sl) i=(.next<|Ĭ f w sl,u)/\f.size=gs.size/\sumTo gs.size a+1=sumTo gs.size lv/\e 0=lot 0/\kz P Y jj H J T a e f w (t++u):=by
 have z:=(æ.1 q).1;obtain⟨f,r,m,M,B,o,N,C,D⟩:=c.r.Og (n:=lv i) q b y U (by simp[b]) (by simp[b]);have E:∀u∈MemOp.ofEvents i g.frame.fn g.frame.place r,u.act.touch?=Á:=λu h=>by obtain⟨e,s,rfl⟩:=Č h;exact touch_mute<|C e s
 refine⟨fy lv i m,gu lot i {lot i with d:=į (lot i).d r,w:=w},f,_,B,o,?_,gF lot _<|Ne.symm b,by rw[o];exact c.C,?_,λj v F=> ?_,?_,λp a k G=> ?_,λp a x k I=> ?_,λa k=>(c.b a k).app λu h=> ?_,Ř c.N λu h=>Ç<|E u h⟩
 .grind [wT,fI,gD]
 .have l:fy (λi=>if i=0 then J else oV P (lv i)) i (oV P m)=λj=>if j=0 then J else oV P (fy lv i m j):=by
   funext j;unfold fy;grind
  rwa[<-l]
 .by_cases e:j=i
  .subst e;rw[gT];have:=c.c j v z;rw[this];rfl
  .rw[gF lot _ e];exact c.c j v<|by rwa[<-o]
 .rw[gF lot _<|Ne.symm b];exact c.d
 .rcases mM k with⟨_,l⟩|⟨_,u,l,K,_⟩
  .exact(c.M p a l G).imp (·.app _) id
  .grind
 .rcases mM k with⟨L,l⟩|⟨_,u,l,K,_⟩
  .rw[g?_old L];exact c.S p a x l I
  .grind
 .obtain⟨e,s,rfl⟩:=Č h;grind [aj3]
def kz.J8(c:kz P Y jj H J T lv lot gs w t):∀g∈gs,awake g:=by
 intro g e;obtain⟨i,f,rfl⟩:=Array.mem_iff_getElem.1 e;let⟨g0,_,b,a,_⟩:=c.r.C i _<|ì f;intro τ d;generalize gs[i]=g at b d;cases b with
 |gl=>rcases a with a|a<;>rw[d]at a<;>cases a
theorem kz.G(K:∀l g,J l g->g.status=ċ\/g.status=ş):∀(T:gw) (s:Nat) (lv:Nat->Nat) (lot:Nat->fe) (gs:Array Ý) (w:ß) (sl:Option (Nat×Nat)) (t:ż),sumTo gs.size lv=s->kz P Y jj H J T lv lot gs w t-> ∃N h b a f e c,Ŷ P N (Ĭ gs w sl) t=(.next<|Ĭ a f e,c)/\a.size=gs.size/\qC (lot 0) (b 0) w f/\kz P Y jj H J .fC h b a f c:=by
 intro T
 induction W5.apply T with
 |intro T _ L=>
  intro s
  induction s using Nat.strongRecOn with
  |_ s M=>
   intro lv lot gs w sl t V c;cases C:T with
   |fC=>
    subst C;exact⟨0,lv,lot,gs,w,sl,t,U,U,qC.fU _ _,c⟩
   |ju k=>
    subst C;have W:=c.C;obtain⟨g0,D⟩:∃g,gs[0]?=Â g:=⟨_,ì Z⟩;have O:g0.status=ċ:=by let⟨S,d,i,_,_⟩:=c.r.C 0 g0 D;grind [afX]
    let⟨i,g,d,e,E,Q,F⟩:=crowd_pick (P:=P) (w:=w) (sl:=sl) c.J8 ⟨0,g0,D,O⟩;by_cases G:i=0
    .subst G;let⟨b,a,f,u,n,j,S,I⟩:=(c.I d).aj4 (sl:=e) K E;let⟨N,o,p,q,r,v,x,y,z,m,B⟩:=L (k<|w.at d) ⟨_,U⟩ _ lv b a f e (t++u) U I;exact⟨N+1,o,p,q,r,v,x,by simp only[Ŷ,F,n];exact y,z.trans j,S.G.fg m,B⟩
    .let⟨h,b,a,u,n,j,I,f,S⟩:=(c.I d).Zw (sl:=e) E G Q;let⟨N,o,p,q,r,v,x,y,z,m,B⟩:=M (sumTo a.size h) (by rw[j];omega) h b a (w.at d) e (t++u) U S;exact⟨N+1,o,p,q,r,v,x,by simp only[Ŷ,F,n];exact y,z.trans j,by rw[f]at m;exact m.G,B⟩
end
section
variable{F:Ph}{E:fT F}{S:Nat->Jd}{tr:Nat->gw}{o:Nat->iA}{f:Nat->fe}{gs:Array Ý}
def PI.jo(p:PI F i zX E S tr o f gs w qJ)(c:E.M=.gf):E.r=F.n+1/\∀x,x<F.n+1->∃N,E.N x=Â (.jo N):=by
 refine⟨(by unfold fT.r;rw[c];rfl),λx g=> ?_⟩;have a:=O9 (p.C.B<|Ç<|Ç c) x g;have j:x<E.M.ad F.n:=by rwa[c]
 unfold fT.G at a;rw[if_pos j]at a;have l:E.M.gC=0:=by rw[c];rfl
 cases d:E.N x with
 |none=>rw[d]at a;simp[lU]at a
 |some e=>
  rw[d]at a;simp only[lU]at a;cases e with
  |oy=>simp[ik.kH]at a
  |jo N=>exact⟨N,U⟩
  |gf q=>
   let⟨h,k⟩:=p.C.N x q d;cases q with
   |jA=>simp[ik.kH,jC.kH]at a
   |iE=>simp[ik.kH,jC.kH]at a
   |gA W=>
    let⟨_,b⟩:=h W<|Ã U;have r:=p.M.C.r;rw[b]at r;have:=(p.C.g W b).2.1;simp only[GS.ok]at r;omega
   |ja W=>
    let⟨_,b⟩:=h W<|Ç U;have r:=p.M.C.r;rw[b]at r;have:=(p.C.g W b).2.1;simp only[GS.ok]at r;omega
   |iB r=>
    let⟨W,_,s,b⟩:=k r U;have:=(p.C.u r s b).2.1;omega
def xt(l:fe):fe:={l with O:=λ_=>False,I:=λ_=>False,r:=λ_=>False,N:=λ_=>False,K:=λ_=>False,q:=True}
def vd(f:Nat->fe)(l:fe):Nat->fe:=λi=>if i=0 then l else xt (f i)
def R9(f:Nat->fe)(l:fe):vd f l 0=l:=rfl
def vD(f:Nat->fe)(l:fe)(h:i≠0):vd f l i=xt (f i):=if_neg h
def Hj{l:fe}(h:i≠0):¬(vd f l i).M b:=by rw[vD f l h];exact λq=>q.elim id id
def Hk{l:fe}(h:i≠0):¬(vd f l i).C a:=by rw[vD f l h];exact λq=>q.elim id id
def iQ.Y{Y I:Nat->Prop}(C:iQ n I Y f w qJ)(u:I 0){l:fe}(v:n<=m)(x:∀b,l.O b->¬l.I b)(y:∀a,l.r a->¬l.N a)(B:∀b,l.M b->¬X b)(D:∀a,l.C a->X a.block)(E:∀b,l.M b->b<w.heap.size)(F:∀b,X b->b<w.heap.size)(G:fG l l.w w)(H:Oa qJ 0 l)(J:l.d=(f 0).d)(t:∀a,l.K a->X a.block/\¬l.r a):iQ m I X (vd f l) w qJ:=by
 refine⟨λi j g L s b o=> ?_,λi j g L s a e=> ?_,λi g b o=> ?_,λi g a e=> ?_,λi g b o=> ?_,λi g a e=> ?_,λi g b o=> ?_,F,λi g=> ?_,λi g=> ?_,λi g=> ?_,C.l,C.q,λp a c N r P=>È (C.s p a c N r P) v,λi g a e=> ?_⟩
 .by_cases h:j=0
  .subst h;exact absurd (Ã o)<|Hj s
  .exact Hj h
 .by_cases h:j=0
  .subst h;exact absurd (Ã e)<|Hk s
  .exact Hk h
 .by_cases h:i=0
  .subst h;exact x b o
  .exact absurd (Ã o)<|Hj h
 .by_cases h:i=0
  .subst h;exact y a e
  .exact absurd (Ã e)<|Hk h
 .by_cases h:i=0
  .subst h;exact B b o
  .exact absurd o<|Hj h
 .by_cases h:i=0
  .subst h;exact D a e
  .exact absurd e<|Hk h
 .by_cases h:i=0
  .subst h;exact E b o
  .exact absurd o<|Hj h
 .by_cases h:i=0
  .subst h;exact G
  .rw[vD f l h];exact⟨(C.r i g).r,λj q=>q.elim (λz=>z.elim) λz=>z.elim,λa q=>q.elim (λz=>z.elim) λz=>z.elim,λa q=>q.elim (λz=>z.elim) λz=>z.elim,λa q=>q.elim⟩
 .by_cases h:i=0
  .subst h;exact H
  .rw[vD f l h];exact⟨λa e=>e.elim,λa e=>e.elim,λa e=>e.elim,λa e=>e.elim⟩
 .by_cases h:i=0
  .subst h;rw[R9,J];exact C.f 0 u
  .rw[vD f l h];exact C.f i g
 .by_cases h:i=0
  .subst h;refine⟨(t a e).1,λk z q=> ?_⟩;by_cases r:k=0
   .subst r;exact(t a e).2 q
   .exact absurd (Ã q)<|Hk r
  .rw[vD f l h]at e;exact e.elim
theorem PI.aj5(p:PI F i zX E S tr o f gs w qJ)(m:E.M=.gf)(r:J4 F zX qJ)(y:F.S=0)(M:1<=F.L): ∃z:Nat->Nat,kz F.P E.Y (λk=>zX k\/∃x:â,k=û x/\x.block=F.C) w.heap.size (F.j E.I) (tr 0) z (vd f<|f 0) gs w qJ:=by
 let⟨B,s⟩:=p.jo m;have O:gs.size=F.L+(F.n+1):=by rw[p.b,B]
 have C:=p.I.r;have c:0<gs.size:=Z
 refine⟨λb=>if h:F.L<=b/\b<F.L+(F.n+1)then Classical.choose (s (b-F.L) Z)else E.h b,Z,⟨?_,λb x t=> ?_,p.I.I⟩,λb Q _=> ?_,p.a.M 0<|Ã U,λq a d D=> ?_,λq a x d G=>Ç<|W3 C.q d G,λa d q u=> ?_,r.2⟩
 .rw[y]at C;exact C.Y c (Ú _) (C.m 0 c) (C.g 0 c) (C.I 0 c) (C.e 0 c) (C.fx 0 c) C.N (C.r 0 c) (C.S 0 c) U λa d=>⟨(C.n 0 c a d).1,(C.n 0 c a d).2 0 c⟩
 .let⟨k,j,l,v,H⟩:=p.I.C b x t;by_cases h:b=0
  .subst h;rw[p.h.1,m]at j;rw[p.h.2,m]at l;exact⟨k,j,l,v,H⟩
  .have T:=(æ.1 t).1;simp only[h,if_false];rw[vD f _ h];have I:∀N,S b=oV F.P N->tr b=.fC->o b=.no->∃k,kT F.P (b==0) (oV F.P N) .fC (xt<|f b) k/\wO k .no x/\(k.status=ċ\/k.status=ş)/\(x=k\/True):=λN z e g=>by
    rw[z,e]at j;rw[g]at l;exact⟨k,λJ _=>j _<|fG.fU _ _,l,v,Ç trivial⟩
   by_cases J:b<F.L
   .let⟨z,e,g⟩:=p.l b Z J;grind
   .have K:F.L<=b/\b<F.L+(F.n+1):=Z
    simp only[K,dif_pos,and_self];let⟨z,e,g⟩:=p.k (b-F.L) _ Z<|Classical.choose_spec<|s (b-F.L) Z;rw[show F.L+(b-F.L)=b by omega]at z e g;exact I _ z (g ⟨_,U⟩) e
 .rw[vD f _ Z];rfl
 .rcases r.1 q a d D with z|⟨z,k⟩;all_goals grind
 .unfold Trace.act? at u;let⟨k,z,g⟩:=ġ.1 u;have:=C.q k<|Array.mem_of_getElem? z;rw[g]at this;have e:a.block<w.heap.size:=this;omega
theorem kz.Y{Y:Nat->Prop}{J:Jd}{s:gw}(c:kz P Y zX n J s D f gs w qJ)(t:(f 0).d=0)(o:gs[0]?=Â g)(u:g.status=ċ){p:Jd}{T:gw}{l:fe}(v:l.w=w)(y:l.d=0)(B:¬l.q)(k:∀b,¬l.I b)(r:∀a,¬l.r a)(m:∀a,¬l.N a)(C:∀a,¬l.K a)(E:∀b,l.O b->b<w.heap.size/\∀x:â,x.block=b->¬zX (û x))(F:kT P Ò p T l g): rA P zX n p T D (vd f l) gs w qJ:=by
 refine⟨c.C,⟨?_,λi x j=> ?_,c.r.I⟩,λi o _=> ?_,B,c.M,c.S,c.b,c.N⟩
 .refine(c.r.r).Y c.C (Ú _) (λb _=>k b) (λa _=>m a) (λ_ _=>id) (λa e=>e.elim (λq=>absurd q<|r a) λq=>absurd q<|m a) (λb z=>z.elim (λq=>(E b q).1) λq=>absurd q<|k b) (λ_ h=>h.elim) (by rw[v];exact fG.fU _ _) ⟨λa e G x j I=> ?_,λa e=>(k _ e).elim,λa e=>(r a e).elim,λa e=>(m a e).elim⟩ (by rw[y,t]) λa e=>absurd e<|C a;rcases c.M G x j (by rw[I];rfl)with z|⟨z,_⟩;all_goals grind
 .by_cases h:i=0
  .subst h;rw[o]at j;obtain rfl:=Ó j;exact⟨g,F,.gl,Ã u,Ã U⟩
  .let⟨g0,e,G,I,z⟩:=c.r.C i x j;simp only[h,if_false]at e z|-;rw[vD f _ h];exact⟨g0,λL _=>e _<|fG.fU _ _,G,I,z⟩
 .rw[vD f _ Z];rfl
end
section
variable{F:Ph}{H:Nat}{J:Jd}{f:Nat->fe}{gs:Array Ý}
structure Sb(F:Ph)(H:Nat)(l0 l:fe)(w:ß):Prop where
 fq:∀b,l.O b->l0.O b/\¬(F.M b\/b=F.Y)
 r:∀b,l.I b->l0.O b/\¬(F.M b\/b=F.Y)/\¬l.O b
 C:∀a,l.r a↔∃x,x<=F.n/\lM F x a
 I:∀a,l.N a↔a=jd F.toFx 0
 k:∀a,l.K a->F.G a
 M:∀b,F.M b\/b=F.Y->l0.O b
 N:∀b,F.M b->H<=b
 g:l.w=w
 d:l.d=0
 q:¬l.q
 S:∀b,F.i b->l.I b
 Y:ia w F.C (.cl 1 0)
 c:ia w (F.I 0) (.cl 0 0)
 e:∀k,1<=k->k<=F.m->ia w (F.I k) (.cl 1 0)
 f:F.d 0 F.l F.i w
def lZ(F:Ph)(D:Nat->Nat)(a:Nat->Nat):fT F where
 M:=.go 0
 S:=.kG 0
 C:=λ_=> .ni 0
 N:=λ_=>Á
 I:=a
 c:=λ_=>F.l
 V:=λk=>if k=0 then F.i else λ_=>False
 e:=λ_=>0
 d:=λ_=>Á
 f:=λ_=>0
 b:=.cl 1 0
 a:=λk=>if k=0 then .cl 0 0 else .cl 1 0
 g:=Á
 h:=D
theorem K0(ok:F.Ok)(h:lM F i a):(∃k,1<=k/\k<=F.m/\a=jd F.toFx k)\/∃p,p≠F.f/\a=jk F p:=by
 unfold lM at h;split at h
 .obtain⟨k,c,d,b|b⟩:=h
  .grind
  .exact Ç ⟨_,ok.Y.1 k c d,b⟩
 .let⟨k,c,_,b⟩:=h;exact Ç ⟨_,ok.Y.2 _ (by assumption),b⟩
def Zx(ok:F.Ok)(h:lM F i (jd F.toFx 0)):False:=by
 rcases K0 ok h with⟨k,c,b,a⟩|⟨p,_,a⟩
 .have:F.I 0=F.I k:=by injection a
  have:=ok.S 0 k Z b this;omega
 .have:F.I 0=F.Y:=by injection a
  exact ok.C<|by rw[<-this];exact Ç ⟨0,Z,U⟩
theorem rA.aj6(X:gP F)(c:rA F.P zX H J .fC D f gs w qJ)(hL:F.L=gs.size)(hB:F.S=0)(E:gs[0]?=Â g){l:fe}(st:Sb F H (f 0) l w)(oX:(f 0).d=0)(u:Nat->Nat)(hgo:F.g 0 u l g): PI F qJ.size zX (lZ F D u) (λi=>if i=0 then F.g 0 u else oV F.P (D i)) (λ_=> .fC) (λ_=> .no) (λi=>if i=0 then l else xt (f i)) gs w qJ:=by
 have S:=X.C;have C:=c.r.r;have j5:=c.C;have T:0<gs.size:=Z
 have y:(lZ F D u).r=0:=U;have hY:∀b,(lZ F D u).Y b↔(F.M b\/b=F.Y):=λb=>by
  constructor
  .rintro(q|q|⟨j,B,_⟩);all_goals grind
  .rintro(q|q)
   .exact Ã q
   .exact Ç<|Ã q
 have Zy:∀a,l.C a->F.M a.block\/a.block=F.Y:=λa o=>by
  rcases o with q|q
  .let⟨x,_,G⟩:=(st.C a).1 q;rcases K0 S G with⟨k,B,t,rfl⟩|⟨p,_,rfl⟩
   .exact Ã<|Ç ⟨k,t,U⟩
   .exact Ç U
  .rw[(st.I a).1 q];exact Ã<|Ç ⟨0,Z,U⟩
 have nC:∀i,i≠0->∀a,¬((λi=>if i=0 then l else xt (f i)) i).C a:=λi h a q=>by simp only[h,if_false]at q;exact q.elim id id
 have nM:∀i,i≠0->∀b,¬((λi=>if i=0 then l else xt (f i)) i).M b:=λi h b q=>by simp only[h,if_false]at q;exact q.elim id id
 have hM0:∀b,l.M b->(f 0).O b/\¬(F.M b\/b=F.Y):=λb q=>q.elim (st.fq b) λz=>⟨(st.r b z).1,(st.r b z).2.1⟩;have Pd:iQ F.S (λi=>i<gs.size) (lZ F D u).Y (λi=>if i=0 then l else xt (f i)) w qJ:=by
  refine⟨λi j E hj N b v=> ?_,λi j E hj N a o=> ?_,λi E b v=> ?_,λi E a o=> ?_,λi E b v=> ?_,λi E a o=> ?_,λi E b v=> ?_,λb v=>C.fx 0 T b<|Ã<|st.M b<|(hY b).1 v,λi E=> ?_,λi E=> ?_,λi E=> ?_,C.l,C.q,λq a e B t I=> ?_,λi E a o=> ?_⟩
  .by_cases h:j=0
   .subst h;simp only[N,if_false]at v;exact v.elim
   .exact nM j h b
  .by_cases h:j=0
   .subst h;simp only[N,if_false]at o;exact o.elim
   .exact nC j h a
  .by_cases h:i=0
   .subst h;simp only[if_true]at v|-;exact λq=>(st.r b q).2.2 v
   .simp only[h,if_false]at v;exact v.elim
  .by_cases h:i=0
   .subst h;simp only[if_true]at o|-;intro q;rw[(st.I a).1 q]at o;let⟨x,_,G⟩:=(st.C _).1 o;exact Zx S G
   .simp only[h,if_false]at o;exact o.elim
  .by_cases h:i=0;all_goals simp_all
  .by_cases h:i=0;all_goals simp_all
  .by_cases h:i=0
   .subst h;simp only[if_true]at v;exact C.fx 0 T b<|Ã (hM0 b v).1
   .simp_all
  .by_cases h:i=0
   .subst h;simp only[if_true];rw[st.g];exact fG.fU _ _
   .simp only[h,if_false];exact⟨(C.r i E).r,λj q=>q.elim (λz=>z.elim) λz=>z.elim,λa q=>q.elim (λz=>z.elim) λz=>z.elim,λa q=>q.elim (λz=>z.elim) λz=>z.elim,λa q=>q.elim⟩
  .by_cases h:i=0
   .subst h;simp only[if_true];have s:=(C.S 0 T).fq;exact⟨λa o=>s a (st.fq _ o).1,λa o=>(s a (st.r _ o).1).r,λa o=>s a<|st.M _<|Zy a<|Ã o,λa o=>(s a<|st.M _<|Zy a<|Ç o).r⟩
   .simp only[h,if_false];exact⟨λa o=>o.elim,λa o=>o.elim,λa o=>o.elim,λa o=>o.elim⟩
  .by_cases h:i=0
   .subst h;simp only[if_true];rw[C.f 0 T,oX,st.d]
   .simp only[h,if_false];exact C.f i E
  .have:=C.s q a e B t I;omega
  .by_cases h:i=0
   .subst h;simp only[if_true]at o;let⟨b,v,s⟩:=st.k a o;have Q:a.block=b:=by rcases s with rfl|rfl<;>rfl
    refine⟨by rw[hY,Q];exact Ã v,λk K q=> ?_⟩;by_cases t:k=0
    .subst t;simp only[if_true]at q;let⟨x,_,G⟩:=(st.C a).1 q;rcases K0 S G with⟨k',_,_,I⟩|⟨p',_,I⟩
     .rcases s with W|W<;>rw[W]at I<;>simp[fN,gV,jd]at I
     .have:a.block=F.Y:=by rw[I];rfl
      exact S.C<|by rwa[<-this,Q]
    .simp only[t,if_false]at q;exact q
   .simp only[h,if_false]at o;exact o.elim
 have Zz:gL F.P F.S (lZ F D u).Y (λi=>if i=0 then F.g 0 u else oV F.P (D i)) (λ_=> .fC) (λ_=> .no) (λi=>if i=0 then l else xt (f i)) gs w qJ:=by
  refine⟨Pd,λi x G=> ?_,c.r.I⟩;by_cases h:i=0
  .subst h;rw[E]at G;obtain rfl:=Ó G;simp only[if_true];exact⟨g,λs r=>X.FV 0 u l g s hgo r,.gl,Ã<|X.I 0 u l g hgo,Ã U⟩
  .let⟨g0,Q,q2,N,q4⟩:=c.r.C i x G;simp only[h,if_false]at Q|-;exact⟨g0,λs _=>Q _<|fG.fU _ _,q2,N,Ç trivial⟩
 have aj7:iH F (lZ F D u) (λi=>if i=0 then l else xt (f i)) gs.size w:=by
  refine⟨λi E a o=> ?_,λx _ t a o=> ?_,λ_=> ?_,λh=>absurd h (by rw[y];omega),λh=>absurd h (by rw[y];omega),λj h=>absurd h (by rw[y];omega),λj h=>absurd h (by rw[y];omega),λx ⟨e,B,_⟩=>(by cases B),λi h=> ?_,λi B t=> ?_,λk K b v=> ?_,λk K i E q=> ?_,λk B t=> ?_,λj h=>absurd h<|by rw[y];omega⟩
  .by_cases h:i=0
   .subst h;simp only[if_true]at o;rcases o with q|q
    .let⟨x,_,G⟩:=(st.C a).1 q;grind [K0]
    .exact Ã ⟨0,Z,(st.I a).1 q⟩
   .simp_all
  .simp only[if_true];exact(st.C a).2 ⟨x,t,o⟩
  .simp only[if_true];exact⟨(st.I _).2 U,st.S⟩
  .rcases h with rfl|⟨x,G,_⟩
   .simp only[if_true];exact st.q
   .grind
  .have:i≠0:=Z
   simp only[this,if_false];rfl
  .have Q:k=0:=by have:k<=0:=K;omega
   subst Q;have B:=st.S b v;refine⟨C.fx 0 T b<|Ã (st.r b B).1,by rw[hY];exact(st.r b B).2.1,λi E q=> ?_⟩;by_cases h:i=0
   .subst h;simp only[if_true]at q;exact(st.r b B).2.2 q
   .simp only[h,if_false]at q;exact q
  .have Q:k=0:=by have:k<=0:=K;omega
   subst Q;by_cases h:i=0
   .subst h;simp only[if_true]at q;let⟨x,_,G⟩:=(st.C _).1 q;exact Zx S G
   .simp only[h,if_false]at q;exact q
  .have:k<=0:=t;omega
 have gg:∀k,k<=F.m->ia w (F.I k) ((lZ F D u).a k):=λk K=>by
  by_cases h:k=0
  .subst h;exact st.c
  .have:(lZ F D u).a k=.cl 1 0:=by simp[lZ,h]
   rw[this];exact st.e k Z K
 have wdd:Wd F (lZ F D u) w:=by
  refine⟨st.Y,gg,λj h=>absurd h (by rw[y];omega),λk K=> ?_,λk B t=> ?_,λj h=>absurd h<|by rw[y];omega⟩
  .have Q:k=0:=by have:k<=0:=K;omega
   subst Q;exact⟨.u9,st.f⟩
  .have:k<=0:=t;omega
 have ZA:∀k,(sumTo F.n λj=>((lZ F D u).C j).gC F j k)=0:=λk=>by
  have:∀n,(sumTo n λ_=>0)=0:=λn=>by
   induction n with
   |zero=>rfl
   |succ n s=>simp[sumTo,s]
  exact this F.n
 have aj8:sumTo (F.n+1) (lZ F D u).G=1:=by
  have B:=wT (f':=(lZ F D u).G) (j:=0) (n:=F.n+1) Z (λi E=>by
   have:¬i<1:=Z
   show(if i<1 then _ else _)=0;rw[if_neg this])
  have t:∀n,(sumTo n λ_=>0)=0:=λn=>by
   induction n with
   |zero=>rfl
   |succ n s=>simp[sumTo,s]
  rw[t]at B;have I:(lZ F D u).G 0=1:=U;omega
 have pss:Ps F (lZ F D u):=by
  refine⟨U,λj h=> ?_,λj h=> ?_,λr=>⟨λh=>(by cases h),λh=>(by cases h)⟩,λ_=>rfl,λk=>⟨λh=> ?_,λh=>(by cases h),λp h=>by cases h⟩,λ_ _=>rfl,λj r h=>absurd h (by rw[y];omega),λj h=>absurd h (by rw[y];omega),λh=>absurd U h,λ_ _=>rfl,λj j' h=>absurd h (by rw[y];omega),λj h=>absurd h (by rw[y];omega),λc reg h=> ?_,λreg h=>(by cases h),λr s h=>(by cases h),λx p h=>(by cases h),λh=> ?_,λk B t I=> ?_,λk B t=> ?_,λj r h=>absurd h (by rw[y];omega),λj r h=>absurd h (by rw[y];omega),λh=>(by cases h),λ_ _=>⟨1,rfl⟩,λ_ _ _=>rfl,λj r h=>absurd h<|by rw[y];omega⟩
  .rcases h with h|h|h|h<;>cases h;omega
  .rcases h with h|h|h<;>cases h
  .cases h;omega
  .cases h;exact⟨aj8.symm,U⟩
  .rcases h with h|h|h<;>cases h
  .rw[ZA];have:k≠0:=Z
   simp[lZ,this]
  .have Q:k=0:=by have:k<=0:=t;omega
   subst Q;exact Ç<|Ç ⟨λp h=>(by cases h),Ã ⟨rfl,ZA 0⟩⟩
 have s:TI F.toFx qJ.size zX (lZ F D u).r (lZ F D u).S.rl (lZ F D u).V (lZ F D u).e (lZ F D u).d (lZ F D u).iw (lZ F D u).f qJ:=by
  refine⟨Ú _,λp a x o Q hc=> ?_,λx h=>absurd h (by rw[y];omega),λk B t=> ?_,λk B t=> ?_,λb v=>c.b _<|st.N b v,λx h=>absurd h (by rw[y];omega),λp a B t=> ?_,λp a _ t I=>c.M p a t I,λp g _ t I W=>c.N p g t I W⟩
  .let⟨b,v,G⟩:=hc;have O8:x.block=b:=by rcases G with rfl|rfl<;>rfl
   rcases c.S p a x o Q with q|q
   .exact Ã ⟨Ox o,q⟩
   .have:=st.N b v;omega
  .have:k<=0:=t;omega
  .have:k<=0:=t;omega
  .have:=Ox t;omega
 refine⟨by rw[y,hL];rfl,Zz,⟨by simp only[if_true];rfl,U⟩,λh=>absurd h (by rw[y];omega),λj h=>absurd h (by rw[y];omega),λx e h=>absurd h (by rw[y];omega),λi B t=>⟨?_,U,U⟩,aj7,wdd,pss,s,λi x G v=> ?_,λj r h=>absurd h<|by rw[y];omega⟩
 .have:i≠0:=Z
  simp only[this,if_false];rfl
 .let⟨g0,_,q2,N,_⟩:=Zz.C i x G;cases q2 with
  |gl=>rcases N with N|N<;>rw[v]at N<;>cases N
end
end Go.Proofs.Y.fv
namespace Go.Proofs.Y.fv
open Go Go.Conc Go.Proofs.Y.Lift Go.RowKit Go.Conc.Lib Go.ConcR.Gen
open Go.Proofs Go.Proofs.YtgpphkdoanciiaaGreatDoor
section
variable{kd:Nat->Int}{R:Nat}
theorem Hl(h:i∈gY kd R):i<R/\kd i=1:=by have:=Ā.1 h;grind
theorem Hm(h:i∈jw kd R):i<R/\kd i≠1:=by have:=Ā.1 h;grind
def aj9:(gY kd R).Nodup:=ņ.filter _
def akb:(jw kd R).Nodup:=ņ.filter _
def BR(h:k<jJ.length):jJ[k]?=Â (jJ.getD k 0):=by simp[List.getD,h]
def vE{l:List Nat}(h:k<l.length):l.getD k 0∈l:=ħ<|BR h
def ZB(c:jJ.Nodup)(a:i<jJ.length)(d:j<jJ.length)(h:jJ.getD i 0=jJ.getD j 0):i=j:=by have b:=BR a;rw[h]at b;exact(List.getElem?_inj a c).1<|b.trans (BR d).symm
def ZC:∀R,(gY kd R).length+(jw kd R).length=R
 |0=>rfl
 |R+1=>by
  have:=ZC R;by_cases h:kd R=1
  .rw[sN h,Rz h];simp;omega
  .rw[vy h,RE h];simp;omega
end
structure xu where
 γ:Type
 C:γ
 M:Nat->γ->γ->Prop
 RD:γ->Ï->(Nat->Prop)->ß->Prop
 I:Nat->ByteArray
 r:Nat->Prop
def K1(M:xu)(L n R:Nat)(kd:Nat->Int)(a g:Nat->Nat)(b c:Option â)(d e f h j l:Nat)(o:List é)(p:Nat->Prop)(RC e8:ß->Prop):SD where
 L:=L
 g:=0
 n:=n
 m:=fL kd R
 q:=(jw kd R).length
 N:=R
 I:=l
 C:=g
 M:=f
 S:=h
 s:=j
 u:=b
 t:=d
 l:=c
 k:=e
 o:=λk=>Â ⟨a<|(gY kd R).getD (k-1) 0,0,Á⟩
 a:=λk=>(gY kd R).getD (k-1) 0
 i:=λi=>Â ⟨a<|(jw kd R).getD i 0,0,Á⟩
 c:=λi=>(jw kd R).getD i 0
 b:=λi=>if i<(jw kd R).length then fL kd ((jw kd R).getD i 0)else 0
 f:=o
 d:=p
 RC:=RC
 p:=e8
 γ:=M.γ
 w:=M.C
 v:=M.r
 h:=M.M
 RD:=M.RD
 e:=λk=>M.I<|(gY kd R).getD (k-1) 0
 j:=λi=>M.I<|(jw kd R).getD i 0
section
variable{M:xu}{L R:Nat}{kd:Nat->Int}{a:Nat->Nat}{c:Option â}{cs:List é}{RB:Nat->Prop}{RC e8:ß->Prop}{l d f:fe}
def akc(h:KQ kd a D R (Æ O (fL kd R) j7) (Æ c (jw kd R).length j6) v j b J i j9 m l d f)(F:∀w p,RC w->(∀g,RB g->p.heap[g]?=w.heap[g]?)->RC p)(G:∀w p,e8 w->(p.os=w.os/\p.output=w.output)->e8 p)(H:∀s B V w p,M.RD s B V w->(∀g,V g->p.heap[g]?=w.heap[g]?)->M.RD s B V p)(I:1<=n)(K:1<=L)(X:n+R<1000):(K1 M L n R kd a D O c j7 j6 j b J i cs RB RC e8).Ok:=by
 have Y:=ZC (kd:=kd) R;have hc:(gY kd R).length=fL kd R:=U;let⟨a1,a2,a3⟩:=h.M;let⟨a4,a5,a6⟩:=h.S;have z:∀k,k<=fL kd R->d.w.heap.size<=D k/\D k<J:=λk r=>⟨(h.r.M k r).1,h.N k r⟩;have RV:=Õ (z 0 Z).1<|Ł (z 0 Z).2;refine⟨F,G,H,I,K,?_,?_,λo=> ?_,λo t=>(Hm<|vE t).1,λk C x=> ?_,λk r e=> ?_,λk u r N e=> ?_,?_,λo i' t P e=>ZB akb t P e,λk u C x h3 Q e=> ?_,λo k t C x e=> ?_,λg _=>ă g⟩
 .show n+(jw kd R).length+fL kd R<1000;omega
 .show R<1000;omega
 .show(if o<(jw kd R).length then fL kd ((jw kd R).getD o 0)else 0)<=fL kd R;split
  .rename_i t;exact Zb<|Ł (Hm<|vE t).1
  .omega
 .refine(Hl<|vE ?_).1;have:k<=fL kd R:=x;omega
 .have:=(z k r).2;have y:D k=i:=e;omega
 .have y:D k=D u:=e;have S:=r;have T:=N;rcases Nat.lt_trichotomy k u with q|q|q
  .have:=h.r.S k u q T;omega
  .exact q
  .have:=h.r.S u k q S;omega
 .rintro(e|⟨k,r,e⟩)
  .have y:j=i:=e;omega
  .have y:j=D k:=e;have:=(z k r).1;omega
 .have W:k<=fL kd R:=x;have h4':u<=fL kd R:=Q;have:=ZB aj9 Z Z e;omega
 .have W:k<=fL kd R:=x;have y:(jw kd R).getD o 0=(gY kd R).getD (k-1) 0:=e;have E:=(Hm<|vE t).2;rw[y]at E;exact E<|(Hl (kd:=kd) (R:=R)<|vE (k:=k-1) Z).2
end
abbrev kA(M:xu)(L n R:Nat)(kd:Nat->Int)(c g:Nat->Nat)(d e:Option â)(f h i a j k:Nat)(cs:List é)(l:fe):SD:=K1 M L n R kd c g d e f h i a j k cs (λb=>l.O b\/b=a) (λw=>∀b,l.O b->w.heap[b]?=l.w.heap[b]?) λw=>w.os=l.w.os/\w.output=l.w.output
def K2(D:SD)(l:fe):fe:={l with O:=λb=>l.O b/\¬(D.Y.M b\/b=D.M)/\¬D.d b,I:=D.d,r:=λa=>∃x,x<=D.n/\lM (D.r Ä) x a,N:=λa=>a=jd D.Y 0,K:=D.Y.G}
section
variable{M:xu}{L:Nat}{f:Nat->Int}{r:Nat->Nat}{u:Option â}{y:Nat}{cs:List é}{l B o:fe}
def K3{cs:Array Ï}(h:w.heap[b]?=Â (É cs e)):w.frozen? ⟨b,i,Á⟩=Ì:=by simp[î,h]
def Sc{cs:Array Ï}(h:w.heap[b]?=Â (É cs e))(a:cs[0]?=Â (Ê ê<|(i:Int)*fY+0))(d:cs[1]?=Â (Ê Ď 0))(f:i<1000000):ia w b (.cl i 0):=by
 refine⟨?_,?_,K3 h,K3 h,(⟨f,Z,λ_=>rfl⟩)⟩
 .simp[Ö,fN,h,a,GS.st]
 .simp[Ö,gV,h,d,GS.sm]
def akd(h:KQ f r D j (Æ O (fL f j) j6) (Æ u (jw f j).length y) v k m j9 b j7 J l B o)(s:gy l)(K4:∀g,¬l.I g)(W:¬l.q)(X:l.d=0)(hH:i<=l.w.heap.size)(hV:∀g,M.r g->l.O g)(qB:M.RD M.C v M.r o.w)(xr:o.w.os=l.w.os/\o.w.output=l.w.output)(hn:1<=n)(hs:n+j<1000){t:Array Ï}(hT:GZ m b (D<|fL f j) n (Æ u (jw f j).length y) t)(dk:Nat->Nat): Sb ((kA M L n j f r D O u j6 y k m j9 b cs l).r Ä) i o (K2 (kA M L n j f r D O u j6 y k m j9 b cs l) o) o.w/\ ((kA M L n j f r D O u j6 y k m j9 b cs l).r Ä).g 0 dk (K2 (kA M L n j f r D O u j6 y k m j9 b cs l) o) (Bs (À<|Â ⟨b,0,Á⟩) jQ (À<|Â ⟨b,0,Á⟩) (ñ #[]) j7 J<|D6 t::cs):=by
 let⟨a1,a2,a3⟩:=h.M;let⟨a4,a5,a6⟩:=h.S;have N:∀C,C<=fL f j->B.w.heap.size<=D C/\D C<j9:=λC E=>⟨(h.r.M C E).1,h.N C E⟩;have RV:=Õ (N 0 Z).1<|Ł (N 0 Z).2;have Y:=λg q=>s.fx g<|Ã q;have hc:(gY f j).length=fL f j:=rfl;have Q:∀g,(kA M L n j f r D O u j6 y k m j9 b cs l).Y.M g\/g=k->g=b\/(∃C,C<=fL f j/\g=D C)\/g=k:=λg q=>by
  rcases q with(q|⟨C,S,q2⟩)|q
  .exact Ã q
  .exact Ç<|Ã ⟨C,S,q2⟩
  .exact Ç<|Ç q
 have H:∀g,(kA M L n j f r D O u j6 y k m j9 b cs l).Y.M g\/g=k->l.w.heap.size<=g/\g≠m/\g≠j9/\g≠j7/\g≠J/\(∀C,(Æ O (fL f j) j6).ownBlock=Â C->g≠C)/\(∀C,(Æ u (jw f j).length y).ownBlock=Â C->g≠C):=λg q=>by
  rcases Q g q with rfl|⟨C,E,rfl⟩|rfl
  .exact⟨Z,Z,Z,Z,Z,λC e=>by have:=h.o3 C e;omega,λC e=>by have:=h.o4 C e;omega⟩
  .have:=N C E;exact⟨Z,Z,Z,Z,Z,λp e z=>(h.r.M C E).2.1<|z▸e,λp e z=>(h.r.M C E).2.2<|z▸e⟩
  .exact⟨Z,Z,Z,Z,Z,λC e=>by have:=(h.r.r C e).2;omega,λC e=>by have:=(h.r.C C e).2;omega⟩
 have ake:∀g,(kA M L n j f r D O u j6 y k m j9 b cs l).Y.M g\/g=k->o.O g:=λg q=>by
  rcases Q g q with rfl|⟨C,E,rfl⟩|rfl
  .exact h.Y.fq
  .by_cases x:C=0
   .subst x;exact h.r.N.fq
   .exact(h.r.I C Z E).fq
  .exact h.I.fq
 have K:∀g,o.O g->l.w.heap.size<=g->g≠m->¬((kA M L n j f r D O u j6 y k m j9 b cs l).Y.M g\/g=k)->(K2 (kA M L n j f r D O u j6 y k m j9 b cs l) o).O g:=λg S q2 q4 q3=>⟨S,q3,λq=>q.elim (λq=>by have:=Y g q;omega) q4⟩;have ZD:ia o.w b (.cl 1 0):=Sc h.Y.I U U Z;have ZE:ia o.w (D 0) (.cl 0 0):=Sc h.r.N.I U U Z;have ZF:∀C,1<=C->C<=fL f j->ia o.w (D C) (.cl 1 0):=λC I P=>Sc (h.r.I C I P).I U U Z;have T:∀g c,ia o.w g c->np g o.w:=λg c q=>⟨by rw[show(⟨g,0,Á⟩:â)=fN g from rfl,q.C];rfl,by rw[show(⟨g,1,Á⟩:â)=gV g from rfl,q.M];rfl⟩;refine⟨⟨λg q=>⟨q.1,q.2.1⟩,λg q=>⟨?_,λz=> ?_,λz=>z.2.2 q⟩,λa=>Iff.rfl,λa=>Iff.rfl,λa q=>q,λg q=>ake g q,λg q=>Õ hH (H g<|Ã q).1,U,h.C.d.trans X,by show¬o.q;rwa[h.C.q],λg q=>Ã<|hV g q,ZD,ZE,ZF,⟨⟨v,h.r.N.C U,qB⟩,λ_=> ?_⟩⟩,?_⟩
 .rcases q with q|q
  .exact h.C.O g q
  .rw[q];exact h.a.fq
 .rcases q with q|q
  .have:=(H g z).1;have:=Y g q;omega
  .exact(H g z).2.1 q
 .refine⟨?_,by unfold kN;rw[show o.w.heap[(kA M L n j f r D O u j6 y k m j9 b cs l).M]?=Â (xn j)from h.I.I],xr⟩;show o.w.cell? ⟨k,j,Á⟩=Á;simp only[Ö,h.I.I,xn,ı,Ķ,if_false];exact Array.getElem?_eq_none<|by rw[ř];exact Ú _
 refine⟨h.C.d.trans X,by show¬o.q;rwa[h.C.q],ă _,Ã ⟨U,⟨λg q=>⟨⟨g,q,Ã U⟩,⟨g,q,Ç U⟩⟩,λg q=> ?_,Ç<|Ç U,h.a.C U,(Ã<|K j9 h.c.fq Z Z λz=>(H j9 z).2.2.1 U),h.c.C U,λC E=> ?_,λe hi=> ?_,λa q=> ?_,λg q=>Ç q,λg q=>h.C.r g (Ã q) id⟩,t,j7,J,jQ,hT,⟨(K j7 h.d.fq Z Z λz=>(H j7 z).2.2.2.1 U),h.d.I⟩,⟨(K J h.b.fq Z Z λz=>(H J z).2.2.2.2.1 U),h.b.I⟩,U⟩⟩
 .rcases Q g (Ã q)with rfl|⟨C,E,rfl⟩|rfl
  .exact T _ _ ZD
  .by_cases x:C=0
   .subst x;exact T _ _ ZE
   .exact T _ _<|ZF C Z E
  .exact absurd q λz=>by
    rcases z with z|⟨C,x,F⟩
    .have G:g=b:=z;omega
    .have G:g=D C:=F;have:=(N C x).1;omega
 .have tw:C<fL f j:=E;rcases h.r.jI.2 with⟨_,e2⟩|⟨g,cap,cur,V,_,hcur,Hd⟩
  .omega
  .have zd:O=Â ⟨g,0,Á⟩:=by injection V
   subst zd;have x:=h.r.jI.cells U;have hz:(gY f j).zipIdx[C]?=Â ((gY f j).getD C 0,C):=by rw[List.getElem?_zipIdx,BR Z];simp
   have F:∀c,c<4->(jI f r D j)[C*4+c]?=(tI r D ((gY f j).getD C 0,C))[c]?:=λc q=>RH (λ_=>rfl) q _ C _ hz;have G:∀p,(⟨g,0,Á⟩:â).add p=⟨g,p,Á⟩:=λp=>by rw[ğ,č]
   refine⟨g,U,Ã (K g (h.r.r g U).1 (Õ Z (h.r.r g U).2) (by have:=(h.r.r g U).2;omega) λz=>(H g z).2.2.2.2.2.1 g U U),?_,?_,?_,?_⟩
   .have:=x (C*4+0) _<|F 0 Z;rwa[G]at this
   .have:=x (C*4+1) _<|F 1 Z;rwa[G]at this
   .have:=x (C*4+2) _<|F 2 Z;rwa[G]at this
   .have:=x (C*4+3) _<|F 3 Z;rwa[G]at this
 .have lk:e<(jw f j).length:=hi;rcases h.r.mD.2 with⟨_,e2⟩|⟨g,cap,cur,V,_,hcur,Hd⟩
  .omega
  .have R6:u=Â ⟨g,0,Á⟩:=by injection V
   subst R6;have x:=h.r.mD.cells U;have F:∀c,c<4->(mD f r D j)[e*4+c]?=(tQ f r D<|(jw f j).getD e 0)[c]?:=λc q=>RH (λ_=>rfl) q _ e _<|BR lk;have G:∀p,(⟨g,0,Á⟩:â).add p=⟨g,p,Á⟩:=λp=>by rw[ğ,č]
   refine⟨g,U,Ã (K g (h.r.C g U).1 (Õ Z (h.r.C g U).2) (by have:=(h.r.C g U).2;omega) λz=>(H g z).2.2.2.2.2.2 g U U),?_,?_,?_,?_⟩
   .have:=x (e*4+0) _<|F 0 Z;rwa[G]at this
   .have:=x (e*4+1) _<|F 1 Z;rwa[G]at this
   .have:=x (e*4+2) _<|F 2 Z;rw[G]at this;show o.w.cell? ⟨g,e*4+2,Á⟩=Â (À<|Â ⟨D (if e<(jw f j).length then fL f ((jw f j).getD e 0)else 0),0,Á⟩);rw[if_pos lk];exact this
   .have:=x (e*4+3) _<|F 3 Z;rwa[G]at this
 .have V:∀p,p<j->(o.w.cell? ⟨k,p,Á⟩).isSome=Ò/\o.w.frozen? ⟨k,p,Á⟩=Ì:=λp hp=>by
   refine⟨?_,K3 h.I.I⟩;have:p<(madeCells (Ŵ<|à ⟨#[]⟩) j).size:=by rwa[ř]
   simp[Ö,h.I.I,this]
  let⟨x,_,F⟩:=q;unfold lM at F;split at F
  .obtain⟨C,I,P,rfl|rfl⟩:=F
   .have G:=P;refine⟨?_,K3 (h.r.I C I G).I⟩;show(o.w.cell? ⟨D C,2,Á⟩).isSome=Ò;rw[(h.r.I C I G).C U];rfl
   .have G:C<=fL f j:=P;exact V _ (Hl<|vE Z).1
  .obtain⟨e,I,_,rfl⟩:=F;exact V _ (Hm<|vE I).1
end
end Go.Proofs.Y.fv
namespace Go.Proofs.Y.fv
open Go Go.Conc Go.Proofs.Y.Lift Go.RowKit Go.Conc.Lib Go.ConcR.Gen
open Go.Proofs Go.Proofs.YtgpphkdoanciiaaGreatDoor
open Go.ConcN (sumTo sumTo_congr)
def K5(kd:Nat->Int)(f:Nat->Nat)(R n:Nat)(h:Ï)(l:fe)(cs:List é):Jd:=λi j=>
 ∃g k t m b o c p a d e q,KQ kd f g R m b h o c p a d e l k i/\GZ c a (g<|fL kd R) n b t/\j=Bs (À<|Â ⟨a,0,Á⟩) q (À<|Â ⟨a,0,Á⟩) (ñ #[]) d e (D6 t::cs)
theorem ZG(h:w.ownsRow i e j v n l):∃b c,v=Æ b n c:=by rcases h.2 with⟨a,d⟩|⟨b,f,g,a,_⟩;all_goals grind
section
variable{F:Ph}{E:fT F}{S:Nat->Jd}{B:Nat->gw}{G:Nat->iA}{y:Nat->fe}{o:Array Ý}
theorem PI.akf(p:PI F j9 zX E S B G y o w qJ)(c:E.M=.gf)(d:1<=F.n):E.S=.kG F.m/\(∀i,i<F.q->w.cell? (jk F<|F.a i)=Â (à<|F.k i)/\∀k,k<o.size->¬(y k).r (jk F<|F.a i)):=by
 let⟨j,a⟩:=p.jo c;refine⟨p.C.f (by let⟨N,h⟩:=a 0 Z;rw[h];simp),λi k=> ?_⟩;have l:i%F.n<F.n:=ĵ _ d;have e:i%F.n+i/F.n*F.n=i:=by rw[Nat.mul_comm];exact Nat.mod_add_div i F.n
 let⟨N,h⟩:=a (i%F.n+1) Z;let⟨_,r,f,g⟩:=p.C.l (i%F.n) Z (by rw[h];simp);have b:i/F.n<(E.C<|i%F.n).kv:=by rw[f];exact(g (i/F.n)<|by rwa[e])
 have s:=p.M.N (i%F.n) Z (i/F.n) (by rwa[e]) b;have t:=p.a.d (i%F.n) Z (i/F.n) (by rwa[e]) b;grind
end
structure akg(D:SD)(l:fe)(w:ß)(g:Ý):Prop where
 I:∀b,l.O b->w.heap[b]?=l.w.heap[b]?
 cba:w.cell? ⟨D.S,0,Á⟩=Â (Æ (Â ⟨D.M,0,Á⟩) D.N D.N)
 kG:∀k,1<=k->k<=D.m->w.cell? ⟨D.M,D.a k,Á⟩=Â (à<|D.e k)
 Sd:∀i,i<D.q->w.cell? ⟨D.M,D.c i,Á⟩=Â (à<|D.j i)
 Hn:∃s sl V,nj (D.r Ä) D.m s/\w.cell? ⟨D.C D.m,2,Á⟩=Â sl/\D.RD s sl V w/\∀b,V b->b<w.heap.size/\b≠D.I
 fx:D.M<w.heap.size/\D.S<w.heap.size/\D.C D.m<w.heap.size
 r:D.M≠D.I/\D.S≠D.I/\D.C D.m≠D.I
 Se:∃ts,SE D.S D.I (D.C D.m) ts/\g=Ea ts D.f
 C:w.cell? ⟨D.M,D.N,Á⟩=Á/\kN w D.M=Â (0,0)
 io:w.os=l.w.os/\w.output=l.w.output
section
variable{M:xu}{f:Nat->Int}{u:Nat->Nat}{cs:List é}{l:fe}{I:Nat->Nat}{y:Nat->fe}{o:Array Ý}
theorem akh(c:rA Ä zX j (K5 f u J n v l cs) .fC I y o w qJ)(S:Option (Nat×Nat))(s:gy l)(K4:∀b,¬l.I b)(hq:¬l.q)(hd:l.d=0)(hH:j<=l.w.heap.size)(hV:∀b,M.r b->l.O b)(qB:∀s S V w G,M.RD s S V w->(∀b,V b->G.heap[b]?=w.heap[b]?)->M.RD s S V G)(BS:M.RD M.C v M.r l.w)(xr:w.os=l.w.os/\w.output=l.w.output)(hn:1<=n)(hs:n+J<1000) (hA:∀g r t B D e m p h,l.w.heap.size<=m->Eb (kA M o.size n J f u g r t B D e m p h cs l)/\Ec (kA M o.size n J f u g r t B D e m p h cs l)): ∃g r t B D e m p h,(l.w.heap.size<=e/\l.w.heap.size<=m/\l.w.heap.size<=h/\∀k,k<=fL f J->l.w.heap.size<=g k)/\ ∃N Y a H C i G K E z,Ŷ Ä N (Ĭ o w S) qJ=(.next<|Ĭ i G K,E)/\i.size=o.size+(n+1)/\i[0]?=Â z/\a<=G.heap.size/\h<a/\j<=a/\(C 0).d=0/\z.status=ċ/\ kz Ä Y (λF=>zX F\/∃x:â,F=û x/\x.block=h) a (Zo<|kA M o.size n J f u g r t B D e m p h cs l) .fC H C i G E/\akg (kA M o.size n J f u g r t B D e m p h cs l) l G z:=by
 have h0:=c.C;obtain⟨g0,wZ⟩:∃g,o[0]?=Â g:=⟨_,ì h0⟩;let⟨g1,q1,q2,q3,_⟩:=c.r.C 0 g0 wZ;obtain rfl:g0=g1:=by cases q2;rfl
 have hz:=q1 w<|c.r.r.r 0 h0;let⟨g,lp,tt,iv,qv,e,m,p,h,bw,bf,T,F,hT,hg⟩:=hz;obtain⟨r,B,rfl⟩:=ZG F.r.jI;obtain⟨t,D,rfl⟩:=ZG F.r.mD;let⟨a1,a2,a3⟩:=F.M;let⟨a4,a5,a6⟩:=F.S;have Sf:∀k,k<=fL f J->lp.w.heap.size<=g k/\g k<p:=λk W=>⟨(F.r.M k W).1,F.N k W⟩;have atN:=Sf 0 Z;have aki:=qB _ _ _ _ _ BS λb q=>F.C.r b (Ã<|hV b q) id;obtain⟨st,hgo⟩:=akd F s K4 hq hd hH hV aki xr hn hs hT λ_=>0;have ok:=akc (L:=o.size) (cs:=cs) (RB:=λb=>l.O b\/b=m) (RC:=λw=>∀b,l.O b->w.heap[b]?=l.w.heap[b]?) F (λw G P X b a=>(X b<|Ã a).trans<|P b a) (e8:=λw=>w.os=l.w.os/\w.output=l.w.output) (λw G P X=>⟨X.1.trans P.1,X.2.trans P.2⟩) qB hn Z hs;let⟨hAdd,akj⟩:=hA g r t B D e m p h Z;have Hy:=aj0 ok hAdd akj;have BG:=F.C.d.trans hd;have st':Sb ((kA M o.size n J f u g r t B D e m p h cs l).r Ä) j (y 0) (K2 (kA M o.size n J f u g r t B D e m p h cs l) {y 0 with w:=w}) w:=⟨st.fq,st.r,st.C,st.I,st.k,st.M,st.N,st.g,st.d,st.q,st.S,st.Y,st.c,st.e,st.f⟩;rw[<-hg]at hgo;have p0:=c.aj6 Hy U U wZ st' BG (λ_=>0) hgo;let⟨N1,E,S1,tr1,kp1,atO,gs1,w1,ZH,t1,r1,x,hf,he⟩:=ahR Hy _ _ _ _ _ _ _ o w S qJ U U p0 (by intro q;cases q);let⟨ox,_⟩:=x.jo hf;let⟨zn,c1⟩:=x.aj5 hf he U h0;let⟨N2,K6,Sg,gs2,w2,K7,t2,r2,z2,N,c2⟩:=c1.G (λa i z=>Ã<|Hy.M E.I a i z) (tr1 0) _ zn _ gs1 w1 ZH t1 U;have Ed:gs1.size=o.size+(n+1):=by rw[x.b,ox];rfl
 have K8:=c2.C;obtain⟨g2,K9⟩:∃g,gs2[0]?=Â g:=⟨_,ì K8⟩;let⟨g3,u1,u2,u3,_⟩:=c2.r.C 0 g2 K9;obtain rfl:g2=g3:=by cases u2;rfl
 have hE:=u1 w2<|c2.r.r.r 0 K8;let⟨e1,e2,dat,ts,qD,hge⟩:=hE;have Q:0<gs1.size:=Z
 have C:=x.I.r;have hY:=λb q z=>C.I 0 Q b (Ã z) q;have H:E.Y e:=Ç<|Ã U;have yG:∀k,k<=fL f J->E.Y (g k):=λk W=>Ã<|Ç ⟨k,W,U⟩;have ZI:E.Y h:=Ã<|Ã U;let⟨hip,akk⟩:=x.akf hf hn;have hmd:E.S.md=fL f J:=by rw[hip];rfl
 let⟨Gl,⟨ZJ,Si,La⟩,_⟩:=x.M.M (fL f J) Z;have K:=C.N;refine⟨g,r,t,B,D,e,m,p,h,⟨a1,Z,Z,λk W=>by have:=Sf k W;omega⟩,N1+N2,E.Y,w1.heap.size,K6,Sg,gs2,w2,K7,t2,g2,?_,Z,K9,N.r,K h ZI,?_,e1,Hy.M E.I _ _<|u1 w2<|c2.r.r.r 0 K8,c2,⟨dat.e,dat.d,λk P X=> ?_,λi hi=> ?_,?_,?_,(⟨show e≠h by omega,show m≠h by omega,show g (fL f J)≠h by have:=Sf (fL f J)<|Ú _;omega⟩),⟨ts,qD,hge⟩,?_,?_⟩⟩
 .rwa[runNT_add,show Ŷ Ä N1 (Ĭ o w S) qJ=_ from r1]
 .grind
 .have a:k<=fL f J:=X;refine Ŀ (N.M ⟨e,_,Á⟩ (K e H) (hY e H)<|x.a.g k P Z 0 Q)<|x.M.S k P Z
 .let⟨T,v2⟩:=akk i hi;exact Ŀ (N.M ⟨e,_,Á⟩ (K e H) (hY e H)<|v2 0 Q) T
 .refine⟨E.c<|fL f J,ZJ,E.V<|fL f J,Gl,(Ŀ (N.M ⟨g<|fL f J,2,Á⟩ (K _<|yG _<|Ú _) (hY _<|yG _<|Ú _)<|x.a.N (fL f J) Z 0 Q) Si),qB _ _ _ _ _ La λb q=> ?_,λb q=> ?_⟩
  .let⟨T,v2,v3⟩:=x.a.I (fL f J) Z b q;exact N.jN b T (v3 0 Q) λa ha z=>v2<|ha▸C.e 0 Q a (Ã z)
  .let⟨T,v2,v3⟩:=x.a.I (fL f J) Z b q;exact⟨È T N.r,λz=>v2<|z▸ZI⟩
 .refine⟨È (K e H) N.r,c2.r.r.fx 0 K8 m<|Ç dat.c,È (K _<|yG _<|Ú _) N.r⟩
 .let⟨a,y2,_⟩:=(x.M.M 0<|ă _).2.2 U;exact⟨Ŀ (N.M ⟨e,J,Á⟩ (K e H) (hY e H)<|x.a.OA Hy.C 0 Q) a,(N.Y e (K e H)<|hY e H).trans y2⟩
 .let⟨_,_,a⟩:=(x.M.M 0<|ă _).2.2 U;exact⟨N.C.trans a.1,N.I.trans a.2⟩
end
def Sj(a:Ν->Prop)(w:ß):fe where
 O:=λb=>b<w.heap.size/\∀x:â,x.block=b->¬a (û x)
 I:=λ_=>False
 r:=λ_=>False
 N:=λ_=>False
 K:=λ_=>False
 q:=False
 d:=0
 w:=w
def ZK(a:Ν->Prop)(w:ß):gy (Sj a w):= ⟨λ_ _ h=>h,λ_ h=>h.elim,λ_ h=>h.elim (λq=>q.elim) λq=>q.elim,λ_ h=>h.elim (λq=>q.1) λq=>q.elim,λ_ h=>h.elim (λq=>q.elim) λq=>q.elim,λ_ h=>h.elim⟩
structure vF(jj:Ν->Prop)(H:Nat)(l:fe):Prop where
 r:∀x:â,jj (û x)->x.block<H
 fq:∀b,l.O b->∀x:â,x.block=b->¬jj (û x)
 C:H<=l.w.heap.size
inductive zo(M:xu):Nat->M.γ->Prop
 |u9:zo M 0 M.C
 |C8 {k:Nat} {s s':M.γ} (h:zo M k s) (hn:M.M k s s'):zo M (k+1) s'
structure FH(M:xu)(R:Nat)(kd:Nat->Int)(l:fe)(an:Nat)(sl:Ï)(l':fe):Prop where
 vg:∀b,l.O b->l'.O b/\l'.w.heap[b]?=l.w.heap[b]?
 kv:l'.O an/\∀p,p<R->l'.w.cell? ⟨an,p,Á⟩=Â (à<|M.I p)
 Hn:∃s V,zo M (fL kd R) s/\M.RD s sl V l'.w/\∀b,V b->l'.O b
 d:l'.d=0
 q:¬l'.q
 rd:∀b,¬l'.I b
 zp:(∀a,¬l'.r a)/\(∀a,¬l'.N a)/\∀a,¬l'.K a
 CP:l'.w.cell? ⟨an,R,Á⟩=Á/\kN l'.w an=Â (0,0)
section
variable{M:xu}{R H:Nat}{kd:Nat->Int}{e:Nat->Nat}{f:List é}{l:fe}{jj:Ν->Prop}{o:Nat->fe}
def akl{a:Option â}{s:M.γ}(h:nj ((kA M i n R kd e D O a j b m J j9 j7 qX l).r Ä) k s):zo M k s:=by
 have c:∀(k:Nat) (s:((kA M i n R kd e D O a j b m J j9 j7 qX l).r Ä).γ),nj ((kA M i n R kd e D O a j b m J j9 j7 qX l).r Ä) k s->zo M k s:=λk s h=>by
  induction h with
  |u9=>exact .u9
  |C8 _ d f=>exact .C8 f d
 exact c k s h
def akm{J:(Ν->Prop)->Nat->Jd}{cf:é}{a:ŏ}(Gi:qX=cf.at a (Ñ Q (i::jJ)::L)::f)(c:rA Ä jj H (K5 kd e R n v l qX) .fC D o E w qJ)(F:Option (Nat×Nat))(s:gy l)(K4:∀b,¬l.I b)(hq:¬l.q)(hd:l.d=0)(S:vF jj H l)(hV:∀b,M.r b->l.O b)(qB:∀s F V w u,M.RD s F V w->(∀b,V b->u.heap[b]?=w.heap[b]?)->M.RD s F V u)(akn:∀s F V w,M.RD s F V w->(∃p m c,F=Æ p m c)/\∀b,V b->l.O b\/l.w.heap.size<=b)(BS:M.RD M.C v M.r l.w)(xr:w.os=l.w.os/\w.output=l.w.output)(hn:1<=n)(hs:n+R<1000) (hA:∀g ib qb ci cq B ba bi I,l.w.heap.size<=ba->Eb (kA M E.size n R kd e g ib qb ci cq B ba bi I qX l)/\Ec (kA M E.size n R kd e g ib qb ci cq B ba bi I qX l)) (hJ:∀Ee C W B p m c,vF Ee C W->gy W->FH M R kd l B (Æ p m c) W->fj Ä Ò (J Ee C) W (G (cf.at (a.put ((Q[i]?).bind (·.dst))<|ñ #[Æ (Â ⟨B,0,Á⟩) R R,Æ p m c])<|Ñ Q jJ::L) f)): ∃N Ee C T jx Ho gs' u sP t',Ŷ Ä N (Ĭ E w F) qJ=(.next<|Ĭ gs' u sP,t')/\(u.os=l.w.os/\u.output=l.w.output)/\rA Ä Ee C (J Ee C) T jx Ho gs' u t':=by
 let⟨g,ib,qb,ci,cq,B,ba,bi,I,⟨b1,b2,b3,b4⟩,N,Y,C,jx,Ho,gs',u,sP,t',g',r,z1,z2,z3,z4,z5,z6,z7,cY,t⟩:=akh c F s K4 hq hd S.C hV qB BS xr hn hs hA;let⟨st,ZJ,V,Gl,Si,La,Lb⟩:=t.Hn;obtain⟨⟨sp,sm,sc,rfl⟩,ZL⟩:=akn _ _ _ _ La;obtain⟨ts,qD,rfl⟩:=t.Se;have hH:=S.C;have ZM:=λb q=>s.fx b<|Ã q;have X:∀b,(l.O b\/l.w.heap.size<=b)->b<u.heap.size->b≠I->(Sj (λj=>jj j\/∃x:â,j=û x/\x.block=I) u).O b:=λb hb gQ lr=>by
  refine⟨gQ,λx hx=> ?_⟩;rintro(q|⟨y,P,q2⟩)
  .rcases hb with hb|hb
   .exact S.fq b hb x hx q
   .have:=S.r x q;omega
  .injection P with P;subst P;omega
 have ako:=λb q=>by have h:=t.I b q;rw[ì<|ZM b q]at h;exact(æ.1 h).1
 have keep:=λb q=>X b (Ã q) (ako b q) (by have:=ZM b q;omega);have Lc:=X B (Ç b1) t.fx.1 t.r.1;have akp:fj Ä Ò (J (λj=>jj j\/∃x:â,j=û x/\x.block=I) C) (Sj (λj=>jj j\/∃x:â,j=û x/\x.block=I) u) (Ea ts qX):=by
  rw[Gi];refine ajG (ZK _ _) (λq=>q) qD (Ã<|X ba (Ç b2) t.fx.2.1 t.r.2.1) (Ã<|Ã<|X _ (Ç<|b4 _<|Ú _) t.fx.2.2 t.r.2.2) t.cba Si λW h=> ?_;refine hJ (λj=>jj j\/∃x:â,j=û x/\x.block=I) C W B sp sm sc ⟨λx q=> ?_,λb q x hx=> ?_,Õ z3 h.I⟩ (h.N<|ZK _ _) ⟨λb q=>⟨h.O b<|keep b q,(h.r b (Ã<|keep b q) id).trans<|t.I b q⟩,⟨h.O B Lc,λp hp=> ?_⟩,⟨st,V,akl Gl,qB _ _ _ _ _ La λb q=>h.r b (Ã<|X b (ZL b q) (Lb b q).1 (Lb b q).2) id,λb q=>h.O b<|X b (ZL b q) (Lb b q).1 (Lb b q).2⟩,h.d,?_,λb q=> ?_,⟨λa q=> ?_,λa q=> ?_,λa q=> ?_⟩,⟨(gK<|h.r B (Ã Lc) id).trans t.C.1,(wL<|h.r B (Ã Lc) id).trans t.C.2⟩⟩
  .rcases q with q|⟨y,P,q2⟩
   .exact È (S.r x q) z5
   .injection P with P;subst P;omega
  .rcases h.c b q with q|q
   .exact q.2 x hx
   .have j:u.heap.size<=b:=q;rintro(z|⟨y,z1,z2⟩)
    .have:=S.r x z;omega
    .injection z1 with z1;subst z1;omega
  .refine(gK<|h.r B (Ã Lc) id).trans ?_;by_cases hk:kd p=1
   .have hm:p∈gY kd R:=Ā.2 ⟨Ē.2 hp,by simpa using hk⟩;let⟨j,y⟩:=Ĩ hm;have P:=(Ĕ.1 y).1;have:=t.kG (j+1) Z (show j+1<=fL kd R from P);have e2:(gY kd R).getD (j+1-1) 0=p:=Ó<|(BR P).symm.trans y;simp only[kA,K1,e2]at this;exact this
   .have hm:p∈jw kd R:=Ā.2 ⟨Ē.2 hp,by simpa using hk⟩;let⟨j,y⟩:=Ĩ hm;have P:=(Ĕ.1 y).1;have:=t.Sd j P;simp only[kA,K1,Ó<|(BR P).symm.trans y]at this;exact this
  .rw[h.q];exact id
  .rw[h.S]at q;exact q
  .rw[h.Y]at q;exact q
  .rw[h.b]at q;exact q
  .rw[h.K]at q;exact q
 let⟨T,h⟩:=ji akp;exact⟨N,_,C,T,jx,_,gs',u,sP,t',r,t.io,cY.Y z6 z2 z7 U U id (λ_=>id) (λ_=>id) (λ_=>id) (λ_=>id) (λb q=>q) h⟩
end
end Go.Proofs.Y.fv
namespace Go.Proofs.Y.fv
open Go Go.Conc Go.Proofs.Y.Lift Go.RowKit Go.Conc.Lib Go.ConcR.Gen
open Go.Proofs Go.Proofs.YtgpphkdoanciiaaGreatDoor
def pU(V:Nat->Prop)(base:Nat):ft:=⟨λi j=>i=j/\V i,base⟩
def akq(V:Nat->Prop)(base:Nat):Bi (pU V base):= ⟨λ_ _ _ h k=>h.1.symm.trans k.1,λ_ _ _ h k=>h.1.trans k.1.symm,λi j h=>by rw[h.1]⟩
def ll(j:Nat):Bool:=j==3||j==4
def uy(c:Array Ï):Array Ï:=c.extract 0 16
def akr(c:Array Ï):(uy c).size=min 16 c.size:=by simp[uy]
open Classical in
noncomputable def pd (a:Nat->Prop) (j:Nat):Ÿ->Ÿ
 |É c e b=>if a j then(if ll j=Ò then É (uy c) e (0,(uy c).size)else É c e (0,c.size))else É c e b
 |_=>É #[] 0
noncomputable def kX (Sh:Nat->Prop) (w:ß):ß:={w with heap:=w.heap.mapIdx (pd Sh)}
section
variable{V Sh:Nat->Prop}{base:Nat}
def Ef(j:Nat):(kX Sh w).heap[j]?=(w.heap[j]?).map (pd Sh j):=by simp[kX,Array.getElem?_mapIdx]
def ZN:j4 (kX Sh w):=λi o h=>by
 rw[Ef]at h;obtain⟨x,_,rfl⟩:=ġ.1 h;cases x<;>simp only[pd]<;>try exact id
 split
 .split<;>exact id
 .exact id
structure Ld(V Sh:Nat->Prop)(base:Nat)(w:ß):Prop where
 Se:∀b,V b->∃c e fr,w.heap[b]?=Â (É c e fr)/\fr.2<=c.size/\fR (pU V base) c c/\(Sh b->0<c.size/\(ll b=Ò->(e=304\/e=305)/\fr.2<=16)/\(ll b=Ì->CL c))
 fx:base<=w.heap.size
def aks(h:Ld V Sh base w):qW (pU V base) Sh (kX Sh w) w:=by
 refine⟨U,U,akq V base,by show base<=(w.heap.mapIdx<|pd Sh).size;rw[Array.size_mapIdx];exact h.fx,h.fx,λi j o=> ?_⟩;obtain⟨rfl,p⟩:=o;let⟨c,e,a,b,l,f,r⟩:=h.Se i p;have g:(kX Sh w).heap[i]?=Â (pd Sh i<|É c e a):=by rw[Ef,b];rfl
 by_cases s:Sh i
 .let⟨t,u,v⟩:=r s;cases d:ll i with
  |true=>
   let⟨x,y⟩:=u d;have z:=akr c;have m:Ff e (uy c).size:=⟨x,Z⟩;refine⟨uy c,c,e,(0,(uy c).size),a,?_,b,⟨λk B n=> ?_,Z,Ç ⟨s,m⟩⟩,λ_=>⟨U,Ú _,by show a.2<=(uy c).size;omega,Z,Ç m⟩,λq=>absurd s q,Ú _⟩
   .show(kX Sh w).heap[i]?=_;rw[g];simp[pd,s,d]
   .have:(uy c)[k]=c[k]:=by simp[uy]
    rw[this];exact f.C k n n
  |false=>
   refine⟨c,c,e,(0,c.size),a,?_,b,oN.M f,λ_=>⟨U,Ú _,l,t,Ã<|v d⟩,λq=>absurd s q,Ú _⟩;rw[g];simp[pd,s,d]
 .refine⟨c,c,e,a,a,?_,b,oN.M f,λq=>absurd q s,λ_=>rfl,l⟩;rw[g];simp[pd,s]
end
section
variable{a:Nat->Prop}{l:fe}{V:Nat->Prop}
theorem Eg(y:nG P)(B:oS P a X)(hF:tq P X)(C:wI vQ){k:Array Ï}(D:X F)(E:P.funcs[F]?=Â s)(H:s.body=Â wX)(r:gy l)(I:¬l.q) (n:∀b,V b->l.M b) (J:Ld V (λj=>V j/\¬l.O j) P.globals.size l.w) (K:∀g,a g->V g) (L:fR (pU V P.globals.size) k k) (N:∀T,Calls P F k (World.tp (kX (λj=>V j/\¬l.O j) l.w) T 0) fun|.returned v,e=>vQ v e/\j4 e|_,_=>False) (t:Bool) (o:é) (p:List é): fj P t (λh u=>∃(Y:ft) (e:ß) (v m:Ï),(pU V P.globals.size).r Y/\qW Y (λj=>V j/\¬l.O j) e h.w/\fl Y v m/\vQ v e/\u=G (o.finish m) p/\(∀i j,Y i j->h.M j/\(V j\/l.O j\/l.w.heap.size<=j))/\(∀j,l.O j->h.O j)/\h.d=l.d) l (G (Ă P F k Ğ)<|o::p):=by
 refine(afS (aeT y B hF C D E H ZN N (Y:=pU V P.globals.size) U (λg q=>⟨U,K g q⟩) L (aks J) (λj q=>r.fx j<|n j q.1) (λi j _ q=>(n j q.1).resolve_left q.2) t o p) l U (λj q=> ?_) (λ_ q=>q) (λj q=>r.fx j<|Ã q) I).fO ?_
 .obtain⟨⟨i,rfl,x⟩,Q⟩:=q;grind
 .rintro h u ⟨O',⟨Y,e,v,m,S,rfl,W,q3,q4,q5⟩,Q,h3,h4,h5,h6,h7,h8,h9,h10,h11,h12⟩;refine⟨Y,e,v,m,S,W,q3,q4,q5,λi j Sk=> ?_,h4,h10⟩;by_cases z:V j/\¬l.O j
  .exact⟨Ç (by rw[h7];exact(n j z.1).resolve_left z.2),Ã z.1⟩
  .have x:=h3 j ⟨⟨i,Sk⟩,z⟩;exact⟨Ã x,Ç<|h6 j x⟩
end
section
variable{l:fe}{V GL:Nat->Prop}
def Eh(s:gy l):gy (lX l):=by refine⟨λ_ h=>h.elim,λ_ h=>h.elim,λa c d=>s.N a (c.resolve_left id)<|d.resolve_left id,λb d=>s.fx b<|d.resolve_left id,λa c=>s.I a<|c.resolve_left id,λa c=>⟨λq=>(s.S a c).1<|q.resolve_left id,(s.S a c).2.1,id⟩⟩
structure Ei(GL:Nat->Prop)(f:ķ)(args:Array Ï)(l:fe)(V:Nat->Prop)(kS:Ï->ß->Prop):Prop where
 N:∀b,V b->l.M b
 S:Ld V V Ä.globals.size l.w
 I:∀g,GL g->V g
 r:fR (pU V Ä.globals.size) args args
 C:∀T,Calls Ä f args (World.tp (kX V l.w) T 0) fun|.returned v,u'=>kS v u'/\j4 u'|_,_=>False
def akt(m:nG Ä)(n:oS Ä GL X)(hF:tq Ä X)(e:X 67){D:SD}(h:∀i s d W l,i<D.q->nj (D.r Ä) (D.b i) s->D.RD s d W l.w->(∀b,W b->l.M b)->gy l->¬l.q->(∀b,D.d b->l.M b)->D.RC l.w->∃V,Ei GL 67 #[d,À<|D.i i] l V λv _=>v=à (D.j i)):Ec D:=by
 intro i s d W l o p r t f g x y z B;let⟨V,a⟩:=h i s d W l o p r t f g x y;let⟨G,c,C,E⟩:=hF 67 e;have k:(λj=>V j/\¬(lX l).O j)=V:=by funext j;exact propext ⟨λq=>q.1,λq=>⟨q,id⟩⟩
 refine(Eg m n hF (λv u T D h=>h) e C E (Eh f) g (λb q=>Ç<|a.N b q) (by rw[k];exact a.S) a.I a.r (by rw[k];exact a.C) Ì z B).fO ?_;rintro H I ⟨Y,J,v,K,_,_,j,u,T,_,_,F⟩;subst u;cases j;exact⟨F,T⟩
theorem aku(P:nG Ä)(Q:oS Ä GL X)(hF:tq Ä X)(B:X 66){D:SD}(Rg:D.γ->Ï->ß->Prop)(hRg:∀s a u T n,Rg s a u->Rg s a (World.tp u T n)) (h:∀k s a W l,k<D.m->nj (D.r Ä) k s->D.RD s a W l.w->(∀b,W b->l.M b)->gy l->¬l.q->(∀b,D.d b->l.M b)->D.RC l.w->∃V,Ei GL 66 #[a,À<|D.o<|k+1] l V (λv u=>∃p n c d,v=ñ #[Æ p n c,à<|D.e<|k+1]/\D.h k s d/\Rg d (Æ p n c) u)/\ ∀Y S u w d a C,qW Y S u w->fl Y a C->Rg d a u->(∀i j,Y i j->V j\/l.w.heap.size<=j)->∃e,D.RD d C e w/\∀b,e b->∃i,Y i b):Eb D:=by
 intro k s a W l hk hr qB hW E F hRB hRC cl lH;let⟨V,f,tr⟩:=h k s a W l hk hr qB hW E F hRB hRC;let⟨fn,c,hf,g⟩:=hF 66 B;have G:(λj=>V j/\¬(lX l).O j)=V:=by funext j;exact propext ⟨λq=>q.1,λq=>⟨q,id⟩⟩
 refine(Eg P Q hF (λv u T D h=> ?_) B hf g (Eh E) F (λb q=>Ç<|f.N b q) (by rw[G];exact f.S) f.I f.r (by rw[G];exact f.C) Ì cl lH).fO ?_
 .grind
 .rintro l' g' ⟨Y,u',v,v',_,q2,q3,⟨p,n,c,d,rfl,H,h3⟩,I,o,_,J⟩;cases q3 with
  |@nD _ cs'' hs my=>
   let⟨ls⟩:=cs'';match ls,hs with
   |[x,y],_=>
    have r:=my 0 fp fp;have K:=my 1 fp fp;simp at r K;cases K;let⟨e,L,N⟩:=tr Y _ u' l'.w d _ x q2 r h3 λi j Sk=>(o i j Sk).2.imp id λz=>z.resolve_left id;cases r with
    |nY=>exact⟨J,Á,n,c,I,d,e,H,L,λb g=>by let⟨i,t⟩:=N b g;exact(o i b t).1⟩
    |kD=>exact⟨J,_,n,c,I,d,e,H,L,λb g=>by let⟨i,t⟩:=N b g;exact(o i b t).1⟩
end
end Go.Proofs.Y.fv
namespace Go.Proofs.Y.Lift
open Go
def Ej(a:Nat->Bool):Ĥ->Bool
 |Ũ (Đ cs)=>cs.toList.all yn
 |Ũ (ñ cs)=>cs.toList.all yn
 |x=>wK a x
def ZO(a:Nat->Bool)(x:Ĥ):Ej a x=wK a x:=by
 cases x with
 |const v=>cases v<;>simp[Ej,wK,NP,ĝ]
 |_=>rfl
def Le(P:ė)(a:Nat->Bool)(b c:ķ->Bool)(o:å):Bool:=(CZ P b o.op&&o.op.operands.toList.all (Ej a))||(N8 P c o.op&&o.op.operands.toList.all (Ej a))
def Lf(a:Nat->Bool)(b c:ķ->Bool)(o:å):Le P a b c o=C3 P a b c o:=by have:(Ej a)=wK a:=funext<|ZO a;simp[Le,C3,NY,this,ĝ]
def qE(P:ė)(a:Nat->Bool)(b d:ķ->Bool):Ę->Bool
 |Ρ|ť|.label _|Ŧ _|.goto _=>Ò
 |.seq x y=>qE P a b d x&&qE P a b d y
 |Ť c x y=>Ej a c&&qE P a b d x&&qE P a b d y
 |İ _ c|.loop c|.scope c=>qE P a b d c
 |ä _ c _=>c.toList.all<|Le P a b d
 |.refuse _=>Ò
 |_=>Ì
def zq(a:Nat->Bool)(b d:ķ->Bool):∀c:Ę,qE P a b d c=nK P a b d c
 |Ρ|ť|.label _|Ŧ _|.goto _|.refuse _|.rangeFunc _ _ _ _=>rfl
 |.seq x y=>by simp only[qE,nK,zq a b d x,zq a b d y]
 |Ť c x y=>by simp only[qE,nK,ZO,zq a b d x,zq a b d y]
 |İ _ c|.loop c|.scope c=>by simp only[qE,nK,zq a b d c]
 |ä _ x _=>by have:Le P a b d=C3 P a b d:=funext<|Lf a b d;simp only[qE,nK,this,ĝ]
end Go.Proofs.Y.Lift
namespace Go.Proofs.Y.fv
open Go Go.Conc Go.Proofs.Y.Lift Go.RowKit Go.Conc.Lib Go.ConcR.Gen
open Go.Proofs Go.Proofs.YtgpphkdoanciiaaGreatDoor
def ZQ:List Nat:=[35,38,44,54,55,56,60,66,67,78,79,103,113,114,115,116,117,118,119,120,121,122,123,124,125,126,153,154,155,156,157,158,159,160,161,162,168,169,170,171,172,173,174,175,176,177,178,186,187,188,189,190,191,192,193,194,196,197,198,199,200,201,202,203,204,205,206,207,208,209,210,211]
def xv(g:Nat):Bool:=[1,2,3,4].contains g
def xw(f:Nat):Bool:=ZQ.contains f
def zr(f:Nat):Bool:=[129,130].contains f
def BT(P:ė)(f:Nat):Bool:=match P.funcs[f]? with
 |some a=>match a.body with
  |some c=>qE P xv xw zr c
  |none=>Ì
 |none=>Ì
def akv:ZQ.all (BT Ä)=Ò:=by rfl
def ZR(h:xw i=Ò):BT Ä i=Ò:=(Ň.1 akv) i<|by simpa[xw]using h
def akw(h:BT P i=Ò):∃a c,P.funcs[i]?=Â a/\a.body=Â c:=by
 unfold BT at h;split at h
 .rename_i a b;split at h
  .rename_i c d;exact⟨a,c,b,d⟩
  .cases h
 .cases h
def akx(h:BT P i=Ò)(a:P.funcs[i]?=Â s)(b:s.body=Â wX):qE P xv xw zr wX=Ò:=by unfold BT at h;rw[a]at h;simp only[b]at h;exact h
def ZS:tq Ä (λf=>xw f=Ò):=λ_ h=>akw<|ZR h
def aky[Ai P](h:∀f,xw f=Ò->BT P f=Ò)(a:FK P zr):oS P (λg=>xv g=Ò) (λf=>xw f=Ò):=λf g e c b d=>by have:=akx (h f g) b d;rw[zq]at this;exact ve a this
instance atP:Ai Ä:=⟨λe n h=>by
 have h1:Ä.cellsOf 304=32:=fu
 have h2:Ä.cellsOf 305=64:=fu
 obtain⟨rfl|rfl,h3⟩:=h
 .rw[h1];omega
 .rw[h2];omega⟩
def akz(a:FK Ä zr):oS Ä (λg=>xv g=Ò) (λf=>xw f=Ò):=aky (λ_ h=>ZR h) a
def Ek:FK Ä zr:=λf h=>by
 have:f=129\/f=130:=by simpa[zr]using h
 rcases this with rfl|rfl
 .exact⟨_,Extern.AbiNoEscape.same,Tryz.func129,fQ,fQ,fQ,fQ,λ_ v a h=>afh v a h,afi⟩
 .exact⟨_,Extern.BytealgMakeNoZero.makeNoZero #[3] #[107],Tryz.func130,fQ,fQ,fQ,fQ,λ_ v a h=>afj #[3] 107 v a h,afk #[3] 107⟩
def ZT:oS Ä (λg=>xv g=Ò) (λf=>xw f=Ò):=akz Ek
end Go.Proofs.Y.fv
namespace Go.Proofs.Y.Lift
open Go Go.Conc
section
variable{Y:ft}{b:ķ->Prop}
def akA{e:Array Ï->Sem Ï}{y:Ĥ}{m:Array ŭ}(d:o.op=Ě {callee:=ĕ<|ĸ F,args:=#[qQ,y],argTypes:=m})(q:P.funcs[F]?=Â s)(r:(s.name== "runtime.NumGoroutine")=Ì)(t:s.body.isNone=Ò)(B:Extern.findNext s=Á)(C:Extern.find s=Â e) (D:∀(Y:ft) (v i z j:Ï),fl Y v i->fl Y z j->fH P fl Y (e #[v,z]) (e #[i,j])) (E:∀v z,fE P<|e #[v,z]) (G:∀y∈o.op.operands,mo X y):mJ P X b o:=by
 have c:∀a:ŏ,ĉ a.eval o=Ś F #[a.eval qQ,a.eval y]:=by intro a;unfold ĉ;rw[d];simp only[ſ,ĥ,ě,invoke,pure_bind,Array.empty_append,Array.append_empty,List.map_toArray,List.map_cons,List.map_nil]
 have k:∀(v z:Ï) (u:ß),(Ś F #[v,z]).run P u=(mark (.extern F)>>=λ_=>e #[v,z]>>=λy=>pure (Next.value y):Sem Next).run P u:=by intro v z u;unfold Ś;simp_all
 refine Wx (λY a w _ _ _ h=> ?_) (λa=> ?_) (λa u n H g=> ?_) G
 .rw[c,c];have I:=h qQ (by rw[d];simp[ŉ,Call.operands]);have J:=h y (by rw[d];simp[ŉ,Call.operands]);unfold Ś;refine .gq (fF qM ?_);rintro M p N w ⟨K,L⟩;rw[K,L];simp only[q,r,t,B,C,Ķ,if_false,if_true];apply fF (V:=jm) (.CK (Ç ⟨F,U⟩) (.fD U));intro O _ _ l _;exact mI<|D _ _ _ _ _ ((I.fO w).fO l)<|(J.fO w).fO l
 .rw[c];exact I1 (k _ _)<|gp (FB _) λ_=>lL<|E _ _
 .rw[c,k,Sem.run_bind]at g;simp only[mark,Sem.run,Result.andThen_ok]at g;have:Sem.run P (e #[a.eval qQ,a.eval y]>>=λy=>pure (Next.value y):Sem Next) u=.ok n H:=g;rw[Sem.run_bind]at this;cases h:(e #[a.eval qQ,a.eval y]).run P u with
  |ok v w=>rw[h]at this;cases this;exact⟨v,U⟩
  |halt z w=>rw[h]at this;cases this
def ZU:∀(n:Nat) {Y:ft} {a b:â} (c:ByteArray),gZ Y a b->fH P jm Y (ò a n c) (ò b n c)
 |0,_,_,_,_,_=> .fD U
 |n+1,Y,a,b,c,h=>by
  unfold ò;refine fF (IN h) ?_;intro f v g d e;cases e<;>first|exact .fP|skip
  rename_i k z;cases k<;>first|exact .fP|skip
  exact ZU n _<|(h.r d).C 1
theorem ZV:∀(n:Nat) (a:â) (b:ByteArray),fE P<|ò a n b
 |0,_,_=>gE _
 |n+1,a,b=>by
  unfold ò;refine gp (FC _ _) λv=> ?_;split
  .exact ZV n _ _
  .exact jb _
def akB(h:fl Y v x):fH P jm Y (ú v) (ú x):=by
 cases h<;>first|exact .fP|exact .fD U|skip
 exact ZU _ _<|by assumption
theorem akC(v:Ï):fE P (ú v):=by unfold ú;grind [gE,ZV,jb]
def akD(h:fl Y v x):fH P jm Y (ü v) (ü x):=by
 cases h<;>first|exact .fP|skip
 rename_i k z;cases k<;>first|exact .fP|exact .fD U
theorem akE(v:Ï):fE P (ü v):=by unfold ü;grind [gE,jb]
def akF(v a z b:Ï)(h:fl Y v a)(k:fl Y z b):fH P fl Y (ó #[v,z]) (ó #[a,b]):=by
 apply fF (akB h);rintro j s d e f;obtain rfl:s=d:=f;apply fF (akD<|k.fO e);rintro l c g m i;obtain rfl:c=g:=i;split
 .exact .fD (.iG _ _)
 .exact .fD (.iG _ _)
theorem akG(v z:Ï):fE P (ó #[v,z]):=by refine gp (akC v) λs=>gp (akE z) λc=> ?_;grind [gE]
end
end Go.Proofs.Y.Lift
namespace Go.Proofs.Y.fv
open Go Go.Conc Go.Proofs.Y.Lift
open Go.Proofs Go.Proofs.YtgpphkdoanciiaaGreatDoor
def Sl:List Nat:=[16,18,21,23,24,25,28,29,30,31,35,44,60,38,54,55,56,78,79,36,45,61,94,95,96,97,98,99,100,101,102,103,104,145,146,147,148,149]
def El(f:Nat):Bool:=Sl.contains f||f==167
def Lg(_:Nat):Bool:=Ì
def Lh(P:ė)(f:Nat):Bool:=match P.funcs[f]? with
 |some a=>match a.body with
  |some c=>qE P Lg El zr c
  |none=>Ì
 |none=>Ì
def akH:Sl.all (Lh Ä)=Ò:=by rfl
def ZW(h:Sl.contains i=Ò):Lh Ä i=Ò:=(Ň.1 akH) i<|by simpa using h
theorem ZX(h:Lh P i=Ò):∃a c,P.funcs[i]?=Â a/\a.body=Â c/\qE P Lg El zr c=Ò:=by unfold Lh at h;grind
def zt:tq Ä (λf=>El f=Ò):=λf h=>by
 rcases ī.1 h with q|q
 .let⟨a,c,b,d,_⟩:=ZX<|ZW q;exact⟨a,c,b,d⟩
 .rw[beq_iff_eq]at q;subst q;exact⟨_,_,Ŭ,U⟩
def akI(h:Ζ.body=Â wX):kF Ä (λg=>Lg g=Ò) (λf=>El f=Ò) wX:=by
 unfold Ζ at h;cases h;refine .qT (ve Ek<|by rw[<-zq];rfl) (.qT (.tj _ _ λo f=> ?_) .uX);simp only[List.mem_toArray,List.mem_cons,List.not_mem_nil,or_false]at f;rcases f with rfl|rfl|rfl|rfl
 .exact Jp Ek<|by rw[<-Lf];rfl
 .exact Jp Ek<|by rw[<-Lf];rfl
 .exact akA U Tryz.func185 fQ fQ fQ fQ (λ_ v g z o=>akF v g z o) akG λy g=>Jj (by simp[ŉ,Call.operands]at g;rcases g with rfl|rfl|rfl<;>rfl)
 .exact Jp Ek<|by rw[<-Lf];rfl
def Li:oS Ä (λg=>Lg g=Ò) (λf=>El f=Ò):=λf h i c g a=>by
 rcases ī.1 h with q|q
 .let⟨j,k,b,d,e⟩:=ZX<|ZW q;rw[g]at b;cases b;rw[a]at d;cases d;rw[zq]at e;exact ve Ek e
 .rw[beq_iff_eq]at q;subst q;rw[Ŭ]at g;cases g;exact akI a
end Go.Proofs.Y.fv
