import Derived.Test.YtgpphkdoanciiaaGreatDoorWAD
import Derived.Lib.Bytealg
import Derived.WalkKit
import Derived.WalkSpells
import Derived.WalkLawsBesides
import Derived.Deep.Light
import Derived.WalkMore
import Derived.Deep.QuietTactic
import Derived.BigQuiet
import Derived.Conc.LeavingOf
import Derived.Conc.CrowdStepC
import Derived.Listen
import Derived.ProofKit
import Derived.Deep.Slices
set_option linter.all false
set_option maxRecDepth 1000000
set_option maxHeartbeats 8000000
open Go.Proofs.Tryz renaming prog->À,ntmps100->ï,ntmps67->ñ,func100->ô,func67->û,func38->Ď,results45->Ě,func36->ĳ,results36->Ĵ,ntmps160->Ľ,ntmps147->ľ,ntmps38->Ł,func160->Ń,func147->ň,ntmps95->ŉ,ntmps36->Ŋ,func95->ŗ,func17->ř,ntmps123->Ũ,ntmps101->ū,func123->Ų,func101->ŵ,ntmps96->ŷ,ntmps45->Ÿ,func96->Ż,func45->ż,func37->Ž,func22->Α
open Option renaming none->Á,some->Â,bind_eq_some_iff->Ù,bind_eq_bind->å,map_eq_some_iff->ì,isSome_none->í,map->ò,pure_def->ö,map_some->ø,bind_some->Ő
open Go.Value renaming pointer->Ã,string->Ä,int->Å,slice->Ç,tuple->è,bool->þ,cells->İ
open Or renaming inl->Æ,inr->Î
open Go.IntKind renaming i64->È,u64->Ā,wrap_u64->Ō,wrap_i64->Ŏ,u8->ŧ
open Bool renaming false->É,true->Í,false_eq_true->ç,eq_iff_iff->đ
open Go.Ending renaming returned->Ê
open Go renaming World->Ë,Value->Ñ,Calls->Ö,bodyPost_ret->ó,Addr->ù,Goroutine->Ą,TypeId->ċ,Frame->č,Oper->Ĝ,TypeInfo->Ġ,Act->Ģ,maxLen->Ĳ,results->Ĺ,runNT_fst->œ,FuncId->Ŕ,undef->Ř,heap_alloc_new->Ţ,Tape->Ŧ,Trace->Ŭ,runNT->ů,mem_ready->ű,yielded->ų,execOp->Ŵ,cell_one_new->Ŷ,info_parts->Γ,Program->Λ
open And renaming intro->Ì
open Nat renaming le_trans->Ï,zero_le->Ø,le_refl->Ü,lt_of_lt_of_le->Ę,eq_zero_or_pos->ě,zero_add->Ņ,mod_eq_of_lt->ō,mul_le_mul->ş
open Go.Item renaming inRegion->Ð,code->Χ
open List renaming getElem?_eq_getElem->Ò,getElem?_eq_some_iff->Ô,length_append->Õ,mem_of_getElem?->Ý,mem_map->à,eq_nil_of_length_eq_zero->ã,mem_append->æ,length_map->õ,setIfInBounds_toArray->ü,length_cons->ý,take_of_length_le->Ć,getElem?_map->ć,replicate->Ĉ,mem_cons_of_mem->ď,getElem?_of_mem->Đ,getElem_of_mem->ē,getD->Ĕ,getElem?_append_right->ĕ,set_cons_zero->Ė,set_cons_succ->ė,getElem?_append_left->ĝ,extract_eq_take_drop->Ğ,mem_or_eq_of_mem_set->ğ,all_eq_true->ģ,cons_append->Ħ,range->Ī,nil_append->ī,set_append_right->Ĭ,mem_singleton->Ŀ,take_add_one->ŀ,append_assoc->ł,size_toArray->ń,ext_getElem?->ņ,length_take->ŋ,mem_flatMap->ŏ,append_nil->Ś,mem_range->ť
open Option.some renaming injEq->Ó,inj->Ξ
open Go.Lib renaming indexByte->Ú,byteCells->ß,strCells->ħ,hasPrefix->ũ,TabIs->Ι
open Go.World renaming cell?->Û,setCell->Ū,var?->Β
open Array renaming getElem?_eq_some_iff->Þ,getElem?_eq_getElem->â,mem_toList_iff->é,getElem_mem->ú,length_toList->Ē,size_setIfInBounds->ġ,getElem?_eq_none->Ĩ,mem_of_getElem?->ĭ,getElem?_modify->Į,getElem?_toList->į,toList_extract->ı,replicate->ś
open Go.Region renaming ready->á,wanted->Č,Mode->Ķ
open Go.Obj renaming cells->ä
open Go.Frame renaming enter->ê,finish_at->Ŝ
open Go.Ground renaming phase->ë,data->Ă
open ByteArray renaming size_append->î,getElem_eq_getElem_data->ą,size_extract->ĉ,data_extract->ĩ,size->ŝ,data->Ş,extract->Ε,mk->ζ
open Go.Code renaming wp->ð,loop->θ
open Go.Region.linearise renaming go->ÿ
open Go.CallKind renaming normal->ā
open Go.Conc.Goes renaming stop->ă
open Go.Great renaming wpList_runTo->Ċ
open Go.RowKit.Below renaming heap_setCell->ę,heap_alloc->ő
open Go.Conc renaming crowd->Ĥ,events_call_body->ĥ,Good->Ź,goes_leave1->ž,goes_leave2->ſ,listed->Ω
open Go.Made renaming word->ĸ,reckonStruct->Ň,infoAt->ŕ,mostCells->Š,reckon->ź
open Int renaming toNat_of_nonneg->ĺ,le_refl->Ŗ
open Go.Operand renaming tmp->ļ
open Go.IntWalk renaming i64_left->Œ,i64_in->ţ
variable{i n j b k m J j9 j7 j6:Nat}{w u W jX:Ë}{v x z jQ:Ñ}{g:Ą}{a p:ù}{h c:Int}{e t T:ċ}{d q:Array Ñ}{P:Λ}{y:Ģ}{B:ByteArray}{X:Nat->Prop}{O:Option ù}{l:List Ñ}{yQ:Bool}{K H:Ģ->Ë->Prop}{o:Ĝ}{D:Nat->Nat}{E:Array Ą}{L:List Go.Item}{jJ:List Nat}{qX:List č}{qJ:Ŭ}{zX:Go.Loc->Prop}{zQ:List Int}{zJ:Ġ}{xQ:Ŧ}{xJ:Nat×Nat}{vX:List ByteArray}{vQ:Ñ->Ë->Prop}{vJ:Go.Exit->Ģ->Ë->Prop}{Q:Array Ĝ}{f:č}{F:Ŕ}{s:Go.Func}
namespace Go.Proofs.Y.gu
open Go Go.Proofs Go.RowKit Go.Proofs.Y.Lift
def mR(a:ByteArray)(b:List ByteArray):List UInt8:=b.flatMap λy=>a.data.toList++y.data.toList
def Jg(a:ByteArray):List ByteArray->List UInt8
 |[]=>[]
 |x::r=>x.data.toList++mR a r
def jd(xs:List ByteArray):Nat:=(xs.map ŝ).sum
def TY(a b:List ByteArray):jd (a++b)=jd a+jd b:=by simp[jd]
def Nf(a:List ByteArray)(j:Nat):jd (a.take j)<=jd a:=by have h:=TY (a.take j)<|a.drop j;simp_all
theorem Ng(a:ByteArray)(c:a.size=1):∀b:List ByteArray,(mR a b).length=jd b+b.length
 |[]=>rfl
 |x::r=>by
  have e:mR a (x::r)=(a.data.toList++x.data.toList)++mR a r:=U;have d:a.data.toList.length=1:=by simpa using c
  have f:x.data.toList.length=x.size:=fp
  have g:jd (x::r)=x.size+jd r:=by simp[jd]
  rw[e,Õ,Õ,Ng a c r,d,f,g,ý];omega
def aaG(h:vX[j]?=Â B):jd (vX.take<|j+1)=jd (vX.take j)+B.size:=by rw[ŀ,h,TY];simp[jd]
section
variable{sep:ByteArray}{xs:List ByteArray}
def lj(sep:ByteArray)(xs:List ByteArray):ByteArray:=⟨(Jg sep xs).toArray⟩
def anQ:Ö À 38 #[Ç O 0 i,Ä sep] w λe a=>e=Ê (Ä ⟨#[]⟩)/\fc fh w a:=by go_enter Ď,Ł;go_wp2_with fail;go_ret;exact⟨U,fc.fV _ _⟩
def anR(a b:Nat)(x:ByteArray)(d:w.cell? ⟨a,b,Á⟩=Â (Ä x)):Ö À 38 #[Ç (Â ⟨a,b,Á⟩) 1 i,Ä sep] w λe c=>e=Ê (Ä x)/\fc fh w c:=by go_enter Ď,Ł;go_wp2_with fail;go_ret;exact⟨U,fc.fV _ _⟩
theorem anS(k:Nat)(hk:1<=k)(hn:k<1000000)(n p:Nat)(T0:k+1<=i)(C:sep.size=1)(x:ByteArray)(D:k=xs.length)(q:qU (Â ⟨n,p,Á⟩) (rT<|x::xs) w)(hm:jd (x::xs)+(k+1)<=140737488355328): Ö À 38 #[Ç (Â ⟨n,p,Á⟩) (k+1) i,Ä sep] w λe T=>e=Ê (Ä<|lj sep<|x::xs)/\fc fh w T:=by
 have V:jd (x::xs)=x.size+jd xs:=by simp[jd]
 have F:qU (Â ⟨n,p+1,Á⟩) (rT xs) w:=λj u W=>by let⟨b,o,e1,e2⟩:=q (j+1) u (by simpa[rT]using W);grind
 let⟨_,_,g,G⟩:=q 0 (Ä x) U;cases g;have I:w.cell? ⟨n,p,Á⟩=Â (Ä x):=G;have J:x.data.toList++mR sep xs≠[]:=by grind [Õ,Ng,List.length_nil]
 have e3:(1:Int)<9223372036854775807/(k:Int):=by rw[Int.lt_iff_add_one_le,Int.le_ediv_iff_mul_le Z];omega
 have K:(ß []).length+x.size<=140737488355328:=by simp[ß];omega
 have H:=eZ<|Ì q<|Ì F<|Ì D<|Ì K<|Ì J<|Ì I V;clear K J G I q F D;go_enter Ď,Ł;go_wp2_with fail;go_loop [5,41] (λm a=>∃j:Nat,j<=k+1/\m=Å È ((k+jd ((x::xs).take j):Nat):Int)/\a=Å È j) λ_ a=>k+1-(intOf a).toNat
 case atStart=>exact⟨0,Ø _,by simp[jd],U⟩
 case round=>
  obtain⟨j,L,rfl,rfl⟩:=hrel;by_cases t:j=k+1
  .subst t;rw[Ć (by simp[H.out.2.2.1])];have N:0<k+jd (x::xs)/\k+jd (x::xs)<=281474976710656:=Z
   generalize k+jd (x::xs)=M at*;go_wp2_with (first
    |(go_at_call 54;refine(anO ⟨Ü _,fc.iw _ _ _ _,fq.N w [Ã Á,Ç Á 0 0] 109⟩ M N.1 N.2).mono ?_;rintro e X ⟨rfl,d⟩;have c1:=d.r.r H.out.2.2.2.2.2.1 id;have v:=eZ d;clear d)
    |(go_at_call 55;refine(TX v.out x H.out.2.2.2.1).mono ?_;rintro e O ⟨rfl,h⟩;have Y:=eZ h;clear h))
   go_loopw [65] (λa wr=>∃j:Nat,j<=k/\a=Å È j/\uB w w.heap.size (ß<|x.data.toList++mR sep (xs.take j)) wr) λa _=>k-(intOf a).toNat
   case atStart=>
    refine⟨0,Ø _,U,?_⟩;show uB w w.heap.size (ß<|x.data.toList++[]) O;rw[Ś];exact Y.out
   case round=>
    obtain⟨j,L,rfl,f⟩:=hrel;by_cases t:j=k
    .subst t;rw[Ć (by rw[H.out.2.2.1];omega)]at f;have v:=eZ f;clear f;go_wp2_with (go_at_call 56;refine(anP v.out H.out.2.2.2.2.1).mono ?_;rintro e w4 ⟨rfl,P⟩;have HK:=eZ P;clear P);go_ret;exact⟨U,HK.out⟩
    .have l:j<k:=Z
     obtain⟨y,c⟩:∃x,xs[j]?=Â x:=⟨_,Ò<|by rwa[<-H.out.2.2.1]⟩;let⟨_,_,g,z⟩:=H.out.2.1 j (Ä y) (by simp[rT,c]);cases g;have xu:=f.r.r z id;have r:=aaG c;have Q:=Nf xs<|j+1;have hsx:=H.out.2.2.2.2.2.2;have B:(ß<|x.data.toList++mR sep (xs.take j)).length=x.size+jd (xs.take j)+j:=by rw[Lib.byteCells_length,Õ,Ng sep C,ŋ,Ē,<-H.out.2.2.1,Nat.min_eq_left L];show x.size+_=_;omega
     have S:(ß (x.data.toList++mR sep (xs.take j))++ħ sep).length=x.size+jd (xs.take j)+j+1:=by rw[Õ,B,Lib.strCells_length,C]
     have E:ß (x.data.toList++mR sep (xs.take j))++ħ sep++ħ y=ß (x.data.toList++mR sep (xs.take<|j+1)):=by rw[ŀ,c];simp[mR,ß,ħ]
     have s:=eZ<|Ì f<|Ì B<|Ì S E;clear f B S E z c;go_wp2_with (first
      |(go_at_call 55;refine(TX HC.out y<|by rw[s.out.2.2.1];omega).mono ?_;rintro e O ⟨rfl,h⟩;have HD:=eZ h;clear h)
      |(go_at_call 55;refine(TX s.out.1 sep (by rw[s.out.2.1];omega)).mono ?_;rintro e X ⟨rfl,d⟩;have HC:=eZ d;clear d))
     go_roundw
     case rel=>exact⟨j+1,l,by go_num,by rw[<-s.out.2.2.2];exact HD.out⟩
     case measure=>simp[intOf];omega
  .have l:j<k+1:=Z
   obtain⟨y,c⟩:∃y,(x::xs)[j]?=Â y:=⟨_,Ò<|by rwa[ý,<-H.out.2.2.1]⟩;let⟨_,_,g,z⟩:=H.out.1 j (Ä y) (by rw[rT,ć,c];rfl);cases g;have r:=aaG c;have Q:=Nf (x::xs)<|j+1;rw[r]at Q;generalize jd ((x::xs).take j)=s0 at*;have HS:=eZ r;clear c r;go_wp2_with fail;go_round
   case rel=>exact⟨j+1,l,by rw[HS.out];go_num,by go_num⟩
   case measure=>simp[intOf];omega
def aaH(a:n=xs.length)(f:n<=1000000)(g:n<=i)(h:sep.size=1)(b:qU O (rT xs) w)(j:jd xs+n<=140737488355328): Ö À 38 #[Ç O n i,Ä sep] w λe c=>e=Ê (Ä<|lj sep xs)/\fc fh w c:=by
 cases xs with
 |nil=>subst a;exact anQ
 |cons x r=>
  let⟨c,d,k,l⟩:=b 0 (Ä x) U;subst k;cases r with
  |nil=>
   subst a;have e:lj sep [x]=x:=by show ζ ((x.data.toList++[]).toArray)=x;rw[Ś]
   rw[e];exact anR c d x l
  |cons y r=>
   subst a;exact anS (r.length+1) Z (by simp at f;omega) c d g h x U b j
def anT(a:n=xs.length)(c:n<=1000000)(d:n<=i)(h:qU O (rT xs) w)(f:jd xs+n<=140737488355328): Ö À 123 #[Ç O n i] w λe b=>e=Ê (Ä<|if xs=[]then⟨#[45]⟩else lj ⟨#[44]⟩ xs)/\fc fh w b:=by
 have H:=eZ<|aaH (sep:=⟨#[44]⟩) a c d U h f;by_cases b:xs=[]
 .subst b;have e:=a;subst e;rw[if_pos U];clear a f H c d;go_enter Ų,Ũ;go_wp2_with fail;go_ret;exact⟨U,fc.fV _ _⟩
 .rw[if_neg b];have k:0<n:=by rw[a];exact List.length_pos_iff.2 b
  have l:((n:Int)==0)=É:=by simp;omega
  clear a;generalize lj ⟨#[44]⟩ xs=z at*;go_enter Ų,Ũ;go_wp2_with (go_at_call 38;apply H.out.mono;rintro e m ⟨rfl,g⟩;have j:=eZ g;clear g);go_ret;exact⟨U,j.out⟩
end
def Jh{M:Nat}:∀(a:List ByteArray),(∀z∈a,z.size<=M)->jd a<=M*a.length
 |[],_=>Ø _
 |x::r,h=>by
  have c:=Jh r λz b=>h z<|ď _ b;have d:=h x fp;have e:jd (x::r)=x.size+jd r:=by simp[jd]
  rw[e,ý,Nat.mul_add];omega
def T3{e:Nat×Int}(h:oz e.2):(mj e).size<=21:=by unfold mj;rw[î];have:=FC e.1;have:=uz e.2.toNat (by have:=h.1;have:=h.2;omega);omega
def T4{e:Int×Bool}(a:0<=e.1)(h:e.1<=400):(ml e).size<=41:=by unfold ml;rw[î,î];have:=uz e.1.toNat Z;have:=uz e.2.toNat (by cases e.2<;>decide);have:ŝ ⟨#[58]⟩=1:=rfl;omega
def jY.C(h:jY u (Ç O n i) vX w):qU O (rT vX) w/\n=vX.length/\n<=i:=by
 rcases h.fg.2 with⟨b,d⟩|⟨g,f,k,b,_,_,d,_⟩
 .cases b;refine⟨λj x e=> ?_,d.symm,Ü _⟩;rw[ã d]at e;cases e
 .have e:n=vX.length:=by injection b
  subst e;injection b with _ _ h4;exact⟨qU.r h.fg,U,by rwa[h4]⟩
def aaI(r:TA):ByteArray:=lj ⟨#[44]⟩<|[iM r.C.toNat,iM r.M.toNat,iM r.r.toNat]++r.I.map mj
def qV(w:Ë):Prop:=w.cell? ⟨4,15,Á⟩=Â (Å ŧ 4)
def qV.r(h:qV w)(k:fc fh w u):qV u:=k.r h id
def anU(c:qV w):Ö À 207 #[Å Ā 16] w λe a=>e=Ê (Å È 4)/\a=w:=by
 unfold qV at c;have b:Ā.wrap (bits BinOp.and Ā 16 (Ā.wrap<|-16)*285870213051353865)/288230376151711744=15:=A
 go_enter Tryz.func207,Tryz.ntmps207;go_wp2;go_ret;exact⟨U,U⟩
def tz(c:qV w):Ö À 201 #[Å Ā 16] w λe a=>e=Ê (Å È 4)/\a=w:=by go_enter Tryz.func201,Tryz.ntmps201;go_wp2_with (go_at_call 207;refine(anU c).mono ?_;rintro e a ⟨rfl,b⟩;subst a);go_ret;exact⟨U,U⟩
def anV:Ö À 200 #[Å È 16] w λe a=>e=Ê (þ Í)/\a=w:=by
 have b:bits BinOp.and È 16 15=0:=A
 go_enter Tryz.func200,Tryz.ntmps200;go_wp2;go_ret;simp_all
def pK(d:Nat):UInt8:=if h:d<36 then(⟨#[48,49,50,51,52,53,54,55,56,57,97,98,99,100,101,102,103,104,105,106,107,108,109,110,111,112,113,114,115,116,117,118,119,120,121,122]⟩:ByteArray)[d]'h else 0
def rU:Nat->Nat->List UInt8->List UInt8
 |0,_,acc=>acc
 |k+1,n,acc=>if n<16 then pK n::acc else rU k (n/16) (pK (n%16)::acc)
def aaJ:∀k n a,(rU k n a).length<=k+a.length
 |0,_,a=>by simp[rU]
 |k+1,n,a=>by
  unfold rU;split
  .simp;omega
  .have:=aaJ k (n/16)<|pK (n%16)::a;simp at this;omega
def zc(i:Nat)(a:List UInt8):List Ñ:=Ĉ i (Å ŧ 0)++ß a
def anW(i:Nat)(a:List UInt8):(zc i a).length=i+a.length:=by simp[zc,ß]
def anX(i:Nat)(a:List UInt8)(c:UInt8):(zc (i+1) a).set i (Å ŧ c.toNat)=zc i (c::a):=by unfold zc;rw[List.replicate_succ',ł,Ĭ _ _ fp];simp[ß]
def anY(a:n<18446744073709551616):bits BinOp.and Ā (n:Int) 15=((n%16:Nat):Int):=by have:=(bits_nat Ā 64 A (λn b c=>by rw[Ō];omega) n 15 Z A).1;rwa[show(15:Nat)=2^4-1 from rfl,Nat.and_two_pow_sub_one_eq_mod]at this
def aaK(h:i<36):(⟨#[48,49,50,51,52,53,54,55,56,57,97,98,99,100,101,102,103,104,105,106,107,108,109,110,111,112,113,114,115,116,117,118,119,120,121,122]⟩:ByteArray)[i]'h=pK i:=by unfold pK;rw[dif_pos h]
def anZ:Tryz.zeroCells292=(zc 65 []).toArray:=fx
def mE(n:Nat):ByteArray:=⟨(rU 16 n []).toArray⟩
theorem an0(n:Nat)(o:n<18446744073709551616)(D:qV w):Ö À 190 #[Ç Á 0 0,Å Ā n,Å È 16,þ É,þ É] w λe E=>e=Ê (è #[Ç Á 0 0,Ä<|mE n])/\fc fh w E:=by
 have H:=eZ D;have a:=fq.N w (zc 65 []) 292;rw[<-anZ]at a;have F:=eZ a;unfold mE;generalize s:rU 16 n []=res;have G:=eZ s;clear s a;go_enter Tryz.func190,Tryz.ntmps190;go_wp2_with (first
  |(go_at_call 200;refine anV.mono ?_;rintro e p ⟨rfl,I⟩;subst p)
  |(go_at_call 201;refine(tz (H.out.r kp)).mono ?_;rintro e p ⟨rfl,I⟩;subst p))
 go_loopw [1,13] (λx y wr=>∃(n i:Nat) (c:List UInt8),x=Å Ā n/\y=Å È i/\50<=i/\i+c.length=65/\n<16^(i-49)/\n<18446744073709551616/\fc fh w wr/\fq w.heap.size (zc i c) 292 wr/\rU (i-49) n c=res) λx _ _=>(intOf x).toNat
 case atStart=>exact⟨n,65,[],U,U,Z,U,by show n<16^16;omega,o,fc.iw _ _ _ _,F.out,G.out⟩
 case round=>
  obtain⟨n,i,c,rfl,rfl,O,Q,o,J,u,a,b⟩:=hrel;obtain⟨j,rfl⟩:∃j,i=j+1:=⟨i-1,Z⟩;rw[show j+1-49=(j-49)+1 by omega]at b o;unfold rU at b;have K:(zc (j+1) c).length=65:=by rw[anW];omega
  obtain⟨z,v⟩:∃z,(zc (j+1) c)[j]?=Â z:=⟨_,Ò Z⟩;have S:=a.r j z v;have T:=a.I j;have f:=a.fO j<|Å ŧ (pK<|n%16).toNat;rw[anX]at f;have g:fc fh w (wr.setCell ⟨w.heap.size,j,Á⟩<|Å ŧ (pK<|n%16).toNat):=u.C (fc.I (X:=λk=>k=w.heap.size) U _<|Î a.S) λi V q=>by omega
  have l:=eZ<|Ì f g;clear a u K v;by_cases m:n<16
  .rw[if_pos m]at b;have W:res.length=65-j:=by rw[<-b];simp;omega
   have Y:(0:Int)<=(j:Int):=Z
   have e2:(j:Int)<65:=Z
   have e3:(j:Int)<=65:=Z
   have m0:(0:Int)<=(n:Int):=Z
   have m1:(n:Int)<36:=Z
   have r:n<36:=Z
   have L:=aaK r;rw[ō m,b]at f;have hcv:(convert 107 9<|Ç (Â ⟨w.heap.size,j,Á⟩) (65-j)<|65-j).run À (wr.setCell ⟨w.heap.size,j,Á⟩<|Å ŧ (pK n).toNat)=.ok (Ä ⟨res.toArray⟩) (wr.setCell ⟨w.heap.size,j,Á⟩<|Å ŧ (pK n).toNat):=by have h:=run_convert_bytes_back (P:=À) (wr.setCell ⟨w.heap.size,j,Á⟩<|Å ŧ (pK n).toNat) 107 9 5 ⟨w.heap.size,j,Á⟩ (65-j) res fx fx fx (λt M=>by rw[Addr.add_mid];apply f.r (j+t) _;unfold zc;rw[ĕ fp];simp[ß,Ò M]);grind
   rw[ō m]at g;have l:=eZ g;clear f g;go_wp2;go_ret2;exact⟨U,l.out⟩
  .rw[if_neg m]at b;have N:50<=j:=by grind
   have B:n/16<16^(j-49):=by grind
   have auC:=anY J;have r:n%16<36:=Z
   have L:=aaK r;have C:=eZ<|Ì b B;clear b B f g;generalize hd:n%16=d at*;go_wp2_with fail;go_roundw
   case rel=>exact⟨n/16,j,pK d::c,by go_num,by go_num,N,by simp;omega,C.out.2,Z,l.out.2,l.out.1,C.out.1⟩
   case measure=>simp[intOf];omega
def an1(n:Nat)(b:n<18446744073709551616)(c:qV w):Ö À 172 #[Å Ā n,Å È 16] w λe a=>e=Ê (Ä<|mE n)/\fc fh w a:=by go_enter Tryz.func172,Tryz.ntmps172;go_wp2_with (go_at_call 190;refine(an0 n b c).mono ?_;rintro e a ⟨rfl,d⟩);go_ret;exact⟨U,d⟩
def an2(n:Nat)(b:n<18446744073709551616)(c:qV w):Ö À 157 #[Å Ā n,Å È 16] w λe a=>e=Ê (Ä<|mE n)/\fc fh w a:=by go_enter Tryz.func157,Tryz.ntmps157;go_wp2_with (go_at_call 172;refine(an1 n b c).mono ?_;rintro e a ⟨rfl,d⟩);go_ret;exact⟨U,d⟩
def an3(s:ByteArray)(w:Ë)(h:s.data.toList.head?=Â 48):Ö À 175 #[Ä s,Ä ⟨#[48]⟩] w λe b=>e=Ê (þ Í)/\b=w:=by
 have H:=Tryz.strings_HasPrefix s ⟨#[48]⟩ w;have e:ũ s.data.toList (Ş ⟨#[48]⟩).toList=Í:=by
  generalize s.data.toList=l at h;cases l with
  |nil=>cases h
  |cons a r=>cases h;rfl
 rwa[e]at H
def an4(s:ByteArray)(w:Ë)(h:¬s.data.toList.head?=Â 48):Ö À 175 #[Ä s,Ä ⟨#[48]⟩] w λe b=>e=Ê (þ É)/\b=w:=by
 have H:=Tryz.strings_HasPrefix s ⟨#[48]⟩ w;have e:ũ s.data.toList (Ş ⟨#[48]⟩).toList=É:=by
  generalize s.data.toList=l at h;cases l with
  |nil=>rfl
  |cons a r=>
   have c:¬a=48:=λq=>h (by rw[q];rfl);show((48:UInt8)==a&&List.isPrefixOf [] r)=É;have:((48:UInt8)==a)=É:=beq_eq_false_iff_ne.2 λq=>c q.symm;rw[this];rfl
 rwa[e]at H
def xw(k:Nat):ByteArray:=Ε ⟨#[48,48,48,48,48,48,48,48,48,48,48,48,48,48,48,48,48,48,48,48,48,48,48,48,48,48,48,48,48,48,48,48,48,48,48,48,48,48,48,48,48,48,48,48,48,48,48,48,48,48,48,48,48,48,48,48,48,48,48,48,48,48,48,48]⟩ 0 k
def an5(k:Nat)(d:2<=k)(f:k<=64):Ö À 160 #[Ä ⟨#[48]⟩,Å È k] w λe a=>e=Ê (Ä<|xw k)/\a=w:=by
 have g:((k:Int)==0)=É:=by simp;omega
 have h:((k:Int)==1)=É:=by simp;omega
 have i:¬(k:Int)<0:=Z
 have j:(0:Int)<=(k:Int):=Z
 have l:(k:Int)<=64:=Z
 have m:Ā.wrap (k:Int)=(k:Int):=by rw[Ō];omega
 have n:È.wrap (k:Int)=(k:Int):=by rw[Ŏ];omega
 have M:=Tryz.bits_Mul 1 k A Z w;rw[show 1*k/18446744073709551616=0 by omega,show 1*k%18446744073709551616=k by omega]at M;have c:=eZ M;go_enter Ń,Ľ;go_wp2_with (first
  |(go_at_call 174;refine c.out.mono ?_;rintro e a ⟨rfl,b⟩;subst a)
  |(go_at_call 175;refine(an4 _ _ A).mono ?_;rintro e a ⟨rfl,b⟩;subst a)
  |(go_at_call 175;refine(an3 _ _ A).mono ?_;rintro e a ⟨rfl,b⟩;subst a))
 go_ret;exact⟨U,U⟩
def an6:Ö À 160 #[Ä ⟨#[48]⟩,Å È 0] w λe a=>e=Ê (Ä ⟨#[]⟩)/\a=w:=by go_enter Ń,Ľ;go_wp2;go_ret;exact⟨U,U⟩
def an7:Ö À 160 #[Ä ⟨#[48]⟩,Å È 1] w λe a=>e=Ê (Ä ⟨#[48]⟩)/\a=w:=by go_enter Ń,Ľ;go_wp2;go_ret;exact⟨U,U⟩
def an8(k:Nat)(a:k<=64):Ö À 160 #[Ä ⟨#[48]⟩,Å È k] w λe b=>e=Ê (Ä<|xw k)/\b=w:=by
 match k with
 |0=>exact an6
 |1=>exact an7
 |k+2=>exact an5 (k+2) Z a
def Dl(n:Nat):ByteArray:=xw (16-(mE n).size)++mE n
def aaL(n:Nat):(mE n).size<=16:=by show(rU 16 n []).toArray.size<=16;have:=aaJ 16 n [];simpa using this
def aaM(k:Nat):(xw k).size<=k:=by unfold xw;rw[ĉ];omega
def an9(n:Nat)(c:n<18446744073709551616)(d:qV w):Ö À 121 #[Å Ā n] w λe a=>e=Ê (Ä<|Dl n)/\fc fh w a:=by
 have g:=aaL n;have h:=aaM<|16-(mE n).size;have T:=an2 n c d;have R:∀W:Ë,Ö À 160 #[Ä ⟨#[48]⟩,Å È ((16-(mE n).size:Nat):Int)] W λe a=>e=Ê (Ä<|xw<|16-(mE n).size)/\a=W:=λW=>an8 _ Z;have i:È.wrap ((16:Int)-((mE n).size:Int))=((16-(mE n).size:Nat):Int):=by rw[Ŏ];omega
 have j:(16:Int)-((mE n).size:Int)=((16-(mE n).size:Nat):Int):=Z
 have l:¬9223372036854775807<(xw<|16-(mE n).size).size+(mE n).size:=Z
 unfold Dl;have H:=eZ<|Ì T R;generalize m:xw (16-(mE n).size)=zs at*;generalize o:16-(mE n).size=k at*;generalize mE n=fs at*;go_enter Tryz.func121,Tryz.ntmps121;go_wp2_with (first
  |(go_at_call 157;refine H.out.1.mono ?_;rintro e p ⟨rfl,b⟩;have f:=eZ b;clear b)
  |(go_at_call 160;refine(H.out.2 _).mono ?_;rintro e b ⟨rfl,p⟩;subst b))
 go_ret;exact⟨U,f.out⟩
structure rV(r:Nat)(x y g k:Nat)(kind v v2:Int)(slot:Nat)(w:Ë):Prop where
 I:w.cell? ⟨r,0,Á⟩=Â (Å È x)
 S:w.cell? ⟨r,1,Á⟩=Â (Å È y)
 a:w.cell? ⟨r,2,Á⟩=Â (Å È g)
 Y:w.cell? ⟨r,3,Á⟩=Â (Å È k)
 N:w.cell? ⟨r,4,Á⟩=Â (Å È kind)
 M:w.cell? ⟨r,5,Á⟩=Â (Å È v)
 c:w.cell? ⟨r,6,Á⟩=Â (Å È v2)
 b:w.cell? ⟨r,7,Á⟩=Â (Å È slot)
def jY.S(h:jY u v vX W)(k:fc fh w u):jY w v vX W:=by
 refine⟨⟨h.fg.1,?_⟩,k.fj h.r⟩;rcases h.fg.2 with q|⟨g,a,b,c,d,q⟩
 .exact Æ q
 .exact Î ⟨g,a,b,c,Ï k.M d,q⟩
abbrev xx(a:Option ù)(n b:Nat)(v:Int)(o:Option Nat)(w:Ë):Prop:=Ö À 113 #[Ç a n b,Å È v] w λe c=>e=Ê (oL o)/\fc fh w c
abbrev T5(f:Ŕ)(a:Array Ñ)(b:ByteArray)(w:Ë):Prop:=∀W,fc fh w W->Ö À f a W λe c=>e=Ê (Ä b)/\fc fh W c
abbrev T6(f:Ŕ)(b:Array Ñ)(c:List ByteArray)(w:Ë):Prop:=∀W,fc fh w W->Ö À f b W λe d=>∃a,e=Ê a/\jY W a c d
abbrev T7(b:List ByteArray)(d:ByteArray)(w:Ë):Prop:=∀W a m c,jY w (Ç a m c) b W->Ö À 123 #[Ç a m c] W λe f=>e=Ê (Ä d)/\fc fh W f
abbrev Dm(a:Option ù)(n b r:Nat)(c:ByteArray)(w:Ë):Prop:=Ö À 67 #[Ç a n b,Ã<|Â ⟨r,0,Á⟩] w λe d=>e=Ê (Ä c)/\fc fh w d
section
variable{cp r x y g slot:Nat}{v v2:Int}
def rV.C{w:Ë}(h:rV r x y g k c v v2 slot w)(q:fc fh w u):rV r x y g k c v v2 slot u:= ⟨q.r h.I id,q.r h.S id,q.r h.a id,q.r h.Y id,q.r h.N id,q.r h.M id,q.r h.c id,q.r h.b id⟩
def aoa(F:xx O n cp v (Â i) w)(f:rV r x y g k 2 v v2 slot w)(o:x<8)(p:slot<16)(z:Nat)(h:w.cell? ⟨i,x*18+2+slot,Á⟩=Â (Å Ā z)) (C:T5 118 #[Å Ā z] B w): Dm O n cp r B w:=by
 have q:=f.M;have l:=f.N;have s:(0:Int)<=(x:Int):=Z
 have t:(x:Int)<8:=Z
 have u:(0:Int)<=(slot:Int):=Z
 have D:(slot:Int)<16:=Z
 have H:=eZ<|Ì F C;have c:=eZ f;clear F C f;go_enter û,ñ;go_wp2_with (go_at_call 113;apply H.out.1.mono;rintro e d ⟨rfl,b⟩;dsimp only[oL,ò];have j:=b.r l id;have a:=eZ b;clear b);refine oZ (λb=>b.cell? ⟨r,0,Á⟩=Â (Å È x)/\b.cell? ⟨r,7,Á⟩=Â (Å È slot)/\b.cell? ⟨i,x*18+2+slot,Á⟩=Â (Å Ā z)) [] fx ?_;have m:=eZ<|Ì ((c.out.C a.out).C<|fc.gG fh _).I<|Ì ((c.out.C a.out).C<|fc.gG fh _).b<|(a.out.fj<|fc.gG _ _).r h id;iterate 17 apply tk m.out
 apply ia 17;intro K d;go_simp;go_at_call 118;refine(H.out.2 _<|a.out.fj<|fc.gG _ _).mono ?_;rintro e E ⟨rfl,j⟩;have b:=eZ j;clear j;dsimp only;apply d.out _ _ λ_=>⟨(c.out.C<|(a.out.fj<|fc.gG _ _).fj b.out).I,(c.out.C<|(a.out.fj<|fc.gG _ _).fj b.out).b,(((a.out.fj<|fc.gG _ _).fj b.out).r h id)⟩;clear d K;apply ia 18;intro K d;go_simp;apply d.out _ _ λ_=>⟨(c.out.C<|(a.out.fj<|fc.gG _ _).fj b.out).I,(c.out.C<|(a.out.fj<|fc.gG _ _).fj b.out).b,(((a.out.fj<|fc.gG _ _).fj b.out).r h id)⟩;clear d K;try simp only[Act.put,ü,Ė,ė]
 refine oY fx ?_ _;go_wp2_with fail;go_ret;exact⟨U,(a.out.fj<|fc.gG _ _).fj b.out⟩
def aob(F:xx O n cp v (Â i) w)(d:rV r x y g k 3 v v2 slot w)(o:x<8)(z:Nat)(f:w.cell? ⟨i,x*18,Á⟩=Â (Å Ā z)) (C:T5 118 #[Å Ā z] B w): Dm O n cp r B w:=by
 have p:=d.M;have l:=d.N;have q:(0:Int)<=(x:Int):=Z
 have s:(x:Int)<8:=Z
 have H:=eZ<|Ì F C;have h:=eZ d;clear F C d;go_enter û,ñ;go_wp2_with (go_at_call 113;apply H.out.1.mono;rintro e c ⟨rfl,b⟩;dsimp only[oL,ò];have j:=b.r l id;have a:=eZ b;clear b);refine oZ (λb=>b.cell? ⟨r,0,Á⟩=Â (Å È x)/\b.cell? ⟨i,x*18,Á⟩=Â (Å Ā z)) [] fx ?_;have m:=eZ<|Ì ((h.out.C a.out).C<|fc.gG fh _).I<|(a.out.fj<|fc.gG _ _).r f id;iterate 12 apply tk m.out
 apply ia 12;intro K b;go_simp;go_at_call 118;refine(H.out.2 _<|a.out.fj<|fc.gG _ _).mono ?_;rintro e t ⟨rfl,j⟩;have c:=eZ j;clear j;dsimp only;apply b.out _ _ λ_=>⟨(h.out.C<|(a.out.fj<|fc.gG _ _).fj c.out).I,(((a.out.fj<|fc.gG _ _).fj c.out).r f id)⟩;clear b K;apply ia 13;intro K b;go_simp;apply b.out _ _ λ_=>⟨(h.out.C<|(a.out.fj<|fc.gG _ _).fj c.out).I,(((a.out.fj<|fc.gG _ _).fj c.out).r f id)⟩;clear b K;try simp only[Act.put,ü,Ė,ė]
 refine oY fx ?_ _;go_wp2_with fail;go_ret;exact⟨U,(a.out.fj<|fc.gG _ _).fj c.out⟩
def aoc(F:xx O n cp v (Â i) w)(a:rV r x y g k 6 v v2 slot w)(z:Nat)(C:∀W,fc fh w W->Ö À 122 #[Ã<|Â ⟨i,0,Á⟩] W λe h=>e=Ê (Å Ā z)/\fc fh W h)(c:T5 121 #[Å Ā z] B w): Dm O n cp r B w:=by
 have m:=a.M;have j:=a.N;have l:=eZ c;clear c;have H:=eZ<|Ì F C;have o:=eZ a;clear F C a;go_enter û,ñ;go_wp2_with (first
  |(go_at_call 113;refine H.out.1.mono ?_;rintro e f ⟨rfl,b⟩;dsimp only[oL,ò];have p:=b.r j id;have d:=eZ b;clear b)
  |(go_at_call 122;refine(H.out.2 _ d.out).mono ?_;rintro e p ⟨rfl,b⟩;have f:=eZ<|d.out.fj b;clear b)
  |(go_at_call 121;refine(l.out _ f.out).mono ?_;rintro e p ⟨rfl,b⟩;have d:=eZ (f.out.fj b);clear b))
 go_ret;exact⟨U,d.out⟩
def aod(F:xx O n cp v (Â i) w)(a:rV r x y g k 7 v v2 slot w)(d:Option ù)(f h:Nat)(o:w.cell? ⟨i,144,Á⟩=Â (Ç d f h))(b:List ByteArray)(C:T6 124 #[Ç d f h] b w)(j:T7 b B w): Dm O n cp r B w:=by
 have z:=a.M;have p:=a.N;have q:=eZ j;clear j;have H:=eZ<|Ì F C;have D:=eZ a;clear F C a;go_enter û,ñ;go_wp2_with (first
  |(go_at_call 113;refine H.out.1.mono ?_;rintro e m ⟨rfl,c⟩;dsimp only[oL,ò];have s:=c.r p id;have t:=c.r o id;have l:=eZ c;clear c)
  |(go_at_call 124;refine(H.out.2 _ l.out).mono ?_;rintro e s ⟨E,rfl,c⟩;obtain⟨t,u,rfl⟩:=jv c.fg;generalize b.length=tn at c|-;have m:=eZ (show jY w (Ç t tn u) b s from c.S l.out);clear c)
  |(go_at_call 123;refine(q.out _ _ _ _ m.out).mono ?_;rintro e s ⟨rfl,c⟩;have l:=eZ (m.out.r.fj c);clear c))
 go_ret;exact⟨U,l.out⟩
def aoe(F:xx O n cp v (Â i) w)(a:rV r x y g k 8 v v2 slot w)(d:Option ù)(f h:Nat)(o:w.cell? ⟨i,146,Á⟩=Â (Ç d f h))(b:List ByteArray)(C:T6 125 #[Ç d f h] b w)(j:T7 b B w): Dm O n cp r B w:=by
 have z:=a.M;have p:=a.N;have q:=eZ j;clear j;have H:=eZ<|Ì F C;have D:=eZ a;clear F C a;go_enter û,ñ;go_wp2_with (first
  |(go_at_call 113;refine H.out.1.mono ?_;rintro e m ⟨rfl,c⟩;dsimp only[oL,ò];have s:=c.r p id;have t:=c.r o id;have l:=eZ c;clear c)
  |(go_at_call 125;refine(H.out.2 _ l.out).mono ?_;rintro e s ⟨E,rfl,c⟩;obtain⟨t,u,rfl⟩:=jv c.fg;generalize b.length=tn at c|-;have m:=eZ (show jY w (Ç t tn u) b s from c.S l.out);clear c)
  |(go_at_call 123;refine(q.out _ _ _ _ m.out).mono ?_;rintro e s ⟨rfl,c⟩;have l:=eZ (m.out.r.fj c);clear c))
 go_ret;exact⟨U,l.out⟩
def aof(F:xx O n cp v (Â i) w)(a:rV r x y g k 9 v v2 slot w)(C:B=ov 3)(c:∀W,fc fh w W->xx O n cp v2 Á W): Dm O n cp r B w:=by
 have o:=a.M;have h:=a.N;have j:=eZ c;clear c;have H:=eZ<|Ì F C;have l:=eZ a;clear F C a;go_enter û,ñ;go_wp2_with (first
  |(go_at_call 113;with_reducible refine H.out.1.mono ?_;rintro e f ⟨rfl,b⟩;dsimp only[oL,ò];have m:=b.r h id;have p:=b.r l.out.c id;have d:=eZ b;clear b)
  |(go_at_call 113;refine(j.out _ d.out).mono ?_;rintro e b ⟨rfl,f⟩;dsimp only[oL,ò];have m:=eZ<|d.out.fj f;clear f)
  |(go_at_call 114;refine(I4 3 A _).mono ?_;rintro e b ⟨rfl,f⟩;subst b))
 go_ret;exact⟨by rw[H.out.2];rfl,m.out⟩
def aog(F:xx O n cp v (Â i) w)(b:rV r x y g k 9 v v2 slot w)(C:True)(f:∀W,fc fh w W->xx O n cp v2 (Â j) W)(d:List ByteArray)(h:T6 126 #[Ã<|Â ⟨i,0,Á⟩,Ã<|Â ⟨j,0,Á⟩] d w)(l:T7 d B w): Dm O n cp r B w:=by
 have D:=b.M;have q:=b.N;have s:=eZ f;have m:=eZ<|Ì h l;clear f h l;have H:=eZ<|Ì F C;have t:=eZ b;clear F C b;go_enter û,ñ;go_wp2_with (first
  |(go_at_call 113;with_reducible refine H.out.1.mono ?_;rintro e o ⟨rfl,a⟩;dsimp only[oL,ò];have p:=a.r q id;have u:=a.r t.out.c id;have c:=eZ a;clear a)
  |(go_at_call 113;refine(s.out _ c.out).mono ?_;rintro e p ⟨rfl,a⟩;dsimp only[oL,ò];have o:=eZ (c.out.fj a);clear a))
 apply oZ (λa=>True/\True) [] fx;have u:=eZ<|Ì trivial trivial;iterate 8 apply tk u.out
 apply ia 8;intro K a;go_simp;go_at_call 126;refine(m.out.1 _<|o.out.fj<|fc.gG _ _).mono ?_;rintro e E ⟨G,rfl,c⟩;obtain⟨I,J,rfl⟩:=jv c.fg;generalize d.length=tn at c|-;have p:=eZ<|c.S<|o.out.fj<|fc.gG _ _;clear c;dsimp only;apply a.out _ _ λ_=>⟨trivial,trivial⟩;clear a K;apply ia 9;intro K a;go_simp;go_at_call 123;refine(m.out.2 _ _ _ _ p.out).mono ?_;rintro e L ⟨rfl,o⟩;have z:=eZ<|p.out.r.fj o;clear o;dsimp only;apply a.out _ _ λ_=>⟨trivial,trivial⟩;clear a K;apply ia 10;intro K a;go_simp;apply a.out _ _ λ_=>⟨trivial,trivial⟩;clear a K;try simp only[Act.put,ü,Ė,ė]
 refine oY fx ?_ _;go_wp2_with fail;go_ret;exact⟨U,z.out⟩
def aoh(F:xx O n cp v Á w)(a:rV r x y g k h v v2 slot w): Ö À 67 #[Ç O n cp,Ã<|Â ⟨r,0,Á⟩] w λe b=>e=Ê (Ä<|ov 3)/\fc fh w b:=by
 have d:=a.M;have H:=eZ F;clear F a;go_enter û,ñ;go_wp2_with (first
  |(go_at_call 113;refine H.out.mono ?_;rintro e f ⟨rfl,b⟩;dsimp only[oL,ò];have c:=eZ b;clear b)
  |(go_at_call 114;refine(I4 3 A _).mono ?_;rintro e b ⟨rfl,f⟩;subst b))
 go_ret;exact⟨U,c.out⟩
end
structure Qn where
 x:Nat
 y:Nat
 g:Nat
 k:Nat
 r:Int
 v:Int
 C:Int
 I:Nat
structure Qn.xp(q:Qn):Prop where
 x:q.x<8
 y:q.y<8
 g:q.g<1000000
 k:q.k<18446744073709551616
 aoi:2<=q.r
 aoj:q.r<=9
 v:-1<=q.v
 v2:-1<=q.C
 T8:q.I<16
def vP(a:List ByteArray):ByteArray:=if a=[]then⟨#[45]⟩else lj ⟨#[44]⟩ a
def rW(a:List (Nat×fM))(p:fM)(q:Qn):ByteArray:=
 if q.r=2 then iM ((p.s q.x).r q.I).toNat
 else if q.r=3 then iM (p.s q.x).ft.toNat
 else if q.r=4 then if 400<q.g then ov 6 else aaI (gO p.s [] q.x q.y q.g q.k)
 else if q.r=5 then Je p.s q.x q.y q.k 0 401
 else if q.r=6 then Dl (AZ p.s)
 else if q.r=7 then vP (p.C.map mj)
 else if q.r=8 then vP (p.r.map ml)
 else match n5 a q.C with
  |none=>ov 3
  |some b=>vP<|lh p.s b.2.s 8
def sY(a:List (Nat×fM))(q:Qn):ByteArray:=
 match n5 a q.v with
 |none=>ov 3
 |some p=>rW a p.2 q
def T9{M:Nat}(b:∀z∈vX,z.size<=M)(d:M<=100)(f:vX.length<=400000)(h:jY w (Ç O m i) vX W): Ö À 123 #[Ç O m i] W λe g=>e=Ê (Ä<|vP vX)/\fc fh W g:=by obtain⟨e,g,j⟩:=h.C;have k:=Jh vX b;have:M*vX.length<=100*400000:=ş d f;exact anT g Z j e Z
def aaN(s:St):AZ s<18446744073709551616:=by unfold AZ Ja;exact M6 _ _<|aax λi=>TN _ _ _
theorem Ua{b:ByteArray}(c:B.size<=1)(d:b.size<=1):(B++b).size<=2:=by grind
def aaO(s t:St):∀z∈lh s t 8,z.size<=2:=λz a=>by
 unfold lh at a;obtain⟨i,_,h⟩:=ŏ.1 a;unfold xv mQ at h;rcases æ.1 h with h|h
 .rcases æ.1 h with h|h
  .split at h
   .cases h
   .simp at h;subst h;exact Ua (FC i)<|Ü _
  .split at h
   .cases h
   .simp at h;subst h;exact Ua (FC i)<|Ü _
 .unfold n7 at h;obtain⟨j,_,h⟩:=ŏ.1 h;unfold Dk at h;split at h
  .cases h
  .simp at h;subst h;exact Ua (FC i)<|anE j
def Ub(a:ByteArray)(c:a.size=1):∀b:List ByteArray,(lj a b).size<=jd b+b.length
 |[]=>Ø _
 |x::r=>by
  show(x.data.toList++mR a r).toArray.size<=_;have d:jd (x::r)=x.size+jd r:=by simp[jd]
  have e:x.data.toList.length=x.size:=by rw[Ē];rfl
  simp only[ń,Õ,Ng a c r,d,e,ý];omega
structure aaP:Prop where
 ky:∀{bp:Option ù} {n cp r:Nat} {w:Ë} {vs:List (Nat×fM)} {q:Qn},qT bp n vs w->n<=1000->0<n->rV r q.x q.y q.g q.k q.r q.v q.C q.I w->q.xp->sT w->pJ w->q.r=4\/q.r=5->
  Ö À 67 #[Ç bp n cp,Ã<|Â ⟨r,0,Á⟩] w λe w'=>e=Ê (Ä<|sY vs q)/\fc fh w w'
 wO:∀{s:St} {q:Qn},iZ s->q.xp->q.g<=400->(aaI<|gO s [] q.x q.y q.g q.k).size<=100000000
structure Qn.Ok(q:Qn):Prop extends Qn.xp q where
 r:q.r=4\/q.r=5->aaP
def Qn.Ok.C{q:Qn}(h:q.Ok):q.xp:=⟨h.x,h.y,h.g,h.k,h.aoi,h.aoj,h.v,h.v2,h.T8⟩
section
variable{bp:Option ù}{cp r:Nat}{vs:List (Nat×fM)}{q:Qn}
def aok(l:qT bp n vs w)(H:n<=1000)(I:0<n)(Y:∀p∈vs,TS p.2)(d:rV r q.x q.y q.g q.k q.r q.v q.C q.I w)(ok:q.Ok)(hr:sT w)(o:pJ w)(hd:qV w): Ö À 67 #[Ç bp n cp,Ã<|Â ⟨r,0,Á⟩] w λe J=>e=Ê (Ä<|sY vs q)/\fc fh w J:=by
 by_cases t:q.r=4\/q.r=5
 .exact(ok.r t).ky l H I d ok.C hr o t
 have F:=M8 (cp:=cp) l H I q.v ok.v;unfold sY;cases B:n5 vs q.v with
 |none=>
  rw[B]at F;exact aoh F d
 |some p=>
  rw[B]at F;have h:=F;have S:=Jb B;have i:=l.M S;have f:=Y p S;obtain⟨x,y,g,k,kind,v,C,T⟩:=q;obtain⟨⟨D,hy,hg,hk,Nh,oT,hv,V,K⟩,_⟩:=ok;simp only at D hy hg hk Nh oT hv V K d h B t|-;obtain⟨X,_,cs⟩:=i.r.gU D;unfold rW;simp only;split
  .rename_i e;subst e;have c:=cs T K;have j:=i.C.C x T;rw[<-ĺ j.1]at c;exact aoa h d D K _ c λW b=>Jc _ (by have:=j.1;have:=j.2;omega) W<|o.r b
  .split
   .rename_i e;subst e;have j:=i.C.ft x;rw[<-ĺ j.1]at X;exact aob h d D _ X λW b=>Jc _ (by have:=j.1;have:=j.2;omega) W<|o.r b
   .split
    .exact absurd (Æ ‹_›) t
    .split
     .exact absurd (Î ‹_›) t
     .split
      .rename_i e;subst e;exact aoc h d _ (λW b=>amY (i.r.r b id) i.C) λW b=>an9 _ (aaN _)<|hd.r b
      .split
       .rename_i e;subst e;obtain⟨L,M,N,O⟩:=i.N;exact aod h d L _ M N _ (λW b=>anx U f.I f.C (o.r b)<|qU.C O b) λW a m c u=>T9 (λz P=>by obtain⟨e,E,rfl⟩:=à.1 P;exact T3 (f.C e E).2) Z (by rw[õ];exact f.I) u
       .split
        .rename_i e;subst e;obtain⟨L,M,N,O⟩:=i.S;exact aoe h d L _ M N _ (λW b=>anB U f.M f.r (o.r b)<|qU.C O b) λW a m c u=>T9 (λz P=>by obtain⟨e,E,rfl⟩:=à.1 P;exact T4 (f.r e E).1 (f.r e E).2) Z (by rw[õ];have:=f.M;omega) u
        .have e:kind=9:=Z
         subst e;have G:∀W,fc fh w W->Ö À 113 #[Ç bp n cp,Å È C] W λe J=>e=Ê (oL ((n5 vs C).map (·.1)))/\fc fh W J:=λW b=>M8 (l.I b) H I C V;cases Q:n5 vs C with
         |none=>
          rw[Q]at G;exact aof h d U G
         |some p2=>
          rw[Q]at G;exact aog h d trivial G _ (λW b=>anF (i.r.r b id)<|(l.M<|Jb Q).r.r b id) λW a m c u=>T9 (aaO _ _) Z (by have:=TV p.2.s p2.2.s 8;omega) u
end
end Go.Proofs.Y.gu
namespace Go.Proofs.Y.iV
open Go Go.Proofs Go.RowKit Go.Proofs.Y.Lift Go.Proofs.Y.gu
def kC(a:List (Nat×fM)):List fM:=a.map (·.2)
def aaQ(d:fM)(l:List fM):fM:=l.foldl (λa b=>if a.h<b.h then b else a) d
theorem aaR:∀(a:List (Nat×fM)) (d:Nat×fM),(vO d a).2=aaQ d.2 (kC a)
 |[],_=>rfl
 |x::r,d=>by show(vO (zf d x) r).2=aaQ (if d.2.h<x.2.h then x.2 else d.2) (kC r);rw[aaR r];unfold zf;split<;>rfl
theorem Uc{a b:List (Nat×fM)}(h:kC a=kC b)(v:Int):(n5 a v).map (·.2)=(n5 b v).map (·.2):=by
 have c:∀i:Nat,(a[i]?).map (·.2)=(b[i]?).map (·.2):=λi=>by have:=congrArg (λl:List fM=>l[i]?) h;simpa[kC]using this
 unfold n5;grind [aaR]
theorem aol{a b:List (Nat×fM)}(h:kC a=kC b):a.length=b.length:=by have:=congrArg List.length h;simpa[kC]using this
theorem aaS{a b:List (Nat×fM)}(h:kC a=kC b)(v:Int)(x:Nat)(c:List Tx):rS a v x c=rS b v x c:=by have d:=Uc h v;unfold rS;grind [aol]
theorem aom{a b:List (Nat×fM)}(h:kC a=kC b)(q:Qn):sY a q=sY b q:=by
 have c:=Uc h q.v;have d:=Uc h q.C;have e:∀p:fM,rW a p q=rW b p q:=λp=>by unfold rW;grind
 unfold sY;grind
structure kx(s:List fM):Prop where
 I:0<s.length
 C:s.length<=40
 r:∀v∈s,TS v/\iZ v.s/\0<=v.h/\v.h<s.length
def rX(a:List (Nat×fM))(v:Int)(x:Nat)(b:List Tx):List fM:=kC a++(rS a v x b).1.toList
def kx.M{f:List (Nat×fM)}(h:kx (kC f)){g:List Tx}(k:∀t∈g,t.Ok)(m:g.length<=1000):kx (rX f c i g):=by
 unfold iV.rX;have B:(kC f).length=f.length:=by simp[kC]
 unfold rS;cases n:n5 f c with
 |none=>simpa using h
 |some p=>
  have o:p.2∈kC f:=à.2 ⟨p,Jb n,U⟩;let⟨C,l,D,E⟩:=h.r _ o;simp only;split
  .simpa using h
  .rename_i F;cases j:mP i p.2.s g with
   |none=>simpa using h
   |some r=>
    simp only[Option.toList];have G:=h.C;have w:iZ r.1:=by unfold mP at j;obtain⟨H,y,rfl⟩:=ì.1 j;exact(TT g k l (λ_ q=>by cases q) (λ_ q=>by cases q) (by simp;omega) (by simp;omega) y).1.r i<|Dd _
    refine⟨fp,by simp;omega,λu z=> ?_⟩;rcases æ.1 z with q|q
    .let⟨a,b,e,d⟩:=h.r u q;refine⟨a,b,e,?_⟩;rw[Õ];simp;omega
    .simp at q;subst q;refine⟨ano k l m j,w,by show 0<=p.2.h+1;omega,?_⟩;rw[Õ];show p.2.h+1<_;simp;omega
def jb(Y:fw)(u w:Ë):Prop:=∀(i j o:Nat) (v:Ñ),Y i j->u.cell? ⟨i,o,Á⟩=Â v->∃a,w.cell? ⟨j,o,Á⟩=Â a/\fu Y v a
section
variable{Y:fw}
theorem aon{k:IntKind}(h:fu Y (Å k c) v):v=Å k c:=by cases h;rfl
theorem aoo(h:fu Y (Ä B) v):v=Ä B:=by cases h;rfl
theorem Ji(h:fu Y (Ã<|Â a) v):∃b,v=Ã (Â b)/\ig Y a b:=by
 cases h with
 |jE q=>exact⟨_,U,q⟩
def Jj(h:fu Y (Ç O n i) v):∃b,v=Ç b n i/\∀a,O=Â a->∃d,b=Â d/\ig Y a d:=by
 cases h with
 |nD=>exact⟨Á,U,λa q=>by cases q⟩
 |j5 q=>exact⟨_,U,λa e=>by cases e;exact⟨_,U,q⟩⟩
theorem aop(a:j4 v=Í)(h:fu Y v x):x=v:=by cases h<;>first|rfl|(simp[j4]at a;done)
theorem vR(h:ig Y ⟨b,i,Á⟩ a):∃c,a=⟨c,i,Á⟩/\Y b c:=by let⟨d,e,f⟩:=h;let⟨c,g,j⟩:=a;grind
theorem jb.r(a:jb Y u w){k:IntKind}(h:Y i j)(d:u.cell? ⟨i,b,Á⟩=Â (Å k c)):w.cell? ⟨j,b,Á⟩=Â (Å k c):=by let⟨e,f,g⟩:=a i j b _ h d;grind [aon]
theorem jb.I(a:jb Y u w)(h:Y i j)(b:u.cell? ⟨i,n,Á⟩=Â (Ä B)):w.cell? ⟨j,n,Á⟩=Â (Ä B):=by let⟨c,d,e⟩:=a i j n _ h b;grind [aoo]
theorem jb.C(a:jb Y u w)(c:j4 v=Í)(h:Y i j)(b:u.cell? ⟨i,n,Á⟩=Â v):w.cell? ⟨j,n,Á⟩=Â v:=by let⟨d,e,f⟩:=a i j n _ h b;grind [aop]
def Ud(s:gu.St):∀v∈iz s,(∃n,v=Å Ā n)\/∃p,v=Ä p:=λv n=>by
 unfold iz at n;obtain⟨i,_,rfl⟩:=à.1 n;unfold rL rK;split
 .exact Æ ⟨_,U⟩
 .split
  .exact Î ⟨_,U⟩
  .exact Æ ⟨_,U⟩
def aoq(a:jb Y u w){s:gu.St}(c:Y b i)(d:rR b s h u):rR i s h w:=by
 refine⟨λj v e=> ?_,a.r c d.h⟩;have f:=d.C j v e;rcases Ud s v (Ý e)with⟨n,rfl⟩|⟨p,rfl⟩
 .exact a.r c f
 .exact a.I c f
def aaT(a:jb Y u w)(f:Y b i)(g:∀v∈l,j4 v=Í)(h:A0 ⟨b,j,Á⟩ n l u):A0 ⟨i,j,Á⟩ n l w:=by let⟨p,c,k,m⟩:=h;let⟨G,q,r⟩:=a b i j _ f k;obtain⟨s,rfl,t⟩:=Jj r;refine⟨s,c,q,λd x e=> ?_⟩;let⟨H,y,z,B⟩:=m d x e;let⟨I,C,D⟩:=t _ z;obtain⟨E,rfl,F⟩:=vR D;exact⟨E,y,C,a.C (g x<|Ý e) F B⟩
def aor(a:jb Y u w){v:fM}(c:Y b i)(h:sW b v u):sW i v w:= ⟨aoq a c h.r,h.C,h.I,h.M,aaT a c (R' _) h.N,aaT a c (aal _) h.S⟩
def xW{α β:Type}{R:Nat->α->β->Prop}:∀(l:List α) (k:Nat),(∀j x,l[j]?=Â x->∃y,R (k+j) x y)->∃a:List β,a.length=l.length/\∀j y,a[j]?=Â y->∃x,l[j]?=Â x/\R (k+j) x y
 |[],_,_=>⟨[],U,λj y h=>by simp at h⟩
 |x::r,k,h=>by
  let⟨y,c⟩:=h 0 x U;obtain⟨a,d,e⟩:=xW r (k+1) λj z b=>by let⟨q,f⟩:=h (j+1) z b;exact⟨q,by rwa[show k+1+j=k+(j+1) by omega]⟩
  refine⟨y::a,by simp[d],λj z b=> ?_⟩;cases j with
  |zero=>cases b;exact⟨x,U,c⟩
  |succ j=>
   let⟨q,f,g⟩:=e j z b;exact⟨q,f,by rwa[show k+(j+1)=k+1+j by omega]⟩
theorem Jk(a:jb Y u w){e:List (Nat×fM)}(i:fu Y z jQ)(h:M9 z e u):∃c,kC c=kC e/\M9 jQ c w:=by
 obtain⟨J,n,k,rfl,l,f⟩:=h;obtain⟨g,rfl,m⟩:=Jj i;let⟨c,o,K⟩:=xW (R:=λj (x y:Nat×fM)=>x.2=y.2/\∃q d,g=Â ⟨q,d,Á⟩/\w.cell? ⟨q,d+j,Á⟩=Â (Ã<|Â ⟨y.1,0,Á⟩)/\sW y.1 y.2 w) e 0 λj x p=>by let⟨b,v⟩:=x;let⟨q,d,r,s,t⟩:=f.C j b v p;let⟨L,B,C⟩:=m _ r;obtain⟨y,rfl,D⟩:=vR C;let⟨M,E,F⟩:=a q y _ _ D s;obtain⟨N,rfl,G⟩:=Ji F;obtain⟨H,rfl,I⟩:=vR G;exact⟨(H,v),U,y,d,B,by rwa[Ņ],aor a I t⟩
 refine⟨c,?_,g,n,k,U,l,⟨by rw[o];exact f.r,λj b v q=> ?_⟩⟩
 .refine ņ λj=> ?_;unfold kC;grind
 .grind
end
def lA(a:Nat->Prop)(B:Nat):fw:=⟨λi j=>i=j/\a i,B⟩
def aos(a:Nat->Prop)(B:Nat):Bi (lA a B):= ⟨λ_ _ _ h k=>h.1.symm.trans k.1,λ_ _ _ h k=>h.1.trans k.1.symm,λi j h=>by rw[h.1]⟩
def A4{V:Nat->Prop}{B:Nat}(h:∀i,X i->V i):(lA X B).r (lA V B):=⟨λ_ _ q=>⟨q.1,h _ q.2⟩,λ_=>aos V B,U⟩
def kN(B:Nat)(a:Nat->Prop)(w:Ë):Prop:=∀b,a b->∃c e d,w.heap[b]?=Â (ä c e d)/\d.2<=c.size/\fU (lA a B) c c/\0<c.size/\D2 c/\e≠304/\e≠305
section
variable{B:Nat}{V:Nat->Prop}
def kN.I(h:kN B X w)(k:kN B V w):kN B (λb=>X b\/V b) w:=by
 rintro b (q|q)
 .let⟨c,e,a,d,f,g,i⟩:=h b q;exact⟨c,e,a,d,f,g.ff (A4 λ_=>Æ),i⟩
 .let⟨c,e,a,d,f,g,i⟩:=k b q;exact⟨c,e,a,d,f,g.ff (A4 λ_=>Î),i⟩
def kN.C(h:kN B X w)(k:∀b,X b->u.heap[b]?=w.heap[b]?):kN B X u:=λb q=>by let⟨c,e,a,d,f⟩:=h b q;exact⟨c,e,a,by rwa[k b q],f⟩
theorem kN.r(h:kN B X w)(a:X b)(d:w.cell? ⟨b,i,Á⟩=Â v):fu (lA X B) v v:=by let⟨c,e,j,f,_,g,_⟩:=h b a;simp only[Û,f,í,ç,if_false]at d;rcases g.M i with⟨q,_⟩|⟨x,k,l,m,n⟩;all_goals grind
def Dn(h:fu (lA X B) (Ã<|Â a) v):X a.block:=by
 cases h with
 |jE q=>exact q.1.2
def Dp(h:fu (lA X B) (Ç (Â a) n i) v):X a.block:=by
 cases h with
 |j5 q=>exact q.1.2
def aot{Y:fw}(h:j4 v=Í):fu Y v v:=by cases v<;>first|exact .lY _|exact .iB _ _|(simp[j4]at h;done)
def oM{Y:fw}(h:∀v∈d.toList,fu Y v v):fU Y d d:=⟨U,λi a _=>h _<|é.2<|ú a⟩
def aou(h:j4 v=Í):zK v=É:=by
 cases v with
 |int k n=>cases k<;>first|rfl|(simp[j4]at h;done)
 |_=>rfl
def A5(h:∀v∈d.toList,zK v=É):D2 d:=λk v a=>h v<|é.2<|ĭ a
def Jl(v:Ñ)(i:Nat):Prop:=v.ownBlock=Â i
def Jm(X:Nat->Prop)(g b:Nat)(a c:Ñ)(i:Nat):Prop:=X i\/i=g\/i=b\/Jl a i\/Jl c i
def aaU{G:Ë}(a:lz T=Í)(h:uy v T u)(o:∀j,v.ownBlock=Â j->G.heap.size<=j)(p:sR G.heap.size u):∀i,Jl v i->∃c e f,u.heap[i]?=Â (ä c e f)/\f.2<=c.size/\fU (lA V B) c c/\0<c.size/\D2 c/\e≠304/\e≠305:=λi b=>by
 rcases h with rfl|⟨g,n,c,k,rfl,l⟩
 .cases b
 .have e:g=i:=by unfold Jl at b;simpa[Value.ownBlock]using b
  subst e;let⟨r,m⟩:=p g k T (0,0) (o g U) l a;exact⟨k,T,(0,0),l,Ø _,oM λv d=>aot<|m v d,r,A5 λv d=>aou<|m v d,(λq=>by rw[q]at a;cases a),(λq=>by rw[q]at a;cases a)⟩
def aaV(h:uy v T u)(a:∀i,Jl v i->V i):fu (lA V B) v v:=by
 rcases h with rfl|⟨g,n,c,b,rfl,d⟩
 .exact .nD _ _
 .exact fu.j5 (Y:=lA V B) ⟨⟨U,a g U⟩,U,U⟩ n c
theorem aov{G:Ë}(J:kN B X G)(k:fc fh G u)(K:∀i,X i->i<G.heap.size){l:List (Nat×fM)}{s:gu.St}(o:TQ b s h G u)(r:TP l b G u m)(L:∀p∈l,X p.1): ∃e,(∀i,X i->e i)/\e m/\kN B e u/\∀i,e i->X i\/G.heap.size<=i:=by
 have t:=k.S _ λi c T w M y=>by rw[Ĩ M]at y;cases y
 let⟨a,d,N,z,C,D,E⟩:=o.r;refine⟨Jm X m b a d,λi q=>Æ q,Î<|Æ U,?_,?_⟩
 .rintro i (q|rfl|rfl|q|q)
  .let⟨c,e,w,n,x,f,j⟩:=J i q;exact⟨c,e,w,by rwa[k.N i (K i q) id],x,f.ff (A4 λ_=>Æ),j⟩
  .let⟨F,n,x,f⟩:=r.r;have H:∀v∈F.toList,v=Ã Á\/∃j,v=Ã (Â ⟨j,0,Á⟩)/\Jm X i b a d j:=λv e=>by
    rcases f v e with q|q|q
    .unfold sX at q;obtain⟨p,I,rfl⟩:=à.1 q;exact Î ⟨_,U,Æ<|L p I⟩
    .exact Î ⟨_,q,Î<|Î<|Æ U⟩
    .exact Æ q
   refine⟨F,136,(0,0),n,Ø _,oM λv e=> ?_,x,A5 λv e=> ?_,A,A⟩
   .rcases H v e with rfl|⟨j,rfl,I⟩
    .exact .lE
    .exact .jE ⟨⟨U,I⟩,U,U⟩
   .rcases H v e with rfl|⟨j,rfl,I⟩<;>rfl
  .have f:∀v∈nu s a++[Å È h,d],fu (lA (Jm X m i a d) B) v v/\zK v=É:=λv e=>by
    rw[Fv]at e;have I:=aaV (B:=B) (V:=Jm X m i a d) z λj q=>Î<|Î<|Î<|Æ q;have F:=aaV (B:=B) (V:=Jm X m i a d) C λj q=>Î<|Î<|Î<|Î q;have H:∀{x:Ñ} {T:ċ},uy x T u->zK x=É:=λ{x T} q=>by rcases q with rfl|⟨_,_,_,_,rfl,_⟩<;>rfl
    rcases æ.1 e with q|q
    .rcases æ.1 q with q|q
     .rcases Ud s v q with⟨n,rfl⟩|⟨p,rfl⟩
      .exact⟨.iB _ _,U⟩
      .exact⟨.kt _,U⟩
     .grind
    .simp at q;rcases q with rfl|rfl
     .exact⟨.iB _ _,U⟩
     .grind
   exact⟨_,147,(0,0),N,Ø _,oM λv e=>(f v<|by simpa using e).1,by simp[rM],A5 λv e=>(f v<|by simpa using e).2,A,A⟩
  .exact aaU U z D t i q
  .exact aaU U C E t i q
 .rintro i (q|rfl|rfl|q|q)
  .exact Æ q
  .exact Î r.C
  .exact Î o.C
  .exact Î<|D i q
  .exact Î<|E i q
def Ni{Y:fw}(h:fu Y v x):fu (lA X B) v v->fu (lA (λj=>∃i,X i/\Y i j) B) x x:=by
 induction h with
 |lY b=>exact λ_=> .lY b
 |iB k n=>exact λ_=> .iB k n
 |kt s=>exact λ_=> .kt s
 |lE=>exact λ_=> .lE
 |@jE a a' q=>exact λz=>fu.jE (Y:=lA (λj=>∃i,X i/\Y i j) B) ⟨⟨U,_,Dn z,q.1⟩,U,U⟩
 |nD n c=>exact λ_=> .nD n c
 |@j5 a a' q n c=>exact λz=>fu.j5 (Y:=lA (λj=>∃i,X i/\Y i j) B) ⟨⟨U,_,Dp z,q.1⟩,U,U⟩ n c
 |tD=>exact λ_=> .tD
 |fn f=>exact λ_=> .fn f
 |tE=>exact λ_=> .tE
 |tF=>exact λ_=> .tF
 |tH=>exact λ_=> .tH
 |wx t _ b=>exact λz=> .wx t (b (by cases z with|wx _ y=>exact y))
 |oh f _ b=>exact λz=> .oh U λi c _=>b i (by rwa[f]) c (by cases z with|oh _ y=>exact y i _ _)
 |lZ f _ b=>exact λz=> .lZ U λi c _=>b i (by rwa[f]) c (by cases z with|lZ _ y=>exact y i _ _)
def aow{Y:fw}(h:fu Y v x):zK x=zK v:=by cases h<;>rfl
theorem Ue{Y:fw}{r:Nat->Prop}(h:je Y r u w)(s:kN B X u):kN B (λj=>∃i,X i/\Y i j) w:=by
 rintro j ⟨i,t,x⟩;let⟨c,a,e,F,y,z,C,b,G,H,I⟩:=h.r i j x;let⟨d,J,K,m,_,D,L,E,n,o⟩:=s i t;rw[z]at m;cases m;have M:=b.I.resolve_right λq=>q.2.1.elim n o;refine⟨a,e,y,C,?_,oM λv f=> ?_,Z,A5 λv f=> ?_,n,o⟩
 .grind
 .obtain⟨k,g,rfl⟩:=ē f;have l:k<a.size:=by simpa using g
  have:=Ni (b.C k Z l)<|D.C k Z Z;simpa using this
 .obtain⟨k,g,rfl⟩:=ē f;have l:k<a.size:=by simpa using g
  have p:=aow<|b.C k Z l;rw[(E k c[k]<|â Z)]at p;simpa using p
def zg{Y:fw}(h:je Y X u w):jb Y u w:=λi j o v b c=>h.gw (a:=⟨i,o,Á⟩) (a':=⟨j,o,Á⟩) ⟨b,U,U⟩ c
end
end Go.Proofs.Y.iV
namespace Go.Proofs.Y.Lift
open Go
def aaW{α β:Type}{c:α->β->Option (ForInStep β)}{I:β->Prop}(d:∀a b s,I b->c a b=Â s->I s.value): ∀(l:List α) (b r:β),I b->forIn l b c=Â r->I r
 |[],b,r,hi,h=>by simp at h;subst h;exact hi
 |a::l,b,r,hi,h=>by
  rw[List.forIn_cons]at h;cases e:c a b with
  |none=>rw[e]at h;simp at h
  |some s=>
   rw[e]at h;have:=d a b s hi e;cases s with
   |done x=>simp at h;subst h;exact this
   |yield x=>simp at h;exact aaW d l x r this h
def iF.gU(h:iF v):∀x∈v.cells,iF x:=by
 intro x a;cases h with
 |oh h=>
  obtain⟨i,b,rfl⟩:=Array.mem_iff_getElem.1 a;exact h i b
 |lZ h=>simp[İ]at a;subst a;exact .lZ h
 |_=>simp[İ]at a;subst a;constructor
def ZP(a:ċ->Option Ġ):Prop:=∀t i z,a t=Â i->i.zero=Â z->iF z
def Uf(h:∀x∈d,iF x):iF (.agg d):=.oh λ_ a=>h _<|ú a
theorem aox{l:ċ->Option Ġ}(h:ZP l){m:Array Field}(g:Ň l m=Â zJ)(q:zJ.zero=Â z):iF z:=by
 unfold Ň at g;simp only[<-Array.forIn_toList]at g;generalize t:(forIn m.toList _ _:Option _)=L at g;cases L with
 |none=>simp at g
 |some r=>
  have u:=aaW (I:=λx=>∀a,x.2.2.2.2.2.2.2.1=Â a->∀v∈a,iF v) ?_ _ _ _ ?_ t
  .have:∃a,r.2.2.2.2.2.2.2.1=Â a/\z=.agg a:=by
    grind [ì]
   obtain⟨a,e,rfl⟩:=this;exact Uf<|u a e
  .intro f b s w d;have y:∀(e:Option Ñ) (k:Nat) (x:Option (Array Ñ)),(∀z,e=Â z->iF z)->x=(if k>Š then Á else do pure ((<-b.2.2.2.2.2.2.2.1)++(<-e).cells))->∀a,x=Â a->∀v∈a,iF v:=by
    intro e k x B C a c v n;subst C;split at c
    .simp at c
    .cases j:b.2.2.2.2.2.2.2.1 with
     |none=>rw[j]at c;simp at c
     |some E=>
      cases o:e with
      |none=>rw[j,o]at c;simp at c
      |some D=>
       rw[j,o]at c;simp at c;subst c;rcases Array.mem_append.1 n with p|p
       .exact w _ j v p
       .exact(B D o).gU v p
   cases e:l f.type with
   |none=>rw[e]at d;simp at d
   |some j=>
    rw[e,å,Ő]at d;have k:=y j.zero (b.2.1+j.size) _ (λz q=>h _ _ _ e q) U;generalize(if b.2.1+j.size>Š then Á else(do pure ((<-b.2.2.2.2.2.2.2.1)++(<-j.zero).cells):Option (Array Ñ)))=X at d k;generalize(if b.1.size+1<m.size then ";" else "")=Y at d;simp only[bind,pure,Option.bind]at d;repeat' split at d
    all_goals first
     |(simp only[Ó]at d;subst d;exact k)
     |(simp at d;done)
  .intro a c v n;simp at c;subst c;simp at n
def aoy{c:ċ->Option Ġ}(h:ZP c){d:TypeDesc}(a:ź c d=Â zJ)(b:zJ.zero=Â z):iF z:=by
 unfold ź at a;cases d with
 |struct k=>exact aox h a b
 |array n e=>
  simp only[å,Ù,ö,Ó]at a;obtain⟨f,v,st,_,rfl⟩:=a;simp only at b;split at b
  .simp at b
  .split at b
   .simp at b;subst b;exact Uf fp
   .simp only[ì]at b;obtain⟨j,g,rfl⟩:=b;refine Uf λx k=> ?_;simp only[Array.mem_flatten,Array.mem_replicate]at k;obtain⟨l,⟨_,rfl⟩,k⟩:=k;exact(h _ _ _ v g).gU x k
 |pointer e=>
  simp only[å,Ù,ö]at a;let⟨f,v,a⟩:=a;repeat' split at a
  all_goals first
   |(simp at a;done)
   |(simp only[Ù,Ó]at a;obtain⟨_,_,rfl⟩:=a;simp only[ĸ,Ó]at b;subst b;constructor)
 |slice e=>
  simp only[å,Ù,ö,Ó]at a;obtain⟨_,_,_,_,rfl⟩:=a;simp only[ĸ,Ó]at b;subst b;constructor
 |map k e=>
  simp only[å,Ù,ö,Ó]at a;obtain⟨_,_,_,_,_,_,_,_,rfl⟩:=a;simp only[ĸ,Ó]at b;subst b;constructor
 |chan k e=>
  simp only[å,Ù,ö,Ó]at a;obtain⟨_,_,_,_,rfl⟩:=a;simp only[ĸ,Ó]at b;subst b;constructor
 |func k e v=>
  simp only[å,Ù,ö,Ó]at a;obtain⟨_,_,rfl⟩:=a;simp only[ĸ,Ó]at b;subst b;constructor
 |_=>simp at a
def aaX{T:Tables}(a:∀(t:Nat) (i:Ġ) (z:Ñ),T.types[t]?=Â i->i.zero=Â z->iF z):∀f,ZP<|ŕ T f
 |0=>λt i z h=>by simp[ŕ]at h
 |f+1=>λt i z h b=>by
  unfold ŕ at h;split at h
  .exact a t i z h b
  .simp only[Ù]at h;let⟨d,_,c⟩:=h;exact aoy (aaX a f) c b
def aoz(a:∀(t:Nat) (i:Ġ) (z:Ñ),P.types[t]?=Â i->i.zero=Â z->iF z):om P:=λt i z h b=>by
 have h:P.toTables.info? t=Â i:=h;unfold Tables.info? at h;split at h
 .exact a t i z h b
 .exact aaX a _ t i z h b
end Go.Proofs.Y.Lift
namespace Go.Proofs.Y.fA
open Go Go.Conc Go.Proofs.Y.Lift Go.RowKit Go.Conc.Lib Go.ConcR.Gen
open Go.Proofs Go.Proofs.YtgpphkdoanciiaaGreatDoor
def Ug:Ñ->Bool
 |.agg a=>a.toList.all zS
 |v=>zS v
def aaY(h:Ug v=Í):iF v:=by
 cases v with
 |agg b=>exact .oh λi a=>GD<|(ģ.1 h) _<|é.2<|ú a
 |_=>exact GD h
def aaZ:Ñ->Bool
 |è a=>a.toList.all Ug
 |v=>Ug v
def aoA(h:aaZ v=Í):iF v:=by
 cases v with
 |tuple b=>exact .lZ λi a=>aaY<|(ģ.1 h) _<|é.2<|ú a
 |_=>exact aaY h
def zh(i:Ġ):Bool:=match i.zero with
 |some z=>aaZ z
 |none=>Í
def aoB(h:P.types.toList.all zh=Í):om P:=aoz λt i z a b=>by have:=(ģ.1 h) i<|é.2<|ĭ a;unfold zh at this;rw[b]at this;exact aoA this
def xV:om À:=aoB fL
end Go.Proofs.Y.fA
namespace Go.Proofs.Y.iV
open Go Go.Conc Go.Proofs Go.RowKit Go.Proofs.Y.Lift Go.Proofs.Y.gu Go.Proofs.Y.fA
noncomputable def nB:Nat:=À.globals.size
def qj(a:Nat->Prop)(b:Nat):Prop:=a b\/b=1\/b=2\/b=3\/b=4
def Nj(b:Nat)(e:ċ)(w:Ë):Prop:=∃c a,w.heap[b]?=Â (ä c e a)/\a.2<=c.size/\a.2<=16/\0<c.size/\∀v∈c.toList,∃k n,v=Å k n
structure mS(w:Ë):Prop where
 fv:nB<=w.heap.size
 M:kN nB (λb=>b=1\/b=2) w
 I:Nj 3 304 w
 C:Nj 4 305 w
 S:gu.pJ w
 vK:sT w
 N:qV w
section
variable{V:Nat->Prop}
theorem mS.r{w':Ë}(h:mS w)(f:nB<=w'.heap.size)(k:∀b,b=1\/b=2\/b=3\/b=4->w'.heap[b]?=w.heap[b]?):mS w':=by
 have d:∀b o,b=1\/b=2\/b=3\/b=4->w'.cell? ⟨b,o,Á⟩=w.cell? ⟨b,o,Á⟩:=λb o e=>by simp only[Û,k b e]
 refine⟨f,h.M.C λb e=>k b<|e.imp id Æ,?_,?_,?_,?_,?_⟩
 .let⟨c,i,a,r⟩:=h.I;exact⟨c,i,by rwa[k 3 fp],r⟩
 .let⟨c,i,a,r⟩:=h.C;exact⟨c,i,by rwa[k 4 fp],r⟩
 .have c:=h.S;have i:À.globalNamed "internal/strconv.uint64pow10"=Â 1:=fx
  unfold gu.pJ Ι Β at*;grind
 .let⟨c,g,a⟩:=h.vK.M;refine⟨⟨c,g,by rwa[k 2 fp]⟩,λi r j=> ?_⟩;rw[d 2 _ fp,d 2 _ fp,d 2 _ fp];exact h.vK.I i r j
 .have:=h.N;unfold qV at*;grind
def aa0(u:kN nB X w)(x:∀b,X b->lI b=É)(g:mS w):yZ (qj X) (qj X) nB w:=by
 have p:∀{a:Nat->Prop} {c:Array Ñ},(∀b,a b->qj X b)->fU (lA a nB) c c->fU (mh (qj X) nB) c c:=λ{a c} hX r=>r.ff<|A4 hX;refine⟨?_,g.fv⟩;have s:∀b e,(e=304\/e=305)->lI b=Í->Nj b e w->∃c e d,w.heap[b]?=Â (ä c e d)/\d.2<=c.size/\fU (mh (qj X) nB) c c/\(qj X b->0<c.size/\(lI b=Í->(e=304\/e=305)/\d.2<=16)/\(lI b=É->D2 c)):=λb e y B h=>by let⟨c,d,f,j,l,m,o⟩:=h;exact⟨c,e,d,f,j,oM λv i=>by obtain⟨k,n,rfl⟩:=o v i;exact .iB _ _,λ_=>⟨m,λ_=>⟨y,l⟩,λq=>by rw[B]at q;cases q⟩⟩
 rintro b (q|q|q|rfl|rfl)
 .let⟨c,e,d,f,j,l,m,o,_⟩:=u b q;exact⟨c,e,d,f,j,p (λ_=>Æ) l,λ_=>⟨m,λt=>(by rw[x b q]at t;cases t),λ_=>o⟩⟩
 .let⟨c,e,d,f,j,l,m,o,_⟩:=g.M b<|Æ q;exact⟨c,e,d,f,j,p (λi k=>k.elim (λz=>Î<|Æ z) λz=>Î<|Î<|Æ z) l,λ_=>⟨m,λt=>(by rw[q]at t;cases t),λ_=>o⟩⟩
 .let⟨c,e,d,f,j,l,m,o,_⟩:=g.M b<|Î q;exact⟨c,e,d,f,j,p (λi k=>k.elim (λz=>Î<|Æ z) λz=>Î<|Î<|Æ z) l,λ_=>⟨m,λt=>(by rw[q]at t;cases t),λ_=>o⟩⟩
 .exact s 3 304 (Æ U) U g.I
 .exact s 4 305 (Î U) U g.C
def qk(a:lI b=É\/i<16)(h:w.cell? ⟨b,i,Á⟩=Â v):(World.tp (j2 V w) xQ 0).cell? ⟨b,i,Á⟩=Â v:=by
 have j:(World.tp (j2 V w) xQ 0).heap[b]?=(w.heap[b]?).map (pG V b):=C6 b;simp only[Û,j];simp only[Û]at h;cases g:w.heap[b]? with
 |none=>rw[g]at h;cases h
 |some k=>
  rw[g]at h;cases k with
  |cells c e m=>
   simp only[ø,pG,í,ç,if_false]at h|-;split
   .rename_i d;split at d
    .split at d
     .rename_i l;cases d;rcases a with a|a
      .rw[l]at a;cases a
      .unfold vI;rw[Array.getElem?_extract];simp;exact⟨by have:=(Þ.1 h).1;omega,h⟩
     .cases d;exact h
    .cases d;exact h
   .rename_i f;split at f
    .split at f<;>exact absurd U<|f _ _ _
    .exact absurd U<|f _ _ _
  |_=>cases h
def aa1{T:Ŧ}(d:kN nB X w)(e:∀b,X b->lI b=É):jb (lA X nB) w (World.tp (j2 V w) T 0):=by rintro i j o v ⟨rfl,a⟩ c;exact⟨v,qk (Æ<|e i a) c,d.r a c⟩
end
def RD(s:List fM)(b:Ñ)(a:Nat->Prop)(w:Ë):Prop:=∃c,kC c=s/\kx s/\M9 b c w/\kN nB a w/\fu (lA a nB) b b
section
variable{V:Nat->Prop}{w':Ë}{s:List fM}
def aa2(h:kN nB X w)(k:∀b,X b->w'.heap[b]?=w.heap[b]?):jb (lA X nB) w w':=by rintro i j o v ⟨rfl,a⟩ c;exact⟨v,by simp only[Û,k i a];exact c,h.r a c⟩
def RD.r(h:RD s v X w)(k:∀b,X b->w'.heap[b]?=w.heap[b]?):RD s v X w':=by let⟨l,d,e,f,a,c⟩:=h;let⟨g,i,j⟩:=Jk (aa2 a k) c f;exact⟨g,i.trans d,e,j,a.C k,c⟩
def Jn(r:Nat)(q:Qn)(w:Ë):Prop:=rV r q.x q.y q.g q.k q.r q.v q.C q.I w
def aa3{Y:fw}(a:jb Y u w){r:Nat}{q:Qn}(b:Y r i)(h:Jn r q u):Jn i q w:= ⟨a.r b h.I,a.r b h.S,a.r b h.a,a.r b h.Y,a.r b h.N,a.r b h.M,a.r b h.c,a.r b h.b⟩
def aoC{T:Ŧ}(g:mS w):gu.pJ (World.tp (j2 V w) T 0):=by
 have a:=g.S;have h:À.globalNamed "internal/strconv.uint64pow10"=Â 1:=fx
 unfold gu.pJ Ι Β at*;rw[h]at a|-;simp only[Ő]at a|-;have i:(World.tp (j2 V w) T 0).heap[1]?=(w.heap[1]?).map (pG V 1):=C6 1;rw[i];cases f:w.heap[1]? with
 |none=>rw[f]at a;cases a
 |some j=>
  rw[f]at a;cases j with
  |cells c e k=>
   simp only[ø,pG,lI]at a|-;split
   .rename_i b;split at b<;>(simp at b;obtain⟨rfl,_⟩:=b;exact a)
   .rename_i d;split at d
    .exact absurd U<|d _ _ _
    .exact absurd U<|d _ _ _
  |_=>cases a
theorem aa4{T:Ŧ}(g:mS w):sT (World.tp (j2 V w) T 0):=by
 let⟨f,h,d⟩:=g.vK.M;refine⟨?_,λi r e=> ?_⟩
 .have a:(World.tp (j2 V w) T 0).heap[2]?=(w.heap[2]?).map (pG V 2):=C6 2;rw[a,d];simp only[ø,pG,lI];grind
 .let⟨a,b,c⟩:=g.vK.I i r e;exact⟨qk (Æ U) a,qk (Æ U) b,qk (Æ U) c⟩
def aoD{T:Ŧ}(g:mS w):qV (World.tp (j2 V w) T 0):=qk (Î A) g.N
theorem A6{T:Ŧ}:kl (World.tp (j2 V w) T 0):=λi o h=>H_ (Sh:=V) (w:=w) i o h
theorem aoE{l:fe}{q:Qn}{r:Nat}(x:RD s v X l.w)(I:∀b,X b->l.M b)(y:kN nB V l.w)(J:∀b,V b->l.M b)(h:V r)(z:Jn r q l.w)(ok:q.Ok)(g:mS l.w)(K:∀b,b=1\/b=2\/b=3\/b=4->l.M b)(j:∀b,X b\/V b->lI b=É)(m:List (Nat×fM))(B:kC m=s): Fq (λg=>za g=Í) 67 #[v,Ã<|Â ⟨r,0,Á⟩] l (qj λb=>X b\/V b) λe _=>e=Ä (sY m q):=by
 let⟨L,c,d,D,E,o⟩:=x;have t:=E.I y;refine⟨?_,aa0 t j g,?_,?_,λT=> ?_⟩
 .rintro b (q|q);all_goals grind
 .intro b a;unfold za at a;simp at a;exact Î a
 .refine oM λe a=> ?_;simp at a;rcases a with rfl|rfl
  .exact o.ff<|A4 λi k=>Æ<|Æ k
  .exact fu.jE (Y:=mh (qj λb=>X b\/V b) nB) ⟨⟨U,Æ<|Î h⟩,U,U⟩
 .have a:=aa1 (V:=qj λb=>X b\/V b) (T:=T) t j;obtain⟨F,f,N,n,G,rfl,O,u⟩:=Jk a (o.ff<|A4 λi k=>Æ k) D;have i:n=(kC F).length:=by rw[u.r];simp[kC]
  have P:=d.I;have Q:=d.C;rw[f,c]at i;have C:=aok (cp:=G) u Z Z (λp H=> ?_) (aa3 a ⟨U,Î h⟩ z) ok (aa4 g) (aoC g)<|aoD g
  .apply C.mono;rintro e S ⟨rfl,k⟩;exact⟨by rw[aom<|f.trans<|c.trans B.symm],k.gU A6⟩
  .have:p.2∈s:=by rw[<-c,<-f];exact à.2 ⟨p,H,U⟩
   exact(d.r _ this).1
end
def Dq(r:Nat)(v:Int)(x:Nat)(c:List Tx)(w:Ë):Prop:=∃a n d b,Di r v x a n d w/\Fw a n b w/\mO b=c/\n<=1000
section
variable{V:Nat->Prop}{w':Ë}{s:List fM}
def aa5(h:kN nB X w):∀i,X i->i<w.heap.size:=λi a=>by let⟨c,e,d,b,_⟩:=h i a;exact(Þ.1 b).1
theorem aa6{T:Ŧ}(f:lI b=É)(h:w.heap[b]?=Â (ä d e xJ))(i:xJ.2<=d.size):∃a,(World.tp (j2 V w) T 0).heap[b]?=Â (ä d e a)/\a.2<=d.size:=by have g:(World.tp (j2 V w) T 0).heap[b]?=(w.heap[b]?).map (pG V b):=C6 b;rw[g,h];simp only[ø,pG,f,ç,if_false];grind
def aoF{T:Ŧ}(h:kN nB X w)(d:∀b,X b->lI b=É):kN nB X (World.tp (j2 V w) T 0):=λb a=>by let⟨c,e,m,f,g,i⟩:=h b a;let⟨j,k,l⟩:=aa6 (V:=V) (T:=T) (d b a) f g;exact⟨c,e,j,k,l,i⟩
def aoG{T:Ŧ}(k:kN nB X w)(l:∀b,X b->lI b=É){r:Nat}{v:Int}{o:List Tx}(p:X r)(h:Dq r v i o w):Dq r v i o (World.tp (j2 V w) T 0):=by
 let⟨E,n,F,G,g,s,H,I⟩:=h;have m:=l r p;refine⟨E,n,F,G,⟨qk (Æ m) g.M,qk (Æ m) g.N,qk (Æ m) g.I⟩,⟨s.C,λj a t q=> ?_⟩,H,I⟩;let⟨tb,J,u,y,d,K⟩:=s.r j a t q;have z:X tb:=by have:=k.r p g.I;rw[u]at this;exact Dp this
 have B:=Dn<|k.r z y;have f:=l a B;let⟨L,P,C⟩:=d.b;let⟨c,e,Q,D,M,_⟩:=k a B;rw[C]at D;cases D;obtain⟨N,O,_⟩:=aa6 f C M;exact⟨tb,J,u,qk (Æ<|l tb z) y,⟨⟨L,N,O⟩,qk (Æ f) d.r,qk (Æ f) d.C,qk (Æ f) d.I,qk (Æ f) d.M,qk (Æ f) d.Y,qk (Æ f) d.N⟩,K⟩
def Rg(s:List fM)(v:Ñ)(u:Ë):Prop:=∃X,RD s v X u
def Rg.tp{T:Ŧ}(h:Rg s v w):Rg s v (World.tp w T n):=by let⟨X,h⟩:=h;exact⟨X,h.r λ_ _=>rfl⟩
def aoH{Y:fw}{d:Nat->Prop}(h:qA Y d u w)(a:fu Y v x)(e:Rg s v u):∃c,RD s x c w/\∀b,c b->∃i,Y i b:=by let⟨X,f⟩:=e;have g:RD s v X {u with tape:=w.tape,drawn:=w.drawn}:=f.r λ_ _=>rfl;let⟨t,j,k,l,m,n⟩:=g;let⟨o,p,q⟩:=Jk (zg h) a l;exact⟨_,⟨o,p.trans j,k,q,Ue h m,Ni a n⟩,λb ⟨i,_,r⟩=>⟨i,r⟩⟩
theorem aoI{l:fe}{r:Nat}{d:List Tx}(hRD:RD s v X l.w)(hU:∀b,X b->l.M b)(N:kN nB V l.w)(hV:∀b,V b->l.M b)(O:V r)(hq:Dq r h m d l.w)(hx:m<8)(y:-1<=h)(zi:∀t∈d,t.Ok)(hn:d.length<=1000)(g:mS l.w)(hG:∀b,b=1\/b=2\/b=3\/b=4->l.M b)(B:∀b,X b\/V b->lI b=É)(D:List (Nat×fM))(I:kC D=s): Fq (λg=>za g=Í) 66 #[v,Ã<|Â ⟨r,0,Á⟩] l (qj λb=>X b\/V b) λz u=>∃p n c,z=è #[Ç p n c,Ä (rS D h m d).2]/\Rg (rX D h m d) (Ç p n c) u:=by
 let⟨vs,h1,E,h3,P,f⟩:=hRD;have Q:=P.I N;refine⟨?_,aa0 Q B g,?_,?_,λT=> ?_⟩
 .rintro b (q|q);all_goals grind
 .intro b u;unfold za at u;simp at u;exact Î u
 .refine oM λh y=> ?_;simp at y;rcases y with rfl|rfl
  .exact f.ff<|A4 λi j=>Æ<|Æ j
  .exact fu.jE (Y:=mh (qj λb=>X b\/V b) nB) ⟨⟨U,Æ<|Î O⟩,U,U⟩
 .have o:=aoF (V:=qj λb=>X b\/V b) (T:=T) P λb q=>B b<|Æ q;obtain⟨z,k1,S,n,W,rfl,T0,F⟩:=Jk (aa1 (V:=qj λb=>X b\/V b) (T:=T) Q B) (f.ff<|A4 λi j=>Æ j) h3;obtain⟨tp,tn,tc,a,q1,q2,rfl,q4⟩:=(aoG (V:=qj λb=>X b\/V b) (T:=T) N (λb q=>B b<|Î q) O hq);have c:=k1.trans h1;have hlen:n=s.length:=by rw[F.r,<-c];simp[kC]
  have auD:=E.I;have hle:=E.C;have uk:kl (World.tp (j2 (qj λb=>X b\/V b) l.w) T 0):=A6;have C:=ang F Z Z T0 (λp J=>by
   have:p.2∈s:=by rw[<-c];exact à.2 ⟨p,J,U⟩
   have:=(E.r _ this).2.2.2;omega) q1 q2 q4 (aa4 g) hx y
  have u:rX z h m (mO a)=rX D h m (mO a):=by unfold rX;rw[aaS<|c.trans I.symm,c,I]
  have H:kx (rX z h m<|mO a):=kx.M (by rwa[c]) zi hn;have ha:=aaS (c.trans I.symm) h m<|mO a;generalize World.tp (j2 (qj λb=>X b\/V b) l.w) T 0=G at*;refine C.mono ?_;rintro e u' ⟨k,hA⟩;rcases hA with⟨K,rfl⟩|⟨nv,b,uu,K,rfl,e3,e4,gb,gn,gc,rfl,e6⟩
  .refine⟨⟨S,n,W,by rw[ha],?_⟩,k.gU uk⟩;rw[<-u];have L:rX z h m (mO a)=s:=by unfold rX;rw[K,c];simp
   rw[L]at H|-;exact⟨X,z,c,H,⟨S,n,W,U,T0,F.I k⟩,o.C λi j=>k.N i (aa5 o i j) id,f⟩
  .let⟨i,m1,m2,m3,_⟩:=aov o k (aa5 o) e4 e6 λp J=>by
    let⟨j,hj⟩:=Đ J;let⟨sb,so,f1,f2,_⟩:=F.C j p.1 p.2 hj;have:X sb:=by rw[f1]at f;exact Dp f
    exact Dn<|o.r this f2
   refine⟨⟨Â ⟨gb,0,Á⟩,gn,gc,by rw[ha],?_⟩,k.gU uk⟩;rw[<-u];have L:rX z h m (mO a)=kC (z++[(b,nv)]):=by unfold rX;rw[K];simp[kC]
   rw[L]at H|-;exact⟨i,_,U,H,e3,m3,fu.j5 (Y:=lA i nB) ⟨⟨U,m2⟩,U,U⟩ gn gc⟩
end
structure xy where
 r:Nat->Int×Nat×List Tx
 C:Nat->Qn
def n8(s:List fM):List (Nat×fM):=s.map λv=>(0,v)
theorem FE(s:List fM):kC (n8 s)=s:=by simp[kC,n8,Function.comp_def]
def A7(s:List fM)(i:Int×Nat×List Tx):List fM:=rX (n8 s) i.1 i.2.1 i.2.2
def qm(a:xy)(I:List Nat)(b:List fM):Nat->List fM
 |0=>b
 |k+1=>A7 (qm a I b k)<|a.r<|I.getD k 0
def zj(a:xy)(kd:Nat->Int)(p:Nat)(s:List fM):ByteArray:=if kd p=1 then(rS (n8 s) (a.r p).1 (a.r p).2.1 (a.r p).2.2).2 else sY (n8 s) (a.C p)
def iE(e:fe)(a:Nat->Prop)(c:xy)(kd:Nat->Int)(R:Nat)(d:List fM)(f:Nat->Prop):yW where
 γ:=List fM
 C:=d
 M:=λk s g=>g=A7 s (c.r<|(ij kd R).getD k 0)
 RD:=λs h V w=>RD s h V w/\∀b,V b->a b\/e.w.heap.size<=b
 I:=λp=>zj c kd p<|qm c (ij kd R) d<|fP kd p
 r:=f
def Uh{kd:Nat->Int}:∀(R k:Nat),k<(ij kd R).length->fP kd ((ij kd R).getD k 0)=k
 |0,k,h=>by simp[ij]at h
 |R+1,k,h=>by
  by_cases q:kd R=1
  .rw[uq q]at h|-;rcases Nat.lt_or_ge k (ij kd R).length with z|z
   .have e:(ij kd R++[R]).getD k 0=(ij kd R).getD k 0:=by simp[Ĕ,ĝ z]
    rw[e];exact Uh R k z
   .have e:k=(ij kd R).length:=by simp at h;omega
    subst e;simp[Ĕ,fP]
  .rw[xg q]at h|-;exact Uh R k h
section
variable{y:Nat->Prop}
def Nk(h:kN nB y w)(g:mS w):∀b,y b->lI b=É:=λb i=>by
 let⟨c,e,n,f,_,_,_,_,j,k⟩:=h b i;cases d:lI b with
 |false=>rfl
 |true=>
  unfold lI at d;simp at d;rcases d with rfl|rfl
  .let⟨l,m,a,_⟩:=g.I;rw[f]at a;cases a;exact absurd U j
  .let⟨l,m,a,_⟩:=g.C;rw[f]at a;cases a;exact absurd U k
def aoJ(p:kN nB X w)(k:∀b,X b->u.heap[b]?=w.heap[b]?){r:Nat}{s:List Tx}(g:X r)(h:Dq r c i s w):Dq r c i s u:=by
 have d:∀{b o:Nat} {z:Ñ},X b->w.cell? ⟨b,o,Á⟩=Â z->u.cell? ⟨b,o,Á⟩=Â z:=λ{b o z} l q=>by simp only[Û,k b l];exact q
 let⟨D,n,E,F,m,y,G,H⟩:=h;refine⟨D,n,E,F,⟨d g m.M,d g m.N,d g m.I⟩,⟨y.C,λj a t q=> ?_⟩,G,H⟩;let⟨tb,I,B,C,e,J⟩:=y.r j a t q;have l:X tb:=by have:=p.r g m.I;rw[B]at this;exact Dp this
 have f:=Dn<|p.r l C;let⟨K,L,M⟩:=e.b;exact⟨tb,I,B,d l C,⟨⟨K,L,by rwa[k a f]⟩,d f e.r,d f e.C,d f e.I,d f e.M,d f e.Y,d f e.N⟩,J⟩
end
structure Jo(l0:fe)(bt:xy)(kd:Nat->Int)(rq:Nat->Nat)(R:Nat)(Q:Nat->Prop):Prop where
 M:mS l0.w
 I:∀b,b=1\/b=2\/b=3\/b=4->l0.O b
 C:kN nB Q l0.w
 fg:∀b,Q b->l0.O b
 r:∀p,p<R->Q (rq p)
 kR:∀p,p<R->kd p=1->Dq (rq p) (bt.r p).1 (bt.r p).2.1 (bt.r p).2.2 l0.w/\(bt.r p).2.1<8/\-1<=(bt.r p).1/\(∀t∈(bt.r p).2.2,t.Ok)/\(bt.r p).2.2.length<=1000
 Tf:∀p,p<R->kd p≠1->Jn (rq p) (bt.C p) l0.w/\(bt.C p).Ok
def aa7{V:Nat->Prop}{l:fe}{a:Ñ->Ë->Prop}(h:Fq X F d l V vQ)(b:∀v u,vQ v u->a v u):Fq X F d l V a:= ⟨h.N,h.S,h.I,h.r,λT=>(h.C T).mono λe u q=>by
  cases e with
  |returned v=>exact⟨b v u q.1,q.2⟩
  |_=>exact q⟩
section
variable{l0:fe}{bt:xy}{kd:Nat->Int}{rq:Nat->Nat}{R:Nat}{Q C d:Nat->Prop}{B:List fM}{E F:Option ù}
def aa8{s:List fM}(h:fA.nN ((kL (iE l0 d bt kd R B C) i n R kd rq D E F j9 j7 k m J j qX l0).r À) b s):s=qm bt (ij kd R) B b:=by
 have c:∀(b:Nat) (s:((kL (iE l0 d bt kd R B C) i n R kd rq D E F j9 j7 k m J j qX l0).r À).γ),fA.nN ((kL (iE l0 d bt kd R B C) i n R kd rq D E F j9 j7 k m J j qX l0).r À) b s->s=qm bt (ij kd R) B b:=λb s h=>by
  induction h with
  |wF=>rfl
  |Em _ a e=>
   rwa[e]at a
 exact c b s h
def aoK(h:Jo l0 bt kd rq R Q)(N:l0.w.heap.size<=m):Fj (kL (iE l0 d bt kd R B C) i n R kd rq D E F j9 j7 k m J j qX l0):=by
 apply alu xV K_ J' U;intro a s O W l q t f x y P g G;let⟨f,S⟩:=f;have T:=y.fv m<|g m<|Î U;have H:l0.w.heap.size<=l.w.heap.size:=Z
 have o:=G;have p:=h.M.r (Ï h.M.fv H) λb c=>o b<|h.I b c;have r:=h.C.C λb c=>o b<|h.fg b c;have e:=IC<|xj q;let⟨I,K⟩:=h.Tf _ e.1 e.2;refine⟨_,aa7 (aoE f x r (λb c=>g b<|Æ<|h.fg b c) (h.r _ e.1) (aa3 (aa2 h.C λb c=>o b<|h.fg b c) ⟨U,h.r _ e.1⟩ I) K p (λb c=>g b<|Æ<|h.I b c) (λb c=>c.elim (Nk (by let⟨_,_,_,_,z,_⟩:=f;exact z) p b)<|Nk r p b) (n8 s)<|FE s) λv u L=> ?_⟩;rw[L];have z:=aa8 t;have M:(kL (iE l0 d bt kd R B C) i n R kd rq D E F j9 j7 k m J j qX l0).b a=fP kd ((jG kd R).getD a 0):=if_pos q;rw[M]at z;show _=Ä (zj bt kd ((jG kd R).getD a 0)<|qm bt (ij kd R) B<|fP kd<|(jG kd R).getD a 0);rw[<-z];unfold zj;rw[if_neg e.2]
theorem aoL(h:Jo l0 bt kd rq R Q)(hZ:(∀b,Q b->d b)/\∀b,b=1\/b=2\/b=3\/b=4->d b)(a_:l0.w.heap.size<=m):Fi (kL (iE l0 d bt kd R B C) i n R kd rq D E F j9 j7 k m J j qX l0):=by
 refine alv xV K_ J' U (λs o u=>Rg s o u) (λs o u T n q=>Rg.tp q) ?_;intro T s o W l H I g K L hq r M;let⟨g,He⟩:=g;have hs:=L.fv m<|r m<|Î U;have N:l0.w.heap.size<=l.w.heap.size:=Z
 have t:=M;have x:=h.M.r (Ï h.M.fv N) λb a=>t b<|h.I b a;have y:=h.C.C λb a=>t b<|h.fg b a;have G:=H;have f:=IB<|xj G;let⟨O,P,S,V,X⟩:=h.kR _ f.1 f.2;refine⟨_,aa7 (aoI g K y (λb a=>r b<|Æ<|h.fg b a) (h.r _ f.1) (aoJ h.C (λb a=>t b<|h.fg b a) (h.r _ f.1) O) P S V X x (λb a=>r b<|Æ<|h.I b a) (λb a=>a.elim (Nk (by let⟨_,_,_,_,z,_⟩:=g;exact z) x b)<|Nk y x b) (n8 s)<|FE s) λv u hv=> ?_,?_⟩
 .obtain⟨p,z,c,rfl,Y⟩:=hv;refine⟨p,z,c,A7 s<|bt.r<|(ij kd R).getD T 0,?_,U,Y⟩;have e:(kL (iE l0 d bt kd R B C) i n R kd rq D E F j9 j7 k m J j qX l0).e (T+1)=zj bt kd ((ij kd R).getD T 0) (qm bt (ij kd R) B<|fP kd<|(ij kd R).getD T 0):=U;rw[e,Uh R T G,<-(aa8 I)];unfold zj;rw[if_pos f.2]
 .intro Y Sh u w s' D_ MH e p h3 h4;let⟨V',k1,c⟩:=aoH e p h3;refine⟨V',⟨k1,λb a=> ?_⟩,c⟩;let⟨z,hi⟩:=c b a;rcases h4 z b hi with((q|q)|q)|q;all_goals grind
end
section
variable{R:Nat}{kd:Nat->Int}{o:Nat->Nat}{r:List č}{l:fe}{u:Nat->fe}{bt:xy}{j f:Nat->Prop}{s0:List fM}
def aoM{s:List fM}(h:AP (iE l f bt kd R s0 j) k s):s=qm bt (ij kd R) s0 k:=by
 have b:∀(k:Nat) (s:(iE l f bt kd R s0 j).γ),AP (iE l f bt kd R s0 j) k s->s=qm bt (ij kd R) s0 k:=λk s h=>by
  induction h with
  |wF=>rfl
  |Em _ a c=>
   rwa[c]at a
 exact b k s h
structure A8(f:Nat->Prop)(bt:xy)(R:Nat)(kd:Nat->Int)(s0:List fM)(l:fe)(an:Nat)(sl:Ñ)(l':fe):Prop where
 M:∀b,l.O b->l'.O b/\l'.w.heap[b]?=l.w.heap[b]?
 r:l'.O an/\∀p,p<R->l'.w.cell? ⟨an,p,Á⟩=Â (Ä<|zj bt kd p<|qm bt (ij kd R) s0<|fP kd p)
 S:∃V,RD (qm bt (ij kd R) s0<|fP kd R) sl V l'.w/\∀b,V b->l'.O b/\(f b\/l.w.heap.size<=b)
 d:l'.d=0
 q:¬l'.q
 rd:∀b,¬l'.I b
 C:(∀a,¬l'.r a)/\(∀a,¬l'.N a)/\∀a,¬l'.K a
 I:l'.w.cell? ⟨an,R,Á⟩=Á/\kY l'.w an=Â (0,0)
def aoN{a:fe}(h:GA (iE l f bt kd R s0 j) R kd l i v a):A8 f bt R kd s0 l i v a:=by let⟨s,V,g,c,k⟩:=h.IE;have e:=aoM g;subst e;exact⟨h.wM,h.ky,⟨V,c.1,λb q=>⟨k b q,c.2 b q⟩⟩,h.d,h.q,h.rd,h.xl,h.D6⟩
def aoO{J:(Loc->Prop)->Nat->Jd}{F:č}(P:qX=F.at y (Ð Q (j9::jJ)::L)::r)(c:fA.sQ À zX i (MG kd o R n v l qX) .fD D u E w qJ)(C:Option (Nat×Nat))(s:gq l)(S:∀b,¬l.I b)(W:¬l.q)(Y:l.d=0)(Nl:xk zX i l)(H:Jo l bt kd o R X)(hZ:(∀b,X b->f b)/\∀b,b=1\/b=2\/b=3\/b=4->f b)(I:∀b,f b->l.O b)(K:∀b,j b->f b)(C4:RD s0 v j l.w)(yU:w.os=l.w.os/\w.output=l.w.output)(hn:1<=n)(hs:n+R<1000) (hJ:∀t x z B p m c,xk t x z->gq z->A8 f bt R kd s0 l B (Ç p m c) z->fA.fi À Í (J t x) z (G (F.at (y.put ((Q[j9]?).bind (·.dst))<|è #[Ç (Â ⟨B,0,Á⟩) R R,Ç p m c])<|Ð Q jJ::L) r)): ∃N t x T V IF g e uu h,ů À N (Ĥ E w C) qJ=(.next<|Ĥ g e uu,h)/\(e.os=l.w.os/\e.output=l.w.output)/\fA.sQ À t x (J t x) T V IF g e h:= aln (M:=iE l f bt kd R s0 j) P c C s S W Y Nl (λb q=>I b<|K b q) (λs C V w e h L=>⟨h.1.r L,h.2⟩) (λs C V w h=>⟨by let⟨_,_,_,⟨g,n,N,e,_⟩,_⟩:=h.1;exact⟨g,n,N,e⟩,λb q=>(h.2 b q).imp (I b) id⟩) ⟨C4,λb h=>Æ<|K b h⟩ yU hn hs (λg N V T cq B ba bi all e=>⟨aoL H hZ e,aoK H e⟩) λt x z B p m c e g N=>hJ t x z B p m c e g<|aoN N
end
end Go.Proofs.Y.iV
namespace Go.Proofs.Y.lB
open Go Go.Proofs Go.RowKit Go.Proofs.Y.Lift Go.Proofs.Y.gu
def iT(c:Int):Bool:=decide (48<=c)&&decide (c<=57)
def oN(c:Int):Bool:=decide (97<=c)&&decide (c<=104)
def uC(c:Int):Int:=
 if c=105 then 1 else if c=103 then 2 else if c=98 then 3 else if c=99 then 4 else if c=109 then 5
 else if c=114 then 6 else if c=108 then 7 else if c=117 then 8 else if c=100 then 9 else 0
def A9(c:Int):Int:=if c=62 then 1 else if c=123 then 2 else if c=58 then 3 else 0
def aoP(h:48<=c/\c<=57):iT c=Í:=by simp[iT,h]
theorem Ba(c:Int):iT c=Í↔(48<=c/\c<=57):=by simp[iT]
def aa9(c:Int):oN c=Í↔(97<=c/\c<=104):=by simp[oN]
def sZ(k:Int):List Int:=
 if k=1 then[86,58,120,47,66]else if k=2 then[86,58,120,115]else if k=3 then[86,58,120]
 else if k=4 then[86,58,120,62,121,40,110,44,107,41]else if k=5 then[86,58,120,62,121,40,107,41]
 else if k=9 then[86,58,87]else[86]
def pL(k:Int):List Int:=
 if k=1 then[121,61,110]else if k=2 then[80]else[121,40,110,44,107,41]
def mF(a c:Int):Bool:=
 if a=86\/a=87 then c==104||iT c
 else if a=110\/a=107 then iT c
 else if a=120\/a=121 then oN c
 else if a=115 then iT c||(decide (97<=c)&&decide (c<=102))
 else c==a
def lJ(a c:Int):Int:=
 if c=48\/iT c=É then 0
 else if a=86\/a=87 then 1
 else if a=110\/a=107 then 5
 else 0
def gN(s:ByteArray):List Int:=s.data.toList.map λc=>((c.toNat:Nat):Int)
def aoQ(B:ByteArray)(k:Nat)(h:k<B.size):(gN B).drop k=((B[k].toNat:Nat):Int)::(gN B).drop (k+1):=by
 have a:k<(gN B).length:=by simpa[gN]using h
 rw[List.drop_eq_getElem_cons a];congr 1;simp[gN,ą]
theorem FF(B:ByteArray):(gN B).length=B.size:=by unfold gN;simp_all
theorem vS(s:ByteArray)(h:0<s.size):gN s=((s[0].toNat:Nat):Int)::(gN s).tail:=by have:=aoQ s 0 h;grind
theorem abb(s:ByteArray)(h:s.size=0):gN s=[]:=by grind [ã,FF]
def aoR(s:ByteArray):gN (s.extract 1 s.size)=(gN s).tail:=by unfold gN;rw[ĩ,ı,<-List.map_tail];congr 1;rw[Ğ,<-List.drop_one];apply Ć;simp_all
theorem aoS(s:ByteArray)(h:s.size<=10):(s.extract 1 s.size).size<=10:=by grind [ĉ]
theorem aoT(a c:Int):0<=lJ a c/\lJ a c<=5:=by unfold lJ;grind
structure PT where
 c:List Int
 p:ByteArray
structure PR where
 c:List Int
 r:List PT
structure PD where
 S:List PR
 r:Bool
 M:PR
 C:Bool
 N:PT
structure PS where
 C:List Int
 r:Int
 I:Int
 M:Int
 d:PD
namespace PD
def Y(d:PD):List PT:=if d.C then d.M.r++[d.N]else d.M.r
def I(d:PD):List PR:=if d.r then d.S++[⟨d.M.c,d.Y⟩]else d.S
def vT(d:PD)(i:Nat)(z:Int):PD:={d with M:={d.M with c:=d.M.c.set i z}}
def uD(d:PD)(i:Nat)(z:Int):PD:={d with N:={d.N with c:=d.N.c.set i z}}
def kO(d:PD)(i:Nat)(z:Int):PD:=if d.C then d.uD i z else d.vT i z
def rY(d:PD)(p:ByteArray):PD:={d with N:={d.N with p:=p}}
def zh:PT:=⟨[0,0,0,0,0],⟨#[]⟩⟩
def uE(k:Int):PR:=⟨[0,0,0,0,k,0,0,0],[]⟩
def pb(d:PD):PD:={d with M:=⟨d.M.c,d.Y⟩,C:=Í,N:=zh}
def vU(d:PD)(k:Int):PD:={S:=d.I,r:=Í,M:=uE k,C:=É,N:=d.N}
def fO(d:PD)(a z:Int):PD:=
 if a=86 then d.vT 5 z else if a=87 then d.vT 6 z else if a=120 then d.kO 0 z else if a=121 then d.kO 1 z
 else if a=110 then d.kO 2 z else if a=107 then d.kO 3 z else if a=115 then d.vT 7 z else d
def zk(d:PD)(i:Nat):Int:=if d.C then d.N.c.getD i 0 else d.M.c.getD i 0
def G(d:PD)(a:Int):Int:=if a=86 then d.M.c.getD 5 0 else if a=87 then d.M.c.getD 6 0 else if a=110 then d.zk 2 else d.zk 3
end PD
def lk(a c:Int):Int:=
 if a=120\/a=121 then Ú [97,98,99,100,101,102,103,104] c.toNat.toUInt8
 else if a=115 then Ú [48,49,50,51,52,53,54,55,56,57,97,98,99,100,101,102] c.toNat.toUInt8
 else if c=104 then-1 else(c-48)%256
def qW(z c:Int):Int:=È.wrap<|È.wrap (z*10)+(c-48)%256
def qn(st:PS)(c:Int):Option PS:=
 if c=59/\st.d.S.length+1<24 then Â {st with C:=[82]}
 else if c=44/\0<st.d.Y.length/\st.d.Y.length<8 then Â {st with C:=[120,84],d:=st.d.pb}
 else Á
def zl(st:PS)(k:Int):Option PS:=if k=0 then Á else Â {st with C:=sZ k,d:=st.d.vU k}
def zm(st:PS)(k:Int):Option PS:=if k=0 then Á else Â {st with C:=pL k,I:=0,d:=st.d.uD 4 k}
def pd(st:PS)(a c:Int):PS:={st with r:=lJ a c,M:=a,d:=st.d.fO a (lk a c)}
def jH(B:ByteArray)(k:Nat)(st:PS)(c:Int):Option PS:=
 match st.C with
 |[]=>qn st c
 |want::tl=>
  if want=82 then zl st (uC c)
  else if want=66 then
   if oN c=Í then Â (pd {st with C:=[84],d:=st.d.pb} 120 c)else qn st c
  else if want=84 then zm st (A9 c)
  else if want=80 then
   if c=125 then Â {st with C:=tl,d:=st.d.rY (B.extract (k-st.I.toNat) k)}
   else if st.I=40\/mD c=0 then Á else Â {st with I:=st.I+1}
  else if mF want c=Í then Â {pd st want c with C:=tl}
  else Á
def Jp(st:PS)(c:Int):PS:={st with r:=st.r-1,d:=st.d.fO st.M (qW (st.d.G st.M) c)}
def qo(B:ByteArray)(k:Nat)(st:PS)(c:Int):Option PS:=
 if 0<st.r/\iT c=Í then Â (Jp st c)else jH B k {st with r:=0} c
def qp(B:ByteArray):Nat->Nat->PS->Nat×PS
 |0,k,st=>(k,st)
 |f+1,k,st=>if h:k<B.size then match qo B k st (B[k].toNat:Int)with
  |none=>(k,st)
  |some a=>qp B f (k+1) a
  else(k,st)
def Ui:PD:=⟨[],É,⟨[],[]⟩,É,⟨[],⟨#[]⟩⟩⟩
def s6:PS:=⟨[82],0,0,0,Ui⟩
def td(c:Int)(w:Ë): Ö À 94 #[Å ŧ c] w λe a=>e=Ê (þ<|iT c)/\a=w:=by
 go_enter Tryz.func94,Tryz.ntmps94;go_wp2;all_goals go_ret
 all_goals exact⟨Tq (by simp only[iT];first|(simp[*];done)|(rw[đ];simp;omega)),U⟩
def aoU(s:ByteArray)(c:Int)(w:Ë): Ö À 167 #[Ä s,Å ŧ c] w λe a=>e=Ê (Å È<|Ú s.data.toList c.toNat.toUInt8)/\a=w:=by go_enter Tryz.func167,Tryz.ntmps167;go_wp2;rw[run_callFunc_extern Tryz.func185 fx fx fx fx,Lib.run_indexByteString];simp only[Result.andThen];rw[Oper.upon_value];go_wp2;go_ret;exact⟨U,U⟩
def Jq(s:ByteArray)(c:Int)(w:Ë): Ö À 146 #[Ä s,Å ŧ c] w λe a=>e=Ê (Å È<|Ú s.data.toList c.toNat.toUInt8)/\a=w:=by go_enter Tryz.func146,Tryz.ntmps146;go_wp2_with (go_at_call 167;refine(aoU _ _ _).mono ?_;rintro e a ⟨rfl,rfl⟩);go_ret;exact⟨U,U⟩
def Nn(c:Int):Bool:=iT c||(decide (97<=c)&&decide (c<=102))
def aoV:∀n:Fin 256,decide (0<=Ú [97,98,99,100,101,102,103,104] n.val.toUInt8)=oN (n.val:Int):=by decide+kernel
def aoW:∀n:Fin 256,decide (0<=Ú [48,49,50,51,52,53,54,55,56,57,97,98,99,100,101,102] n.val.toUInt8)=Nn (n.val:Int):=by decide+kernel
def aoX(a:0<=c)(b:c<256):decide (0<=Ú [97,98,99,100,101,102,103,104] c.toNat.toUInt8)=oN c:=by have:=aoV ⟨c.toNat,Z⟩;rwa[show((c.toNat:Nat):Int)=c from by omega]at this
def aoY(a:0<=c)(b:c<256):decide (0<=Ú [48,49,50,51,52,53,54,55,56,57,97,98,99,100,101,102] c.toNat.toUInt8)=Nn c:=by have:=aoW ⟨c.toNat,Z⟩;rwa[show((c.toNat:Nat):Int)=c from by omega]at this
def Uj(c:Int)(b:0<=c)(d:c<256)(w:Ë): Ö À 98 #[Å ŧ c] w λe a=>e=Ê (þ<|oN c)/\a=w:=by
 have f:=aoX b d;go_enter Tryz.func98,Tryz.ntmps98;go_wp2_with (go_at_call 146;refine(Jq _ _ _).mono ?_;rintro e a ⟨rfl,rfl⟩);all_goals go_ret
 all_goals exact⟨U,U⟩
def aoZ(c:Int)(b:0<=c)(d:c<256)(w:Ë): Ö À 149 #[Å ŧ c] w λe a=>e=Ê (þ<|Nn c)/\a=w:=by
 have f:=aoY b d;go_enter Tryz.func149,Tryz.ntmps149;go_wp2_with (go_at_call 146;refine(Jq _ _ _).mono ?_;rintro e a ⟨rfl,rfl⟩);all_goals go_ret
 all_goals exact⟨U,U⟩
def ao0(c:Int)(w:Ë): Ö À 102 #[Å ŧ c] w λe a=>e=Ê (Å È<|A9 c)/\a=w:=by
 go_enter Tryz.func102,Tryz.ntmps102;go_wp2;all_goals go_ret
 all_goals refine⟨IH ?_,U⟩
 all_goals simp only[beq_iff_eq,beq_eq_false_iff_ne,ne_eq]at*
 all_goals simp[A9, *]
def ao1(c:Int)(w:Ë): Ö À 97 #[Å ŧ c] w λe a=>e=Ê (Å È<|uC c)/\a=w:=by
 go_enter Tryz.func97,Tryz.ntmps97;go_wp2;all_goals go_ret
 all_goals refine⟨IH ?_,U⟩
 all_goals simp only[beq_iff_eq,beq_eq_false_iff_ne,ne_eq]at*
 all_goals simp[uC, *]
def abd(b c:Int)(d:0<=c)(f:c<256)(w:Ë): Ö À 104 #[Å ŧ b,Å ŧ c] w λe a=>e=Ê (þ<|mF b c)/\a=w:=by
 go_enter Tryz.func104,Tryz.ntmps104;go_wp2_with (first|(go_at_call 94;refine(td _ _).mono ?_;rintro e a ⟨rfl,rfl⟩)|(go_at_call 98;refine(Uj _ d f _).mono ?_;rintro e a ⟨rfl,rfl⟩)|(go_at_call 149;refine(aoZ _ d f _).mono ?_;rintro e a ⟨rfl,rfl⟩));all_goals go_ret
 all_goals refine⟨Tq ?_,U⟩
 all_goals try go_light
 all_goals simp only[beq_iff_eq,beq_eq_false_iff_ne,ne_eq]at*
 all_goals unfold mF
 all_goals first|(simp[Nn, *];done)|(rw[đ];simp[*];done)|(rw[đ];simp[*];omega)
def ao2(k:Int)(w:Ë): Ö À 145 #[Å È k] w λe a=>(∃b:ByteArray,e=Ê (Ä b)/\b.size<=10/\gN b=sZ k)/\a=w:=by
 go_enter Tryz.func145,Tryz.ntmps145;go_wp2;all_goals go_ret
 all_goals refine⟨⟨_,U,?_,?_⟩,U⟩
 all_goals try go_light
 all_goals simp only[beq_iff_eq,beq_eq_false_iff_ne,ne_eq]at*
 all_goals first|(simp[gN,sZ, *];done)|decide
def ao3(k:Int)(w:Ë): Ö À 148 #[Å È k] w λe a=>(∃b:ByteArray,e=Ê (Ä b)/\b.size<=10/\gN b=pL k)/\a=w:=by
 go_enter Tryz.func148,Tryz.ntmps148;go_wp2;all_goals go_ret
 all_goals refine⟨⟨_,U,?_,?_⟩,U⟩
 all_goals try go_light
 all_goals simp only[beq_iff_eq,beq_eq_false_iff_ne,ne_eq]at*
 all_goals first|(simp[gN,pL, *];done)|decide
def nz(m s:Nat):Ñ->Prop
 |Å ŧ _=>False
 |Å _ _=>True
 |þ _=>True
 |Ä _=>True
 |Ã Á=>True
 |Ã (Â a)=>m<=a.block/\a.block<s
 |Ç Á _ _=>True
 |Ç (Â a) _ _=>m<=a.block/\a.block<s
 |_=>False
def nz.ff{s:Nat}(h:nz m s v)(b:s<=i):nz m i v:=by
 cases v with
 |int k n=>cases k<;>exact h
 |pointer a=>cases a with
  |none=>trivial
  |some a=>exact⟨h.1,Ę h.2 b⟩
 |slice a n c=>cases a with
  |none=>trivial
  |some a=>exact⟨h.1,Ę h.2 b⟩
 |_=>exact h
def Np(m s:Nat)(o:Obj):Prop:=∃c e a,o=ä c e a/\a.2<=c.size/\0<c.size/\e≠304/\e≠305/\∀v∈c.toList,nz m s v
def jI(m:Nat)(w:Ë):Prop:=∀i o,m<=i->w.heap[i]?=Â o->Np m w.heap.size o
section
variable{w':Ë}
def Np.ff{s:Nat}{o:Obj}(h:Np m s o)(a:s<=i):Np m i o:=by let⟨c,e,b,d,f,g,j,k,l⟩:=h;exact⟨c,e,b,d,f,g,j,k,λv n=>(l v n).ff a⟩
def jI.I(w:Ë):jI w.heap.size w:=λi o a h=>by rw[Ĩ a]at h;cases h
def jI.gG(h:jI m w):jI m w.drew:=h
def jI.jh(h:jI m w)(n:Nat):jI m (w.drewN n):=h
theorem jI.iw(h:jI m w)(cs:Array Ñ)(t:ċ)(c:0<cs.size)(b:t≠304/\t≠305)(d:∀v∈cs.toList,nz m w.heap.size v):jI m (w.alloc<|ä cs t):=by
 intro i o f a;have k:(w.alloc<|ä cs t).heap.size=w.heap.size+1:=fp
 by_cases e:i<w.heap.size
 .rw[ő _ _ _ e]at a;exact(h i o f a).ff Z
 .by_cases g:i=w.heap.size
  .subst g;rw[Ţ]at a;cases a;exact⟨cs,t,(0,0),U,Ø _,c,b.1,b.2,λv j=>(d v j).ff Z⟩
  .grind
def jI.r(h:jI m w)(p:ù)(l:nz m w.heap.size v):jI m (w.setCell p v):=by
 intro i o f a;have n:(w.setCell p v).heap.size=w.heap.size:=fp
 rw[n];by_cases e:i=p.block
 .subst e;unfold Ū at a;simp only[Į,if_true]at a;cases d:w.heap[p.block]? with
  |none=>rw[d]at a;cases a
  |some x=>
   rw[d]at a;obtain⟨c,e,r,rfl,g,j,s,t,k⟩:=h _ _ f d;simp only[ø,Ó]at a;subst a;refine⟨_,e,r,U,?_,?_,s,t,λu b=> ?_⟩
   .split
    .exact g
    .rwa[ġ]
   .split
    .exact j
    .rwa[ġ]
   .split at b
    .exact k u b
    .rw[Array.toList_setIfInBounds]at b;rcases ğ b with q|q
     .exact k u q
     .rwa[q]
 .rw[ę _ _ _ _ (by simpa using e)]at a;exact h i o f a
theorem ao4{ty:ċ}{bytes base:Nat}(y:P.underlying t=Â (.slice e))(B:P.info? e=Â zJ)(G:zJ.zero=Â (Ã Á)) (s:zJ.size=1) (H:zJ.bytes=bytes) (f:w.ownsRow base e 1 v n l) (a:ù) (c:Nat) (C:∀j M,[z][j]?=Â M->w.cell? (a.add j)=Â M) (N:z.oneCell'=Í) (O:n+1<=Ĳ) (I:(n+1)*bytes<=140737488355328) (W:base<=w.heap.size) (X:lz e=É) (hm:m<=base) (D:jI m w) (hg:nz m w.heap.size z) (Y:e≠304/\e≠305): ∃h w',(Builtin.append_ #[t,t] ty #[v,Ç (Â a) 1 c]).run P w=.ok h w'/\nW w base e 1 v n l 1 [z] h w'/\jI m w'/\nz m w'.heap.size h:=by
 obtain⟨h,w',J,E⟩:=Ts y B G s H U f a c [z] Z U C (λx b=>by simp at b;subst b;exact N) O I W<|Æ X;have hgv:nz m w'.heap.size h:=by
  obtain⟨p,o,rfl⟩:=jv E.fg;cases p with
  |none=>trivial
  |some p=>
   have k:=E.fg.lt p.block (by rcases E.fg.2 with⟨q,_⟩|⟨g,r,d,q,_⟩<;>(cases q;try rfl));exact⟨Z,k.2⟩
 refine⟨h,w',J,E,?_,hgv⟩;have q:[z].length=1*zJ.size:=by rw[s];rfl
 have M7:l.length=n*zJ.size:=by rw[s];exact f.1
 have alQ:n+1<=9223372036854775807:=by simp only[Ĳ]at O;omega
 have EG:∀x∈l,nz m w.heap.size x:=λx b=>by
  rcases f.2 with⟨_,rfl⟩|⟨g,r,d,rfl,hbg,p,hnc,hcm,Q,htake⟩
  .grind
  .let⟨c2,e2,XL,S,_,_,_,_,q6⟩:=D g _ Z p;grind
 have gr:∀T,jI m (w.drew.alloc<|ä (l.toArray++[z].toArray++Builtin.zeroCells (İ<|Ã Á) (grownCap w (n+1) T e-(n+1))) e):=λT=>by
  refine jI.iw D _ _ (by simp;omega) Y λx b=> ?_;simp only[Array.toList_append,æ]at b;rcases b with(b|b)|b
  .exact EG x b
  .grind
  .have:=Tr b;simp[İ]at this;subst this;trivial
 rcases f.2 with⟨rfl,rfl⟩|⟨g,r,d,rfl,hbg,p,hnc,hcm,Q,htake⟩
 .have b:=ã (by simpa using f.1);subst b;have K:=run_append_nil w t ty e zJ (Ã Á) y B G a 1 c [z] q C Z Z (by rw[H];have k:=I;simp only[Ņ]at k;omega);grind
 .by_cases ao5:n+1<=r
  .have Tt:n*zJ.size+[z].length<=d.size:=by rw[q,Q,s];omega
   have K:=run_append_room w t ty e zJ y B g n r d p a 1 c [z] q C (λx b=>by simp at b;subst b;exact N) ao5 Tt;rw[K]at J;cases J;have ao6:=setRow_heap w g d (d.toList.take (n*zJ.size)++[z]++d.toList.drop (n*zJ.size+[z].length)).toArray e _ p;have ao7:=λk (L:k≠g)=>setRow_other w g k (d.toList.take (n*zJ.size)++[z]++d.toList.drop (n*zJ.size+[z].length)).toArray L;let⟨c2,e2,XL,S,q2,q3,q4,q5,q6⟩:=D g _ Z p;cases S;intro k o L F;have iO:(w.setRow g (d.toList.take (n*zJ.size)++[z]++d.toList.drop (n*zJ.size+[z].length)).toArray).heap.size=w.heap.size:=fp
   rw[iO];by_cases V:k=g
   .subst V;rw[ao6]at F;cases F;refine⟨_,_,_,U,fp,(by simp;omega),q4,q5,λx b=> ?_⟩;grind
   .rw[ao7 k V]at F;exact D k o L F
  .have k:w.ownsRow base e zJ.size (Ç (Â ⟨g,0,Á⟩) n r) n l:=by rwa[s]
   have K:=run_append_grow w t ty e zJ (Ã Á) y B G ⟨g,0,Á⟩ n r l M7 (k.cells U) a 1 c [z] q C Z Z (by rw[H];exact growslice_fits Z I);grind
def abe{f:Array Ĝ}{E:Prop}{base:Nat} (k:o.guard=Á) (s x:Operand) (t:ċ) (p:o.op=Op.call {callee:=Callee.builtin Builtin.append,args:=#[s,x],argTypes:=#[t,t]}) {bytes:Nat} (q:P.underlying t=Â (.slice e)) (r:P.info? e=Â zJ) (B:zJ.zero=Â (Ã Á)) (C:zJ.size=1) (D:zJ.bytes=bytes) (F:y.eval s=v) (G:w.ownsRow base e 1 v n l) (ad:ù) (H:y.eval x=Ç (Â ad) 1 b) (I:∀j g,[z][j]?=Â g->w.cell? (ad.add j)=Â g) (J:z.oneCell'=Í) (L:n+1<=Ĳ) (M:(n+1)*bytes<=140737488355328) (N:base<=w.heap.size) (O:lz e=É) (S:m<=base) (T:jI m w) (V:nz m w.heap.size z) (W:e≠304/\e≠305) (h:∀d w',nW w base e 1 v n l 1 [z] d w'->jI m w'->nz m w'.heap.size d->K (y.put o.dst d) w'): if Č o (ų f y.tmps)=Í then Oper.wp P o y w K vJ else E:=by
 have X:Č o (ų f y.tmps)=Í:=by simp[Č,k]
 rw[if_pos X];let⟨d,w',Y,h2,h3,h4⟩:=ao4 (ty:=o.type) q r B C D G ad b I J L M N O S T V W;unfold Oper.wp;simp[Ŵ,p,resolve,invoke,builtin,F,H,Y,Result.andThen];exact h d w' h2 h3 h4
end
def n9(l:List Nat):List Ñ:=l.map λa=>Ã<|Â ⟨a,0,Á⟩
def pe(l:List Int):List Ñ:=l.map λz=>Å È z
def FG(p:PT):List Ñ:=pe p.c++[Ä p.p]
def Dr(c:List Int)(a:Ñ):List Ñ:=pe c++[a]
structure pM(lo hi:Nat)(tb:List Nat)(l:List PT)(w:Ë):Prop where
 r:tb.length=l.length
 I:∀(j a:Nat) (p:PT),tb[j]?=Â a->l[j]?=Â p->lo<=a/\a<hi/\p.c.length=5/\fq a (FG p) 200 w
structure xA(B q:Nat)(r:PR)(w:Ë):Prop where
 M:q<B
 C:r.c.length=8
 I:∃vb tb,fq q (Dr r.c vb) 161 w/\w.ownsRow 0 149 1 vb tb.length (n9 tb)/\(∀j,vb.ownBlock=Â j->j<B)/\pM 0 B tb r.r w
structure qt(B:Nat)(qs:List Nat)(rs:List PR)(w:Ë):Prop where
 I:qs.length=rs.length
 M:∀(j q:Nat) (r:PR),qs[j]?=Â q->rs[j]?=Â r->xA B q r w
section
variable{w':Ë}{lo hi B q:Nat}{tb qs:List Nat}{l:List PT}{r:PR}{rs:List PR}
def pM.C(h:pM lo hi tb l w)(k:fc X w w')(f:∀a c g,lo<=a->a<hi->w.heap[a]?=Â (ä c 200 g)->¬X a):pM lo hi tb l w':= ⟨h.r,λj a p i m=>by let⟨b,d,n,e⟩:=h.I j a p i m;exact⟨b,d,n,e.C k<|f a _ _ b d e⟩⟩
def pM.ff(h:pM lo hi tb l w)(f:i<=lo)(g:hi<=n):pM i n tb l w:= ⟨h.r,λj a p b c=>by let⟨k,m,d,e⟩:=h.I j a p b c;exact⟨Z,Z,d,e⟩⟩
theorem pM.M(lo hi:Nat)(w:Ë):pM lo hi [] [] w:=⟨U,λj a p h=>by cases h⟩
theorem FH{α:Type}{l:List α}{a x:α}(h:(l++[a])[j]?=Â x):l[j]?=Â x\/j=l.length/\x=a:=by grind
theorem pM.Uk{p:PT}(h:pM lo hi tb l w)(g:lo<=i)(k:i<hi)(m:p.c.length=5)(n:fq i (FG p) 200 w):pM lo hi (tb++[i]) (l++[p]) w:=by
 refine⟨by simp[h.r],λj x y d b=> ?_⟩;rcases FH d with e|⟨e,rfl⟩
 .rcases FH b with f|⟨f,rfl⟩
  .exact h.I j x y e f
  .have:=(Ô.1 e).1;have:=h.r;omega
 .rcases FH b with f|⟨f,rfl⟩
  .have:=(Ô.1 f).1;have:=h.r;omega
  .grind
def Ul(B:Nat)(w:Ë)(i:Nat):Prop:=B<=i\/∃c T a,w.heap[i]?=Â (ä c T a)/\(T=153\/T=148)
theorem Um(a:Ul B w i)(hi:i<B)(h:w.heap[i]?=Â (ä d T xJ))(b:T≠153/\T≠148):False:=by rcases a with q|⟨e,f,g,j,k⟩;all_goals grind
theorem xA.wM(h:xA B q r w)(k:fc X w w')(d:∀i,i<w.heap.size->X i->Ul B w i):xA B q r w':=by let⟨f,tb,b,g,l,m⟩:=h.I;refine⟨h.M,h.C,f,tb,b.C k λx=>Um (d q b.M x) h.M b A,im g k λj o x=> ?_,l,m.C k λa c p _ n e x=>Um (d a (Þ.1 e).1 x) n e A⟩;grind [nV,Um]
def xA.ff(h:xA B q r w)(a:B<=i):xA i q r w:=by let⟨b,tb,c,d,e,f⟩:=h.I;exact⟨by have:=h.M;omega,h.C,b,tb,c,d,λj g=>by have:=e j g;omega,f.ff (Ü _) a⟩
def qt.C(h:qt B qs rs w)(k:fc X w w')(a:∀i,i<w.heap.size->X i->Ul B w i):qt B qs rs w':= ⟨h.I,λj q r b c=>(h.M j q r b c).wM k a⟩
def qt.Uk(h:qt B qs rs w)(b:B<=i)(c:xA i q r w):qt i (qs++[q]) (rs++[r]) w:=by
 refine⟨by simp[h.I],λj x y d a=> ?_⟩;rcases FH d with e|⟨e,rfl⟩
 .rcases FH a with f|⟨f,rfl⟩
  .exact(h.M j x y e f).ff b
  .have:=(Ô.1 e).1;have:=h.I;omega
 .rcases FH a with f|⟨f,rfl⟩
  .have:=(Ô.1 f).1;have:=h.I;omega
  .exact c
theorem qt.N(B:Nat)(w:Ë):qt B [] [] w:=⟨U,λj q r h=>by cases h⟩
end
structure Gh where
 a:List Nat
 q:Nat
 t:Nat
 B:Nat
 tb:List Nat
 N:Ñ
 r:Ñ
 b:Option ù
namespace Gh
def C(g:Gh)(d:PD):List Nat:=if d.r then g.a++[g.q]else g.a
def I(g:Gh)(d:PD):List Nat:=if d.C then g.tb++[g.t]else g.tb
def S(g:Gh)(d:PD):Option ù:=if d.r then Â ⟨g.q,0,Á⟩else Á
def Y(g:Gh)(d:PD):Option ù:=if d.C then Â ⟨g.t,0,Á⟩else g.b
def M(g:Gh)(d:PD):Nat:=if d.C then g.t else g.q
def G(g:Gh)(d:PD):Option ù:=if d.r then Â ⟨g.M d,0,Á⟩else Á
def Ds(g:Gh)(d:PD)(a:Int):ù:=if a=86 then⟨g.q,5,Á⟩else if a=87 then⟨g.q,6,Á⟩else if a=110 then⟨g.M d,2,Á⟩else⟨g.M d,3,Á⟩
end Gh
structure xB(m:Nat)(g:Gh)(d:PD)(w:Ë):Prop where
 S:m<=g.B
 N:g.B<=g.q
 M:d.M.c.length=8
 r:fq g.q (Dr d.M.c g.r) 161 w
 I:w.ownsRow g.B 149 1 g.r (g.I d).length (n9<|g.I d)
 Y:pM g.B g.t g.tb d.M.r w
 C:d.C=Í->g.B<=g.t/\d.N.c.length=5/\fq g.t (FG d.N) 200 w
 a:d.C=É->g.tb=[]/\d.M.r=[]
structure ll(m:Nat)(g:Gh)(d:PD)(w:Ë):Prop where
 C:w.ownsRow m 148 1 g.N (g.C d).length (n9<|g.C d)
 I:qt g.B g.a d.S w
 r:d.r=Í->xB m g d w
 N:d.r=É->d.C=É
def Un(s:ByteArray)(g:Gh)(d:PD)(a:Option ù)(lC b:Int):List Ñ:=
 [Ä s,g.N,Ã<|g.S d,Ã<|g.Y d,Ã<|g.G d,Ã a,Å È lC,Å È b]
structure gS(m b:Nat)(g:Gh)(c:Option ù)(s:ByteArray)(st:PS)(w:Ë):Prop where
 S:m<=b
 a:jI m w
 r:fq b (Un s g st.d c st.r st.I) 153 w
 M:s.size<=10
 I:gN s=st.C
 C:ll m g st.d w
 c:0<st.r->st.d.r=Í/\c=Â (g.Ds st.d st.M)
 N:st.d.r=Í\/st.C=[82]
def tf(m b:Nat)(st:PS)(w a:Ë):Prop:=fc (λi=>m<=i) w a/\∃g i s,gS m b g i s st a
section
variable{w':Ë}{g:Gh}{d:PD}{s:ByteArray}{st:PS}
theorem xB.wM(h:xB m g d w)(k:fc X w w')(p:∀i c T b,w.heap[i]?=Â (ä c T b)->X i->T=153\/T=148):xB m g d w':=by
 have l:∀{i:Nat} {c:Array Ñ} {T:ċ} {b:Nat×Nat},w.heap[i]?=Â (ä c T b)->(T≠153/\T≠148)->¬X i:=λ{i c T b} n f x=>(p i c T b n x).elim f.1 f.2;refine⟨h.S,h.N,h.M,h.r.C k<|l h.r A,im h.I k λj r=> ?_,h.Y.C k λa c b _ _ q=>l q A,λe=> ?_,h.a⟩
 .let⟨o,s⟩:=nV h.I r;grind
 .let⟨n,f,o⟩:=h.C e;exact⟨n,f,o.C k<|l o A⟩
theorem ll.rd(h:ll m g d w)(k:fc X w w')(b:∀i c T a,w.heap[i]?=Â (ä c T a)->X i->T=153)(f:∀i,i<w.heap.size->X i->∃c a,w.heap[i]?=Â (ä c 153 a)):ll m g d w':=by
 refine⟨im h.C k λj l x=> ?_,h.I.C k λi n x=> ?_,λe=>(h.r e).wM k λi c T a q x=>Æ<|b i c T a q x,h.N⟩
 .let⟨o,q⟩:=nV h.C l;grind
 .let⟨c,a,q⟩:=f i n x;exact Î ⟨c,_,a,q,Æ U⟩
def ll.M(h:ll m g d w)(a:fq b l 153 w)(k:fc (λi=>i=b) w w'):ll m g d w':= h.rd k (λi c T e q x=>by subst x;unfold fq at a;rw[a]at q;cases q;rfl) λi _ x=>⟨l.toArray,(0,0),by rwa[x]⟩
def qu{i:Nat}{v:Value}{j:Nat}{vs:List Value}{T:TypeId}(h:fq j vs T w)(hT:lz T=false:=by decide):fc (λk=>k=j) w (w.setCell ⟨j,i,none⟩ v):=fc.I (X:=λk=>k=j) U v<|Î<|h.S hT
def ll.G(h:ll m g d w):(g.C d).length=d.I.length:=by unfold Gh.C PD.I;split<;>simp[h.I.I]
def xB.G(h:xB m g d w):(g.I d).length=d.Y.length:=by unfold Gh.I PD.Y;split<;>simp[h.Y.r]
def Uo(h:i<zQ.length)(v:Ñ):(pe zQ++[v])[i]?=Â (Å È<|zQ.getD i 0):=by rw[ĝ (by simpa[pe]using h)];simp[pe,Ĕ,h]
def abf(l:List Int)(i:Nat)(z:Int)(v:Ñ)(h:i<l.length):(pe l++[v]).set i (Å È z)=pe (l.set i z)++[v]:=by rw[List.set_append_left _ _ (by simpa[pe]using h)];simp[pe,List.map_set]
def abg(l:List Int)(v u:Ñ):(pe l++[v]).set l.length u=pe l++[u]:=by rw[Ĭ _ _ (by simp[pe])];simp[pe]
def Dt(l:List Int)(v:Ñ):(pe l++[v])[l.length]?=Â v:=by rw[ĕ (by simp[pe])];simp[pe]
theorem ll.S(h:ll m g d w)(on:d.r=Í)(n:i<8)(z:Int):ll m g (d.vT i z) (w.setCell ⟨g.q,i,Á⟩<|Å È z):=by
 have l:=h.r on;have k:fc (λk=>k=g.q) w (w.setCell ⟨g.q,i,Á⟩<|Å È z):=qu l.r;have r:=l.N;refine⟨im h.C k λj b x=>iL h.C l.r A (by rw[b,x]),h.I.C k λi _ x=>Æ Z,λ_=>⟨l.S,l.N,by simp[PD.vT,l.M],?_,im l.I k λj b x=>iL l.I l.r A (by rw[b,x]),l.Y.C k λa c s _ _ q x=> ?_,λe=> ?_,l.a⟩,h.N⟩
 .have:=l.r.fO i<|Å È z;unfold Dr at this;rw[abf _ _ _ _ (by rwa[l.M])]at this;exact this
 .have:=l.r;unfold fq at this;grind
 .let⟨o,p,f⟩:=l.C e;exact⟨o,p,f.C k λx=>(fq.G f l.r A) x⟩
theorem ll.kO(h:ll m g d w)(on:d.r=Í)(f:d.C=Í){p:PT}(n:p.c.length=5)(r:(FG d.N).set i v=FG p):ll m g {d with N:=p} (w.setCell ⟨g.t,i,Á⟩ v):=by have l:=h.r on;let⟨o,s,b⟩:=l.C f;have k:fc (λk=>k=g.t) w (w.setCell ⟨g.t,i,Á⟩ v):=qu b;refine⟨im h.C k λj e x=>iL h.C b A (by rw[e,x]),h.I.C k λi _ x=>Æ Z,λ_=>⟨l.S,l.N,l.M,l.r.C k λx=>(fq.G l.r b A) x,im l.I k λj e x=>iL l.I b A (by rw[e,x]),l.Y.C k λa c u _ q _ x=>by omega,λ_=>⟨o,n,?_⟩,l.a⟩,h.N⟩;have:=b.fO i v;grind
def ll.Y(h:ll m g d w)(on:d.r=Í)(a:d.C=Í)(c:i<5)(z:Int):ll m g (d.uD i z) (w.setCell ⟨g.t,i,Á⟩<|Å È z):=by let⟨e,b,f⟩:=(h.r on).C a;exact h.kO on a (by simp[b])<|abf _ _ _ _<|by rwa[b]
def ll.rY(h:ll m g d w)(on:d.r=Í)(a:d.C=Í)(p:ByteArray):ll m g (d.rY p) (w.setCell ⟨g.t,5,Á⟩<|Ä p):=by let⟨e,b,f⟩:=(h.r on).C a;refine h.kO on a b ?_;have:=abg d.N.c (Ä d.N.p)<|Ä p;rwa[b]at this
structure qY(m b:Nat)(g:Gh)(d:PD)(ab ao:Nat)(f:Int->PD)(x:Int)(w:Ë):Prop where
 r:ab≠b
 N:m<=ab
 Y:ab<w.heap.size
 C:w.cell? ⟨ab,ao,Á⟩=Â (Å È x)
 I:w.frozen? ⟨ab,ao,Á⟩=É
 nf:NF ab w
 S:∀W,ll m g d W->∀z,ll m g (f z)<|W.setCell ⟨ab,ao,Á⟩<|Å È z
 M:∀z,g.S (f z)=g.S d/\g.Y (f z)=g.Y d/\g.G (f z)=g.G d/\(f z).r=d.r/\∀n,g.Ds (f z) n=g.Ds d n
theorem FI(h:ll m g d w)(f:fq b l 153 w)(on:d.r=Í)(e:i<8):qY m b g d g.q i (λz=>d.vT i z) (d.M.c.getD i 0) w:=by have a:=h.r on;exact⟨fq.G a.r f A,Ï a.S a.N,a.r.M,a.r.r i _ (Uo (by rwa[a.M]) _),a.r.I i,a.r.S,λW j z=>j.S on e z,λz=>⟨U,U,U,U,λn=>rfl⟩⟩
theorem abh(h:ll m g d w)(k:fq b l 153 w)(on:d.r=Í)(f:d.C=Í)(j:i<5):qY m b g d g.t i (λz=>d.uD i z) (d.N.c.getD i 0) w:=by have a:=h.r on;let⟨o,p,e⟩:=a.C f;exact⟨fq.G e k A,Ï a.S o,e.M,e.r i _ (Uo (by rwa[p]) _),e.I i,e.S,λW q z=>q.Y on f j z,λz=>⟨U,U,U,U,λn=>rfl⟩⟩
theorem FJ(h:ll m g d w)(a:fq b l 153 w)(on:d.r=Í)(c:i<4):qY m b g d (g.M d) i (λz=>d.kO i z) (d.zk i) w:=by unfold PD.kO PD.zk Gh.M;split;all_goals grind [abh,FI]
theorem gS.G{f:Int->PD}(h:gS m b g O s st w)(n:qY m b g st.d i j f c w)(z:Int):gS m b g O s {st with d:=f z} (w.setCell ⟨i,j,Á⟩<|Å È z):=by
 let⟨e,l,o,a,p⟩:=n.M z;have k:fc (λk=>k=i) w (w.setCell ⟨i,j,Á⟩<|Å È z):=fc.I (X:=λk=>k=i) U _<|Æ U;refine⟨h.S,h.a.r _ trivial,?_,h.M,h.I,n.S w h.C z,λq=> ?_,?_⟩
 .have:=h.r.C k λc=>n.r c.symm;unfold Un at this|-;grind
 .let⟨r,t⟩:=h.c q;grind
 .simp only[a];exact h.N
def gS.Nq(h:gS m b g O s st w)(a:ByteArray)(r:List Int)(c:a.size<=10)(e:gN a=r)(f:st.d.r=Í\/r=[82]):gS m b g O a {st with C:=r} (w.setCell ⟨b,0,Á⟩<|Ä a):= ⟨h.S,h.a.r _ trivial,h.r.fO 0 _,c,e,h.C.M h.r<|qu h.r,h.c,f⟩
def gS.Y(h:gS m b g O s st w)(z:Int)(a:0<z->st.d.r=Í/\O=Â (g.Ds st.d st.M)):gS m b g O s {st with r:=z} (w.setCell ⟨b,6,Á⟩<|Å È z):= ⟨h.S,h.a.r _ trivial,h.r.fO 6 _,h.M,h.I,h.C.M h.r<|qu h.r,a,h.N⟩
def gS.abj(h:gS m b g O s st w)(z:Int):gS m b g O s {st with I:=z} (w.setCell ⟨b,7,Á⟩<|Å È z):= ⟨h.S,h.a.r _ trivial,h.r.fO 7 _,h.M,h.I,h.C.M h.r<|qu h.r,h.c,h.N⟩
def gS.abk(h:gS m b g O s st w)(a:ù)(n:Int)(d:st.r=0)(c:m<=a.block/\a.block<w.heap.size):gS m b g (Â a) s {st with M:=n} (w.setCell ⟨b,5,Á⟩<|Ã<|Â a):= ⟨h.S,h.a.r _ c,h.r.fO 5 _,h.M,h.I,h.C.M h.r<|qu h.r,λq=>by have:0<st.r:=q;omega,h.N⟩
def gS.gG(h:gS m b g O s st w):gS m b g O s st w.drew:=by have k:=fc.gG fh w;exact⟨h.S,h.a,h.r.C k id,h.M,h.I,h.C.rd k (λ_ _ _ _ _ x=>x.elim) λ_ _ x=>x.elim,h.c,h.N⟩
end
section
variable{w':Ë}{g:Gh}{s:ByteArray}{st:PS}{f:Int->PD}{x:Int}
def qY.rd{d:PD}(h:qY m b g d n j f x w)(i:Nat)(v:Ñ):qY m b g d n j f x (w.setCell ⟨b,i,Á⟩ v):= ⟨h.r,h.N,by simpa using h.Y,by rw[alN<|Ne.symm h.r];exact h.C,by rw[World.frozen?_setCell];exact h.I,λc T a q=>h.nf c T a (by rwa[ę _ _ _ _ (by simpa using h.r)]at q),h.S,h.M⟩
def gS.Up(h:gS m b g O s st w)(n:Int)(a:st.r=0):gS m b g O s {st with M:=n} w:= ⟨h.S,h.a,h.r,h.M,h.I,h.C,λq=>by have:0<st.r:=q;omega,h.N⟩
def mT(h:gS m b g O s st w)(i:Nat)(v:Ñ):fc (λi=>m<=i) w (w.setCell ⟨b,i,Á⟩ v):=fc.I (X:=λi=>m<=i) (p:=⟨b,i,Á⟩) h.S v<|Î h.r.S
def FK(h:qY m b g st.d n j f x w)(z:Int):fc (λi=>m<=i) w (w.setCell ⟨n,j,Á⟩<|Å È z):=fc.I (X:=λi=>m<=i) (p:=⟨n,j,Á⟩) h.N _<|Æ U
def xC(c a:Int):Int:=if c=104\/c=48 then 0 else a-1
def iR(c:Int):Int:=if c=104 then-1 else(c-48)%256
def Uq{st:PS}(h:st.r=0)(n:Int)(d:PD):({st with r:=0,M:=n,d:=d}:PS)={st with M:=n,d:=d}:=by rw[<-h]
def Nr(h:gS m b g O s st w)(i:qY m b g st.d n j f x w)(k:st.r=0)(o:st.d.r=Í)(c l a:Int)(B:0<=l)(C:l<=6)(p:∀z,g.Ds (f z) a=⟨n,j,Á⟩): Ö À 147 #[Ã<|Â ⟨b,0,Á⟩,Ã<|Â ⟨n,j,Á⟩,Å ŧ c,Å È l] w λe w'=>
  e=Ê (è #[])/\tf m b {st with r:=xC c l,M:=a,d:=f (iR c)} w w':=by
 have D:=h.r.r 5 _ U;have E:=h.r.r 6 _ U;have F:=h.r.I 5;have G:=h.r.I 6;have I:=i.C;have J:=i.I;have K:=i.r;have L:¬b=n:=λe=>i.r e.symm;have t:m<=n/\n<w.heap.size:=⟨i.N,i.Y⟩;have H:=eZ<|Ì h<|Ì i<|Ì p<|Ì k o;by_cases r:c=104
 .subst r;go_enter ň,ľ;go_wp2;first|go_end0|refine ó (results_none U _ _ _) U ?_
  let⟨h,i,p,k,o⟩:=H.out;refine⟨U,FK i _,g,O,s,?_⟩;have:=(h.G i<|-1).Up a k;rw[show xC 104 l=0 from if_pos<|Æ U,Uq k];exact this
 .have M:(c==104)=É:=by rwa[beq_eq_false_iff_ne]
  have u:iR c=(c-48)%256:=if_neg r;by_cases y:c=48
  .subst y;go_enter ň,ľ;go_wp2;go_end0;let⟨h,i,p,k,o⟩:=H.out;have v:=h.abk ⟨n,j,Á⟩ a k t;have q:=i.rd 5<|Ã<|Â ⟨n,j,Á⟩;refine⟨U,(mT h 5 _).fj<|FK q _,g,Â ⟨n,j,Á⟩,s,?_⟩;have:=v.G q 0;rw[show xC 48 l=0 from if_pos<|Î U,Uq k,u];exact this
  .go_enter ň,ľ;go_wp2;go_end0;let⟨h,i,p,k,o⟩:=H.out;have q:=i.rd 5<|Ã<|Â ⟨n,j,Á⟩;have v:=(h.abk ⟨n,j,Á⟩ a k t).G q<|(c-48)%256;refine⟨U,((mT h 5 _).fj<|FK q _).fj<|mT v 6 _,g,Â ⟨n,j,Á⟩,s,?_⟩;rw[show xC c l=l-1 from if_neg Z,u];exact(v.Y (l-1) λ_=>⟨by simp only;rwa[(i.M _).2.2.2.1],by simp only;rw[p]⟩)
theorem Ns{b a:Int}(h:mF a c=Í)(d:(a=86\/a=87)/\b=2\/(a=110\/a=107)/\b=6):xC c b=lJ a c:=by unfold xC lJ;unfold mF at h;grind [Ba]
theorem Nt{a:Int}(h:¬(a=86\/a=87)/\¬(a=110\/a=107)):lJ a c=0:=by unfold lJ;grind
theorem Nu{a:Int}(h:a=86\/a=87\/a=110\/a=107):lk a c=iR c:=by unfold lk iR;grind
def Ur(h:gS m b g O s st w)(i:qY m b g st.d n j f x w)(k:st.r=0){a z:Int}(e:c=0)(l:w'=(w.setCell ⟨n,j,Á⟩<|Å È z).drew):tf m b {st with r:=c,M:=a,d:=f z} w w':=by subst l;subst e;rw[Uq k];exact⟨(FK i z).fj<|fc.gG _ _,g,O,s,((h.G i z).Up a k).gG⟩
end
section
variable{g:Gh}{st:PS}
def Jr{d:PD}(a:d.C=Í):g.Y d=Â ⟨g.t,0,Á⟩:=if_pos a
def ao8:zm st 0=Á:=rfl
def ao9(h:gS m b g O B st w)(r:st.r=0)(on:st.d.r=Í)(f:st.d.C=Í)(k:Int): Ö À 101 #[Ã<|Â ⟨b,0,Á⟩,Å È k] w λe u=>match zm st k with
  |none=>e=Ê (þ É)/\u=w
  |some a=>e=Ê (þ Í)/\tf m b a w u:=by
 have s:=h.r.r 0 _ U;have o:=h.r.r 3 _ U;have v:=h.r.r 7 _ U;rw[Jr f]at o;have x:=h.r.I 0;have y:=h.r.I 7;have a:=abh h.C h.r on f (i:=4) A;have z:=a.C;have C:=a.I;have D:=a.r;have E:¬b=g.t:=λe=>a.r e.symm;have H:=eZ<|Ì h a;by_cases c:k=0
 .subst c;rw[ao8];go_enter ŵ,ū;go_wp2;go_ret;exact⟨U,U⟩
 .have F:(k==0)=É:=by rwa[beq_eq_false_iff_ne]
  have e:zm st k=Â {st with C:=pL k,I:=0,d:=st.d.uD 4 k}:=if_neg c;rw[e];go_enter ŵ,ū;go_wp2_with (go_at_call 148;refine(ao3 _ _).mono ?_;rintro e u ⟨⟨j,rfl,p,q⟩,l⟩;subst u);go_ret;let⟨h,a⟩:=H.out;have l:=h.G a k;have n:=l.abj 0;exact⟨U,((FK a k).fj<|mT l 7 _).fj<|mT n 0 _,g,O,j,n.Nq j _ p q<|Æ on⟩
end
def apa:(À.info? 149).map (λi=>(i.zero,i.size,i.bytes))=Â (Â<|Ã Á,1,8):=fx
def apb:(À.info? 148).map (λi=>(i.zero,i.size,i.bytes))=Â (Â<|Ã Á,1,8):=fx
section
variable{w':Ë}{g:Gh}{nm:Option ù}{s:ByteArray}{st:PS}{d:PD}{T:Nat}
structure vV(m:Nat)(g:Gh)(d:PD)(T:Nat)(w:Ë):Prop where
 C:w.ownsRow m 148 1 g.N (g.C d).length (n9<|g.C d)
 I:qt g.B g.a d.S w
 N:pM g.B T (g.I d) d.Y w
 tb:fq T (FG PD.zh) 200 w
def Js(x:i=j)(h:fq j l t w):w.heap[i]?=Â (ä l.toArray t (0,0)):=by rwa[x]
theorem vV.r(h:vV m g d T w)(k:fc X w w')(f:∀i,i<w.heap.size->X i->∃c t b,w.heap[i]?=Â (ä c t b)/\(t=153\/(t=161\/t=149)/\g.B<=i)):vV m g d T w':=by
 have e:∀{i:Nat} {c:Array Ñ} {t:ċ} {b:Nat×Nat},w.heap[i]?=Â (ä c t b)->(t≠153/\t≠161/\t≠149)->¬X i:=λ{i c t b} q1 q2 x=>by grind
 refine⟨im h.C k λj l=> ?_,h.I.C k λi n x=> ?_,h.N.C k λa c b _ _ q=>e q A,h.tb.C k<|e h.tb A⟩
 .let⟨o,p⟩:=nV h.C l;grind
 .let⟨r,s,u,o,p⟩:=f i n x;rcases p with rfl|⟨_,z⟩
  .exact Î ⟨_,_,_,o,Æ U⟩
  .exact Æ z
def vV.fE(h:vV m g d T w)(k:fc fh w w'):vV m g d T w':=h.r k λ_ _ x=>x.elim
def vV.M(h:vV m g d T w)(a:fq b l 153 w):vV m g d T (w.setCell ⟨b,i,Á⟩ v):= h.r (qu a) λi _ x=>⟨_,_,_,Js x a,Æ U⟩
theorem xB.abl(l:xB m g d w):pM g.B w.heap.size (g.I d) d.Y w:=by
 unfold Gh.I PD.Y;split
 .rename_i e;let⟨b,c,a⟩:=l.C e;have:=a.M;exact(l.Y.ff (Ü _) Z).Uk b a.M c a
 .rename_i e;let⟨b,c⟩:=l.a (by simpa using e);grind [pM.M]
theorem jI.C(n:jI m w)(g:fq b l e w)(C:m<=b)(p:e≠304/\e≠305)(d:Array Ñ)(t:ċ)(u:0<d.size)(r:t≠304/\t≠305)(h:∀v∈d.toList,nz m (w.heap.size+1) v):jI m ((w.setCell ⟨b,i,Á⟩<|Ã<|Â ⟨w.heap.size,0,Á⟩).alloc<|ä d t):=by
 have s:(w.setCell ⟨b,i,Á⟩<|Ã<|Â ⟨w.heap.size,0,Á⟩).heap.size=w.heap.size:=fp
 have D:=g.M;intro j o k c;have x:((w.setCell ⟨b,i,Á⟩<|Ã<|Â ⟨w.heap.size,0,Á⟩).alloc<|ä d t).heap.size=w.heap.size+1:=fp
 rw[x];by_cases a:j<w.heap.size
 .rw[ő _ _ _ (by rwa[s])]at c;by_cases f:j=b
  .subst f;have:=g.fO i<|Ã<|Â ⟨w.heap.size,0,Á⟩;unfold fq at this;rw[this]at c;cases c;let⟨E,F,G,y,H,z,I,J,B⟩:=n j _ k g;cases y;refine⟨_,_,_,U,fp,by simpa using z,p.1,p.2,λv h=> ?_⟩;rcases ğ (by simpa using h)with q|q
   .exact(B v<|by simpa using q).ff Z
   .rw[q];exact⟨Ï k<|Nat.le_of_lt a,Nat.lt_succ_self _⟩
  .rw[ę _ _ _ _ (by simpa using f)]at c;exact(n j o k c).ff Z
 .by_cases f:j=w.heap.size
  .have:=Ţ (w.setCell ⟨b,i,Á⟩<|Ã<|Â ⟨w.heap.size,0,Á⟩)<|ä d t;rw[s]at this;rw[f,this]at c;cases c;exact⟨_,_,_,U,Ø _,u,r.1,r.2,h⟩
  .grind
def Nv(b:Nat)(w:Ë):Ë:=(w.setCell ⟨b,3,Á⟩<|Ã<|Â ⟨w.heap.size,0,Á⟩).alloc<|ä #[Å È 0,Å È 0,Å È 0,Å È 0,Å È 0,Ä ⟨#[]⟩] 200
def rdM(s:ByteArray)(g:Gh)(d:PD)(a b nm:Option ù)(lC c:Int):List Ñ:=
 [Ä s,g.N,Ã<|g.S d,Ã a,Ã b,Ã nm,Å È lC,Å È c]
structure FL(m b:Nat)(g:Gh)(d:PD)(T:Nat)(s:ByteArray)(tm nm:Option ù)(lC Us:Int)(w0 w:Ë):Prop where
 S:fc (λi=>m<=i) w0 w
 N:jI m w
 r:fq b (rdM s g d (Â ⟨T,0,Á⟩) tm nm lC Us) 153 w
 M:vV m g d T w
 I:fq g.q (Dr d.M.c g.r) 161 w
 C:w.ownsRow g.B 149 1 g.r (g.I d).length (n9<|g.I d)
def FL.fE{lC:Int}(h:FL m b g d T s O nm lC c u w)(k:fc fh w w')(a:jI m w'):FL m b g d T s O nm lC c u w':= ⟨h.S.C k λ_ _ x=>x.elim,a,h.r.C k id,h.M.fE k,h.I.C k id,im h.C k λ_ _=>id⟩
theorem gS.apc(h:gS m b g nm s st w)(on:st.d.r=Í):FL m b g st.d w.heap.size s (g.G st.d) nm st.r st.I w (Nv b w):=by
 have l:=h.C.r on;have p:(w.setCell ⟨b,3,Á⟩<|Ã<|Â ⟨w.heap.size,0,Á⟩).heap.size=w.heap.size:=fp
 have n:fc fh (w.setCell ⟨b,3,Á⟩<|Ã<|Â ⟨w.heap.size,0,Á⟩) (Nv b w):=fc.iw _ _ _ _;have r:fc (λk=>k=b) w (w.setCell ⟨b,3,Á⟩<|Ã<|Â ⟨w.heap.size,0,Á⟩):=qu h.r;have e:=r.C n λ_ _ x=>x.elim;refine⟨e.ff λk _ x=>by rw[x];exact h.S,?_,(h.r.fO 3 _).C n id,⟨im h.C.C e λj f x=>iL h.C.C h.r A (by rw[f,x]),h.C.I.C e λi _ x=>Î ⟨_,_,_,Js x h.r,Æ U⟩,l.abl.C e λa c t _ _ q x=> ?_,?_⟩,l.r.C e λx=>fq.G l.r h.r A x,im l.I e λj f x=>iL l.I h.r A<|by rw[f,x]⟩
 .exact h.a.C h.r h.S A _ _ fp A λv o=>by simp at o;rcases o with rfl|rfl<;>trivial
 .have o:=h.r;unfold fq at o;grind
 .have:=fq.N (w.setCell ⟨b,3,Á⟩<|Ã<|Â ⟨w.heap.size,0,Á⟩) [Å È 0,Å È 0,Å È 0,Å È 0,Å È 0,Ä ⟨#[]⟩] 200;rwa[p]at this
def Ut(g:Gh)(d:PD)(T:Nat)(v:Ñ):Gh:={g with t:=T,tb:=g.I d,r:=v}
theorem FL.jT(h:FL m b g st.d T s O nm st.r st.I w u)(C:m<=b)(on:st.d.r=Í)(a:m<=g.B/\g.B<=g.q/\st.d.M.c.length=8)(D:g.B<=T)(hd:st.r=0) (l:nW u g.B 149 1 g.r (g.I st.d).length (n9<|g.I st.d) 1 [Ã<|Â ⟨T,0,Á⟩] v W) (K:jI m W) (L:nz m W.heap.size v) (n:jX=((W.setCell ⟨g.q,8,Á⟩ v).setCell ⟨b,4,Á⟩<|Ã<|Â ⟨T,0,Á⟩).setCell ⟨b,0,Á⟩ (Ä ⟨#[84]⟩)): fc (λi=>m<=i) w jX/\gS m b (Ut g st.d T v) nm ⟨#[84]⟩ {st with C:=[84],d:=st.d.pb} jX:=by
 have E:∀{j:Nat} {M:List Ñ} {t:ċ},fq j M t u->149≠t->¬g.r.ownBlock=Â j:=λN f=>iL h.C N f;have F:=h.r.C l.r<|E h.r A;have f:=h.I.C l.r<|E h.I A;have P:=h.M.r l.r λi _ x=>by let⟨k,z⟩:=nV h.C x;exact⟨_,_,_,z,Î ⟨Î U,(h.C.lt i x).1⟩⟩
 have o:fc (λk=>k=g.q) W (W.setCell ⟨g.q,8,Á⟩ v):=qu f;have G:fq g.q (Dr st.d.M.c v) 161 (W.setCell ⟨g.q,8,Á⟩ v):=by have:=f.fO 8 v;have e:=abg st.d.M.c g.r v;rw[a.2.2]at e;unfold Dr at this|-;grind
 have z:=F.C o λx=>fq.G F f A x;have H:=P.r o λi _ x=>⟨_,_,_,Js x f,Î ⟨Æ U,by rw[x];exact a.2.1⟩⟩;have I:=im l.fg o λj p x=>iL l.fg f A (by rw[p,x]);have Q:jI m (W.setCell ⟨g.q,8,Á⟩ v):=K.r _ L;have S:fc (λk=>k=b) (W.setCell ⟨g.q,8,Á⟩ v) ((W.setCell ⟨g.q,8,Á⟩ v).setCell ⟨b,4,Á⟩<|Ã<|Â ⟨T,0,Á⟩):=qu z;have r:=z.fO 4<|Ã<|Â ⟨T,0,Á⟩;have V:fc (λk=>k=b) ((W.setCell ⟨g.q,8,Á⟩ v).setCell ⟨b,4,Á⟩<|Ã<|Â ⟨T,0,Á⟩) jX:=by rw[n];exact qu r
 have J:=r.fO 0<|Ä ⟨#[84]⟩;rw[<-n]at J;have k:vV m g st.d T jX:=by rw[n];exact(H.M z).M r
 have y:=S.fj V;have X:=G.C y λx=>fq.G G z A x;have Y:=im I y λj p x=>iL I z A (by rw[p,x]);have hTl:=H.tb.M;have c5:jI m jX:=by rw[n];refine(Q.r _ ?_).r _ trivial;exact⟨Ï a.1 D,hTl⟩
 have e1:(g.I st.d++[T]).length=(g.I st.d).length+1:=fp
 have e2:n9 (g.I st.d++[T])=n9 (g.I st.d)++[Ã<|Â ⟨T,0,Á⟩]:=by simp[n9]
 refine⟨((h.S.C l.r λi _ x=> ?_).C o λi _ x=> ?_).C y λi _ x=> ?_,C,c5,?_,A,U,⟨k.C,k.I,λ_=>⟨a.1,a.2.1,a.2.2,X,?_,k.N,λ_=>⟨D,U,k.tb⟩,λe=>by cases e⟩,λe=> ?_⟩,λe=> ?_,Æ on⟩
 .have:=(h.C.lt i x).1;have:=a.1;omega
 .grind
 .rwa[x]
 .have e:(Ut g st.d T v).S st.d.pb=g.S st.d:=U;unfold Un;rw[e];have e4:(Ut g st.d T v).G st.d.pb=Â ⟨T,0,Á⟩:=if_pos on;rwa[e4]
 .show jX.ownsRow g.B 149 1 v (g.I st.d++[T]).length (n9<|g.I st.d++[T]);rwa[e1,e2]
 .have:st.d.r=É:=e;grind
 .grind
def abm(h:gS m b g nm s st w)(z:st.r=0)(o:st.d.r=Í)(C:st.d.Y.length<=100000): Ö À 99 #[Ã<|Â ⟨b,0,Á⟩] w λe w'=>e=Ê (è #[])/\tf m b {st with C:=[84],d:=st.d.pb} w w':=by
 have X:=h.r.r 3 _ U;have Y:=h.r.I 3;have gE:=h.r.M;have l:=h.C.r o;have x:=h.apc o;have D:=λv=>by have:=Dt st.d.M.c v;rwa[l.M]at this
 have E:m<=g.B/\g.B<=g.q/\st.d.M.c.length=8:=⟨l.S,l.N,l.M⟩;have F:g.B<=w.heap.size:=by have:=l.r.M;have:=l.N;omega
 have G:(g.I st.d).length<=100000:=by rwa[l.G]
 have I:=h.S;have H:=eZ<|Ì E<|Ì F<|Ì G<|Ì I<|Ì z o;have j:=eZ<|D g.r;have u:g.S st.d=Â ⟨g.q,0,Á⟩:=if_pos o;go_enter Tryz.func99,Tryz.ntmps99;go_wp2_with fail;change ð À _ _ _ (Nv b w);have k:=x.fE (fc.gG _ _) x.N.gG;generalize hT:w.heap.size=T at*;generalize J:(Nv b w).drew=w1 at*;let⟨i0,L,M,N,O⟩:=Γ apa;have p:=eZ<|Ì L<|Ì M<|Ì N O;refine oZ (λw'=>w'.cell? ⟨b,2,Á⟩=Â (Ã<|g.S st.d)/\w'.cell? ⟨b,3,Á⟩=Â (Ã<|Â ⟨T,0,Á⟩)/\w'.cell? ⟨g.q,8,Á⟩=Â g.r) [19] fx ?_;rw[J];rw[u];have P:Hid (w1.cell? ⟨b,2,Á⟩=Â (Ã<|Â ⟨g.q,0,Á⟩)/\w1.cell? ⟨b,3,Á⟩=Â (Ã<|Â ⟨T,0,Á⟩)/\w1.cell? ⟨g.q,8,Á⟩=Â g.r):=eZ ⟨by rw[<-u];exact k.r.r 2 _ U,k.r.r 3 _ U,k.I.r 8 _ j.out⟩;have r:=eZ u;iterate 15 apply tk P.out
 have Q:=k.M.tb.M;have a:=k.fE (fc.iw fh w1 #[Ã<|Â ⟨T,0,Á⟩] 149) (k.N.iw _ _ fp A λv f=>by simp at f;subst f;exact⟨Ï H.out.1.1 H.out.2.1,Q⟩);apply ia 15;intro K i;go_simp;refine i.out _ _ (λ_=>⟨by rw[<-r.out];exact a.r.r 2 _ U,a.r.r 3 _ U,a.I.r 8 _ j.out⟩) ?_;apply ia 16;intro K i;refine abe fL _ _ 159 fL Tryz.underlying159 p.out.1 p.out.2.1 p.out.2.2.1 p.out.2.2.2 fL a.C ⟨w1.heap.size,0,Á⟩ fL (Ŷ w1 _ _) U (by have:=H.out.2.2.1;unfold Ĳ;omega) (by have:=H.out.2.2.1;omega) (by have:=H.out.2.1;have:=a.M.tb.M;omega) A H.out.1.1 a.N ⟨Ï H.out.1.1 H.out.2.1,a.M.tb.M⟩ A ?_;intro v9 w9 t S V;obtain⟨a9,n9c,rfl⟩:=jv t.fg;have f:=a.r.C t.r<|iL a.C a.r A;have n:=a.I.C t.r<|iL a.C a.I A;refine i.out _ _ (λ_=>⟨by rw[<-r.out];exact f.r 2 _ U,f.r 3 _ U,n.r 8 _ j.out⟩) ?_;apply ia 17;intro K i;go_simp;refine i.out _ _ (λ_=>⟨by rw[<-r.out];exact f.r 2 _ U,f.r 3 _ U,n.r 8 _ j.out⟩) ?_;apply ia 18;intro K i;go_simp;refine i.out _ _ (λ_=>⟨by rw[<-r.out];exact f.r 2 _ U,f.r 3 _ U,n.r 8 _ j.out⟩) ?_;have cq8:=n.r 8 _ j.out;have fq8:=n.I 8;have cb4:=f.r 4 _ U;have fb4:=f.I 4;have cb0:=f.r 0 _ U;have fb0:=f.I 0;have cb3:=f.r 3 _ U;have W:=fq.G n f A;have hbq:¬b=g.q:=λe=>W e.symm;apply ia 19;intro K i;go_simp;apply i.out _ _ λy=>absurd A y;refine oY fx ?_ _;have y:=eZ<|a.jT H.out.2.2.2.1 o H.out.1 H.out.2.1 H.out.2.2.2.2.1 t S V U;go_wp2_with fail;go_end0;exact⟨U,y.out.1,_,_,_,y.out.2⟩
end
section
variable{w':Ë}{g:Gh}{nm:Option ù}{s:ByteArray}{f:PS}{d:PD}{Q:Nat}{k:Int}
def apd{lo:Nat}(h:w.ownsRow lo e 1 v n l)(c:i<=lo):w.ownsRow i e 1 v n l:= ⟨h.1,h.2.imp id λ⟨g,d,f,a,b,r⟩=>⟨g,d,f,a,Ï c b,r⟩⟩
def xB.fZ(l:xB m g d w):xA w.heap.size g.q ⟨d.M.c,d.Y⟩ w:= ⟨l.r.M,l.M,g.r,g.I d,l.r,apd l.I<|Ø _,λj a=>(l.I.lt j a).2,l.abl.ff (Ø _)<|Ü _⟩
theorem ll.abn(h:ll m g d w)(a:d.r=É->d.S=[]):qt w.heap.size (g.C d) d.I w:=by
 unfold Gh.C PD.I;split
 .rename_i e;have l:=h.r e;have b:=l.r.M;have c:=l.N;exact h.I.Uk Z l.fZ
 .rename_i e;have f:=a (by simpa using e);have:=h.I.I;grind [ã,qt.N]
def Nw(b:Nat)(k:Int)(w:Ë):Ë:=(w.setCell ⟨b,2,Á⟩<|Ã<|Â ⟨w.heap.size,0,Á⟩).alloc<|ä #[Å È 0,Å È 0,Å È 0,Å È 0,Å È k,Å È 0,Å È 0,Å È 0,Ç Á 0 0] 161
def rdQ(s:ByteArray)(g:Gh)(d:PD)(Q:Nat)(nm:Option ù)(lC a:Int):List Ñ:=
 [Ä s,g.N,Ã<|Â ⟨Q,0,Á⟩,Ã<|g.Y d,Ã<|g.G d,Ã nm,Å È lC,Å È a]
structure FM(m b:Nat)(g:Gh)(d:PD)(Q:Nat)(k:Int)(s:ByteArray)(nm:Option ù)(lC Us:Int)(w0 w:Ë):Prop where
 S:fc (λi=>m<=i) w0 w
 M:jI m w
 r:fq b (rdQ s g d Q nm lC Us) 153 w
 I:fq Q (Dr (PD.uE k).c<|Ç Á 0 0) 161 w
 N:qt Q (g.C d) d.I w
 C:w.ownsRow m 148 1 g.N (g.C d).length (n9<|g.C d)
def FM.fE{lC:Int}(h:FM m b g d Q k s nm lC c u w)(a:fc fh w w')(e:jI m w'):FM m b g d Q k s nm lC c u w':= ⟨h.S.C a λ_ _ x=>x.elim,e,h.r.C a id,h.I.C a id,h.N.C a λ_ _ x=>x.elim,im h.C a λ_ _=>id⟩
def gS.ape(h:gS m b g nm s f w)(k:Int)(l:f.d.r=É->f.d.S=[]):FM m b g f.d w.heap.size k s nm f.r f.I w (Nw b k w):=by
 have n:(w.setCell ⟨b,2,Á⟩<|Ã<|Â ⟨w.heap.size,0,Á⟩).heap.size=w.heap.size:=fp
 have c:fc fh (w.setCell ⟨b,2,Á⟩<|Ã<|Â ⟨w.heap.size,0,Á⟩) (Nw b k w):=fc.iw _ _ _ _;have o:fc (λk=>k=b) w (w.setCell ⟨b,2,Á⟩<|Ã<|Â ⟨w.heap.size,0,Á⟩):=qu h.r;have a:=o.C c λ_ _ x=>x.elim;refine⟨a.ff λk _ x=>by rw[x];exact h.S,?_,(h.r.fO 2 _).C c id,?_,(h.C.abn l).C a λi _ x=>Î ⟨_,_,_,Js x h.r,Æ U⟩,im h.C.C a λj p x=>iL h.C.C h.r A<|by rw[p,x]⟩
 .exact h.a.C h.r h.S A _ _ fp A λv e=>by simp at e;rcases e with rfl|rfl|rfl|rfl<;>trivial
 .have:=fq.N (w.setCell ⟨b,2,Á⟩<|Ã<|Â ⟨w.heap.size,0,Á⟩) [Å È 0,Å È 0,Å È 0,Å È 0,Å È k,Å È 0,Å È 0,Å È 0,Ç Á 0 0] 161;rwa[n]at this
def apf(g:Gh)(d:PD)(Q:Nat)(v:Ñ):Gh:={a:=g.C d,q:=Q,t:=Q,B:=Q,tb:=[],N:=v,r:=Ç Á 0 0,b:=g.Y d}
theorem FM.jT{sb:ByteArray}(h:FM m b g f.d Q k s nm f.r f.I w u)(o:m<=b)(p:m<=Q)(S:f.r=0)(y:sb.size<=10)(B:gN sb=sZ k) (a:nW u m 148 1 g.N (g.C f.d).length (n9<|g.C f.d) 1 [Ã<|Â ⟨Q,0,Á⟩] v W) (C:jI m W) (D:nz m W.heap.size v) (l:jX=((W.setCell ⟨b,1,Á⟩ v).setCell ⟨b,4,Á⟩<|Ã<|Â ⟨Q,0,Á⟩).setCell ⟨b,0,Á⟩ (Ä sb)): fc (λi=>m<=i) w jX/\gS m b (apf g f.d Q v) nm sb {f with C:=sZ k,d:=f.d.vU k} jX:=by
 have c:=h.r.C a.r<|iL h.C h.r A;have n:=h.I.C a.r<|iL h.C h.I A;have E:=h.N.C a.r λi _ x=>by let⟨e,z⟩:=nV h.C x;exact Î ⟨_,_,_,z,Î U⟩
 have F:fc (λk=>k=b) W (W.setCell ⟨b,1,Á⟩ v):=qu c;have q:=c.fO 1 v;have G:fc (λk=>k=b) (W.setCell ⟨b,1,Á⟩ v) ((W.setCell ⟨b,1,Á⟩ v).setCell ⟨b,4,Á⟩<|Ã<|Â ⟨Q,0,Á⟩):=qu q;have r:=q.fO 4<|Ã<|Â ⟨Q,0,Á⟩;have H:fc (λk=>k=b) ((W.setCell ⟨b,1,Á⟩ v).setCell ⟨b,4,Á⟩<|Ã<|Â ⟨Q,0,Á⟩) jX:=by rw[l];exact qu r
 have t:=r.fO 0<|Ä sb;rw[<-l]at t;have z:=(F.fj G).fj H;have I:=n.C z λx=>fq.G n c A x;have J:=E.C z λi _ x=>Î ⟨_,_,_,Js x c,Æ U⟩;have K:=im a.fg z λj L x=>iL a.fg c A (by rw[L,x]);have M:Q<(W.setCell ⟨b,1,Á⟩ v).heap.size:=by simpa using n.M
 have N:jI m jX:=by rw[l];refine((C.r _ D).r _ ?_).r _ trivial;exact⟨p,M⟩
 have O:(g.C f.d++[Q]).length=(g.C f.d).length+1:=fp
 have P:n9 (g.C f.d++[Q])=n9 (g.C f.d)++[Ã<|Â ⟨Q,0,Á⟩]:=by simp[n9]
 refine⟨(h.S.C a.r λi _ x=> ?_).C z λi _ x=> ?_,o,N,t,y,B,⟨?_,J,λ_=>⟨p,Ü _,U,I,?_,pM.M _ _ _,(λe=>by cases e),λ_=>⟨rfl,rfl⟩⟩,(λe=>by cases e)⟩,λe=> ?_,Æ rfl⟩
 .exact(h.C.lt i x).1
 .rwa[x]
 .show jX.ownsRow m 148 1 v (g.C f.d++[Q]).length (n9<|g.C f.d++[Q]);rwa[O,P]
 .exact⟨U,Æ ⟨U,U⟩⟩
 .grind
def apg:zl f 0=Á:=rfl
def aph(h:gS m b g nm s f w)(r:f.r=0)(t:f.d.r=É->f.d.S=[])(u:f.d.I.length<=100000)(k:Int): Ö À 96 #[Ã<|Â ⟨b,0,Á⟩,Å È k] w λe w'=>match zl f k with
  |none=>e=Ê (þ É)/\w'=w
  |some c=>e=Ê (þ Í)/\tf m b c w w':=by
 by_cases l:k=0
 .subst l;rw[apg];go_enter Ż,ŷ;go_wp2;go_ret;exact⟨U,U⟩
 have P:(k==0)=É:=by rwa[beq_eq_false_iff_ne]
 have e:zl f k=Â {f with C:=sZ k,d:=f.d.vU k}:=if_neg l;rw[e];have Q:=h.r.r 2 _ U;have S:=h.r.I 2;have V:=h.r.M;have p:=h.ape k t;have x:(g.C f.d).length<=100000:=by rwa[h.C.G]
 have y:=h.S;have z:m<=w.heap.size:=Z
 have H:=eZ<|Ì y<|Ì z<|Ì x r;go_enter Ż,ŷ;go_wp2_with fail;change ð À _ _ _ (Nw b k w);have i:=p.fE (fc.gG _ _) p.M.gG;generalize W:w.heap.size=T at*;generalize B:(Nw b k w).drew=w1 at*;let⟨X,C,D,E,F⟩:=Γ apb;have j:=eZ<|Ì C<|Ì D<|Ì E F;refine oZ (λw'=>w'.cell? ⟨b,1,Á⟩=Â g.N/\w'.cell? ⟨b,2,Á⟩=Â (Ã<|Â ⟨T,0,Á⟩)) [13] fx ?_;rw[B];have G:Hid (w1.cell? ⟨b,1,Á⟩=Â g.N/\w1.cell? ⟨b,2,Á⟩=Â (Ã<|Â ⟨T,0,Á⟩)):=eZ ⟨i.r.r 1 _ U,i.r.r 2 _ U⟩;iterate 9 apply tk G.out
 have I:=i.I.M;have a:=i.fE (fc.iw fh w1 #[Ã<|Â ⟨T,0,Á⟩] 148) (i.M.iw _ _ fp A λv c=>by simp at c;subst c;exact⟨H.out.2.1,I⟩);apply ia 9;intro K c;go_simp;apply c.out _ _ λ_=>⟨a.r.r 1 _ U,a.r.r 2 _ U⟩;apply ia 10;intro K c;refine abe fL _ _ 61 fL Tryz.underlying61 j.out.1 j.out.2.1 j.out.2.2.1 j.out.2.2.2 fL a.C ⟨w1.heap.size,0,Á⟩ fL (Ŷ w1 _ _) U (by have:=H.out.2.2.1;unfold Ĳ;omega) (by have:=H.out.2.2.1;omega) (by have:=H.out.2.1;have:=a.I.M;omega) A (Ü _) a.M ⟨H.out.2.1,a.I.M⟩ A ?_;intro Y w9 n J L;obtain⟨a9,n9c,rfl⟩:=jv n.fg;have v:=a.r.C n.r<|iL a.C a.r A;apply c.out _ _ λ_=>⟨v.r 1 _ U,v.r 2 _ U⟩;apply ia 11;intro K c;go_simp;apply c.out _ _ λ_=>⟨v.r 1 _ U,v.r 2 _ U⟩;apply ia 12;intro K c;go_simp;apply c.out _ _ λ_=>⟨v.r 1 _ U,v.r 2 _ U⟩;have cb1:=v.r 1 _ U;have fb1:=v.I 1;have cb4:=v.r 4 _ U;have fb4:=v.I 4;have cb0:=v.r 0 _ U;have fb0:=v.I 0;have cb2:=v.r 2 _ U;apply ia 13;intro K c;go_simp;apply c.out _ _ λo=>absurd A o;refine oY fx ?_ _;have M:=eZ λo q N=>a.jT (sb:=o) H.out.1 H.out.2.1 H.out.2.2.2 q N n J L U;go_wp2_with (go_at_call 145;refine(ao2 _ _).mono ?_;rintro e w' ⟨⟨o,rfl,N,O⟩,q⟩;subst w');go_ret;have q:=M.out o N O;exact⟨U,q.1,_,_,_,q.2⟩
end
def ln(i:Nat)(z:Int):Prop:=match i with
 |0=>0<=z/\z<8
 |1=>0<=z/\z<8
 |2=>0<=z/\z<1000000
 |3=>0<=z/\z<1000000
 |4=>1<=z/\z<10
 |5=>-1<=z/\z<1000000
 |6=>-1<=z/\z<1000000
 |7=>0<=z/\z<16
 |_=>True
structure FN(n m:Nat)(c:List Int):Prop where
 C:c.length=n
 r:∀i,i<m->ln i (c.getD i 0)
theorem FN.I(h:FN n m zQ)(i:Nat)(z:Int)(b:i<m->ln i z):FN n m (zQ.set i z):=by refine⟨by simp[h.C],λj a=> ?_⟩;have:=h.r j a;grind
def abo(h:i<zQ.length)(z:Int):(zQ.set i z).getD i 0=z:=by simp[Ĕ,h]
structure Bb(t:PT):Prop where
 c:FN 5 4 t.c
 p:t.p.size<=40/\∀c∈t.p.data.toList,ze c=Í
structure Du(r:PR):Prop where
 c:FN 8 8 r.c
 I:∀t∈r.r,Bb t
 n:r.r.length<=8
structure kD(d:PD):Prop where
 N:d.r=É->d.S=[]/\d.C=É
 b:d.C=É->d.M.r=[]
 C:d.I.length<=24
 I:d.Y.length<=8
 S:∀r∈d.S,Du r
 M:d.r=Í->FN 8 8 d.M.c
 a:d.r=Í->∀t∈d.M.r,Bb t
 Y:d.C=Í->Bb d.N
structure jB(B:ByteArray)(k:Nat)(st:PS):Prop where
 M:0<=st.r
 r:st.r<=5
 C:0<=st.I
 I:st.I<=40
 e:0<st.r->(st.M=86\/st.M=87\/st.M=110\/st.M=107)/\st.d.r=Í/\0<=st.d.G st.M/\st.d.G st.M<10^(6-st.r.toNat)
 d:kD st.d
 c:st.d.r=Í\/st.C=[82]
 b:82∈st.C->st.d.I.length<24
 N:84∈st.C\/80∈st.C->st.d.C=Í
 a:66∈st.C->st.d.C=É
 S:80∈st.C->st.C=[80]/\st.r=0
 Y:80∈st.C->st.I.toNat<=k/\∀j (h:j<B.size),k-st.I.toNat<=j->j<k->ze B[j]=Í
section
variable{d:PD}{st o:PS}
def kD.abp(h:kD d)(on:d.r=Í):∀t∈d.Y,Bb t:=by
 unfold PD.Y;split
 .rename_i e;intro t a;rcases æ.1 a with q|q
  .exact h.a on t q
  .rw[Ŀ]at q;rw[q];exact h.Y e
 .exact h.a on
def kD.G(h:kD d):∀r∈d.I,Du r:=by
 unfold PD.I;split
 .rename_i e;intro r a;rcases æ.1 a with q|q
  .exact h.S r q
  .rw[Ŀ]at q;rw[q];exact⟨h.M e,h.abp e,h.I⟩
 .exact h.S
def zn(d:PD):d.I.length=d.S.length+(if d.r then 1 else 0):=by unfold PD.I;split<;>simp
def Jt(d:PD):d.Y.length=d.M.r.length+(if d.C then 1 else 0):=by unfold PD.Y;split<;>simp
def kD.r(h:kD d)(i:Nat)(z:Int)(a:ln i z):kD (d.vT i z):= ⟨h.N,h.b,by have:=h.C;rw[zn]at this|-;exact this,by have:=h.I;rw[Jt]at this|-;exact this,h.S,λe=>(h.M e).I i z λ_=>a,h.a,h.Y⟩
def kD.uD(h:kD d)(i:Nat)(z:Int)(a:i<4->ln i z):kD (d.uD i z):= ⟨h.N,h.b,by have:=h.C;rw[zn]at this|-;exact this,by have:=h.I;rw[Jt]at this|-;exact this,h.S,h.M,h.a,λe=>⟨(h.Y e).c.I i z a,(h.Y e).p⟩⟩
def kD.kO(h:kD d)(i:Nat)(z:Int)(a:ln i z):kD (d.kO i z):=by
 unfold PD.kO;split
 .exact h.uD i z λ_=>a
 .exact h.r i z a
def kD.rY(h:kD d)(p:ByteArray)(a:p.size<=40/\∀c∈p.data.toList,ze c=Í):kD (d.rY p):= ⟨h.N,h.b,by have:=h.C;rw[zn]at this|-;exact this,by have:=h.I;rw[Jt]at this|-;exact this,h.S,h.M,h.a,λe=>⟨(h.Y e).c,a⟩⟩
def apj:Bb PD.zh:=⟨⟨U,λi a=>by
 match i,a with
 |0,_=>exact⟨A,A⟩
 |1,_=>exact⟨A,A⟩
 |2,_=>exact⟨A,A⟩
 |3,_=>exact⟨A,A⟩⟩,⟨A,λc b=>by cases b⟩⟩
def kD.pb(h:kD d)(on:d.r=Í)(a:d.Y.length<8):kD d.pb:= ⟨(λe=>by have:d.r=É:=e;rw[on]at this;cases this),(λe=>by cases e),by have:=h.C;rw[zn]at this|-;exact this,by rwa[Jt],h.S,λe=>h.M e,λ_=>h.abp on,λ_=>apj⟩
def kD.vU(h:kD d)(q:Int)(a:1<=q/\q<10)(b:d.I.length<24):kD (d.vU q):= ⟨(λe=>by cases e),λ_=>rfl,by rwa[zn],by show(0:Nat)<=8;decide,h.G,λ_=>⟨U,λi c=>by
   match i,c with
   |0,_=>exact⟨by show(0:Int)<=0;decide,by show(0:Int)<8;decide⟩
   |1,_=>exact⟨by show(0:Int)<=0;decide,by show(0:Int)<8;decide⟩
   |2,_=>exact⟨by show(0:Int)<=0;decide,by show(0:Int)<1000000;decide⟩
   |3,_=>exact⟨by show(0:Int)<=0;decide,by show(0:Int)<1000000;decide⟩
   |4,_=>exact a
   |5,_=>exact⟨by show(-1:Int)<=0;decide,by show(0:Int)<1000000;decide⟩
   |6,_=>exact⟨by show(-1:Int)<=0;decide,by show(0:Int)<1000000;decide⟩
   |7,_=>exact⟨by show(0:Int)<=0;decide,by show(0:Int)<16;decide⟩⟩,(λ_ t f=>by cases f),(λe=>by cases e)⟩
def kD.fO(h:kD d)(a z:Int)(b:(a=86->ln 5 z)/\(a=87->ln 6 z)/\(a=120->ln 0 z)/\(a=121->ln 1 z)/\(a=110->ln 2 z)/\(a=107->ln 3 z)/\(a=115->ln 7 z)):kD (d.fO a z):=by
 let⟨c,e,f,g,i,j,k⟩:=b;unfold PD.fO;repeat' split
 .exact h.r 5 z<|c ‹_›
 .exact h.r 6 z<|e ‹_›
 .exact h.kO 0 z<|f ‹_›
 .exact h.kO 1 z<|g ‹_›
 .exact h.kO 2 z<|i ‹_›
 .exact h.kO 3 z<|j ‹_›
 .exact h.r 7 z<|k ‹_›
 .exact h
def Uu(d:PD)(a z:Int):(d.fO a z).r=d.r/\(d.fO a z).C=d.C/\(d.fO a z).I.length=d.I.length:=by
 unfold PD.fO PD.kO;repeat' split
 all_goals exact⟨U,U,(zn _).trans (zn d).symm⟩
theorem Uv(h:kD d)(on:d.r=Í)(a z:Int)(f:a=86\/a=87\/a=110\/a=107):(d.fO a z).G a=z:=by
 have g:=(h.M on).C;have b:∀i,i<4->(d.kO i z).zk i=z:=λi j=>by
  unfold PD.kO;split
  .rename_i e;have k:=(h.Y e).c.C;show(if d.C=Í then(d.N.c.set i z).getD i 0 else d.M.c.getD i 0)=z;grind
  .rename_i e;show(if d.C=Í then d.N.c.getD i 0 else(d.M.c.set i z).getD i 0)=z;grind
 rcases f with rfl|rfl|rfl|rfl
 .exact abo Z z
 .exact abo Z z
 .exact b 2 A
 .exact b 3 A
def Nx:∀(l:List UInt8) (c:UInt8),Ú l c<l.length
 |[],_=>by show(-1:Int)<0;decide
 |a::l,c=>by
  have:=Nx l c;unfold Ú;split
  .simp
  .split<;>(simp;omega)
def Uw:∀(l:List UInt8) (c:UInt8),c∈l->0<=Ú l c
 |[],_,h=>by cases h
 |a::l,c,h=>by
  unfold Ú;split
  .decide
  .rename_i e;rcases List.mem_cons.1 h with q|q
   .subst q;simp at e
   .have:=Uw l c q;split
    .rename_i b;rw[beq_iff_eq]at b;omega
    .omega
def abq{l:List UInt8}(h:c.toNat∈l.map UInt8.toNat):c.toNat.toUInt8∈l:=by let⟨x,a,b⟩:=à.1 h;rw[<-b];simpa using a
def abr(h:oN c=Í):0<=Ú [97,98,99,100,101,102,103,104] c.toNat.toUInt8:=by rw[aa9]at h;refine Uw _ _<|abq ?_;simp;omega
def apk(h:(iT c||(decide (97<=c)&&decide (c<=102)))=Í):0<=Ú [48,49,50,51,52,53,54,55,56,57,97,98,99,100,101,102] c.toNat.toUInt8:=by simp only[Bool.or_eq_true,Ba,Bool.and_eq_true,decide_eq_true_eq]at h;refine Uw _ _<|abq ?_;simp;omega
theorem apl(a:mF h c=Í):(h=86->ln 5 (lk h c))/\(h=87->ln 6 (lk h c))/\(h=120->ln 0 (lk h c))/\(h=121->ln 1 (lk h c))/\(h=110->ln 2 (lk h c))/\(h=107->ln 3 (lk h c))/\(h=115->ln 7 (lk h c)):=by
 unfold mF at a;have b:(c==104||iT c)=Í->-1<=(if c=104 then-1 else(c-48)%256)/\(if c=104 then(-1:Int)else(c-48)%256)<1000000:=λq=>by split<;>omega
 have d:iT c=Í->0<=(if c=104 then-1 else(c-48)%256)/\(if c=104 then(-1:Int)else(c-48)%256)<1000000:=λq=>by rw[Ba]at q;grind
 refine⟨?_,?_,?_,?_,?_,?_,?_⟩<;>rintro rfl
 .exact b a
 .exact b a
 .exact⟨abr a,Nx _ _⟩
 .exact⟨abr a,Nx _ _⟩
 .exact d a
 .exact d a
 .exact⟨apk a,Nx _ _⟩
theorem apm{lC:Int}(a:iT c=Í)(b:0<=h)(d:0<lC)(e:lC<=5)(f:h<10^(6-lC.toNat)):0<=qW h c/\qW h c<10^(6-(lC-1).toNat)/\qW h c<1000000:=by
 rw[Ba]at a;have g:h<100000->qW h c=h*10+(c-48):=λq=>by unfold qW;rw[ţ (h*10) ⟨Z,Z⟩,ţ _ ⟨Z,Z⟩];omega
 have i:lC=1\/lC=2\/lC=3\/lC=4\/lC=5:=Z
 grind
def kD.lC(h:kD d)(a z:Int)(c:a=86\/a=87\/a=110\/a=107)(b:0<=z/\z<1000000):kD (d.fO a z):= h.fO a z ⟨λ_=>⟨Z,b.2⟩,λ_=>⟨Z,b.2⟩,λe=>by omega,λe=>by omega,λ_=>b,λ_=>b,λe=>by omega⟩
def jB.apn(h:jB B k st)(e:0<st.r)(j:iT c=Í):jB B (k+1) (Jp st c):=by
 let⟨a,b,l,m⟩:=h.e e;let⟨f,n,o⟩:=apm j l e h.r m;let⟨g,i,p⟩:=Uu st.d st.M<|qW (st.d.G st.M) c;refine⟨by show 0<=st.r-1;omega,by have:=h.r;show st.r-1<=5;omega,h.C,h.I,λ_=>⟨a,g.trans b,?_⟩,h.d.lC _ _ a ⟨f,o⟩,?_,λq=> ?_,λq=>i.trans<|h.N q,λq=>i.trans<|h.a q,λq=> ?_,λq=> ?_⟩
 .show 0<=(st.d.fO st.M<|qW (st.d.G st.M) c).G st.M/\(st.d.fO st.M<|qW (st.d.G st.M) c).G st.M<10^(6-(st.r-1).toNat);rw[Uv h.d b _ _ a];exact⟨f,n⟩
 .exact Æ<|g.trans b
 .show(st.d.fO st.M<|qW (st.d.G st.M) c).I.length<24;rw[p];exact h.b q
 .have:=(h.S q).2;omega
 .have:=(h.S q).2;omega
def jB.wF(h:jB B k st):jB B k {st with r:=0}:= ⟨Ŗ _,by show(0:Int)<=5;decide,h.C,h.I,(λq=>by cases q),h.d,h.c,h.b,h.N,h.a,λq=>⟨(h.S q).1,rfl⟩,h.Y⟩
theorem jB.on(h:jB B k st)(a:82∉st.C):st.d.r=Í:=by rcases h.c with q|q;all_goals grind
def kD.apo(h:kD d)(a:d.C=Í):d.r=Í:=by
 cases e:d.r with
 |true=>rfl
 |false=>have:=(h.N e).2;rw[a]at this;cases this
theorem abt(h:jB B k st)(b:st.r=0)(on:st.d.r=Í)(a:qn st c=Â o):jB B (k+1) o:=by
 unfold qn at a;split at a
 .rename_i e;cases a;refine⟨h.M,h.r,h.C,h.I,λq=> ?_,h.d,Î U,λ_=> ?_,λq=> ?_,λq=> ?_,λq=> ?_,λq=> ?_⟩
  .grind
  .rw[zn,on];exact e.2
  .simp at q
  .simp at q
  .simp at q
  .simp at q
 .split at a
  .rename_i e;cases a;refine⟨h.M,h.r,h.C,h.I,λq=> ?_,h.d.pb on e.2.2,Æ on,λq=> ?_,λ_=>rfl,λq=> ?_,λq=> ?_,λq=> ?_⟩;all_goals grind
  .cases a
def apq(q:Int):82∉sZ q/\84∉sZ q/\80∉sZ q:=by
 unfold sZ;repeat' split
 all_goals decide
theorem apr(q:Int):82∉pL q/\84∉pL q/\66∉pL q/\(80∈pL q->pL q=[80]):=by unfold pL;grind
def aps(c:Int):0<=uC c/\uC c<10:=by
 unfold uC;repeat' split
 all_goals decide
theorem apt(h:jB B k st)(i:st.r=0)(f:82∈st.C)(a:zl st (uC c)=Â o):jB B (k+1) o:=by
 unfold zl at a;split at a
 .cases a
 .rename_i e;cases a;let⟨g,j,b⟩:=apq<|uC c;have l:=aps c;refine⟨h.M,h.r,h.C,h.I,λq=> ?_,h.d.vU _ Z<|h.b f,Æ U,λq=>absurd q g,λq=> ?_,λ_=>rfl,λq=>absurd q b,λq=>absurd q b⟩;all_goals grind
theorem apu(h:jB B k st)(c:st.r=0)(q:Int)(f:84∈st.C)(a:zm st q=Â o):jB B (k+1) o:=by
 unfold zm at a;split at a
 .cases a
 .cases a;let⟨g,m,i,l⟩:=apr q;have b:=h.N<|Æ f;refine⟨h.M,h.r,Ŗ _,by show(0:Int)<=40;decide,λq=> ?_,h.d.uD 4 q λe=>by omega,Æ<|h.d.apo b,λq=>absurd q g,λ_=>b,λq=>absurd q i,λq=>⟨l q,c⟩,λ_=>⟨Ø _,λj _ n p=> ?_⟩⟩;all_goals grind
theorem apv{a:Int}(h:0<lJ a c):(a=86\/a=87)/\lJ a c=1/\iT c=Í/\c≠48\/(a=110\/a=107)/\lJ a c=5/\iT c=Í/\c≠48:=by unfold lJ at h|-;grind
theorem abu(h:jB B k st)(on:st.d.r=Í){want:Int}(l:mF want c=Í)(r:List Int)(a:∀x∈r,x∈st.C)(g:80∉r):jB B (k+1) {pd st want c with C:=r}:=by
 let⟨m,i,n⟩:=Uu st.d want<|lk want c;have j:=aoT want c;refine⟨j.1,j.2,h.C,h.I,λq=> ?_,h.d.fO _ _<|apl l,Æ<|m.trans on,λq=> ?_,λq=>i.trans<|h.N<|q.imp (a _)<|a _,λq=>i.trans<|h.a<|a _ q,λq=>absurd q g,λq=>absurd q g⟩
 .have q:=q;show(want=86\/want=87\/want=110\/want=107)/\(st.d.fO want<|lk want c).r=Í/\0<=(st.d.fO want<|lk want c).G want/\(st.d.fO want<|lk want c).G want<10^(6-(lJ want c).toNat);rcases apv q with⟨o,b,e,p⟩|⟨o,b,e,p⟩
  .have f:want=86\/want=87\/want=110\/want=107:=Z
   rw[Uv h.d on _ _ f,b];rw[Ba]at e;have:lk want c=(c-48)%256:=by unfold lk;grind
   grind
  .have f:want=86\/want=87\/want=110\/want=107:=Z
   rw[Uv h.d on _ _ f,b];rw[Ba]at e;have:lk want c=(c-48)%256:=by unfold lk;grind
   grind
 .show(st.d.fO want<|lk want c).I.length<24;rw[n];exact h.b<|a _ q
def apw{x:UInt8}(h:x∈(B.extract i b).data.toList):∃j,∃e:j<B.size,i<=j/\j<b/\B[j]=x:=by rw[ĩ,ı,Ğ]at h;obtain⟨c,d,rfl⟩:=ē h;simp only[ŋ,List.length_drop,Ē]at d;have f:B.data.size=B.size:=rfl;exact⟨i+c,Z,Z,Z,by simp[ą]⟩
theorem apx(h:jB B k st)(l:st.r=0)(F:k<B.size)(a:jH B k st (B[k].toNat:Int)=Â o):jB B (k+1) o:=by
 unfold jH at a;split at a
 .rename_i e;exact abt h l (h.on<|by rw[e];decide) a
 .rename_i t p e;have c:t∈st.C:=by rw[e];exact List.mem_cons_self ..
  split at a
  .rename_i f;subst f;exact apt h l c a
  rename_i G;have i:st.d.r=Í:=by rcases h.c with q|q;all_goals grind
  split at a
  .rename_i f;subst f;split at a
   .rename_i u;cases a;have n:=h.a c;have b:st.d.Y.length<8:=by rw[Jt,h.d.b n,n];decide
    have v:jB B k {st with C:=[84],d:=st.d.pb}:=by refine⟨h.M,h.r,h.C,h.I,λq=> ?_,h.d.pb i b,Æ i,λq=> ?_,λ_=>rfl,λq=> ?_,λq=> ?_,λq=> ?_⟩;all_goals grind
    exact abu (want:=120) v i u [84] (λx b=>b) A
   .exact abt h l i a
  split at a
  .rename_i f;subst f;exact apu h l _ c a
  split at a
  .rename_i f;subst f;let⟨H,w⟩:=h.Y c;have n:=h.N<|Î c;have y:=(h.S c).1;have I:=h.C;have J:=h.I;split at a
   .cases a;have z:p=[]:=by rw[y]at e;cases e;rfl
    subst z;refine⟨h.M,h.r,h.C,h.I,λq=> ?_,h.d.rY _ ⟨by rw[ĉ];omega,λx b=> ?_⟩,Æ i,λq=> ?_,λq=> ?_,λq=> ?_,λq=> ?_,λq=> ?_⟩
    .grind
    .obtain⟨j,r,m,s,rfl⟩:=apw b;exact w j r m s
    .cases q
    .grind
    .cases q
    .cases q
    .cases q
   .split at a
    .cases a
    .rename_i g;cases a;have K:=λq=>g<|Æ q;have C:=λq=>g<|Î q;refine⟨h.M,h.r,by show 0<=st.I+1;omega,by show st.I+1<=40;omega,h.e,h.d,h.c,h.b,h.N,h.a,h.S,λ_=>⟨by show(st.I+1).toNat<=k+1;omega,λj r m s=> ?_⟩⟩;have m:k+1-(st.I+1).toNat<=j:=m;by_cases D:j=k
     .subst D;unfold ze;simpa using C
     .grind
  split at a
  .rename_i L M N E;cases a;refine abu h i E p (λx b=>by rw[e];exact ď _ b) λq=> ?_;have:=(h.S<|by rw[e];exact ď _ q).1;grind
  .cases a
def abv(h:jB B k st)(b:k<B.size)(a:qo B k st (B[k].toNat:Int)=Â o):jB B (k+1) o:=by
 unfold qo at a;split at a
 .rename_i e;cases a;exact h.apn e.1 e.2
 .exact apx h.wF U b a
def Ux(B:ByteArray):jB B 0 s6:= ⟨A,A,A,A,(λq=>by cases q),⟨λ_=>⟨rfl,rfl⟩,λ_=>rfl,A,A,(λr e=>by cases e),(λe=>by cases e),(λe=>by cases e),(λe=>by cases e)⟩,Î rfl,λ_=>by decide,(λq=>by rcases q with q|q<;>simp[s6]at q),(λq=>by simp[s6]at q),(λq=>by simp[s6]at q),(λq=>by simp[s6]at q)⟩
def Ju:∀(f k:Nat) (st:PS),jB B k st->k<=B.size->jB B (qp B f k st).1 (qp B f k st).2/\(qp B f k st).1<=B.size
 |0,k,st,h,hk=>⟨h,hk⟩
 |f+1,k,st,h,hk=>by
  unfold qp;split
  .rename_i a;split
   .exact⟨h,hk⟩
   .rename_i o e;exact Ju f (k+1) o (abv h a e) Z
  .exact⟨h,hk⟩
end
section
variable{g:Gh}{st:PS}
def abw{d:PD}(i:Nat)(z:Int):g.M (d.kO i z)=g.M d:=by unfold PD.kO Gh.M;split<;>simp[PD.uD,PD.vT, *]
def abx{d:PD}(h:i=2\/i=3)(z:Int):g.Ds (d.kO i z) (if i=2 then 110 else 107)=⟨g.M d,i,Á⟩:=by
 rcases h with rfl|rfl
 .show(⟨g.M<|d.kO 2 z,2,Á⟩:ù)=_;rw[abw]
 .show(⟨g.M<|d.kO 3 z,3,Á⟩:ù)=_;rw[abw]
def aby{d:PD}(on:d.r=Í):g.S d=Â ⟨g.q,0,Á⟩:=if_pos on
def apy{d:PD}(on:d.r=Í):g.G d=Â ⟨g.M d,0,Á⟩:=if_pos on
def abz(h:gS m b g O B st w)(j:st.r=0)(on:st.d.r=Í)(a c:Int)(v:mF a c=Í): Ö À 100 #[Ã<|Â ⟨b,0,Á⟩,Å ŧ a,Å ŧ c] w λe u=>e=Ê (è #[])/\tf m b (pd st a c) w u:=by
 have G:w.cell? ⟨b,2,Á⟩=Â (Ã<|g.S st.d):=h.r.r 2 _ U;have x:w.cell? ⟨b,4,Á⟩=Â (Ã<|g.G st.d):=h.r.r 4 _ U;rw[aby on]at G;rw[apy on]at x;have H:=eZ<|Ì h v;clear h v;generalize y:g.M st.d=tm at x;have n:=eZ y;clear y;by_cases o:a=86
 .subst o;have k:=eZ (show pd st 86 c={st with r:=xC c 2,M:=86,d:=st.d.vT 5 (iR c)}from by unfold pd;rw[<-Ns H.out.2 (Æ ⟨Æ U,U⟩),Nu A];rfl);go_enter ô,ï;go_wp2_with (go_at_call 147;refine(Nr H.out.1 (FI H.out.1.C H.out.1.r on (i:=5) A) j on _ _ 86 A A λz=>rfl).mono ?_;rintro e u ⟨rfl,l⟩);go_end0;exact⟨U,by rwa[k.out]⟩
 have I:(a==86)=É:=by rwa[beq_eq_false_iff_ne]
 by_cases p:a=87
 .subst p;have k:=eZ (show pd st 87 c={st with r:=xC c 2,M:=87,d:=st.d.vT 6 (iR c)}from by unfold pd;rw[<-Ns H.out.2 (Æ ⟨Î U,U⟩),Nu A];rfl);go_enter ô,ï;go_wp2_with (go_at_call 147;refine(Nr H.out.1 (FI H.out.1.C H.out.1.r on (i:=6) A) j on _ _ 87 A A λz=>rfl).mono ?_;rintro e u ⟨rfl,l⟩);go_end0;exact⟨U,by rwa[k.out]⟩
 have J:(a==87)=É:=by rwa[beq_eq_false_iff_ne]
 by_cases q:a=120
 .subst q;have f:=eZ ((by have:=FJ H.out.1.C H.out.1.r on (i:=0) A;rw[n.out]at this;exact this:qY m b g st.d tm 0 (λz=>st.d.kO 0 z) (st.d.zk 0) w));have C:=f.out.C;have D:=f.out.I;have E:=f.out.r;go_enter ô,ï;go_wp2_with fail;go_region_with (go_at_call 146;refine(Jq _ _ _).mono ?_;rintro e u ⟨rfl,F⟩;subst u);all_goals go_end0
  all_goals exact⟨U,Ur H.out.1 f.out j (Nt A) U⟩
 have K:(a==120)=É:=by rwa[beq_eq_false_iff_ne]
 by_cases r:a=121
 .subst r;have f:=eZ ((by have:=FJ H.out.1.C H.out.1.r on (i:=1) A;rw[n.out]at this;exact this:qY m b g st.d tm 1 (λz=>st.d.kO 1 z) (st.d.zk 1) w));have C:=f.out.C;have D:=f.out.I;have E:=f.out.r;go_enter ô,ï;go_wp2_with fail;go_region_with (go_at_call 146;refine(Jq _ _ _).mono ?_;rintro e u ⟨rfl,F⟩;subst u);all_goals go_end0
  all_goals exact⟨U,Ur H.out.1 f.out j (Nt A) U⟩
 have L:(a==121)=É:=by rwa[beq_eq_false_iff_ne]
 by_cases s:a=110
 .subst s;have k:=eZ (show pd st 110 c={st with r:=xC c 6,M:=110,d:=st.d.kO 2 (iR c)}from by unfold pd;rw[<-Ns H.out.2 (Î ⟨Æ U,U⟩),Nu A];rfl);go_enter ô,ï;go_wp2_with (go_at_call 147;refine(Nr H.out.1 ((by have:=FJ H.out.1.C H.out.1.r on (i:=2) A;rw[n.out]at this;exact this:qY m b g st.d tm 2 (λz=>st.d.kO 2 z) (st.d.zk 2) w)) j on _ _ 110 A A λz=>(by have:=abx (g:=g) (d:=st.d) (i:=2) (Æ U) z;rwa[n.out]at this)).mono ?_;rintro e u ⟨rfl,l⟩);go_end0;exact⟨U,by rwa[k.out]⟩
 have M:(a==110)=É:=by rwa[beq_eq_false_iff_ne]
 by_cases t:a=107
 .subst t;have k:=eZ (show pd st 107 c={st with r:=xC c 6,M:=107,d:=st.d.kO 3 (iR c)}from by unfold pd;rw[<-Ns H.out.2 (Î ⟨Î U,U⟩),Nu A];rfl);go_enter ô,ï;go_wp2_with (go_at_call 147;refine(Nr H.out.1 ((by have:=FJ H.out.1.C H.out.1.r on (i:=3) A;rw[n.out]at this;exact this:qY m b g st.d tm 3 (λz=>st.d.kO 3 z) (st.d.zk 3) w)) j on _ _ 107 A A λz=>(by have:=abx (g:=g) (d:=st.d) (i:=3) (Î U) z;rwa[n.out]at this)).mono ?_;rintro e u ⟨rfl,l⟩);go_end0;exact⟨U,by rwa[k.out]⟩
 have l:(a==107)=É:=by rwa[beq_eq_false_iff_ne]
 by_cases k:a=115
 .subst k;have f:=eZ<|FI H.out.1.C H.out.1.r on (i:=7) A;have C:=f.out.C;have D:=f.out.I;have E:=f.out.r;go_enter ô,ï;go_wp2_with fail;go_region_with (go_at_call 146;refine(Jq _ _ _).mono ?_;rintro e u ⟨rfl,F⟩;subst u);all_goals go_end0
  all_goals exact⟨U,Ur H.out.1 f.out j (Nt A) U⟩
 have f:(a==115)=É:=by rwa[beq_eq_false_iff_ne]
 go_enter ô,ï;go_wp2;go_end0;refine⟨U,fc.fV _ _,g,O,B,?_⟩;have e:pd st a c={st with M:=a}:=by unfold pd PD.fO;rw[Nt ⟨Z,Z⟩,if_neg o,if_neg p,if_neg q,if_neg r,if_neg s,if_neg t,if_neg k,<-j]
 rw[e];exact H.out.1.Up a j
end
section
variable{g:Gh}{s:ByteArray}{st:PS}{d:PD}
def Ny(m b:Nat)(o:Option PS)(e:Ending)(w u:Ë):Prop:=
 (o=Á/\e=Ê (þ É)/\u=w)\/∃a,o=Â a/\e=Ê (þ Í)/\tf m b a w u
def abA{o:Option PS}{e:Ending}(h:match o with
 |none=>e=Ê (þ É)/\u=w
 |some a=>e=Ê (þ Í)/\tf m b a w u):Ny m b o e w u:=by
 cases o with
 |none=>exact Æ ⟨U,h⟩
 |some a=>exact Î ⟨a,U,h⟩
def apz{d:PD}(on:d.r=Í):d.I.length=d.S.length+1:=by rw[zn,on];rfl
def abB(h:gS m b g O s st w)(j:st.r=0)(on:st.d.r=Í)(y:st.d.Y.length<=8)(z:st.d.I.length<=24)(c:Int): Ö À 95 #[Ã<|Â ⟨b,0,Á⟩,Å ŧ c] w λe u=>Ny m b (qn st c) e w u:=by
 have l:=h.C.r on;let⟨I,J,p⟩:=jv h.C.C;let⟨K,L,q⟩:=jv l.I;rw[h.C.G]at p;rw[l.G]at q;have M:=h.r.r 0 _ U;have r:=h.r.r 1 _ U;have B:=h.r.r 2 _ U;rw[aby on]at B;rw[p]at r;have t:=l.r.r 8 _ (by have:=Dt st.d.M.c g.r;rwa[l.M]at this);rw[q]at t;have N:=h.r.I 0;obtain⟨v,f⟩:∃n,st.d.I.length=n:=⟨_,U⟩;obtain⟨x,i⟩:∃n,st.d.Y.length=n:=⟨_,U⟩;rw[f]at r z;rw[i]at t y;have k:st.d.S.length+1=v:=by rw[<-f];exact(apz on).symm
 have H:=eZ<|Ì h<|Ì f<|Ì i<|Ì k j;by_cases C:c=59/\v<24
 .obtain⟨rfl,a⟩:=C;go_enter ŗ,ŉ;go_wp2;go_ret;let⟨h,f,i,k,j⟩:=H.out;exact Î ⟨_,by rw[qn,if_pos ⟨U,Z⟩],U,mT h 0 _,g,O,_,h.Nq _ [82] A A<|Æ on⟩
 by_cases D:c=44/\0<x/\x<8
 .obtain⟨rfl,P,Q⟩:=D;go_enter ŗ,ŉ;go_wp2_with (go_at_call 99;refine(abm H.out.1 H.out.2.2.2.2 on (by have:=H.out.2.2.1;omega)).mono ?_;rintro e u ⟨rfl,o,E,F,S,a⟩;have T:=a.r.r 0 _ U;have V:=a.r.I 0;have G:=eZ<|Ì o a;clear o a);go_ret;let⟨h,f,i,k,j⟩:=H.out;let⟨o,a⟩:=G.out;exact Î ⟨_,by rw[qn,if_neg Z,if_pos ⟨U,Z,Z⟩],U,o.fj<|mT a 0 _,E,F,_,a.Nq _ [120,84] A A<|Æ on⟩
 .have a:=eZ (show qn st c=Á by
   let⟨h,f,i,k,j⟩:=H.out;rw[qn,if_neg Z,if_neg Z])
  go_enter ŗ,ŉ;go_wp2_with fail;all_goals first|(go_ret;exact Æ ⟨a.out,U,U⟩)|(exfalso;simp only[beq_iff_eq,decide_eq_true_eq]at*;omega)
def Dv:Code->Option Code
 |θ c=>Â c
 |.seq a b=>match Dv a with
  |some c=>Â c
  |none=>Dv b
 |.block _ c=>Dv c
 |.scope c=>Dv c
 |.cond _ a b=>match Dv a with
  |some c=>Â c
  |none=>Dv b
 |_=>Á
noncomputable def qZ:Code:=(Tryz.f61.body.bind Dv).getD .skip
def qw(b:Nat)(B:ByteArray)(i:Ñ)(u:Nat->Ñ):Ģ:=⟨#[Ã<|Â ⟨b,0,Á⟩,Ä B,Ř,Ř,Å È 0,i,u 6,u 7,u 8,u 9,u 10,u 11,u 12,u 13,u 14,u 15,u 16,u 17,u 18,u 19,u 20,u 21,u 22,u 23,u 24,u 25,u 26,u 27,u 28,u 29,u 30,u 31,u 32,u 33,u 34,u 35,u 36,u 37,u 38,u 39,u 40,u 41,u 42,u 43,u 44,u 45,u 46,u 47,u 48,u 49,u 50,u 51,u 52,u 53,u 54,u 55,u 56,u 57,u 58,u 59,u 60,u 61,u 62,u 63,u 64,u 65,u 66,u 67,u 68,u 69,u 70,u 71,u 72,u 73,u 74,u 75,u 76,u 77,u 78,u 79,u 80,u 81,u 82,u 83,u 84,u 85,u 86,u 87,u 88,u 89,u 90,u 91,u 92,u 93,u 94,u 95,u 96,u 97,u 98,u 99,u 100,u 101,u 102,u 103,u 104,u 105,u 106,u 107,u 108,u 109,u 110,u 111,u 112,u 113,u 114,u 115,u 116,u 117,u 118,u 119,u 120,u 121,u 122,u 123,u 124,u 125,u 126,u 127,u 128,u 129,u 130,u 131,u 132,u 133,u 134,u 135,u 136,u 137,u 138,u 139,u 140,u 141,u 142,u 143,u 144,u 145,u 146],[]⟩
def Fr(b:Nat)(B:ByteArray)(i:Ñ)(a:Ģ):Prop:=∃u,a=qw b B i u
def pf{b:Nat}{B:ByteArray}{i:Value}{a:Act}(h:a=qw b B i (λn=>a.tmps.getD n undef):=by rfl):Fr b B i a:=⟨_,h⟩
def QQ(X:Ģ->Ë->Prop):Exit->Ģ->Ë->Prop
 |.exit 0,a,w=>X a w
 |_,_,_=>False
def tg(m b:Nat)(B:ByteArray)(k:Nat)(st:PS)(wr u:Ë):Prop:=∃(h:k<B.size) (h:PS),qo B k st (B[k].toNat:Int)=Â h/\tf m b h wr u
def tj(m b:Nat)(B:ByteArray)(k:Nat)(st:PS)(wr u:Ë):Prop:=∃h:k<B.size,qo B k st (B[k].toNat:Int)=Á/\∃a,tf m b a wr u
theorem vW{d:Int}(h:(0<d/\yQ=É)\/d<=0):¬(0<d/\yQ=Í):=by grind
def vY(h:¬(0<st.r/\iT c=Í)):qo B k st c=jH B k {st with r:=0} c:=if_neg h
def apA(a:0<st.r)(b:iT c=Í):qo B k st c=Â (Jp st c):=if_pos ⟨a,b⟩
section
variable{want:Int}
def apB(h:st.C=[]):jH B k st c=qn st c:=by rw[jH,h]
def apC(h:st.C=want::zQ)(a:want=82):jH B k st c=zl st (uC c):=by rw[jH,h];simp only;rw[if_pos a]
def apD(h:st.C=want::zQ)(a:want=66)(b:oN c=Í):jH B k st c=Â (pd {st with C:=[84],d:=st.d.pb} 120 c):=by rw[jH,h];simp only;rw[if_neg Z,if_pos a,if_pos b]
def apE(h:st.C=want::zQ)(a:want=66)(b:oN c=É):jH B k st c=qn st c:=by rw[jH,h];simp only;rw[if_neg Z,if_pos a,if_neg (by rw[b];decide)]
def apF(h:st.C=want::zQ)(a:want=84):jH B k st c=zm st (A9 c):=by rw[jH,h];simp only;rw[if_neg Z,if_neg Z,if_pos a]
def apG(h:st.C=want::zQ)(a:want=80)(b:c=125):jH B k st c=Â {st with C:=zQ,d:=st.d.rY (B.extract (k-st.I.toNat) k)}:=by rw[jH,h];simp only;rw[if_neg Z,if_neg Z,if_neg Z,if_pos a,if_pos b]
def abC(h:st.C=want::zQ)(a:want=80)(b:¬c=125)(d:st.I=40\/mD c=0):jH B k st c=Á:=by rw[jH,h];simp only;rw[if_neg Z,if_neg Z,if_neg Z,if_pos a,if_neg b,if_pos d]
def apH(h:st.C=want::zQ)(a:want=80)(b:¬c=125)(d:¬st.I=40)(e:¬mD c=0):jH B k st c=Â {st with I:=st.I+1}:=by rw[jH,h];simp only;rw[if_neg Z,if_neg Z,if_neg Z,if_pos a,if_neg b,if_neg Z]
def apI(h:st.C=want::zQ)(a:¬want=82)(b:¬want=66)(d:¬want=84)(e:¬want=80)(f:mF want c=Í):jH B k st c=Â {pd st want c with C:=zQ}:=by rw[jH,h];simp only;rw[if_neg a,if_neg b,if_neg d,if_neg e,if_pos f]
def apJ(h:st.C=want::zQ)(a:¬want=82)(b:¬want=66)(d:¬want=84)(e:¬want=80)(f:mF want c=É):jH B k st c=Á:=by rw[jH,h];simp only;rw[if_neg a,if_neg b,if_neg d,if_neg e,if_neg (by rw[f];decide)]
end
def vZ(c:UInt8):(0:Int)<=(c.toNat:Int)/\(c.toNat:Int)<256:=⟨Int.natCast_nonneg _,by have:=c.toNat_lt;omega⟩
def Uy(s:ByteArray)(h:s.size=0):(s.toList==[])=Í:=by simp_all
theorem uF(s:ByteArray)(h:¬s.size=0):(s.toList==[])=É:=by
 rw[beq_eq_false_iff_ne];intro e;have:s.toList.length=s.size:=by rw[ByteArray.toList_eq];rfl
 grind
def gS.apK(h:gS m b g O s st w)(on:st.d.r=Í)(i:c=86\/c=87\/c=110\/c=107):∃a e f,g.Ds st.d c=⟨a,e,Á⟩/\qY m b g st.d a e f (st.d.G c) w/\∀z,f z=st.d.fO c z:=by
 rcases i with rfl|rfl|rfl|rfl
 .exact⟨_,_,_,U,FI h.C h.r on A,λz=>rfl⟩
 .exact⟨_,_,_,U,FI h.C h.r on A,λz=>rfl⟩
 .exact⟨_,_,_,U,FJ h.C h.r on A,λz=>rfl⟩
 .exact⟨_,_,_,U,FJ h.C h.r on A,λz=>rfl⟩
def gS.rY(h:gS m b g O s st w)(on:st.d.r=Í)(a:st.d.C=Í)(p:ByteArray):gS m b g O s {st with d:=st.d.rY p} (w.setCell ⟨g.t,5,Á⟩<|Ä p)/\fc (λi=>m<=i) w (w.setCell ⟨g.t,5,Á⟩<|Ä p):=by have l:=h.C.r on;let⟨f,j,c⟩:=l.C a;have e:fc (λi=>i=g.t) w (w.setCell ⟨g.t,5,Á⟩<|Ä p):=qu c;exact⟨⟨h.S,h.a.r _ trivial,h.r.C e λx=>fq.G h.r c A x,h.M,h.I,h.C.rY on a p,h.c,h.N⟩,e.ff λi _ x=>by have:=l.S;omega⟩
def gS.abD(h:gS m b g O s st w)(on:st.d.r=Í)(a:st.C=c::zQ):gS m b g O (s.extract 1 s.size) {st with C:=zQ} (w.setCell ⟨b,0,Á⟩<|Ä<|s.extract 1 s.size):= h.Nq _ zQ (aoS s h.M) (by rw[aoR,h.I,a];rfl)<|Æ on
def gS.apL(h:gS m b g O s st w)(a:st.C=c::zQ):0<s.size:=by have:=FF s;rw[h.I,a]at this;simp at this;omega
end
section
variable{g:Gh}{s:ByteArray}{st:PS}{d:PD}
def apM(h:gS m b g O s st w)(a:st.r=0)(c:st.d.r=É->st.d.S=[])(f:st.d.I.length<=100000)(k:Int): Ö À 96 #[Ã<|Â ⟨b,0,Á⟩,Å È k] w λe u=>Ny m b (zl st k) e w u:=(aph h a c f k).mono λ_ _ q=>abA q
def apN(h:gS m b g O s st w)(a:st.r=0)(on:st.d.r=Í)(c:st.d.C=Í)(k:Int): Ö À 101 #[Ã<|Â ⟨b,0,Á⟩,Å È k] w λe u=>Ny m b (zm st k) e w u:=(ao9 h a on c k).mono λ_ _ q=>abA q
theorem apO{X:Ģ->Ë->Prop}{wr:Ë}{a:Ģ}(F:Fr b B (Å È k) a) (h:gS m b g O s st wr) (i:jB B k st) (P:B.size<=1200) (G:k<B.size) (n:0<st.r) (H:iT (B[k].toNat:Int)=Í) (Q:∀a u,Fr b B (Å È<|(k:Int)+1) a/\tg m b B k st wr u->K a u) (_hQ:∀a u,Fr b B (Å È k) a/\tj m b B k st wr u->X a u): ð À qZ (Exit.then K<|QQ X) a wr:=by
 obtain⟨c,rfl⟩:=F;unfold qw;conv=>arg 2;whnf
 have S:wr.cell? ⟨b,0,Á⟩=Â (Ä s):=h.r.r 0 _ U;have T:wr.cell? ⟨b,6,Á⟩=Â (Å È st.r):=h.r.r 6 _ U;have V:wr.cell? ⟨b,7,Á⟩=Â (Å È st.I):=h.r.r 7 _ U;have W:=h.r.I 0;have Y:=h.r.I 6;have f7:=h.r.I 7;have d0:=i.M;have d1:=i.r;have e0:=i.C;have e1:=i.I;let⟨q,on,_,_⟩:=i.e n;let⟨r,ao,f,t,j,v⟩:=h.apK on q;have I:wr.cell? ⟨b,5,Á⟩=Â (Ã O):=h.r.r 5 _ U;rw[(h.c n).2,t]at I;obtain⟨x,o⟩:∃x,st.d.G st.M=x:=⟨_,U⟩;have J:=j.C;rw[o]at J;have fm:=j.I;obtain⟨L,M⟩:∃y,wrap64 (x*10)=y:=⟨_,U⟩;obtain⟨l,N⟩:∃y,wrap64 (L+((B[k].toNat:Int)-48)%256)=y:=⟨_,U⟩;have Nz:¬r=b:=j.r;have NA:¬b=r:=λe=>j.r e.symm;have w:=h.Y (st.r-1) λ_=>h.c n;have p:=j.rd 6<|Å È<|st.r-1;have z:=w.G p l;have C:qW (st.d.G st.M) (B[k].toNat:Int)=l:=by rw[qW,Œ,Œ,o,M,N]
 have D:Jp st (B[k].toNat:Int)={st with r:=st.r-1,d:=f l}:=by rw[Jp,C,v]
 have E:Hid (qo B k st (B[k].toNat:Int)=Â {st with r:=st.r-1,d:=f l}/\tf m b {st with r:=st.r-1,d:=f l} wr (World.drew _)):= eZ ⟨by rw[apA n H,D],(((mT h 6 _).fj<|FK (st:=st) p _).C (fc.gG fh _) λ_ _ x=>x.elim),g,O,s,z.gG⟩;clear w p z C D j v t h i o q;go_wp2_with (go_at_call 94;refine(td _ _).mono ?_;rintro e u ⟨rfl,hw⟩;subst u);go_region;all_goals
  go_wp2;exact⟨pf,⟨G,_,E.out.1,E.out.2⟩⟩
theorem apP{X:Ģ->Ë->Prop}{wr:Ë}(x:Fr b B (Å È k) y) (i:gS m b g O s st wr) (j:jB B k st) (P:B.size<=1200) (l:k<B.size) (n:(0<st.r/\iT (B[k].toNat:Int)=É)\/st.r<=0) (o:s.size=0) (Q:∀y u,Fr b B (Å È<|(k:Int)+1) y/\tg m b B k st wr u->K y u) (z:∀y u,Fr b B (Å È k) y/\tj m b B k st wr u->X y u): ð À qZ (Exit.then K<|QQ X) y wr:=by
 obtain⟨f,rfl⟩:=x;unfold qw;conv=>arg 2;whnf
 have S:wr.cell? ⟨b,0,Á⟩=Â (Ä s):=i.r.r 0 _ U;have T:wr.cell? ⟨b,6,Á⟩=Â (Å È st.r):=i.r.r 6 _ U;have V:wr.cell? ⟨b,7,Á⟩=Â (Å È st.I):=i.r.r 7 _ U;have W:=i.r.I 0;have Y:=i.r.I 6;have f7:=i.r.I 7;have d0:=j.M;have d1:=j.r;have e0:=j.C;have e1:=j.I;have p:=eZ<|vY (B:=B) (k:=k)<|vW n;have r:=i.Y 0 λh=>absurd h A;have t:=eZ<|mT i 6<|Å È 0;have C:=j.d.C;have D:=j.d.I;have E:=eZ r;let⟨va,xu⟩:=vZ B[k];have rI:=Uy s o;have h:st.C=[]:=by rw[<-i.I];exact abb s o
 have F:st.d.r=Í:=by
  rcases i.N with q|q
  .exact q
  .rw[h]at q;cases q
 have v:=eZ<|apB (B:=B) (k:=k) (c:=(B[k].toNat:Int)) (st:={st with r:=0}) h;clear h i j;rcases n with⟨G,pF⟩|G;all_goals
  go_wp2_with (first|(go_at_call 94;refine(td _ _).mono ?_;rintro e u ⟨rfl,w⟩;subst u)|(go_at_call 95;refine(abB r U F D C _).mono ?_;rintro e u (⟨q,rfl,w⟩|⟨H,q,rfl,I,J,L,M,N⟩)))
  .subst w;exact z _ _ ⟨pf,⟨l,p.out.trans<|v.out.trans q,_,t.out,_,_,_,E.out⟩⟩
  .exact⟨pf,⟨l,H,p.out.trans<|v.out.trans q,t.out.fj I,J,L,M,N⟩⟩
theorem apQ{X:Ģ->Ë->Prop}{wr:Ë}(x:Fr b B (Å È k) y) (i:gS m b g O s st wr) (j:jB B k st) (N:B.size<=1200) (o:k<B.size) (p:(0<st.r/\iT (B[k].toNat:Int)=É)\/st.r<=0) (q:0<s.size) (l:((s[0]'q).toNat:Int)=82) (P:∀y u,Fr b B (Å È<|(k:Int)+1) y/\tg m b B k st wr u->K y u) (z:∀y u,Fr b B (Å È k) y/\tj m b B k st wr u->X y u): ð À qZ (Exit.then K<|QQ X) y wr:=by
 obtain⟨f,rfl⟩:=x;unfold qw;conv=>arg 2;whnf
 have Q:wr.cell? ⟨b,0,Á⟩=Â (Ä s):=i.r.r 0 _ U;have S:wr.cell? ⟨b,6,Á⟩=Â (Å È st.r):=i.r.r 6 _ U;have T:wr.cell? ⟨b,7,Á⟩=Â (Å È st.I):=i.r.r 7 _ U;have V:=i.r.I 0;have W:=i.r.I 6;have Y:=i.r.I 7;have d0:=j.M;have d1:=j.r;have e0:=j.C;have e1:=j.I;have r:=eZ<|vY (B:=B) (k:=k)<|vW p;have t:=i.Y 0 λh=>absurd h A;have v:=eZ<|mT i 6<|Å È 0;have Bc:=j.d.C;have Dw:=j.d.I;have C:=eZ t;let⟨va,xu⟩:=vZ B[k];have rI:=uF s Z;have zo:s.size<=10:=i.M;have D:=eZ (show st.C=(s[0].toNat:Int)::(gN s).tail by rw[<-i.I];exact vS s q);have w:=eZ<|apC (B:=B) (k:=k) (c:=(B[k].toNat:Int)) (st:={st with r:=0}) D.out l;have zp:((s[0].toNat:Int)==82)=Í:=by rw[l];rfl
 have E:=eZ λe=>(j.d.N e).1;clear l i j;rcases p with⟨F,pF⟩|F;all_goals
  go_wp2_with (first|(go_at_call 94;refine(td _ _).mono ?_;rintro e u ⟨rfl,h⟩;subst u)|(go_at_call 97;refine(ao1 _ _).mono ?_;rintro e u ⟨rfl,h⟩;subst u)|(go_at_call 96;refine(apM t U E.out (by show st.d.I.length<=100000;omega) _).mono ?_;rintro e u (⟨n,rfl,h⟩|⟨G,n,rfl,H,I,J,L,M⟩)))
  .subst h;exact z _ _ ⟨pf,⟨o,r.out.trans<|w.out.trans n,_,v.out,_,_,_,C.out⟩⟩
  .exact⟨pf,⟨o,G,r.out.trans<|w.out.trans n,v.out.fj H,I,J,L,M⟩⟩
end
section
variable{g:Gh}{s:ByteArray}{st:PS}{d:PD}
def apR{X:Ģ->Ë->Prop}{wr:Ë}(t:Fr b B (Å È k) y) (f:gS m b g O s st wr) (i:jB B k st) (L:B.size<=1200) (v:k<B.size) (l:(0<st.r/\iT (B[k].toNat:Int)=É)\/st.r<=0) (n:0<s.size) (j:((s[0]'n).toNat:Int)=66) (o:oN (B[k].toNat:Int)=Í) (M:∀y u,Fr b B (Å È<|(k:Int)+1) y/\tg m b B k st wr u->K y u) (_hQ:∀y u,Fr b B (Å È k) y/\tj m b B k st wr u->X y u): ð À qZ (Exit.then K<|QQ X) y wr:=by
 obtain⟨c,rfl⟩:=t;unfold qw;conv=>arg 2;whnf
 have N:wr.cell? ⟨b,0,Á⟩=Â (Ä s):=f.r.r 0 _ U;have P:wr.cell? ⟨b,6,Á⟩=Â (Å È st.r):=f.r.r 6 _ U;have Q:wr.cell? ⟨b,7,Á⟩=Â (Å È st.I):=f.r.r 7 _ U;have S:=f.r.I 0;have T:=f.r.I 6;have V:=f.r.I 7;have W:=i.M;have Y:=i.r;have e0:=i.C;have e1:=i.I;have w:=eZ<|vY (B:=B) (k:=k)<|vW l;have p:=f.Y 0 λh=>absurd h A;have x:=eZ<|mT f 6<|Å È 0;have Bc:=i.d.C;have Dw:=i.d.I;have HH1:=eZ p;let⟨z,C⟩:=vZ B[k];have rI:=uF s Z;have zo:s.size<=10:=f.M;have h:=eZ (show st.C=(s[0].toNat:Int)::(gN s).tail by rw[<-f.I];exact vS s n);have r:st.d.r=Í:=by
  rcases f.N with q|q
  .exact q
  .rw[h.out]at q;injection q with q;omega
 have q:=eZ<|apD (B:=B) (k:=k) (st:={st with r:=0}) h.out j o;have zp:((s[0].toNat:Int)==82)=É:=by rw[j];rfl
 have FO:((s[0].toNat:Int)==66)=Í:=by rw[j];rfl
 clear j f i;rcases l with⟨D,pF⟩|D;all_goals
  go_wp2_with (first|(go_at_call 94;refine(td _ _).mono ?_;rintro e u ⟨rfl,E⟩;subst u)|(go_at_call 98;refine(Uj _ z C _).mono ?_;rintro e u ⟨rfl,E⟩;subst u)|(go_at_call 99;refine(abm p U r<|by show st.d.Y.length<=100000;omega).mono ?_;rintro e u ⟨rfl,E,G,H,I,F⟩)|(go_at_call 100;refine(abz F U r _ _<|show mF 120 _=Í from o).mono ?_;rintro e w'' ⟨rfl,F,G,H,I,J⟩))
  exact⟨pf,⟨v,_,w.out.trans q.out,x.out.fj<|E.fj F,G,H,I,J⟩⟩
def apS{X:Ģ->Ë->Prop}{wr:Ë}(x:Fr b B (Å È k) y) (f:gS m b g O s st wr) (i:jB B k st) (T:B.size<=1200) (l:k<B.size) (n:(0<st.r/\iT (B[k].toNat:Int)=É)\/st.r<=0) (o:0<s.size) (j:((s[0]'o).toNat:Int)=66) (z:oN (B[k].toNat:Int)=É) (V:∀y u,Fr b B (Å È<|(k:Int)+1) y/\tg m b B k st wr u->K y u) (C:∀y u,Fr b B (Å È k) y/\tj m b B k st wr u->X y u): ð À qZ (Exit.then K<|QQ X) y wr:=by
 obtain⟨c,rfl⟩:=x;unfold qw;conv=>arg 2;whnf
 have W:wr.cell? ⟨b,0,Á⟩=Â (Ä s):=f.r.r 0 _ U;have Y:wr.cell? ⟨b,6,Á⟩=Â (Å È st.r):=f.r.r 6 _ U;have c7:wr.cell? ⟨b,7,Á⟩=Â (Å È st.I):=f.r.r 7 _ U;have f0:=f.r.I 0;have f6:=f.r.I 6;have f7:=f.r.I 7;have d0:=i.M;have d1:=i.r;have e0:=i.C;have e1:=i.I;have p:=eZ<|vY (B:=B) (k:=k)<|vW n;have r:=f.Y 0 λh=>absurd h A;have t:=eZ<|mT f 6<|Å È 0;have D:=i.d.C;have E:=i.d.I;have F:=eZ r;let⟨G,H⟩:=vZ B[k];have rI:=uF s Z;have zo:s.size<=10:=f.M;have v:=eZ (show st.C=(s[0].toNat:Int)::(gN s).tail by rw[<-f.I];exact vS s o);have I:st.d.r=Í:=by
  rcases f.N with q|q
  .exact q
  .rw[v.out]at q;injection q with q;omega
 have w:=eZ<|apE (B:=B) (k:=k) (st:={st with r:=0}) v.out j z;have zp:((s[0].toNat:Int)==82)=É:=by rw[j];rfl
 have FO:((s[0].toNat:Int)==66)=Í:=by rw[j];rfl
 clear j f i;rcases n with⟨J,pF⟩|J;all_goals
  go_wp2_with (first|(go_at_call 94;refine(td _ _).mono ?_;rintro e u ⟨rfl,h⟩;subst u)|(go_at_call 98;refine(Uj _ G H _).mono ?_;rintro e u ⟨rfl,h⟩;subst u)|(go_at_call 95;refine(abB r U I E D _).mono ?_;rintro e u (⟨q,rfl,h⟩|⟨L,q,rfl,M,N,P,Q,S⟩)))
  .subst h;exact C _ _ ⟨pf,⟨l,p.out.trans<|w.out.trans q,_,t.out,_,_,_,F.out⟩⟩
  .exact⟨pf,⟨l,L,p.out.trans<|w.out.trans q,t.out.fj M,N,P,Q,S⟩⟩
theorem apT{X:Ģ->Ë->Prop}{wr:Ë}(z:Fr b B (Å È k) y) (i:gS m b g O s st wr) (j:jB B k st) (P:B.size<=1200) (o:k<B.size) (p:(0<st.r/\iT (B[k].toNat:Int)=É)\/st.r<=0) (r:0<s.size) (l:((s[0]'r).toNat:Int)=84) (Q:∀y u,Fr b B (Å È<|(k:Int)+1) y/\tg m b B k st wr u->K y u) (C:∀y u,Fr b B (Å È k) y/\tj m b B k st wr u->X y u): ð À qZ (Exit.then K<|QQ X) y wr:=by
 obtain⟨f,rfl⟩:=z;unfold qw;conv=>arg 2;whnf
 have S:wr.cell? ⟨b,0,Á⟩=Â (Ä s):=i.r.r 0 _ U;have T:wr.cell? ⟨b,6,Á⟩=Â (Å È st.r):=i.r.r 6 _ U;have V:wr.cell? ⟨b,7,Á⟩=Â (Å È st.I):=i.r.r 7 _ U;have W:=i.r.I 0;have Y:=i.r.I 6;have f7:=i.r.I 7;have d0:=j.M;have d1:=j.r;have e0:=j.C;have e1:=j.I;have t:=eZ<|vY (B:=B) (k:=k)<|vW p;have v:=i.Y 0 λh=>absurd h A;have w:=eZ<|mT i 6<|Å È 0;have Bc:=j.d.C;have Dw:=j.d.I;have D:=eZ v;let⟨va,xu⟩:=vZ B[k];have rI:=uF s Z;have zo:s.size<=10:=i.M;have h:=eZ (show st.C=(s[0].toNat:Int)::(gN s).tail by rw[<-i.I];exact vS s r);have E:st.d.r=Í:=by
  rcases i.N with q|q
  .exact q
  .rw[h.out]at q;injection q with q;omega
 have F:st.d.C=Í:=j.N (by rw[h.out,l];simp);have x:=eZ<|apF (B:=B) (k:=k) (c:=(B[k].toNat:Int)) (st:={st with r:=0}) h.out l;have zp:((s[0].toNat:Int)==82)=É:=by rw[l];rfl
 have FO:((s[0].toNat:Int)==66)=É:=by rw[l];rfl
 have FP:((s[0].toNat:Int)==84)=Í:=by rw[l];rfl
 clear l i j;rcases p with⟨G,pF⟩|G;all_goals
  go_wp2_with (first|(go_at_call 94;refine(td _ _).mono ?_;rintro e u ⟨rfl,q⟩;subst u)|(go_at_call 102;refine(ao0 _ _).mono ?_;rintro e u ⟨rfl,q⟩;subst u)|(go_at_call 101;refine(apN v U E F _).mono ?_;rintro e u (⟨n,rfl,q⟩|⟨H,n,rfl,I,J,L,M,N⟩)))
  .subst q;exact C _ _ ⟨pf,⟨o,t.out.trans<|x.out.trans n,_,w.out,_,_,_,D.out⟩⟩
  .exact⟨pf,⟨o,H,t.out.trans<|x.out.trans n,w.out.fj I,J,L,M,N⟩⟩
end
section
variable{g:Gh}{s:ByteArray}{st:PS}{d:PD}
theorem apU{X:Ģ->Ë->Prop}{wr:Ë}(M:Fr b B (Å È k) y) (i:gS m b g O s st wr) (j:jB B k st) (hB:B.size<=1200) (N:k<B.size) (D:(0<st.r/\iT (B[k].toNat:Int)=É)\/st.r<=0) (E:0<s.size) (l:((s[0]'E).toNat:Int)=80) (r:(B[k].toNat:Int)=125) (hK:∀y u,Fr b B (Å È<|(k:Int)+1) y/\tg m b B k st wr u->K y u) (_hQ:∀y u,Fr b B (Å È k) y/\tj m b B k st wr u->X y u): ð À qZ (Exit.then K<|QQ X) y wr:=by
 obtain⟨f,rfl⟩:=M;unfold qw;conv=>arg 2;whnf
 have c0:wr.cell? ⟨b,0,Á⟩=Â (Ä s):=i.r.r 0 _ U;have c6:wr.cell? ⟨b,6,Á⟩=Â (Å È st.r):=i.r.r 6 _ U;have P:wr.cell? ⟨b,7,Á⟩=Â (Å È st.I):=i.r.r 7 _ U;have f0:=i.r.I 0;have f6:=i.r.I 6;have f7:=i.r.I 7;have d0:=j.M;have d1:=j.r;have Q:=j.C;have S:=j.I;have F:=eZ<|vY (B:=B) (k:=k)<|vW D;have v:=i.Y 0 λh=>absurd h A;have G:=eZ<|mT i 6<|Å È 0;have Bc:=j.d.C;have Dw:=j.d.I;have T:=eZ v;let⟨va,xu⟩:=vZ B[k];have rI:=uF s Z;have zo:s.size<=10:=i.M;have h:=eZ (show st.C=(s[0].toNat:Int)::(gN s).tail by rw[<-i.I];exact vS s E);have w:st.d.r=Í:=by
  rcases i.N with q|q
  .exact q
  .rw[h.out]at q;injection q with q;omega
 have z:st.d.C=Í:=j.N (by rw[h.out,l];simp);have V:wr.cell? ⟨b,3,Á⟩=Â (Ã<|g.Y st.d):=i.r.r 3 _ U;rw[Jr z]at V;let⟨W,H,q⟩:=(i.C.r w).C z;have Uz:wr.cell? ⟨g.t,5,Á⟩=Â (Ä st.d.N.p):=q.r 5 _ (by have:=Dt st.d.N.c<|Ä st.d.N.p;rwa[H]at this);have UA:=q.I 5;have NA:¬b=g.t:=λe=>fq.G q i.r A e.symm;have Nz:¬g.t=b:=fq.G q i.r A;let⟨Y,_⟩:=j.Y (by rw[h.out,l];simp);have zp:((s[0].toNat:Int)==82)=É:=by rw[l];rfl
 have FO:((s[0].toNat:Int)==66)=É:=by rw[l];rfl
 have FP:((s[0].toNat:Int)==84)=É:=by rw[l];rfl
 have Jv:((s[0].toNat:Int)==80)=Í:=by rw[l];rfl
 clear W H q;have I:=eZ<|apG (B:=B) (k:=k) (st:={st with r:=0}) h.out l r;have UB:((B[k].toNat:Int) !=125)=É:=by rw[r];rfl
 obtain⟨n,J⟩:∃t:Nat,st.I=(t:Int):=⟨st.I.toNat,Z⟩;have o:=v.rY w z<|B.extract (k-n) k;have L:=o.1.abD w h.out;have C:=eZ (Ì (show qo B k st (B[k].toNat:Int)=Â {({st with r:=0}:PS)with C:=(gN s).tail,d:=st.d.rY (B.extract (k-n) k)} by rw[F.out,I.out,show({st with r:=0}:PS).I.toNat=n by show st.I.toNat=n;omega])<|Ì ((G.out.fj o.2).fj<|mT o.1 0<|Ä<|s.extract 1 s.size) L);rw[J]at P Q S Y;clear r l i j o L J I F G T v;rcases D with⟨sP,pF⟩|sP;all_goals
  go_wp2_with (first|(go_at_call 94;refine(td _ _).mono ?_;rintro e u ⟨rfl,x⟩;subst u))
  go_region
  all_goals
   go_wp2;exact⟨pf,⟨N,_,C.out.1,C.out.2.1.C (fc.gG fh _) λ_ _ x=>x.elim,_,_,_,C.out.2.2.gG⟩⟩
theorem apV{X:Ģ->Ë->Prop}{wr:Ë}(z:Fr b B (Å È k) y) (i:gS m b g O s st wr) (j:jB B k st) (P:B.size<=1200) (C:k<B.size) (v:(0<st.r/\iT (B[k].toNat:Int)=É)\/st.r<=0) (w:0<s.size) (l:((s[0]'w).toNat:Int)=80) (o:¬(B[k].toNat:Int)=125) (r:st.I=40) (_hK:∀y u,Fr b B (Å È<|(k:Int)+1) y/\tg m b B k st wr u->K y u) (D:∀y u,Fr b B (Å È k) y/\tj m b B k st wr u->X y u): ð À qZ (Exit.then K<|QQ X) y wr:=by
 obtain⟨f,rfl⟩:=z;unfold qw;conv=>arg 2;whnf
 have Q:wr.cell? ⟨b,0,Á⟩=Â (Ä s):=i.r.r 0 _ U;have S:wr.cell? ⟨b,6,Á⟩=Â (Å È st.r):=i.r.r 6 _ U;have T:wr.cell? ⟨b,7,Á⟩=Â (Å È st.I):=i.r.r 7 _ U;have V:=i.r.I 0;have W:=i.r.I 6;have Y:=i.r.I 7;have d0:=j.M;have d1:=j.r;have e0:=j.C;have e1:=j.I;have E:=eZ<|vY (B:=B) (k:=k)<|vW v;have F:=i.Y 0 λh=>absurd h A;have G:=eZ<|mT i 6<|Å È 0;have Bc:=j.d.C;have Dw:=j.d.I;have H:=eZ F;let⟨va,xu⟩:=vZ B[k];have rI:=uF s Z;have zo:s.size<=10:=i.M;have n:=eZ (show st.C=(s[0].toNat:Int)::(gN s).tail by rw[<-i.I];exact vS s w);have I:st.d.r=Í:=by
  rcases i.N with q|q
  .exact q
  .rw[n.out]at q;injection q with q;omega
 have q:st.d.C=Í:=j.N (by rw[n.out,l];simp);have J:wr.cell? ⟨b,3,Á⟩=Â (Ã<|g.Y st.d):=i.r.r 3 _ U;rw[Jr q]at J;let⟨L,x,h⟩:=(i.C.r I).C q;have Uz:wr.cell? ⟨g.t,5,Á⟩=Â (Ä st.d.N.p):=h.r 5 _ (by have:=Dt st.d.N.c<|Ä st.d.N.p;rwa[x]at this);have UA:=h.I 5;have NA:¬b=g.t:=λe=>fq.G h i.r A e.symm;have Nz:¬g.t=b:=fq.G h i.r A;let⟨hru,_⟩:=j.Y (by rw[n.out,l];simp);have zp:((s[0].toNat:Int)==82)=É:=by rw[l];rfl
 have FO:((s[0].toNat:Int)==66)=É:=by rw[l];rfl
 have FP:((s[0].toNat:Int)==84)=É:=by rw[l];rfl
 have Jv:((s[0].toNat:Int)==80)=Í:=by rw[l];rfl
 clear L x h;have UB:((B[k].toNat:Int) !=125)=Í:=by rwa[bne_iff_ne]
 have M:=eZ<|abC (B:=B) (k:=k) (st:={st with r:=0}) n.out l o<|Æ r;have abE:(st.I==40)=Í:=by rw[r];rfl
 clear r o l i j;rcases v with⟨N,pF⟩|N;all_goals
  go_wp2_with (first|(go_at_call 94;refine(td _ _).mono ?_;rintro e u ⟨rfl,hw⟩;subst u))
  exact D _ _ ⟨pf,⟨C,E.out.trans M.out,_,G.out,_,_,_,H.out⟩⟩
theorem apW{X:Ģ->Ë->Prop}{wr:Ë}(D:Fr b B (Å È k) y) (i:gS m b g O s st wr) (j:jB B k st) (Q:B.size<=1200) (E:k<B.size) (v:(0<st.r/\iT (B[k].toNat:Int)=É)\/st.r<=0) (w:0<s.size) (l:((s[0]'w).toNat:Int)=80) (o:¬(B[k].toNat:Int)=125) (r:¬st.I=40) (x:¬mD (B[k].toNat:Int)=0) (S:∀y u,Fr b B (Å È<|(k:Int)+1) y/\tg m b B k st wr u->K y u) (_hQ:∀y u,Fr b B (Å È k) y/\tj m b B k st wr u->X y u): ð À qZ (Exit.then K<|QQ X) y wr:=by
 obtain⟨f,rfl⟩:=D;unfold qw;conv=>arg 2;whnf
 have T:wr.cell? ⟨b,0,Á⟩=Â (Ä s):=i.r.r 0 _ U;have V:wr.cell? ⟨b,6,Á⟩=Â (Å È st.r):=i.r.r 6 _ U;have W:wr.cell? ⟨b,7,Á⟩=Â (Å È st.I):=i.r.r 7 _ U;have Y:=i.r.I 0;have f6:=i.r.I 6;have f7:=i.r.I 7;have d0:=j.M;have d1:=j.r;have e0:=j.C;have e1:=j.I;have F:=eZ<|vY (B:=B) (k:=k)<|vW v;have G:=i.Y 0 λh=>absurd h A;have H:=eZ<|mT i 6<|Å È 0;have Bc:=j.d.C;have Dw:=j.d.I;have z:=eZ G;let⟨va,xu⟩:=vZ B[k];have rI:=uF s Z;have zo:s.size<=10:=i.M;have n:=eZ (show st.C=(s[0].toNat:Int)::(gN s).tail by rw[<-i.I];exact vS s w);have I:st.d.r=Í:=by
  rcases i.N with q|q
  .exact q
  .rw[n.out]at q;injection q with q;omega
 have q:st.d.C=Í:=j.N (by rw[n.out,l];simp);have J:wr.cell? ⟨b,3,Á⟩=Â (Ã<|g.Y st.d):=i.r.r 3 _ U;rw[Jr q]at J;let⟨L,C,h⟩:=(i.C.r I).C q;have Uz:wr.cell? ⟨g.t,5,Á⟩=Â (Ä st.d.N.p):=h.r 5 _ (by have:=Dt st.d.N.c<|Ä st.d.N.p;rwa[C]at this);have UA:=h.I 5;have NA:¬b=g.t:=λe=>fq.G h i.r A e.symm;have Nz:¬g.t=b:=fq.G h i.r A;let⟨hru,_⟩:=j.Y (by rw[n.out,l];simp);have zp:((s[0].toNat:Int)==82)=É:=by rw[l];rfl
 have FO:((s[0].toNat:Int)==66)=É:=by rw[l];rfl
 have FP:((s[0].toNat:Int)==84)=É:=by rw[l];rfl
 have Jv:((s[0].toNat:Int)==80)=Í:=by rw[l];rfl
 clear L C h;have UB:((B[k].toNat:Int) !=125)=Í:=by rwa[bne_iff_ne]
 have M:=eZ<|apH (B:=B) (k:=k) (st:={st with r:=0}) n.out l o r x;have abE:(st.I==40)=É:=by rwa[beq_eq_false_iff_ne]
 have Ay:((mD (B[k].toNat:Int):Int)==0)=É:=by rw[beq_eq_false_iff_ne];omega
 clear r o l i j x;rcases v with⟨N,pF⟩|N;all_goals
  go_wp2_with (first|(go_at_call 94;refine(td _ _).mono ?_;rintro e u ⟨rfl,P⟩;subst u)|(go_at_call 103;refine(U_ _ _).mono ?_;rintro e u ⟨rfl,P⟩;subst u))
  exact⟨pf,⟨E,_,F.out.trans M.out,H.out.fj<|mT z.out 7 _,_,_,_,z.out.abj _⟩⟩
theorem apX{X:Ģ->Ë->Prop}{wr:Ë}(C:Fr b B (Å È k) y) (i:gS m b g O s st wr) (j:jB B k st) (S:B.size<=1200) (D:k<B.size) (v:(0<st.r/\iT (B[k].toNat:Int)=É)\/st.r<=0) (w:0<s.size) (l:((s[0]'w).toNat:Int)=80) (o:¬(B[k].toNat:Int)=125) (x:¬st.I=40) (r:mD (B[k].toNat:Int)=0) (_hK:∀y u,Fr b B (Å È<|(k:Int)+1) y/\tg m b B k st wr u->K y u) (E:∀y u,Fr b B (Å È k) y/\tj m b B k st wr u->X y u): ð À qZ (Exit.then K<|QQ X) y wr:=by
 obtain⟨f,rfl⟩:=C;unfold qw;conv=>arg 2;whnf
 have T:wr.cell? ⟨b,0,Á⟩=Â (Ä s):=i.r.r 0 _ U;have V:wr.cell? ⟨b,6,Á⟩=Â (Å È st.r):=i.r.r 6 _ U;have W:wr.cell? ⟨b,7,Á⟩=Â (Å È st.I):=i.r.r 7 _ U;have Y:=i.r.I 0;have f6:=i.r.I 6;have f7:=i.r.I 7;have d0:=j.M;have d1:=j.r;have e0:=j.C;have e1:=j.I;have F:=eZ<|vY (B:=B) (k:=k)<|vW v;have G:=i.Y 0 λh=>absurd h A;have H:=eZ<|mT i 6<|Å È 0;have Bc:=j.d.C;have Dw:=j.d.I;have I:=eZ G;let⟨va,xu⟩:=vZ B[k];have rI:=uF s Z;have zo:s.size<=10:=i.M;have n:=eZ (show st.C=(s[0].toNat:Int)::(gN s).tail by rw[<-i.I];exact vS s w);have J:st.d.r=Í:=by
  rcases i.N with q|q
  .exact q
  .rw[n.out]at q;injection q with q;omega
 have q:st.d.C=Í:=j.N (by rw[n.out,l];simp);have L:wr.cell? ⟨b,3,Á⟩=Â (Ã<|g.Y st.d):=i.r.r 3 _ U;rw[Jr q]at L;let⟨M,z,h⟩:=(i.C.r J).C q;have Uz:wr.cell? ⟨g.t,5,Á⟩=Â (Ä st.d.N.p):=h.r 5 _ (by have:=Dt st.d.N.c<|Ä st.d.N.p;rwa[z]at this);have UA:=h.I 5;have NA:¬b=g.t:=λe=>fq.G h i.r A e.symm;have Nz:¬g.t=b:=fq.G h i.r A;let⟨hru,_⟩:=j.Y (by rw[n.out,l];simp);have zp:((s[0].toNat:Int)==82)=É:=by rw[l];rfl
 have FO:((s[0].toNat:Int)==66)=É:=by rw[l];rfl
 have FP:((s[0].toNat:Int)==84)=É:=by rw[l];rfl
 have Jv:((s[0].toNat:Int)==80)=Í:=by rw[l];rfl
 clear M z h;have UB:((B[k].toNat:Int) !=125)=Í:=by rwa[bne_iff_ne]
 have N:=eZ<|abC (B:=B) (k:=k) (st:={st with r:=0}) n.out l o<|Î r;have abE:(st.I==40)=É:=by rwa[beq_eq_false_iff_ne]
 have Ay:((mD (B[k].toNat:Int):Int)==0)=Í:=by rw[r];rfl
 clear x o l i j r;rcases v with⟨P,pF⟩|P;all_goals
  go_wp2_with (first|(go_at_call 94;refine(td _ _).mono ?_;rintro e u ⟨rfl,Q⟩;subst u)|(go_at_call 103;refine(U_ _ _).mono ?_;rintro e u ⟨rfl,Q⟩;subst u))
  exact E _ _ ⟨pf,⟨D,F.out.trans N.out,_,H.out,_,_,_,I.out⟩⟩
end
section
variable{g:Gh}{s:ByteArray}{st:PS}{d:PD}
def apY{X:Ģ->Ë->Prop}{wr:Ë}(C:Fr b B (Å È k) y) (f:gS m b g O s st wr) (i:jB B k st) (P:B.size<=1200) (D:k<B.size) (v:(0<st.r/\iT (B[k].toNat:Int)=É)\/st.r<=0) (j:0<s.size) (n:¬((s[0]'j).toNat:Int)=82) (o:¬((s[0]'j).toNat:Int)=66) (p:¬((s[0]'j).toNat:Int)=84) (r:¬((s[0]'j).toNat:Int)=80) (w:mF ((s[0]'j).toNat:Int) (B[k].toNat:Int)=Í) (Q:∀y u,Fr b B (Å È<|(k:Int)+1) y/\tg m b B k st wr u->K y u) (_hQ:∀y u,Fr b B (Å È k) y/\tj m b B k st wr u->X y u): ð À qZ (Exit.then K<|QQ X) y wr:=by
 obtain⟨c,rfl⟩:=C;unfold qw;conv=>arg 2;whnf
 have S:wr.cell? ⟨b,0,Á⟩=Â (Ä s):=f.r.r 0 _ U;have T:wr.cell? ⟨b,6,Á⟩=Â (Å È st.r):=f.r.r 6 _ U;have V:wr.cell? ⟨b,7,Á⟩=Â (Å È st.I):=f.r.r 7 _ U;have W:=f.r.I 0;have Y:=f.r.I 6;have f7:=f.r.I 7;have d0:=i.M;have d1:=i.r;have e0:=i.C;have e1:=i.I;have E:=eZ<|vY (B:=B) (k:=k)<|vW v;have F:=f.Y 0 λh=>absurd h A;have G:=eZ<|mT f 6<|Å È 0;have Bc:=i.d.C;let⟨H,I⟩:=vZ B[k];have rI:=uF s Z;have zo:s.size<=10:=f.M;have l:=eZ (show st.C=(s[0].toNat:Int)::(gN s).tail by rw[<-f.I];exact vS s j);have x:st.d.r=Í:=by
  rcases f.N with q|q
  .exact q
  .rw[l.out]at q;injection q with q;omega
 have zp:((s[0].toNat:Int)==82)=É:=by rwa[beq_eq_false_iff_ne]
 have apZ:((s[0].toNat:Int)==66)=É:=by rwa[beq_eq_false_iff_ne]
 have FP:((s[0].toNat:Int)==84)=É:=by rwa[beq_eq_false_iff_ne]
 have Jv:((s[0].toNat:Int)==80)=É:=by rwa[beq_eq_false_iff_ne]
 have J:=eZ<|apI (B:=B) (k:=k) (st:={st with r:=0}) l.out n o p r w;have L:=eZ w;clear n o p r f i;rcases v with⟨M,pF⟩|M;all_goals
  go_wp2_with (first|(go_at_call 94;refine(td _ _).mono ?_;rintro e u ⟨rfl,h⟩;subst u)|(go_at_call 104;refine(abd _ _ H I _).mono ?_;rintro e u ⟨rfl,h⟩;subst u)|(go_at_call 100;refine(abz F U x _ _ L.out).mono ?_;rintro e N ⟨rfl,z,g',nm',q,h⟩;have k0:N.cell? ⟨b,0,Á⟩=Â (Ä q):=h.r.r 0 _ U;have kf0:=h.r.I 0;have qa:0<q.size:=h.apL l.out;have auE:q.size<=10:=h.M;have t:=eZ<|Ì z h;clear z h))
  exact⟨pf,⟨D,_,E.out.trans J.out,G.out.fj<|t.out.1.fj<|mT t.out.2 0 _,_,_,_,t.out.2.abD ((Uu _ _ _).1.trans x) l.out⟩⟩
def ap0{X:Ģ->Ë->Prop}{wr:Ë}(t:Fr b B (Å È k) y) (f:gS m b g O s st wr) (i:jB B k st) (J:B.size<=1200) (v:k<B.size) (r:(0<st.r/\iT (B[k].toNat:Int)=É)\/st.r<=0) (j:0<s.size) (l:¬((s[0]'j).toNat:Int)=82) (n:¬((s[0]'j).toNat:Int)=66) (o:¬((s[0]'j).toNat:Int)=84) (p:¬((s[0]'j).toNat:Int)=80) (w:mF ((s[0]'j).toNat:Int) (B[k].toNat:Int)=É) (_hK:∀y u,Fr b B (Å È<|(k:Int)+1) y/\tg m b B k st wr u->K y u) (x:∀y u,Fr b B (Å È k) y/\tj m b B k st wr u->X y u): ð À qZ (Exit.then K<|QQ X) y wr:=by
 obtain⟨c,rfl⟩:=t;unfold qw;conv=>arg 2;whnf
 have L:wr.cell? ⟨b,0,Á⟩=Â (Ä s):=f.r.r 0 _ U;have M:wr.cell? ⟨b,6,Á⟩=Â (Å È st.r):=f.r.r 6 _ U;have N:wr.cell? ⟨b,7,Á⟩=Â (Å È st.I):=f.r.r 7 _ U;have P:=f.r.I 0;have Q:=f.r.I 6;have S:=f.r.I 7;have T:=i.M;have V:=i.r;have W:=i.C;have Y:=i.I;have z:=eZ<|vY (B:=B) (k:=k)<|vW r;have C:=f.Y 0 λh=>absurd h A;have D:=eZ<|mT f 6<|Å È 0;have Bc:=i.d.C;have Dw:=i.d.I;have E:=eZ C;let⟨F,G⟩:=vZ B[k];have rI:=uF s Z;have zo:s.size<=10:=f.M;have h:=eZ (show st.C=(s[0].toNat:Int)::(gN s).tail by rw[<-f.I];exact vS s j);have on:st.d.r=Í:=by
  rcases f.N with q|q
  .exact q
  .rw[h.out]at q;injection q with q;omega
 have zp:((s[0].toNat:Int)==82)=É:=by rwa[beq_eq_false_iff_ne]
 have apZ:((s[0].toNat:Int)==66)=É:=by rwa[beq_eq_false_iff_ne]
 have FP:((s[0].toNat:Int)==84)=É:=by rwa[beq_eq_false_iff_ne]
 have Jv:((s[0].toNat:Int)==80)=É:=by rwa[beq_eq_false_iff_ne]
 have q:=eZ<|apJ (B:=B) (k:=k) (st:={st with r:=0}) h.out l n o p w;clear l n o p f i;rcases r with⟨H,pF⟩|H;all_goals
  go_wp2_with (first|(go_at_call 94;refine(td _ _).mono ?_;rintro e u ⟨rfl,I⟩;subst u)|(go_at_call 104;refine(abd _ _ F G _).mono ?_;rintro e u ⟨rfl,I⟩;subst u))
  exact x _ _ ⟨pf,⟨v,z.out.trans q.out,_,D.out,_,_,_,E.out⟩⟩
end
section
variable{g:Gh}{s:ByteArray}{c:PS}{d:PD}
theorem ap1{X:Ģ->Ë->Prop}{wr:Ë}(d:Fr b B (Å È k) y) (e:gS m b g O s c wr) (f:jB B k c) (h:B.size<=1200) (i:k<B.size) (j:∀y v,Fr b B (Å È<|(k:Int)+1) y/\tg m b B k c wr v->K y v) (l:∀y v,Fr b B (Å È k) y/\tj m b B k c wr v->X y v): ð À qZ (Exit.then K<|QQ X) y wr:=by
 by_cases w:0<c.r/\iT (B[k].toNat:Int)=Í
 .grind [apO]
 have n:(0<c.r/\iT (B[k].toNat:Int)=É)\/c.r<=0:=by grind
 by_cases x:s.size=0
 .grind [apP]
 have o:0<s.size:=Z
 by_cases q:(s[0].toNat:Int)=82
 .grind [apQ]
 by_cases p:(s[0].toNat:Int)=66
 .cases r:oN (B[k].toNat:Int)with
  |true=>exact apR d e f h i n o p r j l
  |false=>exact apS d e f h i n o p r j l
 by_cases r:(s[0].toNat:Int)=84
 .grind [apT]
 by_cases t:(s[0].toNat:Int)=80
 .grind [apU,apV,apX,apW]
 cases u:mF (s[0].toNat:Int) (B[k].toNat:Int)with
 |true=>exact apY d e f h i n o q p r t u j l
 |false=>exact ap0 d e f h i n o q p r t u j l
def ap2{X:Ģ->Ë->Prop}{wr:Ë}(c:Fr b B (Å È k) y)(_hB:B.size<=1200)(e:¬k<B.size)(_hk:k<=B.size) (d:∀y v,Fr b B (Å È k) y/\v=wr->X y v): ð À qZ (Exit.then K<|QQ X) y wr:=by
 obtain⟨u,rfl⟩:=c;unfold qw;conv=>arg 2;whnf
 go_wp2;exact d _ _ ⟨pf,U⟩
def oa(B:ByteArray):Nat×PS:=qp B B.size 0 s6
def RI(m b:Nat)(B:ByteArray)(w:Ë)(a:Ģ)(wr:Ë):Prop:=
 ∃(k:Nat) (g:Gh) (O:Option ù) (s:ByteArray) (c:PS),k<=B.size/\Fr b B (Å È k) a/\gS m b g O s c wr/\fc (λi=>m<=i) w wr/\jB B k c/\oa B=qp B (B.size-k) k c
def Rmu(B:ByteArray)(a:Ģ)(_:Ë):Nat:=B.size-(intOf<|a.tmps.getD 5 Ř).toNat
def RX(m b:Nat)(B:ByteArray)(w:Ë)(a:Ģ)(wr:Ë):Prop:=
 ∃(k:Nat) (c:PS),k<=B.size/\Fr b B (Å È k) a/\tf m b c w wr/\(oa B).1=k/\(k=B.size->(oa B).2=c)
def abF{i:Int}{w:Ë}(h:Fr b B (Å È i) y):Rmu B y w=B.size-i.toNat:=by obtain⟨u,rfl⟩:=h;rfl
def ap3{a:PS}(b:k<B.size)(d:qo B k c (B[k].toNat:Int)=Â a):qp B (B.size-k) k c=qp B (B.size-(k+1)) (k+1) a:=by rw[show B.size-k=(B.size-(k+1))+1 by omega,qp,dif_pos b,d]
def ap4(a:k<B.size)(b:qo B k c (B[k].toNat:Int)=Á):qp B (B.size-k) k c=(k,c):=by rw[show B.size-k=(B.size-(k+1))+1 by omega,qp,dif_pos a,b]
def ap5(f:Fr b B (Å È 0) y)(h:gS m b g O s s6 w)(q:B.size<=1200): ð À (θ qZ) (QQ<|RX m b B w) y w:=by
 apply wp_loop (RI m b B w) (Rmu B) ⟨0,g,O,s,s6,Ø _,f,h,fc.fV _ _,Ux B,U⟩;rintro y wr ⟨k,g,O,s,c,l,f,r,n,t,o⟩;by_cases i:k<B.size
 .refine ap1 f r t q i ?_ ?_
  .rintro u v ⟨d,x,e,j,p,z,C,D,E⟩;refine⟨⟨k+1,z,C,D,e,Z,by simpa using d,E,n.fj p,abv t i j,o.trans<|ap3 i j⟩,?_⟩;rw[abF d,abF (w:=wr) f];omega
  .rintro u v ⟨d,x,j,z,p,C⟩;have:=o.trans<|ap4 i j;exact⟨k,z,l,d,⟨n.fj p,C⟩,by rw[this],λe=>by omega⟩
 .apply ap2 f q i l;rintro u v ⟨d,rfl⟩;have:oa B=(k,c):=by rw[o,show B.size-k=0 by omega];rfl
  exact⟨k,c,l,d,⟨n,g,O,s,r⟩,by rw[this],λ_=>by rw[this]⟩
def ap6(h:gS m b g O s s6 w)(d:B.size<=1200): Ö À 61 #[Ã<|Â ⟨b,0,Á⟩,Ä B] w λe u=>
  ∃(k:Nat) (c:PS),k<=B.size/\e=Ê (Å È k)/\tf m b c w u/\(oa B).1=k/\(k=B.size->(oa B).2=c):=by
 go_enter Tryz.func61,Tryz.ntmps61;go_wp2;go_step3;go_wp2;go_step3;go_wp2;refine Code.wp_mono ?_ (ap5 pf h d);rintro(_|(_|_)|_|_|_|_) a v hq;all_goals first|exact absurd hq id|skip
 let⟨k,c,f,i,j⟩:=hq;obtain⟨e,rfl⟩:=i;unfold qw;go_wp2;(try rw[Exit.noGoto_ret]);go_ret;exact⟨k,c,f,U,(eZ j).out⟩
end
def mo(B:ByteArray):Int×Bool×List PR:=
 if B.size=0 then(0,Í,[])else(((oa B).1:Int),decide ((oa B).1=B.size)&&(decide ((oa B).2.C=[])||decide ((oa B).2.C=[66])),(oa B).2.d.I)
def gy(B:ByteArray):Int×Int×List PR:=
 if 1200<B.size then(1,0,[])else if(mo B).2.1=Í then(0,0,(mo B).2.2)else(2,(mo B).1,[])
def Dx(m:Nat)(v:Ñ)(b:List PR)(w:Ë):Prop:=jI m w/\∃a,w.ownsRow m 148 1 v a.length (n9 a)/\qt w.heap.size a b w
section
variable{g:Gh}{s:ByteArray}{a:PS}
def Dx.pU(w:Ë):Dx w.heap.size (Ç Á 0 0) [] w:=⟨jI.I w,[],⟨U,Æ ⟨U,U⟩⟩,qt.N _ _⟩
def gS.iW(h:gS m b g O s a w)(c:a.d.r=É->a.d.S=[])(n:Nat):Dx m g.N a.d.I (w.drewN n):= ⟨h.a.jh n,g.C a.d,im h.C.C (fc.jh fh w n) λ_ _=>id,(h.C.abn c).C (fc.jh fh w n) λ_ _ x=>x.elim⟩
def g0(m:Nat):Gh:={a:=[],q:=0,t:=0,B:=m,tb:=[],N:=Ç Á 0 0,r:=Ç Á 0 0,b:=Á}
def ap7(w:Ë):gS w.heap.size w.heap.size (g0 w.heap.size) Á ⟨#[82]⟩ s6 (w.alloc<|ä #[Ä ⟨#[82]⟩,Ç Á 0 0,Ã Á,Ã Á,Ã Á,Ã Á,Å È 0,Å È 0] 153):= ⟨Ü _,(jI.I w).iw _ _ A A (λv e=>by simp at e;rcases e with rfl|rfl|rfl|rfl<;>trivial),fq.N w [Ä ⟨#[82]⟩,Ç Á 0 0,Ã Á,Ã Á,Ã Á,Ã Á,Å È 0,Å È 0] 153,A,A,⟨⟨U,Æ ⟨U,U⟩⟩,qt.N _ _,(λe=>by cases e),λ_=>rfl⟩,(λq=>by cases q),Î rfl⟩
def ap8(s:ByteArray):gN s=[66]↔s.toList=[66]:=by
 unfold gN;rw[ByteArray.toList_eq];constructor
 .intro h;match hl:s.data.toList with
  |[]=>rw[hl]at h;simp at h
  |[x]=>
   rw[hl]at h;simp only[List.map_cons,List.map_nil,List.cons.injEq,and_true]at h;have:x=66:=UInt8.toNat_inj.1 (by have:x.toNat=66:=Z;rw[this];rfl);rw[this]
  |x::y::r=>rw[hl]at h;simp at h
 .intro h;rw[h];rfl
def UC(a:¬B.size=0):(mo B).1=((oa B).1:Int):=by rw[mo,if_neg a]
def abG(a:¬B.size=0):(mo B).2.2=(oa B).2.d.I:=by rw[mo,if_neg a]
def ap9(a:¬B.size=0)(h:¬(oa B).1=B.size):(mo B).2.1=É:=by rw[mo,if_neg a];simp[h]
def abH(a:¬B.size=0)(h:(oa B).1=B.size){x:Bool}(b:x=(decide ((oa B).2.C=[])||decide ((oa B).2.C=[66]))):(mo B).2.1=x:=by rw[mo,if_neg a,b];simp[h]
def aqa(B:ByteArray):(oa B).2.d.r=É->(oa B).2.d.S=[]:=λe=>((Ju B.size 0 s6 (Ux B)<|Ø _).1.d.N e).1
theorem abI(q:B.size<=1200): Ö À 45 #[Ä B] w λe u=>
  fc fh w u/\∃v,e=Ê (è #[v,Å È (mo B).1,þ (mo B).2.1])/\((mo B).2.1=Í->Dx w.heap.size v (mo B).2.2 u):=by
 by_cases a:B.size=0
 .have f:=Uy B a;have n:=eZ (show mo B=(0,Í,[])from if_pos a);go_enter ż,Ÿ;go_wp2;apply ó (v:=è #[Ç Á 0 0,Å È 0,þ Í]) (by simp[Ĺ,Ě,go_sem]) U;exact⟨fc.fV _ _,_,by rw[n.out],λ_=>by rw[n.out];exact Dx.pU w⟩
 .have f:=uF B a;have b:=eZ a;go_enter ż,Ÿ;go_wp2_with (go_at_call 61;refine(ap6 (ap7 w) q).mono ?_;rintro e r ⟨k,d,i,rfl,⟨n,g,O,s,c⟩,h,t⟩);have l:fc fh w r:=((fc.iw (λi=>w.heap.size<=i) w _ _).fj n).ff λi D x=>by omega
  have E:=c.r.r 0 _ U;have F:=c.r.r 1 _ U;by_cases m:k=B.size
  .subst m;have y:=t U;subst y;have o:=eZ c.I;have p:=eZ λn=>c.iW (aqa B) n;have n:=eZ h;have d:=eZ l;have z:((B.size:Int)==(B.size:Int))=Í:=fp
   by_cases a:s.size=0
   .have f:=Uy s a;have j:=eZ (abH b.out n.out (x:=Í)<|by rw[<-o.out,abb s a];rfl);go_quiet (fail);go_wp2;apply ó (v:=è #[g.N,Å È B.size,þ Í]) (by simp[Ĺ,Ě,go_sem]) U;exact⟨d.out.fj<|fc.jh _ _ _,_,by rw[UC b.out,n.out,j.out],λ_=>by rw[abG b.out];exact p.out _⟩
   .have f:=uF s a;have j:=eZ (abH b.out n.out (x:=(s.toList==[66])) (by
     rw[<-o.out];have C:¬gN s=[]:=λe=>by have:=FF s;grind
     rw[decide_eq_false C,Bool.false_or,đ,beq_iff_eq,decide_eq_true_iff,ap8]))
    go_quiet (fail)
    go_wp2;apply ó (v:=è #[g.N,Å È B.size,þ<|s.toList==[66]]) (by simp[Ĺ,Ě,go_sem]) U;exact⟨d.out.fj<|fc.jh _ _ _,_,by rw[UC b.out,n.out,j.out],λ_=>by rw[abG b.out];exact p.out _⟩
  .have z:((k:Int)==(B.size:Int))=É:=by rw[beq_eq_false_iff_ne];omega
   have n:=eZ (Ì h<|ap9 b.out<|by rwa[h]);have d:=eZ l;go_quiet (fail);go_wp2;apply ó (v:=è #[g.N,Å È k,þ É]) (by simp[Ĺ,Ě,go_sem]) U;exact⟨d.out.fj<|fc.jh _ _ _,_,by rw[UC b.out,n.out.1,n.out.2],λe=>by rw[n.out.2]at e;cases e⟩
def aqb(h:B.size<=Ĳ): Ö À 36 #[Ä B] w λe u=>
  fc fh w u/\∃v,e=Ê (è #[v,Å È (gy B).1,Å È (gy B).2.1])/\((gy B).1=0->Dx w.heap.size v (gy B).2.2 u)/\((gy B).1≠0->v=Ç Á 0 0):=by
 unfold Ĳ at h;by_cases b:1200<B.size
 .have a:=eZ (show gy B=(1,0,[]) by rw[gy,if_pos b]);go_enter ĳ,Ŋ;go_wp2;apply ó (v:=è #[Ç Á 0 0,Å È 1,Å È 0]) (by simp[Ĺ,Ĵ,go_sem]) U;exact⟨fc.fV _ _,_,by rw[a.out],(λe=>by rw[a.out]at e;cases e),λ_=>rfl⟩
 .have f:B.size<=1200:=Z
  cases c:(mo B).2.1 with
  |true=>
   have a:=eZ (show gy B=(0,0,(mo B).2.2) by rw[gy,if_neg b,if_pos c]);go_enter ĳ,Ŋ;go_wp2_with (go_at_call 45;refine(abI f).mono ?_;rintro e i ⟨d,v,rfl,g⟩);apply ó (v:=è #[v,Å È 0,Å È 0]) (by simp[Ĺ,Ĵ,go_sem]) U;exact⟨d,_,by rw[a.out],(λ_=>by rw[a.out];exact g c),λe=>by rw[a.out]at e;exact absurd U e⟩
  |false=>
   have a:=eZ (show gy B=(2,(mo B).1,[]) by rw[gy,if_neg b,if_neg (by rw[c];exact Bool.false_ne_true)]);go_enter ĳ,Ŋ;go_wp2_with (go_at_call 45;refine(abI f).mono ?_;rintro e i ⟨d,v,rfl,g⟩);apply ó (v:=è #[Ç Á 0 0,Å È 2,Å È (mo B).1]) (by simp[Ĺ,Ĵ,go_sem]) U;exact⟨d,_,by rw[a.out],(λe=>by rw[a.out]at e;cases e),λ_=>rfl⟩
end
end Go.Proofs.Y.lB
namespace Go.Proofs.Y.iV
open Go Go.Conc Go.Proofs Go.RowKit Go.Proofs.Y.Lift Go.Proofs.Y.gu Go.Proofs.Y.fA Go.Proofs.Y.lB
structure Jw(a:Nat)(t:PT)(w:Ë):Prop where
 r:∃cs fz,w.heap[a]?=Â (ä cs 200 fz)
 c:∀i,i<5->w.cell? ⟨a,i,Á⟩=Â (Å È<|t.c.getD i 0)
 p:w.cell? ⟨a,5,Á⟩=Â (Ä t.p)
structure zq(r:Nat)(p:PR)(w:Ë):Prop where
 c:∀i,i<8->w.cell? ⟨r,i,Á⟩=Â (Å È<|p.c.getD i 0)
 b:∃bp n cp,w.cell? ⟨r,8,Á⟩=Â (Ç bp n cp)/\n=p.r.length/\∀(j:Nat) (t:PT),p.r[j]?=Â t->∃tb a,bp=Â ⟨tb,0,Á⟩/\w.cell? ⟨tb,j,Á⟩=Â (Ã<|Â ⟨a,0,Á⟩)/\Jw a t w
structure RQ(rs:List PR)(v:Ñ)(U:Nat->Prop)(w:Ë):Prop where
 C:kN nB U w
 I:fu (lA U nB) v v
 M:∃bp cp,v=Ç bp rs.length cp/\∀(j:Nat) (p:PR),rs[j]?=Â p->∃sb r,bp=Â ⟨sb,0,Á⟩/\w.cell? ⟨sb,j,Á⟩=Â (Ã<|Â ⟨r,0,Á⟩)/\zq r p w
section
variable{f:Nat->Prop}{rs:List PR}{Y:fw}
theorem aqc(h:je Y X u w){t:PT}(d:Y i n)(k:Jw i t u):Jw n t w:=by refine⟨?_,λb f=>(zg h).r d<|k.c b f,(zg h).I d k.p⟩;let⟨c,g,e,j,l,m,o,_⟩:=h.r i n d;let⟨r,s,q⟩:=k.r;grind
theorem aqd(h:je Y X u w){r:Nat}{p:PR}(e:Y r i)(k:zq r p u):zq i p w:=by refine⟨λd f=>(zg h).r e<|k.c d f,?_⟩;let⟨G,n,g,l,m,o⟩:=k.b;let⟨x,q,s⟩:=zg h r i 8 _ e l;obtain⟨v,rfl,y⟩:=Jj s;refine⟨v,n,g,q,m,λj t z=> ?_⟩;let⟨tb,a,B,C,H⟩:=o j t z;let⟨I,J,D⟩:=y _ B;obtain⟨E,rfl,F⟩:=vR D;let⟨K,L,M⟩:=zg h tb E j _ F C;grind [Ji,vR,aqc]
theorem aqe(h:je Y X u w)(b:fu Y v x)(a:RQ rs v f u):RQ rs x (λj=>∃i,f i/\Y i j) w:=by refine⟨Ue h a.C,Ni b a.I,?_⟩;obtain⟨s,i,rfl,c⟩:=a.M;obtain⟨d,rfl,e⟩:=Jj b;refine⟨d,i,U,λj p g=> ?_⟩;let⟨k,r,l,m,t⟩:=c j p g;let⟨y,z,n⟩:=e _ l;obtain⟨o,rfl,q⟩:=vR n;let⟨B,C,D⟩:=zg h k o j _ q m;grind [Ji,vR,aqd]
def xD(k:W.heap[b]?=w.heap[b]?)(h:w.cell? ⟨b,i,Á⟩=Â z):W.cell? ⟨b,i,Á⟩=Â z:=by simp only[Û,k];exact h
def aqf(l:kN nB X w)(k:∀b,X b->W.heap[b]?=w.heap[b]?){r:Nat}{p:PR}(d:X r)(h:zq r p w):zq r p W:=by
 refine⟨λi e=>xD (k r d)<|h.c i e,?_⟩;let⟨u,n,v,m,x,y⟩:=h.b;refine⟨u,n,v,xD (k r d) m,x,λj t z=> ?_⟩;let⟨tb,a,o,q,f⟩:=y j t z;have s:X tb:=by have:=l.r d m;rw[o]at this;exact Dp this
 have g:=Dn<|l.r s q;exact⟨tb,a,o,xD (k tb s) q,⟨by rw[k a g];exact f.r,λi e=>xD (k a g)<|f.c i e,xD (k a g) f.p⟩⟩
def RQ.r(h:RQ rs v f w)(k:∀b,f b->W.heap[b]?=w.heap[b]?):RQ rs v f W:=by
 refine⟨h.C.C k,h.I,?_⟩;obtain⟨g,i,rfl,l⟩:=h.M;refine⟨g,i,U,λj p m=> ?_⟩;let⟨a,r,c,d,n⟩:=l j p m;have e:f a:=by have:=h.I;rw[c]at this;exact Dp this
 exact⟨a,r,c,xD (k a e) d,aqf h.C k (Dn<|h.C.r e d) n⟩
def abJ{v:Ñ}(h:nz m i v):fu (lA (λd=>m<=d/\d<i) nB) v v:=by
 cases v with
 |int k n=>exact .iB k n
 |bool b=>exact .lY b
 |string i=>exact .kt i
 |pointer a=>cases a with
  |none=>exact .lE
  |some a=>exact fu.jE (Y:=lA (λd=>m<=d/\d<i) nB) ⟨⟨U,h⟩,U,U⟩
 |slice a n c=>cases a with
  |none=>exact .nD n c
  |some a=>exact fu.j5 (Y:=lA (λd=>m<=d/\d<i) nB) ⟨⟨U,h⟩,U,U⟩ n c
 |_=>exact absurd h<|by simp[nz]
def aqg{v:Ñ}(h:nz m i v):zK v=É:=by
 cases v with
 |int k n=>cases k<;>first|rfl|exact absurd h<|by simp[nz]
 |_=>rfl
def aqh(h:jI m w):kN nB (λi=>m<=i/\i<w.heap.size) w:=λb i=>by let⟨c,e,f,g,j,k,l,n,d⟩:=h b _ i.1<|â i.2;exact⟨c,e,f,by rw[â i.2,g],j,oM λv a=>abJ<|d v a,k,A5 λv a=>aqg<|d v a,l,n⟩
theorem abK{base:Nat}(h:w.ownsRow base e 1 v jJ.length (n9 jJ)):∃b f,v=Ç b jJ.length f/\∀(j r:Nat),jJ[j]?=Â r->∃a,b=Â ⟨a,0,Á⟩/\base<=a/\w.cell? ⟨a,j,Á⟩=Â (Ã<|Â ⟨r,0,Á⟩):=by
 obtain⟨m,⟨n,o⟩|⟨g,p,q,rfl,i,k,s,t,u,l⟩⟩:=h
 .grind
 .refine⟨_,_,U,λj r c=>⟨g,U,i,?_⟩⟩;have x:=(Ô.1 c).1;have d:(n9 jJ)[j]?=Â (Ã<|Â ⟨r,0,Á⟩):=by simp[n9,c]
  rw[<-l,List.getElem?_take_of_lt Z]at d;simp only[Û,k,í,ç,if_false];simpa using d
def abL(h:fq n (pe zQ++[z]) T w)(a:i<zQ.length):w.cell? ⟨n,i,Á⟩=Â (Å È<|zQ.getD i 0):=h.r i _<|Uo a z
def abM(h:fq i (pe zQ++[z]) T w)(a:zQ.length=n):w.cell? ⟨i,n,Á⟩=Â z:=h.r n _<|by rw[<-a];exact Dt zQ z
def aqi{r:PR}(h:xA i n r w):zq n r w:=by
 let⟨x,tb,e,l,y,b⟩:=h.I;refine⟨λa c=>abL e (by rwa[h.C]),?_⟩;obtain⟨m,o,rfl,p⟩:=abK l;refine⟨m,_,o,abM e h.C,b.r,λj t f=> ?_⟩;have g:j<tb.length:=by rw[b.r];exact(Ô.1 f).1
 let⟨s,u,z,v⟩:=p j tb[j]<|Ò g;let⟨_,_,k,d⟩:=b.I j tb[j] t (Ò g) f;exact⟨s,tb[j],u,v,⟨_,_,d⟩,λa c=>abL d (by rwa[k]),abM d k⟩
def aqj(h:Dx m v rs w):RQ rs v (λi=>m<=i/\i<w.heap.size) w:=by
 let⟨f,i,b,c⟩:=h;obtain⟨d,k,rfl,l⟩:=abK b;refine⟨aqh f,?_,d,k,by rw[c.I],λj p e=> ?_⟩
 .cases d with
  |none=>exact .nD _ _
  |some a=>
   have:=b.lt a.block (by rcases b.2 with⟨q,_⟩|⟨g,n,o,q,_⟩<;>(cases q;try rfl));exact abJ this
 .have a:j<i.length:=by rw[c.I];exact(Ô.1 e).1
  let⟨g,q,o,n⟩:=l j i[j]<|Ò a;exact⟨g,i[j],q,n,aqi<|c.M j i[j] p (Ò a) e⟩
end
def abN(B:ByteArray)(z:Ñ)(u:Ë):Prop:=∃v,z=è #[v,Å È (gy B).1,Å È (gy B).2.1]/\((gy B).1=0->∃a,RQ (gy B).2.2 v a u)
def aqk(B:ByteArray):wG (abN B):=λv u T D h=>by let⟨x,a,b⟩:=h;refine⟨x,a,λe=> ?_⟩;let⟨U,c⟩:=b e;exact⟨U,c.r λ_ _=>rfl⟩
def aql{l:fe}(f:gq l)(s:¬l.q)(t:nB<=l.w.heap.size)(u:B.size<=Ĳ)(m:Bool)(h:č)(k:List č): fA.fi À m (λa n=>iA l a/\a.d=l.d/\∃v,n=G (h.finish<|è #[v,Å È (gy B).1,Å È (gy B).2.1]) k/\((gy B).1=0->∃V,RQ (gy B).2.2 v V a.w/\∀b,V b->a.O b/\l.w.heap.size<=b)) l (G (ê À 36 #[Ä B] ā)<|h::k):=by
 let⟨X,c,C,V⟩:=xm 36 fL;have D:∀T,Ö À 36 #[Ä B] (World.tp (j2 (λj=>False/\¬(mB l).O j) l.w) T 0) fun|Ê v,j=>abN B v j/\kl j|_,_=>False:=λT=>by refine(aqb u).mono ?_;rintro e p ⟨g,v,rfl,i,o⟩;exact⟨⟨v,U,λe=>⟨_,aqj<|i e⟩⟩,g.gU A6⟩
 refine((C7 xV IG xm (aqk B) fL C V (Fp f) s (λb q=>q.elim) ⟨λb q=>q.elim,t⟩ (λg q=>by cases q) (oM λv g=>by simp at g;subst g;exact .kt B) D m h k).mB f).ff ?_;rintro a n ⟨x',⟨Y,j,v,v',_,E,F,⟨v0,rfl,o⟩,H,I,_,J⟩,rfl,K,L,_,_⟩;cases F with
 |@lZ _ cs'' hs kz=>
  let⟨M⟩:=cs'';match M,hs with
  |[x,y,z],_=>
   have g:=kz 0 fp fp;have p:=kz 1 fp fp;have r:=kz 2 fp fp;simp at g p r;cases p;cases r;refine⟨K,J,x,H,λe=> ?_⟩;let⟨U,N⟩:=o e;refine⟨_,aqe E g (N.r λ_ _=>rfl),λb V=> ?_⟩;let⟨i,_,P⟩:=V;let⟨Q,S⟩:=I i b P;have W:l.w.heap.size<=b:=S.elim (λq=>q.elim) λq=>q.elim (λq=>q.elim) id;refine⟨Æ (Q.resolve_right λq=> ?_),W⟩;rw[L]at q;have:=f.fv b q;omega
end Go.Proofs.Y.iV
namespace Go.Proofs.Y.gu
open Go Go.Proofs Go.RowKit Go.Proofs.Y.Lift
def Dy:List Ñ:=iz (jx 8)++[Ç Á 0 0,Å È 0,Ç Á 0 0]
def aqm(w:Ë):Ö À 44 #[] w λe a=>∃c B,e=Ê (Ç (Â ⟨c,0,Á⟩) 1 1)/\fq B Dy 147 a/\fq c [Ã<|Â ⟨B,0,Á⟩] 136 a/\fc fh w a:=by
 have d:(iz<|jx 8).length=144:=xr _;have i:(iz (jx 8)++[Ç Á 0 0]).length=145:=by rw[Õ,d];rfl
 have f:=eZ<|Ì d i;unfold Dy;have j:=eZ λW=>am3 W;generalize jx 8=s at*;go_enter Tryz.func44,Tryz.ntmps44;go_wp2_with (first
  |(go_at_call 60;refine(j.out _).mono ?_;rintro e W ⟨rfl,b⟩;have k:=eZ b;clear b)
  |(with_reducible refine Ċ U (Â 2) U _ _ (aai U U f.out.1) ?_)
  |(with_reducible refine Ċ U (Â 3) U _ _ (ani U U f.out.2) ?_)
  |(with_reducible refine Ċ U (Â 4) U _ _ (sV U U) ?_))
 have g:=fq.N (W.alloc<|ä (iz s++[Ç Á 0 0,Å È 0,Ç Á 0 0]).toArray 147) [Ã<|Â ⟨W.heap.size,0,Á⟩] 136;have h:=fc.iw fh (W.alloc<|ä (iz s++[Ç Á 0 0,Å È 0,Ç Á 0 0]).toArray 147) #[Ã<|Â ⟨W.heap.size,0,Á⟩] 136;have l:(W.alloc<|ä (iz s++[Ç Á 0 0,Å È 0,Ç Á 0 0]).toArray 147).heap.size=W.heap.size+1:=fp
 rw[l]at g;have b:=eZ<|Ì ((fq.N W (iz s++[Ç Á 0 0,Å È 0,Ç Á 0 0]) 147).C h id)<|Ì g<|(k.out.fj<|fc.iw fh W (iz s++[Ç Á 0 0,Å È 0,Ç Á 0 0]).toArray 147).fj h;go_ret;exact⟨W.heap.size+1,W.heap.size,U,b.out.1,b.out.2.1,b.out.2.2⟩
def aqn(n:Int)(j:1<=n)(k:n<=8)(w:Ë):Ö À 35 #[Å È n] w λe b=>∃g a B,e=Ê (è #[Ã<|Â ⟨g,0,Á⟩,Å È 0])/\fq g [Å È n,Ç (Â ⟨a,0,Á⟩) 1 1] 68 b/\fq B Dy 147 b/\fq a [Ã<|Â ⟨B,0,Á⟩] 136 b/\fc fh w b:=by go_enter Tryz.func35,Tryz.ntmps35;go_wp2_with (go_at_call 44;refine(aqm _).mono ?_;rintro e c ⟨a,B,rfl,f,h,i⟩;have d:=eZ<|Ì f<|Ì h i;clear f h i);go_ret2;have f:=fc.iw fh c #[Å È n,Ç (Â ⟨a,0,Á⟩) 1 1] 68;exact⟨c.heap.size,a,B,U,fq.N c [Å È n,Ç (Â ⟨a,0,Á⟩) 1 1] 68,d.out.1.C f id,d.out.2.1.C f id,d.out.2.2.fj f⟩
end Go.Proofs.Y.gu
namespace Go.Proofs.Y.iV
open Go Go.Conc Go.Proofs Go.RowKit Go.Proofs.Y.Lift Go.Proofs.Y.gu Go.Proofs.Y.fA Go.Proofs.Y.lB
section
variable{w':Ë}{Y:fw}{a:Nat->Prop}
def abO:∀v∈Dy,(∃k n,v=Å k n/\k≠ŧ)\/(∃p,v=Ä p)\/v=Ç Á 0 0:=λv k=>by
 unfold Dy at k;rcases æ.1 k with q|q
 .rcases Ud _ v q with⟨n,rfl⟩|⟨p,rfl⟩
  .exact Æ ⟨_,_,U,A⟩
  .exact Î<|Æ ⟨p,U⟩
 .simp at q;rcases q with rfl|rfl|rfl
  .exact Î<|Î U
  .exact Æ ⟨_,_,U,A⟩
  .exact Î<|Î U
def abP:kx [gu.iR]:=⟨A,A,λv b=>by simp at b;subst b;exact⟨⟨(λp a=>by cases a),(λp a=>by cases a),Ø _,Ø _⟩,aaC,Ŗ _,show(0:Int)<1 by decide⟩⟩
def aqo(d:gu.fq n Dy 147 w)(f:gu.fq i [Ã<|Â ⟨n,0,Á⟩] 136 w):RD [gu.iR] (Ç (Â ⟨i,0,Á⟩) 1 1) (λk=>k=i\/k=n) w:=by
 refine⟨[(n,gu.iR)],U,abP,⟨_,1,1,U,Ü _,⟨U,λj b v e=> ?_⟩⟩,?_,fu.j5 (Y:=lA (λk=>k=i\/k=n) nB) ⟨⟨U,Æ U⟩,U,U⟩ 1 1⟩
 .cases j with
  |zero=>
   cases e;exact⟨_,0,U,f.r 0 _ U,(anj aaC<|by rwa[ł])⟩
  |succ j=>simp at e
 .rintro b (rfl|rfl)
  .refine⟨_,_,_,f,fp,oM λv c=> ?_,fp,A5 λv c=> ?_,A,A⟩
   .simp at c;subst c;exact fu.jE (Y:=lA (λk=>k=b\/k=n) nB) ⟨⟨U,Î U⟩,U,U⟩
   .simp at c;subst c;rfl
  .refine⟨_,_,_,d,fp,oM λv c=> ?_,by simp[Dy],A5 λv c=> ?_,A,A⟩
   .rcases abO v (by simpa using c)with⟨k,a,rfl,_⟩|⟨p,rfl⟩|rfl
    .exact .iB k a
    .exact .kt p
    .exact .nD 0 0
   .rcases abO v (by simpa using c)with⟨k,a,rfl,g⟩|⟨p,rfl⟩|rfl
    .cases k<;>first|rfl|exact absurd U g
    .rfl
    .rfl
def FQ(b:Nat)(n:Int)(c:Ñ)(w:Ë):Prop:=∃a,w.heap[b]?=Â (ä #[Å È n,c] 68 a)/\a=(0,0)
def FQ.r{n:Int}(h:FQ i n v w)(k:w'.heap[i]?=w.heap[i]?):FQ i n v w':=by let⟨a,b,c⟩:=h;exact⟨a,k.trans b,c⟩
def aqp(h:je Y a u w)(g:∀b,¬a b)(q:Y i j)(k:gu.fq i [Å È c,v] 68 u):∃l,fu Y v l/\FQ j c l w:=by
 let⟨d,r,e,D,s,m,t,z,_,B,_⟩:=h.r i j q;unfold gu.fq at k;rw[k]at m;cases m;have f:=z.r<|g j;let⟨C⟩:=r;match C,f.r with
 |[x,y],_=>
  have o:=f.C 0 fp fp;have p:=f.C 1 fp fp;simp at o p;cases o;exact⟨y,p,s,t,(B<|g j).symm⟩
end
def abQ(n:Int)(z:Ñ)(u:Ë):Prop:=∃a b B,z=è #[Ã<|Â ⟨a,0,Á⟩,Å È 0]/\gu.fq a [Å È n,Ç (Â ⟨b,0,Á⟩) 1 1] 68 u/\RD [gu.iR] (Ç (Â ⟨b,0,Á⟩) 1 1) (λi=>i=b\/i=B) u/\a≠b/\a≠B
def aqr(n:Int):wG (abQ n):=λv u T D h=>by let⟨b,c,B,d,e,a⟩:=h;exact⟨b,c,B,d,e,a.1.r λ_ _=>rfl,a.2⟩
def aqs{l:fe}(r:gq l)(L:¬l.q)(M:nB<=l.w.heap.size){n:Int}(N:1<=n)(P:n<=8)(D:Bool)(s:č)(t:List č): fA.fi À D (λf E=>iA l f/\f.d=l.d/\∃a e,E=G (s.finish<|è #[Ã<|Â ⟨a,0,Á⟩,Å È 0]) t/\FQ a n e f.w/\f.O a/\l.w.heap.size<=a/\∃V,RD [gu.iR] e V f.w/\¬V a/\∀b,V b->f.O b/\l.w.heap.size<=b) l (G (ê À 35 #[Å È n] ā)<|s::t):=by
 let⟨fn,c,Q,u⟩:=xm 35 fL;have S:∀T,Ö À 35 #[Å È n] (World.tp (j2 (λj=>False/\¬(mB l).O j) l.w) T 0) fun|Ê v,k=>abQ n v k/\kl k|_,_=>False:=λT=>by refine(aqn n N P _).mono ?_;rintro e C ⟨a,m,B,rfl,h,o,p,g⟩;exact⟨⟨a,m,B,U,h,aqo o p,gu.fq.G h p A,gu.fq.G h o A⟩,g.gU A6⟩
 refine((C7 xV IG xm (aqr n) fL Q u (Fp r) L (λb q=>q.elim) ⟨λb q=>q.elim,M⟩ (λg q=>by cases q) (oM λv e=>by simp at e;subst e;exact .iB _ _) S D s t).mB r).ff ?_;rintro f E ⟨z,⟨Y,k,v,v',_,g,W,⟨a,m,B,rfl,h,o,p,X⟩,q5,q7,_,q6⟩,rfl,ha,hR,_,_⟩;have F:∀i j,Y i j->(nR l z).O j/\l.w.heap.size<=j:=λi j e=>by let⟨C,H⟩:=q7 i j e;have I:l.w.heap.size<=j:=H.elim (λq=>q.elim) λq=>q.elim (λq=>q.elim) id;refine⟨Æ (C.resolve_right λq=> ?_),I⟩;rw[hR]at q;have:=r.fv j q;omega
 cases W with
 |@lZ _ cs'' hs kz=>
  let⟨ls⟩:=cs'';match ls,hs with
  |[x,y],_=>
   have H:=kz 0 fp fp;have I:=kz 1 fp fp;simp at H I;cases I;obtain⟨a2,rfl,m3⟩:=Ji H;obtain⟨J,rfl,C⟩:=vR m3;have h2':RD [gu.iR] (Ç (Â ⟨m,0,Á⟩) 1 1) (λi=>i=m\/i=B) {k with tape:=z.w.tape,drawn:=z.w.drawn}:=o.r λ_ _=>rfl;let⟨uu,K,e2⟩:=aqp g (λj q=>q.1) C h;let⟨vs,k1,k2,k3,k4,k5⟩:=h2';let⟨vs',n1,n2⟩:=Jk (zg g) K k3;let⟨p1,p2⟩:=F a J C;refine⟨ha,q6,J,uu,q5,e2,p1,p2,_,⟨vs',n1.trans k1,k2,n2,Ue g k4,Ni K k5⟩,?_,λb u=> ?_⟩
   .rintro⟨i,hi,e⟩;have:=g.C.2.1 _ _ _ C e;subst this;exact hi.elim p X
   .let⟨i,_,e⟩:=u;exact F i b e
end Go.Proofs.Y.iV
namespace Go.Proofs.Y.iV
open Go Go.Conc Go.Proofs Go.RowKit Go.Proofs.Y.Lift Go.Proofs.Y.gu Go.Proofs.Y.fA Go.Proofs.Y.lB
structure we(an:Nat)(xs:List ByteArray)(w:Ë):Prop where
 r:∀(p:Nat) (x:ByteArray),xs[p]?=Â x->w.cell? ⟨an,p,Á⟩=Â (Ä x)
 C:w.cell? ⟨an,xs.length,Á⟩=Á
section
variable{an:Nat}{xs:List ByteArray}
theorem we.su(h:we an xs w)(j:0<xs.length):∃c e d,w.heap[an]?=Â (ä c e d)/\c.size=xs.length/\∀v∈c.toList,∃x,v=Ä x:=by
 have i:∀p,p<xs.length->w.cell? ⟨an,p,Á⟩=Â (Ä xs[p]!):=λp a=>h.r p _ (by simp[a]);have b:=i 0 j;have f:=h.C;simp only[Û]at b f;cases g:w.heap[an]? with
 |none=>rw[g]at b;cases b
 |some o=>
  cases o<;>rw[g]at b f<;>simp only[í,ç,if_false]at b f<;>first|cases b|skip
  rename_i c e d;have k:c.size<=xs.length:=by grind
  have l:=λp a=>by have:=i p a;simp only[Û,g,í,ç,if_false]at this;exact this
  have m:xs.length<=c.size:=by grind
  refine⟨c,e,d,U,Nat.le_antisymm k m,λv n=> ?_⟩;let⟨p,a⟩:=Đ n;have q:p<c.size:=by have:=(Ô.1 a).1;simpa using this
  have:=l p Z;rw[į]at a;rw[this]at a;cases a;exact⟨_,U⟩
end
def aqt{l:fe}(o:gq l)(F:¬l.q)(H:nB<=l.w.heap.size)(h:we i vX l.w)(I:0<vX.length)(J:l.M i)(p:lI i=É)(f:kY l.w i=Â (0,0))(hn:vX.length<=1000)(K:B.size=1)(L:jd vX+vX.length<=140737488355328)(r:Bool)(k:č)(m:List č): fA.fi À r (λn s=>iA l n/\n.d=l.d/\s=G (k.finish<|Ä<|lj B vX) m) l (G (ê À 38 #[Ç (Â ⟨i,0,Á⟩) vX.length vX.length,Ä B] ā)<|k::m):=by
 let⟨fn,c,N,P⟩:=xm 38 fL;let⟨t,e,Q,y,b2,z⟩:=h.su I;have C:(λj=>j=i/\¬(mB l).O j)=λj=>j=i:=by funext j;exact propext ⟨λq=>q.1,λq=>⟨q,id⟩⟩
 have S:∀T,Ö À 38 #[Ç (Â ⟨i,0,Á⟩) vX.length vX.length,Ä B] (World.tp (j2 (λj=>j=i) l.w) T 0) fun|Ê v,E=>v=Ä (lj B vX)/\kl E|_,_=>False:=λT=>by
  refine(aaH U Z (Ü _) K (λj v a=> ?_) L).mono ?_
  .unfold rT at a;rw[ć]at a;obtain⟨x,b,rfl⟩:=ì.1 a;exact⟨i,0,U,by rw[Ņ];exact qk (Æ p)<|h.r j x b⟩
  .rintro e g ⟨rfl,b⟩;exact⟨U,b.gU A6⟩
 have V:∀v∈t.toList,fu (mh (λj=>j=i) À.globals.size) v v:=λv a=>by obtain⟨x,rfl⟩:=z v a;exact .kt x
 have X:fU (mh (λj=>j=i) À.globals.size) #[Ç (Â ⟨i,0,Á⟩) vX.length vX.length,Ä B] #[Ç (Â ⟨i,0,Á⟩) vX.length vX.length,Ä B]:=oM λv a=>by
  have b:v=Ç (Â ⟨i,0,Á⟩) vX.length vX.length\/v=Ä B:=by simpa using a
  rcases b with rfl|rfl
  .exact fu.j5 (Y:=mh (λj=>j=i) À.globals.size) ⟨⟨U,U⟩,U,U⟩ _ _
  .exact .kt B
 have W:=C7 xV IG xm (λv u T D h=>h) fL N P (Fp o) F (λb q=>Î<|by rwa[q]) (by rw[C];refine⟨λb q=> ?_,H⟩;subst q;exact⟨t,e,Q,y,(by unfold kY at f;rw[y]at f;cases f;exact Ø _),oM V,λ_=>⟨Z,(λq=>by rw[p]at q;cases q),λ_=>A5 λv a=>by obtain⟨x,rfl⟩:=z v a;rfl⟩⟩) (λg q=>by cases q) X (by rwa[C]) r k m;refine(W.mB o).ff ?_;rintro n s ⟨D,⟨Y,E,v,v',_,_,b,rfl,g,_,_,u⟩,rfl,x,_,_,_⟩;cases b;exact⟨x,u,g⟩
end Go.Proofs.Y.iV
namespace Go.Proofs.Y.fA
open Go Go.Conc Go.Proofs.Y.Lift
open Go.ConcN (sumTo sumTo_congr)
def UD(P:Λ)(a:Ñ->Ë->Prop):Jd:=λl g=>g.status=.running/\∃v,(∀w,stepG P Í g w=.ended (.done v) w)/\a v l.w
section
variable{Y:Nat->Prop}{e:Nat->fe}
def kK.nz{J:Jd}{T:gl}(c:kK P Y zX i J T D e E w qJ){sl:Option (Nat×Nat)}(k:vQ v u):Ź P vQ (Ĥ E w sl) (.done v) u qJ:=by
 have C:=c.r.r;have f:∀a g,E[a]?=Â g->a≠0->QuitsD P (D a) (Deaf qJ a) g:=λa g b d=>by
  let⟨g0,j,h,_,_⟩:=c.r.C a g b;obtain rfl:g=g0:=by cases h;rfl
  simp only[d,if_false]at j;rw[C.f a<|(Þ.1 b).1];exact j _<|fI.fV _ _
 refine⟨v,U,k,C.l,c.N,⟨λg l=> ?_,U⟩,λa g b d=>⟨D a,(f a g b d).hears _⟩⟩;let⟨j,h⟩:=Đ l;rw[List.getElem?_drop]at h;exact⟨_,(f (1+j) g (by rwa[<-į]) Z).leaves⟩
theorem aqu{J:Jd}{T:gl}{l:fe}(u:l.w=W)(v:l.d=0)(m:¬l.q)(n:∀b,¬l.I b)(r:∀a,¬l.r a)(o:∀a,¬l.N a)(y:∀a,¬l.K a)(z:∀b,l.O b->b<W.heap.size)(B:g.status=.running)(C:lu P Í J T l g):sQ P (λ_=>False) 0 J T (λ_=>0) (λ_=>l) #[g] W #[]:=by
 have f:∀(p:Nat) a,touchAt #[] p=Â a->False:=λp a h=>by unfold touchAt Trace.act? at h;simp at h
 refine⟨fp,⟨⟨λi j s D E=> ?_,λi j s D E=> ?_,λi _ b _=>n b,λi _ a _=>o a,λ_ _ _ _=>id,λi _ a e=>e.elim (λq=>absurd q<|r a) λq=>absurd q<|o a,λi _ b F=>F.elim (z b) λq=>absurd q<|n b,λ_ h=>h.elim,λi _=>by rw[u];exact fI.fV _ _,λi _=>⟨λa e p x k=>(f p x k).elim,λa e=>(n _ e).elim,λa e=>(r a e).elim,λa e=>(o a e).elim⟩,λi _=>by rw[v];rfl,λH q=> ?_,λI G=>by simp at G,λp a c h=>(f p a h).elim,λi _ a e=>absurd e<|y a⟩,λi x k=> ?_,λj _=>rfl⟩,λi L s=> ?_,m,λp a h=>(f p a h).elim,λp a x h=>(f p a h).elim,λa _ q m=> ?_,?_⟩
 .grind
 .grind
 .let⟨i,j,_,⟨a,b,e,_⟩,_⟩:=q;simp[Trace.act?]at e
 .have t:i<1:=(Þ.1 k).1;obtain rfl:i=0:=Z
  obtain rfl:g=x:=by simpa using k
  exact⟨g,C,.gO,Æ B,Æ U⟩
 .grind
 .simp[Trace.act?]at m
 .intro i g t;simp[Trace.g?]at t
end
end Go.Proofs.Y.fA
namespace Go.Proofs.Y.iV
open Go Go.Conc Go.Proofs Go.RowKit Go.Proofs.Y.Lift Go.Proofs.Y.gu Go.Proofs.Y.fA Go.Proofs.Y.lB
open Go.ConcN (sumTo)
def Bd(f:Ñ->Ë->Prop)(c:Array Ą)(w:Ë)(d:Option (Nat×Nat))(t:Ŭ):Prop:=
 ∃N a v b e,ů À (N+1) (Ĥ c w d) t=(.ended (.done v) b,e)/\runN À N (Ĥ c w d)=.next a/\step À a=.ended (.done v) b/\Ź À f a (.done v) b e
section
variable{Post:Ñ->Ë->Prop}{f:Array Ą}{w':Ë}{sl e:Option (Nat×Nat)}{t:Ŭ}{l:fe}
def Bd.ff(h:Bd Post E w sl t)(a:∀v u,Post v u->vQ v u):Bd vQ E w sl t:=by let⟨M,b,v,x,c,d,e,f,g⟩:=h;exact⟨M,b,v,x,c,d,e,f,g.mono λv q=>a v x q⟩
def Bd.nR{N:Nat}(r:ů À N (Ĥ E w sl) t=(.next<|Ĥ f w' e,qJ))(h:Bd Post f w' e qJ):Bd Post E w sl t:=by
 let⟨M,a,v,x,b,c,d,g,i⟩:=h;refine⟨N+M,a,v,x,b,?_,?_,g,i⟩
 .rwa[Nat.add_assoc,runNT_add,r]
 .rw[<-œ À (N+M) (Ĥ E w sl) t,runNT_add,r];rwa[œ]
def tu(Post:Ñ->Ë->Prop)(E:Array Ą)(w:Ë)(sl:Option (Nat×Nat))(t:Ŭ):Prop:=Bd (λv u=>Post v u/\u.os=w.os/\u.output=w.output) E w sl t
def tu.r{N:Nat}(r:ů À N (Ĥ E w sl) t=(.next<|Ĥ f w' e,qJ))(a:w'.os=w.os/\w'.output=w.output)(h:tu Post f w' e qJ):tu Post E w sl t:= Bd.nR r<|h.ff λ_ _ q=>⟨q.1,q.2.1.trans a.1,q.2.2.trans a.2⟩
def kK.aqv{Y:Nat->Prop}:∀(s:Nat) (h:Nat->Nat) (j:Nat->fe) (E:Array Ą) (w:Ë) (sl:Option (Nat×Nat)) (t:Ŭ),sumTo E.size h=s->kK À Y zX n (UD À Post) .fD h j E w t->tu Post E w sl t:=by
 intro s
 induction s using Nat.strongRecOn with
 |_ s r=>
  intro h j E w sl t I c;have J:=c.C;obtain⟨g0,a⟩:∃g,E[0]?=Â g:=⟨_,â Z⟩;have o:∀d,UD À Post {j 0 with w:=w.at d} g0:=λd=>by
   let⟨u,b,k,_,_⟩:=(c.I d).r.C 0 g0 a;obtain rfl:g0=u:=by cases k;rfl
   exact b (w.at d)<|(c.I d).r.r.r 0 Z
  obtain⟨i,g,d,e,l,x,m⟩:=crowd_pick c.LJ ⟨0,g0,a,(o 0).1⟩;by_cases p:i=0
  .subst p;rw[a]at l;obtain rfl:=Ξ l;let⟨_,v,q,y⟩:=o d;have u:stepT À (Ĥ E w sl)=(.ended (.done v)<|w.at d,#[]):=by
    rw[m,ConcN.runT_crowd_ended a<|q<|w.at d];rfl
   refine⟨0,Ĥ E w sl,v,w.at d,t,?_,U,?_,c.nz ⟨y,U,U⟩⟩
   .simp[ů,u]
   .have:=stepT_fst À (Ĥ E w sl) Í;rw[<-this];rw[u]
  .let⟨q,y,f,u,b,k,K,L,z⟩:=(c.I d).t_ (sl:=e) l p x;let⟨N,B,v,w',qJ,C,D,F,G⟩:=r (sumTo f.size q) (by rw[k];omega) q y f (w.at d) e (t++u) U z;refine⟨N+1,B,v,w',qJ,by simp only[ů,m,b];exact C,?_,F,G⟩;have:=œ À (N+1) (Ĥ E w sl) t;rw[<-this];simp only[ů,m,b];rwa[œ]
structure ic(l:fe):Prop where
 r:gq l
 d:l.d=0
 q:¬l.q
 rd:∀b,¬l.I b
 I:∀a,¬l.r a
 M:∀a,¬l.N a
 k:∀a,¬l.K a
def ic.C(h:ic l){w₁:Ë}(r:fI l l.w w₁):ic {l with w:=w₁}:= ⟨⟨h.r.c,h.r.Y,h.r.S,λb q=>Ę (h.r.fv b q) r.r,λa q=>q.elim (λz=>(h.I a z).elim) λz=>(h.M a z).elim,λa q=>(h.k a q).elim⟩,h.d,h.q,h.rd,h.I,h.M,h.k⟩
def jm(Post:Ñ->Ë->Prop)(l:fe)(g:Ą):Prop:=
 ic l->g.status=.running->∀(a:Loc->Prop) (H:Nat) (J:Jd) (c:Nat->Nat) (b:Nat->fe) (E:Array Ą) (sl:Option (Nat×Nat)) (t:Ŭ),xk a H l->fA.sQ À a H J .fD c b E l.w t->(b 0).d=0->E[0]?=Â g->tu Post E l.w sl t
def aqw{a:fe}(h:xk zX i l)(k:rH l a l.w a.w):xk zX i a:= ⟨h.r,λb c x d q=>by
  rcases k.N b c with z|z
  .exact h.fg b z x d q
  .have:=h.r x q;have:=h.C;omega,Ï h.C k.r⟩
def UE{J f:Jd}{e:Nat->fe}(a:ic l)(h:g.status=.running)(j:xk zX i l)(c:fA.sQ À zX i J .fD D e E l.w t)(m:(e 0).d=0)(n:E[0]?=Â g)(W:fA.fi À Í f l g):∃T,fA.sQ À zX i f T D (fA.wH e l) E l.w t:=by let⟨T,o⟩:=jq W;exact⟨T,kK.Y c m n h U a.d a.q a.rd a.I a.M a.k (λb q=>⟨a.r.fv b<|Æ q,j.fg b q⟩) o⟩
def abR{Y:Nat->Prop}{J:Jd}{a:Nat->fe}(c:kK À Y zX i J .fD D a E w t):∃g,E[0]?=Â g/\J {a 0 with w:=w} g:=by
 obtain⟨g0,b⟩:∃g,E[0]?=Â g:=⟨_,â c.C⟩;let⟨d,e,f,_,_⟩:=c.r.C 0 g0 b;obtain rfl:g0=d:=by cases f;rfl
 exact⟨g0,b,e w<|c.r.r.r 0 c.C⟩
def NB(Post:Ñ->Ë->Prop):Jd:=λl g=>ic l/\g.status=.running/\jm Post l g
def aqx{b:Nat->fe}{T:gl}(m:(b 0).w=w)(n:xk zX i (b 0))(c:fA.sQ À zX i (NB Post) T D b E w t):tu Post E w sl t:=by let⟨N,o,p,f,w',e,qJ,r,_,a,j⟩:=kK.G (λl g h=>Æ h.2.1) T _ D b E w sl t U c;let⟨v,q,h,s,u⟩:=abR j;refine tu.r r ⟨a.C,a.I⟩<|u h s zX i (NB Post) o p f e qJ ?_ j h.d q;apply aqw n;rw[m];exact⟨a.r,a.N,a.rd,a.S,a.b,a.k,a.ki,a.M,a.Y,a.C,a.I,a.c⟩
def uG(W:fA.fi À Í (NB Post) l g):jm Post l g:=by intro b d i H J j k E sl t a c e f;let⟨T,h⟩:=UE b d a c e f W;exact aqx (by rw[fA.Tb]) (by rwa[fA.Tb]) h
def aqy(W:fA.fi À Í (UD À Post) l g):jm Post l g:=by intro b d s H J i u E sl t j c k m;let⟨T,n⟩:=UE b d j c k m W;let⟨N,o,p,f,w',e,qJ,r,_,a,q⟩:=kK.G (λl g h=>Æ h.1) T _ i _ E l.w sl t U n;exact tu.r r ⟨a.C,a.I⟩<|kK.aqv _ o p f w' e qJ U q
def A8.N{e:xy}{kd:Nat->Int}{f:List fM}{c:fe}(h:A8 X e i kd f l n v c)(r:fI c c.w u):A8 X e i kd f l n v {c with w:=u}:=by have a:=λb q=>r.I b<|Æ q;let⟨V,j,g⟩:=h.S;exact⟨λb q=>⟨(h.M b q).1,(a b (h.M b q).1).trans (h.M b q).2⟩,⟨h.r.1,λp k=>(gK<|a n h.r.1).trans<|h.r.2 p k⟩,⟨V,j.r λb q=>a b (g b q).1,g⟩,h.d,h.q,h.rd,h.C,(gK<|a n h.r.1).trans h.I.1,(yl<|a n h.r.1).trans h.I.2⟩
def aqz{kd:Nat->Int}{rq:Nat->Nat}{Y:xy}{V0 h:Nat->Prop}{s0:List fM}{B:Option ù}{F:Option ù}{R:Nat}{C:č}{z:Array Ĝ} (AK:0<R->F=Â ⟨j7,0,Á⟩) (Ff:0<R->l.M j7) (Iq:∀i,i<R->l.w.cell? ⟨j7,i,Á⟩=Â (Ã<|Â ⟨rq i,0,Á⟩)) (Ir:∀i,i<R->l.w.cell? ⟨rq i,4,Á⟩=Â (Å È<|kd i)) (I:Jo l Y kd rq R X) (hZ:(∀b,X b->h b)/\∀b,b=1\/b=2\/b=3\/b=4->h b) (hZO:∀b,h b->l.O b) (hVZ:∀b,V0 b->h b) (C4:RD s0 (Ç B j j9) V0 l.w) (hn:1<=n) (hs:n+R<1000) (hJ:∀o v p m c,ic o->A8 h Y R kd s0 l v (Ç p m c) o->jm Post o (G (C.at (y.put ((z[i]?).bind (·.dst))<|è #[Ç (Â ⟨v,0,Á⟩) R R,Ç p m c])<|Ð z jJ::L) qX)): jm Post l (Fe (Ç B j j9) (Ç F R j6) n<|C.at y (Ð z (i::jJ)::L)::qX):=by
 intro s hr jr H J lv lot E sl t Nl c hd K;have W:fA.fi À Í (MG kd rq R n (Ç B j j9) l<|C.at y (Ð z (i::jJ)::L)::qX) l (Fe (Ç B j j9) (Ç F R j6) n<|C.at y (Ð z (i::jJ)::L)::qX):= akc s.r s.q s.d Z AK Ff Iq (λi K=>Æ<|I.fg _<|I.r i K) Ir λg P o u x D v S T V bw bf v1 h1 h2=>⟨g,P,u,x,D,v,S,T,V,bw,bf,v1,h1,h2,U⟩;let⟨T,c'⟩:=UE s hr Nl c hd K W;let⟨N,yY,IF,f,w',e,qJ,r,_,x,c''⟩:=kK.G (λlx gx P=>by obtain⟨_,_,_,_,_,_,_,_,_,_,_,_,_,_,rfl⟩:=P;exact Æ U) T _ lv _ E l.w sl t U c';apply tu.r r ⟨x.C,x.I⟩;let⟨N2,aqA,S,T2,Ti,Tk,gs2,w2,MH,t2,r2,io2,c2⟩:=aoO (J:=λu S o D=>xk u S o/\NB Post o D) U c'' e s.r s.rd s.q s.d Nl I hZ hZO hVZ C4 ⟨x.C,x.I⟩ hn hs λFo H' o v p m c V z2 u=> .fD λw₁ D=>by have kU:ic o:=⟨z2,u.d,u.q,u.rd,u.C.1,u.C.2.1,u.C.2.2⟩;exact⟨⟨V.r,V.fg,Ï V.C D.r⟩,kU.C D,U,hJ _ v p m c (kU.C D)<|u.N D⟩
 apply tu.r r2 ⟨io2.1.trans x.C.symm,io2.2.trans x.I.symm⟩;let⟨N3,lv3,aqB,gs3,w3,sl3,t3,r3,_,wn3,c3⟩:=kK.G (λlx gx P=>Æ P.2.2.1) T2 _ Ti Tk gs2 w2 MH t2 U c2;apply tu.r r3 ⟨wn3.C,wn3.I⟩;let⟨g3,UF,qC,P,hr3,hs3⟩:=abR c3;exact hs3 P hr3 aqA S _ lv3 aqB gs3 sl3 t3 qC c3 P.d UF
end
end Go.Proofs.Y.iV
namespace Go.Proofs.Y.iV
open Go Go.Conc Go.Proofs Go.RowKit Go.Proofs.Y.Lift Go.Proofs.Y.gu Go.Proofs.Y.fA Go.Proofs.Y.lB
open Go.Conc.Lib Go.ConcR.Gen Go.Proofs.YtgpphkdoanciiaaGreatDoor
def iF(r:PR):Prop:=r.c.getD 4 0≠4/\r.c.getD 4 0≠5/\∀t∈r.r,t.c.getD 4 0=1\/t.c.getD 4 0=2
def Jx(r:PR):Prop:=iF r\/TG/\aaP
structure QO(r:PR):Prop extends Du r where
 M:Jx r
def QO.lo{r:PR}(h:QO r):Du r:=⟨h.c,h.I,h.n⟩
def toTx(t:PT):Tx:=⟨(t.c.getD 0 0).toNat,(t.c.getD 1 0).toNat,t.c.getD 2 0,t.c.getD 3 0,t.c.getD 4 0,t.p⟩
def toQn(r:PR):Qn:=⟨(r.c.getD 0 0).toNat,(r.c.getD 1 0).toNat,(r.c.getD 2 0).toNat,(r.c.getD 3 0).toNat,r.c.getD 4 0,r.c.getD 5 0,r.c.getD 6 0,(r.c.getD 7 0).toNat⟩
def qx:PR:=⟨[],[]⟩
def xE(a:List PR):xy where
 r:=λp=>((a.getD p qx).c.getD 5 0,((a.getD p qx).c.getD 0 0).toNat,(a.getD p qx).r.map toTx)
 C:=λp=>toQn<|a.getD p qx
def lD(a:List PR)(p:Nat):Int:=(a.getD p qx).c.getD 4 0
section
variable{r:Nat}{p:PR}{t:PT}{a:Nat}{rs:List PR}{l:fe}{V:Nat->Prop}
def toTx_ok(h:Bb t)(d:t.c.getD 4 0≠1->t.c.getD 4 0≠2->TG):(toTx t).Ok:=by have e:=h.c.r 0 A;have f:=h.c.r 1 A;have a:=h.c.r 2 A;have b:=h.c.r 3 A;simp only[ln]at e f a b;exact⟨⟨by show(t.c.getD 0 0).toNat<8;omega,by show(t.c.getD 1 0).toNat<8;omega,a.1,a.2,b.1,b.2,h.p⟩,d⟩
def QO.C(h:QO p)(x:PT)(a:x∈p.r):(toTx x).Ok:=toTx_ok (h.I x a) λb c=>by
 rcases h.M with q|q
 .rcases q.2.2 x a with e|e<;>contradiction
 .exact q.1
theorem Be(a:0<=c)(h:w.cell? ⟨b,i,Á⟩=Â (Å È c)):w.cell? ⟨b,i,Á⟩=Â (Å È (c.toNat:Nat)):=by grind
theorem aqC(h:Bb t)(k:Jw a t w):nX a (toTx t) w:=by have b:=h.c.r 0 A;have d:=h.c.r 1 A;simp only[ln]at b d;exact⟨k.r,Be b.1<|k.c 0 A,Be d.1<|k.c 1 A,k.c 2 A,k.c 3 A,k.c 4 A,k.p⟩
theorem aqD(h:QO p)(k:zq r p w):Dq r (p.c.getD 5 0) (p.c.getD 0 0).toNat (p.r.map toTx) w:=by
 have e:=h.c.r 0 A;simp only[ln]at e;let⟨f,n,i,l,m,o⟩:=k.b;let⟨s,u,v⟩:=xW (R:=λj t (y:Nat×Tx)=>y.2=toTx t/\∃d,f=Â ⟨d,0,Á⟩/\w.cell? ⟨d,j,Á⟩=Â (Ã<|Â ⟨y.1,0,Á⟩)/\Jw y.1 t w) p.r 0 λj t z=>by let⟨d,a,y,g,q⟩:=o j t z;simp_all
 refine⟨f,n,i,s,⟨Be e.1<|k.c 0 A,k.c 5 A,l⟩,⟨by rw[m,u],λj a t q=> ?_⟩,?_,by have:=h.n;omega⟩
 .let⟨x,y,g,d,D,B,C⟩:=v j (a,t) q;simp only at g B C;subst g;have E:=h.I x<|Ý y;have F:=h.C x<|Ý y;grind [aqC]
 .refine ņ λj=> ?_;unfold mO;grind
def aqE(h:QO p)(k:zq r p w):Jn r (toQn p) w:=by have a:=h.c.r 0 A;have b:=h.c.r 1 A;have d:=h.c.r 2 A;have e:=h.c.r 3 A;have f:=h.c.r 7 A;simp only[ln]at a b d e f;exact⟨Be a.1<|k.c 0 A,Be b.1<|k.c 1 A,Be d.1<|k.c 2 A,Be e.1<|k.c 3 A,k.c 4 A,k.c 5 A,k.c 6 A,Be f.1<|k.c 7 A⟩
def abS(h:QO p)(l:p.c.getD 4 0≠1):(toQn p).Ok:=by
 have d:=h.c.r 0 A;have f:=h.c.r 1 A;have g:=h.c.r 2 A;have i:=h.c.r 3 A;have j:=h.c.r 4 A;have a:=h.c.r 5 A;have b:=h.c.r 6 A;have k:=h.c.r 7 A;simp only[ln]at d f g i j a b k;refine⟨⟨?_,?_,?_,?_,?_,?_,a.1,b.1,?_⟩,λe=> ?_⟩
 .show(p.c.getD 0 0).toNat<8;omega
 .show(p.c.getD 1 0).toNat<8;omega
 .show(p.c.getD 2 0).toNat<1000000;omega
 .show(p.c.getD 3 0).toNat<18446744073709551616;omega
 .show 2<=p.c.getD 4 0;omega
 .show p.c.getD 4 0<=9;omega
 .show(p.c.getD 7 0).toNat<16;omega
 .rcases h.M with q|q
  .rcases e with e|e
   .exact absurd e q.1
   .exact absurd e q.2.1
  .exact q.2
theorem aqF(h:RQ rs v V l.w)(j:∀r∈rs,QO r)(B:mS l.w)(C:∀b,b=1\/b=2\/b=3\/b=4->l.O b)(k:∀b,V b->l.O b): ∃a d e f,v=Ç a rs.length d/\(0<rs.length->a=Â ⟨e,0,Á⟩)/\(0<rs.length->l.O e)/\(∀i,i<rs.length->l.w.cell? ⟨e,i,Á⟩=Â (Ã<|Â ⟨f i,0,Á⟩))/\(∀i,i<rs.length->l.w.cell? ⟨f i,4,Á⟩=Â (Å È<|lD rs i))/\Jo l (xE rs) (lD rs) f rs.length V:=by
 obtain⟨m,D,rfl,E⟩:=h.M;have o:∀i,i<rs.length->rs[i]?=Â (rs.getD i qx):=λi a=>by simp[Ĕ,a]
 have p:=λi a=>Ý<|o i a;obtain⟨e,s⟩:∃e,∀i,i<rs.length->m=Â ⟨e,0,Á⟩:=by
  by_cases d:0<rs.length
  .let⟨g,r,q,_⟩:=E 0 _<|o 0 d;exact⟨g,λ_ _=>q⟩
  .simp_all
 have F:∀i,∃r,i<rs.length->l.w.cell? ⟨e,i,Á⟩=Â (Ã<|Â ⟨r,0,Á⟩)/\zq r (rs.getD i qx) l.w:=λi=>by grind
 let⟨f,g⟩:=Classical.axiomOfChoice F;have u:=λd=>by have:=h.I;rw[s 0 d]at this;exact Dp this
 refine⟨m,D,e,f,U,λd=>s 0 d,λd=>k _<|u d,λi a=>(g i a).1,λi a=>(g i a).2.c 4 A,B,C,h.C,k,λi a=>(Dn<|h.C.r (u Z) (g i a).1),λi a y=> ?_,λi a y=> ?_⟩
 .have q:=j _<|p i a;have d:=q.c.r 0 A;have z:=q.c.r 5 A;simp only[ln]at d z;refine⟨aqD q (g i a).2,?_,z.1,λt G=> ?_,?_⟩
  .show((rs.getD i qx).c.getD 0 0).toNat<8;omega
  .obtain⟨x,H,rfl⟩:=à.1 G;exact q.C x H
  .show((rs.getD i qx).r.map toTx).length<=1000;rw[õ];have:=q.n;omega
 .have q:=j _<|p i a;exact⟨aqE q (g i a).2,abS q y⟩
end
theorem abT:(∀r∈(gy B).2.2,Du r)/\(gy B).2.2.length<=24:=by
 unfold gy;split
 .grind
 .split
  .unfold mo;split
   .grind
   .have:=(Ju B.size 0 s6 (Ux B)<|Ø _).1.d;exact⟨this.G,this.C⟩
  .grind
def Jy(a:∀r∈(gy B).2.2,Jx r):(∀r∈(gy B).2.2,QO r)/\(gy B).2.2.length<=24:=⟨λr h=>⟨abT.1 r h,a r h⟩,abT.2⟩
def jZ(rs:List PR)(s:List fM):List ByteArray:=(Ī rs.length).map λp=>zj (xE rs) (lD rs) p<|qm (xE rs) (ij (lD rs) rs.length) s<|fP (lD rs) p
def zr(rs:List PR)(s:List fM):List fM:=qm (xE rs) (ij (lD rs) rs.length) s<|fP (lD rs) rs.length
def jR(s:List fM)(B:ByteArray):ByteArray×Int×List fM:=
 if(gy B).1=0 then(lj ⟨#[59]⟩<|jZ (gy B).2.2 s,0,zr (gy B).2.2 s)else(⟨#[]⟩,(gy B).1,s)
section
variable{b:č}{l:fe}{a:Ģ}
def abU{md:Ķ}(I:Array Bool->Ģ->fe->Prop) (o:∀c a l i k,I c a l->i∈á md Q c->(∀f g,I (c.setIfInBounds i Í) f g->jm vQ g (G (b.at f<|Ð Q k::L) qX))->jm vQ l (G (b.at a<|Ð Q (i::k)::L) qX)) (m:∀c a l,I c a l->c.size=Q.size->á md Q c=[]->jm vQ l (G (b.at a<|Ð Q []::L) qX)): ∀(d t:Nat) (c:Array Bool) (a:Ģ) (l:fe),c.size=Q.size->jz c<=d->I c a l->jm vQ l (G (b.at a<|Ð Q (ÿ md Q d t c [])::L) qX):=by
 intro d
 induction d with
 |zero=>
  intro t c a l e p h;simpa[ÿ]using m c a l h e<|R3 e Z
 |succ d q=>
  intro t c a l e p h;simp only[ÿ];change jm vQ l (G (b.at a (Ð Q (match(á md Q c)[t%(á md Q c).length]? with
   |some i=>ÿ md Q d (t/(á md Q c).length) (c.setIfInBounds i Í) [i]
   |none=>[].reverse)::L)) qX)
  cases j:(á md Q c)[t%(á md Q c).length]? with
  |none=>
   have r:á md Q c=[]:=by
    cases s:á md Q c with
    |nil=>rfl
    |cons x n=>
     rw[s]at j;have u:t%(x::n).length<(x::n).length:=Nat.mod_lt _ fp;simp at j;simp at u;omega
   simpa using m c a l h e r
  |some i=>
   simp only[];rw[linearise_go_acc,List.reverse_singleton,List.singleton_append];have n:=Ý j;refine o c a l i _ h n λf g r=>(q _ _ f g (by simpa using e) (by have:=LW (ű.1 n).1;omega) r)
def aqG{id:Nat}(I:Array Bool->Ģ->fe->Prop)(e:ic l) (j:∀f,fI l l.w f->I (ś Q.size É) a {l with w:=f}) (k:∀g c a l i m,I c a l->i∈á g Q c->(∀n o,I (c.setIfInBounds i Í) n o->jm vQ o (G (b.at n<|Ð Q m::L) qX))->jm vQ l (G (b.at a<|Ð Q (i::m)::L) qX)) (p:∀g c a l,I c a l->c.size=Q.size->á g Q c=[]->jm vQ l (G (b.at a<|Ð Q []::L) qX)): jm vQ l (G (b.at a<|Χ (.region id Q Í)::L) qX):=by
 refine uG (.mk U λf r=>⟨_,_,_,_,stepG_region_draw,R2 (lQ e.r.r r) e.q,.fD λs d=> ?_⟩);have h:=r.fj ⟨d.r,d.I,d.N,d.Y,d.S⟩;refine⟨e.C h,U,?_⟩;unfold Region.schedule;split
 .exact abU I (k _) (p _) _ _ _ _ _ fp (by rw[EK];exact Ü _)<|j s h
 .exact abU I (k _) (p _) _ _ _ _ _ fp (by rw[EK];exact Ü _)<|j s h
def aqH{I:Ģ->fe->Prop}(W:fA.fi À Í (λa d=>∃c,d=G (b.at c<|Ð Q jJ::L) qX/\I c a) l g)(f:∀c a,I c a->ic a)(i:∀c a,I c a->jm vQ a (G (b.at c<|Ð Q jJ::L) qX)):jm vQ l g:= uG (W.ff λa d h=>by obtain⟨c,rfl,e⟩:=h;exact⟨f c a e,U,i c a e⟩)
def Dz{f:FuncId}{fn:Func}(xs:List Value)(n:Nat)(hf:Tryz.prog.funcs[f]?=some fn)(hb:fn.body=some (mg fn []):=by kernel_rfl)(hn:fn.ntmps=xs.length+n:=by kernel_rfl):Frame.enter Tryz.prog f xs.toArray .normal=(base f).at ⟨(xs++List.replicate n undef).toArray,[]⟩ [.code<|mg fn []]:=by rw[enter_at _ hf hb,hn,ń,Nat.add_sub_cancel_left,show xs.toArray++ś n Ř=(xs++Ĉ n Ř).toArray from Array.ext' fp]
def xF{J:Jd}{f:Ŕ}{args:Array Ñ}(d:Q[i]?=Â o)(e:Č o (ų Q a.tmps)=Í)(g:b.kind≠.early)(h:kn l) (j:∀w,(Ŵ a.eval o).run À w=.ok (.enter f args) w) (k:∀w,(Ŵ a.eval o).events À w #[]=#[]) (m:∀c,fI l l.w c->fA.fi À Í J {l with w:=c} (G (ê À f args ā)<|b.at a (Ð Q (i::jJ)::L)::qX)): fA.fi À Í J l (G (b.at a<|Ð Q (i::jJ)::L) qX):=by refine .mk U λc r=>⟨G (ê À f args ā)<|b.at a (Ð Q (i::jJ)::L)::qX,c,#[],{l with w:=c},?_,LK c<|lQ h r,m c r⟩;rw[stepG_enter d e g<|j c];unfold Ω;rw[k c,seen_none]
def NC{f:Ŕ}{args:Array Ñ}(e:ic l)(j:Q[i]?=Â o)(k:Č o (ų Q a.tmps)=Í)(m:b.kind≠.early) (n:∀w,(Ŵ a.eval o).run À w=.ok (.enter f args) w) (p:∀w,(Ŵ a.eval o).events À w #[]=#[]) (q:∀d,fI l l.w d->jm vQ {l with w:=d} (G (ê À f args ā)<|b.at a (Ð Q (i::jJ)::L)::qX)): jm vQ l (G (b.at a<|Ð Q (i::jJ)::L) qX):= uG (xF j k m e.r.r n p λd r=> .fD λg c=>by have h:fI l l.w g:=r.fj ⟨c.r,c.I,c.N,c.Y,c.S⟩;exact⟨e.C h,U,q g h⟩)
def iA.xl{c:fe}(e:ic l)(h:iA l c)(k:c.d=l.d):ic c:=by
 have g:∀b,¬c.I b:=by rw[h.N];exact e.rd
 have f:∀a,¬c.r a:=by rw[h.S];exact e.I
 have i:∀a,¬c.N a:=by rw[h.Y];exact e.M
 have j:∀a,¬c.K a:=by rw[h.K];exact e.k
 exact⟨⟨λb _=>g b,λa q=>(f a q).elim,λa q=>q.elim (λz=>(f a z).elim) λz=>(i a z).elim,λb q=>q.elim (λz=>h.fv b z) λz=>(g b z).elim,λa q=>q.elim (λz=>(f a z).elim) λz=>(i a z).elim,λa q=>(j a q).elim⟩,k.trans e.d,by rw[h.q];exact e.q,g,f,i,j⟩
end
def Jz:Ĝ:=⟨Â 21,.move<|ļ 0,26, "attic.go:46",#[],Á⟩
def JA:Ĝ:=⟨Â 22,.nilCheck<|ļ 21,0, "attic.go:46",#[⟨0,Ă⟩],Á⟩
def JB:Ĝ:=⟨Â 23,.fieldAddr 68 (ļ 22) 1,0, "attic.go:46",#[⟨1,Ă⟩],Á⟩
def JC:Ĝ:=⟨Â 24,.load 65<|ļ 23,65, "attic.go:46",#[⟨2,Ă⟩],Á⟩
def JD:Ĝ:=⟨Â 25,.move<|ļ 6,61, "attic.go:46",#[],Á⟩
def JF:Ĝ:=⟨Â 26,.move<|ļ 0,26, "attic.go:46",#[],Á⟩
def JG:Ĝ:=⟨Â 27,.nilCheck<|ļ 26,0, "attic.go:46",#[⟨5,Ă⟩],Á⟩
def JH:Ĝ:=⟨Â 28,.fieldAddr 68 (ļ 27) 0,0, "attic.go:46",#[⟨6,Ă⟩],Á⟩
def JJ:Ĝ:=⟨Â 29,.load 3<|ļ 28,3, "attic.go:46",#[⟨7,Ă⟩],Á⟩
def zt:Ĝ:=⟨Â 30,.call {callee:=.value<|.func 37,args:=#[ļ 24,ļ 25,ļ 29],argTypes:=#[65,61,3]},66, "attic.go:46",#[⟨3,Ă⟩,⟨4,Ă⟩,⟨8,Ă⟩],Á⟩
def Bf:Ĝ:=⟨Â 20,.move<|ļ 30,66, "attic.go:46",#[⟨9,Ă⟩],Á⟩
def DC:Ĝ:=⟨Â 31,.extract (ļ 20) 0,25, "attic.go:46",#[⟨10,Ă⟩],Á⟩
def DF:Ĝ:=⟨Â 32,.extract (ļ 20) 1,65, "attic.go:46",#[⟨10,Ă⟩,{on:=13,ground:=Ground.gcOnly Departure.lateStores}],Á⟩
def DG:Ĝ:=⟨Â 9,.assign<|ļ 31,25, "attic.go:46",#[⟨11,Ă⟩,⟨9,.chain⟩,⟨0,ë⟩,⟨1,ë⟩,⟨2,ë⟩,⟨3,ë⟩,⟨4,ë⟩,⟨5,ë⟩,⟨6,ë⟩,⟨7,ë⟩,⟨8,ë⟩,⟨9,ë⟩,⟨10,ë⟩,⟨11,ë⟩,{on:=12,ground:=Ground.textOnly Departure.lateStores}],Á⟩
def DI:Ĝ:=⟨Â 10,.assign<|ļ 32,65, "attic.go:46",#[⟨12,Ă⟩,⟨13,.chain⟩,⟨0,ë⟩,⟨1,ë⟩,⟨2,ë⟩,⟨3,ë⟩,⟨4,ë⟩,⟨5,ë⟩,⟨6,ë⟩,⟨7,ë⟩,⟨8,ë⟩,⟨9,ë⟩,⟨10,ë⟩,⟨11,ë⟩,⟨12,ë⟩,⟨13,ë⟩],Á⟩
def pg:Array Ĝ:=#[Jz,JA,JB,JC,JD,JF,JG,JH,JJ,zt,Bf,DC,DF,DG,DI]
noncomputable def UG:Code:=mg Tryz.f17 [1,1,1,1]
structure mU(l:fe)(ab n:Nat)(s:List fM)(sl:Ñ)(V:Nat->Prop):Prop where
 r:mS l.w
 C:∀b,b=1\/b=2\/b=3\/b=4->l.O b
 Y:FQ ab n sl l.w
 fg:l.O ab
 rd:RD s sl V l.w
 S:∀b,V b->l.O b
 d:¬V ab
 a:1<=n
 c:n<=8
 M:¬(ab=1\/ab=2\/ab=3\/ab=4)
structure ND(l l':fe)(ab n:Nat)(s':List fM)(V:Nat->Prop):Prop where
 wM:∀b,l.O b->b≠ab->l'.O b/\l'.w.heap[b]?=l.w.heap[b]?
 att:∃uu V',mU l' ab n s' uu V'/\∀b,V' b->V b\/(b=1\/b=2\/b=3\/b=4)\/l.w.heap.size<=b
section
variable{l d:fe}{ab:Nat}{s:List fM}{sl:Ñ}{V:Nat->Prop}
def mU.I{a:fe}(h:mU l ab n s sl V)(c:∀b,l.O b->a.O b)(d:∀b,l.O b->a.w.heap[b]?=l.w.heap[b]?)(e:l.w.heap.size<=a.w.heap.size):mU a ab n s sl V:= ⟨h.r.r (Ï h.r.fv e) λb q=>d b<|h.C b q,λb q=>c b<|h.C b q,h.Y.r<|d ab h.fg,c ab h.fg,h.rd.r λb q=>d b<|h.S b q,λb q=>c b<|h.S b q,h.d,h.a,h.c,h.M⟩
def kq(ab:Nat)(n:Nat)(sl rs:Ñ)(x:Value×Value):Nat->Ñ
 |0=>Ã<|Â ⟨ab,0,Á⟩
 |1=>Ã<|Â ⟨ab,0,Á⟩
 |2=>Ã<|Â ⟨ab,1,Á⟩
 |3=>sl
 |4=>rs
 |5=>Ã<|Â ⟨ab,0,Á⟩
 |6=>Ã<|Â ⟨ab,0,Á⟩
 |7=>Ã<|Â ⟨ab,0,Á⟩
 |8=>Å È n
 |9=>è #[x.1,x.2]
 |10=>è #[x.1,x.2]
 |11=>x.1
 |12=>x.2
 |13=>x.1
 |14=>x.2
 |_=>Ř
def xG(d:fe)(V:Nat->Prop)(rs:List PR)(s:List fM)(listed:Array Bool)(x:Value×Value)(l:fe):Prop:=
 ic l/\(listed.getD 9 É=É->gd fh d l)/\(listed.getD 9 É=Í->∃a e p m c,gd fh d a/\x=(Ç (Â ⟨e,0,Á⟩) rs.length rs.length,Ç p m c)/\A8 (λb=>V b\/b=1\/b=2\/b=3\/b=4) (xE rs) rs.length (lD rs) s a e (Ç p m c) l)
def xG.kj{V:Nat->Prop}{a:List PR}{s:List fM}{listed:Array Bool}{x:Value×Value}(h:xG d V a s listed x l)(b:i≠9){w₁:Ë}(r:fI l l.w w₁):xG d V a s (listed.setIfInBounds i Í) x {l with w:=w₁}:=by
 have e:(listed.setIfInBounds i Í).getD 9 É=listed.getD 9 É:=by simp[Array.getD_eq_getD_getElem?,Array.getElem?_setIfInBounds_ne b]
 refine⟨h.1.C r,λq=> ?_,λq=> ?_⟩
 .rw[e]at q;exact(h.2.1 q).G r
 .rw[e]at q;let⟨f,g,p,m,c,j,k,n⟩:=h.2.2 q;exact⟨f,g,p,m,c,j,k,n.N r⟩
theorem aqI{D:Array Ñ}{I:List PR}(J:mU d ab n s sl V)(T:D.size=39)(W:D[0]?=Â (Ã<|Â ⟨ab,0,Á⟩))(Y:D[6]?=Â z) (md:Ķ) (listed:Array Bool) (a:Ģ) (l:fe) (i:Nat) (O:List Nat) (hI:II pg D (kq ab n sl z) (xG d X I s) listed a l) (p:i∈á md pg listed) (F:i≠9): fA.fi À Í (λc e=>∃b,e=G ((base 17).at b<|Ð pg O::L) qX/\II pg D (kq ab n sl z) (xG d X I s) (listed.setIfInBounds i Í) b c) l (G ((base 17).at a<|Ð pg (i::O)::L) qX):=by
 let⟨x,g,H⟩:=hI;have t:rA pg D.size=Í:=by rw[T];decide
 have K:=At p;have u:=H.1.r.r;have y:=H.1.q;have P:=(g.C A).trans W;have Bg:=(g.C A).trans Y;have B:∀c,fI l l.w c->xG d X I s (listed.setIfInBounds i Í) x {l with w:=c}:=λc r=>H.kj F r;let⟨fr,kz,_⟩:=J.Y;have early:∀m,m<15->listed.getD m É=É->(∃e,e∈zt.after/\e.on=m/\vx e=Í)->listed.getD 9 É=É:=λm _ hm ⟨e,h1,h2,h3⟩=>by
  cases q:listed.getD 9 É with
  |false=>rfl
  |true=>
   have:=g.S 9 zt e U q h1 h3;rw[h2,hm]at this;cases this
 have iO:pg.size=15:=A
 rw[iO]at K;have Pf:listed.getD i É=É:=by have:=(ű.1 p).1;grind
 have S:∀{j v},(∃e,e∈zt.after/\e.on=i/\vx e=Í)->#[Å È n,sl][j]?=Â v->gQ l ⟨ab,j,Á⟩/\l.w.cell? ⟨ab,j,Á⟩=Â v:=λq h=>by have b:=H.2.1<|early i K Pf q;exact⟨Æ<|b.M<|Æ J.fg,(gK<|b.r ab (Æ J.fg) id).trans<|by simp[Û,kz,h]⟩
 match i,K,F with
 |9,_,F=>exact absurd U F
 |0,_,_=>
  exact iu (o:=Jz) t g U U p (by k_ne) u y (λc r=>by simp only[kq,Jz];go_simp) (λc r e f=>by simp[go_sem,Jz,P]at f) B
 |1,_,_=>
  have b:=g.r 0 Jz 21 U (il p U U) U;simp only[kq]at b;exact iu (o:=JA) t g U U p (by k_ne) u y (λc r=>by simp only[kq,JA];go_simp) (λc r e f=>by simp[go_sem,JA,b]at f) B
 |2,_,_=>
  have b:=g.r 1 JA 22 U (il p U U) U;simp only[kq]at b;exact iu (o:=JB) t g U U p (by k_ne) u y (λc r=>by simp only[kq,JB];go_simp) (λc r e f=>by simp[go_sem,JB,b]at f) B
 |3,_,_=>
  have b:=g.r 2 JB 23 U (il p U U) U;simp only[kq]at b;let⟨C,E⟩:=S (j:=1) ⟨⟨3,Ă⟩,by simp[zt],U,U⟩ U;refine iu (o:=JC) t g U U p (by k_ne) u y (λc r=> ?_) (λc r e f=> ?_) B
  .have N:=(C.r r).trans E;simp only[kq,JC];go_simp
  .have N:=(C.r r).trans E;simp[go_sem,JC,b,N]at f;subst f;exact C.rd
 |4,_,_=>
  exact iu (o:=JD) t g U U p (by k_ne) u y (λc r=>by simp only[kq,JD];go_simp) (λc r e f=>by simp[go_sem,JD,Bg]at f) B
 |5,_,_=>
  exact iu (o:=JF) t g U U p (by k_ne) u y (λc r=>by simp only[kq,JF];go_simp) (λc r e f=>by simp[go_sem,JF,P]at f) B
 |6,_,_=>
  have b:=g.r 5 JF 26 U (il p U U) U;simp only[kq]at b;exact iu (o:=JG) t g U U p (by k_ne) u y (λc r=>by simp only[kq,JG];go_simp) (λc r e f=>by simp[go_sem,JG,b]at f) B
 |7,_,_=>
  have b:=g.r 6 JG 27 U (il p U U) U;simp only[kq]at b;exact iu (o:=JH) t g U U p (by k_ne) u y (λc r=>by simp only[kq,JH];go_simp) (λc r e f=>by simp[go_sem,JH,b]at f) B
 |8,_,_=>
  have b:=g.r 7 JH 28 U (il p U U) U;simp only[kq]at b;let⟨C,E⟩:=S (j:=0) ⟨⟨8,Ă⟩,by simp[zt],U,U⟩ U;refine iu (o:=JJ) t g U U p (by k_ne) u y (λc r=> ?_) (λc r e f=> ?_) B
  .have N:=(C.r r).trans E;simp only[kq,JJ];go_simp
  .simp[go_sem,JJ,b,(C.r r).trans E]at f;subst f;exact C.rd
 |10,_,_=>
  have b:=g.r 9 zt 30 U (il p U U) U;simp only[kq]at b;exact iu (o:=Bf) t g U U p (by k_ne) u y (λc r=>by simp only[kq,Bf];go_simp) (λc r e f=>by simp[go_sem,Bf,b]at f) B
 |11,_,_=>
  have b:=g.r 10 Bf 20 U (il p U U) U;simp only[kq]at b;exact iu (o:=DC) t g U U p (by k_ne) u y (λc r=>by simp only[kq,DC];go_simp) (λc r e f=>by simp[go_sem,DC,b]at f) B
 |12,_,_=>
  have b:=g.r 10 Bf 20 U (il p U U) U;simp only[kq]at b;exact iu (o:=DF) t g U U p (by k_ne) u y (λc r=>by simp only[kq,DF];go_simp) (λc r e f=>by simp[go_sem,DF,b]at f) B
 |13,_,_=>
  have b:=g.r 11 DC 31 U (il p U U) U;simp only[kq]at b;exact iu (o:=DG) t g U U p (by k_ne) u y (λc r=>by simp only[kq,DG];go_simp) (λc r e f=>by simp[go_sem,DG,b]at f) B
 |14,_,_=>
  have b:=g.r 12 DF 32 U (il p U U) U;simp only[kq]at b;exact iu (o:=DI) t g U U p (by k_ne) u y (λc r=>by simp only[kq,DI];go_simp) (λc r e f=>by simp[go_sem,DI,b]at f) B
end
def aqJ(x y:Ñ)(n:Nat)(a:List č):G (ê À 37 #[x,y,Å È n] ā) a=Fe x y n a:=by unfold Fe;rw[enter_at #[x,y,Å È n] Ž (c:=mg Tryz.f37 []) fx];kernel_rfl
section
variable{l g:fe}{s:List fM}{V:Nat->Prop}{d:List PR}
theorem aqK{F:Array Ñ}(D:mU g i n s x V)(W:RQ d v X g.w)(M:∀b,X b->g.O b)(Y:∀r∈d,QO r)(Cq:d.length<=24)(ht:F.size=39) (md:Ķ) (listed:Array Bool) (a:Ģ) (l:fe) (N:List Nat) (hI:II pg F (kq i n x v) (xG g (λb=>V b\/X b) d s) listed a l) (B:9∈á md pg listed) (hn:∀P E,II pg F (kq i n x v) (xG g (λb=>V b\/X b) d s) (listed.setIfInBounds 9 Í) P E->jm vQ E (G ((base 17).at P<|Ð pg N::L) qX)): jm vQ l (G ((base 17).at a<|Ð pg (9::N)::L) qX):=by
 let⟨t,y,Q⟩:=hI;have Pf:=(ű.1 B).1;have h9s:9<listed.size:=by grind
 have H:listed.getD 9 É=É:=by grind
 have e24:a.tmps[24]?=Â x:=y.r 3 JC 24 U (il B U U) U;have e25:a.tmps[25]?=Â v:=y.r 4 JD 25 U (il B U U) U;have e29:a.tmps[29]?=Â (Å È n):=y.r 8 JJ 29 U (il B U U) U;have late:∀(S:Value×Value) j,listed.getD j É=Í->kq i n x v S j=kq i n x v t j:=λS j u=>by
  have c:listed.getD 10 É=É:=by
   cases q:listed.getD 10 É with
   |false=>rfl
   |true=>exact absurd (y.S 10 Bf ⟨9,Ă⟩ U q (by simp[Bf]) U)<|by rw[H];decide
  have e:listed.getD 11 É=É:=by
   cases q:listed.getD 11 É with
   |false=>rfl
   |true=>exact absurd (y.S 11 DC ⟨10,Ă⟩ U q (by simp[DC]) U)<|by rw[c];decide
  have h:listed.getD 12 É=É:=by
   cases q:listed.getD 12 É with
   |false=>rfl
   |true=>exact absurd (y.S 12 DF ⟨10,Ă⟩ U q (by simp[DF]) U)<|by rw[c];decide
  have m:listed.getD 13 É=É:=by
   cases q:listed.getD 13 É with
   |false=>rfl
   |true=>exact absurd (y.S 13 DG ⟨11,Ă⟩ U q (by simp[DG]) U)<|by rw[e];decide
  have p:listed.getD 14 É=É:=by
   cases q:listed.getD 14 É with
   |false=>rfl
   |true=>exact absurd (y.S 14 DI ⟨12,Ă⟩ U q (by simp[DI]) U)<|by rw[h];decide
  match j with
  |9=>rw[H]at u;cases u
  |10=>rw[c]at u;cases u
  |11=>rw[e]at u;cases u
  |12=>rw[h]at u;cases u
  |13=>rw[m]at u;cases u
  |14=>rw[p]at u;cases u
  |0|1|2|3|4|5|6|7|8=>rfl
  |j+15=>rfl
 refine NC (f:=37) (args:=#[x,v,Å È n]) Q.1 (o:=zt) U (Hl U _) (by k_ne) (λw=> ?_) (λw=> ?_) λw₁ r=> ?_
 .simp only[zt];go_simp
 .exact ĥ U Ž U U #[]
 have z:=(Q.2.1 H).G r;have C:=D.I (λb q=>z.O b q) (λb q=>z.r b (Æ q) id) z.I;have T:=λb q=>z.O b<|M b q;obtain⟨ra,cr,rb,rq,rfl,AK,Ff,Iq,Ir,ready⟩:=aqF (W.r λb q=>z.r b (Æ<|M b q) id) Y C.r C.C T;obtain⟨I,J,K,rfl⟩:∃I J K,x=Ç I J K:=by let⟨_,_,_,⟨I,J,K,e,_⟩,_⟩:=D.rd;grind
 rw[aqJ];refine aqz AK (λh=>Æ<|Ff h) Iq Ir ready ⟨λb q=>Æ<|Î q,λb q=>Î q⟩ (λb q=>q.elim (λq=>q.elim (C.S b)<|T b)<|C.C b) (λb q=>Æ<|Æ q) C.rd D.a (by have:=D.c;omega) λE e p m c h hT=> ?_;refine hn _ E ⟨(Ç (Â ⟨e,0,Á⟩) d.length d.length,Ç p m c),(y.G<|late _).fO (by rw[ht];decide) U B λ_=>rfl,h,λq=> ?_,λ_=>⟨_,e,p,m,c,z,U,hT⟩⟩;simp_all
end
section
variable{l o l4:fe}{ab:Nat}{s:List fM}{sl:Ñ}{V:Nat->Prop}{rs:List PR}
structure abV(l l4:fe)(ab n:Nat)(s:List fM)(sl:Ñ)(V:Nat->Prop)(rs:List PR)(an:Nat)(uu:Ñ):Prop where
 r:∀b,l.O b->l4.O b/\l4.w.heap[b]?=l.w.heap[b]?
 fv:nB<=l4.w.heap.size
 C:l4.O an/\we an (jZ rs s) l4.w/\kY l4.w an=Â (0,0)
 IE:∃V',RD (zr rs s) uu V' l4.w/\(∀b,V' b->l4.O b)/\¬V' ab/\∀b,V' b->V b\/(b=1\/b=2\/b=3\/b=4)\/l.w.heap.size<=b
def aqL{kd:Nat->Int}(h:∀p,p<rs.length->w.cell? ⟨i,p,Á⟩=Â (Ä<|zj (xE rs) (lD rs) p<|qm (xE rs) (ij (lD rs) rs.length) s<|fP (lD rs) p))(d:w.cell? ⟨i,rs.length,Á⟩=Á):we i (jZ rs s) w:=by refine⟨λp x a=> ?_,by unfold jZ;simpa using d⟩;unfold jZ at a;rw[ć]at a;obtain⟨q,e,rfl⟩:=ì.1 a;let⟨b,c⟩:=Ô.1 e;simp at b c;subst c;exact h p b
def NG:(jZ rs s).length=rs.length:=by simp[jZ]
def aqM:nB<=5:=by show À.globals.size<=5;decide+kernel
def aqN{f:fe}{p:Option ù}(d:mU l ab n s sl V)(t:gq l)(u:∀b,X b->l.w.heap.size<=b)(v:∀b,l.O b->o.O b/\o.w.heap[b]?=l.w.heap[b]?)(x:l.w.heap.size<=o.w.heap.size)(y:gq l4)(e:gd fh o f)(a:A8 (λb=>(V b\/X b)\/b=1\/b=2\/b=3\/b=4) (xE rs) rs.length (lD rs) s f i (Ç p m j) l4):abV l l4 ab n s sl V rs i (Ç p m j):=by
 have g:∀b,l.O b->l4.O b/\l4.w.heap[b]?=l.w.heap[b]?:=λb q=>by let⟨z,h⟩:=v b q;let⟨k,r⟩:=a.M b<|e.O b z;exact⟨k,r.trans<|(e.r b (Æ z) id).trans h⟩
 refine⟨g,?_,⟨a.r.1,aqL (kd:=lD rs) a.r.2 a.I.1,a.I.2⟩,?_⟩
 .have:=y.fv 4<|Æ (g 4<|d.C 4 A).1;have:=aqM;omega
 .let⟨h,B,k⟩:=a.S;have r:∀b,h b->V b\/(b=1\/b=2\/b=3\/b=4)\/l.w.heap.size<=b:=λb q=>by
   rcases(k b q).2 with((z|z)|z)|z
   .exact Æ z
   .exact Î<|Î<|u b z
   .exact Î<|Æ z
   .exact Î<|Î<|Ï (Ï x e.I) z
  refine⟨h,B,λb q=>(k b q).1,λq=> ?_,r⟩;rcases r ab q with z|z|z
  .exact d.d z
  .exact d.M z
  .have:=t.fv ab<|Æ d.fg;omega
def aqO{f:fe}{p:Option ù}(d:mU l ab n s sl V)(h:abV l l4 ab n s sl V rs i (Ç p m j))(E:gq l4)(g:∀b,l4.O b->f.O b)(r:∀b,l4.O b->f.w.heap[b]?=(l4.w.setCell ⟨ab,1,Á⟩<|Ç p m j).heap[b]?)(v:l4.w.heap.size<=f.w.heap.size):ND l f ab n (zr rs s) V:=by
 let⟨x,y,t,u,z⟩:=h.IE;have k:∀b,l4.O b->b≠ab->f.w.heap[b]?=l4.w.heap[b]?:=λb q e=>(r b q).trans<|lF (a:=⟨ab,1,Á⟩) e;have o:=h.r ab d.fg;refine⟨λb q e=>⟨g b (h.r b q).1,(k b (h.r b q).1 e).trans (h.r b q).2⟩,Ç p m j,x,⟨?_,λb q=>g b (h.r b<|d.C b q).1,?_,g ab o.1,y.r λb q=>k b (t b q) λe=>u<|e▸q,λb q=>g b<|t b q,u,d.a,d.c,d.M⟩,z⟩
 .exact d.r.r (Ï h.fv v) λb q=>(k b (h.r b<|d.C b q).1 λe=>d.M<|e▸q).trans (h.r b<|d.C b q).2
 .let⟨B,C,D⟩:=d.Y;refine⟨B,?_,D⟩;rw[r ab o.1];unfold Ū;simp[Į,o.2,C]
def aqP{J:Jd}(b:kn l)(d:fA.fi À Í J l (G (f.at (y.put ((Q[i]?).bind (·.dst))<|Ä ⟨#[]⟩)<|Ð Q jJ::L) qX)): fA.fi À Í J l (G (ê À 38 #[Ç O 0 j,Ä B] ā)<|f.at y (Ð Q (i::jJ)::L)::qX):=by
 have hF:True:=trivial;rw[Dz [_,_] 73 Ď];simp only[Ĉ,Ħ,ī];conv in mg _ _=>whnf
 apply fR (n:=60) b;repeat w_go fy
 u_in fy hF
 refine ž (t:=4) U U Ď U ⟨by u_nil,?_⟩;refine ă λ_ _=> ?_;exact d
def we.I{w':Ë}{xs:List ByteArray}(h:we i xs w)(k:w'.heap[i]?=w.heap[i]?):we i xs w':= ⟨λp x a=>xD k<|h.r p x a,by have:=h.C;simp only[Û,k]at this|-;exact this⟩
def aqQ{xs:List ByteArray}(g:mS w)(h:we i xs w):lI i=É:=by
 have b:∀e,Nj i e w->False:=λe ⟨c,o,j,_,_,d,l⟩=>by
  have f:w.cell? ⟨i,0,Á⟩=Â c[0]:=by simp only[Û,j,í,ç,if_false];exact â d
  rcases ě xs.length with q|q
  .have a:=h.C;rw[q,f]at a;cases a
  .have a:=h.r 0 _<|Ò q;let⟨k,n,m⟩:=l c[0]<|é.2<|ú d;rw[f,m]at a;cases a
 cases q:lI i with
 |false=>rfl
 |true=>
  unfold lI at q;simp at q;rcases q with rfl|rfl
  .exact(b _ g.I).elim
  .exact(b _ g.C).elim
def iA.aqR(a:kn l)(r:fI l l.w u):iA l {l with w:=u}:=⟨λ_ q=>q,λ_ q=>Æ q,U,U,U,U,U,r,lQ a r⟩
def aqS{a:Ģ}{xs:List ByteArray}(b:ic l)(j:nB<=l.w.heap.size)(h:we n xs l.w)(m:l.O n)(o:lI n=É)(p:kY l.w n=Â (0,0))(s:xs.length<=1000){N:Nat}(t:xs.length=N)(u:B.size=1)(v:jd xs+xs.length<=140737488355328): fA.fi À Í (λc g=>iA l c/\c.d=l.d/\g=G (f.at (a.put ((Q[i]?).bind (·.dst))<|Ä<|lj B xs)<|Ð Q jJ::L) qX) l (G (ê À 38 #[Ç (Â ⟨n,0,Á⟩) N N,Ä B] ā)<|f.at a (Ð Q (i::jJ)::L)::qX):=by
 subst t;rcases ě xs.length with e|e
 .have x:=ã e;subst x;exact aqP b.r.r<|.fD λy r=>⟨iA.aqR b.r.r r,U,U⟩
 .refine(aqt b.r b.q j h e (Æ m) o p s u v Í _ qX).ff ?_;rintro c g ⟨r,x,rfl⟩;exact⟨r,x,by rw[Ŝ]⟩
def aqT{N:Array Ñ}{cf:č}(C:mU l ab n s sl V)(Fg:gq l)(UH:∀b,X b->l.w.heap.size<=b)(hl:∀b,l.O b->o.O b/\o.w.heap[b]?=l.w.heap[b]?)(iO:l.w.heap.size<=o.w.heap.size)(Cq:rs.length<=24)(wS:jd (jZ rs s)+rs.length<=140737488355328)(ht:N.size=39)(ht0:N[0]?=Â (Ã<|Â ⟨ab,0,Á⟩)) (hJ:∀P,ic P->ND l P ab n (zr rs s) V->jm vQ P (G (cf.at (y.put ((Q[i]?).bind (·.dst))<|è #[Ä<|lj ⟨#[59]⟩<|jZ rs s,Å È 0])<|Ð Q jJ::L) qX)) (md:Ķ) (listed:Array Bool) (a:Ģ) (l4:fe) (hI:II pg N (kq ab n sl v) (xG o (λb=>V b\/X b) rs s) listed a l4) (H:listed.size=pg.size) (I:á md pg listed=[]): jm vQ l4 (G ((base 17).at a<|Ð pg []::[Χ UG])<|cf.at y (Ð Q (i::jJ)::L)::qX):=by
 have hF:True:=trivial;let⟨x,D,g,_,hS⟩:=hI;have J:∀i∈Ī 15,listed.getD i É=Í:=by
  cases md
  .exact qe I H (Ī 15) [] fL λi c=>by cases c
  .exact λi c=>qe I H [0,1,2,3,4,5,6,7,8,9,10,11,13,12,14] [] fL (λi c=>by cases c) i (by have:=ť.1 c;revert i;decide)
  .exact qe I H (Ī 15) [] fL λi c=>by cases c
 obtain⟨l1,r,p,m,c,k1,rfl,hT⟩:=hS<|J 9 A;have h:=aqN (rs:=rs) C Fg UH hl iO g.r k1 hT;let⟨F,ds⟩:=a;obtain rfl:ds=[]:=D.M;have S:F[0]?=Â (Ã<|Â ⟨ab,0,Á⟩):=(D.C A).trans ht0;have T:F[9]?=Â (Ç (Â ⟨r,0,Á⟩) rs.length rs.length):=D.r 13 DG 9 U (J 13 A) U;have W:F[10]?=Â (Ç p m c):=D.r 14 DI 10 U (J 14 A) U;have CZ:F.size=39:=D.b.trans ht;clear D J hS hT k1 I H;obtain⟨u,rfl⟩:=Aw F CZ;simp only[List.getElem?_toArray,ć,List.getElem?_range,Nat.reduceLT,ø,Ó]at S T W;simp only[Ī,List.range.loop,List.map,S,T,W];clear S T W CZ;let⟨fr,kz,hfr⟩:=C.Y;let⟨abW,hab⟩:=h.r ab C.fg;have Y:l4.w.heap[ab]?=Â (ä #[Å È n,sl] 68 (0,0)):=by rw[hab,kz,hfr]
 have c1:l4.w.cell? ⟨ab,1,Á⟩=Â sl:=by simp[Û,Y]
 have z1:l4.w.frozen? ⟨ab,1,Á⟩=É:=by simp[World.frozen?,Y]
 have CI:=g.q;apply uG;apply fR (n:=20) g.r.r;conv in UG=>whnf
 iterate 7 w_go fy
 refine ă λ_ _=> ?_;apply E8 (p:=ab) (off:=1) (v:=Ç p m c) (u:=sl) U U (by k_ne) g.r.r CI abW c1 z1 U (λw z B=>by go_simp) (λw z B=>by simp[go_sem,events_store _ _ _ _ _ _ (show Value.oneCell' (Ç p m c)=Í from rfl),z,B]);have k5:=HQ (X:=λb=>b=ab) (p:=ab) (w':=l4.w.setCell ⟨ab,1,Á⟩<|Ç p m c) g.r (fI.fV _ _) abW U fA.kg λj hj=>fA.lF hj;have sN:=k5.N g.r;have auF:(l4.w.setCell ⟨ab,1,Á⟩<|Ç p m c).heap.size=l4.w.heap.size:=fA.kg;have rC:ic ({l4 with w:=l4.w.setCell ⟨ab,1,Á⟩ (Ç p m c)}:fe):=⟨sN,g.d,g.q,g.rd,g.I,g.M,g.k⟩;have c0:l4.w.cell? ⟨ab,0,Á⟩=Â (Å È n):=by simp[Û,Y]
 have aqU:r≠ab:=λe=>by
  rcases ě (jZ rs s).length with q|q
  .have z:=h.C.2.1.C;rw[q,e,c0]at z;cases z
  .have B:=h.C.2.1.r 0 _<|Ò q;rw[e,c0]at B;cases B
 have abX:(l4.w.setCell ⟨ab,1,Á⟩<|Ç p m c).heap[r]?=l4.w.heap[r]?:=fA.lF (a:=⟨ab,1,Á⟩) aqU;have zi:=h.C.2.1.I abX;have Cr:kY (l4.w.setCell ⟨ab,1,Á⟩<|Ç p m c) r=Â (0,0):=(yl abX).trans h.C.2.2;have aqV:lI r=É:=aqQ (C.r.r h.fv λb q=>(h.r b<|C.C b q).2) h.C.2.1;have hlen:(jZ rs s).length=rs.length:=NG;apply fR (n:=20) sN.r;iterate 4 w_go fy
 refine ă λ_ _=> ?_;refine xF (f:=38) (args:=#[Ç (Â ⟨r,0,Á⟩) rs.length rs.length,Ä ⟨#[59]⟩]) U fL (by k_ne) sN.r (λw=>by go_simp) (λw=>ĥ U Ď U U #[]) λw₁ E=> ?_;have Bg:=rC.C E;have aqW:we r (jZ rs s) w₁:=zi.I<|E.I r<|Æ h.C.1;refine fA.fi.ma ?_ (aqS (xs:=jZ rs s) Bg (Ï (by rw[fA.kg];exact h.fv) E.r) aqW h.C.1 aqV ((yl<|E.I r<|Æ h.C.1).trans Cr) Z hlen U Z);rintro K g6 ⟨M,hd,rfl⟩;have uH:ic K:=iA.xl Bg M hd;have hk6:∀b,l4.O b->K.w.heap[b]?=(l4.w.setCell ⟨ab,1,Á⟩<|Ç p m c).heap[b]?:=λb q=>(M.r.I b<|Æ q).trans<|E.I b<|Æ q;have hs6:l4.w.heap.size<=K.w.heap.size:=by have z:=M.r.r;have B:=E.r;have h3:(l4.w.setCell ⟨ab,1,Á⟩<|Ç p m c).heap.size=l4.w.heap.size:=fA.kg;exact Ï (Nat.le_of_eq h3.symm)<|Ï B z
 have B:∀b,l4.O b->K.O b:=λb q=>M.O b q;generalize lj ⟨#[59]⟩ (jZ rs s)=ans at*;walk_nrm;apply fR (n:=20) uH.r.r;repeat w_go fy
 u_in fy hF
 refine ſ (t:=4) (u:=5) U U ř U ⟨by u_nil,?_⟩;refine ă λ_ _=> ?_;refine .fD λBE z=>⟨uH.C z,U,hJ _ (uH.C z)<|aqO C h g.r B (λb q=>(z.I b<|Æ<|B b q).trans<|hk6 b q)<|Ï hs6 z.r⟩
end
section
variable{l:fe}{s:List fM}
theorem aqX{e:fe}{c:Nat->Prop}{g:List PR}(B:mU l j n s v X)(C:gq l)(D:mU e j n s v X)(k:ic e)(W:RQ g z c e.w)(Y:∀b,c b->e.O b)(UI:∀r∈g,QO r)(E:g.length<=24)(F:∀b,c b->l.w.heap.size<=b)(H:∀b,l.O b->e.O b/\e.w.heap[b]?=l.w.heap[b]?)(I:l.w.heap.size<=e.w.heap.size)(J:jd (jZ g s)+g.length<=140737488355328)(t:d.size=39)(u:d[0]?=Â (Ã<|Â ⟨j,0,Á⟩))(K:d[6]?=Â z) (M:∀h,ic h->ND l h j n (zr g s) X->jm vQ h (G (f.at (y.put ((Q[i]?).bind (·.dst))<|è #[Ä<|lj ⟨#[59]⟩<|jZ g s,Å È 0])<|Ð Q jJ::L) qX)): jm vQ e (G ((base 17).at ⟨d,[]⟩<|Χ (.region 4 pg Í)::[Χ UG])<|f.at y (Ð Q (i::jJ)::L)::qX):=by
 refine aqG (II pg d (kq j n v z)<|xG e (λb=>X b\/c b) g s) k (λa x=> ?_) (λm o a l i jJ p N P=> ?_) λm o a l p S T=> ?_
 .refine⟨(Ř,Ř),lR.Y _ _ _,k.C x,λ_=>(gd.fV k.r.r).G x,λq=> ?_⟩;exact absurd q A
 .by_cases V:i=9
  .grind [aqK]
  .exact aqH (aqI D t u K m o a l i jJ p N V) (λN h q=>by let⟨x,_,q⟩:=q;exact q.1) P
 .exact aqT B C F H I E J t u M m o a l p S T
def aqY(J:∀r∈(gy B).2.2,Jx r)(p:ic l)(t:mU l j n s v X)(K:B.size<=Ĳ)(M:(gy B).1=0->jd (jZ (gy B).2.2 s)+(gy B).2.2.length<=140737488355328) (u:∀C,ic C->ND l C j n (jR s B).2.2 X->jm vQ C (G (f.at (y.put ((Q[i]?).bind (·.dst))<|è #[Ä (jR s B).1,Å È (jR s B).2.1])<|Ð Q jJ::L) qX)): jm vQ l (G (ê À 17 #[Ã<|Â ⟨j,0,Á⟩,Ä B] ā)<|f.at y (Ð Q (i::jJ)::L)::qX):=by
 have hF:=trivial;rw[Dz [_,_] 37 ř];simp only[Ĉ,Ħ,ī];conv in mg _ _=>whnf
 apply uG;apply fR (n:=20) p.r.r;iterate 8 w_go fy
 refine ă λ_ _=> ?_;refine xF (f:=36) (args:=#[Ä B]) U fL (by k_ne) p.r.r (λw=>by go_simp) (λw=>ĥ U ĳ U U #[]) λw₁ m=> ?_;have D:=p.C m;refine fA.fi.ma ?_<|aql D.r D.q (Ï t.r.fv m.r) K Í _ _;rintro x g1 ⟨z,N,a,rfl,P⟩;have g:=iA.xl D z N;have h:∀b,l.O b->x.O b/\x.w.heap[b]?=l.w.heap[b]?:=λb q=>⟨z.O b q,(z.r.I b<|Æ q).trans<|m.I b<|Æ q⟩;have H:=Ï m.r z.r.r;rw[Ŝ];by_cases k:(gy B).1=0
 .have E:jR s B=(lj ⟨#[59]⟩<|jZ (gy B).2.2 s,0,zr (gy B).2.2 s):=if_pos k;let⟨c,S,F⟩:=P k;have T:=M k;rw[E]at u;let⟨V,W⟩:=Jy J;rw[k];generalize(gy B).2.2=rs at*;generalize(gy B).2.1=at1 at*;walk_nrm;apply fR (n:=40) g.r.r;repeat w_go fy
  refine ă λ_ _=> ?_;refine .fD λo d=>⟨g.C d,U,?_⟩;have Y:=g.C d;have e:∀b,l.O b->({x with w:=o}:fe).O b/\o.heap[b]?=l.w.heap[b]?:=λb q=>⟨(h b q).1,(d.I b<|Æ (h b q).1).trans (h b q).2⟩;have I:=Ï H d.r;have aqZ:=t.I (λb q=>(e b q).1) (λb q=>(e b q).2) I;have vE:=S.r λb q=>d.I b<|Æ (F b q).1;have hQ3:=λb q=>(F b q).1;have UH:=λb q=>Ï m.r (F b q).2;exact aqX t p.r aqZ Y vE hQ3 V W UH e I T U U U u
 .have E:jR s B=(⟨#[]⟩,(gy B).1,s):=if_neg k;rw[E]at u;have c:((gy B).1 !=0)=Í:=by rwa[bne_iff_ne]
  generalize(gy B).1=er at*;generalize(gy B).2.1=at1 at*;walk_nrm;apply fR (n:=40) g.r.r;repeat w_go fy
  u_in fy hF
  refine ſ U U ř U ⟨by u_nil,?_⟩;refine ă λ_ _=> ?_;refine .fD λo d=>⟨g.C d,U,u _ (g.C d) ?_⟩;have e:∀b,l.O b->({x with w:=o}:fe).O b/\o.heap[b]?=l.w.heap[b]?:=λb q=>⟨(h b q).1,(d.I b<|Æ (h b q).1).trans (h b q).2⟩;exact⟨λb q _=>e b q,v,X,t.I (λb q=>(e b q).1) (λb q=>(e b q).2)<|Ï H d.r,λb q=>Æ q⟩
end
def UJ{M:Nat}(a:∀z∈vX,z.size<=M)(b:M<=100)(c:vX.length<=400000):(vP vX).size<=100000000:=by
 unfold vP;split
 .decide
 .have d:=Ub ⟨#[44]⟩ U vX;have e:=Jh vX a;have:M*vX.length<=100*400000:=ş b c;omega
theorem FR(i:Nat):(ov i).size<=3:=by
 unfold ov nY;rw[î];split
 .show 1+1<=3;decide
 .show 1+2<=3;decide
theorem abY(s:gu.St)(x y:Nat)(k:Int):∀(m i:Nat),i+m<=1000->(Je s x y k i m).size<=20
 |0,i,_=>by unfold Je;decide
 |m+1,i,h=>by
  unfold Je;split
  .exact uz i Z
  .exact abY s x y k m (i+1) Z
theorem aq0(s t:gu.St):(lh s t 8).length<=400000:=by
 unfold lh;have a:∀l:List Nat,(l.flatMap<|xv s t).length<=18*l.length:=λl=>by
  induction l with
  |nil=>simp
  |cons i l b=>
   rw[List.flatMap_cons,Õ,ý];have:(xv s t i).length<=18:=by unfold xv;grind [Õ,Nb,Nc]
   omega
 grind
theorem aq1{g:List (Nat×fM)}{q:Qn}(i:kx (kC g))(ok:q.Ok):(sY g q).size<=100000000:=by
 unfold sY;split
 .grind [FR]
 .rename_i p j;let⟨a,d,l,m⟩:=i.r _<|à.2 ⟨p,Jb j,U⟩;have h:∀u,u<18446744073709551616->(iM u).size<=100000000:=λu k=>by have:=uz u k;omega
  unfold rW;split
  .have b:=d.C q.x q.I;exact h _ (by have:=b.1;have:=b.2;omega)
  .split
   .have b:=d.ft q.x;exact h _ (by have:=b.1;have:=b.2;omega)
   .split
    .split
     .grind [FR]
     .exact(ok.r<|Æ ‹_›).wO d ok.C Z
    .split
     .grind [abY]
     .split
      .have:=aaL<|AZ p.2.s;have:=aaM<|16-(mE<|AZ p.2.s).size;unfold Dl;rw[î];omega
      .split
       .exact UJ (λz f=>by obtain⟨e,c,rfl⟩:=à.1 f;exact T3 (a.C e c).2) Z<|by rw[õ];exact a.I
       .split
        .exact UJ (λz f=>by obtain⟨e,c,rfl⟩:=à.1 f;exact T4 (a.r e c).1 (a.r e c).2) Z (by rw[õ];have:=a.M;omega)
        .split
         .grind [FR]
         .exact UJ (aaO _ _) Z<|aq0 _ _
theorem aq2(a:List (Nat×fM))(v:Int)(x:Nat)(b:List Tx):(rS a v x b).2.size<=3:=by
 unfold rS;split
 .exact FR 3
 .split
  .exact FR 4
  .split
   .exact FR 5
   .show(nY a.length).size<=3;unfold nY;split
    .show 1<=3;decide
    .show 2<=3;decide
def aq3{s:List fM}{i:Int×Nat×List Tx}(h:kx s)(a:∀t∈i.2.2,t.Ok)(b:i.2.2.length<=1000):kx (A7 s i):= kx.M (by rwa[FE]) a b
def UK{a:List PR}{s:List fM}(h:kx s)(b:∀r∈a,QO r):∀k,k<=(ij (lD a) a.length).length->kx (qm (xE a) (ij (lD a) a.length) s k)
 |0,_=>h
 |k+1,hk=>by
  have c:a.getD ((ij (lD a) a.length).getD k 0) qx∈a:=Ý (i:=(ij (lD a) a.length).getD k 0) (by have q:=(IB<|xj (l:=ij (lD a) a.length)<|show k<_ from hk).1;generalize(ij (lD a) a.length).getD k 0=j at q;simp[Ĕ,q]);have q:=b _ c;refine aq3 (UK h b k Z) (λt d=> ?_) ?_
  .obtain⟨x,t,rfl⟩:=à.1 d;exact q.C x t
  .show((a.getD _ qx).r.map toTx).length<=1000;rw[õ];have:=q.n;omega
def Mp(kd:Nat->Int):∀{p R:Nat},p<=R->fP kd p<=(ij kd R).length:=λ{p R} h=>by
 show(ij kd p).length<=(ij kd R).length
 induction h with
 |refl=>exact Ü _
 |@step R _ ih=>
  by_cases q:kd R=1
  .rw[uq q];simp;omega
  .rwa[xg q]
theorem abZ{rs:List PR}{s:List fM}(h:kx s)(a:∀r∈rs,QO r)(k:rs.length<=24):jd (jZ rs s)+rs.length<=2400000024:=by
 have c:=Jh (M:=100000000) (jZ rs s) λz b=>by
  unfold jZ at b;obtain⟨p,d,rfl⟩:=à.1 b;have e:=ť.1 d;have f:=UK h a (fP (lD rs) p)<|Mp _ Z;unfold zj;split
  .grind [Ï,aq2]
  .rename_i g;have j:rs.getD p qx∈rs:=Ý (i:=p) (by simp[Ĕ,e]);exact aq1 (by rwa[FE])<|abS (a _ j) g
 rw[NG]at c;omega
def ab0{a:List PR}{s:List fM}(h:kx s)(b:∀r∈a,QO r):kx (zr a s):=UK h b _<|Mp _<|Ü _
def aq4{s:List fM}(a:∀r∈(gy B).2.2,Jx r)(h:kx s):jd (jZ (gy B).2.2 s)+(gy B).2.2.length<=140737488355328:=Ï (abZ h (Jy a).1 (Jy a).2) A
def aq5(a:ù)(w:Ë):Sem.events À (binOp BinOp.eql 26 (Ã<|Â a)<|Ã Á) w #[]=#[]:=fx
theorem JK{l:fe}(a:ic l)(p:nB<=l.w.heap.size){f:Ŕ}{args:Array Ñ}{r:Ñ}(m:C9 f=Í)(s:∀v∈args.toList,fu (mh (λ_=>False) À.globals.size) v v)(t:∀{Y v},fu Y r v->v=r)(x:∀w,Ö À f args w λe y=>e=Ê r/\y=w)(n:Bool)(c:č)(i:List č): fA.fi À n (λk o=>iA l k/\k.d=l.d/\o=G (c.finish r) i) l (G (ê À f args ā)<|c::i):=by
 let⟨E,F,z,B⟩:=xm f m;have C:∀T,Ö À f args (World.tp (j2 (λj=>False/\¬(mB l).O j) l.w) T 0) fun|Ê v,j=>v=r/\kl j|_,_=>False:=λT=>by refine(x _).mono ?_;grind [A6]
 refine((C7 xV IG xm (λv u T D h=>h) m z B (Fp a.r) a.q (λb q=>q.elim) ⟨λb q=>q.elim,p⟩ (λg q=>by cases q) (oM s) C n c i).mB a.r).ff ?_;rintro k o ⟨D,⟨Y,j,v,H,_,_,g,rfl,b,_,_,h⟩,rfl,u,_,_,_⟩;rw[t g]at b;exact⟨u,h,b⟩
section
variable{l:fe}
def aq6{J:Jd}{s:List fM}{V:Nat->Prop}(c:ic l)(d:mU l j n s z V)(g:fA.fi À Í J l (G (f.at (y.put ((Q[i]?).bind (·.dst))<|Å È s.length)<|Ð Q jJ::L) qX)): fA.fi À Í J l (G (ê À 22 #[Ã<|Â ⟨j,0,Á⟩] ā)<|f.at y (Ð Q (i::jJ)::L)::qX):=by
 have hF:True:=trivial;obtain⟨a,b,rfl⟩:∃a b,z=Ç a s.length b:=by
  let⟨o,h,_,⟨a,k,b,e,_,m⟩,_⟩:=d.rd;have:k=s.length:=by rw[m.r,<-h];simp[kC]
  exact⟨a,b,by rw[e,this]⟩
 have o:s.length<=40:=by let⟨_,_,e,_⟩:=d.rd;exact e.C
 let⟨p,k,_⟩:=d.Y;have m:l.w.cell? ⟨j,1,Á⟩=Â (Ç a s.length b):=by simp[Û,k]
 rw[Dz [_] 7 Α];simp only[Ĉ,Ħ,ī];conv in mg _ _=>whnf
 refine fR (n:=20) c.r.r ?_;repeat w_go fy
 refine ă λ_ _=> ?_;refine kA (x:=⟨j,1,Á⟩) (v:=Ç a s.length b) U fL (by k_ne) c.r.r c.q (Æ<|Æ d.fg) m (λw h=>by go_simp) (λw h=>by simp[go_sem,h]) ?_;walk_nrm;refine fR (n:=20) c.r.r ?_;repeat w_go fy
 u_in fy hF
 refine ž (t:=2) U U Α U ⟨by u_nil,?_⟩;refine ă λ_ _=> ?_;exact g
end
def aq7{t:Tmp}(d:f.kind=ā)(e:y.defers=[])(g:P.funcs[f.fn]?=Â s)(c:s.results=#[.tmp t])(h:P.inits.idxOf? f.fn=Á):stepG P Í (G {f.at y L with mode:=.returning} []) w=.ended (.done<|y.tmps.getD t Ř) w:=by have i:=results_tmp c y.tmps P w;have j:=events_results_tmp (P:=P) (w:=w) c y.tmps;simp[G,stepG,unwind,doReturn,Frame.at,d,e,g,i,j,h,seen,GStep.after]
def aq8{l:fe}(e:jm vQ l g)(a:ic l)(c:g.status=.running):tu vQ #[g] l.w Á #[]:=e a c (λ_=>False) 0 _ _ _ _ Á _ ⟨λx q=>q.elim,λ_ _ _ _ q=>q,Ø _⟩ (aqu (P:=À) (J:=λ_ _=>True) (T:=.fD) U a.d a.q a.rd a.I a.M a.k (λb q=>a.r.fv b<|Æ q) c λ_ _=>trivial) a.d U
def NH(W:Ë):fe:={O:=λb=>b<W.heap.size,I:=λ_=>False,r:=λ_=>False,N:=λ_=>False,K:=λ_=>False,d:=0,q:=False,w:=W}
def ab1(W:Ë):ic (NH W):= ⟨⟨λ_ _=>id,λ_ q=>q.elim,λ_ q=>q.elim (λz=>z.elim) λz=>z.elim,λ_ q=>q.elim id λz=>z.elim,λ_ q=>q.elim (λz=>z.elim) λz=>z.elim,λ_ q=>q.elim⟩,U,id,λ_=>id,λ_=>id,λ_=>id,λ_=>id⟩
structure oj(W w':Ë):Prop where
 su:∀b,b<W.heap.size->w'.heap[b]?=W.heap[b]?
 wO:W.heap.size<=w'.heap.size
def aq9(g:mS W):∀b,b=1\/b=2\/b=3\/b=4->b<W.heap.size:=λb q=>by let⟨c,a,h,_⟩:=g.C;have:=(Þ.1 h).1;omega
theorem ara(b a n:Nat):(⟨b,a,Á⟩:ù).add n=⟨b,a+n,Á⟩:=by unfold Addr.add;grind
theorem arb(h:w.cell? a=Â v):a.spot=Á/\a.block<w.heap.size:=by
 unfold Û at h;split at h
 .rename_i c t f e;constructor
  .simp_all
  .grind
 .cases h
end Go.Proofs.Y.iV
