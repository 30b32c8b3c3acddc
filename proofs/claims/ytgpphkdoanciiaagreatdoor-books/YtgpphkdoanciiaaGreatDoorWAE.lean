import Derived.Test.YtgpphkdoanciiaaGreatDoorWAD
import Derived.Lib.Bytealg
import Derived.WalkKit
import Derived.WalkSpells
import Derived.WalkLawsBesides
import Derived.Deep.Light
import Derived.WalkMore
import Derived.Deep.QuietTactic
import Derived.BigQuiet
import Derived.Conc.LeavingOf
import Derived.Conc.CrowdStepC
import Derived.Listen
import Derived.ProofKit
import Derived.Deep.Slices
set_option linter.all false
set_option maxRecDepth 1000000
set_option maxHeartbeats 8000000
open Go.Proofs.Tryz renaming prog->À,ntmps100->ï,ntmps67->ñ,func100->ô,func67->û,func38->Ď,results45->Ě,func36->ĳ,results36->Ĵ,ntmps160->Ľ,ntmps147->ľ,ntmps38->Ł,func160->Ń,func147->ň,ntmps95->ŉ,ntmps36->Ŋ,func95->ŗ,func17->ř,ntmps123->Ũ,ntmps101->ū,func123->Ų,func101->ŵ,ntmps96->ŷ,ntmps45->Ÿ,func96->Ż,func45->ż,func37->Ž,func22->Α
open Option renaming none->Á,some->Â,bind_eq_some_iff->Ù,bind_eq_bind->å,map_eq_some_iff->ì,isSome_none->í,map->ò,pure_def->ö,map_some->ø,bind_some->Ő
open Go.Value renaming pointer->Ã,string->Ä,int->Å,slice->Ç,tuple->è,bool->þ,cells->İ
open Or renaming inl->Æ,inr->Î
open Go.IntKind renaming i64->È,u64->Ā,wrap_u64->Ō,wrap_i64->Ŏ,u8->ŧ
open Bool renaming false->É,true->Ì,false_eq_true->ç,eq_iff_iff->đ
open Go.Ending renaming returned->Ê
open And renaming intro->Ë
open Go renaming World->Í,Value->Ñ,Calls->Ö,bodyPost_ret->ó,Addr->ù,Goroutine->Ą,TypeId->ċ,Frame->č,Oper->Ĝ,TypeInfo->Ġ,Act->Ģ,maxLen->Ĳ,results->Ĺ,runNT_fst->œ,FuncId->Ŕ,undef->Ř,heap_alloc_new->Ţ,Tape->Ŧ,Trace->Ŭ,runNT->ů,mem_ready->ű,yielded->ų,execOp->Ŵ,cell_one_new->Ŷ,info_parts->Γ,Program->Λ
open Nat renaming le_trans->Ï,zero_le->Ø,le_refl->Ü,lt_of_lt_of_le->Ę,eq_zero_or_pos->ě,zero_add->Ņ,mod_eq_of_lt->ō,mul_le_mul->ş
open Go.Item renaming inRegion->Ð,code->Χ
open List renaming getElem?_eq_getElem->Ò,getElem?_eq_some_iff->Ô,length_append->Õ,mem_of_getElem?->Ý,mem_map->à,eq_nil_of_length_eq_zero->ã,mem_append->æ,length_map->õ,setIfInBounds_toArray->ü,length_cons->ý,take_of_length_le->Ć,getElem?_map->ć,replicate->Ĉ,mem_cons_of_mem->ď,getElem?_of_mem->Đ,getElem_of_mem->ē,getD->Ĕ,getElem?_append_right->ĕ,set_cons_zero->Ė,set_cons_succ->ė,getElem?_append_left->ĝ,extract_eq_take_drop->Ğ,mem_or_eq_of_mem_set->ğ,all_eq_true->ģ,cons_append->Ħ,range->Ī,nil_append->ī,set_append_right->Ĭ,mem_singleton->Ŀ,take_add_one->ŀ,append_assoc->ł,size_toArray->ń,ext_getElem?->ņ,length_take->ŋ,mem_flatMap->ŏ,append_nil->Ś,mem_range->ť
open Option.some renaming injEq->Ó,inj->Ξ
open Go.Lib renaming indexByte->Ú,byteCells->ß,strCells->ħ,hasPrefix->ũ,TabIs->Ι
open Go.World renaming cell?->Û,setCell->Ū,var?->Β
open Array renaming getElem?_eq_some_iff->Þ,getElem?_eq_getElem->â,mem_toList_iff->é,getElem_mem->ú,length_toList->Ē,size_setIfInBounds->ġ,getElem?_eq_none->Ĩ,mem_of_getElem?->ĭ,getElem?_modify->Į,getElem?_toList->į,toList_extract->ı,replicate->ś
open Go.Region renaming ready->á,wanted->Č,Mode->Ķ
open Go.Obj renaming cells->ä
open Go.Frame renaming enter->ê,finish_at->Ŝ
open Go.Ground renaming phase->ë,data->Ă
open ByteArray renaming size_append->î,getElem_eq_getElem_data->ą,size_extract->ĉ,data_extract->ĩ,size->ŝ,data->Ş,extract->Ε,mk->ζ
open Go.Code renaming wp->ð,loop->θ
open Go.Region.linearise renaming go->ÿ
open Go.CallKind renaming normal->ā
open Go.Conc.Goes renaming stop->ă
open Go.Great renaming wpList_runTo->Ċ
open Go.RowKit.Below renaming heap_setCell->ę,heap_alloc->ő
open Go.Conc renaming crowd->Ĥ,events_call_body->ĥ,Good->Ź,goes_leave1->ž,goes_leave2->ſ,listed->Ω
open Go.Made renaming word->ĸ,reckonStruct->Ň,infoAt->ŕ,mostCells->Š,reckon->ź
open Int renaming toNat_of_nonneg->ĺ,le_refl->Ŗ
open Go.Operand renaming tmp->ļ
open Go.IntWalk renaming i64_left->Œ,i64_in->ţ
variable{i n j b k m J j9 j7 j6:Nat}{w u W jX:Í}{v x z jQ:Ñ}{g:Ą}{a p:ù}{h c:Int}{e t T:ċ}{d q:Array Ñ}{P:Λ}{y:Ģ}{B:ByteArray}{X:Nat->Prop}{O:Option ù}{l:List Ñ}{yQ:Bool}{K H:Ģ->Í->Prop}{o:Ĝ}{D:Nat->Nat}{E:Array Ą}{L:List Go.Item}{jJ:List Nat}{qX:List č}{qJ:Ŭ}{zX:Go.Loc->Prop}{zQ:List Int}{zJ:Ġ}{xQ:Ŧ}{xJ:Nat×Nat}{vX:List ByteArray}{vQ:Ñ->Í->Prop}{vJ:Go.Exit->Ģ->Í->Prop}{Q:Array Ĝ}{f:č}{F:Ŕ}{s:Go.Func}
namespace Go.Proofs.Y.gu
open Go Go.Proofs Go.RowKit Go.Proofs.Y.Lift
def mS(a:ByteArray)(b:List ByteArray):List UInt8:=b.flatMap λy=>a.data.toList++y.data.toList
def Jl(a:ByteArray):List ByteArray->List UInt8
 |[]=>[]
 |x::r=>x.data.toList++mS a r
def jd(xs:List ByteArray):Nat:=(xs.map ŝ).sum
def T8(a b:List ByteArray):jd (a++b)=jd a+jd b:=by simp[jd]
def Nk(a:List ByteArray)(j:Nat):jd (a.take j)<=jd a:=by have h:=T8 (a.take j)<|a.drop j;simp_all
theorem Nl(a:ByteArray)(c:a.size=1):∀b:List ByteArray,(mS a b).length=jd b+b.length
 |[]=>rfl
 |x::r=>by
  have e:mS a (x::r)=(a.data.toList++x.data.toList)++mS a r:=U;have d:a.data.toList.length=1:=by simpa using c
  have f:x.data.toList.length=x.size:=fp
  have g:jd (x::r)=x.size+jd r:=by simp[jd]
  rw[e,Õ,Õ,Nl a c r,d,f,g,ý];omega
def aaN(h:vX[j]?=Â B):jd (vX.take<|j+1)=jd (vX.take j)+B.size:=by rw[ŀ,h,T8];simp[jd]
section
variable{sep:ByteArray}{xs:List ByteArray}
def lk(sep:ByteArray)(xs:List ByteArray):ByteArray:=⟨(Jl sep xs).toArray⟩
def anW:Ö À 38 #[Ç O 0 i,Ä sep] w λe a=>e=Ê (Ä ⟨#[]⟩)/\fc fh w a:=by go_enter Ď,Ł;go_wp2_with fail;go_ret;exact⟨U,fc.fV _ _⟩
def anX(a b:Nat)(x:ByteArray)(d:w.cell? ⟨a,b,Á⟩=Â (Ä x)):Ö À 38 #[Ç (Â ⟨a,b,Á⟩) 1 i,Ä sep] w λe c=>e=Ê (Ä x)/\fc fh w c:=by go_enter Ď,Ł;go_wp2_with fail;go_ret;exact⟨U,fc.fV _ _⟩
theorem anY(k:Nat)(hk:1<=k)(hn:k<1000000)(n p:Nat)(T9:k+1<=i)(C:sep.size=1)(x:ByteArray)(D:k=xs.length)(q:qW (Â ⟨n,p,Á⟩) (rV<|x::xs) w)(hm:jd (x::xs)+(k+1)<=140737488355328): Ö À 38 #[Ç (Â ⟨n,p,Á⟩) (k+1) i,Ä sep] w λe T=>e=Ê (Ä<|lk sep<|x::xs)/\fc fh w T:=by
 have V:jd (x::xs)=x.size+jd xs:=by simp[jd]
 have F:qW (Â ⟨n,p+1,Á⟩) (rV xs) w:=λj u W=>by let⟨b,o,e1,e2⟩:=q (j+1) u (by simpa[rV]using W);grind
 let⟨_,_,g,G⟩:=q 0 (Ä x) U;cases g;have I:w.cell? ⟨n,p,Á⟩=Â (Ä x):=G;have J:x.data.toList++mS sep xs≠[]:=by grind [Õ,Nl,List.length_nil]
 have e3:(1:Int)<9223372036854775807/(k:Int):=by rw[Int.lt_iff_add_one_le,Int.le_ediv_iff_mul_le Z];omega
 have K:(ß []).length+x.size<=140737488355328:=by simp[ß];omega
 have H:=eZ<|Ë q<|Ë F<|Ë D<|Ë K<|Ë J<|Ë I V;clear K J G I q F D;go_enter Ď,Ł;go_wp2_with fail;go_loop [5,41] (λm a=>∃j:Nat,j<=k+1/\m=Å È ((k+jd ((x::xs).take j):Nat):Int)/\a=Å È j) λ_ a=>k+1-(intOf a).toNat
 case atStart=>exact⟨0,Ø _,by simp[jd],U⟩
 case round=>
  obtain⟨j,L,rfl,rfl⟩:=hrel;by_cases t:j=k+1
  .subst t;rw[Ć (by simp[H.out.2.2.1])];have N:0<k+jd (x::xs)/\k+jd (x::xs)<=281474976710656:=Z
   generalize k+jd (x::xs)=M at*;go_wp2_with (first
    |(go_at_call 54;refine(anU ⟨Ü _,fc.iw _ _ _ _,fq.N w [Ã Á,Ç Á 0 0] 109⟩ M N.1 N.2).mono ?_;rintro e X ⟨rfl,d⟩;have c1:=d.r.r H.out.2.2.2.2.2.1 id;have v:=eZ d;clear d)
    |(go_at_call 55;refine(T7 v.out x H.out.2.2.2.1).mono ?_;rintro e O ⟨rfl,h⟩;have Y:=eZ h;clear h))
   go_loopw [65] (λa wr=>∃j:Nat,j<=k/\a=Å È j/\uD w w.heap.size (ß<|x.data.toList++mS sep (xs.take j)) wr) λa _=>k-(intOf a).toNat
   case atStart=>
    refine⟨0,Ø _,U,?_⟩;show uD w w.heap.size (ß<|x.data.toList++[]) O;rw[Ś];exact Y.out
   case round=>
    obtain⟨j,L,rfl,f⟩:=hrel;by_cases t:j=k
    .subst t;rw[Ć (by rw[H.out.2.2.1];omega)]at f;have v:=eZ f;clear f;go_wp2_with (go_at_call 56;refine(anV v.out H.out.2.2.2.2.1).mono ?_;rintro e w4 ⟨rfl,P⟩;have HK:=eZ P;clear P);go_ret;exact⟨U,HK.out⟩
    .have l:j<k:=Z
     obtain⟨y,c⟩:∃x,xs[j]?=Â x:=⟨_,Ò<|by rwa[<-H.out.2.2.1]⟩;let⟨_,_,g,z⟩:=H.out.2.1 j (Ä y) (by simp[rV,c]);cases g;have xw:=f.r.r z id;have r:=aaN c;have Q:=Nk xs<|j+1;have hsx:=H.out.2.2.2.2.2.2;have B:(ß<|x.data.toList++mS sep (xs.take j)).length=x.size+jd (xs.take j)+j:=by rw[Lib.byteCells_length,Õ,Nl sep C,ŋ,Ē,<-H.out.2.2.1,Nat.min_eq_left L];show x.size+_=_;omega
     have S:(ß (x.data.toList++mS sep (xs.take j))++ħ sep).length=x.size+jd (xs.take j)+j+1:=by rw[Õ,B,Lib.strCells_length,C]
     have E:ß (x.data.toList++mS sep (xs.take j))++ħ sep++ħ y=ß (x.data.toList++mS sep (xs.take<|j+1)):=by rw[ŀ,c];simp[mS,ß,ħ]
     have s:=eZ<|Ë f<|Ë B<|Ë S E;clear f B S E z c;go_wp2_with (first
      |(go_at_call 55;refine(T7 HC.out y<|by rw[s.out.2.2.1];omega).mono ?_;rintro e O ⟨rfl,h⟩;have HD:=eZ h;clear h)
      |(go_at_call 55;refine(T7 s.out.1 sep (by rw[s.out.2.1];omega)).mono ?_;rintro e X ⟨rfl,d⟩;have HC:=eZ d;clear d))
     go_roundw
     case rel=>exact⟨j+1,l,by go_num,by rw[<-s.out.2.2.2];exact HD.out⟩
     case measure=>simp[intOf];omega
  .have l:j<k+1:=Z
   obtain⟨y,c⟩:∃y,(x::xs)[j]?=Â y:=⟨_,Ò<|by rwa[ý,<-H.out.2.2.1]⟩;let⟨_,_,g,z⟩:=H.out.1 j (Ä y) (by rw[rV,ć,c];rfl);cases g;have r:=aaN c;have Q:=Nk (x::xs)<|j+1;rw[r]at Q;generalize jd ((x::xs).take j)=s0 at*;have HS:=eZ r;clear c r;go_wp2_with fail;go_round
   case rel=>exact⟨j+1,l,by rw[HS.out];go_num,by go_num⟩
   case measure=>simp[intOf];omega
def aaO(a:n=xs.length)(f:n<=1000000)(g:n<=i)(h:sep.size=1)(b:qW O (rV xs) w)(j:jd xs+n<=140737488355328): Ö À 38 #[Ç O n i,Ä sep] w λe c=>e=Ê (Ä<|lk sep xs)/\fc fh w c:=by
 cases xs with
 |nil=>subst a;exact anW
 |cons x r=>
  let⟨c,d,k,l⟩:=b 0 (Ä x) U;subst k;cases r with
  |nil=>
   subst a;have e:lk sep [x]=x:=by show ζ ((x.data.toList++[]).toArray)=x;rw[Ś]
   rw[e];exact anX c d x l
  |cons y r=>
   subst a;exact anY (r.length+1) Z (by simp at f;omega) c d g h x U b j
def anZ(a:n=xs.length)(c:n<=1000000)(d:n<=i)(h:qW O (rV xs) w)(f:jd xs+n<=140737488355328): Ö À 123 #[Ç O n i] w λe b=>e=Ê (Ä<|if xs=[]then⟨#[45]⟩else lk ⟨#[44]⟩ xs)/\fc fh w b:=by
 have H:=eZ<|aaO (sep:=⟨#[44]⟩) a c d U h f;by_cases b:xs=[]
 .subst b;have e:=a;subst e;rw[if_pos U];clear a f H c d;go_enter Ų,Ũ;go_wp2_with fail;go_ret;exact⟨U,fc.fV _ _⟩
 .rw[if_neg b];have k:0<n:=by rw[a];exact List.length_pos_iff.2 b
  have l:((n:Int)==0)=É:=by simp;omega
  clear a;generalize lk ⟨#[44]⟩ xs=z at*;go_enter Ų,Ũ;go_wp2_with (go_at_call 38;apply H.out.mono;rintro e m ⟨rfl,g⟩;have j:=eZ g;clear g);go_ret;exact⟨U,j.out⟩
end
def Jm{M:Nat}:∀(a:List ByteArray),(∀z∈a,z.size<=M)->jd a<=M*a.length
 |[],_=>Ø _
 |x::r,h=>by
  have c:=Jm r λz b=>h z<|ď _ b;have d:=h x fp;have e:jd (x::r)=x.size+jd r:=by simp[jd]
  rw[e,ý,Nat.mul_add];omega
def Ua{e:Nat×Int}(h:oA e.2):(mj e).size<=21:=by unfold mj;rw[î];have:=FF e.1;have:=uB e.2.toNat (by have:=h.1;have:=h.2;omega);omega
def Ub{e:Int×Bool}(a:0<=e.1)(h:e.1<=400):(ml e).size<=41:=by unfold ml;rw[î,î];have:=uB e.1.toNat Z;have:=uB e.2.toNat (by cases e.2<;>decide);have:ŝ ⟨#[58]⟩=1:=rfl;omega
def jY.C(h:jY u (Ç O n i) vX w):qW O (rV vX) w/\n=vX.length/\n<=i:=by
 rcases h.fg.2 with⟨b,d⟩|⟨g,f,k,b,_,_,d,_⟩
 .cases b;refine⟨λj x e=> ?_,d.symm,Ü _⟩;rw[ã d]at e;cases e
 .have e:n=vX.length:=by injection b
  subst e;injection b with _ _ h4;exact⟨qW.r h.fg,U,by rwa[h4]⟩
def aaP(r:TH):ByteArray:=lk ⟨#[44]⟩<|[iM r.C.toNat,iM r.M.toNat,iM r.r.toNat]++r.I.map mj
def qY(w:Í):Prop:=w.cell? ⟨4,15,Á⟩=Â (Å ŧ 4)
def qY.r(h:qY w)(k:fc fh w u):qY u:=k.r h id
def an0(c:qY w):Ö À 207 #[Å Ā 16] w λe a=>e=Ê (Å È 4)/\a=w:=by
 unfold qY at c;have b:Ā.wrap (bits BinOp.and Ā 16 (Ā.wrap<|-16)*285870213051353865)/288230376151711744=15:=A
 go_enter Tryz.func207,Tryz.ntmps207;go_wp2;go_ret;exact⟨U,U⟩
def tz(c:qY w):Ö À 201 #[Å Ā 16] w λe a=>e=Ê (Å È 4)/\a=w:=by go_enter Tryz.func201,Tryz.ntmps201;go_wp2_with (go_at_call 207;refine(an0 c).mono ?_;rintro e a ⟨rfl,b⟩;subst a);go_ret;exact⟨U,U⟩
def an1:Ö À 200 #[Å È 16] w λe a=>e=Ê (þ Ì)/\a=w:=by
 have b:bits BinOp.and È 16 15=0:=A
 go_enter Tryz.func200,Tryz.ntmps200;go_wp2;go_ret;simp_all
def pL(d:Nat):UInt8:=if h:d<36 then(⟨#[48,49,50,51,52,53,54,55,56,57,97,98,99,100,101,102,103,104,105,106,107,108,109,110,111,112,113,114,115,116,117,118,119,120,121,122]⟩:ByteArray)[d]'h else 0
def rW:Nat->Nat->List UInt8->List UInt8
 |0,_,acc=>acc
 |k+1,n,acc=>if n<16 then pL n::acc else rW k (n/16) (pL (n%16)::acc)
def aaQ:∀k n a,(rW k n a).length<=k+a.length
 |0,_,a=>by simp[rW]
 |k+1,n,a=>by
  unfold rW;split
  .simp;omega
  .have:=aaQ k (n/16)<|pL (n%16)::a;simp at this;omega
def zc(i:Nat)(a:List UInt8):List Ñ:=Ĉ i (Å ŧ 0)++ß a
def an2(i:Nat)(a:List UInt8):(zc i a).length=i+a.length:=by simp[zc,ß]
def an3(i:Nat)(a:List UInt8)(c:UInt8):(zc (i+1) a).set i (Å ŧ c.toNat)=zc i (c::a):=by unfold zc;rw[List.replicate_succ',ł,Ĭ _ _ fp];simp[ß]
def an4(a:n<18446744073709551616):bits BinOp.and Ā (n:Int) 15=((n%16:Nat):Int):=by have:=(bits_nat Ā 64 A (λn b c=>by rw[Ō];omega) n 15 Z A).1;rwa[show(15:Nat)=2^4-1 from rfl,Nat.and_two_pow_sub_one_eq_mod]at this
def aaR(h:i<36):(⟨#[48,49,50,51,52,53,54,55,56,57,97,98,99,100,101,102,103,104,105,106,107,108,109,110,111,112,113,114,115,116,117,118,119,120,121,122]⟩:ByteArray)[i]'h=pL i:=by unfold pL;rw[dif_pos h]
def an5:Tryz.zeroCells292=(zc 65 []).toArray:=fx
def mE(n:Nat):ByteArray:=⟨(rW 16 n []).toArray⟩
theorem an6(n:Nat)(p:n<18446744073709551616)(E:qY w):Ö À 190 #[Ç Á 0 0,Å Ā n,Å È 16,þ É,þ É] w λe F=>e=Ê (è #[Ç Á 0 0,Ä<|mE n])/\fc fh w F:=by
 have H:=eZ E;have a:=fq.N w (zc 65 []) 292;rw[<-an5]at a;have G:=eZ a;unfold mE;generalize u:rW 16 n []=res;have I:=eZ u;clear u a;go_enter Tryz.func190,Tryz.ntmps190;go_wp2_with (first
  |(go_at_call 200;refine an1.mono ?_;rintro e r ⟨rfl,J⟩;subst r)
  |(go_at_call 201;refine(tz (H.out.r kp)).mono ?_;rintro e r ⟨rfl,J⟩;subst r))
 go_loopw [1,13] (λx y f=>∃(n i:Nat) (c:List UInt8),x=Å Ā n/\y=Å È i/\50<=i/\i+c.length=65/\n<16^(i-49)/\n<18446744073709551616/\fc fh w f/\fq w.heap.size (zc i c) 292 f/\rW (i-49) n c=res) λx _ _=>(intOf x).toNat
 case atStart=>exact⟨n,65,[],U,U,Z,U,by show n<16^16;omega,p,fc.iw _ _ _ _,G.out,I.out⟩
 case round=>
  obtain⟨n,i,c,rfl,rfl,Q,S,p,K,v,a,b⟩:=hrel;obtain⟨j,rfl⟩:∃j,i=j+1:=⟨i-1,Z⟩;rw[show j+1-49=(j-49)+1 by omega]at b p;unfold rW at b;have L:(zc (j+1) c).length=65:=by rw[an2];omega
  obtain⟨z,B⟩:∃z,(zc (j+1) c)[j]?=Â z:=⟨_,Ò Z⟩;have T:=a.r j z B;have V:=a.I j;have g:=a.fO j<|Å ŧ (pL<|n%16).toNat;rw[an3]at g;have l:fc fh w (f.setCell ⟨w.heap.size,j,Á⟩<|Å ŧ (pL<|n%16).toNat):=v.C (fc.I (X:=λk=>k=w.heap.size) U _<|Î a.S) λi W q=>by omega
  have m:=eZ<|Ë g l;clear a v L B;by_cases o:n<16
  .rw[if_pos o]at b;have Y:res.length=65-j:=by rw[<-b];simp;omega
   have e1:(0:Int)<=(j:Int):=Z
   have e2:(j:Int)<65:=Z
   have e3:(j:Int)<=65:=Z
   have m0:(0:Int)<=(n:Int):=Z
   have m1:(n:Int)<36:=Z
   have s:n<36:=Z
   have M:=aaR s;rw[ō o,b]at g;have hcv:(convert 107 9<|Ç (Â ⟨w.heap.size,j,Á⟩) (65-j)<|65-j).run À (f.setCell ⟨w.heap.size,j,Á⟩<|Å ŧ (pL n).toNat)=.ok (Ä ⟨res.toArray⟩) (f.setCell ⟨w.heap.size,j,Á⟩<|Å ŧ (pL n).toNat):=by have h:=run_convert_bytes_back (P:=À) (f.setCell ⟨w.heap.size,j,Á⟩<|Å ŧ (pL n).toNat) 107 9 5 ⟨w.heap.size,j,Á⟩ (65-j) res fx fx fx (λt N=>by rw[Addr.add_mid];apply g.r (j+t) _;unfold zc;rw[ĕ fp];simp[ß,Ò N]);grind
   rw[ō o]at l;have m:=eZ l;clear g l;go_wp2;go_ret2;exact⟨U,m.out⟩
  .rw[if_neg o]at b;have O:50<=j:=by grind
   have C:n/16<16^(j-49):=by grind
   have auJ:=an4 K;have s:n%16<36:=Z
   have M:=aaR s;have D:=eZ<|Ë b C;clear b C g l;generalize hd:n%16=d at*;go_wp2_with fail;go_roundw
   case rel=>exact⟨n/16,j,pL d::c,by go_num,by go_num,O,by simp;omega,D.out.2,Z,m.out.2,m.out.1,D.out.1⟩
   case measure=>simp[intOf];omega
def an7(n:Nat)(b:n<18446744073709551616)(c:qY w):Ö À 172 #[Å Ā n,Å È 16] w λe a=>e=Ê (Ä<|mE n)/\fc fh w a:=by go_enter Tryz.func172,Tryz.ntmps172;go_wp2_with (go_at_call 190;refine(an6 n b c).mono ?_;rintro e a ⟨rfl,d⟩);go_ret;exact⟨U,d⟩
def an8(n:Nat)(b:n<18446744073709551616)(c:qY w):Ö À 157 #[Å Ā n,Å È 16] w λe a=>e=Ê (Ä<|mE n)/\fc fh w a:=by go_enter Tryz.func157,Tryz.ntmps157;go_wp2_with (go_at_call 172;refine(an7 n b c).mono ?_;rintro e a ⟨rfl,d⟩);go_ret;exact⟨U,d⟩
def an9(s:ByteArray)(w:Í)(h:s.data.toList.head?=Â 48):Ö À 175 #[Ä s,Ä ⟨#[48]⟩] w λe b=>e=Ê (þ Ì)/\b=w:=by
 have H:=Tryz.strings_HasPrefix s ⟨#[48]⟩ w;have e:ũ s.data.toList (Ş ⟨#[48]⟩).toList=Ì:=by
  generalize s.data.toList=l at h;cases l with
  |nil=>cases h
  |cons a r=>cases h;rfl
 rwa[e]at H
def aoa(s:ByteArray)(w:Í)(h:¬s.data.toList.head?=Â 48):Ö À 175 #[Ä s,Ä ⟨#[48]⟩] w λe b=>e=Ê (þ É)/\b=w:=by
 have H:=Tryz.strings_HasPrefix s ⟨#[48]⟩ w;have e:ũ s.data.toList (Ş ⟨#[48]⟩).toList=É:=by
  generalize s.data.toList=l at h;cases l with
  |nil=>rfl
  |cons a r=>
   have c:¬a=48:=λq=>h (by rw[q];rfl);show((48:UInt8)==a&&List.isPrefixOf [] r)=É;have:((48:UInt8)==a)=É:=beq_eq_false_iff_ne.2 λq=>c q.symm;rw[this];rfl
 rwa[e]at H
def xy(k:Nat):ByteArray:=Ε ⟨#[48,48,48,48,48,48,48,48,48,48,48,48,48,48,48,48,48,48,48,48,48,48,48,48,48,48,48,48,48,48,48,48,48,48,48,48,48,48,48,48,48,48,48,48,48,48,48,48,48,48,48,48,48,48,48,48,48,48,48,48,48,48,48,48]⟩ 0 k
def aob(k:Nat)(d:2<=k)(f:k<=64):Ö À 160 #[Ä ⟨#[48]⟩,Å È k] w λe a=>e=Ê (Ä<|xy k)/\a=w:=by
 have g:((k:Int)==0)=É:=by simp;omega
 have h:((k:Int)==1)=É:=by simp;omega
 have i:¬(k:Int)<0:=Z
 have j:(0:Int)<=(k:Int):=Z
 have l:(k:Int)<=64:=Z
 have m:Ā.wrap (k:Int)=(k:Int):=by rw[Ō];omega
 have n:È.wrap (k:Int)=(k:Int):=by rw[Ŏ];omega
 have M:=Tryz.bits_Mul 1 k A Z w;rw[show 1*k/18446744073709551616=0 by omega,show 1*k%18446744073709551616=k by omega]at M;have c:=eZ M;go_enter Ń,Ľ;go_wp2_with (first
  |(go_at_call 174;refine c.out.mono ?_;rintro e a ⟨rfl,b⟩;subst a)
  |(go_at_call 175;refine(aoa _ _ A).mono ?_;rintro e a ⟨rfl,b⟩;subst a)
  |(go_at_call 175;refine(an9 _ _ A).mono ?_;rintro e a ⟨rfl,b⟩;subst a))
 go_ret;exact⟨U,U⟩
def aoc:Ö À 160 #[Ä ⟨#[48]⟩,Å È 0] w λe a=>e=Ê (Ä ⟨#[]⟩)/\a=w:=by go_enter Ń,Ľ;go_wp2;go_ret;exact⟨U,U⟩
def aod:Ö À 160 #[Ä ⟨#[48]⟩,Å È 1] w λe a=>e=Ê (Ä ⟨#[48]⟩)/\a=w:=by go_enter Ń,Ľ;go_wp2;go_ret;exact⟨U,U⟩
def aoe(k:Nat)(a:k<=64):Ö À 160 #[Ä ⟨#[48]⟩,Å È k] w λe b=>e=Ê (Ä<|xy k)/\b=w:=by
 match k with
 |0=>exact aoc
 |1=>exact aod
 |k+2=>exact aob (k+2) Z a
def Dq(n:Nat):ByteArray:=xy (16-(mE n).size)++mE n
def aaS(n:Nat):(mE n).size<=16:=by show(rW 16 n []).toArray.size<=16;have:=aaQ 16 n [];simpa using this
def aaT(k:Nat):(xy k).size<=k:=by unfold xy;rw[ĉ];omega
def aof(n:Nat)(c:n<18446744073709551616)(d:qY w):Ö À 121 #[Å Ā n] w λe a=>e=Ê (Ä<|Dq n)/\fc fh w a:=by
 have g:=aaS n;have h:=aaT<|16-(mE n).size;have T:=an8 n c d;have R:∀W:Í,Ö À 160 #[Ä ⟨#[48]⟩,Å È ((16-(mE n).size:Nat):Int)] W λe a=>e=Ê (Ä<|xy<|16-(mE n).size)/\a=W:=λW=>aoe _ Z;have i:È.wrap ((16:Int)-((mE n).size:Int))=((16-(mE n).size:Nat):Int):=by rw[Ŏ];omega
 have j:(16:Int)-((mE n).size:Int)=((16-(mE n).size:Nat):Int):=Z
 have l:¬9223372036854775807<(xy<|16-(mE n).size).size+(mE n).size:=Z
 unfold Dq;have H:=eZ<|Ë T R;generalize m:xy (16-(mE n).size)=zs at*;generalize o:16-(mE n).size=k at*;generalize mE n=fs at*;go_enter Tryz.func121,Tryz.ntmps121;go_wp2_with (first
  |(go_at_call 157;refine H.out.1.mono ?_;rintro e p ⟨rfl,b⟩;have f:=eZ b;clear b)
  |(go_at_call 160;refine(H.out.2 _).mono ?_;rintro e b ⟨rfl,p⟩;subst b))
 go_ret;exact⟨U,f.out⟩
structure rX(r:Nat)(x y g k:Nat)(kind v v2:Int)(slot:Nat)(w:Í):Prop where
 I:w.cell? ⟨r,0,Á⟩=Â (Å È x)
 S:w.cell? ⟨r,1,Á⟩=Â (Å È y)
 a:w.cell? ⟨r,2,Á⟩=Â (Å È g)
 Y:w.cell? ⟨r,3,Á⟩=Â (Å È k)
 N:w.cell? ⟨r,4,Á⟩=Â (Å È kind)
 M:w.cell? ⟨r,5,Á⟩=Â (Å È v)
 c:w.cell? ⟨r,6,Á⟩=Â (Å È v2)
 b:w.cell? ⟨r,7,Á⟩=Â (Å È slot)
def jY.S(h:jY u v vX W)(k:fc fh w u):jY w v vX W:=by
 refine⟨⟨h.fg.1,?_⟩,k.fj h.r⟩;rcases h.fg.2 with q|⟨g,a,b,c,d,q⟩
 .exact Æ q
 .exact Î ⟨g,a,b,c,Ï k.M d,q⟩
abbrev xA(a:Option ù)(n b:Nat)(v:Int)(o:Option Nat)(w:Í):Prop:=Ö À 113 #[Ç a n b,Å È v] w λe c=>e=Ê (oM o)/\fc fh w c
abbrev Uc(f:Ŕ)(a:Array Ñ)(b:ByteArray)(w:Í):Prop:=∀W,fc fh w W->Ö À f a W λe c=>e=Ê (Ä b)/\fc fh W c
abbrev Ud(f:Ŕ)(b:Array Ñ)(c:List ByteArray)(w:Í):Prop:=∀W,fc fh w W->Ö À f b W λe d=>∃a,e=Ê a/\jY W a c d
abbrev Ue(b:List ByteArray)(d:ByteArray)(w:Í):Prop:=∀W a m c,jY w (Ç a m c) b W->Ö À 123 #[Ç a m c] W λe f=>e=Ê (Ä d)/\fc fh W f
abbrev Dr(a:Option ù)(n b r:Nat)(c:ByteArray)(w:Í):Prop:=Ö À 67 #[Ç a n b,Ã<|Â ⟨r,0,Á⟩] w λe d=>e=Ê (Ä c)/\fc fh w d
section
variable{cp r x y g slot:Nat}{v v2:Int}
def rX.C{w:Í}(h:rX r x y g k c v v2 slot w)(q:fc fh w u):rX r x y g k c v v2 slot u:= ⟨q.r h.I id,q.r h.S id,q.r h.a id,q.r h.Y id,q.r h.N id,q.r h.M id,q.r h.c id,q.r h.b id⟩
def aog(F:xA O n cp v (Â i) w)(f:rX r x y g k 2 v v2 slot w)(o:x<8)(p:slot<16)(z:Nat)(h:w.cell? ⟨i,x*18+2+slot,Á⟩=Â (Å Ā z)) (C:Uc 118 #[Å Ā z] B w): Dr O n cp r B w:=by
 have q:=f.M;have l:=f.N;have s:(0:Int)<=(x:Int):=Z
 have t:(x:Int)<8:=Z
 have u:(0:Int)<=(slot:Int):=Z
 have D:(slot:Int)<16:=Z
 have H:=eZ<|Ë F C;have c:=eZ f;clear F C f;go_enter û,ñ;go_wp2_with (go_at_call 113;apply H.out.1.mono;rintro e d ⟨rfl,b⟩;dsimp only[oM,ò];have j:=b.r l id;have a:=eZ b;clear b);refine o5 (λb=>b.cell? ⟨r,0,Á⟩=Â (Å È x)/\b.cell? ⟨r,7,Á⟩=Â (Å È slot)/\b.cell? ⟨i,x*18+2+slot,Á⟩=Â (Å Ā z)) [] fx ?_;have m:=eZ<|Ë ((c.out.C a.out).C<|fc.gG fh _).I<|Ë ((c.out.C a.out).C<|fc.gG fh _).b<|(a.out.fj<|fc.gG _ _).r h id;iterate 17 apply tk m.out
 apply ia 17;intro K d;go_simp;go_at_call 118;refine(H.out.2 _<|a.out.fj<|fc.gG _ _).mono ?_;rintro e E ⟨rfl,j⟩;have b:=eZ j;clear j;dsimp only;apply d.out _ _ λ_=>⟨(c.out.C<|(a.out.fj<|fc.gG _ _).fj b.out).I,(c.out.C<|(a.out.fj<|fc.gG _ _).fj b.out).b,(((a.out.fj<|fc.gG _ _).fj b.out).r h id)⟩;clear d K;apply ia 18;intro K d;go_simp;apply d.out _ _ λ_=>⟨(c.out.C<|(a.out.fj<|fc.gG _ _).fj b.out).I,(c.out.C<|(a.out.fj<|fc.gG _ _).fj b.out).b,(((a.out.fj<|fc.gG _ _).fj b.out).r h id)⟩;clear d K;try simp only[Act.put,ü,Ė,ė]
 refine oZ fx ?_ _;go_wp2_with fail;go_ret;exact⟨U,(a.out.fj<|fc.gG _ _).fj b.out⟩
def aoh(F:xA O n cp v (Â i) w)(d:rX r x y g k 3 v v2 slot w)(o:x<8)(z:Nat)(f:w.cell? ⟨i,x*18,Á⟩=Â (Å Ā z)) (C:Uc 118 #[Å Ā z] B w): Dr O n cp r B w:=by
 have p:=d.M;have l:=d.N;have q:(0:Int)<=(x:Int):=Z
 have s:(x:Int)<8:=Z
 have H:=eZ<|Ë F C;have h:=eZ d;clear F C d;go_enter û,ñ;go_wp2_with (go_at_call 113;apply H.out.1.mono;rintro e c ⟨rfl,b⟩;dsimp only[oM,ò];have j:=b.r l id;have a:=eZ b;clear b);refine o5 (λb=>b.cell? ⟨r,0,Á⟩=Â (Å È x)/\b.cell? ⟨i,x*18,Á⟩=Â (Å Ā z)) [] fx ?_;have m:=eZ<|Ë ((h.out.C a.out).C<|fc.gG fh _).I<|(a.out.fj<|fc.gG _ _).r f id;iterate 12 apply tk m.out
 apply ia 12;intro K b;go_simp;go_at_call 118;refine(H.out.2 _<|a.out.fj<|fc.gG _ _).mono ?_;rintro e t ⟨rfl,j⟩;have c:=eZ j;clear j;dsimp only;apply b.out _ _ λ_=>⟨(h.out.C<|(a.out.fj<|fc.gG _ _).fj c.out).I,(((a.out.fj<|fc.gG _ _).fj c.out).r f id)⟩;clear b K;apply ia 13;intro K b;go_simp;apply b.out _ _ λ_=>⟨(h.out.C<|(a.out.fj<|fc.gG _ _).fj c.out).I,(((a.out.fj<|fc.gG _ _).fj c.out).r f id)⟩;clear b K;try simp only[Act.put,ü,Ė,ė]
 refine oZ fx ?_ _;go_wp2_with fail;go_ret;exact⟨U,(a.out.fj<|fc.gG _ _).fj c.out⟩
def aoi(F:xA O n cp v (Â i) w)(a:rX r x y g k 6 v v2 slot w)(z:Nat)(C:∀W,fc fh w W->Ö À 122 #[Ã<|Â ⟨i,0,Á⟩] W λe h=>e=Ê (Å Ā z)/\fc fh W h)(c:Uc 121 #[Å Ā z] B w): Dr O n cp r B w:=by
 have m:=a.M;have j:=a.N;have l:=eZ c;clear c;have H:=eZ<|Ë F C;have o:=eZ a;clear F C a;go_enter û,ñ;go_wp2_with (first
  |(go_at_call 113;refine H.out.1.mono ?_;rintro e f ⟨rfl,b⟩;dsimp only[oM,ò];have p:=b.r j id;have d:=eZ b;clear b)
  |(go_at_call 122;refine(H.out.2 _ d.out).mono ?_;rintro e p ⟨rfl,b⟩;have f:=eZ<|d.out.fj b;clear b)
  |(go_at_call 121;refine(l.out _ f.out).mono ?_;rintro e p ⟨rfl,b⟩;have d:=eZ (f.out.fj b);clear b))
 go_ret;exact⟨U,d.out⟩
def aoj(F:xA O n cp v (Â i) w)(a:rX r x y g k 7 v v2 slot w)(d:Option ù)(f h:Nat)(o:w.cell? ⟨i,144,Á⟩=Â (Ç d f h))(b:List ByteArray)(C:Ud 124 #[Ç d f h] b w)(j:Ue b B w): Dr O n cp r B w:=by
 have z:=a.M;have p:=a.N;have q:=eZ j;clear j;have H:=eZ<|Ë F C;have D:=eZ a;clear F C a;go_enter û,ñ;go_wp2_with (first
  |(go_at_call 113;refine H.out.1.mono ?_;rintro e m ⟨rfl,c⟩;dsimp only[oM,ò];have s:=c.r p id;have t:=c.r o id;have l:=eZ c;clear c)
  |(go_at_call 124;refine(H.out.2 _ l.out).mono ?_;rintro e s ⟨E,rfl,c⟩;obtain⟨t,u,rfl⟩:=jv c.fg;generalize b.length=tn at c|-;have m:=eZ (show jY w (Ç t tn u) b s from c.S l.out);clear c)
  |(go_at_call 123;refine(q.out _ _ _ _ m.out).mono ?_;rintro e s ⟨rfl,c⟩;have l:=eZ (m.out.r.fj c);clear c))
 go_ret;exact⟨U,l.out⟩
def aok(F:xA O n cp v (Â i) w)(a:rX r x y g k 8 v v2 slot w)(d:Option ù)(f h:Nat)(o:w.cell? ⟨i,146,Á⟩=Â (Ç d f h))(b:List ByteArray)(C:Ud 125 #[Ç d f h] b w)(j:Ue b B w): Dr O n cp r B w:=by
 have z:=a.M;have p:=a.N;have q:=eZ j;clear j;have H:=eZ<|Ë F C;have D:=eZ a;clear F C a;go_enter û,ñ;go_wp2_with (first
  |(go_at_call 113;refine H.out.1.mono ?_;rintro e m ⟨rfl,c⟩;dsimp only[oM,ò];have s:=c.r p id;have t:=c.r o id;have l:=eZ c;clear c)
  |(go_at_call 125;refine(H.out.2 _ l.out).mono ?_;rintro e s ⟨E,rfl,c⟩;obtain⟨t,u,rfl⟩:=jv c.fg;generalize b.length=tn at c|-;have m:=eZ (show jY w (Ç t tn u) b s from c.S l.out);clear c)
  |(go_at_call 123;refine(q.out _ _ _ _ m.out).mono ?_;rintro e s ⟨rfl,c⟩;have l:=eZ (m.out.r.fj c);clear c))
 go_ret;exact⟨U,l.out⟩
def aol(F:xA O n cp v (Â i) w)(a:rX r x y g k 9 v v2 slot w)(C:B=ow 3)(c:∀W,fc fh w W->xA O n cp v2 Á W): Dr O n cp r B w:=by
 have o:=a.M;have h:=a.N;have j:=eZ c;clear c;have H:=eZ<|Ë F C;have l:=eZ a;clear F C a;go_enter û,ñ;go_wp2_with (first
  |(go_at_call 113;with_reducible refine H.out.1.mono ?_;rintro e f ⟨rfl,b⟩;dsimp only[oM,ò];have m:=b.r h id;have p:=b.r l.out.c id;have d:=eZ b;clear b)
  |(go_at_call 113;refine(j.out _ d.out).mono ?_;rintro e b ⟨rfl,f⟩;dsimp only[oM,ò];have m:=eZ<|d.out.fj f;clear f)
  |(go_at_call 114;refine(I8 3 A _).mono ?_;rintro e b ⟨rfl,f⟩;subst b))
 go_ret;exact⟨by rw[H.out.2];rfl,m.out⟩
def aom(F:xA O n cp v (Â i) w)(b:rX r x y g k 9 v v2 slot w)(C:True)(f:∀W,fc fh w W->xA O n cp v2 (Â j) W)(d:List ByteArray)(h:Ud 126 #[Ã<|Â ⟨i,0,Á⟩,Ã<|Â ⟨j,0,Á⟩] d w)(l:Ue d B w): Dr O n cp r B w:=by
 have D:=b.M;have q:=b.N;have s:=eZ f;have m:=eZ<|Ë h l;clear f h l;have H:=eZ<|Ë F C;have t:=eZ b;clear F C b;go_enter û,ñ;go_wp2_with (first
  |(go_at_call 113;with_reducible refine H.out.1.mono ?_;rintro e o ⟨rfl,a⟩;dsimp only[oM,ò];have p:=a.r q id;have u:=a.r t.out.c id;have c:=eZ a;clear a)
  |(go_at_call 113;refine(s.out _ c.out).mono ?_;rintro e p ⟨rfl,a⟩;dsimp only[oM,ò];have o:=eZ (c.out.fj a);clear a))
 apply o5 (λa=>True/\True) [] fx;have u:=eZ<|Ë trivial trivial;iterate 8 apply tk u.out
 apply ia 8;intro K a;go_simp;go_at_call 126;refine(m.out.1 _<|o.out.fj<|fc.gG _ _).mono ?_;rintro e E ⟨G,rfl,c⟩;obtain⟨I,J,rfl⟩:=jv c.fg;generalize d.length=tn at c|-;have p:=eZ<|c.S<|o.out.fj<|fc.gG _ _;clear c;dsimp only;apply a.out _ _ λ_=>⟨trivial,trivial⟩;clear a K;apply ia 9;intro K a;go_simp;go_at_call 123;refine(m.out.2 _ _ _ _ p.out).mono ?_;rintro e L ⟨rfl,o⟩;have z:=eZ<|p.out.r.fj o;clear o;dsimp only;apply a.out _ _ λ_=>⟨trivial,trivial⟩;clear a K;apply ia 10;intro K a;go_simp;apply a.out _ _ λ_=>⟨trivial,trivial⟩;clear a K;try simp only[Act.put,ü,Ė,ė]
 refine oZ fx ?_ _;go_wp2_with fail;go_ret;exact⟨U,z.out⟩
def aon(F:xA O n cp v Á w)(a:rX r x y g k h v v2 slot w): Ö À 67 #[Ç O n cp,Ã<|Â ⟨r,0,Á⟩] w λe b=>e=Ê (Ä<|ow 3)/\fc fh w b:=by
 have d:=a.M;have H:=eZ F;clear F a;go_enter û,ñ;go_wp2_with (first
  |(go_at_call 113;refine H.out.mono ?_;rintro e f ⟨rfl,b⟩;dsimp only[oM,ò];have c:=eZ b;clear b)
  |(go_at_call 114;refine(I8 3 A _).mono ?_;rintro e b ⟨rfl,f⟩;subst b))
 go_ret;exact⟨U,c.out⟩
end
structure Qn where
 x:Nat
 y:Nat
 g:Nat
 k:Nat
 r:Int
 v:Int
 C:Int
 I:Nat
structure Qn.xr(q:Qn):Prop where
 x:q.x<8
 y:q.y<8
 g:q.g<1000000
 k:q.k<18446744073709551616
 aoo:2<=q.r
 aop:q.r<=9
 v:-1<=q.v
 v2:-1<=q.C
 Uf:q.I<16
def vS(a:List ByteArray):ByteArray:=if a=[]then⟨#[45]⟩else lk ⟨#[44]⟩ a
def rY(a:List (Nat×fM))(p:fM)(q:Qn):ByteArray:=
 if q.r=2 then iM ((p.s q.x).r q.I).toNat
 else if q.r=3 then iM (p.s q.x).ft.toNat
 else if q.r=4 then if 400<q.g then ow 6 else aaP (gO p.s [] q.x q.y q.g q.k)
 else if q.r=5 then Ji p.s q.x q.y q.k 0 401
 else if q.r=6 then Dq (A2 p.s)
 else if q.r=7 then vS (p.C.map mj)
 else if q.r=8 then vS (p.r.map ml)
 else match n7 a q.C with
  |none=>ow 3
  |some b=>vS<|lj p.s b.2.s 8
def sZ(a:List (Nat×fM))(q:Qn):ByteArray:=
 match n7 a q.v with
 |none=>ow 3
 |some p=>rY a p.2 q
def Ug{M:Nat}(b:∀z∈vX,z.size<=M)(d:M<=100)(f:vX.length<=400000)(h:jY w (Ç O m i) vX W): Ö À 123 #[Ç O m i] W λe g=>e=Ê (Ä<|vS vX)/\fc fh W g:=by obtain⟨e,g,j⟩:=h.C;have k:=Jm vX b;have:M*vX.length<=100*400000:=ş d f;exact anZ g Z j e Z
def aaU(s:St):A2 s<18446744073709551616:=by unfold A2 Jf;exact Nb _ _<|aaE λi=>TU _ _ _
theorem Uh{b:ByteArray}(c:B.size<=1)(d:b.size<=1):(B++b).size<=2:=by grind
def aaV(s t:St):∀z∈lj s t 8,z.size<=2:=λz a=>by
 unfold lj at a;obtain⟨i,_,h⟩:=ŏ.1 a;unfold xx mR at h;rcases æ.1 h with h|h
 .rcases æ.1 h with h|h
  .split at h
   .cases h
   .simp at h;subst h;exact Uh (FF i)<|Ü _
  .split at h
   .cases h
   .simp at h;subst h;exact Uh (FF i)<|Ü _
 .unfold n8 at h;obtain⟨j,_,h⟩:=ŏ.1 h;unfold Dp at h;split at h
  .cases h
  .simp at h;subst h;exact Uh (FF i)<|anK j
def Ui(a:ByteArray)(c:a.size=1):∀b:List ByteArray,(lk a b).size<=jd b+b.length
 |[]=>Ø _
 |x::r=>by
  show(x.data.toList++mS a r).toArray.size<=_;have d:jd (x::r)=x.size+jd r:=by simp[jd]
  have e:x.data.toList.length=x.size:=by rw[Ē];rfl
  simp only[ń,Õ,Nl a c r,d,e,ý];omega
structure aaW:Prop where
 ky:∀{bp:Option ù} {n cp r:Nat} {w:Í} {vs:List (Nat×fM)} {q:Qn},qV bp n vs w->n<=1000->0<n->rX r q.x q.y q.g q.k q.r q.v q.C q.I w->q.xr->sU w->pK w->q.r=4\/q.r=5->
  Ö À 67 #[Ç bp n cp,Ã<|Â ⟨r,0,Á⟩] w λe w'=>e=Ê (Ä<|sZ vs q)/\fc fh w w'
 wR:∀{s:St} {q:Qn},iZ s->q.xr->q.g<=400->(aaP<|gO s [] q.x q.y q.g q.k).size<=100000000
structure Qn.Ok(q:Qn):Prop extends Qn.xr q where
 r:q.r=4\/q.r=5->aaW
def Qn.Ok.C{q:Qn}(h:q.Ok):q.xr:=⟨h.x,h.y,h.g,h.k,h.aoo,h.aop,h.v,h.v2,h.Uf⟩
section
variable{bp:Option ù}{cp r:Nat}{vs:List (Nat×fM)}{q:Qn}
def aoq(l:qV bp n vs w)(H:n<=1000)(I:0<n)(Y:∀p∈vs,T0 p.2)(d:rX r q.x q.y q.g q.k q.r q.v q.C q.I w)(ok:q.Ok)(hr:sU w)(o:pK w)(hd:qY w): Ö À 67 #[Ç bp n cp,Ã<|Â ⟨r,0,Á⟩] w λe J=>e=Ê (Ä<|sZ vs q)/\fc fh w J:=by
 by_cases t:q.r=4\/q.r=5
 .exact(ok.r t).ky l H I d ok.C hr o t
 have F:=Nf (cp:=cp) l H I q.v ok.v;unfold sZ;cases B:n7 vs q.v with
 |none=>
  rw[B]at F;exact aon F d
 |some p=>
  rw[B]at F;have h:=F;have S:=Jg B;have i:=l.M S;have f:=Y p S;obtain⟨x,y,g,k,kind,v,C,T⟩:=q;obtain⟨⟨D,hy,hg,hk,Nn,oU,hv,V,K⟩,_⟩:=ok;simp only at D hy hg hk Nn oU hv V K d h B t|-;obtain⟨X,_,cs⟩:=i.r.gU D;unfold rY;simp only;split
  .rename_i e;subst e;have c:=cs T K;have j:=i.C.C x T;rw[<-ĺ j.1]at c;exact aog h d D K _ c λW b=>Jh _ (by have:=j.1;have:=j.2;omega) W<|o.r b
  .split
   .rename_i e;subst e;have j:=i.C.ft x;rw[<-ĺ j.1]at X;exact aoh h d D _ X λW b=>Jh _ (by have:=j.1;have:=j.2;omega) W<|o.r b
   .split
    .exact absurd (Æ ‹_›) t
    .split
     .exact absurd (Î ‹_›) t
     .split
      .rename_i e;subst e;exact aoi h d _ (λW b=>am5 (i.r.r b id) i.C) λW b=>aof _ (aaU _)<|hd.r b
      .split
       .rename_i e;subst e;obtain⟨L,M,N,O⟩:=i.N;exact aoj h d L _ M N _ (λW b=>anF U f.I f.C (o.r b)<|qW.C O b) λW a m c u=>Ug (λz P=>by obtain⟨e,E,rfl⟩:=à.1 P;exact Ua (f.C e E).2) Z (by rw[õ];exact f.I) u
       .split
        .rename_i e;subst e;obtain⟨L,M,N,O⟩:=i.S;exact aok h d L _ M N _ (λW b=>anH U f.M f.r (o.r b)<|qW.C O b) λW a m c u=>Ug (λz P=>by obtain⟨e,E,rfl⟩:=à.1 P;exact Ub (f.r e E).1 (f.r e E).2) Z (by rw[õ];have:=f.M;omega) u
        .have e:kind=9:=Z
         subst e;have G:∀W,fc fh w W->Ö À 113 #[Ç bp n cp,Å È C] W λe J=>e=Ê (oM ((n7 vs C).map (·.1)))/\fc fh W J:=λW b=>Nf (l.I b) H I C V;cases Q:n7 vs C with
         |none=>
          rw[Q]at G;exact aol h d U G
         |some p2=>
          rw[Q]at G;exact aom h d trivial G _ (λW b=>anL (i.r.r b id)<|(l.M<|Jg Q).r.r b id) λW a m c u=>Ug (aaV _ _) Z (by have:=T5 p.2.s p2.2.s 8;omega) u
end
end Go.Proofs.Y.gu
namespace Go.Proofs.Y.iV
open Go Go.Proofs Go.RowKit Go.Proofs.Y.Lift Go.Proofs.Y.gu
def kD(a:List (Nat×fM)):List fM:=a.map (·.2)
def aaX(d:fM)(l:List fM):fM:=l.foldl (λa b=>if a.h<b.h then b else a) d
theorem aaY:∀(a:List (Nat×fM)) (d:Nat×fM),(vR d a).2=aaX d.2 (kD a)
 |[],_=>rfl
 |x::r,d=>by show(vR (zh d x) r).2=aaX (if d.2.h<x.2.h then x.2 else d.2) (kD r);rw[aaY r];unfold zh;split<;>rfl
theorem Uj{a b:List (Nat×fM)}(h:kD a=kD b)(v:Int):(n7 a v).map (·.2)=(n7 b v).map (·.2):=by
 have c:∀i:Nat,(a[i]?).map (·.2)=(b[i]?).map (·.2):=λi=>by have:=congrArg (λl:List fM=>l[i]?) h;simpa[kD]using this
 unfold n7;grind [aaY]
theorem aor{a b:List (Nat×fM)}(h:kD a=kD b):a.length=b.length:=by have:=congrArg List.length h;simpa[kD]using this
theorem aaZ{a b:List (Nat×fM)}(h:kD a=kD b)(v:Int)(x:Nat)(c:List Tx):rU a v x c=rU b v x c:=by have d:=Uj h v;unfold rU;grind [aor]
theorem aos{a b:List (Nat×fM)}(h:kD a=kD b)(q:Qn):sZ a q=sZ b q:=by
 have c:=Uj h q.v;have d:=Uj h q.C;have e:∀p:fM,rY a p q=rY b p q:=λp=>by unfold rY;grind
 unfold sZ;grind
structure kx(s:List fM):Prop where
 C:0<s.length
 r:s.length<=40
 zi:∀v∈s,T0 v/\iZ v.s/\0<=v.h/\v.h<s.length
def rZ(a:List (Nat×fM))(v:Int)(x:Nat)(b:List Tx):List fM:=kD a++(rU a v x b).1.toList
def kx.I{f:List (Nat×fM)}(h:kx (kD f)){g:List Tx}(k:∀t∈g,t.Ok)(m:g.length<=1000):kx (rZ f c i g):=by
 unfold iV.rZ;have B:(kD f).length=f.length:=by simp[kD]
 unfold rU;cases n:n7 f c with
 |none=>simpa using h
 |some p=>
  have o:p.2∈kD f:=à.2 ⟨p,Jg n,U⟩;let⟨C,l,D,E⟩:=h.zi _ o;simp only;split
  .simpa using h
  .rename_i F;cases j:mQ i p.2.s g with
   |none=>simpa using h
   |some r=>
    simp only[Option.toList];have G:=h.r;have w:iZ r.1:=by unfold mQ at j;obtain⟨H,y,rfl⟩:=ì.1 j;exact(T3 g k l (λ_ q=>by cases q) (λ_ q=>by cases q) (by simp;omega) (by simp;omega) y).1.r i<|Di _
    refine⟨fp,by simp;omega,λu z=> ?_⟩;rcases æ.1 z with q|q
    .let⟨a,b,e,d⟩:=h.zi u q;refine⟨a,b,e,?_⟩;rw[Õ];simp;omega
    .simp at q;subst q;refine⟨anv k l m j,w,by show 0<=p.2.h+1;omega,?_⟩;rw[Õ];show p.2.h+1<_;simp;omega
def jb(Y:fw)(u w:Í):Prop:=∀(i j o:Nat) (v:Ñ),Y i j->u.cell? ⟨i,o,Á⟩=Â v->∃a,w.cell? ⟨j,o,Á⟩=Â a/\fu Y v a
section
variable{Y:fw}
theorem aot{k:IntKind}(h:fu Y (Å k c) v):v=Å k c:=by cases h;rfl
theorem aou(h:fu Y (Ä B) v):v=Ä B:=by cases h;rfl
theorem Jn(h:fu Y (Ã<|Â a) v):∃b,v=Ã (Â b)/\ig Y a b:=by
 cases h with
 |jE q=>exact⟨_,U,q⟩
def Jo(h:fu Y (Ç O n i) v):∃b,v=Ç b n i/\∀a,O=Â a->∃d,b=Â d/\ig Y a d:=by
 cases h with
 |nF=>exact⟨Á,U,λa q=>by cases q⟩
 |j5 q=>exact⟨_,U,λa e=>by cases e;exact⟨_,U,q⟩⟩
theorem aov(a:j4 v=Ì)(h:fu Y v x):x=v:=by cases h<;>first|rfl|(simp[j4]at a;done)
theorem vT(h:ig Y ⟨b,i,Á⟩ a):∃c,a=⟨c,i,Á⟩/\Y b c:=by let⟨d,e,f⟩:=h;let⟨c,g,j⟩:=a;grind
theorem jb.r(a:jb Y u w){k:IntKind}(h:Y i j)(d:u.cell? ⟨i,b,Á⟩=Â (Å k c)):w.cell? ⟨j,b,Á⟩=Â (Å k c):=by let⟨e,f,g⟩:=a i j b _ h d;grind [aot]
theorem jb.I(a:jb Y u w)(h:Y i j)(b:u.cell? ⟨i,n,Á⟩=Â (Ä B)):w.cell? ⟨j,n,Á⟩=Â (Ä B):=by let⟨c,d,e⟩:=a i j n _ h b;grind [aou]
theorem jb.C(a:jb Y u w)(c:j4 v=Ì)(h:Y i j)(b:u.cell? ⟨i,n,Á⟩=Â v):w.cell? ⟨j,n,Á⟩=Â v:=by let⟨d,e,f⟩:=a i j n _ h b;grind [aov]
def Uk(s:gu.St):∀v∈iz s,(∃n,v=Å Ā n)\/∃p,v=Ä p:=λv n=>by
 unfold iz at n;obtain⟨i,_,rfl⟩:=à.1 n;unfold rN rM;split
 .exact Æ ⟨_,U⟩
 .split
  .exact Î ⟨_,U⟩
  .exact Æ ⟨_,U⟩
def aow(a:jb Y u w){s:gu.St}(c:Y b i)(d:rT b s h u):rT i s h w:=by
 refine⟨λj v e=> ?_,a.r c d.h⟩;have f:=d.C j v e;rcases Uk s v (Ý e)with⟨n,rfl⟩|⟨p,rfl⟩
 .exact a.r c f
 .exact a.I c f
def aa0(a:jb Y u w)(f:Y b i)(g:∀v∈l,j4 v=Ì)(h:A3 ⟨b,j,Á⟩ n l u):A3 ⟨i,j,Á⟩ n l w:=by let⟨p,c,k,m⟩:=h;let⟨G,q,r⟩:=a b i j _ f k;obtain⟨s,rfl,t⟩:=Jo r;refine⟨s,c,q,λd x e=> ?_⟩;let⟨H,y,z,B⟩:=m d x e;let⟨I,C,D⟩:=t _ z;obtain⟨E,rfl,F⟩:=vT D;exact⟨E,y,C,a.C (g x<|Ý e) F B⟩
def aox(a:jb Y u w){v:fM}(c:Y b i)(h:sX b v u):sX i v w:= ⟨aow a c h.r,h.C,h.I,h.M,aa0 a c (X_ _) h.N,aa0 a c (aas _) h.S⟩
def xZ{α β:Type}{R:Nat->α->β->Prop}:∀(l:List α) (k:Nat),(∀j x,l[j]?=Â x->∃y,R (k+j) x y)->∃a:List β,a.length=l.length/\∀j y,a[j]?=Â y->∃x,l[j]?=Â x/\R (k+j) x y
 |[],_,_=>⟨[],U,λj y h=>by simp at h⟩
 |x::r,k,h=>by
  let⟨y,c⟩:=h 0 x U;obtain⟨a,d,e⟩:=xZ r (k+1) λj z b=>by let⟨q,f⟩:=h (j+1) z b;exact⟨q,by rwa[show k+1+j=k+(j+1) by omega]⟩
  refine⟨y::a,by simp[d],λj z b=> ?_⟩;cases j with
  |zero=>cases b;exact⟨x,U,c⟩
  |succ j=>
   let⟨q,f,g⟩:=e j z b;exact⟨q,f,by rwa[show k+(j+1)=k+1+j by omega]⟩
theorem Jp(a:jb Y u w){e:List (Nat×fM)}(i:fu Y z jQ)(h:Ng z e u):∃c,kD c=kD e/\Ng jQ c w:=by
 obtain⟨J,n,k,rfl,l,f⟩:=h;obtain⟨g,rfl,m⟩:=Jo i;let⟨c,o,K⟩:=xZ (R:=λj (x y:Nat×fM)=>x.2=y.2/\∃q d,g=Â ⟨q,d,Á⟩/\w.cell? ⟨q,d+j,Á⟩=Â (Ã<|Â ⟨y.1,0,Á⟩)/\sX y.1 y.2 w) e 0 λj x p=>by let⟨b,v⟩:=x;let⟨q,d,r,s,t⟩:=f.C j b v p;let⟨L,B,C⟩:=m _ r;obtain⟨y,rfl,D⟩:=vT C;let⟨M,E,F⟩:=a q y _ _ D s;obtain⟨N,rfl,G⟩:=Jn F;obtain⟨H,rfl,I⟩:=vT G;exact⟨(H,v),U,y,d,B,by rwa[Ņ],aox a I t⟩
 refine⟨c,?_,g,n,k,U,l,⟨by rw[o];exact f.r,λj b v q=> ?_⟩⟩
 .refine ņ λj=> ?_;unfold kD;grind
 .grind
end
def lB(a:Nat->Prop)(B:Nat):fw:=⟨λi j=>i=j/\a i,B⟩
def aoy(a:Nat->Prop)(B:Nat):Bi (lB a B):= ⟨λ_ _ _ h k=>h.1.symm.trans k.1,λ_ _ _ h k=>h.1.trans k.1.symm,λi j h=>by rw[h.1]⟩
def A7{V:Nat->Prop}{B:Nat}(h:∀i,X i->V i):(lB X B).r (lB V B):=⟨λ_ _ q=>⟨q.1,h _ q.2⟩,λ_=>aoy V B,U⟩
def kO(B:Nat)(a:Nat->Prop)(w:Í):Prop:=∀b,a b->∃c e d,w.heap[b]?=Â (ä c e d)/\d.2<=c.size/\fU (lB a B) c c/\0<c.size/\D6 c/\e≠304/\e≠305
section
variable{B:Nat}{V:Nat->Prop}
def kO.I(h:kO B X w)(k:kO B V w):kO B (λb=>X b\/V b) w:=by
 rintro b (q|q)
 .let⟨c,e,a,d,f,g,i⟩:=h b q;exact⟨c,e,a,d,f,g.ff (A7 λ_=>Æ),i⟩
 .let⟨c,e,a,d,f,g,i⟩:=k b q;exact⟨c,e,a,d,f,g.ff (A7 λ_=>Î),i⟩
def kO.C(h:kO B X w)(k:∀b,X b->u.heap[b]?=w.heap[b]?):kO B X u:=λb q=>by let⟨c,e,a,d,f⟩:=h b q;exact⟨c,e,a,by rwa[k b q],f⟩
theorem kO.r(h:kO B X w)(a:X b)(d:w.cell? ⟨b,i,Á⟩=Â v):fu (lB X B) v v:=by let⟨c,e,j,f,_,g,_⟩:=h b a;simp only[Û,f,í,ç,if_false]at d;rcases g.M i with⟨q,_⟩|⟨x,k,l,m,n⟩;all_goals grind
def Ds(h:fu (lB X B) (Ã<|Â a) v):X a.block:=by
 cases h with
 |jE q=>exact q.1.2
def Dt(h:fu (lB X B) (Ç (Â a) n i) v):X a.block:=by
 cases h with
 |j5 q=>exact q.1.2
def aoz{Y:fw}(h:j4 v=Ì):fu Y v v:=by cases v<;>first|exact .lY _|exact .iB _ _|(simp[j4]at h;done)
def oN{Y:fw}(h:∀v∈d.toList,fu Y v v):fU Y d d:=⟨U,λi a _=>h _<|é.2<|ú a⟩
def aoA(h:j4 v=Ì):zM v=É:=by
 cases v with
 |int k n=>cases k<;>first|rfl|(simp[j4]at h;done)
 |_=>rfl
def A8(h:∀v∈d.toList,zM v=É):D6 d:=λk v a=>h v<|é.2<|ĭ a
def Jq(v:Ñ)(i:Nat):Prop:=v.ownBlock=Â i
def Jr(X:Nat->Prop)(g b:Nat)(a c:Ñ)(i:Nat):Prop:=X i\/i=g\/i=b\/Jq a i\/Jq c i
def aa1{G:Í}(a:lA T=Ì)(h:uA v T u)(o:∀j,v.ownBlock=Â j->G.heap.size<=j)(p:sS G.heap.size u):∀i,Jq v i->∃c e f,u.heap[i]?=Â (ä c e f)/\f.2<=c.size/\fU (lB V B) c c/\0<c.size/\D6 c/\e≠304/\e≠305:=λi b=>by
 rcases h with rfl|⟨g,n,c,k,rfl,l⟩
 .cases b
 .have e:g=i:=by unfold Jq at b;simpa[Value.ownBlock]using b
  subst e;let⟨r,m⟩:=p g k T (0,0) (o g U) l a;exact⟨k,T,(0,0),l,Ø _,oN λv d=>aoz<|m v d,r,A8 λv d=>aoA<|m v d,(λq=>by rw[q]at a;cases a),(λq=>by rw[q]at a;cases a)⟩
def aa2(h:uA v T u)(a:∀i,Jq v i->V i):fu (lB V B) v v:=by
 rcases h with rfl|⟨g,n,c,b,rfl,d⟩
 .exact .nF _ _
 .exact fu.j5 (Y:=lB V B) ⟨⟨U,a g U⟩,U,U⟩ n c
theorem aoB{G:Í}(J:kO B X G)(k:fc fh G u)(K:∀i,X i->i<G.heap.size){l:List (Nat×fM)}{s:gu.St}(o:TX b s h G u)(r:TW l b G u m)(L:∀p∈l,X p.1): ∃e,(∀i,X i->e i)/\e m/\kO B e u/\∀i,e i->X i\/G.heap.size<=i:=by
 have t:=k.S _ λi c T w M y=>by rw[Ĩ M]at y;cases y
 let⟨a,d,N,z,C,D,E⟩:=o.r;refine⟨Jr X m b a d,λi q=>Æ q,Î<|Æ U,?_,?_⟩
 .rintro i (q|rfl|rfl|q|q)
  .let⟨c,e,w,n,x,f,j⟩:=J i q;exact⟨c,e,w,by rwa[k.N i (K i q) id],x,f.ff (A7 λ_=>Æ),j⟩
  .let⟨F,n,x,f⟩:=r.r;have H:∀v∈F.toList,v=Ã Á\/∃j,v=Ã (Â ⟨j,0,Á⟩)/\Jr X i b a d j:=λv e=>by
    rcases f v e with q|q|q
    .unfold sY at q;obtain⟨p,I,rfl⟩:=à.1 q;exact Î ⟨_,U,Æ<|L p I⟩
    .exact Î ⟨_,q,Î<|Î<|Æ U⟩
    .exact Æ q
   refine⟨F,136,(0,0),n,Ø _,oN λv e=> ?_,x,A8 λv e=> ?_,A,A⟩
   .rcases H v e with rfl|⟨j,rfl,I⟩
    .exact .lF
    .exact .jE ⟨⟨U,I⟩,U,U⟩
   .rcases H v e with rfl|⟨j,rfl,I⟩<;>rfl
  .have f:∀v∈ny s a++[Å È h,d],fu (lB (Jr X m i a d) B) v v/\zM v=É:=λv e=>by
    rw[Fz]at e;have I:=aa2 (B:=B) (V:=Jr X m i a d) z λj q=>Î<|Î<|Î<|Æ q;have F:=aa2 (B:=B) (V:=Jr X m i a d) C λj q=>Î<|Î<|Î<|Î q;have H:∀{x:Ñ} {T:ċ},uA x T u->zM x=É:=λ{x T} q=>by rcases q with rfl|⟨_,_,_,_,rfl,_⟩<;>rfl
    rcases æ.1 e with q|q
    .rcases æ.1 q with q|q
     .rcases Uk s v q with⟨n,rfl⟩|⟨p,rfl⟩
      .exact⟨.iB _ _,U⟩
      .exact⟨.kt _,U⟩
     .grind
    .simp at q;rcases q with rfl|rfl
     .exact⟨.iB _ _,U⟩
     .grind
   exact⟨_,147,(0,0),N,Ø _,oN λv e=>(f v<|by simpa using e).1,by simp[rO],A8 λv e=>(f v<|by simpa using e).2,A,A⟩
  .exact aa1 U z D t i q
  .exact aa1 U C E t i q
 .rintro i (q|rfl|rfl|q|q)
  .exact Æ q
  .exact Î r.C
  .exact Î o.C
  .exact Î<|D i q
  .exact Î<|E i q
def Np{Y:fw}(h:fu Y v x):fu (lB X B) v v->fu (lB (λj=>∃i,X i/\Y i j) B) x x:=by
 induction h with
 |lY b=>exact λ_=> .lY b
 |iB k n=>exact λ_=> .iB k n
 |kt s=>exact λ_=> .kt s
 |lF=>exact λ_=> .lF
 |@jE a a' q=>exact λz=>fu.jE (Y:=lB (λj=>∃i,X i/\Y i j) B) ⟨⟨U,_,Ds z,q.1⟩,U,U⟩
 |nF n c=>exact λ_=> .nF n c
 |@j5 a a' q n c=>exact λz=>fu.j5 (Y:=lB (λj=>∃i,X i/\Y i j) B) ⟨⟨U,_,Dt z,q.1⟩,U,U⟩ n c
 |tF=>exact λ_=> .tF
 |fn f=>exact λ_=> .fn f
 |tH=>exact λ_=> .tH
 |tJ=>exact λ_=> .tJ
 |tK=>exact λ_=> .tK
 |wz t _ b=>exact λz=> .wz t (b (by cases z with|wz _ y=>exact y))
 |oj f _ b=>exact λz=> .oj U λi c _=>b i (by rwa[f]) c (by cases z with|oj _ y=>exact y i _ _)
 |lZ f _ b=>exact λz=> .lZ U λi c _=>b i (by rwa[f]) c (by cases z with|lZ _ y=>exact y i _ _)
def aoC{Y:fw}(h:fu Y v x):zM x=zM v:=by cases h<;>rfl
theorem Ul{Y:fw}{r:Nat->Prop}(h:je Y r u w)(s:kO B X u):kO B (λj=>∃i,X i/\Y i j) w:=by
 rintro j ⟨i,t,x⟩;let⟨c,a,e,F,y,z,C,b,G,H,I⟩:=h.r i j x;let⟨d,J,K,m,_,D,L,E,n,o⟩:=s i t;rw[z]at m;cases m;have M:=b.I.resolve_right λq=>q.2.1.elim n o;refine⟨a,e,y,C,?_,oN λv f=> ?_,Z,A8 λv f=> ?_,n,o⟩
 .grind
 .obtain⟨k,g,rfl⟩:=ē f;have l:k<a.size:=by simpa using g
  have:=Np (b.C k Z l)<|D.C k Z Z;simpa using this
 .obtain⟨k,g,rfl⟩:=ē f;have l:k<a.size:=by simpa using g
  have p:=aoC<|b.C k Z l;rw[(E k c[k]<|â Z)]at p;simpa using p
def zj{Y:fw}(h:je Y X u w):jb Y u w:=λi j o v b c=>h.gw (a:=⟨i,o,Á⟩) (a':=⟨j,o,Á⟩) ⟨b,U,U⟩ c
end
end Go.Proofs.Y.iV
namespace Go.Proofs.Y.Lift
open Go
def aa3{α β:Type}{c:α->β->Option (ForInStep β)}{I:β->Prop}(d:∀a b s,I b->c a b=Â s->I s.value): ∀(l:List α) (b r:β),I b->forIn l b c=Â r->I r
 |[],b,r,hi,h=>by simp at h;subst h;exact hi
 |a::l,b,r,hi,h=>by
  rw[List.forIn_cons]at h;cases e:c a b with
  |none=>rw[e]at h;simp at h
  |some s=>
   rw[e]at h;have:=d a b s hi e;cases s with
   |done x=>simp at h;subst h;exact this
   |yield x=>simp at h;exact aa3 d l x r this h
def iF.gU(h:iF v):∀x∈v.cells,iF x:=by
 intro x a;cases h with
 |oj h=>
  obtain⟨i,b,rfl⟩:=Array.mem_iff_getElem.1 a;exact h i b
 |lZ h=>simp[İ]at a;subst a;exact .lZ h
 |_=>simp[İ]at a;subst a;constructor
def ZP(a:ċ->Option Ġ):Prop:=∀t i z,a t=Â i->i.zero=Â z->iF z
def Um(h:∀x∈d,iF x):iF (.agg d):=.oj λ_ a=>h _<|ú a
theorem aoD{l:ċ->Option Ġ}(h:ZP l){m:Array Field}(g:Ň l m=Â zJ)(q:zJ.zero=Â z):iF z:=by
 unfold Ň at g;simp only[<-Array.forIn_toList]at g;generalize t:(forIn m.toList _ _:Option _)=L at g;cases L with
 |none=>simp at g
 |some r=>
  have u:=aa3 (I:=λx=>∀a,x.2.2.2.2.2.2.2.1=Â a->∀v∈a,iF v) ?_ _ _ _ ?_ t
  .have:∃a,r.2.2.2.2.2.2.2.1=Â a/\z=.agg a:=by
    grind [ì]
   obtain⟨a,e,rfl⟩:=this;exact Um<|u a e
  .intro f b s w d;have y:∀(e:Option Ñ) (k:Nat) (x:Option (Array Ñ)),(∀z,e=Â z->iF z)->x=(if k>Š then Á else do pure ((<-b.2.2.2.2.2.2.2.1)++(<-e).cells))->∀a,x=Â a->∀v∈a,iF v:=by
    intro e k x B C a c v n;subst C;split at c
    .simp at c
    .cases j:b.2.2.2.2.2.2.2.1 with
     |none=>rw[j]at c;simp at c
     |some E=>
      cases o:e with
      |none=>rw[j,o]at c;simp at c
      |some D=>
       rw[j,o]at c;simp at c;subst c;rcases Array.mem_append.1 n with p|p
       .exact w _ j v p
       .exact(B D o).gU v p
   cases e:l f.type with
   |none=>rw[e]at d;simp at d
   |some j=>
    rw[e,å,Ő]at d;have k:=y j.zero (b.2.1+j.size) _ (λz q=>h _ _ _ e q) U;generalize(if b.2.1+j.size>Š then Á else(do pure ((<-b.2.2.2.2.2.2.2.1)++(<-j.zero).cells):Option (Array Ñ)))=X at d k;generalize(if b.1.size+1<m.size then ";" else "")=Y at d;simp only[bind,pure,Option.bind]at d;repeat' split at d
    all_goals first
     |(simp only[Ó]at d;subst d;exact k)
     |(simp at d;done)
  .intro a c v n;simp at c;subst c;simp at n
def aoE{c:ċ->Option Ġ}(h:ZP c){d:TypeDesc}(a:ź c d=Â zJ)(b:zJ.zero=Â z):iF z:=by
 unfold ź at a;cases d with
 |struct k=>exact aoD h a b
 |array n e=>
  simp only[å,Ù,ö,Ó]at a;obtain⟨f,v,st,_,rfl⟩:=a;simp only at b;split at b
  .simp at b
  .split at b
   .simp at b;subst b;exact Um fp
   .simp only[ì]at b;obtain⟨j,g,rfl⟩:=b;refine Um λx k=> ?_;simp only[Array.mem_flatten,Array.mem_replicate]at k;obtain⟨l,⟨_,rfl⟩,k⟩:=k;exact(h _ _ _ v g).gU x k
 |pointer e=>
  simp only[å,Ù,ö]at a;let⟨f,v,a⟩:=a;repeat' split at a
  all_goals first
   |(simp at a;done)
   |(simp only[Ù,Ó]at a;obtain⟨_,_,rfl⟩:=a;simp only[ĸ,Ó]at b;subst b;constructor)
 |slice e=>
  simp only[å,Ù,ö,Ó]at a;obtain⟨_,_,_,_,rfl⟩:=a;simp only[ĸ,Ó]at b;subst b;constructor
 |map k e=>
  simp only[å,Ù,ö,Ó]at a;obtain⟨_,_,_,_,_,_,_,_,rfl⟩:=a;simp only[ĸ,Ó]at b;subst b;constructor
 |chan k e=>
  simp only[å,Ù,ö,Ó]at a;obtain⟨_,_,_,_,rfl⟩:=a;simp only[ĸ,Ó]at b;subst b;constructor
 |func k e v=>
  simp only[å,Ù,ö,Ó]at a;obtain⟨_,_,rfl⟩:=a;simp only[ĸ,Ó]at b;subst b;constructor
 |_=>simp at a
def aa4{T:Tables}(a:∀(t:Nat) (i:Ġ) (z:Ñ),T.types[t]?=Â i->i.zero=Â z->iF z):∀f,ZP<|ŕ T f
 |0=>λt i z h=>by simp[ŕ]at h
 |f+1=>λt i z h b=>by
  unfold ŕ at h;split at h
  .exact a t i z h b
  .simp only[Ù]at h;let⟨d,_,c⟩:=h;exact aoE (aa4 a f) c b
def aoF(a:∀(t:Nat) (i:Ġ) (z:Ñ),P.types[t]?=Â i->i.zero=Â z->iF z):ot P:=λt i z h b=>by
 have h:P.toTables.info? t=Â i:=h;unfold Tables.info? at h;split at h
 .exact a t i z h b
 .exact aa4 a _ t i z h b
end Go.Proofs.Y.Lift
namespace Go.Proofs.Y.fA
open Go Go.Conc Go.Proofs.Y.Lift Go.RowKit Go.Conc.Lib Go.ConcR.Gen
open Go.Proofs Go.Proofs.YtgpphkdoanciiaaGreatDoor
def Un:Ñ->Bool
 |.agg a=>a.toList.all zV
 |v=>zV v
def aa5(h:Un v=Ì):iF v:=by
 cases v with
 |agg b=>exact .oj λi a=>GH<|(ģ.1 h) _<|é.2<|ú a
 |_=>exact GH h
def aa6:Ñ->Bool
 |è a=>a.toList.all Un
 |v=>Un v
def aoG(h:aa6 v=Ì):iF v:=by
 cases v with
 |tuple b=>exact .lZ λi a=>aa5<|(ģ.1 h) _<|é.2<|ú a
 |_=>exact aa5 h
def zk(i:Ġ):Bool:=match i.zero with
 |some z=>aa6 z
 |none=>Ì
def aoH(h:P.types.toList.all zk=Ì):ot P:=aoF λt i z a b=>by have:=(ģ.1 h) i<|é.2<|ĭ a;unfold zk at this;rw[b]at this;exact aoG this
def xY:ot À:=aoH fL
end Go.Proofs.Y.fA
namespace Go.Proofs.Y.iV
open Go Go.Conc Go.Proofs Go.RowKit Go.Proofs.Y.Lift Go.Proofs.Y.gu Go.Proofs.Y.fA
noncomputable def nB:Nat:=À.globals.size
def qm(a:Nat->Prop)(b:Nat):Prop:=a b\/b=1\/b=2\/b=3\/b=4
def Nq(b:Nat)(e:ċ)(w:Í):Prop:=∃c a,w.heap[b]?=Â (ä c e a)/\a.2<=c.size/\a.2<=16/\0<c.size/\∀v∈c.toList,∃k n,v=Å k n
structure mT(w:Í):Prop where
 fv:nB<=w.heap.size
 M:kO nB (λb=>b=1\/b=2) w
 I:Nq 3 304 w
 C:Nq 4 305 w
 S:gu.pK w
 vM:sU w
 N:qY w
section
variable{V:Nat->Prop}
theorem mT.r{w':Í}(h:mT w)(f:nB<=w'.heap.size)(k:∀b,b=1\/b=2\/b=3\/b=4->w'.heap[b]?=w.heap[b]?):mT w':=by
 have d:∀b o,b=1\/b=2\/b=3\/b=4->w'.cell? ⟨b,o,Á⟩=w.cell? ⟨b,o,Á⟩:=λb o e=>by simp only[Û,k b e]
 refine⟨f,h.M.C λb e=>k b<|e.imp id Æ,?_,?_,?_,?_,?_⟩
 .let⟨c,i,a,r⟩:=h.I;exact⟨c,i,by rwa[k 3 fp],r⟩
 .let⟨c,i,a,r⟩:=h.C;exact⟨c,i,by rwa[k 4 fp],r⟩
 .have c:=h.S;have i:À.globalNamed "internal/strconv.uint64pow10"=Â 1:=fx
  unfold gu.pK Ι Β at*;grind
 .let⟨c,g,a⟩:=h.vM.M;refine⟨⟨c,g,by rwa[k 2 fp]⟩,λi r j=> ?_⟩;rw[d 2 _ fp,d 2 _ fp,d 2 _ fp];exact h.vM.I i r j
 .have:=h.N;unfold qY at*;grind
def aa7(u:kO nB X w)(x:∀b,X b->lJ b=É)(g:mT w):zb (qm X) (qm X) nB w:=by
 have p:∀{a:Nat->Prop} {c:Array Ñ},(∀b,a b->qm X b)->fU (lB a nB) c c->fU (mh (qm X) nB) c c:=λ{a c} hX r=>r.ff<|A7 hX;refine⟨?_,g.fv⟩;have s:∀b e,(e=304\/e=305)->lJ b=Ì->Nq b e w->∃c e d,w.heap[b]?=Â (ä c e d)/\d.2<=c.size/\fU (mh (qm X) nB) c c/\(qm X b->0<c.size/\(lJ b=Ì->(e=304\/e=305)/\d.2<=16)/\(lJ b=É->D6 c)):=λb e y B h=>by let⟨c,d,f,j,l,m,o⟩:=h;exact⟨c,e,d,f,j,oN λv i=>by obtain⟨k,n,rfl⟩:=o v i;exact .iB _ _,λ_=>⟨m,λ_=>⟨y,l⟩,λq=>by rw[B]at q;cases q⟩⟩
 rintro b (q|q|q|rfl|rfl)
 .let⟨c,e,d,f,j,l,m,o,_⟩:=u b q;exact⟨c,e,d,f,j,p (λ_=>Æ) l,λ_=>⟨m,λt=>(by rw[x b q]at t;cases t),λ_=>o⟩⟩
 .let⟨c,e,d,f,j,l,m,o,_⟩:=g.M b<|Æ q;exact⟨c,e,d,f,j,p (λi k=>k.elim (λz=>Î<|Æ z) λz=>Î<|Î<|Æ z) l,λ_=>⟨m,λt=>(by rw[q]at t;cases t),λ_=>o⟩⟩
 .let⟨c,e,d,f,j,l,m,o,_⟩:=g.M b<|Î q;exact⟨c,e,d,f,j,p (λi k=>k.elim (λz=>Î<|Æ z) λz=>Î<|Î<|Æ z) l,λ_=>⟨m,λt=>(by rw[q]at t;cases t),λ_=>o⟩⟩
 .exact s 3 304 (Æ U) U g.I
 .exact s 4 305 (Î U) U g.C
def qn(a:lJ b=É\/i<16)(h:w.cell? ⟨b,i,Á⟩=Â v):(World.tp (j2 V w) xQ 0).cell? ⟨b,i,Á⟩=Â v:=by
 have j:(World.tp (j2 V w) xQ 0).heap[b]?=(w.heap[b]?).map (pH V b):=Db b;simp only[Û,j];simp only[Û]at h;cases g:w.heap[b]? with
 |none=>rw[g]at h;cases h
 |some k=>
  rw[g]at h;cases k with
  |cells c e m=>
   simp only[ø,pH,í,ç,if_false]at h|-;split
   .rename_i d;split at d
    .split at d
     .rename_i l;cases d;rcases a with a|a
      .rw[l]at a;cases a
      .unfold vL;rw[Array.getElem?_extract];simp;exact⟨by have:=(Þ.1 h).1;omega,h⟩
     .cases d;exact h
    .cases d;exact h
   .rename_i f;split at f
    .split at f<;>exact absurd U<|f _ _ _
    .exact absurd U<|f _ _ _
  |_=>cases h
def aa8{T:Ŧ}(d:kO nB X w)(e:∀b,X b->lJ b=É):jb (lB X nB) w (World.tp (j2 V w) T 0):=by rintro i j o v ⟨rfl,a⟩ c;exact⟨v,qn (Æ<|e i a) c,d.r a c⟩
end
def RD(s:List fM)(b:Ñ)(a:Nat->Prop)(w:Í):Prop:=∃c,kD c=s/\kx s/\Ng b c w/\kO nB a w/\fu (lB a nB) b b
section
variable{V:Nat->Prop}{w':Í}{s:List fM}
def aa9(h:kO nB X w)(k:∀b,X b->w'.heap[b]?=w.heap[b]?):jb (lB X nB) w w':=by rintro i j o v ⟨rfl,a⟩ c;exact⟨v,by simp only[Û,k i a];exact c,h.r a c⟩
def RD.r(h:RD s v X w)(k:∀b,X b->w'.heap[b]?=w.heap[b]?):RD s v X w':=by let⟨l,d,e,f,a,c⟩:=h;let⟨g,i,j⟩:=Jp (aa9 a k) c f;exact⟨g,i.trans d,e,j,a.C k,c⟩
def Js(r:Nat)(q:Qn)(w:Í):Prop:=rX r q.x q.y q.g q.k q.r q.v q.C q.I w
def abb{Y:fw}(a:jb Y u w){r:Nat}{q:Qn}(b:Y r i)(h:Js r q u):Js i q w:= ⟨a.r b h.I,a.r b h.S,a.r b h.a,a.r b h.Y,a.r b h.N,a.r b h.M,a.r b h.c,a.r b h.b⟩
def aoI{T:Ŧ}(g:mT w):gu.pK (World.tp (j2 V w) T 0):=by
 have a:=g.S;have h:À.globalNamed "internal/strconv.uint64pow10"=Â 1:=fx
 unfold gu.pK Ι Β at*;rw[h]at a|-;simp only[Ő]at a|-;have i:(World.tp (j2 V w) T 0).heap[1]?=(w.heap[1]?).map (pH V 1):=Db 1;rw[i];cases f:w.heap[1]? with
 |none=>rw[f]at a;cases a
 |some j=>
  rw[f]at a;cases j with
  |cells c e k=>
   simp only[ø,pH,lJ]at a|-;split
   .rename_i b;split at b<;>(simp at b;obtain⟨rfl,_⟩:=b;exact a)
   .rename_i d;split at d
    .exact absurd U<|d _ _ _
    .exact absurd U<|d _ _ _
  |_=>cases a
theorem abd{T:Ŧ}(g:mT w):sU (World.tp (j2 V w) T 0):=by
 let⟨f,h,d⟩:=g.vM.M;refine⟨?_,λi r e=> ?_⟩
 .have a:(World.tp (j2 V w) T 0).heap[2]?=(w.heap[2]?).map (pH V 2):=Db 2;rw[a,d];simp only[ø,pH,lJ];grind
 .let⟨a,b,c⟩:=g.vM.I i r e;exact⟨qn (Æ U) a,qn (Æ U) b,qn (Æ U) c⟩
def aoJ{T:Ŧ}(g:mT w):qY (World.tp (j2 V w) T 0):=qn (Î A) g.N
theorem A9{T:Ŧ}:kl (World.tp (j2 V w) T 0):=λi o h=>M_ (Sh:=V) (w:=w) i o h
theorem aoK{l:fe}{q:Qn}{r:Nat}(x:RD s v X l.w)(I:∀b,X b->l.M b)(y:kO nB V l.w)(J:∀b,V b->l.M b)(h:V r)(z:Js r q l.w)(ok:q.Ok)(g:mT l.w)(K:∀b,b=1\/b=2\/b=3\/b=4->l.M b)(j:∀b,X b\/V b->lJ b=É)(m:List (Nat×fM))(B:kD m=s): Fu (λg=>zd g=Ì) 67 #[v,Ã<|Â ⟨r,0,Á⟩] l (qm λb=>X b\/V b) λe _=>e=Ä (sZ m q):=by
 let⟨L,c,d,D,E,o⟩:=x;have t:=E.I y;refine⟨?_,aa7 t j g,?_,?_,λT=> ?_⟩
 .rintro b (q|q);all_goals grind
 .intro b a;unfold zd at a;simp at a;exact Î a
 .refine oN λe a=> ?_;simp at a;rcases a with rfl|rfl
  .exact o.ff<|A7 λi k=>Æ<|Æ k
  .exact fu.jE (Y:=mh (qm λb=>X b\/V b) nB) ⟨⟨U,Æ<|Î h⟩,U,U⟩
 .have a:=aa8 (V:=qm λb=>X b\/V b) (T:=T) t j;obtain⟨F,f,N,n,G,rfl,O,u⟩:=Jp a (o.ff<|A7 λi k=>Æ k) D;have i:n=(kD F).length:=by rw[u.r];simp[kD]
  have P:=d.C;have Q:=d.r;rw[f,c]at i;have C:=aoq (cp:=G) u Z Z (λp H=> ?_) (abb a ⟨U,Î h⟩ z) ok (abd g) (aoI g)<|aoJ g
  .apply C.mono;rintro e S ⟨rfl,k⟩;exact⟨by rw[aos<|f.trans<|c.trans B.symm],k.gU A9⟩
  .have:p.2∈s:=by rw[<-c,<-f];exact à.2 ⟨p,H,U⟩
   exact(d.zi _ this).1
end
def Du(r:Nat)(v:Int)(x:Nat)(c:List Tx)(w:Í):Prop:=∃a n d b,Dn r v x a n d w/\FA a n b w/\mP b=c/\n<=1000
section
variable{V:Nat->Prop}{w':Í}{s:List fM}
def abe(h:kO nB X w):∀i,X i->i<w.heap.size:=λi a=>by let⟨c,e,d,b,_⟩:=h i a;exact(Þ.1 b).1
theorem abf{T:Ŧ}(f:lJ b=É)(h:w.heap[b]?=Â (ä d e xJ))(i:xJ.2<=d.size):∃a,(World.tp (j2 V w) T 0).heap[b]?=Â (ä d e a)/\a.2<=d.size:=by have g:(World.tp (j2 V w) T 0).heap[b]?=(w.heap[b]?).map (pH V b):=Db b;rw[g,h];simp only[ø,pH,f,ç,if_false];grind
def aoL{T:Ŧ}(h:kO nB X w)(d:∀b,X b->lJ b=É):kO nB X (World.tp (j2 V w) T 0):=λb a=>by let⟨c,e,m,f,g,i⟩:=h b a;let⟨j,k,l⟩:=abf (V:=V) (T:=T) (d b a) f g;exact⟨c,e,j,k,l,i⟩
def aoM{T:Ŧ}(k:kO nB X w)(l:∀b,X b->lJ b=É){r:Nat}{v:Int}{o:List Tx}(p:X r)(h:Du r v i o w):Du r v i o (World.tp (j2 V w) T 0):=by
 let⟨E,n,F,G,g,s,H,I⟩:=h;have m:=l r p;refine⟨E,n,F,G,⟨qn (Æ m) g.M,qn (Æ m) g.N,qn (Æ m) g.I⟩,⟨s.C,λj a t q=> ?_⟩,H,I⟩;let⟨tb,J,u,y,d,K⟩:=s.r j a t q;have z:X tb:=by have:=k.r p g.I;rw[u]at this;exact Dt this
 have B:=Ds<|k.r z y;have f:=l a B;let⟨L,P,C⟩:=d.b;let⟨c,e,Q,D,M,_⟩:=k a B;rw[C]at D;cases D;obtain⟨N,O,_⟩:=abf f C M;exact⟨tb,J,u,qn (Æ<|l tb z) y,⟨⟨L,N,O⟩,qn (Æ f) d.r,qn (Æ f) d.C,qn (Æ f) d.I,qn (Æ f) d.M,qn (Æ f) d.Y,qn (Æ f) d.N⟩,K⟩
def Rg(s:List fM)(v:Ñ)(u:Í):Prop:=∃X,RD s v X u
def Rg.tp{T:Ŧ}(h:Rg s v w):Rg s v (World.tp w T n):=by let⟨X,h⟩:=h;exact⟨X,h.r λ_ _=>rfl⟩
def aoN{Y:fw}{d:Nat->Prop}(h:qC Y d u w)(a:fu Y v x)(e:Rg s v u):∃c,RD s x c w/\∀b,c b->∃i,Y i b:=by let⟨X,f⟩:=e;have g:RD s v X {u with tape:=w.tape,drawn:=w.drawn}:=f.r λ_ _=>rfl;let⟨t,j,k,l,m,n⟩:=g;let⟨o,p,q⟩:=Jp (zj h) a l;exact⟨_,⟨o,p.trans j,k,q,Ul h m,Np a n⟩,λb ⟨i,_,r⟩=>⟨i,r⟩⟩
theorem aoO{l:fe}{r:Nat}{d:List Tx}(hRD:RD s v X l.w)(hU:∀b,X b->l.M b)(N:kO nB V l.w)(hV:∀b,V b->l.M b)(O:V r)(hq:Du r h m d l.w)(hx:m<8)(y:-1<=h)(zl:∀t∈d,t.Ok)(hn:d.length<=1000)(g:mT l.w)(hG:∀b,b=1\/b=2\/b=3\/b=4->l.M b)(B:∀b,X b\/V b->lJ b=É)(D:List (Nat×fM))(I:kD D=s): Fu (λg=>zd g=Ì) 66 #[v,Ã<|Â ⟨r,0,Á⟩] l (qm λb=>X b\/V b) λz u=>∃p n c,z=è #[Ç p n c,Ä (rU D h m d).2]/\Rg (rZ D h m d) (Ç p n c) u:=by
 let⟨vs,h1,E,h3,P,f⟩:=hRD;have Q:=P.I N;refine⟨?_,aa7 Q B g,?_,?_,λT=> ?_⟩
 .rintro b (q|q);all_goals grind
 .intro b u;unfold zd at u;simp at u;exact Î u
 .refine oN λh y=> ?_;simp at y;rcases y with rfl|rfl
  .exact f.ff<|A7 λi j=>Æ<|Æ j
  .exact fu.jE (Y:=mh (qm λb=>X b\/V b) nB) ⟨⟨U,Æ<|Î O⟩,U,U⟩
 .have o:=aoL (V:=qm λb=>X b\/V b) (T:=T) P λb q=>B b<|Æ q;obtain⟨z,k1,S,n,W,rfl,T9,F⟩:=Jp (aa8 (V:=qm λb=>X b\/V b) (T:=T) Q B) (f.ff<|A7 λi j=>Æ j) h3;obtain⟨tp,tn,tc,a,q1,q2,rfl,q4⟩:=(aoM (V:=qm λb=>X b\/V b) (T:=T) N (λb q=>B b<|Î q) O hq);have c:=k1.trans h1;have hlen:n=s.length:=by rw[F.r,<-c];simp[kD]
  have auK:=E.C;have hle:=E.r;have uo:kl (World.tp (j2 (qm λb=>X b\/V b) l.w) T 0):=A9;have C:=anm F Z Z T9 (λp J=>by
   have:p.2∈s:=by rw[<-c];exact à.2 ⟨p,J,U⟩
   have:=(E.zi _ this).2.2.2;omega) q1 q2 q4 (abd g) hx y
  have u:rZ z h m (mP a)=rZ D h m (mP a):=by unfold rZ;rw[aaZ<|c.trans I.symm,c,I]
  have H:kx (rZ z h m<|mP a):=kx.I (by rwa[c]) zl hn;have ha:=aaZ (c.trans I.symm) h m<|mP a;generalize World.tp (j2 (qm λb=>X b\/V b) l.w) T 0=G at*;refine C.mono ?_;rintro e u' ⟨k,hA⟩;rcases hA with⟨K,rfl⟩|⟨nv,b,uy,K,rfl,e3,e4,gb,gn,gc,rfl,e6⟩
  .refine⟨⟨S,n,W,by rw[ha],?_⟩,k.gU uo⟩;rw[<-u];have L:rZ z h m (mP a)=s:=by unfold rZ;rw[K,c];simp
   rw[L]at H|-;exact⟨X,z,c,H,⟨S,n,W,U,T9,F.I k⟩,o.C λi j=>k.N i (abe o i j) id,f⟩
  .let⟨i,m1,m2,m3,_⟩:=aoB o k (abe o) e4 e6 λp J=>by
    let⟨j,hj⟩:=Đ J;let⟨sb,so,f1,f2,_⟩:=F.C j p.1 p.2 hj;have:X sb:=by rw[f1]at f;exact Dt f
    exact Ds<|o.r this f2
   refine⟨⟨Â ⟨gb,0,Á⟩,gn,gc,by rw[ha],?_⟩,k.gU uo⟩;rw[<-u];have L:rZ z h m (mP a)=kD (z++[(b,nv)]):=by unfold rZ;rw[K];simp[kD]
   rw[L]at H|-;exact⟨i,_,U,H,e3,m3,fu.j5 (Y:=lB i nB) ⟨⟨U,m2⟩,U,U⟩ gn gc⟩
end
structure xB where
 r:Nat->Int×Nat×List Tx
 C:Nat->Qn
def n9(s:List fM):List (Nat×fM):=s.map λv=>(0,v)
theorem FH(s:List fM):kD (n9 s)=s:=by simp[kD,n9,Function.comp_def]
def Ba(s:List fM)(i:Int×Nat×List Tx):List fM:=rZ (n9 s) i.1 i.2.1 i.2.2
def qo(a:xB)(I:List Nat)(b:List fM):Nat->List fM
 |0=>b
 |k+1=>Ba (qo a I b k)<|a.r<|I.getD k 0
def zm(a:xB)(kd:Nat->Int)(p:Nat)(s:List fM):ByteArray:=if kd p=1 then(rU (n9 s) (a.r p).1 (a.r p).2.1 (a.r p).2.2).2 else sZ (n9 s) (a.C p)
def iE(e:fe)(a:Nat->Prop)(c:xB)(kd:Nat->Int)(R:Nat)(d:List fM)(f:Nat->Prop):yZ where
 γ:=List fM
 C:=d
 M:=λk s g=>g=Ba s (c.r<|(ij kd R).getD k 0)
 RD:=λs h V w=>RD s h V w/\∀b,V b->a b\/e.w.heap.size<=b
 I:=λp=>zm c kd p<|qo c (ij kd R) d<|fP kd p
 r:=f
def Uo{kd:Nat->Int}:∀(R k:Nat),k<(ij kd R).length->fP kd ((ij kd R).getD k 0)=k
 |0,k,h=>by simp[ij]at h
 |R+1,k,h=>by
  by_cases q:kd R=1
  .rw[uw q]at h|-;rcases Nat.lt_or_ge k (ij kd R).length with z|z
   .have e:(ij kd R++[R]).getD k 0=(ij kd R).getD k 0:=by simp[Ĕ,ĝ z]
    rw[e];exact Uo R k z
   .have e:k=(ij kd R).length:=by simp at h;omega
    subst e;simp[Ĕ,fP]
  .rw[xi q]at h|-;exact Uo R k h
section
variable{y:Nat->Prop}
def Nr(h:kO nB y w)(g:mT w):∀b,y b->lJ b=É:=λb i=>by
 let⟨c,e,n,f,_,_,_,_,j,k⟩:=h b i;cases d:lJ b with
 |false=>rfl
 |true=>
  unfold lJ at d;simp at d;rcases d with rfl|rfl
  .let⟨l,m,a,_⟩:=g.I;rw[f]at a;cases a;exact absurd U j
  .let⟨l,m,a,_⟩:=g.C;rw[f]at a;cases a;exact absurd U k
def aoP(p:kO nB X w)(k:∀b,X b->u.heap[b]?=w.heap[b]?){r:Nat}{s:List Tx}(g:X r)(h:Du r c i s w):Du r c i s u:=by
 have d:∀{b o:Nat} {z:Ñ},X b->w.cell? ⟨b,o,Á⟩=Â z->u.cell? ⟨b,o,Á⟩=Â z:=λ{b o z} l q=>by simp only[Û,k b l];exact q
 let⟨D,n,E,F,m,y,G,H⟩:=h;refine⟨D,n,E,F,⟨d g m.M,d g m.N,d g m.I⟩,⟨y.C,λj a t q=> ?_⟩,G,H⟩;let⟨tb,I,B,C,e,J⟩:=y.r j a t q;have l:X tb:=by have:=p.r g m.I;rw[B]at this;exact Dt this
 have f:=Ds<|p.r l C;let⟨K,L,M⟩:=e.b;exact⟨tb,I,B,d l C,⟨⟨K,L,by rwa[k a f]⟩,d f e.r,d f e.C,d f e.I,d f e.M,d f e.Y,d f e.N⟩,J⟩
end
structure Jt(l0:fe)(bt:xB)(kd:Nat->Int)(rq:Nat->Nat)(R:Nat)(Q:Nat->Prop):Prop where
 M:mT l0.w
 I:∀b,b=1\/b=2\/b=3\/b=4->l0.O b
 C:kO nB Q l0.w
 fg:∀b,Q b->l0.O b
 r:∀p,p<R->Q (rq p)
 kS:∀p,p<R->kd p=1->Du (rq p) (bt.r p).1 (bt.r p).2.1 (bt.r p).2.2 l0.w/\(bt.r p).2.1<8/\-1<=(bt.r p).1/\(∀t∈(bt.r p).2.2,t.Ok)/\(bt.r p).2.2.length<=1000
 To:∀p,p<R->kd p≠1->Js (rq p) (bt.C p) l0.w/\(bt.C p).Ok
def abg{V:Nat->Prop}{l:fe}{a:Ñ->Í->Prop}(h:Fu X F d l V vQ)(b:∀v u,vQ v u->a v u):Fu X F d l V a:= ⟨h.N,h.S,h.I,h.r,λT=>(h.C T).mono λe u q=>by
  cases e with
  |returned v=>exact⟨b v u q.1,q.2⟩
  |_=>exact q⟩
section
variable{l0:fe}{bt:xB}{kd:Nat->Int}{rq:Nat->Nat}{R:Nat}{Q C d:Nat->Prop}{B:List fM}{E F:Option ù}
def abh{s:List fM}(h:fA.nO ((kN (iE l0 d bt kd R B C) i n R kd rq D E F j9 j7 k m J j qX l0).r À) b s):s=qo bt (ij kd R) B b:=by
 have c:∀(b:Nat) (s:((kN (iE l0 d bt kd R B C) i n R kd rq D E F j9 j7 k m J j qX l0).r À).γ),fA.nO ((kN (iE l0 d bt kd R B C) i n R kd rq D E F j9 j7 k m J j qX l0).r À) b s->s=qo bt (ij kd R) B b:=λb s h=>by
  induction h with
  |wH=>rfl
  |Er _ a e=>
   rwa[e]at a
 exact c b s h
def aoQ(h:Jt l0 bt kd rq R Q)(N:l0.w.heap.size<=m):Fp (kN (iE l0 d bt kd R B C) i n R kd rq D E F j9 j7 k m J j qX l0):=by
 apply alC xY P_ O_ U;intro a s O W l q t f x y P g G;let⟨f,S⟩:=f;have T:=y.fv m<|g m<|Î U;have H:l0.w.heap.size<=l.w.heap.size:=Z
 have o:=G;have p:=h.M.r (Ï h.M.fv H) λb c=>o b<|h.I b c;have r:=h.C.C λb c=>o b<|h.fg b c;have e:=IH<|xl q;let⟨I,K⟩:=h.To _ e.1 e.2;refine⟨_,abg (aoK f x r (λb c=>g b<|Æ<|h.fg b c) (h.r _ e.1) (abb (aa9 h.C λb c=>o b<|h.fg b c) ⟨U,h.r _ e.1⟩ I) K p (λb c=>g b<|Æ<|h.I b c) (λb c=>c.elim (Nr (by let⟨_,_,_,_,z,_⟩:=f;exact z) p b)<|Nr r p b) (n9 s)<|FH s) λv u L=> ?_⟩;rw[L];have z:=abh t;have M:(kN (iE l0 d bt kd R B C) i n R kd rq D E F j9 j7 k m J j qX l0).b a=fP kd ((jG kd R).getD a 0):=if_pos q;rw[M]at z;show _=Ä (zm bt kd ((jG kd R).getD a 0)<|qo bt (ij kd R) B<|fP kd<|(jG kd R).getD a 0);rw[<-z];unfold zm;rw[if_neg e.2]
theorem aoR(h:Jt l0 bt kd rq R Q)(hZ:(∀b,Q b->d b)/\∀b,b=1\/b=2\/b=3\/b=4->d b)(h':l0.w.heap.size<=m):Fo (kN (iE l0 d bt kd R B C) i n R kd rq D E F j9 j7 k m J j qX l0):=by
 refine alD xY P_ O_ U (λs o u=>Rg s o u) (λs o u T n q=>Rg.tp q) ?_;intro T s o W l H I g K L hq r M;let⟨g,Hh⟩:=g;have hs:=L.fv m<|r m<|Î U;have N:l0.w.heap.size<=l.w.heap.size:=Z
 have t:=M;have x:=h.M.r (Ï h.M.fv N) λb a=>t b<|h.I b a;have y:=h.C.C λb a=>t b<|h.fg b a;have G:=H;have f:=IG<|xl G;let⟨O,P,S,V,X⟩:=h.kS _ f.1 f.2;refine⟨_,abg (aoO g K y (λb a=>r b<|Æ<|h.fg b a) (h.r _ f.1) (aoP h.C (λb a=>t b<|h.fg b a) (h.r _ f.1) O) P S V X x (λb a=>r b<|Æ<|h.I b a) (λb a=>a.elim (Nr (by let⟨_,_,_,_,z,_⟩:=g;exact z) x b)<|Nr y x b) (n9 s)<|FH s) λv u hv=> ?_,?_⟩
 .obtain⟨p,z,c,rfl,Y⟩:=hv;refine⟨p,z,c,Ba s<|bt.r<|(ij kd R).getD T 0,?_,U,Y⟩;have e:(kN (iE l0 d bt kd R B C) i n R kd rq D E F j9 j7 k m J j qX l0).e (T+1)=zm bt kd ((ij kd R).getD T 0) (qo bt (ij kd R) B<|fP kd<|(ij kd R).getD T 0):=U;rw[e,Uo R T G,<-(abh I)];unfold zm;rw[if_pos f.2]
 .intro Y Sh u w s' I_ MO e p h3 h4;let⟨V',k1,c⟩:=aoN e p h3;refine⟨V',⟨k1,λb a=> ?_⟩,c⟩;let⟨z,hi⟩:=c b a;rcases h4 z b hi with((q|q)|q)|q;all_goals grind
end
section
variable{R:Nat}{kd:Nat->Int}{o:Nat->Nat}{r:List č}{l:fe}{u:Nat->fe}{bt:xB}{j f:Nat->Prop}{s0:List fM}
def aoS{s:List fM}(h:AS (iE l f bt kd R s0 j) k s):s=qo bt (ij kd R) s0 k:=by
 have b:∀(k:Nat) (s:(iE l f bt kd R s0 j).γ),AS (iE l f bt kd R s0 j) k s->s=qo bt (ij kd R) s0 k:=λk s h=>by
  induction h with
  |wH=>rfl
  |Er _ a c=>
   rwa[c]at a
 exact b k s h
structure Bb(f:Nat->Prop)(bt:xB)(R:Nat)(kd:Nat->Int)(s0:List fM)(l:fe)(an:Nat)(sl:Ñ)(l':fe):Prop where
 M:∀b,l.O b->l'.O b/\l'.w.heap[b]?=l.w.heap[b]?
 r:l'.O an/\∀p,p<R->l'.w.cell? ⟨an,p,Á⟩=Â (Ä<|zm bt kd p<|qo bt (ij kd R) s0<|fP kd p)
 S:∃V,RD (qo bt (ij kd R) s0<|fP kd R) sl V l'.w/\∀b,V b->l'.O b/\(f b\/l.w.heap.size<=b)
 d:l'.d=0
 q:¬l'.q
 rd:∀b,¬l'.I b
 C:(∀a,¬l'.r a)/\(∀a,¬l'.N a)/\∀a,¬l'.K a
 I:l'.w.cell? ⟨an,R,Á⟩=Á/\kZ l'.w an=Â (0,0)
def aoT{a:fe}(h:GF (iE l f bt kd R s0 j) R kd l i v a):Bb f bt R kd s0 l i v a:=by let⟨s,V,g,c,k⟩:=h.IJ;have e:=aoS g;subst e;exact⟨h.wO,h.ky,⟨V,c.1,λb q=>⟨k b q,c.2 b q⟩⟩,h.d,h.q,h.rd,h.xn,h.Ea⟩
def aoU{J:(Loc->Prop)->Nat->Jd}{F:č}(P:qX=F.at y (Ð Q (j9::jJ)::L)::r)(c:fA.sR À zX i (MN kd o R n v l qX) .fD D u E w qJ)(C:Option (Nat×Nat))(s:gq l)(S:∀b,¬l.I b)(W:¬l.q)(Y:l.d=0)(Ns:xm zX i l)(H:Jt l bt kd o R X)(hZ:(∀b,X b->f b)/\∀b,b=1\/b=2\/b=3\/b=4->f b)(I:∀b,f b->l.O b)(K:∀b,j b->f b)(C9:RD s0 v j l.w)(yW:w.os=l.w.os/\w.output=l.w.output)(hn:1<=n)(hs:n+R<1000) (hJ:∀t x z B p m c,xm t x z->gq z->Bb f bt R kd s0 l B (Ç p m c) z->fA.fi À Ì (J t x) z (G (F.at (y.put ((Q[j9]?).bind (·.dst))<|è #[Ç (Â ⟨B,0,Á⟩) R R,Ç p m c])<|Ð Q jJ::L) r)): ∃N t x T V IK g e uy h,ů À N (Ĥ E w C) qJ=(.next<|Ĥ g e uy,h)/\(e.os=l.w.os/\e.output=l.w.output)/\fA.sR À t x (J t x) T V IK g e h:= alv (M:=iE l f bt kd R s0 j) P c C s S W Y Ns (λb q=>I b<|K b q) (λs C V w e h L=>⟨h.1.r L,h.2⟩) (λs C V w h=>⟨by let⟨_,_,_,⟨g,n,N,e,_⟩,_⟩:=h.1;exact⟨g,n,N,e⟩,λb q=>(h.2 b q).imp (I b) id⟩) ⟨C9,λb h=>Æ<|K b h⟩ yW hn hs (λg N V T cq B ba bi all e=>⟨aoR H hZ e,aoQ H e⟩) λt x z B p m c e g N=>hJ t x z B p m c e g<|aoT N
end
end Go.Proofs.Y.iV
namespace Go.Proofs.Y.lC
open Go Go.Proofs Go.RowKit Go.Proofs.Y.Lift Go.Proofs.Y.gu
def iT(c:Int):Bool:=decide (48<=c)&&decide (c<=57)
def oO(c:Int):Bool:=decide (97<=c)&&decide (c<=104)
def uE(c:Int):Int:=
 if c=105 then 1 else if c=103 then 2 else if c=98 then 3 else if c=99 then 4 else if c=109 then 5
 else if c=114 then 6 else if c=108 then 7 else if c=117 then 8 else if c=100 then 9 else 0
def Bc(c:Int):Int:=if c=62 then 1 else if c=123 then 2 else if c=58 then 3 else 0
def aoV(h:48<=c/\c<=57):iT c=Ì:=by simp[iT,h]
theorem Bd(c:Int):iT c=Ì↔(48<=c/\c<=57):=by simp[iT]
def abj(c:Int):oO c=Ì↔(97<=c/\c<=104):=by simp[oO]
def s6(k:Int):List Int:=
 if k=1 then[86,58,120,47,66]else if k=2 then[86,58,120,115]else if k=3 then[86,58,120]
 else if k=4 then[86,58,120,62,121,40,110,44,107,41]else if k=5 then[86,58,120,62,121,40,107,41]
 else if k=9 then[86,58,87]else[86]
def pM(k:Int):List Int:=
 if k=1 then[121,61,110]else if k=2 then[80]else[121,40,110,44,107,41]
def mF(a c:Int):Bool:=
 if a=86\/a=87 then c==104||iT c
 else if a=110\/a=107 then iT c
 else if a=120\/a=121 then oO c
 else if a=115 then iT c||(decide (97<=c)&&decide (c<=102))
 else c==a
def lL(a c:Int):Int:=
 if c=48\/iT c=É then 0
 else if a=86\/a=87 then 1
 else if a=110\/a=107 then 5
 else 0
def gN(s:ByteArray):List Int:=s.data.toList.map λc=>((c.toNat:Nat):Int)
def aoW(B:ByteArray)(k:Nat)(h:k<B.size):(gN B).drop k=((B[k].toNat:Nat):Int)::(gN B).drop (k+1):=by
 have a:k<(gN B).length:=by simpa[gN]using h
 rw[List.drop_eq_getElem_cons a];congr 1;simp[gN,ą]
theorem FI(B:ByteArray):(gN B).length=B.size:=by unfold gN;simp_all
theorem vU(s:ByteArray)(h:0<s.size):gN s=((s[0].toNat:Nat):Int)::(gN s).tail:=by have:=aoW s 0 h;grind
theorem abk(s:ByteArray)(h:s.size=0):gN s=[]:=by grind [ã,FI]
def aoX(s:ByteArray):gN (s.extract 1 s.size)=(gN s).tail:=by unfold gN;rw[ĩ,ı,<-List.map_tail];congr 1;rw[Ğ,<-List.drop_one];apply Ć;simp_all
theorem aoY(s:ByteArray)(h:s.size<=10):(s.extract 1 s.size).size<=10:=by grind [ĉ]
theorem aoZ(a c:Int):0<=lL a c/\lL a c<=5:=by unfold lL;grind
structure PT where
 c:List Int
 p:ByteArray
structure PR where
 c:List Int
 tx:List PT
structure PD where
 S:List PR
 r:Bool
 M:PR
 C:Bool
 N:PT
structure PS where
 C:List Int
 r:Int
 I:Int
 M:Int
 d:PD
namespace PD
def Y(d:PD):List PT:=if d.C then d.M.tx++[d.N]else d.M.tx
def I(d:PD):List PR:=if d.r then d.S++[⟨d.M.c,d.Y⟩]else d.S
def vV(d:PD)(i:Nat)(z:Int):PD:={d with M:={d.M with c:=d.M.c.set i z}}
def uF(d:PD)(i:Nat)(z:Int):PD:={d with N:={d.N with c:=d.N.c.set i z}}
def kP(d:PD)(i:Nat)(z:Int):PD:=if d.C then d.uF i z else d.vV i z
def r7(d:PD)(p:ByteArray):PD:={d with N:={d.N with p:=p}}
def zk:PT:=⟨[0,0,0,0,0],⟨#[]⟩⟩
def uG(k:Int):PR:=⟨[0,0,0,0,k,0,0,0],[]⟩
def pd(d:PD):PD:={d with M:=⟨d.M.c,d.Y⟩,C:=Ì,N:=zk}
def vW(d:PD)(k:Int):PD:={S:=d.I,r:=Ì,M:=uG k,C:=É,N:=d.N}
def fO(d:PD)(a z:Int):PD:=
 if a=86 then d.vV 5 z else if a=87 then d.vV 6 z else if a=120 then d.kP 0 z else if a=121 then d.kP 1 z
 else if a=110 then d.kP 2 z else if a=107 then d.kP 3 z else if a=115 then d.vV 7 z else d
def zn(d:PD)(i:Nat):Int:=if d.C then d.N.c.getD i 0 else d.M.c.getD i 0
def G(d:PD)(a:Int):Int:=if a=86 then d.M.c.getD 5 0 else if a=87 then d.M.c.getD 6 0 else if a=110 then d.zn 2 else d.zn 3
end PD
def ll(a c:Int):Int:=
 if a=120\/a=121 then Ú [97,98,99,100,101,102,103,104] c.toNat.toUInt8
 else if a=115 then Ú [48,49,50,51,52,53,54,55,56,57,97,98,99,100,101,102] c.toNat.toUInt8
 else if c=104 then-1 else(c-48)%256
def qZ(z c:Int):Int:=È.wrap<|È.wrap (z*10)+(c-48)%256
def qp(st:PS)(c:Int):Option PS:=
 if c=59/\st.d.S.length+1<24 then Â {st with C:=[82]}
 else if c=44/\0<st.d.Y.length/\st.d.Y.length<8 then Â {st with C:=[120,84],d:=st.d.pd}
 else Á
def zo(st:PS)(k:Int):Option PS:=if k=0 then Á else Â {st with C:=s6 k,d:=st.d.vW k}
def zp(st:PS)(k:Int):Option PS:=if k=0 then Á else Â {st with C:=pM k,I:=0,d:=st.d.uF 4 k}
def pe(st:PS)(a c:Int):PS:={st with r:=lL a c,M:=a,d:=st.d.fO a (ll a c)}
def jH(B:ByteArray)(k:Nat)(st:PS)(c:Int):Option PS:=
 match st.C with
 |[]=>qp st c
 |want::tl=>
  if want=82 then zo st (uE c)
  else if want=66 then
   if oO c=Ì then Â (pe {st with C:=[84],d:=st.d.pd} 120 c)else qp st c
  else if want=84 then zp st (Bc c)
  else if want=80 then
   if c=125 then Â {st with C:=tl,d:=st.d.r7 (B.extract (k-st.I.toNat) k)}
   else if st.I=40\/mD c=0 then Á else Â {st with I:=st.I+1}
  else if mF want c=Ì then Â {pe st want c with C:=tl}
  else Á
def Ju(st:PS)(c:Int):PS:={st with r:=st.r-1,d:=st.d.fO st.M (qZ (st.d.G st.M) c)}
def qt(B:ByteArray)(k:Nat)(st:PS)(c:Int):Option PS:=
 if 0<st.r/\iT c=Ì then Â (Ju st c)else jH B k {st with r:=0} c
def qu(B:ByteArray):Nat->Nat->PS->Nat×PS
 |0,k,st=>(k,st)
 |f+1,k,st=>if h:k<B.size then match qt B k st (B[k].toNat:Int)with
  |none=>(k,st)
  |some a=>qu B f (k+1) a
  else(k,st)
def Up:PD:=⟨[],É,⟨[],[]⟩,É,⟨[],⟨#[]⟩⟩⟩
def td:PS:=⟨[82],0,0,0,Up⟩
def tf(c:Int)(w:Í): Ö À 94 #[Å ŧ c] w λe a=>e=Ê (þ<|iT c)/\a=w:=by
 go_enter Tryz.func94,Tryz.ntmps94;go_wp2;all_goals go_ret
 all_goals exact⟨Tz (by simp only[iT];first|(simp[*];done)|(rw[đ];simp;omega)),U⟩
def ao0(s:ByteArray)(c:Int)(w:Í): Ö À 167 #[Ä s,Å ŧ c] w λe a=>e=Ê (Å È<|Ú s.data.toList c.toNat.toUInt8)/\a=w:=by go_enter Tryz.func167,Tryz.ntmps167;go_wp2;rw[run_callFunc_extern Tryz.func185 fx fx fx fx,Lib.run_indexByteString];simp only[Result.andThen];rw[Oper.upon_value];go_wp2;go_ret;exact⟨U,U⟩
def Jv(s:ByteArray)(c:Int)(w:Í): Ö À 146 #[Ä s,Å ŧ c] w λe a=>e=Ê (Å È<|Ú s.data.toList c.toNat.toUInt8)/\a=w:=by go_enter Tryz.func146,Tryz.ntmps146;go_wp2_with (go_at_call 167;refine(ao0 _ _ _).mono ?_;rintro e a ⟨rfl,rfl⟩);go_ret;exact⟨U,U⟩
def Nt(c:Int):Bool:=iT c||(decide (97<=c)&&decide (c<=102))
def ao1:∀n:Fin 256,decide (0<=Ú [97,98,99,100,101,102,103,104] n.val.toUInt8)=oO (n.val:Int):=by decide+kernel
def ao2:∀n:Fin 256,decide (0<=Ú [48,49,50,51,52,53,54,55,56,57,97,98,99,100,101,102] n.val.toUInt8)=Nt (n.val:Int):=by decide+kernel
def ao3(a:0<=c)(b:c<256):decide (0<=Ú [97,98,99,100,101,102,103,104] c.toNat.toUInt8)=oO c:=by have:=ao1 ⟨c.toNat,Z⟩;rwa[show((c.toNat:Nat):Int)=c from by omega]at this
def ao4(a:0<=c)(b:c<256):decide (0<=Ú [48,49,50,51,52,53,54,55,56,57,97,98,99,100,101,102] c.toNat.toUInt8)=Nt c:=by have:=ao2 ⟨c.toNat,Z⟩;rwa[show((c.toNat:Nat):Int)=c from by omega]at this
def Uq(c:Int)(b:0<=c)(d:c<256)(w:Í): Ö À 98 #[Å ŧ c] w λe a=>e=Ê (þ<|oO c)/\a=w:=by
 have f:=ao3 b d;go_enter Tryz.func98,Tryz.ntmps98;go_wp2_with (go_at_call 146;refine(Jv _ _ _).mono ?_;rintro e a ⟨rfl,rfl⟩);all_goals go_ret
 all_goals exact⟨U,U⟩
def ao5(c:Int)(b:0<=c)(d:c<256)(w:Í): Ö À 149 #[Å ŧ c] w λe a=>e=Ê (þ<|Nt c)/\a=w:=by
 have f:=ao4 b d;go_enter Tryz.func149,Tryz.ntmps149;go_wp2_with (go_at_call 146;refine(Jv _ _ _).mono ?_;rintro e a ⟨rfl,rfl⟩);all_goals go_ret
 all_goals exact⟨U,U⟩
def ao6(c:Int)(w:Í): Ö À 102 #[Å ŧ c] w λe a=>e=Ê (Å È<|Bc c)/\a=w:=by
 go_enter Tryz.func102,Tryz.ntmps102;go_wp2;all_goals go_ret
 all_goals refine⟨IN ?_,U⟩
 all_goals simp only[beq_iff_eq,beq_eq_false_iff_ne,ne_eq]at*
 all_goals simp[Bc, *]
def ao7(c:Int)(w:Í): Ö À 97 #[Å ŧ c] w λe a=>e=Ê (Å È<|uE c)/\a=w:=by
 go_enter Tryz.func97,Tryz.ntmps97;go_wp2;all_goals go_ret
 all_goals refine⟨IN ?_,U⟩
 all_goals simp only[beq_iff_eq,beq_eq_false_iff_ne,ne_eq]at*
 all_goals simp[uE, *]
def abl(b c:Int)(d:0<=c)(f:c<256)(w:Í): Ö À 104 #[Å ŧ b,Å ŧ c] w λe a=>e=Ê (þ<|mF b c)/\a=w:=by
 go_enter Tryz.func104,Tryz.ntmps104;go_wp2_with (first|(go_at_call 94;refine(tf _ _).mono ?_;rintro e a ⟨rfl,rfl⟩)|(go_at_call 98;refine(Uq _ d f _).mono ?_;rintro e a ⟨rfl,rfl⟩)|(go_at_call 149;refine(ao5 _ d f _).mono ?_;rintro e a ⟨rfl,rfl⟩));all_goals go_ret
 all_goals refine⟨Tz ?_,U⟩
 all_goals try go_light
 all_goals simp only[beq_iff_eq,beq_eq_false_iff_ne,ne_eq]at*
 all_goals unfold mF
 all_goals first|(simp[Nt, *];done)|(rw[đ];simp[*];done)|(rw[đ];simp[*];omega)
def ao8(k:Int)(w:Í): Ö À 145 #[Å È k] w λe a=>(∃b:ByteArray,e=Ê (Ä b)/\b.size<=10/\gN b=s6 k)/\a=w:=by
 go_enter Tryz.func145,Tryz.ntmps145;go_wp2;all_goals go_ret
 all_goals refine⟨⟨_,U,?_,?_⟩,U⟩
 all_goals try go_light
 all_goals simp only[beq_iff_eq,beq_eq_false_iff_ne,ne_eq]at*
 all_goals first|(simp[gN,s6, *];done)|decide
def ao9(k:Int)(w:Í): Ö À 148 #[Å È k] w λe a=>(∃b:ByteArray,e=Ê (Ä b)/\b.size<=10/\gN b=pM k)/\a=w:=by
 go_enter Tryz.func148,Tryz.ntmps148;go_wp2;all_goals go_ret
 all_goals refine⟨⟨_,U,?_,?_⟩,U⟩
 all_goals try go_light
 all_goals simp only[beq_iff_eq,beq_eq_false_iff_ne,ne_eq]at*
 all_goals first|(simp[gN,pM, *];done)|decide
def nA(m s:Nat):Ñ->Prop
 |Å ŧ _=>False
 |Å _ _=>True
 |þ _=>True
 |Ä _=>True
 |Ã Á=>True
 |Ã (Â a)=>m<=a.block/\a.block<s
 |Ç Á _ _=>True
 |Ç (Â a) _ _=>m<=a.block/\a.block<s
 |_=>False
def nA.ff{s:Nat}(h:nA m s v)(b:s<=i):nA m i v:=by
 cases v with
 |int k n=>cases k<;>exact h
 |pointer a=>cases a with
  |none=>trivial
  |some a=>exact⟨h.1,Ę h.2 b⟩
 |slice a n c=>cases a with
  |none=>trivial
  |some a=>exact⟨h.1,Ę h.2 b⟩
 |_=>exact h
def Nu(m s:Nat)(o:Obj):Prop:=∃c e a,o=ä c e a/\a.2<=c.size/\0<c.size/\e≠304/\e≠305/\∀v∈c.toList,nA m s v
def jI(m:Nat)(w:Í):Prop:=∀i o,m<=i->w.heap[i]?=Â o->Nu m w.heap.size o
section
variable{w':Í}
def Nu.ff{s:Nat}{o:Obj}(h:Nu m s o)(a:s<=i):Nu m i o:=by let⟨c,e,b,d,f,g,j,k,l⟩:=h;exact⟨c,e,b,d,f,g,j,k,λv n=>(l v n).ff a⟩
def jI.I(w:Í):jI w.heap.size w:=λi o a h=>by rw[Ĩ a]at h;cases h
def jI.gG(h:jI m w):jI m w.drew:=h
def jI.jh(h:jI m w)(n:Nat):jI m (w.drewN n):=h
theorem jI.iw(h:jI m w)(cs:Array Ñ)(t:ċ)(c:0<cs.size)(b:t≠304/\t≠305)(d:∀v∈cs.toList,nA m w.heap.size v):jI m (w.alloc<|ä cs t):=by
 intro i o f a;have k:(w.alloc<|ä cs t).heap.size=w.heap.size+1:=fp
 by_cases e:i<w.heap.size
 .rw[ő _ _ _ e]at a;exact(h i o f a).ff Z
 .by_cases g:i=w.heap.size
  .subst g;rw[Ţ]at a;cases a;exact⟨cs,t,(0,0),U,Ø _,c,b.1,b.2,λv j=>(d v j).ff Z⟩
  .grind
def jI.r(h:jI m w)(p:ù)(l:nA m w.heap.size v):jI m (w.setCell p v):=by
 intro i o f a;have n:(w.setCell p v).heap.size=w.heap.size:=fp
 rw[n];by_cases e:i=p.block
 .subst e;unfold Ū at a;simp only[Į,if_true]at a;cases d:w.heap[p.block]? with
  |none=>rw[d]at a;cases a
  |some x=>
   rw[d]at a;obtain⟨c,e,r,rfl,g,j,s,t,k⟩:=h _ _ f d;simp only[ø,Ó]at a;subst a;refine⟨_,e,r,U,?_,?_,s,t,λu b=> ?_⟩
   .split
    .exact g
    .rwa[ġ]
   .split
    .exact j
    .rwa[ġ]
   .split at b
    .exact k u b
    .rw[Array.toList_setIfInBounds]at b;rcases ğ b with q|q
     .exact k u q
     .rwa[q]
 .rw[ę _ _ _ _ (by simpa using e)]at a;exact h i o f a
theorem apa{ty:ċ}{bytes base:Nat}(y:P.underlying t=Â (.slice e))(B:P.info? e=Â zJ)(G:zJ.zero=Â (Ã Á)) (s:zJ.size=1) (H:zJ.bytes=bytes) (f:w.ownsRow base e 1 v n l) (a:ù) (c:Nat) (C:∀j M,[z][j]?=Â M->w.cell? (a.add j)=Â M) (N:z.oneCell'=Ì) (O:n+1<=Ĳ) (I:(n+1)*bytes<=140737488355328) (W:base<=w.heap.size) (X:lA e=É) (hm:m<=base) (D:jI m w) (hg:nA m w.heap.size z) (Y:e≠304/\e≠305): ∃h w',(Builtin.append_ #[t,t] ty #[v,Ç (Â a) 1 c]).run P w=.ok h w'/\nX w base e 1 v n l 1 [z] h w'/\jI m w'/\nA m w'.heap.size h:=by
 obtain⟨h,w',J,E⟩:=TB y B G s H U f a c [z] Z U C (λx b=>by simp at b;subst b;exact N) O I W<|Æ X;have hgv:nA m w'.heap.size h:=by
  obtain⟨p,o,rfl⟩:=jv E.fg;cases p with
  |none=>trivial
  |some p=>
   have k:=E.fg.lt p.block (by rcases E.fg.2 with⟨q,_⟩|⟨g,r,d,q,_⟩<;>(cases q;try rfl));exact⟨Z,k.2⟩
 refine⟨h,w',J,E,?_,hgv⟩;have q:[z].length=1*zJ.size:=by rw[s];rfl
 have Nc:l.length=n*zJ.size:=by rw[s];exact f.1
 have alX:n+1<=9223372036854775807:=by simp only[Ĳ]at O;omega
 have At:∀x∈l,nA m w.heap.size x:=λx b=>by
  rcases f.2 with⟨_,rfl⟩|⟨g,r,d,rfl,hbg,p,hnc,hcm,Q,htake⟩
  .grind
  .let⟨c2,e2,XT,S,_,_,_,_,q6⟩:=D g _ Z p;grind
 have gr:∀T,jI m (w.drew.alloc<|ä (l.toArray++[z].toArray++Builtin.zeroCells (İ<|Ã Á) (grownCap w (n+1) T e-(n+1))) e):=λT=>by
  refine jI.iw D _ _ (by simp;omega) Y λx b=> ?_;simp only[Array.toList_append,æ]at b;rcases b with(b|b)|b
  .exact At x b
  .grind
  .have:=TA b;simp[İ]at this;subst this;trivial
 rcases f.2 with⟨rfl,rfl⟩|⟨g,r,d,rfl,hbg,p,hnc,hcm,Q,htake⟩
 .have b:=ã (by simpa using f.1);subst b;have K:=run_append_nil w t ty e zJ (Ã Á) y B G a 1 c [z] q C Z Z (by rw[H];have k:=I;simp only[Ņ]at k;omega);grind
 .by_cases apb:n+1<=r
  .have TC:n*zJ.size+[z].length<=d.size:=by rw[q,Q,s];omega
   have K:=run_append_room w t ty e zJ y B g n r d p a 1 c [z] q C (λx b=>by simp at b;subst b;exact N) apb TC;rw[K]at J;cases J;have apc:=setRow_heap w g d (d.toList.take (n*zJ.size)++[z]++d.toList.drop (n*zJ.size+[z].length)).toArray e _ p;have apd:=λk (L:k≠g)=>setRow_other w g k (d.toList.take (n*zJ.size)++[z]++d.toList.drop (n*zJ.size+[z].length)).toArray L;let⟨c2,e2,XT,S,q2,q3,q4,q5,q6⟩:=D g _ Z p;cases S;intro k o L F;have iO:(w.setRow g (d.toList.take (n*zJ.size)++[z]++d.toList.drop (n*zJ.size+[z].length)).toArray).heap.size=w.heap.size:=fp
   rw[iO];by_cases V:k=g
   .subst V;rw[apc]at F;cases F;refine⟨_,_,_,U,fp,(by simp;omega),q4,q5,λx b=> ?_⟩;grind
   .rw[apd k V]at F;exact D k o L F
  .have k:w.ownsRow base e zJ.size (Ç (Â ⟨g,0,Á⟩) n r) n l:=by rwa[s]
   have K:=run_append_grow w t ty e zJ (Ã Á) y B G ⟨g,0,Á⟩ n r l Nc (k.cells U) a 1 c [z] q C Z Z (by rw[H];exact growslice_fits Z I);grind
def abm{f:Array Ĝ}{E:Prop}{base:Nat} (k:o.guard=Á) (s x:Operand) (t:ċ) (p:o.op=Op.call {callee:=Callee.builtin Builtin.append,args:=#[s,x],argTypes:=#[t,t]}) {bytes:Nat} (q:P.underlying t=Â (.slice e)) (r:P.info? e=Â zJ) (B:zJ.zero=Â (Ã Á)) (C:zJ.size=1) (D:zJ.bytes=bytes) (F:y.eval s=v) (G:w.ownsRow base e 1 v n l) (ad:ù) (H:y.eval x=Ç (Â ad) 1 b) (I:∀j g,[z][j]?=Â g->w.cell? (ad.add j)=Â g) (J:z.oneCell'=Ì) (L:n+1<=Ĳ) (M:(n+1)*bytes<=140737488355328) (N:base<=w.heap.size) (O:lA e=É) (S:m<=base) (T:jI m w) (V:nA m w.heap.size z) (W:e≠304/\e≠305) (h:∀d w',nX w base e 1 v n l 1 [z] d w'->jI m w'->nA m w'.heap.size d->K (y.put o.dst d) w'): if Č o (ų f y.tmps)=Ì then Oper.wp P o y w K vJ else E:=by
 have X:Č o (ų f y.tmps)=Ì:=by simp[Č,k]
 rw[if_pos X];let⟨d,w',Y,h2,h3,h4⟩:=apa (ty:=o.type) q r B C D G ad b I J L M N O S T V W;unfold Oper.wp;simp[Ŵ,p,resolve,invoke,builtin,F,H,Y,Result.andThen];exact h d w' h2 h3 h4
end
def oa(l:List Nat):List Ñ:=l.map λa=>Ã<|Â ⟨a,0,Á⟩
def pf(l:List Int):List Ñ:=l.map λz=>Å È z
def FJ(p:PT):List Ñ:=pf p.c++[Ä p.p]
def Dv(c:List Int)(a:Ñ):List Ñ:=pf c++[a]
structure pN(lo hi:Nat)(tb:List Nat)(l:List PT)(w:Í):Prop where
 r:tb.length=l.length
 I:∀(j a:Nat) (p:PT),tb[j]?=Â a->l[j]?=Â p->lo<=a/\a<hi/\p.c.length=5/\fq a (FJ p) 200 w
structure xC(B q:Nat)(r:PR)(w:Í):Prop where
 M:q<B
 C:r.c.length=8
 I:∃vb tb,fq q (Dv r.c vb) 161 w/\w.ownsRow 0 149 1 vb tb.length (oa tb)/\(∀j,vb.ownBlock=Â j->j<B)/\pN 0 B tb r.tx w
structure qw(B:Nat)(qs:List Nat)(rs:List PR)(w:Í):Prop where
 I:qs.length=rs.length
 M:∀(j q:Nat) (r:PR),qs[j]?=Â q->rs[j]?=Â r->xC B q r w
section
variable{w':Í}{lo hi B q:Nat}{tb qs:List Nat}{l:List PT}{r:PR}{rs:List PR}
def pN.C(h:pN lo hi tb l w)(k:fc X w w')(f:∀a c g,lo<=a->a<hi->w.heap[a]?=Â (ä c 200 g)->¬X a):pN lo hi tb l w':= ⟨h.r,λj a p i m=>by let⟨b,d,n,e⟩:=h.I j a p i m;exact⟨b,d,n,e.C k<|f a _ _ b d e⟩⟩
def pN.ff(h:pN lo hi tb l w)(f:i<=lo)(g:hi<=n):pN i n tb l w:= ⟨h.r,λj a p b c=>by let⟨k,m,d,e⟩:=h.I j a p b c;exact⟨Z,Z,d,e⟩⟩
theorem pN.M(lo hi:Nat)(w:Í):pN lo hi [] [] w:=⟨U,λj a p h=>by cases h⟩
theorem FK{α:Type}{l:List α}{a x:α}(h:(l++[a])[j]?=Â x):l[j]?=Â x\/j=l.length/\x=a:=by grind
theorem pN.Ur{p:PT}(h:pN lo hi tb l w)(g:lo<=i)(k:i<hi)(m:p.c.length=5)(n:fq i (FJ p) 200 w):pN lo hi (tb++[i]) (l++[p]) w:=by
 refine⟨by simp[h.r],λj x y d b=> ?_⟩;rcases FK d with e|⟨e,rfl⟩
 .rcases FK b with f|⟨f,rfl⟩
  .exact h.I j x y e f
  .have:=(Ô.1 e).1;have:=h.r;omega
 .rcases FK b with f|⟨f,rfl⟩
  .have:=(Ô.1 f).1;have:=h.r;omega
  .grind
def Us(B:Nat)(w:Í)(i:Nat):Prop:=B<=i\/∃c T a,w.heap[i]?=Â (ä c T a)/\(T=153\/T=148)
theorem Ut(a:Us B w i)(hi:i<B)(h:w.heap[i]?=Â (ä d T xJ))(b:T≠153/\T≠148):False:=by rcases a with q|⟨e,f,g,j,k⟩;all_goals grind
theorem xC.wO(h:xC B q r w)(k:fc X w w')(d:∀i,i<w.heap.size->X i->Us B w i):xC B q r w':=by let⟨f,tb,b,g,l,m⟩:=h.I;refine⟨h.M,h.C,f,tb,b.C k λx=>Ut (d q b.M x) h.M b A,im g k λj o x=> ?_,l,m.C k λa c p _ n e x=>Ut (d a (Þ.1 e).1 x) n e A⟩;grind [nW,Ut]
def xC.ff(h:xC B q r w)(a:B<=i):xC i q r w:=by let⟨b,tb,c,d,e,f⟩:=h.I;exact⟨by have:=h.M;omega,h.C,b,tb,c,d,λj g=>by have:=e j g;omega,f.ff (Ü _) a⟩
def qw.C(h:qw B qs rs w)(k:fc X w w')(a:∀i,i<w.heap.size->X i->Us B w i):qw B qs rs w':= ⟨h.I,λj q r b c=>(h.M j q r b c).wO k a⟩
def qw.Ur(h:qw B qs rs w)(b:B<=i)(c:xC i q r w):qw i (qs++[q]) (rs++[r]) w:=by
 refine⟨by simp[h.I],λj x y d a=> ?_⟩;rcases FK d with e|⟨e,rfl⟩
 .rcases FK a with f|⟨f,rfl⟩
  .exact(h.M j x y e f).ff b
  .have:=(Ô.1 e).1;have:=h.I;omega
 .rcases FK a with f|⟨f,rfl⟩
  .have:=(Ô.1 f).1;have:=h.I;omega
  .exact c
theorem qw.N(B:Nat)(w:Í):qw B [] [] w:=⟨U,λj q r h=>by cases h⟩
end
structure Gh where
 a:List Nat
 q:Nat
 t:Nat
 B:Nat
 tb:List Nat
 N:Ñ
 r:Ñ
 b:Option ù
namespace Gh
def C(g:Gh)(d:PD):List Nat:=if d.r then g.a++[g.q]else g.a
def I(g:Gh)(d:PD):List Nat:=if d.C then g.tb++[g.t]else g.tb
def S(g:Gh)(d:PD):Option ù:=if d.r then Â ⟨g.q,0,Á⟩else Á
def Y(g:Gh)(d:PD):Option ù:=if d.C then Â ⟨g.t,0,Á⟩else g.b
def M(g:Gh)(d:PD):Nat:=if d.C then g.t else g.q
def G(g:Gh)(d:PD):Option ù:=if d.r then Â ⟨g.M d,0,Á⟩else Á
def Dw(g:Gh)(d:PD)(a:Int):ù:=if a=86 then⟨g.q,5,Á⟩else if a=87 then⟨g.q,6,Á⟩else if a=110 then⟨g.M d,2,Á⟩else⟨g.M d,3,Á⟩
end Gh
structure xD(m:Nat)(g:Gh)(d:PD)(w:Í):Prop where
 S:m<=g.B
 N:g.B<=g.q
 M:d.M.c.length=8
 r:fq g.q (Dv d.M.c g.r) 161 w
 I:w.ownsRow g.B 149 1 g.r (g.I d).length (oa<|g.I d)
 Y:pN g.B g.t g.tb d.M.tx w
 C:d.C=Ì->g.B<=g.t/\d.N.c.length=5/\fq g.t (FJ d.N) 200 w
 a:d.C=É->g.tb=[]/\d.M.tx=[]
structure ln(m:Nat)(g:Gh)(d:PD)(w:Í):Prop where
 C:w.ownsRow m 148 1 g.N (g.C d).length (oa<|g.C d)
 I:qw g.B g.a d.S w
 r:d.r=Ì->xD m g d w
 N:d.r=É->d.C=É
def Uu(s:ByteArray)(g:Gh)(d:PD)(a:Option ù)(lD b:Int):List Ñ:=
 [Ä s,g.N,Ã<|g.S d,Ã<|g.Y d,Ã<|g.G d,Ã a,Å È lD,Å È b]
structure gS(m b:Nat)(g:Gh)(c:Option ù)(s:ByteArray)(st:PS)(w:Í):Prop where
 S:m<=b
 a:jI m w
 r:fq b (Uu s g st.d c st.r st.I) 153 w
 M:s.size<=10
 I:gN s=st.C
 C:ln m g st.d w
 c:0<st.r->st.d.r=Ì/\c=Â (g.Dw st.d st.M)
 N:st.d.r=Ì\/st.C=[82]
def tg(m b:Nat)(st:PS)(w a:Í):Prop:=fc (λi=>m<=i) w a/\∃g i s,gS m b g i s st a
section
variable{w':Í}{g:Gh}{d:PD}{s:ByteArray}{st:PS}
theorem xD.wO(h:xD m g d w)(k:fc X w w')(p:∀i c T b,w.heap[i]?=Â (ä c T b)->X i->T=153\/T=148):xD m g d w':=by
 have l:∀{i:Nat} {c:Array Ñ} {T:ċ} {b:Nat×Nat},w.heap[i]?=Â (ä c T b)->(T≠153/\T≠148)->¬X i:=λ{i c T b} n f x=>(p i c T b n x).elim f.1 f.2;refine⟨h.S,h.N,h.M,h.r.C k<|l h.r A,im h.I k λj r=> ?_,h.Y.C k λa c b _ _ q=>l q A,λe=> ?_,h.a⟩
 .let⟨o,s⟩:=nW h.I r;grind
 .let⟨n,f,o⟩:=h.C e;exact⟨n,f,o.C k<|l o A⟩
theorem ln.rd(h:ln m g d w)(k:fc X w w')(b:∀i c T a,w.heap[i]?=Â (ä c T a)->X i->T=153)(f:∀i,i<w.heap.size->X i->∃c a,w.heap[i]?=Â (ä c 153 a)):ln m g d w':=by
 refine⟨im h.C k λj l x=> ?_,h.I.C k λi n x=> ?_,λe=>(h.r e).wO k λi c T a q x=>Æ<|b i c T a q x,h.N⟩
 .let⟨o,q⟩:=nW h.C l;grind
 .let⟨c,a,q⟩:=f i n x;exact Î ⟨c,_,a,q,Æ U⟩
def ln.M(h:ln m g d w)(a:fq b l 153 w)(k:fc (λi=>i=b) w w'):ln m g d w':= h.rd k (λi c T e q x=>by subst x;unfold fq at a;rw[a]at q;cases q;rfl) λi _ x=>⟨l.toArray,(0,0),by rwa[x]⟩
def qx{i:Nat}{v:Value}{j:Nat}{vs:List Value}{T:TypeId}(h:fq j vs T w)(hT:lA T=false:=by decide):fc (λk=>k=j) w (w.setCell ⟨j,i,none⟩ v):=fc.I (X:=λk=>k=j) U v<|Î<|h.S hT
def ln.G(h:ln m g d w):(g.C d).length=d.I.length:=by unfold Gh.C PD.I;split<;>simp[h.I.I]
def xD.G(h:xD m g d w):(g.I d).length=d.Y.length:=by unfold Gh.I PD.Y;split<;>simp[h.Y.r]
def Uv(h:i<zQ.length)(v:Ñ):(pf zQ++[v])[i]?=Â (Å È<|zQ.getD i 0):=by rw[ĝ (by simpa[pf]using h)];simp[pf,Ĕ,h]
def abn(l:List Int)(i:Nat)(z:Int)(v:Ñ)(h:i<l.length):(pf l++[v]).set i (Å È z)=pf (l.set i z)++[v]:=by rw[List.set_append_left _ _ (by simpa[pf]using h)];simp[pf,List.map_set]
def abo(l:List Int)(v u:Ñ):(pf l++[v]).set l.length u=pf l++[u]:=by rw[Ĭ _ _ (by simp[pf])];simp[pf]
def Dx(l:List Int)(v:Ñ):(pf l++[v])[l.length]?=Â v:=by rw[ĕ (by simp[pf])];simp[pf]
theorem ln.S(h:ln m g d w)(on:d.r=Ì)(n:i<8)(z:Int):ln m g (d.vV i z) (w.setCell ⟨g.q,i,Á⟩<|Å È z):=by
 have l:=h.r on;have k:fc (λk=>k=g.q) w (w.setCell ⟨g.q,i,Á⟩<|Å È z):=qx l.r;have r:=l.N;refine⟨im h.C k λj b x=>iL h.C l.r A (by rw[b,x]),h.I.C k λi _ x=>Æ Z,λ_=>⟨l.S,l.N,by simp[PD.vV,l.M],?_,im l.I k λj b x=>iL l.I l.r A (by rw[b,x]),l.Y.C k λa c s _ _ q x=> ?_,λe=> ?_,l.a⟩,h.N⟩
 .have:=l.r.fO i<|Å È z;unfold Dv at this;rw[abn _ _ _ _ (by rwa[l.M])]at this;exact this
 .have:=l.r;unfold fq at this;grind
 .let⟨o,p,f⟩:=l.C e;exact⟨o,p,f.C k λx=>(fq.G f l.r A) x⟩
theorem ln.kP(h:ln m g d w)(on:d.r=Ì)(f:d.C=Ì){p:PT}(n:p.c.length=5)(r:(FJ d.N).set i v=FJ p):ln m g {d with N:=p} (w.setCell ⟨g.t,i,Á⟩ v):=by have l:=h.r on;let⟨o,s,b⟩:=l.C f;have k:fc (λk=>k=g.t) w (w.setCell ⟨g.t,i,Á⟩ v):=qx b;refine⟨im h.C k λj e x=>iL h.C b A (by rw[e,x]),h.I.C k λi _ x=>Æ Z,λ_=>⟨l.S,l.N,l.M,l.r.C k λx=>(fq.G l.r b A) x,im l.I k λj e x=>iL l.I b A (by rw[e,x]),l.Y.C k λa c u _ q _ x=>by omega,λ_=>⟨o,n,?_⟩,l.a⟩,h.N⟩;have:=b.fO i v;grind
def ln.Y(h:ln m g d w)(on:d.r=Ì)(a:d.C=Ì)(c:i<5)(z:Int):ln m g (d.uF i z) (w.setCell ⟨g.t,i,Á⟩<|Å È z):=by let⟨e,b,f⟩:=(h.r on).C a;exact h.kP on a (by simp[b])<|abn _ _ _ _<|by rwa[b]
def ln.r7(h:ln m g d w)(on:d.r=Ì)(a:d.C=Ì)(p:ByteArray):ln m g (d.r7 p) (w.setCell ⟨g.t,5,Á⟩<|Ä p):=by let⟨e,b,f⟩:=(h.r on).C a;refine h.kP on a b ?_;have:=abo d.N.c (Ä d.N.p)<|Ä p;rwa[b]at this
structure re(m b:Nat)(g:Gh)(d:PD)(ab ao:Nat)(f:Int->PD)(x:Int)(w:Í):Prop where
 r:ab≠b
 N:m<=ab
 Y:ab<w.heap.size
 C:w.cell? ⟨ab,ao,Á⟩=Â (Å È x)
 I:w.frozen? ⟨ab,ao,Á⟩=É
 nf:NF ab w
 S:∀W,ln m g d W->∀z,ln m g (f z)<|W.setCell ⟨ab,ao,Á⟩<|Å È z
 M:∀z,g.S (f z)=g.S d/\g.Y (f z)=g.Y d/\g.G (f z)=g.G d/\(f z).r=d.r/\∀n,g.Dw (f z) n=g.Dw d n
theorem FL(h:ln m g d w)(f:fq b l 153 w)(on:d.r=Ì)(e:i<8):re m b g d g.q i (λz=>d.vV i z) (d.M.c.getD i 0) w:=by have a:=h.r on;exact⟨fq.G a.r f A,Ï a.S a.N,a.r.M,a.r.r i _ (Uv (by rwa[a.M]) _),a.r.I i,a.r.S,λW j z=>j.S on e z,λz=>⟨U,U,U,U,λn=>rfl⟩⟩
theorem abp(h:ln m g d w)(k:fq b l 153 w)(on:d.r=Ì)(f:d.C=Ì)(j:i<5):re m b g d g.t i (λz=>d.uF i z) (d.N.c.getD i 0) w:=by have a:=h.r on;let⟨o,p,e⟩:=a.C f;exact⟨fq.G e k A,Ï a.S o,e.M,e.r i _ (Uv (by rwa[p]) _),e.I i,e.S,λW q z=>q.Y on f j z,λz=>⟨U,U,U,U,λn=>rfl⟩⟩
theorem FM(h:ln m g d w)(a:fq b l 153 w)(on:d.r=Ì)(c:i<4):re m b g d (g.M d) i (λz=>d.kP i z) (d.zn i) w:=by unfold PD.kP PD.zn Gh.M;split;all_goals grind [abp,FL]
theorem gS.G{f:Int->PD}(h:gS m b g O s st w)(n:re m b g st.d i j f c w)(z:Int):gS m b g O s {st with d:=f z} (w.setCell ⟨i,j,Á⟩<|Å È z):=by
 let⟨e,l,o,a,p⟩:=n.M z;have k:fc (λk=>k=i) w (w.setCell ⟨i,j,Á⟩<|Å È z):=fc.I (X:=λk=>k=i) U _<|Æ U;refine⟨h.S,h.a.r _ trivial,?_,h.M,h.I,n.S w h.C z,λq=> ?_,?_⟩
 .have:=h.r.C k λc=>n.r c.symm;unfold Uu at this|-;grind
 .let⟨r,t⟩:=h.c q;grind
 .simp only[a];exact h.N
def gS.Nv(h:gS m b g O s st w)(a:ByteArray)(r:List Int)(c:a.size<=10)(e:gN a=r)(f:st.d.r=Ì\/r=[82]):gS m b g O a {st with C:=r} (w.setCell ⟨b,0,Á⟩<|Ä a):= ⟨h.S,h.a.r _ trivial,h.r.fO 0 _,c,e,h.C.M h.r<|qx h.r,h.c,f⟩
def gS.Y(h:gS m b g O s st w)(z:Int)(a:0<z->st.d.r=Ì/\O=Â (g.Dw st.d st.M)):gS m b g O s {st with r:=z} (w.setCell ⟨b,6,Á⟩<|Å È z):= ⟨h.S,h.a.r _ trivial,h.r.fO 6 _,h.M,h.I,h.C.M h.r<|qx h.r,a,h.N⟩
def gS.abq(h:gS m b g O s st w)(z:Int):gS m b g O s {st with I:=z} (w.setCell ⟨b,7,Á⟩<|Å È z):= ⟨h.S,h.a.r _ trivial,h.r.fO 7 _,h.M,h.I,h.C.M h.r<|qx h.r,h.c,h.N⟩
def gS.abr(h:gS m b g O s st w)(a:ù)(n:Int)(d:st.r=0)(c:m<=a.block/\a.block<w.heap.size):gS m b g (Â a) s {st with M:=n} (w.setCell ⟨b,5,Á⟩<|Ã<|Â a):= ⟨h.S,h.a.r _ c,h.r.fO 5 _,h.M,h.I,h.C.M h.r<|qx h.r,λq=>by have:0<st.r:=q;omega,h.N⟩
def gS.gG(h:gS m b g O s st w):gS m b g O s st w.drew:=by have k:=fc.gG fh w;exact⟨h.S,h.a,h.r.C k id,h.M,h.I,h.C.rd k (λ_ _ _ _ _ x=>x.elim) λ_ _ x=>x.elim,h.c,h.N⟩
end
section
variable{w':Í}{g:Gh}{s:ByteArray}{st:PS}{f:Int->PD}{x:Int}
def re.rd{d:PD}(h:re m b g d n j f x w)(i:Nat)(v:Ñ):re m b g d n j f x (w.setCell ⟨b,i,Á⟩ v):= ⟨h.r,h.N,by simpa using h.Y,by rw[alU<|Ne.symm h.r];exact h.C,by rw[World.frozen?_setCell];exact h.I,λc T a q=>h.nf c T a (by rwa[ę _ _ _ _ (by simpa using h.r)]at q),h.S,h.M⟩
def gS.Uw(h:gS m b g O s st w)(n:Int)(a:st.r=0):gS m b g O s {st with M:=n} w:= ⟨h.S,h.a,h.r,h.M,h.I,h.C,λq=>by have:0<st.r:=q;omega,h.N⟩
def mU(h:gS m b g O s st w)(i:Nat)(v:Ñ):fc (λi=>m<=i) w (w.setCell ⟨b,i,Á⟩ v):=fc.I (X:=λi=>m<=i) (p:=⟨b,i,Á⟩) h.S v<|Î h.r.S
def FN(h:re m b g st.d n j f x w)(z:Int):fc (λi=>m<=i) w (w.setCell ⟨n,j,Á⟩<|Å È z):=fc.I (X:=λi=>m<=i) (p:=⟨n,j,Á⟩) h.N _<|Æ U
def xE(c a:Int):Int:=if c=104\/c=48 then 0 else a-1
def iR(c:Int):Int:=if c=104 then-1 else(c-48)%256
def Ux{st:PS}(h:st.r=0)(n:Int)(d:PD):({st with r:=0,M:=n,d:=d}:PS)={st with M:=n,d:=d}:=by rw[<-h]
def Nw(h:gS m b g O s st w)(i:re m b g st.d n j f x w)(k:st.r=0)(o:st.d.r=Ì)(c l a:Int)(B:0<=l)(C:l<=6)(p:∀z,g.Dw (f z) a=⟨n,j,Á⟩): Ö À 147 #[Ã<|Â ⟨b,0,Á⟩,Ã<|Â ⟨n,j,Á⟩,Å ŧ c,Å È l] w λe w'=>
  e=Ê (è #[])/\tg m b {st with r:=xE c l,M:=a,d:=f (iR c)} w w':=by
 have D:=h.r.r 5 _ U;have E:=h.r.r 6 _ U;have F:=h.r.I 5;have G:=h.r.I 6;have I:=i.C;have J:=i.I;have K:=i.r;have L:¬b=n:=λe=>i.r e.symm;have t:m<=n/\n<w.heap.size:=⟨i.N,i.Y⟩;have H:=eZ<|Ë h<|Ë i<|Ë p<|Ë k o;by_cases r:c=104
 .subst r;go_enter ň,ľ;go_wp2;first|go_end0|refine ó (results_none U _ _ _) U ?_
  let⟨h,i,p,k,o⟩:=H.out;refine⟨U,FN i _,g,O,s,?_⟩;have:=(h.G i<|-1).Uw a k;rw[show xE 104 l=0 from if_pos<|Æ U,Ux k];exact this
 .have M:(c==104)=É:=by rwa[beq_eq_false_iff_ne]
  have u:iR c=(c-48)%256:=if_neg r;by_cases y:c=48
  .subst y;go_enter ň,ľ;go_wp2;go_end0;let⟨h,i,p,k,o⟩:=H.out;have v:=h.abr ⟨n,j,Á⟩ a k t;have q:=i.rd 5<|Ã<|Â ⟨n,j,Á⟩;refine⟨U,(mU h 5 _).fj<|FN q _,g,Â ⟨n,j,Á⟩,s,?_⟩;have:=v.G q 0;rw[show xE 48 l=0 from if_pos<|Î U,Ux k,u];exact this
  .go_enter ň,ľ;go_wp2;go_end0;let⟨h,i,p,k,o⟩:=H.out;have q:=i.rd 5<|Ã<|Â ⟨n,j,Á⟩;have v:=(h.abr ⟨n,j,Á⟩ a k t).G q<|(c-48)%256;refine⟨U,((mU h 5 _).fj<|FN q _).fj<|mU v 6 _,g,Â ⟨n,j,Á⟩,s,?_⟩;rw[show xE c l=l-1 from if_neg Z,u];exact(v.Y (l-1) λ_=>⟨by simp only;rwa[(i.M _).2.2.2.1],by simp only;rw[p]⟩)
theorem Nx{b a:Int}(h:mF a c=Ì)(d:(a=86\/a=87)/\b=2\/(a=110\/a=107)/\b=6):xE c b=lL a c:=by unfold xE lL;unfold mF at h;grind [Bd]
theorem Ny{a:Int}(h:¬(a=86\/a=87)/\¬(a=110\/a=107)):lL a c=0:=by unfold lL;grind
theorem Nz{a:Int}(h:a=86\/a=87\/a=110\/a=107):ll a c=iR c:=by unfold ll iR;grind
def Uy(h:gS m b g O s st w)(i:re m b g st.d n j f x w)(k:st.r=0){a z:Int}(e:c=0)(l:w'=(w.setCell ⟨n,j,Á⟩<|Å È z).drew):tg m b {st with r:=c,M:=a,d:=f z} w w':=by subst l;subst e;rw[Ux k];exact⟨(FN i z).fj<|fc.gG _ _,g,O,s,((h.G i z).Uw a k).gG⟩
end
section
variable{g:Gh}{st:PS}
def Jw{d:PD}(a:d.C=Ì):g.Y d=Â ⟨g.t,0,Á⟩:=if_pos a
def ape:zp st 0=Á:=rfl
def apf(h:gS m b g O B st w)(r:st.r=0)(on:st.d.r=Ì)(f:st.d.C=Ì)(k:Int): Ö À 101 #[Ã<|Â ⟨b,0,Á⟩,Å È k] w λe u=>match zp st k with
  |none=>e=Ê (þ É)/\u=w
  |some a=>e=Ê (þ Ì)/\tg m b a w u:=by
 have s:=h.r.r 0 _ U;have o:=h.r.r 3 _ U;have v:=h.r.r 7 _ U;rw[Jw f]at o;have x:=h.r.I 0;have y:=h.r.I 7;have a:=abp h.C h.r on f (i:=4) A;have z:=a.C;have C:=a.I;have D:=a.r;have E:¬b=g.t:=λe=>a.r e.symm;have H:=eZ<|Ë h a;by_cases c:k=0
 .subst c;rw[ape];go_enter ŵ,ū;go_wp2;go_ret;exact⟨U,U⟩
 .have F:(k==0)=É:=by rwa[beq_eq_false_iff_ne]
  have e:zp st k=Â {st with C:=pM k,I:=0,d:=st.d.uF 4 k}:=if_neg c;rw[e];go_enter ŵ,ū;go_wp2_with (go_at_call 148;refine(ao9 _ _).mono ?_;rintro e u ⟨⟨j,rfl,p,q⟩,l⟩;subst u);go_ret;let⟨h,a⟩:=H.out;have l:=h.G a k;have n:=l.abq 0;exact⟨U,((FN a k).fj<|mU l 7 _).fj<|mU n 0 _,g,O,j,n.Nv j _ p q<|Æ on⟩
end
def apg:(À.info? 149).map (λi=>(i.zero,i.size,i.bytes))=Â (Â<|Ã Á,1,8):=fx
def aph:(À.info? 148).map (λi=>(i.zero,i.size,i.bytes))=Â (Â<|Ã Á,1,8):=fx
section
variable{w':Í}{g:Gh}{nm:Option ù}{s:ByteArray}{st:PS}{d:PD}{T:Nat}
structure vY(m:Nat)(g:Gh)(d:PD)(T:Nat)(w:Í):Prop where
 C:w.ownsRow m 148 1 g.N (g.C d).length (oa<|g.C d)
 I:qw g.B g.a d.S w
 N:pN g.B T (g.I d) d.Y w
 tb:fq T (FJ PD.zk) 200 w
def Jx(x:i=j)(h:fq j l t w):w.heap[i]?=Â (ä l.toArray t (0,0)):=by rwa[x]
theorem vY.r(h:vY m g d T w)(k:fc X w w')(f:∀i,i<w.heap.size->X i->∃c t b,w.heap[i]?=Â (ä c t b)/\(t=153\/(t=161\/t=149)/\g.B<=i)):vY m g d T w':=by
 have e:∀{i:Nat} {c:Array Ñ} {t:ċ} {b:Nat×Nat},w.heap[i]?=Â (ä c t b)->(t≠153/\t≠161/\t≠149)->¬X i:=λ{i c t b} q1 q2 x=>by grind
 refine⟨im h.C k λj l=> ?_,h.I.C k λi n x=> ?_,h.N.C k λa c b _ _ q=>e q A,h.tb.C k<|e h.tb A⟩
 .let⟨o,p⟩:=nW h.C l;grind
 .let⟨r,s,u,o,p⟩:=f i n x;rcases p with rfl|⟨_,z⟩
  .exact Î ⟨_,_,_,o,Æ U⟩
  .exact Æ z
def vY.fE(h:vY m g d T w)(k:fc fh w w'):vY m g d T w':=h.r k λ_ _ x=>x.elim
def vY.M(h:vY m g d T w)(a:fq b l 153 w):vY m g d T (w.setCell ⟨b,i,Á⟩ v):= h.r (qx a) λi _ x=>⟨_,_,_,Jx x a,Æ U⟩
theorem xD.abt(l:xD m g d w):pN g.B w.heap.size (g.I d) d.Y w:=by
 unfold Gh.I PD.Y;split
 .rename_i e;let⟨b,c,a⟩:=l.C e;have:=a.M;exact(l.Y.ff (Ü _) Z).Ur b a.M c a
 .rename_i e;let⟨b,c⟩:=l.a (by simpa using e);grind [pN.M]
theorem jI.C(n:jI m w)(g:fq b l e w)(C:m<=b)(p:e≠304/\e≠305)(d:Array Ñ)(t:ċ)(u:0<d.size)(r:t≠304/\t≠305)(h:∀v∈d.toList,nA m (w.heap.size+1) v):jI m ((w.setCell ⟨b,i,Á⟩<|Ã<|Â ⟨w.heap.size,0,Á⟩).alloc<|ä d t):=by
 have s:(w.setCell ⟨b,i,Á⟩<|Ã<|Â ⟨w.heap.size,0,Á⟩).heap.size=w.heap.size:=fp
 have D:=g.M;intro j o k c;have x:((w.setCell ⟨b,i,Á⟩<|Ã<|Â ⟨w.heap.size,0,Á⟩).alloc<|ä d t).heap.size=w.heap.size+1:=fp
 rw[x];by_cases a:j<w.heap.size
 .rw[ő _ _ _ (by rwa[s])]at c;by_cases f:j=b
  .subst f;have:=g.fO i<|Ã<|Â ⟨w.heap.size,0,Á⟩;unfold fq at this;rw[this]at c;cases c;let⟨E,F,G,y,H,z,I,J,B⟩:=n j _ k g;cases y;refine⟨_,_,_,U,fp,by simpa using z,p.1,p.2,λv h=> ?_⟩;rcases ğ (by simpa using h)with q|q
   .exact(B v<|by simpa using q).ff Z
   .rw[q];exact⟨Ï k<|Nat.le_of_lt a,Nat.lt_succ_self _⟩
  .rw[ę _ _ _ _ (by simpa using f)]at c;exact(n j o k c).ff Z
 .by_cases f:j=w.heap.size
  .have:=Ţ (w.setCell ⟨b,i,Á⟩<|Ã<|Â ⟨w.heap.size,0,Á⟩)<|ä d t;rw[s]at this;rw[f,this]at c;cases c;exact⟨_,_,_,U,Ø _,u,r.1,r.2,h⟩
  .grind
def NA(b:Nat)(w:Í):Í:=(w.setCell ⟨b,3,Á⟩<|Ã<|Â ⟨w.heap.size,0,Á⟩).alloc<|ä #[Å È 0,Å È 0,Å È 0,Å È 0,Å È 0,Ä ⟨#[]⟩] 200
def rdM(s:ByteArray)(g:Gh)(d:PD)(a b nm:Option ù)(lD c:Int):List Ñ:=
 [Ä s,g.N,Ã<|g.S d,Ã a,Ã b,Ã nm,Å È lD,Å È c]
structure FO(m b:Nat)(g:Gh)(d:PD)(T:Nat)(s:ByteArray)(tm nm:Option ù)(lD Uz:Int)(w0 w:Í):Prop where
 S:fc (λi=>m<=i) w0 w
 N:jI m w
 r:fq b (rdM s g d (Â ⟨T,0,Á⟩) tm nm lD Uz) 153 w
 M:vY m g d T w
 I:fq g.q (Dv d.M.c g.r) 161 w
 C:w.ownsRow g.B 149 1 g.r (g.I d).length (oa<|g.I d)
def FO.fE{lD:Int}(h:FO m b g d T s O nm lD c u w)(k:fc fh w w')(a:jI m w'):FO m b g d T s O nm lD c u w':= ⟨h.S.C k λ_ _ x=>x.elim,a,h.r.C k id,h.M.fE k,h.I.C k id,im h.C k λ_ _=>id⟩
theorem gS.apj(h:gS m b g nm s st w)(on:st.d.r=Ì):FO m b g st.d w.heap.size s (g.G st.d) nm st.r st.I w (NA b w):=by
 have l:=h.C.r on;have p:(w.setCell ⟨b,3,Á⟩<|Ã<|Â ⟨w.heap.size,0,Á⟩).heap.size=w.heap.size:=fp
 have n:fc fh (w.setCell ⟨b,3,Á⟩<|Ã<|Â ⟨w.heap.size,0,Á⟩) (NA b w):=fc.iw _ _ _ _;have r:fc (λk=>k=b) w (w.setCell ⟨b,3,Á⟩<|Ã<|Â ⟨w.heap.size,0,Á⟩):=qx h.r;have e:=r.C n λ_ _ x=>x.elim;refine⟨e.ff λk _ x=>by rw[x];exact h.S,?_,(h.r.fO 3 _).C n id,⟨im h.C.C e λj f x=>iL h.C.C h.r A (by rw[f,x]),h.C.I.C e λi _ x=>Î ⟨_,_,_,Jx x h.r,Æ U⟩,l.abt.C e λa c t _ _ q x=> ?_,?_⟩,l.r.C e λx=>fq.G l.r h.r A x,im l.I e λj f x=>iL l.I h.r A<|by rw[f,x]⟩
 .exact h.a.C h.r h.S A _ _ fp A λv o=>by simp at o;rcases o with rfl|rfl<;>trivial
 .have o:=h.r;unfold fq at o;grind
 .have:=fq.N (w.setCell ⟨b,3,Á⟩<|Ã<|Â ⟨w.heap.size,0,Á⟩) [Å È 0,Å È 0,Å È 0,Å È 0,Å È 0,Ä ⟨#[]⟩] 200;rwa[p]at this
def UA(g:Gh)(d:PD)(T:Nat)(v:Ñ):Gh:={g with t:=T,tb:=g.I d,r:=v}
theorem FO.jT(h:FO m b g st.d T s O nm st.r st.I w u)(C:m<=b)(on:st.d.r=Ì)(a:m<=g.B/\g.B<=g.q/\st.d.M.c.length=8)(D:g.B<=T)(hd:st.r=0) (l:nX u g.B 149 1 g.r (g.I st.d).length (oa<|g.I st.d) 1 [Ã<|Â ⟨T,0,Á⟩] v W) (K:jI m W) (L:nA m W.heap.size v) (n:jX=((W.setCell ⟨g.q,8,Á⟩ v).setCell ⟨b,4,Á⟩<|Ã<|Â ⟨T,0,Á⟩).setCell ⟨b,0,Á⟩ (Ä ⟨#[84]⟩)): fc (λi=>m<=i) w jX/\gS m b (UA g st.d T v) nm ⟨#[84]⟩ {st with C:=[84],d:=st.d.pd} jX:=by
 have E:∀{j:Nat} {M:List Ñ} {t:ċ},fq j M t u->149≠t->¬g.r.ownBlock=Â j:=λN f=>iL h.C N f;have F:=h.r.C l.r<|E h.r A;have f:=h.I.C l.r<|E h.I A;have P:=h.M.r l.r λi _ x=>by let⟨k,z⟩:=nW h.C x;exact⟨_,_,_,z,Î ⟨Î U,(h.C.lt i x).1⟩⟩
 have o:fc (λk=>k=g.q) W (W.setCell ⟨g.q,8,Á⟩ v):=qx f;have G:fq g.q (Dv st.d.M.c v) 161 (W.setCell ⟨g.q,8,Á⟩ v):=by have:=f.fO 8 v;have e:=abo st.d.M.c g.r v;rw[a.2.2]at e;unfold Dv at this|-;grind
 have z:=F.C o λx=>fq.G F f A x;have H:=P.r o λi _ x=>⟨_,_,_,Jx x f,Î ⟨Æ U,by rw[x];exact a.2.1⟩⟩;have I:=im l.fg o λj p x=>iL l.fg f A (by rw[p,x]);have Q:jI m (W.setCell ⟨g.q,8,Á⟩ v):=K.r _ L;have S:fc (λk=>k=b) (W.setCell ⟨g.q,8,Á⟩ v) ((W.setCell ⟨g.q,8,Á⟩ v).setCell ⟨b,4,Á⟩<|Ã<|Â ⟨T,0,Á⟩):=qx z;have r:=z.fO 4<|Ã<|Â ⟨T,0,Á⟩;have V:fc (λk=>k=b) ((W.setCell ⟨g.q,8,Á⟩ v).setCell ⟨b,4,Á⟩<|Ã<|Â ⟨T,0,Á⟩) jX:=by rw[n];exact qx r
 have J:=r.fO 0<|Ä ⟨#[84]⟩;rw[<-n]at J;have k:vY m g st.d T jX:=by rw[n];exact(H.M z).M r
 have y:=S.fj V;have X:=G.C y λx=>fq.G G z A x;have Y:=im I y λj p x=>iL I z A (by rw[p,x]);have hTl:=H.tb.M;have c5:jI m jX:=by rw[n];refine(Q.r _ ?_).r _ trivial;exact⟨Ï a.1 D,hTl⟩
 have e1:(g.I st.d++[T]).length=(g.I st.d).length+1:=fp
 have e2:oa (g.I st.d++[T])=oa (g.I st.d)++[Ã<|Â ⟨T,0,Á⟩]:=by simp[oa]
 refine⟨((h.S.C l.r λi _ x=> ?_).C o λi _ x=> ?_).C y λi _ x=> ?_,C,c5,?_,A,U,⟨k.C,k.I,λ_=>⟨a.1,a.2.1,a.2.2,X,?_,k.N,λ_=>⟨D,U,k.tb⟩,λe=>by cases e⟩,λe=> ?_⟩,λe=> ?_,Æ on⟩
 .have:=(h.C.lt i x).1;have:=a.1;omega
 .grind
 .rwa[x]
 .have e:(UA g st.d T v).S st.d.pd=g.S st.d:=U;unfold Uu;rw[e];have e4:(UA g st.d T v).G st.d.pd=Â ⟨T,0,Á⟩:=if_pos on;rwa[e4]
 .show jX.ownsRow g.B 149 1 v (g.I st.d++[T]).length (oa<|g.I st.d++[T]);rwa[e1,e2]
 .have:st.d.r=É:=e;grind
 .grind
def abu(h:gS m b g nm s st w)(z:st.r=0)(o:st.d.r=Ì)(C:st.d.Y.length<=100000): Ö À 99 #[Ã<|Â ⟨b,0,Á⟩] w λe w'=>e=Ê (è #[])/\tg m b {st with C:=[84],d:=st.d.pd} w w':=by
 have X:=h.r.r 3 _ U;have Y:=h.r.I 3;have gE:=h.r.M;have l:=h.C.r o;have x:=h.apj o;have D:=λv=>by have:=Dx st.d.M.c v;rwa[l.M]at this
 have E:m<=g.B/\g.B<=g.q/\st.d.M.c.length=8:=⟨l.S,l.N,l.M⟩;have F:g.B<=w.heap.size:=by have:=l.r.M;have:=l.N;omega
 have G:(g.I st.d).length<=100000:=by rwa[l.G]
 have I:=h.S;have H:=eZ<|Ë E<|Ë F<|Ë G<|Ë I<|Ë z o;have j:=eZ<|D g.r;have u:g.S st.d=Â ⟨g.q,0,Á⟩:=if_pos o;go_enter Tryz.func99,Tryz.ntmps99;go_wp2_with fail;change ð À _ _ _ (NA b w);have k:=x.fE (fc.gG _ _) x.N.gG;generalize hT:w.heap.size=T at*;generalize J:(NA b w).drew=w1 at*;let⟨i0,L,M,N,O⟩:=Γ apg;have p:=eZ<|Ë L<|Ë M<|Ë N O;refine o5 (λw'=>w'.cell? ⟨b,2,Á⟩=Â (Ã<|g.S st.d)/\w'.cell? ⟨b,3,Á⟩=Â (Ã<|Â ⟨T,0,Á⟩)/\w'.cell? ⟨g.q,8,Á⟩=Â g.r) [19] fx ?_;rw[J];rw[u];have P:Hid (w1.cell? ⟨b,2,Á⟩=Â (Ã<|Â ⟨g.q,0,Á⟩)/\w1.cell? ⟨b,3,Á⟩=Â (Ã<|Â ⟨T,0,Á⟩)/\w1.cell? ⟨g.q,8,Á⟩=Â g.r):=eZ ⟨by rw[<-u];exact k.r.r 2 _ U,k.r.r 3 _ U,k.I.r 8 _ j.out⟩;have r:=eZ u;iterate 15 apply tk P.out
 have Q:=k.M.tb.M;have a:=k.fE (fc.iw fh w1 #[Ã<|Â ⟨T,0,Á⟩] 149) (k.N.iw _ _ fp A λv f=>by simp at f;subst f;exact⟨Ï H.out.1.1 H.out.2.1,Q⟩);apply ia 15;intro K i;go_simp;refine i.out _ _ (λ_=>⟨by rw[<-r.out];exact a.r.r 2 _ U,a.r.r 3 _ U,a.I.r 8 _ j.out⟩) ?_;apply ia 16;intro K i;refine abm fL _ _ 159 fL Tryz.underlying159 p.out.1 p.out.2.1 p.out.2.2.1 p.out.2.2.2 fL a.C ⟨w1.heap.size,0,Á⟩ fL (Ŷ w1 _ _) U (by have:=H.out.2.2.1;unfold Ĳ;omega) (by have:=H.out.2.2.1;omega) (by have:=H.out.2.1;have:=a.M.tb.M;omega) A H.out.1.1 a.N ⟨Ï H.out.1.1 H.out.2.1,a.M.tb.M⟩ A ?_;intro v9 w9 t S V;obtain⟨a9,n9c,rfl⟩:=jv t.fg;have f:=a.r.C t.r<|iL a.C a.r A;have n:=a.I.C t.r<|iL a.C a.I A;refine i.out _ _ (λ_=>⟨by rw[<-r.out];exact f.r 2 _ U,f.r 3 _ U,n.r 8 _ j.out⟩) ?_;apply ia 17;intro K i;go_simp;refine i.out _ _ (λ_=>⟨by rw[<-r.out];exact f.r 2 _ U,f.r 3 _ U,n.r 8 _ j.out⟩) ?_;apply ia 18;intro K i;go_simp;refine i.out _ _ (λ_=>⟨by rw[<-r.out];exact f.r 2 _ U,f.r 3 _ U,n.r 8 _ j.out⟩) ?_;have cq8:=n.r 8 _ j.out;have fq8:=n.I 8;have cb4:=f.r 4 _ U;have fb4:=f.I 4;have cb0:=f.r 0 _ U;have fb0:=f.I 0;have cb3:=f.r 3 _ U;have W:=fq.G n f A;have hbq:¬b=g.q:=λe=>W e.symm;apply ia 19;intro K i;go_simp;apply i.out _ _ λy=>absurd A y;refine oZ fx ?_ _;have y:=eZ<|a.jT H.out.2.2.2.1 o H.out.1 H.out.2.1 H.out.2.2.2.2.1 t S V U;go_wp2_with fail;go_end0;exact⟨U,y.out.1,_,_,_,y.out.2⟩
end
section
variable{w':Í}{g:Gh}{nm:Option ù}{s:ByteArray}{f:PS}{d:PD}{Q:Nat}{k:Int}
def apk{lo:Nat}(h:w.ownsRow lo e 1 v n l)(c:i<=lo):w.ownsRow i e 1 v n l:= ⟨h.1,h.2.imp id λ⟨g,d,f,a,b,r⟩=>⟨g,d,f,a,Ï c b,r⟩⟩
def xD.fZ(l:xD m g d w):xC w.heap.size g.q ⟨d.M.c,d.Y⟩ w:= ⟨l.r.M,l.M,g.r,g.I d,l.r,apk l.I<|Ø _,λj a=>(l.I.lt j a).2,l.abt.ff (Ø _)<|Ü _⟩
theorem ln.abv(h:ln m g d w)(a:d.r=É->d.S=[]):qw w.heap.size (g.C d) d.I w:=by
 unfold Gh.C PD.I;split
 .rename_i e;have l:=h.r e;have b:=l.r.M;have c:=l.N;exact h.I.Ur Z l.fZ
 .rename_i e;have f:=a (by simpa using e);have:=h.I.I;grind [ã,qw.N]
def NB(b:Nat)(k:Int)(w:Í):Í:=(w.setCell ⟨b,2,Á⟩<|Ã<|Â ⟨w.heap.size,0,Á⟩).alloc<|ä #[Å È 0,Å È 0,Å È 0,Å È 0,Å È k,Å È 0,Å È 0,Å È 0,Ç Á 0 0] 161
def rdQ(s:ByteArray)(g:Gh)(d:PD)(Q:Nat)(nm:Option ù)(lD a:Int):List Ñ:=
 [Ä s,g.N,Ã<|Â ⟨Q,0,Á⟩,Ã<|g.Y d,Ã<|g.G d,Ã nm,Å È lD,Å È a]
structure FP(m b:Nat)(g:Gh)(d:PD)(Q:Nat)(k:Int)(s:ByteArray)(nm:Option ù)(lD Uz:Int)(w0 w:Í):Prop where
 S:fc (λi=>m<=i) w0 w
 M:jI m w
 r:fq b (rdQ s g d Q nm lD Uz) 153 w
 I:fq Q (Dv (PD.uG k).c<|Ç Á 0 0) 161 w
 N:qw Q (g.C d) d.I w
 C:w.ownsRow m 148 1 g.N (g.C d).length (oa<|g.C d)
def FP.fE{lD:Int}(h:FP m b g d Q k s nm lD c u w)(a:fc fh w w')(e:jI m w'):FP m b g d Q k s nm lD c u w':= ⟨h.S.C a λ_ _ x=>x.elim,e,h.r.C a id,h.I.C a id,h.N.C a λ_ _ x=>x.elim,im h.C a λ_ _=>id⟩
def gS.apl(h:gS m b g nm s f w)(k:Int)(l:f.d.r=É->f.d.S=[]):FP m b g f.d w.heap.size k s nm f.r f.I w (NB b k w):=by
 have n:(w.setCell ⟨b,2,Á⟩<|Ã<|Â ⟨w.heap.size,0,Á⟩).heap.size=w.heap.size:=fp
 have c:fc fh (w.setCell ⟨b,2,Á⟩<|Ã<|Â ⟨w.heap.size,0,Á⟩) (NB b k w):=fc.iw _ _ _ _;have o:fc (λk=>k=b) w (w.setCell ⟨b,2,Á⟩<|Ã<|Â ⟨w.heap.size,0,Á⟩):=qx h.r;have a:=o.C c λ_ _ x=>x.elim;refine⟨a.ff λk _ x=>by rw[x];exact h.S,?_,(h.r.fO 2 _).C c id,?_,(h.C.abv l).C a λi _ x=>Î ⟨_,_,_,Jx x h.r,Æ U⟩,im h.C.C a λj p x=>iL h.C.C h.r A<|by rw[p,x]⟩
 .exact h.a.C h.r h.S A _ _ fp A λv e=>by simp at e;rcases e with rfl|rfl|rfl|rfl<;>trivial
 .have:=fq.N (w.setCell ⟨b,2,Á⟩<|Ã<|Â ⟨w.heap.size,0,Á⟩) [Å È 0,Å È 0,Å È 0,Å È 0,Å È k,Å È 0,Å È 0,Å È 0,Ç Á 0 0] 161;rwa[n]at this
def apm(g:Gh)(d:PD)(Q:Nat)(v:Ñ):Gh:={a:=g.C d,q:=Q,t:=Q,B:=Q,tb:=[],N:=v,r:=Ç Á 0 0,b:=g.Y d}
theorem FP.jT{sb:ByteArray}(h:FP m b g f.d Q k s nm f.r f.I w u)(o:m<=b)(p:m<=Q)(S:f.r=0)(y:sb.size<=10)(B:gN sb=s6 k) (a:nX u m 148 1 g.N (g.C f.d).length (oa<|g.C f.d) 1 [Ã<|Â ⟨Q,0,Á⟩] v W) (C:jI m W) (D:nA m W.heap.size v) (l:jX=((W.setCell ⟨b,1,Á⟩ v).setCell ⟨b,4,Á⟩<|Ã<|Â ⟨Q,0,Á⟩).setCell ⟨b,0,Á⟩ (Ä sb)): fc (λi=>m<=i) w jX/\gS m b (apm g f.d Q v) nm sb {f with C:=s6 k,d:=f.d.vW k} jX:=by
 have c:=h.r.C a.r<|iL h.C h.r A;have n:=h.I.C a.r<|iL h.C h.I A;have E:=h.N.C a.r λi _ x=>by let⟨e,z⟩:=nW h.C x;exact Î ⟨_,_,_,z,Î U⟩
 have F:fc (λk=>k=b) W (W.setCell ⟨b,1,Á⟩ v):=qx c;have q:=c.fO 1 v;have G:fc (λk=>k=b) (W.setCell ⟨b,1,Á⟩ v) ((W.setCell ⟨b,1,Á⟩ v).setCell ⟨b,4,Á⟩<|Ã<|Â ⟨Q,0,Á⟩):=qx q;have r:=q.fO 4<|Ã<|Â ⟨Q,0,Á⟩;have H:fc (λk=>k=b) ((W.setCell ⟨b,1,Á⟩ v).setCell ⟨b,4,Á⟩<|Ã<|Â ⟨Q,0,Á⟩) jX:=by rw[l];exact qx r
 have t:=r.fO 0<|Ä sb;rw[<-l]at t;have z:=(F.fj G).fj H;have I:=n.C z λx=>fq.G n c A x;have J:=E.C z λi _ x=>Î ⟨_,_,_,Jx x c,Æ U⟩;have K:=im a.fg z λj L x=>iL a.fg c A (by rw[L,x]);have M:Q<(W.setCell ⟨b,1,Á⟩ v).heap.size:=by simpa using n.M
 have N:jI m jX:=by rw[l];refine((C.r _ D).r _ ?_).r _ trivial;exact⟨p,M⟩
 have O:(g.C f.d++[Q]).length=(g.C f.d).length+1:=fp
 have P:oa (g.C f.d++[Q])=oa (g.C f.d)++[Ã<|Â ⟨Q,0,Á⟩]:=by simp[oa]
 refine⟨(h.S.C a.r λi _ x=> ?_).C z λi _ x=> ?_,o,N,t,y,B,⟨?_,J,λ_=>⟨p,Ü _,U,I,?_,pN.M _ _ _,(λe=>by cases e),λ_=>⟨rfl,rfl⟩⟩,(λe=>by cases e)⟩,λe=> ?_,Æ rfl⟩
 .exact(h.C.lt i x).1
 .rwa[x]
 .show jX.ownsRow m 148 1 v (g.C f.d++[Q]).length (oa<|g.C f.d++[Q]);rwa[O,P]
 .exact⟨U,Æ ⟨U,U⟩⟩
 .grind
def apn:zo f 0=Á:=rfl
def apo(h:gS m b g nm s f w)(r:f.r=0)(t:f.d.r=É->f.d.S=[])(u:f.d.I.length<=100000)(k:Int): Ö À 96 #[Ã<|Â ⟨b,0,Á⟩,Å È k] w λe w'=>match zo f k with
  |none=>e=Ê (þ É)/\w'=w
  |some c=>e=Ê (þ Ì)/\tg m b c w w':=by
 by_cases l:k=0
 .subst l;rw[apn];go_enter Ż,ŷ;go_wp2;go_ret;exact⟨U,U⟩
 have P:(k==0)=É:=by rwa[beq_eq_false_iff_ne]
 have e:zo f k=Â {f with C:=s6 k,d:=f.d.vW k}:=if_neg l;rw[e];have Q:=h.r.r 2 _ U;have S:=h.r.I 2;have V:=h.r.M;have p:=h.apl k t;have x:(g.C f.d).length<=100000:=by rwa[h.C.G]
 have y:=h.S;have z:m<=w.heap.size:=Z
 have H:=eZ<|Ë y<|Ë z<|Ë x r;go_enter Ż,ŷ;go_wp2_with fail;change ð À _ _ _ (NB b k w);have i:=p.fE (fc.gG _ _) p.M.gG;generalize W:w.heap.size=T at*;generalize B:(NB b k w).drew=w1 at*;let⟨X,C,D,E,F⟩:=Γ aph;have j:=eZ<|Ë C<|Ë D<|Ë E F;refine o5 (λw'=>w'.cell? ⟨b,1,Á⟩=Â g.N/\w'.cell? ⟨b,2,Á⟩=Â (Ã<|Â ⟨T,0,Á⟩)) [13] fx ?_;rw[B];have G:Hid (w1.cell? ⟨b,1,Á⟩=Â g.N/\w1.cell? ⟨b,2,Á⟩=Â (Ã<|Â ⟨T,0,Á⟩)):=eZ ⟨i.r.r 1 _ U,i.r.r 2 _ U⟩;iterate 9 apply tk G.out
 have I:=i.I.M;have a:=i.fE (fc.iw fh w1 #[Ã<|Â ⟨T,0,Á⟩] 148) (i.M.iw _ _ fp A λv c=>by simp at c;subst c;exact⟨H.out.2.1,I⟩);apply ia 9;intro K c;go_simp;apply c.out _ _ λ_=>⟨a.r.r 1 _ U,a.r.r 2 _ U⟩;apply ia 10;intro K c;refine abm fL _ _ 61 fL Tryz.underlying61 j.out.1 j.out.2.1 j.out.2.2.1 j.out.2.2.2 fL a.C ⟨w1.heap.size,0,Á⟩ fL (Ŷ w1 _ _) U (by have:=H.out.2.2.1;unfold Ĳ;omega) (by have:=H.out.2.2.1;omega) (by have:=H.out.2.1;have:=a.I.M;omega) A (Ü _) a.M ⟨H.out.2.1,a.I.M⟩ A ?_;intro Y w9 n J L;obtain⟨a9,n9c,rfl⟩:=jv n.fg;have v:=a.r.C n.r<|iL a.C a.r A;apply c.out _ _ λ_=>⟨v.r 1 _ U,v.r 2 _ U⟩;apply ia 11;intro K c;go_simp;apply c.out _ _ λ_=>⟨v.r 1 _ U,v.r 2 _ U⟩;apply ia 12;intro K c;go_simp;apply c.out _ _ λ_=>⟨v.r 1 _ U,v.r 2 _ U⟩;have cb1:=v.r 1 _ U;have fb1:=v.I 1;have cb4:=v.r 4 _ U;have fb4:=v.I 4;have cb0:=v.r 0 _ U;have fb0:=v.I 0;have cb2:=v.r 2 _ U;apply ia 13;intro K c;go_simp;apply c.out _ _ λo=>absurd A o;refine oZ fx ?_ _;have M:=eZ λo q N=>a.jT (sb:=o) H.out.1 H.out.2.1 H.out.2.2.2 q N n J L U;go_wp2_with (go_at_call 145;refine(ao8 _ _).mono ?_;rintro e w' ⟨⟨o,rfl,N,O⟩,q⟩;subst w');go_ret;have q:=M.out o N O;exact⟨U,q.1,_,_,_,q.2⟩
end
def lr(i:Nat)(z:Int):Prop:=match i with
 |0=>0<=z/\z<8
 |1=>0<=z/\z<8
 |2=>0<=z/\z<1000000
 |3=>0<=z/\z<1000000
 |4=>1<=z/\z<10
 |5=>-1<=z/\z<1000000
 |6=>-1<=z/\z<1000000
 |7=>0<=z/\z<16
 |_=>True
structure FQ(n m:Nat)(c:List Int):Prop where
 C:c.length=n
 r:∀i,i<m->lr i (c.getD i 0)
theorem FQ.I(h:FQ n m zQ)(i:Nat)(z:Int)(b:i<m->lr i z):FQ n m (zQ.set i z):=by refine⟨by simp[h.C],λj a=> ?_⟩;have:=h.r j a;grind
def abw(h:i<zQ.length)(z:Int):(zQ.set i z).getD i 0=z:=by simp[Ĕ,h]
structure Be(t:PT):Prop where
 c:FQ 5 4 t.c
 p:t.p.size<=40/\∀c∈t.p.data.toList,zg c=Ì
structure Dy(r:PR):Prop where
 c:FQ 8 8 r.c
 tx:∀t∈r.tx,Be t
 n:r.tx.length<=8
structure kE(d:PD):Prop where
 N:d.r=É->d.S=[]/\d.C=É
 b:d.C=É->d.M.tx=[]
 C:d.I.length<=24
 I:d.Y.length<=8
 S:∀r∈d.S,Dy r
 M:d.r=Ì->FQ 8 8 d.M.c
 a:d.r=Ì->∀t∈d.M.tx,Be t
 Y:d.C=Ì->Be d.N
structure jB(B:ByteArray)(k:Nat)(st:PS):Prop where
 M:0<=st.r
 r:st.r<=5
 C:0<=st.I
 I:st.I<=40
 e:0<st.r->(st.M=86\/st.M=87\/st.M=110\/st.M=107)/\st.d.r=Ì/\0<=st.d.G st.M/\st.d.G st.M<10^(6-st.r.toNat)
 d:kE st.d
 c:st.d.r=Ì\/st.C=[82]
 b:82∈st.C->st.d.I.length<24
 N:84∈st.C\/80∈st.C->st.d.C=Ì
 a:66∈st.C->st.d.C=É
 S:80∈st.C->st.C=[80]/\st.r=0
 Y:80∈st.C->st.I.toNat<=k/\∀j (h:j<B.size),k-st.I.toNat<=j->j<k->zg B[j]=Ì
section
variable{d:PD}{st o:PS}
def kE.abx(h:kE d)(on:d.r=Ì):∀t∈d.Y,Be t:=by
 unfold PD.Y;split
 .rename_i e;intro t a;rcases æ.1 a with q|q
  .exact h.a on t q
  .rw[Ŀ]at q;rw[q];exact h.Y e
 .exact h.a on
def kE.G(h:kE d):∀r∈d.I,Dy r:=by
 unfold PD.I;split
 .rename_i e;intro r a;rcases æ.1 a with q|q
  .exact h.S r q
  .rw[Ŀ]at q;rw[q];exact⟨h.M e,h.abx e,h.I⟩
 .exact h.S
def zq(d:PD):d.I.length=d.S.length+(if d.r then 1 else 0):=by unfold PD.I;split<;>simp
def Jy(d:PD):d.Y.length=d.M.tx.length+(if d.C then 1 else 0):=by unfold PD.Y;split<;>simp
def kE.r(h:kE d)(i:Nat)(z:Int)(a:lr i z):kE (d.vV i z):= ⟨h.N,h.b,by have:=h.C;rw[zq]at this|-;exact this,by have:=h.I;rw[Jy]at this|-;exact this,h.S,λe=>(h.M e).I i z λ_=>a,h.a,h.Y⟩
def kE.uF(h:kE d)(i:Nat)(z:Int)(a:i<4->lr i z):kE (d.uF i z):= ⟨h.N,h.b,by have:=h.C;rw[zq]at this|-;exact this,by have:=h.I;rw[Jy]at this|-;exact this,h.S,h.M,h.a,λe=>⟨(h.Y e).c.I i z a,(h.Y e).p⟩⟩
def kE.kP(h:kE d)(i:Nat)(z:Int)(a:lr i z):kE (d.kP i z):=by
 unfold PD.kP;split
 .exact h.uF i z λ_=>a
 .exact h.r i z a
def kE.r7(h:kE d)(p:ByteArray)(a:p.size<=40/\∀c∈p.data.toList,zg c=Ì):kE (d.r7 p):= ⟨h.N,h.b,by have:=h.C;rw[zq]at this|-;exact this,by have:=h.I;rw[Jy]at this|-;exact this,h.S,h.M,h.a,λe=>⟨(h.Y e).c,a⟩⟩
def apq:Be PD.zk:=⟨⟨U,λi a=>by
 match i,a with
 |0,_=>exact⟨A,A⟩
 |1,_=>exact⟨A,A⟩
 |2,_=>exact⟨A,A⟩
 |3,_=>exact⟨A,A⟩⟩,⟨A,λc b=>by cases b⟩⟩
def kE.pd(h:kE d)(on:d.r=Ì)(a:d.Y.length<8):kE d.pd:= ⟨(λe=>by have:d.r=É:=e;rw[on]at this;cases this),(λe=>by cases e),by have:=h.C;rw[zq]at this|-;exact this,by rwa[Jy],h.S,λe=>h.M e,λ_=>h.abx on,λ_=>apq⟩
def kE.vW(h:kE d)(q:Int)(a:1<=q/\q<10)(b:d.I.length<24):kE (d.vW q):= ⟨(λe=>by cases e),λ_=>rfl,by rwa[zq],by show(0:Nat)<=8;decide,h.G,λ_=>⟨U,λi c=>by
   match i,c with
   |0,_=>exact⟨by show(0:Int)<=0;decide,by show(0:Int)<8;decide⟩
   |1,_=>exact⟨by show(0:Int)<=0;decide,by show(0:Int)<8;decide⟩
   |2,_=>exact⟨by show(0:Int)<=0;decide,by show(0:Int)<1000000;decide⟩
   |3,_=>exact⟨by show(0:Int)<=0;decide,by show(0:Int)<1000000;decide⟩
   |4,_=>exact a
   |5,_=>exact⟨by show(-1:Int)<=0;decide,by show(0:Int)<1000000;decide⟩
   |6,_=>exact⟨by show(-1:Int)<=0;decide,by show(0:Int)<1000000;decide⟩
   |7,_=>exact⟨by show(0:Int)<=0;decide,by show(0:Int)<16;decide⟩⟩,(λ_ t f=>by cases f),(λe=>by cases e)⟩
def kE.fO(h:kE d)(a z:Int)(b:(a=86->lr 5 z)/\(a=87->lr 6 z)/\(a=120->lr 0 z)/\(a=121->lr 1 z)/\(a=110->lr 2 z)/\(a=107->lr 3 z)/\(a=115->lr 7 z)):kE (d.fO a z):=by
 let⟨c,e,f,g,i,j,k⟩:=b;unfold PD.fO;repeat' split
 .exact h.r 5 z<|c ‹_›
 .exact h.r 6 z<|e ‹_›
 .exact h.kP 0 z<|f ‹_›
 .exact h.kP 1 z<|g ‹_›
 .exact h.kP 2 z<|i ‹_›
 .exact h.kP 3 z<|j ‹_›
 .exact h.r 7 z<|k ‹_›
 .exact h
def UB(d:PD)(a z:Int):(d.fO a z).r=d.r/\(d.fO a z).C=d.C/\(d.fO a z).I.length=d.I.length:=by
 unfold PD.fO PD.kP;repeat' split
 all_goals exact⟨U,U,(zq _).trans (zq d).symm⟩
theorem UC(h:kE d)(on:d.r=Ì)(a z:Int)(f:a=86\/a=87\/a=110\/a=107):(d.fO a z).G a=z:=by
 have g:=(h.M on).C;have b:∀i,i<4->(d.kP i z).zn i=z:=λi j=>by
  unfold PD.kP;split
  .rename_i e;have k:=(h.Y e).c.C;show(if d.C=Ì then(d.N.c.set i z).getD i 0 else d.M.c.getD i 0)=z;grind
  .rename_i e;show(if d.C=Ì then d.N.c.getD i 0 else(d.M.c.set i z).getD i 0)=z;grind
 rcases f with rfl|rfl|rfl|rfl
 .exact abw Z z
 .exact abw Z z
 .exact b 2 A
 .exact b 3 A
def NC:∀(l:List UInt8) (c:UInt8),Ú l c<l.length
 |[],_=>by show(-1:Int)<0;decide
 |a::l,c=>by
  have:=NC l c;unfold Ú;split
  .simp
  .split<;>(simp;omega)
def UD:∀(l:List UInt8) (c:UInt8),c∈l->0<=Ú l c
 |[],_,h=>by cases h
 |a::l,c,h=>by
  unfold Ú;split
  .decide
  .rename_i e;rcases List.mem_cons.1 h with q|q
   .subst q;simp at e
   .have:=UD l c q;split
    .rename_i b;rw[beq_iff_eq]at b;omega
    .omega
def aby{l:List UInt8}(h:c.toNat∈l.map UInt8.toNat):c.toNat.toUInt8∈l:=by let⟨x,a,b⟩:=à.1 h;rw[<-b];simpa using a
def abz(h:oO c=Ì):0<=Ú [97,98,99,100,101,102,103,104] c.toNat.toUInt8:=by rw[abj]at h;refine UD _ _<|aby ?_;simp;omega
def apr(h:(iT c||(decide (97<=c)&&decide (c<=102)))=Ì):0<=Ú [48,49,50,51,52,53,54,55,56,57,97,98,99,100,101,102] c.toNat.toUInt8:=by simp only[Bool.or_eq_true,Bd,Bool.and_eq_true,decide_eq_true_eq]at h;refine UD _ _<|aby ?_;simp;omega
theorem aps(a:mF h c=Ì):(h=86->lr 5 (ll h c))/\(h=87->lr 6 (ll h c))/\(h=120->lr 0 (ll h c))/\(h=121->lr 1 (ll h c))/\(h=110->lr 2 (ll h c))/\(h=107->lr 3 (ll h c))/\(h=115->lr 7 (ll h c)):=by
 unfold mF at a;have b:(c==104||iT c)=Ì->-1<=(if c=104 then-1 else(c-48)%256)/\(if c=104 then(-1:Int)else(c-48)%256)<1000000:=λq=>by split<;>omega
 have d:iT c=Ì->0<=(if c=104 then-1 else(c-48)%256)/\(if c=104 then(-1:Int)else(c-48)%256)<1000000:=λq=>by rw[Bd]at q;grind
 refine⟨?_,?_,?_,?_,?_,?_,?_⟩<;>rintro rfl
 .exact b a
 .exact b a
 .exact⟨abz a,NC _ _⟩
 .exact⟨abz a,NC _ _⟩
 .exact d a
 .exact d a
 .exact⟨apr a,NC _ _⟩
theorem apt{lD:Int}(a:iT c=Ì)(b:0<=h)(d:0<lD)(e:lD<=5)(f:h<10^(6-lD.toNat)):0<=qZ h c/\qZ h c<10^(6-(lD-1).toNat)/\qZ h c<1000000:=by
 rw[Bd]at a;have g:h<100000->qZ h c=h*10+(c-48):=λq=>by unfold qZ;rw[ţ (h*10) ⟨Z,Z⟩,ţ _ ⟨Z,Z⟩];omega
 have i:lD=1\/lD=2\/lD=3\/lD=4\/lD=5:=Z
 grind
def kE.lD(h:kE d)(a z:Int)(c:a=86\/a=87\/a=110\/a=107)(b:0<=z/\z<1000000):kE (d.fO a z):= h.fO a z ⟨λ_=>⟨Z,b.2⟩,λ_=>⟨Z,b.2⟩,λe=>by omega,λe=>by omega,λ_=>b,λ_=>b,λe=>by omega⟩
def jB.apu(h:jB B k st)(e:0<st.r)(j:iT c=Ì):jB B (k+1) (Ju st c):=by
 let⟨a,b,l,m⟩:=h.e e;let⟨f,n,o⟩:=apt j l e h.r m;let⟨g,i,p⟩:=UB st.d st.M<|qZ (st.d.G st.M) c;refine⟨by show 0<=st.r-1;omega,by have:=h.r;show st.r-1<=5;omega,h.C,h.I,λ_=>⟨a,g.trans b,?_⟩,h.d.lD _ _ a ⟨f,o⟩,?_,λq=> ?_,λq=>i.trans<|h.N q,λq=>i.trans<|h.a q,λq=> ?_,λq=> ?_⟩
 .show 0<=(st.d.fO st.M<|qZ (st.d.G st.M) c).G st.M/\(st.d.fO st.M<|qZ (st.d.G st.M) c).G st.M<10^(6-(st.r-1).toNat);rw[UC h.d b _ _ a];exact⟨f,n⟩
 .exact Æ<|g.trans b
 .show(st.d.fO st.M<|qZ (st.d.G st.M) c).I.length<24;rw[p];exact h.b q
 .have:=(h.S q).2;omega
 .have:=(h.S q).2;omega
def jB.wH(h:jB B k st):jB B k {st with r:=0}:= ⟨Ŗ _,by show(0:Int)<=5;decide,h.C,h.I,(λq=>by cases q),h.d,h.c,h.b,h.N,h.a,λq=>⟨(h.S q).1,rfl⟩,h.Y⟩
theorem jB.on(h:jB B k st)(a:82∉st.C):st.d.r=Ì:=by rcases h.c with q|q;all_goals grind
def kE.apv(h:kE d)(a:d.C=Ì):d.r=Ì:=by
 cases e:d.r with
 |true=>rfl
 |false=>have:=(h.N e).2;rw[a]at this;cases this
theorem abA(h:jB B k st)(b:st.r=0)(on:st.d.r=Ì)(a:qp st c=Â o):jB B (k+1) o:=by
 unfold qp at a;split at a
 .rename_i e;cases a;refine⟨h.M,h.r,h.C,h.I,λq=> ?_,h.d,Î U,λ_=> ?_,λq=> ?_,λq=> ?_,λq=> ?_,λq=> ?_⟩
  .grind
  .rw[zq,on];exact e.2
  .simp at q
  .simp at q
  .simp at q
  .simp at q
 .split at a
  .rename_i e;cases a;refine⟨h.M,h.r,h.C,h.I,λq=> ?_,h.d.pd on e.2.2,Æ on,λq=> ?_,λ_=>rfl,λq=> ?_,λq=> ?_,λq=> ?_⟩;all_goals grind
  .cases a
def apw(q:Int):82∉s6 q/\84∉s6 q/\80∉s6 q:=by
 unfold s6;repeat' split
 all_goals decide
theorem apx(q:Int):82∉pM q/\84∉pM q/\66∉pM q/\(80∈pM q->pM q=[80]):=by unfold pM;grind
def apy(c:Int):0<=uE c/\uE c<10:=by
 unfold uE;repeat' split
 all_goals decide
theorem apz(h:jB B k st)(i:st.r=0)(f:82∈st.C)(a:zo st (uE c)=Â o):jB B (k+1) o:=by
 unfold zo at a;split at a
 .cases a
 .rename_i e;cases a;let⟨g,j,b⟩:=apw<|uE c;have l:=apy c;refine⟨h.M,h.r,h.C,h.I,λq=> ?_,h.d.vW _ Z<|h.b f,Æ U,λq=>absurd q g,λq=> ?_,λ_=>rfl,λq=>absurd q b,λq=>absurd q b⟩;all_goals grind
theorem apA(h:jB B k st)(c:st.r=0)(q:Int)(f:84∈st.C)(a:zp st q=Â o):jB B (k+1) o:=by
 unfold zp at a;split at a
 .cases a
 .cases a;let⟨g,m,i,l⟩:=apx q;have b:=h.N<|Æ f;refine⟨h.M,h.r,Ŗ _,by show(0:Int)<=40;decide,λq=> ?_,h.d.uF 4 q λe=>by omega,Æ<|h.d.apv b,λq=>absurd q g,λ_=>b,λq=>absurd q i,λq=>⟨l q,c⟩,λ_=>⟨Ø _,λj _ n p=> ?_⟩⟩;all_goals grind
theorem apB{a:Int}(h:0<lL a c):(a=86\/a=87)/\lL a c=1/\iT c=Ì/\c≠48\/(a=110\/a=107)/\lL a c=5/\iT c=Ì/\c≠48:=by unfold lL at h|-;grind
theorem abB(h:jB B k st)(on:st.d.r=Ì){want:Int}(l:mF want c=Ì)(r:List Int)(a:∀x∈r,x∈st.C)(g:80∉r):jB B (k+1) {pe st want c with C:=r}:=by
 let⟨m,i,n⟩:=UB st.d want<|ll want c;have j:=aoZ want c;refine⟨j.1,j.2,h.C,h.I,λq=> ?_,h.d.fO _ _<|aps l,Æ<|m.trans on,λq=> ?_,λq=>i.trans<|h.N<|q.imp (a _)<|a _,λq=>i.trans<|h.a<|a _ q,λq=>absurd q g,λq=>absurd q g⟩
 .have q:=q;show(want=86\/want=87\/want=110\/want=107)/\(st.d.fO want<|ll want c).r=Ì/\0<=(st.d.fO want<|ll want c).G want/\(st.d.fO want<|ll want c).G want<10^(6-(lL want c).toNat);rcases apB q with⟨o,b,e,p⟩|⟨o,b,e,p⟩
  .have f:want=86\/want=87\/want=110\/want=107:=Z
   rw[UC h.d on _ _ f,b];rw[Bd]at e;have:ll want c=(c-48)%256:=by unfold ll;grind
   grind
  .have f:want=86\/want=87\/want=110\/want=107:=Z
   rw[UC h.d on _ _ f,b];rw[Bd]at e;have:ll want c=(c-48)%256:=by unfold ll;grind
   grind
 .show(st.d.fO want<|ll want c).I.length<24;rw[n];exact h.b<|a _ q
def apC{x:UInt8}(h:x∈(B.extract i b).data.toList):∃j,∃e:j<B.size,i<=j/\j<b/\B[j]=x:=by rw[ĩ,ı,Ğ]at h;obtain⟨c,d,rfl⟩:=ē h;simp only[ŋ,List.length_drop,Ē]at d;have f:B.data.size=B.size:=rfl;exact⟨i+c,Z,Z,Z,by simp[ą]⟩
theorem apD(h:jB B k st)(l:st.r=0)(F:k<B.size)(a:jH B k st (B[k].toNat:Int)=Â o):jB B (k+1) o:=by
 unfold jH at a;split at a
 .rename_i e;exact abA h l (h.on<|by rw[e];decide) a
 .rename_i t p e;have c:t∈st.C:=by rw[e];exact List.mem_cons_self ..
  split at a
  .rename_i f;subst f;exact apz h l c a
  rename_i G;have i:st.d.r=Ì:=by rcases h.c with q|q;all_goals grind
  split at a
  .rename_i f;subst f;split at a
   .rename_i u;cases a;have n:=h.a c;have b:st.d.Y.length<8:=by rw[Jy,h.d.b n,n];decide
    have v:jB B k {st with C:=[84],d:=st.d.pd}:=by refine⟨h.M,h.r,h.C,h.I,λq=> ?_,h.d.pd i b,Æ i,λq=> ?_,λ_=>rfl,λq=> ?_,λq=> ?_,λq=> ?_⟩;all_goals grind
    exact abB (want:=120) v i u [84] (λx b=>b) A
   .exact abA h l i a
  split at a
  .rename_i f;subst f;exact apA h l _ c a
  split at a
  .rename_i f;subst f;let⟨H,w⟩:=h.Y c;have n:=h.N<|Î c;have y:=(h.S c).1;have I:=h.C;have J:=h.I;split at a
   .cases a;have z:p=[]:=by rw[y]at e;cases e;rfl
    subst z;refine⟨h.M,h.r,h.C,h.I,λq=> ?_,h.d.r7 _ ⟨by rw[ĉ];omega,λx b=> ?_⟩,Æ i,λq=> ?_,λq=> ?_,λq=> ?_,λq=> ?_,λq=> ?_⟩
    .grind
    .obtain⟨j,r,m,s,rfl⟩:=apC b;exact w j r m s
    .cases q
    .grind
    .cases q
    .cases q
    .cases q
   .split at a
    .cases a
    .rename_i g;cases a;have K:=λq=>g<|Æ q;have C:=λq=>g<|Î q;refine⟨h.M,h.r,by show 0<=st.I+1;omega,by show st.I+1<=40;omega,h.e,h.d,h.c,h.b,h.N,h.a,h.S,λ_=>⟨by show(st.I+1).toNat<=k+1;omega,λj r m s=> ?_⟩⟩;have m:k+1-(st.I+1).toNat<=j:=m;by_cases D:j=k
     .subst D;unfold zg;simpa using C
     .grind
  split at a
  .rename_i L M N E;cases a;refine abB h i E p (λx b=>by rw[e];exact ď _ b) λq=> ?_;have:=(h.S<|by rw[e];exact ď _ q).1;grind
  .cases a
def abC(h:jB B k st)(b:k<B.size)(a:qt B k st (B[k].toNat:Int)=Â o):jB B (k+1) o:=by
 unfold qt at a;split at a
 .rename_i e;cases a;exact h.apu e.1 e.2
 .exact apD h.wH U b a
def UE(B:ByteArray):jB B 0 td:= ⟨A,A,A,A,(λq=>by cases q),⟨λ_=>⟨rfl,rfl⟩,λ_=>rfl,A,A,(λr e=>by cases e),(λe=>by cases e),(λe=>by cases e),(λe=>by cases e)⟩,Î rfl,λ_=>by decide,(λq=>by rcases q with q|q<;>simp[td]at q),(λq=>by simp[td]at q),(λq=>by simp[td]at q),(λq=>by simp[td]at q)⟩
def Jz:∀(f k:Nat) (st:PS),jB B k st->k<=B.size->jB B (qu B f k st).1 (qu B f k st).2/\(qu B f k st).1<=B.size
 |0,k,st,h,hk=>⟨h,hk⟩
 |f+1,k,st,h,hk=>by
  unfold qu;split
  .rename_i a;split
   .exact⟨h,hk⟩
   .rename_i o e;exact Jz f (k+1) o (abC h a e) Z
  .exact⟨h,hk⟩
end
section
variable{g:Gh}{st:PS}
def abD{d:PD}(i:Nat)(z:Int):g.M (d.kP i z)=g.M d:=by unfold PD.kP Gh.M;split<;>simp[PD.uF,PD.vV, *]
def abE{d:PD}(h:i=2\/i=3)(z:Int):g.Dw (d.kP i z) (if i=2 then 110 else 107)=⟨g.M d,i,Á⟩:=by
 rcases h with rfl|rfl
 .show(⟨g.M<|d.kP 2 z,2,Á⟩:ù)=_;rw[abD]
 .show(⟨g.M<|d.kP 3 z,3,Á⟩:ù)=_;rw[abD]
def abF{d:PD}(on:d.r=Ì):g.S d=Â ⟨g.q,0,Á⟩:=if_pos on
def apE{d:PD}(on:d.r=Ì):g.G d=Â ⟨g.M d,0,Á⟩:=if_pos on
def abG(h:gS m b g O B st w)(j:st.r=0)(on:st.d.r=Ì)(a c:Int)(v:mF a c=Ì): Ö À 100 #[Ã<|Â ⟨b,0,Á⟩,Å ŧ a,Å ŧ c] w λe u=>e=Ê (è #[])/\tg m b (pe st a c) w u:=by
 have G:w.cell? ⟨b,2,Á⟩=Â (Ã<|g.S st.d):=h.r.r 2 _ U;have x:w.cell? ⟨b,4,Á⟩=Â (Ã<|g.G st.d):=h.r.r 4 _ U;rw[abF on]at G;rw[apE on]at x;have H:=eZ<|Ë h v;clear h v;generalize y:g.M st.d=tm at x;have n:=eZ y;clear y;by_cases o:a=86
 .subst o;have k:=eZ (show pe st 86 c={st with r:=xE c 2,M:=86,d:=st.d.vV 5 (iR c)}from by unfold pe;rw[<-Nx H.out.2 (Æ ⟨Æ U,U⟩),Nz A];rfl);go_enter ô,ï;go_wp2_with (go_at_call 147;refine(Nw H.out.1 (FL H.out.1.C H.out.1.r on (i:=5) A) j on _ _ 86 A A λz=>rfl).mono ?_;rintro e u ⟨rfl,l⟩);go_end0;exact⟨U,by rwa[k.out]⟩
 have I:(a==86)=É:=by rwa[beq_eq_false_iff_ne]
 by_cases p:a=87
 .subst p;have k:=eZ (show pe st 87 c={st with r:=xE c 2,M:=87,d:=st.d.vV 6 (iR c)}from by unfold pe;rw[<-Nx H.out.2 (Æ ⟨Î U,U⟩),Nz A];rfl);go_enter ô,ï;go_wp2_with (go_at_call 147;refine(Nw H.out.1 (FL H.out.1.C H.out.1.r on (i:=6) A) j on _ _ 87 A A λz=>rfl).mono ?_;rintro e u ⟨rfl,l⟩);go_end0;exact⟨U,by rwa[k.out]⟩
 have J:(a==87)=É:=by rwa[beq_eq_false_iff_ne]
 by_cases q:a=120
 .subst q;have f:=eZ ((by have:=FM H.out.1.C H.out.1.r on (i:=0) A;rw[n.out]at this;exact this:re m b g st.d tm 0 (λz=>st.d.kP 0 z) (st.d.zn 0) w));have C:=f.out.C;have D:=f.out.I;have E:=f.out.r;go_enter ô,ï;go_wp2_with fail;go_region_with (go_at_call 146;refine(Jv _ _ _).mono ?_;rintro e u ⟨rfl,F⟩;subst u);all_goals go_end0
  all_goals exact⟨U,Uy H.out.1 f.out j (Ny A) U⟩
 have K:(a==120)=É:=by rwa[beq_eq_false_iff_ne]
 by_cases r:a=121
 .subst r;have f:=eZ ((by have:=FM H.out.1.C H.out.1.r on (i:=1) A;rw[n.out]at this;exact this:re m b g st.d tm 1 (λz=>st.d.kP 1 z) (st.d.zn 1) w));have C:=f.out.C;have D:=f.out.I;have E:=f.out.r;go_enter ô,ï;go_wp2_with fail;go_region_with (go_at_call 146;refine(Jv _ _ _).mono ?_;rintro e u ⟨rfl,F⟩;subst u);all_goals go_end0
  all_goals exact⟨U,Uy H.out.1 f.out j (Ny A) U⟩
 have L:(a==121)=É:=by rwa[beq_eq_false_iff_ne]
 by_cases s:a=110
 .subst s;have k:=eZ (show pe st 110 c={st with r:=xE c 6,M:=110,d:=st.d.kP 2 (iR c)}from by unfold pe;rw[<-Nx H.out.2 (Î ⟨Æ U,U⟩),Nz A];rfl);go_enter ô,ï;go_wp2_with (go_at_call 147;refine(Nw H.out.1 ((by have:=FM H.out.1.C H.out.1.r on (i:=2) A;rw[n.out]at this;exact this:re m b g st.d tm 2 (λz=>st.d.kP 2 z) (st.d.zn 2) w)) j on _ _ 110 A A λz=>(by have:=abE (g:=g) (d:=st.d) (i:=2) (Æ U) z;rwa[n.out]at this)).mono ?_;rintro e u ⟨rfl,l⟩);go_end0;exact⟨U,by rwa[k.out]⟩
 have M:(a==110)=É:=by rwa[beq_eq_false_iff_ne]
 by_cases t:a=107
 .subst t;have k:=eZ (show pe st 107 c={st with r:=xE c 6,M:=107,d:=st.d.kP 3 (iR c)}from by unfold pe;rw[<-Nx H.out.2 (Î ⟨Î U,U⟩),Nz A];rfl);go_enter ô,ï;go_wp2_with (go_at_call 147;refine(Nw H.out.1 ((by have:=FM H.out.1.C H.out.1.r on (i:=3) A;rw[n.out]at this;exact this:re m b g st.d tm 3 (λz=>st.d.kP 3 z) (st.d.zn 3) w)) j on _ _ 107 A A λz=>(by have:=abE (g:=g) (d:=st.d) (i:=3) (Î U) z;rwa[n.out]at this)).mono ?_;rintro e u ⟨rfl,l⟩);go_end0;exact⟨U,by rwa[k.out]⟩
 have l:(a==107)=É:=by rwa[beq_eq_false_iff_ne]
 by_cases k:a=115
 .subst k;have f:=eZ<|FL H.out.1.C H.out.1.r on (i:=7) A;have C:=f.out.C;have D:=f.out.I;have E:=f.out.r;go_enter ô,ï;go_wp2_with fail;go_region_with (go_at_call 146;refine(Jv _ _ _).mono ?_;rintro e u ⟨rfl,F⟩;subst u);all_goals go_end0
  all_goals exact⟨U,Uy H.out.1 f.out j (Ny A) U⟩
 have f:(a==115)=É:=by rwa[beq_eq_false_iff_ne]
 go_enter ô,ï;go_wp2;go_end0;refine⟨U,fc.fV _ _,g,O,B,?_⟩;have e:pe st a c={st with M:=a}:=by unfold pe PD.fO;rw[Ny ⟨Z,Z⟩,if_neg o,if_neg p,if_neg q,if_neg r,if_neg s,if_neg t,if_neg k,<-j]
 rw[e];exact H.out.1.Uw a j
end
section
variable{g:Gh}{s:ByteArray}{st:PS}{d:PD}
def ND(m b:Nat)(o:Option PS)(e:Ending)(w u:Í):Prop:=
 (o=Á/\e=Ê (þ É)/\u=w)\/∃a,o=Â a/\e=Ê (þ Ì)/\tg m b a w u
def abH{o:Option PS}{e:Ending}(h:match o with
 |none=>e=Ê (þ É)/\u=w
 |some a=>e=Ê (þ Ì)/\tg m b a w u):ND m b o e w u:=by
 cases o with
 |none=>exact Æ ⟨U,h⟩
 |some a=>exact Î ⟨a,U,h⟩
def apF{d:PD}(on:d.r=Ì):d.I.length=d.S.length+1:=by rw[zq,on];rfl
def abI(h:gS m b g O s st w)(j:st.r=0)(on:st.d.r=Ì)(y:st.d.Y.length<=8)(z:st.d.I.length<=24)(c:Int): Ö À 95 #[Ã<|Â ⟨b,0,Á⟩,Å ŧ c] w λe u=>ND m b (qp st c) e w u:=by
 have l:=h.C.r on;let⟨I,J,p⟩:=jv h.C.C;let⟨K,L,q⟩:=jv l.I;rw[h.C.G]at p;rw[l.G]at q;have M:=h.r.r 0 _ U;have r:=h.r.r 1 _ U;have B:=h.r.r 2 _ U;rw[abF on]at B;rw[p]at r;have t:=l.r.r 8 _ (by have:=Dx st.d.M.c g.r;rwa[l.M]at this);rw[q]at t;have N:=h.r.I 0;obtain⟨v,f⟩:∃n,st.d.I.length=n:=⟨_,U⟩;obtain⟨x,i⟩:∃n,st.d.Y.length=n:=⟨_,U⟩;rw[f]at r z;rw[i]at t y;have k:st.d.S.length+1=v:=by rw[<-f];exact(apF on).symm
 have H:=eZ<|Ë h<|Ë f<|Ë i<|Ë k j;by_cases C:c=59/\v<24
 .obtain⟨rfl,a⟩:=C;go_enter ŗ,ŉ;go_wp2;go_ret;let⟨h,f,i,k,j⟩:=H.out;exact Î ⟨_,by rw[qp,if_pos ⟨U,Z⟩],U,mU h 0 _,g,O,_,h.Nv _ [82] A A<|Æ on⟩
 by_cases D:c=44/\0<x/\x<8
 .obtain⟨rfl,P,Q⟩:=D;go_enter ŗ,ŉ;go_wp2_with (go_at_call 99;refine(abu H.out.1 H.out.2.2.2.2 on (by have:=H.out.2.2.1;omega)).mono ?_;rintro e u ⟨rfl,o,E,F,S,a⟩;have T:=a.r.r 0 _ U;have V:=a.r.I 0;have G:=eZ<|Ë o a;clear o a);go_ret;let⟨h,f,i,k,j⟩:=H.out;let⟨o,a⟩:=G.out;exact Î ⟨_,by rw[qp,if_neg Z,if_pos ⟨U,Z,Z⟩],U,o.fj<|mU a 0 _,E,F,_,a.Nv _ [120,84] A A<|Æ on⟩
 .have a:=eZ (show qp st c=Á by
   let⟨h,f,i,k,j⟩:=H.out;rw[qp,if_neg Z,if_neg Z])
  go_enter ŗ,ŉ;go_wp2_with fail;all_goals first|(go_ret;exact Æ ⟨a.out,U,U⟩)|(exfalso;simp only[beq_iff_eq,decide_eq_true_eq]at*;omega)
def Dz:Code->Option Code
 |θ c=>Â c
 |.seq a b=>match Dz a with
  |some c=>Â c
  |none=>Dz b
 |.block _ c=>Dz c
 |.scope c=>Dz c
 |.cond _ a b=>match Dz a with
  |some c=>Â c
  |none=>Dz b
 |_=>Á
noncomputable def rf:Code:=(Tryz.f61.body.bind Dz).getD .skip
def qy(b:Nat)(B:ByteArray)(i:Ñ)(u:Nat->Ñ):Ģ:=⟨#[Ã<|Â ⟨b,0,Á⟩,Ä B,Ř,Ř,Å È 0,i,u 6,u 7,u 8,u 9,u 10,u 11,u 12,u 13,u 14,u 15,u 16,u 17,u 18,u 19,u 20,u 21,u 22,u 23,u 24,u 25,u 26,u 27,u 28,u 29,u 30,u 31,u 32,u 33,u 34,u 35,u 36,u 37,u 38,u 39,u 40,u 41,u 42,u 43,u 44,u 45,u 46,u 47,u 48,u 49,u 50,u 51,u 52,u 53,u 54,u 55,u 56,u 57,u 58,u 59,u 60,u 61,u 62,u 63,u 64,u 65,u 66,u 67,u 68,u 69,u 70,u 71,u 72,u 73,u 74,u 75,u 76,u 77,u 78,u 79,u 80,u 81,u 82,u 83,u 84,u 85,u 86,u 87,u 88,u 89,u 90,u 91,u 92,u 93,u 94,u 95,u 96,u 97,u 98,u 99,u 100,u 101,u 102,u 103,u 104,u 105,u 106,u 107,u 108,u 109,u 110,u 111,u 112,u 113,u 114,u 115,u 116,u 117,u 118,u 119,u 120,u 121,u 122,u 123,u 124,u 125,u 126,u 127,u 128,u 129,u 130,u 131,u 132,u 133,u 134,u 135,u 136,u 137,u 138,u 139,u 140,u 141,u 142,u 143,u 144,u 145,u 146],[]⟩
def Fr(b:Nat)(B:ByteArray)(i:Ñ)(a:Ģ):Prop:=∃u,a=qy b B i u
def pg{b:Nat}{B:ByteArray}{i:Value}{a:Act}(h:a=qy b B i (λn=>a.tmps.getD n undef):=by rfl):Fr b B i a:=⟨_,h⟩
def QQ(X:Ģ->Í->Prop):Exit->Ģ->Í->Prop
 |.exit 0,a,w=>X a w
 |_,_,_=>False
def tj(m b:Nat)(B:ByteArray)(k:Nat)(st:PS)(a u:Í):Prop:=∃(h:k<B.size) (h:PS),qt B k st (B[k].toNat:Int)=Â h/\tg m b h a u
def tu(m b:Nat)(B:ByteArray)(k:Nat)(st:PS)(a u:Í):Prop:=∃h:k<B.size,qt B k st (B[k].toNat:Int)=Á/\∃c,tg m b c a u
theorem vZ{d:Int}(h:(0<d/\yQ=É)\/d<=0):¬(0<d/\yQ=Ì):=by grind
def we(h:¬(0<st.r/\iT c=Ì)):qt B k st c=jH B k {st with r:=0} c:=if_neg h
def apG(a:0<st.r)(b:iT c=Ì):qt B k st c=Â (Ju st c):=if_pos ⟨a,b⟩
section
variable{want:Int}
def apH(h:st.C=[]):jH B k st c=qp st c:=by rw[jH,h]
def apI(h:st.C=want::zQ)(a:want=82):jH B k st c=zo st (uE c):=by rw[jH,h];simp only;rw[if_pos a]
def apJ(h:st.C=want::zQ)(a:want=66)(b:oO c=Ì):jH B k st c=Â (pe {st with C:=[84],d:=st.d.pd} 120 c):=by rw[jH,h];simp only;rw[if_neg Z,if_pos a,if_pos b]
def apK(h:st.C=want::zQ)(a:want=66)(b:oO c=É):jH B k st c=qp st c:=by rw[jH,h];simp only;rw[if_neg Z,if_pos a,if_neg (by rw[b];decide)]
def apL(h:st.C=want::zQ)(a:want=84):jH B k st c=zp st (Bc c):=by rw[jH,h];simp only;rw[if_neg Z,if_neg Z,if_pos a]
def apM(h:st.C=want::zQ)(a:want=80)(b:c=125):jH B k st c=Â {st with C:=zQ,d:=st.d.r7 (B.extract (k-st.I.toNat) k)}:=by rw[jH,h];simp only;rw[if_neg Z,if_neg Z,if_neg Z,if_pos a,if_pos b]
def abJ(h:st.C=want::zQ)(a:want=80)(b:¬c=125)(d:st.I=40\/mD c=0):jH B k st c=Á:=by rw[jH,h];simp only;rw[if_neg Z,if_neg Z,if_neg Z,if_pos a,if_neg b,if_pos d]
def apN(h:st.C=want::zQ)(a:want=80)(b:¬c=125)(d:¬st.I=40)(e:¬mD c=0):jH B k st c=Â {st with I:=st.I+1}:=by rw[jH,h];simp only;rw[if_neg Z,if_neg Z,if_neg Z,if_pos a,if_neg b,if_neg Z]
def apO(h:st.C=want::zQ)(a:¬want=82)(b:¬want=66)(d:¬want=84)(e:¬want=80)(f:mF want c=Ì):jH B k st c=Â {pe st want c with C:=zQ}:=by rw[jH,h];simp only;rw[if_neg a,if_neg b,if_neg d,if_neg e,if_pos f]
def apP(h:st.C=want::zQ)(a:¬want=82)(b:¬want=66)(d:¬want=84)(e:¬want=80)(f:mF want c=É):jH B k st c=Á:=by rw[jH,h];simp only;rw[if_neg a,if_neg b,if_neg d,if_neg e,if_neg (by rw[f];decide)]
end
def wh(c:UInt8):(0:Int)<=(c.toNat:Int)/\(c.toNat:Int)<256:=⟨Int.natCast_nonneg _,by have:=c.toNat_lt;omega⟩
def UF(s:ByteArray)(h:s.size=0):(s.toList==[])=Ì:=by simp_all
theorem uH(s:ByteArray)(h:¬s.size=0):(s.toList==[])=É:=by
 rw[beq_eq_false_iff_ne];intro e;have:s.toList.length=s.size:=by rw[ByteArray.toList_eq];rfl
 grind
def gS.apQ(h:gS m b g O s st w)(on:st.d.r=Ì)(i:c=86\/c=87\/c=110\/c=107):∃a e f,g.Dw st.d c=⟨a,e,Á⟩/\re m b g st.d a e f (st.d.G c) w/\∀z,f z=st.d.fO c z:=by
 rcases i with rfl|rfl|rfl|rfl
 .exact⟨_,_,_,U,FL h.C h.r on A,λz=>rfl⟩
 .exact⟨_,_,_,U,FL h.C h.r on A,λz=>rfl⟩
 .exact⟨_,_,_,U,FM h.C h.r on A,λz=>rfl⟩
 .exact⟨_,_,_,U,FM h.C h.r on A,λz=>rfl⟩
def gS.r7(h:gS m b g O s st w)(on:st.d.r=Ì)(a:st.d.C=Ì)(p:ByteArray):gS m b g O s {st with d:=st.d.r7 p} (w.setCell ⟨g.t,5,Á⟩<|Ä p)/\fc (λi=>m<=i) w (w.setCell ⟨g.t,5,Á⟩<|Ä p):=by have l:=h.C.r on;let⟨f,j,c⟩:=l.C a;have e:fc (λi=>i=g.t) w (w.setCell ⟨g.t,5,Á⟩<|Ä p):=qx c;exact⟨⟨h.S,h.a.r _ trivial,h.r.C e λx=>fq.G h.r c A x,h.M,h.I,h.C.r7 on a p,h.c,h.N⟩,e.ff λi _ x=>by have:=l.S;omega⟩
def gS.abK(h:gS m b g O s st w)(on:st.d.r=Ì)(a:st.C=c::zQ):gS m b g O (s.extract 1 s.size) {st with C:=zQ} (w.setCell ⟨b,0,Á⟩<|Ä<|s.extract 1 s.size):= h.Nv _ zQ (aoY s h.M) (by rw[aoX,h.I,a];rfl)<|Æ on
def gS.apR(h:gS m b g O s st w)(a:st.C=c::zQ):0<s.size:=by have:=FI s;rw[h.I,a]at this;simp at this;omega
end
section
variable{g:Gh}{s:ByteArray}{st:PS}{d:PD}
def apS(h:gS m b g O s st w)(a:st.r=0)(c:st.d.r=É->st.d.S=[])(f:st.d.I.length<=100000)(k:Int): Ö À 96 #[Ã<|Â ⟨b,0,Á⟩,Å È k] w λe u=>ND m b (zo st k) e w u:=(apo h a c f k).mono λ_ _ q=>abH q
def apT(h:gS m b g O s st w)(a:st.r=0)(on:st.d.r=Ì)(c:st.d.C=Ì)(k:Int): Ö À 101 #[Ã<|Â ⟨b,0,Á⟩,Å È k] w λe u=>ND m b (zp st k) e w u:=(apf h a on c k).mono λ_ _ q=>abH q
theorem apU{X:Ģ->Í->Prop}{a:Ģ}(G:Fr b B (Å È k) a) (h:gS m b g O s st w) (i:jB B k st) (Q:B.size<=1200) (H:k<B.size) (n:0<st.r) (I:iT (B[k].toNat:Int)=Ì) (S:∀a u,Fr b B (Å È<|(k:Int)+1) a/\tj m b B k st w u->K a u) (_hQ:∀a u,Fr b B (Å È k) a/\tu m b B k st w u->X a u): ð À rf (Exit.then K<|QQ X) a w:=by
 obtain⟨c,rfl⟩:=G;unfold qy;conv=>arg 2;whnf
 have T:w.cell? ⟨b,0,Á⟩=Â (Ä s):=h.r.r 0 _ U;have V:w.cell? ⟨b,6,Á⟩=Â (Å È st.r):=h.r.r 6 _ U;have W:w.cell? ⟨b,7,Á⟩=Â (Å È st.I):=h.r.r 7 _ U;have Y:=h.r.I 0;have f6:=h.r.I 6;have f7:=h.r.I 7;have d0:=i.M;have d1:=i.r;have e0:=i.C;have e1:=i.I;let⟨q,on,_,_⟩:=i.e n;let⟨r,ao,f,t,j,v⟩:=h.apQ on q;have J:w.cell? ⟨b,5,Á⟩=Â (Ã O):=h.r.r 5 _ U;rw[(h.c n).2,t]at J;obtain⟨x,o⟩:∃x,st.d.G st.M=x:=⟨_,U⟩;have L:=j.C;rw[o]at L;have fm:=j.I;obtain⟨M,N⟩:∃y,wrap64 (x*10)=y:=⟨_,U⟩;obtain⟨l,P⟩:∃y,wrap64 (M+((B[k].toNat:Int)-48)%256)=y:=⟨_,U⟩;have NG:¬r=b:=j.r;have NH:¬b=r:=λe=>j.r e.symm;have z:=h.Y (st.r-1) λ_=>h.c n;have p:=j.rd 6<|Å È<|st.r-1;have C:=z.G p l;have D:qZ (st.d.G st.M) (B[k].toNat:Int)=l:=by rw[qZ,Œ,Œ,o,N,P]
 have E:Ju st (B[k].toNat:Int)={st with r:=st.r-1,d:=f l}:=by rw[Ju,D,v]
 have F:Hid (qt B k st (B[k].toNat:Int)=Â {st with r:=st.r-1,d:=f l}/\tg m b {st with r:=st.r-1,d:=f l} w (World.drew _)):= eZ ⟨by rw[apG n I,E],(((mU h 6 _).fj<|FN (st:=st) p _).C (fc.gG fh _) λ_ _ x=>x.elim),g,O,s,C.gG⟩;clear z p C D E j v t h i o q;go_wp2_with (go_at_call 94;refine(tf _ _).mono ?_;rintro e u ⟨rfl,hw⟩;subst u);go_region;all_goals
  go_wp2;exact⟨pg,⟨H,_,F.out.1,F.out.2⟩⟩
theorem apV{X:Ģ->Í->Prop}(z:Fr b B (Å È k) y) (i:gS m b g O s st w) (j:jB B k st) (Q:B.size<=1200) (l:k<B.size) (n:(0<st.r/\iT (B[k].toNat:Int)=É)\/st.r<=0) (o:s.size=0) (S:∀y u,Fr b B (Å È<|(k:Int)+1) y/\tj m b B k st w u->K y u) (C:∀y u,Fr b B (Å È k) y/\tu m b B k st w u->X y u): ð À rf (Exit.then K<|QQ X) y w:=by
 obtain⟨f,rfl⟩:=z;unfold qy;conv=>arg 2;whnf
 have T:w.cell? ⟨b,0,Á⟩=Â (Ä s):=i.r.r 0 _ U;have V:w.cell? ⟨b,6,Á⟩=Â (Å È st.r):=i.r.r 6 _ U;have W:w.cell? ⟨b,7,Á⟩=Â (Å È st.I):=i.r.r 7 _ U;have Y:=i.r.I 0;have f6:=i.r.I 6;have f7:=i.r.I 7;have d0:=j.M;have d1:=j.r;have e0:=j.C;have e1:=j.I;have p:=eZ<|we (B:=B) (k:=k)<|vZ n;have r:=i.Y 0 λh=>absurd h A;have t:=eZ<|mU i 6<|Å È 0;have D:=j.d.C;have E:=j.d.I;have F:=eZ r;let⟨ve,xw⟩:=wh B[k];have rK:=UF s o;have h:st.C=[]:=by rw[<-i.I];exact abk s o
 have G:st.d.r=Ì:=by
  rcases i.N with q|q
  .exact q
  .rw[h]at q;cases q
 have v:=eZ<|apH (B:=B) (k:=k) (c:=(B[k].toNat:Int)) (st:={st with r:=0}) h;clear h i j;rcases n with⟨H,pG⟩|H;all_goals
  go_wp2_with (first|(go_at_call 94;refine(tf _ _).mono ?_;rintro e u ⟨rfl,x⟩;subst u)|(go_at_call 95;refine(abI r U G E D _).mono ?_;rintro e u (⟨q,rfl,x⟩|⟨I,q,rfl,J,L,M,N,P⟩)))
  .subst x;exact C _ _ ⟨pg,⟨l,p.out.trans<|v.out.trans q,_,t.out,_,_,_,F.out⟩⟩
  .exact⟨pg,⟨l,I,p.out.trans<|v.out.trans q,t.out.fj J,L,M,N,P⟩⟩
theorem apW{X:Ģ->Í->Prop}(z:Fr b B (Å È k) y) (i:gS m b g O s st w) (j:jB B k st) (P:B.size<=1200) (o:k<B.size) (p:(0<st.r/\iT (B[k].toNat:Int)=É)\/st.r<=0) (q:0<s.size) (l:((s[0]'q).toNat:Int)=82) (Q:∀y u,Fr b B (Å È<|(k:Int)+1) y/\tj m b B k st w u->K y u) (C:∀y u,Fr b B (Å È k) y/\tu m b B k st w u->X y u): ð À rf (Exit.then K<|QQ X) y w:=by
 obtain⟨f,rfl⟩:=z;unfold qy;conv=>arg 2;whnf
 have S:w.cell? ⟨b,0,Á⟩=Â (Ä s):=i.r.r 0 _ U;have T:w.cell? ⟨b,6,Á⟩=Â (Å È st.r):=i.r.r 6 _ U;have V:w.cell? ⟨b,7,Á⟩=Â (Å È st.I):=i.r.r 7 _ U;have W:=i.r.I 0;have Y:=i.r.I 6;have f7:=i.r.I 7;have d0:=j.M;have d1:=j.r;have e0:=j.C;have e1:=j.I;have r:=eZ<|we (B:=B) (k:=k)<|vZ p;have t:=i.Y 0 λh=>absurd h A;have v:=eZ<|mU i 6<|Å È 0;have Bf:=j.d.C;have DC:=j.d.I;have D:=eZ t;let⟨ve,xw⟩:=wh B[k];have rK:=uH s Z;have zr:s.size<=10:=i.M;have E:=eZ (show st.C=(s[0].toNat:Int)::(gN s).tail by rw[<-i.I];exact vU s q);have x:=eZ<|apI (B:=B) (k:=k) (c:=(B[k].toNat:Int)) (st:={st with r:=0}) E.out l;have zt:((s[0].toNat:Int)==82)=Ì:=by rw[l];rfl
 have F:=eZ λe=>(j.d.N e).1;clear l i j;rcases p with⟨G,pG⟩|G;all_goals
  go_wp2_with (first|(go_at_call 94;refine(tf _ _).mono ?_;rintro e u ⟨rfl,h⟩;subst u)|(go_at_call 97;refine(ao7 _ _).mono ?_;rintro e u ⟨rfl,h⟩;subst u)|(go_at_call 96;refine(apS t U F.out (by show st.d.I.length<=100000;omega) _).mono ?_;rintro e u (⟨n,rfl,h⟩|⟨H,n,rfl,I,J,L,M,N⟩)))
  .subst h;exact C _ _ ⟨pg,⟨o,r.out.trans<|x.out.trans n,_,v.out,_,_,_,D.out⟩⟩
  .exact⟨pg,⟨o,H,r.out.trans<|x.out.trans n,v.out.fj I,J,L,M,N⟩⟩
end
section
variable{g:Gh}{s:ByteArray}{st:PS}{d:PD}
def apX{X:Ģ->Í->Prop}(t:Fr b B (Å È k) y) (f:gS m b g O s st w) (i:jB B k st) (M:B.size<=1200) (v:k<B.size) (l:(0<st.r/\iT (B[k].toNat:Int)=É)\/st.r<=0) (n:0<s.size) (j:((s[0]'n).toNat:Int)=66) (o:oO (B[k].toNat:Int)=Ì) (N:∀y u,Fr b B (Å È<|(k:Int)+1) y/\tj m b B k st w u->K y u) (_hQ:∀y u,Fr b B (Å È k) y/\tu m b B k st w u->X y u): ð À rf (Exit.then K<|QQ X) y w:=by
 obtain⟨c,rfl⟩:=t;unfold qy;conv=>arg 2;whnf
 have P:w.cell? ⟨b,0,Á⟩=Â (Ä s):=f.r.r 0 _ U;have Q:w.cell? ⟨b,6,Á⟩=Â (Å È st.r):=f.r.r 6 _ U;have S:w.cell? ⟨b,7,Á⟩=Â (Å È st.I):=f.r.r 7 _ U;have T:=f.r.I 0;have V:=f.r.I 6;have W:=f.r.I 7;have Y:=i.M;have d1:=i.r;have e0:=i.C;have e1:=i.I;have x:=eZ<|we (B:=B) (k:=k)<|vZ l;have p:=f.Y 0 λh=>absurd h A;have z:=eZ<|mU f 6<|Å È 0;have Bf:=i.d.C;have DC:=i.d.I;have HH1:=eZ p;let⟨C,D⟩:=wh B[k];have rK:=uH s Z;have zr:s.size<=10:=f.M;have h:=eZ (show st.C=(s[0].toNat:Int)::(gN s).tail by rw[<-f.I];exact vU s n);have r:st.d.r=Ì:=by
  rcases f.N with q|q
  .exact q
  .rw[h.out]at q;injection q with q;omega
 have q:=eZ<|apJ (B:=B) (k:=k) (st:={st with r:=0}) h.out j o;have zt:((s[0].toNat:Int)==82)=É:=by rw[j];rfl
 have FR:((s[0].toNat:Int)==66)=Ì:=by rw[j];rfl
 clear j f i;rcases l with⟨E,pG⟩|E;all_goals
  go_wp2_with (first|(go_at_call 94;refine(tf _ _).mono ?_;rintro e u ⟨rfl,F⟩;subst u)|(go_at_call 98;refine(Uq _ C D _).mono ?_;rintro e u ⟨rfl,F⟩;subst u)|(go_at_call 99;refine(abu p U r<|by show st.d.Y.length<=100000;omega).mono ?_;rintro e u ⟨rfl,F,H,I,J,G⟩)|(go_at_call 100;refine(abG G U r _ _<|show mF 120 _=Ì from o).mono ?_;rintro e w'' ⟨rfl,G,H,I,J,L⟩))
  exact⟨pg,⟨v,_,x.out.trans q.out,z.out.fj<|F.fj G,H,I,J,L⟩⟩
def apY{X:Ģ->Í->Prop}(z:Fr b B (Å È k) y) (f:gS m b g O s st w) (i:jB B k st) (V:B.size<=1200) (l:k<B.size) (n:(0<st.r/\iT (B[k].toNat:Int)=É)\/st.r<=0) (o:0<s.size) (j:((s[0]'o).toNat:Int)=66) (C:oO (B[k].toNat:Int)=É) (W:∀y u,Fr b B (Å È<|(k:Int)+1) y/\tj m b B k st w u->K y u) (D:∀y u,Fr b B (Å È k) y/\tu m b B k st w u->X y u): ð À rf (Exit.then K<|QQ X) y w:=by
 obtain⟨c,rfl⟩:=z;unfold qy;conv=>arg 2;whnf
 have Y:w.cell? ⟨b,0,Á⟩=Â (Ä s):=f.r.r 0 _ U;have c6:w.cell? ⟨b,6,Á⟩=Â (Å È st.r):=f.r.r 6 _ U;have c7:w.cell? ⟨b,7,Á⟩=Â (Å È st.I):=f.r.r 7 _ U;have f0:=f.r.I 0;have f6:=f.r.I 6;have f7:=f.r.I 7;have d0:=i.M;have d1:=i.r;have e0:=i.C;have e1:=i.I;have p:=eZ<|we (B:=B) (k:=k)<|vZ n;have r:=f.Y 0 λh=>absurd h A;have t:=eZ<|mU f 6<|Å È 0;have E:=i.d.C;have F:=i.d.I;have G:=eZ r;let⟨H,I⟩:=wh B[k];have rK:=uH s Z;have zr:s.size<=10:=f.M;have v:=eZ (show st.C=(s[0].toNat:Int)::(gN s).tail by rw[<-f.I];exact vU s o);have J:st.d.r=Ì:=by
  rcases f.N with q|q
  .exact q
  .rw[v.out]at q;injection q with q;omega
 have x:=eZ<|apK (B:=B) (k:=k) (st:={st with r:=0}) v.out j C;have zt:((s[0].toNat:Int)==82)=É:=by rw[j];rfl
 have FR:((s[0].toNat:Int)==66)=Ì:=by rw[j];rfl
 clear j f i;rcases n with⟨L,pG⟩|L;all_goals
  go_wp2_with (first|(go_at_call 94;refine(tf _ _).mono ?_;rintro e u ⟨rfl,h⟩;subst u)|(go_at_call 98;refine(Uq _ H I _).mono ?_;rintro e u ⟨rfl,h⟩;subst u)|(go_at_call 95;refine(abI r U J F E _).mono ?_;rintro e u (⟨q,rfl,h⟩|⟨M,q,rfl,N,P,Q,S,T⟩)))
  .subst h;exact D _ _ ⟨pg,⟨l,p.out.trans<|x.out.trans q,_,t.out,_,_,_,G.out⟩⟩
  .exact⟨pg,⟨l,M,p.out.trans<|x.out.trans q,t.out.fj N,P,Q,S,T⟩⟩
theorem apZ{X:Ģ->Í->Prop}(C:Fr b B (Å È k) y) (i:gS m b g O s st w) (j:jB B k st) (Q:B.size<=1200) (o:k<B.size) (p:(0<st.r/\iT (B[k].toNat:Int)=É)\/st.r<=0) (r:0<s.size) (l:((s[0]'r).toNat:Int)=84) (S:∀y u,Fr b B (Å È<|(k:Int)+1) y/\tj m b B k st w u->K y u) (D:∀y u,Fr b B (Å È k) y/\tu m b B k st w u->X y u): ð À rf (Exit.then K<|QQ X) y w:=by
 obtain⟨f,rfl⟩:=C;unfold qy;conv=>arg 2;whnf
 have T:w.cell? ⟨b,0,Á⟩=Â (Ä s):=i.r.r 0 _ U;have V:w.cell? ⟨b,6,Á⟩=Â (Å È st.r):=i.r.r 6 _ U;have W:w.cell? ⟨b,7,Á⟩=Â (Å È st.I):=i.r.r 7 _ U;have Y:=i.r.I 0;have f6:=i.r.I 6;have f7:=i.r.I 7;have d0:=j.M;have d1:=j.r;have e0:=j.C;have e1:=j.I;have t:=eZ<|we (B:=B) (k:=k)<|vZ p;have v:=i.Y 0 λh=>absurd h A;have x:=eZ<|mU i 6<|Å È 0;have Bf:=j.d.C;have DC:=j.d.I;have E:=eZ v;let⟨ve,xw⟩:=wh B[k];have rK:=uH s Z;have zr:s.size<=10:=i.M;have h:=eZ (show st.C=(s[0].toNat:Int)::(gN s).tail by rw[<-i.I];exact vU s r);have F:st.d.r=Ì:=by
  rcases i.N with q|q
  .exact q
  .rw[h.out]at q;injection q with q;omega
 have G:st.d.C=Ì:=j.N (by rw[h.out,l];simp);have z:=eZ<|apL (B:=B) (k:=k) (c:=(B[k].toNat:Int)) (st:={st with r:=0}) h.out l;have zt:((s[0].toNat:Int)==82)=É:=by rw[l];rfl
 have FR:((s[0].toNat:Int)==66)=É:=by rw[l];rfl
 have FT:((s[0].toNat:Int)==84)=Ì:=by rw[l];rfl
 clear l i j;rcases p with⟨H,pG⟩|H;all_goals
  go_wp2_with (first|(go_at_call 94;refine(tf _ _).mono ?_;rintro e u ⟨rfl,q⟩;subst u)|(go_at_call 102;refine(ao6 _ _).mono ?_;rintro e u ⟨rfl,q⟩;subst u)|(go_at_call 101;refine(apT v U F G _).mono ?_;rintro e u (⟨n,rfl,q⟩|⟨I,n,rfl,J,L,M,N,P⟩)))
  .subst q;exact D _ _ ⟨pg,⟨o,t.out.trans<|z.out.trans n,_,x.out,_,_,_,E.out⟩⟩
  .exact⟨pg,⟨o,I,t.out.trans<|z.out.trans n,x.out.fj J,L,M,N,P⟩⟩
end
section
variable{g:Gh}{s:ByteArray}{st:PS}{d:PD}
theorem ap0{X:Ģ->Í->Prop}(N:Fr b B (Å È k) y) (i:gS m b g O s st w) (j:jB B k st) (hB:B.size<=1200) (P:k<B.size) (E:(0<st.r/\iT (B[k].toNat:Int)=É)\/st.r<=0) (F:0<s.size) (l:((s[0]'F).toNat:Int)=80) (r:(B[k].toNat:Int)=125) (hK:∀y u,Fr b B (Å È<|(k:Int)+1) y/\tj m b B k st w u->K y u) (_hQ:∀y u,Fr b B (Å È k) y/\tu m b B k st w u->X y u): ð À rf (Exit.then K<|QQ X) y w:=by
 obtain⟨f,rfl⟩:=N;unfold qy;conv=>arg 2;whnf
 have c0:w.cell? ⟨b,0,Á⟩=Â (Ä s):=i.r.r 0 _ U;have c6:w.cell? ⟨b,6,Á⟩=Â (Å È st.r):=i.r.r 6 _ U;have Q:w.cell? ⟨b,7,Á⟩=Â (Å È st.I):=i.r.r 7 _ U;have f0:=i.r.I 0;have f6:=i.r.I 6;have f7:=i.r.I 7;have d0:=j.M;have d1:=j.r;have S:=j.C;have T:=j.I;have G:=eZ<|we (B:=B) (k:=k)<|vZ E;have v:=i.Y 0 λh=>absurd h A;have H:=eZ<|mU i 6<|Å È 0;have Bf:=j.d.C;have DC:=j.d.I;have V:=eZ v;let⟨ve,xw⟩:=wh B[k];have rK:=uH s Z;have zr:s.size<=10:=i.M;have h:=eZ (show st.C=(s[0].toNat:Int)::(gN s).tail by rw[<-i.I];exact vU s F);have z:st.d.r=Ì:=by
  rcases i.N with q|q
  .exact q
  .rw[h.out]at q;injection q with q;omega
 have C:st.d.C=Ì:=j.N (by rw[h.out,l];simp);have W:w.cell? ⟨b,3,Á⟩=Â (Ã<|g.Y st.d):=i.r.r 3 _ U;rw[Jw C]at W;let⟨Y,I,q⟩:=(i.C.r z).C C;have UG:w.cell? ⟨g.t,5,Á⟩=Â (Ä st.d.N.p):=q.r 5 _ (by have:=Dx st.d.N.c<|Ä st.d.N.p;rwa[I]at this);have UH:=q.I 5;have NH:¬b=g.t:=λe=>fq.G q i.r A e.symm;have NG:¬g.t=b:=fq.G q i.r A;let⟨NI,_⟩:=j.Y (by rw[h.out,l];simp);have zt:((s[0].toNat:Int)==82)=É:=by rw[l];rfl
 have FR:((s[0].toNat:Int)==66)=É:=by rw[l];rfl
 have FT:((s[0].toNat:Int)==84)=É:=by rw[l];rfl
 have JA:((s[0].toNat:Int)==80)=Ì:=by rw[l];rfl
 clear Y I q;have J:=eZ<|apM (B:=B) (k:=k) (st:={st with r:=0}) h.out l r;have UI:((B[k].toNat:Int) !=125)=É:=by rw[r];rfl
 obtain⟨n,L⟩:∃t:Nat,st.I=(t:Int):=⟨st.I.toNat,Z⟩;have o:=v.r7 z C<|B.extract (k-n) k;have M:=o.1.abK z h.out;have D:=eZ (Ë (show qt B k st (B[k].toNat:Int)=Â {({st with r:=0}:PS)with C:=(gN s).tail,d:=st.d.r7 (B.extract (k-n) k)} by rw[G.out,J.out,show({st with r:=0}:PS).I.toNat=n by show st.I.toNat=n;omega])<|Ë ((H.out.fj o.2).fj<|mU o.1 0<|Ä<|s.extract 1 s.size) M);rw[L]at Q S T NI;clear r l i j o M L J G H V v;rcases E with⟨sQ,pG⟩|sQ;all_goals
  go_wp2_with (first|(go_at_call 94;refine(tf _ _).mono ?_;rintro e u ⟨rfl,x⟩;subst u))
  go_region
  all_goals
   go_wp2;exact⟨pg,⟨P,_,D.out.1,D.out.2.1.C (fc.gG fh _) λ_ _ x=>x.elim,_,_,_,D.out.2.2.gG⟩⟩
theorem ap1{X:Ģ->Í->Prop}(C:Fr b B (Å È k) y) (i:gS m b g O s st w) (j:jB B k st) (Q:B.size<=1200) (D:k<B.size) (v:(0<st.r/\iT (B[k].toNat:Int)=É)\/st.r<=0) (x:0<s.size) (l:((s[0]'x).toNat:Int)=80) (o:¬(B[k].toNat:Int)=125) (r:st.I=40) (_hK:∀y u,Fr b B (Å È<|(k:Int)+1) y/\tj m b B k st w u->K y u) (E:∀y u,Fr b B (Å È k) y/\tu m b B k st w u->X y u): ð À rf (Exit.then K<|QQ X) y w:=by
 obtain⟨f,rfl⟩:=C;unfold qy;conv=>arg 2;whnf
 have S:w.cell? ⟨b,0,Á⟩=Â (Ä s):=i.r.r 0 _ U;have T:w.cell? ⟨b,6,Á⟩=Â (Å È st.r):=i.r.r 6 _ U;have V:w.cell? ⟨b,7,Á⟩=Â (Å È st.I):=i.r.r 7 _ U;have W:=i.r.I 0;have Y:=i.r.I 6;have f7:=i.r.I 7;have d0:=j.M;have d1:=j.r;have e0:=j.C;have e1:=j.I;have F:=eZ<|we (B:=B) (k:=k)<|vZ v;have G:=i.Y 0 λh=>absurd h A;have H:=eZ<|mU i 6<|Å È 0;have Bf:=j.d.C;have DC:=j.d.I;have I:=eZ G;let⟨ve,xw⟩:=wh B[k];have rK:=uH s Z;have zr:s.size<=10:=i.M;have n:=eZ (show st.C=(s[0].toNat:Int)::(gN s).tail by rw[<-i.I];exact vU s x);have J:st.d.r=Ì:=by
  rcases i.N with q|q
  .exact q
  .rw[n.out]at q;injection q with q;omega
 have q:st.d.C=Ì:=j.N (by rw[n.out,l];simp);have L:w.cell? ⟨b,3,Á⟩=Â (Ã<|g.Y st.d):=i.r.r 3 _ U;rw[Jw q]at L;let⟨M,z,h⟩:=(i.C.r J).C q;have UG:w.cell? ⟨g.t,5,Á⟩=Â (Ä st.d.N.p):=h.r 5 _ (by have:=Dx st.d.N.c<|Ä st.d.N.p;rwa[z]at this);have UH:=h.I 5;have NH:¬b=g.t:=λe=>fq.G h i.r A e.symm;have NG:¬g.t=b:=fq.G h i.r A;let⟨NI,_⟩:=j.Y (by rw[n.out,l];simp);have zt:((s[0].toNat:Int)==82)=É:=by rw[l];rfl
 have FR:((s[0].toNat:Int)==66)=É:=by rw[l];rfl
 have FT:((s[0].toNat:Int)==84)=É:=by rw[l];rfl
 have JA:((s[0].toNat:Int)==80)=Ì:=by rw[l];rfl
 clear M z h;have UI:((B[k].toNat:Int) !=125)=Ì:=by rwa[bne_iff_ne]
 have N:=eZ<|abJ (B:=B) (k:=k) (st:={st with r:=0}) n.out l o<|Æ r;have abL:(st.I==40)=Ì:=by rw[r];rfl
 clear r o l i j;rcases v with⟨P,pG⟩|P;all_goals
  go_wp2_with (first|(go_at_call 94;refine(tf _ _).mono ?_;rintro e u ⟨rfl,hw⟩;subst u))
  exact E _ _ ⟨pg,⟨D,F.out.trans N.out,_,H.out,_,_,_,I.out⟩⟩
theorem ap2{X:Ģ->Í->Prop}(E:Fr b B (Å È k) y) (i:gS m b g O s st w) (j:jB B k st) (S:B.size<=1200) (F:k<B.size) (v:(0<st.r/\iT (B[k].toNat:Int)=É)\/st.r<=0) (x:0<s.size) (l:((s[0]'x).toNat:Int)=80) (o:¬(B[k].toNat:Int)=125) (r:¬st.I=40) (z:¬mD (B[k].toNat:Int)=0) (T:∀y u,Fr b B (Å È<|(k:Int)+1) y/\tj m b B k st w u->K y u) (_hQ:∀y u,Fr b B (Å È k) y/\tu m b B k st w u->X y u): ð À rf (Exit.then K<|QQ X) y w:=by
 obtain⟨f,rfl⟩:=E;unfold qy;conv=>arg 2;whnf
 have V:w.cell? ⟨b,0,Á⟩=Â (Ä s):=i.r.r 0 _ U;have W:w.cell? ⟨b,6,Á⟩=Â (Å È st.r):=i.r.r 6 _ U;have Y:w.cell? ⟨b,7,Á⟩=Â (Å È st.I):=i.r.r 7 _ U;have f0:=i.r.I 0;have f6:=i.r.I 6;have f7:=i.r.I 7;have d0:=j.M;have d1:=j.r;have e0:=j.C;have e1:=j.I;have G:=eZ<|we (B:=B) (k:=k)<|vZ v;have H:=i.Y 0 λh=>absurd h A;have I:=eZ<|mU i 6<|Å È 0;have Bf:=j.d.C;have DC:=j.d.I;have C:=eZ H;let⟨ve,xw⟩:=wh B[k];have rK:=uH s Z;have zr:s.size<=10:=i.M;have n:=eZ (show st.C=(s[0].toNat:Int)::(gN s).tail by rw[<-i.I];exact vU s x);have J:st.d.r=Ì:=by
  rcases i.N with q|q
  .exact q
  .rw[n.out]at q;injection q with q;omega
 have q:st.d.C=Ì:=j.N (by rw[n.out,l];simp);have L:w.cell? ⟨b,3,Á⟩=Â (Ã<|g.Y st.d):=i.r.r 3 _ U;rw[Jw q]at L;let⟨M,D,h⟩:=(i.C.r J).C q;have UG:w.cell? ⟨g.t,5,Á⟩=Â (Ä st.d.N.p):=h.r 5 _ (by have:=Dx st.d.N.c<|Ä st.d.N.p;rwa[D]at this);have UH:=h.I 5;have NH:¬b=g.t:=λe=>fq.G h i.r A e.symm;have NG:¬g.t=b:=fq.G h i.r A;let⟨NI,_⟩:=j.Y (by rw[n.out,l];simp);have zt:((s[0].toNat:Int)==82)=É:=by rw[l];rfl
 have FR:((s[0].toNat:Int)==66)=É:=by rw[l];rfl
 have FT:((s[0].toNat:Int)==84)=É:=by rw[l];rfl
 have JA:((s[0].toNat:Int)==80)=Ì:=by rw[l];rfl
 clear M D h;have UI:((B[k].toNat:Int) !=125)=Ì:=by rwa[bne_iff_ne]
 have N:=eZ<|apN (B:=B) (k:=k) (st:={st with r:=0}) n.out l o r z;have abL:(st.I==40)=É:=by rwa[beq_eq_false_iff_ne]
 have AB:((mD (B[k].toNat:Int):Int)==0)=É:=by rw[beq_eq_false_iff_ne];omega
 clear r o l i j z;rcases v with⟨P,pG⟩|P;all_goals
  go_wp2_with (first|(go_at_call 94;refine(tf _ _).mono ?_;rintro e u ⟨rfl,Q⟩;subst u)|(go_at_call 103;refine(Z' _ _).mono ?_;rintro e u ⟨rfl,Q⟩;subst u))
  exact⟨pg,⟨F,_,G.out.trans N.out,I.out.fj<|mU C.out 7 _,_,_,_,C.out.abq _⟩⟩
theorem ap3{X:Ģ->Í->Prop}(D:Fr b B (Å È k) y) (i:gS m b g O s st w) (j:jB B k st) (T:B.size<=1200) (E:k<B.size) (v:(0<st.r/\iT (B[k].toNat:Int)=É)\/st.r<=0) (x:0<s.size) (l:((s[0]'x).toNat:Int)=80) (o:¬(B[k].toNat:Int)=125) (z:¬st.I=40) (r:mD (B[k].toNat:Int)=0) (_hK:∀y u,Fr b B (Å È<|(k:Int)+1) y/\tj m b B k st w u->K y u) (F:∀y u,Fr b B (Å È k) y/\tu m b B k st w u->X y u): ð À rf (Exit.then K<|QQ X) y w:=by
 obtain⟨f,rfl⟩:=D;unfold qy;conv=>arg 2;whnf
 have V:w.cell? ⟨b,0,Á⟩=Â (Ä s):=i.r.r 0 _ U;have W:w.cell? ⟨b,6,Á⟩=Â (Å È st.r):=i.r.r 6 _ U;have Y:w.cell? ⟨b,7,Á⟩=Â (Å È st.I):=i.r.r 7 _ U;have f0:=i.r.I 0;have f6:=i.r.I 6;have f7:=i.r.I 7;have d0:=j.M;have d1:=j.r;have e0:=j.C;have e1:=j.I;have G:=eZ<|we (B:=B) (k:=k)<|vZ v;have H:=i.Y 0 λh=>absurd h A;have I:=eZ<|mU i 6<|Å È 0;have Bf:=j.d.C;have DC:=j.d.I;have J:=eZ H;let⟨ve,xw⟩:=wh B[k];have rK:=uH s Z;have zr:s.size<=10:=i.M;have n:=eZ (show st.C=(s[0].toNat:Int)::(gN s).tail by rw[<-i.I];exact vU s x);have L:st.d.r=Ì:=by
  rcases i.N with q|q
  .exact q
  .rw[n.out]at q;injection q with q;omega
 have q:st.d.C=Ì:=j.N (by rw[n.out,l];simp);have M:w.cell? ⟨b,3,Á⟩=Â (Ã<|g.Y st.d):=i.r.r 3 _ U;rw[Jw q]at M;let⟨N,C,h⟩:=(i.C.r L).C q;have UG:w.cell? ⟨g.t,5,Á⟩=Â (Ä st.d.N.p):=h.r 5 _ (by have:=Dx st.d.N.c<|Ä st.d.N.p;rwa[C]at this);have UH:=h.I 5;have NH:¬b=g.t:=λe=>fq.G h i.r A e.symm;have NG:¬g.t=b:=fq.G h i.r A;let⟨NI,_⟩:=j.Y (by rw[n.out,l];simp);have zt:((s[0].toNat:Int)==82)=É:=by rw[l];rfl
 have FR:((s[0].toNat:Int)==66)=É:=by rw[l];rfl
 have FT:((s[0].toNat:Int)==84)=É:=by rw[l];rfl
 have JA:((s[0].toNat:Int)==80)=Ì:=by rw[l];rfl
 clear N C h;have UI:((B[k].toNat:Int) !=125)=Ì:=by rwa[bne_iff_ne]
 have P:=eZ<|abJ (B:=B) (k:=k) (st:={st with r:=0}) n.out l o<|Î r;have abL:(st.I==40)=É:=by rwa[beq_eq_false_iff_ne]
 have AB:((mD (B[k].toNat:Int):Int)==0)=Ì:=by rw[r];rfl
 clear z o l i j r;rcases v with⟨Q,pG⟩|Q;all_goals
  go_wp2_with (first|(go_at_call 94;refine(tf _ _).mono ?_;rintro e u ⟨rfl,S⟩;subst u)|(go_at_call 103;refine(Z' _ _).mono ?_;rintro e u ⟨rfl,S⟩;subst u))
  exact F _ _ ⟨pg,⟨E,G.out.trans P.out,_,I.out,_,_,_,J.out⟩⟩
end
section
variable{g:Gh}{s:ByteArray}{st:PS}{d:PD}
def ap4{X:Ģ->Í->Prop}(D:Fr b B (Å È k) y) (f:gS m b g O s st w) (i:jB B k st) (Q:B.size<=1200) (E:k<B.size) (v:(0<st.r/\iT (B[k].toNat:Int)=É)\/st.r<=0) (j:0<s.size) (n:¬((s[0]'j).toNat:Int)=82) (o:¬((s[0]'j).toNat:Int)=66) (p:¬((s[0]'j).toNat:Int)=84) (r:¬((s[0]'j).toNat:Int)=80) (x:mF ((s[0]'j).toNat:Int) (B[k].toNat:Int)=Ì) (S:∀y u,Fr b B (Å È<|(k:Int)+1) y/\tj m b B k st w u->K y u) (_hQ:∀y u,Fr b B (Å È k) y/\tu m b B k st w u->X y u): ð À rf (Exit.then K<|QQ X) y w:=by
 obtain⟨c,rfl⟩:=D;unfold qy;conv=>arg 2;whnf
 have T:w.cell? ⟨b,0,Á⟩=Â (Ä s):=f.r.r 0 _ U;have V:w.cell? ⟨b,6,Á⟩=Â (Å È st.r):=f.r.r 6 _ U;have W:w.cell? ⟨b,7,Á⟩=Â (Å È st.I):=f.r.r 7 _ U;have Y:=f.r.I 0;have f6:=f.r.I 6;have f7:=f.r.I 7;have d0:=i.M;have d1:=i.r;have e0:=i.C;have e1:=i.I;have F:=eZ<|we (B:=B) (k:=k)<|vZ v;have G:=f.Y 0 λh=>absurd h A;have H:=eZ<|mU f 6<|Å È 0;have Bf:=i.d.C;let⟨I,J⟩:=wh B[k];have rK:=uH s Z;have zr:s.size<=10:=f.M;have l:=eZ (show st.C=(s[0].toNat:Int)::(gN s).tail by rw[<-f.I];exact vU s j);have z:st.d.r=Ì:=by
  rcases f.N with q|q
  .exact q
  .rw[l.out]at q;injection q with q;omega
 have zt:((s[0].toNat:Int)==82)=É:=by rwa[beq_eq_false_iff_ne]
 have ap5:((s[0].toNat:Int)==66)=É:=by rwa[beq_eq_false_iff_ne]
 have FT:((s[0].toNat:Int)==84)=É:=by rwa[beq_eq_false_iff_ne]
 have JA:((s[0].toNat:Int)==80)=É:=by rwa[beq_eq_false_iff_ne]
 have L:=eZ<|apO (B:=B) (k:=k) (st:={st with r:=0}) l.out n o p r x;have M:=eZ x;clear n o p r f i;rcases v with⟨N,pG⟩|N;all_goals
  go_wp2_with (first|(go_at_call 94;refine(tf _ _).mono ?_;rintro e u ⟨rfl,h⟩;subst u)|(go_at_call 104;refine(abl _ _ I J _).mono ?_;rintro e u ⟨rfl,h⟩;subst u)|(go_at_call 100;refine(abG G U z _ _ M.out).mono ?_;rintro e P ⟨rfl,C,g',nm',q,h⟩;have k0:P.cell? ⟨b,0,Á⟩=Â (Ä q):=h.r.r 0 _ U;have kf0:=h.r.I 0;have qc:0<q.size:=h.apR l.out;have auL:q.size<=10:=h.M;have t:=eZ<|Ë C h;clear C h))
  exact⟨pg,⟨E,_,F.out.trans L.out,H.out.fj<|t.out.1.fj<|mU t.out.2 0 _,_,_,_,t.out.2.abK ((UB _ _ _).1.trans z) l.out⟩⟩
def ap6{X:Ģ->Í->Prop}(t:Fr b B (Å È k) y) (f:gS m b g O s st w) (i:jB B k st) (L:B.size<=1200) (v:k<B.size) (r:(0<st.r/\iT (B[k].toNat:Int)=É)\/st.r<=0) (j:0<s.size) (l:¬((s[0]'j).toNat:Int)=82) (n:¬((s[0]'j).toNat:Int)=66) (o:¬((s[0]'j).toNat:Int)=84) (p:¬((s[0]'j).toNat:Int)=80) (x:mF ((s[0]'j).toNat:Int) (B[k].toNat:Int)=É) (_hK:∀y u,Fr b B (Å È<|(k:Int)+1) y/\tj m b B k st w u->K y u) (z:∀y u,Fr b B (Å È k) y/\tu m b B k st w u->X y u): ð À rf (Exit.then K<|QQ X) y w:=by
 obtain⟨c,rfl⟩:=t;unfold qy;conv=>arg 2;whnf
 have M:w.cell? ⟨b,0,Á⟩=Â (Ä s):=f.r.r 0 _ U;have N:w.cell? ⟨b,6,Á⟩=Â (Å È st.r):=f.r.r 6 _ U;have P:w.cell? ⟨b,7,Á⟩=Â (Å È st.I):=f.r.r 7 _ U;have Q:=f.r.I 0;have S:=f.r.I 6;have T:=f.r.I 7;have V:=i.M;have W:=i.r;have Y:=i.C;have e1:=i.I;have C:=eZ<|we (B:=B) (k:=k)<|vZ r;have D:=f.Y 0 λh=>absurd h A;have E:=eZ<|mU f 6<|Å È 0;have Bf:=i.d.C;have DC:=i.d.I;have F:=eZ D;let⟨G,H⟩:=wh B[k];have rK:=uH s Z;have zr:s.size<=10:=f.M;have h:=eZ (show st.C=(s[0].toNat:Int)::(gN s).tail by rw[<-f.I];exact vU s j);have on:st.d.r=Ì:=by
  rcases f.N with q|q
  .exact q
  .rw[h.out]at q;injection q with q;omega
 have zt:((s[0].toNat:Int)==82)=É:=by rwa[beq_eq_false_iff_ne]
 have ap5:((s[0].toNat:Int)==66)=É:=by rwa[beq_eq_false_iff_ne]
 have FT:((s[0].toNat:Int)==84)=É:=by rwa[beq_eq_false_iff_ne]
 have JA:((s[0].toNat:Int)==80)=É:=by rwa[beq_eq_false_iff_ne]
 have q:=eZ<|apP (B:=B) (k:=k) (st:={st with r:=0}) h.out l n o p x;clear l n o p f i;rcases r with⟨I,pG⟩|I;all_goals
  go_wp2_with (first|(go_at_call 94;refine(tf _ _).mono ?_;rintro e u ⟨rfl,J⟩;subst u)|(go_at_call 104;refine(abl _ _ G H _).mono ?_;rintro e u ⟨rfl,J⟩;subst u))
  exact z _ _ ⟨pg,⟨v,C.out.trans q.out,_,E.out,_,_,_,F.out⟩⟩
end
section
variable{g:Gh}{s:ByteArray}{c:PS}{d:PD}
theorem ap7{X:Ģ->Í->Prop}(d:Fr b B (Å È k) y) (e:gS m b g O s c w) (f:jB B k c) (h:B.size<=1200) (i:k<B.size) (j:∀y v,Fr b B (Å È<|(k:Int)+1) y/\tj m b B k c w v->K y v) (l:∀y v,Fr b B (Å È k) y/\tu m b B k c w v->X y v): ð À rf (Exit.then K<|QQ X) y w:=by
 by_cases x:0<c.r/\iT (B[k].toNat:Int)=Ì
 .grind [apU]
 have n:(0<c.r/\iT (B[k].toNat:Int)=É)\/c.r<=0:=by grind
 by_cases z:s.size=0
 .grind [apV]
 have o:0<s.size:=Z
 by_cases q:(s[0].toNat:Int)=82
 .grind [apW]
 by_cases p:(s[0].toNat:Int)=66
 .cases r:oO (B[k].toNat:Int)with
  |true=>exact apX d e f h i n o p r j l
  |false=>exact apY d e f h i n o p r j l
 by_cases r:(s[0].toNat:Int)=84
 .grind [apZ]
 by_cases t:(s[0].toNat:Int)=80
 .grind [ap0,ap1,ap3,ap2]
 cases u:mF (s[0].toNat:Int) (B[k].toNat:Int)with
 |true=>exact ap4 d e f h i n o q p r t u j l
 |false=>exact ap6 d e f h i n o q p r t u j l
def ap8{X:Ģ->Í->Prop}(c:Fr b B (Å È k) y)(_hB:B.size<=1200)(e:¬k<B.size)(_hk:k<=B.size) (d:∀y v,Fr b B (Å È k) y/\v=w->X y v): ð À rf (Exit.then K<|QQ X) y w:=by
 obtain⟨u,rfl⟩:=c;unfold qy;conv=>arg 2;whnf
 go_wp2;exact d _ _ ⟨pg,U⟩
def oc(B:ByteArray):Nat×PS:=qu B B.size 0 td
def RI(m b:Nat)(B:ByteArray)(w:Í)(a:Ģ)(d:Í):Prop:=
 ∃(k:Nat) (g:Gh) (O:Option ù) (s:ByteArray) (c:PS),k<=B.size/\Fr b B (Å È k) a/\gS m b g O s c d/\fc (λi=>m<=i) w d/\jB B k c/\oc B=qu B (B.size-k) k c
def Rmu(B:ByteArray)(a:Ģ)(_:Í):Nat:=B.size-(intOf<|a.tmps.getD 5 Ř).toNat
def RX(m b:Nat)(B:ByteArray)(w:Í)(a:Ģ)(d:Í):Prop:=
 ∃(k:Nat) (c:PS),k<=B.size/\Fr b B (Å È k) a/\tg m b c w d/\(oc B).1=k/\(k=B.size->(oc B).2=c)
def abM{i:Int}{w:Í}(h:Fr b B (Å È i) y):Rmu B y w=B.size-i.toNat:=by obtain⟨u,rfl⟩:=h;rfl
def ap9{a:PS}(b:k<B.size)(d:qt B k c (B[k].toNat:Int)=Â a):qu B (B.size-k) k c=qu B (B.size-(k+1)) (k+1) a:=by rw[show B.size-k=(B.size-(k+1))+1 by omega,qu,dif_pos b,d]
def aqa(a:k<B.size)(b:qt B k c (B[k].toNat:Int)=Á):qu B (B.size-k) k c=(k,c):=by rw[show B.size-k=(B.size-(k+1))+1 by omega,qu,dif_pos a,b]
def aqb(f:Fr b B (Å È 0) y)(h:gS m b g O s td w)(q:B.size<=1200): ð À (θ rf) (QQ<|RX m b B w) y w:=by
 apply wp_loop (RI m b B w) (Rmu B) ⟨0,g,O,s,td,Ø _,f,h,fc.fV _ _,UE B,U⟩;rintro y x ⟨k,g,O,s,c,l,f,r,n,t,o⟩;by_cases i:k<B.size
 .refine ap7 f r t q i ?_ ?_
  .rintro u v ⟨d,z,e,j,p,C,D,E,F⟩;refine⟨⟨k+1,C,D,E,e,Z,by simpa using d,F,n.fj p,abC t i j,o.trans<|ap9 i j⟩,?_⟩;rw[abM d,abM (w:=x) f];omega
  .rintro u v ⟨d,z,j,C,p,D⟩;have:=o.trans<|aqa i j;exact⟨k,C,l,d,⟨n.fj p,D⟩,by rw[this],λe=>by omega⟩
 .apply ap8 f q i l;rintro u v ⟨d,rfl⟩;have:oc B=(k,c):=by rw[o,show B.size-k=0 by omega];rfl
  exact⟨k,c,l,d,⟨n,g,O,s,r⟩,by rw[this],λ_=>by rw[this]⟩
def aqc(h:gS m b g O s td w)(d:B.size<=1200): Ö À 61 #[Ã<|Â ⟨b,0,Á⟩,Ä B] w λe u=>
  ∃(k:Nat) (c:PS),k<=B.size/\e=Ê (Å È k)/\tg m b c w u/\(oc B).1=k/\(k=B.size->(oc B).2=c):=by
 go_enter Tryz.func61,Tryz.ntmps61;go_wp2;go_step3;go_wp2;go_step3;go_wp2;refine Code.wp_mono ?_ (aqb pg h d);rintro(_|(_|_)|_|_|_|_) a v hq;all_goals first|exact absurd hq id|skip
 let⟨k,c,f,i,j⟩:=hq;obtain⟨e,rfl⟩:=i;unfold qy;go_wp2;(try rw[Exit.noGoto_ret]);go_ret;exact⟨k,c,f,U,(eZ j).out⟩
end
def mo(B:ByteArray):Int×Bool×List PR:=
 if B.size=0 then(0,Ì,[])else(((oc B).1:Int),decide ((oc B).1=B.size)&&(decide ((oc B).2.C=[])||decide ((oc B).2.C=[66])),(oc B).2.d.I)
def gy(B:ByteArray):Int×Int×List PR:=
 if 1200<B.size then(1,0,[])else if(mo B).2.1=Ì then(0,0,(mo B).2.2)else(2,(mo B).1,[])
def DF(m:Nat)(v:Ñ)(b:List PR)(w:Í):Prop:=jI m w/\∃a,w.ownsRow m 148 1 v a.length (oa a)/\qw w.heap.size a b w
section
variable{g:Gh}{s:ByteArray}{a:PS}
def DF.pV(w:Í):DF w.heap.size (Ç Á 0 0) [] w:=⟨jI.I w,[],⟨U,Æ ⟨U,U⟩⟩,qw.N _ _⟩
def gS.iW(h:gS m b g O s a w)(c:a.d.r=É->a.d.S=[])(n:Nat):DF m g.N a.d.I (w.drewN n):= ⟨h.a.jh n,g.C a.d,im h.C.C (fc.jh fh w n) λ_ _=>id,(h.C.abv c).C (fc.jh fh w n) λ_ _ x=>x.elim⟩
def g0(m:Nat):Gh:={a:=[],q:=0,t:=0,B:=m,tb:=[],N:=Ç Á 0 0,r:=Ç Á 0 0,b:=Á}
def aqd(w:Í):gS w.heap.size w.heap.size (g0 w.heap.size) Á ⟨#[82]⟩ td (w.alloc<|ä #[Ä ⟨#[82]⟩,Ç Á 0 0,Ã Á,Ã Á,Ã Á,Ã Á,Å È 0,Å È 0] 153):= ⟨Ü _,(jI.I w).iw _ _ A A (λv e=>by simp at e;rcases e with rfl|rfl|rfl|rfl<;>trivial),fq.N w [Ä ⟨#[82]⟩,Ç Á 0 0,Ã Á,Ã Á,Ã Á,Ã Á,Å È 0,Å È 0] 153,A,A,⟨⟨U,Æ ⟨U,U⟩⟩,qw.N _ _,(λe=>by cases e),λ_=>rfl⟩,(λq=>by cases q),Î rfl⟩
def aqe(s:ByteArray):gN s=[66]↔s.toList=[66]:=by
 unfold gN;rw[ByteArray.toList_eq];constructor
 .intro h;match hl:s.data.toList with
  |[]=>rw[hl]at h;simp at h
  |[x]=>
   rw[hl]at h;simp only[List.map_cons,List.map_nil,List.cons.injEq,and_true]at h;have:x=66:=UInt8.toNat_inj.1 (by have:x.toNat=66:=Z;rw[this];rfl);rw[this]
  |x::y::r=>rw[hl]at h;simp at h
 .intro h;rw[h];rfl
def UJ(a:¬B.size=0):(mo B).1=((oc B).1:Int):=by rw[mo,if_neg a]
def abN(a:¬B.size=0):(mo B).2.2=(oc B).2.d.I:=by rw[mo,if_neg a]
def aqf(a:¬B.size=0)(h:¬(oc B).1=B.size):(mo B).2.1=É:=by rw[mo,if_neg a];simp[h]
def abO(a:¬B.size=0)(h:(oc B).1=B.size){x:Bool}(b:x=(decide ((oc B).2.C=[])||decide ((oc B).2.C=[66]))):(mo B).2.1=x:=by rw[mo,if_neg a,b];simp[h]
def aqg(B:ByteArray):(oc B).2.d.r=É->(oc B).2.d.S=[]:=λe=>((Jz B.size 0 td (UE B)<|Ø _).1.d.N e).1
theorem abP(q:B.size<=1200): Ö À 45 #[Ä B] w λe u=>
  fc fh w u/\∃v,e=Ê (è #[v,Å È (mo B).1,þ (mo B).2.1])/\((mo B).2.1=Ì->DF w.heap.size v (mo B).2.2 u):=by
 by_cases a:B.size=0
 .have f:=UF B a;have n:=eZ (show mo B=(0,Ì,[])from if_pos a);go_enter ż,Ÿ;go_wp2;apply ó (v:=è #[Ç Á 0 0,Å È 0,þ Ì]) (by simp[Ĺ,Ě,go_sem]) U;exact⟨fc.fV _ _,_,by rw[n.out],λ_=>by rw[n.out];exact DF.pV w⟩
 .have f:=uH B a;have b:=eZ a;go_enter ż,Ÿ;go_wp2_with (go_at_call 61;refine(aqc (aqd w) q).mono ?_;rintro e r ⟨k,d,i,rfl,⟨n,g,O,s,c⟩,h,t⟩);have l:fc fh w r:=((fc.iw (λi=>w.heap.size<=i) w _ _).fj n).ff λi D x=>by omega
  have E:=c.r.r 0 _ U;have F:=c.r.r 1 _ U;by_cases m:k=B.size
  .subst m;have y:=t U;subst y;have o:=eZ c.I;have p:=eZ λn=>c.iW (aqg B) n;have n:=eZ h;have d:=eZ l;have z:((B.size:Int)==(B.size:Int))=Ì:=fp
   by_cases a:s.size=0
   .have f:=UF s a;have j:=eZ (abO b.out n.out (x:=Ì)<|by rw[<-o.out,abk s a];rfl);go_quiet (fail);go_wp2;apply ó (v:=è #[g.N,Å È B.size,þ Ì]) (by simp[Ĺ,Ě,go_sem]) U;exact⟨d.out.fj<|fc.jh _ _ _,_,by rw[UJ b.out,n.out,j.out],λ_=>by rw[abN b.out];exact p.out _⟩
   .have f:=uH s a;have j:=eZ (abO b.out n.out (x:=(s.toList==[66])) (by
     rw[<-o.out];have C:¬gN s=[]:=λe=>by have:=FI s;grind
     rw[decide_eq_false C,Bool.false_or,đ,beq_iff_eq,decide_eq_true_iff,aqe]))
    go_quiet (fail)
    go_wp2;apply ó (v:=è #[g.N,Å È B.size,þ<|s.toList==[66]]) (by simp[Ĺ,Ě,go_sem]) U;exact⟨d.out.fj<|fc.jh _ _ _,_,by rw[UJ b.out,n.out,j.out],λ_=>by rw[abN b.out];exact p.out _⟩
  .have z:((k:Int)==(B.size:Int))=É:=by rw[beq_eq_false_iff_ne];omega
   have n:=eZ (Ë h<|aqf b.out<|by rwa[h]);have d:=eZ l;go_quiet (fail);go_wp2;apply ó (v:=è #[g.N,Å È k,þ É]) (by simp[Ĺ,Ě,go_sem]) U;exact⟨d.out.fj<|fc.jh _ _ _,_,by rw[UJ b.out,n.out.1,n.out.2],λe=>by rw[n.out.2]at e;cases e⟩
def aqh(h:B.size<=Ĳ): Ö À 36 #[Ä B] w λe u=>
  fc fh w u/\∃v,e=Ê (è #[v,Å È (gy B).1,Å È (gy B).2.1])/\((gy B).1=0->DF w.heap.size v (gy B).2.2 u)/\((gy B).1≠0->v=Ç Á 0 0):=by
 unfold Ĳ at h;by_cases b:1200<B.size
 .have a:=eZ (show gy B=(1,0,[]) by rw[gy,if_pos b]);go_enter ĳ,Ŋ;go_wp2;apply ó (v:=è #[Ç Á 0 0,Å È 1,Å È 0]) (by simp[Ĺ,Ĵ,go_sem]) U;exact⟨fc.fV _ _,_,by rw[a.out],(λe=>by rw[a.out]at e;cases e),λ_=>rfl⟩
 .have f:B.size<=1200:=Z
  cases c:(mo B).2.1 with
  |true=>
   have a:=eZ (show gy B=(0,0,(mo B).2.2) by rw[gy,if_neg b,if_pos c]);go_enter ĳ,Ŋ;go_wp2_with (go_at_call 45;refine(abP f).mono ?_;rintro e i ⟨d,v,rfl,g⟩);apply ó (v:=è #[v,Å È 0,Å È 0]) (by simp[Ĺ,Ĵ,go_sem]) U;exact⟨d,_,by rw[a.out],(λ_=>by rw[a.out];exact g c),λe=>by rw[a.out]at e;exact absurd U e⟩
  |false=>
   have a:=eZ (show gy B=(2,(mo B).1,[]) by rw[gy,if_neg b,if_neg (by rw[c];exact Bool.false_ne_true)]);go_enter ĳ,Ŋ;go_wp2_with (go_at_call 45;refine(abP f).mono ?_;rintro e i ⟨d,v,rfl,g⟩);apply ó (v:=è #[Ç Á 0 0,Å È 2,Å È (mo B).1]) (by simp[Ĺ,Ĵ,go_sem]) U;exact⟨d,_,by rw[a.out],(λe=>by rw[a.out]at e;cases e),λ_=>rfl⟩
end
end Go.Proofs.Y.lC
namespace Go.Proofs.Y.iV
open Go Go.Conc Go.Proofs Go.RowKit Go.Proofs.Y.Lift Go.Proofs.Y.gu Go.Proofs.Y.fA Go.Proofs.Y.lC
structure JB(a:Nat)(t:PT)(w:Í):Prop where
 r:∃cs fz,w.heap[a]?=Â (ä cs 200 fz)
 c:∀i,i<5->w.cell? ⟨a,i,Á⟩=Â (Å È<|t.c.getD i 0)
 p:w.cell? ⟨a,5,Á⟩=Â (Ä t.p)
structure zu(r:Nat)(p:PR)(w:Í):Prop where
 c:∀i,i<8->w.cell? ⟨r,i,Á⟩=Â (Å È<|p.c.getD i 0)
 b:∃bp n cp,w.cell? ⟨r,8,Á⟩=Â (Ç bp n cp)/\n=p.tx.length/\∀(j:Nat) (t:PT),p.tx[j]?=Â t->∃tb a,bp=Â ⟨tb,0,Á⟩/\w.cell? ⟨tb,j,Á⟩=Â (Ã<|Â ⟨a,0,Á⟩)/\JB a t w
structure RQ(rs:List PR)(v:Ñ)(U:Nat->Prop)(w:Í):Prop where
 C:kO nB U w
 I:fu (lB U nB) v v
 M:∃bp cp,v=Ç bp rs.length cp/\∀(j:Nat) (p:PR),rs[j]?=Â p->∃sb r,bp=Â ⟨sb,0,Á⟩/\w.cell? ⟨sb,j,Á⟩=Â (Ã<|Â ⟨r,0,Á⟩)/\zu r p w
section
variable{f:Nat->Prop}{rs:List PR}{Y:fw}
theorem aqi(h:je Y X u w){t:PT}(d:Y i n)(k:JB i t u):JB n t w:=by refine⟨?_,λb f=>(zj h).r d<|k.c b f,(zj h).I d k.p⟩;let⟨c,g,e,j,l,m,o,_⟩:=h.r i n d;let⟨r,s,q⟩:=k.r;grind
theorem aqj(h:je Y X u w){r:Nat}{p:PR}(e:Y r i)(k:zu r p u):zu i p w:=by refine⟨λd f=>(zj h).r e<|k.c d f,?_⟩;let⟨G,n,g,l,m,o⟩:=k.b;let⟨x,q,s⟩:=zj h r i 8 _ e l;obtain⟨v,rfl,y⟩:=Jo s;refine⟨v,n,g,q,m,λj t z=> ?_⟩;let⟨tb,a,B,C,H⟩:=o j t z;let⟨I,J,D⟩:=y _ B;obtain⟨E,rfl,F⟩:=vT D;let⟨K,L,M⟩:=zj h tb E j _ F C;grind [Jn,vT,aqi]
theorem aqk(h:je Y X u w)(b:fu Y v x)(a:RQ rs v f u):RQ rs x (λj=>∃i,f i/\Y i j) w:=by refine⟨Ul h a.C,Np b a.I,?_⟩;obtain⟨s,i,rfl,c⟩:=a.M;obtain⟨d,rfl,e⟩:=Jo b;refine⟨d,i,U,λj p g=> ?_⟩;let⟨k,r,l,m,t⟩:=c j p g;let⟨y,z,n⟩:=e _ l;obtain⟨o,rfl,q⟩:=vT n;let⟨B,C,D⟩:=zj h k o j _ q m;grind [Jn,vT,aqj]
def xF(k:W.heap[b]?=w.heap[b]?)(h:w.cell? ⟨b,i,Á⟩=Â z):W.cell? ⟨b,i,Á⟩=Â z:=by simp only[Û,k];exact h
def aql(l:kO nB X w)(k:∀b,X b->W.heap[b]?=w.heap[b]?){r:Nat}{p:PR}(d:X r)(h:zu r p w):zu r p W:=by
 refine⟨λi e=>xF (k r d)<|h.c i e,?_⟩;let⟨u,n,v,m,x,y⟩:=h.b;refine⟨u,n,v,xF (k r d) m,x,λj t z=> ?_⟩;let⟨tb,a,o,q,f⟩:=y j t z;have s:X tb:=by have:=l.r d m;rw[o]at this;exact Dt this
 have g:=Ds<|l.r s q;exact⟨tb,a,o,xF (k tb s) q,⟨by rw[k a g];exact f.r,λi e=>xF (k a g)<|f.c i e,xF (k a g) f.p⟩⟩
def RQ.r(h:RQ rs v f w)(k:∀b,f b->W.heap[b]?=w.heap[b]?):RQ rs v f W:=by
 refine⟨h.C.C k,h.I,?_⟩;obtain⟨g,i,rfl,l⟩:=h.M;refine⟨g,i,U,λj p m=> ?_⟩;let⟨a,r,c,d,n⟩:=l j p m;have e:f a:=by have:=h.I;rw[c]at this;exact Dt this
 exact⟨a,r,c,xF (k a e) d,aql h.C k (Ds<|h.C.r e d) n⟩
def abQ{v:Ñ}(h:nA m i v):fu (lB (λd=>m<=d/\d<i) nB) v v:=by
 cases v with
 |int k n=>exact .iB k n
 |bool b=>exact .lY b
 |string i=>exact .kt i
 |pointer a=>cases a with
  |none=>exact .lF
  |some a=>exact fu.jE (Y:=lB (λd=>m<=d/\d<i) nB) ⟨⟨U,h⟩,U,U⟩
 |slice a n c=>cases a with
  |none=>exact .nF n c
  |some a=>exact fu.j5 (Y:=lB (λd=>m<=d/\d<i) nB) ⟨⟨U,h⟩,U,U⟩ n c
 |_=>exact absurd h<|by simp[nA]
def aqm{v:Ñ}(h:nA m i v):zM v=É:=by
 cases v with
 |int k n=>cases k<;>first|rfl|exact absurd h<|by simp[nA]
 |_=>rfl
def aqn(h:jI m w):kO nB (λi=>m<=i/\i<w.heap.size) w:=λb i=>by let⟨c,e,f,g,j,k,l,n,d⟩:=h b _ i.1<|â i.2;exact⟨c,e,f,by rw[â i.2,g],j,oN λv a=>abQ<|d v a,k,A8 λv a=>aqm<|d v a,l,n⟩
theorem abR{base:Nat}(h:w.ownsRow base e 1 v jJ.length (oa jJ)):∃b f,v=Ç b jJ.length f/\∀(j r:Nat),jJ[j]?=Â r->∃a,b=Â ⟨a,0,Á⟩/\base<=a/\w.cell? ⟨a,j,Á⟩=Â (Ã<|Â ⟨r,0,Á⟩):=by
 obtain⟨m,⟨n,o⟩|⟨g,p,q,rfl,i,k,s,t,u,l⟩⟩:=h
 .grind
 .refine⟨_,_,U,λj r c=>⟨g,U,i,?_⟩⟩;have x:=(Ô.1 c).1;have d:(oa jJ)[j]?=Â (Ã<|Â ⟨r,0,Á⟩):=by simp[oa,c]
  rw[<-l,List.getElem?_take_of_lt Z]at d;simp only[Û,k,í,ç,if_false];simpa using d
def abS(h:fq n (pf zQ++[z]) T w)(a:i<zQ.length):w.cell? ⟨n,i,Á⟩=Â (Å È<|zQ.getD i 0):=h.r i _<|Uv a z
def abT(h:fq i (pf zQ++[z]) T w)(a:zQ.length=n):w.cell? ⟨i,n,Á⟩=Â z:=h.r n _<|by rw[<-a];exact Dx zQ z
def aqo{r:PR}(h:xC i n r w):zu n r w:=by
 let⟨x,tb,e,l,y,b⟩:=h.I;refine⟨λa c=>abS e (by rwa[h.C]),?_⟩;obtain⟨m,o,rfl,p⟩:=abR l;refine⟨m,_,o,abT e h.C,b.r,λj t f=> ?_⟩;have g:j<tb.length:=by rw[b.r];exact(Ô.1 f).1
 let⟨s,u,z,v⟩:=p j tb[j]<|Ò g;let⟨_,_,k,d⟩:=b.I j tb[j] t (Ò g) f;exact⟨s,tb[j],u,v,⟨_,_,d⟩,λa c=>abS d (by rwa[k]),abT d k⟩
def aqp(h:DF m v rs w):RQ rs v (λi=>m<=i/\i<w.heap.size) w:=by
 let⟨f,i,b,c⟩:=h;obtain⟨d,k,rfl,l⟩:=abR b;refine⟨aqn f,?_,d,k,by rw[c.I],λj p e=> ?_⟩
 .cases d with
  |none=>exact .nF _ _
  |some a=>
   have:=b.lt a.block (by rcases b.2 with⟨q,_⟩|⟨g,n,o,q,_⟩<;>(cases q;try rfl));exact abQ this
 .have a:j<i.length:=by rw[c.I];exact(Ô.1 e).1
  let⟨g,q,o,n⟩:=l j i[j]<|Ò a;exact⟨g,i[j],q,n,aqo<|c.M j i[j] p (Ò a) e⟩
end
def abU(B:ByteArray)(z:Ñ)(u:Í):Prop:=∃v,z=è #[v,Å È (gy B).1,Å È (gy B).2.1]/\((gy B).1=0->∃a,RQ (gy B).2.2 v a u)
def aqr(B:ByteArray):wI (abU B):=λv u T D h=>by let⟨x,a,b⟩:=h;refine⟨x,a,λe=> ?_⟩;let⟨U,c⟩:=b e;exact⟨U,c.r λ_ _=>rfl⟩
def aqs{l:fe}(f:gq l)(s:¬l.q)(t:nB<=l.w.heap.size)(u:B.size<=Ĳ)(m:Bool)(h:č)(k:List č): fA.fi À m (λa n=>iA l a/\a.d=l.d/\∃v,n=G (h.finish<|è #[v,Å È (gy B).1,Å È (gy B).2.1]) k/\((gy B).1=0->∃V,RQ (gy B).2.2 v V a.w/\∀b,V b->a.O b/\l.w.heap.size<=b)) l (G (ê À 36 #[Ä B] ā)<|h::k):=by
 let⟨X,c,C,V⟩:=xo 36 fL;have D:∀T,Ö À 36 #[Ä B] (World.tp (j2 (λj=>False/\¬(mB l).O j) l.w) T 0) fun|Ê v,j=>abU B v j/\kl j|_,_=>False:=λT=>by refine(aqh u).mono ?_;rintro e p ⟨g,v,rfl,i,o⟩;exact⟨⟨v,U,λe=>⟨_,aqp<|i e⟩⟩,g.gU A9⟩
 refine((Dc xY IL xo (aqr B) fL C V (Ft f) s (λb q=>q.elim) ⟨λb q=>q.elim,t⟩ (λg q=>by cases q) (oN λv g=>by simp at g;subst g;exact .kt B) D m h k).mB f).ff ?_;rintro a n ⟨x',⟨Y,j,v,v',_,E,F,⟨v0,rfl,o⟩,H,I,_,J⟩,rfl,K,L,_,_⟩;cases F with
 |@lZ _ cs'' hs kz=>
  let⟨M⟩:=cs'';match M,hs with
  |[x,y,z],_=>
   have g:=kz 0 fp fp;have p:=kz 1 fp fp;have r:=kz 2 fp fp;simp at g p r;cases p;cases r;refine⟨K,J,x,H,λe=> ?_⟩;let⟨U,N⟩:=o e;refine⟨_,aqk E g (N.r λ_ _=>rfl),λb V=> ?_⟩;let⟨i,_,P⟩:=V;let⟨Q,S⟩:=I i b P;have W:l.w.heap.size<=b:=S.elim (λq=>q.elim) λq=>q.elim (λq=>q.elim) id;refine⟨Æ (Q.resolve_right λq=> ?_),W⟩;rw[L]at q;have:=f.fv b q;omega
end Go.Proofs.Y.iV
namespace Go.Proofs.Y.gu
open Go Go.Proofs Go.RowKit Go.Proofs.Y.Lift
def DG:List Ñ:=iz (jx 8)++[Ç Á 0 0,Å È 0,Ç Á 0 0]
def aqt(w:Í):Ö À 44 #[] w λe a=>∃c B,e=Ê (Ç (Â ⟨c,0,Á⟩) 1 1)/\fq B DG 147 a/\fq c [Ã<|Â ⟨B,0,Á⟩] 136 a/\fc fh w a:=by
 have d:(iz<|jx 8).length=144:=xu _;have i:(iz (jx 8)++[Ç Á 0 0]).length=145:=by rw[Õ,d];rfl
 have f:=eZ<|Ë d i;unfold DG;have j:=eZ λW=>ana W;generalize jx 8=s at*;go_enter Tryz.func44,Tryz.ntmps44;go_wp2_with (first
  |(go_at_call 60;refine(j.out _).mono ?_;rintro e W ⟨rfl,b⟩;have k:=eZ b;clear b)
  |(with_reducible refine Ċ U (Â 2) U _ _ (aap U U f.out.1) ?_)
  |(with_reducible refine Ċ U (Â 3) U _ _ (anp U U f.out.2) ?_)
  |(with_reducible refine Ċ U (Â 4) U _ _ (sW U U) ?_))
 have g:=fq.N (W.alloc<|ä (iz s++[Ç Á 0 0,Å È 0,Ç Á 0 0]).toArray 147) [Ã<|Â ⟨W.heap.size,0,Á⟩] 136;have h:=fc.iw fh (W.alloc<|ä (iz s++[Ç Á 0 0,Å È 0,Ç Á 0 0]).toArray 147) #[Ã<|Â ⟨W.heap.size,0,Á⟩] 136;have l:(W.alloc<|ä (iz s++[Ç Á 0 0,Å È 0,Ç Á 0 0]).toArray 147).heap.size=W.heap.size+1:=fp
 rw[l]at g;have b:=eZ<|Ë ((fq.N W (iz s++[Ç Á 0 0,Å È 0,Ç Á 0 0]) 147).C h id)<|Ë g<|(k.out.fj<|fc.iw fh W (iz s++[Ç Á 0 0,Å È 0,Ç Á 0 0]).toArray 147).fj h;go_ret;exact⟨W.heap.size+1,W.heap.size,U,b.out.1,b.out.2.1,b.out.2.2⟩
def aqu(n:Int)(j:1<=n)(k:n<=8)(w:Í):Ö À 35 #[Å È n] w λe b=>∃g a B,e=Ê (è #[Ã<|Â ⟨g,0,Á⟩,Å È 0])/\fq g [Å È n,Ç (Â ⟨a,0,Á⟩) 1 1] 68 b/\fq B DG 147 b/\fq a [Ã<|Â ⟨B,0,Á⟩] 136 b/\fc fh w b:=by go_enter Tryz.func35,Tryz.ntmps35;go_wp2_with (go_at_call 44;refine(aqt _).mono ?_;rintro e c ⟨a,B,rfl,f,h,i⟩;have d:=eZ<|Ë f<|Ë h i;clear f h i);go_ret2;have f:=fc.iw fh c #[Å È n,Ç (Â ⟨a,0,Á⟩) 1 1] 68;exact⟨c.heap.size,a,B,U,fq.N c [Å È n,Ç (Â ⟨a,0,Á⟩) 1 1] 68,d.out.1.C f id,d.out.2.1.C f id,d.out.2.2.fj f⟩
end Go.Proofs.Y.gu
namespace Go.Proofs.Y.iV
open Go Go.Conc Go.Proofs Go.RowKit Go.Proofs.Y.Lift Go.Proofs.Y.gu Go.Proofs.Y.fA Go.Proofs.Y.lC
section
variable{w':Í}{Y:fw}{a:Nat->Prop}
def abV:∀v∈DG,(∃k n,v=Å k n/\k≠ŧ)\/(∃p,v=Ä p)\/v=Ç Á 0 0:=λv k=>by
 unfold DG at k;rcases æ.1 k with q|q
 .rcases Uk _ v q with⟨n,rfl⟩|⟨p,rfl⟩
  .exact Æ ⟨_,_,U,A⟩
  .exact Î<|Æ ⟨p,U⟩
 .simp at q;rcases q with rfl|rfl|rfl
  .exact Î<|Î U
  .exact Æ ⟨_,_,U,A⟩
  .exact Î<|Î U
def abW:kx [gu.iR]:=⟨A,A,λv b=>by simp at b;subst b;exact⟨⟨(λp a=>by cases a),(λp a=>by cases a),Ø _,Ø _⟩,aaJ,Ŗ _,show(0:Int)<1 by decide⟩⟩
def aqv(d:gu.fq n DG 147 w)(f:gu.fq i [Ã<|Â ⟨n,0,Á⟩] 136 w):RD [gu.iR] (Ç (Â ⟨i,0,Á⟩) 1 1) (λk=>k=i\/k=n) w:=by
 refine⟨[(n,gu.iR)],U,abW,⟨_,1,1,U,Ü _,⟨U,λj b v e=> ?_⟩⟩,?_,fu.j5 (Y:=lB (λk=>k=i\/k=n) nB) ⟨⟨U,Æ U⟩,U,U⟩ 1 1⟩
 .cases j with
  |zero=>
   cases e;exact⟨_,0,U,f.r 0 _ U,(anq aaJ<|by rwa[ł])⟩
  |succ j=>simp at e
 .rintro b (rfl|rfl)
  .refine⟨_,_,_,f,fp,oN λv c=> ?_,fp,A8 λv c=> ?_,A,A⟩
   .simp at c;subst c;exact fu.jE (Y:=lB (λk=>k=b\/k=n) nB) ⟨⟨U,Î U⟩,U,U⟩
   .simp at c;subst c;rfl
  .refine⟨_,_,_,d,fp,oN λv c=> ?_,by simp[DG],A8 λv c=> ?_,A,A⟩
   .rcases abV v (by simpa using c)with⟨k,a,rfl,_⟩|⟨p,rfl⟩|rfl
    .exact .iB k a
    .exact .kt p
    .exact .nF 0 0
   .rcases abV v (by simpa using c)with⟨k,a,rfl,g⟩|⟨p,rfl⟩|rfl
    .cases k<;>first|rfl|exact absurd U g
    .rfl
    .rfl
def FU(b:Nat)(n:Int)(c:Ñ)(w:Í):Prop:=∃a,w.heap[b]?=Â (ä #[Å È n,c] 68 a)/\a=(0,0)
def FU.r{n:Int}(h:FU i n v w)(k:w'.heap[i]?=w.heap[i]?):FU i n v w':=by let⟨a,b,c⟩:=h;exact⟨a,k.trans b,c⟩
def aqw(h:je Y a u w)(g:∀b,¬a b)(q:Y i j)(k:gu.fq i [Å È c,v] 68 u):∃l,fu Y v l/\FU j c l w:=by
 let⟨d,r,e,D,s,m,t,z,_,B,_⟩:=h.r i j q;unfold gu.fq at k;rw[k]at m;cases m;have f:=z.r<|g j;let⟨C⟩:=r;match C,f.r with
 |[x,y],_=>
  have o:=f.C 0 fp fp;have p:=f.C 1 fp fp;simp at o p;cases o;exact⟨y,p,s,t,(B<|g j).symm⟩
end
def abX(n:Int)(z:Ñ)(u:Í):Prop:=∃a b B,z=è #[Ã<|Â ⟨a,0,Á⟩,Å È 0]/\gu.fq a [Å È n,Ç (Â ⟨b,0,Á⟩) 1 1] 68 u/\RD [gu.iR] (Ç (Â ⟨b,0,Á⟩) 1 1) (λi=>i=b\/i=B) u/\a≠b/\a≠B
def aqx(n:Int):wI (abX n):=λv u T D h=>by let⟨b,c,B,d,e,a⟩:=h;exact⟨b,c,B,d,e,a.1.r λ_ _=>rfl,a.2⟩
def aqy{l:fe}(r:gq l)(L:¬l.q)(M:nB<=l.w.heap.size){n:Int}(N:1<=n)(P:n<=8)(D:Bool)(s:č)(t:List č): fA.fi À D (λf E=>iA l f/\f.d=l.d/\∃a e,E=G (s.finish<|è #[Ã<|Â ⟨a,0,Á⟩,Å È 0]) t/\FU a n e f.w/\f.O a/\l.w.heap.size<=a/\∃V,RD [gu.iR] e V f.w/\¬V a/\∀b,V b->f.O b/\l.w.heap.size<=b) l (G (ê À 35 #[Å È n] ā)<|s::t):=by
 let⟨fn,c,Q,u⟩:=xo 35 fL;have S:∀T,Ö À 35 #[Å È n] (World.tp (j2 (λj=>False/\¬(mB l).O j) l.w) T 0) fun|Ê v,k=>abX n v k/\kl k|_,_=>False:=λT=>by refine(aqu n N P _).mono ?_;rintro e C ⟨a,m,B,rfl,h,o,p,g⟩;exact⟨⟨a,m,B,U,h,aqv o p,gu.fq.G h p A,gu.fq.G h o A⟩,g.gU A9⟩
 refine((Dc xY IL xo (aqx n) fL Q u (Ft r) L (λb q=>q.elim) ⟨λb q=>q.elim,M⟩ (λg q=>by cases q) (oN λv e=>by simp at e;subst e;exact .iB _ _) S D s t).mB r).ff ?_;rintro f E ⟨z,⟨Y,k,v,v',_,g,W,⟨a,m,B,rfl,h,o,p,X⟩,q5,q7,_,q6⟩,rfl,ha,hR,_,_⟩;have F:∀i j,Y i j->(nT l z).O j/\l.w.heap.size<=j:=λi j e=>by let⟨C,H⟩:=q7 i j e;have I:l.w.heap.size<=j:=H.elim (λq=>q.elim) λq=>q.elim (λq=>q.elim) id;refine⟨Æ (C.resolve_right λq=> ?_),I⟩;rw[hR]at q;have:=r.fv j q;omega
 cases W with
 |@lZ _ cs'' hs kz=>
  let⟨ls⟩:=cs'';match ls,hs with
  |[x,y],_=>
   have H:=kz 0 fp fp;have I:=kz 1 fp fp;simp at H I;cases I;obtain⟨a2,rfl,m3⟩:=Jn H;obtain⟨J,rfl,C⟩:=vT m3;have h2':RD [gu.iR] (Ç (Â ⟨m,0,Á⟩) 1 1) (λi=>i=m\/i=B) {k with tape:=z.w.tape,drawn:=z.w.drawn}:=o.r λ_ _=>rfl;let⟨uy,K,e2⟩:=aqw g (λj q=>q.1) C h;let⟨vs,k1,k2,k3,k4,k5⟩:=h2';let⟨vs',n1,n2⟩:=Jp (zj g) K k3;let⟨p1,p2⟩:=F a J C;refine⟨ha,q6,J,uy,q5,e2,p1,p2,_,⟨vs',n1.trans k1,k2,n2,Ul g k4,Np K k5⟩,?_,λb u=> ?_⟩
   .rintro⟨i,hi,e⟩;have:=g.C.2.1 _ _ _ C e;subst this;exact hi.elim p X
   .let⟨i,_,e⟩:=u;exact F i b e
end Go.Proofs.Y.iV
namespace Go.Proofs.Y.iV
open Go Go.Conc Go.Proofs Go.RowKit Go.Proofs.Y.Lift Go.Proofs.Y.gu Go.Proofs.Y.fA Go.Proofs.Y.lC
structure wi(an:Nat)(xs:List ByteArray)(w:Í):Prop where
 r:∀(p:Nat) (x:ByteArray),xs[p]?=Â x->w.cell? ⟨an,p,Á⟩=Â (Ä x)
 C:w.cell? ⟨an,xs.length,Á⟩=Á
section
variable{an:Nat}{xs:List ByteArray}
theorem wi.sx(h:wi an xs w)(j:0<xs.length):∃c e d,w.heap[an]?=Â (ä c e d)/\c.size=xs.length/\∀v∈c.toList,∃x,v=Ä x:=by
 have i:∀p,p<xs.length->w.cell? ⟨an,p,Á⟩=Â (Ä xs[p]!):=λp a=>h.r p _ (by simp[a]);have b:=i 0 j;have f:=h.C;simp only[Û]at b f;cases g:w.heap[an]? with
 |none=>rw[g]at b;cases b
 |some o=>
  cases o<;>rw[g]at b f<;>simp only[í,ç,if_false]at b f<;>first|cases b|skip
  rename_i c e d;have k:c.size<=xs.length:=by grind
  have l:=λp a=>by have:=i p a;simp only[Û,g,í,ç,if_false]at this;exact this
  have m:xs.length<=c.size:=by grind
  refine⟨c,e,d,U,Nat.le_antisymm k m,λv n=> ?_⟩;let⟨p,a⟩:=Đ n;have q:p<c.size:=by have:=(Ô.1 a).1;simpa using this
  have:=l p Z;rw[į]at a;rw[this]at a;cases a;exact⟨_,U⟩
end
def aqz{l:fe}(o:gq l)(F:¬l.q)(H:nB<=l.w.heap.size)(h:wi i vX l.w)(I:0<vX.length)(J:l.M i)(p:lJ i=É)(f:kZ l.w i=Â (0,0))(hn:vX.length<=1000)(K:B.size=1)(L:jd vX+vX.length<=140737488355328)(r:Bool)(k:č)(m:List č): fA.fi À r (λn s=>iA l n/\n.d=l.d/\s=G (k.finish<|Ä<|lk B vX) m) l (G (ê À 38 #[Ç (Â ⟨i,0,Á⟩) vX.length vX.length,Ä B] ā)<|k::m):=by
 let⟨fn,c,N,P⟩:=xo 38 fL;let⟨t,e,Q,y,b2,z⟩:=h.sx I;have C:(λj=>j=i/\¬(mB l).O j)=λj=>j=i:=by funext j;exact propext ⟨λq=>q.1,λq=>⟨q,id⟩⟩
 have S:∀T,Ö À 38 #[Ç (Â ⟨i,0,Á⟩) vX.length vX.length,Ä B] (World.tp (j2 (λj=>j=i) l.w) T 0) fun|Ê v,E=>v=Ä (lk B vX)/\kl E|_,_=>False:=λT=>by
  refine(aaO U Z (Ü _) K (λj v a=> ?_) L).mono ?_
  .unfold rV at a;rw[ć]at a;obtain⟨x,b,rfl⟩:=ì.1 a;exact⟨i,0,U,by rw[Ņ];exact qn (Æ p)<|h.r j x b⟩
  .rintro e g ⟨rfl,b⟩;exact⟨U,b.gU A9⟩
 have V:∀v∈t.toList,fu (mh (λj=>j=i) À.globals.size) v v:=λv a=>by obtain⟨x,rfl⟩:=z v a;exact .kt x
 have X:fU (mh (λj=>j=i) À.globals.size) #[Ç (Â ⟨i,0,Á⟩) vX.length vX.length,Ä B] #[Ç (Â ⟨i,0,Á⟩) vX.length vX.length,Ä B]:=oN λv a=>by
  have b:v=Ç (Â ⟨i,0,Á⟩) vX.length vX.length\/v=Ä B:=by simpa using a
  rcases b with rfl|rfl
  .exact fu.j5 (Y:=mh (λj=>j=i) À.globals.size) ⟨⟨U,U⟩,U,U⟩ _ _
  .exact .kt B
 have W:=Dc xY IL xo (λv u T D h=>h) fL N P (Ft o) F (λb q=>Î<|by rwa[q]) (by rw[C];refine⟨λb q=> ?_,H⟩;subst q;exact⟨t,e,Q,y,(by unfold kZ at f;rw[y]at f;cases f;exact Ø _),oN V,λ_=>⟨Z,(λq=>by rw[p]at q;cases q),λ_=>A8 λv a=>by obtain⟨x,rfl⟩:=z v a;rfl⟩⟩) (λg q=>by cases q) X (by rwa[C]) r k m;refine(W.mB o).ff ?_;rintro n s ⟨D,⟨Y,E,v,v',_,_,b,rfl,g,_,_,u⟩,rfl,x,_,_,_⟩;cases b;exact⟨x,u,g⟩
end Go.Proofs.Y.iV
namespace Go.Proofs.Y.fA
open Go Go.Conc Go.Proofs.Y.Lift
open Go.ConcN (sumTo sumTo_congr)
def UK(P:Λ)(a:Ñ->Í->Prop):Jd:=λl g=>g.status=.running/\∃v,(∀w,stepG P Ì g w=.ended (.done v) w)/\a v l.w
section
variable{Y:Nat->Prop}{e:Nat->fe}
def kL.nA{J:Jd}{T:gl}(c:kL P Y zX i J T D e E w qJ){sl:Option (Nat×Nat)}(k:vQ v u):Ź P vQ (Ĥ E w sl) (.done v) u qJ:=by
 have C:=c.r.r;have f:∀a g,E[a]?=Â g->a≠0->QuitsD P (D a) (Deaf qJ a) g:=λa g b d=>by
  let⟨g0,j,h,_,_⟩:=c.r.C a g b;obtain rfl:g=g0:=by cases h;rfl
  simp only[d,if_false]at j;rw[C.f a<|(Þ.1 b).1];exact j _<|fI.fV _ _
 refine⟨v,U,k,C.l,c.N,⟨λg l=> ?_,U⟩,λa g b d=>⟨D a,(f a g b d).hears _⟩⟩;let⟨j,h⟩:=Đ l;rw[List.getElem?_drop]at h;exact⟨_,(f (1+j) g (by rwa[<-į]) Z).leaves⟩
theorem aqA{J:Jd}{T:gl}{l:fe}(u:l.w=W)(v:l.d=0)(m:¬l.q)(n:∀b,¬l.I b)(r:∀a,¬l.r a)(o:∀a,¬l.N a)(y:∀a,¬l.K a)(z:∀b,l.O b->b<W.heap.size)(B:g.status=.running)(C:ly P Ì J T l g):sR P (λ_=>False) 0 J T (λ_=>0) (λ_=>l) #[g] W #[]:=by
 have f:∀(p:Nat) a,touchAt #[] p=Â a->False:=λp a h=>by unfold touchAt Trace.act? at h;simp at h
 refine⟨fp,⟨⟨λi j s D E=> ?_,λi j s D E=> ?_,λi _ b _=>n b,λi _ a _=>o a,λ_ _ _ _=>id,λi _ a e=>e.elim (λq=>absurd q<|r a) λq=>absurd q<|o a,λi _ b F=>F.elim (z b) λq=>absurd q<|n b,λ_ h=>h.elim,λi _=>by rw[u];exact fI.fV _ _,λi _=>⟨λa e p x k=>(f p x k).elim,λa e=>(n _ e).elim,λa e=>(r a e).elim,λa e=>(o a e).elim⟩,λi _=>by rw[v];rfl,λH q=> ?_,λI G=>by simp at G,λp a c h=>(f p a h).elim,λi _ a e=>absurd e<|y a⟩,λi x k=> ?_,λj _=>rfl⟩,λi L s=> ?_,m,λp a h=>(f p a h).elim,λp a x h=>(f p a h).elim,λa _ q m=> ?_,?_⟩
 .grind
 .grind
 .let⟨i,j,_,⟨a,b,e,_⟩,_⟩:=q;simp[Trace.act?]at e
 .have t:i<1:=(Þ.1 k).1;obtain rfl:i=0:=Z
  obtain rfl:g=x:=by simpa using k
  exact⟨g,C,.gO,Æ B,Æ U⟩
 .grind
 .simp[Trace.act?]at m
 .intro i g t;simp[Trace.g?]at t
end
end Go.Proofs.Y.fA
namespace Go.Proofs.Y.iV
open Go Go.Conc Go.Proofs Go.RowKit Go.Proofs.Y.Lift Go.Proofs.Y.gu Go.Proofs.Y.fA Go.Proofs.Y.lC
open Go.ConcN (sumTo)
def Bg(f:Ñ->Í->Prop)(c:Array Ą)(w:Í)(d:Option (Nat×Nat))(t:Ŭ):Prop:=
 ∃N a v b e,ů À (N+1) (Ĥ c w d) t=(.ended (.done v) b,e)/\runN À N (Ĥ c w d)=.next a/\step À a=.ended (.done v) b/\Ź À f a (.done v) b e
section
variable{Post:Ñ->Í->Prop}{f:Array Ą}{w':Í}{sl e:Option (Nat×Nat)}{t:Ŭ}{l:fe}
def Bg.ff(h:Bg Post E w sl t)(a:∀v u,Post v u->vQ v u):Bg vQ E w sl t:=by let⟨M,b,v,x,c,d,e,f,g⟩:=h;exact⟨M,b,v,x,c,d,e,f,g.mono λv q=>a v x q⟩
def Bg.nT{N:Nat}(r:ů À N (Ĥ E w sl) t=(.next<|Ĥ f w' e,qJ))(h:Bg Post f w' e qJ):Bg Post E w sl t:=by
 let⟨M,a,v,x,b,c,d,g,i⟩:=h;refine⟨N+M,a,v,x,b,?_,?_,g,i⟩
 .rwa[Nat.add_assoc,runNT_add,r]
 .rw[<-œ À (N+M) (Ĥ E w sl) t,runNT_add,r];rwa[œ]
def tw(Post:Ñ->Í->Prop)(E:Array Ą)(w:Í)(sl:Option (Nat×Nat))(t:Ŭ):Prop:=Bg (λv u=>Post v u/\u.os=w.os/\u.output=w.output) E w sl t
def tw.r{N:Nat}(r:ů À N (Ĥ E w sl) t=(.next<|Ĥ f w' e,qJ))(a:w'.os=w.os/\w'.output=w.output)(h:tw Post f w' e qJ):tw Post E w sl t:= Bg.nT r<|h.ff λ_ _ q=>⟨q.1,q.2.1.trans a.1,q.2.2.trans a.2⟩
def kL.aqB{Y:Nat->Prop}:∀(s:Nat) (h:Nat->Nat) (j:Nat->fe) (E:Array Ą) (w:Í) (sl:Option (Nat×Nat)) (t:Ŭ),sumTo E.size h=s->kL À Y zX n (UK À Post) .fD h j E w t->tw Post E w sl t:=by
 intro s
 induction s using Nat.strongRecOn with
 |_ s r=>
  intro h j E w sl t I c;have J:=c.C;obtain⟨g0,a⟩:∃g,E[0]?=Â g:=⟨_,â Z⟩;have o:∀d,UK À Post {j 0 with w:=w.at d} g0:=λd=>by
   let⟨u,b,k,_,_⟩:=(c.I d).r.C 0 g0 a;obtain rfl:g0=u:=by cases k;rfl
   exact b (w.at d)<|(c.I d).r.r.r 0 Z
  obtain⟨i,g,d,e,l,x,m⟩:=crowd_pick c.LP ⟨0,g0,a,(o 0).1⟩;by_cases p:i=0
  .subst p;rw[a]at l;obtain rfl:=Ξ l;let⟨_,v,q,y⟩:=o d;have u:stepT À (Ĥ E w sl)=(.ended (.done v)<|w.at d,#[]):=by
    rw[m,ConcN.runT_crowd_ended a<|q<|w.at d];rfl
   refine⟨0,Ĥ E w sl,v,w.at d,t,?_,U,?_,c.nA ⟨y,U,U⟩⟩
   .simp[ů,u]
   .have:=stepT_fst À (Ĥ E w sl) Ì;rw[<-this];rw[u]
  .let⟨q,y,f,u,b,k,K,L,z⟩:=(c.I d).B_ (sl:=e) l p x;let⟨N,B,v,w',qJ,C,D,F,G⟩:=r (sumTo f.size q) (by rw[k];omega) q y f (w.at d) e (t++u) U z;refine⟨N+1,B,v,w',qJ,by simp only[ů,m,b];exact C,?_,F,G⟩;have:=œ À (N+1) (Ĥ E w sl) t;rw[<-this];simp only[ů,m,b];rwa[œ]
structure ic(l:fe):Prop where
 r:gq l
 d:l.d=0
 q:¬l.q
 rd:∀b,¬l.I b
 I:∀a,¬l.r a
 M:∀a,¬l.N a
 k:∀a,¬l.K a
def ic.C(h:ic l){w₁:Í}(r:fI l l.w w₁):ic {l with w:=w₁}:= ⟨⟨h.r.c,h.r.Y,h.r.S,λb q=>Ę (h.r.fv b q) r.r,λa q=>q.elim (λz=>(h.I a z).elim) λz=>(h.M a z).elim,λa q=>(h.k a q).elim⟩,h.d,h.q,h.rd,h.I,h.M,h.k⟩
def jm(Post:Ñ->Í->Prop)(l:fe)(g:Ą):Prop:=
 ic l->g.status=.running->∀(a:Loc->Prop) (H:Nat) (J:Jd) (c:Nat->Nat) (b:Nat->fe) (E:Array Ą) (sl:Option (Nat×Nat)) (t:Ŭ),xm a H l->fA.sR À a H J .fD c b E l.w t->(b 0).d=0->E[0]?=Â g->tw Post E l.w sl t
def aqC{a:fe}(h:xm zX i l)(k:rJ l a l.w a.w):xm zX i a:= ⟨h.r,λb c x d q=>by
  rcases k.N b c with z|z
  .exact h.fg b z x d q
  .have:=h.r x q;have:=h.C;omega,Ï h.C k.r⟩
def UL{J f:Jd}{e:Nat->fe}(a:ic l)(h:g.status=.running)(j:xm zX i l)(c:fA.sR À zX i J .fD D e E l.w t)(m:(e 0).d=0)(n:E[0]?=Â g)(W:fA.fi À Ì f l g):∃T,fA.sR À zX i f T D (fA.wK e l) E l.w t:=by let⟨T,o⟩:=jq W;exact⟨T,kL.Y c m n h U a.d a.q a.rd a.I a.M a.k (λb q=>⟨a.r.fv b<|Æ q,j.fg b q⟩) o⟩
def abY{Y:Nat->Prop}{J:Jd}{a:Nat->fe}(c:kL À Y zX i J .fD D a E w t):∃g,E[0]?=Â g/\J {a 0 with w:=w} g:=by
 obtain⟨g0,b⟩:∃g,E[0]?=Â g:=⟨_,â c.C⟩;let⟨d,e,f,_,_⟩:=c.r.C 0 g0 b;obtain rfl:g0=d:=by cases f;rfl
 exact⟨g0,b,e w<|c.r.r.r 0 c.C⟩
def NJ(Post:Ñ->Í->Prop):Jd:=λl g=>ic l/\g.status=.running/\jm Post l g
def aqD{b:Nat->fe}{T:gl}(m:(b 0).w=w)(n:xm zX i (b 0))(c:fA.sR À zX i (NJ Post) T D b E w t):tw Post E w sl t:=by let⟨N,o,p,f,w',e,qJ,r,_,a,j⟩:=kL.G (λl g h=>Æ h.2.1) T _ D b E w sl t U c;let⟨v,q,h,s,u⟩:=abY j;refine tw.r r ⟨a.C,a.I⟩<|u h s zX i (NJ Post) o p f e qJ ?_ j h.d q;apply aqC n;rw[m];exact⟨a.r,a.N,a.rd,a.S,a.b,a.k,a.ki,a.M,a.Y,a.C,a.I,a.c⟩
def uI(W:fA.fi À Ì (NJ Post) l g):jm Post l g:=by intro b d i H J j k E sl t a c e f;let⟨T,h⟩:=UL b d a c e f W;exact aqD (by rw[fA.Tl]) (by rwa[fA.Tl]) h
def aqE(W:fA.fi À Ì (UK À Post) l g):jm Post l g:=by intro b d s H J i u E sl t j c k m;let⟨T,n⟩:=UL b d j c k m W;let⟨N,o,p,f,w',e,qJ,r,_,a,q⟩:=kL.G (λl g h=>Æ h.1) T _ i _ E l.w sl t U n;exact tw.r r ⟨a.C,a.I⟩<|kL.aqB _ o p f w' e qJ U q
def Bb.N{e:xB}{kd:Nat->Int}{f:List fM}{c:fe}(h:Bb X e i kd f l n v c)(r:fI c c.w u):Bb X e i kd f l n v {c with w:=u}:=by have a:=λb q=>r.I b<|Æ q;let⟨V,j,g⟩:=h.S;exact⟨λb q=>⟨(h.M b q).1,(a b (h.M b q).1).trans (h.M b q).2⟩,⟨h.r.1,λp k=>(gK<|a n h.r.1).trans<|h.r.2 p k⟩,⟨V,j.r λb q=>a b (g b q).1,g⟩,h.d,h.q,h.rd,h.C,(gK<|a n h.r.1).trans h.I.1,(yn<|a n h.r.1).trans h.I.2⟩
def aqF{kd:Nat->Int}{rq:Nat->Nat}{Y:xB}{V0 h:Nat->Prop}{s0:List fM}{B:Option ù}{F:Option ù}{R:Nat}{C:č}{z:Array Ĝ} (AO:0<R->F=Â ⟨j7,0,Á⟩) (Fi:0<R->l.M j7) (It:∀i,i<R->l.w.cell? ⟨j7,i,Á⟩=Â (Ã<|Â ⟨rq i,0,Á⟩)) (Iu:∀i,i<R->l.w.cell? ⟨rq i,4,Á⟩=Â (Å È<|kd i)) (I:Jt l Y kd rq R X) (hZ:(∀b,X b->h b)/\∀b,b=1\/b=2\/b=3\/b=4->h b) (hZO:∀b,h b->l.O b) (hVZ:∀b,V0 b->h b) (C9:RD s0 (Ç B j j9) V0 l.w) (hn:1<=n) (hs:n+R<1000) (hJ:∀o v p m c,ic o->Bb h Y R kd s0 l v (Ç p m c) o->jm Post o (G (C.at (y.put ((z[i]?).bind (·.dst))<|è #[Ç (Â ⟨v,0,Á⟩) R R,Ç p m c])<|Ð z jJ::L) qX)): jm Post l (Fh (Ç B j j9) (Ç F R j6) n<|C.at y (Ð z (i::jJ)::L)::qX):=by
 intro s hr jr H J lv lot E sl t Ns c hd K;have W:fA.fi À Ì (MN kd rq R n (Ç B j j9) l<|C.at y (Ð z (i::jJ)::L)::qX) l (Fh (Ç B j j9) (Ç F R j6) n<|C.at y (Ð z (i::jJ)::L)::qX):= akj s.r s.q s.d Z AO Fi It (λi K=>Æ<|I.fg _<|I.r i K) Iu λg P o u x D v S T V bw bf v1 h1 h2=>⟨g,P,u,x,D,v,S,T,V,bw,bf,v1,h1,h2,U⟩;let⟨T,c'⟩:=UL s hr Ns c hd K W;let⟨N,za,IK,f,w',e,qJ,r,_,x,c''⟩:=kL.G (λlx gx P=>by obtain⟨_,_,_,_,_,_,_,_,_,_,_,_,_,_,rfl⟩:=P;exact Æ U) T _ lv _ E l.w sl t U c';apply tw.r r ⟨x.C,x.I⟩;let⟨N2,aqG,S,T2,Tq,Tr,gs2,w2,MO,t2,r2,io2,c2⟩:=aoU (J:=λu S o D=>xm u S o/\NJ Post o D) U c'' e s.r s.rd s.q s.d Ns I hZ hZO hVZ C9 ⟨x.C,x.I⟩ hn hs λFs H' o v p m c V z2 u=> .fD λw₁ D=>by have kV:ic o:=⟨z2,u.d,u.q,u.rd,u.C.1,u.C.2.1,u.C.2.2⟩;exact⟨⟨V.r,V.fg,Ï V.C D.r⟩,kV.C D,U,hJ _ v p m c (kV.C D)<|u.N D⟩
 apply tw.r r2 ⟨io2.1.trans x.C.symm,io2.2.trans x.I.symm⟩;let⟨N3,lv3,aqH,gs3,w3,sl3,t3,r3,_,wn3,c3⟩:=kL.G (λlx gx P=>Æ P.2.2.1) T2 _ Tq Tr gs2 w2 MO t2 U c2;apply tw.r r3 ⟨wn3.C,wn3.I⟩;let⟨g3,UM,qE,P,hr3,hs3⟩:=abY c3;exact hs3 P hr3 aqG S _ lv3 aqH gs3 sl3 t3 qE c3 P.d UM
end
end Go.Proofs.Y.iV
namespace Go.Proofs.Y.iV
open Go Go.Conc Go.Proofs Go.RowKit Go.Proofs.Y.Lift Go.Proofs.Y.gu Go.Proofs.Y.fA Go.Proofs.Y.lC
open Go.Conc.Lib Go.ConcR.Gen Go.Proofs.YtgpphkdoanciiaaGreatDoor
def iF(r:PR):Prop:=r.c.getD 4 0≠4/\r.c.getD 4 0≠5/\∀t∈r.tx,t.c.getD 4 0=1\/t.c.getD 4 0=2
def JC(r:PR):Prop:=iF r\/TO/\aaW
structure QO(r:PR):Prop extends Dy r where
 I:JC r
def QO.lo{r:PR}(h:QO r):Dy r:=⟨h.c,h.tx,h.n⟩
def toTx(t:PT):Tx:=⟨(t.c.getD 0 0).toNat,(t.c.getD 1 0).toNat,t.c.getD 2 0,t.c.getD 3 0,t.c.getD 4 0,t.p⟩
def toQn(r:PR):Qn:=⟨(r.c.getD 0 0).toNat,(r.c.getD 1 0).toNat,(r.c.getD 2 0).toNat,(r.c.getD 3 0).toNat,r.c.getD 4 0,r.c.getD 5 0,r.c.getD 6 0,(r.c.getD 7 0).toNat⟩
def qz:PR:=⟨[],[]⟩
def xG(a:List PR):xB where
 r:=λp=>((a.getD p qz).c.getD 5 0,((a.getD p qz).c.getD 0 0).toNat,(a.getD p qz).tx.map toTx)
 C:=λp=>toQn<|a.getD p qz
def lE(a:List PR)(p:Nat):Int:=(a.getD p qz).c.getD 4 0
section
variable{r:Nat}{p:PR}{t:PT}{a:Nat}{rs:List PR}{l:fe}{V:Nat->Prop}
def toTx_ok(h:Be t)(d:t.c.getD 4 0≠1->t.c.getD 4 0≠2->TO):(toTx t).Ok:=by have e:=h.c.r 0 A;have f:=h.c.r 1 A;have a:=h.c.r 2 A;have b:=h.c.r 3 A;simp only[lr]at e f a b;exact⟨⟨by show(t.c.getD 0 0).toNat<8;omega,by show(t.c.getD 1 0).toNat<8;omega,a.1,a.2,b.1,b.2,h.p⟩,d⟩
def QO.C(h:QO p)(x:PT)(a:x∈p.tx):(toTx x).Ok:=toTx_ok (h.tx x a) λb c=>by
 rcases h.I with q|q
 .rcases q.2.2 x a with e|e<;>contradiction
 .exact q.1
theorem Bh(a:0<=c)(h:w.cell? ⟨b,i,Á⟩=Â (Å È c)):w.cell? ⟨b,i,Á⟩=Â (Å È (c.toNat:Nat)):=by grind
theorem aqI(h:Be t)(k:JB a t w):nY a (toTx t) w:=by have b:=h.c.r 0 A;have d:=h.c.r 1 A;simp only[lr]at b d;exact⟨k.r,Bh b.1<|k.c 0 A,Bh d.1<|k.c 1 A,k.c 2 A,k.c 3 A,k.c 4 A,k.p⟩
theorem aqJ(h:QO p)(k:zu r p w):Du r (p.c.getD 5 0) (p.c.getD 0 0).toNat (p.tx.map toTx) w:=by
 have e:=h.c.r 0 A;simp only[lr]at e;let⟨f,n,i,l,m,o⟩:=k.b;let⟨s,u,v⟩:=xZ (R:=λj t (y:Nat×Tx)=>y.2=toTx t/\∃d,f=Â ⟨d,0,Á⟩/\w.cell? ⟨d,j,Á⟩=Â (Ã<|Â ⟨y.1,0,Á⟩)/\JB y.1 t w) p.tx 0 λj t z=>by let⟨d,a,y,g,q⟩:=o j t z;simp_all
 refine⟨f,n,i,s,⟨Bh e.1<|k.c 0 A,k.c 5 A,l⟩,⟨by rw[m,u],λj a t q=> ?_⟩,?_,by have:=h.n;omega⟩
 .let⟨x,y,g,d,D,B,C⟩:=v j (a,t) q;simp only at g B C;subst g;have E:=h.tx x<|Ý y;have F:=h.C x<|Ý y;grind [aqI]
 .refine ņ λj=> ?_;unfold mP;grind
def aqK(h:QO p)(k:zu r p w):Js r (toQn p) w:=by have a:=h.c.r 0 A;have b:=h.c.r 1 A;have d:=h.c.r 2 A;have e:=h.c.r 3 A;have f:=h.c.r 7 A;simp only[lr]at a b d e f;exact⟨Bh a.1<|k.c 0 A,Bh b.1<|k.c 1 A,Bh d.1<|k.c 2 A,Bh e.1<|k.c 3 A,k.c 4 A,k.c 5 A,k.c 6 A,Bh f.1<|k.c 7 A⟩
def abZ(h:QO p)(l:p.c.getD 4 0≠1):(toQn p).Ok:=by
 have d:=h.c.r 0 A;have f:=h.c.r 1 A;have g:=h.c.r 2 A;have i:=h.c.r 3 A;have j:=h.c.r 4 A;have a:=h.c.r 5 A;have b:=h.c.r 6 A;have k:=h.c.r 7 A;simp only[lr]at d f g i j a b k;refine⟨⟨?_,?_,?_,?_,?_,?_,a.1,b.1,?_⟩,λe=> ?_⟩
 .show(p.c.getD 0 0).toNat<8;omega
 .show(p.c.getD 1 0).toNat<8;omega
 .show(p.c.getD 2 0).toNat<1000000;omega
 .show(p.c.getD 3 0).toNat<18446744073709551616;omega
 .show 2<=p.c.getD 4 0;omega
 .show p.c.getD 4 0<=9;omega
 .show(p.c.getD 7 0).toNat<16;omega
 .rcases h.I with q|q
  .rcases e with e|e
   .exact absurd e q.1
   .exact absurd e q.2.1
  .exact q.2
theorem aqL(h:RQ rs v V l.w)(j:∀r∈rs,QO r)(B:mT l.w)(C:∀b,b=1\/b=2\/b=3\/b=4->l.O b)(k:∀b,V b->l.O b): ∃a d e f,v=Ç a rs.length d/\(0<rs.length->a=Â ⟨e,0,Á⟩)/\(0<rs.length->l.O e)/\(∀i,i<rs.length->l.w.cell? ⟨e,i,Á⟩=Â (Ã<|Â ⟨f i,0,Á⟩))/\(∀i,i<rs.length->l.w.cell? ⟨f i,4,Á⟩=Â (Å È<|lE rs i))/\Jt l (xG rs) (lE rs) f rs.length V:=by
 obtain⟨m,D,rfl,E⟩:=h.M;have o:∀i,i<rs.length->rs[i]?=Â (rs.getD i qz):=λi a=>by simp[Ĕ,a]
 have p:=λi a=>Ý<|o i a;obtain⟨e,s⟩:∃e,∀i,i<rs.length->m=Â ⟨e,0,Á⟩:=by
  by_cases d:0<rs.length
  .let⟨g,r,q,_⟩:=E 0 _<|o 0 d;exact⟨g,λ_ _=>q⟩
  .simp_all
 have F:∀i,∃r,i<rs.length->l.w.cell? ⟨e,i,Á⟩=Â (Ã<|Â ⟨r,0,Á⟩)/\zu r (rs.getD i qz) l.w:=λi=>by grind
 let⟨f,g⟩:=Classical.axiomOfChoice F;have u:=λd=>by have:=h.I;rw[s 0 d]at this;exact Dt this
 refine⟨m,D,e,f,U,λd=>s 0 d,λd=>k _<|u d,λi a=>(g i a).1,λi a=>(g i a).2.c 4 A,B,C,h.C,k,λi a=>(Ds<|h.C.r (u Z) (g i a).1),λi a y=> ?_,λi a y=> ?_⟩
 .have q:=j _<|p i a;have d:=q.c.r 0 A;have z:=q.c.r 5 A;simp only[lr]at d z;refine⟨aqJ q (g i a).2,?_,z.1,λt G=> ?_,?_⟩
  .show((rs.getD i qz).c.getD 0 0).toNat<8;omega
  .obtain⟨x,H,rfl⟩:=à.1 G;exact q.C x H
  .show((rs.getD i qz).tx.map toTx).length<=1000;rw[õ];have:=q.n;omega
 .have q:=j _<|p i a;exact⟨aqK q (g i a).2,abZ q y⟩
end
theorem ab0:(∀r∈(gy B).2.2,Dy r)/\(gy B).2.2.length<=24:=by
 unfold gy;split
 .grind
 .split
  .unfold mo;split
   .grind
   .have:=(Jz B.size 0 td (UE B)<|Ø _).1.d;exact⟨this.G,this.C⟩
  .grind
def JD(a:∀r∈(gy B).2.2,JC r):(∀r∈(gy B).2.2,QO r)/\(gy B).2.2.length<=24:=⟨λr h=>⟨ab0.1 r h,a r h⟩,ab0.2⟩
def jZ(rs:List PR)(s:List fM):List ByteArray:=(Ī rs.length).map λp=>zm (xG rs) (lE rs) p<|qo (xG rs) (ij (lE rs) rs.length) s<|fP (lE rs) p
def zv(rs:List PR)(s:List fM):List fM:=qo (xG rs) (ij (lE rs) rs.length) s<|fP (lE rs) rs.length
def jR(s:List fM)(B:ByteArray):ByteArray×Int×List fM:=
 if(gy B).1=0 then(lk ⟨#[59]⟩<|jZ (gy B).2.2 s,0,zv (gy B).2.2 s)else(⟨#[]⟩,(gy B).1,s)
section
variable{b:č}{l:fe}{a:Ģ}
def ab1{md:Ķ}(I:Array Bool->Ģ->fe->Prop) (o:∀c a l i k,I c a l->i∈á md Q c->(∀f g,I (c.setIfInBounds i Ì) f g->jm vQ g (G (b.at f<|Ð Q k::L) qX))->jm vQ l (G (b.at a<|Ð Q (i::k)::L) qX)) (m:∀c a l,I c a l->c.size=Q.size->á md Q c=[]->jm vQ l (G (b.at a<|Ð Q []::L) qX)): ∀(d t:Nat) (c:Array Bool) (a:Ģ) (l:fe),c.size=Q.size->jz c<=d->I c a l->jm vQ l (G (b.at a<|Ð Q (ÿ md Q d t c [])::L) qX):=by
 intro d
 induction d with
 |zero=>
  intro t c a l e p h;simpa[ÿ]using m c a l h e<|Sb e Z
 |succ d q=>
  intro t c a l e p h;simp only[ÿ];change jm vQ l (G (b.at a (Ð Q (match(á md Q c)[t%(á md Q c).length]? with
   |some i=>ÿ md Q d (t/(á md Q c).length) (c.setIfInBounds i Ì) [i]
   |none=>[].reverse)::L)) qX)
  cases j:(á md Q c)[t%(á md Q c).length]? with
  |none=>
   have r:á md Q c=[]:=by
    cases s:á md Q c with
    |nil=>rfl
    |cons x n=>
     rw[s]at j;have u:t%(x::n).length<(x::n).length:=Nat.mod_lt _ fp;simp at j;simp at u;omega
   simpa using m c a l h e r
  |some i=>
   simp only[];rw[linearise_go_acc,List.reverse_singleton,List.singleton_append];have n:=Ý j;refine o c a l i _ h n λf g r=>(q _ _ f g (by simpa using e) (by have:=L2 (ű.1 n).1;omega) r)
def aqM{id:Nat}(I:Array Bool->Ģ->fe->Prop)(e:ic l) (j:∀f,fI l l.w f->I (ś Q.size É) a {l with w:=f}) (k:∀g c a l i m,I c a l->i∈á g Q c->(∀n o,I (c.setIfInBounds i Ì) n o->jm vQ o (G (b.at n<|Ð Q m::L) qX))->jm vQ l (G (b.at a<|Ð Q (i::m)::L) qX)) (p:∀g c a l,I c a l->c.size=Q.size->á g Q c=[]->jm vQ l (G (b.at a<|Ð Q []::L) qX)): jm vQ l (G (b.at a<|Χ (.region id Q Ì)::L) qX):=by
 refine uI (.mk U λf r=>⟨_,_,_,_,stepG_region_draw,R9 (lR e.r.r r) e.q,.fD λs d=> ?_⟩);have h:=r.fj ⟨d.r,d.I,d.N,d.Y,d.S⟩;refine⟨e.C h,U,?_⟩;unfold Region.schedule;split
 .exact ab1 I (k _) (p _) _ _ _ _ _ fp (by rw[EN];exact Ü _)<|j s h
 .exact ab1 I (k _) (p _) _ _ _ _ _ fp (by rw[EN];exact Ü _)<|j s h
def aqN{I:Ģ->fe->Prop}(W:fA.fi À Ì (λa d=>∃c,d=G (b.at c<|Ð Q jJ::L) qX/\I c a) l g)(f:∀c a,I c a->ic a)(i:∀c a,I c a->jm vQ a (G (b.at c<|Ð Q jJ::L) qX)):jm vQ l g:= uI (W.ff λa d h=>by obtain⟨c,rfl,e⟩:=h;exact⟨f c a e,U,i c a e⟩)
def DI{f:FuncId}{fn:Func}(xs:List Value)(n:Nat)(hf:Tryz.prog.funcs[f]?=some fn)(hb:fn.body=some (mg fn []):=by kernel_rfl)(hn:fn.ntmps=xs.length+n:=by kernel_rfl):Frame.enter Tryz.prog f xs.toArray .normal=(base f).at ⟨(xs++List.replicate n undef).toArray,[]⟩ [.code<|mg fn []]:=by rw[enter_at _ hf hb,hn,ń,Nat.add_sub_cancel_left,show xs.toArray++ś n Ř=(xs++Ĉ n Ř).toArray from Array.ext' fp]
def xH{J:Jd}{f:Ŕ}{args:Array Ñ}(d:Q[i]?=Â o)(e:Č o (ų Q a.tmps)=Ì)(g:b.kind≠.early)(h:kn l) (j:∀w,(Ŵ a.eval o).run À w=.ok (.enter f args) w) (k:∀w,(Ŵ a.eval o).events À w #[]=#[]) (m:∀c,fI l l.w c->fA.fi À Ì J {l with w:=c} (G (ê À f args ā)<|b.at a (Ð Q (i::jJ)::L)::qX)): fA.fi À Ì J l (G (b.at a<|Ð Q (i::jJ)::L) qX):=by refine .mk U λc r=>⟨G (ê À f args ā)<|b.at a (Ð Q (i::jJ)::L)::qX,c,#[],{l with w:=c},?_,LQ c<|lR h r,m c r⟩;rw[stepG_enter d e g<|j c];unfold Ω;rw[k c,seen_none]
def NK{f:Ŕ}{args:Array Ñ}(e:ic l)(j:Q[i]?=Â o)(k:Č o (ų Q a.tmps)=Ì)(m:b.kind≠.early) (n:∀w,(Ŵ a.eval o).run À w=.ok (.enter f args) w) (p:∀w,(Ŵ a.eval o).events À w #[]=#[]) (q:∀d,fI l l.w d->jm vQ {l with w:=d} (G (ê À f args ā)<|b.at a (Ð Q (i::jJ)::L)::qX)): jm vQ l (G (b.at a<|Ð Q (i::jJ)::L) qX):= uI (xH j k m e.r.r n p λd r=> .fD λg c=>by have h:fI l l.w g:=r.fj ⟨c.r,c.I,c.N,c.Y,c.S⟩;exact⟨e.C h,U,q g h⟩)
def iA.xn{c:fe}(e:ic l)(h:iA l c)(k:c.d=l.d):ic c:=by
 have g:∀b,¬c.I b:=by rw[h.N];exact e.rd
 have f:∀a,¬c.r a:=by rw[h.S];exact e.I
 have i:∀a,¬c.N a:=by rw[h.Y];exact e.M
 have j:∀a,¬c.K a:=by rw[h.K];exact e.k
 exact⟨⟨λb _=>g b,λa q=>(f a q).elim,λa q=>q.elim (λz=>(f a z).elim) λz=>(i a z).elim,λb q=>q.elim (λz=>h.fv b z) λz=>(g b z).elim,λa q=>q.elim (λz=>(f a z).elim) λz=>(i a z).elim,λa q=>(j a q).elim⟩,k.trans e.d,by rw[h.q];exact e.q,g,f,i,j⟩
end
def JF:Ĝ:=⟨Â 21,.move<|ļ 0,26, "attic.go:46",#[],Á⟩
def JG:Ĝ:=⟨Â 22,.nilCheck<|ļ 21,0, "attic.go:46",#[⟨0,Ă⟩],Á⟩
def JH:Ĝ:=⟨Â 23,.fieldAddr 68 (ļ 22) 1,0, "attic.go:46",#[⟨1,Ă⟩],Á⟩
def JJ:Ĝ:=⟨Â 24,.load 65<|ļ 23,65, "attic.go:46",#[⟨2,Ă⟩],Á⟩
def JK:Ĝ:=⟨Â 25,.move<|ļ 6,61, "attic.go:46",#[],Á⟩
def JL:Ĝ:=⟨Â 26,.move<|ļ 0,26, "attic.go:46",#[],Á⟩
def JN:Ĝ:=⟨Â 27,.nilCheck<|ļ 26,0, "attic.go:46",#[⟨5,Ă⟩],Á⟩
def JO:Ĝ:=⟨Â 28,.fieldAddr 68 (ļ 27) 0,0, "attic.go:46",#[⟨6,Ă⟩],Á⟩
def JP:Ĝ:=⟨Â 29,.load 3<|ļ 28,3, "attic.go:46",#[⟨7,Ă⟩],Á⟩
def zw:Ĝ:=⟨Â 30,.call {callee:=.value<|.func 37,args:=#[ļ 24,ļ 25,ļ 29],argTypes:=#[65,61,3]},66, "attic.go:46",#[⟨3,Ă⟩,⟨4,Ă⟩,⟨8,Ă⟩],Á⟩
def Bj:Ĝ:=⟨Â 20,.move<|ļ 30,66, "attic.go:46",#[⟨9,Ă⟩],Á⟩
def DJ:Ĝ:=⟨Â 31,.extract (ļ 20) 0,25, "attic.go:46",#[⟨10,Ă⟩],Á⟩
def DK:Ĝ:=⟨Â 32,.extract (ļ 20) 1,65, "attic.go:46",#[⟨10,Ă⟩,{on:=13,ground:=Ground.gcOnly Departure.lateStores}],Á⟩
def DL:Ĝ:=⟨Â 9,.assign<|ļ 31,25, "attic.go:46",#[⟨11,Ă⟩,⟨9,.chain⟩,⟨0,ë⟩,⟨1,ë⟩,⟨2,ë⟩,⟨3,ë⟩,⟨4,ë⟩,⟨5,ë⟩,⟨6,ë⟩,⟨7,ë⟩,⟨8,ë⟩,⟨9,ë⟩,⟨10,ë⟩,⟨11,ë⟩,{on:=12,ground:=Ground.textOnly Departure.lateStores}],Á⟩
def DN:Ĝ:=⟨Â 10,.assign<|ļ 32,65, "attic.go:46",#[⟨12,Ă⟩,⟨13,.chain⟩,⟨0,ë⟩,⟨1,ë⟩,⟨2,ë⟩,⟨3,ë⟩,⟨4,ë⟩,⟨5,ë⟩,⟨6,ë⟩,⟨7,ë⟩,⟨8,ë⟩,⟨9,ë⟩,⟨10,ë⟩,⟨11,ë⟩,⟨12,ë⟩,⟨13,ë⟩],Á⟩
def pj:Array Ĝ:=#[JF,JG,JH,JJ,JK,JL,JN,JO,JP,zw,Bj,DJ,DK,DL,DN]
noncomputable def UN:Code:=mg Tryz.f17 [1,1,1,1]
structure mV(l:fe)(ab n:Nat)(s:List fM)(sl:Ñ)(V:Nat->Prop):Prop where
 r:mT l.w
 C:∀b,b=1\/b=2\/b=3\/b=4->l.O b
 Y:FU ab n sl l.w
 fg:l.O ab
 rd:RD s sl V l.w
 S:∀b,V b->l.O b
 d:¬V ab
 a:1<=n
 c:n<=8
 M:¬(ab=1\/ab=2\/ab=3\/ab=4)
structure NL(l l':fe)(ab n:Nat)(s':List fM)(V:Nat->Prop):Prop where
 wO:∀b,l.O b->b≠ab->l'.O b/\l'.w.heap[b]?=l.w.heap[b]?
 att:∃uy V',mV l' ab n s' uy V'/\∀b,V' b->V b\/(b=1\/b=2\/b=3\/b=4)\/l.w.heap.size<=b
section
variable{l d:fe}{ab:Nat}{s:List fM}{sl:Ñ}{V:Nat->Prop}
def mV.I{a:fe}(h:mV l ab n s sl V)(c:∀b,l.O b->a.O b)(d:∀b,l.O b->a.w.heap[b]?=l.w.heap[b]?)(e:l.w.heap.size<=a.w.heap.size):mV a ab n s sl V:= ⟨h.r.r (Ï h.r.fv e) λb q=>d b<|h.C b q,λb q=>c b<|h.C b q,h.Y.r<|d ab h.fg,c ab h.fg,h.rd.r λb q=>d b<|h.S b q,λb q=>c b<|h.S b q,h.d,h.a,h.c,h.M⟩
def kq(ab:Nat)(n:Nat)(sl rs:Ñ)(x:Value×Value):Nat->Ñ
 |0=>Ã<|Â ⟨ab,0,Á⟩
 |1=>Ã<|Â ⟨ab,0,Á⟩
 |2=>Ã<|Â ⟨ab,1,Á⟩
 |3=>sl
 |4=>rs
 |5=>Ã<|Â ⟨ab,0,Á⟩
 |6=>Ã<|Â ⟨ab,0,Á⟩
 |7=>Ã<|Â ⟨ab,0,Á⟩
 |8=>Å È n
 |9=>è #[x.1,x.2]
 |10=>è #[x.1,x.2]
 |11=>x.1
 |12=>x.2
 |13=>x.1
 |14=>x.2
 |_=>Ř
def xI(d:fe)(V:Nat->Prop)(rs:List PR)(s:List fM)(listed:Array Bool)(x:Value×Value)(l:fe):Prop:=
 ic l/\(listed.getD 9 É=É->gd fh d l)/\(listed.getD 9 É=Ì->∃a e p m c,gd fh d a/\x=(Ç (Â ⟨e,0,Á⟩) rs.length rs.length,Ç p m c)/\Bb (λb=>V b\/b=1\/b=2\/b=3\/b=4) (xG rs) rs.length (lE rs) s a e (Ç p m c) l)
def xI.kj{V:Nat->Prop}{a:List PR}{s:List fM}{listed:Array Bool}{x:Value×Value}(h:xI d V a s listed x l)(b:i≠9){w₁:Í}(r:fI l l.w w₁):xI d V a s (listed.setIfInBounds i Ì) x {l with w:=w₁}:=by
 have e:(listed.setIfInBounds i Ì).getD 9 É=listed.getD 9 É:=by simp[Array.getD_eq_getD_getElem?,Array.getElem?_setIfInBounds_ne b]
 refine⟨h.1.C r,λq=> ?_,λq=> ?_⟩
 .rw[e]at q;exact(h.2.1 q).G r
 .rw[e]at q;let⟨f,g,p,m,c,j,k,n⟩:=h.2.2 q;exact⟨f,g,p,m,c,j,k,n.N r⟩
theorem aqO{D:Array Ñ}{I:List PR}(J:mV d ab n s sl V)(T:D.size=39)(W:D[0]?=Â (Ã<|Â ⟨ab,0,Á⟩))(Y:D[6]?=Â z) (md:Ķ) (listed:Array Bool) (a:Ģ) (l:fe) (i:Nat) (O:List Nat) (hI:II pj D (kq ab n sl z) (xI d X I s) listed a l) (p:i∈á md pj listed) (F:i≠9): fA.fi À Ì (λc e=>∃b,e=G ((base 17).at b<|Ð pj O::L) qX/\II pj D (kq ab n sl z) (xI d X I s) (listed.setIfInBounds i Ì) b c) l (G ((base 17).at a<|Ð pj (i::O)::L) qX):=by
 let⟨x,g,H⟩:=hI;have t:rC pj D.size=Ì:=by rw[T];decide
 have K:=Aw p;have u:=H.1.r.r;have y:=H.1.q;have P:=(g.C A).trans W;have Bl:=(g.C A).trans Y;have B:∀c,fI l l.w c->xI d X I s (listed.setIfInBounds i Ì) x {l with w:=c}:=λc r=>H.kj F r;let⟨fr,kz,_⟩:=J.Y;have early:∀m,m<15->listed.getD m É=É->(∃e,e∈zw.after/\e.on=m/\vA e=Ì)->listed.getD 9 É=É:=λm _ hm ⟨e,h1,h2,h3⟩=>by
  cases q:listed.getD 9 É with
  |false=>rfl
  |true=>
   have:=g.S 9 zw e U q h1 h3;rw[h2,hm]at this;cases this
 have iO:pj.size=15:=A
 rw[iO]at K;have Po:listed.getD i É=É:=by have:=(ű.1 p).1;grind
 have S:∀{j v},(∃e,e∈zw.after/\e.on=i/\vA e=Ì)->#[Å È n,sl][j]?=Â v->gQ l ⟨ab,j,Á⟩/\l.w.cell? ⟨ab,j,Á⟩=Â v:=λq h=>by have b:=H.2.1<|early i K Po q;exact⟨Æ<|b.M<|Æ J.fg,(gK<|b.r ab (Æ J.fg) id).trans<|by simp[Û,kz,h]⟩
 match i,K,F with
 |9,_,F=>exact absurd U F
 |0,_,_=>
  exact iu (o:=JF) t g U U p (by k_ne) u y (λc r=>by simp only[kq,JF];go_simp) (λc r e f=>by simp[go_sem,JF,P]at f) B
 |1,_,_=>
  have b:=g.r 0 JF 21 U (il p U U) U;simp only[kq]at b;exact iu (o:=JG) t g U U p (by k_ne) u y (λc r=>by simp only[kq,JG];go_simp) (λc r e f=>by simp[go_sem,JG,b]at f) B
 |2,_,_=>
  have b:=g.r 1 JG 22 U (il p U U) U;simp only[kq]at b;exact iu (o:=JH) t g U U p (by k_ne) u y (λc r=>by simp only[kq,JH];go_simp) (λc r e f=>by simp[go_sem,JH,b]at f) B
 |3,_,_=>
  have b:=g.r 2 JH 23 U (il p U U) U;simp only[kq]at b;let⟨C,E⟩:=S (j:=1) ⟨⟨3,Ă⟩,by simp[zw],U,U⟩ U;refine iu (o:=JJ) t g U U p (by k_ne) u y (λc r=> ?_) (λc r e f=> ?_) B
  .have N:=(C.r r).trans E;simp only[kq,JJ];go_simp
  .have N:=(C.r r).trans E;simp[go_sem,JJ,b,N]at f;subst f;exact C.rd
 |4,_,_=>
  exact iu (o:=JK) t g U U p (by k_ne) u y (λc r=>by simp only[kq,JK];go_simp) (λc r e f=>by simp[go_sem,JK,Bl]at f) B
 |5,_,_=>
  exact iu (o:=JL) t g U U p (by k_ne) u y (λc r=>by simp only[kq,JL];go_simp) (λc r e f=>by simp[go_sem,JL,P]at f) B
 |6,_,_=>
  have b:=g.r 5 JL 26 U (il p U U) U;simp only[kq]at b;exact iu (o:=JN) t g U U p (by k_ne) u y (λc r=>by simp only[kq,JN];go_simp) (λc r e f=>by simp[go_sem,JN,b]at f) B
 |7,_,_=>
  have b:=g.r 6 JN 27 U (il p U U) U;simp only[kq]at b;exact iu (o:=JO) t g U U p (by k_ne) u y (λc r=>by simp only[kq,JO];go_simp) (λc r e f=>by simp[go_sem,JO,b]at f) B
 |8,_,_=>
  have b:=g.r 7 JO 28 U (il p U U) U;simp only[kq]at b;let⟨C,E⟩:=S (j:=0) ⟨⟨8,Ă⟩,by simp[zw],U,U⟩ U;refine iu (o:=JP) t g U U p (by k_ne) u y (λc r=> ?_) (λc r e f=> ?_) B
  .have N:=(C.r r).trans E;simp only[kq,JP];go_simp
  .simp[go_sem,JP,b,(C.r r).trans E]at f;subst f;exact C.rd
 |10,_,_=>
  have b:=g.r 9 zw 30 U (il p U U) U;simp only[kq]at b;exact iu (o:=Bj) t g U U p (by k_ne) u y (λc r=>by simp only[kq,Bj];go_simp) (λc r e f=>by simp[go_sem,Bj,b]at f) B
 |11,_,_=>
  have b:=g.r 10 Bj 20 U (il p U U) U;simp only[kq]at b;exact iu (o:=DJ) t g U U p (by k_ne) u y (λc r=>by simp only[kq,DJ];go_simp) (λc r e f=>by simp[go_sem,DJ,b]at f) B
 |12,_,_=>
  have b:=g.r 10 Bj 20 U (il p U U) U;simp only[kq]at b;exact iu (o:=DK) t g U U p (by k_ne) u y (λc r=>by simp only[kq,DK];go_simp) (λc r e f=>by simp[go_sem,DK,b]at f) B
 |13,_,_=>
  have b:=g.r 11 DJ 31 U (il p U U) U;simp only[kq]at b;exact iu (o:=DL) t g U U p (by k_ne) u y (λc r=>by simp only[kq,DL];go_simp) (λc r e f=>by simp[go_sem,DL,b]at f) B
 |14,_,_=>
  have b:=g.r 12 DK 32 U (il p U U) U;simp only[kq]at b;exact iu (o:=DN) t g U U p (by k_ne) u y (λc r=>by simp only[kq,DN];go_simp) (λc r e f=>by simp[go_sem,DN,b]at f) B
end
def aqP(x y:Ñ)(n:Nat)(a:List č):G (ê À 37 #[x,y,Å È n] ā) a=Fh x y n a:=by unfold Fh;rw[enter_at #[x,y,Å È n] Ž (c:=mg Tryz.f37 []) fx];kernel_rfl
section
variable{l g:fe}{s:List fM}{V:Nat->Prop}{d:List PR}
theorem aqQ{F:Array Ñ}(D:mV g i n s x V)(W:RQ d v X g.w)(M:∀b,X b->g.O b)(Y:∀r∈d,QO r)(Cu:d.length<=24)(ht:F.size=39) (md:Ķ) (listed:Array Bool) (a:Ģ) (l:fe) (N:List Nat) (hI:II pj F (kq i n x v) (xI g (λb=>V b\/X b) d s) listed a l) (B:9∈á md pj listed) (hn:∀P E,II pj F (kq i n x v) (xI g (λb=>V b\/X b) d s) (listed.setIfInBounds 9 Ì) P E->jm vQ E (G ((base 17).at P<|Ð pj N::L) qX)): jm vQ l (G ((base 17).at a<|Ð pj (9::N)::L) qX):=by
 let⟨t,y,Q⟩:=hI;have Po:=(ű.1 B).1;have h9s:9<listed.size:=by grind
 have H:listed.getD 9 É=É:=by grind
 have e24:a.tmps[24]?=Â x:=y.r 3 JJ 24 U (il B U U) U;have e25:a.tmps[25]?=Â v:=y.r 4 JK 25 U (il B U U) U;have e29:a.tmps[29]?=Â (Å È n):=y.r 8 JP 29 U (il B U U) U;have late:∀(S:Value×Value) j,listed.getD j É=Ì->kq i n x v S j=kq i n x v t j:=λS j u=>by
  have c:listed.getD 10 É=É:=by
   cases q:listed.getD 10 É with
   |false=>rfl
   |true=>exact absurd (y.S 10 Bj ⟨9,Ă⟩ U q (by simp[Bj]) U)<|by rw[H];decide
  have e:listed.getD 11 É=É:=by
   cases q:listed.getD 11 É with
   |false=>rfl
   |true=>exact absurd (y.S 11 DJ ⟨10,Ă⟩ U q (by simp[DJ]) U)<|by rw[c];decide
  have h:listed.getD 12 É=É:=by
   cases q:listed.getD 12 É with
   |false=>rfl
   |true=>exact absurd (y.S 12 DK ⟨10,Ă⟩ U q (by simp[DK]) U)<|by rw[c];decide
  have m:listed.getD 13 É=É:=by
   cases q:listed.getD 13 É with
   |false=>rfl
   |true=>exact absurd (y.S 13 DL ⟨11,Ă⟩ U q (by simp[DL]) U)<|by rw[e];decide
  have p:listed.getD 14 É=É:=by
   cases q:listed.getD 14 É with
   |false=>rfl
   |true=>exact absurd (y.S 14 DN ⟨12,Ă⟩ U q (by simp[DN]) U)<|by rw[h];decide
  match j with
  |9=>rw[H]at u;cases u
  |10=>rw[c]at u;cases u
  |11=>rw[e]at u;cases u
  |12=>rw[h]at u;cases u
  |13=>rw[m]at u;cases u
  |14=>rw[p]at u;cases u
  |0|1|2|3|4|5|6|7|8=>rfl
  |j+15=>rfl
 refine NK (f:=37) (args:=#[x,v,Å È n]) Q.1 (o:=zw) U (Ho U _) (by k_ne) (λw=> ?_) (λw=> ?_) λw₁ r=> ?_
 .simp only[zw];go_simp
 .exact ĥ U Ž U U #[]
 have z:=(Q.2.1 H).G r;have C:=D.I (λb q=>z.O b q) (λb q=>z.r b (Æ q) id) z.I;have T:=λb q=>z.O b<|M b q;obtain⟨ra,cr,rb,rq,rfl,AO,Fi,It,Iu,ready⟩:=aqL (W.r λb q=>z.r b (Æ<|M b q) id) Y C.r C.C T;obtain⟨I,J,K,rfl⟩:∃I J K,x=Ç I J K:=by let⟨_,_,_,⟨I,J,K,e,_⟩,_⟩:=D.rd;grind
 rw[aqP];refine aqF AO (λh=>Æ<|Fi h) It Iu ready ⟨λb q=>Æ<|Î q,λb q=>Î q⟩ (λb q=>q.elim (λq=>q.elim (C.S b)<|T b)<|C.C b) (λb q=>Æ<|Æ q) C.rd D.a (by have:=D.c;omega) λE e p m c h hT=> ?_;refine hn _ E ⟨(Ç (Â ⟨e,0,Á⟩) d.length d.length,Ç p m c),(y.G<|late _).fO (by rw[ht];decide) U B λ_=>rfl,h,λq=> ?_,λ_=>⟨_,e,p,m,c,z,U,hT⟩⟩;simp_all
end
section
variable{l o l4:fe}{ab:Nat}{s:List fM}{sl:Ñ}{V:Nat->Prop}{rs:List PR}
structure ab2(l l4:fe)(ab n:Nat)(s:List fM)(sl:Ñ)(V:Nat->Prop)(rs:List PR)(an:Nat)(uy:Ñ):Prop where
 r:∀b,l.O b->l4.O b/\l4.w.heap[b]?=l.w.heap[b]?
 fv:nB<=l4.w.heap.size
 C:l4.O an/\wi an (jZ rs s) l4.w/\kZ l4.w an=Â (0,0)
 IJ:∃V',RD (zv rs s) uy V' l4.w/\(∀b,V' b->l4.O b)/\¬V' ab/\∀b,V' b->V b\/(b=1\/b=2\/b=3\/b=4)\/l.w.heap.size<=b
def aqR{kd:Nat->Int}(h:∀p,p<rs.length->w.cell? ⟨i,p,Á⟩=Â (Ä<|zm (xG rs) (lE rs) p<|qo (xG rs) (ij (lE rs) rs.length) s<|fP (lE rs) p))(d:w.cell? ⟨i,rs.length,Á⟩=Á):wi i (jZ rs s) w:=by refine⟨λp x a=> ?_,by unfold jZ;simpa using d⟩;unfold jZ at a;rw[ć]at a;obtain⟨q,e,rfl⟩:=ì.1 a;let⟨b,c⟩:=Ô.1 e;simp at b c;subst c;exact h p b
def NM:(jZ rs s).length=rs.length:=by simp[jZ]
def aqS:nB<=5:=by show À.globals.size<=5;decide+kernel
def aqT{f:fe}{p:Option ù}(d:mV l ab n s sl V)(t:gq l)(u:∀b,X b->l.w.heap.size<=b)(v:∀b,l.O b->o.O b/\o.w.heap[b]?=l.w.heap[b]?)(x:l.w.heap.size<=o.w.heap.size)(y:gq l4)(e:gd fh o f)(a:Bb (λb=>(V b\/X b)\/b=1\/b=2\/b=3\/b=4) (xG rs) rs.length (lE rs) s f i (Ç p m j) l4):ab2 l l4 ab n s sl V rs i (Ç p m j):=by
 have g:∀b,l.O b->l4.O b/\l4.w.heap[b]?=l.w.heap[b]?:=λb q=>by let⟨z,h⟩:=v b q;let⟨k,r⟩:=a.M b<|e.O b z;exact⟨k,r.trans<|(e.r b (Æ z) id).trans h⟩
 refine⟨g,?_,⟨a.r.1,aqR (kd:=lE rs) a.r.2 a.I.1,a.I.2⟩,?_⟩
 .have:=y.fv 4<|Æ (g 4<|d.C 4 A).1;have:=aqS;omega
 .let⟨h,B,k⟩:=a.S;have r:∀b,h b->V b\/(b=1\/b=2\/b=3\/b=4)\/l.w.heap.size<=b:=λb q=>by
   rcases(k b q).2 with((z|z)|z)|z
   .exact Æ z
   .exact Î<|Î<|u b z
   .exact Î<|Æ z
   .exact Î<|Î<|Ï (Ï x e.I) z
  refine⟨h,B,λb q=>(k b q).1,λq=> ?_,r⟩;rcases r ab q with z|z|z
  .exact d.d z
  .exact d.M z
  .have:=t.fv ab<|Æ d.fg;omega
def aqU{f:fe}{p:Option ù}(d:mV l ab n s sl V)(h:ab2 l l4 ab n s sl V rs i (Ç p m j))(E:gq l4)(g:∀b,l4.O b->f.O b)(r:∀b,l4.O b->f.w.heap[b]?=(l4.w.setCell ⟨ab,1,Á⟩<|Ç p m j).heap[b]?)(v:l4.w.heap.size<=f.w.heap.size):NL l f ab n (zv rs s) V:=by
 let⟨x,y,t,u,z⟩:=h.IJ;have k:∀b,l4.O b->b≠ab->f.w.heap[b]?=l4.w.heap[b]?:=λb q e=>(r b q).trans<|lG (a:=⟨ab,1,Á⟩) e;have o:=h.r ab d.fg;refine⟨λb q e=>⟨g b (h.r b q).1,(k b (h.r b q).1 e).trans (h.r b q).2⟩,Ç p m j,x,⟨?_,λb q=>g b (h.r b<|d.C b q).1,?_,g ab o.1,y.r λb q=>k b (t b q) λe=>u<|e▸q,λb q=>g b<|t b q,u,d.a,d.c,d.M⟩,z⟩
 .exact d.r.r (Ï h.fv v) λb q=>(k b (h.r b<|d.C b q).1 λe=>d.M<|e▸q).trans (h.r b<|d.C b q).2
 .let⟨B,C,D⟩:=d.Y;refine⟨B,?_,D⟩;rw[r ab o.1];unfold Ū;simp[Į,o.2,C]
def aqV{J:Jd}(b:kn l)(d:fA.fi À Ì J l (G (f.at (y.put ((Q[i]?).bind (·.dst))<|Ä ⟨#[]⟩)<|Ð Q jJ::L) qX)): fA.fi À Ì J l (G (ê À 38 #[Ç O 0 j,Ä B] ā)<|f.at y (Ð Q (i::jJ)::L)::qX):=by
 have hF:True:=trivial;rw[DI [_,_] 73 Ď];simp only[Ĉ,Ħ,ī];conv in mg _ _=>whnf
 apply fR (n:=60) b;repeat w_go fy
 u_in fy hF
 refine ž (t:=4) U U Ď U ⟨by u_nil,?_⟩;refine ă λ_ _=> ?_;exact d
def wi.I{w':Í}{xs:List ByteArray}(h:wi i xs w)(k:w'.heap[i]?=w.heap[i]?):wi i xs w':= ⟨λp x a=>xF k<|h.r p x a,by have:=h.C;simp only[Û,k]at this|-;exact this⟩
def aqW{xs:List ByteArray}(g:mT w)(h:wi i xs w):lJ i=É:=by
 have b:∀e,Nq i e w->False:=λe ⟨c,o,j,_,_,d,l⟩=>by
  have f:w.cell? ⟨i,0,Á⟩=Â c[0]:=by simp only[Û,j,í,ç,if_false];exact â d
  rcases ě xs.length with q|q
  .have a:=h.C;rw[q,f]at a;cases a
  .have a:=h.r 0 _<|Ò q;let⟨k,n,m⟩:=l c[0]<|é.2<|ú d;rw[f,m]at a;cases a
 cases q:lJ i with
 |false=>rfl
 |true=>
  unfold lJ at q;simp at q;rcases q with rfl|rfl
  .exact(b _ g.I).elim
  .exact(b _ g.C).elim
def iA.aqX(a:kn l)(r:fI l l.w u):iA l {l with w:=u}:=⟨λ_ q=>q,λ_ q=>Æ q,U,U,U,U,U,r,lR a r⟩
def aqY{a:Ģ}{xs:List ByteArray}(b:ic l)(j:nB<=l.w.heap.size)(h:wi n xs l.w)(m:l.O n)(o:lJ n=É)(p:kZ l.w n=Â (0,0))(s:xs.length<=1000){N:Nat}(t:xs.length=N)(u:B.size=1)(v:jd xs+xs.length<=140737488355328): fA.fi À Ì (λc g=>iA l c/\c.d=l.d/\g=G (f.at (a.put ((Q[i]?).bind (·.dst))<|Ä<|lk B xs)<|Ð Q jJ::L) qX) l (G (ê À 38 #[Ç (Â ⟨n,0,Á⟩) N N,Ä B] ā)<|f.at a (Ð Q (i::jJ)::L)::qX):=by
 subst t;rcases ě xs.length with e|e
 .have x:=ã e;subst x;exact aqV b.r.r<|.fD λy r=>⟨iA.aqX b.r.r r,U,U⟩
 .refine(aqz b.r b.q j h e (Æ m) o p s u v Ì _ qX).ff ?_;rintro c g ⟨r,x,rfl⟩;exact⟨r,x,by rw[Ŝ]⟩
def aqZ{N:Array Ñ}{cf:č}(C:mV l ab n s sl V)(Fj:gq l)(UO:∀b,X b->l.w.heap.size<=b)(hl:∀b,l.O b->o.O b/\o.w.heap[b]?=l.w.heap[b]?)(iO:l.w.heap.size<=o.w.heap.size)(Cu:rs.length<=24)(wU:jd (jZ rs s)+rs.length<=140737488355328)(ht:N.size=39)(ht0:N[0]?=Â (Ã<|Â ⟨ab,0,Á⟩)) (hJ:∀P,ic P->NL l P ab n (zv rs s) V->jm vQ P (G (cf.at (y.put ((Q[i]?).bind (·.dst))<|è #[Ä<|lk ⟨#[59]⟩<|jZ rs s,Å È 0])<|Ð Q jJ::L) qX)) (md:Ķ) (listed:Array Bool) (a:Ģ) (l4:fe) (hI:II pj N (kq ab n sl v) (xI o (λb=>V b\/X b) rs s) listed a l4) (H:listed.size=pj.size) (I:á md pj listed=[]): jm vQ l4 (G ((base 17).at a<|Ð pj []::[Χ UN])<|cf.at y (Ð Q (i::jJ)::L)::qX):=by
 have hF:True:=trivial;let⟨x,D,g,_,hS⟩:=hI;have J:∀i∈Ī 15,listed.getD i É=Ì:=by
  cases md
  .exact qf I H (Ī 15) [] fL λi c=>by cases c
  .exact λi c=>qf I H [0,1,2,3,4,5,6,7,8,9,10,11,13,12,14] [] fL (λi c=>by cases c) i (by have:=ť.1 c;revert i;decide)
  .exact qf I H (Ī 15) [] fL λi c=>by cases c
 obtain⟨l1,r,p,m,c,k1,rfl,hT⟩:=hS<|J 9 A;have h:=aqT (rs:=rs) C Fj UO hl iO g.r k1 hT;let⟨F,ds⟩:=a;obtain rfl:ds=[]:=D.M;have S:F[0]?=Â (Ã<|Â ⟨ab,0,Á⟩):=(D.C A).trans ht0;have T:F[9]?=Â (Ç (Â ⟨r,0,Á⟩) rs.length rs.length):=D.r 13 DL 9 U (J 13 A) U;have W:F[10]?=Â (Ç p m c):=D.r 14 DN 10 U (J 14 A) U;have C5:F.size=39:=D.b.trans ht;clear D J hS hT k1 I H;obtain⟨u,rfl⟩:=Az F C5;simp only[List.getElem?_toArray,ć,List.getElem?_range,Nat.reduceLT,ø,Ó]at S T W;simp only[Ī,List.range.loop,List.map,S,T,W];clear S T W C5;let⟨fr,kz,hfr⟩:=C.Y;let⟨ab3,hab⟩:=h.r ab C.fg;have Y:l4.w.heap[ab]?=Â (ä #[Å È n,sl] 68 (0,0)):=by rw[hab,kz,hfr]
 have c1:l4.w.cell? ⟨ab,1,Á⟩=Â sl:=by simp[Û,Y]
 have z1:l4.w.frozen? ⟨ab,1,Á⟩=É:=by simp[World.frozen?,Y]
 have CM:=g.q;apply uI;apply fR (n:=20) g.r.r;conv in UN=>whnf
 iterate 7 w_go fy
 refine ă λ_ _=> ?_;apply Fb (p:=ab) (off:=1) (v:=Ç p m c) (u:=sl) U U (by k_ne) g.r.r CM ab3 c1 z1 U (λw z B=>by go_simp) (λw z B=>by simp[go_sem,events_store _ _ _ _ _ _ (show Value.oneCell' (Ç p m c)=Ì from rfl),z,B]);have k5:=H7 (X:=λb=>b=ab) (p:=ab) (w':=l4.w.setCell ⟨ab,1,Á⟩<|Ç p m c) g.r (fI.fV _ _) ab3 U fA.kg λj hj=>fA.lG hj;have sP:=k5.N g.r;have auM:(l4.w.setCell ⟨ab,1,Á⟩<|Ç p m c).heap.size=l4.w.heap.size:=fA.kg;have rE:ic ({l4 with w:=l4.w.setCell ⟨ab,1,Á⟩ (Ç p m c)}:fe):=⟨sP,g.d,g.q,g.rd,g.I,g.M,g.k⟩;have c0:l4.w.cell? ⟨ab,0,Á⟩=Â (Å È n):=by simp[Û,Y]
 have aq0:r≠ab:=λe=>by
  rcases ě (jZ rs s).length with q|q
  .have z:=h.C.2.1.C;rw[q,e,c0]at z;cases z
  .have B:=h.C.2.1.r 0 _<|Ò q;rw[e,c0]at B;cases B
 have ab4:(l4.w.setCell ⟨ab,1,Á⟩<|Ç p m c).heap[r]?=l4.w.heap[r]?:=fA.lG (a:=⟨ab,1,Á⟩) aq0;have zl:=h.C.2.1.I ab4;have Cv:kZ (l4.w.setCell ⟨ab,1,Á⟩<|Ç p m c) r=Â (0,0):=(yn ab4).trans h.C.2.2;have aq1:lJ r=É:=aqW (C.r.r h.fv λb q=>(h.r b<|C.C b q).2) h.C.2.1;have hlen:(jZ rs s).length=rs.length:=NM;apply fR (n:=20) sP.r;iterate 4 w_go fy
 refine ă λ_ _=> ?_;refine xH (f:=38) (args:=#[Ç (Â ⟨r,0,Á⟩) rs.length rs.length,Ä ⟨#[59]⟩]) U fL (by k_ne) sP.r (λw=>by go_simp) (λw=>ĥ U Ď U U #[]) λw₁ E=> ?_;have Bl:=rE.C E;have aq2:wi r (jZ rs s) w₁:=zl.I<|E.I r<|Æ h.C.1;refine fA.fi.ma ?_ (aqY (xs:=jZ rs s) Bl (Ï (by rw[fA.kg];exact h.fv) E.r) aq2 h.C.1 aq1 ((yn<|E.I r<|Æ h.C.1).trans Cv) Z hlen U Z);rintro K g6 ⟨M,hd,rfl⟩;have uJ:ic K:=iA.xn Bl M hd;have hk6:∀b,l4.O b->K.w.heap[b]?=(l4.w.setCell ⟨ab,1,Á⟩<|Ç p m c).heap[b]?:=λb q=>(M.r.I b<|Æ q).trans<|E.I b<|Æ q;have hs6:l4.w.heap.size<=K.w.heap.size:=by have z:=M.r.r;have B:=E.r;have h3:(l4.w.setCell ⟨ab,1,Á⟩<|Ç p m c).heap.size=l4.w.heap.size:=fA.kg;exact Ï (Nat.le_of_eq h3.symm)<|Ï B z
 have B:∀b,l4.O b->K.O b:=λb q=>M.O b q;generalize lk ⟨#[59]⟩ (jZ rs s)=ans at*;walk_nrm;apply fR (n:=20) uJ.r.r;repeat w_go fy
 u_in fy hF
 refine ſ (t:=4) (u:=5) U U ř U ⟨by u_nil,?_⟩;refine ă λ_ _=> ?_;refine .fD λBI z=>⟨uJ.C z,U,hJ _ (uJ.C z)<|aqU C h g.r B (λb q=>(z.I b<|Æ<|B b q).trans<|hk6 b q)<|Ï hs6 z.r⟩
end
section
variable{l:fe}{s:List fM}
theorem aq3{e:fe}{c:Nat->Prop}{g:List PR}(B:mV l j n s v X)(C:gq l)(D:mV e j n s v X)(k:ic e)(W:RQ g z c e.w)(Y:∀b,c b->e.O b)(UP:∀r∈g,QO r)(E:g.length<=24)(F:∀b,c b->l.w.heap.size<=b)(H:∀b,l.O b->e.O b/\e.w.heap[b]?=l.w.heap[b]?)(I:l.w.heap.size<=e.w.heap.size)(J:jd (jZ g s)+g.length<=140737488355328)(t:d.size=39)(u:d[0]?=Â (Ã<|Â ⟨j,0,Á⟩))(K:d[6]?=Â z) (M:∀h,ic h->NL l h j n (zv g s) X->jm vQ h (G (f.at (y.put ((Q[i]?).bind (·.dst))<|è #[Ä<|lk ⟨#[59]⟩<|jZ g s,Å È 0])<|Ð Q jJ::L) qX)): jm vQ e (G ((base 17).at ⟨d,[]⟩<|Χ (.region 4 pj Ì)::[Χ UN])<|f.at y (Ð Q (i::jJ)::L)::qX):=by
 refine aqM (II pj d (kq j n v z)<|xI e (λb=>X b\/c b) g s) k (λa x=> ?_) (λm o a l i jJ p N P=> ?_) λm o a l p S T=> ?_
 .refine⟨(Ř,Ř),lS.Y _ _ _,k.C x,λ_=>(gd.fV k.r.r).G x,λq=> ?_⟩;exact absurd q A
 .by_cases V:i=9
  .grind [aqQ]
  .exact aqN (aqO D t u K m o a l i jJ p N V) (λN h q=>by let⟨x,_,q⟩:=q;exact q.1) P
 .exact aqZ B C F H I E J t u M m o a l p S T
def aq4(J:∀r∈(gy B).2.2,JC r)(p:ic l)(t:mV l j n s v X)(K:B.size<=Ĳ)(M:(gy B).1=0->jd (jZ (gy B).2.2 s)+(gy B).2.2.length<=140737488355328) (u:∀C,ic C->NL l C j n (jR s B).2.2 X->jm vQ C (G (f.at (y.put ((Q[i]?).bind (·.dst))<|è #[Ä (jR s B).1,Å È (jR s B).2.1])<|Ð Q jJ::L) qX)): jm vQ l (G (ê À 17 #[Ã<|Â ⟨j,0,Á⟩,Ä B] ā)<|f.at y (Ð Q (i::jJ)::L)::qX):=by
 have hF:=trivial;rw[DI [_,_] 37 ř];simp only[Ĉ,Ħ,ī];conv in mg _ _=>whnf
 apply uI;apply fR (n:=20) p.r.r;iterate 8 w_go fy
 refine ă λ_ _=> ?_;refine xH (f:=36) (args:=#[Ä B]) U fL (by k_ne) p.r.r (λw=>by go_simp) (λw=>ĥ U ĳ U U #[]) λw₁ m=> ?_;have D:=p.C m;refine fA.fi.ma ?_<|aqs D.r D.q (Ï t.r.fv m.r) K Ì _ _;rintro x g1 ⟨z,N,a,rfl,P⟩;have g:=iA.xn D z N;have h:∀b,l.O b->x.O b/\x.w.heap[b]?=l.w.heap[b]?:=λb q=>⟨z.O b q,(z.r.I b<|Æ q).trans<|m.I b<|Æ q⟩;have H:=Ï m.r z.r.r;rw[Ŝ];by_cases k:(gy B).1=0
 .have E:jR s B=(lk ⟨#[59]⟩<|jZ (gy B).2.2 s,0,zv (gy B).2.2 s):=if_pos k;let⟨c,S,F⟩:=P k;have T:=M k;rw[E]at u;let⟨V,W⟩:=JD J;rw[k];generalize(gy B).2.2=rs at*;generalize(gy B).2.1=at1 at*;walk_nrm;apply fR (n:=40) g.r.r;repeat w_go fy
  refine ă λ_ _=> ?_;refine .fD λo d=>⟨g.C d,U,?_⟩;have Y:=g.C d;have e:∀b,l.O b->({x with w:=o}:fe).O b/\o.heap[b]?=l.w.heap[b]?:=λb q=>⟨(h b q).1,(d.I b<|Æ (h b q).1).trans (h b q).2⟩;have I:=Ï H d.r;have aq5:=t.I (λb q=>(e b q).1) (λb q=>(e b q).2) I;have vG:=S.r λb q=>d.I b<|Æ (F b q).1;have hQ3:=λb q=>(F b q).1;have UO:=λb q=>Ï m.r (F b q).2;exact aq3 t p.r aq5 Y vG hQ3 V W UO e I T U U U u
 .have E:jR s B=(⟨#[]⟩,(gy B).1,s):=if_neg k;rw[E]at u;have c:((gy B).1 !=0)=Ì:=by rwa[bne_iff_ne]
  generalize(gy B).1=er at*;generalize(gy B).2.1=at1 at*;walk_nrm;apply fR (n:=40) g.r.r;repeat w_go fy
  u_in fy hF
  refine ſ U U ř U ⟨by u_nil,?_⟩;refine ă λ_ _=> ?_;refine .fD λo d=>⟨g.C d,U,u _ (g.C d) ?_⟩;have e:∀b,l.O b->({x with w:=o}:fe).O b/\o.heap[b]?=l.w.heap[b]?:=λb q=>⟨(h b q).1,(d.I b<|Æ (h b q).1).trans (h b q).2⟩;exact⟨λb q _=>e b q,v,X,t.I (λb q=>(e b q).1) (λb q=>(e b q).2)<|Ï H d.r,λb q=>Æ q⟩
end
def UQ{M:Nat}(a:∀z∈vX,z.size<=M)(b:M<=100)(c:vX.length<=400000):(vS vX).size<=100000000:=by
 unfold vS;split
 .decide
 .have d:=Ui ⟨#[44]⟩ U vX;have e:=Jm vX a;have:M*vX.length<=100*400000:=ş b c;omega
theorem FV(i:Nat):(ow i).size<=3:=by
 unfold ow nZ;rw[î];split
 .show 1+1<=3;decide
 .show 1+2<=3;decide
theorem ab5(s:gu.St)(x y:Nat)(k:Int):∀(m i:Nat),i+m<=1000->(Ji s x y k i m).size<=20
 |0,i,_=>by unfold Ji;decide
 |m+1,i,h=>by
  unfold Ji;split
  .exact uB i Z
  .exact ab5 s x y k m (i+1) Z
theorem aq6(s t:gu.St):(lj s t 8).length<=400000:=by
 unfold lj;have a:∀l:List Nat,(l.flatMap<|xx s t).length<=18*l.length:=λl=>by
  induction l with
  |nil=>simp
  |cons i l b=>
   rw[List.flatMap_cons,Õ,ý];have:(xx s t i).length<=18:=by unfold xx;grind [Õ,Ni,Nj]
   omega
 grind
theorem aq7{g:List (Nat×fM)}{q:Qn}(i:kx (kD g))(ok:q.Ok):(sZ g q).size<=100000000:=by
 unfold sZ;split
 .grind [FV]
 .rename_i p j;let⟨a,d,l,m⟩:=i.zi _<|à.2 ⟨p,Jg j,U⟩;have h:∀u,u<18446744073709551616->(iM u).size<=100000000:=λu k=>by have:=uB u k;omega
  unfold rY;split
  .have b:=d.C q.x q.I;exact h _ (by have:=b.1;have:=b.2;omega)
  .split
   .have b:=d.ft q.x;exact h _ (by have:=b.1;have:=b.2;omega)
   .split
    .split
     .grind [FV]
     .exact(ok.r<|Æ ‹_›).wR d ok.C Z
    .split
     .grind [ab5]
     .split
      .have:=aaS<|A2 p.2.s;have:=aaT<|16-(mE<|A2 p.2.s).size;unfold Dq;rw[î];omega
      .split
       .exact UQ (λz f=>by obtain⟨e,c,rfl⟩:=à.1 f;exact Ua (a.C e c).2) Z<|by rw[õ];exact a.I
       .split
        .exact UQ (λz f=>by obtain⟨e,c,rfl⟩:=à.1 f;exact Ub (a.r e c).1 (a.r e c).2) Z (by rw[õ];have:=a.M;omega)
        .split
         .grind [FV]
         .exact UQ (aaV _ _) Z<|aq6 _ _
theorem aq8(a:List (Nat×fM))(v:Int)(x:Nat)(b:List Tx):(rU a v x b).2.size<=3:=by
 unfold rU;split
 .exact FV 3
 .split
  .exact FV 4
  .split
   .exact FV 5
   .show(nZ a.length).size<=3;unfold nZ;split
    .show 1<=3;decide
    .show 2<=3;decide
def aq9{s:List fM}{i:Int×Nat×List Tx}(h:kx s)(a:∀t∈i.2.2,t.Ok)(b:i.2.2.length<=1000):kx (Ba s i):= kx.I (by rwa[FH]) a b
def UR{a:List PR}{s:List fM}(h:kx s)(b:∀r∈a,QO r):∀k,k<=(ij (lE a) a.length).length->kx (qo (xG a) (ij (lE a) a.length) s k)
 |0,_=>h
 |k+1,hk=>by
  have c:a.getD ((ij (lE a) a.length).getD k 0) qz∈a:=Ý (i:=(ij (lE a) a.length).getD k 0) (by have q:=(IG<|xl (l:=ij (lE a) a.length)<|show k<_ from hk).1;generalize(ij (lE a) a.length).getD k 0=j at q;simp[Ĕ,q]);have q:=b _ c;refine aq9 (UR h b k Z) (λt d=> ?_) ?_
  .obtain⟨x,t,rfl⟩:=à.1 d;exact q.C x t
  .show((a.getD _ qz).tx.map toTx).length<=1000;rw[õ];have:=q.n;omega
def Mv(kd:Nat->Int):∀{p R:Nat},p<=R->fP kd p<=(ij kd R).length:=λ{p R} h=>by
 show(ij kd p).length<=(ij kd R).length
 induction h with
 |refl=>exact Ü _
 |@step R _ ih=>
  by_cases q:kd R=1
  .rw[uw q];simp;omega
  .rwa[xi q]
theorem ab6{rs:List PR}{s:List fM}(h:kx s)(a:∀r∈rs,QO r)(k:rs.length<=24):jd (jZ rs s)+rs.length<=2400000024:=by
 have c:=Jm (M:=100000000) (jZ rs s) λz b=>by
  unfold jZ at b;obtain⟨p,d,rfl⟩:=à.1 b;have e:=ť.1 d;have f:=UR h a (fP (lE rs) p)<|Mv _ Z;unfold zm;split
  .grind [Ï,aq8]
  .rename_i g;have j:rs.getD p qz∈rs:=Ý (i:=p) (by simp[Ĕ,e]);exact aq7 (by rwa[FH])<|abZ (a _ j) g
 rw[NM]at c;omega
def ab7{a:List PR}{s:List fM}(h:kx s)(b:∀r∈a,QO r):kx (zv a s):=UR h b _<|Mv _<|Ü _
def ara{s:List fM}(a:∀r∈(gy B).2.2,JC r)(h:kx s):jd (jZ (gy B).2.2 s)+(gy B).2.2.length<=140737488355328:=Ï (ab6 h (JD a).1 (JD a).2) A
def arb(a:ù)(w:Í):Sem.events À (binOp BinOp.eql 26 (Ã<|Â a)<|Ã Á) w #[]=#[]:=fx
theorem JQ{l:fe}(a:ic l)(p:nB<=l.w.heap.size){f:Ŕ}{args:Array Ñ}{r:Ñ}(m:De f=Ì)(s:∀v∈args.toList,fu (mh (λ_=>False) À.globals.size) v v)(t:∀{Y v},fu Y r v->v=r)(x:∀w,Ö À f args w λe y=>e=Ê r/\y=w)(n:Bool)(c:č)(i:List č): fA.fi À n (λk o=>iA l k/\k.d=l.d/\o=G (c.finish r) i) l (G (ê À f args ā)<|c::i):=by
 let⟨E,F,z,B⟩:=xo f m;have C:∀T,Ö À f args (World.tp (j2 (λj=>False/\¬(mB l).O j) l.w) T 0) fun|Ê v,j=>v=r/\kl j|_,_=>False:=λT=>by refine(x _).mono ?_;grind [A9]
 refine((Dc xY IL xo (λv u T D h=>h) m z B (Ft a.r) a.q (λb q=>q.elim) ⟨λb q=>q.elim,p⟩ (λg q=>by cases q) (oN s) C n c i).mB a.r).ff ?_;rintro k o ⟨D,⟨Y,j,v,H,_,_,g,rfl,b,_,_,h⟩,rfl,u,_,_,_⟩;rw[t g]at b;exact⟨u,h,b⟩
section
variable{l:fe}
def ard{J:Jd}{s:List fM}{V:Nat->Prop}(c:ic l)(d:mV l j n s z V)(g:fA.fi À Ì J l (G (f.at (y.put ((Q[i]?).bind (·.dst))<|Å È s.length)<|Ð Q jJ::L) qX)): fA.fi À Ì J l (G (ê À 22 #[Ã<|Â ⟨j,0,Á⟩] ā)<|f.at y (Ð Q (i::jJ)::L)::qX):=by
 have hF:True:=trivial;obtain⟨a,b,rfl⟩:∃a b,z=Ç a s.length b:=by
  let⟨o,h,_,⟨a,k,b,e,_,m⟩,_⟩:=d.rd;have:k=s.length:=by rw[m.r,<-h];simp[kD]
  exact⟨a,b,by rw[e,this]⟩
 have o:s.length<=40:=by let⟨_,_,e,_⟩:=d.rd;exact e.r
 let⟨p,k,_⟩:=d.Y;have m:l.w.cell? ⟨j,1,Á⟩=Â (Ç a s.length b):=by simp[Û,k]
 rw[DI [_] 7 Α];simp only[Ĉ,Ħ,ī];conv in mg _ _=>whnf
 refine fR (n:=20) c.r.r ?_;repeat w_go fy
 refine ă λ_ _=> ?_;refine kA (x:=⟨j,1,Á⟩) (v:=Ç a s.length b) U fL (by k_ne) c.r.r c.q (Æ<|Æ d.fg) m (λw h=>by go_simp) (λw h=>by simp[go_sem,h]) ?_;walk_nrm;refine fR (n:=20) c.r.r ?_;repeat w_go fy
 u_in fy hF
 refine ž (t:=2) U U Α U ⟨by u_nil,?_⟩;refine ă λ_ _=> ?_;exact g
end
def arf{t:Tmp}(d:f.kind=ā)(e:y.defers=[])(g:P.funcs[f.fn]?=Â s)(c:s.results=#[.tmp t])(h:P.inits.idxOf? f.fn=Á):stepG P Ì (G {f.at y L with mode:=.returning} []) w=.ended (.done<|y.tmps.getD t Ř) w:=by have i:=results_tmp c y.tmps P w;have j:=events_results_tmp (P:=P) (w:=w) c y.tmps;simp[G,stepG,unwind,doReturn,Frame.at,d,e,g,i,j,h,seen,GStep.after]
def arh{l:fe}(e:jm vQ l g)(a:ic l)(c:g.status=.running):tw vQ #[g] l.w Á #[]:=e a c (λ_=>False) 0 _ _ _ _ Á _ ⟨λx q=>q.elim,λ_ _ _ _ q=>q,Ø _⟩ (aqA (P:=À) (J:=λ_ _=>True) (T:=.fD) U a.d a.q a.rd a.I a.M a.k (λb q=>a.r.fv b<|Æ q) c λ_ _=>trivial) a.d U
def NN(W:Í):fe:={O:=λb=>b<W.heap.size,I:=λ_=>False,r:=λ_=>False,N:=λ_=>False,K:=λ_=>False,d:=0,q:=False,w:=W}
def ab8(W:Í):ic (NN W):= ⟨⟨λ_ _=>id,λ_ q=>q.elim,λ_ q=>q.elim (λz=>z.elim) λz=>z.elim,λ_ q=>q.elim id λz=>z.elim,λ_ q=>q.elim (λz=>z.elim) λz=>z.elim,λ_ q=>q.elim⟩,U,id,λ_=>id,λ_=>id,λ_=>id,λ_=>id⟩
structure om(W w':Í):Prop where
 sx:∀b,b<W.heap.size->w'.heap[b]?=W.heap[b]?
 wR:W.heap.size<=w'.heap.size
def ari(g:mT W):∀b,b=1\/b=2\/b=3\/b=4->b<W.heap.size:=λb q=>by let⟨c,a,h,_⟩:=g.C;have:=(Þ.1 h).1;omega
theorem arj(b a n:Nat):(⟨b,a,Á⟩:ù).add n=⟨b,a+n,Á⟩:=by unfold Addr.add;grind
theorem ark(h:w.cell? a=Â v):a.spot=Á/\a.block<w.heap.size:=by
 unfold Û at h;split at h
 .rename_i c t f e;constructor
  .simp_all
  .grind
 .cases h
end Go.Proofs.Y.iV
