import Derived.Test.YtgpphkdoanciiaaGreatDoorWAD
import Derived.Lib.Bytealg
import Derived.WalkKit
import Derived.WalkSpells
import Derived.WalkLawsBesides
import Derived.Deep.Light
import Derived.WalkMore
import Derived.Deep.QuietTactic
import Derived.BigQuiet
import Derived.Conc.LeavingOf
import Derived.Conc.CrowdStepC
import Derived.Listen
import Derived.ProofKit
import Derived.Deep.Slices
set_option linter.all false
set_option maxRecDepth 1000000
set_option maxHeartbeats 8000000
open Go.Proofs.Tryz renaming prog->À,ntmps67->í,func67->ó,zeroCells292->ú,ntmps100->û,func100->Ā,func38->ē,results45->Ģ,underlying25->ĩ,func36->ļ,results36->Ľ,func17->Ł,ntmps160->Ŋ,ntmps147->ŋ,ntmps38->Ŏ,func160->Œ,func147->Ŗ,ntmps95->ŗ,ntmps36->Ř,func95->ť,func30->ŧ,func22->Ũ,ntmps123->Ÿ,ntmps101->ż,func123->Δ,func101->Κ,ntmps96->Μ,ntmps45->Ν,ntmps30->Ο,func96->Ω,func45->ε,func35->ζ,func37->η,func15->ι,f38->ai
open Option renaming none->Á,some->Â,bind_eq_some_iff->Ü,bind_eq_bind->ê,map->ð,map_eq_some_iff->ò,isSome_none->ö,pure_def->ā,map_some->Ă,bind_some->ş
open Go.Value renaming pointer->Ã,string->Ä,int->Å,slice->Ç,tuple->ë,bool->õ,cells->Ĺ
open Go.Ending renaming returned->Æ
open Or renaming inl->È,inr->Ï
open Go.IntKind renaming i64->É,u64->ã,wrap_u64->Ć,wrap_i64->ŝ,u8->ū
open And renaming intro->Ê
open Bool renaming false->Ë,true->Î,false_eq_true->ì,eq_iff_iff->Ę
open Nat renaming le_trans->Ì,zero_le->Ø,le_refl->æ,lt_of_lt_of_le->Ġ,eq_zero_or_pos->ģ,zero_add->œ,mul_le_mul->ű
open Go renaming World->Í,Value->Ñ,Calls->Ò,Addr->ü,bodyPost_ret->ÿ,Act->Ĉ,Goroutine->Ċ,TypeId->č,Frame->Ē,Oper->ĝ,TypeInfo->ħ,maxLen->ī,undef->ĸ,results->Ń,execOp->ś,runNT_fst->Ţ,run_underlying->Ů,info_parts->ů,heap_alloc_new->Ŵ,Tape->ŷ,Trace->Ž,runNT->ſ,mem_ready->Β,wp_loop->Γ,wpList_plain->Ε,yielded->Ι,cell_one_new->Λ,FuncId->Ρ,Code->Τ,storeCells->ν,resolve->ρ,builtin->ς,Program->ω,invoke->ar
open Go.Item renaming inRegion->Ð,code->ax
open List renaming getElem?_eq_getElem->Ó,getElem?_eq_some_iff->Õ,length_append->Ù,mem_map->Ú,eq_nil_of_length_eq_zero->Ý,mem_append->â,mem_of_getElem?->ç,setIfInBounds_toArray->é,length_map->ù,set_cons_zero->ý,set_cons_succ->þ,replicate->ą,length_cons->ď,cons_append->Đ,mem_cons_of_mem->Ĕ,getElem?_of_mem->ĕ,append_nil->Ė,nil_append->ę,getElem_of_mem->Ĝ,getD->Ğ,getElem?_append_right->ğ,getElem?_append_left->Ĥ,extract_eq_take_drop->ĥ,mem_or_eq_of_mem_set->Ħ,take_add_one->Ĩ,getElem?_map->Ī,all_eq_true->ĭ,range->ĳ,set_append_right->Ĵ,length_pos_iff->Ņ,map_cons->ŉ,mem_singleton->ō,map_nil->Ő,append_assoc->ő,ext_getElem?->Ŕ,size_toArray->ř,length_take->Ś,map_toArray->Ŝ,mem_flatMap->Ş,length_nil->ũ,mem_range->Ŷ
open Option.some renaming injEq->Ô,inj->ag
open Go.Lib renaming byteCells->Ö,indexByte->Þ,strCells->į,hasPrefix->ź,TabIs->χ
open Go.Obj renaming cells->Û
open Go.Code renaming wp->ß,wp_mono->İ,loop->ń,skip->aj
open Go.World renaming cell?->à,setCell->Ż,drew->ξ,var?->ο
open Array renaming getElem?_eq_some_iff->á,getElem?_eq_getElem->å,mem_toList_iff->î,getElem_mem->ă,length_toList->ě,size_setIfInBounds->Ĭ,getElem?_eq_none->ı,mem_of_getElem?->ĵ,getElem?_modify->Ķ,getElem?_toList->ķ,toList_extract->ĺ,replicate->Ū
open Go.Region renaming ready->ä,wanted->đ,Mode->Ŀ
open Go.Frame renaming enter->è,finish_at->Ě
open Go.Conc.Goes renaming stop->ï
open Go.Ground renaming phase->ñ,data->ĉ
open Go.Conc renaming events_call_body->ô,crowd->Į,goes_leave1->Ŧ,Good->Ξ,goes_leave2->θ,listed->ay
open ByteArray renaming size_append->ø,getElem_eq_getElem_data->ċ,size_extract->Č,data_extract->Ĳ,size->ŭ,data->Ű,extract->σ,mk->aB
open Go.CallKind renaming normal->Ą
open Go.Region.linearise renaming go->ć
open Go.Great renaming wpList_runTo->Ď
open Go.Builtin renaming append_->ė,firstCells->Ō,lenOf->Ź,append->κ,zeroCells->φ
open Go.RowKit.Below renaming heap_setCell->ġ,heap_alloc->Š
open Go.IntWalk renaming i64_in->Ļ,i64_left->š
open Go.Made renaming word->ł,reckonStruct->ŕ,infoAt->ţ,mostCells->Ų,reckon->Χ
open Int renaming toNat_of_nonneg->ņ,le_refl->Ť
open Go.Operand renaming tmp->ň
open Go.Result renaming andThen_ok->ŏ,andThen->ų
variable{i n j b k m J j9 j7 j6:Nat}{w u W jX:Í}{v x z jQ:Ñ}{g:Ċ}{a p:ü}{h c:Int}{e t T:č}{d q:Array Ñ}{P:ω}{y:Ĉ}{B:ByteArray}{X:Nat->Prop}{O:Option ü}{l:List Ñ}{yQ:Bool}{K H:Ĉ->Í->Prop}{o:ĝ}{D:Nat->Nat}{E:Array Ċ}{L:List Go.Item}{jJ:List Nat}{qX:List Ē}{qJ:Ž}{zX:Go.Loc->Prop}{zQ:List Int}{zJ:ħ}{xQ:ŷ}{xJ:Nat×Nat}{vX:List ByteArray}{vQ:Ñ->Í->Prop}{vJ:Go.Exit->Ĉ->Í->Prop}{Q:Array ĝ}{f:Ē}{F:Ρ}{s:Go.Func}
namespace Go.Proofs.Y.gR
open Go Go.Proofs Go.RowKit Go.Proofs.Y.Lift
def Cg:Τ->Option Τ
 |ń c=>Â c
 |.seq a b=>match Cg b with
  |some c=>Â c
  |none=>Cg a
 |.block _ c=>Cg c
 |.scope c=>Cg c
 |.cond _ a b=>match Cg b with
  |some c=>Â c
  |none=>Cg a
 |_=>Á
noncomputable def Mb:Τ:=(ai.body.bind ko).getD aj
noncomputable def Mc:Τ:=(ai.body.bind Cg).getD aj
def QE(k:Nat)(X:Ĉ->Í->Prop):Exit->Ĉ->Í->Prop
 |.exit i,a,w=>i=k/\X a w
 |_,_,_=>False
def nV(a:ByteArray)(b:List ByteArray):List UInt8:=b.flatMap λy=>a.data.toList++y.data.toList
def aax(a:ByteArray):List ByteArray->List UInt8
 |[]=>[]
 |x::r=>x.data.toList++nV a r
def iP(xs:List ByteArray):Nat:=(xs.map ŭ).sum
def TJ(a b:List ByteArray):iP (a++b)=iP a+iP b:=by simp[iP]
def aay(a:List ByteArray)(j:Nat):iP (a.take j)<=iP a:=by have h:=TJ (a.take j)<|a.drop j;simp_all
theorem Md(a:ByteArray)(c:a.size=1):∀b:List ByteArray,(nV a b).length=iP b+b.length
 |[]=>rfl
 |x::r=>by
  have e:nV a (x::r)=(a.data.toList++x.data.toList)++nV a r:=U;have d:a.data.toList.length=1:=by simpa using c
  have f:x.data.toList.length=x.size:=fp
  have g:iP (x::r)=x.size+iP r:=by simp[iP]
  rw[e,Ù,Ù,Md a c r,d,f,g,ď];omega
def EK(a:Option ü)(n b:Nat)(c:ByteArray)(m i:Int)(u:Nat->Ñ):Ĉ:=⟨#[Ç a n b,Ä c,u 2,u 3,u 4,Å É m,u 6,u 7,u 8,u 9,u 10,u 11,u 12,u 13,u 14,u 15,u 16,u 17,u 18,u 19,u 20,u 21,u 22,u 23,u 24,u 25,u 26,u 27,u 28,u 29,u 30,u 31,u 32,u 33,u 34,u 35,u 36,u 37,u 38,Ç a n b,Å É n,Å É i,u 42,u 43,u 44,u 45,u 46,u 47,u 48,u 49,u 50,u 51,u 52,u 53,u 54,u 55,u 56,u 57,u 58,u 59,u 60,u 61,u 62,u 63,u 64,u 65,u 66,u 67,u 68,u 69,u 70,u 71,u 72,u 73,u 74],[]⟩
def EL(b:Option ü)(n c:Nat)(d:ByteArray)(m i:Int)(a:Ĉ):Prop:=∃u,a=EK b n c d m i u
def qk(a:Option ü)(n c b:Nat)(d:ByteArray)(i:Int)(u:Nat->Ñ):Ĉ:=⟨#[u 0,Ä d,u 2,u 3,u 4,u 5,u 6,u 7,Ã<|Â ⟨b,0,Á⟩,u 9,u 10,u 11,u 12,u 13,u 14,u 15,u 16,u 17,u 18,u 19,u 20,u 21,u 22,u 23,u 24,u 25,u 26,u 27,u 28,u 29,u 30,u 31,u 32,u 33,u 34,u 35,u 36,u 37,u 38,u 39,u 40,u 41,u 42,u 43,u 44,u 45,u 46,u 47,u 48,u 49,u 50,u 51,u 52,u 53,u 54,u 55,u 56,u 57,u 58,u 59,u 60,u 61,u 62,Ç a n c,Å É n,Å É i,u 66,u 67,u 68,u 69,u 70,u 71,u 72,u 73,u 74],[]⟩
def EM(c:Option ü)(n d b:Nat)(e:ByteArray)(i:Int)(a:Ĉ):Prop:=∃u,a=qk c n d b e i u
section
variable{X:Ĉ->Í->Prop}{sep:ByteArray}{xs:List ByteArray}
def aoB(u:Nat->Ñ)(m:Int)(b:∀a,EL O n i sep m n a->X a w): ß À Mb (Exit.then K<|QE 1 X) (EK O n i sep m n u) w:=by
 unfold EK;conv=>arg 2;whnf
 go_wp2_with fail
 exact⟨U,b _ (gk _)⟩
def aoC(u:Nat->Ñ)(m j:Nat)(f:j<n)(g:n<=1000000)(b c:Nat)(e:O=Â ⟨b,c,Á⟩)(x:ByteArray)(h:w.cell? ⟨b,c+j,Á⟩=Â (Ä x))(k:m+x.size<=140737488355328) (d:∀a,EL O n i sep ((m+x.size:Nat):Int) ((j+1:Nat):Int) a->K a w): ß À Mb (Exit.then K<|QE 1 X) (EK O n i sep m j u) w:=by
 unfold EK;conv=>arg 2;whnf
 subst e;have H:=ff d;clear d;go_wp2_with fail;exact H.out _ (gk _)
def J1(O:Option ü)(n i:Nat)(sep:ByteArray)(b:Nat)(xs:List ByteArray)(u:Í)(a:Ĉ)(w:Í):Prop:=
 ∃j:Nat,EL O n i sep ((b+iP (xs.take j):Nat):Int) j a/\j<=n/\w=u
def J1E(O:Option ü)(n i:Nat)(sep:ByteArray)(b:Nat)(xs:List ByteArray)(u:Í)(a:Ĉ)(w:Í):Prop:=
 EL O n i sep ((b+iP xs:Nat):Int) n a/\w=u
def Me(n:Nat)(a:Ĉ)(_:Í):Nat:=match a.tmps.getD 41 ĸ with
 |Å _ i=>n-i.toNat
 |_=>0
def aaz(b:EL O n i sep h j y):Me n y w=n-j:=by obtain⟨u,rfl⟩:=b;show n-(j:Int).toNat=_;simp
theorem aoD(r:n=xs.length)(f:n<=1000000)(g:nu O (jh xs) u)(s:j+iP xs<=140737488355328)(a:Ĉ)(w:Í)(h:J1 O n i sep j xs u a w): ß À Mb (Exit.then (λb c=>J1 O n i sep j xs u b c/\Me n b c<Me n a w)<|QE 1<|J1E O n i sep j xs u) a w:=by
 obtain⟨b,d,t,rfl⟩:=h;rw[aaz d];obtain⟨c,rfl⟩:=d;by_cases k:b=n
 .subst k;refine aoB c _ λa q=>⟨?_,U⟩;grind
 .obtain⟨x,e⟩:∃x,xs[b]?=Â x:=⟨_,Ó Z⟩;let⟨l,m,o,p⟩:=g b (Ä x) (by simp[jh,e]);have v:iP (xs.take<|b+1)=iP (xs.take b)+x.size:=by
   rw[Ĩ,e,TJ];simp[iP]
  have y:=aay xs<|b+1;refine aoC c _ b Z f l m o x p Z λa q=>⟨⟨b+1,?_,Z,U⟩,by rw[aaz q];omega⟩;grind
def aoE(u:Nat->Ñ)(c:∀a,EM O n i b sep n a->X a w): ß À Mc (Exit.then K<|QE 3 X) (qk O n i b sep n u) w:=by
 unfold qk;conv=>arg 2;whnf
 go_wp2_with fail
 exact⟨U,c _ (gk _)⟩
def aoF(c:Nat->Ñ)(j:Nat)(y:j<n)(z:n<=1000000)(d f:Nat)(o:O=Â ⟨d,f,Á⟩)(x:ByteArray)(p:u.cell? ⟨d,f+j,Á⟩=Â (Ä x))(l:List UInt8)(g:oI u b (Ö l) w)(q:sep.size=1)(B:l.length+1+x.size<=140737488355328) (r:∀a h,EM O n i b sep ((j+1:Nat):Int) a->oI u b (Ö<|l++(sep.data.toList++x.data.toList)) h->K a h): ß À Mc (Exit.then K<|QE 3 X) (qk O n i b sep j c) w:=by
 unfold qk;conv=>arg 2;whnf
 subst o;have C:=g.r.r p id;have k:=Lib.byteCells_length l;have s:(Ö l++į sep).length=l.length+1:=by rw[Ù,k,Lib.strCells_length,q]
 have E:Ö l++į sep++į x=Ö (l++(sep.data.toList++x.data.toList)):=by simp[Ö,į]
 have H:=ff<|Ê g<|Ê r<|Ê k<|Ê s E;go_wp2_with (first
  |(go_at_call 55;refine(TH t.out x<|by rw[H.out.2.2.2.1];omega).mono ?_;rintro e D ⟨rfl,m⟩;have v:=ff m;clear m)
  |(go_at_call 55;refine(TH H.out.1 sep (by rw[H.out.2.2.1];omega)).mono ?_;rintro e D ⟨rfl,m⟩;have t:=ff m;clear m))
 apply H.out.2.1 _ _ (gk _);rw[<-H.out.2.2.2.2];exact v.out
def J2(O:Option ü)(n i b:Nat)(sep:ByteArray)(c:List UInt8)(xs:List ByteArray)(u:Í)(a:Ĉ)(w:Í):Prop:=
 ∃j:Nat,EM O n i b sep j a/\j<=n/\oI u b (Ö<|c++nV sep (xs.take j)) w
def J2E(O:Option ü)(n i b:Nat)(sep:ByteArray)(c:List UInt8)(xs:List ByteArray)(u:Í)(a:Ĉ)(w:Í):Prop:=
 EM O n i b sep n a/\oI u b (Ö<|c++nV sep xs) w
def Mf(n:Nat)(a:Ĉ)(_:Í):Nat:=match a.tmps.getD 65 ĸ with
 |Å _ i=>n-i.toNat
 |_=>0
def aaA(c:EM O n i b sep j y):Mf n y w=n-j:=by obtain⟨u,rfl⟩:=c;show n-(j:Int).toNat=_;simp
theorem aoG{d:List UInt8}(z:n=xs.length)(h:n<=1000000)(k:sep.size=1)(l:nu O (jh xs) u)(B:d.length+iP xs+n<=140737488355328)(a:Ĉ)(w:Í)(m:J2 O n i b sep d xs u a w): ß À Mc (Exit.then (λc e=>J2 O n i b sep d xs u c e/\Mf n c e<Mf n a w)<|QE 3<|J2E O n i b sep d xs u) a w:=by
 let⟨j,g,C,o⟩:=m;rw[aaA g];obtain⟨c,rfl⟩:=g;by_cases p:j=n
 .subst p;refine aoE c λa q=>⟨q,?_⟩;grind
 .obtain⟨x,f⟩:∃x,xs[j]?=Â x:=⟨_,Ó Z⟩;let⟨r,s,t,v⟩:=l j (Ä x) (by simp[jh,f]);have D:iP (xs.take<|j+1)=iP (xs.take j)+x.size:=by
   rw[Ĩ,f,TJ];simp[iP]
  have E:=aay xs<|j+1;have y:(d++nV sep (xs.take j)).length=d.length+iP (xs.take j)+j:=by grind [Ù,Md,Ś]
  have F:nV sep (xs.take<|j+1)=nV sep (xs.take j)++(sep.data.toList++x.data.toList):=by rw[Ĩ,f];simp[nV]
  refine aoF c j Z h r s t x v _ o k (by rw[y];omega) λa e q G=>⟨⟨j+1,q,Z,?_⟩,by rw[aaA q];omega⟩;grind
end
section
variable{sep:ByteArray}{xs:List ByteArray}
def kJ(sep:ByteArray)(xs:List ByteArray):ByteArray:=⟨(aax sep xs).toArray⟩
def aoH:Ò À 38 #[Ç O 0 i,Ä sep] w λe a=>e=Æ (Ä ⟨#[]⟩)/\fc fh w a:=by go_enter ē,Ŏ;go_wp2_with fail;go_ret;exact⟨U,fc.fU _ _⟩
def aoI(a b:Nat)(x:ByteArray)(d:w.cell? ⟨a,b,Á⟩=Â (Ä x)):Ò À 38 #[Ç (Â ⟨a,b,Á⟩) 1 i,Ä sep] w λe c=>e=Æ (Ä x)/\fc fh w c:=by go_enter ē,Ŏ;go_wp2_with fail;go_ret;exact⟨U,fc.fU _ _⟩
theorem aoJ(k:Nat)(K:1<=k)(L:k<1000000)(c d:Nat)(M:k+1<=i)(B:sep.size=1)(x:ByteArray)(g:k=xs.length)(f:nu (Â ⟨c,d,Á⟩) (jh<|x::xs) w)(C:iP (x::xs)+(k+1)<=140737488355328): Ò À 38 #[Ç (Â ⟨c,d,Á⟩) (k+1) i,Ä sep] w λe b=>e=Æ (Ä<|kJ sep<|x::xs)/\fc fh w b:=by
 have D:iP (x::xs)=x.size+iP xs:=by simp[iP]
 have m:∀a,EL (Â ⟨c,d,Á⟩) (k+1) i sep ((k+iP ((x::xs).take 0):Nat):Int) (0:Nat) a->ß À (ń Mb) (QE 1<|J1E (Â ⟨c,d,Á⟩) (k+1) i sep k (x::xs) w) a w:=λa h=>
  Γ (J1 (Â ⟨c,d,Á⟩) (k+1) i sep k (x::xs) w) (Me<|k+1) ⟨0,h,Ø _,U⟩<|aoD (by simp[g]) Z f Z
 have n:nu (Â ⟨c,d+1,Á⟩) (jh xs) w:=λj u E=>by let⟨b,o,z,l⟩:=f (j+1) u (by simpa[jh]using E);grind
 have p:∀a W,EM (Â ⟨c,d+1,Á⟩) k (i-1) w.heap.size sep (0:Nat) a->oI w w.heap.size (Ö<|x.data.toList++nV sep (xs.take 0)) W->ß À (ń Mc) (QE 3<|J2E (Â ⟨c,d+1,Á⟩) k (i-1) w.heap.size sep x.data.toList xs w) a W:=λa W h o=>
  Γ (J2 (Â ⟨c,d+1,Á⟩) k (i-1) w.heap.size sep x.data.toList xs w) (Mf k) ⟨0,h,Ø _,o⟩<|aoG g Z B n (by simp only[ě];have:x.data.size=x.size:=rfl;omega)
 let⟨_,_,F,q⟩:=f 0 (Ä x) U;cases F;have r:w.cell? ⟨c,d,Á⟩=Â (Ä x):=q;have s:x.data.toList++nV sep xs≠[]:=by grind [Ù,Md,ũ]
 have N:(1:Int)<9223372036854775807/(k:Int):=by rw[Int.lt_iff_add_one_le,Int.le_ediv_iff_mul_le Z];omega
 have t:0<k+iP (x::xs)/\k+iP (x::xs)<=281474976710656:=Z
 have y:(Ö []).length+x.size<=140737488355328:=by simp[Ö];omega
 have H:=ff<|Ê m<|Ê p<|Ê t<|Ê y<|Ê s r;clear m p t y s q r f n g C D;generalize G:iP (x::xs)=S at*;go_enter ē,Ŏ;go_wp2_with fail;refine İ ?_ (H.out.1 _ (gk _));rintro(_|_|_|_|_|_) a v hq;all_goals first|exact absurd hq id|skip
 obtain⟨rfl,b,rfl⟩:=hq;rw[G]at b;obtain⟨u,rfl⟩:=b;unfold EK;go_wp2_with (first
  |(go_at_call 54;refine(aoz ⟨æ _,fc.gI _ _ _ _,fi.N v [Ã Á,Ç Á 0 0] 109⟩ (k+S) H.out.2.2.1.1 H.out.2.2.1.2).mono ?_;rintro e I ⟨rfl,l⟩;have J:=l.r.r H.out.2.2.2.2.2 id;have z:=ff l;clear l)
  |(go_at_call 55;refine(TH z.out x H.out.2.2.2.1).mono ?_;rintro e l ⟨rfl,z⟩;have I:=ff z;clear z))
 have J:oI v v.heap.size (Ö<|x.data.toList++nV sep (xs.take 0)) l:=by have:=I.out;show oI v v.heap.size (Ö<|x.data.toList++[]) l;rw[Ė];exact this
 refine İ ?_ (H.out.2.1 _ _ (gk _) J);rintro(_|_|_|_|_|_) a w3 hq;all_goals first|exact absurd hq id|skip
 obtain⟨rfl,b,o⟩:=hq;obtain⟨v,rfl⟩:=b;unfold qk;go_wp2_with (go_at_call 56;refine(aoA (ff o).out H.out.2.2.2.2.1).mono ?_;rintro e O ⟨rfl,z⟩;have I:=ff z;clear z);go_ret;exact⟨U,I.out⟩
def TK(a:n=xs.length)(f:n<=1000000)(g:n<=i)(h:sep.size=1)(b:nu O (jh xs) w)(j:iP xs+n<=140737488355328): Ò À 38 #[Ç O n i,Ä sep] w λe c=>e=Æ (Ä<|kJ sep xs)/\fc fh w c:=by
 cases xs with
 |nil=>subst a;exact aoH
 |cons x r=>
  let⟨c,d,k,l⟩:=b 0 (Ä x) U;subst k;cases r with
  |nil=>
   subst a;have e:kJ sep [x]=x:=by show aB ((x.data.toList++[]).toArray)=x;rw[Ė]
   rw[e];exact aoI c d x l
  |cons y r=>
   subst a;exact aoJ (r.length+1) Z (by simp at f;omega) c d g h x U b j
def aoK(a:n=xs.length)(c:n<=1000000)(d:n<=i)(h:nu O (jh xs) w)(f:iP xs+n<=140737488355328): Ò À 123 #[Ç O n i] w λe b=>e=Æ (Ä<|if xs=[]then⟨#[45]⟩else kJ ⟨#[44]⟩ xs)/\fc fh w b:=by
 have H:=ff<|TK (sep:=⟨#[44]⟩) a c d U h f;by_cases b:xs=[]
 .subst b;have e:=a;subst e;rw[if_pos U];clear a f H c d;go_enter Δ,Ÿ;go_wp2_with fail;go_ret;exact⟨U,fc.fU _ _⟩
 .rw[if_neg b];have k:0<n:=by rw[a];exact Ņ.2 b
  have l:((n:Int)==0)=Ë:=by simp;omega
  clear a;generalize kJ ⟨#[44]⟩ xs=z at*;go_enter Δ,Ÿ;go_wp2_with (go_at_call 38;apply H.out.mono;rintro e m ⟨rfl,g⟩;have j:=ff g;clear g);go_ret;exact⟨U,j.out⟩
end
def EN{M:Nat}:∀(a:List ByteArray),(∀z∈a,z.size<=M)->iP a<=M*a.length
 |[],_=>Ø _
 |x::r,h=>by
  have c:=EN r λz b=>h z<|Ĕ _ b;have d:=h x fp;have e:iP (x::r)=x.size+iP r:=by simp[iP]
  rw[e,ď,Nat.mul_add];omega
def Mg{e:Nat×Int}(h:gh e.2):(oH e).size<=21:=by unfold oH;rw[ø];have:=xR e.1;have:=qI e.2.toNat (by have:=h.1;have:=h.2;omega);omega
def aaB{e:Int×Bool}(a:0<=e.1)(h:e.1<=400):(xO e).size<=41:=by unfold xO;rw[ø,ø];have:=qI e.1.toNat Z;have:=qI e.2.toNat (by cases e.2<;>decide);have:ŭ ⟨#[58]⟩=1:=rfl;omega
section
variable{b:List ByteArray}
def aaC{ty:č}{base:Nat}(b:P.underlying t=Â (.slice e))(d:P.info? e=Â zJ)(h:w.ownsRow base e j v n l)(a:Option ü)(c:Nat): (ė #[t,t] ty #[v,Ç a 0 c]).run P w=.ok v w:=by
 have f:(Ō zJ.size 0<|Ç a 0 c).run P w=.ok #[] w:=by cases a<;>simp[Ō,loadCells,loadCellsFrom]
 rcases h.2 with⟨rfl,rfl⟩|⟨g,m,o,rfl,_,_,k,_⟩
 .simp[ė,Ů b,sizeOf,typeInfo,d,Ź,f,ν]
 .simp[ė,Ů b,sizeOf,typeInfo,d,Ź,f,k,ν]
def aoL{r:Array ĝ}{t:List ĝ}(l:o.guard=Á)(s c:Operand) (m:o.op=.call {callee:=.builtin κ,args:=#[s,c],argTypes:=#[25,25]}) (d:ig u v vX w) (n:y.eval s=v) {base:Nat} (B:w.ownsRow base 9 1 x b.length (jh b)) (e:y.eval c=x) (I:vX.length+b.length<=1000000) (h:∀j k,ig u j (vX++b) k->wpList À r vJ t (y.put o.dst j) k):wpList À r vJ (o::t) y w:=by
 let⟨J,p,D,E,F⟩:=ů zO;rcases B.2 with⟨f,G⟩|⟨g,H,L,f,_⟩
 .have z:=Ý G;subst z;rw[f]at e;refine Ε l λK i=> ?_;have q:=aaC (ty:=o.type) ĩ p d.fq Á 0;unfold Oper.wp ś;simp only[m,ρ,ar,ς,Sem.run_bind,Sem.run_pure,ŏ,Ŝ,ŉ,Ő,n,e,q];exact i _ _<|h v w<|by rwa[Ė]
 .by_cases C:b=[]
  .subst C;rw[f]at e;refine Ε l λK i=> ?_;have q:=aaC (ty:=o.type) ĩ p d.fq (Â ⟨g,0,Á⟩) H;unfold Oper.wp ś;simp only[m,ρ,ar,ς,Sem.run_bind,Sem.run_pure,ŏ,Ŝ,ŉ,Ő,n,e,q,ũ];exact i _ _<|h v w<|by rwa[Ė]
  .have K:=Ņ.2 C;refine BV l s c 25 m ĩ p D E F U n d.fq ⟨g,0,Á⟩ (jh b) (e.trans f) K (by simp[jh]) (B.cells<|by rw[f];rfl) (λi q=>by unfold jh at q;obtain⟨z,_,rfl⟩:=Ú.1 q;rfl) (by unfold ī;omega) Z d.r.M ?_;intro j k z;refine h j k ⟨?_,d.r.C z.r λi M q=> ?_⟩
   .have:=z.fq;rwa[show jh vX++jh b=jh (vX++b) by simp[jh],show vX.length+b.length=(vX++b).length by simp]at this
   .have:=(d.fq.lt i q).1;omega
end
def ig.I(h:ig u (Ç O n i) vX w):nu O (jh vX) w/\n=vX.length/\n<=i:=by
 rcases h.fq.2 with⟨b,d⟩|⟨g,f,k,b,_,_,d,_⟩
 .cases b;refine⟨λj x e=> ?_,d.symm,æ _⟩;rw[Ý d]at e;cases e
 .have e:n=vX.length:=by injection b
  subst e;injection b with _ _ h4;exact⟨nu.r h.fq,U,by rwa[h4]⟩
def TL(r:B1):ByteArray:=kJ ⟨#[44]⟩<|[gH r.C.toNat,gH r.M.toNat,gH r.r.toNat]++r.I.map oH
theorem aoM(x y:Nat)(g k:Int)(b c:Nat)(a:Bool)(f:List (Nat×Int))(L:b<18446744073709551616)(M:c<18446744073709551616)(S:f.length<=400000)(V:xM f)(W:lE w) (T:Ò À 158 #[Ã<|Â ⟨i,0,Á⟩,Å É x,Å É y,Å ã g,Å ã k] w λe h=>∃B,e=Æ (ë #[.agg #[Å ã b,õ a,Å ã c],B])/\h.ownsRow 0 257 2 B f.length (ki f)/\fc fh w h): Ò À 119 #[Ã<|Â ⟨i,0,Á⟩,Å É x,Å É y,Å ã g,Å ã k] w λe h=>e=Æ (Ä<|kJ ⟨#[44]⟩<|[gH a.toNat,gH c,gH b]++f.map oH)/\fc fh w h:=by
 have N:a.toNat<18446744073709551616:=by cases a<;>decide
 have H:=ff<|Ê T<|Ê W V;go_enter Tryz.func119,Tryz.ntmps119;go_wp2_with (go_at_call 158;apply H.out.1.mono;rintro e j ⟨B,rfl,q,d⟩;obtain⟨v,Q,rfl⟩:=jf q;have C:=ff<|Ê d q;clear d q);change ß À _ _ _ (j.alloc<|Û #[Å ã b,õ a,Å ã c] 252);have D:=(fc.gI fh j #[Å ã b,õ a,Å ã c] 252).fg<|fc.fS _ _;have E:=(H.out.2.1.r C.out.1).r D;have o:=(fi.N j [Å ã b,õ a,Å ã c] 252).I (fc.fS fh _) id;have O:=C.out.1.fg D;have X:=ie C.out.2 D λ_ _=>id;refine mf (λh=>h.cell? ⟨j.heap.size,0,Á⟩=Â (Å ã b)/\h.cell? ⟨j.heap.size,1,Á⟩=Â (õ a)/\h.cell? ⟨j.heap.size,2,Á⟩=Â (Å ã c)) [] fu ?_;have l:=ff<|Ê (o.r 0 _ rfl)<|Ê (o.r 1 _ rfl)<|o.r 2 _ rfl;generalize j.heap.size=ob at*;generalize ξ (j.alloc<|Û #[Å ã b,õ a,Å ã c] 252)=w5 at*;iterate 3 apply tk l.out
 apply tk l.out 5;apply tk l.out 6;apply tk l.out 8;apply tk l.out 9;apply tk l.out 10;apply gB 3;intro K d;go_simp;go_at_call 159;refine(Hw _ _).mono ?_;rintro e Y ⟨rfl,qA⟩;subst Y;rw[aap];apply d.out _ _ λ_=>l.out;apply gB 4;intro K d;go_simp;go_at_call 118;refine(xN a.toNat N _ E).mono ?_;rintro e wa ⟨rfl,p⟩;have r:=o.I p id;have P:=E.r p;apply d.out _ _ λ_=>⟨r.r 0 _ U,r.r 1 _ U,r.r 2 _ U⟩;apply gB 7;intro K d;go_simp;go_at_call 118;refine(xN c M _ P).mono ?_;rintro e wb ⟨rfl,s⟩;have t:=r.I s id;have Pb:=P.r s;apply d.out _ _ λ_=>⟨t.r 0 _ U,t.r 1 _ U,t.r 2 _ U⟩;apply gB 11;intro K d;go_simp;go_at_call 118;refine(xN b L _ Pb).mono ?_;rintro e m ⟨rfl,F⟩;have u:=t.I F id;have n:=u.I (fc.gI fh m #[Ä<|gH a.toNat,Ä<|gH c,Ä<|gH b] 9) id;apply d.out _ _ λ_=>⟨u.r 0 _ U,u.r 1 _ U,u.r 2 _ U⟩;apply gB 12;intro K d;go_simp;apply d.out _ _ λ_=>⟨n.r 0 _ U,n.r 1 _ U,n.r 2 _ U⟩;apply gB 13;intro K d;go_simp;apply d.out _ _ λ_=>⟨n.r 0 _ U,n.r 1 _ U,n.r 2 _ U⟩;refine lP fu ?_ _;have G:fc fh w5 (m.alloc<|Û #[Ä<|gH a.toNat,Ä<|gH c,Ä<|gH b] 9):=((p.fg s).fg F).fg<|fc.gI _ _ _ _;have T6:ig w (Ç (Â ⟨m.heap.size,0,Á⟩) 3 3) [gH a.toNat,gH c,gH b] (m.alloc<|Û #[Ä<|gH a.toNat,Ä<|gH c,Ä<|gH b] 9):=⟨World.ownsRow_lit m #[Ä<|gH a.toNat,Ä<|gH c,Ä<|gH b] 3 (Ì O.M ((p.fg s).fg F).M) (by unfold ī;omega) U,O.fg G⟩;have L6:=ie X G λ_ _=>id;have P6:=E.r G;have I:=ff<|Ê T6<|Ê L6 P6;generalize m.alloc (Û #[Ä<|gH a.toNat,Ä<|gH c,Ä<|gH b] 9)=w6 at*;generalize m.heap.size=tb at*;have j5:∀z∈[gH a.toNat,gH c,gH b]++f.map oH,z.size<=21:=λz hz=>by
  rcases â.1 hz with q|q
  .have h1:=qI a.toNat N;have h2:=qI c M;have v:=qI b L;grind
  .obtain⟨e,v,rfl⟩:=Ú.1 q;exact Mg (H.out.2.2 e v).2
 have sw:=EN _ j5;have hlen:([gH a.toNat,gH c,gH b]++f.map oH).length=3+f.length:=by simp;omega
 have J:=ff<|Ê sw hlen;go_wp2_with (first
  |(go_at_call 124;refine(aao U S H.out.2.2 I.out.2.2<|nu.r I.out.2.1).mono ?_;rintro e v ⟨lt,rfl,q⟩;obtain⟨ta,tc,rfl⟩:=jf q.fq;rw[ù]at q;have Q:=ff q;clear q)
  |(at_builtin;refine aoL U _ _ U (I.out.1.fM Q.out.r) U Q.out.fq U (by simp;omega) ?_;intro cv w8 v;obtain⟨ca,cc,rfl⟩:=jf v.fq;generalize([gH a.toNat,gH c,gH b]++f.map oH).length=cn at v|-;have q:=ff v;clear v)
  |(go_at_call 38;refine(TK q.out.I.2.1 (by have:=q.out.I.2.1;rw[this,J.out.2];omega) q.out.I.2.2 U q.out.I.1 (by have:=q.out.I.2.1;have h1:=J.out.1;have h2:=J.out.2;omega)).mono ?_;rintro e w9 ⟨rfl,v⟩;have Q:=ff v;clear v))
 go_ret;exact⟨U,q.out.r.fg Q.out⟩
def aoN{s:St}(v:mh i s h w)(b:gJ s)(z:iK w)(B:lE w)(x y:Nat)(g k:Int)(c:x<8)(d:y<8)(f:0<=g)(j:g<=100000)(l:gh k): Ò À 119 #[Ã<|Â ⟨i,0,Á⟩,Å É x,Å É y,Å ã g,Å ã k] w λe q=>e=Æ (Ä<|TL<|gl s [] x y g k)/\fc fh w q:=by have T:=aal v b z x y g k c d f j l _ U;have e:=Ly s [] x y g k b c d l f j (by simp;omega);have m:=Tn s [] x y g k b c d l f j (by simp;omega) (λ_ q=>by cases q);obtain⟨q,o,a,t,p,C⟩:∃q o a t p,gl s [] x y g k=⟨q,o,a,t,p⟩:=⟨_,_,_,_,_,U⟩;rw[C]at T e m|-;have D:=e.C;have E:=e.r;have r:=e.M;have u:=e.I;simp only at D E r u m T;obtain⟨F,rfl⟩:∃n:Nat,q=n:=⟨q.toNat,Z⟩;obtain⟨G,rfl⟩:∃n:Nat,a=n:=⟨a.toNat,by have:=r.1;omega⟩;exact aoM x y g k F G o p Z (by have:=r.2;omega) (by simp at u;omega) m B T
def qc(w:Í):Prop:=w.cell? ⟨4,15,Á⟩=Â (Å ū 4)
def qc.r(h:qc w)(k:fc fh w u):qc u:=k.r h id
def aoO(c:qc w):Ò À 207 #[Å ã 16] w λe a=>e=Æ (Å É 4)/\a=w:=by
 unfold qc at c;have b:ã.wrap (bits BinOp.and ã 16 (ã.wrap<|-16)*285870213051353865)/288230376151711744=15:=A
 go_enter Tryz.func207,Tryz.ntmps207;go_wp2;go_ret;exact⟨U,U⟩
def tz(c:qc w):Ò À 201 #[Å ã 16] w λe a=>e=Æ (Å É 4)/\a=w:=by go_enter Tryz.func201,Tryz.ntmps201;go_wp2_with (go_at_call 207;refine(aoO c).mono ?_;rintro e a ⟨rfl,b⟩;subst a);go_ret;exact⟨U,U⟩
def aoP:Ò À 200 #[Å É 16] w λe a=>e=Æ (õ Î)/\a=w:=by
 have b:bits BinOp.and É 16 15=0:=A
 go_enter Tryz.func200,Tryz.ntmps200;go_wp2;go_ret;simp_all
def oJ(d:Nat):UInt8:=if h:d<36 then(⟨#[48,49,50,51,52,53,54,55,56,57,97,98,99,100,101,102,103,104,105,106,107,108,109,110,111,112,113,114,115,116,117,118,119,120,121,122]⟩:ByteArray)[d]'h else 0
def rL:Nat->Nat->List UInt8->List UInt8
 |0,_,acc=>acc
 |k+1,n,acc=>if n<16 then oJ n::acc else rL k (n/16) (oJ (n%16)::acc)
def aaD:∀k n a,(rL k n a).length<=k+a.length
 |0,_,a=>by simp[rL]
 |k+1,n,a=>by
  unfold rL;split
  .simp;omega
  .have:=aaD k (n/16)<|oJ (n%16)::a;simp at this;omega
noncomputable def Mh:Τ:=(Tryz.f190.body.bind ko).getD aj
def EO(a:Nat)(n i:Int)(u:Nat->Ñ):Ĉ:=⟨#[u 0,Å ã n,Å É 16,õ Ë,õ Ë,u 5,u 6,u 7,u 8,u 9,Ç Á 0 0,u 11,Ã<|Â ⟨a,0,Á⟩,Å É i,Å ã 4,Å ã 16,Å ã 15,u 17,u 18,u 19,u 20,u 21,u 22,u 23,u 24,u 25,u 26,u 27,u 28,u 29,u 30,u 31,u 32,u 33,u 34,u 35,u 36,u 37,u 38,u 39,u 40,u 41,u 42,u 43,u 44,u 45,u 46,u 47,u 48,u 49,u 50,u 51,u 52,u 53,u 54,u 55,u 56,u 57,u 58,u 59,u 60,u 61,u 62,u 63,u 64,u 65,u 66,u 67,u 68,u 69,u 70,u 71,u 72,u 73,u 74,u 75,u 76,u 77,u 78,u 79,u 80,u 81,u 82,u 83,u 84,u 85,u 86,u 87,u 88,u 89,u 90,u 91,u 92,u 93,u 94,u 95,u 96,u 97,u 98,u 99,u 100,u 101],[]⟩
def EP(b:Nat)(n i:Int)(a:Ĉ):Prop:=∃u,a=EO b n i u
def zc(i:Nat)(a:List UInt8):List Ñ:=ą i (Å ū 0)++Ö a
def aaE(i:Nat)(a:List UInt8):(zc i a).length=i+a.length:=by simp[zc,Ö]
theorem aaF(i:Nat)(a:List UInt8)(c:UInt8):(zc (i+1) a).set i (Å ū c.toNat)=zc i (c::a):=by unfold zc;rw[List.replicate_succ',ő,Ĵ _ _ fp];simp[Ö]
section
variable{X:Ĉ->Í->Prop}
def aoQ(u:Nat->Ñ)(n b:Nat)(d:n<16)(c:∀a,EP i n b a->X a w): ß À Mh (Exit.then K<|QE 0 X) (EO i n b u) w:=by
 unfold EO;conv=>arg 2;whnf
 go_wp2_with fail
 exact⟨U,c _ (gk _)⟩
def aoR(u:Nat->Ñ)(n b:Nat)(g:16<=n)(h:n<18446744073709551616)(j:b<65)(v:Ñ)(c:w.cell? ⟨i,b,Á⟩=Â v)(k:w.frozen? ⟨i,b,Á⟩=Ë) (e:∀a,EP i ((n/16:Nat):Int) b a->K a (w.setCell ⟨i,b,Á⟩<|Å ū (oJ<|n%16).toNat)): ß À Mh (Exit.then K<|QE 0 X) (EO i n ((b+1:Nat):Int) u) w:=by
 unfold EO;conv=>arg 2;whnf
 have l:bits BinOp.and ã (n:Int) 15=((n%16:Nat):Int):=by have:=(bits_nat ã 64 A (λn f H=>by rw[Ć];omega) n 15 Z A).1;rwa[show(15:Nat)=2^4-1 from rfl,Nat.and_two_pow_sub_one_eq_mod]at this
 have f:n%16<36:=Z
 have m:(⟨#[48,49,50,51,52,53,54,55,56,57,97,98,99,100,101,102,103,104,105,106,107,108,109,110,111,112,113,114,115,116,117,118,119,120,121,122]⟩:ByteArray)[n%16]'f=oJ (n%16):=by unfold oJ;rw[dif_pos f]
 have H:=ff e;clear e;generalize o:n%16=d at*;go_wp2_with fail;exact H.out _ (gk _)
def XI(i:Nat)(u:Í)(d:List UInt8)(a:Ĉ)(w:Í):Prop:=
 ∃(n b:Nat) (c:List UInt8),EP i n b a/\50<=b/\b+c.length=65/\n<16^(b-49)/\n<18446744073709551616/\fc (λk=>k=i) u w/\fi i (zc b c) 292 w/\rL (b-49) n c=d
def XE(i:Nat)(u:Í)(d:List UInt8)(a:Ĉ)(w:Í):Prop:=
 ∃(n b:Nat) (c:List UInt8),EP i n b a/\n<16/\50<=b/\b+c.length=65/\fc (λk=>k=i) u w/\fi i (zc b c) 292 w/\oJ n::c=d
def Mi(a:Ĉ)(_:Í):Nat:=match a.tmps.getD 1 ĸ with
 |Å _ i=>i.toNat
 |_=>0
def aaG(b:EP i n j y):Mi y w=n:=by obtain⟨u,rfl⟩:=b;show(n:Int).toNat=_;simp
theorem aoS{h:List UInt8}(a:Ĉ)(w:Í)(o:XI i u h a w): ß À Mh (Exit.then (λb c=>XI i u h b c/\Mi b c<Mi a w)<|QE 0<|XE i u h) a w:=by
 let⟨n,b,f,l,p,r,s,t,m,e,d⟩:=o;rw[aaG l];obtain⟨c,rfl⟩:=l;obtain⟨j,rfl⟩:∃j,b=j+1:=⟨b-1,Z⟩;have x:j+1-49=(j-49)+1:=Z
 rw[x]at d s;unfold rL at d;by_cases g:n<16
 .rw[if_pos g]at d;exact aoQ c n (j+1) g λa q=>⟨n,j+1,f,q,g,p,r,m,e,d⟩
 .rw[if_neg g]at d;have y:50<=j:=by
   grind
  have C:(zc (j+1) f).length=65:=by rw[aaE];omega
  obtain⟨v,z⟩:∃v,(zc (j+1) f)[j]?=Â v:=⟨_,Ó Z⟩;have B:n/16<16^(j-49):=by grind
  refine aoR c n j Z t Z v (e.r j v z) (e.C j) λa q=>⟨⟨n/16,j,oJ (n%16)::f,q,y,by simp;omega,B,Z,m.fg (fc.I (X:=λk=>k=i) U _<|Ï e.G),?_,d⟩,by rw[aaG q];omega⟩;have:=e.fZ j<|Å ū (oJ<|n%16).toNat;grind [aaF]
end
def aoT:ú=(zc 65 []).toArray:=fu
def ny(n:Nat):ByteArray:=⟨(rL 16 n []).toArray⟩
theorem aoU(n:Nat)(l:n<18446744073709551616)(o:qc w):Ò À 190 #[Ç Á 0 0,Å ã n,Å É 16,õ Ë,õ Ë] w λe p=>e=Æ (ë #[Ç Á 0 0,Ä<|ny n])/\fc fh w p:=by
 have L:∀a,EP w.heap.size n (65:Nat) a->ß À (ń Mh) (QE 0<|XE w.heap.size (w.alloc<|Û ú 292)<|rL 16 n []) a (w.alloc<|Û ú 292):=λa r=>
  Γ (XI w.heap.size (w.alloc<|Û ú 292)<|rL 16 n []) Mi ⟨n,65,[],r,Z,U,by show n<16^16;omega,l,fc.fU _ _,by rw[aoT];exact fi.N w (zc 65 []) 292,U⟩ aoS
 have H:=ff<|Ê o L;unfold ny;generalize rL 16 n []=res at*;go_enter Tryz.func190,Tryz.ntmps190;go_wp2_with (first
  |(go_at_call 200;refine aoP.mono ?_;rintro e b ⟨rfl,c⟩;subst b)
  |(go_at_call 201;refine(tz (H.out.1.r kp)).mono ?_;rintro e b ⟨rfl,c⟩;subst b))
 refine İ (Q:=QE 0<|XE w.heap.size (w.alloc<|Û ú 292) res) ?_ (H.out.2 _ (gk _));rintro(_|_|_|_|_|_) a v hq;all_goals first|exact absurd hq id|skip
 obtain⟨rfl,m,i,c,s,E,F,G,x,b,d⟩:=hq;obtain⟨u,rfl⟩:=s;unfold EO;obtain⟨j,rfl⟩:∃j,i=j+1:=⟨i-1,Z⟩;have I:(zc (j+1) c).length=65:=by rw[aaE];omega
 obtain⟨z,y⟩:∃z,(zc (j+1) c)[j]?=Â z:=⟨_,Ó Z⟩;have J:=b.r j z y;have K:=b.C j;have M:(0:Int)<=(j:Int):=Z
 have N:(j:Int)<65:=Z
 have O:(j:Int)<=65:=Z
 have S:(0:Int)<=(m:Int):=Z
 have T:(m:Int)<36:=Z
 have f:m<36:=Z
 have V:(⟨#[48,49,50,51,52,53,54,55,56,57,97,98,99,100,101,102,103,104,105,106,107,108,109,110,111,112,113,114,115,116,117,118,119,120,121,122]⟩:ByteArray)[m]'f=oJ m:=by unfold oJ;rw[dif_pos f]
 have B:=(fc.gI fh w ú 292).C x λi C q=>by omega
 have g:=b.fZ j<|Å ū (oJ m).toNat;rw[aaF,d]at g;have D:fc fh w (v.setCell ⟨w.heap.size,j,Á⟩<|Å ū (oJ m).toNat):=B.C (fc.I (X:=λk=>k=w.heap.size) U _<|Ï b.G) λi C q=>by omega
 have W:res.length=65-j:=by rw[<-d];simp;omega
 have Y:(convert 107 9<|Ç (Â ⟨w.heap.size,j,Á⟩) (65-j)<|65-j).run À (v.setCell ⟨w.heap.size,j,Á⟩<|Å ū (oJ m).toNat)=.ok (Ä ⟨res.toArray⟩) (v.setCell ⟨w.heap.size,j,Á⟩<|Å ū (oJ m).toNat):=by have h:=run_convert_bytes_back (P:=À) (v.setCell ⟨w.heap.size,j,Á⟩<|Å ū (oJ m).toNat) 107 9 5 ⟨w.heap.size,j,Á⟩ (65-j) res fu fu fu (λt k=>by rw[Addr.add_mid];apply g.r (j+t) _;unfold zc;rw[ğ fp];simp[Ö,Ó k]);grind
 have k:=ff D;go_wp2;go_ret2;simp_all
def aoV(n:Nat)(b:n<18446744073709551616)(c:qc w):Ò À 172 #[Å ã n,Å É 16] w λe a=>e=Æ (Ä<|ny n)/\fc fh w a:=by go_enter Tryz.func172,Tryz.ntmps172;go_wp2_with (go_at_call 190;refine(aoU n b c).mono ?_;rintro e a ⟨rfl,d⟩);go_ret;exact⟨U,d⟩
def aoW(n:Nat)(b:n<18446744073709551616)(c:qc w):Ò À 157 #[Å ã n,Å É 16] w λe a=>e=Æ (Ä<|ny n)/\fc fh w a:=by go_enter Tryz.func157,Tryz.ntmps157;go_wp2_with (go_at_call 172;refine(aoV n b c).mono ?_;rintro e a ⟨rfl,d⟩);go_ret;exact⟨U,d⟩
def aoX(s:ByteArray)(w:Í)(h:s.data.toList.head?=Â 48):Ò À 175 #[Ä s,Ä ⟨#[48]⟩] w λe b=>e=Æ (õ Î)/\b=w:=by
 have H:=Tryz.strings_HasPrefix s ⟨#[48]⟩ w;have e:ź s.data.toList (Ű ⟨#[48]⟩).toList=Î:=by
  generalize s.data.toList=l at h;cases l with
  |nil=>cases h
  |cons a r=>cases h;rfl
 rwa[e]at H
def aoY(s:ByteArray)(w:Í)(h:¬s.data.toList.head?=Â 48):Ò À 175 #[Ä s,Ä ⟨#[48]⟩] w λe b=>e=Æ (õ Ë)/\b=w:=by
 have H:=Tryz.strings_HasPrefix s ⟨#[48]⟩ w;have e:ź s.data.toList (Ű ⟨#[48]⟩).toList=Ë:=by
  generalize s.data.toList=l at h;cases l with
  |nil=>rfl
  |cons a r=>
   have c:¬a=48:=λq=>h (by rw[q];rfl);show((48:UInt8)==a&&List.isPrefixOf [] r)=Ë;have:((48:UInt8)==a)=Ë:=beq_eq_false_iff_ne.2 λq=>c q.symm;rw[this];rfl
 rwa[e]at H
def zR(k:Nat):ByteArray:=σ ⟨#[48,48,48,48,48,48,48,48,48,48,48,48,48,48,48,48,48,48,48,48,48,48,48,48,48,48,48,48,48,48,48,48,48,48,48,48,48,48,48,48,48,48,48,48,48,48,48,48,48,48,48,48,48,48,48,48,48,48,48,48,48,48,48,48]⟩ 0 k
def aoZ(k:Nat)(d:2<=k)(f:k<=64):Ò À 160 #[Ä ⟨#[48]⟩,Å É k] w λe a=>e=Æ (Ä<|zR k)/\a=w:=by
 have g:((k:Int)==0)=Ë:=by simp;omega
 have h:((k:Int)==1)=Ë:=by simp;omega
 have i:¬(k:Int)<0:=Z
 have j:(0:Int)<=(k:Int):=Z
 have l:(k:Int)<=64:=Z
 have m:ã.wrap (k:Int)=(k:Int):=by rw[Ć];omega
 have n:É.wrap (k:Int)=(k:Int):=by rw[ŝ];omega
 have M:=Tryz.bits_Mul 1 k A Z w;rw[show 1*k/18446744073709551616=0 by omega,show 1*k%18446744073709551616=k by omega]at M;have c:=ff M;go_enter Œ,Ŋ;go_wp2_with (first
  |(go_at_call 174;refine c.out.mono ?_;rintro e a ⟨rfl,b⟩;subst a)
  |(go_at_call 175;refine(aoY _ _ A).mono ?_;rintro e a ⟨rfl,b⟩;subst a)
  |(go_at_call 175;refine(aoX _ _ A).mono ?_;rintro e a ⟨rfl,b⟩;subst a))
 go_ret;exact⟨U,U⟩
def ao0:Ò À 160 #[Ä ⟨#[48]⟩,Å É 0] w λe a=>e=Æ (Ä ⟨#[]⟩)/\a=w:=by go_enter Œ,Ŋ;go_wp2;go_ret;exact⟨U,U⟩
def ao1:Ò À 160 #[Ä ⟨#[48]⟩,Å É 1] w λe a=>e=Æ (Ä ⟨#[48]⟩)/\a=w:=by go_enter Œ,Ŋ;go_wp2;go_ret;exact⟨U,U⟩
def ao2(k:Nat)(a:k<=64):Ò À 160 #[Ä ⟨#[48]⟩,Å É k] w λe b=>e=Æ (Ä<|zR k)/\b=w:=by
 match k with
 |0=>exact ao0
 |1=>exact ao1
 |k+2=>exact aoZ (k+2) Z a
def zS(n:Nat):ByteArray:=zR (16-(ny n).size)++ny n
def aaH(n:Nat):(ny n).size<=16:=by show(rL 16 n []).toArray.size<=16;have:=aaD 16 n [];simpa using this
def aaI(k:Nat):(zR k).size<=k:=by unfold zR;rw[Č];omega
def ao3(n:Nat)(c:n<18446744073709551616)(d:qc w):Ò À 121 #[Å ã n] w λe a=>e=Æ (Ä<|zS n)/\fc fh w a:=by
 have g:=aaH n;have h:=aaI<|16-(ny n).size;have T:=aoW n c d;have R:∀W:Í,Ò À 160 #[Ä ⟨#[48]⟩,Å É ((16-(ny n).size:Nat):Int)] W λe a=>e=Æ (Ä<|zR<|16-(ny n).size)/\a=W:=λW=>ao2 _ Z;have i:É.wrap ((16:Int)-((ny n).size:Int))=((16-(ny n).size:Nat):Int):=by rw[ŝ];omega
 have j:(16:Int)-((ny n).size:Int)=((16-(ny n).size:Nat):Int):=Z
 have l:¬9223372036854775807<(zR<|16-(ny n).size).size+(ny n).size:=Z
 unfold zS;have H:=ff<|Ê T R;generalize m:zR (16-(ny n).size)=zs at*;generalize o:16-(ny n).size=k at*;generalize ny n=fs at*;go_enter Tryz.func121,Tryz.ntmps121;go_wp2_with (first
  |(go_at_call 157;refine H.out.1.mono ?_;rintro e p ⟨rfl,b⟩;have f:=ff b;clear b)
  |(go_at_call 160;refine(H.out.2 _).mono ?_;rintro e b ⟨rfl,p⟩;subst b))
 go_ret;exact⟨U,f.out⟩
structure pj(r:Nat)(x y g k:Nat)(kind v v2:Int)(slot:Nat)(w:Í):Prop where
 I:w.cell? ⟨r,0,Á⟩=Â (Å É x)
 S:w.cell? ⟨r,1,Á⟩=Â (Å É y)
 a:w.cell? ⟨r,2,Á⟩=Â (Å É g)
 Y:w.cell? ⟨r,3,Á⟩=Â (Å É k)
 N:w.cell? ⟨r,4,Á⟩=Â (Å É kind)
 M:w.cell? ⟨r,5,Á⟩=Â (Å É v)
 c:w.cell? ⟨r,6,Á⟩=Â (Å É v2)
 b:w.cell? ⟨r,7,Á⟩=Â (Å É slot)
def ig.N(h:ig u v vX W)(k:fc fh w u):ig w v vX W:=by
 refine⟨⟨h.fq.1,?_⟩,k.fg h.r⟩;rcases h.fq.2 with q|⟨g,a,b,c,d,q⟩
 .exact È q
 .exact Ï ⟨g,a,b,c,Ì k.M d,q⟩
section
variable{cp r x y g slot:Nat}{v v2:Int}
def pj.C{w:Í}(h:pj r x y g k c v v2 slot w)(q:fc fh w u):pj r x y g k c v v2 slot u:= ⟨q.r h.I id,q.r h.S id,q.r h.a id,q.r h.Y id,q.r h.N id,q.r h.M id,q.r h.c id,q.r h.b id⟩
def ao4(F:Ò À 113 #[Ç O n cp,Å É v] w λe b=>e=Æ (jR<|Â i)/\fc fh w b)(h:pj r x y g k 2 v v2 slot w)(p:x<8)(q:slot<16)(z:Nat)(j:w.cell? ⟨i,x*18+2+slot,Á⟩=Â (Å ã z)) (C:∀W,fc fh w W->Ò À 118 #[Å ã z] W λe b=>e=Æ (Ä B)/\fc fh W b): Ò À 67 #[Ç O n cp,Ã<|Â ⟨r,0,Á⟩] w λe b=>e=Æ (Ä B)/\fc fh w b:=by
 have s:=h.M;have m:=h.N;have t:(0:Int)<=(x:Int):=Z
 have u:(x:Int)<8:=Z
 have D:(0:Int)<=(slot:Int):=Z
 have E:(slot:Int)<16:=Z
 have H:=ff<|Ê F C;have d:=ff h;clear F C h;go_enter ó,í;go_wp2_with (go_at_call 113;apply H.out.1.mono;rintro e f ⟨rfl,c⟩;dsimp only[jR,ð];have l:=c.r m id;have a:=ff c;clear c);refine mf (λb=>b.cell? ⟨r,0,Á⟩=Â (Å É x)/\b.cell? ⟨r,7,Á⟩=Â (Å É slot)/\b.cell? ⟨i,x*18+2+slot,Á⟩=Â (Å ã z)) [] fu ?_;have o:=ff<|Ê ((d.out.C a.out).C<|fc.fS fh _).I<|Ê ((d.out.C a.out).C<|fc.fS fh _).b<|(a.out.fg<|fc.fS _ _).r j id;iterate 17 apply tk o.out
 apply gB 17;intro K f;go_simp;go_at_call 118;refine(H.out.2 _<|a.out.fg<|fc.fS _ _).mono ?_;rintro e G ⟨rfl,l⟩;have c:=ff l;clear l;dsimp only;apply f.out _ _ λ_=>⟨(d.out.C<|(a.out.fg<|fc.fS _ _).fg c.out).I,(d.out.C<|(a.out.fg<|fc.fS _ _).fg c.out).b,(((a.out.fg<|fc.fS _ _).fg c.out).r j id)⟩;clear f K;apply gB 18;intro K f;go_simp;apply f.out _ _ λ_=>⟨(d.out.C<|(a.out.fg<|fc.fS _ _).fg c.out).I,(d.out.C<|(a.out.fg<|fc.fS _ _).fg c.out).b,(((a.out.fg<|fc.fS _ _).fg c.out).r j id)⟩;clear f K;try simp only[Act.put,é,ý,þ]
 refine lP fu ?_ _;go_wp2_with fail;go_ret;exact⟨U,(a.out.fg<|fc.fS _ _).fg c.out⟩
def ao5(F:Ò À 113 #[Ç O n cp,Å É v] w λe a=>e=Æ (jR<|Â i)/\fc fh w a)(f:pj r x y g k 3 v v2 slot w)(p:x<8)(z:Nat)(h:w.cell? ⟨i,x*18,Á⟩=Â (Å ã z)) (C:∀W,fc fh w W->Ò À 118 #[Å ã z] W λe a=>e=Æ (Ä B)/\fc fh W a): Ò À 67 #[Ç O n cp,Ã<|Â ⟨r,0,Á⟩] w λe a=>e=Æ (Ä B)/\fc fh w a:=by
 have q:=f.M;have m:=f.N;have s:(0:Int)<=(x:Int):=Z
 have t:(x:Int)<8:=Z
 have H:=ff<|Ê F C;have j:=ff f;clear F C f;go_enter ó,í;go_wp2_with (go_at_call 113;apply H.out.1.mono;rintro e d ⟨rfl,c⟩;dsimp only[jR,ð];have l:=c.r m id;have b:=ff c;clear c);refine mf (λa=>a.cell? ⟨r,0,Á⟩=Â (Å É x)/\a.cell? ⟨i,x*18,Á⟩=Â (Å ã z)) [] fu ?_;have o:=ff<|Ê ((j.out.C b.out).C<|fc.fS fh _).I<|(b.out.fg<|fc.fS _ _).r h id;iterate 12 apply tk o.out
 apply gB 12;intro K c;go_simp;go_at_call 118;refine(H.out.2 _<|b.out.fg<|fc.fS _ _).mono ?_;rintro e u ⟨rfl,l⟩;have d:=ff l;clear l;dsimp only;apply c.out _ _ λ_=>⟨(j.out.C<|(b.out.fg<|fc.fS _ _).fg d.out).I,(((b.out.fg<|fc.fS _ _).fg d.out).r h id)⟩;clear c K;apply gB 13;intro K c;go_simp;apply c.out _ _ λ_=>⟨(j.out.C<|(b.out.fg<|fc.fS _ _).fg d.out).I,(((b.out.fg<|fc.fS _ _).fg d.out).r h id)⟩;clear c K;try simp only[Act.put,é,ý,þ]
 refine lP fu ?_ _;go_wp2_with fail;go_ret;exact⟨U,(b.out.fg<|fc.fS _ _).fg d.out⟩
def ao6(F:Ò À 113 #[Ç O n cp,Å É v] w λe c=>e=Æ (jR<|Â i)/\fc fh w c)(h:pj r x y g k 4 v v2 slot w)(o:g<=400)(p:k<18446744073709551616) (C:∀W,fc fh w W->Ò À 119 #[Ã<|Â ⟨i,0,Á⟩,Å É x,Å É y,Å ã g,Å ã k] W λe c=>e=Æ (Ä B)/\fc fh W c): Ò À 67 #[Ç O n cp,Ã<|Â ⟨r,0,Á⟩] w λe c=>e=Æ (Ä B)/\fc fh w c:=by
 have q:=h.M;have l:=h.N;have s:ã.wrap (k:Int)=(k:Int):=by rw[Ć];omega
 have t:ã.wrap (g:Int)=(g:Int):=by rw[Ć];omega
 have u:¬(400:Int)<(g:Int):=Z
 have z:(g:Int)<=400:=Z
 have H:=ff<|Ê F C;have b:=ff h;clear F C h;go_enter ó,í;go_wp2_with (go_at_call 113;apply H.out.1.mono;rintro e f ⟨rfl,d⟩;dsimp only[jR,ð];have j:=d.r l id;have m:=d.r b.out.a id;have a:=ff d;clear d);refine mf (λc=>c.cell? ⟨r,0,Á⟩=Â (Å É x)/\c.cell? ⟨r,1,Á⟩=Â (Å É y)/\c.cell? ⟨r,2,Á⟩=Â (Å É g)/\c.cell? ⟨r,3,Á⟩=Â (Å É k)) [] fu ?_;have m:=ff<|Ê ((b.out.C a.out).C<|fc.fS fh _).I<|Ê ((b.out.C a.out).C<|fc.fS fh _).S<|Ê ((b.out.C a.out).C<|fc.fS fh _).a ((b.out.C a.out).C<|fc.fS fh _).Y;iterate 23 apply tk m.out
 apply gB 23;intro K f;go_simp;go_at_call 119;refine(H.out.2 _<|a.out.fg<|fc.fS _ _).mono ?_;rintro e D ⟨rfl,j⟩;have d:=ff j;clear j;dsimp only;apply f.out _ _ λ_=>⟨(b.out.C<|(a.out.fg<|fc.fS _ _).fg d.out).I,(b.out.C<|(a.out.fg<|fc.fS _ _).fg d.out).S,(b.out.C<|(a.out.fg<|fc.fS _ _).fg d.out).a,(b.out.C<|(a.out.fg<|fc.fS _ _).fg d.out).Y⟩;clear f K;apply gB 24;intro K f;go_simp;apply f.out _ _ λ_=>⟨(b.out.C<|(a.out.fg<|fc.fS _ _).fg d.out).I,(b.out.C<|(a.out.fg<|fc.fS _ _).fg d.out).S,(b.out.C<|(a.out.fg<|fc.fS _ _).fg d.out).a,(b.out.C<|(a.out.fg<|fc.fS _ _).fg d.out).Y⟩;clear f K;try simp only[Act.put,é,ý,þ]
 refine lP fu ?_ _;go_wp2_with fail;go_ret;exact⟨U,(a.out.fg<|fc.fS _ _).fg d.out⟩
def ao7(F:Ò À 113 #[Ç O n cp,Å É v] w λe b=>e=Æ (jR<|Â i)/\fc fh w b)(h:pj r x y g k 5 v v2 slot w)(o:k<18446744073709551616) (C:∀W,fc fh w W->Ò À 120 #[Ã<|Â ⟨i,0,Á⟩,Å É x,Å É y,Å ã k] W λe b=>e=Æ (Ä B)/\fc fh W b): Ò À 67 #[Ç O n cp,Ã<|Â ⟨r,0,Á⟩] w λe b=>e=Æ (Ä B)/\fc fh w b:=by
 have p:=h.M;have l:=h.N;have q:ã.wrap (k:Int)=(k:Int):=by rw[Ć];omega
 have H:=ff<|Ê F C;have c:=ff h;clear F C h;go_enter ó,í;go_wp2_with (go_at_call 113;apply H.out.1.mono;rintro e f ⟨rfl,d⟩;dsimp only[jR,ð];have j:=d.r l id;have a:=ff d;clear d);refine mf (λb=>b.cell? ⟨r,0,Á⟩=Â (Å É x)/\b.cell? ⟨r,1,Á⟩=Â (Å É y)/\b.cell? ⟨r,3,Á⟩=Â (Å É k)) [] fu ?_;have m:=ff<|Ê ((c.out.C a.out).C<|fc.fS fh _).I<|Ê ((c.out.C a.out).C<|fc.fS fh _).S ((c.out.C a.out).C<|fc.fS fh _).Y;iterate 17 apply tk m.out
 apply gB 17;intro K f;go_simp;go_at_call 120;refine(H.out.2 _<|a.out.fg<|fc.fS _ _).mono ?_;rintro e s ⟨rfl,j⟩;have d:=ff j;clear j;dsimp only;apply f.out _ _ λ_=>⟨(c.out.C<|(a.out.fg<|fc.fS _ _).fg d.out).I,(c.out.C<|(a.out.fg<|fc.fS _ _).fg d.out).S,(c.out.C<|(a.out.fg<|fc.fS _ _).fg d.out).Y⟩;clear f K;apply gB 18;intro K f;go_simp;apply f.out _ _ λ_=>⟨(c.out.C<|(a.out.fg<|fc.fS _ _).fg d.out).I,(c.out.C<|(a.out.fg<|fc.fS _ _).fg d.out).S,(c.out.C<|(a.out.fg<|fc.fS _ _).fg d.out).Y⟩;clear f K;try simp only[Act.put,é,ý,þ]
 refine lP fu ?_ _;go_wp2_with fail;go_ret;exact⟨U,(a.out.fg<|fc.fS _ _).fg d.out⟩
def ao8(F:Ò À 113 #[Ç O n cp,Å É v] w λe a=>e=Æ (jR<|Â i)/\fc fh w a)(b:pj r x y g k 6 v v2 slot w)(z:Nat)(C:∀W,fc fh w W->Ò À 122 #[Ã<|Â ⟨i,0,Á⟩] W λe a=>e=Æ (Å ã z)/\fc fh W a)(d:∀W,fc fh w W->Ò À 121 #[Å ã z] W λe a=>e=Æ (Ä B)/\fc fh W a): Ò À 67 #[Ç O n cp,Ã<|Â ⟨r,0,Á⟩] w λe a=>e=Æ (Ä B)/\fc fh w a:=by
 have m:=b.M;have j:=b.N;have l:=ff d;clear d;have H:=ff<|Ê F C;have o:=ff b;clear F C b;go_enter ó,í;go_wp2_with (first
  |(go_at_call 113;refine H.out.1.mono ?_;rintro e h ⟨rfl,c⟩;dsimp only[jR,ð];have p:=c.r j id;have f:=ff c;clear c)
  |(go_at_call 122;refine(H.out.2 _ f.out).mono ?_;rintro e p ⟨rfl,c⟩;have h:=ff<|f.out.fg c;clear c)
  |(go_at_call 121;refine(l.out _ h.out).mono ?_;rintro e p ⟨rfl,c⟩;have f:=ff (h.out.fg c);clear c))
 go_ret;exact⟨U,f.out⟩
def ao9(F:Ò À 113 #[Ç O n cp,Å É v] w λe b=>e=Æ (jR<|Â i)/\fc fh w b)(d:pj r x y g k 7 v v2 slot w)(l:Option ü)(o p:Nat)(u:w.cell? ⟨i,144,Á⟩=Â (Ç l o p))(f:List ByteArray)(C:∀W,fc fh w W->Ò À 124 #[Ç l o p] W λe b=>∃j,e=Æ j/\ig W j f b)(q:∀W a m c,ig w (Ç a m c) f W->Ò À 123 #[Ç a m c] W λe b=>e=Æ (Ä B)/\fc fh W b): Ò À 67 #[Ç O n cp,Ã<|Â ⟨r,0,Á⟩] w λe b=>e=Æ (Ä B)/\fc fh w b:=by
 have J:=d.M;have z:=d.N;have D:=ff q;clear q;have H:=ff<|Ê F C;have K:=ff d;clear F C d;go_enter ó,í;go_wp2_with (first
  |(go_at_call 113;refine H.out.1.mono ?_;rintro e t ⟨rfl,h⟩;dsimp only[jR,ð];have E:=h.r z id;have G:=h.r u id;have s:=ff h;clear h)
  |(go_at_call 124;refine(H.out.2 _ s.out).mono ?_;rintro e E ⟨j,rfl,h⟩;obtain⟨G,I,rfl⟩:=jf h.fq;generalize f.length=tn at h|-;have t:=ff (show ig w (Ç G tn I) f E from h.N s.out);clear h)
  |(go_at_call 123;refine(D.out _ _ _ _ t.out).mono ?_;rintro e E ⟨rfl,h⟩;have s:=ff (t.out.r.fg h);clear h))
 go_ret;exact⟨U,s.out⟩
def apa(F:Ò À 113 #[Ç O n cp,Å É v] w λe b=>e=Æ (jR<|Â i)/\fc fh w b)(d:pj r x y g k 8 v v2 slot w)(l:Option ü)(o p:Nat)(u:w.cell? ⟨i,146,Á⟩=Â (Ç l o p))(f:List ByteArray)(C:∀W,fc fh w W->Ò À 125 #[Ç l o p] W λe b=>∃j,e=Æ j/\ig W j f b)(q:∀W a m c,ig w (Ç a m c) f W->Ò À 123 #[Ç a m c] W λe b=>e=Æ (Ä B)/\fc fh W b): Ò À 67 #[Ç O n cp,Ã<|Â ⟨r,0,Á⟩] w λe b=>e=Æ (Ä B)/\fc fh w b:=by
 have J:=d.M;have z:=d.N;have D:=ff q;clear q;have H:=ff<|Ê F C;have K:=ff d;clear F C d;go_enter ó,í;go_wp2_with (first
  |(go_at_call 113;refine H.out.1.mono ?_;rintro e t ⟨rfl,h⟩;dsimp only[jR,ð];have E:=h.r z id;have G:=h.r u id;have s:=ff h;clear h)
  |(go_at_call 125;refine(H.out.2 _ s.out).mono ?_;rintro e E ⟨j,rfl,h⟩;obtain⟨G,I,rfl⟩:=jf h.fq;generalize f.length=tn at h|-;have t:=ff (show ig w (Ç G tn I) f E from h.N s.out);clear h)
  |(go_at_call 123;refine(D.out _ _ _ _ t.out).mono ?_;rintro e E ⟨rfl,h⟩;have s:=ff (t.out.r.fg h);clear h))
 go_ret;exact⟨U,s.out⟩
def apb(F:Ò À 113 #[Ç O n cp,Å É v] w λe c=>e=Æ (jR<|Â i)/\fc fh w c)(a:pj r x y g k 4 v v2 slot w)(j:400<g)(C:B=nI 6): Ò À 67 #[Ç O n cp,Ã<|Â ⟨r,0,Á⟩] w λe c=>e=Æ (Ä B)/\fc fh w c:=by
 have l:=a.M;have d:=a.N;have m:(400:Int)<(g:Int):=Z
 have H:=ff<|Ê F C;have f:=ff a;clear F C a;go_enter ó,í;go_wp2_with (first
  |(go_at_call 113;refine H.out.1.mono ?_;rintro e o ⟨rfl,b⟩;dsimp only[jR,ð];have p:=b.r d id;have q:=b.r f.out.a id;have h:=ff b;clear b)
  |(go_at_call 114;refine(Et 6 A _).mono ?_;rintro e b ⟨rfl,o⟩;subst b))
 go_ret;exact⟨by rw[H.out.2];rfl,h.out⟩
def apc(F:Ò À 113 #[Ç O n cp,Å É v] w λe a=>e=Æ (jR<|Â i)/\fc fh w a)(b:pj r x y g k 9 v v2 slot w)(C:B=nI 3)(d:∀W,fc fh w W->Ò À 113 #[Ç O n cp,Å É v2] W λe a=>e=Æ (jR Á)/\fc fh W a): Ò À 67 #[Ç O n cp,Ã<|Â ⟨r,0,Á⟩] w λe a=>e=Æ (Ä B)/\fc fh w a:=by
 have p:=b.M;have j:=b.N;have l:=ff d;clear d;have H:=ff<|Ê F C;have m:=ff b;clear F C b;go_enter ó,í;go_wp2_with (first
  |(go_at_call 113;with_reducible refine H.out.1.mono ?_;rintro e h ⟨rfl,c⟩;dsimp only[jR,ð];have o:=c.r j id;have q:=c.r m.out.c id;have f:=ff c;clear c)
  |(go_at_call 113;refine(l.out _ f.out).mono ?_;rintro e c ⟨rfl,h⟩;dsimp only[jR,ð];have o:=ff<|f.out.fg h;clear h)
  |(go_at_call 114;refine(Et 3 A _).mono ?_;rintro e c ⟨rfl,h⟩;subst c))
 go_ret;exact⟨by rw[H.out.2];rfl,o.out⟩
def apd(F:Ò À 113 #[Ç O n cp,Å É v] w λe b=>e=Æ (jR<|Â i)/\fc fh w b)(f:pj r x y g k 9 v v2 slot w)(C:True)(p:∀W,fc fh w W->Ò À 113 #[Ç O n cp,Å É v2] W λe b=>e=Æ (jR<|Â j)/\fc fh W b)(l:List ByteArray)(q:∀W,fc fh w W->Ò À 126 #[Ã<|Â ⟨i,0,Á⟩,Ã<|Â ⟨j,0,Á⟩] W λe b=>∃o,e=Æ o/\ig W o l b)(s:∀W a m c,ig w (Ç a m c) l W->Ò À 123 #[Ç a m c] W λe b=>e=Æ (Ä B)/\fc fh W b): Ò À 67 #[Ç O n cp,Ã<|Â ⟨r,0,Á⟩] w λe b=>e=Æ (Ä B)/\fc fh w b:=by
 have L:=f.M;have D:=f.N;have E:=ff p;have t:=ff<|Ê q s;clear p q s;have H:=ff<|Ê F C;have G:=ff f;clear F C f;go_enter ó,í;go_wp2_with (first
  |(go_at_call 113;with_reducible refine H.out.1.mono ?_;rintro e u ⟨rfl,d⟩;dsimp only[jR,ð];have z:=d.r D id;have I:=d.r G.out.c id;have h:=ff d;clear d)
  |(go_at_call 113;refine(E.out _ h.out).mono ?_;rintro e z ⟨rfl,d⟩;dsimp only[jR,ð];have u:=ff (h.out.fg d);clear d))
 apply mf (λb=>True/\True) [] fu;have I:=ff<|Ê trivial trivial;iterate 8 apply tk I.out
 apply gB 8;intro K d;go_simp;go_at_call 126;refine(t.out.1 _<|u.out.fg<|fc.fS _ _).mono ?_;rintro e M ⟨o,rfl,h⟩;obtain⟨N,P,rfl⟩:=jf h.fq;generalize l.length=tn at h|-;have z:=ff<|h.N<|u.out.fg<|fc.fS _ _;clear h;dsimp only;apply d.out _ _ λ_=>⟨trivial,trivial⟩;clear d K;apply gB 9;intro K d;go_simp;go_at_call 123;refine(t.out.2 _ _ _ _ z.out).mono ?_;rintro e Q ⟨rfl,u⟩;have J:=ff<|z.out.r.fg u;clear u;dsimp only;apply d.out _ _ λ_=>⟨trivial,trivial⟩;clear d K;apply gB 10;intro K d;go_simp;apply d.out _ _ λ_=>⟨trivial,trivial⟩;clear d K;try simp only[Act.put,é,ý,þ]
 refine lP fu ?_ _;go_wp2_with fail;go_ret;exact⟨U,J.out⟩
def ape(F:Ò À 113 #[Ç O n cp,Å É v] w λe a=>e=Æ (jR Á)/\fc fh w a)(b:pj r x y g k h v v2 slot w): Ò À 67 #[Ç O n cp,Ã<|Â ⟨r,0,Á⟩] w λe a=>e=Æ (Ä<|nI 3)/\fc fh w a:=by
 have f:=b.M;have H:=ff F;clear F b;go_enter ó,í;go_wp2_with (first
  |(go_at_call 113;refine H.out.mono ?_;rintro e i ⟨rfl,c⟩;dsimp only[jR,ð];have d:=ff c;clear c)
  |(go_at_call 114;refine(Et 3 A _).mono ?_;rintro e c ⟨rfl,i⟩;subst c))
 go_ret;exact⟨U,d.out⟩
end
structure Qn where
 x:Nat
 y:Nat
 g:Nat
 k:Nat
 r:Int
 v:Int
 C:Int
 I:Nat
structure Qn.Ok(q:Qn):Prop where
 x:q.x<8
 y:q.y<8
 g:q.g<1000000
 k:q.k<18446744073709551616
 atZ:2<=q.r
 at0:q.r<=9
 v:-1<=q.v
 v2:-1<=q.C
 at5:q.I<16
def qd(a:List ByteArray):ByteArray:=if a=[]then⟨#[45]⟩else kJ ⟨#[44]⟩ a
def Ch(a:List (Nat×fJ))(p:fJ)(q:Qn):ByteArray:=
 if q.r=2 then gH ((p.s q.x).C q.I).toNat
 else if q.r=3 then gH (p.s q.x).fw.toNat
 else if q.r=4 then if 400<q.g then nI 6 else TL (gl p.s [] q.x q.y q.g q.k)
 else if q.r=5 then sV p.s q.x q.y q.k 0 401
 else if q.r=6 then zS (xL p.s)
 else if q.r=7 then qd (p.r.map oH)
 else if q.r=8 then qd (p.C.map xO)
 else match mF a q.C with
  |none=>nI 3
  |some b=>qd<|pg p.s b.2.s 8
def qK(a:List (Nat×fJ))(q:Qn):ByteArray:=
 match mF a q.v with
 |none=>nI 3
 |some p=>Ch a p.2 q
def TM{M:Nat}(b:∀z∈vX,z.size<=M)(d:M<=100)(f:vX.length<=400000)(h:ig w (Ç O m i) vX W): Ò À 123 #[Ç O m i] W λe g=>e=Æ (Ä<|qd vX)/\fc fh W g:=by obtain⟨e,g,j⟩:=h.I;have k:=EN vX b;have:M*vX.length<=100*400000:=ű d f;exact aoK g Z j e Z
def apf(s:St):xL s<18446744073709551616:=by unfold xL LQ;exact Td _ _<|Z' λi=>aae _ _ _
theorem TN{b:ByteArray}(c:B.size<=1)(d:b.size<=1):(B++b).size<=2:=by grind
def aaJ(s t:St):∀z∈pg s t 8,z.size<=2:=λz a=>by
 unfold pg at a;obtain⟨i,_,h⟩:=Ş.1 a;unfold xP vI at h;rcases â.1 h with h|h
 .rcases â.1 h with h|h
  .split at h
   .cases h
   .simp at h;subst h;exact TN (xR i)<|æ _
  .split at h
   .cases h
   .simp at h;subst h;exact TN (xR i)<|æ _
 .unfold qa at h;obtain⟨j,_,h⟩:=Ş.1 h;unfold Cf at h;split at h
  .cases h
  .simp at h;subst h;exact TN (xR i)<|aat j
section
variable{cp:Nat}{vs:List (Nat×fJ)}{q:Qn}
def apg(u:p9 O n vs w)(S:n<=1000)(T:0<n)(hvo:∀p∈vs,To p.2)(d:pj i q.x q.y q.g q.k q.r q.v q.C q.I w)(ok:q.Ok)(V:iK w)(o:lE w)(hd:qc w): Ò À 67 #[Ç O n cp,Ã<|Â ⟨i,0,Á⟩] w λe G=>e=Æ (Ä<|qK vs q)/\fc fh w G:=by
 have F:=LX (cp:=cp) u S T q.v ok.v;unfold qK;cases B:mF vs q.v with
 |none=>
  rw[B]at F;exact ape F d
 |some p=>
  rw[B]at F;have h:=F;have X:=H6 B;have f:=u.M X;have j:=hvo p X;obtain⟨x,y,g,k,kind,v,C,Y⟩:=q;obtain⟨r,H,hg,I,rE,re,hv,Mj,J⟩:=ok;simp only at r H hg I rE re hv Mj J d h B|-;obtain⟨cb,_,cs⟩:=f.r.gS r;have F7:gh (k:Int):=⟨Z,Z⟩;unfold Ch;simp only;split
  .rename_i e;subst e;have c:=cs Y J;have l:=f.C.C x Y;rw[<-ņ l.1]at c;exact ao4 h d r J _ c λW b=>xN _ (by have:=l.1;have:=l.2;omega) W<|o.r b
  .split
   .rename_i e;subst e;have l:=f.C.fw x;rw[<-ņ l.1]at cb;exact ao5 h d r _ cb λW b=>xN _ (by have:=l.1;have:=l.2;omega) W<|o.r b
   .split
    .rename_i e;subst e;split
     .rename_i hh;exact apb h d hh U
     .exact ao6 h d Z I λW b=>aoN (f.r.r b id) f.C (V.r b id) (o.r b) x y g k r H Z Z F7
    .split
     .rename_i e;subst e;exact ao7 h d I λW b=>an7 (f.r.r b id) f.C (V.r b id) (o.r b) r H F7
     .split
      .rename_i e;subst e;exact ao8 h d _ (λW b=>ano (f.r.r b id) f.C) λW b=>ao3 _ (apf _)<|hd.r b
      .split
       .rename_i e;subst e;obtain⟨K,L,M,N⟩:=f.N;exact ao9 h d K _ L M _ (λW b=>aao U j.I j.C (o.r b)<|nu.C N b) λW a m c t=>TM (λz P=>by obtain⟨e,D,rfl⟩:=Ú.1 P;exact Mg (j.C e D).2) Z (by rw[ù];exact j.I) t
       .split
        .rename_i e;subst e;obtain⟨K,L,M,N⟩:=f.S;exact apa h d K _ L M _ (λW b=>aoe U j.M j.r (o.r b)<|nu.C N b) λW a m c t=>TM (λz P=>by obtain⟨e,D,rfl⟩:=Ú.1 P;exact aaB (j.r e D).1 (j.r e D).2) Z (by rw[ù];have:=j.M;omega) t
        .have e:kind=9:=Z
         subst e;have E:∀W,fc fh w W->Ò À 113 #[Ç O n cp,Å É C] W λe G=>e=Æ (jR ((mF vs C).map (·.1)))/\fc fh W G:=λW b=>LX (u.I b) S T C Mj;cases Q:mF vs C with
         |none=>
          rw[Q]at E;exact apc h d U E
         |some p2=>
          rw[Q]at E;exact apd h d trivial E _ (λW b=>aoq (f.r.r b id)<|(u.M<|H6 Q).r.r b id) λW a m c t=>TM (aaJ _ _) Z (by have:=Tz p.2.s p2.2.s 8;omega) t
end
end Go.Proofs.Y.gR
namespace Go.Proofs.Y.kZ
open Go Go.Proofs Go.RowKit Go.Proofs.Y.Lift Go.Proofs.Y.gR
def kj(a:List (Nat×fJ)):List fJ:=a.map (·.2)
def aaK(d:fJ)(l:List fJ):fJ:=l.foldl (λa b=>if a.h<b.h then b else a) d
theorem aaL:∀(a:List (Nat×fJ)) (d:Nat×fJ),(uE d a).2=aaK d.2 (kj a)
 |[],_=>rfl
 |x::r,d=>by show(uE (zK d x) r).2=aaK (if d.2.h<x.2.h then x.2 else d.2) (kj r);rw[aaL r];unfold zK;split<;>rfl
theorem TO{a b:List (Nat×fJ)}(h:kj a=kj b)(v:Int):(mF a v).map (·.2)=(mF b v).map (·.2):=by
 have c:∀i:Nat,(a[i]?).map (·.2)=(b[i]?).map (·.2):=λi=>by have:=congrArg (λl:List fJ=>l[i]?) h;simpa[kj]using this
 unfold mF;grind [aaL]
theorem aph{a b:List (Nat×fJ)}(h:kj a=kj b):a.length=b.length:=by have:=congrArg List.length h;simpa[kj]using this
theorem aaM{a b:List (Nat×fJ)}(h:kj a=kj b)(v:Int)(x:Nat)(c:List Tx):qH a v x c=qH b v x c:=by have d:=TO h v;unfold qH;grind [aph]
theorem apj{a b:List (Nat×fJ)}(h:kj a=kj b)(q:Qn):qK a q=qK b q:=by
 have c:=TO h q.v;have d:=TO h q.C;have e:∀p:fJ,Ch a p q=Ch b p q:=λp=>by unfold Ch;grind
 unfold qK;grind
structure lq(s:List fJ):Prop where
 I:0<s.length
 C:s.length<=40
 r:∀v∈s,To v/\gJ v.s/\0<=v.h/\v.h<s.length
def rM(a:List (Nat×fJ))(v:Int)(x:Nat)(b:List Tx):List fJ:=kj a++(qH a v x b).1.toList
def lq.M{f:List (Nat×fJ)}(h:lq (kj f)){g:List Tx}(k:∀t∈g,t.Ok)(m:g.length<=1000):lq (rM f c i g):=by
 unfold kZ.rM;have B:(kj f).length=f.length:=by simp[kj]
 unfold qH;cases n:mF f c with
 |none=>simpa using h
 |some p=>
  have o:p.2∈kj f:=Ú.2 ⟨p,H6 n,U⟩;let⟨C,l,D,E⟩:=h.r _ o;simp only;split
  .simpa using h
  .rename_i F;cases j:vH i p.2.s g with
   |none=>simpa using h
   |some r=>
    simp only[Option.toList];have G:=h.C;have w:gJ r.1:=by unfold vH at j;obtain⟨H,y,rfl⟩:=ò.1 j;exact(Tp g k l (λ_ q=>by cases q) (λ_ q=>by cases q) (by simp;omega) (by simp;omega) y).1.r i<|zx _
    refine⟨fp,by simp;omega,λu z=> ?_⟩;rcases â.1 z with q|q
    .let⟨a,b,e,d⟩:=h.r u q;refine⟨a,b,e,?_⟩;rw[Ù];simp;omega
    .simp at q;subst q;refine⟨anV k l m j,w,by show 0<=p.2.h+1;omega,?_⟩;rw[Ù];show p.2.h+1<_;simp;omega
def iW(Y:ft)(u w:Í):Prop:=∀(i j o:Nat) (v:Ñ),Y i j->u.cell? ⟨i,o,Á⟩=Â v->∃a,w.cell? ⟨j,o,Á⟩=Â a/\fl Y v a
section
variable{Y:ft}
theorem apk{k:IntKind}(h:fl Y (Å k c) v):v=Å k c:=by cases h;rfl
theorem apl(h:fl Y (Ä B) v):v=Ä B:=by cases h;rfl
theorem Mk(h:fl Y (Ã<|Â a) v):∃b,v=Ã (Â b)/\gZ Y a b:=by
 cases h with
 |jL q=>exact⟨_,U,q⟩
def Ml(h:fl Y (Ç O n i) v):∃b,v=Ç b n i/\∀a,O=Â a->∃d,b=Â d/\gZ Y a d:=by
 cases h with
 |nY=>exact⟨Á,U,λa q=>by cases q⟩
 |kD q=>exact⟨_,U,λa e=>by cases e;exact⟨_,U,q⟩⟩
theorem apm(a:kh v=Î)(h:fl Y v x):x=v:=by cases h<;>first|rfl|(simp[kh]at a;done)
theorem zU(h:gZ Y ⟨b,i,Á⟩ a):∃c,a=⟨c,i,Á⟩/\Y b c:=by let⟨d,e,f⟩:=h;let⟨c,g,j⟩:=a;grind
theorem iW.r(a:iW Y u w){k:IntKind}(h:Y i j)(d:u.cell? ⟨i,b,Á⟩=Â (Å k c)):w.cell? ⟨j,b,Á⟩=Â (Å k c):=by let⟨e,f,g⟩:=a i j b _ h d;grind [apk]
theorem iW.C(a:iW Y u w)(h:Y i j)(b:u.cell? ⟨i,n,Á⟩=Â (Ä B)):w.cell? ⟨j,n,Á⟩=Â (Ä B):=by let⟨c,d,e⟩:=a i j n _ h b;grind [apl]
theorem iW.apn(a:iW Y u w)(c:kh v=Î)(h:Y i j)(b:u.cell? ⟨i,n,Á⟩=Â v):w.cell? ⟨j,n,Á⟩=Â v:=by let⟨d,e,f⟩:=a i j n _ h b;grind [apm]
def TP(s:gR.St):∀v∈iu s,(∃n,v=Å ã n)\/∃p,v=Ä p:=λv n=>by
 unfold iu at n;obtain⟨i,_,rfl⟩:=Ú.1 n;unfold pX pW;split
 .exact È ⟨_,U⟩
 .split
  .exact Ï ⟨_,U⟩
  .exact È ⟨_,U⟩
def apo(a:iW Y u w){s:gR.St}(c:Y b i)(d:mh b s h u):mh i s h w:=by
 refine⟨λj v e=> ?_,a.r c d.h⟩;have f:=d.C j v e;rcases TP s v (ç e)with⟨n,rfl⟩|⟨p,rfl⟩
 .exact a.r c f
 .exact a.C c f
def aaN(a:iW Y u w)(f:Y b i)(g:∀v∈l,kh v=Î)(h:zI ⟨b,j,Á⟩ n l u):zI ⟨i,j,Á⟩ n l w:=by let⟨p,c,k,m⟩:=h;let⟨G,q,r⟩:=a b i j _ f k;obtain⟨s,rfl,t⟩:=Ml r;refine⟨s,c,q,λd x e=> ?_⟩;let⟨H,y,z,B⟩:=m d x e;let⟨I,C,D⟩:=t _ z;obtain⟨E,rfl,F⟩:=zU D;exact⟨E,y,C,a.apn (g x<|ç e) F B⟩
def apq(a:iW Y u w){v:fJ}(c:Y b i)(h:rJ b v u):rJ i v w:= ⟨apo a c h.r,h.C,h.I,h.M,aaN a c (Z7 _) h.N,aaN a c (J' _) h.S⟩
def wq{α β:Type}{R:Nat->α->β->Prop}:∀(l:List α) (k:Nat),(∀j x,l[j]?=Â x->∃y,R (k+j) x y)->∃a:List β,a.length=l.length/\∀j y,a[j]?=Â y->∃x,l[j]?=Â x/\R (k+j) x y
 |[],_,_=>⟨[],U,λj y h=>by simp at h⟩
 |x::r,k,h=>by
  let⟨y,c⟩:=h 0 x U;obtain⟨a,d,e⟩:=wq r (k+1) λj z b=>by let⟨q,f⟩:=h (j+1) z b;exact⟨q,by rwa[show k+1+j=k+(j+1) by omega]⟩
  refine⟨y::a,by simp[d],λj z b=> ?_⟩;cases j with
  |zero=>cases b;exact⟨x,U,c⟩
  |succ j=>
   let⟨q,f,g⟩:=e j z b;exact⟨q,f,by rwa[show k+(j+1)=k+1+j by omega]⟩
theorem Ia(a:iW Y u w){e:List (Nat×fJ)}(i:fl Y z jQ)(h:LY z e u):∃c,kj c=kj e/\LY jQ c w:=by
 obtain⟨J,n,k,rfl,l,f⟩:=h;obtain⟨g,rfl,m⟩:=Ml i;let⟨c,o,K⟩:=wq (R:=λj (x y:Nat×fJ)=>x.2=y.2/\∃q d,g=Â ⟨q,d,Á⟩/\w.cell? ⟨q,d+j,Á⟩=Â (Ã<|Â ⟨y.1,0,Á⟩)/\rJ y.1 y.2 w) e 0 λj x p=>by let⟨b,v⟩:=x;let⟨q,d,r,s,t⟩:=f.C j b v p;let⟨L,B,C⟩:=m _ r;obtain⟨y,rfl,D⟩:=zU C;let⟨M,E,F⟩:=a q y _ _ D s;obtain⟨N,rfl,G⟩:=Mk F;obtain⟨H,rfl,I⟩:=zU G;exact⟨(H,v),U,y,d,B,by rwa[œ],apq a I t⟩
 refine⟨c,?_,g,n,k,U,l,⟨by rw[o];exact f.r,λj b v q=> ?_⟩⟩
 .refine Ŕ λj=> ?_;unfold kj;grind
 .grind
end
def k9(a:Nat->Prop)(B:Nat):ft:=⟨λi j=>i=j/\a i,B⟩
def apr(a:Nat->Prop)(B:Nat):Bi (k9 a B):= ⟨λ_ _ _ h k=>h.1.symm.trans k.1,λ_ _ _ h k=>h.1.trans k.1.symm,λi j h=>by rw[h.1]⟩
def zV{V:Nat->Prop}{B:Nat}(h:∀i,X i->V i):(k9 X B).r (k9 V B):=⟨λ_ _ q=>⟨q.1,h _ q.2⟩,λ_=>apr V B,U⟩
def kB(B:Nat)(a:Nat->Prop)(w:Í):Prop:=∀b,a b->∃c e d,w.heap[b]?=Â (Û c e d)/\d.2<=c.size/\fR (k9 a B) c c/\0<c.size/\CL c/\e≠304/\e≠305
section
variable{B:Nat}{V:Nat->Prop}
def kB.I(h:kB B X w)(k:kB B V w):kB B (λb=>X b\/V b) w:=by
 rintro b (q|q)
 .let⟨c,e,a,d,f,g,i⟩:=h b q;exact⟨c,e,a,d,f,g.I (zV λ_=>È),i⟩
 .let⟨c,e,a,d,f,g,i⟩:=k b q;exact⟨c,e,a,d,f,g.I (zV λ_=>Ï),i⟩
def kB.C(h:kB B X w)(k:∀b,X b->u.heap[b]?=w.heap[b]?):kB B X u:=λb q=>by let⟨c,e,a,d,f⟩:=h b q;exact⟨c,e,a,by rwa[k b q],f⟩
theorem kB.r(h:kB B X w)(a:X b)(d:w.cell? ⟨b,i,Á⟩=Â v):fl (k9 X B) v v:=by let⟨c,e,j,f,_,g,_⟩:=h b a;simp only[à,f,ö,ì,if_false]at d;rcases g.S i with⟨q,_⟩|⟨x,k,l,m,n⟩;all_goals grind
def Ci(h:fl (k9 X B) (Ã<|Â a) v):X a.block:=by
 cases h with
 |jL q=>exact q.1.2
def Cj(h:fl (k9 X B) (Ç (Â a) n i) v):X a.block:=by
 cases h with
 |kD q=>exact q.1.2
def aps{Y:ft}(h:kh v=Î):fl Y v v:=by cases v<;>first|exact .ml _|exact .iG _ _|(simp[kh]at h;done)
def pn{Y:ft}(h:∀v∈d.toList,fl Y v v):fR Y d d:=⟨U,λi a _=>h _<|î.2<|ă a⟩
def apt(h:kh v=Î):yg v=Ë:=by
 cases v with
 |int k n=>cases k<;>first|rfl|(simp[kh]at h;done)
 |_=>rfl
def zW(h:∀v∈d.toList,yg v=Ë):CL d:=λk v a=>h v<|î.2<|ĵ a
def Ib(v:Ñ)(i:Nat):Prop:=v.ownBlock=Â i
def Ic(X:Nat->Prop)(g b:Nat)(a c:Ñ)(i:Nat):Prop:=X i\/i=g\/i=b\/Ib a i\/Ib c i
def aaO{G:Í}(a:ma T=Î)(h:sU v T u)(o:∀j,v.ownBlock=Â j->G.heap.size<=j)(p:rB G.heap.size u):∀i,Ib v i->∃c e f,u.heap[i]?=Â (Û c e f)/\f.2<=c.size/\fR (k9 V B) c c/\0<c.size/\CL c/\e≠304/\e≠305:=λi b=>by
 rcases h with rfl|⟨g,n,c,k,rfl,l⟩
 .cases b
 .have e:g=i:=by unfold Ib at b;simpa[Value.ownBlock]using b
  subst e;let⟨r,m⟩:=p g k T (0,0) (o g U) l a;exact⟨k,T,(0,0),l,Ø _,pn λv d=>aps<|m v d,r,zW λv d=>apt<|m v d,(λq=>by rw[q]at a;cases a),(λq=>by rw[q]at a;cases a)⟩
def aaP(h:sU v T u)(a:∀i,Ib v i->V i):fl (k9 V B) v v:=by
 rcases h with rfl|⟨g,n,c,b,rfl,d⟩
 .exact .nY _ _
 .exact fl.kD (Y:=k9 V B) ⟨⟨U,a g U⟩,U,U⟩ n c
theorem apu{G:Í}(J:kB B X G)(k:fc fh G u)(K:∀i,X i->i<G.heap.size){l:List (Nat×fJ)}{s:gR.St}(o:Tk b s h G u)(r:Ti l b G u m)(L:∀p∈l,X p.1): ∃e,(∀i,X i->e i)/\e m/\kB B e u/\∀i,e i->X i\/G.heap.size<=i:=by
 have t:=k.Y _ λi c T w M y=>by rw[ı M]at y;cases y
 let⟨a,d,N,z,C,D,E⟩:=o.r;refine⟨Ic X m b a d,λi q=>È q,Ï<|È U,?_,?_⟩
 .rintro i (q|rfl|rfl|q|q)
  .let⟨c,e,w,n,x,f,j⟩:=J i q;exact⟨c,e,w,by rwa[k.N i (K i q) id],x,f.I (zV λ_=>È),j⟩
  .let⟨F,n,x,f⟩:=r.r;have H:∀v∈F.toList,v=Ã Á\/∃j,v=Ã (Â ⟨j,0,Á⟩)/\Ic X i b a d j:=λv e=>by
    rcases f v e with q|q|q
    .unfold rK at q;obtain⟨p,I,rfl⟩:=Ú.1 q;exact Ï ⟨_,U,È<|L p I⟩
    .exact Ï ⟨_,q,Ï<|Ï<|È U⟩
    .exact È q
   refine⟨F,136,(0,0),n,Ø _,pn λv e=> ?_,x,zW λv e=> ?_,A,A⟩
   .rcases H v e with rfl|⟨j,rfl,I⟩
    .exact .lG
    .exact .jL ⟨⟨U,I⟩,U,U⟩
   .rcases H v e with rfl|⟨j,rfl,I⟩<;>rfl
  .have f:∀v∈jg s a++[Å É h,d],fl (k9 (Ic X m i a d) B) v v/\yg v=Ë:=λv e=>by
    rw[zF]at e;have I:=aaP (B:=B) (V:=Ic X m i a d) z λj q=>Ï<|Ï<|Ï<|È q;have F:=aaP (B:=B) (V:=Ic X m i a d) C λj q=>Ï<|Ï<|Ï<|Ï q;have H:∀{x:Ñ} {T:č},sU x T u->yg x=Ë:=λ{x T} q=>by rcases q with rfl|⟨_,_,_,_,rfl,_⟩<;>rfl
    rcases â.1 e with q|q
    .rcases â.1 q with q|q
     .rcases TP s v q with⟨n,rfl⟩|⟨p,rfl⟩
      .exact⟨.iG _ _,U⟩
      .exact⟨.kC _,U⟩
     .grind
    .simp at q;rcases q with rfl|rfl
     .exact⟨.iG _ _,U⟩
     .grind
   exact⟨_,147,(0,0),N,Ø _,pn λv e=>(f v<|by simpa using e).1,by simp[mE],zW λv e=>(f v<|by simpa using e).2,A,A⟩
  .exact aaO U z D t i q
  .exact aaO U C E t i q
 .rintro i (q|rfl|rfl|q|q)
  .exact È q
  .exact Ï r.C
  .exact Ï o.C
  .exact Ï<|D i q
  .exact Ï<|E i q
def Mm{Y:ft}(h:fl Y v x):fl (k9 X B) v v->fl (k9 (λj=>∃i,X i/\Y i j) B) x x:=by
 induction h with
 |ml b=>exact λ_=> .ml b
 |iG k n=>exact λ_=> .iG k n
 |kC s=>exact λ_=> .kC s
 |lG=>exact λ_=> .lG
 |@jL a a' q=>exact λz=>fl.jL (Y:=k9 (λj=>∃i,X i/\Y i j) B) ⟨⟨U,_,Ci z,q.1⟩,U,U⟩
 |nY n c=>exact λ_=> .nY n c
 |@kD a a' q n c=>exact λz=>fl.kD (Y:=k9 (λj=>∃i,X i/\Y i j) B) ⟨⟨U,_,Cj z,q.1⟩,U,U⟩ n c
 |uP=>exact λ_=> .uP
 |fn f=>exact λ_=> .fn f
 |uQ=>exact λ_=> .uQ
 |uR=>exact λ_=> .uR
 |uS=>exact λ_=> .uS
 |yd t _ b=>exact λz=> .yd t (b (by cases z with|yd _ y=>exact y))
 |ot f _ b=>exact λz=> .ot U λi c _=>b i (by rwa[f]) c (by cases z with|ot _ y=>exact y i _ _)
 |nD f _ b=>exact λz=> .nD U λi c _=>b i (by rwa[f]) c (by cases z with|nD _ y=>exact y i _ _)
def apv{Y:ft}(h:fl Y v x):yg x=yg v:=by cases h<;>rfl
theorem TQ{Y:ft}{r:Nat->Prop}(h:je Y r u w)(s:kB B X u):kB B (λj=>∃i,X i/\Y i j) w:=by
 rintro j ⟨i,t,x⟩;let⟨c,a,e,F,y,z,C,b,G,H,I⟩:=h.r i j x;let⟨d,J,qk,m,_,D,K,E,n,o⟩:=s i t;rw[z]at m;cases m;have L:=b.C.resolve_right λq=>q.2.1.elim n o;refine⟨a,e,y,C,?_,pn λv f=> ?_,Z,zW λv f=> ?_,n,o⟩
 .grind
 .obtain⟨k,g,rfl⟩:=Ĝ f;have l:k<a.size:=by simpa using g
  have:=Mm (b.r k Z l)<|D.C k Z Z;simpa using this
 .obtain⟨k,g,rfl⟩:=Ĝ f;have l:k<a.size:=by simpa using g
  have p:=apv<|b.r k Z l;rw[(E k c[k]<|å Z)]at p;simpa using p
def zY{Y:ft}(h:je Y X u w):iW Y u w:=λi j o v b c=>h.gA (a:=⟨i,o,Á⟩) (a':=⟨j,o,Á⟩) ⟨b,U,U⟩ c
end
end Go.Proofs.Y.kZ
namespace Go.Proofs.Y.Lift
open Go
def aaQ{α β:Type}{c:α->β->Option (ForInStep β)}{I:β->Prop}(d:∀a b s,I b->c a b=Â s->I s.value): ∀(l:List α) (b r:β),I b->forIn l b c=Â r->I r
 |[],b,r,hi,h=>by simp at h;subst h;exact hi
 |a::l,b,r,hi,h=>by
  rw[List.forIn_cons]at h;cases e:c a b with
  |none=>rw[e]at h;simp at h
  |some s=>
   rw[e]at h;have:=d a b s hi e;cases s with
   |done x=>simp at h;subst h;exact this
   |yield x=>simp at h;exact aaQ d l x r this h
def jM.gS(h:jM v):∀x∈v.cells,jM x:=by
 intro x a;cases h with
 |ot h=>
  obtain⟨i,b,rfl⟩:=Array.mem_iff_getElem.1 a;exact h i b
 |nD h=>simp[Ĺ]at a;subst a;exact .nD h
 |_=>simp[Ĺ]at a;subst a;constructor
def ZP(a:č->Option ħ):Prop:=∀t i z,a t=Â i->i.zero=Â z->jM z
def TR(h:∀x∈d,jM x):jM (.agg d):=.ot λ_ a=>h _<|ă a
theorem apw{l:č->Option ħ}(h:ZP l){m:Array Field}(g:ŕ l m=Â zJ)(q:zJ.zero=Â z):jM z:=by
 unfold ŕ at g;simp only[<-Array.forIn_toList]at g;generalize t:(forIn m.toList _ _:Option _)=L at g;cases L with
 |none=>simp at g
 |some r=>
  have u:=aaQ (I:=λx=>∀a,x.2.2.2.2.2.2.2.1=Â a->∀v∈a,jM v) ?_ _ _ _ ?_ t
  .have:∃a,r.2.2.2.2.2.2.2.1=Â a/\z=.agg a:=by
    grind [ò]
   obtain⟨a,e,rfl⟩:=this;exact TR<|u a e
  .intro f b s w d;have y:∀(e:Option Ñ) (k:Nat) (x:Option (Array Ñ)),(∀z,e=Â z->jM z)->x=(if k>Ų then Á else do pure ((<-b.2.2.2.2.2.2.2.1)++(<-e).cells))->∀a,x=Â a->∀v∈a,jM v:=by
    intro e k x B C a c v n;subst C;split at c
    .simp at c
    .cases j:b.2.2.2.2.2.2.2.1 with
     |none=>rw[j]at c;simp at c
     |some E=>
      cases o:e with
      |none=>rw[j,o]at c;simp at c
      |some D=>
       rw[j,o]at c;simp at c;subst c;rcases Array.mem_append.1 n with p|p
       .exact w _ j v p
       .exact(B D o).gS v p
   cases e:l f.type with
   |none=>rw[e]at d;simp at d
   |some j=>
    rw[e,ê,ş]at d;have k:=y j.zero (b.2.1+j.size) _ (λz q=>h _ _ _ e q) U;generalize(if b.2.1+j.size>Ų then Á else(do pure ((<-b.2.2.2.2.2.2.2.1)++(<-j.zero).cells):Option (Array Ñ)))=X at d k;generalize(if b.1.size+1<m.size then ";" else "")=Y at d;simp only[bind,pure,Option.bind]at d;repeat' split at d
    all_goals first
     |(simp only[Ô]at d;subst d;exact k)
     |(simp at d;done)
  .intro a c v n;simp at c;subst c;simp at n
def apx{c:č->Option ħ}(h:ZP c){d:TypeDesc}(a:Χ c d=Â zJ)(b:zJ.zero=Â z):jM z:=by
 unfold Χ at a;cases d with
 |struct k=>exact apw h a b
 |array n e=>
  simp only[ê,Ü,ā,Ô]at a;obtain⟨f,v,st,_,rfl⟩:=a;simp only at b;split at b
  .simp at b
  .split at b
   .simp at b;subst b;exact TR fp
   .simp only[ò]at b;obtain⟨j,g,rfl⟩:=b;refine TR λx k=> ?_;simp only[Array.mem_flatten,Array.mem_replicate]at k;obtain⟨l,⟨_,rfl⟩,k⟩:=k;exact(h _ _ _ v g).gS x k
 |pointer e=>
  simp only[ê,Ü,ā]at a;let⟨f,v,a⟩:=a;repeat' split at a
  all_goals first
   |(simp at a;done)
   |(simp only[Ü,Ô]at a;obtain⟨_,_,rfl⟩:=a;simp only[ł,Ô]at b;subst b;constructor)
 |slice e=>
  simp only[ê,Ü,ā,Ô]at a;obtain⟨_,_,_,_,rfl⟩:=a;simp only[ł,Ô]at b;subst b;constructor
 |map k e=>
  simp only[ê,Ü,ā,Ô]at a;obtain⟨_,_,_,_,_,_,_,_,rfl⟩:=a;simp only[ł,Ô]at b;subst b;constructor
 |chan k e=>
  simp only[ê,Ü,ā,Ô]at a;obtain⟨_,_,_,_,rfl⟩:=a;simp only[ł,Ô]at b;subst b;constructor
 |func k e v=>
  simp only[ê,Ü,ā,Ô]at a;obtain⟨_,_,rfl⟩:=a;simp only[ł,Ô]at b;subst b;constructor
 |_=>simp at a
def aaR{T:Tables}(a:∀(t:Nat) (i:ħ) (z:Ñ),T.types[t]?=Â i->i.zero=Â z->jM z):∀f,ZP<|ţ T f
 |0=>λt i z h=>by simp[ţ]at h
 |f+1=>λt i z h b=>by
  unfold ţ at h;split at h
  .exact a t i z h b
  .simp only[Ü]at h;let⟨d,_,c⟩:=h;exact apx (aaR a f) c b
def apy(a:∀(t:Nat) (i:ħ) (z:Ñ),P.types[t]?=Â i->i.zero=Â z->jM z):nG P:=λt i z h b=>by
 have h:P.toTables.info? t=Â i:=h;unfold Tables.info? at h;split at h
 .exact a t i z h b
 .exact aaR a _ t i z h b
end Go.Proofs.Y.Lift
namespace Go.Proofs.Y.fv
open Go Go.Conc Go.Proofs.Y.Lift Go.RowKit Go.Conc.Lib Go.ConcR.Gen
open Go.Proofs Go.Proofs.YtgpphkdoanciiaaGreatDoor
def TS:Ñ->Bool
 |.agg a=>a.toList.all yn
 |v=>yn v
def aaS(h:TS v=Î):jM v:=by
 cases v with
 |agg b=>exact .ot λi a=>FJ<|(ĭ.1 h) _<|î.2<|ă a
 |_=>exact FJ h
def aaT:Ñ->Bool
 |ë a=>a.toList.all TS
 |v=>TS v
def apz(h:aaT v=Î):jM v:=by
 cases v with
 |tuple b=>exact .nD λi a=>aaS<|(ĭ.1 h) _<|î.2<|ă a
 |_=>exact aaS h
def ER(i:ħ):Bool:=match i.zero with
 |some z=>aaT z
 |none=>Î
def apA(h:P.types.toList.all ER=Î):nG P:=apy λt i z a b=>by have:=(ĭ.1 h) i<|î.2<|ĵ a;unfold ER at this;rw[b]at this;exact apz this
def yi:nG À:=apA fQ
end Go.Proofs.Y.fv
namespace Go.Proofs.Y.kZ
open Go Go.Conc Go.Proofs Go.RowKit Go.Proofs.Y.Lift Go.Proofs.Y.gR Go.Proofs.Y.fv
noncomputable def nB:Nat:=À.globals.size
def po(a:Nat->Prop)(b:Nat):Prop:=a b\/b=1\/b=2\/b=3\/b=4
def Mn(b:Nat)(e:č)(w:Í):Prop:=∃c a,w.heap[b]?=Â (Û c e a)/\a.2<=c.size/\a.2<=16/\0<c.size/\∀v∈c.toList,∃k n,v=Å k n
structure nz(w:Í):Prop where
 fx:nB<=w.heap.size
 M:kB nB (λb=>b=1\/b=2) w
 I:Mn 3 304 w
 C:Mn 4 305 w
 S:gR.lE w
 iY:iK w
 N:qc w
section
variable{V:Nat->Prop}
theorem nz.r{w':Í}(h:nz w)(f:nB<=w'.heap.size)(k:∀b,b=1\/b=2\/b=3\/b=4->w'.heap[b]?=w.heap[b]?):nz w':=by
 have d:∀b o,b=1\/b=2\/b=3\/b=4->w'.cell? ⟨b,o,Á⟩=w.cell? ⟨b,o,Á⟩:=λb o e=>by simp only[à,k b e]
 refine⟨f,h.M.C λb e=>k b<|e.imp id È,?_,?_,?_,?_,?_⟩
 .let⟨c,i,a,r⟩:=h.I;exact⟨c,i,by rwa[k 3 fp],r⟩
 .let⟨c,i,a,r⟩:=h.C;exact⟨c,i,by rwa[k 4 fp],r⟩
 .have c:=h.S;have i:À.globalNamed "internal/strconv.uint64pow10"=Â 1:=fu
  unfold gR.lE χ ο at*;grind
 .let⟨c,g,a⟩:=h.iY.M;refine⟨⟨c,g,by rwa[k 2 fp]⟩,λi r j=> ?_⟩;rw[d 2 _ fp,d 2 _ fp,d 2 _ fp];exact h.iY.I i r j
 .have:=h.N;unfold qc at*;grind
def aaU(u:kB nB X w)(x:∀b,X b->ll b=Ë)(g:nz w):Ld (po X) (po X) nB w:=by
 have p:∀{a:Nat->Prop} {c:Array Ñ},(∀b,a b->po X b)->fR (k9 a nB) c c->fR (pU (po X) nB) c c:=λ{a c} hX r=>r.I<|zV hX;refine⟨?_,g.fx⟩;have s:∀b e,(e=304\/e=305)->ll b=Î->Mn b e w->∃c e d,w.heap[b]?=Â (Û c e d)/\d.2<=c.size/\fR (pU (po X) nB) c c/\(po X b->0<c.size/\(ll b=Î->(e=304\/e=305)/\d.2<=16)/\(ll b=Ë->CL c)):=λb e y B h=>by let⟨c,d,f,j,l,m,o⟩:=h;exact⟨c,e,d,f,j,pn λv i=>by obtain⟨k,n,rfl⟩:=o v i;exact .iG _ _,λ_=>⟨m,λ_=>⟨y,l⟩,λq=>by rw[B]at q;cases q⟩⟩
 rintro b (q|q|q|rfl|rfl)
 .let⟨c,e,d,f,j,l,m,o,_⟩:=u b q;exact⟨c,e,d,f,j,p (λ_=>È) l,λ_=>⟨m,λt=>(by rw[x b q]at t;cases t),λ_=>o⟩⟩
 .let⟨c,e,d,f,j,l,m,o,_⟩:=g.M b<|È q;exact⟨c,e,d,f,j,p (λi k=>k.elim (λz=>Ï<|È z) λz=>Ï<|Ï<|È z) l,λ_=>⟨m,λt=>(by rw[q]at t;cases t),λ_=>o⟩⟩
 .let⟨c,e,d,f,j,l,m,o,_⟩:=g.M b<|Ï q;exact⟨c,e,d,f,j,p (λi k=>k.elim (λz=>Ï<|È z) λz=>Ï<|Ï<|È z) l,λ_=>⟨m,λt=>(by rw[q]at t;cases t),λ_=>o⟩⟩
 .exact s 3 304 (È U) U g.I
 .exact s 4 305 (Ï U) U g.C
def pv(a:ll b=Ë\/i<16)(h:w.cell? ⟨b,i,Á⟩=Â v):(World.tp (kX V w) xQ 0).cell? ⟨b,i,Á⟩=Â v:=by
 have j:(World.tp (kX V w) xQ 0).heap[b]?=(w.heap[b]?).map (pd V b):=Ef b;simp only[à,j];simp only[à]at h;cases g:w.heap[b]? with
 |none=>rw[g]at h;cases h
 |some k=>
  rw[g]at h;cases k with
  |cells c e m=>
   simp only[Ă,pd,ö,ì,if_false]at h|-;split
   .rename_i d;split at d
    .split at d
     .rename_i l;cases d;rcases a with a|a
      .rw[l]at a;cases a
      .unfold uy;rw[Array.getElem?_extract];simp;exact⟨by have:=(á.1 h).1;omega,h⟩
     .cases d;exact h
    .cases d;exact h
   .rename_i f;split at f
    .split at f<;>exact absurd U<|f _ _ _
    .exact absurd U<|f _ _ _
  |_=>cases h
def aaV{T:ŷ}(d:kB nB X w)(e:∀b,X b->ll b=Ë):iW (k9 X nB) w (World.tp (kX V w) T 0):=by rintro i j o v ⟨rfl,a⟩ c;exact⟨v,pv (È<|e i a) c,d.r a c⟩
end
def RD(s:List fJ)(b:Ñ)(a:Nat->Prop)(w:Í):Prop:=∃c,kj c=s/\lq s/\LY b c w/\kB nB a w/\fl (k9 a nB) b b
section
variable{V:Nat->Prop}{s:List fJ}
def aaW(h:kB nB X w)(k:∀b,X b->u.heap[b]?=w.heap[b]?):iW (k9 X nB) w u:=by rintro i j o v ⟨rfl,a⟩ c;exact⟨v,by simp only[à,k i a];exact c,h.r a c⟩
def RD.r(h:RD s v X w)(k:∀b,X b->u.heap[b]?=w.heap[b]?):RD s v X u:=by let⟨l,d,e,f,a,c⟩:=h;let⟨g,i,j⟩:=Ia (aaW a k) c f;exact⟨g,i.trans d,e,j,a.C k,c⟩
def Ie(r:Nat)(q:Qn)(w:Í):Prop:=pj r q.x q.y q.g q.k q.r q.v q.C q.I w
def aaX{Y:ft}(a:iW Y u w){r:Nat}{q:Qn}(b:Y r i)(h:Ie r q u):Ie i q w:= ⟨a.r b h.I,a.r b h.S,a.r b h.a,a.r b h.Y,a.r b h.N,a.r b h.M,a.r b h.c,a.r b h.b⟩
def apB{T:ŷ}(g:nz w):gR.lE (World.tp (kX V w) T 0):=by
 have a:=g.S;have h:À.globalNamed "internal/strconv.uint64pow10"=Â 1:=fu
 unfold gR.lE χ ο at*;rw[h]at a|-;simp only[ş]at a|-;have i:(World.tp (kX V w) T 0).heap[1]?=(w.heap[1]?).map (pd V 1):=Ef 1;rw[i];cases f:w.heap[1]? with
 |none=>rw[f]at a;cases a
 |some j=>
  rw[f]at a;cases j with
  |cells c e k=>
   simp only[Ă,pd,ll]at a|-;split
   .rename_i b;split at b<;>(simp at b;obtain⟨rfl,_⟩:=b;exact a)
   .rename_i d;split at d
    .exact absurd U<|d _ _ _
    .exact absurd U<|d _ _ _
  |_=>cases a
theorem aaY{T:ŷ}(g:nz w):iK (World.tp (kX V w) T 0):=by
 let⟨f,h,d⟩:=g.iY.M;refine⟨?_,λi r e=> ?_⟩
 .have a:(World.tp (kX V w) T 0).heap[2]?=(w.heap[2]?).map (pd V 2):=Ef 2;rw[a,d];simp only[Ă,pd,ll];grind
 .let⟨a,b,c⟩:=g.iY.I i r e;exact⟨pv (È U) a,pv (È U) b,pv (È U) c⟩
def apC{T:ŷ}(g:nz w):qc (World.tp (kX V w) T 0):=pv (Ï A) g.N
theorem ES{T:ŷ}:j4 (World.tp (kX V w) T 0):=λi o h=>ZN (Sh:=V) (w:=w) i o h
theorem apD{l:fe}{q:Qn}{r:Nat}(x:RD s v X l.w)(I:∀b,X b->l.M b)(y:kB nB V l.w)(J:∀b,V b->l.M b)(h:V r)(z:Ie r q l.w)(ok:q.Ok)(g:nz l.w)(K:∀b,b=1\/b=2\/b=3\/b=4->l.M b)(j:∀b,X b\/V b->ll b=Ë)(m:List (Nat×fJ))(B:kj m=s): Ei (λg=>xv g=Î) 67 #[v,Ã<|Â ⟨r,0,Á⟩] l (po λb=>X b\/V b) λe _=>e=Ä (qK m q):=by
 let⟨L,c,d,D,E,o⟩:=x;have t:=E.I y;refine⟨?_,aaU t j g,?_,?_,λT=> ?_⟩
 .rintro b (q|q);all_goals grind
 .intro b a;unfold xv at a;simp at a;exact Ï a
 .refine pn λe a=> ?_;simp at a;rcases a with rfl|rfl
  .exact o.fO<|zV λi k=>È<|È k
  .exact fl.jL (Y:=pU (po λb=>X b\/V b) nB) ⟨⟨U,È<|Ï h⟩,U,U⟩
 .have a:=aaV (V:=po λb=>X b\/V b) (T:=T) t j;obtain⟨F,f,N,n,G,rfl,O,u⟩:=Ia a (o.fO<|zV λi k=>È k) D;have i:n=(kj F).length:=by rw[u.r];simp[kj]
  have P:=d.I;have Q:=d.C;rw[f,c]at i;have C:=apg (cp:=G) u Z Z (λp H=> ?_) (aaX a ⟨U,Ï h⟩ z) ok (aaY g) (apB g)<|apC g
  .apply C.mono;rintro e S ⟨rfl,k⟩;exact⟨by rw[apj<|f.trans<|c.trans B.symm],k.gS ES⟩
  .have:p.2∈s:=by rw[<-c,<-f];exact Ú.2 ⟨p,H,U⟩
   exact(d.r _ this).1
end
def Ck(r:Nat)(v:Int)(x:Nat)(c:List Tx)(w:Í):Prop:=∃a n d b,Cc r v x a n d w/\B6 a n b w/\lD b=c/\n<=1000
section
variable{V:Nat->Prop}{s:List fJ}
def aaZ(h:kB nB X w):∀i,X i->i<w.heap.size:=λi a=>by let⟨c,e,d,b,_⟩:=h i a;exact(á.1 b).1
theorem aa0{T:ŷ}(f:ll b=Ë)(h:w.heap[b]?=Â (Û d e xJ))(i:xJ.2<=d.size):∃a,(World.tp (kX V w) T 0).heap[b]?=Â (Û d e a)/\a.2<=d.size:=by have g:(World.tp (kX V w) T 0).heap[b]?=(w.heap[b]?).map (pd V b):=Ef b;rw[g,h];simp only[Ă,pd,f,ì,if_false];grind
def apE{T:ŷ}(h:kB nB X w)(d:∀b,X b->ll b=Ë):kB nB X (World.tp (kX V w) T 0):=λb a=>by let⟨c,e,m,f,g,i⟩:=h b a;let⟨j,k,l⟩:=aa0 (V:=V) (T:=T) (d b a) f g;exact⟨c,e,j,k,l,i⟩
def apF{T:ŷ}(k:kB nB X w)(l:∀b,X b->ll b=Ë){r:Nat}{v:Int}{o:List Tx}(p:X r)(h:Ck r v i o w):Ck r v i o (World.tp (kX V w) T 0):=by
 let⟨E,n,F,G,g,s,H,I⟩:=h;have m:=l r p;refine⟨E,n,F,G,⟨pv (È m) g.M,pv (È m) g.N,pv (È m) g.I⟩,⟨s.r,λj a t q=> ?_⟩,H,I⟩;let⟨tb,J,u,y,d,K⟩:=s.C j a t q;have z:X tb:=by have:=k.r p g.I;rw[u]at this;exact Cj this
 have B:=Ci<|k.r z y;have f:=l a B;let⟨L,P,C⟩:=d.b;let⟨c,e,Q,D,M,_⟩:=k a B;rw[C]at D;cases D;obtain⟨N,O,_⟩:=aa0 f C M;exact⟨tb,J,u,pv (È<|l tb z) y,⟨⟨L,N,O⟩,pv (È f) d.r,pv (È f) d.C,pv (È f) d.I,pv (È f) d.M,pv (È f) d.Y,pv (È f) d.N⟩,K⟩
def Rg(s:List fJ)(v:Ñ)(u:Í):Prop:=∃X,RD s v X u
def Rg.tp{T:ŷ}(h:Rg s v w):Rg s v (World.tp w T n):=by let⟨X,h⟩:=h;exact⟨X,h.r λ_ _=>rfl⟩
def apG{Y:ft}{d:Nat->Prop}(h:qW Y d u w)(a:fl Y v x)(e:Rg s v u):∃c,RD s x c w/\∀b,c b->∃i,Y i b:=by let⟨X,f⟩:=e;have g:RD s v X {u with tape:=w.tape,drawn:=w.drawn}:=f.r λ_ _=>rfl;let⟨t,j,k,l,m,n⟩:=g;let⟨o,p,q⟩:=Ia (zY h) a l;exact⟨_,⟨o,p.trans j,k,q,TQ h m,Mm a n⟩,λb ⟨i,_,r⟩=>⟨i,r⟩⟩
theorem apH{l:fe}{r:Nat}{d:List Tx}(hRD:RD s v X l.w)(hU:∀b,X b->l.M b)(N:kB nB V l.w)(hV:∀b,V b->l.M b)(O:V r)(hq:Ck r h m d l.w)(hx:m<8)(y:-1<=h)(TT:∀t∈d,t.Ok)(hn:d.length<=1000)(g:nz l.w)(hG:∀b,b=1\/b=2\/b=3\/b=4->l.M b)(B:∀b,X b\/V b->ll b=Ë)(D:List (Nat×fJ))(I:kj D=s): Ei (λg=>xv g=Î) 66 #[v,Ã<|Â ⟨r,0,Á⟩] l (po λb=>X b\/V b) λz u=>∃p n c,z=ë #[Ç p n c,Ä (qH D h m d).2]/\Rg (rM D h m d) (Ç p n c) u:=by
 let⟨vs,h1,E,h3,P,f⟩:=hRD;have Q:=P.I N;refine⟨?_,aaU Q B g,?_,?_,λT=> ?_⟩
 .rintro b (q|q);all_goals grind
 .intro b u;unfold xv at u;simp at u;exact Ï u
 .refine pn λh y=> ?_;simp at y;rcases y with rfl|rfl
  .exact f.fO<|zV λi j=>È<|È j
  .exact fl.jL (Y:=pU (po λb=>X b\/V b) nB) ⟨⟨U,È<|Ï O⟩,U,U⟩
 .have o:=apE (V:=po λb=>X b\/V b) (T:=T) P λb q=>B b<|È q;obtain⟨z,k1,S,n,W,rfl,hcp,F⟩:=Ia (aaV (V:=po λb=>X b\/V b) (T:=T) Q B) (f.fO<|zV λi j=>È j) h3;obtain⟨tp,tn,tc,a,q1,q2,rfl,q4⟩:=(apF (V:=po λb=>X b\/V b) (T:=T) N (λb q=>B b<|Ï q) O hq);have c:=k1.trans h1;have hlen:n=s.length:=by rw[F.r,<-c];simp[kj]
  have at6:=E.I;have hle:=E.C;have pT:j4 (World.tp (kX (po λb=>X b\/V b) l.w) T 0):=ES;have C:=anP F Z Z hcp (λp J=>by
   have:p.2∈s:=by rw[<-c];exact Ú.2 ⟨p,J,U⟩
   have:=(E.r _ this).2.2.2;omega) q1 q2 q4 (aaY g) hx y
  have u:rM z h m (lD a)=rM D h m (lD a):=by unfold rM;rw[aaM<|c.trans I.symm,c,I]
  have H:lq (rM z h m<|lD a):=lq.M (by rwa[c]) TT hn;have ha:=aaM (c.trans I.symm) h m<|lD a;generalize World.tp (kX (po λb=>X b\/V b) l.w) T 0=G at*;refine C.mono ?_;rintro e u' ⟨k,hA⟩;rcases hA with⟨K,rfl⟩|⟨nv,b,sP,K,rfl,e3,e4,gb,gn,gc,rfl,e6⟩
  .refine⟨⟨S,n,W,by rw[ha],?_⟩,k.gS pT⟩;rw[<-u];have L:rM z h m (lD a)=s:=by unfold rM;rw[K,c];simp
   rw[L]at H|-;exact⟨X,z,c,H,⟨S,n,W,U,hcp,F.I k⟩,o.C λi j=>k.N i (aaZ o i j) id,f⟩
  .let⟨i,m1,m2,m3,_⟩:=apu o k (aaZ o) e4 e6 λp J=>by
    let⟨j,hj⟩:=ĕ J;let⟨sb,so,f1,f2,_⟩:=F.C j p.1 p.2 hj;have:X sb:=by rw[f1]at f;exact Cj f
    exact Ci<|o.r this f2
   refine⟨⟨Â ⟨gb,0,Á⟩,gn,gc,by rw[ha],?_⟩,k.gS pT⟩;rw[<-u];have L:rM z h m (lD a)=kj (z++[(b,nv)]):=by unfold rM;rw[K];simp[kj]
   rw[L]at H|-;exact⟨i,_,U,H,e3,m3,fl.kD (Y:=k9 i nB) ⟨⟨U,m2⟩,U,U⟩ gn gc⟩
end
structure vM where
 r:Nat->Int×Nat×List Tx
 C:Nat->Qn
def nW(s:List fJ):List (Nat×fJ):=s.map λv=>(0,v)
theorem Ig(s:List fJ):kj (nW s)=s:=by simp[kj,nW,Function.comp_def]
def Cl(s:List fJ)(i:Int×Nat×List Tx):List fJ:=rM (nW s) i.1 i.2.1 i.2.2
def pw(a:vM)(I:List Nat)(b:List fJ):Nat->List fJ
 |0=>b
 |k+1=>Cl (pw a I b k)<|a.r<|I.getD k 0
def vN(a:vM)(kd:Nat->Int)(p:Nat)(s:List fJ):ByteArray:=if kd p=1 then(qH (nW s) (a.r p).1 (a.r p).2.1 (a.r p).2.2).2 else qK (nW s) (a.C p)
def iB(e:fe)(a:Nat->Prop)(c:vM)(kd:Nat->Int)(R:Nat)(d:List fJ)(f:Nat->Prop):xu where
 γ:=List fJ
 C:=d
 M:=λk s g=>g=Cl s (c.r<|(gY kd R).getD k 0)
 RD:=λs h V w=>RD s h V w/\∀b,V b->a b\/e.w.heap.size<=b
 I:=λp=>vN c kd p<|pw c (gY kd R) d<|fL kd p
 r:=f
def TU{kd:Nat->Int}:∀(R k:Nat),k<(gY kd R).length->fL kd ((gY kd R).getD k 0)=k
 |0,k,h=>by simp[gY]at h
 |R+1,k,h=>by
  by_cases q:kd R=1
  .rw[sN q]at h|-;rcases Nat.lt_or_ge k (gY kd R).length with z|z
   .have e:(gY kd R++[R]).getD k 0=(gY kd R).getD k 0:=by simp[Ğ,Ĥ z]
    rw[e];exact TU R k z
   .have e:k=(gY kd R).length:=by simp at h;omega
    subst e;simp[Ğ,fL]
  .rw[vy q]at h|-;exact TU R k h
section
variable{y:Nat->Prop}
def Mp(h:kB nB y w)(g:nz w):∀b,y b->ll b=Ë:=λb i=>by
 let⟨c,e,m,f,_,_,_,_,j,k⟩:=h b i;cases d:ll b with
 |false=>rfl
 |true=>
  unfold ll at d;simp at d;rcases d with rfl|rfl
  .let⟨l,qk,a,_⟩:=g.I;rw[f]at a;cases a;exact absurd U j
  .let⟨l,qk,a,_⟩:=g.C;rw[f]at a;cases a;exact absurd U k
def apI(p:kB nB X w)(k:∀b,X b->u.heap[b]?=w.heap[b]?){r:Nat}{s:List Tx}(g:X r)(h:Ck r c i s w):Ck r c i s u:=by
 have d:∀{b o:Nat} {z:Ñ},X b->w.cell? ⟨b,o,Á⟩=Â z->u.cell? ⟨b,o,Á⟩=Â z:=λ{b o z} l q=>by simp only[à,k b l];exact q
 let⟨D,n,E,F,m,y,G,H⟩:=h;refine⟨D,n,E,F,⟨d g m.M,d g m.N,d g m.I⟩,⟨y.r,λj a t q=> ?_⟩,G,H⟩;let⟨tb,I,B,C,e,J⟩:=y.C j a t q;have l:X tb:=by have:=p.r g m.I;rw[B]at this;exact Cj this
 have f:=Ci<|p.r l C;let⟨K,L,M⟩:=e.b;exact⟨tb,I,B,d l C,⟨⟨K,L,by rwa[k a f]⟩,d f e.r,d f e.C,d f e.I,d f e.M,d f e.Y,d f e.N⟩,J⟩
end
structure Ih(l0:fe)(bt:vM)(kd:Nat->Int)(rq:Nat->Nat)(R:Nat)(Q:Nat->Prop):Prop where
 M:nz l0.w
 I:∀b,b=1\/b=2\/b=3\/b=4->l0.O b
 C:kB nB Q l0.w
 fq:∀b,Q b->l0.O b
 r:∀p,p<R->Q (rq p)
 kG:∀p,p<R->kd p=1->Ck (rq p) (bt.r p).1 (bt.r p).2.1 (bt.r p).2.2 l0.w/\(bt.r p).2.1<8/\-1<=(bt.r p).1/\(∀t∈(bt.r p).2.2,t.Ok)/\(bt.r p).2.2.length<=1000
 Sd:∀p,p<R->kd p≠1->Ie (rq p) (bt.C p) l0.w/\(bt.C p).Ok
def aa1{V:Nat->Prop}{l:fe}{a:Ñ->Í->Prop}(h:Ei X F d l V vQ)(b:∀v u,vQ v u->a v u):Ei X F d l V a:= ⟨h.N,h.S,h.I,h.r,λT=>(h.C T).mono λe u q=>by
  cases e with
  |returned v=>exact⟨b v u q.1,q.2⟩
  |_=>exact q⟩
section
variable{l0:fe}{bt:vM}{kd:Nat->Int}{rq:Nat->Nat}{R:Nat}{Q C d:Nat->Prop}{B:List fJ}{E F:Option ü}
def aa2{s:List fJ}(h:fv.nj ((kA (iB l0 d bt kd R B C) i n R kd rq D E F j9 j7 k m J j qX l0).r À) b s):s=pw bt (gY kd R) B b:=by
 have c:∀(b:Nat) (s:((kA (iB l0 d bt kd R B C) i n R kd rq D E F j9 j7 k m J j qX l0).r À).γ),fv.nj ((kA (iB l0 d bt kd R B C) i n R kd rq D E F j9 j7 k m J j qX l0).r À) b s->s=pw bt (gY kd R) B b:=λb s h=>by
  induction h with
  |u9=>rfl
  |C8 _ a e=>
   rwa[e]at a
 exact c b s h
def apJ(h:Ih l0 bt kd rq R Q)(N:l0.w.heap.size<=m):Ec (kA (iB l0 d bt kd R B C) i n R kd rq D E F j9 j7 k m J j qX l0):=by
 apply akt yi ZT ZS U;intro a s O W l q t f x y P g G;let⟨f,S⟩:=f;have T:=y.fx m<|g m<|Ï U;have H:l0.w.heap.size<=l.w.heap.size:=Z
 have o:=G;have p:=h.M.r (Ì h.M.fx H) λb c=>o b<|h.I b c;have r:=h.C.C λb c=>o b<|h.fq b c;have e:=Hm<|vE q;let⟨I,K⟩:=h.Sd _ e.1 e.2;refine⟨_,aa1 (apD f x r (λb c=>g b<|È<|h.fq b c) (h.r _ e.1) (aaX (aaW h.C λb c=>o b<|h.fq b c) ⟨U,h.r _ e.1⟩ I) K p (λb c=>g b<|È<|h.I b c) (λb c=>c.elim (Mp (by let⟨_,_,_,_,z,_⟩:=f;exact z) p b)<|Mp r p b) (nW s)<|Ig s) λv u L=> ?_⟩;rw[L];have z:=aa2 t;have M:(kA (iB l0 d bt kd R B C) i n R kd rq D E F j9 j7 k m J j qX l0).b a=fL kd ((jw kd R).getD a 0):=if_pos q;rw[M]at z;show _=Ä (vN bt kd ((jw kd R).getD a 0)<|pw bt (gY kd R) B<|fL kd<|(jw kd R).getD a 0);rw[<-z];unfold vN;rw[if_neg e.2]
theorem apK(h:Ih l0 bt kd rq R Q)(hZ:(∀b,Q b->d b)/\∀b,b=1\/b=2\/b=3\/b=4->d b)(Zg:l0.w.heap.size<=m):Eb (kA (iB l0 d bt kd R B C) i n R kd rq D E F j9 j7 k m J j qX l0):=by
 refine aku yi ZT ZS U (λs o u=>Rg s o u) (λs o u T n q=>Rg.tp q) ?_;intro T s o W l H I g K L hq r M;let⟨g,OZ⟩:=g;have hs:=L.fx m<|r m<|Ï U;have N:l0.w.heap.size<=l.w.heap.size:=Z
 have t:=M;have x:=h.M.r (Ì h.M.fx N) λb a=>t b<|h.I b a;have y:=h.C.C λb a=>t b<|h.fq b a;have G:=H;have f:=Hl<|vE G;let⟨O,P,S,V,X⟩:=h.kG _ f.1 f.2;refine⟨_,aa1 (apH g K y (λb a=>r b<|È<|h.fq b a) (h.r _ f.1) (apI h.C (λb a=>t b<|h.fq b a) (h.r _ f.1) O) P S V X x (λb a=>r b<|È<|h.I b a) (λb a=>a.elim (Mp (by let⟨_,_,_,_,z,_⟩:=g;exact z) x b)<|Mp y x b) (nW s)<|Ig s) λv u hv=> ?_,?_⟩
 .obtain⟨p,z,c,rfl,Y⟩:=hv;refine⟨p,z,c,Cl s<|bt.r<|(gY kd R).getD T 0,?_,U,Y⟩;have e:(kA (iB l0 d bt kd R B C) i n R kd rq D E F j9 j7 k m J j qX l0).e (T+1)=vN bt kd ((gY kd R).getD T 0) (pw bt (gY kd R) B<|fL kd<|(gY kd R).getD T 0):=U;rw[e,TU R T G,<-(aa2 I)];unfold vN;rw[if_pos f.2]
 .intro Y Sh u w s' ZH K7 e p h3 h4;let⟨V',k1,c⟩:=apG e p h3;refine⟨V',⟨k1,λb a=> ?_⟩,c⟩;let⟨z,hi⟩:=c b a;rcases h4 z b hi with((q|q)|q)|q;all_goals grind
end
section
variable{R:Nat}{kd:Nat->Int}{o:Nat->Nat}{r:List Ē}{l:fe}{u:Nat->fe}{bt:vM}{j f:Nat->Prop}{s0:List fJ}
def apL{s:List fJ}(h:zo (iB l f bt kd R s0 j) k s):s=pw bt (gY kd R) s0 k:=by
 have b:∀(k:Nat) (s:(iB l f bt kd R s0 j).γ),zo (iB l f bt kd R s0 j) k s->s=pw bt (gY kd R) s0 k:=λk s h=>by
  induction h with
  |u9=>rfl
  |C8 _ a c=>
   rwa[c]at a
 exact b k s h
structure zZ(f:Nat->Prop)(bt:vM)(R:Nat)(kd:Nat->Int)(s0:List fJ)(l:fe)(an:Nat)(sl:Ñ)(l':fe):Prop where
 M:∀b,l.O b->l'.O b/\l'.w.heap[b]?=l.w.heap[b]?
 r:l'.O an/\∀p,p<R->l'.w.cell? ⟨an,p,Á⟩=Â (Ä<|vN bt kd p<|pw bt (gY kd R) s0<|fL kd p)
 Y:∃V,RD (pw bt (gY kd R) s0<|fL kd R) sl V l'.w/\∀b,V b->l'.O b/\(f b\/l.w.heap.size<=b)
 d:l'.d=0
 q:¬l'.q
 S:∀b,¬l'.I b
 C:(∀a,¬l'.r a)/\(∀a,¬l'.N a)/\∀a,¬l'.K a
 I:l'.w.cell? ⟨an,R,Á⟩=Á/\kN l'.w an=Â (0,0)
def apM{a:fe}(h:FH (iB l f bt kd R s0 j) R kd l i v a):zZ f bt R kd s0 l i v a:=by let⟨s,V,g,c,k⟩:=h.Hn;have e:=apL g;subst e;exact⟨h.vg,h.kv,⟨V,c.1,λb q=>⟨k b q,c.2 b q⟩⟩,h.d,h.q,h.rd,h.zp,h.CP⟩
def apN{J:(Loc->Prop)->Nat->Jd}{F:Ē}(P:qX=F.at y (Ð Q (j9::jJ)::L)::r)(c:fv.rA À zX i (K5 kd o R n v l qX) .fC D u E w qJ)(C:Option (Nat×Nat))(s:gy l)(S:∀b,¬l.I b)(W:¬l.q)(Y:l.d=0)(Mq:vF zX i l)(H:Ih l bt kd o R X)(hZ:(∀b,X b->f b)/\∀b,b=1\/b=2\/b=3\/b=4->f b)(I:∀b,f b->l.O b)(K:∀b,j b->f b)(BS:RD s0 v j l.w)(xr:w.os=l.w.os/\w.output=l.w.output)(hn:1<=n)(hs:n+R<1000) (hJ:∀t x z B p m c,vF t x z->gy z->zZ f bt R kd s0 l B (Ç p m c) z->fv.fj À Î (J t x) z (G (F.at (y.put ((Q[j9]?).bind (·.dst))<|ë #[Ç (Â ⟨B,0,Á⟩) R R,Ç p m c])<|Ð Q jJ::L) r)): ∃N t x T V Ho g e sP h,ſ À N (Į E w C) qJ=(.next<|Į g e sP,h)/\(e.os=l.w.os/\e.output=l.w.output)/\fv.rA À t x (J t x) T V Ho g e h:= akm (M:=iB l f bt kd R s0 j) P c C s S W Y Mq (λb q=>I b<|K b q) (λs C V w e h L=>⟨h.1.r L,h.2⟩) (λs C V w h=>⟨by let⟨_,_,_,⟨g,n,N,e,_⟩,_⟩:=h.1;exact⟨g,n,N,e⟩,λb q=>(h.2 b q).imp (I b) id⟩) ⟨BS,λb h=>È<|K b h⟩ xr hn hs (λg N V T cq B ba bi all e=>⟨apK H hZ e,apJ H e⟩) λt x z B p m c e g N=>hJ t x z B p m c e g<|apM N
end
end Go.Proofs.Y.kZ
namespace Go.Proofs.Y.py
open Go Go.Proofs Go.RowKit Go.Proofs.Y.Lift Go.Proofs.Y.gR
def j0(c:Int):Bool:=decide (48<=c)&&decide (c<=57)
def rN(c:Int):Bool:=decide (97<=c)&&decide (c<=104)
def xT(c:Int):Int:=
 if c=105 then 1 else if c=103 then 2 else if c=98 then 3 else if c=99 then 4 else if c=109 then 5
 else if c=114 then 6 else if c=108 then 7 else if c=117 then 8 else if c=100 then 9 else 0
def Mr(c:Int):Int:=if c=62 then 1 else if c=123 then 2 else if c=58 then 3 else 0
theorem EU(c:Int):j0 c=Î↔(48<=c/\c<=57):=by simp[j0]
def apO(c:Int):rN c=Î↔(97<=c/\c<=104):=by simp[rN]
def vO(k:Int):List Int:=
 if k=1 then[86,58,120,47,66]else if k=2 then[86,58,120,115]else if k=3 then[86,58,120]
 else if k=4 then[86,58,120,62,121,40,110,44,107,41]else if k=5 then[86,58,120,62,121,40,107,41]
 else if k=9 then[86,58,87]else[86]
def pz(k:Int):List Int:=
 if k=1 then[121,61,110]else if k=2 then[80]else[121,40,110,44,107,41]
def qe(a c:Int):Bool:=
 if a=86\/a=87 then c==104||j0 c
 else if a=110\/a=107 then j0 c
 else if a=120\/a=121 then rN c
 else if a=115 then j0 c||(decide (97<=c)&&decide (c<=102))
 else c==a
def rO(a c:Int):Int:=
 if c=48\/j0 c=Ë then 0
 else if a=86\/a=87 then 1
 else if a=110\/a=107 then 5
 else 0
def jS(s:ByteArray):List Int:=s.data.toList.map λc=>((c.toNat:Nat):Int)
def apP(B:ByteArray)(k:Nat)(h:k<B.size):(jS B).drop k=((B[k].toNat:Nat):Int)::(jS B).drop (k+1):=by
 have a:k<(jS B).length:=by simpa[jS]using h
 rw[List.drop_eq_getElem_cons a];congr 1;simp[jS,ċ]
theorem TV(B:ByteArray):(jS B).length=B.size:=by unfold jS;simp_all
theorem vP(s:ByteArray)(h:0<s.size):jS s=((s[0].toNat:Nat):Int)::(jS s).tail:=by have:=apP s 0 h;grind
theorem aa3(s:ByteArray)(h:s.size=0):jS s=[]:=by grind [Ý,TV]
def apQ(s:ByteArray):jS (s.extract 1 s.size)=(jS s).tail:=by unfold jS;rw[Ĳ,ĺ,<-List.map_tail];congr 1;rw[ĥ,<-List.drop_one];apply List.take_of_length_le;simp_all
theorem apR(s:ByteArray)(h:s.size<=10):(s.extract 1 s.size).size<=10:=by grind [Č]
theorem apS(a c:Int):0<=rO a c/\rO a c<=5:=by unfold rO;grind
structure PT where
 c:List Int
 p:ByteArray
structure PR where
 c:List Int
 r:List PT
structure PD where
 S:List PR
 r:Bool
 I:PR
 M:Bool
 N:PT
structure PS where
 C:List Int
 r:Int
 I:Int
 M:Int
 d:PD
namespace PD
def Y(d:PD):List PT:=if d.M then d.I.r++[d.N]else d.I.r
def C(d:PD):List PR:=if d.r then d.S++[⟨d.I.c,d.Y⟩]else d.S
def uH(d:PD)(i:Nat)(z:Int):PD:={d with I:={d.I with c:=d.I.c.set i z}}
def vR(d:PD)(i:Nat)(z:Int):PD:={d with N:={d.N with c:=d.N.c.set i z}}
def jK(d:PD)(i:Nat)(z:Int):PD:=if d.M then d.vR i z else d.uH i z
def sX(d:PD)(p:ByteArray):PD:={d with N:={d.N with p:=p}}
def ER:PT:=⟨[0,0,0,0,0],⟨#[]⟩⟩
def aa4(k:Int):PR:=⟨[0,0,0,0,k,0,0,0],[]⟩
def rP(d:PD):PD:={d with I:=⟨d.I.c,d.Y⟩,M:=Î,N:=ER}
def EV(d:PD)(k:Int):PD:={S:=d.C,r:=Î,I:=aa4 k,M:=Ë,N:=d.N}
def fZ(d:PD)(a z:Int):PD:=
 if a=86 then d.uH 5 z else if a=87 then d.uH 6 z else if a=120 then d.jK 0 z else if a=121 then d.jK 1 z
 else if a=110 then d.jK 2 z else if a=107 then d.jK 3 z else if a=115 then d.uH 7 z else d
def xU(d:PD)(i:Nat):Int:=if d.M then d.N.c.getD i 0 else d.I.c.getD i 0
def G(d:PD)(a:Int):Int:=if a=86 then d.I.c.getD 5 0 else if a=87 then d.I.c.getD 6 0 else if a=110 then d.xU 2 else d.xU 3
end PD
def mT(a c:Int):Int:=
 if a=120\/a=121 then Þ [97,98,99,100,101,102,103,104] c.toNat.toUInt8
 else if a=115 then Þ [48,49,50,51,52,53,54,55,56,57,97,98,99,100,101,102] c.toNat.toUInt8
 else if c=104 then-1 else(c-48)%256
def rQ(z c:Int):Int:=É.wrap<|É.wrap (z*10)+(c-48)%256
def rR(st:PS)(c:Int):Option PS:=
 if c=59/\st.d.S.length+1<24 then Â {st with C:=[82]}
 else if c=44/\0<st.d.Y.length/\st.d.Y.length<8 then Â {st with C:=[120,84],d:=st.d.rP}
 else Á
def z8(st:PS)(k:Int):Option PS:=if k=0 then Á else Â {st with C:=vO k,d:=st.d.EV k}
def xV(st:PS)(k:Int):Option PS:=if k=0 then Á else Â {st with C:=pz k,I:=0,d:=st.d.vR 4 k}
def pA(st:PS)(a c:Int):PS:={st with r:=rO a c,M:=a,d:=st.d.fZ a (mT a c)}
def ln(B:ByteArray)(k:Nat)(st:PS)(c:Int):Option PS:=
 match st.C with
 |[]=>rR st c
 |want::tl=>
  if want=82 then z8 st (xT c)
  else if want=66 then
   if rN c=Î then Â (pA {st with C:=[84],d:=st.d.rP} 120 c)else rR st c
  else if want=84 then xV st (Mr c)
  else if want=80 then
   if c=125 then Â {st with C:=tl,d:=st.d.sX (B.extract (k-st.I.toNat) k)}
   else if st.I=40\/lO c=0 then Á else Â {st with I:=st.I+1}
  else if qe want c=Î then Â {pA st want c with C:=tl}
  else Á
def Ii(st:PS)(c:Int):PS:={st with r:=st.r-1,d:=st.d.fZ st.M (rQ (st.d.G st.M) c)}
def qL(B:ByteArray)(k:Nat)(st:PS)(c:Int):Option PS:=
 if 0<st.r/\j0 c=Î then Â (Ii st c)else ln B k {st with r:=0} c
def oe(B:ByteArray):Nat->Nat->PS->Nat×PS
 |0,k,st=>(k,st)
 |f+1,k,st=>if h:k<B.size then match qL B k st (B[k].toNat:Int)with
  |none=>(k,st)
  |some a=>oe B f (k+1) a
  else(k,st)
def pd0:PD:=⟨[],Ë,⟨[],[]⟩,Ë,⟨[],⟨#[]⟩⟩⟩
def sY:PS:=⟨[82],0,0,0,pd0⟩
def rS(c:Int)(w:Í): Ò À 94 #[Å ū c] w λe a=>e=Æ (õ<|j0 c)/\a=w:=by
 go_enter Tryz.func94,Tryz.ntmps94;go_wp2;all_goals go_ret
 all_goals exact⟨ZY (by simp only[j0];first|(simp[*];done)|(rw[Ę];simp;omega)),U⟩
def apT(s:ByteArray)(c:Int)(w:Í): Ò À 167 #[Ä s,Å ū c] w λe a=>e=Æ (Å É<|Þ s.data.toList c.toNat.toUInt8)/\a=w:=by go_enter Tryz.func167,Tryz.ntmps167;go_wp2;rw[run_callFunc_extern Tryz.func185 fu fu fu fu,Lib.run_indexByteString];simp only[ų];rw[Oper.upon_value];go_wp2;go_ret;exact⟨U,U⟩
def Ij(s:ByteArray)(c:Int)(w:Í): Ò À 146 #[Ä s,Å ū c] w λe a=>e=Æ (Å É<|Þ s.data.toList c.toNat.toUInt8)/\a=w:=by go_enter Tryz.func146,Tryz.ntmps146;go_wp2_with (go_at_call 167;refine(apT _ _ _).mono ?_;rintro e a ⟨rfl,rfl⟩);go_ret;exact⟨U,U⟩
def Ms(c:Int):Bool:=j0 c||(decide (97<=c)&&decide (c<=102))
def apU:∀n:Fin 256,decide (0<=Þ [97,98,99,100,101,102,103,104] n.val.toUInt8)=rN (n.val:Int):=by decide+kernel
def apV:∀n:Fin 256,decide (0<=Þ [48,49,50,51,52,53,54,55,56,57,97,98,99,100,101,102] n.val.toUInt8)=Ms (n.val:Int):=by decide+kernel
def apW(a:0<=c)(b:c<256):decide (0<=Þ [97,98,99,100,101,102,103,104] c.toNat.toUInt8)=rN c:=by have:=apU ⟨c.toNat,Z⟩;rwa[show((c.toNat:Nat):Int)=c from by omega]at this
def apX(a:0<=c)(b:c<256):decide (0<=Þ [48,49,50,51,52,53,54,55,56,57,97,98,99,100,101,102] c.toNat.toUInt8)=Ms c:=by have:=apV ⟨c.toNat,Z⟩;rwa[show((c.toNat:Nat):Int)=c from by omega]at this
def TW(c:Int)(b:0<=c)(d:c<256)(w:Í): Ò À 98 #[Å ū c] w λe a=>e=Æ (õ<|rN c)/\a=w:=by
 have f:=apW b d;go_enter Tryz.func98,Tryz.ntmps98;go_wp2_with (go_at_call 146;refine(Ij _ _ _).mono ?_;rintro e a ⟨rfl,rfl⟩);all_goals go_ret
 all_goals exact⟨U,U⟩
def apY(c:Int)(b:0<=c)(d:c<256)(w:Í): Ò À 149 #[Å ū c] w λe a=>e=Æ (õ<|Ms c)/\a=w:=by
 have f:=apX b d;go_enter Tryz.func149,Tryz.ntmps149;go_wp2_with (go_at_call 146;refine(Ij _ _ _).mono ?_;rintro e a ⟨rfl,rfl⟩);all_goals go_ret
 all_goals exact⟨U,U⟩
def apZ(c:Int)(w:Í): Ò À 102 #[Å ū c] w λe a=>e=Æ (Å É<|Mr c)/\a=w:=by
 go_enter Tryz.func102,Tryz.ntmps102;go_wp2;all_goals go_ret
 all_goals refine⟨Em ?_,U⟩
 all_goals simp only[beq_iff_eq,beq_eq_false_iff_ne,ne_eq]at*
 all_goals simp[Mr, *]
def ap0(c:Int)(w:Í): Ò À 97 #[Å ū c] w λe a=>e=Æ (Å É<|xT c)/\a=w:=by
 go_enter Tryz.func97,Tryz.ntmps97;go_wp2;all_goals go_ret
 all_goals refine⟨Em ?_,U⟩
 all_goals simp only[beq_iff_eq,beq_eq_false_iff_ne,ne_eq]at*
 all_goals simp[xT, *]
def aa5(b c:Int)(d:0<=c)(f:c<256)(w:Í): Ò À 104 #[Å ū b,Å ū c] w λe a=>e=Æ (õ<|qe b c)/\a=w:=by
 go_enter Tryz.func104,Tryz.ntmps104;go_wp2_with (first|(go_at_call 94;refine(rS _ _).mono ?_;rintro e a ⟨rfl,rfl⟩)|(go_at_call 98;refine(TW _ d f _).mono ?_;rintro e a ⟨rfl,rfl⟩)|(go_at_call 149;refine(apY _ d f _).mono ?_;rintro e a ⟨rfl,rfl⟩));all_goals go_ret
 all_goals refine⟨ZY ?_,U⟩
 all_goals try go_light
 all_goals simp only[beq_iff_eq,beq_eq_false_iff_ne,ne_eq]at*
 all_goals unfold qe
 all_goals first|(simp[Ms, *];done)|(rw[Ę];simp[*];done)|(rw[Ę];simp[*];omega)
def ap1(k:Int)(w:Í): Ò À 145 #[Å É k] w λe a=>(∃b:ByteArray,e=Æ (Ä b)/\b.size<=10/\jS b=vO k)/\a=w:=by
 go_enter Tryz.func145,Tryz.ntmps145;go_wp2;all_goals go_ret
 all_goals refine⟨⟨_,U,?_,?_⟩,U⟩
 all_goals try go_light
 all_goals simp only[beq_iff_eq,beq_eq_false_iff_ne,ne_eq]at*
 all_goals first|(simp[jS,vO, *];done)|decide
def ap2(k:Int)(w:Í): Ò À 148 #[Å É k] w λe a=>(∃b:ByteArray,e=Æ (Ä b)/\b.size<=10/\jS b=pz k)/\a=w:=by
 go_enter Tryz.func148,Tryz.ntmps148;go_wp2;all_goals go_ret
 all_goals refine⟨⟨_,U,?_,?_⟩,U⟩
 all_goals try go_light
 all_goals simp only[beq_iff_eq,beq_eq_false_iff_ne,ne_eq]at*
 all_goals first|(simp[jS,pz, *];done)|decide
def mU(m s:Nat):Ñ->Prop
 |Å ū _=>False
 |Å _ _=>True
 |õ _=>True
 |Ä _=>True
 |Ã Á=>True
 |Ã (Â a)=>m<=a.block/\a.block<s
 |Ç Á _ _=>True
 |Ç (Â a) _ _=>m<=a.block/\a.block<s
 |_=>False
def mU.r(h:mU m i v)(d:i<=n):mU m n v:=by
 cases v with
 |int k b=>cases k<;>exact h
 |pointer a=>cases a with
  |none=>trivial
  |some a=>exact⟨h.1,Ġ h.2 d⟩
 |slice a b c=>cases a with
  |none=>trivial
  |some a=>exact⟨h.1,Ġ h.2 d⟩
 |_=>exact h
def Mt(m s:Nat)(o:Obj):Prop:=∃c e a,o=Û c e a/\a.2<=c.size/\0<c.size/\e≠304/\e≠305/\∀v∈c.toList,mU m s v
def jz(m:Nat)(w:Í):Prop:=∀i o,m<=i->w.heap[i]?=Â o->Mt m w.heap.size o
def Mt.r{o:Obj}(h:Mt m i o)(a:i<=n):Mt m n o:=by let⟨c,e,b,d,f,g,j,k,l⟩:=h;exact⟨c,e,b,d,f,g,j,k,λv p=>(l v p).r a⟩
def jz.I(w:Í):jz w.heap.size w:=λi o a h=>by rw[ı a]at h;cases h
def jz.fS(h:jz m w):jz m w.drew:=h
def jz.iO(h:jz m w)(n:Nat):jz m (w.drewN n):=h
theorem jz.gI(h:jz m w)(cs:Array Ñ)(t:č)(c:0<cs.size)(b:t≠304/\t≠305)(d:∀v∈cs.toList,mU m w.heap.size v):jz m (w.alloc<|Û cs t):=by
 intro i o f a;have k:(w.alloc<|Û cs t).heap.size=w.heap.size+1:=fp
 by_cases e:i<w.heap.size
 .rw[Š _ _ _ e]at a;exact(h i o f a).r Z
 .by_cases g:i=w.heap.size
  .subst g;rw[Ŵ]at a;cases a;exact⟨cs,t,(0,0),U,Ø _,c,b.1,b.2,λv j=>(d v j).r Z⟩
  .grind
def jz.r(h:jz m w)(p:ü)(l:mU m w.heap.size v):jz m (w.setCell p v):=by
 intro i o f a;have n:(w.setCell p v).heap.size=w.heap.size:=fp
 rw[n];by_cases e:i=p.block
 .subst e;unfold Ż at a;simp only[Ķ,if_true]at a;cases d:w.heap[p.block]? with
  |none=>rw[d]at a;cases a
  |some x=>
   rw[d]at a;obtain⟨c,e,r,rfl,g,j,s,t,k⟩:=h _ _ f d;simp only[Ă,Ô]at a;subst a;refine⟨_,e,r,U,?_,?_,s,t,λu b=> ?_⟩
   .split
    .exact g
    .rwa[Ĭ]
   .split
    .exact j
    .rwa[Ĭ]
   .split at b
    .exact k u b
    .rw[Array.toList_setIfInBounds]at b;rcases Ħ b with q|q
     .exact k u q
     .rwa[q]
 .rw[ġ _ _ _ _ (by simpa using e)]at a;exact h i o f a
theorem ap3{ty:č}{bytes base:Nat}(y:P.underlying t=Â (.slice e))(B:P.info? e=Â zJ)(G:zJ.zero=Â (Ã Á)) (s:zJ.size=1) (H:zJ.bytes=bytes) (f:w.ownsRow base e 1 v n l) (a:ü) (c:Nat) (C:∀j M,[z][j]?=Â M->w.cell? (a.add j)=Â M) (N:z.oneCell'=Î) (O:n+1<=ī) (I:(n+1)*bytes<=140737488355328) (W:base<=w.heap.size) (X:ma e=Ë) (hm:m<=base) (D:jz m w) (hg:mU m w.heap.size z) (Y:e≠304/\e≠305): ∃h u,(ė #[t,t] ty #[v,Ç (Â a) 1 c]).run P w=.ok h u/\pV w base e 1 v n l 1 [z] h u/\jz m u/\mU m u.heap.size h:=by
 obtain⟨h,u,J,E⟩:=Sn y B G s H U f a c [z] Z U C (λx b=>by simp at b;subst b;exact N) O I W<|È X;have hgv:mU m u.heap.size h:=by
  obtain⟨p,o,rfl⟩:=jf E.fq;cases p with
  |none=>trivial
  |some p=>
   have k:=E.fq.lt p.block (by rcases E.fq.2 with⟨q,_⟩|⟨g,r,d,q,_⟩<;>(cases q;try rfl));exact⟨Z,k.2⟩
 refine⟨h,u,J,E,?_,hgv⟩;have q:[z].length=1*zJ.size:=by rw[s];rfl
 have hlx:l.length=n*zJ.size:=by rw[s];exact f.1
 have akO:n+1<=9223372036854775807:=by simp only[ī]at O;omega
 have tK:∀x∈l,mU m w.heap.size x:=λx b=>by
  rcases f.2 with⟨_,rfl⟩|⟨g,r,d,rfl,hbg,p,hnc,hcm,Q,htake⟩
  .grind
  .let⟨c2,e2,qk,S,_,_,_,_,q6⟩:=D g _ Z p;grind
 have gr:∀T,jz m (w.drew.alloc<|Û (l.toArray++[z].toArray++φ (Ĺ<|Ã Á) (grownCap w (n+1) T e-(n+1))) e):=λT=>by
  refine jz.gI D _ _ (by simp;omega) Y λx b=> ?_;simp only[Array.toList_append,â]at b;rcases b with(b|b)|b
  .exact tK x b
  .grind
  .have:=Sm b;simp[Ĺ]at this;subst this;trivial
 rcases f.2 with⟨rfl,rfl⟩|⟨g,r,d,rfl,hbg,p,hnc,hcm,Q,htake⟩
 .have b:=Ý (by simpa using f.1);subst b;have K:=run_append_nil w t ty e zJ (Ã Á) y B G a 1 c [z] q C Z Z (by rw[H];have k:=I;simp only[œ]at k;omega);grind
 .by_cases ap4:n+1<=r
  .have So:n*zJ.size+[z].length<=d.size:=by rw[q,Q,s];omega
   have K:=run_append_room w t ty e zJ y B g n r d p a 1 c [z] q C (λx b=>by simp at b;subst b;exact N) ap4 So;rw[K]at J;cases J;have ap5:=setRow_heap w g d (d.toList.take (n*zJ.size)++[z]++d.toList.drop (n*zJ.size+[z].length)).toArray e _ p;have ap6:=λk (L:k≠g)=>setRow_other w g k (d.toList.take (n*zJ.size)++[z]++d.toList.drop (n*zJ.size+[z].length)).toArray L;let⟨c2,e2,qk,S,q2,q3,q4,q5,q6⟩:=D g _ Z p;cases S;intro k o L F;have j5:(w.setRow g (d.toList.take (n*zJ.size)++[z]++d.toList.drop (n*zJ.size+[z].length)).toArray).heap.size=w.heap.size:=fp
   rw[j5];by_cases V:k=g
   .subst V;rw[ap5]at F;cases F;refine⟨_,_,_,U,fp,(by simp;omega),q4,q5,λx b=> ?_⟩;grind
   .rw[ap6 k V]at F;exact D k o L F
  .have k:w.ownsRow base e zJ.size (Ç (Â ⟨g,0,Á⟩) n r) n l:=by rwa[s]
   have K:=run_append_grow w t ty e zJ (Ã Á) y B G ⟨g,0,Á⟩ n r l hlx (k.cells U) a 1 c [z] q C Z Z (by rw[H];exact growslice_fits Z I);grind
def aa6{f:Array ĝ}{E:Prop}{base:Nat} (k:o.guard=Á) (s x:Operand) (t:č) (p:o.op=Op.call {callee:=Callee.builtin κ,args:=#[s,x],argTypes:=#[t,t]}) {bytes:Nat} (q:P.underlying t=Â (.slice e)) (r:P.info? e=Â zJ) (B:zJ.zero=Â (Ã Á)) (C:zJ.size=1) (D:zJ.bytes=bytes) (F:y.eval s=v) (G:w.ownsRow base e 1 v n l) (ad:ü) (H:y.eval x=Ç (Â ad) 1 b) (I:∀j g,[z][j]?=Â g->w.cell? (ad.add j)=Â g) (J:z.oneCell'=Î) (L:n+1<=ī) (M:(n+1)*bytes<=140737488355328) (N:base<=w.heap.size) (O:ma e=Ë) (S:m<=base) (T:jz m w) (V:mU m w.heap.size z) (W:e≠304/\e≠305) (h:∀d u,pV w base e 1 v n l 1 [z] d u->jz m u->mU m u.heap.size d->K (y.put o.dst d) u): if đ o (Ι f y.tmps)=Î then Oper.wp P o y w K vJ else E:=by
 have X:đ o (Ι f y.tmps)=Î:=by simp[đ,k]
 rw[if_pos X];let⟨d,u,Y,h2,h3,h4⟩:=ap3 (ty:=o.type) q r B C D G ad b I J L M N O S T V W;unfold Oper.wp;simp[ś,p,ρ,ar,ς,F,H,Y,ų];exact h d u h2 h3 h4
def nA(l:List Nat):List Ñ:=l.map λa=>Ã<|Â ⟨a,0,Á⟩
def oh(l:List Int):List Ñ:=l.map λz=>Å É z
def EW(p:PT):List Ñ:=oh p.c++[Ä p.p]
def Cm(c:List Int)(a:Ñ):List Ñ:=oh c++[a]
structure oK(lo hi:Nat)(tb:List Nat)(l:List PT)(w:Í):Prop where
 r:tb.length=l.length
 I:∀(j a:Nat) (p:PT),tb[j]?=Â a->l[j]?=Â p->lo<=a/\a<hi/\p.c.length=5/\fi a (EW p) 200 w
structure vS(B q:Nat)(r:PR)(w:Í):Prop where
 M:q<B
 C:r.c.length=8
 I:∃vb tb,fi q (Cm r.c vb) 161 w/\w.ownsRow 0 149 1 vb tb.length (nA tb)/\(∀j,vb.ownBlock=Â j->j<B)/\oK 0 B tb r.r w
structure pB(B:Nat)(qs:List Nat)(rs:List PR)(w:Í):Prop where
 I:qs.length=rs.length
 M:∀(j q:Nat) (r:PR),qs[j]?=Â q->rs[j]?=Â r->vS B q r w
section
variable{w':Í}{lo hi B q:Nat}{tb qs:List Nat}{l:List PT}{r:PR}{rs:List PR}
def oK.C(h:oK lo hi tb l w)(k:fc X w w')(f:∀a c g,lo<=a->a<hi->w.heap[a]?=Â (Û c 200 g)->¬X a):oK lo hi tb l w':= ⟨h.r,λj a p i m=>by let⟨b,d,n,e⟩:=h.I j a p i m;exact⟨b,d,n,e.I k<|f a _ _ b d e⟩⟩
def oK.M(h:oK lo hi tb l w)(f:i<=lo)(g:hi<=n):oK i n tb l w:= ⟨h.r,λj a p b c=>by let⟨k,m,d,e⟩:=h.I j a p b c;exact⟨Z,Z,d,e⟩⟩
theorem oK.N(lo hi:Nat)(w:Í):oK lo hi [] [] w:=⟨U,λj a p h=>by cases h⟩
theorem EX{α:Type}{l:List α}{a x:α}(h:(l++[a])[j]?=Â x):l[j]?=Â x\/j=l.length/\x=a:=by grind
theorem oK.TX{p:PT}(h:oK lo hi tb l w)(g:lo<=i)(k:i<hi)(m:p.c.length=5)(n:fi i (EW p) 200 w):oK lo hi (tb++[i]) (l++[p]) w:=by
 refine⟨by simp[h.r],λj x y d b=> ?_⟩;rcases EX d with e|⟨e,rfl⟩
 .rcases EX b with f|⟨f,rfl⟩
  .exact h.I j x y e f
  .have:=(Õ.1 e).1;have:=h.r;omega
 .rcases EX b with f|⟨f,rfl⟩
  .have:=(Õ.1 f).1;have:=h.r;omega
  .grind
def TY(B:Nat)(w:Í)(i:Nat):Prop:=B<=i\/∃c T a,w.heap[i]?=Â (Û c T a)/\(T=153\/T=148)
theorem T0(a:TY B w i)(hi:i<B)(h:w.heap[i]?=Â (Û d T xJ))(b:T≠153/\T≠148):False:=by rcases a with q|⟨e,f,qk,g,j⟩;all_goals grind
theorem vS.vg(h:vS B q r w)(k:fc X w w')(d:∀i,i<w.heap.size->X i->TY B w i):vS B q r w':=by let⟨f,tb,b,g,l,m⟩:=h.I;refine⟨h.M,h.C,f,tb,b.I k λx=>T0 (d q b.M x) h.M b A,ie g k λj o x=> ?_,l,m.C k λa c p _ n e x=>T0 (d a (á.1 e).1 x) n e A⟩;grind [lN,T0]
def vS.fO(h:vS B q r w)(a:B<=i):vS i q r w:=by let⟨b,tb,c,d,e,f⟩:=h.I;exact⟨by have:=h.M;omega,h.C,b,tb,c,d,λj g=>by have:=e j g;omega,f.M (æ _) a⟩
def pB.C(h:pB B qs rs w)(k:fc X w w')(a:∀i,i<w.heap.size->X i->TY B w i):pB B qs rs w':= ⟨h.I,λj q r b c=>(h.M j q r b c).vg k a⟩
def pB.TX(h:pB B qs rs w)(b:B<=i)(c:vS i q r w):pB i (qs++[q]) (rs++[r]) w:=by
 refine⟨by simp[h.I],λj x y d a=> ?_⟩;rcases EX d with e|⟨e,rfl⟩
 .rcases EX a with f|⟨f,rfl⟩
  .exact(h.M j x y e f).fO b
  .have:=(Õ.1 e).1;have:=h.I;omega
 .rcases EX a with f|⟨f,rfl⟩
  .have:=(Õ.1 f).1;have:=h.I;omega
  .exact c
theorem pB.N(B:Nat)(w:Í):pB B [] [] w:=⟨U,λj q r h=>by cases h⟩
end
structure Gh where
 a:List Nat
 q:Nat
 t:Nat
 B:Nat
 tb:List Nat
 N:Ñ
 r:Ñ
 b:Option ü
namespace Gh
def C(g:Gh)(d:PD):List Nat:=if d.r then g.a++[g.q]else g.a
def I(g:Gh)(d:PD):List Nat:=if d.M then g.tb++[g.t]else g.tb
def S(g:Gh)(d:PD):Option ü:=if d.r then Â ⟨g.q,0,Á⟩else Á
def Y(g:Gh)(d:PD):Option ü:=if d.M then Â ⟨g.t,0,Á⟩else g.b
def M(g:Gh)(d:PD):Nat:=if d.M then g.t else g.q
def G(g:Gh)(d:PD):Option ü:=if d.r then Â ⟨g.M d,0,Á⟩else Á
def Cn(g:Gh)(d:PD)(a:Int):ü:=if a=86 then⟨g.q,5,Á⟩else if a=87 then⟨g.q,6,Á⟩else if a=110 then⟨g.M d,2,Á⟩else⟨g.M d,3,Á⟩
end Gh
structure vT(m:Nat)(g:Gh)(d:PD)(w:Í):Prop where
 S:m<=g.B
 N:g.B<=g.q
 M:d.I.c.length=8
 r:fi g.q (Cm d.I.c g.r) 161 w
 I:w.ownsRow g.B 149 1 g.r (g.I d).length (nA<|g.I d)
 Y:oK g.B g.t g.tb d.I.r w
 C:d.M=Î->g.B<=g.t/\d.N.c.length=5/\fi g.t (EW d.N) 200 w
 a:d.M=Ë->g.tb=[]/\d.I.r=[]
structure kP(m:Nat)(g:Gh)(d:PD)(w:Í):Prop where
 C:w.ownsRow m 148 1 g.N (g.C d).length (nA<|g.C d)
 I:pB g.B g.a d.S w
 r:d.r=Î->vT m g d w
 N:d.r=Ë->d.M=Ë
def T1(s:ByteArray)(g:Gh)(d:PD)(a:Option ü)(lb b:Int):List Ñ:=
 [Ä s,g.N,Ã<|g.S d,Ã<|g.Y d,Ã<|g.G d,Ã a,Å É lb,Å É b]
structure gO(m b:Nat)(g:Gh)(c:Option ü)(s:ByteArray)(st:PS)(w:Í):Prop where
 S:m<=b
 a:jz m w
 r:fi b (T1 s g st.d c st.r st.I) 153 w
 M:s.size<=10
 I:jS s=st.C
 C:kP m g st.d w
 c:0<st.r->st.d.r=Î/\c=Â (g.Cn st.d st.M)
 N:st.d.r=Î\/st.C=[82]
def rT(m b:Nat)(st:PS)(w a:Í):Prop:=fc (λi=>m<=i) w a/\∃g i s,gO m b g i s st a
section
variable{w':Í}{g:Gh}{d:PD}{s:ByteArray}{st:PS}
theorem vT.vg(h:vT m g d w)(k:fc X w w')(p:∀i c T b,w.heap[i]?=Â (Û c T b)->X i->T=153\/T=148):vT m g d w':=by
 have l:∀{i:Nat} {c:Array Ñ} {T:č} {b:Nat×Nat},w.heap[i]?=Â (Û c T b)->(T≠153/\T≠148)->¬X i:=λ{i c T b} n f x=>(p i c T b n x).elim f.1 f.2;refine⟨h.S,h.N,h.M,h.r.I k<|l h.r A,ie h.I k λj r=> ?_,h.Y.C k λa c b _ _ q=>l q A,λe=> ?_,h.a⟩
 .let⟨o,s⟩:=lN h.I r;grind
 .let⟨n,f,o⟩:=h.C e;exact⟨n,f,o.I k<|l o A⟩
theorem kP.S(h:kP m g d w)(k:fc X w w')(b:∀i c T a,w.heap[i]?=Â (Û c T a)->X i->T=153)(f:∀i,i<w.heap.size->X i->∃c a,w.heap[i]?=Â (Û c 153 a)):kP m g d w':=by
 refine⟨ie h.C k λj l x=> ?_,h.I.C k λi n x=> ?_,λe=>(h.r e).vg k λi c T a q x=>È<|b i c T a q x,h.N⟩
 .let⟨o,q⟩:=lN h.C l;grind
 .let⟨c,a,q⟩:=f i n x;exact Ï ⟨c,_,a,q,È U⟩
def kP.M(h:kP m g d w)(a:fi b l 153 w)(k:fc (λi=>i=b) w w'):kP m g d w':= h.S k (λi c T e q x=>by subst x;unfold fi at a;rw[a]at q;cases q;rfl) λi _ x=>⟨l.toArray,(0,0),by rwa[x]⟩
def pC{i:Nat}{v:Value}{j:Nat}{vs:List Value}{T:TypeId}(h:fi j vs T w)(hT:ma T=false:=by decide):fc (λk=>k=j) w (w.setCell ⟨j,i,none⟩ v):=fc.I (X:=λk=>k=j) U v<|Ï<|h.G hT
def kP.aa7(h:kP m g d w):(g.C d).length=d.C.length:=by unfold Gh.C PD.C;split<;>simp[h.I.I]
def vT.G(h:vT m g d w):(g.I d).length=d.Y.length:=by unfold Gh.I PD.Y;split<;>simp[h.Y.r]
def T3(h:i<zQ.length)(v:Ñ):(oh zQ++[v])[i]?=Â (Å É<|zQ.getD i 0):=by rw[Ĥ (by simpa[oh]using h)];simp[oh,Ğ,h]
def aa8(l:List Int)(i:Nat)(z:Int)(v:Ñ)(h:i<l.length):(oh l++[v]).set i (Å É z)=oh (l.set i z)++[v]:=by rw[List.set_append_left _ _ (by simpa[oh]using h)];simp[oh,List.map_set]
def aa9(l:List Int)(v u:Ñ):(oh l++[v]).set l.length u=oh l++[u]:=by rw[Ĵ _ _ (by simp[oh])];simp[oh]
def Co(l:List Int)(v:Ñ):(oh l++[v])[l.length]?=Â v:=by rw[ğ (by simp[oh])];simp[oh]
theorem kP.Y(h:kP m g d w)(on:d.r=Î)(n:i<8)(z:Int):kP m g (d.uH i z) (w.setCell ⟨g.q,i,Á⟩<|Å É z):=by
 have l:=h.r on;have k:fc (λk=>k=g.q) w (w.setCell ⟨g.q,i,Á⟩<|Å É z):=pC l.r;have r:=l.N;refine⟨ie h.C k λj b x=>jy h.C l.r A (by rw[b,x]),h.I.C k λi _ x=>È Z,λ_=>⟨l.S,l.N,by simp[PD.uH,l.M],?_,ie l.I k λj b x=>jy l.I l.r A (by rw[b,x]),l.Y.C k λa c s _ _ q x=> ?_,λe=> ?_,l.a⟩,h.N⟩
 .have:=l.r.fZ i<|Å É z;unfold Cm at this;rw[aa8 _ _ _ _ (by rwa[l.M])]at this;exact this
 .have:=l.r;unfold fi at this;grind
 .let⟨o,p,f⟩:=l.C e;exact⟨o,p,f.I k λx=>(fi.S f l.r A) x⟩
theorem kP.jK(h:kP m g d w)(on:d.r=Î)(f:d.M=Î){p:PT}(n:p.c.length=5)(r:(EW d.N).set i v=EW p):kP m g {d with N:=p} (w.setCell ⟨g.t,i,Á⟩ v):=by have l:=h.r on;let⟨o,s,b⟩:=l.C f;have k:fc (λk=>k=g.t) w (w.setCell ⟨g.t,i,Á⟩ v):=pC b;refine⟨ie h.C k λj e x=>jy h.C b A (by rw[e,x]),h.I.C k λi _ x=>È Z,λ_=>⟨l.S,l.N,l.M,l.r.I k λx=>(fi.S l.r b A) x,ie l.I k λj e x=>jy l.I b A (by rw[e,x]),l.Y.C k λa c u _ q _ x=>by omega,λ_=>⟨o,n,?_⟩,l.a⟩,h.N⟩;have:=b.fZ i v;grind
def kP.G(h:kP m g d w)(on:d.r=Î)(a:d.M=Î)(c:i<5)(z:Int):kP m g (d.vR i z) (w.setCell ⟨g.t,i,Á⟩<|Å É z):=by let⟨e,b,f⟩:=(h.r on).C a;exact h.jK on a (by simp[b])<|aa8 _ _ _ _<|by rwa[b]
def kP.sX(h:kP m g d w)(on:d.r=Î)(a:d.M=Î)(p:ByteArray):kP m g (d.sX p) (w.setCell ⟨g.t,5,Á⟩<|Ä p):=by let⟨e,b,f⟩:=(h.r on).C a;refine h.jK on a b ?_;have:=aa9 d.N.c (Ä d.N.p)<|Ä p;rwa[b]at this
structure qf(m b:Nat)(g:Gh)(d:PD)(ab ao:Nat)(f:Int->PD)(x:Int)(w:Í):Prop where
 r:ab≠b
 N:m<=ab
 a:ab<w.heap.size
 C:w.cell? ⟨ab,ao,Á⟩=Â (Å É x)
 I:w.frozen? ⟨ab,ao,Á⟩=Ë
 nf:NF ab w
 Y:∀W,kP m g d W->∀z,kP m g (f z)<|W.setCell ⟨ab,ao,Á⟩<|Å É z
 M:∀z,g.S (f z)=g.S d/\g.Y (f z)=g.Y d/\g.G (f z)=g.G d/\(f z).r=d.r/\∀n,g.Cn (f z) n=g.Cn d n
theorem EY(h:kP m g d w)(f:fi b l 153 w)(on:d.r=Î)(e:i<8):qf m b g d g.q i (λz=>d.uH i z) (d.I.c.getD i 0) w:=by have a:=h.r on;exact⟨fi.S a.r f A,Ì a.S a.N,a.r.M,a.r.r i _ (T3 (by rwa[a.M]) _),a.r.C i,a.r.G,λW j z=>j.Y on e z,λz=>⟨U,U,U,U,λn=>rfl⟩⟩
theorem abb(h:kP m g d w)(k:fi b l 153 w)(on:d.r=Î)(f:d.M=Î)(j:i<5):qf m b g d g.t i (λz=>d.vR i z) (d.N.c.getD i 0) w:=by have a:=h.r on;let⟨o,p,e⟩:=a.C f;exact⟨fi.S e k A,Ì a.S o,e.M,e.r i _ (T3 (by rwa[p]) _),e.C i,e.G,λW q z=>q.G on f j z,λz=>⟨U,U,U,U,λn=>rfl⟩⟩
theorem EZ(h:kP m g d w)(a:fi b l 153 w)(on:d.r=Î)(c:i<4):qf m b g d (g.M d) i (λz=>d.jK i z) (d.xU i) w:=by unfold PD.jK PD.xU Gh.M;split;all_goals grind [abb,EY]
theorem gO.G{f:Int->PD}(h:gO m b g O s st w)(n:qf m b g st.d i j f c w)(z:Int):gO m b g O s {st with d:=f z} (w.setCell ⟨i,j,Á⟩<|Å É z):=by
 let⟨e,l,o,a,p⟩:=n.M z;have k:fc (λk=>k=i) w (w.setCell ⟨i,j,Á⟩<|Å É z):=fc.I (X:=λk=>k=i) U _<|È U;refine⟨h.S,h.a.r _ trivial,?_,h.M,h.I,n.Y w h.C z,λq=> ?_,?_⟩
 .have:=h.r.I k λc=>n.r c.symm;unfold T1 at this|-;grind
 .let⟨r,t⟩:=h.c q;grind
 .simp only[a];exact h.N
def gO.Mv(h:gO m b g O s st w)(a:ByteArray)(r:List Int)(c:a.size<=10)(e:jS a=r)(f:st.d.r=Î\/r=[82]):gO m b g O a {st with C:=r} (w.setCell ⟨b,0,Á⟩<|Ä a):= ⟨h.S,h.a.r _ trivial,h.r.fZ 0 _,c,e,h.C.M h.r<|pC h.r,h.c,f⟩
def gO.Y(h:gO m b g O s st w)(z:Int)(a:0<z->st.d.r=Î/\O=Â (g.Cn st.d st.M)):gO m b g O s {st with r:=z} (w.setCell ⟨b,6,Á⟩<|Å É z):= ⟨h.S,h.a.r _ trivial,h.r.fZ 6 _,h.M,h.I,h.C.M h.r<|pC h.r,a,h.N⟩
def gO.abd(h:gO m b g O s st w)(z:Int):gO m b g O s {st with I:=z} (w.setCell ⟨b,7,Á⟩<|Å É z):= ⟨h.S,h.a.r _ trivial,h.r.fZ 7 _,h.M,h.I,h.C.M h.r<|pC h.r,h.c,h.N⟩
def gO.abe(h:gO m b g O s st w)(a:ü)(n:Int)(d:st.r=0)(c:m<=a.block/\a.block<w.heap.size):gO m b g (Â a) s {st with M:=n} (w.setCell ⟨b,5,Á⟩<|Ã<|Â a):= ⟨h.S,h.a.r _ c,h.r.fZ 5 _,h.M,h.I,h.C.M h.r<|pC h.r,λq=>by have:0<st.r:=q;omega,h.N⟩
def gO.fS(h:gO m b g O s st w):gO m b g O s st w.drew:=by have k:=fc.fS fh w;exact⟨h.S,h.a,h.r.I k id,h.M,h.I,h.C.S k (λ_ _ _ _ _ x=>x.elim) λ_ _ x=>x.elim,h.c,h.N⟩
end
section
variable{g:Gh}{st:PS}{f:Int->PD}
def qf.S{d:PD}(a:qf m b g d n j f h w)(i:Nat)(v:Ñ):qf m b g d n j f h (w.setCell ⟨b,i,Á⟩ v):= ⟨a.r,a.N,by simpa using a.a,by rw[Hr<|Ne.symm a.r];exact a.C,by rw[World.frozen?_setCell];exact a.I,λc T e q=>a.nf c T e (by rwa[ġ _ _ _ _ (by simpa using a.r)]at q),a.Y,a.M⟩
def gO.T4(h:gO m b g O B st w)(n:Int)(a:st.r=0):gO m b g O B {st with M:=n} w:= ⟨h.S,h.a,h.r,h.M,h.I,h.C,λq=>by have:0<st.r:=q;omega,h.N⟩
def mG(h:gO m b g O B st w)(i:Nat)(v:Ñ):fc (λi=>m<=i) w (w.setCell ⟨b,i,Á⟩ v):=fc.I (X:=λi=>m<=i) (p:=⟨b,i,Á⟩) h.S v<|Ï h.r.G
def E1(a:qf m b g st.d n j f h w)(z:Int):fc (λi=>m<=i) w (w.setCell ⟨n,j,Á⟩<|Å É z):=fc.I (X:=λi=>m<=i) (p:=⟨n,j,Á⟩) a.N _<|È U
def vU(c a:Int):Int:=if c=104\/c=48 then 0 else a-1
def kY(c:Int):Int:=if c=104 then-1 else(c-48)%256
def T5{st:PS}(h:st.r=0)(n:Int)(d:PD):({st with r:=0,M:=n,d:=d}:PS)={st with M:=n,d:=d}:=by rw[<-h]
def Mw(a:gO m b g O B st w)(k:qf m b g st.d n j f h w)(l:st.r=0)(p:st.d.r=Î)(c o i:Int)(C:0<=o)(D:o<=6)(q:∀z,g.Cn (f z) i=⟨n,j,Á⟩): Ò À 147 #[Ã<|Â ⟨b,0,Á⟩,Ã<|Â ⟨n,j,Á⟩,Å ū c,Å É o] w λe u=>
  e=Æ (ë #[])/\rT m b {st with r:=vU c o,M:=i,d:=f (kY c)} w u:=by
 have E:=a.r.r 5 _ U;have F:=a.r.r 6 _ U;have G:=a.r.C 5;have I:=a.r.C 6;have J:=k.C;have K:=k.I;have L:=k.r;have M:¬b=n:=λe=>k.r e.symm;have t:m<=n/\n<w.heap.size:=⟨k.N,k.a⟩;have H:=ff<|Ê a<|Ê k<|Ê q<|Ê l p;by_cases s:c=104
 .subst s;go_enter Ŗ,ŋ;go_wp2;first|go_end0|refine ÿ (results_none U _ _ _) U ?_
  let⟨a,k,q,l,p⟩:=H.out;refine⟨U,E1 k _,g,O,B,?_⟩;have:=(a.G k<|-1).T4 i l;rw[show vU 104 o=0 from if_pos<|È U,T5 l];exact this
 .have N:(c==104)=Ë:=by rwa[beq_eq_false_iff_ne]
  have v:kY c=(c-48)%256:=if_neg s;by_cases y:c=48
  .subst y;go_enter Ŗ,ŋ;go_wp2;go_end0;let⟨a,k,q,l,p⟩:=H.out;have x:=a.abe ⟨n,j,Á⟩ i l t;have r:=k.S 5<|Ã<|Â ⟨n,j,Á⟩;refine⟨U,(mG a 5 _).fg<|E1 r _,g,Â ⟨n,j,Á⟩,B,?_⟩;have:=x.G r 0;rw[show vU 48 o=0 from if_pos<|Ï U,T5 l,v];exact this
  .go_enter Ŗ,ŋ;go_wp2;go_end0;let⟨a,k,q,l,p⟩:=H.out;have r:=k.S 5<|Ã<|Â ⟨n,j,Á⟩;have x:=(a.abe ⟨n,j,Á⟩ i l t).G r<|(c-48)%256;refine⟨U,((mG a 5 _).fg<|E1 r _).fg<|mG x 6 _,g,Â ⟨n,j,Á⟩,B,?_⟩;rw[show vU c o=o-1 from if_neg Z,v];exact(x.Y (o-1) λ_=>⟨by simp only;rwa[(k.M _).2.2.2.1],by simp only;rw[q]⟩)
theorem Mx{b a:Int}(h:qe a c=Î)(d:(a=86\/a=87)/\b=2\/(a=110\/a=107)/\b=6):vU c b=rO a c:=by unfold vU rO;unfold qe at h;grind [EU]
theorem My{a:Int}(h:¬(a=86\/a=87)/\¬(a=110\/a=107)):rO a c=0:=by unfold rO;grind
theorem Mz{a:Int}(h:a=86\/a=87\/a=110\/a=107):mT a c=kY c:=by unfold mT kY;grind
def T7(a:gO m b g O B st w)(k:qf m b g st.d n j f h w)(l:st.r=0){i z:Int}(e:c=0)(o:u=(w.setCell ⟨n,j,Á⟩<|Å É z).drew):rT m b {st with r:=c,M:=i,d:=f z} w u:=by subst o;subst e;rw[T5 l];exact⟨(E1 k z).fg<|fc.fS _ _,g,O,B,((a.G k z).T4 i l).fS⟩
end
section
variable{g:Gh}{st:PS}
def Ik{d:PD}(a:d.M=Î):g.Y d=Â ⟨g.t,0,Á⟩:=if_pos a
def ap7:xV st 0=Á:=rfl
def ap8(h:gO m b g O B st w)(r:st.r=0)(on:st.d.r=Î)(f:st.d.M=Î)(k:Int): Ò À 101 #[Ã<|Â ⟨b,0,Á⟩,Å É k] w λe u=>match xV st k with
  |none=>e=Æ (õ Ë)/\u=w
  |some a=>e=Æ (õ Î)/\rT m b a w u:=by
 have s:=h.r.r 0 _ U;have o:=h.r.r 3 _ U;have v:=h.r.r 7 _ U;rw[Ik f]at o;have x:=h.r.C 0;have y:=h.r.C 7;have a:=abb h.C h.r on f (i:=4) A;have z:=a.C;have C:=a.I;have D:=a.r;have E:¬b=g.t:=λe=>a.r e.symm;have H:=ff<|Ê h a;by_cases c:k=0
 .subst c;rw[ap7];go_enter Κ,ż;go_wp2;go_ret;exact⟨U,U⟩
 .have F:(k==0)=Ë:=by rwa[beq_eq_false_iff_ne]
  have e:xV st k=Â {st with C:=pz k,I:=0,d:=st.d.vR 4 k}:=if_neg c;rw[e];go_enter Κ,ż;go_wp2_with (go_at_call 148;refine(ap2 _ _).mono ?_;rintro e u ⟨⟨j,rfl,p,q⟩,l⟩;subst u);go_ret;let⟨h,a⟩:=H.out;have l:=h.G a k;have n:=l.abd 0;exact⟨U,((E1 a k).fg<|mG l 7 _).fg<|mG n 0 _,g,O,j,n.Mv j _ p q<|È on⟩
end
def ap9:(À.info? 149).map (λi=>(i.zero,i.size,i.bytes))=Â (Â<|Ã Á,1,8):=fu
def aqa:(À.info? 148).map (λi=>(i.zero,i.size,i.bytes))=Â (Â<|Ã Á,1,8):=fu
section
variable{g:Gh}{nm:Option ü}{s:ByteArray}{st:PS}{d:PD}{T:Nat}
structure uI(m:Nat)(g:Gh)(d:PD)(T:Nat)(w:Í):Prop where
 C:w.ownsRow m 148 1 g.N (g.C d).length (nA<|g.C d)
 I:pB g.B g.a d.S w
 N:oK g.B T (g.I d) d.Y w
 tb:fi T (EW PD.ER) 200 w
def Il(x:i=j)(h:fi j l t w):w.heap[i]?=Â (Û l.toArray t (0,0)):=by rwa[x]
theorem uI.r(h:uI m g d T w)(k:fc X w u)(f:∀i,i<w.heap.size->X i->∃c t b,w.heap[i]?=Â (Û c t b)/\(t=153\/(t=161\/t=149)/\g.B<=i)):uI m g d T u:=by
 have e:∀{i:Nat} {c:Array Ñ} {t:č} {b:Nat×Nat},w.heap[i]?=Â (Û c t b)->(t≠153/\t≠161/\t≠149)->¬X i:=λ{i c t b} q1 q2 x=>by grind
 refine⟨ie h.C k λj l=> ?_,h.I.C k λi n x=> ?_,h.N.C k λa c b _ _ q=>e q A,h.tb.I k<|e h.tb A⟩
 .let⟨o,p⟩:=lN h.C l;grind
 .let⟨r,s,qk,o,p⟩:=f i n x;rcases p with rfl|⟨_,z⟩
  .exact Ï ⟨_,_,_,o,È U⟩
  .exact È z
def uI.fM(h:uI m g d T w)(k:fc fh w u):uI m g d T u:=h.r k λ_ _ x=>x.elim
def uI.M(h:uI m g d T w)(a:fi b l 153 w):uI m g d T (w.setCell ⟨b,i,Á⟩ v):= h.r (pC a) λi _ x=>⟨_,_,_,Il x a,È U⟩
theorem vT.abf(l:vT m g d w):oK g.B w.heap.size (g.I d) d.Y w:=by
 unfold Gh.I PD.Y;split
 .rename_i e;let⟨b,c,a⟩:=l.C e;have:=a.M;exact(l.Y.M (æ _) Z).TX b a.M c a
 .rename_i e;let⟨b,c⟩:=l.a (by simpa using e);grind [oK.N]
theorem jz.C(n:jz m w)(g:fi b l e w)(C:m<=b)(p:e≠304/\e≠305)(d:Array Ñ)(t:č)(u:0<d.size)(r:t≠304/\t≠305)(h:∀v∈d.toList,mU m (w.heap.size+1) v):jz m ((w.setCell ⟨b,i,Á⟩<|Ã<|Â ⟨w.heap.size,0,Á⟩).alloc<|Û d t):=by
 have s:(w.setCell ⟨b,i,Á⟩<|Ã<|Â ⟨w.heap.size,0,Á⟩).heap.size=w.heap.size:=fp
 have D:=g.M;intro j o k c;have x:((w.setCell ⟨b,i,Á⟩<|Ã<|Â ⟨w.heap.size,0,Á⟩).alloc<|Û d t).heap.size=w.heap.size+1:=fp
 rw[x];by_cases a:j<w.heap.size
 .rw[Š _ _ _ (by rwa[s])]at c;by_cases f:j=b
  .subst f;have:=g.fZ i<|Ã<|Â ⟨w.heap.size,0,Á⟩;unfold fi at this;rw[this]at c;cases c;let⟨E,F,G,y,H,z,I,J,B⟩:=n j _ k g;cases y;refine⟨_,_,_,U,fp,by simpa using z,p.1,p.2,λv h=> ?_⟩;rcases Ħ (by simpa using h)with q|q
   .exact(B v<|by simpa using q).r Z
   .rw[q];exact⟨Ì k<|Nat.le_of_lt a,Nat.lt_succ_self _⟩
  .rw[ġ _ _ _ _ (by simpa using f)]at c;exact(n j o k c).r Z
 .by_cases f:j=w.heap.size
  .have:=Ŵ (w.setCell ⟨b,i,Á⟩<|Ã<|Â ⟨w.heap.size,0,Á⟩)<|Û d t;rw[s]at this;rw[f,this]at c;cases c;exact⟨_,_,_,U,Ø _,u,r.1,r.2,h⟩
  .grind
def MA(b:Nat)(w:Í):Í:=(w.setCell ⟨b,3,Á⟩<|Ã<|Â ⟨w.heap.size,0,Á⟩).alloc<|Û #[Å É 0,Å É 0,Å É 0,Å É 0,Å É 0,Ä ⟨#[]⟩] 200
def rdM(s:ByteArray)(g:Gh)(d:PD)(a b nm:Option ü)(lb c:Int):List Ñ:=
 [Ä s,g.N,Ã<|g.S d,Ã a,Ã b,Ã nm,Å É lb,Å É c]
structure E2(m b:Nat)(g:Gh)(d:PD)(T:Nat)(s:ByteArray)(tm nm:Option ü)(lb T8:Int)(w0 w:Í):Prop where
 S:fc (λi=>m<=i) w0 w
 N:jz m w
 r:fi b (rdM s g d (Â ⟨T,0,Á⟩) tm nm lb T8) 153 w
 M:uI m g d T w
 I:fi g.q (Cm d.I.c g.r) 161 w
 C:w.ownsRow g.B 149 1 g.r (g.I d).length (nA<|g.I d)
def E2.fM{lb:Int}(h:E2 m b g d T s O nm lb c W w)(k:fc fh w u)(a:jz m u):E2 m b g d T s O nm lb c W u:= ⟨h.S.C k λ_ _ x=>x.elim,a,h.r.I k id,h.M.fM k,h.I.I k id,ie h.C k λ_ _=>id⟩
theorem gO.aqb(h:gO m b g nm s st w)(on:st.d.r=Î):E2 m b g st.d w.heap.size s (g.G st.d) nm st.r st.I w (MA b w):=by
 have l:=h.C.r on;have p:(w.setCell ⟨b,3,Á⟩<|Ã<|Â ⟨w.heap.size,0,Á⟩).heap.size=w.heap.size:=fp
 have n:fc fh (w.setCell ⟨b,3,Á⟩<|Ã<|Â ⟨w.heap.size,0,Á⟩) (MA b w):=fc.gI _ _ _ _;have r:fc (λk=>k=b) w (w.setCell ⟨b,3,Á⟩<|Ã<|Â ⟨w.heap.size,0,Á⟩):=pC h.r;have e:=r.C n λ_ _ x=>x.elim;refine⟨e.S λk _ x=>by rw[x];exact h.S,?_,(h.r.fZ 3 _).I n id,⟨ie h.C.C e λj f x=>jy h.C.C h.r A (by rw[f,x]),h.C.I.C e λi _ x=>Ï ⟨_,_,_,Il x h.r,È U⟩,l.abf.C e λa c t _ _ q x=> ?_,?_⟩,l.r.I e λx=>fi.S l.r h.r A x,ie l.I e λj f x=>jy l.I h.r A<|by rw[f,x]⟩
 .exact h.a.C h.r h.S A _ _ fp A λv o=>by simp at o;rcases o with rfl|rfl<;>trivial
 .have o:=h.r;unfold fi at o;grind
 .have:=fi.N (w.setCell ⟨b,3,Á⟩<|Ã<|Â ⟨w.heap.size,0,Á⟩) [Å É 0,Å É 0,Å É 0,Å É 0,Å É 0,Ä ⟨#[]⟩] 200;rwa[p]at this
def T9(g:Gh)(d:PD)(T:Nat)(v:Ñ):Gh:={g with t:=T,tb:=g.I d,r:=v}
theorem E2.jG(h:E2 m b g st.d T s O nm st.r st.I w u)(C:m<=b)(on:st.d.r=Î)(a:m<=g.B/\g.B<=g.q/\st.d.I.c.length=8)(D:g.B<=T)(hd:st.r=0) (l:pV u g.B 149 1 g.r (g.I st.d).length (nA<|g.I st.d) 1 [Ã<|Â ⟨T,0,Á⟩] v W) (K:jz m W) (L:mU m W.heap.size v) (n:jX=((W.setCell ⟨g.q,8,Á⟩ v).setCell ⟨b,4,Á⟩<|Ã<|Â ⟨T,0,Á⟩).setCell ⟨b,0,Á⟩ (Ä ⟨#[84]⟩)): fc (λi=>m<=i) w jX/\gO m b (T9 g st.d T v) nm ⟨#[84]⟩ {st with C:=[84],d:=st.d.rP} jX:=by
 have E:∀{j:Nat} {M:List Ñ} {t:č},fi j M t u->149≠t->¬g.r.ownBlock=Â j:=λN f=>jy h.C N f;have F:=h.r.I l.r<|E h.r A;have f:=h.I.I l.r<|E h.I A;have P:=h.M.r l.r λi _ x=>by let⟨k,z⟩:=lN h.C x;exact⟨_,_,_,z,Ï ⟨Ï U,(h.C.lt i x).1⟩⟩
 have o:fc (λk=>k=g.q) W (W.setCell ⟨g.q,8,Á⟩ v):=pC f;have G:fi g.q (Cm st.d.I.c v) 161 (W.setCell ⟨g.q,8,Á⟩ v):=by have:=f.fZ 8 v;have e:=aa9 st.d.I.c g.r v;rw[a.2.2]at e;unfold Cm at this|-;grind
 have z:=F.I o λx=>fi.S F f A x;have H:=P.r o λi _ x=>⟨_,_,_,Il x f,Ï ⟨È U,by rw[x];exact a.2.1⟩⟩;have I:=ie l.fq o λj p x=>jy l.fq f A (by rw[p,x]);have Q:jz m (W.setCell ⟨g.q,8,Á⟩ v):=K.r _ L;have S:fc (λk=>k=b) (W.setCell ⟨g.q,8,Á⟩ v) ((W.setCell ⟨g.q,8,Á⟩ v).setCell ⟨b,4,Á⟩<|Ã<|Â ⟨T,0,Á⟩):=pC z;have r:=z.fZ 4<|Ã<|Â ⟨T,0,Á⟩;have V:fc (λk=>k=b) ((W.setCell ⟨g.q,8,Á⟩ v).setCell ⟨b,4,Á⟩<|Ã<|Â ⟨T,0,Á⟩) jX:=by rw[n];exact pC r
 have J:=r.fZ 0<|Ä ⟨#[84]⟩;rw[<-n]at J;have k:uI m g st.d T jX:=by rw[n];exact(H.M z).M r
 have y:=S.fg V;have X:=G.I y λx=>fi.S G z A x;have Y:=ie I y λj p x=>jy I z A (by rw[p,x]);have hTl:=H.tb.M;have c5:jz m jX:=by rw[n];refine(Q.r _ ?_).r _ trivial;exact⟨Ì a.1 D,hTl⟩
 have e1:(g.I st.d++[T]).length=(g.I st.d).length+1:=fp
 have e2:nA (g.I st.d++[T])=nA (g.I st.d)++[Ã<|Â ⟨T,0,Á⟩]:=by simp[nA]
 refine⟨((h.S.C l.r λi _ x=> ?_).C o λi _ x=> ?_).C y λi _ x=> ?_,C,c5,?_,A,U,⟨k.C,k.I,λ_=>⟨a.1,a.2.1,a.2.2,X,?_,k.N,λ_=>⟨D,U,k.tb⟩,λe=>by cases e⟩,λe=> ?_⟩,λe=> ?_,È on⟩
 .have:=(h.C.lt i x).1;have:=a.1;omega
 .grind
 .rwa[x]
 .have e:(T9 g st.d T v).S st.d.rP=g.S st.d:=U;unfold T1;rw[e];have e4:(T9 g st.d T v).G st.d.rP=Â ⟨T,0,Á⟩:=if_pos on;rwa[e4]
 .show jX.ownsRow g.B 149 1 v (g.I st.d++[T]).length (nA<|g.I st.d++[T]);rwa[e1,e2]
 .have:st.d.r=Ë:=e;grind
 .grind
def abg(h:gO m b g nm s st w)(C:st.r=0)(o:st.d.r=Î)(D:st.d.Y.length<=100000): Ò À 99 #[Ã<|Â ⟨b,0,Á⟩] w λe u=>e=Æ (ë #[])/\rT m b {st with C:=[84],d:=st.d.rP} w u:=by
 have Y:=h.r.r 3 _ U;have f3:=h.r.C 3;have gQ:=h.r.M;have l:=h.C.r o;have y:=h.aqb o;have E:=λv=>by have:=Co st.d.I.c v;rwa[l.M]at this
 have F:m<=g.B/\g.B<=g.q/\st.d.I.c.length=8:=⟨l.S,l.N,l.M⟩;have G:g.B<=w.heap.size:=by have:=l.r.M;have:=l.N;omega
 have I:(g.I st.d).length<=100000:=by rwa[l.G]
 have J:=h.S;have H:=ff<|Ê F<|Ê G<|Ê I<|Ê J<|Ê C o;have j:=ff<|E g.r;have x:g.S st.d=Â ⟨g.q,0,Á⟩:=if_pos o;go_enter Tryz.func99,Tryz.ntmps99;go_wp2_with fail;change ß À _ _ _ (MA b w);have k:=y.fM (fc.fS _ _) y.N.fS;generalize hT:w.heap.size=T at*;generalize L:(MA b w).drew=w1 at*;let⟨i0,M,N,O,P⟩:=ů ap9;have p:=ff<|Ê M<|Ê N<|Ê O P;refine mf (λu=>u.cell? ⟨b,2,Á⟩=Â (Ã<|g.S st.d)/\u.cell? ⟨b,3,Á⟩=Â (Ã<|Â ⟨T,0,Á⟩)/\u.cell? ⟨g.q,8,Á⟩=Â g.r) [19] fu ?_;rw[L];rw[x];have Q:Hid (w1.cell? ⟨b,2,Á⟩=Â (Ã<|Â ⟨g.q,0,Á⟩)/\w1.cell? ⟨b,3,Á⟩=Â (Ã<|Â ⟨T,0,Á⟩)/\w1.cell? ⟨g.q,8,Á⟩=Â g.r):=ff ⟨by rw[<-x];exact k.r.r 2 _ U,k.r.r 3 _ U,k.I.r 8 _ j.out⟩;have r:=ff x;iterate 15 apply tk Q.out
 have S:=k.M.tb.M;have a:=k.fM (fc.gI fh w1 #[Ã<|Â ⟨T,0,Á⟩] 149) (k.N.gI _ _ fp A λv f=>by simp at f;subst f;exact⟨Ì H.out.1.1 H.out.2.1,S⟩);apply gB 15;intro K i;go_simp;refine i.out _ _ (λ_=>⟨by rw[<-r.out];exact a.r.r 2 _ U,a.r.r 3 _ U,a.I.r 8 _ j.out⟩) ?_;apply gB 16;intro K i;refine aa6 fQ _ _ 159 fQ Tryz.underlying159 p.out.1 p.out.2.1 p.out.2.2.1 p.out.2.2.2 fQ a.C ⟨w1.heap.size,0,Á⟩ fQ (Λ w1 _ _) U (by have:=H.out.2.2.1;unfold ī;omega) (by have:=H.out.2.2.1;omega) (by have:=H.out.2.1;have:=a.M.tb.M;omega) A H.out.1.1 a.N ⟨Ì H.out.1.1 H.out.2.1,a.M.tb.M⟩ A ?_;intro v9 w9 t V W;obtain⟨a9,n9c,rfl⟩:=jf t.fq;have f:=a.r.I t.r<|jy a.C a.r A;have n:=a.I.I t.r<|jy a.C a.I A;refine i.out _ _ (λ_=>⟨by rw[<-r.out];exact f.r 2 _ U,f.r 3 _ U,n.r 8 _ j.out⟩) ?_;apply gB 17;intro K i;go_simp;refine i.out _ _ (λ_=>⟨by rw[<-r.out];exact f.r 2 _ U,f.r 3 _ U,n.r 8 _ j.out⟩) ?_;apply gB 18;intro K i;go_simp;refine i.out _ _ (λ_=>⟨by rw[<-r.out];exact f.r 2 _ U,f.r 3 _ U,n.r 8 _ j.out⟩) ?_;have cq8:=n.r 8 _ j.out;have fq8:=n.C 8;have cb4:=f.r 4 _ U;have fb4:=f.C 4;have cb0:=f.r 0 _ U;have fb0:=f.C 0;have cb3:=f.r 3 _ U;have X:=fi.S n f A;have hbq:¬b=g.q:=λe=>X e.symm;apply gB 19;intro K i;go_simp;apply i.out _ _ λz=>absurd A z;refine lP fu ?_ _;have z:=ff<|a.jG H.out.2.2.2.1 o H.out.1 H.out.2.1 H.out.2.2.2.2.1 t V W U;go_wp2_with fail;go_end0;exact⟨U,z.out.1,_,_,_,z.out.2⟩
end
section
variable{g:Gh}{nm:Option ü}{s:ByteArray}{f:PS}{d:PD}{Q:Nat}{k:Int}
def aqc(h:w.ownsRow i e 1 v n l)(c:j<=i):w.ownsRow j e 1 v n l:= ⟨h.1,h.2.imp id λ⟨g,d,f,a,b,r⟩=>⟨g,d,f,a,Ì c b,r⟩⟩
def vT.gf(l:vT m g d w):vS w.heap.size g.q ⟨d.I.c,d.Y⟩ w:= ⟨l.r.M,l.M,g.r,g.I d,l.r,aqc l.I<|Ø _,λj a=>(l.I.lt j a).2,l.abf.M (Ø _)<|æ _⟩
theorem kP.abh(h:kP m g d w)(a:d.r=Ë->d.S=[]):pB w.heap.size (g.C d) d.C w:=by
 unfold Gh.C PD.C;split
 .rename_i e;have l:=h.r e;have b:=l.r.M;have c:=l.N;exact h.I.TX Z l.gf
 .rename_i e;have f:=a (by simpa using e);have:=h.I.I;grind [Ý,pB.N]
def MB(b:Nat)(k:Int)(w:Í):Í:=(w.setCell ⟨b,2,Á⟩<|Ã<|Â ⟨w.heap.size,0,Á⟩).alloc<|Û #[Å É 0,Å É 0,Å É 0,Å É 0,Å É k,Å É 0,Å É 0,Å É 0,Ç Á 0 0] 161
def rdQ(s:ByteArray)(g:Gh)(d:PD)(Q:Nat)(nm:Option ü)(lb a:Int):List Ñ:=
 [Ä s,g.N,Ã<|Â ⟨Q,0,Á⟩,Ã<|g.Y d,Ã<|g.G d,Ã nm,Å É lb,Å É a]
structure E3(m b:Nat)(g:Gh)(d:PD)(Q:Nat)(k:Int)(s:ByteArray)(nm:Option ü)(lb T8:Int)(w0 w:Í):Prop where
 S:fc (λi=>m<=i) w0 w
 M:jz m w
 r:fi b (rdQ s g d Q nm lb T8) 153 w
 I:fi Q (Cm (PD.aa4 k).c<|Ç Á 0 0) 161 w
 N:pB Q (g.C d) d.C w
 C:w.ownsRow m 148 1 g.N (g.C d).length (nA<|g.C d)
def E3.fM{lb:Int}(h:E3 m b g d Q k s nm lb c W w)(a:fc fh w u)(e:jz m u):E3 m b g d Q k s nm lb c W u:= ⟨h.S.C a λ_ _ x=>x.elim,e,h.r.I a id,h.I.I a id,h.N.C a λ_ _ x=>x.elim,ie h.C a λ_ _=>id⟩
def gO.aqd(h:gO m b g nm s f w)(k:Int)(l:f.d.r=Ë->f.d.S=[]):E3 m b g f.d w.heap.size k s nm f.r f.I w (MB b k w):=by
 have n:(w.setCell ⟨b,2,Á⟩<|Ã<|Â ⟨w.heap.size,0,Á⟩).heap.size=w.heap.size:=fp
 have c:fc fh (w.setCell ⟨b,2,Á⟩<|Ã<|Â ⟨w.heap.size,0,Á⟩) (MB b k w):=fc.gI _ _ _ _;have o:fc (λk=>k=b) w (w.setCell ⟨b,2,Á⟩<|Ã<|Â ⟨w.heap.size,0,Á⟩):=pC h.r;have a:=o.C c λ_ _ x=>x.elim;refine⟨a.S λk _ x=>by rw[x];exact h.S,?_,(h.r.fZ 2 _).I c id,?_,(h.C.abh l).C a λi _ x=>Ï ⟨_,_,_,Il x h.r,È U⟩,ie h.C.C a λj p x=>jy h.C.C h.r A<|by rw[p,x]⟩
 .exact h.a.C h.r h.S A _ _ fp A λv e=>by simp at e;rcases e with rfl|rfl|rfl|rfl<;>trivial
 .have:=fi.N (w.setCell ⟨b,2,Á⟩<|Ã<|Â ⟨w.heap.size,0,Á⟩) [Å É 0,Å É 0,Å É 0,Å É 0,Å É k,Å É 0,Å É 0,Å É 0,Ç Á 0 0] 161;rwa[n]at this
def aqe(g:Gh)(d:PD)(Q:Nat)(v:Ñ):Gh:={a:=g.C d,q:=Q,t:=Q,B:=Q,tb:=[],N:=v,r:=Ç Á 0 0,b:=g.Y d}
theorem E3.jG{sb:ByteArray}(h:E3 m b g f.d Q k s nm f.r f.I w u)(o:m<=b)(p:m<=Q)(S:f.r=0)(y:sb.size<=10)(B:jS sb=vO k) (a:pV u m 148 1 g.N (g.C f.d).length (nA<|g.C f.d) 1 [Ã<|Â ⟨Q,0,Á⟩] v W) (C:jz m W) (D:mU m W.heap.size v) (l:jX=((W.setCell ⟨b,1,Á⟩ v).setCell ⟨b,4,Á⟩<|Ã<|Â ⟨Q,0,Á⟩).setCell ⟨b,0,Á⟩ (Ä sb)): fc (λi=>m<=i) w jX/\gO m b (aqe g f.d Q v) nm sb {f with C:=vO k,d:=f.d.EV k} jX:=by
 have c:=h.r.I a.r<|jy h.C h.r A;have n:=h.I.I a.r<|jy h.C h.I A;have E:=h.N.C a.r λi _ x=>by let⟨e,z⟩:=lN h.C x;exact Ï ⟨_,_,_,z,Ï U⟩
 have F:fc (λk=>k=b) W (W.setCell ⟨b,1,Á⟩ v):=pC c;have q:=c.fZ 1 v;have G:fc (λk=>k=b) (W.setCell ⟨b,1,Á⟩ v) ((W.setCell ⟨b,1,Á⟩ v).setCell ⟨b,4,Á⟩<|Ã<|Â ⟨Q,0,Á⟩):=pC q;have r:=q.fZ 4<|Ã<|Â ⟨Q,0,Á⟩;have H:fc (λk=>k=b) ((W.setCell ⟨b,1,Á⟩ v).setCell ⟨b,4,Á⟩<|Ã<|Â ⟨Q,0,Á⟩) jX:=by rw[l];exact pC r
 have t:=r.fZ 0<|Ä sb;rw[<-l]at t;have z:=(F.fg G).fg H;have I:=n.I z λx=>fi.S n c A x;have J:=E.C z λi _ x=>Ï ⟨_,_,_,Il x c,È U⟩;have K:=ie a.fq z λj L x=>jy a.fq c A (by rw[L,x]);have M:Q<(W.setCell ⟨b,1,Á⟩ v).heap.size:=by simpa using n.M
 have N:jz m jX:=by rw[l];refine((C.r _ D).r _ ?_).r _ trivial;exact⟨p,M⟩
 have O:(g.C f.d++[Q]).length=(g.C f.d).length+1:=fp
 have P:nA (g.C f.d++[Q])=nA (g.C f.d)++[Ã<|Â ⟨Q,0,Á⟩]:=by simp[nA]
 refine⟨(h.S.C a.r λi _ x=> ?_).C z λi _ x=> ?_,o,N,t,y,B,⟨?_,J,λ_=>⟨p,æ _,U,I,?_,oK.N _ _ _,(λe=>by cases e),λ_=>⟨rfl,rfl⟩⟩,(λe=>by cases e)⟩,λe=> ?_,È rfl⟩
 .exact(h.C.lt i x).1
 .rwa[x]
 .show jX.ownsRow m 148 1 v (g.C f.d++[Q]).length (nA<|g.C f.d++[Q]);rwa[O,P]
 .exact⟨U,È ⟨U,U⟩⟩
 .grind
def aqf:z8 f 0=Á:=rfl
def aqg(h:gO m b g nm s f w)(r:f.r=0)(t:f.d.r=Ë->f.d.S=[])(x:f.d.C.length<=100000)(k:Int): Ò À 96 #[Ã<|Â ⟨b,0,Á⟩,Å É k] w λe u=>match z8 f k with
  |none=>e=Æ (õ Ë)/\u=w
  |some c=>e=Æ (õ Î)/\rT m b c w u:=by
 by_cases l:k=0
 .subst l;rw[aqf];go_enter Ω,Μ;go_wp2;go_ret;exact⟨U,U⟩
 have Q:(k==0)=Ë:=by rwa[beq_eq_false_iff_ne]
 have e:z8 f k=Â {f with C:=vO k,d:=f.d.EV k}:=if_neg l;rw[e];have S:=h.r.r 2 _ U;have V:=h.r.C 2;have W:=h.r.M;have p:=h.aqd k t;have y:(g.C f.d).length<=100000:=by rwa[h.C.aa7]
 have z:=h.S;have B:m<=w.heap.size:=Z
 have H:=ff<|Ê z<|Ê B<|Ê y r;go_enter Ω,Μ;go_wp2_with fail;change ß À _ _ _ (MB b k w);have i:=p.fM (fc.fS _ _) p.M.fS;generalize X:w.heap.size=T at*;generalize C:(MB b k w).drew=w1 at*;let⟨Y,D,E,F,G⟩:=ů aqa;have j:=ff<|Ê D<|Ê E<|Ê F G;refine mf (λu=>u.cell? ⟨b,1,Á⟩=Â g.N/\u.cell? ⟨b,2,Á⟩=Â (Ã<|Â ⟨T,0,Á⟩)) [13] fu ?_;rw[C];have I:Hid (w1.cell? ⟨b,1,Á⟩=Â g.N/\w1.cell? ⟨b,2,Á⟩=Â (Ã<|Â ⟨T,0,Á⟩)):=ff ⟨i.r.r 1 _ U,i.r.r 2 _ U⟩;iterate 9 apply tk I.out
 have J:=i.I.M;have a:=i.fM (fc.gI fh w1 #[Ã<|Â ⟨T,0,Á⟩] 148) (i.M.gI _ _ fp A λv c=>by simp at c;subst c;exact⟨H.out.2.1,J⟩);apply gB 9;intro K c;go_simp;apply c.out _ _ λ_=>⟨a.r.r 1 _ U,a.r.r 2 _ U⟩;apply gB 10;intro K c;refine aa6 fQ _ _ 61 fQ Tryz.underlying61 j.out.1 j.out.2.1 j.out.2.2.1 j.out.2.2.2 fQ a.C ⟨w1.heap.size,0,Á⟩ fQ (Λ w1 _ _) U (by have:=H.out.2.2.1;unfold ī;omega) (by have:=H.out.2.2.1;omega) (by have:=H.out.2.1;have:=a.I.M;omega) A (æ _) a.M ⟨H.out.2.1,a.I.M⟩ A ?_;intro v9 w9 n L M;obtain⟨a9,n9c,rfl⟩:=jf n.fq;have v:=a.r.I n.r<|jy a.C a.r A;apply c.out _ _ λ_=>⟨v.r 1 _ U,v.r 2 _ U⟩;apply gB 11;intro K c;go_simp;apply c.out _ _ λ_=>⟨v.r 1 _ U,v.r 2 _ U⟩;apply gB 12;intro K c;go_simp;apply c.out _ _ λ_=>⟨v.r 1 _ U,v.r 2 _ U⟩;have cb1:=v.r 1 _ U;have fb1:=v.C 1;have cb4:=v.r 4 _ U;have fb4:=v.C 4;have cb0:=v.r 0 _ U;have fb0:=v.C 0;have cb2:=v.r 2 _ U;apply gB 13;intro K c;go_simp;apply c.out _ _ λo=>absurd A o;refine lP fu ?_ _;have N:=ff λo q O=>a.jG (sb:=o) H.out.1 H.out.2.1 H.out.2.2.2 q O n L M U;go_wp2_with (go_at_call 145;refine(ap1 _ _).mono ?_;rintro e u ⟨⟨o,rfl,O,P⟩,q⟩;subst u);go_ret;have q:=N.out o O P;exact⟨U,q.1,_,_,_,q.2⟩
end
def lF(i:Nat)(z:Int):Prop:=match i with
 |0=>0<=z/\z<8
 |1=>0<=z/\z<8
 |2=>0<=z/\z<1000000
 |3=>0<=z/\z<1000000
 |4=>1<=z/\z<10
 |5=>-1<=z/\z<1000000
 |6=>-1<=z/\z<1000000
 |7=>0<=z/\z<16
 |_=>True
structure E4(n m:Nat)(c:List Int):Prop where
 C:c.length=n
 r:∀i,i<m->lF i (c.getD i 0)
theorem E4.I(h:E4 n m zQ)(i:Nat)(z:Int)(b:i<m->lF i z):E4 n m (zQ.set i z):=by refine⟨by simp[h.C],λj a=> ?_⟩;have:=h.r j a;grind
def abj(h:i<zQ.length)(z:Int):(zQ.set i z).getD i 0=z:=by simp[Ğ,h]
structure nT(t:PT):Prop where
 c:E4 5 4 t.c
 p:t.p.size<=40/\∀c∈t.p.data.toList,xD c=Î
structure uJ(r:PR):Prop where
 c:E4 8 8 r.c
 C:∀t∈r.r,nT t
 n:r.r.length<=8
structure kl(d:PD):Prop where
 N:d.r=Ë->d.S=[]/\d.M=Ë
 b:d.M=Ë->d.I.r=[]
 C:d.C.length<=24
 I:d.Y.length<=8
 S:∀r∈d.S,uJ r
 M:d.r=Î->E4 8 8 d.I.c
 a:d.r=Î->∀t∈d.I.r,nT t
 Y:d.M=Î->nT d.N
structure jr(B:ByteArray)(k:Nat)(st:PS):Prop where
 M:0<=st.r
 r:st.r<=5
 C:0<=st.I
 I:st.I<=40
 e:0<st.r->(st.M=86\/st.M=87\/st.M=110\/st.M=107)/\st.d.r=Î/\0<=st.d.G st.M/\st.d.G st.M<10^(6-st.r.toNat)
 d:kl st.d
 c:st.d.r=Î\/st.C=[82]
 b:82∈st.C->st.d.C.length<24
 N:84∈st.C\/80∈st.C->st.d.M=Î
 a:66∈st.C->st.d.M=Ë
 S:80∈st.C->st.C=[80]/\st.r=0
 Y:80∈st.C->st.I.toNat<=k/\∀j (h:j<B.size),k-st.I.toNat<=j->j<k->xD B[j]=Î
section
variable{d:PD}{st o:PS}
def kl.abk(h:kl d)(on:d.r=Î):∀t∈d.Y,nT t:=by
 unfold PD.Y;split
 .rename_i e;intro t a;rcases â.1 a with q|q
  .exact h.a on t q
  .rw[ō]at q;rw[q];exact h.Y e
 .exact h.a on
def kl.G(h:kl d):∀r∈d.C,uJ r:=by
 unfold PD.C;split
 .rename_i e;intro r a;rcases â.1 a with q|q
  .exact h.S r q
  .rw[ō]at q;rw[q];exact⟨h.M e,h.abk e,h.I⟩
 .exact h.S
def xW(d:PD):d.C.length=d.S.length+(if d.r then 1 else 0):=by unfold PD.C;split<;>simp
def Im(d:PD):d.Y.length=d.I.r.length+(if d.M then 1 else 0):=by unfold PD.Y;split<;>simp
def kl.r(h:kl d)(i:Nat)(z:Int)(a:lF i z):kl (d.uH i z):= ⟨h.N,h.b,by have:=h.C;rw[xW]at this|-;exact this,by have:=h.I;rw[Im]at this|-;exact this,h.S,λe=>(h.M e).I i z λ_=>a,h.a,h.Y⟩
def kl.vR(h:kl d)(i:Nat)(z:Int)(a:i<4->lF i z):kl (d.vR i z):= ⟨h.N,h.b,by have:=h.C;rw[xW]at this|-;exact this,by have:=h.I;rw[Im]at this|-;exact this,h.S,h.M,h.a,λe=>⟨(h.Y e).c.I i z a,(h.Y e).p⟩⟩
def kl.jK(h:kl d)(i:Nat)(z:Int)(a:lF i z):kl (d.jK i z):=by
 unfold PD.jK;split
 .exact h.vR i z λ_=>a
 .exact h.r i z a
def kl.sX(h:kl d)(p:ByteArray)(a:p.size<=40/\∀c∈p.data.toList,xD c=Î):kl (d.sX p):= ⟨h.N,h.b,by have:=h.C;rw[xW]at this|-;exact this,by have:=h.I;rw[Im]at this|-;exact this,h.S,h.M,h.a,λe=>⟨(h.Y e).c,a⟩⟩
def aqh:nT PD.ER:=⟨⟨U,λi a=>by
 match i,a with
 |0,_=>exact⟨A,A⟩
 |1,_=>exact⟨A,A⟩
 |2,_=>exact⟨A,A⟩
 |3,_=>exact⟨A,A⟩⟩,⟨A,λc b=>by cases b⟩⟩
def kl.rP(h:kl d)(on:d.r=Î)(a:d.Y.length<8):kl d.rP:= ⟨(λe=>by have:d.r=Ë:=e;rw[on]at this;cases this),(λe=>by cases e),by have:=h.C;rw[xW]at this|-;exact this,by rwa[Im],h.S,λe=>h.M e,λ_=>h.abk on,λ_=>aqh⟩
def kl.EV(h:kl d)(q:Int)(a:1<=q/\q<10)(b:d.C.length<24):kl (d.EV q):= ⟨(λe=>by cases e),λ_=>rfl,by rwa[xW],by show(0:Nat)<=8;decide,h.G,λ_=>⟨U,λi c=>by
   match i,c with
   |0,_=>exact⟨by show(0:Int)<=0;decide,by show(0:Int)<8;decide⟩
   |1,_=>exact⟨by show(0:Int)<=0;decide,by show(0:Int)<8;decide⟩
   |2,_=>exact⟨by show(0:Int)<=0;decide,by show(0:Int)<1000000;decide⟩
   |3,_=>exact⟨by show(0:Int)<=0;decide,by show(0:Int)<1000000;decide⟩
   |4,_=>exact a
   |5,_=>exact⟨by show(-1:Int)<=0;decide,by show(0:Int)<1000000;decide⟩
   |6,_=>exact⟨by show(-1:Int)<=0;decide,by show(0:Int)<1000000;decide⟩
   |7,_=>exact⟨by show(0:Int)<=0;decide,by show(0:Int)<16;decide⟩⟩,(λ_ t f=>by cases f),(λe=>by cases e)⟩
def kl.fZ(h:kl d)(a z:Int)(b:(a=86->lF 5 z)/\(a=87->lF 6 z)/\(a=120->lF 0 z)/\(a=121->lF 1 z)/\(a=110->lF 2 z)/\(a=107->lF 3 z)/\(a=115->lF 7 z)):kl (d.fZ a z):=by
 let⟨c,e,f,g,i,j,k⟩:=b;unfold PD.fZ;repeat' split
 .exact h.r 5 z<|c ‹_›
 .exact h.r 6 z<|e ‹_›
 .exact h.jK 0 z<|f ‹_›
 .exact h.jK 1 z<|g ‹_›
 .exact h.jK 2 z<|i ‹_›
 .exact h.jK 3 z<|j ‹_›
 .exact h.r 7 z<|k ‹_›
 .exact h
def Ua(d:PD)(a z:Int):(d.fZ a z).r=d.r/\(d.fZ a z).M=d.M/\(d.fZ a z).C.length=d.C.length:=by
 unfold PD.fZ PD.jK;repeat' split
 all_goals exact⟨U,U,(xW _).trans (xW d).symm⟩
theorem Ub(h:kl d)(on:d.r=Î)(a z:Int)(f:a=86\/a=87\/a=110\/a=107):(d.fZ a z).G a=z:=by
 have g:=(h.M on).C;have b:∀i,i<4->(d.jK i z).xU i=z:=λi j=>by
  unfold PD.jK;split
  .rename_i e;have k:=(h.Y e).c.C;show(if d.M=Î then(d.N.c.set i z).getD i 0 else d.I.c.getD i 0)=z;grind
  .rename_i e;show(if d.M=Î then d.N.c.getD i 0 else(d.I.c.set i z).getD i 0)=z;grind
 rcases f with rfl|rfl|rfl|rfl
 .exact abj Z z
 .exact abj Z z
 .exact b 2 A
 .exact b 3 A
def MC:∀(l:List UInt8) (c:UInt8),Þ l c<l.length
 |[],_=>by show(-1:Int)<0;decide
 |a::l,c=>by
  have:=MC l c;unfold Þ;split
  .simp
  .split<;>(simp;omega)
def Uc:∀(l:List UInt8) (c:UInt8),c∈l->0<=Þ l c
 |[],_,h=>by cases h
 |a::l,c,h=>by
  unfold Þ;split
  .decide
  .rename_i e;rcases List.mem_cons.1 h with q|q
   .subst q;simp at e
   .have:=Uc l c q;split
    .rename_i b;rw[beq_iff_eq]at b;omega
    .omega
def abl{l:List UInt8}(h:c.toNat∈l.map UInt8.toNat):c.toNat.toUInt8∈l:=by let⟨x,a,b⟩:=Ú.1 h;rw[<-b];simpa using a
def abm(h:rN c=Î):0<=Þ [97,98,99,100,101,102,103,104] c.toNat.toUInt8:=by rw[apO]at h;refine Uc _ _<|abl ?_;simp;omega
def aqi(h:(j0 c||(decide (97<=c)&&decide (c<=102)))=Î):0<=Þ [48,49,50,51,52,53,54,55,56,57,97,98,99,100,101,102] c.toNat.toUInt8:=by simp only[Bool.or_eq_true,EU,Bool.and_eq_true,decide_eq_true_eq]at h;refine Uc _ _<|abl ?_;simp;omega
theorem aqj(a:qe h c=Î):(h=86->lF 5 (mT h c))/\(h=87->lF 6 (mT h c))/\(h=120->lF 0 (mT h c))/\(h=121->lF 1 (mT h c))/\(h=110->lF 2 (mT h c))/\(h=107->lF 3 (mT h c))/\(h=115->lF 7 (mT h c)):=by
 unfold qe at a;have b:(c==104||j0 c)=Î->-1<=(if c=104 then-1 else(c-48)%256)/\(if c=104 then(-1:Int)else(c-48)%256)<1000000:=λq=>by split<;>omega
 have d:j0 c=Î->0<=(if c=104 then-1 else(c-48)%256)/\(if c=104 then(-1:Int)else(c-48)%256)<1000000:=λq=>by rw[EU]at q;grind
 refine⟨?_,?_,?_,?_,?_,?_,?_⟩<;>rintro rfl
 .exact b a
 .exact b a
 .exact⟨abm a,MC _ _⟩
 .exact⟨abm a,MC _ _⟩
 .exact d a
 .exact d a
 .exact⟨aqi a,MC _ _⟩
theorem aqk{lb:Int}(a:j0 c=Î)(b:0<=h)(d:0<lb)(e:lb<=5)(f:h<10^(6-lb.toNat)):0<=rQ h c/\rQ h c<10^(6-(lb-1).toNat)/\rQ h c<1000000:=by
 rw[EU]at a;have g:h<100000->rQ h c=h*10+(c-48):=λq=>by unfold rQ;rw[Ļ (h*10) ⟨Z,Z⟩,Ļ _ ⟨Z,Z⟩];omega
 have i:lb=1\/lb=2\/lb=3\/lb=4\/lb=5:=Z
 grind
def kl.lb(h:kl d)(a z:Int)(c:a=86\/a=87\/a=110\/a=107)(b:0<=z/\z<1000000):kl (d.fZ a z):= h.fZ a z ⟨λ_=>⟨Z,b.2⟩,λ_=>⟨Z,b.2⟩,λe=>by omega,λe=>by omega,λ_=>b,λ_=>b,λe=>by omega⟩
def jr.aql(h:jr B k st)(e:0<st.r)(j:j0 c=Î):jr B (k+1) (Ii st c):=by
 let⟨a,b,l,m⟩:=h.e e;let⟨f,n,o⟩:=aqk j l e h.r m;let⟨g,i,p⟩:=Ua st.d st.M<|rQ (st.d.G st.M) c;refine⟨by show 0<=st.r-1;omega,by have:=h.r;show st.r-1<=5;omega,h.C,h.I,λ_=>⟨a,g.trans b,?_⟩,h.d.lb _ _ a ⟨f,o⟩,?_,λq=> ?_,λq=>i.trans<|h.N q,λq=>i.trans<|h.a q,λq=> ?_,λq=> ?_⟩
 .show 0<=(st.d.fZ st.M<|rQ (st.d.G st.M) c).G st.M/\(st.d.fZ st.M<|rQ (st.d.G st.M) c).G st.M<10^(6-(st.r-1).toNat);rw[Ub h.d b _ _ a];exact⟨f,n⟩
 .exact È<|g.trans b
 .show(st.d.fZ st.M<|rQ (st.d.G st.M) c).C.length<24;rw[p];exact h.b q
 .have:=(h.S q).2;omega
 .have:=(h.S q).2;omega
def jr.u9(h:jr B k st):jr B k {st with r:=0}:= ⟨Ť _,by show(0:Int)<=5;decide,h.C,h.I,(λq=>by cases q),h.d,h.c,h.b,h.N,h.a,λq=>⟨(h.S q).1,rfl⟩,h.Y⟩
theorem jr.on(h:jr B k st)(a:82∉st.C):st.d.r=Î:=by rcases h.c with q|q;all_goals grind
def kl.aqm(h:kl d)(a:d.M=Î):d.r=Î:=by
 cases e:d.r with
 |true=>rfl
 |false=>have:=(h.N e).2;rw[a]at this;cases this
theorem abn(h:jr B k st)(b:st.r=0)(on:st.d.r=Î)(a:rR st c=Â o):jr B (k+1) o:=by
 unfold rR at a;split at a
 .rename_i e;cases a;refine⟨h.M,h.r,h.C,h.I,λq=> ?_,h.d,Ï U,λ_=> ?_,λq=> ?_,λq=> ?_,λq=> ?_,λq=> ?_⟩
  .grind
  .rw[xW,on];exact e.2
  .simp at q
  .simp at q
  .simp at q
  .simp at q
 .split at a
  .rename_i e;cases a;refine⟨h.M,h.r,h.C,h.I,λq=> ?_,h.d.rP on e.2.2,È on,λq=> ?_,λ_=>rfl,λq=> ?_,λq=> ?_,λq=> ?_⟩;all_goals grind
  .cases a
def aqn(q:Int):82∉vO q/\84∉vO q/\80∉vO q:=by
 unfold vO;repeat' split
 all_goals decide
theorem aqo(q:Int):82∉pz q/\84∉pz q/\66∉pz q/\(80∈pz q->pz q=[80]):=by unfold pz;grind
def aqp(c:Int):0<=xT c/\xT c<10:=by
 unfold xT;repeat' split
 all_goals decide
theorem aqr(h:jr B k st)(i:st.r=0)(f:82∈st.C)(a:z8 st (xT c)=Â o):jr B (k+1) o:=by
 unfold z8 at a;split at a
 .cases a
 .rename_i e;cases a;let⟨g,j,b⟩:=aqn<|xT c;have l:=aqp c;refine⟨h.M,h.r,h.C,h.I,λq=> ?_,h.d.EV _ Z<|h.b f,È U,λq=>absurd q g,λq=> ?_,λ_=>rfl,λq=>absurd q b,λq=>absurd q b⟩;all_goals grind
theorem aqs(h:jr B k st)(c:st.r=0)(q:Int)(f:84∈st.C)(a:xV st q=Â o):jr B (k+1) o:=by
 unfold xV at a;split at a
 .cases a
 .cases a;let⟨g,m,i,l⟩:=aqo q;have b:=h.N<|È f;refine⟨h.M,h.r,Ť _,by show(0:Int)<=40;decide,λq=> ?_,h.d.vR 4 q λe=>by omega,È<|h.d.aqm b,λq=>absurd q g,λ_=>b,λq=>absurd q i,λq=>⟨l q,c⟩,λ_=>⟨Ø _,λj _ n p=> ?_⟩⟩;all_goals grind
theorem aqt{a:Int}(h:0<rO a c):(a=86\/a=87)/\rO a c=1/\j0 c=Î/\c≠48\/(a=110\/a=107)/\rO a c=5/\j0 c=Î/\c≠48:=by unfold rO at h|-;grind
theorem abo(h:jr B k st)(on:st.d.r=Î){want:Int}(l:qe want c=Î)(r:List Int)(a:∀x∈r,x∈st.C)(g:80∉r):jr B (k+1) {pA st want c with C:=r}:=by
 let⟨m,i,n⟩:=Ua st.d want<|mT want c;have j:=apS want c;refine⟨j.1,j.2,h.C,h.I,λq=> ?_,h.d.fZ _ _<|aqj l,È<|m.trans on,λq=> ?_,λq=>i.trans<|h.N<|q.imp (a _)<|a _,λq=>i.trans<|h.a<|a _ q,λq=>absurd q g,λq=>absurd q g⟩
 .have q:=q;show(want=86\/want=87\/want=110\/want=107)/\(st.d.fZ want<|mT want c).r=Î/\0<=(st.d.fZ want<|mT want c).G want/\(st.d.fZ want<|mT want c).G want<10^(6-(rO want c).toNat);rcases aqt q with⟨o,b,e,p⟩|⟨o,b,e,p⟩
  .have f:want=86\/want=87\/want=110\/want=107:=Z
   rw[Ub h.d on _ _ f,b];rw[EU]at e;have:mT want c=(c-48)%256:=by unfold mT;grind
   grind
  .have f:want=86\/want=87\/want=110\/want=107:=Z
   rw[Ub h.d on _ _ f,b];rw[EU]at e;have:mT want c=(c-48)%256:=by unfold mT;grind
   grind
 .show(st.d.fZ want<|mT want c).C.length<24;rw[n];exact h.b<|a _ q
def aqu{x:UInt8}(h:x∈(B.extract i b).data.toList):∃j,∃e:j<B.size,i<=j/\j<b/\B[j]=x:=by rw[Ĳ,ĺ,ĥ]at h;obtain⟨c,d,rfl⟩:=Ĝ h;simp only[Ś,List.length_drop,ě]at d;have f:B.data.size=B.size:=rfl;exact⟨i+c,Z,Z,Z,by simp[ċ]⟩
theorem aqv(h:jr B k st)(l:st.r=0)(F:k<B.size)(a:ln B k st (B[k].toNat:Int)=Â o):jr B (k+1) o:=by
 unfold ln at a;split at a
 .rename_i e;exact abn h l (h.on<|by rw[e];decide) a
 .rename_i t p e;have c:t∈st.C:=by rw[e];exact List.mem_cons_self ..
  split at a
  .rename_i f;subst f;exact aqr h l c a
  rename_i G;have i:st.d.r=Î:=by rcases h.c with q|q;all_goals grind
  split at a
  .rename_i f;subst f;split at a
   .rename_i u;cases a;have n:=h.a c;have b:st.d.Y.length<8:=by rw[Im,h.d.b n,n];decide
    have v:jr B k {st with C:=[84],d:=st.d.rP}:=by refine⟨h.M,h.r,h.C,h.I,λq=> ?_,h.d.rP i b,È i,λq=> ?_,λ_=>rfl,λq=> ?_,λq=> ?_,λq=> ?_⟩;all_goals grind
    exact abo (want:=120) v i u [84] (λx b=>b) A
   .exact abn h l i a
  split at a
  .rename_i f;subst f;exact aqs h l _ c a
  split at a
  .rename_i f;subst f;let⟨H,w⟩:=h.Y c;have n:=h.N<|Ï c;have y:=(h.S c).1;have I:=h.C;have J:=h.I;split at a
   .cases a;have z:p=[]:=by rw[y]at e;cases e;rfl
    subst z;refine⟨h.M,h.r,h.C,h.I,λq=> ?_,h.d.sX _ ⟨by rw[Č];omega,λx b=> ?_⟩,È i,λq=> ?_,λq=> ?_,λq=> ?_,λq=> ?_,λq=> ?_⟩
    .grind
    .obtain⟨j,r,m,s,rfl⟩:=aqu b;exact w j r m s
    .cases q
    .grind
    .cases q
    .cases q
    .cases q
   .split at a
    .cases a
    .rename_i g;cases a;have K:=λq=>g<|È q;have C:=λq=>g<|Ï q;refine⟨h.M,h.r,by show 0<=st.I+1;omega,by show st.I+1<=40;omega,h.e,h.d,h.c,h.b,h.N,h.a,h.S,λ_=>⟨by show(st.I+1).toNat<=k+1;omega,λj r m s=> ?_⟩⟩;have m:k+1-(st.I+1).toNat<=j:=m;by_cases D:j=k
     .subst D;unfold xD;simpa using C
     .grind
  split at a
  .rename_i L M N E;cases a;refine abo h i E p (λx b=>by rw[e];exact Ĕ _ b) λq=> ?_;have:=(h.S<|by rw[e];exact Ĕ _ q).1;grind
  .cases a
def abp(h:jr B k st)(b:k<B.size)(a:qL B k st (B[k].toNat:Int)=Â o):jr B (k+1) o:=by
 unfold qL at a;split at a
 .rename_i e;cases a;exact h.aql e.1 e.2
 .exact aqv h.u9 U b a
def Ud(B:ByteArray):jr B 0 sY:= ⟨A,A,A,A,(λq=>by cases q),⟨λ_=>⟨rfl,rfl⟩,λ_=>rfl,A,A,(λr e=>by cases e),(λe=>by cases e),(λe=>by cases e),(λe=>by cases e)⟩,Ï rfl,λ_=>by decide,(λq=>by rcases q with q|q<;>simp[sY]at q),(λq=>by simp[sY]at q),(λq=>by simp[sY]at q),(λq=>by simp[sY]at q)⟩
def Ue:∀(f k:Nat) (st:PS),jr B k st->k<=B.size->jr B (oe B f k st).1 (oe B f k st).2/\(oe B f k st).1<=B.size
 |0,k,st,h,hk=>⟨h,hk⟩
 |f+1,k,st,h,hk=>by
  unfold oe;split
  .rename_i a;split
   .exact⟨h,hk⟩
   .rename_i o e;exact Ue f (k+1) o (abp h a e) Z
  .exact⟨h,hk⟩
end
section
variable{g:Gh}{st:PS}
def abq{d:PD}(i:Nat)(z:Int):g.M (d.jK i z)=g.M d:=by unfold PD.jK Gh.M;split<;>simp[PD.vR,PD.uH, *]
def abr{d:PD}(h:i=2\/i=3)(z:Int):g.Cn (d.jK i z) (if i=2 then 110 else 107)=⟨g.M d,i,Á⟩:=by
 rcases h with rfl|rfl
 .show(⟨g.M<|d.jK 2 z,2,Á⟩:ü)=_;rw[abq]
 .show(⟨g.M<|d.jK 3 z,3,Á⟩:ü)=_;rw[abq]
def abt{d:PD}(on:d.r=Î):g.S d=Â ⟨g.q,0,Á⟩:=if_pos on
def aqw{d:PD}(on:d.r=Î):g.G d=Â ⟨g.M d,0,Á⟩:=if_pos on
def Lq(h:gO m b g O B st w)(j:st.r=0)(on:st.d.r=Î)(a c:Int)(v:qe a c=Î): Ò À 100 #[Ã<|Â ⟨b,0,Á⟩,Å ū a,Å ū c] w λe u=>e=Æ (ë #[])/\rT m b (pA st a c) w u:=by
 have G:w.cell? ⟨b,2,Á⟩=Â (Ã<|g.S st.d):=h.r.r 2 _ U;have x:w.cell? ⟨b,4,Á⟩=Â (Ã<|g.G st.d):=h.r.r 4 _ U;rw[abt on]at G;rw[aqw on]at x;have H:=ff<|Ê h v;clear h v;generalize y:g.M st.d=tm at x;have n:=ff y;clear y;by_cases o:a=86
 .subst o;have k:=ff (show pA st 86 c={st with r:=vU c 2,M:=86,d:=st.d.uH 5 (kY c)}from by unfold pA;rw[<-Mx H.out.2 (È ⟨È U,U⟩),Mz A];rfl);go_enter Ā,û;go_wp2_with (go_at_call 147;refine(Mw H.out.1 (EY H.out.1.C H.out.1.r on (i:=5) A) j on _ _ 86 A A λz=>rfl).mono ?_;rintro e u ⟨rfl,l⟩);go_end0;exact⟨U,by rwa[k.out]⟩
 have I:(a==86)=Ë:=by rwa[beq_eq_false_iff_ne]
 by_cases p:a=87
 .subst p;have k:=ff (show pA st 87 c={st with r:=vU c 2,M:=87,d:=st.d.uH 6 (kY c)}from by unfold pA;rw[<-Mx H.out.2 (È ⟨Ï U,U⟩),Mz A];rfl);go_enter Ā,û;go_wp2_with (go_at_call 147;refine(Mw H.out.1 (EY H.out.1.C H.out.1.r on (i:=6) A) j on _ _ 87 A A λz=>rfl).mono ?_;rintro e u ⟨rfl,l⟩);go_end0;exact⟨U,by rwa[k.out]⟩
 have J:(a==87)=Ë:=by rwa[beq_eq_false_iff_ne]
 by_cases q:a=120
 .subst q;have f:=ff ((by have:=EZ H.out.1.C H.out.1.r on (i:=0) A;rw[n.out]at this;exact this:qf m b g st.d tm 0 (λz=>st.d.jK 0 z) (st.d.xU 0) w));have C:=f.out.C;have D:=f.out.I;have E:=f.out.r;go_enter Ā,û;go_wp2_with fail;go_region_with (go_at_call 146;refine(Ij _ _ _).mono ?_;rintro e u ⟨rfl,F⟩;subst u);all_goals go_end0
  all_goals exact⟨U,T7 H.out.1 f.out j (My A) U⟩
 have K:(a==120)=Ë:=by rwa[beq_eq_false_iff_ne]
 by_cases r:a=121
 .subst r;have f:=ff ((by have:=EZ H.out.1.C H.out.1.r on (i:=1) A;rw[n.out]at this;exact this:qf m b g st.d tm 1 (λz=>st.d.jK 1 z) (st.d.xU 1) w));have C:=f.out.C;have D:=f.out.I;have E:=f.out.r;go_enter Ā,û;go_wp2_with fail;go_region_with (go_at_call 146;refine(Ij _ _ _).mono ?_;rintro e u ⟨rfl,F⟩;subst u);all_goals go_end0
  all_goals exact⟨U,T7 H.out.1 f.out j (My A) U⟩
 have L:(a==121)=Ë:=by rwa[beq_eq_false_iff_ne]
 by_cases s:a=110
 .subst s;have k:=ff (show pA st 110 c={st with r:=vU c 6,M:=110,d:=st.d.jK 2 (kY c)}from by unfold pA;rw[<-Mx H.out.2 (Ï ⟨È U,U⟩),Mz A];rfl);go_enter Ā,û;go_wp2_with (go_at_call 147;refine(Mw H.out.1 ((by have:=EZ H.out.1.C H.out.1.r on (i:=2) A;rw[n.out]at this;exact this:qf m b g st.d tm 2 (λz=>st.d.jK 2 z) (st.d.xU 2) w)) j on _ _ 110 A A λz=>(by have:=abr (g:=g) (d:=st.d) (i:=2) (È U) z;rwa[n.out]at this)).mono ?_;rintro e u ⟨rfl,l⟩);go_end0;exact⟨U,by rwa[k.out]⟩
 have M:(a==110)=Ë:=by rwa[beq_eq_false_iff_ne]
 by_cases t:a=107
 .subst t;have k:=ff (show pA st 107 c={st with r:=vU c 6,M:=107,d:=st.d.jK 3 (kY c)}from by unfold pA;rw[<-Mx H.out.2 (Ï ⟨Ï U,U⟩),Mz A];rfl);go_enter Ā,û;go_wp2_with (go_at_call 147;refine(Mw H.out.1 ((by have:=EZ H.out.1.C H.out.1.r on (i:=3) A;rw[n.out]at this;exact this:qf m b g st.d tm 3 (λz=>st.d.jK 3 z) (st.d.xU 3) w)) j on _ _ 107 A A λz=>(by have:=abr (g:=g) (d:=st.d) (i:=3) (Ï U) z;rwa[n.out]at this)).mono ?_;rintro e u ⟨rfl,l⟩);go_end0;exact⟨U,by rwa[k.out]⟩
 have l:(a==107)=Ë:=by rwa[beq_eq_false_iff_ne]
 by_cases k:a=115
 .subst k;have f:=ff<|EY H.out.1.C H.out.1.r on (i:=7) A;have C:=f.out.C;have D:=f.out.I;have E:=f.out.r;go_enter Ā,û;go_wp2_with fail;go_region_with (go_at_call 146;refine(Ij _ _ _).mono ?_;rintro e u ⟨rfl,F⟩;subst u);all_goals go_end0
  all_goals exact⟨U,T7 H.out.1 f.out j (My A) U⟩
 have f:(a==115)=Ë:=by rwa[beq_eq_false_iff_ne]
 go_enter Ā,û;go_wp2;go_end0;refine⟨U,fc.fU _ _,g,O,B,?_⟩;have e:pA st a c={st with M:=a}:=by unfold pA PD.fZ;rw[My ⟨Z,Z⟩,if_neg o,if_neg p,if_neg q,if_neg r,if_neg s,if_neg t,if_neg k,<-j]
 rw[e];exact H.out.1.T4 a j
end
section
variable{g:Gh}{s:ByteArray}{st:PS}{d:PD}
def MD(m b:Nat)(o:Option PS)(e:Ending)(w u:Í):Prop:=
 (o=Á/\e=Æ (õ Ë)/\u=w)\/∃a,o=Â a/\e=Æ (õ Î)/\rT m b a w u
def abu{o:Option PS}{e:Ending}(h:match o with
 |none=>e=Æ (õ Ë)/\u=w
 |some a=>e=Æ (õ Î)/\rT m b a w u):MD m b o e w u:=by
 cases o with
 |none=>exact È ⟨U,h⟩
 |some a=>exact Ï ⟨a,U,h⟩
def aqx{d:PD}(on:d.r=Î):d.C.length=d.S.length+1:=by rw[xW,on];rfl
def abv(h:gO m b g O s st w)(j:st.r=0)(on:st.d.r=Î)(y:st.d.Y.length<=8)(z:st.d.C.length<=24)(c:Int): Ò À 95 #[Ã<|Â ⟨b,0,Á⟩,Å ū c] w λe u=>MD m b (rR st c) e w u:=by
 have l:=h.C.r on;let⟨I,J,p⟩:=jf h.C.C;let⟨K,L,q⟩:=jf l.I;rw[h.C.aa7]at p;rw[l.G]at q;have M:=h.r.r 0 _ U;have r:=h.r.r 1 _ U;have B:=h.r.r 2 _ U;rw[abt on]at B;rw[p]at r;have t:=l.r.r 8 _ (by have:=Co st.d.I.c g.r;rwa[l.M]at this);rw[q]at t;have N:=h.r.C 0;obtain⟨v,f⟩:∃n,st.d.C.length=n:=⟨_,U⟩;obtain⟨x,i⟩:∃n,st.d.Y.length=n:=⟨_,U⟩;rw[f]at r z;rw[i]at t y;have k:st.d.S.length+1=v:=by rw[<-f];exact(aqx on).symm
 have H:=ff<|Ê h<|Ê f<|Ê i<|Ê k j;by_cases C:c=59/\v<24
 .obtain⟨rfl,a⟩:=C;go_enter ť,ŗ;go_wp2;go_ret;let⟨h,f,i,k,j⟩:=H.out;exact Ï ⟨_,by rw[rR,if_pos ⟨U,Z⟩],U,mG h 0 _,g,O,_,h.Mv _ [82] A A<|È on⟩
 by_cases D:c=44/\0<x/\x<8
 .obtain⟨rfl,P,Q⟩:=D;go_enter ť,ŗ;go_wp2_with (go_at_call 99;refine(abg H.out.1 H.out.2.2.2.2 on (by have:=H.out.2.2.1;omega)).mono ?_;rintro e u ⟨rfl,o,E,F,S,a⟩;have T:=a.r.r 0 _ U;have V:=a.r.C 0;have G:=ff<|Ê o a;clear o a);go_ret;let⟨h,f,i,k,j⟩:=H.out;let⟨o,a⟩:=G.out;exact Ï ⟨_,by rw[rR,if_neg Z,if_pos ⟨U,Z,Z⟩],U,o.fg<|mG a 0 _,E,F,_,a.Mv _ [120,84] A A<|È on⟩
 .have a:=ff (show rR st c=Á by
   let⟨h,f,i,k,j⟩:=H.out;rw[rR,if_neg Z,if_neg Z])
  go_enter ť,ŗ;go_wp2_with fail;all_goals first|(go_ret;exact È ⟨a.out,U,U⟩)|(exfalso;simp only[beq_iff_eq,decide_eq_true_eq]at*;omega)
def ko:Τ->Option Τ
 |ń c=>Â c
 |.seq a b=>match ko a with
  |some c=>Â c
  |none=>ko b
 |.block _ c=>ko c
 |.scope c=>ko c
 |.cond _ a b=>match ko a with
  |some c=>Â c
  |none=>ko b
 |_=>Á
noncomputable def qg:Τ:=(Tryz.f61.body.bind ko).getD aj
def pD(b:Nat)(B:ByteArray)(i:Ñ)(u:Nat->Ñ):Ĉ:=⟨#[Ã<|Â ⟨b,0,Á⟩,Ä B,ĸ,ĸ,Å É 0,i,u 6,u 7,u 8,u 9,u 10,u 11,u 12,u 13,u 14,u 15,u 16,u 17,u 18,u 19,u 20,u 21,u 22,u 23,u 24,u 25,u 26,u 27,u 28,u 29,u 30,u 31,u 32,u 33,u 34,u 35,u 36,u 37,u 38,u 39,u 40,u 41,u 42,u 43,u 44,u 45,u 46,u 47,u 48,u 49,u 50,u 51,u 52,u 53,u 54,u 55,u 56,u 57,u 58,u 59,u 60,u 61,u 62,u 63,u 64,u 65,u 66,u 67,u 68,u 69,u 70,u 71,u 72,u 73,u 74,u 75,u 76,u 77,u 78,u 79,u 80,u 81,u 82,u 83,u 84,u 85,u 86,u 87,u 88,u 89,u 90,u 91,u 92,u 93,u 94,u 95,u 96,u 97,u 98,u 99,u 100,u 101,u 102,u 103,u 104,u 105,u 106,u 107,u 108,u 109,u 110,u 111,u 112,u 113,u 114,u 115,u 116,u 117,u 118,u 119,u 120,u 121,u 122,u 123,u 124,u 125,u 126,u 127,u 128,u 129,u 130,u 131,u 132,u 133,u 134,u 135,u 136,u 137,u 138,u 139,u 140,u 141,u 142,u 143,u 144,u 145,u 146],[]⟩
def Fr(b:Nat)(B:ByteArray)(i:Ñ)(a:Ĉ):Prop:=∃u,a=pD b B i u
def gk{b:Nat}{B:ByteArray}{i:Value}{a:Act}(h:a=pD b B i (λn=>a.tmps.getD n undef):=by rfl):Fr b B i a:=⟨_,h⟩
def QQ(X:Ĉ->Í->Prop):Exit->Ĉ->Í->Prop
 |.exit 0,a,w=>X a w
 |_,_,_=>False
def rU(m b:Nat)(B:ByteArray)(k:Nat)(st:PS)(a u:Í):Prop:=∃(h:k<B.size) (h:PS),qL B k st (B[k].toNat:Int)=Â h/\rT m b h a u
def rV(m b:Nat)(B:ByteArray)(k:Nat)(st:PS)(a u:Í):Prop:=∃h:k<B.size,qL B k st (B[k].toNat:Int)=Á/\∃c,rT m b c a u
theorem uK{d:Int}(h:(0<d/\yQ=Ë)\/d<=0):¬(0<d/\yQ=Î):=by grind
def uL(h:¬(0<st.r/\j0 c=Î)):qL B k st c=ln B k {st with r:=0} c:=if_neg h
def aqy(a:0<st.r)(b:j0 c=Î):qL B k st c=Â (Ii st c):=if_pos ⟨a,b⟩
section
variable{want:Int}
def aqz(h:st.C=[]):ln B k st c=rR st c:=by rw[ln,h]
def aqA(h:st.C=want::zQ)(a:want=82):ln B k st c=z8 st (xT c):=by rw[ln,h];simp only;rw[if_pos a]
def aqB(h:st.C=want::zQ)(a:want=66)(b:rN c=Î):ln B k st c=Â (pA {st with C:=[84],d:=st.d.rP} 120 c):=by rw[ln,h];simp only;rw[if_neg Z,if_pos a,if_pos b]
def aqC(h:st.C=want::zQ)(a:want=66)(b:rN c=Ë):ln B k st c=rR st c:=by rw[ln,h];simp only;rw[if_neg Z,if_pos a,if_neg (by rw[b];decide)]
def aqD(h:st.C=want::zQ)(a:want=84):ln B k st c=xV st (Mr c):=by rw[ln,h];simp only;rw[if_neg Z,if_neg Z,if_pos a]
def aqE(h:st.C=want::zQ)(a:want=80)(b:c=125):ln B k st c=Â {st with C:=zQ,d:=st.d.sX (B.extract (k-st.I.toNat) k)}:=by rw[ln,h];simp only;rw[if_neg Z,if_neg Z,if_neg Z,if_pos a,if_pos b]
def abw(h:st.C=want::zQ)(a:want=80)(b:¬c=125)(d:st.I=40\/lO c=0):ln B k st c=Á:=by rw[ln,h];simp only;rw[if_neg Z,if_neg Z,if_neg Z,if_pos a,if_neg b,if_pos d]
def aqF(h:st.C=want::zQ)(a:want=80)(b:¬c=125)(d:¬st.I=40)(e:¬lO c=0):ln B k st c=Â {st with I:=st.I+1}:=by rw[ln,h];simp only;rw[if_neg Z,if_neg Z,if_neg Z,if_pos a,if_neg b,if_neg Z]
def aqG(h:st.C=want::zQ)(a:¬want=82)(b:¬want=66)(d:¬want=84)(e:¬want=80)(f:qe want c=Î):ln B k st c=Â {pA st want c with C:=zQ}:=by rw[ln,h];simp only;rw[if_neg a,if_neg b,if_neg d,if_neg e,if_pos f]
def aqH(h:st.C=want::zQ)(a:¬want=82)(b:¬want=66)(d:¬want=84)(e:¬want=80)(f:qe want c=Ë):ln B k st c=Á:=by rw[ln,h];simp only;rw[if_neg a,if_neg b,if_neg d,if_neg e,if_neg (by rw[f];decide)]
end
def uM(c:UInt8):(0:Int)<=(c.toNat:Int)/\(c.toNat:Int)<256:=⟨Int.natCast_nonneg _,by have:=c.toNat_lt;omega⟩
def Uf(s:ByteArray)(h:s.size=0):(s.toList==[])=Î:=by simp_all
theorem sZ(s:ByteArray)(h:¬s.size=0):(s.toList==[])=Ë:=by
 rw[beq_eq_false_iff_ne];intro e;have:s.toList.length=s.size:=by rw[ByteArray.toList_eq];rfl
 grind
def gO.aqI(h:gO m b g O s st w)(on:st.d.r=Î)(i:c=86\/c=87\/c=110\/c=107):∃a e f,g.Cn st.d c=⟨a,e,Á⟩/\qf m b g st.d a e f (st.d.G c) w/\∀z,f z=st.d.fZ c z:=by
 rcases i with rfl|rfl|rfl|rfl
 .exact⟨_,_,_,U,EY h.C h.r on A,λz=>rfl⟩
 .exact⟨_,_,_,U,EY h.C h.r on A,λz=>rfl⟩
 .exact⟨_,_,_,U,EZ h.C h.r on A,λz=>rfl⟩
 .exact⟨_,_,_,U,EZ h.C h.r on A,λz=>rfl⟩
def gO.sX(h:gO m b g O s st w)(on:st.d.r=Î)(a:st.d.M=Î)(p:ByteArray):gO m b g O s {st with d:=st.d.sX p} (w.setCell ⟨g.t,5,Á⟩<|Ä p)/\fc (λi=>m<=i) w (w.setCell ⟨g.t,5,Á⟩<|Ä p):=by have l:=h.C.r on;let⟨f,j,c⟩:=l.C a;have e:fc (λi=>i=g.t) w (w.setCell ⟨g.t,5,Á⟩<|Ä p):=pC c;exact⟨⟨h.S,h.a.r _ trivial,h.r.I e λx=>fi.S h.r c A x,h.M,h.I,h.C.sX on a p,h.c,h.N⟩,e.S λi _ x=>by have:=l.S;omega⟩
def gO.abx(h:gO m b g O s st w)(on:st.d.r=Î)(a:st.C=c::zQ):gO m b g O (s.extract 1 s.size) {st with C:=zQ} (w.setCell ⟨b,0,Á⟩<|Ä<|s.extract 1 s.size):= h.Mv _ zQ (apR s h.M) (by rw[apQ,h.I,a];rfl)<|È on
def gO.aqJ(h:gO m b g O s st w)(a:st.C=c::zQ):0<s.size:=by have:=TV s;rw[h.I,a]at this;simp at this;omega
end
section
variable{g:Gh}{s:ByteArray}{st:PS}{d:PD}
def aqK(h:gO m b g O s st w)(a:st.r=0)(c:st.d.r=Ë->st.d.S=[])(f:st.d.C.length<=100000)(k:Int): Ò À 96 #[Ã<|Â ⟨b,0,Á⟩,Å É k] w λe u=>MD m b (z8 st k) e w u:=(aqg h a c f k).mono λ_ _ q=>abu q
def aqL(h:gO m b g O s st w)(a:st.r=0)(on:st.d.r=Î)(c:st.d.M=Î)(k:Int): Ò À 101 #[Ã<|Â ⟨b,0,Á⟩,Å É k] w λe u=>MD m b (xV st k) e w u:=(ap8 h a on c k).mono λ_ _ q=>abu q
theorem aqM{X:Ĉ->Í->Prop}{a:Ĉ}(G:Fr b B (Å É k) a) (h:gO m b g O s st w) (i:jr B k st) (Q:B.size<=1200) (H:k<B.size) (n:0<st.r) (I:j0 (B[k].toNat:Int)=Î) (S:∀a u,Fr b B (Å É<|(k:Int)+1) a/\rU m b B k st w u->K a u) (_hQ:∀a u,Fr b B (Å É k) a/\rV m b B k st w u->X a u): ß À qg (Exit.then K<|QQ X) a w:=by
 obtain⟨c,rfl⟩:=G;unfold pD;conv=>arg 2;whnf
 have T:w.cell? ⟨b,0,Á⟩=Â (Ä s):=h.r.r 0 _ U;have V:w.cell? ⟨b,6,Á⟩=Â (Å É st.r):=h.r.r 6 _ U;have W:w.cell? ⟨b,7,Á⟩=Â (Å É st.I):=h.r.r 7 _ U;have Y:=h.r.C 0;have f6:=h.r.C 6;have f7:=h.r.C 7;have d0:=i.M;have d1:=i.r;have e0:=i.C;have e1:=i.I;let⟨q,on,_,_⟩:=i.e n;let⟨r,ao,f,t,j,v⟩:=h.aqI on q;have J:w.cell? ⟨b,5,Á⟩=Â (Ã O):=h.r.r 5 _ U;rw[(h.c n).2,t]at J;obtain⟨x,o⟩:∃x,st.d.G st.M=x:=⟨_,U⟩;have L:=j.C;rw[o]at L;have fm:=j.I;obtain⟨M,N⟩:∃y,wrap64 (x*10)=y:=⟨_,U⟩;obtain⟨l,P⟩:∃y,wrap64 (M+((B[k].toNat:Int)-48)%256)=y:=⟨_,U⟩;have ME:¬r=b:=j.r;have MG:¬b=r:=λe=>j.r e.symm;have z:=h.Y (st.r-1) λ_=>h.c n;have p:=j.S 6<|Å É<|st.r-1;have C:=z.G p l;have D:rQ (st.d.G st.M) (B[k].toNat:Int)=l:=by rw[rQ,š,š,o,N,P]
 have E:Ii st (B[k].toNat:Int)={st with r:=st.r-1,d:=f l}:=by rw[Ii,D,v]
 have F:Hid (qL B k st (B[k].toNat:Int)=Â {st with r:=st.r-1,d:=f l}/\rT m b {st with r:=st.r-1,d:=f l} w (ξ _)):= ff ⟨by rw[aqy n I,E],(((mG h 6 _).fg<|E1 (st:=st) p _).C (fc.fS fh _) λ_ _ x=>x.elim),g,O,s,C.fS⟩;clear z p C D E j v t h i o q;go_wp2_with (go_at_call 94;refine(rS _ _).mono ?_;rintro e u ⟨rfl,hw⟩;subst u);go_region;all_goals
  go_wp2;exact⟨gk,⟨H,_,F.out.1,F.out.2⟩⟩
theorem aqN{X:Ĉ->Í->Prop}(z:Fr b B (Å É k) y) (i:gO m b g O s st w) (j:jr B k st) (Q:B.size<=1200) (l:k<B.size) (n:(0<st.r/\j0 (B[k].toNat:Int)=Ë)\/st.r<=0) (o:s.size=0) (S:∀y u,Fr b B (Å É<|(k:Int)+1) y/\rU m b B k st w u->K y u) (C:∀y u,Fr b B (Å É k) y/\rV m b B k st w u->X y u): ß À qg (Exit.then K<|QQ X) y w:=by
 obtain⟨f,rfl⟩:=z;unfold pD;conv=>arg 2;whnf
 have T:w.cell? ⟨b,0,Á⟩=Â (Ä s):=i.r.r 0 _ U;have V:w.cell? ⟨b,6,Á⟩=Â (Å É st.r):=i.r.r 6 _ U;have W:w.cell? ⟨b,7,Á⟩=Â (Å É st.I):=i.r.r 7 _ U;have Y:=i.r.C 0;have f6:=i.r.C 6;have f7:=i.r.C 7;have d0:=j.M;have d1:=j.r;have e0:=j.C;have e1:=j.I;have p:=ff<|uL (B:=B) (k:=k)<|uK n;have r:=i.Y 0 λh=>absurd h A;have t:=ff<|mG i 6<|Å É 0;have D:=j.d.C;have E:=j.d.I;have F:=ff r;let⟨tE,Aa⟩:=uM B[k];have qD:=Uf s o;have h:st.C=[]:=by rw[<-i.I];exact aa3 s o
 have G:st.d.r=Î:=by
  rcases i.N with q|q
  .exact q
  .rw[h]at q;cases q
 have v:=ff<|aqz (B:=B) (k:=k) (c:=(B[k].toNat:Int)) (st:={st with r:=0}) h;clear h i j;rcases n with⟨H,oE⟩|H;all_goals
  go_wp2_with (first|(go_at_call 94;refine(rS _ _).mono ?_;rintro e u ⟨rfl,x⟩;subst u)|(go_at_call 95;refine(abv r U G E D _).mono ?_;rintro e u (⟨q,rfl,x⟩|⟨I,q,rfl,J,L,M,N,P⟩)))
  .subst x;exact C _ _ ⟨gk,⟨l,p.out.trans<|v.out.trans q,_,t.out,_,_,_,F.out⟩⟩
  .exact⟨gk,⟨l,I,p.out.trans<|v.out.trans q,t.out.fg J,L,M,N,P⟩⟩
theorem aqO{X:Ĉ->Í->Prop}(z:Fr b B (Å É k) y) (i:gO m b g O s st w) (j:jr B k st) (P:B.size<=1200) (o:k<B.size) (p:(0<st.r/\j0 (B[k].toNat:Int)=Ë)\/st.r<=0) (q:0<s.size) (l:((s[0]'q).toNat:Int)=82) (Q:∀y u,Fr b B (Å É<|(k:Int)+1) y/\rU m b B k st w u->K y u) (C:∀y u,Fr b B (Å É k) y/\rV m b B k st w u->X y u): ß À qg (Exit.then K<|QQ X) y w:=by
 obtain⟨f,rfl⟩:=z;unfold pD;conv=>arg 2;whnf
 have S:w.cell? ⟨b,0,Á⟩=Â (Ä s):=i.r.r 0 _ U;have T:w.cell? ⟨b,6,Á⟩=Â (Å É st.r):=i.r.r 6 _ U;have V:w.cell? ⟨b,7,Á⟩=Â (Å É st.I):=i.r.r 7 _ U;have W:=i.r.C 0;have Y:=i.r.C 6;have f7:=i.r.C 7;have d0:=j.M;have d1:=j.r;have e0:=j.C;have e1:=j.I;have r:=ff<|uL (B:=B) (k:=k)<|uK p;have t:=i.Y 0 λh=>absurd h A;have v:=ff<|mG i 6<|Å É 0;have Ab:=j.d.C;have Cp:=j.d.I;have D:=ff t;let⟨tE,Aa⟩:=uM B[k];have qD:=sZ s Z;have xY:s.size<=10:=i.M;have E:=ff (show st.C=(s[0].toNat:Int)::(jS s).tail by rw[<-i.I];exact vP s q);have x:=ff<|aqA (B:=B) (k:=k) (c:=(B[k].toNat:Int)) (st:={st with r:=0}) E.out l;have xZ:((s[0].toNat:Int)==82)=Î:=by rw[l];rfl
 have F:=ff λe=>(j.d.N e).1;clear l i j;rcases p with⟨G,oE⟩|G;all_goals
  go_wp2_with (first|(go_at_call 94;refine(rS _ _).mono ?_;rintro e u ⟨rfl,h⟩;subst u)|(go_at_call 97;refine(ap0 _ _).mono ?_;rintro e u ⟨rfl,h⟩;subst u)|(go_at_call 96;refine(aqK t U F.out (by show st.d.C.length<=100000;omega) _).mono ?_;rintro e u (⟨n,rfl,h⟩|⟨H,n,rfl,I,J,L,M,N⟩)))
  .subst h;exact C _ _ ⟨gk,⟨o,r.out.trans<|x.out.trans n,_,v.out,_,_,_,D.out⟩⟩
  .exact⟨gk,⟨o,H,r.out.trans<|x.out.trans n,v.out.fg I,J,L,M,N⟩⟩
end
section
variable{g:Gh}{s:ByteArray}{st:PS}{d:PD}
def aqP{X:Ĉ->Í->Prop}(t:Fr b B (Å É k) y) (f:gO m b g O s st w) (i:jr B k st) (M:B.size<=1200) (v:k<B.size) (l:(0<st.r/\j0 (B[k].toNat:Int)=Ë)\/st.r<=0) (n:0<s.size) (j:((s[0]'n).toNat:Int)=66) (o:rN (B[k].toNat:Int)=Î) (N:∀y u,Fr b B (Å É<|(k:Int)+1) y/\rU m b B k st w u->K y u) (_hQ:∀y u,Fr b B (Å É k) y/\rV m b B k st w u->X y u): ß À qg (Exit.then K<|QQ X) y w:=by
 obtain⟨c,rfl⟩:=t;unfold pD;conv=>arg 2;whnf
 have P:w.cell? ⟨b,0,Á⟩=Â (Ä s):=f.r.r 0 _ U;have Q:w.cell? ⟨b,6,Á⟩=Â (Å É st.r):=f.r.r 6 _ U;have S:w.cell? ⟨b,7,Á⟩=Â (Å É st.I):=f.r.r 7 _ U;have T:=f.r.C 0;have V:=f.r.C 6;have W:=f.r.C 7;have Y:=i.M;have d1:=i.r;have e0:=i.C;have e1:=i.I;have x:=ff<|uL (B:=B) (k:=k)<|uK l;have p:=f.Y 0 λh=>absurd h A;have z:=ff<|mG f 6<|Å É 0;have Ab:=i.d.C;have Cp:=i.d.I;have HH1:=ff p;let⟨C,D⟩:=uM B[k];have qD:=sZ s Z;have xY:s.size<=10:=f.M;have h:=ff (show st.C=(s[0].toNat:Int)::(jS s).tail by rw[<-f.I];exact vP s n);have r:st.d.r=Î:=by
  rcases f.N with q|q
  .exact q
  .rw[h.out]at q;injection q with q;omega
 have q:=ff<|aqB (B:=B) (k:=k) (st:={st with r:=0}) h.out j o;have xZ:((s[0].toNat:Int)==82)=Ë:=by rw[j];rfl
 have E5:((s[0].toNat:Int)==66)=Î:=by rw[j];rfl
 clear j f i;rcases l with⟨E,oE⟩|E;all_goals
  go_wp2_with (first|(go_at_call 94;refine(rS _ _).mono ?_;rintro e u ⟨rfl,F⟩;subst u)|(go_at_call 98;refine(TW _ C D _).mono ?_;rintro e u ⟨rfl,F⟩;subst u)|(go_at_call 99;refine(abg p U r<|by show st.d.Y.length<=100000;omega).mono ?_;rintro e u ⟨rfl,F,H,I,J,G⟩)|(go_at_call 100;refine(Lq G U r _ _<|show qe 120 _=Î from o).mono ?_;rintro e w'' ⟨rfl,G,H,I,J,L⟩))
  exact⟨gk,⟨v,_,x.out.trans q.out,z.out.fg<|F.fg G,H,I,J,L⟩⟩
def aqQ{X:Ĉ->Í->Prop}(z:Fr b B (Å É k) y) (f:gO m b g O s st w) (i:jr B k st) (V:B.size<=1200) (l:k<B.size) (n:(0<st.r/\j0 (B[k].toNat:Int)=Ë)\/st.r<=0) (o:0<s.size) (j:((s[0]'o).toNat:Int)=66) (C:rN (B[k].toNat:Int)=Ë) (W:∀y u,Fr b B (Å É<|(k:Int)+1) y/\rU m b B k st w u->K y u) (D:∀y u,Fr b B (Å É k) y/\rV m b B k st w u->X y u): ß À qg (Exit.then K<|QQ X) y w:=by
 obtain⟨c,rfl⟩:=z;unfold pD;conv=>arg 2;whnf
 have Y:w.cell? ⟨b,0,Á⟩=Â (Ä s):=f.r.r 0 _ U;have c6:w.cell? ⟨b,6,Á⟩=Â (Å É st.r):=f.r.r 6 _ U;have c7:w.cell? ⟨b,7,Á⟩=Â (Å É st.I):=f.r.r 7 _ U;have f0:=f.r.C 0;have f6:=f.r.C 6;have f7:=f.r.C 7;have d0:=i.M;have d1:=i.r;have e0:=i.C;have e1:=i.I;have p:=ff<|uL (B:=B) (k:=k)<|uK n;have r:=f.Y 0 λh=>absurd h A;have t:=ff<|mG f 6<|Å É 0;have E:=i.d.C;have F:=i.d.I;have G:=ff r;let⟨H,I⟩:=uM B[k];have qD:=sZ s Z;have xY:s.size<=10:=f.M;have v:=ff (show st.C=(s[0].toNat:Int)::(jS s).tail by rw[<-f.I];exact vP s o);have J:st.d.r=Î:=by
  rcases f.N with q|q
  .exact q
  .rw[v.out]at q;injection q with q;omega
 have x:=ff<|aqC (B:=B) (k:=k) (st:={st with r:=0}) v.out j C;have xZ:((s[0].toNat:Int)==82)=Ë:=by rw[j];rfl
 have E5:((s[0].toNat:Int)==66)=Î:=by rw[j];rfl
 clear j f i;rcases n with⟨L,oE⟩|L;all_goals
  go_wp2_with (first|(go_at_call 94;refine(rS _ _).mono ?_;rintro e u ⟨rfl,h⟩;subst u)|(go_at_call 98;refine(TW _ H I _).mono ?_;rintro e u ⟨rfl,h⟩;subst u)|(go_at_call 95;refine(abv r U J F E _).mono ?_;rintro e u (⟨q,rfl,h⟩|⟨M,q,rfl,N,P,Q,S,T⟩)))
  .subst h;exact D _ _ ⟨gk,⟨l,p.out.trans<|x.out.trans q,_,t.out,_,_,_,G.out⟩⟩
  .exact⟨gk,⟨l,M,p.out.trans<|x.out.trans q,t.out.fg N,P,Q,S,T⟩⟩
theorem aqR{X:Ĉ->Í->Prop}(C:Fr b B (Å É k) y) (i:gO m b g O s st w) (j:jr B k st) (Q:B.size<=1200) (o:k<B.size) (p:(0<st.r/\j0 (B[k].toNat:Int)=Ë)\/st.r<=0) (r:0<s.size) (l:((s[0]'r).toNat:Int)=84) (S:∀y u,Fr b B (Å É<|(k:Int)+1) y/\rU m b B k st w u->K y u) (D:∀y u,Fr b B (Å É k) y/\rV m b B k st w u->X y u): ß À qg (Exit.then K<|QQ X) y w:=by
 obtain⟨f,rfl⟩:=C;unfold pD;conv=>arg 2;whnf
 have T:w.cell? ⟨b,0,Á⟩=Â (Ä s):=i.r.r 0 _ U;have V:w.cell? ⟨b,6,Á⟩=Â (Å É st.r):=i.r.r 6 _ U;have W:w.cell? ⟨b,7,Á⟩=Â (Å É st.I):=i.r.r 7 _ U;have Y:=i.r.C 0;have f6:=i.r.C 6;have f7:=i.r.C 7;have d0:=j.M;have d1:=j.r;have e0:=j.C;have e1:=j.I;have t:=ff<|uL (B:=B) (k:=k)<|uK p;have v:=i.Y 0 λh=>absurd h A;have x:=ff<|mG i 6<|Å É 0;have Ab:=j.d.C;have Cp:=j.d.I;have E:=ff v;let⟨tE,Aa⟩:=uM B[k];have qD:=sZ s Z;have xY:s.size<=10:=i.M;have h:=ff (show st.C=(s[0].toNat:Int)::(jS s).tail by rw[<-i.I];exact vP s r);have F:st.d.r=Î:=by
  rcases i.N with q|q
  .exact q
  .rw[h.out]at q;injection q with q;omega
 have G:st.d.M=Î:=j.N (by rw[h.out,l];simp);have z:=ff<|aqD (B:=B) (k:=k) (c:=(B[k].toNat:Int)) (st:={st with r:=0}) h.out l;have xZ:((s[0].toNat:Int)==82)=Ë:=by rw[l];rfl
 have E5:((s[0].toNat:Int)==66)=Ë:=by rw[l];rfl
 have E6:((s[0].toNat:Int)==84)=Î:=by rw[l];rfl
 clear l i j;rcases p with⟨H,oE⟩|H;all_goals
  go_wp2_with (first|(go_at_call 94;refine(rS _ _).mono ?_;rintro e u ⟨rfl,q⟩;subst u)|(go_at_call 102;refine(apZ _ _).mono ?_;rintro e u ⟨rfl,q⟩;subst u)|(go_at_call 101;refine(aqL v U F G _).mono ?_;rintro e u (⟨n,rfl,q⟩|⟨I,n,rfl,J,L,M,N,P⟩)))
  .subst q;exact D _ _ ⟨gk,⟨o,t.out.trans<|z.out.trans n,_,x.out,_,_,_,E.out⟩⟩
  .exact⟨gk,⟨o,I,t.out.trans<|z.out.trans n,x.out.fg J,L,M,N,P⟩⟩
end
section
variable{g:Gh}{s:ByteArray}{st:PS}{d:PD}
theorem aqS{X:Ĉ->Í->Prop}(N:Fr b B (Å É k) y) (i:gO m b g O s st w) (j:jr B k st) (hB:B.size<=1200) (P:k<B.size) (E:(0<st.r/\j0 (B[k].toNat:Int)=Ë)\/st.r<=0) (F:0<s.size) (l:((s[0]'F).toNat:Int)=80) (r:(B[k].toNat:Int)=125) (hK:∀y u,Fr b B (Å É<|(k:Int)+1) y/\rU m b B k st w u->K y u) (_hQ:∀y u,Fr b B (Å É k) y/\rV m b B k st w u->X y u): ß À qg (Exit.then K<|QQ X) y w:=by
 obtain⟨f,rfl⟩:=N;unfold pD;conv=>arg 2;whnf
 have c0:w.cell? ⟨b,0,Á⟩=Â (Ä s):=i.r.r 0 _ U;have c6:w.cell? ⟨b,6,Á⟩=Â (Å É st.r):=i.r.r 6 _ U;have Q:w.cell? ⟨b,7,Á⟩=Â (Å É st.I):=i.r.r 7 _ U;have f0:=i.r.C 0;have f6:=i.r.C 6;have f7:=i.r.C 7;have d0:=j.M;have d1:=j.r;have S:=j.C;have T:=j.I;have G:=ff<|uL (B:=B) (k:=k)<|uK E;have v:=i.Y 0 λh=>absurd h A;have H:=ff<|mG i 6<|Å É 0;have Ab:=j.d.C;have Cp:=j.d.I;have V:=ff v;let⟨tE,Aa⟩:=uM B[k];have qD:=sZ s Z;have xY:s.size<=10:=i.M;have h:=ff (show st.C=(s[0].toNat:Int)::(jS s).tail by rw[<-i.I];exact vP s F);have z:st.d.r=Î:=by
  rcases i.N with q|q
  .exact q
  .rw[h.out]at q;injection q with q;omega
 have C:st.d.M=Î:=j.N (by rw[h.out,l];simp);have W:w.cell? ⟨b,3,Á⟩=Â (Ã<|g.Y st.d):=i.r.r 3 _ U;rw[Ik C]at W;let⟨Y,I,q⟩:=(i.C.r z).C C;have Ug:w.cell? ⟨g.t,5,Á⟩=Â (Ä st.d.N.p):=q.r 5 _ (by have:=Co st.d.N.c<|Ä st.d.N.p;rwa[I]at this);have Uh:=q.C 5;have MG:¬b=g.t:=λe=>fi.S q i.r A e.symm;have ME:¬g.t=b:=fi.S q i.r A;let⟨MH,_⟩:=j.Y (by rw[h.out,l];simp);have xZ:((s[0].toNat:Int)==82)=Ë:=by rw[l];rfl
 have E5:((s[0].toNat:Int)==66)=Ë:=by rw[l];rfl
 have E6:((s[0].toNat:Int)==84)=Ë:=by rw[l];rfl
 have Io:((s[0].toNat:Int)==80)=Î:=by rw[l];rfl
 clear Y I q;have J:=ff<|aqE (B:=B) (k:=k) (st:={st with r:=0}) h.out l r;have Ui:((B[k].toNat:Int) !=125)=Ë:=by rw[r];rfl
 obtain⟨n,L⟩:∃t:Nat,st.I=(t:Int):=⟨st.I.toNat,Z⟩;have o:=v.sX z C<|B.extract (k-n) k;have M:=o.1.abx z h.out;have D:=ff (Ê (show qL B k st (B[k].toNat:Int)=Â {({st with r:=0}:PS)with C:=(jS s).tail,d:=st.d.sX (B.extract (k-n) k)} by rw[G.out,J.out,show({st with r:=0}:PS).I.toNat=n by show st.I.toNat=n;omega])<|Ê ((H.out.fg o.2).fg<|mG o.1 0<|Ä<|s.extract 1 s.size) M);rw[L]at Q S T MH;clear r l i j o M L J G H V v;rcases E with⟨BG,oE⟩|BG;all_goals
  go_wp2_with (first|(go_at_call 94;refine(rS _ _).mono ?_;rintro e u ⟨rfl,x⟩;subst u))
  go_region
  all_goals
   go_wp2;exact⟨gk,⟨P,_,D.out.1,D.out.2.1.C (fc.fS fh _) λ_ _ x=>x.elim,_,_,_,D.out.2.2.fS⟩⟩
theorem aqT{X:Ĉ->Í->Prop}(C:Fr b B (Å É k) y) (i:gO m b g O s st w) (j:jr B k st) (Q:B.size<=1200) (D:k<B.size) (v:(0<st.r/\j0 (B[k].toNat:Int)=Ë)\/st.r<=0) (x:0<s.size) (l:((s[0]'x).toNat:Int)=80) (o:¬(B[k].toNat:Int)=125) (r:st.I=40) (_hK:∀y u,Fr b B (Å É<|(k:Int)+1) y/\rU m b B k st w u->K y u) (E:∀y u,Fr b B (Å É k) y/\rV m b B k st w u->X y u): ß À qg (Exit.then K<|QQ X) y w:=by
 obtain⟨f,rfl⟩:=C;unfold pD;conv=>arg 2;whnf
 have S:w.cell? ⟨b,0,Á⟩=Â (Ä s):=i.r.r 0 _ U;have T:w.cell? ⟨b,6,Á⟩=Â (Å É st.r):=i.r.r 6 _ U;have V:w.cell? ⟨b,7,Á⟩=Â (Å É st.I):=i.r.r 7 _ U;have W:=i.r.C 0;have Y:=i.r.C 6;have f7:=i.r.C 7;have d0:=j.M;have d1:=j.r;have e0:=j.C;have e1:=j.I;have F:=ff<|uL (B:=B) (k:=k)<|uK v;have G:=i.Y 0 λh=>absurd h A;have H:=ff<|mG i 6<|Å É 0;have Ab:=j.d.C;have Cp:=j.d.I;have I:=ff G;let⟨tE,Aa⟩:=uM B[k];have qD:=sZ s Z;have xY:s.size<=10:=i.M;have n:=ff (show st.C=(s[0].toNat:Int)::(jS s).tail by rw[<-i.I];exact vP s x);have J:st.d.r=Î:=by
  rcases i.N with q|q
  .exact q
  .rw[n.out]at q;injection q with q;omega
 have q:st.d.M=Î:=j.N (by rw[n.out,l];simp);have L:w.cell? ⟨b,3,Á⟩=Â (Ã<|g.Y st.d):=i.r.r 3 _ U;rw[Ik q]at L;let⟨M,z,h⟩:=(i.C.r J).C q;have Ug:w.cell? ⟨g.t,5,Á⟩=Â (Ä st.d.N.p):=h.r 5 _ (by have:=Co st.d.N.c<|Ä st.d.N.p;rwa[z]at this);have Uh:=h.C 5;have MG:¬b=g.t:=λe=>fi.S h i.r A e.symm;have ME:¬g.t=b:=fi.S h i.r A;let⟨MH,_⟩:=j.Y (by rw[n.out,l];simp);have xZ:((s[0].toNat:Int)==82)=Ë:=by rw[l];rfl
 have E5:((s[0].toNat:Int)==66)=Ë:=by rw[l];rfl
 have E6:((s[0].toNat:Int)==84)=Ë:=by rw[l];rfl
 have Io:((s[0].toNat:Int)==80)=Î:=by rw[l];rfl
 clear M z h;have Ui:((B[k].toNat:Int) !=125)=Î:=by rwa[bne_iff_ne]
 have N:=ff<|abw (B:=B) (k:=k) (st:={st with r:=0}) n.out l o<|È r;have aby:(st.I==40)=Î:=by rw[r];rfl
 clear r o l i j;rcases v with⟨P,oE⟩|P;all_goals
  go_wp2_with (first|(go_at_call 94;refine(rS _ _).mono ?_;rintro e u ⟨rfl,hw⟩;subst u))
  exact E _ _ ⟨gk,⟨D,F.out.trans N.out,_,H.out,_,_,_,I.out⟩⟩
theorem aqU{X:Ĉ->Í->Prop}(E:Fr b B (Å É k) y) (i:gO m b g O s st w) (j:jr B k st) (S:B.size<=1200) (F:k<B.size) (v:(0<st.r/\j0 (B[k].toNat:Int)=Ë)\/st.r<=0) (x:0<s.size) (l:((s[0]'x).toNat:Int)=80) (o:¬(B[k].toNat:Int)=125) (r:¬st.I=40) (z:¬lO (B[k].toNat:Int)=0) (T:∀y u,Fr b B (Å É<|(k:Int)+1) y/\rU m b B k st w u->K y u) (_hQ:∀y u,Fr b B (Å É k) y/\rV m b B k st w u->X y u): ß À qg (Exit.then K<|QQ X) y w:=by
 obtain⟨f,rfl⟩:=E;unfold pD;conv=>arg 2;whnf
 have V:w.cell? ⟨b,0,Á⟩=Â (Ä s):=i.r.r 0 _ U;have W:w.cell? ⟨b,6,Á⟩=Â (Å É st.r):=i.r.r 6 _ U;have Y:w.cell? ⟨b,7,Á⟩=Â (Å É st.I):=i.r.r 7 _ U;have f0:=i.r.C 0;have f6:=i.r.C 6;have f7:=i.r.C 7;have d0:=j.M;have d1:=j.r;have e0:=j.C;have e1:=j.I;have G:=ff<|uL (B:=B) (k:=k)<|uK v;have H:=i.Y 0 λh=>absurd h A;have I:=ff<|mG i 6<|Å É 0;have Ab:=j.d.C;have Cp:=j.d.I;have C:=ff H;let⟨tE,Aa⟩:=uM B[k];have qD:=sZ s Z;have xY:s.size<=10:=i.M;have n:=ff (show st.C=(s[0].toNat:Int)::(jS s).tail by rw[<-i.I];exact vP s x);have J:st.d.r=Î:=by
  rcases i.N with q|q
  .exact q
  .rw[n.out]at q;injection q with q;omega
 have q:st.d.M=Î:=j.N (by rw[n.out,l];simp);have L:w.cell? ⟨b,3,Á⟩=Â (Ã<|g.Y st.d):=i.r.r 3 _ U;rw[Ik q]at L;let⟨M,D,h⟩:=(i.C.r J).C q;have Ug:w.cell? ⟨g.t,5,Á⟩=Â (Ä st.d.N.p):=h.r 5 _ (by have:=Co st.d.N.c<|Ä st.d.N.p;rwa[D]at this);have Uh:=h.C 5;have MG:¬b=g.t:=λe=>fi.S h i.r A e.symm;have ME:¬g.t=b:=fi.S h i.r A;let⟨MH,_⟩:=j.Y (by rw[n.out,l];simp);have xZ:((s[0].toNat:Int)==82)=Ë:=by rw[l];rfl
 have E5:((s[0].toNat:Int)==66)=Ë:=by rw[l];rfl
 have E6:((s[0].toNat:Int)==84)=Ë:=by rw[l];rfl
 have Io:((s[0].toNat:Int)==80)=Î:=by rw[l];rfl
 clear M D h;have Ui:((B[k].toNat:Int) !=125)=Î:=by rwa[bne_iff_ne]
 have N:=ff<|aqF (B:=B) (k:=k) (st:={st with r:=0}) n.out l o r z;have aby:(st.I==40)=Ë:=by rwa[beq_eq_false_iff_ne]
 have zd:((lO (B[k].toNat:Int):Int)==0)=Ë:=by rw[beq_eq_false_iff_ne];omega
 clear r o l i j z;rcases v with⟨P,oE⟩|P;all_goals
  go_wp2_with (first|(go_at_call 94;refine(rS _ _).mono ?_;rintro e u ⟨rfl,Q⟩;subst u)|(go_at_call 103;refine(p6 _ _).mono ?_;rintro e u ⟨rfl,Q⟩;subst u))
  exact⟨gk,⟨F,_,G.out.trans N.out,I.out.fg<|mG C.out 7 _,_,_,_,C.out.abd _⟩⟩
theorem aqV{X:Ĉ->Í->Prop}(D:Fr b B (Å É k) y) (i:gO m b g O s st w) (j:jr B k st) (T:B.size<=1200) (E:k<B.size) (v:(0<st.r/\j0 (B[k].toNat:Int)=Ë)\/st.r<=0) (x:0<s.size) (l:((s[0]'x).toNat:Int)=80) (o:¬(B[k].toNat:Int)=125) (z:¬st.I=40) (r:lO (B[k].toNat:Int)=0) (_hK:∀y u,Fr b B (Å É<|(k:Int)+1) y/\rU m b B k st w u->K y u) (F:∀y u,Fr b B (Å É k) y/\rV m b B k st w u->X y u): ß À qg (Exit.then K<|QQ X) y w:=by
 obtain⟨f,rfl⟩:=D;unfold pD;conv=>arg 2;whnf
 have V:w.cell? ⟨b,0,Á⟩=Â (Ä s):=i.r.r 0 _ U;have W:w.cell? ⟨b,6,Á⟩=Â (Å É st.r):=i.r.r 6 _ U;have Y:w.cell? ⟨b,7,Á⟩=Â (Å É st.I):=i.r.r 7 _ U;have f0:=i.r.C 0;have f6:=i.r.C 6;have f7:=i.r.C 7;have d0:=j.M;have d1:=j.r;have e0:=j.C;have e1:=j.I;have G:=ff<|uL (B:=B) (k:=k)<|uK v;have H:=i.Y 0 λh=>absurd h A;have I:=ff<|mG i 6<|Å É 0;have Ab:=j.d.C;have Cp:=j.d.I;have J:=ff H;let⟨tE,Aa⟩:=uM B[k];have qD:=sZ s Z;have xY:s.size<=10:=i.M;have n:=ff (show st.C=(s[0].toNat:Int)::(jS s).tail by rw[<-i.I];exact vP s x);have L:st.d.r=Î:=by
  rcases i.N with q|q
  .exact q
  .rw[n.out]at q;injection q with q;omega
 have q:st.d.M=Î:=j.N (by rw[n.out,l];simp);have M:w.cell? ⟨b,3,Á⟩=Â (Ã<|g.Y st.d):=i.r.r 3 _ U;rw[Ik q]at M;let⟨N,C,h⟩:=(i.C.r L).C q;have Ug:w.cell? ⟨g.t,5,Á⟩=Â (Ä st.d.N.p):=h.r 5 _ (by have:=Co st.d.N.c<|Ä st.d.N.p;rwa[C]at this);have Uh:=h.C 5;have MG:¬b=g.t:=λe=>fi.S h i.r A e.symm;have ME:¬g.t=b:=fi.S h i.r A;let⟨MH,_⟩:=j.Y (by rw[n.out,l];simp);have xZ:((s[0].toNat:Int)==82)=Ë:=by rw[l];rfl
 have E5:((s[0].toNat:Int)==66)=Ë:=by rw[l];rfl
 have E6:((s[0].toNat:Int)==84)=Ë:=by rw[l];rfl
 have Io:((s[0].toNat:Int)==80)=Î:=by rw[l];rfl
 clear N C h;have Ui:((B[k].toNat:Int) !=125)=Î:=by rwa[bne_iff_ne]
 have P:=ff<|abw (B:=B) (k:=k) (st:={st with r:=0}) n.out l o<|Ï r;have aby:(st.I==40)=Ë:=by rwa[beq_eq_false_iff_ne]
 have zd:((lO (B[k].toNat:Int):Int)==0)=Î:=by rw[r];rfl
 clear z o l i j r;rcases v with⟨Q,oE⟩|Q;all_goals
  go_wp2_with (first|(go_at_call 94;refine(rS _ _).mono ?_;rintro e u ⟨rfl,S⟩;subst u)|(go_at_call 103;refine(p6 _ _).mono ?_;rintro e u ⟨rfl,S⟩;subst u))
  exact F _ _ ⟨gk,⟨E,G.out.trans P.out,_,I.out,_,_,_,J.out⟩⟩
end
section
variable{g:Gh}{s:ByteArray}{st:PS}{d:PD}
def aqW{X:Ĉ->Í->Prop}(D:Fr b B (Å É k) y) (f:gO m b g O s st w) (i:jr B k st) (Q:B.size<=1200) (E:k<B.size) (v:(0<st.r/\j0 (B[k].toNat:Int)=Ë)\/st.r<=0) (j:0<s.size) (n:¬((s[0]'j).toNat:Int)=82) (o:¬((s[0]'j).toNat:Int)=66) (p:¬((s[0]'j).toNat:Int)=84) (r:¬((s[0]'j).toNat:Int)=80) (x:qe ((s[0]'j).toNat:Int) (B[k].toNat:Int)=Î) (S:∀y u,Fr b B (Å É<|(k:Int)+1) y/\rU m b B k st w u->K y u) (_hQ:∀y u,Fr b B (Å É k) y/\rV m b B k st w u->X y u): ß À qg (Exit.then K<|QQ X) y w:=by
 obtain⟨c,rfl⟩:=D;unfold pD;conv=>arg 2;whnf
 have T:w.cell? ⟨b,0,Á⟩=Â (Ä s):=f.r.r 0 _ U;have V:w.cell? ⟨b,6,Á⟩=Â (Å É st.r):=f.r.r 6 _ U;have W:w.cell? ⟨b,7,Á⟩=Â (Å É st.I):=f.r.r 7 _ U;have Y:=f.r.C 0;have f6:=f.r.C 6;have f7:=f.r.C 7;have d0:=i.M;have d1:=i.r;have e0:=i.C;have e1:=i.I;have F:=ff<|uL (B:=B) (k:=k)<|uK v;have G:=f.Y 0 λh=>absurd h A;have H:=ff<|mG f 6<|Å É 0;have Ab:=i.d.C;let⟨I,J⟩:=uM B[k];have qD:=sZ s Z;have xY:s.size<=10:=f.M;have l:=ff (show st.C=(s[0].toNat:Int)::(jS s).tail by rw[<-f.I];exact vP s j);have z:st.d.r=Î:=by
  rcases f.N with q|q
  .exact q
  .rw[l.out]at q;injection q with q;omega
 have xZ:((s[0].toNat:Int)==82)=Ë:=by rwa[beq_eq_false_iff_ne]
 have aqX:((s[0].toNat:Int)==66)=Ë:=by rwa[beq_eq_false_iff_ne]
 have E6:((s[0].toNat:Int)==84)=Ë:=by rwa[beq_eq_false_iff_ne]
 have Io:((s[0].toNat:Int)==80)=Ë:=by rwa[beq_eq_false_iff_ne]
 have L:=ff<|aqG (B:=B) (k:=k) (st:={st with r:=0}) l.out n o p r x;have M:=ff x;clear n o p r f i;rcases v with⟨N,oE⟩|N;all_goals
  go_wp2_with (first|(go_at_call 94;refine(rS _ _).mono ?_;rintro e u ⟨rfl,h⟩;subst u)|(go_at_call 104;refine(aa5 _ _ I J _).mono ?_;rintro e u ⟨rfl,h⟩;subst u)|(go_at_call 100;refine(Lq G U z _ _ M.out).mono ?_;rintro e P ⟨rfl,C,g',nm',q,h⟩;have k0:P.cell? ⟨b,0,Á⟩=Â (Ä q):=h.r.r 0 _ U;have kf0:=h.r.C 0;have tF:0<q.size:=h.aqJ l.out;have at7:q.size<=10:=h.M;have t:=ff<|Ê C h;clear C h))
  exact⟨gk,⟨E,_,F.out.trans L.out,H.out.fg<|t.out.1.fg<|mG t.out.2 0 _,_,_,_,t.out.2.abx ((Ua _ _ _).1.trans z) l.out⟩⟩
def aqY{X:Ĉ->Í->Prop}(t:Fr b B (Å É k) y) (f:gO m b g O s st w) (i:jr B k st) (L:B.size<=1200) (v:k<B.size) (r:(0<st.r/\j0 (B[k].toNat:Int)=Ë)\/st.r<=0) (j:0<s.size) (l:¬((s[0]'j).toNat:Int)=82) (n:¬((s[0]'j).toNat:Int)=66) (o:¬((s[0]'j).toNat:Int)=84) (p:¬((s[0]'j).toNat:Int)=80) (x:qe ((s[0]'j).toNat:Int) (B[k].toNat:Int)=Ë) (_hK:∀y u,Fr b B (Å É<|(k:Int)+1) y/\rU m b B k st w u->K y u) (z:∀y u,Fr b B (Å É k) y/\rV m b B k st w u->X y u): ß À qg (Exit.then K<|QQ X) y w:=by
 obtain⟨c,rfl⟩:=t;unfold pD;conv=>arg 2;whnf
 have M:w.cell? ⟨b,0,Á⟩=Â (Ä s):=f.r.r 0 _ U;have N:w.cell? ⟨b,6,Á⟩=Â (Å É st.r):=f.r.r 6 _ U;have P:w.cell? ⟨b,7,Á⟩=Â (Å É st.I):=f.r.r 7 _ U;have Q:=f.r.C 0;have S:=f.r.C 6;have T:=f.r.C 7;have V:=i.M;have W:=i.r;have Y:=i.C;have e1:=i.I;have C:=ff<|uL (B:=B) (k:=k)<|uK r;have D:=f.Y 0 λh=>absurd h A;have E:=ff<|mG f 6<|Å É 0;have Ab:=i.d.C;have Cp:=i.d.I;have F:=ff D;let⟨G,H⟩:=uM B[k];have qD:=sZ s Z;have xY:s.size<=10:=f.M;have h:=ff (show st.C=(s[0].toNat:Int)::(jS s).tail by rw[<-f.I];exact vP s j);have on:st.d.r=Î:=by
  rcases f.N with q|q
  .exact q
  .rw[h.out]at q;injection q with q;omega
 have xZ:((s[0].toNat:Int)==82)=Ë:=by rwa[beq_eq_false_iff_ne]
 have aqX:((s[0].toNat:Int)==66)=Ë:=by rwa[beq_eq_false_iff_ne]
 have E6:((s[0].toNat:Int)==84)=Ë:=by rwa[beq_eq_false_iff_ne]
 have Io:((s[0].toNat:Int)==80)=Ë:=by rwa[beq_eq_false_iff_ne]
 have q:=ff<|aqH (B:=B) (k:=k) (st:={st with r:=0}) h.out l n o p x;clear l n o p f i;rcases r with⟨I,oE⟩|I;all_goals
  go_wp2_with (first|(go_at_call 94;refine(rS _ _).mono ?_;rintro e u ⟨rfl,J⟩;subst u)|(go_at_call 104;refine(aa5 _ _ G H _).mono ?_;rintro e u ⟨rfl,J⟩;subst u))
  exact z _ _ ⟨gk,⟨v,C.out.trans q.out,_,E.out,_,_,_,F.out⟩⟩
end
section
variable{g:Gh}{c:PS}{d:PD}
theorem aqZ{X:Ĉ->Í->Prop}{d:ByteArray}(e:Fr b d (Å É k) y) (f:gO m b g O B c w) (h:jr d k c) (i:d.size<=1200) (j:k<d.size) (l:∀y v,Fr b d (Å É<|(k:Int)+1) y/\rU m b d k c w v->K y v) (n:∀y v,Fr b d (Å É k) y/\rV m b d k c w v->X y v): ß À qg (Exit.then K<|QQ X) y w:=by
 by_cases x:0<c.r/\j0 (d[k].toNat:Int)=Î
 .grind [aqM]
 have o:(0<c.r/\j0 (d[k].toNat:Int)=Ë)\/c.r<=0:=by grind
 by_cases z:B.size=0
 .grind [aqN]
 have p:0<B.size:=Z
 by_cases r:(B[0].toNat:Int)=82
 .grind [aqO]
 by_cases q:(B[0].toNat:Int)=66
 .cases s:rN (d[k].toNat:Int)with
  |true=>exact aqP e f h i j o p q s l n
  |false=>exact aqQ e f h i j o p q s l n
 by_cases s:(B[0].toNat:Int)=84
 .grind [aqR]
 by_cases t:(B[0].toNat:Int)=80
 .grind [aqS,aqT,aqV,aqU]
 cases u:qe (B[0].toNat:Int) (d[k].toNat:Int)with
 |true=>exact aqW e f h i j o p r q s t u l n
 |false=>exact aqY e f h i j o p r q s t u l n
def aq0{X:Ĉ->Í->Prop}(c:Fr b B (Å É k) y)(_hB:B.size<=1200)(e:¬k<B.size)(_hk:k<=B.size) (d:∀y v,Fr b B (Å É k) y/\v=w->X y v): ß À qg (Exit.then K<|QQ X) y w:=by
 obtain⟨u,rfl⟩:=c;unfold pD;conv=>arg 2;whnf
 go_wp2;exact d _ _ ⟨gk,U⟩
def mV(B:ByteArray):Nat×PS:=oe B B.size 0 sY
def RI(m b:Nat)(d:ByteArray)(w:Í)(a:Ĉ)(e:Í):Prop:=
 ∃(k:Nat) (g:Gh) (O:Option ü) (B:ByteArray) (c:PS),k<=d.size/\Fr b d (Å É k) a/\gO m b g O B c e/\fc (λi=>m<=i) w e/\jr d k c/\mV d=oe d (d.size-k) k c
def Rmu(B:ByteArray)(a:Ĉ)(_:Í):Nat:=B.size-(intOf<|a.tmps.getD 5 ĸ).toNat
def RX(m b:Nat)(B:ByteArray)(w:Í)(a:Ĉ)(d:Í):Prop:=
 ∃(k:Nat) (c:PS),k<=B.size/\Fr b B (Å É k) a/\rT m b c w d/\(mV B).1=k/\(k=B.size->(mV B).2=c)
def abz{i:Int}{w:Í}(h:Fr b B (Å É i) y):Rmu B y w=B.size-i.toNat:=by obtain⟨u,rfl⟩:=h;rfl
def aq1{a:PS}(b:k<B.size)(d:qL B k c (B[k].toNat:Int)=Â a):oe B (B.size-k) k c=oe B (B.size-(k+1)) (k+1) a:=by rw[show B.size-k=(B.size-(k+1))+1 by omega,oe,dif_pos b,d]
def aq2(a:k<B.size)(b:qL B k c (B[k].toNat:Int)=Á):oe B (B.size-k) k c=(k,c):=by rw[show B.size-k=(B.size-(k+1))+1 by omega,oe,dif_pos a,b]
def aq3{d:ByteArray}(i:Fr b d (Å É 0) y)(h:gO m b g O B sY w)(r:d.size<=1200): ß À (ń qg) (QQ<|RX m b d w) y w:=by
 apply Γ (RI m b d w) (Rmu d) ⟨0,g,O,B,sY,Ø _,i,h,fc.fU _ _,Ud d,U⟩;rintro y x ⟨k,g,O,B,c,n,i,s,o,t,p⟩;by_cases j:k<d.size
 .refine aqZ i s t r j ?_ ?_
  .rintro u v ⟨f,z,e,l,q,C,D,E,F⟩;refine⟨⟨k+1,C,D,E,e,Z,by simpa using f,F,o.fg q,abp t j l,p.trans<|aq1 j l⟩,?_⟩;rw[abz f,abz (w:=x) i];omega
  .rintro u v ⟨f,z,l,C,q,D⟩;have:=p.trans<|aq2 j l;exact⟨k,C,n,f,⟨o.fg q,D⟩,by rw[this],λe=>by omega⟩
 .apply aq0 i r j n;rintro u v ⟨f,rfl⟩;have:mV d=(k,c):=by rw[p,show d.size-k=0 by omega];rfl
  exact⟨k,c,n,f,⟨o,g,O,B,s⟩,by rw[this],λ_=>by rw[this]⟩
def aq4{c:ByteArray}(h:gO m b g O B sY w)(f:c.size<=1200): Ò À 61 #[Ã<|Â ⟨b,0,Á⟩,Ä c] w λe u=>
  ∃(k:Nat) (d:PS),k<=c.size/\e=Æ (Å É k)/\rT m b d w u/\(mV c).1=k/\(k=c.size->(mV c).2=d):=by
 go_enter Tryz.func61,Tryz.ntmps61;go_wp2;go_step3;go_wp2;go_step3;go_wp2;refine İ ?_ (aq3 gk h f);rintro(_|(_|_)|_|_|_|_) a v hq;all_goals first|exact absurd hq id|skip
 let⟨k,d,i,j,l⟩:=hq;obtain⟨e,rfl⟩:=j;unfold pD;go_wp2;(try rw[Exit.noGoto_ret]);go_ret;exact⟨k,d,i,U,(ff l).out⟩
end
def mH(B:ByteArray):Int×Bool×List PR:=
 if B.size=0 then(0,Î,[])else(((mV B).1:Int),decide ((mV B).1=B.size)&&(decide ((mV B).2.C=[])||decide ((mV B).2.C=[66])),(mV B).2.d.C)
def iy(B:ByteArray):Int×Int×List PR:=
 if 1200<B.size then(1,0,[])else if(mH B).2.1=Î then(0,0,(mH B).2.2)else(2,(mH B).1,[])
def Cq(m:Nat)(v:Ñ)(b:List PR)(w:Í):Prop:=jz m w/\∃a,w.ownsRow m 148 1 v a.length (nA a)/\pB w.heap.size a b w
section
variable{g:Gh}{s:ByteArray}{a:PS}
def Cq.oP(w:Í):Cq w.heap.size (Ç Á 0 0) [] w:=⟨jz.I w,[],⟨U,È ⟨U,U⟩⟩,pB.N _ _⟩
def gO.iL(h:gO m b g O s a w)(c:a.d.r=Ë->a.d.S=[])(n:Nat):Cq m g.N a.d.C (w.drewN n):= ⟨h.a.iO n,g.C a.d,ie h.C.C (fc.iO fh w n) λ_ _=>id,(h.C.abh c).C (fc.iO fh w n) λ_ _ x=>x.elim⟩
def g0(m:Nat):Gh:={a:=[],q:=0,t:=0,B:=m,tb:=[],N:=Ç Á 0 0,r:=Ç Á 0 0,b:=Á}
def aq5(w:Í):gO w.heap.size w.heap.size (g0 w.heap.size) Á ⟨#[82]⟩ sY (w.alloc<|Û #[Ä ⟨#[82]⟩,Ç Á 0 0,Ã Á,Ã Á,Ã Á,Ã Á,Å É 0,Å É 0] 153):= ⟨æ _,(jz.I w).gI _ _ A A (λv e=>by simp at e;rcases e with rfl|rfl|rfl|rfl<;>trivial),fi.N w [Ä ⟨#[82]⟩,Ç Á 0 0,Ã Á,Ã Á,Ã Á,Ã Á,Å É 0,Å É 0] 153,A,A,⟨⟨U,È ⟨U,U⟩⟩,pB.N _ _,(λe=>by cases e),λ_=>rfl⟩,(λq=>by cases q),Ï rfl⟩
def aq6(s:ByteArray):jS s=[66]↔s.toList=[66]:=by
 unfold jS;rw[ByteArray.toList_eq];constructor
 .intro h;match hl:s.data.toList with
  |[]=>rw[hl]at h;simp at h
  |[x]=>
   rw[hl]at h;simp only[ŉ,Ő,List.cons.injEq,and_true]at h;have:x=66:=UInt8.toNat_inj.1 (by have:x.toNat=66:=Z;rw[this];rfl);rw[this]
  |x::y::r=>rw[hl]at h;simp at h
 .intro h;rw[h];rfl
def Uj(a:¬B.size=0):(mH B).1=((mV B).1:Int):=by rw[mH,if_neg a]
def abA(a:¬B.size=0):(mH B).2.2=(mV B).2.d.C:=by rw[mH,if_neg a]
def aq7(a:¬B.size=0)(h:¬(mV B).1=B.size):(mH B).2.1=Ë:=by rw[mH,if_neg a];simp[h]
def abB(a:¬B.size=0)(h:(mV B).1=B.size){x:Bool}(b:x=(decide ((mV B).2.C=[])||decide ((mV B).2.C=[66]))):(mH B).2.1=x:=by rw[mH,if_neg a,b];simp[h]
def aq8(B:ByteArray):(mV B).2.d.r=Ë->(mV B).2.d.S=[]:=λe=>((Ue B.size 0 sY (Ud B)<|Ø _).1.d.N e).1
theorem abC(q:B.size<=1200): Ò À 45 #[Ä B] w λe u=>
  fc fh w u/\∃v,e=Æ (ë #[v,Å É (mH B).1,õ (mH B).2.1])/\((mH B).2.1=Î->Cq w.heap.size v (mH B).2.2 u):=by
 by_cases a:B.size=0
 .have f:=Uf B a;have n:=ff (show mH B=(0,Î,[])from if_pos a);go_enter ε,Ν;go_wp2;apply ÿ (v:=ë #[Ç Á 0 0,Å É 0,õ Î]) (by simp[Ń,Ģ,go_sem]) U;exact⟨fc.fU _ _,_,by rw[n.out],λ_=>by rw[n.out];exact Cq.oP w⟩
 .have f:=sZ B a;have b:=ff a;go_enter ε,Ν;go_wp2_with (go_at_call 61;refine(aq4 (aq5 w) q).mono ?_;rintro e r ⟨k,d,i,rfl,⟨n,g,O,s,c⟩,h,t⟩);have l:fc fh w r:=((fc.gI (λi=>w.heap.size<=i) w _ _).fg n).S λi D x=>by omega
  have E:=c.r.r 0 _ U;have F:=c.r.r 1 _ U;by_cases m:k=B.size
  .subst m;have y:=t U;subst y;have o:=ff c.I;have p:=ff λn=>c.iL (aq8 B) n;have n:=ff h;have d:=ff l;have z:((B.size:Int)==(B.size:Int))=Î:=fp
   by_cases a:s.size=0
   .have f:=Uf s a;have j:=ff (abB b.out n.out (x:=Î)<|by rw[<-o.out,aa3 s a];rfl);go_quiet (fail);go_wp2;apply ÿ (v:=ë #[g.N,Å É B.size,õ Î]) (by simp[Ń,Ģ,go_sem]) U;exact⟨d.out.fg<|fc.iO _ _ _,_,by rw[Uj b.out,n.out,j.out],λ_=>by rw[abA b.out];exact p.out _⟩
   .have f:=sZ s a;have j:=ff (abB b.out n.out (x:=(s.toList==[66])) (by
     rw[<-o.out];have C:¬jS s=[]:=λe=>by have:=TV s;grind
     rw[decide_eq_false C,Bool.false_or,Ę,beq_iff_eq,decide_eq_true_iff,aq6]))
    go_quiet (fail)
    go_wp2;apply ÿ (v:=ë #[g.N,Å É B.size,õ<|s.toList==[66]]) (by simp[Ń,Ģ,go_sem]) U;exact⟨d.out.fg<|fc.iO _ _ _,_,by rw[Uj b.out,n.out,j.out],λ_=>by rw[abA b.out];exact p.out _⟩
  .have z:((k:Int)==(B.size:Int))=Ë:=by rw[beq_eq_false_iff_ne];omega
   have n:=ff (Ê h<|aq7 b.out<|by rwa[h]);have d:=ff l;go_quiet (fail);go_wp2;apply ÿ (v:=ë #[g.N,Å É k,õ Ë]) (by simp[Ń,Ģ,go_sem]) U;exact⟨d.out.fg<|fc.iO _ _ _,_,by rw[Uj b.out,n.out.1,n.out.2],λe=>by rw[n.out.2]at e;cases e⟩
def aq9(h:B.size<=ī): Ò À 36 #[Ä B] w λe u=>
  fc fh w u/\∃v,e=Æ (ë #[v,Å É (iy B).1,Å É (iy B).2.1])/\((iy B).1=0->Cq w.heap.size v (iy B).2.2 u)/\((iy B).1≠0->v=Ç Á 0 0):=by
 unfold ī at h;by_cases b:1200<B.size
 .have a:=ff (show iy B=(1,0,[]) by rw[iy,if_pos b]);go_enter ļ,Ř;go_wp2;apply ÿ (v:=ë #[Ç Á 0 0,Å É 1,Å É 0]) (by simp[Ń,Ľ,go_sem]) U;exact⟨fc.fU _ _,_,by rw[a.out],(λe=>by rw[a.out]at e;cases e),λ_=>rfl⟩
 .have f:B.size<=1200:=Z
  cases c:(mH B).2.1 with
  |true=>
   have a:=ff (show iy B=(0,0,(mH B).2.2) by rw[iy,if_neg b,if_pos c]);go_enter ļ,Ř;go_wp2_with (go_at_call 45;refine(abC f).mono ?_;rintro e i ⟨d,v,rfl,g⟩);apply ÿ (v:=ë #[v,Å É 0,Å É 0]) (by simp[Ń,Ľ,go_sem]) U;exact⟨d,_,by rw[a.out],(λ_=>by rw[a.out];exact g c),λe=>by rw[a.out]at e;exact absurd U e⟩
  |false=>
   have a:=ff (show iy B=(2,(mH B).1,[]) by rw[iy,if_neg b,if_neg (by rw[c];exact Bool.false_ne_true)]);go_enter ļ,Ř;go_wp2_with (go_at_call 45;refine(abC f).mono ?_;rintro e i ⟨d,v,rfl,g⟩);apply ÿ (v:=ë #[Ç Á 0 0,Å É 2,Å É (mH B).1]) (by simp[Ń,Ľ,go_sem]) U;exact⟨d,_,by rw[a.out],(λe=>by rw[a.out]at e;cases e),λ_=>rfl⟩
end
end Go.Proofs.Y.py
namespace Go.Proofs.Y.kZ
open Go Go.Conc Go.Proofs Go.RowKit Go.Proofs.Y.Lift Go.Proofs.Y.gR Go.Proofs.Y.fv Go.Proofs.Y.py
structure Ip(a:Nat)(t:PT)(w:Í):Prop where
 r:∃cs fz,w.heap[a]?=Â (Û cs 200 fz)
 c:∀i,i<5->w.cell? ⟨a,i,Á⟩=Â (Å É<|t.c.getD i 0)
 p:w.cell? ⟨a,5,Á⟩=Â (Ä t.p)
structure ya(r:Nat)(p:PR)(w:Í):Prop where
 c:∀i,i<8->w.cell? ⟨r,i,Á⟩=Â (Å É<|p.c.getD i 0)
 b:∃bp n cp,w.cell? ⟨r,8,Á⟩=Â (Ç bp n cp)/\n=p.r.length/\∀(j:Nat) (t:PT),p.r[j]?=Â t->∃tb a,bp=Â ⟨tb,0,Á⟩/\w.cell? ⟨tb,j,Á⟩=Â (Ã<|Â ⟨a,0,Á⟩)/\Ip a t w
structure RQ(rs:List PR)(v:Ñ)(U:Nat->Prop)(w:Í):Prop where
 C:kB nB U w
 I:fl (k9 U nB) v v
 M:∃bp cp,v=Ç bp rs.length cp/\∀(j:Nat) (p:PR),rs[j]?=Â p->∃sb r,bp=Â ⟨sb,0,Á⟩/\w.cell? ⟨sb,j,Á⟩=Â (Ã<|Â ⟨r,0,Á⟩)/\ya r p w
section
variable{f:Nat->Prop}{rs:List PR}{Y:ft}
theorem ara(h:je Y X u w){t:PT}(d:Y i n)(k:Ip i t u):Ip n t w:=by refine⟨?_,λb f=>(zY h).r d<|k.c b f,(zY h).C d k.p⟩;let⟨c,g,e,j,l,m,o,_⟩:=h.r i n d;let⟨r,s,q⟩:=k.r;grind
theorem arb(h:je Y X u w){r:Nat}{p:PR}(e:Y r i)(k:ya r p u):ya i p w:=by refine⟨λd f=>(zY h).r e<|k.c d f,?_⟩;let⟨G,n,g,l,m,o⟩:=k.b;let⟨x,q,s⟩:=zY h r i 8 _ e l;obtain⟨v,rfl,y⟩:=Ml s;refine⟨v,n,g,q,m,λj t z=> ?_⟩;let⟨tb,a,B,C,H⟩:=o j t z;let⟨I,J,D⟩:=y _ B;obtain⟨E,rfl,F⟩:=zU D;let⟨K,L,M⟩:=zY h tb E j _ F C;grind [Mk,zU,ara]
theorem ard(h:je Y X u w)(b:fl Y v x)(a:RQ rs v f u):RQ rs x (λj=>∃i,f i/\Y i j) w:=by refine⟨TQ h a.C,Mm b a.I,?_⟩;obtain⟨s,i,rfl,c⟩:=a.M;obtain⟨d,rfl,e⟩:=Ml b;refine⟨d,i,U,λj p g=> ?_⟩;let⟨k,r,l,m,t⟩:=c j p g;let⟨y,z,n⟩:=e _ l;obtain⟨o,rfl,q⟩:=zU n;let⟨B,C,D⟩:=zY h k o j _ q m;grind [Mk,zU,arb]
def Cr(k:W.heap[b]?=w.heap[b]?)(h:w.cell? ⟨b,i,Á⟩=Â z):W.cell? ⟨b,i,Á⟩=Â z:=by simp only[à,k];exact h
def arf(l:kB nB X w)(k:∀b,X b->W.heap[b]?=w.heap[b]?){r:Nat}{p:PR}(d:X r)(h:ya r p w):ya r p W:=by
 refine⟨λi e=>Cr (k r d)<|h.c i e,?_⟩;let⟨u,n,v,m,x,y⟩:=h.b;refine⟨u,n,v,Cr (k r d) m,x,λj t z=> ?_⟩;let⟨tb,a,o,q,f⟩:=y j t z;have s:X tb:=by have:=l.r d m;rw[o]at this;exact Cj this
 have g:=Ci<|l.r s q;exact⟨tb,a,o,Cr (k tb s) q,⟨by rw[k a g];exact f.r,λi e=>Cr (k a g)<|f.c i e,Cr (k a g) f.p⟩⟩
def RQ.r(h:RQ rs v f w)(k:∀b,f b->W.heap[b]?=w.heap[b]?):RQ rs v f W:=by
 refine⟨h.C.C k,h.I,?_⟩;obtain⟨g,i,rfl,l⟩:=h.M;refine⟨g,i,U,λj p m=> ?_⟩;let⟨a,r,c,d,n⟩:=l j p m;have e:f a:=by have:=h.I;rw[c]at this;exact Cj this
 exact⟨a,r,c,Cr (k a e) d,arf h.C k (Ci<|h.C.r e d) n⟩
def abD{v:Ñ}(h:mU m i v):fl (k9 (λd=>m<=d/\d<i) nB) v v:=by
 cases v with
 |int k n=>exact .iG k n
 |bool b=>exact .ml b
 |string i=>exact .kC i
 |pointer a=>cases a with
  |none=>exact .lG
  |some a=>exact fl.jL (Y:=k9 (λd=>m<=d/\d<i) nB) ⟨⟨U,h⟩,U,U⟩
 |slice a n c=>cases a with
  |none=>exact .nY n c
  |some a=>exact fl.kD (Y:=k9 (λd=>m<=d/\d<i) nB) ⟨⟨U,h⟩,U,U⟩ n c
 |_=>exact absurd h<|by simp[mU]
def arh{v:Ñ}(h:mU m i v):yg v=Ë:=by
 cases v with
 |int k n=>cases k<;>first|rfl|exact absurd h<|by simp[mU]
 |_=>rfl
def ari(h:jz m w):kB nB (λi=>m<=i/\i<w.heap.size) w:=λb i=>by let⟨c,e,f,g,j,k,l,n,d⟩:=h b _ i.1<|å i.2;exact⟨c,e,f,by rw[å i.2,g],j,pn λv a=>abD<|d v a,k,zW λv a=>arh<|d v a,l,n⟩
theorem Lp{base:Nat}(h:w.ownsRow base e 1 v jJ.length (nA jJ)):∃b f,v=Ç b jJ.length f/\∀(j r:Nat),jJ[j]?=Â r->∃a,b=Â ⟨a,0,Á⟩/\base<=a/\w.cell? ⟨a,j,Á⟩=Â (Ã<|Â ⟨r,0,Á⟩):=by
 obtain⟨m,⟨n,o⟩|⟨g,p,q,rfl,i,k,s,t,u,l⟩⟩:=h
 .grind
 .refine⟨_,_,U,λj r c=>⟨g,U,i,?_⟩⟩;have x:=(Õ.1 c).1;have d:(nA jJ)[j]?=Â (Ã<|Â ⟨r,0,Á⟩):=by simp[nA,c]
  rw[<-l,List.getElem?_take_of_lt Z]at d;simp only[à,k,ö,ì,if_false];simpa using d
def abE(h:fi n (oh zQ++[z]) T w)(a:i<zQ.length):w.cell? ⟨n,i,Á⟩=Â (Å É<|zQ.getD i 0):=h.r i _<|T3 a z
def abF(h:fi i (oh zQ++[z]) T w)(a:zQ.length=n):w.cell? ⟨i,n,Á⟩=Â z:=h.r n _<|by rw[<-a];exact Co zQ z
def arj{r:PR}(h:vS i n r w):ya n r w:=by
 let⟨x,tb,e,l,y,b⟩:=h.I;refine⟨λa c=>abE e (by rwa[h.C]),?_⟩;obtain⟨m,o,rfl,p⟩:=Lp l;refine⟨m,_,o,abF e h.C,b.r,λj t f=> ?_⟩;have g:j<tb.length:=by rw[b.r];exact(Õ.1 f).1
 let⟨s,u,z,v⟩:=p j tb[j]<|Ó g;let⟨_,_,k,d⟩:=b.I j tb[j] t (Ó g) f;exact⟨s,tb[j],u,v,⟨_,_,d⟩,λa c=>abE d (by rwa[k]),abF d k⟩
def ark(h:Cq m v rs w):RQ rs v (λi=>m<=i/\i<w.heap.size) w:=by
 let⟨f,i,b,c⟩:=h;obtain⟨d,k,rfl,l⟩:=Lp b;refine⟨ari f,?_,d,k,by rw[c.I],λj p e=> ?_⟩
 .cases d with
  |none=>exact .nY _ _
  |some a=>
   have:=b.lt a.block (by rcases b.2 with⟨q,_⟩|⟨g,n,o,q,_⟩<;>(cases q;try rfl));exact abD this
 .have a:j<i.length:=by rw[c.I];exact(Õ.1 e).1
  let⟨g,q,o,n⟩:=l j i[j]<|Ó a;exact⟨g,i[j],q,n,arj<|c.M j i[j] p (Ó a) e⟩
end
def abG(B:ByteArray)(z:Ñ)(u:Í):Prop:=∃v,z=ë #[v,Å É (iy B).1,Å É (iy B).2.1]/\((iy B).1=0->∃a,RQ (iy B).2.2 v a u)
def arl(B:ByteArray):wI (abG B):=λv u T D h=>by let⟨x,a,b⟩:=h;refine⟨x,a,λe=> ?_⟩;let⟨U,c⟩:=b e;exact⟨U,c.r λ_ _=>rfl⟩
def arn{l:fe}(f:gy l)(s:¬l.q)(t:nB<=l.w.heap.size)(u:B.size<=ī)(m:Bool)(h:Ē)(k:List Ē): fv.fj À m (λa n=>kg l a/\a.d=l.d/\∃v,n=G (h.finish<|ë #[v,Å É (iy B).1,Å É (iy B).2.1]) k/\((iy B).1=0->∃V,RQ (iy B).2.2 v V a.w/\∀b,V b->a.O b/\l.w.heap.size<=b)) l (G (è À 36 #[Ä B] Ą)<|h::k):=by
 let⟨X,c,C,V⟩:=zt 36 fQ;have D:∀T,Ò À 36 #[Ä B] (World.tp (kX (λj=>False/\¬(lX l).O j) l.w) T 0) fun|Æ v,j=>abG B v j/\j4 j|_,_=>False:=λT=>by refine(aq9 u).mono ?_;rintro e p ⟨g,v,rfl,i,o⟩;exact⟨⟨v,U,λe=>⟨_,ark<|i e⟩⟩,g.gS ES⟩
 refine((Eg yi Li zt (arl B) fQ C V (Eh f) s (λb q=>q.elim) ⟨λb q=>q.elim,t⟩ (λg q=>by cases q) (pn λv g=>by simp at g;subst g;exact .kC B) D m h k).lX f).fO ?_;rintro a n ⟨x',⟨Y,j,v,v',_,E,F,⟨v0,rfl,o⟩,H,I,_,J⟩,rfl,K,L,_,_⟩;cases F with
 |@nD _ cs'' hs my=>
  let⟨M⟩:=cs'';match M,hs with
  |[x,y,z],_=>
   have g:=my 0 fp fp;have p:=my 1 fp fp;have r:=my 2 fp fp;simp at g p r;cases p;cases r;refine⟨K,J,x,H,λe=> ?_⟩;let⟨U,N⟩:=o e;refine⟨_,ard E g (N.r λ_ _=>rfl),λb V=> ?_⟩;let⟨i,_,P⟩:=V;let⟨Q,S⟩:=I i b P;have W:l.w.heap.size<=b:=S.elim (λq=>q.elim) λq=>q.elim (λq=>q.elim) id;refine⟨È (Q.resolve_right λq=> ?_),W⟩;rw[L]at q;have:=f.fx b q;omega
end Go.Proofs.Y.kZ
namespace Go.Proofs.Y.gR
open Go Go.Proofs Go.RowKit Go.Proofs.Y.Lift
def Cs:List Ñ:=iu (jZ 8)++[Ç Á 0 0,Å É 0,Ç Á 0 0]
def aro(w:Í):Ò À 44 #[] w λe a=>∃c B,e=Æ (Ç (Â ⟨c,0,Á⟩) 1 1)/\fi B Cs 147 a/\fi c [Ã<|Â ⟨B,0,Á⟩] 136 a/\fc fh w a:=by
 have d:(iu<|jZ 8).length=144:=rG _;have i:(iu (jZ 8)++[Ç Á 0 0]).length=145:=by rw[Ù,d];rfl
 have f:=ff<|Ê d i;unfold Cs;have j:=ff λW=>anz W;generalize jZ 8=s at*;go_enter Tryz.func44,Tryz.ntmps44;go_wp2_with (first
  |(go_at_call 60;refine(j.out _).mono ?_;rintro e W ⟨rfl,b⟩;have k:=ff b;clear b)
  |(with_reducible refine Ď U (Â 2) U _ _ (S5 U U f.out.1) ?_)
  |(with_reducible refine Ď U (Â 3) U _ _ (anR U U f.out.2) ?_)
  |(with_reducible refine Ď U (Â 4) U _ _ (I' U U) ?_))
 have g:=fi.N (W.alloc<|Û (iu s++[Ç Á 0 0,Å É 0,Ç Á 0 0]).toArray 147) [Ã<|Â ⟨W.heap.size,0,Á⟩] 136;have h:=fc.gI fh (W.alloc<|Û (iu s++[Ç Á 0 0,Å É 0,Ç Á 0 0]).toArray 147) #[Ã<|Â ⟨W.heap.size,0,Á⟩] 136;have l:(W.alloc<|Û (iu s++[Ç Á 0 0,Å É 0,Ç Á 0 0]).toArray 147).heap.size=W.heap.size+1:=fp
 rw[l]at g;have b:=ff<|Ê ((fi.N W (iu s++[Ç Á 0 0,Å É 0,Ç Á 0 0]) 147).I h id)<|Ê g<|(k.out.fg<|fc.gI fh W (iu s++[Ç Á 0 0,Å É 0,Ç Á 0 0]).toArray 147).fg h;go_ret;exact⟨W.heap.size+1,W.heap.size,U,b.out.1,b.out.2.1,b.out.2.2⟩
def arp(n:Int)(j:1<=n)(k:n<=8)(w:Í):Ò À 35 #[Å É n] w λe b=>∃g a B,e=Æ (ë #[Ã<|Â ⟨g,0,Á⟩,Å É 0])/\fi g [Å É n,Ç (Â ⟨a,0,Á⟩) 1 1] 68 b/\fi B Cs 147 b/\fi a [Ã<|Â ⟨B,0,Á⟩] 136 b/\fc fh w b:=by go_enter ζ,Tryz.ntmps35;go_wp2_with (go_at_call 44;refine(aro _).mono ?_;rintro e c ⟨a,B,rfl,f,h,i⟩;have d:=ff<|Ê f<|Ê h i;clear f h i);go_ret2;have f:=fc.gI fh c #[Å É n,Ç (Â ⟨a,0,Á⟩) 1 1] 68;exact⟨c.heap.size,a,B,U,fi.N c [Å É n,Ç (Â ⟨a,0,Á⟩) 1 1] 68,d.out.1.I f id,d.out.2.1.I f id,d.out.2.2.fg f⟩
end Go.Proofs.Y.gR
namespace Go.Proofs.Y.kZ
open Go Go.Conc Go.Proofs Go.RowKit Go.Proofs.Y.Lift Go.Proofs.Y.gR Go.Proofs.Y.fv Go.Proofs.Y.py
section
variable{Y:ft}{a:Nat->Prop}
def abH:∀v∈Cs,(∃k n,v=Å k n/\k≠ū)\/(∃p,v=Ä p)\/v=Ç Á 0 0:=λv k=>by
 unfold Cs at k;rcases â.1 k with q|q
 .rcases TP _ v q with⟨n,rfl⟩|⟨p,rfl⟩
  .exact È ⟨_,_,U,A⟩
  .exact Ï<|È ⟨p,U⟩
 .simp at q;rcases q with rfl|rfl|rfl
  .exact Ï<|Ï U
  .exact È ⟨_,_,U,A⟩
  .exact Ï<|Ï U
def abI:lq [gR.kY]:=⟨A,A,λv b=>by simp at b;subst b;exact⟨⟨(λp a=>by cases a),(λp a=>by cases a),Ø _,Ø _⟩,aai,Ť _,show(0:Int)<1 by decide⟩⟩
def arq(d:gR.fi n Cs 147 w)(f:gR.fi i [Ã<|Â ⟨n,0,Á⟩] 136 w):RD [gR.kY] (Ç (Â ⟨i,0,Á⟩) 1 1) (λk=>k=i\/k=n) w:=by
 refine⟨[(n,gR.kY)],U,abI,⟨_,1,1,U,æ _,⟨U,λj b v e=> ?_⟩⟩,?_,fl.kD (Y:=k9 (λk=>k=i\/k=n) nB) ⟨⟨U,È U⟩,U,U⟩ 1 1⟩
 .cases j with
  |zero=>
   cases e;exact⟨_,0,U,f.r 0 _ U,(anS aai<|by rwa[ő])⟩
  |succ j=>simp at e
 .rintro b (rfl|rfl)
  .refine⟨_,_,_,f,fp,pn λv c=> ?_,fp,zW λv c=> ?_,A,A⟩
   .simp at c;subst c;exact fl.jL (Y:=k9 (λk=>k=b\/k=n) nB) ⟨⟨U,Ï U⟩,U,U⟩
   .simp at c;subst c;rfl
  .refine⟨_,_,_,d,fp,pn λv c=> ?_,by simp[Cs],zW λv c=> ?_,A,A⟩
   .rcases abH v (by simpa using c)with⟨k,a,rfl,_⟩|⟨p,rfl⟩|rfl
    .exact .iG k a
    .exact .kC p
    .exact .nY 0 0
   .rcases abH v (by simpa using c)with⟨k,a,rfl,g⟩|⟨p,rfl⟩|rfl
    .cases k<;>first|rfl|exact absurd U g
    .rfl
    .rfl
def E7(b:Nat)(n:Int)(c:Ñ)(w:Í):Prop:=∃a,w.heap[b]?=Â (Û #[Å É n,c] 68 a)/\a=(0,0)
def E7.r(h:E7 i c v w)(k:W.heap[i]?=w.heap[i]?):E7 i c v W:=by let⟨a,b,d⟩:=h;exact⟨a,k.trans b,d⟩
def ars(h:je Y a u w)(g:∀b,¬a b)(q:Y i j)(k:gR.fi i [Å É c,v] 68 u):∃l,fl Y v l/\E7 j c l w:=by
 let⟨d,r,e,D,s,m,t,z,_,B,_⟩:=h.r i j q;unfold gR.fi at k;rw[k]at m;cases m;have f:=z.N<|g j;let⟨C⟩:=r;match C,f.r with
 |[x,y],_=>
  have o:=f.C 0 fp fp;have p:=f.C 1 fp fp;simp at o p;cases o;exact⟨y,p,s,t,(B<|g j).symm⟩
end
def abJ(n:Int)(z:Ñ)(u:Í):Prop:=∃a b B,z=ë #[Ã<|Â ⟨a,0,Á⟩,Å É 0]/\gR.fi a [Å É n,Ç (Â ⟨b,0,Á⟩) 1 1] 68 u/\RD [gR.kY] (Ç (Â ⟨b,0,Á⟩) 1 1) (λi=>i=b\/i=B) u/\a≠b/\a≠B
def aru(n:Int):wI (abJ n):=λv u T D h=>by let⟨b,c,B,d,e,a⟩:=h;exact⟨b,c,B,d,e,a.1.r λ_ _=>rfl,a.2⟩
def arv{l:fe}(p:gy l)(K:¬l.q)(L:nB<=l.w.heap.size){n:Int}(M:1<=n)(N:n<=8)(C:Bool)(r:Ē)(s:List Ē): fv.fj À C (λf D=>kg l f/\f.d=l.d/\∃a e,D=G (r.finish<|ë #[Ã<|Â ⟨a,0,Á⟩,Å É 0]) s/\E7 a n e f.w/\f.O a/\l.w.heap.size<=a/\∃V,RD [gR.kY] e V f.w/\¬V a/\∀b,V b->f.O b/\l.w.heap.size<=b) l (G (è À 35 #[Å É n] Ą)<|r::s):=by
 let⟨fn,c,P,t⟩:=zt 35 fQ;have Q:∀T,Ò À 35 #[Å É n] (World.tp (kX (λj=>False/\¬(lX l).O j) l.w) T 0) fun|Æ v,h=>abJ n v h/\j4 h|_,_=>False:=λT=>by refine(arp n M N _).mono ?_;rintro e z ⟨a,k,B,rfl,V,m,o,g⟩;exact⟨⟨a,k,B,U,V,arq m o,gR.fi.S V o A,gR.fi.S V m A⟩,g.gS ES⟩
 refine((Eg yi Li zt (aru n) fQ P t (Eh p) K (λb q=>q.elim) ⟨λb q=>q.elim,L⟩ (λg q=>by cases q) (pn λv e=>by simp at e;subst e;exact .iG _ _) Q C r s).lX p).fO ?_;rintro f D ⟨u,⟨Y,h,v,v',_,g,S,⟨a,k,B,rfl,V,m,o,W⟩,X,q7,_,q6⟩,rfl,ha,hR,_,_⟩;have E:∀i j,Y i j->(qw l u).O j/\l.w.heap.size<=j:=λi j e=>by let⟨z,F⟩:=q7 i j e;have H:l.w.heap.size<=j:=F.elim (λq=>q.elim) λq=>q.elim (λq=>q.elim) id;refine⟨È (z.resolve_right λq=> ?_),H⟩;rw[hR]at q;have:=p.fx j q;omega
 cases S with
 |@nD _ cs'' hs my=>
  let⟨ls⟩:=cs'';match ls,hs with
  |[x,y],_=>
   have F:=my 0 fp fp;have H:=my 1 fp fp;simp at F H;cases H;obtain⟨a2,rfl,m3⟩:=Mk F;obtain⟨I,rfl,z⟩:=zU m3;have h2':RD [gR.kY] (Ç (Â ⟨k,0,Á⟩) 1 1) (λi=>i=k\/i=B) {h with tape:=u.w.tape,drawn:=u.w.drawn}:=m.r λ_ _=>rfl;let⟨sP,J,e2⟩:=ars g (λj q=>q.1) z V;let⟨vs,k1,k2,k3,k4,k5⟩:=h2';let⟨vs',n1,n2⟩:=Ia (zY g) J k3;let⟨p1,p2⟩:=E a I z;refine⟨ha,q6,I,sP,X,e2,p1,p2,_,⟨vs',n1.trans k1,k2,n2,TQ g k4,Mm J k5⟩,?_,λb t=> ?_⟩
   .rintro⟨i,hi,e⟩;have:=g.C.2.1 _ _ _ z e;subst this;exact hi.elim o W
   .let⟨i,_,e⟩:=t;exact E i b e
end Go.Proofs.Y.kZ
namespace Go.Proofs.Y.kZ
open Go Go.Conc Go.Proofs Go.RowKit Go.Proofs.Y.Lift Go.Proofs.Y.gR Go.Proofs.Y.fv Go.Proofs.Y.py
structure uN(an:Nat)(xs:List ByteArray)(w:Í):Prop where
 r:∀(p:Nat) (x:ByteArray),xs[p]?=Â x->w.cell? ⟨an,p,Á⟩=Â (Ä x)
 C:w.cell? ⟨an,xs.length,Á⟩=Á
section
variable{an:Nat}{xs:List ByteArray}
theorem uN.qU(h:uN an xs w)(j:0<xs.length):∃c e d,w.heap[an]?=Â (Û c e d)/\c.size=xs.length/\∀v∈c.toList,∃x,v=Ä x:=by
 have i:∀p,p<xs.length->w.cell? ⟨an,p,Á⟩=Â (Ä xs[p]!):=λp a=>h.r p _ (by simp[a]);have b:=i 0 j;have f:=h.C;simp only[à]at b f;cases g:w.heap[an]? with
 |none=>rw[g]at b;cases b
 |some o=>
  cases o<;>rw[g]at b f<;>simp only[ö,ì,if_false]at b f<;>first|cases b|skip
  rename_i c e d;have k:c.size<=xs.length:=by grind
  have l:=λp a=>by have:=i p a;simp only[à,g,ö,ì,if_false]at this;exact this
  have m:xs.length<=c.size:=by grind
  refine⟨c,e,d,U,Nat.le_antisymm k m,λv n=> ?_⟩;let⟨p,a⟩:=ĕ n;have q:p<c.size:=by have:=(Õ.1 a).1;simpa using this
  have:=l p Z;rw[ķ]at a;rw[this]at a;cases a;exact⟨_,U⟩
end
def arw{l:fe}(o:gy l)(F:¬l.q)(H:nB<=l.w.heap.size)(h:uN i vX l.w)(I:0<vX.length)(J:l.M i)(p:ll i=Ë)(f:kN l.w i=Â (0,0))(hn:vX.length<=1000)(K:B.size=1)(L:iP vX+vX.length<=140737488355328)(r:Bool)(k:Ē)(m:List Ē): fv.fj À r (λn s=>kg l n/\n.d=l.d/\s=G (k.finish<|Ä<|kJ B vX) m) l (G (è À 38 #[Ç (Â ⟨i,0,Á⟩) vX.length vX.length,Ä B] Ą)<|k::m):=by
 let⟨fn,c,N,P⟩:=zt 38 fQ;let⟨t,e,Q,y,b2,z⟩:=h.qU I;have C:(λj=>j=i/\¬(lX l).O j)=λj=>j=i:=by funext j;exact propext ⟨λq=>q.1,λq=>⟨q,id⟩⟩
 have S:∀T,Ò À 38 #[Ç (Â ⟨i,0,Á⟩) vX.length vX.length,Ä B] (World.tp (kX (λj=>j=i) l.w) T 0) fun|Æ v,E=>v=Ä (kJ B vX)/\j4 E|_,_=>False:=λT=>by
  refine(TK U Z (æ _) K (λj v a=> ?_) L).mono ?_
  .unfold jh at a;rw[Ī]at a;obtain⟨x,b,rfl⟩:=ò.1 a;exact⟨i,0,U,by rw[œ];exact pv (È p)<|h.r j x b⟩
  .rintro e g ⟨rfl,b⟩;exact⟨U,b.gS ES⟩
 have V:∀v∈t.toList,fl (pU (λj=>j=i) À.globals.size) v v:=λv a=>by obtain⟨x,rfl⟩:=z v a;exact .kC x
 have X:fR (pU (λj=>j=i) À.globals.size) #[Ç (Â ⟨i,0,Á⟩) vX.length vX.length,Ä B] #[Ç (Â ⟨i,0,Á⟩) vX.length vX.length,Ä B]:=pn λv a=>by
  have b:v=Ç (Â ⟨i,0,Á⟩) vX.length vX.length\/v=Ä B:=by simpa using a
  rcases b with rfl|rfl
  .exact fl.kD (Y:=pU (λj=>j=i) À.globals.size) ⟨⟨U,U⟩,U,U⟩ _ _
  .exact .kC B
 have W:=Eg yi Li zt (λv u T D h=>h) fQ N P (Eh o) F (λb q=>Ï<|by rwa[q]) (by rw[C];refine⟨λb q=> ?_,H⟩;subst q;exact⟨t,e,Q,y,(by unfold kN at f;rw[y]at f;cases f;exact Ø _),pn V,λ_=>⟨Z,(λq=>by rw[p]at q;cases q),λ_=>zW λv a=>by obtain⟨x,rfl⟩:=z v a;rfl⟩⟩) (λg q=>by cases q) X (by rwa[C]) r k m;refine(W.lX o).fO ?_;rintro n s ⟨D,⟨Y,E,v,v',_,_,b,rfl,g,_,_,u⟩,rfl,x,_,_,_⟩;cases b;exact⟨x,u,g⟩
end Go.Proofs.Y.kZ
namespace Go.Proofs.Y.fv
open Go Go.Conc Go.Proofs.Y.Lift
open Go.ConcN (sumTo sumTo_congr)
def Uk(P:ω)(a:Ñ->Í->Prop):Jd:=λl g=>g.status=.running/\∃v,(∀w,stepG P Î g w=.ended (.done v) w)/\a v l.w
section
variable{Y:Nat->Prop}{e:Nat->fe}
def kz.mU{J:Jd}{T:gw}(c:kz P Y zX i J T D e E w qJ){sl:Option (Nat×Nat)}(k:vQ v u):Ξ P vQ (Į E w sl) (.done v) u qJ:=by
 have C:=c.r.r;have f:∀a g,E[a]?=Â g->a≠0->QuitsD P (D a) (Deaf qJ a) g:=λa g b d=>by
  let⟨g0,j,h,_,_⟩:=c.r.C a g b;obtain rfl:g=g0:=by cases h;rfl
  simp only[d,if_false]at j;rw[C.f a<|(á.1 b).1];exact j _<|fG.fU _ _
 refine⟨v,U,k,C.l,c.N,⟨λg l=> ?_,U⟩,λa g b d=>⟨D a,(f a g b d).hears _⟩⟩;let⟨j,h⟩:=ĕ l;rw[List.getElem?_drop]at h;exact⟨_,(f (1+j) g (by rwa[<-ķ]) Z).leaves⟩
theorem arx{J:Jd}{T:gw}{l:fe}(u:l.w=W)(v:l.d=0)(m:¬l.q)(n:∀b,¬l.I b)(r:∀a,¬l.r a)(o:∀a,¬l.N a)(y:∀a,¬l.K a)(z:∀b,l.O b->b<W.heap.size)(B:g.status=.running)(C:kT P Î J T l g):rA P (λ_=>False) 0 J T (λ_=>0) (λ_=>l) #[g] W #[]:=by
 have f:∀(p:Nat) a,touchAt #[] p=Â a->False:=λp a h=>by unfold touchAt Trace.act? at h;simp at h
 refine⟨fp,⟨⟨λi j s D E=> ?_,λi j s D E=> ?_,λi _ b _=>n b,λi _ a _=>o a,λ_ _ _ _=>id,λi _ a e=>e.elim (λq=>absurd q<|r a) λq=>absurd q<|o a,λi _ b F=>F.elim (z b) λq=>absurd q<|n b,λ_ h=>h.elim,λi _=>by rw[u];exact fG.fU _ _,λi _=>⟨λa e p x k=>(f p x k).elim,λa e=>(n _ e).elim,λa e=>(r a e).elim,λa e=>(o a e).elim⟩,λi _=>by rw[v];rfl,λH q=> ?_,λI G=>by simp at G,λp a c h=>(f p a h).elim,λi _ a e=>absurd e<|y a⟩,λi x k=> ?_,λj _=>rfl⟩,λi L s=> ?_,m,λp a h=>(f p a h).elim,λp a x h=>(f p a h).elim,λa _ q m=> ?_,?_⟩
 .grind
 .grind
 .let⟨i,j,_,⟨a,b,e,_⟩,_⟩:=q;simp[Trace.act?]at e
 .have t:i<1:=(á.1 k).1;obtain rfl:i=0:=Z
  obtain rfl:g=x:=by simpa using k
  exact⟨g,C,.gl,È B,È U⟩
 .grind
 .simp[Trace.act?]at m
 .intro i g t;simp[Trace.g?]at t
end
end Go.Proofs.Y.fv
namespace Go.Proofs.Y.kZ
open Go Go.Conc Go.Proofs Go.RowKit Go.Proofs.Y.Lift Go.Proofs.Y.gR Go.Proofs.Y.fv Go.Proofs.Y.py
open Go.ConcN (sumTo)
def Ac(f:Ñ->Í->Prop)(c:Array Ċ)(w:Í)(d:Option (Nat×Nat))(t:Ž):Prop:=
 ∃N a v b e,ſ À (N+1) (Į c w d) t=(.ended (.done v) b,e)/\runN À N (Į c w d)=.next a/\step À a=.ended (.done v) b/\Ξ À f a (.done v) b e
section
variable{f:Array Ċ}{w':Í}{sl e:Option (Nat×Nat)}{t:Ž}{l:fe}
def Ac.fO{a:Ñ->Í->Prop}(h:Ac vQ E w sl t)(b:∀v u,vQ v u->a v u):Ac a E w sl t:=by let⟨M,c,v,x,d,e,f,g,i⟩:=h;exact⟨M,c,v,x,d,e,f,g,i.mono λv q=>b v x q⟩
def Ac.qw{N:Nat}(r:ſ À N (Į E w sl) t=(.next<|Į f w' e,qJ))(h:Ac vQ f w' e qJ):Ac vQ E w sl t:=by
 let⟨M,a,v,x,b,c,d,g,i⟩:=h;refine⟨N+M,a,v,x,b,?_,?_,g,i⟩
 .rwa[Nat.add_assoc,runNT_add,r]
 .rw[<-Ţ À (N+M) (Į E w sl) t,runNT_add,r];rwa[Ţ]
def rW(vQ:Ñ->Í->Prop)(E:Array Ċ)(w:Í)(sl:Option (Nat×Nat))(t:Ž):Prop:=Ac (λv u=>vQ v u/\u.os=w.os/\u.output=w.output) E w sl t
def rW.r{N:Nat}(r:ſ À N (Į E w sl) t=(.next<|Į f w' e,qJ))(a:w'.os=w.os/\w'.output=w.output)(h:rW vQ f w' e qJ):rW vQ E w sl t:= Ac.qw r<|h.fO λ_ _ q=>⟨q.1,q.2.1.trans a.1,q.2.2.trans a.2⟩
def kz.arz{Y:Nat->Prop}:∀(s:Nat) (h:Nat->Nat) (j:Nat->fe) (E:Array Ċ) (w:Í) (sl:Option (Nat×Nat)) (t:Ž),sumTo E.size h=s->kz À Y zX n (Uk À vQ) .fC h j E w t->rW vQ E w sl t:=by
 intro s
 induction s using Nat.strongRecOn with
 |_ s r=>
  intro h j E w sl t I c;have J:=c.C;obtain⟨g0,a⟩:∃g,E[0]?=Â g:=⟨_,å Z⟩;have o:∀d,Uk À vQ {j 0 with w:=w.at d} g0:=λd=>by
   let⟨u,b,k,_,_⟩:=(c.I d).r.C 0 g0 a;obtain rfl:g0=u:=by cases k;rfl
   exact b (w.at d)<|(c.I d).r.r.r 0 Z
  obtain⟨i,g,d,e,l,x,m⟩:=crowd_pick c.J8 ⟨0,g0,a,(o 0).1⟩;by_cases p:i=0
  .subst p;rw[a]at l;obtain rfl:=ag l;let⟨_,v,q,y⟩:=o d;have u:stepT À (Į E w sl)=(.ended (.done v)<|w.at d,#[]):=by
    rw[m,ConcN.runT_crowd_ended a<|q<|w.at d];rfl
   refine⟨0,Į E w sl,v,w.at d,t,?_,U,?_,c.mU ⟨y,U,U⟩⟩
   .simp[ſ,u]
   .have:=stepT_fst À (Į E w sl) Î;rw[<-this];rw[u]
  .let⟨q,y,f,u,b,k,K,L,z⟩:=(c.I d).Zw (sl:=e) l p x;let⟨N,B,v,w',qJ,C,D,F,G⟩:=r (sumTo f.size q) (by rw[k];omega) q y f (w.at d) e (t++u) U z;refine⟨N+1,B,v,w',qJ,by simp only[ſ,m,b];exact C,?_,F,G⟩;have:=Ţ À (N+1) (Į E w sl) t;rw[<-this];simp only[ſ,m,b];rwa[Ţ]
structure ij(l:fe):Prop where
 r:gy l
 d:l.d=0
 q:¬l.q
 N:∀b,¬l.I b
 I:∀a,¬l.r a
 M:∀a,¬l.N a
 k:∀a,¬l.K a
def ij.C(h:ij l)(r:fG l l.w u):ij {l with w:=u}:= ⟨⟨h.r.c,h.r.Y,h.r.N,λb q=>Ġ (h.r.fx b q) r.r,λa q=>q.elim (λz=>(h.I a z).elim) λz=>(h.M a z).elim,λa q=>(h.k a q).elim⟩,h.d,h.q,h.N,h.I,h.M,h.k⟩
def jl(vQ:Ñ->Í->Prop)(l:fe)(g:Ċ):Prop:=
 ij l->g.status=.running->∀(a:Loc->Prop) (H:Nat) (J:Jd) (c:Nat->Nat) (b:Nat->fe) (E:Array Ċ) (sl:Option (Nat×Nat)) (t:Ž),vF a H l->fv.rA À a H J .fC c b E l.w t->(b 0).d=0->E[0]?=Â g->rW vQ E l.w sl t
def arA{a:fe}(h:vF zX i l)(k:qC l a l.w a.w):vF zX i a:= ⟨h.r,λb c x d q=>by
  rcases k.N b c with z|z
  .exact h.fq b z x d q
  .have:=h.r x q;have:=h.C;omega,Ì h.C k.r⟩
def Ul{J f:Jd}{e:Nat->fe}(a:ij l)(h:g.status=.running)(j:vF zX i l)(c:fv.rA À zX i J .fC D e E l.w t)(m:(e 0).d=0)(n:E[0]?=Â g)(W:fv.fj À Î f l g):∃T,fv.rA À zX i f T D (fv.vd e l) E l.w t:=by let⟨T,o⟩:=ji W;exact⟨T,kz.Y c m n h U a.d a.q a.N a.I a.M a.k (λb q=>⟨a.r.fx b<|È q,j.fq b q⟩) o⟩
def abK{Y:Nat->Prop}{J:Jd}{a:Nat->fe}(c:kz À Y zX i J .fC D a E w t):∃g,E[0]?=Â g/\J {a 0 with w:=w} g:=by
 obtain⟨g0,b⟩:∃g,E[0]?=Â g:=⟨_,å c.C⟩;let⟨d,e,f,_,_⟩:=c.r.C 0 g0 b;obtain rfl:g0=d:=by cases f;rfl
 exact⟨g0,b,e w<|c.r.r.r 0 c.C⟩
def MI(vQ:Ñ->Í->Prop):Jd:=λl g=>ij l/\g.status=.running/\jl vQ l g
def arB{b:Nat->fe}{T:gw}(m:(b 0).w=w)(n:vF zX i (b 0))(c:fv.rA À zX i (MI vQ) T D b E w t):rW vQ E w sl t:=by let⟨N,o,p,f,w',e,qJ,r,_,a,j⟩:=kz.G (λl g h=>È h.2.1) T _ D b E w sl t U c;let⟨v,q,h,s,u⟩:=abK j;refine rW.r r ⟨a.C,a.I⟩<|u h s zX i (MI vQ) o p f e qJ ?_ j h.d q;apply arA n;rw[m];exact⟨a.r,a.N,a.c,a.S,a.b,a.k,a.jN,a.M,a.Y,a.C,a.I,a.d⟩
def pE(W:fv.fj À Î (MI vQ) l g):jl vQ l g:=by intro b d i H J j k E sl t a c e f;let⟨T,h⟩:=Ul b d a c e f W;exact arB (by rw[fv.R9]) (by rwa[fv.R9]) h
def MJ(W:fv.fj À Î (Uk À vQ) l g):jl vQ l g:=by intro b d s H J i u E sl t j c k m;let⟨T,n⟩:=Ul b d j c k m W;let⟨N,o,p,f,w',e,qJ,r,_,a,q⟩:=kz.G (λl g h=>È h.1) T _ i _ E l.w sl t U n;exact rW.r r ⟨a.C,a.I⟩<|kz.arz _ o p f w' e qJ U q
def zZ.N{e:vM}{R:Nat}{kd:Nat->Int}{f:List fJ}{c:fe}(h:zZ X e R kd f l i v c)(r:fG c c.w u):zZ X e R kd f l i v {c with w:=u}:=by have a:=λb q=>r.I b<|È q;let⟨V,j,g⟩:=h.Y;exact⟨λb q=>⟨(h.M b q).1,(a b (h.M b q).1).trans (h.M b q).2⟩,⟨h.r.1,λp k=>(gK<|a i h.r.1).trans<|h.r.2 p k⟩,⟨V,j.r λb q=>a b (g b q).1,g⟩,h.d,h.q,h.S,h.C,(gK<|a i h.r.1).trans h.I.1,(wL<|a i h.r.1).trans h.I.2⟩
def arC{kd:Nat->Int}{bt:vM}{V0 h:Nat->Prop}{s0:List fJ}{B:Option ü}{I:Option ü}{R:Nat}{C:Ē}{z:Array ĝ} (G8:0<R->I=Â ⟨j7,0,Á⟩) (vA:0<R->l.M j7) (G9:∀i,i<R->l.w.cell? ⟨j7,i,Á⟩=Â (Ã<|Â ⟨D i,0,Á⟩)) (Ha:∀i,i<R->l.w.cell? ⟨D i,4,Á⟩=Â (Å É<|kd i)) (K:Ih l bt kd D R X) (hZ:(∀b,X b->h b)/\∀b,b=1\/b=2\/b=3\/b=4->h b) (hZO:∀b,h b->l.O b) (hVZ:∀b,V0 b->h b) (BS:RD s0 (Ç B j j9) V0 l.w) (hn:1<=n) (hs:n+R<1000) (hJ:∀o v p m c,ij o->zZ h bt R kd s0 l v (Ç p m c) o->jl vQ o (G (C.at (y.put ((z[i]?).bind (·.dst))<|ë #[Ç (Â ⟨v,0,Á⟩) R R,Ç p m c])<|Ð z jJ::L) qX)): jl vQ l (D8 (Ç B j j9) (Ç I R j6) n<|C.at y (Ð z (i::jJ)::L)::qX):=by
 intro s hr jj H J lv lot E sl t Mq c hd P;have W:fv.fj À Î (K5 kd D R n (Ç B j j9) l<|C.at y (Ð z (i::jJ)::L)::qX) l (D8 (Ç B j j9) (Ç I R j6) n<|C.at y (Ð z (i::jJ)::L)::qX):= ajc s.r s.q s.d Z G8 vA G9 (λi P=>È<|K.fq _<|K.r i P) Ha λg S o u x F v T V Y bw bf v1 h1 h2=>⟨g,S,u,x,F,v,T,V,Y,bw,bf,v1,h1,h2,U⟩;let⟨T,c'⟩:=Ul s hr Mq c hd P W;let⟨N,jx,Ho,f,w',e,qJ,r,_,x,c''⟩:=kz.G (λlx gx S=>by obtain⟨_,_,_,_,_,_,_,_,_,_,_,_,_,_,rfl⟩:=S;exact È U) T _ lv _ E l.w sl t U c';apply rW.r r ⟨x.C,x.I⟩;let⟨N2,arD,V,T2,K6,Sg,gs2,w2,K7,t2,r2,io2,c2⟩:=apN (J:=λu V o F=>vF u V o/\MI vQ o F) U c'' e s.r s.N s.q s.d Mq K hZ hZO hVZ BS ⟨x.C,x.I⟩ hn hs λEe H' o v p m c Y z2 u=> .fC λw₁ F=>by have ky:ij o:=⟨z2,u.d,u.q,u.S,u.C.1,u.C.2.1,u.C.2.2⟩;exact⟨⟨Y.r,Y.fq,Ì Y.C F.r⟩,ky.C F,U,hJ _ v p m c (ky.C F)<|u.N F⟩
 apply rW.r r2 ⟨io2.1.trans x.C.symm,io2.2.trans x.I.symm⟩;let⟨N3,SU,arE,gs3,w3,sl3,t3,r3,_,wn3,c3⟩:=kz.G (λlx gx S=>È S.2.2.1) T2 _ K6 Sg gs2 w2 K7 t2 U c2;apply rW.r r3 ⟨wn3.C,wn3.I⟩;let⟨g3,Um,pH,S,hr3,hs3⟩:=abK c3;exact hs3 S hr3 arD V _ SU arE gs3 sl3 t3 pH c3 S.d Um
end
end Go.Proofs.Y.kZ
namespace Go.Proofs.Y.kZ
open Go Go.Conc Go.Proofs Go.RowKit Go.Proofs.Y.Lift Go.Proofs.Y.gR Go.Proofs.Y.fv Go.Proofs.Y.py
open Go.Conc.Lib Go.ConcR.Gen Go.Proofs.YtgpphkdoanciiaaGreatDoor
def toTx(t:PT):Tx:=⟨(t.c.getD 0 0).toNat,(t.c.getD 1 0).toNat,t.c.getD 2 0,t.c.getD 3 0,t.c.getD 4 0,t.p⟩
def toQn(r:PR):Qn:=⟨(r.c.getD 0 0).toNat,(r.c.getD 1 0).toNat,(r.c.getD 2 0).toNat,(r.c.getD 3 0).toNat,r.c.getD 4 0,r.c.getD 5 0,r.c.getD 6 0,(r.c.getD 7 0).toNat⟩
def oL:PR:=⟨[],[]⟩
def vV(a:List PR):vM where
 r:=λp=>((a.getD p oL).c.getD 5 0,((a.getD p oL).c.getD 0 0).toNat,(a.getD p oL).r.map toTx)
 C:=λp=>toQn<|a.getD p oL
def kK(a:List PR)(p:Nat):Int:=(a.getD p oL).c.getD 4 0
section
variable{p:PR}{t:PT}{a:Nat}{rs:List PR}{l:fe}
theorem toTx_ok(h:nT t):(toTx t).Ok:=by have d:=h.c.r 0 A;have e:=h.c.r 1 A;have a:=h.c.r 2 A;have b:=h.c.r 3 A;simp only[lF]at d e a b;exact⟨by show(t.c.getD 0 0).toNat<8;omega,by show(t.c.getD 1 0).toNat<8;omega,a.1,a.2,b.1,b.2,h.p⟩
theorem Ad(a:0<=c)(h:w.cell? ⟨b,i,Á⟩=Â (Å É c)):w.cell? ⟨b,i,Á⟩=Â (Å É (c.toNat:Nat)):=by grind
theorem arF(h:nT t)(k:Ip a t w):lQ a (toTx t) w:=by have b:=h.c.r 0 A;have d:=h.c.r 1 A;simp only[lF]at b d;exact⟨k.r,Ad b.1<|k.c 0 A,Ad d.1<|k.c 1 A,k.c 2 A,k.c 3 A,k.c 4 A,k.p⟩
theorem arG(h:uJ p)(k:ya i p w):Ck i (p.c.getD 5 0) (p.c.getD 0 0).toNat (p.r.map toTx) w:=by
 have e:=h.c.r 0 A;simp only[lF]at e;let⟨f,n,g,l,m,o⟩:=k.b;let⟨r,s,u⟩:=wq (R:=λj t (y:Nat×Tx)=>y.2=toTx t/\∃d,f=Â ⟨d,0,Á⟩/\w.cell? ⟨d,j,Á⟩=Â (Ã<|Â ⟨y.1,0,Á⟩)/\Ip y.1 t w) p.r 0 λj t v=>by let⟨d,a,y,q,x⟩:=o j t v;simp_all
 refine⟨f,n,g,r,⟨Ad e.1<|k.c 0 A,k.c 5 A,l⟩,⟨by rw[m,s],λj a t q=> ?_⟩,?_,by have:=h.n;omega⟩
 .let⟨x,z,y,d,D,B,C⟩:=u j (a,t) q;simp only at y B C;subst y;have E:=h.C x<|ç z;grind [arF,toTx_ok]
 .refine Ŕ λj=> ?_;unfold lD;grind
def arH(h:uJ p)(k:ya i p w):Ie i (toQn p) w:=by have a:=h.c.r 0 A;have b:=h.c.r 1 A;have d:=h.c.r 2 A;have e:=h.c.r 3 A;have f:=h.c.r 7 A;simp only[lF]at a b d e f;exact⟨Ad a.1<|k.c 0 A,Ad b.1<|k.c 1 A,Ad d.1<|k.c 2 A,Ad e.1<|k.c 3 A,k.c 4 A,k.c 5 A,k.c 6 A,Ad f.1<|k.c 7 A⟩
def abL(h:uJ p)(k:p.c.getD 4 0≠1):(toQn p).Ok:=by
 have d:=h.c.r 0 A;have e:=h.c.r 1 A;have f:=h.c.r 2 A;have g:=h.c.r 3 A;have i:=h.c.r 4 A;have a:=h.c.r 5 A;have b:=h.c.r 6 A;have j:=h.c.r 7 A;simp only[lF]at d e f g i a b j;refine⟨?_,?_,?_,?_,?_,?_,a.1,b.1,?_⟩
 .show(p.c.getD 0 0).toNat<8;omega
 .show(p.c.getD 1 0).toNat<8;omega
 .show(p.c.getD 2 0).toNat<1000000;omega
 .show(p.c.getD 3 0).toNat<18446744073709551616;omega
 .show 2<=p.c.getD 4 0;omega
 .show p.c.getD 4 0<=9;omega
 .show(p.c.getD 7 0).toNat<16;omega
theorem arI(h:RQ rs v X l.w)(k:∀i∈rs,uJ i)(B:nz l.w)(C:∀b,b=1\/b=2\/b=3\/b=4->l.O b)(m:∀b,X b->l.O b): ∃d e f g,v=Ç d rs.length e/\(0<rs.length->d=Â ⟨f,0,Á⟩)/\(0<rs.length->l.O f)/\(∀a,a<rs.length->l.w.cell? ⟨f,a,Á⟩=Â (Ã<|Â ⟨g a,0,Á⟩))/\(∀a,a<rs.length->l.w.cell? ⟨g a,4,Á⟩=Â (Å É<|kK rs a))/\Ih l (vV rs) (kK rs) g rs.length X:=by
 obtain⟨o,D,rfl,E⟩:=h.M;have p:∀a,a<rs.length->rs[a]?=Â (rs.getD a oL):=λa d=>by simp[Ğ,d]
 have r:=λa d=>ç<|p a d;obtain⟨f,s⟩:∃f,∀a,a<rs.length->o=Â ⟨f,0,Á⟩:=by
  by_cases e:0<rs.length
  .let⟨j,i,q,_⟩:=E 0 _<|p 0 e;exact⟨j,λ_ _=>q⟩
  .simp_all
 have F:∀a,∃i,a<rs.length->l.w.cell? ⟨f,a,Á⟩=Â (Ã<|Â ⟨i,0,Á⟩)/\ya i (rs.getD a oL) l.w:=λa=>by grind
 let⟨g,j⟩:=Classical.axiomOfChoice F;have u:=λe=>by have:=h.I;rw[s 0 e]at this;exact Cj this
 refine⟨o,D,f,g,U,λe=>s 0 e,λe=>m _<|u e,λa d=>(j a d).1,λa d=>(j a d).2.c 4 A,B,C,h.C,m,λa d=>(Ci<|h.C.r (u Z) (j a d).1),λa d y=> ?_,λa d y=> ?_⟩
 .have q:=k _<|r a d;have e:=q.c.r 0 A;have z:=q.c.r 5 A;simp only[lF]at e z;refine⟨arG q (j a d).2,?_,z.1,λt G=> ?_,?_⟩
  .show((rs.getD a oL).c.getD 0 0).toNat<8;omega
  .obtain⟨x,H,rfl⟩:=Ú.1 G;exact toTx_ok<|q.C x H
  .show((rs.getD a oL).r.map toTx).length<=1000;rw[ù];have:=q.n;omega
 .have q:=k _<|r a d;exact⟨arH q (j a d).2,abL q y⟩
end
theorem Iq:(∀r∈(iy B).2.2,uJ r)/\(iy B).2.2.length<=24:=by
 unfold iy;split
 .grind
 .split
  .unfold mH;split
   .grind
   .have:=(Ue B.size 0 sY (Ud B)<|Ø _).1.d;exact⟨this.G,this.C⟩
  .grind
def kL(rs:List PR)(s:List fJ):List ByteArray:=(ĳ rs.length).map λp=>vN (vV rs) (kK rs) p<|pw (vV rs) (gY (kK rs) rs.length) s<|fL (kK rs) p
def vW(rs:List PR)(s:List fJ):List fJ:=pw (vV rs) (gY (kK rs) rs.length) s<|fL (kK rs) rs.length
def lS(s:List fJ)(B:ByteArray):ByteArray×Int×List fJ:=
 if(iy B).1=0 then(kJ ⟨#[59]⟩<|kL (iy B).2.2 s,0,vW (iy B).2.2 s)else(⟨#[]⟩,(iy B).1,s)
section
variable{b:Ē}{l:fe}{a:Ĉ}
def abM{md:Ŀ}(I:Array Bool->Ĉ->fe->Prop) (o:∀c a l i k,I c a l->i∈ä md Q c->(∀f g,I (c.setIfInBounds i Î) f g->jl vQ g (G (b.at f<|Ð Q k::L) qX))->jl vQ l (G (b.at a<|Ð Q (i::k)::L) qX)) (m:∀c a l,I c a l->c.size=Q.size->ä md Q c=[]->jl vQ l (G (b.at a<|Ð Q []::L) qX)): ∀(d t:Nat) (c:Array Bool) (a:Ĉ) (l:fe),c.size=Q.size->jo c<=d->I c a l->jl vQ l (G (b.at a<|Ð Q (ć md Q d t c [])::L) qX):=by
 intro d
 induction d with
 |zero=>
  intro t c a l e p h;simpa[ć]using m c a l h e<|QP e Z
 |succ d q=>
  intro t c a l e p h;simp only[ć];change jl vQ l (G (b.at a (Ð Q (match(ä md Q c)[t%(ä md Q c).length]? with
   |some i=>ć md Q d (t/(ä md Q c).length) (c.setIfInBounds i Î) [i]
   |none=>[].reverse)::L)) qX)
  cases j:(ä md Q c)[t%(ä md Q c).length]? with
  |none=>
   have r:ä md Q c=[]:=by
    cases s:ä md Q c with
    |nil=>rfl
    |cons x n=>
     rw[s]at j;have u:t%(x::n).length<(x::n).length:=Nat.mod_lt _ fp;simp at j;simp at u;omega
   simpa using m c a l h e r
  |some i=>
   simp only[];rw[linearise_go_acc,List.reverse_singleton,List.singleton_append];have n:=ç j;refine o c a l i _ h n λf g r=>(q _ _ f g (by simpa using e) (by have:=Ki (Β.1 n).1;omega) r)
def arJ{id:Nat}(I:Array Bool->Ĉ->fe->Prop)(e:ij l) (j:∀f,fG l l.w f->I (Ū Q.size Ë) a {l with w:=f}) (k:∀g c a l i m,I c a l->i∈ä g Q c->(∀n o,I (c.setIfInBounds i Î) n o->jl vQ o (G (b.at n<|Ð Q m::L) qX))->jl vQ l (G (b.at a<|Ð Q (i::m)::L) qX)) (p:∀g c a l,I c a l->c.size=Q.size->ä g Q c=[]->jl vQ l (G (b.at a<|Ð Q []::L) qX)): jl vQ l (G (b.at a<|ax (.region id Q Î)::L) qX):=by
 refine pE (.mk U λf r=>⟨_,_,_,_,stepG_region_draw,QO (lV e.r.r r) e.q,.fC λs d=> ?_⟩);have h:=r.fg ⟨d.r,d.I,d.N,d.Y,d.S⟩;refine⟨e.C h,U,?_⟩;unfold Region.schedule;split
 .exact abM I (k _) (p _) _ _ _ _ _ fp (by rw[Dx];exact æ _)<|j s h
 .exact abM I (k _) (p _) _ _ _ _ _ fp (by rw[Dx];exact æ _)<|j s h
def arK{I:Ĉ->fe->Prop}(W:fv.fj À Î (λa d=>∃c,d=G (b.at c<|Ð Q jJ::L) qX/\I c a) l g)(f:∀c a,I c a->ij a)(i:∀c a,I c a->jl vQ a (G (b.at c<|Ð Q jJ::L) qX)):jl vQ l g:= pE (W.fO λa d h=>by obtain⟨c,rfl,e⟩:=h;exact⟨f c a e,U,i c a e⟩)
def Ct{f:FuncId}{fn:Func}(xs:List Value)(n:Nat)(hf:Tryz.prog.funcs[f]?=some fn)(hb:fn.body=some (kV fn []):=by kernel_rfl)(hn:fn.ntmps=xs.length+n:=by kernel_rfl):Frame.enter Tryz.prog f xs.toArray .normal=(base f).at ⟨(xs++List.replicate n undef).toArray,[]⟩ [.code<|kV fn []]:=by rw[enter_at _ hf hb,hn,ř,Nat.add_sub_cancel_left,show xs.toArray++Ū n ĸ=(xs++ą n ĸ).toArray from Array.ext' fp]
def yb{J:Jd}{f:Ρ}{args:Array Ñ}(d:Q[i]?=Â o)(e:đ o (Ι Q a.tmps)=Î)(g:b.kind≠.early)(h:jP l) (j:∀w,(ś a.eval o).run À w=.ok (.enter f args) w) (k:∀w,(ś a.eval o).events À w #[]=#[]) (m:∀c,fG l l.w c->fv.fj À Î J {l with w:=c} (G (è À f args Ą)<|b.at a (Ð Q (i::jJ)::L)::qX)): fv.fj À Î J l (G (b.at a<|Ð Q (i::jJ)::L) qX):=by refine .mk U λc r=>⟨G (è À f args Ą)<|b.at a (Ð Q (i::jJ)::L)::qX,c,#[],{l with w:=c},?_,Pn c<|lV h r,m c r⟩;rw[stepG_enter d e g<|j c];unfold ay;rw[k c,seen_none]
def Ae{f:Ρ}{args:Array Ñ}(e:ij l)(j:Q[i]?=Â o)(k:đ o (Ι Q a.tmps)=Î)(m:b.kind≠.early) (n:∀w,(ś a.eval o).run À w=.ok (.enter f args) w) (p:∀w,(ś a.eval o).events À w #[]=#[]) (q:∀d,fG l l.w d->jl vQ {l with w:=d} (G (è À f args Ą)<|b.at a (Ð Q (i::jJ)::L)::qX)): jl vQ l (G (b.at a<|Ð Q (i::jJ)::L) qX):= pE (yb j k m e.r.r n p λd r=> .fC λg c=>by have h:fG l l.w g:=r.fg ⟨c.r,c.I,c.N,c.Y,c.S⟩;exact⟨e.C h,U,q g h⟩)
def kg.zp{c:fe}(e:ij l)(h:kg l c)(k:c.d=l.d):ij c:=by
 have g:∀b,¬c.I b:=by rw[h.I];exact e.N
 have f:∀a,¬c.r a:=by rw[h.N];exact e.I
 have i:∀a,¬c.N a:=by rw[h.Y];exact e.M
 have j:∀a,¬c.K a:=by rw[h.K];exact e.k
 exact⟨⟨λb _=>g b,λa q=>(f a q).elim,λa q=>q.elim (λz=>(f a z).elim) λz=>(i a z).elim,λb q=>q.elim (λz=>h.fx b z) λz=>(g b z).elim,λa q=>q.elim (λz=>(f a z).elim) λz=>(i a z).elim,λa q=>(j a q).elim⟩,k.trans e.d,by rw[h.q];exact e.q,g,f,i,j⟩
end
def Ir:ĝ:=⟨Â 21,.move<|ň 0,26, "attic.go:46",#[],Á⟩
def Is:ĝ:=⟨Â 22,.nilCheck<|ň 21,0, "attic.go:46",#[⟨0,ĉ⟩],Á⟩
def It:ĝ:=⟨Â 23,.fieldAddr 68 (ň 22) 1,0, "attic.go:46",#[⟨1,ĉ⟩],Á⟩
def Iu:ĝ:=⟨Â 24,.load 65<|ň 23,65, "attic.go:46",#[⟨2,ĉ⟩],Á⟩
def Iv:ĝ:=⟨Â 25,.move<|ň 6,61, "attic.go:46",#[],Á⟩
def Iw:ĝ:=⟨Â 26,.move<|ň 0,26, "attic.go:46",#[],Á⟩
def Ix:ĝ:=⟨Â 27,.nilCheck<|ň 26,0, "attic.go:46",#[⟨5,ĉ⟩],Á⟩
def Iy:ĝ:=⟨Â 28,.fieldAddr 68 (ň 27) 0,0, "attic.go:46",#[⟨6,ĉ⟩],Á⟩
def Iz:ĝ:=⟨Â 29,.load 3<|ň 28,3, "attic.go:46",#[⟨7,ĉ⟩],Á⟩
def yc:ĝ:=⟨Â 30,.call {callee:=.value<|.func 37,args:=#[ň 24,ň 25,ň 29],argTypes:=#[65,61,3]},66, "attic.go:46",#[⟨3,ĉ⟩,⟨4,ĉ⟩,⟨8,ĉ⟩],Á⟩
def Af:ĝ:=⟨Â 20,.move<|ň 30,66, "attic.go:46",#[⟨9,ĉ⟩],Á⟩
def Cu:ĝ:=⟨Â 31,.extract (ň 20) 0,25, "attic.go:46",#[⟨10,ĉ⟩],Á⟩
def Cv:ĝ:=⟨Â 32,.extract (ň 20) 1,65, "attic.go:46",#[⟨10,ĉ⟩,{on:=13,ground:=Ground.gcOnly Departure.lateStores}],Á⟩
def Cw:ĝ:=⟨Â 9,.assign<|ň 31,25, "attic.go:46",#[⟨11,ĉ⟩,⟨9,.chain⟩,⟨0,ñ⟩,⟨1,ñ⟩,⟨2,ñ⟩,⟨3,ñ⟩,⟨4,ñ⟩,⟨5,ñ⟩,⟨6,ñ⟩,⟨7,ñ⟩,⟨8,ñ⟩,⟨9,ñ⟩,⟨10,ñ⟩,⟨11,ñ⟩,{on:=12,ground:=Ground.textOnly Departure.lateStores}],Á⟩
def Cx:ĝ:=⟨Â 10,.assign<|ň 32,65, "attic.go:46",#[⟨12,ĉ⟩,⟨13,.chain⟩,⟨0,ñ⟩,⟨1,ñ⟩,⟨2,ñ⟩,⟨3,ñ⟩,⟨4,ñ⟩,⟨5,ñ⟩,⟨6,ñ⟩,⟨7,ñ⟩,⟨8,ñ⟩,⟨9,ñ⟩,⟨10,ñ⟩,⟨11,ñ⟩,⟨12,ñ⟩,⟨13,ñ⟩],Á⟩
def om:Array ĝ:=#[Ir,Is,It,Iu,Iv,Iw,Ix,Iy,Iz,yc,Af,Cu,Cv,Cw,Cx]
noncomputable def Un:Τ:=kV Tryz.f17 [1,1,1,1]
structure nX(l:fe)(ab n:Nat)(s:List fJ)(sl:Ñ)(V:Nat->Prop):Prop where
 r:nz l.w
 C:∀b,b=1\/b=2\/b=3\/b=4->l.O b
 a:E7 ab n sl l.w
 fq:l.O ab
 I:RD s sl V l.w
 Y:∀b,V b->l.O b
 e:¬V ab
 c:1<=n
 d:n<=8
 M:¬(ab=1\/ab=2\/ab=3\/ab=4)
structure MK(l l':fe)(ab n:Nat)(s':List fJ)(V:Nat->Prop):Prop where
 vg:∀b,l.O b->b≠ab->l'.O b/\l'.w.heap[b]?=l.w.heap[b]?
 att:∃sP V',nX l' ab n s' sP V'/\∀b,V' b->V b\/(b=1\/b=2\/b=3\/b=4)\/l.w.heap.size<=b
section
variable{l d:fe}{ab:Nat}{s:List fJ}{sl:Ñ}{V:Nat->Prop}
def nX.S{a:fe}(h:nX l ab n s sl V)(c:∀b,l.O b->a.O b)(d:∀b,l.O b->a.w.heap[b]?=l.w.heap[b]?)(e:l.w.heap.size<=a.w.heap.size):nX a ab n s sl V:= ⟨h.r.r (Ì h.r.fx e) λb q=>d b<|h.C b q,λb q=>c b<|h.C b q,h.a.r<|d ab h.fq,c ab h.fq,h.I.r λb q=>d b<|h.Y b q,λb q=>c b<|h.Y b q,h.e,h.c,h.d,h.M⟩
def nX.N(h:nX l ab n s sl V)(r:fG l l.w u):nX {l with w:=u} ab n s sl V:=h.S (λ_ q=>q) (λb q=>r.I b<|È q) r.r
def j1(ab:Nat)(n:Nat)(sl rs:Ñ)(x:Value×Value):Nat->Ñ
 |0=>Ã<|Â ⟨ab,0,Á⟩
 |1=>Ã<|Â ⟨ab,0,Á⟩
 |2=>Ã<|Â ⟨ab,1,Á⟩
 |3=>sl
 |4=>rs
 |5=>Ã<|Â ⟨ab,0,Á⟩
 |6=>Ã<|Â ⟨ab,0,Á⟩
 |7=>Ã<|Â ⟨ab,0,Á⟩
 |8=>Å É n
 |9=>ë #[x.1,x.2]
 |10=>ë #[x.1,x.2]
 |11=>x.1
 |12=>x.2
 |13=>x.1
 |14=>x.2
 |_=>ĸ
def vY(d:fe)(V:Nat->Prop)(rs:List PR)(s:List fJ)(listed:Array Bool)(x:Value×Value)(l:fe):Prop:=
 ij l/\(listed.getD 9 Ë=Ë->gi fh d l)/\(listed.getD 9 Ë=Î->∃a e p m c,gi fh d a/\x=(Ç (Â ⟨e,0,Á⟩) rs.length rs.length,Ç p m c)/\zZ (λb=>V b\/b=1\/b=2\/b=3\/b=4) (vV rs) rs.length (kK rs) s a e (Ç p m c) l)
def vY.jV{V:Nat->Prop}{a:List PR}{s:List fJ}{listed:Array Bool}{x:Value×Value}(h:vY d V a s listed x l)(b:i≠9){w₁:Í}(r:fG l l.w w₁):vY d V a s (listed.setIfInBounds i Î) x {l with w:=w₁}:=by
 have e:(listed.setIfInBounds i Î).getD 9 Ë=listed.getD 9 Ë:=by simp[Array.getD_eq_getD_getElem?,Array.getElem?_setIfInBounds_ne b]
 refine⟨h.1.C r,λq=> ?_,λq=> ?_⟩
 .rw[e]at q;exact(h.2.1 q).G r
 .rw[e]at q;let⟨f,g,p,m,c,j,k,n⟩:=h.2.2 q;exact⟨f,g,p,m,c,j,k,n.N r⟩
theorem arL{D:Array Ñ}{I:List PR}(J:nX d ab n s sl V)(T:D.size=39)(W:D[0]?=Â (Ã<|Â ⟨ab,0,Á⟩))(Y:D[6]?=Â z) (md:Ŀ) (listed:Array Bool) (a:Ĉ) (l:fe) (i:Nat) (O:List Nat) (hI:II om D (j1 ab n sl z) (vY d X I s) listed a l) (p:i∈ä md om listed) (F:i≠9): fv.fj À Î (λc e=>∃b,e=G ((base 17).at b<|Ð om O::L) qX/\II om D (j1 ab n sl z) (vY d X I s) (listed.setIfInBounds i Î) b c) l (G ((base 17).at a<|Ð om (i::O)::L) qX):=by
 let⟨x,g,H⟩:=hI;have t:qu om D.size=Î:=by rw[T];decide
 have K:=yV p;have u:=H.1.r.r;have y:=H.1.q;have P:=(g.C A).trans W;have Ag:=(g.C A).trans Y;have B:∀c,fG l l.w c->vY d X I s (listed.setIfInBounds i Î) x {l with w:=c}:=λc r=>H.jV F r;let⟨fr,my,_⟩:=J.a;have early:∀m,m<15->listed.getD m Ë=Ë->(∃e,e∈yc.after/\e.on=m/\vn e=Î)->listed.getD 9 Ë=Ë:=λm _ hm ⟨e,h1,h2,h3⟩=>by
  cases q:listed.getD 9 Ë with
  |false=>rfl
  |true=>
   have:=g.Y 9 yc e U q h1 h3;rw[h2,hm]at this;cases this
 have j5:om.size=15:=A
 rw[j5]at K;have N4:listed.getD i Ë=Ë:=by have:=(Β.1 p).1;grind
 have S:∀{j v},(∃e,e∈yc.after/\e.on=i/\vn e=Î)->#[Å É n,sl][j]?=Â v->gX l ⟨ab,j,Á⟩/\l.w.cell? ⟨ab,j,Á⟩=Â v:=λq h=>by have b:=H.2.1<|early i K N4 q;exact⟨È<|b.M<|È J.fq,(gK<|b.r ab (È J.fq) id).trans<|by simp[à,my,h]⟩
 match i,K,F with
 |9,_,F=>exact absurd U F
 |0,_,_=>
  exact il (o:=Ir) t g U U p (by k_ne) u y (λc r=>by simp only[j1,Ir];go_simp) (λc r e f=>by simp[go_sem,Ir,P]at f) B
 |1,_,_=>
  have b:=g.r 0 Ir 21 U (ic p U U) U;simp only[j1]at b;exact il (o:=Is) t g U U p (by k_ne) u y (λc r=>by simp only[j1,Is];go_simp) (λc r e f=>by simp[go_sem,Is,b]at f) B
 |2,_,_=>
  have b:=g.r 1 Is 22 U (ic p U U) U;simp only[j1]at b;exact il (o:=It) t g U U p (by k_ne) u y (λc r=>by simp only[j1,It];go_simp) (λc r e f=>by simp[go_sem,It,b]at f) B
 |3,_,_=>
  have b:=g.r 2 It 23 U (ic p U U) U;simp only[j1]at b;let⟨C,E⟩:=S (j:=1) ⟨⟨3,ĉ⟩,by simp[yc],U,U⟩ U;refine il (o:=Iu) t g U U p (by k_ne) u y (λc r=> ?_) (λc r e f=> ?_) B
  .have N:=(C.r r).trans E;simp only[j1,Iu];go_simp
  .have N:=(C.r r).trans E;simp[go_sem,Iu,b,N]at f;subst f;exact C.C
 |4,_,_=>
  exact il (o:=Iv) t g U U p (by k_ne) u y (λc r=>by simp only[j1,Iv];go_simp) (λc r e f=>by simp[go_sem,Iv,Ag]at f) B
 |5,_,_=>
  exact il (o:=Iw) t g U U p (by k_ne) u y (λc r=>by simp only[j1,Iw];go_simp) (λc r e f=>by simp[go_sem,Iw,P]at f) B
 |6,_,_=>
  have b:=g.r 5 Iw 26 U (ic p U U) U;simp only[j1]at b;exact il (o:=Ix) t g U U p (by k_ne) u y (λc r=>by simp only[j1,Ix];go_simp) (λc r e f=>by simp[go_sem,Ix,b]at f) B
 |7,_,_=>
  have b:=g.r 6 Ix 27 U (ic p U U) U;simp only[j1]at b;exact il (o:=Iy) t g U U p (by k_ne) u y (λc r=>by simp only[j1,Iy];go_simp) (λc r e f=>by simp[go_sem,Iy,b]at f) B
 |8,_,_=>
  have b:=g.r 7 Iy 28 U (ic p U U) U;simp only[j1]at b;let⟨C,E⟩:=S (j:=0) ⟨⟨8,ĉ⟩,by simp[yc],U,U⟩ U;refine il (o:=Iz) t g U U p (by k_ne) u y (λc r=> ?_) (λc r e f=> ?_) B
  .have N:=(C.r r).trans E;simp only[j1,Iz];go_simp
  .simp[go_sem,Iz,b,(C.r r).trans E]at f;subst f;exact C.C
 |10,_,_=>
  have b:=g.r 9 yc 30 U (ic p U U) U;simp only[j1]at b;exact il (o:=Af) t g U U p (by k_ne) u y (λc r=>by simp only[j1,Af];go_simp) (λc r e f=>by simp[go_sem,Af,b]at f) B
 |11,_,_=>
  have b:=g.r 10 Af 20 U (ic p U U) U;simp only[j1]at b;exact il (o:=Cu) t g U U p (by k_ne) u y (λc r=>by simp only[j1,Cu];go_simp) (λc r e f=>by simp[go_sem,Cu,b]at f) B
 |12,_,_=>
  have b:=g.r 10 Af 20 U (ic p U U) U;simp only[j1]at b;exact il (o:=Cv) t g U U p (by k_ne) u y (λc r=>by simp only[j1,Cv];go_simp) (λc r e f=>by simp[go_sem,Cv,b]at f) B
 |13,_,_=>
  have b:=g.r 11 Cu 31 U (ic p U U) U;simp only[j1]at b;exact il (o:=Cw) t g U U p (by k_ne) u y (λc r=>by simp only[j1,Cw];go_simp) (λc r e f=>by simp[go_sem,Cw,b]at f) B
 |14,_,_=>
  have b:=g.r 12 Cv 32 U (ic p U U) U;simp only[j1]at b;exact il (o:=Cx) t g U U p (by k_ne) u y (λc r=>by simp only[j1,Cx];go_simp) (λc r e f=>by simp[go_sem,Cx,b]at f) B
end
def arM(x y:Ñ)(n:Nat)(a:List Ē):G (è À 37 #[x,y,Å É n] Ą) a=D8 x y n a:=by unfold D8;rw[enter_at #[x,y,Å É n] η (c:=kV Tryz.f37 []) fu];kernel_rfl
section
variable{l g:fe}{s:List fJ}{V:Nat->Prop}{d:List PR}
theorem arN{F:Array Ñ}(D:nX g i n s x V)(W:RQ d v X g.w)(M:∀b,X b->g.O b)(Y:∀r∈d,uJ r)(Kn:d.length<=24)(ht:F.size=39) (md:Ŀ) (listed:Array Bool) (a:Ĉ) (l:fe) (N:List Nat) (hI:II om F (j1 i n x v) (vY g (λb=>V b\/X b) d s) listed a l) (B:9∈ä md om listed) (hn:∀P E,II om F (j1 i n x v) (vY g (λb=>V b\/X b) d s) (listed.setIfInBounds 9 Î) P E->jl vQ E (G ((base 17).at P<|Ð om N::L) qX)): jl vQ l (G ((base 17).at a<|Ð om (9::N)::L) qX):=by
 let⟨t,y,Q⟩:=hI;have N4:=(Β.1 B).1;have h9s:9<listed.size:=by grind
 have H:listed.getD 9 Ë=Ë:=by grind
 have e24:a.tmps[24]?=Â x:=y.r 3 Iu 24 U (ic B U U) U;have e25:a.tmps[25]?=Â v:=y.r 4 Iv 25 U (ic B U U) U;have e29:a.tmps[29]?=Â (Å É n):=y.r 8 Iz 29 U (ic B U U) U;have late:∀(S:Value×Value) j,listed.getD j Ë=Î->j1 i n x v S j=j1 i n x v t j:=λS j u=>by
  have c:listed.getD 10 Ë=Ë:=by
   cases q:listed.getD 10 Ë with
   |false=>rfl
   |true=>exact absurd (y.Y 10 Af ⟨9,ĉ⟩ U q (by simp[Af]) U)<|by rw[H];decide
  have e:listed.getD 11 Ë=Ë:=by
   cases q:listed.getD 11 Ë with
   |false=>rfl
   |true=>exact absurd (y.Y 11 Cu ⟨10,ĉ⟩ U q (by simp[Cu]) U)<|by rw[c];decide
  have h:listed.getD 12 Ë=Ë:=by
   cases q:listed.getD 12 Ë with
   |false=>rfl
   |true=>exact absurd (y.Y 12 Cv ⟨10,ĉ⟩ U q (by simp[Cv]) U)<|by rw[c];decide
  have m:listed.getD 13 Ë=Ë:=by
   cases q:listed.getD 13 Ë with
   |false=>rfl
   |true=>exact absurd (y.Y 13 Cw ⟨11,ĉ⟩ U q (by simp[Cw]) U)<|by rw[e];decide
  have p:listed.getD 14 Ë=Ë:=by
   cases q:listed.getD 14 Ë with
   |false=>rfl
   |true=>exact absurd (y.Y 14 Cx ⟨12,ĉ⟩ U q (by simp[Cx]) U)<|by rw[h];decide
  match j with
  |9=>rw[H]at u;cases u
  |10=>rw[c]at u;cases u
  |11=>rw[e]at u;cases u
  |12=>rw[h]at u;cases u
  |13=>rw[m]at u;cases u
  |14=>rw[p]at u;cases u
  |0|1|2|3|4|5|6|7|8=>rfl
  |j+15=>rfl
 refine Ae (f:=37) (args:=#[x,v,Å É n]) Q.1 (o:=yc) U (Km U _) (by k_ne) (λw=> ?_) (λw=> ?_) λw₁ r=> ?_
 .simp only[yc];go_simp
 .exact ô U η U U #[]
 have z:=(Q.2.1 H).G r;have C:=D.S (λb q=>z.O b q) (λb q=>z.r b (È q) id) z.I;have T:=λb q=>z.O b<|M b q;obtain⟨ra,cr,rb,rq,rfl,G8,vA,G9,Ha,ready⟩:=arI (W.r λb q=>z.r b (È<|M b q) id) Y C.r C.C T;obtain⟨I,J,K,rfl⟩:∃I J K,x=Ç I J K:=by let⟨_,_,_,⟨I,J,K,e,_⟩,_⟩:=D.I;grind
 rw[arM];refine arC G8 (λh=>È<|vA h) G9 Ha ready ⟨λb q=>È<|Ï q,λb q=>Ï q⟩ (λb q=>q.elim (λq=>q.elim (C.Y b)<|T b)<|C.C b) (λb q=>È<|È q) C.I D.c (by have:=D.d;omega) λE e p m c h hT=> ?_;refine hn _ E ⟨(Ç (Â ⟨e,0,Á⟩) d.length d.length,Ç p m c),(y.Yy<|late _).fZ (by rw[ht];decide) U B λ_=>rfl,h,λq=> ?_,λ_=>⟨_,e,p,m,c,z,U,hT⟩⟩;simp_all
end
section
variable{l o l4:fe}{ab:Nat}{s:List fJ}{sl:Ñ}{V:Nat->Prop}{rs:List PR}
structure abN(l l4:fe)(ab n:Nat)(s:List fJ)(sl:Ñ)(V:Nat->Prop)(rs:List PR)(an:Nat)(sP:Ñ):Prop where
 r:∀b,l.O b->l4.O b/\l4.w.heap[b]?=l.w.heap[b]?
 fx:nB<=l4.w.heap.size
 C:l4.O an/\uN an (kL rs s) l4.w/\kN l4.w an=Â (0,0)
 Hn:∃V',RD (vW rs s) sP V' l4.w/\(∀b,V' b->l4.O b)/\¬V' ab/\∀b,V' b->V b\/(b=1\/b=2\/b=3\/b=4)\/l.w.heap.size<=b
def arO{kd:Nat->Int}(h:∀p,p<rs.length->w.cell? ⟨i,p,Á⟩=Â (Ä<|vN (vV rs) (kK rs) p<|pw (vV rs) (gY (kK rs) rs.length) s<|fL (kK rs) p))(d:w.cell? ⟨i,rs.length,Á⟩=Á):uN i (kL rs s) w:=by refine⟨λp x a=> ?_,by unfold kL;simpa using d⟩;unfold kL at a;rw[Ī]at a;obtain⟨q,e,rfl⟩:=ò.1 a;let⟨b,c⟩:=Õ.1 e;simp at b c;subst c;exact h p b
def ML:(kL rs s).length=rs.length:=by simp[kL]
def arP:nB<=5:=by show À.globals.size<=5;decide+kernel
def arQ{f:fe}{p:Option ü}(d:nX l ab n s sl V)(t:gy l)(u:∀b,X b->l.w.heap.size<=b)(v:∀b,l.O b->o.O b/\o.w.heap[b]?=l.w.heap[b]?)(x:l.w.heap.size<=o.w.heap.size)(y:gy l4)(e:gi fh o f)(a:zZ (λb=>(V b\/X b)\/b=1\/b=2\/b=3\/b=4) (vV rs) rs.length (kK rs) s f i (Ç p m j) l4):abN l l4 ab n s sl V rs i (Ç p m j):=by
 have g:∀b,l.O b->l4.O b/\l4.w.heap[b]?=l.w.heap[b]?:=λb q=>by let⟨z,h⟩:=v b q;let⟨k,r⟩:=a.M b<|e.O b z;exact⟨k,r.trans<|(e.r b (È z) id).trans h⟩
 refine⟨g,?_,⟨a.r.1,arO (kd:=kK rs) a.r.2 a.I.1,a.I.2⟩,?_⟩
 .have:=y.fx 4<|È (g 4<|d.C 4 A).1;have:=arP;omega
 .let⟨h,B,k⟩:=a.Y;have r:∀b,h b->V b\/(b=1\/b=2\/b=3\/b=4)\/l.w.heap.size<=b:=λb q=>by
   rcases(k b q).2 with((z|z)|z)|z
   .exact È z
   .exact Ï<|Ï<|u b z
   .exact Ï<|È z
   .exact Ï<|Ï<|Ì (Ì x e.I) z
  refine⟨h,B,λb q=>(k b q).1,λq=> ?_,r⟩;rcases r ab q with z|z|z
  .exact d.e z
  .exact d.M z
  .have:=t.fx ab<|È d.fq;omega
def arR{f:fe}{p:Option ü}(d:nX l ab n s sl V)(h:abN l l4 ab n s sl V rs i (Ç p m j))(E:gy l4)(g:∀b,l4.O b->f.O b)(r:∀b,l4.O b->f.w.heap[b]?=(l4.w.setCell ⟨ab,1,Á⟩<|Ç p m j).heap[b]?)(v:l4.w.heap.size<=f.w.heap.size):MK l f ab n (vW rs s) V:=by
 let⟨x,y,t,u,z⟩:=h.Hn;have k:∀b,l4.O b->b≠ab->f.w.heap[b]?=l4.w.heap[b]?:=λb q e=>(r b q).trans<|lh (a:=⟨ab,1,Á⟩) e;have o:=h.r ab d.fq;refine⟨λb q e=>⟨g b (h.r b q).1,(k b (h.r b q).1 e).trans (h.r b q).2⟩,Ç p m j,x,⟨?_,λb q=>g b (h.r b<|d.C b q).1,?_,g ab o.1,y.r λb q=>k b (t b q) λe=>u<|e▸q,λb q=>g b<|t b q,u,d.c,d.d,d.M⟩,z⟩
 .exact d.r.r (Ì h.fx v) λb q=>(k b (h.r b<|d.C b q).1 λe=>d.M<|e▸q).trans (h.r b<|d.C b q).2
 .let⟨B,C,D⟩:=d.a;refine⟨B,?_,D⟩;rw[r ab o.1];unfold Ż;simp[Ķ,o.2,C]
def arS{J:Jd}(b:jP l)(d:fv.fj À Î J l (G (f.at (y.put ((Q[i]?).bind (·.dst))<|Ä ⟨#[]⟩)<|Ð Q jJ::L) qX)): fv.fj À Î J l (G (è À 38 #[Ç O 0 j,Ä B] Ą)<|f.at y (Ð Q (i::jJ)::L)::qX):=by
 have hF:True:=trivial;rw[Ct [_,_] 73 ē];simp only[ą,Đ,ę];conv in kV _ _=>whnf
 apply fX (n:=60) b;repeat w_go fB
 u_in fB hF
 refine Ŧ (t:=4) U U ē U ⟨by u_nil,?_⟩;refine ï λ_ _=> ?_;exact d
def uN.I{w':Í}{xs:List ByteArray}(h:uN i xs w)(k:w'.heap[i]?=w.heap[i]?):uN i xs w':= ⟨λp x a=>Cr k<|h.r p x a,by have:=h.C;simp only[à,k]at this|-;exact this⟩
def arT{xs:List ByteArray}(g:nz w)(h:uN i xs w):ll i=Ë:=by
 have b:∀e,Mn i e w->False:=λe ⟨c,o,j,_,_,d,l⟩=>by
  have f:w.cell? ⟨i,0,Á⟩=Â c[0]:=by simp only[à,j,ö,ì,if_false];exact å d
  rcases ģ xs.length with q|q
  .have a:=h.C;rw[q,f]at a;cases a
  .have a:=h.r 0 _<|Ó q;let⟨k,n,m⟩:=l c[0]<|î.2<|ă d;rw[f,m]at a;cases a
 cases q:ll i with
 |false=>rfl
 |true=>
  unfold ll at q;simp at q;rcases q with rfl|rfl
  .exact(b _ g.I).elim
  .exact(b _ g.C).elim
def kg.arU(a:jP l)(r:fG l l.w u):kg l {l with w:=u}:=⟨λ_ q=>q,λ_ q=>È q,U,U,U,U,U,r,lV a r⟩
def arV{a:Ĉ}{xs:List ByteArray}(b:ij l)(j:nB<=l.w.heap.size)(h:uN n xs l.w)(m:l.O n)(o:ll n=Ë)(p:kN l.w n=Â (0,0))(s:xs.length<=1000){N:Nat}(t:xs.length=N)(u:B.size=1)(v:iP xs+xs.length<=140737488355328): fv.fj À Î (λc g=>kg l c/\c.d=l.d/\g=G (f.at (a.put ((Q[i]?).bind (·.dst))<|Ä<|kJ B xs)<|Ð Q jJ::L) qX) l (G (è À 38 #[Ç (Â ⟨n,0,Á⟩) N N,Ä B] Ą)<|f.at a (Ð Q (i::jJ)::L)::qX):=by
 subst t;rcases ģ xs.length with e|e
 .have x:=Ý e;subst x;exact arS b.r.r<|.fC λy r=>⟨kg.arU b.r.r r,U,U⟩
 .refine(arw b.r b.q j h e (È m) o p s u v Î _ qX).fO ?_;rintro c g ⟨r,x,rfl⟩;exact⟨r,x,by rw[Ě]⟩
def arW{N:Array Ñ}{cf:Ē}(C:nX l ab n s sl V)(D9:gy l)(Uo:∀b,X b->l.w.heap.size<=b)(hl:∀b,l.O b->o.O b/\o.w.heap[b]?=l.w.heap[b]?)(j5:l.w.heap.size<=o.w.heap.size)(Kn:rs.length<=24)(sw:iP (kL rs s)+rs.length<=140737488355328)(ht:N.size=39)(ht0:N[0]?=Â (Ã<|Â ⟨ab,0,Á⟩)) (hJ:∀P,ij P->MK l P ab n (vW rs s) V->jl vQ P (G (cf.at (y.put ((Q[i]?).bind (·.dst))<|ë #[Ä<|kJ ⟨#[59]⟩<|kL rs s,Å É 0])<|Ð Q jJ::L) qX)) (md:Ŀ) (listed:Array Bool) (a:Ĉ) (l4:fe) (hI:II om N (j1 ab n sl v) (vY o (λb=>V b\/X b) rs s) listed a l4) (H:listed.size=om.size) (I:ä md om listed=[]): jl vQ l4 (G ((base 17).at a<|Ð om []::[ax Un])<|cf.at y (Ð Q (i::jJ)::L)::qX):=by
 have hF:True:=trivial;let⟨x,D,g,_,hS⟩:=hI;have J:∀i∈ĳ 15,listed.getD i Ë=Î:=by
  cases md
  .exact o5 I H (ĳ 15) [] fQ λi c=>by cases c
  .exact λi c=>o5 I H [0,1,2,3,4,5,6,7,8,9,10,11,13,12,14] [] fQ (λi c=>by cases c) i (by have:=Ŷ.1 c;revert i;decide)
  .exact o5 I H (ĳ 15) [] fQ λi c=>by cases c
 obtain⟨l1,r,p,m,c,k1,rfl,hT⟩:=hS<|J 9 A;have h:=arQ (rs:=rs) C D9 Uo hl j5 g.r k1 hT;let⟨F,ds⟩:=a;obtain rfl:ds=[]:=D.M;have S:F[0]?=Â (Ã<|Â ⟨ab,0,Á⟩):=(D.C A).trans ht0;have T:F[9]?=Â (Ç (Â ⟨r,0,Á⟩) rs.length rs.length):=D.r 13 Cw 9 U (J 13 A) U;have W:F[10]?=Â (Ç p m c):=D.r 14 Cx 10 U (J 14 A) U;have Hg:F.size=39:=D.S.trans ht;clear D J hS hT k1 I H;obtain⟨u,rfl⟩:=ug F Hg;simp only[List.getElem?_toArray,Ī,List.getElem?_range,Nat.reduceLT,Ă,Ô]at S T W;simp only[ĳ,List.range.loop,List.map,S,T,W];clear S T W Hg;let⟨fr,my,hfr⟩:=C.a;let⟨MN,hab⟩:=h.r ab C.fq;have Y:l4.w.heap[ab]?=Â (Û #[Å É n,sl] 68 (0,0)):=by rw[hab,my,hfr]
 have c1:l4.w.cell? ⟨ab,1,Á⟩=Â sl:=by simp[à,Y]
 have z1:l4.w.frozen? ⟨ab,1,Á⟩=Ë:=by simp[World.frozen?,Y]
 have Bw:=g.q;apply pE;apply fX (n:=20) g.r.r;conv in Un=>whnf
 iterate 7 w_go fB
 refine ï λ_ _=> ?_;apply GJ (p:=ab) (off:=1) (v:=Ç p m c) (u:=sl) U U (by k_ne) g.r.r Bw MN c1 z1 U (λw z B=>by go_simp) (λw z B=>by simp[go_sem,events_store _ _ _ _ _ _ (show Value.oneCell' (Ç p m c)=Î from rfl),z,B]);have k5:=Ku (X:=λb=>b=ab) (p:=ab) (w':=l4.w.setCell ⟨ab,1,Á⟩<|Ç p m c) g.r (fG.fU _ _) MN U fv.jT λj hj=>fv.lh hj;have rz:=k5.N g.r;have aua:(l4.w.setCell ⟨ab,1,Á⟩<|Ç p m c).heap.size=l4.w.heap.size:=fv.jT;have uf:ij ({l4 with w:=l4.w.setCell ⟨ab,1,Á⟩ (Ç p m c)}:fe):=⟨rz,g.d,g.q,g.N,g.I,g.M,g.k⟩;have c0:l4.w.cell? ⟨ab,0,Á⟩=Â (Å É n):=by simp[à,Y]
 have arX:r≠ab:=λe=>by
  rcases ģ (kL rs s).length with q|q
  .have z:=h.C.2.1.C;rw[q,e,c0]at z;cases z
  .have B:=h.C.2.1.r 0 _<|Ó q;rw[e,c0]at B;cases B
 have abO:(l4.w.setCell ⟨ab,1,Á⟩<|Ç p m c).heap[r]?=l4.w.heap[r]?:=fv.lh (a:=⟨ab,1,Á⟩) arX;have TT:=h.C.2.1.I abO;have Bg:kN (l4.w.setCell ⟨ab,1,Á⟩<|Ç p m c) r=Â (0,0):=(wL abO).trans h.C.2.2;have arY:ll r=Ë:=arT (C.r.r h.fx λb q=>(h.r b<|C.C b q).2) h.C.2.1;have hlen:(kL rs s).length=rs.length:=ML;apply fX (n:=20) rz.r;iterate 4 w_go fB
 refine ï λ_ _=> ?_;refine yb (f:=38) (args:=#[Ç (Â ⟨r,0,Á⟩) rs.length rs.length,Ä ⟨#[59]⟩]) U fQ (by k_ne) rz.r (λw=>by go_simp) (λw=>ô U ē U U #[]) λw₁ E=> ?_;have Ag:=uf.C E;have arZ:uN r (kL rs s) w₁:=TT.I<|E.I r<|È h.C.1;refine fv.fj.lI ?_ (arV (xs:=kL rs s) Ag (Ì (by rw[fv.jT];exact h.fx) E.r) arZ h.C.1 arY ((wL<|E.I r<|È h.C.1).trans Bg) Z hlen U Z);rintro K g6 ⟨M,hd,rfl⟩;have Up:ij K:=kg.zp Ag M hd;have hk6:∀b,l4.O b->K.w.heap[b]?=(l4.w.setCell ⟨ab,1,Á⟩<|Ç p m c).heap[b]?:=λb q=>(M.r.I b<|È q).trans<|E.I b<|È q;have hs6:l4.w.heap.size<=K.w.heap.size:=by have z:=M.r.r;have B:=E.r;have h3:(l4.w.setCell ⟨ab,1,Á⟩<|Ç p m c).heap.size=l4.w.heap.size:=fv.jT;exact Ì (Nat.le_of_eq h3.symm)<|Ì B z
 have B:∀b,l4.O b->K.O b:=λb q=>M.O b q;generalize kJ ⟨#[59]⟩ (kL rs s)=ans at*;walk_nrm;apply fX (n:=20) Up.r.r;repeat w_go fB
 u_in fB hF
 refine θ (t:=4) (u:=5) U U Ł U ⟨by u_nil,?_⟩;refine ï λ_ _=> ?_;refine .fC λwH z=>⟨Up.C z,U,hJ _ (Up.C z)<|arR C h g.r B (λb q=>(z.I b<|È<|B b q).trans<|hk6 b q)<|Ì hs6 z.r⟩
end
section
variable{l:fe}{s:List fJ}
theorem ar0{e:fe}{c:Nat->Prop}{g:List PR}(B:nX l j n s v X)(C:gy l)(D:nX e j n s v X)(k:ij e)(W:RQ g z c e.w)(Y:∀b,c b->e.O b)(hok:∀r∈g,uJ r)(E:g.length<=24)(F:∀b,c b->l.w.heap.size<=b)(H:∀b,l.O b->e.O b/\e.w.heap[b]?=l.w.heap[b]?)(I:l.w.heap.size<=e.w.heap.size)(J:iP (kL g s)+g.length<=140737488355328)(t:d.size=39)(u:d[0]?=Â (Ã<|Â ⟨j,0,Á⟩))(K:d[6]?=Â z) (M:∀h,ij h->MK l h j n (vW g s) X->jl vQ h (G (f.at (y.put ((Q[i]?).bind (·.dst))<|ë #[Ä<|kJ ⟨#[59]⟩<|kL g s,Å É 0])<|Ð Q jJ::L) qX)): jl vQ e (G ((base 17).at ⟨d,[]⟩<|ax (.region 4 om Î)::[ax Un])<|f.at y (Ð Q (i::jJ)::L)::qX):=by
 refine arJ (II om d (j1 j n v z)<|vY e (λb=>X b\/c b) g s) k (λa x=> ?_) (λm o a l i jJ p N P=> ?_) λm o a l p S T=> ?_
 .refine⟨(ĸ,ĸ),lz.G _ _ _,k.C x,λ_=>(gi.fU k.r.r).G x,λq=> ?_⟩;exact absurd q A
 .by_cases V:i=9
  .grind [arN]
  .exact arK (arL D t u K m o a l i jJ p N V) (λN h q=>by let⟨x,_,q⟩:=q;exact q.1) P
 .exact arW B C F H I E J t u M m o a l p S T
def abP(p:ij l)(r:nX l j n s v X)(I:B.size<=ī)(J:(iy B).1=0->iP (kL (iy B).2.2 s)+(iy B).2.2.length<=140737488355328) (t:∀z,ij z->MK l z j n (lS s B).2.2 X->jl vQ z (G (f.at (y.put ((Q[i]?).bind (·.dst))<|ë #[Ä (lS s B).1,Å É (lS s B).2.1])<|Ð Q jJ::L) qX)): jl vQ l (G (è À 17 #[Ã<|Â ⟨j,0,Á⟩,Ä B] Ą)<|f.at y (Ð Q (i::jJ)::L)::qX):=by
 have hF:=trivial;rw[Ct [_,_] 37 Ł];simp only[ą,Đ,ę];conv in kV _ _=>whnf
 apply pE;apply fX (n:=20) p.r.r;iterate 8 w_go fB
 refine ï λ_ _=> ?_;refine yb (f:=36) (args:=#[Ä B]) U fQ (by k_ne) p.r.r (λw=>by go_simp) (λw=>ô U ļ U U #[]) λw₁ m=> ?_;have C:=p.C m;refine fv.fj.lI ?_<|arn C.r C.q (Ì r.r.fx m.r) I Î _ _;rintro u g1 ⟨x,K,a,rfl,M⟩;have g:=kg.zp C x K;have h:∀b,l.O b->u.O b/\u.w.heap[b]?=l.w.heap[b]?:=λb q=>⟨x.O b q,(x.r.I b<|È q).trans<|m.I b<|È q⟩;have F:=Ì m.r x.r.r;rw[Ě];by_cases k:(iy B).1=0
 .have D:lS s B=(kJ ⟨#[59]⟩<|kL (iy B).2.2 s,0,vW (iy B).2.2 s):=if_pos k;let⟨c,N,E⟩:=M k;have P:=J k;rw[D]at t;obtain⟨S,T⟩:=Iq;rw[k];generalize(iy B).2.2=rs at*;generalize(iy B).2.1=at1 at*;walk_nrm;apply fX (n:=40) g.r.r;repeat w_go fB
  refine ï λ_ _=> ?_;refine .fC λo d=>⟨g.C d,U,?_⟩;have V:=g.C d;have e:∀b,l.O b->({u with w:=o}:fe).O b/\o.heap[b]?=l.w.heap[b]?:=λb q=>⟨(h b q).1,(d.I b<|È (h b q).1).trans (h b q).2⟩;have H:=Ì F d.r;have W:=r.S (λb q=>(e b q).1) (λb q=>(e b q).2) H;have Y:=N.r λb q=>d.I b<|È (E b q).1;have hQ3:=λb q=>(E b q).1;have Uo:=λb q=>Ì m.r (E b q).2;exact ar0 r p.r W V Y hQ3 S T Uo e H P U U U t
 .have D:lS s B=(⟨#[]⟩,(iy B).1,s):=if_neg k;rw[D]at t;have c:((iy B).1 !=0)=Î:=by rwa[bne_iff_ne]
  generalize(iy B).1=er at*;generalize(iy B).2.1=at1 at*;walk_nrm;apply fX (n:=40) g.r.r;repeat w_go fB
  u_in fB hF
  refine θ U U Ł U ⟨by u_nil,?_⟩;refine ï λ_ _=> ?_;refine .fC λo d=>⟨g.C d,U,t _ (g.C d) ?_⟩;have e:∀b,l.O b->({u with w:=o}:fe).O b/\o.heap[b]?=l.w.heap[b]?:=λb q=>⟨(h b q).1,(d.I b<|È (h b q).1).trans (h b q).2⟩;exact⟨λb q _=>e b q,v,X,r.S (λb q=>(e b q).1) (λb q=>(e b q).2)<|Ì F d.r,λb q=>È q⟩
end
def Uq(a:ByteArray)(c:a.size=1):∀b:List ByteArray,(kJ a b).size<=iP b+b.length
 |[]=>Ø _
 |x::r=>by
  show(x.data.toList++nV a r).toArray.size<=_;have d:iP (x::r)=x.size+iP r:=by simp[iP]
  have e:x.data.toList.length=x.size:=by rw[ě];rfl
  simp only[ř,Ù,Md a c r,d,e,ď];omega
def Ur{M:Nat}(a:∀z∈vX,z.size<=M)(b:M<=100)(c:vX.length<=400000):(qd vX).size<=100000000:=by
 unfold qd;split
 .decide
 .have d:=Uq ⟨#[44]⟩ U vX;have e:=EN vX a;have:M*vX.length<=100*400000:=ű b c;omega
theorem E8(i:Nat):(nI i).size<=3:=by
 unfold nI nU;rw[ø];split
 .show 1+1<=3;decide
 .show 1+2<=3;decide
theorem abQ(s:gR.St)(x y:Nat)(k:Int):∀(m i:Nat),i+m<=1000->(sV s x y k i m).size<=20
 |0,i,_=>by unfold sV;decide
 |m+1,i,h=>by
  unfold sV;split
  .exact qI i Z
  .exact abQ s x y k m (i+1) Z
theorem ar1(s t:gR.St):(pg s t 8).length<=400000:=by
 unfold pg;have a:∀l:List Nat,(l.flatMap<|xP s t).length<=18*l.length:=λl=>by
  induction l with
  |nil=>simp
  |cons i l b=>
   rw[List.flatMap_cons,Ù,ď];have:(xP s t i).length<=18:=by unfold xP;grind [Ù,L9,aar]
   omega
 grind
theorem ar2{i:List (Nat×fJ)}{q:Qn}(n:lq (kj i))(ok:q.Ok):(qK i q).size<=100000000:=by
 unfold qK;split
 .grind [E8]
 .rename_i p o;let⟨b,f,v,w⟩:=n.r _<|Ú.2 ⟨p,H6 o,U⟩;have j:∀u,u<18446744073709551616->(gH u).size<=100000000:=λu r=>by have:=qI u r;omega
  unfold Ch;split
  .have c:=f.C q.x q.I;exact j _ (by have:=c.1;have:=c.2;omega)
  .split
   .have c:=f.fw q.x;exact j _ (by have:=c.1;have:=c.2;omega)
   .split
    .split
     .grind [E8]
     .rename_i B;have l:gh (q.k:Int):=⟨Z,by have:=ok.k;omega⟩;have e:=Ly p.2.s [] q.x q.y q.g q.k f ok.x ok.y l Z Z (by simp;omega);unfold TL;have C:=e.r;have m:=e.M;have t:=e.I;simp at t;have D:=Uq ⟨#[44]⟩ U<|[gH (gl p.2.s [] q.x q.y q.g q.k).C.toNat,gH (gl p.2.s [] q.x q.y q.g q.k).M.toNat,gH (gl p.2.s [] q.x q.y q.g q.k).r.toNat]++(gl p.2.s [] q.x q.y q.g q.k).I.map oH;have E:=EN (M:=21) ([gH (gl p.2.s [] q.x q.y q.g q.k).C.toNat,gH (gl p.2.s [] q.x q.y q.g q.k).M.toNat,gH (gl p.2.s [] q.x q.y q.g q.k).r.toNat]++(gl p.2.s [] q.x q.y q.g q.k).I.map oH) λz d=>by
       rcases â.1 d with h|h
       .simp at h;rcases h with rfl|rfl|rfl
        .have:=qI (gl p.2.s [] q.x q.y q.g q.k).C.toNat (by cases(gl p.2.s [] q.x q.y q.g q.k).C<;>decide);omega
        .have:=qI (gl p.2.s [] q.x q.y q.g q.k).M.toNat (by have:=m.1;have:=m.2;omega);omega
        .grind [qI]
       .obtain⟨e,a,rfl⟩:=Ú.1 h;exact Mg ((Tn p.2.s [] q.x q.y q.g q.k f ok.x ok.y l Z Z (by simp;omega) λ_ q=>by cases q) e a).2
      grind
    .split
     .grind [abQ]
     .split
      .have:=aaH<|xL p.2.s;have:=aaI<|16-(ny<|xL p.2.s).size;unfold zS;rw[ø];omega
      .split
       .exact Ur (λz d=>by obtain⟨e,a,rfl⟩:=Ú.1 d;exact Mg (b.C e a).2) Z<|by rw[ù];exact b.I
       .split
        .exact Ur (λz d=>by obtain⟨e,a,rfl⟩:=Ú.1 d;exact aaB (b.r e a).1 (b.r e a).2) Z (by rw[ù];have:=b.M;omega)
        .split
         .grind [E8]
         .exact Ur (aaJ _ _) Z<|ar1 _ _
theorem ar3(a:List (Nat×fJ))(v:Int)(x:Nat)(b:List Tx):(qH a v x b).2.size<=3:=by
 unfold qH;split
 .exact E8 3
 .split
  .exact E8 4
  .split
   .exact E8 5
   .show(nU a.length).size<=3;unfold nU;split
    .show 1<=3;decide
    .show 2<=3;decide
def ar4{s:List fJ}{i:Int×Nat×List Tx}(h:lq s)(a:∀t∈i.2.2,t.Ok)(b:i.2.2.length<=1000):lq (Cl s i):= lq.M (by rwa[Ig]) a b
def abR{a:List PR}{s:List fJ}(h:lq s)(b:∀r∈a,uJ r):∀k,k<=(gY (kK a) a.length).length->lq (pw (vV a) (gY (kK a) a.length) s k)
 |0,_=>h
 |k+1,hk=>by
  have c:a.getD ((gY (kK a) a.length).getD k 0) oL∈a:=ç (i:=(gY (kK a) a.length).getD k 0) (by have q:=(Hl<|vE (l:=gY (kK a) a.length)<|show k<_ from hk).1;generalize(gY (kK a) a.length).getD k 0=j at q;simp[Ğ,q]);have q:=b _ c;refine ar4 (abR h b k Z) (λt d=> ?_) ?_
  .obtain⟨x,t,rfl⟩:=Ú.1 d;exact toTx_ok<|q.C x t
  .show((a.getD _ oL).r.map toTx).length<=1000;rw[ù];have:=q.n;omega
def RF(kd:Nat->Int):∀{p R:Nat},p<=R->fL kd p<=(gY kd R).length:=λ{p R} h=>by
 show(gY kd p).length<=(gY kd R).length
 induction h with
 |refl=>exact æ _
 |@step R _ ih=>
  by_cases q:kd R=1
  .rw[sN q];simp;omega
  .rwa[vy q]
theorem abS{a:List PR}{s:List fJ}(h:lq s)(b:∀r∈a,uJ r)(l:a.length<=24):iP (kL a s)+a.length<=2400000024:=by
 have d:=EN (M:=100000000) (kL a s) λz c=>by
  unfold kL at c;obtain⟨p,e,rfl⟩:=Ú.1 c;have f:=Ŷ.1 e;have g:=abR h b (fL (kK a) p)<|RF _ Z;unfold vN;split
  .grind [Ì,ar3]
  .rename_i j;have k:a.getD p oL∈a:=ç (i:=p) (by simp[Ğ,f]);exact ar2 (by rwa[Ig])<|abL (b _ k) j
 rw[ML]at d;omega
def abT{s:List fJ}(h:lq s):iP (kL (iy B).2.2 s)+(iy B).2.2.length<=140737488355328:=Ì (abS h Iq.1 Iq.2) A
theorem ar5{s:List fJ}(h:lq s)(B:ByteArray):(lS s B).1.size<=10^12:=by
 unfold lS;split
 .have a:=Uq ⟨#[59]⟩ U<|kL (iy B).2.2 s;have b:=abS h (Iq (B:=B)).1 Iq.2;rw[ML]at a;grind
 .exact Ø _
def IA(c:Int):Int:=if c<0 then(-(c+1))%8 else c%8
def ar6(c:Int)(b:-9223372036854775808<=c)(d:c<=9223372036854775807)(w:Í):Ò À 30 #[Å É c,Å É 8] w λe a=>e=Æ (Å É<|IA c)/\a=w:=by
 unfold IA;by_cases h:c<0
 .rw[if_pos h];have e:-(c+1).tmod 8=(-(c+1))%8:=by rw[<-Int.neg_tmod,Int.tmod_eq_emod_of_nonneg Z]
  have H:=ff e.symm;clear e;go_enter ŧ,Ο;go_wp2;go_ret;exact⟨by rw[H.out];rfl,U⟩
 .rw[if_neg h];go_enter ŧ,Ο;go_wp2;go_ret;exact⟨U,U⟩
def abU(a:ü)(w:Í):Sem.events À (binOp BinOp.eql 26 (Ã<|Â a)<|Ã Á) w #[]=#[]:=fu
theorem abV{l:fe}(a:ij l)(p:nB<=l.w.heap.size){f:Ρ}{args:Array Ñ}{r:Ñ}(m:El f=Î)(s:∀v∈args.toList,fl (pU (λ_=>False) À.globals.size) v v)(t:∀{Y v},fl Y r v->v=r)(x:∀w,Ò À f args w λe y=>e=Æ r/\y=w)(n:Bool)(c:Ē)(i:List Ē): fv.fj À n (λk o=>kg l k/\k.d=l.d/\o=G (c.finish r) i) l (G (è À f args Ą)<|c::i):=by
 let⟨E,F,z,B⟩:=zt f m;have C:∀T,Ò À f args (World.tp (kX (λj=>False/\¬(lX l).O j) l.w) T 0) fun|Æ v,j=>v=r/\j4 j|_,_=>False:=λT=>by refine(x _).mono ?_;grind [ES]
 refine((Eg yi Li zt (λv u T D h=>h) m z B (Eh a.r) a.q (λb q=>q.elim) ⟨λb q=>q.elim,p⟩ (λg q=>by cases q) (pn s) C n c i).lX a.r).fO ?_;rintro k o ⟨D,⟨Y,j,v,H,_,_,g,rfl,b,_,_,h⟩,rfl,u,_,_,_⟩;rw[t g]at b;exact⟨u,h,b⟩
def Us:ByteArray:=⟨#[98,48,58,97,59,98,48,58,104,59,117,48,59,98,49,58,97]⟩
def ar7:(lS [gR.kY] Us).1=⟨#[49,48,48,48,59,49,48,48,48,59,45,59,33,51]⟩:=fu
def ar8:(lS [gR.kY] Us).2=(0,[gR.kY]):=fu
structure ar9(l l':fe)(ab n:Nat)(sl:Ñ)(V:Nat->Prop):Prop where
 r:nX l' ab n [gR.kY] sl V
 C:∀b,l.O b->l'.O b/\l'.w.heap[b]?=l.w.heap[b]?
 I:l.w.heap.size<=ab
 M:∀b,V b->(b=1\/b=2\/b=3\/b=4)\/l.w.heap.size<=b
section
variable{l:fe}
def asa{J:Jd}{s:List fJ}(c:ij l)(d:nX l j n s z X)(g:fv.fj À Î J l (G (f.at (y.put ((Q[i]?).bind (·.dst))<|Å É s.length)<|Ð Q jJ::L) qX)): fv.fj À Î J l (G (è À 22 #[Ã<|Â ⟨j,0,Á⟩] Ą)<|f.at y (Ð Q (i::jJ)::L)::qX):=by
 have hF:True:=trivial;obtain⟨a,b,rfl⟩:∃a b,z=Ç a s.length b:=by
  let⟨o,h,_,⟨a,k,b,e,_,m⟩,_⟩:=d.I;have:k=s.length:=by rw[m.r,<-h];simp[kj]
  exact⟨a,b,by rw[e,this]⟩
 have o:s.length<=40:=by let⟨_,_,e,_⟩:=d.I;exact e.C
 let⟨p,k,_⟩:=d.a;have m:l.w.cell? ⟨j,1,Á⟩=Â (Ç a s.length b):=by simp[à,k]
 rw[Ct [_] 7 Ũ];simp only[ą,Đ,ę];conv in kV _ _=>whnf
 refine fX (n:=20) c.r.r ?_;repeat w_go fB
 refine ï λ_ _=> ?_;refine o0 (x:=⟨j,1,Á⟩) (v:=Ç a s.length b) U fQ (by k_ne) c.r.r c.q (È<|È d.fq) m (λw h=>by go_simp) (λw h=>by simp[go_sem,h]) ?_;walk_nrm;refine fX (n:=20) c.r.r ?_;repeat w_go fB
 u_in fB hF
 refine Ŧ (t:=2) U U Ũ U ⟨by u_nil,?_⟩;refine ï λ_ _=> ?_;exact g
def asb(j:ij l)(p:nz l.w)(I:∀b,b=1\/b=2\/b=3\/b=4->l.O b)(c:Int)(tE:-9223372036854775808<=c)(Aa:c<=9223372036854775807) (hJ:∀J a n K V,ij J->ar9 l J a n K V->jl vQ J (G (f.at (y.put ((Q[i]?).bind (·.dst))<|Ã<|Â ⟨a,0,Á⟩)<|Ð Q jJ::L) qX)): jl vQ l (G (è À 15 #[Å É c] Ą)<|f.at y (Ð Q (i::jJ)::L)::qX):=by
 have hF:True:=trivial;rw[Ct [_] 36 ι];simp only[ą,Đ,ę];conv in kV _ _=>whnf
 apply pE;apply fX (n:=20) j.r.r;repeat w_go fB
 refine ï λ_ _=> ?_;refine yb (f:=30) (args:=#[Å É c,Å É 8]) U fQ (by k_ne) j.r.r (λw=>by go_simp) (λw=>ô U ŧ U U #[]) λw₁ r=> ?_;have T:=j.C r;refine fv.fj.lI ?_ (abV T (Ì p.fx r.r) fQ (λv h=>by simp at h;rcases h with rfl|rfl<;>exact .iG _ _) (λh=>by cases h;rfl) (ar6 c tE Aa) Î _ _);rintro s g1 ⟨u,hd,rfl⟩;obtain⟨z,hz,HF,Ed⟩:∃z,IA c=z/\0<=z/\z<8:=⟨_,U,by unfold IA;split<;>omega,by unfold IA;split<;>omega⟩;rw[hz];have M:ij s:=kg.zp T u hd;have x:∀b,l.O b->s.O b/\s.w.heap[b]?=l.w.heap[b]?:=λb q=>⟨u.O b q,(u.r.I b<|È q).trans<|r.I b<|È q⟩;have B:l.w.heap.size<=s.w.heap.size:=Ì r.r u.r.r;rw[Ě];walk_nrm;refine fX (n:=20) M.r.r ?_;repeat w_go fB
 refine ï λ_ _=> ?_;have oA:É.wrap (1+z)=1+z:=Ļ _ ⟨Z,Z⟩;refine yb (f:=35) (args:=#[Å É<|1+z]) U fQ (by k_ne) M.r.r (λw=>by go_simp) (λw=>ô U ζ U U #[]) λwH h=> ?_;have N:=M.C h;obtain⟨n,hn⟩:∃n:Nat,1+z=n:=⟨(1+z).toNat,Z⟩;rw[hn];refine fv.fj.lI ?_<|arv N.r N.q (Ì (Ì p.fx B) h.r) (n:=(n:Int)) Z Z Î _ _;rintro d g3 ⟨C,xg,a,K,rfl,my,MN,hab,V,qB,hnV,W⟩;have g:ij d:=kg.zp N C xg;have k:∀b,l.O b->d.O b/\d.w.heap[b]?=l.w.heap[b]?:=λb q=>⟨C.O b (x b q).1,(C.r.I b<|È (x b q).1).trans<|(h.I b<|È (x b q).1).trans (x b q).2⟩;have X:l.w.heap.size<=d.w.heap.size:=Ì B<|Ì h.r C.r.r;have asc:l.w.heap.size<=a:=Ì B<|Ì h.r hab;have ase:∀b,b=1\/b=2\/b=3\/b=4->b<l.w.heap.size:=λb q=>j.r.fx b<|È<|I b q;have hin:nX d a n [gR.kY] K V:=⟨p.r (Ì p.fx X) λb q=>(k b<|I b q).2,λb q=>(k b<|I b q).1,my,MN,qB,λb q=>(W b q).1,hnV,Z,Z,λq=>by have:=ase a q;omega⟩;have hVn:∀b,V b->l.w.heap.size<=b:=λb q=>Ì B<|Ì h.r (W b q).2;rw[Ě];walk_nrm;apply fX (n:=60) g.r.r;repeat w_go fB
 refine ï λ_ _=> ?_;apply oD (v:=õ Ë) U fQ (by k_ne) g.r.r g.q (λw _=>by go_simp) (λw _ e m=>by simp[go_sem,abU]at m);walk_nrm;apply fX (n:=60) g.r.r;repeat w_go fB
 refine ï λ_ _=> ?_;refine .fC λY m=>⟨g.C m,U,?_⟩;have uf:=g.C m;have asf:=hin.N m;have P:∀b,l.O b->({d with w:=Y}:fe).O b/\Y.heap[b]?=l.w.heap[b]?:=λb q=>⟨(k b q).1,(m.I b<|È (k b q).1).trans (k b q).2⟩;refine Ae (f:=17) (args:=#[Ã<|Â ⟨a,0,Á⟩,Ä ⟨#[98,48,58,97,59,98,48,58,104,59,117,48,59,98,49,58,97]⟩]) uf U fQ (by k_ne) (λw=>by go_simp) (λw=>ô U Ł U U #[]) λabW D=> ?_;change jl vQ _ (G (è À 17 #[Ã<|Â ⟨a,0,Á⟩,Ä Us] Ą) _);refine abP (uf.C D) (asf.N D) A (λ_=>abT abI) λl6 E abX=> ?_;rw[ar8]at abX|-;rw[ar7];let⟨J3,sl6,V6,abY,hV6⟩:=abX;have lr:∀b,l.O b->b≠a:=λb q e=>by have:=j.r.fx b<|È q;omega
 have F:∀b,l.O b->l6.O b/\l6.w.heap[b]?=l.w.heap[b]?:=λb q=>by let⟨o,H⟩:=J3 b (P b q).1<|lr b q;exact⟨o,H.trans<|(D.I b<|È (P b q).1).trans (P b q).2⟩
 have hV7:∀b,V6 b->(b=1\/b=2\/b=3\/b=4)\/l.w.heap.size<=b:=λb q=>by
  rcases hV6 b q with z|z|z
  .exact Ï<|hVn b z
  .exact È z
  .exact Ï<|Ì X<|Ì (Ì m.r D.r) z
 walk_nrm;apply pE;apply fX (n:=60) E.r.r;repeat w_go fB
 refine ï λ_ _=> ?_;refine yb (f:=22) (args:=#[Ã<|Â ⟨a,0,Á⟩]) U fQ (by k_ne) E.r.r (λw=>by go_simp) (λw=>ô U Ũ U U #[]) λsK o=> ?_;apply asa (E.C o) (abY.N o);have S:=E.C o;have asg:=abY.N o;walk_nrm;apply fX (n:=60) S.r.r;repeat w_go fB
 u_in fB hF
 refine Ŧ (t:=2) U U ι U ⟨by u_nil,?_⟩;refine ï λ_ _=> ?_;exact .fC λUt H=>⟨S.C H,U,hJ _ a n sl6 V6 (S.C H) ⟨asg.N H,λb q=>⟨(F b q).1,(H.I b<|È (F b q).1).trans<|(o.I b<|È (F b q).1).trans (F b q).2⟩,asc,hV7⟩⟩
end
def IB{t:Tmp}(d:f.kind=Ą)(e:y.defers=[])(g:P.funcs[f.fn]?=Â s)(c:s.results=#[.tmp t])(h:P.inits.idxOf? f.fn=Á):stepG P Î (G {f.at y L with mode:=.returning} []) w=.ended (.done<|y.tmps.getD t ĸ) w:=by have i:=results_tmp c y.tmps P w;have j:=events_results_tmp (P:=P) (w:=w) c y.tmps;simp[G,stepG,unwind,doReturn,Frame.at,d,e,g,i,j,h,seen,GStep.after]
def ash{l:fe}(e:jl vQ l g)(a:ij l)(c:g.status=.running):rW vQ #[g] l.w Á #[]:=e a c (λ_=>False) 0 _ _ _ _ Á _ ⟨λx q=>q.elim,λ_ _ _ _ q=>q,Ø _⟩ (arx (P:=À) (J:=λ_ _=>True) (T:=.fC) U a.d a.q a.N a.I a.M a.k (λb q=>a.r.fx b<|È q) c λ_ _=>trivial) a.d U
def abZ(W:Í):fe:={O:=λb=>b<W.heap.size,I:=λ_=>False,r:=λ_=>False,N:=λ_=>False,K:=λ_=>False,d:=0,q:=False,w:=W}
def ab0(W:Í):ij (abZ W):= ⟨⟨λ_ _=>id,λ_ q=>q.elim,λ_ q=>q.elim (λz=>z.elim) λz=>z.elim,λ_ q=>q.elim id λz=>z.elim,λ_ q=>q.elim (λz=>z.elim) λz=>z.elim,λ_ q=>q.elim⟩,U,id,λ_=>id,λ_=>id,λ_=>id,λ_=>id⟩
structure nF(W w':Í):Prop where
 qU:∀b,b<W.heap.size->w'.heap[b]?=W.heap[b]?
 Da:W.heap.size<=w'.heap.size
def asi(g:nz W):∀b,b=1\/b=2\/b=3\/b=4->b<W.heap.size:=λb q=>by let⟨c,a,h,_⟩:=g.C;have:=(á.1 h).1;omega
end Go.Proofs.Y.kZ
