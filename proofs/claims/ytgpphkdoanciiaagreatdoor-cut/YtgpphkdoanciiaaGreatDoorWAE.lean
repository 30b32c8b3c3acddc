import Derived.Test.YtgpphkdoanciiaaGreatDoorWAD
import Derived.Lib.Bytealg
import Derived.WalkKit
import Derived.WalkSpells
import Derived.WalkLawsBesides
import Derived.Deep.Light
import Derived.WalkMore
import Derived.Deep.QuietTactic
import Derived.BigQuiet
import Derived.Conc.LeavingOf
import Derived.Conc.CrowdStepC
import Derived.Listen
import Derived.ProofKit
import Derived.Deep.Slices
set_option linter.all false
set_option maxRecDepth 1000000
set_option maxHeartbeats 8000000
open Go.Proofs.Tryz renaming prog->À,ntmps67->í,func67->ó,zeroCells292->û,ntmps100->ü,func100->Ā,underlying25->Č,func38->ĕ,results45->Ĥ,func36->ļ,results36->Ľ,func17->Ł,ntmps160->Ŋ,ntmps147->ŋ,ntmps38->Ŏ,func160->Œ,func147->Ŗ,ntmps95->ŗ,ntmps36->Ř,func95->ť,func30->ŧ,func22->Ũ,ntmps123->Ÿ,ntmps101->ż,func123->Δ,func101->Κ,ntmps96->Μ,ntmps45->Ν,ntmps30->Ο,func96->Ω,func45->ε,func35->ζ,func37->η,func15->ι,f38->ah
open Option renaming none->Á,some->Â,bind_eq_some_iff->Ü,bind_eq_bind->ê,map->ð,map_eq_some_iff->ò,isSome_none->ö,pure_def->ā,map_some->Ă,bind_some->ş
open Go.Value renaming pointer->Ã,string->Ä,int->Å,slice->Æ,tuple->ë,bool->õ,cells->Ĺ
open Go.Ending renaming returned->Ç
open Or renaming inl->È,inr->Ï
open Go.IntKind renaming i64->É,u64->ã,wrap_u64->Ć,wrap_i64->ŝ,u8->ū
open And renaming intro->Ê
open Bool renaming false->Ë,true->Î,false_eq_true->ì,eq_iff_iff->Ě
open Nat renaming le_trans->Ì,zero_le->Ø,le_refl->æ,lt_of_lt_of_le->Ģ,eq_zero_or_pos->ĥ,zero_add->œ,mul_le_mul->ű
open Go renaming World->Í,Value->Ñ,Calls->Ò,Addr->ù,bodyPost_ret->ÿ,Act->Ĉ,Goroutine->Ċ,TypeId->Ď,Frame->ď,maxLen->Ē,Oper->ğ,TypeInfo->ĩ,undef->ĸ,results->Ń,execOp->ś,runNT_fst->Ţ,run_underlying->Ů,info_parts->ů,heap_alloc_new->Ŵ,Tape->ŷ,Trace->Ž,runNT->ſ,mem_ready->Β,wp_loop->Γ,wpList_plain->Ε,yielded->Ι,cell_one_new->Λ,FuncId->Ρ,Code->Τ,storeCells->ν,resolve->ρ,builtin->ς,Program->ω,invoke->ak
open Go.Item renaming inRegion->Ð,code->av
open List renaming getElem?_eq_getElem->Ó,getElem?_eq_some_iff->Õ,length_append->Ù,mem_map->Ú,eq_nil_of_length_eq_zero->Ý,mem_append->â,mem_of_getElem?->ç,setIfInBounds_toArray->é,length_map->ú,set_cons_zero->ý,set_cons_succ->þ,replicate->ą,length_cons->đ,cons_append->ē,mem_cons_of_mem->Ė,getElem?_of_mem->ė,append_nil->Ę,nil_append->ě,getElem_of_mem->Ğ,getD->Ġ,getElem?_append_right->ġ,getElem?_append_left->Ħ,extract_eq_take_drop->ħ,mem_or_eq_of_mem_set->Ĩ,take_add_one->Ī,getElem?_map->ī,all_eq_true->ĭ,range->ĳ,set_append_right->Ĵ,length_pos_iff->Ņ,map_cons->ŉ,mem_singleton->ō,map_nil->Ő,append_assoc->ő,ext_getElem?->Ŕ,size_toArray->ř,length_take->Ś,map_toArray->Ŝ,mem_flatMap->Ş,length_nil->ũ,mem_range->Ŷ
open Option.some renaming injEq->Ô,inj->af
open Go.Lib renaming byteCells->Ö,indexByte->Þ,strCells->į,hasPrefix->ź,TabIs->χ
open Go.Obj renaming cells->Û
open Go.World renaming cell?->ß,setCell->Ż,drew->ξ,var?->ο
open Go.Code renaming wp->à,wp_mono->İ,loop->ń,skip->ai
open Array renaming getElem?_eq_some_iff->á,getElem?_eq_getElem->å,mem_toList_iff->î,getElem_mem->ă,length_toList->ĝ,size_setIfInBounds->Ĭ,getElem?_eq_none->ı,mem_of_getElem?->ĵ,getElem?_modify->Ķ,getElem?_toList->ķ,toList_extract->ĺ,replicate->Ū
open Go.Region renaming ready->ä,wanted->Ĕ,Mode->Ŀ
open Go.Frame renaming enter->è,finish_at->Ĝ
open Go.Conc.Goes renaming stop->ï
open Go.Ground renaming phase->ñ,data->ĉ
open Go.Conc renaming events_call_body->ô,crowd->Į,goes_leave1->Ŧ,Good->Ξ,goes_leave2->θ,listed->ax
open ByteArray renaming size_append->ø,getElem_eq_getElem_data->ċ,size_extract->č,data_extract->Ĳ,size->ŭ,data->Ű,extract->σ,mk->aA
open Go.CallKind renaming normal->Ą
open Go.Region.linearise renaming go->ć
open Go.Great renaming wpList_runTo->Đ
open Go.Builtin renaming append_->ę,firstCells->Ō,lenOf->Ź,append->κ,zeroCells->φ
open Go.RowKit.Below renaming heap_setCell->ģ,heap_alloc->Š
open Go.IntWalk renaming i64_in->Ļ,i64_left->š
open Go.Made renaming word->ł,reckonStruct->ŕ,infoAt->ţ,mostCells->Ų,reckon->Χ
open Int renaming toNat_of_nonneg->ņ,le_refl->Ť
open Go.Operand renaming tmp->ň
open Go.Result renaming andThen_ok->ŏ,andThen->ų
variable{i n j b k m J j9 j7 j6:Nat}{w u W jX:Í}{v x z jQ:Ñ}{g:Ċ}{a p:ù}{h c:Int}{e t T:Ď}{d q:Array Ñ}{P:ω}{y:Ĉ}{B:ByteArray}{X:Nat->Prop}{O:Option ù}{l:List Ñ}{yQ:Bool}{K H:Ĉ->Í->Prop}{o:ğ}{D:Nat->Nat}{E:Array Ċ}{L:List Go.Item}{jJ:List Nat}{qX:List ď}{qJ:Ž}{zX:Go.Loc->Prop}{zQ:List Int}{zJ:ĩ}{xQ:ŷ}{xJ:Nat×Nat}{vX:List ByteArray}{vQ:Ñ->Í->Prop}{vJ:Go.Exit->Ĉ->Í->Prop}{Q:Array ğ}{f:ď}{F:Ρ}{s:Go.Func}
namespace Go.Proofs.Y.iC
open Go Go.Proofs Go.RowKit Go.Proofs.Y.Lift
def BV:Τ->Option Τ
 |ń c=>Â c
 |.seq a b=>match BV b with
  |some c=>Â c
  |none=>BV a
 |.block _ c=>BV c
 |.scope c=>BV c
 |.cond _ a b=>match BV b with
  |some c=>Â c
  |none=>BV a
 |_=>Á
noncomputable def LD:Τ:=(ah.body.bind kA).getD ai
noncomputable def LF:Τ:=(ah.body.bind BV).getD ai
def QE(k:Nat)(X:Ĉ->Í->Prop):Exit->Ĉ->Í->Prop
 |.exit i,a,w=>i=k/\X a w
 |_,_,_=>False
def np(a:ByteArray)(b:List ByteArray):List UInt8:=b.flatMap λy=>a.data.toList++y.data.toList
def LG(a:ByteArray):List ByteArray->List UInt8
 |[]=>[]
 |x::r=>x.data.toList++np a r
def iE(xs:List ByteArray):Nat:=(xs.map ŭ).sum
def S8(a b:List ByteArray):iE (a++b)=iE a+iE b:=by simp[iE]
def S9(a:List ByteArray)(j:Nat):iE (a.take j)<=iE a:=by have h:=S8 (a.take j)<|a.drop j;simp_all
theorem LH(a:ByteArray)(c:a.size=1):∀b:List ByteArray,(np a b).length=iE b+b.length
 |[]=>rfl
 |x::r=>by
  have e:np a (x::r)=(a.data.toList++x.data.toList)++np a r:=U;have d:a.data.toList.length=1:=by simpa using c
  have f:x.data.toList.length=x.size:=fp
  have g:iE (x::r)=x.size+iE r:=by simp[iE]
  rw[e,Ù,Ù,LH a c r,d,f,g,đ];omega
def En(a:Option ù)(n b:Nat)(c:ByteArray)(m i:Int)(u:Nat->Ñ):Ĉ:=⟨#[Æ a n b,Ä c,u 2,u 3,u 4,Å É m,u 6,u 7,u 8,u 9,u 10,u 11,u 12,u 13,u 14,u 15,u 16,u 17,u 18,u 19,u 20,u 21,u 22,u 23,u 24,u 25,u 26,u 27,u 28,u 29,u 30,u 31,u 32,u 33,u 34,u 35,u 36,u 37,u 38,Æ a n b,Å É n,Å É i,u 42,u 43,u 44,u 45,u 46,u 47,u 48,u 49,u 50,u 51,u 52,u 53,u 54,u 55,u 56,u 57,u 58,u 59,u 60,u 61,u 62,u 63,u 64,u 65,u 66,u 67,u 68,u 69,u 70,u 71,u 72,u 73,u 74],[]⟩
def Eo(b:Option ù)(n c:Nat)(d:ByteArray)(m i:Int)(a:Ĉ):Prop:=∃u,a=En b n c d m i u
def qn(a:Option ù)(n c b:Nat)(d:ByteArray)(i:Int)(u:Nat->Ñ):Ĉ:=⟨#[u 0,Ä d,u 2,u 3,u 4,u 5,u 6,u 7,Ã<|Â ⟨b,0,Á⟩,u 9,u 10,u 11,u 12,u 13,u 14,u 15,u 16,u 17,u 18,u 19,u 20,u 21,u 22,u 23,u 24,u 25,u 26,u 27,u 28,u 29,u 30,u 31,u 32,u 33,u 34,u 35,u 36,u 37,u 38,u 39,u 40,u 41,u 42,u 43,u 44,u 45,u 46,u 47,u 48,u 49,u 50,u 51,u 52,u 53,u 54,u 55,u 56,u 57,u 58,u 59,u 60,u 61,u 62,Æ a n c,Å É n,Å É i,u 66,u 67,u 68,u 69,u 70,u 71,u 72,u 73,u 74],[]⟩
def Ep(c:Option ù)(n d b:Nat)(e:ByteArray)(i:Int)(a:Ĉ):Prop:=∃u,a=qn c n d b e i u
section
variable{X:Ĉ->Í->Prop}{sep:ByteArray}{xs:List ByteArray}
def aob(u:Nat->Ñ)(m:Int)(b:∀a,Eo O n i sep m n a->X a w): à À LD (Exit.then K<|QE 1 X) (En O n i sep m n u) w:=by
 unfold En;conv=>arg 2;whnf
 go_wp2_with fail
 exact⟨U,b _ (gu _)⟩
def aoc(u:Nat->Ñ)(m j:Nat)(f:j<n)(g:n<=1000000)(b c:Nat)(e:O=Â ⟨b,c,Á⟩)(x:ByteArray)(h:w.cell? ⟨b,c+j,Á⟩=Â (Ä x))(k:m+x.size<=140737488355328) (d:∀a,Eo O n i sep ((m+x.size:Nat):Int) ((j+1:Nat):Int) a->K a w): à À LD (Exit.then K<|QE 1 X) (En O n i sep m j u) w:=by
 unfold En;conv=>arg 2;whnf
 subst e;have H:=fe d;clear d;go_wp2_with fail;exact H.out _ (gu _)
def J1(O:Option ù)(n i:Nat)(sep:ByteArray)(b:Nat)(xs:List ByteArray)(u:Í)(a:Ĉ)(w:Í):Prop:=
 ∃j:Nat,Eo O n i sep ((b+iE (xs.take j):Nat):Int) j a/\j<=n/\w=u
def W_(O:Option ù)(n i:Nat)(sep:ByteArray)(b:Nat)(xs:List ByteArray)(u:Í)(a:Ĉ)(w:Í):Prop:=
 Eo O n i sep ((b+iE xs:Nat):Int) n a/\w=u
def LJ(n:Nat)(a:Ĉ)(_:Í):Nat:=match a.tmps.getD 41 ĸ with
 |Å _ i=>n-i.toNat
 |_=>0
def X_(b:Eo O n i sep h j y):LJ n y w=n-j:=by obtain⟨u,rfl⟩:=b;show n-(j:Int).toNat=_;simp
theorem aod(r:n=xs.length)(f:n<=1000000)(g:nn O (jg xs) u)(s:j+iE xs<=140737488355328)(a:Ĉ)(w:Í)(h:J1 O n i sep j xs u a w): à À LD (Exit.then (λb c=>J1 O n i sep j xs u b c/\LJ n b c<LJ n a w)<|QE 1<|W_ O n i sep j xs u) a w:=by
 obtain⟨b,d,t,rfl⟩:=h;rw[X_ d];obtain⟨c,rfl⟩:=d;by_cases k:b=n
 .subst k;refine aob c _ λa q=>⟨?_,U⟩;grind
 .obtain⟨x,e⟩:∃x,xs[b]?=Â x:=⟨_,Ó Z⟩;let⟨l,m,o,p⟩:=g b (Ä x) (by simp[jg,e]);have v:iE (xs.take<|b+1)=iE (xs.take b)+x.size:=by
   rw[Ī,e,S8];simp[iE]
  have y:=S9 xs<|b+1;refine aoc c _ b Z f l m o x p Z λa q=>⟨⟨b+1,?_,Z,U⟩,by rw[X_ q];omega⟩;grind
def aoe(u:Nat->Ñ)(c:∀a,Ep O n i b sep n a->X a w): à À LF (Exit.then K<|QE 3 X) (qn O n i b sep n u) w:=by
 unfold qn;conv=>arg 2;whnf
 go_wp2_with fail
 exact⟨U,c _ (gu _)⟩
def aof(c:Nat->Ñ)(j:Nat)(y:j<n)(z:n<=1000000)(d f:Nat)(o:O=Â ⟨d,f,Á⟩)(x:ByteArray)(p:u.cell? ⟨d,f+j,Á⟩=Â (Ä x))(l:List UInt8)(g:oK u b (Ö l) w)(q:sep.size=1)(B:l.length+1+x.size<=140737488355328) (r:∀a h,Ep O n i b sep ((j+1:Nat):Int) a->oK u b (Ö<|l++(sep.data.toList++x.data.toList)) h->K a h): à À LF (Exit.then K<|QE 3 X) (qn O n i b sep j c) w:=by
 unfold qn;conv=>arg 2;whnf
 subst o;have C:=g.r.r p id;have k:=Lib.byteCells_length l;have s:(Ö l++į sep).length=l.length+1:=by rw[Ù,k,Lib.strCells_length,q]
 have E:Ö l++į sep++į x=Ö (l++(sep.data.toList++x.data.toList)):=by simp[Ö,į]
 have H:=fe<|Ê g<|Ê r<|Ê k<|Ê s E;go_wp2_with (first
  |(go_at_call 55;refine(S7 t.out x<|by rw[H.out.2.2.2.1];omega).mono ?_;rintro e D ⟨rfl,m⟩;have v:=fe m;clear m)
  |(go_at_call 55;refine(S7 H.out.1 sep (by rw[H.out.2.2.1];omega)).mono ?_;rintro e D ⟨rfl,m⟩;have t:=fe m;clear m))
 apply H.out.2.1 _ _ (gu _);rw[<-H.out.2.2.2.2];exact v.out
def J2(O:Option ù)(n i b:Nat)(sep:ByteArray)(c:List UInt8)(xs:List ByteArray)(u:Í)(a:Ĉ)(w:Í):Prop:=
 ∃j:Nat,Ep O n i b sep j a/\j<=n/\oK u b (Ö<|c++np sep (xs.take j)) w
def X'(O:Option ù)(n i b:Nat)(sep:ByteArray)(c:List UInt8)(xs:List ByteArray)(u:Í)(a:Ĉ)(w:Í):Prop:=
 Ep O n i b sep n a/\oK u b (Ö<|c++np sep xs) w
def LK(n:Nat)(a:Ĉ)(_:Í):Nat:=match a.tmps.getD 65 ĸ with
 |Å _ i=>n-i.toNat
 |_=>0
def Y_(c:Ep O n i b sep j y):LK n y w=n-j:=by obtain⟨u,rfl⟩:=c;show n-(j:Int).toNat=_;simp
theorem aog{d:List UInt8}(z:n=xs.length)(h:n<=1000000)(k:sep.size=1)(l:nn O (jg xs) u)(B:d.length+iE xs+n<=140737488355328)(a:Ĉ)(w:Í)(m:J2 O n i b sep d xs u a w): à À LF (Exit.then (λc e=>J2 O n i b sep d xs u c e/\LK n c e<LK n a w)<|QE 3<|X' O n i b sep d xs u) a w:=by
 let⟨j,g,C,o⟩:=m;rw[Y_ g];obtain⟨c,rfl⟩:=g;by_cases p:j=n
 .subst p;refine aoe c λa q=>⟨q,?_⟩;grind
 .obtain⟨x,f⟩:∃x,xs[j]?=Â x:=⟨_,Ó Z⟩;let⟨r,s,t,v⟩:=l j (Ä x) (by simp[jg,f]);have D:iE (xs.take<|j+1)=iE (xs.take j)+x.size:=by
   rw[Ī,f,S8];simp[iE]
  have E:=S9 xs<|j+1;have y:(d++np sep (xs.take j)).length=d.length+iE (xs.take j)+j:=by grind [Ù,LH,Ś]
  have F:np sep (xs.take<|j+1)=np sep (xs.take j)++(sep.data.toList++x.data.toList):=by rw[Ī,f];simp[np]
  refine aof c j Z h r s t x v _ o k (by rw[y];omega) λa e q G=>⟨⟨j+1,q,Z,?_⟩,by rw[Y_ q];omega⟩;grind
end
section
variable{sep:ByteArray}{xs:List ByteArray}
def kZ(sep:ByteArray)(xs:List ByteArray):ByteArray:=⟨(LG sep xs).toArray⟩
def aoh:Ò À 38 #[Æ O 0 i,Ä sep] w λe a=>e=Ç (Ä ⟨#[]⟩)/\e9 ff w a:=by go_enter ĕ,Ŏ;go_wp2_with fail;go_ret;exact⟨U,e9.fT _ _⟩
def aoi(a b:Nat)(x:ByteArray)(d:w.cell? ⟨a,b,Á⟩=Â (Ä x)):Ò À 38 #[Æ (Â ⟨a,b,Á⟩) 1 i,Ä sep] w λe c=>e=Ç (Ä x)/\e9 ff w c:=by go_enter ĕ,Ŏ;go_wp2_with fail;go_ret;exact⟨U,e9.fT _ _⟩
theorem aoj(k:Nat)(K:1<=k)(L:k<1000000)(c d:Nat)(M:k+1<=i)(B:sep.size=1)(x:ByteArray)(g:k=xs.length)(f:nn (Â ⟨c,d,Á⟩) (jg<|x::xs) w)(C:iE (x::xs)+(k+1)<=140737488355328): Ò À 38 #[Æ (Â ⟨c,d,Á⟩) (k+1) i,Ä sep] w λe b=>e=Ç (Ä<|kZ sep<|x::xs)/\e9 ff w b:=by
 have D:iE (x::xs)=x.size+iE xs:=by simp[iE]
 have m:∀a,Eo (Â ⟨c,d,Á⟩) (k+1) i sep ((k+iE ((x::xs).take 0):Nat):Int) (0:Nat) a->à À (ń LD) (QE 1<|W_ (Â ⟨c,d,Á⟩) (k+1) i sep k (x::xs) w) a w:=λa h=>
  Γ (J1 (Â ⟨c,d,Á⟩) (k+1) i sep k (x::xs) w) (LJ<|k+1) ⟨0,h,Ø _,U⟩<|aod (by simp[g]) Z f Z
 have n:nn (Â ⟨c,d+1,Á⟩) (jg xs) w:=λj u E=>by let⟨b,o,z,l⟩:=f (j+1) u (by simpa[jg]using E);grind
 have p:∀a W,Ep (Â ⟨c,d+1,Á⟩) k (i-1) w.heap.size sep (0:Nat) a->oK w w.heap.size (Ö<|x.data.toList++np sep (xs.take 0)) W->à À (ń LF) (QE 3<|X' (Â ⟨c,d+1,Á⟩) k (i-1) w.heap.size sep x.data.toList xs w) a W:=λa W h o=>
  Γ (J2 (Â ⟨c,d+1,Á⟩) k (i-1) w.heap.size sep x.data.toList xs w) (LK k) ⟨0,h,Ø _,o⟩<|aog g Z B n (by simp only[ĝ];have:x.data.size=x.size:=rfl;omega)
 let⟨_,_,F,q⟩:=f 0 (Ä x) U;cases F;have r:w.cell? ⟨c,d,Á⟩=Â (Ä x):=q;have s:x.data.toList++np sep xs≠[]:=by grind [Ù,LH,ũ]
 have N:(1:Int)<9223372036854775807/(k:Int):=by rw[Int.lt_iff_add_one_le,Int.le_ediv_iff_mul_le Z];omega
 have t:0<k+iE (x::xs)/\k+iE (x::xs)<=281474976710656:=Z
 have y:(Ö []).length+x.size<=140737488355328:=by simp[Ö];omega
 have H:=fe<|Ê m<|Ê p<|Ê t<|Ê y<|Ê s r;clear m p t y s q r f n g C D;generalize G:iE (x::xs)=S at*;go_enter ĕ,Ŏ;go_wp2_with fail;refine İ ?_ (H.out.1 _ (gu _));rintro(_|_|_|_|_|_) a v hq;all_goals first|exact absurd hq id|skip
 obtain⟨rfl,b,rfl⟩:=hq;rw[G]at b;obtain⟨u,rfl⟩:=b;unfold En;go_wp2_with (first
  |(go_at_call 54;refine(an9 ⟨æ _,e9.gG _ _ _ _,fh.N v [Ã Á,Æ Á 0 0] 109⟩ (k+S) H.out.2.2.1.1 H.out.2.2.1.2).mono ?_;rintro e I ⟨rfl,l⟩;have J:=l.r.r H.out.2.2.2.2.2 id;have z:=fe l;clear l)
  |(go_at_call 55;refine(S7 z.out x H.out.2.2.2.1).mono ?_;rintro e l ⟨rfl,z⟩;have I:=fe z;clear z))
 have J:oK v v.heap.size (Ö<|x.data.toList++np sep (xs.take 0)) l:=by have:=I.out;show oK v v.heap.size (Ö<|x.data.toList++[]) l;rw[Ę];exact this
 refine İ ?_ (H.out.2.1 _ _ (gu _) J);rintro(_|_|_|_|_|_) a w3 hq;all_goals first|exact absurd hq id|skip
 obtain⟨rfl,b,o⟩:=hq;obtain⟨v,rfl⟩:=b;unfold qn;go_wp2_with (go_at_call 56;refine(aoa (fe o).out H.out.2.2.2.2.1).mono ?_;rintro e O ⟨rfl,z⟩;have I:=fe z;clear z);go_ret;exact⟨U,I.out⟩
def Ta(a:n=xs.length)(f:n<=1000000)(g:n<=i)(h:sep.size=1)(b:nn O (jg xs) w)(j:iE xs+n<=140737488355328): Ò À 38 #[Æ O n i,Ä sep] w λe c=>e=Ç (Ä<|kZ sep xs)/\e9 ff w c:=by
 cases xs with
 |nil=>subst a;exact aoh
 |cons x r=>
  let⟨c,d,k,l⟩:=b 0 (Ä x) U;subst k;cases r with
  |nil=>
   subst a;have e:kZ sep [x]=x:=by show aA ((x.data.toList++[]).toArray)=x;rw[Ę]
   rw[e];exact aoi c d x l
  |cons y r=>
   subst a;exact aoj (r.length+1) Z (by simp at f;omega) c d g h x U b j
def aok(a:n=xs.length)(c:n<=1000000)(d:n<=i)(h:nn O (jg xs) w)(f:iE xs+n<=140737488355328): Ò À 123 #[Æ O n i] w λe b=>e=Ç (Ä<|if xs=[]then⟨#[45]⟩else kZ ⟨#[44]⟩ xs)/\e9 ff w b:=by
 have H:=fe<|Ta (sep:=⟨#[44]⟩) a c d U h f;by_cases b:xs=[]
 .subst b;have e:=a;subst e;rw[if_pos U];clear a f H c d;go_enter Δ,Ÿ;go_wp2_with fail;go_ret;exact⟨U,e9.fT _ _⟩
 .rw[if_neg b];have k:0<n:=by rw[a];exact Ņ.2 b
  have l:((n:Int)==0)=Ë:=by simp;omega
  clear a;generalize kZ ⟨#[44]⟩ xs=z at*;go_enter Δ,Ÿ;go_wp2_with (go_at_call 38;apply H.out.mono;rintro e m ⟨rfl,g⟩;have j:=fe g;clear g);go_ret;exact⟨U,j.out⟩
end
def Er{M:Nat}:∀(a:List ByteArray),(∀z∈a,z.size<=M)->iE a<=M*a.length
 |[],_=>Ø _
 |x::r,h=>by
  have c:=Er r λz b=>h z<|Ė _ b;have d:=h x fp;have e:iE (x::r)=x.size+iE r:=by simp[iE]
  rw[e,đ,Nat.mul_add];omega
def LL{e:Nat×Int}(h:gf e.2):(rJ e).size<=21:=by unfold rJ;rw[ø];have:=xw e.1;have:=qH e.2.toNat (by have:=h.1;have:=h.2;omega);omega
def Z_{e:Int×Bool}(a:0<=e.1)(h:e.1<=400):(Ek e).size<=41:=by unfold Ek;rw[ø,ø];have:=qH e.1.toNat Z;have:=qH e.2.toNat (by cases e.2<;>decide);have:ŭ ⟨#[58]⟩=1:=rfl;omega
section
variable{b:List ByteArray}
def Z'{ty:Ď}{base:Nat}(b:P.underlying t=Â (.slice e))(d:P.info? e=Â zJ)(h:w.ownsRow base e j v n l)(a:Option ù)(c:Nat): (ę #[t,t] ty #[v,Æ a 0 c]).run P w=.ok v w:=by
 have f:(Ō zJ.size 0<|Æ a 0 c).run P w=.ok #[] w:=by cases a<;>simp[Ō,loadCells,loadCellsFrom]
 rcases h.2 with⟨rfl,rfl⟩|⟨g,m,o,rfl,_,_,k,_⟩
 .simp[ę,Ů b,sizeOf,typeInfo,d,Ź,f,ν]
 .simp[ę,Ů b,sizeOf,typeInfo,d,Ź,f,k,ν]
def aol{r:Array ğ}{t:List ğ}(l:o.guard=Á)(s c:Operand) (m:o.op=.call {callee:=.builtin κ,args:=#[s,c],argTypes:=#[25,25]}) (d:ie u v vX w) (n:y.eval s=v) {base:Nat} (B:w.ownsRow base 9 1 x b.length (jg b)) (e:y.eval c=x) (I:vX.length+b.length<=1000000) (h:∀j k,ie u j (vX++b) k->wpList À r vJ t (y.put o.dst j) k):wpList À r vJ (o::t) y w:=by
 let⟨J,p,D,E,F⟩:=ů zp;rcases B.2 with⟨f,G⟩|⟨g,H,L,f,_⟩
 .have z:=Ý G;subst z;rw[f]at e;refine Ε l λK i=> ?_;have q:=Z' (ty:=o.type) Č p d.fl Á 0;unfold Oper.wp ś;simp only[m,ρ,ak,ς,Sem.run_bind,Sem.run_pure,ŏ,Ŝ,ŉ,Ő,n,e,q];exact i _ _<|h v w<|by rwa[Ę]
 .by_cases C:b=[]
  .subst C;rw[f]at e;refine Ε l λK i=> ?_;have q:=Z' (ty:=o.type) Č p d.fl (Â ⟨g,0,Á⟩) H;unfold Oper.wp ś;simp only[m,ρ,ak,ς,Sem.run_bind,Sem.run_pure,ŏ,Ŝ,ŉ,Ő,n,e,q,ũ];exact i _ _<|h v w<|by rwa[Ę]
  .have K:=Ņ.2 C;refine By l s c 25 m Č p D E F U n d.fl ⟨g,0,Á⟩ (jg b) (e.trans f) K (by simp[jg]) (B.cells<|by rw[f];rfl) (λi q=>by unfold jg at q;obtain⟨z,_,rfl⟩:=Ú.1 q;rfl) (by unfold Ē;omega) Z d.r.M ?_;intro j k z;refine h j k ⟨?_,d.r.C z.r λi M q=> ?_⟩
   .have:=z.fl;rwa[show jg vX++jg b=jg (vX++b) by simp[jg],show vX.length+b.length=(vX++b).length by simp]at this
   .have:=(d.fl.lt i q).1;omega
end
def ie.I(h:ie u (Æ O n i) vX w):nn O (jg vX) w/\n=vX.length/\n<=i:=by
 rcases h.fl.2 with⟨b,d⟩|⟨g,f,k,b,_,_,d,_⟩
 .cases b;refine⟨λj x e=> ?_,d.symm,æ _⟩;rw[Ý d]at e;cases e
 .have e:n=vX.length:=by injection b
  subst e;injection b with _ _ h4;exact⟨nn.r h.fl,U,by rwa[h4]⟩
def Tb(r:BF):ByteArray:=kZ ⟨#[44]⟩<|[gM r.C.toNat,gM r.M.toNat,gM r.r.toNat]++r.I.map rJ
theorem aom(x y:Nat)(g k:Int)(b c:Nat)(a:Bool)(f:List (Nat×Int))(L:b<18446744073709551616)(M:c<18446744073709551616)(S:f.length<=400000)(V:xt f)(W:lC w) (T:Ò À 158 #[Ã<|Â ⟨i,0,Á⟩,Å É x,Å É y,Å ã g,Å ã k] w λe h=>∃B,e=Ç (ë #[.agg #[Å ã b,õ a,Å ã c],B])/\h.ownsRow 0 257 2 B f.length (ki f)/\e9 ff w h): Ò À 119 #[Ã<|Â ⟨i,0,Á⟩,Å É x,Å É y,Å ã g,Å ã k] w λe h=>e=Ç (Ä<|kZ ⟨#[44]⟩<|[gM a.toNat,gM c,gM b]++f.map rJ)/\e9 ff w h:=by
 have N:a.toNat<18446744073709551616:=by cases a<;>decide
 have H:=fe<|Ê T<|Ê W V;go_enter Tryz.func119,Tryz.ntmps119;go_wp2_with (go_at_call 158;apply H.out.1.mono;rintro e j ⟨B,rfl,q,d⟩;obtain⟨v,Q,rfl⟩:=jf q;have C:=fe<|Ê d q;clear d q);change à À _ _ _ (j.alloc<|Û #[Å ã b,õ a,Å ã c] 252);have D:=(e9.gG ff j #[Å ã b,õ a,Å ã c] 252).fg<|e9.fR _ _;have E:=(H.out.2.1.r C.out.1).r D;have o:=(fh.N j [Å ã b,õ a,Å ã c] 252).I (e9.fR ff _) id;have O:=C.out.1.fg D;have X:=ic C.out.2 D λ_ _=>id;refine lW (λh=>h.cell? ⟨j.heap.size,0,Á⟩=Â (Å ã b)/\h.cell? ⟨j.heap.size,1,Á⟩=Â (õ a)/\h.cell? ⟨j.heap.size,2,Á⟩=Â (Å ã c)) [] ft ?_;have l:=fe<|Ê (o.r 0 _ rfl)<|Ê (o.r 1 _ rfl)<|o.r 2 _ rfl;generalize j.heap.size=ob at*;generalize ξ (j.alloc<|Û #[Å ã b,õ a,Å ã c] 252)=w5 at*;iterate 3 apply tk l.out
 apply tk l.out 5;apply tk l.out 6;apply tk l.out 8;apply tk l.out 9;apply tk l.out 10;apply gA 3;intro K d;go_simp;go_at_call 159;refine(Hd _ _).mono ?_;rintro e Y ⟨rfl,qA⟩;subst Y;rw[R_];apply d.out _ _ λ_=>l.out;apply gA 4;intro K d;go_simp;go_at_call 118;refine(xu a.toNat N _ E).mono ?_;rintro e wa ⟨rfl,p⟩;have r:=o.I p id;have P:=E.r p;apply d.out _ _ λ_=>⟨r.r 0 _ U,r.r 1 _ U,r.r 2 _ U⟩;apply gA 7;intro K d;go_simp;go_at_call 118;refine(xu c M _ P).mono ?_;rintro e wb ⟨rfl,s⟩;have t:=r.I s id;have Pb:=P.r s;apply d.out _ _ λ_=>⟨t.r 0 _ U,t.r 1 _ U,t.r 2 _ U⟩;apply gA 11;intro K d;go_simp;go_at_call 118;refine(xu b L _ Pb).mono ?_;rintro e m ⟨rfl,F⟩;have u:=t.I F id;have n:=u.I (e9.gG ff m #[Ä<|gM a.toNat,Ä<|gM c,Ä<|gM b] 9) id;apply d.out _ _ λ_=>⟨u.r 0 _ U,u.r 1 _ U,u.r 2 _ U⟩;apply gA 12;intro K d;go_simp;apply d.out _ _ λ_=>⟨n.r 0 _ U,n.r 1 _ U,n.r 2 _ U⟩;apply gA 13;intro K d;go_simp;apply d.out _ _ λ_=>⟨n.r 0 _ U,n.r 1 _ U,n.r 2 _ U⟩;refine lM ft ?_ _;have G:e9 ff w5 (m.alloc<|Û #[Ä<|gM a.toNat,Ä<|gM c,Ä<|gM b] 9):=((p.fg s).fg F).fg<|e9.gG _ _ _ _;have T6:ie w (Æ (Â ⟨m.heap.size,0,Á⟩) 3 3) [gM a.toNat,gM c,gM b] (m.alloc<|Û #[Ä<|gM a.toNat,Ä<|gM c,Ä<|gM b] 9):=⟨World.ownsRow_lit m #[Ä<|gM a.toNat,Ä<|gM c,Ä<|gM b] 3 (Ì O.M ((p.fg s).fg F).M) (by unfold Ē;omega) U,O.fg G⟩;have L6:=ic X G λ_ _=>id;have P6:=E.r G;have I:=fe<|Ê T6<|Ê L6 P6;generalize m.alloc (Û #[Ä<|gM a.toNat,Ä<|gM c,Ä<|gM b] 9)=w6 at*;generalize m.heap.size=tb at*;have jS:∀z∈[gM a.toNat,gM c,gM b]++f.map rJ,z.size<=21:=λz hz=>by
  rcases â.1 hz with q|q
  .have h1:=qH a.toNat N;have h2:=qH c M;have v:=qH b L;grind
  .obtain⟨e,v,rfl⟩:=Ú.1 q;exact LL (H.out.2.2 e v).2
 have sf:=Er _ jS;have hlen:([gM a.toNat,gM c,gM b]++f.map rJ).length=3+f.length:=by simp;omega
 have J:=fe<|Ê sf hlen;go_wp2_with (first
  |(go_at_call 124;refine(Q' U S H.out.2.2 I.out.2.2<|nn.r I.out.2.1).mono ?_;rintro e v ⟨lt,rfl,q⟩;obtain⟨ta,tc,rfl⟩:=jf q.fl;rw[ú]at q;have Q:=fe q;clear q)
  |(at_builtin;refine aol U _ _ U (I.out.1.fJ Q.out.r) U Q.out.fl U (by simp;omega) ?_;intro cv w8 v;obtain⟨ca,cc,rfl⟩:=jf v.fl;generalize([gM a.toNat,gM c,gM b]++f.map rJ).length=cn at v|-;have q:=fe v;clear v)
  |(go_at_call 38;refine(Ta q.out.I.2.1 (by have:=q.out.I.2.1;rw[this,J.out.2];omega) q.out.I.2.2 U q.out.I.1 (by have:=q.out.I.2.1;have h1:=J.out.1;have h2:=J.out.2;omega)).mono ?_;rintro e w9 ⟨rfl,v⟩;have Q:=fe v;clear v))
 go_ret;exact⟨U,q.out.r.fg Q.out⟩
def aon{s:St}(v:lY i s h w)(b:gH s)(z:iL w)(B:lC w)(x y:Nat)(g k:Int)(c:x<8)(d:y<8)(f:0<=g)(j:g<=100000)(l:gf k): Ò À 119 #[Ã<|Â ⟨i,0,Á⟩,Å É x,Å É y,Å ã g,Å ã k] w λe q=>e=Ç (Ä<|Tb<|gi s [] x y g k)/\e9 ff w q:=by have T:=O_ v b z x y g k c d f j l _ U;have e:=K7 s [] x y g k b c d l f j (by simp;omega);have m:=SN s [] x y g k b c d l f j (by simp;omega) (λ_ q=>by cases q);obtain⟨q,o,a,t,p,C⟩:∃q o a t p,gi s [] x y g k=⟨q,o,a,t,p⟩:=⟨_,_,_,_,_,U⟩;rw[C]at T e m|-;have D:=e.C;have E:=e.r;have r:=e.M;have u:=e.I;simp only at D E r u m T;obtain⟨F,rfl⟩:∃n:Nat,q=n:=⟨q.toNat,Z⟩;obtain⟨G,rfl⟩:∃n:Nat,a=n:=⟨a.toNat,by have:=r.1;omega⟩;exact aom x y g k F G o p Z (by have:=r.2;omega) (by simp at u;omega) m B T
def qg(w:Í):Prop:=w.cell? ⟨4,15,Á⟩=Â (Å ū 4)
def qg.r(h:qg w)(k:e9 ff w u):qg u:=k.r h id
def aoo(c:qg w):Ò À 207 #[Å ã 16] w λe a=>e=Ç (Å É 4)/\a=w:=by
 unfold qg at c;have b:ã.wrap (bits BinOp.and ã 16 (ã.wrap<|-16)*285870213051353865)/288230376151711744=15:=A
 go_enter Tryz.func207,Tryz.ntmps207;go_wp2;go_ret;exact⟨U,U⟩
def tz(c:qg w):Ò À 201 #[Å ã 16] w λe a=>e=Ç (Å É 4)/\a=w:=by go_enter Tryz.func201,Tryz.ntmps201;go_wp2_with (go_at_call 207;refine(aoo c).mono ?_;rintro e a ⟨rfl,b⟩;subst a);go_ret;exact⟨U,U⟩
def aop:Ò À 200 #[Å É 16] w λe a=>e=Ç (õ Î)/\a=w:=by
 have b:bits BinOp.and É 16 15=0:=A
 go_enter Tryz.func200,Tryz.ntmps200;go_wp2;go_ret;simp_all
def pj(d:Nat):UInt8:=if h:d<36 then(⟨#[48,49,50,51,52,53,54,55,56,57,97,98,99,100,101,102,103,104,105,106,107,108,109,110,111,112,113,114,115,116,117,118,119,120,121,122]⟩:ByteArray)[d]'h else 0
def uC:Nat->Nat->List UInt8->List UInt8
 |0,_,acc=>acc
 |k+1,n,acc=>if n<16 then pj n::acc else uC k (n/16) (pj (n%16)::acc)
def aac:∀k n a,(uC k n a).length<=k+a.length
 |0,_,a=>by simp[uC]
 |k+1,n,a=>by
  unfold uC;split
  .simp;omega
  .have:=aac k (n/16)<|pj (n%16)::a;simp at this;omega
noncomputable def LN:Τ:=(Tryz.f190.body.bind kA).getD ai
def Es(a:Nat)(n i:Int)(u:Nat->Ñ):Ĉ:=⟨#[u 0,Å ã n,Å É 16,õ Ë,õ Ë,u 5,u 6,u 7,u 8,u 9,Æ Á 0 0,u 11,Ã<|Â ⟨a,0,Á⟩,Å É i,Å ã 4,Å ã 16,Å ã 15,u 17,u 18,u 19,u 20,u 21,u 22,u 23,u 24,u 25,u 26,u 27,u 28,u 29,u 30,u 31,u 32,u 33,u 34,u 35,u 36,u 37,u 38,u 39,u 40,u 41,u 42,u 43,u 44,u 45,u 46,u 47,u 48,u 49,u 50,u 51,u 52,u 53,u 54,u 55,u 56,u 57,u 58,u 59,u 60,u 61,u 62,u 63,u 64,u 65,u 66,u 67,u 68,u 69,u 70,u 71,u 72,u 73,u 74,u 75,u 76,u 77,u 78,u 79,u 80,u 81,u 82,u 83,u 84,u 85,u 86,u 87,u 88,u 89,u 90,u 91,u 92,u 93,u 94,u 95,u 96,u 97,u 98,u 99,u 100,u 101],[]⟩
def Et(b:Nat)(n i:Int)(a:Ĉ):Prop:=∃u,a=Es b n i u
def zc(i:Nat)(a:List UInt8):List Ñ:=ą i (Å ū 0)++Ö a
def aad(i:Nat)(a:List UInt8):(zc i a).length=i+a.length:=by simp[zc,Ö]
theorem aae(i:Nat)(a:List UInt8)(c:UInt8):(zc (i+1) a).set i (Å ū c.toNat)=zc i (c::a):=by unfold zc;rw[List.replicate_succ',ő,Ĵ _ _ fp];simp[Ö]
section
variable{X:Ĉ->Í->Prop}
def aoq(u:Nat->Ñ)(n b:Nat)(d:n<16)(c:∀a,Et i n b a->X a w): à À LN (Exit.then K<|QE 0 X) (Es i n b u) w:=by
 unfold Es;conv=>arg 2;whnf
 go_wp2_with fail
 exact⟨U,c _ (gu _)⟩
def aor(u:Nat->Ñ)(n b:Nat)(g:16<=n)(h:n<18446744073709551616)(j:b<65)(v:Ñ)(c:w.cell? ⟨i,b,Á⟩=Â v)(k:w.frozen? ⟨i,b,Á⟩=Ë) (e:∀a,Et i ((n/16:Nat):Int) b a->K a (w.setCell ⟨i,b,Á⟩<|Å ū (pj<|n%16).toNat)): à À LN (Exit.then K<|QE 0 X) (Es i n ((b+1:Nat):Int) u) w:=by
 unfold Es;conv=>arg 2;whnf
 have l:bits BinOp.and ã (n:Int) 15=((n%16:Nat):Int):=by have:=(bits_nat ã 64 A (λn f H=>by rw[Ć];omega) n 15 Z A).1;rwa[show(15:Nat)=2^4-1 from rfl,Nat.and_two_pow_sub_one_eq_mod]at this
 have f:n%16<36:=Z
 have m:(⟨#[48,49,50,51,52,53,54,55,56,57,97,98,99,100,101,102,103,104,105,106,107,108,109,110,111,112,113,114,115,116,117,118,119,120,121,122]⟩:ByteArray)[n%16]'f=pj (n%16):=by unfold pj;rw[dif_pos f]
 have H:=fe e;clear e;generalize o:n%16=d at*;go_wp2_with fail;exact H.out _ (gu _)
def XI(i:Nat)(u:Í)(d:List UInt8)(a:Ĉ)(w:Í):Prop:=
 ∃(n b:Nat) (c:List UInt8),Et i n b a/\50<=b/\b+c.length=65/\n<16^(b-49)/\n<18446744073709551616/\e9 (λk=>k=i) u w/\fh i (zc b c) 292 w/\uC (b-49) n c=d
def XE(i:Nat)(u:Í)(d:List UInt8)(a:Ĉ)(w:Í):Prop:=
 ∃(n b:Nat) (c:List UInt8),Et i n b a/\n<16/\50<=b/\b+c.length=65/\e9 (λk=>k=i) u w/\fh i (zc b c) 292 w/\pj n::c=d
def LO(a:Ĉ)(_:Í):Nat:=match a.tmps.getD 1 ĸ with
 |Å _ i=>i.toNat
 |_=>0
def aaf(b:Et i n j y):LO y w=n:=by obtain⟨u,rfl⟩:=b;show(n:Int).toNat=_;simp
theorem aos{h:List UInt8}(a:Ĉ)(w:Í)(o:XI i u h a w): à À LN (Exit.then (λb c=>XI i u h b c/\LO b c<LO a w)<|QE 0<|XE i u h) a w:=by
 let⟨n,b,f,l,p,r,s,t,m,e,d⟩:=o;rw[aaf l];obtain⟨c,rfl⟩:=l;obtain⟨j,rfl⟩:∃j,b=j+1:=⟨b-1,Z⟩;have x:j+1-49=(j-49)+1:=Z
 rw[x]at d s;unfold uC at d;by_cases g:n<16
 .rw[if_pos g]at d;exact aoq c n (j+1) g λa q=>⟨n,j+1,f,q,g,p,r,m,e,d⟩
 .rw[if_neg g]at d;have y:50<=j:=by
   grind
  have C:(zc (j+1) f).length=65:=by rw[aad];omega
  obtain⟨v,z⟩:∃v,(zc (j+1) f)[j]?=Â v:=⟨_,Ó Z⟩;have B:n/16<16^(j-49):=by grind
  refine aor c n j Z t Z v (e.r j v z) (e.C j) λa q=>⟨⟨n/16,j,pj (n%16)::f,q,y,by simp;omega,B,Z,m.fg (e9.I (X:=λk=>k=i) U _<|Ï e.G),?_,d⟩,by rw[aaf q];omega⟩;have:=e.fY j<|Å ū (pj<|n%16).toNat;grind [aae]
end
def aot:û=(zc 65 []).toArray:=ft
def nt(n:Nat):ByteArray:=⟨(uC 16 n []).toArray⟩
theorem aou(n:Nat)(l:n<18446744073709551616)(o:qg w):Ò À 190 #[Æ Á 0 0,Å ã n,Å É 16,õ Ë,õ Ë] w λe p=>e=Ç (ë #[Æ Á 0 0,Ä<|nt n])/\e9 ff w p:=by
 have L:∀a,Et w.heap.size n (65:Nat) a->à À (ń LN) (QE 0<|XE w.heap.size (w.alloc<|Û û 292)<|uC 16 n []) a (w.alloc<|Û û 292):=λa r=>
  Γ (XI w.heap.size (w.alloc<|Û û 292)<|uC 16 n []) LO ⟨n,65,[],r,Z,U,by show n<16^16;omega,l,e9.fT _ _,by rw[aot];exact fh.N w (zc 65 []) 292,U⟩ aos
 have H:=fe<|Ê o L;unfold nt;generalize uC 16 n []=res at*;go_enter Tryz.func190,Tryz.ntmps190;go_wp2_with (first
  |(go_at_call 200;refine aop.mono ?_;rintro e b ⟨rfl,c⟩;subst b)
  |(go_at_call 201;refine(tz (H.out.1.r kp)).mono ?_;rintro e b ⟨rfl,c⟩;subst b))
 refine İ (Q:=QE 0<|XE w.heap.size (w.alloc<|Û û 292) res) ?_ (H.out.2 _ (gu _));rintro(_|_|_|_|_|_) a v hq;all_goals first|exact absurd hq id|skip
 obtain⟨rfl,m,i,c,s,E,F,G,x,b,d⟩:=hq;obtain⟨u,rfl⟩:=s;unfold Es;obtain⟨j,rfl⟩:∃j,i=j+1:=⟨i-1,Z⟩;have I:(zc (j+1) c).length=65:=by rw[aad];omega
 obtain⟨z,y⟩:∃z,(zc (j+1) c)[j]?=Â z:=⟨_,Ó Z⟩;have J:=b.r j z y;have K:=b.C j;have M:(0:Int)<=(j:Int):=Z
 have N:(j:Int)<65:=Z
 have O:(j:Int)<=65:=Z
 have S:(0:Int)<=(m:Int):=Z
 have T:(m:Int)<36:=Z
 have f:m<36:=Z
 have V:(⟨#[48,49,50,51,52,53,54,55,56,57,97,98,99,100,101,102,103,104,105,106,107,108,109,110,111,112,113,114,115,116,117,118,119,120,121,122]⟩:ByteArray)[m]'f=pj m:=by unfold pj;rw[dif_pos f]
 have B:=(e9.gG ff w û 292).C x λi C q=>by omega
 have g:=b.fY j<|Å ū (pj m).toNat;rw[aae,d]at g;have D:e9 ff w (v.setCell ⟨w.heap.size,j,Á⟩<|Å ū (pj m).toNat):=B.C (e9.I (X:=λk=>k=w.heap.size) U _<|Ï b.G) λi C q=>by omega
 have W:res.length=65-j:=by rw[<-d];simp;omega
 have Y:(convert 107 9<|Æ (Â ⟨w.heap.size,j,Á⟩) (65-j)<|65-j).run À (v.setCell ⟨w.heap.size,j,Á⟩<|Å ū (pj m).toNat)=.ok (Ä ⟨res.toArray⟩) (v.setCell ⟨w.heap.size,j,Á⟩<|Å ū (pj m).toNat):=by have h:=run_convert_bytes_back (P:=À) (v.setCell ⟨w.heap.size,j,Á⟩<|Å ū (pj m).toNat) 107 9 5 ⟨w.heap.size,j,Á⟩ (65-j) res ft ft ft (λt k=>by rw[Addr.add_mid];apply g.r (j+t) _;unfold zc;rw[ġ fp];simp[Ö,Ó k]);grind
 have k:=fe D;go_wp2;go_ret2;simp_all
def aov(n:Nat)(b:n<18446744073709551616)(c:qg w):Ò À 172 #[Å ã n,Å É 16] w λe a=>e=Ç (Ä<|nt n)/\e9 ff w a:=by go_enter Tryz.func172,Tryz.ntmps172;go_wp2_with (go_at_call 190;refine(aou n b c).mono ?_;rintro e a ⟨rfl,d⟩);go_ret;exact⟨U,d⟩
def aow(n:Nat)(b:n<18446744073709551616)(c:qg w):Ò À 157 #[Å ã n,Å É 16] w λe a=>e=Ç (Ä<|nt n)/\e9 ff w a:=by go_enter Tryz.func157,Tryz.ntmps157;go_wp2_with (go_at_call 172;refine(aov n b c).mono ?_;rintro e a ⟨rfl,d⟩);go_ret;exact⟨U,d⟩
def aox(s:ByteArray)(w:Í)(h:s.data.toList.head?=Â 48):Ò À 175 #[Ä s,Ä ⟨#[48]⟩] w λe b=>e=Ç (õ Î)/\b=w:=by
 have H:=Tryz.strings_HasPrefix s ⟨#[48]⟩ w;have e:ź s.data.toList (Ű ⟨#[48]⟩).toList=Î:=by
  generalize s.data.toList=l at h;cases l with
  |nil=>cases h
  |cons a r=>cases h;rfl
 rwa[e]at H
def aoy(s:ByteArray)(w:Í)(h:¬s.data.toList.head?=Â 48):Ò À 175 #[Ä s,Ä ⟨#[48]⟩] w λe b=>e=Ç (õ Ë)/\b=w:=by
 have H:=Tryz.strings_HasPrefix s ⟨#[48]⟩ w;have e:ź s.data.toList (Ű ⟨#[48]⟩).toList=Ë:=by
  generalize s.data.toList=l at h;cases l with
  |nil=>rfl
  |cons a r=>
   have c:¬a=48:=λq=>h (by rw[q];rfl);show((48:UInt8)==a&&List.isPrefixOf [] r)=Ë;have:((48:UInt8)==a)=Ë:=beq_eq_false_iff_ne.2 λq=>c q.symm;rw[this];rfl
 rwa[e]at H
def zt(k:Nat):ByteArray:=σ ⟨#[48,48,48,48,48,48,48,48,48,48,48,48,48,48,48,48,48,48,48,48,48,48,48,48,48,48,48,48,48,48,48,48,48,48,48,48,48,48,48,48,48,48,48,48,48,48,48,48,48,48,48,48,48,48,48,48,48,48,48,48,48,48,48,48]⟩ 0 k
def aoz(k:Nat)(d:2<=k)(f:k<=64):Ò À 160 #[Ä ⟨#[48]⟩,Å É k] w λe a=>e=Ç (Ä<|zt k)/\a=w:=by
 have g:((k:Int)==0)=Ë:=by simp;omega
 have h:((k:Int)==1)=Ë:=by simp;omega
 have i:¬(k:Int)<0:=Z
 have j:(0:Int)<=(k:Int):=Z
 have l:(k:Int)<=64:=Z
 have m:ã.wrap (k:Int)=(k:Int):=by rw[Ć];omega
 have n:É.wrap (k:Int)=(k:Int):=by rw[ŝ];omega
 have M:=Tryz.bits_Mul 1 k A Z w;rw[show 1*k/18446744073709551616=0 by omega,show 1*k%18446744073709551616=k by omega]at M;have c:=fe M;go_enter Œ,Ŋ;go_wp2_with (first
  |(go_at_call 174;refine c.out.mono ?_;rintro e a ⟨rfl,b⟩;subst a)
  |(go_at_call 175;refine(aoy _ _ A).mono ?_;rintro e a ⟨rfl,b⟩;subst a)
  |(go_at_call 175;refine(aox _ _ A).mono ?_;rintro e a ⟨rfl,b⟩;subst a))
 go_ret;exact⟨U,U⟩
def aoA:Ò À 160 #[Ä ⟨#[48]⟩,Å É 0] w λe a=>e=Ç (Ä ⟨#[]⟩)/\a=w:=by go_enter Œ,Ŋ;go_wp2;go_ret;exact⟨U,U⟩
def aoB:Ò À 160 #[Ä ⟨#[48]⟩,Å É 1] w λe a=>e=Ç (Ä ⟨#[48]⟩)/\a=w:=by go_enter Œ,Ŋ;go_wp2;go_ret;exact⟨U,U⟩
def aoC(k:Nat)(a:k<=64):Ò À 160 #[Ä ⟨#[48]⟩,Å É k] w λe b=>e=Ç (Ä<|zt k)/\b=w:=by
 match k with
 |0=>exact aoA
 |1=>exact aoB
 |k+2=>exact aoz (k+2) Z a
def LP(n:Nat):ByteArray:=zt (16-(nt n).size)++nt n
def aag(n:Nat):(nt n).size<=16:=by show(uC 16 n []).toArray.size<=16;have:=aac 16 n [];simpa using this
def aah(k:Nat):(zt k).size<=k:=by unfold zt;rw[č];omega
def aoD(n:Nat)(c:n<18446744073709551616)(d:qg w):Ò À 121 #[Å ã n] w λe a=>e=Ç (Ä<|LP n)/\e9 ff w a:=by
 have g:=aag n;have h:=aah<|16-(nt n).size;have T:=aow n c d;have R:∀W:Í,Ò À 160 #[Ä ⟨#[48]⟩,Å É ((16-(nt n).size:Nat):Int)] W λe a=>e=Ç (Ä<|zt<|16-(nt n).size)/\a=W:=λW=>aoC _ Z;have i:É.wrap ((16:Int)-((nt n).size:Int))=((16-(nt n).size:Nat):Int):=by rw[ŝ];omega
 have j:(16:Int)-((nt n).size:Int)=((16-(nt n).size:Nat):Int):=Z
 have l:¬9223372036854775807<(zt<|16-(nt n).size).size+(nt n).size:=Z
 unfold LP;have H:=fe<|Ê T R;generalize m:zt (16-(nt n).size)=zs at*;generalize o:16-(nt n).size=k at*;generalize nt n=fs at*;go_enter Tryz.func121,Tryz.ntmps121;go_wp2_with (first
  |(go_at_call 157;refine H.out.1.mono ?_;rintro e p ⟨rfl,b⟩;have f:=fe b;clear b)
  |(go_at_call 160;refine(H.out.2 _).mono ?_;rintro e b ⟨rfl,p⟩;subst b))
 go_ret;exact⟨U,f.out⟩
structure pn(r:Nat)(x y g k:Nat)(kind v v2:Int)(slot:Nat)(w:Í):Prop where
 I:w.cell? ⟨r,0,Á⟩=Â (Å É x)
 S:w.cell? ⟨r,1,Á⟩=Â (Å É y)
 a:w.cell? ⟨r,2,Á⟩=Â (Å É g)
 Y:w.cell? ⟨r,3,Á⟩=Â (Å É k)
 N:w.cell? ⟨r,4,Á⟩=Â (Å É kind)
 M:w.cell? ⟨r,5,Á⟩=Â (Å É v)
 c:w.cell? ⟨r,6,Á⟩=Â (Å É v2)
 b:w.cell? ⟨r,7,Á⟩=Â (Å É slot)
def ie.N(h:ie u v vX W)(k:e9 ff w u):ie w v vX W:=by
 refine⟨⟨h.fl.1,?_⟩,k.fg h.r⟩;rcases h.fl.2 with q|⟨g,a,b,c,d,q⟩
 .exact È q
 .exact Ï ⟨g,a,b,c,Ì k.M d,q⟩
section
variable{cp r x y g slot:Nat}{v v2:Int}
def pn.C{w:Í}(h:pn r x y g k c v v2 slot w)(q:e9 ff w u):pn r x y g k c v v2 slot u:= ⟨q.r h.I id,q.r h.S id,q.r h.a id,q.r h.Y id,q.r h.N id,q.r h.M id,q.r h.c id,q.r h.b id⟩
def aoE(F:Ò À 113 #[Æ O n cp,Å É v] w λe b=>e=Ç (jT<|Â i)/\e9 ff w b)(h:pn r x y g k 2 v v2 slot w)(p:x<8)(q:slot<16)(z:Nat)(j:w.cell? ⟨i,x*18+2+slot,Á⟩=Â (Å ã z)) (C:∀W,e9 ff w W->Ò À 118 #[Å ã z] W λe b=>e=Ç (Ä B)/\e9 ff W b): Ò À 67 #[Æ O n cp,Ã<|Â ⟨r,0,Á⟩] w λe b=>e=Ç (Ä B)/\e9 ff w b:=by
 have s:=h.M;have m:=h.N;have t:(0:Int)<=(x:Int):=Z
 have u:(x:Int)<8:=Z
 have D:(0:Int)<=(slot:Int):=Z
 have E:(slot:Int)<16:=Z
 have H:=fe<|Ê F C;have d:=fe h;clear F C h;go_enter ó,í;go_wp2_with (go_at_call 113;apply H.out.1.mono;rintro e f ⟨rfl,c⟩;dsimp only[jT,ð];have l:=c.r m id;have a:=fe c;clear c);refine lW (λb=>b.cell? ⟨r,0,Á⟩=Â (Å É x)/\b.cell? ⟨r,7,Á⟩=Â (Å É slot)/\b.cell? ⟨i,x*18+2+slot,Á⟩=Â (Å ã z)) [] ft ?_;have o:=fe<|Ê ((d.out.C a.out).C<|e9.fR ff _).I<|Ê ((d.out.C a.out).C<|e9.fR ff _).b<|(a.out.fg<|e9.fR _ _).r j id;iterate 17 apply tk o.out
 apply gA 17;intro K f;go_simp;go_at_call 118;refine(H.out.2 _<|a.out.fg<|e9.fR _ _).mono ?_;rintro e G ⟨rfl,l⟩;have c:=fe l;clear l;dsimp only;apply f.out _ _ λ_=>⟨(d.out.C<|(a.out.fg<|e9.fR _ _).fg c.out).I,(d.out.C<|(a.out.fg<|e9.fR _ _).fg c.out).b,(((a.out.fg<|e9.fR _ _).fg c.out).r j id)⟩;clear f K;apply gA 18;intro K f;go_simp;apply f.out _ _ λ_=>⟨(d.out.C<|(a.out.fg<|e9.fR _ _).fg c.out).I,(d.out.C<|(a.out.fg<|e9.fR _ _).fg c.out).b,(((a.out.fg<|e9.fR _ _).fg c.out).r j id)⟩;clear f K;try simp only[Act.put,é,ý,þ]
 refine lM ft ?_ _;go_wp2_with fail;go_ret;exact⟨U,(a.out.fg<|e9.fR _ _).fg c.out⟩
def aoF(F:Ò À 113 #[Æ O n cp,Å É v] w λe a=>e=Ç (jT<|Â i)/\e9 ff w a)(f:pn r x y g k 3 v v2 slot w)(p:x<8)(z:Nat)(h:w.cell? ⟨i,x*18,Á⟩=Â (Å ã z)) (C:∀W,e9 ff w W->Ò À 118 #[Å ã z] W λe a=>e=Ç (Ä B)/\e9 ff W a): Ò À 67 #[Æ O n cp,Ã<|Â ⟨r,0,Á⟩] w λe a=>e=Ç (Ä B)/\e9 ff w a:=by
 have q:=f.M;have m:=f.N;have s:(0:Int)<=(x:Int):=Z
 have t:(x:Int)<8:=Z
 have H:=fe<|Ê F C;have j:=fe f;clear F C f;go_enter ó,í;go_wp2_with (go_at_call 113;apply H.out.1.mono;rintro e d ⟨rfl,c⟩;dsimp only[jT,ð];have l:=c.r m id;have b:=fe c;clear c);refine lW (λa=>a.cell? ⟨r,0,Á⟩=Â (Å É x)/\a.cell? ⟨i,x*18,Á⟩=Â (Å ã z)) [] ft ?_;have o:=fe<|Ê ((j.out.C b.out).C<|e9.fR ff _).I<|(b.out.fg<|e9.fR _ _).r h id;iterate 12 apply tk o.out
 apply gA 12;intro K c;go_simp;go_at_call 118;refine(H.out.2 _<|b.out.fg<|e9.fR _ _).mono ?_;rintro e u ⟨rfl,l⟩;have d:=fe l;clear l;dsimp only;apply c.out _ _ λ_=>⟨(j.out.C<|(b.out.fg<|e9.fR _ _).fg d.out).I,(((b.out.fg<|e9.fR _ _).fg d.out).r h id)⟩;clear c K;apply gA 13;intro K c;go_simp;apply c.out _ _ λ_=>⟨(j.out.C<|(b.out.fg<|e9.fR _ _).fg d.out).I,(((b.out.fg<|e9.fR _ _).fg d.out).r h id)⟩;clear c K;try simp only[Act.put,é,ý,þ]
 refine lM ft ?_ _;go_wp2_with fail;go_ret;exact⟨U,(b.out.fg<|e9.fR _ _).fg d.out⟩
def aoG(F:Ò À 113 #[Æ O n cp,Å É v] w λe c=>e=Ç (jT<|Â i)/\e9 ff w c)(h:pn r x y g k 4 v v2 slot w)(o:g<=400)(p:k<18446744073709551616) (C:∀W,e9 ff w W->Ò À 119 #[Ã<|Â ⟨i,0,Á⟩,Å É x,Å É y,Å ã g,Å ã k] W λe c=>e=Ç (Ä B)/\e9 ff W c): Ò À 67 #[Æ O n cp,Ã<|Â ⟨r,0,Á⟩] w λe c=>e=Ç (Ä B)/\e9 ff w c:=by
 have q:=h.M;have l:=h.N;have s:ã.wrap (k:Int)=(k:Int):=by rw[Ć];omega
 have t:ã.wrap (g:Int)=(g:Int):=by rw[Ć];omega
 have u:¬(400:Int)<(g:Int):=Z
 have z:(g:Int)<=400:=Z
 have H:=fe<|Ê F C;have b:=fe h;clear F C h;go_enter ó,í;go_wp2_with (go_at_call 113;apply H.out.1.mono;rintro e f ⟨rfl,d⟩;dsimp only[jT,ð];have j:=d.r l id;have m:=d.r b.out.a id;have a:=fe d;clear d);refine lW (λc=>c.cell? ⟨r,0,Á⟩=Â (Å É x)/\c.cell? ⟨r,1,Á⟩=Â (Å É y)/\c.cell? ⟨r,2,Á⟩=Â (Å É g)/\c.cell? ⟨r,3,Á⟩=Â (Å É k)) [] ft ?_;have m:=fe<|Ê ((b.out.C a.out).C<|e9.fR ff _).I<|Ê ((b.out.C a.out).C<|e9.fR ff _).S<|Ê ((b.out.C a.out).C<|e9.fR ff _).a ((b.out.C a.out).C<|e9.fR ff _).Y;iterate 23 apply tk m.out
 apply gA 23;intro K f;go_simp;go_at_call 119;refine(H.out.2 _<|a.out.fg<|e9.fR _ _).mono ?_;rintro e D ⟨rfl,j⟩;have d:=fe j;clear j;dsimp only;apply f.out _ _ λ_=>⟨(b.out.C<|(a.out.fg<|e9.fR _ _).fg d.out).I,(b.out.C<|(a.out.fg<|e9.fR _ _).fg d.out).S,(b.out.C<|(a.out.fg<|e9.fR _ _).fg d.out).a,(b.out.C<|(a.out.fg<|e9.fR _ _).fg d.out).Y⟩;clear f K;apply gA 24;intro K f;go_simp;apply f.out _ _ λ_=>⟨(b.out.C<|(a.out.fg<|e9.fR _ _).fg d.out).I,(b.out.C<|(a.out.fg<|e9.fR _ _).fg d.out).S,(b.out.C<|(a.out.fg<|e9.fR _ _).fg d.out).a,(b.out.C<|(a.out.fg<|e9.fR _ _).fg d.out).Y⟩;clear f K;try simp only[Act.put,é,ý,þ]
 refine lM ft ?_ _;go_wp2_with fail;go_ret;exact⟨U,(a.out.fg<|e9.fR _ _).fg d.out⟩
def aoH(F:Ò À 113 #[Æ O n cp,Å É v] w λe b=>e=Ç (jT<|Â i)/\e9 ff w b)(h:pn r x y g k 5 v v2 slot w)(o:k<18446744073709551616) (C:∀W,e9 ff w W->Ò À 120 #[Ã<|Â ⟨i,0,Á⟩,Å É x,Å É y,Å ã k] W λe b=>e=Ç (Ä B)/\e9 ff W b): Ò À 67 #[Æ O n cp,Ã<|Â ⟨r,0,Á⟩] w λe b=>e=Ç (Ä B)/\e9 ff w b:=by
 have p:=h.M;have l:=h.N;have q:ã.wrap (k:Int)=(k:Int):=by rw[Ć];omega
 have H:=fe<|Ê F C;have c:=fe h;clear F C h;go_enter ó,í;go_wp2_with (go_at_call 113;apply H.out.1.mono;rintro e f ⟨rfl,d⟩;dsimp only[jT,ð];have j:=d.r l id;have a:=fe d;clear d);refine lW (λb=>b.cell? ⟨r,0,Á⟩=Â (Å É x)/\b.cell? ⟨r,1,Á⟩=Â (Å É y)/\b.cell? ⟨r,3,Á⟩=Â (Å É k)) [] ft ?_;have m:=fe<|Ê ((c.out.C a.out).C<|e9.fR ff _).I<|Ê ((c.out.C a.out).C<|e9.fR ff _).S ((c.out.C a.out).C<|e9.fR ff _).Y;iterate 17 apply tk m.out
 apply gA 17;intro K f;go_simp;go_at_call 120;refine(H.out.2 _<|a.out.fg<|e9.fR _ _).mono ?_;rintro e s ⟨rfl,j⟩;have d:=fe j;clear j;dsimp only;apply f.out _ _ λ_=>⟨(c.out.C<|(a.out.fg<|e9.fR _ _).fg d.out).I,(c.out.C<|(a.out.fg<|e9.fR _ _).fg d.out).S,(c.out.C<|(a.out.fg<|e9.fR _ _).fg d.out).Y⟩;clear f K;apply gA 18;intro K f;go_simp;apply f.out _ _ λ_=>⟨(c.out.C<|(a.out.fg<|e9.fR _ _).fg d.out).I,(c.out.C<|(a.out.fg<|e9.fR _ _).fg d.out).S,(c.out.C<|(a.out.fg<|e9.fR _ _).fg d.out).Y⟩;clear f K;try simp only[Act.put,é,ý,þ]
 refine lM ft ?_ _;go_wp2_with fail;go_ret;exact⟨U,(a.out.fg<|e9.fR _ _).fg d.out⟩
def aoI(F:Ò À 113 #[Æ O n cp,Å É v] w λe a=>e=Ç (jT<|Â i)/\e9 ff w a)(b:pn r x y g k 6 v v2 slot w)(z:Nat)(C:∀W,e9 ff w W->Ò À 122 #[Ã<|Â ⟨i,0,Á⟩] W λe a=>e=Ç (Å ã z)/\e9 ff W a)(d:∀W,e9 ff w W->Ò À 121 #[Å ã z] W λe a=>e=Ç (Ä B)/\e9 ff W a): Ò À 67 #[Æ O n cp,Ã<|Â ⟨r,0,Á⟩] w λe a=>e=Ç (Ä B)/\e9 ff w a:=by
 have m:=b.M;have j:=b.N;have l:=fe d;clear d;have H:=fe<|Ê F C;have o:=fe b;clear F C b;go_enter ó,í;go_wp2_with (first
  |(go_at_call 113;refine H.out.1.mono ?_;rintro e h ⟨rfl,c⟩;dsimp only[jT,ð];have p:=c.r j id;have f:=fe c;clear c)
  |(go_at_call 122;refine(H.out.2 _ f.out).mono ?_;rintro e p ⟨rfl,c⟩;have h:=fe<|f.out.fg c;clear c)
  |(go_at_call 121;refine(l.out _ h.out).mono ?_;rintro e p ⟨rfl,c⟩;have f:=fe (h.out.fg c);clear c))
 go_ret;exact⟨U,f.out⟩
def aoJ(F:Ò À 113 #[Æ O n cp,Å É v] w λe b=>e=Ç (jT<|Â i)/\e9 ff w b)(d:pn r x y g k 7 v v2 slot w)(l:Option ù)(o p:Nat)(u:w.cell? ⟨i,144,Á⟩=Â (Æ l o p))(f:List ByteArray)(C:∀W,e9 ff w W->Ò À 124 #[Æ l o p] W λe b=>∃j,e=Ç j/\ie W j f b)(q:∀W a m c,ie w (Æ a m c) f W->Ò À 123 #[Æ a m c] W λe b=>e=Ç (Ä B)/\e9 ff W b): Ò À 67 #[Æ O n cp,Ã<|Â ⟨r,0,Á⟩] w λe b=>e=Ç (Ä B)/\e9 ff w b:=by
 have J:=d.M;have z:=d.N;have D:=fe q;clear q;have H:=fe<|Ê F C;have K:=fe d;clear F C d;go_enter ó,í;go_wp2_with (first
  |(go_at_call 113;refine H.out.1.mono ?_;rintro e t ⟨rfl,h⟩;dsimp only[jT,ð];have E:=h.r z id;have G:=h.r u id;have s:=fe h;clear h)
  |(go_at_call 124;refine(H.out.2 _ s.out).mono ?_;rintro e E ⟨j,rfl,h⟩;obtain⟨G,I,rfl⟩:=jf h.fl;generalize f.length=tn at h|-;have t:=fe (show ie w (Æ G tn I) f E from h.N s.out);clear h)
  |(go_at_call 123;refine(D.out _ _ _ _ t.out).mono ?_;rintro e E ⟨rfl,h⟩;have s:=fe (t.out.r.fg h);clear h))
 go_ret;exact⟨U,s.out⟩
def aoK(F:Ò À 113 #[Æ O n cp,Å É v] w λe b=>e=Ç (jT<|Â i)/\e9 ff w b)(d:pn r x y g k 8 v v2 slot w)(l:Option ù)(o p:Nat)(u:w.cell? ⟨i,146,Á⟩=Â (Æ l o p))(f:List ByteArray)(C:∀W,e9 ff w W->Ò À 125 #[Æ l o p] W λe b=>∃j,e=Ç j/\ie W j f b)(q:∀W a m c,ie w (Æ a m c) f W->Ò À 123 #[Æ a m c] W λe b=>e=Ç (Ä B)/\e9 ff W b): Ò À 67 #[Æ O n cp,Ã<|Â ⟨r,0,Á⟩] w λe b=>e=Ç (Ä B)/\e9 ff w b:=by
 have J:=d.M;have z:=d.N;have D:=fe q;clear q;have H:=fe<|Ê F C;have K:=fe d;clear F C d;go_enter ó,í;go_wp2_with (first
  |(go_at_call 113;refine H.out.1.mono ?_;rintro e t ⟨rfl,h⟩;dsimp only[jT,ð];have E:=h.r z id;have G:=h.r u id;have s:=fe h;clear h)
  |(go_at_call 125;refine(H.out.2 _ s.out).mono ?_;rintro e E ⟨j,rfl,h⟩;obtain⟨G,I,rfl⟩:=jf h.fl;generalize f.length=tn at h|-;have t:=fe (show ie w (Æ G tn I) f E from h.N s.out);clear h)
  |(go_at_call 123;refine(D.out _ _ _ _ t.out).mono ?_;rintro e E ⟨rfl,h⟩;have s:=fe (t.out.r.fg h);clear h))
 go_ret;exact⟨U,s.out⟩
def aoL(F:Ò À 113 #[Æ O n cp,Å É v] w λe c=>e=Ç (jT<|Â i)/\e9 ff w c)(a:pn r x y g k 4 v v2 slot w)(j:400<g)(C:B=oU 6): Ò À 67 #[Æ O n cp,Ã<|Â ⟨r,0,Á⟩] w λe c=>e=Ç (Ä B)/\e9 ff w c:=by
 have l:=a.M;have d:=a.N;have m:(400:Int)<(g:Int):=Z
 have H:=fe<|Ê F C;have f:=fe a;clear F C a;go_enter ó,í;go_wp2_with (first
  |(go_at_call 113;refine H.out.1.mono ?_;rintro e o ⟨rfl,b⟩;dsimp only[jT,ð];have p:=b.r d id;have q:=b.r f.out.a id;have h:=fe b;clear b)
  |(go_at_call 114;refine(D4 6 A _).mono ?_;rintro e b ⟨rfl,o⟩;subst b))
 go_ret;exact⟨by rw[H.out.2];rfl,h.out⟩
def aoM(F:Ò À 113 #[Æ O n cp,Å É v] w λe a=>e=Ç (jT<|Â i)/\e9 ff w a)(b:pn r x y g k 9 v v2 slot w)(C:B=oU 3)(d:∀W,e9 ff w W->Ò À 113 #[Æ O n cp,Å É v2] W λe a=>e=Ç (jT Á)/\e9 ff W a): Ò À 67 #[Æ O n cp,Ã<|Â ⟨r,0,Á⟩] w λe a=>e=Ç (Ä B)/\e9 ff w a:=by
 have p:=b.M;have j:=b.N;have l:=fe d;clear d;have H:=fe<|Ê F C;have m:=fe b;clear F C b;go_enter ó,í;go_wp2_with (first
  |(go_at_call 113;with_reducible refine H.out.1.mono ?_;rintro e h ⟨rfl,c⟩;dsimp only[jT,ð];have o:=c.r j id;have q:=c.r m.out.c id;have f:=fe c;clear c)
  |(go_at_call 113;refine(l.out _ f.out).mono ?_;rintro e c ⟨rfl,h⟩;dsimp only[jT,ð];have o:=fe<|f.out.fg h;clear h)
  |(go_at_call 114;refine(D4 3 A _).mono ?_;rintro e c ⟨rfl,h⟩;subst c))
 go_ret;exact⟨by rw[H.out.2];rfl,o.out⟩
def aoN(F:Ò À 113 #[Æ O n cp,Å É v] w λe b=>e=Ç (jT<|Â i)/\e9 ff w b)(f:pn r x y g k 9 v v2 slot w)(C:True)(p:∀W,e9 ff w W->Ò À 113 #[Æ O n cp,Å É v2] W λe b=>e=Ç (jT<|Â j)/\e9 ff W b)(l:List ByteArray)(q:∀W,e9 ff w W->Ò À 126 #[Ã<|Â ⟨i,0,Á⟩,Ã<|Â ⟨j,0,Á⟩] W λe b=>∃o,e=Ç o/\ie W o l b)(s:∀W a m c,ie w (Æ a m c) l W->Ò À 123 #[Æ a m c] W λe b=>e=Ç (Ä B)/\e9 ff W b): Ò À 67 #[Æ O n cp,Ã<|Â ⟨r,0,Á⟩] w λe b=>e=Ç (Ä B)/\e9 ff w b:=by
 have L:=f.M;have D:=f.N;have E:=fe p;have t:=fe<|Ê q s;clear p q s;have H:=fe<|Ê F C;have G:=fe f;clear F C f;go_enter ó,í;go_wp2_with (first
  |(go_at_call 113;with_reducible refine H.out.1.mono ?_;rintro e u ⟨rfl,d⟩;dsimp only[jT,ð];have z:=d.r D id;have I:=d.r G.out.c id;have h:=fe d;clear d)
  |(go_at_call 113;refine(E.out _ h.out).mono ?_;rintro e z ⟨rfl,d⟩;dsimp only[jT,ð];have u:=fe (h.out.fg d);clear d))
 apply lW (λb=>True/\True) [] ft;have I:=fe<|Ê trivial trivial;iterate 8 apply tk I.out
 apply gA 8;intro K d;go_simp;go_at_call 126;refine(t.out.1 _<|u.out.fg<|e9.fR _ _).mono ?_;rintro e M ⟨o,rfl,h⟩;obtain⟨N,P,rfl⟩:=jf h.fl;generalize l.length=tn at h|-;have z:=fe<|h.N<|u.out.fg<|e9.fR _ _;clear h;dsimp only;apply d.out _ _ λ_=>⟨trivial,trivial⟩;clear d K;apply gA 9;intro K d;go_simp;go_at_call 123;refine(t.out.2 _ _ _ _ z.out).mono ?_;rintro e Q ⟨rfl,u⟩;have J:=fe<|z.out.r.fg u;clear u;dsimp only;apply d.out _ _ λ_=>⟨trivial,trivial⟩;clear d K;apply gA 10;intro K d;go_simp;apply d.out _ _ λ_=>⟨trivial,trivial⟩;clear d K;try simp only[Act.put,é,ý,þ]
 refine lM ft ?_ _;go_wp2_with fail;go_ret;exact⟨U,J.out⟩
def aoO(F:Ò À 113 #[Æ O n cp,Å É v] w λe a=>e=Ç (jT Á)/\e9 ff w a)(b:pn r x y g k h v v2 slot w): Ò À 67 #[Æ O n cp,Ã<|Â ⟨r,0,Á⟩] w λe a=>e=Ç (Ä<|oU 3)/\e9 ff w a:=by
 have f:=b.M;have H:=fe F;clear F b;go_enter ó,í;go_wp2_with (first
  |(go_at_call 113;refine H.out.mono ?_;rintro e i ⟨rfl,c⟩;dsimp only[jT,ð];have d:=fe c;clear c)
  |(go_at_call 114;refine(D4 3 A _).mono ?_;rintro e c ⟨rfl,i⟩;subst c))
 go_ret;exact⟨U,d.out⟩
end
structure Qn where
 x:Nat
 y:Nat
 g:Nat
 k:Nat
 r:Int
 v:Int
 C:Int
 I:Nat
structure Qn.Ok(q:Qn):Prop where
 x:q.x<8
 y:q.y<8
 g:q.g<1000000
 k:q.k<18446744073709551616
 ati:2<=q.r
 atj:q.r<=9
 v:-1<=q.v
 v2:-1<=q.C
 atl:q.I<16
def Eu(a:List ByteArray):ByteArray:=if a=[]then⟨#[45]⟩else kZ ⟨#[44]⟩ a
def Ev(a:List (Nat×fK))(p:fK)(q:Qn):ByteArray:=
 if q.r=2 then gM ((p.s q.x).C q.I).toNat
 else if q.r=3 then gM (p.s q.x).fv.toNat
 else if q.r=4 then if 400<q.g then oU 6 else Tb (gi p.s [] q.x q.y q.g q.k)
 else if q.r=5 then sR p.s q.x q.y q.k 0 401
 else if q.r=6 then LP (Ee p.s)
 else if q.r=7 then Eu (p.r.map rJ)
 else if q.r=8 then Eu (p.C.map Ek)
 else match oe a q.C with
  |none=>oU 3
  |some b=>Eu<|qK p.s b.2.s 8
def vy(a:List (Nat×fK))(q:Qn):ByteArray:=
 match oe a q.v with
 |none=>oU 3
 |some p=>Ev a p.2 q
def Td{M:Nat}(b:∀z∈vX,z.size<=M)(d:M<=100)(f:vX.length<=400000)(h:ie w (Æ O m i) vX W): Ò À 123 #[Æ O m i] W λe g=>e=Ç (Ä<|Eu vX)/\e9 ff W g:=by obtain⟨e,g,j⟩:=h.I;have k:=Er vX b;have:M*vX.length<=100*400000:=ű d f;exact aok g Z j e Z
def aoP(s:St):Ee s<18446744073709551616:=by unfold Ee Lp;exact SB _ _<|H_ λi=>J_ _ _ _
theorem Te{b:ByteArray}(c:B.size<=1)(d:b.size<=1):(B++b).size<=2:=by grind
def aai(s t:St):∀z∈qK s t 8,z.size<=2:=λz a=>by
 unfold qK at a;obtain⟨i,_,h⟩:=Ş.1 a;unfold zq xv at h;rcases â.1 h with h|h
 .rcases â.1 h with h|h
  .split at h
   .cases h
   .simp at h;subst h;exact Te (xw i)<|æ _
  .split at h
   .cases h
   .simp at h;subst h;exact Te (xw i)<|æ _
 .unfold qI at h;obtain⟨j,_,h⟩:=Ş.1 h;unfold BU at h;split at h
  .cases h
  .simp at h;subst h;exact Te (xw i)<|T_ j
section
variable{cp:Nat}{vs:List (Nat×fK)}{q:Qn}
def aoQ(u:qf O n vs w)(S:n<=1000)(T:0<n)(hvo:∀p∈vs,SO p.2)(d:pn i q.x q.y q.g q.k q.r q.v q.C q.I w)(ok:q.Ok)(V:iL w)(o:lC w)(hd:qg w): Ò À 67 #[Æ O n cp,Ã<|Â ⟨i,0,Á⟩] w λe G=>e=Ç (Ä<|vy vs q)/\e9 ff w G:=by
 have F:=Lt (cp:=cp) u S T q.v ok.v;unfold vy;cases B:oe vs q.v with
 |none=>
  rw[B]at F;exact aoO F d
 |some p=>
  rw[B]at F;have h:=F;have X:=HC B;have f:=u.M X;have j:=hvo p X;obtain⟨x,y,g,k,kind,v,C,Y⟩:=q;obtain⟨r,H,hg,I,um,tD,hv,LQ,J⟩:=ok;simp only at r H hg I um tD hv LQ J d h B|-;obtain⟨cb,_,cs⟩:=f.r.gR r;have FM:gf (k:Int):=⟨Z,Z⟩;unfold Ev;simp only;split
  .rename_i e;subst e;have c:=cs Y J;have l:=f.C.C x Y;rw[<-ņ l.1]at c;exact aoE h d r J _ c λW b=>xu _ (by have:=l.1;have:=l.2;omega) W<|o.r b
  .split
   .rename_i e;subst e;have l:=f.C.fv x;rw[<-ņ l.1]at cb;exact aoF h d r _ cb λW b=>xu _ (by have:=l.1;have:=l.2;omega) W<|o.r b
   .split
    .rename_i e;subst e;split
     .rename_i hh;exact aoL h d hh U
     .exact aoG h d Z I λW b=>aon (f.r.r b id) f.C (V.r b id) (o.r b) x y g k r H Z Z FM
    .split
     .rename_i e;subst e;exact aoH h d I λW b=>anH (f.r.r b id) f.C (V.r b id) (o.r b) r H FM
     .split
      .rename_i e;subst e;exact aoI h d _ (λW b=>amW (f.r.r b id) f.C) λW b=>aoD _ (aoP _)<|hd.r b
      .split
       .rename_i e;subst e;obtain⟨K,L,M,N⟩:=f.N;exact aoJ h d K _ L M _ (λW b=>Q' U j.I j.C (o.r b)<|nn.C N b) λW a m c t=>Td (λz P=>by obtain⟨e,D,rfl⟩:=Ú.1 P;exact LL (j.C e D).2) Z (by rw[ú];exact j.I) t
       .split
        .rename_i e;subst e;obtain⟨K,L,M,N⟩:=f.S;exact aoK h d K _ L M _ (λW b=>anO U j.M j.r (o.r b)<|nn.C N b) λW a m c t=>Td (λz P=>by obtain⟨e,D,rfl⟩:=Ú.1 P;exact Z_ (j.r e D).1 (j.r e D).2) Z (by rw[ú];have:=j.M;omega) t
        .have e:kind=9:=Z
         subst e;have E:∀W,e9 ff w W->Ò À 113 #[Æ O n cp,Å É C] W λe G=>e=Ç (jT ((oe vs C).map (·.1)))/\e9 ff W G:=λW b=>Lt (u.I b) S T C LQ;cases Q:oe vs C with
         |none=>
          rw[Q]at E;exact aoM h d U E
         |some p2=>
          rw[Q]at E;exact aoN h d trivial E _ (λW b=>an0 (f.r.r b id)<|(u.M<|HC Q).r.r b id) λW a m c t=>Td (aai _ _) Z (by have:=S2 p.2.s p2.2.s 8;omega) t
end
end Go.Proofs.Y.iC
namespace Go.Proofs.Y.lZ
open Go Go.Proofs Go.RowKit Go.Proofs.Y.Lift Go.Proofs.Y.iC
def kj(a:List (Nat×fK)):List fK:=a.map (·.2)
def aaj(d:fK)(l:List fK):fK:=l.foldl (λa b=>if a.h<b.h then b else a) d
theorem aak:∀(a:List (Nat×fK)) (d:Nat×fK),(uz d a).2=aaj d.2 (kj a)
 |[],_=>rfl
 |x::r,d=>by show(uz (zk d x) r).2=aaj (if d.2.h<x.2.h then x.2 else d.2) (kj r);rw[aak r];unfold zk;split<;>rfl
theorem Tf{a b:List (Nat×fK)}(h:kj a=kj b)(v:Int):(oe a v).map (·.2)=(oe b v).map (·.2):=by
 have c:∀i:Nat,(a[i]?).map (·.2)=(b[i]?).map (·.2):=λi=>by have:=congrArg (λl:List fK=>l[i]?) h;simpa[kj]using this
 unfold oe;grind [aak]
theorem aoR{a b:List (Nat×fK)}(h:kj a=kj b):a.length=b.length:=by have:=congrArg List.length h;simpa[kj]using this
theorem aal{a b:List (Nat×fK)}(h:kj a=kj b)(v:Int)(x:Nat)(gI:List Tx):sQ a v x gI=sQ b v x gI:=by have c:=Tf h v;unfold sQ;grind [aoR]
theorem aoS{a b:List (Nat×fK)}(h:kj a=kj b)(q:Qn):vy a q=vy b q:=by
 have c:=Tf h q.v;have d:=Tf h q.C;have e:∀p:fK,Ev a p q=Ev b p q:=λp=>by unfold Ev;grind
 unfold vy;grind
structure lq(s:List fK):Prop where
 I:0<s.length
 C:s.length<=40
 r:∀v∈s,SO v/\gH v.s/\0<=v.h/\v.h<s.length
def sT(a:List (Nat×fK))(v:Int)(x:Nat)(gI:List Tx):List fK:=kj a++(sQ a v x gI).1.toList
def lq.M{f:List (Nat×fK)}(h:lq (kj f)){gI:List Tx}(j:∀t∈gI,t.Ok)(l:gI.length<=1000):lq (sT f c i gI):=by
 unfold lZ.sT;have z:(kj f).length=f.length:=by simp[kj]
 unfold sQ;cases m:oe f c with
 |none=>simpa using h
 |some p=>
  have n:p.2∈kj f:=Ú.2 ⟨p,HC m,U⟩;let⟨B,k,C,D⟩:=h.r _ n;simp only;split
  .simpa using h
  .rename_i E;cases g:xr i p.2.s gI with
   |none=>simpa using h
   |some r=>
    simp only[Option.toList];have F:=h.C;have o:gH r.1:=by unfold xr at g;obtain⟨G,w,rfl⟩:=ò.1 g;exact(SQ gI j k (λ_ q=>by cases q) (λ_ q=>by cases q) (by simp;omega) (by simp;omega) w).1.r i<|yZ _
    refine⟨fp,by simp;omega,λu y=> ?_⟩;rcases â.1 y with q|q
    .let⟨a,b,e,d⟩:=h.r u q;refine⟨a,b,e,?_⟩;rw[Ù];simp;omega
    .simp at q;subst q;refine⟨ant j k l g,o,by show 0<=p.2.h+1;omega,?_⟩;rw[Ù];show p.2.h+1<_;simp;omega
def iW(Y:fq)(u w:Í):Prop:=∀(i j o:Nat) (v:Ñ),Y i j->u.cell? ⟨i,o,Á⟩=Â v->∃a,w.cell? ⟨j,o,Á⟩=Â a/\fj Y v a
section
variable{Y:fq}
theorem aoT{k:IntKind}(h:fj Y (Å k c) v):v=Å k c:=by cases h;rfl
theorem aoU(h:fj Y (Ä B) v):v=Ä B:=by cases h;rfl
theorem LU(h:fj Y (Ã<|Â a) v):∃b,v=Ã (Â b)/\gY Y a b:=by
 cases h with
 |jN q=>exact⟨_,U,q⟩
def LV(h:fj Y (Æ O n i) v):∃b,v=Æ b n i/\∀a,O=Â a->∃d,b=Â d/\gY Y a d:=by
 cases h with
 |nY=>exact⟨Á,U,λa q=>by cases q⟩
 |kC q=>exact⟨_,U,λa e=>by cases e;exact⟨_,U,q⟩⟩
theorem aoV(a:kh v=Î)(h:fj Y v x):x=v:=by cases h<;>first|rfl|(simp[kh]at a;done)
theorem zu(h:gY Y ⟨b,i,Á⟩ a):∃c,a=⟨c,i,Á⟩/\Y b c:=by let⟨d,e,f⟩:=h;let⟨c,g,j⟩:=a;grind
theorem iW.r(a:iW Y u w){k:IntKind}(h:Y i j)(d:u.cell? ⟨i,b,Á⟩=Â (Å k c)):w.cell? ⟨j,b,Á⟩=Â (Å k c):=by let⟨e,f,g⟩:=a i j b _ h d;grind [aoT]
theorem iW.C(a:iW Y u w)(h:Y i j)(b:u.cell? ⟨i,n,Á⟩=Â (Ä B)):w.cell? ⟨j,n,Á⟩=Â (Ä B):=by let⟨c,d,e⟩:=a i j n _ h b;grind [aoU]
theorem iW.aoW(a:iW Y u w)(c:kh v=Î)(h:Y i j)(b:u.cell? ⟨i,n,Á⟩=Â v):w.cell? ⟨j,n,Á⟩=Â v:=by let⟨d,e,f⟩:=a i j n _ h b;grind [aoV]
def Tg(s:iC.St):∀v∈iu s,(∃n,v=Å ã n)\/∃p,v=Ä p:=λv n=>by
 unfold iu at n;obtain⟨i,_,rfl⟩:=Ú.1 n;unfold p7 p6;split
 .exact È ⟨_,U⟩
 .split
  .exact Ï ⟨_,U⟩
  .exact È ⟨_,U⟩
def aoX(a:iW Y u w){s:iC.St}(c:Y b i)(d:lY b s h u):lY i s h w:=by
 refine⟨λj v e=> ?_,a.r c d.h⟩;have f:=d.C j v e;rcases Tg s v (ç e)with⟨n,rfl⟩|⟨p,rfl⟩
 .exact a.r c f
 .exact a.C c f
def aam(a:iW Y u w)(f:Y b i)(g:∀v∈l,kh v=Î)(h:zj ⟨b,j,Á⟩ n l u):zj ⟨i,j,Á⟩ n l w:=by let⟨p,c,k,m⟩:=h;let⟨G,q,r⟩:=a b i j _ f k;obtain⟨s,rfl,t⟩:=LV r;refine⟨s,c,q,λd x e=> ?_⟩;let⟨H,y,z,B⟩:=m d x e;let⟨I,C,D⟩:=t _ z;obtain⟨E,rfl,F⟩:=zu D;exact⟨E,y,C,a.aoW (g x<|ç e) F B⟩
def aoY(a:iW Y u w){v:fK}(c:Y b i)(h:rH b v u):rH i v w:= ⟨aoX a c h.r,h.C,h.I,h.M,aam a c (ZC _) h.N,aam a c (j_ _) h.S⟩
def vO{α β:Type}{R:Nat->α->β->Prop}:∀(l:List α) (k:Nat),(∀j x,l[j]?=Â x->∃y,R (k+j) x y)->∃a:List β,a.length=l.length/\∀j y,a[j]?=Â y->∃x,l[j]?=Â x/\R (k+j) x y
 |[],_,_=>⟨[],U,λj y h=>by simp at h⟩
 |x::r,k,h=>by
  let⟨y,c⟩:=h 0 x U;obtain⟨a,d,e⟩:=vO r (k+1) λj z b=>by let⟨q,f⟩:=h (j+1) z b;exact⟨q,by rwa[show k+1+j=k+(j+1) by omega]⟩
  refine⟨y::a,by simp[d],λj z b=> ?_⟩;cases j with
  |zero=>cases b;exact⟨x,U,c⟩
  |succ j=>
   let⟨q,f,g⟩:=e j z b;exact⟨q,f,by rwa[show k+(j+1)=k+1+j by omega]⟩
theorem HL(a:iW Y u w){e:List (Nat×fK)}(i:fj Y z jQ)(h:Lu z e u):∃c,kj c=kj e/\Lu jQ c w:=by
 obtain⟨J,n,k,rfl,l,f⟩:=h;obtain⟨g,rfl,m⟩:=LV i;let⟨c,o,K⟩:=vO (R:=λj (x y:Nat×fK)=>x.2=y.2/\∃q d,g=Â ⟨q,d,Á⟩/\w.cell? ⟨q,d+j,Á⟩=Â (Ã<|Â ⟨y.1,0,Á⟩)/\rH y.1 y.2 w) e 0 λj x p=>by let⟨b,v⟩:=x;let⟨q,d,r,s,t⟩:=f.C j b v p;let⟨L,B,C⟩:=m _ r;obtain⟨y,rfl,D⟩:=zu C;let⟨M,E,F⟩:=a q y _ _ D s;obtain⟨N,rfl,G⟩:=LU F;obtain⟨H,rfl,I⟩:=zu G;exact⟨(H,v),U,y,d,B,by rwa[œ],aoY a I t⟩
 refine⟨c,?_,g,n,k,U,l,⟨by rw[o];exact f.r,λj b v q=> ?_⟩⟩
 .refine Ŕ λj=> ?_;unfold kj;grind
 .grind
end
def k9(a:Nat->Prop)(B:Nat):fq:=⟨λi j=>i=j/\a i,B⟩
def aoZ(a:Nat->Prop)(B:Nat):Bi (k9 a B):= ⟨λ_ _ _ h k=>h.1.symm.trans k.1,λ_ _ _ h k=>h.1.trans k.1.symm,λi j h=>by rw[h.1]⟩
def zv{V:Nat->Prop}{B:Nat}(h:∀i,X i->V i):(k9 X B).r (k9 V B):=⟨λ_ _ q=>⟨q.1,h _ q.2⟩,λ_=>aoZ V B,U⟩
def kB(B:Nat)(a:Nat->Prop)(w:Í):Prop:=∀b,a b->∃c e d,w.heap[b]?=Â (Û c e d)/\d.2<=c.size/\fQ (k9 a B) c c/\0<c.size/\Cf c/\e≠304/\e≠305
section
variable{B:Nat}{V:Nat->Prop}
def kB.I(h:kB B X w)(k:kB B V w):kB B (λb=>X b\/V b) w:=by
 rintro b (q|q)
 .let⟨c,e,a,d,f,g,i⟩:=h b q;exact⟨c,e,a,d,f,g.I (zv λ_=>È),i⟩
 .let⟨c,e,a,d,f,g,i⟩:=k b q;exact⟨c,e,a,d,f,g.I (zv λ_=>Ï),i⟩
def kB.C(h:kB B X w)(k:∀b,X b->u.heap[b]?=w.heap[b]?):kB B X u:=λb q=>by let⟨c,e,a,d,f⟩:=h b q;exact⟨c,e,a,by rwa[k b q],f⟩
theorem kB.r(h:kB B X w)(a:X b)(d:w.cell? ⟨b,i,Á⟩=Â v):fj (k9 X B) v v:=by let⟨c,e,j,f,_,g,_⟩:=h b a;simp only[ß,f,ö,ì,if_false]at d;rcases g.S i with⟨q,_⟩|⟨x,k,l,m,n⟩;all_goals grind
def BW(h:fj (k9 X B) (Ã<|Â a) v):X a.block:=by
 cases h with
 |jN q=>exact q.1.2
def BX(h:fj (k9 X B) (Æ (Â a) n i) v):X a.block:=by
 cases h with
 |kC q=>exact q.1.2
def ao0{Y:fq}(h:kh v=Î):fj Y v v:=by cases v<;>first|exact .mf _|exact .iI _ _|(simp[kh]at h;done)
def po{Y:fq}(h:∀v∈d.toList,fj Y v v):fQ Y d d:=⟨U,λi a _=>h _<|î.2<|ă a⟩
def ao1(h:kh v=Î):xM v=Ë:=by
 cases v with
 |int k n=>cases k<;>first|rfl|(simp[kh]at h;done)
 |_=>rfl
def zw(h:∀v∈d.toList,xM v=Ë):Cf d:=λk v a=>h v<|î.2<|ĵ a
def HM(v:Ñ)(i:Nat):Prop:=v.ownBlock=Â i
def HN(X:Nat->Prop)(g b:Nat)(a c:Ñ)(i:Nat):Prop:=X i\/i=g\/i=b\/HM a i\/HM c i
def aan{G:Í}(a:lT T=Î)(h:sP v T u)(o:∀j,v.ownBlock=Â j->G.heap.size<=j)(p:rB G.heap.size u):∀i,HM v i->∃c e f,u.heap[i]?=Â (Û c e f)/\f.2<=c.size/\fQ (k9 V B) c c/\0<c.size/\Cf c/\e≠304/\e≠305:=λi b=>by
 rcases h with rfl|⟨g,n,c,k,rfl,l⟩
 .cases b
 .have e:g=i:=by unfold HM at b;simpa[Value.ownBlock]using b
  subst e;let⟨r,m⟩:=p g k T (0,0) (o g U) l a;exact⟨k,T,(0,0),l,Ø _,po λv d=>ao0<|m v d,r,zw λv d=>ao1<|m v d,(λq=>by rw[q]at a;cases a),(λq=>by rw[q]at a;cases a)⟩
def aao(h:sP v T u)(a:∀i,HM v i->V i):fj (k9 V B) v v:=by
 rcases h with rfl|⟨g,n,c,b,rfl,d⟩
 .exact .nY _ _
 .exact fj.kC (Y:=k9 V B) ⟨⟨U,a g U⟩,U,U⟩ n c
theorem ao2{G:Í}(J:kB B X G)(k:e9 ff G u)(K:∀i,X i->i<G.heap.size){l:List (Nat×fK)}{s:iC.St}(o:SJ b s h G u)(r:SH l b G u m)(L:∀p∈l,X p.1): ∃e,(∀i,X i->e i)/\e m/\kB B e u/\∀i,e i->X i\/G.heap.size<=i:=by
 have t:=k.Y _ λi c T w M y=>by rw[ı M]at y;cases y
 let⟨a,d,N,z,C,D,E⟩:=o.r;refine⟨HN X m b a d,λi q=>È q,Ï<|È U,?_,?_⟩
 .rintro i (q|rfl|rfl|q|q)
  .let⟨c,e,w,n,x,f,j⟩:=J i q;exact⟨c,e,w,by rwa[k.N i (K i q) id],x,f.I (zv λ_=>È),j⟩
  .let⟨F,n,x,f⟩:=r.r;have H:∀v∈F.toList,v=Ã Á\/∃j,v=Ã (Â ⟨j,0,Á⟩)/\HN X i b a d j:=λv e=>by
    rcases f v e with q|q|q
    .unfold rI at q;obtain⟨p,I,rfl⟩:=Ú.1 q;exact Ï ⟨_,U,È<|L p I⟩
    .exact Ï ⟨_,q,Ï<|Ï<|È U⟩
    .exact È q
   refine⟨F,136,(0,0),n,Ø _,po λv e=> ?_,x,zw λv e=> ?_,A,A⟩
   .rcases H v e with rfl|⟨j,rfl,I⟩
    .exact .lE
    .exact .jN ⟨⟨U,I⟩,U,U⟩
   .rcases H v e with rfl|⟨j,rfl,I⟩<;>rfl
  .have f:∀v∈jj s a++[Å É h,d],fj (k9 (HN X m i a d) B) v v/\xM v=Ë:=λv e=>by
    rw[zg]at e;have I:=aao (B:=B) (V:=HN X m i a d) z λj q=>Ï<|Ï<|Ï<|È q;have F:=aao (B:=B) (V:=HN X m i a d) C λj q=>Ï<|Ï<|Ï<|Ï q;have H:∀{x:Ñ} {T:Ď},sP x T u->xM x=Ë:=λ{x T} q=>by rcases q with rfl|⟨_,_,_,_,rfl,_⟩<;>rfl
    rcases â.1 e with q|q
    .rcases â.1 q with q|q
     .rcases Tg s v q with⟨n,rfl⟩|⟨p,rfl⟩
      .exact⟨.iI _ _,U⟩
      .exact⟨.kL _,U⟩
     .grind
    .simp at q;rcases q with rfl|rfl
     .exact⟨.iI _ _,U⟩
     .grind
   exact⟨_,147,(0,0),N,Ø _,po λv e=>(f v<|by simpa using e).1,by simp[mA],zw λv e=>(f v<|by simpa using e).2,A,A⟩
  .exact aan U z D t i q
  .exact aan U C E t i q
 .rintro i (q|rfl|rfl|q|q)
  .exact È q
  .exact Ï r.C
  .exact Ï o.C
  .exact Ï<|D i q
  .exact Ï<|E i q
def LW{Y:fq}(h:fj Y v x):fj (k9 X B) v v->fj (k9 (λj=>∃i,X i/\Y i j) B) x x:=by
 induction h with
 |mf b=>exact λ_=> .mf b
 |iI k n=>exact λ_=> .iI k n
 |kL s=>exact λ_=> .kL s
 |lE=>exact λ_=> .lE
 |@jN a a' q=>exact λz=>fj.jN (Y:=k9 (λj=>∃i,X i/\Y i j) B) ⟨⟨U,_,BW z,q.1⟩,U,U⟩
 |nY n c=>exact λ_=> .nY n c
 |@kC a a' q n c=>exact λz=>fj.kC (Y:=k9 (λj=>∃i,X i/\Y i j) B) ⟨⟨U,_,BX z,q.1⟩,U,U⟩ n c
 |uL=>exact λ_=> .uL
 |fn f=>exact λ_=> .fn f
 |uM=>exact λ_=> .uM
 |uN=>exact λ_=> .uN
 |uO=>exact λ_=> .uO
 |xI t _ b=>exact λz=> .xI t (b (by cases z with|xI _ y=>exact y))
 |ov f _ b=>exact λz=> .ov U λi c _=>b i (by rwa[f]) c (by cases z with|ov _ y=>exact y i _ _)
 |nF f _ b=>exact λz=> .nF U λi c _=>b i (by rwa[f]) c (by cases z with|nF _ y=>exact y i _ _)
def ao3{Y:fq}(h:fj Y v x):xM x=xM v:=by cases h<;>rfl
theorem Ti{Y:fq}{r:Nat->Prop}(h:jh Y r u w)(s:kB B X u):kB B (λj=>∃i,X i/\Y i j) w:=by
 rintro j ⟨i,t,x⟩;let⟨c,a,e,F,y,z,C,b,G,H,I⟩:=h.r i j x;let⟨d,J,qn,m,_,D,K,E,n,o⟩:=s i t;rw[z]at m;cases m;have L:=b.C.resolve_right λq=>q.2.1.elim n o;refine⟨a,e,y,C,?_,po λv f=> ?_,Z,zw λv f=> ?_,n,o⟩
 .grind
 .obtain⟨k,g,rfl⟩:=Ğ f;have l:k<a.size:=by simpa using g
  have:=LW (b.r k Z l)<|D.C k Z Z;simpa using this
 .obtain⟨k,g,rfl⟩:=Ğ f;have l:k<a.size:=by simpa using g
  have p:=ao3<|b.r k Z l;rw[(E k c[k]<|å Z)]at p;simpa using p
def zx{Y:fq}(h:jh Y X u w):iW Y u w:=λi j o v b c=>h.gy (a:=⟨i,o,Á⟩) (a':=⟨j,o,Á⟩) ⟨b,U,U⟩ c
end
end Go.Proofs.Y.lZ
namespace Go.Proofs.Y.Lift
open Go
def aap{α β:Type}{c:α->β->Option (ForInStep β)}{I:β->Prop}(d:∀a b s,I b->c a b=Â s->I s.value): ∀(l:List α) (b r:β),I b->forIn l b c=Â r->I r
 |[],b,r,hi,h=>by simp at h;subst h;exact hi
 |a::l,b,r,hi,h=>by
  rw[List.forIn_cons]at h;cases e:c a b with
  |none=>rw[e]at h;simp at h
  |some s=>
   rw[e]at h;have:=d a b s hi e;cases s with
   |done x=>simp at h;subst h;exact this
   |yield x=>simp at h;exact aap d l x r this h
def jO.gR(h:jO v):∀x∈v.cells,jO x:=by
 intro x a;cases h with
 |ov h=>
  obtain⟨i,b,rfl⟩:=Array.mem_iff_getElem.1 a;exact h i b
 |nF h=>simp[Ĺ]at a;subst a;exact .nF h
 |_=>simp[Ĺ]at a;subst a;constructor
def ZP(a:Ď->Option ĩ):Prop:=∀t i z,a t=Â i->i.zero=Â z->jO z
def Tk(h:∀x∈d,jO x):jO (.agg d):=.ov λ_ a=>h _<|ă a
theorem ao4{l:Ď->Option ĩ}(h:ZP l){m:Array Field}(g:ŕ l m=Â zJ)(q:zJ.zero=Â z):jO z:=by
 unfold ŕ at g;simp only[<-Array.forIn_toList]at g;generalize t:(forIn m.toList _ _:Option _)=L at g;cases L with
 |none=>simp at g
 |some r=>
  have u:=aap (I:=λx=>∀a,x.2.2.2.2.2.2.2.1=Â a->∀v∈a,jO v) ?_ _ _ _ ?_ t
  .have:∃a,r.2.2.2.2.2.2.2.1=Â a/\z=.agg a:=by
    grind [ò]
   obtain⟨a,e,rfl⟩:=this;exact Tk<|u a e
  .intro f b s w d;have y:∀(e:Option Ñ) (k:Nat) (x:Option (Array Ñ)),(∀z,e=Â z->jO z)->x=(if k>Ų then Á else do pure ((<-b.2.2.2.2.2.2.2.1)++(<-e).cells))->∀a,x=Â a->∀v∈a,jO v:=by
    intro e k x B C a c v n;subst C;split at c
    .simp at c
    .cases j:b.2.2.2.2.2.2.2.1 with
     |none=>rw[j]at c;simp at c
     |some E=>
      cases o:e with
      |none=>rw[j,o]at c;simp at c
      |some D=>
       rw[j,o]at c;simp at c;subst c;rcases Array.mem_append.1 n with p|p
       .exact w _ j v p
       .exact(B D o).gR v p
   cases e:l f.type with
   |none=>rw[e]at d;simp at d
   |some j=>
    rw[e,ê,ş]at d;have k:=y j.zero (b.2.1+j.size) _ (λz q=>h _ _ _ e q) U;generalize(if b.2.1+j.size>Ų then Á else(do pure ((<-b.2.2.2.2.2.2.2.1)++(<-j.zero).cells):Option (Array Ñ)))=X at d k;generalize(if b.1.size+1<m.size then ";" else "")=Y at d;simp only[bind,pure,Option.bind]at d;repeat' split at d
    all_goals first
     |(simp only[Ô]at d;subst d;exact k)
     |(simp at d;done)
  .intro a c v n;simp at c;subst c;simp at n
def ao5{c:Ď->Option ĩ}(h:ZP c){d:TypeDesc}(a:Χ c d=Â zJ)(b:zJ.zero=Â z):jO z:=by
 unfold Χ at a;cases d with
 |struct k=>exact ao4 h a b
 |array n e=>
  simp only[ê,Ü,ā,Ô]at a;obtain⟨f,v,st,_,rfl⟩:=a;simp only at b;split at b
  .simp at b
  .split at b
   .simp at b;subst b;exact Tk fp
   .simp only[ò]at b;obtain⟨j,g,rfl⟩:=b;refine Tk λx k=> ?_;simp only[Array.mem_flatten,Array.mem_replicate]at k;obtain⟨l,⟨_,rfl⟩,k⟩:=k;exact(h _ _ _ v g).gR x k
 |pointer e=>
  simp only[ê,Ü,ā]at a;let⟨f,v,a⟩:=a;repeat' split at a
  all_goals first
   |(simp at a;done)
   |(simp only[Ü,Ô]at a;obtain⟨_,_,rfl⟩:=a;simp only[ł,Ô]at b;subst b;constructor)
 |slice e=>
  simp only[ê,Ü,ā,Ô]at a;obtain⟨_,_,_,_,rfl⟩:=a;simp only[ł,Ô]at b;subst b;constructor
 |map k e=>
  simp only[ê,Ü,ā,Ô]at a;obtain⟨_,_,_,_,_,_,_,_,rfl⟩:=a;simp only[ł,Ô]at b;subst b;constructor
 |chan k e=>
  simp only[ê,Ü,ā,Ô]at a;obtain⟨_,_,_,_,rfl⟩:=a;simp only[ł,Ô]at b;subst b;constructor
 |func k e v=>
  simp only[ê,Ü,ā,Ô]at a;obtain⟨_,_,rfl⟩:=a;simp only[ł,Ô]at b;subst b;constructor
 |_=>simp at a
def aaq{T:Tables}(a:∀(t:Nat) (i:ĩ) (z:Ñ),T.types[t]?=Â i->i.zero=Â z->jO z):∀f,ZP<|ţ T f
 |0=>λt i z h=>by simp[ţ]at h
 |f+1=>λt i z h b=>by
  unfold ţ at h;split at h
  .exact a t i z h b
  .simp only[Ü]at h;let⟨d,_,c⟩:=h;exact ao5 (aaq a f) c b
def ao6(a:∀(t:Nat) (i:ĩ) (z:Ñ),P.types[t]?=Â i->i.zero=Â z->jO z):nH P:=λt i z h b=>by
 have h:P.toTables.info? t=Â i:=h;unfold Tables.info? at h;split at h
 .exact a t i z h b
 .exact aaq a _ t i z h b
end Go.Proofs.Y.Lift
namespace Go.Proofs.Y.fA
open Go Go.Conc Go.Proofs.Y.Lift Go.RowKit Go.Conc.Lib Go.ConcR.Gen
open Go.Proofs Go.Proofs.YtgpphkdoanciiaaGreatDoor
def Tl:Ñ->Bool
 |.agg a=>a.toList.all xU
 |v=>xU v
def aar(h:Tl v=Î):jO v:=by
 cases v with
 |agg b=>exact .ov λi a=>Fj<|(ĭ.1 h) _<|î.2<|ă a
 |_=>exact Fj h
def aas:Ñ->Bool
 |ë a=>a.toList.all Tl
 |v=>Tl v
def ao7(h:aas v=Î):jO v:=by
 cases v with
 |tuple b=>exact .nF λi a=>aar<|(ĭ.1 h) _<|î.2<|ă a
 |_=>exact aar h
def Ew(i:ĩ):Bool:=match i.zero with
 |some z=>aas z
 |none=>Î
def ao8(h:P.types.toList.all Ew=Î):nH P:=ao6 λt i z a b=>by have:=(ĭ.1 h) i<|î.2<|ĵ a;unfold Ew at this;rw[b]at this;exact ao7 this
def xO:nH À:=ao8 fO
end Go.Proofs.Y.fA
namespace Go.Proofs.Y.lZ
open Go Go.Conc Go.Proofs Go.RowKit Go.Proofs.Y.Lift Go.Proofs.Y.iC Go.Proofs.Y.fA
noncomputable def nB:Nat:=À.globals.size
def pv(a:Nat->Prop)(b:Nat):Prop:=a b\/b=1\/b=2\/b=3\/b=4
def LX(b:Nat)(e:Ď)(w:Í):Prop:=∃c a,w.heap[b]?=Â (Û c e a)/\a.2<=c.size/\a.2<=16/\0<c.size/\∀v∈c.toList,∃k n,v=Å k n
structure nu(w:Í):Prop where
 fu:nB<=w.heap.size
 M:kB nB (λb=>b=1\/b=2) w
 I:LX 3 304 w
 C:LX 4 305 w
 S:iC.lC w
 iY:iL w
 N:qg w
section
variable{V:Nat->Prop}
theorem nu.r{w':Í}(h:nu w)(f:nB<=w'.heap.size)(k:∀b,b=1\/b=2\/b=3\/b=4->w'.heap[b]?=w.heap[b]?):nu w':=by
 have d:∀b o,b=1\/b=2\/b=3\/b=4->w'.cell? ⟨b,o,Á⟩=w.cell? ⟨b,o,Á⟩:=λb o e=>by simp only[ß,k b e]
 refine⟨f,h.M.C λb e=>k b<|e.imp id È,?_,?_,?_,?_,?_⟩
 .let⟨c,i,a,r⟩:=h.I;exact⟨c,i,by rwa[k 3 fp],r⟩
 .let⟨c,i,a,r⟩:=h.C;exact⟨c,i,by rwa[k 4 fp],r⟩
 .have c:=h.S;have i:À.globalNamed "internal/strconv.uint64pow10"=Â 1:=ft
  unfold iC.lC χ ο at*;grind
 .let⟨c,g,a⟩:=h.iY.M;refine⟨⟨c,g,by rwa[k 2 fp]⟩,λi r j=> ?_⟩;rw[d 2 _ fp,d 2 _ fp,d 2 _ fp];exact h.iY.I i r j
 .have:=h.N;unfold qg at*;grind
def aat(u:kB nB X w)(x:∀b,X b->ln b=Ë)(g:nu w):KO (pv X) (pv X) nB w:=by
 have p:∀{a:Nat->Prop} {c:Array Ñ},(∀b,a b->pv X b)->fQ (k9 a nB) c c->fQ (pY (pv X) nB) c c:=λ{a c} hX r=>r.I<|zv hX;refine⟨?_,g.fu⟩;have s:∀b e,(e=304\/e=305)->ln b=Î->LX b e w->∃c e d,w.heap[b]?=Â (Û c e d)/\d.2<=c.size/\fQ (pY (pv X) nB) c c/\(pv X b->0<c.size/\(ln b=Î->(e=304\/e=305)/\d.2<=16)/\(ln b=Ë->Cf c)):=λb e y B h=>by let⟨c,d,f,j,l,m,o⟩:=h;exact⟨c,e,d,f,j,po λv i=>by obtain⟨k,n,rfl⟩:=o v i;exact .iI _ _,λ_=>⟨m,λ_=>⟨y,l⟩,λq=>by rw[B]at q;cases q⟩⟩
 rintro b (q|q|q|rfl|rfl)
 .let⟨c,e,d,f,j,l,m,o,_⟩:=u b q;exact⟨c,e,d,f,j,p (λ_=>È) l,λ_=>⟨m,λt=>(by rw[x b q]at t;cases t),λ_=>o⟩⟩
 .let⟨c,e,d,f,j,l,m,o,_⟩:=g.M b<|È q;exact⟨c,e,d,f,j,p (λi k=>k.elim (λz=>Ï<|È z) λz=>Ï<|Ï<|È z) l,λ_=>⟨m,λt=>(by rw[q]at t;cases t),λ_=>o⟩⟩
 .let⟨c,e,d,f,j,l,m,o,_⟩:=g.M b<|Ï q;exact⟨c,e,d,f,j,p (λi k=>k.elim (λz=>Ï<|È z) λz=>Ï<|Ï<|È z) l,λ_=>⟨m,λt=>(by rw[q]at t;cases t),λ_=>o⟩⟩
 .exact s 3 304 (È U) U g.I
 .exact s 4 305 (Ï U) U g.C
def pw(a:ln b=Ë\/i<16)(h:w.cell? ⟨b,i,Á⟩=Â v):(World.tp (kY V w) xQ 0).cell? ⟨b,i,Á⟩=Â v:=by
 have j:(World.tp (kY V w) xQ 0).heap[b]?=(w.heap[b]?).map (pe V b):=DK b;simp only[ß,j];simp only[ß]at h;cases g:w.heap[b]? with
 |none=>rw[g]at h;cases h
 |some k=>
  rw[g]at h;cases k with
  |cells c e m=>
   simp only[Ă,pe,ö,ì,if_false]at h|-;split
   .rename_i d;split at d
    .split at d
     .rename_i l;cases d;rcases a with a|a
      .rw[l]at a;cases a
      .unfold uk;rw[Array.getElem?_extract];simp;exact⟨by have:=(á.1 h).1;omega,h⟩
     .cases d;exact h
    .cases d;exact h
   .rename_i f;split at f
    .split at f<;>exact absurd U<|f _ _ _
    .exact absurd U<|f _ _ _
  |_=>cases h
def aau{T:ŷ}(d:kB nB X w)(e:∀b,X b->ln b=Ë):iW (k9 X nB) w (World.tp (kY V w) T 0):=by rintro i j o v ⟨rfl,a⟩ c;exact⟨v,pw (È<|e i a) c,d.r a c⟩
end
def RD(s:List fK)(b:Ñ)(a:Nat->Prop)(w:Í):Prop:=∃c,kj c=s/\lq s/\Lu b c w/\kB nB a w/\fj (k9 a nB) b b
section
variable{V:Nat->Prop}{s:List fK}
def aav(h:kB nB X w)(k:∀b,X b->u.heap[b]?=w.heap[b]?):iW (k9 X nB) w u:=by rintro i j o v ⟨rfl,a⟩ c;exact⟨v,by simp only[ß,k i a];exact c,h.r a c⟩
def RD.r(h:RD s v X w)(k:∀b,X b->u.heap[b]?=w.heap[b]?):RD s v X u:=by let⟨l,d,e,f,a,c⟩:=h;let⟨g,i,j⟩:=HL (aav a k) c f;exact⟨g,i.trans d,e,j,a.C k,c⟩
def HO(r:Nat)(q:Qn)(w:Í):Prop:=pn r q.x q.y q.g q.k q.r q.v q.C q.I w
def aaw{Y:fq}(a:iW Y u w){r:Nat}{q:Qn}(b:Y r i)(h:HO r q u):HO i q w:= ⟨a.r b h.I,a.r b h.S,a.r b h.a,a.r b h.Y,a.r b h.N,a.r b h.M,a.r b h.c,a.r b h.b⟩
def ao9{T:ŷ}(g:nu w):iC.lC (World.tp (kY V w) T 0):=by
 have a:=g.S;have h:À.globalNamed "internal/strconv.uint64pow10"=Â 1:=ft
 unfold iC.lC χ ο at*;rw[h]at a|-;simp only[ş]at a|-;have i:(World.tp (kY V w) T 0).heap[1]?=(w.heap[1]?).map (pe V 1):=DK 1;rw[i];cases f:w.heap[1]? with
 |none=>rw[f]at a;cases a
 |some j=>
  rw[f]at a;cases j with
  |cells c e k=>
   simp only[Ă,pe,ln]at a|-;split
   .rename_i b;split at b<;>(simp at b;obtain⟨rfl,_⟩:=b;exact a)
   .rename_i d;split at d
    .exact absurd U<|d _ _ _
    .exact absurd U<|d _ _ _
  |_=>cases a
theorem aax{T:ŷ}(g:nu w):iL (World.tp (kY V w) T 0):=by
 let⟨f,h,d⟩:=g.iY.M;refine⟨?_,λi r e=> ?_⟩
 .have a:(World.tp (kY V w) T 0).heap[2]?=(w.heap[2]?).map (pe V 2):=DK 2;rw[a,d];simp only[Ă,pe,ln];grind
 .let⟨a,b,c⟩:=g.iY.I i r e;exact⟨pw (È U) a,pw (È U) b,pw (È U) c⟩
def apa{T:ŷ}(g:nu w):qg (World.tp (kY V w) T 0):=pw (Ï A) g.N
theorem Ex{T:ŷ}:j5 (World.tp (kY V w) T 0):=λi o h=>Zi (Sh:=V) (w:=w) i o h
theorem apb{l:fc}{q:Qn}{r:Nat}(x:RD s v X l.w)(I:∀b,X b->l.M b)(y:kB nB V l.w)(J:∀b,V b->l.M b)(h:V r)(z:HO r q l.w)(ok:q.Ok)(g:nu l.w)(K:∀b,b=1\/b=2\/b=3\/b=4->l.M b)(j:∀b,X b\/V b->ln b=Ë)(m:List (Nat×fK))(B:kj m=s): DR (λg=>xe g=Î) 67 #[v,Ã<|Â ⟨r,0,Á⟩] l (pv λb=>X b\/V b) λe _=>e=Ä (vy m q):=by
 let⟨L,c,d,D,E,o⟩:=x;have t:=E.I y;refine⟨?_,aat t j g,?_,?_,λT=> ?_⟩
 .rintro b (q|q);all_goals grind
 .intro b a;unfold xe at a;simp at a;exact Ï a
 .refine po λe a=> ?_;simp at a;rcases a with rfl|rfl
  .exact o.fN<|zv λi k=>È<|È k
  .exact fj.jN (Y:=pY (pv λb=>X b\/V b) nB) ⟨⟨U,È<|Ï h⟩,U,U⟩
 .have a:=aau (V:=pv λb=>X b\/V b) (T:=T) t j;obtain⟨F,f,N,n,G,rfl,O,u⟩:=HL a (o.fN<|zv λi k=>È k) D;have i:n=(kj F).length:=by rw[u.r];simp[kj]
  have P:=d.I;have Q:=d.C;rw[f,c]at i;have C:=aoQ (cp:=G) u Z Z (λp H=> ?_) (aaw a ⟨U,Ï h⟩ z) ok (aax g) (ao9 g)<|apa g
  .apply C.mono;rintro e S ⟨rfl,k⟩;exact⟨by rw[aoS<|f.trans<|c.trans B.symm],k.gR Ex⟩
  .have:p.2∈s:=by rw[<-c,<-f];exact Ú.2 ⟨p,H,U⟩
   exact(d.r _ this).1
end
def BY(r:Nat)(v:Int)(x:Nat)(gI:List Tx)(w:Í):Prop:=∃a n c b,BR r v x a n c w/\BL a n b w/\lB b=gI/\n<=1000
section
variable{V:Nat->Prop}{s:List fK}
def aay(h:kB nB X w):∀i,X i->i<w.heap.size:=λi a=>by let⟨c,e,d,b,_⟩:=h i a;exact(á.1 b).1
theorem aaz{T:ŷ}(f:ln b=Ë)(h:w.heap[b]?=Â (Û d e xJ))(i:xJ.2<=d.size):∃a,(World.tp (kY V w) T 0).heap[b]?=Â (Û d e a)/\a.2<=d.size:=by have g:(World.tp (kY V w) T 0).heap[b]?=(w.heap[b]?).map (pe V b):=DK b;rw[g,h];simp only[Ă,pe,f,ì,if_false];grind
def apc{T:ŷ}(h:kB nB X w)(d:∀b,X b->ln b=Ë):kB nB X (World.tp (kY V w) T 0):=λb a=>by let⟨c,e,m,f,g,i⟩:=h b a;let⟨j,k,l⟩:=aaz (V:=V) (T:=T) (d b a) f g;exact⟨c,e,j,k,l,i⟩
def apd{T:ŷ}(k:kB nB X w)(l:∀b,X b->ln b=Ë){r:Nat}{v:Int}{gI:List Tx}(o:X r)(h:BY r v i gI w):BY r v i gI (World.tp (kY V w) T 0):=by
 let⟨D,n,E,F,g,p,G,H⟩:=h;have m:=l r o;refine⟨D,n,E,F,⟨pw (È m) g.M,pw (È m) g.N,pw (È m) g.I⟩,⟨p.r,λj a t q=> ?_⟩,G,H⟩;let⟨tb,I,s,u,d,J⟩:=p.C j a t q;have y:X tb:=by have:=k.r o g.I;rw[s]at this;exact BX this
 have z:=BW<|k.r y u;have f:=l a z;let⟨K,O,B⟩:=d.b;let⟨c,e,P,C,L,_⟩:=k a z;rw[B]at C;cases C;obtain⟨M,N,_⟩:=aaz f B L;exact⟨tb,I,s,pw (È<|l tb y) u,⟨⟨K,M,N⟩,pw (È f) d.r,pw (È f) d.C,pw (È f) d.I,pw (È f) d.M,pw (È f) d.Y,pw (È f) d.N⟩,J⟩
def Rg(s:List fK)(v:Ñ)(u:Í):Prop:=∃X,RD s v X u
def Rg.tp{T:ŷ}(h:Rg s v w):Rg s v (World.tp w T n):=by let⟨X,h⟩:=h;exact⟨X,h.r λ_ _=>rfl⟩
def ape{Y:fq}{d:Nat->Prop}(h:qW Y d u w)(a:fj Y v x)(e:Rg s v u):∃c,RD s x c w/\∀b,c b->∃i,Y i b:=by let⟨X,f⟩:=e;have g:RD s v X {u with tape:=w.tape,drawn:=w.drawn}:=f.r λ_ _=>rfl;let⟨t,j,k,l,m,n⟩:=g;let⟨o,p,q⟩:=HL (zx h) a l;exact⟨_,⟨o,p.trans j,k,q,Ti h m,LW a n⟩,λb ⟨i,_,r⟩=>⟨i,r⟩⟩
theorem apf{l:fc}{r:Nat}{gI:List Tx}(hRD:RD s v X l.w)(hU:∀b,X b->l.M b)(L:kB nB V l.w)(hV:∀b,V b->l.M b)(N:V r)(hq:BY r h m gI l.w)(hx:m<8)(o:-1<=h)(Tm:∀t∈gI,t.Ok)(hn:gI.length<=1000)(g:nu l.w)(hG:∀b,b=1\/b=2\/b=3\/b=4->l.M b)(y:∀b,X b\/V b->ln b=Ë)(B:List (Nat×fK))(H:kj B=s): DR (λg=>xe g=Î) 66 #[v,Ã<|Â ⟨r,0,Á⟩] l (pv λb=>X b\/V b) λz u=>∃p n c,z=ë #[Æ p n c,Ä (sQ B h m gI).2]/\Rg (sT B h m gI) (Æ p n c) u:=by
 let⟨vs,h1,D,h3,O,d⟩:=hRD;have P:=O.I L;refine⟨?_,aat P y g,?_,?_,λT=> ?_⟩
 .rintro b (q|q);all_goals grind
 .intro b u;unfold xe at u;simp at u;exact Ï u
 .refine po λh o=> ?_;simp at o;rcases o with rfl|rfl
  .exact d.fN<|zv λi j=>È<|È j
  .exact fj.jN (Y:=pY (pv λb=>X b\/V b) nB) ⟨⟨U,È<|Ï N⟩,U,U⟩
 .have f:=apc (V:=pv λb=>X b\/V b) (T:=T) O λb q=>y b<|È q;obtain⟨z,k1,Q,n,S,rfl,W,E⟩:=HL (aau (V:=pv λb=>X b\/V b) (T:=T) P y) (d.fN<|zv λi j=>È j) h3;obtain⟨tp,tn,tc,a,q1,q2,rfl,q4⟩:=(apd (V:=pv λb=>X b\/V b) (T:=T) L (λb q=>y b<|Ï q) N hq);have c:=k1.trans h1;have hlen:n=s.length:=by rw[E.r,<-c];simp[kj]
  have atm:=D.I;have hle:=D.C;have pW:j5 (World.tp (kY (pv λb=>X b\/V b) l.w) T 0):=Ex;have C:=anl E Z Z W (λp I=>by
   have:p.2∈s:=by rw[<-c];exact Ú.2 ⟨p,I,U⟩
   have:=(D.r _ this).2.2.2;omega) q1 q2 q4 (aax g) hx o
  have u:sT z h m (lB a)=sT B h m (lB a):=by unfold sT;rw[aal<|c.trans H.symm,c,H]
  have F:lq (sT z h m<|lB a):=lq.M (by rwa[c]) Tm hn;have ha:=aal (c.trans H.symm) h m<|lB a;generalize World.tp (kY (pv λb=>X b\/V b) l.w) T 0=G at*;refine C.mono ?_;rintro e u' ⟨k,hA⟩;rcases hA with⟨J,rfl⟩|⟨nv,b,sJ,J,rfl,e3,e4,gb,gn,gc,rfl,e6⟩
  .refine⟨⟨Q,n,S,by rw[ha],?_⟩,k.gR pW⟩;rw[<-u];have K:sT z h m (lB a)=s:=by unfold sT;rw[J,c];simp
   rw[K]at F|-;exact⟨X,z,c,F,⟨Q,n,S,U,W,E.I k⟩,f.C λi j=>k.N i (aay f i j) id,d⟩
  .let⟨i,m1,m2,m3,_⟩:=ao2 f k (aay f) e4 e6 λp I=>by
    let⟨j,hj⟩:=ė I;let⟨sb,so,f1,f2,_⟩:=E.C j p.1 p.2 hj;have:X sb:=by rw[f1]at d;exact BX d
    exact BW<|f.r this f2
   refine⟨⟨Â ⟨gb,0,Á⟩,gn,gc,by rw[ha],?_⟩,k.gR pW⟩;rw[<-u];have K:sT z h m (lB a)=kj (z++[(b,nv)]):=by unfold sT;rw[J];simp[kj]
   rw[K]at F|-;exact⟨i,_,U,F,e3,m3,fj.kC (Y:=k9 i nB) ⟨⟨U,m2⟩,U,U⟩ gn gc⟩
end
structure vz where
 r:Nat->Int×Nat×List Tx
 C:Nat->Qn
def xy(s:List fK):List (Nat×fK):=s.map λv=>(0,v)
theorem LY(s:List fK):kj (xy s)=s:=by simp[kj,xy,Function.comp_def]
def Ey(s:List fK)(i:Int×Nat×List Tx):List fK:=sT (xy s) i.1 i.2.1 i.2.2
def py(a:vz)(I:List Nat)(b:List fK):Nat->List fK
 |0=>b
 |k+1=>Ey (py a I b k)<|a.r<|I.getD k 0
def xA(a:vz)(kd:Nat->Int)(p:Nat)(s:List fK):ByteArray:=if kd p=1 then(sQ (xy s) (a.r p).1 (a.r p).2.1 (a.r p).2.2).2 else vy (xy s) (a.C p)
def iA(e:fc)(a:Nat->Prop)(c:vz)(kd:Nat->Int)(R:Nat)(d:List fK)(f:Nat->Prop):xd where
 γ:=List fK
 C:=d
 M:=λk s g=>g=Ey s (c.r<|(hD kd R).getD k 0)
 RD:=λs h V w=>RD s h V w/\∀b,V b->a b\/e.w.heap.size<=b
 I:=λp=>xA c kd p<|py c (hD kd R) d<|fL kd p
 r:=f
def Tn{kd:Nat->Int}:∀(R k:Nat),k<(hD kd R).length->fL kd ((hD kd R).getD k 0)=k
 |0,k,h=>by simp[hD]at h
 |R+1,k,h=>by
  by_cases q:kd R=1
  .rw[sI q]at h|-;rcases Nat.lt_or_ge k (hD kd R).length with z|z
   .have e:(hD kd R++[R]).getD k 0=(hD kd R).getD k 0:=by simp[Ġ,Ħ z]
    rw[e];exact Tn R k z
   .have e:k=(hD kd R).length:=by simp at h;omega
    subst e;simp[Ġ,fL]
  .rw[vm q]at h|-;exact Tn R k h
section
variable{y:Nat->Prop}
def LZ(h:kB nB y w)(g:nu w):∀b,y b->ln b=Ë:=λb i=>by
 let⟨c,e,m,f,_,_,_,_,j,k⟩:=h b i;cases d:ln b with
 |false=>rfl
 |true=>
  unfold ln at d;simp at d;rcases d with rfl|rfl
  .let⟨l,qn,a,_⟩:=g.I;rw[f]at a;cases a;exact absurd U j
  .let⟨l,qn,a,_⟩:=g.C;rw[f]at a;cases a;exact absurd U k
def apg(p:kB nB X w)(k:∀b,X b->u.heap[b]?=w.heap[b]?){r:Nat}{gI:List Tx}(g:X r)(h:BY r c i gI w):BY r c i gI u:=by
 have d:∀{b o:Nat} {z:Ñ},X b->w.cell? ⟨b,o,Á⟩=Â z->u.cell? ⟨b,o,Á⟩=Â z:=λ{b o z} l q=>by simp only[ß,k b l];exact q
 let⟨C,n,D,E,m,s,F,G⟩:=h;refine⟨C,n,D,E,⟨d g m.M,d g m.N,d g m.I⟩,⟨s.r,λj a t q=> ?_⟩,F,G⟩;let⟨tb,H,y,B,e,I⟩:=s.C j a t q;have l:X tb:=by have:=p.r g m.I;rw[y]at this;exact BX this
 have f:=BW<|p.r l B;let⟨J,K,L⟩:=e.b;exact⟨tb,H,y,d l B,⟨⟨J,K,by rwa[k a f]⟩,d f e.r,d f e.C,d f e.I,d f e.M,d f e.Y,d f e.N⟩,I⟩
end
structure HP(l0:fc)(bt:vz)(kd:Nat->Int)(rq:Nat->Nat)(R:Nat)(Q:Nat->Prop):Prop where
 M:nu l0.w
 I:∀b,b=1\/b=2\/b=3\/b=4->l0.O b
 C:kB nB Q l0.w
 fl:∀b,Q b->l0.O b
 r:∀p,p<R->Q (rq p)
 kF:∀p,p<R->kd p=1->BY (rq p) (bt.r p).1 (bt.r p).2.1 (bt.r p).2.2 l0.w/\(bt.r p).2.1<8/\-1<=(bt.r p).1/\(∀t∈(bt.r p).2.2,t.Ok)/\(bt.r p).2.2.length<=1000
 Ry:∀p,p<R->kd p≠1->HO (rq p) (bt.C p) l0.w/\(bt.C p).Ok
def aaA{V:Nat->Prop}{l:fc}{a:Ñ->Í->Prop}(h:DR X F d l V vQ)(b:∀v u,vQ v u->a v u):DR X F d l V a:= ⟨h.N,h.S,h.I,h.r,λT=>(h.C T).mono λe u q=>by
  cases e with
  |returned v=>exact⟨b v u q.1,q.2⟩
  |_=>exact q⟩
section
variable{l0:fc}{bt:vz}{kd:Nat->Int}{rq:Nat->Nat}{R:Nat}{Q C d:Nat->Prop}{B:List fK}{E F:Option ù}
def aaB{s:List fK}(h:fA.mY ((kz (iA l0 d bt kd R B C) i n R kd rq D E F j9 j7 k m J j qX l0).r À) b s):s=py bt (hD kd R) B b:=by
 have c:∀(b:Nat) (s:((kz (iA l0 d bt kd R B C) i n R kd rq D E F j9 j7 k m J j qX l0).r À).γ),fA.mY ((kz (iA l0 d bt kd R B C) i n R kd rq D E F j9 j7 k m J j qX l0).r À) b s->s=py bt (hD kd R) B b:=λb s h=>by
  induction h with
  |uW=>rfl
  |Cz _ a e=>
   rwa[e]at a
 exact c b s h
def aph(h:HP l0 bt kd rq R Q)(N:l0.w.heap.size<=m):Dz (kz (iA l0 d bt kd R B C) i n R kd rq D E F j9 j7 k m J j qX l0):=by
 apply aj2 xO Zo Zn U;intro a s O W l q t f x y P g G;let⟨f,S⟩:=f;have T:=y.fu m<|g m<|Ï U;have H:l0.w.heap.size<=l.w.heap.size:=Z
 have o:=G;have p:=h.M.r (Ì h.M.fu H) λb c=>o b<|h.I b c;have r:=h.C.C λb c=>o b<|h.fl b c;have e:=G3<|vt q;let⟨I,K⟩:=h.Ry _ e.1 e.2;refine⟨_,aaA (apb f x r (λb c=>g b<|È<|h.fl b c) (h.r _ e.1) (aaw (aav h.C λb c=>o b<|h.fl b c) ⟨U,h.r _ e.1⟩ I) K p (λb c=>g b<|È<|h.I b c) (λb c=>c.elim (LZ (by let⟨_,_,_,_,z,_⟩:=f;exact z) p b)<|LZ r p b) (xy s)<|LY s) λv u L=> ?_⟩;rw[L];have z:=aaB t;have M:(kz (iA l0 d bt kd R B C) i n R kd rq D E F j9 j7 k m J j qX l0).b a=fL kd ((jv kd R).getD a 0):=if_pos q;rw[M]at z;show _=Ä (xA bt kd ((jv kd R).getD a 0)<|py bt (hD kd R) B<|fL kd<|(jv kd R).getD a 0);rw[<-z];unfold xA;rw[if_neg e.2]
theorem apj(h:HP l0 bt kd rq R Q)(hZ:(∀b,Q b->d b)/\∀b,b=1\/b=2\/b=3\/b=4->d b)(YL:l0.w.heap.size<=m):Dy (kz (iA l0 d bt kd R B C) i n R kd rq D E F j9 j7 k m J j qX l0):=by
 refine aj3 xO Zo Zn U (λs o u=>Rg s o u) (λs o u T n q=>Rg.tp q) ?_;intro T s o W l H I g K L hq r M;let⟨g,On⟩:=g;have hs:=L.fu m<|r m<|Ï U;have N:l0.w.heap.size<=l.w.heap.size:=Z
 have t:=M;have x:=h.M.r (Ì h.M.fu N) λb a=>t b<|h.I b a;have y:=h.C.C λb a=>t b<|h.fl b a;have G:=H;have f:=G2<|vt G;let⟨O,P,S,V,X⟩:=h.kF _ f.1 f.2;refine⟨_,aaA (apf g K y (λb a=>r b<|È<|h.fl b a) (h.r _ f.1) (apg h.C (λb a=>t b<|h.fl b a) (h.r _ f.1) O) P S V X x (λb a=>r b<|È<|h.I b a) (λb a=>a.elim (LZ (by let⟨_,_,_,_,z,_⟩:=g;exact z) x b)<|LZ y x b) (xy s)<|LY s) λv u hv=> ?_,?_⟩
 .obtain⟨p,z,c,rfl,Y⟩:=hv;refine⟨p,z,c,Ey s<|bt.r<|(hD kd R).getD T 0,?_,U,Y⟩;have e:(kz (iA l0 d bt kd R B C) i n R kd rq D E F j9 j7 k m J j qX l0).e (T+1)=xA bt kd ((hD kd R).getD T 0) (py bt (hD kd R) B<|fL kd<|(hD kd R).getD T 0):=U;rw[e,Tn R T G,<-(aaB I)];unfold xA;rw[if_pos f.2]
 .intro Y Sh u w s' Zc yP e p h3 h4;let⟨V',k1,c⟩:=ape e p h3;refine⟨V',⟨k1,λb a=> ?_⟩,c⟩;let⟨z,hi⟩:=c b a;rcases h4 z b hi with((q|q)|q)|q;all_goals grind
end
section
variable{R:Nat}{kd:Nat->Int}{o:Nat->Nat}{r:List ď}{l:fc}{u:Nat->fc}{bt:vz}{j f:Nat->Prop}{s0:List fK}
def apk{s:List fK}(h:yR (iA l f bt kd R s0 j) k s):s=py bt (hD kd R) s0 k:=by
 have b:∀(k:Nat) (s:(iA l f bt kd R s0 j).γ),yR (iA l f bt kd R s0 j) k s->s=py bt (hD kd R) s0 k:=λk s h=>by
  induction h with
  |uW=>rfl
  |Cz _ a c=>
   rwa[c]at a
 exact b k s h
structure zy(f:Nat->Prop)(bt:vz)(R:Nat)(kd:Nat->Int)(s0:List fK)(l:fc)(an:Nat)(sl:Ñ)(l':fc):Prop where
 M:∀b,l.O b->l'.O b/\l'.w.heap[b]?=l.w.heap[b]?
 r:l'.O an/\∀p,p<R->l'.w.cell? ⟨an,p,Á⟩=Â (Ä<|xA bt kd p<|py bt (hD kd R) s0<|fL kd p)
 Y:∃V,RD (py bt (hD kd R) s0<|fL kd R) sl V l'.w/\∀b,V b->l'.O b/\(f b\/l.w.heap.size<=b)
 d:l'.d=0
 q:¬l'.q
 S:∀b,¬l'.I b
 C:(∀a,¬l'.r a)/\(∀a,¬l'.N a)/\∀a,¬l'.K a
 I:l'.w.cell? ⟨an,R,Á⟩=Á/\kN l'.w an=Â (0,0)
def apl{a:fc}(h:Fg (iA l f bt kd R s0 j) R kd l i v a):zy f bt R kd s0 l i v a:=by let⟨s,V,g,c,k⟩:=h.G4;have e:=apk g;subst e;exact⟨h.u5,h.kv,⟨V,c.1,λb q=>⟨k b q,c.2 b q⟩⟩,h.d,h.q,h.rd,h.DF,h.Cj⟩
def apm{J:(Loc->Prop)->Nat->Jd}{F:ď}(P:qX=F.at y (Ð Q (j9::jJ)::L)::r)(c:fA.rA À zX i (KG kd o R n v l qX) .fB D u E w qJ)(C:Option (Nat×Nat))(s:gw l)(S:∀b,¬l.I b)(W:¬l.q)(Y:l.d=0)(L0:vu zX i l)(H:HP l bt kd o R X)(hZ:(∀b,X b->f b)/\∀b,b=1\/b=2\/b=3\/b=4->f b)(I:∀b,f b->l.O b)(K:∀b,j b->f b)(Bv:RD s0 v j l.w)(xb:w.os=l.w.os/\w.output=l.w.output)(hn:1<=n)(hs:n+R<1000) (hJ:∀t x z B p m c,vu t x z->gw z->zy f bt R kd s0 l B (Æ p m c) z->fA.fi À Î (J t x) z (G (F.at (y.put ((Q[j9]?).bind (·.dst))<|ë #[Æ (Â ⟨B,0,Á⟩) R R,Æ p m c])<|Ð Q jJ::L) r)): ∃N t x T V G5 g e sJ h,ſ À N (Į E w C) qJ=(.next<|Į g e sJ,h)/\(e.os=l.w.os/\e.output=l.w.output)/\fA.rA À t x (J t x) T V G5 g e h:= ajV (M:=iA l f bt kd R s0 j) P c C s S W Y L0 (λb q=>I b<|K b q) (λs C V w e h L=>⟨h.1.r L,h.2⟩) (λs C V w h=>⟨by let⟨_,_,_,⟨g,n,N,e,_⟩,_⟩:=h.1;exact⟨g,n,N,e⟩,λb q=>(h.2 b q).imp (I b) id⟩) ⟨Bv,λb h=>È<|K b h⟩ xb hn hs (λg N V T cq B ba bi all e=>⟨apj H hZ e,aph H e⟩) λt x z B p m c e g N=>hJ t x z B p m c e g<|apl N
end
end Go.Proofs.Y.lZ
namespace Go.Proofs.Y.sU
open Go Go.Proofs Go.RowKit Go.Proofs.Y.Lift Go.Proofs.Y.iC
def jL(c:Int):Bool:=decide (48<=c)&&decide (c<=57)
def rK(c:Int):Bool:=decide (97<=c)&&decide (c<=104)
def uD(c:Int):Int:=
 if c=105 then 1 else if c=103 then 2 else if c=98 then 3 else if c=99 then 4 else if c=109 then 5
 else if c=114 then 6 else if c=108 then 7 else if c=117 then 8 else if c=100 then 9 else 0
def HQ(c:Int):Int:=if c=62 then 1 else if c=123 then 2 else if c=58 then 3 else 0
theorem Ez(c:Int):jL c=Î↔(48<=c/\c<=57):=by simp[jL]
def apn(c:Int):rK c=Î↔(97<=c/\c<=104):=by simp[rK]
def qL(k:Int):List Int:=
 if k=1 then[86,58,120,47,66]else if k=2 then[86,58,120,115]else if k=3 then[86,58,120]
 else if k=4 then[86,58,120,62,121,40,110,44,107,41]else if k=5 then[86,58,120,62,121,40,107,41]
 else if k=9 then[86,58,87]else[86]
def rL(k:Int):List Int:=
 if k=1 then[121,61,110]else if k=2 then[80]else[121,40,110,44,107,41]
def oL(a c:Int):Bool:=
 if a=86\/a=87 then c==104||jL c
 else if a=110\/a=107 then jL c
 else if a=120\/a=121 then rK c
 else if a=115 then jL c||(decide (97<=c)&&decide (c<=102))
 else c==a
def rM(a c:Int):Int:=
 if c=48\/jL c=Ë then 0
 else if a=86\/a=87 then 1
 else if a=110\/a=107 then 5
 else 0
def jU(s:ByteArray):List Int:=s.data.toList.map λc=>((c.toNat:Nat):Int)
def apo(B:ByteArray)(k:Nat)(h:k<B.size):(jU B).drop k=((B[k].toNat:Nat):Int)::(jU B).drop (k+1):=by
 have a:k<(jU B).length:=by simpa[jU]using h
 rw[List.drop_eq_getElem_cons a];congr 1;simp[jU,ċ]
theorem To(B:ByteArray):(jU B).length=B.size:=by unfold jU;simp_all
theorem vA(s:ByteArray)(h:0<s.size):jU s=((s[0].toNat:Nat):Int)::(jU s).tail:=by have:=apo s 0 h;grind
theorem aaC(s:ByteArray)(h:s.size=0):jU s=[]:=by grind [Ý,To]
def apq(s:ByteArray):jU (s.extract 1 s.size)=(jU s).tail:=by unfold jU;rw[Ĳ,ĺ,<-List.map_tail];congr 1;rw[ħ,<-List.drop_one];apply List.take_of_length_le;simp_all
theorem apr(s:ByteArray)(h:s.size<=10):(s.extract 1 s.size).size<=10:=by grind [č]
theorem aps(a c:Int):0<=rM a c/\rM a c<=5:=by unfold rM;grind
structure PT where
 c:List Int
 p:ByteArray
structure PR where
 c:List Int
 r:List PT
structure PD where
 S:List PR
 r:Bool
 I:PR
 M:Bool
 N:PT
structure PS where
 C:List Int
 r:Int
 I:Int
 M:Int
 d:PD
namespace PD
def Y(d:PD):List PT:=if d.M then d.I.r++[d.N]else d.I.r
def C(d:PD):List PR:=if d.r then d.S++[⟨d.I.c,d.Y⟩]else d.S
def oM(d:PD)(i:Nat)(z:Int):PD:={d with I:={d.I with c:=d.I.c.set i z}}
def pz(d:PD)(i:Nat)(z:Int):PD:={d with N:={d.N with c:=d.N.c.set i z}}
def jM(d:PD)(i:Nat)(z:Int):PD:=if d.M then d.pz i z else d.oM i z
def oN(d:PD)(p:ByteArray):PD:={d with N:={d.N with p:=p}}
def Ew:PT:=⟨[0,0,0,0,0],⟨#[]⟩⟩
def aaD(k:Int):PR:=⟨[0,0,0,0,k,0,0,0],[]⟩
def nz(d:PD):PD:={d with I:=⟨d.I.c,d.Y⟩,M:=Î,N:=Ew}
def EA(d:PD)(k:Int):PD:={S:=d.C,r:=Î,I:=aaD k,M:=Ë,N:=d.N}
def fY(d:PD)(a z:Int):PD:=
 if a=86 then d.oM 5 z else if a=87 then d.oM 6 z else if a=120 then d.jM 0 z else if a=121 then d.jM 1 z
 else if a=110 then d.jM 2 z else if a=107 then d.jM 3 z else if a=115 then d.oM 7 z else d
def vB(d:PD)(i:Nat):Int:=if d.M then d.N.c.getD i 0 else d.I.c.getD i 0
def G(d:PD)(a:Int):Int:=if a=86 then d.I.c.getD 5 0 else if a=87 then d.I.c.getD 6 0 else if a=110 then d.vB 2 else d.vB 3
end PD
def nW(a c:Int):Int:=
 if a=120\/a=121 then Þ [97,98,99,100,101,102,103,104] c.toNat.toUInt8
 else if a=115 then Þ [48,49,50,51,52,53,54,55,56,57,97,98,99,100,101,102] c.toNat.toUInt8
 else if c=104 then-1 else(c-48)%256
def sV(z c:Int):Int:=É.wrap<|É.wrap (z*10)+(c-48)%256
def pA(st:PS)(c:Int):Option PS:=
 if c=59/\st.d.S.length+1<24 then Â {st with C:=[82]}
 else if c=44/\0<st.d.Y.length/\st.d.Y.length<8 then Â {st with C:=[120,84],d:=st.d.nz}
 else Á
def vC(st:PS)(k:Int):Option PS:=if k=0 then Á else Â {st with C:=qL k,d:=st.d.EA k}
def vD(st:PS)(k:Int):Option PS:=if k=0 then Á else Â {st with C:=rL k,I:=0,d:=st.d.pz 4 k}
def oh(st:PS)(a c:Int):PS:={st with r:=rM a c,M:=a,d:=st.d.fY a (nW a c)}
def kJ(B:ByteArray)(k:Nat)(st:PS)(c:Int):Option PS:=
 match st.C with
 |[]=>pA st c
 |want::tl=>
  if want=82 then vC st (uD c)
  else if want=66 then
   if rK c=Î then Â (oh {st with C:=[84],d:=st.d.nz} 120 c)else pA st c
  else if want=84 then vD st (HQ c)
  else if want=80 then
   if c=125 then Â {st with C:=tl,d:=st.d.oN (B.extract (k-st.I.toNat) k)}
   else if st.I=40\/lL c=0 then Á else Â {st with I:=st.I+1}
  else if oL want c=Î then Â {oh st want c with C:=tl}
  else Á
def EB(st:PS)(c:Int):PS:={st with r:=st.r-1,d:=st.d.fY st.M (sV (st.d.G st.M) c)}
def nA(B:ByteArray)(k:Nat)(st:PS)(c:Int):Option PS:=
 if 0<st.r/\jL c=Î then Â (EB st c)else kJ B k {st with r:=0} c
def om(B:ByteArray):Nat->Nat->PS->Nat×PS
 |0,k,st=>(k,st)
 |f+1,k,st=>if h:k<B.size then match nA B k st (B[k].toNat:Int)with
  |none=>(k,st)
  |some a=>om B f (k+1) a
  else(k,st)
def pd0:PD:=⟨[],Ë,⟨[],[]⟩,Ë,⟨[],⟨#[]⟩⟩⟩
def mO:PS:=⟨[82],0,0,0,pd0⟩
def rN(c:Int)(w:Í): Ò À 94 #[Å ū c] w λe a=>e=Ç (õ<|jL c)/\a=w:=by
 go_enter Tryz.func94,Tryz.ntmps94;go_wp2;all_goals go_ret
 all_goals exact⟨Zt (by simp only[jL];first|(simp[*];done)|(rw[Ě];simp;omega)),U⟩
def apt(s:ByteArray)(c:Int)(w:Í): Ò À 167 #[Ä s,Å ū c] w λe a=>e=Ç (Å É<|Þ s.data.toList c.toNat.toUInt8)/\a=w:=by go_enter Tryz.func167,Tryz.ntmps167;go_wp2;rw[run_callFunc_extern Tryz.func185 ft ft ft ft,Lib.run_indexByteString];simp only[ų];rw[Oper.upon_value];go_wp2;go_ret;exact⟨U,U⟩
def HR(s:ByteArray)(c:Int)(w:Í): Ò À 146 #[Ä s,Å ū c] w λe a=>e=Ç (Å É<|Þ s.data.toList c.toNat.toUInt8)/\a=w:=by go_enter Tryz.func146,Tryz.ntmps146;go_wp2_with (go_at_call 167;refine(apt _ _ _).mono ?_;rintro e a ⟨rfl,rfl⟩);go_ret;exact⟨U,U⟩
def L3(c:Int):Bool:=jL c||(decide (97<=c)&&decide (c<=102))
def apu:∀n:Fin 256,decide (0<=Þ [97,98,99,100,101,102,103,104] n.val.toUInt8)=rK (n.val:Int):=by decide+kernel
def apv:∀n:Fin 256,decide (0<=Þ [48,49,50,51,52,53,54,55,56,57,97,98,99,100,101,102] n.val.toUInt8)=L3 (n.val:Int):=by decide+kernel
def apw(a:0<=c)(b:c<256):decide (0<=Þ [97,98,99,100,101,102,103,104] c.toNat.toUInt8)=rK c:=by have:=apu ⟨c.toNat,Z⟩;rwa[show((c.toNat:Nat):Int)=c from by omega]at this
def apx(a:0<=c)(b:c<256):decide (0<=Þ [48,49,50,51,52,53,54,55,56,57,97,98,99,100,101,102] c.toNat.toUInt8)=L3 c:=by have:=apv ⟨c.toNat,Z⟩;rwa[show((c.toNat:Nat):Int)=c from by omega]at this
def Tp(c:Int)(b:0<=c)(d:c<256)(w:Í): Ò À 98 #[Å ū c] w λe a=>e=Ç (õ<|rK c)/\a=w:=by
 have f:=apw b d;go_enter Tryz.func98,Tryz.ntmps98;go_wp2_with (go_at_call 146;refine(HR _ _ _).mono ?_;rintro e a ⟨rfl,rfl⟩);all_goals go_ret
 all_goals exact⟨U,U⟩
def apy(c:Int)(b:0<=c)(d:c<256)(w:Í): Ò À 149 #[Å ū c] w λe a=>e=Ç (õ<|L3 c)/\a=w:=by
 have f:=apx b d;go_enter Tryz.func149,Tryz.ntmps149;go_wp2_with (go_at_call 146;refine(HR _ _ _).mono ?_;rintro e a ⟨rfl,rfl⟩);all_goals go_ret
 all_goals exact⟨U,U⟩
def apz(c:Int)(w:Í): Ò À 102 #[Å ū c] w λe a=>e=Ç (Å É<|HQ c)/\a=w:=by
 go_enter Tryz.func102,Tryz.ntmps102;go_wp2;all_goals go_ret
 all_goals refine⟨DX ?_,U⟩
 all_goals simp only[beq_iff_eq,beq_eq_false_iff_ne,ne_eq]at*
 all_goals simp[HQ, *]
def apA(c:Int)(w:Í): Ò À 97 #[Å ū c] w λe a=>e=Ç (Å É<|uD c)/\a=w:=by
 go_enter Tryz.func97,Tryz.ntmps97;go_wp2;all_goals go_ret
 all_goals refine⟨DX ?_,U⟩
 all_goals simp only[beq_iff_eq,beq_eq_false_iff_ne,ne_eq]at*
 all_goals simp[uD, *]
def aaE(b c:Int)(d:0<=c)(f:c<256)(w:Í): Ò À 104 #[Å ū b,Å ū c] w λe a=>e=Ç (õ<|oL b c)/\a=w:=by
 go_enter Tryz.func104,Tryz.ntmps104;go_wp2_with (first|(go_at_call 94;refine(rN _ _).mono ?_;rintro e a ⟨rfl,rfl⟩)|(go_at_call 98;refine(Tp _ d f _).mono ?_;rintro e a ⟨rfl,rfl⟩)|(go_at_call 149;refine(apy _ d f _).mono ?_;rintro e a ⟨rfl,rfl⟩));all_goals go_ret
 all_goals refine⟨Zt ?_,U⟩
 all_goals try go_light
 all_goals simp only[beq_iff_eq,beq_eq_false_iff_ne,ne_eq]at*
 all_goals unfold oL
 all_goals first|(simp[L3, *];done)|(rw[Ě];simp[*];done)|(rw[Ě];simp[*];omega)
def apB(k:Int)(w:Í): Ò À 145 #[Å É k] w λe a=>(∃b:ByteArray,e=Ç (Ä b)/\b.size<=10/\jU b=qL k)/\a=w:=by
 go_enter Tryz.func145,Tryz.ntmps145;go_wp2;all_goals go_ret
 all_goals refine⟨⟨_,U,?_,?_⟩,U⟩
 all_goals try go_light
 all_goals simp only[beq_iff_eq,beq_eq_false_iff_ne,ne_eq]at*
 all_goals first|(simp[jU,qL, *];done)|decide
def apC(k:Int)(w:Í): Ò À 148 #[Å É k] w λe a=>(∃b:ByteArray,e=Ç (Ä b)/\b.size<=10/\jU b=rL k)/\a=w:=by
 go_enter Tryz.func148,Tryz.ntmps148;go_wp2;all_goals go_ret
 all_goals refine⟨⟨_,U,?_,?_⟩,U⟩
 all_goals try go_light
 all_goals simp only[beq_iff_eq,beq_eq_false_iff_ne,ne_eq]at*
 all_goals first|(simp[jU,rL, *];done)|decide
def mP(m s:Nat):Ñ->Prop
 |Å ū _=>False
 |Å _ _=>True
 |õ _=>True
 |Ä _=>True
 |Ã Á=>True
 |Ã (Â a)=>m<=a.block/\a.block<s
 |Æ Á _ _=>True
 |Æ (Â a) _ _=>m<=a.block/\a.block<s
 |_=>False
def mP.r(h:mP m i v)(d:i<=n):mP m n v:=by
 cases v with
 |int k b=>cases k<;>exact h
 |pointer a=>cases a with
  |none=>trivial
  |some a=>exact⟨h.1,Ģ h.2 d⟩
 |slice a b c=>cases a with
  |none=>trivial
  |some a=>exact⟨h.1,Ģ h.2 d⟩
 |_=>exact h
def L4(m s:Nat)(o:Obj):Prop:=∃c e a,o=Û c e a/\a.2<=c.size/\0<c.size/\e≠304/\e≠305/\∀v∈c.toList,mP m s v
def jy(m:Nat)(w:Í):Prop:=∀i o,m<=i->w.heap[i]?=Â o->L4 m w.heap.size o
def L4.r{o:Obj}(h:L4 m i o)(a:i<=n):L4 m n o:=by let⟨c,e,b,d,f,g,j,k,l⟩:=h;exact⟨c,e,b,d,f,g,j,k,λv p=>(l v p).r a⟩
def jy.I(w:Í):jy w.heap.size w:=λi o a h=>by rw[ı a]at h;cases h
def jy.fR(h:jy m w):jy m w.drew:=h
def jy.iP(h:jy m w)(n:Nat):jy m (w.drewN n):=h
theorem jy.gG(h:jy m w)(cs:Array Ñ)(t:Ď)(c:0<cs.size)(b:t≠304/\t≠305)(d:∀v∈cs.toList,mP m w.heap.size v):jy m (w.alloc<|Û cs t):=by
 intro i o f a;have k:(w.alloc<|Û cs t).heap.size=w.heap.size+1:=fp
 by_cases e:i<w.heap.size
 .rw[Š _ _ _ e]at a;exact(h i o f a).r Z
 .by_cases g:i=w.heap.size
  .subst g;rw[Ŵ]at a;cases a;exact⟨cs,t,(0,0),U,Ø _,c,b.1,b.2,λv j=>(d v j).r Z⟩
  .grind
def jy.r(h:jy m w)(p:ù)(l:mP m w.heap.size v):jy m (w.setCell p v):=by
 intro i o f a;have n:(w.setCell p v).heap.size=w.heap.size:=fp
 rw[n];by_cases e:i=p.block
 .subst e;unfold Ż at a;simp only[Ķ,if_true]at a;cases d:w.heap[p.block]? with
  |none=>rw[d]at a;cases a
  |some x=>
   rw[d]at a;obtain⟨c,e,r,rfl,g,j,s,t,k⟩:=h _ _ f d;simp only[Ă,Ô]at a;subst a;refine⟨_,e,r,U,?_,?_,s,t,λu b=> ?_⟩
   .split
    .exact g
    .rwa[Ĭ]
   .split
    .exact j
    .rwa[Ĭ]
   .split at b
    .exact k u b
    .rw[Array.toList_setIfInBounds]at b;rcases Ĩ b with q|q
     .exact k u q
     .rwa[q]
 .rw[ģ _ _ _ _ (by simpa using e)]at a;exact h i o f a
theorem apD{ty:Ď}{bytes base:Nat}(y:P.underlying t=Â (.slice e))(B:P.info? e=Â zJ)(G:zJ.zero=Â (Ã Á)) (s:zJ.size=1) (H:zJ.bytes=bytes) (f:w.ownsRow base e 1 v n l) (a:ù) (c:Nat) (C:∀j M,[z][j]?=Â M->w.cell? (a.add j)=Â M) (N:z.oneCell'=Î) (O:n+1<=Ē) (I:(n+1)*bytes<=140737488355328) (W:base<=w.heap.size) (X:lT e=Ë) (hm:m<=base) (D:jy m w) (hg:mP m w.heap.size z) (Y:e≠304/\e≠305): ∃h u,(ę #[t,t] ty #[v,Æ (Â a) 1 c]).run P w=.ok h u/\pZ w base e 1 v n l 1 [z] h u/\jy m u/\mP m u.heap.size h:=by
 obtain⟨h,u,J,E⟩:=RO y B G s H U f a c [z] Z U C (λx b=>by simp at b;subst b;exact N) O I W<|È X;have hgv:mP m u.heap.size h:=by
  obtain⟨p,o,rfl⟩:=jf E.fl;cases p with
  |none=>trivial
  |some p=>
   have k:=E.fl.lt p.block (by rcases E.fl.2 with⟨q,_⟩|⟨g,r,d,q,_⟩<;>(cases q;try rfl));exact⟨Z,k.2⟩
 refine⟨h,u,J,E,?_,hgv⟩;have q:[z].length=1*zJ.size:=by rw[s];rfl
 have hlx:l.length=n*zJ.size:=by rw[s];exact f.1
 have ako:n+1<=9223372036854775807:=by simp only[Ē]at O;omega
 have tE:∀x∈l,mP m w.heap.size x:=λx b=>by
  rcases f.2 with⟨_,rfl⟩|⟨g,r,d,rfl,hbg,p,hnc,hcm,Q,htake⟩
  .grind
  .let⟨c2,e2,qn,S,_,_,_,_,q6⟩:=D g _ Z p;grind
 have gr:∀T,jy m (w.drew.alloc<|Û (l.toArray++[z].toArray++φ (Ĺ<|Ã Á) (grownCap w (n+1) T e-(n+1))) e):=λT=>by
  refine jy.gG D _ _ (by simp;omega) Y λx b=> ?_;simp only[Array.toList_append,â]at b;rcases b with(b|b)|b
  .exact tE x b
  .grind
  .have:=RN b;simp[Ĺ]at this;subst this;trivial
 rcases f.2 with⟨rfl,rfl⟩|⟨g,r,d,rfl,hbg,p,hnc,hcm,Q,htake⟩
 .have b:=Ý (by simpa using f.1);subst b;have K:=run_append_nil w t ty e zJ (Ã Á) y B G a 1 c [z] q C Z Z (by rw[H];have k:=I;simp only[œ]at k;omega);grind
 .by_cases apE:n+1<=r
  .have RP:n*zJ.size+[z].length<=d.size:=by rw[q,Q,s];omega
   have K:=run_append_room w t ty e zJ y B g n r d p a 1 c [z] q C (λx b=>by simp at b;subst b;exact N) apE RP;rw[K]at J;cases J;have apF:=setRow_heap w g d (d.toList.take (n*zJ.size)++[z]++d.toList.drop (n*zJ.size+[z].length)).toArray e _ p;have apG:=λk (L:k≠g)=>setRow_other w g k (d.toList.take (n*zJ.size)++[z]++d.toList.drop (n*zJ.size+[z].length)).toArray L;let⟨c2,e2,qn,S,q2,q3,q4,q5,q6⟩:=D g _ Z p;cases S;intro k o L F;have jS:(w.setRow g (d.toList.take (n*zJ.size)++[z]++d.toList.drop (n*zJ.size+[z].length)).toArray).heap.size=w.heap.size:=fp
   rw[jS];by_cases V:k=g
   .subst V;rw[apF]at F;cases F;refine⟨_,_,_,U,fp,(by simp;omega),q4,q5,λx b=> ?_⟩;grind
   .rw[apG k V]at F;exact D k o L F
  .have k:w.ownsRow base e zJ.size (Æ (Â ⟨g,0,Á⟩) n r) n l:=by rwa[s]
   have K:=run_append_grow w t ty e zJ (Ã Á) y B G ⟨g,0,Á⟩ n r l hlx (k.cells U) a 1 c [z] q C Z Z (by rw[H];exact growslice_fits Z I);grind
def aaF{f:Array ğ}{E:Prop}{base:Nat} (k:o.guard=Á) (s x:Operand) (t:Ď) (p:o.op=Op.call {callee:=Callee.builtin κ,args:=#[s,x],argTypes:=#[t,t]}) {bytes:Nat} (q:P.underlying t=Â (.slice e)) (r:P.info? e=Â zJ) (B:zJ.zero=Â (Ã Á)) (C:zJ.size=1) (D:zJ.bytes=bytes) (F:y.eval s=v) (G:w.ownsRow base e 1 v n l) (ad:ù) (H:y.eval x=Æ (Â ad) 1 b) (I:∀j g,[z][j]?=Â g->w.cell? (ad.add j)=Â g) (J:z.oneCell'=Î) (L:n+1<=Ē) (M:(n+1)*bytes<=140737488355328) (N:base<=w.heap.size) (O:lT e=Ë) (S:m<=base) (T:jy m w) (V:mP m w.heap.size z) (W:e≠304/\e≠305) (h:∀d u,pZ w base e 1 v n l 1 [z] d u->jy m u->mP m u.heap.size d->K (y.put o.dst d) u): if Ĕ o (Ι f y.tmps)=Î then Oper.wp P o y w K vJ else E:=by
 have X:Ĕ o (Ι f y.tmps)=Î:=by simp[Ĕ,k]
 rw[if_pos X];let⟨d,u,Y,h2,h3,h4⟩:=apD (ty:=o.type) q r B C D G ad b I J L M N O S T V W;unfold Oper.wp;simp[ś,p,ρ,ak,ς,F,H,Y,ų];exact h d u h2 h3 h4
def nD(l:List Nat):List Ñ:=l.map λa=>Ã<|Â ⟨a,0,Á⟩
def ot(l:List Int):List Ñ:=l.map λz=>Å É z
def EC(p:PT):List Ñ:=ot p.c++[Ä p.p]
def BZ(c:List Int)(a:Ñ):List Ñ:=ot c++[a]
structure oO(lo hi:Nat)(tb:List Nat)(l:List PT)(w:Í):Prop where
 r:tb.length=l.length
 I:∀(j a:Nat) (p:PT),tb[j]?=Â a->l[j]?=Â p->lo<=a/\a<hi/\p.c.length=5/\fh a (EC p) 200 w
structure vE(B q:Nat)(r:PR)(w:Í):Prop where
 M:q<B
 C:r.c.length=8
 I:∃vb tb,fh q (BZ r.c vb) 161 w/\w.ownsRow 0 149 1 vb tb.length (nD tb)/\(∀j,vb.ownBlock=Â j->j<B)/\oO 0 B tb r.r w
structure pB(B:Nat)(qs:List Nat)(rs:List PR)(w:Í):Prop where
 I:qs.length=rs.length
 M:∀(j q:Nat) (r:PR),qs[j]?=Â q->rs[j]?=Â r->vE B q r w
section
variable{w':Í}{lo hi B q:Nat}{tb qs:List Nat}{l:List PT}{r:PR}{rs:List PR}
def oO.C(h:oO lo hi tb l w)(k:e9 X w w')(f:∀a c g,lo<=a->a<hi->w.heap[a]?=Â (Û c 200 g)->¬X a):oO lo hi tb l w':= ⟨h.r,λj a p i m=>by let⟨b,d,n,e⟩:=h.I j a p i m;exact⟨b,d,n,e.I k<|f a _ _ b d e⟩⟩
def oO.M(h:oO lo hi tb l w)(f:i<=lo)(g:hi<=n):oO i n tb l w:= ⟨h.r,λj a p b c=>by let⟨k,m,d,e⟩:=h.I j a p b c;exact⟨Z,Z,d,e⟩⟩
theorem oO.N(lo hi:Nat)(w:Í):oO lo hi [] [] w:=⟨U,λj a p h=>by cases h⟩
theorem ED{α:Type}{l:List α}{a x:α}(h:(l++[a])[j]?=Â x):l[j]?=Â x\/j=l.length/\x=a:=by grind
theorem oO.Tq{p:PT}(h:oO lo hi tb l w)(g:lo<=i)(k:i<hi)(m:p.c.length=5)(n:fh i (EC p) 200 w):oO lo hi (tb++[i]) (l++[p]) w:=by
 refine⟨by simp[h.r],λj x y d b=> ?_⟩;rcases ED d with e|⟨e,rfl⟩
 .rcases ED b with f|⟨f,rfl⟩
  .exact h.I j x y e f
  .have:=(Õ.1 e).1;have:=h.r;omega
 .rcases ED b with f|⟨f,rfl⟩
  .have:=(Õ.1 f).1;have:=h.r;omega
  .grind
def Ts(B:Nat)(w:Í)(i:Nat):Prop:=B<=i\/∃c T a,w.heap[i]?=Â (Û c T a)/\(T=153\/T=148)
theorem Tt(a:Ts B w i)(hi:i<B)(h:w.heap[i]?=Â (Û d T xJ))(b:T≠153/\T≠148):False:=by rcases a with q|⟨e,f,qn,g,j⟩;all_goals grind
theorem vE.u5(h:vE B q r w)(k:e9 X w w')(d:∀i,i<w.heap.size->X i->Ts B w i):vE B q r w':=by let⟨f,tb,b,g,l,m⟩:=h.I;refine⟨h.M,h.C,f,tb,b.I k λx=>Tt (d q b.M x) h.M b A,ic g k λj o x=> ?_,l,m.C k λa c p _ n e x=>Tt (d a (á.1 e).1 x) n e A⟩;grind [lJ,Tt]
def vE.fN(h:vE B q r w)(a:B<=i):vE i q r w:=by let⟨b,tb,c,d,e,f⟩:=h.I;exact⟨by have:=h.M;omega,h.C,b,tb,c,d,λj g=>by have:=e j g;omega,f.M (æ _) a⟩
def pB.C(h:pB B qs rs w)(k:e9 X w w')(a:∀i,i<w.heap.size->X i->Ts B w i):pB B qs rs w':= ⟨h.I,λj q r b c=>(h.M j q r b c).u5 k a⟩
def pB.Tq(h:pB B qs rs w)(b:B<=i)(c:vE i q r w):pB i (qs++[q]) (rs++[r]) w:=by
 refine⟨by simp[h.I],λj x y d a=> ?_⟩;rcases ED d with e|⟨e,rfl⟩
 .rcases ED a with f|⟨f,rfl⟩
  .exact(h.M j x y e f).fN b
  .have:=(Õ.1 e).1;have:=h.I;omega
 .rcases ED a with f|⟨f,rfl⟩
  .have:=(Õ.1 f).1;have:=h.I;omega
  .exact c
theorem pB.N(B:Nat)(w:Í):pB B [] [] w:=⟨U,λj q r h=>by cases h⟩
end
structure Gh where
 a:List Nat
 q:Nat
 t:Nat
 B:Nat
 tb:List Nat
 N:Ñ
 r:Ñ
 b:Option ù
namespace Gh
def C(g:Gh)(d:PD):List Nat:=if d.r then g.a++[g.q]else g.a
def I(g:Gh)(d:PD):List Nat:=if d.M then g.tb++[g.t]else g.tb
def S(g:Gh)(d:PD):Option ù:=if d.r then Â ⟨g.q,0,Á⟩else Á
def Y(g:Gh)(d:PD):Option ù:=if d.M then Â ⟨g.t,0,Á⟩else g.b
def M(g:Gh)(d:PD):Nat:=if d.M then g.t else g.q
def G(g:Gh)(d:PD):Option ù:=if d.r then Â ⟨g.M d,0,Á⟩else Á
def B1(g:Gh)(d:PD)(a:Int):ù:=if a=86 then⟨g.q,5,Á⟩else if a=87 then⟨g.q,6,Á⟩else if a=110 then⟨g.M d,2,Á⟩else⟨g.M d,3,Á⟩
end Gh
structure vF(m:Nat)(g:Gh)(d:PD)(w:Í):Prop where
 S:m<=g.B
 N:g.B<=g.q
 M:d.I.c.length=8
 r:fh g.q (BZ d.I.c g.r) 161 w
 I:w.ownsRow g.B 149 1 g.r (g.I d).length (nD<|g.I d)
 Y:oO g.B g.t g.tb d.I.r w
 C:d.M=Î->g.B<=g.t/\d.N.c.length=5/\fh g.t (EC d.N) 200 w
 a:d.M=Ë->g.tb=[]/\d.I.r=[]
structure kR(m:Nat)(g:Gh)(d:PD)(w:Í):Prop where
 C:w.ownsRow m 148 1 g.N (g.C d).length (nD<|g.C d)
 I:pB g.B g.a d.S w
 r:d.r=Î->vF m g d w
 N:d.r=Ë->d.M=Ë
def Tv(s:ByteArray)(g:Gh)(d:PD)(a:Option ù)(lb b:Int):List Ñ:=
 [Ä s,g.N,Ã<|g.S d,Ã<|g.Y d,Ã<|g.G d,Ã a,Å É lb,Å É b]
structure gP(m b:Nat)(g:Gh)(c:Option ù)(s:ByteArray)(st:PS)(w:Í):Prop where
 S:m<=b
 a:jy m w
 r:fh b (Tv s g st.d c st.r st.I) 153 w
 M:s.size<=10
 I:jU s=st.C
 C:kR m g st.d w
 c:0<st.r->st.d.r=Î/\c=Â (g.B1 st.d st.M)
 N:st.d.r=Î\/st.C=[82]
def rO(m b:Nat)(st:PS)(w a:Í):Prop:=e9 (λi=>m<=i) w a/\∃g i s,gP m b g i s st a
section
variable{w':Í}{g:Gh}{d:PD}{s:ByteArray}{st:PS}
theorem vF.u5(h:vF m g d w)(k:e9 X w w')(p:∀i c T b,w.heap[i]?=Â (Û c T b)->X i->T=153\/T=148):vF m g d w':=by
 have l:∀{i:Nat} {c:Array Ñ} {T:Ď} {b:Nat×Nat},w.heap[i]?=Â (Û c T b)->(T≠153/\T≠148)->¬X i:=λ{i c T b} n f x=>(p i c T b n x).elim f.1 f.2;refine⟨h.S,h.N,h.M,h.r.I k<|l h.r A,ic h.I k λj r=> ?_,h.Y.C k λa c b _ _ q=>l q A,λe=> ?_,h.a⟩
 .let⟨o,s⟩:=lJ h.I r;grind
 .let⟨n,f,o⟩:=h.C e;exact⟨n,f,o.I k<|l o A⟩
theorem kR.S(h:kR m g d w)(k:e9 X w w')(b:∀i c T a,w.heap[i]?=Â (Û c T a)->X i->T=153)(f:∀i,i<w.heap.size->X i->∃c a,w.heap[i]?=Â (Û c 153 a)):kR m g d w':=by
 refine⟨ic h.C k λj l x=> ?_,h.I.C k λi n x=> ?_,λe=>(h.r e).u5 k λi c T a q x=>È<|b i c T a q x,h.N⟩
 .let⟨o,q⟩:=lJ h.C l;grind
 .let⟨c,a,q⟩:=f i n x;exact Ï ⟨c,_,a,q,È U⟩
def kR.M(h:kR m g d w)(a:fh b l 153 w)(k:e9 (λi=>i=b) w w'):kR m g d w':= h.S k (λi c T e q x=>by subst x;unfold fh at a;rw[a]at q;cases q;rfl) λi _ x=>⟨l.toArray,(0,0),by rwa[x]⟩
def pC{i:Nat}{v:Value}{j:Nat}{vs:List Value}{T:TypeId}(h:fh j vs T w)(hT:lT T=false:=by decide):e9 (λk=>k=j) w (w.setCell ⟨j,i,none⟩ v):=e9.I (X:=λk=>k=j) U v<|Ï<|h.G hT
def kR.aaG(h:kR m g d w):(g.C d).length=d.C.length:=by unfold Gh.C PD.C;split<;>simp[h.I.I]
def vF.G(h:vF m g d w):(g.I d).length=d.Y.length:=by unfold Gh.I PD.Y;split<;>simp[h.Y.r]
def Tw(h:i<zQ.length)(v:Ñ):(ot zQ++[v])[i]?=Â (Å É<|zQ.getD i 0):=by rw[Ħ (by simpa[ot]using h)];simp[ot,Ġ,h]
def aaH(l:List Int)(i:Nat)(z:Int)(v:Ñ)(h:i<l.length):(ot l++[v]).set i (Å É z)=ot (l.set i z)++[v]:=by rw[List.set_append_left _ _ (by simpa[ot]using h)];simp[ot,List.map_set]
def aaI(l:List Int)(v u:Ñ):(ot l++[v]).set l.length u=ot l++[u]:=by rw[Ĵ _ _ (by simp[ot])];simp[ot]
def B2(l:List Int)(v:Ñ):(ot l++[v])[l.length]?=Â v:=by rw[ġ (by simp[ot])];simp[ot]
theorem kR.Y(h:kR m g d w)(on:d.r=Î)(n:i<8)(z:Int):kR m g (d.oM i z) (w.setCell ⟨g.q,i,Á⟩<|Å É z):=by
 have l:=h.r on;have k:e9 (λk=>k=g.q) w (w.setCell ⟨g.q,i,Á⟩<|Å É z):=pC l.r;have r:=l.N;refine⟨ic h.C k λj b x=>jx h.C l.r A (by rw[b,x]),h.I.C k λi _ x=>È Z,λ_=>⟨l.S,l.N,by simp[PD.oM,l.M],?_,ic l.I k λj b x=>jx l.I l.r A (by rw[b,x]),l.Y.C k λa c s _ _ q x=> ?_,λe=> ?_,l.a⟩,h.N⟩
 .have:=l.r.fY i<|Å É z;unfold BZ at this;rw[aaH _ _ _ _ (by rwa[l.M])]at this;exact this
 .have:=l.r;unfold fh at this;grind
 .let⟨o,p,f⟩:=l.C e;exact⟨o,p,f.I k λx=>(fh.S f l.r A) x⟩
theorem kR.jM(h:kR m g d w)(on:d.r=Î)(f:d.M=Î){p:PT}(n:p.c.length=5)(r:(EC d.N).set i v=EC p):kR m g {d with N:=p} (w.setCell ⟨g.t,i,Á⟩ v):=by have l:=h.r on;let⟨o,s,b⟩:=l.C f;have k:e9 (λk=>k=g.t) w (w.setCell ⟨g.t,i,Á⟩ v):=pC b;refine⟨ic h.C k λj e x=>jx h.C b A (by rw[e,x]),h.I.C k λi _ x=>È Z,λ_=>⟨l.S,l.N,l.M,l.r.I k λx=>(fh.S l.r b A) x,ic l.I k λj e x=>jx l.I b A (by rw[e,x]),l.Y.C k λa c u _ q _ x=>by omega,λ_=>⟨o,n,?_⟩,l.a⟩,h.N⟩;have:=b.fY i v;grind
def kR.G(h:kR m g d w)(on:d.r=Î)(a:d.M=Î)(c:i<5)(z:Int):kR m g (d.pz i z) (w.setCell ⟨g.t,i,Á⟩<|Å É z):=by let⟨e,b,f⟩:=(h.r on).C a;exact h.jM on a (by simp[b])<|aaH _ _ _ _<|by rwa[b]
def kR.oN(h:kR m g d w)(on:d.r=Î)(a:d.M=Î)(p:ByteArray):kR m g (d.oN p) (w.setCell ⟨g.t,5,Á⟩<|Ä p):=by let⟨e,b,f⟩:=(h.r on).C a;refine h.jM on a b ?_;have:=aaI d.N.c (Ä d.N.p)<|Ä p;rwa[b]at this
structure qh(m b:Nat)(g:Gh)(d:PD)(ab ao:Nat)(f:Int->PD)(x:Int)(w:Í):Prop where
 r:ab≠b
 N:m<=ab
 a:ab<w.heap.size
 C:w.cell? ⟨ab,ao,Á⟩=Â (Å É x)
 I:w.frozen? ⟨ab,ao,Á⟩=Ë
 nf:NF ab w
 Y:∀W,kR m g d W->∀z,kR m g (f z)<|W.setCell ⟨ab,ao,Á⟩<|Å É z
 M:∀z,g.S (f z)=g.S d/\g.Y (f z)=g.Y d/\g.G (f z)=g.G d/\(f z).r=d.r/\∀n,g.B1 (f z) n=g.B1 d n
theorem EE(h:kR m g d w)(f:fh b l 153 w)(on:d.r=Î)(e:i<8):qh m b g d g.q i (λz=>d.oM i z) (d.I.c.getD i 0) w:=by have a:=h.r on;exact⟨fh.S a.r f A,Ì a.S a.N,a.r.M,a.r.r i _ (Tw (by rwa[a.M]) _),a.r.C i,a.r.G,λW j z=>j.Y on e z,λz=>⟨U,U,U,U,λn=>rfl⟩⟩
theorem aaJ(h:kR m g d w)(k:fh b l 153 w)(on:d.r=Î)(f:d.M=Î)(j:i<5):qh m b g d g.t i (λz=>d.pz i z) (d.N.c.getD i 0) w:=by have a:=h.r on;let⟨o,p,e⟩:=a.C f;exact⟨fh.S e k A,Ì a.S o,e.M,e.r i _ (Tw (by rwa[p]) _),e.C i,e.G,λW q z=>q.G on f j z,λz=>⟨U,U,U,U,λn=>rfl⟩⟩
theorem EF(h:kR m g d w)(a:fh b l 153 w)(on:d.r=Î)(c:i<4):qh m b g d (g.M d) i (λz=>d.jM i z) (d.vB i) w:=by unfold PD.jM PD.vB Gh.M;split;all_goals grind [aaJ,EE]
theorem gP.G{f:Int->PD}(h:gP m b g O s st w)(n:qh m b g st.d i j f c w)(z:Int):gP m b g O s {st with d:=f z} (w.setCell ⟨i,j,Á⟩<|Å É z):=by
 let⟨e,l,o,a,p⟩:=n.M z;have k:e9 (λk=>k=i) w (w.setCell ⟨i,j,Á⟩<|Å É z):=e9.I (X:=λk=>k=i) U _<|È U;refine⟨h.S,h.a.r _ trivial,?_,h.M,h.I,n.Y w h.C z,λq=> ?_,?_⟩
 .have:=h.r.I k λc=>n.r c.symm;unfold Tv at this|-;grind
 .let⟨r,t⟩:=h.c q;grind
 .simp only[a];exact h.N
def gP.L5(h:gP m b g O s st w)(a:ByteArray)(r:List Int)(c:a.size<=10)(e:jU a=r)(f:st.d.r=Î\/r=[82]):gP m b g O a {st with C:=r} (w.setCell ⟨b,0,Á⟩<|Ä a):= ⟨h.S,h.a.r _ trivial,h.r.fY 0 _,c,e,h.C.M h.r<|pC h.r,h.c,f⟩
def gP.Y(h:gP m b g O s st w)(z:Int)(a:0<z->st.d.r=Î/\O=Â (g.B1 st.d st.M)):gP m b g O s {st with r:=z} (w.setCell ⟨b,6,Á⟩<|Å É z):= ⟨h.S,h.a.r _ trivial,h.r.fY 6 _,h.M,h.I,h.C.M h.r<|pC h.r,a,h.N⟩
def gP.aaK(h:gP m b g O s st w)(z:Int):gP m b g O s {st with I:=z} (w.setCell ⟨b,7,Á⟩<|Å É z):= ⟨h.S,h.a.r _ trivial,h.r.fY 7 _,h.M,h.I,h.C.M h.r<|pC h.r,h.c,h.N⟩
def gP.aaL(h:gP m b g O s st w)(a:ù)(n:Int)(d:st.r=0)(c:m<=a.block/\a.block<w.heap.size):gP m b g (Â a) s {st with M:=n} (w.setCell ⟨b,5,Á⟩<|Ã<|Â a):= ⟨h.S,h.a.r _ c,h.r.fY 5 _,h.M,h.I,h.C.M h.r<|pC h.r,λq=>by have:0<st.r:=q;omega,h.N⟩
def gP.fR(h:gP m b g O s st w):gP m b g O s st w.drew:=by have k:=e9.fR ff w;exact⟨h.S,h.a,h.r.I k id,h.M,h.I,h.C.S k (λ_ _ _ _ _ x=>x.elim) λ_ _ x=>x.elim,h.c,h.N⟩
end
section
variable{g:Gh}{st:PS}{f:Int->PD}
def qh.S{d:PD}(a:qh m b g d n j f h w)(i:Nat)(v:Ñ):qh m b g d n j f h (w.setCell ⟨b,i,Á⟩ v):= ⟨a.r,a.N,by simpa using a.a,by rw[G8<|Ne.symm a.r];exact a.C,by rw[World.frozen?_setCell];exact a.I,λc T e q=>a.nf c T e (by rwa[ģ _ _ _ _ (by simpa using a.r)]at q),a.Y,a.M⟩
def gP.Ty(h:gP m b g O B st w)(n:Int)(a:st.r=0):gP m b g O B {st with M:=n} w:= ⟨h.S,h.a,h.r,h.M,h.I,h.C,λq=>by have:0<st.r:=q;omega,h.N⟩
def mC(h:gP m b g O B st w)(i:Nat)(v:Ñ):e9 (λi=>m<=i) w (w.setCell ⟨b,i,Á⟩ v):=e9.I (X:=λi=>m<=i) (p:=⟨b,i,Á⟩) h.S v<|Ï h.r.G
def EG(a:qh m b g st.d n j f h w)(z:Int):e9 (λi=>m<=i) w (w.setCell ⟨n,j,Á⟩<|Å É z):=e9.I (X:=λi=>m<=i) (p:=⟨n,j,Á⟩) a.N _<|È U
def vG(c a:Int):Int:=if c=104\/c=48 then 0 else a-1
def mB(c:Int):Int:=if c=104 then-1 else(c-48)%256
def Tz{st:PS}(h:st.r=0)(n:Int)(d:PD):({st with r:=0,M:=n,d:=d}:PS)={st with M:=n,d:=d}:=by rw[<-h]
def L8(a:gP m b g O B st w)(k:qh m b g st.d n j f h w)(l:st.r=0)(p:st.d.r=Î)(c o i:Int)(C:0<=o)(D:o<=6)(q:∀z,g.B1 (f z) i=⟨n,j,Á⟩): Ò À 147 #[Ã<|Â ⟨b,0,Á⟩,Ã<|Â ⟨n,j,Á⟩,Å ū c,Å É o] w λe u=>
  e=Ç (ë #[])/\rO m b {st with r:=vG c o,M:=i,d:=f (mB c)} w u:=by
 have E:=a.r.r 5 _ U;have F:=a.r.r 6 _ U;have G:=a.r.C 5;have I:=a.r.C 6;have J:=k.C;have K:=k.I;have L:=k.r;have M:¬b=n:=λe=>k.r e.symm;have t:m<=n/\n<w.heap.size:=⟨k.N,k.a⟩;have H:=fe<|Ê a<|Ê k<|Ê q<|Ê l p;by_cases s:c=104
 .subst s;go_enter Ŗ,ŋ;go_wp2;first|go_end0|refine ÿ (results_none U _ _ _) U ?_
  let⟨a,k,q,l,p⟩:=H.out;refine⟨U,EG k _,g,O,B,?_⟩;have:=(a.G k<|-1).Ty i l;rw[show vG 104 o=0 from if_pos<|È U,Tz l];exact this
 .have N:(c==104)=Ë:=by rwa[beq_eq_false_iff_ne]
  have v:mB c=(c-48)%256:=if_neg s;by_cases y:c=48
  .subst y;go_enter Ŗ,ŋ;go_wp2;go_end0;let⟨a,k,q,l,p⟩:=H.out;have x:=a.aaL ⟨n,j,Á⟩ i l t;have r:=k.S 5<|Ã<|Â ⟨n,j,Á⟩;refine⟨U,(mC a 5 _).fg<|EG r _,g,Â ⟨n,j,Á⟩,B,?_⟩;have:=x.G r 0;rw[show vG 48 o=0 from if_pos<|Ï U,Tz l,v];exact this
  .go_enter Ŗ,ŋ;go_wp2;go_end0;let⟨a,k,q,l,p⟩:=H.out;have r:=k.S 5<|Ã<|Â ⟨n,j,Á⟩;have x:=(a.aaL ⟨n,j,Á⟩ i l t).G r<|(c-48)%256;refine⟨U,((mC a 5 _).fg<|EG r _).fg<|mC x 6 _,g,Â ⟨n,j,Á⟩,B,?_⟩;rw[show vG c o=o-1 from if_neg Z,v];exact(x.Y (o-1) λ_=>⟨by simp only;rwa[(k.M _).2.2.2.1],by simp only;rw[q]⟩)
theorem L9{b a:Int}(h:oL a c=Î)(d:(a=86\/a=87)/\b=2\/(a=110\/a=107)/\b=6):vG c b=rM a c:=by unfold vG rM;unfold oL at h;grind [Ez]
theorem Ma{a:Int}(h:¬(a=86\/a=87)/\¬(a=110\/a=107)):rM a c=0:=by unfold rM;grind
theorem Mb{a:Int}(h:a=86\/a=87\/a=110\/a=107):nW a c=mB c:=by unfold nW mB;grind
def TA(a:gP m b g O B st w)(k:qh m b g st.d n j f h w)(l:st.r=0){i z:Int}(e:c=0)(o:u=(w.setCell ⟨n,j,Á⟩<|Å É z).drew):rO m b {st with r:=c,M:=i,d:=f z} w u:=by subst o;subst e;rw[Tz l];exact⟨(EG k z).fg<|e9.fR _ _,g,O,B,((a.G k z).Ty i l).fR⟩
end
section
variable{g:Gh}{st:PS}
def HT{d:PD}(a:d.M=Î):g.Y d=Â ⟨g.t,0,Á⟩:=if_pos a
def apH:vD st 0=Á:=rfl
def apI(h:gP m b g O B st w)(r:st.r=0)(on:st.d.r=Î)(f:st.d.M=Î)(k:Int): Ò À 101 #[Ã<|Â ⟨b,0,Á⟩,Å É k] w λe u=>match vD st k with
  |none=>e=Ç (õ Ë)/\u=w
  |some a=>e=Ç (õ Î)/\rO m b a w u:=by
 have s:=h.r.r 0 _ U;have o:=h.r.r 3 _ U;have v:=h.r.r 7 _ U;rw[HT f]at o;have x:=h.r.C 0;have y:=h.r.C 7;have a:=aaJ h.C h.r on f (i:=4) A;have z:=a.C;have C:=a.I;have D:=a.r;have E:¬b=g.t:=λe=>a.r e.symm;have H:=fe<|Ê h a;by_cases c:k=0
 .subst c;rw[apH];go_enter Κ,ż;go_wp2;go_ret;exact⟨U,U⟩
 .have F:(k==0)=Ë:=by rwa[beq_eq_false_iff_ne]
  have e:vD st k=Â {st with C:=rL k,I:=0,d:=st.d.pz 4 k}:=if_neg c;rw[e];go_enter Κ,ż;go_wp2_with (go_at_call 148;refine(apC _ _).mono ?_;rintro e u ⟨⟨j,rfl,p,q⟩,l⟩;subst u);go_ret;let⟨h,a⟩:=H.out;have l:=h.G a k;have n:=l.aaK 0;exact⟨U,((EG a k).fg<|mC l 7 _).fg<|mC n 0 _,g,O,j,n.L5 j _ p q<|È on⟩
end
def apJ:(À.info? 149).map (λi=>(i.zero,i.size,i.bytes))=Â (Â<|Ã Á,1,8):=ft
def apK:(À.info? 148).map (λi=>(i.zero,i.size,i.bytes))=Â (Â<|Ã Á,1,8):=ft
section
variable{g:Gh}{nm:Option ù}{s:ByteArray}{st:PS}{d:PD}{T:Nat}
structure uE(m:Nat)(g:Gh)(d:PD)(T:Nat)(w:Í):Prop where
 C:w.ownsRow m 148 1 g.N (g.C d).length (nD<|g.C d)
 I:pB g.B g.a d.S w
 N:oO g.B T (g.I d) d.Y w
 tb:fh T (EC PD.Ew) 200 w
def HU(x:i=j)(h:fh j l t w):w.heap[i]?=Â (Û l.toArray t (0,0)):=by rwa[x]
theorem uE.r(h:uE m g d T w)(k:e9 X w u)(f:∀i,i<w.heap.size->X i->∃c t b,w.heap[i]?=Â (Û c t b)/\(t=153\/(t=161\/t=149)/\g.B<=i)):uE m g d T u:=by
 have e:∀{i:Nat} {c:Array Ñ} {t:Ď} {b:Nat×Nat},w.heap[i]?=Â (Û c t b)->(t≠153/\t≠161/\t≠149)->¬X i:=λ{i c t b} q1 q2 x=>by grind
 refine⟨ic h.C k λj l=> ?_,h.I.C k λi n x=> ?_,h.N.C k λa c b _ _ q=>e q A,h.tb.I k<|e h.tb A⟩
 .let⟨o,p⟩:=lJ h.C l;grind
 .let⟨r,s,qn,o,p⟩:=f i n x;rcases p with rfl|⟨_,z⟩
  .exact Ï ⟨_,_,_,o,È U⟩
  .exact È z
def uE.fJ(h:uE m g d T w)(k:e9 ff w u):uE m g d T u:=h.r k λ_ _ x=>x.elim
def uE.M(h:uE m g d T w)(a:fh b l 153 w):uE m g d T (w.setCell ⟨b,i,Á⟩ v):= h.r (pC a) λi _ x=>⟨_,_,_,HU x a,È U⟩
theorem vF.aaM(l:vF m g d w):oO g.B w.heap.size (g.I d) d.Y w:=by
 unfold Gh.I PD.Y;split
 .rename_i e;let⟨b,c,a⟩:=l.C e;have:=a.M;exact(l.Y.M (æ _) Z).Tq b a.M c a
 .rename_i e;let⟨b,c⟩:=l.a (by simpa using e);grind [oO.N]
theorem jy.C(n:jy m w)(g:fh b l e w)(C:m<=b)(p:e≠304/\e≠305)(d:Array Ñ)(t:Ď)(u:0<d.size)(r:t≠304/\t≠305)(h:∀v∈d.toList,mP m (w.heap.size+1) v):jy m ((w.setCell ⟨b,i,Á⟩<|Ã<|Â ⟨w.heap.size,0,Á⟩).alloc<|Û d t):=by
 have s:(w.setCell ⟨b,i,Á⟩<|Ã<|Â ⟨w.heap.size,0,Á⟩).heap.size=w.heap.size:=fp
 have D:=g.M;intro j o k c;have x:((w.setCell ⟨b,i,Á⟩<|Ã<|Â ⟨w.heap.size,0,Á⟩).alloc<|Û d t).heap.size=w.heap.size+1:=fp
 rw[x];by_cases a:j<w.heap.size
 .rw[Š _ _ _ (by rwa[s])]at c;by_cases f:j=b
  .subst f;have:=g.fY i<|Ã<|Â ⟨w.heap.size,0,Á⟩;unfold fh at this;rw[this]at c;cases c;let⟨E,F,G,y,H,z,I,J,B⟩:=n j _ k g;cases y;refine⟨_,_,_,U,fp,by simpa using z,p.1,p.2,λv h=> ?_⟩;rcases Ĩ (by simpa using h)with q|q
   .exact(B v<|by simpa using q).r Z
   .rw[q];exact⟨Ì k<|Nat.le_of_lt a,Nat.lt_succ_self _⟩
  .rw[ģ _ _ _ _ (by simpa using f)]at c;exact(n j o k c).r Z
 .by_cases f:j=w.heap.size
  .have:=Ŵ (w.setCell ⟨b,i,Á⟩<|Ã<|Â ⟨w.heap.size,0,Á⟩)<|Û d t;rw[s]at this;rw[f,this]at c;cases c;exact⟨_,_,_,U,Ø _,u,r.1,r.2,h⟩
  .grind
def Mc(b:Nat)(w:Í):Í:=(w.setCell ⟨b,3,Á⟩<|Ã<|Â ⟨w.heap.size,0,Á⟩).alloc<|Û #[Å É 0,Å É 0,Å É 0,Å É 0,Å É 0,Ä ⟨#[]⟩] 200
def rdM(s:ByteArray)(g:Gh)(d:PD)(a b nm:Option ù)(lb c:Int):List Ñ:=
 [Ä s,g.N,Ã<|g.S d,Ã a,Ã b,Ã nm,Å É lb,Å É c]
structure EH(m b:Nat)(g:Gh)(d:PD)(T:Nat)(s:ByteArray)(tm nm:Option ù)(lb TB:Int)(w0 w:Í):Prop where
 S:e9 (λi=>m<=i) w0 w
 N:jy m w
 r:fh b (rdM s g d (Â ⟨T,0,Á⟩) tm nm lb TB) 153 w
 M:uE m g d T w
 I:fh g.q (BZ d.I.c g.r) 161 w
 C:w.ownsRow g.B 149 1 g.r (g.I d).length (nD<|g.I d)
def EH.fJ{lb:Int}(h:EH m b g d T s O nm lb c W w)(k:e9 ff w u)(a:jy m u):EH m b g d T s O nm lb c W u:= ⟨h.S.C k λ_ _ x=>x.elim,a,h.r.I k id,h.M.fJ k,h.I.I k id,ic h.C k λ_ _=>id⟩
theorem gP.apL(h:gP m b g nm s st w)(on:st.d.r=Î):EH m b g st.d w.heap.size s (g.G st.d) nm st.r st.I w (Mc b w):=by
 have l:=h.C.r on;have p:(w.setCell ⟨b,3,Á⟩<|Ã<|Â ⟨w.heap.size,0,Á⟩).heap.size=w.heap.size:=fp
 have n:e9 ff (w.setCell ⟨b,3,Á⟩<|Ã<|Â ⟨w.heap.size,0,Á⟩) (Mc b w):=e9.gG _ _ _ _;have r:e9 (λk=>k=b) w (w.setCell ⟨b,3,Á⟩<|Ã<|Â ⟨w.heap.size,0,Á⟩):=pC h.r;have e:=r.C n λ_ _ x=>x.elim;refine⟨e.S λk _ x=>by rw[x];exact h.S,?_,(h.r.fY 3 _).I n id,⟨ic h.C.C e λj f x=>jx h.C.C h.r A (by rw[f,x]),h.C.I.C e λi _ x=>Ï ⟨_,_,_,HU x h.r,È U⟩,l.aaM.C e λa c t _ _ q x=> ?_,?_⟩,l.r.I e λx=>fh.S l.r h.r A x,ic l.I e λj f x=>jx l.I h.r A<|by rw[f,x]⟩
 .exact h.a.C h.r h.S A _ _ fp A λv o=>by simp at o;rcases o with rfl|rfl<;>trivial
 .have o:=h.r;unfold fh at o;grind
 .have:=fh.N (w.setCell ⟨b,3,Á⟩<|Ã<|Â ⟨w.heap.size,0,Á⟩) [Å É 0,Å É 0,Å É 0,Å É 0,Å É 0,Ä ⟨#[]⟩] 200;rwa[p]at this
def TC(g:Gh)(d:PD)(T:Nat)(v:Ñ):Gh:={g with t:=T,tb:=g.I d,r:=v}
theorem EH.jG(h:EH m b g st.d T s O nm st.r st.I w u)(C:m<=b)(on:st.d.r=Î)(a:m<=g.B/\g.B<=g.q/\st.d.I.c.length=8)(D:g.B<=T)(hd:st.r=0) (l:pZ u g.B 149 1 g.r (g.I st.d).length (nD<|g.I st.d) 1 [Ã<|Â ⟨T,0,Á⟩] v W) (K:jy m W) (L:mP m W.heap.size v) (n:jX=((W.setCell ⟨g.q,8,Á⟩ v).setCell ⟨b,4,Á⟩<|Ã<|Â ⟨T,0,Á⟩).setCell ⟨b,0,Á⟩ (Ä ⟨#[84]⟩)): e9 (λi=>m<=i) w jX/\gP m b (TC g st.d T v) nm ⟨#[84]⟩ {st with C:=[84],d:=st.d.nz} jX:=by
 have E:∀{j:Nat} {M:List Ñ} {t:Ď},fh j M t u->149≠t->¬g.r.ownBlock=Â j:=λN f=>jx h.C N f;have F:=h.r.I l.r<|E h.r A;have f:=h.I.I l.r<|E h.I A;have P:=h.M.r l.r λi _ x=>by let⟨k,z⟩:=lJ h.C x;exact⟨_,_,_,z,Ï ⟨Ï U,(h.C.lt i x).1⟩⟩
 have o:e9 (λk=>k=g.q) W (W.setCell ⟨g.q,8,Á⟩ v):=pC f;have G:fh g.q (BZ st.d.I.c v) 161 (W.setCell ⟨g.q,8,Á⟩ v):=by have:=f.fY 8 v;have e:=aaI st.d.I.c g.r v;rw[a.2.2]at e;unfold BZ at this|-;grind
 have z:=F.I o λx=>fh.S F f A x;have H:=P.r o λi _ x=>⟨_,_,_,HU x f,Ï ⟨È U,by rw[x];exact a.2.1⟩⟩;have I:=ic l.fl o λj p x=>jx l.fl f A (by rw[p,x]);have Q:jy m (W.setCell ⟨g.q,8,Á⟩ v):=K.r _ L;have S:e9 (λk=>k=b) (W.setCell ⟨g.q,8,Á⟩ v) ((W.setCell ⟨g.q,8,Á⟩ v).setCell ⟨b,4,Á⟩<|Ã<|Â ⟨T,0,Á⟩):=pC z;have r:=z.fY 4<|Ã<|Â ⟨T,0,Á⟩;have V:e9 (λk=>k=b) ((W.setCell ⟨g.q,8,Á⟩ v).setCell ⟨b,4,Á⟩<|Ã<|Â ⟨T,0,Á⟩) jX:=by rw[n];exact pC r
 have J:=r.fY 0<|Ä ⟨#[84]⟩;rw[<-n]at J;have k:uE m g st.d T jX:=by rw[n];exact(H.M z).M r
 have y:=S.fg V;have X:=G.I y λx=>fh.S G z A x;have Y:=ic I y λj p x=>jx I z A (by rw[p,x]);have hTl:=H.tb.M;have c5:jy m jX:=by rw[n];refine(Q.r _ ?_).r _ trivial;exact⟨Ì a.1 D,hTl⟩
 have e1:(g.I st.d++[T]).length=(g.I st.d).length+1:=fp
 have e2:nD (g.I st.d++[T])=nD (g.I st.d)++[Ã<|Â ⟨T,0,Á⟩]:=by simp[nD]
 refine⟨((h.S.C l.r λi _ x=> ?_).C o λi _ x=> ?_).C y λi _ x=> ?_,C,c5,?_,A,U,⟨k.C,k.I,λ_=>⟨a.1,a.2.1,a.2.2,X,?_,k.N,λ_=>⟨D,U,k.tb⟩,λe=>by cases e⟩,λe=> ?_⟩,λe=> ?_,È on⟩
 .have:=(h.C.lt i x).1;have:=a.1;omega
 .grind
 .rwa[x]
 .have e:(TC g st.d T v).S st.d.nz=g.S st.d:=U;unfold Tv;rw[e];have e4:(TC g st.d T v).G st.d.nz=Â ⟨T,0,Á⟩:=if_pos on;rwa[e4]
 .show jX.ownsRow g.B 149 1 v (g.I st.d++[T]).length (nD<|g.I st.d++[T]);rwa[e1,e2]
 .have:st.d.r=Ë:=e;grind
 .grind
def aaN(h:gP m b g nm s st w)(C:st.r=0)(o:st.d.r=Î)(D:st.d.Y.length<=100000): Ò À 99 #[Ã<|Â ⟨b,0,Á⟩] w λe u=>e=Ç (ë #[])/\rO m b {st with C:=[84],d:=st.d.nz} w u:=by
 have Y:=h.r.r 3 _ U;have f3:=h.r.C 3;have gN:=h.r.M;have l:=h.C.r o;have y:=h.apL o;have E:=λv=>by have:=B2 st.d.I.c v;rwa[l.M]at this
 have F:m<=g.B/\g.B<=g.q/\st.d.I.c.length=8:=⟨l.S,l.N,l.M⟩;have G:g.B<=w.heap.size:=by have:=l.r.M;have:=l.N;omega
 have I:(g.I st.d).length<=100000:=by rwa[l.G]
 have J:=h.S;have H:=fe<|Ê F<|Ê G<|Ê I<|Ê J<|Ê C o;have j:=fe<|E g.r;have x:g.S st.d=Â ⟨g.q,0,Á⟩:=if_pos o;go_enter Tryz.func99,Tryz.ntmps99;go_wp2_with fail;change à À _ _ _ (Mc b w);have k:=y.fJ (e9.fR _ _) y.N.fR;generalize hT:w.heap.size=T at*;generalize L:(Mc b w).drew=w1 at*;let⟨i0,M,N,O,P⟩:=ů apJ;have p:=fe<|Ê M<|Ê N<|Ê O P;refine lW (λu=>u.cell? ⟨b,2,Á⟩=Â (Ã<|g.S st.d)/\u.cell? ⟨b,3,Á⟩=Â (Ã<|Â ⟨T,0,Á⟩)/\u.cell? ⟨g.q,8,Á⟩=Â g.r) [19] ft ?_;rw[L];rw[x];have Q:Hid (w1.cell? ⟨b,2,Á⟩=Â (Ã<|Â ⟨g.q,0,Á⟩)/\w1.cell? ⟨b,3,Á⟩=Â (Ã<|Â ⟨T,0,Á⟩)/\w1.cell? ⟨g.q,8,Á⟩=Â g.r):=fe ⟨by rw[<-x];exact k.r.r 2 _ U,k.r.r 3 _ U,k.I.r 8 _ j.out⟩;have r:=fe x;iterate 15 apply tk Q.out
 have S:=k.M.tb.M;have a:=k.fJ (e9.gG ff w1 #[Ã<|Â ⟨T,0,Á⟩] 149) (k.N.gG _ _ fp A λv f=>by simp at f;subst f;exact⟨Ì H.out.1.1 H.out.2.1,S⟩);apply gA 15;intro K i;go_simp;refine i.out _ _ (λ_=>⟨by rw[<-r.out];exact a.r.r 2 _ U,a.r.r 3 _ U,a.I.r 8 _ j.out⟩) ?_;apply gA 16;intro K i;refine aaF fO _ _ 159 fO Tryz.underlying159 p.out.1 p.out.2.1 p.out.2.2.1 p.out.2.2.2 fO a.C ⟨w1.heap.size,0,Á⟩ fO (Λ w1 _ _) U (by have:=H.out.2.2.1;unfold Ē;omega) (by have:=H.out.2.2.1;omega) (by have:=H.out.2.1;have:=a.M.tb.M;omega) A H.out.1.1 a.N ⟨Ì H.out.1.1 H.out.2.1,a.M.tb.M⟩ A ?_;intro v9 w9 t V W;obtain⟨a9,n9c,rfl⟩:=jf t.fl;have f:=a.r.I t.r<|jx a.C a.r A;have n:=a.I.I t.r<|jx a.C a.I A;refine i.out _ _ (λ_=>⟨by rw[<-r.out];exact f.r 2 _ U,f.r 3 _ U,n.r 8 _ j.out⟩) ?_;apply gA 17;intro K i;go_simp;refine i.out _ _ (λ_=>⟨by rw[<-r.out];exact f.r 2 _ U,f.r 3 _ U,n.r 8 _ j.out⟩) ?_;apply gA 18;intro K i;go_simp;refine i.out _ _ (λ_=>⟨by rw[<-r.out];exact f.r 2 _ U,f.r 3 _ U,n.r 8 _ j.out⟩) ?_;have cq8:=n.r 8 _ j.out;have fq8:=n.C 8;have cb4:=f.r 4 _ U;have fb4:=f.C 4;have cb0:=f.r 0 _ U;have fb0:=f.C 0;have cb3:=f.r 3 _ U;have X:=fh.S n f A;have hbq:¬b=g.q:=λe=>X e.symm;apply gA 19;intro K i;go_simp;apply i.out _ _ λz=>absurd A z;refine lM ft ?_ _;have z:=fe<|a.jG H.out.2.2.2.1 o H.out.1 H.out.2.1 H.out.2.2.2.2.1 t V W U;go_wp2_with fail;go_end0;exact⟨U,z.out.1,_,_,_,z.out.2⟩
end
section
variable{g:Gh}{nm:Option ù}{s:ByteArray}{f:PS}{d:PD}{Q:Nat}{k:Int}
def apM(h:w.ownsRow i e 1 v n l)(c:j<=i):w.ownsRow j e 1 v n l:= ⟨h.1,h.2.imp id λ⟨g,d,f,a,b,r⟩=>⟨g,d,f,a,Ì c b,r⟩⟩
def vF.gd(l:vF m g d w):vE w.heap.size g.q ⟨d.I.c,d.Y⟩ w:= ⟨l.r.M,l.M,g.r,g.I d,l.r,apM l.I<|Ø _,λj a=>(l.I.lt j a).2,l.aaM.M (Ø _)<|æ _⟩
theorem kR.aaO(h:kR m g d w)(a:d.r=Ë->d.S=[]):pB w.heap.size (g.C d) d.C w:=by
 unfold Gh.C PD.C;split
 .rename_i e;have l:=h.r e;have b:=l.r.M;have c:=l.N;exact h.I.Tq Z l.gd
 .rename_i e;have f:=a (by simpa using e);have:=h.I.I;grind [Ý,pB.N]
def Md(b:Nat)(k:Int)(w:Í):Í:=(w.setCell ⟨b,2,Á⟩<|Ã<|Â ⟨w.heap.size,0,Á⟩).alloc<|Û #[Å É 0,Å É 0,Å É 0,Å É 0,Å É k,Å É 0,Å É 0,Å É 0,Æ Á 0 0] 161
def rdQ(s:ByteArray)(g:Gh)(d:PD)(Q:Nat)(nm:Option ù)(lb a:Int):List Ñ:=
 [Ä s,g.N,Ã<|Â ⟨Q,0,Á⟩,Ã<|g.Y d,Ã<|g.G d,Ã nm,Å É lb,Å É a]
structure EI(m b:Nat)(g:Gh)(d:PD)(Q:Nat)(k:Int)(s:ByteArray)(nm:Option ù)(lb TB:Int)(w0 w:Í):Prop where
 S:e9 (λi=>m<=i) w0 w
 M:jy m w
 r:fh b (rdQ s g d Q nm lb TB) 153 w
 I:fh Q (BZ (PD.aaD k).c<|Æ Á 0 0) 161 w
 N:pB Q (g.C d) d.C w
 C:w.ownsRow m 148 1 g.N (g.C d).length (nD<|g.C d)
def EI.fJ{lb:Int}(h:EI m b g d Q k s nm lb c W w)(a:e9 ff w u)(e:jy m u):EI m b g d Q k s nm lb c W u:= ⟨h.S.C a λ_ _ x=>x.elim,e,h.r.I a id,h.I.I a id,h.N.C a λ_ _ x=>x.elim,ic h.C a λ_ _=>id⟩
def gP.apN(h:gP m b g nm s f w)(k:Int)(l:f.d.r=Ë->f.d.S=[]):EI m b g f.d w.heap.size k s nm f.r f.I w (Md b k w):=by
 have n:(w.setCell ⟨b,2,Á⟩<|Ã<|Â ⟨w.heap.size,0,Á⟩).heap.size=w.heap.size:=fp
 have c:e9 ff (w.setCell ⟨b,2,Á⟩<|Ã<|Â ⟨w.heap.size,0,Á⟩) (Md b k w):=e9.gG _ _ _ _;have o:e9 (λk=>k=b) w (w.setCell ⟨b,2,Á⟩<|Ã<|Â ⟨w.heap.size,0,Á⟩):=pC h.r;have a:=o.C c λ_ _ x=>x.elim;refine⟨a.S λk _ x=>by rw[x];exact h.S,?_,(h.r.fY 2 _).I c id,?_,(h.C.aaO l).C a λi _ x=>Ï ⟨_,_,_,HU x h.r,È U⟩,ic h.C.C a λj p x=>jx h.C.C h.r A<|by rw[p,x]⟩
 .exact h.a.C h.r h.S A _ _ fp A λv e=>by simp at e;rcases e with rfl|rfl|rfl|rfl<;>trivial
 .have:=fh.N (w.setCell ⟨b,2,Á⟩<|Ã<|Â ⟨w.heap.size,0,Á⟩) [Å É 0,Å É 0,Å É 0,Å É 0,Å É k,Å É 0,Å É 0,Å É 0,Æ Á 0 0] 161;rwa[n]at this
def apO(g:Gh)(d:PD)(Q:Nat)(v:Ñ):Gh:={a:=g.C d,q:=Q,t:=Q,B:=Q,tb:=[],N:=v,r:=Æ Á 0 0,b:=g.Y d}
theorem EI.jG{sb:ByteArray}(h:EI m b g f.d Q k s nm f.r f.I w u)(o:m<=b)(p:m<=Q)(S:f.r=0)(y:sb.size<=10)(B:jU sb=qL k) (a:pZ u m 148 1 g.N (g.C f.d).length (nD<|g.C f.d) 1 [Ã<|Â ⟨Q,0,Á⟩] v W) (C:jy m W) (D:mP m W.heap.size v) (l:jX=((W.setCell ⟨b,1,Á⟩ v).setCell ⟨b,4,Á⟩<|Ã<|Â ⟨Q,0,Á⟩).setCell ⟨b,0,Á⟩ (Ä sb)): e9 (λi=>m<=i) w jX/\gP m b (apO g f.d Q v) nm sb {f with C:=qL k,d:=f.d.EA k} jX:=by
 have c:=h.r.I a.r<|jx h.C h.r A;have n:=h.I.I a.r<|jx h.C h.I A;have E:=h.N.C a.r λi _ x=>by let⟨e,z⟩:=lJ h.C x;exact Ï ⟨_,_,_,z,Ï U⟩
 have F:e9 (λk=>k=b) W (W.setCell ⟨b,1,Á⟩ v):=pC c;have q:=c.fY 1 v;have G:e9 (λk=>k=b) (W.setCell ⟨b,1,Á⟩ v) ((W.setCell ⟨b,1,Á⟩ v).setCell ⟨b,4,Á⟩<|Ã<|Â ⟨Q,0,Á⟩):=pC q;have r:=q.fY 4<|Ã<|Â ⟨Q,0,Á⟩;have H:e9 (λk=>k=b) ((W.setCell ⟨b,1,Á⟩ v).setCell ⟨b,4,Á⟩<|Ã<|Â ⟨Q,0,Á⟩) jX:=by rw[l];exact pC r
 have t:=r.fY 0<|Ä sb;rw[<-l]at t;have z:=(F.fg G).fg H;have I:=n.I z λx=>fh.S n c A x;have J:=E.C z λi _ x=>Ï ⟨_,_,_,HU x c,È U⟩;have K:=ic a.fl z λj L x=>jx a.fl c A (by rw[L,x]);have M:Q<(W.setCell ⟨b,1,Á⟩ v).heap.size:=by simpa using n.M
 have N:jy m jX:=by rw[l];refine((C.r _ D).r _ ?_).r _ trivial;exact⟨p,M⟩
 have O:(g.C f.d++[Q]).length=(g.C f.d).length+1:=fp
 have P:nD (g.C f.d++[Q])=nD (g.C f.d)++[Ã<|Â ⟨Q,0,Á⟩]:=by simp[nD]
 refine⟨(h.S.C a.r λi _ x=> ?_).C z λi _ x=> ?_,o,N,t,y,B,⟨?_,J,λ_=>⟨p,æ _,U,I,?_,oO.N _ _ _,(λe=>by cases e),λ_=>⟨rfl,rfl⟩⟩,(λe=>by cases e)⟩,λe=> ?_,È rfl⟩
 .exact(h.C.lt i x).1
 .rwa[x]
 .show jX.ownsRow m 148 1 v (g.C f.d++[Q]).length (nD<|g.C f.d++[Q]);rwa[O,P]
 .exact⟨U,È ⟨U,U⟩⟩
 .grind
def apP:vC f 0=Á:=rfl
def apQ(h:gP m b g nm s f w)(r:f.r=0)(t:f.d.r=Ë->f.d.S=[])(x:f.d.C.length<=100000)(k:Int): Ò À 96 #[Ã<|Â ⟨b,0,Á⟩,Å É k] w λe u=>match vC f k with
  |none=>e=Ç (õ Ë)/\u=w
  |some c=>e=Ç (õ Î)/\rO m b c w u:=by
 by_cases l:k=0
 .subst l;rw[apP];go_enter Ω,Μ;go_wp2;go_ret;exact⟨U,U⟩
 have Q:(k==0)=Ë:=by rwa[beq_eq_false_iff_ne]
 have e:vC f k=Â {f with C:=qL k,d:=f.d.EA k}:=if_neg l;rw[e];have S:=h.r.r 2 _ U;have V:=h.r.C 2;have W:=h.r.M;have p:=h.apN k t;have y:(g.C f.d).length<=100000:=by rwa[h.C.aaG]
 have z:=h.S;have B:m<=w.heap.size:=Z
 have H:=fe<|Ê z<|Ê B<|Ê y r;go_enter Ω,Μ;go_wp2_with fail;change à À _ _ _ (Md b k w);have i:=p.fJ (e9.fR _ _) p.M.fR;generalize X:w.heap.size=T at*;generalize C:(Md b k w).drew=w1 at*;let⟨Y,D,E,F,G⟩:=ů apK;have j:=fe<|Ê D<|Ê E<|Ê F G;refine lW (λu=>u.cell? ⟨b,1,Á⟩=Â g.N/\u.cell? ⟨b,2,Á⟩=Â (Ã<|Â ⟨T,0,Á⟩)) [13] ft ?_;rw[C];have I:Hid (w1.cell? ⟨b,1,Á⟩=Â g.N/\w1.cell? ⟨b,2,Á⟩=Â (Ã<|Â ⟨T,0,Á⟩)):=fe ⟨i.r.r 1 _ U,i.r.r 2 _ U⟩;iterate 9 apply tk I.out
 have J:=i.I.M;have a:=i.fJ (e9.gG ff w1 #[Ã<|Â ⟨T,0,Á⟩] 148) (i.M.gG _ _ fp A λv c=>by simp at c;subst c;exact⟨H.out.2.1,J⟩);apply gA 9;intro K c;go_simp;apply c.out _ _ λ_=>⟨a.r.r 1 _ U,a.r.r 2 _ U⟩;apply gA 10;intro K c;refine aaF fO _ _ 61 fO Tryz.underlying61 j.out.1 j.out.2.1 j.out.2.2.1 j.out.2.2.2 fO a.C ⟨w1.heap.size,0,Á⟩ fO (Λ w1 _ _) U (by have:=H.out.2.2.1;unfold Ē;omega) (by have:=H.out.2.2.1;omega) (by have:=H.out.2.1;have:=a.I.M;omega) A (æ _) a.M ⟨H.out.2.1,a.I.M⟩ A ?_;intro v9 w9 n L M;obtain⟨a9,n9c,rfl⟩:=jf n.fl;have v:=a.r.I n.r<|jx a.C a.r A;apply c.out _ _ λ_=>⟨v.r 1 _ U,v.r 2 _ U⟩;apply gA 11;intro K c;go_simp;apply c.out _ _ λ_=>⟨v.r 1 _ U,v.r 2 _ U⟩;apply gA 12;intro K c;go_simp;apply c.out _ _ λ_=>⟨v.r 1 _ U,v.r 2 _ U⟩;have cb1:=v.r 1 _ U;have fb1:=v.C 1;have cb4:=v.r 4 _ U;have fb4:=v.C 4;have cb0:=v.r 0 _ U;have fb0:=v.C 0;have cb2:=v.r 2 _ U;apply gA 13;intro K c;go_simp;apply c.out _ _ λo=>absurd A o;refine lM ft ?_ _;have N:=fe λo q O=>a.jG (sb:=o) H.out.1 H.out.2.1 H.out.2.2.2 q O n L M U;go_wp2_with (go_at_call 145;refine(apB _ _).mono ?_;rintro e u ⟨⟨o,rfl,O,P⟩,q⟩;subst u);go_ret;have q:=N.out o O P;exact⟨U,q.1,_,_,_,q.2⟩
end
def lD(i:Nat)(z:Int):Prop:=match i with
 |0=>0<=z/\z<8
 |1=>0<=z/\z<8
 |2=>0<=z/\z<1000000
 |3=>0<=z/\z<1000000
 |4=>1<=z/\z<10
 |5=>-1<=z/\z<1000000
 |6=>-1<=z/\z<1000000
 |7=>0<=z/\z<16
 |_=>True
structure EJ(n m:Nat)(c:List Int):Prop where
 C:c.length=n
 r:∀i,i<m->lD i (c.getD i 0)
theorem EJ.I(h:EJ n m zQ)(i:Nat)(z:Int)(b:i<m->lD i z):EJ n m (zQ.set i z):=by refine⟨by simp[h.C],λj a=> ?_⟩;have:=h.r j a;grind
def aaP(h:i<zQ.length)(z:Int):(zQ.set i z).getD i 0=z:=by simp[Ġ,h]
structure nV(t:PT):Prop where
 c:EJ 5 4 t.c
 p:t.p.size<=40/\∀c∈t.p.data.toList,xl c=Î
structure uF(r:PR):Prop where
 c:EJ 8 8 r.c
 C:∀t∈r.r,nV t
 n:r.r.length<=8
structure kl(d:PD):Prop where
 N:d.r=Ë->d.S=[]/\d.M=Ë
 b:d.M=Ë->d.I.r=[]
 C:d.C.length<=24
 I:d.Y.length<=8
 S:∀r∈d.S,uF r
 M:d.r=Î->EJ 8 8 d.I.c
 a:d.r=Î->∀t∈d.I.r,nV t
 Y:d.M=Î->nV d.N
structure jr(B:ByteArray)(k:Nat)(st:PS):Prop where
 M:0<=st.r
 r:st.r<=5
 C:0<=st.I
 I:st.I<=40
 e:0<st.r->(st.M=86\/st.M=87\/st.M=110\/st.M=107)/\st.d.r=Î/\0<=st.d.G st.M/\st.d.G st.M<10^(6-st.r.toNat)
 d:kl st.d
 c:st.d.r=Î\/st.C=[82]
 b:82∈st.C->st.d.C.length<24
 N:84∈st.C\/80∈st.C->st.d.M=Î
 a:66∈st.C->st.d.M=Ë
 S:80∈st.C->st.C=[80]/\st.r=0
 Y:80∈st.C->st.I.toNat<=k/\∀j (h:j<B.size),k-st.I.toNat<=j->j<k->xl B[j]=Î
section
variable{d:PD}{st o:PS}
def kl.aaQ(h:kl d)(on:d.r=Î):∀t∈d.Y,nV t:=by
 unfold PD.Y;split
 .rename_i e;intro t a;rcases â.1 a with q|q
  .exact h.a on t q
  .rw[ō]at q;rw[q];exact h.Y e
 .exact h.a on
def kl.G(h:kl d):∀r∈d.C,uF r:=by
 unfold PD.C;split
 .rename_i e;intro r a;rcases â.1 a with q|q
  .exact h.S r q
  .rw[ō]at q;rw[q];exact⟨h.M e,h.aaQ e,h.I⟩
 .exact h.S
def xB(d:PD):d.C.length=d.S.length+(if d.r then 1 else 0):=by unfold PD.C;split<;>simp
def HY(d:PD):d.Y.length=d.I.r.length+(if d.M then 1 else 0):=by unfold PD.Y;split<;>simp
def kl.r(h:kl d)(i:Nat)(z:Int)(a:lD i z):kl (d.oM i z):= ⟨h.N,h.b,by have:=h.C;rw[xB]at this|-;exact this,by have:=h.I;rw[HY]at this|-;exact this,h.S,λe=>(h.M e).I i z λ_=>a,h.a,h.Y⟩
def kl.pz(h:kl d)(i:Nat)(z:Int)(a:i<4->lD i z):kl (d.pz i z):= ⟨h.N,h.b,by have:=h.C;rw[xB]at this|-;exact this,by have:=h.I;rw[HY]at this|-;exact this,h.S,h.M,h.a,λe=>⟨(h.Y e).c.I i z a,(h.Y e).p⟩⟩
def kl.jM(h:kl d)(i:Nat)(z:Int)(a:lD i z):kl (d.jM i z):=by
 unfold PD.jM;split
 .exact h.pz i z λ_=>a
 .exact h.r i z a
def kl.oN(h:kl d)(p:ByteArray)(a:p.size<=40/\∀c∈p.data.toList,xl c=Î):kl (d.oN p):= ⟨h.N,h.b,by have:=h.C;rw[xB]at this|-;exact this,by have:=h.I;rw[HY]at this|-;exact this,h.S,h.M,h.a,λe=>⟨(h.Y e).c,a⟩⟩
def apR:nV PD.Ew:=⟨⟨U,λi a=>by
 match i,a with
 |0,_=>exact⟨A,A⟩
 |1,_=>exact⟨A,A⟩
 |2,_=>exact⟨A,A⟩
 |3,_=>exact⟨A,A⟩⟩,⟨A,λc b=>by cases b⟩⟩
def kl.nz(h:kl d)(on:d.r=Î)(a:d.Y.length<8):kl d.nz:= ⟨(λe=>by have:d.r=Ë:=e;rw[on]at this;cases this),(λe=>by cases e),by have:=h.C;rw[xB]at this|-;exact this,by rwa[HY],h.S,λe=>h.M e,λ_=>h.aaQ on,λ_=>apR⟩
def kl.EA(h:kl d)(q:Int)(a:1<=q/\q<10)(b:d.C.length<24):kl (d.EA q):= ⟨(λe=>by cases e),λ_=>rfl,by rwa[xB],by show(0:Nat)<=8;decide,h.G,λ_=>⟨U,λi c=>by
   match i,c with
   |0,_=>exact⟨by show(0:Int)<=0;decide,by show(0:Int)<8;decide⟩
   |1,_=>exact⟨by show(0:Int)<=0;decide,by show(0:Int)<8;decide⟩
   |2,_=>exact⟨by show(0:Int)<=0;decide,by show(0:Int)<1000000;decide⟩
   |3,_=>exact⟨by show(0:Int)<=0;decide,by show(0:Int)<1000000;decide⟩
   |4,_=>exact a
   |5,_=>exact⟨by show(-1:Int)<=0;decide,by show(0:Int)<1000000;decide⟩
   |6,_=>exact⟨by show(-1:Int)<=0;decide,by show(0:Int)<1000000;decide⟩
   |7,_=>exact⟨by show(0:Int)<=0;decide,by show(0:Int)<16;decide⟩⟩,(λ_ t f=>by cases f),(λe=>by cases e)⟩
def kl.fY(h:kl d)(a z:Int)(b:(a=86->lD 5 z)/\(a=87->lD 6 z)/\(a=120->lD 0 z)/\(a=121->lD 1 z)/\(a=110->lD 2 z)/\(a=107->lD 3 z)/\(a=115->lD 7 z)):kl (d.fY a z):=by
 let⟨c,e,f,g,i,j,k⟩:=b;unfold PD.fY;repeat' split
 .exact h.r 5 z<|c ‹_›
 .exact h.r 6 z<|e ‹_›
 .exact h.jM 0 z<|f ‹_›
 .exact h.jM 1 z<|g ‹_›
 .exact h.jM 2 z<|i ‹_›
 .exact h.jM 3 z<|j ‹_›
 .exact h.r 7 z<|k ‹_›
 .exact h
def TD(d:PD)(a z:Int):(d.fY a z).r=d.r/\(d.fY a z).M=d.M/\(d.fY a z).C.length=d.C.length:=by
 unfold PD.fY PD.jM;repeat' split
 all_goals exact⟨U,U,(xB _).trans (xB d).symm⟩
theorem TF(h:kl d)(on:d.r=Î)(a z:Int)(f:a=86\/a=87\/a=110\/a=107):(d.fY a z).G a=z:=by
 have g:=(h.M on).C;have b:∀i,i<4->(d.jM i z).vB i=z:=λi j=>by
  unfold PD.jM;split
  .rename_i e;have k:=(h.Y e).c.C;show(if d.M=Î then(d.N.c.set i z).getD i 0 else d.I.c.getD i 0)=z;grind
  .rename_i e;show(if d.M=Î then d.N.c.getD i 0 else(d.I.c.set i z).getD i 0)=z;grind
 rcases f with rfl|rfl|rfl|rfl
 .exact aaP Z z
 .exact aaP Z z
 .exact b 2 A
 .exact b 3 A
def Me:∀(l:List UInt8) (c:UInt8),Þ l c<l.length
 |[],_=>by show(-1:Int)<0;decide
 |a::l,c=>by
  have:=Me l c;unfold Þ;split
  .simp
  .split<;>(simp;omega)
def TG:∀(l:List UInt8) (c:UInt8),c∈l->0<=Þ l c
 |[],_,h=>by cases h
 |a::l,c,h=>by
  unfold Þ;split
  .decide
  .rename_i e;rcases List.mem_cons.1 h with q|q
   .subst q;simp at e
   .have:=TG l c q;split
    .rename_i b;rw[beq_iff_eq]at b;omega
    .omega
def aaR{l:List UInt8}(h:c.toNat∈l.map UInt8.toNat):c.toNat.toUInt8∈l:=by let⟨x,a,b⟩:=Ú.1 h;rw[<-b];simpa using a
def aaS(h:rK c=Î):0<=Þ [97,98,99,100,101,102,103,104] c.toNat.toUInt8:=by rw[apn]at h;refine TG _ _<|aaR ?_;simp;omega
def apS(h:(jL c||(decide (97<=c)&&decide (c<=102)))=Î):0<=Þ [48,49,50,51,52,53,54,55,56,57,97,98,99,100,101,102] c.toNat.toUInt8:=by simp only[Bool.or_eq_true,Ez,Bool.and_eq_true,decide_eq_true_eq]at h;refine TG _ _<|aaR ?_;simp;omega
theorem apT(a:oL h c=Î):(h=86->lD 5 (nW h c))/\(h=87->lD 6 (nW h c))/\(h=120->lD 0 (nW h c))/\(h=121->lD 1 (nW h c))/\(h=110->lD 2 (nW h c))/\(h=107->lD 3 (nW h c))/\(h=115->lD 7 (nW h c)):=by
 unfold oL at a;have b:(c==104||jL c)=Î->-1<=(if c=104 then-1 else(c-48)%256)/\(if c=104 then(-1:Int)else(c-48)%256)<1000000:=λq=>by split<;>omega
 have d:jL c=Î->0<=(if c=104 then-1 else(c-48)%256)/\(if c=104 then(-1:Int)else(c-48)%256)<1000000:=λq=>by rw[Ez]at q;grind
 refine⟨?_,?_,?_,?_,?_,?_,?_⟩<;>rintro rfl
 .exact b a
 .exact b a
 .exact⟨aaS a,Me _ _⟩
 .exact⟨aaS a,Me _ _⟩
 .exact d a
 .exact d a
 .exact⟨apS a,Me _ _⟩
theorem apU{lb:Int}(a:jL c=Î)(b:0<=h)(d:0<lb)(e:lb<=5)(f:h<10^(6-lb.toNat)):0<=sV h c/\sV h c<10^(6-(lb-1).toNat)/\sV h c<1000000:=by
 rw[Ez]at a;have g:h<100000->sV h c=h*10+(c-48):=λq=>by unfold sV;rw[Ļ (h*10) ⟨Z,Z⟩,Ļ _ ⟨Z,Z⟩];omega
 have i:lb=1\/lb=2\/lb=3\/lb=4\/lb=5:=Z
 grind
def kl.lb(h:kl d)(a z:Int)(c:a=86\/a=87\/a=110\/a=107)(b:0<=z/\z<1000000):kl (d.fY a z):= h.fY a z ⟨λ_=>⟨Z,b.2⟩,λ_=>⟨Z,b.2⟩,λe=>by omega,λe=>by omega,λ_=>b,λ_=>b,λe=>by omega⟩
def jr.apV(h:jr B k st)(e:0<st.r)(j:jL c=Î):jr B (k+1) (EB st c):=by
 let⟨a,b,l,m⟩:=h.e e;let⟨f,n,o⟩:=apU j l e h.r m;let⟨g,i,p⟩:=TD st.d st.M<|sV (st.d.G st.M) c;refine⟨by show 0<=st.r-1;omega,by have:=h.r;show st.r-1<=5;omega,h.C,h.I,λ_=>⟨a,g.trans b,?_⟩,h.d.lb _ _ a ⟨f,o⟩,?_,λq=> ?_,λq=>i.trans<|h.N q,λq=>i.trans<|h.a q,λq=> ?_,λq=> ?_⟩
 .show 0<=(st.d.fY st.M<|sV (st.d.G st.M) c).G st.M/\(st.d.fY st.M<|sV (st.d.G st.M) c).G st.M<10^(6-(st.r-1).toNat);rw[TF h.d b _ _ a];exact⟨f,n⟩
 .exact È<|g.trans b
 .show(st.d.fY st.M<|sV (st.d.G st.M) c).C.length<24;rw[p];exact h.b q
 .have:=(h.S q).2;omega
 .have:=(h.S q).2;omega
def jr.uW(h:jr B k st):jr B k {st with r:=0}:= ⟨Ť _,by show(0:Int)<=5;decide,h.C,h.I,(λq=>by cases q),h.d,h.c,h.b,h.N,h.a,λq=>⟨(h.S q).1,rfl⟩,h.Y⟩
theorem jr.on(h:jr B k st)(a:82∉st.C):st.d.r=Î:=by rcases h.c with q|q;all_goals grind
def kl.apW(h:kl d)(a:d.M=Î):d.r=Î:=by
 cases e:d.r with
 |true=>rfl
 |false=>have:=(h.N e).2;rw[a]at this;cases this
theorem aaT(h:jr B k st)(b:st.r=0)(on:st.d.r=Î)(a:pA st c=Â o):jr B (k+1) o:=by
 unfold pA at a;split at a
 .rename_i e;cases a;refine⟨h.M,h.r,h.C,h.I,λq=> ?_,h.d,Ï U,λ_=> ?_,λq=> ?_,λq=> ?_,λq=> ?_,λq=> ?_⟩
  .grind
  .rw[xB,on];exact e.2
  .simp at q
  .simp at q
  .simp at q
  .simp at q
 .split at a
  .rename_i e;cases a;refine⟨h.M,h.r,h.C,h.I,λq=> ?_,h.d.nz on e.2.2,È on,λq=> ?_,λ_=>rfl,λq=> ?_,λq=> ?_,λq=> ?_⟩;all_goals grind
  .cases a
def apX(q:Int):82∉qL q/\84∉qL q/\80∉qL q:=by
 unfold qL;repeat' split
 all_goals decide
theorem apY(q:Int):82∉rL q/\84∉rL q/\66∉rL q/\(80∈rL q->rL q=[80]):=by unfold rL;grind
def apZ(c:Int):0<=uD c/\uD c<10:=by
 unfold uD;repeat' split
 all_goals decide
theorem ap0(h:jr B k st)(i:st.r=0)(f:82∈st.C)(a:vC st (uD c)=Â o):jr B (k+1) o:=by
 unfold vC at a;split at a
 .cases a
 .rename_i e;cases a;let⟨g,j,b⟩:=apX<|uD c;have l:=apZ c;refine⟨h.M,h.r,h.C,h.I,λq=> ?_,h.d.EA _ Z<|h.b f,È U,λq=>absurd q g,λq=> ?_,λ_=>rfl,λq=>absurd q b,λq=>absurd q b⟩;all_goals grind
theorem ap1(h:jr B k st)(c:st.r=0)(q:Int)(f:84∈st.C)(a:vD st q=Â o):jr B (k+1) o:=by
 unfold vD at a;split at a
 .cases a
 .cases a;let⟨g,m,i,l⟩:=apY q;have b:=h.N<|È f;refine⟨h.M,h.r,Ť _,by show(0:Int)<=40;decide,λq=> ?_,h.d.pz 4 q λe=>by omega,È<|h.d.apW b,λq=>absurd q g,λ_=>b,λq=>absurd q i,λq=>⟨l q,c⟩,λ_=>⟨Ø _,λj _ n p=> ?_⟩⟩;all_goals grind
theorem ap2{a:Int}(h:0<rM a c):(a=86\/a=87)/\rM a c=1/\jL c=Î/\c≠48\/(a=110\/a=107)/\rM a c=5/\jL c=Î/\c≠48:=by unfold rM at h|-;grind
theorem aaU(h:jr B k st)(on:st.d.r=Î){want:Int}(l:oL want c=Î)(r:List Int)(a:∀x∈r,x∈st.C)(g:80∉r):jr B (k+1) {oh st want c with C:=r}:=by
 let⟨m,i,n⟩:=TD st.d want<|nW want c;have j:=aps want c;refine⟨j.1,j.2,h.C,h.I,λq=> ?_,h.d.fY _ _<|apT l,È<|m.trans on,λq=> ?_,λq=>i.trans<|h.N<|q.imp (a _)<|a _,λq=>i.trans<|h.a<|a _ q,λq=>absurd q g,λq=>absurd q g⟩
 .have q:=q;show(want=86\/want=87\/want=110\/want=107)/\(st.d.fY want<|nW want c).r=Î/\0<=(st.d.fY want<|nW want c).G want/\(st.d.fY want<|nW want c).G want<10^(6-(rM want c).toNat);rcases ap2 q with⟨o,b,e,p⟩|⟨o,b,e,p⟩
  .have f:want=86\/want=87\/want=110\/want=107:=Z
   rw[TF h.d on _ _ f,b];rw[Ez]at e;have:nW want c=(c-48)%256:=by unfold nW;grind
   grind
  .have f:want=86\/want=87\/want=110\/want=107:=Z
   rw[TF h.d on _ _ f,b];rw[Ez]at e;have:nW want c=(c-48)%256:=by unfold nW;grind
   grind
 .show(st.d.fY want<|nW want c).C.length<24;rw[n];exact h.b<|a _ q
def ap3{x:UInt8}(h:x∈(B.extract i b).data.toList):∃j,∃e:j<B.size,i<=j/\j<b/\B[j]=x:=by rw[Ĳ,ĺ,ħ]at h;obtain⟨c,d,rfl⟩:=Ğ h;simp only[Ś,List.length_drop,ĝ]at d;have f:B.data.size=B.size:=rfl;exact⟨i+c,Z,Z,Z,by simp[ċ]⟩
theorem ap4(h:jr B k st)(l:st.r=0)(F:k<B.size)(a:kJ B k st (B[k].toNat:Int)=Â o):jr B (k+1) o:=by
 unfold kJ at a;split at a
 .rename_i e;exact aaT h l (h.on<|by rw[e];decide) a
 .rename_i t p e;have c:t∈st.C:=by rw[e];exact List.mem_cons_self ..
  split at a
  .rename_i f;subst f;exact ap0 h l c a
  rename_i G;have i:st.d.r=Î:=by rcases h.c with q|q;all_goals grind
  split at a
  .rename_i f;subst f;split at a
   .rename_i u;cases a;have n:=h.a c;have b:st.d.Y.length<8:=by rw[HY,h.d.b n,n];decide
    have v:jr B k {st with C:=[84],d:=st.d.nz}:=by refine⟨h.M,h.r,h.C,h.I,λq=> ?_,h.d.nz i b,È i,λq=> ?_,λ_=>rfl,λq=> ?_,λq=> ?_,λq=> ?_⟩;all_goals grind
    exact aaU (want:=120) v i u [84] (λx b=>b) A
   .exact aaT h l i a
  split at a
  .rename_i f;subst f;exact ap1 h l _ c a
  split at a
  .rename_i f;subst f;let⟨H,w⟩:=h.Y c;have n:=h.N<|Ï c;have y:=(h.S c).1;have I:=h.C;have J:=h.I;split at a
   .cases a;have z:p=[]:=by rw[y]at e;cases e;rfl
    subst z;refine⟨h.M,h.r,h.C,h.I,λq=> ?_,h.d.oN _ ⟨by rw[č];omega,λx b=> ?_⟩,È i,λq=> ?_,λq=> ?_,λq=> ?_,λq=> ?_,λq=> ?_⟩
    .grind
    .obtain⟨j,r,m,s,rfl⟩:=ap3 b;exact w j r m s
    .cases q
    .grind
    .cases q
    .cases q
    .cases q
   .split at a
    .cases a
    .rename_i g;cases a;have K:=λq=>g<|È q;have C:=λq=>g<|Ï q;refine⟨h.M,h.r,by show 0<=st.I+1;omega,by show st.I+1<=40;omega,h.e,h.d,h.c,h.b,h.N,h.a,h.S,λ_=>⟨by show(st.I+1).toNat<=k+1;omega,λj r m s=> ?_⟩⟩;have m:k+1-(st.I+1).toNat<=j:=m;by_cases D:j=k
     .subst D;unfold xl;simpa using C
     .grind
  split at a
  .rename_i L M N E;cases a;refine aaU h i E p (λx b=>by rw[e];exact Ė _ b) λq=> ?_;have:=(h.S<|by rw[e];exact Ė _ q).1;grind
  .cases a
def aaV(h:jr B k st)(b:k<B.size)(a:nA B k st (B[k].toNat:Int)=Â o):jr B (k+1) o:=by
 unfold nA at a;split at a
 .rename_i e;cases a;exact h.apV e.1 e.2
 .exact ap4 h.uW U b a
def TH(B:ByteArray):jr B 0 mO:= ⟨A,A,A,A,(λq=>by cases q),⟨λ_=>⟨rfl,rfl⟩,λ_=>rfl,A,A,(λr e=>by cases e),(λe=>by cases e),(λe=>by cases e),(λe=>by cases e)⟩,Ï rfl,λ_=>by decide,(λq=>by rcases q with q|q<;>simp[mO]at q),(λq=>by simp[mO]at q),(λq=>by simp[mO]at q),(λq=>by simp[mO]at q)⟩
def TJ:∀(f k:Nat) (st:PS),jr B k st->k<=B.size->jr B (om B f k st).1 (om B f k st).2/\(om B f k st).1<=B.size
 |0,k,st,h,hk=>⟨h,hk⟩
 |f+1,k,st,h,hk=>by
  unfold om;split
  .rename_i a;split
   .exact⟨h,hk⟩
   .rename_i o e;exact TJ f (k+1) o (aaV h a e) Z
  .exact⟨h,hk⟩
end
section
variable{g:Gh}{st:PS}
def aaW{d:PD}(i:Nat)(z:Int):g.M (d.jM i z)=g.M d:=by unfold PD.jM Gh.M;split<;>simp[PD.pz,PD.oM, *]
def aaX{d:PD}(h:i=2\/i=3)(z:Int):g.B1 (d.jM i z) (if i=2 then 110 else 107)=⟨g.M d,i,Á⟩:=by
 rcases h with rfl|rfl
 .show(⟨g.M<|d.jM 2 z,2,Á⟩:ù)=_;rw[aaW]
 .show(⟨g.M<|d.jM 3 z,3,Á⟩:ù)=_;rw[aaW]
def aaY{d:PD}(on:d.r=Î):g.S d=Â ⟨g.q,0,Á⟩:=if_pos on
def ap5{d:PD}(on:d.r=Î):g.G d=Â ⟨g.M d,0,Á⟩:=if_pos on
def KZ(h:gP m b g O B st w)(j:st.r=0)(on:st.d.r=Î)(a c:Int)(v:oL a c=Î): Ò À 100 #[Ã<|Â ⟨b,0,Á⟩,Å ū a,Å ū c] w λe u=>e=Ç (ë #[])/\rO m b (oh st a c) w u:=by
 have G:w.cell? ⟨b,2,Á⟩=Â (Ã<|g.S st.d):=h.r.r 2 _ U;have x:w.cell? ⟨b,4,Á⟩=Â (Ã<|g.G st.d):=h.r.r 4 _ U;rw[aaY on]at G;rw[ap5 on]at x;have H:=fe<|Ê h v;clear h v;generalize y:g.M st.d=tm at x;have n:=fe y;clear y;by_cases o:a=86
 .subst o;have k:=fe (show oh st 86 c={st with r:=vG c 2,M:=86,d:=st.d.oM 5 (mB c)}from by unfold oh;rw[<-L9 H.out.2 (È ⟨È U,U⟩),Mb A];rfl);go_enter Ā,ü;go_wp2_with (go_at_call 147;refine(L8 H.out.1 (EE H.out.1.C H.out.1.r on (i:=5) A) j on _ _ 86 A A λz=>rfl).mono ?_;rintro e u ⟨rfl,l⟩);go_end0;exact⟨U,by rwa[k.out]⟩
 have I:(a==86)=Ë:=by rwa[beq_eq_false_iff_ne]
 by_cases p:a=87
 .subst p;have k:=fe (show oh st 87 c={st with r:=vG c 2,M:=87,d:=st.d.oM 6 (mB c)}from by unfold oh;rw[<-L9 H.out.2 (È ⟨Ï U,U⟩),Mb A];rfl);go_enter Ā,ü;go_wp2_with (go_at_call 147;refine(L8 H.out.1 (EE H.out.1.C H.out.1.r on (i:=6) A) j on _ _ 87 A A λz=>rfl).mono ?_;rintro e u ⟨rfl,l⟩);go_end0;exact⟨U,by rwa[k.out]⟩
 have J:(a==87)=Ë:=by rwa[beq_eq_false_iff_ne]
 by_cases q:a=120
 .subst q;have f:=fe ((by have:=EF H.out.1.C H.out.1.r on (i:=0) A;rw[n.out]at this;exact this:qh m b g st.d tm 0 (λz=>st.d.jM 0 z) (st.d.vB 0) w));have C:=f.out.C;have D:=f.out.I;have E:=f.out.r;go_enter Ā,ü;go_wp2_with fail;go_region_with (go_at_call 146;refine(HR _ _ _).mono ?_;rintro e u ⟨rfl,F⟩;subst u);all_goals go_end0
  all_goals exact⟨U,TA H.out.1 f.out j (Ma A) U⟩
 have K:(a==120)=Ë:=by rwa[beq_eq_false_iff_ne]
 by_cases r:a=121
 .subst r;have f:=fe ((by have:=EF H.out.1.C H.out.1.r on (i:=1) A;rw[n.out]at this;exact this:qh m b g st.d tm 1 (λz=>st.d.jM 1 z) (st.d.vB 1) w));have C:=f.out.C;have D:=f.out.I;have E:=f.out.r;go_enter Ā,ü;go_wp2_with fail;go_region_with (go_at_call 146;refine(HR _ _ _).mono ?_;rintro e u ⟨rfl,F⟩;subst u);all_goals go_end0
  all_goals exact⟨U,TA H.out.1 f.out j (Ma A) U⟩
 have L:(a==121)=Ë:=by rwa[beq_eq_false_iff_ne]
 by_cases s:a=110
 .subst s;have k:=fe (show oh st 110 c={st with r:=vG c 6,M:=110,d:=st.d.jM 2 (mB c)}from by unfold oh;rw[<-L9 H.out.2 (Ï ⟨È U,U⟩),Mb A];rfl);go_enter Ā,ü;go_wp2_with (go_at_call 147;refine(L8 H.out.1 ((by have:=EF H.out.1.C H.out.1.r on (i:=2) A;rw[n.out]at this;exact this:qh m b g st.d tm 2 (λz=>st.d.jM 2 z) (st.d.vB 2) w)) j on _ _ 110 A A λz=>(by have:=aaX (g:=g) (d:=st.d) (i:=2) (È U) z;rwa[n.out]at this)).mono ?_;rintro e u ⟨rfl,l⟩);go_end0;exact⟨U,by rwa[k.out]⟩
 have M:(a==110)=Ë:=by rwa[beq_eq_false_iff_ne]
 by_cases t:a=107
 .subst t;have k:=fe (show oh st 107 c={st with r:=vG c 6,M:=107,d:=st.d.jM 3 (mB c)}from by unfold oh;rw[<-L9 H.out.2 (Ï ⟨Ï U,U⟩),Mb A];rfl);go_enter Ā,ü;go_wp2_with (go_at_call 147;refine(L8 H.out.1 ((by have:=EF H.out.1.C H.out.1.r on (i:=3) A;rw[n.out]at this;exact this:qh m b g st.d tm 3 (λz=>st.d.jM 3 z) (st.d.vB 3) w)) j on _ _ 107 A A λz=>(by have:=aaX (g:=g) (d:=st.d) (i:=3) (Ï U) z;rwa[n.out]at this)).mono ?_;rintro e u ⟨rfl,l⟩);go_end0;exact⟨U,by rwa[k.out]⟩
 have l:(a==107)=Ë:=by rwa[beq_eq_false_iff_ne]
 by_cases k:a=115
 .subst k;have f:=fe<|EE H.out.1.C H.out.1.r on (i:=7) A;have C:=f.out.C;have D:=f.out.I;have E:=f.out.r;go_enter Ā,ü;go_wp2_with fail;go_region_with (go_at_call 146;refine(HR _ _ _).mono ?_;rintro e u ⟨rfl,F⟩;subst u);all_goals go_end0
  all_goals exact⟨U,TA H.out.1 f.out j (Ma A) U⟩
 have f:(a==115)=Ë:=by rwa[beq_eq_false_iff_ne]
 go_enter Ā,ü;go_wp2;go_end0;refine⟨U,e9.fT _ _,g,O,B,?_⟩;have e:oh st a c={st with M:=a}:=by unfold oh PD.fY;rw[Ma ⟨Z,Z⟩,if_neg o,if_neg p,if_neg q,if_neg r,if_neg s,if_neg t,if_neg k,<-j]
 rw[e];exact H.out.1.Ty a j
end
section
variable{g:Gh}{s:ByteArray}{st:PS}{d:PD}
def Mf(m b:Nat)(o:Option PS)(e:Ending)(w u:Í):Prop:=
 (o=Á/\e=Ç (õ Ë)/\u=w)\/∃a,o=Â a/\e=Ç (õ Î)/\rO m b a w u
def aaZ{o:Option PS}{e:Ending}(h:match o with
 |none=>e=Ç (õ Ë)/\u=w
 |some a=>e=Ç (õ Î)/\rO m b a w u):Mf m b o e w u:=by
 cases o with
 |none=>exact È ⟨U,h⟩
 |some a=>exact Ï ⟨a,U,h⟩
def ap6{d:PD}(on:d.r=Î):d.C.length=d.S.length+1:=by rw[xB,on];rfl
def aa0(h:gP m b g O s st w)(j:st.r=0)(on:st.d.r=Î)(y:st.d.Y.length<=8)(z:st.d.C.length<=24)(c:Int): Ò À 95 #[Ã<|Â ⟨b,0,Á⟩,Å ū c] w λe u=>Mf m b (pA st c) e w u:=by
 have l:=h.C.r on;let⟨I,J,p⟩:=jf h.C.C;let⟨K,L,q⟩:=jf l.I;rw[h.C.aaG]at p;rw[l.G]at q;have M:=h.r.r 0 _ U;have r:=h.r.r 1 _ U;have B:=h.r.r 2 _ U;rw[aaY on]at B;rw[p]at r;have t:=l.r.r 8 _ (by have:=B2 st.d.I.c g.r;rwa[l.M]at this);rw[q]at t;have N:=h.r.C 0;obtain⟨v,f⟩:∃n,st.d.C.length=n:=⟨_,U⟩;obtain⟨x,i⟩:∃n,st.d.Y.length=n:=⟨_,U⟩;rw[f]at r z;rw[i]at t y;have k:st.d.S.length+1=v:=by rw[<-f];exact(ap6 on).symm
 have H:=fe<|Ê h<|Ê f<|Ê i<|Ê k j;by_cases C:c=59/\v<24
 .obtain⟨rfl,a⟩:=C;go_enter ť,ŗ;go_wp2;go_ret;let⟨h,f,i,k,j⟩:=H.out;exact Ï ⟨_,by rw[pA,if_pos ⟨U,Z⟩],U,mC h 0 _,g,O,_,h.L5 _ [82] A A<|È on⟩
 by_cases D:c=44/\0<x/\x<8
 .obtain⟨rfl,P,Q⟩:=D;go_enter ť,ŗ;go_wp2_with (go_at_call 99;refine(aaN H.out.1 H.out.2.2.2.2 on (by have:=H.out.2.2.1;omega)).mono ?_;rintro e u ⟨rfl,o,E,F,S,a⟩;have T:=a.r.r 0 _ U;have V:=a.r.C 0;have G:=fe<|Ê o a;clear o a);go_ret;let⟨h,f,i,k,j⟩:=H.out;let⟨o,a⟩:=G.out;exact Ï ⟨_,by rw[pA,if_neg Z,if_pos ⟨U,Z,Z⟩],U,o.fg<|mC a 0 _,E,F,_,a.L5 _ [120,84] A A<|È on⟩
 .have a:=fe (show pA st c=Á by
   let⟨h,f,i,k,j⟩:=H.out;rw[pA,if_neg Z,if_neg Z])
  go_enter ť,ŗ;go_wp2_with fail;all_goals first|(go_ret;exact È ⟨a.out,U,U⟩)|(exfalso;simp only[beq_iff_eq,decide_eq_true_eq]at*;omega)
def kA:Τ->Option Τ
 |ń c=>Â c
 |.seq a b=>match kA a with
  |some c=>Â c
  |none=>kA b
 |.block _ c=>kA c
 |.scope c=>kA c
 |.cond _ a b=>match kA a with
  |some c=>Â c
  |none=>kA b
 |_=>Á
noncomputable def qi:Τ:=(Tryz.f61.body.bind kA).getD ai
def pD(b:Nat)(B:ByteArray)(i:Ñ)(u:Nat->Ñ):Ĉ:=⟨#[Ã<|Â ⟨b,0,Á⟩,Ä B,ĸ,ĸ,Å É 0,i,u 6,u 7,u 8,u 9,u 10,u 11,u 12,u 13,u 14,u 15,u 16,u 17,u 18,u 19,u 20,u 21,u 22,u 23,u 24,u 25,u 26,u 27,u 28,u 29,u 30,u 31,u 32,u 33,u 34,u 35,u 36,u 37,u 38,u 39,u 40,u 41,u 42,u 43,u 44,u 45,u 46,u 47,u 48,u 49,u 50,u 51,u 52,u 53,u 54,u 55,u 56,u 57,u 58,u 59,u 60,u 61,u 62,u 63,u 64,u 65,u 66,u 67,u 68,u 69,u 70,u 71,u 72,u 73,u 74,u 75,u 76,u 77,u 78,u 79,u 80,u 81,u 82,u 83,u 84,u 85,u 86,u 87,u 88,u 89,u 90,u 91,u 92,u 93,u 94,u 95,u 96,u 97,u 98,u 99,u 100,u 101,u 102,u 103,u 104,u 105,u 106,u 107,u 108,u 109,u 110,u 111,u 112,u 113,u 114,u 115,u 116,u 117,u 118,u 119,u 120,u 121,u 122,u 123,u 124,u 125,u 126,u 127,u 128,u 129,u 130,u 131,u 132,u 133,u 134,u 135,u 136,u 137,u 138,u 139,u 140,u 141,u 142,u 143,u 144,u 145,u 146],[]⟩
def Fr(b:Nat)(B:ByteArray)(i:Ñ)(a:Ĉ):Prop:=∃u,a=pD b B i u
def gu{b:Nat}{B:ByteArray}{i:Value}{a:Act}(h:a=pD b B i (λn=>a.tmps.getD n undef):=by rfl):Fr b B i a:=⟨_,h⟩
def QQ(X:Ĉ->Í->Prop):Exit->Ĉ->Í->Prop
 |.exit 0,a,w=>X a w
 |_,_,_=>False
def rP(m b:Nat)(B:ByteArray)(k:Nat)(st:PS)(a u:Í):Prop:=∃(h:k<B.size) (h:PS),nA B k st (B[k].toNat:Int)=Â h/\rO m b h a u
def rQ(m b:Nat)(B:ByteArray)(k:Nat)(st:PS)(a u:Í):Prop:=∃h:k<B.size,nA B k st (B[k].toNat:Int)=Á/\∃c,rO m b c a u
theorem uG{d:Int}(h:(0<d/\yQ=Ë)\/d<=0):¬(0<d/\yQ=Î):=by grind
def uH(h:¬(0<st.r/\jL c=Î)):nA B k st c=kJ B k {st with r:=0} c:=if_neg h
def ap7(a:0<st.r)(b:jL c=Î):nA B k st c=Â (EB st c):=if_pos ⟨a,b⟩
section
variable{want:Int}
def ap8(h:st.C=[]):kJ B k st c=pA st c:=by rw[kJ,h]
def ap9(h:st.C=want::zQ)(a:want=82):kJ B k st c=vC st (uD c):=by rw[kJ,h];simp only;rw[if_pos a]
def aqa(h:st.C=want::zQ)(a:want=66)(b:rK c=Î):kJ B k st c=Â (oh {st with C:=[84],d:=st.d.nz} 120 c):=by rw[kJ,h];simp only;rw[if_neg Z,if_pos a,if_pos b]
def aqb(h:st.C=want::zQ)(a:want=66)(b:rK c=Ë):kJ B k st c=pA st c:=by rw[kJ,h];simp only;rw[if_neg Z,if_pos a,if_neg (by rw[b];decide)]
def aqc(h:st.C=want::zQ)(a:want=84):kJ B k st c=vD st (HQ c):=by rw[kJ,h];simp only;rw[if_neg Z,if_neg Z,if_pos a]
def aqd(h:st.C=want::zQ)(a:want=80)(b:c=125):kJ B k st c=Â {st with C:=zQ,d:=st.d.oN (B.extract (k-st.I.toNat) k)}:=by rw[kJ,h];simp only;rw[if_neg Z,if_neg Z,if_neg Z,if_pos a,if_pos b]
def aa1(h:st.C=want::zQ)(a:want=80)(b:¬c=125)(d:st.I=40\/lL c=0):kJ B k st c=Á:=by rw[kJ,h];simp only;rw[if_neg Z,if_neg Z,if_neg Z,if_pos a,if_neg b,if_pos d]
def aqe(h:st.C=want::zQ)(a:want=80)(b:¬c=125)(d:¬st.I=40)(e:¬lL c=0):kJ B k st c=Â {st with I:=st.I+1}:=by rw[kJ,h];simp only;rw[if_neg Z,if_neg Z,if_neg Z,if_pos a,if_neg b,if_neg Z]
def aqf(h:st.C=want::zQ)(a:¬want=82)(b:¬want=66)(d:¬want=84)(e:¬want=80)(f:oL want c=Î):kJ B k st c=Â {oh st want c with C:=zQ}:=by rw[kJ,h];simp only;rw[if_neg a,if_neg b,if_neg d,if_neg e,if_pos f]
def aqg(h:st.C=want::zQ)(a:¬want=82)(b:¬want=66)(d:¬want=84)(e:¬want=80)(f:oL want c=Ë):kJ B k st c=Á:=by rw[kJ,h];simp only;rw[if_neg a,if_neg b,if_neg d,if_neg e,if_neg (by rw[f];decide)]
end
def uI(c:UInt8):(0:Int)<=(c.toNat:Int)/\(c.toNat:Int)<256:=⟨Int.natCast_nonneg _,by have:=c.toNat_lt;omega⟩
def TK(s:ByteArray)(h:s.size=0):(s.toList==[])=Î:=by simp_all
theorem sW(s:ByteArray)(h:¬s.size=0):(s.toList==[])=Ë:=by
 rw[beq_eq_false_iff_ne];intro e;have:s.toList.length=s.size:=by rw[ByteArray.toList_eq];rfl
 grind
def gP.aqh(h:gP m b g O s st w)(on:st.d.r=Î)(i:c=86\/c=87\/c=110\/c=107):∃a e f,g.B1 st.d c=⟨a,e,Á⟩/\qh m b g st.d a e f (st.d.G c) w/\∀z,f z=st.d.fY c z:=by
 rcases i with rfl|rfl|rfl|rfl
 .exact⟨_,_,_,U,EE h.C h.r on A,λz=>rfl⟩
 .exact⟨_,_,_,U,EE h.C h.r on A,λz=>rfl⟩
 .exact⟨_,_,_,U,EF h.C h.r on A,λz=>rfl⟩
 .exact⟨_,_,_,U,EF h.C h.r on A,λz=>rfl⟩
def gP.oN(h:gP m b g O s st w)(on:st.d.r=Î)(a:st.d.M=Î)(p:ByteArray):gP m b g O s {st with d:=st.d.oN p} (w.setCell ⟨g.t,5,Á⟩<|Ä p)/\e9 (λi=>m<=i) w (w.setCell ⟨g.t,5,Á⟩<|Ä p):=by have l:=h.C.r on;let⟨f,j,c⟩:=l.C a;have e:e9 (λi=>i=g.t) w (w.setCell ⟨g.t,5,Á⟩<|Ä p):=pC c;exact⟨⟨h.S,h.a.r _ trivial,h.r.I e λx=>fh.S h.r c A x,h.M,h.I,h.C.oN on a p,h.c,h.N⟩,e.S λi _ x=>by have:=l.S;omega⟩
def gP.aa2(h:gP m b g O s st w)(on:st.d.r=Î)(a:st.C=c::zQ):gP m b g O (s.extract 1 s.size) {st with C:=zQ} (w.setCell ⟨b,0,Á⟩<|Ä<|s.extract 1 s.size):= h.L5 _ zQ (apr s h.M) (by rw[apq,h.I,a];rfl)<|È on
def gP.aqi(h:gP m b g O s st w)(a:st.C=c::zQ):0<s.size:=by have:=To s;rw[h.I,a]at this;simp at this;omega
end
section
variable{g:Gh}{s:ByteArray}{st:PS}{d:PD}
def aqj(h:gP m b g O s st w)(a:st.r=0)(c:st.d.r=Ë->st.d.S=[])(f:st.d.C.length<=100000)(k:Int): Ò À 96 #[Ã<|Â ⟨b,0,Á⟩,Å É k] w λe u=>Mf m b (vC st k) e w u:=(apQ h a c f k).mono λ_ _ q=>aaZ q
def aqk(h:gP m b g O s st w)(a:st.r=0)(on:st.d.r=Î)(c:st.d.M=Î)(k:Int): Ò À 101 #[Ã<|Â ⟨b,0,Á⟩,Å É k] w λe u=>Mf m b (vD st k) e w u:=(apI h a on c k).mono λ_ _ q=>aaZ q
theorem aql{X:Ĉ->Í->Prop}{a:Ĉ}(G:Fr b B (Å É k) a) (h:gP m b g O s st w) (i:jr B k st) (Q:B.size<=1200) (H:k<B.size) (n:0<st.r) (I:jL (B[k].toNat:Int)=Î) (S:∀a u,Fr b B (Å É<|(k:Int)+1) a/\rP m b B k st w u->K a u) (_hQ:∀a u,Fr b B (Å É k) a/\rQ m b B k st w u->X a u): à À qi (Exit.then K<|QQ X) a w:=by
 obtain⟨c,rfl⟩:=G;unfold pD;conv=>arg 2;whnf
 have T:w.cell? ⟨b,0,Á⟩=Â (Ä s):=h.r.r 0 _ U;have V:w.cell? ⟨b,6,Á⟩=Â (Å É st.r):=h.r.r 6 _ U;have W:w.cell? ⟨b,7,Á⟩=Â (Å É st.I):=h.r.r 7 _ U;have Y:=h.r.C 0;have f6:=h.r.C 6;have f7:=h.r.C 7;have d0:=i.M;have d1:=i.r;have e0:=i.C;have e1:=i.I;let⟨q,on,_,_⟩:=i.e n;let⟨r,ao,f,t,j,v⟩:=h.aqh on q;have J:w.cell? ⟨b,5,Á⟩=Â (Ã O):=h.r.r 5 _ U;rw[(h.c n).2,t]at J;obtain⟨x,o⟩:∃x,st.d.G st.M=x:=⟨_,U⟩;have L:=j.C;rw[o]at L;have fm:=j.I;obtain⟨M,N⟩:∃y,wrap64 (x*10)=y:=⟨_,U⟩;obtain⟨l,P⟩:∃y,wrap64 (M+((B[k].toNat:Int)-48)%256)=y:=⟨_,U⟩;have Mg:¬r=b:=j.r;have Mh:¬b=r:=λe=>j.r e.symm;have z:=h.Y (st.r-1) λ_=>h.c n;have p:=j.S 6<|Å É<|st.r-1;have C:=z.G p l;have D:sV (st.d.G st.M) (B[k].toNat:Int)=l:=by rw[sV,š,š,o,N,P]
 have E:EB st (B[k].toNat:Int)={st with r:=st.r-1,d:=f l}:=by rw[EB,D,v]
 have F:Hid (nA B k st (B[k].toNat:Int)=Â {st with r:=st.r-1,d:=f l}/\rO m b {st with r:=st.r-1,d:=f l} w (ξ _)):= fe ⟨by rw[ap7 n I,E],(((mC h 6 _).fg<|EG (st:=st) p _).C (e9.fR ff _) λ_ _ x=>x.elim),g,O,s,C.fR⟩;clear z p C D E j v t h i o q;go_wp2_with (go_at_call 94;refine(rN _ _).mono ?_;rintro e u ⟨rfl,hw⟩;subst u);go_region;all_goals
  go_wp2;exact⟨gu,⟨H,_,F.out.1,F.out.2⟩⟩
theorem aqm{X:Ĉ->Í->Prop}(z:Fr b B (Å É k) y) (i:gP m b g O s st w) (j:jr B k st) (Q:B.size<=1200) (l:k<B.size) (n:(0<st.r/\jL (B[k].toNat:Int)=Ë)\/st.r<=0) (o:s.size=0) (S:∀y u,Fr b B (Å É<|(k:Int)+1) y/\rP m b B k st w u->K y u) (C:∀y u,Fr b B (Å É k) y/\rQ m b B k st w u->X y u): à À qi (Exit.then K<|QQ X) y w:=by
 obtain⟨f,rfl⟩:=z;unfold pD;conv=>arg 2;whnf
 have T:w.cell? ⟨b,0,Á⟩=Â (Ä s):=i.r.r 0 _ U;have V:w.cell? ⟨b,6,Á⟩=Â (Å É st.r):=i.r.r 6 _ U;have W:w.cell? ⟨b,7,Á⟩=Â (Å É st.I):=i.r.r 7 _ U;have Y:=i.r.C 0;have f6:=i.r.C 6;have f7:=i.r.C 7;have d0:=j.M;have d1:=j.r;have e0:=j.C;have e1:=j.I;have p:=fe<|uH (B:=B) (k:=k)<|uG n;have r:=i.Y 0 λh=>absurd h A;have t:=fe<|mC i 6<|Å É 0;have D:=j.d.C;have E:=j.d.I;have F:=fe r;let⟨tx,zz⟩:=uI B[k];have qD:=TK s o;have h:st.C=[]:=by rw[<-i.I];exact aaC s o
 have G:st.d.r=Î:=by
  rcases i.N with q|q
  .exact q
  .rw[h]at q;cases q
 have v:=fe<|ap8 (B:=B) (k:=k) (c:=(B[k].toNat:Int)) (st:={st with r:=0}) h;clear h i j;rcases n with⟨H,oH⟩|H;all_goals
  go_wp2_with (first|(go_at_call 94;refine(rN _ _).mono ?_;rintro e u ⟨rfl,x⟩;subst u)|(go_at_call 95;refine(aa0 r U G E D _).mono ?_;rintro e u (⟨q,rfl,x⟩|⟨I,q,rfl,J,L,M,N,P⟩)))
  .subst x;exact C _ _ ⟨gu,⟨l,p.out.trans<|v.out.trans q,_,t.out,_,_,_,F.out⟩⟩
  .exact⟨gu,⟨l,I,p.out.trans<|v.out.trans q,t.out.fg J,L,M,N,P⟩⟩
theorem aqn{X:Ĉ->Í->Prop}(z:Fr b B (Å É k) y) (i:gP m b g O s st w) (j:jr B k st) (P:B.size<=1200) (o:k<B.size) (p:(0<st.r/\jL (B[k].toNat:Int)=Ë)\/st.r<=0) (q:0<s.size) (l:((s[0]'q).toNat:Int)=82) (Q:∀y u,Fr b B (Å É<|(k:Int)+1) y/\rP m b B k st w u->K y u) (C:∀y u,Fr b B (Å É k) y/\rQ m b B k st w u->X y u): à À qi (Exit.then K<|QQ X) y w:=by
 obtain⟨f,rfl⟩:=z;unfold pD;conv=>arg 2;whnf
 have S:w.cell? ⟨b,0,Á⟩=Â (Ä s):=i.r.r 0 _ U;have T:w.cell? ⟨b,6,Á⟩=Â (Å É st.r):=i.r.r 6 _ U;have V:w.cell? ⟨b,7,Á⟩=Â (Å É st.I):=i.r.r 7 _ U;have W:=i.r.C 0;have Y:=i.r.C 6;have f7:=i.r.C 7;have d0:=j.M;have d1:=j.r;have e0:=j.C;have e1:=j.I;have r:=fe<|uH (B:=B) (k:=k)<|uG p;have t:=i.Y 0 λh=>absurd h A;have v:=fe<|mC i 6<|Å É 0;have zC:=j.d.C;have B3:=j.d.I;have D:=fe t;let⟨tx,zz⟩:=uI B[k];have qD:=sW s Z;have xC:s.size<=10:=i.M;have E:=fe (show st.C=(s[0].toNat:Int)::(jU s).tail by rw[<-i.I];exact vA s q);have x:=fe<|ap9 (B:=B) (k:=k) (c:=(B[k].toNat:Int)) (st:={st with r:=0}) E.out l;have xD:((s[0].toNat:Int)==82)=Î:=by rw[l];rfl
 have F:=fe λe=>(j.d.N e).1;clear l i j;rcases p with⟨G,oH⟩|G;all_goals
  go_wp2_with (first|(go_at_call 94;refine(rN _ _).mono ?_;rintro e u ⟨rfl,h⟩;subst u)|(go_at_call 97;refine(apA _ _).mono ?_;rintro e u ⟨rfl,h⟩;subst u)|(go_at_call 96;refine(aqj t U F.out (by show st.d.C.length<=100000;omega) _).mono ?_;rintro e u (⟨n,rfl,h⟩|⟨H,n,rfl,I,J,L,M,N⟩)))
  .subst h;exact C _ _ ⟨gu,⟨o,r.out.trans<|x.out.trans n,_,v.out,_,_,_,D.out⟩⟩
  .exact⟨gu,⟨o,H,r.out.trans<|x.out.trans n,v.out.fg I,J,L,M,N⟩⟩
end
section
variable{g:Gh}{s:ByteArray}{st:PS}{d:PD}
def aqo{X:Ĉ->Í->Prop}(t:Fr b B (Å É k) y) (f:gP m b g O s st w) (i:jr B k st) (M:B.size<=1200) (v:k<B.size) (l:(0<st.r/\jL (B[k].toNat:Int)=Ë)\/st.r<=0) (n:0<s.size) (j:((s[0]'n).toNat:Int)=66) (o:rK (B[k].toNat:Int)=Î) (N:∀y u,Fr b B (Å É<|(k:Int)+1) y/\rP m b B k st w u->K y u) (_hQ:∀y u,Fr b B (Å É k) y/\rQ m b B k st w u->X y u): à À qi (Exit.then K<|QQ X) y w:=by
 obtain⟨c,rfl⟩:=t;unfold pD;conv=>arg 2;whnf
 have P:w.cell? ⟨b,0,Á⟩=Â (Ä s):=f.r.r 0 _ U;have Q:w.cell? ⟨b,6,Á⟩=Â (Å É st.r):=f.r.r 6 _ U;have S:w.cell? ⟨b,7,Á⟩=Â (Å É st.I):=f.r.r 7 _ U;have T:=f.r.C 0;have V:=f.r.C 6;have W:=f.r.C 7;have Y:=i.M;have d1:=i.r;have e0:=i.C;have e1:=i.I;have x:=fe<|uH (B:=B) (k:=k)<|uG l;have p:=f.Y 0 λh=>absurd h A;have z:=fe<|mC f 6<|Å É 0;have zC:=i.d.C;have B3:=i.d.I;have HH1:=fe p;let⟨C,D⟩:=uI B[k];have qD:=sW s Z;have xC:s.size<=10:=f.M;have h:=fe (show st.C=(s[0].toNat:Int)::(jU s).tail by rw[<-f.I];exact vA s n);have r:st.d.r=Î:=by
  rcases f.N with q|q
  .exact q
  .rw[h.out]at q;injection q with q;omega
 have q:=fe<|aqa (B:=B) (k:=k) (st:={st with r:=0}) h.out j o;have xD:((s[0].toNat:Int)==82)=Ë:=by rw[j];rfl
 have EK:((s[0].toNat:Int)==66)=Î:=by rw[j];rfl
 clear j f i;rcases l with⟨E,oH⟩|E;all_goals
  go_wp2_with (first|(go_at_call 94;refine(rN _ _).mono ?_;rintro e u ⟨rfl,F⟩;subst u)|(go_at_call 98;refine(Tp _ C D _).mono ?_;rintro e u ⟨rfl,F⟩;subst u)|(go_at_call 99;refine(aaN p U r<|by show st.d.Y.length<=100000;omega).mono ?_;rintro e u ⟨rfl,F,H,I,J,G⟩)|(go_at_call 100;refine(KZ G U r _ _<|show oL 120 _=Î from o).mono ?_;rintro e w'' ⟨rfl,G,H,I,J,L⟩))
  exact⟨gu,⟨v,_,x.out.trans q.out,z.out.fg<|F.fg G,H,I,J,L⟩⟩
def aqp{X:Ĉ->Í->Prop}(z:Fr b B (Å É k) y) (f:gP m b g O s st w) (i:jr B k st) (V:B.size<=1200) (l:k<B.size) (n:(0<st.r/\jL (B[k].toNat:Int)=Ë)\/st.r<=0) (o:0<s.size) (j:((s[0]'o).toNat:Int)=66) (C:rK (B[k].toNat:Int)=Ë) (W:∀y u,Fr b B (Å É<|(k:Int)+1) y/\rP m b B k st w u->K y u) (D:∀y u,Fr b B (Å É k) y/\rQ m b B k st w u->X y u): à À qi (Exit.then K<|QQ X) y w:=by
 obtain⟨c,rfl⟩:=z;unfold pD;conv=>arg 2;whnf
 have Y:w.cell? ⟨b,0,Á⟩=Â (Ä s):=f.r.r 0 _ U;have c6:w.cell? ⟨b,6,Á⟩=Â (Å É st.r):=f.r.r 6 _ U;have c7:w.cell? ⟨b,7,Á⟩=Â (Å É st.I):=f.r.r 7 _ U;have f0:=f.r.C 0;have f6:=f.r.C 6;have f7:=f.r.C 7;have d0:=i.M;have d1:=i.r;have e0:=i.C;have e1:=i.I;have p:=fe<|uH (B:=B) (k:=k)<|uG n;have r:=f.Y 0 λh=>absurd h A;have t:=fe<|mC f 6<|Å É 0;have E:=i.d.C;have F:=i.d.I;have G:=fe r;let⟨H,I⟩:=uI B[k];have qD:=sW s Z;have xC:s.size<=10:=f.M;have v:=fe (show st.C=(s[0].toNat:Int)::(jU s).tail by rw[<-f.I];exact vA s o);have J:st.d.r=Î:=by
  rcases f.N with q|q
  .exact q
  .rw[v.out]at q;injection q with q;omega
 have x:=fe<|aqb (B:=B) (k:=k) (st:={st with r:=0}) v.out j C;have xD:((s[0].toNat:Int)==82)=Ë:=by rw[j];rfl
 have EK:((s[0].toNat:Int)==66)=Î:=by rw[j];rfl
 clear j f i;rcases n with⟨L,oH⟩|L;all_goals
  go_wp2_with (first|(go_at_call 94;refine(rN _ _).mono ?_;rintro e u ⟨rfl,h⟩;subst u)|(go_at_call 98;refine(Tp _ H I _).mono ?_;rintro e u ⟨rfl,h⟩;subst u)|(go_at_call 95;refine(aa0 r U J F E _).mono ?_;rintro e u (⟨q,rfl,h⟩|⟨M,q,rfl,N,P,Q,S,T⟩)))
  .subst h;exact D _ _ ⟨gu,⟨l,p.out.trans<|x.out.trans q,_,t.out,_,_,_,G.out⟩⟩
  .exact⟨gu,⟨l,M,p.out.trans<|x.out.trans q,t.out.fg N,P,Q,S,T⟩⟩
theorem aqr{X:Ĉ->Í->Prop}(C:Fr b B (Å É k) y) (i:gP m b g O s st w) (j:jr B k st) (Q:B.size<=1200) (o:k<B.size) (p:(0<st.r/\jL (B[k].toNat:Int)=Ë)\/st.r<=0) (r:0<s.size) (l:((s[0]'r).toNat:Int)=84) (S:∀y u,Fr b B (Å É<|(k:Int)+1) y/\rP m b B k st w u->K y u) (D:∀y u,Fr b B (Å É k) y/\rQ m b B k st w u->X y u): à À qi (Exit.then K<|QQ X) y w:=by
 obtain⟨f,rfl⟩:=C;unfold pD;conv=>arg 2;whnf
 have T:w.cell? ⟨b,0,Á⟩=Â (Ä s):=i.r.r 0 _ U;have V:w.cell? ⟨b,6,Á⟩=Â (Å É st.r):=i.r.r 6 _ U;have W:w.cell? ⟨b,7,Á⟩=Â (Å É st.I):=i.r.r 7 _ U;have Y:=i.r.C 0;have f6:=i.r.C 6;have f7:=i.r.C 7;have d0:=j.M;have d1:=j.r;have e0:=j.C;have e1:=j.I;have t:=fe<|uH (B:=B) (k:=k)<|uG p;have v:=i.Y 0 λh=>absurd h A;have x:=fe<|mC i 6<|Å É 0;have zC:=j.d.C;have B3:=j.d.I;have E:=fe v;let⟨tx,zz⟩:=uI B[k];have qD:=sW s Z;have xC:s.size<=10:=i.M;have h:=fe (show st.C=(s[0].toNat:Int)::(jU s).tail by rw[<-i.I];exact vA s r);have F:st.d.r=Î:=by
  rcases i.N with q|q
  .exact q
  .rw[h.out]at q;injection q with q;omega
 have G:st.d.M=Î:=j.N (by rw[h.out,l];simp);have z:=fe<|aqc (B:=B) (k:=k) (c:=(B[k].toNat:Int)) (st:={st with r:=0}) h.out l;have xD:((s[0].toNat:Int)==82)=Ë:=by rw[l];rfl
 have EK:((s[0].toNat:Int)==66)=Ë:=by rw[l];rfl
 have EL:((s[0].toNat:Int)==84)=Î:=by rw[l];rfl
 clear l i j;rcases p with⟨H,oH⟩|H;all_goals
  go_wp2_with (first|(go_at_call 94;refine(rN _ _).mono ?_;rintro e u ⟨rfl,q⟩;subst u)|(go_at_call 102;refine(apz _ _).mono ?_;rintro e u ⟨rfl,q⟩;subst u)|(go_at_call 101;refine(aqk v U F G _).mono ?_;rintro e u (⟨n,rfl,q⟩|⟨I,n,rfl,J,L,M,N,P⟩)))
  .subst q;exact D _ _ ⟨gu,⟨o,t.out.trans<|z.out.trans n,_,x.out,_,_,_,E.out⟩⟩
  .exact⟨gu,⟨o,I,t.out.trans<|z.out.trans n,x.out.fg J,L,M,N,P⟩⟩
end
section
variable{g:Gh}{s:ByteArray}{st:PS}{d:PD}
theorem aqs{X:Ĉ->Í->Prop}(N:Fr b B (Å É k) y) (i:gP m b g O s st w) (j:jr B k st) (hB:B.size<=1200) (P:k<B.size) (E:(0<st.r/\jL (B[k].toNat:Int)=Ë)\/st.r<=0) (F:0<s.size) (l:((s[0]'F).toNat:Int)=80) (r:(B[k].toNat:Int)=125) (hK:∀y u,Fr b B (Å É<|(k:Int)+1) y/\rP m b B k st w u->K y u) (_hQ:∀y u,Fr b B (Å É k) y/\rQ m b B k st w u->X y u): à À qi (Exit.then K<|QQ X) y w:=by
 obtain⟨f,rfl⟩:=N;unfold pD;conv=>arg 2;whnf
 have c0:w.cell? ⟨b,0,Á⟩=Â (Ä s):=i.r.r 0 _ U;have c6:w.cell? ⟨b,6,Á⟩=Â (Å É st.r):=i.r.r 6 _ U;have Q:w.cell? ⟨b,7,Á⟩=Â (Å É st.I):=i.r.r 7 _ U;have f0:=i.r.C 0;have f6:=i.r.C 6;have f7:=i.r.C 7;have d0:=j.M;have d1:=j.r;have S:=j.C;have T:=j.I;have G:=fe<|uH (B:=B) (k:=k)<|uG E;have v:=i.Y 0 λh=>absurd h A;have H:=fe<|mC i 6<|Å É 0;have zC:=j.d.C;have B3:=j.d.I;have V:=fe v;let⟨tx,zz⟩:=uI B[k];have qD:=sW s Z;have xC:s.size<=10:=i.M;have h:=fe (show st.C=(s[0].toNat:Int)::(jU s).tail by rw[<-i.I];exact vA s F);have z:st.d.r=Î:=by
  rcases i.N with q|q
  .exact q
  .rw[h.out]at q;injection q with q;omega
 have C:st.d.M=Î:=j.N (by rw[h.out,l];simp);have W:w.cell? ⟨b,3,Á⟩=Â (Ã<|g.Y st.d):=i.r.r 3 _ U;rw[HT C]at W;let⟨Y,I,q⟩:=(i.C.r z).C C;have TL:w.cell? ⟨g.t,5,Á⟩=Â (Ä st.d.N.p):=q.r 5 _ (by have:=B2 st.d.N.c<|Ä st.d.N.p;rwa[I]at this);have TM:=q.C 5;have Mh:¬b=g.t:=λe=>fh.S q i.r A e.symm;have Mg:¬g.t=b:=fh.S q i.r A;let⟨Mi,_⟩:=j.Y (by rw[h.out,l];simp);have xD:((s[0].toNat:Int)==82)=Ë:=by rw[l];rfl
 have EK:((s[0].toNat:Int)==66)=Ë:=by rw[l];rfl
 have EL:((s[0].toNat:Int)==84)=Ë:=by rw[l];rfl
 have HZ:((s[0].toNat:Int)==80)=Î:=by rw[l];rfl
 clear Y I q;have J:=fe<|aqd (B:=B) (k:=k) (st:={st with r:=0}) h.out l r;have TN:((B[k].toNat:Int) !=125)=Ë:=by rw[r];rfl
 obtain⟨n,L⟩:∃t:Nat,st.I=(t:Int):=⟨st.I.toNat,Z⟩;have o:=v.oN z C<|B.extract (k-n) k;have M:=o.1.aa2 z h.out;have D:=fe (Ê (show nA B k st (B[k].toNat:Int)=Â {({st with r:=0}:PS)with C:=(jU s).tail,d:=st.d.oN (B.extract (k-n) k)} by rw[G.out,J.out,show({st with r:=0}:PS).I.toNat=n by show st.I.toNat=n;omega])<|Ê ((H.out.fg o.2).fg<|mC o.1 0<|Ä<|s.extract 1 s.size) M);rw[L]at Q S T Mi;clear r l i j o M L J G H V v;rcases E with⟨Bm,oH⟩|Bm;all_goals
  go_wp2_with (first|(go_at_call 94;refine(rN _ _).mono ?_;rintro e u ⟨rfl,x⟩;subst u))
  go_region
  all_goals
   go_wp2;exact⟨gu,⟨P,_,D.out.1,D.out.2.1.C (e9.fR ff _) λ_ _ x=>x.elim,_,_,_,D.out.2.2.fR⟩⟩
theorem aqt{X:Ĉ->Í->Prop}(C:Fr b B (Å É k) y) (i:gP m b g O s st w) (j:jr B k st) (Q:B.size<=1200) (D:k<B.size) (v:(0<st.r/\jL (B[k].toNat:Int)=Ë)\/st.r<=0) (x:0<s.size) (l:((s[0]'x).toNat:Int)=80) (o:¬(B[k].toNat:Int)=125) (r:st.I=40) (_hK:∀y u,Fr b B (Å É<|(k:Int)+1) y/\rP m b B k st w u->K y u) (E:∀y u,Fr b B (Å É k) y/\rQ m b B k st w u->X y u): à À qi (Exit.then K<|QQ X) y w:=by
 obtain⟨f,rfl⟩:=C;unfold pD;conv=>arg 2;whnf
 have S:w.cell? ⟨b,0,Á⟩=Â (Ä s):=i.r.r 0 _ U;have T:w.cell? ⟨b,6,Á⟩=Â (Å É st.r):=i.r.r 6 _ U;have V:w.cell? ⟨b,7,Á⟩=Â (Å É st.I):=i.r.r 7 _ U;have W:=i.r.C 0;have Y:=i.r.C 6;have f7:=i.r.C 7;have d0:=j.M;have d1:=j.r;have e0:=j.C;have e1:=j.I;have F:=fe<|uH (B:=B) (k:=k)<|uG v;have G:=i.Y 0 λh=>absurd h A;have H:=fe<|mC i 6<|Å É 0;have zC:=j.d.C;have B3:=j.d.I;have I:=fe G;let⟨tx,zz⟩:=uI B[k];have qD:=sW s Z;have xC:s.size<=10:=i.M;have n:=fe (show st.C=(s[0].toNat:Int)::(jU s).tail by rw[<-i.I];exact vA s x);have J:st.d.r=Î:=by
  rcases i.N with q|q
  .exact q
  .rw[n.out]at q;injection q with q;omega
 have q:st.d.M=Î:=j.N (by rw[n.out,l];simp);have L:w.cell? ⟨b,3,Á⟩=Â (Ã<|g.Y st.d):=i.r.r 3 _ U;rw[HT q]at L;let⟨M,z,h⟩:=(i.C.r J).C q;have TL:w.cell? ⟨g.t,5,Á⟩=Â (Ä st.d.N.p):=h.r 5 _ (by have:=B2 st.d.N.c<|Ä st.d.N.p;rwa[z]at this);have TM:=h.C 5;have Mh:¬b=g.t:=λe=>fh.S h i.r A e.symm;have Mg:¬g.t=b:=fh.S h i.r A;let⟨Mi,_⟩:=j.Y (by rw[n.out,l];simp);have xD:((s[0].toNat:Int)==82)=Ë:=by rw[l];rfl
 have EK:((s[0].toNat:Int)==66)=Ë:=by rw[l];rfl
 have EL:((s[0].toNat:Int)==84)=Ë:=by rw[l];rfl
 have HZ:((s[0].toNat:Int)==80)=Î:=by rw[l];rfl
 clear M z h;have TN:((B[k].toNat:Int) !=125)=Î:=by rwa[bne_iff_ne]
 have N:=fe<|aa1 (B:=B) (k:=k) (st:={st with r:=0}) n.out l o<|È r;have aa3:(st.I==40)=Î:=by rw[r];rfl
 clear r o l i j;rcases v with⟨P,oH⟩|P;all_goals
  go_wp2_with (first|(go_at_call 94;refine(rN _ _).mono ?_;rintro e u ⟨rfl,hw⟩;subst u))
  exact E _ _ ⟨gu,⟨D,F.out.trans N.out,_,H.out,_,_,_,I.out⟩⟩
theorem aqu{X:Ĉ->Í->Prop}(E:Fr b B (Å É k) y) (i:gP m b g O s st w) (j:jr B k st) (S:B.size<=1200) (F:k<B.size) (v:(0<st.r/\jL (B[k].toNat:Int)=Ë)\/st.r<=0) (x:0<s.size) (l:((s[0]'x).toNat:Int)=80) (o:¬(B[k].toNat:Int)=125) (r:¬st.I=40) (z:¬lL (B[k].toNat:Int)=0) (T:∀y u,Fr b B (Å É<|(k:Int)+1) y/\rP m b B k st w u->K y u) (_hQ:∀y u,Fr b B (Å É k) y/\rQ m b B k st w u->X y u): à À qi (Exit.then K<|QQ X) y w:=by
 obtain⟨f,rfl⟩:=E;unfold pD;conv=>arg 2;whnf
 have V:w.cell? ⟨b,0,Á⟩=Â (Ä s):=i.r.r 0 _ U;have W:w.cell? ⟨b,6,Á⟩=Â (Å É st.r):=i.r.r 6 _ U;have Y:w.cell? ⟨b,7,Á⟩=Â (Å É st.I):=i.r.r 7 _ U;have f0:=i.r.C 0;have f6:=i.r.C 6;have f7:=i.r.C 7;have d0:=j.M;have d1:=j.r;have e0:=j.C;have e1:=j.I;have G:=fe<|uH (B:=B) (k:=k)<|uG v;have H:=i.Y 0 λh=>absurd h A;have I:=fe<|mC i 6<|Å É 0;have zC:=j.d.C;have B3:=j.d.I;have C:=fe H;let⟨tx,zz⟩:=uI B[k];have qD:=sW s Z;have xC:s.size<=10:=i.M;have n:=fe (show st.C=(s[0].toNat:Int)::(jU s).tail by rw[<-i.I];exact vA s x);have J:st.d.r=Î:=by
  rcases i.N with q|q
  .exact q
  .rw[n.out]at q;injection q with q;omega
 have q:st.d.M=Î:=j.N (by rw[n.out,l];simp);have L:w.cell? ⟨b,3,Á⟩=Â (Ã<|g.Y st.d):=i.r.r 3 _ U;rw[HT q]at L;let⟨M,D,h⟩:=(i.C.r J).C q;have TL:w.cell? ⟨g.t,5,Á⟩=Â (Ä st.d.N.p):=h.r 5 _ (by have:=B2 st.d.N.c<|Ä st.d.N.p;rwa[D]at this);have TM:=h.C 5;have Mh:¬b=g.t:=λe=>fh.S h i.r A e.symm;have Mg:¬g.t=b:=fh.S h i.r A;let⟨Mi,_⟩:=j.Y (by rw[n.out,l];simp);have xD:((s[0].toNat:Int)==82)=Ë:=by rw[l];rfl
 have EK:((s[0].toNat:Int)==66)=Ë:=by rw[l];rfl
 have EL:((s[0].toNat:Int)==84)=Ë:=by rw[l];rfl
 have HZ:((s[0].toNat:Int)==80)=Î:=by rw[l];rfl
 clear M D h;have TN:((B[k].toNat:Int) !=125)=Î:=by rwa[bne_iff_ne]
 have N:=fe<|aqe (B:=B) (k:=k) (st:={st with r:=0}) n.out l o r z;have aa3:(st.I==40)=Ë:=by rwa[beq_eq_false_iff_ne]
 have yE:((lL (B[k].toNat:Int):Int)==0)=Ë:=by rw[beq_eq_false_iff_ne];omega
 clear r o l i j z;rcases v with⟨P,oH⟩|P;all_goals
  go_wp2_with (first|(go_at_call 94;refine(rN _ _).mono ?_;rintro e u ⟨rfl,Q⟩;subst u)|(go_at_call 103;refine(qa _ _).mono ?_;rintro e u ⟨rfl,Q⟩;subst u))
  exact⟨gu,⟨F,_,G.out.trans N.out,I.out.fg<|mC C.out 7 _,_,_,_,C.out.aaK _⟩⟩
theorem aqv{X:Ĉ->Í->Prop}(D:Fr b B (Å É k) y) (i:gP m b g O s st w) (j:jr B k st) (T:B.size<=1200) (E:k<B.size) (v:(0<st.r/\jL (B[k].toNat:Int)=Ë)\/st.r<=0) (x:0<s.size) (l:((s[0]'x).toNat:Int)=80) (o:¬(B[k].toNat:Int)=125) (z:¬st.I=40) (r:lL (B[k].toNat:Int)=0) (_hK:∀y u,Fr b B (Å É<|(k:Int)+1) y/\rP m b B k st w u->K y u) (F:∀y u,Fr b B (Å É k) y/\rQ m b B k st w u->X y u): à À qi (Exit.then K<|QQ X) y w:=by
 obtain⟨f,rfl⟩:=D;unfold pD;conv=>arg 2;whnf
 have V:w.cell? ⟨b,0,Á⟩=Â (Ä s):=i.r.r 0 _ U;have W:w.cell? ⟨b,6,Á⟩=Â (Å É st.r):=i.r.r 6 _ U;have Y:w.cell? ⟨b,7,Á⟩=Â (Å É st.I):=i.r.r 7 _ U;have f0:=i.r.C 0;have f6:=i.r.C 6;have f7:=i.r.C 7;have d0:=j.M;have d1:=j.r;have e0:=j.C;have e1:=j.I;have G:=fe<|uH (B:=B) (k:=k)<|uG v;have H:=i.Y 0 λh=>absurd h A;have I:=fe<|mC i 6<|Å É 0;have zC:=j.d.C;have B3:=j.d.I;have J:=fe H;let⟨tx,zz⟩:=uI B[k];have qD:=sW s Z;have xC:s.size<=10:=i.M;have n:=fe (show st.C=(s[0].toNat:Int)::(jU s).tail by rw[<-i.I];exact vA s x);have L:st.d.r=Î:=by
  rcases i.N with q|q
  .exact q
  .rw[n.out]at q;injection q with q;omega
 have q:st.d.M=Î:=j.N (by rw[n.out,l];simp);have M:w.cell? ⟨b,3,Á⟩=Â (Ã<|g.Y st.d):=i.r.r 3 _ U;rw[HT q]at M;let⟨N,C,h⟩:=(i.C.r L).C q;have TL:w.cell? ⟨g.t,5,Á⟩=Â (Ä st.d.N.p):=h.r 5 _ (by have:=B2 st.d.N.c<|Ä st.d.N.p;rwa[C]at this);have TM:=h.C 5;have Mh:¬b=g.t:=λe=>fh.S h i.r A e.symm;have Mg:¬g.t=b:=fh.S h i.r A;let⟨Mi,_⟩:=j.Y (by rw[n.out,l];simp);have xD:((s[0].toNat:Int)==82)=Ë:=by rw[l];rfl
 have EK:((s[0].toNat:Int)==66)=Ë:=by rw[l];rfl
 have EL:((s[0].toNat:Int)==84)=Ë:=by rw[l];rfl
 have HZ:((s[0].toNat:Int)==80)=Î:=by rw[l];rfl
 clear N C h;have TN:((B[k].toNat:Int) !=125)=Î:=by rwa[bne_iff_ne]
 have P:=fe<|aa1 (B:=B) (k:=k) (st:={st with r:=0}) n.out l o<|Ï r;have aa3:(st.I==40)=Ë:=by rwa[beq_eq_false_iff_ne]
 have yE:((lL (B[k].toNat:Int):Int)==0)=Î:=by rw[r];rfl
 clear z o l i j r;rcases v with⟨Q,oH⟩|Q;all_goals
  go_wp2_with (first|(go_at_call 94;refine(rN _ _).mono ?_;rintro e u ⟨rfl,S⟩;subst u)|(go_at_call 103;refine(qa _ _).mono ?_;rintro e u ⟨rfl,S⟩;subst u))
  exact F _ _ ⟨gu,⟨E,G.out.trans P.out,_,I.out,_,_,_,J.out⟩⟩
end
section
variable{g:Gh}{s:ByteArray}{st:PS}{d:PD}
def aqw{X:Ĉ->Í->Prop}(D:Fr b B (Å É k) y) (f:gP m b g O s st w) (i:jr B k st) (Q:B.size<=1200) (E:k<B.size) (v:(0<st.r/\jL (B[k].toNat:Int)=Ë)\/st.r<=0) (j:0<s.size) (n:¬((s[0]'j).toNat:Int)=82) (o:¬((s[0]'j).toNat:Int)=66) (p:¬((s[0]'j).toNat:Int)=84) (r:¬((s[0]'j).toNat:Int)=80) (x:oL ((s[0]'j).toNat:Int) (B[k].toNat:Int)=Î) (S:∀y u,Fr b B (Å É<|(k:Int)+1) y/\rP m b B k st w u->K y u) (_hQ:∀y u,Fr b B (Å É k) y/\rQ m b B k st w u->X y u): à À qi (Exit.then K<|QQ X) y w:=by
 obtain⟨c,rfl⟩:=D;unfold pD;conv=>arg 2;whnf
 have T:w.cell? ⟨b,0,Á⟩=Â (Ä s):=f.r.r 0 _ U;have V:w.cell? ⟨b,6,Á⟩=Â (Å É st.r):=f.r.r 6 _ U;have W:w.cell? ⟨b,7,Á⟩=Â (Å É st.I):=f.r.r 7 _ U;have Y:=f.r.C 0;have f6:=f.r.C 6;have f7:=f.r.C 7;have d0:=i.M;have d1:=i.r;have e0:=i.C;have e1:=i.I;have F:=fe<|uH (B:=B) (k:=k)<|uG v;have G:=f.Y 0 λh=>absurd h A;have H:=fe<|mC f 6<|Å É 0;have zC:=i.d.C;let⟨I,J⟩:=uI B[k];have qD:=sW s Z;have xC:s.size<=10:=f.M;have l:=fe (show st.C=(s[0].toNat:Int)::(jU s).tail by rw[<-f.I];exact vA s j);have z:st.d.r=Î:=by
  rcases f.N with q|q
  .exact q
  .rw[l.out]at q;injection q with q;omega
 have xD:((s[0].toNat:Int)==82)=Ë:=by rwa[beq_eq_false_iff_ne]
 have aqx:((s[0].toNat:Int)==66)=Ë:=by rwa[beq_eq_false_iff_ne]
 have EL:((s[0].toNat:Int)==84)=Ë:=by rwa[beq_eq_false_iff_ne]
 have HZ:((s[0].toNat:Int)==80)=Ë:=by rwa[beq_eq_false_iff_ne]
 have L:=fe<|aqf (B:=B) (k:=k) (st:={st with r:=0}) l.out n o p r x;have M:=fe x;clear n o p r f i;rcases v with⟨N,oH⟩|N;all_goals
  go_wp2_with (first|(go_at_call 94;refine(rN _ _).mono ?_;rintro e u ⟨rfl,h⟩;subst u)|(go_at_call 104;refine(aaE _ _ I J _).mono ?_;rintro e u ⟨rfl,h⟩;subst u)|(go_at_call 100;refine(KZ G U z _ _ M.out).mono ?_;rintro e P ⟨rfl,C,g',nm',q,h⟩;have k0:P.cell? ⟨b,0,Á⟩=Â (Ä q):=h.r.r 0 _ U;have kf0:=h.r.C 0;have tA:0<q.size:=h.aqi l.out;have atn:q.size<=10:=h.M;have t:=fe<|Ê C h;clear C h))
  exact⟨gu,⟨E,_,F.out.trans L.out,H.out.fg<|t.out.1.fg<|mC t.out.2 0 _,_,_,_,t.out.2.aa2 ((TD _ _ _).1.trans z) l.out⟩⟩
def aqy{X:Ĉ->Í->Prop}(t:Fr b B (Å É k) y) (f:gP m b g O s st w) (i:jr B k st) (L:B.size<=1200) (v:k<B.size) (r:(0<st.r/\jL (B[k].toNat:Int)=Ë)\/st.r<=0) (j:0<s.size) (l:¬((s[0]'j).toNat:Int)=82) (n:¬((s[0]'j).toNat:Int)=66) (o:¬((s[0]'j).toNat:Int)=84) (p:¬((s[0]'j).toNat:Int)=80) (x:oL ((s[0]'j).toNat:Int) (B[k].toNat:Int)=Ë) (_hK:∀y u,Fr b B (Å É<|(k:Int)+1) y/\rP m b B k st w u->K y u) (z:∀y u,Fr b B (Å É k) y/\rQ m b B k st w u->X y u): à À qi (Exit.then K<|QQ X) y w:=by
 obtain⟨c,rfl⟩:=t;unfold pD;conv=>arg 2;whnf
 have M:w.cell? ⟨b,0,Á⟩=Â (Ä s):=f.r.r 0 _ U;have N:w.cell? ⟨b,6,Á⟩=Â (Å É st.r):=f.r.r 6 _ U;have P:w.cell? ⟨b,7,Á⟩=Â (Å É st.I):=f.r.r 7 _ U;have Q:=f.r.C 0;have S:=f.r.C 6;have T:=f.r.C 7;have V:=i.M;have W:=i.r;have Y:=i.C;have e1:=i.I;have C:=fe<|uH (B:=B) (k:=k)<|uG r;have D:=f.Y 0 λh=>absurd h A;have E:=fe<|mC f 6<|Å É 0;have zC:=i.d.C;have B3:=i.d.I;have F:=fe D;let⟨G,H⟩:=uI B[k];have qD:=sW s Z;have xC:s.size<=10:=f.M;have h:=fe (show st.C=(s[0].toNat:Int)::(jU s).tail by rw[<-f.I];exact vA s j);have on:st.d.r=Î:=by
  rcases f.N with q|q
  .exact q
  .rw[h.out]at q;injection q with q;omega
 have xD:((s[0].toNat:Int)==82)=Ë:=by rwa[beq_eq_false_iff_ne]
 have aqx:((s[0].toNat:Int)==66)=Ë:=by rwa[beq_eq_false_iff_ne]
 have EL:((s[0].toNat:Int)==84)=Ë:=by rwa[beq_eq_false_iff_ne]
 have HZ:((s[0].toNat:Int)==80)=Ë:=by rwa[beq_eq_false_iff_ne]
 have q:=fe<|aqg (B:=B) (k:=k) (st:={st with r:=0}) h.out l n o p x;clear l n o p f i;rcases r with⟨I,oH⟩|I;all_goals
  go_wp2_with (first|(go_at_call 94;refine(rN _ _).mono ?_;rintro e u ⟨rfl,J⟩;subst u)|(go_at_call 104;refine(aaE _ _ G H _).mono ?_;rintro e u ⟨rfl,J⟩;subst u))
  exact z _ _ ⟨gu,⟨v,C.out.trans q.out,_,E.out,_,_,_,F.out⟩⟩
end
section
variable{g:Gh}{s:ByteArray}{c:PS}{d:PD}
theorem aqz{X:Ĉ->Í->Prop}(d:Fr b B (Å É k) y) (e:gP m b g O s c w) (f:jr B k c) (h:B.size<=1200) (i:k<B.size) (j:∀y v,Fr b B (Å É<|(k:Int)+1) y/\rP m b B k c w v->K y v) (l:∀y v,Fr b B (Å É k) y/\rQ m b B k c w v->X y v): à À qi (Exit.then K<|QQ X) y w:=by
 by_cases x:0<c.r/\jL (B[k].toNat:Int)=Î
 .grind [aql]
 have n:(0<c.r/\jL (B[k].toNat:Int)=Ë)\/c.r<=0:=by grind
 by_cases z:s.size=0
 .grind [aqm]
 have o:0<s.size:=Z
 by_cases q:(s[0].toNat:Int)=82
 .grind [aqn]
 by_cases p:(s[0].toNat:Int)=66
 .cases r:rK (B[k].toNat:Int)with
  |true=>exact aqo d e f h i n o p r j l
  |false=>exact aqp d e f h i n o p r j l
 by_cases r:(s[0].toNat:Int)=84
 .grind [aqr]
 by_cases t:(s[0].toNat:Int)=80
 .grind [aqs,aqt,aqv,aqu]
 cases u:oL (s[0].toNat:Int) (B[k].toNat:Int)with
 |true=>exact aqw d e f h i n o q p r t u j l
 |false=>exact aqy d e f h i n o q p r t u j l
def aqA{X:Ĉ->Í->Prop}(c:Fr b B (Å É k) y)(_hB:B.size<=1200)(e:¬k<B.size)(_hk:k<=B.size) (d:∀y v,Fr b B (Å É k) y/\v=w->X y v): à À qi (Exit.then K<|QQ X) y w:=by
 obtain⟨u,rfl⟩:=c;unfold pD;conv=>arg 2;whnf
 go_wp2;exact d _ _ ⟨gu,U⟩
def mQ(B:ByteArray):Nat×PS:=om B B.size 0 mO
def RI(m b:Nat)(B:ByteArray)(w:Í)(a:Ĉ)(d:Í):Prop:=
 ∃(k:Nat) (g:Gh) (O:Option ù) (s:ByteArray) (c:PS),k<=B.size/\Fr b B (Å É k) a/\gP m b g O s c d/\e9 (λi=>m<=i) w d/\jr B k c/\mQ B=om B (B.size-k) k c
def Rmu(B:ByteArray)(a:Ĉ)(_:Í):Nat:=B.size-(intOf<|a.tmps.getD 5 ĸ).toNat
def RX(m b:Nat)(B:ByteArray)(w:Í)(a:Ĉ)(d:Í):Prop:=
 ∃(k:Nat) (c:PS),k<=B.size/\Fr b B (Å É k) a/\rO m b c w d/\(mQ B).1=k/\(k=B.size->(mQ B).2=c)
def aa4{i:Int}{w:Í}(h:Fr b B (Å É i) y):Rmu B y w=B.size-i.toNat:=by obtain⟨u,rfl⟩:=h;rfl
def aqB{a:PS}(b:k<B.size)(d:nA B k c (B[k].toNat:Int)=Â a):om B (B.size-k) k c=om B (B.size-(k+1)) (k+1) a:=by rw[show B.size-k=(B.size-(k+1))+1 by omega,om,dif_pos b,d]
def aqC(a:k<B.size)(b:nA B k c (B[k].toNat:Int)=Á):om B (B.size-k) k c=(k,c):=by rw[show B.size-k=(B.size-(k+1))+1 by omega,om,dif_pos a,b]
def aqD(f:Fr b B (Å É 0) y)(h:gP m b g O s mO w)(q:B.size<=1200): à À (ń qi) (QQ<|RX m b B w) y w:=by
 apply Γ (RI m b B w) (Rmu B) ⟨0,g,O,s,mO,Ø _,f,h,e9.fT _ _,TH B,U⟩;rintro y x ⟨k,g,O,s,c,l,f,r,n,t,o⟩;by_cases i:k<B.size
 .refine aqz f r t q i ?_ ?_
  .rintro u v ⟨d,z,e,j,p,C,D,E,F⟩;refine⟨⟨k+1,C,D,E,e,Z,by simpa using d,F,n.fg p,aaV t i j,o.trans<|aqB i j⟩,?_⟩;rw[aa4 d,aa4 (w:=x) f];omega
  .rintro u v ⟨d,z,j,C,p,D⟩;have:=o.trans<|aqC i j;exact⟨k,C,l,d,⟨n.fg p,D⟩,by rw[this],λe=>by omega⟩
 .apply aqA f q i l;rintro u v ⟨d,rfl⟩;have:mQ B=(k,c):=by rw[o,show B.size-k=0 by omega];rfl
  exact⟨k,c,l,d,⟨n,g,O,s,r⟩,by rw[this],λ_=>by rw[this]⟩
def aqE(h:gP m b g O s mO w)(d:B.size<=1200): Ò À 61 #[Ã<|Â ⟨b,0,Á⟩,Ä B] w λe u=>
  ∃(k:Nat) (c:PS),k<=B.size/\e=Ç (Å É k)/\rO m b c w u/\(mQ B).1=k/\(k=B.size->(mQ B).2=c):=by
 go_enter Tryz.func61,Tryz.ntmps61;go_wp2;go_step3;go_wp2;go_step3;go_wp2;refine İ ?_ (aqD gu h d);rintro(_|(_|_)|_|_|_|_) a v hq;all_goals first|exact absurd hq id|skip
 let⟨k,c,f,i,j⟩:=hq;obtain⟨e,rfl⟩:=i;unfold pD;go_wp2;(try rw[Exit.noGoto_ret]);go_ret;exact⟨k,c,f,U,(fe j).out⟩
end
def ma(B:ByteArray):Int×Bool×List PR:=
 if B.size=0 then(0,Î,[])else(((mQ B).1:Int),decide ((mQ B).1=B.size)&&(decide ((mQ B).2.C=[])||decide ((mQ B).2.C=[66])),(mQ B).2.d.C)
def gU(B:ByteArray):Int×Int×List PR:=
 if 1200<B.size then(1,0,[])else if(ma B).2.1=Î then(0,0,(ma B).2.2)else(2,(ma B).1,[])
def B4(m:Nat)(v:Ñ)(b:List PR)(w:Í):Prop:=jy m w/\∃a,w.ownsRow m 148 1 v a.length (nD a)/\pB w.heap.size a b w
section
variable{g:Gh}{s:ByteArray}{a:PS}
def B4.oR(w:Í):B4 w.heap.size (Æ Á 0 0) [] w:=⟨jy.I w,[],⟨U,È ⟨U,U⟩⟩,pB.N _ _⟩
def gP.iM(h:gP m b g O s a w)(c:a.d.r=Ë->a.d.S=[])(n:Nat):B4 m g.N a.d.C (w.drewN n):= ⟨h.a.iP n,g.C a.d,ic h.C.C (e9.iP ff w n) λ_ _=>id,(h.C.aaO c).C (e9.iP ff w n) λ_ _ x=>x.elim⟩
def g0(m:Nat):Gh:={a:=[],q:=0,t:=0,B:=m,tb:=[],N:=Æ Á 0 0,r:=Æ Á 0 0,b:=Á}
def aqF(w:Í):gP w.heap.size w.heap.size (g0 w.heap.size) Á ⟨#[82]⟩ mO (w.alloc<|Û #[Ä ⟨#[82]⟩,Æ Á 0 0,Ã Á,Ã Á,Ã Á,Ã Á,Å É 0,Å É 0] 153):= ⟨æ _,(jy.I w).gG _ _ A A (λv e=>by simp at e;rcases e with rfl|rfl|rfl|rfl<;>trivial),fh.N w [Ä ⟨#[82]⟩,Æ Á 0 0,Ã Á,Ã Á,Ã Á,Ã Á,Å É 0,Å É 0] 153,A,A,⟨⟨U,È ⟨U,U⟩⟩,pB.N _ _,(λe=>by cases e),λ_=>rfl⟩,(λq=>by cases q),Ï rfl⟩
def aqG(s:ByteArray):jU s=[66]↔s.toList=[66]:=by
 unfold jU;rw[ByteArray.toList_eq];constructor
 .intro h;match hl:s.data.toList with
  |[]=>rw[hl]at h;simp at h
  |[x]=>
   rw[hl]at h;simp only[ŉ,Ő,List.cons.injEq,and_true]at h;have:x=66:=UInt8.toNat_inj.1 (by have:x.toNat=66:=Z;rw[this];rfl);rw[this]
  |x::y::r=>rw[hl]at h;simp at h
 .intro h;rw[h];rfl
def TO(a:¬B.size=0):(ma B).1=((mQ B).1:Int):=by rw[ma,if_neg a]
def aa5(a:¬B.size=0):(ma B).2.2=(mQ B).2.d.C:=by rw[ma,if_neg a]
def aqH(a:¬B.size=0)(h:¬(mQ B).1=B.size):(ma B).2.1=Ë:=by rw[ma,if_neg a];simp[h]
def aa6(a:¬B.size=0)(h:(mQ B).1=B.size){x:Bool}(b:x=(decide ((mQ B).2.C=[])||decide ((mQ B).2.C=[66]))):(ma B).2.1=x:=by rw[ma,if_neg a,b];simp[h]
def aqI(B:ByteArray):(mQ B).2.d.r=Ë->(mQ B).2.d.S=[]:=λe=>((TJ B.size 0 mO (TH B)<|Ø _).1.d.N e).1
theorem aa7(q:B.size<=1200): Ò À 45 #[Ä B] w λe u=>
  e9 ff w u/\∃v,e=Ç (ë #[v,Å É (ma B).1,õ (ma B).2.1])/\((ma B).2.1=Î->B4 w.heap.size v (ma B).2.2 u):=by
 by_cases a:B.size=0
 .have f:=TK B a;have n:=fe (show ma B=(0,Î,[])from if_pos a);go_enter ε,Ν;go_wp2;apply ÿ (v:=ë #[Æ Á 0 0,Å É 0,õ Î]) (by simp[Ń,Ĥ,go_sem]) U;exact⟨e9.fT _ _,_,by rw[n.out],λ_=>by rw[n.out];exact B4.oR w⟩
 .have f:=sW B a;have b:=fe a;go_enter ε,Ν;go_wp2_with (go_at_call 61;refine(aqE (aqF w) q).mono ?_;rintro e r ⟨k,d,i,rfl,⟨n,g,O,s,c⟩,h,t⟩);have l:e9 ff w r:=((e9.gG (λi=>w.heap.size<=i) w _ _).fg n).S λi D x=>by omega
  have E:=c.r.r 0 _ U;have F:=c.r.r 1 _ U;by_cases m:k=B.size
  .subst m;have y:=t U;subst y;have o:=fe c.I;have p:=fe λn=>c.iM (aqI B) n;have n:=fe h;have d:=fe l;have z:((B.size:Int)==(B.size:Int))=Î:=fp
   by_cases a:s.size=0
   .have f:=TK s a;have j:=fe (aa6 b.out n.out (x:=Î)<|by rw[<-o.out,aaC s a];rfl);go_quiet (fail);go_wp2;apply ÿ (v:=ë #[g.N,Å É B.size,õ Î]) (by simp[Ń,Ĥ,go_sem]) U;exact⟨d.out.fg<|e9.iP _ _ _,_,by rw[TO b.out,n.out,j.out],λ_=>by rw[aa5 b.out];exact p.out _⟩
   .have f:=sW s a;have j:=fe (aa6 b.out n.out (x:=(s.toList==[66])) (by
     rw[<-o.out];have C:¬jU s=[]:=λe=>by have:=To s;grind
     rw[decide_eq_false C,Bool.false_or,Ě,beq_iff_eq,decide_eq_true_iff,aqG]))
    go_quiet (fail)
    go_wp2;apply ÿ (v:=ë #[g.N,Å É B.size,õ<|s.toList==[66]]) (by simp[Ń,Ĥ,go_sem]) U;exact⟨d.out.fg<|e9.iP _ _ _,_,by rw[TO b.out,n.out,j.out],λ_=>by rw[aa5 b.out];exact p.out _⟩
  .have z:((k:Int)==(B.size:Int))=Ë:=by rw[beq_eq_false_iff_ne];omega
   have n:=fe (Ê h<|aqH b.out<|by rwa[h]);have d:=fe l;go_quiet (fail);go_wp2;apply ÿ (v:=ë #[g.N,Å É k,õ Ë]) (by simp[Ń,Ĥ,go_sem]) U;exact⟨d.out.fg<|e9.iP _ _ _,_,by rw[TO b.out,n.out.1,n.out.2],λe=>by rw[n.out.2]at e;cases e⟩
def aqJ(h:B.size<=Ē): Ò À 36 #[Ä B] w λe u=>
  e9 ff w u/\∃v,e=Ç (ë #[v,Å É (gU B).1,Å É (gU B).2.1])/\((gU B).1=0->B4 w.heap.size v (gU B).2.2 u)/\((gU B).1≠0->v=Æ Á 0 0):=by
 unfold Ē at h;by_cases b:1200<B.size
 .have a:=fe (show gU B=(1,0,[]) by rw[gU,if_pos b]);go_enter ļ,Ř;go_wp2;apply ÿ (v:=ë #[Æ Á 0 0,Å É 1,Å É 0]) (by simp[Ń,Ľ,go_sem]) U;exact⟨e9.fT _ _,_,by rw[a.out],(λe=>by rw[a.out]at e;cases e),λ_=>rfl⟩
 .have f:B.size<=1200:=Z
  cases c:(ma B).2.1 with
  |true=>
   have a:=fe (show gU B=(0,0,(ma B).2.2) by rw[gU,if_neg b,if_pos c]);go_enter ļ,Ř;go_wp2_with (go_at_call 45;refine(aa7 f).mono ?_;rintro e i ⟨d,v,rfl,g⟩);apply ÿ (v:=ë #[v,Å É 0,Å É 0]) (by simp[Ń,Ľ,go_sem]) U;exact⟨d,_,by rw[a.out],(λ_=>by rw[a.out];exact g c),λe=>by rw[a.out]at e;exact absurd U e⟩
  |false=>
   have a:=fe (show gU B=(2,(ma B).1,[]) by rw[gU,if_neg b,if_neg (by rw[c];exact Bool.false_ne_true)]);go_enter ļ,Ř;go_wp2_with (go_at_call 45;refine(aa7 f).mono ?_;rintro e i ⟨d,v,rfl,g⟩);apply ÿ (v:=ë #[Æ Á 0 0,Å É 2,Å É (ma B).1]) (by simp[Ń,Ľ,go_sem]) U;exact⟨d,_,by rw[a.out],(λe=>by rw[a.out]at e;cases e),λ_=>rfl⟩
end
end Go.Proofs.Y.sU
namespace Go.Proofs.Y.lZ
open Go Go.Conc Go.Proofs Go.RowKit Go.Proofs.Y.Lift Go.Proofs.Y.iC Go.Proofs.Y.fA Go.Proofs.Y.sU
structure H0(a:Nat)(t:PT)(w:Í):Prop where
 r:∃cs fz,w.heap[a]?=Â (Û cs 200 fz)
 c:∀i,i<5->w.cell? ⟨a,i,Á⟩=Â (Å É<|t.c.getD i 0)
 p:w.cell? ⟨a,5,Á⟩=Â (Ä t.p)
structure xE(r:Nat)(p:PR)(w:Í):Prop where
 c:∀i,i<8->w.cell? ⟨r,i,Á⟩=Â (Å É<|p.c.getD i 0)
 b:∃bp n cp,w.cell? ⟨r,8,Á⟩=Â (Æ bp n cp)/\n=p.r.length/\∀(j:Nat) (t:PT),p.r[j]?=Â t->∃tb a,bp=Â ⟨tb,0,Á⟩/\w.cell? ⟨tb,j,Á⟩=Â (Ã<|Â ⟨a,0,Á⟩)/\H0 a t w
structure RQ(rs:List PR)(v:Ñ)(U:Nat->Prop)(w:Í):Prop where
 C:kB nB U w
 I:fj (k9 U nB) v v
 M:∃bp cp,v=Æ bp rs.length cp/\∀(j:Nat) (p:PR),rs[j]?=Â p->∃sb r,bp=Â ⟨sb,0,Á⟩/\w.cell? ⟨sb,j,Á⟩=Â (Ã<|Â ⟨r,0,Á⟩)/\xE r p w
section
variable{f:Nat->Prop}{rs:List PR}{Y:fq}
theorem aqK(h:jh Y X u w){t:PT}(d:Y i n)(k:H0 i t u):H0 n t w:=by refine⟨?_,λb f=>(zx h).r d<|k.c b f,(zx h).C d k.p⟩;let⟨c,g,e,j,l,m,o,_⟩:=h.r i n d;let⟨r,s,q⟩:=k.r;grind
theorem aqL(h:jh Y X u w){r:Nat}{p:PR}(e:Y r i)(k:xE r p u):xE i p w:=by refine⟨λd f=>(zx h).r e<|k.c d f,?_⟩;let⟨G,n,g,l,m,o⟩:=k.b;let⟨x,q,s⟩:=zx h r i 8 _ e l;obtain⟨v,rfl,y⟩:=LV s;refine⟨v,n,g,q,m,λj t z=> ?_⟩;let⟨tb,a,B,C,H⟩:=o j t z;let⟨I,J,D⟩:=y _ B;obtain⟨E,rfl,F⟩:=zu D;let⟨K,L,M⟩:=zx h tb E j _ F C;grind [LU,zu,aqK]
theorem aqM(h:jh Y X u w)(b:fj Y v x)(a:RQ rs v f u):RQ rs x (λj=>∃i,f i/\Y i j) w:=by refine⟨Ti h a.C,LW b a.I,?_⟩;obtain⟨s,i,rfl,c⟩:=a.M;obtain⟨d,rfl,e⟩:=LV b;refine⟨d,i,U,λj p g=> ?_⟩;let⟨k,r,l,m,t⟩:=c j p g;let⟨y,z,n⟩:=e _ l;obtain⟨o,rfl,q⟩:=zu n;let⟨B,C,D⟩:=zx h k o j _ q m;grind [LU,zu,aqL]
def zD(k:W.heap[b]?=w.heap[b]?)(h:w.cell? ⟨b,i,Á⟩=Â z):W.cell? ⟨b,i,Á⟩=Â z:=by simp only[ß,k];exact h
def aqN(l:kB nB X w)(k:∀b,X b->W.heap[b]?=w.heap[b]?){r:Nat}{p:PR}(d:X r)(h:xE r p w):xE r p W:=by
 refine⟨λi e=>zD (k r d)<|h.c i e,?_⟩;let⟨u,n,v,m,x,y⟩:=h.b;refine⟨u,n,v,zD (k r d) m,x,λj t z=> ?_⟩;let⟨tb,a,o,q,f⟩:=y j t z;have s:X tb:=by have:=l.r d m;rw[o]at this;exact BX this
 have g:=BW<|l.r s q;exact⟨tb,a,o,zD (k tb s) q,⟨by rw[k a g];exact f.r,λi e=>zD (k a g)<|f.c i e,zD (k a g) f.p⟩⟩
def RQ.r(h:RQ rs v f w)(k:∀b,f b->W.heap[b]?=w.heap[b]?):RQ rs v f W:=by
 refine⟨h.C.C k,h.I,?_⟩;obtain⟨g,i,rfl,l⟩:=h.M;refine⟨g,i,U,λj p m=> ?_⟩;let⟨a,r,c,d,n⟩:=l j p m;have e:f a:=by have:=h.I;rw[c]at this;exact BX this
 exact⟨a,r,c,zD (k a e) d,aqN h.C k (BW<|h.C.r e d) n⟩
def aa8{v:Ñ}(h:mP m i v):fj (k9 (λd=>m<=d/\d<i) nB) v v:=by
 cases v with
 |int k n=>exact .iI k n
 |bool b=>exact .mf b
 |string i=>exact .kL i
 |pointer a=>cases a with
  |none=>exact .lE
  |some a=>exact fj.jN (Y:=k9 (λd=>m<=d/\d<i) nB) ⟨⟨U,h⟩,U,U⟩
 |slice a n c=>cases a with
  |none=>exact .nY n c
  |some a=>exact fj.kC (Y:=k9 (λd=>m<=d/\d<i) nB) ⟨⟨U,h⟩,U,U⟩ n c
 |_=>exact absurd h<|by simp[mP]
def aqO{v:Ñ}(h:mP m i v):xM v=Ë:=by
 cases v with
 |int k n=>cases k<;>first|rfl|exact absurd h<|by simp[mP]
 |_=>rfl
def aqP(h:jy m w):kB nB (λi=>m<=i/\i<w.heap.size) w:=λb i=>by let⟨c,e,f,g,j,k,l,n,d⟩:=h b _ i.1<|å i.2;exact⟨c,e,f,by rw[å i.2,g],j,po λv a=>aa8<|d v a,k,zw λv a=>aqO<|d v a,l,n⟩
theorem KY{base:Nat}(h:w.ownsRow base e 1 v jJ.length (nD jJ)):∃b f,v=Æ b jJ.length f/\∀(j r:Nat),jJ[j]?=Â r->∃a,b=Â ⟨a,0,Á⟩/\base<=a/\w.cell? ⟨a,j,Á⟩=Â (Ã<|Â ⟨r,0,Á⟩):=by
 obtain⟨m,⟨n,o⟩|⟨g,p,q,rfl,i,k,s,t,u,l⟩⟩:=h
 .grind
 .refine⟨_,_,U,λj r c=>⟨g,U,i,?_⟩⟩;have x:=(Õ.1 c).1;have d:(nD jJ)[j]?=Â (Ã<|Â ⟨r,0,Á⟩):=by simp[nD,c]
  rw[<-l,List.getElem?_take_of_lt Z]at d;simp only[ß,k,ö,ì,if_false];simpa using d
def aa9(h:fh n (ot zQ++[z]) T w)(a:i<zQ.length):w.cell? ⟨n,i,Á⟩=Â (Å É<|zQ.getD i 0):=h.r i _<|Tw a z
def abb(h:fh i (ot zQ++[z]) T w)(a:zQ.length=n):w.cell? ⟨i,n,Á⟩=Â z:=h.r n _<|by rw[<-a];exact B2 zQ z
def aqQ{r:PR}(h:vE i n r w):xE n r w:=by
 let⟨x,tb,e,l,y,b⟩:=h.I;refine⟨λa c=>aa9 e (by rwa[h.C]),?_⟩;obtain⟨m,o,rfl,p⟩:=KY l;refine⟨m,_,o,abb e h.C,b.r,λj t f=> ?_⟩;have g:j<tb.length:=by rw[b.r];exact(Õ.1 f).1
 let⟨s,u,z,v⟩:=p j tb[j]<|Ó g;let⟨_,_,k,d⟩:=b.I j tb[j] t (Ó g) f;exact⟨s,tb[j],u,v,⟨_,_,d⟩,λa c=>aa9 d (by rwa[k]),abb d k⟩
def aqR(h:B4 m v rs w):RQ rs v (λi=>m<=i/\i<w.heap.size) w:=by
 let⟨f,i,b,c⟩:=h;obtain⟨d,k,rfl,l⟩:=KY b;refine⟨aqP f,?_,d,k,by rw[c.I],λj p e=> ?_⟩
 .cases d with
  |none=>exact .nY _ _
  |some a=>
   have:=b.lt a.block (by rcases b.2 with⟨q,_⟩|⟨g,n,o,q,_⟩<;>(cases q;try rfl));exact aa8 this
 .have a:j<i.length:=by rw[c.I];exact(Õ.1 e).1
  let⟨g,q,o,n⟩:=l j i[j]<|Ó a;exact⟨g,i[j],q,n,aqQ<|c.M j i[j] p (Ó a) e⟩
end
def abd(B:ByteArray)(z:Ñ)(u:Í):Prop:=∃v,z=ë #[v,Å É (gU B).1,Å É (gU B).2.1]/\((gU B).1=0->∃a,RQ (gU B).2.2 v a u)
def aqS(B:ByteArray):wj (abd B):=λv u T D h=>by let⟨x,a,b⟩:=h;refine⟨x,a,λe=> ?_⟩;let⟨U,c⟩:=b e;exact⟨U,c.r λ_ _=>rfl⟩
def aqT{l:fc}(f:gw l)(s:¬l.q)(t:nB<=l.w.heap.size)(u:B.size<=Ē)(m:Bool)(h:ď)(k:List ď): fA.fi À m (λa n=>kH l a/\a.d=l.d/\∃v,n=G (h.finish<|ë #[v,Å É (gU B).1,Å É (gU B).2.1]) k/\((gU B).1=0->∃V,RQ (gU B).2.2 v V a.w/\∀b,V b->a.O b/\l.w.heap.size<=b)) l (G (è À 36 #[Ä B] Ą)<|h::k):=by
 let⟨X,c,C,V⟩:=yU 36 fO;have D:∀T,Ò À 36 #[Ä B] (World.tp (kY (λj=>False/\¬(lR l).O j) l.w) T 0) fun|Ç v,j=>abd B v j/\j5 j|_,_=>False:=λT=>by refine(aqJ u).mono ?_;rintro e p ⟨g,v,rfl,i,o⟩;exact⟨⟨v,U,λe=>⟨_,aqR<|i e⟩⟩,g.gR Ex⟩
 refine((DL xO KT yU (aqS B) fO C V (DN f) s (λb q=>q.elim) ⟨λb q=>q.elim,t⟩ (λg q=>by cases q) (po λv g=>by simp at g;subst g;exact .kL B) D m h k).lR f).fN ?_;rintro a n ⟨x',⟨Y,j,v,v',_,E,F,⟨v0,rfl,o⟩,H,I,_,J⟩,rfl,K,L,_,_⟩;cases F with
 |@nF _ cs'' hs mo=>
  let⟨M⟩:=cs'';match M,hs with
  |[x,y,z],_=>
   have g:=mo 0 fp fp;have p:=mo 1 fp fp;have r:=mo 2 fp fp;simp at g p r;cases p;cases r;refine⟨K,J,x,H,λe=> ?_⟩;let⟨U,N⟩:=o e;refine⟨_,aqM E g (N.r λ_ _=>rfl),λb V=> ?_⟩;let⟨i,_,P⟩:=V;let⟨Q,S⟩:=I i b P;have W:l.w.heap.size<=b:=S.elim (λq=>q.elim) λq=>q.elim (λq=>q.elim) id;refine⟨È (Q.resolve_right λq=> ?_),W⟩;rw[L]at q;have:=f.fu b q;omega
end Go.Proofs.Y.lZ
namespace Go.Proofs.Y.iC
open Go Go.Proofs Go.RowKit Go.Proofs.Y.Lift
def B5:List Ñ:=iu (j1 8)++[Æ Á 0 0,Å É 0,Æ Á 0 0]
def aqU(w:Í):Ò À 44 #[] w λe a=>∃c B,e=Ç (Æ (Â ⟨c,0,Á⟩) 1 1)/\fh B B5 147 a/\fh c [Ã<|Â ⟨B,0,Á⟩] 136 a/\e9 ff w a:=by
 have d:(iu<|j1 8).length=144:=rE _;have i:(iu (j1 8)++[Æ Á 0 0]).length=145:=by rw[Ù,d];rfl
 have f:=fe<|Ê d i;unfold B5;have j:=fe λW=>am5 W;generalize j1 8=s at*;go_enter Tryz.func44,Tryz.ntmps44;go_wp2_with (first
  |(go_at_call 60;refine(j.out _).mono ?_;rintro e W ⟨rfl,b⟩;have k:=fe b;clear b)
  |(with_reducible refine Đ U (Â 2) U _ _ (Ss U U f.out.1) ?_)
  |(with_reducible refine Đ U (Â 3) U _ _ (ano U U f.out.2) ?_)
  |(with_reducible refine Đ U (Â 4) U _ _ (h' U U) ?_))
 have g:=fh.N (W.alloc<|Û (iu s++[Æ Á 0 0,Å É 0,Æ Á 0 0]).toArray 147) [Ã<|Â ⟨W.heap.size,0,Á⟩] 136;have h:=e9.gG ff (W.alloc<|Û (iu s++[Æ Á 0 0,Å É 0,Æ Á 0 0]).toArray 147) #[Ã<|Â ⟨W.heap.size,0,Á⟩] 136;have l:(W.alloc<|Û (iu s++[Æ Á 0 0,Å É 0,Æ Á 0 0]).toArray 147).heap.size=W.heap.size+1:=fp
 rw[l]at g;have b:=fe<|Ê ((fh.N W (iu s++[Æ Á 0 0,Å É 0,Æ Á 0 0]) 147).I h id)<|Ê g<|(k.out.fg<|e9.gG ff W (iu s++[Æ Á 0 0,Å É 0,Æ Á 0 0]).toArray 147).fg h;go_ret;exact⟨W.heap.size+1,W.heap.size,U,b.out.1,b.out.2.1,b.out.2.2⟩
def aqV(n:Int)(j:1<=n)(k:n<=8)(w:Í):Ò À 35 #[Å É n] w λe b=>∃g a B,e=Ç (ë #[Ã<|Â ⟨g,0,Á⟩,Å É 0])/\fh g [Å É n,Æ (Â ⟨a,0,Á⟩) 1 1] 68 b/\fh B B5 147 b/\fh a [Ã<|Â ⟨B,0,Á⟩] 136 b/\e9 ff w b:=by go_enter ζ,Tryz.ntmps35;go_wp2_with (go_at_call 44;refine(aqU _).mono ?_;rintro e c ⟨a,B,rfl,f,h,i⟩;have d:=fe<|Ê f<|Ê h i;clear f h i);go_ret2;have f:=e9.gG ff c #[Å É n,Æ (Â ⟨a,0,Á⟩) 1 1] 68;exact⟨c.heap.size,a,B,U,fh.N c [Å É n,Æ (Â ⟨a,0,Á⟩) 1 1] 68,d.out.1.I f id,d.out.2.1.I f id,d.out.2.2.fg f⟩
end Go.Proofs.Y.iC
namespace Go.Proofs.Y.lZ
open Go Go.Conc Go.Proofs Go.RowKit Go.Proofs.Y.Lift Go.Proofs.Y.iC Go.Proofs.Y.fA Go.Proofs.Y.sU
section
variable{Y:fq}{a:Nat->Prop}
def abe:∀v∈B5,(∃k n,v=Å k n/\k≠ū)\/(∃p,v=Ä p)\/v=Æ Á 0 0:=λv k=>by
 unfold B5 at k;rcases â.1 k with q|q
 .rcases Tg _ v q with⟨n,rfl⟩|⟨p,rfl⟩
  .exact È ⟨_,_,U,A⟩
  .exact Ï<|È ⟨p,U⟩
 .simp at q;rcases q with rfl|rfl|rfl
  .exact Ï<|Ï U
  .exact È ⟨_,_,U,A⟩
  .exact Ï<|Ï U
def abf:lq [iC.mB]:=⟨A,A,λv b=>by simp at b;subst b;exact⟨⟨(λp a=>by cases a),(λp a=>by cases a),Ø _,Ø _⟩,M',Ť _,show(0:Int)<1 by decide⟩⟩
def aqW(d:iC.fh n B5 147 w)(f:iC.fh i [Ã<|Â ⟨n,0,Á⟩] 136 w):RD [iC.mB] (Æ (Â ⟨i,0,Á⟩) 1 1) (λk=>k=i\/k=n) w:=by
 refine⟨[(n,iC.mB)],U,abf,⟨_,1,1,U,æ _,⟨U,λj b v e=> ?_⟩⟩,?_,fj.kC (Y:=k9 (λk=>k=i\/k=n) nB) ⟨⟨U,È U⟩,U,U⟩ 1 1⟩
 .cases j with
  |zero=>
   cases e;exact⟨_,0,U,f.r 0 _ U,(anp M'<|by rwa[ő])⟩
  |succ j=>simp at e
 .rintro b (rfl|rfl)
  .refine⟨_,_,_,f,fp,po λv c=> ?_,fp,zw λv c=> ?_,A,A⟩
   .simp at c;subst c;exact fj.jN (Y:=k9 (λk=>k=b\/k=n) nB) ⟨⟨U,Ï U⟩,U,U⟩
   .simp at c;subst c;rfl
  .refine⟨_,_,_,d,fp,po λv c=> ?_,by simp[B5],zw λv c=> ?_,A,A⟩
   .rcases abe v (by simpa using c)with⟨k,a,rfl,_⟩|⟨p,rfl⟩|rfl
    .exact .iI k a
    .exact .kL p
    .exact .nY 0 0
   .rcases abe v (by simpa using c)with⟨k,a,rfl,g⟩|⟨p,rfl⟩|rfl
    .cases k<;>first|rfl|exact absurd U g
    .rfl
    .rfl
def EM(b:Nat)(n:Int)(c:Ñ)(w:Í):Prop:=∃a,w.heap[b]?=Â (Û #[Å É n,c] 68 a)/\a=(0,0)
def EM.r(h:EM i c v w)(k:W.heap[i]?=w.heap[i]?):EM i c v W:=by let⟨a,b,d⟩:=h;exact⟨a,k.trans b,d⟩
def aqX(h:jh Y a u w)(g:∀b,¬a b)(q:Y i j)(k:iC.fh i [Å É c,v] 68 u):∃l,fj Y v l/\EM j c l w:=by
 let⟨d,r,e,D,s,m,t,z,_,B,_⟩:=h.r i j q;unfold iC.fh at k;rw[k]at m;cases m;have f:=z.N<|g j;let⟨C⟩:=r;match C,f.r with
 |[x,y],_=>
  have o:=f.C 0 fp fp;have p:=f.C 1 fp fp;simp at o p;cases o;exact⟨y,p,s,t,(B<|g j).symm⟩
end
def abg(n:Int)(z:Ñ)(u:Í):Prop:=∃a b B,z=ë #[Ã<|Â ⟨a,0,Á⟩,Å É 0]/\iC.fh a [Å É n,Æ (Â ⟨b,0,Á⟩) 1 1] 68 u/\RD [iC.mB] (Æ (Â ⟨b,0,Á⟩) 1 1) (λi=>i=b\/i=B) u/\a≠b/\a≠B
def aqY(n:Int):wj (abg n):=λv u T D h=>by let⟨b,c,B,d,e,a⟩:=h;exact⟨b,c,B,d,e,a.1.r λ_ _=>rfl,a.2⟩
def aqZ{l:fc}(p:gw l)(K:¬l.q)(L:nB<=l.w.heap.size){n:Int}(M:1<=n)(N:n<=8)(C:Bool)(r:ď)(s:List ď): fA.fi À C (λf D=>kH l f/\f.d=l.d/\∃a e,D=G (r.finish<|ë #[Ã<|Â ⟨a,0,Á⟩,Å É 0]) s/\EM a n e f.w/\f.O a/\l.w.heap.size<=a/\∃V,RD [iC.mB] e V f.w/\¬V a/\∀b,V b->f.O b/\l.w.heap.size<=b) l (G (è À 35 #[Å É n] Ą)<|r::s):=by
 let⟨fn,c,P,t⟩:=yU 35 fO;have Q:∀T,Ò À 35 #[Å É n] (World.tp (kY (λj=>False/\¬(lR l).O j) l.w) T 0) fun|Ç v,h=>abg n v h/\j5 h|_,_=>False:=λT=>by refine(aqV n M N _).mono ?_;rintro e z ⟨a,k,B,rfl,V,m,o,g⟩;exact⟨⟨a,k,B,U,V,aqW m o,iC.fh.S V o A,iC.fh.S V m A⟩,g.gR Ex⟩
 refine((DL xO KT yU (aqY n) fO P t (DN p) K (λb q=>q.elim) ⟨λb q=>q.elim,L⟩ (λg q=>by cases q) (po λv e=>by simp at e;subst e;exact .iI _ _) Q C r s).lR p).fN ?_;rintro f D ⟨u,⟨Y,h,v,v',_,g,S,⟨a,k,B,rfl,V,m,o,W⟩,X,q7,_,q6⟩,rfl,ha,hR,_,_⟩;have E:∀i j,Y i j->(o7 l u).O j/\l.w.heap.size<=j:=λi j e=>by let⟨z,F⟩:=q7 i j e;have H:l.w.heap.size<=j:=F.elim (λq=>q.elim) λq=>q.elim (λq=>q.elim) id;refine⟨È (z.resolve_right λq=> ?_),H⟩;rw[hR]at q;have:=p.fu j q;omega
 cases S with
 |@nF _ cs'' hs mo=>
  let⟨ls⟩:=cs'';match ls,hs with
  |[x,y],_=>
   have F:=mo 0 fp fp;have H:=mo 1 fp fp;simp at F H;cases H;obtain⟨a2,rfl,m3⟩:=LU F;obtain⟨I,rfl,z⟩:=zu m3;have h2':RD [iC.mB] (Æ (Â ⟨k,0,Á⟩) 1 1) (λi=>i=k\/i=B) {h with tape:=u.w.tape,drawn:=u.w.drawn}:=m.r λ_ _=>rfl;let⟨sJ,J,e2⟩:=aqX g (λj q=>q.1) z V;let⟨vs,k1,k2,k3,k4,k5⟩:=h2';let⟨vs',n1,n2⟩:=HL (zx g) J k3;let⟨p1,p2⟩:=E a I z;refine⟨ha,q6,I,sJ,X,e2,p1,p2,_,⟨vs',n1.trans k1,k2,n2,Ti g k4,LW J k5⟩,?_,λb t=> ?_⟩
   .rintro⟨i,hi,e⟩;have:=g.C.2.1 _ _ _ z e;subst this;exact hi.elim o W
   .let⟨i,_,e⟩:=t;exact E i b e
end Go.Proofs.Y.lZ
namespace Go.Proofs.Y.lZ
open Go Go.Conc Go.Proofs Go.RowKit Go.Proofs.Y.Lift Go.Proofs.Y.iC Go.Proofs.Y.fA Go.Proofs.Y.sU
structure uJ(an:Nat)(xs:List ByteArray)(w:Í):Prop where
 r:∀(p:Nat) (x:ByteArray),xs[p]?=Â x->w.cell? ⟨an,p,Á⟩=Â (Ä x)
 C:w.cell? ⟨an,xs.length,Á⟩=Á
section
variable{an:Nat}{xs:List ByteArray}
theorem uJ.qU(h:uJ an xs w)(j:0<xs.length):∃c e d,w.heap[an]?=Â (Û c e d)/\c.size=xs.length/\∀v∈c.toList,∃x,v=Ä x:=by
 have i:∀p,p<xs.length->w.cell? ⟨an,p,Á⟩=Â (Ä xs[p]!):=λp a=>h.r p _ (by simp[a]);have b:=i 0 j;have f:=h.C;simp only[ß]at b f;cases g:w.heap[an]? with
 |none=>rw[g]at b;cases b
 |some o=>
  cases o<;>rw[g]at b f<;>simp only[ö,ì,if_false]at b f<;>first|cases b|skip
  rename_i c e d;have k:c.size<=xs.length:=by grind
  have l:=λp a=>by have:=i p a;simp only[ß,g,ö,ì,if_false]at this;exact this
  have m:xs.length<=c.size:=by grind
  refine⟨c,e,d,U,Nat.le_antisymm k m,λv n=> ?_⟩;let⟨p,a⟩:=ė n;have q:p<c.size:=by have:=(Õ.1 a).1;simpa using this
  have:=l p Z;rw[ķ]at a;rw[this]at a;cases a;exact⟨_,U⟩
end
def aq0{l:fc}(o:gw l)(F:¬l.q)(H:nB<=l.w.heap.size)(h:uJ i vX l.w)(I:0<vX.length)(J:l.M i)(p:ln i=Ë)(f:kN l.w i=Â (0,0))(hn:vX.length<=1000)(K:B.size=1)(L:iE vX+vX.length<=140737488355328)(r:Bool)(k:ď)(m:List ď): fA.fi À r (λn s=>kH l n/\n.d=l.d/\s=G (k.finish<|Ä<|kZ B vX) m) l (G (è À 38 #[Æ (Â ⟨i,0,Á⟩) vX.length vX.length,Ä B] Ą)<|k::m):=by
 let⟨fn,c,N,P⟩:=yU 38 fO;let⟨t,e,Q,y,b2,z⟩:=h.qU I;have C:(λj=>j=i/\¬(lR l).O j)=λj=>j=i:=by funext j;exact propext ⟨λq=>q.1,λq=>⟨q,id⟩⟩
 have S:∀T,Ò À 38 #[Æ (Â ⟨i,0,Á⟩) vX.length vX.length,Ä B] (World.tp (kY (λj=>j=i) l.w) T 0) fun|Ç v,E=>v=Ä (kZ B vX)/\j5 E|_,_=>False:=λT=>by
  refine(Ta U Z (æ _) K (λj v a=> ?_) L).mono ?_
  .unfold jg at a;rw[ī]at a;obtain⟨x,b,rfl⟩:=ò.1 a;exact⟨i,0,U,by rw[œ];exact pw (È p)<|h.r j x b⟩
  .rintro e g ⟨rfl,b⟩;exact⟨U,b.gR Ex⟩
 have V:∀v∈t.toList,fj (pY (λj=>j=i) À.globals.size) v v:=λv a=>by obtain⟨x,rfl⟩:=z v a;exact .kL x
 have X:fQ (pY (λj=>j=i) À.globals.size) #[Æ (Â ⟨i,0,Á⟩) vX.length vX.length,Ä B] #[Æ (Â ⟨i,0,Á⟩) vX.length vX.length,Ä B]:=po λv a=>by
  have b:v=Æ (Â ⟨i,0,Á⟩) vX.length vX.length\/v=Ä B:=by simpa using a
  rcases b with rfl|rfl
  .exact fj.kC (Y:=pY (λj=>j=i) À.globals.size) ⟨⟨U,U⟩,U,U⟩ _ _
  .exact .kL B
 have W:=DL xO KT yU (λv u T D h=>h) fO N P (DN o) F (λb q=>Ï<|by rwa[q]) (by rw[C];refine⟨λb q=> ?_,H⟩;subst q;exact⟨t,e,Q,y,(by unfold kN at f;rw[y]at f;cases f;exact Ø _),po V,λ_=>⟨Z,(λq=>by rw[p]at q;cases q),λ_=>zw λv a=>by obtain⟨x,rfl⟩:=z v a;rfl⟩⟩) (λg q=>by cases q) X (by rwa[C]) r k m;refine(W.lR o).fN ?_;rintro n s ⟨D,⟨Y,E,v,v',_,_,b,rfl,g,_,_,u⟩,rfl,x,_,_,_⟩;cases b;exact⟨x,u,g⟩
end Go.Proofs.Y.lZ
namespace Go.Proofs.Y.fA
open Go Go.Conc Go.Proofs.Y.Lift
open Go.ConcN (sumTo sumTo_congr)
def TP(P:ω)(a:Ñ->Í->Prop):Jd:=λl g=>g.status=.running/\∃v,(∀w,stepG P Î g w=.ended (.done v) w)/\a v l.w
section
variable{Y:Nat->Prop}{e:Nat->fc}
def ky.mP{J:Jd}{T:gq}(c:ky P Y zX i J T D e E w qJ){sl:Option (Nat×Nat)}(k:vQ v u):Ξ P vQ (Į E w sl) (.done v) u qJ:=by
 have C:=c.r.r;have f:∀a g,E[a]?=Â g->a≠0->QuitsD P (D a) (Deaf qJ a) g:=λa g b d=>by
  let⟨g0,j,h,_,_⟩:=c.r.C a g b;obtain rfl:g=g0:=by cases h;rfl
  simp only[d,if_false]at j;rw[C.f a<|(á.1 b).1];exact j _<|fG.fT _ _
 refine⟨v,U,k,C.l,c.N,⟨λg l=> ?_,U⟩,λa g b d=>⟨D a,(f a g b d).hears _⟩⟩;let⟨j,h⟩:=ė l;rw[List.getElem?_drop]at h;exact⟨_,(f (1+j) g (by rwa[<-ķ]) Z).leaves⟩
theorem aq1{J:Jd}{T:gq}{l:fc}(u:l.w=W)(v:l.d=0)(m:¬l.q)(n:∀b,¬l.I b)(r:∀a,¬l.r a)(o:∀a,¬l.N a)(y:∀a,¬l.K a)(z:∀b,l.O b->b<W.heap.size)(B:g.status=.running)(C:kU P Î J T l g):rA P (λ_=>False) 0 J T (λ_=>0) (λ_=>l) #[g] W #[]:=by
 have f:∀(p:Nat) a,touchAt #[] p=Â a->False:=λp a h=>by unfold touchAt Trace.act? at h;simp at h
 refine⟨fp,⟨⟨λi j s D E=> ?_,λi j s D E=> ?_,λi _ b _=>n b,λi _ a _=>o a,λ_ _ _ _=>id,λi _ a e=>e.elim (λq=>absurd q<|r a) λq=>absurd q<|o a,λi _ b F=>F.elim (z b) λq=>absurd q<|n b,λ_ h=>h.elim,λi _=>by rw[u];exact fG.fT _ _,λi _=>⟨λa e p x k=>(f p x k).elim,λa e=>(n _ e).elim,λa e=>(r a e).elim,λa e=>(o a e).elim⟩,λi _=>by rw[v];rfl,λH q=> ?_,λI G=>by simp at G,λp a c h=>(f p a h).elim,λi _ a e=>absurd e<|y a⟩,λi x k=> ?_,λj _=>rfl⟩,λi L s=> ?_,m,λp a h=>(f p a h).elim,λp a x h=>(f p a h).elim,λa _ q m=> ?_,?_⟩
 .grind
 .grind
 .let⟨i,j,_,⟨a,b,e,_⟩,_⟩:=q;simp[Trace.act?]at e
 .have t:i<1:=(á.1 k).1;obtain rfl:i=0:=Z
  obtain rfl:g=x:=by simpa using k
  exact⟨g,C,.gi,È B,È U⟩
 .grind
 .simp[Trace.act?]at m
 .intro i g t;simp[Trace.g?]at t
end
end Go.Proofs.Y.fA
namespace Go.Proofs.Y.lZ
open Go Go.Conc Go.Proofs Go.RowKit Go.Proofs.Y.Lift Go.Proofs.Y.iC Go.Proofs.Y.fA Go.Proofs.Y.sU
open Go.ConcN (sumTo)
def zE(f:Ñ->Í->Prop)(c:Array Ċ)(w:Í)(d:Option (Nat×Nat))(t:Ž):Prop:=
 ∃N a v b e,ſ À (N+1) (Į c w d) t=(.ended (.done v) b,e)/\runN À N (Į c w d)=.next a/\step À a=.ended (.done v) b/\Ξ À f a (.done v) b e
section
variable{f:Array Ċ}{w':Í}{sl e:Option (Nat×Nat)}{t:Ž}{l:fc}
def zE.fN{a:Ñ->Í->Prop}(h:zE vQ E w sl t)(b:∀v u,vQ v u->a v u):zE a E w sl t:=by let⟨M,c,v,x,d,e,f,g,i⟩:=h;exact⟨M,c,v,x,d,e,f,g,i.mono λv q=>b v x q⟩
def zE.o7{N:Nat}(r:ſ À N (Į E w sl) t=(.next<|Į f w' e,qJ))(h:zE vQ f w' e qJ):zE vQ E w sl t:=by
 let⟨M,a,v,x,b,c,d,g,i⟩:=h;refine⟨N+M,a,v,x,b,?_,?_,g,i⟩
 .rwa[Nat.add_assoc,runNT_add,r]
 .rw[<-Ţ À (N+M) (Į E w sl) t,runNT_add,r];rwa[Ţ]
def rR(vQ:Ñ->Í->Prop)(E:Array Ċ)(w:Í)(sl:Option (Nat×Nat))(t:Ž):Prop:=zE (λv u=>vQ v u/\u.os=w.os/\u.output=w.output) E w sl t
def rR.r{N:Nat}(r:ſ À N (Į E w sl) t=(.next<|Į f w' e,qJ))(a:w'.os=w.os/\w'.output=w.output)(h:rR vQ f w' e qJ):rR vQ E w sl t:= zE.o7 r<|h.fN λ_ _ q=>⟨q.1,q.2.1.trans a.1,q.2.2.trans a.2⟩
def ky.aq2{Y:Nat->Prop}:∀(s:Nat) (h:Nat->Nat) (j:Nat->fc) (E:Array Ċ) (w:Í) (sl:Option (Nat×Nat)) (t:Ž),sumTo E.size h=s->ky À Y zX n (TP À vQ) .fB h j E w t->rR vQ E w sl t:=by
 intro s
 induction s using Nat.strongRecOn with
 |_ s r=>
  intro h j E w sl t I c;have J:=c.C;obtain⟨g0,a⟩:∃g,E[0]?=Â g:=⟨_,å Z⟩;have o:∀d,TP À vQ {j 0 with w:=w.at d} g0:=λd=>by
   let⟨u,b,k,_,_⟩:=(c.I d).r.C 0 g0 a;obtain rfl:g0=u:=by cases k;rfl
   exact b (w.at d)<|(c.I d).r.r.r 0 Z
  obtain⟨i,g,d,e,l,x,m⟩:=crowd_pick c.JF ⟨0,g0,a,(o 0).1⟩;by_cases p:i=0
  .subst p;rw[a]at l;obtain rfl:=af l;let⟨_,v,q,y⟩:=o d;have u:stepT À (Į E w sl)=(.ended (.done v)<|w.at d,#[]):=by
    rw[m,ConcN.runT_crowd_ended a<|q<|w.at d];rfl
   refine⟨0,Į E w sl,v,w.at d,t,?_,U,?_,c.mP ⟨y,U,U⟩⟩
   .simp[ſ,u]
   .have:=stepT_fst À (Į E w sl) Î;rw[<-this];rw[u]
  .let⟨q,y,f,u,b,k,K,L,z⟩:=(c.I d).Y1 (sl:=e) l p x;let⟨N,B,v,w',qJ,C,D,F,G⟩:=r (sumTo f.size q) (by rw[k];omega) q y f (w.at d) e (t++u) U z;refine⟨N+1,B,v,w',qJ,by simp only[ſ,m,b];exact C,?_,F,G⟩;have:=Ţ À (N+1) (Į E w sl) t;rw[<-this];simp only[ſ,m,b];rwa[Ţ]
structure ig(l:fc):Prop where
 r:gw l
 d:l.d=0
 q:¬l.q
 N:∀b,¬l.I b
 I:∀a,¬l.r a
 M:∀a,¬l.N a
 k:∀a,¬l.K a
def ig.C(h:ig l)(r:fG l l.w u):ig {l with w:=u}:= ⟨⟨h.r.c,h.r.Y,h.r.N,λb q=>Ģ (h.r.fu b q) r.r,λa q=>q.elim (λz=>(h.I a z).elim) λz=>(h.M a z).elim,λa q=>(h.k a q).elim⟩,h.d,h.q,h.N,h.I,h.M,h.k⟩
def iZ(vQ:Ñ->Í->Prop)(l:fc)(g:Ċ):Prop:=
 ig l->g.status=.running->∀(a:Loc->Prop) (H:Nat) (J:Jd) (c:Nat->Nat) (b:Nat->fc) (E:Array Ċ) (sl:Option (Nat×Nat)) (t:Ž),vu a H l->fA.rA À a H J .fB c b E l.w t->(b 0).d=0->E[0]?=Â g->rR vQ E l.w sl t
def aq3{a:fc}(h:vu zX i l)(k:qC l a l.w a.w):vu zX i a:= ⟨h.r,λb c x d q=>by
  rcases k.N b c with z|z
  .exact h.fl b z x d q
  .have:=h.r x q;have:=h.C;omega,Ì h.C k.r⟩
def TQ{J f:Jd}{e:Nat->fc}(a:ig l)(h:g.status=.running)(j:vu zX i l)(c:fA.rA À zX i J .fB D e E l.w t)(m:(e 0).d=0)(n:E[0]?=Â g)(W:fA.fi À Î f l g):∃T,fA.rA À zX i f T D (fA.uX e l) E l.w t:=by let⟨T,o⟩:=jk W;exact⟨T,ky.Y c m n h U a.d a.q a.N a.I a.M a.k (λb q=>⟨a.r.fu b<|È q,j.fl b q⟩) o⟩
def abh{Y:Nat->Prop}{J:Jd}{a:Nat->fc}(c:ky À Y zX i J .fB D a E w t):∃g,E[0]?=Â g/\J {a 0 with w:=w} g:=by
 obtain⟨g0,b⟩:∃g,E[0]?=Â g:=⟨_,å c.C⟩;let⟨d,e,f,_,_⟩:=c.r.C 0 g0 b;obtain rfl:g0=d:=by cases f;rfl
 exact⟨g0,b,e w<|c.r.r.r 0 c.C⟩
def Mj(vQ:Ñ->Í->Prop):Jd:=λl g=>ig l/\g.status=.running/\iZ vQ l g
def aq4{b:Nat->fc}{T:gq}(m:(b 0).w=w)(n:vu zX i (b 0))(c:fA.rA À zX i (Mj vQ) T D b E w t):rR vQ E w sl t:=by let⟨N,o,p,f,w',e,qJ,r,_,a,j⟩:=ky.G (λl g h=>È h.2.1) T _ D b E w sl t U c;let⟨v,q,h,s,u⟩:=abh j;refine rR.r r ⟨a.C,a.I⟩<|u h s zX i (Mj vQ) o p f e qJ ?_ j h.d q;apply aq3 n;rw[m];exact⟨a.r,a.N,a.c,a.S,a.b,a.k,a.jP,a.M,a.Y,a.C,a.I,a.d⟩
def pE(W:fA.fi À Î (Mj vQ) l g):iZ vQ l g:=by intro b d i H J j k E sl t a c e f;let⟨T,h⟩:=TQ b d a c e f W;exact aq4 (by rw[fA.Rv]) (by rwa[fA.Rv]) h
def aq5(W:fA.fi À Î (TP À vQ) l g):iZ vQ l g:=by intro b d s H J i u E sl t j c k m;let⟨T,n⟩:=TQ b d j c k m W;let⟨N,o,p,f,w',e,qJ,r,_,a,q⟩:=ky.G (λl g h=>È h.1) T _ i _ E l.w sl t U n;exact rR.r r ⟨a.C,a.I⟩<|ky.aq2 _ o p f w' e qJ U q
def zy.N{e:vz}{R:Nat}{kd:Nat->Int}{f:List fK}{c:fc}(h:zy X e R kd f l i v c)(r:fG c c.w u):zy X e R kd f l i v {c with w:=u}:=by have a:=λb q=>r.I b<|È q;let⟨V,j,g⟩:=h.Y;exact⟨λb q=>⟨(h.M b q).1,(a b (h.M b q).1).trans (h.M b q).2⟩,⟨h.r.1,λp k=>(gJ<|a i h.r.1).trans<|h.r.2 p k⟩,⟨V,j.r λb q=>a b (g b q).1,g⟩,h.d,h.q,h.S,h.C,(gJ<|a i h.r.1).trans h.I.1,(wo<|a i h.r.1).trans h.I.2⟩
def aq6{kd:Nat->Int}{bt:vz}{V0 h:Nat->Prop}{s0:List fK}{B:Option ù}{I:Option ù}{R:Nat}{C:ď}{z:Array ğ} (GK:0<R->I=Â ⟨j7,0,Á⟩) (vo:0<R->l.M j7) (GM:∀i,i<R->l.w.cell? ⟨j7,i,Á⟩=Â (Ã<|Â ⟨D i,0,Á⟩)) (GN:∀i,i<R->l.w.cell? ⟨D i,4,Á⟩=Â (Å É<|kd i)) (K:HP l bt kd D R X) (hZ:(∀b,X b->h b)/\∀b,b=1\/b=2\/b=3\/b=4->h b) (hZO:∀b,h b->l.O b) (hVZ:∀b,V0 b->h b) (Bv:RD s0 (Æ B j j9) V0 l.w) (hn:1<=n) (hs:n+R<1000) (hJ:∀o v p m c,ig o->zy h bt R kd s0 l v (Æ p m c) o->iZ vQ o (G (C.at (y.put ((z[i]?).bind (·.dst))<|ë #[Æ (Â ⟨v,0,Á⟩) R R,Æ p m c])<|Ð z jJ::L) qX)): iZ vQ l (Dv (Æ B j j9) (Æ I R j6) n<|C.at y (Ð z (i::jJ)::L)::qX):=by
 intro s hr jl H J lv lot E sl t L0 c hd P;have W:fA.fi À Î (KG kd D R n (Æ B j j9) l<|C.at y (Ð z (i::jJ)::L)::qX) l (Dv (Æ B j j9) (Æ I R j6) n<|C.at y (Ð z (i::jJ)::L)::qX):= aiN s.r s.q s.d Z GK vo GM (λi P=>È<|K.fl _<|K.r i P) GN λg S o u x F v T V Y bw bf v1 h1 h2=>⟨g,S,u,x,F,v,T,V,Y,bw,bf,v1,h1,h2,U⟩;let⟨T,c'⟩:=TQ s hr L0 c hd P W;let⟨N,jw,G5,f,w',e,qJ,r,_,x,c''⟩:=ky.G (λlx gx S=>by obtain⟨_,_,_,_,_,_,_,_,_,_,_,_,_,_,rfl⟩:=S;exact È U) T _ lv _ E l.w sl t U c';apply rR.r r ⟨x.C,x.I⟩;let⟨N2,aq7,V,T2,KH,RF,gs2,w2,yP,t2,r2,io2,c2⟩:=apm (J:=λu V o F=>vu u V o/\Mj vQ o F) U c'' e s.r s.N s.q s.d L0 K hZ hZO hVZ Bv ⟨x.C,x.I⟩ hn hs λDG H' o v p m c Y z2 u=> .fB λw₁ F=>by have kX:ig o:=⟨z2,u.d,u.q,u.S,u.C.1,u.C.2.1,u.C.2.2⟩;exact⟨⟨Y.r,Y.fl,Ì Y.C F.r⟩,kX.C F,U,hJ _ v p m c (kX.C F)<|u.N F⟩
 apply rR.r r2 ⟨io2.1.trans x.C.symm,io2.2.trans x.I.symm⟩;let⟨N3,Sk,aq8,gs3,w3,sl3,t3,r3,_,wn3,c3⟩:=ky.G (λlx gx S=>È S.2.2.1) T2 _ KH RF gs2 w2 yP t2 U c2;apply rR.r r3 ⟨wn3.C,wn3.I⟩;let⟨g3,TR,pJ,S,hr3,hs3⟩:=abh c3;exact hs3 S hr3 aq7 V _ Sk aq8 gs3 sl3 t3 pJ c3 S.d TR
end
end Go.Proofs.Y.lZ
namespace Go.Proofs.Y.lZ
open Go Go.Conc Go.Proofs Go.RowKit Go.Proofs.Y.Lift Go.Proofs.Y.iC Go.Proofs.Y.fA Go.Proofs.Y.sU
open Go.Conc.Lib Go.ConcR.Gen Go.Proofs.YtgpphkdoanciiaaGreatDoor
def toTx(t:PT):Tx:=⟨(t.c.getD 0 0).toNat,(t.c.getD 1 0).toNat,t.c.getD 2 0,t.c.getD 3 0,t.c.getD 4 0,t.p⟩
def toQn(r:PR):Qn:=⟨(r.c.getD 0 0).toNat,(r.c.getD 1 0).toNat,(r.c.getD 2 0).toNat,(r.c.getD 3 0).toNat,r.c.getD 4 0,r.c.getD 5 0,r.c.getD 6 0,(r.c.getD 7 0).toNat⟩
def pF:PR:=⟨[],[]⟩
def vH(a:List PR):vz where
 r:=λp=>((a.getD p pF).c.getD 5 0,((a.getD p pF).c.getD 0 0).toNat,(a.getD p pF).r.map toTx)
 C:=λp=>toQn<|a.getD p pF
def lh(a:List PR)(p:Nat):Int:=(a.getD p pF).c.getD 4 0
section
variable{p:PR}{t:PT}{a:Nat}{rs:List PR}{l:fc}
theorem toTx_ok(h:nV t):(toTx t).Ok:=by have d:=h.c.r 0 A;have e:=h.c.r 1 A;have a:=h.c.r 2 A;have b:=h.c.r 3 A;simp only[lD]at d e a b;exact⟨by show(t.c.getD 0 0).toNat<8;omega,by show(t.c.getD 1 0).toNat<8;omega,a.1,a.2,b.1,b.2,h.p⟩
theorem zF(a:0<=c)(h:w.cell? ⟨b,i,Á⟩=Â (Å É c)):w.cell? ⟨b,i,Á⟩=Â (Å É (c.toNat:Nat)):=by grind
theorem aq9(h:nV t)(k:H0 a t w):lN a (toTx t) w:=by have b:=h.c.r 0 A;have d:=h.c.r 1 A;simp only[lD]at b d;exact⟨k.r,zF b.1<|k.c 0 A,zF d.1<|k.c 1 A,k.c 2 A,k.c 3 A,k.c 4 A,k.p⟩
theorem ara(h:uF p)(k:xE i p w):BY i (p.c.getD 5 0) (p.c.getD 0 0).toNat (p.r.map toTx) w:=by
 have e:=h.c.r 0 A;simp only[lD]at e;let⟨f,n,g,l,m,o⟩:=k.b;let⟨r,s,u⟩:=vO (R:=λj t (y:Nat×Tx)=>y.2=toTx t/\∃d,f=Â ⟨d,0,Á⟩/\w.cell? ⟨d,j,Á⟩=Â (Ã<|Â ⟨y.1,0,Á⟩)/\H0 y.1 t w) p.r 0 λj t v=>by let⟨d,a,y,q,x⟩:=o j t v;simp_all
 refine⟨f,n,g,r,⟨zF e.1<|k.c 0 A,k.c 5 A,l⟩,⟨by rw[m,s],λj a t q=> ?_⟩,?_,by have:=h.n;omega⟩
 .let⟨x,z,y,d,D,B,C⟩:=u j (a,t) q;simp only at y B C;subst y;have E:=h.C x<|ç z;grind [aq9,toTx_ok]
 .refine Ŕ λj=> ?_;unfold lB;grind
def arb(h:uF p)(k:xE i p w):HO i (toQn p) w:=by have a:=h.c.r 0 A;have b:=h.c.r 1 A;have d:=h.c.r 2 A;have e:=h.c.r 3 A;have f:=h.c.r 7 A;simp only[lD]at a b d e f;exact⟨zF a.1<|k.c 0 A,zF b.1<|k.c 1 A,zF d.1<|k.c 2 A,zF e.1<|k.c 3 A,k.c 4 A,k.c 5 A,k.c 6 A,zF f.1<|k.c 7 A⟩
def abj(h:uF p)(k:p.c.getD 4 0≠1):(toQn p).Ok:=by
 have d:=h.c.r 0 A;have e:=h.c.r 1 A;have f:=h.c.r 2 A;have g:=h.c.r 3 A;have i:=h.c.r 4 A;have a:=h.c.r 5 A;have b:=h.c.r 6 A;have j:=h.c.r 7 A;simp only[lD]at d e f g i a b j;refine⟨?_,?_,?_,?_,?_,?_,a.1,b.1,?_⟩
 .show(p.c.getD 0 0).toNat<8;omega
 .show(p.c.getD 1 0).toNat<8;omega
 .show(p.c.getD 2 0).toNat<1000000;omega
 .show(p.c.getD 3 0).toNat<18446744073709551616;omega
 .show 2<=p.c.getD 4 0;omega
 .show p.c.getD 4 0<=9;omega
 .show(p.c.getD 7 0).toNat<16;omega
theorem ard(h:RQ rs v X l.w)(k:∀i∈rs,uF i)(B:nu l.w)(C:∀b,b=1\/b=2\/b=3\/b=4->l.O b)(m:∀b,X b->l.O b): ∃d e f g,v=Æ d rs.length e/\(0<rs.length->d=Â ⟨f,0,Á⟩)/\(0<rs.length->l.O f)/\(∀a,a<rs.length->l.w.cell? ⟨f,a,Á⟩=Â (Ã<|Â ⟨g a,0,Á⟩))/\(∀a,a<rs.length->l.w.cell? ⟨g a,4,Á⟩=Â (Å É<|lh rs a))/\HP l (vH rs) (lh rs) g rs.length X:=by
 obtain⟨o,D,rfl,E⟩:=h.M;have p:∀a,a<rs.length->rs[a]?=Â (rs.getD a pF):=λa d=>by simp[Ġ,d]
 have r:=λa d=>ç<|p a d;obtain⟨f,s⟩:∃f,∀a,a<rs.length->o=Â ⟨f,0,Á⟩:=by
  by_cases e:0<rs.length
  .let⟨j,i,q,_⟩:=E 0 _<|p 0 e;exact⟨j,λ_ _=>q⟩
  .simp_all
 have F:∀a,∃i,a<rs.length->l.w.cell? ⟨f,a,Á⟩=Â (Ã<|Â ⟨i,0,Á⟩)/\xE i (rs.getD a pF) l.w:=λa=>by grind
 let⟨g,j⟩:=Classical.axiomOfChoice F;have u:=λe=>by have:=h.I;rw[s 0 e]at this;exact BX this
 refine⟨o,D,f,g,U,λe=>s 0 e,λe=>m _<|u e,λa d=>(j a d).1,λa d=>(j a d).2.c 4 A,B,C,h.C,m,λa d=>(BW<|h.C.r (u Z) (j a d).1),λa d y=> ?_,λa d y=> ?_⟩
 .have q:=k _<|r a d;have e:=q.c.r 0 A;have z:=q.c.r 5 A;simp only[lD]at e z;refine⟨ara q (j a d).2,?_,z.1,λt G=> ?_,?_⟩
  .show((rs.getD a pF).c.getD 0 0).toNat<8;omega
  .obtain⟨x,H,rfl⟩:=Ú.1 G;exact toTx_ok<|q.C x H
  .show((rs.getD a pF).r.map toTx).length<=1000;rw[ú];have:=q.n;omega
 .have q:=k _<|r a d;exact⟨arb q (j a d).2,abj q y⟩
end
theorem Mk:(∀r∈(gU B).2.2,uF r)/\(gU B).2.2.length<=24:=by
 unfold gU;split
 .grind
 .split
  .unfold ma;split
   .grind
   .have:=(TJ B.size 0 mO (TH B)<|Ø _).1.d;exact⟨this.G,this.C⟩
  .grind
def jz(rs:List PR)(s:List fK):List ByteArray:=(ĳ rs.length).map λp=>xA (vH rs) (lh rs) p<|py (vH rs) (hD (lh rs) rs.length) s<|fL (lh rs) p
def zG(rs:List PR)(s:List fK):List fK:=py (vH rs) (hD (lh rs) rs.length) s<|fL (lh rs) rs.length
def mb(s:List fK)(B:ByteArray):ByteArray×Int×List fK:=
 if(gU B).1=0 then(kZ ⟨#[59]⟩<|jz (gU B).2.2 s,0,zG (gU B).2.2 s)else(⟨#[]⟩,(gU B).1,s)
section
variable{b:ď}{l:fc}{a:Ĉ}
def abk{md:Ŀ}(I:Array Bool->Ĉ->fc->Prop) (o:∀c a l i k,I c a l->i∈ä md Q c->(∀f g,I (c.setIfInBounds i Î) f g->iZ vQ g (G (b.at f<|Ð Q k::L) qX))->iZ vQ l (G (b.at a<|Ð Q (i::k)::L) qX)) (m:∀c a l,I c a l->c.size=Q.size->ä md Q c=[]->iZ vQ l (G (b.at a<|Ð Q []::L) qX)): ∀(d t:Nat) (c:Array Bool) (a:Ĉ) (l:fc),c.size=Q.size->ji c<=d->I c a l->iZ vQ l (G (b.at a<|Ð Q (ć md Q d t c [])::L) qX):=by
 intro d
 induction d with
 |zero=>
  intro t c a l e p h;simpa[ć]using m c a l h e<|Qj e Z
 |succ d q=>
  intro t c a l e p h;simp only[ć];change iZ vQ l (G (b.at a (Ð Q (match(ä md Q c)[t%(ä md Q c).length]? with
   |some i=>ć md Q d (t/(ä md Q c).length) (c.setIfInBounds i Î) [i]
   |none=>[].reverse)::L)) qX)
  cases j:(ä md Q c)[t%(ä md Q c).length]? with
  |none=>
   have r:ä md Q c=[]:=by
    cases s:ä md Q c with
    |nil=>rfl
    |cons x n=>
     rw[s]at j;have u:t%(x::n).length<(x::n).length:=Nat.mod_lt _ fp;simp at j;simp at u;omega
   simpa using m c a l h e r
  |some i=>
   simp only[];rw[linearise_go_acc,List.reverse_singleton,List.singleton_append];have n:=ç j;refine o c a l i _ h n λf g r=>(q _ _ f g (by simpa using e) (by have:=JP (Β.1 n).1;omega) r)
def arf{id:Nat}(I:Array Bool->Ĉ->fc->Prop)(e:ig l) (j:∀f,fG l l.w f->I (Ū Q.size Ë) a {l with w:=f}) (k:∀g c a l i m,I c a l->i∈ä g Q c->(∀n o,I (c.setIfInBounds i Î) n o->iZ vQ o (G (b.at n<|Ð Q m::L) qX))->iZ vQ l (G (b.at a<|Ð Q (i::m)::L) qX)) (p:∀g c a l,I c a l->c.size=Q.size->ä g Q c=[]->iZ vQ l (G (b.at a<|Ð Q []::L) qX)): iZ vQ l (G (b.at a<|av (.region id Q Î)::L) qX):=by
 refine pE (.mk U λf r=>⟨_,_,_,_,stepG_region_draw,Qi (mr e.r.r r) e.q,.fB λs d=> ?_⟩);have h:=r.fg ⟨d.r,d.I,d.N,d.Y,d.S⟩;refine⟨e.C h,U,?_⟩;unfold Region.schedule;split
 .exact abk I (k _) (p _) _ _ _ _ _ fp (by rw[C5];exact æ _)<|j s h
 .exact abk I (k _) (p _) _ _ _ _ _ fp (by rw[C5];exact æ _)<|j s h
def arh{I:Ĉ->fc->Prop}(W:fA.fi À Î (λa d=>∃c,d=G (b.at c<|Ð Q jJ::L) qX/\I c a) l g)(f:∀c a,I c a->ig a)(i:∀c a,I c a->iZ vQ a (G (b.at c<|Ð Q jJ::L) qX)):iZ vQ l g:= pE (W.fN λa d h=>by obtain⟨c,rfl,e⟩:=h;exact⟨f c a e,U,i c a e⟩)
def EN{f:FuncId}{fn:Func}(xs:List Value)(n:Nat)(hf:Tryz.prog.funcs[f]?=some fn)(hb:fn.body=some (kQ fn []):=by kernel_rfl)(hn:fn.ntmps=xs.length+n:=by kernel_rfl):Frame.enter Tryz.prog f xs.toArray .normal=(base f).at ⟨(xs++List.replicate n undef).toArray,[]⟩ [.code<|kQ fn []]:=by rw[enter_at _ hf hb,hn,ř,Nat.add_sub_cancel_left,show xs.toArray++Ū n ĸ=(xs++ą n ĸ).toArray from Array.ext' fp]
def xF{J:Jd}{f:Ρ}{args:Array Ñ}(d:Q[i]?=Â o)(e:Ĕ o (Ι Q a.tmps)=Î)(g:b.kind≠.early)(h:kg l) (j:∀w,(ś a.eval o).run À w=.ok (.enter f args) w) (k:∀w,(ś a.eval o).events À w #[]=#[]) (m:∀c,fG l l.w c->fA.fi À Î J {l with w:=c} (G (è À f args Ą)<|b.at a (Ð Q (i::jJ)::L)::qX)): fA.fi À Î J l (G (b.at a<|Ð Q (i::jJ)::L) qX):=by refine .mk U λc r=>⟨G (è À f args Ą)<|b.at a (Ð Q (i::jJ)::L)::qX,c,#[],{l with w:=c},?_,OP c<|mr h r,m c r⟩;rw[stepG_enter d e g<|j c];unfold ax;rw[k c,seen_none]
def EO{f:Ρ}{args:Array Ñ}(e:ig l)(j:Q[i]?=Â o)(k:Ĕ o (Ι Q a.tmps)=Î)(m:b.kind≠.early) (n:∀w,(ś a.eval o).run À w=.ok (.enter f args) w) (p:∀w,(ś a.eval o).events À w #[]=#[]) (q:∀d,fG l l.w d->iZ vQ {l with w:=d} (G (è À f args Ą)<|b.at a (Ð Q (i::jJ)::L)::qX)): iZ vQ l (G (b.at a<|Ð Q (i::jJ)::L) qX):= pE (xF j k m e.r.r n p λd r=> .fB λg c=>by have h:fG l l.w g:=r.fg ⟨c.r,c.I,c.N,c.Y,c.S⟩;exact⟨e.C h,U,q g h⟩)
def kH.DF{c:fc}(e:ig l)(h:kH l c)(k:c.d=l.d):ig c:=by
 have g:∀b,¬c.I b:=by rw[h.I];exact e.N
 have f:∀a,¬c.r a:=by rw[h.N];exact e.I
 have i:∀a,¬c.N a:=by rw[h.Y];exact e.M
 have j:∀a,¬c.K a:=by rw[h.K];exact e.k
 exact⟨⟨λb _=>g b,λa q=>(f a q).elim,λa q=>q.elim (λz=>(f a z).elim) λz=>(i a z).elim,λb q=>q.elim (λz=>h.fu b z) λz=>(g b z).elim,λa q=>q.elim (λz=>(f a z).elim) λz=>(i a z).elim,λa q=>(j a q).elim⟩,k.trans e.d,by rw[h.q];exact e.q,g,f,i,j⟩
end
def H2:ğ:=⟨Â 21,.move<|ň 0,26, "attic.go:46",#[],Á⟩
def H3:ğ:=⟨Â 22,.nilCheck<|ň 21,0, "attic.go:46",#[⟨0,ĉ⟩],Á⟩
def H4:ğ:=⟨Â 23,.fieldAddr 68 (ň 22) 1,0, "attic.go:46",#[⟨1,ĉ⟩],Á⟩
def H5:ğ:=⟨Â 24,.load 65<|ň 23,65, "attic.go:46",#[⟨2,ĉ⟩],Á⟩
def H6:ğ:=⟨Â 25,.move<|ň 6,61, "attic.go:46",#[],Á⟩
def H7:ğ:=⟨Â 26,.move<|ň 0,26, "attic.go:46",#[],Á⟩
def H8:ğ:=⟨Â 27,.nilCheck<|ň 26,0, "attic.go:46",#[⟨5,ĉ⟩],Á⟩
def H9:ğ:=⟨Â 28,.fieldAddr 68 (ň 27) 0,0, "attic.go:46",#[⟨6,ĉ⟩],Á⟩
def Ia:ğ:=⟨Â 29,.load 3<|ň 28,3, "attic.go:46",#[⟨7,ĉ⟩],Á⟩
def xG:ğ:=⟨Â 30,.call {callee:=.value<|.func 37,args:=#[ň 24,ň 25,ň 29],argTypes:=#[65,61,3]},66, "attic.go:46",#[⟨3,ĉ⟩,⟨4,ĉ⟩,⟨8,ĉ⟩],Á⟩
def zH:ğ:=⟨Â 20,.move<|ň 30,66, "attic.go:46",#[⟨9,ĉ⟩],Á⟩
def B6:ğ:=⟨Â 31,.extract (ň 20) 0,25, "attic.go:46",#[⟨10,ĉ⟩],Á⟩
def B7:ğ:=⟨Â 32,.extract (ň 20) 1,65, "attic.go:46",#[⟨10,ĉ⟩,{on:=13,ground:=Ground.gcOnly Departure.lateStores}],Á⟩
def B8:ğ:=⟨Â 9,.assign<|ň 31,25, "attic.go:46",#[⟨11,ĉ⟩,⟨9,.chain⟩,⟨0,ñ⟩,⟨1,ñ⟩,⟨2,ñ⟩,⟨3,ñ⟩,⟨4,ñ⟩,⟨5,ñ⟩,⟨6,ñ⟩,⟨7,ñ⟩,⟨8,ñ⟩,⟨9,ñ⟩,⟨10,ñ⟩,⟨11,ñ⟩,{on:=12,ground:=Ground.textOnly Departure.lateStores}],Á⟩
def B9:ğ:=⟨Â 10,.assign<|ň 32,65, "attic.go:46",#[⟨12,ĉ⟩,⟨13,.chain⟩,⟨0,ñ⟩,⟨1,ñ⟩,⟨2,ñ⟩,⟨3,ñ⟩,⟨4,ñ⟩,⟨5,ñ⟩,⟨6,ñ⟩,⟨7,ñ⟩,⟨8,ñ⟩,⟨9,ñ⟩,⟨10,ñ⟩,⟨11,ñ⟩,⟨12,ñ⟩,⟨13,ñ⟩],Á⟩
def ou:Array ğ:=#[H2,H3,H4,H5,H6,H7,H8,H9,Ia,xG,zH,B6,B7,B8,B9]
noncomputable def TS:Τ:=kQ Tryz.f17 [1,1,1,1]
structure me(l:fc)(ab n:Nat)(s:List fK)(sl:Ñ)(V:Nat->Prop):Prop where
 r:nu l.w
 C:∀b,b=1\/b=2\/b=3\/b=4->l.O b
 a:EM ab n sl l.w
 fl:l.O ab
 I:RD s sl V l.w
 Y:∀b,V b->l.O b
 e:¬V ab
 c:1<=n
 d:n<=8
 M:¬(ab=1\/ab=2\/ab=3\/ab=4)
structure Ml(l l':fc)(ab n:Nat)(s':List fK)(V:Nat->Prop):Prop where
 u5:∀b,l.O b->b≠ab->l'.O b/\l'.w.heap[b]?=l.w.heap[b]?
 att:∃sJ V',me l' ab n s' sJ V'/\∀b,V' b->V b\/(b=1\/b=2\/b=3\/b=4)\/l.w.heap.size<=b
section
variable{l d:fc}{ab:Nat}{s:List fK}{sl:Ñ}{V:Nat->Prop}
def me.S{a:fc}(h:me l ab n s sl V)(c:∀b,l.O b->a.O b)(d:∀b,l.O b->a.w.heap[b]?=l.w.heap[b]?)(e:l.w.heap.size<=a.w.heap.size):me a ab n s sl V:= ⟨h.r.r (Ì h.r.fu e) λb q=>d b<|h.C b q,λb q=>c b<|h.C b q,h.a.r<|d ab h.fl,c ab h.fl,h.I.r λb q=>d b<|h.Y b q,λb q=>c b<|h.Y b q,h.e,h.c,h.d,h.M⟩
def me.N(h:me l ab n s sl V)(r:fG l l.w u):me {l with w:=u} ab n s sl V:=h.S (λ_ q=>q) (λb q=>r.I b<|È q) r.r
def j2(ab:Nat)(n:Nat)(sl rs:Ñ)(x:Value×Value):Nat->Ñ
 |0=>Ã<|Â ⟨ab,0,Á⟩
 |1=>Ã<|Â ⟨ab,0,Á⟩
 |2=>Ã<|Â ⟨ab,1,Á⟩
 |3=>sl
 |4=>rs
 |5=>Ã<|Â ⟨ab,0,Á⟩
 |6=>Ã<|Â ⟨ab,0,Á⟩
 |7=>Ã<|Â ⟨ab,0,Á⟩
 |8=>Å É n
 |9=>ë #[x.1,x.2]
 |10=>ë #[x.1,x.2]
 |11=>x.1
 |12=>x.2
 |13=>x.1
 |14=>x.2
 |_=>ĸ
def vI(d:fc)(V:Nat->Prop)(rs:List PR)(s:List fK)(listed:Array Bool)(x:Value×Value)(l:fc):Prop:=
 ig l/\(listed.getD 9 Ë=Ë->gh ff d l)/\(listed.getD 9 Ë=Î->∃a e p m c,gh ff d a/\x=(Æ (Â ⟨e,0,Á⟩) rs.length rs.length,Æ p m c)/\zy (λb=>V b\/b=1\/b=2\/b=3\/b=4) (vH rs) rs.length (lh rs) s a e (Æ p m c) l)
def vI.jY{V:Nat->Prop}{a:List PR}{s:List fK}{listed:Array Bool}{x:Value×Value}(h:vI d V a s listed x l)(b:i≠9){w₁:Í}(r:fG l l.w w₁):vI d V a s (listed.setIfInBounds i Î) x {l with w:=w₁}:=by
 have e:(listed.setIfInBounds i Î).getD 9 Ë=listed.getD 9 Ë:=by simp[Array.getD_eq_getD_getElem?,Array.getElem?_setIfInBounds_ne b]
 refine⟨h.1.C r,λq=> ?_,λq=> ?_⟩
 .rw[e]at q;exact(h.2.1 q).G r
 .rw[e]at q;let⟨f,g,p,m,c,j,k,n⟩:=h.2.2 q;exact⟨f,g,p,m,c,j,k,n.N r⟩
theorem ari{D:Array Ñ}{I:List PR}(J:me d ab n s sl V)(T:D.size=39)(W:D[0]?=Â (Ã<|Â ⟨ab,0,Á⟩))(Y:D[6]?=Â z) (md:Ŀ) (listed:Array Bool) (a:Ĉ) (l:fc) (i:Nat) (O:List Nat) (hI:II ou D (j2 ab n sl z) (vI d X I s) listed a l) (p:i∈ä md ou listed) (F:i≠9): fA.fi À Î (λc e=>∃b,e=G ((base 17).at b<|Ð ou O::L) qX/\II ou D (j2 ab n sl z) (vI d X I s) (listed.setIfInBounds i Î) b c) l (G ((base 17).at a<|Ð ou (i::O)::L) qX):=by
 let⟨x,g,H⟩:=hI;have t:tV ou D.size=Î:=by rw[T];decide
 have K:=C6 p;have u:=H.1.r.r;have y:=H.1.q;have P:=(g.C A).trans W;have Mm:=(g.C A).trans Y;have B:∀c,fG l l.w c->vI d X I s (listed.setIfInBounds i Î) x {l with w:=c}:=λc r=>H.jY F r;let⟨fr,mo,_⟩:=J.a;have early:∀m,m<15->listed.getD m Ë=Ë->(∃e,e∈xG.after/\e.on=m/\yz e=Î)->listed.getD 9 Ë=Ë:=λm _ hm ⟨e,h1,h2,h3⟩=>by
  cases q:listed.getD 9 Ë with
  |false=>rfl
  |true=>
   have:=g.Y 9 xG e U q h1 h3;rw[h2,hm]at this;cases this
 have jS:ou.size=15:=A
 rw[jS]at K;have Fl:listed.getD i Ë=Ë:=by have:=(Β.1 p).1;grind
 have S:∀{j v},(∃e,e∈xG.after/\e.on=i/\yz e=Î)->#[Å É n,sl][j]?=Â v->gX l ⟨ab,j,Á⟩/\l.w.cell? ⟨ab,j,Á⟩=Â v:=λq h=>by have b:=H.2.1<|early i K Fl q;exact⟨È<|b.M<|È J.fl,(gJ<|b.r ab (È J.fl) id).trans<|by simp[ß,mo,h]⟩
 match i,K,F with
 |9,_,F=>exact absurd U F
 |0,_,_=>
  exact il (o:=H2) t g U U p (by k_ne) u y (λc r=>by simp only[j2,H2];go_simp) (λc r e f=>by simp[go_sem,H2,P]at f) B
 |1,_,_=>
  have b:=g.r 0 H2 21 U (ij p U U) U;simp only[j2]at b;exact il (o:=H3) t g U U p (by k_ne) u y (λc r=>by simp only[j2,H3];go_simp) (λc r e f=>by simp[go_sem,H3,b]at f) B
 |2,_,_=>
  have b:=g.r 1 H3 22 U (ij p U U) U;simp only[j2]at b;exact il (o:=H4) t g U U p (by k_ne) u y (λc r=>by simp only[j2,H4];go_simp) (λc r e f=>by simp[go_sem,H4,b]at f) B
 |3,_,_=>
  have b:=g.r 2 H4 23 U (ij p U U) U;simp only[j2]at b;let⟨C,E⟩:=S (j:=1) ⟨⟨3,ĉ⟩,by simp[xG],U,U⟩ U;refine il (o:=H5) t g U U p (by k_ne) u y (λc r=> ?_) (λc r e f=> ?_) B
  .have N:=(C.r r).trans E;simp only[j2,H5];go_simp
  .have N:=(C.r r).trans E;simp[go_sem,H5,b,N]at f;subst f;exact C.C
 |4,_,_=>
  exact il (o:=H6) t g U U p (by k_ne) u y (λc r=>by simp only[j2,H6];go_simp) (λc r e f=>by simp[go_sem,H6,Mm]at f) B
 |5,_,_=>
  exact il (o:=H7) t g U U p (by k_ne) u y (λc r=>by simp only[j2,H7];go_simp) (λc r e f=>by simp[go_sem,H7,P]at f) B
 |6,_,_=>
  have b:=g.r 5 H7 26 U (ij p U U) U;simp only[j2]at b;exact il (o:=H8) t g U U p (by k_ne) u y (λc r=>by simp only[j2,H8];go_simp) (λc r e f=>by simp[go_sem,H8,b]at f) B
 |7,_,_=>
  have b:=g.r 6 H8 27 U (ij p U U) U;simp only[j2]at b;exact il (o:=H9) t g U U p (by k_ne) u y (λc r=>by simp only[j2,H9];go_simp) (λc r e f=>by simp[go_sem,H9,b]at f) B
 |8,_,_=>
  have b:=g.r 7 H9 28 U (ij p U U) U;simp only[j2]at b;let⟨C,E⟩:=S (j:=0) ⟨⟨8,ĉ⟩,by simp[xG],U,U⟩ U;refine il (o:=Ia) t g U U p (by k_ne) u y (λc r=> ?_) (λc r e f=> ?_) B
  .have N:=(C.r r).trans E;simp only[j2,Ia];go_simp
  .simp[go_sem,Ia,b,(C.r r).trans E]at f;subst f;exact C.C
 |10,_,_=>
  have b:=g.r 9 xG 30 U (ij p U U) U;simp only[j2]at b;exact il (o:=zH) t g U U p (by k_ne) u y (λc r=>by simp only[j2,zH];go_simp) (λc r e f=>by simp[go_sem,zH,b]at f) B
 |11,_,_=>
  have b:=g.r 10 zH 20 U (ij p U U) U;simp only[j2]at b;exact il (o:=B6) t g U U p (by k_ne) u y (λc r=>by simp only[j2,B6];go_simp) (λc r e f=>by simp[go_sem,B6,b]at f) B
 |12,_,_=>
  have b:=g.r 10 zH 20 U (ij p U U) U;simp only[j2]at b;exact il (o:=B7) t g U U p (by k_ne) u y (λc r=>by simp only[j2,B7];go_simp) (λc r e f=>by simp[go_sem,B7,b]at f) B
 |13,_,_=>
  have b:=g.r 11 B6 31 U (ij p U U) U;simp only[j2]at b;exact il (o:=B8) t g U U p (by k_ne) u y (λc r=>by simp only[j2,B8];go_simp) (λc r e f=>by simp[go_sem,B8,b]at f) B
 |14,_,_=>
  have b:=g.r 12 B7 32 U (ij p U U) U;simp only[j2]at b;exact il (o:=B9) t g U U p (by k_ne) u y (λc r=>by simp only[j2,B9];go_simp) (λc r e f=>by simp[go_sem,B9,b]at f) B
end
def arj(x y:Ñ)(n:Nat)(a:List ď):G (è À 37 #[x,y,Å É n] Ą) a=Dv x y n a:=by unfold Dv;rw[enter_at #[x,y,Å É n] η (c:=kQ Tryz.f37 []) ft];kernel_rfl
section
variable{l g:fc}{s:List fK}{V:Nat->Prop}{d:List PR}
theorem ark{F:Array Ñ}(D:me g i n s x V)(W:RQ d v X g.w)(M:∀b,X b->g.O b)(Y:∀r∈d,uF r)(JS:d.length<=24)(ht:F.size=39) (md:Ŀ) (listed:Array Bool) (a:Ĉ) (l:fc) (N:List Nat) (hI:II ou F (j2 i n x v) (vI g (λb=>V b\/X b) d s) listed a l) (B:9∈ä md ou listed) (hn:∀P E,II ou F (j2 i n x v) (vI g (λb=>V b\/X b) d s) (listed.setIfInBounds 9 Î) P E->iZ vQ E (G ((base 17).at P<|Ð ou N::L) qX)): iZ vQ l (G ((base 17).at a<|Ð ou (9::N)::L) qX):=by
 let⟨t,y,Q⟩:=hI;have Fl:=(Β.1 B).1;have h9s:9<listed.size:=by grind
 have H:listed.getD 9 Ë=Ë:=by grind
 have e24:a.tmps[24]?=Â x:=y.r 3 H5 24 U (ij B U U) U;have e25:a.tmps[25]?=Â v:=y.r 4 H6 25 U (ij B U U) U;have e29:a.tmps[29]?=Â (Å É n):=y.r 8 Ia 29 U (ij B U U) U;have late:∀(S:Value×Value) j,listed.getD j Ë=Î->j2 i n x v S j=j2 i n x v t j:=λS j u=>by
  have c:listed.getD 10 Ë=Ë:=by
   cases q:listed.getD 10 Ë with
   |false=>rfl
   |true=>exact absurd (y.Y 10 zH ⟨9,ĉ⟩ U q (by simp[zH]) U)<|by rw[H];decide
  have e:listed.getD 11 Ë=Ë:=by
   cases q:listed.getD 11 Ë with
   |false=>rfl
   |true=>exact absurd (y.Y 11 B6 ⟨10,ĉ⟩ U q (by simp[B6]) U)<|by rw[c];decide
  have h:listed.getD 12 Ë=Ë:=by
   cases q:listed.getD 12 Ë with
   |false=>rfl
   |true=>exact absurd (y.Y 12 B7 ⟨10,ĉ⟩ U q (by simp[B7]) U)<|by rw[c];decide
  have m:listed.getD 13 Ë=Ë:=by
   cases q:listed.getD 13 Ë with
   |false=>rfl
   |true=>exact absurd (y.Y 13 B8 ⟨11,ĉ⟩ U q (by simp[B8]) U)<|by rw[e];decide
  have p:listed.getD 14 Ë=Ë:=by
   cases q:listed.getD 14 Ë with
   |false=>rfl
   |true=>exact absurd (y.Y 14 B9 ⟨12,ĉ⟩ U q (by simp[B9]) U)<|by rw[h];decide
  match j with
  |9=>rw[H]at u;cases u
  |10=>rw[c]at u;cases u
  |11=>rw[e]at u;cases u
  |12=>rw[h]at u;cases u
  |13=>rw[m]at u;cases u
  |14=>rw[p]at u;cases u
  |0|1|2|3|4|5|6|7|8=>rfl
  |j+15=>rfl
 refine EO (f:=37) (args:=#[x,v,Å É n]) Q.1 (o:=xG) U (JR U _) (by k_ne) (λw=> ?_) (λw=> ?_) λw₁ r=> ?_
 .simp only[xG];go_simp
 .exact ô U η U U #[]
 have z:=(Q.2.1 H).G r;have C:=D.S (λb q=>z.O b q) (λb q=>z.r b (È q) id) z.I;have T:=λb q=>z.O b<|M b q;obtain⟨ra,cr,rb,rq,rfl,GK,vo,GM,GN,ready⟩:=ard (W.r λb q=>z.r b (È<|M b q) id) Y C.r C.C T;obtain⟨I,J,K,rfl⟩:∃I J K,x=Æ I J K:=by let⟨_,_,_,⟨I,J,K,e,_⟩,_⟩:=D.I;grind
 rw[arj];refine aq6 GK (λh=>È<|vo h) GM GN ready ⟨λb q=>È<|Ï q,λb q=>Ï q⟩ (λb q=>q.elim (λq=>q.elim (C.Y b)<|T b)<|C.C b) (λb q=>È<|È q) C.I D.c (by have:=D.d;omega) λE e p m c h hT=> ?_;refine hn _ E ⟨(Æ (Â ⟨e,0,Á⟩) d.length d.length,Æ p m c),(y.X2<|late _).fY (by rw[ht];decide) U B λ_=>rfl,h,λq=> ?_,λ_=>⟨_,e,p,m,c,z,U,hT⟩⟩;simp_all
end
section
variable{l o l4:fc}{ab:Nat}{s:List fK}{sl:Ñ}{V:Nat->Prop}{rs:List PR}
structure abl(l l4:fc)(ab n:Nat)(s:List fK)(sl:Ñ)(V:Nat->Prop)(rs:List PR)(an:Nat)(sJ:Ñ):Prop where
 r:∀b,l.O b->l4.O b/\l4.w.heap[b]?=l.w.heap[b]?
 fu:nB<=l4.w.heap.size
 C:l4.O an/\uJ an (jz rs s) l4.w/\kN l4.w an=Â (0,0)
 G4:∃V',RD (zG rs s) sJ V' l4.w/\(∀b,V' b->l4.O b)/\¬V' ab/\∀b,V' b->V b\/(b=1\/b=2\/b=3\/b=4)\/l.w.heap.size<=b
def arl{kd:Nat->Int}(h:∀p,p<rs.length->w.cell? ⟨i,p,Á⟩=Â (Ä<|xA (vH rs) (lh rs) p<|py (vH rs) (hD (lh rs) rs.length) s<|fL (lh rs) p))(d:w.cell? ⟨i,rs.length,Á⟩=Á):uJ i (jz rs s) w:=by refine⟨λp x a=> ?_,by unfold jz;simpa using d⟩;unfold jz at a;rw[ī]at a;obtain⟨q,e,rfl⟩:=ò.1 a;let⟨b,c⟩:=Õ.1 e;simp at b c;subst c;exact h p b
def Ca:(jz rs s).length=rs.length:=by simp[jz]
def arn:nB<=5:=by show À.globals.size<=5;decide+kernel
def aro{f:fc}{p:Option ù}(d:me l ab n s sl V)(t:gw l)(u:∀b,X b->l.w.heap.size<=b)(v:∀b,l.O b->o.O b/\o.w.heap[b]?=l.w.heap[b]?)(x:l.w.heap.size<=o.w.heap.size)(y:gw l4)(e:gh ff o f)(a:zy (λb=>(V b\/X b)\/b=1\/b=2\/b=3\/b=4) (vH rs) rs.length (lh rs) s f i (Æ p m j) l4):abl l l4 ab n s sl V rs i (Æ p m j):=by
 have g:∀b,l.O b->l4.O b/\l4.w.heap[b]?=l.w.heap[b]?:=λb q=>by let⟨z,h⟩:=v b q;let⟨k,r⟩:=a.M b<|e.O b z;exact⟨k,r.trans<|(e.r b (È z) id).trans h⟩
 refine⟨g,?_,⟨a.r.1,arl (kd:=lh rs) a.r.2 a.I.1,a.I.2⟩,?_⟩
 .have:=y.fu 4<|È (g 4<|d.C 4 A).1;have:=arn;omega
 .let⟨h,B,k⟩:=a.Y;have r:∀b,h b->V b\/(b=1\/b=2\/b=3\/b=4)\/l.w.heap.size<=b:=λb q=>by
   rcases(k b q).2 with((z|z)|z)|z
   .exact È z
   .exact Ï<|Ï<|u b z
   .exact Ï<|È z
   .exact Ï<|Ï<|Ì (Ì x e.I) z
  refine⟨h,B,λb q=>(k b q).1,λq=> ?_,r⟩;rcases r ab q with z|z|z
  .exact d.e z
  .exact d.M z
  .have:=t.fu ab<|È d.fl;omega
def arp{f:fc}{p:Option ù}(d:me l ab n s sl V)(h:abl l l4 ab n s sl V rs i (Æ p m j))(E:gw l4)(g:∀b,l4.O b->f.O b)(r:∀b,l4.O b->f.w.heap[b]?=(l4.w.setCell ⟨ab,1,Á⟩<|Æ p m j).heap[b]?)(v:l4.w.heap.size<=f.w.heap.size):Ml l f ab n (zG rs s) V:=by
 let⟨x,y,t,u,z⟩:=h.G4;have k:∀b,l4.O b->b≠ab->f.w.heap[b]?=l4.w.heap[b]?:=λb q e=>(r b q).trans<|lj (a:=⟨ab,1,Á⟩) e;have o:=h.r ab d.fl;refine⟨λb q e=>⟨g b (h.r b q).1,(k b (h.r b q).1 e).trans (h.r b q).2⟩,Æ p m j,x,⟨?_,λb q=>g b (h.r b<|d.C b q).1,?_,g ab o.1,y.r λb q=>k b (t b q) λe=>u<|e▸q,λb q=>g b<|t b q,u,d.c,d.d,d.M⟩,z⟩
 .exact d.r.r (Ì h.fu v) λb q=>(k b (h.r b<|d.C b q).1 λe=>d.M<|e▸q).trans (h.r b<|d.C b q).2
 .let⟨B,C,D⟩:=d.a;refine⟨B,?_,D⟩;rw[r ab o.1];unfold Ż;simp[Ķ,o.2,C]
def arq{J:Jd}(b:kg l)(d:fA.fi À Î J l (G (f.at (y.put ((Q[i]?).bind (·.dst))<|Ä ⟨#[]⟩)<|Ð Q jJ::L) qX)): fA.fi À Î J l (G (è À 38 #[Æ O 0 j,Ä B] Ą)<|f.at y (Ð Q (i::jJ)::L)::qX):=by
 have hF:True:=trivial;rw[EN [_,_] 73 ĕ];simp only[ą,ē,ě];conv in kQ _ _=>whnf
 apply fW (n:=60) b;repeat w_go fw
 u_in fw hF
 refine Ŧ (t:=4) U U ĕ U ⟨by u_nil,?_⟩;refine ï λ_ _=> ?_;exact d
def uJ.I{w':Í}{xs:List ByteArray}(h:uJ i xs w)(k:w'.heap[i]?=w.heap[i]?):uJ i xs w':= ⟨λp x a=>zD k<|h.r p x a,by have:=h.C;simp only[ß,k]at this|-;exact this⟩
def ars{xs:List ByteArray}(g:nu w)(h:uJ i xs w):ln i=Ë:=by
 have b:∀e,LX i e w->False:=λe ⟨c,o,j,_,_,d,l⟩=>by
  have f:w.cell? ⟨i,0,Á⟩=Â c[0]:=by simp only[ß,j,ö,ì,if_false];exact å d
  rcases ĥ xs.length with q|q
  .have a:=h.C;rw[q,f]at a;cases a
  .have a:=h.r 0 _<|Ó q;let⟨k,n,m⟩:=l c[0]<|î.2<|ă d;rw[f,m]at a;cases a
 cases q:ln i with
 |false=>rfl
 |true=>
  unfold ln at q;simp at q;rcases q with rfl|rfl
  .exact(b _ g.I).elim
  .exact(b _ g.C).elim
def kH.aru(a:kg l)(r:fG l l.w u):kH l {l with w:=u}:=⟨λ_ q=>q,λ_ q=>È q,U,U,U,U,U,r,mr a r⟩
def arv{a:Ĉ}{xs:List ByteArray}(b:ig l)(j:nB<=l.w.heap.size)(h:uJ n xs l.w)(m:l.O n)(o:ln n=Ë)(p:kN l.w n=Â (0,0))(s:xs.length<=1000){N:Nat}(t:xs.length=N)(u:B.size=1)(v:iE xs+xs.length<=140737488355328): fA.fi À Î (λc g=>kH l c/\c.d=l.d/\g=G (f.at (a.put ((Q[i]?).bind (·.dst))<|Ä<|kZ B xs)<|Ð Q jJ::L) qX) l (G (è À 38 #[Æ (Â ⟨n,0,Á⟩) N N,Ä B] Ą)<|f.at a (Ð Q (i::jJ)::L)::qX):=by
 subst t;rcases ĥ xs.length with e|e
 .have x:=Ý e;subst x;exact arq b.r.r<|.fB λy r=>⟨kH.aru b.r.r r,U,U⟩
 .refine(aq0 b.r b.q j h e (È m) o p s u v Î _ qX).fN ?_;rintro c g ⟨r,x,rfl⟩;exact⟨r,x,by rw[Ĝ]⟩
def arw{N:Array Ñ}{cf:ď}(C:me l ab n s sl V)(Dw:gw l)(TT:∀b,X b->l.w.heap.size<=b)(hl:∀b,l.O b->o.O b/\o.w.heap[b]?=l.w.heap[b]?)(jS:l.w.heap.size<=o.w.heap.size)(JS:rs.length<=24)(sf:iE (jz rs s)+rs.length<=140737488355328)(ht:N.size=39)(ht0:N[0]?=Â (Ã<|Â ⟨ab,0,Á⟩)) (hJ:∀P,ig P->Ml l P ab n (zG rs s) V->iZ vQ P (G (cf.at (y.put ((Q[i]?).bind (·.dst))<|ë #[Ä<|kZ ⟨#[59]⟩<|jz rs s,Å É 0])<|Ð Q jJ::L) qX)) (md:Ŀ) (listed:Array Bool) (a:Ĉ) (l4:fc) (hI:II ou N (j2 ab n sl v) (vI o (λb=>V b\/X b) rs s) listed a l4) (H:listed.size=ou.size) (I:ä md ou listed=[]): iZ vQ l4 (G ((base 17).at a<|Ð ou []::[av TS])<|cf.at y (Ð Q (i::jJ)::L)::qX):=by
 have hF:True:=trivial;let⟨x,D,g,_,hS⟩:=hI;have J:∀i∈ĳ 15,listed.getD i Ë=Î:=by
  cases md
  .exact pU I H (ĳ 15) [] fO λi c=>by cases c
  .exact λi c=>pU I H [0,1,2,3,4,5,6,7,8,9,10,11,13,12,14] [] fO (λi c=>by cases c) i (by have:=Ŷ.1 c;revert i;decide)
  .exact pU I H (ĳ 15) [] fO λi c=>by cases c
 obtain⟨l1,r,p,m,c,k1,rfl,hT⟩:=hS<|J 9 A;have h:=aro (rs:=rs) C Dw TT hl jS g.r k1 hT;let⟨F,ds⟩:=a;obtain rfl:ds=[]:=D.M;have S:F[0]?=Â (Ã<|Â ⟨ab,0,Á⟩):=(D.C A).trans ht0;have T:F[9]?=Â (Æ (Â ⟨r,0,Á⟩) rs.length rs.length):=D.r 13 B8 9 U (J 13 A) U;have W:F[10]?=Â (Æ p m c):=D.r 14 B9 10 U (J 14 A) U;have GX:F.size=39:=D.S.trans ht;clear D J hS hT k1 I H;obtain⟨u,rfl⟩:=sx F GX;simp only[List.getElem?_toArray,ī,List.getElem?_range,Nat.reduceLT,Ă,Ô]at S T W;simp only[ĳ,List.range.loop,List.map,S,T,W];clear S T W GX;let⟨fr,mo,hfr⟩:=C.a;let⟨Mn,hab⟩:=h.r ab C.fl;have Y:l4.w.heap[ab]?=Â (Û #[Å É n,sl] 68 (0,0)):=by rw[hab,mo,hfr]
 have c1:l4.w.cell? ⟨ab,1,Á⟩=Â sl:=by simp[ß,Y]
 have z1:l4.w.frozen? ⟨ab,1,Á⟩=Ë:=by simp[World.frozen?,Y]
 have Bc:=g.q;apply pE;apply fW (n:=20) g.r.r;conv in TS=>whnf
 iterate 7 w_go fw
 refine ï λ_ _=> ?_;apply Gn (p:=ab) (off:=1) (v:=Æ p m c) (u:=sl) U U (by k_ne) g.r.r Bc Mn c1 z1 U (λw z B=>by go_simp) (λw z B=>by simp[go_sem,events_store _ _ _ _ _ _ (show Value.oneCell' (Æ p m c)=Î from rfl),z,B]);have k5:=J3 (X:=λb=>b=ab) (p:=ab) (w':=l4.w.setCell ⟨ab,1,Á⟩<|Æ p m c) g.r (fG.fT _ _) Mn U fA.jV λj hj=>fA.lj hj;have rz:=k5.N g.r;have ato:(l4.w.setCell ⟨ab,1,Á⟩<|Æ p m c).heap.size=l4.w.heap.size:=fA.jV;have rn:ig ({l4 with w:=l4.w.setCell ⟨ab,1,Á⟩ (Æ p m c)}:fc):=⟨rz,g.d,g.q,g.N,g.I,g.M,g.k⟩;have c0:l4.w.cell? ⟨ab,0,Á⟩=Â (Å É n):=by simp[ß,Y]
 have arx:r≠ab:=λe=>by
  rcases ĥ (jz rs s).length with q|q
  .have z:=h.C.2.1.C;rw[q,e,c0]at z;cases z
  .have B:=h.C.2.1.r 0 _<|Ó q;rw[e,c0]at B;cases B
 have abm:(l4.w.setCell ⟨ab,1,Á⟩<|Æ p m c).heap[r]?=l4.w.heap[r]?:=fA.lj (a:=⟨ab,1,Á⟩) arx;have Tm:=h.C.2.1.I abm;have AX:kN (l4.w.setCell ⟨ab,1,Á⟩<|Æ p m c) r=Â (0,0):=(wo abm).trans h.C.2.2;have arz:ln r=Ë:=ars (C.r.r h.fu λb q=>(h.r b<|C.C b q).2) h.C.2.1;have hlen:(jz rs s).length=rs.length:=Ca;apply fW (n:=20) rz.r;iterate 4 w_go fw
 refine ï λ_ _=> ?_;refine xF (f:=38) (args:=#[Æ (Â ⟨r,0,Á⟩) rs.length rs.length,Ä ⟨#[59]⟩]) U fO (by k_ne) rz.r (λw=>by go_simp) (λw=>ô U ĕ U U #[]) λw₁ E=> ?_;have Mm:=rn.C E;have arA:uJ r (jz rs s) w₁:=Tm.I<|E.I r<|È h.C.1;refine fA.fi.mg ?_ (arv (xs:=jz rs s) Mm (Ì (by rw[fA.jV];exact h.fu) E.r) arA h.C.1 arz ((wo<|E.I r<|È h.C.1).trans AX) Z hlen U Z);rintro K g6 ⟨M,hd,rfl⟩;have TU:ig K:=kH.DF Mm M hd;have hk6:∀b,l4.O b->K.w.heap[b]?=(l4.w.setCell ⟨ab,1,Á⟩<|Æ p m c).heap[b]?:=λb q=>(M.r.I b<|È q).trans<|E.I b<|È q;have hs6:l4.w.heap.size<=K.w.heap.size:=by have z:=M.r.r;have B:=E.r;have h3:(l4.w.setCell ⟨ab,1,Á⟩<|Æ p m c).heap.size=l4.w.heap.size:=fA.jV;exact Ì (Nat.le_of_eq h3.symm)<|Ì B z
 have B:∀b,l4.O b->K.O b:=λb q=>M.O b q;generalize kZ ⟨#[59]⟩ (jz rs s)=ans at*;walk_nrm;apply fW (n:=20) TU.r.r;repeat w_go fw
 u_in fw hF
 refine θ (t:=4) (u:=5) U U Ł U ⟨by u_nil,?_⟩;refine ï λ_ _=> ?_;refine .fB λwi z=>⟨TU.C z,U,hJ _ (TU.C z)<|arp C h g.r B (λb q=>(z.I b<|È<|B b q).trans<|hk6 b q)<|Ì hs6 z.r⟩
end
section
variable{l:fc}{s:List fK}
theorem arB{e:fc}{c:Nat->Prop}{g:List PR}(B:me l j n s v X)(C:gw l)(D:me e j n s v X)(k:ig e)(W:RQ g z c e.w)(Y:∀b,c b->e.O b)(hok:∀r∈g,uF r)(E:g.length<=24)(F:∀b,c b->l.w.heap.size<=b)(H:∀b,l.O b->e.O b/\e.w.heap[b]?=l.w.heap[b]?)(I:l.w.heap.size<=e.w.heap.size)(J:iE (jz g s)+g.length<=140737488355328)(t:d.size=39)(u:d[0]?=Â (Ã<|Â ⟨j,0,Á⟩))(K:d[6]?=Â z) (M:∀h,ig h->Ml l h j n (zG g s) X->iZ vQ h (G (f.at (y.put ((Q[i]?).bind (·.dst))<|ë #[Ä<|kZ ⟨#[59]⟩<|jz g s,Å É 0])<|Ð Q jJ::L) qX)): iZ vQ e (G ((base 17).at ⟨d,[]⟩<|av (.region 4 ou Î)::[av TS])<|f.at y (Ð Q (i::jJ)::L)::qX):=by
 refine arf (II ou d (j2 j n v z)<|vI e (λb=>X b\/c b) g s) k (λa x=> ?_) (λm o a l i jJ p N P=> ?_) λm o a l p S T=> ?_
 .refine⟨(ĸ,ĸ),mJ.G _ _ _,k.C x,λ_=>(gh.fT k.r.r).G x,λq=> ?_⟩;exact absurd q A
 .by_cases V:i=9
  .grind [ark]
  .exact arh (ari D t u K m o a l i jJ p N V) (λN h q=>by let⟨x,_,q⟩:=q;exact q.1) P
 .exact arw B C F H I E J t u M m o a l p S T
def abn(p:ig l)(r:me l j n s v X)(I:B.size<=Ē)(J:(gU B).1=0->iE (jz (gU B).2.2 s)+(gU B).2.2.length<=140737488355328) (t:∀z,ig z->Ml l z j n (mb s B).2.2 X->iZ vQ z (G (f.at (y.put ((Q[i]?).bind (·.dst))<|ë #[Ä (mb s B).1,Å É (mb s B).2.1])<|Ð Q jJ::L) qX)): iZ vQ l (G (è À 17 #[Ã<|Â ⟨j,0,Á⟩,Ä B] Ą)<|f.at y (Ð Q (i::jJ)::L)::qX):=by
 have hF:=trivial;rw[EN [_,_] 37 Ł];simp only[ą,ē,ě];conv in kQ _ _=>whnf
 apply pE;apply fW (n:=20) p.r.r;iterate 8 w_go fw
 refine ï λ_ _=> ?_;refine xF (f:=36) (args:=#[Ä B]) U fO (by k_ne) p.r.r (λw=>by go_simp) (λw=>ô U ļ U U #[]) λw₁ m=> ?_;have C:=p.C m;refine fA.fi.mg ?_<|aqT C.r C.q (Ì r.r.fu m.r) I Î _ _;rintro u g1 ⟨x,K,a,rfl,M⟩;have g:=kH.DF C x K;have h:∀b,l.O b->u.O b/\u.w.heap[b]?=l.w.heap[b]?:=λb q=>⟨x.O b q,(x.r.I b<|È q).trans<|m.I b<|È q⟩;have F:=Ì m.r x.r.r;rw[Ĝ];by_cases k:(gU B).1=0
 .have D:mb s B=(kZ ⟨#[59]⟩<|jz (gU B).2.2 s,0,zG (gU B).2.2 s):=if_pos k;let⟨c,N,E⟩:=M k;have P:=J k;rw[D]at t;obtain⟨S,T⟩:=Mk;rw[k];generalize(gU B).2.2=rs at*;generalize(gU B).2.1=at1 at*;walk_nrm;apply fW (n:=40) g.r.r;repeat w_go fw
  refine ï λ_ _=> ?_;refine .fB λo d=>⟨g.C d,U,?_⟩;have V:=g.C d;have e:∀b,l.O b->({u with w:=o}:fc).O b/\o.heap[b]?=l.w.heap[b]?:=λb q=>⟨(h b q).1,(d.I b<|È (h b q).1).trans (h b q).2⟩;have H:=Ì F d.r;have W:=r.S (λb q=>(e b q).1) (λb q=>(e b q).2) H;have Y:=N.r λb q=>d.I b<|È (E b q).1;have hQ3:=λb q=>(E b q).1;have TT:=λb q=>Ì m.r (E b q).2;exact arB r p.r W V Y hQ3 S T TT e H P U U U t
 .have D:mb s B=(⟨#[]⟩,(gU B).1,s):=if_neg k;rw[D]at t;have c:((gU B).1 !=0)=Î:=by rwa[bne_iff_ne]
  generalize(gU B).1=er at*;generalize(gU B).2.1=at1 at*;walk_nrm;apply fW (n:=40) g.r.r;repeat w_go fw
  u_in fw hF
  refine θ U U Ł U ⟨by u_nil,?_⟩;refine ï λ_ _=> ?_;refine .fB λo d=>⟨g.C d,U,t _ (g.C d) ?_⟩;have e:∀b,l.O b->({u with w:=o}:fc).O b/\o.heap[b]?=l.w.heap[b]?:=λb q=>⟨(h b q).1,(d.I b<|È (h b q).1).trans (h b q).2⟩;exact⟨λb q _=>e b q,v,X,r.S (λb q=>(e b q).1) (λb q=>(e b q).2)<|Ì F d.r,λb q=>È q⟩
end
def TV(a:ByteArray)(c:a.size=1):∀b:List ByteArray,(kZ a b).size<=iE b+b.length
 |[]=>Ø _
 |x::r=>by
  show(x.data.toList++np a r).toArray.size<=_;have d:iE (x::r)=x.size+iE r:=by simp[iE]
  have e:x.data.toList.length=x.size:=by rw[ĝ];rfl
  simp only[ř,Ù,LH a c r,d,e,đ];omega
def TW{M:Nat}(a:∀z∈vX,z.size<=M)(b:M<=100)(c:vX.length<=400000):(Eu vX).size<=100000000:=by
 unfold Eu;split
 .decide
 .have d:=TV ⟨#[44]⟩ U vX;have e:=Er vX a;have:M*vX.length<=100*400000:=ű b c;omega
theorem EP(i:Nat):(oU i).size<=3:=by
 unfold oU qd;rw[ø];split
 .show 1+1<=3;decide
 .show 1+2<=3;decide
theorem abo(s:iC.St)(x y:Nat)(k:Int):∀(m i:Nat),i+m<=1000->(sR s x y k i m).size<=20
 |0,i,_=>by unfold sR;decide
 |m+1,i,h=>by
  unfold sR;split
  .exact qH i Z
  .exact abo s x y k m (i+1) Z
theorem arC(s t:iC.St):(qK s t 8).length<=400000:=by
 unfold qK;have a:∀l:List Nat,(l.flatMap<|zq s t).length<=18*l.length:=λl=>by
  induction l with
  |nil=>simp
  |cons i l b=>
   rw[List.flatMap_cons,Ù,đ];have:(zq s t i).length<=18:=by unfold zq;grind [Ù,LB,S_]
   omega
 grind
theorem arD{i:List (Nat×fK)}{q:Qn}(n:lq (kj i))(ok:q.Ok):(vy i q).size<=100000000:=by
 unfold vy;split
 .grind [EP]
 .rename_i p o;let⟨b,f,v,w⟩:=n.r _<|Ú.2 ⟨p,HC o,U⟩;have j:∀u,u<18446744073709551616->(gM u).size<=100000000:=λu r=>by have:=qH u r;omega
  unfold Ev;split
  .have c:=f.C q.x q.I;exact j _ (by have:=c.1;have:=c.2;omega)
  .split
   .have c:=f.fv q.x;exact j _ (by have:=c.1;have:=c.2;omega)
   .split
    .split
     .grind [EP]
     .rename_i B;have l:gf (q.k:Int):=⟨Z,by have:=ok.k;omega⟩;have e:=K7 p.2.s [] q.x q.y q.g q.k f ok.x ok.y l Z Z (by simp;omega);unfold Tb;have C:=e.r;have m:=e.M;have t:=e.I;simp at t;have D:=TV ⟨#[44]⟩ U<|[gM (gi p.2.s [] q.x q.y q.g q.k).C.toNat,gM (gi p.2.s [] q.x q.y q.g q.k).M.toNat,gM (gi p.2.s [] q.x q.y q.g q.k).r.toNat]++(gi p.2.s [] q.x q.y q.g q.k).I.map rJ;have E:=Er (M:=21) ([gM (gi p.2.s [] q.x q.y q.g q.k).C.toNat,gM (gi p.2.s [] q.x q.y q.g q.k).M.toNat,gM (gi p.2.s [] q.x q.y q.g q.k).r.toNat]++(gi p.2.s [] q.x q.y q.g q.k).I.map rJ) λz d=>by
       rcases â.1 d with h|h
       .simp at h;rcases h with rfl|rfl|rfl
        .have:=qH (gi p.2.s [] q.x q.y q.g q.k).C.toNat (by cases(gi p.2.s [] q.x q.y q.g q.k).C<;>decide);omega
        .have:=qH (gi p.2.s [] q.x q.y q.g q.k).M.toNat (by have:=m.1;have:=m.2;omega);omega
        .grind [qH]
       .obtain⟨e,a,rfl⟩:=Ú.1 h;exact LL ((SN p.2.s [] q.x q.y q.g q.k f ok.x ok.y l Z Z (by simp;omega) λ_ q=>by cases q) e a).2
      grind
    .split
     .grind [abo]
     .split
      .have:=aag<|Ee p.2.s;have:=aah<|16-(nt<|Ee p.2.s).size;unfold LP;rw[ø];omega
      .split
       .exact TW (λz d=>by obtain⟨e,a,rfl⟩:=Ú.1 d;exact LL (b.C e a).2) Z<|by rw[ú];exact b.I
       .split
        .exact TW (λz d=>by obtain⟨e,a,rfl⟩:=Ú.1 d;exact Z_ (b.r e a).1 (b.r e a).2) Z (by rw[ú];have:=b.M;omega)
        .split
         .grind [EP]
         .exact TW (aai _ _) Z<|arC _ _
theorem arE(a:List (Nat×fK))(v:Int)(x:Nat)(gI:List Tx):(sQ a v x gI).2.size<=3:=by
 unfold sQ;split
 .exact EP 3
 .split
  .exact EP 4
  .split
   .exact EP 5
   .show(qd a.length).size<=3;unfold qd;split
    .show 1<=3;decide
    .show 2<=3;decide
def arF{s:List fK}{i:Int×Nat×List Tx}(h:lq s)(a:∀t∈i.2.2,t.Ok)(b:i.2.2.length<=1000):lq (Ey s i):= lq.M (by rwa[LY]) a b
def abp{a:List PR}{s:List fK}(h:lq s)(b:∀r∈a,uF r):∀k,k<=(hD (lh a) a.length).length->lq (py (vH a) (hD (lh a) a.length) s k)
 |0,_=>h
 |k+1,hk=>by
  have c:a.getD ((hD (lh a) a.length).getD k 0) pF∈a:=ç (i:=(hD (lh a) a.length).getD k 0) (by have q:=(G2<|vt (l:=hD (lh a) a.length)<|show k<_ from hk).1;generalize(hD (lh a) a.length).getD k 0=j at q;simp[Ġ,q]);have q:=b _ c;refine arF (abp h b k Z) (λt d=> ?_) ?_
  .obtain⟨x,t,rfl⟩:=Ú.1 d;exact toTx_ok<|q.C x t
  .show((a.getD _ pF).r.map toTx).length<=1000;rw[ú];have:=q.n;omega
def Q6(kd:Nat->Int):∀{p R:Nat},p<=R->fL kd p<=(hD kd R).length:=λ{p R} h=>by
 show(hD kd p).length<=(hD kd R).length
 induction h with
 |refl=>exact æ _
 |@step R _ ih=>
  by_cases q:kd R=1
  .rw[sI q];simp;omega
  .rwa[vm q]
theorem arG{a:List PR}{s:List fK}(h:lq s)(b:∀r∈a,uF r)(l:a.length<=24):iE (jz a s)+a.length<=2400000024:=by
 have d:=Er (M:=100000000) (jz a s) λz c=>by
  unfold jz at c;obtain⟨p,e,rfl⟩:=Ú.1 c;have f:=Ŷ.1 e;have g:=abp h b (fL (lh a) p)<|Q6 _ Z;unfold xA;split
  .grind [Ì,arE]
  .rename_i j;have k:a.getD p pF∈a:=ç (i:=p) (by simp[Ġ,f]);exact arD (by rwa[LY])<|abj (b _ k) j
 rw[Ca]at d;omega
def TX{s:List fK}(h:lq s):iE (jz (gU B).2.2 s)+(gU B).2.2.length<=140737488355328:=Ì (arG h Mk.1 Mk.2) A
def Ib(c:Int):Int:=if c<0 then(-(c+1))%8 else c%8
def arH(c:Int)(b:-9223372036854775808<=c)(d:c<=9223372036854775807)(w:Í):Ò À 30 #[Å É c,Å É 8] w λe a=>e=Ç (Å É<|Ib c)/\a=w:=by
 unfold Ib;by_cases h:c<0
 .rw[if_pos h];have e:-(c+1).tmod 8=(-(c+1))%8:=by rw[<-Int.neg_tmod,Int.tmod_eq_emod_of_nonneg Z]
  have H:=fe e.symm;clear e;go_enter ŧ,Ο;go_wp2;go_ret;exact⟨by rw[H.out];rfl,U⟩
 .rw[if_neg h];go_enter ŧ,Ο;go_wp2;go_ret;exact⟨U,U⟩
def TY(a:ù)(w:Í):Sem.events À (binOp BinOp.eql 26 (Ã<|Â a)<|Ã Á) w #[]=#[]:=ft
theorem arI{l:fc}(a:ig l)(p:nB<=l.w.heap.size){f:Ρ}{args:Array Ñ}{r:Ñ}(m:DW f=Î)(s:∀v∈args.toList,fj (pY (λ_=>False) À.globals.size) v v)(t:∀{Y v},fj Y r v->v=r)(x:∀w,Ò À f args w λe y=>e=Ç r/\y=w)(n:Bool)(c:ď)(i:List ď): fA.fi À n (λk o=>kH l k/\k.d=l.d/\o=G (c.finish r) i) l (G (è À f args Ą)<|c::i):=by
 let⟨E,F,z,B⟩:=yU f m;have C:∀T,Ò À f args (World.tp (kY (λj=>False/\¬(lR l).O j) l.w) T 0) fun|Ç v,j=>v=r/\j5 j|_,_=>False:=λT=>by refine(x _).mono ?_;grind [Ex]
 refine((DL xO KT yU (λv u T D h=>h) m z B (DN a.r) a.q (λb q=>q.elim) ⟨λb q=>q.elim,p⟩ (λg q=>by cases q) (po s) C n c i).lR a.r).fN ?_;rintro k o ⟨D,⟨Y,j,v,H,_,_,g,rfl,b,_,_,h⟩,rfl,u,_,_,_⟩;rw[t g]at b;exact⟨u,h,b⟩
def T0:ByteArray:=⟨#[98,48,58,97,59,98,48,58,104,59,117,48,59,98,49,58,97]⟩
def arJ:(mb [iC.mB] T0).1=⟨#[49,48,48,48,59,49,48,48,48,59,45,59,33,51]⟩:=ft
def arK:(mb [iC.mB] T0).2=(0,[iC.mB]):=ft
structure arL(l l':fc)(ab n:Nat)(sl:Ñ)(V:Nat->Prop):Prop where
 r:me l' ab n [iC.mB] sl V
 C:∀b,l.O b->l'.O b/\l'.w.heap[b]?=l.w.heap[b]?
 I:l.w.heap.size<=ab
 M:∀b,V b->(b=1\/b=2\/b=3\/b=4)\/l.w.heap.size<=b
section
variable{l:fc}
def T1{J:Jd}{s:List fK}(c:ig l)(d:me l j n s z X)(g:fA.fi À Î J l (G (f.at (y.put ((Q[i]?).bind (·.dst))<|Å É s.length)<|Ð Q jJ::L) qX)): fA.fi À Î J l (G (è À 22 #[Ã<|Â ⟨j,0,Á⟩] Ą)<|f.at y (Ð Q (i::jJ)::L)::qX):=by
 have hF:True:=trivial;obtain⟨a,b,rfl⟩:∃a b,z=Æ a s.length b:=by
  let⟨o,h,_,⟨a,k,b,e,_,m⟩,_⟩:=d.I;have:k=s.length:=by rw[m.r,<-h];simp[kj]
  exact⟨a,b,by rw[e,this]⟩
 have o:s.length<=40:=by let⟨_,_,e,_⟩:=d.I;exact e.C
 let⟨p,k,_⟩:=d.a;have m:l.w.cell? ⟨j,1,Á⟩=Â (Æ a s.length b):=by simp[ß,k]
 rw[EN [_] 7 Ũ];simp only[ą,ē,ě];conv in kQ _ _=>whnf
 refine fW (n:=20) c.r.r ?_;repeat w_go fw
 refine ï λ_ _=> ?_;refine nh (x:=⟨j,1,Á⟩) (v:=Æ a s.length b) U fO (by k_ne) c.r.r c.q (È<|È d.fl) m (λw h=>by go_simp) (λw h=>by simp[go_sem,h]) ?_;walk_nrm;refine fW (n:=20) c.r.r ?_;repeat w_go fw
 u_in fw hF
 refine Ŧ (t:=2) U U Ũ U ⟨by u_nil,?_⟩;refine ï λ_ _=> ?_;exact g
def abq(j:ig l)(p:nu l.w)(I:∀b,b=1\/b=2\/b=3\/b=4->l.O b)(c:Int)(tx:-9223372036854775808<=c)(zz:c<=9223372036854775807) (hJ:∀J a n K V,ig J->arL l J a n K V->iZ vQ J (G (f.at (y.put ((Q[i]?).bind (·.dst))<|Ã<|Â ⟨a,0,Á⟩)<|Ð Q jJ::L) qX)): iZ vQ l (G (è À 15 #[Å É c] Ą)<|f.at y (Ð Q (i::jJ)::L)::qX):=by
 have hF:True:=trivial;rw[EN [_] 36 ι];simp only[ą,ē,ě];conv in kQ _ _=>whnf
 apply pE;apply fW (n:=20) j.r.r;repeat w_go fw
 refine ï λ_ _=> ?_;refine xF (f:=30) (args:=#[Å É c,Å É 8]) U fO (by k_ne) j.r.r (λw=>by go_simp) (λw=>ô U ŧ U U #[]) λw₁ r=> ?_;have T:=j.C r;refine fA.fi.mg ?_ (arI T (Ì p.fu r.r) fO (λv h=>by simp at h;rcases h with rfl|rfl<;>exact .iI _ _) (λh=>by cases h;rfl) (arH c tx zz) Î _ _);rintro s g1 ⟨u,hd,rfl⟩;obtain⟨z,hz,Hj,DC⟩:∃z,Ib c=z/\0<=z/\z<8:=⟨_,U,by unfold Ib;split<;>omega,by unfold Ib;split<;>omega⟩;rw[hz];have M:ig s:=kH.DF T u hd;have x:∀b,l.O b->s.O b/\s.w.heap[b]?=l.w.heap[b]?:=λb q=>⟨u.O b q,(u.r.I b<|È q).trans<|r.I b<|È q⟩;have B:l.w.heap.size<=s.w.heap.size:=Ì r.r u.r.r;rw[Ĝ];walk_nrm;refine fW (n:=20) M.r.r ?_;repeat w_go fw
 refine ï λ_ _=> ?_;have oD:É.wrap (1+z)=1+z:=Ļ _ ⟨Z,Z⟩;refine xF (f:=35) (args:=#[Å É<|1+z]) U fO (by k_ne) M.r.r (λw=>by go_simp) (λw=>ô U ζ U U #[]) λwi h=> ?_;have N:=M.C h;obtain⟨n,hn⟩:∃n:Nat,1+z=n:=⟨(1+z).toNat,Z⟩;rw[hn];refine fA.fi.mg ?_<|aqZ N.r N.q (Ì (Ì p.fu B) h.r) (n:=(n:Int)) Z Z Î _ _;rintro d g3 ⟨C,wR,a,K,rfl,mo,Mn,hab,V,qB,hnV,W⟩;have g:ig d:=kH.DF N C wR;have k:∀b,l.O b->d.O b/\d.w.heap[b]?=l.w.heap[b]?:=λb q=>⟨C.O b (x b q).1,(C.r.I b<|È (x b q).1).trans<|(h.I b<|È (x b q).1).trans (x b q).2⟩;have X:l.w.heap.size<=d.w.heap.size:=Ì B<|Ì h.r C.r.r;have arM:l.w.heap.size<=a:=Ì B<|Ì h.r hab;have arN:∀b,b=1\/b=2\/b=3\/b=4->b<l.w.heap.size:=λb q=>j.r.fu b<|È<|I b q;have hin:me d a n [iC.mB] K V:=⟨p.r (Ì p.fu X) λb q=>(k b<|I b q).2,λb q=>(k b<|I b q).1,mo,Mn,qB,λb q=>(W b q).1,hnV,Z,Z,λq=>by have:=arN a q;omega⟩;have hVn:∀b,V b->l.w.heap.size<=b:=λb q=>Ì B<|Ì h.r (W b q).2;rw[Ĝ];walk_nrm;apply fW (n:=60) g.r.r;repeat w_go fw
 refine ï λ_ _=> ?_;apply nP (v:=õ Ë) U fO (by k_ne) g.r.r g.q (λw _=>by go_simp) (λw _ e m=>by simp[go_sem,TY]at m);walk_nrm;apply fW (n:=60) g.r.r;repeat w_go fw
 refine ï λ_ _=> ?_;refine .fB λY m=>⟨g.C m,U,?_⟩;have rn:=g.C m;have arO:=hin.N m;have P:∀b,l.O b->({d with w:=Y}:fc).O b/\Y.heap[b]?=l.w.heap[b]?:=λb q=>⟨(k b q).1,(m.I b<|È (k b q).1).trans (k b q).2⟩;refine EO (f:=17) (args:=#[Ã<|Â ⟨a,0,Á⟩,Ä ⟨#[98,48,58,97,59,98,48,58,104,59,117,48,59,98,49,58,97]⟩]) rn U fO (by k_ne) (λw=>by go_simp) (λw=>ô U Ł U U #[]) λabr D=> ?_;change iZ vQ _ (G (è À 17 #[Ã<|Â ⟨a,0,Á⟩,Ä T0] Ą) _);refine abn (rn.C D) (arO.N D) A (λ_=>TX abf) λl6 E abt=> ?_;rw[arK]at abt|-;rw[arJ];let⟨Jz,sl6,V6,abu,hV6⟩:=abt;have kO:∀b,l.O b->b≠a:=λb q e=>by have:=j.r.fu b<|È q;omega
 have F:∀b,l.O b->l6.O b/\l6.w.heap[b]?=l.w.heap[b]?:=λb q=>by let⟨o,H⟩:=Jz b (P b q).1<|kO b q;exact⟨o,H.trans<|(D.I b<|È (P b q).1).trans (P b q).2⟩
 have hV7:∀b,V6 b->(b=1\/b=2\/b=3\/b=4)\/l.w.heap.size<=b:=λb q=>by
  rcases hV6 b q with z|z|z
  .exact Ï<|hVn b z
  .exact È z
  .exact Ï<|Ì X<|Ì (Ì m.r D.r) z
 walk_nrm;apply pE;apply fW (n:=60) E.r.r;repeat w_go fw
 refine ï λ_ _=> ?_;refine xF (f:=22) (args:=#[Ã<|Â ⟨a,0,Á⟩]) U fO (by k_ne) E.r.r (λw=>by go_simp) (λw=>ô U Ũ U U #[]) λsF o=> ?_;apply T1 (E.C o) (abu.N o);have S:=E.C o;have arP:=abu.N o;walk_nrm;apply fW (n:=60) S.r.r;repeat w_go fw
 u_in fw hF
 refine Ŧ (t:=2) U U ι U ⟨by u_nil,?_⟩;refine ï λ_ _=> ?_;exact .fB λatp H=>⟨S.C H,U,hJ _ a n sl6 V6 (S.C H) ⟨arP.N H,λb q=>⟨(F b q).1,(H.I b<|È (F b q).1).trans<|(o.I b<|È (F b q).1).trans (F b q).2⟩,arM,hV7⟩⟩
end
def zI(l:fc)(c:Option ù)(N:Nat)(f:Nat->ByteArray):Prop:=∀j,j<N->(f j).size<=Ē/\∃a b,c=Â ⟨a,b,Á⟩/\l.O a/\l.w.cell? ⟨a,b+j,Á⟩=Â (Ä<|f j)
def zI.r{l a:fc}{d:Option ù}{N:Nat}{f:Nat->ByteArray}(h:zI l d N f)(k:∀b,l.O b->a.O b/\a.w.heap[b]?=l.w.heap[b]?):zI a d N f:=λj g=>by let⟨i,c,m,n,e,o⟩:=h j g;exact⟨i,c,m,n,(k c e).1,zD (k c e).2 o⟩
section
variable{c l a:fc}{x:Nat}{s t:List fK}{d:ď}{g:Ĉ}
def me.G(h:me l j n t v X)(c:∀b,l.O b->b≠x->a.O b/\a.w.heap[b]?=l.w.heap[b]?)(d:¬X x)(f:j≠x)(g:¬(x=1\/x=2\/x=3\/x=4))(i:nB<=a.w.heap.size):me a j n t v X:= ⟨h.r.r i λb q=>(c b (h.C b q) λe=>g<|e▸q).2,λb q=>(c b (h.C b q) λe=>g<|e▸q).1,h.a.r (c j h.fl f).2,(c j h.fl f).1,h.I.r λb q=>(c b (h.Y b q) λe=>d<|e▸q).2,λb q=>(c b (h.Y b q) λe=>d<|e▸q).1,h.e,h.c,h.d,h.M⟩
end
def arQ{t:Tmp}(d:f.kind=Ą)(e:y.defers=[])(g:P.funcs[f.fn]?=Â s)(c:s.results=#[.tmp t])(h:P.inits.idxOf? f.fn=Á):stepG P Î (G {f.at y L with mode:=.returning} []) w=.ended (.done<|y.tmps.getD t ĸ) w:=by have i:=results_tmp c y.tmps P w;have j:=events_results_tmp (P:=P) (w:=w) c y.tmps;simp[G,stepG,unwind,doReturn,Frame.at,d,e,g,i,j,h,seen,GStep.after]
def arR{l:fc}(e:iZ vQ l g)(a:ig l)(c:g.status=.running):rR vQ #[g] l.w Á #[]:=e a c (λ_=>False) 0 _ _ _ _ Á _ ⟨λx q=>q.elim,λ_ _ _ _ q=>q,Ø _⟩ (aq1 (P:=À) (J:=λ_ _=>True) (T:=.fB) U a.d a.q a.N a.I a.M a.k (λb q=>a.r.fu b<|È q) c λ_ _=>trivial) a.d U
def Mp(W:Í):fc:={O:=λb=>b<W.heap.size,I:=λ_=>False,r:=λ_=>False,N:=λ_=>False,K:=λ_=>False,d:=0,q:=False,w:=W}
def abv(W:Í):ig (Mp W):= ⟨⟨λ_ _=>id,λ_ q=>q.elim,λ_ q=>q.elim (λz=>z.elim) λz=>z.elim,λ_ q=>q.elim id λz=>z.elim,λ_ q=>q.elim (λz=>z.elim) λz=>z.elim,λ_ q=>q.elim⟩,U,id,λ_=>id,λ_=>id,λ_=>id,λ_=>id⟩
structure nG(W w':Í):Prop where
 qU:∀b,b<W.heap.size->w'.heap[b]?=W.heap[b]?
 CC:W.heap.size<=w'.heap.size
def arS(g:nu W):∀b,b=1\/b=2\/b=3\/b=4->b<W.heap.size:=λb q=>by let⟨c,a,h,_⟩:=g.C;have:=(á.1 h).1;omega
def arT:À.cellsOf 9=1:=ft
theorem arU(b a n:Nat):(⟨b,a,Á⟩:ù).add n=⟨b,a+n,Á⟩:=by unfold Addr.add;grind
theorem arV(h:w.cell? a=Â v):a.spot=Á/\a.block<w.heap.size:=by
 unfold ß at h;split at h
 .rename_i c t f e;constructor
  .simp_all
  .grind
 .cases h
open Go.ChangeShapes Go.WideShapes Go.ChangeAt Go.Deep in
theorem arW{H:Type}{enc:TypeId×Value->H}{x:DataW H×List MemPlace} (h:DataW.trod enc À W 0 (λ_=>Î) Î k 25 [Æ O J j9]=Â x):J<=Ē/\∃f,zI (Mp W) O J f:=by
 rcases open_slice Č h with⟨d,_⟩|⟨a,r,t,m,n,D,B,d,_,C,E,u,_,v⟩
 .have e:Æ O J j9=Æ Á 0 0:=by simpa using d
  cases e;exact⟨Ø _,λ_=>⟨#[]⟩,λj l=>by omega⟩
 have e:Æ O J j9=Æ (Â a) r t:=by simpa using d
 cases e;have F:m=j9:=by rw[u];rfl
 have w:∀i,∃s:ByteArray,i<J->W.cell? (a.add i)=Â (Ä s)/\s.size<=Ē:=by
  intro i;by_cases b:i<J
  .let⟨y,c,g⟩:=v i Z;rw[arT]at c;let⟨_,z,q⟩:=World.cells?_some c;let⟨s,p,_,G⟩:=DataW.trod_string Tryz.underlying9 g;subst p;have o:=q 0 fp;have I:(a.add i).add 0=a.add i:=rfl;grind
  .exact⟨⟨#[]⟩,λq=>absurd q b⟩
 let⟨f,q⟩:=Classical.axiomOfChoice w;refine⟨Z,f,λj l=> ?_⟩;let⟨c,g⟩:=q j l;let⟨o,_⟩:=q 0 Z;let⟨G,y⟩:=arV o;let⟨b,p,sp⟩:=a;have z:sp=Á:=by have:((⟨b,p,sp⟩:ù).add 0).spot=sp:=rfl;grind
 subst z;rw[arU]at c;exact⟨g,b,p,U,y,c⟩
end Go.Proofs.Y.lZ
