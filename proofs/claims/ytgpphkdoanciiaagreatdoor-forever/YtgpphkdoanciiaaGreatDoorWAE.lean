import Derived.Test.YtgpphkdoanciiaaGreatDoorWAD
import Derived.Lib.Bytealg
import Derived.WalkKit
import Derived.WalkSpells
import Derived.WalkLawsBesides
import Derived.Deep.Light
import Derived.WalkMore
import Derived.Deep.QuietTactic
import Derived.BigQuiet
import Derived.Conc.LeavingOf
import Derived.Conc.CrowdStepC
import Derived.Listen
import Derived.ProofKit
import Derived.Deep.Slices
set_option linter.all false
set_option maxRecDepth 1000000
set_option maxHeartbeats 8000000
open Go.Proofs.Tryz renaming prog->À,ntmps67->ñ,func67->ù,zeroCells292->ÿ,ntmps100->Ā,func100->Ą,underlying25->ē,func38->Ğ,results45->Ĭ,func36->Ň,results36->ň,func17->Ō,ntmps160->Ŕ,ntmps147->ŕ,ntmps38->Ř,func160->ś,func147->Ş,ntmps95->ş,ntmps36->Š,func95->ŭ,func30->ů,func22->Ű,ntmps123->Α,ntmps101->Ε,func123->Λ,func101->Τ,ntmps96->Χ,ntmps45->Ω,ntmps30->ζ,func96->ξ,func45->ο,func35->π,func37->ς,func15->φ,f38->aC
open Option renaming none->Á,some->Â,bind_eq_some_iff->ß,bind_eq_bind->ì,map->õ,map_eq_some_iff->ø,isSome_none->ü,map_some->þ,pure_def->ą,bind_some->Ķ,bind->κ
open Go.Value renaming pointer->Ã,string->Ä,int->Å,slice->Æ,tuple->ï,bool->û,cells->Ń
open Go.Ending renaming returned->Ç
open Or renaming inl->È,inr->Ï
open Go.IntKind renaming i64->É,u64->å,wrap_u64->Ċ,wrap_i64->ę,u8->Ų
open And renaming intro->Ê
open Go renaming World->Ë,Value->Ñ,Calls->Ò,Addr->ý,bodyPost_ret->ă,Act->Ď,Goroutine->đ,TypeId->ė,maxLen->Ě,Frame->ĝ,Oper->Ĩ,TypeInfo->Ĳ,undef->ł,results->Ŏ,execOp->Ť,runNT_fst->Ū,run_underlying->ŵ,info_parts->Ŷ,heap_alloc_new->Ż,Tape->ž,Trace->Ζ,runNT->Η,mem_ready->Ι,wp_loop->Κ,wpList_plain->Μ,yielded->Ρ,cell_one_new->Υ,Code->η,storeCells->ω,FuncId->ah,resolve->ai,builtin->aj,Program->ay,invoke->aF
open Bool renaming false->Ì,true->Î,false_eq_true->ð,eq_iff_iff->ģ
open Nat renaming le_trans->Í,zero_le->Ú,le_refl->â,lt_or_ge->Ĕ,zero_add->Ė,lt_of_lt_of_le->Ī,eq_zero_or_pos->Į,mul_le_mul->Ÿ,add_assoc->ſ
open Go.Item renaming inRegion->Ð,code->aI
open List renaming eq_nil_of_length_eq_zero->Ó,getElem?_eq_getElem->Ô,getElem?_eq_some_iff->Ö,length_append->Ø,mem_map->Ý,mem_append->à,mem_of_getElem?->è,setIfInBounds_toArray->ë,length_map->í,getElem?_map->ó,set_cons_zero->ā,set_cons_succ->Ă,replicate->Ĉ,length_cons->ĉ,getElem?_append_left->ċ,getD->ď,cons_append->ě,mem_cons_of_mem->ğ,getElem?_of_mem->Ġ,append_nil->ġ,nil_append->Ĥ,getElem_of_mem->Ħ,getElem?_append_right->ĩ,range->ĭ,getElem?_eq_none_iff->į,extract_eq_take_drop->İ,mem_or_eq_of_mem_set->ı,take_add_one->ĳ,append_assoc->Ĵ,all_eq_true->ķ,length_nil->ļ,set_append_right->Ľ,getElem?_eq_none->ľ,mem_of_mem_take->Ņ,length_pos_iff->Ő,map_cons->œ,mem_singleton->ŗ,map_nil->Ś,ext_getElem?->Ŝ,size_toArray->š,take_length->Ţ,length_take->ţ,map_toArray->ť,mem_flatMap->ŧ,mem_range->Ž,length->θ
open Option.some renaming injEq->Õ,inj->aA
open Array renaming getElem?_eq_some_iff->Ù,getElem?_eq_getElem->Ü,getElem?_eq_none->æ,getD_eq_getD_getElem?->ê,mem_toList_iff->ò,getElem_mem->Ć,length_toList->Č,size_setIfInBounds->ĵ,mem_of_getElem?->Ŀ,getElem?_modify->ŀ,getElem?_toList->Ł,toList_extract->ń,replicate->ű
open Go.Lib renaming byteCells->Û,indexByte->á,strCells->Ĺ,hasPrefix->Γ,TabIs->av
open Go.Obj renaming cells->Þ
open Go.World renaming cell?->ã,setCell->Δ,drew->ae,var?->af
open Go.Code renaming wp->ä,wp_mono->ĺ,loop->ŏ,skip->aD
open Go.Region renaming ready->ç,wanted->Ĝ,Mode->Ŋ
open Go.Frame renaming enter->é,finish_at->ĥ
open ByteArray renaming size_append->î,getElem_eq_getElem_data->Ē,size_extract->ĕ,data_extract->Ļ,size->Ŵ,data->ŷ,size_data->ψ,extract->ak,mk->aN
open Go.Conc.Goes renaming stop->ô
open Go.Ground renaming phase->ö,data->Đ
open Go.Conc renaming events_call_body->ú,crowd->ĸ,goes_leave1->Ů,Good->ε,goes_leave2->υ,listed->aJ
open Go.CallKind renaming normal->ć
open Go.Region.linearise renaming go->č
open Go.Great renaming wpList_runTo->Ę
open Go.Builtin renaming append_->Ģ,firstCells->Ŗ,lenOf->Β,append->χ,zeroCells->au
open Go.ByteArray renaming toList_eq->ħ
open Go.RowKit.Below renaming heap_setCell->ī,heap_alloc->Ũ
open Go.IntWalk renaming i64_in->ņ,i64_left->ũ
open Go.Made renaming word->ō,reckonStruct->ŝ,infoAt->ū,mostCells->Ź,reckon->ν
open Int renaming toNat_of_nonneg->ő,le_refl->Ŭ
open Go.Operand renaming tmp->Œ
open Go.Result renaming andThen_ok->ř,andThen->ź
variable{i n j b k m J j9 j7 j6:Nat}{w u W jX:Ë}{v x z jQ:Ñ}{g:đ}{a p:ý}{h c:Int}{e t T:ė}{d q:Array Ñ}{P:ay}{y:Ď}{B:ByteArray}{X:Nat->Prop}{O:Option ý}{l:List Ñ}{yQ:Bool}{K H:Ď->Ë->Prop}{o:Ĩ}{D:Nat->Nat}{E:Array đ}{L:List Go.Item}{jJ:List Nat}{qX:List ĝ}{qJ:Ζ}{zX:Go.Loc->Prop}{zQ:List Int}{zJ:Ĳ}{xQ:ž}{xJ:Nat×Nat}{vX:List ByteArray}{vQ:Ñ->Ë->Prop}{vJ:Go.Exit->Ď->Ë->Prop}{Q:Array Ĩ}{f:ĝ}{F:ah}{s:Go.Func}
namespace Go.Proofs.Y.jr
open Go Go.Proofs Go.RowKit Go.Proofs.Y.Lift
def GY:η->Option η
 |ŏ c=>Â c
 |.seq a b=>match GY b with
  |some c=>Â c
  |none=>GY a
 |.block _ c=>GY c
 |.scope c=>GY c
 |.cond _ a b=>match GY b with
  |some c=>Â c
  |none=>GY a
 |_=>Á
noncomputable def Rr:η:=(aC.body.bind mC).getD aD
noncomputable def Rs:η:=(aC.body.bind GY).getD aD
def QE(k:Nat)(X:Ď->Ë->Prop):Exit->Ď->Ë->Prop
 |.exit i,a,w=>i=k/\X a w
 |_,_,_=>False
def uV(a:ByteArray)(b:List ByteArray):List UInt8:=b.flatMap λy=>a.data.toList++y.data.toList
def aqL(a:ByteArray):List ByteArray->List UInt8
 |[]=>[]
 |x::r=>x.data.toList++uV a r
def jP(xs:List ByteArray):Nat:=(xs.map Ŵ).sum
def Xz(a b:List ByteArray):jP (a++b)=jP a+jP b:=by simp[jP]
def adg(a:List ByteArray)(j:Nat):jP (a.take j)<=jP a:=by have h:=Xz (a.take j)<|a.drop j;rw[List.take_append_drop]at h;omega
def Rt(a:ByteArray)(c:a.size=1):∀b:List ByteArray,(uV a b).length=jP b+b.length
 |[]=>rfl
 |x::r=>by
  have d:=Rt a c r;have e:uV a (x::r)=(a.data.toList++x.data.toList)++uV a r:=U;have f:a.data.toList.length=1:=by simpa using c
  have g:x.data.toList.length=x.size:=fB
  have h:jP (x::r)=x.size+jP r:=by simp[jP]
  rw[e,Ø,Ø,d,f,g,h,ĉ];omega
def Jx(a:Option ý)(n b:Nat)(c:ByteArray)(m i:Int)(u:Nat->Ñ):Ď:=⟨#[Æ a n b,Ä c,u 2,u 3,u 4,Å É m,u 6,u 7,u 8,u 9,u 10,u 11,u 12,u 13,u 14,u 15,u 16,u 17,u 18,u 19,u 20,u 21,u 22,u 23,u 24,u 25,u 26,u 27,u 28,u 29,u 30,u 31,u 32,u 33,u 34,u 35,u 36,u 37,u 38,Æ a n b,Å É n,Å É i,u 42,u 43,u 44,u 45,u 46,u 47,u 48,u 49,u 50,u 51,u 52,u 53,u 54,u 55,u 56,u 57,u 58,u 59,u 60,u 61,u 62,u 63,u 64,u 65,u 66,u 67,u 68,u 69,u 70,u 71,u 72,u 73,u 74],[]⟩
def Jy(b:Option ý)(n c:Nat)(d:ByteArray)(m i:Int)(a:Ď):Prop:=∃u,a=Jx b n c d m i u
def s6(a:Option ý)(n c b:Nat)(d:ByteArray)(i:Int)(u:Nat->Ñ):Ď:=⟨#[u 0,Ä d,u 2,u 3,u 4,u 5,u 6,u 7,Ã<|Â ⟨b,0,Á⟩,u 9,u 10,u 11,u 12,u 13,u 14,u 15,u 16,u 17,u 18,u 19,u 20,u 21,u 22,u 23,u 24,u 25,u 26,u 27,u 28,u 29,u 30,u 31,u 32,u 33,u 34,u 35,u 36,u 37,u 38,u 39,u 40,u 41,u 42,u 43,u 44,u 45,u 46,u 47,u 48,u 49,u 50,u 51,u 52,u 53,u 54,u 55,u 56,u 57,u 58,u 59,u 60,u 61,u 62,Æ a n c,Å É n,Å É i,u 66,u 67,u 68,u 69,u 70,u 71,u 72,u 73,u 74],[]⟩
def Jz(c:Option ý)(n d b:Nat)(e:ByteArray)(i:Int)(a:Ď):Prop:=∃u,a=s6 c n d b e i u
section
variable{X:Ď->Ë->Prop}{sep:ByteArray}{xs:List ByteArray}
def aqM(u:Nat->Ñ)(m:Int)(b:∀a,Jy O n i sep m n a->X a w): ä À Rr (Exit.then K<|QE 1 X) (Jx O n i sep m n u) w:=by
 unfold Jx;conv=>arg 2;whnf
 go_wp2_with fail
 exact⟨U,b _ (gL _)⟩
def aqN(u:Nat->Ñ)(m j:Nat)(f:j<n)(g:n<=1000000)(b c:Nat)(e:O=Â ⟨b,c,Á⟩)(x:ByteArray)(h:w.cell? ⟨b,c+j,Á⟩=Â (Ä x))(k:m+x.size<=140737488355328) (d:∀a,Jy O n i sep ((m+x.size:Nat):Int) ((j+1:Nat):Int) a->K a w): ä À Rr (Exit.then K<|QE 1 X) (Jx O n i sep m j u) w:=by
 unfold Jx;conv=>arg 2;whnf
 subst e;have l:(0:Int)<=(j:Int):=Z
 have o:(j:Int)<(n:Int):=Z
 have p:¬((9223372036854775807:Int)-(m:Int)<(x.size:Int)):=Z
 have q:(x.size:Int)<=(9223372036854775807:Int)-(m:Int):=Z
 have r:É.wrap ((9223372036854775807:Int)-(m:Int))=(9223372036854775807:Int)-(m:Int):=by rw[ę];omega
 have s:É.wrap ((m:Int)+(x.size:Int))=((m+x.size:Nat):Int):=by rw[ę];omega
 have H:=fp d;clear d;go_wp2_with fail;exact H.out _ (gL _)
def J1(O:Option ý)(n i:Nat)(sep:ByteArray)(b:Nat)(xs:List ByteArray)(u:Ë)(a:Ď)(w:Ë):Prop:=
 ∃j:Nat,Jy O n i sep ((b+jP (xs.take j):Nat):Int) j a/\j<=n/\w=u
def J1E(O:Option ý)(n i:Nat)(sep:ByteArray)(b:Nat)(xs:List ByteArray)(u:Ë)(a:Ď)(w:Ë):Prop:=
 Jy O n i sep ((b+jP xs:Nat):Int) n a/\w=u
def Ru(n:Nat)(a:Ď)(_:Ë):Nat:=match a.tmps.getD 41 ł with
 |Å _ i=>n-i.toNat
 |_=>0
def adh(b:Jy O n i sep h j y):Ru n y w=n-j:=by obtain⟨u,rfl⟩:=b;show n-(j:Int).toNat=_;simp
def aqO(d:n=xs.length)(g:n<=1000000)(h:p7 O (mD xs) u)(t:j+jP xs<=140737488355328)(a:Ď)(w:Ë)(k:J1 O n i sep j xs u a w): ä À Rr (Exit.then (λb c=>J1 O n i sep j xs u b c/\Ru n b c<Ru n a w)<|QE 1<|J1E O n i sep j xs u) a w:=by
 obtain⟨b,e,v,rfl⟩:=k;rw[adh e];obtain⟨c,rfl⟩:=e;by_cases l:b=n
 .subst l;refine aqM c _ λa q=>⟨?_,U⟩;rw[d,Ţ]at q;rwa[d]
 .obtain⟨x,f⟩:∃x,xs[b]?=Â x:=⟨_,Ô Z⟩;let⟨m,o,p,r⟩:=h b (Ä x) (by simp[mD,f]);have s:jP (xs.take<|b+1)=jP (xs.take b)+x.size:=by
   rw[ĳ,f,Xz];simp[jP]
  have y:=adg xs<|b+1;refine aqN c _ b Z g m o p x r Z λa q=>⟨⟨b+1,?_,Z,U⟩,by rw[adh q];omega⟩;rwa[s,<-ſ]
def aqP(u:Nat->Ñ)(c:∀a,Jz O n i b sep n a->X a w): ä À Rs (Exit.then K<|QE 3 X) (s6 O n i b sep n u) w:=by
 unfold s6;conv=>arg 2;whnf
 go_wp2_with fail
 exact⟨U,c _ (gL _)⟩
def aqQ(c:Nat->Ñ)(j:Nat)(y:j<n)(z:n<=1000000)(d f:Nat)(o:O=Â ⟨d,f,Á⟩)(x:ByteArray)(p:u.cell? ⟨d,f+j,Á⟩=Â (Ä x))(l:List UInt8)(g:rU u b (Û l) w)(q:sep.size=1)(B:l.length+1+x.size<=140737488355328) (r:∀a h,Jz O n i b sep ((j+1:Nat):Int) a->rU u b (Û<|l++(sep.data.toList++x.data.toList)) h->K a h): ä À Rs (Exit.then K<|QE 3 X) (s6 O n i b sep j c) w:=by
 unfold s6;conv=>arg 2;whnf
 subst o;have C:(0:Int)<=(j:Int):=Z
 have D:(j:Int)<(n:Int):=Z
 have F:=g.fi.fg p id;have k:=Lib.byteCells_length l;have s:(Û l++Ĺ sep).length=l.length+1:=by rw[Ø,k,Lib.strCells_length,q]
 have E:Û l++Ĺ sep++Ĺ x=Û (l++(sep.data.toList++x.data.toList)):=by simp[Û,Ĺ]
 have H:=fp<|Ê g<|Ê r<|Ê k<|Ê s E;go_wp2_with (first
  |(go_at_call 55;refine(Xy t.out x<|by rw[H.out.2.2.2.1];omega).mono ?_;rintro e G ⟨rfl,m⟩;have v:=fp m;clear m)
  |(go_at_call 55;refine(Xy H.out.1 sep (by rw[H.out.2.2.1];omega)).mono ?_;rintro e G ⟨rfl,m⟩;have t:=fp m;clear m))
 apply H.out.2.1 _ _ (gL _);rw[<-H.out.2.2.2.2];exact v.out
def J2(O:Option ý)(n i b:Nat)(sep:ByteArray)(c:List UInt8)(xs:List ByteArray)(u:Ë)(a:Ď)(w:Ë):Prop:=
 ∃j:Nat,Jz O n i b sep j a/\j<=n/\rU u b (Û<|c++uV sep (xs.take j)) w
def J2E(O:Option ý)(n i b:Nat)(sep:ByteArray)(c:List UInt8)(xs:List ByteArray)(u:Ë)(a:Ď)(w:Ë):Prop:=
 Jz O n i b sep n a/\rU u b (Û<|c++uV sep xs) w
def Rv(n:Nat)(a:Ď)(_:Ë):Nat:=match a.tmps.getD 65 ł with
 |Å _ i=>n-i.toNat
 |_=>0
def adi(c:Jz O n i b sep j y):Rv n y w=n-j:=by obtain⟨u,rfl⟩:=c;show n-(j:Int).toNat=_;simp
def aqR{d:List UInt8}(l:n=xs.length)(m:n<=1000000)(h:sep.size=1)(o:p7 O (mD xs) u)(D:d.length+jP xs+n<=140737488355328)(a:Ď)(w:Ë)(p:J2 O n i b sep d xs u a w): ä À Rs (Exit.then (λc e=>J2 O n i b sep d xs u c e/\Rv n c e<Rv n a w)<|QE 3<|J2E O n i b sep d xs u) a w:=by
 let⟨j,k,E,f⟩:=p;rw[adi k];obtain⟨c,rfl⟩:=k;by_cases r:j=n
 .subst r;refine aqP c λa q=>⟨q,?_⟩;rwa[l,Ţ]at f
 .obtain⟨x,g⟩:∃x,xs[j]?=Â x:=⟨_,Ô Z⟩;let⟨s,t,v,y⟩:=o j (Ä x) (by simp[mD,g]);have F:jP (xs.take<|j+1)=jP (xs.take j)+x.size:=by
   rw[ĳ,g,Xz];simp[jP]
  have G:=adg xs<|j+1;have z:(d++uV sep (xs.take j)).length=d.length+jP (xs.take j)+j:=by rw[Ø,Rt sep h,ţ];omega
  have B:uV sep (xs.take<|j+1)=uV sep (xs.take j)++(sep.data.toList++x.data.toList):=by rw[ĳ,g];simp[uV]
  refine aqQ c j Z m s t v x y _ f h (by rw[z];omega) λa e q C=>⟨⟨j+1,q,Z,?_⟩,by rw[adi q];omega⟩;rwa[B,<-Ĵ]
end
section
variable{sep:ByteArray}{xs:List ByteArray}
def rV(sep:ByteArray)(xs:List ByteArray):ByteArray:=⟨(aqL sep xs).toArray⟩
def aqS:Ò À 38 #[Æ O 0 i,Ä sep] w λe a=>e=Ç (Ä ⟨#[]⟩)/\ff (λ_=>False) w a:=by go_enter Ğ,Ř;go_wp2_with fail;go_ret;exact⟨U,ff.fY _ _⟩
def aqT(a b:Nat)(x:ByteArray)(d:w.cell? ⟨a,b,Á⟩=Â (Ä x)):Ò À 38 #[Æ (Â ⟨a,b,Á⟩) 1 i,Ä sep] w λe c=>e=Ç (Ä x)/\ff (λ_=>False) w c:=by go_enter Ğ,Ř;go_wp2_with fail;go_ret;exact⟨U,ff.fY _ _⟩
def aqU(k:Nat)(N:1<=k)(O:k<1000000)(d c:Nat)(P:k+1<=i)(m:sep.size=1)(x:ByteArray)(g:k=xs.length)(f:p7 (Â ⟨d,c,Á⟩) (mD<|x::xs) w)(E:jP (x::xs)+(k+1)<=140737488355328): Ò À 38 #[Æ (Â ⟨d,c,Á⟩) (k+1) i,Ä sep] w λe q=>e=Ç (Ä<|rV sep<|x::xs)/\ff (λ_=>False) w q:=by
 have F:jP (x::xs)=x.size+jP xs:=by simp[jP]
 have n:∀a,Jy (Â ⟨d,c,Á⟩) (k+1) i sep ((k+jP ((x::xs).take 0):Nat):Int) (0:Nat) a->ä À (ŏ Rr) (QE 1<|J1E (Â ⟨d,c,Á⟩) (k+1) i sep k (x::xs) w) a w:=λa h=>
  Κ (J1 (Â ⟨d,c,Á⟩) (k+1) i sep k (x::xs) w) (Ru<|k+1) ⟨0,h,Ú _,U⟩<|aqO (by simp[g]) Z f Z
 have p:p7 (Â ⟨d,c+1,Á⟩) (mD xs) w:=λj u G=>by let⟨b,o,r,s⟩:=f (j+1) u (by simpa[mD]using G);cases r;exact⟨_,_,U,by rwa[show c+1+j=c+(j+1) by omega]⟩
 have t:∀a W,Jz (Â ⟨d,c+1,Á⟩) k (i-1) w.heap.size sep (0:Nat) a->rU w w.heap.size (Û<|x.data.toList++uV sep (xs.take 0)) W->ä À (ŏ Rs) (QE 3<|J2E (Â ⟨d,c+1,Á⟩) k (i-1) w.heap.size sep x.data.toList xs w) a W:=λa W h l=>
  Κ (J2 (Â ⟨d,c+1,Á⟩) k (i-1) w.heap.size sep x.data.toList xs w) (Rv k) ⟨0,h,Ú _,l⟩<|aqR g Z m p (by simp only[Č];have:x.data.size=x.size:=rfl;omega)
 let⟨_,_,I,b⟩:=f 0 (Ä x) U;cases I;have y:w.cell? ⟨d,c,Á⟩=Â (Ä x):=b;have z:x.data.toList++uV sep xs≠[]:=by intro q;have:=congrArg θ q;rw[Ø,Rt sep m,ļ]at this;omega
 have r:(((k+1:Nat):Int)==0)=Ì:=by simp;omega
 have s:(((k+1:Nat):Int)==1)=Ì:=by simp;omega
 have Q:(1:Int)<9223372036854775807/(k:Int):=by rw[Int.lt_iff_add_one_le,Int.le_ediv_iff_mul_le Z];omega
 have T:(1:Int)<=(k:Int)+1:=Z
 have B:0<k+jP (x::xs)/\k+jP (x::xs)<=281474976710656:=Z
 have C:(Û []).length+x.size<=140737488355328:=by simp[Û];omega
 have H:=fp<|Ê n<|Ê t<|Ê B<|Ê C<|Ê z y;clear n t B C z b y f p g E F;generalize J:jP (x::xs)=S at*;go_enter Ğ,Ř;go_wp2_with fail;refine ĺ ?_ (H.out.1 _ (gL _));rintro(_|_|_|_|_|_) a v hq;all_goals first|exact absurd hq id|skip
 obtain⟨rfl,o,rfl⟩:=hq;rw[J]at o;obtain⟨u,rfl⟩:=o;unfold Jx;have b:=H.out.2.2.2.2.2;go_wp2_with (first
  |(go_at_call 54;refine(aqJ ⟨â _,ff.gT _ _ _ _,fw.fN v [Ã Á,Æ Á 0 0] 109⟩ (k+S) H.out.2.2.1.1 H.out.2.2.1.2).mono ?_;rintro e K ⟨rfl,q⟩;have L:=q.fi.fg b id;have D:=fp q;clear q)
  |(go_at_call 55;refine(Xy D.out x H.out.2.2.2.1).mono ?_;rintro e q ⟨rfl,D⟩;have K:=fp D;clear D))
 have L:rU v v.heap.size (Û<|x.data.toList++uV sep (xs.take 0)) q:=by have:=K.out;show rU v v.heap.size (Û<|x.data.toList++[]) q;rw[ġ];exact this
 refine ĺ ?_ (H.out.2.1 _ _ (gL _) L);rintro(_|_|_|_|_|_) a w3 hq;all_goals first|exact absurd hq id|skip
 obtain⟨rfl,o,l⟩:=hq;obtain⟨v,rfl⟩:=o;unfold s6;have K:=fp l;go_wp2_with (go_at_call 56;refine(aqK K.out H.out.2.2.2.2.1).mono ?_;rintro e V ⟨rfl,D⟩;have M:=fp D;clear D);go_ret;exact⟨U,M.out⟩
def XA(a:n=xs.length)(f:n<=1000000)(g:n<=i)(h:sep.size=1)(b:p7 O (mD xs) w)(j:jP xs+n<=140737488355328): Ò À 38 #[Æ O n i,Ä sep] w λe c=>e=Ç (Ä<|rV sep xs)/\ff (λ_=>False) w c:=by
 cases xs with
 |nil=>subst a;exact aqS
 |cons x r=>
  let⟨c,d,k,c0⟩:=b 0 (Ä x) U;subst k;cases r with
  |nil=>
   subst a;have e:rV sep [x]=x:=by show aN ((x.data.toList++[]).toArray)=x;rw[ġ]
   rw[e];exact aqT c d x c0
  |cons y r=>
   subst a;exact aqU (r.length+1) Z (by simp at f;omega) c d g h x U b j
def aqV(a:n=xs.length)(c:n<=1000000)(d:n<=i)(h:p7 O (mD xs) w)(f:jP xs+n<=140737488355328): Ò À 123 #[Æ O n i] w λe b=>e=Ç (Ä<|if xs=[]then⟨#[45]⟩else rV ⟨#[44]⟩ xs)/\ff (λ_=>False) w b:=by
 have J:=XA (sep:=⟨#[44]⟩) a c d U h f;have H:=fp J;by_cases b:xs=[]
 .subst b;have e:=a;subst e;rw[if_pos U];clear a f H c d;go_enter Λ,Α;go_wp2_with fail;go_ret;exact⟨U,ff.fY _ _⟩
 .rw[if_neg b];have k:0<n:=by rw[a];exact Ő.2 b
  have l:((n:Int)==0)=Ì:=by simp;omega
  clear a;generalize rV ⟨#[44]⟩ xs=z at*;go_enter Λ,Α;go_wp2_with (go_at_call 38;apply H.out.mono;rintro e m ⟨rfl,g⟩;have j:=fp g;clear g);go_ret;exact⟨U,j.out⟩
end
def JA{M:Nat}:∀(a:List ByteArray),(∀z∈a,z.size<=M)->jP a<=M*a.length
 |[],_=>Ú _
 |x::r,h=>by
  have c:=JA r λz b=>h z<|ğ _ b;have d:=h x fB;have e:jP (x::r)=x.size+jP r:=by simp[jP]
  rw[e,ĉ,Nat.mul_add];omega
def Rw{e:Nat×Int}(h:gP e.2):(wv e).size<=21:=by unfold wv;rw[î];have:=By e.1;have:=uS e.2.toNat (by have:=h.1;have:=h.2;omega);omega
def adj{e:Int×Bool}(a:0<=e.1)(h:e.1<=400):(Ju e).size<=41:=by unfold Ju;rw[î,î];have:=uS e.1.toNat Z;have:=uS e.2.toNat (by cases e.2<;>decide);have:Ŵ ⟨#[58]⟩=1:=rfl;omega
section
variable{b:List ByteArray}
def adk{ty:ė}{base:Nat}(b:P.underlying t=Â (.slice e))(d:P.info? e=Â zJ)(h:w.ownsRow base e j v n l)(a:Option ý)(c:Nat): (Ģ #[t,t] ty #[v,Æ a 0 c]).run P w=.ok v w:=by
 have f:(Ŗ zJ.size 0<|Æ a 0 c).run P w=.ok #[] w:=by cases a<;>simp[Ŗ,loadCells,loadCellsFrom]
 rcases h.2 with⟨rfl,rfl⟩|⟨g,m,o,rfl,_,_,k,_⟩
 .simp[Ģ,ŵ b,sizeOf,typeInfo,d,Β,f,ω]
 .simp[Ģ,ŵ b,sizeOf,typeInfo,d,Β,f,k,ω]
def aqW{r:Array Ĩ}{t:List Ĩ}(l:o.guard=Á)(s c:Operand) (m:o.op=.call {callee:=.builtin χ,args:=#[s,c],argTypes:=#[25,25]}) (d:ji u v vX w) (n:y.eval s=v) {base:Nat} (B:w.ownsRow base 9 1 x b.length (mD b)) (e:y.eval c=x) (I:vX.length+b.length<=1000000) (h:∀j k,ji u j (vX++b) k->wpList À r vJ t (y.put o.dst j) k):wpList À r vJ (o::t) y w:=by
 let⟨J,p,D,E,F⟩:=Ŷ Db;rcases B.2 with⟨f,G⟩|⟨g,H,L,f,_⟩
 .have z:=Ó G;subst z;rw[f]at e;refine Μ l λK i=> ?_;have q:=adk (ty:=o.type) ē p d.fD Á 0;unfold Oper.wp Ť;simp only[m,ai,aF,aj,Sem.run_bind,Sem.run_pure,ř,ť,œ,Ś,n,e,q];exact i _ _<|h v w<|by rwa[ġ]
 .by_cases C:b=[]
  .subst C;rw[f]at e;refine Μ l λK i=> ?_;have q:=adk (ty:=o.type) ē p d.fD (Â ⟨g,0,Á⟩) H;unfold Oper.wp Ť;simp only[m,ai,aF,aj,Sem.run_bind,Sem.run_pure,ř,ť,œ,Ś,n,e,q,ļ];exact i _ _<|h v w<|by rwa[ġ]
  .have K:=Ő.2 C;refine Gv l s c 25 m ē p D E F U n d.fD ⟨g,0,Á⟩ (mD b) (e.trans f) K (by simp[mD]) (B.cells<|by rw[f];rfl) (λi q=>by unfold mD at q;obtain⟨z,_,rfl⟩:=Ý.1 q;rfl) (by unfold Ě;omega) Z d.fi.fh ?_;intro j k z;refine h j k ⟨?_,d.fi.kj z.fi λi M q=> ?_⟩
   .have:=z.fD;rwa[show mD vX++mD b=mD (vX++b) by simp[mD],show vX.length+b.length=(vX++b).length by simp]at this
   .have:=(d.fD.lt i q).1;omega
end
def ji.jf(h:ji u (Æ O n i) vX w):p7 O (mD vX) w/\n=vX.length/\n<=i:=by
 rcases h.fD.2 with⟨b,d⟩|⟨g,f,k,b,_,_,d,_⟩
 .cases b;refine⟨λj x e=> ?_,d.symm,â _⟩;rw[Ó d]at e;cases e
 .have e:n=vX.length:=by injection b
  subst e;injection b with _ _ h4;exact⟨p7.fD h.fD,U,by rwa[h4]⟩
def XB(r:Gz):ByteArray:=rV ⟨#[44]⟩<|[iK r.lk.toNat,iK r.ly.toNat,iK r.jO.toNat]++r.ls.map wv
def aqX(x y:Nat)(g k:Int)(b c:Nat)(a:Bool)(f:List (Nat×Int))(L:b<18446744073709551616)(M:c<18446744073709551616)(V:f.length<=400000)(W:p6 f)(X:nW w) (T:Ò À 158 #[Ã<|Â ⟨i,0,Á⟩,Å É x,Å É y,Å å g,Å å k] w λe j=>∃B,e=Ç (ï #[.agg #[Å å b,û a,Å å c],B])/\j.ownsRow 0 257 2 B f.length (lQ f)/\ff (λ_=>False) w j): Ò À 119 #[Ã<|Â ⟨i,0,Á⟩,Å É x,Å É y,Å å g,Å å k] w λe j=>e=Ç (Ä<|rV ⟨#[44]⟩<|[iK a.toNat,iK c,iK b]++f.map wv)/\ff (λ_=>False) w j:=by
 have N:a.toNat<18446744073709551616:=by cases a<;>decide
 have H:=fp<|Ê T<|Ê X W;go_enter Tryz.func119,Tryz.ntmps119;go_wp2_with (go_at_call 158;apply H.out.1.mono;rintro e l ⟨B,rfl,q,d⟩;obtain⟨v,Q,rfl⟩:=kX q;have C:=fp<|Ê d q;clear d q);change ä À _ _ _ (l.alloc<|Þ #[Å å b,û a,Å å c] 252);have D:=(ff.gT (λ_=>False) l #[Å å b,û a,Å å c] 252).fl<|ff.gi _ _;have E:=(H.out.2.1.fi C.out.1).fi D;have o:=(fw.fN l [Å å b,û a,Å å c] 252).fi (ff.gi (λ_=>False) _) id;have O:=C.out.1.fl D;have Y:=je C.out.2 D λ_ _=>id;refine oG (λj=>j.cell? ⟨l.heap.size,0,Á⟩=Â (Å å b)/\j.cell? ⟨l.heap.size,1,Á⟩=Â (û a)/\j.cell? ⟨l.heap.size,2,Á⟩=Â (Å å c)) [] fF ?_;have h:=fp<|Ê (o.fg 0 _ rfl)<|Ê (o.fg 1 _ rfl)<|o.fg 2 _ rfl;generalize l.heap.size=ob at*;generalize ae (l.alloc<|Þ #[Å å b,û a,Å å c] 252)=w5 at*;apply tk 0 h.out;apply tk 1 h.out;apply tk 2 h.out;apply tk 5 h.out;apply tk 6 h.out;apply tk 8 h.out;apply tk 9 h.out;apply tk 10 h.out;apply iu 3;intro K d;go_simp;go_at_call 159;refine(Mr _ _).mono ?_;rintro e w2 ⟨rfl,uH⟩;subst w2;rw[ac6];apply d.out _ _ λ_=>h.out;apply iu 4;intro K d;go_simp;go_at_call 118;refine(Bw a.toNat N _ E).mono ?_;rintro e wa ⟨rfl,p⟩;have r:=o.fi p id;have P:=E.fi p;apply d.out _ _ λ_=>⟨r.fg 0 _ U,r.fg 1 _ U,r.fg 2 _ U⟩;apply iu 7;intro K d;go_simp;go_at_call 118;refine(Bw c M _ P).mono ?_;rintro e wb ⟨rfl,s⟩;have t:=r.fi s id;have Pb:=P.fi s;apply d.out _ _ λ_=>⟨t.fg 0 _ U,t.fg 1 _ U,t.fg 2 _ U⟩;apply iu 11;intro K d;go_simp;go_at_call 118;refine(Bw b L _ Pb).mono ?_;rintro e m ⟨rfl,F⟩;have u:=t.fi F id;have n:=u.fi (ff.gT (λ_=>False) m #[Ä<|iK a.toNat,Ä<|iK c,Ä<|iK b] 9) id;apply d.out _ _ λ_=>⟨u.fg 0 _ U,u.fg 1 _ U,u.fg 2 _ U⟩;apply iu 12;intro K d;go_simp;apply d.out _ _ λ_=>⟨n.fg 0 _ U,n.fg 1 _ U,n.fg 2 _ U⟩;apply iu 13;intro K d;go_simp;apply d.out _ _ λ_=>⟨n.fg 0 _ U,n.fg 1 _ U,n.fg 2 _ U⟩;refine om fF ?_ _;have G:ff (λ_=>False) w5 (m.alloc<|Þ #[Ä<|iK a.toNat,Ä<|iK c,Ä<|iK b] 9):=((p.fl s).fl F).fl<|ff.gT _ _ _ _;have T6:ji w (Æ (Â ⟨m.heap.size,0,Á⟩) 3 3) [iK a.toNat,iK c,iK b] (m.alloc<|Þ #[Ä<|iK a.toNat,Ä<|iK c,Ä<|iK b] 9):=⟨World.ownsRow_lit m #[Ä<|iK a.toNat,Ä<|iK c,Ä<|iK b] 3 (Í O.fh ((p.fl s).fl F).fh) (by unfold Ě;omega) U,O.fl G⟩;have L6:=je Y G λ_ _=>id;have P6:=E.fi G;have I:=fp<|Ê T6<|Ê L6 P6;generalize m.alloc (Þ #[Ä<|iK a.toNat,Ä<|iK c,Ä<|iK b] 9)=w6 at*;generalize m.heap.size=tb at*;have kV:∀z∈[iK a.toNat,iK c,iK b]++f.map wv,z.size<=21:=λz hz=>by
  rcases à.1 hz with q|q
  .have h1:=uS a.toNat N;have h2:=uS c M;have v:=uS b L;simp at q;rcases q with rfl|rfl|rfl<;>omega
  .obtain⟨e,v,rfl⟩:=Ý.1 q;exact Rw (H.out.2.2 e v).2
 have wW:=JA _ kV;have hlen:([iK a.toNat,iK c,iK b]++f.map wv).length=3+f.length:=by simp;omega
 have J:=fp<|Ê wW hlen;go_wp2_with (first
  |(go_at_call 124;refine(ac5 U V H.out.2.2 I.out.2.2<|p7.fD I.out.2.1).mono ?_;rintro e v ⟨lt,rfl,q⟩;obtain⟨ta,tc,rfl⟩:=kX q.fD;rw[í]at q;have Q:=fp q;clear q)
  |(at_builtin;refine aqW U _ _ U (I.out.1.gu Q.out.fi) U Q.out.fD U (by simp;omega) ?_;intro cv w8 v;obtain⟨ca,cc,rfl⟩:=kX v.fD;generalize([iK a.toNat,iK c,iK b]++f.map wv).length=cn at v|-;have q:=fp v;clear v)
  |(go_at_call 38;refine(XA q.out.jf.2.1 (by have:=q.out.jf.2.1;rw[this,J.out.2];omega) q.out.jf.2.2 U q.out.jf.1 (by have:=q.out.jf.2.1;have h1:=J.out.1;have h2:=J.out.2;omega)).mono ?_;rintro e w9 ⟨rfl,v⟩;have Q:=fp v;clear v))
 go_ret;exact⟨U,q.out.fi.fl Q.out⟩
def aqY{s:St}(v:oJ i s h w)(b:iE s)(z:jK w)(B:nW w)(x y:Nat)(g k:Int)(c:x<8)(d:y<8)(f:0<=g)(j:g<=100000)(l:gP k): Ò À 119 #[Ã<|Â ⟨i,0,Á⟩,Å É x,Å É y,Å å g,Å å k] w λe q=>e=Ç (Ä<|XB<|gR s [] x y g k)/\ff (λ_=>False) w q:=by have T:=ac2 v b z x y g k c d f j l _ U;have e:=QR s [] x y g k b c d l f j (by simp;omega);have m:=Xk s [] x y g k b c d l f j (by simp;omega) (λ_ q=>by cases q);obtain⟨q,o,a,t,p,C⟩:∃q o a t p,gR s [] x y g k=⟨q,o,a,t,p⟩:=⟨_,_,_,_,_,U⟩;rw[C]at T e m|-;have D:=e.I4;have E:=e.I5;have r:=e.ly;have u:=e.iw;simp only at D E r u m T;obtain⟨F,rfl⟩:∃n:Nat,q=n:=⟨q.toNat,Z⟩;obtain⟨G,rfl⟩:∃n:Nat,a=n:=⟨a.toNat,by have:=r.1;omega⟩;exact aqX x y g k F G o p Z (by have:=r.2;omega) (by simp at u;omega) m B T
def tX(w:Ë):Prop:=w.cell? ⟨4,15,Á⟩=Â (Å Ų 4)
def tX.fi{w':Ë}(h:tX w)(k:ff (λ_=>False) w w'):tX w':=k.fg h id
def aqZ(c:tX w):Ò À 207 #[Å å 16] w λe a=>e=Ç (Å É 4)/\a=w:=by
 unfold tX at c;have b:å.wrap (bits BinOp.and å 16 (å.wrap<|-16)*285870213051353865)/288230376151711744=15:=A
 go_enter Tryz.func207,Tryz.ntmps207;go_wp2;go_ret;exact⟨U,U⟩
def tz(c:tX w):Ò À 201 #[Å å 16] w λe a=>e=Ç (Å É 4)/\a=w:=by go_enter Tryz.func201,Tryz.ntmps201;go_wp2_with (go_at_call 207;refine(aqZ c).mono ?_;rintro e a ⟨rfl,b⟩;subst a);go_ret;exact⟨U,U⟩
def aq0:Ò À 200 #[Å É 16] w λe a=>e=Ç (û Î)/\a=w:=by
 have b:bits BinOp.and É 16 15=0:=A
 have c:(bits BinOp.and É 16 15==0)=Î:=A
 go_enter Tryz.func200,Tryz.ntmps200;go_wp2;go_ret;exact⟨by simp[b],U⟩
def sP(d:Nat):UInt8:=if h:d<36 then(⟨#[48,49,50,51,52,53,54,55,56,57,97,98,99,100,101,102,103,104,105,106,107,108,109,110,111,112,113,114,115,116,117,118,119,120,121,122]⟩:ByteArray)[d]'h else 0
def yP:Nat->Nat->List UInt8->List UInt8
 |0,_,acc=>acc
 |k+1,n,acc=>if n<16 then sP n::acc else yP k (n/16) (sP (n%16)::acc)
def adl:∀k n a,(yP k n a).length<=k+a.length
 |0,_,a=>by simp[yP]
 |k+1,n,a=>by
  unfold yP;split
  .simp;omega
  .have:=adl k (n/16)<|sP (n%16)::a;simp at this;omega
noncomputable def Rx:η:=(Tryz.f190.body.bind mC).getD aD
def JB(a:Nat)(n i:Int)(u:Nat->Ñ):Ď:=⟨#[u 0,Å å n,Å É 16,û Ì,û Ì,u 5,u 6,u 7,u 8,u 9,Æ Á 0 0,u 11,Ã<|Â ⟨a,0,Á⟩,Å É i,Å å 4,Å å 16,Å å 15,u 17,u 18,u 19,u 20,u 21,u 22,u 23,u 24,u 25,u 26,u 27,u 28,u 29,u 30,u 31,u 32,u 33,u 34,u 35,u 36,u 37,u 38,u 39,u 40,u 41,u 42,u 43,u 44,u 45,u 46,u 47,u 48,u 49,u 50,u 51,u 52,u 53,u 54,u 55,u 56,u 57,u 58,u 59,u 60,u 61,u 62,u 63,u 64,u 65,u 66,u 67,u 68,u 69,u 70,u 71,u 72,u 73,u 74,u 75,u 76,u 77,u 78,u 79,u 80,u 81,u 82,u 83,u 84,u 85,u 86,u 87,u 88,u 89,u 90,u 91,u 92,u 93,u 94,u 95,u 96,u 97,u 98,u 99,u 100,u 101],[]⟩
def JC(b:Nat)(n i:Int)(a:Ď):Prop:=∃u,a=JB b n i u
def zc(i:Nat)(a:List UInt8):List Ñ:=Ĉ i (Å Ų 0)++Û a
def adn(i:Nat)(a:List UInt8):(zc i a).length=i+a.length:=by simp[zc,Û]
def ado(i:Nat)(a:List UInt8)(c:UInt8):(zc (i+1) a).set i (Å Ų c.toNat)=zc i (c::a):=by unfold zc;rw[List.replicate_succ',Ĵ,Ľ _ _ fB];simp[Û]
section
variable{X:Ď->Ë->Prop}
def aq1(u:Nat->Ñ)(n b:Nat)(d:n<16)(c:∀a,JC i n b a->X a w): ä À Rx (Exit.then K<|QE 0 X) (JB i n b u) w:=by
 unfold JB;conv=>arg 2;whnf
 have e:¬(16:Int)<=(n:Int):=Z
 have f:(n:Int)<16:=Z
 go_wp2_with fail
 exact⟨U,c _ (gL _)⟩
def aq2(u:Nat->Ñ)(n b:Nat)(g:16<=n)(h:n<18446744073709551616)(j:b<65)(v:Ñ)(c:w.cell? ⟨i,b,Á⟩=Â v)(k:w.frozen? ⟨i,b,Á⟩=Ì) (e:∀a,JC i ((n/16:Nat):Int) b a->K a (w.setCell ⟨i,b,Á⟩<|Å Ų (sP<|n%16).toNat)): ä À Rx (Exit.then K<|QE 0 X) (JB i n ((b+1:Nat):Int) u) w:=by
 unfold JB;conv=>arg 2;whnf
 have l:(16:Int)<=(n:Int):=Z
 have m:(0:Int)<=(b:Int):=Z
 have o:(b:Int)<65:=Z
 have p:bits BinOp.and å (n:Int) 15=((n%16:Nat):Int):=by have:=(bits_nat å 64 A (λn f H=>by rw[Ċ];omega) n 15 Z A).1;rwa[show(15:Nat)=2^4-1 from rfl,Nat.and_two_pow_sub_one_eq_mod]at this
 have q:(0:Int)<=((n%16:Nat):Int):=Z
 have r:((n%16:Nat):Int)<36:=Z
 have f:n%16<36:=Z
 have s:(⟨#[48,49,50,51,52,53,54,55,56,57,97,98,99,100,101,102,103,104,105,106,107,108,109,110,111,112,113,114,115,116,117,118,119,120,121,122]⟩:ByteArray)[n%16]'f=sP (n%16):=by unfold sP;rw[dif_pos f]
 have H:=fp e;clear e;generalize t:n%16=d at*;go_wp2_with fail;exact H.out _ (gL _)
def XI(i:Nat)(u:Ë)(d:List UInt8)(a:Ď)(w:Ë):Prop:=
 ∃(n b:Nat) (c:List UInt8),JC i n b a/\50<=b/\b+c.length=65/\n<16^(b-49)/\n<18446744073709551616/\ff (λk=>k=i) u w/\fw i (zc b c) 292 w/\yP (b-49) n c=d
def XE(i:Nat)(u:Ë)(d:List UInt8)(a:Ď)(w:Ë):Prop:=
 ∃(n b:Nat) (c:List UInt8),JC i n b a/\n<16/\50<=b/\b+c.length=65/\ff (λk=>k=i) u w/\fw i (zc b c) 292 w/\sP n::c=d
def Ry(a:Ď)(_:Ë):Nat:=match a.tmps.getD 1 ł with
 |Å _ i=>i.toNat
 |_=>0
def adp(b:JC i n j y):Ry y w=n:=by obtain⟨u,rfl⟩:=b;show(n:Int).toNat=_;simp
def aq3{l:List UInt8}(a:Ď)(w:Ë)(p:XI i u l a w): ä À Rx (Exit.then (λb c=>XI i u l b c/\Ry b c<Ry a w)<|QE 0<|XE i u l) a w:=by
 let⟨n,b,g,m,r,s,e,t,o,f,d⟩:=p;rw[adp m];obtain⟨c,rfl⟩:=m;obtain⟨j,rfl⟩:∃j,b=j+1:=⟨b-1,Z⟩;have x:j+1-49=(j-49)+1:=Z
 rw[x]at d e;unfold yP at d;by_cases h:n<16
 .rw[if_pos h]at d;exact aq1 c n (j+1) h λa q=>⟨n,j+1,g,q,h,r,s,o,f,d⟩
 .rw[if_neg h]at d;have y:50<=j:=by
   rcases Ĕ j 50 with q|q
   .have:j-49=0:=Z
    rw[this]at e;simp at e;omega
   .exact q
  have C:(zc (j+1) g).length=65:=by rw[adn];omega
  obtain⟨v,z⟩:∃v,(zc (j+1) g)[j]?=Â v:=⟨_,Ô Z⟩;have B:n/16<16^(j-49):=by rw[Nat.pow_succ]at e;exact Nat.div_lt_of_lt_mul<|by rwa[Nat.mul_comm]
  refine aq2 c n j Z t Z v (f.fg j v z) (f.fC j) λa q=>⟨⟨n/16,j,sP (n%16)::g,q,y,by simp;omega,B,Z,o.fl (ff.iB (X:=λk=>k=i) U _<|Ï f.nf),?_,d⟩,by rw[adp q];omega⟩;have:=f.gS j<|Å Ų (sP<|n%16).toNat;rwa[ado]at this
end
def aq4:ÿ=(zc 65 []).toArray:=fF
def p8(n:Nat):ByteArray:=⟨(yP 16 n []).toArray⟩
def aq5(n:Nat)(l:n<18446744073709551616)(o:tX w):Ò À 190 #[Æ Á 0 0,Å å n,Å É 16,û Ì,û Ì] w λe p=>e=Ç (ï #[Æ Á 0 0,Ä<|p8 n])/\ff (λ_=>False) w p:=by
 have L:∀a,JC w.heap.size n (65:Nat) a->ä À (ŏ Rx) (QE 0<|XE w.heap.size (w.alloc<|Þ ÿ 292)<|yP 16 n []) a (w.alloc<|Þ ÿ 292):=λa r=>
  Κ (XI w.heap.size (w.alloc<|Þ ÿ 292)<|yP 16 n []) Ry ⟨n,65,[],r,Z,U,by show n<16^16;omega,l,ff.fY _ _,by rw[aq4];exact fw.fN w (zc 65 []) 292,U⟩ aq3
 have H:=fp<|Ê o L;unfold p8;generalize yP 16 n []=res at*;go_enter Tryz.func190,Tryz.ntmps190;go_wp2_with (first
  |(go_at_call 200;refine aq0.mono ?_;rintro e b ⟨rfl,c⟩;subst b)
  |(go_at_call 201;refine(tz (H.out.1.fi kp)).mono ?_;rintro e b ⟨rfl,c⟩;subst b))
 refine ĺ (Q:=QE 0<|XE w.heap.size (w.alloc<|Þ ÿ 292) res) ?_ (H.out.2 _ (gL _));rintro(_|_|_|_|_|_) a v hq;all_goals first|exact absurd hq id|skip
 obtain⟨rfl,m,i,c,s,F,G,I,x,b,d⟩:=hq;obtain⟨u,rfl⟩:=s;unfold JB;obtain⟨j,rfl⟩:∃j,i=j+1:=⟨i-1,Z⟩;have J:(zc (j+1) c).length=65:=by rw[adn];omega
 obtain⟨z,y⟩:∃z,(zc (j+1) c)[j]?=Â z:=⟨_,Ô Z⟩;have K:=b.fg j z y;have M:=b.fC j;have N:(0:Int)<=(j:Int):=Z
 have O:(j:Int)<65:=Z
 have T:(j:Int)<=65:=Z
 have V:(0:Int)<=(m:Int):=Z
 have W:(m:Int)<36:=Z
 have f:m<36:=Z
 have Y:(⟨#[48,49,50,51,52,53,54,55,56,57,97,98,99,100,101,102,103,104,105,106,107,108,109,110,111,112,113,114,115,116,117,118,119,120,121,122]⟩:ByteArray)[m]'f=sP m:=by unfold sP;rw[dif_pos f]
 have B:=(ff.gT (λ_=>False) w ÿ 292).kj x λi C q=>by omega
 have g:=b.gS j<|Å Ų (sP m).toNat;rw[ado,d]at g;have D:ff (λ_=>False) w (v.setCell ⟨w.heap.size,j,Á⟩<|Å Ų (sP m).toNat):=B.kj (ff.iB (X:=λk=>k=w.heap.size) U _<|Ï b.nf) λi C q=>by omega
 have k:res.length=65-j:=by rw[<-d];simp;omega
 have hcv:(convert 107 9<|Æ (Â ⟨w.heap.size,j,Á⟩) (65-j)<|65-j).run À (v.setCell ⟨w.heap.size,j,Á⟩<|Å Ų (sP m).toNat)=.ok (Ä ⟨res.toArray⟩) (v.setCell ⟨w.heap.size,j,Á⟩<|Å Ų (sP m).toNat):=by have h:=run_convert_bytes_back (P:=À) (v.setCell ⟨w.heap.size,j,Á⟩<|Å Ų (sP m).toNat) 107 9 5 ⟨w.heap.size,j,Á⟩ (65-j) res fF fF fF (λt E=>by rw[Addr.add_mid];apply g.fg (j+t) _;unfold zc;rw[ĩ fB];simp[Û,Ô E]);rwa[k]at h
 have h:=fp D;go_wp2;go_ret2;exact⟨U,h.out⟩
def aq6(n:Nat)(b:n<18446744073709551616)(c:tX w):Ò À 172 #[Å å n,Å É 16] w λe a=>e=Ç (Ä<|p8 n)/\ff (λ_=>False) w a:=by go_enter Tryz.func172,Tryz.ntmps172;go_wp2_with (go_at_call 190;refine(aq5 n b c).mono ?_;rintro e a ⟨rfl,d⟩);go_ret;exact⟨U,d⟩
def aq7(n:Nat)(b:n<18446744073709551616)(c:tX w):Ò À 157 #[Å å n,Å É 16] w λe a=>e=Ç (Ä<|p8 n)/\ff (λ_=>False) w a:=by go_enter Tryz.func157,Tryz.ntmps157;go_wp2_with (go_at_call 172;refine(aq6 n b c).mono ?_;rintro e a ⟨rfl,d⟩);go_ret;exact⟨U,d⟩
def aq8(s:ByteArray)(w:Ë)(h:s.data.toList.head?=Â 48):Ò À 175 #[Ä s,Ä ⟨#[48]⟩] w λe b=>e=Ç (û Î)/\b=w:=by
 have H:=Tryz.strings_HasPrefix s ⟨#[48]⟩ w;have e:Γ s.data.toList (ŷ ⟨#[48]⟩).toList=Î:=by
  generalize s.data.toList=l at h;cases l with
  |nil=>cases h
  |cons a r=>cases h;rfl
 rwa[e]at H
def aq9(s:ByteArray)(w:Ë)(h:¬s.data.toList.head?=Â 48):Ò À 175 #[Ä s,Ä ⟨#[48]⟩] w λe b=>e=Ç (û Ì)/\b=w:=by
 have H:=Tryz.strings_HasPrefix s ⟨#[48]⟩ w;have e:Γ s.data.toList (ŷ ⟨#[48]⟩).toList=Ì:=by
  generalize s.data.toList=l at h;cases l with
  |nil=>rfl
  |cons a r=>
   have c:¬a=48:=λq=>h (by rw[q];rfl);show((48:UInt8)==a&&List.isPrefixOf [] r)=Ì;have:((48:UInt8)==a)=Ì:=beq_eq_false_iff_ne.2 λq=>c q.symm;rw[this];rfl
 rwa[e]at H
def De(k:Nat):ByteArray:=ak ⟨#[48,48,48,48,48,48,48,48,48,48,48,48,48,48,48,48,48,48,48,48,48,48,48,48,48,48,48,48,48,48,48,48,48,48,48,48,48,48,48,48,48,48,48,48,48,48,48,48,48,48,48,48,48,48,48,48,48,48,48,48,48,48,48,48]⟩ 0 k
def ara(k:Nat)(d:2<=k)(f:k<=64):Ò À 160 #[Ä ⟨#[48]⟩,Å É k] w λe a=>e=Ç (Ä<|De k)/\a=w:=by
 have g:((k:Int)==0)=Ì:=by simp;omega
 have h:((k:Int)==1)=Ì:=by simp;omega
 have i:¬(k:Int)<0:=Z
 have j:(0:Int)<=(k:Int):=Z
 have l:(k:Int)<=64:=Z
 have m:å.wrap (k:Int)=(k:Int):=by rw[Ċ];omega
 have n:É.wrap (k:Int)=(k:Int):=by rw[ę];omega
 have M:=Tryz.bits_Mul 1 k A Z w;rw[show 1*k/18446744073709551616=0 by omega,show 1*k%18446744073709551616=k by omega]at M;have c:=fp M;go_enter ś,Ŕ;go_wp2_with (first
  |(go_at_call 174;refine c.out.mono ?_;rintro e a ⟨rfl,b⟩;subst a)
  |(go_at_call 175;refine(aq9 _ _ A).mono ?_;rintro e a ⟨rfl,b⟩;subst a)
  |(go_at_call 175;refine(aq8 _ _ A).mono ?_;rintro e a ⟨rfl,b⟩;subst a))
 go_ret;exact⟨U,U⟩
def arb:Ò À 160 #[Ä ⟨#[48]⟩,Å É 0] w λe a=>e=Ç (Ä ⟨#[]⟩)/\a=w:=by go_enter ś,Ŕ;go_wp2;go_ret;exact⟨U,U⟩
def ard:Ò À 160 #[Ä ⟨#[48]⟩,Å É 1] w λe a=>e=Ç (Ä ⟨#[48]⟩)/\a=w:=by go_enter ś,Ŕ;go_wp2;go_ret;exact⟨U,U⟩
def arf(k:Nat)(a:k<=64):Ò À 160 #[Ä ⟨#[48]⟩,Å É k] w λe b=>e=Ç (Ä<|De k)/\b=w:=by
 match k with
 |0=>exact arb
 |1=>exact ard
 |k+2=>exact ara (k+2) Z a
def Rz(n:Nat):ByteArray:=De (16-(p8 n).size)++p8 n
def adq(n:Nat):(p8 n).size<=16:=by show(yP 16 n []).toArray.size<=16;have:=adl 16 n [];simpa using this
def adr(k:Nat):(De k).size<=k:=by unfold De;rw[ĕ];omega
def arh(n:Nat)(c:n<18446744073709551616)(d:tX w):Ò À 121 #[Å å n] w λe a=>e=Ç (Ä<|Rz n)/\ff (λ_=>False) w a:=by
 have g:=adq n;have h:=adr<|16-(p8 n).size;have T:=aq7 n c d;have R:∀W:Ë,Ò À 160 #[Ä ⟨#[48]⟩,Å É ((16-(p8 n).size:Nat):Int)] W λe a=>e=Ç (Ä<|De<|16-(p8 n).size)/\a=W:=λW=>arf _ Z;have i:É.wrap ((16:Int)-((p8 n).size:Int))=((16-(p8 n).size:Nat):Int):=by rw[ę];omega
 have j:(16:Int)-((p8 n).size:Int)=((16-(p8 n).size:Nat):Int):=Z
 have l:¬9223372036854775807<(De<|16-(p8 n).size).size+(p8 n).size:=Z
 unfold Rz;have H:=fp<|Ê T R;generalize m:De (16-(p8 n).size)=zs at*;generalize o:16-(p8 n).size=k at*;generalize p8 n=fs at*;go_enter Tryz.func121,Tryz.ntmps121;go_wp2_with (first
  |(go_at_call 157;refine H.out.1.mono ?_;rintro e p ⟨rfl,b⟩;have f:=fp b;clear b)
  |(go_at_call 160;refine(H.out.2 _).mono ?_;rintro e b ⟨rfl,p⟩;subst b))
 go_ret;exact⟨U,f.out⟩
structure sQ(r:Nat)(x y g k:Nat)(kind v v2:Int)(slot:Nat)(w:Ë):Prop where
 c0:w.cell? ⟨r,0,Á⟩=Â (Å É x)
 c1:w.cell? ⟨r,1,Á⟩=Â (Å É y)
 c2:w.cell? ⟨r,2,Á⟩=Â (Å É g)
 c3:w.cell? ⟨r,3,Á⟩=Â (Å É k)
 c4:w.cell? ⟨r,4,Á⟩=Â (Å É kind)
 c5:w.cell? ⟨r,5,Á⟩=Â (Å É v)
 c6:w.cell? ⟨r,6,Á⟩=Â (Å É v2)
 c7:w.cell? ⟨r,7,Á⟩=Â (Å É slot)
def ji.XC(h:ji u v vX W)(k:ff (λ_=>False) w u):ji w v vX W:=by
 refine⟨⟨h.fD.1,?_⟩,k.fl h.fi⟩;rcases h.fD.2 with q|⟨g,a,b,c,d,q⟩
 .exact È q
 .exact Ï ⟨g,a,b,c,Í k.fh d,q⟩
section
variable{cp r x y g slot:Nat}{v v2:Int}
def sQ.fi{w w':Ë}(h:sQ r x y g k c v v2 slot w)(q:ff (λ_=>False) w w'):sQ r x y g k c v v2 slot w':= ⟨q.fg h.c0 id,q.fg h.c1 id,q.fg h.c2 id,q.fg h.c3 id,q.fg h.c4 id,q.fg h.c5 id,q.fg h.c6 id,q.fg h.c7 id⟩
def ari(F:Ò À 113 #[Æ O n cp,Å É v] w λe c=>e=Ç (lz<|Â i)/\ff (λ_=>False) w c)(j:sQ r x y g k 2 v v2 slot w)(p:x<8)(q:slot<16)(z:Nat)(l:w.cell? ⟨i,x*18+2+slot,Á⟩=Â (Å å z)) (C:∀W,ff (λ_=>False) w W->Ò À 118 #[Å å z] W λe c=>e=Ç (Ä B)/\ff (λ_=>False) W c): Ò À 67 #[Æ O n cp,Ã<|Â ⟨r,0,Á⟩] w λe c=>e=Ç (Ä B)/\ff (λ_=>False) w c:=by
 have s:=j.c5;have o:=j.c4;have t:(0:Int)<=(x:Int):=Z
 have u:(x:Int)<8:=Z
 have D:(0:Int)<=(slot:Int):=Z
 have E:(slot:Int)<16:=Z
 have H:=fp<|Ê F C;have f:=fp j;clear F C j;go_enter ù,ñ;go_wp2_with (go_at_call 113;apply H.out.1.mono;rintro e d ⟨rfl,a⟩;dsimp only[lz,õ];have h:=a.fg o id;have b:=fp a;clear a);refine oG (λc=>c.cell? ⟨r,0,Á⟩=Â (Å É x)/\c.cell? ⟨r,7,Á⟩=Â (Å É slot)/\c.cell? ⟨i,x*18+2+slot,Á⟩=Â (Å å z)) [] fF ?_;have a:=fp (Ê ((f.out.fi b.out).fi<|ff.gi (λ_=>False) _).c0<|Ê ((f.out.fi b.out).fi<|ff.gi (λ_=>False) _).c7<|(b.out.fl<|ff.gi _ _).fg l id);apply tk 0 a.out;apply tk 1 a.out;apply tk 2 a.out;apply tk 3 a.out;apply tk 4 a.out;apply tk 5 a.out;apply tk 6 a.out;apply tk 7 a.out;apply tk 8 a.out;apply tk 9 a.out;apply tk 10 a.out;apply tk 11 a.out;apply tk 12 a.out;apply tk 13 a.out;apply tk 14 a.out;apply tk 15 a.out;apply tk 16 a.out;apply iu 17;intro K h;go_simp;go_at_call 118;refine(H.out.2 _<|b.out.fl<|ff.gi _ _).mono ?_;rintro e G ⟨rfl,m⟩;have d:=fp m;clear m;dsimp only;apply h.out _ _ λ_=>⟨(f.out.fi<|(b.out.fl<|ff.gi _ _).fl d.out).c0,(f.out.fi<|(b.out.fl<|ff.gi _ _).fl d.out).c7,(((b.out.fl<|ff.gi _ _).fl d.out).fg l id)⟩;clear h K;apply iu 18;intro K h;go_simp;apply h.out _ _ λ_=>⟨(f.out.fi<|(b.out.fl<|ff.gi _ _).fl d.out).c0,(f.out.fi<|(b.out.fl<|ff.gi _ _).fl d.out).c7,(((b.out.fl<|ff.gi _ _).fl d.out).fg l id)⟩;clear h K;try simp only[Act.put,ë,ā,Ă]
 refine om fF ?_ _;go_wp2_with fail;go_ret;exact⟨U,(b.out.fl<|ff.gi _ _).fl d.out⟩
def arj(F:Ò À 113 #[Æ O n cp,Å É v] w λe b=>e=Ç (lz<|Â i)/\ff (λ_=>False) w b)(h:sQ r x y g k 3 v v2 slot w)(p:x<8)(z:Nat)(j:w.cell? ⟨i,x*18,Á⟩=Â (Å å z)) (C:∀W,ff (λ_=>False) w W->Ò À 118 #[Å å z] W λe b=>e=Ç (Ä B)/\ff (λ_=>False) W b): Ò À 67 #[Æ O n cp,Ã<|Â ⟨r,0,Á⟩] w λe b=>e=Ç (Ä B)/\ff (λ_=>False) w b:=by
 have q:=h.c5;have o:=h.c4;have s:(0:Int)<=(x:Int):=Z
 have t:(x:Int)<8:=Z
 have H:=fp<|Ê F C;have l:=fp h;clear F C h;go_enter ù,ñ;go_wp2_with (go_at_call 113;apply H.out.1.mono;rintro e d ⟨rfl,a⟩;dsimp only[lz,õ];have f:=a.fg o id;have c:=fp a;clear a);refine oG (λb=>b.cell? ⟨r,0,Á⟩=Â (Å É x)/\b.cell? ⟨i,x*18,Á⟩=Â (Å å z)) [] fF ?_;have a:=fp (Ê ((l.out.fi c.out).fi<|ff.gi (λ_=>False) _).c0<|(c.out.fl<|ff.gi _ _).fg j id);apply tk 0 a.out;apply tk 1 a.out;apply tk 2 a.out;apply tk 3 a.out;apply tk 4 a.out;apply tk 5 a.out;apply tk 6 a.out;apply tk 7 a.out;apply tk 8 a.out;apply tk 9 a.out;apply tk 10 a.out;apply tk 11 a.out;apply iu 12;intro K d;go_simp;go_at_call 118;refine(H.out.2 _<|c.out.fl<|ff.gi _ _).mono ?_;rintro e u ⟨rfl,m⟩;have f:=fp m;clear m;dsimp only;apply d.out _ _ λ_=>⟨(l.out.fi<|(c.out.fl<|ff.gi _ _).fl f.out).c0,(((c.out.fl<|ff.gi _ _).fl f.out).fg j id)⟩;clear d K;apply iu 13;intro K d;go_simp;apply d.out _ _ λ_=>⟨(l.out.fi<|(c.out.fl<|ff.gi _ _).fl f.out).c0,(((c.out.fl<|ff.gi _ _).fl f.out).fg j id)⟩;clear d K;try simp only[Act.put,ë,ā,Ă]
 refine om fF ?_ _;go_wp2_with fail;go_ret;exact⟨U,(c.out.fl<|ff.gi _ _).fl f.out⟩
def ark(F:Ò À 113 #[Æ O n cp,Å É v] w λe d=>e=Ç (lz<|Â i)/\ff (λ_=>False) w d)(j:sQ r x y g k 4 v v2 slot w)(o:g<=400)(p:k<18446744073709551616) (C:∀W,ff (λ_=>False) w W->Ò À 119 #[Ã<|Â ⟨i,0,Á⟩,Å É x,Å É y,Å å g,Å å k] W λe d=>e=Ç (Ä B)/\ff (λ_=>False) W d): Ò À 67 #[Æ O n cp,Ã<|Â ⟨r,0,Á⟩] w λe d=>e=Ç (Ä B)/\ff (λ_=>False) w d:=by
 have q:=j.c5;have m:=j.c4;have s:å.wrap (k:Int)=(k:Int):=by rw[Ċ];omega
 have t:å.wrap (g:Int)=(g:Int):=by rw[Ċ];omega
 have u:¬(400:Int)<(g:Int):=Z
 have z:(g:Int)<=400:=Z
 have H:=fp<|Ê F C;have c:=fp j;clear F C j;go_enter ù,ñ;go_wp2_with (go_at_call 113;apply H.out.1.mono;rintro e f ⟨rfl,a⟩;dsimp only[lz,õ];have h:=a.fg m id;have l:=a.fg c.out.c2 id;have b:=fp a;clear a);refine oG (λd=>d.cell? ⟨r,0,Á⟩=Â (Å É x)/\d.cell? ⟨r,1,Á⟩=Â (Å É y)/\d.cell? ⟨r,2,Á⟩=Â (Å É g)/\d.cell? ⟨r,3,Á⟩=Â (Å É k)) [] fF ?_;have a:=fp (Ê ((c.out.fi b.out).fi<|ff.gi (λ_=>False) _).c0<|Ê ((c.out.fi b.out).fi<|ff.gi (λ_=>False) _).c1<|Ê ((c.out.fi b.out).fi<|ff.gi (λ_=>False) _).c2 ((c.out.fi b.out).fi<|ff.gi (λ_=>False) _).c3);apply tk 0 a.out;apply tk 1 a.out;apply tk 2 a.out;apply tk 3 a.out;apply tk 4 a.out;apply tk 5 a.out;apply tk 6 a.out;apply tk 7 a.out;apply tk 8 a.out;apply tk 9 a.out;apply tk 10 a.out;apply tk 11 a.out;apply tk 12 a.out;apply tk 13 a.out;apply tk 14 a.out;apply tk 15 a.out;apply tk 16 a.out;apply tk 17 a.out;apply tk 18 a.out;apply tk 19 a.out;apply tk 20 a.out;apply tk 21 a.out;apply tk 22 a.out;apply iu 23;intro K h;go_simp;go_at_call 119;refine(H.out.2 _<|b.out.fl<|ff.gi _ _).mono ?_;rintro e D ⟨rfl,l⟩;have f:=fp l;clear l;dsimp only;apply h.out _ _ λ_=>⟨(c.out.fi<|(b.out.fl<|ff.gi _ _).fl f.out).c0,(c.out.fi<|(b.out.fl<|ff.gi _ _).fl f.out).c1,(c.out.fi<|(b.out.fl<|ff.gi _ _).fl f.out).c2,(c.out.fi<|(b.out.fl<|ff.gi _ _).fl f.out).c3⟩;clear h K;apply iu 24;intro K h;go_simp;apply h.out _ _ λ_=>⟨(c.out.fi<|(b.out.fl<|ff.gi _ _).fl f.out).c0,(c.out.fi<|(b.out.fl<|ff.gi _ _).fl f.out).c1,(c.out.fi<|(b.out.fl<|ff.gi _ _).fl f.out).c2,(c.out.fi<|(b.out.fl<|ff.gi _ _).fl f.out).c3⟩;clear h K;try simp only[Act.put,ë,ā,Ă]
 refine om fF ?_ _;go_wp2_with fail;go_ret;exact⟨U,(b.out.fl<|ff.gi _ _).fl f.out⟩
def arl(F:Ò À 113 #[Æ O n cp,Å É v] w λe c=>e=Ç (lz<|Â i)/\ff (λ_=>False) w c)(j:sQ r x y g k 5 v v2 slot w)(o:k<18446744073709551616) (C:∀W,ff (λ_=>False) w W->Ò À 120 #[Ã<|Â ⟨i,0,Á⟩,Å É x,Å É y,Å å k] W λe c=>e=Ç (Ä B)/\ff (λ_=>False) W c): Ò À 67 #[Æ O n cp,Ã<|Â ⟨r,0,Á⟩] w λe c=>e=Ç (Ä B)/\ff (λ_=>False) w c:=by
 have p:=j.c5;have m:=j.c4;have q:å.wrap (k:Int)=(k:Int):=by rw[Ċ];omega
 have H:=fp<|Ê F C;have d:=fp j;clear F C j;go_enter ù,ñ;go_wp2_with (go_at_call 113;apply H.out.1.mono;rintro e f ⟨rfl,a⟩;dsimp only[lz,õ];have h:=a.fg m id;have b:=fp a;clear a);refine oG (λc=>c.cell? ⟨r,0,Á⟩=Â (Å É x)/\c.cell? ⟨r,1,Á⟩=Â (Å É y)/\c.cell? ⟨r,3,Á⟩=Â (Å É k)) [] fF ?_;have a:=fp (Ê ((d.out.fi b.out).fi<|ff.gi (λ_=>False) _).c0<|Ê ((d.out.fi b.out).fi<|ff.gi (λ_=>False) _).c1 ((d.out.fi b.out).fi<|ff.gi (λ_=>False) _).c3);apply tk 0 a.out;apply tk 1 a.out;apply tk 2 a.out;apply tk 3 a.out;apply tk 4 a.out;apply tk 5 a.out;apply tk 6 a.out;apply tk 7 a.out;apply tk 8 a.out;apply tk 9 a.out;apply tk 10 a.out;apply tk 11 a.out;apply tk 12 a.out;apply tk 13 a.out;apply tk 14 a.out;apply tk 15 a.out;apply tk 16 a.out;apply iu 17;intro K h;go_simp;go_at_call 120;refine(H.out.2 _<|b.out.fl<|ff.gi _ _).mono ?_;rintro e s ⟨rfl,l⟩;have f:=fp l;clear l;dsimp only;apply h.out _ _ λ_=>⟨(d.out.fi<|(b.out.fl<|ff.gi _ _).fl f.out).c0,(d.out.fi<|(b.out.fl<|ff.gi _ _).fl f.out).c1,(d.out.fi<|(b.out.fl<|ff.gi _ _).fl f.out).c3⟩;clear h K;apply iu 18;intro K h;go_simp;apply h.out _ _ λ_=>⟨(d.out.fi<|(b.out.fl<|ff.gi _ _).fl f.out).c0,(d.out.fi<|(b.out.fl<|ff.gi _ _).fl f.out).c1,(d.out.fi<|(b.out.fl<|ff.gi _ _).fl f.out).c3⟩;clear h K;try simp only[Act.put,ë,ā,Ă]
 refine om fF ?_ _;go_wp2_with fail;go_ret;exact⟨U,(b.out.fl<|ff.gi _ _).fl f.out⟩
def arn(F:Ò À 113 #[Æ O n cp,Å É v] w λe a=>e=Ç (lz<|Â i)/\ff (λ_=>False) w a)(b:sQ r x y g k 6 v v2 slot w)(z:Nat)(C:∀W,ff (λ_=>False) w W->Ò À 122 #[Ã<|Â ⟨i,0,Á⟩] W λe a=>e=Ç (Å å z)/\ff (λ_=>False) W a)(d:∀W,ff (λ_=>False) w W->Ò À 121 #[Å å z] W λe a=>e=Ç (Ä B)/\ff (λ_=>False) W a): Ò À 67 #[Æ O n cp,Ã<|Â ⟨r,0,Á⟩] w λe a=>e=Ç (Ä B)/\ff (λ_=>False) w a:=by
 have m:=b.c5;have j:=b.c4;have l:=fp d;clear d;have H:=fp<|Ê F C;have o:=fp b;clear F C b;go_enter ù,ñ;go_wp2_with (first
  |(go_at_call 113;refine H.out.1.mono ?_;rintro e h ⟨rfl,c⟩;dsimp only[lz,õ];have p:=c.fg j id;have f:=fp c;clear c)
  |(go_at_call 122;refine(H.out.2 _ f.out).mono ?_;rintro e p ⟨rfl,c⟩;have h:=fp<|f.out.fl c;clear c)
  |(go_at_call 121;refine(l.out _ h.out).mono ?_;rintro e p ⟨rfl,c⟩;have f:=fp (h.out.fl c);clear c))
 go_ret;exact⟨U,f.out⟩
def aro(F:Ò À 113 #[Æ O n cp,Å É v] w λe b=>e=Ç (lz<|Â i)/\ff (λ_=>False) w b)(d:sQ r x y g k 7 v v2 slot w)(l:Option ý)(o p:Nat)(u:w.cell? ⟨i,144,Á⟩=Â (Æ l o p))(f:List ByteArray)(C:∀W,ff (λ_=>False) w W->Ò À 124 #[Æ l o p] W λe b=>∃j,e=Ç j/\ji W j f b)(q:∀W a m c,ji w (Æ a m c) f W->Ò À 123 #[Æ a m c] W λe b=>e=Ç (Ä B)/\ff (λ_=>False) W b): Ò À 67 #[Æ O n cp,Ã<|Â ⟨r,0,Á⟩] w λe b=>e=Ç (Ä B)/\ff (λ_=>False) w b:=by
 have J:=d.c5;have z:=d.c4;have D:=fp q;clear q;have H:=fp<|Ê F C;have K:=fp d;clear F C d;go_enter ù,ñ;go_wp2_with (first
  |(go_at_call 113;refine H.out.1.mono ?_;rintro e t ⟨rfl,h⟩;dsimp only[lz,õ];have E:=h.fg z id;have G:=h.fg u id;have s:=fp h;clear h)
  |(go_at_call 124;refine(H.out.2 _ s.out).mono ?_;rintro e E ⟨j,rfl,h⟩;obtain⟨G,I,rfl⟩:=kX h.fD;generalize f.length=tn at h|-;have t:=fp (show ji w (Æ G tn I) f E from h.XC s.out);clear h)
  |(go_at_call 123;refine(D.out _ _ _ _ t.out).mono ?_;rintro e E ⟨rfl,h⟩;have s:=fp (t.out.fi.fl h);clear h))
 go_ret;exact⟨U,s.out⟩
def arp(F:Ò À 113 #[Æ O n cp,Å É v] w λe b=>e=Ç (lz<|Â i)/\ff (λ_=>False) w b)(d:sQ r x y g k 8 v v2 slot w)(l:Option ý)(o p:Nat)(u:w.cell? ⟨i,146,Á⟩=Â (Æ l o p))(f:List ByteArray)(C:∀W,ff (λ_=>False) w W->Ò À 125 #[Æ l o p] W λe b=>∃j,e=Ç j/\ji W j f b)(q:∀W a m c,ji w (Æ a m c) f W->Ò À 123 #[Æ a m c] W λe b=>e=Ç (Ä B)/\ff (λ_=>False) W b): Ò À 67 #[Æ O n cp,Ã<|Â ⟨r,0,Á⟩] w λe b=>e=Ç (Ä B)/\ff (λ_=>False) w b:=by
 have J:=d.c5;have z:=d.c4;have D:=fp q;clear q;have H:=fp<|Ê F C;have K:=fp d;clear F C d;go_enter ù,ñ;go_wp2_with (first
  |(go_at_call 113;refine H.out.1.mono ?_;rintro e t ⟨rfl,h⟩;dsimp only[lz,õ];have E:=h.fg z id;have G:=h.fg u id;have s:=fp h;clear h)
  |(go_at_call 125;refine(H.out.2 _ s.out).mono ?_;rintro e E ⟨j,rfl,h⟩;obtain⟨G,I,rfl⟩:=kX h.fD;generalize f.length=tn at h|-;have t:=fp (show ji w (Æ G tn I) f E from h.XC s.out);clear h)
  |(go_at_call 123;refine(D.out _ _ _ _ t.out).mono ?_;rintro e E ⟨rfl,h⟩;have s:=fp (t.out.fi.fl h);clear h))
 go_ret;exact⟨U,s.out⟩
def arq(F:Ò À 113 #[Æ O n cp,Å É v] w λe c=>e=Ç (lz<|Â i)/\ff (λ_=>False) w c)(a:sQ r x y g k 4 v v2 slot w)(j:400<g)(C:B=sd 6): Ò À 67 #[Æ O n cp,Ã<|Â ⟨r,0,Á⟩] w λe c=>e=Ç (Ä B)/\ff (λ_=>False) w c:=by
 have l:=a.c5;have d:=a.c4;have m:(400:Int)<(g:Int):=Z
 have H:=fp<|Ê F C;have f:=fp a;clear F C a;go_enter ù,ñ;go_wp2_with (first
  |(go_at_call 113;refine H.out.1.mono ?_;rintro e o ⟨rfl,b⟩;dsimp only[lz,õ];have p:=b.fg d id;have q:=b.fg f.out.c2 id;have h:=fp b;clear b)
  |(go_at_call 114;refine(Je 6 A _).mono ?_;rintro e b ⟨rfl,o⟩;subst b))
 go_ret;exact⟨by rw[H.out.2];rfl,h.out⟩
def ars(F:Ò À 113 #[Æ O n cp,Å É v] w λe a=>e=Ç (lz<|Â i)/\ff (λ_=>False) w a)(b:sQ r x y g k 9 v v2 slot w)(C:B=sd 3)(d:∀W,ff (λ_=>False) w W->Ò À 113 #[Æ O n cp,Å É v2] W λe a=>e=Ç (lz Á)/\ff (λ_=>False) W a): Ò À 67 #[Æ O n cp,Ã<|Â ⟨r,0,Á⟩] w λe a=>e=Ç (Ä B)/\ff (λ_=>False) w a:=by
 have p:=b.c5;have j:=b.c4;have l:=fp d;clear d;have H:=fp<|Ê F C;have m:=fp b;clear F C b;go_enter ù,ñ;go_wp2_with (first
  |(go_at_call 113;with_reducible refine H.out.1.mono ?_;rintro e h ⟨rfl,c⟩;dsimp only[lz,õ];have o:=c.fg j id;have q:=c.fg m.out.c6 id;have f:=fp c;clear c)
  |(go_at_call 113;refine(l.out _ f.out).mono ?_;rintro e c ⟨rfl,h⟩;dsimp only[lz,õ];have o:=fp<|f.out.fl h;clear h)
  |(go_at_call 114;refine(Je 3 A _).mono ?_;rintro e c ⟨rfl,h⟩;subst c))
 go_ret;exact⟨by rw[H.out.2];rfl,o.out⟩
def aru(F:Ò À 113 #[Æ O n cp,Å É v] w λe b=>e=Ç (lz<|Â i)/\ff (λ_=>False) w b)(h:sQ r x y g k 9 v v2 slot w)(C:True)(q:∀W,ff (λ_=>False) w W->Ò À 113 #[Æ O n cp,Å É v2] W λe b=>e=Ç (lz<|Â j)/\ff (λ_=>False) W b)(o:List ByteArray)(s:∀W,ff (λ_=>False) w W->Ò À 126 #[Ã<|Â ⟨i,0,Á⟩,Ã<|Â ⟨j,0,Á⟩] W λe b=>∃p,e=Ç p/\ji W p o b)(t:∀W a m c,ji w (Æ a m c) o W->Ò À 123 #[Æ a m c] W λe b=>e=Ç (Ä B)/\ff (λ_=>False) W b): Ò À 67 #[Æ O n cp,Ã<|Â ⟨r,0,Á⟩] w λe b=>e=Ç (Ä B)/\ff (λ_=>False) w b:=by
 have L:=h.c5;have E:=h.c4;have G:=fp q;have u:=fp<|Ê s t;clear q s t;have H:=fp<|Ê F C;have I:=fp h;clear F C h;go_enter ù,ñ;go_wp2_with (first
  |(go_at_call 113;with_reducible refine H.out.1.mono ?_;rintro e z ⟨rfl,d⟩;dsimp only[lz,õ];have l:=d.fg E id;have D:=d.fg I.out.c6 id;have f:=fp d;clear d)
  |(go_at_call 113;refine(G.out _ f.out).mono ?_;rintro e l ⟨rfl,d⟩;dsimp only[lz,õ];have z:=fp (f.out.fl d);clear d))
 apply oG (λb=>True/\True) [] fF;have d:=fp<|Ê trivial trivial;apply tk 0 d.out;apply tk 1 d.out;apply tk 2 d.out;apply tk 3 d.out;apply tk 4 d.out;apply tk 5 d.out;apply tk 6 d.out;apply tk 7 d.out;apply iu 8;intro K f;go_simp;go_at_call 126;refine(u.out.1 _<|z.out.fl<|ff.gi _ _).mono ?_;rintro e M ⟨p,rfl,l⟩;obtain⟨N,P,rfl⟩:=kX l.fD;generalize o.length=tn at l|-;have D:=fp<|l.XC<|z.out.fl<|ff.gi _ _;clear l;dsimp only;apply f.out _ _ λ_=>⟨trivial,trivial⟩;clear f K;apply iu 9;intro K f;go_simp;go_at_call 123;refine(u.out.2 _ _ _ _ D.out).mono ?_;rintro e Q ⟨rfl,z⟩;have J:=fp<|D.out.fi.fl z;clear z;dsimp only;apply f.out _ _ λ_=>⟨trivial,trivial⟩;clear f K;apply iu 10;intro K f;go_simp;apply f.out _ _ λ_=>⟨trivial,trivial⟩;clear f K;try simp only[Act.put,ë,ā,Ă]
 refine om fF ?_ _;go_wp2_with fail;go_ret;exact⟨U,J.out⟩
def arv(F:Ò À 113 #[Æ O n cp,Å É v] w λe a=>e=Ç (lz Á)/\ff (λ_=>False) w a)(b:sQ r x y g k h v v2 slot w): Ò À 67 #[Æ O n cp,Ã<|Â ⟨r,0,Á⟩] w λe a=>e=Ç (Ä<|sd 3)/\ff (λ_=>False) w a:=by
 have f:=b.c5;have H:=fp F;clear F b;go_enter ù,ñ;go_wp2_with (first
  |(go_at_call 113;refine H.out.mono ?_;rintro e i ⟨rfl,c⟩;dsimp only[lz,õ];have d:=fp c;clear c)
  |(go_at_call 114;refine(Je 3 A _).mono ?_;rintro e c ⟨rfl,i⟩;subst c))
 go_ret;exact⟨U,d.out⟩
end
structure Qn where
 x:Nat
 y:Nat
 g:Nat
 k:Nat
 oH:Int
 v:Int
 v2:Int
 kY:Nat
structure Qn.Ok(q:Qn):Prop where
 x:q.x<8
 y:q.y<8
 g:q.g<1000000
 k:q.k<18446744073709551616
 avH:2<=q.oH
 avI:q.oH<=9
 v:-1<=q.v
 v2:-1<=q.v2
 kY:q.kY<16
def JD(a:List ByteArray):ByteArray:=if a=[]then⟨#[45]⟩else rV ⟨#[44]⟩ a
def JF(a:List (Nat×gE))(p:gE)(q:Qn):ByteArray:=
 if q.oH=2 then iK ((p.s q.x).kY q.kY).toNat
 else if q.oH=3 then iK (p.s q.x).fH.toNat
 else if q.oH=4 then if 400<q.g then sd 6 else XB (gR p.s [] q.x q.y q.g q.k)
 else if q.oH=5 then xo p.s q.x q.y q.k 0 401
 else if q.oH=6 then Rz (Jo p.s)
 else if q.oH=7 then JD (p.ls.map wv)
 else if q.oH=8 then JD (p.us.map Ju)
 else match np a q.v2 with
  |none=>sd 3
  |some b=>JD<|uU p.s b.2.s 8
def BA(a:List (Nat×gE))(q:Qn):ByteArray:=
 match np a q.v with
 |none=>sd 3
 |some p=>JF a p.2 q
def XD{M:Nat}(b:∀z∈vX,z.size<=M)(d:M<=100)(f:vX.length<=400000)(h:ji w (Æ O m i) vX W): Ò À 123 #[Æ O m i] W λe g=>e=Ç (Ä<|JD vX)/\ff (λ_=>False) W g:=by obtain⟨e,g,j⟩:=h.jf;have k:=JA vX b;have:M*vX.length<=100*400000:=Ÿ d f;exact aqV g Z j e Z
def arw(s:St):Jo s<18446744073709551616:=by unfold Jo Ra;exact Xc _ _<|acT λi=>acW _ _ _
def XF{b:ByteArray}(c:B.size<=1)(d:b.size<=1):(B++b).size<=2:=by rw[î];omega
def ads(s t:St):∀z∈uU s t 8,z.size<=2:=λz a=>by
 unfold uU at a;obtain⟨i,_,h⟩:=ŧ.1 a;unfold Dc Bx at h;rcases à.1 h with h|h
 .rcases à.1 h with h|h
  .split at h
   .cases h
   .simp at h;subst h;exact XF (By i)<|â _
  .split at h
   .cases h
   .simp at h;subst h;exact XF (By i)<|â _
 .unfold uT at h;obtain⟨j,_,h⟩:=ŧ.1 h;unfold GX at h;split at h
  .cases h
  .simp at h;subst h;exact XF (By i)<|ada j
section
variable{cp:Nat}{vs:List (Nat×gE)}{q:Qn}
def arx(u:tW O n vs w)(Q:n<=1000)(T:0<n)(hvo:∀p∈vs,Xl p.2)(d:sQ i q.x q.y q.g q.k q.oH q.v q.v2 q.kY w)(ok:q.Ok)(V:jK w)(o:nW w)(hd:tX w): Ò À 67 #[Æ O n cp,Ã<|Â ⟨i,0,Á⟩] w λe G=>e=Ç (Ä<|BA vs q)/\ff (λ_=>False) w G:=by
 have F:=Rh (cp:=cp) u Q T q.v ok.v;unfold BA;cases B:np vs q.v with
 |none=>
  rw[B]at F;exact arv F d
 |some p=>
  rw[B]at F;have h:=F;have X:=MW B;have f:=u.yK X;have j:=hvo p X;obtain⟨x,y,g,k,kind,v,C,Y⟩:=q;obtain⟨r,H,hg,I,vu,vq,hv,RE,J⟩:=ok;simp only at r H hg I vu vq hv RE J d h B|-;obtain⟨cb,_,cs⟩:=f.st.iU r;have KW:gP (k:Int):=⟨Z,Z⟩;unfold JF;simp only;split
  .rename_i e;subst e;have c:=cs Y J;have l:=f.yC.kY x Y;rw[<-ő l.1]at c;exact ari h d r J _ c λW b=>Bw _ (by have:=l.1;have:=l.2;omega) W<|o.fi b
  .split
   .rename_i e;subst e;have l:=f.yC.fH x;rw[<-ő l.1]at cb;exact arj h d r _ cb λW b=>Bw _ (by have:=l.1;have:=l.2;omega) W<|o.fi b
   .split
    .rename_i e;subst e;split
     .rename_i hh;exact arq h d hh U
     .exact ark h d Z I λW b=>aqY (f.st.fi b id) f.yC (V.fi b id) (o.fi b) x y g k r H Z Z KW
    .split
     .rename_i e;subst e;exact arl h d I λW b=>aqg (f.st.fi b id) f.yC (V.fi b id) (o.fi b) r H KW
     .split
      .rename_i e;subst e;exact arn h d _ (λW b=>apA (f.st.fi b id) f.yC) λW b=>arh _ (arw _)<|hd.fi b
      .split
       .rename_i e;subst e;obtain⟨K,L,c1,M⟩:=f.ls;exact aro h d K _ L c1 _ (λW b=>ac5 U j.nl j.jv (o.fi b)<|p7.fi M b) λW a m c t=>XD (λz N=>by obtain⟨e,D,rfl⟩:=Ý.1 N;exact Rw (j.jv e D).2) Z (by rw[í];exact j.nl) t
       .split
        .rename_i e;subst e;obtain⟨K,L,c1,M⟩:=f.us;exact arp h d K _ L c1 _ (λW b=>aqn U j.nu j.sM (o.fi b)<|p7.fi M b) λW a m c t=>XD (λz N=>by obtain⟨e,D,rfl⟩:=Ý.1 N;exact adj (j.sM e D).1 (j.sM e D).2) Z (by rw[í];have:=j.nu;omega) t
        .have e:kind=9:=Z
         subst e;have E:∀W,ff (λ_=>False) w W->Ò À 113 #[Æ O n cp,Å É C] W λe G=>e=Ç (lz ((np vs C).map (·.1)))/\ff (λ_=>False) W G:=λW b=>Rh (u.fi b) Q T C RE;cases P:np vs C with
         |none=>
          rw[P]at E;exact ars h d U E
         |some p2=>
          rw[P]at E;have arz:=u.yK<|MW P;exact aru h d trivial E _ (λW b=>aqA (f.st.fi b id)<|arz.st.fi b id) λW a m c t=>XD (ads _ _) Z (by have:=Xt p.2.s p2.2.s 8;omega) t
end
end Go.Proofs.Y.jr
namespace Go.Proofs.Y.nz
open Go Go.Proofs Go.RowKit Go.Proofs.Y.Lift Go.Proofs.Y.jr
def lL(a:List (Nat×gE)):List gE:=a.map (·.2)
def adt(d:gE)(l:List gE):gE:=l.foldl (λa b=>if a.h<b.h then b else a) d
def adu:∀(a:List (Nat×gE)) (d:Nat×gE),(yJ d a).2=adt d.2 (lL a)
 |[],_=>rfl
 |x::r,d=>by show(yJ (C7 d x) r).2=adt (if d.2.h<x.2.h then x.2 else d.2) (lL r);rw[adu r];unfold C7;split<;>rfl
def XG{b a:List (Nat×gE)}(h:lL b=lL a)(v:Int):(np b v).map (·.2)=(np a v).map (·.2):=by
 have d:∀i:Nat,(b[i]?).map (·.2)=(a[i]?).map (·.2):=λi=>by have:=congrArg (λl:List gE=>l[i]?) h;simpa[lL]using this
 unfold np;split
 .have l:=d 0;cases f:b[0]? with
  |none=>
   rw[f]at l;cases c:a[0]? with
   |none=>rfl
   |some y=>rw[c]at l;cases l
  |some x=>
   rw[f]at l;cases c:a[0]? with
   |none=>rw[c]at l;cases l
   |some y=>
    rw[c]at l;have e:x.2=y.2:=by simpa using l
    simp only[þ,adu,h,e]
 .exact d _
def arA{a b:List (Nat×gE)}(h:lL a=lL b):a.length=b.length:=by have:=congrArg θ h;simpa[lL]using this
def adv{d b:List (Nat×gE)}(h:lL d=lL b)(v:Int)(x:Nat)(gQ:List Tx):yL d v x gQ=yL b v x gQ:=by
 have a:=XG h v;have g:=arA h;unfold yL;cases f:np d v with
 |none=>
  rw[f]at a;cases c:np b v with
  |none=>rfl
  |some y=>rw[c]at a;cases a
 |some p=>
  rw[f]at a;cases c:np b v with
  |none=>rw[c]at a;cases a
  |some y=>
   rw[c]at a;have e:p.2=y.2:=by simpa using a
   simp only[g,e]
def arB{g f:List (Nat×gE)}(h:lL g=lL f)(q:Qn):BA g q=BA f q:=by
 have c:=XG h q.v;have d:=XG h q.v2;have j:∀p:gE,JF g p q=JF f p q:=λp=>by
  unfold JF;cases i:np g q.v2 with
  |none=>
   rw[i]at d;cases b:np f q.v2 with
   |none=>rfl
   |some y=>rw[b]at d;cases d
  |some a=>
   rw[i]at d;cases b:np f q.v2 with
   |none=>rw[b]at d;cases d
   |some y=>
    rw[b]at d;have e:a.2=y.2:=by simpa using d
    simp only[e]
 unfold BA;cases i:np g q.v with
 |none=>
  rw[i]at c;cases b:np f q.v with
  |none=>rfl
  |some y=>rw[b]at c;cases c
 |some p=>
  rw[i]at c;cases b:np f q.v with
  |none=>rw[b]at c;cases c
  |some y=>
   rw[b]at c;have e:p.2=y.2:=by simpa using c
   simp only[j,e]
structure ow(s:List gE):Prop where
 RF:0<s.length
 le:s.length<=40
 yK:∀v∈s,Xl v/\iE v.s/\0<=v.h/\v.h<s.length
def tY(a:List (Nat×gE))(v:Int)(x:Nat)(gQ:List Tx):List gE:=lL a++(yL a v x gQ).1.toList
def ow.tY{f:List (Nat×gE)}(h:ow (lL f)){gQ:List Tx}(j:∀t∈gQ,t.Ok)(l:gQ.length<=1000):ow (tY f c i gQ):=by
 unfold nz.tY;have z:(lL f).length=f.length:=by simp[lL]
 unfold yL;cases m:np f c with
 |none=>simpa using h
 |some p=>
  have n:p.2∈lL f:=Ý.2 ⟨p,MW m,U⟩;let⟨B,k,C,D⟩:=h.yK _ n;simp only;split
  .simpa using h
  .rename_i E;cases g:Bv i p.2.s gQ with
   |none=>simpa using h
   |some r=>
    simp only[Option.toList];have F:=h.le;have o:iE r.1:=by unfold Bv at g;obtain⟨G,w,rfl⟩:=ø.1 g;exact(Xm gQ j k (λ_ q=>by cases q) (λ_ q=>by cases q) (by simp;omega) (by simp;omega) w).1.pb i<|CY _
    refine⟨fB,by simp;omega,λu y=> ?_⟩;rcases à.1 y with q|q
    .let⟨a,b,e,d⟩:=h.yK u q;refine⟨a,b,e,?_⟩;rw[Ø];simp;omega
    .simp at q;subst q;refine⟨ap4 j k l g,o,by show 0<=p.2.h+1;omega,?_⟩;rw[Ø];show p.2.h+1<_;simp;omega
def jU(ρ:fE)(u w:Ë):Prop:=∀(i j o:Nat) (v:Ñ),ρ i j->u.cell? ⟨i,o,Á⟩=Â v->∃a,w.cell? ⟨j,o,Á⟩=Â a/\fy ρ v a
section
variable{ρ:fE}
def arC{k:IntKind}(h:fy ρ (Å k c) v):v=Å k c:=by cases h;rfl
def arD(h:fy ρ (Ä B) v):v=Ä B:=by cases h;rfl
def RG(h:fy ρ (Ã<|Â a) v):∃b,v=Ã (Â b)/\iZ ρ a b:=by
 cases h with
 |lB q=>exact⟨_,U,q⟩
def RH(h:fy ρ (Æ O n i) v):∃b,v=Æ b n i/\∀a,O=Â a->∃d,b=Â d/\iZ ρ a d:=by
 cases h with
 |qd=>exact⟨Á,U,λa q=>by cases q⟩
 |mP q=>exact⟨_,U,λa e=>by cases e;exact⟨_,U,q⟩⟩
def arE(a:lP v=Î)(h:fy ρ v x):x=v:=by cases h<;>first|rfl|(simp[lP]at a;done)
def Df(h:iZ ρ ⟨b,i,Á⟩ a):∃c,a=⟨c,i,Á⟩/\ρ b c:=by let⟨d,e,f⟩:=h;let⟨c,g,j⟩:=a;simp only at d e f;subst e f;exact⟨c,U,d⟩
def jU.iL(a:jU ρ u w){k:IntKind}(h:ρ i j)(e:u.cell? ⟨i,b,Á⟩=Â (Å k c)):w.cell? ⟨j,b,Á⟩=Â (Å k c):=by let⟨g,d,f⟩:=a i j b _ h e;rwa[arC f]at d
def jU.Gr(a:jU ρ u w)(h:ρ i j)(c:u.cell? ⟨i,n,Á⟩=Â (Ä B)):w.cell? ⟨j,n,Á⟩=Â (Ä B):=by let⟨e,b,d⟩:=a i j n _ h c;rwa[arD d]at b
def jU.sH(a:jU ρ u w)(c:lP v=Î)(h:ρ i j)(d:u.cell? ⟨i,n,Á⟩=Â v):w.cell? ⟨j,n,Á⟩=Â v:=by let⟨f,b,e⟩:=a i j n _ h d;rwa[arE c e]at b
def XH(s:jr.St):∀v∈jo s,(∃n,v=Å å n)\/∃p,v=Ä p:=λv n=>by
 unfold jo at n;obtain⟨i,_,rfl⟩:=Ý.1 n;unfold sJ tP;split
 .exact È ⟨_,U⟩
 .split
  .exact Ï ⟨_,U⟩
  .exact È ⟨_,U⟩
def arF(a:jU ρ u w){s:jr.St}(c:ρ b i)(d:oJ b s h u):oJ i s h w:=by
 refine⟨λj v e=> ?_,a.iL c d.h⟩;have f:=d.st j v e;rcases XH s v (è e)with⟨n,rfl⟩|⟨p,rfl⟩
 .exact a.iL c f
 .exact a.Gr c f
def adw(a:jU ρ u w)(f:ρ b i)(g:∀v∈l,lP v=Î)(h:C6 ⟨b,j,Á⟩ n l u):C6 ⟨i,j,Á⟩ n l w:=by let⟨p,c,k,m⟩:=h;let⟨G,q,r⟩:=a b i j _ f k;obtain⟨s,rfl,t⟩:=RH r;refine⟨s,c,q,λd x e=> ?_⟩;let⟨H,y,z,B⟩:=m d x e;let⟨I,C,D⟩:=t _ z;obtain⟨E,rfl,F⟩:=Df D;exact⟨E,y,C,a.sH (g x<|è e) F B⟩
def arG(a:jU ρ u w){v:gE}(c:ρ b i)(h:wo b v u):wo i v w:= ⟨arF a c h.st,h.yC,h.h0,h.h1,adw a c (ab2 _) h.ls,adw a c (acB _) h.us⟩
def Ao{α β:Type}{R:Nat->α->β->Prop}:∀(l:List α) (k:Nat),(∀j x,l[j]?=Â x->∃y,R (k+j) x y)->∃a:List β,a.length=l.length/\∀j y,a[j]?=Â y->∃x,l[j]?=Â x/\R (k+j) x y
 |[],_,_=>⟨[],U,λj y h=>by simp at h⟩
 |x::r,k,h=>by
  let⟨y,c⟩:=h 0 x U;obtain⟨a,d,e⟩:=Ao r (k+1) λj z b=>by let⟨q,f⟩:=h (j+1) z b;exact⟨q,by rwa[show k+1+j=k+(j+1) by omega]⟩
  refine⟨y::a,by simp[d],λj z b=> ?_⟩;cases j with
  |zero=>cases b;exact⟨x,U,c⟩
  |succ j=>
   let⟨q,f,g⟩:=e j z b;exact⟨q,f,by rwa[show k+(j+1)=k+1+j by omega]⟩
def M1(a:jU ρ u w){f:List (Nat×gE)}(t:fy ρ z jQ)(h:Ri z f u):∃e,lL e=lL f/\Ri jQ e w:=by
 obtain⟨L,n,B,rfl,C,l⟩:=h;obtain⟨m,rfl,D⟩:=RH t;let⟨e,E,o⟩:=Ao (R:=λj (x y:Nat×gE)=>x.2=y.2/\∃c d,m=Â ⟨c,d,Á⟩/\w.cell? ⟨c,d+j,Á⟩=Â (Ã<|Â ⟨y.1,0,Á⟩)/\wo y.1 y.2 w) f 0 λj x F=>by let⟨b,v⟩:=x;let⟨c,d,i,g,k⟩:=l.gV j b v F;let⟨M,p,r⟩:=D _ i;obtain⟨q,rfl,s⟩:=Df r;let⟨N,G,H⟩:=a c q _ _ s g;obtain⟨O,rfl,I⟩:=RG H;obtain⟨J,rfl,K⟩:=Df I;exact⟨(J,v),U,q,d,p,by rwa[Ė],arG a K k⟩
 refine⟨e,?_,m,n,B,U,C,⟨by rw[E];exact l.iw,λj b v q=> ?_⟩⟩
 .refine Ŝ λj=> ?_;unfold lL;rw[ó,ó];cases p:e[j]? with
  |none=>
   have:f[j]?=Á:=ľ (by have:=į.1 p;omega);rw[this]
  |some y=>
   let⟨x,r,s,_⟩:=o j y p;rw[r];simp[s]
 .let⟨x,r,s,c,d,i,g,k⟩:=o j (b,v) q;exact⟨c,d,i,by rwa[Ė]at g,k⟩
end
def nA(a:Nat->Prop)(B:Nat):fE:=⟨λi j=>i=j/\a i,B⟩
def arH(a:Nat->Prop)(B:Nat):Bi (nA a B):= ⟨λ_ _ _ h k=>h.1.symm.trans k.1,λ_ _ _ h k=>h.1.trans k.1.symm,λi j h=>by rw[h.1]⟩
def Dg{V:Nat->Prop}{B:Nat}(h:∀i,X i->V i):(nA X B).le (nA V B):=⟨λ_ _ q=>⟨q.1,h _ q.2⟩,λ_=>arH V B,U⟩
def mE(B:Nat)(a:Nat->Prop)(w:Ë):Prop:=∀b,a b->∃c e d,w.heap[b]?=Â (Þ c e d)/\d.2<=c.size/\gA (nA a B) c c/\0<c.size/\Hh c/\e≠304/\e≠305
section
variable{B:Nat}{V:Nat->Prop}{w':Ë}
def mE.or(h:mE B X w)(k:mE B V w):mE B (λb=>X b\/V b) w:=by
 rintro b (q|q)
 .let⟨c,e,a,d,f,g,i⟩:=h b q;exact⟨c,e,a,d,f,g.ft (Dg λ_=>È),i⟩
 .let⟨c,e,a,d,f,g,i⟩:=k b q;exact⟨c,e,a,d,f,g.ft (Dg λ_=>Ï),i⟩
def mE.kZ(h:mE B X w)(k:∀b,X b->w'.heap[b]?=w.heap[b]?):mE B X w':=λb q=>by let⟨c,e,a,d,f⟩:=h b q;exact⟨c,e,a,by rwa[k b q],f⟩
def mE.fg(h:mE B X w){o:Nat}(g:X b)(a:w.cell? ⟨b,o,Á⟩=Â v):fy (nA X B) v v:=by
 let⟨c,e,l,i,_,j,_⟩:=h b g;simp only[ã,i,ü,ð,if_false]at a;rcases j.mQ o with⟨q,_⟩|⟨x,m,d,f,k⟩
 .rw[q]at a;cases a
 .rw[d]at a;rw[d]at f;cases a;cases f;exact k
def GZ(h:fy (nA X B) (Ã<|Â a) v):X a.block:=by
 cases h with
 |lB q=>exact q.1.2
def G0(h:fy (nA X B) (Æ (Â a) n i) v):X a.block:=by
 cases h with
 |mP q=>exact q.1.2
def arI{ρ:fE}(h:lP v=Î):fy ρ v v:=by cases v<;>first|exact .oL _|exact .iL _ _|(simp[lP]at h;done)
def sR{ρ:fE}(h:∀v∈d.toList,fy ρ v v):gA ρ d d:=⟨U,λi a _=>h _<|ò.2<|Ć a⟩
def arJ(h:lP v=Î):BN v=Ì:=by
 cases v with
 |int k n=>cases k<;>first|rfl|(simp[lP]at h;done)
 |_=>rfl
def Dh(h:∀v∈d.toList,BN v=Ì):Hh d:=λk v a=>h v<|ò.2<|Ŀ a
def M3(v:Ñ)(i:Nat):Prop:=v.ownBlock=Â i
def M4(X:Nat->Prop)(g b:Nat)(a c:Ñ)(i:Nat):Prop:=X i\/i=g\/i=b\/M3 a i\/M3 c i
def adx{G:Ë}(a:oD T=Î)(h:xm v T u)(o:∀j,v.ownBlock=Â j->G.heap.size<=j)(p:vW G.heap.size u):∀i,M3 v i->∃c e f,u.heap[i]?=Â (Þ c e f)/\f.2<=c.size/\gA (nA V B) c c/\0<c.size/\Hh c/\e≠304/\e≠305:=λi b=>by
 rcases h with rfl|⟨g,n,c,k,rfl,l⟩
 .cases b
 .have e:g=i:=by unfold M3 at b;simpa[Value.ownBlock]using b
  subst e;let⟨r,m⟩:=p g k T (0,0) (o g U) l a;exact⟨k,T,(0,0),l,Ú _,sR λv d=>arI<|m v d,r,Dh λv d=>arJ<|m v d,(λq=>by rw[q]at a;cases a),(λq=>by rw[q]at a;cases a)⟩
def ady(h:xm v T u)(a:∀i,M3 v i->V i):fy (nA V B) v v:=by
 rcases h with rfl|⟨g,n,c,b,rfl,d⟩
 .exact .qd _ _
 .exact fy.mP (ρ:=nA V B) ⟨⟨U,a g U⟩,U,U⟩ n c
def arK{G:Ë}(J:mE B X G)(k:ff (λ_=>False) G u)(K:∀i,X i->i<G.heap.size){r:List (Nat×gE)}{s:jr.St}(t:Xi b s h G u)(w:Xh r b G u m)(L:∀p∈r,X p.1): ∃e,(∀i,X i->e i)/\e m/\mE B e u/\∀i,e i->X i\/G.heap.size<=i:=by
 have y:=k.sH _ λi c T z M C=>by rw[æ M]at C;cases C
 let⟨a,d,N,f,l,D,E⟩:=t.gV;refine⟨M4 X m b a d,λi q=>È q,Ï<|È U,?_,?_⟩
 .rintro i (q|rfl|rfl|q|q)
  .let⟨c,e,z,n,x,o,F⟩:=J i q;exact⟨c,e,z,by rwa[k.fu i (K i q) id],x,o.ft (Dg λ_=>È),F⟩
  .let⟨F,n,x,o⟩:=w.gV;have H:∀v∈F.toList,v=Ã Á\/∃j,v=Ã (Â ⟨j,0,Á⟩)/\M4 X i b a d j:=λv e=>by
    rcases o v e with q|q|q
    .unfold wq at q;obtain⟨p,I,rfl⟩:=Ý.1 q;exact Ï ⟨_,U,È<|L p I⟩
    .exact Ï ⟨_,q,Ï<|Ï<|È U⟩
    .exact È q
   refine⟨F,136,(0,0),n,Ú _,sR λv e=> ?_,x,Dh λv e=> ?_,A,A⟩
   .rcases H v e with rfl|⟨j,rfl,I⟩
    .exact .nY
    .exact .lB ⟨⟨U,I⟩,U,U⟩
   .rcases H v e with rfl|⟨j,rfl,I⟩<;>rfl
  .have o:∀v∈jZ s a++[Å É h,d],fy (nA (M4 X m i a d) B) v v/\BN v=Ì:=λv e=>by
    rw[C4]at e;have I:=ady (B:=B) (V:=M4 X m i a d) f λj q=>Ï<|Ï<|Ï<|È q;have H:=ady (B:=B) (V:=M4 X m i a d) l λj q=>Ï<|Ï<|Ï<|Ï q;have F:∀{x:Ñ} {T:ė},xm x T u->BN x=Ì:=λ{x T} q=>by rcases q with rfl|⟨_,_,_,_,rfl,_⟩<;>rfl
    rcases à.1 e with q|q
    .rcases à.1 q with q|q
     .rcases XH s v q with⟨n,rfl⟩|⟨p,rfl⟩
      .exact⟨.iL _ _,U⟩
      .exact⟨.mO _,U⟩
     .simp at q;subst q;exact⟨I,F f⟩
    .simp at q;rcases q with rfl|rfl
     .exact⟨.iL _ _,U⟩
     .exact⟨H,F l⟩
   have F:=N;exact⟨_,147,(0,0),F,Ú _,sR λv e=>(o v<|by simpa using e).1,by simp[o7],Dh λv e=>(o v<|by simpa using e).2,A,A⟩
  .exact adx U f D y i q
  .exact adx U l E y i q
 .rintro i (q|rfl|rfl|q|q)
  .exact È q
  .exact Ï w.fN
  .exact Ï t.fN
  .exact Ï<|D i q
  .exact Ï<|E i q
def RJ{ρ:fE}(h:fy ρ v x):fy (nA X B) v v->fy (nA (λj=>∃i,X i/\ρ i j) B) x x:=by
 induction h with
 |oL b=>exact λ_=> .oL b
 |iL k n=>exact λ_=> .iL k n
 |mO s=>exact λ_=> .mO s
 |nY=>exact λ_=> .nY
 |@lB a a' q=>exact λz=>fy.lB (ρ:=nA (λj=>∃i,X i/\ρ i j) B) ⟨⟨U,_,GZ z,q.1⟩,U,U⟩
 |qd n c=>exact λ_=> .qd n c
 |@mP a a' q n c=>exact λz=>fy.mP (ρ:=nA (λj=>∃i,X i/\ρ i j) B) ⟨⟨U,_,G0 z,q.1⟩,U,U⟩ n c
 |ze=>exact λ_=> .ze
 |fn f=>exact λ_=> .fn f
 |zf=>exact λ_=> .zf
 |zg=>exact λ_=> .zg
 |zh=>exact λ_=> .zh
 |BM t _ b=>exact λz=> .BM t (b (by cases z with|BM _ y=>exact y))
 |re f _ b=>exact λz=> .re U λi c _=>b i (by rwa[f]) c (by cases z with|re _ y=>exact y i _ _)
 |qe f _ b=>exact λz=> .qe U λi c _=>b i (by rwa[f]) c (by cases z with|qe _ y=>exact y i _ _)
def arL{ρ:fE}(h:fy ρ v x):BN x=BN v:=by cases h<;>rfl
def XJ{ρ:fE}{l:Nat->Prop}(h:km ρ l u w)(r:mE B X u):mE B (λj=>∃i,X i/\ρ i j) w:=by
 rintro j ⟨i,t,x⟩;let⟨c,a,e,I,y,z,C,b,D,E,J⟩:=h.fu i j x;let⟨d,K,s6,m,_,F,L,G,n,o⟩:=r i t;rw[z]at m;cases m;have M:=b.eq.resolve_right λq=>q.2.1.elim n o;refine⟨a,e,y,C,?_,sR λv f=> ?_,Z,Dh λv f=> ?_,n,o⟩
 .by_cases s:l j
  .have:=(D s).2.2.1;omega
  .rw[<-E s];omega
 .obtain⟨k,s,rfl⟩:=Ħ f;have g:k<a.size:=by simpa using s
  have:=RJ (b.kt k Z g)<|F.kt k Z Z;simpa using this
 .obtain⟨k,s,rfl⟩:=Ħ f;have g:k<a.size:=by simpa using s
  have p:=arL<|b.kt k Z g;have H:=G k c[k]<|Ü Z;rw[H]at p;simpa using p
def Di{ρ:fE}(h:km ρ X u w):jU ρ u w:=λi j o v b c=>h.ig (a:=⟨i,o,Á⟩) (a':=⟨j,o,Á⟩) ⟨b,U,U⟩ c
end
end Go.Proofs.Y.nz
namespace Go.Proofs.Y.Lift
open Go
def adz{α β:Type}{c:α->β->Option (ForInStep β)}{I:β->Prop}(d:∀a b s,I b->c a b=Â s->I s.value): ∀(l:List α) (b r:β),I b->forIn l b c=Â r->I r
 |[],b,r,hi,h=>by simp at h;subst h;exact hi
 |a::l,b,r,hi,h=>by
  rw[List.forIn_cons]at h;cases e:c a b with
  |none=>rw[e]at h;simp at h
  |some s=>
   rw[e]at h;have:=d a b s hi e;cases s with
   |done x=>simp at h;subst h;exact this
   |yield x=>simp at h;exact adz d l x r this h
def lq.iU(h:lq v):∀x∈v.cells,lq x:=by
 intro x a;cases h with
 |re h=>
  obtain⟨i,b,rfl⟩:=Array.mem_iff_getElem.1 a;exact h i b
 |qe h=>simp[Ń]at a;subst a;exact .qe h
 |_=>simp[Ń]at a;subst a;constructor
def ZP(a:ė->Option Ĳ):Prop:=∀t i z,a t=Â i->i.zero=Â z->lq z
def XK(h:∀x∈d,lq x):lq (.agg d):=.re λ_ a=>h _<|Ć a
def arM{m:ė->Option Ĳ}(h:ZP m){n:Array Field}(g:ŝ m n=Â zJ)(j:zJ.zero=Â z):lq z:=by
 unfold ŝ at g;simp only[<-Array.forIn_toList]at g;generalize t:(forIn n.toList _ _:Option _)=L at g;cases L with
 |none=>simp at g
 |some r=>
  have u:=adz (I:=λx=>∀a,x.2.2.2.2.2.2.2.1=Â a->∀v∈a,lq v) ?_ _ _ _ ?_ t
  .have:∃a,r.2.2.2.2.2.2.2.1=Â a/\z=.agg a:=by
    simp only[bind,pure,κ]at g;split at g;all_goals
     simp only[Õ]at g;subst g;simp only[ø]at j;let⟨a,e,k⟩:=j;exact⟨a,e,k.symm⟩
   obtain⟨a,e,rfl⟩:=this;exact XK<|u a e
  .intro f b s w d;have y:∀(e:Option Ñ) (k:Nat) (x:Option (Array Ñ)),(∀z,e=Â z->lq z)->x=(if k>Ź then Á else do pure ((<-b.2.2.2.2.2.2.2.1)++(<-e).cells))->∀a,x=Â a->∀v∈a,lq v:=by
    intro e k x B C a c v o;subst C;split at c
    .simp at c
    .cases l:b.2.2.2.2.2.2.2.1 with
     |none=>rw[l]at c;simp at c
     |some E=>
      cases p:e with
      |none=>rw[l,p]at c;simp at c
      |some D=>
       rw[l,p]at c;simp at c;subst c;rcases Array.mem_append.1 o with q|q
       .exact w _ l v q
       .exact(B D p).iU v q
   cases e:m f.type with
   |none=>rw[e]at d;simp at d
   |some k=>
    rw[e,ì,Ķ]at d;have l:=y k.zero (b.2.1+k.size) _ (λz j=>h _ _ _ e j) U;generalize(if b.2.1+k.size>Ź then Á else(do pure ((<-b.2.2.2.2.2.2.2.1)++(<-k.zero).cells):Option (Array Ñ)))=X at d l;generalize(if b.1.size+1<n.size then ";" else "")=Y at d;simp only[bind,pure,κ]at d;repeat' split at d
    all_goals first
     |(simp only[Õ]at d;subst d;exact l)
     |(simp at d;done)
  .intro a c v o;simp at c;subst c;simp at o
def arN{c:ė->Option Ĳ}(h:ZP c){d:TypeDesc}(a:ν c d=Â zJ)(b:zJ.zero=Â z):lq z:=by
 unfold ν at a;cases d with
 |struct k=>exact arM h a b
 |array n e=>
  simp only[ì,ß,ą,Õ]at a;obtain⟨f,v,st,_,rfl⟩:=a;simp only at b;split at b
  .simp at b
  .split at b
   .simp at b;subst b;exact XK fB
   .simp only[ø]at b;obtain⟨j,g,rfl⟩:=b;refine XK λx k=> ?_;simp only[Array.mem_flatten,Array.mem_replicate]at k;obtain⟨l,⟨_,rfl⟩,k⟩:=k;exact(h _ _ _ v g).iU x k
 |pointer e=>
  simp only[ì,ß,ą]at a;let⟨f,v,a⟩:=a;repeat' split at a
  all_goals first
   |(simp at a;done)
   |(simp only[ß,Õ]at a;obtain⟨_,_,rfl⟩:=a;simp only[ō,Õ]at b;subst b;constructor)
 |slice e=>
  simp only[ì,ß,ą,Õ]at a;obtain⟨_,_,_,_,rfl⟩:=a;simp only[ō,Õ]at b;subst b;constructor
 |map k e=>
  simp only[ì,ß,ą,Õ]at a;obtain⟨_,_,_,_,_,_,_,_,rfl⟩:=a;simp only[ō,Õ]at b;subst b;constructor
 |chan k e=>
  simp only[ì,ß,ą,Õ]at a;obtain⟨_,_,_,_,rfl⟩:=a;simp only[ō,Õ]at b;subst b;constructor
 |func k e v=>
  simp only[ì,ß,ą,Õ]at a;obtain⟨_,_,rfl⟩:=a;simp only[ō,Õ]at b;subst b;constructor
 |_=>simp at a
def adA{T:Tables}(a:∀(t:Nat) (i:Ĳ) (z:Ñ),T.types[t]?=Â i->i.zero=Â z->lq z):∀f,ZP<|ū T f
 |0=>λt i z h=>by simp[ū]at h
 |f+1=>λt i z h b=>by
  unfold ū at h;split at h
  .exact a t i z h b
  .simp only[ß]at h;let⟨d,_,c⟩:=h;exact arN (adA a f) c b
def arO(a:∀(t:Nat) (i:Ĳ) (z:Ñ),P.types[t]?=Â i->i.zero=Â z->lq z):qg P:=λt i z h b=>by
 have h:P.toTables.info? t=Â i:=h;unfold Tables.info? at h;split at h
 .exact a t i z h b
 .exact adA a _ t i z h b
end Go.Proofs.Y.Lift
namespace Go.Proofs.Y.fK
open Go Go.Conc Go.Proofs.Y.Lift Go.RowKit Go.Conc.Lib Go.ConcR.Gen
open Go.Proofs Go.Proofs.YtgpphkdoanciiaaGreatDoor
def XL:Ñ->Bool
 |.agg a=>a.toList.all BX
 |v=>BX v
def adB(h:XL v=Î):lq v:=by
 cases v with
 |agg b=>exact .re λi a=>Kz<|(ķ.1 h) _<|ò.2<|Ć a
 |_=>exact Kz h
def adC:Ñ->Bool
 |ï a=>a.toList.all XL
 |v=>XL v
def arP(h:adC v=Î):lq v:=by
 cases v with
 |tuple b=>exact .qe λi a=>adB<|(ķ.1 h) _<|ò.2<|Ć a
 |_=>exact adB h
def JG(i:Ĳ):Bool:=match i.zero with
 |some z=>adC z
 |none=>Î
def arQ(h:P.types.toList.all JG=Î):qg P:=arO λt i z a b=>by have c:i∈P.types:=Ŀ a;have:=(ķ.1 h) i<|ò.2 c;unfold JG at this;rw[b]at this;exact arP this
def BQ:qg À:=arQ gG
end Go.Proofs.Y.fK
namespace Go.Proofs.Y.nz
open Go Go.Conc Go.Proofs Go.RowKit Go.Proofs.Y.Lift Go.Proofs.Y.jr Go.Proofs.Y.fK
noncomputable def nB:Nat:=À.globals.size
def sS(a:Nat->Prop)(b:Nat):Prop:=a b\/b=1\/b=2\/b=3\/b=4
def RL(b:Nat)(e:ė)(w:Ë):Prop:=∃c a,w.heap[b]?=Â (Þ c e a)/\a.2<=c.size/\a.2<=16/\0<c.size/\∀v∈c.toList,∃k n,v=Å k n
structure p9(w:Ë):Prop where
 fG:nB<=w.heap.size
 Iy:mE nB (λb=>b=1\/b=2) w
 t3:RL 3 304 w
 t4:RL 4 305 w
 adD:jr.nW w
 jN:jK w
 deb:tX w
section
variable{V:Nat->Prop}
def p9.kZ{w':Ë}(h:p9 w)(f:nB<=w'.heap.size)(k:∀b,b=1\/b=2\/b=3\/b=4->w'.heap[b]?=w.heap[b]?):p9 w':=by
 have d:∀b o,b=1\/b=2\/b=3\/b=4->w'.cell? ⟨b,o,Á⟩=w.cell? ⟨b,o,Á⟩:=λb o e=>by simp only[ã,k b e]
 refine⟨f,h.Iy.kZ λb e=>k b<|e.imp id È,?_,?_,?_,?_,?_⟩
 .let⟨c,i,a,r⟩:=h.t3;exact⟨c,i,by rwa[k 3 fB],r⟩
 .let⟨c,i,a,r⟩:=h.t4;exact⟨c,i,by rwa[k 4 fB],r⟩
 .have i:=h.adD;have r:À.globalNamed "internal/strconv.uint64pow10"=Â 1:=fF
  unfold jr.nW av af at*;rw[r]at i|-;simp only[Ķ]at i|-;rwa[k 1 fB]
 .let⟨c,g,a⟩:=h.jN.ty;refine⟨⟨c,g,by rwa[k 2 fB]⟩,λi r j=> ?_⟩;rw[d 2 _ fB,d 2 _ fB,d 2 _ fB];exact h.jN.gV i r j
 .have:=h.deb;unfold tX at*;rw[d 4 _ fB];exact this
def adE(u:mE nB X w)(x:∀b,X b->nI b=Ì)(g:p9 w):Qv (sS X) (sS X) nB w:=by
 have p:∀{a:Nat->Prop} {c:Array Ñ},(∀b,a b->sS X b)->gA (nA a nB) c c->gA (tN (sS X) nB) c c:=λ{a c} hX r=>r.ft<|Dg hX;refine⟨?_,g.fG⟩;have s:∀b e,(e=304\/e=305)->nI b=Î->RL b e w->∃c e d,w.heap[b]?=Â (Þ c e d)/\d.2<=c.size/\gA (tN (sS X) nB) c c/\(sS X b->0<c.size/\(nI b=Î->(e=304\/e=305)/\d.2<=16)/\(nI b=Ì->Hh c)):=λb e y B h=>by let⟨c,d,f,j,l,m,o⟩:=h;exact⟨c,e,d,f,j,sR λv i=>by obtain⟨k,n,rfl⟩:=o v i;exact .iL _ _,λ_=>⟨m,λ_=>⟨y,l⟩,λq=>by rw[B]at q;cases q⟩⟩
 rintro b (q|q|q|rfl|rfl)
 .let⟨c,e,d,f,j,l,m,o,_⟩:=u b q;exact⟨c,e,d,f,j,p (λ_=>È) l,λ_=>⟨m,λt=>(by rw[x b q]at t;cases t),λ_=>o⟩⟩
 .let⟨c,e,d,f,j,l,m,o,_⟩:=g.Iy b<|È q;exact⟨c,e,d,f,j,p (λi k=>k.elim (λz=>Ï<|È z) λz=>Ï<|Ï<|È z) l,λ_=>⟨m,λt=>(by rw[q]at t;cases t),λ_=>o⟩⟩
 .let⟨c,e,d,f,j,l,m,o,_⟩:=g.Iy b<|Ï q;exact⟨c,e,d,f,j,p (λi k=>k.elim (λz=>Ï<|È z) λz=>Ï<|Ï<|È z) l,λ_=>⟨m,λt=>(by rw[q]at t;cases t),λ_=>o⟩⟩
 .exact s 3 304 (È U) U g.t3
 .exact s 4 305 (Ï U) U g.t4
def sT(a:nI b=Ì\/i<16)(h:w.cell? ⟨b,i,Á⟩=Â v):(World.tp (nn V w) xQ 0).cell? ⟨b,i,Á⟩=Â v:=by
 have j:(World.tp (nn V w) xQ 0).heap[b]?=(w.heap[b]?).map (sG V b):=IV b;simp only[ã,j];simp only[ã]at h;cases g:w.heap[b]? with
 |none=>rw[g]at h;cases h
 |some k=>
  rw[g]at h;cases k with
  |cells c e m=>
   simp only[þ,sG,ü,ð,if_false]at h|-;split
   .rename_i d;split at d
    .split at d
     .rename_i l;cases d;rcases a with a|a
      .rw[l]at a;cases a
      .unfold yB;rw[Array.getElem?_extract];simp;exact⟨by have:=(Ù.1 h).1;omega,h⟩
     .cases d;exact h
    .cases d;exact h
   .rename_i f;split at f
    .split at f<;>exact absurd U<|f _ _ _
    .exact absurd U<|f _ _ _
  |_=>cases h
def adF{T:ž}(d:mE nB X w)(e:∀b,X b->nI b=Ì):jU (nA X nB) w (World.tp (nn V w) T 0):=by rintro i j o v ⟨rfl,a⟩ c;exact⟨v,sT (È<|e i a) c,d.fg a c⟩
end
def RD(s:List gE)(b:Ñ)(a:Nat->Prop)(w:Ë):Prop:=∃c,lL c=s/\ow s/\Ri b c w/\mE nB a w/\fy (nA a nB) b b
section
variable{V:Nat->Prop}{w':Ë}{s:List gE}
def adG(h:mE nB X w)(k:∀b,X b->w'.heap[b]?=w.heap[b]?):jU (nA X nB) w w':=by rintro i j o v ⟨rfl,a⟩ c;exact⟨v,by simp only[ã,k i a];exact c,h.fg a c⟩
def RD.kZ(h:RD s v X w)(k:∀b,X b->w'.heap[b]?=w.heap[b]?):RD s v X w':=by let⟨l,d,e,f,a,c⟩:=h;let⟨g,i,j⟩:=M1 (adG a k) c f;exact⟨g,i.trans d,e,j,a.kZ k,c⟩
def M5(r:Nat)(q:Qn)(w:Ë):Prop:=sQ r q.x q.y q.g q.k q.oH q.v q.v2 q.kY w
def adH{ρ:fE}(a:jU ρ u w){r:Nat}{q:Qn}(b:ρ r i)(h:M5 r q u):M5 i q w:= ⟨a.iL b h.c0,a.iL b h.c1,a.iL b h.c2,a.iL b h.c3,a.iL b h.c4,a.iL b h.c5,a.iL b h.c6,a.iL b h.c7⟩
def arR{T:ž}(g:p9 w):jr.nW (World.tp (nn V w) T 0):=by
 have a:=g.adD;have h:À.globalNamed "internal/strconv.uint64pow10"=Â 1:=fF
 unfold jr.nW av af at*;rw[h]at a|-;simp only[Ķ]at a|-;have i:(World.tp (nn V w) T 0).heap[1]?=(w.heap[1]?).map (sG V 1):=IV 1;rw[i];cases f:w.heap[1]? with
 |none=>rw[f]at a;cases a
 |some j=>
  rw[f]at a;cases j with
  |cells c e k=>
   simp only[þ,sG,nI]at a|-;split
   .rename_i b;split at b<;>(simp at b;obtain⟨rfl,_⟩:=b;exact a)
   .rename_i d;split at d
    .exact absurd U<|d _ _ _
    .exact absurd U<|d _ _ _
  |_=>cases a
def adI{T:ž}(g:p9 w):jK (World.tp (nn V w) T 0):=by
 let⟨d,h,e⟩:=g.jN.ty;refine⟨?_,λi r f=> ?_⟩
 .have a:(World.tp (nn V w) T 0).heap[2]?=(w.heap[2]?).map (sG V 2):=IV 2;rw[a,e];simp only[þ,sG,nI];split
  .exact⟨d,_,U⟩
  .exact⟨d,_,U⟩
 .let⟨a,b,c⟩:=g.jN.gV i r f;exact⟨sT (È U) a,sT (È U) b,sT (È U) c⟩
def arS{T:ž}(g:p9 w):tX (World.tp (nn V w) T 0):=sT (Ï A) g.deb
def JH{T:ž}:lN (World.tp (nn V w) T 0):=λi o h=>abI (Sh:=V) (w:=w) i o h
def arT{l:fj}{q:Qn}{r:Nat}(x:RD s v X l.w)(y:∀b,X b->l.M b)(z:mE nB V l.w)(B:∀b,V b->l.M b)(h:V r)(D:M5 r q l.w)(ok:q.Ok)(g:p9 l.w)(E:∀b,b=1\/b=2\/b=3\/b=4->l.M b)(j:∀b,X b\/V b->nI b=Ì)(m:List (Nat×gE))(F:lL m=s): IY (λg=>Be g=Î) 67 #[v,Ã<|Â ⟨r,0,Á⟩] l (sS λb=>X b\/V b) λe _=>e=Ä (BA m q):=by
 let⟨L,c,d,G,H,o⟩:=x;have t:=H.or z;refine⟨?_,adE t j g,?_,?_,λT=> ?_⟩
 .rintro b (q|q)
  .exact q.elim (y b)<|B b
  .exact E b q
 .intro b a;unfold Be at a;simp at a;exact Ï a
 .refine sR λe a=> ?_;simp at a;rcases a with rfl|rfl
  .exact o.ft<|Dg λi k=>È<|È k
  .exact fy.lB (ρ:=tN (sS λb=>X b\/V b) nB) ⟨⟨U,È<|Ï h⟩,U,U⟩
 .have a:=adF (V:=sS λb=>X b\/V b) (T:=T) t j;obtain⟨I,f,N,n,J,rfl,O,u⟩:=M1 a (o.ft<|Dg λi k=>È k) G;have i:n=(lL I).length:=by rw[u.iw];simp[lL]
  have P:=d.RF;have Q:=d.le;rw[f,c]at i;have C:=arx (cp:=J) u Z Z (λp K=> ?_) (adH a ⟨U,Ï h⟩ D) ok (adI g) (arR g)<|arS g
  .apply C.mono;rintro e W ⟨rfl,k⟩;exact⟨by rw[arB<|f.trans<|c.trans F.symm],k.iU JH⟩
  .have:p.2∈s:=by rw[<-c,<-f];exact Ý.2 ⟨p,K,U⟩
   exact(d.yK _ this).1
end
def G1(r:Nat)(v:Int)(x:Nat)(gQ:List Tx)(w:Ë):Prop:=∃a n c b,GR r v x a n c w/\GG a n b w/\nU b=gQ/\n<=1000
section
variable{V:Nat->Prop}{s:List gE}
def adJ(h:mE nB X w):∀i,X i->i<w.heap.size:=λi a=>by let⟨c,e,d,b,_⟩:=h i a;exact(Ù.1 b).1
def adK{T:ž}(f:nI b=Ì)(h:w.heap[b]?=Â (Þ d e xJ))(g:xJ.2<=d.size):∃a,(World.tp (nn V w) T 0).heap[b]?=Â (Þ d e a)/\a.2<=d.size:=by
 have i:(World.tp (nn V w) T 0).heap[b]?=(w.heap[b]?).map (sG V b):=IV b;rw[i,h];simp only[þ,sG,f,ð,if_false];split
 .exact⟨_,U,â _⟩
 .exact⟨_,U,g⟩
def arU{T:ž}(h:mE nB X w)(d:∀b,X b->nI b=Ì):mE nB X (World.tp (nn V w) T 0):=λb a=>by let⟨c,e,m,f,g,i⟩:=h b a;let⟨j,k,l⟩:=adK (V:=V) (T:=T) (d b a) f g;exact⟨c,e,j,k,l,i⟩
def arV{T:ž}(k:mE nB X w)(l:∀b,X b->nI b=Ì){r:Nat}{v:Int}{gQ:List Tx}(o:X r)(h:G1 r v i gQ w):G1 r v i gQ (World.tp (nn V w) T 0):=by
 let⟨D,n,E,F,g,p,G,H⟩:=h;have m:=l r o;refine⟨D,n,E,F,⟨sT (È m) g.c0,sT (È m) g.c5,sT (È m) g.c8⟩,⟨p.iw,λj a t q=> ?_⟩,G,H⟩;let⟨tb,I,s,u,d,J⟩:=p.gV j a t q;have y:X tb:=by have:=k.fg o g.c8;rw[s]at this;exact G0 this
 have z:=GZ<|k.fg y u;have f:=l a z;let⟨K,O,B⟩:=d.ty;let⟨c,e,P,C,L,_⟩:=k a z;rw[B]at C;cases C;obtain⟨M,N,_⟩:=adK f B L;exact⟨tb,I,s,sT (È<|l tb y) u,⟨⟨K,M,N⟩,sT (È f) d.c0,sT (È f) d.c1,sT (È f) d.c2,sT (È f) d.c3,sT (È f) d.c4,sT (È f) d.c5⟩,J⟩
def Rg(s:List gE)(v:Ñ)(u:Ë):Prop:=∃X,RD s v X u
def Rg.tp{T:ž}(h:Rg s v w):Rg s v (World.tp w T n):=by let⟨X,h⟩:=h;exact⟨X,h.kZ λ_ _=>rfl⟩
def arW{ρ:fE}{d:Nat->Prop}(h:vf ρ d u w)(a:fy ρ v x)(e:Rg s v u):∃c,RD s x c w/\∀b,c b->∃i,ρ i b:=by let⟨X,f⟩:=e;have g:RD s v X {u with tape:=w.tape,drawn:=w.drawn}:=f.kZ λ_ _=>rfl;let⟨t,j,k,l,m,n⟩:=g;let⟨o,p,q⟩:=M1 (Di h) a l;exact⟨_,⟨o,p.trans j,k,q,XJ h m,RJ a n⟩,λb ⟨i,_,r⟩=>⟨i,r⟩⟩
def arX{l:fj}{r:Nat}{gQ:List Tx}(hRD:RD s v X l.w)(hU:∀b,X b->l.M b)(N:mE nB V l.w)(hV:∀b,V b->l.M b)(O:V r)(hq:G1 r h m gQ l.w)(hx:m<8)(y:-1<=h)(XM:∀t∈gQ,t.Ok)(hn:gQ.length<=1000)(g:p9 l.w)(hG:∀b,b=1\/b=2\/b=3\/b=4->l.M b)(B:∀b,X b\/V b->nI b=Ì)(D:List (Nat×gE))(I:lL D=s): IY (λg=>Be g=Î) 66 #[v,Ã<|Â ⟨r,0,Á⟩] l (sS λb=>X b\/V b) λz u=>∃p n c,z=ï #[Æ p n c,Ä (yL D h m gQ).2]/\Rg (tY D h m gQ) (Æ p n c) u:=by
 let⟨vs,h1,E,h3,P,f⟩:=hRD;have Q:=P.or N;refine⟨?_,adE Q B g,?_,?_,λT=> ?_⟩
 .rintro b (q|q)
  .exact q.elim (hU b)<|hV b
  .exact hG b q
 .intro b z;unfold Be at z;simp at z;exact Ï z
 .refine sR λh y=> ?_;simp at y;rcases y with rfl|rfl
  .exact f.ft<|Dg λi j=>È<|È j
  .exact fy.lB (ρ:=tN (sS λb=>X b\/V b) nB) ⟨⟨U,È<|Ï O⟩,U,U⟩
 .have c:=adF (V:=sS λb=>X b\/V b) (T:=T) Q B;have VY:=arV (V:=sS λb=>X b\/V b) (T:=T) N (λb q=>B b<|Ï q) O hq;have o:=arU (V:=sS λb=>X b\/V b) (T:=T) P λb q=>B b<|È q;obtain⟨a,k1,W,n,Y,rfl,hcp,F⟩:=M1 c (f.ft<|Dg λi j=>È j) h3;obtain⟨tp,tn,tc,d,q1,q2,rfl,q4⟩:=VY;have u:=k1.trans h1;have hlen:n=s.length:=by rw[F.iw,<-u];simp[lL]
  have avJ:=E.RF;have hle:=E.le;have uF:lN (World.tp (nn (sS λb=>X b\/V b) l.w) T 0):=JH;have C:=apX F Z Z hcp (λp J=>by
   have:p.2∈s:=by rw[<-u];exact Ý.2 ⟨p,J,U⟩
   have:=(E.yK _ this).2.2.2;omega) q1 q2 q4 (adI g) hx y
  have z:tY a h m (nU d)=tY D h m (nU d):=by unfold tY;rw[adv<|u.trans I.symm,u,I]
  have H:ow (tY a h m<|nU d):=ow.tY (by rwa[u]) XM hn;have ha:=adv (u.trans I.symm) h m<|nU d;generalize World.tp (nn (sS λb=>X b\/V b) l.w) T 0=G at*;refine C.mono ?_;rintro e u' ⟨k,hA⟩;rcases hA with⟨K,rfl⟩|⟨nv,b,xh,K,rfl,e3,e4,gb,gn,gc,rfl,e6⟩
  .refine⟨⟨W,n,Y,by rw[ha],?_⟩,k.iU uF⟩;rw[<-z];have L:tY a h m (nU d)=s:=by unfold tY;rw[K,u];simp
   rw[L]at H|-;exact⟨X,a,u,H,⟨W,n,Y,U,hcp,F.fi k⟩,o.kZ λi j=>k.fu i (adJ o i j) id,f⟩
  .let⟨i,m1,m2,m3,_⟩:=arK o k (adJ o) e4 e6 λp J=>by
    let⟨j,hj⟩:=Ġ J;let⟨sb,so,f1,f2,_⟩:=F.gV j p.1 p.2 hj;have:X sb:=by rw[f1]at f;exact G0 f
    exact GZ<|o.fg this f2
   refine⟨⟨Â ⟨gb,0,Á⟩,gn,gc,by rw[ha],?_⟩,k.iU uF⟩;rw[<-z];have L:tY a h m (nU d)=lL (a++[(b,nv)]):=by unfold tY;rw[K];simp[lL]
   rw[L]at H|-;exact⟨i,_,U,H,e3,m3,fy.mP (ρ:=nA i nB) ⟨⟨U,m2⟩,U,U⟩ gn gc⟩
end
structure z8 where
 im:Nat->Int×Nat×List Tx
 qn:Nat->Qn
def G2(s:List gE):List (Nat×gE):=s.map λv=>(0,v)
def RN(s:List gE):lL (G2 s)=s:=by simp[lL,G2,Function.comp_def]
def RO(s:List gE)(i:Int×Nat×List Tx):List gE:=tY (G2 s) i.1 i.2.1 i.2.2
def uW(a:z8)(I:List Nat)(b:List gE):Nat->List gE
 |0=>b
 |k+1=>RO (uW a I b k)<|a.im<|I.getD k 0
def BB(a:z8)(kd:Nat->Int)(p:Nat)(s:List gE):ByteArray:=if kd p=1 then(yL (G2 s) (a.im p).1 (a.im p).2.1 (a.im p).2.2).2 else BA (G2 s) (a.qn p)
def jx(e:fj)(a:Nat->Prop)(c:z8)(kd:Nat->Int)(R:Nat)(d:List gE)(f:Nat->Prop):Bd where
 γ:=List gE
 s0:=d
 uu:=λk s g=>g=RO s (c.im<|(jq kd R).getD k 0)
 RD:=λs h V w=>RD s h V w/\∀b,V b->a b\/e.w.heap.size<=b
 Gr:=λp=>BB c kd p<|uW c (jq kd R) d<|gD kd p
 V0:=f
def XO{kd:Nat->Int}:∀(R k:Nat),k<(jq kd R).length->gD kd ((jq kd R).getD k 0)=k
 |0,k,h=>by simp[jq]at h
 |R+1,k,h=>by
  by_cases q:kd R=1
  .rw[F9 q]at h|-;rcases Ĕ k (jq kd R).length with z|z
   .have e:(jq kd R++[R]).getD k 0=(jq kd R).getD k 0:=by simp[ď,ċ z]
    rw[e];exact XO R k z
   .have e:k=(jq kd R).length:=by simp at h;omega
    subst e;simp[ď,gD]
  .rw[Gb q]at h|-;exact XO R k h
section
variable{y:Nat->Prop}
def RP(h:mE nB y w)(g:p9 w):∀b,y b->nI b=Ì:=λb i=>by
 let⟨c,e,m,f,_,_,_,_,j,k⟩:=h b i;cases d:nI b with
 |false=>rfl
 |true=>
  unfold nI at d;simp at d;rcases d with rfl|rfl
  .let⟨l,s6,a,_⟩:=g.t3;rw[f]at a;cases a;exact absurd U j
  .let⟨l,s6,a,_⟩:=g.t4;rw[f]at a;cases a;exact absurd U k
def arY(p:mE nB X w)(k:∀b,X b->u.heap[b]?=w.heap[b]?){r:Nat}{gQ:List Tx}(g:X r)(h:G1 r c i gQ w):G1 r c i gQ u:=by
 have d:∀{b o:Nat} {z:Ñ},X b->w.cell? ⟨b,o,Á⟩=Â z->u.cell? ⟨b,o,Á⟩=Â z:=λ{b o z} l q=>by simp only[ã,k b l];exact q
 let⟨C,n,D,E,m,s,F,G⟩:=h;refine⟨C,n,D,E,⟨d g m.c0,d g m.c5,d g m.c8⟩,⟨s.iw,λj a t q=> ?_⟩,F,G⟩;let⟨tb,H,y,B,e,I⟩:=s.gV j a t q;have l:X tb:=by have:=p.fg g m.c8;rw[y]at this;exact G0 this
 have f:=GZ<|p.fg l B;let⟨J,K,L⟩:=e.ty;exact⟨tb,H,y,d l B,⟨⟨J,K,by rwa[k a f]⟩,d f e.c0,d f e.c1,d f e.c2,d f e.c3,d f e.c4,d f e.c5⟩,I⟩
end
structure M6(l0:fj)(bt:z8)(kd:Nat->Int)(rq:Nat->Nat)(R:Nat)(Q:Nat->Prop):Prop where
 uX:p9 l0.w
 g4:∀b,b=1\/b=2\/b=3\/b=4->l0.O b
 lZ:mE nB Q l0.w
 fD:∀b,Q b->l0.O b
 M7:∀p,p<R->Q (rq p)
 lO:∀p,p<R->kd p=1->G1 (rq p) (bt.im p).1 (bt.im p).2.1 (bt.im p).2.2 l0.w/\(bt.im p).2.1<8/\-1<=(bt.im p).1/\(∀t∈(bt.im p).2.2,t.Ok)/\(bt.im p).2.2.length<=1000
 V7:∀p,p<R->kd p≠1->M5 (rq p) (bt.qn p) l0.w/\(bt.qn p).Ok
def adL{V:Nat->Prop}{l:fj}{a:Ñ->Ë->Prop}(h:IY X F d l V vQ)(b:∀v u,vQ v u->a v u):IY X F d l V a:= ⟨h.Wj,h.Wk,h.gl,h.Wl,λT=>(h.zq T).mono λe u q=>by
  cases e with
  |returned v=>exact⟨b v u q.1,q.2⟩
  |_=>exact q⟩
section
variable{l0:fj}{bt:z8}{kd:Nat->Int}{rq:Nat->Nat}{R:Nat}{Q C d:Nat->Prop}{B:List gE}{E F:Option ý}
def adM{s:List gE}(h:fK.pP ((mA (jx l0 d bt kd R B C) i n R kd rq D E F j9 j7 k m J j qX l0).ph À) b s):s=uW bt (jq kd R) B b:=by
 have c:∀(b:Nat) (s:((mA (jx l0 d bt kd R B C) i n R kd rq D E F j9 j7 k m J j qX l0).ph À).γ),fK.pP ((mA (jx l0 d bt kd R B C) i n R kd rq D E F j9 j7 k m J j qX l0).ph À) b s->s=uW bt (jq kd R) B b:=λb s h=>by
  induction h with
  |si=>rfl
  |HF _ a e=>
   rwa[e]at a
 exact c b s h
def arZ(h:M6 l0 bt kd rq R Q)(O:l0.w.heap.size<=m):IP (mA (jx l0 d bt kd R B C) i n R kd rq D E F j9 j7 k m J j qX l0):=by
 apply amH BQ abM abL U;intro a s P W l q t f x y T g G;let⟨f,V⟩:=f;have X:=y.fG m<|g m<|Ï U;have H:l0.w.heap.size<=l.w.heap.size:=Z
 have o:=G;have p:=h.uX.kZ (Í h.uX.fG H) λb c=>o b<|h.g4 b c;have r:=h.lZ.kZ λb c=>o b<|h.fD b c;have e:=Mg<|zS q;let⟨I,K⟩:=h.V7 _ e.1 e.2;have L:=adH (adG h.lZ λb c=>o b<|h.fD b c) ⟨U,h.M7 _ e.1⟩ I;refine⟨_,adL (arT f x r (λb c=>g b<|È<|h.fD b c) (h.M7 _ e.1) L K p (λb c=>g b<|È<|h.g4 b c) (λb c=>c.elim (RP (by let⟨_,_,_,_,z,_⟩:=f;exact z) p b)<|RP r p b) (G2 s)<|RN s) λv u M=> ?_⟩;rw[M];have z:=adM t;have N:(mA (jx l0 d bt kd R B C) i n R kd rq D E F j9 j7 k m J j qX l0).gq a=gD kd ((kN kd R).getD a 0):=if_pos q;rw[N]at z;show _=Ä (BB bt kd ((kN kd R).getD a 0)<|uW bt (jq kd R) B<|gD kd<|(kN kd R).getD a 0);rw[<-z];unfold BB;rw[if_neg e.2]
def ar0(h:M6 l0 bt kd rq R Q)(y:(∀b,Q b->d b)/\∀b,b=1\/b=2\/b=3\/b=4->d b)(hba:l0.w.heap.size<=m):IN (mA (jx l0 d bt kd R B C) i n R kd rq D E F j9 j7 k m J j qX l0):=by
 refine amI BQ abM abL U (λs o u=>Rg s o u) (λs o u T n q=>Rg.tp q) ?_;intro T s o W l K L g M N hq r O;let⟨g,P⟩:=g;have hs:=N.fG m<|r m<|Ï U;have G:l0.w.heap.size<=l.w.heap.size:=Z
 have t:=O;have x:=h.uX.kZ (Í h.uX.fG G) λb a=>t b<|h.g4 b a;have H:=h.lZ.kZ λb a=>t b<|h.fD b a;have I:=K;have f:=Mf<|zS I;let⟨V,X,Y,q4,q5⟩:=h.lO _ f.1 f.2;have vz:=arY h.lZ (λb a=>t b<|h.fD b a) (h.M7 _ f.1) V;have oa:=adM L;refine⟨_,adL (arX g M H (λb a=>r b<|È<|h.fD b a) (h.M7 _ f.1) vz X Y q4 q5 x (λb a=>r b<|È<|h.g4 b a) (λb a=>a.elim (RP (by let⟨_,_,_,_,z,_⟩:=g;exact z) x b)<|RP H x b) (G2 s)<|RN s) λv u hv=> ?_,?_⟩
 .obtain⟨p,z,c,rfl,hR⟩:=hv;refine⟨p,z,c,RO s<|bt.im<|(jq kd R).getD T 0,?_,U,hR⟩;have e:(mA (jx l0 d bt kd R B C) i n R kd rq D E F j9 j7 k m J j qX l0).vn (T+1)=BB bt kd ((jq kd R).getD T 0) (uW bt (jq kd R) B<|gD kd<|(jq kd R).getD T 0):=U;rw[e,XO R T I,<-oa];unfold BB;rw[if_pos f.2]
 .intro ρ Sh u w s' sl1 Gt e p h3 h4;let⟨V',k1,c⟩:=arW e p h3;refine⟨V',⟨k1,λb a=> ?_⟩,c⟩;let⟨z,hi⟩:=c b a;rcases h4 z b hi with((q|q)|q)|q
  .exact P b q
  .exact È<|y.1 b q
  .exact È<|y.2 b q
  .exact Ï<|Í G q
end
section
variable{R:Nat}{kd:Nat->Int}{o:Nat->Nat}{r:List ĝ}{l:fj}{u:Nat->fj}{bt:z8}{j f:Nat->Prop}{s0:List gE}
def ar1{s:List gE}(h:CO (jx l f bt kd R s0 j) k s):s=uW bt (jq kd R) s0 k:=by
 have b:∀(k:Nat) (s:(jx l f bt kd R s0 j).γ),CO (jx l f bt kd R s0 j) k s->s=uW bt (jq kd R) s0 k:=λk s h=>by
  induction h with
  |si=>rfl
  |HF _ a c=>
   rwa[c]at a
 exact b k s h
structure Dj(f:Nat->Prop)(bt:z8)(R:Nat)(kd:Nat->Int)(s0:List gE)(l:fj)(an:Nat)(sl:Ñ)(l':fj):Prop where
 fi:∀b,l.O b->l'.O b/\l'.w.heap[b]?=l.w.heap[b]?
 iG:l'.O an/\∀p,p<R->l'.w.cell? ⟨an,p,Á⟩=Â (Ä<|BB bt kd p<|uW bt (jq kd R) s0<|gD kd p)
 CM:∃V,RD (uW bt (jq kd R) s0<|gD kd R) sl V l'.w/\∀b,V b->l'.O b/\(f b\/l.w.heap.size<=b)
 d:l'.d=0
 q:¬l'.q
 rd:∀b,¬l'.Rd b
 kq:(∀a,¬l'.Oc a)/\(∀a,¬l'.Rc a)/\∀a,¬l'.K a
 kJ:l'.w.cell? ⟨an,R,Á⟩=Á/\mS l'.w an=Â (0,0)
def ar2{a:fj}(h:Kw (jx l f bt kd R s0 j) R kd l i v a):Dj f bt R kd s0 l i v a:=by let⟨s,V,g,c,k⟩:=h.CM;have e:=ar1 g;subst e;exact⟨h.fi,h.iG,⟨V,c.1,λb q=>⟨k b q,c.2 b q⟩⟩,h.d,h.q,h.rd,h.kq,h.kJ⟩
def ar3{J:(Loc->Prop)->Nat->Jd}{F:ĝ}(P:qX=F.at y (Ð Q (j9::jJ)::L)::r)(c:fK.vV À zX i (Qo kd o R n v l qX) .fO D u E w qJ)(C:Option (Nat×Nat))(s:ic l)(W:∀b,¬l.Rd b)(Y:¬l.q)(hd:l.d=0)(RR:zU zX i l)(H:M6 l bt kd o R X)(hZ:(∀b,X b->f b)/\∀b,b=1\/b=2\/b=3\/b=4->f b)(I:∀b,f b->l.O b)(K:∀b,j b->f b)(Gs:RD s0 v j l.w)(Bb:w.os=l.w.os/\w.output=l.w.output)(hn:1<=n)(hs:n+R<1000) (hJ:∀t x z B p m c,zU t x z->ic z->Dj f bt R kd s0 l B (Æ p m c) z->fK.fA À Î (J t x) z (G (F.at (y.put ((Q[j9]?).bind (·.dst))<|ï #[Æ (Â ⟨B,0,Á⟩) R R,Æ p m c])<|Ð Q jJ::L) r)): ∃N t x T V Mh g e xh h,Η À N (ĸ E w C) qJ=(.next<|ĸ g e xh,h)/\(e.os=l.w.os/\e.output=l.w.output)/\fK.vV À t x (J t x) T V Mh g e h:= amA (M:=jx l f bt kd R s0 j) P c C s W Y hd RR (λb q=>I b<|K b q) (λs C V w e h L=>⟨h.1.kZ L,h.2⟩) (λs C V w h=>⟨by let⟨_,_,_,⟨g,n,N,e,_⟩,_⟩:=h.1;exact⟨g,n,N,e⟩,λb q=>(h.2 b q).imp (I b) id⟩) ⟨Gs,λb h=>È<|K b h⟩ Bb hn hs (λg N V T cq B ba bi all e=>⟨ar0 H hZ e,arZ H e⟩) λt x z B p m c e g N=>hJ t x z B p m c e g<|ar2 N
end
end Go.Proofs.Y.nz
namespace Go.Proofs.Y.xq
open Go Go.Proofs Go.RowKit Go.Proofs.Y.Lift Go.Proofs.Y.jr
def j0(c:Int):Bool:=decide (48<=c)&&decide (c<=57)
def wx(c:Int):Bool:=decide (97<=c)&&decide (c<=104)
def BD(c:Int):Int:=
 if c=105 then 1 else if c=103 then 2 else if c=98 then 3 else if c=99 then 4 else if c=109 then 5
 else if c=114 then 6 else if c=108 then 7 else if c=117 then 8 else if c=100 then 9 else 0
def RU(c:Int):Int:=if c=62 then 1 else if c=123 then 2 else if c=58 then 3 else 0
def ar4(h:48<=c/\c<=57):j0 c=Î:=by simp[j0,h]
def JJ(c:Int):j0 c=Î↔(48<=c/\c<=57):=by simp[j0]
def ar5(c:Int):wx c=Î↔(97<=c/\c<=104):=by simp[wx]
def Aa(k:Int):List Int:=
 if k=1 then[86,58,120,47,66]else if k=2 then[86,58,120,115]else if k=3 then[86,58,120]
 else if k=4 then[86,58,120,62,121,40,110,44,107,41]else if k=5 then[86,58,120,62,121,40,107,41]
 else if k=9 then[86,58,87]else[86]
def Ab(k:Int):List Int:=
 if k=1 then[121,61,110]else if k=2 then[80]else[121,40,110,44,107,41]
def tZ(a c:Int):Bool:=
 if a=86\/a=87 then c==104||j0 c
 else if a=110\/a=107 then j0 c
 else if a=120\/a=121 then wx c
 else if a=115 then j0 c||(decide (97<=c)&&decide (c<=102))
 else c==a
def wy(a c:Int):Int:=
 if c=48\/j0 c=Ì then 0
 else if a=86\/a=87 then 1
 else if a=110\/a=107 then 5
 else 0
def lA(s:ByteArray):List Int:=s.data.toList.map λc=>((c.toNat:Nat):Int)
def ar6(B:ByteArray)(k:Nat)(h:k<B.size):(lA B).drop k=((B[k].toNat:Nat):Int)::(lA B).drop (k+1):=by
 have a:k<(lA B).length:=by simpa[lA]using h
 rw[List.drop_eq_getElem_cons a];congr 1;simp[lA,Ē]
def XP(B:ByteArray):(lA B).length=B.size:=by unfold lA;rw[í,Č];rfl
def Ac(s:ByteArray)(h:0<s.size):lA s=((s[0].toNat:Nat):Int)::(lA s).tail:=by have:=ar6 s 0 h;rw[List.drop_zero]at this;rw[this];simp
def adN(s:ByteArray)(h:s.size=0):lA s=[]:=by apply Ó;rw[XP,h]
def ar7(s:ByteArray):lA (s.extract 1 s.size)=(lA s).tail:=by unfold lA;rw[Ļ,ń,<-List.map_tail];congr 1;rw[İ,<-List.drop_one];apply List.take_of_length_le;simp[<-ψ]
def ar8(s:ByteArray)(h:s.size<=10):(s.extract 1 s.size).size<=10:=by rw[ĕ];omega
def ar9(a c:Int):0<=wy a c/\wy a c<=5:=by
 unfold wy;split
 .omega
 .split
  .omega
  .split<;>omega
structure PT where
 c:List Int
 p:ByteArray
structure PR where
 c:List Int
 tx:List PT
structure PD where
 rs:List PR
 on:Bool
 kG:PR
 ll:Bool
 tx:PT
structure PS where
 iY:List Int
 fV:Int
 jC:Int
 kH:Int
 d:PD
namespace PD
def gQ(d:PD):List PT:=if d.ll then d.kG.tx++[d.tx]else d.kG.tx
def fL(d:PD):List PR:=if d.on then d.rs++[⟨d.kG.c,d.gQ⟩]else d.rs
def qC(d:PD)(i:Nat)(z:Int):PD:={d with kG:={d.kG with c:=d.kG.c.set i z}}
def wz(d:PD)(i:Nat)(z:Int):PD:={d with tx:={d.tx with c:=d.tx.c.set i z}}
def lS(d:PD)(i:Nat)(z:Int):PD:=if d.ll then d.wz i z else d.qC i z
def iN(d:PD)(p:ByteArray):PD:={d with tx:={d.tx with p:=p}}
def JG:PT:=⟨[0,0,0,0,0],⟨#[]⟩⟩
def adO(k:Int):PR:=⟨[0,0,0,0,k,0,0,0],[]⟩
def xr(d:PD):PD:={d with kG:=⟨d.kG.c,d.gQ⟩,ll:=Î,tx:=JG}
def JK(d:PD)(k:Int):PD:={rs:=d.fL,on:=Î,kG:=adO k,ll:=Ì,tx:=d.tx}
def gS(d:PD)(a z:Int):PD:=
 if a=86 then d.qC 5 z else if a=87 then d.qC 6 z else if a=120 then d.lS 0 z else if a=121 then d.lS 1 z
 else if a=110 then d.lS 2 z else if a=107 then d.lS 3 z else if a=115 then d.qC 7 z else d
def BF(d:PD)(i:Nat):Int:=if d.ll then d.tx.c.getD i 0 else d.kG.c.getD i 0
def mQ(d:PD)(a:Int):Int:=if a=86 then d.kG.c.getD 5 0 else if a=87 then d.kG.c.getD 6 0 else if a=110 then d.BF 2 else d.BF 3
end PD
def qD(a c:Int):Int:=
 if a=120\/a=121 then á [97,98,99,100,101,102,103,104] c.toNat.toUInt8
 else if a=115 then á [48,49,50,51,52,53,54,55,56,57,97,98,99,100,101,102] c.toNat.toUInt8
 else if c=104 then-1 else(c-48)%256
def xt(z c:Int):Int:=É.wrap<|É.wrap (z*10)+(c-48)%256
def yR(st:PS)(c:Int):Option PS:=
 if c=59/\st.d.rs.length+1<24 then Â {st with iY:=[82]}
 else if c=44/\0<st.d.gQ.length/\st.d.gQ.length<8 then Â {st with iY:=[120,84],d:=st.d.xr}
 else Á
def Dk(st:PS)(k:Int):Option PS:=if k=0 then Á else Â {st with iY:=Aa k,d:=st.d.JK k}
def Dl(st:PS)(k:Int):Option PS:=if k=0 then Á else Â {st with iY:=Ab k,jC:=0,d:=st.d.wz 4 k}
def sU(st:PS)(a c:Int):PS:={st with fV:=wy a c,kH:=a,d:=st.d.gS a (qD a c)}
def ou(B:ByteArray)(k:Nat)(st:PS)(c:Int):Option PS:=
 match st.iY with
 |[]=>yR st c
 |want::tl=>
  if want=82 then Dk st (BD c)
  else if want=66 then
   if wx c=Î then Â (sU {st with iY:=[84],d:=st.d.xr} 120 c)else yR st c
  else if want=84 then Dl st (RU c)
  else if want=80 then
   if c=125 then Â {st with iY:=tl,d:=st.d.iN (B.extract (k-st.jC.toNat) k)}
   else if st.jC=40\/nT c=0 then Á else Â {st with jC:=st.jC+1}
  else if tZ want c=Î then Â {sU st want c with iY:=tl}
  else Á
def M8(st:PS)(c:Int):PS:={st with fV:=st.fV-1,d:=st.d.gS st.kH (xt (st.d.mQ st.kH) c)}
def yS(B:ByteArray)(k:Nat)(st:PS)(c:Int):Option PS:=
 if 0<st.fV/\j0 c=Î then Â (M8 st c)else ou B k {st with fV:=0} c
def xu(B:ByteArray):Nat->Nat->PS->Nat×PS
 |0,k,st=>(k,st)
 |f+1,k,st=>if h:k<B.size then match yS B k st (B[k].toNat:Int)with
  |none=>(k,st)
  |some a=>xu B f (k+1) a
  else(k,st)
def pd0:PD:=⟨[],Ì,⟨[],[]⟩,Ì,⟨[],⟨#[]⟩⟩⟩
def xv:PS:=⟨[82],0,0,0,pd0⟩
def wA(c:Int)(w:Ë): Ò À 94 #[Å Ų c] w λe a=>e=Ç (û<|j0 c)/\a=w:=by
 go_enter Tryz.func94,Tryz.ntmps94;go_wp2;all_goals go_ret
 all_goals exact⟨abR (by simp only[j0];first|(simp[*];done)|(rw[ģ];simp;omega)),U⟩
def asa(s:ByteArray)(c:Int)(w:Ë): Ò À 167 #[Ä s,Å Ų c] w λe a=>e=Ç (Å É<|á s.data.toList c.toNat.toUInt8)/\a=w:=by go_enter Tryz.func167,Tryz.ntmps167;go_wp2;rw[run_callFunc_extern Tryz.func185 fF fF fF fF,Lib.run_indexByteString];simp only[ź];rw[Oper.upon_value];go_wp2;go_ret;exact⟨U,U⟩
def M9(s:ByteArray)(c:Int)(w:Ë): Ò À 146 #[Ä s,Å Ų c] w λe a=>e=Ç (Å É<|á s.data.toList c.toNat.toUInt8)/\a=w:=by go_enter Tryz.func146,Tryz.ntmps146;go_wp2_with (go_at_call 167;refine(asa _ _ _).mono ?_;rintro e a ⟨rfl,rfl⟩);go_ret;exact⟨U,U⟩
def RV(c:Int):Bool:=j0 c||(decide (97<=c)&&decide (c<=102))
def asb:∀n:Fin 256,decide (0<=á [97,98,99,100,101,102,103,104] n.val.toUInt8)=wx (n.val:Int):=by decide+kernel
def asc:∀n:Fin 256,decide (0<=á [48,49,50,51,52,53,54,55,56,57,97,98,99,100,101,102] n.val.toUInt8)=RV (n.val:Int):=by decide+kernel
def ase(a:0<=c)(b:c<256):decide (0<=á [97,98,99,100,101,102,103,104] c.toNat.toUInt8)=wx c:=by have:=asb ⟨c.toNat,Z⟩;rwa[show((c.toNat:Nat):Int)=c from by omega]at this
def asf(a:0<=c)(b:c<256):decide (0<=á [48,49,50,51,52,53,54,55,56,57,97,98,99,100,101,102] c.toNat.toUInt8)=RV c:=by have:=asc ⟨c.toNat,Z⟩;rwa[show((c.toNat:Nat):Int)=c from by omega]at this
def XQ(c:Int)(b:0<=c)(d:c<256)(w:Ë): Ò À 98 #[Å Ų c] w λe a=>e=Ç (û<|wx c)/\a=w:=by
 have f:=ase b d;go_enter Tryz.func98,Tryz.ntmps98;go_wp2_with (go_at_call 146;refine(M9 _ _ _).mono ?_;rintro e a ⟨rfl,rfl⟩);all_goals go_ret
 all_goals exact⟨U,U⟩
def asg(c:Int)(b:0<=c)(d:c<256)(w:Ë): Ò À 149 #[Å Ų c] w λe a=>e=Ç (û<|RV c)/\a=w:=by
 have f:=asf b d;go_enter Tryz.func149,Tryz.ntmps149;go_wp2_with (go_at_call 146;refine(M9 _ _ _).mono ?_;rintro e a ⟨rfl,rfl⟩);all_goals go_ret
 all_goals exact⟨U,U⟩
def ash(c:Int)(w:Ë): Ò À 102 #[Å Ų c] w λe a=>e=Ç (Å É<|RU c)/\a=w:=by
 go_enter Tryz.func102,Tryz.ntmps102;go_wp2;all_goals go_ret
 all_goals refine⟨I1 ?_,U⟩
 all_goals simp only[beq_iff_eq,beq_eq_false_iff_ne,ne_eq]at*
 all_goals simp[RU, *]
def asi(c:Int)(w:Ë): Ò À 97 #[Å Ų c] w λe a=>e=Ç (Å É<|BD c)/\a=w:=by
 go_enter Tryz.func97,Tryz.ntmps97;go_wp2;all_goals go_ret
 all_goals refine⟨I1 ?_,U⟩
 all_goals simp only[beq_iff_eq,beq_eq_false_iff_ne,ne_eq]at*
 all_goals simp[BD, *]
def adP(b c:Int)(d:0<=c)(f:c<256)(w:Ë): Ò À 104 #[Å Ų b,Å Ų c] w λe a=>e=Ç (û<|tZ b c)/\a=w:=by
 go_enter Tryz.func104,Tryz.ntmps104;go_wp2_with (first|(go_at_call 94;refine(wA _ _).mono ?_;rintro e a ⟨rfl,rfl⟩)|(go_at_call 98;refine(XQ _ d f _).mono ?_;rintro e a ⟨rfl,rfl⟩)|(go_at_call 149;refine(asg _ d f _).mono ?_;rintro e a ⟨rfl,rfl⟩));all_goals go_ret
 all_goals refine⟨abR ?_,U⟩
 all_goals try go_light
 all_goals simp only[beq_iff_eq,beq_eq_false_iff_ne,ne_eq]at*
 all_goals unfold tZ
 all_goals first|(simp[RV, *];done)|(rw[ģ];simp[*];done)|(rw[ģ];simp[*];omega)
def asj(k:Int)(w:Ë): Ò À 145 #[Å É k] w λe a=>(∃b:ByteArray,e=Ç (Ä b)/\b.size<=10/\lA b=Aa k)/\a=w:=by
 go_enter Tryz.func145,Tryz.ntmps145;go_wp2;all_goals go_ret
 all_goals refine⟨⟨_,U,?_,?_⟩,U⟩
 all_goals try go_light
 all_goals simp only[beq_iff_eq,beq_eq_false_iff_ne,ne_eq]at*
 all_goals first|(simp[lA,Aa, *];done)|decide
def asl(k:Int)(w:Ë): Ò À 148 #[Å É k] w λe a=>(∃b:ByteArray,e=Ç (Ä b)/\b.size<=10/\lA b=Ab k)/\a=w:=by
 go_enter Tryz.func148,Tryz.ntmps148;go_wp2;all_goals go_ret
 all_goals refine⟨⟨_,U,?_,?_⟩,U⟩
 all_goals try go_light
 all_goals simp only[beq_iff_eq,beq_eq_false_iff_ne,ne_eq]at*
 all_goals first|(simp[lA,Ab, *];done)|decide
def pF(m s:Nat):Ñ->Prop
 |Å Ų _=>False
 |Å _ _=>True
 |û _=>True
 |Ä _=>True
 |Ã Á=>True
 |Ã (Â a)=>m<=a.block/\a.block<s
 |Æ Á _ _=>True
 |Æ (Â a) _ _=>m<=a.block/\a.block<s
 |_=>False
def pF.ft(h:pF m i v)(d:i<=n):pF m n v:=by
 cases v with
 |int k b=>cases k<;>exact h
 |pointer a=>cases a with
  |none=>trivial
  |some a=>exact⟨h.1,Ī h.2 d⟩
 |slice a b c=>cases a with
  |none=>trivial
  |some a=>exact⟨h.1,Ī h.2 d⟩
 |_=>exact h
def RY(m s:Nat)(o:Obj):Prop:=∃c e a,o=Þ c e a/\a.2<=c.size/\0<c.size/\e≠304/\e≠305/\∀v∈c.toList,pF m s v
def kQ(m:Nat)(w:Ë):Prop:=∀i o,m<=i->w.heap[i]?=Â o->RY m w.heap.size o
section
variable{w':Ë}
def RY.ft{o:Obj}(h:RY m i o)(a:i<=n):RY m n o:=by let⟨c,e,b,d,f,g,j,k,l⟩:=h;exact⟨c,e,b,d,f,g,j,k,λv p=>(l v p).ft a⟩
def kQ.jy(w:Ë):kQ w.heap.size w:=λi o a h=>by rw[æ a]at h;cases h
def kQ.gi(h:kQ m w):kQ m w.drew:=h
def kQ.iA(h:kQ m w)(n:Nat):kQ m (w.drewN n):=h
def kQ.gT(h:kQ m w)(cs:Array Ñ)(t:ė)(c:0<cs.size)(b:t≠304/\t≠305)(d:∀v∈cs.toList,pF m w.heap.size v):kQ m (w.alloc<|Þ cs t):=by
 intro i o f a;have k:(w.alloc<|Þ cs t).heap.size=w.heap.size+1:=fB
 by_cases e:i<w.heap.size
 .rw[Ũ _ _ _ e]at a;exact(h i o f a).ft Z
 .by_cases g:i=w.heap.size
  .subst g;rw[Ż]at a;cases a;exact⟨cs,t,(0,0),U,Ú _,c,b.1,b.2,λv j=>(d v j).ft Z⟩
  .rw[æ Z]at a;cases a
def kQ.iB(h:kQ m w)(p:ý)(l:pF m w.heap.size v):kQ m (w.setCell p v):=by
 intro i o f a;have n:(w.setCell p v).heap.size=w.heap.size:=fB
 rw[n];by_cases e:i=p.block
 .subst e;unfold Δ at a;simp only[ŀ,if_true]at a;cases d:w.heap[p.block]? with
  |none=>rw[d]at a;cases a
  |some x=>
   rw[d]at a;obtain⟨c,e,r,rfl,g,j,s,t,k⟩:=h _ _ f d;simp only[þ,Õ]at a;subst a;refine⟨_,e,r,U,?_,?_,s,t,λu b=> ?_⟩
   .split
    .exact g
    .rwa[ĵ]
   .split
    .exact j
    .rwa[ĵ]
   .split at b
    .exact k u b
    .rw[Array.toList_setIfInBounds]at b;rcases ı b with q|q
     .exact k u q
     .rwa[q]
 .rw[ī _ _ _ _ (by simpa using e)]at a;exact h i o f a
def asn{ty:ė}{bytes base:Nat}(B:P.underlying t=Â (.slice e))(C:P.info? e=Â zJ)(J:zJ.zero=Â (Ã Á)) (y:zJ.size=1) (K:zJ.bytes=bytes) (f:w.ownsRow base e 1 v n l) (a:ý) (c:Nat) (D:∀j O,[z][j]?=Â O->w.cell? (a.add j)=Â O) (Q:z.oneCell'=Î) (T:n+1<=Ě) (L:(n+1)*bytes<=140737488355328) (Bl:base<=w.heap.size) (hfl:oD e=Ì) (hm:m<=base) (E:kQ m w) (V:pF m w.heap.size z) (he:e≠304/\e≠305): ∃s w',(Ģ #[t,t] ty #[v,Æ (Â a) 1 c]).run P w=.ok s w'/\tO w base e 1 v n l 1 [z] s w'/\kQ m w'/\pF m w'.heap.size s:=by
 obtain⟨s,w',h,F⟩:=Wo B C J y K U f a c [z] Z U D (λx b=>by simp at b;subst b;exact Q) T L Bl<|È hfl;have hgv:pF m w'.heap.size s:=by
  obtain⟨p,o,rfl⟩:=kX F.fD;cases p with
  |none=>trivial
  |some p=>
   have k:=F.fD.lt p.block (by rcases F.fD.2 with⟨q,_⟩|⟨g,r,d,q,_⟩<;>(cases q;try rfl));exact⟨Z,k.2⟩
 refine⟨s,w',h,F,?_,hgv⟩;have G:[z].length=1*zJ.size:=by rw[y];rfl
 have hlx:l.length=n*zJ.size:=by rw[y];exact f.1
 have am1:n+1<=9223372036854775807:=by simp only[Ě]at T;omega
 have K8:∀x∈l,pF m w.heap.size x:=λx b=>by
  rcases f.2 with⟨_,rfl⟩|⟨g,r,d,rfl,hbg,p,hnc,hcm,W,X⟩
  .have:=f.1;rw[Nat.zero_mul]at this;rw[Ó this]at b;cases b
  .let⟨c2,e2,s6,M,_,_,_,_,H⟩:=E g _ Z p;cases M;exact H x<|Ņ<|by rwa[X]
 have Y:∀old,kQ m (w.drew.alloc<|Þ (l.toArray++[z].toArray++au (Ń<|Ã Á) (grownCap w (n+1) old e-(n+1))) e):=λold=>by
  refine kQ.gT E _ _ (by simp;omega) he λx b=> ?_;simp only[Array.toList_append,à]at b;rcases b with(b|b)|b
  .exact K8 x b
  .simp at b;subst b;exact V
  .have:=Wn b;simp[Ń]at this;subst this;trivial
 rcases f.2 with⟨rfl,rfl⟩|⟨g,r,d,rfl,hbg,p,hnc,hcm,W,X⟩
 .have b:=Ó (by simpa using f.1);subst b;have q:=run_append_nil w t ty e zJ (Ã Á) B C J a 1 c [z] G D Z Z (by rw[K];have k:=L;simp only[Ė]at k;omega);rw[q]at h;have k:=Y 0;simp only[Ė,List.toArray]at k;cases h;simpa using k
 .by_cases Uz:n+1<=r
  .have Wp:n*zJ.size+[z].length<=d.size:=by rw[G,W,y];omega
   have q:=run_append_room w t ty e zJ B C g n r d p a 1 c [z] G D (λx b=>by simp at b;subst b;exact Q) Uz Wp;rw[q]at h;cases h;have LP:=setRow_heap w g d (d.toList.take (n*zJ.size)++[z]++d.toList.drop (n*zJ.size+[z].length)).toArray e _ p;have aso:=λk (N:k≠g)=>setRow_other w g k (d.toList.take (n*zJ.size)++[z]++d.toList.drop (n*zJ.size+[z].length)).toArray N;let⟨c2,e2,s6,M,q2,q3,q4,q5,H⟩:=E g _ Z p;cases M;intro k o N I;have kV:(w.setRow g (d.toList.take (n*zJ.size)++[z]++d.toList.drop (n*zJ.size+[z].length)).toArray).heap.size=w.heap.size:=fB
   rw[kV];by_cases e3:k=g
   .subst e3;rw[LP]at I;cases I;refine⟨_,_,_,U,fB,(by simp;omega),q4,q5,λx b=> ?_⟩;simp only[à]at b;rcases b with(b|b)|b
    .exact H x<|Ņ b
    .simp at b;subst b;exact V
    .exact H x<|List.mem_of_mem_drop b
   .rw[aso k e3]at I;exact E k o N I
  .have k:w.ownsRow base e zJ.size (Æ (Â ⟨g,0,Á⟩) n r) n l:=by rwa[y]
   have q:=run_append_grow w t ty e zJ (Ã Á) B C J ⟨g,0,Á⟩ n r l hlx (k.cells U) a 1 c [z] G D Z Z (by rw[K];exact growslice_fits Z L);rw[q]at h;cases h;exact Y r
def adQ{f:Array Ĩ}{E:Prop}{base:Nat} (k:o.guard=Á) (s x:Operand) (t:ė) (p:o.op=Op.call {callee:=Callee.builtin χ,args:=#[s,x],argTypes:=#[t,t]}) {bytes:Nat} (q:P.underlying t=Â (.slice e)) (r:P.info? e=Â zJ) (B:zJ.zero=Â (Ã Á)) (C:zJ.size=1) (D:zJ.bytes=bytes) (F:y.eval s=v) (G:w.ownsRow base e 1 v n l) (ad:ý) (H:y.eval x=Æ (Â ad) 1 b) (I:∀j g,[z][j]?=Â g->w.cell? (ad.add j)=Â g) (J:z.oneCell'=Î) (L:n+1<=Ě) (M:(n+1)*bytes<=140737488355328) (N:base<=w.heap.size) (O:oD e=Ì) (T:m<=base) (V:kQ m w) (W:pF m w.heap.size z) (X:e≠304/\e≠305) (h:∀d w',tO w base e 1 v n l 1 [z] d w'->kQ m w'->pF m w'.heap.size d->K (y.put o.dst d) w'): if Ĝ o (Ρ f y.tmps)=Î then Oper.wp P o y w K vJ else E:=by
 have Y:Ĝ o (Ρ f y.tmps)=Î:=by simp[Ĝ,k]
 rw[if_pos Y];let⟨d,w',hr,h2,h3,h4⟩:=asn (ty:=o.type) q r B C D G ad b I J L M N O T V W X;unfold Oper.wp;simp[Ť,p,ai,aF,aj,F,H,hr,ź];exact h d w' h2 h3 h4
end
def qa(l:List Nat):List Ñ:=l.map λa=>Ã<|Â ⟨a,0,Á⟩
def qZ(l:List Int):List Ñ:=l.map λz=>Å É z
def JL(p:PT):List Ñ:=qZ p.c++[Ä p.p]
def G3(c:List Int)(a:Ñ):List Ñ:=qZ c++[a]
structure rW(lo hi:Nat)(tb:List Nat)(l:List PT)(w:Ë):Prop where
 iw:tb.length=l.length
 gV:∀(j a:Nat) (p:PT),tb[j]?=Â a->l[j]?=Â p->lo<=a/\a<hi/\p.c.length=5/\fw a (JL p) 200 w
structure Ad(B q:Nat)(r:PR)(w:Ë):Prop where
 lt:q<B
 iw:r.c.length=8
 gV:∃vb tb,fw q (G3 r.c vb) 161 w/\w.ownsRow 0 149 1 vb tb.length (qa tb)/\(∀j,vb.ownBlock=Â j->j<B)/\rW 0 B tb r.tx w
structure sV(B:Nat)(qs:List Nat)(rs:List PR)(w:Ë):Prop where
 iw:qs.length=rs.length
 gV:∀(j q:Nat) (r:PR),qs[j]?=Â q->rs[j]?=Â r->Ad B q r w
section
variable{w':Ë}{lo hi B q:Nat}{tb qs:List Nat}{l:List PT}{r:PR}{rs:List PR}
def rW.fi(h:rW lo hi tb l w)(k:ff X w w')(f:∀a c g,lo<=a->a<hi->w.heap[a]?=Â (Þ c 200 g)->¬X a):rW lo hi tb l w':= ⟨h.iw,λj a p i m=>by let⟨b,d,n,e⟩:=h.gV j a p i m;exact⟨b,d,n,e.fi k<|f a _ _ b d e⟩⟩
def rW.ft(h:rW lo hi tb l w)(f:i<=lo)(g:hi<=n):rW i n tb l w:= ⟨h.iw,λj a p b c=>by let⟨k,m,d,e⟩:=h.gV j a p b c;exact⟨Z,Z,d,e⟩⟩
def rW.mX(lo hi:Nat)(w:Ë):rW lo hi [] [] w:=⟨U,λj a p h=>by cases h⟩
def JN{α:Type}{l:List α}{a x:α}(h:(l++[a])[j]?=Â x):l[j]?=Â x\/j=l.length/\x=a:=by
 rcases Nat.lt_trichotomy j l.length with e|e|e
 .rw[ċ e]at h;exact È h
 .subst e;simp at h;exact Ï ⟨U,h.symm⟩
 .rw[ľ (by simp;omega)]at h;cases h
def rW.XR{p:PT}(h:rW lo hi tb l w)(d:lo<=i)(g:i<hi)(k:p.c.length=5)(m:fw i (JL p) 200 w):rW lo hi (tb++[i]) (l++[p]) w:=by
 refine⟨by simp[h.iw],λj x y n b=> ?_⟩;rcases JN n with e|⟨e,rfl⟩
 .rcases JN b with f|⟨f,rfl⟩
  .exact h.gV j x y e f
  .have:=(Ö.1 e).1;have:=h.iw;omega
 .rcases JN b with f|⟨f,rfl⟩
  .have:=(Ö.1 f).1;have:=h.iw;omega
  .exact⟨d,g,k,m⟩
def XS(B:Nat)(w:Ë)(i:Nat):Prop:=B<=i\/∃c T a,w.heap[i]?=Â (Þ c T a)/\(T=153\/T=148)
def XT(e:XS B w i)(hi:i<B)(h:w.heap[i]?=Â (Þ d T xJ))(a:T≠153/\T≠148):False:=by
 rcases e with q|⟨g,j,s6,b,f⟩
 .omega
 .rw[h]at b;cases b;rcases f with rfl|rfl
  .exact a.1 U
  .exact a.2 U
def Ad.fi(h:Ad B q r w)(k:ff X w w')(b:∀i,i<w.heap.size->X i->XS B w i):Ad B q r w':=by let⟨n,tb,d,e,f,o⟩:=h.gV;refine⟨h.lt,h.iw,n,tb,d.fi k λx=>XT (b q d.lt x) h.lt d A,je e k λj g x=> ?_,f,o.fi k λa c s _ p l x=>XT (b a (Ù.1 l).1 x) p l A⟩;let⟨t,m⟩:=nS e g;exact XT (b j (Ù.1 m).1 x) (f j g) m A
def Ad.ft(h:Ad B q r w)(a:B<=i):Ad i q r w:=by let⟨b,tb,c,d,e,f⟩:=h.gV;exact⟨by have:=h.lt;omega,h.iw,b,tb,c,d,λj g=>by have:=e j g;omega,f.ft (â _) a⟩
def sV.fi(h:sV B qs rs w)(k:ff X w w')(a:∀i,i<w.heap.size->X i->XS B w i):sV B qs rs w':= ⟨h.iw,λj q r b c=>(h.gV j q r b c).fi k a⟩
def sV.XR(h:sV B qs rs w)(b:B<=i)(c:Ad i q r w):sV i (qs++[q]) (rs++[r]) w:=by
 refine⟨by simp[h.iw],λj x y d a=> ?_⟩;rcases JN d with e|⟨e,rfl⟩
 .rcases JN a with f|⟨f,rfl⟩
  .exact(h.gV j x y e f).ft b
  .have:=(Ö.1 e).1;have:=h.iw;omega
 .rcases JN a with f|⟨f,rfl⟩
  .have:=(Ö.1 f).1;have:=h.iw;omega
  .exact c
def sV.mX(B:Nat)(w:Ë):sV B [] [] w:=⟨U,λj q r h=>by cases h⟩
end
structure Gh where
 qs:List Nat
 q:Nat
 t:Nat
 B:Nat
 tb:List Nat
 vr:Ñ
 vb:Ñ
 tx:Option ý
namespace Gh
def pe(g:Gh)(d:PD):List Nat:=if d.on then g.qs++[g.q]else g.qs
def mN(g:Gh)(d:PD):List Nat:=if d.ll then g.tb++[g.t]else g.tb
def Ae(g:Gh)(d:PD):Option ý:=if d.on then Â ⟨g.q,0,Á⟩else Á
def Af(g:Gh)(d:PD):Option ý:=if d.ll then Â ⟨g.t,0,Á⟩else g.tx
def ua(g:Gh)(d:PD):Nat:=if d.ll then g.t else g.q
def Dm(g:Gh)(d:PD):Option ý:=if d.on then Â ⟨g.ua d,0,Á⟩else Á
def G4(g:Gh)(d:PD)(a:Int):ý:=if a=86 then⟨g.q,5,Á⟩else if a=87 then⟨g.q,6,Á⟩else if a=110 then⟨g.ua d,2,Á⟩else⟨g.ua d,3,Á⟩
end Gh
structure Ag(m:Nat)(g:Gh)(d:PD)(w:Ë):Prop where
 mB:m<=g.B
 Bq:g.B<=g.q
 iw:d.kG.c.length=8
 fu:fw g.q (G3 d.kG.c g.vb) 161 w
 jf:w.ownsRow g.B 149 1 g.vb (g.mN d).length (qa<|g.mN d)
 gQ:rW g.B g.t g.tb d.kG.tx w
 xw:d.ll=Î->g.B<=g.t/\d.tx.c.length=5/\fw g.t (JL d.tx) 200 w
 no:d.ll=Ì->g.tb=[]/\d.kG.tx=[]
structure ma(m:Nat)(g:Gh)(d:PD)(w:Ë):Prop where
 jf:w.ownsRow m 148 1 g.vr (g.pe d).length (qa<|g.pe d)
 gC:sV g.B g.qs d.rs w
 on:d.on=Î->Ag m g d w
 Ah:d.on=Ì->d.ll=Ì
def XU(s:ByteArray)(g:Gh)(d:PD)(a:Option ý)(fV b:Int):List Ñ:=
 [Ä s,g.vr,Ã<|g.Ae d,Ã<|g.Af d,Ã<|g.Dm d,Ã a,Å É fV,Å É b]
structure iR(m b:Nat)(g:Gh)(nm:Option ý)(s:ByteArray)(st:PS)(w:Ë):Prop where
 mb:m<=b
 lZ:kQ m w
 fq:fw b (XU s g st.d nm st.fV st.jC) 153 w
 hs:s.size<=10
 ht:lA s=st.iY
 kA:ma m g st.d w
 nm:0<st.fV->st.d.on=Î/\nm=Â (g.G4 st.d st.kH)
 hr:st.d.on=Î\/st.iY=[82]
def wB(m b:Nat)(st:PS)(w a:Ë):Prop:=ff (λi=>m<=i) w a/\∃g i s,iR m b g i s st a
section
variable{w':Ë}{g:Gh}{d:PD}{nm:Option ý}{s:ByteArray}{st:PS}
def Ag.fi(h:Ag m g d w)(k:ff X w w')(p:∀i c T b,w.heap[i]?=Â (Þ c T b)->X i->T=153\/T=148):Ag m g d w':=by
 have f:∀{i:Nat} {c:Array Ñ} {T:ė} {b:Nat×Nat},w.heap[i]?=Â (Þ c T b)->(T≠153/\T≠148)->¬X i:=λ{i c T b} n l x=>(p i c T b n x).elim l.1 l.2;refine⟨h.mB,h.Bq,h.iw,h.fu.fi k<|f h.fu A,je h.jf k λj r=> ?_,h.gQ.fi k λa c b _ _ q=>f q A,λe=> ?_,h.no⟩
 .let⟨s,o⟩:=nS h.jf r;exact f o A
 .let⟨n,l,o⟩:=h.xw e;exact⟨n,l,o.fi k<|f o A⟩
def ma.rd(h:ma m g d w)(k:ff X w w')(b:∀i c T a,w.heap[i]?=Â (Þ c T a)->X i->T=153)(f:∀i,i<w.heap.size->X i->∃c a,w.heap[i]?=Â (Þ c 153 a)):ma m g d w':=by
 refine⟨je h.jf k λj l x=> ?_,h.gC.fi k λi n x=> ?_,λe=>(h.on e).fi k λi c T a q x=>È<|b i c T a q x,h.Ah⟩
 .let⟨o,q⟩:=nS h.jf l;exact absurd (b j _ _ _ q x) A
 .let⟨c,a,q⟩:=f i n x;exact Ï ⟨c,_,a,q,È U⟩
def ma.Ib(h:ma m g d w)(a:fw b l 153 w)(k:ff (λi=>i=b) w w'):ma m g d w':= h.rd k (λi c T e q x=>by subst x;unfold fw at a;rw[a]at q;cases q;rfl) λi _ x=>⟨l.toArray,(0,0),by rwa[x]⟩
def sX{i:Nat}{v:Value}{j:Nat}{vs:List Value}{T:TypeId}(h:fw j vs T w)(hT:oD T=false:=by decide):ff (λk=>k=j) w (w.setCell ⟨j,i,none⟩ v):=ff.iB (X:=λk=>k=j) U v<|Ï<|h.nf hT
def ma.adR(h:ma m g d w):(g.pe d).length=d.fL.length:=by unfold Gh.pe PD.fL;split<;>simp[h.gC.iw]
def Ag.adS(h:Ag m g d w):(g.mN d).length=d.gQ.length:=by unfold Gh.mN PD.gQ;split<;>simp[h.gQ.iw]
def XV(h:i<zQ.length)(v:Ñ):(qZ zQ++[v])[i]?=Â (Å É<|zQ.getD i 0):=by rw[ċ (by simpa[qZ]using h)];simp[qZ,ď,h]
def adT(l:List Int)(i:Nat)(z:Int)(v:Ñ)(h:i<l.length):(qZ l++[v]).set i (Å É z)=qZ (l.set i z)++[v]:=by rw[List.set_append_left _ _ (by simpa[qZ]using h)];simp[qZ,List.map_set]
def adU(l:List Int)(v u:Ñ):(qZ l++[v]).set l.length u=qZ l++[u]:=by rw[Ľ _ _ (by simp[qZ])];simp[qZ]
def G5(l:List Int)(v:Ñ):(qZ l++[v])[l.length]?=Â v:=by rw[ĩ (by simp[qZ])];simp[qZ]
def ma.qC(h:ma m g d w)(on:d.on=Î)(n:i<8)(z:Int):ma m g (d.qC i z) (w.setCell ⟨g.q,i,Á⟩<|Å É z):=by
 have l:=h.on on;have k:ff (λk=>k=g.q) w (w.setCell ⟨g.q,i,Á⟩<|Å É z):=sX l.fu;have r:=l.Bq;refine⟨je h.jf k λj b x=>kP h.jf l.fu A (by rw[b,x]),h.gC.fi k λi _ x=>È Z,λ_=>⟨l.mB,l.Bq,by simp[PD.qC,l.iw],?_,je l.jf k λj b x=>kP l.jf l.fu A (by rw[b,x]),l.gQ.fi k λa c s _ _ q x=> ?_,λe=> ?_,l.no⟩,h.Ah⟩
 .have:=l.fu.gS i<|Å É z;unfold G3 at this;rw[adT _ _ _ _ (by rwa[l.iw])]at this;exact this
 .have:=l.fu;unfold fw at this;rw[<-x,q]at this;cases this
 .let⟨o,p,f⟩:=l.xw e;exact⟨o,p,f.fi k λx=>(fw.fX f l.fu A) x⟩
def ma.lS(h:ma m g d w)(on:d.on=Î)(f:d.ll=Î){p:PT}(n:p.c.length=5)(o:(JL d.tx).set i v=JL p):ma m g {d with tx:=p} (w.setCell ⟨g.t,i,Á⟩ v):=by have l:=h.on on;let⟨r,s,b⟩:=l.xw f;have k:ff (λk=>k=g.t) w (w.setCell ⟨g.t,i,Á⟩ v):=sX b;refine⟨je h.jf k λj e x=>kP h.jf b A (by rw[e,x]),h.gC.fi k λi _ x=>È Z,λ_=>⟨l.mB,l.Bq,l.iw,l.fu.fi k λx=>(fw.fX l.fu b A) x,je l.jf k λj e x=>kP l.jf b A (by rw[e,x]),l.gQ.fi k λa c u _ q _ x=>by omega,λ_=>⟨r,n,?_⟩,l.no⟩,h.Ah⟩;have:=b.gS i v;rwa[o]at this
def ma.wz(h:ma m g d w)(on:d.on=Î)(a:d.ll=Î)(c:i<5)(z:Int):ma m g (d.wz i z) (w.setCell ⟨g.t,i,Á⟩<|Å É z):=by let⟨e,b,f⟩:=(h.on on).xw a;exact h.lS on a (by simp[b])<|adT _ _ _ _<|by rwa[b]
def ma.iN(h:ma m g d w)(on:d.on=Î)(a:d.ll=Î)(p:ByteArray):ma m g (d.iN p) (w.setCell ⟨g.t,5,Á⟩<|Ä p):=by let⟨e,b,f⟩:=(h.on on).xw a;refine h.lS on a b ?_;have:=adU d.tx.c (Ä d.tx.p)<|Ä p;rwa[b]at this
def ma.avK(h:ma m g d w)(on:d.on=Î)(a:i<4)(z:Int):ma m g (d.lS i z) (w.setCell ⟨g.ua d,i,Á⟩<|Å É z):=by
 unfold PD.lS Gh.ua;split
 .rename_i e;exact h.wz on e Z z
 .exact h.qC on Z z
structure uf(m b:Nat)(g:Gh)(d:PD)(ab ao:Nat)(f:Int->PD)(x:Int)(w:Ë):Prop where
 ne:ab≠b
 lo:m<=ab
 lt:ab<w.heap.size
 fg:w.cell? ⟨ab,ao,Á⟩=Â (Å É x)
 fz:w.frozen? ⟨ab,ao,Á⟩=Ì
 nf:NF ab w
 iB:∀W,ma m g d W->∀z,ma m g (f z)<|W.setCell ⟨ab,ao,Á⟩<|Å É z
 gh:∀z,g.Ae (f z)=g.Ae d/\g.Af (f z)=g.Af d/\g.Dm (f z)=g.Dm d/\(f z).on=d.on/\∀n,g.G4 (f z) n=g.G4 d n
def JO(h:ma m g d w)(f:fw b l 153 w)(on:d.on=Î)(e:i<8):uf m b g d g.q i (λz=>d.qC i z) (d.kG.c.getD i 0) w:=by have a:=h.on on;exact⟨fw.fX a.fu f A,Í a.mB a.Bq,a.fu.lt,a.fu.fg i _ (XV (by rwa[a.iw]) _),a.fu.fC i,a.fu.nf,λW j z=>j.qC on e z,λz=>⟨U,U,U,U,λn=>rfl⟩⟩
def adV(h:ma m g d w)(k:fw b l 153 w)(on:d.on=Î)(f:d.ll=Î)(j:i<5):uf m b g d g.t i (λz=>d.wz i z) (d.tx.c.getD i 0) w:=by have a:=h.on on;let⟨o,p,e⟩:=a.xw f;exact⟨fw.fX e k A,Í a.mB o,e.lt,e.fg i _ (XV (by rwa[p]) _),e.fC i,e.nf,λW q z=>q.wz on f j z,λz=>⟨U,U,U,U,λn=>rfl⟩⟩
def JP(h:ma m g d w)(a:fw b l 153 w)(on:d.on=Î)(c:i<4):uf m b g d (g.ua d) i (λz=>d.lS i z) (d.BF i) w:=by
 unfold PD.lS PD.BF Gh.ua;split
 .rename_i e;exact adV h a on e Z
 .exact JO h a on Z
def iR.iL{f:Int->PD}(h:iR m b g nm s st w)(n:uf m b g st.d i j f c w)(z:Int):iR m b g nm s {st with d:=f z} (w.setCell ⟨i,j,Á⟩<|Å É z):=by
 let⟨e,l,o,a,p⟩:=n.gh z;have k:ff (λk=>k=i) w (w.setCell ⟨i,j,Á⟩<|Å É z):=ff.iB (X:=λk=>k=i) U _<|È U;refine⟨h.mb,h.lZ.iB _ trivial,?_,h.hs,h.ht,n.iB w h.kA z,λq=> ?_,?_⟩
 .have:=h.fq.fi k λc=>n.ne c.symm;unfold XU at this|-;simp only[e,l,o];exact this
 .let⟨r,t⟩:=h.nm q;exact⟨by simp only[a];exact r,by simp only[p];exact t⟩
 .simp only[a];exact h.hr
def iR.RZ(h:iR m b g nm s st w)(a:ByteArray)(r:List Int)(c:a.size<=10)(e:lA a=r)(f:st.d.on=Î\/r=[82]):iR m b g nm a {st with iY:=r} (w.setCell ⟨b,0,Á⟩<|Ä a):= ⟨h.mb,h.lZ.iB _ trivial,h.fq.gS 0 _,c,e,h.kA.Ib h.fq<|sX h.fq,h.nm,f⟩
def iR.wC(h:iR m b g nm s st w)(z:Int)(a:0<z->st.d.on=Î/\nm=Â (g.G4 st.d st.kH)):iR m b g nm s {st with fV:=z} (w.setCell ⟨b,6,Á⟩<|Å É z):= ⟨h.mb,h.lZ.iB _ trivial,h.fq.gS 6 _,h.hs,h.ht,h.kA.Ib h.fq<|sX h.fq,a,h.hr⟩
def iR.XW(h:iR m b g nm s st w)(z:Int):iR m b g nm s {st with jC:=z} (w.setCell ⟨b,7,Á⟩<|Å É z):= ⟨h.mb,h.lZ.iB _ trivial,h.fq.gS 7 _,h.hs,h.ht,h.kA.Ib h.fq<|sX h.fq,h.nm,h.hr⟩
def iR.adW(h:iR m b g nm s st w)(a:ý)(n:Int)(d:st.fV=0)(c:m<=a.block/\a.block<w.heap.size):iR m b g (Â a) s {st with kH:=n} (w.setCell ⟨b,5,Á⟩<|Ã<|Â a):= ⟨h.mb,h.lZ.iB _ c,h.fq.gS 5 _,h.hs,h.ht,h.kA.Ib h.fq<|sX h.fq,λq=>by have:0<st.fV:=q;omega,h.hr⟩
def iR.gi(h:iR m b g nm s st w):iR m b g nm s st w.drew:=by have k:=ff.gi (λ_=>False) w;exact⟨h.mb,h.lZ,h.fq.fi k id,h.hs,h.ht,h.kA.rd k (λ_ _ _ _ _ x=>x.elim) λ_ _ x=>x.elim,h.nm,h.hr⟩
end
section
variable{w':Ë}{g:Gh}{st:PS}{f:Int->PD}{x:Int}
def uf.rd{d:PD}(h:uf m b g d n j f x w)(i:Nat)(v:Ñ):uf m b g d n j f x (w.setCell ⟨b,i,Á⟩ v):= ⟨h.ne,h.lo,by simpa using h.lt,by rw[Ml<|Ne.symm h.ne];exact h.fg,by rw[World.frozen?_setCell];exact h.fz,λc T a q=>h.nf c T a (by rwa[ī _ _ _ _ (by simpa using h.ne)]at q),h.iB,h.gh⟩
def iR.XX(h:iR m b g O B st w)(n:Int)(a:st.fV=0):iR m b g O B {st with kH:=n} w:= ⟨h.mb,h.lZ,h.fq,h.hs,h.ht,h.kA,λq=>by have:0<st.fV:=q;omega,h.hr⟩
def ov(h:iR m b g O B st w)(i:Nat)(v:Ñ):ff (λi=>m<=i) w (w.setCell ⟨b,i,Á⟩ v):=ff.iB (X:=λi=>m<=i) (p:=⟨b,i,Á⟩) h.mb v<|Ï h.fq.nf
def JQ(h:uf m b g st.d n j f x w)(z:Int):ff (λi=>m<=i) w (w.setCell ⟨n,j,Á⟩<|Å É z):=ff.iB (X:=λi=>m<=i) (p:=⟨n,j,Á⟩) h.lo _<|È U
def Ai(c a:Int):Int:=if c=104\/c=48 then 0 else a-1
def pd(c:Int):Int:=if c=104 then-1 else(c-48)%256
def XY{st:PS}(h:st.fV=0)(n:Int)(d:PD):({st with fV:=0,kH:=n,d:=d}:PS)={st with kH:=n,d:=d}:=by rw[<-h]
def R0(h:iR m b g O B st w)(i:uf m b g st.d n j f x w)(k:st.fV=0)(o:st.d.on=Î)(c l a:Int)(D:0<=l)(E:l<=6)(p:∀z,g.G4 (f z) a=⟨n,j,Á⟩): Ò À 147 #[Ã<|Â ⟨b,0,Á⟩,Ã<|Â ⟨n,j,Á⟩,Å Ų c,Å É l] w λe w'=>
  e=Ç (ï #[])/\wB m b {st with fV:=Ai c l,kH:=a,d:=f (pd c)} w w':=by
 have F:=h.fq.fg 5 _ U;have G:=h.fq.fg 6 _ U;have I:=h.fq.fC 5;have J:=h.fq.fC 6;have K:=i.fg;have L:=i.fz;have M:=i.ne;have N:¬b=n:=λe=>i.ne e.symm;have t:m<=n/\n<w.heap.size:=⟨i.lo,i.lt⟩;have H:=fp<|Ê h<|Ê i<|Ê p<|Ê k o;by_cases r:c=104
 .subst r;go_enter Ş,ŕ;go_wp2;first|go_end0|refine ă (results_none U _ _ _) U ?_
  let⟨h,i,p,k,o⟩:=H.out;refine⟨U,JQ i _,g,O,B,?_⟩;have:=(h.iL i<|-1).XX a k;rw[show Ai 104 l=0 from if_pos<|È U,XY k];exact this
 .have P:(c==104)=Ì:=by rwa[beq_eq_false_iff_ne]
  have u:pd c=(c-48)%256:=if_neg r;by_cases v:c=48
  .subst v;go_enter Ş,ŕ;go_wp2;go_end0;let⟨h,i,p,k,o⟩:=H.out;have s:=h.adW ⟨n,j,Á⟩ a k t;have q:=i.rd 5<|Ã<|Â ⟨n,j,Á⟩;refine⟨U,(ov h 5 _).fl<|JQ q _,g,Â ⟨n,j,Á⟩,B,?_⟩;have:=s.iL q 0;rw[show Ai 48 l=0 from if_pos<|Ï U,XY k,u];exact this
  .have Q:(c !=48)=Î:=by rwa[bne_iff_ne]
   go_enter Ş,ŕ;go_wp2;go_end0;let⟨h,i,p,k,o⟩:=H.out;have s:=h.adW ⟨n,j,Á⟩ a k t;have q:=i.rd 5<|Ã<|Â ⟨n,j,Á⟩;have y:=s.iL q<|(c-48)%256;have C:=y.wC (l-1) λ_=>⟨by simp only;rwa[(i.gh _).2.2.2.1],by simp only;rw[p]⟩;refine⟨U,((ov h 5 _).fl<|JQ q _).fl<|ov y 6 _,g,Â ⟨n,j,Á⟩,B,?_⟩;rwa[show Ai c l=l-1 from if_neg Z,u]
def R1{d b:Int}(h:tZ b c=Î)(a:(b=86\/b=87)/\d=2\/(b=110\/b=107)/\d=6):Ai c d=wy b c:=by
 unfold Ai wy;unfold tZ at h;by_cases f:j0 c=Î
 .rw[JJ]at f;by_cases g:c=48
  .rw[if_pos<|Ï g,if_pos<|È g]
  .rw[if_neg Z,if_neg (by rintro(e|e);exact g e;rw[ar4 f]at e;cases e)];rcases a with⟨a,rfl⟩|⟨a,rfl⟩
   .rw[if_pos a];rfl
   .rw[if_neg Z,if_pos a];rfl
 .have hF:j0 c=Ì:=by cases e:j0 c with|false=>rfl|true=>exact absurd e f
  rw[if_pos (show c=48\/j0 c=Ì from Ï hF)];rcases a with⟨a,rfl⟩|⟨a,rfl⟩
  .rw[if_pos a,hF,Bool.or_false,beq_iff_eq]at h;rw[if_pos<|È h]
  .rw[if_neg Z,if_pos a,hF]at h;cases h
def R2{a:Int}(h:¬(a=86\/a=87)/\¬(a=110\/a=107)):wy a c=0:=by
 unfold wy;split
 .rfl
 .rw[if_neg h.1,if_neg h.2]
def R3{a:Int}(h:a=86\/a=87\/a=110\/a=107):qD a c=pd c:=by unfold qD pd;rw[if_neg Z,if_neg Z]
def XZ(h:iR m b g O B st w)(i:uf m b g st.d n j f x w)(k:st.fV=0){a z:Int}(e:c=0)(l:w'=(w.setCell ⟨n,j,Á⟩<|Å É z).drew):wB m b {st with fV:=c,kH:=a,d:=f z} w w':=by subst l;subst e;rw[XY k];exact⟨(JQ i z).fl<|ff.gi _ _,g,O,B,((h.iL i z).XX a k).gi⟩
end
section
variable{g:Gh}{st:PS}
def Na{d:PD}(a:d.ll=Î):g.Af d=Â ⟨g.t,0,Á⟩:=if_pos a
def asq:Dl st 0=Á:=rfl
def asr(h:iR m b g O B st w)(s:st.fV=0)(on:st.d.on=Î)(f:st.d.ll=Î)(k:Int): Ò À 101 #[Ã<|Â ⟨b,0,Á⟩,Å É k] w λe u=>match Dl st k with
  |none=>e=Ç (û Ì)/\u=w
  |some a=>e=Ç (û Î)/\wB m b a w u:=by
 have v:=h.fq.fg 0 _ U;have o:=h.fq.fg 3 _ U;have x:=h.fq.fg 7 _ U;rw[Na f]at o;have y:=h.fq.fC 0;have z:=h.fq.fC 7;have a:=adV h.kA h.fq on f (i:=4) A;have C:=a.fg;have D:=a.fz;have E:=a.ne;have F:¬b=g.t:=λe=>a.ne e.symm;have H:=fp<|Ê h a;by_cases c:k=0
 .subst c;rw[asq];go_enter Τ,Ε;go_wp2;go_ret;exact⟨U,U⟩
 .have G:(k==0)=Ì:=by rwa[beq_eq_false_iff_ne]
  have e:Dl st k=Â {st with iY:=Ab k,jC:=0,d:=st.d.wz 4 k}:=if_neg c;rw[e];go_enter Τ,Ε;go_wp2_with (go_at_call 148;refine(asl _ _).mono ?_;rintro e u ⟨⟨j,rfl,p,q⟩,l⟩;subst u);go_ret;let⟨h,a⟩:=H.out;have l:=h.iL a k;have n:=l.XW 0;have r:=n.RZ j _ p q<|È on;exact⟨U,((JQ a k).fl<|ov l 7 _).fl<|ov n 0 _,g,O,j,r⟩
end
def asu:(À.info? 149).map (λi=>(i.zero,i.size,i.bytes))=Â (Â<|Ã Á,1,8):=fF
def asv:(À.info? 148).map (λi=>(i.zero,i.size,i.bytes))=Â (Â<|Ã Á,1,8):=fF
section
variable{w':Ë}{g:Gh}{nm:Option ý}{s:ByteArray}{st:PS}{d:PD}{T:Nat}
structure yT(m:Nat)(g:Gh)(d:PD)(T:Nat)(w:Ë):Prop where
 X0:w.ownsRow m 148 1 g.vr (g.pe d).length (qa<|g.pe d)
 gC:sV g.B g.qs d.rs w
 gQ:rW g.B T (g.mN d) d.gQ w
 tb:fw T (JL PD.JG) 200 w
def Nb(x:i=j)(h:fw j l t w):w.heap[i]?=Â (Þ l.toArray t (0,0)):=by rwa[x]
def yT.fi(h:yT m g d T w)(k:ff X w w')(n:∀i,i<w.heap.size->X i->∃c t b,w.heap[i]?=Â (Þ c t b)/\(t=153\/(t=161\/t=149)/\g.B<=i)):yT m g d T w':=by
 have f:∀{i:Nat} {c:Array Ñ} {t:ė} {b:Nat×Nat},w.heap[i]?=Â (Þ c t b)->(t≠153/\t≠161/\t≠149)->¬X i:=λ{i c t b} q1 q2 x=>by
  let⟨o,p,s6,e,l⟩:=n i (Ù.1 q1).1 x;rw[q1]at e;cases e;rcases l with rfl|⟨rfl|rfl,_⟩
  .exact q2.1 U
  .exact q2.2.1 U
  .exact q2.2.2 U
 refine⟨je h.X0 k λj r=> ?_,h.gC.fi k λi s x=> ?_,h.gQ.fi k λa c b _ _ q=>f q A,h.tb.fi k<|f h.tb A⟩
 .let⟨u,z⟩:=nS h.X0 r;exact f z A
 .let⟨o,p,s6,e,l⟩:=n i s x;rcases l with rfl|⟨_,z⟩
  .exact Ï ⟨_,_,_,e,È U⟩
  .exact È z
def yT.gu(h:yT m g d T w)(k:ff (λ_=>False) w w'):yT m g d T w':=h.fi k λ_ _ x=>x.elim
def yT.zE(h:yT m g d T w)(a:fw b l 153 w):yT m g d T (w.setCell ⟨b,i,Á⟩ v):= h.fi (sX a) λi _ x=>⟨_,_,_,Nb x a,È U⟩
def Ag.adX(l:Ag m g d w):rW g.B w.heap.size (g.mN d) d.gQ w:=by
 unfold Gh.mN PD.gQ;split
 .rename_i e;let⟨a,b,c⟩:=l.xw e;have:=c.lt;exact(l.gQ.ft (â _) Z).XR a c.lt b c
 .rename_i e;let⟨a,b⟩:=l.no (by simpa using e);rw[a,b];exact rW.mX _ _ _
def kQ.adY(n:kQ m w)(g:fw b l e w)(C:m<=b)(p:e≠304/\e≠305)(d:Array Ñ)(t:ė)(u:0<d.size)(r:t≠304/\t≠305)(h:∀v∈d.toList,pF m (w.heap.size+1) v):kQ m ((w.setCell ⟨b,i,Á⟩<|Ã<|Â ⟨w.heap.size,0,Á⟩).alloc<|Þ d t):=by
 have s:(w.setCell ⟨b,i,Á⟩<|Ã<|Â ⟨w.heap.size,0,Á⟩).heap.size=w.heap.size:=fB
 have D:=g.lt;intro j o k c;have x:((w.setCell ⟨b,i,Á⟩<|Ã<|Â ⟨w.heap.size,0,Á⟩).alloc<|Þ d t).heap.size=w.heap.size+1:=fB
 rw[x];by_cases a:j<w.heap.size
 .rw[Ũ _ _ _ (by rwa[s])]at c;by_cases f:j=b
  .subst f;have:=g.gS i<|Ã<|Â ⟨w.heap.size,0,Á⟩;unfold fw at this;rw[this]at c;cases c;let⟨E,F,G,y,H,z,I,J,B⟩:=n j _ k g;cases y;refine⟨_,_,_,U,fB,by simpa using z,p.1,p.2,λv h=> ?_⟩;rcases ı (by simpa using h)with q|q
   .exact(B v<|by simpa using q).ft Z
   .rw[q];exact⟨Í k<|Nat.le_of_lt a,Nat.lt_succ_self _⟩
  .rw[ī _ _ _ _ (by simpa using f)]at c;exact(n j o k c).ft Z
 .by_cases f:j=w.heap.size
  .have:=Ż (w.setCell ⟨b,i,Á⟩<|Ã<|Â ⟨w.heap.size,0,Á⟩)<|Þ d t;rw[s]at this;rw[f,this]at c;cases c;exact⟨_,_,_,U,Ú _,u,r.1,r.2,h⟩
  .rw[æ Z]at c;cases c
def R4(b:Nat)(w:Ë):Ë:=(w.setCell ⟨b,3,Á⟩<|Ã<|Â ⟨w.heap.size,0,Á⟩).alloc<|Þ #[Å É 0,Å É 0,Å É 0,Å É 0,Å É 0,Ä ⟨#[]⟩] 200
def rdM(s:ByteArray)(g:Gh)(d:PD)(a b nm:Option ý)(fV c:Int):List Ñ:=
 [Ä s,g.vr,Ã<|g.Ae d,Ã a,Ã b,Ã nm,Å É fV,Å É c]
structure JR(m b:Nat)(g:Gh)(d:PD)(T:Nat)(s:ByteArray)(tm nm:Option ý)(fV jC:Int)(w0 w:Ë):Prop where
 fi:ff (λi=>m<=i) w0 w
 lZ:kQ m w
 fq:fw b (rdM s g d (Â ⟨T,0,Á⟩) tm nm fV jC) 153 w
 Nc:yT m g d T w
 qb:fw g.q (G3 d.kG.c g.vb) 161 w
 jf:w.ownsRow g.B 149 1 g.vb (g.mN d).length (qa<|g.mN d)
def JR.gu{fV:Int}(h:JR m b g d T s O nm fV c u w)(k:ff (λ_=>False) w w')(a:kQ m w'):JR m b g d T s O nm fV c u w':= ⟨h.fi.kj k λ_ _ x=>x.elim,a,h.fq.fi k id,h.Nc.gu k,h.qb.fi k id,je h.jf k λ_ _=>id⟩
def iR.asw(h:iR m b g nm s st w)(on:st.d.on=Î):JR m b g st.d w.heap.size s (g.Dm st.d) nm st.fV st.jC w (R4 b w):=by
 have l:=h.kA.on on;have p:(w.setCell ⟨b,3,Á⟩<|Ã<|Â ⟨w.heap.size,0,Á⟩).heap.size=w.heap.size:=fB
 have n:ff (λ_=>False) (w.setCell ⟨b,3,Á⟩<|Ã<|Â ⟨w.heap.size,0,Á⟩) (R4 b w):=ff.gT _ _ _ _;have r:ff (λk=>k=b) w (w.setCell ⟨b,3,Á⟩<|Ã<|Â ⟨w.heap.size,0,Á⟩):=sX h.fq;have e:=r.kj n λ_ _ x=>x.elim;refine⟨e.ft λk _ x=>by rw[x];exact h.mb,?_,(h.fq.gS 3 _).fi n id,⟨je h.kA.jf e λj f x=>kP h.kA.jf h.fq A (by rw[f,x]),h.kA.gC.fi e λi _ x=>Ï ⟨_,_,_,Nb x h.fq,È U⟩,l.adX.fi e λa c t _ _ q x=> ?_,?_⟩,l.fu.fi e λx=>fw.fX l.fu h.fq A x,je l.jf e λj f x=>kP l.jf h.fq A<|by rw[f,x]⟩
 .exact h.lZ.adY h.fq h.mb A _ _ fB A λv o=>by simp at o;rcases o with rfl|rfl<;>trivial
 .have v:=h.fq;unfold fw at v;rw[<-x,q]at v;cases v
 .have:=fw.fN (w.setCell ⟨b,3,Á⟩<|Ã<|Â ⟨w.heap.size,0,Á⟩) [Å É 0,Å É 0,Å É 0,Å É 0,Å É 0,Ä ⟨#[]⟩] 200;rwa[p]at this
def X1(g:Gh)(d:PD)(T:Nat)(v:Ñ):Gh:={g with t:=T,tb:=g.mN d,vb:=v}
def JR.jA(h:JR m b g st.d T s O nm st.fV st.jC w u)(C:m<=b)(on:st.d.on=Î)(a:m<=g.B/\g.B<=g.q/\st.d.kG.c.length=8)(D:g.B<=T)(hd:st.fV=0) (l:tO u g.B 149 1 g.vb (g.mN st.d).length (qa<|g.mN st.d) 1 [Ã<|Â ⟨T,0,Á⟩] v W) (K:kQ m W) (L:pF m W.heap.size v) (n:jX=((W.setCell ⟨g.q,8,Á⟩ v).setCell ⟨b,4,Á⟩<|Ã<|Â ⟨T,0,Á⟩).setCell ⟨b,0,Á⟩ (Ä ⟨#[84]⟩)): ff (λi=>m<=i) w jX/\iR m b (X1 g st.d T v) nm ⟨#[84]⟩ {st with iY:=[84],d:=st.d.xr} jX:=by
 have E:∀{j:Nat} {M:List Ñ} {t:ė},fw j M t u->149≠t->¬g.vb.ownBlock=Â j:=λN f=>kP h.jf N f;have F:=h.fq.fi l.fi<|E h.fq A;have f:=h.qb.fi l.fi<|E h.qb A;have P:=h.Nc.fi l.fi λi _ x=>by let⟨k,z⟩:=nS h.jf x;exact⟨_,_,_,z,Ï ⟨Ï U,(h.jf.lt i x).1⟩⟩
 have o:ff (λk=>k=g.q) W (W.setCell ⟨g.q,8,Á⟩ v):=sX f;have G:fw g.q (G3 st.d.kG.c v) 161 (W.setCell ⟨g.q,8,Á⟩ v):=by have:=f.gS 8 v;have e:=adU st.d.kG.c g.vb v;rw[a.2.2]at e;unfold G3 at this|-;rwa[e]at this
 have z:=F.fi o λx=>fw.fX F f A x;have H:=P.fi o λi _ x=>⟨_,_,_,Nb x f,Ï ⟨È U,by rw[x];exact a.2.1⟩⟩;have I:=je l.fD o λj p x=>kP l.fD f A (by rw[p,x]);have Q:kQ m (W.setCell ⟨g.q,8,Á⟩ v):=K.iB _ L;have V:ff (λk=>k=b) (W.setCell ⟨g.q,8,Á⟩ v) ((W.setCell ⟨g.q,8,Á⟩ v).setCell ⟨b,4,Á⟩<|Ã<|Â ⟨T,0,Á⟩):=sX z;have r:=z.gS 4<|Ã<|Â ⟨T,0,Á⟩;have X:ff (λk=>k=b) ((W.setCell ⟨g.q,8,Á⟩ v).setCell ⟨b,4,Á⟩<|Ã<|Â ⟨T,0,Á⟩) jX:=by rw[n];exact sX r
 have J:=r.gS 0<|Ä ⟨#[84]⟩;rw[<-n]at J;have k:yT m g st.d T jX:=by rw[n];exact(H.zE z).zE r
 have y:=V.fl X;have Y:=G.fi y λx=>fw.fX G z A x;have o5:=je I y λj p x=>kP I z A (by rw[p,x]);have hTl:=H.tb.lt;have c5:kQ m jX:=by rw[n];refine(Q.iB _ ?_).iB _ trivial;exact⟨Í a.1 D,hTl⟩
 have e1:(g.mN st.d++[T]).length=(g.mN st.d).length+1:=fB
 have e2:qa (g.mN st.d++[T])=qa (g.mN st.d)++[Ã<|Â ⟨T,0,Á⟩]:=by simp[qa]
 refine⟨((h.fi.kj l.fi λi _ x=> ?_).kj o λi _ x=> ?_).kj y λi _ x=> ?_,C,c5,?_,A,U,⟨k.X0,k.gC,λ_=>⟨a.1,a.2.1,a.2.2,Y,?_,k.gQ,λ_=>⟨D,U,k.tb⟩,λe=>by cases e⟩,λe=> ?_⟩,λe=> ?_,È on⟩
 .have:=(h.jf.lt i x).1;have:=a.1;omega
 .have:=a.2.1;have:=a.1;omega
 .rwa[x]
 .have e:(X1 g st.d T v).Ae st.d.xr=g.Ae st.d:=U;unfold XU;rw[e];have e4:(X1 g st.d T v).Dm st.d.xr=Â ⟨T,0,Á⟩:=if_pos on;rwa[e4]
 .show jX.ownsRow g.B 149 1 v (g.mN st.d++[T]).length (qa<|g.mN st.d++[T]);rwa[e1,e2]
 .have:st.d.on=Ì:=e;rw[on]at this;cases this
 .have:0<st.fV:=e;omega
def adZ(h:iR m b g nm s st w)(C:st.fV=0)(p:st.d.on=Î)(D:st.d.gQ.length<=100000): Ò À 99 #[Ã<|Â ⟨b,0,Á⟩] w λe w'=>e=Ç (ï #[])/\wB m b {st with iY:=[84],d:=st.d.xr} w w':=by
 have Y:=h.fq.fg 3 _ U;have f3:=h.fq.fC 3;have iy:=h.fq.lt;have l:=h.kA.on p;have y:=h.asw p;have E:=λv=>by have:=G5 st.d.kG.c v;rwa[l.iw]at this
 have F:m<=g.B/\g.B<=g.q/\st.d.kG.c.length=8:=⟨l.mB,l.Bq,l.iw⟩;have G:g.B<=w.heap.size:=by have:=l.fu.lt;have:=l.Bq;omega
 have I:(g.mN st.d).length<=100000:=by rwa[l.adS]
 have J:=h.mb;have H:=fp<|Ê F<|Ê G<|Ê I<|Ê J<|Ê C p;have k:=fp<|E g.vb;have x:g.Ae st.d=Â ⟨g.q,0,Á⟩:=if_pos p;go_enter Tryz.func99,Tryz.ntmps99;go_wp2_with fail;change ä À _ _ _ (R4 b w);have n:=y.gu (ff.gi _ _) y.lZ.gi;generalize hT:w.heap.size=T at*;generalize L:(R4 b w).drew=w1 at*;let⟨i0,M,N,O,P⟩:=Ŷ asu;have r:=fp<|Ê M<|Ê N<|Ê O P;refine oG (λw'=>w'.cell? ⟨b,2,Á⟩=Â (Ã<|g.Ae st.d)/\w'.cell? ⟨b,3,Á⟩=Â (Ã<|Â ⟨T,0,Á⟩)/\w'.cell? ⟨g.q,8,Á⟩=Â g.vb) [19] fF ?_;rw[L];rw[x];have a:Hid (w1.cell? ⟨b,2,Á⟩=Â (Ã<|Â ⟨g.q,0,Á⟩)/\w1.cell? ⟨b,3,Á⟩=Â (Ã<|Â ⟨T,0,Á⟩)/\w1.cell? ⟨g.q,8,Á⟩=Â g.vb):=fp ⟨by rw[<-x];exact n.fq.fg 2 _ U,n.fq.fg 3 _ U,n.qb.fg 8 _ k.out⟩;have t:=fp x;apply tk 0 a.out;apply tk 1 a.out;apply tk 2 a.out;apply tk 3 a.out;apply tk 4 a.out;apply tk 5 a.out;apply tk 6 a.out;apply tk 7 a.out;apply tk 8 a.out;apply tk 9 a.out;apply tk 10 a.out;apply tk 11 a.out;apply tk 12 a.out;apply tk 13 a.out;apply tk 14 a.out;have Q:=n.Nc.tb.lt;have f:=n.gu (ff.gT (λ_=>False) w1 #[Ã<|Â ⟨T,0,Á⟩] 149) (n.lZ.gT _ _ fB A λv i=>by simp at i;subst i;exact⟨Í H.out.1.1 H.out.2.1,Q⟩);apply iu 15;intro K j;go_simp;refine j.out _ _ (λ_=>⟨by rw[<-t.out];exact f.fq.fg 2 _ U,f.fq.fg 3 _ U,f.qb.fg 8 _ k.out⟩) ?_;apply iu 16;intro K j;refine adQ gG _ _ 159 gG Tryz.underlying159 r.out.1 r.out.2.1 r.out.2.2.1 r.out.2.2.2 gG f.jf ⟨w1.heap.size,0,Á⟩ gG (Υ w1 _ _) U (by have:=H.out.2.2.1;unfold Ě;omega) (by have:=H.out.2.2.1;omega) (by have:=H.out.2.1;have:=f.Nc.tb.lt;omega) A H.out.1.1 f.lZ ⟨Í H.out.1.1 H.out.2.1,f.Nc.tb.lt⟩ A ?_;intro v9 w9 u V W;obtain⟨a9,n9c,rfl⟩:=kX u.fD;have i:=f.fq.fi u.fi<|kP f.jf f.fq A;have o:=f.qb.fi u.fi<|kP f.jf f.qb A;refine j.out _ _ (λ_=>⟨by rw[<-t.out];exact i.fg 2 _ U,i.fg 3 _ U,o.fg 8 _ k.out⟩) ?_;apply iu 17;intro K j;go_simp;refine j.out _ _ (λ_=>⟨by rw[<-t.out];exact i.fg 2 _ U,i.fg 3 _ U,o.fg 8 _ k.out⟩) ?_;apply iu 18;intro K j;go_simp;refine j.out _ _ (λ_=>⟨by rw[<-t.out];exact i.fg 2 _ U,i.fg 3 _ U,o.fg 8 _ k.out⟩) ?_;have cq8:=o.fg 8 _ k.out;have fq8:=o.fC 8;have cb4:=i.fg 4 _ U;have fb4:=i.fC 4;have cb0:=i.fg 0 _ U;have fb0:=i.fC 0;have cb3:=i.fg 3 _ U;have X:=fw.fX o i A;have hbq:¬b=g.q:=λe=>X e.symm;apply iu 19;intro K j;go_simp;apply j.out _ _ λz=>absurd A z;refine om fF ?_ _;have z:=fp<|f.jA H.out.2.2.2.1 p H.out.1 H.out.2.1 H.out.2.2.2.2.1 u V W U;go_wp2_with fail;go_end0;exact⟨U,z.out.1,_,_,_,z.out.2⟩
end
section
variable{g:Gh}{nm:Option ý}{s:ByteArray}{f:PS}{d:PD}{Q:Nat}{k:Int}
def asx(h:w.ownsRow i e 1 v n l)(c:j<=i):w.ownsRow j e 1 v n l:= ⟨h.1,h.2.imp id λ⟨g,d,f,a,b,r⟩=>⟨g,d,f,a,Í c b,r⟩⟩
def Ag.gC(l:Ag m g d w):Ad w.heap.size g.q ⟨d.kG.c,d.gQ⟩ w:= ⟨l.fu.lt,l.iw,g.vb,g.mN d,l.fu,asx l.jf<|Ú _,λj a=>(l.jf.lt j a).2,l.adX.ft (Ú _)<|â _⟩
def ma.ad1(h:ma m g d w)(a:d.on=Ì->d.rs=[]):sV w.heap.size (g.pe d) d.fL w:=by
 unfold Gh.pe PD.fL;split
 .rename_i e;have l:=h.on e;have c:=l.fu.lt;have f:=l.Bq;exact h.gC.XR Z l.gC
 .rename_i e;have b:=a (by simpa using e);have:=h.gC.iw;rw[b]at this|-;rw[Ó this];exact sV.mX _ _
def R5(b:Nat)(k:Int)(w:Ë):Ë:=(w.setCell ⟨b,2,Á⟩<|Ã<|Â ⟨w.heap.size,0,Á⟩).alloc<|Þ #[Å É 0,Å É 0,Å É 0,Å É 0,Å É k,Å É 0,Å É 0,Å É 0,Æ Á 0 0] 161
def rdQ(s:ByteArray)(g:Gh)(d:PD)(Q:Nat)(nm:Option ý)(fV a:Int):List Ñ:=
 [Ä s,g.vr,Ã<|Â ⟨Q,0,Á⟩,Ã<|g.Af d,Ã<|g.Dm d,Ã nm,Å É fV,Å É a]
structure JS(m b:Nat)(g:Gh)(d:PD)(Q:Nat)(k:Int)(s:ByteArray)(nm:Option ý)(fV jC:Int)(w0 w:Ë):Prop where
 fi:ff (λi=>m<=i) w0 w
 lZ:kQ m w
 fq:fw b (rdQ s g d Q nm fV jC) 153 w
 qb:fw Q (G3 (PD.adO k).c<|Æ Á 0 0) 161 w
 gC:sV Q (g.pe d) d.fL w
 jf:w.ownsRow m 148 1 g.vr (g.pe d).length (qa<|g.pe d)
def JS.gu{fV:Int}(h:JS m b g d Q k s nm fV c W w)(a:ff (λ_=>False) w u)(e:kQ m u):JS m b g d Q k s nm fV c W u:= ⟨h.fi.kj a λ_ _ x=>x.elim,e,h.fq.fi a id,h.qb.fi a id,h.gC.fi a λ_ _ x=>x.elim,je h.jf a λ_ _=>id⟩
def iR.asy(h:iR m b g nm s f w)(k:Int)(l:f.d.on=Ì->f.d.rs=[]):JS m b g f.d w.heap.size k s nm f.fV f.jC w (R5 b k w):=by
 have n:(w.setCell ⟨b,2,Á⟩<|Ã<|Â ⟨w.heap.size,0,Á⟩).heap.size=w.heap.size:=fB
 have c:ff (λ_=>False) (w.setCell ⟨b,2,Á⟩<|Ã<|Â ⟨w.heap.size,0,Á⟩) (R5 b k w):=ff.gT _ _ _ _;have o:ff (λk=>k=b) w (w.setCell ⟨b,2,Á⟩<|Ã<|Â ⟨w.heap.size,0,Á⟩):=sX h.fq;have a:=o.kj c λ_ _ x=>x.elim;refine⟨a.ft λk _ x=>by rw[x];exact h.mb,?_,(h.fq.gS 2 _).fi c id,?_,(h.kA.ad1 l).fi a λi _ x=>Ï ⟨_,_,_,Nb x h.fq,È U⟩,je h.kA.jf a λj p x=>kP h.kA.jf h.fq A<|by rw[p,x]⟩
 .exact h.lZ.adY h.fq h.mb A _ _ fB A λv e=>by simp at e;rcases e with rfl|rfl|rfl|rfl<;>trivial
 .have:=fw.fN (w.setCell ⟨b,2,Á⟩<|Ã<|Â ⟨w.heap.size,0,Á⟩) [Å É 0,Å É 0,Å É 0,Å É 0,Å É k,Å É 0,Å É 0,Å É 0,Æ Á 0 0] 161;rwa[n]at this
def asz(g:Gh)(d:PD)(Q:Nat)(v:Ñ):Gh:={qs:=g.pe d,q:=Q,t:=Q,B:=Q,tb:=[],vr:=v,vb:=Æ Á 0 0,tx:=g.Af d}
def JS.jA{sb:ByteArray}(h:JS m b g f.d Q k s nm f.fV f.jC w u)(o:m<=b)(p:m<=Q)(T:f.fV=0)(y:sb.size<=10)(B:lA sb=Aa k) (a:tO u m 148 1 g.vr (g.pe f.d).length (qa<|g.pe f.d) 1 [Ã<|Â ⟨Q,0,Á⟩] v W) (C:kQ m W) (D:pF m W.heap.size v) (l:jX=((W.setCell ⟨b,1,Á⟩ v).setCell ⟨b,4,Á⟩<|Ã<|Â ⟨Q,0,Á⟩).setCell ⟨b,0,Á⟩ (Ä sb)): ff (λi=>m<=i) w jX/\iR m b (asz g f.d Q v) nm sb {f with iY:=Aa k,d:=f.d.JK k} jX:=by
 have c:=h.fq.fi a.fi<|kP h.jf h.fq A;have n:=h.qb.fi a.fi<|kP h.jf h.qb A;have E:=h.gC.fi a.fi λi _ x=>by let⟨e,z⟩:=nS h.jf x;exact Ï ⟨_,_,_,z,Ï U⟩
 have F:ff (λk=>k=b) W (W.setCell ⟨b,1,Á⟩ v):=sX c;have q:=c.gS 1 v;have G:ff (λk=>k=b) (W.setCell ⟨b,1,Á⟩ v) ((W.setCell ⟨b,1,Á⟩ v).setCell ⟨b,4,Á⟩<|Ã<|Â ⟨Q,0,Á⟩):=sX q;have r:=q.gS 4<|Ã<|Â ⟨Q,0,Á⟩;have H:ff (λk=>k=b) ((W.setCell ⟨b,1,Á⟩ v).setCell ⟨b,4,Á⟩<|Ã<|Â ⟨Q,0,Á⟩) jX:=by rw[l];exact sX r
 have t:=r.gS 0<|Ä sb;rw[<-l]at t;have z:=(F.fl G).fl H;have I:=n.fi z λx=>fw.fX n c A x;have J:=E.fi z λi _ x=>Ï ⟨_,_,_,Nb x c,È U⟩;have K:=je a.fD z λj L x=>kP a.fD c A (by rw[L,x]);have M:Q<(W.setCell ⟨b,1,Á⟩ v).heap.size:=by simpa using n.lt
 have N:kQ m jX:=by rw[l];refine((C.iB _ D).iB _ ?_).iB _ trivial;exact⟨p,M⟩
 have O:(g.pe f.d++[Q]).length=(g.pe f.d).length+1:=fB
 have P:qa (g.pe f.d++[Q])=qa (g.pe f.d)++[Ã<|Â ⟨Q,0,Á⟩]:=by simp[qa]
 refine⟨(h.fi.kj a.fi λi _ x=> ?_).kj z λi _ x=> ?_,o,N,t,y,B,⟨?_,J,λ_=>⟨p,â _,U,I,?_,rW.mX _ _ _,(λe=>by cases e),λ_=>⟨rfl,rfl⟩⟩,(λe=>by cases e)⟩,λe=> ?_,È rfl⟩
 .exact(h.jf.lt i x).1
 .rwa[x]
 .show jX.ownsRow m 148 1 v (g.pe f.d++[Q]).length (qa<|g.pe f.d++[Q]);rwa[O,P]
 .exact⟨U,È ⟨U,U⟩⟩
 .have:0<f.fV:=e;omega
def asA:Dk f 0=Á:=rfl
def asB(h:iR m b g nm s f w)(t:f.fV=0)(x:f.d.on=Ì->f.d.rs=[])(y:f.d.fL.length<=100000)(k:Int): Ò À 96 #[Ã<|Â ⟨b,0,Á⟩,Å É k] w λe u=>match Dk f k with
  |none=>e=Ç (û Ì)/\u=w
  |some i=>e=Ç (û Î)/\wB m b i w u:=by
 by_cases n:k=0
 .subst n;rw[asA];go_enter ξ,Χ;go_wp2;go_ret;exact⟨U,U⟩
 have Q:(k==0)=Ì:=by rwa[beq_eq_false_iff_ne]
 have e:Dk f k=Â {f with iY:=Aa k,d:=f.d.JK k}:=if_neg n;rw[e];have V:=h.fq.fg 2 _ U;have W:=h.fq.fC 2;have X:=h.fq.lt;have q:=h.asy k x;have z:(g.pe f.d).length<=100000:=by rwa[h.kA.adR]
 have B:=h.mb;have C:m<=w.heap.size:=Z
 have H:=fp<|Ê B<|Ê C<|Ê z t;go_enter ξ,Χ;go_wp2_with fail;change ä À _ _ _ (R5 b k w);have j:=q.gu (ff.gi _ _) q.lZ.gi;generalize Y:w.heap.size=T at*;generalize D:(R5 b k w).drew=w1 at*;let⟨i0,E,F,G,I⟩:=Ŷ asv;have l:=fp<|Ê E<|Ê F<|Ê G I;refine oG (λu=>u.cell? ⟨b,1,Á⟩=Â g.vr/\u.cell? ⟨b,2,Á⟩=Â (Ã<|Â ⟨T,0,Á⟩)) [13] fF ?_;rw[D];have c:Hid (w1.cell? ⟨b,1,Á⟩=Â g.vr/\w1.cell? ⟨b,2,Á⟩=Â (Ã<|Â ⟨T,0,Á⟩)):=fp ⟨j.fq.fg 1 _ U,j.fq.fg 2 _ U⟩;apply tk 0 c.out;apply tk 1 c.out;apply tk 2 c.out;apply tk 3 c.out;apply tk 4 c.out;apply tk 5 c.out;apply tk 6 c.out;apply tk 7 c.out;apply tk 8 c.out;have J:=j.qb.lt;have a:=j.gu (ff.gT (λ_=>False) w1 #[Ã<|Â ⟨T,0,Á⟩] 148) (j.lZ.gT _ _ fB A λv i=>by simp at i;subst i;exact⟨H.out.2.1,J⟩);apply iu 9;intro K i;go_simp;apply i.out _ _ λ_=>⟨a.fq.fg 1 _ U,a.fq.fg 2 _ U⟩;apply iu 10;intro K i;refine adQ gG _ _ 61 gG Tryz.underlying61 l.out.1 l.out.2.1 l.out.2.2.1 l.out.2.2.2 gG a.jf ⟨w1.heap.size,0,Á⟩ gG (Υ w1 _ _) U (by have:=H.out.2.2.1;unfold Ě;omega) (by have:=H.out.2.2.1;omega) (by have:=H.out.2.1;have:=a.qb.lt;omega) A (â _) a.lZ ⟨H.out.2.1,a.qb.lt⟩ A ?_;intro v9 w9 o L M;obtain⟨a9,n9c,rfl⟩:=kX o.fD;have v:=a.fq.fi o.fi<|kP a.jf a.fq A;apply i.out _ _ λ_=>⟨v.fg 1 _ U,v.fg 2 _ U⟩;apply iu 11;intro K i;go_simp;apply i.out _ _ λ_=>⟨v.fg 1 _ U,v.fg 2 _ U⟩;apply iu 12;intro K i;go_simp;apply i.out _ _ λ_=>⟨v.fg 1 _ U,v.fg 2 _ U⟩;have cb1:=v.fg 1 _ U;have fb1:=v.fC 1;have cb4:=v.fg 4 _ U;have fb4:=v.fC 4;have cb0:=v.fg 0 _ U;have fb0:=v.fC 0;have cb2:=v.fg 2 _ U;apply iu 13;intro K i;go_simp;apply i.out _ _ λp=>absurd A p;refine om fF ?_ _;have N:=fp λp r O=>a.jA (sb:=p) H.out.1 H.out.2.1 H.out.2.2.2 r O o L M U;go_wp2_with (go_at_call 145;refine(asj _ _).mono ?_;rintro e u ⟨⟨p,rfl,O,P⟩,r⟩;subst u);go_ret;have r:=N.out p O P;exact⟨U,r.1,_,_,_,r.2⟩
end
def nX(i:Nat)(z:Int):Prop:=match i with
 |0=>0<=z/\z<8
 |1=>0<=z/\z<8
 |2=>0<=z/\z<1000000
 |3=>0<=z/\z<1000000
 |4=>1<=z/\z<10
 |5=>-1<=z/\z<1000000
 |6=>-1<=z/\z<1000000
 |7=>0<=z/\z<16
 |_=>True
structure JU(n m:Nat)(c:List Int):Prop where
 iw:c.length=n
 gV:∀i,i<m->nX i (c.getD i 0)
def JU.iB(h:JU n m zQ)(i:Nat)(z:Int)(d:i<m->nX i z):JU n m (zQ.set i z):=by
 refine⟨by simp[h.iw],λj b=> ?_⟩;have:=h.gV j b;by_cases e:i=j
 .subst e;by_cases f:i<zQ.length
  .have a:(zQ.set i z).getD i 0=z:=by simp[ď,f]
   rw[a];exact d b
  .rw[List.set_eq_of_length_le Z];exact this
 .have a:(zQ.set i z).getD j 0=zQ.getD j 0:=by simp[ď,List.getElem?_set_ne e]
  rw[a];exact this
def R6(h:i<zQ.length)(z:Int):(zQ.set i z).getD i 0=z:=by simp[ď,h]
structure pZ(t:PT):Prop where
 c:JU 5 4 t.c
 p:t.p.size<=40/\∀c∈t.p.data.toList,Bo c=Î
structure yU(r:PR):Prop where
 c:JU 8 8 r.c
 tx:∀t∈r.tx,pZ t
 n:r.tx.length<=8
structure lT(d:PD):Prop where
 Ah:d.on=Ì->d.rs=[]/\d.ll=Ì
 no:d.ll=Ì->d.kG.tx=[]
 nq:d.fL.length<=24
 nt:d.gQ.length<=8
 rs:∀r∈d.rs,yU r
 kG:d.on=Î->JU 8 8 d.kG.c
 Nd:d.on=Î->∀t∈d.kG.tx,pZ t
 tx:d.ll=Î->pZ d.tx
structure kI(B:ByteArray)(k:Nat)(st:PS):Prop where
 d0:0<=st.fV
 d1:st.fV<=5
 s0:0<=st.jC
 s1:st.jC<=40
 kH:0<st.fV->(st.kH=86\/st.kH=87\/st.kH=110\/st.kH=107)/\st.d.on=Î/\0<=st.d.mQ st.kH/\st.d.mQ st.kH<10^(6-st.fV.toNat)
 d:lT st.d
 hr:st.d.on=Î\/st.iY=[82]
 Nf:82∈st.iY->st.d.fL.length<24
 yV:84∈st.iY\/80∈st.iY->st.d.ll=Î
 Ng:66∈st.iY->st.d.ll=Ì
 JV:80∈st.iY->st.iY=[80]/\st.fV=0
 mf:80∈st.iY->st.jC.toNat<=k/\∀j (h:j<B.size),k-st.jC.toNat<=j->j<k->Bo B[j]=Î
section
variable{d:PD}{st o:PS}
def lT.ad2(h:lT d)(on:d.on=Î):∀t∈d.gQ,pZ t:=by
 unfold PD.gQ;split
 .rename_i e;intro t a;rcases à.1 a with q|q
  .exact h.Nd on t q
  .rw[ŗ]at q;rw[q];exact h.tx e
 .exact h.Nd on
def lT.ad3(h:lT d):∀r∈d.fL,yU r:=by
 unfold PD.fL;split
 .rename_i e;intro r a;rcases à.1 a with q|q
  .exact h.rs r q
  .rw[ŗ]at q;rw[q];exact⟨h.kG e,h.ad2 e,h.nt⟩
 .exact h.rs
def BG(d:PD):d.fL.length=d.rs.length+(if d.on then 1 else 0):=by unfold PD.fL;split<;>simp
def Nh(d:PD):d.gQ.length=d.kG.tx.length+(if d.ll then 1 else 0):=by unfold PD.gQ;split<;>simp
def lT.qC(h:lT d)(i:Nat)(z:Int)(a:nX i z):lT (d.qC i z):= ⟨h.Ah,h.no,by have:=h.nq;rw[BG]at this|-;exact this,by have:=h.nt;rw[Nh]at this|-;exact this,h.rs,λe=>(h.kG e).iB i z λ_=>a,h.Nd,h.tx⟩
def lT.wz(h:lT d)(i:Nat)(z:Int)(a:i<4->nX i z):lT (d.wz i z):= ⟨h.Ah,h.no,by have:=h.nq;rw[BG]at this|-;exact this,by have:=h.nt;rw[Nh]at this|-;exact this,h.rs,h.kG,h.Nd,λe=>⟨(h.tx e).c.iB i z a,(h.tx e).p⟩⟩
def lT.lS(h:lT d)(i:Nat)(z:Int)(a:nX i z):lT (d.lS i z):=by
 unfold PD.lS;split
 .exact h.wz i z λ_=>a
 .exact h.qC i z a
def lT.iN(h:lT d)(p:ByteArray)(a:p.size<=40/\∀c∈p.data.toList,Bo c=Î):lT (d.iN p):= ⟨h.Ah,h.no,by have:=h.nq;rw[BG]at this|-;exact this,by have:=h.nt;rw[Nh]at this|-;exact this,h.rs,h.kG,h.Nd,λe=>⟨(h.tx e).c,a⟩⟩
def asC:pZ PD.JG:=⟨⟨U,λi a=>by
 match i,a with
 |0,_=>exact⟨A,A⟩
 |1,_=>exact⟨A,A⟩
 |2,_=>exact⟨A,A⟩
 |3,_=>exact⟨A,A⟩⟩,⟨A,λc b=>by cases b⟩⟩
def lT.xr(h:lT d)(on:d.on=Î)(a:d.gQ.length<8):lT d.xr:= ⟨(λe=>by have:d.on=Ì:=e;rw[on]at this;cases this),(λe=>by cases e),by have:=h.nq;rw[BG]at this|-;exact this,by rwa[Nh],h.rs,λe=>h.kG e,λ_=>h.ad2 on,λ_=>asC⟩
def lT.JK(h:lT d)(q:Int)(a:1<=q/\q<10)(b:d.fL.length<24):lT (d.JK q):= ⟨(λe=>by cases e),λ_=>rfl,by rwa[BG],by show(0:Nat)<=8;decide,h.ad3,λ_=>⟨U,λi c=>by
   match i,c with
   |0,_=>exact⟨by show(0:Int)<=0;decide,by show(0:Int)<8;decide⟩
   |1,_=>exact⟨by show(0:Int)<=0;decide,by show(0:Int)<8;decide⟩
   |2,_=>exact⟨by show(0:Int)<=0;decide,by show(0:Int)<1000000;decide⟩
   |3,_=>exact⟨by show(0:Int)<=0;decide,by show(0:Int)<1000000;decide⟩
   |4,_=>exact a
   |5,_=>exact⟨by show(-1:Int)<=0;decide,by show(0:Int)<1000000;decide⟩
   |6,_=>exact⟨by show(-1:Int)<=0;decide,by show(0:Int)<1000000;decide⟩
   |7,_=>exact⟨by show(0:Int)<=0;decide,by show(0:Int)<16;decide⟩⟩,(λ_ t f=>by cases f),(λe=>by cases e)⟩
def lT.gS(h:lT d)(a z:Int)(b:(a=86->nX 5 z)/\(a=87->nX 6 z)/\(a=120->nX 0 z)/\(a=121->nX 1 z)/\(a=110->nX 2 z)/\(a=107->nX 3 z)/\(a=115->nX 7 z)):lT (d.gS a z):=by
 let⟨c,e,f,g,i,j,k⟩:=b;unfold PD.gS;repeat' split
 .exact h.qC 5 z<|c ‹_›
 .exact h.qC 6 z<|e ‹_›
 .exact h.lS 0 z<|f ‹_›
 .exact h.lS 1 z<|g ‹_›
 .exact h.lS 2 z<|i ‹_›
 .exact h.lS 3 z<|j ‹_›
 .exact h.qC 7 z<|k ‹_›
 .exact h
def R7(d:PD)(a z:Int):(d.gS a z).on=d.on/\(d.gS a z).ll=d.ll/\(d.gS a z).fL.length=d.fL.length:=by
 unfold PD.gS PD.lS;repeat' split
 all_goals exact⟨U,U,(BG _).trans (BG d).symm⟩
def X2(h:lT d)(on:d.on=Î)(a z:Int)(f:a=86\/a=87\/a=110\/a=107):(d.gS a z).mQ a=z:=by
 have g:=(h.kG on).iw;have b:∀i,i<4->(d.lS i z).BF i=z:=λi j=>by
  unfold PD.lS;split
  .rename_i e;have k:=(h.tx e).c.iw;show(if d.ll=Î then(d.tx.c.set i z).getD i 0 else d.kG.c.getD i 0)=z;rw[if_pos e];exact R6 Z z
  .rename_i e;show(if d.ll=Î then d.tx.c.getD i 0 else(d.kG.c.set i z).getD i 0)=z;rw[if_neg e];exact R6 Z z
 rcases f with rfl|rfl|rfl|rfl
 .exact R6 Z z
 .exact R6 Z z
 .exact b 2 A
 .exact b 3 A
def R8:∀(l:List UInt8) (c:UInt8),á l c<l.length
 |[],_=>by show(-1:Int)<0;decide
 |a::l,c=>by
  have:=R8 l c;unfold á;split
  .simp
  .split<;>(simp;omega)
def X3:∀(l:List UInt8) (c:UInt8),c∈l->0<=á l c
 |[],_,h=>by cases h
 |a::l,c,h=>by
  unfold á;split
  .decide
  .rename_i e;rcases List.mem_cons.1 h with q|q
   .subst q;simp at e
   .have:=X3 l c q;split
    .rename_i b;rw[beq_iff_eq]at b;omega
    .omega
def ad4{l:List UInt8}(h:c.toNat∈l.map UInt8.toNat):c.toNat.toUInt8∈l:=by let⟨x,a,b⟩:=Ý.1 h;rw[<-b];simpa using a
def ad5(h:wx c=Î):0<=á [97,98,99,100,101,102,103,104] c.toNat.toUInt8:=by rw[ar5]at h;refine X3 _ _<|ad4 ?_;simp;omega
def asD(h:(j0 c||(decide (97<=c)&&decide (c<=102)))=Î):0<=á [48,49,50,51,52,53,54,55,56,57,97,98,99,100,101,102] c.toNat.toUInt8:=by simp only[Bool.or_eq_true,JJ,Bool.and_eq_true,decide_eq_true_eq]at h;refine X3 _ _<|ad4 ?_;simp;omega
def asE(a:tZ h c=Î):(h=86->nX 5 (qD h c))/\(h=87->nX 6 (qD h c))/\(h=120->nX 0 (qD h c))/\(h=121->nX 1 (qD h c))/\(h=110->nX 2 (qD h c))/\(h=107->nX 3 (qD h c))/\(h=115->nX 7 (qD h c)):=by
 unfold tZ at a;have b:(c==104||j0 c)=Î->-1<=(if c=104 then-1 else(c-48)%256)/\(if c=104 then(-1:Int)else(c-48)%256)<1000000:=λq=>by split<;>omega
 have d:j0 c=Î->0<=(if c=104 then-1 else(c-48)%256)/\(if c=104 then(-1:Int)else(c-48)%256)<1000000:=λq=>by rw[JJ]at q;rw[if_neg Z];omega
 refine⟨?_,?_,?_,?_,?_,?_,?_⟩<;>rintro rfl
 .exact b a
 .exact b a
 .exact⟨ad5 a,R8 _ _⟩
 .exact⟨ad5 a,R8 _ _⟩
 .exact d a
 .exact d a
 .exact⟨asD a,R8 _ _⟩
def asF{fV:Int}(a:j0 c=Î)(f:0<=h)(g:0<fV)(i:fV<=5)(b:h<10^(6-fV.toNat)):0<=xt h c/\xt h c<10^(6-(fV-1).toNat)/\xt h c<1000000:=by
 rw[JJ]at a;have d:h<100000->xt h c=h*10+(c-48):=λq=>by unfold xt;rw[ņ (h*10) ⟨Z,Z⟩,ņ _ ⟨Z,Z⟩];omega
 have e:fV=1\/fV=2\/fV=3\/fV=4\/fV=5:=Z
 rcases e with rfl|rfl|rfl|rfl|rfl<;>(simp at b|-;rw[d Z];omega)
def lT.fV(h:lT d)(want z:Int)(b:want=86\/want=87\/want=110\/want=107)(a:0<=z/\z<1000000):lT (d.gS want z):= h.gS want z ⟨λ_=>⟨Z,a.2⟩,λ_=>⟨Z,a.2⟩,λe=>by omega,λe=>by omega,λ_=>a,λ_=>a,λe=>by omega⟩
def kI.asG(h:kI B k st)(e:0<st.fV)(j:j0 c=Î):kI B (k+1) (M8 st c):=by
 let⟨a,b,l,m⟩:=h.kH e;let⟨f,n,o⟩:=asF j l e h.d1 m;let⟨g,i,p⟩:=R7 st.d st.kH<|xt (st.d.mQ st.kH) c;refine⟨by show 0<=st.fV-1;omega,by have:=h.d1;show st.fV-1<=5;omega,h.s0,h.s1,λ_=>⟨a,g.trans b,?_⟩,h.d.fV _ _ a ⟨f,o⟩,?_,λq=> ?_,λq=>i.trans<|h.yV q,λq=>i.trans<|h.Ng q,λq=> ?_,λq=> ?_⟩
 .show 0<=(st.d.gS st.kH<|xt (st.d.mQ st.kH) c).mQ st.kH/\(st.d.gS st.kH<|xt (st.d.mQ st.kH) c).mQ st.kH<10^(6-(st.fV-1).toNat);rw[X2 h.d b _ _ a];exact⟨f,n⟩
 .exact È<|g.trans b
 .show(st.d.gS st.kH<|xt (st.d.mQ st.kH) c).fL.length<24;rw[p];exact h.Nf q
 .have:=(h.JV q).2;omega
 .have:=(h.JV q).2;omega
def kI.si(h:kI B k st):kI B k {st with fV:=0}:= ⟨Ŭ _,by show(0:Int)<=5;decide,h.s0,h.s1,(λq=>by cases q),h.d,h.hr,h.Nf,h.yV,h.Ng,λq=>⟨(h.JV q).1,rfl⟩,h.mf⟩
def kI.on(h:kI B k st)(a:82∉st.iY):st.d.on=Î:=by
 rcases h.hr with q|q
 .exact q
 .rw[q]at a;exact absurd A a
def lT.asH(h:lT d)(a:d.ll=Î):d.on=Î:=by
 cases e:d.on with
 |true=>rfl
 |false=>have:=(h.Ah e).2;rw[a]at this;cases this
def ad6(h:kI B k st)(b:st.fV=0)(on:st.d.on=Î)(a:yR st c=Â o):kI B (k+1) o:=by
 unfold yR at a;split at a
 .rename_i e;cases a;refine⟨h.d0,h.d1,h.s0,h.s1,λq=> ?_,h.d,Ï U,λ_=> ?_,λq=> ?_,λq=> ?_,λq=> ?_,λq=> ?_⟩
  .have:0<st.fV:=q;omega
  .rw[BG,on];exact e.2
  .simp at q
  .simp at q
  .simp at q
  .simp at q
 .split at a
  .rename_i e;cases a;refine⟨h.d0,h.d1,h.s0,h.s1,λq=> ?_,h.d.xr on e.2.2,È on,λq=> ?_,λ_=>rfl,λq=> ?_,λq=> ?_,λq=> ?_⟩
   .have:0<st.fV:=q;omega
   .simp at q
   .simp at q
   .simp at q
   .simp at q
  .cases a
def asI(q:Int):82∉Aa q/\84∉Aa q/\80∉Aa q:=by
 unfold Aa;repeat' split
 all_goals decide
def asJ(q:Int):82∉Ab q/\84∉Ab q/\66∉Ab q/\(80∈Ab q->Ab q=[80]):=by
 unfold Ab;repeat' split
 all_goals decide
def asK(c:Int):0<=BD c/\BD c<10:=by
 unfold BD;repeat' split
 all_goals decide
def asL(h:kI B k st)(j:st.fV=0)(f:82∈st.iY)(a:Dk st (BD c)=Â o):kI B (k+1) o:=by
 unfold Dk at a;split at a
 .cases a
 .rename_i e;cases a;let⟨g,i,b⟩:=asI<|BD c;have l:=asK c;refine⟨h.d0,h.d1,h.s0,h.s1,λq=> ?_,h.d.JK _ Z<|h.Nf f,È U,λq=>absurd q g,λq=> ?_,λ_=>rfl,λq=>absurd q b,λq=>absurd q b⟩
  .have:0<st.fV:=q;omega
  .exact q.elim (λq=>absurd q i) λq=>absurd q b
def asM(h:kI B k st)(c:st.fV=0)(q:Int)(f:84∈st.iY)(a:Dl st q=Â o):kI B (k+1) o:=by
 unfold Dl at a;split at a
 .cases a
 .cases a;let⟨g,n,i,l⟩:=asJ q;have b:=h.yV<|È f;refine⟨h.d0,h.d1,Ŭ _,by show(0:Int)<=40;decide,λq=> ?_,h.d.wz 4 q λe=>by omega,È<|h.d.asH b,λq=>absurd q g,λ_=>b,λq=>absurd q i,λq=>⟨l q,c⟩,λ_=>⟨Ú _,λj _ m p=> ?_⟩⟩
  .have:0<st.fV:=q;omega
  .have:k+1-0<=j:=m;omega
def asN{a:Int}(h:0<wy a c):(a=86\/a=87)/\wy a c=1/\j0 c=Î/\c≠48\/(a=110\/a=107)/\wy a c=5/\j0 c=Î/\c≠48:=by
 unfold wy at h|-;by_cases e:c=48\/j0 c=Ì
 .rw[if_pos e]at h;omega
 .rw[if_neg e]at h|-;have d:j0 c=Î:=by cases q:j0 c with
   |true=>rfl
   |false=>exact absurd (Ï q) e
  have g:=λq=>e<|È q;by_cases f:a=86\/a=87
  .rw[if_pos f];exact È ⟨f,U,d,g⟩
  .rw[if_neg f]at h|-;by_cases b:a=110\/a=107
   .rw[if_pos b];exact Ï ⟨b,U,d,g⟩
   .rw[if_neg b]at h;omega
def ad7(h:kI B k st)(on:st.d.on=Î){want:Int}(n:tZ want c=Î)(r:List Int)(e:∀x∈r,x∈st.iY)(j:80∉r):kI B (k+1) {sU st want c with iY:=r}:=by
 let⟨f,l,o⟩:=R7 st.d want<|qD want c;have m:=ar9 want c;refine⟨m.1,m.2,h.s0,h.s1,λq=> ?_,h.d.gS _ _<|asE n,È<|f.trans on,λq=> ?_,λq=>l.trans<|h.yV<|q.imp (e _)<|e _,λq=>l.trans<|h.Ng<|e _ q,λq=>absurd q j,λq=>absurd q j⟩
 .have q:=q;show(want=86\/want=87\/want=110\/want=107)/\(st.d.gS want<|qD want c).on=Î/\0<=(st.d.gS want<|qD want c).mQ want/\(st.d.gS want<|qD want c).mQ want<10^(6-(wy want c).toNat);rcases asN q with⟨p,g,i,s⟩|⟨p,g,i,s⟩
  .have a:want=86\/want=87\/want=110\/want=107:=Z
   rw[X2 h.d on _ _ a,g];rw[JJ]at i;have:qD want c=(c-48)%256:=by unfold qD;rw[if_neg Z,if_neg Z,if_neg Z]
   have b:=f.trans on;rw[this]at b|-;exact⟨a,b,Z,by show(c-48)%256<100000;omega⟩
  .have a:want=86\/want=87\/want=110\/want=107:=Z
   rw[X2 h.d on _ _ a,g];rw[JJ]at i;have:qD want c=(c-48)%256:=by unfold qD;rw[if_neg Z,if_neg Z,if_neg Z]
   have b:=f.trans on;rw[this]at b|-;exact⟨a,b,Z,by show(c-48)%256<10;omega⟩
 .show(st.d.gS want<|qD want c).fL.length<24;rw[o];exact h.Nf<|e _ q
def asO{x:UInt8}(h:x∈(B.extract i b).data.toList):∃j,∃e:j<B.size,i<=j/\j<b/\B[j]=x:=by rw[Ļ,ń,İ]at h;obtain⟨c,d,rfl⟩:=Ħ h;simp only[ţ,List.length_drop,Č]at d;have f:B.data.size=B.size:=rfl;exact⟨i+c,Z,Z,Z,by simp[Ē]⟩
def asP(h:kI B k st)(l:st.fV=0)(H:k<B.size)(a:ou B k st (B[k].toNat:Int)=Â o):kI B (k+1) o:=by
 unfold ou at a;split at a
 .rename_i e;exact ad6 h l (h.on<|by rw[e];decide) a
 .rename_i u r e;have c:u∈st.iY:=by rw[e];exact List.mem_cons_self ..
  split at a
  .rename_i f;subst f;exact asL h l c a
  rename_i v;have i:st.d.on=Î:=by
   rcases h.hr with q|q
   .exact q
   .rw[q]at e;cases e;exact absurd U v
  split at a
  .rename_i f;subst f;split at a
   .rename_i w;cases a;have n:=h.Ng c;have b:st.d.gQ.length<8:=by rw[Nh,h.d.no n,n];decide
    have y:kI B k {st with iY:=[84],d:=st.d.xr}:=by
     refine⟨h.d0,h.d1,h.s0,h.s1,λq=> ?_,h.d.xr i b,È i,λq=> ?_,λ_=>rfl,λq=> ?_,λq=> ?_,λq=> ?_⟩
     .have:0<st.fV:=q;omega
     .simp at q
     .simp at q
     .simp at q
     .simp at q
    exact ad7 (want:=120) y i w [84] (λx b=>b) A
   .exact ad6 h l i a
  split at a
  .rename_i f;subst f;exact asM h l _ c a
  split at a
  .rename_i f;subst f;let⟨I,s⟩:=h.mf c;have n:=h.yV<|Ï c;have z:=(h.JV c).1;have J:=h.s0;have K:=h.s1;split at a
   .cases a;have C:r=[]:=by rw[z]at e;cases e;rfl
    subst C;refine⟨h.d0,h.d1,h.s0,h.s1,λq=> ?_,h.d.iN _ ⟨by rw[ĕ];omega,λx b=> ?_⟩,È i,λq=> ?_,λq=> ?_,λq=> ?_,λq=> ?_,λq=> ?_⟩
    .have:0<st.fV:=q;omega
    .obtain⟨j,p,m,t,rfl⟩:=asO b;exact s j p m t
    .cases q
    .rcases q with q|q<;>cases q
    .cases q
    .cases q
    .cases q
   .split at a
    .cases a
    .rename_i g;cases a;have L:=λq=>g<|È q;have D:=λq=>g<|Ï q;refine⟨h.d0,h.d1,by show 0<=st.jC+1;omega,by show st.jC+1<=40;omega,h.kH,h.d,h.hr,h.Nf,h.yV,h.Ng,h.JV,λ_=>⟨by show(st.jC+1).toNat<=k+1;omega,λj p m t=> ?_⟩⟩;have m:k+1-(st.jC+1).toNat<=j:=m;by_cases E:j=k
     .subst E;unfold Bo;simpa using D
     .exact s j p Z Z
  split at a
  .rename_i M N F G;cases a;refine ad7 h i G r (λx b=>by rw[e];exact ğ _ b) λq=> ?_;have:=(h.JV<|by rw[e];exact ğ _ q).1;rw[this]at e;cases e;exact F U
  .cases a
def ad8(h:kI B k st)(b:k<B.size)(a:yS B k st (B[k].toNat:Int)=Â o):kI B (k+1) o:=by
 unfold yS at a;split at a
 .rename_i e;cases a;exact h.asG e.1 e.2
 .exact asP h.si U b a
def X4(B:ByteArray):kI B 0 xv:= ⟨A,A,A,A,(λq=>by cases q),⟨λ_=>⟨rfl,rfl⟩,λ_=>rfl,A,A,(λr e=>by cases e),(λe=>by cases e),(λe=>by cases e),(λe=>by cases e)⟩,Ï rfl,λ_=>by decide,(λq=>by rcases q with q|q<;>simp[xv]at q),(λq=>by simp[xv]at q),(λq=>by simp[xv]at q),(λq=>by simp[xv]at q)⟩
def X5:∀(f k:Nat) (st:PS),kI B k st->k<=B.size->kI B (xu B f k st).1 (xu B f k st).2/\(xu B f k st).1<=B.size
 |0,k,st,h,hk=>⟨h,hk⟩
 |f+1,k,st,h,hk=>by
  unfold xu;split
  .rename_i a;split
   .exact⟨h,hk⟩
   .rename_i o e;exact X5 f (k+1) o (ad8 h a e) Z
  .exact⟨h,hk⟩
end
section
variable{g:Gh}{st:PS}
def ad9{d:PD}(i:Nat)(z:Int):g.ua (d.lS i z)=g.ua d:=by unfold PD.lS Gh.ua;split<;>simp[PD.wz,PD.qC, *]
def aea{d:PD}(h:i=2\/i=3)(z:Int):g.G4 (d.lS i z) (if i=2 then 110 else 107)=⟨g.ua d,i,Á⟩:=by
 rcases h with rfl|rfl
 .show(⟨g.ua<|d.lS 2 z,2,Á⟩:ý)=_;rw[ad9]
 .show(⟨g.ua<|d.lS 3 z,3,Á⟩:ý)=_;rw[ad9]
def aeb{d:PD}(on:d.on=Î):g.Ae d=Â ⟨g.q,0,Á⟩:=if_pos on
def asQ{d:PD}(on:d.on=Î):g.Dm d=Â ⟨g.ua d,0,Á⟩:=if_pos on
def QF(h:iR m b g O B st w)(j:st.fV=0)(on:st.d.on=Î)(a c:Int)(v:tZ a c=Î): Ò À 100 #[Ã<|Â ⟨b,0,Á⟩,Å Ų a,Å Ų c] w λe u=>e=Ç (ï #[])/\wB m b (sU st a c) w u:=by
 have G:w.cell? ⟨b,2,Á⟩=Â (Ã<|g.Ae st.d):=h.fq.fg 2 _ U;have x:w.cell? ⟨b,4,Á⟩=Â (Ã<|g.Dm st.d):=h.fq.fg 4 _ U;rw[aeb on]at G;rw[asQ on]at x;have H:=fp<|Ê h v;clear h v;generalize y:g.ua st.d=tm at x;have n:=fp y;clear y;by_cases o:a=86
 .subst o;have k:=fp (show sU st 86 c={st with fV:=Ai c 2,kH:=86,d:=st.d.qC 5 (pd c)}from by unfold sU;rw[<-R1 H.out.2 (È ⟨È U,U⟩),R3 A];rfl);go_enter Ą,Ā;go_wp2_with (go_at_call 147;refine(R0 H.out.1 (JO H.out.1.kA H.out.1.fq on (i:=5) A) j on _ _ 86 A A λz=>rfl).mono ?_;rintro e u ⟨rfl,l⟩);go_end0;exact⟨U,by rwa[k.out]⟩
 have I:(a==86)=Ì:=by rwa[beq_eq_false_iff_ne]
 by_cases p:a=87
 .subst p;have k:=fp (show sU st 87 c={st with fV:=Ai c 2,kH:=87,d:=st.d.qC 6 (pd c)}from by unfold sU;rw[<-R1 H.out.2 (È ⟨Ï U,U⟩),R3 A];rfl);go_enter Ą,Ā;go_wp2_with (go_at_call 147;refine(R0 H.out.1 (JO H.out.1.kA H.out.1.fq on (i:=6) A) j on _ _ 87 A A λz=>rfl).mono ?_;rintro e u ⟨rfl,l⟩);go_end0;exact⟨U,by rwa[k.out]⟩
 have J:(a==87)=Ì:=by rwa[beq_eq_false_iff_ne]
 by_cases q:a=120
 .subst q;have f:=fp ((by have:=JP H.out.1.kA H.out.1.fq on (i:=0) A;rw[n.out]at this;exact this:uf m b g st.d tm 0 (λz=>st.d.lS 0 z) (st.d.BF 0) w));have C:=f.out.fg;have D:=f.out.fz;have E:=f.out.ne;go_enter Ą,Ā;go_wp2_with fail;go_region_with (go_at_call 146;refine(M9 _ _ _).mono ?_;rintro e u ⟨rfl,F⟩;subst u);all_goals go_end0
  all_goals exact⟨U,XZ H.out.1 f.out j (R2 A) U⟩
 have K:(a==120)=Ì:=by rwa[beq_eq_false_iff_ne]
 by_cases r:a=121
 .subst r;have f:=fp ((by have:=JP H.out.1.kA H.out.1.fq on (i:=1) A;rw[n.out]at this;exact this:uf m b g st.d tm 1 (λz=>st.d.lS 1 z) (st.d.BF 1) w));have C:=f.out.fg;have D:=f.out.fz;have E:=f.out.ne;go_enter Ą,Ā;go_wp2_with fail;go_region_with (go_at_call 146;refine(M9 _ _ _).mono ?_;rintro e u ⟨rfl,F⟩;subst u);all_goals go_end0
  all_goals exact⟨U,XZ H.out.1 f.out j (R2 A) U⟩
 have L:(a==121)=Ì:=by rwa[beq_eq_false_iff_ne]
 by_cases s:a=110
 .subst s;have k:=fp (show sU st 110 c={st with fV:=Ai c 6,kH:=110,d:=st.d.lS 2 (pd c)}from by unfold sU;rw[<-R1 H.out.2 (Ï ⟨È U,U⟩),R3 A];rfl);go_enter Ą,Ā;go_wp2_with (go_at_call 147;refine(R0 H.out.1 ((by have:=JP H.out.1.kA H.out.1.fq on (i:=2) A;rw[n.out]at this;exact this:uf m b g st.d tm 2 (λz=>st.d.lS 2 z) (st.d.BF 2) w)) j on _ _ 110 A A λz=>(by have:=aea (g:=g) (d:=st.d) (i:=2) (È U) z;rwa[n.out]at this)).mono ?_;rintro e u ⟨rfl,l⟩);go_end0;exact⟨U,by rwa[k.out]⟩
 have M:(a==110)=Ì:=by rwa[beq_eq_false_iff_ne]
 by_cases t:a=107
 .subst t;have k:=fp (show sU st 107 c={st with fV:=Ai c 6,kH:=107,d:=st.d.lS 3 (pd c)}from by unfold sU;rw[<-R1 H.out.2 (Ï ⟨Ï U,U⟩),R3 A];rfl);go_enter Ą,Ā;go_wp2_with (go_at_call 147;refine(R0 H.out.1 ((by have:=JP H.out.1.kA H.out.1.fq on (i:=3) A;rw[n.out]at this;exact this:uf m b g st.d tm 3 (λz=>st.d.lS 3 z) (st.d.BF 3) w)) j on _ _ 107 A A λz=>(by have:=aea (g:=g) (d:=st.d) (i:=3) (Ï U) z;rwa[n.out]at this)).mono ?_;rintro e u ⟨rfl,l⟩);go_end0;exact⟨U,by rwa[k.out]⟩
 have l:(a==107)=Ì:=by rwa[beq_eq_false_iff_ne]
 by_cases k:a=115
 .subst k;have f:=fp<|JO H.out.1.kA H.out.1.fq on (i:=7) A;have C:=f.out.fg;have D:=f.out.fz;have E:=f.out.ne;go_enter Ą,Ā;go_wp2_with fail;go_region_with (go_at_call 146;refine(M9 _ _ _).mono ?_;rintro e u ⟨rfl,F⟩;subst u);all_goals go_end0
  all_goals exact⟨U,XZ H.out.1 f.out j (R2 A) U⟩
 have f:(a==115)=Ì:=by rwa[beq_eq_false_iff_ne]
 go_enter Ą,Ā;go_wp2;go_end0;refine⟨U,ff.fY _ _,g,O,B,?_⟩;have e:sU st a c={st with kH:=a}:=by unfold sU PD.gS;rw[R2 ⟨Z,Z⟩,if_neg o,if_neg p,if_neg q,if_neg r,if_neg s,if_neg t,if_neg k,<-j]
 rw[e];exact H.out.1.XX a j
end
section
variable{g:Gh}{s:ByteArray}{st:PS}{d:PD}
def R9(m b:Nat)(o:Option PS)(e:Ending)(w u:Ë):Prop:=
 (o=Á/\e=Ç (û Ì)/\u=w)\/∃a,o=Â a/\e=Ç (û Î)/\wB m b a w u
def aec{o:Option PS}{e:Ending}(h:match o with
 |none=>e=Ç (û Ì)/\u=w
 |some a=>e=Ç (û Î)/\wB m b a w u):R9 m b o e w u:=by
 cases o with
 |none=>exact È ⟨U,h⟩
 |some a=>exact Ï ⟨a,U,h⟩
def asR{d:PD}(on:d.on=Î):d.fL.length=d.rs.length+1:=by rw[BG,on];rfl
def aed(h:iR m b g O s st w)(j:st.fV=0)(on:st.d.on=Î)(y:st.d.gQ.length<=8)(z:st.d.fL.length<=24)(c:Int): Ò À 95 #[Ã<|Â ⟨b,0,Á⟩,Å Ų c] w λe u=>R9 m b (yR st c) e w u:=by
 have l:=h.kA.on on;let⟨I,J,p⟩:=kX h.kA.jf;let⟨K,L,q⟩:=kX l.jf;rw[h.kA.adR]at p;rw[l.adS]at q;have M:=h.fq.fg 0 _ U;have r:=h.fq.fg 1 _ U;have B:=h.fq.fg 2 _ U;rw[aeb on]at B;rw[p]at r;have t:=l.fu.fg 8 _ (by have:=G5 st.d.kG.c g.vb;rwa[l.iw]at this);rw[q]at t;have N:=h.fq.fC 0;obtain⟨v,f⟩:∃n,st.d.fL.length=n:=⟨_,U⟩;obtain⟨x,i⟩:∃n,st.d.gQ.length=n:=⟨_,U⟩;rw[f]at r z;rw[i]at t y;have k:st.d.rs.length+1=v:=by rw[<-f];exact(asR on).symm
 have H:=fp<|Ê h<|Ê f<|Ê i<|Ê k j;by_cases C:c=59/\v<24
 .obtain⟨rfl,a⟩:=C;go_enter ŭ,ş;go_wp2;go_ret;let⟨h,f,i,k,j⟩:=H.out;exact Ï ⟨_,by rw[yR,if_pos ⟨U,Z⟩],U,ov h 0 _,g,O,_,h.RZ _ [82] A A<|È on⟩
 by_cases D:c=44/\0<x/\x<8
 .obtain⟨rfl,P,Q⟩:=D;go_enter ŭ,ş;go_wp2_with (go_at_call 99;refine(adZ H.out.1 H.out.2.2.2.2 on (by have:=H.out.2.2.1;omega)).mono ?_;rintro e u ⟨rfl,o,E,F,T,a⟩;have V:=a.fq.fg 0 _ U;have W:=a.fq.fC 0;have G:=fp<|Ê o a;clear o a);go_ret;let⟨h,f,i,k,j⟩:=H.out;let⟨o,a⟩:=G.out;exact Ï ⟨_,by rw[yR,if_neg Z,if_pos ⟨U,Z,Z⟩],U,o.fl<|ov a 0 _,E,F,_,a.RZ _ [120,84] A A<|È on⟩
 .have a:=fp (show yR st c=Á by
   let⟨h,f,i,k,j⟩:=H.out;rw[yR,if_neg Z,if_neg Z])
  go_enter ŭ,ş;go_wp2_with fail;all_goals first|(go_ret;exact È ⟨a.out,U,U⟩)|(exfalso;simp only[beq_iff_eq,decide_eq_true_eq]at*;omega)
def mC:η->Option η
 |ŏ c=>Â c
 |.seq a b=>match mC a with
  |some c=>Â c
  |none=>mC b
 |.block _ c=>mC c
 |.scope c=>mC c
 |.cond _ a b=>match mC a with
  |some c=>Â c
  |none=>mC b
 |_=>Á
noncomputable def ug:η:=(Tryz.f61.body.bind mC).getD aD
def sY(b:Nat)(B:ByteArray)(i:Ñ)(u:Nat->Ñ):Ď:=⟨#[Ã<|Â ⟨b,0,Á⟩,Ä B,ł,ł,Å É 0,i,u 6,u 7,u 8,u 9,u 10,u 11,u 12,u 13,u 14,u 15,u 16,u 17,u 18,u 19,u 20,u 21,u 22,u 23,u 24,u 25,u 26,u 27,u 28,u 29,u 30,u 31,u 32,u 33,u 34,u 35,u 36,u 37,u 38,u 39,u 40,u 41,u 42,u 43,u 44,u 45,u 46,u 47,u 48,u 49,u 50,u 51,u 52,u 53,u 54,u 55,u 56,u 57,u 58,u 59,u 60,u 61,u 62,u 63,u 64,u 65,u 66,u 67,u 68,u 69,u 70,u 71,u 72,u 73,u 74,u 75,u 76,u 77,u 78,u 79,u 80,u 81,u 82,u 83,u 84,u 85,u 86,u 87,u 88,u 89,u 90,u 91,u 92,u 93,u 94,u 95,u 96,u 97,u 98,u 99,u 100,u 101,u 102,u 103,u 104,u 105,u 106,u 107,u 108,u 109,u 110,u 111,u 112,u 113,u 114,u 115,u 116,u 117,u 118,u 119,u 120,u 121,u 122,u 123,u 124,u 125,u 126,u 127,u 128,u 129,u 130,u 131,u 132,u 133,u 134,u 135,u 136,u 137,u 138,u 139,u 140,u 141,u 142,u 143,u 144,u 145,u 146],[]⟩
def Fr(b:Nat)(B:ByteArray)(i:Ñ)(a:Ď):Prop:=∃u,a=sY b B i u
def gL{b:Nat}{B:ByteArray}{i:Value}{a:Act}(h:a=sY b B i (λn=>a.tmps.getD n undef):=by rfl):Fr b B i a:=⟨_,h⟩
def QQ(X:Ď->Ë->Prop):Exit->Ď->Ë->Prop
 |.exit 0,a,w=>X a w
 |_,_,_=>False
def wD(m b:Nat)(B:ByteArray)(k:Nat)(st:PS)(wr u:Ë):Prop:=∃(h:k<B.size) (h:PS),yS B k st (B[k].toNat:Int)=Â h/\wB m b h wr u
def wE(m b:Nat)(B:ByteArray)(k:Nat)(st:PS)(wr u:Ë):Prop:=∃h:k<B.size,yS B k st (B[k].toNat:Int)=Á/\∃a,wB m b a wr u
def yW{d:Int}(h:(0<d/\yQ=Ì)\/d<=0):¬(0<d/\yQ=Î):=by
 rintro⟨b,a⟩;rcases h with⟨_,h⟩|h
 .rw[h]at a;cases a
 .omega
def yY(h:¬(0<st.fV/\j0 c=Î)):yS B k st c=ou B k {st with fV:=0} c:=if_neg h
def asS(a:0<st.fV)(b:j0 c=Î):yS B k st c=Â (M8 st c):=if_pos ⟨a,b⟩
section
variable{want:Int}{tl:List Int}
def asT(h:st.iY=[]):ou B k st c=yR st c:=by rw[ou,h]
def asU(h:st.iY=want::tl)(a:want=82):ou B k st c=Dk st (BD c):=by rw[ou,h];simp only;rw[if_pos a]
def asV(h:st.iY=want::tl)(a:want=66)(b:wx c=Î):ou B k st c=Â (sU {st with iY:=[84],d:=st.d.xr} 120 c):=by rw[ou,h];simp only;rw[if_neg Z,if_pos a,if_pos b]
def asW(h:st.iY=want::tl)(a:want=66)(b:wx c=Ì):ou B k st c=yR st c:=by rw[ou,h];simp only;rw[if_neg Z,if_pos a,if_neg (by rw[b];decide)]
def asX(h:st.iY=want::tl)(a:want=84):ou B k st c=Dl st (RU c):=by rw[ou,h];simp only;rw[if_neg Z,if_neg Z,if_pos a]
def asY(h:st.iY=want::tl)(a:want=80)(b:c=125):ou B k st c=Â {st with iY:=tl,d:=st.d.iN (B.extract (k-st.jC.toNat) k)}:=by rw[ou,h];simp only;rw[if_neg Z,if_neg Z,if_neg Z,if_pos a,if_pos b]
def aee(h:st.iY=want::tl)(a:want=80)(b:¬c=125)(d:st.jC=40\/nT c=0):ou B k st c=Á:=by rw[ou,h];simp only;rw[if_neg Z,if_neg Z,if_neg Z,if_pos a,if_neg b,if_pos d]
def asZ(h:st.iY=want::tl)(a:want=80)(b:¬c=125)(d:¬st.jC=40)(e:¬nT c=0):ou B k st c=Â {st with jC:=st.jC+1}:=by rw[ou,h];simp only;rw[if_neg Z,if_neg Z,if_neg Z,if_pos a,if_neg b,if_neg Z]
def as0(h:st.iY=want::tl)(a:¬want=82)(b:¬want=66)(d:¬want=84)(e:¬want=80)(f:tZ want c=Î):ou B k st c=Â {sU st want c with iY:=tl}:=by rw[ou,h];simp only;rw[if_neg a,if_neg b,if_neg d,if_neg e,if_pos f]
def as1(h:st.iY=want::tl)(a:¬want=82)(b:¬want=66)(d:¬want=84)(e:¬want=80)(f:tZ want c=Ì):ou B k st c=Á:=by rw[ou,h];simp only;rw[if_neg a,if_neg b,if_neg d,if_neg e,if_neg (by rw[f];decide)]
end
def yZ(c:UInt8):(0:Int)<=(c.toNat:Int)/\(c.toNat:Int)<256:=⟨Int.natCast_nonneg _,by have:=c.toNat_lt;omega⟩
def X6(s:ByteArray)(h:s.size=0):(s.toList==[])=Î:=by
 have:s.toList.length=0:=by rwa[ħ]
 rw[Ó this];rfl
def xx(s:ByteArray)(h:¬s.size=0):(s.toList==[])=Ì:=by
 rw[beq_eq_false_iff_ne];intro e;have:s.toList.length=s.size:=by rw[ħ];rfl
 rw[e]at this;exact h this.symm
def iR.as2(h:iR m b g O s st w)(on:st.d.on=Î)(i:c=86\/c=87\/c=110\/c=107):∃a e f,g.G4 st.d c=⟨a,e,Á⟩/\uf m b g st.d a e f (st.d.mQ c) w/\∀z,f z=st.d.gS c z:=by
 rcases i with rfl|rfl|rfl|rfl
 .exact⟨_,_,_,U,JO h.kA h.fq on A,λz=>rfl⟩
 .exact⟨_,_,_,U,JO h.kA h.fq on A,λz=>rfl⟩
 .exact⟨_,_,_,U,JP h.kA h.fq on A,λz=>rfl⟩
 .exact⟨_,_,_,U,JP h.kA h.fq on A,λz=>rfl⟩
def iR.iN(h:iR m b g O s st w)(on:st.d.on=Î)(a:st.d.ll=Î)(p:ByteArray):iR m b g O s {st with d:=st.d.iN p} (w.setCell ⟨g.t,5,Á⟩<|Ä p)/\ff (λi=>m<=i) w (w.setCell ⟨g.t,5,Á⟩<|Ä p):=by have l:=h.kA.on on;let⟨f,j,c⟩:=l.xw a;have e:ff (λi=>i=g.t) w (w.setCell ⟨g.t,5,Á⟩<|Ä p):=sX c;exact⟨⟨h.mb,h.lZ.iB _ trivial,h.fq.fi e λx=>fw.fX h.fq c A x,h.hs,h.ht,h.kA.iN on a p,h.nm,h.hr⟩,e.ft λi _ x=>by have:=l.mB;omega⟩
def iR.BW(h:iR m b g O s st w)(on:st.d.on=Î)(a:st.iY=c::zQ):iR m b g O (s.extract 1 s.size) {st with iY:=zQ} (w.setCell ⟨b,0,Á⟩<|Ä<|s.extract 1 s.size):= h.RZ _ zQ (ar8 s h.hs) (by rw[ar7,h.ht,a];rfl)<|È on
def iR.RF(h:iR m b g O s st w)(a:st.iY=c::zQ):0<s.size:=by have:=XP s;rw[h.ht,a]at this;simp at this;omega
end
section
variable{g:Gh}{s:ByteArray}{st:PS}{d:PD}
def as3(h:iR m b g O s st w)(a:st.fV=0)(c:st.d.on=Ì->st.d.rs=[])(f:st.d.fL.length<=100000)(k:Int): Ò À 96 #[Ã<|Â ⟨b,0,Á⟩,Å É k] w λe u=>R9 m b (Dk st k) e w u:=(asB h a c f k).mono λ_ _ q=>aec q
def as4(h:iR m b g O s st w)(a:st.fV=0)(on:st.d.on=Î)(c:st.d.ll=Î)(k:Int): Ò À 101 #[Ã<|Â ⟨b,0,Á⟩,Å É k] w λe u=>R9 m b (Dl st k) e w u:=(asr h a on c k).mono λ_ _ q=>aec q
def as5{X:Ď->Ë->Prop}{wr:Ë}{a:Ď}(F:Fr b B (Å É k) a) (h:iR m b g O s st wr) (i:kI B k st) (P:B.size<=1200) (G:k<B.size) (n:0<st.fV) (H:j0 (B[k].toNat:Int)=Î) (Q:∀a u,Fr b B (Å É<|(k:Int)+1) a/\wD m b B k st wr u->K a u) (_hQ:∀a u,Fr b B (Å É k) a/\wE m b B k st wr u->X a u): ä À ug (Exit.then K<|QQ X) a wr:=by
 obtain⟨c,rfl⟩:=F;unfold sY;conv=>arg 2;whnf
 have T:wr.cell? ⟨b,0,Á⟩=Â (Ä s):=h.fq.fg 0 _ U;have V:wr.cell? ⟨b,6,Á⟩=Â (Å É st.fV):=h.fq.fg 6 _ U;have W:wr.cell? ⟨b,7,Á⟩=Â (Å É st.jC):=h.fq.fg 7 _ U;have Y:=h.fq.fC 0;have f6:=h.fq.fC 6;have f7:=h.fq.fC 7;have d0:=i.d0;have d1:=i.d1;have e0:=i.s0;have e1:=i.s1;let⟨q,on,_,_⟩:=i.kH n;let⟨r,ao,f,t,j,v⟩:=h.as2 on q;have I:wr.cell? ⟨b,5,Á⟩=Â (Ã O):=h.fq.fg 5 _ U;rw[(h.nm n).2,t]at I;obtain⟨x,o⟩:∃x,st.d.mQ st.kH=x:=⟨_,U⟩;have J:=j.fg;rw[o]at J;have fm:=j.fz;obtain⟨L,M⟩:∃y,wrap64 (x*10)=y:=⟨_,U⟩;obtain⟨l,N⟩:∃y,wrap64 (L+((B[k].toNat:Int)-48)%256)=y:=⟨_,U⟩;have Sb:¬r=b:=j.ne;have Sc:¬b=r:=λe=>j.ne e.symm;have w:=h.wC (st.fV-1) λ_=>h.nm n;have p:=j.rd 6<|Å É<|st.fV-1;have z:=w.iL p l;have C:xt (st.d.mQ st.kH) (B[k].toNat:Int)=l:=by rw[xt,ũ,ũ,o,M,N]
 have D:M8 st (B[k].toNat:Int)={st with fV:=st.fV-1,d:=f l}:=by rw[M8,C,v]
 have E:Hid (yS B k st (B[k].toNat:Int)=Â {st with fV:=st.fV-1,d:=f l}/\wB m b {st with fV:=st.fV-1,d:=f l} wr (ae _)):= fp ⟨by rw[asS n H,D],(((ov h 6 _).fl<|JQ (st:=st) p _).kj (ff.gi (λ_=>False) _) λ_ _ x=>x.elim),g,O,s,z.gi⟩;clear w p z C D j v t h i o q;go_wp2_with (go_at_call 94;refine(wA _ _).mono ?_;rintro e u ⟨rfl,hw⟩;subst u);go_region;all_goals
  go_wp2;exact⟨gL,⟨G,_,E.out.1,E.out.2⟩⟩
def as6{X:Ď->Ë->Prop}{wr:Ë}(x:Fr b B (Å É k) y) (i:iR m b g O s st wr) (j:kI B k st) (P:B.size<=1200) (l:k<B.size) (n:(0<st.fV/\j0 (B[k].toNat:Int)=Ì)\/st.fV<=0) (o:s.size=0) (Q:∀y u,Fr b B (Å É<|(k:Int)+1) y/\wD m b B k st wr u->K y u) (z:∀y u,Fr b B (Å É k) y/\wE m b B k st wr u->X y u): ä À ug (Exit.then K<|QQ X) y wr:=by
 obtain⟨f,rfl⟩:=x;unfold sY;conv=>arg 2;whnf
 have T:wr.cell? ⟨b,0,Á⟩=Â (Ä s):=i.fq.fg 0 _ U;have V:wr.cell? ⟨b,6,Á⟩=Â (Å É st.fV):=i.fq.fg 6 _ U;have W:wr.cell? ⟨b,7,Á⟩=Â (Å É st.jC):=i.fq.fg 7 _ U;have Y:=i.fq.fC 0;have f6:=i.fq.fC 6;have f7:=i.fq.fC 7;have d0:=j.d0;have d1:=j.d1;have e0:=j.s0;have e1:=j.s1;have p:=fp<|yY (B:=B) (k:=k)<|yW n;have r:=i.wC 0 λh=>absurd h A;have t:=fp<|ov i 6<|Å É 0;have C:=j.d.nq;have D:=j.d.nt;have E:=fp r;let⟨ye,Dn⟩:=yZ B[k];have uN:=X6 s o;have h:st.iY=[]:=by rw[<-i.ht];exact adN s o
 have F:st.d.on=Î:=by
  rcases i.hr with q|q
  .exact q
  .rw[h]at q;cases q
 have v:=fp<|asT (B:=B) (k:=k) (c:=(B[k].toNat:Int)) (st:={st with fV:=0}) h;clear h i j;rcases n with⟨G,pE⟩|G;all_goals
  go_wp2_with (first|(go_at_call 94;refine(wA _ _).mono ?_;rintro e u ⟨rfl,w⟩;subst u)|(go_at_call 95;refine(aed r U F D C _).mono ?_;rintro e u (⟨q,rfl,w⟩|⟨H,q,rfl,I,J,L,M,N⟩)))
  .subst w;exact z _ _ ⟨gL,⟨l,p.out.trans<|v.out.trans q,_,t.out,_,_,_,E.out⟩⟩
  .exact⟨gL,⟨l,H,p.out.trans<|v.out.trans q,t.out.fl I,J,L,M,N⟩⟩
def as7{X:Ď->Ë->Prop}{wr:Ë}(x:Fr b B (Å É k) y) (i:iR m b g O s st wr) (j:kI B k st) (N:B.size<=1200) (o:k<B.size) (p:(0<st.fV/\j0 (B[k].toNat:Int)=Ì)\/st.fV<=0) (q:0<s.size) (l:((s[0]'q).toNat:Int)=82) (P:∀y u,Fr b B (Å É<|(k:Int)+1) y/\wD m b B k st wr u->K y u) (z:∀y u,Fr b B (Å É k) y/\wE m b B k st wr u->X y u): ä À ug (Exit.then K<|QQ X) y wr:=by
 obtain⟨f,rfl⟩:=x;unfold sY;conv=>arg 2;whnf
 have Q:wr.cell? ⟨b,0,Á⟩=Â (Ä s):=i.fq.fg 0 _ U;have T:wr.cell? ⟨b,6,Á⟩=Â (Å É st.fV):=i.fq.fg 6 _ U;have V:wr.cell? ⟨b,7,Á⟩=Â (Å É st.jC):=i.fq.fg 7 _ U;have W:=i.fq.fC 0;have Y:=i.fq.fC 6;have f7:=i.fq.fC 7;have d0:=j.d0;have d1:=j.d1;have e0:=j.s0;have e1:=j.s1;have r:=fp<|yY (B:=B) (k:=k)<|yW p;have t:=i.wC 0 λh=>absurd h A;have v:=fp<|ov i 6<|Å É 0;have zC:=j.d.nq;have Dp:=j.d.nt;have C:=fp t;let⟨ye,Dn⟩:=yZ B[k];have uN:=xx s Z;have BH:s.size<=10:=i.hs;have D:=fp (show st.iY=(s[0].toNat:Int)::(lA s).tail by rw[<-i.ht];exact Ac s q);have w:=fp<|asU (B:=B) (k:=k) (c:=(B[k].toNat:Int)) (st:={st with fV:=0}) D.out l;have BJ:((s[0].toNat:Int)==82)=Î:=by rw[l];rfl
 have E:=fp λe=>(j.d.Ah e).1;clear l i j;rcases p with⟨F,pE⟩|F;all_goals
  go_wp2_with (first|(go_at_call 94;refine(wA _ _).mono ?_;rintro e u ⟨rfl,h⟩;subst u)|(go_at_call 97;refine(asi _ _).mono ?_;rintro e u ⟨rfl,h⟩;subst u)|(go_at_call 96;refine(as3 t U E.out (by show st.d.fL.length<=100000;omega) _).mono ?_;rintro e u (⟨n,rfl,h⟩|⟨G,n,rfl,H,I,J,L,M⟩)))
  .subst h;exact z _ _ ⟨gL,⟨o,r.out.trans<|w.out.trans n,_,v.out,_,_,_,C.out⟩⟩
  .exact⟨gL,⟨o,G,r.out.trans<|w.out.trans n,v.out.fl H,I,J,L,M⟩⟩
end
section
variable{g:Gh}{s:ByteArray}{st:PS}{d:PD}
def as8{X:Ď->Ë->Prop}{wr:Ë}(t:Fr b B (Å É k) y) (f:iR m b g O s st wr) (i:kI B k st) (L:B.size<=1200) (v:k<B.size) (l:(0<st.fV/\j0 (B[k].toNat:Int)=Ì)\/st.fV<=0) (n:0<s.size) (j:((s[0]'n).toNat:Int)=66) (o:wx (B[k].toNat:Int)=Î) (M:∀y u,Fr b B (Å É<|(k:Int)+1) y/\wD m b B k st wr u->K y u) (_hQ:∀y u,Fr b B (Å É k) y/\wE m b B k st wr u->X y u): ä À ug (Exit.then K<|QQ X) y wr:=by
 obtain⟨c,rfl⟩:=t;unfold sY;conv=>arg 2;whnf
 have N:wr.cell? ⟨b,0,Á⟩=Â (Ä s):=f.fq.fg 0 _ U;have P:wr.cell? ⟨b,6,Á⟩=Â (Å É st.fV):=f.fq.fg 6 _ U;have Q:wr.cell? ⟨b,7,Á⟩=Â (Å É st.jC):=f.fq.fg 7 _ U;have T:=f.fq.fC 0;have V:=f.fq.fC 6;have W:=f.fq.fC 7;have Y:=i.d0;have d1:=i.d1;have e0:=i.s0;have e1:=i.s1;have w:=fp<|yY (B:=B) (k:=k)<|yW l;have p:=f.wC 0 λh=>absurd h A;have x:=fp<|ov f 6<|Å É 0;have zC:=i.d.nq;have Dp:=i.d.nt;have HH1:=fp p;let⟨z,C⟩:=yZ B[k];have uN:=xx s Z;have BH:s.size<=10:=f.hs;have h:=fp (show st.iY=(s[0].toNat:Int)::(lA s).tail by rw[<-f.ht];exact Ac s n);have r:st.d.on=Î:=by
  rcases f.hr with q|q
  .exact q
  .rw[h.out]at q;injection q with q;omega
 have q:=fp<|asV (B:=B) (k:=k) (st:={st with fV:=0}) h.out j o;have BJ:((s[0].toNat:Int)==82)=Ì:=by rw[j];rfl
 have JX:((s[0].toNat:Int)==66)=Î:=by rw[j];rfl
 clear j f i;rcases l with⟨D,pE⟩|D;all_goals
  go_wp2_with (first|(go_at_call 94;refine(wA _ _).mono ?_;rintro e u ⟨rfl,E⟩;subst u)|(go_at_call 98;refine(XQ _ z C _).mono ?_;rintro e u ⟨rfl,E⟩;subst u)|(go_at_call 99;refine(adZ p U r<|by show st.d.gQ.length<=100000;omega).mono ?_;rintro e u ⟨rfl,E,G,H,I,F⟩)|(go_at_call 100;refine(QF F U r _ _<|show tZ 120 _=Î from o).mono ?_;rintro e w'' ⟨rfl,F,G,H,I,J⟩))
  exact⟨gL,⟨v,_,w.out.trans q.out,x.out.fl<|E.fl F,G,H,I,J⟩⟩
def as9{X:Ď->Ë->Prop}{wr:Ë}(x:Fr b B (Å É k) y) (f:iR m b g O s st wr) (i:kI B k st) (V:B.size<=1200) (l:k<B.size) (n:(0<st.fV/\j0 (B[k].toNat:Int)=Ì)\/st.fV<=0) (o:0<s.size) (j:((s[0]'o).toNat:Int)=66) (z:wx (B[k].toNat:Int)=Ì) (W:∀y u,Fr b B (Å É<|(k:Int)+1) y/\wD m b B k st wr u->K y u) (C:∀y u,Fr b B (Å É k) y/\wE m b B k st wr u->X y u): ä À ug (Exit.then K<|QQ X) y wr:=by
 obtain⟨c,rfl⟩:=x;unfold sY;conv=>arg 2;whnf
 have Y:wr.cell? ⟨b,0,Á⟩=Â (Ä s):=f.fq.fg 0 _ U;have c6:wr.cell? ⟨b,6,Á⟩=Â (Å É st.fV):=f.fq.fg 6 _ U;have c7:wr.cell? ⟨b,7,Á⟩=Â (Å É st.jC):=f.fq.fg 7 _ U;have f0:=f.fq.fC 0;have f6:=f.fq.fC 6;have f7:=f.fq.fC 7;have d0:=i.d0;have d1:=i.d1;have e0:=i.s0;have e1:=i.s1;have p:=fp<|yY (B:=B) (k:=k)<|yW n;have r:=f.wC 0 λh=>absurd h A;have t:=fp<|ov f 6<|Å É 0;have D:=i.d.nq;have E:=i.d.nt;have F:=fp r;let⟨G,H⟩:=yZ B[k];have uN:=xx s Z;have BH:s.size<=10:=f.hs;have v:=fp (show st.iY=(s[0].toNat:Int)::(lA s).tail by rw[<-f.ht];exact Ac s o);have I:st.d.on=Î:=by
  rcases f.hr with q|q
  .exact q
  .rw[v.out]at q;injection q with q;omega
 have w:=fp<|asW (B:=B) (k:=k) (st:={st with fV:=0}) v.out j z;have BJ:((s[0].toNat:Int)==82)=Ì:=by rw[j];rfl
 have JX:((s[0].toNat:Int)==66)=Î:=by rw[j];rfl
 clear j f i;rcases n with⟨J,pE⟩|J;all_goals
  go_wp2_with (first|(go_at_call 94;refine(wA _ _).mono ?_;rintro e u ⟨rfl,h⟩;subst u)|(go_at_call 98;refine(XQ _ G H _).mono ?_;rintro e u ⟨rfl,h⟩;subst u)|(go_at_call 95;refine(aed r U I E D _).mono ?_;rintro e u (⟨q,rfl,h⟩|⟨L,q,rfl,M,N,P,Q,T⟩)))
  .subst h;exact C _ _ ⟨gL,⟨l,p.out.trans<|w.out.trans q,_,t.out,_,_,_,F.out⟩⟩
  .exact⟨gL,⟨l,L,p.out.trans<|w.out.trans q,t.out.fl M,N,P,Q,T⟩⟩
def ata{X:Ď->Ë->Prop}{wr:Ë}(z:Fr b B (Å É k) y) (i:iR m b g O s st wr) (j:kI B k st) (P:B.size<=1200) (o:k<B.size) (p:(0<st.fV/\j0 (B[k].toNat:Int)=Ì)\/st.fV<=0) (r:0<s.size) (l:((s[0]'r).toNat:Int)=84) (Q:∀y u,Fr b B (Å É<|(k:Int)+1) y/\wD m b B k st wr u->K y u) (C:∀y u,Fr b B (Å É k) y/\wE m b B k st wr u->X y u): ä À ug (Exit.then K<|QQ X) y wr:=by
 obtain⟨f,rfl⟩:=z;unfold sY;conv=>arg 2;whnf
 have T:wr.cell? ⟨b,0,Á⟩=Â (Ä s):=i.fq.fg 0 _ U;have V:wr.cell? ⟨b,6,Á⟩=Â (Å É st.fV):=i.fq.fg 6 _ U;have W:wr.cell? ⟨b,7,Á⟩=Â (Å É st.jC):=i.fq.fg 7 _ U;have Y:=i.fq.fC 0;have f6:=i.fq.fC 6;have f7:=i.fq.fC 7;have d0:=j.d0;have d1:=j.d1;have e0:=j.s0;have e1:=j.s1;have t:=fp<|yY (B:=B) (k:=k)<|yW p;have v:=i.wC 0 λh=>absurd h A;have w:=fp<|ov i 6<|Å É 0;have zC:=j.d.nq;have Dp:=j.d.nt;have D:=fp v;let⟨ye,Dn⟩:=yZ B[k];have uN:=xx s Z;have BH:s.size<=10:=i.hs;have h:=fp (show st.iY=(s[0].toNat:Int)::(lA s).tail by rw[<-i.ht];exact Ac s r);have E:st.d.on=Î:=by
  rcases i.hr with q|q
  .exact q
  .rw[h.out]at q;injection q with q;omega
 have F:st.d.ll=Î:=j.yV (by rw[h.out,l];simp);have x:=fp<|asX (B:=B) (k:=k) (c:=(B[k].toNat:Int)) (st:={st with fV:=0}) h.out l;have BJ:((s[0].toNat:Int)==82)=Ì:=by rw[l];rfl
 have JX:((s[0].toNat:Int)==66)=Ì:=by rw[l];rfl
 have JY:((s[0].toNat:Int)==84)=Î:=by rw[l];rfl
 clear l i j;rcases p with⟨G,pE⟩|G;all_goals
  go_wp2_with (first|(go_at_call 94;refine(wA _ _).mono ?_;rintro e u ⟨rfl,q⟩;subst u)|(go_at_call 102;refine(ash _ _).mono ?_;rintro e u ⟨rfl,q⟩;subst u)|(go_at_call 101;refine(as4 v U E F _).mono ?_;rintro e u (⟨n,rfl,q⟩|⟨H,n,rfl,I,J,L,M,N⟩)))
  .subst q;exact C _ _ ⟨gL,⟨o,t.out.trans<|x.out.trans n,_,w.out,_,_,_,D.out⟩⟩
  .exact⟨gL,⟨o,H,t.out.trans<|x.out.trans n,w.out.fl I,J,L,M,N⟩⟩
end
section
variable{g:Gh}{s:ByteArray}{st:PS}{d:PD}
def atb{X:Ď->Ë->Prop}{wr:Ë}(M:Fr b B (Å É k) y) (i:iR m b g O s st wr) (j:kI B k st) (hB:B.size<=1200) (N:k<B.size) (D:(0<st.fV/\j0 (B[k].toNat:Int)=Ì)\/st.fV<=0) (E:0<s.size) (l:((s[0]'E).toNat:Int)=80) (r:(B[k].toNat:Int)=125) (hK:∀y u,Fr b B (Å É<|(k:Int)+1) y/\wD m b B k st wr u->K y u) (_hQ:∀y u,Fr b B (Å É k) y/\wE m b B k st wr u->X y u): ä À ug (Exit.then K<|QQ X) y wr:=by
 obtain⟨f,rfl⟩:=M;unfold sY;conv=>arg 2;whnf
 have c0:wr.cell? ⟨b,0,Á⟩=Â (Ä s):=i.fq.fg 0 _ U;have c6:wr.cell? ⟨b,6,Á⟩=Â (Å É st.fV):=i.fq.fg 6 _ U;have P:wr.cell? ⟨b,7,Á⟩=Â (Å É st.jC):=i.fq.fg 7 _ U;have f0:=i.fq.fC 0;have f6:=i.fq.fC 6;have f7:=i.fq.fC 7;have d0:=j.d0;have d1:=j.d1;have Q:=j.s0;have T:=j.s1;have F:=fp<|yY (B:=B) (k:=k)<|yW D;have v:=i.wC 0 λh=>absurd h A;have G:=fp<|ov i 6<|Å É 0;have zC:=j.d.nq;have Dp:=j.d.nt;have V:=fp v;let⟨ye,Dn⟩:=yZ B[k];have uN:=xx s Z;have BH:s.size<=10:=i.hs;have h:=fp (show st.iY=(s[0].toNat:Int)::(lA s).tail by rw[<-i.ht];exact Ac s E);have w:st.d.on=Î:=by
  rcases i.hr with q|q
  .exact q
  .rw[h.out]at q;injection q with q;omega
 have z:st.d.ll=Î:=j.yV (by rw[h.out,l];simp);have W:wr.cell? ⟨b,3,Á⟩=Â (Ã<|g.Af st.d):=i.fq.fg 3 _ U;rw[Na z]at W;let⟨Y,H,q⟩:=(i.kA.on w).xw z;have X7:wr.cell? ⟨g.t,5,Á⟩=Â (Ä st.d.tx.p):=q.fg 5 _ (by have:=G5 st.d.tx.c<|Ä st.d.tx.p;rwa[H]at this);have X8:=q.fC 5;have Sc:¬b=g.t:=λe=>fw.fX q i.fq A e.symm;have Sb:¬g.t=b:=fw.fX q i.fq A;let⟨Sd,_⟩:=j.mf (by rw[h.out,l];simp);have BJ:((s[0].toNat:Int)==82)=Ì:=by rw[l];rfl
 have JX:((s[0].toNat:Int)==66)=Ì:=by rw[l];rfl
 have JY:((s[0].toNat:Int)==84)=Ì:=by rw[l];rfl
 have Ni:((s[0].toNat:Int)==80)=Î:=by rw[l];rfl
 clear Y H q;have I:=fp<|asY (B:=B) (k:=k) (st:={st with fV:=0}) h.out l r;have X9:((B[k].toNat:Int) !=125)=Ì:=by rw[r];rfl
 obtain⟨n,J⟩:∃t:Nat,st.jC=(t:Int):=⟨st.jC.toNat,Z⟩;have o:=v.iN w z<|B.extract (k-n) k;have L:=o.1.BW w h.out;have C:=fp (Ê (show yS B k st (B[k].toNat:Int)=Â {({st with fV:=0}:PS)with iY:=(lA s).tail,d:=st.d.iN (B.extract (k-n) k)} by rw[F.out,I.out,show({st with fV:=0}:PS).jC.toNat=n by show st.jC.toNat=n;omega])<|Ê ((G.out.fl o.2).fl<|ov o.1 0<|Ä<|s.extract 1 s.size) L);rw[J]at P Q T Sd;clear r l i j o L J I F G V v;rcases D with⟨rD,pE⟩|rD;all_goals
  go_wp2_with (first|(go_at_call 94;refine(wA _ _).mono ?_;rintro e u ⟨rfl,x⟩;subst u))
  go_region
  all_goals
   go_wp2;exact⟨gL,⟨N,_,C.out.1,C.out.2.1.kj (ff.gi (λ_=>False) _) λ_ _ x=>x.elim,_,_,_,C.out.2.2.gi⟩⟩
def atc{X:Ď->Ë->Prop}{wr:Ë}(z:Fr b B (Å É k) y) (i:iR m b g O s st wr) (j:kI B k st) (P:B.size<=1200) (C:k<B.size) (v:(0<st.fV/\j0 (B[k].toNat:Int)=Ì)\/st.fV<=0) (w:0<s.size) (l:((s[0]'w).toNat:Int)=80) (o:¬(B[k].toNat:Int)=125) (r:st.jC=40) (_hK:∀y u,Fr b B (Å É<|(k:Int)+1) y/\wD m b B k st wr u->K y u) (D:∀y u,Fr b B (Å É k) y/\wE m b B k st wr u->X y u): ä À ug (Exit.then K<|QQ X) y wr:=by
 obtain⟨f,rfl⟩:=z;unfold sY;conv=>arg 2;whnf
 have Q:wr.cell? ⟨b,0,Á⟩=Â (Ä s):=i.fq.fg 0 _ U;have T:wr.cell? ⟨b,6,Á⟩=Â (Å É st.fV):=i.fq.fg 6 _ U;have V:wr.cell? ⟨b,7,Á⟩=Â (Å É st.jC):=i.fq.fg 7 _ U;have W:=i.fq.fC 0;have Y:=i.fq.fC 6;have f7:=i.fq.fC 7;have d0:=j.d0;have d1:=j.d1;have e0:=j.s0;have e1:=j.s1;have E:=fp<|yY (B:=B) (k:=k)<|yW v;have F:=i.wC 0 λh=>absurd h A;have G:=fp<|ov i 6<|Å É 0;have zC:=j.d.nq;have Dp:=j.d.nt;have H:=fp F;let⟨ye,Dn⟩:=yZ B[k];have uN:=xx s Z;have BH:s.size<=10:=i.hs;have n:=fp (show st.iY=(s[0].toNat:Int)::(lA s).tail by rw[<-i.ht];exact Ac s w);have I:st.d.on=Î:=by
  rcases i.hr with q|q
  .exact q
  .rw[n.out]at q;injection q with q;omega
 have q:st.d.ll=Î:=j.yV (by rw[n.out,l];simp);have J:wr.cell? ⟨b,3,Á⟩=Â (Ã<|g.Af st.d):=i.fq.fg 3 _ U;rw[Na q]at J;let⟨L,x,h⟩:=(i.kA.on I).xw q;have X7:wr.cell? ⟨g.t,5,Á⟩=Â (Ä st.d.tx.p):=h.fg 5 _ (by have:=G5 st.d.tx.c<|Ä st.d.tx.p;rwa[x]at this);have X8:=h.fC 5;have Sc:¬b=g.t:=λe=>fw.fX h i.fq A e.symm;have Sb:¬g.t=b:=fw.fX h i.fq A;let⟨Sd,_⟩:=j.mf (by rw[n.out,l];simp);have BJ:((s[0].toNat:Int)==82)=Ì:=by rw[l];rfl
 have JX:((s[0].toNat:Int)==66)=Ì:=by rw[l];rfl
 have JY:((s[0].toNat:Int)==84)=Ì:=by rw[l];rfl
 have Ni:((s[0].toNat:Int)==80)=Î:=by rw[l];rfl
 clear L x h;have X9:((B[k].toNat:Int) !=125)=Î:=by rwa[bne_iff_ne]
 have M:=fp<|aee (B:=B) (k:=k) (st:={st with fV:=0}) n.out l o<|È r;have aef:(st.jC==40)=Î:=by rw[r];rfl
 clear r o l i j;rcases v with⟨N,pE⟩|N;all_goals
  go_wp2_with (first|(go_at_call 94;refine(wA _ _).mono ?_;rintro e u ⟨rfl,hw⟩;subst u))
  exact D _ _ ⟨gL,⟨C,E.out.trans M.out,_,G.out,_,_,_,H.out⟩⟩
def atd{X:Ď->Ë->Prop}{wr:Ë}(D:Fr b B (Å É k) y) (i:iR m b g O s st wr) (j:kI B k st) (Q:B.size<=1200) (E:k<B.size) (v:(0<st.fV/\j0 (B[k].toNat:Int)=Ì)\/st.fV<=0) (w:0<s.size) (l:((s[0]'w).toNat:Int)=80) (o:¬(B[k].toNat:Int)=125) (r:¬st.jC=40) (x:¬nT (B[k].toNat:Int)=0) (T:∀y u,Fr b B (Å É<|(k:Int)+1) y/\wD m b B k st wr u->K y u) (_hQ:∀y u,Fr b B (Å É k) y/\wE m b B k st wr u->X y u): ä À ug (Exit.then K<|QQ X) y wr:=by
 obtain⟨f,rfl⟩:=D;unfold sY;conv=>arg 2;whnf
 have V:wr.cell? ⟨b,0,Á⟩=Â (Ä s):=i.fq.fg 0 _ U;have W:wr.cell? ⟨b,6,Á⟩=Â (Å É st.fV):=i.fq.fg 6 _ U;have Y:wr.cell? ⟨b,7,Á⟩=Â (Å É st.jC):=i.fq.fg 7 _ U;have f0:=i.fq.fC 0;have f6:=i.fq.fC 6;have f7:=i.fq.fC 7;have d0:=j.d0;have d1:=j.d1;have e0:=j.s0;have e1:=j.s1;have F:=fp<|yY (B:=B) (k:=k)<|yW v;have G:=i.wC 0 λh=>absurd h A;have H:=fp<|ov i 6<|Å É 0;have zC:=j.d.nq;have Dp:=j.d.nt;have z:=fp G;let⟨ye,Dn⟩:=yZ B[k];have uN:=xx s Z;have BH:s.size<=10:=i.hs;have n:=fp (show st.iY=(s[0].toNat:Int)::(lA s).tail by rw[<-i.ht];exact Ac s w);have I:st.d.on=Î:=by
  rcases i.hr with q|q
  .exact q
  .rw[n.out]at q;injection q with q;omega
 have q:st.d.ll=Î:=j.yV (by rw[n.out,l];simp);have J:wr.cell? ⟨b,3,Á⟩=Â (Ã<|g.Af st.d):=i.fq.fg 3 _ U;rw[Na q]at J;let⟨L,C,h⟩:=(i.kA.on I).xw q;have X7:wr.cell? ⟨g.t,5,Á⟩=Â (Ä st.d.tx.p):=h.fg 5 _ (by have:=G5 st.d.tx.c<|Ä st.d.tx.p;rwa[C]at this);have X8:=h.fC 5;have Sc:¬b=g.t:=λe=>fw.fX h i.fq A e.symm;have Sb:¬g.t=b:=fw.fX h i.fq A;let⟨Sd,_⟩:=j.mf (by rw[n.out,l];simp);have BJ:((s[0].toNat:Int)==82)=Ì:=by rw[l];rfl
 have JX:((s[0].toNat:Int)==66)=Ì:=by rw[l];rfl
 have JY:((s[0].toNat:Int)==84)=Ì:=by rw[l];rfl
 have Ni:((s[0].toNat:Int)==80)=Î:=by rw[l];rfl
 clear L C h;have X9:((B[k].toNat:Int) !=125)=Î:=by rwa[bne_iff_ne]
 have M:=fp<|asZ (B:=B) (k:=k) (st:={st with fV:=0}) n.out l o r x;have aef:(st.jC==40)=Ì:=by rwa[beq_eq_false_iff_ne]
 have Cx:((nT (B[k].toNat:Int):Int)==0)=Ì:=by rw[beq_eq_false_iff_ne];omega
 clear r o l i j x;rcases v with⟨N,pE⟩|N;all_goals
  go_wp2_with (first|(go_at_call 94;refine(wA _ _).mono ?_;rintro e u ⟨rfl,P⟩;subst u)|(go_at_call 103;refine(tS _ _).mono ?_;rintro e u ⟨rfl,P⟩;subst u))
  exact⟨gL,⟨E,_,F.out.trans M.out,H.out.fl<|ov z.out 7 _,_,_,_,z.out.XW _⟩⟩
def ate{X:Ď->Ë->Prop}{wr:Ë}(C:Fr b B (Å É k) y) (i:iR m b g O s st wr) (j:kI B k st) (T:B.size<=1200) (D:k<B.size) (v:(0<st.fV/\j0 (B[k].toNat:Int)=Ì)\/st.fV<=0) (w:0<s.size) (l:((s[0]'w).toNat:Int)=80) (o:¬(B[k].toNat:Int)=125) (x:¬st.jC=40) (r:nT (B[k].toNat:Int)=0) (_hK:∀y u,Fr b B (Å É<|(k:Int)+1) y/\wD m b B k st wr u->K y u) (E:∀y u,Fr b B (Å É k) y/\wE m b B k st wr u->X y u): ä À ug (Exit.then K<|QQ X) y wr:=by
 obtain⟨f,rfl⟩:=C;unfold sY;conv=>arg 2;whnf
 have V:wr.cell? ⟨b,0,Á⟩=Â (Ä s):=i.fq.fg 0 _ U;have W:wr.cell? ⟨b,6,Á⟩=Â (Å É st.fV):=i.fq.fg 6 _ U;have Y:wr.cell? ⟨b,7,Á⟩=Â (Å É st.jC):=i.fq.fg 7 _ U;have f0:=i.fq.fC 0;have f6:=i.fq.fC 6;have f7:=i.fq.fC 7;have d0:=j.d0;have d1:=j.d1;have e0:=j.s0;have e1:=j.s1;have F:=fp<|yY (B:=B) (k:=k)<|yW v;have G:=i.wC 0 λh=>absurd h A;have H:=fp<|ov i 6<|Å É 0;have zC:=j.d.nq;have Dp:=j.d.nt;have I:=fp G;let⟨ye,Dn⟩:=yZ B[k];have uN:=xx s Z;have BH:s.size<=10:=i.hs;have n:=fp (show st.iY=(s[0].toNat:Int)::(lA s).tail by rw[<-i.ht];exact Ac s w);have J:st.d.on=Î:=by
  rcases i.hr with q|q
  .exact q
  .rw[n.out]at q;injection q with q;omega
 have q:st.d.ll=Î:=j.yV (by rw[n.out,l];simp);have L:wr.cell? ⟨b,3,Á⟩=Â (Ã<|g.Af st.d):=i.fq.fg 3 _ U;rw[Na q]at L;let⟨M,z,h⟩:=(i.kA.on J).xw q;have X7:wr.cell? ⟨g.t,5,Á⟩=Â (Ä st.d.tx.p):=h.fg 5 _ (by have:=G5 st.d.tx.c<|Ä st.d.tx.p;rwa[z]at this);have X8:=h.fC 5;have Sc:¬b=g.t:=λe=>fw.fX h i.fq A e.symm;have Sb:¬g.t=b:=fw.fX h i.fq A;let⟨Sd,_⟩:=j.mf (by rw[n.out,l];simp);have BJ:((s[0].toNat:Int)==82)=Ì:=by rw[l];rfl
 have JX:((s[0].toNat:Int)==66)=Ì:=by rw[l];rfl
 have JY:((s[0].toNat:Int)==84)=Ì:=by rw[l];rfl
 have Ni:((s[0].toNat:Int)==80)=Î:=by rw[l];rfl
 clear M z h;have X9:((B[k].toNat:Int) !=125)=Î:=by rwa[bne_iff_ne]
 have N:=fp<|aee (B:=B) (k:=k) (st:={st with fV:=0}) n.out l o<|Ï r;have aef:(st.jC==40)=Ì:=by rwa[beq_eq_false_iff_ne]
 have Cx:((nT (B[k].toNat:Int):Int)==0)=Î:=by rw[r];rfl
 clear x o l i j r;rcases v with⟨P,pE⟩|P;all_goals
  go_wp2_with (first|(go_at_call 94;refine(wA _ _).mono ?_;rintro e u ⟨rfl,Q⟩;subst u)|(go_at_call 103;refine(tS _ _).mono ?_;rintro e u ⟨rfl,Q⟩;subst u))
  exact E _ _ ⟨gL,⟨D,F.out.trans N.out,_,H.out,_,_,_,I.out⟩⟩
end
section
variable{g:Gh}{s:ByteArray}{st:PS}{d:PD}
def atf{X:Ď->Ë->Prop}{wr:Ë}(D:Fr b B (Å É k) y) (f:iR m b g O s st wr) (i:kI B k st) (P:B.size<=1200) (E:k<B.size) (v:(0<st.fV/\j0 (B[k].toNat:Int)=Ì)\/st.fV<=0) (j:0<s.size) (n:¬((s[0]'j).toNat:Int)=82) (o:¬((s[0]'j).toNat:Int)=66) (p:¬((s[0]'j).toNat:Int)=84) (r:¬((s[0]'j).toNat:Int)=80) (w:tZ ((s[0]'j).toNat:Int) (B[k].toNat:Int)=Î) (Q:∀y u,Fr b B (Å É<|(k:Int)+1) y/\wD m b B k st wr u->K y u) (_hQ:∀y u,Fr b B (Å É k) y/\wE m b B k st wr u->X y u): ä À ug (Exit.then K<|QQ X) y wr:=by
 obtain⟨c,rfl⟩:=D;unfold sY;conv=>arg 2;whnf
 have T:wr.cell? ⟨b,0,Á⟩=Â (Ä s):=f.fq.fg 0 _ U;have V:wr.cell? ⟨b,6,Á⟩=Â (Å É st.fV):=f.fq.fg 6 _ U;have W:wr.cell? ⟨b,7,Á⟩=Â (Å É st.jC):=f.fq.fg 7 _ U;have Y:=f.fq.fC 0;have f6:=f.fq.fC 6;have f7:=f.fq.fC 7;have d0:=i.d0;have d1:=i.d1;have e0:=i.s0;have e1:=i.s1;have F:=fp<|yY (B:=B) (k:=k)<|yW v;have x:=f.wC 0 λh=>absurd h A;have G:=fp<|ov f 6<|Å É 0;have zC:=i.d.nq;have Dp:=i.d.nt;have HH1:=fp x;let⟨H,I⟩:=yZ B[k];have uN:=xx s Z;have BH:s.size<=10:=f.hs;have l:=fp (show st.iY=(s[0].toNat:Int)::(lA s).tail by rw[<-f.ht];exact Ac s j);have z:st.d.on=Î:=by
  rcases f.hr with q|q
  .exact q
  .rw[l.out]at q;injection q with q;omega
 have BJ:((s[0].toNat:Int)==82)=Ì:=by rwa[beq_eq_false_iff_ne]
 have atg:((s[0].toNat:Int)==66)=Ì:=by rwa[beq_eq_false_iff_ne]
 have JY:((s[0].toNat:Int)==84)=Ì:=by rwa[beq_eq_false_iff_ne]
 have Ni:((s[0].toNat:Int)==80)=Ì:=by rwa[beq_eq_false_iff_ne]
 have J:=fp<|as0 (B:=B) (k:=k) (st:={st with fV:=0}) l.out n o p r w;have L:=fp w;clear n o p r f i;rcases v with⟨M,pE⟩|M;all_goals
  go_wp2_with (first|(go_at_call 94;refine(wA _ _).mono ?_;rintro e u ⟨rfl,h⟩;subst u)|(go_at_call 104;refine(adP _ _ H I _).mono ?_;rintro e u ⟨rfl,h⟩;subst u)|(go_at_call 100;refine(QF x U z _ _ L.out).mono ?_;rintro e N ⟨rfl,C,g',nm',q,h⟩;have k0:N.cell? ⟨b,0,Á⟩=Â (Ä q):=h.fq.fg 0 _ U;have kf0:=h.fq.fC 0;have yf:0<q.size:=h.RF l.out;have avL:q.size<=10:=h.hs;have t:=fp<|Ê C h;clear C h))
  exact⟨gL,⟨E,_,F.out.trans J.out,G.out.fl<|t.out.1.fl<|ov t.out.2 0 _,_,_,_,t.out.2.BW ((R7 _ _ _).1.trans z) l.out⟩⟩
def ath{X:Ď->Ë->Prop}{wr:Ë}(t:Fr b B (Å É k) y) (f:iR m b g O s st wr) (i:kI B k st) (J:B.size<=1200) (v:k<B.size) (r:(0<st.fV/\j0 (B[k].toNat:Int)=Ì)\/st.fV<=0) (j:0<s.size) (l:¬((s[0]'j).toNat:Int)=82) (n:¬((s[0]'j).toNat:Int)=66) (o:¬((s[0]'j).toNat:Int)=84) (p:¬((s[0]'j).toNat:Int)=80) (w:tZ ((s[0]'j).toNat:Int) (B[k].toNat:Int)=Ì) (_hK:∀y u,Fr b B (Å É<|(k:Int)+1) y/\wD m b B k st wr u->K y u) (x:∀y u,Fr b B (Å É k) y/\wE m b B k st wr u->X y u): ä À ug (Exit.then K<|QQ X) y wr:=by
 obtain⟨c,rfl⟩:=t;unfold sY;conv=>arg 2;whnf
 have L:wr.cell? ⟨b,0,Á⟩=Â (Ä s):=f.fq.fg 0 _ U;have M:wr.cell? ⟨b,6,Á⟩=Â (Å É st.fV):=f.fq.fg 6 _ U;have N:wr.cell? ⟨b,7,Á⟩=Â (Å É st.jC):=f.fq.fg 7 _ U;have P:=f.fq.fC 0;have Q:=f.fq.fC 6;have T:=f.fq.fC 7;have V:=i.d0;have W:=i.d1;have Y:=i.s0;have e1:=i.s1;have z:=fp<|yY (B:=B) (k:=k)<|yW r;have C:=f.wC 0 λh=>absurd h A;have D:=fp<|ov f 6<|Å É 0;have zC:=i.d.nq;have Dp:=i.d.nt;have E:=fp C;let⟨F,G⟩:=yZ B[k];have uN:=xx s Z;have BH:s.size<=10:=f.hs;have h:=fp (show st.iY=(s[0].toNat:Int)::(lA s).tail by rw[<-f.ht];exact Ac s j);have on:st.d.on=Î:=by
  rcases f.hr with q|q
  .exact q
  .rw[h.out]at q;injection q with q;omega
 have BJ:((s[0].toNat:Int)==82)=Ì:=by rwa[beq_eq_false_iff_ne]
 have atg:((s[0].toNat:Int)==66)=Ì:=by rwa[beq_eq_false_iff_ne]
 have JY:((s[0].toNat:Int)==84)=Ì:=by rwa[beq_eq_false_iff_ne]
 have Ni:((s[0].toNat:Int)==80)=Ì:=by rwa[beq_eq_false_iff_ne]
 have q:=fp<|as1 (B:=B) (k:=k) (st:={st with fV:=0}) h.out l n o p w;clear l n o p f i;rcases r with⟨H,pE⟩|H;all_goals
  go_wp2_with (first|(go_at_call 94;refine(wA _ _).mono ?_;rintro e u ⟨rfl,I⟩;subst u)|(go_at_call 104;refine(adP _ _ F G _).mono ?_;rintro e u ⟨rfl,I⟩;subst u))
  exact x _ _ ⟨gL,⟨v,z.out.trans q.out,_,D.out,_,_,_,E.out⟩⟩
end
section
variable{g:Gh}{c:PS}{d:PD}
def ati{X:Ď->Ë->Prop}{d:ByteArray}{wr:Ë}(e:Fr b d (Å É k) y) (f:iR m b g O B c wr) (h:kI d k c) (i:d.size<=1200) (j:k<d.size) (l:∀y v,Fr b d (Å É<|(k:Int)+1) y/\wD m b d k c wr v->K y v) (n:∀y v,Fr b d (Å É k) y/\wE m b d k c wr v->X y v): ä À ug (Exit.then K<|QQ X) y wr:=by
 by_cases t:0<c.fV/\j0 (d[k].toNat:Int)=Î
 .exact as5 e f h i j t.1 t.2 l n
 have o:(0<c.fV/\j0 (d[k].toNat:Int)=Ì)\/c.fV<=0:=by
  by_cases p:0<c.fV
  .left;refine⟨p,?_⟩;cases q:j0 (d[k].toNat:Int)with
   |false=>rfl
   |true=>exact absurd ⟨p,q⟩ t
  .right;omega
 by_cases C:B.size=0
 .exact as6 e f h i j o C l n
 have p:0<B.size:=Z
 by_cases u:(B[0].toNat:Int)=82
 .exact as7 e f h i j o p u l n
 by_cases r:(B[0].toNat:Int)=66
 .cases q:wx (d[k].toNat:Int)with
  |true=>exact as8 e f h i j o p r q l n
  |false=>exact as9 e f h i j o p r q l n
 by_cases w:(B[0].toNat:Int)=84
 .exact ata e f h i j o p w l n
 by_cases q:(B[0].toNat:Int)=80
 .by_cases s:(d[k].toNat:Int)=125
  .exact atb e f h i j o p q s l n
  by_cases x:c.jC=40
  .exact atc e f h i j o p q s x l n
  by_cases z:nT (d[k].toNat:Int)=0
  .exact ate e f h i j o p q s x z l n
  .exact atd e f h i j o p q s x z l n
 cases s:tZ (B[0].toNat:Int) (d[k].toNat:Int)with
 |true=>exact atf e f h i j o p u r w q s l n
 |false=>exact ath e f h i j o p u r w q s l n
def atj{X:Ď->Ë->Prop}{wr:Ë}(c:Fr b B (Å É k) y)(_hB:B.size<=1200)(e:¬k<B.size)(_hk:k<=B.size) (d:∀y v,Fr b B (Å É k) y/\v=wr->X y v): ä À ug (Exit.then K<|QQ X) y wr:=by
 obtain⟨u,rfl⟩:=c;unfold sY;conv=>arg 2;whnf
 go_wp2;exact d _ _ ⟨gL,U⟩
def qE(B:ByteArray):Nat×PS:=xu B B.size 0 xv
def RI(m b:Nat)(d:ByteArray)(w:Ë)(a:Ď)(wr:Ë):Prop:=
 ∃(k:Nat) (g:Gh) (O:Option ý) (B:ByteArray) (c:PS),k<=d.size/\Fr b d (Å É k) a/\iR m b g O B c wr/\ff (λi=>m<=i) w wr/\kI d k c/\qE d=xu d (d.size-k) k c
def Rmu(B:ByteArray)(a:Ď)(_:Ë):Nat:=B.size-(intOf<|a.tmps.getD 5 ł).toNat
def RX(m b:Nat)(B:ByteArray)(w:Ë)(a:Ď)(wr:Ë):Prop:=
 ∃(k:Nat) (c:PS),k<=B.size/\Fr b B (Å É k) a/\wB m b c w wr/\(qE B).1=k/\(k=B.size->(qE B).2=c)
def aeg{i:Int}{w:Ë}(h:Fr b B (Å É i) y):Rmu B y w=B.size-i.toNat:=by obtain⟨u,rfl⟩:=h;rfl
def atl{a:PS}(b:k<B.size)(d:yS B k c (B[k].toNat:Int)=Â a):xu B (B.size-k) k c=xu B (B.size-(k+1)) (k+1) a:=by rw[show B.size-k=(B.size-(k+1))+1 by omega,xu,dif_pos b,d]
def atm(a:k<B.size)(b:yS B k c (B[k].toNat:Int)=Á):xu B (B.size-k) k c=(k,c):=by rw[show B.size-k=(B.size-(k+1))+1 by omega,xu,dif_pos a,b]
def atn{d:ByteArray}(i:Fr b d (Å É 0) y)(h:iR m b g O B xv w)(r:d.size<=1200): ä À (ŏ ug) (QQ<|RX m b d w) y w:=by
 apply Κ (RI m b d w) (Rmu d) ⟨0,g,O,B,xv,Ú _,i,h,ff.fY _ _,X4 d,U⟩;rintro y x ⟨k,g,O,B,c,n,i,s,o,t,p⟩;have z:=aeg (w:=x) i;by_cases j:k<d.size
 .refine ati i s t r j ?_ ?_
  .rintro u v ⟨f,C,e,l,q,D,E,F,G⟩;refine⟨⟨k+1,D,E,F,e,Z,by simpa using f,G,o.fl q,ad8 t j l,p.trans<|atl j l⟩,?_⟩;rw[aeg f,z];omega
  .rintro u v ⟨f,C,l,D,q,E⟩;have:=p.trans<|atm j l;exact⟨k,D,n,f,⟨o.fl q,E⟩,by rw[this],λe=>by omega⟩
 .apply atj i r j n;rintro u v ⟨f,rfl⟩;have e:k=d.size:=Z
  have:qE d=(k,c):=by rw[p,show d.size-k=0 by omega];rfl
  exact⟨k,c,n,f,⟨o,g,O,B,s⟩,by rw[this],λ_=>by rw[this]⟩
def ato{c:ByteArray}(h:iR m b g O B xv w)(f:c.size<=1200): Ò À 61 #[Ã<|Â ⟨b,0,Á⟩,Ä c] w λe u=>
  ∃(k:Nat) (d:PS),k<=c.size/\e=Ç (Å É k)/\wB m b d w u/\(qE c).1=k/\(k=c.size->(qE c).2=d):=by
 go_enter Tryz.func61,Tryz.ntmps61;go_wp2;go_step3;go_wp2;go_step3;go_wp2;refine ĺ ?_ (atn gL h f);rintro(_|(_|_)|_|_|_|_) a v hq;all_goals first|exact absurd hq id|skip
 let⟨k,d,i,j,l⟩:=hq;obtain⟨e,rfl⟩:=j;unfold sY;have n:=fp l;go_wp2;(try rw[Exit.noGoto_ret]);go_ret;exact⟨k,d,i,U,n.out⟩
end
def pG(B:ByteArray):Int×Bool×List PR:=
 if B.size=0 then(0,Î,[])else(((qE B).1:Int),decide ((qE B).1=B.size)&&(decide ((qE B).2.iY=[])||decide ((qE B).2.iY=[66])),(qE B).2.d.fL)
def kl(B:ByteArray):Int×Int×List PR:=
 if 1200<B.size then(1,0,[])else if(pG B).2.1=Î then(0,0,(pG B).2.2)else(2,(pG B).1,[])
def G6(m:Nat)(v:Ñ)(rs:List PR)(w:Ë):Prop:=kQ m w/\∃a,w.ownsRow m 148 1 v a.length (qa a)/\sV w.heap.size a rs w
section
variable{g:Gh}{a:PS}
def G6.mX(w:Ë):G6 w.heap.size (Æ Á 0 0) [] w:=⟨kQ.jy w,[],⟨U,È ⟨U,U⟩⟩,sV.mX _ _⟩
def iR.jL(h:iR m b g O B a w)(c:a.d.on=Ì->a.d.rs=[])(n:Nat):G6 m g.vr a.d.fL (w.drewN n):= ⟨h.lZ.iA n,g.pe a.d,je h.kA.jf (ff.iA (λ_=>False) w n) λ_ _=>id,(h.kA.ad1 c).fi (ff.iA (λ_=>False) w n) λ_ _ x=>x.elim⟩
def g0(m:Nat):Gh:={qs:=[],q:=0,t:=0,B:=m,tb:=[],vr:=Æ Á 0 0,vb:=Æ Á 0 0,tx:=Á}
def atp(w:Ë):iR w.heap.size w.heap.size (g0 w.heap.size) Á ⟨#[82]⟩ xv (w.alloc<|Þ #[Ä ⟨#[82]⟩,Æ Á 0 0,Ã Á,Ã Á,Ã Á,Ã Á,Å É 0,Å É 0] 153):= ⟨â _,(kQ.jy w).gT _ _ A A (λv e=>by simp at e;rcases e with rfl|rfl|rfl|rfl<;>trivial),fw.fN w [Ä ⟨#[82]⟩,Æ Á 0 0,Ã Á,Ã Á,Ã Á,Ã Á,Å É 0,Å É 0] 153,A,A,⟨⟨U,È ⟨U,U⟩⟩,sV.mX _ _,(λe=>by cases e),λ_=>rfl⟩,(λq=>by cases q),Ï rfl⟩
def atq(B:ByteArray):lA B=[66]↔B.toList=[66]:=by
 unfold lA;rw[ħ];constructor
 .intro h;match hl:B.data.toList with
  |[]=>rw[hl]at h;simp at h
  |[x]=>
   rw[hl]at h;simp only[œ,Ś,List.cons.injEq,and_true]at h;have:x=66:=UInt8.toNat_inj.1 (by have:x.toNat=66:=Z;rw[this];rfl);rw[this]
  |x::y::r=>rw[hl]at h;simp at h
 .intro h;rw[h];rfl
def Ya(a:¬B.size=0):(pG B).1=((qE B).1:Int):=by rw[pG,if_neg a]
def aeh(a:¬B.size=0):(pG B).2.2=(qE B).2.d.fL:=by rw[pG,if_neg a]
def atr(a:¬B.size=0)(h:¬(qE B).1=B.size):(pG B).2.1=Ì:=by rw[pG,if_neg a];simp[h]
def aei(a:¬B.size=0)(h:(qE B).1=B.size){x:Bool}(b:x=(decide ((qE B).2.iY=[])||decide ((qE B).2.iY=[66]))):(pG B).2.1=x:=by rw[pG,if_neg a,b];simp[h]
def atu(B:ByteArray):(qE B).2.d.on=Ì->(qE B).2.d.rs=[]:=λe=>((X5 B.size 0 xv (X4 B)<|Ú _).1.d.Ah e).1
def aej{a:ByteArray}(r:a.size<=1200): Ò À 45 #[Ä a] w λe u=>
  ff (λ_=>False) w u/\∃v,e=Ç (ï #[v,Å É (pG a).1,û (pG a).2.1])/\((pG a).2.1=Î->G6 w.heap.size v (pG a).2.2 u):=by
 by_cases b:a.size=0
 .have h:=X6 a b;have n:=fp (show pG a=(0,Î,[])from if_pos b);go_enter ο,Ω;go_wp2;apply ă (v:=ï #[Æ Á 0 0,Å É 0,û Î]) (by simp[Ŏ,Ĭ,go_sem]) U;exact⟨ff.fY _ _,_,by rw[n.out],λ_=>by rw[n.out];exact G6.mX w⟩
 .have h:=xx a b;have c:=fp b;go_enter ο,Ω;go_wp2_with (go_at_call 61;refine(ato (atp w) r).mono ?_;rintro e s ⟨k,f,i,rfl,⟨n,g,O,B,d⟩,j,t⟩);have m:ff (λ_=>False) w s:=((ff.gT (λi=>w.heap.size<=i) w _ _).fl n).ft λi D x=>by omega
  have E:=d.fq.fg 0 _ U;have F:=d.fq.fg 1 _ U;by_cases o:k=a.size
  .subst o;have y:=t U;subst y;have p:=fp d.ht;have q:=fp λn=>d.jL (atu a) n;have n:=fp j;have f:=fp m;have z:((a.size:Int)==(a.size:Int))=Î:=fB
   by_cases b:B.size=0
   .have h:=X6 B b;have l:=fp (aei c.out n.out (x:=Î)<|by rw[<-p.out,adN B b];rfl);go_quiet (fail);go_wp2;apply ă (v:=ï #[g.vr,Å É a.size,û Î]) (by simp[Ŏ,Ĭ,go_sem]) U;exact⟨f.out.fl<|ff.iA _ _ _,_,by rw[Ya c.out,n.out,l.out],λ_=>by rw[aeh c.out];exact q.out _⟩
   .have h:=xx B b;have l:=fp (aei c.out n.out (x:=(B.toList==[66])) (by
     rw[<-p.out];have C:¬lA B=[]:=λe=>by have:=XP B;rw[e]at this;exact b this.symm
     rw[decide_eq_false C,Bool.false_or,ģ,beq_iff_eq,decide_eq_true_iff,atq]))
    go_quiet (fail)
    go_wp2;apply ă (v:=ï #[g.vr,Å É a.size,û<|B.toList==[66]]) (by simp[Ŏ,Ĭ,go_sem]) U;exact⟨f.out.fl<|ff.iA _ _ _,_,by rw[Ya c.out,n.out,l.out],λ_=>by rw[aeh c.out];exact q.out _⟩
  .have z:((k:Int)==(a.size:Int))=Ì:=by rw[beq_eq_false_iff_ne];omega
   have n:=fp (Ê j<|atr c.out<|by rwa[j]);have f:=fp m;go_quiet (fail);go_wp2;apply ă (v:=ï #[g.vr,Å É k,û Ì]) (by simp[Ŏ,Ĭ,go_sem]) U;exact⟨f.out.fl<|ff.iA _ _ _,_,by rw[Ya c.out,n.out.1,n.out.2],λe=>by rw[n.out.2]at e;cases e⟩
def atv(h:B.size<=Ě): Ò À 36 #[Ä B] w λe u=>
  ff (λ_=>False) w u/\∃v,e=Ç (ï #[v,Å É (kl B).1,Å É (kl B).2.1])/\((kl B).1=0->G6 w.heap.size v (kl B).2.2 u)/\((kl B).1≠0->v=Æ Á 0 0):=by
 unfold Ě at h;by_cases b:1200<B.size
 .have a:=fp (show kl B=(1,0,[]) by rw[kl,if_pos b]);go_enter Ň,Š;go_wp2;apply ă (v:=ï #[Æ Á 0 0,Å É 1,Å É 0]) (by simp[Ŏ,ň,go_sem]) U;exact⟨ff.fY _ _,_,by rw[a.out],(λe=>by rw[a.out]at e;cases e),λ_=>rfl⟩
 .have f:B.size<=1200:=Z
  cases c:(pG B).2.1 with
  |true=>
   have a:=fp (show kl B=(0,0,(pG B).2.2) by rw[kl,if_neg b,if_pos c]);go_enter Ň,Š;go_wp2_with (go_at_call 45;refine(aej f).mono ?_;rintro e i ⟨d,v,rfl,g⟩);apply ă (v:=ï #[v,Å É 0,Å É 0]) (by simp[Ŏ,ň,go_sem]) U;exact⟨d,_,by rw[a.out],(λ_=>by rw[a.out];exact g c),λe=>by rw[a.out]at e;exact absurd U e⟩
  |false=>
   have a:=fp (show kl B=(2,(pG B).1,[]) by rw[kl,if_neg b,if_neg (by rw[c];exact Bool.false_ne_true)]);go_enter Ň,Š;go_wp2_with (go_at_call 45;refine(aej f).mono ?_;rintro e i ⟨d,v,rfl,g⟩);apply ă (v:=ï #[Æ Á 0 0,Å É 2,Å É (pG B).1]) (by simp[Ŏ,ň,go_sem]) U;exact⟨d,_,by rw[a.out],(λe=>by rw[a.out]at e;cases e),λ_=>rfl⟩
end
end Go.Proofs.Y.xq
namespace Go.Proofs.Y.nz
open Go Go.Conc Go.Proofs Go.RowKit Go.Proofs.Y.Lift Go.Proofs.Y.jr Go.Proofs.Y.fK Go.Proofs.Y.xq
structure Nj(a:Nat)(t:PT)(w:Ë):Prop where
 ty:∃cs fz,w.heap[a]?=Â (Þ cs 200 fz)
 c:∀i,i<5->w.cell? ⟨a,i,Á⟩=Â (Å É<|t.c.getD i 0)
 p:w.cell? ⟨a,5,Á⟩=Â (Ä t.p)
structure BK(r:Nat)(p:PR)(w:Ë):Prop where
 c:∀i,i<8->w.cell? ⟨r,i,Á⟩=Â (Å É<|p.c.getD i 0)
 b:∃bp n cp,w.cell? ⟨r,8,Á⟩=Â (Æ bp n cp)/\n=p.tx.length/\∀(j:Nat) (t:PT),p.tx[j]?=Â t->∃tb a,bp=Â ⟨tb,0,Á⟩/\w.cell? ⟨tb,j,Á⟩=Â (Ã<|Â ⟨a,0,Á⟩)/\Nj a t w
structure RQ(rs:List PR)(v:Ñ)(U:Nat->Prop)(w:Ë):Prop where
 lZ:mE nB U w
 lD:fy (nA U nB) v v
 gV:∃bp cp,v=Æ bp rs.length cp/\∀(j:Nat) (p:PR),rs[j]?=Â p->∃sb r,bp=Â ⟨sb,0,Á⟩/\w.cell? ⟨sb,j,Á⟩=Â (Ã<|Â ⟨r,0,Á⟩)/\BK r p w
section
variable{f:Nat->Prop}{w':Ë}{rs:List PR}{ρ:fE}
def atw(h:km ρ X u w){t:PT}(d:ρ i n)(k:Nj i t u):Nj n t w:=by refine⟨?_,λb f=>(Di h).iL d<|k.c b f,(Di h).Gr d k.p⟩;let⟨c,l,e,m,o,g,j,_⟩:=h.fu i n d;let⟨r,s,q⟩:=k.ty;rw[g]at q;cases q;exact⟨_,_,j⟩
def atx(h:km ρ X u w){r:Nat}{p:PR}(d:ρ r m)(k:BK r p u):BK m p w:=by refine⟨λi f=>(Di h).iL d<|k.c i f,?_⟩;let⟨N,n,g,l,o,q⟩:=k.b;let⟨x,s,v⟩:=Di h r m 8 _ d l;obtain⟨y,rfl,z⟩:=RH v;refine⟨y,n,g,s,o,λj t B=> ?_⟩;let⟨tb,a,C,D,E⟩:=q j t B;let⟨O,F,G⟩:=z _ C;obtain⟨e,rfl,H⟩:=Df G;let⟨P,I,J⟩:=Di h tb e j _ H D;obtain⟨Q,rfl,K⟩:=RG J;obtain⟨L,rfl,M⟩:=Df K;exact⟨e,L,F,I,atw h M E⟩
def aty(h:km ρ X u w)(b:fy ρ v x)(a:RQ rs v f u):RQ rs x (λj=>∃i,f i/\ρ i j) w:=by refine⟨XJ h a.lZ,RJ b a.lD,?_⟩;obtain⟨E,c,rfl,d⟩:=a.gV;obtain⟨e,rfl,g⟩:=RH b;refine⟨e,c,U,λj p k=> ?_⟩;let⟨l,r,m,n,o⟩:=d j p k;let⟨F,q,s⟩:=g _ m;obtain⟨i,rfl,t⟩:=Df s;let⟨G,y,z⟩:=Di h l i j _ t n;obtain⟨H,rfl,B⟩:=RG z;obtain⟨C,rfl,D⟩:=Df B;exact⟨i,C,q,y,atx h D o⟩
def Dq(k:w'.heap[b]?=w.heap[b]?)(h:w.cell? ⟨b,i,Á⟩=Â z):w'.cell? ⟨b,i,Á⟩=Â z:=by simp only[ã,k];exact h
def atz(l:mE nB X w)(k:∀b,X b->w'.heap[b]?=w.heap[b]?){r:Nat}{p:PR}(d:X r)(h:BK r p w):BK r p w':=by
 refine⟨λi e=>Dq (k r d)<|h.c i e,?_⟩;let⟨u,n,v,m,x,y⟩:=h.b;refine⟨u,n,v,Dq (k r d) m,x,λj t z=> ?_⟩;let⟨tb,a,o,q,f⟩:=y j t z;have s:X tb:=by have:=l.fg d m;rw[o]at this;exact G0 this
 have g:=GZ<|l.fg s q;exact⟨tb,a,o,Dq (k tb s) q,⟨by rw[k a g];exact f.ty,λi e=>Dq (k a g)<|f.c i e,Dq (k a g) f.p⟩⟩
def RQ.kZ(h:RQ rs v f w)(k:∀b,f b->w'.heap[b]?=w.heap[b]?):RQ rs v f w':=by
 refine⟨h.lZ.kZ k,h.lD,?_⟩;obtain⟨g,i,rfl,l⟩:=h.gV;refine⟨g,i,U,λj p m=> ?_⟩;let⟨a,r,c,d,n⟩:=l j p m;have e:f a:=by have:=h.lD;rw[c]at this;exact G0 this
 exact⟨a,r,c,Dq (k a e) d,atz h.lZ k (GZ<|h.lZ.fg e d) n⟩
def aek{v:Ñ}(h:pF m i v):fy (nA (λd=>m<=d/\d<i) nB) v v:=by
 cases v with
 |int k n=>exact .iL k n
 |bool b=>exact .oL b
 |string i=>exact .mO i
 |pointer a=>cases a with
  |none=>exact .nY
  |some a=>exact fy.lB (ρ:=nA (λd=>m<=d/\d<i) nB) ⟨⟨U,h⟩,U,U⟩
 |slice a n c=>cases a with
  |none=>exact .qd n c
  |some a=>exact fy.mP (ρ:=nA (λd=>m<=d/\d<i) nB) ⟨⟨U,h⟩,U,U⟩ n c
 |_=>exact absurd h<|by simp[pF]
def atA{v:Ñ}(h:pF m i v):BN v=Ì:=by
 cases v with
 |int k n=>cases k<;>first|rfl|exact absurd h<|by simp[pF]
 |_=>rfl
def atB(h:kQ m w):mE nB (λi=>m<=i/\i<w.heap.size) w:=λb i=>by let⟨c,e,f,g,j,k,l,n,d⟩:=h b _ i.1<|Ü i.2;exact⟨c,e,f,by rw[Ü i.2,g],j,sR λv a=>aek<|d v a,k,Dh λv a=>atA<|d v a,l,n⟩
def QD{base:Nat}(h:w.ownsRow base e 1 v jJ.length (qa jJ)):∃c f,v=Æ c jJ.length f/\∀(j r:Nat),jJ[j]?=Â r->∃b,c=Â ⟨b,0,Á⟩/\base<=b/\w.cell? ⟨b,j,Á⟩=Â (Ã<|Â ⟨r,0,Á⟩):=by
 obtain⟨o,⟨i,k⟩|⟨g,p,q,rfl,l,m,s,t,u,n⟩⟩:=h
 .have d:=Ó k;subst d;exact⟨_,_,i,λj r a=>by cases a⟩
 .refine⟨_,_,U,λj r a=>⟨g,U,l,?_⟩⟩;have x:=(Ö.1 a).1;have d:(qa jJ)[j]?=Â (Ã<|Â ⟨r,0,Á⟩):=by simp[qa,a]
  rw[<-n,List.getElem?_take_of_lt Z]at d;simp only[ã,m,ü,ð,if_false];simpa using d
def ael(h:fw n (qZ zQ++[z]) T w)(a:i<zQ.length):w.cell? ⟨n,i,Á⟩=Â (Å É<|zQ.getD i 0):=h.fg i _<|XV a z
def aem(h:fw i (qZ zQ++[z]) T w)(a:zQ.length=n):w.cell? ⟨i,n,Á⟩=Â z:=h.fg n _<|by rw[<-a];exact G5 zQ z
def atC{r:PR}(h:Ad i n r w):BK n r w:=by
 let⟨x,tb,e,l,y,b⟩:=h.gV;refine⟨λa c=>ael e (by rwa[h.iw]),?_⟩;obtain⟨m,o,rfl,p⟩:=QD l;refine⟨m,_,o,aem e h.iw,b.iw,λj t f=> ?_⟩;have g:j<tb.length:=by rw[b.iw];exact(Ö.1 f).1
 let⟨s,u,z,v⟩:=p j tb[j]<|Ô g;let⟨_,_,k,d⟩:=b.gV j tb[j] t (Ô g) f;exact⟨s,tb[j],u,v,⟨_,_,d⟩,λa c=>ael d (by rwa[k]),aem d k⟩
def atD(h:G6 m v rs w):RQ rs v (λi=>m<=i/\i<w.heap.size) w:=by
 let⟨f,i,b,c⟩:=h;obtain⟨d,k,rfl,l⟩:=QD b;refine⟨atB f,?_,d,k,by rw[c.iw],λj p e=> ?_⟩
 .cases d with
  |none=>exact .qd _ _
  |some a=>
   have:=b.lt a.block (by rcases b.2 with⟨q,_⟩|⟨g,n,o,q,_⟩<;>(cases q;try rfl));exact aek this
 .have a:j<i.length:=by rw[c.iw];exact(Ö.1 e).1
  let⟨g,q,o,n⟩:=l j i[j]<|Ô a;exact⟨g,i[j],q,n,atC<|c.gV j i[j] p (Ô a) e⟩
end
def aen(B:ByteArray)(z:Ñ)(u:Ë):Prop:=∃v,z=ï #[v,Å É (kl B).1,Å É (kl B).2.1]/\((kl B).1=0->∃a,RQ (kl B).2.2 v a u)
def atE(B:ByteArray):AA (aen B):=λv u T D h=>by let⟨x,a,b⟩:=h;refine⟨x,a,λe=> ?_⟩;let⟨U,c⟩:=b e;exact⟨U,c.kZ λ_ _=>rfl⟩
def atF{l:fj}(f:ic l)(t:¬l.q)(u:nB<=l.w.heap.size)(C:B.size<=Ě)(m:Bool)(h:ĝ)(k:List ĝ): fK.fA À m (λa n=>mK l a/\a.d=l.d/\∃v,n=G (h.finish<|ï #[v,Å É (kl B).1,Å É (kl B).2.1]) k/\((kl B).1=0->∃V,RQ (kl B).2.2 v V a.w/\∀b,V b->a.O b/\l.w.heap.size<=b)) l (G (é À 36 #[Ä B] ć)<|h::k):=by
 let⟨fn,c,D,V⟩:=CR 36 gG;have E:∀T,Ò À 36 #[Ä B] (World.tp (nn (λj=>False/\¬(oB l).O j) l.w) T 0) fun|Ç v,j=>aen B v j/\lN j|_,_=>False:=λT=>by refine(atv C).mono ?_;rintro e p ⟨g,v,rfl,i,o⟩;exact⟨⟨v,U,λe=>⟨_,atD<|i e⟩⟩,g.iU JH⟩
 have W:=IW BQ QA CR (atE B) gG D V (IX f) t (λb q=>q.elim) ⟨λb q=>q.elim,u⟩ (λg q=>by cases q) (sR λv g=>by simp at g;subst g;exact .mO B) E m h k;refine(W.oB f).ft ?_;rintro a n ⟨g,⟨ρ,j,v,v',_,F,H,⟨I,rfl,o⟩,J,K,_,L⟩,rfl,M,N,_,_⟩;cases H with
 |@qe _ cs'' hs pT=>
  let⟨P⟩:=cs'';match P,hs with
  |[x,y,z],_=>
   have p:=pT 0 fB fB;have r:=pT 1 fB fB;have s:=pT 2 fB fB;simp at p r s;cases r;cases s;refine⟨M,L,x,J,λe=> ?_⟩;let⟨U,Q⟩:=o e;have X:RQ (kl B).2.2 I U {j with tape:=g.w.tape,drawn:=g.w.drawn}:=Q.kZ λ_ _=>rfl;refine⟨_,aty F p X,λb V=> ?_⟩;let⟨i,_,Y⟩:=V;let⟨m1,m2⟩:=K i b Y;have Wb:l.w.heap.size<=b:=m2.elim (λq=>q.elim) λq=>q.elim (λq=>q.elim) id;refine⟨È (m1.resolve_right λq=> ?_),Wb⟩;rw[N]at q;have:=f.fG b q;omega
end Go.Proofs.Y.nz
namespace Go.Proofs.Y.jr
open Go Go.Proofs Go.RowKit Go.Proofs.Y.Lift
def G7:List Ñ:=jo (lJ 8)++[Æ Á 0 0,Å É 0,Æ Á 0 0]
def atG(w:Ë):Ò À 44 #[] w λe a=>∃c B,e=Ç (Æ (Â ⟨c,0,Á⟩) 1 1)/\fw B G7 147 a/\fw c [Ã<|Â ⟨B,0,Á⟩] 136 a/\ff (λ_=>False) w a:=by
 have d:(jo<|lJ 8).length=144:=wi _;have i:(jo (lJ 8)++[Æ Á 0 0]).length=145:=by rw[Ø,d];rfl
 have f:=fp<|Ê d i;unfold G7;have j:=fp λW=>apJ W;generalize lJ 8=s at*;go_enter Tryz.func44,Tryz.ntmps44;go_wp2_with (first
  |(go_at_call 60;refine(j.out _).mono ?_;rintro e W ⟨rfl,b⟩;have k:=fp b;clear b)
  |(with_reducible refine Ę U (Â 2) U _ _ (W4 U U f.out.1) ?_)
  |(with_reducible refine Ę U (Â 3) U _ _ (apZ U U f.out.2) ?_)
  |(with_reducible refine Ę U (Â 4) U _ _ (acz U U) ?_))
 have l:=fw.fN W (jo s++[Æ Á 0 0,Å É 0,Æ Á 0 0]) 147;have m:=ff.gT (λ_=>False) W (jo s++[Æ Á 0 0,Å É 0,Æ Á 0 0]).toArray 147;have g:=fw.fN (W.alloc<|Þ (jo s++[Æ Á 0 0,Å É 0,Æ Á 0 0]).toArray 147) [Ã<|Â ⟨W.heap.size,0,Á⟩] 136;have h:=ff.gT (λ_=>False) (W.alloc<|Þ (jo s++[Æ Á 0 0,Å É 0,Æ Á 0 0]).toArray 147) #[Ã<|Â ⟨W.heap.size,0,Á⟩] 136;have n:(W.alloc<|Þ (jo s++[Æ Á 0 0,Å É 0,Æ Á 0 0]).toArray 147).heap.size=W.heap.size+1:=fB
 rw[n]at g;have b:=fp<|Ê (l.fi h id)<|Ê g<|(k.out.fl m).fl h;go_ret;exact⟨W.heap.size+1,W.heap.size,U,b.out.1,b.out.2.1,b.out.2.2⟩
def atH(n:Int)(j:1<=n)(k:n<=8)(w:Ë):Ò À 35 #[Å É n] w λe b=>∃g a B,e=Ç (ï #[Ã<|Â ⟨g,0,Á⟩,Å É 0])/\fw g [Å É n,Æ (Â ⟨a,0,Á⟩) 1 1] 68 b/\fw B G7 147 b/\fw a [Ã<|Â ⟨B,0,Á⟩] 136 b/\ff (λ_=>False) w b:=by
 have l:¬n<1:=Z
 have m:¬8<n:=Z
 go_enter π,Tryz.ntmps35;go_wp2_with (go_at_call 44;refine(atG _).mono ?_;rintro e c ⟨a,B,rfl,f,h,i⟩;have d:=fp<|Ê f<|Ê h i;clear f h i);go_ret2;have f:=ff.gT (λ_=>False) c #[Å É n,Æ (Â ⟨a,0,Á⟩) 1 1] 68;exact⟨c.heap.size,a,B,U,fw.fN c [Å É n,Æ (Â ⟨a,0,Á⟩) 1 1] 68,d.out.1.fi f id,d.out.2.1.fi f id,d.out.2.2.fl f⟩
end Go.Proofs.Y.jr
namespace Go.Proofs.Y.nz
open Go Go.Conc Go.Proofs Go.RowKit Go.Proofs.Y.Lift Go.Proofs.Y.jr Go.Proofs.Y.fK Go.Proofs.Y.xq
section
variable{w':Ë}{ρ:fE}{a:Nat->Prop}
def aeo:∀v∈G7,(∃k n,v=Å k n/\k≠Ų)\/(∃p,v=Ä p)\/v=Æ Á 0 0:=λv k=>by
 unfold G7 at k;rcases à.1 k with q|q
 .rcases XH _ v q with⟨n,rfl⟩|⟨p,rfl⟩
  .exact È ⟨_,_,U,A⟩
  .exact Ï<|È ⟨p,U⟩
 .simp at q;rcases q with rfl|rfl|rfl
  .exact Ï<|Ï U
  .exact È ⟨_,_,U,A⟩
  .exact Ï<|Ï U
def aep:ow [jr.pd]:=⟨A,A,λv b=>by simp at b;subst b;exact⟨⟨(λp a=>by cases a),(λp a=>by cases a),Ú _,Ú _⟩,ac0,Ŭ _,show(0:Int)<1 by decide⟩⟩
def atI(d:jr.fw n G7 147 w)(f:jr.fw i [Ã<|Â ⟨n,0,Á⟩] 136 w):RD [jr.pd] (Æ (Â ⟨i,0,Á⟩) 1 1) (λk=>k=i\/k=n) w:=by
 have g:=ap0 ac0 (by rwa[Ĵ]);refine⟨[(n,jr.pd)],U,aep,⟨_,1,1,U,â _,⟨U,λj b v e=> ?_⟩⟩,?_,fy.mP (ρ:=nA (λk=>k=i\/k=n) nB) ⟨⟨U,È U⟩,U,U⟩ 1 1⟩
 .cases j with
  |zero=>
   cases e;exact⟨_,0,U,f.fg 0 _ U,g⟩
  |succ j=>simp at e
 .rintro b (rfl|rfl)
  .refine⟨_,_,_,f,fB,sR λv c=> ?_,fB,Dh λv c=> ?_,A,A⟩
   .simp at c;subst c;exact fy.lB (ρ:=nA (λk=>k=b\/k=n) nB) ⟨⟨U,Ï U⟩,U,U⟩
   .simp at c;subst c;rfl
  .refine⟨_,_,_,d,fB,sR λv c=> ?_,by simp[G7],Dh λv c=> ?_,A,A⟩
   .rcases aeo v (by simpa using c)with⟨k,a,rfl,_⟩|⟨p,rfl⟩|rfl
    .exact .iL k a
    .exact .mO p
    .exact .qd 0 0
   .rcases aeo v (by simpa using c)with⟨k,a,rfl,h⟩|⟨p,rfl⟩|rfl
    .cases k<;>first|rfl|exact absurd U h
    .rfl
    .rfl
def JZ(b:Nat)(n:Int)(c:Ñ)(w:Ë):Prop:=∃a,w.heap[b]?=Â (Þ #[Å É n,c] 68 a)/\a=(0,0)
def JZ.kZ{n:Int}(h:JZ i n v w)(k:w'.heap[i]?=w.heap[i]?):JZ i n v w':=by let⟨a,b,c⟩:=h;exact⟨a,k.trans b,c⟩
def atJ(h:km ρ a u w)(g:∀b,¬a b)(q:ρ i j)(k:jr.fw i [Å É c,v] 68 u):∃l,fy ρ v l/\JZ j c l w:=by
 let⟨d,r,e,D,s,m,t,z,_,B,_⟩:=h.fu i j q;unfold jr.fw at k;rw[k]at m;cases m;have f:=z.jf<|g j;let⟨C⟩:=r;match C,f.fh with
 |[x,y],_=>
  have o:=f.kt 0 fB fB;have p:=f.kt 1 fB fB;simp at o p;cases o;exact⟨y,p,s,t,(B<|g j).symm⟩
end
def aer(n:Int)(z:Ñ)(u:Ë):Prop:=∃a b B,z=ï #[Ã<|Â ⟨a,0,Á⟩,Å É 0]/\jr.fw a [Å É n,Æ (Â ⟨b,0,Á⟩) 1 1] 68 u/\RD [jr.pd] (Æ (Â ⟨b,0,Á⟩) 1 1) (λi=>i=b\/i=B) u/\a≠b/\a≠B
def atK(n:Int):AA (aer n):=λv u T D h=>by let⟨b,c,B,d,e,a⟩:=h;exact⟨b,c,B,d,e,a.1.kZ λ_ _=>rfl,a.2⟩
def atL{l:fj}(p:ic l)(K:¬l.q)(L:nB<=l.w.heap.size){n:Int}(M:1<=n)(N:n<=8)(C:Bool)(r:ĝ)(s:List ĝ): fK.fA À C (λf D=>mK l f/\f.d=l.d/\∃a e,D=G (r.finish<|ï #[Ã<|Â ⟨a,0,Á⟩,Å É 0]) s/\JZ a n e f.w/\f.O a/\l.w.heap.size<=a/\∃V,RD [jr.pd] e V f.w/\¬V a/\∀b,V b->f.O b/\l.w.heap.size<=b) l (G (é À 35 #[Å É n] ć)<|r::s):=by
 let⟨fn,c,P,t⟩:=CR 35 gG;have Q:∀T,Ò À 35 #[Å É n] (World.tp (nn (λj=>False/\¬(oB l).O j) l.w) T 0) fun|Ç v,h=>aer n v h/\lN h|_,_=>False:=λT=>by refine(atH n M N _).mono ?_;rintro e z ⟨a,k,B,rfl,V,m,o,g⟩;exact⟨⟨a,k,B,U,V,atI m o,jr.fw.fX V o A,jr.fw.fX V m A⟩,g.iU JH⟩
 have W:=IW BQ QA CR (atK n) gG P t (IX p) K (λb q=>q.elim) ⟨λb q=>q.elim,L⟩ (λg q=>by cases q) (sR λv e=>by simp at e;subst e;exact .iL _ _) Q C r s;refine(W.oB p).ft ?_;rintro f D ⟨u,⟨ρ,h,v,v',_,g,X,⟨a,k,B,rfl,V,m,o,Y⟩,q5,q7,_,q6⟩,rfl,ha,hR,_,_⟩;have E:∀i j,ρ i j->(pX l u).O j/\l.w.heap.size<=j:=λi j e=>by let⟨z,F⟩:=q7 i j e;have H:l.w.heap.size<=j:=F.elim (λq=>q.elim) λq=>q.elim (λq=>q.elim) id;refine⟨È (z.resolve_right λq=> ?_),H⟩;rw[hR]at q;have:=p.fG j q;omega
 cases X with
 |@qe _ cs'' hs pT=>
  let⟨ls⟩:=cs'';match ls,hs with
  |[x,y],_=>
   have F:=pT 0 fB fB;have H:=pT 1 fB fB;simp at F H;cases H;obtain⟨a2,rfl,m3⟩:=RG F;obtain⟨I,rfl,z⟩:=Df m3;have h2':RD [jr.pd] (Æ (Â ⟨k,0,Á⟩) 1 1) (λi=>i=k\/i=B) {h with tape:=u.w.tape,drawn:=u.w.drawn}:=m.kZ λ_ _=>rfl;let⟨xh,J,e2⟩:=atJ g (λj q=>q.1) z V;let⟨vs,k1,k2,k3,k4,k5⟩:=h2';let⟨vs',n1,n2⟩:=M1 (Di g) J k3;let⟨p1,p2⟩:=E a I z;refine⟨ha,q6,I,xh,q5,e2,p1,p2,_,⟨vs',n1.trans k1,k2,n2,XJ g k4,RJ J k5⟩,?_,λb t=> ?_⟩
   .rintro⟨i,hi,e⟩;have:=g.bi.2.1 _ _ _ z e;subst this;exact hi.elim o Y
   .let⟨i,_,e⟩:=t;exact E i b e
end Go.Proofs.Y.nz
namespace Go.Proofs.Y.nz
open Go Go.Conc Go.Proofs Go.RowKit Go.Proofs.Y.Lift Go.Proofs.Y.jr Go.Proofs.Y.fK Go.Proofs.Y.xq
structure za(an:Nat)(xs:List ByteArray)(w:Ë):Prop where
 gV:∀(p:Nat) (x:ByteArray),xs[p]?=Â x->w.cell? ⟨an,p,Á⟩=Â (Ä x)
 Se:w.cell? ⟨an,xs.length,Á⟩=Á
section
variable{an:Nat}{xs:List ByteArray}
def za.vd(h:za an xs w)(k:0<xs.length):∃c e f,w.heap[an]?=Â (Þ c e f)/\c.size=xs.length/\∀v∈c.toList,∃x,v=Ä x:=by
 have i:∀p,p<xs.length->w.cell? ⟨an,p,Á⟩=Â (Ä xs[p]!):=λp a=>h.gV p _ (by simp[a]);have b:=i 0 k;have d:=h.Se;simp only[ã]at b d;cases g:w.heap[an]? with
 |none=>rw[g]at b;cases b
 |some o=>
  cases o<;>rw[g]at b d<;>simp only[ü,ð,if_false]at b d<;>first|cases b|skip
  rename_i c e f;have l:c.size<=xs.length:=by
   rcases Ĕ xs.length c.size with q|q
   .rw[Ü q]at d;cases d
   .exact q
  have j:=λp a=>by have:=i p a;simp only[ã,g,ü,ð,if_false]at this;exact this
  have m:xs.length<=c.size:=by
   rcases Ĕ c.size xs.length with q|q
   .have:=j c.size q;rw[æ<|â _]at this;cases this
   .exact q
  refine⟨c,e,f,U,Nat.le_antisymm l m,λv n=> ?_⟩;let⟨p,a⟩:=Ġ n;have r:p<c.size:=by have:=(Ö.1 a).1;simpa using this
  have:=j p Z;rw[Ł]at a;rw[this]at a;cases a;exact⟨_,U⟩
end
def atM{l:fj}(o:ic l)(F:¬l.q)(H:nB<=l.w.heap.size)(h:za i vX l.w)(I:0<vX.length)(J:l.M i)(p:nI i=Ì)(f:mS l.w i=Â (0,0))(hn:vX.length<=1000)(K:B.size=1)(L:jP vX+vX.length<=140737488355328)(r:Bool)(k:ĝ)(m:List ĝ): fK.fA À r (λn s=>mK l n/\n.d=l.d/\s=G (k.finish<|Ä<|rV B vX) m) l (G (é À 38 #[Æ (Â ⟨i,0,Á⟩) vX.length vX.length,Ä B] ć)<|k::m):=by
 let⟨fn,c,N,P⟩:=CR 38 gG;let⟨t,e,Q,y,b2,z⟩:=h.vd I;have C:(λj=>j=i/\¬(oB l).O j)=λj=>j=i:=by funext j;exact propext ⟨λq=>q.1,λq=>⟨q,id⟩⟩
 have V:∀T,Ò À 38 #[Æ (Â ⟨i,0,Á⟩) vX.length vX.length,Ä B] (World.tp (nn (λj=>j=i) l.w) T 0) fun|Ç v,E=>v=Ä (rV B vX)/\lN E|_,_=>False:=λT=>by
  refine(XA U Z (â _) K (λj v a=> ?_) L).mono ?_
  .unfold mD at a;rw[ó]at a;obtain⟨x,b,rfl⟩:=ø.1 a;exact⟨i,0,U,by rw[Ė];exact sT (È p)<|h.gV j x b⟩
  .rintro e g ⟨rfl,b⟩;exact⟨U,b.iU JH⟩
 have X:∀v∈t.toList,fy (tN (λj=>j=i) À.globals.size) v v:=λv a=>by obtain⟨x,rfl⟩:=z v a;exact .mO x
 have Y:gA (tN (λj=>j=i) À.globals.size) #[Æ (Â ⟨i,0,Á⟩) vX.length vX.length,Ä B] #[Æ (Â ⟨i,0,Á⟩) vX.length vX.length,Ä B]:=sR λv a=>by
  have b:v=Æ (Â ⟨i,0,Á⟩) vX.length vX.length\/v=Ä B:=by simpa using a
  rcases b with rfl|rfl
  .exact fy.mP (ρ:=tN (λj=>j=i) À.globals.size) ⟨⟨U,U⟩,U,U⟩ _ _
  .exact .mO B
 have W:=IW BQ QA CR (λv u T D h=>h) gG N P (IX o) F (λb q=>Ï<|by rwa[q]) (by rw[C];refine⟨λb q=> ?_,H⟩;subst q;exact⟨t,e,Q,y,(by unfold mS at f;rw[y]at f;cases f;exact Ú _),sR X,λ_=>⟨Z,(λq=>by rw[p]at q;cases q),λ_=>Dh λv a=>by obtain⟨x,rfl⟩:=z v a;rfl⟩⟩) (λg q=>by cases q) Y (by rwa[C]) r k m;refine(W.oB o).ft ?_;rintro n s ⟨D,⟨ρ,E,v,v',_,_,b,rfl,g,_,_,u⟩,rfl,x,_,_,_⟩;cases b;exact⟨x,u,g⟩
end Go.Proofs.Y.nz
namespace Go.Proofs.Y.fK
open Go Go.Conc Go.Proofs.Y.Lift
open Go.ConcN (sumTo sumTo_congr)
def Yb(P:ay)(a:Ñ->Ë->Prop):Jd:=λl g=>g.status=.running/\∃v,(∀w,stepG P Î g w=.ended (.done v) w)/\a v l.w
section
variable{e:Nat->fj}
def my.pF{J:Jd}{T:gY}(c:my P X zX i J T D e E w qJ){sl:Option (Nat×Nat)}(k:vQ v u):ε P vQ (ĸ E w sl) (.done v) u qJ:=by
 have C:=c.gw.ie;have f:∀a g,E[a]?=Â g->a≠0->QuitsD P (D a) (Deaf qJ a) g:=λa g b d=>by
  have h:=(Ù.1 b).1;let⟨g0,j,l,_,_⟩:=c.gw.kv a g b;obtain rfl:g=g0:=by cases l;rfl
  simp only[d,if_false]at j;rw[C.mT a h];exact j _<|fU.fY _ _
 refine⟨v,U,k,C.rp,c.zy,⟨λg l=> ?_,U⟩,λa g b d=>⟨D a,(f a g b d).hears _⟩⟩;let⟨j,h⟩:=Ġ l;rw[List.getElem?_drop]at h;exact⟨_,(f (1+j) g (by rwa[<-Ł]) Z).leaves⟩
def atN{J:Jd}{T:gY}{l:fj}(v:l.w=W)(y:l.d=0)(o:¬l.q)(r:∀b,¬l.Rd b)(u:∀a,¬l.Oc a)(s:∀a,¬l.Rc a)(z:∀a,¬l.K a)(B:∀b,l.O b->b<W.heap.size)(C:g.status=.running)(D:na P Î J T l g):vV P (λ_=>False) 0 J T (λ_=>0) (λ_=>l) #[g] W #[]:=by
 have m:∀(p:Nat) a,touchAt #[] p=Â a->False:=λp a h=>by unfold touchAt Trace.act? at h;simp at h
 refine⟨fB,⟨⟨λi j f t E=> ?_,λi j f t E=> ?_,λi _ b _=>r b,λi _ a _=>s a,λ_ _ _ _=>id,λi _ a e=>e.elim (λq=>absurd q<|u a) λq=>absurd q<|s a,λi _ b F=>F.elim (B b) λq=>absurd q<|r b,λ_ h=>h.elim,λi _=>by rw[v];exact fU.fY _ _,λi _=>⟨λa e p x n=>(m p x n).elim,λa e=>(r _ e).elim,λa e=>(u a e).elim,λa e=>(s a e).elim⟩,λi _=>by rw[y];rfl,λI q=> ?_,λL G=>by simp at G,λp a c h=>(m p a h).elim,λi _ a e=>absurd e<|z a⟩,λi x n=> ?_,?_⟩,λi M f=> ?_,o,λp a h=>(m p a h).elim,λp a x h=>(m p a h).elim,λa _ q o=> ?_,?_⟩
 .have k:i<1:=f;have H:j<1:=t;omega
 .have k:i<1:=f;have H:j<1:=t;omega
 .let⟨i,j,_,⟨a,b,e,_⟩,_⟩:=q;simp[Trace.act?]at e
 .have k:i<1:=(Ù.1 n).1;obtain rfl:i=0:=Z
  obtain rfl:g=x:=by simpa using n
  exact⟨g,D,.gR,È C,È U⟩
 .exact λj _=>rfl
 .have k:i<1:=f;omega
 .simp[Trace.act?]at o
 .intro i g k;simp[Trace.g?]at k
end
end Go.Proofs.Y.fK
namespace Go.Proofs.Y.nz
open Go Go.Conc Go.Proofs Go.RowKit Go.Proofs.Y.Lift Go.Proofs.Y.jr Go.Proofs.Y.fK Go.Proofs.Y.xq
open Go.ConcN (sumTo)
def Dr(f:Ñ->Ë->Prop)(c:Array đ)(w:Ë)(d:Option (Nat×Nat))(t:Ζ):Prop:=
 ∃N a v b e,Η À (N+1) (ĸ c w d) t=(.ended (.done v) b,e)/\runN À N (ĸ c w d)=.next a/\step À a=.ended (.done v) b/\ε À f a (.done v) b e
section
variable{gs gs':Array đ}{w':Ë}{sl e:Option (Nat×Nat)}{t:Ζ}{l:fj}
def Dr.ft{a:Ñ->Ë->Prop}(h:Dr vQ gs w sl t)(b:∀v u,vQ v u->a v u):Dr a gs w sl t:=by let⟨M,c,v,x,d,e,f,g,i⟩:=h;exact⟨M,c,v,x,d,e,f,g,i.mono λv q=>b v x q⟩
def Dr.pX{N:Nat}(r:Η À N (ĸ gs w sl) t=(.next<|ĸ gs' w' e,qJ))(h:Dr vQ gs' w' e qJ):Dr vQ gs w sl t:=by
 let⟨M,a,v,x,b,c,d,f,g⟩:=h;refine⟨N+M,a,v,x,b,?_,?_,f,g⟩
 .rwa[ſ,runNT_add,r]
 .rw[<-Ū À (N+M) (ĸ gs w sl) t,runNT_add,r];rwa[Ū]
def wF(vQ:Ñ->Ë->Prop)(gs:Array đ)(w:Ë)(sl:Option (Nat×Nat))(t:Ζ):Prop:=Dr (λv u=>vQ v u/\u.os=w.os/\u.output=w.output) gs w sl t
def wF.pX{N:Nat}(r:Η À N (ĸ gs w sl) t=(.next<|ĸ gs' w' e,qJ))(a:w'.os=w.os/\w'.output=w.output)(h:wF vQ gs' w' e qJ):wF vQ gs w sl t:= Dr.pX r<|h.ft λ_ _ q=>⟨q.1,q.2.1.trans a.1,q.2.2.trans a.2⟩
def my.atO{Y:Nat->Prop}:∀(s:Nat) (f:Nat->Nat) (h:Nat->fj) (gs:Array đ) (w:Ë) (sl:Option (Nat×Nat)) (t:Ζ),sumTo gs.size f=s->my À Y zX n (Yb À vQ) .fO f h gs w t->wF vQ gs w sl t:=by
 intro s
 induction s using Nat.strongRecOn with
 |_ s q=>
  intro f h gs w sl t F c;have G:=c.fh;obtain⟨g0,a⟩:∃g,gs[0]?=Â g:=⟨_,Ü Z⟩;have m:∀d,Yb À vQ {h 0 with w:=w.at d} g0:=λd=>by
   let⟨u,b,j,_,_⟩:=(c.at d).gw.kv 0 g0 a;obtain rfl:g0=u:=by cases j;rfl
   exact b (w.at d)<|(c.at d).gw.ie.gy 0 Z
  obtain⟨i,g,d,e,k,r,l⟩:=crowd_pick c.Pg ⟨0,g0,a,(m 0).1⟩;by_cases o:i=0
  .subst o;rw[a]at k;obtain rfl:=aA k;let⟨_,v,p,x⟩:=m d;have u:stepT À (ĸ gs w sl)=(.ended (.done v)<|w.at d,#[]):=by
    rw[l,ConcN.runT_crowd_ended a<|p<|w.at d];rfl
   refine⟨0,ĸ gs w sl,v,w.at d,t,?_,U,?_,c.pF ⟨x,U,U⟩⟩
   .simp[Η,u]
   .have:=stepT_fst À (ĸ gs w sl) Î;rw[<-this];rw[u]
  .let⟨p,x,gs',u,b,j,I,J,y⟩:=(c.at d).abw (sl:=e) k o r;let⟨N,z,v,w',qJ,B,C,D,E⟩:=q (sumTo gs'.size p) (by rw[j];omega) p x gs' (w.at d) e (t++u) U y;refine⟨N+1,z,v,w',qJ,by simp only[Η,l,b];exact B,?_,D,E⟩;have:=Ū À (N+1) (ĸ gs w sl) t;rw[<-this];simp only[Η,l,b];rwa[Ū]
structure kr(l:fj):Prop where
 gk:ic l
 d:l.d=0
 q:¬l.q
 rd:∀b,¬l.Rd b
 oc:∀a,¬l.Oc a
 rc:∀a,¬l.Rc a
 k:∀a,¬l.K a
def kr.fZ(h:kr l){w₁:Ë}(r:fU l l.w w₁):kr {l with w:=w₁}:= ⟨⟨h.gk.lD,h.gk.lE,h.gk.fX,λb q=>Ī (h.gk.fG b q) r.fh,λa q=>q.elim (λz=>(h.oc a z).elim) λz=>(h.rc a z).elim,λa q=>(h.k a q).elim⟩,h.d,h.q,h.rd,h.oc,h.rc,h.k⟩
def kR(vQ:Ñ->Ë->Prop)(l:fj)(g:đ):Prop:=
 kr l->g.status=.running->∀(a:Loc->Prop) (H:Nat) (J:Jd) (c:Nat->Nat) (b:Nat->fj) (gs:Array đ) (sl:Option (Nat×Nat)) (t:Ζ),zU a H l->fK.vV À a H J .fO c b gs l.w t->(b 0).d=0->gs[0]?=Â g->wF vQ gs l.w sl t
def atP{a:fj}(h:zU zX i l)(k:uM l a l.w a.w):zU zX i a:= ⟨h.ja,λb c x d q=>by
  rcases k.fN b c with z|z
  .exact h.fD b z x d q
  .have:=h.ja x q;have:=h.fh;omega,Í h.fh k.fh⟩
def Yc{J f:Jd}{e:Nat->fj}(a:kr l)(h:g.status=.running)(j:zU zX i l)(c:fK.vV À zX i J .fO D e gs l.w t)(m:(e 0).d=0)(n:gs[0]?=Â g)(W:fK.fA À Î f l g):∃T,fK.vV À zX i f T D (fK.vg e l) gs l.w t:=by let⟨T,o⟩:=ku W;exact⟨T,my.abx c m n h U a.d a.q a.rd a.oc a.rc a.k (λb q=>⟨a.gk.fG b<|È q,j.fD b q⟩) o⟩
def aes{Y:Nat->Prop}{J:Jd}{a:Nat->fj}(c:my À Y zX i J .fO D a gs w t):∃g,gs[0]?=Â g/\J {a 0 with w:=w} g:=by
 obtain⟨g0,b⟩:∃g,gs[0]?=Â g:=⟨_,Ü c.fh⟩;let⟨d,e,f,_,_⟩:=c.gw.kv 0 g0 b;obtain rfl:g0=d:=by cases f;rfl
 exact⟨g0,b,e w<|c.gw.ie.gy 0 c.fh⟩
def Sf(vQ:Ñ->Ë->Prop):Jd:=λl g=>kr l/\g.status=.running/\kR vQ l g
def atQ{b:Nat->fj}{T:gY}(j:(b 0).w=w)(m:zU zX i (b 0))(c:fK.vV À zX i (Sf vQ) T D b gs w t):wF vQ gs w sl t:=by let⟨N,n,o,gs',w',e,qJ,r,_,a,f⟩:=my.mf (λl g h=>È h.2.1) T _ D b gs w sl t U c;let⟨u,p,h,q,s⟩:=aes f;refine wF.pX r ⟨a.os,a.mR⟩<|s h q zX i (Sf vQ) n o gs' e qJ ?_ f h.d p;apply atP m;rw[j];exact⟨a.fh,a.fN,a.rd,a.oc,a.rc,a.k,a.lr,a.fg,a.fC,a.os,a.mR,a.lU⟩
def wG(W:fK.fA À Î (Sf vQ) l g):kR vQ l g:=by intro b d i H J j k gs sl t a c e f;let⟨T,h⟩:=Yc b d a c e f W;exact atQ (by rw[fK.VZ]) (by rwa[fK.VZ]) h
def atS(W:fK.fA À Î (Yb À vQ) l g):kR vQ l g:=by intro b d q H J f s gs sl t i c j k;let⟨T,m⟩:=Yc b d i c j k W;let⟨N,n,o,gs',w',e,qJ,r,_,a,p⟩:=my.mf (λl g h=>È h.1) T _ f _ gs l.w sl t U m;exact wF.pX r ⟨a.os,a.mR⟩<|my.atO _ n o gs' w' e qJ U p
def Dj.fZ{e:z8}{R:Nat}{kd:Nat->Int}{f:List gE}{c:fj}(h:Dj X e R kd f l i v c){w₁:Ë}(r:fU c c.w w₁):Dj X e R kd f l i v {c with w:=w₁}:=by have a:=λb q=>r.fu b<|È q;let⟨V,j,g⟩:=h.CM;exact⟨λb q=>⟨(h.fi b q).1,(a b (h.fi b q).1).trans (h.fi b q).2⟩,⟨h.iG.1,λp k=>(iF<|a i h.iG.1).trans<|h.iG.2 p k⟩,⟨V,j.kZ λb q=>a b (g b q).1,g⟩,h.d,h.q,h.rd,h.kq,(iF<|a i h.iG.1).trans h.kJ.1,(zv<|a i h.iG.1).trans h.kJ.2⟩
def atT{kd:Nat->Int}{Y:z8}{V0 h:Nat->Prop}{s0:List gE}{B:Option ý}{E:Option ý}{R:Nat}{z:Array Ĩ} (LZ:0<R->E=Â ⟨j7,0,Á⟩) (Ge:0<R->l.M j7) (L0:∀i,i<R->l.w.cell? ⟨j7,i,Á⟩=Â (Ã<|Â ⟨D i,0,Á⟩)) (L3:∀i,i<R->l.w.cell? ⟨D i,4,Á⟩=Â (Å É<|kd i)) (F:M6 l Y kd D R X) (hZ:(∀b,X b->h b)/\∀b,b=1\/b=2\/b=3\/b=4->h b) (hZO:∀b,h b->l.O b) (hVZ:∀b,V0 b->h b) (Gs:RD s0 (Æ B j j9) V0 l.w) (hn:1<=n) (hs:n+R<1000) (hJ:∀o v p m c,kr o->Dj h Y R kd s0 l v (Æ p m c) o->kR vQ o (G (f.at (y.put ((z[i]?).bind (·.dst))<|ï #[Æ (Â ⟨v,0,Á⟩) R R,Æ p m c])<|Ð z jJ::L) qX)): kR vQ l (IG (Æ B j j9) (Æ E R j6) n<|f.at y (Ð z (i::jJ)::L)::qX):=by
 intro s hr ky H J lv lot gs sl t RR c hd I;have W:fK.fA À Î (Qo kd D R n (Æ B j j9) l<|f.at y (Ð z (i::jJ)::L)::qX) l (IG (Æ B j j9) (Æ E R j6) n<|f.at y (Ð z (i::jJ)::L)::qX):= alr s.gk s.q s.d Z LZ Ge L0 (λi I=>È<|F.fD _<|F.M7 i I) L3 λg K o u x C v P T V bw bf v1 h1 h2=>⟨g,K,u,x,C,v,P,T,V,bw,bf,v1,h1,h2,U⟩;let⟨T,c'⟩:=Yc s hr RR c hd I W;let⟨N,kO,Mh,gs',w',e,qJ,r,_,x,c''⟩:=my.mf (λlx gx K=>by obtain⟨_,_,_,_,_,_,_,_,_,_,_,_,_,_,rfl⟩:=K;exact È U) T _ lv _ gs l.w sl t U c';apply wF.pX r ⟨x.os,x.mR⟩;let⟨N2,atU,P,T2,Qp,V9,gs2,w2,Gt,t2,r2,io2,c2⟩:=ar3 (J:=λu P o C=>zU u P o/\Sf vQ o C) U c'' e s.gk s.rd s.q s.d RR F hZ hZO hVZ Gs ⟨x.os,x.mR⟩ hn hs λIU H' o v p m c V z2 u=> .fO λw₁ C=>by have lV:kr o:=⟨z2,u.d,u.q,u.rd,u.kq.1,u.kq.2.1,u.kq.2.2⟩;exact⟨⟨V.ja,V.fD,Í V.fh C.fh⟩,lV.fZ C,U,hJ _ v p m c (lV.fZ C)<|u.fZ C⟩
 apply wF.pX r2 ⟨io2.1.trans x.os.symm,io2.2.trans x.mR.symm⟩;let⟨N3,QP,atV,gs3,w3,sl3,t3,r3,_,wn3,c3⟩:=my.mf (λlx gx K=>È K.2.2.1) T2 _ Qp V9 gs2 w2 Gt t2 U c2;apply wF.pX r3 ⟨wn3.os,wn3.mR⟩;let⟨g3,Yd,pM,K,hr3,hs3⟩:=aes c3;exact hs3 K hr3 atU P _ QP atV gs3 sl3 t3 pM c3 K.d Yd
end
end Go.Proofs.Y.nz
namespace Go.Proofs.Y.nz
open Go Go.Conc Go.Proofs Go.RowKit Go.Proofs.Y.Lift Go.Proofs.Y.jr Go.Proofs.Y.fK Go.Proofs.Y.xq
open Go.Conc.Lib Go.ConcR.Gen Go.Proofs.YtgpphkdoanciiaaGreatDoor
def toTx(t:PT):Tx:=⟨(t.c.getD 0 0).toNat,(t.c.getD 1 0).toNat,t.c.getD 2 0,t.c.getD 3 0,t.c.getD 4 0,t.p⟩
def toQn(r:PR):Qn:=⟨(r.c.getD 0 0).toNat,(r.c.getD 1 0).toNat,(r.c.getD 2 0).toNat,(r.c.getD 3 0).toNat,r.c.getD 4 0,r.c.getD 5 0,r.c.getD 6 0,(r.c.getD 7 0).toNat⟩
def um:PR:=⟨[],[]⟩
def BL(rs:List PR):z8 where
 im:=λp=>((rs.getD p um).c.getD 5 0,((rs.getD p um).c.getD 0 0).toNat,(rs.getD p um).tx.map toTx)
 qn:=λp=>toQn<|rs.getD p um
def qc(rs:List PR)(p:Nat):Int:=(rs.getD p um).c.getD 4 0
section
variable{p:PR}{t:PT}{a:Nat}{rs:List PR}{l:fj}
def toTx_ok(h:pZ t):(toTx t).Ok:=by have d:=h.c.gV 0 A;have e:=h.c.gV 1 A;have a:=h.c.gV 2 A;have b:=h.c.gV 3 A;simp only[nX]at d e a b;exact⟨by show(t.c.getD 0 0).toNat<8;omega,by show(t.c.getD 1 0).toNat<8;omega,a.1,a.2,b.1,b.2,h.p⟩
def Ds(a:0<=c)(h:w.cell? ⟨b,i,Á⟩=Â (Å É c)):w.cell? ⟨b,i,Á⟩=Â (Å É (c.toNat:Nat)):=by
 rw[h];have:((c.toNat:Nat):Int)=c:=Z
 rw[this]
def atW(h:pZ t)(k:Nj a t w):ot a (toTx t) w:=by have b:=h.c.gV 0 A;have d:=h.c.gV 1 A;simp only[nX]at b d;exact⟨k.ty,Ds b.1<|k.c 0 A,Ds d.1<|k.c 1 A,k.c 2 A,k.c 3 A,k.c 4 A,k.p⟩
def atX(h:yU p)(k:BK i p w):G1 i (p.c.getD 5 0) (p.c.getD 0 0).toNat (p.tx.map toTx) w:=by
 have g:=h.c.gV 0 A;simp only[nX]at g;let⟨l,n,v,z,B,C⟩:=k.b;let⟨m,D,o⟩:=Ao (R:=λj t (y:Nat×Tx)=>y.2=toTx t/\∃d,l=Â ⟨d,0,Á⟩/\w.cell? ⟨d,j,Á⟩=Â (Ã<|Â ⟨y.1,0,Á⟩)/\Nj y.1 t w) p.tx 0 λj t E=>by let⟨d,a,e,f,q⟩:=C j t E;exact⟨(a,toTx t),U,d,e,by rwa[Ė],q⟩
 refine⟨l,n,v,m,⟨Ds g.1<|k.c 0 A,k.c 5 A,z⟩,⟨by rw[B,D],λj a t q=> ?_⟩,?_,by have:=h.n;omega⟩
 .let⟨x,f,e,d,F,r,s⟩:=o j (a,t) q;simp only at e r s;subst e;have u:=h.tx x<|è f;exact⟨d,0,F,r,atW u s,toTx_ok u⟩
 .refine Ŝ λj=> ?_;unfold nU;rw[ó,ó];cases d:m[j]? with
  |none=>
   have:p.tx[j]?=Á:=by rw[į]at d|-;omega
   rw[this];rfl
  |some y=>
   let⟨x,f,e,_⟩:=o j y d;rw[f];simp[e]
def atY(h:yU p)(k:BK i p w):M5 i (toQn p) w:=by have a:=h.c.gV 0 A;have b:=h.c.gV 1 A;have d:=h.c.gV 2 A;have e:=h.c.gV 3 A;have f:=h.c.gV 7 A;simp only[nX]at a b d e f;exact⟨Ds a.1<|k.c 0 A,Ds b.1<|k.c 1 A,Ds d.1<|k.c 2 A,Ds e.1<|k.c 3 A,k.c 4 A,k.c 5 A,k.c 6 A,Ds f.1<|k.c 7 A⟩
def aeu(h:yU p)(k:p.c.getD 4 0≠1):(toQn p).Ok:=by
 have d:=h.c.gV 0 A;have e:=h.c.gV 1 A;have f:=h.c.gV 2 A;have g:=h.c.gV 3 A;have i:=h.c.gV 4 A;have a:=h.c.gV 5 A;have b:=h.c.gV 6 A;have j:=h.c.gV 7 A;simp only[nX]at d e f g i a b j;refine⟨?_,?_,?_,?_,?_,?_,a.1,b.1,?_⟩
 .show(p.c.getD 0 0).toNat<8;omega
 .show(p.c.getD 1 0).toNat<8;omega
 .show(p.c.getD 2 0).toNat<1000000;omega
 .show(p.c.getD 3 0).toNat<18446744073709551616;omega
 .show 2<=p.c.getD 4 0;omega
 .show p.c.getD 4 0<=9;omega
 .show(p.c.getD 7 0).toNat<16;omega
def atZ(h:RQ rs v X l.w)(o:∀i∈rs,yU i)(C:p9 l.w)(D:∀b,b=1\/b=2\/b=3\/b=4->l.O b)(p:∀b,X b->l.O b): ∃j q f g,v=Æ j rs.length q/\(0<rs.length->j=Â ⟨f,0,Á⟩)/\(0<rs.length->l.O f)/\(∀a,a<rs.length->l.w.cell? ⟨f,a,Á⟩=Â (Ã<|Â ⟨g a,0,Á⟩))/\(∀a,a<rs.length->l.w.cell? ⟨g a,4,Á⟩=Â (Å É<|qc rs a))/\M6 l (BL rs) (qc rs) g rs.length X:=by
 obtain⟨r,E,rfl,s⟩:=h.gV;have k:∀a,a<rs.length->rs[a]?=Â (rs.getD a um):=λa d=>by simp[ď,d]
 have u:=λa d=>è<|k a d;obtain⟨f,m⟩:∃f,∀a,a<rs.length->r=Â ⟨f,0,Á⟩:=by
  by_cases e:0<rs.length
  .let⟨q,i,j,_⟩:=s 0 _<|k 0 e;exact⟨q,λ_ _=>j⟩
  .exact⟨0,λa d=>by omega⟩
 have F:∀a,∃i,a<rs.length->l.w.cell? ⟨f,a,Á⟩=Â (Ã<|Â ⟨i,0,Á⟩)/\BK i (rs.getD a um) l.w:=λa=>by
  by_cases d:a<rs.length
  .let⟨q,i,j,x,y⟩:=s a _<|k a d;have:=j.symm.trans<|m a d;cases this;exact⟨i,λ_=>⟨x,y⟩⟩
  .exact⟨0,λq=>absurd q d⟩
 let⟨g,j⟩:=Classical.axiomOfChoice F;have y:=λe=>by have:=h.lD;rw[m 0 e]at this;exact G0 this
 refine⟨r,E,f,g,U,λe=>m 0 e,λe=>p _<|y e,λa d=>(j a d).1,λa d=>(j a d).2.c 4 A,C,D,h.lZ,p,λa d=> ?_,λa d z=> ?_,λa d z=> ?_⟩
 .exact GZ<|h.lZ.fg (y Z) (j a d).1
 .have q:=o _<|u a d;have e:=q.c.gV 0 A;have B:=q.c.gV 5 A;simp only[nX]at e B;refine⟨atX q (j a d).2,?_,B.1,λt G=> ?_,?_⟩
  .show((rs.getD a um).c.getD 0 0).toNat<8;omega
  .obtain⟨x,H,rfl⟩:=Ý.1 G;exact toTx_ok<|q.tx x H
  .show((rs.getD a um).tx.map toTx).length<=1000;rw[í];have:=q.n;omega
 .have q:=o _<|u a d;exact⟨atY q (j a d).2,aeu q z⟩
end
def Ye:(∀r∈(kl B).2.2,yU r)/\(kl B).2.2.length<=24:=by
 unfold kl;split
 .exact⟨(λr a=>by cases a),A⟩
 .split
  .unfold pG;split
   .exact⟨(λr a=>by cases a),A⟩
   .have:=(X5 B.size 0 xv (X4 B)<|Ú _).1.d;exact⟨this.ad3,this.nq⟩
  .exact⟨(λr a=>by cases a),Ú _⟩
def pf(rs:List PR)(s:List gE):List ByteArray:=(ĭ rs.length).map λp=>BB (BL rs) (qc rs) p<|uW (BL rs) (jq (qc rs) rs.length) s<|gD (qc rs) p
def J0(rs:List PR)(s:List gE):List gE:=uW (BL rs) (jq (qc rs) rs.length) s<|gD (qc rs) rs.length
def uY(s:List gE)(B:ByteArray):ByteArray×Int×List gE:=
 if(kl B).1=0 then(rV ⟨#[59]⟩<|pf (kl B).2.2 s,0,J0 (kl B).2.2 s)else(⟨#[]⟩,(kl B).1,s)
section
variable{b:ĝ}{k:List Item}{l:fj}{a:Ď}
def aev{md:Ŋ}(I:Array Bool->Ď->fj->Prop) (p:∀c a l i m,I c a l->i∈ç md Q c->(∀f g,I (c.setIfInBounds i Î) f g->kR vQ g (G (b.at f<|Ð Q m::k) qX))->kR vQ l (G (b.at a<|Ð Q (i::m)::k) qX)) (n:∀c a l,I c a l->c.size=Q.size->ç md Q c=[]->kR vQ l (G (b.at a<|Ð Q []::k) qX)): ∀(d t:Nat) (c:Array Bool) (a:Ď) (l:fj),c.size=Q.size->ko c<=d->I c a l->kR vQ l (G (b.at a<|Ð Q (č md Q d t c [])::k) qX):=by
 intro d
 induction d with
 |zero=>
  intro t c a l e q h;simpa[č]using n c a l h e<|UP e Z
 |succ d r=>
  intro t c a l e q h;simp only[č];change kR vQ l (G (b.at a (Ð Q (match(ç md Q c)[t%(ç md Q c).length]? with
   |some i=>č md Q d (t/(ç md Q c).length) (c.setIfInBounds i Î) [i]
   |none=>[].reverse)::k)) qX)
  cases j:(ç md Q c)[t%(ç md Q c).length]? with
  |none=>
   have s:ç md Q c=[]:=by
    cases u:ç md Q c with
    |nil=>rfl
    |cons x o=>
     rw[u]at j;have v:t%(x::o).length<(x::o).length:=Nat.mod_lt _ fB;simp at j;simp at v;omega
   simpa using n c a l h e s
  |some i=>
   simp only[];rw[linearise_go_acc,List.reverse_singleton,List.singleton_append];have o:=è j;refine p c a l i _ h o λf g s=> ?_;exact r _ _ f g (by simpa using e) (by have:=Pl (Ι.1 o).1;omega) s
def at0{id:Nat}(I:Array Bool->Ď->fj->Prop)(e:kr l) (j:∀f,fU l l.w f->I (ű Q.size Ì) a {l with w:=f}) (m:∀g c a l i n,I c a l->i∈ç g Q c->(∀o p,I (c.setIfInBounds i Î) o p->kR vQ p (G (b.at o<|Ð Q n::k) qX))->kR vQ l (G (b.at a<|Ð Q (i::n)::k) qX)) (s:∀g c a l,I c a l->c.size=Q.size->ç g Q c=[]->kR vQ l (G (b.at a<|Ð Q []::k) qX)): kR vQ l (G (b.at a<|aI (.region id Q Î)::k) qX):=by
 refine wG (.mk U λf r=>⟨_,_,_,_,stepG_region_draw,UO (oA e.gk.lw r) e.q,.fO λt d=> ?_⟩);have h:=r.fl ⟨d.fh,d.fu,d.fg,d.fC,d.ia⟩;refine⟨e.fZ h,U,?_⟩;unfold Region.schedule;split
 .exact aev I (m _) (s _) _ _ _ _ _ fB (by rw[Ic];exact â _)<|j t h
 .exact aev I (m _) (s _) _ _ _ _ _ fB (by rw[Ic];exact â _)<|j t h
def at5{I:Ď->fj->Prop}(W:fK.fA À Î (λa d=>∃c,d=G (b.at c<|Ð Q jJ::k) qX/\I c a) l g)(f:∀c a,I c a->kr a)(i:∀c a,I c a->kR vQ a (G (b.at c<|Ð Q jJ::k) qX)):kR vQ l g:= wG (W.ft λa d h=>by obtain⟨c,rfl,e⟩:=h;exact⟨f c a e,U,i c a e⟩)
def enter_rep{f:FuncId}{fn:Func}(xs:List Value)(n:Nat)(hf:Tryz.prog.funcs[f]?=some fn)(hb:fn.body=some (rL fn []):=by kernel_rfl)(hn:fn.ntmps=xs.length+n:=by kernel_rfl):Frame.enter Tryz.prog f xs.toArray .normal=(base f).at ⟨(xs++List.replicate n undef).toArray,[]⟩ [.code<|rL fn []]:=by rw[enter_at _ hf hb,hn,š,Nat.add_sub_cancel_left,show xs.toArray++ű n ł=(xs++Ĉ n ł).toArray from Array.ext' fB]
def Dt{J:Jd}{f:ah}{args:Array Ñ}(d:Q[i]?=Â o)(e:Ĝ o (Ρ Q a.tmps)=Î)(g:b.kind≠.early)(h:lG l) (j:∀w,(Ť a.eval o).run À w=.ok (.enter f args) w) (m:∀w,(Ť a.eval o).events À w #[]=#[]) (n:∀c,fU l l.w c->fK.fA À Î J {l with w:=c} (G (é À f args ć)<|b.at a (Ð Q (i::jJ)::k)::qX)): fK.fA À Î J l (G (b.at a<|Ð Q (i::jJ)::k) qX):=by refine .mk U λc r=>⟨G (é À f args ć)<|b.at a (Ð Q (i::jJ)::k)::qX,c,#[],{l with w:=c},?_,UL c<|oA h r,n c r⟩;rw[stepG_enter d e g<|j c];unfold aJ;rw[m c,seen_none]
def J3{f:ah}{args:Array Ñ}(e:kr l)(j:Q[i]?=Â o)(m:Ĝ o (Ρ Q a.tmps)=Î)(n:b.kind≠.early) (p:∀w,(Ť a.eval o).run À w=.ok (.enter f args) w) (q:∀w,(Ť a.eval o).events À w #[]=#[]) (s:∀d,fU l l.w d->kR vQ {l with w:=d} (G (é À f args ć)<|b.at a (Ð Q (i::jJ)::k)::qX)): kR vQ l (G (b.at a<|Ð Q (i::jJ)::k) qX):= wG (Dt j m n e.gk.lw p q λd r=> .fO λg c=>by have h:fU l l.w g:=r.fl ⟨c.fh,c.fu,c.fg,c.fC,c.ia⟩;exact⟨e.fZ h,U,s g h⟩)
def mK.kq{c:fj}(e:kr l)(h:mK l c)(m:c.d=l.d):kr c:=by
 have g:∀b,¬c.Rd b:=by rw[h.Rd];exact e.rd
 have f:∀a,¬c.Oc a:=by rw[h.Oc];exact e.oc
 have i:∀a,¬c.Rc a:=by rw[h.Rc];exact e.rc
 have j:∀a,¬c.K a:=by rw[h.K];exact e.k
 exact⟨⟨λb _=>g b,λa q=>(f a q).elim,λa q=>q.elim (λz=>(f a z).elim) λz=>(i a z).elim,λb q=>q.elim (λz=>h.fG b z) λz=>(g b z).elim,λa q=>q.elim (λz=>(f a z).elim) λz=>(i a z).elim,λa q=>(j a q).elim⟩,m.trans e.d,by rw[h.q];exact e.q,g,f,i,j⟩
end
def Nk:Ĩ:=⟨Â 21,.move<|Œ 0,26, "attic.go:46",#[],Á⟩
def Nl:Ĩ:=⟨Â 22,.nilCheck<|Œ 21,0, "attic.go:46",#[⟨0,Đ⟩],Á⟩
def Nn:Ĩ:=⟨Â 23,.fieldAddr 68 (Œ 22) 1,0, "attic.go:46",#[⟨1,Đ⟩],Á⟩
def Np:Ĩ:=⟨Â 24,.load 65<|Œ 23,65, "attic.go:46",#[⟨2,Đ⟩],Á⟩
def Nq:Ĩ:=⟨Â 25,.move<|Œ 6,61, "attic.go:46",#[],Á⟩
def Nr:Ĩ:=⟨Â 26,.move<|Œ 0,26, "attic.go:46",#[],Á⟩
def Ns:Ĩ:=⟨Â 27,.nilCheck<|Œ 26,0, "attic.go:46",#[⟨5,Đ⟩],Á⟩
def Nt:Ĩ:=⟨Â 28,.fieldAddr 68 (Œ 27) 0,0, "attic.go:46",#[⟨6,Đ⟩],Á⟩
def Nu:Ĩ:=⟨Â 29,.load 3<|Œ 28,3, "attic.go:46",#[⟨7,Đ⟩],Á⟩
def Du:Ĩ:=⟨Â 30,.call {callee:=.value<|.func 37,args:=#[Œ 24,Œ 25,Œ 29],argTypes:=#[65,61,3]},66, "attic.go:46",#[⟨3,Đ⟩,⟨4,Đ⟩,⟨8,Đ⟩],Á⟩
def Dv:Ĩ:=⟨Â 20,.move<|Œ 30,66, "attic.go:46",#[⟨9,Đ⟩],Á⟩
def G8:Ĩ:=⟨Â 31,.extract (Œ 20) 0,25, "attic.go:46",#[⟨10,Đ⟩],Á⟩
def G9:Ĩ:=⟨Â 32,.extract (Œ 20) 1,65, "attic.go:46",#[⟨10,Đ⟩,{on:=13,ground:=Ground.gcOnly Departure.lateStores}],Á⟩
def Ha:Ĩ:=⟨Â 9,.assign<|Œ 31,25, "attic.go:46",#[⟨11,Đ⟩,⟨9,.chain⟩,⟨0,ö⟩,⟨1,ö⟩,⟨2,ö⟩,⟨3,ö⟩,⟨4,ö⟩,⟨5,ö⟩,⟨6,ö⟩,⟨7,ö⟩,⟨8,ö⟩,⟨9,ö⟩,⟨10,ö⟩,⟨11,ö⟩,{on:=12,ground:=Ground.textOnly Departure.lateStores}],Á⟩
def Hb:Ĩ:=⟨Â 10,.assign<|Œ 32,65, "attic.go:46",#[⟨12,Đ⟩,⟨13,.chain⟩,⟨0,ö⟩,⟨1,ö⟩,⟨2,ö⟩,⟨3,ö⟩,⟨4,ö⟩,⟨5,ö⟩,⟨6,ö⟩,⟨7,ö⟩,⟨8,ö⟩,⟨9,ö⟩,⟨10,ö⟩,⟨11,ö⟩,⟨12,ö⟩,⟨13,ö⟩],Á⟩
def qF:Array Ĩ:=#[Nk,Nl,Nn,Np,Nq,Nr,Ns,Nt,Nu,Du,Dv,G8,G9,Ha,Hb]
noncomputable def Yf:η:=rL Tryz.f17 [1,1,1,1]
structure oK(l:fj)(ab n:Nat)(s:List gE)(sl:Ñ)(V:Nat->Prop):Prop where
 uX:p9 l.w
 g4:∀b,b=1\/b=2\/b=3\/b=4->l.O b
 Hc:JZ ab n sl l.w
 fD:l.O ab
 rd:RD s sl V l.w
 vO:∀b,V b->l.O b
 nV:¬V ab
 n1:1<=n
 n8:n<=8
 ng:¬(ab=1\/ab=2\/ab=3\/ab=4)
structure Sg(l l':fj)(ab n:Nat)(s':List gE)(V:Nat->Prop):Prop where
 fi:∀b,l.O b->b≠ab->l'.O b/\l'.w.heap[b]?=l.w.heap[b]?
 Hc:∃xh V',oK l' ab n s' xh V'/\∀b,V' b->V b\/(b=1\/b=2\/b=3\/b=4)\/l.w.heap.size<=b
section
variable{l d:fj}{ab:Nat}{s:List gE}{sl:Ñ}{V:Nat->Prop}{cs:List ĝ}
def oK.gf{a:fj}(h:oK l ab n s sl V)(c:∀b,l.O b->a.O b)(d:∀b,l.O b->a.w.heap[b]?=l.w.heap[b]?)(e:l.w.heap.size<=a.w.heap.size):oK a ab n s sl V:= ⟨h.uX.kZ (Í h.uX.fG e) λb q=>d b<|h.g4 b q,λb q=>c b<|h.g4 b q,h.Hc.kZ<|d ab h.fD,c ab h.fD,h.rd.kZ λb q=>d b<|h.vO b q,λb q=>c b<|h.vO b q,h.nV,h.n1,h.n8,h.ng⟩
def oK.fZ(h:oK l ab n s sl V){w₁:Ë}(r:fU l l.w w₁):oK {l with w:=w₁} ab n s sl V:=h.gf (λ_ q=>q) (λb q=>r.fu b<|È q) r.fh
def pg(ab:Nat)(n:Nat)(sl rs:Ñ)(x:Value×Value):Nat->Ñ
 |0=>Ã<|Â ⟨ab,0,Á⟩
 |1=>Ã<|Â ⟨ab,0,Á⟩
 |2=>Ã<|Â ⟨ab,1,Á⟩
 |3=>sl
 |4=>rs
 |5=>Ã<|Â ⟨ab,0,Á⟩
 |6=>Ã<|Â ⟨ab,0,Á⟩
 |7=>Ã<|Â ⟨ab,0,Á⟩
 |8=>Å É n
 |9=>ï #[x.1,x.2]
 |10=>ï #[x.1,x.2]
 |11=>x.1
 |12=>x.2
 |13=>x.1
 |14=>x.2
 |_=>ł
def Aj(d:fj)(V:Nat->Prop)(rs:List PR)(s:List gE)(listed:Array Bool)(x:Value×Value)(l:fj):Prop:=
 kr l/\(listed.getD 9 Ì=Ì->gU (λ_=>False) d l)/\(listed.getD 9 Ì=Î->∃a e p m c,gU (λ_=>False) d a/\x=(Æ (Â ⟨e,0,Á⟩) rs.length rs.length,Æ p m c)/\Dj (λb=>V b\/b=1\/b=2\/b=3\/b=4) (BL rs) rs.length (qc rs) s a e (Æ p m c) l)
def Aj.fZ{V:Nat->Prop}{rs:List PR}{s:List gE}{listed:Array Bool}{x:Value×Value}(h:Aj d V rs s listed x l)(a:i≠9){w₁:Ë}(r:fU l l.w w₁):Aj d V rs s (listed.setIfInBounds i Î) x {l with w:=w₁}:=by
 have e:(listed.setIfInBounds i Î).getD 9 Ì=listed.getD 9 Ì:=by simp[ê,Array.getElem?_setIfInBounds_ne a]
 refine⟨h.1.fZ r,λq=> ?_,λq=> ?_⟩
 .rw[e]at q;exact(h.2.1 q).fZ r
 .rw[e]at q;let⟨b,f,p,m,c,g,j,k⟩:=h.2.2 q;exact⟨b,f,p,m,c,g,j,k.fZ r⟩
def at7{D:Array Ñ}{rs:List PR}(J:oK d ab n s sl V)(T:D.size=39)(W:D[0]?=Â (Ã<|Â ⟨ab,0,Á⟩))(Y:D[6]?=Â z) (md:Ŋ) (listed:Array Bool) (a:Ď) (l:fj) (i:Nat) (N:List Nat) (hI:II qF D (pg ab n sl z) (Aj d X rs s) listed a l) (g:i∈ç md qF listed) (H:i≠9): fK.fA À Î (λb c=>∃y,c=G ((base 17).at y<|Ð qF N::L) cs/\II qF D (pg ab n sl z) (Aj d X rs s) (listed.setIfInBounds i Î) y b) l (G ((base 17).at a<|Ð qF (i::N)::L) cs):=by
 let⟨x,f,I⟩:=hI;have p:w7 qF D.size=Î:=by rw[T];decide
 have K:=Ie g;have t:=I.1.gk.lw;have u:=I.1.q;have O:=(f.gd A).trans W;have Si:=(f.gd A).trans Y;have B:∀b,fU l l.w b->Aj d X rs s (listed.setIfInBounds i Î) x {l with w:=b}:=λb r=>I.fZ H r;let⟨fr,pT,_⟩:=J.Hc;have early:∀m,m<15->listed.getD m Ì=Ì->(∃e,e∈Du.after/\e.on=m/\FC e=Î)->listed.getD 9 Ì=Ì:=λm _ hm ⟨e,h1,h2,h3⟩=>by
  cases q:listed.getD 9 Ì with
  |false=>rfl
  |true=>
   have:=f.AW 9 Du e U q h1 h3;rw[h2,hm]at this;cases this
 have kV:qF.size=15:=A
 rw[kV]at K;have Tt:listed.getD i Ì=Ì:=by
  have:=(Ι.1 g).1;simp only[ê]at this|-;cases c:listed[i]? with
  |none=>rfl
  |some y=>rw[c]at this;simpa using this
 have P:∀{j v},(∃e,e∈Du.after/\e.on=i/\FC e=Î)->#[Å É n,sl][j]?=Â v->iW l ⟨ab,j,Á⟩/\l.w.cell? ⟨ab,j,Á⟩=Â v:=λq h=>by have y:=I.2.1<|early i K Tt q;exact⟨È<|y.M<|È J.fD,(iF<|y.fu ab (È J.fD) id).trans<|by simp[ã,pT,h]⟩
 match i,K,H with
 |9,_,H=>exact absurd U H
 |0,_,_=>
  exact jk (o:=Nk) p f U U g (by k_ne) t u (λb r=>by simp only[pg,Nk];go_simp) (λb r e c=>by simp[go_sem,Nk,O]at c) B
 |1,_,_=>
  have y:=f.fN 0 Nk 21 U (jj g U U) U;simp only[pg]at y;exact jk (o:=Nl) p f U U g (by k_ne) t u (λb r=>by simp only[pg,Nl];go_simp) (λb r e c=>by simp[go_sem,Nl,y]at c) B
 |2,_,_=>
  have y:=f.fN 1 Nl 22 U (jj g U U) U;simp only[pg]at y;exact jk (o:=Nn) p f U U g (by k_ne) t u (λb r=>by simp only[pg,Nn];go_simp) (λb r e c=>by simp[go_sem,Nn,y]at c) B
 |3,_,_=>
  have y:=f.fN 2 Nn 23 U (jj g U U) U;simp only[pg]at y;let⟨C,E⟩:=P (j:=1) ⟨⟨3,Đ⟩,by simp[Du],U,U⟩ U;refine jk (o:=Np) p f U U g (by k_ne) t u (λb r=> ?_) (λb r e c=> ?_) B
  .have F:=(C.fg r).trans E;simp only[pg,Np];go_simp
  .have F:=(C.fg r).trans E;simp[go_sem,Np,y,F]at c;subst c;exact C.rd
 |4,_,_=>
  exact jk (o:=Nq) p f U U g (by k_ne) t u (λb r=>by simp only[pg,Nq];go_simp) (λb r e c=>by simp[go_sem,Nq,Si]at c) B
 |5,_,_=>
  exact jk (o:=Nr) p f U U g (by k_ne) t u (λb r=>by simp only[pg,Nr];go_simp) (λb r e c=>by simp[go_sem,Nr,O]at c) B
 |6,_,_=>
  have y:=f.fN 5 Nr 26 U (jj g U U) U;simp only[pg]at y;exact jk (o:=Ns) p f U U g (by k_ne) t u (λb r=>by simp only[pg,Ns];go_simp) (λb r e c=>by simp[go_sem,Ns,y]at c) B
 |7,_,_=>
  have y:=f.fN 6 Ns 27 U (jj g U U) U;simp only[pg]at y;exact jk (o:=Nt) p f U U g (by k_ne) t u (λb r=>by simp only[pg,Nt];go_simp) (λb r e c=>by simp[go_sem,Nt,y]at c) B
 |8,_,_=>
  have y:=f.fN 7 Nt 28 U (jj g U U) U;simp only[pg]at y;let⟨C,E⟩:=P (j:=0) ⟨⟨8,Đ⟩,by simp[Du],U,U⟩ U;refine jk (o:=Nu) p f U U g (by k_ne) t u (λb r=> ?_) (λb r e c=> ?_) B
  .have F:=(C.fg r).trans E;simp only[pg,Nu];go_simp
  .have F:=(C.fg r).trans E;simp[go_sem,Nu,y,F]at c;subst c;exact C.rd
 |10,_,_=>
  have y:=f.fN 9 Du 30 U (jj g U U) U;simp only[pg]at y;exact jk (o:=Dv) p f U U g (by k_ne) t u (λb r=>by simp only[pg,Dv];go_simp) (λb r e c=>by simp[go_sem,Dv,y]at c) B
 |11,_,_=>
  have y:=f.fN 10 Dv 20 U (jj g U U) U;simp only[pg]at y;exact jk (o:=G8) p f U U g (by k_ne) t u (λb r=>by simp only[pg,G8];go_simp) (λb r e c=>by simp[go_sem,G8,y]at c) B
 |12,_,_=>
  have y:=f.fN 10 Dv 20 U (jj g U U) U;simp only[pg]at y;exact jk (o:=G9) p f U U g (by k_ne) t u (λb r=>by simp only[pg,G9];go_simp) (λb r e c=>by simp[go_sem,G9,y]at c) B
 |13,_,_=>
  have y:=f.fN 11 G8 31 U (jj g U U) U;simp only[pg]at y;exact jk (o:=Ha) p f U U g (by k_ne) t u (λb r=>by simp only[pg,Ha];go_simp) (λb r e c=>by simp[go_sem,Ha,y]at c) B
 |14,_,_=>
  have y:=f.fN 12 G9 32 U (jj g U U) U;simp only[pg]at y;exact jk (o:=Hb) p f U U g (by k_ne) t u (λb r=>by simp only[pg,Hb];go_simp) (λb r e c=>by simp[go_sem,Hb,y]at c) B
end
def aua(x y:Ñ)(n:Nat)(a:List ĝ):G (é À 37 #[x,y,Å É n] ć) a=IG x y n a:=by unfold IG;rw[enter_at #[x,y,Å É n] ς (c:=rL Tryz.f37 []) fF];kernel_rfl
section
variable{l g:fj}{s:List gE}{V:Nat->Prop}{d:List PR}
def auc{D:Array Ñ}(E:oK g i n s x V)(hq:RQ d v X g.w)(P:∀b,X b->g.O b)(hok:∀r∈d,yU r)(Po:d.length<=24)(ht:D.size=39) (md:Ŋ) (listed:Array Bool) (a:Ď) (l:fj) (Q:List Nat) (hI:II qF D (pg i n x v) (Aj g (λb=>V b\/X b) d s) listed a l) (B:9∈ç md qF listed) (hn:∀T F,II qF D (pg i n x v) (Aj g (λb=>V b\/X b) d s) (listed.setIfInBounds 9 Î) T F->kR vQ F (G ((base 17).at T<|Ð qF Q::L) qX)): kR vQ l (G ((base 17).at a<|Ð qF (9::Q)::L) qX):=by
 let⟨t,y,K⟩:=hI;have hss:w7 qF D.size=Î:=by rw[ht];decide
 have M:=(Ι.1 B).1;have W:9<listed.size:=by
  rcases Ĕ 9 listed.size with q|q
  .exact q
  .simp[ê,æ q]at M
 have N:listed.getD 9 Ì=Ì:=by simp only[ê,Ü W]at M|-;simpa using M
 have hAf:=K.2.1 N;have e24:a.tmps[24]?=Â x:=y.fN 3 Np 24 U (jj B U U) U;have e25:a.tmps[25]?=Â v:=y.fN 4 Nq 25 U (jj B U U) U;have e29:a.tmps[29]?=Â (Å É n):=y.fN 8 Nu 29 U (jj B U U) U;have late:∀(Y:Value×Value) j,listed.getD j Ì=Î->pg i n x v Y j=pg i n x v t j:=λY j u=>by
  have c:listed.getD 10 Ì=Ì:=by
   cases q:listed.getD 10 Ì with
   |false=>rfl
   |true=>exact absurd (y.AW 10 Dv ⟨9,Đ⟩ U q (by simp[Dv]) U)<|by rw[N];decide
  have e:listed.getD 11 Ì=Ì:=by
   cases q:listed.getD 11 Ì with
   |false=>rfl
   |true=>exact absurd (y.AW 11 G8 ⟨10,Đ⟩ U q (by simp[G8]) U)<|by rw[c];decide
  have h:listed.getD 12 Ì=Ì:=by
   cases q:listed.getD 12 Ì with
   |false=>rfl
   |true=>exact absurd (y.AW 12 G9 ⟨10,Đ⟩ U q (by simp[G9]) U)<|by rw[c];decide
  have m:listed.getD 13 Ì=Ì:=by
   cases q:listed.getD 13 Ì with
   |false=>rfl
   |true=>exact absurd (y.AW 13 Ha ⟨11,Đ⟩ U q (by simp[Ha]) U)<|by rw[e];decide
  have p:listed.getD 14 Ì=Ì:=by
   cases q:listed.getD 14 Ì with
   |false=>rfl
   |true=>exact absurd (y.AW 14 Hb ⟨12,Đ⟩ U q (by simp[Hb]) U)<|by rw[h];decide
  match j with
  |9=>rw[N]at u;cases u
  |10=>rw[c]at u;cases u
  |11=>rw[e]at u;cases u
  |12=>rw[h]at u;cases u
  |13=>rw[m]at u;cases u
  |14=>rw[p]at u;cases u
  |0|1|2|3|4|5|6|7|8=>rfl
  |j+15=>rfl
 refine J3 (f:=37) (args:=#[x,v,Å É n]) K.1 (o:=Du) U (Pn U _) (by k_ne) (λw=> ?_) (λw=> ?_) λw₁ r=> ?_
 .simp only[Du];go_simp
 .exact ú U ς U U #[]
 have qP:=K.1.fZ r;have z:=hAf.fZ r;have C:=E.gf (λb q=>z.O b q) (λb q=>z.fu b (È q) id) z.fh;have xf:=hq.kZ λb q=>z.fu b (È<|P b q) id;have hQ1:=λb q=>z.O b<|P b q;obtain⟨ra,cr,rb,rq,rfl,LZ,Ge,L0,L3,ready⟩:=atZ xf hok C.uX C.g4 hQ1;obtain⟨H,I,J,rfl⟩:∃H I J,x=Æ H I J:=by let⟨_,_,_,⟨H,I,J,e,_⟩,_⟩:=E.rd;exact⟨H,I,J,e⟩
 rw[aua];refine atT LZ (λh=>È<|Ge h) L0 L3 ready ⟨λb q=>È<|Ï q,λb q=>Ï q⟩ (λb q=>q.elim (λq=>q.elim (C.vO b)<|hQ1 b)<|C.g4 b) (λb q=>È<|È q) C.rd E.n1 (by have:=E.n8;omega) λF e p m c h hT=> ?_;refine hn _ F ⟨(Æ (Â ⟨e,0,Á⟩) d.length d.length,Æ p m c),(y.aaH<|late _).gS hss U B λ_=>rfl,h,λq=> ?_,λ_=>⟨_,e,p,m,c,z,U,hT⟩⟩;have:(listed.setIfInBounds 9 Î).getD 9 Ì=Î:=by simp[ê,W]
 rw[this]at q;cases q
end
section
variable{l o l4:fj}{ab:Nat}{s:List gE}{sl:Ñ}{V:Nat->Prop}{rs:List PR}
structure aex(l l4:fj)(ab n:Nat)(s:List gE)(sl:Ñ)(V:Nat->Prop)(rs:List PR)(an:Nat)(xh:Ñ):Prop where
 fi:∀b,l.O b->l4.O b/\l4.w.heap[b]?=l.w.heap[b]?
 fG:nB<=l4.w.heap.size
 iG:l4.O an/\za an (pf rs s) l4.w/\mS l4.w an=Â (0,0)
 CM:∃V',RD (J0 rs s) xh V' l4.w/\(∀b,V' b->l4.O b)/\¬V' ab/\∀b,V' b->V b\/(b=1\/b=2\/b=3\/b=4)\/l.w.heap.size<=b
def aud{kd:Nat->Int}(h:∀p,p<rs.length->w.cell? ⟨i,p,Á⟩=Â (Ä<|BB (BL rs) (qc rs) p<|uW (BL rs) (jq (qc rs) rs.length) s<|gD (qc rs) p))(d:w.cell? ⟨i,rs.length,Á⟩=Á):za i (pf rs s) w:=by refine⟨λp x a=> ?_,by unfold pf;simpa using d⟩;unfold pf at a;rw[ó]at a;obtain⟨q,e,rfl⟩:=ø.1 a;let⟨b,c⟩:=Ö.1 e;simp at b c;subst c;exact h p b
def aey:(pf rs s).length=rs.length:=by simp[pf]
def aue:nB<=5:=by show À.globals.size<=5;decide+kernel
def auf{f:fj}{p:Option ý}(d:oK l ab n s sl V)(t:ic l)(u:∀b,X b->l.w.heap.size<=b)(v:∀b,l.O b->o.O b/\o.w.heap[b]?=l.w.heap[b]?)(x:l.w.heap.size<=o.w.heap.size)(y:ic l4)(e:gU (λ_=>False) o f)(a:Dj (λb=>(V b\/X b)\/b=1\/b=2\/b=3\/b=4) (BL rs) rs.length (qc rs) s f i (Æ p m j) l4):aex l l4 ab n s sl V rs i (Æ p m j):=by
 have g:∀b,l.O b->l4.O b/\l4.w.heap[b]?=l.w.heap[b]?:=λb q=>by let⟨z,h⟩:=v b q;let⟨k,r⟩:=a.fi b<|e.O b z;exact⟨k,r.trans<|(e.fu b (È z) id).trans h⟩
 refine⟨g,?_,⟨a.iG.1,aud (kd:=qc rs) a.iG.2 a.kJ.1,a.kJ.2⟩,?_⟩
 .have:=y.fG 4<|È (g 4<|d.g4 4 A).1;have:=aue;omega
 .let⟨h,B,k⟩:=a.CM;have r:∀b,h b->V b\/(b=1\/b=2\/b=3\/b=4)\/l.w.heap.size<=b:=λb q=>by
   rcases(k b q).2 with((z|z)|z)|z
   .exact È z
   .exact Ï<|Ï<|u b z
   .exact Ï<|È z
   .exact Ï<|Ï<|Í (Í x e.fh) z
  refine⟨h,B,λb q=>(k b q).1,λq=> ?_,r⟩;rcases r ab q with z|z|z
  .exact d.nV z
  .exact d.ng z
  .have:=t.fG ab<|È d.fD;omega
def aug{f:fj}{p:Option ý}(d:oK l ab n s sl V)(h:aex l l4 ab n s sl V rs i (Æ p m j))(E:ic l4)(g:∀b,l4.O b->f.O b)(r:∀b,l4.O b->f.w.heap[b]?=(l4.w.setCell ⟨ab,1,Á⟩<|Æ p m j).heap[b]?)(v:l4.w.heap.size<=f.w.heap.size):Sg l f ab n (J0 rs s) V:=by
 let⟨x,y,t,u,z⟩:=h.CM;have k:∀b,l4.O b->b≠ab->f.w.heap[b]?=l4.w.heap[b]?:=λb q e=>(r b q).trans<|nG (a:=⟨ab,1,Á⟩) e;have o:=h.fi ab d.fD;refine⟨λb q e=>⟨g b (h.fi b q).1,(k b (h.fi b q).1 e).trans (h.fi b q).2⟩,Æ p m j,x,⟨?_,λb q=>g b (h.fi b<|d.g4 b q).1,?_,g ab o.1,y.kZ λb q=>k b (t b q) λe=>u<|e▸q,λb q=>g b<|t b q,u,d.n1,d.n8,d.ng⟩,z⟩
 .exact d.uX.kZ (Í h.fG v) λb q=>(k b (h.fi b<|d.g4 b q).1 λe=>d.ng<|e▸q).trans (h.fi b<|d.g4 b q).2
 .let⟨B,C,D⟩:=d.Hc;refine⟨B,?_,D⟩;rw[r ab o.1];unfold Δ;simp[ŀ,o.2,C]
def auh{J:Jd}(b:lG l)(d:fK.fA À Î J l (G (f.at (y.put ((Q[i]?).bind (·.dst))<|Ä ⟨#[]⟩)<|Ð Q jJ::L) qX)): fK.fA À Î J l (G (é À 38 #[Æ O 0 j,Ä B] ć)<|f.at y (Ð Q (i::jJ)::L)::qX):=by
 have hF:True:=trivial;rw[enter_rep [_,_] 73 Ğ];simp only[Ĉ,ě,Ĥ];conv in rL _ _=>whnf
 apply gZ (n:=60) b;repeat w_go fS
 u_in fS hF
 refine Ů (t:=4) U U Ğ U ⟨by u_nil,?_⟩;refine ô λ_ _=> ?_;exact d
def za.kZ{w':Ë}{xs:List ByteArray}(h:za i xs w)(k:w'.heap[i]?=w.heap[i]?):za i xs w':= ⟨λp x a=>Dq k<|h.gV p x a,by have:=h.Se;simp only[ã,k]at this|-;exact this⟩
def aui{xs:List ByteArray}(g:p9 w)(h:za i xs w):nI i=Ì:=by
 have b:∀e,RL i e w->False:=λe ⟨c,o,j,_,_,d,l⟩=>by
  have f:w.cell? ⟨i,0,Á⟩=Â c[0]:=by simp only[ã,j,ü,ð,if_false];exact Ü d
  rcases Į xs.length with q|q
  .have a:=h.Se;rw[q,f]at a;cases a
  .have a:=h.gV 0 _<|Ô q;let⟨k,n,m⟩:=l c[0]<|ò.2<|Ć d;rw[f,m]at a;cases a
 cases q:nI i with
 |false=>rfl
 |true=>
  unfold nI at q;simp at q;rcases q with rfl|rfl
  .exact(b _ g.t3).elim
  .exact(b _ g.t4).elim
def mK.auj(a:lG l)(r:fU l l.w u):mK l {l with w:=u}:=⟨λ_ q=>q,λ_ q=>È q,U,U,U,U,U,r,oA a r⟩
def auk{a:Ď}{xs:List ByteArray}(b:kr l)(j:nB<=l.w.heap.size)(h:za n xs l.w)(m:l.O n)(o:nI n=Ì)(p:mS l.w n=Â (0,0))(s:xs.length<=1000){N:Nat}(t:xs.length=N)(u:B.size=1)(v:jP xs+xs.length<=140737488355328): fK.fA À Î (λc g=>mK l c/\c.d=l.d/\g=G (f.at (a.put ((Q[i]?).bind (·.dst))<|Ä<|rV B xs)<|Ð Q jJ::L) qX) l (G (é À 38 #[Æ (Â ⟨n,0,Á⟩) N N,Ä B] ć)<|f.at a (Ð Q (i::jJ)::L)::qX):=by
 subst t;rcases Į xs.length with e|e
 .have x:=Ó e;subst x;exact auh b.gk.lw<|.fO λy r=>⟨mK.auj b.gk.lw r,U,U⟩
 .refine(atM b.gk b.q j h e (È m) o p s u v Î _ qX).ft ?_;rintro c g ⟨r,x,rfl⟩;exact⟨r,x,by rw[ĥ]⟩
def aul{N:Array Ñ}{cf:ĝ}(C:oK l ab n s sl V)(IJ:ic l)(Yh:∀b,X b->l.w.heap.size<=b)(hl:∀b,l.O b->o.O b/\o.w.heap[b]?=l.w.heap[b]?)(kV:l.w.heap.size<=o.w.heap.size)(Po:rs.length<=24)(wW:jP (pf rs s)+rs.length<=140737488355328)(ht:N.size=39)(ht0:N[0]?=Â (Ã<|Â ⟨ab,0,Á⟩)) (hJ:∀P,kr P->Sg l P ab n (J0 rs s) V->kR vQ P (G (cf.at (y.put ((Q[i]?).bind (·.dst))<|ï #[Ä<|rV ⟨#[59]⟩<|pf rs s,Å É 0])<|Ð Q jJ::L) qX)) (md:Ŋ) (listed:Array Bool) (a:Ď) (l4:fj) (hI:II qF N (pg ab n sl v) (Aj o (λb=>V b\/X b) rs s) listed a l4) (H:listed.size=qF.size) (I:ç md qF listed=[]): kR vQ l4 (G ((base 17).at a<|Ð qF []::[aI Yf])<|cf.at y (Ð Q (i::jJ)::L)::qX):=by
 have hF:True:=trivial;let⟨x,D,g,_,hS⟩:=hI;have J:∀i∈ĭ 15,listed.getD i Ì=Î:=by
  cases md
  .exact tC I H (ĭ 15) [] gG λi c=>by cases c
  .exact λi c=>tC I H [0,1,2,3,4,5,6,7,8,9,10,11,13,12,14] [] gG (λi c=>by cases c) i (by have:=Ž.1 c;revert i;decide)
  .exact tC I H (ĭ 15) [] gG λi c=>by cases c
 obtain⟨l1,r,p,m,c,k1,rfl,hT⟩:=hS<|J 9 A;have h:=auf (rs:=rs) C IJ Yh hl kV g.gk k1 hT;let⟨F,ds⟩:=a;obtain rfl:ds=[]:=D.Cs;have T:F[0]?=Â (Ã<|Â ⟨ab,0,Á⟩):=(D.gd A).trans ht0;have W:F[9]?=Â (Æ (Â ⟨r,0,Á⟩) rs.length rs.length):=D.fN 13 Ha 9 U (J 13 A) U;have Y:F[10]?=Â (Æ p m c):=D.fN 14 Hb 10 U (J 14 A) U;have Ma:F.size=39:=D.fh.trans ht;clear D J hS hT k1 I H;obtain⟨u,rfl⟩:=arrU F Ma;simp only[List.getElem?_toArray,ó,List.getElem?_range,Nat.reduceLT,þ,Õ]at T W Y;simp only[ĭ,List.range.loop,List.map,T,W,Y];clear T W Y Ma;let⟨fr,pT,hfr⟩:=C.Hc;let⟨Sj,hab⟩:=h.fi ab C.fD;have hat4:l4.w.heap[ab]?=Â (Þ #[Å É n,sl] 68 (0,0)):=by rw[hab,pT,hfr]
 have c1:l4.w.cell? ⟨ab,1,Á⟩=Â sl:=by simp[ã,hat4]
 have z1:l4.w.frozen? ⟨ab,1,Á⟩=Ì:=by simp[World.frozen?,hat4]
 have F1:=g.q;apply wG;apply gZ (n:=20) g.gk.lw;conv in Yf=>whnf
 iterate 7 w_go fS
 refine ô λ_ _=> ?_;apply Lw (p:=ab) (off:=1) (v:=Æ p m c) (u:=sl) U U (by k_ne) g.gk.lw F1 Sj c1 z1 U (λw z B=>by go_simp) (λw z B=>by simp[go_sem,events_store _ _ _ _ _ _ (show Value.oneCell' (Æ p m c)=Î from rfl),z,B]);have k5:=Pv (X:=λb=>b=ab) (p:=ab) (w':=l4.w.setCell ⟨ab,1,Á⟩<|Æ p m c) g.gk (fU.fY _ _) Sj U fK.ln λj hj=>fK.nG hj;have A4:=k5.gk g.gk;have avM:(l4.w.setCell ⟨ab,1,Á⟩<|Æ p m c).heap.size=l4.w.heap.size:=fK.ln;have vL:kr ({l4 with w:=l4.w.setCell ⟨ab,1,Á⟩ (Æ p m c)}:fj):=⟨A4,g.d,g.q,g.rd,g.oc,g.rc,g.k⟩;have c0:l4.w.cell? ⟨ab,0,Á⟩=Â (Å É n):=by simp[ã,hat4]
 have aum:r≠ab:=λe=>by
  rcases Į (pf rs s).length with q|q
  .have z:=h.iG.2.1.Se;rw[q,e,c0]at z;cases z
  .have B:=h.iG.2.1.gV 0 _<|Ô q;rw[e,c0]at B;cases B
 have aez:(l4.w.setCell ⟨ab,1,Á⟩<|Æ p m c).heap[r]?=l4.w.heap[r]?:=fK.nG (a:=⟨ab,1,Á⟩) aum;have XM:=h.iG.2.1.kZ aez;have FL:mS (l4.w.setCell ⟨ab,1,Á⟩<|Æ p m c) r=Â (0,0):=(zv aez).trans h.iG.2.2;have aun:nI r=Ì:=aui (C.uX.kZ h.fG λb q=>(h.fi b<|C.g4 b q).2) h.iG.2.1;have hlen:(pf rs s).length=rs.length:=aey;apply gZ (n:=20) A4.lw;iterate 4 w_go fS
 refine ô λ_ _=> ?_;refine Dt (f:=38) (args:=#[Æ (Â ⟨r,0,Á⟩) rs.length rs.length,Ä ⟨#[59]⟩]) U gG (by k_ne) A4.lw (λw=>by go_simp) (λw=>ú U Ğ U U #[]) λw₁ E=> ?_;have Si:=vL.fZ E;have auo:za r (pf rs s) w₁:=XM.kZ<|E.fu r<|È h.iG.1;refine fK.fA.oM ?_ (auk (xs:=pf rs s) Si (Í (by rw[fK.ln];exact h.fG) E.fh) auo h.iG.1 aun ((zv<|E.fu r<|È h.iG.1).trans FL) Z hlen U Z);rintro K g6 ⟨M,hd,rfl⟩;have hb7:kr K:=mK.kq Si M hd;have hk6:∀b,l4.O b->K.w.heap[b]?=(l4.w.setCell ⟨ab,1,Á⟩<|Æ p m c).heap[b]?:=λb q=>(M.gy.fu b<|È q).trans<|E.fu b<|È q;have hs6:l4.w.heap.size<=K.w.heap.size:=by have z:=M.gy.fh;have B:=E.fh;have h3:(l4.w.setCell ⟨ab,1,Á⟩<|Æ p m c).heap.size=l4.w.heap.size:=fK.ln;exact Í (Nat.le_of_eq h3.symm)<|Í B z
 have B:∀b,l4.O b->K.O b:=λb q=>M.O b q;generalize rV ⟨#[59]⟩ (pf rs s)=ans at*;walk_nrm;apply gZ (n:=20) hb7.gk.lw;repeat w_go fS
 u_in fS hF
 refine υ (t:=4) (u:=5) U U Ō U ⟨by u_nil,?_⟩;refine ô λ_ _=> ?_;refine .fO λs5 z=>⟨hb7.fZ z,U,hJ _ (hb7.fZ z)<|aug C h g.gk B (λb q=>(z.fu b<|È<|B b q).trans<|hk6 b q)<|Í hs6 z.fh⟩
end
section
variable{l:fj}{s:List gE}
def aup{e:fj}{c:Nat->Prop}{rs:List PR}(F:oK l j n s v X)(H:ic l)(t:oK e j n s v X)(o:kr e)(I:RQ rs z c e.w)(J:∀b,c b->e.O b)(K:∀r∈rs,yU r)(u:rs.length<=24)(M:∀b,c b->l.w.heap.size<=b)(N:∀b,l.O b->e.O b/\e.w.heap[b]?=l.w.heap[b]?)(P:l.w.heap.size<=e.w.heap.size)(T:jP (pf rs s)+rs.length<=140737488355328)(p:d.size=39)(B:d[0]?=Â (Ã<|Â ⟨j,0,Á⟩))(V:d[6]?=Â z) (W:∀g,kr g->Sg l g j n (J0 rs s) X->kR vQ g (G (f.at (y.put ((Q[i]?).bind (·.dst))<|ï #[Ä<|rV ⟨#[59]⟩<|pf rs s,Å É 0])<|Ð Q jJ::L) qX)): kR vQ e (G ((base 17).at ⟨d,[]⟩<|aI (.region 4 qF Î)::[aI Yf])<|f.at y (Ð Q (i::jJ)::L)::qX):=by
 refine at0 (II qF d (pg j n v z)<|Aj e (λb=>X b\/c b) rs s) o (λa x=> ?_) (λh k a l i jJ m C D=> ?_) λh k a l m Y yr=> ?_
 .refine⟨(ł,ł),pC.jy _ _ _,o.fZ x,λ_=>(gU.fY o.gk.lw).fZ x,λq=> ?_⟩;exact absurd q A
 .by_cases E:i=9
  .subst E;exact auc t I J K u p h k a l jJ m C D
  .exact at5 (at7 t p B V h k a l i jJ m C E) (λC g q=>by let⟨x,_,q⟩:=q;exact q.1) D
 .exact aul F H M N P u T p B W h k a l m Y yr
def aeA(p:kr l)(r:oK l j n s v X)(I:B.size<=Ě)(J:(kl B).1=0->jP (pf (kl B).2.2 s)+(kl B).2.2.length<=140737488355328) (t:∀z,kr z->Sg l z j n (uY s B).2.2 X->kR vQ z (G (f.at (y.put ((Q[i]?).bind (·.dst))<|ï #[Ä (uY s B).1,Å É (uY s B).2.1])<|Ð Q jJ::L) qX)): kR vQ l (G (é À 17 #[Ã<|Â ⟨j,0,Á⟩,Ä B] ć)<|f.at y (Ð Q (i::jJ)::L)::qX):=by
 have hF:=trivial;rw[enter_rep [_,_] 37 Ō];simp only[Ĉ,ě,Ĥ];conv in rL _ _=>whnf
 apply wG;apply gZ (n:=20) p.gk.lw;iterate 8 w_go fS
 refine ô λ_ _=> ?_;refine Dt (f:=36) (args:=#[Ä B]) U gG (by k_ne) p.gk.lw (λw=>by go_simp) (λw=>ú U Ň U U #[]) λw₁ m=> ?_;have C:=p.fZ m;refine fK.fA.oM ?_<|atF C.gk C.q (Í r.uX.fG m.fh) I Î _ _;rintro u g1 ⟨x,K,a,rfl,M⟩;have g:=mK.kq C x K;have h:∀b,l.O b->u.O b/\u.w.heap[b]?=l.w.heap[b]?:=λb q=>⟨x.O b q,(x.gy.fu b<|È q).trans<|m.fu b<|È q⟩;have F:=Í m.fh x.gy.fh;rw[ĥ];by_cases k:(kl B).1=0
 .have D:uY s B=(rV ⟨#[59]⟩<|pf (kl B).2.2 s,0,J0 (kl B).2.2 s):=if_pos k;let⟨c,N,E⟩:=M k;have P:=J k;rw[D]at t;obtain⟨T,V⟩:=Ye;rw[k];generalize(kl B).2.2=rs at*;generalize(kl B).2.1=at1 at*;walk_nrm;apply gZ (n:=40) g.gk.lw;repeat w_go fS
  refine ô λ_ _=> ?_;refine .fO λo d=>⟨g.fZ d,U,?_⟩;have W:=g.fZ d;have e:∀b,l.O b->({u with w:=o}:fj).O b/\o.heap[b]?=l.w.heap[b]?:=λb q=>⟨(h b q).1,(d.fu b<|È (h b q).1).trans (h b q).2⟩;have H:=Í F d.fh;have Y:=r.gf (λb q=>(e b q).1) (λb q=>(e b q).2) H;have yt:=N.kZ λb q=>d.fu b<|È (E b q).1;have hQ3:=λb q=>(E b q).1;have Yh:=λb q=>Í m.fh (E b q).2;exact aup r p.gk Y W yt hQ3 T V Yh e H P U U U t
 .have D:uY s B=(⟨#[]⟩,(kl B).1,s):=if_neg k;rw[D]at t;have c:((kl B).1 !=0)=Î:=by rwa[bne_iff_ne]
  generalize(kl B).1=er at*;generalize(kl B).2.1=at1 at*;walk_nrm;apply gZ (n:=40) g.gk.lw;repeat w_go fS
  u_in fS hF
  refine υ U U Ō U ⟨by u_nil,?_⟩;refine ô λ_ _=> ?_;refine .fO λo d=>⟨g.fZ d,U,t _ (g.fZ d) ?_⟩;have e:∀b,l.O b->({u with w:=o}:fj).O b/\o.heap[b]?=l.w.heap[b]?:=λb q=>⟨(h b q).1,(d.fu b<|È (h b q).1).trans (h b q).2⟩;exact⟨λb q _=>e b q,v,X,r.gf (λb q=>(e b q).1) (λb q=>(e b q).2)<|Í F d.fh,λb q=>È q⟩
end
def aeB(a:ByteArray)(c:a.size=1):∀b:List ByteArray,(rV a b).size<=jP b+b.length
 |[]=>Ú _
 |x::r=>by
  show(x.data.toList++uV a r).toArray.size<=_;have d:=Rt a c r;have e:jP (x::r)=x.size+jP r:=by simp[jP]
  have f:x.data.toList.length=x.size:=by rw[Č];rfl
  simp only[š,Ø,d,e,f,ĉ];omega
def Yi{M:Nat}(a:∀z∈vX,z.size<=M)(b:M<=100)(c:vX.length<=400000):(JD vX).size<=100000000:=by
 unfold JD;split
 .decide
 .have d:=aeB ⟨#[44]⟩ U vX;have e:=JA vX a;have:M*vX.length<=100*400000:=Ÿ b c;omega
def J4(i:Nat):(sd i).size<=3:=by
 unfold sd tU;rw[î];split
 .show 1+1<=3;decide
 .show 1+2<=3;decide
def aeC(s:jr.St)(x y:Nat)(k:Int):∀(m i:Nat),i+m<=1000->(xo s x y k i m).size<=20
 |0,i,_=>by unfold xo;decide
 |m+1,i,h=>by
  unfold xo;split
  .exact uS i Z
  .exact aeC s x y k m (i+1) Z
def auq(s t:jr.St):(uU s t 8).length<=400000:=by
 unfold uU;have a:∀l:List Nat,(l.flatMap<|Dc s t).length<=18*l.length:=λl=>by
  induction l with
  |nil=>simp
  |cons i l b=>
   rw[List.flatMap_cons,Ø,ĉ];have:(Dc s t i).length<=18:=by unfold Dc;rw[Ø];have c:=Rp s t i 16;have d:=ac8 (s i).fH (t i).fH (s i).iN (t i).iN i;omega
   omega
 have:=a<|ĭ 8;rw[List.length_range]at this;omega
def aur{i:List (Nat×gE)}{q:Qn}(n:ow (lL i))(ok:q.Ok):(BA i q).size<=100000000:=by
 unfold BA;split
 .have:=J4 3;omega
 .rename_i p o;have r:p.2∈lL i:=Ý.2 ⟨p,MW o,U⟩;let⟨b,f,E,t⟩:=n.yK _ r;have j:∀u,u<18446744073709551616->(iK u).size<=100000000:=λu v=>by have:=uS u v;omega
  unfold JF;split
  .have c:=f.kY q.x q.kY;exact j _ (by have:=c.1;have:=c.2;omega)
  .split
   .have c:=f.fH q.x;exact j _ (by have:=c.1;have:=c.2;omega)
   .split
    .split
     .have:=J4 6;omega
     .rename_i F;have l:gP (q.k:Int):=⟨Z,by have:=ok.k;omega⟩;have e:=QR p.2.s [] q.x q.y q.g q.k f ok.x ok.y l Z Z (by simp;omega);have w:=Xk p.2.s [] q.x q.y q.g q.k f ok.x ok.y l Z Z (by simp;omega) (λ_ q=>by cases q);unfold XB;have t:=e.I4;have G:=e.I5;have m:=e.ly;have B:=e.iw;simp at B;have C:=aeB ⟨#[44]⟩ U<|[iK (gR p.2.s [] q.x q.y q.g q.k).lk.toNat,iK (gR p.2.s [] q.x q.y q.g q.k).ly.toNat,iK (gR p.2.s [] q.x q.y q.g q.k).jO.toNat]++(gR p.2.s [] q.x q.y q.g q.k).ls.map wv;have D:=JA (M:=21) ([iK (gR p.2.s [] q.x q.y q.g q.k).lk.toNat,iK (gR p.2.s [] q.x q.y q.g q.k).ly.toNat,iK (gR p.2.s [] q.x q.y q.g q.k).jO.toNat]++(gR p.2.s [] q.x q.y q.g q.k).ls.map wv) λz d=>by
       rcases à.1 d with h|h
       .simp at h;rcases h with rfl|rfl|rfl
        .have:=uS (gR p.2.s [] q.x q.y q.g q.k).lk.toNat (by cases(gR p.2.s [] q.x q.y q.g q.k).lk<;>decide);omega
        .have:=uS (gR p.2.s [] q.x q.y q.g q.k).ly.toNat (by have:=m.1;have:=m.2;omega);omega
        .have:=uS (gR p.2.s [] q.x q.y q.g q.k).jO.toNat Z;omega
       .obtain⟨e,a,rfl⟩:=Ý.1 h;exact Rw (w e a).2
      simp only[Ø,ĉ,ļ,í]at C D;omega
    .split
     .have:=aeC p.2.s q.x q.y q.k 401 0 Z;omega
     .split
      .have:=adq<|Jo p.2.s;have:=adr<|16-(p8<|Jo p.2.s).size;unfold Rz;rw[î];omega
      .split
       .exact Yi (λz d=>by obtain⟨e,a,rfl⟩:=Ý.1 d;exact Rw (b.jv e a).2) Z<|by rw[í];exact b.nl
       .split
        .exact Yi (λz d=>by obtain⟨e,a,rfl⟩:=Ý.1 d;exact adj (b.sM e a).1 (b.sM e a).2) Z (by rw[í];have:=b.nu;omega)
        .split
         .have:=J4 3;omega
         .exact Yi (ads _ _) Z<|auq _ _
def aus(a:List (Nat×gE))(v:Int)(x:Nat)(gQ:List Tx):(yL a v x gQ).2.size<=3:=by
 unfold yL;split
 .exact J4 3
 .split
  .exact J4 4
  .split
   .exact J4 5
   .show(tU a.length).size<=3;unfold tU;split
    .show 1<=3;decide
    .show 2<=3;decide
def aut{s:List gE}{i:Int×Nat×List Tx}(h:ow s)(a:∀t∈i.2.2,t.Ok)(b:i.2.2.length<=1000):ow (RO s i):= ow.tY (by rwa[RN]) a b
def aeD{rs:List PR}{s:List gE}(h:ow s)(a:∀r∈rs,yU r):∀k,k<=(jq (qc rs) rs.length).length->ow (uW (BL rs) (jq (qc rs) rs.length) s k)
 |0,_=>h
 |k+1,hk=>by
  have b:=Mf (zS (l:=jq (qc rs) rs.length)<|show k<_ from hk);have c:rs.getD ((jq (qc rs) rs.length).getD k 0) um∈rs:=è (i:=(jq (qc rs) rs.length).getD k 0) (by have q:=b.1;generalize(jq (qc rs) rs.length).getD k 0=j at q;simp[ď,q]);have q:=a _ c;refine aut (aeD h a k Z) (λt d=> ?_) ?_
  .obtain⟨x,t,rfl⟩:=Ý.1 d;exact toTx_ok<|q.tx x t
  .show((rs.getD _ um).tx.map toTx).length<=1000;rw[í];have:=q.n;omega
def VB(kd:Nat->Int):∀{p R:Nat},p<=R->gD kd p<=(jq kd R).length:=λ{p R} h=>by
 show(jq kd p).length<=(jq kd R).length
 induction h with
 |refl=>exact â _
 |@step R _ ih=>
  by_cases q:kd R=1
  .rw[F9 q];simp;omega
  .rwa[Gb q]
def auu{rs:List PR}{s:List gE}(h:ow s)(a:∀r∈rs,yU r)(k:rs.length<=24):jP (pf rs s)+rs.length<=140737488355328:=by
 have c:=JA (M:=100000000) (pf rs s) λz b=>by
  unfold pf at b;obtain⟨p,d,rfl⟩:=Ý.1 b;have e:=Ž.1 d;have f:=aeD h a (gD (qc rs) p)<|VB _ Z;unfold BB;split
  .exact Í (aus _ _ _ _) A
  .rename_i g;have j:rs.getD p um∈rs:=è (i:=p) (by simp[ď,e]);exact aur (by rwa[RN])<|aeu (a _ j) g
 rw[aey]at c;omega
def aeE{s:List gE}(h:ow s):jP (pf (kl B).2.2 s)+(kl B).2.2.length<=140737488355328:=auu h Ye.1 Ye.2
def pk8(c:Int):Int:=if c<0 then(-(c+1))%8 else c%8
def auv(c:Int)(b:-9223372036854775808<=c)(d:c<=9223372036854775807)(w:Ë):Ò À 30 #[Å É c,Å É 8] w λe a=>e=Ç (Å É<|pk8 c)/\a=w:=by
 unfold pk8;by_cases h:c<0
 .rw[if_pos h];have e:-(c+1).tmod 8=(-(c+1))%8:=by rw[<-Int.neg_tmod,Int.tmod_eq_emod_of_nonneg Z]
  have H:=fp e.symm;clear e;go_enter ů,ζ;go_wp2;go_ret;exact⟨by rw[H.out];rfl,U⟩
 .rw[if_neg h];go_enter ů,ζ;go_wp2;go_ret;exact⟨U,U⟩
def Yj(a:ý)(w:Ë):Sem.events À (binOp BinOp.eql 26 (Ã<|Â a)<|Ã Á) w #[]=#[]:=fF
def quiet_way{l:fj}(c:kr l)(t:nB<=l.w.heap.size){a:Array Ñ}{r:Ñ}(n:Mi F=Î)(x:∀v∈a.toList,fy (tN (λ_=>False) À.globals.size) v v)(y:∀{ρ v},fy ρ r v->v=r)(z:∀w,Ò À F a w λe o=>e=Ç r/\o=w)(p:Bool)(i:ĝ)(k:List ĝ): fK.fA À p (λm s=>mK l m/\m.d=l.d/\s=G (i.finish r) k) l (G (é À F a ć)<|i::k):=by
 let⟨H,I,B,C⟩:=CR F n;have E:∀T,Ò À F a (World.tp (nn (λj=>False/\¬(oB l).O j) l.w) T 0) fun|Ç v,j=>v=r/\lN j|_,_=>False:=λT=>by refine(z _).mono ?_;rintro e o ⟨rfl,rfl⟩;exact⟨U,JH⟩
 have W:=IW BQ QA CR (λv u T D h=>h) n B C (IX c.gk) c.q (λb q=>q.elim) ⟨λb q=>q.elim,t⟩ (λg q=>by cases q) (sR x) E p i k;refine(W.oB c.gk).ft ?_;rintro m s ⟨J,⟨ρ,j,v,K,_,_,h,rfl,g,_,_,u⟩,rfl,D,_,_,_⟩;rw[y h]at g;exact⟨D,u,g⟩
def Yk:ByteArray:=⟨#[98,48,58,97,59,98,48,58,104,59,117,48,59,98,49,58,97]⟩
def auz:(uY [jr.pd] Yk).1=⟨#[49,48,48,48,59,49,48,48,48,59,45,59,33,51]⟩:=fF
def auA:(uY [jr.pd] Yk).2=(0,[jr.pd]):=fF
structure auC(l l':fj)(ab n:Nat)(sl:Ñ)(V:Nat->Prop):Prop where
 Hd:oK l' ab n [jr.pd] sl V
 fi:∀b,l.O b->l'.O b/\l'.w.heap[b]?=l.w.heap[b]?
 fN:l.w.heap.size<=ab
 Yn:∀b,V b->(b=1\/b=2\/b=3\/b=4)\/l.w.heap.size<=b
section
variable{l:fj}
def Yo{J:Jd}{s:List gE}(c:kr l)(d:oK l j n s z X)(g:fK.fA À Î J l (G (f.at (y.put ((Q[i]?).bind (·.dst))<|Å É s.length)<|Ð Q jJ::L) qX)): fK.fA À Î J l (G (é À 22 #[Ã<|Â ⟨j,0,Á⟩] ć)<|f.at y (Ð Q (i::jJ)::L)::qX):=by
 have hF:True:=trivial;obtain⟨a,b,rfl⟩:∃a b,z=Æ a s.length b:=by
  let⟨o,h,_,⟨a,k,b,e,_,m⟩,_⟩:=d.rd;have:k=s.length:=by rw[m.iw,<-h];simp[lL]
  exact⟨a,b,by rw[e,this]⟩
 have o:s.length<=40:=by let⟨_,_,e,_⟩:=d.rd;exact e.le
 let⟨p,k,_⟩:=d.Hc;have m:l.w.cell? ⟨j,1,Á⟩=Â (Æ a s.length b):=by simp[ã,k]
 rw[enter_rep [_] 7 Ű];simp only[Ĉ,ě,Ĥ];conv in rL _ _=>whnf
 refine gZ (n:=20) c.gk.lw ?_;repeat w_go fS
 refine ô λ_ _=> ?_;refine qN (x:=⟨j,1,Á⟩) (v:=Æ a s.length b) U gG (by k_ne) c.gk.lw c.q (È<|È d.fD) m (λw h=>by go_simp) (λw h=>by simp[go_sem,h]) ?_;walk_nrm;refine gZ (n:=20) c.gk.lw ?_;repeat w_go fS
 u_in fS hF
 refine Ů (t:=2) U U Ű U ⟨by u_nil,?_⟩;refine ô λ_ _=> ?_;exact g
def aeF(j:kr l)(p:p9 l.w)(I:∀b,b=1\/b=2\/b=3\/b=4->l.O b)(c:Int)(ye:-9223372036854775808<=c)(Dn:c<=9223372036854775807) (hJ:∀J a n K V,kr J->auC l J a n K V->kR vQ J (G (f.at (y.put ((Q[i]?).bind (·.dst))<|Ã<|Â ⟨a,0,Á⟩)<|Ð Q jJ::L) qX)): kR vQ l (G (é À 15 #[Å É c] ć)<|f.at y (Ð Q (i::jJ)::L)::qX):=by
 have hF:True:=trivial;rw[enter_rep [_] 36 φ];simp only[Ĉ,ě,Ĥ];conv in rL _ _=>whnf
 apply wG;apply gZ (n:=20) j.gk.lw;repeat w_go fS
 refine ô λ_ _=> ?_;refine Dt (f:=30) (args:=#[Å É c,Å É 8]) U gG (by k_ne) j.gk.lw (λw=>by go_simp) (λw=>ú U ů U U #[]) λw₁ r=> ?_;have W:=j.fZ r;refine fK.fA.oM ?_ (quiet_way W (Í p.fG r.fh) gG (λv h=>by simp at h;rcases h with rfl|rfl<;>exact .iL _ _) (λh=>by cases h;rfl) (auv c ye Dn) Î _ _);rintro s g1 ⟨u,hd,rfl⟩;obtain⟨z,hz,MC,Wa⟩:∃z,pk8 c=z/\0<=z/\z<8:=⟨_,U,by unfold pk8;split<;>omega,by unfold pk8;split<;>omega⟩;rw[hz];have M:kr s:=mK.kq W u hd;have x:∀b,l.O b->s.O b/\s.w.heap[b]?=l.w.heap[b]?:=λb q=>⟨u.O b q,(u.gy.fu b<|È q).trans<|r.fu b<|È q⟩;have B:l.w.heap.size<=s.w.heap.size:=Í r.fh u.gy.fh;rw[ĥ];walk_nrm;refine gZ (n:=20) M.gk.lw ?_;repeat w_go fS
 refine ô λ_ _=> ?_;have oW:É.wrap (1+z)=1+z:=ņ _ ⟨Z,Z⟩;refine Dt (f:=35) (args:=#[Å É<|1+z]) U gG (by k_ne) M.gk.lw (λw=>by go_simp) (λw=>ú U π U U #[]) λs5 h=> ?_;have N:=M.fZ h;obtain⟨n,hn⟩:∃n:Nat,1+z=n:=⟨(1+z).toNat,Z⟩;rw[hn];refine fK.fA.oM ?_<|atL N.gk N.q (Í (Í p.fG B) h.fh) (n:=(n:Int)) Z Z Î _ _;rintro d g3 ⟨C,vT,a,K,rfl,pT,Sj,hab,V,uL,hnV,X⟩;have g:kr d:=mK.kq N C vT;have k:∀b,l.O b->d.O b/\d.w.heap[b]?=l.w.heap[b]?:=λb q=>⟨C.O b (x b q).1,(C.gy.fu b<|È (x b q).1).trans<|(h.fu b<|È (x b q).1).trans (x b q).2⟩;have Y:l.w.heap.size<=d.w.heap.size:=Í B<|Í h.fh C.gy.fh;have auD:l.w.heap.size<=a:=Í B<|Í h.fh hab;have auE:∀b,b=1\/b=2\/b=3\/b=4->b<l.w.heap.size:=λb q=>j.gk.fG b<|È<|I b q;have hin:oK d a n [jr.pd] K V:=⟨p.kZ (Í p.fG Y) λb q=>(k b<|I b q).2,λb q=>(k b<|I b q).1,pT,Sj,uL,λb q=>(X b q).1,hnV,Z,Z,λq=>by have:=auE a q;omega⟩;have hVn:∀b,V b->l.w.heap.size<=b:=λb q=>Í B<|Í h.fh (X b q).2;rw[ĥ];walk_nrm;apply gZ (n:=60) g.gk.lw;repeat w_go fS
 refine ô λ_ _=> ?_;apply ym (v:=û Ì) U gG (by k_ne) g.gk.lw g.q (λw _=>by go_simp) (λw _ e m=>by simp[go_sem,Yj]at m);walk_nrm;apply gZ (n:=60) g.gk.lw;repeat w_go fS
 refine ô λ_ _=> ?_;refine .fO λAZ m=>⟨g.fZ m,U,?_⟩;have vL:=g.fZ m;have auF:=hin.fZ m;have P:∀b,l.O b->({d with w:=AZ}:fj).O b/\AZ.heap[b]?=l.w.heap[b]?:=λb q=>⟨(k b q).1,(m.fu b<|È (k b q).1).trans (k b q).2⟩;refine J3 (f:=17) (args:=#[Ã<|Â ⟨a,0,Á⟩,Ä ⟨#[98,48,58,97,59,98,48,58,104,59,117,48,59,98,49,58,97]⟩]) vL U gG (by k_ne) (λw=>by go_simp) (λw=>ú U Ō U U #[]) λaeG D=> ?_;change kR vQ _ (G (é À 17 #[Ã<|Â ⟨a,0,Á⟩,Ä Yk] ć) _);refine aeA (vL.fZ D) (auF.fZ D) A (λ_=>aeE aep) λl6 E aeH=> ?_;rw[auA]at aeH|-;rw[auz];let⟨O9,sl6,V6,aeI,hV6⟩:=aeH;have nD:∀b,l.O b->b≠a:=λb q e=>by have:=j.gk.fG b<|È q;omega
 have F:∀b,l.O b->l6.O b/\l6.w.heap[b]?=l.w.heap[b]?:=λb q=>by let⟨o,H⟩:=O9 b (P b q).1<|nD b q;exact⟨o,H.trans<|(D.fu b<|È (P b q).1).trans (P b q).2⟩
 have hV7:∀b,V6 b->(b=1\/b=2\/b=3\/b=4)\/l.w.heap.size<=b:=λb q=>by
  rcases hV6 b q with z|z|z
  .exact Ï<|hVn b z
  .exact È z
  .exact Ï<|Í Y<|Í (Í m.fh D.fh) z
 walk_nrm;apply wG;apply gZ (n:=60) E.gk.lw;repeat w_go fS
 refine ô λ_ _=> ?_;refine Dt (f:=22) (args:=#[Ã<|Â ⟨a,0,Á⟩]) U gG (by k_ne) E.gk.lw (λw=>by go_simp) (λw=>ú U Ű U U #[]) λvU o=> ?_;apply Yo (E.fZ o) (aeI.fZ o);have T:=E.fZ o;have auG:=aeI.fZ o;walk_nrm;apply gZ (n:=60) T.gk.lw;repeat w_go fS
 u_in fS hF
 refine Ů (t:=2) U U φ U ⟨by u_nil,?_⟩;refine ô λ_ _=> ?_;exact .fO λavN H=>⟨T.fZ H,U,hJ _ a n sl6 V6 (T.fZ H) ⟨auG.fZ H,λb q=>⟨(F b q).1,(H.fu b<|È (F b q).1).trans<|(o.fu b<|È (F b q).1).trans (F b q).2⟩,auD,hV7⟩⟩
end
def Dw(l:fj)(c:Option ý)(N:Nat)(f:Nat->ByteArray):Prop:=∀j,j<N->(f j).size<=Ě/\∃a b,c=Â ⟨a,b,Á⟩/\l.O a/\l.w.cell? ⟨a,b+j,Á⟩=Â (Ä<|f j)
def Dw.gf{l a:fj}{d:Option ý}{N:Nat}{f:Nat->ByteArray}(h:Dw l d N f)(k:∀b,l.O b->a.O b/\a.w.heap[b]?=l.w.heap[b]?):Dw a d N f:=λj g=>by let⟨i,c,m,n,e,o⟩:=h j g;exact⟨i,c,m,n,(k c e).1,Dq (k c e).2 o⟩
def auJ{t:Tmp}(d:f.kind=ć)(e:y.defers=[])(g:P.funcs[f.fn]?=Â s)(c:s.results=#[.tmp t])(h:P.inits.idxOf? f.fn=Á):stepG P Î (G {f.at y L with mode:=.returning} []) w=.ended (.done<|y.tmps.getD t ł) w:=by have i:=results_tmp c y.tmps P w;have j:=events_results_tmp (P:=P) (w:=w) c y.tmps;simp[G,stepG,unwind,doReturn,Frame.at,d,e,g,i,j,h,seen,GStep.after]
def auO{l:fj}(f:kR vQ l g)(a:kr l)(e:g.status=.running):wF vQ #[g] l.w Á #[]:=by have c:=atN (P:=À) (J:=λ_ _=>True) (T:=.fO) U a.d a.q a.rd a.oc a.rc a.k (λb q=>a.gk.fG b<|È q) e λ_ _=>trivial;exact f a e (λ_=>False) 0 _ _ _ _ Á _ ⟨λx q=>q.elim,λ_ _ _ _ q=>q,Ú _⟩ c a.d U
def Sl(W:Ë):fj:={O:=λb=>b<W.heap.size,Rd:=λ_=>False,Oc:=λ_=>False,Rc:=λ_=>False,K:=λ_=>False,d:=0,q:=False,w:=W}
def aeP(W:Ë):kr (Sl W):= ⟨⟨λ_ _=>id,λ_ q=>q.elim,λ_ q=>q.elim (λz=>z.elim) λz=>z.elim,λ_ q=>q.elim id λz=>z.elim,λ_ q=>q.elim (λz=>z.elim) λz=>z.elim,λ_ q=>q.elim⟩,U,id,λ_=>id,λ_=>id,λ_=>id,λ_=>id⟩
structure qf(W w':Ë):Prop where
 vd:∀b,b<W.heap.size->w'.heap[b]?=W.heap[b]?
 fh:W.heap.size<=w'.heap.size
def auP(g:p9 W):∀b,b=1\/b=2\/b=3\/b=4->b<W.heap.size:=λb q=>by let⟨c,a,h,_⟩:=g.t4;have:=(Ù.1 h).1;omega
def auR:À.cellsOf 9=1:=fF
def auS(b a n:Nat):(⟨b,a,Á⟩:ý).add n=⟨b,a+n,Á⟩:=by
 unfold Addr.add;by_cases h:n=0
 .rw[if_pos h,h];rfl
 .rw[if_neg h]
def auT(h:w.cell? a=Â v):a.spot=Á/\a.block<w.heap.size:=by
 unfold ã at h;split at h
 .rename_i c t f e;constructor
  .cases d:a.spot with
   |none=>rfl
   |some x=>rw[d]at h;cases h
  .rcases Ĕ a.block w.heap.size with b|b
   .exact b
   .rw[æ b]at e;cases e
 .cases h
open Go.ChangeShapes Go.WideShapes Go.ChangeAt Go.Deep in
def auU{H:Type}{enc:TypeId×Value->H}{x:DataW H×List MemPlace} (h:DataW.trod enc À W 0 (λ_=>Î) Î k 25 [Æ O J j9]=Â x):J<=Ě/\∃f,Dw (Sl W) O J f:=by
 rcases open_slice ē h with⟨g,_⟩|⟨a,r,t,m,n,D,C,g,_,E,F,u,_,v⟩
 .have e:Æ O J j9=Æ Á 0 0:=by simpa using g
  cases e;exact⟨Ú _,λ_=>⟨#[]⟩,λj o=>by omega⟩
 have e:Æ O J j9=Æ (Â a) r t:=by simpa using g
 cases e;have G:m=j9:=by rw[u];rfl
 have w:∀i,∃s:ByteArray,i<J->W.cell? (a.add i)=Â (Ä s)/\s.size<=Ě:=by
  intro i;by_cases b:i<J
  .let⟨B,c,l⟩:=v i Z;rw[auR]at c;let⟨_,I,q⟩:=World.cells?_some c;let⟨s,p,_,y⟩:=DataW.trod_string Tryz.underlying9 l;subst p;have d:=q 0 fB;have z:(a.add i).add 0=a.add i:=rfl;rw[Nat.mul_one]at d;rw[z]at d;refine⟨s,λ_=>⟨?_,y⟩⟩;simpa using d
  .exact⟨⟨#[]⟩,λq=>absurd q b⟩
 let⟨f,q⟩:=Classical.axiomOfChoice w;refine⟨Z,f,λj o=> ?_⟩;let⟨c,l⟩:=q j o;let⟨d,_⟩:=q 0 Z;let⟨y,z⟩:=auT d;let⟨b,p,sp⟩:=a;have B:sp=Á:=by have:((⟨b,p,sp⟩:ý).add 0).spot=sp:=rfl;rwa[<-this]
 subst B;rw[auS]at c;exact⟨l,b,p,U,z,c⟩
end Go.Proofs.Y.nz
