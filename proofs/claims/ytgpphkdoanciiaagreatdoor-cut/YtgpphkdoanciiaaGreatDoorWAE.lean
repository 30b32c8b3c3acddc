import Derived.Test.YtgpphkdoanciiaaGreatDoorWAD
import Derived.Lib.Bytealg
import Derived.WalkKit
import Derived.WalkSpells
import Derived.WalkLawsBesides
import Derived.Deep.Light
import Derived.WalkMore
import Derived.Deep.QuietTactic
import Derived.BigQuiet
import Derived.Conc.LeavingOf
import Derived.Conc.CrowdStepC
import Derived.Listen
import Derived.ProofKit
import Derived.Deep.Slices
set_option linter.all false
set_option maxRecDepth 1000000
set_option maxHeartbeats 8000000
open Go.Proofs.Tryz renaming prog->À,ntmps67->ñ,func67->ù,zeroCells292->ÿ,ntmps100->Ā,func100->Ą,underlying25->ē,func38->Ğ,results45->Ĭ,func36->Ň,results36->ň,func17->Ō,ntmps160->Ŕ,ntmps147->ŕ,ntmps38->Ř,func160->ś,func147->Ş,ntmps95->ş,ntmps36->Š,func95->ŭ,func30->ů,func22->Ű,ntmps123->Α,ntmps101->Ε,func123->Λ,func101->Τ,ntmps96->Χ,ntmps45->Ω,ntmps30->ζ,func96->ο,func45->π,func35->ς,func37->υ,func15->χ,f38->aC
open Option renaming none->Á,some->Â,bind_eq_some_iff->ß,bind_eq_bind->ì,map->õ,map_eq_some_iff->ø,isSome_none->ü,map_some->þ,pure_def->ą,bind_some->Ķ,bind->ν
open Go.Value renaming pointer->Ã,string->Ä,int->Å,slice->Æ,tuple->ï,bool->û,cells->Ń
open Go.Ending renaming returned->Ç
open Or renaming inl->È,inr->Ï
open Go.IntKind renaming i64->É,u64->å,wrap_u64->Ċ,wrap_i64->Ě,u8->Ų
open And renaming intro->Ê
open Bool renaming false->Ë,true->Î,false_eq_true->ð,eq_iff_iff->ģ
open Nat renaming le_trans->Ì,zero_le->Ú,le_refl->â,lt_or_ge->Ĕ,zero_add->Ė,lt_of_lt_of_le->Ī,eq_zero_or_pos->Į,mul_le_mul->Ÿ,add_assoc->ſ
open Go renaming World->Í,Value->Ñ,Calls->Ò,Addr->ý,bodyPost_ret->ă,Act->Ď,Goroutine->đ,TypeId->ė,Frame->Ę,maxLen->ě,Oper->Ĩ,TypeInfo->Ĳ,undef->ł,results->Ŏ,execOp->Ť,runNT_fst->Ū,run_underlying->ŵ,info_parts->Ŷ,heap_alloc_new->Ż,Tape->ž,Trace->Ζ,runNT->Η,mem_ready->Ι,wp_loop->Κ,wpList_plain->Μ,yielded->Ρ,cell_one_new->Υ,FuncId->η,Code->θ,storeCells->ae,resolve->ai,builtin->aj,Program->ay,invoke->aF
open Go.Item renaming inRegion->Ð,code->aI
open List renaming eq_nil_of_length_eq_zero->Ó,getElem?_eq_getElem->Ô,getElem?_eq_some_iff->Ö,length_append->Ø,mem_map->Ý,mem_append->à,mem_of_getElem?->è,setIfInBounds_toArray->ë,length_map->í,getElem?_map->ó,set_cons_zero->ā,set_cons_succ->Ă,replicate->Ĉ,length_cons->ĉ,getElem?_append_left->ċ,getD->ď,cons_append->Ĝ,mem_cons_of_mem->ğ,getElem?_of_mem->Ġ,append_nil->ġ,nil_append->Ĥ,getElem_of_mem->Ħ,getElem?_append_right->ĩ,range->ĭ,getElem?_eq_none_iff->į,extract_eq_take_drop->İ,mem_or_eq_of_mem_set->ı,take_add_one->ĳ,append_assoc->Ĵ,all_eq_true->ķ,length_nil->ļ,set_append_right->Ľ,getElem?_eq_none->ľ,mem_of_mem_take->Ņ,length_pos_iff->Ő,map_cons->œ,mem_singleton->ŗ,map_nil->Ś,ext_getElem?->Ŝ,size_toArray->š,take_length->Ţ,length_take->ţ,map_toArray->ť,mem_flatMap->ŧ,mem_range->Ž,length->ι
open Option.some renaming injEq->Õ,inj->aA
open Array renaming getElem?_eq_some_iff->Ù,getElem?_eq_getElem->Ü,getElem?_eq_none->æ,getD_eq_getD_getElem?->ê,mem_toList_iff->ò,getElem_mem->Ć,length_toList->Č,size_setIfInBounds->ĵ,mem_of_getElem?->Ŀ,getElem?_modify->ŀ,getElem?_toList->Ł,toList_extract->ń,replicate->ű
open Go.Lib renaming byteCells->Û,indexByte->á,strCells->Ĺ,hasPrefix->Γ,TabIs->av
open Go.Obj renaming cells->Þ
open Go.World renaming cell?->ã,setCell->Δ,drew->af,var?->ag
open Go.Code renaming wp->ä,wp_mono->ĺ,loop->ŏ,skip->aD
open Go.Region renaming ready->ç,wanted->ĝ,Mode->Ŋ
open Go.Frame renaming enter->é,finish_at->ĥ
open ByteArray renaming size_append->î,getElem_eq_getElem_data->Ē,size_extract->ĕ,data_extract->Ļ,size->Ŵ,data->ŷ,size_data->ω,extract->ak,mk->aN
open Go.Conc.Goes renaming stop->ô
open Go.Ground renaming phase->ö,data->Đ
open Go.Conc renaming events_call_body->ú,crowd->ĸ,goes_leave1->Ů,Good->ε,goes_leave2->φ,listed->aJ
open Go.CallKind renaming normal->ć
open Go.Region.linearise renaming go->č
open Go.Great renaming wpList_runTo->ę
open Go.Builtin renaming append_->Ģ,firstCells->Ŗ,lenOf->Β,append->ψ,zeroCells->au
open Go.ByteArray renaming toList_eq->ħ
open Go.RowKit.Below renaming heap_setCell->ī,heap_alloc->Ũ
open Go.IntWalk renaming i64_in->ņ,i64_left->ũ
open Go.Made renaming word->ō,reckonStruct->ŝ,infoAt->ū,mostCells->Ź,reckon->ξ
open Int renaming toNat_of_nonneg->ő,le_refl->Ŭ
open Go.Operand renaming tmp->Œ
open Go.Result renaming andThen_ok->ř,andThen->ź
variable{i n j b k m J j9 j7 j6:Nat}{w u W jX:Í}{v x z jQ:Ñ}{g:đ}{a p:ý}{h c:Int}{e t T:ė}{d q:Array Ñ}{P:ay}{y:Ď}{B:ByteArray}{X:Nat->Prop}{O:Option ý}{l:List Ñ}{yQ:Bool}{K H:Ď->Í->Prop}{o:Ĩ}{D:Nat->Nat}{E:Array đ}{L:List Go.Item}{jJ:List Nat}{qX:List Ę}{qJ:Ζ}{zX:Go.Loc->Prop}{zQ:List Int}{zJ:Ĳ}{xQ:ž}{xJ:Nat×Nat}{vX:List ByteArray}{vQ:Ñ->Í->Prop}{vJ:Go.Exit->Ď->Í->Prop}{Q:Array Ĩ}{f:Ę}{F:η}{s:Go.Func}
namespace Go.Proofs.Y.iE
open Go Go.Proofs Go.RowKit Go.Proofs.Y.Lift
def Du:θ->Option θ
 |ŏ c=>Â c
 |.seq a b=>match Du b with
  |some c=>Â c
  |none=>Du a
 |.block _ c=>Du c
 |.scope c=>Du c
 |.cond _ a b=>match Du b with
  |some c=>Â c
  |none=>Du a
 |_=>Á
noncomputable def Nq:θ:=(aC.body.bind kF).getD aD
noncomputable def Nr:θ:=(aC.body.bind Du).getD aD
def QE(k:Nat)(X:Ď->Í->Prop):Exit->Ď->Í->Prop
 |.exit i,a,w=>i=k/\X a w
 |_,_,_=>False
def nL(a:ByteArray)(b:List ByteArray):List UInt8:=b.flatMap λy=>a.data.toList++y.data.toList
def Ns(a:ByteArray):List ByteArray->List UInt8
 |[]=>[]
 |x::r=>x.data.toList++nL a r
def iH(xs:List ByteArray):Nat:=(xs.map Ŵ).sum
def TU(a b:List ByteArray):iH (a++b)=iH a+iH b:=by simp[iH]
def TV(a:List ByteArray)(j:Nat):iH (a.take j)<=iH a:=by have h:=TU (a.take j)<|a.drop j;rw[List.take_append_drop]at h;omega
def Nt(a:ByteArray)(c:a.size=1):∀b:List ByteArray,(nL a b).length=iH b+b.length
 |[]=>rfl
 |x::r=>by
  have d:=Nt a c r;have e:nL a (x::r)=(a.data.toList++x.data.toList)++nL a r:=U;have f:a.data.toList.length=1:=by simpa using c
  have g:x.data.toList.length=x.size:=ft
  have h:iH (x::r)=x.size+iH r:=by simp[iH]
  rw[e,Ø,Ø,d,f,g,h,ĉ];omega
def FV(a:Option ý)(n b:Nat)(c:ByteArray)(m i:Int)(u:Nat->Ñ):Ď:=⟨#[Æ a n b,Ä c,u 2,u 3,u 4,Å É m,u 6,u 7,u 8,u 9,u 10,u 11,u 12,u 13,u 14,u 15,u 16,u 17,u 18,u 19,u 20,u 21,u 22,u 23,u 24,u 25,u 26,u 27,u 28,u 29,u 30,u 31,u 32,u 33,u 34,u 35,u 36,u 37,u 38,Æ a n b,Å É n,Å É i,u 42,u 43,u 44,u 45,u 46,u 47,u 48,u 49,u 50,u 51,u 52,u 53,u 54,u 55,u 56,u 57,u 58,u 59,u 60,u 61,u 62,u 63,u 64,u 65,u 66,u 67,u 68,u 69,u 70,u 71,u 72,u 73,u 74],[]⟩
def FW(b:Option ý)(n c:Nat)(d:ByteArray)(m i:Int)(a:Ď):Prop:=∃u,a=FV b n c d m i u
def p9(a:Option ý)(n c b:Nat)(d:ByteArray)(i:Int)(u:Nat->Ñ):Ď:=⟨#[u 0,Ä d,u 2,u 3,u 4,u 5,u 6,u 7,Ã<|Â ⟨b,0,Á⟩,u 9,u 10,u 11,u 12,u 13,u 14,u 15,u 16,u 17,u 18,u 19,u 20,u 21,u 22,u 23,u 24,u 25,u 26,u 27,u 28,u 29,u 30,u 31,u 32,u 33,u 34,u 35,u 36,u 37,u 38,u 39,u 40,u 41,u 42,u 43,u 44,u 45,u 46,u 47,u 48,u 49,u 50,u 51,u 52,u 53,u 54,u 55,u 56,u 57,u 58,u 59,u 60,u 61,u 62,Æ a n c,Å É n,Å É i,u 66,u 67,u 68,u 69,u 70,u 71,u 72,u 73,u 74],[]⟩
def FX(c:Option ý)(n d b:Nat)(e:ByteArray)(i:Int)(a:Ď):Prop:=∃u,a=p9 c n d b e i u
section
variable{X:Ď->Í->Prop}{sep:ByteArray}{xs:List ByteArray}
def aow(u:Nat->Ñ)(m:Int)(b:∀a,FW O n i sep m n a->X a w): ä À Nq (Exit.then K<|QE 1 X) (FV O n i sep m n u) w:=by
 unfold FV;conv=>arg 2;whnf
 go_wp2_with fail
 exact⟨U,b _ (gA _)⟩
def aox(u:Nat->Ñ)(m j:Nat)(f:j<n)(g:n<=1000000)(b c:Nat)(e:O=Â ⟨b,c,Á⟩)(x:ByteArray)(h:w.cell? ⟨b,c+j,Á⟩=Â (Ä x))(k:m+x.size<=140737488355328) (d:∀a,FW O n i sep ((m+x.size:Nat):Int) ((j+1:Nat):Int) a->K a w): ä À Nq (Exit.then K<|QE 1 X) (FV O n i sep m j u) w:=by
 unfold FV;conv=>arg 2;whnf
 subst e;have l:(0:Int)<=(j:Int):=Z
 have o:(j:Int)<(n:Int):=Z
 have p:¬((9223372036854775807:Int)-(m:Int)<(x.size:Int)):=Z
 have q:(x.size:Int)<=(9223372036854775807:Int)-(m:Int):=Z
 have r:É.wrap ((9223372036854775807:Int)-(m:Int))=(9223372036854775807:Int)-(m:Int):=by rw[Ě];omega
 have s:É.wrap ((m:Int)+(x.size:Int))=((m+x.size:Nat):Int):=by rw[Ě];omega
 have H:=fi d;clear d;go_wp2_with fail;exact H.out _ (gA _)
def J1(O:Option ý)(n i:Nat)(sep:ByteArray)(b:Nat)(xs:List ByteArray)(u:Í)(a:Ď)(w:Í):Prop:=
 ∃j:Nat,FW O n i sep ((b+iH (xs.take j):Nat):Int) j a/\j<=n/\w=u
def J1E(O:Option ý)(n i:Nat)(sep:ByteArray)(b:Nat)(xs:List ByteArray)(u:Í)(a:Ď)(w:Í):Prop:=
 FW O n i sep ((b+iH xs:Nat):Int) n a/\w=u
def Nu(n:Nat)(a:Ď)(_:Í):Nat:=match a.tmps.getD 41 ł with
 |Å _ i=>n-i.toNat
 |_=>0
def aaw(b:FW O n i sep h j y):Nu n y w=n-j:=by obtain⟨u,rfl⟩:=b;show n-(j:Int).toNat=_;simp
def aoy(d:n=xs.length)(g:n<=1000000)(h:nK O (jm xs) u)(t:j+iH xs<=140737488355328)(a:Ď)(w:Í)(k:J1 O n i sep j xs u a w): ä À Nq (Exit.then (λb c=>J1 O n i sep j xs u b c/\Nu n b c<Nu n a w)<|QE 1<|J1E O n i sep j xs u) a w:=by
 obtain⟨b,e,v,rfl⟩:=k;rw[aaw e];obtain⟨c,rfl⟩:=e;by_cases l:b=n
 .subst l;refine aow c _ λa q=>⟨?_,U⟩;rw[d,Ţ]at q;rwa[d]
 .obtain⟨x,f⟩:∃x,xs[b]?=Â x:=⟨_,Ô Z⟩;let⟨m,o,p,r⟩:=h b (Ä x) (by simp[jm,f]);have s:iH (xs.take<|b+1)=iH (xs.take b)+x.size:=by
   rw[ĳ,f,TU];simp[iH]
  have y:=TV xs<|b+1;refine aox c _ b Z g m o p x r Z λa q=>⟨⟨b+1,?_,Z,U⟩,by rw[aaw q];omega⟩;rwa[s,<-ſ]
def aoz(u:Nat->Ñ)(c:∀a,FX O n i b sep n a->X a w): ä À Nr (Exit.then K<|QE 3 X) (p9 O n i b sep n u) w:=by
 unfold p9;conv=>arg 2;whnf
 go_wp2_with fail
 exact⟨U,c _ (gA _)⟩
def aoA(c:Nat->Ñ)(j:Nat)(y:j<n)(z:n<=1000000)(d f:Nat)(o:O=Â ⟨d,f,Á⟩)(x:ByteArray)(p:u.cell? ⟨d,f+j,Á⟩=Â (Ä x))(l:List UInt8)(g:pe u b (Û l) w)(q:sep.size=1)(B:l.length+1+x.size<=140737488355328) (r:∀a h,FX O n i b sep ((j+1:Nat):Int) a->pe u b (Û<|l++(sep.data.toList++x.data.toList)) h->K a h): ä À Nr (Exit.then K<|QE 3 X) (p9 O n i b sep j c) w:=by
 unfold p9;conv=>arg 2;whnf
 subst o;have C:(0:Int)<=(j:Int):=Z
 have D:(j:Int)<(n:Int):=Z
 have F:=g.r.r p id;have k:=Lib.byteCells_length l;have s:(Û l++Ĺ sep).length=l.length+1:=by rw[Ø,k,Lib.strCells_length,q]
 have E:Û l++Ĺ sep++Ĺ x=Û (l++(sep.data.toList++x.data.toList)):=by simp[Û,Ĺ]
 have H:=fi<|Ê g<|Ê r<|Ê k<|Ê s E;go_wp2_with (first
  |(go_at_call 55;refine(TT t.out x<|by rw[H.out.2.2.2.1];omega).mono ?_;rintro e G ⟨rfl,m⟩;have v:=fi m;clear m)
  |(go_at_call 55;refine(TT H.out.1 sep (by rw[H.out.2.2.1];omega)).mono ?_;rintro e G ⟨rfl,m⟩;have t:=fi m;clear m))
 apply H.out.2.1 _ _ (gA _);rw[<-H.out.2.2.2.2];exact v.out
def J2(O:Option ý)(n i b:Nat)(sep:ByteArray)(c:List UInt8)(xs:List ByteArray)(u:Í)(a:Ď)(w:Í):Prop:=
 ∃j:Nat,FX O n i b sep j a/\j<=n/\pe u b (Û<|c++nL sep (xs.take j)) w
def J2E(O:Option ý)(n i b:Nat)(sep:ByteArray)(c:List UInt8)(xs:List ByteArray)(u:Í)(a:Ď)(w:Í):Prop:=
 FX O n i b sep n a/\pe u b (Û<|c++nL sep xs) w
def Nv(n:Nat)(a:Ď)(_:Í):Nat:=match a.tmps.getD 65 ł with
 |Å _ i=>n-i.toNat
 |_=>0
def aax(c:FX O n i b sep j y):Nv n y w=n-j:=by obtain⟨u,rfl⟩:=c;show n-(j:Int).toNat=_;simp
def aoB{d:List UInt8}(l:n=xs.length)(m:n<=1000000)(h:sep.size=1)(o:nK O (jm xs) u)(D:d.length+iH xs+n<=140737488355328)(a:Ď)(w:Í)(p:J2 O n i b sep d xs u a w): ä À Nr (Exit.then (λc e=>J2 O n i b sep d xs u c e/\Nv n c e<Nv n a w)<|QE 3<|J2E O n i b sep d xs u) a w:=by
 let⟨j,k,E,f⟩:=p;rw[aax k];obtain⟨c,rfl⟩:=k;by_cases r:j=n
 .subst r;refine aoz c λa q=>⟨q,?_⟩;rwa[l,Ţ]at f
 .obtain⟨x,g⟩:∃x,xs[j]?=Â x:=⟨_,Ô Z⟩;let⟨s,t,v,y⟩:=o j (Ä x) (by simp[jm,g]);have F:iH (xs.take<|j+1)=iH (xs.take j)+x.size:=by
   rw[ĳ,g,TU];simp[iH]
  have G:=TV xs<|j+1;have z:(d++nL sep (xs.take j)).length=d.length+iH (xs.take j)+j:=by rw[Ø,Nt sep h,ţ];omega
  have B:nL sep (xs.take<|j+1)=nL sep (xs.take j)++(sep.data.toList++x.data.toList):=by rw[ĳ,g];simp[nL]
  refine aoA c j Z m s t v x y _ f h (by rw[z];omega) λa e q C=>⟨⟨j+1,q,Z,?_⟩,by rw[aax q];omega⟩;rwa[B,<-Ĵ]
end
section
variable{sep:ByteArray}{xs:List ByteArray}
def lk(sep:ByteArray)(xs:List ByteArray):ByteArray:=⟨(Ns sep xs).toArray⟩
def aoC:Ò À 38 #[Æ O 0 i,Ä sep] w λe a=>e=Ç (Ä ⟨#[]⟩)/\fg (λ_=>False) w a:=by go_enter Ğ,Ř;go_wp2_with fail;go_ret;exact⟨U,fg.fW _ _⟩
def aoD(a b:Nat)(x:ByteArray)(d:w.cell? ⟨a,b,Á⟩=Â (Ä x)):Ò À 38 #[Æ (Â ⟨a,b,Á⟩) 1 i,Ä sep] w λe c=>e=Ç (Ä x)/\fg (λ_=>False) w c:=by go_enter Ğ,Ř;go_wp2_with fail;go_ret;exact⟨U,fg.fW _ _⟩
def aoE(k:Nat)(N:1<=k)(O:k<1000000)(d c:Nat)(P:k+1<=i)(m:sep.size=1)(x:ByteArray)(g:k=xs.length)(f:nK (Â ⟨d,c,Á⟩) (jm<|x::xs) w)(E:iH (x::xs)+(k+1)<=140737488355328): Ò À 38 #[Æ (Â ⟨d,c,Á⟩) (k+1) i,Ä sep] w λe q=>e=Ç (Ä<|lk sep<|x::xs)/\fg (λ_=>False) w q:=by
 have F:iH (x::xs)=x.size+iH xs:=by simp[iH]
 have n:∀a,FW (Â ⟨d,c,Á⟩) (k+1) i sep ((k+iH ((x::xs).take 0):Nat):Int) (0:Nat) a->ä À (ŏ Nq) (QE 1<|J1E (Â ⟨d,c,Á⟩) (k+1) i sep k (x::xs) w) a w:=λa h=>
  Κ (J1 (Â ⟨d,c,Á⟩) (k+1) i sep k (x::xs) w) (Nu<|k+1) ⟨0,h,Ú _,U⟩<|aoy (by simp[g]) Z f Z
 have p:nK (Â ⟨d,c+1,Á⟩) (jm xs) w:=λj u G=>by let⟨b,o,r,s⟩:=f (j+1) u (by simpa[jm]using G);cases r;exact⟨_,_,U,by rwa[show c+1+j=c+(j+1) by omega]⟩
 have t:∀a W,FX (Â ⟨d,c+1,Á⟩) k (i-1) w.heap.size sep (0:Nat) a->pe w w.heap.size (Û<|x.data.toList++nL sep (xs.take 0)) W->ä À (ŏ Nr) (QE 3<|J2E (Â ⟨d,c+1,Á⟩) k (i-1) w.heap.size sep x.data.toList xs w) a W:=λa W h l=>
  Κ (J2 (Â ⟨d,c+1,Á⟩) k (i-1) w.heap.size sep x.data.toList xs w) (Nv k) ⟨0,h,Ú _,l⟩<|aoB g Z m p (by simp only[Č];have:x.data.size=x.size:=rfl;omega)
 let⟨_,_,I,b⟩:=f 0 (Ä x) U;cases I;have y:w.cell? ⟨d,c,Á⟩=Â (Ä x):=b;have z:x.data.toList++nL sep xs≠[]:=by intro q;have:=congrArg ι q;rw[Ø,Nt sep m,ļ]at this;omega
 have r:(((k+1:Nat):Int)==0)=Ë:=by simp;omega
 have s:(((k+1:Nat):Int)==1)=Ë:=by simp;omega
 have Q:(1:Int)<9223372036854775807/(k:Int):=by rw[Int.lt_iff_add_one_le,Int.le_ediv_iff_mul_le Z];omega
 have T:(1:Int)<=(k:Int)+1:=Z
 have B:0<k+iH (x::xs)/\k+iH (x::xs)<=281474976710656:=Z
 have C:(Û []).length+x.size<=140737488355328:=by simp[Û];omega
 have H:=fi<|Ê n<|Ê t<|Ê B<|Ê C<|Ê z y;clear n t B C z b y f p g E F;generalize J:iH (x::xs)=S at*;go_enter Ğ,Ř;go_wp2_with fail;refine ĺ ?_ (H.out.1 _ (gA _));rintro(_|_|_|_|_|_) a v hq;all_goals first|exact absurd hq id|skip
 obtain⟨rfl,o,rfl⟩:=hq;rw[J]at o;obtain⟨u,rfl⟩:=o;unfold FV;have b:=H.out.2.2.2.2.2;go_wp2_with (first
  |(go_at_call 54;refine(aou ⟨â _,fg.gI _ _ _ _,fl.N v [Ã Á,Æ Á 0 0] 109⟩ (k+S) H.out.2.2.1.1 H.out.2.2.1.2).mono ?_;rintro e K ⟨rfl,q⟩;have L:=q.r.r b id;have D:=fi q;clear q)
  |(go_at_call 55;refine(TT D.out x H.out.2.2.2.1).mono ?_;rintro e q ⟨rfl,D⟩;have K:=fi D;clear D))
 have L:pe v v.heap.size (Û<|x.data.toList++nL sep (xs.take 0)) q:=by have:=K.out;show pe v v.heap.size (Û<|x.data.toList++[]) q;rw[ġ];exact this
 refine ĺ ?_ (H.out.2.1 _ _ (gA _) L);rintro(_|_|_|_|_|_) a w3 hq;all_goals first|exact absurd hq id|skip
 obtain⟨rfl,o,l⟩:=hq;obtain⟨v,rfl⟩:=o;unfold p9;have K:=fi l;go_wp2_with (go_at_call 56;refine(aov K.out H.out.2.2.2.2.1).mono ?_;rintro e V ⟨rfl,D⟩;have M:=fi D;clear D);go_ret;exact⟨U,M.out⟩
def TW(a:n=xs.length)(f:n<=1000000)(g:n<=i)(h:sep.size=1)(b:nK O (jm xs) w)(j:iH xs+n<=140737488355328): Ò À 38 #[Æ O n i,Ä sep] w λe c=>e=Ç (Ä<|lk sep xs)/\fg (λ_=>False) w c:=by
 cases xs with
 |nil=>subst a;exact aoC
 |cons x r=>
  let⟨c,d,k,l⟩:=b 0 (Ä x) U;subst k;cases r with
  |nil=>
   subst a;have e:lk sep [x]=x:=by show aN ((x.data.toList++[]).toArray)=x;rw[ġ]
   rw[e];exact aoD c d x l
  |cons y r=>
   subst a;exact aoE (r.length+1) Z (by simp at f;omega) c d g h x U b j
def aoF(a:n=xs.length)(c:n<=1000000)(d:n<=i)(h:nK O (jm xs) w)(f:iH xs+n<=140737488355328): Ò À 123 #[Æ O n i] w λe b=>e=Ç (Ä<|if xs=[]then⟨#[45]⟩else lk ⟨#[44]⟩ xs)/\fg (λ_=>False) w b:=by
 have J:=TW (sep:=⟨#[44]⟩) a c d U h f;have H:=fi J;by_cases b:xs=[]
 .subst b;have e:=a;subst e;rw[if_pos U];clear a f H c d;go_enter Λ,Α;go_wp2_with fail;go_ret;exact⟨U,fg.fW _ _⟩
 .rw[if_neg b];have k:0<n:=by rw[a];exact Ő.2 b
  have l:((n:Int)==0)=Ë:=by simp;omega
  clear a;generalize lk ⟨#[44]⟩ xs=z at*;go_enter Λ,Α;go_wp2_with (go_at_call 38;apply H.out.mono;rintro e m ⟨rfl,g⟩;have j:=fi g;clear g);go_ret;exact⟨U,j.out⟩
end
def FY{M:Nat}:∀(a:List ByteArray),(∀z∈a,z.size<=M)->iH a<=M*a.length
 |[],_=>Ú _
 |x::r,h=>by
  have c:=FY r λz b=>h z<|ğ _ b;have d:=h x ft;have e:iH (x::r)=x.size+iH r:=by simp[iH]
  rw[e,ĉ,Nat.mul_add];omega
def Nw{e:Nat×Int}(h:gf e.2):(sD e).size<=21:=by unfold sD;rw[î];have:=xP e.1;have:=ry e.2.toNat (by have:=h.1;have:=h.2;omega);omega
def aay{e:Int×Bool}(a:0<=e.1)(h:e.1<=400):(FR e).size<=41:=by unfold FR;rw[î,î];have:=ry e.1.toNat Z;have:=ry e.2.toNat (by cases e.2<;>decide);have:Ŵ ⟨#[58]⟩=1:=rfl;omega
section
variable{b:List ByteArray}
def aaz{ty:ė}{base:Nat}(b:P.underlying t=Â (.slice e))(d:P.info? e=Â zJ)(h:w.ownsRow base e j v n l)(a:Option ý)(c:Nat): (Ģ #[t,t] ty #[v,Æ a 0 c]).run P w=.ok v w:=by
 have f:(Ŗ zJ.size 0<|Æ a 0 c).run P w=.ok #[] w:=by cases a<;>simp[Ŗ,loadCells,loadCellsFrom]
 rcases h.2 with⟨rfl,rfl⟩|⟨g,m,o,rfl,_,_,k,_⟩
 .simp[Ģ,ŵ b,sizeOf,typeInfo,d,Β,f,ae]
 .simp[Ģ,ŵ b,sizeOf,typeInfo,d,Β,f,k,ae]
def aoG{r:Array Ĩ}{t:List Ĩ}(l:o.guard=Á)(s c:Operand) (m:o.op=.call {callee:=.builtin ψ,args:=#[s,c],argTypes:=#[25,25]}) (d:il u v vX w) (n:y.eval s=v) {base:Nat} (B:w.ownsRow base 9 1 x b.length (jm b)) (e:y.eval c=x) (I:vX.length+b.length<=1000000) (h:∀j k,il u j (vX++b) k->wpList À r vJ t (y.put o.dst j) k):wpList À r vJ (o::t) y w:=by
 let⟨J,p,D,E,F⟩:=Ŷ zL;rcases B.2 with⟨f,G⟩|⟨g,H,L,f,_⟩
 .have z:=Ó G;subst z;rw[f]at e;refine Μ l λK i=> ?_;have q:=aaz (ty:=o.type) ē p d.fu Á 0;unfold Oper.wp Ť;simp only[m,ai,aF,aj,Sem.run_bind,Sem.run_pure,ř,ť,œ,Ś,n,e,q];exact i _ _<|h v w<|by rwa[ġ]
 .by_cases C:b=[]
  .subst C;rw[f]at e;refine Μ l λK i=> ?_;have q:=aaz (ty:=o.type) ē p d.fu (Â ⟨g,0,Á⟩) H;unfold Oper.wp Ť;simp only[m,ai,aF,aj,Sem.run_bind,Sem.run_pure,ř,ť,œ,Ś,n,e,q,ļ];exact i _ _<|h v w<|by rwa[ġ]
  .have K:=Ő.2 C;refine C7 l s c 25 m ē p D E F U n d.fu ⟨g,0,Á⟩ (jm b) (e.trans f) K (by simp[jm]) (B.cells<|by rw[f];rfl) (λi q=>by unfold jm at q;obtain⟨z,_,rfl⟩:=Ý.1 q;rfl) (by unfold ě;omega) Z d.r.M ?_;intro j k z;refine h j k ⟨?_,d.r.C z.r λi M q=> ?_⟩
   .have:=z.fu;rwa[show jm vX++jm b=jm (vX++b) by simp[jm],show vX.length+b.length=(vX++b).length by simp]at this
   .have:=(d.fu.lt i q).1;omega
end
def il.I(h:il u (Æ O n i) vX w):nK O (jm vX) w/\n=vX.length/\n<=i:=by
 rcases h.fu.2 with⟨b,d⟩|⟨g,f,k,b,_,_,d,_⟩
 .cases b;refine⟨λj x e=> ?_,d.symm,â _⟩;rw[Ó d]at e;cases e
 .have e:n=vX.length:=by injection b
  subst e;injection b with _ _ h4;exact⟨nK.r h.fu,U,by rwa[h4]⟩
def TX(r:Db):ByteArray:=lk ⟨#[44]⟩<|[gP r.C.toNat,gP r.I.toNat,gP r.r.toNat]++r.M.map sD
def aoH(x y:Nat)(g k:Int)(b c:Nat)(a:Bool)(f:List (Nat×Int))(L:b<18446744073709551616)(M:c<18446744073709551616)(V:f.length<=400000)(W:nJ f)(X:lJ w) (T:Ò À 158 #[Ã<|Â ⟨i,0,Á⟩,Å É x,Å É y,Å å g,Å å k] w λe j=>∃B,e=Ç (ï #[.agg #[Å å b,û a,Å å c],B])/\j.ownsRow 0 257 2 B f.length (kn f)/\fg (λ_=>False) w j): Ò À 119 #[Ã<|Â ⟨i,0,Á⟩,Å É x,Å É y,Å å g,Å å k] w λe j=>e=Ç (Ä<|lk ⟨#[44]⟩<|[gP a.toNat,gP c,gP b]++f.map sD)/\fg (λ_=>False) w j:=by
 have N:a.toNat<18446744073709551616:=by cases a<;>decide
 have H:=fi<|Ê T<|Ê X W;go_enter Tryz.func119,Tryz.ntmps119;go_wp2_with (go_at_call 158;apply H.out.1.mono;rintro e l ⟨B,rfl,q,d⟩;obtain⟨v,Q,rfl⟩:=jl q;have C:=fi<|Ê d q;clear d q);change ä À _ _ _ (l.alloc<|Þ #[Å å b,û a,Å å c] 252);have D:=(fg.gI (λ_=>False) l #[Å å b,û a,Å å c] 252).fj<|fg.fU _ _;have E:=(H.out.2.1.r C.out.1).r D;have o:=(fl.N l [Å å b,û a,Å å c] 252).I (fg.fU (λ_=>False) _) id;have O:=C.out.1.fj D;have Y:=ik C.out.2 D λ_ _=>id;refine mg (λj=>j.cell? ⟨l.heap.size,0,Á⟩=Â (Å å b)/\j.cell? ⟨l.heap.size,1,Á⟩=Â (û a)/\j.cell? ⟨l.heap.size,2,Á⟩=Â (Å å c)) [] fw ?_;have h:=fi<|Ê (o.r 0 _ rfl)<|Ê (o.r 1 _ rfl)<|o.r 2 _ rfl;generalize l.heap.size=ob at*;generalize af (l.alloc<|Þ #[Å å b,û a,Å å c] 252)=w5 at*;apply tk 0 h.out;apply tk 1 h.out;apply tk 2 h.out;apply tk 5 h.out;apply tk 6 h.out;apply tk 8 h.out;apply tk 9 h.out;apply tk 10 h.out;apply gF 3;intro K d;go_simp;go_at_call 159;refine(IZ _ _).mono ?_;rintro e w2 ⟨rfl,rf⟩;subst w2;rw[aao];apply d.out _ _ λ_=>h.out;apply gF 4;intro K d;go_simp;go_at_call 118;refine(xN a.toNat N _ E).mono ?_;rintro e wa ⟨rfl,p⟩;have r:=o.I p id;have P:=E.r p;apply d.out _ _ λ_=>⟨r.r 0 _ U,r.r 1 _ U,r.r 2 _ U⟩;apply gF 7;intro K d;go_simp;go_at_call 118;refine(xN c M _ P).mono ?_;rintro e wb ⟨rfl,s⟩;have t:=r.I s id;have Pb:=P.r s;apply d.out _ _ λ_=>⟨t.r 0 _ U,t.r 1 _ U,t.r 2 _ U⟩;apply gF 11;intro K d;go_simp;go_at_call 118;refine(xN b L _ Pb).mono ?_;rintro e m ⟨rfl,F⟩;have u:=t.I F id;have n:=u.I (fg.gI (λ_=>False) m #[Ä<|gP a.toNat,Ä<|gP c,Ä<|gP b] 9) id;apply d.out _ _ λ_=>⟨u.r 0 _ U,u.r 1 _ U,u.r 2 _ U⟩;apply gF 12;intro K d;go_simp;apply d.out _ _ λ_=>⟨n.r 0 _ U,n.r 1 _ U,n.r 2 _ U⟩;apply gF 13;intro K d;go_simp;apply d.out _ _ λ_=>⟨n.r 0 _ U,n.r 1 _ U,n.r 2 _ U⟩;refine lU fw ?_ _;have G:fg (λ_=>False) w5 (m.alloc<|Þ #[Ä<|gP a.toNat,Ä<|gP c,Ä<|gP b] 9):=((p.fj s).fj F).fj<|fg.gI _ _ _ _;have T6:il w (Æ (Â ⟨m.heap.size,0,Á⟩) 3 3) [gP a.toNat,gP c,gP b] (m.alloc<|Þ #[Ä<|gP a.toNat,Ä<|gP c,Ä<|gP b] 9):=⟨World.ownsRow_lit m #[Ä<|gP a.toNat,Ä<|gP c,Ä<|gP b] 3 (Ì O.M ((p.fj s).fj F).M) (by unfold ě;omega) U,O.fj G⟩;have L6:=ik Y G λ_ _=>id;have P6:=E.r G;have I:=fi<|Ê T6<|Ê L6 P6;generalize m.alloc (Þ #[Ä<|gP a.toNat,Ä<|gP c,Ä<|gP b] 9)=w6 at*;generalize m.heap.size=tb at*;have jx:∀z∈[gP a.toNat,gP c,gP b]++f.map sD,z.size<=21:=λz hz=>by
  rcases à.1 hz with q|q
  .have h1:=ry a.toNat N;have h2:=ry c M;have v:=ry b L;simp at q;rcases q with rfl|rfl|rfl<;>omega
  .obtain⟨e,v,rfl⟩:=Ý.1 q;exact Nw (H.out.2.2 e v).2
 have sX:=FY _ jx;have hlen:([gP a.toNat,gP c,gP b]++f.map sD).length=3+f.length:=by simp;omega
 have J:=fi<|Ê sX hlen;go_wp2_with (first
  |(go_at_call 124;refine(aan U V H.out.2.2 I.out.2.2<|nK.r I.out.2.1).mono ?_;rintro e v ⟨lt,rfl,q⟩;obtain⟨ta,tc,rfl⟩:=jl q.fu;rw[í]at q;have Q:=fi q;clear q)
  |(at_builtin;refine aoG U _ _ U (I.out.1.fN Q.out.r) U Q.out.fu U (by simp;omega) ?_;intro cv w8 v;obtain⟨ca,cc,rfl⟩:=jl v.fu;generalize([gP a.toNat,gP c,gP b]++f.map sD).length=cn at v|-;have q:=fi v;clear v)
  |(go_at_call 38;refine(TW q.out.I.2.1 (by have:=q.out.I.2.1;rw[this,J.out.2];omega) q.out.I.2.2 U q.out.I.1 (by have:=q.out.I.2.1;have h1:=J.out.1;have h2:=J.out.2;omega)).mono ?_;rintro e w9 ⟨rfl,v⟩;have Q:=fi v;clear v))
 go_ret;exact⟨U,q.out.r.fj Q.out⟩
def aoI{s:St}(v:mj i s h w)(b:gL s)(z:iN w)(B:lJ w)(x y:Nat)(g k:Int)(c:x<8)(d:y<8)(f:0<=g)(j:g<=100000)(l:gf k): Ò À 119 #[Ã<|Â ⟨i,0,Á⟩,Å É x,Å É y,Å å g,Å å k] w λe q=>e=Ç (Ä<|TX<|gp s [] x y g k)/\fg (λ_=>False) w q:=by have T:=aak v b z x y g k c d f j l _ U;have e:=MU s [] x y g k b c d l f j (by simp;omega);have m:=TC s [] x y g k b c d l f j (by simp;omega) (λ_ q=>by cases q);obtain⟨q,o,a,t,p,C⟩:∃q o a t p,gp s [] x y g k=⟨q,o,a,t,p⟩:=⟨_,_,_,_,_,U⟩;rw[C]at T e m|-;have D:=e.r;have E:=e.C;have r:=e.M;have u:=e.I;simp only at D E r u m T;obtain⟨F,rfl⟩:∃n:Nat,q=n:=⟨q.toNat,Z⟩;obtain⟨G,rfl⟩:∃n:Nat,a=n:=⟨a.toNat,by have:=r.1;omega⟩;exact aoH x y g k F G o p Z (by have:=r.2;omega) (by simp at u;omega) m B T
def qK(w:Í):Prop:=w.cell? ⟨4,15,Á⟩=Â (Å Ų 4)
def qK.r(h:qK w)(k:fg (λ_=>False) w u):qK u:=k.r h id
def aoJ(c:qK w):Ò À 207 #[Å å 16] w λe a=>e=Ç (Å É 4)/\a=w:=by
 unfold qK at c;have b:å.wrap (bits BinOp.and å 16 (å.wrap<|-16)*285870213051353865)/288230376151711744=15:=A
 go_enter Tryz.func207,Tryz.ntmps207;go_wp2;go_ret;exact⟨U,U⟩
def tz(c:qK w):Ò À 201 #[Å å 16] w λe a=>e=Ç (Å É 4)/\a=w:=by go_enter Tryz.func201,Tryz.ntmps201;go_wp2_with (go_at_call 207;refine(aoJ c).mono ?_;rintro e a ⟨rfl,b⟩;subst a);go_ret;exact⟨U,U⟩
def aoK:Ò À 200 #[Å É 16] w λe a=>e=Ç (û Î)/\a=w:=by
 have b:bits BinOp.and É 16 15=0:=A
 have c:(bits BinOp.and É 16 15==0)=Î:=A
 go_enter Tryz.func200,Tryz.ntmps200;go_wp2;go_ret;exact⟨by simp[b],U⟩
def pP(d:Nat):UInt8:=if h:d<36 then(⟨#[48,49,50,51,52,53,54,55,56,57,97,98,99,100,101,102,103,104,105,106,107,108,109,110,111,112,113,114,115,116,117,118,119,120,121,122]⟩:ByteArray)[d]'h else 0
def uW:Nat->Nat->List UInt8->List UInt8
 |0,_,acc=>acc
 |k+1,n,acc=>if n<16 then pP n::acc else uW k (n/16) (pP (n%16)::acc)
def aaA:∀k n a,(uW k n a).length<=k+a.length
 |0,_,a=>by simp[uW]
 |k+1,n,a=>by
  unfold uW;split
  .simp;omega
  .have:=aaA k (n/16)<|pP (n%16)::a;simp at this;omega
noncomputable def Nx:θ:=(Tryz.f190.body.bind kF).getD aD
def FZ(a:Nat)(n i:Int)(u:Nat->Ñ):Ď:=⟨#[u 0,Å å n,Å É 16,û Ë,û Ë,u 5,u 6,u 7,u 8,u 9,Æ Á 0 0,u 11,Ã<|Â ⟨a,0,Á⟩,Å É i,Å å 4,Å å 16,Å å 15,u 17,u 18,u 19,u 20,u 21,u 22,u 23,u 24,u 25,u 26,u 27,u 28,u 29,u 30,u 31,u 32,u 33,u 34,u 35,u 36,u 37,u 38,u 39,u 40,u 41,u 42,u 43,u 44,u 45,u 46,u 47,u 48,u 49,u 50,u 51,u 52,u 53,u 54,u 55,u 56,u 57,u 58,u 59,u 60,u 61,u 62,u 63,u 64,u 65,u 66,u 67,u 68,u 69,u 70,u 71,u 72,u 73,u 74,u 75,u 76,u 77,u 78,u 79,u 80,u 81,u 82,u 83,u 84,u 85,u 86,u 87,u 88,u 89,u 90,u 91,u 92,u 93,u 94,u 95,u 96,u 97,u 98,u 99,u 100,u 101],[]⟩
def F0(b:Nat)(n i:Int)(a:Ď):Prop:=∃u,a=FZ b n i u
def zc(i:Nat)(a:List UInt8):List Ñ:=Ĉ i (Å Ų 0)++Û a
def aaB(i:Nat)(a:List UInt8):(zc i a).length=i+a.length:=by simp[zc,Û]
def aaC(i:Nat)(a:List UInt8)(c:UInt8):(zc (i+1) a).set i (Å Ų c.toNat)=zc i (c::a):=by unfold zc;rw[List.replicate_succ',Ĵ,Ľ _ _ ft];simp[Û]
section
variable{X:Ď->Í->Prop}
def aoL(u:Nat->Ñ)(n b:Nat)(d:n<16)(c:∀a,F0 i n b a->X a w): ä À Nx (Exit.then K<|QE 0 X) (FZ i n b u) w:=by
 unfold FZ;conv=>arg 2;whnf
 have e:¬(16:Int)<=(n:Int):=Z
 have f:(n:Int)<16:=Z
 go_wp2_with fail
 exact⟨U,c _ (gA _)⟩
def aoM(u:Nat->Ñ)(n b:Nat)(g:16<=n)(h:n<18446744073709551616)(j:b<65)(v:Ñ)(c:w.cell? ⟨i,b,Á⟩=Â v)(k:w.frozen? ⟨i,b,Á⟩=Ë) (e:∀a,F0 i ((n/16:Nat):Int) b a->K a (w.setCell ⟨i,b,Á⟩<|Å Ų (pP<|n%16).toNat)): ä À Nx (Exit.then K<|QE 0 X) (FZ i n ((b+1:Nat):Int) u) w:=by
 unfold FZ;conv=>arg 2;whnf
 have l:(16:Int)<=(n:Int):=Z
 have m:(0:Int)<=(b:Int):=Z
 have o:(b:Int)<65:=Z
 have p:bits BinOp.and å (n:Int) 15=((n%16:Nat):Int):=by have:=(bits_nat å 64 A (λn f H=>by rw[Ċ];omega) n 15 Z A).1;rwa[show(15:Nat)=2^4-1 from rfl,Nat.and_two_pow_sub_one_eq_mod]at this
 have q:(0:Int)<=((n%16:Nat):Int):=Z
 have r:((n%16:Nat):Int)<36:=Z
 have f:n%16<36:=Z
 have s:(⟨#[48,49,50,51,52,53,54,55,56,57,97,98,99,100,101,102,103,104,105,106,107,108,109,110,111,112,113,114,115,116,117,118,119,120,121,122]⟩:ByteArray)[n%16]'f=pP (n%16):=by unfold pP;rw[dif_pos f]
 have H:=fi e;clear e;generalize t:n%16=d at*;go_wp2_with fail;exact H.out _ (gA _)
def XI(i:Nat)(u:Í)(d:List UInt8)(a:Ď)(w:Í):Prop:=
 ∃(n b:Nat) (c:List UInt8),F0 i n b a/\50<=b/\b+c.length=65/\n<16^(b-49)/\n<18446744073709551616/\fg (λk=>k=i) u w/\fl i (zc b c) 292 w/\uW (b-49) n c=d
def XE(i:Nat)(u:Í)(d:List UInt8)(a:Ď)(w:Í):Prop:=
 ∃(n b:Nat) (c:List UInt8),F0 i n b a/\n<16/\50<=b/\b+c.length=65/\fg (λk=>k=i) u w/\fl i (zc b c) 292 w/\pP n::c=d
def Ny(a:Ď)(_:Í):Nat:=match a.tmps.getD 1 ł with
 |Å _ i=>i.toNat
 |_=>0
def aaD(b:F0 i n j y):Ny y w=n:=by obtain⟨u,rfl⟩:=b;show(n:Int).toNat=_;simp
def aoN{l:List UInt8}(a:Ď)(w:Í)(p:XI i u l a w): ä À Nx (Exit.then (λb c=>XI i u l b c/\Ny b c<Ny a w)<|QE 0<|XE i u l) a w:=by
 let⟨n,b,g,m,r,s,e,t,o,f,d⟩:=p;rw[aaD m];obtain⟨c,rfl⟩:=m;obtain⟨j,rfl⟩:∃j,b=j+1:=⟨b-1,Z⟩;have x:j+1-49=(j-49)+1:=Z
 rw[x]at d e;unfold uW at d;by_cases h:n<16
 .rw[if_pos h]at d;exact aoL c n (j+1) h λa q=>⟨n,j+1,g,q,h,r,s,o,f,d⟩
 .rw[if_neg h]at d;have y:50<=j:=by
   rcases Ĕ j 50 with q|q
   .have:j-49=0:=Z
    rw[this]at e;simp at e;omega
   .exact q
  have C:(zc (j+1) g).length=65:=by rw[aaB];omega
  obtain⟨v,z⟩:∃v,(zc (j+1) g)[j]?=Â v:=⟨_,Ô Z⟩;have B:n/16<16^(j-49):=by rw[Nat.pow_succ]at e;exact Nat.div_lt_of_lt_mul<|by rwa[Nat.mul_comm]
  refine aoM c n j Z t Z v (f.r j v z) (f.C j) λa q=>⟨⟨n/16,j,pP (n%16)::g,q,y,by simp;omega,B,Z,o.fj (fg.I (X:=λk=>k=i) U _<|Ï f.G),?_,d⟩,by rw[aaD q];omega⟩;have:=f.gh j<|Å Ų (pP<|n%16).toNat;rwa[aaC]at this
end
def aoO:ÿ=(zc 65 []).toArray:=fw
def nN(n:Nat):ByteArray:=⟨(uW 16 n []).toArray⟩
def aoP(n:Nat)(l:n<18446744073709551616)(o:qK w):Ò À 190 #[Æ Á 0 0,Å å n,Å É 16,û Ë,û Ë] w λe p=>e=Ç (ï #[Æ Á 0 0,Ä<|nN n])/\fg (λ_=>False) w p:=by
 have L:∀a,F0 w.heap.size n (65:Nat) a->ä À (ŏ Nx) (QE 0<|XE w.heap.size (w.alloc<|Þ ÿ 292)<|uW 16 n []) a (w.alloc<|Þ ÿ 292):=λa r=>
  Κ (XI w.heap.size (w.alloc<|Þ ÿ 292)<|uW 16 n []) Ny ⟨n,65,[],r,Z,U,by show n<16^16;omega,l,fg.fW _ _,by rw[aoO];exact fl.N w (zc 65 []) 292,U⟩ aoN
 have H:=fi<|Ê o L;unfold nN;generalize uW 16 n []=res at*;go_enter Tryz.func190,Tryz.ntmps190;go_wp2_with (first
  |(go_at_call 200;refine aoK.mono ?_;rintro e b ⟨rfl,c⟩;subst b)
  |(go_at_call 201;refine(tz (H.out.1.r kp)).mono ?_;rintro e b ⟨rfl,c⟩;subst b))
 refine ĺ (Q:=QE 0<|XE w.heap.size (w.alloc<|Þ ÿ 292) res) ?_ (H.out.2 _ (gA _));rintro(_|_|_|_|_|_) a v hq;all_goals first|exact absurd hq id|skip
 obtain⟨rfl,m,i,c,s,F,G,I,x,b,d⟩:=hq;obtain⟨u,rfl⟩:=s;unfold FZ;obtain⟨j,rfl⟩:∃j,i=j+1:=⟨i-1,Z⟩;have J:(zc (j+1) c).length=65:=by rw[aaB];omega
 obtain⟨z,y⟩:∃z,(zc (j+1) c)[j]?=Â z:=⟨_,Ô Z⟩;have K:=b.r j z y;have M:=b.C j;have N:(0:Int)<=(j:Int):=Z
 have O:(j:Int)<65:=Z
 have T:(j:Int)<=65:=Z
 have V:(0:Int)<=(m:Int):=Z
 have W:(m:Int)<36:=Z
 have f:m<36:=Z
 have Y:(⟨#[48,49,50,51,52,53,54,55,56,57,97,98,99,100,101,102,103,104,105,106,107,108,109,110,111,112,113,114,115,116,117,118,119,120,121,122]⟩:ByteArray)[m]'f=pP m:=by unfold pP;rw[dif_pos f]
 have B:=(fg.gI (λ_=>False) w ÿ 292).C x λi C q=>by omega
 have g:=b.gh j<|Å Ų (pP m).toNat;rw[aaC,d]at g;have D:fg (λ_=>False) w (v.setCell ⟨w.heap.size,j,Á⟩<|Å Ų (pP m).toNat):=B.C (fg.I (X:=λk=>k=w.heap.size) U _<|Ï b.G) λi C q=>by omega
 have k:res.length=65-j:=by rw[<-d];simp;omega
 have hcv:(convert 107 9<|Æ (Â ⟨w.heap.size,j,Á⟩) (65-j)<|65-j).run À (v.setCell ⟨w.heap.size,j,Á⟩<|Å Ų (pP m).toNat)=.ok (Ä ⟨res.toArray⟩) (v.setCell ⟨w.heap.size,j,Á⟩<|Å Ų (pP m).toNat):=by have h:=run_convert_bytes_back (P:=À) (v.setCell ⟨w.heap.size,j,Á⟩<|Å Ų (pP m).toNat) 107 9 5 ⟨w.heap.size,j,Á⟩ (65-j) res fw fw fw (λt E=>by rw[Addr.add_mid];apply g.r (j+t) _;unfold zc;rw[ĩ ft];simp[Û,Ô E]);rwa[k]at h
 have h:=fi D;go_wp2;go_ret2;exact⟨U,h.out⟩
def aoQ(n:Nat)(b:n<18446744073709551616)(c:qK w):Ò À 172 #[Å å n,Å É 16] w λe a=>e=Ç (Ä<|nN n)/\fg (λ_=>False) w a:=by go_enter Tryz.func172,Tryz.ntmps172;go_wp2_with (go_at_call 190;refine(aoP n b c).mono ?_;rintro e a ⟨rfl,d⟩);go_ret;exact⟨U,d⟩
def aoR(n:Nat)(b:n<18446744073709551616)(c:qK w):Ò À 157 #[Å å n,Å É 16] w λe a=>e=Ç (Ä<|nN n)/\fg (λ_=>False) w a:=by go_enter Tryz.func157,Tryz.ntmps157;go_wp2_with (go_at_call 172;refine(aoQ n b c).mono ?_;rintro e a ⟨rfl,d⟩);go_ret;exact⟨U,d⟩
def aoS(s:ByteArray)(w:Í)(h:s.data.toList.head?=Â 48):Ò À 175 #[Ä s,Ä ⟨#[48]⟩] w λe b=>e=Ç (û Î)/\b=w:=by
 have H:=Tryz.strings_HasPrefix s ⟨#[48]⟩ w;have e:Γ s.data.toList (ŷ ⟨#[48]⟩).toList=Î:=by
  generalize s.data.toList=l at h;cases l with
  |nil=>cases h
  |cons a r=>cases h;rfl
 rwa[e]at H
def aoT(s:ByteArray)(w:Í)(h:¬s.data.toList.head?=Â 48):Ò À 175 #[Ä s,Ä ⟨#[48]⟩] w λe b=>e=Ç (û Ë)/\b=w:=by
 have H:=Tryz.strings_HasPrefix s ⟨#[48]⟩ w;have e:Γ s.data.toList (ŷ ⟨#[48]⟩).toList=Ë:=by
  generalize s.data.toList=l at h;cases l with
  |nil=>rfl
  |cons a r=>
   have c:¬a=48:=λq=>h (by rw[q];rfl);show((48:UInt8)==a&&List.isPrefixOf [] r)=Ë;have:((48:UInt8)==a)=Ë:=beq_eq_false_iff_ne.2 λq=>c q.symm;rw[this];rfl
 rwa[e]at H
def zO(k:Nat):ByteArray:=ak ⟨#[48,48,48,48,48,48,48,48,48,48,48,48,48,48,48,48,48,48,48,48,48,48,48,48,48,48,48,48,48,48,48,48,48,48,48,48,48,48,48,48,48,48,48,48,48,48,48,48,48,48,48,48,48,48,48,48,48,48,48,48,48,48,48,48]⟩ 0 k
def aoU(k:Nat)(d:2<=k)(f:k<=64):Ò À 160 #[Ä ⟨#[48]⟩,Å É k] w λe a=>e=Ç (Ä<|zO k)/\a=w:=by
 have g:((k:Int)==0)=Ë:=by simp;omega
 have h:((k:Int)==1)=Ë:=by simp;omega
 have i:¬(k:Int)<0:=Z
 have j:(0:Int)<=(k:Int):=Z
 have l:(k:Int)<=64:=Z
 have m:å.wrap (k:Int)=(k:Int):=by rw[Ċ];omega
 have n:É.wrap (k:Int)=(k:Int):=by rw[Ě];omega
 have M:=Tryz.bits_Mul 1 k A Z w;rw[show 1*k/18446744073709551616=0 by omega,show 1*k%18446744073709551616=k by omega]at M;have c:=fi M;go_enter ś,Ŕ;go_wp2_with (first
  |(go_at_call 174;refine c.out.mono ?_;rintro e a ⟨rfl,b⟩;subst a)
  |(go_at_call 175;refine(aoT _ _ A).mono ?_;rintro e a ⟨rfl,b⟩;subst a)
  |(go_at_call 175;refine(aoS _ _ A).mono ?_;rintro e a ⟨rfl,b⟩;subst a))
 go_ret;exact⟨U,U⟩
def aoV:Ò À 160 #[Ä ⟨#[48]⟩,Å É 0] w λe a=>e=Ç (Ä ⟨#[]⟩)/\a=w:=by go_enter ś,Ŕ;go_wp2;go_ret;exact⟨U,U⟩
def aoW:Ò À 160 #[Ä ⟨#[48]⟩,Å É 1] w λe a=>e=Ç (Ä ⟨#[48]⟩)/\a=w:=by go_enter ś,Ŕ;go_wp2;go_ret;exact⟨U,U⟩
def aoX(k:Nat)(a:k<=64):Ò À 160 #[Ä ⟨#[48]⟩,Å É k] w λe b=>e=Ç (Ä<|zO k)/\b=w:=by
 match k with
 |0=>exact aoV
 |1=>exact aoW
 |k+2=>exact aoU (k+2) Z a
def Nz(n:Nat):ByteArray:=zO (16-(nN n).size)++nN n
def aaE(n:Nat):(nN n).size<=16:=by show(uW 16 n []).toArray.size<=16;have:=aaA 16 n [];simpa using this
def aaF(k:Nat):(zO k).size<=k:=by unfold zO;rw[ĕ];omega
def aoY(n:Nat)(c:n<18446744073709551616)(d:qK w):Ò À 121 #[Å å n] w λe a=>e=Ç (Ä<|Nz n)/\fg (λ_=>False) w a:=by
 have g:=aaE n;have h:=aaF<|16-(nN n).size;have T:=aoR n c d;have R:∀W:Í,Ò À 160 #[Ä ⟨#[48]⟩,Å É ((16-(nN n).size:Nat):Int)] W λe a=>e=Ç (Ä<|zO<|16-(nN n).size)/\a=W:=λW=>aoX _ Z;have i:É.wrap ((16:Int)-((nN n).size:Int))=((16-(nN n).size:Nat):Int):=by rw[Ě];omega
 have j:(16:Int)-((nN n).size:Int)=((16-(nN n).size:Nat):Int):=Z
 have l:¬9223372036854775807<(zO<|16-(nN n).size).size+(nN n).size:=Z
 unfold Nz;have H:=fi<|Ê T R;generalize m:zO (16-(nN n).size)=zs at*;generalize o:16-(nN n).size=k at*;generalize nN n=fs at*;go_enter Tryz.func121,Tryz.ntmps121;go_wp2_with (first
  |(go_at_call 157;refine H.out.1.mono ?_;rintro e p ⟨rfl,b⟩;have f:=fi b;clear b)
  |(go_at_call 160;refine(H.out.2 _).mono ?_;rintro e b ⟨rfl,p⟩;subst b))
 go_ret;exact⟨U,f.out⟩
structure pQ(r:Nat)(x y g k:Nat)(kind v v2:Int)(slot:Nat)(w:Í):Prop where
 I:w.cell? ⟨r,0,Á⟩=Â (Å É x)
 S:w.cell? ⟨r,1,Á⟩=Â (Å É y)
 a:w.cell? ⟨r,2,Á⟩=Â (Å É g)
 Y:w.cell? ⟨r,3,Á⟩=Â (Å É k)
 N:w.cell? ⟨r,4,Á⟩=Â (Å É kind)
 M:w.cell? ⟨r,5,Á⟩=Â (Å É v)
 c:w.cell? ⟨r,6,Á⟩=Â (Å É v2)
 b:w.cell? ⟨r,7,Á⟩=Â (Å É slot)
def il.N(h:il u v vX W)(k:fg (λ_=>False) w u):il w v vX W:=by
 refine⟨⟨h.fu.1,?_⟩,k.fj h.r⟩;rcases h.fu.2 with q|⟨g,a,b,c,d,q⟩
 .exact È q
 .exact Ï ⟨g,a,b,c,Ì k.M d,q⟩
section
variable{cp r x y g slot:Nat}{v v2:Int}
def pQ.C{w:Í}(h:pQ r x y g k c v v2 slot w)(q:fg (λ_=>False) w u):pQ r x y g k c v v2 slot u:= ⟨q.r h.I id,q.r h.S id,q.r h.a id,q.r h.Y id,q.r h.N id,q.r h.M id,q.r h.c id,q.r h.b id⟩
def aoZ(F:Ò À 113 #[Æ O n cp,Å É v] w λe c=>e=Ç (jW<|Â i)/\fg (λ_=>False) w c)(j:pQ r x y g k 2 v v2 slot w)(p:x<8)(q:slot<16)(z:Nat)(l:w.cell? ⟨i,x*18+2+slot,Á⟩=Â (Å å z)) (C:∀W,fg (λ_=>False) w W->Ò À 118 #[Å å z] W λe c=>e=Ç (Ä B)/\fg (λ_=>False) W c): Ò À 67 #[Æ O n cp,Ã<|Â ⟨r,0,Á⟩] w λe c=>e=Ç (Ä B)/\fg (λ_=>False) w c:=by
 have s:=j.M;have o:=j.N;have t:(0:Int)<=(x:Int):=Z
 have u:(x:Int)<8:=Z
 have D:(0:Int)<=(slot:Int):=Z
 have E:(slot:Int)<16:=Z
 have H:=fi<|Ê F C;have f:=fi j;clear F C j;go_enter ù,ñ;go_wp2_with (go_at_call 113;apply H.out.1.mono;rintro e d ⟨rfl,a⟩;dsimp only[jW,õ];have h:=a.r o id;have b:=fi a;clear a);refine mg (λc=>c.cell? ⟨r,0,Á⟩=Â (Å É x)/\c.cell? ⟨r,7,Á⟩=Â (Å É slot)/\c.cell? ⟨i,x*18+2+slot,Á⟩=Â (Å å z)) [] fw ?_;have a:=fi (Ê ((f.out.C b.out).C<|fg.fU (λ_=>False) _).I<|Ê ((f.out.C b.out).C<|fg.fU (λ_=>False) _).b<|(b.out.fj<|fg.fU _ _).r l id);apply tk 0 a.out;apply tk 1 a.out;apply tk 2 a.out;apply tk 3 a.out;apply tk 4 a.out;apply tk 5 a.out;apply tk 6 a.out;apply tk 7 a.out;apply tk 8 a.out;apply tk 9 a.out;apply tk 10 a.out;apply tk 11 a.out;apply tk 12 a.out;apply tk 13 a.out;apply tk 14 a.out;apply tk 15 a.out;apply tk 16 a.out;apply gF 17;intro K h;go_simp;go_at_call 118;refine(H.out.2 _<|b.out.fj<|fg.fU _ _).mono ?_;rintro e G ⟨rfl,m⟩;have d:=fi m;clear m;dsimp only;apply h.out _ _ λ_=>⟨(f.out.C<|(b.out.fj<|fg.fU _ _).fj d.out).I,(f.out.C<|(b.out.fj<|fg.fU _ _).fj d.out).b,(((b.out.fj<|fg.fU _ _).fj d.out).r l id)⟩;clear h K;apply gF 18;intro K h;go_simp;apply h.out _ _ λ_=>⟨(f.out.C<|(b.out.fj<|fg.fU _ _).fj d.out).I,(f.out.C<|(b.out.fj<|fg.fU _ _).fj d.out).b,(((b.out.fj<|fg.fU _ _).fj d.out).r l id)⟩;clear h K;try simp only[Act.put,ë,ā,Ă]
 refine lU fw ?_ _;go_wp2_with fail;go_ret;exact⟨U,(b.out.fj<|fg.fU _ _).fj d.out⟩
def ao0(F:Ò À 113 #[Æ O n cp,Å É v] w λe b=>e=Ç (jW<|Â i)/\fg (λ_=>False) w b)(h:pQ r x y g k 3 v v2 slot w)(p:x<8)(z:Nat)(j:w.cell? ⟨i,x*18,Á⟩=Â (Å å z)) (C:∀W,fg (λ_=>False) w W->Ò À 118 #[Å å z] W λe b=>e=Ç (Ä B)/\fg (λ_=>False) W b): Ò À 67 #[Æ O n cp,Ã<|Â ⟨r,0,Á⟩] w λe b=>e=Ç (Ä B)/\fg (λ_=>False) w b:=by
 have q:=h.M;have o:=h.N;have s:(0:Int)<=(x:Int):=Z
 have t:(x:Int)<8:=Z
 have H:=fi<|Ê F C;have l:=fi h;clear F C h;go_enter ù,ñ;go_wp2_with (go_at_call 113;apply H.out.1.mono;rintro e d ⟨rfl,a⟩;dsimp only[jW,õ];have f:=a.r o id;have c:=fi a;clear a);refine mg (λb=>b.cell? ⟨r,0,Á⟩=Â (Å É x)/\b.cell? ⟨i,x*18,Á⟩=Â (Å å z)) [] fw ?_;have a:=fi (Ê ((l.out.C c.out).C<|fg.fU (λ_=>False) _).I<|(c.out.fj<|fg.fU _ _).r j id);apply tk 0 a.out;apply tk 1 a.out;apply tk 2 a.out;apply tk 3 a.out;apply tk 4 a.out;apply tk 5 a.out;apply tk 6 a.out;apply tk 7 a.out;apply tk 8 a.out;apply tk 9 a.out;apply tk 10 a.out;apply tk 11 a.out;apply gF 12;intro K d;go_simp;go_at_call 118;refine(H.out.2 _<|c.out.fj<|fg.fU _ _).mono ?_;rintro e u ⟨rfl,m⟩;have f:=fi m;clear m;dsimp only;apply d.out _ _ λ_=>⟨(l.out.C<|(c.out.fj<|fg.fU _ _).fj f.out).I,(((c.out.fj<|fg.fU _ _).fj f.out).r j id)⟩;clear d K;apply gF 13;intro K d;go_simp;apply d.out _ _ λ_=>⟨(l.out.C<|(c.out.fj<|fg.fU _ _).fj f.out).I,(((c.out.fj<|fg.fU _ _).fj f.out).r j id)⟩;clear d K;try simp only[Act.put,ë,ā,Ă]
 refine lU fw ?_ _;go_wp2_with fail;go_ret;exact⟨U,(c.out.fj<|fg.fU _ _).fj f.out⟩
def ao1(F:Ò À 113 #[Æ O n cp,Å É v] w λe d=>e=Ç (jW<|Â i)/\fg (λ_=>False) w d)(j:pQ r x y g k 4 v v2 slot w)(o:g<=400)(p:k<18446744073709551616) (C:∀W,fg (λ_=>False) w W->Ò À 119 #[Ã<|Â ⟨i,0,Á⟩,Å É x,Å É y,Å å g,Å å k] W λe d=>e=Ç (Ä B)/\fg (λ_=>False) W d): Ò À 67 #[Æ O n cp,Ã<|Â ⟨r,0,Á⟩] w λe d=>e=Ç (Ä B)/\fg (λ_=>False) w d:=by
 have q:=j.M;have m:=j.N;have s:å.wrap (k:Int)=(k:Int):=by rw[Ċ];omega
 have t:å.wrap (g:Int)=(g:Int):=by rw[Ċ];omega
 have u:¬(400:Int)<(g:Int):=Z
 have z:(g:Int)<=400:=Z
 have H:=fi<|Ê F C;have c:=fi j;clear F C j;go_enter ù,ñ;go_wp2_with (go_at_call 113;apply H.out.1.mono;rintro e f ⟨rfl,a⟩;dsimp only[jW,õ];have h:=a.r m id;have l:=a.r c.out.a id;have b:=fi a;clear a);refine mg (λd=>d.cell? ⟨r,0,Á⟩=Â (Å É x)/\d.cell? ⟨r,1,Á⟩=Â (Å É y)/\d.cell? ⟨r,2,Á⟩=Â (Å É g)/\d.cell? ⟨r,3,Á⟩=Â (Å É k)) [] fw ?_;have a:=fi (Ê ((c.out.C b.out).C<|fg.fU (λ_=>False) _).I<|Ê ((c.out.C b.out).C<|fg.fU (λ_=>False) _).S<|Ê ((c.out.C b.out).C<|fg.fU (λ_=>False) _).a ((c.out.C b.out).C<|fg.fU (λ_=>False) _).Y);apply tk 0 a.out;apply tk 1 a.out;apply tk 2 a.out;apply tk 3 a.out;apply tk 4 a.out;apply tk 5 a.out;apply tk 6 a.out;apply tk 7 a.out;apply tk 8 a.out;apply tk 9 a.out;apply tk 10 a.out;apply tk 11 a.out;apply tk 12 a.out;apply tk 13 a.out;apply tk 14 a.out;apply tk 15 a.out;apply tk 16 a.out;apply tk 17 a.out;apply tk 18 a.out;apply tk 19 a.out;apply tk 20 a.out;apply tk 21 a.out;apply tk 22 a.out;apply gF 23;intro K h;go_simp;go_at_call 119;refine(H.out.2 _<|b.out.fj<|fg.fU _ _).mono ?_;rintro e D ⟨rfl,l⟩;have f:=fi l;clear l;dsimp only;apply h.out _ _ λ_=>⟨(c.out.C<|(b.out.fj<|fg.fU _ _).fj f.out).I,(c.out.C<|(b.out.fj<|fg.fU _ _).fj f.out).S,(c.out.C<|(b.out.fj<|fg.fU _ _).fj f.out).a,(c.out.C<|(b.out.fj<|fg.fU _ _).fj f.out).Y⟩;clear h K;apply gF 24;intro K h;go_simp;apply h.out _ _ λ_=>⟨(c.out.C<|(b.out.fj<|fg.fU _ _).fj f.out).I,(c.out.C<|(b.out.fj<|fg.fU _ _).fj f.out).S,(c.out.C<|(b.out.fj<|fg.fU _ _).fj f.out).a,(c.out.C<|(b.out.fj<|fg.fU _ _).fj f.out).Y⟩;clear h K;try simp only[Act.put,ë,ā,Ă]
 refine lU fw ?_ _;go_wp2_with fail;go_ret;exact⟨U,(b.out.fj<|fg.fU _ _).fj f.out⟩
def ao2(F:Ò À 113 #[Æ O n cp,Å É v] w λe c=>e=Ç (jW<|Â i)/\fg (λ_=>False) w c)(j:pQ r x y g k 5 v v2 slot w)(o:k<18446744073709551616) (C:∀W,fg (λ_=>False) w W->Ò À 120 #[Ã<|Â ⟨i,0,Á⟩,Å É x,Å É y,Å å k] W λe c=>e=Ç (Ä B)/\fg (λ_=>False) W c): Ò À 67 #[Æ O n cp,Ã<|Â ⟨r,0,Á⟩] w λe c=>e=Ç (Ä B)/\fg (λ_=>False) w c:=by
 have p:=j.M;have m:=j.N;have q:å.wrap (k:Int)=(k:Int):=by rw[Ċ];omega
 have H:=fi<|Ê F C;have d:=fi j;clear F C j;go_enter ù,ñ;go_wp2_with (go_at_call 113;apply H.out.1.mono;rintro e f ⟨rfl,a⟩;dsimp only[jW,õ];have h:=a.r m id;have b:=fi a;clear a);refine mg (λc=>c.cell? ⟨r,0,Á⟩=Â (Å É x)/\c.cell? ⟨r,1,Á⟩=Â (Å É y)/\c.cell? ⟨r,3,Á⟩=Â (Å É k)) [] fw ?_;have a:=fi (Ê ((d.out.C b.out).C<|fg.fU (λ_=>False) _).I<|Ê ((d.out.C b.out).C<|fg.fU (λ_=>False) _).S ((d.out.C b.out).C<|fg.fU (λ_=>False) _).Y);apply tk 0 a.out;apply tk 1 a.out;apply tk 2 a.out;apply tk 3 a.out;apply tk 4 a.out;apply tk 5 a.out;apply tk 6 a.out;apply tk 7 a.out;apply tk 8 a.out;apply tk 9 a.out;apply tk 10 a.out;apply tk 11 a.out;apply tk 12 a.out;apply tk 13 a.out;apply tk 14 a.out;apply tk 15 a.out;apply tk 16 a.out;apply gF 17;intro K h;go_simp;go_at_call 120;refine(H.out.2 _<|b.out.fj<|fg.fU _ _).mono ?_;rintro e s ⟨rfl,l⟩;have f:=fi l;clear l;dsimp only;apply h.out _ _ λ_=>⟨(d.out.C<|(b.out.fj<|fg.fU _ _).fj f.out).I,(d.out.C<|(b.out.fj<|fg.fU _ _).fj f.out).S,(d.out.C<|(b.out.fj<|fg.fU _ _).fj f.out).Y⟩;clear h K;apply gF 18;intro K h;go_simp;apply h.out _ _ λ_=>⟨(d.out.C<|(b.out.fj<|fg.fU _ _).fj f.out).I,(d.out.C<|(b.out.fj<|fg.fU _ _).fj f.out).S,(d.out.C<|(b.out.fj<|fg.fU _ _).fj f.out).Y⟩;clear h K;try simp only[Act.put,ë,ā,Ă]
 refine lU fw ?_ _;go_wp2_with fail;go_ret;exact⟨U,(b.out.fj<|fg.fU _ _).fj f.out⟩
def ao3(F:Ò À 113 #[Æ O n cp,Å É v] w λe a=>e=Ç (jW<|Â i)/\fg (λ_=>False) w a)(b:pQ r x y g k 6 v v2 slot w)(z:Nat)(C:∀W,fg (λ_=>False) w W->Ò À 122 #[Ã<|Â ⟨i,0,Á⟩] W λe a=>e=Ç (Å å z)/\fg (λ_=>False) W a)(d:∀W,fg (λ_=>False) w W->Ò À 121 #[Å å z] W λe a=>e=Ç (Ä B)/\fg (λ_=>False) W a): Ò À 67 #[Æ O n cp,Ã<|Â ⟨r,0,Á⟩] w λe a=>e=Ç (Ä B)/\fg (λ_=>False) w a:=by
 have m:=b.M;have j:=b.N;have l:=fi d;clear d;have H:=fi<|Ê F C;have o:=fi b;clear F C b;go_enter ù,ñ;go_wp2_with (first
  |(go_at_call 113;refine H.out.1.mono ?_;rintro e h ⟨rfl,c⟩;dsimp only[jW,õ];have p:=c.r j id;have f:=fi c;clear c)
  |(go_at_call 122;refine(H.out.2 _ f.out).mono ?_;rintro e p ⟨rfl,c⟩;have h:=fi<|f.out.fj c;clear c)
  |(go_at_call 121;refine(l.out _ h.out).mono ?_;rintro e p ⟨rfl,c⟩;have f:=fi (h.out.fj c);clear c))
 go_ret;exact⟨U,f.out⟩
def ao4(F:Ò À 113 #[Æ O n cp,Å É v] w λe b=>e=Ç (jW<|Â i)/\fg (λ_=>False) w b)(d:pQ r x y g k 7 v v2 slot w)(l:Option ý)(o p:Nat)(u:w.cell? ⟨i,144,Á⟩=Â (Æ l o p))(f:List ByteArray)(C:∀W,fg (λ_=>False) w W->Ò À 124 #[Æ l o p] W λe b=>∃j,e=Ç j/\il W j f b)(q:∀W a m c,il w (Æ a m c) f W->Ò À 123 #[Æ a m c] W λe b=>e=Ç (Ä B)/\fg (λ_=>False) W b): Ò À 67 #[Æ O n cp,Ã<|Â ⟨r,0,Á⟩] w λe b=>e=Ç (Ä B)/\fg (λ_=>False) w b:=by
 have J:=d.M;have z:=d.N;have D:=fi q;clear q;have H:=fi<|Ê F C;have K:=fi d;clear F C d;go_enter ù,ñ;go_wp2_with (first
  |(go_at_call 113;refine H.out.1.mono ?_;rintro e t ⟨rfl,h⟩;dsimp only[jW,õ];have E:=h.r z id;have G:=h.r u id;have s:=fi h;clear h)
  |(go_at_call 124;refine(H.out.2 _ s.out).mono ?_;rintro e E ⟨j,rfl,h⟩;obtain⟨G,I,rfl⟩:=jl h.fu;generalize f.length=tn at h|-;have t:=fi (show il w (Æ G tn I) f E from h.N s.out);clear h)
  |(go_at_call 123;refine(D.out _ _ _ _ t.out).mono ?_;rintro e E ⟨rfl,h⟩;have s:=fi (t.out.r.fj h);clear h))
 go_ret;exact⟨U,s.out⟩
def ao5(F:Ò À 113 #[Æ O n cp,Å É v] w λe b=>e=Ç (jW<|Â i)/\fg (λ_=>False) w b)(d:pQ r x y g k 8 v v2 slot w)(l:Option ý)(o p:Nat)(u:w.cell? ⟨i,146,Á⟩=Â (Æ l o p))(f:List ByteArray)(C:∀W,fg (λ_=>False) w W->Ò À 125 #[Æ l o p] W λe b=>∃j,e=Ç j/\il W j f b)(q:∀W a m c,il w (Æ a m c) f W->Ò À 123 #[Æ a m c] W λe b=>e=Ç (Ä B)/\fg (λ_=>False) W b): Ò À 67 #[Æ O n cp,Ã<|Â ⟨r,0,Á⟩] w λe b=>e=Ç (Ä B)/\fg (λ_=>False) w b:=by
 have J:=d.M;have z:=d.N;have D:=fi q;clear q;have H:=fi<|Ê F C;have K:=fi d;clear F C d;go_enter ù,ñ;go_wp2_with (first
  |(go_at_call 113;refine H.out.1.mono ?_;rintro e t ⟨rfl,h⟩;dsimp only[jW,õ];have E:=h.r z id;have G:=h.r u id;have s:=fi h;clear h)
  |(go_at_call 125;refine(H.out.2 _ s.out).mono ?_;rintro e E ⟨j,rfl,h⟩;obtain⟨G,I,rfl⟩:=jl h.fu;generalize f.length=tn at h|-;have t:=fi (show il w (Æ G tn I) f E from h.N s.out);clear h)
  |(go_at_call 123;refine(D.out _ _ _ _ t.out).mono ?_;rintro e E ⟨rfl,h⟩;have s:=fi (t.out.r.fj h);clear h))
 go_ret;exact⟨U,s.out⟩
def ao6(F:Ò À 113 #[Æ O n cp,Å É v] w λe c=>e=Ç (jW<|Â i)/\fg (λ_=>False) w c)(a:pQ r x y g k 4 v v2 slot w)(j:400<g)(C:B=pz 6): Ò À 67 #[Æ O n cp,Ã<|Â ⟨r,0,Á⟩] w λe c=>e=Ç (Ä B)/\fg (λ_=>False) w c:=by
 have l:=a.M;have d:=a.N;have m:(400:Int)<(g:Int):=Z
 have H:=fi<|Ê F C;have f:=fi a;clear F C a;go_enter ù,ñ;go_wp2_with (first
  |(go_at_call 113;refine H.out.1.mono ?_;rintro e o ⟨rfl,b⟩;dsimp only[jW,õ];have p:=b.r d id;have q:=b.r f.out.a id;have h:=fi b;clear b)
  |(go_at_call 114;refine(FB 6 A _).mono ?_;rintro e b ⟨rfl,o⟩;subst b))
 go_ret;exact⟨by rw[H.out.2];rfl,h.out⟩
def ao7(F:Ò À 113 #[Æ O n cp,Å É v] w λe a=>e=Ç (jW<|Â i)/\fg (λ_=>False) w a)(b:pQ r x y g k 9 v v2 slot w)(C:B=pz 3)(d:∀W,fg (λ_=>False) w W->Ò À 113 #[Æ O n cp,Å É v2] W λe a=>e=Ç (jW Á)/\fg (λ_=>False) W a): Ò À 67 #[Æ O n cp,Ã<|Â ⟨r,0,Á⟩] w λe a=>e=Ç (Ä B)/\fg (λ_=>False) w a:=by
 have p:=b.M;have j:=b.N;have l:=fi d;clear d;have H:=fi<|Ê F C;have m:=fi b;clear F C b;go_enter ù,ñ;go_wp2_with (first
  |(go_at_call 113;with_reducible refine H.out.1.mono ?_;rintro e h ⟨rfl,c⟩;dsimp only[jW,õ];have o:=c.r j id;have q:=c.r m.out.c id;have f:=fi c;clear c)
  |(go_at_call 113;refine(l.out _ f.out).mono ?_;rintro e c ⟨rfl,h⟩;dsimp only[jW,õ];have o:=fi<|f.out.fj h;clear h)
  |(go_at_call 114;refine(FB 3 A _).mono ?_;rintro e c ⟨rfl,h⟩;subst c))
 go_ret;exact⟨by rw[H.out.2];rfl,o.out⟩
def ao8(F:Ò À 113 #[Æ O n cp,Å É v] w λe b=>e=Ç (jW<|Â i)/\fg (λ_=>False) w b)(h:pQ r x y g k 9 v v2 slot w)(C:True)(q:∀W,fg (λ_=>False) w W->Ò À 113 #[Æ O n cp,Å É v2] W λe b=>e=Ç (jW<|Â j)/\fg (λ_=>False) W b)(o:List ByteArray)(s:∀W,fg (λ_=>False) w W->Ò À 126 #[Ã<|Â ⟨i,0,Á⟩,Ã<|Â ⟨j,0,Á⟩] W λe b=>∃p,e=Ç p/\il W p o b)(t:∀W a m c,il w (Æ a m c) o W->Ò À 123 #[Æ a m c] W λe b=>e=Ç (Ä B)/\fg (λ_=>False) W b): Ò À 67 #[Æ O n cp,Ã<|Â ⟨r,0,Á⟩] w λe b=>e=Ç (Ä B)/\fg (λ_=>False) w b:=by
 have L:=h.M;have E:=h.N;have G:=fi q;have u:=fi<|Ê s t;clear q s t;have H:=fi<|Ê F C;have I:=fi h;clear F C h;go_enter ù,ñ;go_wp2_with (first
  |(go_at_call 113;with_reducible refine H.out.1.mono ?_;rintro e z ⟨rfl,d⟩;dsimp only[jW,õ];have l:=d.r E id;have D:=d.r I.out.c id;have f:=fi d;clear d)
  |(go_at_call 113;refine(G.out _ f.out).mono ?_;rintro e l ⟨rfl,d⟩;dsimp only[jW,õ];have z:=fi (f.out.fj d);clear d))
 apply mg (λb=>True/\True) [] fw;have d:=fi<|Ê trivial trivial;apply tk 0 d.out;apply tk 1 d.out;apply tk 2 d.out;apply tk 3 d.out;apply tk 4 d.out;apply tk 5 d.out;apply tk 6 d.out;apply tk 7 d.out;apply gF 8;intro K f;go_simp;go_at_call 126;refine(u.out.1 _<|z.out.fj<|fg.fU _ _).mono ?_;rintro e M ⟨p,rfl,l⟩;obtain⟨N,P,rfl⟩:=jl l.fu;generalize o.length=tn at l|-;have D:=fi<|l.N<|z.out.fj<|fg.fU _ _;clear l;dsimp only;apply f.out _ _ λ_=>⟨trivial,trivial⟩;clear f K;apply gF 9;intro K f;go_simp;go_at_call 123;refine(u.out.2 _ _ _ _ D.out).mono ?_;rintro e Q ⟨rfl,z⟩;have J:=fi<|D.out.r.fj z;clear z;dsimp only;apply f.out _ _ λ_=>⟨trivial,trivial⟩;clear f K;apply gF 10;intro K f;go_simp;apply f.out _ _ λ_=>⟨trivial,trivial⟩;clear f K;try simp only[Act.put,ë,ā,Ă]
 refine lU fw ?_ _;go_wp2_with fail;go_ret;exact⟨U,J.out⟩
def ao9(F:Ò À 113 #[Æ O n cp,Å É v] w λe a=>e=Ç (jW Á)/\fg (λ_=>False) w a)(b:pQ r x y g k h v v2 slot w): Ò À 67 #[Æ O n cp,Ã<|Â ⟨r,0,Á⟩] w λe a=>e=Ç (Ä<|pz 3)/\fg (λ_=>False) w a:=by
 have f:=b.M;have H:=fi F;clear F b;go_enter ù,ñ;go_wp2_with (first
  |(go_at_call 113;refine H.out.mono ?_;rintro e i ⟨rfl,c⟩;dsimp only[jW,õ];have d:=fi c;clear c)
  |(go_at_call 114;refine(FB 3 A _).mono ?_;rintro e c ⟨rfl,i⟩;subst c))
 go_ret;exact⟨U,d.out⟩
end
structure Qn where
 x:Nat
 y:Nat
 g:Nat
 k:Nat
 r:Int
 v:Int
 C:Int
 I:Nat
structure Qn.Ok(q:Qn):Prop where
 x:q.x<8
 y:q.y<8
 g:q.g<1000000
 k:q.k<18446744073709551616
 atD:2<=q.r
 atE:q.r<=9
 v:-1<=q.v
 v2:-1<=q.C
 atF:q.I<16
def F1(a:List ByteArray):ByteArray:=if a=[]then⟨#[45]⟩else lk ⟨#[44]⟩ a
def F2(a:List (Nat×fP))(p:fP)(q:Qn):ByteArray:=
 if q.r=2 then gP ((p.s q.x).C q.I).toNat
 else if q.r=3 then gP (p.s q.x).fy.toNat
 else if q.r=4 then if 400<q.g then pz 6 else TX (gp p.s [] q.x q.y q.g q.k)
 else if q.r=5 then tJ p.s q.x q.y q.k 0 401
 else if q.r=6 then Nz (FL p.s)
 else if q.r=7 then F1 (p.r.map sD)
 else if q.r=8 then F1 (p.C.map FR)
 else match lj a q.C with
  |none=>pz 3
  |some b=>F1<|rA p.s b.2.s 8
def vZ(a:List (Nat×fP))(q:Qn):ByteArray:=
 match lj a q.v with
 |none=>pz 3
 |some p=>F2 a p.2 q
def TY{M:Nat}(b:∀z∈vX,z.size<=M)(d:M<=100)(f:vX.length<=400000)(h:il w (Æ O m i) vX W): Ò À 123 #[Æ O m i] W λe g=>e=Ç (Ä<|F1 vX)/\fg (λ_=>False) W g:=by obtain⟨e,g,j⟩:=h.I;have k:=FY vX b;have:M*vX.length<=100*400000:=Ÿ d f;exact aoF g Z j e Z
def apa(s:St):FL s<18446744073709551616:=by unfold FL M9;exact Ts _ _<|Z' λi=>aae _ _ _
def T0{b:ByteArray}(c:B.size<=1)(d:b.size<=1):(B++b).size<=2:=by rw[î];omega
def aaG(s t:St):∀z∈rA s t 8,z.size<=2:=λz a=>by
 unfold rA at a;obtain⟨i,_,h⟩:=ŧ.1 a;unfold zM xO at h;rcases à.1 h with h|h
 .rcases à.1 h with h|h
  .split at h
   .cases h
   .simp at h;subst h;exact T0 (xP i)<|â _
  .split at h
   .cases h
   .simp at h;subst h;exact T0 (xP i)<|â _
 .unfold rz at h;obtain⟨j,_,h⟩:=ŧ.1 h;unfold Dt at h;split at h
  .cases h
  .simp at h;subst h;exact T0 (xP i)<|aas j
section
variable{cp:Nat}{vs:List (Nat×fP)}{q:Qn}
def apb(u:qI O n vs w)(T:n<=1000)(V:0<n)(hvo:∀p∈vs,TD p.2)(d:pQ i q.x q.y q.g q.k q.r q.v q.C q.I w)(ok:q.Ok)(X:iN w)(o:lJ w)(hd:qK w): Ò À 67 #[Æ O n cp,Ã<|Â ⟨i,0,Á⟩] w λe G=>e=Ç (Ä<|vZ vs q)/\fg (λ_=>False) w G:=by
 have F:=Nd (cp:=cp) u T V q.v ok.v;unfold vZ;cases B:lj vs q.v with
 |none=>
  rw[B]at F;exact ao9 F d
 |some p=>
  rw[B]at F;have h:=F;have Y:=Jq B;have f:=u.M Y;have j:=hvo p Y;obtain⟨x,y,g,k,kind,v,C,slot⟩:=q;obtain⟨r,H,hg,I,rP,rN,hv,NA,J⟩:=ok;simp only at r H hg I rP rN hv NA J d h B|-;obtain⟨cb,_,cs⟩:=f.r.gX r;have Ho:gf (k:Int):=⟨Z,Z⟩;unfold F2;simp only;split
  .rename_i e;subst e;have c:=cs slot J;have l:=f.C.C x slot;rw[<-ő l.1]at c;exact aoZ h d r J _ c λW b=>xN _ (by have:=l.1;have:=l.2;omega) W<|o.r b
  .split
   .rename_i e;subst e;have l:=f.C.fy x;rw[<-ő l.1]at cb;exact ao0 h d r _ cb λW b=>xN _ (by have:=l.1;have:=l.2;omega) W<|o.r b
   .split
    .rename_i e;subst e;split
     .rename_i hh;exact ao6 h d hh U
     .exact ao1 h d Z I λW b=>aoI (f.r.r b id) f.C (X.r b id) (o.r b) x y g k r H Z Z Ho
    .split
     .rename_i e;subst e;exact ao2 h d I λW b=>an1 (f.r.r b id) f.C (X.r b id) (o.r b) r H Ho
     .split
      .rename_i e;subst e;exact ao3 h d _ (λW b=>ang (f.r.r b id) f.C) λW b=>aoY _ (apa _)<|hd.r b
      .split
       .rename_i e;subst e;obtain⟨K,L,M,N⟩:=f.N;exact ao4 h d K _ L M _ (λW b=>aan U j.I j.C (o.r b)<|nK.C N b) λW a m c t=>TY (λz P=>by obtain⟨e,D,rfl⟩:=Ý.1 P;exact Nw (j.C e D).2) Z (by rw[í];exact j.I) t
       .split
        .rename_i e;subst e;obtain⟨K,L,M,N⟩:=f.S;exact ao5 h d K _ L M _ (λW b=>an8 U j.M j.r (o.r b)<|nK.C N b) λW a m c t=>TY (λz P=>by obtain⟨e,D,rfl⟩:=Ý.1 P;exact aay (j.r e D).1 (j.r e D).2) Z (by rw[í];have:=j.M;omega) t
        .have e:kind=9:=Z
         subst e;have E:∀W,fg (λ_=>False) w W->Ò À 113 #[Æ O n cp,Å É C] W λe G=>e=Ç (jW ((lj vs C).map (·.1)))/\fg (λ_=>False) W G:=λW b=>Nd (u.I b) T V C NA;cases Q:lj vs C with
         |none=>
          rw[Q]at E;exact ao7 h d U E
         |some p2=>
          rw[Q]at E;have apc:=u.M<|Jq Q;exact ao8 h d trivial E _ (λW b=>aol (f.r.r b id)<|apc.r.r b id) λW a m c t=>TY (aaG _ _) Z (by have:=TO p.2.s p2.2.s 8;omega) t
end
end Go.Proofs.Y.iE
namespace Go.Proofs.Y.ml
open Go Go.Proofs Go.RowKit Go.Proofs.Y.Lift Go.Proofs.Y.iE
def kh(a:List (Nat×fP)):List fP:=a.map (·.2)
def aaH(d:fP)(l:List fP):fP:=l.foldl (λa b=>if a.h<b.h then b else a) d
def aaI:∀(a:List (Nat×fP)) (d:Nat×fP),(uT d a).2=aaH d.2 (kh a)
 |[],_=>rfl
 |x::r,d=>by show(uT (zG d x) r).2=aaH (if d.2.h<x.2.h then x.2 else d.2) (kh r);rw[aaI r];unfold zG;split<;>rfl
def T3{b a:List (Nat×fP)}(h:kh b=kh a)(v:Int):(lj b v).map (·.2)=(lj a v).map (·.2):=by
 have d:∀i:Nat,(b[i]?).map (·.2)=(a[i]?).map (·.2):=λi=>by have:=congrArg (λl:List fP=>l[i]?) h;simpa[kh]using this
 unfold lj;split
 .have l:=d 0;cases f:b[0]? with
  |none=>
   rw[f]at l;cases c:a[0]? with
   |none=>rfl
   |some y=>rw[c]at l;cases l
  |some x=>
   rw[f]at l;cases c:a[0]? with
   |none=>rw[c]at l;cases l
   |some y=>
    rw[c]at l;have e:x.2=y.2:=by simpa using l
    simp only[þ,aaI,h,e]
 .exact d _
def apd{a b:List (Nat×fP)}(h:kh a=kh b):a.length=b.length:=by have:=congrArg ι h;simpa[kh]using this
def aaJ{d b:List (Nat×fP)}(h:kh d=kh b)(v:Int)(x:Nat)(f:List Tx):tH d v x f=tH b v x f:=by
 have a:=T3 h v;have i:=apd h;unfold tH;cases g:lj d v with
 |none=>
  rw[g]at a;cases c:lj b v with
  |none=>rfl
  |some y=>rw[c]at a;cases a
 |some p=>
  rw[g]at a;cases c:lj b v with
  |none=>rw[c]at a;cases a
  |some y=>
   rw[c]at a;have e:p.2=y.2:=by simpa using a
   simp only[i,e]
def ape{g f:List (Nat×fP)}(h:kh g=kh f)(q:Qn):vZ g q=vZ f q:=by
 have c:=T3 h q.v;have d:=T3 h q.C;have j:∀p:fP,F2 g p q=F2 f p q:=λp=>by
  unfold F2;cases i:lj g q.C with
  |none=>
   rw[i]at d;cases b:lj f q.C with
   |none=>rfl
   |some y=>rw[b]at d;cases d
  |some a=>
   rw[i]at d;cases b:lj f q.C with
   |none=>rw[b]at d;cases d
   |some y=>
    rw[b]at d;have e:a.2=y.2:=by simpa using d
    simp only[e]
 unfold vZ;cases i:lj g q.v with
 |none=>
  rw[i]at c;cases b:lj f q.v with
  |none=>rfl
  |some y=>rw[b]at c;cases c
 |some p=>
  rw[i]at c;cases b:lj f q.v with
  |none=>rw[b]at c;cases c
  |some y=>
   rw[b]at c;have e:p.2=y.2:=by simpa using c
   simp only[j,e]
structure lB(s:List fP):Prop where
 I:0<s.length
 r:s.length<=40
 C:∀v∈s,TD v/\gL v.s/\0<=v.h/\v.h<s.length
def tL(a:List (Nat×fP))(v:Int)(x:Nat)(b:List Tx):List fP:=kh a++(tH a v x b).1.toList
def lB.M{f:List (Nat×fP)}(h:lB (kh f)){g:List Tx}(k:∀t∈g,t.Ok)(m:g.length<=1000):lB (tL f c i g):=by
 unfold ml.tL;have B:(kh f).length=f.length:=by simp[kh]
 unfold tH;cases n:lj f c with
 |none=>simpa using h
 |some p=>
  have o:p.2∈kh f:=Ý.2 ⟨p,Jq n,U⟩;let⟨C,l,D,E⟩:=h.C _ o;simp only;split
  .simpa using h
  .rename_i F;cases j:xM i p.2.s g with
   |none=>simpa using h
   |some r=>
    simp only[Option.toList];have G:=h.r;have w:gL r.1:=by unfold xM at j;obtain⟨H,y,rfl⟩:=ø.1 j;exact(TF g k l (λ_ q=>by cases q) (λ_ q=>by cases q) (by simp;omega) (by simp;omega) y).1.r i<|zw _
    refine⟨ft,by simp;omega,λu z=> ?_⟩;rcases à.1 z with q|q
    .let⟨a,b,e,d⟩:=h.C u q;refine⟨a,b,e,?_⟩;rw[Ø];simp;omega
    .simp at q;subst q;refine⟨anP k l m j,w,by show 0<=p.2.h+1;omega,?_⟩;rw[Ø];show p.2.h+1<_;simp;omega
def iY(ρ:fv)(u w:Í):Prop:=∀(i j o:Nat) (v:Ñ),ρ i j->u.cell? ⟨i,o,Á⟩=Â v->∃a,w.cell? ⟨j,o,Á⟩=Â a/\fq ρ v a
section
variable{ρ:fv}
def apf{k:IntKind}(h:fq ρ (Å k c) v):v=Å k c:=by cases h;rfl
def apg(h:fq ρ (Ä B) v):v=Ä B:=by cases h;rfl
def NB(h:fq ρ (Ã<|Â a) v):∃b,v=Ã (Â b)/\hD ρ a b:=by
 cases h with
 |jZ q=>exact⟨_,U,q⟩
def NC(h:fq ρ (Æ O n i) v):∃b,v=Æ b n i/\∀a,O=Â a->∃d,b=Â d/\hD ρ a d:=by
 cases h with
 |nS=>exact⟨Á,U,λa q=>by cases q⟩
 |kT q=>exact⟨_,U,λa e=>by cases e;exact⟨_,U,q⟩⟩
def aph(a:km v=Î)(h:fq ρ v x):x=v:=by cases h<;>first|rfl|(simp[km]at a;done)
def zP(h:hD ρ ⟨b,i,Á⟩ a):∃c,a=⟨c,i,Á⟩/\ρ b c:=by let⟨d,e,f⟩:=h;let⟨c,g,j⟩:=a;simp only at d e f;subst e f;exact⟨c,U,d⟩
def iY.r(a:iY ρ u w){k:IntKind}(h:ρ i j)(e:u.cell? ⟨i,b,Á⟩=Â (Å k c)):w.cell? ⟨j,b,Á⟩=Â (Å k c):=by let⟨g,d,f⟩:=a i j b _ h e;rwa[apf f]at d
def iY.C(a:iY ρ u w)(h:ρ i j)(c:u.cell? ⟨i,n,Á⟩=Â (Ä B)):w.cell? ⟨j,n,Á⟩=Â (Ä B):=by let⟨e,b,d⟩:=a i j n _ h c;rwa[apg d]at b
def iY.apj(a:iY ρ u w)(c:km v=Î)(h:ρ i j)(d:u.cell? ⟨i,n,Á⟩=Â v):w.cell? ⟨j,n,Á⟩=Â v:=by let⟨f,b,e⟩:=a i j n _ h d;rwa[aph c e]at b
def T4(s:iE.St):∀v∈iz s,(∃n,v=Å å n)\/∃p,v=Ä p:=λv n=>by
 unfold iz at n;obtain⟨i,_,rfl⟩:=Ý.1 n;unfold pM qD;split
 .exact È ⟨_,U⟩
 .split
  .exact Ï ⟨_,U⟩
  .exact È ⟨_,U⟩
def apk(a:iY ρ u w){s:iE.St}(c:ρ b i)(d:mj b s h u):mj i s h w:=by
 refine⟨λj v e=> ?_,a.r c d.h⟩;have f:=d.C j v e;rcases T4 s v (è e)with⟨n,rfl⟩|⟨p,rfl⟩
 .exact a.r c f
 .exact a.C c f
def aaK(a:iY ρ u w)(f:ρ b i)(g:∀v∈l,km v=Î)(h:zF ⟨b,j,Á⟩ n l u):zF ⟨i,j,Á⟩ n l w:=by let⟨p,c,k,m⟩:=h;let⟨G,q,r⟩:=a b i j _ f k;obtain⟨s,rfl,t⟩:=NC r;refine⟨s,c,q,λd x e=> ?_⟩;let⟨H,y,z,B⟩:=m d x e;let⟨I,C,D⟩:=t _ z;obtain⟨E,rfl,F⟩:=zP D;exact⟨E,y,C,a.apj (g x<|è e) F B⟩
def apl(a:iY ρ u w){v:fP}(c:ρ b i)(h:sB b v u):sB i v w:= ⟨apk a c h.r,h.C,h.I,h.M,aaK a c (f_ _) h.N,aaK a c (L_ _) h.S⟩
def wD{α β:Type}{R:Nat->α->β->Prop}:∀(l:List α) (k:Nat),(∀j x,l[j]?=Â x->∃y,R (k+j) x y)->∃a:List β,a.length=l.length/\∀j y,a[j]?=Â y->∃x,l[j]?=Â x/\R (k+j) x y
 |[],_,_=>⟨[],U,λj y h=>by simp at h⟩
 |x::r,k,h=>by
  let⟨y,c⟩:=h 0 x U;obtain⟨a,d,e⟩:=wD r (k+1) λj z b=>by let⟨q,f⟩:=h (j+1) z b;exact⟨q,by rwa[show k+1+j=k+(j+1) by omega]⟩
  refine⟨y::a,by simp[d],λj z b=> ?_⟩;cases j with
  |zero=>cases b;exact⟨x,U,c⟩
  |succ j=>
   let⟨q,f,g⟩:=e j z b;exact⟨q,f,by rwa[show k+(j+1)=k+1+j by omega]⟩
def Jv(a:iY ρ u w){f:List (Nat×fP)}(t:fq ρ z jQ)(h:Nf z f u):∃e,kh e=kh f/\Nf jQ e w:=by
 obtain⟨L,n,B,rfl,C,l⟩:=h;obtain⟨m,rfl,D⟩:=NC t;let⟨e,E,o⟩:=wD (R:=λj (x y:Nat×fP)=>x.2=y.2/\∃c d,m=Â ⟨c,d,Á⟩/\w.cell? ⟨c,d+j,Á⟩=Â (Ã<|Â ⟨y.1,0,Á⟩)/\sB y.1 y.2 w) f 0 λj x F=>by let⟨b,v⟩:=x;let⟨c,d,i,g,k⟩:=l.C j b v F;let⟨M,p,r⟩:=D _ i;obtain⟨q,rfl,s⟩:=zP r;let⟨N,G,H⟩:=a c q _ _ s g;obtain⟨O,rfl,I⟩:=NB H;obtain⟨J,rfl,K⟩:=zP I;exact⟨(J,v),U,q,d,p,by rwa[Ė],apl a K k⟩
 refine⟨e,?_,m,n,B,U,C,⟨by rw[E];exact l.r,λj b v q=> ?_⟩⟩
 .refine Ŝ λj=> ?_;unfold kh;rw[ó,ó];cases p:e[j]? with
  |none=>
   have:f[j]?=Á:=ľ (by have:=į.1 p;omega);rw[this]
  |some y=>
   let⟨x,r,s,_⟩:=o j y p;rw[r];simp[s]
 .let⟨x,r,s,c,d,i,g,k⟩:=o j (b,v) q;exact⟨c,d,i,by rwa[Ė]at g,k⟩
end
def ll(a:Nat->Prop)(B:Nat):fv:=⟨λi j=>i=j/\a i,B⟩
def apm(a:Nat->Prop)(B:Nat):Bi (ll a B):= ⟨λ_ _ _ h k=>h.1.symm.trans k.1,λ_ _ _ h k=>h.1.trans k.1.symm,λi j h=>by rw[h.1]⟩
def zR{V:Nat->Prop}{B:Nat}(h:∀i,X i->V i):(ll X B).r (ll V B):=⟨λ_ _ q=>⟨q.1,h _ q.2⟩,λ_=>apm V B,U⟩
def kG(B:Nat)(a:Nat->Prop)(w:Í):Prop:=∀b,a b->∃c e d,w.heap[b]?=Â (Þ c e d)/\d.2<=c.size/\fT (ll a B) c c/\0<c.size/\D1 c/\e≠304/\e≠305
section
variable{B:Nat}{V:Nat->Prop}
def kG.I(h:kG B X w)(k:kG B V w):kG B (λb=>X b\/V b) w:=by
 rintro b (q|q)
 .let⟨c,e,a,d,f,g,i⟩:=h b q;exact⟨c,e,a,d,f,g.I (zR λ_=>È),i⟩
 .let⟨c,e,a,d,f,g,i⟩:=k b q;exact⟨c,e,a,d,f,g.I (zR λ_=>Ï),i⟩
def kG.C(h:kG B X w)(k:∀b,X b->u.heap[b]?=w.heap[b]?):kG B X u:=λb q=>by let⟨c,e,a,d,f⟩:=h b q;exact⟨c,e,a,by rwa[k b q],f⟩
def kG.r(h:kG B X w)(g:X b)(a:w.cell? ⟨b,i,Á⟩=Â v):fq (ll X B) v v:=by
 let⟨c,e,m,j,_,k,_⟩:=h b g;simp only[ã,j,ü,ð,if_false]at a;rcases k.S i with⟨q,_⟩|⟨x,n,d,f,l⟩
 .rw[q]at a;cases a
 .rw[d]at a;rw[d]at f;cases a;cases f;exact l
def Dv(h:fq (ll X B) (Ã<|Â a) v):X a.block:=by
 cases h with
 |jZ q=>exact q.1.2
def Dw(h:fq (ll X B) (Æ (Â a) n i) v):X a.block:=by
 cases h with
 |kT q=>exact q.1.2
def apn{ρ:fv}(h:km v=Î):fq ρ v v:=by cases v<;>first|exact .my _|exact .iK _ _|(simp[km]at h;done)
def pR{ρ:fv}(h:∀v∈d.toList,fq ρ v v):fT ρ d d:=⟨U,λi a _=>h _<|ò.2<|Ć a⟩
def apo(h:km v=Î):yf v=Ë:=by
 cases v with
 |int k n=>cases k<;>first|rfl|(simp[km]at h;done)
 |_=>rfl
def zS(h:∀v∈d.toList,yf v=Ë):D1 d:=λk v a=>h v<|ò.2<|Ŀ a
def Jw(v:Ñ)(i:Nat):Prop:=v.ownBlock=Â i
def Jx(X:Nat->Prop)(g b:Nat)(a c:Ñ)(i:Nat):Prop:=X i\/i=g\/i=b\/Jw a i\/Jw c i
def aaL{G:Í}(a:me T=Î)(h:tF v T u)(o:∀j,v.ownBlock=Â j->G.heap.size<=j)(p:sj G.heap.size u):∀i,Jw v i->∃c e f,u.heap[i]?=Â (Þ c e f)/\f.2<=c.size/\fT (ll V B) c c/\0<c.size/\D1 c/\e≠304/\e≠305:=λi b=>by
 rcases h with rfl|⟨g,n,c,k,rfl,l⟩
 .cases b
 .have e:g=i:=by unfold Jw at b;simpa[Value.ownBlock]using b
  subst e;let⟨r,m⟩:=p g k T (0,0) (o g U) l a;exact⟨k,T,(0,0),l,Ú _,pR λv d=>apn<|m v d,r,zS λv d=>apo<|m v d,(λq=>by rw[q]at a;cases a),(λq=>by rw[q]at a;cases a)⟩
def aaM(h:tF v T u)(a:∀i,Jw v i->V i):fq (ll V B) v v:=by
 rcases h with rfl|⟨g,n,c,b,rfl,d⟩
 .exact .nS _ _
 .exact fq.kT (ρ:=ll V B) ⟨⟨U,a g U⟩,U,U⟩ n c
def apq{G:Í}(J:kG B X G)(k:fg (λ_=>False) G u)(K:∀i,X i->i<G.heap.size){r:List (Nat×fP)}{s:iE.St}(t:TA b s h G u)(w:Tz r b G u m)(L:∀p∈r,X p.1): ∃e,(∀i,X i->e i)/\e m/\kG B e u/\∀i,e i->X i\/G.heap.size<=i:=by
 have y:=k.Y _ λi c T z M C=>by rw[æ M]at C;cases C
 let⟨a,d,N,f,l,D,E⟩:=t.r;refine⟨Jx X m b a d,λi q=>È q,Ï<|È U,?_,?_⟩
 .rintro i (q|rfl|rfl|q|q)
  .let⟨c,e,z,n,x,o,F⟩:=J i q;exact⟨c,e,z,by rwa[k.N i (K i q) id],x,o.I (zR λ_=>È),F⟩
  .let⟨F,n,x,o⟩:=w.r;have H:∀v∈F.toList,v=Ã Á\/∃j,v=Ã (Â ⟨j,0,Á⟩)/\Jx X i b a d j:=λv e=>by
    rcases o v e with q|q|q
    .unfold sC at q;obtain⟨p,I,rfl⟩:=Ý.1 q;exact Ï ⟨_,U,È<|L p I⟩
    .exact Ï ⟨_,q,Ï<|Ï<|È U⟩
    .exact È q
   refine⟨F,136,(0,0),n,Ú _,pR λv e=> ?_,x,zS λv e=> ?_,A,A⟩
   .rcases H v e with rfl|⟨j,rfl,I⟩
    .exact .lM
    .exact .jZ ⟨⟨U,I⟩,U,U⟩
   .rcases H v e with rfl|⟨j,rfl,I⟩<;>rfl
  .have o:∀v∈je s a++[Å É h,d],fq (ll (Jx X m i a d) B) v v/\yf v=Ë:=λv e=>by
    rw[zC]at e;have I:=aaM (B:=B) (V:=Jx X m i a d) f λj q=>Ï<|Ï<|Ï<|È q;have H:=aaM (B:=B) (V:=Jx X m i a d) l λj q=>Ï<|Ï<|Ï<|Ï q;have F:∀{x:Ñ} {T:ė},tF x T u->yf x=Ë:=λ{x T} q=>by rcases q with rfl|⟨_,_,_,_,rfl,_⟩<;>rfl
    rcases à.1 e with q|q
    .rcases à.1 q with q|q
     .rcases T4 s v q with⟨n,rfl⟩|⟨p,rfl⟩
      .exact⟨.iK _ _,U⟩
      .exact⟨.kS _,U⟩
     .simp at q;subst q;exact⟨I,F f⟩
    .simp at q;rcases q with rfl|rfl
     .exact⟨.iK _ _,U⟩
     .exact⟨H,F l⟩
   have F:=N;exact⟨_,147,(0,0),F,Ú _,pR λv e=>(o v<|by simpa using e).1,by simp[mK],zS λv e=>(o v<|by simpa using e).2,A,A⟩
  .exact aaL U f D y i q
  .exact aaL U l E y i q
 .rintro i (q|rfl|rfl|q|q)
  .exact È q
  .exact Ï w.C
  .exact Ï t.C
  .exact Ï<|D i q
  .exact Ï<|E i q
def ND{ρ:fv}(h:fq ρ v x):fq (ll X B) v v->fq (ll (λj=>∃i,X i/\ρ i j) B) x x:=by
 induction h with
 |my b=>exact λ_=> .my b
 |iK k n=>exact λ_=> .iK k n
 |kS s=>exact λ_=> .kS s
 |lM=>exact λ_=> .lM
 |@jZ a a' q=>exact λz=>fq.jZ (ρ:=ll (λj=>∃i,X i/\ρ i j) B) ⟨⟨U,_,Dv z,q.1⟩,U,U⟩
 |nS n c=>exact λ_=> .nS n c
 |@kT a a' q n c=>exact λz=>fq.kT (ρ:=ll (λj=>∃i,X i/\ρ i j) B) ⟨⟨U,_,Dw z,q.1⟩,U,U⟩ n c
 |vd=>exact λ_=> .vd
 |fn f=>exact λ_=> .fn f
 |ve=>exact λ_=> .ve
 |vf=>exact λ_=> .vf
 |vg=>exact λ_=> .vg
 |yc t _ b=>exact λz=> .yc t (b (by cases z with|yc _ y=>exact y))
 |oM f _ b=>exact λz=> .oM U λi c _=>b i (by rwa[f]) c (by cases z with|oM _ y=>exact y i _ _)
 |nT f _ b=>exact λz=> .nT U λi c _=>b i (by rwa[f]) c (by cases z with|nT _ y=>exact y i _ _)
def apr{ρ:fv}(h:fq ρ v x):yf x=yf v:=by cases h<;>rfl
def T5{ρ:fv}{l:Nat->Prop}(h:jo ρ l u w)(r:kG B X u):kG B (λj=>∃i,X i/\ρ i j) w:=by
 rintro j ⟨i,t,x⟩;let⟨c,a,e,I,y,z,C,b,D,E,J⟩:=h.r i j x;let⟨d,K,p9,m,_,F,L,G,n,o⟩:=r i t;rw[z]at m;cases m;have M:=b.C.resolve_right λq=>q.2.1.elim n o;refine⟨a,e,y,C,?_,pR λv f=> ?_,Z,zS λv f=> ?_,n,o⟩
 .by_cases s:l j
  .have:=(D s).2.2.1;omega
  .rw[<-E s];omega
 .obtain⟨k,s,rfl⟩:=Ħ f;have g:k<a.size:=by simpa using s
  have:=ND (b.r k Z g)<|F.C k Z Z;simpa using this
 .obtain⟨k,s,rfl⟩:=Ħ f;have g:k<a.size:=by simpa using s
  have p:=apr<|b.r k Z g;have H:=G k c[k]<|Ü Z;rw[H]at p;simpa using p
def zU{ρ:fv}(h:jo ρ X u w):iY ρ u w:=λi j o v b c=>h.G (a:=⟨i,o,Á⟩) (a':=⟨j,o,Á⟩) ⟨b,U,U⟩ c
end
end Go.Proofs.Y.ml
namespace Go.Proofs.Y.Lift
open Go
def aaN{α β:Type}{c:α->β->Option (ForInStep β)}{I:β->Prop}(d:∀a b s,I b->c a b=Â s->I s.value): ∀(l:List α) (b r:β),I b->forIn l b c=Â r->I r
 |[],b,r,hi,h=>by simp at h;subst h;exact hi
 |a::l,b,r,hi,h=>by
  rw[List.forIn_cons]at h;cases e:c a b with
  |none=>rw[e]at h;simp at h
  |some s=>
   rw[e]at h;have:=d a b s hi e;cases s with
   |done x=>simp at h;subst h;exact this
   |yield x=>simp at h;exact aaN d l x r this h
def jU.gX(h:jU v):∀x∈v.cells,jU x:=by
 intro x a;cases h with
 |oM h=>
  obtain⟨i,b,rfl⟩:=Array.mem_iff_getElem.1 a;exact h i b
 |nT h=>simp[Ń]at a;subst a;exact .nT h
 |_=>simp[Ń]at a;subst a;constructor
def ZP(a:ė->Option Ĳ):Prop:=∀t i z,a t=Â i->i.zero=Â z->jU z
def T7(h:∀x∈d,jU x):jU (.agg d):=.oM λ_ a=>h _<|Ć a
def aps{m:ė->Option Ĳ}(h:ZP m){n:Array Field}(g:ŝ m n=Â zJ)(j:zJ.zero=Â z):jU z:=by
 unfold ŝ at g;simp only[<-Array.forIn_toList]at g;generalize t:(forIn n.toList _ _:Option _)=L at g;cases L with
 |none=>simp at g
 |some r=>
  have u:=aaN (I:=λx=>∀a,x.2.2.2.2.2.2.2.1=Â a->∀v∈a,jU v) ?_ _ _ _ ?_ t
  .have:∃a,r.2.2.2.2.2.2.2.1=Â a/\z=.agg a:=by
    simp only[bind,pure,ν]at g;split at g;all_goals
     simp only[Õ]at g;subst g;simp only[ø]at j;let⟨a,e,k⟩:=j;exact⟨a,e,k.symm⟩
   obtain⟨a,e,rfl⟩:=this;exact T7<|u a e
  .intro f b s w d;have y:∀(e:Option Ñ) (k:Nat) (x:Option (Array Ñ)),(∀z,e=Â z->jU z)->x=(if k>Ź then Á else do pure ((<-b.2.2.2.2.2.2.2.1)++(<-e).cells))->∀a,x=Â a->∀v∈a,jU v:=by
    intro e k x B C a c v o;subst C;split at c
    .simp at c
    .cases l:b.2.2.2.2.2.2.2.1 with
     |none=>rw[l]at c;simp at c
     |some E=>
      cases p:e with
      |none=>rw[l,p]at c;simp at c
      |some D=>
       rw[l,p]at c;simp at c;subst c;rcases Array.mem_append.1 o with q|q
       .exact w _ l v q
       .exact(B D p).gX v q
   cases e:m f.type with
   |none=>rw[e]at d;simp at d
   |some k=>
    rw[e,ì,Ķ]at d;have l:=y k.zero (b.2.1+k.size) _ (λz j=>h _ _ _ e j) U;generalize(if b.2.1+k.size>Ź then Á else(do pure ((<-b.2.2.2.2.2.2.2.1)++(<-k.zero).cells):Option (Array Ñ)))=X at d l;generalize(if b.1.size+1<n.size then ";" else "")=Y at d;simp only[bind,pure,ν]at d;repeat' split at d
    all_goals first
     |(simp only[Õ]at d;subst d;exact l)
     |(simp at d;done)
  .intro a c v o;simp at c;subst c;simp at o
def apt{c:ė->Option Ĳ}(h:ZP c){d:TypeDesc}(a:ξ c d=Â zJ)(b:zJ.zero=Â z):jU z:=by
 unfold ξ at a;cases d with
 |struct k=>exact aps h a b
 |array n e=>
  simp only[ì,ß,ą,Õ]at a;obtain⟨f,v,st,_,rfl⟩:=a;simp only at b;split at b
  .simp at b
  .split at b
   .simp at b;subst b;exact T7 ft
   .simp only[ø]at b;obtain⟨j,g,rfl⟩:=b;refine T7 λx k=> ?_;simp only[Array.mem_flatten,Array.mem_replicate]at k;obtain⟨l,⟨_,rfl⟩,k⟩:=k;exact(h _ _ _ v g).gX x k
 |pointer e=>
  simp only[ì,ß,ą]at a;let⟨f,v,a⟩:=a;repeat' split at a
  all_goals first
   |(simp at a;done)
   |(simp only[ß,Õ]at a;obtain⟨_,_,rfl⟩:=a;simp only[ō,Õ]at b;subst b;constructor)
 |slice e=>
  simp only[ì,ß,ą,Õ]at a;obtain⟨_,_,_,_,rfl⟩:=a;simp only[ō,Õ]at b;subst b;constructor
 |map k e=>
  simp only[ì,ß,ą,Õ]at a;obtain⟨_,_,_,_,_,_,_,_,rfl⟩:=a;simp only[ō,Õ]at b;subst b;constructor
 |chan k e=>
  simp only[ì,ß,ą,Õ]at a;obtain⟨_,_,_,_,rfl⟩:=a;simp only[ō,Õ]at b;subst b;constructor
 |func k e v=>
  simp only[ì,ß,ą,Õ]at a;obtain⟨_,_,rfl⟩:=a;simp only[ō,Õ]at b;subst b;constructor
 |_=>simp at a
def aaO{T:Tables}(a:∀(t:Nat) (i:Ĳ) (z:Ñ),T.types[t]?=Â i->i.zero=Â z->jU z):∀f,ZP<|ū T f
 |0=>λt i z h=>by simp[ū]at h
 |f+1=>λt i z h b=>by
  unfold ū at h;split at h
  .exact a t i z h b
  .simp only[ß]at h;let⟨d,_,c⟩:=h;exact apt (aaO a f) c b
def apu(a:∀(t:Nat) (i:Ĳ) (z:Ñ),P.types[t]?=Â i->i.zero=Â z->jU z):nV P:=λt i z h b=>by
 have h:P.toTables.info? t=Â i:=h;unfold Tables.info? at h;split at h
 .exact a t i z h b
 .exact aaO a _ t i z h b
end Go.Proofs.Y.Lift
namespace Go.Proofs.Y.fD
open Go Go.Conc Go.Proofs.Y.Lift Go.RowKit Go.Conc.Lib Go.ConcR.Gen
open Go.Proofs Go.Proofs.YtgpphkdoanciiaaGreatDoor
def T8:Ñ->Bool
 |.agg a=>a.toList.all yn
 |v=>yn v
def aaP(h:T8 v=Î):jU v:=by
 cases v with
 |agg b=>exact .oM λi a=>G0<|(ķ.1 h) _<|ò.2<|Ć a
 |_=>exact G0 h
def aaQ:Ñ->Bool
 |ï a=>a.toList.all T8
 |v=>T8 v
def apv(h:aaQ v=Î):jU v:=by
 cases v with
 |tuple b=>exact .nT λi a=>aaP<|(ķ.1 h) _<|ò.2<|Ć a
 |_=>exact aaP h
def F3(i:Ĳ):Bool:=match i.zero with
 |some z=>aaQ z
 |none=>Î
def apw(h:P.types.toList.all F3=Î):nV P:=apu λt i z a b=>by have c:i∈P.types:=Ŀ a;have:=(ķ.1 h) i<|ò.2 c;unfold F3 at this;rw[b]at this;exact apv this
def yh:nV À:=apw fR
end Go.Proofs.Y.fD
namespace Go.Proofs.Y.ml
open Go Go.Conc Go.Proofs Go.RowKit Go.Proofs.Y.Lift Go.Proofs.Y.iE Go.Proofs.Y.fD
noncomputable def nB:Nat:=À.globals.size
def pS(a:Nat->Prop)(b:Nat):Prop:=a b\/b=1\/b=2\/b=3\/b=4
def NG(b:Nat)(e:ė)(w:Í):Prop:=∃c a,w.heap[b]?=Â (Þ c e a)/\a.2<=c.size/\a.2<=16/\0<c.size/\∀v∈c.toList,∃k n,v=Å k n
structure nO(w:Í):Prop where
 fx:nB<=w.heap.size
 M:kG nB (λb=>b=1\/b=2) w
 I:NG 3 304 w
 C:NG 4 305 w
 S:iE.lJ w
 iR:iN w
 N:qK w
section
variable{V:Nat->Prop}
def nO.r{w':Í}(h:nO w)(f:nB<=w'.heap.size)(k:∀b,b=1\/b=2\/b=3\/b=4->w'.heap[b]?=w.heap[b]?):nO w':=by
 have d:∀b o,b=1\/b=2\/b=3\/b=4->w'.cell? ⟨b,o,Á⟩=w.cell? ⟨b,o,Á⟩:=λb o e=>by simp only[ã,k b e]
 refine⟨f,h.M.C λb e=>k b<|e.imp id È,?_,?_,?_,?_,?_⟩
 .let⟨c,i,a,r⟩:=h.I;exact⟨c,i,by rwa[k 3 ft],r⟩
 .let⟨c,i,a,r⟩:=h.C;exact⟨c,i,by rwa[k 4 ft],r⟩
 .have i:=h.S;have r:À.globalNamed "internal/strconv.uint64pow10"=Â 1:=fw
  unfold iE.lJ av ag at*;rw[r]at i|-;simp only[Ķ]at i|-;rwa[k 1 ft]
 .let⟨c,g,a⟩:=h.iR.M;refine⟨⟨c,g,by rwa[k 2 ft]⟩,λi r j=> ?_⟩;rw[d 2 _ ft,d 2 _ ft,d 2 _ ft];exact h.iR.I i r j
 .have:=h.N;unfold qK at*;rw[d 4 _ ft];exact this
def aaR(u:kG nB X w)(x:∀b,X b->lz b=Ë)(g:nO w):My (pS X) (pS X) nB w:=by
 have p:∀{a:Nat->Prop} {c:Array Ñ},(∀b,a b->pS X b)->fT (ll a nB) c c->fT (qB (pS X) nB) c c:=λ{a c} hX r=>r.I<|zR hX;refine⟨?_,g.fx⟩;have s:∀b e,(e=304\/e=305)->lz b=Î->NG b e w->∃c e d,w.heap[b]?=Â (Þ c e d)/\d.2<=c.size/\fT (qB (pS X) nB) c c/\(pS X b->0<c.size/\(lz b=Î->(e=304\/e=305)/\d.2<=16)/\(lz b=Ë->D1 c)):=λb e y B h=>by let⟨c,d,f,j,l,m,o⟩:=h;exact⟨c,e,d,f,j,pR λv i=>by obtain⟨k,n,rfl⟩:=o v i;exact .iK _ _,λ_=>⟨m,λ_=>⟨y,l⟩,λq=>by rw[B]at q;cases q⟩⟩
 rintro b (q|q|q|rfl|rfl)
 .let⟨c,e,d,f,j,l,m,o,_⟩:=u b q;exact⟨c,e,d,f,j,p (λ_=>È) l,λ_=>⟨m,λt=>(by rw[x b q]at t;cases t),λ_=>o⟩⟩
 .let⟨c,e,d,f,j,l,m,o,_⟩:=g.M b<|È q;exact⟨c,e,d,f,j,p (λi k=>k.elim (λz=>Ï<|È z) λz=>Ï<|Ï<|È z) l,λ_=>⟨m,λt=>(by rw[q]at t;cases t),λ_=>o⟩⟩
 .let⟨c,e,d,f,j,l,m,o,_⟩:=g.M b<|Ï q;exact⟨c,e,d,f,j,p (λi k=>k.elim (λz=>Ï<|È z) λz=>Ï<|Ï<|È z) l,λ_=>⟨m,λt=>(by rw[q]at t;cases t),λ_=>o⟩⟩
 .exact s 3 304 (È U) U g.I
 .exact s 4 305 (Ï U) U g.C
def pT(a:lz b=Ë\/i<16)(h:w.cell? ⟨b,i,Á⟩=Â v):(World.tp (lh V w) xQ 0).cell? ⟨b,i,Á⟩=Â v:=by
 have j:(World.tp (lh V w) xQ 0).heap[b]?=(w.heap[b]?).map (pL V b):=Fi b;simp only[ã,j];simp only[ã]at h;cases g:w.heap[b]? with
 |none=>rw[g]at h;cases h
 |some k=>
  rw[g]at h;cases k with
  |cells c e m=>
   simp only[þ,pL,ü,ð,if_false]at h|-;split
   .rename_i d;split at d
    .split at d
     .rename_i l;cases d;rcases a with a|a
      .rw[l]at a;cases a
      .unfold uN;rw[Array.getElem?_extract];simp;exact⟨by have:=(Ù.1 h).1;omega,h⟩
     .cases d;exact h
    .cases d;exact h
   .rename_i f;split at f
    .split at f<;>exact absurd U<|f _ _ _
    .exact absurd U<|f _ _ _
  |_=>cases h
def aaS{T:ž}(d:kG nB X w)(e:∀b,X b->lz b=Ë):iY (ll X nB) w (World.tp (lh V w) T 0):=by rintro i j o v ⟨rfl,a⟩ c;exact⟨v,pT (È<|e i a) c,d.r a c⟩
end
def RD(s:List fP)(b:Ñ)(a:Nat->Prop)(w:Í):Prop:=∃c,kh c=s/\lB s/\Nf b c w/\kG nB a w/\fq (ll a nB) b b
section
variable{V:Nat->Prop}{s:List fP}
def aaT(h:kG nB X w)(k:∀b,X b->u.heap[b]?=w.heap[b]?):iY (ll X nB) w u:=by rintro i j o v ⟨rfl,a⟩ c;exact⟨v,by simp only[ã,k i a];exact c,h.r a c⟩
def RD.r(h:RD s v X w)(k:∀b,X b->u.heap[b]?=w.heap[b]?):RD s v X u:=by let⟨l,d,e,f,a,c⟩:=h;let⟨g,i,j⟩:=Jv (aaT a k) c f;exact⟨g,i.trans d,e,j,a.C k,c⟩
def Jy(r:Nat)(q:Qn)(w:Í):Prop:=pQ r q.x q.y q.g q.k q.r q.v q.C q.I w
def aaU{ρ:fv}(a:iY ρ u w){r:Nat}{q:Qn}(b:ρ r i)(h:Jy r q u):Jy i q w:= ⟨a.r b h.I,a.r b h.S,a.r b h.a,a.r b h.Y,a.r b h.N,a.r b h.M,a.r b h.c,a.r b h.b⟩
def apx{T:ž}(g:nO w):iE.lJ (World.tp (lh V w) T 0):=by
 have a:=g.S;have h:À.globalNamed "internal/strconv.uint64pow10"=Â 1:=fw
 unfold iE.lJ av ag at*;rw[h]at a|-;simp only[Ķ]at a|-;have i:(World.tp (lh V w) T 0).heap[1]?=(w.heap[1]?).map (pL V 1):=Fi 1;rw[i];cases f:w.heap[1]? with
 |none=>rw[f]at a;cases a
 |some j=>
  rw[f]at a;cases j with
  |cells c e k=>
   simp only[þ,pL,lz]at a|-;split
   .rename_i b;split at b<;>(simp at b;obtain⟨rfl,_⟩:=b;exact a)
   .rename_i d;split at d
    .exact absurd U<|d _ _ _
    .exact absurd U<|d _ _ _
  |_=>cases a
def aaV{T:ž}(g:nO w):iN (World.tp (lh V w) T 0):=by
 let⟨d,h,e⟩:=g.iR.M;refine⟨?_,λi r f=> ?_⟩
 .have a:(World.tp (lh V w) T 0).heap[2]?=(w.heap[2]?).map (pL V 2):=Fi 2;rw[a,e];simp only[þ,pL,lz];split
  .exact⟨d,_,U⟩
  .exact⟨d,_,U⟩
 .let⟨a,b,c⟩:=g.iR.I i r f;exact⟨pT (È U) a,pT (È U) b,pT (È U) c⟩
def apy{T:ž}(g:nO w):qK (World.tp (lh V w) T 0):=pT (Ï A) g.N
def F4{T:ž}:kl (World.tp (lh V w) T 0):=λi o h=>ZU (Sh:=V) (w:=w) i o h
def apz{l:fh}{q:Qn}{r:Nat}(x:RD s v X l.w)(y:∀b,X b->l.M b)(z:kG nB V l.w)(B:∀b,V b->l.M b)(h:V r)(D:Jy r q l.w)(ok:q.Ok)(g:nO l.w)(E:∀b,b=1\/b=2\/b=3\/b=4->l.M b)(j:∀b,X b\/V b->lz b=Ë)(m:List (Nat×fP))(F:kh m=s): Fo (λg=>xw g=Î) 67 #[v,Ã<|Â ⟨r,0,Á⟩] l (pS λb=>X b\/V b) λe _=>e=Ä (vZ m q):=by
 let⟨L,c,d,G,H,o⟩:=x;have t:=H.I z;refine⟨?_,aaR t j g,?_,?_,λT=> ?_⟩
 .rintro b (q|q)
  .exact q.elim (y b)<|B b
  .exact E b q
 .intro b a;unfold xw at a;simp at a;exact Ï a
 .refine pR λe a=> ?_;simp at a;rcases a with rfl|rfl
  .exact o.fQ<|zR λi k=>È<|È k
  .exact fq.jZ (ρ:=qB (pS λb=>X b\/V b) nB) ⟨⟨U,È<|Ï h⟩,U,U⟩
 .have a:=aaS (V:=pS λb=>X b\/V b) (T:=T) t j;obtain⟨I,f,N,n,J,rfl,O,u⟩:=Jv a (o.fQ<|zR λi k=>È k) G;have i:n=(kh I).length:=by rw[u.r];simp[kh]
  have P:=d.I;have Q:=d.r;rw[f,c]at i;have C:=apb (cp:=J) u Z Z (λp K=> ?_) (aaU a ⟨U,Ï h⟩ D) ok (aaV g) (apx g)<|apy g
  .apply C.mono;rintro e W ⟨rfl,k⟩;exact⟨by rw[ape<|f.trans<|c.trans F.symm],k.gX F4⟩
  .have:p.2∈s:=by rw[<-c,<-f];exact Ý.2 ⟨p,K,U⟩
   exact(d.C _ this).1
end
def Dx(r:Nat)(v:Int)(x:Nat)(c:List Tx)(w:Í):Prop:=∃a n d b,Dq r v x a n d w/\Dg a n b w/\lI b=c/\n<=1000
section
variable{V:Nat->Prop}{s:List fP}
def aaW(h:kG nB X w):∀i,X i->i<w.heap.size:=λi a=>by let⟨c,e,d,b,_⟩:=h i a;exact(Ù.1 b).1
def aaX{T:ž}(f:lz b=Ë)(h:w.heap[b]?=Â (Þ d e xJ))(g:xJ.2<=d.size):∃a,(World.tp (lh V w) T 0).heap[b]?=Â (Þ d e a)/\a.2<=d.size:=by
 have i:(World.tp (lh V w) T 0).heap[b]?=(w.heap[b]?).map (pL V b):=Fi b;rw[i,h];simp only[þ,pL,f,ð,if_false];split
 .exact⟨_,U,â _⟩
 .exact⟨_,U,g⟩
def apA{T:ž}(h:kG nB X w)(d:∀b,X b->lz b=Ë):kG nB X (World.tp (lh V w) T 0):=λb a=>by let⟨c,e,m,f,g,i⟩:=h b a;let⟨j,k,l⟩:=aaX (V:=V) (T:=T) (d b a) f g;exact⟨c,e,j,k,l,i⟩
def apB{T:ž}(k:kG nB X w)(l:∀b,X b->lz b=Ë){r:Nat}{v:Int}{o:List Tx}(p:X r)(h:Dx r v i o w):Dx r v i o (World.tp (lh V w) T 0):=by
 let⟨E,n,F,G,g,s,H,I⟩:=h;have m:=l r p;refine⟨E,n,F,G,⟨pT (È m) g.M,pT (È m) g.N,pT (È m) g.I⟩,⟨s.r,λj a t q=> ?_⟩,H,I⟩;let⟨tb,J,u,y,d,K⟩:=s.C j a t q;have z:X tb:=by have:=k.r p g.I;rw[u]at this;exact Dw this
 have B:=Dv<|k.r z y;have f:=l a B;let⟨L,P,C⟩:=d.b;let⟨c,e,Q,D,M,_⟩:=k a B;rw[C]at D;cases D;obtain⟨N,O,_⟩:=aaX f C M;exact⟨tb,J,u,pT (È<|l tb z) y,⟨⟨L,N,O⟩,pT (È f) d.r,pT (È f) d.C,pT (È f) d.I,pT (È f) d.M,pT (È f) d.Y,pT (È f) d.N⟩,K⟩
def Rg(s:List fP)(v:Ñ)(u:Í):Prop:=∃X,RD s v X u
def Rg.tp{T:ž}(h:Rg s v w):Rg s v (World.tp w T n):=by let⟨X,h⟩:=h;exact⟨X,h.r λ_ _=>rfl⟩
def apC{ρ:fv}{d:Nat->Prop}(h:rK ρ d u w)(a:fq ρ v x)(e:Rg s v u):∃c,RD s x c w/\∀b,c b->∃i,ρ i b:=by let⟨X,f⟩:=e;have g:RD s v X {u with tape:=w.tape,drawn:=w.drawn}:=f.r λ_ _=>rfl;let⟨t,j,k,l,m,n⟩:=g;let⟨o,p,q⟩:=Jv (zU h) a l;exact⟨_,⟨o,p.trans j,k,q,T5 h m,ND a n⟩,λb ⟨i,_,r⟩=>⟨i,r⟩⟩
def apD{l:fh}{r:Nat}{f:List Tx}(hRD:RD s v X l.w)(hU:∀b,X b->l.M b)(O:kG nB V l.w)(hV:∀b,V b->l.M b)(P:V r)(hq:Dx r h m f l.w)(hx:m<8)(B:-1<=h)(T9:∀t∈f,t.Ok)(hn:f.length<=1000)(g:nO l.w)(hG:∀b,b=1\/b=2\/b=3\/b=4->l.M b)(D:∀b,X b\/V b->lz b=Ë)(E:List (Nat×fP))(J:kh E=s): Fo (λg=>xw g=Î) 66 #[v,Ã<|Â ⟨r,0,Á⟩] l (pS λb=>X b\/V b) λz u=>∃p n c,z=ï #[Æ p n c,Ä (tH E h m f).2]/\Rg (tL E h m f) (Æ p n c) u:=by
 let⟨vs,h1,F,h3,Q,o⟩:=hRD;have W:=Q.I O;refine⟨?_,aaR W D g,?_,?_,λT=> ?_⟩
 .rintro b (q|q)
  .exact q.elim (hU b)<|hV b
  .exact hG b q
 .intro b z;unfold xw at z;simp at z;exact Ï z
 .refine pR λh B=> ?_;simp at B;rcases B with rfl|rfl
  .exact o.fQ<|zR λi j=>È<|È j
  .exact fq.jZ (ρ:=qB (pS λb=>X b\/V b) nB) ⟨⟨U,È<|Ï P⟩,U,U⟩
 .have c:=aaS (V:=pS λb=>X b\/V b) (T:=T) W D;have Sd:=apB (V:=pS λb=>X b\/V b) (T:=T) O (λb q=>D b<|Ï q) P hq;have y:=apA (V:=pS λb=>X b\/V b) (T:=T) Q λb q=>D b<|È q;obtain⟨a,k1,Y,n,cp,rfl,hcp,H⟩:=Jv c (o.fQ<|zR λi j=>È j) h3;obtain⟨tp,tn,tc,d,q1,q2,rfl,q4⟩:=Sd;have u:=k1.trans h1;have hlen:n=s.length:=by rw[H.r,<-u];simp[kh]
  have atG:=F.I;have hle:=F.r;have qZ:kl (World.tp (lh (pS λb=>X b\/V b) l.w) T 0):=F4;have C:=anI H Z Z hcp (λp K=>by
   have:p.2∈s:=by rw[<-u];exact Ý.2 ⟨p,K,U⟩
   have:=(F.C _ this).2.2.2;omega) q1 q2 q4 (aaV g) hx B
  have z:tL a h m (lI d)=tL E h m (lI d):=by unfold tL;rw[aaJ<|u.trans J.symm,u,J]
  have I:lB (tL a h m<|lI d):=lB.M (by rwa[u]) T9 hn;have ha:=aaJ (u.trans J.symm) h m<|lI d;generalize World.tp (lh (pS λb=>X b\/V b) l.w) T 0=G at*;refine C.mono ?_;rintro e u' ⟨k,hA⟩;rcases hA with⟨L,rfl⟩|⟨nv,b,tB,L,rfl,e3,e4,gb,gn,gc,rfl,e6⟩
  .refine⟨⟨Y,n,cp,by rw[ha],?_⟩,k.gX qZ⟩;rw[<-z];have N:tL a h m (lI d)=s:=by unfold tL;rw[L,u];simp
   rw[N]at I|-;exact⟨X,a,u,I,⟨Y,n,cp,U,hcp,H.I k⟩,y.C λi j=>k.N i (aaW y i j) id,o⟩
  .let⟨i,m1,m2,m3,_⟩:=apq y k (aaW y) e4 e6 λp K=>by
    let⟨j,hj⟩:=Ġ K;let⟨sb,so,f1,f2,_⟩:=H.C j p.1 p.2 hj;have:X sb:=by rw[f1]at o;exact Dw o
    exact Dv<|y.r this f2
   refine⟨⟨Â ⟨gb,0,Á⟩,gn,gc,by rw[ha],?_⟩,k.gX qZ⟩;rw[<-z];have N:tL a h m (lI d)=kh (a++[(b,nv)]):=by unfold tL;rw[L];simp[kh]
   rw[N]at I|-;exact⟨i,_,U,I,e3,m3,fq.kT (ρ:=ll i nB) ⟨⟨U,m2⟩,U,U⟩ gn gc⟩
end
structure we where
 r:Nat->Int×Nat×List Tx
 C:Nat->Qn
def xS(s:List fP):List (Nat×fP):=s.map λv=>(0,v)
def NH(s:List fP):kh (xS s)=s:=by simp[kh,xS,Function.comp_def]
def F5(s:List fP)(i:Int×Nat×List Tx):List fP:=tL (xS s) i.1 i.2.1 i.2.2
def pU(a:we)(I:List Nat)(b:List fP):Nat->List fP
 |0=>b
 |k+1=>F5 (pU a I b k)<|a.r<|I.getD k 0
def xT(a:we)(kd:Nat->Int)(p:Nat)(s:List fP):ByteArray:=if kd p=1 then(tH (xS s) (a.r p).1 (a.r p).2.1 (a.r p).2.2).2 else vZ (xS s) (a.C p)
def iC(e:fh)(a:Nat->Prop)(c:we)(kd:Nat->Int)(R:Nat)(d:List fP)(f:Nat->Prop):xv where
 γ:=List fP
 C:=d
 M:=λk s g=>g=F5 s (c.r<|(ic kd R).getD k 0)
 RD:=λs h V w=>RD s h V w/\∀b,V b->a b\/e.w.heap.size<=b
 I:=λp=>xT c kd p<|pU c (ic kd R) d<|fO kd p
 r:=f
def Ua{kd:Nat->Int}:∀(R k:Nat),k<(ic kd R).length->fO kd ((ic kd R).getD k 0)=k
 |0,k,h=>by simp[ic]at h
 |R+1,k,h=>by
  by_cases q:kd R=1
  .rw[tA q]at h|-;rcases Ĕ k (ic kd R).length with z|z
   .have e:(ic kd R++[R]).getD k 0=(ic kd R).getD k 0:=by simp[ď,ċ z]
    rw[e];exact Ua R k z
   .have e:k=(ic kd R).length:=by simp at h;omega
    subst e;simp[ď,fO]
  .rw[vN q]at h|-;exact Ua R k h
section
variable{y:Nat->Prop}
def NJ(h:kG nB y w)(g:nO w):∀b,y b->lz b=Ë:=λb i=>by
 let⟨c,e,m,f,_,_,_,_,j,k⟩:=h b i;cases d:lz b with
 |false=>rfl
 |true=>
  unfold lz at d;simp at d;rcases d with rfl|rfl
  .let⟨l,p9,a,_⟩:=g.I;rw[f]at a;cases a;exact absurd U j
  .let⟨l,p9,a,_⟩:=g.C;rw[f]at a;cases a;exact absurd U k
def apE(p:kG nB X w)(k:∀b,X b->u.heap[b]?=w.heap[b]?){r:Nat}{s:List Tx}(g:X r)(h:Dx r c i s w):Dx r c i s u:=by
 have d:∀{b o:Nat} {z:Ñ},X b->w.cell? ⟨b,o,Á⟩=Â z->u.cell? ⟨b,o,Á⟩=Â z:=λ{b o z} l q=>by simp only[ã,k b l];exact q
 let⟨D,n,E,F,m,y,G,H⟩:=h;refine⟨D,n,E,F,⟨d g m.M,d g m.N,d g m.I⟩,⟨y.r,λj a t q=> ?_⟩,G,H⟩;let⟨tb,I,B,C,e,J⟩:=y.C j a t q;have l:X tb:=by have:=p.r g m.I;rw[B]at this;exact Dw this
 have f:=Dv<|p.r l C;let⟨K,L,M⟩:=e.b;exact⟨tb,I,B,d l C,⟨⟨K,L,by rwa[k a f]⟩,d f e.r,d f e.C,d f e.I,d f e.M,d f e.Y,d f e.N⟩,J⟩
end
structure Jz(l0:fh)(bt:we)(kd:Nat->Int)(rq:Nat->Nat)(R:Nat)(Q:Nat->Prop):Prop where
 M:nO l0.w
 I:∀b,b=1\/b=2\/b=3\/b=4->l0.O b
 C:kG nB Q l0.w
 fu:∀b,Q b->l0.O b
 r:∀p,p<R->Q (rq p)
 kJ:∀p,p<R->kd p=1->Dx (rq p) (bt.r p).1 (bt.r p).2.1 (bt.r p).2.2 l0.w/\(bt.r p).2.1<8/\-1<=(bt.r p).1/\(∀t∈(bt.r p).2.2,t.Ok)/\(bt.r p).2.2.length<=1000
 Sj:∀p,p<R->kd p≠1->Jy (rq p) (bt.C p) l0.w/\(bt.C p).Ok
def aaY{V:Nat->Prop}{l:fh}{a:Ñ->Í->Prop}(h:Fo X F d l V vQ)(b:∀v u,vQ v u->a v u):Fo X F d l V a:= ⟨h.N,h.S,h.I,h.r,λT=>(h.C T).mono λe u q=>by
  cases e with
  |returned v=>exact⟨b v u q.1,q.2⟩
  |_=>exact q⟩
section
variable{l0:fh}{bt:we}{kd:Nat->Int}{rq:Nat->Nat}{R:Nat}{Q C d:Nat->Prop}{B:List fP}{E F:Option ý}
def aaZ{s:List fP}(h:fD.nA ((kE (iC l0 d bt kd R B C) i n R kd rq D E F j9 j7 k m J j qX l0).r À) b s):s=pU bt (ic kd R) B b:=by
 have c:∀(b:Nat) (s:((kE (iC l0 d bt kd R B C) i n R kd rq D E F j9 j7 k m J j qX l0).r À).γ),fD.nA ((kE (iC l0 d bt kd R B C) i n R kd rq D E F j9 j7 k m J j qX l0).r À) b s->s=pU bt (ic kd R) B b:=λb s h=>by
  induction h with
  |vp=>rfl
  |El _ a e=>
   rwa[e]at a
 exact c b s h
def apF(h:Jz l0 bt kd rq R Q)(O:l0.w.heap.size<=m):Ff (kE (iC l0 d bt kd R B C) i n R kd rq D E F j9 j7 k m J j qX l0):=by
 apply ako yh Z0 ZZ U;intro a s P W l q t f x y T g G;let⟨f,V⟩:=f;have X:=y.fx m<|g m<|Ï U;have H:l0.w.heap.size<=l.w.heap.size:=Z
 have o:=G;have p:=h.M.r (Ì h.M.fx H) λb c=>o b<|h.I b c;have r:=h.C.C λb c=>o b<|h.fu b c;have e:=IK<|vS q;let⟨I,K⟩:=h.Sj _ e.1 e.2;have L:=aaU (aaT h.C λb c=>o b<|h.fu b c) ⟨U,h.r _ e.1⟩ I;refine⟨_,aaY (apz f x r (λb c=>g b<|È<|h.fu b c) (h.r _ e.1) L K p (λb c=>g b<|È<|h.I b c) (λb c=>c.elim (NJ (by let⟨_,_,_,_,z,_⟩:=f;exact z) p b)<|NJ r p b) (xS s)<|NH s) λv u M=> ?_⟩;rw[M];have z:=aaZ t;have N:(kE (iC l0 d bt kd R B C) i n R kd rq D E F j9 j7 k m J j qX l0).b a=fO kd ((jC kd R).getD a 0):=if_pos q;rw[N]at z;show _=Ä (xT bt kd ((jC kd R).getD a 0)<|pU bt (ic kd R) B<|fO kd<|(jC kd R).getD a 0);rw[<-z];unfold xT;rw[if_neg e.2]
def apG(h:Jz l0 bt kd rq R Q)(y:(∀b,Q b->d b)/\∀b,b=1\/b=2\/b=3\/b=4->d b)(Zn:l0.w.heap.size<=m):Fe (kE (iC l0 d bt kd R B C) i n R kd rq D E F j9 j7 k m J j qX l0):=by
 refine akp yh Z0 ZZ U (λs o u=>Rg s o u) (λs o u T n q=>Rg.tp q) ?_;intro T s o W l K L g M N hq r O;let⟨g,P⟩:=g;have hs:=N.fx m<|r m<|Ï U;have G:l0.w.heap.size<=l.w.heap.size:=Z
 have t:=O;have x:=h.M.r (Ì h.M.fx G) λb a=>t b<|h.I b a;have H:=h.C.C λb a=>t b<|h.fu b a;have I:=K;have f:=IJ<|vS I;let⟨V,X,Y,q4,q5⟩:=h.kJ _ f.1 f.2;have rS:=apE h.C (λb a=>t b<|h.fu b a) (h.r _ f.1) V;have lQ:=aaZ L;refine⟨_,aaY (apD g M H (λb a=>r b<|È<|h.fu b a) (h.r _ f.1) rS X Y q4 q5 x (λb a=>r b<|È<|h.I b a) (λb a=>a.elim (NJ (by let⟨_,_,_,_,z,_⟩:=g;exact z) x b)<|NJ H x b) (xS s)<|NH s) λv u hv=> ?_,?_⟩
 .obtain⟨p,z,c,rfl,hR⟩:=hv;refine⟨p,z,c,F5 s<|bt.r<|(ic kd R).getD T 0,?_,U,hR⟩;have e:(kE (iC l0 d bt kd R B C) i n R kd rq D E F j9 j7 k m J j qX l0).d (T+1)=xT bt kd ((ic kd R).getD T 0) (pU bt (ic kd R) B<|fO kd<|(ic kd R).getD T 0):=U;rw[e,Ua R T I,<-lQ];unfold xT;rw[if_pos f.2]
 .intro ρ Sh u w s' ZO zm e p h3 h4;let⟨V',k1,c⟩:=apC e p h3;refine⟨V',⟨k1,λb a=> ?_⟩,c⟩;let⟨z,hi⟩:=c b a;rcases h4 z b hi with((q|q)|q)|q
  .exact P b q
  .exact È<|y.1 b q
  .exact È<|y.2 b q
  .exact Ï<|Ì G q
end
section
variable{R:Nat}{kd:Nat->Int}{o:Nat->Nat}{r:List Ę}{l:fh}{u:Nat->fh}{bt:we}{j f:Nat->Prop}{s0:List fP}
def apH{s:List fP}(h:zn (iC l f bt kd R s0 j) k s):s=pU bt (ic kd R) s0 k:=by
 have b:∀(k:Nat) (s:(iC l f bt kd R s0 j).γ),zn (iC l f bt kd R s0 j) k s->s=pU bt (ic kd R) s0 k:=λk s h=>by
  induction h with
  |vp=>rfl
  |El _ a c=>
   rwa[c]at a
 exact b k s h
structure zV(f:Nat->Prop)(bt:we)(R:Nat)(kd:Nat->Int)(s0:List fP)(l:fh)(an:Nat)(sl:Ñ)(l':fh):Prop where
 M:∀b,l.O b->l'.O b/\l'.w.heap[b]?=l.w.heap[b]?
 r:l'.O an/\∀p,p<R->l'.w.cell? ⟨an,p,Á⟩=Â (Ä<|xT bt kd p<|pU bt (ic kd R) s0<|fO kd p)
 Y:∃V,RD (pU bt (ic kd R) s0<|fO kd R) sl V l'.w/\∀b,V b->l'.O b/\(f b\/l.w.heap.size<=b)
 d:l'.d=0
 q:¬l'.q
 S:∀b,¬l'.I b
 C:(∀a,¬l'.r a)/\(∀a,¬l'.N a)/\∀a,¬l'.K a
 I:l'.w.cell? ⟨an,R,Á⟩=Á/\kU l'.w an=Â (0,0)
def apI{a:fh}(h:GX (iC l f bt kd R s0 j) R kd l i v a):zV f bt R kd s0 l i v a:=by let⟨s,V,g,c,k⟩:=h.IL;have e:=apH g;subst e;exact⟨h.vv,h.kB,⟨V,c.1,λb q=>⟨k b q,c.2 b q⟩⟩,h.d,h.q,h.rd,h.Fg,h.D4⟩
def apJ{J:(Loc->Prop)->Nat->Jd}{F:Ę}(P:qX=F.at y (Ð Q (j9::jJ)::L)::r)(c:fD.si À zX i (Mq kd o R n v l qX) .fF D u E w qJ)(C:Option (Nat×Nat))(s:gB l)(W:∀b,¬l.I b)(Y:¬l.q)(hd:l.d=0)(NK:vT zX i l)(H:Jz l bt kd o R X)(hZ:(∀b,X b->f b)/\∀b,b=1\/b=2\/b=3\/b=4->f b)(I:∀b,f b->l.O b)(K:∀b,j b->f b)(C5:RD s0 v j l.w)(xt:w.os=l.w.os/\w.output=l.w.output)(hn:1<=n)(hs:n+R<1000) (hJ:∀t x z B p m c,vT t x z->gB z->zV f bt R kd s0 l B (Æ p m c) z->fD.fp À Î (J t x) z (G (F.at (y.put ((Q[j9]?).bind (·.dst))<|ï #[Æ (Â ⟨B,0,Á⟩) R R,Æ p m c])<|Ð Q jJ::L) r)): ∃N t x T V IN g e tB h,Η À N (ĸ E w C) qJ=(.next<|ĸ g e tB,h)/\(e.os=l.w.os/\e.output=l.w.output)/\fD.si À t x (J t x) T V IN g e h:= akh (M:=iC l f bt kd R s0 j) P c C s W Y hd NK (λb q=>I b<|K b q) (λs C V w e h L=>⟨h.1.r L,h.2⟩) (λs C V w h=>⟨by let⟨_,_,_,⟨g,n,N,e,_⟩,_⟩:=h.1;exact⟨g,n,N,e⟩,λb q=>(h.2 b q).imp (I b) id⟩) ⟨C5,λb h=>È<|K b h⟩ xt hn hs (λg N V T cq B ba bi all e=>⟨apG H hZ e,apF H e⟩) λt x z B p m c e g N=>hJ t x z B p m c e g<|apI N
end
end Go.Proofs.Y.ml
namespace Go.Proofs.Y.tM
open Go Go.Proofs Go.RowKit Go.Proofs.Y.Lift Go.Proofs.Y.iE
def iX(c:Int):Bool:=decide (48<=c)&&decide (c<=57)
def sE(c:Int):Bool:=decide (97<=c)&&decide (c<=104)
def uX(c:Int):Int:=
 if c=105 then 1 else if c=103 then 2 else if c=98 then 3 else if c=99 then 4 else if c=109 then 5
 else if c=114 then 6 else if c=108 then 7 else if c=117 then 8 else if c=100 then 9 else 0
def JA(c:Int):Int:=if c=62 then 1 else if c=123 then 2 else if c=58 then 3 else 0
def apK(h:48<=c/\c<=57):iX c=Î:=by simp[iX,h]
def F6(c:Int):iX c=Î↔(48<=c/\c<=57):=by simp[iX]
def apL(c:Int):sE c=Î↔(97<=c/\c<=104):=by simp[sE]
def rB(k:Int):List Int:=
 if k=1 then[86,58,120,47,66]else if k=2 then[86,58,120,115]else if k=3 then[86,58,120]
 else if k=4 then[86,58,120,62,121,40,110,44,107,41]else if k=5 then[86,58,120,62,121,40,107,41]
 else if k=9 then[86,58,87]else[86]
def sF(k:Int):List Int:=
 if k=1 then[121,61,110]else if k=2 then[80]else[121,40,110,44,107,41]
def pf(a c:Int):Bool:=
 if a=86\/a=87 then c==104||iX c
 else if a=110\/a=107 then iX c
 else if a=120\/a=121 then sE c
 else if a=115 then iX c||(decide (97<=c)&&decide (c<=102))
 else c==a
def sG(a c:Int):Int:=
 if c=48\/iX c=Ë then 0
 else if a=86\/a=87 then 1
 else if a=110\/a=107 then 5
 else 0
def jY(s:ByteArray):List Int:=s.data.toList.map λc=>((c.toNat:Nat):Int)
def apM(B:ByteArray)(k:Nat)(h:k<B.size):(jY B).drop k=((B[k].toNat:Nat):Int)::(jY B).drop (k+1):=by
 have a:k<(jY B).length:=by simpa[jY]using h
 rw[List.drop_eq_getElem_cons a];congr 1;simp[jY,Ē]
def Ub(B:ByteArray):(jY B).length=B.size:=by unfold jY;rw[í,Č];rfl
def wh(s:ByteArray)(h:0<s.size):jY s=((s[0].toNat:Nat):Int)::(jY s).tail:=by have:=apM s 0 h;rw[List.drop_zero]at this;rw[this];simp
def aa0(s:ByteArray)(h:s.size=0):jY s=[]:=by apply Ó;rw[Ub,h]
def apN(s:ByteArray):jY (s.extract 1 s.size)=(jY s).tail:=by unfold jY;rw[Ļ,ń,<-List.map_tail];congr 1;rw[İ,<-List.drop_one];apply List.take_of_length_le;simp[<-ω]
def apO(s:ByteArray)(h:s.size<=10):(s.extract 1 s.size).size<=10:=by rw[ĕ];omega
def apP(a c:Int):0<=sG a c/\sG a c<=5:=by
 unfold sG;split
 .omega
 .split
  .omega
  .split<;>omega
structure PT where
 c:List Int
 p:ByteArray
structure PR where
 c:List Int
 r:List PT
structure PD where
 Y:List PR
 r:Bool
 N:PR
 I:Bool
 M:PT
structure PS where
 C:List Int
 r:Int
 I:Int
 M:Int
 d:PD
namespace PD
def S(d:PD):List PT:=if d.I then d.N.r++[d.M]else d.N.r
def C(d:PD):List PR:=if d.r then d.Y++[⟨d.N.c,d.S⟩]else d.Y
def pg(d:PD)(i:Nat)(z:Int):PD:={d with N:={d.N with c:=d.N.c.set i z}}
def pV(d:PD)(i:Nat)(z:Int):PD:={d with M:={d.M with c:=d.M.c.set i z}}
def jF(d:PD)(i:Nat)(z:Int):PD:=if d.I then d.pV i z else d.pg i z
def pj(d:PD)(p:ByteArray):PD:={d with M:={d.M with p:=p}}
def F3:PT:=⟨[0,0,0,0,0],⟨#[]⟩⟩
def aa1(k:Int):PR:=⟨[0,0,0,0,k,0,0,0],[]⟩
def nP(d:PD):PD:={d with N:=⟨d.N.c,d.S⟩,I:=Î,M:=F3}
def F7(d:PD)(k:Int):PD:={Y:=d.C,r:=Î,N:=aa1 k,I:=Ë,M:=d.M}
def gh(d:PD)(a z:Int):PD:=
 if a=86 then d.pg 5 z else if a=87 then d.pg 6 z else if a=120 then d.jF 0 z else if a=121 then d.jF 1 z
 else if a=110 then d.jF 2 z else if a=107 then d.jF 3 z else if a=115 then d.pg 7 z else d
def wi(d:PD)(i:Nat):Int:=if d.I then d.M.c.getD i 0 else d.N.c.getD i 0
def G(d:PD)(a:Int):Int:=if a=86 then d.N.c.getD 5 0 else if a=87 then d.N.c.getD 6 0 else if a=110 then d.wi 2 else d.wi 3
end PD
def ow(a c:Int):Int:=
 if a=120\/a=121 then á [97,98,99,100,101,102,103,104] c.toNat.toUInt8
 else if a=115 then á [48,49,50,51,52,53,54,55,56,57,97,98,99,100,101,102] c.toNat.toUInt8
 else if c=104 then-1 else(c-48)%256
def tN(z c:Int):Int:=É.wrap<|É.wrap (z*10)+(c-48)%256
def pW(st:PS)(c:Int):Option PS:=
 if c=59/\st.d.Y.length+1<24 then Â {st with C:=[82]}
 else if c=44/\0<st.d.S.length/\st.d.S.length<8 then Â {st with C:=[120,84],d:=st.d.nP}
 else Á
def wj(st:PS)(k:Int):Option PS:=if k=0 then Á else Â {st with C:=rB k,d:=st.d.F7 k}
def wm(st:PS)(k:Int):Option PS:=if k=0 then Á else Â {st with C:=sF k,I:=0,d:=st.d.pV 4 k}
def oJ(st:PS)(a c:Int):PS:={st with r:=sG a c,M:=a,d:=st.d.gh a (ow a c)}
def kQ(B:ByteArray)(k:Nat)(st:PS)(c:Int):Option PS:=
 match st.C with
 |[]=>pW st c
 |want::tl=>
  if want=82 then wj st (uX c)
  else if want=66 then
   if sE c=Î then Â (oJ {st with C:=[84],d:=st.d.nP} 120 c)else pW st c
  else if want=84 then wm st (JA c)
  else if want=80 then
   if c=125 then Â {st with C:=tl,d:=st.d.pj (B.extract (k-st.I.toNat) k)}
   else if st.I=40\/lH c=0 then Á else Â {st with I:=st.I+1}
  else if pf want c=Î then Â {oJ st want c with C:=tl}
  else Á
def F8(st:PS)(c:Int):PS:={st with r:=st.r-1,d:=st.d.gh st.M (tN (st.d.G st.M) c)}
def nQ(B:ByteArray)(k:Nat)(st:PS)(c:Int):Option PS:=
 if 0<st.r/\iX c=Î then Â (F8 st c)else kQ B k {st with r:=0} c
def oK(B:ByteArray):Nat->Nat->PS->Nat×PS
 |0,k,st=>(k,st)
 |f+1,k,st=>if h:k<B.size then match nQ B k st (B[k].toNat:Int)with
  |none=>(k,st)
  |some a=>oK B f (k+1) a
  else(k,st)
def pd0:PD:=⟨[],Ë,⟨[],[]⟩,Ë,⟨[],⟨#[]⟩⟩⟩
def ng:PS:=⟨[82],0,0,0,pd0⟩
def sH(c:Int)(w:Í): Ò À 94 #[Å Ų c] w λe a=>e=Ç (û<|iX c)/\a=w:=by
 go_enter Tryz.func94,Tryz.ntmps94;go_wp2;all_goals go_ret
 all_goals exact⟨Z5 (by simp only[iX];first|(simp[*];done)|(rw[ģ];simp;omega)),U⟩
def apQ(s:ByteArray)(c:Int)(w:Í): Ò À 167 #[Ä s,Å Ų c] w λe a=>e=Ç (Å É<|á s.data.toList c.toNat.toUInt8)/\a=w:=by go_enter Tryz.func167,Tryz.ntmps167;go_wp2;rw[run_callFunc_extern Tryz.func185 fw fw fw fw,Lib.run_indexByteString];simp only[ź];rw[Oper.upon_value];go_wp2;go_ret;exact⟨U,U⟩
def JB(s:ByteArray)(c:Int)(w:Í): Ò À 146 #[Ä s,Å Ų c] w λe a=>e=Ç (Å É<|á s.data.toList c.toNat.toUInt8)/\a=w:=by go_enter Tryz.func146,Tryz.ntmps146;go_wp2_with (go_at_call 167;refine(apQ _ _ _).mono ?_;rintro e a ⟨rfl,rfl⟩);go_ret;exact⟨U,U⟩
def NL(c:Int):Bool:=iX c||(decide (97<=c)&&decide (c<=102))
def apR:∀n:Fin 256,decide (0<=á [97,98,99,100,101,102,103,104] n.val.toUInt8)=sE (n.val:Int):=by decide+kernel
def apS:∀n:Fin 256,decide (0<=á [48,49,50,51,52,53,54,55,56,57,97,98,99,100,101,102] n.val.toUInt8)=NL (n.val:Int):=by decide+kernel
def apT(a:0<=c)(b:c<256):decide (0<=á [97,98,99,100,101,102,103,104] c.toNat.toUInt8)=sE c:=by have:=apR ⟨c.toNat,Z⟩;rwa[show((c.toNat:Nat):Int)=c from by omega]at this
def apU(a:0<=c)(b:c<256):decide (0<=á [48,49,50,51,52,53,54,55,56,57,97,98,99,100,101,102] c.toNat.toUInt8)=NL c:=by have:=apS ⟨c.toNat,Z⟩;rwa[show((c.toNat:Nat):Int)=c from by omega]at this
def Uc(c:Int)(b:0<=c)(d:c<256)(w:Í): Ò À 98 #[Å Ų c] w λe a=>e=Ç (û<|sE c)/\a=w:=by
 have f:=apT b d;go_enter Tryz.func98,Tryz.ntmps98;go_wp2_with (go_at_call 146;refine(JB _ _ _).mono ?_;rintro e a ⟨rfl,rfl⟩);all_goals go_ret
 all_goals exact⟨U,U⟩
def apV(c:Int)(b:0<=c)(d:c<256)(w:Í): Ò À 149 #[Å Ų c] w λe a=>e=Ç (û<|NL c)/\a=w:=by
 have f:=apU b d;go_enter Tryz.func149,Tryz.ntmps149;go_wp2_with (go_at_call 146;refine(JB _ _ _).mono ?_;rintro e a ⟨rfl,rfl⟩);all_goals go_ret
 all_goals exact⟨U,U⟩
def apW(c:Int)(w:Í): Ò À 102 #[Å Ų c] w λe a=>e=Ç (Å É<|JA c)/\a=w:=by
 go_enter Tryz.func102,Tryz.ntmps102;go_wp2;all_goals go_ret
 all_goals refine⟨Ft ?_,U⟩
 all_goals simp only[beq_iff_eq,beq_eq_false_iff_ne,ne_eq]at*
 all_goals simp[JA, *]
def apX(c:Int)(w:Í): Ò À 97 #[Å Ų c] w λe a=>e=Ç (Å É<|uX c)/\a=w:=by
 go_enter Tryz.func97,Tryz.ntmps97;go_wp2;all_goals go_ret
 all_goals refine⟨Ft ?_,U⟩
 all_goals simp only[beq_iff_eq,beq_eq_false_iff_ne,ne_eq]at*
 all_goals simp[uX, *]
def aa2(b c:Int)(d:0<=c)(f:c<256)(w:Í): Ò À 104 #[Å Ų b,Å Ų c] w λe a=>e=Ç (û<|pf b c)/\a=w:=by
 go_enter Tryz.func104,Tryz.ntmps104;go_wp2_with (first|(go_at_call 94;refine(sH _ _).mono ?_;rintro e a ⟨rfl,rfl⟩)|(go_at_call 98;refine(Uc _ d f _).mono ?_;rintro e a ⟨rfl,rfl⟩)|(go_at_call 149;refine(apV _ d f _).mono ?_;rintro e a ⟨rfl,rfl⟩));all_goals go_ret
 all_goals refine⟨Z5 ?_,U⟩
 all_goals try go_light
 all_goals simp only[beq_iff_eq,beq_eq_false_iff_ne,ne_eq]at*
 all_goals unfold pf
 all_goals first|(simp[NL, *];done)|(rw[ģ];simp[*];done)|(rw[ģ];simp[*];omega)
def apY(k:Int)(w:Í): Ò À 145 #[Å É k] w λe a=>(∃b:ByteArray,e=Ç (Ä b)/\b.size<=10/\jY b=rB k)/\a=w:=by
 go_enter Tryz.func145,Tryz.ntmps145;go_wp2;all_goals go_ret
 all_goals refine⟨⟨_,U,?_,?_⟩,U⟩
 all_goals try go_light
 all_goals simp only[beq_iff_eq,beq_eq_false_iff_ne,ne_eq]at*
 all_goals first|(simp[jY,rB, *];done)|decide
def apZ(k:Int)(w:Í): Ò À 148 #[Å É k] w λe a=>(∃b:ByteArray,e=Ç (Ä b)/\b.size<=10/\jY b=sF k)/\a=w:=by
 go_enter Tryz.func148,Tryz.ntmps148;go_wp2;all_goals go_ret
 all_goals refine⟨⟨_,U,?_,?_⟩,U⟩
 all_goals try go_light
 all_goals simp only[beq_iff_eq,beq_eq_false_iff_ne,ne_eq]at*
 all_goals first|(simp[jY,sF, *];done)|decide
def nh(m s:Nat):Ñ->Prop
 |Å Ų _=>False
 |Å _ _=>True
 |û _=>True
 |Ä _=>True
 |Ã Á=>True
 |Ã (Â a)=>m<=a.block/\a.block<s
 |Æ Á _ _=>True
 |Æ (Â a) _ _=>m<=a.block/\a.block<s
 |_=>False
def nh.r(h:nh m i v)(d:i<=n):nh m n v:=by
 cases v with
 |int k b=>cases k<;>exact h
 |pointer a=>cases a with
  |none=>trivial
  |some a=>exact⟨h.1,Ī h.2 d⟩
 |slice a b c=>cases a with
  |none=>trivial
  |some a=>exact⟨h.1,Ī h.2 d⟩
 |_=>exact h
def NM(m s:Nat)(o:Obj):Prop:=∃c e a,o=Þ c e a/\a.2<=c.size/\0<c.size/\e≠304/\e≠305/\∀v∈c.toList,nh m s v
def jG(m:Nat)(w:Í):Prop:=∀i o,m<=i->w.heap[i]?=Â o->NM m w.heap.size o
def NM.r{o:Obj}(h:NM m i o)(a:i<=n):NM m n o:=by let⟨c,e,b,d,f,g,j,k,l⟩:=h;exact⟨c,e,b,d,f,g,j,k,λv p=>(l v p).r a⟩
def jG.I(w:Í):jG w.heap.size w:=λi o a h=>by rw[æ a]at h;cases h
def jG.fU(h:jG m w):jG m w.drew:=h
def jG.iQ(h:jG m w)(n:Nat):jG m (w.drewN n):=h
def jG.gI(h:jG m w)(cs:Array Ñ)(t:ė)(c:0<cs.size)(b:t≠304/\t≠305)(d:∀v∈cs.toList,nh m w.heap.size v):jG m (w.alloc<|Þ cs t):=by
 intro i o f a;have k:(w.alloc<|Þ cs t).heap.size=w.heap.size+1:=ft
 by_cases e:i<w.heap.size
 .rw[Ũ _ _ _ e]at a;exact(h i o f a).r Z
 .by_cases g:i=w.heap.size
  .subst g;rw[Ż]at a;cases a;exact⟨cs,t,(0,0),U,Ú _,c,b.1,b.2,λv j=>(d v j).r Z⟩
  .rw[æ Z]at a;cases a
def jG.r(h:jG m w)(p:ý)(l:nh m w.heap.size v):jG m (w.setCell p v):=by
 intro i o f a;have n:(w.setCell p v).heap.size=w.heap.size:=ft
 rw[n];by_cases e:i=p.block
 .subst e;unfold Δ at a;simp only[ŀ,if_true]at a;cases d:w.heap[p.block]? with
  |none=>rw[d]at a;cases a
  |some x=>
   rw[d]at a;obtain⟨c,e,r,rfl,g,j,s,t,k⟩:=h _ _ f d;simp only[þ,Õ]at a;subst a;refine⟨_,e,r,U,?_,?_,s,t,λu b=> ?_⟩
   .split
    .exact g
    .rwa[ĵ]
   .split
    .exact j
    .rwa[ĵ]
   .split at b
    .exact k u b
    .rw[Array.toList_setIfInBounds]at b;rcases ı b with q|q
     .exact k u q
     .rwa[q]
 .rw[ī _ _ _ _ (by simpa using e)]at a;exact h i o f a
def ap0{ty:ė}{bytes base:Nat}(B:P.underlying t=Â (.slice e))(C:P.info? e=Â zJ)(J:zJ.zero=Â (Ã Á)) (y:zJ.size=1) (K:zJ.bytes=bytes) (f:w.ownsRow base e 1 v n l) (a:ý) (c:Nat) (D:∀j O,[z][j]?=Â O->w.cell? (a.add j)=Â O) (Q:z.oneCell'=Î) (T:n+1<=ě) (L:(n+1)*bytes<=140737488355328) (xC:base<=w.heap.size) (hfl:me e=Ë) (hm:m<=base) (E:jG m w) (V:nh m w.heap.size z) (he:e≠304/\e≠305): ∃s u,(Ģ #[t,t] ty #[v,Æ (Â a) 1 c]).run P w=.ok s u/\qC w base e 1 v n l 1 [z] s u/\jG m u/\nh m u.heap.size s:=by
 obtain⟨s,u,h,F⟩:=Sx B C J y K U f a c [z] Z U D (λx b=>by simp at b;subst b;exact Q) T L xC<|È hfl;have hgv:nh m u.heap.size s:=by
  obtain⟨p,o,rfl⟩:=jl F.fu;cases p with
  |none=>trivial
  |some p=>
   have k:=F.fu.lt p.block (by rcases F.fu.2 with⟨q,_⟩|⟨g,r,d,q,_⟩<;>(cases q;try rfl));exact⟨Z,k.2⟩
 refine⟨s,u,h,F,?_,hgv⟩;have G:[z].length=1*zJ.size:=by rw[y];rfl
 have hlx:l.length=n*zJ.size:=by rw[y];exact f.1
 have akJ:n+1<=9223372036854775807:=by simp only[ě]at T;omega
 have uo:∀x∈l,nh m w.heap.size x:=λx b=>by
  rcases f.2 with⟨_,rfl⟩|⟨g,r,d,rfl,hbg,p,hnc,hcm,W,X⟩
  .have:=f.1;rw[Nat.zero_mul]at this;rw[Ó this]at b;cases b
  .let⟨c2,e2,p9,M,_,_,_,_,H⟩:=E g _ Z p;cases M;exact H x<|Ņ<|by rwa[X]
 have Y:∀old,jG m (w.drew.alloc<|Þ (l.toArray++[z].toArray++au (Ń<|Ã Á) (grownCap w (n+1) old e-(n+1))) e):=λold=>by
  refine jG.gI E _ _ (by simp;omega) he λx b=> ?_;simp only[Array.toList_append,à]at b;rcases b with(b|b)|b
  .exact uo x b
  .simp at b;subst b;exact V
  .have:=Sw b;simp[Ń]at this;subst this;trivial
 rcases f.2 with⟨rfl,rfl⟩|⟨g,r,d,rfl,hbg,p,hnc,hcm,W,X⟩
 .have b:=Ó (by simpa using f.1);subst b;have q:=run_append_nil w t ty e zJ (Ã Á) B C J a 1 c [z] G D Z Z (by rw[K];have k:=L;simp only[Ė]at k;omega);rw[q]at h;have k:=Y 0;simp only[Ė,List.toArray]at k;cases h;simpa using k
 .by_cases Qx:n+1<=r
  .have Sy:n*zJ.size+[z].length<=d.size:=by rw[G,W,y];omega
   have q:=run_append_room w t ty e zJ B C g n r d p a 1 c [z] G D (λx b=>by simp at b;subst b;exact Q) Qx Sy;rw[q]at h;cases h;have Ip:=setRow_heap w g d (d.toList.take (n*zJ.size)++[z]++d.toList.drop (n*zJ.size+[z].length)).toArray e _ p;have ap1:=λk (N:k≠g)=>setRow_other w g k (d.toList.take (n*zJ.size)++[z]++d.toList.drop (n*zJ.size+[z].length)).toArray N;let⟨c2,e2,p9,M,q2,q3,q4,q5,H⟩:=E g _ Z p;cases M;intro k o N I;have jx:(w.setRow g (d.toList.take (n*zJ.size)++[z]++d.toList.drop (n*zJ.size+[z].length)).toArray).heap.size=w.heap.size:=ft
   rw[jx];by_cases e3:k=g
   .subst e3;rw[Ip]at I;cases I;refine⟨_,_,_,U,ft,(by simp;omega),q4,q5,λx b=> ?_⟩;simp only[à]at b;rcases b with(b|b)|b
    .exact H x<|Ņ b
    .simp at b;subst b;exact V
    .exact H x<|List.mem_of_mem_drop b
   .rw[ap1 k e3]at I;exact E k o N I
  .have k:w.ownsRow base e zJ.size (Æ (Â ⟨g,0,Á⟩) n r) n l:=by rwa[y]
   have q:=run_append_grow w t ty e zJ (Ã Á) B C J ⟨g,0,Á⟩ n r l hlx (k.cells U) a 1 c [z] G D Z Z (by rw[K];exact growslice_fits Z L);rw[q]at h;cases h;exact Y r
def aa3{f:Array Ĩ}{E:Prop}{base:Nat} (k:o.guard=Á) (s x:Operand) (t:ė) (p:o.op=Op.call {callee:=Callee.builtin ψ,args:=#[s,x],argTypes:=#[t,t]}) {bytes:Nat} (q:P.underlying t=Â (.slice e)) (r:P.info? e=Â zJ) (B:zJ.zero=Â (Ã Á)) (C:zJ.size=1) (D:zJ.bytes=bytes) (F:y.eval s=v) (G:w.ownsRow base e 1 v n l) (ad:ý) (H:y.eval x=Æ (Â ad) 1 b) (I:∀j g,[z][j]?=Â g->w.cell? (ad.add j)=Â g) (J:z.oneCell'=Î) (L:n+1<=ě) (M:(n+1)*bytes<=140737488355328) (N:base<=w.heap.size) (O:me e=Ë) (T:m<=base) (V:jG m w) (W:nh m w.heap.size z) (X:e≠304/\e≠305) (h:∀d u,qC w base e 1 v n l 1 [z] d u->jG m u->nh m u.heap.size d->K (y.put o.dst d) u): if ĝ o (Ρ f y.tmps)=Î then Oper.wp P o y w K vJ else E:=by
 have Y:ĝ o (Ρ f y.tmps)=Î:=by simp[ĝ,k]
 rw[if_pos Y];let⟨d,u,hr,h2,h3,h4⟩:=ap0 (ty:=o.type) q r B C D G ad b I J L M N O T V W X;unfold Oper.wp;simp[Ť,p,ai,aF,aj,F,H,hr,ź];exact h d u h2 h3 h4
def nR(l:List Nat):List Ñ:=l.map λa=>Ã<|Â ⟨a,0,Á⟩
def oL(l:List Int):List Ñ:=l.map λz=>Å É z
def F9(p:PT):List Ñ:=oL p.c++[Ä p.p]
def Dy(c:List Int)(a:Ñ):List Ñ:=oL c++[a]
structure pn(lo hi:Nat)(tb:List Nat)(l:List PT)(w:Í):Prop where
 r:tb.length=l.length
 I:∀(j a:Nat) (p:PT),tb[j]?=Â a->l[j]?=Â p->lo<=a/\a<hi/\p.c.length=5/\fl a (F9 p) 200 w
structure wo(B q:Nat)(r:PR)(w:Í):Prop where
 M:q<B
 C:r.c.length=8
 I:∃vb tb,fl q (Dy r.c vb) 161 w/\w.ownsRow 0 149 1 vb tb.length (nR tb)/\(∀j,vb.ownBlock=Â j->j<B)/\pn 0 B tb r.r w
structure pX(B:Nat)(qs:List Nat)(rs:List PR)(w:Í):Prop where
 I:qs.length=rs.length
 M:∀(j q:Nat) (r:PR),qs[j]?=Â q->rs[j]?=Â r->wo B q r w
section
variable{w':Í}{lo hi B q:Nat}{tb qs:List Nat}{l:List PT}{r:PR}{rs:List PR}
def pn.C(h:pn lo hi tb l w)(k:fg X w w')(f:∀a c g,lo<=a->a<hi->w.heap[a]?=Â (Þ c 200 g)->¬X a):pn lo hi tb l w':= ⟨h.r,λj a p i m=>by let⟨b,d,n,e⟩:=h.I j a p i m;exact⟨b,d,n,e.I k<|f a _ _ b d e⟩⟩
def pn.M(h:pn lo hi tb l w)(f:i<=lo)(g:hi<=n):pn i n tb l w:= ⟨h.r,λj a p b c=>by let⟨k,m,d,e⟩:=h.I j a p b c;exact⟨Z,Z,d,e⟩⟩
def pn.N(lo hi:Nat)(w:Í):pn lo hi [] [] w:=⟨U,λj a p h=>by cases h⟩
def Gb{α:Type}{l:List α}{a x:α}(h:(l++[a])[j]?=Â x):l[j]?=Â x\/j=l.length/\x=a:=by
 rcases Nat.lt_trichotomy j l.length with e|e|e
 .rw[ċ e]at h;exact È h
 .subst e;simp at h;exact Ï ⟨U,h.symm⟩
 .rw[ľ (by simp;omega)]at h;cases h
def pn.Ud{p:PT}(h:pn lo hi tb l w)(d:lo<=i)(g:i<hi)(k:p.c.length=5)(m:fl i (F9 p) 200 w):pn lo hi (tb++[i]) (l++[p]) w:=by
 refine⟨by simp[h.r],λj x y n b=> ?_⟩;rcases Gb n with e|⟨e,rfl⟩
 .rcases Gb b with f|⟨f,rfl⟩
  .exact h.I j x y e f
  .have:=(Ö.1 e).1;have:=h.r;omega
 .rcases Gb b with f|⟨f,rfl⟩
  .have:=(Ö.1 f).1;have:=h.r;omega
  .exact⟨d,g,k,m⟩
def Ue(B:Nat)(w:Í)(i:Nat):Prop:=B<=i\/∃c T a,w.heap[i]?=Â (Þ c T a)/\(T=153\/T=148)
def Uf(e:Ue B w i)(hi:i<B)(h:w.heap[i]?=Â (Þ d T xJ))(a:T≠153/\T≠148):False:=by
 rcases e with q|⟨g,j,p9,b,f⟩
 .omega
 .rw[h]at b;cases b;rcases f with rfl|rfl
  .exact a.1 U
  .exact a.2 U
def wo.vv(h:wo B q r w)(k:fg X w w')(b:∀i,i<w.heap.size->X i->Ue B w i):wo B q r w':=by let⟨n,tb,d,e,f,o⟩:=h.I;refine⟨h.M,h.C,n,tb,d.I k λx=>Uf (b q d.M x) h.M d A,ik e k λj g x=> ?_,f,o.C k λa c s _ p l x=>Uf (b a (Ù.1 l).1 x) p l A⟩;let⟨t,m⟩:=lG e g;exact Uf (b j (Ù.1 m).1 x) (f j g) m A
def wo.fQ(h:wo B q r w)(a:B<=i):wo i q r w:=by let⟨b,tb,c,d,e,f⟩:=h.I;exact⟨by have:=h.M;omega,h.C,b,tb,c,d,λj g=>by have:=e j g;omega,f.M (â _) a⟩
def pX.C(h:pX B qs rs w)(k:fg X w w')(a:∀i,i<w.heap.size->X i->Ue B w i):pX B qs rs w':= ⟨h.I,λj q r b c=>(h.M j q r b c).vv k a⟩
def pX.Ud(h:pX B qs rs w)(b:B<=i)(c:wo i q r w):pX i (qs++[q]) (rs++[r]) w:=by
 refine⟨by simp[h.I],λj x y d a=> ?_⟩;rcases Gb d with e|⟨e,rfl⟩
 .rcases Gb a with f|⟨f,rfl⟩
  .exact(h.M j x y e f).fQ b
  .have:=(Ö.1 e).1;have:=h.I;omega
 .rcases Gb a with f|⟨f,rfl⟩
  .have:=(Ö.1 f).1;have:=h.I;omega
  .exact c
def pX.N(B:Nat)(w:Í):pX B [] [] w:=⟨U,λj q r h=>by cases h⟩
end
structure Gh where
 a:List Nat
 q:Nat
 t:Nat
 B:Nat
 tb:List Nat
 N:Ñ
 r:Ñ
 b:Option ý
namespace Gh
def C(g:Gh)(d:PD):List Nat:=if d.r then g.a++[g.q]else g.a
def I(g:Gh)(d:PD):List Nat:=if d.I then g.tb++[g.t]else g.tb
def S(g:Gh)(d:PD):Option ý:=if d.r then Â ⟨g.q,0,Á⟩else Á
def Y(g:Gh)(d:PD):Option ý:=if d.I then Â ⟨g.t,0,Á⟩else g.b
def M(g:Gh)(d:PD):Nat:=if d.I then g.t else g.q
def G(g:Gh)(d:PD):Option ý:=if d.r then Â ⟨g.M d,0,Á⟩else Á
def Dz(g:Gh)(d:PD)(a:Int):ý:=if a=86 then⟨g.q,5,Á⟩else if a=87 then⟨g.q,6,Á⟩else if a=110 then⟨g.M d,2,Á⟩else⟨g.M d,3,Á⟩
end Gh
structure wq(m:Nat)(g:Gh)(d:PD)(w:Í):Prop where
 S:m<=g.B
 N:g.B<=g.q
 M:d.N.c.length=8
 r:fl g.q (Dy d.N.c g.r) 161 w
 I:w.ownsRow g.B 149 1 g.r (g.I d).length (nR<|g.I d)
 Y:pn g.B g.t g.tb d.N.r w
 C:d.I=Î->g.B<=g.t/\d.M.c.length=5/\fl g.t (F9 d.M) 200 w
 a:d.I=Ë->g.tb=[]/\d.N.r=[]
structure kv(m:Nat)(g:Gh)(d:PD)(w:Í):Prop where
 C:w.ownsRow m 148 1 g.N (g.C d).length (nR<|g.C d)
 I:pX g.B g.a d.Y w
 r:d.r=Î->wq m g d w
 N:d.r=Ë->d.I=Ë
def Ug(s:ByteArray)(g:Gh)(d:PD)(a:Option ý)(ln b:Int):List Ñ:=
 [Ä s,g.N,Ã<|g.S d,Ã<|g.Y d,Ã<|g.G d,Ã a,Å É ln,Å É b]
structure gT(m b:Nat)(g:Gh)(c:Option ý)(s:ByteArray)(st:PS)(w:Í):Prop where
 S:m<=b
 a:jG m w
 r:fl b (Ug s g st.d c st.r st.I) 153 w
 M:s.size<=10
 I:jY s=st.C
 C:kv m g st.d w
 c:0<st.r->st.d.r=Î/\c=Â (g.Dz st.d st.M)
 N:st.d.r=Î\/st.C=[82]
def sI(m b:Nat)(st:PS)(w a:Í):Prop:=fg (λi=>m<=i) w a/\∃g i s,gT m b g i s st a
section
variable{w':Í}{g:Gh}{d:PD}{s:ByteArray}{st:PS}
def wq.vv(h:wq m g d w)(k:fg X w w')(p:∀i c T b,w.heap[i]?=Â (Þ c T b)->X i->T=153\/T=148):wq m g d w':=by
 have f:∀{i:Nat} {c:Array Ñ} {T:ė} {b:Nat×Nat},w.heap[i]?=Â (Þ c T b)->(T≠153/\T≠148)->¬X i:=λ{i c T b} n l x=>(p i c T b n x).elim l.1 l.2;refine⟨h.S,h.N,h.M,h.r.I k<|f h.r A,ik h.I k λj r=> ?_,h.Y.C k λa c b _ _ q=>f q A,λe=> ?_,h.a⟩
 .let⟨s,o⟩:=lG h.I r;exact f o A
 .let⟨n,l,o⟩:=h.C e;exact⟨n,l,o.I k<|f o A⟩
def kv.S(h:kv m g d w)(k:fg X w w')(b:∀i c T a,w.heap[i]?=Â (Þ c T a)->X i->T=153)(f:∀i,i<w.heap.size->X i->∃c a,w.heap[i]?=Â (Þ c 153 a)):kv m g d w':=by
 refine⟨ik h.C k λj l x=> ?_,h.I.C k λi n x=> ?_,λe=>(h.r e).vv k λi c T a q x=>È<|b i c T a q x,h.N⟩
 .let⟨o,q⟩:=lG h.C l;exact absurd (b j _ _ _ q x) A
 .let⟨c,a,q⟩:=f i n x;exact Ï ⟨c,_,a,q,È U⟩
def kv.M(h:kv m g d w)(a:fl b l 153 w)(k:fg (λi=>i=b) w w'):kv m g d w':= h.S k (λi c T e q x=>by subst x;unfold fl at a;rw[a]at q;cases q;rfl) λi _ x=>⟨l.toArray,(0,0),by rwa[x]⟩
def pY{i:Nat}{v:Value}{j:Nat}{vs:List Value}{T:TypeId}(h:fl j vs T w)(hT:me T=false:=by decide):fg (λk=>k=j) w (w.setCell ⟨j,i,none⟩ v):=fg.I (X:=λk=>k=j) U v<|Ï<|h.G hT
def kv.aa4(h:kv m g d w):(g.C d).length=d.C.length:=by unfold Gh.C PD.C;split<;>simp[h.I.I]
def wq.G(h:wq m g d w):(g.I d).length=d.S.length:=by unfold Gh.I PD.S;split<;>simp[h.Y.r]
def Uh(h:i<zQ.length)(v:Ñ):(oL zQ++[v])[i]?=Â (Å É<|zQ.getD i 0):=by rw[ċ (by simpa[oL]using h)];simp[oL,ď,h]
def aa5(l:List Int)(i:Nat)(z:Int)(v:Ñ)(h:i<l.length):(oL l++[v]).set i (Å É z)=oL (l.set i z)++[v]:=by rw[List.set_append_left _ _ (by simpa[oL]using h)];simp[oL,List.map_set]
def aa6(l:List Int)(v u:Ñ):(oL l++[v]).set l.length u=oL l++[u]:=by rw[Ľ _ _ (by simp[oL])];simp[oL]
def DC(l:List Int)(v:Ñ):(oL l++[v])[l.length]?=Â v:=by rw[ĩ (by simp[oL])];simp[oL]
def kv.Y(h:kv m g d w)(on:d.r=Î)(n:i<8)(z:Int):kv m g (d.pg i z) (w.setCell ⟨g.q,i,Á⟩<|Å É z):=by
 have l:=h.r on;have k:fg (λk=>k=g.q) w (w.setCell ⟨g.q,i,Á⟩<|Å É z):=pY l.r;have r:=l.N;refine⟨ik h.C k λj b x=>jE h.C l.r A (by rw[b,x]),h.I.C k λi _ x=>È Z,λ_=>⟨l.S,l.N,by simp[PD.pg,l.M],?_,ik l.I k λj b x=>jE l.I l.r A (by rw[b,x]),l.Y.C k λa c s _ _ q x=> ?_,λe=> ?_,l.a⟩,h.N⟩
 .have:=l.r.gh i<|Å É z;unfold Dy at this;rw[aa5 _ _ _ _ (by rwa[l.M])]at this;exact this
 .have:=l.r;unfold fl at this;rw[<-x,q]at this;cases this
 .let⟨o,p,f⟩:=l.C e;exact⟨o,p,f.I k λx=>(fl.S f l.r A) x⟩
def kv.jF(h:kv m g d w)(on:d.r=Î)(f:d.I=Î){p:PT}(n:p.c.length=5)(o:(F9 d.M).set i v=F9 p):kv m g {d with M:=p} (w.setCell ⟨g.t,i,Á⟩ v):=by have l:=h.r on;let⟨r,s,b⟩:=l.C f;have k:fg (λk=>k=g.t) w (w.setCell ⟨g.t,i,Á⟩ v):=pY b;refine⟨ik h.C k λj e x=>jE h.C b A (by rw[e,x]),h.I.C k λi _ x=>È Z,λ_=>⟨l.S,l.N,l.M,l.r.I k λx=>(fl.S l.r b A) x,ik l.I k λj e x=>jE l.I b A (by rw[e,x]),l.Y.C k λa c u _ q _ x=>by omega,λ_=>⟨r,n,?_⟩,l.a⟩,h.N⟩;have:=b.gh i v;rwa[o]at this
def kv.G(h:kv m g d w)(on:d.r=Î)(a:d.I=Î)(c:i<5)(z:Int):kv m g (d.pV i z) (w.setCell ⟨g.t,i,Á⟩<|Å É z):=by let⟨e,b,f⟩:=(h.r on).C a;exact h.jF on a (by simp[b])<|aa5 _ _ _ _<|by rwa[b]
def kv.pj(h:kv m g d w)(on:d.r=Î)(a:d.I=Î)(p:ByteArray):kv m g (d.pj p) (w.setCell ⟨g.t,5,Á⟩<|Ä p):=by let⟨e,b,f⟩:=(h.r on).C a;refine h.jF on a b ?_;have:=aa6 d.M.c (Ä d.M.p)<|Ä p;rwa[b]at this
def kv.atH(h:kv m g d w)(on:d.r=Î)(a:i<4)(z:Int):kv m g (d.jF i z) (w.setCell ⟨g.M d,i,Á⟩<|Å É z):=by
 unfold PD.jF Gh.M;split
 .rename_i e;exact h.G on e Z z
 .exact h.Y on Z z
structure qL(m b:Nat)(g:Gh)(d:PD)(ab ao:Nat)(f:Int->PD)(x:Int)(w:Í):Prop where
 r:ab≠b
 N:m<=ab
 a:ab<w.heap.size
 C:w.cell? ⟨ab,ao,Á⟩=Â (Å É x)
 I:w.frozen? ⟨ab,ao,Á⟩=Ë
 nf:NF ab w
 Y:∀W,kv m g d W->∀z,kv m g (f z)<|W.setCell ⟨ab,ao,Á⟩<|Å É z
 M:∀z,g.S (f z)=g.S d/\g.Y (f z)=g.Y d/\g.G (f z)=g.G d/\(f z).r=d.r/\∀n,g.Dz (f z) n=g.Dz d n
def Gc(h:kv m g d w)(f:fl b l 153 w)(on:d.r=Î)(e:i<8):qL m b g d g.q i (λz=>d.pg i z) (d.N.c.getD i 0) w:=by have a:=h.r on;exact⟨fl.S a.r f A,Ì a.S a.N,a.r.M,a.r.r i _ (Uh (by rwa[a.M]) _),a.r.C i,a.r.G,λW j z=>j.Y on e z,λz=>⟨U,U,U,U,λn=>rfl⟩⟩
def aa7(h:kv m g d w)(k:fl b l 153 w)(on:d.r=Î)(f:d.I=Î)(j:i<5):qL m b g d g.t i (λz=>d.pV i z) (d.M.c.getD i 0) w:=by have a:=h.r on;let⟨o,p,e⟩:=a.C f;exact⟨fl.S e k A,Ì a.S o,e.M,e.r i _ (Uh (by rwa[p]) _),e.C i,e.G,λW q z=>q.G on f j z,λz=>⟨U,U,U,U,λn=>rfl⟩⟩
def Gd(h:kv m g d w)(a:fl b l 153 w)(on:d.r=Î)(c:i<4):qL m b g d (g.M d) i (λz=>d.jF i z) (d.wi i) w:=by
 unfold PD.jF PD.wi Gh.M;split
 .rename_i e;exact aa7 h a on e Z
 .exact Gc h a on Z
def gT.G{f:Int->PD}(h:gT m b g O s st w)(n:qL m b g st.d i j f c w)(z:Int):gT m b g O s {st with d:=f z} (w.setCell ⟨i,j,Á⟩<|Å É z):=by
 let⟨e,l,o,a,p⟩:=n.M z;have k:fg (λk=>k=i) w (w.setCell ⟨i,j,Á⟩<|Å É z):=fg.I (X:=λk=>k=i) U _<|È U;refine⟨h.S,h.a.r _ trivial,?_,h.M,h.I,n.Y w h.C z,λq=> ?_,?_⟩
 .have:=h.r.I k λc=>n.r c.symm;unfold Ug at this|-;simp only[e,l,o];exact this
 .let⟨r,t⟩:=h.c q;exact⟨by simp only[a];exact r,by simp only[p];exact t⟩
 .simp only[a];exact h.N
def gT.NN(h:gT m b g O s st w)(a:ByteArray)(r:List Int)(c:a.size<=10)(e:jY a=r)(f:st.d.r=Î\/r=[82]):gT m b g O a {st with C:=r} (w.setCell ⟨b,0,Á⟩<|Ä a):= ⟨h.S,h.a.r _ trivial,h.r.gh 0 _,c,e,h.C.M h.r<|pY h.r,h.c,f⟩
def gT.Y(h:gT m b g O s st w)(z:Int)(a:0<z->st.d.r=Î/\O=Â (g.Dz st.d st.M)):gT m b g O s {st with r:=z} (w.setCell ⟨b,6,Á⟩<|Å É z):= ⟨h.S,h.a.r _ trivial,h.r.gh 6 _,h.M,h.I,h.C.M h.r<|pY h.r,a,h.N⟩
def gT.aa8(h:gT m b g O s st w)(z:Int):gT m b g O s {st with I:=z} (w.setCell ⟨b,7,Á⟩<|Å É z):= ⟨h.S,h.a.r _ trivial,h.r.gh 7 _,h.M,h.I,h.C.M h.r<|pY h.r,h.c,h.N⟩
def gT.aa9(h:gT m b g O s st w)(a:ý)(n:Int)(d:st.r=0)(c:m<=a.block/\a.block<w.heap.size):gT m b g (Â a) s {st with M:=n} (w.setCell ⟨b,5,Á⟩<|Ã<|Â a):= ⟨h.S,h.a.r _ c,h.r.gh 5 _,h.M,h.I,h.C.M h.r<|pY h.r,λq=>by have:0<st.r:=q;omega,h.N⟩
def gT.fU(h:gT m b g O s st w):gT m b g O s st w.drew:=by have k:=fg.fU (λ_=>False) w;exact⟨h.S,h.a,h.r.I k id,h.M,h.I,h.C.S k (λ_ _ _ _ _ x=>x.elim) λ_ _ x=>x.elim,h.c,h.N⟩
end
section
variable{g:Gh}{st:PS}{f:Int->PD}
def qL.S{d:PD}(a:qL m b g d n j f h w)(i:Nat)(v:Ñ):qL m b g d n j f h (w.setCell ⟨b,i,Á⟩ v):= ⟨a.r,a.N,by simpa using a.a,by rw[IT<|Ne.symm a.r];exact a.C,by rw[World.frozen?_setCell];exact a.I,λc T e q=>a.nf c T e (by rwa[ī _ _ _ _ (by simpa using a.r)]at q),a.Y,a.M⟩
def gT.Ui(h:gT m b g O B st w)(n:Int)(a:st.r=0):gT m b g O B {st with M:=n} w:= ⟨h.S,h.a,h.r,h.M,h.I,h.C,λq=>by have:0<st.r:=q;omega,h.N⟩
def mN(h:gT m b g O B st w)(i:Nat)(v:Ñ):fg (λi=>m<=i) w (w.setCell ⟨b,i,Á⟩ v):=fg.I (X:=λi=>m<=i) (p:=⟨b,i,Á⟩) h.S v<|Ï h.r.G
def Ge(a:qL m b g st.d n j f h w)(z:Int):fg (λi=>m<=i) w (w.setCell ⟨n,j,Á⟩<|Å É z):=fg.I (X:=λi=>m<=i) (p:=⟨n,j,Á⟩) a.N _<|È U
def wv(c a:Int):Int:=if c=104\/c=48 then 0 else a-1
def mM(c:Int):Int:=if c=104 then-1 else(c-48)%256
def Uj{st:PS}(h:st.r=0)(n:Int)(d:PD):({st with r:=0,M:=n,d:=d}:PS)={st with M:=n,d:=d}:=by rw[<-h]
def NO(a:gT m b g O B st w)(k:qL m b g st.d n j f h w)(l:st.r=0)(p:st.d.r=Î)(c o i:Int)(E:0<=o)(F:o<=6)(q:∀z,g.Dz (f z) i=⟨n,j,Á⟩): Ò À 147 #[Ã<|Â ⟨b,0,Á⟩,Ã<|Â ⟨n,j,Á⟩,Å Ų c,Å É o] w λe u=>
  e=Ç (ï #[])/\sI m b {st with r:=wv c o,M:=i,d:=f (mM c)} w u:=by
 have G:=a.r.r 5 _ U;have I:=a.r.r 6 _ U;have J:=a.r.C 5;have K:=a.r.C 6;have L:=k.C;have M:=k.I;have N:=k.r;have P:¬b=n:=λe=>k.r e.symm;have v:m<=n/\n<w.heap.size:=⟨k.N,k.a⟩;have H:=fi<|Ê a<|Ê k<|Ê q<|Ê l p;by_cases s:c=104
 .subst s;go_enter Ş,ŕ;go_wp2;first|go_end0|refine ă (results_none U _ _ _) U ?_
  let⟨a,k,q,l,p⟩:=H.out;refine⟨U,Ge k _,g,O,B,?_⟩;have:=(a.G k<|-1).Ui i l;rw[show wv 104 o=0 from if_pos<|È U,Uj l];exact this
 .have Q:(c==104)=Ë:=by rwa[beq_eq_false_iff_ne]
  have x:mM c=(c-48)%256:=if_neg s;by_cases y:c=48
  .subst y;go_enter Ş,ŕ;go_wp2;go_end0;let⟨a,k,q,l,p⟩:=H.out;have t:=a.aa9 ⟨n,j,Á⟩ i l v;have r:=k.S 5<|Ã<|Â ⟨n,j,Á⟩;refine⟨U,(mN a 5 _).fj<|Ge r _,g,Â ⟨n,j,Á⟩,B,?_⟩;have:=t.G r 0;rw[show wv 48 o=0 from if_pos<|Ï U,Uj l,x];exact this
  .have T:(c !=48)=Î:=by rwa[bne_iff_ne]
   go_enter Ş,ŕ;go_wp2;go_end0;let⟨a,k,q,l,p⟩:=H.out;have t:=a.aa9 ⟨n,j,Á⟩ i l v;have r:=k.S 5<|Ã<|Â ⟨n,j,Á⟩;have C:=t.G r<|(c-48)%256;have D:=C.Y (o-1) λ_=>⟨by simp only;rwa[(k.M _).2.2.2.1],by simp only;rw[q]⟩;refine⟨U,((mN a 5 _).fj<|Ge r _).fj<|mN C 6 _,g,Â ⟨n,j,Á⟩,B,?_⟩;rwa[show wv c o=o-1 from if_neg Z,x]
def NP{d b:Int}(h:pf b c=Î)(a:(b=86\/b=87)/\d=2\/(b=110\/b=107)/\d=6):wv c d=sG b c:=by
 unfold wv sG;unfold pf at h;by_cases f:iX c=Î
 .rw[F6]at f;by_cases g:c=48
  .rw[if_pos<|Ï g,if_pos<|È g]
  .rw[if_neg Z,if_neg (by rintro(e|e);exact g e;rw[apK f]at e;cases e)];rcases a with⟨a,rfl⟩|⟨a,rfl⟩
   .rw[if_pos a];rfl
   .rw[if_neg Z,if_pos a];rfl
 .have hF:iX c=Ë:=by cases e:iX c with|false=>rfl|true=>exact absurd e f
  rw[if_pos (show c=48\/iX c=Ë from Ï hF)];rcases a with⟨a,rfl⟩|⟨a,rfl⟩
  .rw[if_pos a,hF,Bool.or_false,beq_iff_eq]at h;rw[if_pos<|È h]
  .rw[if_neg Z,if_pos a,hF]at h;cases h
def NQ{a:Int}(h:¬(a=86\/a=87)/\¬(a=110\/a=107)):sG a c=0:=by
 unfold sG;split
 .rfl
 .rw[if_neg h.1,if_neg h.2]
def NS{a:Int}(h:a=86\/a=87\/a=110\/a=107):ow a c=mM c:=by unfold ow mM;rw[if_neg Z,if_neg Z]
def Uk(a:gT m b g O B st w)(k:qL m b g st.d n j f h w)(l:st.r=0){i z:Int}(e:c=0)(o:u=(w.setCell ⟨n,j,Á⟩<|Å É z).drew):sI m b {st with r:=c,M:=i,d:=f z} w u:=by subst o;subst e;rw[Uj l];exact⟨(Ge k z).fj<|fg.fU _ _,g,O,B,((a.G k z).Ui i l).fU⟩
end
section
variable{g:Gh}{st:PS}
def JC{d:PD}(a:d.I=Î):g.Y d=Â ⟨g.t,0,Á⟩:=if_pos a
def ap2:wm st 0=Á:=rfl
def ap3(h:gT m b g O B st w)(s:st.r=0)(on:st.d.r=Î)(f:st.d.I=Î)(k:Int): Ò À 101 #[Ã<|Â ⟨b,0,Á⟩,Å É k] w λe u=>match wm st k with
  |none=>e=Ç (û Ë)/\u=w
  |some a=>e=Ç (û Î)/\sI m b a w u:=by
 have v:=h.r.r 0 _ U;have o:=h.r.r 3 _ U;have x:=h.r.r 7 _ U;rw[JC f]at o;have y:=h.r.C 0;have z:=h.r.C 7;have a:=aa7 h.C h.r on f (i:=4) A;have C:=a.C;have D:=a.I;have E:=a.r;have F:¬b=g.t:=λe=>a.r e.symm;have H:=fi<|Ê h a;by_cases c:k=0
 .subst c;rw[ap2];go_enter Τ,Ε;go_wp2;go_ret;exact⟨U,U⟩
 .have G:(k==0)=Ë:=by rwa[beq_eq_false_iff_ne]
  have e:wm st k=Â {st with C:=sF k,I:=0,d:=st.d.pV 4 k}:=if_neg c;rw[e];go_enter Τ,Ε;go_wp2_with (go_at_call 148;refine(apZ _ _).mono ?_;rintro e u ⟨⟨j,rfl,p,q⟩,l⟩;subst u);go_ret;let⟨h,a⟩:=H.out;have l:=h.G a k;have n:=l.aa8 0;have r:=n.NN j _ p q<|È on;exact⟨U,((Ge a k).fj<|mN l 7 _).fj<|mN n 0 _,g,O,j,r⟩
end
def ap4:(À.info? 149).map (λi=>(i.zero,i.size,i.bytes))=Â (Â<|Ã Á,1,8):=fw
def ap5:(À.info? 148).map (λi=>(i.zero,i.size,i.bytes))=Â (Â<|Ã Á,1,8):=fw
section
variable{g:Gh}{nm:Option ý}{s:ByteArray}{st:PS}{d:PD}{T:Nat}
structure uY(m:Nat)(g:Gh)(d:PD)(T:Nat)(w:Í):Prop where
 C:w.ownsRow m 148 1 g.N (g.C d).length (nR<|g.C d)
 I:pX g.B g.a d.Y w
 N:pn g.B T (g.I d) d.S w
 tb:fl T (F9 PD.F3) 200 w
def JD(x:i=j)(h:fl j l t w):w.heap[i]?=Â (Þ l.toArray t (0,0)):=by rwa[x]
def uY.r(h:uY m g d T w)(k:fg X w u)(n:∀i,i<w.heap.size->X i->∃c t b,w.heap[i]?=Â (Þ c t b)/\(t=153\/(t=161\/t=149)/\g.B<=i)):uY m g d T u:=by
 have f:∀{i:Nat} {c:Array Ñ} {t:ė} {b:Nat×Nat},w.heap[i]?=Â (Þ c t b)->(t≠153/\t≠161/\t≠149)->¬X i:=λ{i c t b} q1 q2 x=>by
  let⟨o,p,p9,e,l⟩:=n i (Ù.1 q1).1 x;rw[q1]at e;cases e;rcases l with rfl|⟨rfl|rfl,_⟩
  .exact q2.1 U
  .exact q2.2.1 U
  .exact q2.2.2 U
 refine⟨ik h.C k λj r=> ?_,h.I.C k λi s x=> ?_,h.N.C k λa c b _ _ q=>f q A,h.tb.I k<|f h.tb A⟩
 .let⟨v,z⟩:=lG h.C r;exact f z A
 .let⟨o,p,p9,e,l⟩:=n i s x;rcases l with rfl|⟨_,z⟩
  .exact Ï ⟨_,_,_,e,È U⟩
  .exact È z
def uY.fN(h:uY m g d T w)(k:fg (λ_=>False) w u):uY m g d T u:=h.r k λ_ _ x=>x.elim
def uY.M(h:uY m g d T w)(a:fl b l 153 w):uY m g d T (w.setCell ⟨b,i,Á⟩ v):= h.r (pY a) λi _ x=>⟨_,_,_,JD x a,È U⟩
def wq.abb(l:wq m g d w):pn g.B w.heap.size (g.I d) d.S w:=by
 unfold Gh.I PD.S;split
 .rename_i e;let⟨a,b,c⟩:=l.C e;have:=c.M;exact(l.Y.M (â _) Z).Ud a c.M b c
 .rename_i e;let⟨a,b⟩:=l.a (by simpa using e);rw[a,b];exact pn.N _ _ _
def jG.C(n:jG m w)(g:fl b l e w)(C:m<=b)(p:e≠304/\e≠305)(d:Array Ñ)(t:ė)(u:0<d.size)(r:t≠304/\t≠305)(h:∀v∈d.toList,nh m (w.heap.size+1) v):jG m ((w.setCell ⟨b,i,Á⟩<|Ã<|Â ⟨w.heap.size,0,Á⟩).alloc<|Þ d t):=by
 have s:(w.setCell ⟨b,i,Á⟩<|Ã<|Â ⟨w.heap.size,0,Á⟩).heap.size=w.heap.size:=ft
 have D:=g.M;intro j o k c;have x:((w.setCell ⟨b,i,Á⟩<|Ã<|Â ⟨w.heap.size,0,Á⟩).alloc<|Þ d t).heap.size=w.heap.size+1:=ft
 rw[x];by_cases a:j<w.heap.size
 .rw[Ũ _ _ _ (by rwa[s])]at c;by_cases f:j=b
  .subst f;have:=g.gh i<|Ã<|Â ⟨w.heap.size,0,Á⟩;unfold fl at this;rw[this]at c;cases c;let⟨E,F,G,y,H,z,I,J,B⟩:=n j _ k g;cases y;refine⟨_,_,_,U,ft,by simpa using z,p.1,p.2,λv h=> ?_⟩;rcases ı (by simpa using h)with q|q
   .exact(B v<|by simpa using q).r Z
   .rw[q];exact⟨Ì k<|Nat.le_of_lt a,Nat.lt_succ_self _⟩
  .rw[ī _ _ _ _ (by simpa using f)]at c;exact(n j o k c).r Z
 .by_cases f:j=w.heap.size
  .have:=Ż (w.setCell ⟨b,i,Á⟩<|Ã<|Â ⟨w.heap.size,0,Á⟩)<|Þ d t;rw[s]at this;rw[f,this]at c;cases c;exact⟨_,_,_,U,Ú _,u,r.1,r.2,h⟩
  .rw[æ Z]at c;cases c
def NT(b:Nat)(w:Í):Í:=(w.setCell ⟨b,3,Á⟩<|Ã<|Â ⟨w.heap.size,0,Á⟩).alloc<|Þ #[Å É 0,Å É 0,Å É 0,Å É 0,Å É 0,Ä ⟨#[]⟩] 200
def rdM(s:ByteArray)(g:Gh)(d:PD)(a b nm:Option ý)(ln c:Int):List Ñ:=
 [Ä s,g.N,Ã<|g.S d,Ã a,Ã b,Ã nm,Å É ln,Å É c]
structure Gf(m b:Nat)(g:Gh)(d:PD)(T:Nat)(s:ByteArray)(tm nm:Option ý)(ln Ul:Int)(w0 w:Í):Prop where
 S:fg (λi=>m<=i) w0 w
 N:jG m w
 r:fl b (rdM s g d (Â ⟨T,0,Á⟩) tm nm ln Ul) 153 w
 M:uY m g d T w
 I:fl g.q (Dy d.N.c g.r) 161 w
 C:w.ownsRow g.B 149 1 g.r (g.I d).length (nR<|g.I d)
def Gf.fN{ln:Int}(h:Gf m b g d T s O nm ln c W w)(k:fg (λ_=>False) w u)(a:jG m u):Gf m b g d T s O nm ln c W u:= ⟨h.S.C k λ_ _ x=>x.elim,a,h.r.I k id,h.M.fN k,h.I.I k id,ik h.C k λ_ _=>id⟩
def gT.ap6(h:gT m b g nm s st w)(on:st.d.r=Î):Gf m b g st.d w.heap.size s (g.G st.d) nm st.r st.I w (NT b w):=by
 have l:=h.C.r on;have p:(w.setCell ⟨b,3,Á⟩<|Ã<|Â ⟨w.heap.size,0,Á⟩).heap.size=w.heap.size:=ft
 have n:fg (λ_=>False) (w.setCell ⟨b,3,Á⟩<|Ã<|Â ⟨w.heap.size,0,Á⟩) (NT b w):=fg.gI _ _ _ _;have r:fg (λk=>k=b) w (w.setCell ⟨b,3,Á⟩<|Ã<|Â ⟨w.heap.size,0,Á⟩):=pY h.r;have e:=r.C n λ_ _ x=>x.elim;refine⟨e.S λk _ x=>by rw[x];exact h.S,?_,(h.r.gh 3 _).I n id,⟨ik h.C.C e λj f x=>jE h.C.C h.r A (by rw[f,x]),h.C.I.C e λi _ x=>Ï ⟨_,_,_,JD x h.r,È U⟩,l.abb.C e λa c t _ _ q x=> ?_,?_⟩,l.r.I e λx=>fl.S l.r h.r A x,ik l.I e λj f x=>jE l.I h.r A<|by rw[f,x]⟩
 .exact h.a.C h.r h.S A _ _ ft A λv o=>by simp at o;rcases o with rfl|rfl<;>trivial
 .have v:=h.r;unfold fl at v;rw[<-x,q]at v;cases v
 .have:=fl.N (w.setCell ⟨b,3,Á⟩<|Ã<|Â ⟨w.heap.size,0,Á⟩) [Å É 0,Å É 0,Å É 0,Å É 0,Å É 0,Ä ⟨#[]⟩] 200;rwa[p]at this
def Um(g:Gh)(d:PD)(T:Nat)(v:Ñ):Gh:={g with t:=T,tb:=g.I d,r:=v}
def Gf.jN(h:Gf m b g st.d T s O nm st.r st.I w u)(C:m<=b)(on:st.d.r=Î)(a:m<=g.B/\g.B<=g.q/\st.d.N.c.length=8)(D:g.B<=T)(hd:st.r=0) (l:qC u g.B 149 1 g.r (g.I st.d).length (nR<|g.I st.d) 1 [Ã<|Â ⟨T,0,Á⟩] v W) (K:jG m W) (L:nh m W.heap.size v) (n:jX=((W.setCell ⟨g.q,8,Á⟩ v).setCell ⟨b,4,Á⟩<|Ã<|Â ⟨T,0,Á⟩).setCell ⟨b,0,Á⟩ (Ä ⟨#[84]⟩)): fg (λi=>m<=i) w jX/\gT m b (Um g st.d T v) nm ⟨#[84]⟩ {st with C:=[84],d:=st.d.nP} jX:=by
 have E:∀{j:Nat} {M:List Ñ} {t:ė},fl j M t u->149≠t->¬g.r.ownBlock=Â j:=λN f=>jE h.C N f;have F:=h.r.I l.r<|E h.r A;have f:=h.I.I l.r<|E h.I A;have P:=h.M.r l.r λi _ x=>by let⟨k,z⟩:=lG h.C x;exact⟨_,_,_,z,Ï ⟨Ï U,(h.C.lt i x).1⟩⟩
 have o:fg (λk=>k=g.q) W (W.setCell ⟨g.q,8,Á⟩ v):=pY f;have G:fl g.q (Dy st.d.N.c v) 161 (W.setCell ⟨g.q,8,Á⟩ v):=by have:=f.gh 8 v;have e:=aa6 st.d.N.c g.r v;rw[a.2.2]at e;unfold Dy at this|-;rwa[e]at this
 have z:=F.I o λx=>fl.S F f A x;have H:=P.r o λi _ x=>⟨_,_,_,JD x f,Ï ⟨È U,by rw[x];exact a.2.1⟩⟩;have I:=ik l.fu o λj p x=>jE l.fu f A (by rw[p,x]);have Q:jG m (W.setCell ⟨g.q,8,Á⟩ v):=K.r _ L;have V:fg (λk=>k=b) (W.setCell ⟨g.q,8,Á⟩ v) ((W.setCell ⟨g.q,8,Á⟩ v).setCell ⟨b,4,Á⟩<|Ã<|Â ⟨T,0,Á⟩):=pY z;have r:=z.gh 4<|Ã<|Â ⟨T,0,Á⟩;have X:fg (λk=>k=b) ((W.setCell ⟨g.q,8,Á⟩ v).setCell ⟨b,4,Á⟩<|Ã<|Â ⟨T,0,Á⟩) jX:=by rw[n];exact pY r
 have J:=r.gh 0<|Ä ⟨#[84]⟩;rw[<-n]at J;have k:uY m g st.d T jX:=by rw[n];exact(H.M z).M r
 have y:=V.fj X;have Y:=G.I y λx=>fl.S G z A x;have o5:=ik I y λj p x=>jE I z A (by rw[p,x]);have hTl:=H.tb.M;have c5:jG m jX:=by rw[n];refine(Q.r _ ?_).r _ trivial;exact⟨Ì a.1 D,hTl⟩
 have e1:(g.I st.d++[T]).length=(g.I st.d).length+1:=ft
 have e2:nR (g.I st.d++[T])=nR (g.I st.d)++[Ã<|Â ⟨T,0,Á⟩]:=by simp[nR]
 refine⟨((h.S.C l.r λi _ x=> ?_).C o λi _ x=> ?_).C y λi _ x=> ?_,C,c5,?_,A,U,⟨k.C,k.I,λ_=>⟨a.1,a.2.1,a.2.2,Y,?_,k.N,λ_=>⟨D,U,k.tb⟩,λe=>by cases e⟩,λe=> ?_⟩,λe=> ?_,È on⟩
 .have:=(h.C.lt i x).1;have:=a.1;omega
 .have:=a.2.1;have:=a.1;omega
 .rwa[x]
 .have e:(Um g st.d T v).S st.d.nP=g.S st.d:=U;unfold Ug;rw[e];have e4:(Um g st.d T v).G st.d.nP=Â ⟨T,0,Á⟩:=if_pos on;rwa[e4]
 .show jX.ownsRow g.B 149 1 v (g.I st.d++[T]).length (nR<|g.I st.d++[T]);rwa[e1,e2]
 .have:st.d.r=Ë:=e;rw[on]at this;cases this
 .have:0<st.r:=e;omega
def abd(h:gT m b g nm s st w)(D:st.r=0)(p:st.d.r=Î)(E:st.d.S.length<=100000): Ò À 99 #[Ã<|Â ⟨b,0,Á⟩] w λe u=>e=Ç (ï #[])/\sI m b {st with C:=[84],d:=st.d.nP} w u:=by
 have c3:=h.r.r 3 _ U;have f3:=h.r.C 3;have gH:=h.r.M;have l:=h.C.r p;have z:=h.ap6 p;have F:=λv=>by have:=DC st.d.N.c v;rwa[l.M]at this
 have G:m<=g.B/\g.B<=g.q/\st.d.N.c.length=8:=⟨l.S,l.N,l.M⟩;have I:g.B<=w.heap.size:=by have:=l.r.M;have:=l.N;omega
 have J:(g.I st.d).length<=100000:=by rwa[l.G]
 have L:=h.S;have H:=fi<|Ê G<|Ê I<|Ê J<|Ê L<|Ê D p;have k:=fi<|F g.r;have y:g.S st.d=Â ⟨g.q,0,Á⟩:=if_pos p;go_enter Tryz.func99,Tryz.ntmps99;go_wp2_with fail;change ä À _ _ _ (NT b w);have n:=z.fN (fg.fU _ _) z.N.fU;generalize hT:w.heap.size=T at*;generalize M:(NT b w).drew=w1 at*;let⟨i0,N,O,P,Q⟩:=Ŷ ap4;have r:=fi<|Ê N<|Ê O<|Ê P Q;refine mg (λu=>u.cell? ⟨b,2,Á⟩=Â (Ã<|g.S st.d)/\u.cell? ⟨b,3,Á⟩=Â (Ã<|Â ⟨T,0,Á⟩)/\u.cell? ⟨g.q,8,Á⟩=Â g.r) [19] fw ?_;rw[M];rw[y];have a:Hid (w1.cell? ⟨b,2,Á⟩=Â (Ã<|Â ⟨g.q,0,Á⟩)/\w1.cell? ⟨b,3,Á⟩=Â (Ã<|Â ⟨T,0,Á⟩)/\w1.cell? ⟨g.q,8,Á⟩=Â g.r):=fi ⟨by rw[<-y];exact n.r.r 2 _ U,n.r.r 3 _ U,n.I.r 8 _ k.out⟩;have t:=fi y;apply tk 0 a.out;apply tk 1 a.out;apply tk 2 a.out;apply tk 3 a.out;apply tk 4 a.out;apply tk 5 a.out;apply tk 6 a.out;apply tk 7 a.out;apply tk 8 a.out;apply tk 9 a.out;apply tk 10 a.out;apply tk 11 a.out;apply tk 12 a.out;apply tk 13 a.out;apply tk 14 a.out;have V:=n.M.tb.M;have f:=n.fN (fg.gI (λ_=>False) w1 #[Ã<|Â ⟨T,0,Á⟩] 149) (n.N.gI _ _ ft A λv i=>by simp at i;subst i;exact⟨Ì H.out.1.1 H.out.2.1,V⟩);apply gF 15;intro K j;go_simp;refine j.out _ _ (λ_=>⟨by rw[<-t.out];exact f.r.r 2 _ U,f.r.r 3 _ U,f.I.r 8 _ k.out⟩) ?_;apply gF 16;intro K j;refine aa3 fR _ _ 159 fR Tryz.underlying159 r.out.1 r.out.2.1 r.out.2.2.1 r.out.2.2.2 fR f.C ⟨w1.heap.size,0,Á⟩ fR (Υ w1 _ _) U (by have:=H.out.2.2.1;unfold ě;omega) (by have:=H.out.2.2.1;omega) (by have:=H.out.2.1;have:=f.M.tb.M;omega) A H.out.1.1 f.N ⟨Ì H.out.1.1 H.out.2.1,f.M.tb.M⟩ A ?_;intro v9 w9 x W X;obtain⟨a9,n9c,rfl⟩:=jl x.fu;have i:=f.r.I x.r<|jE f.C f.r A;have o:=f.I.I x.r<|jE f.C f.I A;refine j.out _ _ (λ_=>⟨by rw[<-t.out];exact i.r 2 _ U,i.r 3 _ U,o.r 8 _ k.out⟩) ?_;apply gF 17;intro K j;go_simp;refine j.out _ _ (λ_=>⟨by rw[<-t.out];exact i.r 2 _ U,i.r 3 _ U,o.r 8 _ k.out⟩) ?_;apply gF 18;intro K j;go_simp;refine j.out _ _ (λ_=>⟨by rw[<-t.out];exact i.r 2 _ U,i.r 3 _ U,o.r 8 _ k.out⟩) ?_;have cq8:=o.r 8 _ k.out;have fq8:=o.C 8;have cb4:=i.r 4 _ U;have fb4:=i.C 4;have cb0:=i.r 0 _ U;have fb0:=i.C 0;have cb3:=i.r 3 _ U;have Y:=fl.S o i A;have hbq:¬b=g.q:=λe=>Y e.symm;apply gF 19;intro K j;go_simp;apply j.out _ _ λC=>absurd A C;refine lU fw ?_ _;have C:=fi<|f.jN H.out.2.2.2.1 p H.out.1 H.out.2.1 H.out.2.2.2.2.1 x W X U;go_wp2_with fail;go_end0;exact⟨U,C.out.1,_,_,_,C.out.2⟩
end
section
variable{g:Gh}{nm:Option ý}{s:ByteArray}{f:PS}{d:PD}{Q:Nat}{k:Int}
def ap7(h:w.ownsRow i e 1 v n l)(c:j<=i):w.ownsRow j e 1 v n l:= ⟨h.1,h.2.imp id λ⟨g,d,f,a,b,r⟩=>⟨g,d,f,a,Ì c b,r⟩⟩
def wq.gi(l:wq m g d w):wo w.heap.size g.q ⟨d.N.c,d.S⟩ w:= ⟨l.r.M,l.M,g.r,g.I d,l.r,ap7 l.I<|Ú _,λj a=>(l.I.lt j a).2,l.abb.M (Ú _)<|â _⟩
def kv.abe(h:kv m g d w)(a:d.r=Ë->d.Y=[]):pX w.heap.size (g.C d) d.C w:=by
 unfold Gh.C PD.C;split
 .rename_i e;have l:=h.r e;have c:=l.r.M;have f:=l.N;exact h.I.Ud Z l.gi
 .rename_i e;have b:=a (by simpa using e);have:=h.I.I;rw[b]at this|-;rw[Ó this];exact pX.N _ _
def NU(b:Nat)(k:Int)(w:Í):Í:=(w.setCell ⟨b,2,Á⟩<|Ã<|Â ⟨w.heap.size,0,Á⟩).alloc<|Þ #[Å É 0,Å É 0,Å É 0,Å É 0,Å É k,Å É 0,Å É 0,Å É 0,Æ Á 0 0] 161
def rdQ(s:ByteArray)(g:Gh)(d:PD)(Q:Nat)(nm:Option ý)(ln a:Int):List Ñ:=
 [Ä s,g.N,Ã<|Â ⟨Q,0,Á⟩,Ã<|g.Y d,Ã<|g.G d,Ã nm,Å É ln,Å É a]
structure Gi(m b:Nat)(g:Gh)(d:PD)(Q:Nat)(k:Int)(s:ByteArray)(nm:Option ý)(ln Ul:Int)(w0 w:Í):Prop where
 S:fg (λi=>m<=i) w0 w
 M:jG m w
 r:fl b (rdQ s g d Q nm ln Ul) 153 w
 I:fl Q (Dy (PD.aa1 k).c<|Æ Á 0 0) 161 w
 N:pX Q (g.C d) d.C w
 C:w.ownsRow m 148 1 g.N (g.C d).length (nR<|g.C d)
def Gi.fN{ln:Int}(h:Gi m b g d Q k s nm ln c W w)(a:fg (λ_=>False) w u)(e:jG m u):Gi m b g d Q k s nm ln c W u:= ⟨h.S.C a λ_ _ x=>x.elim,e,h.r.I a id,h.I.I a id,h.N.C a λ_ _ x=>x.elim,ik h.C a λ_ _=>id⟩
def gT.ap8(h:gT m b g nm s f w)(k:Int)(l:f.d.r=Ë->f.d.Y=[]):Gi m b g f.d w.heap.size k s nm f.r f.I w (NU b k w):=by
 have n:(w.setCell ⟨b,2,Á⟩<|Ã<|Â ⟨w.heap.size,0,Á⟩).heap.size=w.heap.size:=ft
 have c:fg (λ_=>False) (w.setCell ⟨b,2,Á⟩<|Ã<|Â ⟨w.heap.size,0,Á⟩) (NU b k w):=fg.gI _ _ _ _;have o:fg (λk=>k=b) w (w.setCell ⟨b,2,Á⟩<|Ã<|Â ⟨w.heap.size,0,Á⟩):=pY h.r;have a:=o.C c λ_ _ x=>x.elim;refine⟨a.S λk _ x=>by rw[x];exact h.S,?_,(h.r.gh 2 _).I c id,?_,(h.C.abe l).C a λi _ x=>Ï ⟨_,_,_,JD x h.r,È U⟩,ik h.C.C a λj p x=>jE h.C.C h.r A<|by rw[p,x]⟩
 .exact h.a.C h.r h.S A _ _ ft A λv e=>by simp at e;rcases e with rfl|rfl|rfl|rfl<;>trivial
 .have:=fl.N (w.setCell ⟨b,2,Á⟩<|Ã<|Â ⟨w.heap.size,0,Á⟩) [Å É 0,Å É 0,Å É 0,Å É 0,Å É k,Å É 0,Å É 0,Å É 0,Æ Á 0 0] 161;rwa[n]at this
def ap9(g:Gh)(d:PD)(Q:Nat)(v:Ñ):Gh:={a:=g.C d,q:=Q,t:=Q,B:=Q,tb:=[],N:=v,r:=Æ Á 0 0,b:=g.Y d}
def Gi.jN{sb:ByteArray}(h:Gi m b g f.d Q k s nm f.r f.I w u)(o:m<=b)(p:m<=Q)(T:f.r=0)(y:sb.size<=10)(B:jY sb=rB k) (a:qC u m 148 1 g.N (g.C f.d).length (nR<|g.C f.d) 1 [Ã<|Â ⟨Q,0,Á⟩] v W) (C:jG m W) (D:nh m W.heap.size v) (l:jX=((W.setCell ⟨b,1,Á⟩ v).setCell ⟨b,4,Á⟩<|Ã<|Â ⟨Q,0,Á⟩).setCell ⟨b,0,Á⟩ (Ä sb)): fg (λi=>m<=i) w jX/\gT m b (ap9 g f.d Q v) nm sb {f with C:=rB k,d:=f.d.F7 k} jX:=by
 have c:=h.r.I a.r<|jE h.C h.r A;have n:=h.I.I a.r<|jE h.C h.I A;have E:=h.N.C a.r λi _ x=>by let⟨e,z⟩:=lG h.C x;exact Ï ⟨_,_,_,z,Ï U⟩
 have F:fg (λk=>k=b) W (W.setCell ⟨b,1,Á⟩ v):=pY c;have q:=c.gh 1 v;have G:fg (λk=>k=b) (W.setCell ⟨b,1,Á⟩ v) ((W.setCell ⟨b,1,Á⟩ v).setCell ⟨b,4,Á⟩<|Ã<|Â ⟨Q,0,Á⟩):=pY q;have r:=q.gh 4<|Ã<|Â ⟨Q,0,Á⟩;have H:fg (λk=>k=b) ((W.setCell ⟨b,1,Á⟩ v).setCell ⟨b,4,Á⟩<|Ã<|Â ⟨Q,0,Á⟩) jX:=by rw[l];exact pY r
 have t:=r.gh 0<|Ä sb;rw[<-l]at t;have z:=(F.fj G).fj H;have I:=n.I z λx=>fl.S n c A x;have J:=E.C z λi _ x=>Ï ⟨_,_,_,JD x c,È U⟩;have K:=ik a.fu z λj L x=>jE a.fu c A (by rw[L,x]);have M:Q<(W.setCell ⟨b,1,Á⟩ v).heap.size:=by simpa using n.M
 have N:jG m jX:=by rw[l];refine((C.r _ D).r _ ?_).r _ trivial;exact⟨p,M⟩
 have O:(g.C f.d++[Q]).length=(g.C f.d).length+1:=ft
 have P:nR (g.C f.d++[Q])=nR (g.C f.d)++[Ã<|Â ⟨Q,0,Á⟩]:=by simp[nR]
 refine⟨(h.S.C a.r λi _ x=> ?_).C z λi _ x=> ?_,o,N,t,y,B,⟨?_,J,λ_=>⟨p,â _,U,I,?_,pn.N _ _ _,(λe=>by cases e),λ_=>⟨rfl,rfl⟩⟩,(λe=>by cases e)⟩,λe=> ?_,È rfl⟩
 .exact(h.C.lt i x).1
 .rwa[x]
 .show jX.ownsRow m 148 1 v (g.C f.d++[Q]).length (nR<|g.C f.d++[Q]);rwa[O,P]
 .exact⟨U,È ⟨U,U⟩⟩
 .have:0<f.r:=e;omega
def aqa:wj f 0=Á:=rfl
def aqb(h:gT m b g nm s f w)(t:f.r=0)(x:f.d.r=Ë->f.d.Y=[])(y:f.d.C.length<=100000)(k:Int): Ò À 96 #[Ã<|Â ⟨b,0,Á⟩,Å É k] w λe u=>match wj f k with
  |none=>e=Ç (û Ë)/\u=w
  |some i=>e=Ç (û Î)/\sI m b i w u:=by
 by_cases n:k=0
 .subst n;rw[aqa];go_enter ο,Χ;go_wp2;go_ret;exact⟨U,U⟩
 have Q:(k==0)=Ë:=by rwa[beq_eq_false_iff_ne]
 have e:wj f k=Â {f with C:=rB k,d:=f.d.F7 k}:=if_neg n;rw[e];have V:=h.r.r 2 _ U;have W:=h.r.C 2;have X:=h.r.M;have q:=h.ap8 k x;have z:(g.C f.d).length<=100000:=by rwa[h.C.aa4]
 have B:=h.S;have C:m<=w.heap.size:=Z
 have H:=fi<|Ê B<|Ê C<|Ê z t;go_enter ο,Χ;go_wp2_with fail;change ä À _ _ _ (NU b k w);have j:=q.fN (fg.fU _ _) q.M.fU;generalize Y:w.heap.size=T at*;generalize D:(NU b k w).drew=w1 at*;let⟨i0,E,F,G,I⟩:=Ŷ ap5;have l:=fi<|Ê E<|Ê F<|Ê G I;refine mg (λu=>u.cell? ⟨b,1,Á⟩=Â g.N/\u.cell? ⟨b,2,Á⟩=Â (Ã<|Â ⟨T,0,Á⟩)) [13] fw ?_;rw[D];have c:Hid (w1.cell? ⟨b,1,Á⟩=Â g.N/\w1.cell? ⟨b,2,Á⟩=Â (Ã<|Â ⟨T,0,Á⟩)):=fi ⟨j.r.r 1 _ U,j.r.r 2 _ U⟩;apply tk 0 c.out;apply tk 1 c.out;apply tk 2 c.out;apply tk 3 c.out;apply tk 4 c.out;apply tk 5 c.out;apply tk 6 c.out;apply tk 7 c.out;apply tk 8 c.out;have J:=j.I.M;have a:=j.fN (fg.gI (λ_=>False) w1 #[Ã<|Â ⟨T,0,Á⟩] 148) (j.M.gI _ _ ft A λv i=>by simp at i;subst i;exact⟨H.out.2.1,J⟩);apply gF 9;intro K i;go_simp;apply i.out _ _ λ_=>⟨a.r.r 1 _ U,a.r.r 2 _ U⟩;apply gF 10;intro K i;refine aa3 fR _ _ 61 fR Tryz.underlying61 l.out.1 l.out.2.1 l.out.2.2.1 l.out.2.2.2 fR a.C ⟨w1.heap.size,0,Á⟩ fR (Υ w1 _ _) U (by have:=H.out.2.2.1;unfold ě;omega) (by have:=H.out.2.2.1;omega) (by have:=H.out.2.1;have:=a.I.M;omega) A (â _) a.M ⟨H.out.2.1,a.I.M⟩ A ?_;intro v9 w9 o L M;obtain⟨a9,n9c,rfl⟩:=jl o.fu;have v:=a.r.I o.r<|jE a.C a.r A;apply i.out _ _ λ_=>⟨v.r 1 _ U,v.r 2 _ U⟩;apply gF 11;intro K i;go_simp;apply i.out _ _ λ_=>⟨v.r 1 _ U,v.r 2 _ U⟩;apply gF 12;intro K i;go_simp;apply i.out _ _ λ_=>⟨v.r 1 _ U,v.r 2 _ U⟩;have cb1:=v.r 1 _ U;have fb1:=v.C 1;have cb4:=v.r 4 _ U;have fb4:=v.C 4;have cb0:=v.r 0 _ U;have fb0:=v.C 0;have cb2:=v.r 2 _ U;apply gF 13;intro K i;go_simp;apply i.out _ _ λp=>absurd A p;refine lU fw ?_ _;have N:=fi λp r O=>a.jN (sb:=p) H.out.1 H.out.2.1 H.out.2.2.2 r O o L M U;go_wp2_with (go_at_call 145;refine(apY _ _).mono ?_;rintro e u ⟨⟨p,rfl,O,P⟩,r⟩;subst u);go_ret;have r:=N.out p O P;exact⟨U,r.1,_,_,_,r.2⟩
end
def lL(i:Nat)(z:Int):Prop:=match i with
 |0=>0<=z/\z<8
 |1=>0<=z/\z<8
 |2=>0<=z/\z<1000000
 |3=>0<=z/\z<1000000
 |4=>1<=z/\z<10
 |5=>-1<=z/\z<1000000
 |6=>-1<=z/\z<1000000
 |7=>0<=z/\z<16
 |_=>True
structure Gj(n m:Nat)(c:List Int):Prop where
 C:c.length=n
 r:∀i,i<m->lL i (c.getD i 0)
def Gj.I(h:Gj n m zQ)(i:Nat)(z:Int)(d:i<m->lL i z):Gj n m (zQ.set i z):=by
 refine⟨by simp[h.C],λj b=> ?_⟩;have:=h.r j b;by_cases e:i=j
 .subst e;by_cases f:i<zQ.length
  .have a:(zQ.set i z).getD i 0=z:=by simp[ď,f]
   rw[a];exact d b
  .rw[List.set_eq_of_length_le Z];exact this
 .have a:(zQ.set i z).getD j 0=zQ.getD j 0:=by simp[ď,List.getElem?_set_ne e]
  rw[a];exact this
def NV(h:i<zQ.length)(z:Int):(zQ.set i z).getD i 0=z:=by simp[ď,h]
structure nI(t:PT):Prop where
 c:Gj 5 4 t.c
 p:t.p.size<=40/\∀c∈t.p.data.toList,xF c=Î
structure uZ(r:PR):Prop where
 c:Gj 8 8 r.c
 C:∀t∈r.r,nI t
 n:r.r.length<=8
structure ko(d:PD):Prop where
 N:d.r=Ë->d.Y=[]/\d.I=Ë
 b:d.I=Ë->d.N.r=[]
 C:d.C.length<=24
 I:d.S.length<=8
 S:∀r∈d.Y,uZ r
 M:d.r=Î->Gj 8 8 d.N.c
 a:d.r=Î->∀t∈d.N.r,nI t
 Y:d.I=Î->nI d.M
structure jy(B:ByteArray)(k:Nat)(st:PS):Prop where
 M:0<=st.r
 r:st.r<=5
 C:0<=st.I
 I:st.I<=40
 e:0<st.r->(st.M=86\/st.M=87\/st.M=110\/st.M=107)/\st.d.r=Î/\0<=st.d.G st.M/\st.d.G st.M<10^(6-st.r.toNat)
 d:ko st.d
 c:st.d.r=Î\/st.C=[82]
 b:82∈st.C->st.d.C.length<24
 N:84∈st.C\/80∈st.C->st.d.I=Î
 a:66∈st.C->st.d.I=Ë
 S:80∈st.C->st.C=[80]/\st.r=0
 Y:80∈st.C->st.I.toNat<=k/\∀j (h:j<B.size),k-st.I.toNat<=j->j<k->xF B[j]=Î
section
variable{d:PD}{st o:PS}
def ko.abf(h:ko d)(on:d.r=Î):∀t∈d.S,nI t:=by
 unfold PD.S;split
 .rename_i e;intro t a;rcases à.1 a with q|q
  .exact h.a on t q
  .rw[ŗ]at q;rw[q];exact h.Y e
 .exact h.a on
def ko.G(h:ko d):∀r∈d.C,uZ r:=by
 unfold PD.C;split
 .rename_i e;intro r a;rcases à.1 a with q|q
  .exact h.S r q
  .rw[ŗ]at q;rw[q];exact⟨h.M e,h.abf e,h.I⟩
 .exact h.S
def xU(d:PD):d.C.length=d.Y.length+(if d.r then 1 else 0):=by unfold PD.C;split<;>simp
def JF(d:PD):d.S.length=d.N.r.length+(if d.I then 1 else 0):=by unfold PD.S;split<;>simp
def ko.r(h:ko d)(i:Nat)(z:Int)(a:lL i z):ko (d.pg i z):= ⟨h.N,h.b,by have:=h.C;rw[xU]at this|-;exact this,by have:=h.I;rw[JF]at this|-;exact this,h.S,λe=>(h.M e).I i z λ_=>a,h.a,h.Y⟩
def ko.pV(h:ko d)(i:Nat)(z:Int)(a:i<4->lL i z):ko (d.pV i z):= ⟨h.N,h.b,by have:=h.C;rw[xU]at this|-;exact this,by have:=h.I;rw[JF]at this|-;exact this,h.S,h.M,h.a,λe=>⟨(h.Y e).c.I i z a,(h.Y e).p⟩⟩
def ko.jF(h:ko d)(i:Nat)(z:Int)(a:lL i z):ko (d.jF i z):=by
 unfold PD.jF;split
 .exact h.pV i z λ_=>a
 .exact h.r i z a
def ko.pj(h:ko d)(p:ByteArray)(a:p.size<=40/\∀c∈p.data.toList,xF c=Î):ko (d.pj p):= ⟨h.N,h.b,by have:=h.C;rw[xU]at this|-;exact this,by have:=h.I;rw[JF]at this|-;exact this,h.S,h.M,h.a,λe=>⟨(h.Y e).c,a⟩⟩
def aqc:nI PD.F3:=⟨⟨U,λi a=>by
 match i,a with
 |0,_=>exact⟨A,A⟩
 |1,_=>exact⟨A,A⟩
 |2,_=>exact⟨A,A⟩
 |3,_=>exact⟨A,A⟩⟩,⟨A,λc b=>by cases b⟩⟩
def ko.nP(h:ko d)(on:d.r=Î)(a:d.S.length<8):ko d.nP:= ⟨(λe=>by have:d.r=Ë:=e;rw[on]at this;cases this),(λe=>by cases e),by have:=h.C;rw[xU]at this|-;exact this,by rwa[JF],h.S,λe=>h.M e,λ_=>h.abf on,λ_=>aqc⟩
def ko.F7(h:ko d)(q:Int)(a:1<=q/\q<10)(b:d.C.length<24):ko (d.F7 q):= ⟨(λe=>by cases e),λ_=>rfl,by rwa[xU],by show(0:Nat)<=8;decide,h.G,λ_=>⟨U,λi c=>by
   match i,c with
   |0,_=>exact⟨by show(0:Int)<=0;decide,by show(0:Int)<8;decide⟩
   |1,_=>exact⟨by show(0:Int)<=0;decide,by show(0:Int)<8;decide⟩
   |2,_=>exact⟨by show(0:Int)<=0;decide,by show(0:Int)<1000000;decide⟩
   |3,_=>exact⟨by show(0:Int)<=0;decide,by show(0:Int)<1000000;decide⟩
   |4,_=>exact a
   |5,_=>exact⟨by show(-1:Int)<=0;decide,by show(0:Int)<1000000;decide⟩
   |6,_=>exact⟨by show(-1:Int)<=0;decide,by show(0:Int)<1000000;decide⟩
   |7,_=>exact⟨by show(0:Int)<=0;decide,by show(0:Int)<16;decide⟩⟩,(λ_ t f=>by cases f),(λe=>by cases e)⟩
def ko.gh(h:ko d)(a z:Int)(b:(a=86->lL 5 z)/\(a=87->lL 6 z)/\(a=120->lL 0 z)/\(a=121->lL 1 z)/\(a=110->lL 2 z)/\(a=107->lL 3 z)/\(a=115->lL 7 z)):ko (d.gh a z):=by
 let⟨c,e,f,g,i,j,k⟩:=b;unfold PD.gh;repeat' split
 .exact h.r 5 z<|c ‹_›
 .exact h.r 6 z<|e ‹_›
 .exact h.jF 0 z<|f ‹_›
 .exact h.jF 1 z<|g ‹_›
 .exact h.jF 2 z<|i ‹_›
 .exact h.jF 3 z<|j ‹_›
 .exact h.r 7 z<|k ‹_›
 .exact h
def Un(d:PD)(a z:Int):(d.gh a z).r=d.r/\(d.gh a z).I=d.I/\(d.gh a z).C.length=d.C.length:=by
 unfold PD.gh PD.jF;repeat' split
 all_goals exact⟨U,U,(xU _).trans (xU d).symm⟩
def Uo(h:ko d)(on:d.r=Î)(a z:Int)(f:a=86\/a=87\/a=110\/a=107):(d.gh a z).G a=z:=by
 have g:=(h.M on).C;have b:∀i,i<4->(d.jF i z).wi i=z:=λi j=>by
  unfold PD.jF;split
  .rename_i e;have k:=(h.Y e).c.C;show(if d.I=Î then(d.M.c.set i z).getD i 0 else d.N.c.getD i 0)=z;rw[if_pos e];exact NV Z z
  .rename_i e;show(if d.I=Î then d.M.c.getD i 0 else(d.N.c.set i z).getD i 0)=z;rw[if_neg e];exact NV Z z
 rcases f with rfl|rfl|rfl|rfl
 .exact NV Z z
 .exact NV Z z
 .exact b 2 A
 .exact b 3 A
def NW:∀(l:List UInt8) (c:UInt8),á l c<l.length
 |[],_=>by show(-1:Int)<0;decide
 |a::l,c=>by
  have:=NW l c;unfold á;split
  .simp
  .split<;>(simp;omega)
def Up:∀(l:List UInt8) (c:UInt8),c∈l->0<=á l c
 |[],_,h=>by cases h
 |a::l,c,h=>by
  unfold á;split
  .decide
  .rename_i e;rcases List.mem_cons.1 h with q|q
   .subst q;simp at e
   .have:=Up l c q;split
    .rename_i b;rw[beq_iff_eq]at b;omega
    .omega
def abg{l:List UInt8}(h:c.toNat∈l.map UInt8.toNat):c.toNat.toUInt8∈l:=by let⟨x,a,b⟩:=Ý.1 h;rw[<-b];simpa using a
def abh(h:sE c=Î):0<=á [97,98,99,100,101,102,103,104] c.toNat.toUInt8:=by rw[apL]at h;refine Up _ _<|abg ?_;simp;omega
def aqd(h:(iX c||(decide (97<=c)&&decide (c<=102)))=Î):0<=á [48,49,50,51,52,53,54,55,56,57,97,98,99,100,101,102] c.toNat.toUInt8:=by simp only[Bool.or_eq_true,F6,Bool.and_eq_true,decide_eq_true_eq]at h;refine Up _ _<|abg ?_;simp;omega
def aqe(a:pf h c=Î):(h=86->lL 5 (ow h c))/\(h=87->lL 6 (ow h c))/\(h=120->lL 0 (ow h c))/\(h=121->lL 1 (ow h c))/\(h=110->lL 2 (ow h c))/\(h=107->lL 3 (ow h c))/\(h=115->lL 7 (ow h c)):=by
 unfold pf at a;have b:(c==104||iX c)=Î->-1<=(if c=104 then-1 else(c-48)%256)/\(if c=104 then(-1:Int)else(c-48)%256)<1000000:=λq=>by split<;>omega
 have d:iX c=Î->0<=(if c=104 then-1 else(c-48)%256)/\(if c=104 then(-1:Int)else(c-48)%256)<1000000:=λq=>by rw[F6]at q;rw[if_neg Z];omega
 refine⟨?_,?_,?_,?_,?_,?_,?_⟩<;>rintro rfl
 .exact b a
 .exact b a
 .exact⟨abh a,NW _ _⟩
 .exact⟨abh a,NW _ _⟩
 .exact d a
 .exact d a
 .exact⟨aqd a,NW _ _⟩
def aqf{ln:Int}(a:iX c=Î)(f:0<=h)(g:0<ln)(i:ln<=5)(b:h<10^(6-ln.toNat)):0<=tN h c/\tN h c<10^(6-(ln-1).toNat)/\tN h c<1000000:=by
 rw[F6]at a;have d:h<100000->tN h c=h*10+(c-48):=λq=>by unfold tN;rw[ņ (h*10) ⟨Z,Z⟩,ņ _ ⟨Z,Z⟩];omega
 have e:ln=1\/ln=2\/ln=3\/ln=4\/ln=5:=Z
 rcases e with rfl|rfl|rfl|rfl|rfl<;>(simp at b|-;rw[d Z];omega)
def ko.ln(h:ko d)(a z:Int)(c:a=86\/a=87\/a=110\/a=107)(b:0<=z/\z<1000000):ko (d.gh a z):= h.gh a z ⟨λ_=>⟨Z,b.2⟩,λ_=>⟨Z,b.2⟩,λe=>by omega,λe=>by omega,λ_=>b,λ_=>b,λe=>by omega⟩
def jy.aqg(h:jy B k st)(e:0<st.r)(j:iX c=Î):jy B (k+1) (F8 st c):=by
 let⟨a,b,l,m⟩:=h.e e;let⟨f,n,o⟩:=aqf j l e h.r m;let⟨g,i,p⟩:=Un st.d st.M<|tN (st.d.G st.M) c;refine⟨by show 0<=st.r-1;omega,by have:=h.r;show st.r-1<=5;omega,h.C,h.I,λ_=>⟨a,g.trans b,?_⟩,h.d.ln _ _ a ⟨f,o⟩,?_,λq=> ?_,λq=>i.trans<|h.N q,λq=>i.trans<|h.a q,λq=> ?_,λq=> ?_⟩
 .show 0<=(st.d.gh st.M<|tN (st.d.G st.M) c).G st.M/\(st.d.gh st.M<|tN (st.d.G st.M) c).G st.M<10^(6-(st.r-1).toNat);rw[Uo h.d b _ _ a];exact⟨f,n⟩
 .exact È<|g.trans b
 .show(st.d.gh st.M<|tN (st.d.G st.M) c).C.length<24;rw[p];exact h.b q
 .have:=(h.S q).2;omega
 .have:=(h.S q).2;omega
def jy.vp(h:jy B k st):jy B k {st with r:=0}:= ⟨Ŭ _,by show(0:Int)<=5;decide,h.C,h.I,(λq=>by cases q),h.d,h.c,h.b,h.N,h.a,λq=>⟨(h.S q).1,rfl⟩,h.Y⟩
def jy.on(h:jy B k st)(a:82∉st.C):st.d.r=Î:=by
 rcases h.c with q|q
 .exact q
 .rw[q]at a;exact absurd A a
def ko.aqh(h:ko d)(a:d.I=Î):d.r=Î:=by
 cases e:d.r with
 |true=>rfl
 |false=>have:=(h.N e).2;rw[a]at this;cases this
def abj(h:jy B k st)(b:st.r=0)(on:st.d.r=Î)(a:pW st c=Â o):jy B (k+1) o:=by
 unfold pW at a;split at a
 .rename_i e;cases a;refine⟨h.M,h.r,h.C,h.I,λq=> ?_,h.d,Ï U,λ_=> ?_,λq=> ?_,λq=> ?_,λq=> ?_,λq=> ?_⟩
  .have:0<st.r:=q;omega
  .rw[xU,on];exact e.2
  .simp at q
  .simp at q
  .simp at q
  .simp at q
 .split at a
  .rename_i e;cases a;refine⟨h.M,h.r,h.C,h.I,λq=> ?_,h.d.nP on e.2.2,È on,λq=> ?_,λ_=>rfl,λq=> ?_,λq=> ?_,λq=> ?_⟩
   .have:0<st.r:=q;omega
   .simp at q
   .simp at q
   .simp at q
   .simp at q
  .cases a
def aqi(q:Int):82∉rB q/\84∉rB q/\80∉rB q:=by
 unfold rB;repeat' split
 all_goals decide
def aqj(q:Int):82∉sF q/\84∉sF q/\66∉sF q/\(80∈sF q->sF q=[80]):=by
 unfold sF;repeat' split
 all_goals decide
def aqk(c:Int):0<=uX c/\uX c<10:=by
 unfold uX;repeat' split
 all_goals decide
def aql(h:jy B k st)(j:st.r=0)(f:82∈st.C)(a:wj st (uX c)=Â o):jy B (k+1) o:=by
 unfold wj at a;split at a
 .cases a
 .rename_i e;cases a;let⟨g,i,b⟩:=aqi<|uX c;have l:=aqk c;refine⟨h.M,h.r,h.C,h.I,λq=> ?_,h.d.F7 _ Z<|h.b f,È U,λq=>absurd q g,λq=> ?_,λ_=>rfl,λq=>absurd q b,λq=>absurd q b⟩
  .have:0<st.r:=q;omega
  .exact q.elim (λq=>absurd q i) λq=>absurd q b
def aqm(h:jy B k st)(c:st.r=0)(q:Int)(f:84∈st.C)(a:wm st q=Â o):jy B (k+1) o:=by
 unfold wm at a;split at a
 .cases a
 .cases a;let⟨g,n,i,l⟩:=aqj q;have b:=h.N<|È f;refine⟨h.M,h.r,Ŭ _,by show(0:Int)<=40;decide,λq=> ?_,h.d.pV 4 q λe=>by omega,È<|h.d.aqh b,λq=>absurd q g,λ_=>b,λq=>absurd q i,λq=>⟨l q,c⟩,λ_=>⟨Ú _,λj _ m p=> ?_⟩⟩
  .have:0<st.r:=q;omega
  .have:k+1-0<=j:=m;omega
def aqn{a:Int}(h:0<sG a c):(a=86\/a=87)/\sG a c=1/\iX c=Î/\c≠48\/(a=110\/a=107)/\sG a c=5/\iX c=Î/\c≠48:=by
 unfold sG at h|-;by_cases e:c=48\/iX c=Ë
 .rw[if_pos e]at h;omega
 .rw[if_neg e]at h|-;have d:iX c=Î:=by cases q:iX c with
   |true=>rfl
   |false=>exact absurd (Ï q) e
  have g:=λq=>e<|È q;by_cases f:a=86\/a=87
  .rw[if_pos f];exact È ⟨f,U,d,g⟩
  .rw[if_neg f]at h|-;by_cases b:a=110\/a=107
   .rw[if_pos b];exact Ï ⟨b,U,d,g⟩
   .rw[if_neg b]at h;omega
def abk(h:jy B k st)(on:st.d.r=Î){want:Int}(n:pf want c=Î)(r:List Int)(e:∀x∈r,x∈st.C)(j:80∉r):jy B (k+1) {oJ st want c with C:=r}:=by
 let⟨f,l,o⟩:=Un st.d want<|ow want c;have m:=apP want c;refine⟨m.1,m.2,h.C,h.I,λq=> ?_,h.d.gh _ _<|aqe n,È<|f.trans on,λq=> ?_,λq=>l.trans<|h.N<|q.imp (e _)<|e _,λq=>l.trans<|h.a<|e _ q,λq=>absurd q j,λq=>absurd q j⟩
 .have q:=q;show(want=86\/want=87\/want=110\/want=107)/\(st.d.gh want<|ow want c).r=Î/\0<=(st.d.gh want<|ow want c).G want/\(st.d.gh want<|ow want c).G want<10^(6-(sG want c).toNat);rcases aqn q with⟨p,g,i,s⟩|⟨p,g,i,s⟩
  .have a:want=86\/want=87\/want=110\/want=107:=Z
   rw[Uo h.d on _ _ a,g];rw[F6]at i;have:ow want c=(c-48)%256:=by unfold ow;rw[if_neg Z,if_neg Z,if_neg Z]
   have b:=f.trans on;rw[this]at b|-;exact⟨a,b,Z,by show(c-48)%256<100000;omega⟩
  .have a:want=86\/want=87\/want=110\/want=107:=Z
   rw[Uo h.d on _ _ a,g];rw[F6]at i;have:ow want c=(c-48)%256:=by unfold ow;rw[if_neg Z,if_neg Z,if_neg Z]
   have b:=f.trans on;rw[this]at b|-;exact⟨a,b,Z,by show(c-48)%256<10;omega⟩
 .show(st.d.gh want<|ow want c).C.length<24;rw[o];exact h.b<|e _ q
def aqo{x:UInt8}(h:x∈(B.extract i b).data.toList):∃j,∃e:j<B.size,i<=j/\j<b/\B[j]=x:=by rw[Ļ,ń,İ]at h;obtain⟨c,d,rfl⟩:=Ħ h;simp only[ţ,List.length_drop,Č]at d;have f:B.data.size=B.size:=rfl;exact⟨i+c,Z,Z,Z,by simp[Ē]⟩
def aqp(h:jy B k st)(l:st.r=0)(H:k<B.size)(a:kQ B k st (B[k].toNat:Int)=Â o):jy B (k+1) o:=by
 unfold kQ at a;split at a
 .rename_i e;exact abj h l (h.on<|by rw[e];decide) a
 .rename_i u r e;have c:u∈st.C:=by rw[e];exact List.mem_cons_self ..
  split at a
  .rename_i f;subst f;exact aql h l c a
  rename_i v;have i:st.d.r=Î:=by
   rcases h.c with q|q
   .exact q
   .rw[q]at e;cases e;exact absurd U v
  split at a
  .rename_i f;subst f;split at a
   .rename_i w;cases a;have n:=h.a c;have b:st.d.S.length<8:=by rw[JF,h.d.b n,n];decide
    have y:jy B k {st with C:=[84],d:=st.d.nP}:=by
     refine⟨h.M,h.r,h.C,h.I,λq=> ?_,h.d.nP i b,È i,λq=> ?_,λ_=>rfl,λq=> ?_,λq=> ?_,λq=> ?_⟩
     .have:0<st.r:=q;omega
     .simp at q
     .simp at q
     .simp at q
     .simp at q
    exact abk (want:=120) y i w [84] (λx b=>b) A
   .exact abj h l i a
  split at a
  .rename_i f;subst f;exact aqm h l _ c a
  split at a
  .rename_i f;subst f;let⟨I,s⟩:=h.Y c;have n:=h.N<|Ï c;have z:=(h.S c).1;have J:=h.C;have K:=h.I;split at a
   .cases a;have C:r=[]:=by rw[z]at e;cases e;rfl
    subst C;refine⟨h.M,h.r,h.C,h.I,λq=> ?_,h.d.pj _ ⟨by rw[ĕ];omega,λx b=> ?_⟩,È i,λq=> ?_,λq=> ?_,λq=> ?_,λq=> ?_,λq=> ?_⟩
    .have:0<st.r:=q;omega
    .obtain⟨j,p,m,t,rfl⟩:=aqo b;exact s j p m t
    .cases q
    .rcases q with q|q<;>cases q
    .cases q
    .cases q
    .cases q
   .split at a
    .cases a
    .rename_i g;cases a;have L:=λq=>g<|È q;have D:=λq=>g<|Ï q;refine⟨h.M,h.r,by show 0<=st.I+1;omega,by show st.I+1<=40;omega,h.e,h.d,h.c,h.b,h.N,h.a,h.S,λ_=>⟨by show(st.I+1).toNat<=k+1;omega,λj p m t=> ?_⟩⟩;have m:k+1-(st.I+1).toNat<=j:=m;by_cases E:j=k
     .subst E;unfold xF;simpa using D
     .exact s j p Z Z
  split at a
  .rename_i M N F G;cases a;refine abk h i G r (λx b=>by rw[e];exact ğ _ b) λq=> ?_;have:=(h.S<|by rw[e];exact ğ _ q).1;rw[this]at e;cases e;exact F U
  .cases a
def abl(h:jy B k st)(b:k<B.size)(a:nQ B k st (B[k].toNat:Int)=Â o):jy B (k+1) o:=by
 unfold nQ at a;split at a
 .rename_i e;cases a;exact h.aqg e.1 e.2
 .exact aqp h.vp U b a
def Uq(B:ByteArray):jy B 0 ng:= ⟨A,A,A,A,(λq=>by cases q),⟨λ_=>⟨rfl,rfl⟩,λ_=>rfl,A,A,(λr e=>by cases e),(λe=>by cases e),(λe=>by cases e),(λe=>by cases e)⟩,Ï rfl,λ_=>by decide,(λq=>by rcases q with q|q<;>simp[ng]at q),(λq=>by simp[ng]at q),(λq=>by simp[ng]at q),(λq=>by simp[ng]at q)⟩
def Ur:∀(f k:Nat) (st:PS),jy B k st->k<=B.size->jy B (oK B f k st).1 (oK B f k st).2/\(oK B f k st).1<=B.size
 |0,k,st,h,hk=>⟨h,hk⟩
 |f+1,k,st,h,hk=>by
  unfold oK;split
  .rename_i a;split
   .exact⟨h,hk⟩
   .rename_i o e;exact Ur f (k+1) o (abl h a e) Z
  .exact⟨h,hk⟩
end
section
variable{g:Gh}{st:PS}
def abm{d:PD}(i:Nat)(z:Int):g.M (d.jF i z)=g.M d:=by unfold PD.jF Gh.M;split<;>simp[PD.pV,PD.pg, *]
def abn{d:PD}(h:i=2\/i=3)(z:Int):g.Dz (d.jF i z) (if i=2 then 110 else 107)=⟨g.M d,i,Á⟩:=by
 rcases h with rfl|rfl
 .show(⟨g.M<|d.jF 2 z,2,Á⟩:ý)=_;rw[abm]
 .show(⟨g.M<|d.jF 3 z,3,Á⟩:ý)=_;rw[abm]
def abo{d:PD}(on:d.r=Î):g.S d=Â ⟨g.q,0,Á⟩:=if_pos on
def aqr{d:PD}(on:d.r=Î):g.G d=Â ⟨g.M d,0,Á⟩:=if_pos on
def MJ(h:gT m b g O B st w)(j:st.r=0)(on:st.d.r=Î)(a c:Int)(v:pf a c=Î): Ò À 100 #[Ã<|Â ⟨b,0,Á⟩,Å Ų a,Å Ų c] w λe u=>e=Ç (ï #[])/\sI m b (oJ st a c) w u:=by
 have G:w.cell? ⟨b,2,Á⟩=Â (Ã<|g.S st.d):=h.r.r 2 _ U;have x:w.cell? ⟨b,4,Á⟩=Â (Ã<|g.G st.d):=h.r.r 4 _ U;rw[abo on]at G;rw[aqr on]at x;have H:=fi<|Ê h v;clear h v;generalize y:g.M st.d=tm at x;have n:=fi y;clear y;by_cases o:a=86
 .subst o;have k:=fi (show oJ st 86 c={st with r:=wv c 2,M:=86,d:=st.d.pg 5 (mM c)}from by unfold oJ;rw[<-NP H.out.2 (È ⟨È U,U⟩),NS A];rfl);go_enter Ą,Ā;go_wp2_with (go_at_call 147;refine(NO H.out.1 (Gc H.out.1.C H.out.1.r on (i:=5) A) j on _ _ 86 A A λz=>rfl).mono ?_;rintro e u ⟨rfl,l⟩);go_end0;exact⟨U,by rwa[k.out]⟩
 have I:(a==86)=Ë:=by rwa[beq_eq_false_iff_ne]
 by_cases p:a=87
 .subst p;have k:=fi (show oJ st 87 c={st with r:=wv c 2,M:=87,d:=st.d.pg 6 (mM c)}from by unfold oJ;rw[<-NP H.out.2 (È ⟨Ï U,U⟩),NS A];rfl);go_enter Ą,Ā;go_wp2_with (go_at_call 147;refine(NO H.out.1 (Gc H.out.1.C H.out.1.r on (i:=6) A) j on _ _ 87 A A λz=>rfl).mono ?_;rintro e u ⟨rfl,l⟩);go_end0;exact⟨U,by rwa[k.out]⟩
 have J:(a==87)=Ë:=by rwa[beq_eq_false_iff_ne]
 by_cases q:a=120
 .subst q;have f:=fi ((by have:=Gd H.out.1.C H.out.1.r on (i:=0) A;rw[n.out]at this;exact this:qL m b g st.d tm 0 (λz=>st.d.jF 0 z) (st.d.wi 0) w));have C:=f.out.C;have D:=f.out.I;have E:=f.out.r;go_enter Ą,Ā;go_wp2_with fail;go_region_with (go_at_call 146;refine(JB _ _ _).mono ?_;rintro e u ⟨rfl,F⟩;subst u);all_goals go_end0
  all_goals exact⟨U,Uk H.out.1 f.out j (NQ A) U⟩
 have K:(a==120)=Ë:=by rwa[beq_eq_false_iff_ne]
 by_cases r:a=121
 .subst r;have f:=fi ((by have:=Gd H.out.1.C H.out.1.r on (i:=1) A;rw[n.out]at this;exact this:qL m b g st.d tm 1 (λz=>st.d.jF 1 z) (st.d.wi 1) w));have C:=f.out.C;have D:=f.out.I;have E:=f.out.r;go_enter Ą,Ā;go_wp2_with fail;go_region_with (go_at_call 146;refine(JB _ _ _).mono ?_;rintro e u ⟨rfl,F⟩;subst u);all_goals go_end0
  all_goals exact⟨U,Uk H.out.1 f.out j (NQ A) U⟩
 have L:(a==121)=Ë:=by rwa[beq_eq_false_iff_ne]
 by_cases s:a=110
 .subst s;have k:=fi (show oJ st 110 c={st with r:=wv c 6,M:=110,d:=st.d.jF 2 (mM c)}from by unfold oJ;rw[<-NP H.out.2 (Ï ⟨È U,U⟩),NS A];rfl);go_enter Ą,Ā;go_wp2_with (go_at_call 147;refine(NO H.out.1 ((by have:=Gd H.out.1.C H.out.1.r on (i:=2) A;rw[n.out]at this;exact this:qL m b g st.d tm 2 (λz=>st.d.jF 2 z) (st.d.wi 2) w)) j on _ _ 110 A A λz=>(by have:=abn (g:=g) (d:=st.d) (i:=2) (È U) z;rwa[n.out]at this)).mono ?_;rintro e u ⟨rfl,l⟩);go_end0;exact⟨U,by rwa[k.out]⟩
 have M:(a==110)=Ë:=by rwa[beq_eq_false_iff_ne]
 by_cases t:a=107
 .subst t;have k:=fi (show oJ st 107 c={st with r:=wv c 6,M:=107,d:=st.d.jF 3 (mM c)}from by unfold oJ;rw[<-NP H.out.2 (Ï ⟨Ï U,U⟩),NS A];rfl);go_enter Ą,Ā;go_wp2_with (go_at_call 147;refine(NO H.out.1 ((by have:=Gd H.out.1.C H.out.1.r on (i:=3) A;rw[n.out]at this;exact this:qL m b g st.d tm 3 (λz=>st.d.jF 3 z) (st.d.wi 3) w)) j on _ _ 107 A A λz=>(by have:=abn (g:=g) (d:=st.d) (i:=3) (Ï U) z;rwa[n.out]at this)).mono ?_;rintro e u ⟨rfl,l⟩);go_end0;exact⟨U,by rwa[k.out]⟩
 have l:(a==107)=Ë:=by rwa[beq_eq_false_iff_ne]
 by_cases k:a=115
 .subst k;have f:=fi<|Gc H.out.1.C H.out.1.r on (i:=7) A;have C:=f.out.C;have D:=f.out.I;have E:=f.out.r;go_enter Ą,Ā;go_wp2_with fail;go_region_with (go_at_call 146;refine(JB _ _ _).mono ?_;rintro e u ⟨rfl,F⟩;subst u);all_goals go_end0
  all_goals exact⟨U,Uk H.out.1 f.out j (NQ A) U⟩
 have f:(a==115)=Ë:=by rwa[beq_eq_false_iff_ne]
 go_enter Ą,Ā;go_wp2;go_end0;refine⟨U,fg.fW _ _,g,O,B,?_⟩;have e:oJ st a c={st with M:=a}:=by unfold oJ PD.gh;rw[NQ ⟨Z,Z⟩,if_neg o,if_neg p,if_neg q,if_neg r,if_neg s,if_neg t,if_neg k,<-j]
 rw[e];exact H.out.1.Ui a j
end
section
variable{g:Gh}{s:ByteArray}{st:PS}{d:PD}
def NY(m b:Nat)(o:Option PS)(e:Ending)(w u:Í):Prop:=
 (o=Á/\e=Ç (û Ë)/\u=w)\/∃a,o=Â a/\e=Ç (û Î)/\sI m b a w u
def abp{o:Option PS}{e:Ending}(h:match o with
 |none=>e=Ç (û Ë)/\u=w
 |some a=>e=Ç (û Î)/\sI m b a w u):NY m b o e w u:=by
 cases o with
 |none=>exact È ⟨U,h⟩
 |some a=>exact Ï ⟨a,U,h⟩
def aqs{d:PD}(on:d.r=Î):d.C.length=d.Y.length+1:=by rw[xU,on];rfl
def abq(h:gT m b g O s st w)(j:st.r=0)(on:st.d.r=Î)(y:st.d.S.length<=8)(z:st.d.C.length<=24)(c:Int): Ò À 95 #[Ã<|Â ⟨b,0,Á⟩,Å Ų c] w λe u=>NY m b (pW st c) e w u:=by
 have l:=h.C.r on;let⟨I,J,p⟩:=jl h.C.C;let⟨K,L,q⟩:=jl l.I;rw[h.C.aa4]at p;rw[l.G]at q;have M:=h.r.r 0 _ U;have r:=h.r.r 1 _ U;have B:=h.r.r 2 _ U;rw[abo on]at B;rw[p]at r;have t:=l.r.r 8 _ (by have:=DC st.d.N.c g.r;rwa[l.M]at this);rw[q]at t;have N:=h.r.C 0;obtain⟨v,f⟩:∃n,st.d.C.length=n:=⟨_,U⟩;obtain⟨x,i⟩:∃n,st.d.S.length=n:=⟨_,U⟩;rw[f]at r z;rw[i]at t y;have k:st.d.Y.length+1=v:=by rw[<-f];exact(aqs on).symm
 have H:=fi<|Ê h<|Ê f<|Ê i<|Ê k j;by_cases C:c=59/\v<24
 .obtain⟨rfl,a⟩:=C;go_enter ŭ,ş;go_wp2;go_ret;let⟨h,f,i,k,j⟩:=H.out;exact Ï ⟨_,by rw[pW,if_pos ⟨U,Z⟩],U,mN h 0 _,g,O,_,h.NN _ [82] A A<|È on⟩
 by_cases D:c=44/\0<x/\x<8
 .obtain⟨rfl,P,Q⟩:=D;go_enter ŭ,ş;go_wp2_with (go_at_call 99;refine(abd H.out.1 H.out.2.2.2.2 on (by have:=H.out.2.2.1;omega)).mono ?_;rintro e u ⟨rfl,o,E,F,T,a⟩;have V:=a.r.r 0 _ U;have W:=a.r.C 0;have G:=fi<|Ê o a;clear o a);go_ret;let⟨h,f,i,k,j⟩:=H.out;let⟨o,a⟩:=G.out;exact Ï ⟨_,by rw[pW,if_neg Z,if_pos ⟨U,Z,Z⟩],U,o.fj<|mN a 0 _,E,F,_,a.NN _ [120,84] A A<|È on⟩
 .have a:=fi (show pW st c=Á by
   let⟨h,f,i,k,j⟩:=H.out;rw[pW,if_neg Z,if_neg Z])
  go_enter ŭ,ş;go_wp2_with fail;all_goals first|(go_ret;exact È ⟨a.out,U,U⟩)|(exfalso;simp only[beq_iff_eq,decide_eq_true_eq]at*;omega)
def kF:θ->Option θ
 |ŏ c=>Â c
 |.seq a b=>match kF a with
  |some c=>Â c
  |none=>kF b
 |.block _ c=>kF c
 |.scope c=>kF c
 |.cond _ a b=>match kF a with
  |some c=>Â c
  |none=>kF b
 |_=>Á
noncomputable def qM:θ:=(Tryz.f61.body.bind kF).getD aD
def pZ(b:Nat)(B:ByteArray)(i:Ñ)(u:Nat->Ñ):Ď:=⟨#[Ã<|Â ⟨b,0,Á⟩,Ä B,ł,ł,Å É 0,i,u 6,u 7,u 8,u 9,u 10,u 11,u 12,u 13,u 14,u 15,u 16,u 17,u 18,u 19,u 20,u 21,u 22,u 23,u 24,u 25,u 26,u 27,u 28,u 29,u 30,u 31,u 32,u 33,u 34,u 35,u 36,u 37,u 38,u 39,u 40,u 41,u 42,u 43,u 44,u 45,u 46,u 47,u 48,u 49,u 50,u 51,u 52,u 53,u 54,u 55,u 56,u 57,u 58,u 59,u 60,u 61,u 62,u 63,u 64,u 65,u 66,u 67,u 68,u 69,u 70,u 71,u 72,u 73,u 74,u 75,u 76,u 77,u 78,u 79,u 80,u 81,u 82,u 83,u 84,u 85,u 86,u 87,u 88,u 89,u 90,u 91,u 92,u 93,u 94,u 95,u 96,u 97,u 98,u 99,u 100,u 101,u 102,u 103,u 104,u 105,u 106,u 107,u 108,u 109,u 110,u 111,u 112,u 113,u 114,u 115,u 116,u 117,u 118,u 119,u 120,u 121,u 122,u 123,u 124,u 125,u 126,u 127,u 128,u 129,u 130,u 131,u 132,u 133,u 134,u 135,u 136,u 137,u 138,u 139,u 140,u 141,u 142,u 143,u 144,u 145,u 146],[]⟩
def Fr(b:Nat)(B:ByteArray)(i:Ñ)(a:Ď):Prop:=∃u,a=pZ b B i u
def gA{b:Nat}{B:ByteArray}{i:Value}{a:Act}(h:a=pZ b B i (λn=>a.tmps.getD n undef):=by rfl):Fr b B i a:=⟨_,h⟩
def QQ(X:Ď->Í->Prop):Exit->Ď->Í->Prop
 |.exit 0,a,w=>X a w
 |_,_,_=>False
def sJ(m b:Nat)(B:ByteArray)(k:Nat)(st:PS)(a u:Í):Prop:=∃(h:k<B.size) (h:PS),nQ B k st (B[k].toNat:Int)=Â h/\sI m b h a u
def sK(m b:Nat)(B:ByteArray)(k:Nat)(st:PS)(a u:Í):Prop:=∃h:k<B.size,nQ B k st (B[k].toNat:Int)=Á/\∃c,sI m b c a u
def u5{d:Int}(h:(0<d/\yQ=Ë)\/d<=0):¬(0<d/\yQ=Î):=by
 rintro⟨b,a⟩;rcases h with⟨_,h⟩|h
 .rw[h]at a;cases a
 .omega
def u6(h:¬(0<st.r/\iX c=Î)):nQ B k st c=kQ B k {st with r:=0} c:=if_neg h
def aqt(a:0<st.r)(b:iX c=Î):nQ B k st c=Â (F8 st c):=if_pos ⟨a,b⟩
section
variable{want:Int}
def aqu(h:st.C=[]):kQ B k st c=pW st c:=by rw[kQ,h]
def aqv(h:st.C=want::zQ)(a:want=82):kQ B k st c=wj st (uX c):=by rw[kQ,h];simp only;rw[if_pos a]
def aqw(h:st.C=want::zQ)(a:want=66)(b:sE c=Î):kQ B k st c=Â (oJ {st with C:=[84],d:=st.d.nP} 120 c):=by rw[kQ,h];simp only;rw[if_neg Z,if_pos a,if_pos b]
def aqx(h:st.C=want::zQ)(a:want=66)(b:sE c=Ë):kQ B k st c=pW st c:=by rw[kQ,h];simp only;rw[if_neg Z,if_pos a,if_neg (by rw[b];decide)]
def aqy(h:st.C=want::zQ)(a:want=84):kQ B k st c=wm st (JA c):=by rw[kQ,h];simp only;rw[if_neg Z,if_neg Z,if_pos a]
def aqz(h:st.C=want::zQ)(a:want=80)(b:c=125):kQ B k st c=Â {st with C:=zQ,d:=st.d.pj (B.extract (k-st.I.toNat) k)}:=by rw[kQ,h];simp only;rw[if_neg Z,if_neg Z,if_neg Z,if_pos a,if_pos b]
def abr(h:st.C=want::zQ)(a:want=80)(b:¬c=125)(d:st.I=40\/lH c=0):kQ B k st c=Á:=by rw[kQ,h];simp only;rw[if_neg Z,if_neg Z,if_neg Z,if_pos a,if_neg b,if_pos d]
def aqA(h:st.C=want::zQ)(a:want=80)(b:¬c=125)(d:¬st.I=40)(e:¬lH c=0):kQ B k st c=Â {st with I:=st.I+1}:=by rw[kQ,h];simp only;rw[if_neg Z,if_neg Z,if_neg Z,if_pos a,if_neg b,if_neg Z]
def aqB(h:st.C=want::zQ)(a:¬want=82)(b:¬want=66)(d:¬want=84)(e:¬want=80)(f:pf want c=Î):kQ B k st c=Â {oJ st want c with C:=zQ}:=by rw[kQ,h];simp only;rw[if_neg a,if_neg b,if_neg d,if_neg e,if_pos f]
def aqC(h:st.C=want::zQ)(a:¬want=82)(b:¬want=66)(d:¬want=84)(e:¬want=80)(f:pf want c=Ë):kQ B k st c=Á:=by rw[kQ,h];simp only;rw[if_neg a,if_neg b,if_neg d,if_neg e,if_neg (by rw[f];decide)]
end
def u7(c:UInt8):(0:Int)<=(c.toNat:Int)/\(c.toNat:Int)<256:=⟨Int.natCast_nonneg _,by have:=c.toNat_lt;omega⟩
def Us(s:ByteArray)(h:s.size=0):(s.toList==[])=Î:=by
 have:s.toList.length=0:=by rwa[ħ]
 rw[Ó this];rfl
def tO(s:ByteArray)(h:¬s.size=0):(s.toList==[])=Ë:=by
 rw[beq_eq_false_iff_ne];intro e;have:s.toList.length=s.size:=by rw[ħ];rfl
 rw[e]at this;exact h this.symm
def gT.aqD(h:gT m b g O s st w)(on:st.d.r=Î)(i:c=86\/c=87\/c=110\/c=107):∃a e f,g.Dz st.d c=⟨a,e,Á⟩/\qL m b g st.d a e f (st.d.G c) w/\∀z,f z=st.d.gh c z:=by
 rcases i with rfl|rfl|rfl|rfl
 .exact⟨_,_,_,U,Gc h.C h.r on A,λz=>rfl⟩
 .exact⟨_,_,_,U,Gc h.C h.r on A,λz=>rfl⟩
 .exact⟨_,_,_,U,Gd h.C h.r on A,λz=>rfl⟩
 .exact⟨_,_,_,U,Gd h.C h.r on A,λz=>rfl⟩
def gT.pj(h:gT m b g O s st w)(on:st.d.r=Î)(a:st.d.I=Î)(p:ByteArray):gT m b g O s {st with d:=st.d.pj p} (w.setCell ⟨g.t,5,Á⟩<|Ä p)/\fg (λi=>m<=i) w (w.setCell ⟨g.t,5,Á⟩<|Ä p):=by have l:=h.C.r on;let⟨f,j,c⟩:=l.C a;have e:fg (λi=>i=g.t) w (w.setCell ⟨g.t,5,Á⟩<|Ä p):=pY c;exact⟨⟨h.S,h.a.r _ trivial,h.r.I e λx=>fl.S h.r c A x,h.M,h.I,h.C.pj on a p,h.c,h.N⟩,e.S λi _ x=>by have:=l.S;omega⟩
def gT.abt(h:gT m b g O s st w)(on:st.d.r=Î)(a:st.C=c::zQ):gT m b g O (s.extract 1 s.size) {st with C:=zQ} (w.setCell ⟨b,0,Á⟩<|Ä<|s.extract 1 s.size):= h.NN _ zQ (apO s h.M) (by rw[apN,h.I,a];rfl)<|È on
def gT.aqE(h:gT m b g O s st w)(a:st.C=c::zQ):0<s.size:=by have:=Ub s;rw[h.I,a]at this;simp at this;omega
end
section
variable{g:Gh}{s:ByteArray}{st:PS}{d:PD}
def aqF(h:gT m b g O s st w)(a:st.r=0)(c:st.d.r=Ë->st.d.Y=[])(f:st.d.C.length<=100000)(k:Int): Ò À 96 #[Ã<|Â ⟨b,0,Á⟩,Å É k] w λe u=>NY m b (wj st k) e w u:=(aqb h a c f k).mono λ_ _ q=>abp q
def aqG(h:gT m b g O s st w)(a:st.r=0)(on:st.d.r=Î)(c:st.d.I=Î)(k:Int): Ò À 101 #[Ã<|Â ⟨b,0,Á⟩,Å É k] w λe u=>NY m b (wm st k) e w u:=(ap3 h a on c k).mono λ_ _ q=>abp q
def aqH{X:Ď->Í->Prop}{a:Ď}(G:Fr b B (Å É k) a) (h:gT m b g O s st w) (i:jy B k st) (Q:B.size<=1200) (H:k<B.size) (n:0<st.r) (I:iX (B[k].toNat:Int)=Î) (T:∀a u,Fr b B (Å É<|(k:Int)+1) a/\sJ m b B k st w u->K a u) (_hQ:∀a u,Fr b B (Å É k) a/\sK m b B k st w u->X a u): ä À qM (Exit.then K<|QQ X) a w:=by
 obtain⟨c,rfl⟩:=G;unfold pZ;conv=>arg 2;whnf
 have V:w.cell? ⟨b,0,Á⟩=Â (Ä s):=h.r.r 0 _ U;have W:w.cell? ⟨b,6,Á⟩=Â (Å É st.r):=h.r.r 6 _ U;have Y:w.cell? ⟨b,7,Á⟩=Â (Å É st.I):=h.r.r 7 _ U;have f0:=h.r.C 0;have f6:=h.r.C 6;have f7:=h.r.C 7;have d0:=i.M;have d1:=i.r;have e0:=i.C;have e1:=i.I;let⟨q,on,_,_⟩:=i.e n;let⟨r,ao,f,t,j,v⟩:=h.aqD on q;have J:w.cell? ⟨b,5,Á⟩=Â (Ã O):=h.r.r 5 _ U;rw[(h.c n).2,t]at J;obtain⟨x,o⟩:∃x,st.d.G st.M=x:=⟨_,U⟩;have L:=j.C;rw[o]at L;have fm:=j.I;obtain⟨M,N⟩:∃y,wrap64 (x*10)=y:=⟨_,U⟩;obtain⟨l,P⟩:∃y,wrap64 (M+((B[k].toNat:Int)-48)%256)=y:=⟨_,U⟩;have NZ:¬r=b:=j.r;have N0:¬b=r:=λe=>j.r e.symm;have z:=h.Y (st.r-1) λ_=>h.c n;have p:=j.S 6<|Å É<|st.r-1;have C:=z.G p l;have D:tN (st.d.G st.M) (B[k].toNat:Int)=l:=by rw[tN,ũ,ũ,o,N,P]
 have E:F8 st (B[k].toNat:Int)={st with r:=st.r-1,d:=f l}:=by rw[F8,D,v]
 have F:Hid (nQ B k st (B[k].toNat:Int)=Â {st with r:=st.r-1,d:=f l}/\sI m b {st with r:=st.r-1,d:=f l} w (af _)):= fi ⟨by rw[aqt n I,E],(((mN h 6 _).fj<|Ge (st:=st) p _).C (fg.fU (λ_=>False) _) λ_ _ x=>x.elim),g,O,s,C.fU⟩;clear z p C D E j v t h i o q;go_wp2_with (go_at_call 94;refine(sH _ _).mono ?_;rintro e u ⟨rfl,hw⟩;subst u);go_region;all_goals
  go_wp2;exact⟨gA,⟨H,_,F.out.1,F.out.2⟩⟩
def aqI{X:Ď->Í->Prop}(z:Fr b B (Å É k) y) (i:gT m b g O s st w) (j:jy B k st) (Q:B.size<=1200) (l:k<B.size) (n:(0<st.r/\iX (B[k].toNat:Int)=Ë)\/st.r<=0) (o:s.size=0) (T:∀y u,Fr b B (Å É<|(k:Int)+1) y/\sJ m b B k st w u->K y u) (C:∀y u,Fr b B (Å É k) y/\sK m b B k st w u->X y u): ä À qM (Exit.then K<|QQ X) y w:=by
 obtain⟨f,rfl⟩:=z;unfold pZ;conv=>arg 2;whnf
 have V:w.cell? ⟨b,0,Á⟩=Â (Ä s):=i.r.r 0 _ U;have W:w.cell? ⟨b,6,Á⟩=Â (Å É st.r):=i.r.r 6 _ U;have Y:w.cell? ⟨b,7,Á⟩=Â (Å É st.I):=i.r.r 7 _ U;have f0:=i.r.C 0;have f6:=i.r.C 6;have f7:=i.r.C 7;have d0:=j.M;have d1:=j.r;have e0:=j.C;have e1:=j.I;have p:=fi<|u6 (B:=B) (k:=k)<|u5 n;have r:=i.Y 0 λh=>absurd h A;have t:=fi<|mN i 6<|Å É 0;have D:=j.d.C;have E:=j.d.I;have F:=fi r;let⟨uj,zW⟩:=u7 B[k];have rm:=Us s o;have h:st.C=[]:=by rw[<-i.I];exact aa0 s o
 have G:st.d.r=Î:=by
  rcases i.N with q|q
  .exact q
  .rw[h]at q;cases q
 have v:=fi<|aqu (B:=B) (k:=k) (c:=(B[k].toNat:Int)) (st:={st with r:=0}) h;clear h i j;rcases n with⟨H,na⟩|H;all_goals
  go_wp2_with (first|(go_at_call 94;refine(sH _ _).mono ?_;rintro e u ⟨rfl,x⟩;subst u)|(go_at_call 95;refine(abq r U G E D _).mono ?_;rintro e u (⟨q,rfl,x⟩|⟨I,q,rfl,J,L,M,N,P⟩)))
  .subst x;exact C _ _ ⟨gA,⟨l,p.out.trans<|v.out.trans q,_,t.out,_,_,_,F.out⟩⟩
  .exact⟨gA,⟨l,I,p.out.trans<|v.out.trans q,t.out.fj J,L,M,N,P⟩⟩
def aqJ{X:Ď->Í->Prop}(z:Fr b B (Å É k) y) (i:gT m b g O s st w) (j:jy B k st) (P:B.size<=1200) (o:k<B.size) (p:(0<st.r/\iX (B[k].toNat:Int)=Ë)\/st.r<=0) (q:0<s.size) (l:((s[0]'q).toNat:Int)=82) (Q:∀y u,Fr b B (Å É<|(k:Int)+1) y/\sJ m b B k st w u->K y u) (C:∀y u,Fr b B (Å É k) y/\sK m b B k st w u->X y u): ä À qM (Exit.then K<|QQ X) y w:=by
 obtain⟨f,rfl⟩:=z;unfold pZ;conv=>arg 2;whnf
 have T:w.cell? ⟨b,0,Á⟩=Â (Ä s):=i.r.r 0 _ U;have V:w.cell? ⟨b,6,Á⟩=Â (Å É st.r):=i.r.r 6 _ U;have W:w.cell? ⟨b,7,Á⟩=Â (Å É st.I):=i.r.r 7 _ U;have Y:=i.r.C 0;have f6:=i.r.C 6;have f7:=i.r.C 7;have d0:=j.M;have d1:=j.r;have e0:=j.C;have e1:=j.I;have r:=fi<|u6 (B:=B) (k:=k)<|u5 p;have t:=i.Y 0 λh=>absurd h A;have v:=fi<|mN i 6<|Å É 0;have vy:=j.d.C;have DF:=j.d.I;have D:=fi t;let⟨uj,zW⟩:=u7 B[k];have rm:=tO s Z;have xV:s.size<=10:=i.M;have E:=fi (show st.C=(s[0].toNat:Int)::(jY s).tail by rw[<-i.I];exact wh s q);have x:=fi<|aqv (B:=B) (k:=k) (c:=(B[k].toNat:Int)) (st:={st with r:=0}) E.out l;have xW:((s[0].toNat:Int)==82)=Î:=by rw[l];rfl
 have F:=fi λe=>(j.d.N e).1;clear l i j;rcases p with⟨G,na⟩|G;all_goals
  go_wp2_with (first|(go_at_call 94;refine(sH _ _).mono ?_;rintro e u ⟨rfl,h⟩;subst u)|(go_at_call 97;refine(apX _ _).mono ?_;rintro e u ⟨rfl,h⟩;subst u)|(go_at_call 96;refine(aqF t U F.out (by show st.d.C.length<=100000;omega) _).mono ?_;rintro e u (⟨n,rfl,h⟩|⟨H,n,rfl,I,J,L,M,N⟩)))
  .subst h;exact C _ _ ⟨gA,⟨o,r.out.trans<|x.out.trans n,_,v.out,_,_,_,D.out⟩⟩
  .exact⟨gA,⟨o,H,r.out.trans<|x.out.trans n,v.out.fj I,J,L,M,N⟩⟩
end
section
variable{g:Gh}{s:ByteArray}{st:PS}{d:PD}
def aqK{X:Ď->Í->Prop}(t:Fr b B (Å É k) y) (f:gT m b g O s st w) (i:jy B k st) (M:B.size<=1200) (v:k<B.size) (l:(0<st.r/\iX (B[k].toNat:Int)=Ë)\/st.r<=0) (n:0<s.size) (j:((s[0]'n).toNat:Int)=66) (o:sE (B[k].toNat:Int)=Î) (N:∀y u,Fr b B (Å É<|(k:Int)+1) y/\sJ m b B k st w u->K y u) (_hQ:∀y u,Fr b B (Å É k) y/\sK m b B k st w u->X y u): ä À qM (Exit.then K<|QQ X) y w:=by
 obtain⟨c,rfl⟩:=t;unfold pZ;conv=>arg 2;whnf
 have P:w.cell? ⟨b,0,Á⟩=Â (Ä s):=f.r.r 0 _ U;have Q:w.cell? ⟨b,6,Á⟩=Â (Å É st.r):=f.r.r 6 _ U;have T:w.cell? ⟨b,7,Á⟩=Â (Å É st.I):=f.r.r 7 _ U;have V:=f.r.C 0;have W:=f.r.C 6;have Y:=f.r.C 7;have d0:=i.M;have d1:=i.r;have e0:=i.C;have e1:=i.I;have x:=fi<|u6 (B:=B) (k:=k)<|u5 l;have p:=f.Y 0 λh=>absurd h A;have z:=fi<|mN f 6<|Å É 0;have vy:=i.d.C;have DF:=i.d.I;have HH1:=fi p;let⟨C,D⟩:=u7 B[k];have rm:=tO s Z;have xV:s.size<=10:=f.M;have h:=fi (show st.C=(s[0].toNat:Int)::(jY s).tail by rw[<-f.I];exact wh s n);have r:st.d.r=Î:=by
  rcases f.N with q|q
  .exact q
  .rw[h.out]at q;injection q with q;omega
 have q:=fi<|aqw (B:=B) (k:=k) (st:={st with r:=0}) h.out j o;have xW:((s[0].toNat:Int)==82)=Ë:=by rw[j];rfl
 have Gk:((s[0].toNat:Int)==66)=Î:=by rw[j];rfl
 clear j f i;rcases l with⟨E,na⟩|E;all_goals
  go_wp2_with (first|(go_at_call 94;refine(sH _ _).mono ?_;rintro e u ⟨rfl,F⟩;subst u)|(go_at_call 98;refine(Uc _ C D _).mono ?_;rintro e u ⟨rfl,F⟩;subst u)|(go_at_call 99;refine(abd p U r<|by show st.d.S.length<=100000;omega).mono ?_;rintro e u ⟨rfl,F,H,I,J,G⟩)|(go_at_call 100;refine(MJ G U r _ _<|show pf 120 _=Î from o).mono ?_;rintro e w'' ⟨rfl,G,H,I,J,L⟩))
  exact⟨gA,⟨v,_,x.out.trans q.out,z.out.fj<|F.fj G,H,I,J,L⟩⟩
def aqL{X:Ď->Í->Prop}(z:Fr b B (Å É k) y) (f:gT m b g O s st w) (i:jy B k st) (W:B.size<=1200) (l:k<B.size) (n:(0<st.r/\iX (B[k].toNat:Int)=Ë)\/st.r<=0) (o:0<s.size) (j:((s[0]'o).toNat:Int)=66) (C:sE (B[k].toNat:Int)=Ë) (Y:∀y u,Fr b B (Å É<|(k:Int)+1) y/\sJ m b B k st w u->K y u) (D:∀y u,Fr b B (Å É k) y/\sK m b B k st w u->X y u): ä À qM (Exit.then K<|QQ X) y w:=by
 obtain⟨c,rfl⟩:=z;unfold pZ;conv=>arg 2;whnf
 have c0:w.cell? ⟨b,0,Á⟩=Â (Ä s):=f.r.r 0 _ U;have c6:w.cell? ⟨b,6,Á⟩=Â (Å É st.r):=f.r.r 6 _ U;have c7:w.cell? ⟨b,7,Á⟩=Â (Å É st.I):=f.r.r 7 _ U;have f0:=f.r.C 0;have f6:=f.r.C 6;have f7:=f.r.C 7;have d0:=i.M;have d1:=i.r;have e0:=i.C;have e1:=i.I;have p:=fi<|u6 (B:=B) (k:=k)<|u5 n;have r:=f.Y 0 λh=>absurd h A;have t:=fi<|mN f 6<|Å É 0;have E:=i.d.C;have F:=i.d.I;have G:=fi r;let⟨H,I⟩:=u7 B[k];have rm:=tO s Z;have xV:s.size<=10:=f.M;have v:=fi (show st.C=(s[0].toNat:Int)::(jY s).tail by rw[<-f.I];exact wh s o);have J:st.d.r=Î:=by
  rcases f.N with q|q
  .exact q
  .rw[v.out]at q;injection q with q;omega
 have x:=fi<|aqx (B:=B) (k:=k) (st:={st with r:=0}) v.out j C;have xW:((s[0].toNat:Int)==82)=Ë:=by rw[j];rfl
 have Gk:((s[0].toNat:Int)==66)=Î:=by rw[j];rfl
 clear j f i;rcases n with⟨L,na⟩|L;all_goals
  go_wp2_with (first|(go_at_call 94;refine(sH _ _).mono ?_;rintro e u ⟨rfl,h⟩;subst u)|(go_at_call 98;refine(Uc _ H I _).mono ?_;rintro e u ⟨rfl,h⟩;subst u)|(go_at_call 95;refine(abq r U J F E _).mono ?_;rintro e u (⟨q,rfl,h⟩|⟨M,q,rfl,N,P,Q,T,V⟩)))
  .subst h;exact D _ _ ⟨gA,⟨l,p.out.trans<|x.out.trans q,_,t.out,_,_,_,G.out⟩⟩
  .exact⟨gA,⟨l,M,p.out.trans<|x.out.trans q,t.out.fj N,P,Q,T,V⟩⟩
def aqM{X:Ď->Í->Prop}(C:Fr b B (Å É k) y) (i:gT m b g O s st w) (j:jy B k st) (Q:B.size<=1200) (o:k<B.size) (p:(0<st.r/\iX (B[k].toNat:Int)=Ë)\/st.r<=0) (r:0<s.size) (l:((s[0]'r).toNat:Int)=84) (T:∀y u,Fr b B (Å É<|(k:Int)+1) y/\sJ m b B k st w u->K y u) (D:∀y u,Fr b B (Å É k) y/\sK m b B k st w u->X y u): ä À qM (Exit.then K<|QQ X) y w:=by
 obtain⟨f,rfl⟩:=C;unfold pZ;conv=>arg 2;whnf
 have V:w.cell? ⟨b,0,Á⟩=Â (Ä s):=i.r.r 0 _ U;have W:w.cell? ⟨b,6,Á⟩=Â (Å É st.r):=i.r.r 6 _ U;have Y:w.cell? ⟨b,7,Á⟩=Â (Å É st.I):=i.r.r 7 _ U;have f0:=i.r.C 0;have f6:=i.r.C 6;have f7:=i.r.C 7;have d0:=j.M;have d1:=j.r;have e0:=j.C;have e1:=j.I;have t:=fi<|u6 (B:=B) (k:=k)<|u5 p;have v:=i.Y 0 λh=>absurd h A;have x:=fi<|mN i 6<|Å É 0;have vy:=j.d.C;have DF:=j.d.I;have E:=fi v;let⟨uj,zW⟩:=u7 B[k];have rm:=tO s Z;have xV:s.size<=10:=i.M;have h:=fi (show st.C=(s[0].toNat:Int)::(jY s).tail by rw[<-i.I];exact wh s r);have F:st.d.r=Î:=by
  rcases i.N with q|q
  .exact q
  .rw[h.out]at q;injection q with q;omega
 have G:st.d.I=Î:=j.N (by rw[h.out,l];simp);have z:=fi<|aqy (B:=B) (k:=k) (c:=(B[k].toNat:Int)) (st:={st with r:=0}) h.out l;have xW:((s[0].toNat:Int)==82)=Ë:=by rw[l];rfl
 have Gk:((s[0].toNat:Int)==66)=Ë:=by rw[l];rfl
 have Gl:((s[0].toNat:Int)==84)=Î:=by rw[l];rfl
 clear l i j;rcases p with⟨H,na⟩|H;all_goals
  go_wp2_with (first|(go_at_call 94;refine(sH _ _).mono ?_;rintro e u ⟨rfl,q⟩;subst u)|(go_at_call 102;refine(apW _ _).mono ?_;rintro e u ⟨rfl,q⟩;subst u)|(go_at_call 101;refine(aqG v U F G _).mono ?_;rintro e u (⟨n,rfl,q⟩|⟨I,n,rfl,J,L,M,N,P⟩)))
  .subst q;exact D _ _ ⟨gA,⟨o,t.out.trans<|z.out.trans n,_,x.out,_,_,_,E.out⟩⟩
  .exact⟨gA,⟨o,I,t.out.trans<|z.out.trans n,x.out.fj J,L,M,N,P⟩⟩
end
section
variable{g:Gh}{s:ByteArray}{st:PS}{d:PD}
def aqN{X:Ď->Í->Prop}(N:Fr b B (Å É k) y) (i:gT m b g O s st w) (j:jy B k st) (hB:B.size<=1200) (P:k<B.size) (E:(0<st.r/\iX (B[k].toNat:Int)=Ë)\/st.r<=0) (F:0<s.size) (l:((s[0]'F).toNat:Int)=80) (r:(B[k].toNat:Int)=125) (hK:∀y u,Fr b B (Å É<|(k:Int)+1) y/\sJ m b B k st w u->K y u) (_hQ:∀y u,Fr b B (Å É k) y/\sK m b B k st w u->X y u): ä À qM (Exit.then K<|QQ X) y w:=by
 obtain⟨f,rfl⟩:=N;unfold pZ;conv=>arg 2;whnf
 have c0:w.cell? ⟨b,0,Á⟩=Â (Ä s):=i.r.r 0 _ U;have c6:w.cell? ⟨b,6,Á⟩=Â (Å É st.r):=i.r.r 6 _ U;have Q:w.cell? ⟨b,7,Á⟩=Â (Å É st.I):=i.r.r 7 _ U;have f0:=i.r.C 0;have f6:=i.r.C 6;have f7:=i.r.C 7;have d0:=j.M;have d1:=j.r;have T:=j.C;have V:=j.I;have G:=fi<|u6 (B:=B) (k:=k)<|u5 E;have v:=i.Y 0 λh=>absurd h A;have H:=fi<|mN i 6<|Å É 0;have vy:=j.d.C;have DF:=j.d.I;have W:=fi v;let⟨uj,zW⟩:=u7 B[k];have rm:=tO s Z;have xV:s.size<=10:=i.M;have h:=fi (show st.C=(s[0].toNat:Int)::(jY s).tail by rw[<-i.I];exact wh s F);have z:st.d.r=Î:=by
  rcases i.N with q|q
  .exact q
  .rw[h.out]at q;injection q with q;omega
 have C:st.d.I=Î:=j.N (by rw[h.out,l];simp);have Y:w.cell? ⟨b,3,Á⟩=Â (Ã<|g.Y st.d):=i.r.r 3 _ U;rw[JC C]at Y;let⟨yt1,I,q⟩:=(i.C.r z).C C;have Ut:w.cell? ⟨g.t,5,Á⟩=Â (Ä st.d.M.p):=q.r 5 _ (by have:=DC st.d.M.c<|Ä st.d.M.p;rwa[I]at this);have Uu:=q.C 5;have N0:¬b=g.t:=λe=>fl.S q i.r A e.symm;have NZ:¬g.t=b:=fl.S q i.r A;let⟨N4,_⟩:=j.Y (by rw[h.out,l];simp);have xW:((s[0].toNat:Int)==82)=Ë:=by rw[l];rfl
 have Gk:((s[0].toNat:Int)==66)=Ë:=by rw[l];rfl
 have Gl:((s[0].toNat:Int)==84)=Ë:=by rw[l];rfl
 have JG:((s[0].toNat:Int)==80)=Î:=by rw[l];rfl
 clear yt1 I q;have J:=fi<|aqz (B:=B) (k:=k) (st:={st with r:=0}) h.out l r;have Uv:((B[k].toNat:Int) !=125)=Ë:=by rw[r];rfl
 obtain⟨n,L⟩:∃t:Nat,st.I=(t:Int):=⟨st.I.toNat,Z⟩;have o:=v.pj z C<|B.extract (k-n) k;have M:=o.1.abt z h.out;have D:=fi (Ê (show nQ B k st (B[k].toNat:Int)=Â {({st with r:=0}:PS)with C:=(jY s).tail,d:=st.d.pj (B.extract (k-n) k)} by rw[G.out,J.out,show({st with r:=0}:PS).I.toNat=n by show st.I.toNat=n;omega])<|Ê ((H.out.fj o.2).fj<|mN o.1 0<|Ä<|s.extract 1 s.size) M);rw[L]at Q T V N4;clear r l i j o M L J G H W v;rcases E with⟨oW,na⟩|oW;all_goals
  go_wp2_with (first|(go_at_call 94;refine(sH _ _).mono ?_;rintro e u ⟨rfl,x⟩;subst u))
  go_region
  all_goals
   go_wp2;exact⟨gA,⟨P,_,D.out.1,D.out.2.1.C (fg.fU (λ_=>False) _) λ_ _ x=>x.elim,_,_,_,D.out.2.2.fU⟩⟩
def aqO{X:Ď->Í->Prop}(C:Fr b B (Å É k) y) (i:gT m b g O s st w) (j:jy B k st) (Q:B.size<=1200) (D:k<B.size) (v:(0<st.r/\iX (B[k].toNat:Int)=Ë)\/st.r<=0) (x:0<s.size) (l:((s[0]'x).toNat:Int)=80) (o:¬(B[k].toNat:Int)=125) (r:st.I=40) (_hK:∀y u,Fr b B (Å É<|(k:Int)+1) y/\sJ m b B k st w u->K y u) (E:∀y u,Fr b B (Å É k) y/\sK m b B k st w u->X y u): ä À qM (Exit.then K<|QQ X) y w:=by
 obtain⟨f,rfl⟩:=C;unfold pZ;conv=>arg 2;whnf
 have T:w.cell? ⟨b,0,Á⟩=Â (Ä s):=i.r.r 0 _ U;have V:w.cell? ⟨b,6,Á⟩=Â (Å É st.r):=i.r.r 6 _ U;have W:w.cell? ⟨b,7,Á⟩=Â (Å É st.I):=i.r.r 7 _ U;have Y:=i.r.C 0;have f6:=i.r.C 6;have f7:=i.r.C 7;have d0:=j.M;have d1:=j.r;have e0:=j.C;have e1:=j.I;have F:=fi<|u6 (B:=B) (k:=k)<|u5 v;have G:=i.Y 0 λh=>absurd h A;have H:=fi<|mN i 6<|Å É 0;have vy:=j.d.C;have DF:=j.d.I;have I:=fi G;let⟨uj,zW⟩:=u7 B[k];have rm:=tO s Z;have xV:s.size<=10:=i.M;have n:=fi (show st.C=(s[0].toNat:Int)::(jY s).tail by rw[<-i.I];exact wh s x);have J:st.d.r=Î:=by
  rcases i.N with q|q
  .exact q
  .rw[n.out]at q;injection q with q;omega
 have q:st.d.I=Î:=j.N (by rw[n.out,l];simp);have L:w.cell? ⟨b,3,Á⟩=Â (Ã<|g.Y st.d):=i.r.r 3 _ U;rw[JC q]at L;let⟨M,z,h⟩:=(i.C.r J).C q;have Ut:w.cell? ⟨g.t,5,Á⟩=Â (Ä st.d.M.p):=h.r 5 _ (by have:=DC st.d.M.c<|Ä st.d.M.p;rwa[z]at this);have Uu:=h.C 5;have N0:¬b=g.t:=λe=>fl.S h i.r A e.symm;have NZ:¬g.t=b:=fl.S h i.r A;let⟨N4,_⟩:=j.Y (by rw[n.out,l];simp);have xW:((s[0].toNat:Int)==82)=Ë:=by rw[l];rfl
 have Gk:((s[0].toNat:Int)==66)=Ë:=by rw[l];rfl
 have Gl:((s[0].toNat:Int)==84)=Ë:=by rw[l];rfl
 have JG:((s[0].toNat:Int)==80)=Î:=by rw[l];rfl
 clear M z h;have Uv:((B[k].toNat:Int) !=125)=Î:=by rwa[bne_iff_ne]
 have N:=fi<|abr (B:=B) (k:=k) (st:={st with r:=0}) n.out l o<|È r;have abu:(st.I==40)=Î:=by rw[r];rfl
 clear r o l i j;rcases v with⟨P,na⟩|P;all_goals
  go_wp2_with (first|(go_at_call 94;refine(sH _ _).mono ?_;rintro e u ⟨rfl,hw⟩;subst u))
  exact E _ _ ⟨gA,⟨D,F.out.trans N.out,_,H.out,_,_,_,I.out⟩⟩
def aqP{X:Ď->Í->Prop}(E:Fr b B (Å É k) y) (i:gT m b g O s st w) (j:jy B k st) (T:B.size<=1200) (F:k<B.size) (v:(0<st.r/\iX (B[k].toNat:Int)=Ë)\/st.r<=0) (x:0<s.size) (l:((s[0]'x).toNat:Int)=80) (o:¬(B[k].toNat:Int)=125) (r:¬st.I=40) (z:¬lH (B[k].toNat:Int)=0) (V:∀y u,Fr b B (Å É<|(k:Int)+1) y/\sJ m b B k st w u->K y u) (_hQ:∀y u,Fr b B (Å É k) y/\sK m b B k st w u->X y u): ä À qM (Exit.then K<|QQ X) y w:=by
 obtain⟨f,rfl⟩:=E;unfold pZ;conv=>arg 2;whnf
 have W:w.cell? ⟨b,0,Á⟩=Â (Ä s):=i.r.r 0 _ U;have Y:w.cell? ⟨b,6,Á⟩=Â (Å É st.r):=i.r.r 6 _ U;have c7:w.cell? ⟨b,7,Á⟩=Â (Å É st.I):=i.r.r 7 _ U;have f0:=i.r.C 0;have f6:=i.r.C 6;have f7:=i.r.C 7;have d0:=j.M;have d1:=j.r;have e0:=j.C;have e1:=j.I;have G:=fi<|u6 (B:=B) (k:=k)<|u5 v;have H:=i.Y 0 λh=>absurd h A;have I:=fi<|mN i 6<|Å É 0;have vy:=j.d.C;have DF:=j.d.I;have C:=fi H;let⟨uj,zW⟩:=u7 B[k];have rm:=tO s Z;have xV:s.size<=10:=i.M;have n:=fi (show st.C=(s[0].toNat:Int)::(jY s).tail by rw[<-i.I];exact wh s x);have J:st.d.r=Î:=by
  rcases i.N with q|q
  .exact q
  .rw[n.out]at q;injection q with q;omega
 have q:st.d.I=Î:=j.N (by rw[n.out,l];simp);have L:w.cell? ⟨b,3,Á⟩=Â (Ã<|g.Y st.d):=i.r.r 3 _ U;rw[JC q]at L;let⟨M,D,h⟩:=(i.C.r J).C q;have Ut:w.cell? ⟨g.t,5,Á⟩=Â (Ä st.d.M.p):=h.r 5 _ (by have:=DC st.d.M.c<|Ä st.d.M.p;rwa[D]at this);have Uu:=h.C 5;have N0:¬b=g.t:=λe=>fl.S h i.r A e.symm;have NZ:¬g.t=b:=fl.S h i.r A;let⟨N4,_⟩:=j.Y (by rw[n.out,l];simp);have xW:((s[0].toNat:Int)==82)=Ë:=by rw[l];rfl
 have Gk:((s[0].toNat:Int)==66)=Ë:=by rw[l];rfl
 have Gl:((s[0].toNat:Int)==84)=Ë:=by rw[l];rfl
 have JG:((s[0].toNat:Int)==80)=Î:=by rw[l];rfl
 clear M D h;have Uv:((B[k].toNat:Int) !=125)=Î:=by rwa[bne_iff_ne]
 have N:=fi<|aqA (B:=B) (k:=k) (st:={st with r:=0}) n.out l o r z;have abu:(st.I==40)=Ë:=by rwa[beq_eq_false_iff_ne]
 have za:((lH (B[k].toNat:Int):Int)==0)=Ë:=by rw[beq_eq_false_iff_ne];omega
 clear r o l i j z;rcases v with⟨P,na⟩|P;all_goals
  go_wp2_with (first|(go_at_call 94;refine(sH _ _).mono ?_;rintro e u ⟨rfl,Q⟩;subst u)|(go_at_call 103;refine(qF _ _).mono ?_;rintro e u ⟨rfl,Q⟩;subst u))
  exact⟨gA,⟨F,_,G.out.trans N.out,I.out.fj<|mN C.out 7 _,_,_,_,C.out.aa8 _⟩⟩
def aqQ{X:Ď->Í->Prop}(D:Fr b B (Å É k) y) (i:gT m b g O s st w) (j:jy B k st) (V:B.size<=1200) (E:k<B.size) (v:(0<st.r/\iX (B[k].toNat:Int)=Ë)\/st.r<=0) (x:0<s.size) (l:((s[0]'x).toNat:Int)=80) (o:¬(B[k].toNat:Int)=125) (z:¬st.I=40) (r:lH (B[k].toNat:Int)=0) (_hK:∀y u,Fr b B (Å É<|(k:Int)+1) y/\sJ m b B k st w u->K y u) (F:∀y u,Fr b B (Å É k) y/\sK m b B k st w u->X y u): ä À qM (Exit.then K<|QQ X) y w:=by
 obtain⟨f,rfl⟩:=D;unfold pZ;conv=>arg 2;whnf
 have W:w.cell? ⟨b,0,Á⟩=Â (Ä s):=i.r.r 0 _ U;have Y:w.cell? ⟨b,6,Á⟩=Â (Å É st.r):=i.r.r 6 _ U;have c7:w.cell? ⟨b,7,Á⟩=Â (Å É st.I):=i.r.r 7 _ U;have f0:=i.r.C 0;have f6:=i.r.C 6;have f7:=i.r.C 7;have d0:=j.M;have d1:=j.r;have e0:=j.C;have e1:=j.I;have G:=fi<|u6 (B:=B) (k:=k)<|u5 v;have H:=i.Y 0 λh=>absurd h A;have I:=fi<|mN i 6<|Å É 0;have vy:=j.d.C;have DF:=j.d.I;have J:=fi H;let⟨uj,zW⟩:=u7 B[k];have rm:=tO s Z;have xV:s.size<=10:=i.M;have n:=fi (show st.C=(s[0].toNat:Int)::(jY s).tail by rw[<-i.I];exact wh s x);have L:st.d.r=Î:=by
  rcases i.N with q|q
  .exact q
  .rw[n.out]at q;injection q with q;omega
 have q:st.d.I=Î:=j.N (by rw[n.out,l];simp);have M:w.cell? ⟨b,3,Á⟩=Â (Ã<|g.Y st.d):=i.r.r 3 _ U;rw[JC q]at M;let⟨N,C,h⟩:=(i.C.r L).C q;have Ut:w.cell? ⟨g.t,5,Á⟩=Â (Ä st.d.M.p):=h.r 5 _ (by have:=DC st.d.M.c<|Ä st.d.M.p;rwa[C]at this);have Uu:=h.C 5;have N0:¬b=g.t:=λe=>fl.S h i.r A e.symm;have NZ:¬g.t=b:=fl.S h i.r A;let⟨N4,_⟩:=j.Y (by rw[n.out,l];simp);have xW:((s[0].toNat:Int)==82)=Ë:=by rw[l];rfl
 have Gk:((s[0].toNat:Int)==66)=Ë:=by rw[l];rfl
 have Gl:((s[0].toNat:Int)==84)=Ë:=by rw[l];rfl
 have JG:((s[0].toNat:Int)==80)=Î:=by rw[l];rfl
 clear N C h;have Uv:((B[k].toNat:Int) !=125)=Î:=by rwa[bne_iff_ne]
 have P:=fi<|abr (B:=B) (k:=k) (st:={st with r:=0}) n.out l o<|Ï r;have abu:(st.I==40)=Ë:=by rwa[beq_eq_false_iff_ne]
 have za:((lH (B[k].toNat:Int):Int)==0)=Î:=by rw[r];rfl
 clear z o l i j r;rcases v with⟨Q,na⟩|Q;all_goals
  go_wp2_with (first|(go_at_call 94;refine(sH _ _).mono ?_;rintro e u ⟨rfl,T⟩;subst u)|(go_at_call 103;refine(qF _ _).mono ?_;rintro e u ⟨rfl,T⟩;subst u))
  exact F _ _ ⟨gA,⟨E,G.out.trans P.out,_,I.out,_,_,_,J.out⟩⟩
end
section
variable{g:Gh}{s:ByteArray}{st:PS}{d:PD}
def aqR{X:Ď->Í->Prop}(D:Fr b B (Å É k) y) (f:gT m b g O s st w) (i:jy B k st) (Q:B.size<=1200) (E:k<B.size) (v:(0<st.r/\iX (B[k].toNat:Int)=Ë)\/st.r<=0) (j:0<s.size) (n:¬((s[0]'j).toNat:Int)=82) (o:¬((s[0]'j).toNat:Int)=66) (p:¬((s[0]'j).toNat:Int)=84) (r:¬((s[0]'j).toNat:Int)=80) (x:pf ((s[0]'j).toNat:Int) (B[k].toNat:Int)=Î) (T:∀y u,Fr b B (Å É<|(k:Int)+1) y/\sJ m b B k st w u->K y u) (_hQ:∀y u,Fr b B (Å É k) y/\sK m b B k st w u->X y u): ä À qM (Exit.then K<|QQ X) y w:=by
 obtain⟨c,rfl⟩:=D;unfold pZ;conv=>arg 2;whnf
 have V:w.cell? ⟨b,0,Á⟩=Â (Ä s):=f.r.r 0 _ U;have W:w.cell? ⟨b,6,Á⟩=Â (Å É st.r):=f.r.r 6 _ U;have Y:w.cell? ⟨b,7,Á⟩=Â (Å É st.I):=f.r.r 7 _ U;have f0:=f.r.C 0;have f6:=f.r.C 6;have f7:=f.r.C 7;have d0:=i.M;have d1:=i.r;have e0:=i.C;have e1:=i.I;have F:=fi<|u6 (B:=B) (k:=k)<|u5 v;have G:=f.Y 0 λh=>absurd h A;have H:=fi<|mN f 6<|Å É 0;have vy:=i.d.C;let⟨I,J⟩:=u7 B[k];have rm:=tO s Z;have xV:s.size<=10:=f.M;have l:=fi (show st.C=(s[0].toNat:Int)::(jY s).tail by rw[<-f.I];exact wh s j);have z:st.d.r=Î:=by
  rcases f.N with q|q
  .exact q
  .rw[l.out]at q;injection q with q;omega
 have xW:((s[0].toNat:Int)==82)=Ë:=by rwa[beq_eq_false_iff_ne]
 have aqS:((s[0].toNat:Int)==66)=Ë:=by rwa[beq_eq_false_iff_ne]
 have Gl:((s[0].toNat:Int)==84)=Ë:=by rwa[beq_eq_false_iff_ne]
 have JG:((s[0].toNat:Int)==80)=Ë:=by rwa[beq_eq_false_iff_ne]
 have L:=fi<|aqB (B:=B) (k:=k) (st:={st with r:=0}) l.out n o p r x;have M:=fi x;clear n o p r f i;rcases v with⟨N,na⟩|N;all_goals
  go_wp2_with (first|(go_at_call 94;refine(sH _ _).mono ?_;rintro e u ⟨rfl,h⟩;subst u)|(go_at_call 104;refine(aa2 _ _ I J _).mono ?_;rintro e u ⟨rfl,h⟩;subst u)|(go_at_call 100;refine(MJ G U z _ _ M.out).mono ?_;rintro e P ⟨rfl,C,g',nm',q,h⟩;have k0:P.cell? ⟨b,0,Á⟩=Â (Ä q):=h.r.r 0 _ U;have kf0:=h.r.C 0;have AP:0<q.size:=h.aqE l.out;have atI:q.size<=10:=h.M;have t:=fi<|Ê C h;clear C h))
  exact⟨gA,⟨E,_,F.out.trans L.out,H.out.fj<|t.out.1.fj<|mN t.out.2 0 _,_,_,_,t.out.2.abt ((Un _ _ _).1.trans z) l.out⟩⟩
def aqT{X:Ď->Í->Prop}(t:Fr b B (Å É k) y) (f:gT m b g O s st w) (i:jy B k st) (L:B.size<=1200) (v:k<B.size) (r:(0<st.r/\iX (B[k].toNat:Int)=Ë)\/st.r<=0) (j:0<s.size) (l:¬((s[0]'j).toNat:Int)=82) (n:¬((s[0]'j).toNat:Int)=66) (o:¬((s[0]'j).toNat:Int)=84) (p:¬((s[0]'j).toNat:Int)=80) (x:pf ((s[0]'j).toNat:Int) (B[k].toNat:Int)=Ë) (_hK:∀y u,Fr b B (Å É<|(k:Int)+1) y/\sJ m b B k st w u->K y u) (z:∀y u,Fr b B (Å É k) y/\sK m b B k st w u->X y u): ä À qM (Exit.then K<|QQ X) y w:=by
 obtain⟨c,rfl⟩:=t;unfold pZ;conv=>arg 2;whnf
 have M:w.cell? ⟨b,0,Á⟩=Â (Ä s):=f.r.r 0 _ U;have N:w.cell? ⟨b,6,Á⟩=Â (Å É st.r):=f.r.r 6 _ U;have P:w.cell? ⟨b,7,Á⟩=Â (Å É st.I):=f.r.r 7 _ U;have Q:=f.r.C 0;have T:=f.r.C 6;have V:=f.r.C 7;have W:=i.M;have Y:=i.r;have e0:=i.C;have e1:=i.I;have C:=fi<|u6 (B:=B) (k:=k)<|u5 r;have D:=f.Y 0 λh=>absurd h A;have E:=fi<|mN f 6<|Å É 0;have vy:=i.d.C;have DF:=i.d.I;have F:=fi D;let⟨G,H⟩:=u7 B[k];have rm:=tO s Z;have xV:s.size<=10:=f.M;have h:=fi (show st.C=(s[0].toNat:Int)::(jY s).tail by rw[<-f.I];exact wh s j);have on:st.d.r=Î:=by
  rcases f.N with q|q
  .exact q
  .rw[h.out]at q;injection q with q;omega
 have xW:((s[0].toNat:Int)==82)=Ë:=by rwa[beq_eq_false_iff_ne]
 have aqS:((s[0].toNat:Int)==66)=Ë:=by rwa[beq_eq_false_iff_ne]
 have Gl:((s[0].toNat:Int)==84)=Ë:=by rwa[beq_eq_false_iff_ne]
 have JG:((s[0].toNat:Int)==80)=Ë:=by rwa[beq_eq_false_iff_ne]
 have q:=fi<|aqC (B:=B) (k:=k) (st:={st with r:=0}) h.out l n o p x;clear l n o p f i;rcases r with⟨I,na⟩|I;all_goals
  go_wp2_with (first|(go_at_call 94;refine(sH _ _).mono ?_;rintro e u ⟨rfl,J⟩;subst u)|(go_at_call 104;refine(aa2 _ _ G H _).mono ?_;rintro e u ⟨rfl,J⟩;subst u))
  exact z _ _ ⟨gA,⟨v,C.out.trans q.out,_,E.out,_,_,_,F.out⟩⟩
end
section
variable{g:Gh}{s:ByteArray}{c:PS}{d:PD}
def aqU{X:Ď->Í->Prop}(d:Fr b B (Å É k) y) (e:gT m b g O s c w) (f:jy B k c) (h:B.size<=1200) (i:k<B.size) (j:∀y v,Fr b B (Å É<|(k:Int)+1) y/\sJ m b B k c w v->K y v) (l:∀y v,Fr b B (Å É k) y/\sK m b B k c w v->X y v): ä À qM (Exit.then K<|QQ X) y w:=by
 by_cases t:0<c.r/\iX (B[k].toNat:Int)=Î
 .exact aqH d e f h i t.1 t.2 j l
 have n:(0<c.r/\iX (B[k].toNat:Int)=Ë)\/c.r<=0:=by
  by_cases o:0<c.r
  .left;refine⟨o,?_⟩;cases p:iX (B[k].toNat:Int)with
   |false=>rfl
   |true=>exact absurd ⟨o,p⟩ t
  .right;omega
 by_cases D:s.size=0
 .exact aqI d e f h i n D j l
 have o:0<s.size:=Z
 by_cases u:(s[0].toNat:Int)=82
 .exact aqJ d e f h i n o u j l
 by_cases q:(s[0].toNat:Int)=66
 .cases p:sE (B[k].toNat:Int)with
  |true=>exact aqK d e f h i n o q p j l
  |false=>exact aqL d e f h i n o q p j l
 by_cases x:(s[0].toNat:Int)=84
 .exact aqM d e f h i n o x j l
 by_cases p:(s[0].toNat:Int)=80
 .by_cases r:(B[k].toNat:Int)=125
  .exact aqN d e f h i n o p r j l
  by_cases z:c.I=40
  .exact aqO d e f h i n o p r z j l
  by_cases C:lH (B[k].toNat:Int)=0
  .exact aqQ d e f h i n o p r z C j l
  .exact aqP d e f h i n o p r z C j l
 cases r:pf (s[0].toNat:Int) (B[k].toNat:Int)with
 |true=>exact aqR d e f h i n o u q x p r j l
 |false=>exact aqT d e f h i n o u q x p r j l
def aqV{X:Ď->Í->Prop}(c:Fr b B (Å É k) y)(_hB:B.size<=1200)(e:¬k<B.size)(_hk:k<=B.size) (d:∀y v,Fr b B (Å É k) y/\v=w->X y v): ä À qM (Exit.then K<|QQ X) y w:=by
 obtain⟨u,rfl⟩:=c;unfold pZ;conv=>arg 2;whnf
 go_wp2;exact d _ _ ⟨gA,U⟩
def ni(B:ByteArray):Nat×PS:=oK B B.size 0 ng
def RI(m b:Nat)(B:ByteArray)(w:Í)(a:Ď)(d:Í):Prop:=
 ∃(k:Nat) (g:Gh) (O:Option ý) (s:ByteArray) (c:PS),k<=B.size/\Fr b B (Å É k) a/\gT m b g O s c d/\fg (λi=>m<=i) w d/\jy B k c/\ni B=oK B (B.size-k) k c
def Rmu(B:ByteArray)(a:Ď)(_:Í):Nat:=B.size-(intOf<|a.tmps.getD 5 ł).toNat
def RX(m b:Nat)(B:ByteArray)(w:Í)(a:Ď)(d:Í):Prop:=
 ∃(k:Nat) (c:PS),k<=B.size/\Fr b B (Å É k) a/\sI m b c w d/\(ni B).1=k/\(k=B.size->(ni B).2=c)
def abv{i:Int}{w:Í}(h:Fr b B (Å É i) y):Rmu B y w=B.size-i.toNat:=by obtain⟨u,rfl⟩:=h;rfl
def aqW{a:PS}(b:k<B.size)(d:nQ B k c (B[k].toNat:Int)=Â a):oK B (B.size-k) k c=oK B (B.size-(k+1)) (k+1) a:=by rw[show B.size-k=(B.size-(k+1))+1 by omega,oK,dif_pos b,d]
def aqX(a:k<B.size)(b:nQ B k c (B[k].toNat:Int)=Á):oK B (B.size-k) k c=(k,c):=by rw[show B.size-k=(B.size-(k+1))+1 by omega,oK,dif_pos a,b]
def aqY(f:Fr b B (Å É 0) y)(h:gT m b g O s ng w)(q:B.size<=1200): ä À (ŏ qM) (QQ<|RX m b B w) y w:=by
 apply Κ (RI m b B w) (Rmu B) ⟨0,g,O,s,ng,Ú _,f,h,fg.fW _ _,Uq B,U⟩;rintro y x ⟨k,g,O,s,c,l,f,r,n,t,o⟩;have z:=abv (w:=x) f;by_cases i:k<B.size
 .refine aqU f r t q i ?_ ?_
  .rintro u v ⟨d,C,e,j,p,D,E,F,G⟩;refine⟨⟨k+1,D,E,F,e,Z,by simpa using d,G,n.fj p,abl t i j,o.trans<|aqW i j⟩,?_⟩;rw[abv d,z];omega
  .rintro u v ⟨d,C,j,D,p,E⟩;have:=o.trans<|aqX i j;exact⟨k,D,l,d,⟨n.fj p,E⟩,by rw[this],λe=>by omega⟩
 .apply aqV f q i l;rintro u v ⟨d,rfl⟩;have e:k=B.size:=Z
  have:ni B=(k,c):=by rw[o,show B.size-k=0 by omega];rfl
  exact⟨k,c,l,d,⟨n,g,O,s,r⟩,by rw[this],λ_=>by rw[this]⟩
def aqZ(h:gT m b g O s ng w)(d:B.size<=1200): Ò À 61 #[Ã<|Â ⟨b,0,Á⟩,Ä B] w λe u=>
  ∃(k:Nat) (c:PS),k<=B.size/\e=Ç (Å É k)/\sI m b c w u/\(ni B).1=k/\(k=B.size->(ni B).2=c):=by
 go_enter Tryz.func61,Tryz.ntmps61;go_wp2;go_step3;go_wp2;go_step3;go_wp2;refine ĺ ?_ (aqY gA h d);rintro(_|(_|_)|_|_|_|_) a v hq;all_goals first|exact absurd hq id|skip
 let⟨k,c,f,i,j⟩:=hq;obtain⟨e,rfl⟩:=i;unfold pZ;have l:=fi j;go_wp2;(try rw[Exit.noGoto_ret]);go_ret;exact⟨k,c,f,U,l.out⟩
end
def mo(B:ByteArray):Int×Bool×List PR:=
 if B.size=0 then(0,Î,[])else(((ni B).1:Int),decide ((ni B).1=B.size)&&(decide ((ni B).2.C=[])||decide ((ni B).2.C=[66])),(ni B).2.d.C)
def gW(B:ByteArray):Int×Int×List PR:=
 if 1200<B.size then(1,0,[])else if(mo B).2.1=Î then(0,0,(mo B).2.2)else(2,(mo B).1,[])
def DG(m:Nat)(v:Ñ)(b:List PR)(w:Í):Prop:=jG m w/\∃a,w.ownsRow m 148 1 v a.length (nR a)/\pX w.heap.size a b w
section
variable{g:Gh}{s:ByteArray}{a:PS}
def DG.pv(w:Í):DG w.heap.size (Æ Á 0 0) [] w:=⟨jG.I w,[],⟨U,È ⟨U,U⟩⟩,pX.N _ _⟩
def gT.iO(h:gT m b g O s a w)(c:a.d.r=Ë->a.d.Y=[])(n:Nat):DG m g.N a.d.C (w.drewN n):= ⟨h.a.iQ n,g.C a.d,ik h.C.C (fg.iQ (λ_=>False) w n) λ_ _=>id,(h.C.abe c).C (fg.iQ (λ_=>False) w n) λ_ _ x=>x.elim⟩
def g0(m:Nat):Gh:={a:=[],q:=0,t:=0,B:=m,tb:=[],N:=Æ Á 0 0,r:=Æ Á 0 0,b:=Á}
def aq0(w:Í):gT w.heap.size w.heap.size (g0 w.heap.size) Á ⟨#[82]⟩ ng (w.alloc<|Þ #[Ä ⟨#[82]⟩,Æ Á 0 0,Ã Á,Ã Á,Ã Á,Ã Á,Å É 0,Å É 0] 153):= ⟨â _,(jG.I w).gI _ _ A A (λv e=>by simp at e;rcases e with rfl|rfl|rfl|rfl<;>trivial),fl.N w [Ä ⟨#[82]⟩,Æ Á 0 0,Ã Á,Ã Á,Ã Á,Ã Á,Å É 0,Å É 0] 153,A,A,⟨⟨U,È ⟨U,U⟩⟩,pX.N _ _,(λe=>by cases e),λ_=>rfl⟩,(λq=>by cases q),Ï rfl⟩
def aq1(s:ByteArray):jY s=[66]↔s.toList=[66]:=by
 unfold jY;rw[ħ];constructor
 .intro h;match hl:s.data.toList with
  |[]=>rw[hl]at h;simp at h
  |[x]=>
   rw[hl]at h;simp only[œ,Ś,List.cons.injEq,and_true]at h;have:x=66:=UInt8.toNat_inj.1 (by have:x.toNat=66:=Z;rw[this];rfl);rw[this]
  |x::y::r=>rw[hl]at h;simp at h
 .intro h;rw[h];rfl
def Uw(a:¬B.size=0):(mo B).1=((ni B).1:Int):=by rw[mo,if_neg a]
def abw(a:¬B.size=0):(mo B).2.2=(ni B).2.d.C:=by rw[mo,if_neg a]
def aq2(a:¬B.size=0)(h:¬(ni B).1=B.size):(mo B).2.1=Ë:=by rw[mo,if_neg a];simp[h]
def abx(a:¬B.size=0)(h:(ni B).1=B.size){x:Bool}(b:x=(decide ((ni B).2.C=[])||decide ((ni B).2.C=[66]))):(mo B).2.1=x:=by rw[mo,if_neg a,b];simp[h]
def aq3(B:ByteArray):(ni B).2.d.r=Ë->(ni B).2.d.Y=[]:=λe=>((Ur B.size 0 ng (Uq B)<|Ú _).1.d.N e).1
def aby(q:B.size<=1200): Ò À 45 #[Ä B] w λe u=>
  fg (λ_=>False) w u/\∃v,e=Ç (ï #[v,Å É (mo B).1,û (mo B).2.1])/\((mo B).2.1=Î->DG w.heap.size v (mo B).2.2 u):=by
 by_cases a:B.size=0
 .have f:=Us B a;have n:=fi (show mo B=(0,Î,[])from if_pos a);go_enter π,Ω;go_wp2;apply ă (v:=ï #[Æ Á 0 0,Å É 0,û Î]) (by simp[Ŏ,Ĭ,go_sem]) U;exact⟨fg.fW _ _,_,by rw[n.out],λ_=>by rw[n.out];exact DG.pv w⟩
 .have f:=tO B a;have b:=fi a;go_enter π,Ω;go_wp2_with (go_at_call 61;refine(aqZ (aq0 w) q).mono ?_;rintro e r ⟨k,d,i,rfl,⟨n,g,O,s,c⟩,h,t⟩);have l:fg (λ_=>False) w r:=((fg.gI (λi=>w.heap.size<=i) w _ _).fj n).S λi D x=>by omega
  have E:=c.r.r 0 _ U;have F:=c.r.r 1 _ U;by_cases m:k=B.size
  .subst m;have y:=t U;subst y;have o:=fi c.I;have p:=fi λn=>c.iO (aq3 B) n;have n:=fi h;have d:=fi l;have z:((B.size:Int)==(B.size:Int))=Î:=ft
   by_cases a:s.size=0
   .have f:=Us s a;have j:=fi (abx b.out n.out (x:=Î)<|by rw[<-o.out,aa0 s a];rfl);go_quiet (fail);go_wp2;apply ă (v:=ï #[g.N,Å É B.size,û Î]) (by simp[Ŏ,Ĭ,go_sem]) U;exact⟨d.out.fj<|fg.iQ _ _ _,_,by rw[Uw b.out,n.out,j.out],λ_=>by rw[abw b.out];exact p.out _⟩
   .have f:=tO s a;have j:=fi (abx b.out n.out (x:=(s.toList==[66])) (by
     rw[<-o.out];have C:¬jY s=[]:=λe=>by have:=Ub s;rw[e]at this;exact a this.symm
     rw[decide_eq_false C,Bool.false_or,ģ,beq_iff_eq,decide_eq_true_iff,aq1]))
    go_quiet (fail)
    go_wp2;apply ă (v:=ï #[g.N,Å É B.size,û<|s.toList==[66]]) (by simp[Ŏ,Ĭ,go_sem]) U;exact⟨d.out.fj<|fg.iQ _ _ _,_,by rw[Uw b.out,n.out,j.out],λ_=>by rw[abw b.out];exact p.out _⟩
  .have z:((k:Int)==(B.size:Int))=Ë:=by rw[beq_eq_false_iff_ne];omega
   have n:=fi (Ê h<|aq2 b.out<|by rwa[h]);have d:=fi l;go_quiet (fail);go_wp2;apply ă (v:=ï #[g.N,Å É k,û Ë]) (by simp[Ŏ,Ĭ,go_sem]) U;exact⟨d.out.fj<|fg.iQ _ _ _,_,by rw[Uw b.out,n.out.1,n.out.2],λe=>by rw[n.out.2]at e;cases e⟩
def aq4(h:B.size<=ě): Ò À 36 #[Ä B] w λe u=>
  fg (λ_=>False) w u/\∃v,e=Ç (ï #[v,Å É (gW B).1,Å É (gW B).2.1])/\((gW B).1=0->DG w.heap.size v (gW B).2.2 u)/\((gW B).1≠0->v=Æ Á 0 0):=by
 unfold ě at h;by_cases b:1200<B.size
 .have a:=fi (show gW B=(1,0,[]) by rw[gW,if_pos b]);go_enter Ň,Š;go_wp2;apply ă (v:=ï #[Æ Á 0 0,Å É 1,Å É 0]) (by simp[Ŏ,ň,go_sem]) U;exact⟨fg.fW _ _,_,by rw[a.out],(λe=>by rw[a.out]at e;cases e),λ_=>rfl⟩
 .have f:B.size<=1200:=Z
  cases c:(mo B).2.1 with
  |true=>
   have a:=fi (show gW B=(0,0,(mo B).2.2) by rw[gW,if_neg b,if_pos c]);go_enter Ň,Š;go_wp2_with (go_at_call 45;refine(aby f).mono ?_;rintro e i ⟨d,v,rfl,g⟩);apply ă (v:=ï #[v,Å É 0,Å É 0]) (by simp[Ŏ,ň,go_sem]) U;exact⟨d,_,by rw[a.out],(λ_=>by rw[a.out];exact g c),λe=>by rw[a.out]at e;exact absurd U e⟩
  |false=>
   have a:=fi (show gW B=(2,(mo B).1,[]) by rw[gW,if_neg b,if_neg (by rw[c];exact Bool.false_ne_true)]);go_enter Ň,Š;go_wp2_with (go_at_call 45;refine(aby f).mono ?_;rintro e i ⟨d,v,rfl,g⟩);apply ă (v:=ï #[Æ Á 0 0,Å É 2,Å É (mo B).1]) (by simp[Ŏ,ň,go_sem]) U;exact⟨d,_,by rw[a.out],(λe=>by rw[a.out]at e;cases e),λ_=>rfl⟩
end
end Go.Proofs.Y.tM
namespace Go.Proofs.Y.ml
open Go Go.Conc Go.Proofs Go.RowKit Go.Proofs.Y.Lift Go.Proofs.Y.iE Go.Proofs.Y.fD Go.Proofs.Y.tM
structure JH(a:Nat)(t:PT)(w:Í):Prop where
 r:∃cs fz,w.heap[a]?=Â (Þ cs 200 fz)
 c:∀i,i<5->w.cell? ⟨a,i,Á⟩=Â (Å É<|t.c.getD i 0)
 p:w.cell? ⟨a,5,Á⟩=Â (Ä t.p)
structure xY(r:Nat)(p:PR)(w:Í):Prop where
 c:∀i,i<8->w.cell? ⟨r,i,Á⟩=Â (Å É<|p.c.getD i 0)
 b:∃bp n cp,w.cell? ⟨r,8,Á⟩=Â (Æ bp n cp)/\n=p.r.length/\∀(j:Nat) (t:PT),p.r[j]?=Â t->∃tb a,bp=Â ⟨tb,0,Á⟩/\w.cell? ⟨tb,j,Á⟩=Â (Ã<|Â ⟨a,0,Á⟩)/\JH a t w
structure RQ(rs:List PR)(v:Ñ)(U:Nat->Prop)(w:Í):Prop where
 C:kG nB U w
 I:fq (ll U nB) v v
 M:∃bp cp,v=Æ bp rs.length cp/\∀(j:Nat) (p:PR),rs[j]?=Â p->∃sb r,bp=Â ⟨sb,0,Á⟩/\w.cell? ⟨sb,j,Á⟩=Â (Ã<|Â ⟨r,0,Á⟩)/\xY r p w
section
variable{f:Nat->Prop}{rs:List PR}{ρ:fv}
def aq5(h:jo ρ X u w){t:PT}(d:ρ i n)(k:JH i t u):JH n t w:=by refine⟨?_,λb f=>(zU h).r d<|k.c b f,(zU h).C d k.p⟩;let⟨c,l,e,m,o,g,j,_⟩:=h.r i n d;let⟨r,s,q⟩:=k.r;rw[g]at q;cases q;exact⟨_,_,j⟩
def aq6(h:jo ρ X u w){r:Nat}{p:PR}(d:ρ r m)(k:xY r p u):xY m p w:=by refine⟨λi f=>(zU h).r d<|k.c i f,?_⟩;let⟨N,n,g,l,o,q⟩:=k.b;let⟨x,s,v⟩:=zU h r m 8 _ d l;obtain⟨y,rfl,z⟩:=NC v;refine⟨y,n,g,s,o,λj t B=> ?_⟩;let⟨tb,a,C,D,E⟩:=q j t B;let⟨O,F,G⟩:=z _ C;obtain⟨e,rfl,H⟩:=zP G;let⟨P,I,J⟩:=zU h tb e j _ H D;obtain⟨Q,rfl,K⟩:=NB J;obtain⟨L,rfl,M⟩:=zP K;exact⟨e,L,F,I,aq5 h M E⟩
def aq7(h:jo ρ X u w)(b:fq ρ v x)(a:RQ rs v f u):RQ rs x (λj=>∃i,f i/\ρ i j) w:=by refine⟨T5 h a.C,ND b a.I,?_⟩;obtain⟨E,c,rfl,d⟩:=a.M;obtain⟨e,rfl,g⟩:=NC b;refine⟨e,c,U,λj p k=> ?_⟩;let⟨l,r,m,n,o⟩:=d j p k;let⟨F,q,s⟩:=g _ m;obtain⟨i,rfl,t⟩:=zP s;let⟨G,y,z⟩:=zU h l i j _ t n;obtain⟨H,rfl,B⟩:=NB z;obtain⟨C,rfl,D⟩:=zP B;exact⟨i,C,q,y,aq6 h D o⟩
def zY(k:W.heap[b]?=w.heap[b]?)(h:w.cell? ⟨b,i,Á⟩=Â z):W.cell? ⟨b,i,Á⟩=Â z:=by simp only[ã,k];exact h
def aq8(l:kG nB X w)(k:∀b,X b->W.heap[b]?=w.heap[b]?){r:Nat}{p:PR}(d:X r)(h:xY r p w):xY r p W:=by
 refine⟨λi e=>zY (k r d)<|h.c i e,?_⟩;let⟨u,n,v,m,x,y⟩:=h.b;refine⟨u,n,v,zY (k r d) m,x,λj t z=> ?_⟩;let⟨tb,a,o,q,f⟩:=y j t z;have s:X tb:=by have:=l.r d m;rw[o]at this;exact Dw this
 have g:=Dv<|l.r s q;exact⟨tb,a,o,zY (k tb s) q,⟨by rw[k a g];exact f.r,λi e=>zY (k a g)<|f.c i e,zY (k a g) f.p⟩⟩
def RQ.r(h:RQ rs v f w)(k:∀b,f b->W.heap[b]?=w.heap[b]?):RQ rs v f W:=by
 refine⟨h.C.C k,h.I,?_⟩;obtain⟨g,i,rfl,l⟩:=h.M;refine⟨g,i,U,λj p m=> ?_⟩;let⟨a,r,c,d,n⟩:=l j p m;have e:f a:=by have:=h.I;rw[c]at this;exact Dw this
 exact⟨a,r,c,zY (k a e) d,aq8 h.C k (Dv<|h.C.r e d) n⟩
def abz{v:Ñ}(h:nh m i v):fq (ll (λd=>m<=d/\d<i) nB) v v:=by
 cases v with
 |int k n=>exact .iK k n
 |bool b=>exact .my b
 |string i=>exact .kS i
 |pointer a=>cases a with
  |none=>exact .lM
  |some a=>exact fq.jZ (ρ:=ll (λd=>m<=d/\d<i) nB) ⟨⟨U,h⟩,U,U⟩
 |slice a n c=>cases a with
  |none=>exact .nS n c
  |some a=>exact fq.kT (ρ:=ll (λd=>m<=d/\d<i) nB) ⟨⟨U,h⟩,U,U⟩ n c
 |_=>exact absurd h<|by simp[nh]
def aq9{v:Ñ}(h:nh m i v):yf v=Ë:=by
 cases v with
 |int k n=>cases k<;>first|rfl|exact absurd h<|by simp[nh]
 |_=>rfl
def ara(h:jG m w):kG nB (λi=>m<=i/\i<w.heap.size) w:=λb i=>by let⟨c,e,f,g,j,k,l,n,d⟩:=h b _ i.1<|Ü i.2;exact⟨c,e,f,by rw[Ü i.2,g],j,pR λv a=>abz<|d v a,k,zS λv a=>aq9<|d v a,l,n⟩
def MI{base:Nat}(h:w.ownsRow base e 1 v jJ.length (nR jJ)):∃c f,v=Æ c jJ.length f/\∀(j r:Nat),jJ[j]?=Â r->∃b,c=Â ⟨b,0,Á⟩/\base<=b/\w.cell? ⟨b,j,Á⟩=Â (Ã<|Â ⟨r,0,Á⟩):=by
 obtain⟨o,⟨i,k⟩|⟨g,p,q,rfl,l,m,s,t,u,n⟩⟩:=h
 .have d:=Ó k;subst d;exact⟨_,_,i,λj r a=>by cases a⟩
 .refine⟨_,_,U,λj r a=>⟨g,U,l,?_⟩⟩;have x:=(Ö.1 a).1;have d:(nR jJ)[j]?=Â (Ã<|Â ⟨r,0,Á⟩):=by simp[nR,a]
  rw[<-n,List.getElem?_take_of_lt Z]at d;simp only[ã,m,ü,ð,if_false];simpa using d
def abA(h:fl n (oL zQ++[z]) T w)(a:i<zQ.length):w.cell? ⟨n,i,Á⟩=Â (Å É<|zQ.getD i 0):=h.r i _<|Uh a z
def abB(h:fl i (oL zQ++[z]) T w)(a:zQ.length=n):w.cell? ⟨i,n,Á⟩=Â z:=h.r n _<|by rw[<-a];exact DC zQ z
def arb{r:PR}(h:wo i n r w):xY n r w:=by
 let⟨x,tb,e,l,y,b⟩:=h.I;refine⟨λa c=>abA e (by rwa[h.C]),?_⟩;obtain⟨m,o,rfl,p⟩:=MI l;refine⟨m,_,o,abB e h.C,b.r,λj t f=> ?_⟩;have g:j<tb.length:=by rw[b.r];exact(Ö.1 f).1
 let⟨s,u,z,v⟩:=p j tb[j]<|Ô g;let⟨_,_,k,d⟩:=b.I j tb[j] t (Ô g) f;exact⟨s,tb[j],u,v,⟨_,_,d⟩,λa c=>abA d (by rwa[k]),abB d k⟩
def ard(h:DG m v rs w):RQ rs v (λi=>m<=i/\i<w.heap.size) w:=by
 let⟨f,i,b,c⟩:=h;obtain⟨d,k,rfl,l⟩:=MI b;refine⟨ara f,?_,d,k,by rw[c.I],λj p e=> ?_⟩
 .cases d with
  |none=>exact .nS _ _
  |some a=>
   have:=b.lt a.block (by rcases b.2 with⟨q,_⟩|⟨g,n,o,q,_⟩<;>(cases q;try rfl));exact abz this
 .have a:j<i.length:=by rw[c.I];exact(Ö.1 e).1
  let⟨g,q,o,n⟩:=l j i[j]<|Ô a;exact⟨g,i[j],q,n,arb<|c.M j i[j] p (Ô a) e⟩
end
def abC(B:ByteArray)(z:Ñ)(u:Í):Prop:=∃v,z=ï #[v,Å É (gW B).1,Å É (gW B).2.1]/\((gW B).1=0->∃a,RQ (gW B).2.2 v a u)
def arf(B:ByteArray):wP (abC B):=λv u T D h=>by let⟨x,a,b⟩:=h;refine⟨x,a,λe=> ?_⟩;let⟨U,c⟩:=b e;exact⟨U,c.r λ_ _=>rfl⟩
def arh{l:fh}(f:gB l)(t:¬l.q)(u:nB<=l.w.heap.size)(C:B.size<=ě)(m:Bool)(h:Ę)(k:List Ę): fD.fp À m (λa n=>kN l a/\a.d=l.d/\∃v,n=G (h.finish<|ï #[v,Å É (gW B).1,Å É (gW B).2.1]) k/\((gW B).1=0->∃V,RQ (gW B).2.2 v V a.w/\∀b,V b->a.O b/\l.w.heap.size<=b)) l (G (é À 36 #[Ä B] ć)<|h::k):=by
 let⟨fn,c,D,V⟩:=zq 36 fR;have E:∀T,Ò À 36 #[Ä B] (World.tp (lh (λj=>False/\¬(ma l).O j) l.w) T 0) fun|Ç v,j=>abC B v j/\kl j|_,_=>False:=λT=>by refine(aq4 C).mono ?_;rintro e p ⟨g,v,rfl,i,o⟩;exact⟨⟨v,U,λe=>⟨_,ard<|i e⟩⟩,g.gX F4⟩
 have W:=Fj yh MD zq (arf B) fR D V (Fl f) t (λb q=>q.elim) ⟨λb q=>q.elim,u⟩ (λg q=>by cases q) (pR λv g=>by simp at g;subst g;exact .kS B) E m h k;refine(W.ma f).fQ ?_;rintro a n ⟨g,⟨ρ,j,v,v',_,F,H,⟨I,rfl,o⟩,J,K,_,L⟩,rfl,M,N,_,_⟩;cases H with
 |@nT _ cs'' hs mF=>
  let⟨P⟩:=cs'';match P,hs with
  |[x,y,z],_=>
   have p:=mF 0 ft ft;have r:=mF 1 ft ft;have s:=mF 2 ft ft;simp at p r s;cases r;cases s;refine⟨M,L,x,J,λe=> ?_⟩;let⟨U,Q⟩:=o e;have X:RQ (gW B).2.2 I U {j with tape:=g.w.tape,drawn:=g.w.drawn}:=Q.r λ_ _=>rfl;refine⟨_,aq7 F p X,λb V=> ?_⟩;let⟨i,_,Y⟩:=V;let⟨m1,m2⟩:=K i b Y;have So:l.w.heap.size<=b:=m2.elim (λq=>q.elim) λq=>q.elim (λq=>q.elim) id;refine⟨È (m1.resolve_right λq=> ?_),So⟩;rw[N]at q;have:=f.fx b q;omega
end Go.Proofs.Y.ml
namespace Go.Proofs.Y.iE
open Go Go.Proofs Go.RowKit Go.Proofs.Y.Lift
def DK:List Ñ:=iz (kg 8)++[Æ Á 0 0,Å É 0,Æ Á 0 0]
def ari(w:Í):Ò À 44 #[] w λe a=>∃c B,e=Ç (Æ (Â ⟨c,0,Á⟩) 1 1)/\fl B DK 147 a/\fl c [Ã<|Â ⟨B,0,Á⟩] 136 a/\fg (λ_=>False) w a:=by
 have d:(iz<|kg 8).length=144:=sw _;have i:(iz (kg 8)++[Æ Á 0 0]).length=145:=by rw[Ø,d];rfl
 have f:=fi<|Ê d i;unfold DK;have j:=fi λW=>anq W;generalize kg 8=s at*;go_enter Tryz.func44,Tryz.ntmps44;go_wp2_with (first
  |(go_at_call 60;refine(j.out _).mono ?_;rintro e W ⟨rfl,b⟩;have k:=fi b;clear b)
  |(with_reducible refine ę U (Â 2) U _ _ (Ti U U f.out.1) ?_)
  |(with_reducible refine ę U (Â 3) U _ _ (anK U U f.out.2) ?_)
  |(with_reducible refine ę U (Â 4) U _ _ (J' U U) ?_))
 have l:=fl.N W (iz s++[Æ Á 0 0,Å É 0,Æ Á 0 0]) 147;have m:=fg.gI (λ_=>False) W (iz s++[Æ Á 0 0,Å É 0,Æ Á 0 0]).toArray 147;have g:=fl.N (W.alloc<|Þ (iz s++[Æ Á 0 0,Å É 0,Æ Á 0 0]).toArray 147) [Ã<|Â ⟨W.heap.size,0,Á⟩] 136;have h:=fg.gI (λ_=>False) (W.alloc<|Þ (iz s++[Æ Á 0 0,Å É 0,Æ Á 0 0]).toArray 147) #[Ã<|Â ⟨W.heap.size,0,Á⟩] 136;have n:(W.alloc<|Þ (iz s++[Æ Á 0 0,Å É 0,Æ Á 0 0]).toArray 147).heap.size=W.heap.size+1:=ft
 rw[n]at g;have b:=fi<|Ê (l.I h id)<|Ê g<|(k.out.fj m).fj h;go_ret;exact⟨W.heap.size+1,W.heap.size,U,b.out.1,b.out.2.1,b.out.2.2⟩
def arj(n:Int)(j:1<=n)(k:n<=8)(w:Í):Ò À 35 #[Å É n] w λe b=>∃g a B,e=Ç (ï #[Ã<|Â ⟨g,0,Á⟩,Å É 0])/\fl g [Å É n,Æ (Â ⟨a,0,Á⟩) 1 1] 68 b/\fl B DK 147 b/\fl a [Ã<|Â ⟨B,0,Á⟩] 136 b/\fg (λ_=>False) w b:=by
 have l:¬n<1:=Z
 have m:¬8<n:=Z
 go_enter ς,Tryz.ntmps35;go_wp2_with (go_at_call 44;refine(ari _).mono ?_;rintro e c ⟨a,B,rfl,f,h,i⟩;have d:=fi<|Ê f<|Ê h i;clear f h i);go_ret2;have f:=fg.gI (λ_=>False) c #[Å É n,Æ (Â ⟨a,0,Á⟩) 1 1] 68;exact⟨c.heap.size,a,B,U,fl.N c [Å É n,Æ (Â ⟨a,0,Á⟩) 1 1] 68,d.out.1.I f id,d.out.2.1.I f id,d.out.2.2.fj f⟩
end Go.Proofs.Y.iE
namespace Go.Proofs.Y.ml
open Go Go.Conc Go.Proofs Go.RowKit Go.Proofs.Y.Lift Go.Proofs.Y.iE Go.Proofs.Y.fD Go.Proofs.Y.tM
section
variable{ρ:fv}{a:Nat->Prop}
def abD:∀v∈DK,(∃k n,v=Å k n/\k≠Ų)\/(∃p,v=Ä p)\/v=Æ Á 0 0:=λv k=>by
 unfold DK at k;rcases à.1 k with q|q
 .rcases T4 _ v q with⟨n,rfl⟩|⟨p,rfl⟩
  .exact È ⟨_,_,U,A⟩
  .exact Ï<|È ⟨p,U⟩
 .simp at q;rcases q with rfl|rfl|rfl
  .exact Ï<|Ï U
  .exact È ⟨_,_,U,A⟩
  .exact Ï<|Ï U
def abE:lB [iE.mM]:=⟨A,A,λv b=>by simp at b;subst b;exact⟨⟨(λp a=>by cases a),(λp a=>by cases a),Ú _,Ú _⟩,aai,Ŭ _,show(0:Int)<1 by decide⟩⟩
def ark(d:iE.fl n DK 147 w)(f:iE.fl i [Ã<|Â ⟨n,0,Á⟩] 136 w):RD [iE.mM] (Æ (Â ⟨i,0,Á⟩) 1 1) (λk=>k=i\/k=n) w:=by
 have g:=anL aai (by rwa[Ĵ]);refine⟨[(n,iE.mM)],U,abE,⟨_,1,1,U,â _,⟨U,λj b v e=> ?_⟩⟩,?_,fq.kT (ρ:=ll (λk=>k=i\/k=n) nB) ⟨⟨U,È U⟩,U,U⟩ 1 1⟩
 .cases j with
  |zero=>
   cases e;exact⟨_,0,U,f.r 0 _ U,g⟩
  |succ j=>simp at e
 .rintro b (rfl|rfl)
  .refine⟨_,_,_,f,ft,pR λv c=> ?_,ft,zS λv c=> ?_,A,A⟩
   .simp at c;subst c;exact fq.jZ (ρ:=ll (λk=>k=b\/k=n) nB) ⟨⟨U,Ï U⟩,U,U⟩
   .simp at c;subst c;rfl
  .refine⟨_,_,_,d,ft,pR λv c=> ?_,by simp[DK],zS λv c=> ?_,A,A⟩
   .rcases abD v (by simpa using c)with⟨k,a,rfl,_⟩|⟨p,rfl⟩|rfl
    .exact .iK k a
    .exact .kS p
    .exact .nS 0 0
   .rcases abD v (by simpa using c)with⟨k,a,rfl,h⟩|⟨p,rfl⟩|rfl
    .cases k<;>first|rfl|exact absurd U h
    .rfl
    .rfl
def Gm(b:Nat)(n:Int)(c:Ñ)(w:Í):Prop:=∃a,w.heap[b]?=Â (Þ #[Å É n,c] 68 a)/\a=(0,0)
def Gm.r(h:Gm i c v w)(k:W.heap[i]?=w.heap[i]?):Gm i c v W:=by let⟨a,b,d⟩:=h;exact⟨a,k.trans b,d⟩
def arl(h:jo ρ a u w)(g:∀b,¬a b)(q:ρ i j)(k:iE.fl i [Å É c,v] 68 u):∃l,fq ρ v l/\Gm j c l w:=by
 let⟨d,r,e,D,s,m,t,z,_,B,_⟩:=h.r i j q;unfold iE.fl at k;rw[k]at m;cases m;have f:=z.N<|g j;let⟨C⟩:=r;match C,f.r with
 |[x,y],_=>
  have o:=f.C 0 ft ft;have p:=f.C 1 ft ft;simp at o p;cases o;exact⟨y,p,s,t,(B<|g j).symm⟩
end
def abF(n:Int)(z:Ñ)(u:Í):Prop:=∃a b B,z=ï #[Ã<|Â ⟨a,0,Á⟩,Å É 0]/\iE.fl a [Å É n,Æ (Â ⟨b,0,Á⟩) 1 1] 68 u/\RD [iE.mM] (Æ (Â ⟨b,0,Á⟩) 1 1) (λi=>i=b\/i=B) u/\a≠b/\a≠B
def arn(n:Int):wP (abF n):=λv u T D h=>by let⟨b,c,B,d,e,a⟩:=h;exact⟨b,c,B,d,e,a.1.r λ_ _=>rfl,a.2⟩
def aro{l:fh}(p:gB l)(K:¬l.q)(L:nB<=l.w.heap.size){n:Int}(M:1<=n)(N:n<=8)(C:Bool)(r:Ę)(s:List Ę): fD.fp À C (λf D=>kN l f/\f.d=l.d/\∃a e,D=G (r.finish<|ï #[Ã<|Â ⟨a,0,Á⟩,Å É 0]) s/\Gm a n e f.w/\f.O a/\l.w.heap.size<=a/\∃V,RD [iE.mM] e V f.w/\¬V a/\∀b,V b->f.O b/\l.w.heap.size<=b) l (G (é À 35 #[Å É n] ć)<|r::s):=by
 let⟨fn,c,P,t⟩:=zq 35 fR;have Q:∀T,Ò À 35 #[Å É n] (World.tp (lh (λj=>False/\¬(ma l).O j) l.w) T 0) fun|Ç v,h=>abF n v h/\kl h|_,_=>False:=λT=>by refine(arj n M N _).mono ?_;rintro e z ⟨a,k,B,rfl,V,m,o,g⟩;exact⟨⟨a,k,B,U,V,ark m o,iE.fl.S V o A,iE.fl.S V m A⟩,g.gX F4⟩
 have W:=Fj yh MD zq (arn n) fR P t (Fl p) K (λb q=>q.elim) ⟨λb q=>q.elim,L⟩ (λg q=>by cases q) (pR λv e=>by simp at e;subst e;exact .iK _ _) Q C r s;refine(W.ma p).fQ ?_;rintro f D ⟨u,⟨ρ,h,v,v',_,g,X,⟨a,k,B,rfl,V,m,o,Y⟩,q5,q7,_,q6⟩,rfl,ha,hR,_,_⟩;have E:∀i j,ρ i j->(pI l u).O j/\l.w.heap.size<=j:=λi j e=>by let⟨z,F⟩:=q7 i j e;have H:l.w.heap.size<=j:=F.elim (λq=>q.elim) λq=>q.elim (λq=>q.elim) id;refine⟨È (z.resolve_right λq=> ?_),H⟩;rw[hR]at q;have:=p.fx j q;omega
 cases X with
 |@nT _ cs'' hs mF=>
  let⟨ls⟩:=cs'';match ls,hs with
  |[x,y],_=>
   have F:=mF 0 ft ft;have H:=mF 1 ft ft;simp at F H;cases H;obtain⟨a2,rfl,m3⟩:=NB F;obtain⟨I,rfl,z⟩:=zP m3;have h2':RD [iE.mM] (Æ (Â ⟨k,0,Á⟩) 1 1) (λi=>i=k\/i=B) {h with tape:=u.w.tape,drawn:=u.w.drawn}:=m.r λ_ _=>rfl;let⟨tB,J,e2⟩:=arl g (λj q=>q.1) z V;let⟨vs,k1,k2,k3,k4,k5⟩:=h2';let⟨vs',n1,n2⟩:=Jv (zU g) J k3;let⟨p1,p2⟩:=E a I z;refine⟨ha,q6,I,tB,q5,e2,p1,p2,_,⟨vs',n1.trans k1,k2,n2,T5 g k4,ND J k5⟩,?_,λb t=> ?_⟩
   .rintro⟨i,hi,e⟩;have:=g.C.2.1 _ _ _ z e;subst this;exact hi.elim o Y
   .let⟨i,_,e⟩:=t;exact E i b e
end Go.Proofs.Y.ml
namespace Go.Proofs.Y.ml
open Go Go.Conc Go.Proofs Go.RowKit Go.Proofs.Y.Lift Go.Proofs.Y.iE Go.Proofs.Y.fD Go.Proofs.Y.tM
structure u9(an:Nat)(xs:List ByteArray)(w:Í):Prop where
 r:∀(p:Nat) (x:ByteArray),xs[p]?=Â x->w.cell? ⟨an,p,Á⟩=Â (Ä x)
 C:w.cell? ⟨an,xs.length,Á⟩=Á
section
variable{an:Nat}{xs:List ByteArray}
def u9.rI(h:u9 an xs w)(k:0<xs.length):∃c e f,w.heap[an]?=Â (Þ c e f)/\c.size=xs.length/\∀v∈c.toList,∃x,v=Ä x:=by
 have i:∀p,p<xs.length->w.cell? ⟨an,p,Á⟩=Â (Ä xs[p]!):=λp a=>h.r p _ (by simp[a]);have b:=i 0 k;have d:=h.C;simp only[ã]at b d;cases g:w.heap[an]? with
 |none=>rw[g]at b;cases b
 |some o=>
  cases o<;>rw[g]at b d<;>simp only[ü,ð,if_false]at b d<;>first|cases b|skip
  rename_i c e f;have l:c.size<=xs.length:=by
   rcases Ĕ xs.length c.size with q|q
   .rw[Ü q]at d;cases d
   .exact q
  have j:=λp a=>by have:=i p a;simp only[ã,g,ü,ð,if_false]at this;exact this
  have m:xs.length<=c.size:=by
   rcases Ĕ c.size xs.length with q|q
   .have:=j c.size q;rw[æ<|â _]at this;cases this
   .exact q
  refine⟨c,e,f,U,Nat.le_antisymm l m,λv n=> ?_⟩;let⟨p,a⟩:=Ġ n;have r:p<c.size:=by have:=(Ö.1 a).1;simpa using this
  have:=j p Z;rw[Ł]at a;rw[this]at a;cases a;exact⟨_,U⟩
end
def arp{l:fh}(o:gB l)(F:¬l.q)(H:nB<=l.w.heap.size)(h:u9 i vX l.w)(I:0<vX.length)(J:l.M i)(p:lz i=Ë)(f:kU l.w i=Â (0,0))(hn:vX.length<=1000)(K:B.size=1)(L:iH vX+vX.length<=140737488355328)(r:Bool)(k:Ę)(m:List Ę): fD.fp À r (λn s=>kN l n/\n.d=l.d/\s=G (k.finish<|Ä<|lk B vX) m) l (G (é À 38 #[Æ (Â ⟨i,0,Á⟩) vX.length vX.length,Ä B] ć)<|k::m):=by
 let⟨fn,c,N,P⟩:=zq 38 fR;let⟨t,e,Q,y,b2,z⟩:=h.rI I;have C:(λj=>j=i/\¬(ma l).O j)=λj=>j=i:=by funext j;exact propext ⟨λq=>q.1,λq=>⟨q,id⟩⟩
 have V:∀T,Ò À 38 #[Æ (Â ⟨i,0,Á⟩) vX.length vX.length,Ä B] (World.tp (lh (λj=>j=i) l.w) T 0) fun|Ç v,E=>v=Ä (lk B vX)/\kl E|_,_=>False:=λT=>by
  refine(TW U Z (â _) K (λj v a=> ?_) L).mono ?_
  .unfold jm at a;rw[ó]at a;obtain⟨x,b,rfl⟩:=ø.1 a;exact⟨i,0,U,by rw[Ė];exact pT (È p)<|h.r j x b⟩
  .rintro e g ⟨rfl,b⟩;exact⟨U,b.gX F4⟩
 have X:∀v∈t.toList,fq (qB (λj=>j=i) À.globals.size) v v:=λv a=>by obtain⟨x,rfl⟩:=z v a;exact .kS x
 have Y:fT (qB (λj=>j=i) À.globals.size) #[Æ (Â ⟨i,0,Á⟩) vX.length vX.length,Ä B] #[Æ (Â ⟨i,0,Á⟩) vX.length vX.length,Ä B]:=pR λv a=>by
  have b:v=Æ (Â ⟨i,0,Á⟩) vX.length vX.length\/v=Ä B:=by simpa using a
  rcases b with rfl|rfl
  .exact fq.kT (ρ:=qB (λj=>j=i) À.globals.size) ⟨⟨U,U⟩,U,U⟩ _ _
  .exact .kS B
 have W:=Fj yh MD zq (λv u T D h=>h) fR N P (Fl o) F (λb q=>Ï<|by rwa[q]) (by rw[C];refine⟨λb q=> ?_,H⟩;subst q;exact⟨t,e,Q,y,(by unfold kU at f;rw[y]at f;cases f;exact Ú _),pR X,λ_=>⟨Z,(λq=>by rw[p]at q;cases q),λ_=>zS λv a=>by obtain⟨x,rfl⟩:=z v a;rfl⟩⟩) (λg q=>by cases q) Y (by rwa[C]) r k m;refine(W.ma o).fQ ?_;rintro n s ⟨D,⟨ρ,E,v,v',_,_,b,rfl,g,_,_,u⟩,rfl,x,_,_,_⟩;cases b;exact⟨x,u,g⟩
end Go.Proofs.Y.ml
namespace Go.Proofs.Y.fD
open Go Go.Conc Go.Proofs.Y.Lift
open Go.ConcN (sumTo sumTo_congr)
def Ux(P:ay)(a:Ñ->Í->Prop):Jd:=λl g=>g.status=.running/\∃v,(∀w,stepG P Î g w=.ended (.done v) w)/\a v l.w
section
variable{e:Nat->fh}
def kD.nh{J:Jd}{T:gy}(c:kD P X zX i J T D e E w qJ){sl:Option (Nat×Nat)}(k:vQ v u):ε P vQ (ĸ E w sl) (.done v) u qJ:=by
 have C:=c.r.r;have f:∀a g,E[a]?=Â g->a≠0->QuitsD P (D a) (Deaf qJ a) g:=λa g b d=>by
  have h:=(Ù.1 b).1;let⟨g0,j,l,_,_⟩:=c.r.C a g b;obtain rfl:g=g0:=by cases l;rfl
  simp only[d,if_false]at j;rw[C.f a h];exact j _<|fK.fW _ _
 refine⟨v,U,k,C.l,c.N,⟨λg l=> ?_,U⟩,λa g b d=>⟨D a,(f a g b d).hears _⟩⟩;let⟨j,h⟩:=Ġ l;rw[List.getElem?_drop]at h;exact⟨_,(f (1+j) g (by rwa[<-Ł]) Z).leaves⟩
def arq{J:Jd}{T:gy}{l:fh}(v:l.w=W)(y:l.d=0)(o:¬l.q)(r:∀b,¬l.I b)(u:∀a,¬l.r a)(s:∀a,¬l.N a)(z:∀a,¬l.K a)(B:∀b,l.O b->b<W.heap.size)(C:g.status=.running)(D:k9 P Î J T l g):si P (λ_=>False) 0 J T (λ_=>0) (λ_=>l) #[g] W #[]:=by
 have m:∀(p:Nat) a,touchAt #[] p=Â a->False:=λp a h=>by unfold touchAt Trace.act? at h;simp at h
 refine⟨ft,⟨⟨λi j f t E=> ?_,λi j f t E=> ?_,λi _ b _=>r b,λi _ a _=>s a,λ_ _ _ _=>id,λi _ a e=>e.elim (λq=>absurd q<|u a) λq=>absurd q<|s a,λi _ b F=>F.elim (B b) λq=>absurd q<|r b,λ_ h=>h.elim,λi _=>by rw[v];exact fK.fW _ _,λi _=>⟨λa e p x n=>(m p x n).elim,λa e=>(r _ e).elim,λa e=>(u a e).elim,λa e=>(s a e).elim⟩,λi _=>by rw[y];rfl,λI q=> ?_,λL G=>by simp at G,λp a c h=>(m p a h).elim,λi _ a e=>absurd e<|z a⟩,λi x n=> ?_,?_⟩,λi M f=> ?_,o,λp a h=>(m p a h).elim,λp a x h=>(m p a h).elim,λa _ q o=> ?_,?_⟩
 .have k:i<1:=f;have H:j<1:=t;omega
 .have k:i<1:=f;have H:j<1:=t;omega
 .let⟨i,j,_,⟨a,b,e,_⟩,_⟩:=q;simp[Trace.act?]at e
 .have k:i<1:=(Ù.1 n).1;obtain rfl:i=0:=Z
  obtain rfl:g=x:=by simpa using n
  exact⟨g,D,.gp,È C,È U⟩
 .exact λj _=>rfl
 .have k:i<1:=f;omega
 .simp[Trace.act?]at o
 .intro i g k;simp[Trace.g?]at k
end
end Go.Proofs.Y.fD
namespace Go.Proofs.Y.ml
open Go Go.Conc Go.Proofs Go.RowKit Go.Proofs.Y.Lift Go.Proofs.Y.iE Go.Proofs.Y.fD Go.Proofs.Y.tM
open Go.ConcN (sumTo)
def zZ(f:Ñ->Í->Prop)(c:Array đ)(w:Í)(d:Option (Nat×Nat))(t:Ζ):Prop:=
 ∃N a v b e,Η À (N+1) (ĸ c w d) t=(.ended (.done v) b,e)/\runN À N (ĸ c w d)=.next a/\step À a=.ended (.done v) b/\ε À f a (.done v) b e
section
variable{f:Array đ}{w':Í}{sl e:Option (Nat×Nat)}{t:Ζ}{l:fh}
def zZ.fQ{a:Ñ->Í->Prop}(h:zZ vQ E w sl t)(b:∀v u,vQ v u->a v u):zZ a E w sl t:=by let⟨M,c,v,x,d,e,f,g,i⟩:=h;exact⟨M,c,v,x,d,e,f,g,i.mono λv q=>b v x q⟩
def zZ.pI{N:Nat}(r:Η À N (ĸ E w sl) t=(.next<|ĸ f w' e,qJ))(h:zZ vQ f w' e qJ):zZ vQ E w sl t:=by
 let⟨M,a,v,x,b,c,d,g,i⟩:=h;refine⟨N+M,a,v,x,b,?_,?_,g,i⟩
 .rwa[ſ,runNT_add,r]
 .rw[<-Ū À (N+M) (ĸ E w sl) t,runNT_add,r];rwa[Ū]
def sL(vQ:Ñ->Í->Prop)(E:Array đ)(w:Í)(sl:Option (Nat×Nat))(t:Ζ):Prop:=zZ (λv u=>vQ v u/\u.os=w.os/\u.output=w.output) E w sl t
def sL.r{N:Nat}(r:Η À N (ĸ E w sl) t=(.next<|ĸ f w' e,qJ))(a:w'.os=w.os/\w'.output=w.output)(h:sL vQ f w' e qJ):sL vQ E w sl t:= zZ.pI r<|h.fQ λ_ _ q=>⟨q.1,q.2.1.trans a.1,q.2.2.trans a.2⟩
def kD.ars{Y:Nat->Prop}:∀(s:Nat) (h:Nat->Nat) (j:Nat->fh) (E:Array đ) (w:Í) (sl:Option (Nat×Nat)) (t:Ζ),sumTo E.size h=s->kD À Y zX n (Ux À vQ) .fF h j E w t->sL vQ E w sl t:=by
 intro s
 induction s using Nat.strongRecOn with
 |_ s r=>
  intro h j E w sl t I c;have J:=c.C;obtain⟨g0,a⟩:∃g,E[0]?=Â g:=⟨_,Ü Z⟩;have o:∀d,Ux À vQ {j 0 with w:=w.at d} g0:=λd=>by
   let⟨u,b,k,_,_⟩:=(c.I d).r.C 0 g0 a;obtain rfl:g0=u:=by cases k;rfl
   exact b (w.at d)<|(c.I d).r.r.r 0 Z
  obtain⟨i,g,d,e,l,x,m⟩:=crowd_pick c.Lp ⟨0,g0,a,(o 0).1⟩;by_cases p:i=0
  .subst p;rw[a]at l;obtain rfl:=aA l;let⟨_,v,q,y⟩:=o d;have u:stepT À (ĸ E w sl)=(.ended (.done v)<|w.at d,#[]):=by
    rw[m,ConcN.runT_crowd_ended a<|q<|w.at d];rfl
   refine⟨0,ĸ E w sl,v,w.at d,t,?_,U,?_,c.nh ⟨y,U,U⟩⟩
   .simp[Η,u]
   .have:=stepT_fst À (ĸ E w sl) Î;rw[<-this];rw[u]
  .let⟨q,y,f,u,b,k,K,L,z⟩:=(c.I d).ZD (sl:=e) l p x;let⟨N,B,v,w',qJ,C,D,F,G⟩:=r (sumTo f.size q) (by rw[k];omega) q y f (w.at d) e (t++u) U z;refine⟨N+1,B,v,w',qJ,by simp only[Η,m,b];exact C,?_,F,G⟩;have:=Ū À (N+1) (ĸ E w sl) t;rw[<-this];simp only[Η,m,b];rwa[Ū]
structure im(l:fh):Prop where
 r:gB l
 d:l.d=0
 q:¬l.q
 N:∀b,¬l.I b
 I:∀a,¬l.r a
 M:∀a,¬l.N a
 k:∀a,¬l.K a
def im.C(h:im l)(r:fK l l.w u):im {l with w:=u}:= ⟨⟨h.r.c,h.r.Y,h.r.N,λb q=>Ī (h.r.fx b q) r.r,λa q=>q.elim (λz=>(h.I a z).elim) λz=>(h.M a z).elim,λa q=>(h.k a q).elim⟩,h.d,h.q,h.N,h.I,h.M,h.k⟩
def jc(vQ:Ñ->Í->Prop)(l:fh)(g:đ):Prop:=
 im l->g.status=.running->∀(a:Loc->Prop) (H:Nat) (J:Jd) (c:Nat->Nat) (b:Nat->fh) (E:Array đ) (sl:Option (Nat×Nat)) (t:Ζ),vT a H l->fD.si À a H J .fF c b E l.w t->(b 0).d=0->E[0]?=Â g->sL vQ E l.w sl t
def aru{a:fh}(h:vT zX i l)(k:rj l a l.w a.w):vT zX i a:= ⟨h.r,λb c x d q=>by
  rcases k.N b c with z|z
  .exact h.fu b z x d q
  .have:=h.r x q;have:=h.C;omega,Ì h.C k.r⟩
def Uy{J f:Jd}{e:Nat->fh}(a:im l)(h:g.status=.running)(j:vT zX i l)(c:fD.si À zX i J .fF D e E l.w t)(m:(e 0).d=0)(n:E[0]?=Â g)(W:fD.fp À Î f l g):∃T,fD.si À zX i f T D (fD.vq e l) E l.w t:=by let⟨T,o⟩:=jq W;exact⟨T,kD.Y c m n h U a.d a.q a.N a.I a.M a.k (λb q=>⟨a.r.fx b<|È q,j.fu b q⟩) o⟩
def abG{Y:Nat->Prop}{J:Jd}{a:Nat->fh}(c:kD À Y zX i J .fF D a E w t):∃g,E[0]?=Â g/\J {a 0 with w:=w} g:=by
 obtain⟨g0,b⟩:∃g,E[0]?=Â g:=⟨_,Ü c.C⟩;let⟨d,e,f,_,_⟩:=c.r.C 0 g0 b;obtain rfl:g0=d:=by cases f;rfl
 exact⟨g0,b,e w<|c.r.r.r 0 c.C⟩
def N5(vQ:Ñ->Í->Prop):Jd:=λl g=>im l/\g.status=.running/\jc vQ l g
def arv{b:Nat->fh}{T:gy}(m:(b 0).w=w)(n:vT zX i (b 0))(c:fD.si À zX i (N5 vQ) T D b E w t):sL vQ E w sl t:=by let⟨N,o,p,f,w',e,qJ,r,_,a,j⟩:=kD.G (λl g h=>È h.2.1) T _ D b E w sl t U c;let⟨v,q,h,s,u⟩:=abG j;refine sL.r r ⟨a.C,a.I⟩<|u h s zX i (N5 vQ) o p f e qJ ?_ j h.d q;apply aru n;rw[m];exact⟨a.r,a.N,a.c,a.S,a.b,a.k,a.jV,a.M,a.Y,a.C,a.I,a.d⟩
def p6(W:fD.fp À Î (N5 vQ) l g):jc vQ l g:=by intro b d i H J j k E sl t a c e f;let⟨T,h⟩:=Uy b d a c e f W;exact arv (by rw[fD.Se]) (by rwa[fD.Se]) h
def arw(W:fD.fp À Î (Ux À vQ) l g):jc vQ l g:=by intro b d s H J i u E sl t j c k m;let⟨T,n⟩:=Uy b d j c k m W;let⟨N,o,p,f,w',e,qJ,r,_,a,q⟩:=kD.G (λl g h=>È h.1) T _ i _ E l.w sl t U n;exact sL.r r ⟨a.C,a.I⟩<|kD.ars _ o p f w' e qJ U q
def zV.N{e:we}{R:Nat}{kd:Nat->Int}{f:List fP}{c:fh}(h:zV X e R kd f l i v c)(r:fK c c.w u):zV X e R kd f l i v {c with w:=u}:=by have a:=λb q=>r.I b<|È q;let⟨V,j,g⟩:=h.Y;exact⟨λb q=>⟨(h.M b q).1,(a b (h.M b q).1).trans (h.M b q).2⟩,⟨h.r.1,λp k=>(gM<|a i h.r.1).trans<|h.r.2 p k⟩,⟨V,j.r λb q=>a b (g b q).1,g⟩,h.d,h.q,h.S,h.C,(gM<|a i h.r.1).trans h.I.1,(wS<|a i h.r.1).trans h.I.2⟩
def arx{kd:Nat->Int}{bt:we}{V0 h:Nat->Prop}{s0:List fP}{B:Option ý}{I:Option ý}{R:Nat}{C:Ę}{z:Array Ĩ} (Iu:0<R->I=Â ⟨j7,0,Á⟩) (CV:0<R->l.M j7) (Iv:∀i,i<R->l.w.cell? ⟨j7,i,Á⟩=Â (Ã<|Â ⟨D i,0,Á⟩)) (Iw:∀i,i<R->l.w.cell? ⟨D i,4,Á⟩=Â (Å É<|kd i)) (K:Jz l bt kd D R X) (hZ:(∀b,X b->h b)/\∀b,b=1\/b=2\/b=3\/b=4->h b) (hZO:∀b,h b->l.O b) (hVZ:∀b,V0 b->h b) (C5:RD s0 (Æ B j j9) V0 l.w) (hn:1<=n) (hs:n+R<1000) (hJ:∀o v p m c,im o->zV h bt R kd s0 l v (Æ p m c) o->jc vQ o (G (C.at (y.put ((z[i]?).bind (·.dst))<|ï #[Æ (Â ⟨v,0,Á⟩) R R,Æ p m c])<|Ð z jJ::L) qX)): jc vQ l (Fa (Æ B j j9) (Æ I R j6) n<|C.at y (Ð z (i::jJ)::L)::qX):=by
 intro s hr ju H J lv lot E sl t NK c hd P;have W:fD.fp À Î (Mq kd D R n (Æ B j j9) l<|C.at y (Ð z (i::jJ)::L)::qX) l (Fa (Æ B j j9) (Æ I R j6) n<|C.at y (Ð z (i::jJ)::L)::qX):= ai7 s.r s.q s.d Z Iu CV Iv (λi P=>È<|K.fu _<|K.r i P) Iw λg V o u x F v T Y all bw bf v1 h1 h2=>⟨g,V,u,x,F,v,T,Y,all,bw,bf,v1,h1,h2,U⟩;let⟨T,c'⟩:=Uy s hr NK c hd P W;let⟨N,jD,IN,f,w',e,qJ,r,_,x,c''⟩:=kD.G (λlx gx V=>by obtain⟨_,_,_,_,_,_,_,_,_,_,_,_,_,_,rfl⟩:=V;exact È U) T _ lv _ E l.w sl t U c';apply sL.r r ⟨x.C,x.I⟩;let⟨N2,arz,Y,T2,Mr,Sm,gs2,w2,zm,t2,r2,io2,c2⟩:=apJ (J:=λu Y o F=>vT u Y o/\N5 vQ o F) U c'' e s.r s.N s.q s.d NK K hZ hZO hVZ C5 ⟨x.C,x.I⟩ hn hs λFh H' o v p m c z1 z2 u=> .fF λw₁ F=>by have kL:im o:=⟨z2,u.d,u.q,u.S,u.C.1,u.C.2.1,u.C.2.2⟩;exact⟨⟨z1.r,z1.fu,Ì z1.C F.r⟩,kL.C F,U,hJ _ v p m c (kL.C F)<|u.N F⟩
 apply sL.r r2 ⟨io2.1.trans x.C.symm,io2.2.trans x.I.symm⟩;let⟨N3,MS,arA,gs3,w3,sl3,t3,r3,_,wn3,c3⟩:=kD.G (λlx gx V=>È V.2.2.1) T2 _ Mr Sm gs2 w2 zm t2 U c2;apply sL.r r3 ⟨wn3.C,wn3.I⟩;let⟨g3,Uz,nt,V,hr3,hs3⟩:=abG c3;exact hs3 V hr3 arz Y _ MS arA gs3 sl3 t3 nt c3 V.d Uz
end
end Go.Proofs.Y.ml
namespace Go.Proofs.Y.ml
open Go Go.Conc Go.Proofs Go.RowKit Go.Proofs.Y.Lift Go.Proofs.Y.iE Go.Proofs.Y.fD Go.Proofs.Y.tM
open Go.Conc.Lib Go.ConcR.Gen Go.Proofs.YtgpphkdoanciiaaGreatDoor
def toTx(t:PT):Tx:=⟨(t.c.getD 0 0).toNat,(t.c.getD 1 0).toNat,t.c.getD 2 0,t.c.getD 3 0,t.c.getD 4 0,t.p⟩
def toQn(r:PR):Qn:=⟨(r.c.getD 0 0).toNat,(r.c.getD 1 0).toNat,(r.c.getD 2 0).toNat,(r.c.getD 3 0).toNat,r.c.getD 4 0,r.c.getD 5 0,r.c.getD 6 0,(r.c.getD 7 0).toNat⟩
def oC:PR:=⟨[],[]⟩
def wx(a:List PR):we where
 r:=λp=>((a.getD p oC).c.getD 5 0,((a.getD p oC).c.getD 0 0).toNat,(a.getD p oC).r.map toTx)
 C:=λp=>toQn<|a.getD p oC
def lq(a:List PR)(p:Nat):Int:=(a.getD p oC).c.getD 4 0
section
variable{p:PR}{t:PT}{a:Nat}{rs:List PR}{l:fh}
def toTx_ok(h:nI t):(toTx t).Ok:=by have d:=h.c.r 0 A;have e:=h.c.r 1 A;have a:=h.c.r 2 A;have b:=h.c.r 3 A;simp only[lL]at d e a b;exact⟨by show(t.c.getD 0 0).toNat<8;omega,by show(t.c.getD 1 0).toNat<8;omega,a.1,a.2,b.1,b.2,h.p⟩
def z8(a:0<=c)(h:w.cell? ⟨b,i,Á⟩=Â (Å É c)):w.cell? ⟨b,i,Á⟩=Â (Å É (c.toNat:Nat)):=by
 rw[h];have:((c.toNat:Nat):Int)=c:=Z
 rw[this]
def arB(h:nI t)(k:JH a t w):lV a (toTx t) w:=by have b:=h.c.r 0 A;have d:=h.c.r 1 A;simp only[lL]at b d;exact⟨k.r,z8 b.1<|k.c 0 A,z8 d.1<|k.c 1 A,k.c 2 A,k.c 3 A,k.c 4 A,k.p⟩
def arC(h:uZ p)(k:xY i p w):Dx i (p.c.getD 5 0) (p.c.getD 0 0).toNat (p.r.map toTx) w:=by
 have g:=h.c.r 0 A;simp only[lL]at g;let⟨l,n,v,z,B,C⟩:=k.b;let⟨m,D,o⟩:=wD (R:=λj t (y:Nat×Tx)=>y.2=toTx t/\∃d,l=Â ⟨d,0,Á⟩/\w.cell? ⟨d,j,Á⟩=Â (Ã<|Â ⟨y.1,0,Á⟩)/\JH y.1 t w) p.r 0 λj t E=>by let⟨d,a,e,f,q⟩:=C j t E;exact⟨(a,toTx t),U,d,e,by rwa[Ė],q⟩
 refine⟨l,n,v,m,⟨z8 g.1<|k.c 0 A,k.c 5 A,z⟩,⟨by rw[B,D],λj a t q=> ?_⟩,?_,by have:=h.n;omega⟩
 .let⟨x,f,e,d,F,r,s⟩:=o j (a,t) q;simp only at e r s;subst e;have u:=h.C x<|è f;exact⟨d,0,F,r,arB u s,toTx_ok u⟩
 .refine Ŝ λj=> ?_;unfold lI;rw[ó,ó];cases d:m[j]? with
  |none=>
   have:p.r[j]?=Á:=by rw[į]at d|-;omega
   rw[this];rfl
  |some y=>
   let⟨x,f,e,_⟩:=o j y d;rw[f];simp[e]
def arD(h:uZ p)(k:xY i p w):Jy i (toQn p) w:=by have a:=h.c.r 0 A;have b:=h.c.r 1 A;have d:=h.c.r 2 A;have e:=h.c.r 3 A;have f:=h.c.r 7 A;simp only[lL]at a b d e f;exact⟨z8 a.1<|k.c 0 A,z8 b.1<|k.c 1 A,z8 d.1<|k.c 2 A,z8 e.1<|k.c 3 A,k.c 4 A,k.c 5 A,k.c 6 A,z8 f.1<|k.c 7 A⟩
def abH(h:uZ p)(k:p.c.getD 4 0≠1):(toQn p).Ok:=by
 have d:=h.c.r 0 A;have e:=h.c.r 1 A;have f:=h.c.r 2 A;have g:=h.c.r 3 A;have i:=h.c.r 4 A;have a:=h.c.r 5 A;have b:=h.c.r 6 A;have j:=h.c.r 7 A;simp only[lL]at d e f g i a b j;refine⟨?_,?_,?_,?_,?_,?_,a.1,b.1,?_⟩
 .show(p.c.getD 0 0).toNat<8;omega
 .show(p.c.getD 1 0).toNat<8;omega
 .show(p.c.getD 2 0).toNat<1000000;omega
 .show(p.c.getD 3 0).toNat<18446744073709551616;omega
 .show 2<=p.c.getD 4 0;omega
 .show p.c.getD 4 0<=9;omega
 .show(p.c.getD 7 0).toNat<16;omega
def arE(h:RQ rs v X l.w)(o:∀i∈rs,uZ i)(C:nO l.w)(D:∀b,b=1\/b=2\/b=3\/b=4->l.O b)(p:∀b,X b->l.O b): ∃j q f g,v=Æ j rs.length q/\(0<rs.length->j=Â ⟨f,0,Á⟩)/\(0<rs.length->l.O f)/\(∀a,a<rs.length->l.w.cell? ⟨f,a,Á⟩=Â (Ã<|Â ⟨g a,0,Á⟩))/\(∀a,a<rs.length->l.w.cell? ⟨g a,4,Á⟩=Â (Å É<|lq rs a))/\Jz l (wx rs) (lq rs) g rs.length X:=by
 obtain⟨r,E,rfl,s⟩:=h.M;have k:∀a,a<rs.length->rs[a]?=Â (rs.getD a oC):=λa d=>by simp[ď,d]
 have u:=λa d=>è<|k a d;obtain⟨f,m⟩:∃f,∀a,a<rs.length->r=Â ⟨f,0,Á⟩:=by
  by_cases e:0<rs.length
  .let⟨q,i,j,_⟩:=s 0 _<|k 0 e;exact⟨q,λ_ _=>j⟩
  .exact⟨0,λa d=>by omega⟩
 have F:∀a,∃i,a<rs.length->l.w.cell? ⟨f,a,Á⟩=Â (Ã<|Â ⟨i,0,Á⟩)/\xY i (rs.getD a oC) l.w:=λa=>by
  by_cases d:a<rs.length
  .let⟨q,i,j,x,y⟩:=s a _<|k a d;have:=j.symm.trans<|m a d;cases this;exact⟨i,λ_=>⟨x,y⟩⟩
  .exact⟨0,λq=>absurd q d⟩
 let⟨g,j⟩:=Classical.axiomOfChoice F;have y:=λe=>by have:=h.I;rw[m 0 e]at this;exact Dw this
 refine⟨r,E,f,g,U,λe=>m 0 e,λe=>p _<|y e,λa d=>(j a d).1,λa d=>(j a d).2.c 4 A,C,D,h.C,p,λa d=> ?_,λa d z=> ?_,λa d z=> ?_⟩
 .exact Dv<|h.C.r (y Z) (j a d).1
 .have q:=o _<|u a d;have e:=q.c.r 0 A;have B:=q.c.r 5 A;simp only[lL]at e B;refine⟨arC q (j a d).2,?_,B.1,λt G=> ?_,?_⟩
  .show((rs.getD a oC).c.getD 0 0).toNat<8;omega
  .obtain⟨x,H,rfl⟩:=Ý.1 G;exact toTx_ok<|q.C x H
  .show((rs.getD a oC).r.map toTx).length<=1000;rw[í];have:=q.n;omega
 .have q:=o _<|u a d;exact⟨arD q (j a d).2,abH q z⟩
end
def N6:(∀r∈(gW B).2.2,uZ r)/\(gW B).2.2.length<=24:=by
 unfold gW;split
 .exact⟨(λr a=>by cases a),A⟩
 .split
  .unfold mo;split
   .exact⟨(λr a=>by cases a),A⟩
   .have:=(Ur B.size 0 ng (Uq B)<|Ú _).1.d;exact⟨this.G,this.C⟩
  .exact⟨(λr a=>by cases a),Ú _⟩
def jz(rs:List PR)(s:List fP):List ByteArray:=(ĭ rs.length).map λp=>xT (wx rs) (lq rs) p<|pU (wx rs) (ic (lq rs) rs.length) s<|fO (lq rs) p
def Aa(rs:List PR)(s:List fP):List fP:=pU (wx rs) (ic (lq rs) rs.length) s<|fO (lq rs) rs.length
def mq(s:List fP)(B:ByteArray):ByteArray×Int×List fP:=
 if(gW B).1=0 then(lk ⟨#[59]⟩<|jz (gW B).2.2 s,0,Aa (gW B).2.2 s)else(⟨#[]⟩,(gW B).1,s)
section
variable{b:Ę}{l:fh}{a:Ď}
def abI{md:Ŋ}(I:Array Bool->Ď->fh->Prop) (o:∀c a l i k,I c a l->i∈ç md Q c->(∀f g,I (c.setIfInBounds i Î) f g->jc vQ g (G (b.at f<|Ð Q k::L) qX))->jc vQ l (G (b.at a<|Ð Q (i::k)::L) qX)) (m:∀c a l,I c a l->c.size=Q.size->ç md Q c=[]->jc vQ l (G (b.at a<|Ð Q []::L) qX)): ∀(d t:Nat) (c:Array Bool) (a:Ď) (l:fh),c.size=Q.size->jh c<=d->I c a l->jc vQ l (G (b.at a<|Ð Q (č md Q d t c [])::L) qX):=by
 intro d
 induction d with
 |zero=>
  intro t c a l e p h;simpa[č]using m c a l h e<|QP e Z
 |succ d q=>
  intro t c a l e p h;simp only[č];change jc vQ l (G (b.at a (Ð Q (match(ç md Q c)[t%(ç md Q c).length]? with
   |some i=>č md Q d (t/(ç md Q c).length) (c.setIfInBounds i Î) [i]
   |none=>[].reverse)::L)) qX)
  cases j:(ç md Q c)[t%(ç md Q c).length]? with
  |none=>
   have r:ç md Q c=[]:=by
    cases s:ç md Q c with
    |nil=>rfl
    |cons x n=>
     rw[s]at j;have u:t%(x::n).length<(x::n).length:=Nat.mod_lt _ ft;simp at j;simp at u;omega
   simpa using m c a l h e r
  |some i=>
   simp only[];rw[linearise_go_acc,List.reverse_singleton,List.singleton_append];have n:=è j;refine o c a l i _ h n λf g r=> ?_;exact q _ _ f g (by simpa using e) (by have:=Lt (Ι.1 n).1;omega) r
def arF{id:Nat}(I:Array Bool->Ď->fh->Prop)(e:im l) (j:∀f,fK l l.w f->I (ű Q.size Ë) a {l with w:=f}) (k:∀g c a l i m,I c a l->i∈ç g Q c->(∀n o,I (c.setIfInBounds i Î) n o->jc vQ o (G (b.at n<|Ð Q m::L) qX))->jc vQ l (G (b.at a<|Ð Q (i::m)::L) qX)) (p:∀g c a l,I c a l->c.size=Q.size->ç g Q c=[]->jc vQ l (G (b.at a<|Ð Q []::L) qX)): jc vQ l (G (b.at a<|aI (.region id Q Î)::L) qX):=by
 refine p6 (.mk U λf r=>⟨_,_,_,_,stepG_region_draw,QO (mH e.r.r r) e.q,.fF λs d=> ?_⟩);have h:=r.fj ⟨d.r,d.I,d.N,d.Y,d.S⟩;refine⟨e.C h,U,?_⟩;unfold Region.schedule;split
 .exact abI I (k _) (p _) _ _ _ _ _ ft (by rw[EJ];exact â _)<|j s h
 .exact abI I (k _) (p _) _ _ _ _ _ ft (by rw[EJ];exact â _)<|j s h
def arG{I:Ď->fh->Prop}(W:fD.fp À Î (λa d=>∃c,d=G (b.at c<|Ð Q jJ::L) qX/\I c a) l g)(f:∀c a,I c a->im a)(i:∀c a,I c a->jc vQ a (G (b.at c<|Ð Q jJ::L) qX)):jc vQ l g:= p6 (W.fQ λa d h=>by obtain⟨c,rfl,e⟩:=h;exact⟨f c a e,U,i c a e⟩)
def Gn{f:FuncId}{fn:Func}(xs:List Value)(n:Nat)(hf:Tryz.prog.funcs[f]?=some fn)(hb:fn.body=some (kX fn []):=by kernel_rfl)(hn:fn.ntmps=xs.length+n:=by kernel_rfl):Frame.enter Tryz.prog f xs.toArray .normal=(base f).at ⟨(xs++List.replicate n undef).toArray,[]⟩ [.code<|kX fn []]:=by rw[enter_at _ hf hb,hn,š,Nat.add_sub_cancel_left,show xs.toArray++ű n ł=(xs++Ĉ n ł).toArray from Array.ext' ft]
def xZ{J:Jd}{f:η}{args:Array Ñ}(d:Q[i]?=Â o)(e:ĝ o (Ρ Q a.tmps)=Î)(g:b.kind≠.early)(h:j2 l) (j:∀w,(Ť a.eval o).run À w=.ok (.enter f args) w) (k:∀w,(Ť a.eval o).events À w #[]=#[]) (m:∀c,fK l l.w c->fD.fp À Î J {l with w:=c} (G (é À f args ć)<|b.at a (Ð Q (i::jJ)::L)::qX)): fD.fp À Î J l (G (b.at a<|Ð Q (i::jJ)::L) qX):=by refine .mk U λc r=>⟨G (é À f args ć)<|b.at a (Ð Q (i::jJ)::L)::qX,c,#[],{l with w:=c},?_,QK c<|mH h r,m c r⟩;rw[stepG_enter d e g<|j c];unfold aJ;rw[k c,seen_none]
def Gp{f:η}{args:Array Ñ}(e:im l)(j:Q[i]?=Â o)(k:ĝ o (Ρ Q a.tmps)=Î)(m:b.kind≠.early) (n:∀w,(Ť a.eval o).run À w=.ok (.enter f args) w) (p:∀w,(Ť a.eval o).events À w #[]=#[]) (q:∀d,fK l l.w d->jc vQ {l with w:=d} (G (é À f args ć)<|b.at a (Ð Q (i::jJ)::L)::qX)): jc vQ l (G (b.at a<|Ð Q (i::jJ)::L) qX):= p6 (xZ j k m e.r.r n p λd r=> .fF λg c=>by have h:fK l l.w g:=r.fj ⟨c.r,c.I,c.N,c.Y,c.S⟩;exact⟨e.C h,U,q g h⟩)
def kN.Fg{c:fh}(e:im l)(h:kN l c)(k:c.d=l.d):im c:=by
 have g:∀b,¬c.I b:=by rw[h.I];exact e.N
 have f:∀a,¬c.r a:=by rw[h.N];exact e.I
 have i:∀a,¬c.N a:=by rw[h.S];exact e.M
 have j:∀a,¬c.K a:=by rw[h.K];exact e.k
 exact⟨⟨λb _=>g b,λa q=>(f a q).elim,λa q=>q.elim (λz=>(f a z).elim) λz=>(i a z).elim,λb q=>q.elim (λz=>h.fx b z) λz=>(g b z).elim,λa q=>q.elim (λz=>(f a z).elim) λz=>(i a z).elim,λa q=>(j a q).elim⟩,k.trans e.d,by rw[h.q];exact e.q,g,f,i,j⟩
end
def JJ:Ĩ:=⟨Â 21,.move<|Œ 0,26, "attic.go:46",#[],Á⟩
def JK:Ĩ:=⟨Â 22,.nilCheck<|Œ 21,0, "attic.go:46",#[⟨0,Đ⟩],Á⟩
def JL:Ĩ:=⟨Â 23,.fieldAddr 68 (Œ 22) 1,0, "attic.go:46",#[⟨1,Đ⟩],Á⟩
def JN:Ĩ:=⟨Â 24,.load 65<|Œ 23,65, "attic.go:46",#[⟨2,Đ⟩],Á⟩
def JO:Ĩ:=⟨Â 25,.move<|Œ 6,61, "attic.go:46",#[],Á⟩
def JP:Ĩ:=⟨Â 26,.move<|Œ 0,26, "attic.go:46",#[],Á⟩
def JQ:Ĩ:=⟨Â 27,.nilCheck<|Œ 26,0, "attic.go:46",#[⟨5,Đ⟩],Á⟩
def JR:Ĩ:=⟨Â 28,.fieldAddr 68 (Œ 27) 0,0, "attic.go:46",#[⟨6,Đ⟩],Á⟩
def JS:Ĩ:=⟨Â 29,.load 3<|Œ 28,3, "attic.go:46",#[⟨7,Đ⟩],Á⟩
def ya:Ĩ:=⟨Â 30,.call {callee:=.value<|.func 37,args:=#[Œ 24,Œ 25,Œ 29],argTypes:=#[65,61,3]},66, "attic.go:46",#[⟨3,Đ⟩,⟨4,Đ⟩,⟨8,Đ⟩],Á⟩
def Ab:Ĩ:=⟨Â 20,.move<|Œ 30,66, "attic.go:46",#[⟨9,Đ⟩],Á⟩
def DL:Ĩ:=⟨Â 31,.extract (Œ 20) 0,25, "attic.go:46",#[⟨10,Đ⟩],Á⟩
def DN:Ĩ:=⟨Â 32,.extract (Œ 20) 1,65, "attic.go:46",#[⟨10,Đ⟩,{on:=13,ground:=Ground.gcOnly Departure.lateStores}],Á⟩
def DR:Ĩ:=⟨Â 9,.assign<|Œ 31,25, "attic.go:46",#[⟨11,Đ⟩,⟨9,.chain⟩,⟨0,ö⟩,⟨1,ö⟩,⟨2,ö⟩,⟨3,ö⟩,⟨4,ö⟩,⟨5,ö⟩,⟨6,ö⟩,⟨7,ö⟩,⟨8,ö⟩,⟨9,ö⟩,⟨10,ö⟩,⟨11,ö⟩,{on:=12,ground:=Ground.textOnly Departure.lateStores}],Á⟩
def DU:Ĩ:=⟨Â 10,.assign<|Œ 32,65, "attic.go:46",#[⟨12,Đ⟩,⟨13,.chain⟩,⟨0,ö⟩,⟨1,ö⟩,⟨2,ö⟩,⟨3,ö⟩,⟨4,ö⟩,⟨5,ö⟩,⟨6,ö⟩,⟨7,ö⟩,⟨8,ö⟩,⟨9,ö⟩,⟨10,ö⟩,⟨11,ö⟩,⟨12,ö⟩,⟨13,ö⟩],Á⟩
def ox:Array Ĩ:=#[JJ,JK,JL,JN,JO,JP,JQ,JR,JS,ya,Ab,DL,DN,DR,DU]
noncomputable def UA:θ:=kX Tryz.f17 [1,1,1,1]
structure mr(l:fh)(ab n:Nat)(s:List fP)(sl:Ñ)(V:Nat->Prop):Prop where
 r:nO l.w
 C:∀b,b=1\/b=2\/b=3\/b=4->l.O b
 a:Gm ab n sl l.w
 fu:l.O ab
 N:RD s sl V l.w
 Y:∀b,V b->l.O b
 e:¬V ab
 c:1<=n
 d:n<=8
 I:¬(ab=1\/ab=2\/ab=3\/ab=4)
structure N7(l l':fh)(ab n:Nat)(s':List fP)(V:Nat->Prop):Prop where
 vv:∀b,l.O b->b≠ab->l'.O b/\l'.w.heap[b]?=l.w.heap[b]?
 att:∃tB V',mr l' ab n s' tB V'/\∀b,V' b->V b\/(b=1\/b=2\/b=3\/b=4)\/l.w.heap.size<=b
section
variable{l d:fh}{ab:Nat}{s:List fP}{sl:Ñ}{V:Nat->Prop}
def mr.S{a:fh}(h:mr l ab n s sl V)(c:∀b,l.O b->a.O b)(d:∀b,l.O b->a.w.heap[b]?=l.w.heap[b]?)(e:l.w.heap.size<=a.w.heap.size):mr a ab n s sl V:= ⟨h.r.r (Ì h.r.fx e) λb q=>d b<|h.C b q,λb q=>c b<|h.C b q,h.a.r<|d ab h.fu,c ab h.fu,h.N.r λb q=>d b<|h.Y b q,λb q=>c b<|h.Y b q,h.e,h.c,h.d,h.I⟩
def mr.M(h:mr l ab n s sl V)(r:fK l l.w u):mr {l with w:=u} ab n s sl V:=h.S (λ_ q=>q) (λb q=>r.I b<|È q) r.r
def ki(ab:Nat)(n:Nat)(sl rs:Ñ)(x:Value×Value):Nat->Ñ
 |0=>Ã<|Â ⟨ab,0,Á⟩
 |1=>Ã<|Â ⟨ab,0,Á⟩
 |2=>Ã<|Â ⟨ab,1,Á⟩
 |3=>sl
 |4=>rs
 |5=>Ã<|Â ⟨ab,0,Á⟩
 |6=>Ã<|Â ⟨ab,0,Á⟩
 |7=>Ã<|Â ⟨ab,0,Á⟩
 |8=>Å É n
 |9=>ï #[x.1,x.2]
 |10=>ï #[x.1,x.2]
 |11=>x.1
 |12=>x.2
 |13=>x.1
 |14=>x.2
 |_=>ł
def wy(d:fh)(V:Nat->Prop)(rs:List PR)(s:List fP)(listed:Array Bool)(x:Value×Value)(l:fh):Prop:=
 im l/\(listed.getD 9 Ë=Ë->gl (λ_=>False) d l)/\(listed.getD 9 Ë=Î->∃a e p m c,gl (λ_=>False) d a/\x=(Æ (Â ⟨e,0,Á⟩) rs.length rs.length,Æ p m c)/\zV (λb=>V b\/b=1\/b=2\/b=3\/b=4) (wx rs) rs.length (lq rs) s a e (Æ p m c) l)
def wy.jP{V:Nat->Prop}{a:List PR}{s:List fP}{listed:Array Bool}{x:Value×Value}(h:wy d V a s listed x l)(b:i≠9){w₁:Í}(r:fK l l.w w₁):wy d V a s (listed.setIfInBounds i Î) x {l with w:=w₁}:=by
 have e:(listed.setIfInBounds i Î).getD 9 Ë=listed.getD 9 Ë:=by simp[ê,Array.getElem?_setIfInBounds_ne b]
 refine⟨h.1.C r,λq=> ?_,λq=> ?_⟩
 .rw[e]at q;exact(h.2.1 q).G r
 .rw[e]at q;let⟨f,g,p,m,c,j,k,n⟩:=h.2.2 q;exact⟨f,g,p,m,c,j,k,n.N r⟩
def arH{D:Array Ñ}{J:List PR}(K:mr d ab n s sl V)(W:D.size=39)(Y:D[0]?=Â (Ã<|Â ⟨ab,0,Á⟩))(ht6:D[6]?=Â z) (md:Ŋ) (listed:Array Bool) (a:Ď) (l:fh) (i:Nat) (O:List Nat) (hI:II ox D (ki ab n sl z) (wy d X J s) listed a l) (g:i∈ç md ox listed) (H:i≠9): fD.fp À Î (λb c=>∃y,c=G ((base 17).at y<|Ð ox O::L) qX/\II ox D (ki ab n sl z) (wy d X J s) (listed.setIfInBounds i Î) y b) l (G ((base 17).at a<|Ð ox (i::O)::L) qX):=by
 let⟨x,f,I⟩:=hI;have p:s5 ox D.size=Î:=by rw[W];decide
 have N:=EK g;have t:=I.1.r.r;have u:=I.1.q;have P:=(f.C A).trans Y;have N8:=(f.C A).trans ht6;have B:∀b,fK l l.w b->wy d X J s (listed.setIfInBounds i Î) x {l with w:=b}:=λb r=>I.jP H r;let⟨fr,mF,_⟩:=K.a;have early:∀m,m<15->listed.getD m Ë=Ë->(∃e,e∈ya.after/\e.on=m/\yT e=Î)->listed.getD 9 Ë=Ë:=λm _ hm ⟨e,h1,h2,h3⟩=>by
  cases q:listed.getD 9 Ë with
  |false=>rfl
  |true=>
   have:=f.N 9 ya e U q h1 h3;rw[h2,hm]at this;cases this
 have jx:ox.size=15:=A
 rw[jx]at N;have Aw:listed.getD i Ë=Ë:=by
  have:=(Ι.1 g).1;simp only[ê]at this|-;cases c:listed[i]? with
  |none=>rfl
  |some y=>rw[c]at this;simpa using this
 have T:∀{j v},(∃e,e∈ya.after/\e.on=i/\yT e=Î)->#[Å É n,sl][j]?=Â v->gZ l ⟨ab,j,Á⟩/\l.w.cell? ⟨ab,j,Á⟩=Â v:=λq h=>by have y:=I.2.1<|early i N Aw q;exact⟨È<|y.M<|È K.fu,(gM<|y.r ab (È K.fu) id).trans<|by simp[ã,mF,h]⟩
 match i,N,H with
 |9,_,H=>exact absurd U H
 |0,_,_=>
  exact iu (o:=JJ) p f U U g (by k_ne) t u (λb r=>by simp only[ki,JJ];go_simp) (λb r e c=>by simp[go_sem,JJ,P]at c) B
 |1,_,_=>
  have y:=f.r 0 JJ 21 U (iq g U U) U;simp only[ki]at y;exact iu (o:=JK) p f U U g (by k_ne) t u (λb r=>by simp only[ki,JK];go_simp) (λb r e c=>by simp[go_sem,JK,y]at c) B
 |2,_,_=>
  have y:=f.r 1 JK 22 U (iq g U U) U;simp only[ki]at y;exact iu (o:=JL) p f U U g (by k_ne) t u (λb r=>by simp only[ki,JL];go_simp) (λb r e c=>by simp[go_sem,JL,y]at c) B
 |3,_,_=>
  have y:=f.r 2 JL 23 U (iq g U U) U;simp only[ki]at y;let⟨C,E⟩:=T (j:=1) ⟨⟨3,Đ⟩,by simp[ya],U,U⟩ U;refine iu (o:=JN) p f U U g (by k_ne) t u (λb r=> ?_) (λb r e c=> ?_) B
  .have F:=(C.r r).trans E;simp only[ki,JN];go_simp
  .have F:=(C.r r).trans E;simp[go_sem,JN,y,F]at c;subst c;exact C.C
 |4,_,_=>
  exact iu (o:=JO) p f U U g (by k_ne) t u (λb r=>by simp only[ki,JO];go_simp) (λb r e c=>by simp[go_sem,JO,N8]at c) B
 |5,_,_=>
  exact iu (o:=JP) p f U U g (by k_ne) t u (λb r=>by simp only[ki,JP];go_simp) (λb r e c=>by simp[go_sem,JP,P]at c) B
 |6,_,_=>
  have y:=f.r 5 JP 26 U (iq g U U) U;simp only[ki]at y;exact iu (o:=JQ) p f U U g (by k_ne) t u (λb r=>by simp only[ki,JQ];go_simp) (λb r e c=>by simp[go_sem,JQ,y]at c) B
 |7,_,_=>
  have y:=f.r 6 JQ 27 U (iq g U U) U;simp only[ki]at y;exact iu (o:=JR) p f U U g (by k_ne) t u (λb r=>by simp only[ki,JR];go_simp) (λb r e c=>by simp[go_sem,JR,y]at c) B
 |8,_,_=>
  have y:=f.r 7 JR 28 U (iq g U U) U;simp only[ki]at y;let⟨C,E⟩:=T (j:=0) ⟨⟨8,Đ⟩,by simp[ya],U,U⟩ U;refine iu (o:=JS) p f U U g (by k_ne) t u (λb r=> ?_) (λb r e c=> ?_) B
  .have F:=(C.r r).trans E;simp only[ki,JS];go_simp
  .have F:=(C.r r).trans E;simp[go_sem,JS,y,F]at c;subst c;exact C.C
 |10,_,_=>
  have y:=f.r 9 ya 30 U (iq g U U) U;simp only[ki]at y;exact iu (o:=Ab) p f U U g (by k_ne) t u (λb r=>by simp only[ki,Ab];go_simp) (λb r e c=>by simp[go_sem,Ab,y]at c) B
 |11,_,_=>
  have y:=f.r 10 Ab 20 U (iq g U U) U;simp only[ki]at y;exact iu (o:=DL) p f U U g (by k_ne) t u (λb r=>by simp only[ki,DL];go_simp) (λb r e c=>by simp[go_sem,DL,y]at c) B
 |12,_,_=>
  have y:=f.r 10 Ab 20 U (iq g U U) U;simp only[ki]at y;exact iu (o:=DN) p f U U g (by k_ne) t u (λb r=>by simp only[ki,DN];go_simp) (λb r e c=>by simp[go_sem,DN,y]at c) B
 |13,_,_=>
  have y:=f.r 11 DL 31 U (iq g U U) U;simp only[ki]at y;exact iu (o:=DR) p f U U g (by k_ne) t u (λb r=>by simp only[ki,DR];go_simp) (λb r e c=>by simp[go_sem,DR,y]at c) B
 |14,_,_=>
  have y:=f.r 12 DN 32 U (iq g U U) U;simp only[ki]at y;exact iu (o:=DU) p f U U g (by k_ne) t u (λb r=>by simp only[ki,DU];go_simp) (λb r e c=>by simp[go_sem,DU,y]at c) B
end
def arI(x y:Ñ)(n:Nat)(a:List Ę):G (é À 37 #[x,y,Å É n] ć) a=Fa x y n a:=by unfold Fa;rw[enter_at #[x,y,Å É n] υ (c:=kX Tryz.f37 []) fw];kernel_rfl
section
variable{l g:fh}{s:List fP}{V:Nat->Prop}{d:List PR}
def arJ{D:Array Ñ}(E:mr g i n s x V)(hq:RQ d v X g.w)(P:∀b,X b->g.O b)(hok:∀r∈d,uZ r)(Lw:d.length<=24)(ht:D.size=39) (md:Ŋ) (listed:Array Bool) (a:Ď) (l:fh) (Q:List Nat) (hI:II ox D (ki i n x v) (wy g (λb=>V b\/X b) d s) listed a l) (B:9∈ç md ox listed) (hn:∀T F,II ox D (ki i n x v) (wy g (λb=>V b\/X b) d s) (listed.setIfInBounds 9 Î) T F->jc vQ F (G ((base 17).at T<|Ð ox Q::L) qX)): jc vQ l (G ((base 17).at a<|Ð ox (9::Q)::L) qX):=by
 let⟨t,y,K⟩:=hI;have hss:s5 ox D.size=Î:=by rw[ht];decide
 have M:=(Ι.1 B).1;have W:9<listed.size:=by
  rcases Ĕ 9 listed.size with q|q
  .exact q
  .simp[ê,æ q]at M
 have N:listed.getD 9 Ë=Ë:=by simp only[ê,Ü W]at M|-;simpa using M
 have hAf:=K.2.1 N;have e24:a.tmps[24]?=Â x:=y.r 3 JN 24 U (iq B U U) U;have e25:a.tmps[25]?=Â v:=y.r 4 JO 25 U (iq B U U) U;have e29:a.tmps[29]?=Â (Å É n):=y.r 8 JS 29 U (iq B U U) U;have late:∀(Y:Value×Value) j,listed.getD j Ë=Î->ki i n x v Y j=ki i n x v t j:=λY j u=>by
  have c:listed.getD 10 Ë=Ë:=by
   cases q:listed.getD 10 Ë with
   |false=>rfl
   |true=>exact absurd (y.N 10 Ab ⟨9,Đ⟩ U q (by simp[Ab]) U)<|by rw[N];decide
  have e:listed.getD 11 Ë=Ë:=by
   cases q:listed.getD 11 Ë with
   |false=>rfl
   |true=>exact absurd (y.N 11 DL ⟨10,Đ⟩ U q (by simp[DL]) U)<|by rw[c];decide
  have h:listed.getD 12 Ë=Ë:=by
   cases q:listed.getD 12 Ë with
   |false=>rfl
   |true=>exact absurd (y.N 12 DN ⟨10,Đ⟩ U q (by simp[DN]) U)<|by rw[c];decide
  have m:listed.getD 13 Ë=Ë:=by
   cases q:listed.getD 13 Ë with
   |false=>rfl
   |true=>exact absurd (y.N 13 DR ⟨11,Đ⟩ U q (by simp[DR]) U)<|by rw[e];decide
  have p:listed.getD 14 Ë=Ë:=by
   cases q:listed.getD 14 Ë with
   |false=>rfl
   |true=>exact absurd (y.N 14 DU ⟨12,Đ⟩ U q (by simp[DU]) U)<|by rw[h];decide
  match j with
  |9=>rw[N]at u;cases u
  |10=>rw[c]at u;cases u
  |11=>rw[e]at u;cases u
  |12=>rw[h]at u;cases u
  |13=>rw[m]at u;cases u
  |14=>rw[p]at u;cases u
  |0|1|2|3|4|5|6|7|8=>rfl
  |j+15=>rfl
 refine Gp (f:=37) (args:=#[x,v,Å É n]) K.1 (o:=ya) U (Lv U _) (by k_ne) (λw=> ?_) (λw=> ?_) λw₁ r=> ?_
 .simp only[ya];go_simp
 .exact ú U υ U U #[]
 have oE:=K.1.C r;have z:=hAf.G r;have C:=E.S (λb q=>z.O b q) (λb q=>z.r b (È q) id) z.I;have tq:=hq.r λb q=>z.r b (È<|P b q) id;have L9:=λb q=>z.O b<|P b q;obtain⟨ra,cr,rb,rq,rfl,Iu,CV,Iv,Iw,ready⟩:=arE tq hok C.r C.C L9;obtain⟨H,I,J,rfl⟩:∃H I J,x=Æ H I J:=by let⟨_,_,_,⟨H,I,J,e,_⟩,_⟩:=E.N;exact⟨H,I,J,e⟩
 rw[arI];refine arx Iu (λh=>È<|CV h) Iv Iw ready ⟨λb q=>È<|Ï q,λb q=>Ï q⟩ (λb q=>q.elim (λq=>q.elim (C.Y b)<|L9 b)<|C.C b) (λb q=>È<|È q) C.N E.c (by have:=E.d;omega) λF e p m c h hT=> ?_;refine hn _ F ⟨(Æ (Â ⟨e,0,Á⟩) d.length d.length,Æ p m c),(y.YC<|late _).gh hss U B λ_=>rfl,h,λq=> ?_,λ_=>⟨_,e,p,m,c,z,U,hT⟩⟩;have:(listed.setIfInBounds 9 Î).getD 9 Ë=Î:=by simp[ê,W]
 rw[this]at q;cases q
end
section
variable{l o l4:fh}{ab:Nat}{s:List fP}{sl:Ñ}{V:Nat->Prop}{rs:List PR}
structure abJ(l l4:fh)(ab n:Nat)(s:List fP)(sl:Ñ)(V:Nat->Prop)(rs:List PR)(an:Nat)(tB:Ñ):Prop where
 r:∀b,l.O b->l4.O b/\l4.w.heap[b]?=l.w.heap[b]?
 fx:nB<=l4.w.heap.size
 C:l4.O an/\u9 an (jz rs s) l4.w/\kU l4.w an=Â (0,0)
 IL:∃V',RD (Aa rs s) tB V' l4.w/\(∀b,V' b->l4.O b)/\¬V' ab/\∀b,V' b->V b\/(b=1\/b=2\/b=3\/b=4)\/l.w.heap.size<=b
def arK{kd:Nat->Int}(h:∀p,p<rs.length->w.cell? ⟨i,p,Á⟩=Â (Ä<|xT (wx rs) (lq rs) p<|pU (wx rs) (ic (lq rs) rs.length) s<|fO (lq rs) p))(d:w.cell? ⟨i,rs.length,Á⟩=Á):u9 i (jz rs s) w:=by refine⟨λp x a=> ?_,by unfold jz;simpa using d⟩;unfold jz at a;rw[ó]at a;obtain⟨q,e,rfl⟩:=ø.1 a;let⟨b,c⟩:=Ö.1 e;simp at b c;subst c;exact h p b
def DV:(jz rs s).length=rs.length:=by simp[jz]
def arL:nB<=5:=by show À.globals.size<=5;decide+kernel
def arM{f:fh}{p:Option ý}(d:mr l ab n s sl V)(t:gB l)(u:∀b,X b->l.w.heap.size<=b)(v:∀b,l.O b->o.O b/\o.w.heap[b]?=l.w.heap[b]?)(x:l.w.heap.size<=o.w.heap.size)(y:gB l4)(e:gl (λ_=>False) o f)(a:zV (λb=>(V b\/X b)\/b=1\/b=2\/b=3\/b=4) (wx rs) rs.length (lq rs) s f i (Æ p m j) l4):abJ l l4 ab n s sl V rs i (Æ p m j):=by
 have g:∀b,l.O b->l4.O b/\l4.w.heap[b]?=l.w.heap[b]?:=λb q=>by let⟨z,h⟩:=v b q;let⟨k,r⟩:=a.M b<|e.O b z;exact⟨k,r.trans<|(e.r b (È z) id).trans h⟩
 refine⟨g,?_,⟨a.r.1,arK (kd:=lq rs) a.r.2 a.I.1,a.I.2⟩,?_⟩
 .have:=y.fx 4<|È (g 4<|d.C 4 A).1;have:=arL;omega
 .let⟨h,B,k⟩:=a.Y;have r:∀b,h b->V b\/(b=1\/b=2\/b=3\/b=4)\/l.w.heap.size<=b:=λb q=>by
   rcases(k b q).2 with((z|z)|z)|z
   .exact È z
   .exact Ï<|Ï<|u b z
   .exact Ï<|È z
   .exact Ï<|Ï<|Ì (Ì x e.I) z
  refine⟨h,B,λb q=>(k b q).1,λq=> ?_,r⟩;rcases r ab q with z|z|z
  .exact d.e z
  .exact d.I z
  .have:=t.fx ab<|È d.fu;omega
def arN{f:fh}{p:Option ý}(d:mr l ab n s sl V)(h:abJ l l4 ab n s sl V rs i (Æ p m j))(E:gB l4)(g:∀b,l4.O b->f.O b)(r:∀b,l4.O b->f.w.heap[b]?=(l4.w.setCell ⟨ab,1,Á⟩<|Æ p m j).heap[b]?)(v:l4.w.heap.size<=f.w.heap.size):N7 l f ab n (Aa rs s) V:=by
 let⟨x,y,t,u,z⟩:=h.IL;have k:∀b,l4.O b->b≠ab->f.w.heap[b]?=l4.w.heap[b]?:=λb q e=>(r b q).trans<|lr (a:=⟨ab,1,Á⟩) e;have o:=h.r ab d.fu;refine⟨λb q e=>⟨g b (h.r b q).1,(k b (h.r b q).1 e).trans (h.r b q).2⟩,Æ p m j,x,⟨?_,λb q=>g b (h.r b<|d.C b q).1,?_,g ab o.1,y.r λb q=>k b (t b q) λe=>u<|e▸q,λb q=>g b<|t b q,u,d.c,d.d,d.I⟩,z⟩
 .exact d.r.r (Ì h.fx v) λb q=>(k b (h.r b<|d.C b q).1 λe=>d.I<|e▸q).trans (h.r b<|d.C b q).2
 .let⟨B,C,D⟩:=d.a;refine⟨B,?_,D⟩;rw[r ab o.1];unfold Δ;simp[ŀ,o.2,C]
def arO{J:Jd}(b:j2 l)(d:fD.fp À Î J l (G (f.at (y.put ((Q[i]?).bind (·.dst))<|Ä ⟨#[]⟩)<|Ð Q jJ::L) qX)): fD.fp À Î J l (G (é À 38 #[Æ O 0 j,Ä B] ć)<|f.at y (Ð Q (i::jJ)::L)::qX):=by
 have hF:True:=trivial;rw[Gn [_,_] 73 Ğ];simp only[Ĉ,Ĝ,Ĥ];conv in kX _ _=>whnf
 apply fZ (n:=60) b;repeat w_go fB
 u_in fB hF
 refine Ů (t:=4) U U Ğ U ⟨by u_nil,?_⟩;refine ô λ_ _=> ?_;exact d
def u9.I{w':Í}{xs:List ByteArray}(h:u9 i xs w)(k:w'.heap[i]?=w.heap[i]?):u9 i xs w':= ⟨λp x a=>zY k<|h.r p x a,by have:=h.C;simp only[ã,k]at this|-;exact this⟩
def arP{xs:List ByteArray}(g:nO w)(h:u9 i xs w):lz i=Ë:=by
 have b:∀e,NG i e w->False:=λe ⟨c,o,j,_,_,d,l⟩=>by
  have f:w.cell? ⟨i,0,Á⟩=Â c[0]:=by simp only[ã,j,ü,ð,if_false];exact Ü d
  rcases Į xs.length with q|q
  .have a:=h.C;rw[q,f]at a;cases a
  .have a:=h.r 0 _<|Ô q;let⟨k,n,m⟩:=l c[0]<|ò.2<|Ć d;rw[f,m]at a;cases a
 cases q:lz i with
 |false=>rfl
 |true=>
  unfold lz at q;simp at q;rcases q with rfl|rfl
  .exact(b _ g.I).elim
  .exact(b _ g.C).elim
def kN.arQ(a:j2 l)(r:fK l l.w u):kN l {l with w:=u}:=⟨λ_ q=>q,λ_ q=>È q,U,U,U,U,U,r,mH a r⟩
def arR{a:Ď}{xs:List ByteArray}(b:im l)(j:nB<=l.w.heap.size)(h:u9 n xs l.w)(m:l.O n)(o:lz n=Ë)(p:kU l.w n=Â (0,0))(s:xs.length<=1000){N:Nat}(t:xs.length=N)(u:B.size=1)(v:iH xs+xs.length<=140737488355328): fD.fp À Î (λc g=>kN l c/\c.d=l.d/\g=G (f.at (a.put ((Q[i]?).bind (·.dst))<|Ä<|lk B xs)<|Ð Q jJ::L) qX) l (G (é À 38 #[Æ (Â ⟨n,0,Á⟩) N N,Ä B] ć)<|f.at a (Ð Q (i::jJ)::L)::qX):=by
 subst t;rcases Į xs.length with e|e
 .have x:=Ó e;subst x;exact arO b.r.r<|.fF λy r=>⟨kN.arQ b.r.r r,U,U⟩
 .refine(arp b.r b.q j h e (È m) o p s u v Î _ qX).fQ ?_;rintro c g ⟨r,x,rfl⟩;exact⟨r,x,by rw[ĥ]⟩
def arS{N:Array Ñ}{cf:Ę}(C:mr l ab n s sl V)(Fb:gB l)(UB:∀b,X b->l.w.heap.size<=b)(hl:∀b,l.O b->o.O b/\o.w.heap[b]?=l.w.heap[b]?)(jx:l.w.heap.size<=o.w.heap.size)(Lw:rs.length<=24)(sX:iH (jz rs s)+rs.length<=140737488355328)(ht:N.size=39)(ht0:N[0]?=Â (Ã<|Â ⟨ab,0,Á⟩)) (hJ:∀P,im P->N7 l P ab n (Aa rs s) V->jc vQ P (G (cf.at (y.put ((Q[i]?).bind (·.dst))<|ï #[Ä<|lk ⟨#[59]⟩<|jz rs s,Å É 0])<|Ð Q jJ::L) qX)) (md:Ŋ) (listed:Array Bool) (a:Ď) (l4:fh) (hI:II ox N (ki ab n sl v) (wy o (λb=>V b\/X b) rs s) listed a l4) (H:listed.size=ox.size) (I:ç md ox listed=[]): jc vQ l4 (G ((base 17).at a<|Ð ox []::[aI UA])<|cf.at y (Ð Q (i::jJ)::L)::qX):=by
 have hF:True:=trivial;let⟨x,D,g,_,hS⟩:=hI;have J:∀i∈ĭ 15,listed.getD i Ë=Î:=by
  cases md
  .exact qw I H (ĭ 15) [] fR λi c=>by cases c
  .exact λi c=>qw I H [0,1,2,3,4,5,6,7,8,9,10,11,13,12,14] [] fR (λi c=>by cases c) i (by have:=Ž.1 c;revert i;decide)
  .exact qw I H (ĭ 15) [] fR λi c=>by cases c
 obtain⟨l1,r,p,m,c,k1,rfl,hT⟩:=hS<|J 9 A;have h:=arM (rs:=rs) C Fb UB hl jx g.r k1 hT;let⟨F,ds⟩:=a;obtain rfl:ds=[]:=D.S;have T:F[0]?=Â (Ã<|Â ⟨ab,0,Á⟩):=(D.C A).trans ht0;have W:F[9]?=Â (Æ (Â ⟨r,0,Á⟩) rs.length rs.length):=D.r 13 DR 9 U (J 13 A) U;have Y:F[10]?=Â (Æ p m c):=D.r 14 DU 10 U (J 14 A) U;have IB:F.size=39:=D.M.trans ht;clear D J hS hT k1 I H;obtain⟨u,rfl⟩:=s7 F IB;simp only[List.getElem?_toArray,ó,List.getElem?_range,Nat.reduceLT,þ,Õ]at T W Y;simp only[ĭ,List.range.loop,List.map,T,W,Y];clear T W Y IB;let⟨fr,mF,hfr⟩:=C.a;let⟨N9,hab⟩:=h.r ab C.fu;have UC:l4.w.heap[ab]?=Â (Þ #[Å É n,sl] 68 (0,0)):=by rw[hab,mF,hfr]
 have c1:l4.w.cell? ⟨ab,1,Á⟩=Â sl:=by simp[ã,UC]
 have z1:l4.w.frozen? ⟨ab,1,Á⟩=Ë:=by simp[World.frozen?,UC]
 have CM:=g.q;apply p6;apply fZ (n:=20) g.r.r;conv in UA=>whnf
 iterate 7 w_go fB
 refine ô λ_ _=> ?_;apply H6 (p:=ab) (off:=1) (v:=Æ p m c) (u:=sl) U U (by k_ne) g.r.r CM N9 c1 z1 U (λw z B=>by go_simp) (λw z B=>by simp[go_sem,events_store _ _ _ _ _ _ (show Value.oneCell' (Æ p m c)=Î from rfl),z,B]);have k5:=LD (X:=λb=>b=ab) (p:=ab) (w':=l4.w.setCell ⟨ab,1,Á⟩<|Æ p m c) g.r (fK.fW _ _) N9 U fD.jT λj hj=>fD.lr hj;have sf:=k5.N g.r;have atJ:(l4.w.setCell ⟨ab,1,Á⟩<|Æ p m c).heap.size=l4.w.heap.size:=fD.jT;have rV:im ({l4 with w:=l4.w.setCell ⟨ab,1,Á⟩ (Æ p m c)}:fh):=⟨sf,g.d,g.q,g.N,g.I,g.M,g.k⟩;have c0:l4.w.cell? ⟨ab,0,Á⟩=Â (Å É n):=by simp[ã,UC]
 have arT:r≠ab:=λe=>by
  rcases Į (jz rs s).length with q|q
  .have z:=h.C.2.1.C;rw[q,e,c0]at z;cases z
  .have B:=h.C.2.1.r 0 _<|Ô q;rw[e,c0]at B;cases B
 have abK:(l4.w.setCell ⟨ab,1,Á⟩<|Æ p m c).heap[r]?=l4.w.heap[r]?:=fD.lr (a:=⟨ab,1,Á⟩) arT;have T9:=h.C.2.1.I abK;have Cr:kU (l4.w.setCell ⟨ab,1,Á⟩<|Æ p m c) r=Â (0,0):=(wS abK).trans h.C.2.2;have arU:lz r=Ë:=arP (C.r.r h.fx λb q=>(h.r b<|C.C b q).2) h.C.2.1;have hlen:(jz rs s).length=rs.length:=DV;apply fZ (n:=20) sf.r;iterate 4 w_go fB
 refine ô λ_ _=> ?_;refine xZ (f:=38) (args:=#[Æ (Â ⟨r,0,Á⟩) rs.length rs.length,Ä ⟨#[59]⟩]) U fR (by k_ne) sf.r (λw=>by go_simp) (λw=>ú U Ğ U U #[]) λw₁ E=> ?_;have N8:=rV.C E;have arV:u9 r (jz rs s) w₁:=T9.I<|E.I r<|È h.C.1;refine fD.fp.mA ?_ (arR (xs:=jz rs s) N8 (Ì (by rw[fD.jT];exact h.fx) E.r) arV h.C.1 arU ((wS<|E.I r<|È h.C.1).trans Cr) Z hlen U Z);rintro K g6 ⟨M,hd,rfl⟩;have UD:im K:=kN.Fg N8 M hd;have hk6:∀b,l4.O b->K.w.heap[b]?=(l4.w.setCell ⟨ab,1,Á⟩<|Æ p m c).heap[b]?:=λb q=>(M.r.I b<|È q).trans<|E.I b<|È q;have hs6:l4.w.heap.size<=K.w.heap.size:=by have z:=M.r.r;have B:=E.r;have h3:(l4.w.setCell ⟨ab,1,Á⟩<|Æ p m c).heap.size=l4.w.heap.size:=fD.jT;exact Ì (Nat.le_of_eq h3.symm)<|Ì B z
 have B:∀b,l4.O b->K.O b:=λb q=>M.O b q;generalize lk ⟨#[59]⟩ (jz rs s)=ans at*;walk_nrm;apply fZ (n:=20) UD.r.r;repeat w_go fB
 u_in fB hF
 refine φ (t:=4) (u:=5) U U Ō U ⟨by u_nil,?_⟩;refine ô λ_ _=> ?_;refine .fF λpC z=>⟨UD.C z,U,hJ _ (UD.C z)<|arN C h g.r B (λb q=>(z.I b<|È<|B b q).trans<|hk6 b q)<|Ì hs6 z.r⟩
end
section
variable{l:fh}{s:List fP}
def arW{e:fh}{c:Nat->Prop}{g:List PR}(H:mr l j n s v X)(I:gB l)(u:mr e j n s v X)(p:im e)(J:RQ g z c e.w)(K:∀b,c b->e.O b)(M:∀r∈g,uZ r)(B:g.length<=24)(N:∀b,c b->l.w.heap.size<=b)(P:∀b,l.O b->e.O b/\e.w.heap[b]?=l.w.heap[b]?)(T:l.w.heap.size<=e.w.heap.size)(V:iH (jz g s)+g.length<=140737488355328)(t:d.size=39)(C:d[0]?=Â (Ã<|Â ⟨j,0,Á⟩))(W:d[6]?=Â z) (Y:∀h,im h->N7 l h j n (Aa g s) X->jc vQ h (G (f.at (y.put ((Q[i]?).bind (·.dst))<|ï #[Ä<|lk ⟨#[59]⟩<|jz g s,Å É 0])<|Ð Q jJ::L) qX)): jc vQ e (G ((base 17).at ⟨d,[]⟩<|aI (.region 4 ox Î)::[aI UA])<|f.at y (Ð Q (i::jJ)::L)::qX):=by
 refine arF (II ox d (ki j n v z)<|wy e (λb=>X b\/c b) g s) p (λa x=> ?_) (λk m a l i jJ o D E=> ?_) λk m a l o I4 vH=> ?_
 .refine⟨(ł,ł),mV.G _ _ _,p.C x,λ_=>(gl.fW p.r.r).G x,λq=> ?_⟩;exact absurd q A
 .by_cases F:i=9
  .subst F;exact arJ u J K M B t k m a l jJ o D E
  .exact arG (arH u t C W k m a l i jJ o D F) (λD h q=>by let⟨x,_,q⟩:=q;exact q.1) E
 .exact arS H I N P T B V t C Y k m a l o I4 vH
def abL(p:im l)(r:mr l j n s v X)(I:B.size<=ě)(J:(gW B).1=0->iH (jz (gW B).2.2 s)+(gW B).2.2.length<=140737488355328) (t:∀z,im z->N7 l z j n (mq s B).2.2 X->jc vQ z (G (f.at (y.put ((Q[i]?).bind (·.dst))<|ï #[Ä (mq s B).1,Å É (mq s B).2.1])<|Ð Q jJ::L) qX)): jc vQ l (G (é À 17 #[Ã<|Â ⟨j,0,Á⟩,Ä B] ć)<|f.at y (Ð Q (i::jJ)::L)::qX):=by
 have hF:=trivial;rw[Gn [_,_] 37 Ō];simp only[Ĉ,Ĝ,Ĥ];conv in kX _ _=>whnf
 apply p6;apply fZ (n:=20) p.r.r;iterate 8 w_go fB
 refine ô λ_ _=> ?_;refine xZ (f:=36) (args:=#[Ä B]) U fR (by k_ne) p.r.r (λw=>by go_simp) (λw=>ú U Ň U U #[]) λw₁ m=> ?_;have C:=p.C m;refine fD.fp.mA ?_<|arh C.r C.q (Ì r.r.fx m.r) I Î _ _;rintro u g1 ⟨x,K,a,rfl,M⟩;have g:=kN.Fg C x K;have h:∀b,l.O b->u.O b/\u.w.heap[b]?=l.w.heap[b]?:=λb q=>⟨x.O b q,(x.r.I b<|È q).trans<|m.I b<|È q⟩;have F:=Ì m.r x.r.r;rw[ĥ];by_cases k:(gW B).1=0
 .have D:mq s B=(lk ⟨#[59]⟩<|jz (gW B).2.2 s,0,Aa (gW B).2.2 s):=if_pos k;let⟨c,N,E⟩:=M k;have P:=J k;rw[D]at t;obtain⟨T,V⟩:=N6;rw[k];generalize(gW B).2.2=rs at*;generalize(gW B).2.1=at1 at*;walk_nrm;apply fZ (n:=40) g.r.r;repeat w_go fB
  refine ô λ_ _=> ?_;refine .fF λo d=>⟨g.C d,U,?_⟩;have W:=g.C d;have e:∀b,l.O b->({u with w:=o}:fh).O b/\o.heap[b]?=l.w.heap[b]?:=λb q=>⟨(h b q).1,(d.I b<|È (h b q).1).trans (h b q).2⟩;have H:=Ì F d.r;have Y:=r.S (λb q=>(e b q).1) (λb q=>(e b q).2) H;have uF:=N.r λb q=>d.I b<|È (E b q).1;have hQ3:=λb q=>(E b q).1;have UB:=λb q=>Ì m.r (E b q).2;exact arW r p.r Y W uF hQ3 T V UB e H P U U U t
 .have D:mq s B=(⟨#[]⟩,(gW B).1,s):=if_neg k;rw[D]at t;have c:((gW B).1 !=0)=Î:=by rwa[bne_iff_ne]
  generalize(gW B).1=er at*;generalize(gW B).2.1=at1 at*;walk_nrm;apply fZ (n:=40) g.r.r;repeat w_go fB
  u_in fB hF
  refine φ U U Ō U ⟨by u_nil,?_⟩;refine ô λ_ _=> ?_;refine .fF λo d=>⟨g.C d,U,t _ (g.C d) ?_⟩;have e:∀b,l.O b->({u with w:=o}:fh).O b/\o.heap[b]?=l.w.heap[b]?:=λb q=>⟨(h b q).1,(d.I b<|È (h b q).1).trans (h b q).2⟩;exact⟨λb q _=>e b q,v,X,r.S (λb q=>(e b q).1) (λb q=>(e b q).2)<|Ì F d.r,λb q=>È q⟩
end
def UE(a:ByteArray)(c:a.size=1):∀b:List ByteArray,(lk a b).size<=iH b+b.length
 |[]=>Ú _
 |x::r=>by
  show(x.data.toList++nL a r).toArray.size<=_;have d:=Nt a c r;have e:iH (x::r)=x.size+iH r:=by simp[iH]
  have f:x.data.toList.length=x.size:=by rw[Č];rfl
  simp only[š,Ø,d,e,f,ĉ];omega
def UF{M:Nat}(a:∀z∈vX,z.size<=M)(b:M<=100)(c:vX.length<=400000):(F1 vX).size<=100000000:=by
 unfold F1;split
 .decide
 .have d:=UE ⟨#[44]⟩ U vX;have e:=FY vX a;have:M*vX.length<=100*400000:=Ÿ b c;omega
def Gq(i:Nat):(pz i).size<=3:=by
 unfold pz qG;rw[î];split
 .show 1+1<=3;decide
 .show 1+2<=3;decide
def abM(s:iE.St)(x y:Nat)(k:Int):∀(m i:Nat),i+m<=1000->(tJ s x y k i m).size<=20
 |0,i,_=>by unfold tJ;decide
 |m+1,i,h=>by
  unfold tJ;split
  .exact ry i Z
  .exact abM s x y k m (i+1) Z
def arX(s t:iE.St):(rA s t 8).length<=400000:=by
 unfold rA;have a:∀l:List Nat,(l.flatMap<|zM s t).length<=18*l.length:=λl=>by
  induction l with
  |nil=>simp
  |cons i l b=>
   rw[List.flatMap_cons,Ø,ĉ];have:(zM s t i).length<=18:=by unfold zM;rw[Ø];have c:=Nn s t i 16;have d:=aaq (s i).fy (t i).fy (s i).r (t i).r i;omega
   omega
 have:=a<|ĭ 8;rw[List.length_range]at this;omega
def arY{i:List (Nat×fP)}{q:Qn}(n:lB (kh i))(ok:q.Ok):(vZ i q).size<=100000000:=by
 unfold vZ;split
 .have:=Gq 3;omega
 .rename_i p o;have r:p.2∈kh i:=Ý.2 ⟨p,Jq o,U⟩;let⟨b,f,E,t⟩:=n.C _ r;have j:∀u,u<18446744073709551616->(gP u).size<=100000000:=λu v=>by have:=ry u v;omega
  unfold F2;split
  .have c:=f.C q.x q.I;exact j _ (by have:=c.1;have:=c.2;omega)
  .split
   .have c:=f.fy q.x;exact j _ (by have:=c.1;have:=c.2;omega)
   .split
    .split
     .have:=Gq 6;omega
     .rename_i F;have l:gf (q.k:Int):=⟨Z,by have:=ok.k;omega⟩;have e:=MU p.2.s [] q.x q.y q.g q.k f ok.x ok.y l Z Z (by simp;omega);have w:=TC p.2.s [] q.x q.y q.g q.k f ok.x ok.y l Z Z (by simp;omega) (λ_ q=>by cases q);unfold TX;have t:=e.r;have G:=e.C;have m:=e.M;have B:=e.I;simp at B;have C:=UE ⟨#[44]⟩ U<|[gP (gp p.2.s [] q.x q.y q.g q.k).C.toNat,gP (gp p.2.s [] q.x q.y q.g q.k).I.toNat,gP (gp p.2.s [] q.x q.y q.g q.k).r.toNat]++(gp p.2.s [] q.x q.y q.g q.k).M.map sD;have D:=FY (M:=21) ([gP (gp p.2.s [] q.x q.y q.g q.k).C.toNat,gP (gp p.2.s [] q.x q.y q.g q.k).I.toNat,gP (gp p.2.s [] q.x q.y q.g q.k).r.toNat]++(gp p.2.s [] q.x q.y q.g q.k).M.map sD) λz d=>by
       rcases à.1 d with h|h
       .simp at h;rcases h with rfl|rfl|rfl
        .have:=ry (gp p.2.s [] q.x q.y q.g q.k).C.toNat (by cases(gp p.2.s [] q.x q.y q.g q.k).C<;>decide);omega
        .have:=ry (gp p.2.s [] q.x q.y q.g q.k).I.toNat (by have:=m.1;have:=m.2;omega);omega
        .have:=ry (gp p.2.s [] q.x q.y q.g q.k).r.toNat Z;omega
       .obtain⟨e,a,rfl⟩:=Ý.1 h;exact Nw (w e a).2
      simp only[Ø,ĉ,ļ,í]at C D;omega
    .split
     .have:=abM p.2.s q.x q.y q.k 401 0 Z;omega
     .split
      .have:=aaE<|FL p.2.s;have:=aaF<|16-(nN<|FL p.2.s).size;unfold Nz;rw[î];omega
      .split
       .exact UF (λz d=>by obtain⟨e,a,rfl⟩:=Ý.1 d;exact Nw (b.C e a).2) Z<|by rw[í];exact b.I
       .split
        .exact UF (λz d=>by obtain⟨e,a,rfl⟩:=Ý.1 d;exact aay (b.r e a).1 (b.r e a).2) Z (by rw[í];have:=b.M;omega)
        .split
         .have:=Gq 3;omega
         .exact UF (aaG _ _) Z<|arX _ _
def arZ(a:List (Nat×fP))(v:Int)(x:Nat)(b:List Tx):(tH a v x b).2.size<=3:=by
 unfold tH;split
 .exact Gq 3
 .split
  .exact Gq 4
  .split
   .exact Gq 5
   .show(qG a.length).size<=3;unfold qG;split
    .show 1<=3;decide
    .show 2<=3;decide
def ar0{s:List fP}{i:Int×Nat×List Tx}(h:lB s)(a:∀t∈i.2.2,t.Ok)(b:i.2.2.length<=1000):lB (F5 s i):= lB.M (by rwa[NH]) a b
def abN{a:List PR}{s:List fP}(h:lB s)(b:∀r∈a,uZ r):∀k,k<=(ic (lq a) a.length).length->lB (pU (wx a) (ic (lq a) a.length) s k)
 |0,_=>h
 |k+1,hk=>by
  have c:=IJ (vS (l:=ic (lq a) a.length)<|show k<_ from hk);have d:a.getD ((ic (lq a) a.length).getD k 0) oC∈a:=è (i:=(ic (lq a) a.length).getD k 0) (by have q:=c.1;generalize(ic (lq a) a.length).getD k 0=j at q;simp[ď,q]);have q:=b _ d;refine ar0 (abN h b k Z) (λt e=> ?_) ?_
  .obtain⟨x,t,rfl⟩:=Ý.1 e;exact toTx_ok<|q.C x t
  .show((a.getD _ oC).r.map toTx).length<=1000;rw[í];have:=q.n;omega
def RG(kd:Nat->Int):∀{p R:Nat},p<=R->fO kd p<=(ic kd R).length:=λ{p R} h=>by
 show(ic kd p).length<=(ic kd R).length
 induction h with
 |refl=>exact â _
 |@step R _ ih=>
  by_cases q:kd R=1
  .rw[tA q];simp;omega
  .rwa[vN q]
def ar1{a:List PR}{s:List fP}(h:lB s)(b:∀r∈a,uZ r)(l:a.length<=24):iH (jz a s)+a.length<=140737488355328:=by
 have d:=FY (M:=100000000) (jz a s) λz c=>by
  unfold jz at c;obtain⟨p,e,rfl⟩:=Ý.1 c;have f:=Ž.1 e;have g:=abN h b (fO (lq a) p)<|RG _ Z;unfold xT;split
  .exact Ì (arZ _ _ _ _) A
  .rename_i j;have k:a.getD p oC∈a:=è (i:=p) (by simp[ď,f]);exact arY (by rwa[NH])<|abH (b _ k) j
 rw[DV]at d;omega
def UG{s:List fP}(h:lB s):iH (jz (gW B).2.2 s)+(gW B).2.2.length<=140737488355328:=ar1 h N6.1 N6.2
def JU(c:Int):Int:=if c<0 then(-(c+1))%8 else c%8
def ar2(c:Int)(b:-9223372036854775808<=c)(d:c<=9223372036854775807)(w:Í):Ò À 30 #[Å É c,Å É 8] w λe a=>e=Ç (Å É<|JU c)/\a=w:=by
 unfold JU;by_cases h:c<0
 .rw[if_pos h];have e:-(c+1).tmod 8=(-(c+1))%8:=by rw[<-Int.neg_tmod,Int.tmod_eq_emod_of_nonneg Z]
  have H:=fi e.symm;clear e;go_enter ů,ζ;go_wp2;go_ret;exact⟨by rw[H.out];rfl,U⟩
 .rw[if_neg h];go_enter ů,ζ;go_wp2;go_ret;exact⟨U,U⟩
def UH(a:ý)(w:Í):Sem.events À (binOp BinOp.eql 26 (Ã<|Â a)<|Ã Á) w #[]=#[]:=fw
def ar3{l:fh}(a:im l)(s:nB<=l.w.heap.size){f:η}{args:Array Ñ}{r:Ñ}(m:Fs f=Î)(t:∀v∈args.toList,fq (qB (λ_=>False) À.globals.size) v v)(x:∀{ρ v},fq ρ r v->v=r)(y:∀w,Ò À f args w λe n=>e=Ç r/\n=w)(o:Bool)(c:Ę)(i:List Ę): fD.fp À o (λk p=>kN l k/\k.d=l.d/\p=G (c.finish r) i) l (G (é À f args ć)<|c::i):=by
 let⟨E,F,z,B⟩:=zq f m;have C:∀T,Ò À f args (World.tp (lh (λj=>False/\¬(ma l).O j) l.w) T 0) fun|Ç v,j=>v=r/\kl j|_,_=>False:=λT=>by refine(y _).mono ?_;rintro e n ⟨rfl,rfl⟩;exact⟨U,F4⟩
 have W:=Fj yh MD zq (λv u T D h=>h) m z B (Fl a.r) a.q (λb q=>q.elim) ⟨λb q=>q.elim,s⟩ (λg q=>by cases q) (pR t) C o c i;refine(W.ma a.r).fQ ?_;rintro k p ⟨H,⟨ρ,j,v,I,_,_,h,rfl,g,_,_,u⟩,rfl,D,_,_,_⟩;rw[x h]at g;exact⟨D,u,g⟩
def UI:ByteArray:=⟨#[98,48,58,97,59,98,48,58,104,59,117,48,59,98,49,58,97]⟩
def ar4:(mq [iE.mM] UI).1=⟨#[49,48,48,48,59,49,48,48,48,59,45,59,33,51]⟩:=fw
def ar5:(mq [iE.mM] UI).2=(0,[iE.mM]):=fw
structure ar6(l l':fh)(ab n:Nat)(sl:Ñ)(V:Nat->Prop):Prop where
 r:mr l' ab n [iE.mM] sl V
 C:∀b,l.O b->l'.O b/\l'.w.heap[b]?=l.w.heap[b]?
 I:l.w.heap.size<=ab
 M:∀b,V b->(b=1\/b=2\/b=3\/b=4)\/l.w.heap.size<=b
section
variable{l:fh}
def UJ{J:Jd}{s:List fP}(c:im l)(d:mr l j n s z X)(g:fD.fp À Î J l (G (f.at (y.put ((Q[i]?).bind (·.dst))<|Å É s.length)<|Ð Q jJ::L) qX)): fD.fp À Î J l (G (é À 22 #[Ã<|Â ⟨j,0,Á⟩] ć)<|f.at y (Ð Q (i::jJ)::L)::qX):=by
 have hF:True:=trivial;obtain⟨a,b,rfl⟩:∃a b,z=Æ a s.length b:=by
  let⟨o,h,_,⟨a,k,b,e,_,m⟩,_⟩:=d.N;have:k=s.length:=by rw[m.r,<-h];simp[kh]
  exact⟨a,b,by rw[e,this]⟩
 have o:s.length<=40:=by let⟨_,_,e,_⟩:=d.N;exact e.r
 let⟨p,k,_⟩:=d.a;have m:l.w.cell? ⟨j,1,Á⟩=Â (Æ a s.length b):=by simp[ã,k]
 rw[Gn [_] 7 Ű];simp only[Ĉ,Ĝ,Ĥ];conv in kX _ _=>whnf
 refine fZ (n:=20) c.r.r ?_;repeat w_go fB
 refine ô λ_ _=> ?_;refine nG (x:=⟨j,1,Á⟩) (v:=Æ a s.length b) U fR (by k_ne) c.r.r c.q (È<|È d.fu) m (λw h=>by go_simp) (λw h=>by simp[go_sem,h]) ?_;walk_nrm;refine fZ (n:=20) c.r.r ?_;repeat w_go fB
 u_in fB hF
 refine Ů (t:=2) U U Ű U ⟨by u_nil,?_⟩;refine ô λ_ _=> ?_;exact g
def abO(j:im l)(p:nO l.w)(I:∀b,b=1\/b=2\/b=3\/b=4->l.O b)(c:Int)(uj:-9223372036854775808<=c)(zW:c<=9223372036854775807) (hJ:∀J a n K V,im J->ar6 l J a n K V->jc vQ J (G (f.at (y.put ((Q[i]?).bind (·.dst))<|Ã<|Â ⟨a,0,Á⟩)<|Ð Q jJ::L) qX)): jc vQ l (G (é À 15 #[Å É c] ć)<|f.at y (Ð Q (i::jJ)::L)::qX):=by
 have hF:True:=trivial;rw[Gn [_] 36 χ];simp only[Ĉ,Ĝ,Ĥ];conv in kX _ _=>whnf
 apply p6;apply fZ (n:=20) j.r.r;repeat w_go fB
 refine ô λ_ _=> ?_;refine xZ (f:=30) (args:=#[Å É c,Å É 8]) U fR (by k_ne) j.r.r (λw=>by go_simp) (λw=>ú U ů U U #[]) λw₁ r=> ?_;have W:=j.C r;refine fD.fp.mA ?_ (ar3 W (Ì p.fx r.r) fR (λv h=>by simp at h;rcases h with rfl|rfl<;>exact .iK _ _) (λh=>by cases h;rfl) (ar2 c uj zW) Î _ _);rintro s g1 ⟨u,hd,rfl⟩;obtain⟨z,hz,I9,Sn⟩:∃z,JU c=z/\0<=z/\z<8:=⟨_,U,by unfold JU;split<;>omega,by unfold JU;split<;>omega⟩;rw[hz];have M:im s:=kN.Fg W u hd;have x:∀b,l.O b->s.O b/\s.w.heap[b]?=l.w.heap[b]?:=λb q=>⟨u.O b q,(u.r.I b<|È q).trans<|r.I b<|È q⟩;have B:l.w.heap.size<=s.w.heap.size:=Ì r.r u.r.r;rw[ĥ];walk_nrm;refine fZ (n:=20) M.r.r ?_;repeat w_go fB
 refine ô λ_ _=> ?_;have mE:É.wrap (1+z)=1+z:=ņ _ ⟨Z,Z⟩;refine xZ (f:=35) (args:=#[Å É<|1+z]) U fR (by k_ne) M.r.r (λw=>by go_simp) (λw=>ú U ς U U #[]) λpC h=> ?_;have N:=M.C h;obtain⟨n,hn⟩:∃n:Nat,1+z=n:=⟨(1+z).toNat,Z⟩;rw[hn];refine fD.fp.mA ?_<|aro N.r N.q (Ì (Ì p.fx B) h.r) (n:=(n:Int)) Z Z Î _ _;rintro d g3 ⟨C,sd,a,K,rfl,mF,N9,hab,V,ri,hnV,X⟩;have g:im d:=kN.Fg N C sd;have k:∀b,l.O b->d.O b/\d.w.heap[b]?=l.w.heap[b]?:=λb q=>⟨C.O b (x b q).1,(C.r.I b<|È (x b q).1).trans<|(h.I b<|È (x b q).1).trans (x b q).2⟩;have Y:l.w.heap.size<=d.w.heap.size:=Ì B<|Ì h.r C.r.r;have ar7:l.w.heap.size<=a:=Ì B<|Ì h.r hab;have ar8:∀b,b=1\/b=2\/b=3\/b=4->b<l.w.heap.size:=λb q=>j.r.fx b<|È<|I b q;have hin:mr d a n [iE.mM] K V:=⟨p.r (Ì p.fx Y) λb q=>(k b<|I b q).2,λb q=>(k b<|I b q).1,mF,N9,ri,λb q=>(X b q).1,hnV,Z,Z,λq=>by have:=ar8 a q;omega⟩;have hVn:∀b,V b->l.w.heap.size<=b:=λb q=>Ì B<|Ì h.r (X b q).2;rw[ĥ];walk_nrm;apply fZ (n:=60) g.r.r;repeat w_go fB
 refine ô λ_ _=> ?_;apply oe (v:=û Ë) U fR (by k_ne) g.r.r g.q (λw _=>by go_simp) (λw _ e m=>by simp[go_sem,UH]at m);walk_nrm;apply fZ (n:=60) g.r.r;repeat w_go fB
 refine ô λ_ _=> ?_;refine .fF λyY m=>⟨g.C m,U,?_⟩;have rV:=g.C m;have ar9:=hin.M m;have P:∀b,l.O b->({d with w:=yY}:fh).O b/\yY.heap[b]?=l.w.heap[b]?:=λb q=>⟨(k b q).1,(m.I b<|È (k b q).1).trans (k b q).2⟩;refine Gp (f:=17) (args:=#[Ã<|Â ⟨a,0,Á⟩,Ä ⟨#[98,48,58,97,59,98,48,58,104,59,117,48,59,98,49,58,97]⟩]) rV U fR (by k_ne) (λw=>by go_simp) (λw=>ú U Ō U U #[]) λabP D=> ?_;change jc vQ _ (G (é À 17 #[Ã<|Â ⟨a,0,Á⟩,Ä UI] ć) _);refine abL (rV.C D) (ar9.M D) A (λ_=>UG abE) λl6 E abQ=> ?_;rw[ar5]at abQ|-;rw[ar4];let⟨Li,sl6,V6,abR,hV6⟩:=abQ;have kI:∀b,l.O b->b≠a:=λb q e=>by have:=j.r.fx b<|È q;omega
 have F:∀b,l.O b->l6.O b/\l6.w.heap[b]?=l.w.heap[b]?:=λb q=>by let⟨o,H⟩:=Li b (P b q).1<|kI b q;exact⟨o,H.trans<|(D.I b<|È (P b q).1).trans (P b q).2⟩
 have hV7:∀b,V6 b->(b=1\/b=2\/b=3\/b=4)\/l.w.heap.size<=b:=λb q=>by
  rcases hV6 b q with z|z|z
  .exact Ï<|hVn b z
  .exact È z
  .exact Ï<|Ì Y<|Ì (Ì m.r D.r) z
 walk_nrm;apply p6;apply fZ (n:=60) E.r.r;repeat w_go fB
 refine ô λ_ _=> ?_;refine xZ (f:=22) (args:=#[Ã<|Â ⟨a,0,Á⟩]) U fR (by k_ne) E.r.r (λw=>by go_simp) (λw=>ú U Ű U U #[]) λtw o=> ?_;apply UJ (E.C o) (abR.M o);have T:=E.C o;have asa:=abR.M o;walk_nrm;apply fZ (n:=60) T.r.r;repeat w_go fB
 u_in fB hF
 refine Ů (t:=2) U U χ U ⟨by u_nil,?_⟩;refine ô λ_ _=> ?_;exact .fF λatK H=>⟨T.C H,U,hJ _ a n sl6 V6 (T.C H) ⟨asa.M H,λb q=>⟨(F b q).1,(H.I b<|È (F b q).1).trans<|(o.I b<|È (F b q).1).trans (F b q).2⟩,ar7,hV7⟩⟩
end
def Ac(l:fh)(c:Option ý)(N:Nat)(f:Nat->ByteArray):Prop:=∀j,j<N->(f j).size<=ě/\∃a b,c=Â ⟨a,b,Á⟩/\l.O a/\l.w.cell? ⟨a,b+j,Á⟩=Â (Ä<|f j)
def Ac.r{l a:fh}{d:Option ý}{N:Nat}{f:Nat->ByteArray}(h:Ac l d N f)(k:∀b,l.O b->a.O b/\a.w.heap[b]?=l.w.heap[b]?):Ac a d N f:=λj g=>by let⟨i,c,m,n,e,o⟩:=h j g;exact⟨i,c,m,n,(k c e).1,zY (k c e).2 o⟩
section
variable{c l a:fh}{x:Nat}{s t:List fP}{d:Ę}{g:Ď}
def mr.G(h:mr l j n t v X)(c:∀b,l.O b->b≠x->a.O b/\a.w.heap[b]?=l.w.heap[b]?)(d:¬X x)(f:j≠x)(g:¬(x=1\/x=2\/x=3\/x=4))(i:nB<=a.w.heap.size):mr a j n t v X:= ⟨h.r.r i λb q=>(c b (h.C b q) λe=>g<|e▸q).2,λb q=>(c b (h.C b q) λe=>g<|e▸q).1,h.a.r (c j h.fu f).2,(c j h.fu f).1,h.N.r λb q=>(c b (h.Y b q) λe=>d<|e▸q).2,λb q=>(c b (h.Y b q) λe=>d<|e▸q).1,h.e,h.c,h.d,h.I⟩
end
def asb{t:Tmp}(d:f.kind=ć)(e:y.defers=[])(g:P.funcs[f.fn]?=Â s)(c:s.results=#[.tmp t])(h:P.inits.idxOf? f.fn=Á):stepG P Î (G {f.at y L with mode:=.returning} []) w=.ended (.done<|y.tmps.getD t ł) w:=by have i:=results_tmp c y.tmps P w;have j:=events_results_tmp (P:=P) (w:=w) c y.tmps;simp[G,stepG,unwind,doReturn,Frame.at,d,e,g,i,j,h,seen,GStep.after]
def asc{l:fh}(f:jc vQ l g)(a:im l)(e:g.status=.running):sL vQ #[g] l.w Á #[]:=by have c:=arq (P:=À) (J:=λ_ _=>True) (T:=.fF) U a.d a.q a.N a.I a.M a.k (λb q=>a.r.fx b<|È q) e λ_ _=>trivial;exact f a e (λ_=>False) 0 _ _ _ _ Á _ ⟨λx q=>q.elim,λ_ _ _ _ q=>q,Ú _⟩ c a.d U
def Oa(W:Í):fh:={O:=λb=>b<W.heap.size,I:=λ_=>False,r:=λ_=>False,N:=λ_=>False,K:=λ_=>False,d:=0,q:=False,w:=W}
def abS(W:Í):im (Oa W):= ⟨⟨λ_ _=>id,λ_ q=>q.elim,λ_ q=>q.elim (λz=>z.elim) λz=>z.elim,λ_ q=>q.elim id λz=>z.elim,λ_ q=>q.elim (λz=>z.elim) λz=>z.elim,λ_ q=>q.elim⟩,U,id,λ_=>id,λ_=>id,λ_=>id,λ_=>id⟩
structure nU(W w':Í):Prop where
 rI:∀b,b<W.heap.size->w'.heap[b]?=W.heap[b]?
 Eo:W.heap.size<=w'.heap.size
def ase(g:nO W):∀b,b=1\/b=2\/b=3\/b=4->b<W.heap.size:=λb q=>by let⟨c,a,h,_⟩:=g.C;have:=(Ù.1 h).1;omega
def asf:À.cellsOf 9=1:=fw
def asg(b a n:Nat):(⟨b,a,Á⟩:ý).add n=⟨b,a+n,Á⟩:=by
 unfold Addr.add;by_cases h:n=0
 .rw[if_pos h,h];rfl
 .rw[if_neg h]
def ash(h:w.cell? a=Â v):a.spot=Á/\a.block<w.heap.size:=by
 unfold ã at h;split at h
 .rename_i c t f e;constructor
  .cases d:a.spot with
   |none=>rfl
   |some x=>rw[d]at h;cases h
  .rcases Ĕ a.block w.heap.size with b|b
   .exact b
   .rw[æ b]at e;cases e
 .cases h
open Go.ChangeShapes Go.WideShapes Go.ChangeAt Go.Deep in
def asi{H:Type}{enc:TypeId×Value->H}{x:DataW H×List MemPlace} (h:DataW.trod enc À W 0 (λ_=>Î) Î k 25 [Æ O J j9]=Â x):J<=ě/\∃f,Ac (Oa W) O J f:=by
 rcases open_slice ē h with⟨g,_⟩|⟨a,r,t,m,n,D,C,g,_,E,F,u,_,v⟩
 .have e:Æ O J j9=Æ Á 0 0:=by simpa using g
  cases e;exact⟨Ú _,λ_=>⟨#[]⟩,λj o=>by omega⟩
 have e:Æ O J j9=Æ (Â a) r t:=by simpa using g
 cases e;have G:m=j9:=by rw[u];rfl
 have w:∀i,∃s:ByteArray,i<J->W.cell? (a.add i)=Â (Ä s)/\s.size<=ě:=by
  intro i;by_cases b:i<J
  .let⟨B,c,l⟩:=v i Z;rw[asf]at c;let⟨_,I,q⟩:=World.cells?_some c;let⟨s,p,_,y⟩:=DataW.trod_string Tryz.underlying9 l;subst p;have d:=q 0 ft;have z:(a.add i).add 0=a.add i:=rfl;rw[Nat.mul_one]at d;rw[z]at d;refine⟨s,λ_=>⟨?_,y⟩⟩;simpa using d
  .exact⟨⟨#[]⟩,λq=>absurd q b⟩
 let⟨f,q⟩:=Classical.axiomOfChoice w;refine⟨Z,f,λj o=> ?_⟩;let⟨c,l⟩:=q j o;let⟨d,_⟩:=q 0 Z;let⟨y,z⟩:=ash d;let⟨b,p,sp⟩:=a;have B:sp=Á:=by have:((⟨b,p,sp⟩:ý).add 0).spot=sp:=rfl;rwa[<-this]
 subst B;rw[asg]at c;exact⟨l,b,p,U,z,c⟩
end Go.Proofs.Y.ml
