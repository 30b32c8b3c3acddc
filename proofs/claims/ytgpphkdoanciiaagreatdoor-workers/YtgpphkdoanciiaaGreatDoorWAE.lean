import Derived.Test.YtgpphkdoanciiaaGreatDoorWAD
import Derived.Lib.Bytealg
import Derived.WalkKit
import Derived.WalkSpells
import Derived.WalkLawsBesides
import Derived.Deep.Light
import Derived.WalkMore
import Derived.Deep.QuietTactic
import Derived.BigQuiet
import Derived.Conc.LeavingOf
import Derived.Conc.CrowdStepC
import Derived.Listen
import Derived.ProofKit
import Derived.Deep.Slices
set_option linter.all false
set_option maxRecDepth 1000000
set_option maxHeartbeats 8000000
open Go.Proofs.Tryz renaming prog->À,ntmps67->ñ,func67->ö,zeroCells292->ý,ntmps100->þ,func100->Ă,underlying25->Ď,func38->Ė,func17->ę,results45->ħ,func22->į,func36->Ŀ,results36->ŀ,func15->ń,ntmps160->ō,ntmps147->Ŏ,ntmps38->ő,func160->ŕ,func147->ř,ntmps95->ś,ntmps36->Ŝ,func95->ũ,func30->ū,ntmps123->Ż,ntmps101->ſ,func123->Θ,func101->Ξ,ntmps96->Ρ,ntmps45->Τ,ntmps30->Χ,f7->Ω,func96->θ,func45->ι,func35->κ,func37->ξ,func7->φ,f38->au
open Option renaming none->Á,some->Â,bind_eq_some_iff->ß,bind_eq_bind->í,map->ó,map_eq_some_iff->õ,isSome_none->ø,pure_def->ă,map_some->Ą,bind_some->ţ
open Go.Value renaming pointer->Ã,string->Ä,int->Å,slice->Æ,bool->î,tuple->ï,cells->Ľ
open Or renaming inl->Ç,inr->Ð
open Go.Ending renaming returned->È
open Go.IntKind renaming i64->É,u64->ç,wrap_u64->Ĉ,wrap_i64->š,u8->ŭ
open Nat renaming le_trans->Ê,zero_le->Ø,le_refl->ê,lt_of_lt_of_le->Ĥ,eq_zero_or_pos->Ĩ,zero_add->Ŗ,le_of_lt->Ś,mul_le_mul->Ŵ
open And renaming intro->Ë
open Bool renaming false->Ì,true->Î,false_eq_true->ð,eq_iff_iff->Ĝ
open Go renaming World->Í,undef->Ï,Value->Ñ,Calls->Ó,Addr->û,bodyPost_ret->ā,Goroutine->ą,Act->Ċ,Frame->ċ,maxLen->ď,TypeId->đ,Oper->ġ,TypeInfo->Ĭ,results->ņ,execOp->ş,runNT_fst->Ŧ,Code->ů,run_underlying->ű,info_parts->Ų,heap_alloc_new->ŷ,Tape->ź,Trace->Α,runNT->Γ,mem_ready->Ε,wp_loop->Η,wpList_plain->Ι,yielded->Ν,cell_one_new->Ο,FuncId->ε,storeCells->ρ,resolve->χ,builtin->ψ,Program->ai,invoke->ay
open Go.Item renaming inRegion->Ò,code->Ζ
open List renaming getElem?_eq_getElem->Ô,getElem?_eq_some_iff->Ö,length_append->Ü,mem_map->Ý,eq_nil_of_length_eq_zero->à,mem_append->æ,mem_of_getElem?->ë,setIfInBounds_toArray->ì,length_map->ü,set_cons_zero->ÿ,set_cons_succ->Ā,replicate->ć,length_cons->ē,cons_append->Ĕ,mem_cons_of_mem->ė,getElem?_of_mem->Ę,append_nil->Ě,nil_append->ĝ,getElem_of_mem->Ġ,getD->Ģ,getElem?_append_right->ģ,getElem?_append_left->ĩ,extract_eq_take_drop->Ī,mem_or_eq_of_mem_set->ī,take_add_one->ĭ,getElem?_map->Į,all_eq_true->ı,range->ķ,set_append_right->Ĺ,length_pos_iff->ň,map_cons->Ō,mem_singleton->Ő,map_nil->œ,append_assoc->Ŕ,ext_getElem?->ŗ,size_toArray->ŝ,length_take->Ş,map_toArray->Š,mem_flatMap->Ţ,length_nil->Ŭ,mem_range->Ź
open Option.some renaming injEq->Õ,inj->ak
open Go.Lib renaming byteCells->Ù,indexByte->â,strCells->ĳ,hasPrefix->Ž,TabIs->ag
open Go.Conc renaming events_call_body->Ú,crowd->Ĳ,goes_leave1->Ū,Good->Υ,enter_at->ν,goes_leave2->ο,listed->aB
open Go.Conc.Goes renaming stop->Û
open Go.Obj renaming cells->Þ
open Go.Frame renaming enter->á,finish_at->Ğ
open Go.World renaming cell?->ã,setCell->ž,drew->ς,var?->σ
open Go.Code renaming wp->ä,wp_mono->Ĵ,loop->Ň,skip->av
open Array renaming getElem?_eq_some_iff->å,getElem?_eq_getElem->é,mem_toList_iff->ò,getElem_mem->Ć,length_toList->ğ,size_setIfInBounds->İ,getElem?_eq_none->ĵ,replicate->ĸ,mem_of_getElem?->ĺ,getElem?_modify->Ļ,getElem?_toList->ļ,toList_extract->ľ
open Go.Region renaming ready->è,wanted->ĕ,Mode->ł
open Go.Ground renaming phase->ô,data->Č
open ByteArray renaming size_append->ù,getElem_eq_getElem_data->č,size_extract->Đ,data_extract->Ķ,size->Ű,data->ų,extract->ω,mk->aE
open Go.CallKind renaming normal->ú
open Go.Region.linearise renaming go->ĉ
open Go.Great renaming wpList_runTo->Ē
open Go.Builtin renaming append_->ě,firstCells->ŏ,lenOf->ż,append->π,zeroCells->af
open Go.RowKit.Below renaming heap_setCell->ĥ,heap_alloc->Ť
open Go.IntWalk renaming i64_in->Ħ,i64_left->ť
open Go.Made renaming word->Ņ,reckonStruct->Ř,infoAt->ŧ,mostCells->ŵ,reckon->η
open Int renaming toNat_of_nonneg->ŉ,le_refl->Ũ
open Go.Operand renaming tmp->ŋ
open Go.Result renaming andThen_ok->Œ,andThen->Ŷ
variable{i n j b k m J j9 j7 j6:Nat}{w u W jX:Í}{v x z jQ:Ñ}{g:ą}{a p:û}{h c:Int}{e t T:đ}{d q:Array Ñ}{P:ai}{y:Ċ}{B:ByteArray}{X:Nat->Prop}{O:Option û}{l:List Ñ}{yQ:Bool}{K H:Ċ->Í->Prop}{o:ġ}{D:Nat->Nat}{E:Array ą}{L:List Go.Item}{jJ:List Nat}{qX:List ċ}{qJ:Α}{zX:Go.Loc->Prop}{zQ:List Int}{zJ:Ĭ}{xQ:ź}{xJ:Nat×Nat}{vX:List ByteArray}{vQ:Ñ->Í->Prop}{vJ:Go.Exit->Ċ->Í->Prop}{Q:Array ġ}{f:ċ}{F:ε}{s:Go.Func}
namespace Go.Proofs.Y.iy
open Go Go.Proofs Go.RowKit Go.Proofs.Y.Lift
def BN:ů->Option ů
 |Ň c=>Â c
 |.seq a b=>match BN b with
  |some c=>Â c
  |none=>BN a
 |.block _ c=>BN c
 |.scope c=>BN c
 |.cond _ a b=>match BN b with
  |some c=>Â c
  |none=>BN a
 |_=>Á
noncomputable def Ll:ů:=(au.body.bind ko).getD av
noncomputable def Lm:ů:=(au.body.bind BN).getD av
def QE(k:Nat)(X:Ċ->Í->Prop):Exit->Ċ->Í->Prop
 |.exit i,a,w=>i=k/\X a w
 |_,_,_=>False
def qy(a:ByteArray)(b:List ByteArray):List UInt8:=b.flatMap λy=>a.data.toList++y.data.toList
def anl(a:ByteArray):List ByteArray->List UInt8
 |[]=>[]
 |x::r=>x.data.toList++qy a r
def iI(xs:List ByteArray):Nat:=(xs.map Ű).sum
def Sw(a b:List ByteArray):iI (a++b)=iI a+iI b:=by simp[iI]
def u_(a:List ByteArray)(j:Nat):iI (a.take j)<=iI a:=by have h:=Sw (a.take j)<|a.drop j;simp_all
theorem Ln(a:ByteArray)(c:a.size=1):∀b:List ByteArray,(qy a b).length=iI b+b.length
 |[]=>rfl
 |x::r=>by
  have e:qy a (x::r)=(a.data.toList++x.data.toList)++qy a r:=U;have d:a.data.toList.length=1:=by simpa using c
  have f:x.data.toList.length=x.size:=fg
  have g:iI (x::r)=x.size+iI r:=by simp[iI]
  rw[e,Ü,Ü,Ln a c r,d,f,g,ē];omega
def Ed(a:Option û)(n b:Nat)(c:ByteArray)(m i:Int)(u:Nat->Ñ):Ċ:=⟨#[Æ a n b,Ä c,u 2,u 3,u 4,Å É m,u 6,u 7,u 8,u 9,u 10,u 11,u 12,u 13,u 14,u 15,u 16,u 17,u 18,u 19,u 20,u 21,u 22,u 23,u 24,u 25,u 26,u 27,u 28,u 29,u 30,u 31,u 32,u 33,u 34,u 35,u 36,u 37,u 38,Æ a n b,Å É n,Å É i,u 42,u 43,u 44,u 45,u 46,u 47,u 48,u 49,u 50,u 51,u 52,u 53,u 54,u 55,u 56,u 57,u 58,u 59,u 60,u 61,u 62,u 63,u 64,u 65,u 66,u 67,u 68,u 69,u 70,u 71,u 72,u 73,u 74],[]⟩
def Ee(b:Option û)(n c:Nat)(d:ByteArray)(m i:Int)(a:Ċ):Prop:=∃u,a=Ed b n c d m i u
def pV(a:Option û)(n c b:Nat)(d:ByteArray)(i:Int)(u:Nat->Ñ):Ċ:=⟨#[u 0,Ä d,u 2,u 3,u 4,u 5,u 6,u 7,Ã<|Â ⟨b,0,Á⟩,u 9,u 10,u 11,u 12,u 13,u 14,u 15,u 16,u 17,u 18,u 19,u 20,u 21,u 22,u 23,u 24,u 25,u 26,u 27,u 28,u 29,u 30,u 31,u 32,u 33,u 34,u 35,u 36,u 37,u 38,u 39,u 40,u 41,u 42,u 43,u 44,u 45,u 46,u 47,u 48,u 49,u 50,u 51,u 52,u 53,u 54,u 55,u 56,u 57,u 58,u 59,u 60,u 61,u 62,Æ a n c,Å É n,Å É i,u 66,u 67,u 68,u 69,u 70,u 71,u 72,u 73,u 74],[]⟩
def Ef(c:Option û)(n d b:Nat)(e:ByteArray)(i:Int)(a:Ċ):Prop:=∃u,a=pV c n d b e i u
section
variable{X:Ċ->Í->Prop}{sep:ByteArray}{xs:List ByteArray}
def anm(u:Nat->Ñ)(m:Int)(b:∀a,Ee O n i sep m n a->X a w): ä À Ll (Exit.then K<|QE 1 X) (Ed O n i sep m n u) w:=by
 unfold Ed;conv=>arg 2;whnf
 go_wp2_with fail
 exact⟨U,b _ (gk _)⟩
def ano(u:Nat->Ñ)(m j:Nat)(f:j<n)(g:n<=1000000)(b c:Nat)(e:O=Â ⟨b,c,Á⟩)(x:ByteArray)(h:w.cell? ⟨b,c+j,Á⟩=Â (Ä x))(k:m+x.size<=140737488355328) (d:∀a,Ee O n i sep ((m+x.size:Nat):Int) ((j+1:Nat):Int) a->K a w): ä À Ll (Exit.then K<|QE 1 X) (Ed O n i sep m j u) w:=by
 unfold Ed;conv=>arg 2;whnf
 subst e;have H:=e7 d;clear d;go_wp2_with fail;exact H.out _ (gk _)
def J1(O:Option û)(n i:Nat)(sep:ByteArray)(b:Nat)(xs:List ByteArray)(u:Í)(a:Ċ)(w:Í):Prop:=
 ∃j:Nat,Ee O n i sep ((b+iI (xs.take j):Nat):Int) j a/\j<=n/\w=u
def w_(O:Option û)(n i:Nat)(sep:ByteArray)(b:Nat)(xs:List ByteArray)(u:Í)(a:Ċ)(w:Í):Prop:=
 Ee O n i sep ((b+iI xs:Nat):Int) n a/\w=u
def Lp(n:Nat)(a:Ċ)(_:Í):Nat:=match a.tmps.getD 41 Ï with
 |Å _ i=>n-i.toNat
 |_=>0
def y_(b:Ee O n i sep h j y):Lp n y w=n-j:=by obtain⟨u,rfl⟩:=b;show n-(j:Int).toNat=_;simp
theorem anp(r:n=xs.length)(f:n<=1000000)(g:mS O (kq xs) u)(s:j+iI xs<=140737488355328)(a:Ċ)(w:Í)(h:J1 O n i sep j xs u a w): ä À Ll (Exit.then (λb c=>J1 O n i sep j xs u b c/\Lp n b c<Lp n a w)<|QE 1<|w_ O n i sep j xs u) a w:=by
 obtain⟨b,d,t,rfl⟩:=h;rw[y_ d];obtain⟨c,rfl⟩:=d;by_cases k:b=n
 .subst k;refine anm c _ λa q=>⟨?_,U⟩;grind
 .obtain⟨x,e⟩:∃x,xs[b]?=Â x:=⟨_,Ô Z⟩;let⟨l,m,o,p⟩:=g b (Ä x) (by simp[kq,e]);have v:iI (xs.take<|b+1)=iI (xs.take b)+x.size:=by
   rw[ĭ,e,Sw];simp[iI]
  have y:=u_ xs<|b+1;refine ano c _ b Z f l m o x p Z λa q=>⟨⟨b+1,?_,Z,U⟩,by rw[y_ q];omega⟩;grind
def anq(u:Nat->Ñ)(c:∀a,Ef O n i b sep n a->X a w): ä À Lm (Exit.then K<|QE 3 X) (pV O n i b sep n u) w:=by
 unfold pV;conv=>arg 2;whnf
 go_wp2_with fail
 exact⟨U,c _ (gk _)⟩
def anr(c:Nat->Ñ)(j:Nat)(y:j<n)(z:n<=1000000)(d f:Nat)(o:O=Â ⟨d,f,Á⟩)(x:ByteArray)(p:u.cell? ⟨d,f+j,Á⟩=Â (Ä x))(l:List UInt8)(g:ox u b (Ù l) w)(q:sep.size=1)(B:l.length+1+x.size<=140737488355328) (r:∀a h,Ef O n i b sep ((j+1:Nat):Int) a->ox u b (Ù<|l++(sep.data.toList++x.data.toList)) h->K a h): ä À Lm (Exit.then K<|QE 3 X) (pV O n i b sep j c) w:=by
 unfold pV;conv=>arg 2;whnf
 subst o;have C:=g.r.r p id;have k:=Lib.byteCells_length l;have s:(Ù l++ĳ sep).length=l.length+1:=by rw[Ü,k,Lib.strCells_length,q]
 have E:Ù l++ĳ sep++ĳ x=Ù (l++(sep.data.toList++x.data.toList)):=by simp[Ù,ĳ]
 have H:=e7<|Ë g<|Ë r<|Ë k<|Ë s E;go_wp2_with (first
  |(go_at_call 55;refine(Sv t.out x<|by rw[H.out.2.2.2.1];omega).mono ?_;rintro e D ⟨rfl,m⟩;have v:=e7 m;clear m)
  |(go_at_call 55;refine(Sv H.out.1 sep (by rw[H.out.2.2.1];omega)).mono ?_;rintro e D ⟨rfl,m⟩;have t:=e7 m;clear m))
 apply H.out.2.1 _ _ (gk _);rw[<-H.out.2.2.2.2];exact v.out
def J2(O:Option û)(n i b:Nat)(sep:ByteArray)(c:List UInt8)(xs:List ByteArray)(u:Í)(a:Ċ)(w:Í):Prop:=
 ∃j:Nat,Ef O n i b sep j a/\j<=n/\ox u b (Ù<|c++qy sep (xs.take j)) w
def z_(O:Option û)(n i b:Nat)(sep:ByteArray)(c:List UInt8)(xs:List ByteArray)(u:Í)(a:Ċ)(w:Í):Prop:=
 Ef O n i b sep n a/\ox u b (Ù<|c++qy sep xs) w
def Lq(n:Nat)(a:Ċ)(_:Í):Nat:=match a.tmps.getD 65 Ï with
 |Å _ i=>n-i.toNat
 |_=>0
def A_(c:Ef O n i b sep j y):Lq n y w=n-j:=by obtain⟨u,rfl⟩:=c;show n-(j:Int).toNat=_;simp
theorem ant{d:List UInt8}(z:n=xs.length)(h:n<=1000000)(k:sep.size=1)(l:mS O (kq xs) u)(B:d.length+iI xs+n<=140737488355328)(a:Ċ)(w:Í)(m:J2 O n i b sep d xs u a w): ä À Lm (Exit.then (λc e=>J2 O n i b sep d xs u c e/\Lq n c e<Lq n a w)<|QE 3<|z_ O n i b sep d xs u) a w:=by
 let⟨j,g,C,o⟩:=m;rw[A_ g];obtain⟨c,rfl⟩:=g;by_cases p:j=n
 .subst p;refine anq c λa q=>⟨q,?_⟩;grind
 .obtain⟨x,f⟩:∃x,xs[j]?=Â x:=⟨_,Ô Z⟩;let⟨r,s,t,v⟩:=l j (Ä x) (by simp[kq,f]);have D:iI (xs.take<|j+1)=iI (xs.take j)+x.size:=by
   rw[ĭ,f,Sw];simp[iI]
  have E:=u_ xs<|j+1;have y:(d++qy sep (xs.take j)).length=d.length+iI (xs.take j)+j:=by grind [Ü,Ln,Ş]
  have F:qy sep (xs.take<|j+1)=qy sep (xs.take j)++(sep.data.toList++x.data.toList):=by rw[ĭ,f];simp[qy]
  refine anr c j Z h r s t x v _ o k (by rw[y];omega) λa e q G=>⟨⟨j+1,q,Z,?_⟩,by rw[A_ q];omega⟩;grind
end
section
variable{sep:ByteArray}{xs:List ByteArray}
def oy(sep:ByteArray)(xs:List ByteArray):ByteArray:=⟨(anl sep xs).toArray⟩
def anu:Ó À 38 #[Æ O 0 i,Ä sep] w λe a=>e=È (Ä ⟨#[]⟩)/\eZ e9 w a:=by go_enter Ė,ő;go_wp2_with fail;go_ret;exact⟨U,eZ.fO _ _⟩
def anv(a b:Nat)(x:ByteArray)(d:w.cell? ⟨a,b,Á⟩=Â (Ä x)):Ó À 38 #[Æ (Â ⟨a,b,Á⟩) 1 i,Ä sep] w λe c=>e=È (Ä x)/\eZ e9 w c:=by go_enter Ė,ő;go_wp2_with fail;go_ret;exact⟨U,eZ.fO _ _⟩
theorem anw(k:Nat)(K:1<=k)(L:k<1000000)(c d:Nat)(M:k+1<=i)(B:sep.size=1)(x:ByteArray)(g:k=xs.length)(f:mS (Â ⟨c,d,Á⟩) (kq<|x::xs) w)(C:iI (x::xs)+(k+1)<=140737488355328): Ó À 38 #[Æ (Â ⟨c,d,Á⟩) (k+1) i,Ä sep] w λe b=>e=È (Ä<|oy sep<|x::xs)/\eZ e9 w b:=by
 have D:iI (x::xs)=x.size+iI xs:=by simp[iI]
 have m:∀a,Ee (Â ⟨c,d,Á⟩) (k+1) i sep ((k+iI ((x::xs).take 0):Nat):Int) (0:Nat) a->ä À (Ň Ll) (QE 1<|w_ (Â ⟨c,d,Á⟩) (k+1) i sep k (x::xs) w) a w:=λa h=>
  Η (J1 (Â ⟨c,d,Á⟩) (k+1) i sep k (x::xs) w) (Lp<|k+1) ⟨0,h,Ø _,U⟩<|anp (by simp[g]) Z f Z
 have n:mS (Â ⟨c,d+1,Á⟩) (kq xs) w:=λj u E=>by let⟨b,o,z,l⟩:=f (j+1) u (by simpa[kq]using E);grind
 have p:∀a W,Ef (Â ⟨c,d+1,Á⟩) k (i-1) w.heap.size sep (0:Nat) a->ox w w.heap.size (Ù<|x.data.toList++qy sep (xs.take 0)) W->ä À (Ň Lm) (QE 3<|z_ (Â ⟨c,d+1,Á⟩) k (i-1) w.heap.size sep x.data.toList xs w) a W:=λa W h o=>
  Η (J2 (Â ⟨c,d+1,Á⟩) k (i-1) w.heap.size sep x.data.toList xs w) (Lq k) ⟨0,h,Ø _,o⟩<|ant g Z B n (by simp only[ğ];have:x.data.size=x.size:=rfl;omega)
 let⟨_,_,F,q⟩:=f 0 (Ä x) U;cases F;have r:w.cell? ⟨c,d,Á⟩=Â (Ä x):=q;have s:x.data.toList++qy sep xs≠[]:=by grind [Ü,Ln,Ŭ]
 have N:(1:Int)<9223372036854775807/(k:Int):=by rw[Int.lt_iff_add_one_le,Int.le_ediv_iff_mul_le Z];omega
 have t:0<k+iI (x::xs)/\k+iI (x::xs)<=281474976710656:=Z
 have y:(Ù []).length+x.size<=140737488355328:=by simp[Ù];omega
 have H:=e7<|Ë m<|Ë p<|Ë t<|Ë y<|Ë s r;clear m p t y s q r f n g C D;generalize G:iI (x::xs)=S at*;go_enter Ė,ő;go_wp2_with fail;refine Ĵ ?_ (H.out.1 _ (gk _));rintro(_|_|_|_|_|_) a v hq;all_goals first|exact absurd hq id|skip
 obtain⟨rfl,b,rfl⟩:=hq;rw[G]at b;obtain⟨u,rfl⟩:=b;unfold Ed;go_wp2_with (first
  |(go_at_call 54;refine(anj ⟨ê _,eZ.gB _ _ _ _,fc.N v [Ã Á,Æ Á 0 0] 109⟩ (k+S) H.out.2.2.1.1 H.out.2.2.1.2).mono ?_;rintro e I ⟨rfl,l⟩;have J:=l.r.r H.out.2.2.2.2.2 id;have z:=e7 l;clear l)
  |(go_at_call 55;refine(Sv z.out x H.out.2.2.2.1).mono ?_;rintro e l ⟨rfl,z⟩;have I:=e7 z;clear z))
 have J:ox v v.heap.size (Ù<|x.data.toList++qy sep (xs.take 0)) l:=by have:=I.out;show ox v v.heap.size (Ù<|x.data.toList++[]) l;rw[Ě];exact this
 refine Ĵ ?_ (H.out.2.1 _ _ (gk _) J);rintro(_|_|_|_|_|_) a w3 hq;all_goals first|exact absurd hq id|skip
 obtain⟨rfl,b,o⟩:=hq;obtain⟨v,rfl⟩:=b;unfold pV;go_wp2_with (go_at_call 56;refine(ank (e7 o).out H.out.2.2.2.2.1).mono ?_;rintro e O ⟨rfl,z⟩;have I:=e7 z;clear z);go_ret;exact⟨U,I.out⟩
def Sx(a:n=xs.length)(f:n<=1000000)(g:n<=i)(h:sep.size=1)(b:mS O (kq xs) w)(j:iI xs+n<=140737488355328): Ó À 38 #[Æ O n i,Ä sep] w λe c=>e=È (Ä<|oy sep xs)/\eZ e9 w c:=by
 cases xs with
 |nil=>subst a;exact anu
 |cons x r=>
  let⟨c,d,k,l⟩:=b 0 (Ä x) U;subst k;cases r with
  |nil=>
   subst a;have e:oy sep [x]=x:=by show aE ((x.data.toList++[]).toArray)=x;rw[Ě]
   rw[e];exact anv c d x l
  |cons y r=>
   subst a;exact anw (r.length+1) Z (by simp at f;omega) c d g h x U b j
def anx(a:n=xs.length)(c:n<=1000000)(d:n<=i)(h:mS O (kq xs) w)(f:iI xs+n<=140737488355328): Ó À 123 #[Æ O n i] w λe b=>e=È (Ä<|if xs=[]then⟨#[45]⟩else oy ⟨#[44]⟩ xs)/\eZ e9 w b:=by
 have H:=e7<|Sx (sep:=⟨#[44]⟩) a c d U h f;by_cases b:xs=[]
 .subst b;have e:=a;subst e;rw[if_pos U];clear a f H c d;go_enter Θ,Ż;go_wp2_with fail;go_ret;exact⟨U,eZ.fO _ _⟩
 .rw[if_neg b];have k:0<n:=by rw[a];exact ň.2 b
  have l:((n:Int)==0)=Ì:=by simp;omega
  clear a;generalize oy ⟨#[44]⟩ xs=z at*;go_enter Θ,Ż;go_wp2_with (go_at_call 38;apply H.out.mono;rintro e m ⟨rfl,g⟩;have j:=e7 g;clear g);go_ret;exact⟨U,j.out⟩
end
def Eg{M:Nat}:∀(a:List ByteArray),(∀z∈a,z.size<=M)->iI a<=M*a.length
 |[],_=>Ø _
 |x::r,h=>by
  have c:=Eg r λz b=>h z<|ė _ b;have d:=h x fg;have e:iI (x::r)=x.size+iI r:=by simp[iI]
  rw[e,ē,Nat.mul_add];omega
def Lr{e:Nat×Int}(h:fV e.2):(rJ e).size<=21:=by unfold rJ;rw[ù];have:=xj e.1;have:=qu e.2.toNat (by have:=h.1;have:=h.2;omega);omega
def A'{e:Int×Bool}(a:0<=e.1)(h:e.1<=400):(Ea e).size<=41:=by unfold Ea;rw[ù,ù];have:=qu e.1.toNat Z;have:=qu e.2.toNat (by cases e.2<;>decide);have:Ű ⟨#[58]⟩=1:=rfl;omega
section
variable{b:List ByteArray}
def B_{ty:đ}{base:Nat}(b:P.underlying t=Â (.slice e))(d:P.info? e=Â zJ)(h:w.ownsRow base e j v n l)(a:Option û)(c:Nat): (ě #[t,t] ty #[v,Æ a 0 c]).run P w=.ok v w:=by
 have f:(ŏ zJ.size 0<|Æ a 0 c).run P w=.ok #[] w:=by cases a<;>simp[ŏ,loadCells,loadCellsFrom]
 rcases h.2 with⟨rfl,rfl⟩|⟨g,m,o,rfl,_,_,k,_⟩
 .simp[ě,ű b,sizeOf,typeInfo,d,ż,f,ρ]
 .simp[ě,ű b,sizeOf,typeInfo,d,ż,f,k,ρ]
def anz{r:Array ġ}{t:List ġ}(l:o.guard=Á)(s c:Operand) (m:o.op=.call {callee:=.builtin π,args:=#[s,c],argTypes:=#[25,25]}) (d:gW u v vX w) (n:y.eval s=v) {base:Nat} (B:w.ownsRow base 9 1 x b.length (kq b)) (e:y.eval c=x) (I:vX.length+b.length<=1000000) (h:∀j k,gW u j (vX++b) k->wpList À r vJ t (y.put o.dst j) k):wpList À r vJ (o::t) y w:=by
 let⟨J,p,D,E,F⟩:=Ų zd;rcases B.2 with⟨f,G⟩|⟨g,H,L,f,_⟩
 .have z:=à G;subst z;rw[f]at e;refine Ι l λK i=> ?_;have q:=B_ (ty:=o.type) Ď p d.fh Á 0;unfold Oper.wp ş;simp only[m,χ,ay,ψ,Sem.run_bind,Sem.run_pure,Œ,Š,Ō,œ,n,e,q];exact i _ _<|h v w<|by rwa[Ě]
 .by_cases C:b=[]
  .subst C;rw[f]at e;refine Ι l λK i=> ?_;have q:=B_ (ty:=o.type) Ď p d.fh (Â ⟨g,0,Á⟩) H;unfold Oper.wp ş;simp only[m,χ,ay,ψ,Sem.run_bind,Sem.run_pure,Œ,Š,Ō,œ,n,e,q,Ŭ];exact i _ _<|h v w<|by rwa[Ě]
  .have K:=ň.2 C;refine Bq l s c 25 m Ď p D E F U n d.fh ⟨g,0,Á⟩ (kq b) (e.trans f) K (by simp[kq]) (B.cells<|by rw[f];rfl) (λi q=>by unfold kq at q;obtain⟨z,_,rfl⟩:=Ý.1 q;rfl) (by unfold ď;omega) Z d.r.M ?_;intro j k z;refine h j k ⟨?_,d.r.C z.r λi M q=> ?_⟩
   .have:=z.fh;rwa[show kq vX++kq b=kq (vX++b) by simp[kq],show vX.length+b.length=(vX++b).length by simp]at this
   .have:=(d.fh.lt i q).1;omega
end
def gW.I(h:gW u (Æ O n i) vX w):mS O (kq vX) w/\n=vX.length/\n<=i:=by
 rcases h.fh.2 with⟨b,d⟩|⟨g,f,k,b,_,_,d,_⟩
 .cases b;refine⟨λj x e=> ?_,d.symm,ê _⟩;rw[à d]at e;cases e
 .have e:n=vX.length:=by injection b
  subst e;injection b with _ _ h4;exact⟨mS.r h.fh,U,by rwa[h4]⟩
def Sy(r:Bv):ByteArray:=oy ⟨#[44]⟩<|[gG r.C.toNat,gG r.M.toNat,gG r.r.toNat]++r.I.map rJ
theorem anB(x y:Nat)(g k:Int)(b c:Nat)(a:Bool)(f:List (Nat×Int))(L:b<18446744073709551616)(M:c<18446744073709551616)(S:f.length<=400000)(V:xg f)(W:lb w) (T:Ó À 158 #[Ã<|Â ⟨i,0,Á⟩,Å É x,Å É y,Å ç g,Å ç k] w λe h=>∃B,e=È (ï #[.agg #[Å ç b,î a,Å ç c],B])/\h.ownsRow 0 257 2 B f.length (jZ f)/\eZ e9 w h): Ó À 119 #[Ã<|Â ⟨i,0,Á⟩,Å É x,Å É y,Å ç g,Å ç k] w λe h=>e=È (Ä<|oy ⟨#[44]⟩<|[gG a.toNat,gG c,gG b]++f.map rJ)/\eZ e9 w h:=by
 have N:a.toNat<18446744073709551616:=by cases a<;>decide
 have H:=e7<|Ë T<|Ë W V;go_enter Tryz.func119,Tryz.ntmps119;go_wp2_with (go_at_call 158;apply H.out.1.mono;rintro e j ⟨B,rfl,q,d⟩;obtain⟨v,Q,rfl⟩:=jx q;have C:=e7<|Ë d q;clear d q);change ä À _ _ _ (j.alloc<|Þ #[Å ç b,î a,Å ç c] 252);have D:=(eZ.gB e9 j #[Å ç b,î a,Å ç c] 252).e8<|eZ.fM _ _;have E:=(H.out.2.1.r C.out.1).r D;have o:=(fc.N j [Å ç b,î a,Å ç c] 252).I (eZ.fM e9 _) id;have O:=C.out.1.e8 D;have X:=gV C.out.2 D λ_ _=>id;refine lM (λh=>h.cell? ⟨j.heap.size,0,Á⟩=Â (Å ç b)/\h.cell? ⟨j.heap.size,1,Á⟩=Â (î a)/\h.cell? ⟨j.heap.size,2,Á⟩=Â (Å ç c)) [] fj ?_;have l:=e7<|Ë (o.r 0 _ rfl)<|Ë (o.r 1 _ rfl)<|o.r 2 _ rfl;generalize j.heap.size=ob at*;generalize ς (j.alloc<|Þ #[Å ç b,î a,Å ç c] 252)=w5 at*;iterate 3 apply tk l.out
 apply tk l.out 5;apply tk l.out 6;apply tk l.out 8;apply tk l.out 9;apply tk l.out 10;apply gq 3;intro K d;go_simp;go_at_call 159;refine(G1 _ _).mono ?_;rintro e Y ⟨rfl,qi⟩;subst Y;rw[m_];apply d.out _ _ λ_=>l.out;apply gq 4;intro K d;go_simp;go_at_call 118;refine(xh a.toNat N _ E).mono ?_;rintro e wa ⟨rfl,p⟩;have r:=o.I p id;have P:=E.r p;apply d.out _ _ λ_=>⟨r.r 0 _ U,r.r 1 _ U,r.r 2 _ U⟩;apply gq 7;intro K d;go_simp;go_at_call 118;refine(xh c M _ P).mono ?_;rintro e wb ⟨rfl,s⟩;have t:=r.I s id;have Pb:=P.r s;apply d.out _ _ λ_=>⟨t.r 0 _ U,t.r 1 _ U,t.r 2 _ U⟩;apply gq 11;intro K d;go_simp;go_at_call 118;refine(xh b L _ Pb).mono ?_;rintro e m ⟨rfl,F⟩;have u:=t.I F id;have n:=u.I (eZ.gB e9 m #[Ä<|gG a.toNat,Ä<|gG c,Ä<|gG b] 9) id;apply d.out _ _ λ_=>⟨u.r 0 _ U,u.r 1 _ U,u.r 2 _ U⟩;apply gq 12;intro K d;go_simp;apply d.out _ _ λ_=>⟨n.r 0 _ U,n.r 1 _ U,n.r 2 _ U⟩;apply gq 13;intro K d;go_simp;apply d.out _ _ λ_=>⟨n.r 0 _ U,n.r 1 _ U,n.r 2 _ U⟩;refine ly fj ?_ _;have G:eZ e9 w5 (m.alloc<|Þ #[Ä<|gG a.toNat,Ä<|gG c,Ä<|gG b] 9):=((p.e8 s).e8 F).e8<|eZ.gB _ _ _ _;have T6:gW w (Æ (Â ⟨m.heap.size,0,Á⟩) 3 3) [gG a.toNat,gG c,gG b] (m.alloc<|Þ #[Ä<|gG a.toNat,Ä<|gG c,Ä<|gG b] 9):=⟨World.ownsRow_lit m #[Ä<|gG a.toNat,Ä<|gG c,Ä<|gG b] 3 (Ê O.M ((p.e8 s).e8 F).M) (by unfold ď;omega) U,O.e8 G⟩;have L6:=gV X G λ_ _=>id;have P6:=E.r G;have I:=e7<|Ë T6<|Ë L6 P6;generalize m.alloc (Þ #[Ä<|gG a.toNat,Ä<|gG c,Ä<|gG b] 9)=w6 at*;generalize m.heap.size=tb at*;have jV:∀z∈[gG a.toNat,gG c,gG b]++f.map rJ,z.size<=21:=λz hz=>by
  rcases æ.1 hz with q|q
  .have h1:=qu a.toNat N;have h2:=qu c M;have v:=qu b L;grind
  .obtain⟨e,v,rfl⟩:=Ý.1 q;exact Lr (H.out.2.2 e v).2
 have si:=Eg _ jV;have hlen:([gG a.toNat,gG c,gG b]++f.map rJ).length=3+f.length:=by simp;omega
 have J:=e7<|Ë si hlen;go_wp2_with (first
  |(go_at_call 124;refine(k_ U S H.out.2.2 I.out.2.2<|mS.r I.out.2.1).mono ?_;rintro e v ⟨lt,rfl,q⟩;obtain⟨ta,tc,rfl⟩:=jx q.fh;rw[ü]at q;have Q:=e7 q;clear q)
  |(at_builtin;refine anz U _ _ U (I.out.1.fF Q.out.r) U Q.out.fh U (by simp;omega) ?_;intro cv w8 v;obtain⟨ca,cc,rfl⟩:=jx v.fh;generalize([gG a.toNat,gG c,gG b]++f.map rJ).length=cn at v|-;have q:=e7 v;clear v)
  |(go_at_call 38;refine(Sx q.out.I.2.1 (by have:=q.out.I.2.1;rw[this,J.out.2];omega) q.out.I.2.2 U q.out.I.1 (by have:=q.out.I.2.1;have h1:=J.out.1;have h2:=J.out.2;omega)).mono ?_;rintro e w9 ⟨rfl,v⟩;have Q:=e7 v;clear v))
 go_ret;exact⟨U,q.out.r.e8 Q.out⟩
def anC{s:St}(v:lO i s h w)(b:gC s)(z:iD w)(B:lb w)(x y:Nat)(g k:Int)(c:x<8)(d:y<8)(f:0<=g)(j:g<=100000)(l:fV k): Ó À 119 #[Ã<|Â ⟨i,0,Á⟩,Å É x,Å É y,Å ç g,Å ç k] w λe q=>e=È (Ä<|Sy<|fY s [] x y g k)/\eZ e9 w q:=by have T:=h_ v b z x y g k c d f j l _ U;have e:=KQ s [] x y g k b c d l f j (by simp;omega);have m:=Se s [] x y g k b c d l f j (by simp;omega) (λ_ q=>by cases q);obtain⟨q,o,a,t,p,C⟩:∃q o a t p,fY s [] x y g k=⟨q,o,a,t,p⟩:=⟨_,_,_,_,_,U⟩;rw[C]at T e m|-;have D:=e.C;have E:=e.r;have r:=e.M;have u:=e.I;simp only at D E r u m T;obtain⟨F,rfl⟩:∃n:Nat,q=n:=⟨q.toNat,Z⟩;obtain⟨G,rfl⟩:∃n:Nat,a=n:=⟨a.toNat,by have:=r.1;omega⟩;exact anB x y g k F G o p Z (by have:=r.2;omega) (by simp at u;omega) m B T
def pN(w:Í):Prop:=w.cell? ⟨4,15,Á⟩=Â (Å ŭ 4)
def pN.r(h:pN w)(k:eZ e9 w u):pN u:=k.r h id
def anD(c:pN w):Ó À 207 #[Å ç 16] w λe a=>e=È (Å É 4)/\a=w:=by
 unfold pN at c;have b:ç.wrap (bits BinOp.and ç 16 (ç.wrap<|-16)*285870213051353865)/288230376151711744=15:=A
 go_enter Tryz.func207,Tryz.ntmps207;go_wp2;go_ret;exact⟨U,U⟩
def tz(c:pN w):Ó À 201 #[Å ç 16] w λe a=>e=È (Å É 4)/\a=w:=by go_enter Tryz.func201,Tryz.ntmps201;go_wp2_with (go_at_call 207;refine(anD c).mono ?_;rintro e a ⟨rfl,b⟩;subst a);go_ret;exact⟨U,U⟩
def anE:Ó À 200 #[Å É 16] w λe a=>e=È (î Î)/\a=w:=by
 have b:bits BinOp.and É 16 15=0:=A
 go_enter Tryz.func200,Tryz.ntmps200;go_wp2;go_ret;simp_all
def oS(d:Nat):UInt8:=if h:d<36 then(⟨#[48,49,50,51,52,53,54,55,56,57,97,98,99,100,101,102,103,104,105,106,107,108,109,110,111,112,113,114,115,116,117,118,119,120,121,122]⟩:ByteArray)[d]'h else 0
def ua:Nat->Nat->List UInt8->List UInt8
 |0,_,acc=>acc
 |k+1,n,acc=>if n<16 then oS n::acc else ua k (n/16) (oS (n%16)::acc)
def B':∀k n a,(ua k n a).length<=k+a.length
 |0,_,a=>by simp[ua]
 |k+1,n,a=>by
  unfold ua;split
  .simp;omega
  .have:=B' k (n/16)<|oS (n%16)::a;simp at this;omega
noncomputable def Ls:ů:=(Tryz.f190.body.bind ko).getD av
def Eh(a:Nat)(n i:Int)(u:Nat->Ñ):Ċ:=⟨#[u 0,Å ç n,Å É 16,î Ì,î Ì,u 5,u 6,u 7,u 8,u 9,Æ Á 0 0,u 11,Ã<|Â ⟨a,0,Á⟩,Å É i,Å ç 4,Å ç 16,Å ç 15,u 17,u 18,u 19,u 20,u 21,u 22,u 23,u 24,u 25,u 26,u 27,u 28,u 29,u 30,u 31,u 32,u 33,u 34,u 35,u 36,u 37,u 38,u 39,u 40,u 41,u 42,u 43,u 44,u 45,u 46,u 47,u 48,u 49,u 50,u 51,u 52,u 53,u 54,u 55,u 56,u 57,u 58,u 59,u 60,u 61,u 62,u 63,u 64,u 65,u 66,u 67,u 68,u 69,u 70,u 71,u 72,u 73,u 74,u 75,u 76,u 77,u 78,u 79,u 80,u 81,u 82,u 83,u 84,u 85,u 86,u 87,u 88,u 89,u 90,u 91,u 92,u 93,u 94,u 95,u 96,u 97,u 98,u 99,u 100,u 101],[]⟩
def Ei(b:Nat)(n i:Int)(a:Ċ):Prop:=∃u,a=Eh b n i u
def zc(i:Nat)(a:List UInt8):List Ñ:=ć i (Å ŭ 0)++Ù a
def C_(i:Nat)(a:List UInt8):(zc i a).length=i+a.length:=by simp[zc,Ù]
theorem C'(i:Nat)(a:List UInt8)(c:UInt8):(zc (i+1) a).set i (Å ŭ c.toNat)=zc i (c::a):=by unfold zc;rw[List.replicate_succ',Ŕ,Ĺ _ _ fg];simp[Ù]
section
variable{X:Ċ->Í->Prop}
def anF(u:Nat->Ñ)(n b:Nat)(d:n<16)(c:∀a,Ei i n b a->X a w): ä À Ls (Exit.then K<|QE 0 X) (Eh i n b u) w:=by
 unfold Eh;conv=>arg 2;whnf
 go_wp2_with fail
 exact⟨U,c _ (gk _)⟩
def anG(u:Nat->Ñ)(n b:Nat)(g:16<=n)(h:n<18446744073709551616)(j:b<65)(v:Ñ)(c:w.cell? ⟨i,b,Á⟩=Â v)(k:w.frozen? ⟨i,b,Á⟩=Ì) (e:∀a,Ei i ((n/16:Nat):Int) b a->K a (w.setCell ⟨i,b,Á⟩<|Å ŭ (oS<|n%16).toNat)): ä À Ls (Exit.then K<|QE 0 X) (Eh i n ((b+1:Nat):Int) u) w:=by
 unfold Eh;conv=>arg 2;whnf
 have l:bits BinOp.and ç (n:Int) 15=((n%16:Nat):Int):=by have:=(bits_nat ç 64 A (λn f H=>by rw[Ĉ];omega) n 15 Z A).1;rwa[show(15:Nat)=2^4-1 from rfl,Nat.and_two_pow_sub_one_eq_mod]at this
 have f:n%16<36:=Z
 have m:(⟨#[48,49,50,51,52,53,54,55,56,57,97,98,99,100,101,102,103,104,105,106,107,108,109,110,111,112,113,114,115,116,117,118,119,120,121,122]⟩:ByteArray)[n%16]'f=oS (n%16):=by unfold oS;rw[dif_pos f]
 have H:=e7 e;clear e;generalize o:n%16=d at*;go_wp2_with fail;exact H.out _ (gk _)
def XI(i:Nat)(u:Í)(d:List UInt8)(a:Ċ)(w:Í):Prop:=
 ∃(n b:Nat) (c:List UInt8),Ei i n b a/\50<=b/\b+c.length=65/\n<16^(b-49)/\n<18446744073709551616/\eZ (λk=>k=i) u w/\fc i (zc b c) 292 w/\ua (b-49) n c=d
def XE(i:Nat)(u:Í)(d:List UInt8)(a:Ċ)(w:Í):Prop:=
 ∃(n b:Nat) (c:List UInt8),Ei i n b a/\n<16/\50<=b/\b+c.length=65/\eZ (λk=>k=i) u w/\fc i (zc b c) 292 w/\oS n::c=d
def Lt(a:Ċ)(_:Í):Nat:=match a.tmps.getD 1 Ï with
 |Å _ i=>i.toNat
 |_=>0
def D_(b:Ei i n j y):Lt y w=n:=by obtain⟨u,rfl⟩:=b;show(n:Int).toNat=_;simp
theorem anH{h:List UInt8}(a:Ċ)(w:Í)(o:XI i u h a w): ä À Ls (Exit.then (λb c=>XI i u h b c/\Lt b c<Lt a w)<|QE 0<|XE i u h) a w:=by
 let⟨n,b,f,l,p,r,s,t,m,e,d⟩:=o;rw[D_ l];obtain⟨c,rfl⟩:=l;obtain⟨j,rfl⟩:∃j,b=j+1:=⟨b-1,Z⟩;have x:j+1-49=(j-49)+1:=Z
 rw[x]at d s;unfold ua at d;by_cases g:n<16
 .rw[if_pos g]at d;exact anF c n (j+1) g λa q=>⟨n,j+1,f,q,g,p,r,m,e,d⟩
 .rw[if_neg g]at d;have y:50<=j:=by
   grind
  have C:(zc (j+1) f).length=65:=by rw[C_];omega
  obtain⟨v,z⟩:∃v,(zc (j+1) f)[j]?=Â v:=⟨_,Ô Z⟩;have B:n/16<16^(j-49):=by grind
  refine anG c n j Z t Z v (e.r j v z) (e.C j) λa q=>⟨⟨n/16,j,oS (n%16)::f,q,y,by simp;omega,B,Z,m.e8 (eZ.I (X:=λk=>k=i) U _<|Ð e.G),?_,d⟩,by rw[D_ q];omega⟩;have:=e.fW j<|Å ŭ (oS<|n%16).toNat;grind [C']
end
def anI:ý=(zc 65 []).toArray:=fj
def mT(n:Nat):ByteArray:=⟨(ua 16 n []).toArray⟩
theorem anJ(n:Nat)(l:n<18446744073709551616)(o:pN w):Ó À 190 #[Æ Á 0 0,Å ç n,Å É 16,î Ì,î Ì] w λe p=>e=È (ï #[Æ Á 0 0,Ä<|mT n])/\eZ e9 w p:=by
 have L:∀a,Ei w.heap.size n (65:Nat) a->ä À (Ň Ls) (QE 0<|XE w.heap.size (w.alloc<|Þ ý 292)<|ua 16 n []) a (w.alloc<|Þ ý 292):=λa r=>
  Η (XI w.heap.size (w.alloc<|Þ ý 292)<|ua 16 n []) Lt ⟨n,65,[],r,Z,U,by show n<16^16;omega,l,eZ.fO _ _,by rw[anI];exact fc.N w (zc 65 []) 292,U⟩ anH
 have H:=e7<|Ë o L;unfold mT;generalize ua 16 n []=res at*;go_enter Tryz.func190,Tryz.ntmps190;go_wp2_with (first
  |(go_at_call 200;refine anE.mono ?_;rintro e b ⟨rfl,c⟩;subst b)
  |(go_at_call 201;refine(tz (H.out.1.r kp)).mono ?_;rintro e b ⟨rfl,c⟩;subst b))
 refine Ĵ (Q:=QE 0<|XE w.heap.size (w.alloc<|Þ ý 292) res) ?_ (H.out.2 _ (gk _));rintro(_|_|_|_|_|_) a v hq;all_goals first|exact absurd hq id|skip
 obtain⟨rfl,m,i,c,s,E,F,G,x,b,d⟩:=hq;obtain⟨u,rfl⟩:=s;unfold Eh;obtain⟨j,rfl⟩:∃j,i=j+1:=⟨i-1,Z⟩;have I:(zc (j+1) c).length=65:=by rw[C_];omega
 obtain⟨z,y⟩:∃z,(zc (j+1) c)[j]?=Â z:=⟨_,Ô Z⟩;have J:=b.r j z y;have K:=b.C j;have M:(0:Int)<=(j:Int):=Z
 have N:(j:Int)<65:=Z
 have O:(j:Int)<=65:=Z
 have S:(0:Int)<=(m:Int):=Z
 have T:(m:Int)<36:=Z
 have f:m<36:=Z
 have V:(⟨#[48,49,50,51,52,53,54,55,56,57,97,98,99,100,101,102,103,104,105,106,107,108,109,110,111,112,113,114,115,116,117,118,119,120,121,122]⟩:ByteArray)[m]'f=oS m:=by unfold oS;rw[dif_pos f]
 have B:=(eZ.gB e9 w ý 292).C x λi C q=>by omega
 have g:=b.fW j<|Å ŭ (oS m).toNat;rw[C',d]at g;have D:eZ e9 w (v.setCell ⟨w.heap.size,j,Á⟩<|Å ŭ (oS m).toNat):=B.C (eZ.I (X:=λk=>k=w.heap.size) U _<|Ð b.G) λi C q=>by omega
 have W:res.length=65-j:=by rw[<-d];simp;omega
 have Y:(convert 107 9<|Æ (Â ⟨w.heap.size,j,Á⟩) (65-j)<|65-j).run À (v.setCell ⟨w.heap.size,j,Á⟩<|Å ŭ (oS m).toNat)=.ok (Ä ⟨res.toArray⟩) (v.setCell ⟨w.heap.size,j,Á⟩<|Å ŭ (oS m).toNat):=by have h:=run_convert_bytes_back (P:=À) (v.setCell ⟨w.heap.size,j,Á⟩<|Å ŭ (oS m).toNat) 107 9 5 ⟨w.heap.size,j,Á⟩ (65-j) res fj fj fj (λt k=>by rw[Addr.add_mid];apply g.r (j+t) _;unfold zc;rw[ģ fg];simp[Ù,Ô k]);grind
 have k:=e7 D;go_wp2;go_ret2;simp_all
def anK(n:Nat)(b:n<18446744073709551616)(c:pN w):Ó À 172 #[Å ç n,Å É 16] w λe a=>e=È (Ä<|mT n)/\eZ e9 w a:=by go_enter Tryz.func172,Tryz.ntmps172;go_wp2_with (go_at_call 190;refine(anJ n b c).mono ?_;rintro e a ⟨rfl,d⟩);go_ret;exact⟨U,d⟩
def anL(n:Nat)(b:n<18446744073709551616)(c:pN w):Ó À 157 #[Å ç n,Å É 16] w λe a=>e=È (Ä<|mT n)/\eZ e9 w a:=by go_enter Tryz.func157,Tryz.ntmps157;go_wp2_with (go_at_call 172;refine(anK n b c).mono ?_;rintro e a ⟨rfl,d⟩);go_ret;exact⟨U,d⟩
def anM(s:ByteArray)(w:Í)(h:s.data.toList.head?=Â 48):Ó À 175 #[Ä s,Ä ⟨#[48]⟩] w λe b=>e=È (î Î)/\b=w:=by
 have H:=Tryz.strings_HasPrefix s ⟨#[48]⟩ w;have e:Ž s.data.toList (ų ⟨#[48]⟩).toList=Î:=by
  generalize s.data.toList=l at h;cases l with
  |nil=>cases h
  |cons a r=>cases h;rfl
 rwa[e]at H
def anN(s:ByteArray)(w:Í)(h:¬s.data.toList.head?=Â 48):Ó À 175 #[Ä s,Ä ⟨#[48]⟩] w λe b=>e=È (î Ì)/\b=w:=by
 have H:=Tryz.strings_HasPrefix s ⟨#[48]⟩ w;have e:Ž s.data.toList (ų ⟨#[48]⟩).toList=Ì:=by
  generalize s.data.toList=l at h;cases l with
  |nil=>rfl
  |cons a r=>
   have c:¬a=48:=λq=>h (by rw[q];rfl);show((48:UInt8)==a&&List.isPrefixOf [] r)=Ì;have:((48:UInt8)==a)=Ì:=beq_eq_false_iff_ne.2 λq=>c q.symm;rw[this];rfl
 rwa[e]at H
def zg(k:Nat):ByteArray:=ω ⟨#[48,48,48,48,48,48,48,48,48,48,48,48,48,48,48,48,48,48,48,48,48,48,48,48,48,48,48,48,48,48,48,48,48,48,48,48,48,48,48,48,48,48,48,48,48,48,48,48,48,48,48,48,48,48,48,48,48,48,48,48,48,48,48,48]⟩ 0 k
def anO(k:Nat)(d:2<=k)(f:k<=64):Ó À 160 #[Ä ⟨#[48]⟩,Å É k] w λe a=>e=È (Ä<|zg k)/\a=w:=by
 have g:((k:Int)==0)=Ì:=by simp;omega
 have h:((k:Int)==1)=Ì:=by simp;omega
 have i:¬(k:Int)<0:=Z
 have j:(0:Int)<=(k:Int):=Z
 have l:(k:Int)<=64:=Z
 have m:ç.wrap (k:Int)=(k:Int):=by rw[Ĉ];omega
 have n:É.wrap (k:Int)=(k:Int):=by rw[š];omega
 have M:=Tryz.bits_Mul 1 k A Z w;rw[show 1*k/18446744073709551616=0 by omega,show 1*k%18446744073709551616=k by omega]at M;have c:=e7 M;go_enter ŕ,ō;go_wp2_with (first
  |(go_at_call 174;refine c.out.mono ?_;rintro e a ⟨rfl,b⟩;subst a)
  |(go_at_call 175;refine(anN _ _ A).mono ?_;rintro e a ⟨rfl,b⟩;subst a)
  |(go_at_call 175;refine(anM _ _ A).mono ?_;rintro e a ⟨rfl,b⟩;subst a))
 go_ret;exact⟨U,U⟩
def anP:Ó À 160 #[Ä ⟨#[48]⟩,Å É 0] w λe a=>e=È (Ä ⟨#[]⟩)/\a=w:=by go_enter ŕ,ō;go_wp2;go_ret;exact⟨U,U⟩
def anQ:Ó À 160 #[Ä ⟨#[48]⟩,Å É 1] w λe a=>e=È (Ä ⟨#[48]⟩)/\a=w:=by go_enter ŕ,ō;go_wp2;go_ret;exact⟨U,U⟩
def anR(k:Nat)(a:k<=64):Ó À 160 #[Ä ⟨#[48]⟩,Å É k] w λe b=>e=È (Ä<|zg k)/\b=w:=by
 match k with
 |0=>exact anP
 |1=>exact anQ
 |k+2=>exact anO (k+2) Z a
def Lu(n:Nat):ByteArray:=zg (16-(mT n).size)++mT n
def D'(n:Nat):(mT n).size<=16:=by show(ua 16 n []).toArray.size<=16;have:=B' 16 n [];simpa using this
def E_(k:Nat):(zg k).size<=k:=by unfold zg;rw[Đ];omega
def anS(n:Nat)(c:n<18446744073709551616)(d:pN w):Ó À 121 #[Å ç n] w λe a=>e=È (Ä<|Lu n)/\eZ e9 w a:=by
 have g:=D' n;have h:=E_<|16-(mT n).size;have T:=anL n c d;have R:∀W:Í,Ó À 160 #[Ä ⟨#[48]⟩,Å É ((16-(mT n).size:Nat):Int)] W λe a=>e=È (Ä<|zg<|16-(mT n).size)/\a=W:=λW=>anR _ Z;have i:É.wrap ((16:Int)-((mT n).size:Int))=((16-(mT n).size:Nat):Int):=by rw[š];omega
 have j:(16:Int)-((mT n).size:Int)=((16-(mT n).size:Nat):Int):=Z
 have l:¬9223372036854775807<(zg<|16-(mT n).size).size+(mT n).size:=Z
 unfold Lu;have H:=e7<|Ë T R;generalize m:zg (16-(mT n).size)=zs at*;generalize o:16-(mT n).size=k at*;generalize mT n=fs at*;go_enter Tryz.func121,Tryz.ntmps121;go_wp2_with (first
  |(go_at_call 157;refine H.out.1.mono ?_;rintro e p ⟨rfl,b⟩;have f:=e7 b;clear b)
  |(go_at_call 160;refine(H.out.2 _).mono ?_;rintro e b ⟨rfl,p⟩;subst b))
 go_ret;exact⟨U,f.out⟩
structure oT(r:Nat)(x y g k:Nat)(kind v v2:Int)(slot:Nat)(w:Í):Prop where
 I:w.cell? ⟨r,0,Á⟩=Â (Å É x)
 S:w.cell? ⟨r,1,Á⟩=Â (Å É y)
 a:w.cell? ⟨r,2,Á⟩=Â (Å É g)
 Y:w.cell? ⟨r,3,Á⟩=Â (Å É k)
 N:w.cell? ⟨r,4,Á⟩=Â (Å É kind)
 M:w.cell? ⟨r,5,Á⟩=Â (Å É v)
 c:w.cell? ⟨r,6,Á⟩=Â (Å É v2)
 b:w.cell? ⟨r,7,Á⟩=Â (Å É slot)
def gW.N(h:gW u v vX W)(k:eZ e9 w u):gW w v vX W:=by
 refine⟨⟨h.fh.1,?_⟩,k.e8 h.r⟩;rcases h.fh.2 with q|⟨g,a,b,c,d,q⟩
 .exact Ç q
 .exact Ð ⟨g,a,b,c,Ê k.M d,q⟩
section
variable{cp r x y g slot:Nat}{v v2:Int}
def oT.C{w:Í}(h:oT r x y g k c v v2 slot w)(q:eZ e9 w u):oT r x y g k c v v2 slot u:= ⟨q.r h.I id,q.r h.S id,q.r h.a id,q.r h.Y id,q.r h.N id,q.r h.M id,q.r h.c id,q.r h.b id⟩
def anT(F:Ó À 113 #[Æ O n cp,Å É v] w λe b=>e=È (jH<|Â i)/\eZ e9 w b)(h:oT r x y g k 2 v v2 slot w)(p:x<8)(q:slot<16)(z:Nat)(j:w.cell? ⟨i,x*18+2+slot,Á⟩=Â (Å ç z)) (C:∀W,eZ e9 w W->Ó À 118 #[Å ç z] W λe b=>e=È (Ä B)/\eZ e9 W b): Ó À 67 #[Æ O n cp,Ã<|Â ⟨r,0,Á⟩] w λe b=>e=È (Ä B)/\eZ e9 w b:=by
 have s:=h.M;have m:=h.N;have t:(0:Int)<=(x:Int):=Z
 have u:(x:Int)<8:=Z
 have D:(0:Int)<=(slot:Int):=Z
 have E:(slot:Int)<16:=Z
 have H:=e7<|Ë F C;have d:=e7 h;clear F C h;go_enter ö,ñ;go_wp2_with (go_at_call 113;apply H.out.1.mono;rintro e f ⟨rfl,c⟩;dsimp only[jH,ó];have l:=c.r m id;have a:=e7 c;clear c);refine lM (λb=>b.cell? ⟨r,0,Á⟩=Â (Å É x)/\b.cell? ⟨r,7,Á⟩=Â (Å É slot)/\b.cell? ⟨i,x*18+2+slot,Á⟩=Â (Å ç z)) [] fj ?_;have o:=e7<|Ë ((d.out.C a.out).C<|eZ.fM e9 _).I<|Ë ((d.out.C a.out).C<|eZ.fM e9 _).b<|(a.out.e8<|eZ.fM _ _).r j id;iterate 17 apply tk o.out
 apply gq 17;intro K f;go_simp;go_at_call 118;refine(H.out.2 _<|a.out.e8<|eZ.fM _ _).mono ?_;rintro e G ⟨rfl,l⟩;have c:=e7 l;clear l;dsimp only;apply f.out _ _ λ_=>⟨(d.out.C<|(a.out.e8<|eZ.fM _ _).e8 c.out).I,(d.out.C<|(a.out.e8<|eZ.fM _ _).e8 c.out).b,(((a.out.e8<|eZ.fM _ _).e8 c.out).r j id)⟩;clear f K;apply gq 18;intro K f;go_simp;apply f.out _ _ λ_=>⟨(d.out.C<|(a.out.e8<|eZ.fM _ _).e8 c.out).I,(d.out.C<|(a.out.e8<|eZ.fM _ _).e8 c.out).b,(((a.out.e8<|eZ.fM _ _).e8 c.out).r j id)⟩;clear f K;try simp only[Act.put,ì,ÿ,Ā]
 refine ly fj ?_ _;go_wp2_with fail;go_ret;exact⟨U,(a.out.e8<|eZ.fM _ _).e8 c.out⟩
def anU(F:Ó À 113 #[Æ O n cp,Å É v] w λe a=>e=È (jH<|Â i)/\eZ e9 w a)(f:oT r x y g k 3 v v2 slot w)(p:x<8)(z:Nat)(h:w.cell? ⟨i,x*18,Á⟩=Â (Å ç z)) (C:∀W,eZ e9 w W->Ó À 118 #[Å ç z] W λe a=>e=È (Ä B)/\eZ e9 W a): Ó À 67 #[Æ O n cp,Ã<|Â ⟨r,0,Á⟩] w λe a=>e=È (Ä B)/\eZ e9 w a:=by
 have q:=f.M;have m:=f.N;have s:(0:Int)<=(x:Int):=Z
 have t:(x:Int)<8:=Z
 have H:=e7<|Ë F C;have j:=e7 f;clear F C f;go_enter ö,ñ;go_wp2_with (go_at_call 113;apply H.out.1.mono;rintro e d ⟨rfl,c⟩;dsimp only[jH,ó];have l:=c.r m id;have b:=e7 c;clear c);refine lM (λa=>a.cell? ⟨r,0,Á⟩=Â (Å É x)/\a.cell? ⟨i,x*18,Á⟩=Â (Å ç z)) [] fj ?_;have o:=e7<|Ë ((j.out.C b.out).C<|eZ.fM e9 _).I<|(b.out.e8<|eZ.fM _ _).r h id;iterate 12 apply tk o.out
 apply gq 12;intro K c;go_simp;go_at_call 118;refine(H.out.2 _<|b.out.e8<|eZ.fM _ _).mono ?_;rintro e u ⟨rfl,l⟩;have d:=e7 l;clear l;dsimp only;apply c.out _ _ λ_=>⟨(j.out.C<|(b.out.e8<|eZ.fM _ _).e8 d.out).I,(((b.out.e8<|eZ.fM _ _).e8 d.out).r h id)⟩;clear c K;apply gq 13;intro K c;go_simp;apply c.out _ _ λ_=>⟨(j.out.C<|(b.out.e8<|eZ.fM _ _).e8 d.out).I,(((b.out.e8<|eZ.fM _ _).e8 d.out).r h id)⟩;clear c K;try simp only[Act.put,ì,ÿ,Ā]
 refine ly fj ?_ _;go_wp2_with fail;go_ret;exact⟨U,(b.out.e8<|eZ.fM _ _).e8 d.out⟩
def anV(F:Ó À 113 #[Æ O n cp,Å É v] w λe c=>e=È (jH<|Â i)/\eZ e9 w c)(h:oT r x y g k 4 v v2 slot w)(o:g<=400)(p:k<18446744073709551616) (C:∀W,eZ e9 w W->Ó À 119 #[Ã<|Â ⟨i,0,Á⟩,Å É x,Å É y,Å ç g,Å ç k] W λe c=>e=È (Ä B)/\eZ e9 W c): Ó À 67 #[Æ O n cp,Ã<|Â ⟨r,0,Á⟩] w λe c=>e=È (Ä B)/\eZ e9 w c:=by
 have q:=h.M;have l:=h.N;have s:ç.wrap (k:Int)=(k:Int):=by rw[Ĉ];omega
 have t:ç.wrap (g:Int)=(g:Int):=by rw[Ĉ];omega
 have u:¬(400:Int)<(g:Int):=Z
 have z:(g:Int)<=400:=Z
 have H:=e7<|Ë F C;have b:=e7 h;clear F C h;go_enter ö,ñ;go_wp2_with (go_at_call 113;apply H.out.1.mono;rintro e f ⟨rfl,d⟩;dsimp only[jH,ó];have j:=d.r l id;have m:=d.r b.out.a id;have a:=e7 d;clear d);refine lM (λc=>c.cell? ⟨r,0,Á⟩=Â (Å É x)/\c.cell? ⟨r,1,Á⟩=Â (Å É y)/\c.cell? ⟨r,2,Á⟩=Â (Å É g)/\c.cell? ⟨r,3,Á⟩=Â (Å É k)) [] fj ?_;have m:=e7<|Ë ((b.out.C a.out).C<|eZ.fM e9 _).I<|Ë ((b.out.C a.out).C<|eZ.fM e9 _).S<|Ë ((b.out.C a.out).C<|eZ.fM e9 _).a ((b.out.C a.out).C<|eZ.fM e9 _).Y;iterate 23 apply tk m.out
 apply gq 23;intro K f;go_simp;go_at_call 119;refine(H.out.2 _<|a.out.e8<|eZ.fM _ _).mono ?_;rintro e D ⟨rfl,j⟩;have d:=e7 j;clear j;dsimp only;apply f.out _ _ λ_=>⟨(b.out.C<|(a.out.e8<|eZ.fM _ _).e8 d.out).I,(b.out.C<|(a.out.e8<|eZ.fM _ _).e8 d.out).S,(b.out.C<|(a.out.e8<|eZ.fM _ _).e8 d.out).a,(b.out.C<|(a.out.e8<|eZ.fM _ _).e8 d.out).Y⟩;clear f K;apply gq 24;intro K f;go_simp;apply f.out _ _ λ_=>⟨(b.out.C<|(a.out.e8<|eZ.fM _ _).e8 d.out).I,(b.out.C<|(a.out.e8<|eZ.fM _ _).e8 d.out).S,(b.out.C<|(a.out.e8<|eZ.fM _ _).e8 d.out).a,(b.out.C<|(a.out.e8<|eZ.fM _ _).e8 d.out).Y⟩;clear f K;try simp only[Act.put,ì,ÿ,Ā]
 refine ly fj ?_ _;go_wp2_with fail;go_ret;exact⟨U,(a.out.e8<|eZ.fM _ _).e8 d.out⟩
def anW(F:Ó À 113 #[Æ O n cp,Å É v] w λe b=>e=È (jH<|Â i)/\eZ e9 w b)(h:oT r x y g k 5 v v2 slot w)(o:k<18446744073709551616) (C:∀W,eZ e9 w W->Ó À 120 #[Ã<|Â ⟨i,0,Á⟩,Å É x,Å É y,Å ç k] W λe b=>e=È (Ä B)/\eZ e9 W b): Ó À 67 #[Æ O n cp,Ã<|Â ⟨r,0,Á⟩] w λe b=>e=È (Ä B)/\eZ e9 w b:=by
 have p:=h.M;have l:=h.N;have q:ç.wrap (k:Int)=(k:Int):=by rw[Ĉ];omega
 have H:=e7<|Ë F C;have c:=e7 h;clear F C h;go_enter ö,ñ;go_wp2_with (go_at_call 113;apply H.out.1.mono;rintro e f ⟨rfl,d⟩;dsimp only[jH,ó];have j:=d.r l id;have a:=e7 d;clear d);refine lM (λb=>b.cell? ⟨r,0,Á⟩=Â (Å É x)/\b.cell? ⟨r,1,Á⟩=Â (Å É y)/\b.cell? ⟨r,3,Á⟩=Â (Å É k)) [] fj ?_;have m:=e7<|Ë ((c.out.C a.out).C<|eZ.fM e9 _).I<|Ë ((c.out.C a.out).C<|eZ.fM e9 _).S ((c.out.C a.out).C<|eZ.fM e9 _).Y;iterate 17 apply tk m.out
 apply gq 17;intro K f;go_simp;go_at_call 120;refine(H.out.2 _<|a.out.e8<|eZ.fM _ _).mono ?_;rintro e s ⟨rfl,j⟩;have d:=e7 j;clear j;dsimp only;apply f.out _ _ λ_=>⟨(c.out.C<|(a.out.e8<|eZ.fM _ _).e8 d.out).I,(c.out.C<|(a.out.e8<|eZ.fM _ _).e8 d.out).S,(c.out.C<|(a.out.e8<|eZ.fM _ _).e8 d.out).Y⟩;clear f K;apply gq 18;intro K f;go_simp;apply f.out _ _ λ_=>⟨(c.out.C<|(a.out.e8<|eZ.fM _ _).e8 d.out).I,(c.out.C<|(a.out.e8<|eZ.fM _ _).e8 d.out).S,(c.out.C<|(a.out.e8<|eZ.fM _ _).e8 d.out).Y⟩;clear f K;try simp only[Act.put,ì,ÿ,Ā]
 refine ly fj ?_ _;go_wp2_with fail;go_ret;exact⟨U,(a.out.e8<|eZ.fM _ _).e8 d.out⟩
def anX(F:Ó À 113 #[Æ O n cp,Å É v] w λe a=>e=È (jH<|Â i)/\eZ e9 w a)(b:oT r x y g k 6 v v2 slot w)(z:Nat)(C:∀W,eZ e9 w W->Ó À 122 #[Ã<|Â ⟨i,0,Á⟩] W λe a=>e=È (Å ç z)/\eZ e9 W a)(d:∀W,eZ e9 w W->Ó À 121 #[Å ç z] W λe a=>e=È (Ä B)/\eZ e9 W a): Ó À 67 #[Æ O n cp,Ã<|Â ⟨r,0,Á⟩] w λe a=>e=È (Ä B)/\eZ e9 w a:=by
 have m:=b.M;have j:=b.N;have l:=e7 d;clear d;have H:=e7<|Ë F C;have o:=e7 b;clear F C b;go_enter ö,ñ;go_wp2_with (first
  |(go_at_call 113;refine H.out.1.mono ?_;rintro e h ⟨rfl,c⟩;dsimp only[jH,ó];have p:=c.r j id;have f:=e7 c;clear c)
  |(go_at_call 122;refine(H.out.2 _ f.out).mono ?_;rintro e p ⟨rfl,c⟩;have h:=e7<|f.out.e8 c;clear c)
  |(go_at_call 121;refine(l.out _ h.out).mono ?_;rintro e p ⟨rfl,c⟩;have f:=e7 (h.out.e8 c);clear c))
 go_ret;exact⟨U,f.out⟩
def anY(F:Ó À 113 #[Æ O n cp,Å É v] w λe b=>e=È (jH<|Â i)/\eZ e9 w b)(d:oT r x y g k 7 v v2 slot w)(l:Option û)(o p:Nat)(u:w.cell? ⟨i,144,Á⟩=Â (Æ l o p))(f:List ByteArray)(C:∀W,eZ e9 w W->Ó À 124 #[Æ l o p] W λe b=>∃j,e=È j/\gW W j f b)(q:∀W a m c,gW w (Æ a m c) f W->Ó À 123 #[Æ a m c] W λe b=>e=È (Ä B)/\eZ e9 W b): Ó À 67 #[Æ O n cp,Ã<|Â ⟨r,0,Á⟩] w λe b=>e=È (Ä B)/\eZ e9 w b:=by
 have J:=d.M;have z:=d.N;have D:=e7 q;clear q;have H:=e7<|Ë F C;have K:=e7 d;clear F C d;go_enter ö,ñ;go_wp2_with (first
  |(go_at_call 113;refine H.out.1.mono ?_;rintro e t ⟨rfl,h⟩;dsimp only[jH,ó];have E:=h.r z id;have G:=h.r u id;have s:=e7 h;clear h)
  |(go_at_call 124;refine(H.out.2 _ s.out).mono ?_;rintro e E ⟨j,rfl,h⟩;obtain⟨G,I,rfl⟩:=jx h.fh;generalize f.length=tn at h|-;have t:=e7 (show gW w (Æ G tn I) f E from h.N s.out);clear h)
  |(go_at_call 123;refine(D.out _ _ _ _ t.out).mono ?_;rintro e E ⟨rfl,h⟩;have s:=e7 (t.out.r.e8 h);clear h))
 go_ret;exact⟨U,s.out⟩
def anZ(F:Ó À 113 #[Æ O n cp,Å É v] w λe b=>e=È (jH<|Â i)/\eZ e9 w b)(d:oT r x y g k 8 v v2 slot w)(l:Option û)(o p:Nat)(u:w.cell? ⟨i,146,Á⟩=Â (Æ l o p))(f:List ByteArray)(C:∀W,eZ e9 w W->Ó À 125 #[Æ l o p] W λe b=>∃j,e=È j/\gW W j f b)(q:∀W a m c,gW w (Æ a m c) f W->Ó À 123 #[Æ a m c] W λe b=>e=È (Ä B)/\eZ e9 W b): Ó À 67 #[Æ O n cp,Ã<|Â ⟨r,0,Á⟩] w λe b=>e=È (Ä B)/\eZ e9 w b:=by
 have J:=d.M;have z:=d.N;have D:=e7 q;clear q;have H:=e7<|Ë F C;have K:=e7 d;clear F C d;go_enter ö,ñ;go_wp2_with (first
  |(go_at_call 113;refine H.out.1.mono ?_;rintro e t ⟨rfl,h⟩;dsimp only[jH,ó];have E:=h.r z id;have G:=h.r u id;have s:=e7 h;clear h)
  |(go_at_call 125;refine(H.out.2 _ s.out).mono ?_;rintro e E ⟨j,rfl,h⟩;obtain⟨G,I,rfl⟩:=jx h.fh;generalize f.length=tn at h|-;have t:=e7 (show gW w (Æ G tn I) f E from h.N s.out);clear h)
  |(go_at_call 123;refine(D.out _ _ _ _ t.out).mono ?_;rintro e E ⟨rfl,h⟩;have s:=e7 (t.out.r.e8 h);clear h))
 go_ret;exact⟨U,s.out⟩
def an0(F:Ó À 113 #[Æ O n cp,Å É v] w λe c=>e=È (jH<|Â i)/\eZ e9 w c)(a:oT r x y g k 4 v v2 slot w)(j:400<g)(C:B=oF 6): Ó À 67 #[Æ O n cp,Ã<|Â ⟨r,0,Á⟩] w λe c=>e=È (Ä B)/\eZ e9 w c:=by
 have l:=a.M;have d:=a.N;have m:(400:Int)<(g:Int):=Z
 have H:=e7<|Ë F C;have f:=e7 a;clear F C a;go_enter ö,ñ;go_wp2_with (first
  |(go_at_call 113;refine H.out.1.mono ?_;rintro e o ⟨rfl,b⟩;dsimp only[jH,ó];have p:=b.r d id;have q:=b.r f.out.a id;have h:=e7 b;clear b)
  |(go_at_call 114;refine(DR 6 A _).mono ?_;rintro e b ⟨rfl,o⟩;subst b))
 go_ret;exact⟨by rw[H.out.2];rfl,h.out⟩
def an1(F:Ó À 113 #[Æ O n cp,Å É v] w λe a=>e=È (jH<|Â i)/\eZ e9 w a)(b:oT r x y g k 9 v v2 slot w)(C:B=oF 3)(d:∀W,eZ e9 w W->Ó À 113 #[Æ O n cp,Å É v2] W λe a=>e=È (jH Á)/\eZ e9 W a): Ó À 67 #[Æ O n cp,Ã<|Â ⟨r,0,Á⟩] w λe a=>e=È (Ä B)/\eZ e9 w a:=by
 have p:=b.M;have j:=b.N;have l:=e7 d;clear d;have H:=e7<|Ë F C;have m:=e7 b;clear F C b;go_enter ö,ñ;go_wp2_with (first
  |(go_at_call 113;with_reducible refine H.out.1.mono ?_;rintro e h ⟨rfl,c⟩;dsimp only[jH,ó];have o:=c.r j id;have q:=c.r m.out.c id;have f:=e7 c;clear c)
  |(go_at_call 113;refine(l.out _ f.out).mono ?_;rintro e c ⟨rfl,h⟩;dsimp only[jH,ó];have o:=e7<|f.out.e8 h;clear h)
  |(go_at_call 114;refine(DR 3 A _).mono ?_;rintro e c ⟨rfl,h⟩;subst c))
 go_ret;exact⟨by rw[H.out.2];rfl,o.out⟩
def an2(F:Ó À 113 #[Æ O n cp,Å É v] w λe b=>e=È (jH<|Â i)/\eZ e9 w b)(f:oT r x y g k 9 v v2 slot w)(C:True)(p:∀W,eZ e9 w W->Ó À 113 #[Æ O n cp,Å É v2] W λe b=>e=È (jH<|Â j)/\eZ e9 W b)(l:List ByteArray)(q:∀W,eZ e9 w W->Ó À 126 #[Ã<|Â ⟨i,0,Á⟩,Ã<|Â ⟨j,0,Á⟩] W λe b=>∃o,e=È o/\gW W o l b)(s:∀W a m c,gW w (Æ a m c) l W->Ó À 123 #[Æ a m c] W λe b=>e=È (Ä B)/\eZ e9 W b): Ó À 67 #[Æ O n cp,Ã<|Â ⟨r,0,Á⟩] w λe b=>e=È (Ä B)/\eZ e9 w b:=by
 have L:=f.M;have D:=f.N;have E:=e7 p;have t:=e7<|Ë q s;clear p q s;have H:=e7<|Ë F C;have G:=e7 f;clear F C f;go_enter ö,ñ;go_wp2_with (first
  |(go_at_call 113;with_reducible refine H.out.1.mono ?_;rintro e u ⟨rfl,d⟩;dsimp only[jH,ó];have z:=d.r D id;have I:=d.r G.out.c id;have h:=e7 d;clear d)
  |(go_at_call 113;refine(E.out _ h.out).mono ?_;rintro e z ⟨rfl,d⟩;dsimp only[jH,ó];have u:=e7 (h.out.e8 d);clear d))
 apply lM (λb=>True/\True) [] fj;have I:=e7<|Ë trivial trivial;iterate 8 apply tk I.out
 apply gq 8;intro K d;go_simp;go_at_call 126;refine(t.out.1 _<|u.out.e8<|eZ.fM _ _).mono ?_;rintro e M ⟨o,rfl,h⟩;obtain⟨N,P,rfl⟩:=jx h.fh;generalize l.length=tn at h|-;have z:=e7<|h.N<|u.out.e8<|eZ.fM _ _;clear h;dsimp only;apply d.out _ _ λ_=>⟨trivial,trivial⟩;clear d K;apply gq 9;intro K d;go_simp;go_at_call 123;refine(t.out.2 _ _ _ _ z.out).mono ?_;rintro e Q ⟨rfl,u⟩;have J:=e7<|z.out.r.e8 u;clear u;dsimp only;apply d.out _ _ λ_=>⟨trivial,trivial⟩;clear d K;apply gq 10;intro K d;go_simp;apply d.out _ _ λ_=>⟨trivial,trivial⟩;clear d K;try simp only[Act.put,ì,ÿ,Ā]
 refine ly fj ?_ _;go_wp2_with fail;go_ret;exact⟨U,J.out⟩
def an3(F:Ó À 113 #[Æ O n cp,Å É v] w λe a=>e=È (jH Á)/\eZ e9 w a)(b:oT r x y g k h v v2 slot w): Ó À 67 #[Æ O n cp,Ã<|Â ⟨r,0,Á⟩] w λe a=>e=È (Ä<|oF 3)/\eZ e9 w a:=by
 have f:=b.M;have H:=e7 F;clear F b;go_enter ö,ñ;go_wp2_with (first
  |(go_at_call 113;refine H.out.mono ?_;rintro e i ⟨rfl,c⟩;dsimp only[jH,ó];have d:=e7 c;clear c)
  |(go_at_call 114;refine(DR 3 A _).mono ?_;rintro e c ⟨rfl,i⟩;subst c))
 go_ret;exact⟨U,d.out⟩
end
structure Qn where
 x:Nat
 y:Nat
 g:Nat
 k:Nat
 r:Int
 v:Int
 C:Int
 I:Nat
structure Qn.Ok(q:Qn):Prop where
 x:q.x<8
 y:q.y<8
 g:q.g<1000000
 k:q.k<18446744073709551616
 ar8:2<=q.r
 ar9:q.r<=9
 v:-1<=q.v
 v2:-1<=q.C
 asa:q.I<16
def Ej(a:List ByteArray):ByteArray:=if a=[]then⟨#[45]⟩else oy ⟨#[44]⟩ a
def Ek(a:List (Nat×fJ))(p:fJ)(q:Qn):ByteArray:=
 if q.r=2 then gG ((p.s q.x).C q.I).toNat
 else if q.r=3 then gG (p.s q.x).fp.toNat
 else if q.r=4 then if 400<q.g then oF 6 else Sy (fY p.s [] q.x q.y q.g q.k)
 else if q.r=5 then sG p.s q.x q.y q.k 0 401
 else if q.r=6 then Lu (D4 p.s)
 else if q.r=7 then Ej (p.r.map rJ)
 else if q.r=8 then Ej (p.C.map Ea)
 else match nS a q.C with
  |none=>oF 3
  |some b=>Ej<|qx p.s b.2.s 8
def xl(a:List (Nat×fJ))(q:Qn):ByteArray:=
 match nS a q.v with
 |none=>oF 3
 |some p=>Ek a p.2 q
def Sz{M:Nat}(b:∀z∈vX,z.size<=M)(d:M<=100)(f:vX.length<=400000)(h:gW w (Æ O m i) vX W): Ó À 123 #[Æ O m i] W λe g=>e=È (Ä<|Ej vX)/\eZ e9 W g:=by obtain⟨e,g,j⟩:=h.I;have k:=Eg vX b;have:M*vX.length<=100*400000:=Ŵ d f;exact anx g Z j e Z
def an4(s:St):D4 s<18446744073709551616:=by unfold D4 K6;exact R5 _ _<|Z5 λi=>Z8 _ _ _
theorem SA{b:ByteArray}(c:B.size<=1)(d:b.size<=1):(B++b).size<=2:=by grind
def F_(s t:St):∀z∈qx s t 8,z.size<=2:=λz a=>by
 unfold qx at a;obtain⟨i,_,h⟩:=Ţ.1 a;unfold ze xi at h;rcases æ.1 h with h|h
 .rcases æ.1 h with h|h
  .split at h
   .cases h
   .simp at h;subst h;exact SA (xj i)<|ê _
  .split at h
   .cases h
   .simp at h;subst h;exact SA (xj i)<|ê _
 .unfold qw at h;obtain⟨j,_,h⟩:=Ţ.1 h;unfold BM at h;split at h
  .cases h
  .simp at h;subst h;exact SA (xj i)<|q_ j
section
variable{cp:Nat}{vs:List (Nat×fJ)}{q:Qn}
def an5(u:pM O n vs w)(S:n<=1000)(T:0<n)(hvo:∀p∈vs,Sf p.2)(d:oT i q.x q.y q.g q.k q.r q.v q.C q.I w)(ok:q.Ok)(V:iD w)(o:lb w)(hd:pN w): Ó À 67 #[Æ O n cp,Ã<|Â ⟨i,0,Á⟩] w λe G=>e=È (Ä<|xl vs q)/\eZ e9 w G:=by
 have F:=La (cp:=cp) u S T q.v ok.v;unfold xl;cases B:nS vs q.v with
 |none=>
  rw[B]at F;exact an3 F d
 |some p=>
  rw[B]at F;have h:=F;have X:=Hp B;have f:=u.M X;have j:=hvo p X;obtain⟨x,y,g,k,kind,v,C,Y⟩:=q;obtain⟨r,H,hg,I,tP,tu,hv,Lv,J⟩:=ok;simp only at r H hg I tP tu hv Lv J d h B|-;obtain⟨cb,_,cs⟩:=f.r.gM r;have FB:fV (k:Int):=⟨Z,Z⟩;unfold Ek;simp only;split
  .rename_i e;subst e;have c:=cs Y J;have l:=f.C.C x Y;rw[<-ŉ l.1]at c;exact anT h d r J _ c λW b=>xh _ (by have:=l.1;have:=l.2;omega) W<|o.r b
  .split
   .rename_i e;subst e;have l:=f.C.fp x;rw[<-ŉ l.1]at cb;exact anU h d r _ cb λW b=>xh _ (by have:=l.1;have:=l.2;omega) W<|o.r b
   .split
    .rename_i e;subst e;split
     .rename_i hh;exact an0 h d hh U
     .exact anV h d Z I λW b=>anC (f.r.r b id) f.C (V.r b id) (o.r b) x y g k r H Z Z FB
    .split
     .rename_i e;subst e;exact anW h d I λW b=>amQ (f.r.r b id) f.C (V.r b id) (o.r b) r H FB
     .split
      .rename_i e;subst e;exact anX h d _ (λW b=>al9 (f.r.r b id) f.C) λW b=>anS _ (an4 _)<|hd.r b
      .split
       .rename_i e;subst e;obtain⟨K,L,M,N⟩:=f.N;exact anY h d K _ L M _ (λW b=>k_ U j.I j.C (o.r b)<|mS.C N b) λW a m c t=>Sz (λz P=>by obtain⟨e,D,rfl⟩:=Ý.1 P;exact Lr (j.C e D).2) Z (by rw[ü];exact j.I) t
       .split
        .rename_i e;subst e;obtain⟨K,L,M,N⟩:=f.S;exact anZ h d K _ L M _ (λW b=>amX U j.M j.r (o.r b)<|mS.C N b) λW a m c t=>Sz (λz P=>by obtain⟨e,D,rfl⟩:=Ý.1 P;exact A' (j.r e D).1 (j.r e D).2) Z (by rw[ü];have:=j.M;omega) t
        .have e:kind=9:=Z
         subst e;have E:∀W,eZ e9 w W->Ó À 113 #[Æ O n cp,Å É C] W λe G=>e=È (jH ((nS vs C).map (·.1)))/\eZ e9 W G:=λW b=>La (u.I b) S T C Lv;cases Q:nS vs C with
         |none=>
          rw[Q]at E;exact an1 h d U E
         |some p2=>
          rw[Q]at E;exact an2 h d trivial E _ (λW b=>am9 (f.r.r b id)<|(u.M<|Hp Q).r.r b id) λW a m c t=>Sz (F_ _ _) Z (by have:=So p.2.s p2.2.s 8;omega) t
end
end Go.Proofs.Y.iy
namespace Go.Proofs.Y.nA
open Go Go.Proofs Go.RowKit Go.Proofs.Y.Lift Go.Proofs.Y.iy
def j0(a:List (Nat×fJ)):List fJ:=a.map (·.2)
def F'(d:fJ)(l:List fJ):fJ:=l.foldl (λa b=>if a.h<b.h then b else a) d
theorem G_:∀(a:List (Nat×fJ)) (d:Nat×fJ),(tW d a).2=F' d.2 (j0 a)
 |[],_=>rfl
 |x::r,d=>by show(tW (yW d x) r).2=F' (if d.2.h<x.2.h then x.2 else d.2) (j0 r);rw[G_ r];unfold yW;split<;>rfl
theorem SB{a b:List (Nat×fJ)}(h:j0 a=j0 b)(v:Int):(nS a v).map (·.2)=(nS b v).map (·.2):=by
 have c:∀i:Nat,(a[i]?).map (·.2)=(b[i]?).map (·.2):=λi=>by have:=congrArg (λl:List fJ=>l[i]?) h;simpa[j0]using this
 unfold nS;grind [G_]
theorem an6{a b:List (Nat×fJ)}(h:j0 a=j0 b):a.length=b.length:=by have:=congrArg List.length h;simpa[j0]using this
theorem H_{a b:List (Nat×fJ)}(h:j0 a=j0 b)(v:Int)(x:Nat)(c:List Tx):tX a v x c=tX b v x c:=by have d:=SB h v;unfold tX;grind [an6]
theorem an7{a b:List (Nat×fJ)}(h:j0 a=j0 b)(q:Qn):xl a q=xl b q:=by
 have c:=SB h q.v;have d:=SB h q.C;have e:∀p:fJ,Ek a p q=Ek b p q:=λp=>by unfold Ek;grind
 unfold xl;grind
structure lC(s:List fJ):Prop where
 I:0<s.length
 C:s.length<=40
 r:∀v∈s,Sf v/\gC v.s/\0<=v.h/\v.h<s.length
def sI(a:List (Nat×fJ))(v:Int)(x:Nat)(b:List Tx):List fJ:=j0 a++(tX a v x b).1.toList
def lC.M{f:List (Nat×fJ)}(h:lC (j0 f)){g:List Tx}(k:∀t∈g,t.Ok)(m:g.length<=1000):lC (sI f c i g):=by
 unfold nA.sI;have B:(j0 f).length=f.length:=by simp[j0]
 unfold tX;cases n:nS f c with
 |none=>simpa using h
 |some p=>
  have o:p.2∈j0 f:=Ý.2 ⟨p,Hp n,U⟩;let⟨C,l,D,E⟩:=h.r _ o;simp only;split
  .simpa using h
  .rename_i F;cases j:xf i p.2.s g with
   |none=>simpa using h
   |some r=>
    simp only[Option.toList];have G:=h.C;have w:gC r.1:=by unfold xf at j;obtain⟨H,y,rfl⟩:=õ.1 j;exact(Sg g k l (λ_ q=>by cases q) (λ_ q=>by cases q) (by simp;omega) (by simp;omega) y).1.r i<|yM _
    refine⟨fg,by simp;omega,λu z=> ?_⟩;rcases æ.1 z with q|q
    .let⟨a,b,e,d⟩:=h.r u q;refine⟨a,b,e,?_⟩;rw[Ü];simp;omega
    .simp at q;subst q;refine⟨amE k l m j,w,by show 0<=p.2.h+1;omega,?_⟩;rw[Ü];show p.2.h+1<_;simp;omega
def iO(Y:fi)(u w:Í):Prop:=∀(i j o:Nat) (v:Ñ),Y i j->u.cell? ⟨i,o,Á⟩=Â v->∃a,w.cell? ⟨j,o,Á⟩=Â a/\ff Y v a
section
variable{Y:fi}
theorem an8{k:IntKind}(h:ff Y (Å k c) v):v=Å k c:=by cases h;rfl
theorem an9(h:ff Y (Ä B) v):v=Ä B:=by cases h;rfl
theorem Lw(h:ff Y (Ã<|Â a) v):∃b,v=Ã (Â b)/\gS Y a b:=by
 cases h with
 |jD q=>exact⟨_,U,q⟩
def Lx(h:ff Y (Æ O n i) v):∃b,v=Æ b n i/\∀a,O=Â a->∃d,b=Â d/\gS Y a d:=by
 cases h with
 |nG=>exact⟨Á,U,λa q=>by cases q⟩
 |ku q=>exact⟨_,U,λa e=>by cases e;exact⟨_,U,q⟩⟩
theorem aoa(a:jY v=Î)(h:ff Y v x):x=v:=by cases h<;>first|rfl|(simp[jY]at a;done)
theorem zh(h:gS Y ⟨b,i,Á⟩ a):∃c,a=⟨c,i,Á⟩/\Y b c:=by let⟨d,e,f⟩:=h;let⟨c,g,j⟩:=a;grind
theorem iO.r(a:iO Y u w){k:IntKind}(h:Y i j)(d:u.cell? ⟨i,b,Á⟩=Â (Å k c)):w.cell? ⟨j,b,Á⟩=Â (Å k c):=by let⟨e,f,g⟩:=a i j b _ h d;grind [an8]
theorem iO.C(a:iO Y u w)(h:Y i j)(b:u.cell? ⟨i,n,Á⟩=Â (Ä B)):w.cell? ⟨j,n,Á⟩=Â (Ä B):=by let⟨c,d,e⟩:=a i j n _ h b;grind [an9]
theorem iO.aob(a:iO Y u w)(c:jY v=Î)(h:Y i j)(b:u.cell? ⟨i,n,Á⟩=Â v):w.cell? ⟨j,n,Á⟩=Â v:=by let⟨d,e,f⟩:=a i j n _ h b;grind [aoa]
def SC(s:iy.St):∀v∈ic s,(∃n,v=Å ç n)\/∃p,v=Ä p:=λv n=>by
 unfold ic at n;obtain⟨i,_,rfl⟩:=Ý.1 n;unfold pF pE;split
 .exact Ç ⟨_,U⟩
 .split
  .exact Ð ⟨_,U⟩
  .exact Ç ⟨_,U⟩
def aoc(a:iO Y u w){s:iy.St}(c:Y b i)(d:lO b s h u):lO i s h w:=by
 refine⟨λj v e=> ?_,a.r c d.h⟩;have f:=d.C j v e;rcases SC s v (ë e)with⟨n,rfl⟩|⟨p,rfl⟩
 .exact a.r c f
 .exact a.C c f
def I_(a:iO Y u w)(f:Y b i)(g:∀v∈l,jY v=Î)(h:yV ⟨b,j,Á⟩ n l u):yV ⟨i,j,Á⟩ n l w:=by let⟨p,c,k,m⟩:=h;let⟨G,q,r⟩:=a b i j _ f k;obtain⟨s,rfl,t⟩:=Lx r;refine⟨s,c,q,λd x e=> ?_⟩;let⟨H,y,z,B⟩:=m d x e;let⟨I,C,D⟩:=t _ z;obtain⟨E,rfl,F⟩:=zh D;exact⟨E,y,C,a.aob (g x<|ë e) F B⟩
def aod(a:iO Y u w){v:fJ}(c:Y b i)(h:rH b v u):rH i v w:= ⟨aoc a c h.r,h.C,h.I,h.M,I_ a c (YZ _) h.N,I_ a c (ZE _) h.S⟩
def vu{α β:Type}{R:Nat->α->β->Prop}:∀(l:List α) (k:Nat),(∀j x,l[j]?=Â x->∃y,R (k+j) x y)->∃a:List β,a.length=l.length/\∀j y,a[j]?=Â y->∃x,l[j]?=Â x/\R (k+j) x y
 |[],_,_=>⟨[],U,λj y h=>by simp at h⟩
 |x::r,k,h=>by
  let⟨y,c⟩:=h 0 x U;obtain⟨a,d,e⟩:=vu r (k+1) λj z b=>by let⟨q,f⟩:=h (j+1) z b;exact⟨q,by rwa[show k+1+j=k+(j+1) by omega]⟩
  refine⟨y::a,by simp[d],λj z b=> ?_⟩;cases j with
  |zero=>cases b;exact⟨x,U,c⟩
  |succ j=>
   let⟨q,f,g⟩:=e j z b;exact⟨q,f,by rwa[show k+(j+1)=k+1+j by omega]⟩
theorem Ht(a:iO Y u w){e:List (Nat×fJ)}(i:ff Y z jQ)(h:Lb z e u):∃c,j0 c=j0 e/\Lb jQ c w:=by
 obtain⟨J,n,k,rfl,l,f⟩:=h;obtain⟨g,rfl,m⟩:=Lx i;let⟨c,o,K⟩:=vu (R:=λj (x y:Nat×fJ)=>x.2=y.2/\∃q d,g=Â ⟨q,d,Á⟩/\w.cell? ⟨q,d+j,Á⟩=Â (Ã<|Â ⟨y.1,0,Á⟩)/\rH y.1 y.2 w) e 0 λj x p=>by let⟨b,v⟩:=x;let⟨q,d,r,s,t⟩:=f.C j b v p;let⟨L,B,C⟩:=m _ r;obtain⟨y,rfl,D⟩:=zh C;let⟨M,E,F⟩:=a q y _ _ D s;obtain⟨N,rfl,G⟩:=Lw F;obtain⟨H,rfl,I⟩:=zh G;exact⟨(H,v),U,y,d,B,by rwa[Ŗ],aod a I t⟩
 refine⟨c,?_,g,n,k,U,l,⟨by rw[o];exact f.r,λj b v q=> ?_⟩⟩
 .refine ŗ λj=> ?_;unfold j0;grind
 .grind
end
def kN(a:Nat->Prop)(B:Nat):fi:=⟨λi j=>i=j/\a i,B⟩
def aoe(a:Nat->Prop)(B:Nat):Bi (kN a B):= ⟨λ_ _ _ h k=>h.1.symm.trans k.1,λ_ _ _ h k=>h.1.trans k.1.symm,λi j h=>by rw[h.1]⟩
def zi{V:Nat->Prop}{B:Nat}(h:∀i,X i->V i):(kN X B).r (kN V B):=⟨λ_ _ q=>⟨q.1,h _ q.2⟩,λ_=>aoe V B,U⟩
def kr(B:Nat)(a:Nat->Prop)(w:Í):Prop:=∀b,a b->∃c e d,w.heap[b]?=Â (Þ c e d)/\d.2<=c.size/\fL (kN a B) c c/\0<c.size/\B5 c/\e≠304/\e≠305
section
variable{B:Nat}{V:Nat->Prop}
def kr.I(h:kr B X w)(k:kr B V w):kr B (λb=>X b\/V b) w:=by
 rintro b (q|q)
 .let⟨c,e,a,d,f,g,i⟩:=h b q;exact⟨c,e,a,d,f,g.I (zi λ_=>Ç),i⟩
 .let⟨c,e,a,d,f,g,i⟩:=k b q;exact⟨c,e,a,d,f,g.I (zi λ_=>Ð),i⟩
def kr.C(h:kr B X w)(k:∀b,X b->u.heap[b]?=w.heap[b]?):kr B X u:=λb q=>by let⟨c,e,a,d,f⟩:=h b q;exact⟨c,e,a,by rwa[k b q],f⟩
theorem kr.r(h:kr B X w)(a:X b)(d:w.cell? ⟨b,i,Á⟩=Â v):ff (kN X B) v v:=by let⟨c,e,j,f,_,g,_⟩:=h b a;simp only[ã,f,ø,ð,if_false]at d;rcases g.S i with⟨q,_⟩|⟨x,k,l,m,n⟩;all_goals grind
def BO(h:ff (kN X B) (Ã<|Â a) v):X a.block:=by
 cases h with
 |jD q=>exact q.1.2
def BP(h:ff (kN X B) (Æ (Â a) n i) v):X a.block:=by
 cases h with
 |ku q=>exact q.1.2
def aof{Y:fi}(h:jY v=Î):ff Y v v:=by cases v<;>first|exact .lQ _|exact .iA _ _|(simp[jY]at h;done)
def oU{Y:fi}(h:∀v∈d.toList,ff Y v v):fL Y d d:=⟨U,λi a _=>h _<|ò.2<|Ć a⟩
def aog(h:jY v=Î):xA v=Ì:=by
 cases v with
 |int k n=>cases k<;>first|rfl|(simp[jY]at h;done)
 |_=>rfl
def zj(h:∀v∈d.toList,xA v=Ì):B5 d:=λk v a=>h v<|ò.2<|ĺ a
def Hu(v:Ñ)(i:Nat):Prop:=v.ownBlock=Â i
def Hv(X:Nat->Prop)(g b:Nat)(a c:Ñ)(i:Nat):Prop:=X i\/i=g\/i=b\/Hu a i\/Hu c i
def I'{G:Í}(a:lI T=Î)(h:sF v T u)(o:∀j,v.ownBlock=Â j->G.heap.size<=j)(p:rB G.heap.size u):∀i,Hu v i->∃c e f,u.heap[i]?=Â (Þ c e f)/\f.2<=c.size/\fL (kN V B) c c/\0<c.size/\B5 c/\e≠304/\e≠305:=λi b=>by
 rcases h with rfl|⟨g,n,c,k,rfl,l⟩
 .cases b
 .have e:g=i:=by unfold Hu at b;simpa[Value.ownBlock]using b
  subst e;let⟨r,m⟩:=p g k T (0,0) (o g U) l a;exact⟨k,T,(0,0),l,Ø _,oU λv d=>aof<|m v d,r,zj λv d=>aog<|m v d,(λq=>by rw[q]at a;cases a),(λq=>by rw[q]at a;cases a)⟩
def J_(h:sF v T u)(a:∀i,Hu v i->V i):ff (kN V B) v v:=by
 rcases h with rfl|⟨g,n,c,b,rfl,d⟩
 .exact .nG _ _
 .exact ff.ku (Y:=kN V B) ⟨⟨U,a g U⟩,U,U⟩ n c
theorem aoh{G:Í}(J:kr B X G)(k:eZ e9 G u)(K:∀i,X i->i<G.heap.size){l:List (Nat×fJ)}{s:iy.St}(o:Sb b s h G u)(r:R9 l b G u m)(L:∀p∈l,X p.1): ∃e,(∀i,X i->e i)/\e m/\kr B e u/\∀i,e i->X i\/G.heap.size<=i:=by
 have t:=k.Y _ λi c T w M y=>by rw[ĵ M]at y;cases y
 let⟨a,d,N,z,C,D,E⟩:=o.r;refine⟨Hv X m b a d,λi q=>Ç q,Ð<|Ç U,?_,?_⟩
 .rintro i (q|rfl|rfl|q|q)
  .let⟨c,e,w,n,x,f,j⟩:=J i q;exact⟨c,e,w,by rwa[k.N i (K i q) id],x,f.I (zi λ_=>Ç),j⟩
  .let⟨F,n,x,f⟩:=r.r;have H:∀v∈F.toList,v=Ã Á\/∃j,v=Ã (Â ⟨j,0,Á⟩)/\Hv X i b a d j:=λv e=>by
    rcases f v e with q|q|q
    .unfold rI at q;obtain⟨p,I,rfl⟩:=Ý.1 q;exact Ð ⟨_,U,Ç<|L p I⟩
    .exact Ð ⟨_,q,Ð<|Ð<|Ç U⟩
    .exact Ç q
   refine⟨F,136,(0,0),n,Ø _,oU λv e=> ?_,x,zj λv e=> ?_,A,A⟩
   .rcases H v e with rfl|⟨j,rfl,I⟩
    .exact .lj
    .exact .jD ⟨⟨U,I⟩,U,U⟩
   .rcases H v e with rfl|⟨j,rfl,I⟩<;>rfl
  .have f:∀v∈iY s a++[Å É h,d],ff (kN (Hv X m i a d) B) v v/\xA v=Ì:=λv e=>by
    rw[yS]at e;have I:=J_ (B:=B) (V:=Hv X m i a d) z λj q=>Ð<|Ð<|Ð<|Ç q;have F:=J_ (B:=B) (V:=Hv X m i a d) C λj q=>Ð<|Ð<|Ð<|Ð q;have H:∀{x:Ñ} {T:đ},sF x T u->xA x=Ì:=λ{x T} q=>by rcases q with rfl|⟨_,_,_,_,rfl,_⟩<;>rfl
    rcases æ.1 e with q|q
    .rcases æ.1 q with q|q
     .rcases SC s v q with⟨n,rfl⟩|⟨p,rfl⟩
      .exact⟨.iA _ _,U⟩
      .exact⟨.kD _,U⟩
     .grind
    .simp at q;rcases q with rfl|rfl
     .exact⟨.iA _ _,U⟩
     .grind
   exact⟨_,147,(0,0),N,Ø _,oU λv e=>(f v<|by simpa using e).1,by simp[ma],zj λv e=>(f v<|by simpa using e).2,A,A⟩
  .exact I' U z D t i q
  .exact I' U C E t i q
 .rintro i (q|rfl|rfl|q|q)
  .exact Ç q
  .exact Ð r.C
  .exact Ð o.C
  .exact Ð<|D i q
  .exact Ð<|E i q
def Ly{Y:fi}(h:ff Y v x):ff (kN X B) v v->ff (kN (λj=>∃i,X i/\Y i j) B) x x:=by
 induction h with
 |lQ b=>exact λ_=> .lQ b
 |iA k n=>exact λ_=> .iA k n
 |kD s=>exact λ_=> .kD s
 |lj=>exact λ_=> .lj
 |@jD a a' q=>exact λz=>ff.jD (Y:=kN (λj=>∃i,X i/\Y i j) B) ⟨⟨U,_,BO z,q.1⟩,U,U⟩
 |nG n c=>exact λ_=> .nG n c
 |@ku a a' q n c=>exact λz=>ff.ku (Y:=kN (λj=>∃i,X i/\Y i j) B) ⟨⟨U,_,BP z,q.1⟩,U,U⟩ n c
 |uu=>exact λ_=> .uu
 |fn f=>exact λ_=> .fn f
 |uw=>exact λ_=> .uw
 |uy=>exact λ_=> .uy
 |uz=>exact λ_=> .uz
 |xw t _ b=>exact λz=> .xw t (b (by cases z with|xw _ y=>exact y))
 |nV f _ b=>exact λz=> .nV U λi c _=>b i (by rwa[f]) c (by cases z with|nV _ y=>exact y i _ _)
 |mX f _ b=>exact λz=> .mX U λi c _=>b i (by rwa[f]) c (by cases z with|mX _ y=>exact y i _ _)
def aoi{Y:fi}(h:ff Y v x):xA x=xA v:=by cases h<;>rfl
theorem SF{Y:fi}{r:Nat->Prop}(h:iX Y r u w)(s:kr B X u):kr B (λj=>∃i,X i/\Y i j) w:=by
 rintro j ⟨i,t,x⟩;let⟨c,a,e,F,y,z,C,b,G,H,I⟩:=h.r i j x;let⟨d,J,pV,m,_,D,K,E,n,o⟩:=s i t;rw[z]at m;cases m;have L:=b.C.resolve_right λq=>q.2.1.elim n o;refine⟨a,e,y,C,?_,oU λv f=> ?_,Z,zj λv f=> ?_,n,o⟩
 .grind
 .obtain⟨k,g,rfl⟩:=Ġ f;have l:k<a.size:=by simpa using g
  have:=Ly (b.r k Z l)<|D.C k Z Z;simpa using this
 .obtain⟨k,g,rfl⟩:=Ġ f;have l:k<a.size:=by simpa using g
  have p:=aoi<|b.r k Z l;rw[(E k c[k]<|é Z)]at p;simpa using p
def zk{Y:fi}(h:iX Y X u w):iO Y u w:=λi j o v b c=>h.gp (a:=⟨i,o,Á⟩) (a':=⟨j,o,Á⟩) ⟨b,U,U⟩ c
end
end Go.Proofs.Y.nA
namespace Go.Proofs.Y.Lift
open Go
def J'{α β:Type}{c:α->β->Option (ForInStep β)}{I:β->Prop}(d:∀a b s,I b->c a b=Â s->I s.value): ∀(l:List α) (b r:β),I b->forIn l b c=Â r->I r
 |[],b,r,hi,h=>by simp at h;subst h;exact hi
 |a::l,b,r,hi,h=>by
  rw[List.forIn_cons]at h;cases e:c a b with
  |none=>rw[e]at h;simp at h
  |some s=>
   rw[e]at h;have:=d a b s hi e;cases s with
   |done x=>simp at h;subst h;exact this
   |yield x=>simp at h;exact J' d l x r this h
def jE.gM(h:jE v):∀x∈v.cells,jE x:=by
 intro x a;cases h with
 |nV h=>
  obtain⟨i,b,rfl⟩:=Array.mem_iff_getElem.1 a;exact h i b
 |mX h=>simp[Ľ]at a;subst a;exact .mX h
 |_=>simp[Ľ]at a;subst a;constructor
def ZP(a:đ->Option Ĭ):Prop:=∀t i z,a t=Â i->i.zero=Â z->jE z
def SG(h:∀x∈d,jE x):jE (.agg d):=.nV λ_ a=>h _<|Ć a
theorem aoj{l:đ->Option Ĭ}(h:ZP l){m:Array Field}(g:Ř l m=Â zJ)(q:zJ.zero=Â z):jE z:=by
 unfold Ř at g;simp only[<-Array.forIn_toList]at g;generalize t:(forIn m.toList _ _:Option _)=L at g;cases L with
 |none=>simp at g
 |some r=>
  have u:=J' (I:=λx=>∀a,x.2.2.2.2.2.2.2.1=Â a->∀v∈a,jE v) ?_ _ _ _ ?_ t
  .have:∃a,r.2.2.2.2.2.2.2.1=Â a/\z=.agg a:=by
    grind [õ]
   obtain⟨a,e,rfl⟩:=this;exact SG<|u a e
  .intro f b s w d;have y:∀(e:Option Ñ) (k:Nat) (x:Option (Array Ñ)),(∀z,e=Â z->jE z)->x=(if k>ŵ then Á else do pure ((<-b.2.2.2.2.2.2.2.1)++(<-e).cells))->∀a,x=Â a->∀v∈a,jE v:=by
    intro e k x B C a c v n;subst C;split at c
    .simp at c
    .cases j:b.2.2.2.2.2.2.2.1 with
     |none=>rw[j]at c;simp at c
     |some E=>
      cases o:e with
      |none=>rw[j,o]at c;simp at c
      |some D=>
       rw[j,o]at c;simp at c;subst c;rcases Array.mem_append.1 n with p|p
       .exact w _ j v p
       .exact(B D o).gM v p
   cases e:l f.type with
   |none=>rw[e]at d;simp at d
   |some j=>
    rw[e,í,ţ]at d;have k:=y j.zero (b.2.1+j.size) _ (λz q=>h _ _ _ e q) U;generalize(if b.2.1+j.size>ŵ then Á else(do pure ((<-b.2.2.2.2.2.2.2.1)++(<-j.zero).cells):Option (Array Ñ)))=X at d k;generalize(if b.1.size+1<m.size then ";" else "")=Y at d;simp only[bind,pure,Option.bind]at d;repeat' split at d
    all_goals first
     |(simp only[Õ]at d;subst d;exact k)
     |(simp at d;done)
  .intro a c v n;simp at c;subst c;simp at n
def aok{c:đ->Option Ĭ}(h:ZP c){d:TypeDesc}(a:η c d=Â zJ)(b:zJ.zero=Â z):jE z:=by
 unfold η at a;cases d with
 |struct k=>exact aoj h a b
 |array n e=>
  simp only[í,ß,ă,Õ]at a;obtain⟨f,v,st,_,rfl⟩:=a;simp only at b;split at b
  .simp at b
  .split at b
   .simp at b;subst b;exact SG fg
   .simp only[õ]at b;obtain⟨j,g,rfl⟩:=b;refine SG λx k=> ?_;simp only[Array.mem_flatten,Array.mem_replicate]at k;obtain⟨l,⟨_,rfl⟩,k⟩:=k;exact(h _ _ _ v g).gM x k
 |pointer e=>
  simp only[í,ß,ă]at a;let⟨f,v,a⟩:=a;repeat' split at a
  all_goals first
   |(simp at a;done)
   |(simp only[ß,Õ]at a;obtain⟨_,_,rfl⟩:=a;simp only[Ņ,Õ]at b;subst b;constructor)
 |slice e=>
  simp only[í,ß,ă,Õ]at a;obtain⟨_,_,_,_,rfl⟩:=a;simp only[Ņ,Õ]at b;subst b;constructor
 |map k e=>
  simp only[í,ß,ă,Õ]at a;obtain⟨_,_,_,_,_,_,_,_,rfl⟩:=a;simp only[Ņ,Õ]at b;subst b;constructor
 |chan k e=>
  simp only[í,ß,ă,Õ]at a;obtain⟨_,_,_,_,rfl⟩:=a;simp only[Ņ,Õ]at b;subst b;constructor
 |func k e v=>
  simp only[í,ß,ă,Õ]at a;obtain⟨_,_,rfl⟩:=a;simp only[Ņ,Õ]at b;subst b;constructor
 |_=>simp at a
def K_{T:Tables}(a:∀(t:Nat) (i:Ĭ) (z:Ñ),T.types[t]?=Â i->i.zero=Â z->jE z):∀f,ZP<|ŧ T f
 |0=>λt i z h=>by simp[ŧ]at h
 |f+1=>λt i z h b=>by
  unfold ŧ at h;split at h
  .exact a t i z h b
  .simp only[ß]at h;let⟨d,_,c⟩:=h;exact aok (K_ a f) c b
def aol(a:∀(t:Nat) (i:Ĭ) (z:Ñ),P.types[t]?=Â i->i.zero=Â z->jE z):mZ P:=λt i z h b=>by
 have h:P.toTables.info? t=Â i:=h;unfold Tables.info? at h;split at h
 .exact a t i z h b
 .exact K_ a _ t i z h b
end Go.Proofs.Y.Lift
namespace Go.Proofs.Y.fv
open Go Go.Conc Go.Proofs.Y.Lift Go.RowKit Go.Conc.Lib Go.ConcR.Gen
open Go.Proofs Go.Proofs.YtgpphkdoanciiaaGreatDoor
def SH:Ñ->Bool
 |.agg a=>a.toList.all xI
 |v=>xI v
def L_(h:SH v=Î):jE v:=by
 cases v with
 |agg b=>exact .nV λi a=>E8<|(ı.1 h) _<|ò.2<|Ć a
 |_=>exact E8 h
def M_:Ñ->Bool
 |ï a=>a.toList.all SH
 |v=>SH v
def aom(h:M_ v=Î):jE v:=by
 cases v with
 |tuple b=>exact .mX λi a=>L_<|(ı.1 h) _<|ò.2<|Ć a
 |_=>exact L_ h
def El(i:Ĭ):Bool:=match i.zero with
 |some z=>M_ z
 |none=>Î
def aon(h:P.types.toList.all El=Î):mZ P:=aol λt i z a b=>by have:=(ı.1 h) i<|ò.2<|ĺ a;unfold El at this;rw[b]at this;exact aom this
def xC:mZ À:=aon fR
end Go.Proofs.Y.fv
namespace Go.Proofs.Y.nA
open Go Go.Conc Go.Proofs Go.RowKit Go.Proofs.Y.Lift Go.Proofs.Y.iy Go.Proofs.Y.fv
noncomputable def nB:Nat:=À.globals.size
def oV(a:Nat->Prop)(b:Nat):Prop:=a b\/b=1\/b=2\/b=3\/b=4
def Lz(b:Nat)(e:đ)(w:Í):Prop:=∃c a,w.heap[b]?=Â (Þ c e a)/\a.2<=c.size/\a.2<=16/\0<c.size/\∀v∈c.toList,∃k n,v=Å k n
structure mU(w:Í):Prop where
 fl:nB<=w.heap.size
 M:kr nB (λb=>b=1\/b=2) w
 I:Lz 3 304 w
 C:Lz 4 305 w
 S:iy.lb w
 iQ:iD w
 N:pN w
section
variable{V:Nat->Prop}
theorem mU.r{w':Í}(h:mU w)(f:nB<=w'.heap.size)(k:∀b,b=1\/b=2\/b=3\/b=4->w'.heap[b]?=w.heap[b]?):mU w':=by
 have d:∀b o,b=1\/b=2\/b=3\/b=4->w'.cell? ⟨b,o,Á⟩=w.cell? ⟨b,o,Á⟩:=λb o e=>by simp only[ã,k b e]
 refine⟨f,h.M.C λb e=>k b<|e.imp id Ç,?_,?_,?_,?_,?_⟩
 .let⟨c,i,a,r⟩:=h.I;exact⟨c,i,by rwa[k 3 fg],r⟩
 .let⟨c,i,a,r⟩:=h.C;exact⟨c,i,by rwa[k 4 fg],r⟩
 .have c:=h.S;have i:À.globalNamed "internal/strconv.uint64pow10"=Â 1:=fj
  unfold iy.lb ag σ at*;grind
 .let⟨c,g,a⟩:=h.iQ.M;refine⟨⟨c,g,by rwa[k 2 fg]⟩,λi r j=> ?_⟩;rw[d 2 _ fg,d 2 _ fg,d 2 _ fg];exact h.iQ.I i r j
 .have:=h.N;unfold pN at*;grind
def M'(u:kr nB X w)(x:∀b,X b->kS b=Ì)(g:mU w):Kw (oV X) (oV X) nB w:=by
 have p:∀{a:Nat->Prop} {c:Array Ñ},(∀b,a b->oV X b)->fL (kN a nB) c c->fL (pC (oV X) nB) c c:=λ{a c} hX r=>r.I<|zi hX;refine⟨?_,g.fl⟩;have s:∀b e,(e=304\/e=305)->kS b=Î->Lz b e w->∃c e d,w.heap[b]?=Â (Þ c e d)/\d.2<=c.size/\fL (pC (oV X) nB) c c/\(oV X b->0<c.size/\(kS b=Î->(e=304\/e=305)/\d.2<=16)/\(kS b=Ì->B5 c)):=λb e y B h=>by let⟨c,d,f,j,l,m,o⟩:=h;exact⟨c,e,d,f,j,oU λv i=>by obtain⟨k,n,rfl⟩:=o v i;exact .iA _ _,λ_=>⟨m,λ_=>⟨y,l⟩,λq=>by rw[B]at q;cases q⟩⟩
 rintro b (q|q|q|rfl|rfl)
 .let⟨c,e,d,f,j,l,m,o,_⟩:=u b q;exact⟨c,e,d,f,j,p (λ_=>Ç) l,λ_=>⟨m,λt=>(by rw[x b q]at t;cases t),λ_=>o⟩⟩
 .let⟨c,e,d,f,j,l,m,o,_⟩:=g.M b<|Ç q;exact⟨c,e,d,f,j,p (λi k=>k.elim (λz=>Ð<|Ç z) λz=>Ð<|Ð<|Ç z) l,λ_=>⟨m,λt=>(by rw[q]at t;cases t),λ_=>o⟩⟩
 .let⟨c,e,d,f,j,l,m,o,_⟩:=g.M b<|Ð q;exact⟨c,e,d,f,j,p (λi k=>k.elim (λz=>Ð<|Ç z) λz=>Ð<|Ð<|Ç z) l,λ_=>⟨m,λt=>(by rw[q]at t;cases t),λ_=>o⟩⟩
 .exact s 3 304 (Ç U) U g.I
 .exact s 4 305 (Ð U) U g.C
def oW(a:kS b=Ì\/i<16)(h:w.cell? ⟨b,i,Á⟩=Â v):(World.tp (kL V w) xQ 0).cell? ⟨b,i,Á⟩=Â v:=by
 have j:(World.tp (kL V w) xQ 0).heap[b]?=(w.heap[b]?).map (oP V b):=Ds b;simp only[ã,j];simp only[ã]at h;cases g:w.heap[b]? with
 |none=>rw[g]at h;cases h
 |some k=>
  rw[g]at h;cases k with
  |cells c e m=>
   simp only[Ą,oP,ø,ð,if_false]at h|-;split
   .rename_i d;split at d
    .split at d
     .rename_i l;cases d;rcases a with a|a
      .rw[l]at a;cases a
      .unfold tO;rw[Array.getElem?_extract];simp;exact⟨by have:=(å.1 h).1;omega,h⟩
     .cases d;exact h
    .cases d;exact h
   .rename_i f;split at f
    .split at f<;>exact absurd U<|f _ _ _
    .exact absurd U<|f _ _ _
  |_=>cases h
def N_{T:ź}(d:kr nB X w)(e:∀b,X b->kS b=Ì):iO (kN X nB) w (World.tp (kL V w) T 0):=by rintro i j o v ⟨rfl,a⟩ c;exact⟨v,oW (Ç<|e i a) c,d.r a c⟩
end
def RD(s:List fJ)(b:Ñ)(a:Nat->Prop)(w:Í):Prop:=∃c,j0 c=s/\lC s/\Lb b c w/\kr nB a w/\ff (kN a nB) b b
section
variable{V:Nat->Prop}{s:List fJ}
def N'(h:kr nB X w)(k:∀b,X b->u.heap[b]?=w.heap[b]?):iO (kN X nB) w u:=by rintro i j o v ⟨rfl,a⟩ c;exact⟨v,by simp only[ã,k i a];exact c,h.r a c⟩
def RD.r(h:RD s v X w)(k:∀b,X b->u.heap[b]?=w.heap[b]?):RD s v X u:=by let⟨l,d,e,f,a,c⟩:=h;let⟨g,i,j⟩:=Ht (N' a k) c f;exact⟨g,i.trans d,e,j,a.C k,c⟩
def Hw(r:Nat)(q:Qn)(w:Í):Prop:=oT r q.x q.y q.g q.k q.r q.v q.C q.I w
def O_{Y:fi}(a:iO Y u w){r:Nat}{q:Qn}(b:Y r i)(h:Hw r q u):Hw i q w:= ⟨a.r b h.I,a.r b h.S,a.r b h.a,a.r b h.Y,a.r b h.N,a.r b h.M,a.r b h.c,a.r b h.b⟩
def aoo{T:ź}(g:mU w):iy.lb (World.tp (kL V w) T 0):=by
 have a:=g.S;have h:À.globalNamed "internal/strconv.uint64pow10"=Â 1:=fj
 unfold iy.lb ag σ at*;rw[h]at a|-;simp only[ţ]at a|-;have i:(World.tp (kL V w) T 0).heap[1]?=(w.heap[1]?).map (oP V 1):=Ds 1;rw[i];cases f:w.heap[1]? with
 |none=>rw[f]at a;cases a
 |some j=>
  rw[f]at a;cases j with
  |cells c e k=>
   simp only[Ą,oP,kS]at a|-;split
   .rename_i b;split at b<;>(simp at b;obtain⟨rfl,_⟩:=b;exact a)
   .rename_i d;split at d
    .exact absurd U<|d _ _ _
    .exact absurd U<|d _ _ _
  |_=>cases a
theorem P_{T:ź}(g:mU w):iD (World.tp (kL V w) T 0):=by
 let⟨f,h,d⟩:=g.iQ.M;refine⟨?_,λi r e=> ?_⟩
 .have a:(World.tp (kL V w) T 0).heap[2]?=(w.heap[2]?).map (oP V 2):=Ds 2;rw[a,d];simp only[Ą,oP,kS];grind
 .let⟨a,b,c⟩:=g.iQ.I i r e;exact⟨oW (Ç U) a,oW (Ç U) b,oW (Ç U) c⟩
def aop{T:ź}(g:mU w):pN (World.tp (kL V w) T 0):=oW (Ð A) g.N
theorem Em{T:ź}:jU (World.tp (kL V w) T 0):=λi o h=>YG (Sh:=V) (w:=w) i o h
theorem aoq{l:e5}{q:Qn}{r:Nat}(x:RD s v X l.w)(I:∀b,X b->l.M b)(y:kr nB V l.w)(J:∀b,V b->l.M b)(h:V r)(z:Hw r q l.w)(ok:q.Ok)(g:mU l.w)(K:∀b,b=1\/b=2\/b=3\/b=4->l.M b)(j:∀b,X b\/V b->kS b=Ì)(m:List (Nat×fJ))(B:j0 m=s): Dv (λg=>wS g=Î) 67 #[v,Ã<|Â ⟨r,0,Á⟩] l (oV λb=>X b\/V b) λe _=>e=Ä (xl m q):=by
 let⟨L,c,d,D,E,o⟩:=x;have t:=E.I y;refine⟨?_,M' t j g,?_,?_,λT=> ?_⟩
 .rintro b (q|q);all_goals grind
 .intro b a;unfold wS at a;simp at a;exact Ð a
 .refine oU λe a=> ?_;simp at a;rcases a with rfl|rfl
  .exact o.fH<|zi λi k=>Ç<|Ç k
  .exact ff.jD (Y:=pC (oV λb=>X b\/V b) nB) ⟨⟨U,Ç<|Ð h⟩,U,U⟩
 .have a:=N_ (V:=oV λb=>X b\/V b) (T:=T) t j;obtain⟨F,f,N,n,G,rfl,O,u⟩:=Ht a (o.fH<|zi λi k=>Ç k) D;have i:n=(j0 F).length:=by rw[u.r];simp[j0]
  have P:=d.I;have Q:=d.C;rw[f,c]at i;have C:=an5 (cp:=G) u Z Z (λp H=> ?_) (O_ a ⟨U,Ð h⟩ z) ok (P_ g) (aoo g)<|aop g
  .apply C.mono;rintro e S ⟨rfl,k⟩;exact⟨by rw[an7<|f.trans<|c.trans B.symm],k.gM Em⟩
  .have:p.2∈s:=by rw[<-c,<-f];exact Ý.2 ⟨p,H,U⟩
   exact(d.r _ this).1
end
def BQ(r:Nat)(v:Int)(x:Nat)(c:List Tx)(w:Í):Prop:=∃a n d b,BJ r v x a n d w/\BA a n b w/\k9 b=c/\n<=1000
section
variable{V:Nat->Prop}{s:List fJ}
def P'(h:kr nB X w):∀i,X i->i<w.heap.size:=λi a=>by let⟨c,e,d,b,_⟩:=h i a;exact(å.1 b).1
theorem Q_{T:ź}(f:kS b=Ì)(h:w.heap[b]?=Â (Þ d e xJ))(i:xJ.2<=d.size):∃a,(World.tp (kL V w) T 0).heap[b]?=Â (Þ d e a)/\a.2<=d.size:=by have g:(World.tp (kL V w) T 0).heap[b]?=(w.heap[b]?).map (oP V b):=Ds b;rw[g,h];simp only[Ą,oP,f,ð,if_false];grind
def aor{T:ź}(h:kr nB X w)(d:∀b,X b->kS b=Ì):kr nB X (World.tp (kL V w) T 0):=λb a=>by let⟨c,e,m,f,g,i⟩:=h b a;let⟨j,k,l⟩:=Q_ (V:=V) (T:=T) (d b a) f g;exact⟨c,e,j,k,l,i⟩
def aos{T:ź}(k:kr nB X w)(l:∀b,X b->kS b=Ì){r:Nat}{v:Int}{o:List Tx}(p:X r)(h:BQ r v i o w):BQ r v i o (World.tp (kL V w) T 0):=by
 let⟨E,n,F,G,g,s,H,I⟩:=h;have m:=l r p;refine⟨E,n,F,G,⟨oW (Ç m) g.M,oW (Ç m) g.N,oW (Ç m) g.I⟩,⟨s.r,λj a t q=> ?_⟩,H,I⟩;let⟨tb,J,u,y,d,K⟩:=s.C j a t q;have z:X tb:=by have:=k.r p g.I;rw[u]at this;exact BP this
 have B:=BO<|k.r z y;have f:=l a B;let⟨L,P,C⟩:=d.b;let⟨c,e,Q,D,M,_⟩:=k a B;rw[C]at D;cases D;obtain⟨N,O,_⟩:=Q_ f C M;exact⟨tb,J,u,oW (Ç<|l tb z) y,⟨⟨L,N,O⟩,oW (Ç f) d.r,oW (Ç f) d.C,oW (Ç f) d.I,oW (Ç f) d.M,oW (Ç f) d.Y,oW (Ç f) d.N⟩,K⟩
def Rg(s:List fJ)(v:Ñ)(u:Í):Prop:=∃X,RD s v X u
def Rg.tp{T:ź}(h:Rg s v w):Rg s v (World.tp w T n):=by let⟨X,h⟩:=h;exact⟨X,h.r λ_ _=>rfl⟩
def aot{Y:fi}{d:Nat->Prop}(h:qL Y d u w)(a:ff Y v x)(e:Rg s v u):∃c,RD s x c w/\∀b,c b->∃i,Y i b:=by let⟨X,f⟩:=e;have g:RD s v X {u with tape:=w.tape,drawn:=w.drawn}:=f.r λ_ _=>rfl;let⟨t,j,k,l,m,n⟩:=g;let⟨o,p,q⟩:=Ht (zk h) a l;exact⟨_,⟨o,p.trans j,k,q,SF h m,Ly a n⟩,λb ⟨i,_,r⟩=>⟨i,r⟩⟩
theorem aou{l:e5}{r:Nat}{d:List Tx}(hRD:RD s v X l.w)(hU:∀b,X b->l.M b)(N:kr nB V l.w)(hV:∀b,V b->l.M b)(O:V r)(hq:BQ r h m d l.w)(hx:m<8)(y:-1<=h)(SJ:∀t∈d,t.Ok)(hn:d.length<=1000)(g:mU l.w)(hG:∀b,b=1\/b=2\/b=3\/b=4->l.M b)(B:∀b,X b\/V b->kS b=Ì)(D:List (Nat×fJ))(I:j0 D=s): Dv (λg=>wS g=Î) 66 #[v,Ã<|Â ⟨r,0,Á⟩] l (oV λb=>X b\/V b) λz u=>∃p n c,z=ï #[Æ p n c,Ä (tX D h m d).2]/\Rg (sI D h m d) (Æ p n c) u:=by
 let⟨vs,h1,E,h3,P,f⟩:=hRD;have Q:=P.I N;refine⟨?_,M' Q B g,?_,?_,λT=> ?_⟩
 .rintro b (q|q);all_goals grind
 .intro b u;unfold wS at u;simp at u;exact Ð u
 .refine oU λh y=> ?_;simp at y;rcases y with rfl|rfl
  .exact f.fH<|zi λi j=>Ç<|Ç j
  .exact ff.jD (Y:=pC (oV λb=>X b\/V b) nB) ⟨⟨U,Ç<|Ð O⟩,U,U⟩
 .have o:=aor (V:=oV λb=>X b\/V b) (T:=T) P λb q=>B b<|Ç q;obtain⟨z,k1,S,n,W,rfl,Q',F⟩:=Ht (N_ (V:=oV λb=>X b\/V b) (T:=T) Q B) (f.fH<|zi λi j=>Ç j) h3;obtain⟨tp,tn,tc,a,q1,q2,rfl,q4⟩:=(aos (V:=oV λb=>X b\/V b) (T:=T) N (λb q=>B b<|Ð q) O hq);have c:=k1.trans h1;have hlen:n=s.length:=by rw[F.r,<-c];simp[j0]
  have asb:=E.I;have hle:=E.C;have pB:jU (World.tp (kL (oV λb=>X b\/V b) l.w) T 0):=Em;have C:=amy F Z Z Q' (λp J=>by
   have:p.2∈s:=by rw[<-c];exact Ý.2 ⟨p,J,U⟩
   have:=(E.r _ this).2.2.2;omega) q1 q2 q4 (P_ g) hx y
  have u:sI z h m (k9 a)=sI D h m (k9 a):=by unfold sI;rw[H_<|c.trans I.symm,c,I]
  have H:lC (sI z h m<|k9 a):=lC.M (by rwa[c]) SJ hn;have ha:=H_ (c.trans I.symm) h m<|k9 a;generalize World.tp (kL (oV λb=>X b\/V b) l.w) T 0=G at*;refine C.mono ?_;rintro e u' ⟨k,hA⟩;rcases hA with⟨K,rfl⟩|⟨nv,b,sy,K,rfl,e3,e4,gb,gn,gc,rfl,e6⟩
  .refine⟨⟨S,n,W,by rw[ha],?_⟩,k.gM pB⟩;rw[<-u];have L:sI z h m (k9 a)=s:=by unfold sI;rw[K,c];simp
   rw[L]at H|-;exact⟨X,z,c,H,⟨S,n,W,U,Q',F.I k⟩,o.C λi j=>k.N i (P' o i j) id,f⟩
  .let⟨i,m1,m2,m3,_⟩:=aoh o k (P' o) e4 e6 λp J=>by
    let⟨j,hj⟩:=Ę J;let⟨sb,so,f1,f2,_⟩:=F.C j p.1 p.2 hj;have:X sb:=by rw[f1]at f;exact BP f
    exact BO<|o.r this f2
   refine⟨⟨Â ⟨gb,0,Á⟩,gn,gc,by rw[ha],?_⟩,k.gM pB⟩;rw[<-u];have L:sI z h m (k9 a)=j0 (z++[(b,nv)]):=by unfold sI;rw[K];simp[j0]
   rw[L]at H|-;exact⟨i,_,U,H,e3,m3,ff.ku (Y:=kN i nB) ⟨⟨U,m2⟩,U,U⟩ gn gc⟩
end
structure vg where
 r:Nat->Int×Nat×List Tx
 C:Nat->Qn
def BR(s:List fJ):List (Nat×fJ):=s.map λv=>(0,v)
theorem LA(s:List fJ):j0 (BR s)=s:=by simp[j0,BR,Function.comp_def]
def LB(s:List fJ)(i:Int×Nat×List Tx):List fJ:=sI (BR s) i.1 i.2.1 i.2.2
def qz(a:vg)(I:List Nat)(b:List fJ):Nat->List fJ
 |0=>b
 |k+1=>LB (qz a I b k)<|a.r<|I.getD k 0
def xm(a:vg)(kd:Nat->Int)(p:Nat)(s:List fJ):ByteArray:=if kd p=1 then(tX (BR s) (a.r p).1 (a.r p).2.1 (a.r p).2.2).2 else xl (BR s) (a.C p)
def il(e:e5)(a:Nat->Prop)(c:vg)(kd:Nat->Int)(R:Nat)(d:List fJ)(f:Nat->Prop):wR where
 γ:=List fJ
 C:=d
 M:=λk s g=>g=LB s (c.r<|(ig kd R).getD k 0)
 RD:=λs h V w=>RD s h V w/\∀b,V b->a b\/e.w.heap.size<=b
 I:=λp=>xm c kd p<|qz c (ig kd R) d<|fK kd p
 r:=f
def SK{kd:Nat->Int}:∀(R k:Nat),k<(ig kd R).length->fK kd ((ig kd R).getD k 0)=k
 |0,k,h=>by simp[ig]at h
 |R+1,k,h=>by
  by_cases q:kd R=1
  .rw[Ba q]at h|-;rcases Nat.lt_or_ge k (ig kd R).length with z|z
   .have e:(ig kd R++[R]).getD k 0=(ig kd R).getD k 0:=by simp[Ģ,ĩ z]
    rw[e];exact SK R k z
   .have e:k=(ig kd R).length:=by simp at h;omega
    subst e;simp[Ģ,fK]
  .rw[Bb q]at h|-;exact SK R k h
section
variable{y:Nat->Prop}
def LC(h:kr nB y w)(g:mU w):∀b,y b->kS b=Ì:=λb i=>by
 let⟨c,e,m,f,_,_,_,_,j,k⟩:=h b i;cases d:kS b with
 |false=>rfl
 |true=>
  unfold kS at d;simp at d;rcases d with rfl|rfl
  .let⟨l,pV,a,_⟩:=g.I;rw[f]at a;cases a;exact absurd U j
  .let⟨l,pV,a,_⟩:=g.C;rw[f]at a;cases a;exact absurd U k
def aov(p:kr nB X w)(k:∀b,X b->u.heap[b]?=w.heap[b]?){r:Nat}{s:List Tx}(g:X r)(h:BQ r c i s w):BQ r c i s u:=by
 have d:∀{b o:Nat} {z:Ñ},X b->w.cell? ⟨b,o,Á⟩=Â z->u.cell? ⟨b,o,Á⟩=Â z:=λ{b o z} l q=>by simp only[ã,k b l];exact q
 let⟨D,n,E,F,m,y,G,H⟩:=h;refine⟨D,n,E,F,⟨d g m.M,d g m.N,d g m.I⟩,⟨y.r,λj a t q=> ?_⟩,G,H⟩;let⟨tb,I,B,C,e,J⟩:=y.C j a t q;have l:X tb:=by have:=p.r g m.I;rw[B]at this;exact BP this
 have f:=BO<|p.r l C;let⟨K,L,M⟩:=e.b;exact⟨tb,I,B,d l C,⟨⟨K,L,by rwa[k a f]⟩,d f e.r,d f e.C,d f e.I,d f e.M,d f e.Y,d f e.N⟩,J⟩
end
structure Hx(l0:e5)(bt:vg)(kd:Nat->Int)(rq:Nat->Nat)(R:Nat)(Q:Nat->Prop):Prop where
 M:mU l0.w
 I:∀b,b=1\/b=2\/b=3\/b=4->l0.O b
 C:kr nB Q l0.w
 fh:∀b,Q b->l0.O b
 r:∀p,p<R->Q (rq p)
 ky:∀p,p<R->kd p=1->BQ (rq p) (bt.r p).1 (bt.r p).2.1 (bt.r p).2.2 l0.w/\(bt.r p).2.1<8/\-1<=(bt.r p).1/\(∀t∈(bt.r p).2.2,t.Ok)/\(bt.r p).2.2.length<=1000
 Q0:∀p,p<R->kd p≠1->Hw (rq p) (bt.C p) l0.w/\(bt.C p).Ok
def R_{V:Nat->Prop}{l:e5}{a:Ñ->Í->Prop}(h:Dv X F d l V vQ)(b:∀v u,vQ v u->a v u):Dv X F d l V a:= ⟨h.N,h.S,h.I,h.r,λT=>(h.C T).mono λe u q=>by
  cases e with
  |returned v=>exact⟨b v u q.1,q.2⟩
  |_=>exact q⟩
section
variable{l0:e5}{bt:vg}{kd:Nat->Int}{rq:Nat->Nat}{R:Nat}{Q C d:Nat->Prop}{B:List fJ}{E F:Option û}
def R'{s:List fJ}(h:fv.mL ((kn (il l0 d bt kd R B C) i n R kd rq D E F j9 j7 k m J j qX l0).r À) b s):s=qz bt (ig kd R) B b:=by
 have c:∀(b:Nat) (s:((kn (il l0 d bt kd R B C) i n R kd rq D E F j9 j7 k m J j qX l0).r À).γ),fv.mL ((kn (il l0 d bt kd R B C) i n R kd rq D E F j9 j7 k m J j qX l0).r À) b s->s=qz bt (ig kd R) B b:=λb s h=>by
  induction h with
  |uH=>rfl
  |Cp _ a e=>
   rwa[e]at a
 exact c b s h
def aow(h:Hx l0 bt kd rq R Q)(N:l0.w.heap.size<=m):Dn (kn (il l0 d bt kd R B C) i n R kd rq D E F j9 j7 k m J j qX l0):=by
 apply ajg xC YL YK U;intro a s O W l q t f x y P g G;let⟨f,S⟩:=f;have T:=y.fl m<|g m<|Ð U;have H:l0.w.heap.size<=l.w.heap.size:=Z
 have o:=G;have p:=h.M.r (Ê h.M.fl H) λb c=>o b<|h.I b c;have r:=h.C.C λb c=>o b<|h.fh b c;have e:=GN<|u9 q;let⟨I,K⟩:=h.Q0 _ e.1 e.2;refine⟨_,R_ (aoq f x r (λb c=>g b<|Ç<|h.fh b c) (h.r _ e.1) (O_ (N' h.C λb c=>o b<|h.fh b c) ⟨U,h.r _ e.1⟩ I) K p (λb c=>g b<|Ç<|h.I b c) (λb c=>c.elim (LC (by let⟨_,_,_,_,z,_⟩:=f;exact z) p b)<|LC r p b) (BR s)<|LA s) λv u L=> ?_⟩;rw[L];have z:=R' t;have M:(kn (il l0 d bt kd R B C) i n R kd rq D E F j9 j7 k m J j qX l0).b a=fK kd ((jj kd R).getD a 0):=if_pos q;rw[M]at z;show _=Ä (xm bt kd ((jj kd R).getD a 0)<|qz bt (ig kd R) B<|fK kd<|(jj kd R).getD a 0);rw[<-z];unfold xm;rw[if_neg e.2]
theorem aox(h:Hx l0 bt kd rq R Q)(hZ:(∀b,Q b->d b)/\∀b,b=1\/b=2\/b=3\/b=4->d b)(X9:l0.w.heap.size<=m):Dm (kn (il l0 d bt kd R B C) i n R kd rq D E F j9 j7 k m J j qX l0):=by
 refine ajh xC YL YK U (λs o u=>Rg s o u) (λs o u T n q=>Rg.tp q) ?_;intro T s o W l H I g K L hq r M;let⟨g,N0⟩:=g;have hs:=L.fl m<|r m<|Ð U;have N:l0.w.heap.size<=l.w.heap.size:=Z
 have t:=M;have x:=h.M.r (Ê h.M.fl N) λb a=>t b<|h.I b a;have y:=h.C.C λb a=>t b<|h.fh b a;have G:=H;have f:=GM<|u9 G;let⟨O,P,S,V,X⟩:=h.ky _ f.1 f.2;refine⟨_,R_ (aou g K y (λb a=>r b<|Ç<|h.fh b a) (h.r _ f.1) (aov h.C (λb a=>t b<|h.fh b a) (h.r _ f.1) O) P S V X x (λb a=>r b<|Ç<|h.I b a) (λb a=>a.elim (LC (by let⟨_,_,_,_,z,_⟩:=g;exact z) x b)<|LC y x b) (BR s)<|LA s) λv u hv=> ?_,?_⟩
 .obtain⟨p,z,c,rfl,Y⟩:=hv;refine⟨p,z,c,LB s<|bt.r<|(ig kd R).getD T 0,?_,U,Y⟩;have e:(kn (il l0 d bt kd R B C) i n R kd rq D E F j9 j7 k m J j qX l0).e (T+1)=xm bt kd ((ig kd R).getD T 0) (qz bt (ig kd R) B<|fK kd<|(ig kd R).getD T 0):=U;rw[e,SK R T G,<-(R' I)];unfold xm;rw[if_pos f.2]
 .intro Y Sh u w s' YA Bn e p h3 h4;let⟨V',k1,c⟩:=aot e p h3;refine⟨V',⟨k1,λb a=> ?_⟩,c⟩;let⟨z,hi⟩:=c b a;rcases h4 z b hi with((q|q)|q)|q;all_goals grind
end
section
variable{R:Nat}{kd:Nat->Int}{o:Nat->Nat}{r:List ċ}{l:e5}{u:Nat->e5}{bt:vg}{j f:Nat->Prop}{s0:List fJ}
def aoy{s:List fJ}(h:yE (il l f bt kd R s0 j) k s):s=qz bt (ig kd R) s0 k:=by
 have b:∀(k:Nat) (s:(il l f bt kd R s0 j).γ),yE (il l f bt kd R s0 j) k s->s=qz bt (ig kd R) s0 k:=λk s h=>by
  induction h with
  |uH=>rfl
  |Cp _ a c=>
   rwa[c]at a
 exact b k s h
structure zm(f:Nat->Prop)(bt:vg)(R:Nat)(kd:Nat->Int)(s0:List fJ)(l:e5)(an:Nat)(sl:Ñ)(l':e5):Prop where
 M:∀b,l.O b->l'.O b/\l'.w.heap[b]?=l.w.heap[b]?
 r:l'.O an/\∀p,p<R->l'.w.cell? ⟨an,p,Á⟩=Â (Ä<|xm bt kd p<|qz bt (ig kd R) s0<|fK kd p)
 Y:∃V,RD (qz bt (ig kd R) s0<|fK kd R) sl V l'.w/\∀b,V b->l'.O b/\(f b\/l.w.heap.size<=b)
 d:l'.d=0
 q:¬l'.q
 S:∀b,¬l'.I b
 C:(∀a,¬l'.r a)/\(∀a,¬l'.N a)/\∀a,¬l'.K a
 I:l'.w.cell? ⟨an,R,Á⟩=Á/\kE l'.w an=Â (0,0)
def aoz{a:e5}(h:E5 (il l f bt kd R s0 j) R kd l i v a):zm f bt R kd s0 l i v a:=by let⟨s,V,g,c,k⟩:=h.GO;have e:=aoy g;subst e;exact⟨h.uL,h.kj,⟨V,c.1,λb q=>⟨k b q,c.2 b q⟩⟩,h.d,h.q,h.rd,h.Dq,h.B9⟩
def aoA{J:(Loc->Prop)->Nat->Jd}{F:ċ}(P:qX=F.at y (Ò Q (j9::jJ)::L)::r)(c:fv.rA À zX i (Kp kd o R n v l qX) .fu D u E w qJ)(C:Option (Nat×Nat))(s:gl l)(S:∀b,¬l.I b)(W:¬l.q)(Y:l.d=0)(LD:va zX i l)(H:Hx l bt kd o R X)(hZ:(∀b,X b->f b)/\∀b,b=1\/b=2\/b=3\/b=4->f b)(I:∀b,f b->l.O b)(K:∀b,j b->f b)(Bm:RD s0 v j l.w)(wO:w.os=l.w.os/\w.output=l.w.output)(hn:1<=n)(hs:n+R<1000) (hJ:∀t x z B p m c,va t x z->gl z->zm f bt R kd s0 l B (Æ p m c) z->fv.fe À Î (J t x) z (G (F.at (y.put ((Q[j9]?).bind (·.dst))<|ï #[Æ (Â ⟨B,0,Á⟩) R R,Æ p m c])<|Ò Q jJ::L) r)): ∃N t x T V GQ g e sy h,Γ À N (Ĳ E w C) qJ=(.next<|Ĳ g e sy,h)/\(e.os=l.w.os/\e.output=l.w.output)/\fv.rA À t x (J t x) T V GQ g e h:= ai9 (M:=il l f bt kd R s0 j) P c C s S W Y LD (λb q=>I b<|K b q) (λs C V w e h L=>⟨h.1.r L,h.2⟩) (λs C V w h=>⟨by let⟨_,_,_,⟨g,n,N,e,_⟩,_⟩:=h.1;exact⟨g,n,N,e⟩,λb q=>(h.2 b q).imp (I b) id⟩) ⟨Bm,λb h=>Ç<|K b h⟩ wO hn hs (λg N V T cq B ba bi all e=>⟨aox H hZ e,aow H e⟩) λt x z B p m c e g N=>hJ t x z B p m c e g<|aoz N
end
end Go.Proofs.Y.nA
namespace Go.Proofs.Y.zn
open Go Go.Proofs Go.RowKit Go.Proofs.Y.Lift Go.Proofs.Y.iy
def jR(c:Int):Bool:=decide (48<=c)&&decide (c<=57)
def rK(c:Int):Bool:=decide (97<=c)&&decide (c<=104)
def xn(c:Int):Int:=
 if c=105 then 1 else if c=103 then 2 else if c=98 then 3 else if c=99 then 4 else if c=109 then 5
 else if c=114 then 6 else if c=108 then 7 else if c=117 then 8 else if c=100 then 9 else 0
def LF(c:Int):Int:=if c=62 then 1 else if c=123 then 2 else if c=58 then 3 else 0
theorem En(c:Int):jR c=Î↔(48<=c/\c<=57):=by simp[jR]
def aoB(c:Int):rK c=Î↔(97<=c/\c<=104):=by simp[rK]
def vh(k:Int):List Int:=
 if k=1 then[86,58,120,47,66]else if k=2 then[86,58,120,115]else if k=3 then[86,58,120]
 else if k=4 then[86,58,120,62,121,40,110,44,107,41]else if k=5 then[86,58,120,62,121,40,107,41]
 else if k=9 then[86,58,87]else[86]
def vi(k:Int):List Int:=
 if k=1 then[121,61,110]else if k=2 then[80]else[121,40,110,44,107,41]
def pO(a c:Int):Bool:=
 if a=86\/a=87 then c==104||jR c
 else if a=110\/a=107 then jR c
 else if a=120\/a=121 then rK c
 else if a=115 then jR c||(decide (97<=c)&&decide (c<=102))
 else c==a
def rL(a c:Int):Int:=
 if c=48\/jR c=Ì then 0
 else if a=86\/a=87 then 1
 else if a=110\/a=107 then 5
 else 0
def jI(s:ByteArray):List Int:=s.data.toList.map λc=>((c.toNat:Nat):Int)
def aoC(B:ByteArray)(k:Nat)(h:k<B.size):(jI B).drop k=((B[k].toNat:Nat):Int)::(jI B).drop (k+1):=by
 have a:k<(jI B).length:=by simpa[jI]using h
 rw[List.drop_eq_getElem_cons a];congr 1;simp[jI,č]
theorem SL(B:ByteArray):(jI B).length=B.size:=by unfold jI;simp_all
theorem vj(s:ByteArray)(h:0<s.size):jI s=((s[0].toNat:Nat):Int)::(jI s).tail:=by have:=aoC s 0 h;grind
theorem S_(s:ByteArray)(h:s.size=0):jI s=[]:=by grind [à,SL]
def aoD(s:ByteArray):jI (s.extract 1 s.size)=(jI s).tail:=by unfold jI;rw[Ķ,ľ,<-List.map_tail];congr 1;rw[Ī,<-List.drop_one];apply List.take_of_length_le;simp_all
theorem aoE(s:ByteArray)(h:s.size<=10):(s.extract 1 s.size).size<=10:=by grind [Đ]
theorem aoF(a c:Int):0<=rL a c/\rL a c<=5:=by unfold rL;grind
structure PT where
 c:List Int
 p:ByteArray
structure PR where
 c:List Int
 r:List PT
structure PD where
 S:List PR
 r:Bool
 I:PR
 M:Bool
 N:PT
structure PS where
 C:List Int
 r:Int
 I:Int
 M:Int
 d:PD
namespace PD
def Y(d:PD):List PT:=if d.M then d.I.r++[d.N]else d.I.r
def C(d:PD):List PR:=if d.r then d.S++[⟨d.I.c,d.Y⟩]else d.S
def uf(d:PD)(i:Nat)(z:Int):PD:={d with I:={d.I with c:=d.I.c.set i z}}
def vk(d:PD)(i:Nat)(z:Int):PD:={d with N:={d.N with c:=d.N.c.set i z}}
def kt(d:PD)(i:Nat)(z:Int):PD:=if d.M then d.vk i z else d.uf i z
def sJ(d:PD)(p:ByteArray):PD:={d with N:={d.N with p:=p}}
def El:PT:=⟨[0,0,0,0,0],⟨#[]⟩⟩
def S'(k:Int):PR:=⟨[0,0,0,0,k,0,0,0],[]⟩
def sK(d:PD):PD:={d with I:=⟨d.I.c,d.Y⟩,M:=Î,N:=El}
def Eo(d:PD)(k:Int):PD:={S:=d.C,r:=Î,I:=S' k,M:=Ì,N:=d.N}
def fW(d:PD)(a z:Int):PD:=
 if a=86 then d.uf 5 z else if a=87 then d.uf 6 z else if a=120 then d.kt 0 z else if a=121 then d.kt 1 z
 else if a=110 then d.kt 2 z else if a=107 then d.kt 3 z else if a=115 then d.uf 7 z else d
def xo(d:PD)(i:Nat):Int:=if d.M then d.N.c.getD i 0 else d.I.c.getD i 0
def G(d:PD)(a:Int):Int:=if a=86 then d.I.c.getD 5 0 else if a=87 then d.I.c.getD 6 0 else if a=110 then d.xo 2 else d.xo 3
end PD
def nD(a c:Int):Int:=
 if a=120\/a=121 then â [97,98,99,100,101,102,103,104] c.toNat.toUInt8
 else if a=115 then â [48,49,50,51,52,53,54,55,56,57,97,98,99,100,101,102] c.toNat.toUInt8
 else if c=104 then-1 else(c-48)%256
def sL(z c:Int):Int:=É.wrap<|É.wrap (z*10)+(c-48)%256
def ug(st:PS)(c:Int):Option PS:=
 if c=59/\st.d.S.length+1<24 then Â {st with C:=[82]}
 else if c=44/\0<st.d.Y.length/\st.d.Y.length<8 then Â {st with C:=[120,84],d:=st.d.sK}
 else Á
def zo(st:PS)(k:Int):Option PS:=if k=0 then Á else Â {st with C:=vh k,d:=st.d.Eo k}
def zp(st:PS)(k:Int):Option PS:=if k=0 then Á else Â {st with C:=vi k,I:=0,d:=st.d.vk 4 k}
def oX(st:PS)(a c:Int):PS:={st with r:=rL a c,M:=a,d:=st.d.fW a (nD a c)}
def lB(B:ByteArray)(k:Nat)(st:PS)(c:Int):Option PS:=
 match st.C with
 |[]=>ug st c
 |want::tl=>
  if want=82 then zo st (xn c)
  else if want=66 then
   if rK c=Î then Â (oX {st with C:=[84],d:=st.d.sK} 120 c)else ug st c
  else if want=84 then zp st (LF c)
  else if want=80 then
   if c=125 then Â {st with C:=tl,d:=st.d.sJ (B.extract (k-st.I.toNat) k)}
   else if st.I=40\/lu c=0 then Á else Â {st with I:=st.I+1}
  else if pO want c=Î then Â {oX st want c with C:=tl}
  else Á
def Hz(st:PS)(c:Int):PS:={st with r:=st.r-1,d:=st.d.fW st.M (sL (st.d.G st.M) c)}
def uh(B:ByteArray)(k:Nat)(st:PS)(c:Int):Option PS:=
 if 0<st.r/\jR c=Î then Â (Hz st c)else lB B k {st with r:=0} c
def sM(B:ByteArray):Nat->Nat->PS->Nat×PS
 |0,k,st=>(k,st)
 |f+1,k,st=>if h:k<B.size then match uh B k st (B[k].toNat:Int)with
  |none=>(k,st)
  |some a=>sM B f (k+1) a
  else(k,st)
def pd0:PD:=⟨[],Ì,⟨[],[]⟩,Ì,⟨[],⟨#[]⟩⟩⟩
def sN:PS:=⟨[82],0,0,0,pd0⟩
def rM(c:Int)(w:Í): Ó À 94 #[Å ŭ c] w λe a=>e=È (î<|jR c)/\a=w:=by
 go_enter Tryz.func94,Tryz.ntmps94;go_wp2;all_goals go_ret
 all_goals exact⟨YQ (by simp only[jR];first|(simp[*];done)|(rw[Ĝ];simp;omega)),U⟩
def aoG(s:ByteArray)(c:Int)(w:Í): Ó À 167 #[Ä s,Å ŭ c] w λe a=>e=È (Å É<|â s.data.toList c.toNat.toUInt8)/\a=w:=by go_enter Tryz.func167,Tryz.ntmps167;go_wp2;rw[run_callFunc_extern Tryz.func185 fj fj fj fj,Lib.run_indexByteString];simp only[Ŷ];rw[Oper.upon_value];go_wp2;go_ret;exact⟨U,U⟩
def HA(s:ByteArray)(c:Int)(w:Í): Ó À 146 #[Ä s,Å ŭ c] w λe a=>e=È (Å É<|â s.data.toList c.toNat.toUInt8)/\a=w:=by go_enter Tryz.func146,Tryz.ntmps146;go_wp2_with (go_at_call 167;refine(aoG _ _ _).mono ?_;rintro e a ⟨rfl,rfl⟩);go_ret;exact⟨U,U⟩
def LG(c:Int):Bool:=jR c||(decide (97<=c)&&decide (c<=102))
def aoH:∀n:Fin 256,decide (0<=â [97,98,99,100,101,102,103,104] n.val.toUInt8)=rK (n.val:Int):=by decide+kernel
def aoI:∀n:Fin 256,decide (0<=â [48,49,50,51,52,53,54,55,56,57,97,98,99,100,101,102] n.val.toUInt8)=LG (n.val:Int):=by decide+kernel
def aoJ(a:0<=c)(b:c<256):decide (0<=â [97,98,99,100,101,102,103,104] c.toNat.toUInt8)=rK c:=by have:=aoH ⟨c.toNat,Z⟩;rwa[show((c.toNat:Nat):Int)=c from by omega]at this
def aoK(a:0<=c)(b:c<256):decide (0<=â [48,49,50,51,52,53,54,55,56,57,97,98,99,100,101,102] c.toNat.toUInt8)=LG c:=by have:=aoI ⟨c.toNat,Z⟩;rwa[show((c.toNat:Nat):Int)=c from by omega]at this
def SN(c:Int)(b:0<=c)(d:c<256)(w:Í): Ó À 98 #[Å ŭ c] w λe a=>e=È (î<|rK c)/\a=w:=by
 have f:=aoJ b d;go_enter Tryz.func98,Tryz.ntmps98;go_wp2_with (go_at_call 146;refine(HA _ _ _).mono ?_;rintro e a ⟨rfl,rfl⟩);all_goals go_ret
 all_goals exact⟨U,U⟩
def aoL(c:Int)(b:0<=c)(d:c<256)(w:Í): Ó À 149 #[Å ŭ c] w λe a=>e=È (î<|LG c)/\a=w:=by
 have f:=aoK b d;go_enter Tryz.func149,Tryz.ntmps149;go_wp2_with (go_at_call 146;refine(HA _ _ _).mono ?_;rintro e a ⟨rfl,rfl⟩);all_goals go_ret
 all_goals exact⟨U,U⟩
def aoM(c:Int)(w:Í): Ó À 102 #[Å ŭ c] w λe a=>e=È (Å É<|LF c)/\a=w:=by
 go_enter Tryz.func102,Tryz.ntmps102;go_wp2;all_goals go_ret
 all_goals refine⟨Dz ?_,U⟩
 all_goals simp only[beq_iff_eq,beq_eq_false_iff_ne,ne_eq]at*
 all_goals simp[LF, *]
def aoN(c:Int)(w:Í): Ó À 97 #[Å ŭ c] w λe a=>e=È (Å É<|xn c)/\a=w:=by
 go_enter Tryz.func97,Tryz.ntmps97;go_wp2;all_goals go_ret
 all_goals refine⟨Dz ?_,U⟩
 all_goals simp only[beq_iff_eq,beq_eq_false_iff_ne,ne_eq]at*
 all_goals simp[xn, *]
def T_(b c:Int)(d:0<=c)(f:c<256)(w:Í): Ó À 104 #[Å ŭ b,Å ŭ c] w λe a=>e=È (î<|pO b c)/\a=w:=by
 go_enter Tryz.func104,Tryz.ntmps104;go_wp2_with (first|(go_at_call 94;refine(rM _ _).mono ?_;rintro e a ⟨rfl,rfl⟩)|(go_at_call 98;refine(SN _ d f _).mono ?_;rintro e a ⟨rfl,rfl⟩)|(go_at_call 149;refine(aoL _ d f _).mono ?_;rintro e a ⟨rfl,rfl⟩));all_goals go_ret
 all_goals refine⟨YQ ?_,U⟩
 all_goals try go_light
 all_goals simp only[beq_iff_eq,beq_eq_false_iff_ne,ne_eq]at*
 all_goals unfold pO
 all_goals first|(simp[LG, *];done)|(rw[Ĝ];simp[*];done)|(rw[Ĝ];simp[*];omega)
def aoO(k:Int)(w:Í): Ó À 145 #[Å É k] w λe a=>(∃b:ByteArray,e=È (Ä b)/\b.size<=10/\jI b=vh k)/\a=w:=by
 go_enter Tryz.func145,Tryz.ntmps145;go_wp2;all_goals go_ret
 all_goals refine⟨⟨_,U,?_,?_⟩,U⟩
 all_goals try go_light
 all_goals simp only[beq_iff_eq,beq_eq_false_iff_ne,ne_eq]at*
 all_goals first|(simp[jI,vh, *];done)|decide
def aoP(k:Int)(w:Í): Ó À 148 #[Å É k] w λe a=>(∃b:ByteArray,e=È (Ä b)/\b.size<=10/\jI b=vi k)/\a=w:=by
 go_enter Tryz.func148,Tryz.ntmps148;go_wp2;all_goals go_ret
 all_goals refine⟨⟨_,U,?_,?_⟩,U⟩
 all_goals try go_light
 all_goals simp only[beq_iff_eq,beq_eq_false_iff_ne,ne_eq]at*
 all_goals first|(simp[jI,vi, *];done)|decide
def mC(m s:Nat):Ñ->Prop
 |Å ŭ _=>False
 |Å _ _=>True
 |î _=>True
 |Ä _=>True
 |Ã Á=>True
 |Ã (Â a)=>m<=a.block/\a.block<s
 |Æ Á _ _=>True
 |Æ (Â a) _ _=>m<=a.block/\a.block<s
 |_=>False
def mC.r(h:mC m i v)(d:i<=n):mC m n v:=by
 cases v with
 |int k b=>cases k<;>exact h
 |pointer a=>cases a with
  |none=>trivial
  |some a=>exact⟨h.1,Ĥ h.2 d⟩
 |slice a b c=>cases a with
  |none=>trivial
  |some a=>exact⟨h.1,Ĥ h.2 d⟩
 |_=>exact h
def LH(m s:Nat)(o:Obj):Prop:=∃c e a,o=Þ c e a/\a.2<=c.size/\0<c.size/\e≠304/\e≠305/\∀v∈c.toList,mC m s v
def jm(m:Nat)(w:Í):Prop:=∀i o,m<=i->w.heap[i]?=Â o->LH m w.heap.size o
def LH.r{o:Obj}(h:LH m i o)(a:i<=n):LH m n o:=by let⟨c,e,b,d,f,g,j,k,l⟩:=h;exact⟨c,e,b,d,f,g,j,k,λv p=>(l v p).r a⟩
def jm.I(w:Í):jm w.heap.size w:=λi o a h=>by rw[ĵ a]at h;cases h
def jm.fM(h:jm m w):jm m w.drew:=h
def jm.iH(h:jm m w)(n:Nat):jm m (w.drewN n):=h
theorem jm.gB(h:jm m w)(cs:Array Ñ)(t:đ)(c:0<cs.size)(b:t≠304/\t≠305)(d:∀v∈cs.toList,mC m w.heap.size v):jm m (w.alloc<|Þ cs t):=by
 intro i o f a;have k:(w.alloc<|Þ cs t).heap.size=w.heap.size+1:=fg
 by_cases e:i<w.heap.size
 .rw[Ť _ _ _ e]at a;exact(h i o f a).r Z
 .by_cases g:i=w.heap.size
  .subst g;rw[ŷ]at a;cases a;exact⟨cs,t,(0,0),U,Ø _,c,b.1,b.2,λv j=>(d v j).r Z⟩
  .grind
def jm.r(h:jm m w)(p:û)(l:mC m w.heap.size v):jm m (w.setCell p v):=by
 intro i o f a;have n:(w.setCell p v).heap.size=w.heap.size:=fg
 rw[n];by_cases e:i=p.block
 .subst e;unfold ž at a;simp only[Ļ,if_true]at a;cases d:w.heap[p.block]? with
  |none=>rw[d]at a;cases a
  |some x=>
   rw[d]at a;obtain⟨c,e,r,rfl,g,j,s,t,k⟩:=h _ _ f d;simp only[Ą,Õ]at a;subst a;refine⟨_,e,r,U,?_,?_,s,t,λu b=> ?_⟩
   .split
    .exact g
    .rwa[İ]
   .split
    .exact j
    .rwa[İ]
   .split at b
    .exact k u b
    .rw[Array.toList_setIfInBounds]at b;rcases ī b with q|q
     .exact k u q
     .rwa[q]
 .rw[ĥ _ _ _ _ (by simpa using e)]at a;exact h i o f a
theorem aoQ{ty:đ}{bytes base:Nat}(y:P.underlying t=Â (.slice e))(B:P.info? e=Â zJ)(G:zJ.zero=Â (Ã Á)) (s:zJ.size=1) (H:zJ.bytes=bytes) (f:w.ownsRow base e 1 v n l) (a:û) (c:Nat) (C:∀j M,[z][j]?=Â M->w.cell? (a.add j)=Â M) (N:z.oneCell'=Î) (O:n+1<=ď) (I:(n+1)*bytes<=140737488355328) (W:base<=w.heap.size) (X:lI e=Ì) (hm:m<=base) (D:jm m w) (hg:mC m w.heap.size z) (Y:e≠304/\e≠305): ∃h u,(ě #[t,t] ty #[v,Æ (Â a) 1 c]).run P w=.ok h u/\pD w base e 1 v n l 1 [z] h u/\jm m u/\mC m u.heap.size h:=by
 obtain⟨h,u,J,E⟩:=Re y B G s H U f a c [z] Z U C (λx b=>by simp at b;subst b;exact N) O I W<|Ç X;have hgv:mC m u.heap.size h:=by
  obtain⟨p,o,rfl⟩:=jx E.fh;cases p with
  |none=>trivial
  |some p=>
   have k:=E.fh.lt p.block (by rcases E.fh.2 with⟨q,_⟩|⟨g,r,d,q,_⟩<;>(cases q;try rfl));exact⟨Z,k.2⟩
 refine⟨h,u,J,E,?_,hgv⟩;have q:[z].length=1*zJ.size:=by rw[s];rfl
 have hlx:l.length=n*zJ.size:=by rw[s];exact f.1
 have ajB:n+1<=9223372036854775807:=by simp only[ď]at O;omega
 have FN:∀x∈l,mC m w.heap.size x:=λx b=>by
  rcases f.2 with⟨_,rfl⟩|⟨g,r,d,rfl,hbg,p,hnc,hcm,Q,htake⟩
  .grind
  .let⟨c2,e2,pV,S,_,_,_,_,q6⟩:=D g _ Z p;grind
 have gr:∀T,jm m (w.drew.alloc<|Þ (l.toArray++[z].toArray++af (Ľ<|Ã Á) (grownCap w (n+1) T e-(n+1))) e):=λT=>by
  refine jm.gB D _ _ (by simp;omega) Y λx b=> ?_;simp only[Array.toList_append,æ]at b;rcases b with(b|b)|b
  .exact FN x b
  .grind
  .have:=Rc b;simp[Ľ]at this;subst this;trivial
 rcases f.2 with⟨rfl,rfl⟩|⟨g,r,d,rfl,hbg,p,hnc,hcm,Q,htake⟩
 .have b:=à (by simpa using f.1);subst b;have K:=run_append_nil w t ty e zJ (Ã Á) y B G a 1 c [z] q C Z Z (by rw[H];have k:=I;simp only[Ŗ]at k;omega);grind
 .by_cases aoR:n+1<=r
  .have Rf:n*zJ.size+[z].length<=d.size:=by rw[q,Q,s];omega
   have K:=run_append_room w t ty e zJ y B g n r d p a 1 c [z] q C (λx b=>by simp at b;subst b;exact N) aoR Rf;rw[K]at J;cases J;have aoS:=setRow_heap w g d (d.toList.take (n*zJ.size)++[z]++d.toList.drop (n*zJ.size+[z].length)).toArray e _ p;have aoT:=λk (L:k≠g)=>setRow_other w g k (d.toList.take (n*zJ.size)++[z]++d.toList.drop (n*zJ.size+[z].length)).toArray L;let⟨c2,e2,pV,S,q2,q3,q4,q5,q6⟩:=D g _ Z p;cases S;intro k o L F;have jV:(w.setRow g (d.toList.take (n*zJ.size)++[z]++d.toList.drop (n*zJ.size+[z].length)).toArray).heap.size=w.heap.size:=fg
   rw[jV];by_cases V:k=g
   .subst V;rw[aoS]at F;cases F;refine⟨_,_,_,U,fg,(by simp;omega),q4,q5,λx b=> ?_⟩;grind
   .rw[aoT k V]at F;exact D k o L F
  .have k:w.ownsRow base e zJ.size (Æ (Â ⟨g,0,Á⟩) n r) n l:=by rwa[s]
   have K:=run_append_grow w t ty e zJ (Ã Á) y B G ⟨g,0,Á⟩ n r l hlx (k.cells U) a 1 c [z] q C Z Z (by rw[H];exact growslice_fits Z I);grind
def U_{f:Array ġ}{E:Prop}{base:Nat} (k:o.guard=Á) (s x:Operand) (t:đ) (p:o.op=Op.call {callee:=Callee.builtin π,args:=#[s,x],argTypes:=#[t,t]}) {bytes:Nat} (q:P.underlying t=Â (.slice e)) (r:P.info? e=Â zJ) (B:zJ.zero=Â (Ã Á)) (C:zJ.size=1) (D:zJ.bytes=bytes) (F:y.eval s=v) (G:w.ownsRow base e 1 v n l) (ad:û) (H:y.eval x=Æ (Â ad) 1 b) (I:∀j g,[z][j]?=Â g->w.cell? (ad.add j)=Â g) (J:z.oneCell'=Î) (L:n+1<=ď) (M:(n+1)*bytes<=140737488355328) (N:base<=w.heap.size) (O:lI e=Ì) (S:m<=base) (T:jm m w) (V:mC m w.heap.size z) (W:e≠304/\e≠305) (h:∀d u,pD w base e 1 v n l 1 [z] d u->jm m u->mC m u.heap.size d->K (y.put o.dst d) u): if ĕ o (Ν f y.tmps)=Î then Oper.wp P o y w K vJ else E:=by
 have X:ĕ o (Ν f y.tmps)=Î:=by simp[ĕ,k]
 rw[if_pos X];let⟨d,u,Y,h2,h3,h4⟩:=aoQ (ty:=o.type) q r B C D G ad b I J L M N O S T V W;unfold Oper.wp;simp[ş,p,χ,ay,ψ,F,H,Y,Ŷ];exact h d u h2 h3 h4
def mV(l:List Nat):List Ñ:=l.map λa=>Ã<|Â ⟨a,0,Á⟩
def nT(l:List Int):List Ñ:=l.map λz=>Å É z
def Ep(p:PT):List Ñ:=nT p.c++[Ä p.p]
def BS(c:List Int)(a:Ñ):List Ñ:=nT c++[a]
structure oz(lo hi:Nat)(tb:List Nat)(l:List PT)(w:Í):Prop where
 r:tb.length=l.length
 I:∀(j a:Nat) (p:PT),tb[j]?=Â a->l[j]?=Â p->lo<=a/\a<hi/\p.c.length=5/\fc a (Ep p) 200 w
structure vl(B q:Nat)(r:PR)(w:Í):Prop where
 M:q<B
 C:r.c.length=8
 I:∃vb tb,fc q (BS r.c vb) 161 w/\w.ownsRow 0 149 1 vb tb.length (mV tb)/\(∀j,vb.ownBlock=Â j->j<B)/\oz 0 B tb r.r w
structure oY(B:Nat)(qs:List Nat)(rs:List PR)(w:Í):Prop where
 I:qs.length=rs.length
 M:∀(j q:Nat) (r:PR),qs[j]?=Â q->rs[j]?=Â r->vl B q r w
section
variable{w':Í}{lo hi B q:Nat}{tb qs:List Nat}{l:List PT}{r:PR}{rs:List PR}
def oz.C(h:oz lo hi tb l w)(k:eZ X w w')(f:∀a c g,lo<=a->a<hi->w.heap[a]?=Â (Þ c 200 g)->¬X a):oz lo hi tb l w':= ⟨h.r,λj a p i m=>by let⟨b,d,n,e⟩:=h.I j a p i m;exact⟨b,d,n,e.I k<|f a _ _ b d e⟩⟩
def oz.M(h:oz lo hi tb l w)(f:i<=lo)(g:hi<=n):oz i n tb l w:= ⟨h.r,λj a p b c=>by let⟨k,m,d,e⟩:=h.I j a p b c;exact⟨Z,Z,d,e⟩⟩
theorem oz.N(lo hi:Nat)(w:Í):oz lo hi [] [] w:=⟨U,λj a p h=>by cases h⟩
theorem Er{α:Type}{l:List α}{a x:α}(h:(l++[a])[j]?=Â x):l[j]?=Â x\/j=l.length/\x=a:=by grind
theorem oz.SO{p:PT}(h:oz lo hi tb l w)(g:lo<=i)(k:i<hi)(m:p.c.length=5)(n:fc i (Ep p) 200 w):oz lo hi (tb++[i]) (l++[p]) w:=by
 refine⟨by simp[h.r],λj x y d b=> ?_⟩;rcases Er d with e|⟨e,rfl⟩
 .rcases Er b with f|⟨f,rfl⟩
  .exact h.I j x y e f
  .have:=(Ö.1 e).1;have:=h.r;omega
 .rcases Er b with f|⟨f,rfl⟩
  .have:=(Ö.1 f).1;have:=h.r;omega
  .grind
def SQ(B:Nat)(w:Í)(i:Nat):Prop:=B<=i\/∃c T a,w.heap[i]?=Â (Þ c T a)/\(T=153\/T=148)
theorem SR(a:SQ B w i)(hi:i<B)(h:w.heap[i]?=Â (Þ d T xJ))(b:T≠153/\T≠148):False:=by rcases a with q|⟨e,f,pV,g,j⟩;all_goals grind
theorem vl.uL(h:vl B q r w)(k:eZ X w w')(d:∀i,i<w.heap.size->X i->SQ B w i):vl B q r w':=by let⟨f,tb,b,g,l,m⟩:=h.I;refine⟨h.M,h.C,f,tb,b.I k λx=>SR (d q b.M x) h.M b A,gV g k λj o x=> ?_,l,m.C k λa c p _ n e x=>SR (d a (å.1 e).1 x) n e A⟩;grind [lr,SR]
def vl.fH(h:vl B q r w)(a:B<=i):vl i q r w:=by let⟨b,tb,c,d,e,f⟩:=h.I;exact⟨by have:=h.M;omega,h.C,b,tb,c,d,λj g=>by have:=e j g;omega,f.M (ê _) a⟩
def oY.C(h:oY B qs rs w)(k:eZ X w w')(a:∀i,i<w.heap.size->X i->SQ B w i):oY B qs rs w':= ⟨h.I,λj q r b c=>(h.M j q r b c).uL k a⟩
def oY.SO(h:oY B qs rs w)(b:B<=i)(c:vl i q r w):oY i (qs++[q]) (rs++[r]) w:=by
 refine⟨by simp[h.I],λj x y d a=> ?_⟩;rcases Er d with e|⟨e,rfl⟩
 .rcases Er a with f|⟨f,rfl⟩
  .exact(h.M j x y e f).fH b
  .have:=(Ö.1 e).1;have:=h.I;omega
 .rcases Er a with f|⟨f,rfl⟩
  .have:=(Ö.1 f).1;have:=h.I;omega
  .exact c
theorem oY.N(B:Nat)(w:Í):oY B [] [] w:=⟨U,λj q r h=>by cases h⟩
end
structure Gh where
 a:List Nat
 q:Nat
 t:Nat
 B:Nat
 tb:List Nat
 N:Ñ
 r:Ñ
 b:Option û
namespace Gh
def C(g:Gh)(d:PD):List Nat:=if d.r then g.a++[g.q]else g.a
def I(g:Gh)(d:PD):List Nat:=if d.M then g.tb++[g.t]else g.tb
def S(g:Gh)(d:PD):Option û:=if d.r then Â ⟨g.q,0,Á⟩else Á
def Y(g:Gh)(d:PD):Option û:=if d.M then Â ⟨g.t,0,Á⟩else g.b
def M(g:Gh)(d:PD):Nat:=if d.M then g.t else g.q
def G(g:Gh)(d:PD):Option û:=if d.r then Â ⟨g.M d,0,Á⟩else Á
def BT(g:Gh)(d:PD)(a:Int):û:=if a=86 then⟨g.q,5,Á⟩else if a=87 then⟨g.q,6,Á⟩else if a=110 then⟨g.M d,2,Á⟩else⟨g.M d,3,Á⟩
end Gh
structure vm(m:Nat)(g:Gh)(d:PD)(w:Í):Prop where
 S:m<=g.B
 N:g.B<=g.q
 M:d.I.c.length=8
 r:fc g.q (BS d.I.c g.r) 161 w
 I:w.ownsRow g.B 149 1 g.r (g.I d).length (mV<|g.I d)
 Y:oz g.B g.t g.tb d.I.r w
 C:d.M=Î->g.B<=g.t/\d.N.c.length=5/\fc g.t (Ep d.N) 200 w
 a:d.M=Ì->g.tb=[]/\d.I.r=[]
structure kG(m:Nat)(g:Gh)(d:PD)(w:Í):Prop where
 C:w.ownsRow m 148 1 g.N (g.C d).length (mV<|g.C d)
 I:oY g.B g.a d.S w
 r:d.r=Î->vm m g d w
 N:d.r=Ì->d.M=Ì
def SS(s:ByteArray)(g:Gh)(d:PD)(a:Option û)(kO b:Int):List Ñ:=
 [Ä s,g.N,Ã<|g.S d,Ã<|g.Y d,Ã<|g.G d,Ã a,Å É kO,Å É b]
structure gK(m b:Nat)(g:Gh)(c:Option û)(s:ByteArray)(st:PS)(w:Í):Prop where
 S:m<=b
 a:jm m w
 r:fc b (SS s g st.d c st.r st.I) 153 w
 M:s.size<=10
 I:jI s=st.C
 C:kG m g st.d w
 c:0<st.r->st.d.r=Î/\c=Â (g.BT st.d st.M)
 N:st.d.r=Î\/st.C=[82]
def rN(m b:Nat)(st:PS)(w a:Í):Prop:=eZ (λi=>m<=i) w a/\∃g i s,gK m b g i s st a
section
variable{w':Í}{g:Gh}{d:PD}{s:ByteArray}{st:PS}
theorem vm.uL(h:vm m g d w)(k:eZ X w w')(p:∀i c T b,w.heap[i]?=Â (Þ c T b)->X i->T=153\/T=148):vm m g d w':=by
 have l:∀{i:Nat} {c:Array Ñ} {T:đ} {b:Nat×Nat},w.heap[i]?=Â (Þ c T b)->(T≠153/\T≠148)->¬X i:=λ{i c T b} n f x=>(p i c T b n x).elim f.1 f.2;refine⟨h.S,h.N,h.M,h.r.I k<|l h.r A,gV h.I k λj r=> ?_,h.Y.C k λa c b _ _ q=>l q A,λe=> ?_,h.a⟩
 .let⟨o,s⟩:=lr h.I r;grind
 .let⟨n,f,o⟩:=h.C e;exact⟨n,f,o.I k<|l o A⟩
theorem kG.S(h:kG m g d w)(k:eZ X w w')(b:∀i c T a,w.heap[i]?=Â (Þ c T a)->X i->T=153)(f:∀i,i<w.heap.size->X i->∃c a,w.heap[i]?=Â (Þ c 153 a)):kG m g d w':=by
 refine⟨gV h.C k λj l x=> ?_,h.I.C k λi n x=> ?_,λe=>(h.r e).uL k λi c T a q x=>Ç<|b i c T a q x,h.N⟩
 .let⟨o,q⟩:=lr h.C l;grind
 .let⟨c,a,q⟩:=f i n x;exact Ð ⟨c,_,a,q,Ç U⟩
def kG.M(h:kG m g d w)(a:fc b l 153 w)(k:eZ (λi=>i=b) w w'):kG m g d w':= h.S k (λi c T e q x=>by subst x;unfold fc at a;rw[a]at q;cases q;rfl) λi _ x=>⟨l.toArray,(0,0),by rwa[x]⟩
def oZ{i:Nat}{v:Value}{j:Nat}{vs:List Value}{T:TypeId}(h:fc j vs T w)(hT:lI T=false:=by decide):eZ (λk=>k=j) w (w.setCell ⟨j,i,none⟩ v):=eZ.I (X:=λk=>k=j) U v<|Ð<|h.G hT
def kG.U'(h:kG m g d w):(g.C d).length=d.C.length:=by unfold Gh.C PD.C;split<;>simp[h.I.I]
def vm.G(h:vm m g d w):(g.I d).length=d.Y.length:=by unfold Gh.I PD.Y;split<;>simp[h.Y.r]
def SU(h:i<zQ.length)(v:Ñ):(nT zQ++[v])[i]?=Â (Å É<|zQ.getD i 0):=by rw[ĩ (by simpa[nT]using h)];simp[nT,Ģ,h]
def V_(l:List Int)(i:Nat)(z:Int)(v:Ñ)(h:i<l.length):(nT l++[v]).set i (Å É z)=nT (l.set i z)++[v]:=by rw[List.set_append_left _ _ (by simpa[nT]using h)];simp[nT,List.map_set]
def W_(l:List Int)(v u:Ñ):(nT l++[v]).set l.length u=nT l++[u]:=by rw[Ĺ _ _ (by simp[nT])];simp[nT]
def BU(l:List Int)(v:Ñ):(nT l++[v])[l.length]?=Â v:=by rw[ģ (by simp[nT])];simp[nT]
theorem kG.Y(h:kG m g d w)(on:d.r=Î)(n:i<8)(z:Int):kG m g (d.uf i z) (w.setCell ⟨g.q,i,Á⟩<|Å É z):=by
 have l:=h.r on;have k:eZ (λk=>k=g.q) w (w.setCell ⟨g.q,i,Á⟩<|Å É z):=oZ l.r;have r:=l.N;refine⟨gV h.C k λj b x=>jl h.C l.r A (by rw[b,x]),h.I.C k λi _ x=>Ç Z,λ_=>⟨l.S,l.N,by simp[PD.uf,l.M],?_,gV l.I k λj b x=>jl l.I l.r A (by rw[b,x]),l.Y.C k λa c s _ _ q x=> ?_,λe=> ?_,l.a⟩,h.N⟩
 .have:=l.r.fW i<|Å É z;unfold BS at this;rw[V_ _ _ _ _ (by rwa[l.M])]at this;exact this
 .have:=l.r;unfold fc at this;grind
 .let⟨o,p,f⟩:=l.C e;exact⟨o,p,f.I k λx=>(fc.S f l.r A) x⟩
theorem kG.kt(h:kG m g d w)(on:d.r=Î)(f:d.M=Î){p:PT}(n:p.c.length=5)(r:(Ep d.N).set i v=Ep p):kG m g {d with N:=p} (w.setCell ⟨g.t,i,Á⟩ v):=by have l:=h.r on;let⟨o,s,b⟩:=l.C f;have k:eZ (λk=>k=g.t) w (w.setCell ⟨g.t,i,Á⟩ v):=oZ b;refine⟨gV h.C k λj e x=>jl h.C b A (by rw[e,x]),h.I.C k λi _ x=>Ç Z,λ_=>⟨l.S,l.N,l.M,l.r.I k λx=>(fc.S l.r b A) x,gV l.I k λj e x=>jl l.I b A (by rw[e,x]),l.Y.C k λa c u _ q _ x=>by omega,λ_=>⟨o,n,?_⟩,l.a⟩,h.N⟩;have:=b.fW i v;grind
def kG.G(h:kG m g d w)(on:d.r=Î)(a:d.M=Î)(c:i<5)(z:Int):kG m g (d.vk i z) (w.setCell ⟨g.t,i,Á⟩<|Å É z):=by let⟨e,b,f⟩:=(h.r on).C a;exact h.kt on a (by simp[b])<|V_ _ _ _ _<|by rwa[b]
def kG.sJ(h:kG m g d w)(on:d.r=Î)(a:d.M=Î)(p:ByteArray):kG m g (d.sJ p) (w.setCell ⟨g.t,5,Á⟩<|Ä p):=by let⟨e,b,f⟩:=(h.r on).C a;refine h.kt on a b ?_;have:=W_ d.N.c (Ä d.N.p)<|Ä p;rwa[b]at this
structure pP(m b:Nat)(g:Gh)(d:PD)(ab ao:Nat)(f:Int->PD)(x:Int)(w:Í):Prop where
 r:ab≠b
 N:m<=ab
 a:ab<w.heap.size
 C:w.cell? ⟨ab,ao,Á⟩=Â (Å É x)
 I:w.frozen? ⟨ab,ao,Á⟩=Ì
 nf:NF ab w
 Y:∀W,kG m g d W->∀z,kG m g (f z)<|W.setCell ⟨ab,ao,Á⟩<|Å É z
 M:∀z,g.S (f z)=g.S d/\g.Y (f z)=g.Y d/\g.G (f z)=g.G d/\(f z).r=d.r/\∀n,g.BT (f z) n=g.BT d n
theorem Es(h:kG m g d w)(f:fc b l 153 w)(on:d.r=Î)(e:i<8):pP m b g d g.q i (λz=>d.uf i z) (d.I.c.getD i 0) w:=by have a:=h.r on;exact⟨fc.S a.r f A,Ê a.S a.N,a.r.M,a.r.r i _ (SU (by rwa[a.M]) _),a.r.C i,a.r.G,λW j z=>j.Y on e z,λz=>⟨U,U,U,U,λn=>rfl⟩⟩
theorem X_(h:kG m g d w)(k:fc b l 153 w)(on:d.r=Î)(f:d.M=Î)(j:i<5):pP m b g d g.t i (λz=>d.vk i z) (d.N.c.getD i 0) w:=by have a:=h.r on;let⟨o,p,e⟩:=a.C f;exact⟨fc.S e k A,Ê a.S o,e.M,e.r i _ (SU (by rwa[p]) _),e.C i,e.G,λW q z=>q.G on f j z,λz=>⟨U,U,U,U,λn=>rfl⟩⟩
theorem Et(h:kG m g d w)(a:fc b l 153 w)(on:d.r=Î)(c:i<4):pP m b g d (g.M d) i (λz=>d.kt i z) (d.xo i) w:=by unfold PD.kt PD.xo Gh.M;split;all_goals grind [X_,Es]
theorem gK.G{f:Int->PD}(h:gK m b g O s st w)(n:pP m b g st.d i j f c w)(z:Int):gK m b g O s {st with d:=f z} (w.setCell ⟨i,j,Á⟩<|Å É z):=by
 let⟨e,l,o,a,p⟩:=n.M z;have k:eZ (λk=>k=i) w (w.setCell ⟨i,j,Á⟩<|Å É z):=eZ.I (X:=λk=>k=i) U _<|Ç U;refine⟨h.S,h.a.r _ trivial,?_,h.M,h.I,n.Y w h.C z,λq=> ?_,?_⟩
 .have:=h.r.I k λc=>n.r c.symm;unfold SS at this|-;grind
 .let⟨r,t⟩:=h.c q;grind
 .simp only[a];exact h.N
def gK.LJ(h:gK m b g O s st w)(a:ByteArray)(r:List Int)(c:a.size<=10)(e:jI a=r)(f:st.d.r=Î\/r=[82]):gK m b g O a {st with C:=r} (w.setCell ⟨b,0,Á⟩<|Ä a):= ⟨h.S,h.a.r _ trivial,h.r.fW 0 _,c,e,h.C.M h.r<|oZ h.r,h.c,f⟩
def gK.Y(h:gK m b g O s st w)(z:Int)(a:0<z->st.d.r=Î/\O=Â (g.BT st.d st.M)):gK m b g O s {st with r:=z} (w.setCell ⟨b,6,Á⟩<|Å É z):= ⟨h.S,h.a.r _ trivial,h.r.fW 6 _,h.M,h.I,h.C.M h.r<|oZ h.r,a,h.N⟩
def gK.X'(h:gK m b g O s st w)(z:Int):gK m b g O s {st with I:=z} (w.setCell ⟨b,7,Á⟩<|Å É z):= ⟨h.S,h.a.r _ trivial,h.r.fW 7 _,h.M,h.I,h.C.M h.r<|oZ h.r,h.c,h.N⟩
def gK.Y_(h:gK m b g O s st w)(a:û)(n:Int)(d:st.r=0)(c:m<=a.block/\a.block<w.heap.size):gK m b g (Â a) s {st with M:=n} (w.setCell ⟨b,5,Á⟩<|Ã<|Â a):= ⟨h.S,h.a.r _ c,h.r.fW 5 _,h.M,h.I,h.C.M h.r<|oZ h.r,λq=>by have:0<st.r:=q;omega,h.N⟩
def gK.fM(h:gK m b g O s st w):gK m b g O s st w.drew:=by have k:=eZ.fM e9 w;exact⟨h.S,h.a,h.r.I k id,h.M,h.I,h.C.S k (λ_ _ _ _ _ x=>x.elim) λ_ _ x=>x.elim,h.c,h.N⟩
end
section
variable{g:Gh}{st:PS}{f:Int->PD}
def pP.S{d:PD}(a:pP m b g d n j f h w)(i:Nat)(v:Ñ):pP m b g d n j f h (w.setCell ⟨b,i,Á⟩ v):= ⟨a.r,a.N,by simpa using a.a,by rw[GV<|Ne.symm a.r];exact a.C,by rw[World.frozen?_setCell];exact a.I,λc T e q=>a.nf c T e (by rwa[ĥ _ _ _ _ (by simpa using a.r)]at q),a.Y,a.M⟩
def gK.SV(h:gK m b g O B st w)(n:Int)(a:st.r=0):gK m b g O B {st with M:=n} w:= ⟨h.S,h.a,h.r,h.M,h.I,h.C,λq=>by have:0<st.r:=q;omega,h.N⟩
def me(h:gK m b g O B st w)(i:Nat)(v:Ñ):eZ (λi=>m<=i) w (w.setCell ⟨b,i,Á⟩ v):=eZ.I (X:=λi=>m<=i) (p:=⟨b,i,Á⟩) h.S v<|Ð h.r.G
def Eu(a:pP m b g st.d n j f h w)(z:Int):eZ (λi=>m<=i) w (w.setCell ⟨n,j,Á⟩<|Å É z):=eZ.I (X:=λi=>m<=i) (p:=⟨n,j,Á⟩) a.N _<|Ç U
def vn(c a:Int):Int:=if c=104\/c=48 then 0 else a-1
def mb(c:Int):Int:=if c=104 then-1 else(c-48)%256
def SY{st:PS}(h:st.r=0)(n:Int)(d:PD):({st with r:=0,M:=n,d:=d}:PS)={st with M:=n,d:=d}:=by rw[<-h]
def LK(a:gK m b g O B st w)(k:pP m b g st.d n j f h w)(l:st.r=0)(p:st.d.r=Î)(c o i:Int)(C:0<=o)(D:o<=6)(q:∀z,g.BT (f z) i=⟨n,j,Á⟩): Ó À 147 #[Ã<|Â ⟨b,0,Á⟩,Ã<|Â ⟨n,j,Á⟩,Å ŭ c,Å É o] w λe u=>
  e=È (ï #[])/\rN m b {st with r:=vn c o,M:=i,d:=f (mb c)} w u:=by
 have E:=a.r.r 5 _ U;have F:=a.r.r 6 _ U;have G:=a.r.C 5;have I:=a.r.C 6;have J:=k.C;have K:=k.I;have L:=k.r;have M:¬b=n:=λe=>k.r e.symm;have t:m<=n/\n<w.heap.size:=⟨k.N,k.a⟩;have H:=e7<|Ë a<|Ë k<|Ë q<|Ë l p;by_cases s:c=104
 .subst s;go_enter ř,Ŏ;go_wp2;first|go_end0|refine ā (results_none U _ _ _) U ?_
  let⟨a,k,q,l,p⟩:=H.out;refine⟨U,Eu k _,g,O,B,?_⟩;have:=(a.G k<|-1).SV i l;rw[show vn 104 o=0 from if_pos<|Ç U,SY l];exact this
 .have N:(c==104)=Ì:=by rwa[beq_eq_false_iff_ne]
  have v:mb c=(c-48)%256:=if_neg s;by_cases y:c=48
  .subst y;go_enter ř,Ŏ;go_wp2;go_end0;let⟨a,k,q,l,p⟩:=H.out;have x:=a.Y_ ⟨n,j,Á⟩ i l t;have r:=k.S 5<|Ã<|Â ⟨n,j,Á⟩;refine⟨U,(me a 5 _).e8<|Eu r _,g,Â ⟨n,j,Á⟩,B,?_⟩;have:=x.G r 0;rw[show vn 48 o=0 from if_pos<|Ð U,SY l,v];exact this
  .go_enter ř,Ŏ;go_wp2;go_end0;let⟨a,k,q,l,p⟩:=H.out;have r:=k.S 5<|Ã<|Â ⟨n,j,Á⟩;have x:=(a.Y_ ⟨n,j,Á⟩ i l t).G r<|(c-48)%256;refine⟨U,((me a 5 _).e8<|Eu r _).e8<|me x 6 _,g,Â ⟨n,j,Á⟩,B,?_⟩;rw[show vn c o=o-1 from if_neg Z,v];exact(x.Y (o-1) λ_=>⟨by simp only;rwa[(k.M _).2.2.2.1],by simp only;rw[q]⟩)
theorem LL{b a:Int}(h:pO a c=Î)(d:(a=86\/a=87)/\b=2\/(a=110\/a=107)/\b=6):vn c b=rL a c:=by unfold vn rL;unfold pO at h;grind [En]
theorem LN{a:Int}(h:¬(a=86\/a=87)/\¬(a=110\/a=107)):rL a c=0:=by unfold rL;grind
theorem LO{a:Int}(h:a=86\/a=87\/a=110\/a=107):nD a c=mb c:=by unfold nD mb;grind
def SZ(a:gK m b g O B st w)(k:pP m b g st.d n j f h w)(l:st.r=0){i z:Int}(e:c=0)(o:u=(w.setCell ⟨n,j,Á⟩<|Å É z).drew):rN m b {st with r:=c,M:=i,d:=f z} w u:=by subst o;subst e;rw[SY l];exact⟨(Eu k z).e8<|eZ.fM _ _,g,O,B,((a.G k z).SV i l).fM⟩
end
section
variable{g:Gh}{st:PS}
def HB{d:PD}(a:d.M=Î):g.Y d=Â ⟨g.t,0,Á⟩:=if_pos a
def aoU:zp st 0=Á:=rfl
def aoV(h:gK m b g O B st w)(r:st.r=0)(on:st.d.r=Î)(f:st.d.M=Î)(k:Int): Ó À 101 #[Ã<|Â ⟨b,0,Á⟩,Å É k] w λe u=>match zp st k with
  |none=>e=È (î Ì)/\u=w
  |some a=>e=È (î Î)/\rN m b a w u:=by
 have s:=h.r.r 0 _ U;have o:=h.r.r 3 _ U;have v:=h.r.r 7 _ U;rw[HB f]at o;have x:=h.r.C 0;have y:=h.r.C 7;have a:=X_ h.C h.r on f (i:=4) A;have z:=a.C;have C:=a.I;have D:=a.r;have E:¬b=g.t:=λe=>a.r e.symm;have H:=e7<|Ë h a;by_cases c:k=0
 .subst c;rw[aoU];go_enter Ξ,ſ;go_wp2;go_ret;exact⟨U,U⟩
 .have F:(k==0)=Ì:=by rwa[beq_eq_false_iff_ne]
  have e:zp st k=Â {st with C:=vi k,I:=0,d:=st.d.vk 4 k}:=if_neg c;rw[e];go_enter Ξ,ſ;go_wp2_with (go_at_call 148;refine(aoP _ _).mono ?_;rintro e u ⟨⟨j,rfl,p,q⟩,l⟩;subst u);go_ret;let⟨h,a⟩:=H.out;have l:=h.G a k;have n:=l.X' 0;exact⟨U,((Eu a k).e8<|me l 7 _).e8<|me n 0 _,g,O,j,n.LJ j _ p q<|Ç on⟩
end
def aoW:(À.info? 149).map (λi=>(i.zero,i.size,i.bytes))=Â (Â<|Ã Á,1,8):=fj
def aoX:(À.info? 148).map (λi=>(i.zero,i.size,i.bytes))=Â (Â<|Ã Á,1,8):=fj
section
variable{g:Gh}{nm:Option û}{s:ByteArray}{st:PS}{d:PD}{T:Nat}
structure ui(m:Nat)(g:Gh)(d:PD)(T:Nat)(w:Í):Prop where
 C:w.ownsRow m 148 1 g.N (g.C d).length (mV<|g.C d)
 I:oY g.B g.a d.S w
 N:oz g.B T (g.I d) d.Y w
 tb:fc T (Ep PD.El) 200 w
def HC(x:i=j)(h:fc j l t w):w.heap[i]?=Â (Þ l.toArray t (0,0)):=by rwa[x]
theorem ui.r(h:ui m g d T w)(k:eZ X w u)(f:∀i,i<w.heap.size->X i->∃c t b,w.heap[i]?=Â (Þ c t b)/\(t=153\/(t=161\/t=149)/\g.B<=i)):ui m g d T u:=by
 have e:∀{i:Nat} {c:Array Ñ} {t:đ} {b:Nat×Nat},w.heap[i]?=Â (Þ c t b)->(t≠153/\t≠161/\t≠149)->¬X i:=λ{i c t b} q1 q2 x=>by grind
 refine⟨gV h.C k λj l=> ?_,h.I.C k λi n x=> ?_,h.N.C k λa c b _ _ q=>e q A,h.tb.I k<|e h.tb A⟩
 .let⟨o,p⟩:=lr h.C l;grind
 .let⟨r,s,pV,o,p⟩:=f i n x;rcases p with rfl|⟨_,z⟩
  .exact Ð ⟨_,_,_,o,Ç U⟩
  .exact Ç z
def ui.fF(h:ui m g d T w)(k:eZ e9 w u):ui m g d T u:=h.r k λ_ _ x=>x.elim
def ui.M(h:ui m g d T w)(a:fc b l 153 w):ui m g d T (w.setCell ⟨b,i,Á⟩ v):= h.r (oZ a) λi _ x=>⟨_,_,_,HC x a,Ç U⟩
theorem vm.Z_(l:vm m g d w):oz g.B w.heap.size (g.I d) d.Y w:=by
 unfold Gh.I PD.Y;split
 .rename_i e;let⟨b,c,a⟩:=l.C e;have:=a.M;exact(l.Y.M (ê _) Z).SO b a.M c a
 .rename_i e;let⟨b,c⟩:=l.a (by simpa using e);grind [oz.N]
theorem jm.C(n:jm m w)(g:fc b l e w)(C:m<=b)(p:e≠304/\e≠305)(d:Array Ñ)(t:đ)(u:0<d.size)(r:t≠304/\t≠305)(h:∀v∈d.toList,mC m (w.heap.size+1) v):jm m ((w.setCell ⟨b,i,Á⟩<|Ã<|Â ⟨w.heap.size,0,Á⟩).alloc<|Þ d t):=by
 have s:(w.setCell ⟨b,i,Á⟩<|Ã<|Â ⟨w.heap.size,0,Á⟩).heap.size=w.heap.size:=fg
 have D:=g.M;intro j o k c;have x:((w.setCell ⟨b,i,Á⟩<|Ã<|Â ⟨w.heap.size,0,Á⟩).alloc<|Þ d t).heap.size=w.heap.size+1:=fg
 rw[x];by_cases a:j<w.heap.size
 .rw[Ť _ _ _ (by rwa[s])]at c;by_cases f:j=b
  .subst f;have:=g.fW i<|Ã<|Â ⟨w.heap.size,0,Á⟩;unfold fc at this;rw[this]at c;cases c;let⟨E,F,G,y,H,z,I,J,B⟩:=n j _ k g;cases y;refine⟨_,_,_,U,fg,by simpa using z,p.1,p.2,λv h=> ?_⟩;rcases ī (by simpa using h)with q|q
   .exact(B v<|by simpa using q).r Z
   .rw[q];exact⟨Ê k<|Ś a,Nat.lt_succ_self _⟩
  .rw[ĥ _ _ _ _ (by simpa using f)]at c;exact(n j o k c).r Z
 .by_cases f:j=w.heap.size
  .have:=ŷ (w.setCell ⟨b,i,Á⟩<|Ã<|Â ⟨w.heap.size,0,Á⟩)<|Þ d t;rw[s]at this;rw[f,this]at c;cases c;exact⟨_,_,_,U,Ø _,u,r.1,r.2,h⟩
  .grind
def LP(b:Nat)(w:Í):Í:=(w.setCell ⟨b,3,Á⟩<|Ã<|Â ⟨w.heap.size,0,Á⟩).alloc<|Þ #[Å É 0,Å É 0,Å É 0,Å É 0,Å É 0,Ä ⟨#[]⟩] 200
def rdM(s:ByteArray)(g:Gh)(d:PD)(a b nm:Option û)(kO c:Int):List Ñ:=
 [Ä s,g.N,Ã<|g.S d,Ã a,Ã b,Ã nm,Å É kO,Å É c]
structure Ev(m b:Nat)(g:Gh)(d:PD)(T:Nat)(s:ByteArray)(tm nm:Option û)(kO S0:Int)(w0 w:Í):Prop where
 S:eZ (λi=>m<=i) w0 w
 N:jm m w
 r:fc b (rdM s g d (Â ⟨T,0,Á⟩) tm nm kO S0) 153 w
 M:ui m g d T w
 I:fc g.q (BS d.I.c g.r) 161 w
 C:w.ownsRow g.B 149 1 g.r (g.I d).length (mV<|g.I d)
def Ev.fF{kO:Int}(h:Ev m b g d T s O nm kO c W w)(k:eZ e9 w u)(a:jm m u):Ev m b g d T s O nm kO c W u:= ⟨h.S.C k λ_ _ x=>x.elim,a,h.r.I k id,h.M.fF k,h.I.I k id,gV h.C k λ_ _=>id⟩
theorem gK.aoY(h:gK m b g nm s st w)(on:st.d.r=Î):Ev m b g st.d w.heap.size s (g.G st.d) nm st.r st.I w (LP b w):=by
 have l:=h.C.r on;have p:(w.setCell ⟨b,3,Á⟩<|Ã<|Â ⟨w.heap.size,0,Á⟩).heap.size=w.heap.size:=fg
 have n:eZ e9 (w.setCell ⟨b,3,Á⟩<|Ã<|Â ⟨w.heap.size,0,Á⟩) (LP b w):=eZ.gB _ _ _ _;have r:eZ (λk=>k=b) w (w.setCell ⟨b,3,Á⟩<|Ã<|Â ⟨w.heap.size,0,Á⟩):=oZ h.r;have e:=r.C n λ_ _ x=>x.elim;refine⟨e.S λk _ x=>by rw[x];exact h.S,?_,(h.r.fW 3 _).I n id,⟨gV h.C.C e λj f x=>jl h.C.C h.r A (by rw[f,x]),h.C.I.C e λi _ x=>Ð ⟨_,_,_,HC x h.r,Ç U⟩,l.Z_.C e λa c t _ _ q x=> ?_,?_⟩,l.r.I e λx=>fc.S l.r h.r A x,gV l.I e λj f x=>jl l.I h.r A<|by rw[f,x]⟩
 .exact h.a.C h.r h.S A _ _ fg A λv o=>by simp at o;rcases o with rfl|rfl<;>trivial
 .have o:=h.r;unfold fc at o;grind
 .have:=fc.N (w.setCell ⟨b,3,Á⟩<|Ã<|Â ⟨w.heap.size,0,Á⟩) [Å É 0,Å É 0,Å É 0,Å É 0,Å É 0,Ä ⟨#[]⟩] 200;rwa[p]at this
def S2(g:Gh)(d:PD)(T:Nat)(v:Ñ):Gh:={g with t:=T,tb:=g.I d,r:=v}
theorem Ev.jz(h:Ev m b g st.d T s O nm st.r st.I w u)(C:m<=b)(on:st.d.r=Î)(a:m<=g.B/\g.B<=g.q/\st.d.I.c.length=8)(D:g.B<=T)(hd:st.r=0) (l:pD u g.B 149 1 g.r (g.I st.d).length (mV<|g.I st.d) 1 [Ã<|Â ⟨T,0,Á⟩] v W) (K:jm m W) (L:mC m W.heap.size v) (n:jX=((W.setCell ⟨g.q,8,Á⟩ v).setCell ⟨b,4,Á⟩<|Ã<|Â ⟨T,0,Á⟩).setCell ⟨b,0,Á⟩ (Ä ⟨#[84]⟩)): eZ (λi=>m<=i) w jX/\gK m b (S2 g st.d T v) nm ⟨#[84]⟩ {st with C:=[84],d:=st.d.sK} jX:=by
 have E:∀{j:Nat} {M:List Ñ} {t:đ},fc j M t u->149≠t->¬g.r.ownBlock=Â j:=λN f=>jl h.C N f;have F:=h.r.I l.r<|E h.r A;have f:=h.I.I l.r<|E h.I A;have P:=h.M.r l.r λi _ x=>by let⟨k,z⟩:=lr h.C x;exact⟨_,_,_,z,Ð ⟨Ð U,(h.C.lt i x).1⟩⟩
 have o:eZ (λk=>k=g.q) W (W.setCell ⟨g.q,8,Á⟩ v):=oZ f;have G:fc g.q (BS st.d.I.c v) 161 (W.setCell ⟨g.q,8,Á⟩ v):=by have:=f.fW 8 v;have e:=W_ st.d.I.c g.r v;rw[a.2.2]at e;unfold BS at this|-;grind
 have z:=F.I o λx=>fc.S F f A x;have H:=P.r o λi _ x=>⟨_,_,_,HC x f,Ð ⟨Ç U,by rw[x];exact a.2.1⟩⟩;have I:=gV l.fh o λj p x=>jl l.fh f A (by rw[p,x]);have Q:jm m (W.setCell ⟨g.q,8,Á⟩ v):=K.r _ L;have S:eZ (λk=>k=b) (W.setCell ⟨g.q,8,Á⟩ v) ((W.setCell ⟨g.q,8,Á⟩ v).setCell ⟨b,4,Á⟩<|Ã<|Â ⟨T,0,Á⟩):=oZ z;have r:=z.fW 4<|Ã<|Â ⟨T,0,Á⟩;have V:eZ (λk=>k=b) ((W.setCell ⟨g.q,8,Á⟩ v).setCell ⟨b,4,Á⟩<|Ã<|Â ⟨T,0,Á⟩) jX:=by rw[n];exact oZ r
 have J:=r.fW 0<|Ä ⟨#[84]⟩;rw[<-n]at J;have k:ui m g st.d T jX:=by rw[n];exact(H.M z).M r
 have y:=S.e8 V;have X:=G.I y λx=>fc.S G z A x;have Y:=gV I y λj p x=>jl I z A (by rw[p,x]);have hTl:=H.tb.M;have c5:jm m jX:=by rw[n];refine(Q.r _ ?_).r _ trivial;exact⟨Ê a.1 D,hTl⟩
 have e1:(g.I st.d++[T]).length=(g.I st.d).length+1:=fg
 have e2:mV (g.I st.d++[T])=mV (g.I st.d)++[Ã<|Â ⟨T,0,Á⟩]:=by simp[mV]
 refine⟨((h.S.C l.r λi _ x=> ?_).C o λi _ x=> ?_).C y λi _ x=> ?_,C,c5,?_,A,U,⟨k.C,k.I,λ_=>⟨a.1,a.2.1,a.2.2,X,?_,k.N,λ_=>⟨D,U,k.tb⟩,λe=>by cases e⟩,λe=> ?_⟩,λe=> ?_,Ç on⟩
 .have:=(h.C.lt i x).1;have:=a.1;omega
 .grind
 .rwa[x]
 .have e:(S2 g st.d T v).S st.d.sK=g.S st.d:=U;unfold SS;rw[e];have e4:(S2 g st.d T v).G st.d.sK=Â ⟨T,0,Á⟩:=if_pos on;rwa[e4]
 .show jX.ownsRow g.B 149 1 v (g.I st.d++[T]).length (mV<|g.I st.d++[T]);rwa[e1,e2]
 .have:st.d.r=Ì:=e;grind
 .grind
def Z'(h:gK m b g nm s st w)(C:st.r=0)(o:st.d.r=Î)(D:st.d.Y.length<=100000): Ó À 99 #[Ã<|Â ⟨b,0,Á⟩] w λe u=>e=È (ï #[])/\rN m b {st with C:=[84],d:=st.d.sK} w u:=by
 have Y:=h.r.r 3 _ U;have f3:=h.r.C 3;have gH:=h.r.M;have l:=h.C.r o;have y:=h.aoY o;have E:=λv=>by have:=BU st.d.I.c v;rwa[l.M]at this
 have F:m<=g.B/\g.B<=g.q/\st.d.I.c.length=8:=⟨l.S,l.N,l.M⟩;have G:g.B<=w.heap.size:=by have:=l.r.M;have:=l.N;omega
 have I:(g.I st.d).length<=100000:=by rwa[l.G]
 have J:=h.S;have H:=e7<|Ë F<|Ë G<|Ë I<|Ë J<|Ë C o;have j:=e7<|E g.r;have x:g.S st.d=Â ⟨g.q,0,Á⟩:=if_pos o;go_enter Tryz.func99,Tryz.ntmps99;go_wp2_with fail;change ä À _ _ _ (LP b w);have k:=y.fF (eZ.fM _ _) y.N.fM;generalize hT:w.heap.size=T at*;generalize L:(LP b w).drew=w1 at*;let⟨i0,M,N,O,P⟩:=Ų aoW;have p:=e7<|Ë M<|Ë N<|Ë O P;refine lM (λu=>u.cell? ⟨b,2,Á⟩=Â (Ã<|g.S st.d)/\u.cell? ⟨b,3,Á⟩=Â (Ã<|Â ⟨T,0,Á⟩)/\u.cell? ⟨g.q,8,Á⟩=Â g.r) [19] fj ?_;rw[L];rw[x];have Q:Hid (w1.cell? ⟨b,2,Á⟩=Â (Ã<|Â ⟨g.q,0,Á⟩)/\w1.cell? ⟨b,3,Á⟩=Â (Ã<|Â ⟨T,0,Á⟩)/\w1.cell? ⟨g.q,8,Á⟩=Â g.r):=e7 ⟨by rw[<-x];exact k.r.r 2 _ U,k.r.r 3 _ U,k.I.r 8 _ j.out⟩;have r:=e7 x;iterate 15 apply tk Q.out
 have S:=k.M.tb.M;have a:=k.fF (eZ.gB e9 w1 #[Ã<|Â ⟨T,0,Á⟩] 149) (k.N.gB _ _ fg A λv f=>by simp at f;subst f;exact⟨Ê H.out.1.1 H.out.2.1,S⟩);apply gq 15;intro K i;go_simp;refine i.out _ _ (λ_=>⟨by rw[<-r.out];exact a.r.r 2 _ U,a.r.r 3 _ U,a.I.r 8 _ j.out⟩) ?_;apply gq 16;intro K i;refine U_ fR _ _ 159 fR Tryz.underlying159 p.out.1 p.out.2.1 p.out.2.2.1 p.out.2.2.2 fR a.C ⟨w1.heap.size,0,Á⟩ fR (Ο w1 _ _) U (by have:=H.out.2.2.1;unfold ď;omega) (by have:=H.out.2.2.1;omega) (by have:=H.out.2.1;have:=a.M.tb.M;omega) A H.out.1.1 a.N ⟨Ê H.out.1.1 H.out.2.1,a.M.tb.M⟩ A ?_;intro v9 w9 t V W;obtain⟨a9,n9c,rfl⟩:=jx t.fh;have f:=a.r.I t.r<|jl a.C a.r A;have n:=a.I.I t.r<|jl a.C a.I A;refine i.out _ _ (λ_=>⟨by rw[<-r.out];exact f.r 2 _ U,f.r 3 _ U,n.r 8 _ j.out⟩) ?_;apply gq 17;intro K i;go_simp;refine i.out _ _ (λ_=>⟨by rw[<-r.out];exact f.r 2 _ U,f.r 3 _ U,n.r 8 _ j.out⟩) ?_;apply gq 18;intro K i;go_simp;refine i.out _ _ (λ_=>⟨by rw[<-r.out];exact f.r 2 _ U,f.r 3 _ U,n.r 8 _ j.out⟩) ?_;have cq8:=n.r 8 _ j.out;have fq8:=n.C 8;have cb4:=f.r 4 _ U;have fb4:=f.C 4;have cb0:=f.r 0 _ U;have fb0:=f.C 0;have cb3:=f.r 3 _ U;have X:=fc.S n f A;have hbq:¬b=g.q:=λe=>X e.symm;apply gq 19;intro K i;go_simp;apply i.out _ _ λz=>absurd A z;refine ly fj ?_ _;have z:=e7<|a.jz H.out.2.2.2.1 o H.out.1 H.out.2.1 H.out.2.2.2.2.1 t V W U;go_wp2_with fail;go_end0;exact⟨U,z.out.1,_,_,_,z.out.2⟩
end
section
variable{g:Gh}{nm:Option û}{s:ByteArray}{f:PS}{d:PD}{Q:Nat}{k:Int}
def aoZ(h:w.ownsRow i e 1 v n l)(c:j<=i):w.ownsRow j e 1 v n l:= ⟨h.1,h.2.imp id λ⟨g,d,f,a,b,r⟩=>⟨g,d,f,a,Ê c b,r⟩⟩
def vm.fU(l:vm m g d w):vl w.heap.size g.q ⟨d.I.c,d.Y⟩ w:= ⟨l.r.M,l.M,g.r,g.I d,l.r,aoZ l.I<|Ø _,λj a=>(l.I.lt j a).2,l.Z_.M (Ø _)<|ê _⟩
theorem kG.aac(h:kG m g d w)(a:d.r=Ì->d.S=[]):oY w.heap.size (g.C d) d.C w:=by
 unfold Gh.C PD.C;split
 .rename_i e;have l:=h.r e;have b:=l.r.M;have c:=l.N;exact h.I.SO Z l.fU
 .rename_i e;have f:=a (by simpa using e);have:=h.I.I;grind [à,oY.N]
def LQ(b:Nat)(k:Int)(w:Í):Í:=(w.setCell ⟨b,2,Á⟩<|Ã<|Â ⟨w.heap.size,0,Á⟩).alloc<|Þ #[Å É 0,Å É 0,Å É 0,Å É 0,Å É k,Å É 0,Å É 0,Å É 0,Æ Á 0 0] 161
def rdQ(s:ByteArray)(g:Gh)(d:PD)(Q:Nat)(nm:Option û)(kO a:Int):List Ñ:=
 [Ä s,g.N,Ã<|Â ⟨Q,0,Á⟩,Ã<|g.Y d,Ã<|g.G d,Ã nm,Å É kO,Å É a]
structure Ew(m b:Nat)(g:Gh)(d:PD)(Q:Nat)(k:Int)(s:ByteArray)(nm:Option û)(kO S0:Int)(w0 w:Í):Prop where
 S:eZ (λi=>m<=i) w0 w
 M:jm m w
 r:fc b (rdQ s g d Q nm kO S0) 153 w
 I:fc Q (BS (PD.S' k).c<|Æ Á 0 0) 161 w
 N:oY Q (g.C d) d.C w
 C:w.ownsRow m 148 1 g.N (g.C d).length (mV<|g.C d)
def Ew.fF{kO:Int}(h:Ew m b g d Q k s nm kO c W w)(a:eZ e9 w u)(e:jm m u):Ew m b g d Q k s nm kO c W u:= ⟨h.S.C a λ_ _ x=>x.elim,e,h.r.I a id,h.I.I a id,h.N.C a λ_ _ x=>x.elim,gV h.C a λ_ _=>id⟩
def gK.ao0(h:gK m b g nm s f w)(k:Int)(l:f.d.r=Ì->f.d.S=[]):Ew m b g f.d w.heap.size k s nm f.r f.I w (LQ b k w):=by
 have n:(w.setCell ⟨b,2,Á⟩<|Ã<|Â ⟨w.heap.size,0,Á⟩).heap.size=w.heap.size:=fg
 have c:eZ e9 (w.setCell ⟨b,2,Á⟩<|Ã<|Â ⟨w.heap.size,0,Á⟩) (LQ b k w):=eZ.gB _ _ _ _;have o:eZ (λk=>k=b) w (w.setCell ⟨b,2,Á⟩<|Ã<|Â ⟨w.heap.size,0,Á⟩):=oZ h.r;have a:=o.C c λ_ _ x=>x.elim;refine⟨a.S λk _ x=>by rw[x];exact h.S,?_,(h.r.fW 2 _).I c id,?_,(h.C.aac l).C a λi _ x=>Ð ⟨_,_,_,HC x h.r,Ç U⟩,gV h.C.C a λj p x=>jl h.C.C h.r A<|by rw[p,x]⟩
 .exact h.a.C h.r h.S A _ _ fg A λv e=>by simp at e;rcases e with rfl|rfl|rfl|rfl<;>trivial
 .have:=fc.N (w.setCell ⟨b,2,Á⟩<|Ã<|Â ⟨w.heap.size,0,Á⟩) [Å É 0,Å É 0,Å É 0,Å É 0,Å É k,Å É 0,Å É 0,Å É 0,Æ Á 0 0] 161;rwa[n]at this
def ao1(g:Gh)(d:PD)(Q:Nat)(v:Ñ):Gh:={a:=g.C d,q:=Q,t:=Q,B:=Q,tb:=[],N:=v,r:=Æ Á 0 0,b:=g.Y d}
theorem Ew.jz{sb:ByteArray}(h:Ew m b g f.d Q k s nm f.r f.I w u)(o:m<=b)(p:m<=Q)(S:f.r=0)(y:sb.size<=10)(B:jI sb=vh k) (a:pD u m 148 1 g.N (g.C f.d).length (mV<|g.C f.d) 1 [Ã<|Â ⟨Q,0,Á⟩] v W) (C:jm m W) (D:mC m W.heap.size v) (l:jX=((W.setCell ⟨b,1,Á⟩ v).setCell ⟨b,4,Á⟩<|Ã<|Â ⟨Q,0,Á⟩).setCell ⟨b,0,Á⟩ (Ä sb)): eZ (λi=>m<=i) w jX/\gK m b (ao1 g f.d Q v) nm sb {f with C:=vh k,d:=f.d.Eo k} jX:=by
 have c:=h.r.I a.r<|jl h.C h.r A;have n:=h.I.I a.r<|jl h.C h.I A;have E:=h.N.C a.r λi _ x=>by let⟨e,z⟩:=lr h.C x;exact Ð ⟨_,_,_,z,Ð U⟩
 have F:eZ (λk=>k=b) W (W.setCell ⟨b,1,Á⟩ v):=oZ c;have q:=c.fW 1 v;have G:eZ (λk=>k=b) (W.setCell ⟨b,1,Á⟩ v) ((W.setCell ⟨b,1,Á⟩ v).setCell ⟨b,4,Á⟩<|Ã<|Â ⟨Q,0,Á⟩):=oZ q;have r:=q.fW 4<|Ã<|Â ⟨Q,0,Á⟩;have H:eZ (λk=>k=b) ((W.setCell ⟨b,1,Á⟩ v).setCell ⟨b,4,Á⟩<|Ã<|Â ⟨Q,0,Á⟩) jX:=by rw[l];exact oZ r
 have t:=r.fW 0<|Ä sb;rw[<-l]at t;have z:=(F.e8 G).e8 H;have I:=n.I z λx=>fc.S n c A x;have J:=E.C z λi _ x=>Ð ⟨_,_,_,HC x c,Ç U⟩;have K:=gV a.fh z λj L x=>jl a.fh c A (by rw[L,x]);have M:Q<(W.setCell ⟨b,1,Á⟩ v).heap.size:=by simpa using n.M
 have N:jm m jX:=by rw[l];refine((C.r _ D).r _ ?_).r _ trivial;exact⟨p,M⟩
 have O:(g.C f.d++[Q]).length=(g.C f.d).length+1:=fg
 have P:mV (g.C f.d++[Q])=mV (g.C f.d)++[Ã<|Â ⟨Q,0,Á⟩]:=by simp[mV]
 refine⟨(h.S.C a.r λi _ x=> ?_).C z λi _ x=> ?_,o,N,t,y,B,⟨?_,J,λ_=>⟨p,ê _,U,I,?_,oz.N _ _ _,(λe=>by cases e),λ_=>⟨rfl,rfl⟩⟩,(λe=>by cases e)⟩,λe=> ?_,Ç rfl⟩
 .exact(h.C.lt i x).1
 .rwa[x]
 .show jX.ownsRow m 148 1 v (g.C f.d++[Q]).length (mV<|g.C f.d++[Q]);rwa[O,P]
 .exact⟨U,Ç ⟨U,U⟩⟩
 .grind
def ao2:zo f 0=Á:=rfl
def ao3(h:gK m b g nm s f w)(r:f.r=0)(t:f.d.r=Ì->f.d.S=[])(x:f.d.C.length<=100000)(k:Int): Ó À 96 #[Ã<|Â ⟨b,0,Á⟩,Å É k] w λe u=>match zo f k with
  |none=>e=È (î Ì)/\u=w
  |some c=>e=È (î Î)/\rN m b c w u:=by
 by_cases l:k=0
 .subst l;rw[ao2];go_enter θ,Ρ;go_wp2;go_ret;exact⟨U,U⟩
 have Q:(k==0)=Ì:=by rwa[beq_eq_false_iff_ne]
 have e:zo f k=Â {f with C:=vh k,d:=f.d.Eo k}:=if_neg l;rw[e];have S:=h.r.r 2 _ U;have V:=h.r.C 2;have W:=h.r.M;have p:=h.ao0 k t;have y:(g.C f.d).length<=100000:=by rwa[h.C.U']
 have z:=h.S;have B:m<=w.heap.size:=Z
 have H:=e7<|Ë z<|Ë B<|Ë y r;go_enter θ,Ρ;go_wp2_with fail;change ä À _ _ _ (LQ b k w);have i:=p.fF (eZ.fM _ _) p.M.fM;generalize X:w.heap.size=T at*;generalize C:(LQ b k w).drew=w1 at*;let⟨Y,D,E,F,G⟩:=Ų aoX;have j:=e7<|Ë D<|Ë E<|Ë F G;refine lM (λu=>u.cell? ⟨b,1,Á⟩=Â g.N/\u.cell? ⟨b,2,Á⟩=Â (Ã<|Â ⟨T,0,Á⟩)) [13] fj ?_;rw[C];have I:Hid (w1.cell? ⟨b,1,Á⟩=Â g.N/\w1.cell? ⟨b,2,Á⟩=Â (Ã<|Â ⟨T,0,Á⟩)):=e7 ⟨i.r.r 1 _ U,i.r.r 2 _ U⟩;iterate 9 apply tk I.out
 have J:=i.I.M;have a:=i.fF (eZ.gB e9 w1 #[Ã<|Â ⟨T,0,Á⟩] 148) (i.M.gB _ _ fg A λv c=>by simp at c;subst c;exact⟨H.out.2.1,J⟩);apply gq 9;intro K c;go_simp;apply c.out _ _ λ_=>⟨a.r.r 1 _ U,a.r.r 2 _ U⟩;apply gq 10;intro K c;refine U_ fR _ _ 61 fR Tryz.underlying61 j.out.1 j.out.2.1 j.out.2.2.1 j.out.2.2.2 fR a.C ⟨w1.heap.size,0,Á⟩ fR (Ο w1 _ _) U (by have:=H.out.2.2.1;unfold ď;omega) (by have:=H.out.2.2.1;omega) (by have:=H.out.2.1;have:=a.I.M;omega) A (ê _) a.M ⟨H.out.2.1,a.I.M⟩ A ?_;intro v9 w9 n L M;obtain⟨a9,n9c,rfl⟩:=jx n.fh;have v:=a.r.I n.r<|jl a.C a.r A;apply c.out _ _ λ_=>⟨v.r 1 _ U,v.r 2 _ U⟩;apply gq 11;intro K c;go_simp;apply c.out _ _ λ_=>⟨v.r 1 _ U,v.r 2 _ U⟩;apply gq 12;intro K c;go_simp;apply c.out _ _ λ_=>⟨v.r 1 _ U,v.r 2 _ U⟩;have cb1:=v.r 1 _ U;have fb1:=v.C 1;have cb4:=v.r 4 _ U;have fb4:=v.C 4;have cb0:=v.r 0 _ U;have fb0:=v.C 0;have cb2:=v.r 2 _ U;apply gq 13;intro K c;go_simp;apply c.out _ _ λo=>absurd A o;refine ly fj ?_ _;have N:=e7 λo q O=>a.jz (sb:=o) H.out.1 H.out.2.1 H.out.2.2.2 q O n L M U;go_wp2_with (go_at_call 145;refine(aoO _ _).mono ?_;rintro e u ⟨⟨o,rfl,O,P⟩,q⟩;subst u);go_ret;have q:=N.out o O P;exact⟨U,q.1,_,_,_,q.2⟩
end
def lh(i:Nat)(z:Int):Prop:=match i with
 |0=>0<=z/\z<8
 |1=>0<=z/\z<8
 |2=>0<=z/\z<1000000
 |3=>0<=z/\z<1000000
 |4=>1<=z/\z<10
 |5=>-1<=z/\z<1000000
 |6=>-1<=z/\z<1000000
 |7=>0<=z/\z<16
 |_=>True
structure Ex(n m:Nat)(c:List Int):Prop where
 C:c.length=n
 r:∀i,i<m->lh i (c.getD i 0)
theorem Ex.I(h:Ex n m zQ)(i:Nat)(z:Int)(b:i<m->lh i z):Ex n m (zQ.set i z):=by refine⟨by simp[h.C],λj a=> ?_⟩;have:=h.r j a;grind
def aad(h:i<zQ.length)(z:Int):(zQ.set i z).getD i 0=z:=by simp[Ģ,h]
structure nz(t:PT):Prop where
 c:Ex 5 4 t.c
 p:t.p.size<=40/\∀c∈t.p.data.toList,w7 c=Î
structure uj(r:PR):Prop where
 c:Ex 8 8 r.c
 C:∀t∈r.r,nz t
 n:r.r.length<=8
structure j1(d:PD):Prop where
 N:d.r=Ì->d.S=[]/\d.M=Ì
 b:d.M=Ì->d.I.r=[]
 C:d.C.length<=24
 I:d.Y.length<=8
 S:∀r∈d.S,uj r
 M:d.r=Î->Ex 8 8 d.I.c
 a:d.r=Î->∀t∈d.I.r,nz t
 Y:d.M=Î->nz d.N
structure jh(B:ByteArray)(k:Nat)(st:PS):Prop where
 M:0<=st.r
 r:st.r<=5
 C:0<=st.I
 I:st.I<=40
 e:0<st.r->(st.M=86\/st.M=87\/st.M=110\/st.M=107)/\st.d.r=Î/\0<=st.d.G st.M/\st.d.G st.M<10^(6-st.r.toNat)
 d:j1 st.d
 c:st.d.r=Î\/st.C=[82]
 b:82∈st.C->st.d.C.length<24
 N:84∈st.C\/80∈st.C->st.d.M=Î
 a:66∈st.C->st.d.M=Ì
 S:80∈st.C->st.C=[80]/\st.r=0
 Y:80∈st.C->st.I.toNat<=k/\∀j (h:j<B.size),k-st.I.toNat<=j->j<k->w7 B[j]=Î
section
variable{d:PD}{st o:PS}
def j1.aae(h:j1 d)(on:d.r=Î):∀t∈d.Y,nz t:=by
 unfold PD.Y;split
 .rename_i e;intro t a;rcases æ.1 a with q|q
  .exact h.a on t q
  .rw[Ő]at q;rw[q];exact h.Y e
 .exact h.a on
def j1.G(h:j1 d):∀r∈d.C,uj r:=by
 unfold PD.C;split
 .rename_i e;intro r a;rcases æ.1 a with q|q
  .exact h.S r q
  .rw[Ő]at q;rw[q];exact⟨h.M e,h.aae e,h.I⟩
 .exact h.S
def xp(d:PD):d.C.length=d.S.length+(if d.r then 1 else 0):=by unfold PD.C;split<;>simp
def HF(d:PD):d.Y.length=d.I.r.length+(if d.M then 1 else 0):=by unfold PD.Y;split<;>simp
def j1.r(h:j1 d)(i:Nat)(z:Int)(a:lh i z):j1 (d.uf i z):= ⟨h.N,h.b,by have:=h.C;rw[xp]at this|-;exact this,by have:=h.I;rw[HF]at this|-;exact this,h.S,λe=>(h.M e).I i z λ_=>a,h.a,h.Y⟩
def j1.vk(h:j1 d)(i:Nat)(z:Int)(a:i<4->lh i z):j1 (d.vk i z):= ⟨h.N,h.b,by have:=h.C;rw[xp]at this|-;exact this,by have:=h.I;rw[HF]at this|-;exact this,h.S,h.M,h.a,λe=>⟨(h.Y e).c.I i z a,(h.Y e).p⟩⟩
def j1.kt(h:j1 d)(i:Nat)(z:Int)(a:lh i z):j1 (d.kt i z):=by
 unfold PD.kt;split
 .exact h.vk i z λ_=>a
 .exact h.r i z a
def j1.sJ(h:j1 d)(p:ByteArray)(a:p.size<=40/\∀c∈p.data.toList,w7 c=Î):j1 (d.sJ p):= ⟨h.N,h.b,by have:=h.C;rw[xp]at this|-;exact this,by have:=h.I;rw[HF]at this|-;exact this,h.S,h.M,h.a,λe=>⟨(h.Y e).c,a⟩⟩
def ao4:nz PD.El:=⟨⟨U,λi a=>by
 match i,a with
 |0,_=>exact⟨A,A⟩
 |1,_=>exact⟨A,A⟩
 |2,_=>exact⟨A,A⟩
 |3,_=>exact⟨A,A⟩⟩,⟨A,λc b=>by cases b⟩⟩
def j1.sK(h:j1 d)(on:d.r=Î)(a:d.Y.length<8):j1 d.sK:= ⟨(λe=>by have:d.r=Ì:=e;rw[on]at this;cases this),(λe=>by cases e),by have:=h.C;rw[xp]at this|-;exact this,by rwa[HF],h.S,λe=>h.M e,λ_=>h.aae on,λ_=>ao4⟩
def j1.Eo(h:j1 d)(q:Int)(a:1<=q/\q<10)(b:d.C.length<24):j1 (d.Eo q):= ⟨(λe=>by cases e),λ_=>rfl,by rwa[xp],by show(0:Nat)<=8;decide,h.G,λ_=>⟨U,λi c=>by
   match i,c with
   |0,_=>exact⟨by show(0:Int)<=0;decide,by show(0:Int)<8;decide⟩
   |1,_=>exact⟨by show(0:Int)<=0;decide,by show(0:Int)<8;decide⟩
   |2,_=>exact⟨by show(0:Int)<=0;decide,by show(0:Int)<1000000;decide⟩
   |3,_=>exact⟨by show(0:Int)<=0;decide,by show(0:Int)<1000000;decide⟩
   |4,_=>exact a
   |5,_=>exact⟨by show(-1:Int)<=0;decide,by show(0:Int)<1000000;decide⟩
   |6,_=>exact⟨by show(-1:Int)<=0;decide,by show(0:Int)<1000000;decide⟩
   |7,_=>exact⟨by show(0:Int)<=0;decide,by show(0:Int)<16;decide⟩⟩,(λ_ t f=>by cases f),(λe=>by cases e)⟩
def j1.fW(h:j1 d)(a z:Int)(b:(a=86->lh 5 z)/\(a=87->lh 6 z)/\(a=120->lh 0 z)/\(a=121->lh 1 z)/\(a=110->lh 2 z)/\(a=107->lh 3 z)/\(a=115->lh 7 z)):j1 (d.fW a z):=by
 let⟨c,e,f,g,i,j,k⟩:=b;unfold PD.fW;repeat' split
 .exact h.r 5 z<|c ‹_›
 .exact h.r 6 z<|e ‹_›
 .exact h.kt 0 z<|f ‹_›
 .exact h.kt 1 z<|g ‹_›
 .exact h.kt 2 z<|i ‹_›
 .exact h.kt 3 z<|j ‹_›
 .exact h.r 7 z<|k ‹_›
 .exact h
def S3(d:PD)(a z:Int):(d.fW a z).r=d.r/\(d.fW a z).M=d.M/\(d.fW a z).C.length=d.C.length:=by
 unfold PD.fW PD.kt;repeat' split
 all_goals exact⟨U,U,(xp _).trans (xp d).symm⟩
theorem S4(h:j1 d)(on:d.r=Î)(a z:Int)(f:a=86\/a=87\/a=110\/a=107):(d.fW a z).G a=z:=by
 have g:=(h.M on).C;have b:∀i,i<4->(d.kt i z).xo i=z:=λi j=>by
  unfold PD.kt;split
  .rename_i e;have k:=(h.Y e).c.C;show(if d.M=Î then(d.N.c.set i z).getD i 0 else d.I.c.getD i 0)=z;grind
  .rename_i e;show(if d.M=Î then d.N.c.getD i 0 else(d.I.c.set i z).getD i 0)=z;grind
 rcases f with rfl|rfl|rfl|rfl
 .exact aad Z z
 .exact aad Z z
 .exact b 2 A
 .exact b 3 A
def LU:∀(l:List UInt8) (c:UInt8),â l c<l.length
 |[],_=>by show(-1:Int)<0;decide
 |a::l,c=>by
  have:=LU l c;unfold â;split
  .simp
  .split<;>(simp;omega)
def S5:∀(l:List UInt8) (c:UInt8),c∈l->0<=â l c
 |[],_,h=>by cases h
 |a::l,c,h=>by
  unfold â;split
  .decide
  .rename_i e;rcases List.mem_cons.1 h with q|q
   .subst q;simp at e
   .have:=S5 l c q;split
    .rename_i b;rw[beq_iff_eq]at b;omega
    .omega
def aaf{l:List UInt8}(h:c.toNat∈l.map UInt8.toNat):c.toNat.toUInt8∈l:=by let⟨x,a,b⟩:=Ý.1 h;rw[<-b];simpa using a
def aag(h:rK c=Î):0<=â [97,98,99,100,101,102,103,104] c.toNat.toUInt8:=by rw[aoB]at h;refine S5 _ _<|aaf ?_;simp;omega
def ao5(h:(jR c||(decide (97<=c)&&decide (c<=102)))=Î):0<=â [48,49,50,51,52,53,54,55,56,57,97,98,99,100,101,102] c.toNat.toUInt8:=by simp only[Bool.or_eq_true,En,Bool.and_eq_true,decide_eq_true_eq]at h;refine S5 _ _<|aaf ?_;simp;omega
theorem ao6(a:pO h c=Î):(h=86->lh 5 (nD h c))/\(h=87->lh 6 (nD h c))/\(h=120->lh 0 (nD h c))/\(h=121->lh 1 (nD h c))/\(h=110->lh 2 (nD h c))/\(h=107->lh 3 (nD h c))/\(h=115->lh 7 (nD h c)):=by
 unfold pO at a;have b:(c==104||jR c)=Î->-1<=(if c=104 then-1 else(c-48)%256)/\(if c=104 then(-1:Int)else(c-48)%256)<1000000:=λq=>by split<;>omega
 have d:jR c=Î->0<=(if c=104 then-1 else(c-48)%256)/\(if c=104 then(-1:Int)else(c-48)%256)<1000000:=λq=>by rw[En]at q;grind
 refine⟨?_,?_,?_,?_,?_,?_,?_⟩<;>rintro rfl
 .exact b a
 .exact b a
 .exact⟨aag a,LU _ _⟩
 .exact⟨aag a,LU _ _⟩
 .exact d a
 .exact d a
 .exact⟨ao5 a,LU _ _⟩
theorem ao7{kO:Int}(a:jR c=Î)(b:0<=h)(d:0<kO)(e:kO<=5)(f:h<10^(6-kO.toNat)):0<=sL h c/\sL h c<10^(6-(kO-1).toNat)/\sL h c<1000000:=by
 rw[En]at a;have g:h<100000->sL h c=h*10+(c-48):=λq=>by unfold sL;rw[Ħ (h*10) ⟨Z,Z⟩,Ħ _ ⟨Z,Z⟩];omega
 have i:kO=1\/kO=2\/kO=3\/kO=4\/kO=5:=Z
 grind
def j1.kO(h:j1 d)(a z:Int)(c:a=86\/a=87\/a=110\/a=107)(b:0<=z/\z<1000000):j1 (d.fW a z):= h.fW a z ⟨λ_=>⟨Z,b.2⟩,λ_=>⟨Z,b.2⟩,λe=>by omega,λe=>by omega,λ_=>b,λ_=>b,λe=>by omega⟩
def jh.ao8(h:jh B k st)(e:0<st.r)(j:jR c=Î):jh B (k+1) (Hz st c):=by
 let⟨a,b,l,m⟩:=h.e e;let⟨f,n,o⟩:=ao7 j l e h.r m;let⟨g,i,p⟩:=S3 st.d st.M<|sL (st.d.G st.M) c;refine⟨by show 0<=st.r-1;omega,by have:=h.r;show st.r-1<=5;omega,h.C,h.I,λ_=>⟨a,g.trans b,?_⟩,h.d.kO _ _ a ⟨f,o⟩,?_,λq=> ?_,λq=>i.trans<|h.N q,λq=>i.trans<|h.a q,λq=> ?_,λq=> ?_⟩
 .show 0<=(st.d.fW st.M<|sL (st.d.G st.M) c).G st.M/\(st.d.fW st.M<|sL (st.d.G st.M) c).G st.M<10^(6-(st.r-1).toNat);rw[S4 h.d b _ _ a];exact⟨f,n⟩
 .exact Ç<|g.trans b
 .show(st.d.fW st.M<|sL (st.d.G st.M) c).C.length<24;rw[p];exact h.b q
 .have:=(h.S q).2;omega
 .have:=(h.S q).2;omega
def jh.uH(h:jh B k st):jh B k {st with r:=0}:= ⟨Ũ _,by show(0:Int)<=5;decide,h.C,h.I,(λq=>by cases q),h.d,h.c,h.b,h.N,h.a,λq=>⟨(h.S q).1,rfl⟩,h.Y⟩
theorem jh.on(h:jh B k st)(a:82∉st.C):st.d.r=Î:=by rcases h.c with q|q;all_goals grind
def j1.ao9(h:j1 d)(a:d.M=Î):d.r=Î:=by
 cases e:d.r with
 |true=>rfl
 |false=>have:=(h.N e).2;rw[a]at this;cases this
theorem aah(h:jh B k st)(b:st.r=0)(on:st.d.r=Î)(a:ug st c=Â o):jh B (k+1) o:=by
 unfold ug at a;split at a
 .rename_i e;cases a;refine⟨h.M,h.r,h.C,h.I,λq=> ?_,h.d,Ð U,λ_=> ?_,λq=> ?_,λq=> ?_,λq=> ?_,λq=> ?_⟩
  .grind
  .rw[xp,on];exact e.2
  .simp at q
  .simp at q
  .simp at q
  .simp at q
 .split at a
  .rename_i e;cases a;refine⟨h.M,h.r,h.C,h.I,λq=> ?_,h.d.sK on e.2.2,Ç on,λq=> ?_,λ_=>rfl,λq=> ?_,λq=> ?_,λq=> ?_⟩;all_goals grind
  .cases a
def apa(q:Int):82∉vh q/\84∉vh q/\80∉vh q:=by
 unfold vh;repeat' split
 all_goals decide
theorem apb(q:Int):82∉vi q/\84∉vi q/\66∉vi q/\(80∈vi q->vi q=[80]):=by unfold vi;grind
def apc(c:Int):0<=xn c/\xn c<10:=by
 unfold xn;repeat' split
 all_goals decide
theorem apd(h:jh B k st)(i:st.r=0)(f:82∈st.C)(a:zo st (xn c)=Â o):jh B (k+1) o:=by
 unfold zo at a;split at a
 .cases a
 .rename_i e;cases a;let⟨g,j,b⟩:=apa<|xn c;have l:=apc c;refine⟨h.M,h.r,h.C,h.I,λq=> ?_,h.d.Eo _ Z<|h.b f,Ç U,λq=>absurd q g,λq=> ?_,λ_=>rfl,λq=>absurd q b,λq=>absurd q b⟩;all_goals grind
theorem ape(h:jh B k st)(c:st.r=0)(q:Int)(f:84∈st.C)(a:zp st q=Â o):jh B (k+1) o:=by
 unfold zp at a;split at a
 .cases a
 .cases a;let⟨g,m,i,l⟩:=apb q;have b:=h.N<|Ç f;refine⟨h.M,h.r,Ũ _,by show(0:Int)<=40;decide,λq=> ?_,h.d.vk 4 q λe=>by omega,Ç<|h.d.ao9 b,λq=>absurd q g,λ_=>b,λq=>absurd q i,λq=>⟨l q,c⟩,λ_=>⟨Ø _,λj _ n p=> ?_⟩⟩;all_goals grind
theorem apf{a:Int}(h:0<rL a c):(a=86\/a=87)/\rL a c=1/\jR c=Î/\c≠48\/(a=110\/a=107)/\rL a c=5/\jR c=Î/\c≠48:=by unfold rL at h|-;grind
theorem aai(h:jh B k st)(on:st.d.r=Î){want:Int}(l:pO want c=Î)(r:List Int)(a:∀x∈r,x∈st.C)(g:80∉r):jh B (k+1) {oX st want c with C:=r}:=by
 let⟨m,i,n⟩:=S3 st.d want<|nD want c;have j:=aoF want c;refine⟨j.1,j.2,h.C,h.I,λq=> ?_,h.d.fW _ _<|ao6 l,Ç<|m.trans on,λq=> ?_,λq=>i.trans<|h.N<|q.imp (a _)<|a _,λq=>i.trans<|h.a<|a _ q,λq=>absurd q g,λq=>absurd q g⟩
 .have q:=q;show(want=86\/want=87\/want=110\/want=107)/\(st.d.fW want<|nD want c).r=Î/\0<=(st.d.fW want<|nD want c).G want/\(st.d.fW want<|nD want c).G want<10^(6-(rL want c).toNat);rcases apf q with⟨o,b,e,p⟩|⟨o,b,e,p⟩
  .have f:want=86\/want=87\/want=110\/want=107:=Z
   rw[S4 h.d on _ _ f,b];rw[En]at e;have:nD want c=(c-48)%256:=by unfold nD;grind
   grind
  .have f:want=86\/want=87\/want=110\/want=107:=Z
   rw[S4 h.d on _ _ f,b];rw[En]at e;have:nD want c=(c-48)%256:=by unfold nD;grind
   grind
 .show(st.d.fW want<|nD want c).C.length<24;rw[n];exact h.b<|a _ q
def apg{x:UInt8}(h:x∈(B.extract i b).data.toList):∃j,∃e:j<B.size,i<=j/\j<b/\B[j]=x:=by rw[Ķ,ľ,Ī]at h;obtain⟨c,d,rfl⟩:=Ġ h;simp only[Ş,List.length_drop,ğ]at d;have f:B.data.size=B.size:=rfl;exact⟨i+c,Z,Z,Z,by simp[č]⟩
theorem aph(h:jh B k st)(l:st.r=0)(F:k<B.size)(a:lB B k st (B[k].toNat:Int)=Â o):jh B (k+1) o:=by
 unfold lB at a;split at a
 .rename_i e;exact aah h l (h.on<|by rw[e];decide) a
 .rename_i t p e;have c:t∈st.C:=by rw[e];exact List.mem_cons_self ..
  split at a
  .rename_i f;subst f;exact apd h l c a
  rename_i G;have i:st.d.r=Î:=by rcases h.c with q|q;all_goals grind
  split at a
  .rename_i f;subst f;split at a
   .rename_i u;cases a;have n:=h.a c;have b:st.d.Y.length<8:=by rw[HF,h.d.b n,n];decide
    have v:jh B k {st with C:=[84],d:=st.d.sK}:=by refine⟨h.M,h.r,h.C,h.I,λq=> ?_,h.d.sK i b,Ç i,λq=> ?_,λ_=>rfl,λq=> ?_,λq=> ?_,λq=> ?_⟩;all_goals grind
    exact aai (want:=120) v i u [84] (λx b=>b) A
   .exact aah h l i a
  split at a
  .rename_i f;subst f;exact ape h l _ c a
  split at a
  .rename_i f;subst f;let⟨H,w⟩:=h.Y c;have n:=h.N<|Ð c;have y:=(h.S c).1;have I:=h.C;have J:=h.I;split at a
   .cases a;have z:p=[]:=by rw[y]at e;cases e;rfl
    subst z;refine⟨h.M,h.r,h.C,h.I,λq=> ?_,h.d.sJ _ ⟨by rw[Đ];omega,λx b=> ?_⟩,Ç i,λq=> ?_,λq=> ?_,λq=> ?_,λq=> ?_,λq=> ?_⟩
    .grind
    .obtain⟨j,r,m,s,rfl⟩:=apg b;exact w j r m s
    .cases q
    .grind
    .cases q
    .cases q
    .cases q
   .split at a
    .cases a
    .rename_i g;cases a;have K:=λq=>g<|Ç q;have C:=λq=>g<|Ð q;refine⟨h.M,h.r,by show 0<=st.I+1;omega,by show st.I+1<=40;omega,h.e,h.d,h.c,h.b,h.N,h.a,h.S,λ_=>⟨by show(st.I+1).toNat<=k+1;omega,λj r m s=> ?_⟩⟩;have m:k+1-(st.I+1).toNat<=j:=m;by_cases D:j=k
     .subst D;unfold w7;simpa using C
     .grind
  split at a
  .rename_i L M N E;cases a;refine aai h i E p (λx b=>by rw[e];exact ė _ b) λq=> ?_;have:=(h.S<|by rw[e];exact ė _ q).1;grind
  .cases a
def aaj(h:jh B k st)(b:k<B.size)(a:uh B k st (B[k].toNat:Int)=Â o):jh B (k+1) o:=by
 unfold uh at a;split at a
 .rename_i e;cases a;exact h.ao8 e.1 e.2
 .exact aph h.uH U b a
def S6(B:ByteArray):jh B 0 sN:= ⟨A,A,A,A,(λq=>by cases q),⟨λ_=>⟨rfl,rfl⟩,λ_=>rfl,A,A,(λr e=>by cases e),(λe=>by cases e),(λe=>by cases e),(λe=>by cases e)⟩,Ð rfl,λ_=>by decide,(λq=>by rcases q with q|q<;>simp[sN]at q),(λq=>by simp[sN]at q),(λq=>by simp[sN]at q),(λq=>by simp[sN]at q)⟩
def S7:∀(f k:Nat) (st:PS),jh B k st->k<=B.size->jh B (sM B f k st).1 (sM B f k st).2/\(sM B f k st).1<=B.size
 |0,k,st,h,hk=>⟨h,hk⟩
 |f+1,k,st,h,hk=>by
  unfold sM;split
  .rename_i a;split
   .exact⟨h,hk⟩
   .rename_i o e;exact S7 f (k+1) o (aaj h a e) Z
  .exact⟨h,hk⟩
end
section
variable{g:Gh}{st:PS}
def aak{d:PD}(i:Nat)(z:Int):g.M (d.kt i z)=g.M d:=by unfold PD.kt Gh.M;split<;>simp[PD.vk,PD.uf, *]
def aal{d:PD}(h:i=2\/i=3)(z:Int):g.BT (d.kt i z) (if i=2 then 110 else 107)=⟨g.M d,i,Á⟩:=by
 rcases h with rfl|rfl
 .show(⟨g.M<|d.kt 2 z,2,Á⟩:û)=_;rw[aak]
 .show(⟨g.M<|d.kt 3 z,3,Á⟩:û)=_;rw[aak]
def aam{d:PD}(on:d.r=Î):g.S d=Â ⟨g.q,0,Á⟩:=if_pos on
def apj{d:PD}(on:d.r=Î):g.G d=Â ⟨g.M d,0,Á⟩:=if_pos on
def KH(h:gK m b g O B st w)(j:st.r=0)(on:st.d.r=Î)(a c:Int)(v:pO a c=Î): Ó À 100 #[Ã<|Â ⟨b,0,Á⟩,Å ŭ a,Å ŭ c] w λe u=>e=È (ï #[])/\rN m b (oX st a c) w u:=by
 have G:w.cell? ⟨b,2,Á⟩=Â (Ã<|g.S st.d):=h.r.r 2 _ U;have x:w.cell? ⟨b,4,Á⟩=Â (Ã<|g.G st.d):=h.r.r 4 _ U;rw[aam on]at G;rw[apj on]at x;have H:=e7<|Ë h v;clear h v;generalize y:g.M st.d=tm at x;have n:=e7 y;clear y;by_cases o:a=86
 .subst o;have k:=e7 (show oX st 86 c={st with r:=vn c 2,M:=86,d:=st.d.uf 5 (mb c)}from by unfold oX;rw[<-LL H.out.2 (Ç ⟨Ç U,U⟩),LO A];rfl);go_enter Ă,þ;go_wp2_with (go_at_call 147;refine(LK H.out.1 (Es H.out.1.C H.out.1.r on (i:=5) A) j on _ _ 86 A A λz=>rfl).mono ?_;rintro e u ⟨rfl,l⟩);go_end0;exact⟨U,by rwa[k.out]⟩
 have I:(a==86)=Ì:=by rwa[beq_eq_false_iff_ne]
 by_cases p:a=87
 .subst p;have k:=e7 (show oX st 87 c={st with r:=vn c 2,M:=87,d:=st.d.uf 6 (mb c)}from by unfold oX;rw[<-LL H.out.2 (Ç ⟨Ð U,U⟩),LO A];rfl);go_enter Ă,þ;go_wp2_with (go_at_call 147;refine(LK H.out.1 (Es H.out.1.C H.out.1.r on (i:=6) A) j on _ _ 87 A A λz=>rfl).mono ?_;rintro e u ⟨rfl,l⟩);go_end0;exact⟨U,by rwa[k.out]⟩
 have J:(a==87)=Ì:=by rwa[beq_eq_false_iff_ne]
 by_cases q:a=120
 .subst q;have f:=e7 ((by have:=Et H.out.1.C H.out.1.r on (i:=0) A;rw[n.out]at this;exact this:pP m b g st.d tm 0 (λz=>st.d.kt 0 z) (st.d.xo 0) w));have C:=f.out.C;have D:=f.out.I;have E:=f.out.r;go_enter Ă,þ;go_wp2_with fail;go_region_with (go_at_call 146;refine(HA _ _ _).mono ?_;rintro e u ⟨rfl,F⟩;subst u);all_goals go_end0
  all_goals exact⟨U,SZ H.out.1 f.out j (LN A) U⟩
 have K:(a==120)=Ì:=by rwa[beq_eq_false_iff_ne]
 by_cases r:a=121
 .subst r;have f:=e7 ((by have:=Et H.out.1.C H.out.1.r on (i:=1) A;rw[n.out]at this;exact this:pP m b g st.d tm 1 (λz=>st.d.kt 1 z) (st.d.xo 1) w));have C:=f.out.C;have D:=f.out.I;have E:=f.out.r;go_enter Ă,þ;go_wp2_with fail;go_region_with (go_at_call 146;refine(HA _ _ _).mono ?_;rintro e u ⟨rfl,F⟩;subst u);all_goals go_end0
  all_goals exact⟨U,SZ H.out.1 f.out j (LN A) U⟩
 have L:(a==121)=Ì:=by rwa[beq_eq_false_iff_ne]
 by_cases s:a=110
 .subst s;have k:=e7 (show oX st 110 c={st with r:=vn c 6,M:=110,d:=st.d.kt 2 (mb c)}from by unfold oX;rw[<-LL H.out.2 (Ð ⟨Ç U,U⟩),LO A];rfl);go_enter Ă,þ;go_wp2_with (go_at_call 147;refine(LK H.out.1 ((by have:=Et H.out.1.C H.out.1.r on (i:=2) A;rw[n.out]at this;exact this:pP m b g st.d tm 2 (λz=>st.d.kt 2 z) (st.d.xo 2) w)) j on _ _ 110 A A λz=>(by have:=aal (g:=g) (d:=st.d) (i:=2) (Ç U) z;rwa[n.out]at this)).mono ?_;rintro e u ⟨rfl,l⟩);go_end0;exact⟨U,by rwa[k.out]⟩
 have M:(a==110)=Ì:=by rwa[beq_eq_false_iff_ne]
 by_cases t:a=107
 .subst t;have k:=e7 (show oX st 107 c={st with r:=vn c 6,M:=107,d:=st.d.kt 3 (mb c)}from by unfold oX;rw[<-LL H.out.2 (Ð ⟨Ð U,U⟩),LO A];rfl);go_enter Ă,þ;go_wp2_with (go_at_call 147;refine(LK H.out.1 ((by have:=Et H.out.1.C H.out.1.r on (i:=3) A;rw[n.out]at this;exact this:pP m b g st.d tm 3 (λz=>st.d.kt 3 z) (st.d.xo 3) w)) j on _ _ 107 A A λz=>(by have:=aal (g:=g) (d:=st.d) (i:=3) (Ð U) z;rwa[n.out]at this)).mono ?_;rintro e u ⟨rfl,l⟩);go_end0;exact⟨U,by rwa[k.out]⟩
 have l:(a==107)=Ì:=by rwa[beq_eq_false_iff_ne]
 by_cases k:a=115
 .subst k;have f:=e7<|Es H.out.1.C H.out.1.r on (i:=7) A;have C:=f.out.C;have D:=f.out.I;have E:=f.out.r;go_enter Ă,þ;go_wp2_with fail;go_region_with (go_at_call 146;refine(HA _ _ _).mono ?_;rintro e u ⟨rfl,F⟩;subst u);all_goals go_end0
  all_goals exact⟨U,SZ H.out.1 f.out j (LN A) U⟩
 have f:(a==115)=Ì:=by rwa[beq_eq_false_iff_ne]
 go_enter Ă,þ;go_wp2;go_end0;refine⟨U,eZ.fO _ _,g,O,B,?_⟩;have e:oX st a c={st with M:=a}:=by unfold oX PD.fW;rw[LN ⟨Z,Z⟩,if_neg o,if_neg p,if_neg q,if_neg r,if_neg s,if_neg t,if_neg k,<-j]
 rw[e];exact H.out.1.SV a j
end
section
variable{g:Gh}{s:ByteArray}{st:PS}{d:PD}
def LV(m b:Nat)(o:Option PS)(e:Ending)(w u:Í):Prop:=
 (o=Á/\e=È (î Ì)/\u=w)\/∃a,o=Â a/\e=È (î Î)/\rN m b a w u
def aan{o:Option PS}{e:Ending}(h:match o with
 |none=>e=È (î Ì)/\u=w
 |some a=>e=È (î Î)/\rN m b a w u):LV m b o e w u:=by
 cases o with
 |none=>exact Ç ⟨U,h⟩
 |some a=>exact Ð ⟨a,U,h⟩
def apk{d:PD}(on:d.r=Î):d.C.length=d.S.length+1:=by rw[xp,on];rfl
def aao(h:gK m b g O s st w)(j:st.r=0)(on:st.d.r=Î)(y:st.d.Y.length<=8)(z:st.d.C.length<=24)(c:Int): Ó À 95 #[Ã<|Â ⟨b,0,Á⟩,Å ŭ c] w λe u=>LV m b (ug st c) e w u:=by
 have l:=h.C.r on;let⟨I,J,p⟩:=jx h.C.C;let⟨K,L,q⟩:=jx l.I;rw[h.C.U']at p;rw[l.G]at q;have M:=h.r.r 0 _ U;have r:=h.r.r 1 _ U;have B:=h.r.r 2 _ U;rw[aam on]at B;rw[p]at r;have t:=l.r.r 8 _ (by have:=BU st.d.I.c g.r;rwa[l.M]at this);rw[q]at t;have N:=h.r.C 0;obtain⟨v,f⟩:∃n,st.d.C.length=n:=⟨_,U⟩;obtain⟨x,i⟩:∃n,st.d.Y.length=n:=⟨_,U⟩;rw[f]at r z;rw[i]at t y;have k:st.d.S.length+1=v:=by rw[<-f];exact(apk on).symm
 have H:=e7<|Ë h<|Ë f<|Ë i<|Ë k j;by_cases C:c=59/\v<24
 .obtain⟨rfl,a⟩:=C;go_enter ũ,ś;go_wp2;go_ret;let⟨h,f,i,k,j⟩:=H.out;exact Ð ⟨_,by rw[ug,if_pos ⟨U,Z⟩],U,me h 0 _,g,O,_,h.LJ _ [82] A A<|Ç on⟩
 by_cases D:c=44/\0<x/\x<8
 .obtain⟨rfl,P,Q⟩:=D;go_enter ũ,ś;go_wp2_with (go_at_call 99;refine(Z' H.out.1 H.out.2.2.2.2 on (by have:=H.out.2.2.1;omega)).mono ?_;rintro e u ⟨rfl,o,E,F,S,a⟩;have T:=a.r.r 0 _ U;have V:=a.r.C 0;have G:=e7<|Ë o a;clear o a);go_ret;let⟨h,f,i,k,j⟩:=H.out;let⟨o,a⟩:=G.out;exact Ð ⟨_,by rw[ug,if_neg Z,if_pos ⟨U,Z,Z⟩],U,o.e8<|me a 0 _,E,F,_,a.LJ _ [120,84] A A<|Ç on⟩
 .have a:=e7 (show ug st c=Á by
   let⟨h,f,i,k,j⟩:=H.out;rw[ug,if_neg Z,if_neg Z])
  go_enter ũ,ś;go_wp2_with fail;all_goals first|(go_ret;exact Ç ⟨a.out,U,U⟩)|(exfalso;simp only[beq_iff_eq,decide_eq_true_eq]at*;omega)
def ko:ů->Option ů
 |Ň c=>Â c
 |.seq a b=>match ko a with
  |some c=>Â c
  |none=>ko b
 |.block _ c=>ko c
 |.scope c=>ko c
 |.cond _ a b=>match ko a with
  |some c=>Â c
  |none=>ko b
 |_=>Á
noncomputable def pQ:ů:=(Tryz.f61.body.bind ko).getD av
def o0(b:Nat)(B:ByteArray)(i:Ñ)(u:Nat->Ñ):Ċ:=⟨#[Ã<|Â ⟨b,0,Á⟩,Ä B,Ï,Ï,Å É 0,i,u 6,u 7,u 8,u 9,u 10,u 11,u 12,u 13,u 14,u 15,u 16,u 17,u 18,u 19,u 20,u 21,u 22,u 23,u 24,u 25,u 26,u 27,u 28,u 29,u 30,u 31,u 32,u 33,u 34,u 35,u 36,u 37,u 38,u 39,u 40,u 41,u 42,u 43,u 44,u 45,u 46,u 47,u 48,u 49,u 50,u 51,u 52,u 53,u 54,u 55,u 56,u 57,u 58,u 59,u 60,u 61,u 62,u 63,u 64,u 65,u 66,u 67,u 68,u 69,u 70,u 71,u 72,u 73,u 74,u 75,u 76,u 77,u 78,u 79,u 80,u 81,u 82,u 83,u 84,u 85,u 86,u 87,u 88,u 89,u 90,u 91,u 92,u 93,u 94,u 95,u 96,u 97,u 98,u 99,u 100,u 101,u 102,u 103,u 104,u 105,u 106,u 107,u 108,u 109,u 110,u 111,u 112,u 113,u 114,u 115,u 116,u 117,u 118,u 119,u 120,u 121,u 122,u 123,u 124,u 125,u 126,u 127,u 128,u 129,u 130,u 131,u 132,u 133,u 134,u 135,u 136,u 137,u 138,u 139,u 140,u 141,u 142,u 143,u 144,u 145,u 146],[]⟩
def Fr(b:Nat)(B:ByteArray)(i:Ñ)(a:Ċ):Prop:=∃u,a=o0 b B i u
def gk{b:Nat}{B:ByteArray}{i:Value}{a:Act}(h:a=o0 b B i (λn=>a.tmps.getD n undef):=by rfl):Fr b B i a:=⟨_,h⟩
def QQ(X:Ċ->Í->Prop):Exit->Ċ->Í->Prop
 |.exit 0,a,w=>X a w
 |_,_,_=>False
def rO(m b:Nat)(B:ByteArray)(k:Nat)(st:PS)(a u:Í):Prop:=∃(h:k<B.size) (h:PS),uh B k st (B[k].toNat:Int)=Â h/\rN m b h a u
def rP(m b:Nat)(B:ByteArray)(k:Nat)(st:PS)(a u:Í):Prop:=∃h:k<B.size,uh B k st (B[k].toNat:Int)=Á/\∃c,rN m b c a u
theorem uk{d:Int}(h:(0<d/\yQ=Ì)\/d<=0):¬(0<d/\yQ=Î):=by grind
def um(h:¬(0<st.r/\jR c=Î)):uh B k st c=lB B k {st with r:=0} c:=if_neg h
def apl(a:0<st.r)(b:jR c=Î):uh B k st c=Â (Hz st c):=if_pos ⟨a,b⟩
section
variable{want:Int}
def apm(h:st.C=[]):lB B k st c=ug st c:=by rw[lB,h]
def apn(h:st.C=want::zQ)(a:want=82):lB B k st c=zo st (xn c):=by rw[lB,h];simp only;rw[if_pos a]
def apo(h:st.C=want::zQ)(a:want=66)(b:rK c=Î):lB B k st c=Â (oX {st with C:=[84],d:=st.d.sK} 120 c):=by rw[lB,h];simp only;rw[if_neg Z,if_pos a,if_pos b]
def apq(h:st.C=want::zQ)(a:want=66)(b:rK c=Ì):lB B k st c=ug st c:=by rw[lB,h];simp only;rw[if_neg Z,if_pos a,if_neg (by rw[b];decide)]
def apr(h:st.C=want::zQ)(a:want=84):lB B k st c=zp st (LF c):=by rw[lB,h];simp only;rw[if_neg Z,if_neg Z,if_pos a]
def aps(h:st.C=want::zQ)(a:want=80)(b:c=125):lB B k st c=Â {st with C:=zQ,d:=st.d.sJ (B.extract (k-st.I.toNat) k)}:=by rw[lB,h];simp only;rw[if_neg Z,if_neg Z,if_neg Z,if_pos a,if_pos b]
def aap(h:st.C=want::zQ)(a:want=80)(b:¬c=125)(d:st.I=40\/lu c=0):lB B k st c=Á:=by rw[lB,h];simp only;rw[if_neg Z,if_neg Z,if_neg Z,if_pos a,if_neg b,if_pos d]
def apt(h:st.C=want::zQ)(a:want=80)(b:¬c=125)(d:¬st.I=40)(e:¬lu c=0):lB B k st c=Â {st with I:=st.I+1}:=by rw[lB,h];simp only;rw[if_neg Z,if_neg Z,if_neg Z,if_pos a,if_neg b,if_neg Z]
def apu(h:st.C=want::zQ)(a:¬want=82)(b:¬want=66)(d:¬want=84)(e:¬want=80)(f:pO want c=Î):lB B k st c=Â {oX st want c with C:=zQ}:=by rw[lB,h];simp only;rw[if_neg a,if_neg b,if_neg d,if_neg e,if_pos f]
def apv(h:st.C=want::zQ)(a:¬want=82)(b:¬want=66)(d:¬want=84)(e:¬want=80)(f:pO want c=Ì):lB B k st c=Á:=by rw[lB,h];simp only;rw[if_neg a,if_neg b,if_neg d,if_neg e,if_neg (by rw[f];decide)]
end
def uo(c:UInt8):(0:Int)<=(c.toNat:Int)/\(c.toNat:Int)<256:=⟨Int.natCast_nonneg _,by have:=c.toNat_lt;omega⟩
def S8(s:ByteArray)(h:s.size=0):(s.toList==[])=Î:=by simp_all
theorem sP(s:ByteArray)(h:¬s.size=0):(s.toList==[])=Ì:=by
 rw[beq_eq_false_iff_ne];intro e;have:s.toList.length=s.size:=by rw[ByteArray.toList_eq];rfl
 grind
def gK.apw(h:gK m b g O s st w)(on:st.d.r=Î)(i:c=86\/c=87\/c=110\/c=107):∃a e f,g.BT st.d c=⟨a,e,Á⟩/\pP m b g st.d a e f (st.d.G c) w/\∀z,f z=st.d.fW c z:=by
 rcases i with rfl|rfl|rfl|rfl
 .exact⟨_,_,_,U,Es h.C h.r on A,λz=>rfl⟩
 .exact⟨_,_,_,U,Es h.C h.r on A,λz=>rfl⟩
 .exact⟨_,_,_,U,Et h.C h.r on A,λz=>rfl⟩
 .exact⟨_,_,_,U,Et h.C h.r on A,λz=>rfl⟩
def gK.sJ(h:gK m b g O s st w)(on:st.d.r=Î)(a:st.d.M=Î)(p:ByteArray):gK m b g O s {st with d:=st.d.sJ p} (w.setCell ⟨g.t,5,Á⟩<|Ä p)/\eZ (λi=>m<=i) w (w.setCell ⟨g.t,5,Á⟩<|Ä p):=by have l:=h.C.r on;let⟨f,j,c⟩:=l.C a;have e:eZ (λi=>i=g.t) w (w.setCell ⟨g.t,5,Á⟩<|Ä p):=oZ c;exact⟨⟨h.S,h.a.r _ trivial,h.r.I e λx=>fc.S h.r c A x,h.M,h.I,h.C.sJ on a p,h.c,h.N⟩,e.S λi _ x=>by have:=l.S;omega⟩
def gK.aaq(h:gK m b g O s st w)(on:st.d.r=Î)(a:st.C=c::zQ):gK m b g O (s.extract 1 s.size) {st with C:=zQ} (w.setCell ⟨b,0,Á⟩<|Ä<|s.extract 1 s.size):= h.LJ _ zQ (aoE s h.M) (by rw[aoD,h.I,a];rfl)<|Ç on
def gK.apx(h:gK m b g O s st w)(a:st.C=c::zQ):0<s.size:=by have:=SL s;rw[h.I,a]at this;simp at this;omega
end
section
variable{g:Gh}{s:ByteArray}{st:PS}{d:PD}
def apy(h:gK m b g O s st w)(a:st.r=0)(c:st.d.r=Ì->st.d.S=[])(f:st.d.C.length<=100000)(k:Int): Ó À 96 #[Ã<|Â ⟨b,0,Á⟩,Å É k] w λe u=>LV m b (zo st k) e w u:=(ao3 h a c f k).mono λ_ _ q=>aan q
def apz(h:gK m b g O s st w)(a:st.r=0)(on:st.d.r=Î)(c:st.d.M=Î)(k:Int): Ó À 101 #[Ã<|Â ⟨b,0,Á⟩,Å É k] w λe u=>LV m b (zp st k) e w u:=(aoV h a on c k).mono λ_ _ q=>aan q
theorem apA{X:Ċ->Í->Prop}{a:Ċ}(G:Fr b B (Å É k) a) (h:gK m b g O s st w) (i:jh B k st) (Q:B.size<=1200) (H:k<B.size) (n:0<st.r) (I:jR (B[k].toNat:Int)=Î) (S:∀a u,Fr b B (Å É<|(k:Int)+1) a/\rO m b B k st w u->K a u) (_hQ:∀a u,Fr b B (Å É k) a/\rP m b B k st w u->X a u): ä À pQ (Exit.then K<|QQ X) a w:=by
 obtain⟨c,rfl⟩:=G;unfold o0;conv=>arg 2;whnf
 have T:w.cell? ⟨b,0,Á⟩=Â (Ä s):=h.r.r 0 _ U;have V:w.cell? ⟨b,6,Á⟩=Â (Å É st.r):=h.r.r 6 _ U;have W:w.cell? ⟨b,7,Á⟩=Â (Å É st.I):=h.r.r 7 _ U;have Y:=h.r.C 0;have f6:=h.r.C 6;have f7:=h.r.C 7;have d0:=i.M;have d1:=i.r;have e0:=i.C;have e1:=i.I;let⟨q,on,_,_⟩:=i.e n;let⟨r,ao,f,t,j,v⟩:=h.apw on q;have J:w.cell? ⟨b,5,Á⟩=Â (Ã O):=h.r.r 5 _ U;rw[(h.c n).2,t]at J;obtain⟨x,o⟩:∃x,st.d.G st.M=x:=⟨_,U⟩;have L:=j.C;rw[o]at L;have fm:=j.I;obtain⟨M,N⟩:∃y,wrap64 (x*10)=y:=⟨_,U⟩;obtain⟨l,P⟩:∃y,wrap64 (M+((B[k].toNat:Int)-48)%256)=y:=⟨_,U⟩;have LW:¬r=b:=j.r;have LX:¬b=r:=λe=>j.r e.symm;have z:=h.Y (st.r-1) λ_=>h.c n;have p:=j.S 6<|Å É<|st.r-1;have C:=z.G p l;have D:sL (st.d.G st.M) (B[k].toNat:Int)=l:=by rw[sL,ť,ť,o,N,P]
 have E:Hz st (B[k].toNat:Int)={st with r:=st.r-1,d:=f l}:=by rw[Hz,D,v]
 have F:Hid (uh B k st (B[k].toNat:Int)=Â {st with r:=st.r-1,d:=f l}/\rN m b {st with r:=st.r-1,d:=f l} w (ς _)):= e7 ⟨by rw[apl n I,E],(((me h 6 _).e8<|Eu (st:=st) p _).C (eZ.fM e9 _) λ_ _ x=>x.elim),g,O,s,C.fM⟩;clear z p C D E j v t h i o q;go_wp2_with (go_at_call 94;refine(rM _ _).mono ?_;rintro e u ⟨rfl,hw⟩;subst u);go_region;all_goals
  go_wp2;exact⟨gk,⟨H,_,F.out.1,F.out.2⟩⟩
theorem apB{X:Ċ->Í->Prop}(z:Fr b B (Å É k) y) (i:gK m b g O s st w) (j:jh B k st) (Q:B.size<=1200) (l:k<B.size) (n:(0<st.r/\jR (B[k].toNat:Int)=Ì)\/st.r<=0) (o:s.size=0) (S:∀y u,Fr b B (Å É<|(k:Int)+1) y/\rO m b B k st w u->K y u) (C:∀y u,Fr b B (Å É k) y/\rP m b B k st w u->X y u): ä À pQ (Exit.then K<|QQ X) y w:=by
 obtain⟨f,rfl⟩:=z;unfold o0;conv=>arg 2;whnf
 have T:w.cell? ⟨b,0,Á⟩=Â (Ä s):=i.r.r 0 _ U;have V:w.cell? ⟨b,6,Á⟩=Â (Å É st.r):=i.r.r 6 _ U;have W:w.cell? ⟨b,7,Á⟩=Â (Å É st.I):=i.r.r 7 _ U;have Y:=i.r.C 0;have f6:=i.r.C 6;have f7:=i.r.C 7;have d0:=j.M;have d1:=j.r;have e0:=j.C;have e1:=j.I;have p:=e7<|um (B:=B) (k:=k)<|uk n;have r:=i.Y 0 λh=>absurd h A;have t:=e7<|me i 6<|Å É 0;have D:=j.d.C;have E:=j.d.I;have F:=e7 r;let⟨tf,zq⟩:=uo B[k];have qn:=S8 s o;have h:st.C=[]:=by rw[<-i.I];exact S_ s o
 have G:st.d.r=Î:=by
  rcases i.N with q|q
  .exact q
  .rw[h]at q;cases q
 have v:=e7<|apm (B:=B) (k:=k) (c:=(B[k].toNat:Int)) (st:={st with r:=0}) h;clear h i j;rcases n with⟨H,ou⟩|H;all_goals
  go_wp2_with (first|(go_at_call 94;refine(rM _ _).mono ?_;rintro e u ⟨rfl,x⟩;subst u)|(go_at_call 95;refine(aao r U G E D _).mono ?_;rintro e u (⟨q,rfl,x⟩|⟨I,q,rfl,J,L,M,N,P⟩)))
  .subst x;exact C _ _ ⟨gk,⟨l,p.out.trans<|v.out.trans q,_,t.out,_,_,_,F.out⟩⟩
  .exact⟨gk,⟨l,I,p.out.trans<|v.out.trans q,t.out.e8 J,L,M,N,P⟩⟩
theorem apC{X:Ċ->Í->Prop}(z:Fr b B (Å É k) y) (i:gK m b g O s st w) (j:jh B k st) (P:B.size<=1200) (o:k<B.size) (p:(0<st.r/\jR (B[k].toNat:Int)=Ì)\/st.r<=0) (q:0<s.size) (l:((s[0]'q).toNat:Int)=82) (Q:∀y u,Fr b B (Å É<|(k:Int)+1) y/\rO m b B k st w u->K y u) (C:∀y u,Fr b B (Å É k) y/\rP m b B k st w u->X y u): ä À pQ (Exit.then K<|QQ X) y w:=by
 obtain⟨f,rfl⟩:=z;unfold o0;conv=>arg 2;whnf
 have S:w.cell? ⟨b,0,Á⟩=Â (Ä s):=i.r.r 0 _ U;have T:w.cell? ⟨b,6,Á⟩=Â (Å É st.r):=i.r.r 6 _ U;have V:w.cell? ⟨b,7,Á⟩=Â (Å É st.I):=i.r.r 7 _ U;have W:=i.r.C 0;have Y:=i.r.C 6;have f7:=i.r.C 7;have d0:=j.M;have d1:=j.r;have e0:=j.C;have e1:=j.I;have r:=e7<|um (B:=B) (k:=k)<|uk p;have t:=i.Y 0 λh=>absurd h A;have v:=e7<|me i 6<|Å É 0;have zr:=j.d.C;have BV:=j.d.I;have D:=e7 t;let⟨tf,zq⟩:=uo B[k];have qn:=sP s Z;have xq:s.size<=10:=i.M;have E:=e7 (show st.C=(s[0].toNat:Int)::(jI s).tail by rw[<-i.I];exact vj s q);have x:=e7<|apn (B:=B) (k:=k) (c:=(B[k].toNat:Int)) (st:={st with r:=0}) E.out l;have xr:((s[0].toNat:Int)==82)=Î:=by rw[l];rfl
 have F:=e7 λe=>(j.d.N e).1;clear l i j;rcases p with⟨G,ou⟩|G;all_goals
  go_wp2_with (first|(go_at_call 94;refine(rM _ _).mono ?_;rintro e u ⟨rfl,h⟩;subst u)|(go_at_call 97;refine(aoN _ _).mono ?_;rintro e u ⟨rfl,h⟩;subst u)|(go_at_call 96;refine(apy t U F.out (by show st.d.C.length<=100000;omega) _).mono ?_;rintro e u (⟨n,rfl,h⟩|⟨H,n,rfl,I,J,L,M,N⟩)))
  .subst h;exact C _ _ ⟨gk,⟨o,r.out.trans<|x.out.trans n,_,v.out,_,_,_,D.out⟩⟩
  .exact⟨gk,⟨o,H,r.out.trans<|x.out.trans n,v.out.e8 I,J,L,M,N⟩⟩
end
section
variable{g:Gh}{s:ByteArray}{st:PS}{d:PD}
def apD{X:Ċ->Í->Prop}(t:Fr b B (Å É k) y) (f:gK m b g O s st w) (i:jh B k st) (M:B.size<=1200) (v:k<B.size) (l:(0<st.r/\jR (B[k].toNat:Int)=Ì)\/st.r<=0) (n:0<s.size) (j:((s[0]'n).toNat:Int)=66) (o:rK (B[k].toNat:Int)=Î) (N:∀y u,Fr b B (Å É<|(k:Int)+1) y/\rO m b B k st w u->K y u) (_hQ:∀y u,Fr b B (Å É k) y/\rP m b B k st w u->X y u): ä À pQ (Exit.then K<|QQ X) y w:=by
 obtain⟨c,rfl⟩:=t;unfold o0;conv=>arg 2;whnf
 have P:w.cell? ⟨b,0,Á⟩=Â (Ä s):=f.r.r 0 _ U;have Q:w.cell? ⟨b,6,Á⟩=Â (Å É st.r):=f.r.r 6 _ U;have S:w.cell? ⟨b,7,Á⟩=Â (Å É st.I):=f.r.r 7 _ U;have T:=f.r.C 0;have V:=f.r.C 6;have W:=f.r.C 7;have Y:=i.M;have d1:=i.r;have e0:=i.C;have e1:=i.I;have x:=e7<|um (B:=B) (k:=k)<|uk l;have p:=f.Y 0 λh=>absurd h A;have z:=e7<|me f 6<|Å É 0;have zr:=i.d.C;have BV:=i.d.I;have HH1:=e7 p;let⟨C,D⟩:=uo B[k];have qn:=sP s Z;have xq:s.size<=10:=f.M;have h:=e7 (show st.C=(s[0].toNat:Int)::(jI s).tail by rw[<-f.I];exact vj s n);have r:st.d.r=Î:=by
  rcases f.N with q|q
  .exact q
  .rw[h.out]at q;injection q with q;omega
 have q:=e7<|apo (B:=B) (k:=k) (st:={st with r:=0}) h.out j o;have xr:((s[0].toNat:Int)==82)=Ì:=by rw[j];rfl
 have Ey:((s[0].toNat:Int)==66)=Î:=by rw[j];rfl
 clear j f i;rcases l with⟨E,ou⟩|E;all_goals
  go_wp2_with (first|(go_at_call 94;refine(rM _ _).mono ?_;rintro e u ⟨rfl,F⟩;subst u)|(go_at_call 98;refine(SN _ C D _).mono ?_;rintro e u ⟨rfl,F⟩;subst u)|(go_at_call 99;refine(Z' p U r<|by show st.d.Y.length<=100000;omega).mono ?_;rintro e u ⟨rfl,F,H,I,J,G⟩)|(go_at_call 100;refine(KH G U r _ _<|show pO 120 _=Î from o).mono ?_;rintro e w'' ⟨rfl,G,H,I,J,L⟩))
  exact⟨gk,⟨v,_,x.out.trans q.out,z.out.e8<|F.e8 G,H,I,J,L⟩⟩
def apE{X:Ċ->Í->Prop}(z:Fr b B (Å É k) y) (f:gK m b g O s st w) (i:jh B k st) (V:B.size<=1200) (l:k<B.size) (n:(0<st.r/\jR (B[k].toNat:Int)=Ì)\/st.r<=0) (o:0<s.size) (j:((s[0]'o).toNat:Int)=66) (C:rK (B[k].toNat:Int)=Ì) (W:∀y u,Fr b B (Å É<|(k:Int)+1) y/\rO m b B k st w u->K y u) (D:∀y u,Fr b B (Å É k) y/\rP m b B k st w u->X y u): ä À pQ (Exit.then K<|QQ X) y w:=by
 obtain⟨c,rfl⟩:=z;unfold o0;conv=>arg 2;whnf
 have Y:w.cell? ⟨b,0,Á⟩=Â (Ä s):=f.r.r 0 _ U;have c6:w.cell? ⟨b,6,Á⟩=Â (Å É st.r):=f.r.r 6 _ U;have c7:w.cell? ⟨b,7,Á⟩=Â (Å É st.I):=f.r.r 7 _ U;have f0:=f.r.C 0;have f6:=f.r.C 6;have f7:=f.r.C 7;have d0:=i.M;have d1:=i.r;have e0:=i.C;have e1:=i.I;have p:=e7<|um (B:=B) (k:=k)<|uk n;have r:=f.Y 0 λh=>absurd h A;have t:=e7<|me f 6<|Å É 0;have E:=i.d.C;have F:=i.d.I;have G:=e7 r;let⟨H,I⟩:=uo B[k];have qn:=sP s Z;have xq:s.size<=10:=f.M;have v:=e7 (show st.C=(s[0].toNat:Int)::(jI s).tail by rw[<-f.I];exact vj s o);have J:st.d.r=Î:=by
  rcases f.N with q|q
  .exact q
  .rw[v.out]at q;injection q with q;omega
 have x:=e7<|apq (B:=B) (k:=k) (st:={st with r:=0}) v.out j C;have xr:((s[0].toNat:Int)==82)=Ì:=by rw[j];rfl
 have Ey:((s[0].toNat:Int)==66)=Î:=by rw[j];rfl
 clear j f i;rcases n with⟨L,ou⟩|L;all_goals
  go_wp2_with (first|(go_at_call 94;refine(rM _ _).mono ?_;rintro e u ⟨rfl,h⟩;subst u)|(go_at_call 98;refine(SN _ H I _).mono ?_;rintro e u ⟨rfl,h⟩;subst u)|(go_at_call 95;refine(aao r U J F E _).mono ?_;rintro e u (⟨q,rfl,h⟩|⟨M,q,rfl,N,P,Q,S,T⟩)))
  .subst h;exact D _ _ ⟨gk,⟨l,p.out.trans<|x.out.trans q,_,t.out,_,_,_,G.out⟩⟩
  .exact⟨gk,⟨l,M,p.out.trans<|x.out.trans q,t.out.e8 N,P,Q,S,T⟩⟩
theorem apF{X:Ċ->Í->Prop}(C:Fr b B (Å É k) y) (i:gK m b g O s st w) (j:jh B k st) (Q:B.size<=1200) (o:k<B.size) (p:(0<st.r/\jR (B[k].toNat:Int)=Ì)\/st.r<=0) (r:0<s.size) (l:((s[0]'r).toNat:Int)=84) (S:∀y u,Fr b B (Å É<|(k:Int)+1) y/\rO m b B k st w u->K y u) (D:∀y u,Fr b B (Å É k) y/\rP m b B k st w u->X y u): ä À pQ (Exit.then K<|QQ X) y w:=by
 obtain⟨f,rfl⟩:=C;unfold o0;conv=>arg 2;whnf
 have T:w.cell? ⟨b,0,Á⟩=Â (Ä s):=i.r.r 0 _ U;have V:w.cell? ⟨b,6,Á⟩=Â (Å É st.r):=i.r.r 6 _ U;have W:w.cell? ⟨b,7,Á⟩=Â (Å É st.I):=i.r.r 7 _ U;have Y:=i.r.C 0;have f6:=i.r.C 6;have f7:=i.r.C 7;have d0:=j.M;have d1:=j.r;have e0:=j.C;have e1:=j.I;have t:=e7<|um (B:=B) (k:=k)<|uk p;have v:=i.Y 0 λh=>absurd h A;have x:=e7<|me i 6<|Å É 0;have zr:=j.d.C;have BV:=j.d.I;have E:=e7 v;let⟨tf,zq⟩:=uo B[k];have qn:=sP s Z;have xq:s.size<=10:=i.M;have h:=e7 (show st.C=(s[0].toNat:Int)::(jI s).tail by rw[<-i.I];exact vj s r);have F:st.d.r=Î:=by
  rcases i.N with q|q
  .exact q
  .rw[h.out]at q;injection q with q;omega
 have G:st.d.M=Î:=j.N (by rw[h.out,l];simp);have z:=e7<|apr (B:=B) (k:=k) (c:=(B[k].toNat:Int)) (st:={st with r:=0}) h.out l;have xr:((s[0].toNat:Int)==82)=Ì:=by rw[l];rfl
 have Ey:((s[0].toNat:Int)==66)=Ì:=by rw[l];rfl
 have Ez:((s[0].toNat:Int)==84)=Î:=by rw[l];rfl
 clear l i j;rcases p with⟨H,ou⟩|H;all_goals
  go_wp2_with (first|(go_at_call 94;refine(rM _ _).mono ?_;rintro e u ⟨rfl,q⟩;subst u)|(go_at_call 102;refine(aoM _ _).mono ?_;rintro e u ⟨rfl,q⟩;subst u)|(go_at_call 101;refine(apz v U F G _).mono ?_;rintro e u (⟨n,rfl,q⟩|⟨I,n,rfl,J,L,M,N,P⟩)))
  .subst q;exact D _ _ ⟨gk,⟨o,t.out.trans<|z.out.trans n,_,x.out,_,_,_,E.out⟩⟩
  .exact⟨gk,⟨o,I,t.out.trans<|z.out.trans n,x.out.e8 J,L,M,N,P⟩⟩
end
section
variable{g:Gh}{s:ByteArray}{st:PS}{d:PD}
theorem apG{X:Ċ->Í->Prop}(N:Fr b B (Å É k) y) (i:gK m b g O s st w) (j:jh B k st) (hB:B.size<=1200) (P:k<B.size) (E:(0<st.r/\jR (B[k].toNat:Int)=Ì)\/st.r<=0) (F:0<s.size) (l:((s[0]'F).toNat:Int)=80) (r:(B[k].toNat:Int)=125) (hK:∀y u,Fr b B (Å É<|(k:Int)+1) y/\rO m b B k st w u->K y u) (_hQ:∀y u,Fr b B (Å É k) y/\rP m b B k st w u->X y u): ä À pQ (Exit.then K<|QQ X) y w:=by
 obtain⟨f,rfl⟩:=N;unfold o0;conv=>arg 2;whnf
 have c0:w.cell? ⟨b,0,Á⟩=Â (Ä s):=i.r.r 0 _ U;have c6:w.cell? ⟨b,6,Á⟩=Â (Å É st.r):=i.r.r 6 _ U;have Q:w.cell? ⟨b,7,Á⟩=Â (Å É st.I):=i.r.r 7 _ U;have f0:=i.r.C 0;have f6:=i.r.C 6;have f7:=i.r.C 7;have d0:=j.M;have d1:=j.r;have S:=j.C;have T:=j.I;have G:=e7<|um (B:=B) (k:=k)<|uk E;have v:=i.Y 0 λh=>absurd h A;have H:=e7<|me i 6<|Å É 0;have zr:=j.d.C;have BV:=j.d.I;have V:=e7 v;let⟨tf,zq⟩:=uo B[k];have qn:=sP s Z;have xq:s.size<=10:=i.M;have h:=e7 (show st.C=(s[0].toNat:Int)::(jI s).tail by rw[<-i.I];exact vj s F);have z:st.d.r=Î:=by
  rcases i.N with q|q
  .exact q
  .rw[h.out]at q;injection q with q;omega
 have C:st.d.M=Î:=j.N (by rw[h.out,l];simp);have W:w.cell? ⟨b,3,Á⟩=Â (Ã<|g.Y st.d):=i.r.r 3 _ U;rw[HB C]at W;let⟨Y,I,q⟩:=(i.C.r z).C C;have S9:w.cell? ⟨g.t,5,Á⟩=Â (Ä st.d.N.p):=q.r 5 _ (by have:=BU st.d.N.c<|Ä st.d.N.p;rwa[I]at this);have Ta:=q.C 5;have LX:¬b=g.t:=λe=>fc.S q i.r A e.symm;have LW:¬g.t=b:=fc.S q i.r A;let⟨LY,_⟩:=j.Y (by rw[h.out,l];simp);have xr:((s[0].toNat:Int)==82)=Ì:=by rw[l];rfl
 have Ey:((s[0].toNat:Int)==66)=Ì:=by rw[l];rfl
 have Ez:((s[0].toNat:Int)==84)=Ì:=by rw[l];rfl
 have HG:((s[0].toNat:Int)==80)=Î:=by rw[l];rfl
 clear Y I q;have J:=e7<|aps (B:=B) (k:=k) (st:={st with r:=0}) h.out l r;have Tb:((B[k].toNat:Int) !=125)=Ì:=by rw[r];rfl
 obtain⟨n,L⟩:∃t:Nat,st.I=(t:Int):=⟨st.I.toNat,Z⟩;have o:=v.sJ z C<|B.extract (k-n) k;have M:=o.1.aaq z h.out;have D:=e7 (Ë (show uh B k st (B[k].toNat:Int)=Â {({st with r:=0}:PS)with C:=(jI s).tail,d:=st.d.sJ (B.extract (k-n) k)} by rw[G.out,J.out,show({st with r:=0}:PS).I.toNat=n by show st.I.toNat=n;omega])<|Ë ((H.out.e8 o.2).e8<|me o.1 0<|Ä<|s.extract 1 s.size) M);rw[L]at Q S T LY;clear r l i j o M L J G H V v;rcases E with⟨A8,ou⟩|A8;all_goals
  go_wp2_with (first|(go_at_call 94;refine(rM _ _).mono ?_;rintro e u ⟨rfl,x⟩;subst u))
  go_region
  all_goals
   go_wp2;exact⟨gk,⟨P,_,D.out.1,D.out.2.1.C (eZ.fM e9 _) λ_ _ x=>x.elim,_,_,_,D.out.2.2.fM⟩⟩
theorem apH{X:Ċ->Í->Prop}(C:Fr b B (Å É k) y) (i:gK m b g O s st w) (j:jh B k st) (Q:B.size<=1200) (D:k<B.size) (v:(0<st.r/\jR (B[k].toNat:Int)=Ì)\/st.r<=0) (x:0<s.size) (l:((s[0]'x).toNat:Int)=80) (o:¬(B[k].toNat:Int)=125) (r:st.I=40) (_hK:∀y u,Fr b B (Å É<|(k:Int)+1) y/\rO m b B k st w u->K y u) (E:∀y u,Fr b B (Å É k) y/\rP m b B k st w u->X y u): ä À pQ (Exit.then K<|QQ X) y w:=by
 obtain⟨f,rfl⟩:=C;unfold o0;conv=>arg 2;whnf
 have S:w.cell? ⟨b,0,Á⟩=Â (Ä s):=i.r.r 0 _ U;have T:w.cell? ⟨b,6,Á⟩=Â (Å É st.r):=i.r.r 6 _ U;have V:w.cell? ⟨b,7,Á⟩=Â (Å É st.I):=i.r.r 7 _ U;have W:=i.r.C 0;have Y:=i.r.C 6;have f7:=i.r.C 7;have d0:=j.M;have d1:=j.r;have e0:=j.C;have e1:=j.I;have F:=e7<|um (B:=B) (k:=k)<|uk v;have G:=i.Y 0 λh=>absurd h A;have H:=e7<|me i 6<|Å É 0;have zr:=j.d.C;have BV:=j.d.I;have I:=e7 G;let⟨tf,zq⟩:=uo B[k];have qn:=sP s Z;have xq:s.size<=10:=i.M;have n:=e7 (show st.C=(s[0].toNat:Int)::(jI s).tail by rw[<-i.I];exact vj s x);have J:st.d.r=Î:=by
  rcases i.N with q|q
  .exact q
  .rw[n.out]at q;injection q with q;omega
 have q:st.d.M=Î:=j.N (by rw[n.out,l];simp);have L:w.cell? ⟨b,3,Á⟩=Â (Ã<|g.Y st.d):=i.r.r 3 _ U;rw[HB q]at L;let⟨M,z,h⟩:=(i.C.r J).C q;have S9:w.cell? ⟨g.t,5,Á⟩=Â (Ä st.d.N.p):=h.r 5 _ (by have:=BU st.d.N.c<|Ä st.d.N.p;rwa[z]at this);have Ta:=h.C 5;have LX:¬b=g.t:=λe=>fc.S h i.r A e.symm;have LW:¬g.t=b:=fc.S h i.r A;let⟨LY,_⟩:=j.Y (by rw[n.out,l];simp);have xr:((s[0].toNat:Int)==82)=Ì:=by rw[l];rfl
 have Ey:((s[0].toNat:Int)==66)=Ì:=by rw[l];rfl
 have Ez:((s[0].toNat:Int)==84)=Ì:=by rw[l];rfl
 have HG:((s[0].toNat:Int)==80)=Î:=by rw[l];rfl
 clear M z h;have Tb:((B[k].toNat:Int) !=125)=Î:=by rwa[bne_iff_ne]
 have N:=e7<|aap (B:=B) (k:=k) (st:={st with r:=0}) n.out l o<|Ç r;have aar:(st.I==40)=Î:=by rw[r];rfl
 clear r o l i j;rcases v with⟨P,ou⟩|P;all_goals
  go_wp2_with (first|(go_at_call 94;refine(rM _ _).mono ?_;rintro e u ⟨rfl,hw⟩;subst u))
  exact E _ _ ⟨gk,⟨D,F.out.trans N.out,_,H.out,_,_,_,I.out⟩⟩
theorem apI{X:Ċ->Í->Prop}(E:Fr b B (Å É k) y) (i:gK m b g O s st w) (j:jh B k st) (S:B.size<=1200) (F:k<B.size) (v:(0<st.r/\jR (B[k].toNat:Int)=Ì)\/st.r<=0) (x:0<s.size) (l:((s[0]'x).toNat:Int)=80) (o:¬(B[k].toNat:Int)=125) (r:¬st.I=40) (z:¬lu (B[k].toNat:Int)=0) (T:∀y u,Fr b B (Å É<|(k:Int)+1) y/\rO m b B k st w u->K y u) (_hQ:∀y u,Fr b B (Å É k) y/\rP m b B k st w u->X y u): ä À pQ (Exit.then K<|QQ X) y w:=by
 obtain⟨f,rfl⟩:=E;unfold o0;conv=>arg 2;whnf
 have V:w.cell? ⟨b,0,Á⟩=Â (Ä s):=i.r.r 0 _ U;have W:w.cell? ⟨b,6,Á⟩=Â (Å É st.r):=i.r.r 6 _ U;have Y:w.cell? ⟨b,7,Á⟩=Â (Å É st.I):=i.r.r 7 _ U;have f0:=i.r.C 0;have f6:=i.r.C 6;have f7:=i.r.C 7;have d0:=j.M;have d1:=j.r;have e0:=j.C;have e1:=j.I;have G:=e7<|um (B:=B) (k:=k)<|uk v;have H:=i.Y 0 λh=>absurd h A;have I:=e7<|me i 6<|Å É 0;have zr:=j.d.C;have BV:=j.d.I;have C:=e7 H;let⟨tf,zq⟩:=uo B[k];have qn:=sP s Z;have xq:s.size<=10:=i.M;have n:=e7 (show st.C=(s[0].toNat:Int)::(jI s).tail by rw[<-i.I];exact vj s x);have J:st.d.r=Î:=by
  rcases i.N with q|q
  .exact q
  .rw[n.out]at q;injection q with q;omega
 have q:st.d.M=Î:=j.N (by rw[n.out,l];simp);have L:w.cell? ⟨b,3,Á⟩=Â (Ã<|g.Y st.d):=i.r.r 3 _ U;rw[HB q]at L;let⟨M,D,h⟩:=(i.C.r J).C q;have S9:w.cell? ⟨g.t,5,Á⟩=Â (Ä st.d.N.p):=h.r 5 _ (by have:=BU st.d.N.c<|Ä st.d.N.p;rwa[D]at this);have Ta:=h.C 5;have LX:¬b=g.t:=λe=>fc.S h i.r A e.symm;have LW:¬g.t=b:=fc.S h i.r A;let⟨LY,_⟩:=j.Y (by rw[n.out,l];simp);have xr:((s[0].toNat:Int)==82)=Ì:=by rw[l];rfl
 have Ey:((s[0].toNat:Int)==66)=Ì:=by rw[l];rfl
 have Ez:((s[0].toNat:Int)==84)=Ì:=by rw[l];rfl
 have HG:((s[0].toNat:Int)==80)=Î:=by rw[l];rfl
 clear M D h;have Tb:((B[k].toNat:Int) !=125)=Î:=by rwa[bne_iff_ne]
 have N:=e7<|apt (B:=B) (k:=k) (st:={st with r:=0}) n.out l o r z;have aar:(st.I==40)=Ì:=by rwa[beq_eq_false_iff_ne]
 have yu:((lu (B[k].toNat:Int):Int)==0)=Ì:=by rw[beq_eq_false_iff_ne];omega
 clear r o l i j z;rcases v with⟨P,ou⟩|P;all_goals
  go_wp2_with (first|(go_at_call 94;refine(rM _ _).mono ?_;rintro e u ⟨rfl,Q⟩;subst u)|(go_at_call 103;refine(pI _ _).mono ?_;rintro e u ⟨rfl,Q⟩;subst u))
  exact⟨gk,⟨F,_,G.out.trans N.out,I.out.e8<|me C.out 7 _,_,_,_,C.out.X' _⟩⟩
theorem apJ{X:Ċ->Í->Prop}(D:Fr b B (Å É k) y) (i:gK m b g O s st w) (j:jh B k st) (T:B.size<=1200) (E:k<B.size) (v:(0<st.r/\jR (B[k].toNat:Int)=Ì)\/st.r<=0) (x:0<s.size) (l:((s[0]'x).toNat:Int)=80) (o:¬(B[k].toNat:Int)=125) (z:¬st.I=40) (r:lu (B[k].toNat:Int)=0) (_hK:∀y u,Fr b B (Å É<|(k:Int)+1) y/\rO m b B k st w u->K y u) (F:∀y u,Fr b B (Å É k) y/\rP m b B k st w u->X y u): ä À pQ (Exit.then K<|QQ X) y w:=by
 obtain⟨f,rfl⟩:=D;unfold o0;conv=>arg 2;whnf
 have V:w.cell? ⟨b,0,Á⟩=Â (Ä s):=i.r.r 0 _ U;have W:w.cell? ⟨b,6,Á⟩=Â (Å É st.r):=i.r.r 6 _ U;have Y:w.cell? ⟨b,7,Á⟩=Â (Å É st.I):=i.r.r 7 _ U;have f0:=i.r.C 0;have f6:=i.r.C 6;have f7:=i.r.C 7;have d0:=j.M;have d1:=j.r;have e0:=j.C;have e1:=j.I;have G:=e7<|um (B:=B) (k:=k)<|uk v;have H:=i.Y 0 λh=>absurd h A;have I:=e7<|me i 6<|Å É 0;have zr:=j.d.C;have BV:=j.d.I;have J:=e7 H;let⟨tf,zq⟩:=uo B[k];have qn:=sP s Z;have xq:s.size<=10:=i.M;have n:=e7 (show st.C=(s[0].toNat:Int)::(jI s).tail by rw[<-i.I];exact vj s x);have L:st.d.r=Î:=by
  rcases i.N with q|q
  .exact q
  .rw[n.out]at q;injection q with q;omega
 have q:st.d.M=Î:=j.N (by rw[n.out,l];simp);have M:w.cell? ⟨b,3,Á⟩=Â (Ã<|g.Y st.d):=i.r.r 3 _ U;rw[HB q]at M;let⟨N,C,h⟩:=(i.C.r L).C q;have S9:w.cell? ⟨g.t,5,Á⟩=Â (Ä st.d.N.p):=h.r 5 _ (by have:=BU st.d.N.c<|Ä st.d.N.p;rwa[C]at this);have Ta:=h.C 5;have LX:¬b=g.t:=λe=>fc.S h i.r A e.symm;have LW:¬g.t=b:=fc.S h i.r A;let⟨LY,_⟩:=j.Y (by rw[n.out,l];simp);have xr:((s[0].toNat:Int)==82)=Ì:=by rw[l];rfl
 have Ey:((s[0].toNat:Int)==66)=Ì:=by rw[l];rfl
 have Ez:((s[0].toNat:Int)==84)=Ì:=by rw[l];rfl
 have HG:((s[0].toNat:Int)==80)=Î:=by rw[l];rfl
 clear N C h;have Tb:((B[k].toNat:Int) !=125)=Î:=by rwa[bne_iff_ne]
 have P:=e7<|aap (B:=B) (k:=k) (st:={st with r:=0}) n.out l o<|Ð r;have aar:(st.I==40)=Ì:=by rwa[beq_eq_false_iff_ne]
 have yu:((lu (B[k].toNat:Int):Int)==0)=Î:=by rw[r];rfl
 clear z o l i j r;rcases v with⟨Q,ou⟩|Q;all_goals
  go_wp2_with (first|(go_at_call 94;refine(rM _ _).mono ?_;rintro e u ⟨rfl,S⟩;subst u)|(go_at_call 103;refine(pI _ _).mono ?_;rintro e u ⟨rfl,S⟩;subst u))
  exact F _ _ ⟨gk,⟨E,G.out.trans P.out,_,I.out,_,_,_,J.out⟩⟩
end
section
variable{g:Gh}{s:ByteArray}{st:PS}{d:PD}
def apK{X:Ċ->Í->Prop}(D:Fr b B (Å É k) y) (f:gK m b g O s st w) (i:jh B k st) (Q:B.size<=1200) (E:k<B.size) (v:(0<st.r/\jR (B[k].toNat:Int)=Ì)\/st.r<=0) (j:0<s.size) (n:¬((s[0]'j).toNat:Int)=82) (o:¬((s[0]'j).toNat:Int)=66) (p:¬((s[0]'j).toNat:Int)=84) (r:¬((s[0]'j).toNat:Int)=80) (x:pO ((s[0]'j).toNat:Int) (B[k].toNat:Int)=Î) (S:∀y u,Fr b B (Å É<|(k:Int)+1) y/\rO m b B k st w u->K y u) (_hQ:∀y u,Fr b B (Å É k) y/\rP m b B k st w u->X y u): ä À pQ (Exit.then K<|QQ X) y w:=by
 obtain⟨c,rfl⟩:=D;unfold o0;conv=>arg 2;whnf
 have T:w.cell? ⟨b,0,Á⟩=Â (Ä s):=f.r.r 0 _ U;have V:w.cell? ⟨b,6,Á⟩=Â (Å É st.r):=f.r.r 6 _ U;have W:w.cell? ⟨b,7,Á⟩=Â (Å É st.I):=f.r.r 7 _ U;have Y:=f.r.C 0;have f6:=f.r.C 6;have f7:=f.r.C 7;have d0:=i.M;have d1:=i.r;have e0:=i.C;have e1:=i.I;have F:=e7<|um (B:=B) (k:=k)<|uk v;have G:=f.Y 0 λh=>absurd h A;have H:=e7<|me f 6<|Å É 0;have zr:=i.d.C;let⟨I,J⟩:=uo B[k];have qn:=sP s Z;have xq:s.size<=10:=f.M;have l:=e7 (show st.C=(s[0].toNat:Int)::(jI s).tail by rw[<-f.I];exact vj s j);have z:st.d.r=Î:=by
  rcases f.N with q|q
  .exact q
  .rw[l.out]at q;injection q with q;omega
 have xr:((s[0].toNat:Int)==82)=Ì:=by rwa[beq_eq_false_iff_ne]
 have apL:((s[0].toNat:Int)==66)=Ì:=by rwa[beq_eq_false_iff_ne]
 have Ez:((s[0].toNat:Int)==84)=Ì:=by rwa[beq_eq_false_iff_ne]
 have HG:((s[0].toNat:Int)==80)=Ì:=by rwa[beq_eq_false_iff_ne]
 have L:=e7<|apu (B:=B) (k:=k) (st:={st with r:=0}) l.out n o p r x;have M:=e7 x;clear n o p r f i;rcases v with⟨N,ou⟩|N;all_goals
  go_wp2_with (first|(go_at_call 94;refine(rM _ _).mono ?_;rintro e u ⟨rfl,h⟩;subst u)|(go_at_call 104;refine(T_ _ _ I J _).mono ?_;rintro e u ⟨rfl,h⟩;subst u)|(go_at_call 100;refine(KH G U z _ _ M.out).mono ?_;rintro e P ⟨rfl,C,g',nm',q,h⟩;have k0:P.cell? ⟨b,0,Á⟩=Â (Ä q):=h.r.r 0 _ U;have kf0:=h.r.C 0;have tg:0<q.size:=h.apx l.out;have asc:q.size<=10:=h.M;have t:=e7<|Ë C h;clear C h))
  exact⟨gk,⟨E,_,F.out.trans L.out,H.out.e8<|t.out.1.e8<|me t.out.2 0 _,_,_,_,t.out.2.aaq ((S3 _ _ _).1.trans z) l.out⟩⟩
def apM{X:Ċ->Í->Prop}(t:Fr b B (Å É k) y) (f:gK m b g O s st w) (i:jh B k st) (L:B.size<=1200) (v:k<B.size) (r:(0<st.r/\jR (B[k].toNat:Int)=Ì)\/st.r<=0) (j:0<s.size) (l:¬((s[0]'j).toNat:Int)=82) (n:¬((s[0]'j).toNat:Int)=66) (o:¬((s[0]'j).toNat:Int)=84) (p:¬((s[0]'j).toNat:Int)=80) (x:pO ((s[0]'j).toNat:Int) (B[k].toNat:Int)=Ì) (_hK:∀y u,Fr b B (Å É<|(k:Int)+1) y/\rO m b B k st w u->K y u) (z:∀y u,Fr b B (Å É k) y/\rP m b B k st w u->X y u): ä À pQ (Exit.then K<|QQ X) y w:=by
 obtain⟨c,rfl⟩:=t;unfold o0;conv=>arg 2;whnf
 have M:w.cell? ⟨b,0,Á⟩=Â (Ä s):=f.r.r 0 _ U;have N:w.cell? ⟨b,6,Á⟩=Â (Å É st.r):=f.r.r 6 _ U;have P:w.cell? ⟨b,7,Á⟩=Â (Å É st.I):=f.r.r 7 _ U;have Q:=f.r.C 0;have S:=f.r.C 6;have T:=f.r.C 7;have V:=i.M;have W:=i.r;have Y:=i.C;have e1:=i.I;have C:=e7<|um (B:=B) (k:=k)<|uk r;have D:=f.Y 0 λh=>absurd h A;have E:=e7<|me f 6<|Å É 0;have zr:=i.d.C;have BV:=i.d.I;have F:=e7 D;let⟨G,H⟩:=uo B[k];have qn:=sP s Z;have xq:s.size<=10:=f.M;have h:=e7 (show st.C=(s[0].toNat:Int)::(jI s).tail by rw[<-f.I];exact vj s j);have on:st.d.r=Î:=by
  rcases f.N with q|q
  .exact q
  .rw[h.out]at q;injection q with q;omega
 have xr:((s[0].toNat:Int)==82)=Ì:=by rwa[beq_eq_false_iff_ne]
 have apL:((s[0].toNat:Int)==66)=Ì:=by rwa[beq_eq_false_iff_ne]
 have Ez:((s[0].toNat:Int)==84)=Ì:=by rwa[beq_eq_false_iff_ne]
 have HG:((s[0].toNat:Int)==80)=Ì:=by rwa[beq_eq_false_iff_ne]
 have q:=e7<|apv (B:=B) (k:=k) (st:={st with r:=0}) h.out l n o p x;clear l n o p f i;rcases r with⟨I,ou⟩|I;all_goals
  go_wp2_with (first|(go_at_call 94;refine(rM _ _).mono ?_;rintro e u ⟨rfl,J⟩;subst u)|(go_at_call 104;refine(T_ _ _ G H _).mono ?_;rintro e u ⟨rfl,J⟩;subst u))
  exact z _ _ ⟨gk,⟨v,C.out.trans q.out,_,E.out,_,_,_,F.out⟩⟩
end
section
variable{g:Gh}{c:PS}{d:PD}
theorem apN{X:Ċ->Í->Prop}{d:ByteArray}(e:Fr b d (Å É k) y) (f:gK m b g O B c w) (h:jh d k c) (i:d.size<=1200) (j:k<d.size) (l:∀y v,Fr b d (Å É<|(k:Int)+1) y/\rO m b d k c w v->K y v) (n:∀y v,Fr b d (Å É k) y/\rP m b d k c w v->X y v): ä À pQ (Exit.then K<|QQ X) y w:=by
 by_cases x:0<c.r/\jR (d[k].toNat:Int)=Î
 .grind [apA]
 have o:(0<c.r/\jR (d[k].toNat:Int)=Ì)\/c.r<=0:=by grind
 by_cases z:B.size=0
 .grind [apB]
 have p:0<B.size:=Z
 by_cases r:(B[0].toNat:Int)=82
 .grind [apC]
 by_cases q:(B[0].toNat:Int)=66
 .cases s:rK (d[k].toNat:Int)with
  |true=>exact apD e f h i j o p q s l n
  |false=>exact apE e f h i j o p q s l n
 by_cases s:(B[0].toNat:Int)=84
 .grind [apF]
 by_cases t:(B[0].toNat:Int)=80
 .grind [apG,apH,apJ,apI]
 cases u:pO (B[0].toNat:Int) (d[k].toNat:Int)with
 |true=>exact apK e f h i j o p r q s t u l n
 |false=>exact apM e f h i j o p r q s t u l n
def apO{X:Ċ->Í->Prop}(c:Fr b B (Å É k) y)(_hB:B.size<=1200)(e:¬k<B.size)(_hk:k<=B.size) (d:∀y v,Fr b B (Å É k) y/\v=w->X y v): ä À pQ (Exit.then K<|QQ X) y w:=by
 obtain⟨u,rfl⟩:=c;unfold o0;conv=>arg 2;whnf
 go_wp2;exact d _ _ ⟨gk,U⟩
def nF(B:ByteArray):Nat×PS:=sM B B.size 0 sN
def RI(m b:Nat)(d:ByteArray)(w:Í)(a:Ċ)(e:Í):Prop:=
 ∃(k:Nat) (g:Gh) (O:Option û) (B:ByteArray) (c:PS),k<=d.size/\Fr b d (Å É k) a/\gK m b g O B c e/\eZ (λi=>m<=i) w e/\jh d k c/\nF d=sM d (d.size-k) k c
def Rmu(B:ByteArray)(a:Ċ)(_:Í):Nat:=B.size-(intOf<|a.tmps.getD 5 Ï).toNat
def RX(m b:Nat)(B:ByteArray)(w:Í)(a:Ċ)(d:Í):Prop:=
 ∃(k:Nat) (c:PS),k<=B.size/\Fr b B (Å É k) a/\rN m b c w d/\(nF B).1=k/\(k=B.size->(nF B).2=c)
def aas{i:Int}{w:Í}(h:Fr b B (Å É i) y):Rmu B y w=B.size-i.toNat:=by obtain⟨u,rfl⟩:=h;rfl
def apP{a:PS}(b:k<B.size)(d:uh B k c (B[k].toNat:Int)=Â a):sM B (B.size-k) k c=sM B (B.size-(k+1)) (k+1) a:=by rw[show B.size-k=(B.size-(k+1))+1 by omega,sM,dif_pos b,d]
def apQ(a:k<B.size)(b:uh B k c (B[k].toNat:Int)=Á):sM B (B.size-k) k c=(k,c):=by rw[show B.size-k=(B.size-(k+1))+1 by omega,sM,dif_pos a,b]
def apR{d:ByteArray}(i:Fr b d (Å É 0) y)(h:gK m b g O B sN w)(r:d.size<=1200): ä À (Ň pQ) (QQ<|RX m b d w) y w:=by
 apply Η (RI m b d w) (Rmu d) ⟨0,g,O,B,sN,Ø _,i,h,eZ.fO _ _,S6 d,U⟩;rintro y x ⟨k,g,O,B,c,n,i,s,o,t,p⟩;by_cases j:k<d.size
 .refine apN i s t r j ?_ ?_
  .rintro u v ⟨f,z,e,l,q,C,D,E,F⟩;refine⟨⟨k+1,C,D,E,e,Z,by simpa using f,F,o.e8 q,aaj t j l,p.trans<|apP j l⟩,?_⟩;rw[aas f,aas (w:=x) i];omega
  .rintro u v ⟨f,z,l,C,q,D⟩;have:=p.trans<|apQ j l;exact⟨k,C,n,f,⟨o.e8 q,D⟩,by rw[this],λe=>by omega⟩
 .apply apO i r j n;rintro u v ⟨f,rfl⟩;have:nF d=(k,c):=by rw[p,show d.size-k=0 by omega];rfl
  exact⟨k,c,n,f,⟨o,g,O,B,s⟩,by rw[this],λ_=>by rw[this]⟩
def apS{c:ByteArray}(h:gK m b g O B sN w)(f:c.size<=1200): Ó À 61 #[Ã<|Â ⟨b,0,Á⟩,Ä c] w λe u=>
  ∃(k:Nat) (d:PS),k<=c.size/\e=È (Å É k)/\rN m b d w u/\(nF c).1=k/\(k=c.size->(nF c).2=d):=by
 go_enter Tryz.func61,Tryz.ntmps61;go_wp2;go_step3;go_wp2;go_step3;go_wp2;refine Ĵ ?_ (apR gk h f);rintro(_|(_|_)|_|_|_|_) a v hq;all_goals first|exact absurd hq id|skip
 let⟨k,d,i,j,l⟩:=hq;obtain⟨e,rfl⟩:=j;unfold o0;go_wp2;(try rw[Exit.noGoto_ret]);go_ret;exact⟨k,d,i,U,(e7 l).out⟩
end
def mD(B:ByteArray):Int×Bool×List PR:=
 if B.size=0 then(0,Î,[])else(((nF B).1:Int),decide ((nF B).1=B.size)&&(decide ((nF B).2.C=[])||decide ((nF B).2.C=[66])),(nF B).2.d.C)
def iZ(B:ByteArray):Int×Int×List PR:=
 if 1200<B.size then(1,0,[])else if(mD B).2.1=Î then(0,0,(mD B).2.2)else(2,(mD B).1,[])
def BW(m:Nat)(v:Ñ)(b:List PR)(w:Í):Prop:=jm m w/\∃a,w.ownsRow m 148 1 v a.length (mV a)/\oY w.heap.size a b w
section
variable{g:Gh}{a:PS}
def BW.oC(w:Í):BW w.heap.size (Æ Á 0 0) [] w:=⟨jm.I w,[],⟨U,Ç ⟨U,U⟩⟩,oY.N _ _⟩
def gK.iE(h:gK m b g O B a w)(c:a.d.r=Ì->a.d.S=[])(n:Nat):BW m g.N a.d.C (w.drewN n):= ⟨h.a.iH n,g.C a.d,gV h.C.C (eZ.iH e9 w n) λ_ _=>id,(h.C.aac c).C (eZ.iH e9 w n) λ_ _ x=>x.elim⟩
def g0(m:Nat):Gh:={a:=[],q:=0,t:=0,B:=m,tb:=[],N:=Æ Á 0 0,r:=Æ Á 0 0,b:=Á}
def apT(w:Í):gK w.heap.size w.heap.size (g0 w.heap.size) Á ⟨#[82]⟩ sN (w.alloc<|Þ #[Ä ⟨#[82]⟩,Æ Á 0 0,Ã Á,Ã Á,Ã Á,Ã Á,Å É 0,Å É 0] 153):= ⟨ê _,(jm.I w).gB _ _ A A (λv e=>by simp at e;rcases e with rfl|rfl|rfl|rfl<;>trivial),fc.N w [Ä ⟨#[82]⟩,Æ Á 0 0,Ã Á,Ã Á,Ã Á,Ã Á,Å É 0,Å É 0] 153,A,A,⟨⟨U,Ç ⟨U,U⟩⟩,oY.N _ _,(λe=>by cases e),λ_=>rfl⟩,(λq=>by cases q),Ð rfl⟩
def apU(B:ByteArray):jI B=[66]↔B.toList=[66]:=by
 unfold jI;rw[ByteArray.toList_eq];constructor
 .intro h;match hl:B.data.toList with
  |[]=>rw[hl]at h;simp at h
  |[x]=>
   rw[hl]at h;simp only[Ō,œ,List.cons.injEq,and_true]at h;have:x=66:=UInt8.toNat_inj.1 (by have:x.toNat=66:=Z;rw[this];rfl);rw[this]
  |x::y::r=>rw[hl]at h;simp at h
 .intro h;rw[h];rfl
def Td(a:¬B.size=0):(mD B).1=((nF B).1:Int):=by rw[mD,if_neg a]
def aat(a:¬B.size=0):(mD B).2.2=(nF B).2.d.C:=by rw[mD,if_neg a]
def apV(a:¬B.size=0)(h:¬(nF B).1=B.size):(mD B).2.1=Ì:=by rw[mD,if_neg a];simp[h]
def aau(a:¬B.size=0)(h:(nF B).1=B.size){x:Bool}(b:x=(decide ((nF B).2.C=[])||decide ((nF B).2.C=[66]))):(mD B).2.1=x:=by rw[mD,if_neg a,b];simp[h]
def apW(B:ByteArray):(nF B).2.d.r=Ì->(nF B).2.d.S=[]:=λe=>((S7 B.size 0 sN (S6 B)<|Ø _).1.d.N e).1
theorem aav{a:ByteArray}(r:a.size<=1200): Ó À 45 #[Ä a] w λe u=>
  eZ e9 w u/\∃v,e=È (ï #[v,Å É (mD a).1,î (mD a).2.1])/\((mD a).2.1=Î->BW w.heap.size v (mD a).2.2 u):=by
 by_cases b:a.size=0
 .have h:=S8 a b;have n:=e7 (show mD a=(0,Î,[])from if_pos b);go_enter ι,Τ;go_wp2;apply ā (v:=ï #[Æ Á 0 0,Å É 0,î Î]) (by simp[ņ,ħ,go_sem]) U;exact⟨eZ.fO _ _,_,by rw[n.out],λ_=>by rw[n.out];exact BW.oC w⟩
 .have h:=sP a b;have c:=e7 b;go_enter ι,Τ;go_wp2_with (go_at_call 61;refine(apS (apT w) r).mono ?_;rintro e s ⟨k,f,i,rfl,⟨n,g,O,B,d⟩,j,t⟩);have m:eZ e9 w s:=((eZ.gB (λi=>w.heap.size<=i) w _ _).e8 n).S λi D x=>by omega
  have E:=d.r.r 0 _ U;have F:=d.r.r 1 _ U;by_cases o:k=a.size
  .subst o;have y:=t U;subst y;have p:=e7 d.I;have q:=e7 λn=>d.iE (apW a) n;have n:=e7 j;have f:=e7 m;have z:((a.size:Int)==(a.size:Int))=Î:=fg
   by_cases b:B.size=0
   .have h:=S8 B b;have l:=e7 (aau c.out n.out (x:=Î)<|by rw[<-p.out,S_ B b];rfl);go_quiet (fail);go_wp2;apply ā (v:=ï #[g.N,Å É a.size,î Î]) (by simp[ņ,ħ,go_sem]) U;exact⟨f.out.e8<|eZ.iH _ _ _,_,by rw[Td c.out,n.out,l.out],λ_=>by rw[aat c.out];exact q.out _⟩
   .have h:=sP B b;have l:=e7 (aau c.out n.out (x:=(B.toList==[66])) (by
     rw[<-p.out];have C:¬jI B=[]:=λe=>by have:=SL B;grind
     rw[decide_eq_false C,Bool.false_or,Ĝ,beq_iff_eq,decide_eq_true_iff,apU]))
    go_quiet (fail)
    go_wp2;apply ā (v:=ï #[g.N,Å É a.size,î<|B.toList==[66]]) (by simp[ņ,ħ,go_sem]) U;exact⟨f.out.e8<|eZ.iH _ _ _,_,by rw[Td c.out,n.out,l.out],λ_=>by rw[aat c.out];exact q.out _⟩
  .have z:((k:Int)==(a.size:Int))=Ì:=by rw[beq_eq_false_iff_ne];omega
   have n:=e7 (Ë j<|apV c.out<|by rwa[j]);have f:=e7 m;go_quiet (fail);go_wp2;apply ā (v:=ï #[g.N,Å É k,î Ì]) (by simp[ņ,ħ,go_sem]) U;exact⟨f.out.e8<|eZ.iH _ _ _,_,by rw[Td c.out,n.out.1,n.out.2],λe=>by rw[n.out.2]at e;cases e⟩
def apX(h:B.size<=ď): Ó À 36 #[Ä B] w λe u=>
  eZ e9 w u/\∃v,e=È (ï #[v,Å É (iZ B).1,Å É (iZ B).2.1])/\((iZ B).1=0->BW w.heap.size v (iZ B).2.2 u)/\((iZ B).1≠0->v=Æ Á 0 0):=by
 unfold ď at h;by_cases b:1200<B.size
 .have a:=e7 (show iZ B=(1,0,[]) by rw[iZ,if_pos b]);go_enter Ŀ,Ŝ;go_wp2;apply ā (v:=ï #[Æ Á 0 0,Å É 1,Å É 0]) (by simp[ņ,ŀ,go_sem]) U;exact⟨eZ.fO _ _,_,by rw[a.out],(λe=>by rw[a.out]at e;cases e),λ_=>rfl⟩
 .have f:B.size<=1200:=Z
  cases c:(mD B).2.1 with
  |true=>
   have a:=e7 (show iZ B=(0,0,(mD B).2.2) by rw[iZ,if_neg b,if_pos c]);go_enter Ŀ,Ŝ;go_wp2_with (go_at_call 45;refine(aav f).mono ?_;rintro e i ⟨d,v,rfl,g⟩);apply ā (v:=ï #[v,Å É 0,Å É 0]) (by simp[ņ,ŀ,go_sem]) U;exact⟨d,_,by rw[a.out],(λ_=>by rw[a.out];exact g c),λe=>by rw[a.out]at e;exact absurd U e⟩
  |false=>
   have a:=e7 (show iZ B=(2,(mD B).1,[]) by rw[iZ,if_neg b,if_neg (by rw[c];exact Bool.false_ne_true)]);go_enter Ŀ,Ŝ;go_wp2_with (go_at_call 45;refine(aav f).mono ?_;rintro e i ⟨d,v,rfl,g⟩);apply ā (v:=ï #[Æ Á 0 0,Å É 2,Å É (mD B).1]) (by simp[ņ,ŀ,go_sem]) U;exact⟨d,_,by rw[a.out],(λe=>by rw[a.out]at e;cases e),λ_=>rfl⟩
end
end Go.Proofs.Y.zn
namespace Go.Proofs.Y.nA
open Go Go.Conc Go.Proofs Go.RowKit Go.Proofs.Y.Lift Go.Proofs.Y.iy Go.Proofs.Y.fv Go.Proofs.Y.zn
structure HJ(a:Nat)(t:PT)(w:Í):Prop where
 r:∃cs fz,w.heap[a]?=Â (Þ cs 200 fz)
 c:∀i,i<5->w.cell? ⟨a,i,Á⟩=Â (Å É<|t.c.getD i 0)
 p:w.cell? ⟨a,5,Á⟩=Â (Ä t.p)
structure xt(r:Nat)(p:PR)(w:Í):Prop where
 c:∀i,i<8->w.cell? ⟨r,i,Á⟩=Â (Å É<|p.c.getD i 0)
 b:∃bp n cp,w.cell? ⟨r,8,Á⟩=Â (Æ bp n cp)/\n=p.r.length/\∀(j:Nat) (t:PT),p.r[j]?=Â t->∃tb a,bp=Â ⟨tb,0,Á⟩/\w.cell? ⟨tb,j,Á⟩=Â (Ã<|Â ⟨a,0,Á⟩)/\HJ a t w
structure RQ(rs:List PR)(v:Ñ)(U:Nat->Prop)(w:Í):Prop where
 C:kr nB U w
 I:ff (kN U nB) v v
 M:∃bp cp,v=Æ bp rs.length cp/\∀(j:Nat) (p:PR),rs[j]?=Â p->∃sb r,bp=Â ⟨sb,0,Á⟩/\w.cell? ⟨sb,j,Á⟩=Â (Ã<|Â ⟨r,0,Á⟩)/\xt r p w
section
variable{f:Nat->Prop}{rs:List PR}{Y:fi}
theorem apY(h:iX Y X u w){t:PT}(d:Y i n)(k:HJ i t u):HJ n t w:=by refine⟨?_,λb f=>(zk h).r d<|k.c b f,(zk h).C d k.p⟩;let⟨c,g,e,j,l,m,o,_⟩:=h.r i n d;let⟨r,s,q⟩:=k.r;grind
theorem apZ(h:iX Y X u w){r:Nat}{p:PR}(e:Y r i)(k:xt r p u):xt i p w:=by refine⟨λd f=>(zk h).r e<|k.c d f,?_⟩;let⟨G,n,g,l,m,o⟩:=k.b;let⟨x,q,s⟩:=zk h r i 8 _ e l;obtain⟨v,rfl,y⟩:=Lx s;refine⟨v,n,g,q,m,λj t z=> ?_⟩;let⟨tb,a,B,C,H⟩:=o j t z;let⟨I,J,D⟩:=y _ B;obtain⟨E,rfl,F⟩:=zh D;let⟨K,L,M⟩:=zk h tb E j _ F C;grind [Lw,zh,apY]
theorem ap0(h:iX Y X u w)(b:ff Y v x)(a:RQ rs v f u):RQ rs x (λj=>∃i,f i/\Y i j) w:=by refine⟨SF h a.C,Ly b a.I,?_⟩;obtain⟨s,i,rfl,c⟩:=a.M;obtain⟨d,rfl,e⟩:=Lx b;refine⟨d,i,U,λj p g=> ?_⟩;let⟨k,r,l,m,t⟩:=c j p g;let⟨y,z,n⟩:=e _ l;obtain⟨o,rfl,q⟩:=zh n;let⟨B,C,D⟩:=zk h k o j _ q m;grind [Lw,zh,apZ]
def zt(k:W.heap[b]?=w.heap[b]?)(h:w.cell? ⟨b,i,Á⟩=Â z):W.cell? ⟨b,i,Á⟩=Â z:=by simp only[ã,k];exact h
def ap1(l:kr nB X w)(k:∀b,X b->W.heap[b]?=w.heap[b]?){r:Nat}{p:PR}(d:X r)(h:xt r p w):xt r p W:=by
 refine⟨λi e=>zt (k r d)<|h.c i e,?_⟩;let⟨u,n,v,m,x,y⟩:=h.b;refine⟨u,n,v,zt (k r d) m,x,λj t z=> ?_⟩;let⟨tb,a,o,q,f⟩:=y j t z;have s:X tb:=by have:=l.r d m;rw[o]at this;exact BP this
 have g:=BO<|l.r s q;exact⟨tb,a,o,zt (k tb s) q,⟨by rw[k a g];exact f.r,λi e=>zt (k a g)<|f.c i e,zt (k a g) f.p⟩⟩
def RQ.r(h:RQ rs v f w)(k:∀b,f b->W.heap[b]?=w.heap[b]?):RQ rs v f W:=by
 refine⟨h.C.C k,h.I,?_⟩;obtain⟨g,i,rfl,l⟩:=h.M;refine⟨g,i,U,λj p m=> ?_⟩;let⟨a,r,c,d,n⟩:=l j p m;have e:f a:=by have:=h.I;rw[c]at this;exact BP this
 exact⟨a,r,c,zt (k a e) d,ap1 h.C k (BO<|h.C.r e d) n⟩
def aaw{v:Ñ}(h:mC m i v):ff (kN (λd=>m<=d/\d<i) nB) v v:=by
 cases v with
 |int k n=>exact .iA k n
 |bool b=>exact .lQ b
 |string i=>exact .kD i
 |pointer a=>cases a with
  |none=>exact .lj
  |some a=>exact ff.jD (Y:=kN (λd=>m<=d/\d<i) nB) ⟨⟨U,h⟩,U,U⟩
 |slice a n c=>cases a with
  |none=>exact .nG n c
  |some a=>exact ff.ku (Y:=kN (λd=>m<=d/\d<i) nB) ⟨⟨U,h⟩,U,U⟩ n c
 |_=>exact absurd h<|by simp[mC]
def ap2{v:Ñ}(h:mC m i v):xA v=Ì:=by
 cases v with
 |int k n=>cases k<;>first|rfl|exact absurd h<|by simp[mC]
 |_=>rfl
def ap3(h:jm m w):kr nB (λi=>m<=i/\i<w.heap.size) w:=λb i=>by let⟨c,e,f,g,j,k,l,n,d⟩:=h b _ i.1<|é i.2;exact⟨c,e,f,by rw[é i.2,g],j,oU λv a=>aaw<|d v a,k,zj λv a=>ap2<|d v a,l,n⟩
theorem KG{base:Nat}(h:w.ownsRow base e 1 v jJ.length (mV jJ)):∃b f,v=Æ b jJ.length f/\∀(j r:Nat),jJ[j]?=Â r->∃a,b=Â ⟨a,0,Á⟩/\base<=a/\w.cell? ⟨a,j,Á⟩=Â (Ã<|Â ⟨r,0,Á⟩):=by
 obtain⟨m,⟨n,o⟩|⟨g,p,q,rfl,i,k,s,t,u,l⟩⟩:=h
 .grind
 .refine⟨_,_,U,λj r c=>⟨g,U,i,?_⟩⟩;have x:=(Ö.1 c).1;have d:(mV jJ)[j]?=Â (Ã<|Â ⟨r,0,Á⟩):=by simp[mV,c]
  rw[<-l,List.getElem?_take_of_lt Z]at d;simp only[ã,k,ø,ð,if_false];simpa using d
def aax(h:fc n (nT zQ++[z]) T w)(a:i<zQ.length):w.cell? ⟨n,i,Á⟩=Â (Å É<|zQ.getD i 0):=h.r i _<|SU a z
def aay(h:fc i (nT zQ++[z]) T w)(a:zQ.length=n):w.cell? ⟨i,n,Á⟩=Â z:=h.r n _<|by rw[<-a];exact BU zQ z
def ap4{r:PR}(h:vl i n r w):xt n r w:=by
 let⟨x,tb,e,l,y,b⟩:=h.I;refine⟨λa c=>aax e (by rwa[h.C]),?_⟩;obtain⟨m,o,rfl,p⟩:=KG l;refine⟨m,_,o,aay e h.C,b.r,λj t f=> ?_⟩;have g:j<tb.length:=by rw[b.r];exact(Ö.1 f).1
 let⟨s,u,z,v⟩:=p j tb[j]<|Ô g;let⟨_,_,k,d⟩:=b.I j tb[j] t (Ô g) f;exact⟨s,tb[j],u,v,⟨_,_,d⟩,λa c=>aax d (by rwa[k]),aay d k⟩
def ap5(h:BW m v rs w):RQ rs v (λi=>m<=i/\i<w.heap.size) w:=by
 let⟨f,i,b,c⟩:=h;obtain⟨d,k,rfl,l⟩:=KG b;refine⟨ap3 f,?_,d,k,by rw[c.I],λj p e=> ?_⟩
 .cases d with
  |none=>exact .nG _ _
  |some a=>
   have:=b.lt a.block (by rcases b.2 with⟨q,_⟩|⟨g,n,o,q,_⟩<;>(cases q;try rfl));exact aaw this
 .have a:j<i.length:=by rw[c.I];exact(Ö.1 e).1
  let⟨g,q,o,n⟩:=l j i[j]<|Ô a;exact⟨g,i[j],q,n,ap4<|c.M j i[j] p (Ô a) e⟩
end
def aaz(B:ByteArray)(z:Ñ)(u:Í):Prop:=∃v,z=ï #[v,Å É (iZ B).1,Å É (iZ B).2.1]/\((iZ B).1=0->∃a,RQ (iZ B).2.2 v a u)
def ap6(B:ByteArray):vG (aaz B):=λv u T D h=>by let⟨x,a,b⟩:=h;refine⟨x,a,λe=> ?_⟩;let⟨U,c⟩:=b e;exact⟨U,c.r λ_ _=>rfl⟩
def ap7{l:e5}(f:gl l)(s:¬l.q)(t:nB<=l.w.heap.size)(u:B.size<=ď)(m:Bool)(h:ċ)(k:List ċ): fv.fe À m (λa n=>kB l a/\a.d=l.d/\∃v,n=G (h.finish<|ï #[v,Å É (iZ B).1,Å É (iZ B).2.1]) k/\((iZ B).1=0->∃V,RQ (iZ B).2.2 v V a.w/\∀b,V b->a.O b/\l.w.heap.size<=b)) l (G (á À 36 #[Ä B] ú)<|h::k):=by
 let⟨X,c,C,V⟩:=yI 36 fR;have D:∀T,Ó À 36 #[Ä B] (World.tp (kL (λj=>False/\¬(lG l).O j) l.w) T 0) fun|È v,j=>aaz B v j/\jU j|_,_=>False:=λT=>by refine(apX u).mono ?_;rintro e p ⟨g,v,rfl,i,o⟩;exact⟨⟨v,U,λe=>⟨_,ap5<|i e⟩⟩,g.gM Em⟩
 refine((Dt xC KB yI (ap6 B) fR C V (Du f) s (λb q=>q.elim) ⟨λb q=>q.elim,t⟩ (λg q=>by cases q) (oU λv g=>by simp at g;subst g;exact .kD B) D m h k).lG f).fH ?_;rintro a n ⟨x',⟨Y,j,v,v',_,E,F,⟨v0,rfl,o⟩,H,I,_,J⟩,rfl,K,L,_,_⟩;cases F with
 |@mX _ cs'' hs lV=>
  let⟨M⟩:=cs'';match M,hs with
  |[x,y,z],_=>
   have g:=lV 0 fg fg;have p:=lV 1 fg fg;have r:=lV 2 fg fg;simp at g p r;cases p;cases r;refine⟨K,J,x,H,λe=> ?_⟩;let⟨U,N⟩:=o e;refine⟨_,ap0 E g (N.r λ_ _=>rfl),λb V=> ?_⟩;let⟨i,_,P⟩:=V;let⟨Q,S⟩:=I i b P;have W:l.w.heap.size<=b:=S.elim (λq=>q.elim) λq=>q.elim (λq=>q.elim) id;refine⟨Ç (Q.resolve_right λq=> ?_),W⟩;rw[L]at q;have:=f.fl b q;omega
end Go.Proofs.Y.nA
namespace Go.Proofs.Y.iy
open Go Go.Proofs Go.RowKit Go.Proofs.Y.Lift
def BX:List Ñ:=ic (jP 8)++[Æ Á 0 0,Å É 0,Æ Á 0 0]
def ap8(w:Í):Ó À 44 #[] w λe a=>∃c B,e=È (Æ (Â ⟨c,0,Á⟩) 1 1)/\fc B BX 147 a/\fc c [Ã<|Â ⟨B,0,Á⟩] 136 a/\eZ e9 w a:=by
 have d:(ic<|jP 8).length=144:=rE _;have i:(ic (jP 8)++[Æ Á 0 0]).length=145:=by rw[Ü,d];rfl
 have f:=e7<|Ë d i;unfold BX;have j:=e7 λW=>ami W;generalize jP 8=s at*;go_enter Tryz.func44,Tryz.ntmps44;go_wp2_with (first
  |(go_at_call 60;refine(j.out _).mono ?_;rintro e W ⟨rfl,b⟩;have k:=e7 b;clear b)
  |(with_reducible refine Ē U (Â 2) U _ _ (RY U U f.out.1) ?_)
  |(with_reducible refine Ē U (Â 3) U _ _ (amA U U f.out.2) ?_)
  |(with_reducible refine Ē U (Â 4) U _ _ (ZC U U) ?_))
 have g:=fc.N (W.alloc<|Þ (ic s++[Æ Á 0 0,Å É 0,Æ Á 0 0]).toArray 147) [Ã<|Â ⟨W.heap.size,0,Á⟩] 136;have h:=eZ.gB e9 (W.alloc<|Þ (ic s++[Æ Á 0 0,Å É 0,Æ Á 0 0]).toArray 147) #[Ã<|Â ⟨W.heap.size,0,Á⟩] 136;have l:(W.alloc<|Þ (ic s++[Æ Á 0 0,Å É 0,Æ Á 0 0]).toArray 147).heap.size=W.heap.size+1:=fg
 rw[l]at g;have b:=e7<|Ë ((fc.N W (ic s++[Æ Á 0 0,Å É 0,Æ Á 0 0]) 147).I h id)<|Ë g<|(k.out.e8<|eZ.gB e9 W (ic s++[Æ Á 0 0,Å É 0,Æ Á 0 0]).toArray 147).e8 h;go_ret;exact⟨W.heap.size+1,W.heap.size,U,b.out.1,b.out.2.1,b.out.2.2⟩
def ap9(n:Int)(j:1<=n)(k:n<=8)(w:Í):Ó À 35 #[Å É n] w λe b=>∃g a B,e=È (ï #[Ã<|Â ⟨g,0,Á⟩,Å É 0])/\fc g [Å É n,Æ (Â ⟨a,0,Á⟩) 1 1] 68 b/\fc B BX 147 b/\fc a [Ã<|Â ⟨B,0,Á⟩] 136 b/\eZ e9 w b:=by go_enter κ,Tryz.ntmps35;go_wp2_with (go_at_call 44;refine(ap8 _).mono ?_;rintro e c ⟨a,B,rfl,f,h,i⟩;have d:=e7<|Ë f<|Ë h i;clear f h i);go_ret2;have f:=eZ.gB e9 c #[Å É n,Æ (Â ⟨a,0,Á⟩) 1 1] 68;exact⟨c.heap.size,a,B,U,fc.N c [Å É n,Æ (Â ⟨a,0,Á⟩) 1 1] 68,d.out.1.I f id,d.out.2.1.I f id,d.out.2.2.e8 f⟩
end Go.Proofs.Y.iy
namespace Go.Proofs.Y.nA
open Go Go.Conc Go.Proofs Go.RowKit Go.Proofs.Y.Lift Go.Proofs.Y.iy Go.Proofs.Y.fv Go.Proofs.Y.zn
section
variable{Y:fi}{a:Nat->Prop}
def aaA:∀v∈BX,(∃k n,v=Å k n/\k≠ŭ)\/(∃p,v=Ä p)\/v=Æ Á 0 0:=λv k=>by
 unfold BX at k;rcases æ.1 k with q|q
 .rcases SC _ v q with⟨n,rfl⟩|⟨p,rfl⟩
  .exact Ç ⟨_,_,U,A⟩
  .exact Ð<|Ç ⟨p,U⟩
 .simp at q;rcases q with rfl|rfl|rfl
  .exact Ð<|Ð U
  .exact Ç ⟨_,_,U,A⟩
  .exact Ð<|Ð U
def aaB:lC [iy.mb]:=⟨A,A,λv b=>by simp at b;subst b;exact⟨⟨(λp a=>by cases a),(λp a=>by cases a),Ø _,Ø _⟩,d_,Ũ _,show(0:Int)<1 by decide⟩⟩
def aqa(d:iy.fc n BX 147 w)(f:iy.fc i [Ã<|Â ⟨n,0,Á⟩] 136 w):RD [iy.mb] (Æ (Â ⟨i,0,Á⟩) 1 1) (λk=>k=i\/k=n) w:=by
 refine⟨[(n,iy.mb)],U,aaB,⟨_,1,1,U,ê _,⟨U,λj b v e=> ?_⟩⟩,?_,ff.ku (Y:=kN (λk=>k=i\/k=n) nB) ⟨⟨U,Ç U⟩,U,U⟩ 1 1⟩
 .cases j with
  |zero=>
   cases e;exact⟨_,0,U,f.r 0 _ U,(amB d_<|by rwa[Ŕ])⟩
  |succ j=>simp at e
 .rintro b (rfl|rfl)
  .refine⟨_,_,_,f,fg,oU λv c=> ?_,fg,zj λv c=> ?_,A,A⟩
   .simp at c;subst c;exact ff.jD (Y:=kN (λk=>k=b\/k=n) nB) ⟨⟨U,Ð U⟩,U,U⟩
   .simp at c;subst c;rfl
  .refine⟨_,_,_,d,fg,oU λv c=> ?_,by simp[BX],zj λv c=> ?_,A,A⟩
   .rcases aaA v (by simpa using c)with⟨k,a,rfl,_⟩|⟨p,rfl⟩|rfl
    .exact .iA k a
    .exact .kD p
    .exact .nG 0 0
   .rcases aaA v (by simpa using c)with⟨k,a,rfl,g⟩|⟨p,rfl⟩|rfl
    .cases k<;>first|rfl|exact absurd U g
    .rfl
    .rfl
def EA(b:Nat)(n:Int)(c:Ñ)(w:Í):Prop:=∃a,w.heap[b]?=Â (Þ #[Å É n,c] 68 a)/\a=(0,0)
def EA.r(h:EA i c v w)(k:W.heap[i]?=w.heap[i]?):EA i c v W:=by let⟨a,b,d⟩:=h;exact⟨a,k.trans b,d⟩
def aqb(h:iX Y a u w)(g:∀b,¬a b)(q:Y i j)(k:iy.fc i [Å É c,v] 68 u):∃l,ff Y v l/\EA j c l w:=by
 let⟨d,r,e,D,s,m,t,z,_,B,_⟩:=h.r i j q;unfold iy.fc at k;rw[k]at m;cases m;have f:=z.N<|g j;let⟨C⟩:=r;match C,f.r with
 |[x,y],_=>
  have o:=f.C 0 fg fg;have p:=f.C 1 fg fg;simp at o p;cases o;exact⟨y,p,s,t,(B<|g j).symm⟩
end
def aaC(n:Int)(z:Ñ)(u:Í):Prop:=∃a b B,z=ï #[Ã<|Â ⟨a,0,Á⟩,Å É 0]/\iy.fc a [Å É n,Æ (Â ⟨b,0,Á⟩) 1 1] 68 u/\RD [iy.mb] (Æ (Â ⟨b,0,Á⟩) 1 1) (λi=>i=b\/i=B) u/\a≠b/\a≠B
def aqc(n:Int):vG (aaC n):=λv u T D h=>by let⟨b,c,B,d,e,a⟩:=h;exact⟨b,c,B,d,e,a.1.r λ_ _=>rfl,a.2⟩
def aqd{l:e5}(p:gl l)(K:¬l.q)(L:nB<=l.w.heap.size){n:Int}(M:1<=n)(N:n<=8)(C:Bool)(r:ċ)(s:List ċ): fv.fe À C (λf D=>kB l f/\f.d=l.d/\∃a e,D=G (r.finish<|ï #[Ã<|Â ⟨a,0,Á⟩,Å É 0]) s/\EA a n e f.w/\f.O a/\l.w.heap.size<=a/\∃V,RD [iy.mb] e V f.w/\¬V a/\∀b,V b->f.O b/\l.w.heap.size<=b) l (G (á À 35 #[Å É n] ú)<|r::s):=by
 let⟨fn,c,P,t⟩:=yI 35 fR;have Q:∀T,Ó À 35 #[Å É n] (World.tp (kL (λj=>False/\¬(lG l).O j) l.w) T 0) fun|È v,h=>aaC n v h/\jU h|_,_=>False:=λT=>by refine(ap9 n M N _).mono ?_;rintro e z ⟨a,k,B,rfl,V,m,o,g⟩;exact⟨⟨a,k,B,U,V,aqa m o,iy.fc.S V o A,iy.fc.S V m A⟩,g.gM Em⟩
 refine((Dt xC KB yI (aqc n) fR P t (Du p) K (λb q=>q.elim) ⟨λb q=>q.elim,L⟩ (λg q=>by cases q) (oU λv e=>by simp at e;subst e;exact .iA _ _) Q C r s).lG p).fH ?_;rintro f D ⟨u,⟨Y,h,v,v',_,g,S,⟨a,k,B,rfl,V,m,o,W⟩,X,q7,_,q6⟩,rfl,ha,hR,_,_⟩;have E:∀i j,Y i j->(qa l u).O j/\l.w.heap.size<=j:=λi j e=>by let⟨z,F⟩:=q7 i j e;have H:l.w.heap.size<=j:=F.elim (λq=>q.elim) λq=>q.elim (λq=>q.elim) id;refine⟨Ç (z.resolve_right λq=> ?_),H⟩;rw[hR]at q;have:=p.fl j q;omega
 cases S with
 |@mX _ cs'' hs lV=>
  let⟨ls⟩:=cs'';match ls,hs with
  |[x,y],_=>
   have F:=lV 0 fg fg;have H:=lV 1 fg fg;simp at F H;cases H;obtain⟨a2,rfl,m3⟩:=Lw F;obtain⟨I,rfl,z⟩:=zh m3;have h2':RD [iy.mb] (Æ (Â ⟨k,0,Á⟩) 1 1) (λi=>i=k\/i=B) {h with tape:=u.w.tape,drawn:=u.w.drawn}:=m.r λ_ _=>rfl;let⟨sy,J,e2⟩:=aqb g (λj q=>q.1) z V;let⟨vs,k1,k2,k3,k4,k5⟩:=h2';let⟨vs',n1,n2⟩:=Ht (zk g) J k3;let⟨p1,p2⟩:=E a I z;refine⟨ha,q6,I,sy,X,e2,p1,p2,_,⟨vs',n1.trans k1,k2,n2,SF g k4,Ly J k5⟩,?_,λb t=> ?_⟩
   .rintro⟨i,hi,e⟩;have:=g.C.2.1 _ _ _ z e;subst this;exact hi.elim o W
   .let⟨i,_,e⟩:=t;exact E i b e
end Go.Proofs.Y.nA
namespace Go.Proofs.Y.nA
open Go Go.Conc Go.Proofs Go.RowKit Go.Proofs.Y.Lift Go.Proofs.Y.iy Go.Proofs.Y.fv Go.Proofs.Y.zn
structure uq(an:Nat)(xs:List ByteArray)(w:Í):Prop where
 r:∀(p:Nat) (x:ByteArray),xs[p]?=Â x->w.cell? ⟨an,p,Á⟩=Â (Ä x)
 C:w.cell? ⟨an,xs.length,Á⟩=Á
section
variable{an:Nat}{xs:List ByteArray}
theorem uq.qI(h:uq an xs w)(j:0<xs.length):∃c e d,w.heap[an]?=Â (Þ c e d)/\c.size=xs.length/\∀v∈c.toList,∃x,v=Ä x:=by
 have i:∀p,p<xs.length->w.cell? ⟨an,p,Á⟩=Â (Ä xs[p]!):=λp a=>h.r p _ (by simp[a]);have b:=i 0 j;have f:=h.C;simp only[ã]at b f;cases g:w.heap[an]? with
 |none=>rw[g]at b;cases b
 |some o=>
  cases o<;>rw[g]at b f<;>simp only[ø,ð,if_false]at b f<;>first|cases b|skip
  rename_i c e d;have k:c.size<=xs.length:=by grind
  have l:=λp a=>by have:=i p a;simp only[ã,g,ø,ð,if_false]at this;exact this
  have m:xs.length<=c.size:=by grind
  refine⟨c,e,d,U,Nat.le_antisymm k m,λv n=> ?_⟩;let⟨p,a⟩:=Ę n;have q:p<c.size:=by have:=(Ö.1 a).1;simpa using this
  have:=l p Z;rw[ļ]at a;rw[this]at a;cases a;exact⟨_,U⟩
end
def aqe{l:e5}(o:gl l)(F:¬l.q)(H:nB<=l.w.heap.size)(h:uq i vX l.w)(I:0<vX.length)(J:l.M i)(p:kS i=Ì)(f:kE l.w i=Â (0,0))(hn:vX.length<=1000)(K:B.size=1)(L:iI vX+vX.length<=140737488355328)(r:Bool)(k:ċ)(m:List ċ): fv.fe À r (λn s=>kB l n/\n.d=l.d/\s=G (k.finish<|Ä<|oy B vX) m) l (G (á À 38 #[Æ (Â ⟨i,0,Á⟩) vX.length vX.length,Ä B] ú)<|k::m):=by
 let⟨fn,c,N,P⟩:=yI 38 fR;let⟨t,e,Q,y,b2,z⟩:=h.qI I;have C:(λj=>j=i/\¬(lG l).O j)=λj=>j=i:=by funext j;exact propext ⟨λq=>q.1,λq=>⟨q,id⟩⟩
 have S:∀T,Ó À 38 #[Æ (Â ⟨i,0,Á⟩) vX.length vX.length,Ä B] (World.tp (kL (λj=>j=i) l.w) T 0) fun|È v,E=>v=Ä (oy B vX)/\jU E|_,_=>False:=λT=>by
  refine(Sx U Z (ê _) K (λj v a=> ?_) L).mono ?_
  .unfold kq at a;rw[Į]at a;obtain⟨x,b,rfl⟩:=õ.1 a;exact⟨i,0,U,by rw[Ŗ];exact oW (Ç p)<|h.r j x b⟩
  .rintro e g ⟨rfl,b⟩;exact⟨U,b.gM Em⟩
 have V:∀v∈t.toList,ff (pC (λj=>j=i) À.globals.size) v v:=λv a=>by obtain⟨x,rfl⟩:=z v a;exact .kD x
 have X:fL (pC (λj=>j=i) À.globals.size) #[Æ (Â ⟨i,0,Á⟩) vX.length vX.length,Ä B] #[Æ (Â ⟨i,0,Á⟩) vX.length vX.length,Ä B]:=oU λv a=>by
  have b:v=Æ (Â ⟨i,0,Á⟩) vX.length vX.length\/v=Ä B:=by simpa using a
  rcases b with rfl|rfl
  .exact ff.ku (Y:=pC (λj=>j=i) À.globals.size) ⟨⟨U,U⟩,U,U⟩ _ _
  .exact .kD B
 have W:=Dt xC KB yI (λv u T D h=>h) fR N P (Du o) F (λb q=>Ð<|by rwa[q]) (by rw[C];refine⟨λb q=> ?_,H⟩;subst q;exact⟨t,e,Q,y,(by unfold kE at f;rw[y]at f;cases f;exact Ø _),oU V,λ_=>⟨Z,(λq=>by rw[p]at q;cases q),λ_=>zj λv a=>by obtain⟨x,rfl⟩:=z v a;rfl⟩⟩) (λg q=>by cases q) X (by rwa[C]) r k m;refine(W.lG o).fH ?_;rintro n s ⟨D,⟨Y,E,v,v',_,_,b,rfl,g,_,_,u⟩,rfl,x,_,_,_⟩;cases b;exact⟨x,u,g⟩
end Go.Proofs.Y.nA
namespace Go.Proofs.Y.fv
open Go Go.Conc Go.Proofs.Y.Lift
open Go.ConcN (sumTo sumTo_congr)
def Te(P:ai)(a:Ñ->Í->Prop):Jd:=λl g=>g.status=.running/\∃v,(∀w,stepG P Î g w=.ended (.done v) w)/\a v l.w
section
variable{Y:Nat->Prop}{e:Nat->e5}
def km.mC{J:Jd}{T:gh}(c:km P Y zX i J T D e E w qJ){sl:Option (Nat×Nat)}(k:vQ v u):Υ P vQ (Ĳ E w sl) (.done v) u qJ:=by
 have C:=c.r.r;have f:∀a g,E[a]?=Â g->a≠0->QuitsD P (D a) (Deaf qJ a) g:=λa g b d=>by
  let⟨g0,j,h,_,_⟩:=c.r.C a g b;obtain rfl:g=g0:=by cases h;rfl
  simp only[d,if_false]at j;rw[C.f a<|(å.1 b).1];exact j _<|fD.fO _ _
 refine⟨v,U,k,C.l,c.N,⟨λg l=> ?_,U⟩,λa g b d=>⟨D a,(f a g b d).hears _⟩⟩;let⟨j,h⟩:=Ę l;rw[List.getElem?_drop]at h;exact⟨_,(f (1+j) g (by rwa[<-ļ]) Z).leaves⟩
theorem aqf{J:Jd}{T:gh}{l:e5}(u:l.w=W)(v:l.d=0)(m:¬l.q)(n:∀b,¬l.I b)(r:∀a,¬l.r a)(o:∀a,¬l.N a)(y:∀a,¬l.K a)(z:∀b,l.O b->b<W.heap.size)(B:g.status=.running)(C:kJ P Î J T l g):rA P (λ_=>False) 0 J T (λ_=>0) (λ_=>l) #[g] W #[]:=by
 have f:∀(p:Nat) a,touchAt #[] p=Â a->False:=λp a h=>by unfold touchAt Trace.act? at h;simp at h
 refine⟨fg,⟨⟨λi j s D E=> ?_,λi j s D E=> ?_,λi _ b _=>n b,λi _ a _=>o a,λ_ _ _ _=>id,λi _ a e=>e.elim (λq=>absurd q<|r a) λq=>absurd q<|o a,λi _ b F=>F.elim (z b) λq=>absurd q<|n b,λ_ h=>h.elim,λi _=>by rw[u];exact fD.fO _ _,λi _=>⟨λa e p x k=>(f p x k).elim,λa e=>(n _ e).elim,λa e=>(r a e).elim,λa e=>(o a e).elim⟩,λi _=>by rw[v];rfl,λH q=> ?_,λI G=>by simp at G,λp a c h=>(f p a h).elim,λi _ a e=>absurd e<|y a⟩,λi x k=> ?_,λj _=>rfl⟩,λi L s=> ?_,m,λp a h=>(f p a h).elim,λp a x h=>(f p a h).elim,λa _ q m=> ?_,?_⟩
 .grind
 .grind
 .let⟨i,j,_,⟨a,b,e,_⟩,_⟩:=q;simp[Trace.act?]at e
 .have t:i<1:=(å.1 k).1;obtain rfl:i=0:=Z
  obtain rfl:g=x:=by simpa using k
  exact⟨g,C,.fY,Ç B,Ç U⟩
 .grind
 .simp[Trace.act?]at m
 .intro i g t;simp[Trace.g?]at t
end
end Go.Proofs.Y.fv
namespace Go.Proofs.Y.nA
open Go Go.Conc Go.Proofs Go.RowKit Go.Proofs.Y.Lift Go.Proofs.Y.iy Go.Proofs.Y.fv Go.Proofs.Y.zn
open Go.ConcN (sumTo)
def zu(f:Ñ->Í->Prop)(c:Array ą)(w:Í)(d:Option (Nat×Nat))(t:Α):Prop:=
 ∃N a v b e,Γ À (N+1) (Ĳ c w d) t=(.ended (.done v) b,e)/\runN À N (Ĳ c w d)=.next a/\step À a=.ended (.done v) b/\Υ À f a (.done v) b e
section
variable{f:Array ą}{w':Í}{sl e:Option (Nat×Nat)}{t:Α}{l:e5}
def zu.fH{a:Ñ->Í->Prop}(h:zu vQ E w sl t)(b:∀v u,vQ v u->a v u):zu a E w sl t:=by let⟨M,c,v,x,d,e,f,g,i⟩:=h;exact⟨M,c,v,x,d,e,f,g,i.mono λv q=>b v x q⟩
def zu.qa{N:Nat}(r:Γ À N (Ĳ E w sl) t=(.next<|Ĳ f w' e,qJ))(h:zu vQ f w' e qJ):zu vQ E w sl t:=by
 let⟨M,a,v,x,b,c,d,g,i⟩:=h;refine⟨N+M,a,v,x,b,?_,?_,g,i⟩
 .rwa[Nat.add_assoc,runNT_add,r]
 .rw[<-Ŧ À (N+M) (Ĳ E w sl) t,runNT_add,r];rwa[Ŧ]
def rQ(vQ:Ñ->Í->Prop)(E:Array ą)(w:Í)(sl:Option (Nat×Nat))(t:Α):Prop:=zu (λv u=>vQ v u/\u.os=w.os/\u.output=w.output) E w sl t
def rQ.r{N:Nat}(r:Γ À N (Ĳ E w sl) t=(.next<|Ĳ f w' e,qJ))(a:w'.os=w.os/\w'.output=w.output)(h:rQ vQ f w' e qJ):rQ vQ E w sl t:= zu.qa r<|h.fH λ_ _ q=>⟨q.1,q.2.1.trans a.1,q.2.2.trans a.2⟩
def km.aqg{Y:Nat->Prop}:∀(s:Nat) (h:Nat->Nat) (j:Nat->e5) (E:Array ą) (w:Í) (sl:Option (Nat×Nat)) (t:Α),sumTo E.size h=s->km À Y zX n (Te À vQ) .fu h j E w t->rQ vQ E w sl t:=by
 intro s
 induction s using Nat.strongRecOn with
 |_ s r=>
  intro h j E w sl t I c;have J:=c.C;obtain⟨g0,a⟩:∃g,E[0]?=Â g:=⟨_,é Z⟩;have o:∀d,Te À vQ {j 0 with w:=w.at d} g0:=λd=>by
   let⟨u,b,k,_,_⟩:=(c.I d).r.C 0 g0 a;obtain rfl:g0=u:=by cases k;rfl
   exact b (w.at d)<|(c.I d).r.r.r 0 Z
  obtain⟨i,g,d,e,l,x,m⟩:=crowd_pick c.Jp ⟨0,g0,a,(o 0).1⟩;by_cases p:i=0
  .subst p;rw[a]at l;obtain rfl:=ak l;let⟨_,v,q,y⟩:=o d;have u:stepT À (Ĳ E w sl)=(.ended (.done v)<|w.at d,#[]):=by
    rw[m,ConcN.runT_crowd_ended a<|q<|w.at d];rfl
   refine⟨0,Ĳ E w sl,v,w.at d,t,?_,U,?_,c.mC ⟨y,U,U⟩⟩
   .simp[Γ,u]
   .have:=stepT_fst À (Ĳ E w sl) Î;rw[<-this];rw[u]
  .let⟨q,y,f,u,b,k,K,L,z⟩:=(c.I d).Yp (sl:=e) l p x;let⟨N,B,v,w',qJ,C,D,F,G⟩:=r (sumTo f.size q) (by rw[k];omega) q y f (w.at d) e (t++u) U z;refine⟨N+1,B,v,w',qJ,by simp only[Γ,m,b];exact C,?_,F,G⟩;have:=Ŧ À (N+1) (Ĳ E w sl) t;rw[<-this];simp only[Γ,m,b];rwa[Ŧ]
structure ja(l:e5):Prop where
 r:gl l
 d:l.d=0
 q:¬l.q
 N:∀b,¬l.I b
 I:∀a,¬l.r a
 M:∀a,¬l.N a
 k:∀a,¬l.K a
def ja.C(h:ja l)(r:fD l l.w u):ja {l with w:=u}:= ⟨⟨h.r.c,h.r.Y,h.r.N,λb q=>Ĥ (h.r.fl b q) r.r,λa q=>q.elim (λz=>(h.I a z).elim) λz=>(h.M a z).elim,λa q=>(h.k a q).elim⟩,h.d,h.q,h.N,h.I,h.M,h.k⟩
def jo(vQ:Ñ->Í->Prop)(l:e5)(g:ą):Prop:=
 ja l->g.status=.running->∀(a:Loc->Prop) (H:Nat) (J:Jd) (c:Nat->Nat) (b:Nat->e5) (E:Array ą) (sl:Option (Nat×Nat)) (t:Α),va a H l->fv.rA À a H J .fu c b E l.w t->(b 0).d=0->E[0]?=Â g->rQ vQ E l.w sl t
def aqh{a:e5}(h:va zX i l)(k:qm l a l.w a.w):va zX i a:= ⟨h.r,λb c x d q=>by
  rcases k.N b c with z|z
  .exact h.fh b z x d q
  .have:=h.r x q;have:=h.C;omega,Ê h.C k.r⟩
def Tf{J f:Jd}{e:Nat->e5}(a:ja l)(h:g.status=.running)(j:va zX i l)(c:fv.rA À zX i J .fu D e E l.w t)(m:(e 0).d=0)(n:E[0]?=Â g)(W:fv.fe À Î f l g):∃T,fv.rA À zX i f T D (fv.uI e l) E l.w t:=by let⟨T,o⟩:=jb W;exact⟨T,km.Y c m n h U a.d a.q a.N a.I a.M a.k (λb q=>⟨a.r.fl b<|Ç q,j.fh b q⟩) o⟩
def aaD{Y:Nat->Prop}{J:Jd}{a:Nat->e5}(c:km À Y zX i J .fu D a E w t):∃g,E[0]?=Â g/\J {a 0 with w:=w} g:=by
 obtain⟨g0,b⟩:∃g,E[0]?=Â g:=⟨_,é c.C⟩;let⟨d,e,f,_,_⟩:=c.r.C 0 g0 b;obtain rfl:g0=d:=by cases f;rfl
 exact⟨g0,b,e w<|c.r.r.r 0 c.C⟩
def LZ(vQ:Ñ->Í->Prop):Jd:=λl g=>ja l/\g.status=.running/\jo vQ l g
def aqi{b:Nat->e5}{T:gh}(m:(b 0).w=w)(n:va zX i (b 0))(c:fv.rA À zX i (LZ vQ) T D b E w t):rQ vQ E w sl t:=by let⟨N,o,p,f,w',e,qJ,r,_,a,j⟩:=km.G (λl g h=>Ç h.2.1) T _ D b E w sl t U c;let⟨v,q,h,s,u⟩:=aaD j;refine rQ.r r ⟨a.C,a.I⟩<|u h s zX i (LZ vQ) o p f e qJ ?_ j h.d q;apply aqh n;rw[m];exact⟨a.r,a.N,a.c,a.S,a.b,a.k,a.jF,a.M,a.Y,a.C,a.I,a.d⟩
def rR(W:fv.fe À Î (LZ vQ) l g):jo vQ l g:=by intro b d i H J j k E sl t a c e f;let⟨T,h⟩:=Tf b d a c e f W;exact aqi (by rw[fv.QX]) (by rwa[fv.QX]) h
def aqj(W:fv.fe À Î (Te À vQ) l g):jo vQ l g:=by intro b d s H J i u E sl t j c k m;let⟨T,n⟩:=Tf b d j c k m W;let⟨N,o,p,f,w',e,qJ,r,_,a,q⟩:=km.G (λl g h=>Ç h.1) T _ i _ E l.w sl t U n;exact rQ.r r ⟨a.C,a.I⟩<|km.aqg _ o p f w' e qJ U q
def zm.N{e:vg}{R:Nat}{kd:Nat->Int}{f:List fJ}{c:e5}(h:zm X e R kd f l i v c)(r:fD c c.w u):zm X e R kd f l i v {c with w:=u}:=by have a:=λb q=>r.I b<|Ç q;let⟨V,j,g⟩:=h.Y;exact⟨λb q=>⟨(h.M b q).1,(a b (h.M b q).1).trans (h.M b q).2⟩,⟨h.r.1,λp k=>(gE<|a i h.r.1).trans<|h.r.2 p k⟩,⟨V,j.r λb q=>a b (g b q).1,g⟩,h.d,h.q,h.S,h.C,(gE<|a i h.r.1).trans h.I.1,(vI<|a i h.r.1).trans h.I.2⟩
def aqk{kd:Nat->Int}{bt:vg}{V0 h:Nat->Prop}{s0:List fJ}{B:Option û}{I:Option û}{R:Nat}{C:ċ}{z:Array ġ} (Gw:0<R->I=Â ⟨j7,0,Á⟩) (uZ:0<R->l.M j7) (Gx:∀i,i<R->l.w.cell? ⟨j7,i,Á⟩=Â (Ã<|Â ⟨D i,0,Á⟩)) (Gy:∀i,i<R->l.w.cell? ⟨D i,4,Á⟩=Â (Å É<|kd i)) (K:Hx l bt kd D R X) (hZ:(∀b,X b->h b)/\∀b,b=1\/b=2\/b=3\/b=4->h b) (hZO:∀b,h b->l.O b) (hVZ:∀b,V0 b->h b) (Bm:RD s0 (Æ B j j9) V0 l.w) (hn:1<=n) (hs:n+R<1000) (hJ:∀o v p m c,ja o->zm h bt R kd s0 l v (Æ p m c) o->jo vQ o (G (C.at (y.put ((z[i]?).bind (·.dst))<|ï #[Æ (Â ⟨v,0,Á⟩) R R,Æ p m c])<|Ò z jJ::L) qX)): jo vQ l (Dj (Æ B j j9) (Æ I R j6) n<|C.at y (Ò z (i::jJ)::L)::qX):=by
 intro s hr jc H J lv lot E sl t LD c hd P;have W:fv.fe À Î (Kp kd D R n (Æ B j j9) l<|C.at y (Ò z (i::jJ)::L)::qX) l (Dj (Æ B j j9) (Æ I R j6) n<|C.at y (Ò z (i::jJ)::L)::qX):= ahW s.r s.q s.d Z Gw uZ Gx (λi P=>Ç<|K.fh _<|K.r i P) Gy λg S o u x F v T V Y bw bf v1 h1 h2=>⟨g,S,u,x,F,v,T,V,Y,bw,bf,v1,h1,h2,U⟩;let⟨T,c'⟩:=Tf s hr LD c hd P W;let⟨N,jk,GQ,f,w',e,qJ,r,_,x,c''⟩:=km.G (λlx gx S=>by obtain⟨_,_,_,_,_,_,_,_,_,_,_,_,_,_,rfl⟩:=S;exact Ç U) T _ lv _ E l.w sl t U c';apply rQ.r r ⟨x.C,x.I⟩;let⟨N2,aql,V,T2,Kq,Q7,gs2,w2,Bn,t2,r2,io2,c2⟩:=aoA (J:=λu V o F=>va u V o/\LZ vQ o F) U c'' e s.r s.N s.q s.d LD K hZ hZO hVZ Bm ⟨x.C,x.I⟩ hn hs λDr H' o v p m c Y z2 u=> .fu λw₁ F=>by have kA:ja o:=⟨z2,u.d,u.q,u.S,u.C.1,u.C.2.1,u.C.2.2⟩;exact⟨⟨Y.r,Y.fh,Ê Y.C F.r⟩,kA.C F,U,hJ _ v p m c (kA.C F)<|u.N F⟩
 apply rQ.r r2 ⟨io2.1.trans x.C.symm,io2.2.trans x.I.symm⟩;let⟨N3,RJ,aqm,gs3,w3,sl3,t3,r3,_,wn3,c3⟩:=km.G (λlx gx S=>Ç S.2.2.1) T2 _ Kq Q7 gs2 w2 Bn t2 U c2;apply rQ.r r3 ⟨wn3.C,wn3.I⟩;let⟨g3,Tg,o7,S,hr3,hs3⟩:=aaD c3;exact hs3 S hr3 aql V _ RJ aqm gs3 sl3 t3 o7 c3 S.d Tg
end
end Go.Proofs.Y.nA
namespace Go.Proofs.Y.nA
open Go Go.Conc Go.Proofs Go.RowKit Go.Proofs.Y.Lift Go.Proofs.Y.iy Go.Proofs.Y.fv Go.Proofs.Y.zn
open Go.Conc.Lib Go.ConcR.Gen Go.Proofs.YtgpphkdoanciiaaGreatDoor
def toTx(t:PT):Tx:=⟨(t.c.getD 0 0).toNat,(t.c.getD 1 0).toNat,t.c.getD 2 0,t.c.getD 3 0,t.c.getD 4 0,t.p⟩
def toQn(r:PR):Qn:=⟨(r.c.getD 0 0).toNat,(r.c.getD 1 0).toNat,(r.c.getD 2 0).toNat,(r.c.getD 3 0).toNat,r.c.getD 4 0,r.c.getD 5 0,r.c.getD 6 0,(r.c.getD 7 0).toNat⟩
def sQ:PR:=⟨[],[]⟩
def xu(a:List PR):vg where
 r:=λp=>((a.getD p sQ).c.getD 5 0,((a.getD p sQ).c.getD 0 0).toNat,(a.getD p sQ).r.map toTx)
 C:=λp=>toQn<|a.getD p sQ
def mW(a:List PR)(p:Nat):Int:=(a.getD p sQ).c.getD 4 0
section
variable{p:PR}{t:PT}{a:Nat}{rs:List PR}{l:e5}
theorem toTx_ok(h:nz t):(toTx t).Ok:=by have d:=h.c.r 0 A;have e:=h.c.r 1 A;have a:=h.c.r 2 A;have b:=h.c.r 3 A;simp only[lh]at d e a b;exact⟨by show(t.c.getD 0 0).toNat<8;omega,by show(t.c.getD 1 0).toNat<8;omega,a.1,a.2,b.1,b.2,h.p⟩
theorem zv(a:0<=c)(h:w.cell? ⟨b,i,Á⟩=Â (Å É c)):w.cell? ⟨b,i,Á⟩=Â (Å É (c.toNat:Nat)):=by grind
theorem aqn(h:nz t)(k:HJ a t w):lz a (toTx t) w:=by have b:=h.c.r 0 A;have d:=h.c.r 1 A;simp only[lh]at b d;exact⟨k.r,zv b.1<|k.c 0 A,zv d.1<|k.c 1 A,k.c 2 A,k.c 3 A,k.c 4 A,k.p⟩
theorem aqo(h:uj p)(k:xt i p w):BQ i (p.c.getD 5 0) (p.c.getD 0 0).toNat (p.r.map toTx) w:=by
 have e:=h.c.r 0 A;simp only[lh]at e;let⟨f,n,g,l,m,o⟩:=k.b;let⟨r,s,u⟩:=vu (R:=λj t (y:Nat×Tx)=>y.2=toTx t/\∃d,f=Â ⟨d,0,Á⟩/\w.cell? ⟨d,j,Á⟩=Â (Ã<|Â ⟨y.1,0,Á⟩)/\HJ y.1 t w) p.r 0 λj t v=>by let⟨d,a,y,q,x⟩:=o j t v;simp_all
 refine⟨f,n,g,r,⟨zv e.1<|k.c 0 A,k.c 5 A,l⟩,⟨by rw[m,s],λj a t q=> ?_⟩,?_,by have:=h.n;omega⟩
 .let⟨x,z,y,d,D,B,C⟩:=u j (a,t) q;simp only at y B C;subst y;have E:=h.C x<|ë z;grind [aqn,toTx_ok]
 .refine ŗ λj=> ?_;unfold k9;grind
def aqp(h:uj p)(k:xt i p w):Hw i (toQn p) w:=by have a:=h.c.r 0 A;have b:=h.c.r 1 A;have d:=h.c.r 2 A;have e:=h.c.r 3 A;have f:=h.c.r 7 A;simp only[lh]at a b d e f;exact⟨zv a.1<|k.c 0 A,zv b.1<|k.c 1 A,zv d.1<|k.c 2 A,zv e.1<|k.c 3 A,k.c 4 A,k.c 5 A,k.c 6 A,zv f.1<|k.c 7 A⟩
def aaE(h:uj p)(k:p.c.getD 4 0≠1):(toQn p).Ok:=by
 have d:=h.c.r 0 A;have e:=h.c.r 1 A;have f:=h.c.r 2 A;have g:=h.c.r 3 A;have i:=h.c.r 4 A;have a:=h.c.r 5 A;have b:=h.c.r 6 A;have j:=h.c.r 7 A;simp only[lh]at d e f g i a b j;refine⟨?_,?_,?_,?_,?_,?_,a.1,b.1,?_⟩
 .show(p.c.getD 0 0).toNat<8;omega
 .show(p.c.getD 1 0).toNat<8;omega
 .show(p.c.getD 2 0).toNat<1000000;omega
 .show(p.c.getD 3 0).toNat<18446744073709551616;omega
 .show 2<=p.c.getD 4 0;omega
 .show p.c.getD 4 0<=9;omega
 .show(p.c.getD 7 0).toNat<16;omega
theorem aqr(h:RQ rs v X l.w)(k:∀i∈rs,uj i)(B:mU l.w)(C:∀b,b=1\/b=2\/b=3\/b=4->l.O b)(m:∀b,X b->l.O b): ∃d e f g,v=Æ d rs.length e/\(0<rs.length->d=Â ⟨f,0,Á⟩)/\(0<rs.length->l.O f)/\(∀a,a<rs.length->l.w.cell? ⟨f,a,Á⟩=Â (Ã<|Â ⟨g a,0,Á⟩))/\(∀a,a<rs.length->l.w.cell? ⟨g a,4,Á⟩=Â (Å É<|mW rs a))/\Hx l (xu rs) (mW rs) g rs.length X:=by
 obtain⟨o,D,rfl,E⟩:=h.M;have p:∀a,a<rs.length->rs[a]?=Â (rs.getD a sQ):=λa d=>by simp[Ģ,d]
 have r:=λa d=>ë<|p a d;obtain⟨f,s⟩:∃f,∀a,a<rs.length->o=Â ⟨f,0,Á⟩:=by
  by_cases e:0<rs.length
  .let⟨j,i,q,_⟩:=E 0 _<|p 0 e;exact⟨j,λ_ _=>q⟩
  .simp_all
 have F:∀a,∃i,a<rs.length->l.w.cell? ⟨f,a,Á⟩=Â (Ã<|Â ⟨i,0,Á⟩)/\xt i (rs.getD a sQ) l.w:=λa=>by grind
 let⟨g,j⟩:=Classical.axiomOfChoice F;have u:=λe=>by have:=h.I;rw[s 0 e]at this;exact BP this
 refine⟨o,D,f,g,U,λe=>s 0 e,λe=>m _<|u e,λa d=>(j a d).1,λa d=>(j a d).2.c 4 A,B,C,h.C,m,λa d=>(BO<|h.C.r (u Z) (j a d).1),λa d y=> ?_,λa d y=> ?_⟩
 .have q:=k _<|r a d;have e:=q.c.r 0 A;have z:=q.c.r 5 A;simp only[lh]at e z;refine⟨aqo q (j a d).2,?_,z.1,λt G=> ?_,?_⟩
  .show((rs.getD a sQ).c.getD 0 0).toNat<8;omega
  .obtain⟨x,H,rfl⟩:=Ý.1 G;exact toTx_ok<|q.C x H
  .show((rs.getD a sQ).r.map toTx).length<=1000;rw[ü];have:=q.n;omega
 .have q:=k _<|r a d;exact⟨aqp q (j a d).2,aaE q y⟩
end
theorem Ti:(∀r∈(iZ B).2.2,uj r)/\(iZ B).2.2.length<=24:=by
 unfold iZ;split
 .grind
 .split
  .unfold mD;split
   .grind
   .have:=(S7 B.size 0 sN (S6 B)<|Ø _).1.d;exact⟨this.G,this.C⟩
  .grind
def mf(rs:List PR)(s:List fJ):List ByteArray:=(ķ rs.length).map λp=>xm (xu rs) (mW rs) p<|qz (xu rs) (ig (mW rs) rs.length) s<|fK (mW rs) p
def EB(rs:List PR)(s:List fJ):List fJ:=qz (xu rs) (ig (mW rs) rs.length) s<|fK (mW rs) rs.length
def qA(s:List fJ)(B:ByteArray):ByteArray×Int×List fJ:=
 if(iZ B).1=0 then(oy ⟨#[59]⟩<|mf (iZ B).2.2 s,0,EB (iZ B).2.2 s)else(⟨#[]⟩,(iZ B).1,s)
section
variable{b:ċ}{l:e5}{a:Ċ}
def aaF{md:ł}(I:Array Bool->Ċ->e5->Prop) (o:∀c a l i k,I c a l->i∈è md Q c->(∀f g,I (c.setIfInBounds i Î) f g->jo vQ g (G (b.at f<|Ò Q k::L) qX))->jo vQ l (G (b.at a<|Ò Q (i::k)::L) qX)) (m:∀c a l,I c a l->c.size=Q.size->è md Q c=[]->jo vQ l (G (b.at a<|Ò Q []::L) qX)): ∀(d t:Nat) (c:Array Bool) (a:Ċ) (l:e5),c.size=Q.size->jf c<=d->I c a l->jo vQ l (G (b.at a<|Ò Q (ĉ md Q d t c [])::L) qX):=by
 intro d
 induction d with
 |zero=>
  intro t c a l e p h;simpa[ĉ]using m c a l h e<|PK e Z
 |succ d q=>
  intro t c a l e p h;simp only[ĉ];change jo vQ l (G (b.at a (Ò Q (match(è md Q c)[t%(è md Q c).length]? with
   |some i=>ĉ md Q d (t/(è md Q c).length) (c.setIfInBounds i Î) [i]
   |none=>[].reverse)::L)) qX)
  cases j:(è md Q c)[t%(è md Q c).length]? with
  |none=>
   have r:è md Q c=[]:=by
    cases s:è md Q c with
    |nil=>rfl
    |cons x n=>
     rw[s]at j;have u:t%(x::n).length<(x::n).length:=Nat.mod_lt _ fg;simp at j;simp at u;omega
   simpa using m c a l h e r
  |some i=>
   simp only[];rw[linearise_go_acc,List.reverse_singleton,List.singleton_append];have n:=ë j;refine o c a l i _ h n λf g r=>(q _ _ f g (by simpa using e) (by have:=Jx (Ε.1 n).1;omega) r)
def aqs{id:Nat}(I:Array Bool->Ċ->e5->Prop)(e:ja l) (j:∀f,fD l l.w f->I (ĸ Q.size Ì) a {l with w:=f}) (k:∀g c a l i m,I c a l->i∈è g Q c->(∀n o,I (c.setIfInBounds i Î) n o->jo vQ o (G (b.at n<|Ò Q m::L) qX))->jo vQ l (G (b.at a<|Ò Q (i::m)::L) qX)) (p:∀g c a l,I c a l->c.size=Q.size->è g Q c=[]->jo vQ l (G (b.at a<|Ò Q []::L) qX)): jo vQ l (G (b.at a<|Ζ (.region id Q Î)::L) qX):=by
 refine rR (.mk U λf r=>⟨_,_,_,_,stepG_region_draw,PH (lX e.r.r r) e.q,.fu λs d=> ?_⟩);have h:=r.e8 ⟨d.r,d.I,d.N,d.Y,d.S⟩;refine⟨e.C h,U,?_⟩;unfold Region.schedule;split
 .exact aaF I (k _) (p _) _ _ _ _ _ fg (by rw[CQ];exact ê _)<|j s h
 .exact aaF I (k _) (p _) _ _ _ _ _ fg (by rw[CQ];exact ê _)<|j s h
def aqt{I:Ċ->e5->Prop}(W:fv.fe À Î (λa d=>∃c,d=G (b.at c<|Ò Q jJ::L) qX/\I c a) l g)(f:∀c a,I c a->ja a)(i:∀c a,I c a->jo vQ a (G (b.at c<|Ò Q jJ::L) qX)):jo vQ l g:= rR (W.fH λa d h=>by obtain⟨c,rfl,e⟩:=h;exact⟨f c a e,U,i c a e⟩)
def L0{f:FuncId}{fn:Func}(xs:List Value)(n:Nat)(hf:Tryz.prog.funcs[f]?=some fn)(hb:fn.body=some (lY fn []):=by kernel_rfl)(hn:fn.ntmps=xs.length+n:=by kernel_rfl):Frame.enter Tryz.prog f xs.toArray .normal=(base f).at ⟨(xs++List.replicate n undef).toArray,[]⟩ [.code<|lY fn []]:=by rw[ν _ hf hb,hn,ŝ,Nat.add_sub_cancel_left,show xs.toArray++ĸ n Ï=(xs++ć n Ï).toArray from Array.ext' fg]
def zw{J:Jd}{f:ε}{args:Array Ñ}(d:Q[i]?=Â o)(e:ĕ o (Ν Q a.tmps)=Î)(g:b.kind≠.early)(h:jW l) (j:∀w,(ş a.eval o).run À w=.ok (.enter f args) w) (k:∀w,(ş a.eval o).events À w #[]=#[]) (m:∀c,fD l l.w c->fv.fe À Î J {l with w:=c} (G (á À f args ú)<|b.at a (Ò Q (i::jJ)::L)::qX)): fv.fe À Î J l (G (b.at a<|Ò Q (i::jJ)::L) qX):=by refine .mk U λc r=>⟨G (á À f args ú)<|b.at a (Ò Q (i::jJ)::L)::qX,c,#[],{l with w:=c},?_,Oq c<|lX h r,m c r⟩;rw[stepG_enter d e g<|j c];unfold aB;rw[k c,seen_none]
def EC{f:ε}{args:Array Ñ}(e:ja l)(j:Q[i]?=Â o)(k:ĕ o (Ν Q a.tmps)=Î)(m:b.kind≠.early) (n:∀w,(ş a.eval o).run À w=.ok (.enter f args) w) (p:∀w,(ş a.eval o).events À w #[]=#[]) (q:∀d,fD l l.w d->jo vQ {l with w:=d} (G (á À f args ú)<|b.at a (Ò Q (i::jJ)::L)::qX)): jo vQ l (G (b.at a<|Ò Q (i::jJ)::L) qX):= rR (zw j k m e.r.r n p λd r=> .fu λg c=>by have h:fD l l.w g:=r.e8 ⟨c.r,c.I,c.N,c.Y,c.S⟩;exact⟨e.C h,U,q g h⟩)
def kB.Dq{c:e5}(e:ja l)(h:kB l c)(k:c.d=l.d):ja c:=by
 have g:∀b,¬c.I b:=by rw[h.I];exact e.N
 have f:∀a,¬c.r a:=by rw[h.N];exact e.I
 have i:∀a,¬c.N a:=by rw[h.Y];exact e.M
 have j:∀a,¬c.K a:=by rw[h.K];exact e.k
 exact⟨⟨λb _=>g b,λa q=>(f a q).elim,λa q=>q.elim (λz=>(f a z).elim) λz=>(i a z).elim,λb q=>q.elim (λz=>h.fl b z) λz=>(g b z).elim,λa q=>q.elim (λz=>(f a z).elim) λz=>(i a z).elim,λa q=>(j a q).elim⟩,k.trans e.d,by rw[h.q];exact e.q,g,f,i,j⟩
end
def HL:ġ:=⟨Â 21,.move<|ŋ 0,26, "attic.go:46",#[],Á⟩
def HM:ġ:=⟨Â 22,.nilCheck<|ŋ 21,0, "attic.go:46",#[⟨0,Č⟩],Á⟩
def HN:ġ:=⟨Â 23,.fieldAddr 68 (ŋ 22) 1,0, "attic.go:46",#[⟨1,Č⟩],Á⟩
def HO:ġ:=⟨Â 24,.load 65<|ŋ 23,65, "attic.go:46",#[⟨2,Č⟩],Á⟩
def HP:ġ:=⟨Â 25,.move<|ŋ 6,61, "attic.go:46",#[],Á⟩
def HQ:ġ:=⟨Â 26,.move<|ŋ 0,26, "attic.go:46",#[],Á⟩
def HR:ġ:=⟨Â 27,.nilCheck<|ŋ 26,0, "attic.go:46",#[⟨5,Č⟩],Á⟩
def HT:ġ:=⟨Â 28,.fieldAddr 68 (ŋ 27) 0,0, "attic.go:46",#[⟨6,Č⟩],Á⟩
def HU:ġ:=⟨Â 29,.load 3<|ŋ 28,3, "attic.go:46",#[⟨7,Č⟩],Á⟩
def xv:ġ:=⟨Â 30,.call {callee:=.value<|.func 37,args:=#[ŋ 24,ŋ 25,ŋ 29],argTypes:=#[65,61,3]},66, "attic.go:46",#[⟨3,Č⟩,⟨4,Č⟩,⟨8,Č⟩],Á⟩
def zx:ġ:=⟨Â 20,.move<|ŋ 30,66, "attic.go:46",#[⟨9,Č⟩],Á⟩
def BY:ġ:=⟨Â 31,.extract (ŋ 20) 0,25, "attic.go:46",#[⟨10,Č⟩],Á⟩
def BZ:ġ:=⟨Â 32,.extract (ŋ 20) 1,65, "attic.go:46",#[⟨10,Č⟩,{on:=13,ground:=Ground.gcOnly Departure.lateStores}],Á⟩
def B1:ġ:=⟨Â 9,.assign<|ŋ 31,25, "attic.go:46",#[⟨11,Č⟩,⟨9,.chain⟩,⟨0,ô⟩,⟨1,ô⟩,⟨2,ô⟩,⟨3,ô⟩,⟨4,ô⟩,⟨5,ô⟩,⟨6,ô⟩,⟨7,ô⟩,⟨8,ô⟩,⟨9,ô⟩,⟨10,ô⟩,⟨11,ô⟩,{on:=12,ground:=Ground.textOnly Departure.lateStores}],Á⟩
def B2:ġ:=⟨Â 10,.assign<|ŋ 32,65, "attic.go:46",#[⟨12,Č⟩,⟨13,.chain⟩,⟨0,ô⟩,⟨1,ô⟩,⟨2,ô⟩,⟨3,ô⟩,⟨4,ô⟩,⟨5,ô⟩,⟨6,ô⟩,⟨7,ô⟩,⟨8,ô⟩,⟨9,ô⟩,⟨10,ô⟩,⟨11,ô⟩,⟨12,ô⟩,⟨13,ô⟩],Á⟩
def nU:Array ġ:=#[HL,HM,HN,HO,HP,HQ,HR,HT,HU,xv,zx,BY,BZ,B1,B2]
noncomputable def Tk:ů:=lY Tryz.f17 [1,1,1,1]
structure lP(l:e5)(ab n:Nat)(s:List fJ)(sl:Ñ)(V:Nat->Prop):Prop where
 r:mU l.w
 C:∀b,b=1\/b=2\/b=3\/b=4->l.O b
 a:EA ab n sl l.w
 fh:l.O ab
 I:RD s sl V l.w
 Y:∀b,V b->l.O b
 e:¬V ab
 c:1<=n
 d:n<=8
 M:¬(ab=1\/ab=2\/ab=3\/ab=4)
structure L3(l l':e5)(ab n:Nat)(s':List fJ)(V:Nat->Prop):Prop where
 uL:∀b,l.O b->b≠ab->l'.O b/\l'.w.heap[b]?=l.w.heap[b]?
 att:∃sy V',lP l' ab n s' sy V'/\∀b,V' b->V b\/(b=1\/b=2\/b=3\/b=4)\/l.w.heap.size<=b
section
variable{l d:e5}{ab:Nat}{s:List fJ}{sl:Ñ}{V:Nat->Prop}
def lP.S{a:e5}(h:lP l ab n s sl V)(c:∀b,l.O b->a.O b)(d:∀b,l.O b->a.w.heap[b]?=l.w.heap[b]?)(e:l.w.heap.size<=a.w.heap.size):lP a ab n s sl V:= ⟨h.r.r (Ê h.r.fl e) λb q=>d b<|h.C b q,λb q=>c b<|h.C b q,h.a.r<|d ab h.fh,c ab h.fh,h.I.r λb q=>d b<|h.Y b q,λb q=>c b<|h.Y b q,h.e,h.c,h.d,h.M⟩
def lP.N(h:lP l ab n s sl V)(r:fD l l.w u):lP {l with w:=u} ab n s sl V:=h.S (λ_ q=>q) (λb q=>r.I b<|Ç q) r.r
def jS(ab:Nat)(n:Nat)(sl rs:Ñ)(x:Value×Value):Nat->Ñ
 |0=>Ã<|Â ⟨ab,0,Á⟩
 |1=>Ã<|Â ⟨ab,0,Á⟩
 |2=>Ã<|Â ⟨ab,1,Á⟩
 |3=>sl
 |4=>rs
 |5=>Ã<|Â ⟨ab,0,Á⟩
 |6=>Ã<|Â ⟨ab,0,Á⟩
 |7=>Ã<|Â ⟨ab,0,Á⟩
 |8=>Å É n
 |9=>ï #[x.1,x.2]
 |10=>ï #[x.1,x.2]
 |11=>x.1
 |12=>x.2
 |13=>x.1
 |14=>x.2
 |_=>Ï
def vo(d:e5)(V:Nat->Prop)(rs:List PR)(s:List fJ)(listed:Array Bool)(x:Value×Value)(l:e5):Prop:=
 ja l/\(listed.getD 9 Ì=Ì->fX e9 d l)/\(listed.getD 9 Ì=Î->∃a e p m c,fX e9 d a/\x=(Æ (Â ⟨e,0,Á⟩) rs.length rs.length,Æ p m c)/\zm (λb=>V b\/b=1\/b=2\/b=3\/b=4) (xu rs) rs.length (mW rs) s a e (Æ p m c) l)
def vo.jM{V:Nat->Prop}{a:List PR}{s:List fJ}{listed:Array Bool}{x:Value×Value}(h:vo d V a s listed x l)(b:i≠9){w₁:Í}(r:fD l l.w w₁):vo d V a s (listed.setIfInBounds i Î) x {l with w:=w₁}:=by
 have e:(listed.setIfInBounds i Î).getD 9 Ì=listed.getD 9 Ì:=by simp[Array.getD_eq_getD_getElem?,Array.getElem?_setIfInBounds_ne b]
 refine⟨h.1.C r,λq=> ?_,λq=> ?_⟩
 .rw[e]at q;exact(h.2.1 q).G r
 .rw[e]at q;let⟨f,g,p,m,c,j,k,n⟩:=h.2.2 q;exact⟨f,g,p,m,c,j,k,n.N r⟩
theorem aqu{D:Array Ñ}{I:List PR}(J:lP d ab n s sl V)(T:D.size=39)(W:D[0]?=Â (Ã<|Â ⟨ab,0,Á⟩))(Y:D[6]?=Â z) (md:ł) (listed:Array Bool) (a:Ċ) (l:e5) (i:Nat) (O:List Nat) (hI:II nU D (jS ab n sl z) (vo d X I s) listed a l) (p:i∈è md nU listed) (F:i≠9): fv.fe À Î (λc e=>∃b,e=G ((base 17).at b<|Ò nU O::L) qX/\II nU D (jS ab n sl z) (vo d X I s) (listed.setIfInBounds i Î) b c) l (G ((base 17).at a<|Ò nU (i::O)::L) qX):=by
 let⟨x,g,H⟩:=hI;have t:tC nU D.size=Î:=by rw[T];decide
 have K:=CR p;have u:=H.1.r.r;have y:=H.1.q;have P:=(g.C A).trans W;have L4:=(g.C A).trans Y;have B:∀c,fD l l.w c->vo d X I s (listed.setIfInBounds i Î) x {l with w:=c}:=λc r=>H.jM F r;let⟨fr,lV,_⟩:=J.a;have early:∀m,m<15->listed.getD m Ì=Ì->(∃e,e∈xv.after/\e.on=m/\yo e=Î)->listed.getD 9 Ì=Ì:=λm _ hm ⟨e,h1,h2,h3⟩=>by
  cases q:listed.getD 9 Ì with
  |false=>rfl
  |true=>
   have:=g.Y 9 xv e U q h1 h3;rw[h2,hm]at this;cases this
 have jV:nU.size=15:=A
 rw[jV]at K;have M7:listed.getD i Ì=Ì:=by have:=(Ε.1 p).1;grind
 have S:∀{j v},(∃e,e∈xv.after/\e.on=i/\yo e=Î)->#[Å É n,sl][j]?=Â v->gR l ⟨ab,j,Á⟩/\l.w.cell? ⟨ab,j,Á⟩=Â v:=λq h=>by have b:=H.2.1<|early i K M7 q;exact⟨Ç<|b.M<|Ç J.fh,(gE<|b.r ab (Ç J.fh) id).trans<|by simp[ã,lV,h]⟩
 match i,K,F with
 |9,_,F=>exact absurd U F
 |0,_,_=>
  exact gZ (o:=HL) t g U U p (by k_ne) u y (λc r=>by simp only[jS,HL];go_simp) (λc r e f=>by simp[go_sem,HL,P]at f) B
 |1,_,_=>
  have b:=g.r 0 HL 21 U (gX p U U) U;simp only[jS]at b;exact gZ (o:=HM) t g U U p (by k_ne) u y (λc r=>by simp only[jS,HM];go_simp) (λc r e f=>by simp[go_sem,HM,b]at f) B
 |2,_,_=>
  have b:=g.r 1 HM 22 U (gX p U U) U;simp only[jS]at b;exact gZ (o:=HN) t g U U p (by k_ne) u y (λc r=>by simp only[jS,HN];go_simp) (λc r e f=>by simp[go_sem,HN,b]at f) B
 |3,_,_=>
  have b:=g.r 2 HN 23 U (gX p U U) U;simp only[jS]at b;let⟨C,E⟩:=S (j:=1) ⟨⟨3,Č⟩,by simp[xv],U,U⟩ U;refine gZ (o:=HO) t g U U p (by k_ne) u y (λc r=> ?_) (λc r e f=> ?_) B
  .have N:=(C.r r).trans E;simp only[jS,HO];go_simp
  .have N:=(C.r r).trans E;simp[go_sem,HO,b,N]at f;subst f;exact C.C
 |4,_,_=>
  exact gZ (o:=HP) t g U U p (by k_ne) u y (λc r=>by simp only[jS,HP];go_simp) (λc r e f=>by simp[go_sem,HP,L4]at f) B
 |5,_,_=>
  exact gZ (o:=HQ) t g U U p (by k_ne) u y (λc r=>by simp only[jS,HQ];go_simp) (λc r e f=>by simp[go_sem,HQ,P]at f) B
 |6,_,_=>
  have b:=g.r 5 HQ 26 U (gX p U U) U;simp only[jS]at b;exact gZ (o:=HR) t g U U p (by k_ne) u y (λc r=>by simp only[jS,HR];go_simp) (λc r e f=>by simp[go_sem,HR,b]at f) B
 |7,_,_=>
  have b:=g.r 6 HR 27 U (gX p U U) U;simp only[jS]at b;exact gZ (o:=HT) t g U U p (by k_ne) u y (λc r=>by simp only[jS,HT];go_simp) (λc r e f=>by simp[go_sem,HT,b]at f) B
 |8,_,_=>
  have b:=g.r 7 HT 28 U (gX p U U) U;simp only[jS]at b;let⟨C,E⟩:=S (j:=0) ⟨⟨8,Č⟩,by simp[xv],U,U⟩ U;refine gZ (o:=HU) t g U U p (by k_ne) u y (λc r=> ?_) (λc r e f=> ?_) B
  .have N:=(C.r r).trans E;simp only[jS,HU];go_simp
  .simp[go_sem,HU,b,(C.r r).trans E]at f;subst f;exact C.C
 |10,_,_=>
  have b:=g.r 9 xv 30 U (gX p U U) U;simp only[jS]at b;exact gZ (o:=zx) t g U U p (by k_ne) u y (λc r=>by simp only[jS,zx];go_simp) (λc r e f=>by simp[go_sem,zx,b]at f) B
 |11,_,_=>
  have b:=g.r 10 zx 20 U (gX p U U) U;simp only[jS]at b;exact gZ (o:=BY) t g U U p (by k_ne) u y (λc r=>by simp only[jS,BY];go_simp) (λc r e f=>by simp[go_sem,BY,b]at f) B
 |12,_,_=>
  have b:=g.r 10 zx 20 U (gX p U U) U;simp only[jS]at b;exact gZ (o:=BZ) t g U U p (by k_ne) u y (λc r=>by simp only[jS,BZ];go_simp) (λc r e f=>by simp[go_sem,BZ,b]at f) B
 |13,_,_=>
  have b:=g.r 11 BY 31 U (gX p U U) U;simp only[jS]at b;exact gZ (o:=B1) t g U U p (by k_ne) u y (λc r=>by simp only[jS,B1];go_simp) (λc r e f=>by simp[go_sem,B1,b]at f) B
 |14,_,_=>
  have b:=g.r 12 BZ 32 U (gX p U U) U;simp only[jS]at b;exact gZ (o:=B2) t g U U p (by k_ne) u y (λc r=>by simp only[jS,B2];go_simp) (λc r e f=>by simp[go_sem,B2,b]at f) B
end
def aqv(x y:Ñ)(n:Nat)(a:List ċ):G (á À 37 #[x,y,Å É n] ú) a=Dj x y n a:=by unfold Dj;rw[ν #[x,y,Å É n] ξ (c:=lY Tryz.f37 []) fj];kernel_rfl
section
variable{l g:e5}{s:List fJ}{V:Nat->Prop}{d:List PR}
theorem aqw{F:Array Ñ}(D:lP g i n s x V)(W:RQ d v X g.w)(M:∀b,X b->g.O b)(Y:∀r∈d,uj r)(JA:d.length<=24)(ht:F.size=39) (md:ł) (listed:Array Bool) (a:Ċ) (l:e5) (N:List Nat) (hI:II nU F (jS i n x v) (vo g (λb=>V b\/X b) d s) listed a l) (B:9∈è md nU listed) (hn:∀P E,II nU F (jS i n x v) (vo g (λb=>V b\/X b) d s) (listed.setIfInBounds 9 Î) P E->jo vQ E (G ((base 17).at P<|Ò nU N::L) qX)): jo vQ l (G ((base 17).at a<|Ò nU (9::N)::L) qX):=by
 let⟨t,y,Q⟩:=hI;have M7:=(Ε.1 B).1;have h9s:9<listed.size:=by grind
 have H:listed.getD 9 Ì=Ì:=by grind
 have e24:a.tmps[24]?=Â x:=y.r 3 HO 24 U (gX B U U) U;have e25:a.tmps[25]?=Â v:=y.r 4 HP 25 U (gX B U U) U;have e29:a.tmps[29]?=Â (Å É n):=y.r 8 HU 29 U (gX B U U) U;have late:∀(S:Value×Value) j,listed.getD j Ì=Î->jS i n x v S j=jS i n x v t j:=λS j u=>by
  have c:listed.getD 10 Ì=Ì:=by
   cases q:listed.getD 10 Ì with
   |false=>rfl
   |true=>exact absurd (y.Y 10 zx ⟨9,Č⟩ U q (by simp[zx]) U)<|by rw[H];decide
  have e:listed.getD 11 Ì=Ì:=by
   cases q:listed.getD 11 Ì with
   |false=>rfl
   |true=>exact absurd (y.Y 11 BY ⟨10,Č⟩ U q (by simp[BY]) U)<|by rw[c];decide
  have h:listed.getD 12 Ì=Ì:=by
   cases q:listed.getD 12 Ì with
   |false=>rfl
   |true=>exact absurd (y.Y 12 BZ ⟨10,Č⟩ U q (by simp[BZ]) U)<|by rw[c];decide
  have m:listed.getD 13 Ì=Ì:=by
   cases q:listed.getD 13 Ì with
   |false=>rfl
   |true=>exact absurd (y.Y 13 B1 ⟨11,Č⟩ U q (by simp[B1]) U)<|by rw[e];decide
  have p:listed.getD 14 Ì=Ì:=by
   cases q:listed.getD 14 Ì with
   |false=>rfl
   |true=>exact absurd (y.Y 14 B2 ⟨12,Č⟩ U q (by simp[B2]) U)<|by rw[h];decide
  match j with
  |9=>rw[H]at u;cases u
  |10=>rw[c]at u;cases u
  |11=>rw[e]at u;cases u
  |12=>rw[h]at u;cases u
  |13=>rw[m]at u;cases u
  |14=>rw[p]at u;cases u
  |0|1|2|3|4|5|6|7|8=>rfl
  |j+15=>rfl
 refine EC (f:=37) (args:=#[x,v,Å É n]) Q.1 (o:=xv) U (Jz U _) (by k_ne) (λw=> ?_) (λw=> ?_) λw₁ r=> ?_
 .simp only[xv];go_simp
 .exact Ú U ξ U U #[]
 have z:=(Q.2.1 H).G r;have C:=D.S (λb q=>z.O b q) (λb q=>z.r b (Ç q) id) z.I;have T:=λb q=>z.O b<|M b q;obtain⟨ra,cr,rb,rq,rfl,Gw,uZ,Gx,Gy,ready⟩:=aqr (W.r λb q=>z.r b (Ç<|M b q) id) Y C.r C.C T;obtain⟨I,J,K,rfl⟩:∃I J K,x=Æ I J K:=by let⟨_,_,_,⟨I,J,K,e,_⟩,_⟩:=D.I;grind
 rw[aqv];refine aqk Gw (λh=>Ç<|uZ h) Gx Gy ready ⟨λb q=>Ç<|Ð q,λb q=>Ð q⟩ (λb q=>q.elim (λq=>q.elim (C.Y b)<|T b)<|C.C b) (λb q=>Ç<|Ç q) C.I D.c (by have:=D.d;omega) λE e p m c h hT=> ?_;refine hn _ E ⟨(Æ (Â ⟨e,0,Á⟩) d.length d.length,Æ p m c),(y.Xn<|late _).fW (by rw[ht];decide) U B λ_=>rfl,h,λq=> ?_,λ_=>⟨_,e,p,m,c,z,U,hT⟩⟩;simp_all
end
section
variable{l o l4:e5}{ab:Nat}{s:List fJ}{sl:Ñ}{V:Nat->Prop}{rs:List PR}
structure aaG(l l4:e5)(ab n:Nat)(s:List fJ)(sl:Ñ)(V:Nat->Prop)(rs:List PR)(an:Nat)(sy:Ñ):Prop where
 r:∀b,l.O b->l4.O b/\l4.w.heap[b]?=l.w.heap[b]?
 fl:nB<=l4.w.heap.size
 C:l4.O an/\uq an (mf rs s) l4.w/\kE l4.w an=Â (0,0)
 GO:∃V',RD (EB rs s) sy V' l4.w/\(∀b,V' b->l4.O b)/\¬V' ab/\∀b,V' b->V b\/(b=1\/b=2\/b=3\/b=4)\/l.w.heap.size<=b
def aqx{kd:Nat->Int}(h:∀p,p<rs.length->w.cell? ⟨i,p,Á⟩=Â (Ä<|xm (xu rs) (mW rs) p<|qz (xu rs) (ig (mW rs) rs.length) s<|fK (mW rs) p))(d:w.cell? ⟨i,rs.length,Á⟩=Á):uq i (mf rs s) w:=by refine⟨λp x a=> ?_,by unfold mf;simpa using d⟩;unfold mf at a;rw[Į]at a;obtain⟨q,e,rfl⟩:=õ.1 a;let⟨b,c⟩:=Ö.1 e;simp at b c;subst c;exact h p b
def aaH:(mf rs s).length=rs.length:=by simp[mf]
def aqy:nB<=5:=by show À.globals.size<=5;decide+kernel
def aqz{f:e5}{p:Option û}(d:lP l ab n s sl V)(t:gl l)(u:∀b,X b->l.w.heap.size<=b)(v:∀b,l.O b->o.O b/\o.w.heap[b]?=l.w.heap[b]?)(x:l.w.heap.size<=o.w.heap.size)(y:gl l4)(e:fX e9 o f)(a:zm (λb=>(V b\/X b)\/b=1\/b=2\/b=3\/b=4) (xu rs) rs.length (mW rs) s f i (Æ p m j) l4):aaG l l4 ab n s sl V rs i (Æ p m j):=by
 have g:∀b,l.O b->l4.O b/\l4.w.heap[b]?=l.w.heap[b]?:=λb q=>by let⟨z,h⟩:=v b q;let⟨k,r⟩:=a.M b<|e.O b z;exact⟨k,r.trans<|(e.r b (Ç z) id).trans h⟩
 refine⟨g,?_,⟨a.r.1,aqx (kd:=mW rs) a.r.2 a.I.1,a.I.2⟩,?_⟩
 .have:=y.fl 4<|Ç (g 4<|d.C 4 A).1;have:=aqy;omega
 .let⟨h,B,k⟩:=a.Y;have r:∀b,h b->V b\/(b=1\/b=2\/b=3\/b=4)\/l.w.heap.size<=b:=λb q=>by
   rcases(k b q).2 with((z|z)|z)|z
   .exact Ç z
   .exact Ð<|Ð<|u b z
   .exact Ð<|Ç z
   .exact Ð<|Ð<|Ê (Ê x e.I) z
  refine⟨h,B,λb q=>(k b q).1,λq=> ?_,r⟩;rcases r ab q with z|z|z
  .exact d.e z
  .exact d.M z
  .have:=t.fl ab<|Ç d.fh;omega
def aqA{f:e5}{p:Option û}(d:lP l ab n s sl V)(h:aaG l l4 ab n s sl V rs i (Æ p m j))(E:gl l4)(g:∀b,l4.O b->f.O b)(r:∀b,l4.O b->f.w.heap[b]?=(l4.w.setCell ⟨ab,1,Á⟩<|Æ p m j).heap[b]?)(v:l4.w.heap.size<=f.w.heap.size):L3 l f ab n (EB rs s) V:=by
 let⟨x,y,t,u,z⟩:=h.GO;have k:∀b,l4.O b->b≠ab->f.w.heap[b]?=l4.w.heap[b]?:=λb q e=>(r b q).trans<|kP (a:=⟨ab,1,Á⟩) e;have o:=h.r ab d.fh;refine⟨λb q e=>⟨g b (h.r b q).1,(k b (h.r b q).1 e).trans (h.r b q).2⟩,Æ p m j,x,⟨?_,λb q=>g b (h.r b<|d.C b q).1,?_,g ab o.1,y.r λb q=>k b (t b q) λe=>u<|e▸q,λb q=>g b<|t b q,u,d.c,d.d,d.M⟩,z⟩
 .exact d.r.r (Ê h.fl v) λb q=>(k b (h.r b<|d.C b q).1 λe=>d.M<|e▸q).trans (h.r b<|d.C b q).2
 .let⟨B,C,D⟩:=d.a;refine⟨B,?_,D⟩;rw[r ab o.1];unfold ž;simp[Ļ,o.2,C]
def aqB{J:Jd}(b:jW l)(d:fv.fe À Î J l (G (f.at (y.put ((Q[i]?).bind (·.dst))<|Ä ⟨#[]⟩)<|Ò Q jJ::L) qX)): fv.fe À Î J l (G (á À 38 #[Æ O 0 j,Ä B] ú)<|f.at y (Ò Q (i::jJ)::L)::qX):=by
 have hF:True:=trivial;rw[L0 [_,_] 73 Ė];simp only[ć,Ĕ,ĝ];conv in lY _ _=>whnf
 apply gi (n:=60) b;repeat w_go fA
 u_in fA hF
 refine Ū (t:=4) U U Ė U ⟨by u_nil,?_⟩;refine Û λ_ _=> ?_;exact d
def uq.I{w':Í}{xs:List ByteArray}(h:uq i xs w)(k:w'.heap[i]?=w.heap[i]?):uq i xs w':= ⟨λp x a=>zt k<|h.r p x a,by have:=h.C;simp only[ã,k]at this|-;exact this⟩
def aqC{xs:List ByteArray}(g:mU w)(h:uq i xs w):kS i=Ì:=by
 have b:∀e,Lz i e w->False:=λe ⟨c,o,j,_,_,d,l⟩=>by
  have f:w.cell? ⟨i,0,Á⟩=Â c[0]:=by simp only[ã,j,ø,ð,if_false];exact é d
  rcases Ĩ xs.length with q|q
  .have a:=h.C;rw[q,f]at a;cases a
  .have a:=h.r 0 _<|Ô q;let⟨k,n,m⟩:=l c[0]<|ò.2<|Ć d;rw[f,m]at a;cases a
 cases q:kS i with
 |false=>rfl
 |true=>
  unfold kS at q;simp at q;rcases q with rfl|rfl
  .exact(b _ g.I).elim
  .exact(b _ g.C).elim
def kB.aqD(a:jW l)(r:fD l l.w u):kB l {l with w:=u}:=⟨λ_ q=>q,λ_ q=>Ç q,U,U,U,U,U,r,lX a r⟩
def aqE{a:Ċ}{xs:List ByteArray}(b:ja l)(j:nB<=l.w.heap.size)(h:uq n xs l.w)(m:l.O n)(o:kS n=Ì)(p:kE l.w n=Â (0,0))(s:xs.length<=1000){N:Nat}(t:xs.length=N)(u:B.size=1)(v:iI xs+xs.length<=140737488355328): fv.fe À Î (λc g=>kB l c/\c.d=l.d/\g=G (f.at (a.put ((Q[i]?).bind (·.dst))<|Ä<|oy B xs)<|Ò Q jJ::L) qX) l (G (á À 38 #[Æ (Â ⟨n,0,Á⟩) N N,Ä B] ú)<|f.at a (Ò Q (i::jJ)::L)::qX):=by
 subst t;rcases Ĩ xs.length with e|e
 .have x:=à e;subst x;exact aqB b.r.r<|.fu λy r=>⟨kB.aqD b.r.r r,U,U⟩
 .refine(aqe b.r b.q j h e (Ç m) o p s u v Î _ qX).fH ?_;rintro c g ⟨r,x,rfl⟩;exact⟨r,x,by rw[Ğ]⟩
def aqF{N:Array Ñ}{cf:ċ}(C:lP l ab n s sl V)(Dk:gl l)(Tl:∀b,X b->l.w.heap.size<=b)(hl:∀b,l.O b->o.O b/\o.w.heap[b]?=l.w.heap[b]?)(jV:l.w.heap.size<=o.w.heap.size)(JA:rs.length<=24)(si:iI (mf rs s)+rs.length<=140737488355328)(ht:N.size=39)(ht0:N[0]?=Â (Ã<|Â ⟨ab,0,Á⟩)) (hJ:∀P,ja P->L3 l P ab n (EB rs s) V->jo vQ P (G (cf.at (y.put ((Q[i]?).bind (·.dst))<|ï #[Ä<|oy ⟨#[59]⟩<|mf rs s,Å É 0])<|Ò Q jJ::L) qX)) (md:ł) (listed:Array Bool) (a:Ċ) (l4:e5) (hI:II nU N (jS ab n sl v) (vo o (λb=>V b\/X b) rs s) listed a l4) (H:listed.size=nU.size) (I:è md nU listed=[]): jo vQ l4 (G ((base 17).at a<|Ò nU []::[Ζ Tk])<|cf.at y (Ò Q (i::jJ)::L)::qX):=by
 have hF:True:=trivial;let⟨x,D,g,_,hS⟩:=hI;have J:∀i∈ķ 15,listed.getD i Ì=Î:=by
  cases md
  .exact py I H (ķ 15) [] fR λi c=>by cases c
  .exact λi c=>py I H [0,1,2,3,4,5,6,7,8,9,10,11,13,12,14] [] fR (λi c=>by cases c) i (by have:=Ź.1 c;revert i;decide)
  .exact py I H (ķ 15) [] fR λi c=>by cases c
 obtain⟨l1,r,p,m,c,k1,rfl,hT⟩:=hS<|J 9 A;have h:=aqz (rs:=rs) C Dk Tl hl jV g.r k1 hT;let⟨F,ds⟩:=a;obtain rfl:ds=[]:=D.M;have S:F[0]?=Â (Ã<|Â ⟨ab,0,Á⟩):=(D.C A).trans ht0;have T:F[9]?=Â (Æ (Â ⟨r,0,Á⟩) rs.length rs.length):=D.r 13 B1 9 U (J 13 A) U;have W:F[10]?=Â (Æ p m c):=D.r 14 B2 10 U (J 14 A) U;have GG:F.size=39:=D.S.trans ht;clear D J hS hT k1 I H;obtain⟨u,rfl⟩:=C5 F GG;simp only[List.getElem?_toArray,Į,List.getElem?_range,Nat.reduceLT,Ą,Õ]at S T W;simp only[ķ,List.range.loop,List.map,S,T,W];clear S T W GG;let⟨fr,lV,hfr⟩:=C.a;let⟨L5,hab⟩:=h.r ab C.fh;have Y:l4.w.heap[ab]?=Â (Þ #[Å É n,sl] 68 (0,0)):=by rw[hab,lV,hfr]
 have c1:l4.w.cell? ⟨ab,1,Á⟩=Â sl:=by simp[ã,Y]
 have z1:l4.w.frozen? ⟨ab,1,Á⟩=Ì:=by simp[World.frozen?,Y]
 have A0:=g.q;apply rR;apply gi (n:=20) g.r.r;conv in Tk=>whnf
 iterate 7 w_go fA
 refine Û λ_ _=> ?_;apply F9 (p:=ab) (off:=1) (v:=Æ p m c) (u:=sl) U U (by k_ne) g.r.r A0 L5 c1 z1 U (λw z B=>by go_simp) (λw z B=>by simp[go_sem,events_store _ _ _ _ _ _ (show Value.oneCell' (Æ p m c)=Î from rfl),z,B]);have k5:=JJ (X:=λb=>b=ab) (p:=ab) (w':=l4.w.setCell ⟨ab,1,Á⟩<|Æ p m c) g.r (fD.fO _ _) L5 U fv.jK λj hj=>fv.kP hj;have rz:=k5.N g.r;have ase:(l4.w.setCell ⟨ab,1,Á⟩<|Æ p m c).heap.size=l4.w.heap.size:=fv.jK;have rh:ja ({l4 with w:=l4.w.setCell ⟨ab,1,Á⟩ (Æ p m c)}:e5):=⟨rz,g.d,g.q,g.N,g.I,g.M,g.k⟩;have c0:l4.w.cell? ⟨ab,0,Á⟩=Â (Å É n):=by simp[ã,Y]
 have aqG:r≠ab:=λe=>by
  rcases Ĩ (mf rs s).length with q|q
  .have z:=h.C.2.1.C;rw[q,e,c0]at z;cases z
  .have B:=h.C.2.1.r 0 _<|Ô q;rw[e,c0]at B;cases B
 have aaI:(l4.w.setCell ⟨ab,1,Á⟩<|Æ p m c).heap[r]?=l4.w.heap[r]?:=fv.kP (a:=⟨ab,1,Á⟩) aqG;have SJ:=h.C.2.1.I aaI;have AK:kE (l4.w.setCell ⟨ab,1,Á⟩<|Æ p m c) r=Â (0,0):=(vI aaI).trans h.C.2.2;have aqH:kS r=Ì:=aqC (C.r.r h.fl λb q=>(h.r b<|C.C b q).2) h.C.2.1;have hlen:(mf rs s).length=rs.length:=aaH;apply gi (n:=20) rz.r;iterate 4 w_go fA
 refine Û λ_ _=> ?_;refine zw (f:=38) (args:=#[Æ (Â ⟨r,0,Á⟩) rs.length rs.length,Ä ⟨#[59]⟩]) U fR (by k_ne) rz.r (λw=>by go_simp) (λw=>Ú U Ė U U #[]) λw₁ E=> ?_;have L4:=rh.C E;have aqI:uq r (mf rs s) w₁:=SJ.I<|E.I r<|Ç h.C.1;refine fv.fe.lR ?_ (aqE (xs:=mf rs s) L4 (Ê (by rw[fv.jK];exact h.fl) E.r) aqI h.C.1 aqH ((vI<|E.I r<|Ç h.C.1).trans AK) Z hlen U Z);rintro K g6 ⟨M,hd,rfl⟩;have Tm:ja K:=kB.Dq L4 M hd;have hk6:∀b,l4.O b->K.w.heap[b]?=(l4.w.setCell ⟨ab,1,Á⟩<|Æ p m c).heap[b]?:=λb q=>(M.r.I b<|Ç q).trans<|E.I b<|Ç q;have hs6:l4.w.heap.size<=K.w.heap.size:=by have z:=M.r.r;have B:=E.r;have h3:(l4.w.setCell ⟨ab,1,Á⟩<|Æ p m c).heap.size=l4.w.heap.size:=fv.jK;exact Ê (Nat.le_of_eq h3.symm)<|Ê B z
 have B:∀b,l4.O b->K.O b:=λb q=>M.O b q;generalize oy ⟨#[59]⟩ (mf rs s)=ans at*;walk_nrm;apply gi (n:=20) Tm.r.r;repeat w_go fA
 u_in fA hF
 refine ο (t:=4) (u:=5) U U ę U ⟨by u_nil,?_⟩;refine Û λ_ _=> ?_;refine .fu λxH z=>⟨Tm.C z,U,hJ _ (Tm.C z)<|aqA C h g.r B (λb q=>(z.I b<|Ç<|B b q).trans<|hk6 b q)<|Ê hs6 z.r⟩
end
section
variable{l:e5}{s:List fJ}
theorem aqJ{e:e5}{c:Nat->Prop}{g:List PR}(B:lP l j n s v X)(C:gl l)(D:lP e j n s v X)(k:ja e)(W:RQ g z c e.w)(Y:∀b,c b->e.O b)(hok:∀r∈g,uj r)(E:g.length<=24)(F:∀b,c b->l.w.heap.size<=b)(H:∀b,l.O b->e.O b/\e.w.heap[b]?=l.w.heap[b]?)(I:l.w.heap.size<=e.w.heap.size)(J:iI (mf g s)+g.length<=140737488355328)(t:d.size=39)(u:d[0]?=Â (Ã<|Â ⟨j,0,Á⟩))(K:d[6]?=Â z) (M:∀h,ja h->L3 l h j n (EB g s) X->jo vQ h (G (f.at (y.put ((Q[i]?).bind (·.dst))<|ï #[Ä<|oy ⟨#[59]⟩<|mf g s,Å É 0])<|Ò Q jJ::L) qX)): jo vQ e (G ((base 17).at ⟨d,[]⟩<|Ζ (.region 4 nU Î)::[Ζ Tk])<|f.at y (Ò Q (i::jJ)::L)::qX):=by
 refine aqs (II nU d (jS j n v z)<|vo e (λb=>X b\/c b) g s) k (λa x=> ?_) (λm o a l i jJ p N P=> ?_) λm o a l p S T=> ?_
 .refine⟨(Ï,Ï),mA.G _ _ _,k.C x,λ_=>(fX.fO k.r.r).G x,λq=> ?_⟩;exact absurd q A
 .by_cases V:i=9
  .grind [aqw]
  .exact aqt (aqu D t u K m o a l i jJ p N V) (λN h q=>by let⟨x,_,q⟩:=q;exact q.1) P
 .exact aqF B C F H I E J t u M m o a l p S T
def aaJ(p:ja l)(r:lP l j n s v X)(I:B.size<=ď)(J:(iZ B).1=0->iI (mf (iZ B).2.2 s)+(iZ B).2.2.length<=140737488355328) (t:∀z,ja z->L3 l z j n (qA s B).2.2 X->jo vQ z (G (f.at (y.put ((Q[i]?).bind (·.dst))<|ï #[Ä (qA s B).1,Å É (qA s B).2.1])<|Ò Q jJ::L) qX)): jo vQ l (G (á À 17 #[Ã<|Â ⟨j,0,Á⟩,Ä B] ú)<|f.at y (Ò Q (i::jJ)::L)::qX):=by
 have hF:=trivial;rw[L0 [_,_] 37 ę];simp only[ć,Ĕ,ĝ];conv in lY _ _=>whnf
 apply rR;apply gi (n:=20) p.r.r;iterate 8 w_go fA
 refine Û λ_ _=> ?_;refine zw (f:=36) (args:=#[Ä B]) U fR (by k_ne) p.r.r (λw=>by go_simp) (λw=>Ú U Ŀ U U #[]) λw₁ m=> ?_;have C:=p.C m;refine fv.fe.lR ?_<|ap7 C.r C.q (Ê r.r.fl m.r) I Î _ _;rintro u g1 ⟨x,K,a,rfl,M⟩;have g:=kB.Dq C x K;have h:∀b,l.O b->u.O b/\u.w.heap[b]?=l.w.heap[b]?:=λb q=>⟨x.O b q,(x.r.I b<|Ç q).trans<|m.I b<|Ç q⟩;have F:=Ê m.r x.r.r;rw[Ğ];by_cases k:(iZ B).1=0
 .have D:qA s B=(oy ⟨#[59]⟩<|mf (iZ B).2.2 s,0,EB (iZ B).2.2 s):=if_pos k;let⟨c,N,E⟩:=M k;have P:=J k;rw[D]at t;obtain⟨S,T⟩:=Ti;rw[k];generalize(iZ B).2.2=rs at*;generalize(iZ B).2.1=at1 at*;walk_nrm;apply gi (n:=40) g.r.r;repeat w_go fA
  refine Û λ_ _=> ?_;refine .fu λo d=>⟨g.C d,U,?_⟩;have V:=g.C d;have e:∀b,l.O b->({u with w:=o}:e5).O b/\o.heap[b]?=l.w.heap[b]?:=λb q=>⟨(h b q).1,(d.I b<|Ç (h b q).1).trans (h b q).2⟩;have H:=Ê F d.r;have W:=r.S (λb q=>(e b q).1) (λb q=>(e b q).2) H;have Y:=N.r λb q=>d.I b<|Ç (E b q).1;have hQ3:=λb q=>(E b q).1;have Tl:=λb q=>Ê m.r (E b q).2;exact aqJ r p.r W V Y hQ3 S T Tl e H P U U U t
 .have D:qA s B=(⟨#[]⟩,(iZ B).1,s):=if_neg k;rw[D]at t;have c:((iZ B).1 !=0)=Î:=by rwa[bne_iff_ne]
  generalize(iZ B).1=er at*;generalize(iZ B).2.1=at1 at*;walk_nrm;apply gi (n:=40) g.r.r;repeat w_go fA
  u_in fA hF
  refine ο U U ę U ⟨by u_nil,?_⟩;refine Û λ_ _=> ?_;refine .fu λo d=>⟨g.C d,U,t _ (g.C d) ?_⟩;have e:∀b,l.O b->({u with w:=o}:e5).O b/\o.heap[b]?=l.w.heap[b]?:=λb q=>⟨(h b q).1,(d.I b<|Ç (h b q).1).trans (h b q).2⟩;exact⟨λb q _=>e b q,v,X,r.S (λb q=>(e b q).1) (λb q=>(e b q).2)<|Ê F d.r,λb q=>Ç q⟩
end
def aaK(a:ByteArray)(c:a.size=1):∀b:List ByteArray,(oy a b).size<=iI b+b.length
 |[]=>Ø _
 |x::r=>by
  show(x.data.toList++qy a r).toArray.size<=_;have d:iI (x::r)=x.size+iI r:=by simp[iI]
  have e:x.data.toList.length=x.size:=by rw[ğ];rfl
  simp only[ŝ,Ü,Ln a c r,d,e,ē];omega
def Tn{M:Nat}(a:∀z∈vX,z.size<=M)(b:M<=100)(c:vX.length<=400000):(Ej vX).size<=100000000:=by
 unfold Ej;split
 .decide
 .have d:=aaK ⟨#[44]⟩ U vX;have e:=Eg vX a;have:M*vX.length<=100*400000:=Ŵ b c;omega
theorem ED(i:Nat):(oF i).size<=3:=by
 unfold oF pK;rw[ù];split
 .show 1+1<=3;decide
 .show 1+2<=3;decide
theorem aaL(s:iy.St)(x y:Nat)(k:Int):∀(m i:Nat),i+m<=1000->(sG s x y k i m).size<=20
 |0,i,_=>by unfold sG;decide
 |m+1,i,h=>by
  unfold sG;split
  .exact qu i Z
  .exact aaL s x y k m (i+1) Z
theorem aqK(s t:iy.St):(qx s t 8).length<=400000:=by
 unfold qx;have a:∀l:List Nat,(l.flatMap<|ze s t).length<=18*l.length:=λl=>by
  induction l with
  |nil=>simp
  |cons i l b=>
   rw[List.flatMap_cons,Ü,ē];have:(ze s t i).length<=18:=by unfold ze;grind [Ü,Li,o_]
   omega
 grind
theorem aqL{i:List (Nat×fJ)}{q:Qn}(n:lC (j0 i))(ok:q.Ok):(xl i q).size<=100000000:=by
 unfold xl;split
 .grind [ED]
 .rename_i p o;let⟨b,f,v,w⟩:=n.r _<|Ý.2 ⟨p,Hp o,U⟩;have j:∀u,u<18446744073709551616->(gG u).size<=100000000:=λu r=>by have:=qu u r;omega
  unfold Ek;split
  .have c:=f.C q.x q.I;exact j _ (by have:=c.1;have:=c.2;omega)
  .split
   .have c:=f.fp q.x;exact j _ (by have:=c.1;have:=c.2;omega)
   .split
    .split
     .grind [ED]
     .rename_i B;have l:fV (q.k:Int):=⟨Z,by have:=ok.k;omega⟩;have e:=KQ p.2.s [] q.x q.y q.g q.k f ok.x ok.y l Z Z (by simp;omega);unfold Sy;have C:=e.r;have m:=e.M;have t:=e.I;simp at t;have D:=aaK ⟨#[44]⟩ U<|[gG (fY p.2.s [] q.x q.y q.g q.k).C.toNat,gG (fY p.2.s [] q.x q.y q.g q.k).M.toNat,gG (fY p.2.s [] q.x q.y q.g q.k).r.toNat]++(fY p.2.s [] q.x q.y q.g q.k).I.map rJ;have E:=Eg (M:=21) ([gG (fY p.2.s [] q.x q.y q.g q.k).C.toNat,gG (fY p.2.s [] q.x q.y q.g q.k).M.toNat,gG (fY p.2.s [] q.x q.y q.g q.k).r.toNat]++(fY p.2.s [] q.x q.y q.g q.k).I.map rJ) λz d=>by
       rcases æ.1 d with h|h
       .simp at h;rcases h with rfl|rfl|rfl
        .have:=qu (fY p.2.s [] q.x q.y q.g q.k).C.toNat (by cases(fY p.2.s [] q.x q.y q.g q.k).C<;>decide);omega
        .have:=qu (fY p.2.s [] q.x q.y q.g q.k).M.toNat (by have:=m.1;have:=m.2;omega);omega
        .grind [qu]
       .obtain⟨e,a,rfl⟩:=Ý.1 h;exact Lr ((Se p.2.s [] q.x q.y q.g q.k f ok.x ok.y l Z Z (by simp;omega) λ_ q=>by cases q) e a).2
      grind
    .split
     .grind [aaL]
     .split
      .have:=D'<|D4 p.2.s;have:=E_<|16-(mT<|D4 p.2.s).size;unfold Lu;rw[ù];omega
      .split
       .exact Tn (λz d=>by obtain⟨e,a,rfl⟩:=Ý.1 d;exact Lr (b.C e a).2) Z<|by rw[ü];exact b.I
       .split
        .exact Tn (λz d=>by obtain⟨e,a,rfl⟩:=Ý.1 d;exact A' (b.r e a).1 (b.r e a).2) Z (by rw[ü];have:=b.M;omega)
        .split
         .grind [ED]
         .exact Tn (F_ _ _) Z<|aqK _ _
theorem aqM(a:List (Nat×fJ))(v:Int)(x:Nat)(b:List Tx):(tX a v x b).2.size<=3:=by
 unfold tX;split
 .exact ED 3
 .split
  .exact ED 4
  .split
   .exact ED 5
   .show(pK a.length).size<=3;unfold pK;split
    .show 1<=3;decide
    .show 2<=3;decide
def aqN{s:List fJ}{i:Int×Nat×List Tx}(h:lC s)(a:∀t∈i.2.2,t.Ok)(b:i.2.2.length<=1000):lC (LB s i):= lC.M (by rwa[LA]) a b
def aaM{a:List PR}{s:List fJ}(h:lC s)(b:∀r∈a,uj r):∀k,k<=(ig (mW a) a.length).length->lC (qz (xu a) (ig (mW a) a.length) s k)
 |0,_=>h
 |k+1,hk=>by
  have c:a.getD ((ig (mW a) a.length).getD k 0) sQ∈a:=ë (i:=(ig (mW a) a.length).getD k 0) (by have q:=(GM<|u9 (l:=ig (mW a) a.length)<|show k<_ from hk).1;generalize(ig (mW a) a.length).getD k 0=j at q;simp[Ģ,q]);have q:=b _ c;refine aqN (aaM h b k Z) (λt d=> ?_) ?_
  .obtain⟨x,t,rfl⟩:=Ý.1 d;exact toTx_ok<|q.C x t
  .show((a.getD _ sQ).r.map toTx).length<=1000;rw[ü];have:=q.n;omega
def Qx(kd:Nat->Int):∀{p R:Nat},p<=R->fK kd p<=(ig kd R).length:=λ{p R} h=>by
 show(ig kd p).length<=(ig kd R).length
 induction h with
 |refl=>exact ê _
 |@step R _ ih=>
  by_cases q:kd R=1
  .rw[Ba q];simp;omega
  .rwa[Bb q]
theorem aqO{a:List PR}{s:List fJ}(h:lC s)(b:∀r∈a,uj r)(l:a.length<=24):iI (mf a s)+a.length<=2400000024:=by
 have d:=Eg (M:=100000000) (mf a s) λz c=>by
  unfold mf at c;obtain⟨p,e,rfl⟩:=Ý.1 c;have f:=Ź.1 e;have g:=aaM h b (fK (mW a) p)<|Qx _ Z;unfold xm;split
  .grind [Ê,aqM]
  .rename_i j;have k:a.getD p sQ∈a:=ë (i:=p) (by simp[Ģ,f]);exact aqL (by rwa[LA])<|aaE (b _ k) j
 rw[aaH]at d;omega
def aaN{s:List fJ}(h:lC s):iI (mf (iZ B).2.2 s)+(iZ B).2.2.length<=140737488355328:=Ê (aqO h Ti.1 Ti.2) A
def HY(c:Int):Int:=if c<0 then(-(c+1))%8 else c%8
def aqP(c:Int)(b:-9223372036854775808<=c)(d:c<=9223372036854775807)(w:Í):Ó À 30 #[Å É c,Å É 8] w λe a=>e=È (Å É<|HY c)/\a=w:=by
 unfold HY;by_cases h:c<0
 .rw[if_pos h];have e:-(c+1).tmod 8=(-(c+1))%8:=by rw[<-Int.neg_tmod,Int.tmod_eq_emod_of_nonneg Z]
  have H:=e7 e.symm;clear e;go_enter ū,Χ;go_wp2;go_ret;exact⟨by rw[H.out];rfl,U⟩
 .rw[if_neg h];go_enter ū,Χ;go_wp2;go_ret;exact⟨U,U⟩
def To(a:û)(w:Í):Sem.events À (binOp BinOp.eql 26 (Ã<|Â a)<|Ã Á) w #[]=#[]:=fj
theorem aqQ{l:e5}(a:ja l)(p:nB<=l.w.heap.size){f:ε}{args:Array Ñ}{r:Ñ}(m:Dy f=Î)(s:∀v∈args.toList,ff (pC (λ_=>False) À.globals.size) v v)(t:∀{Y v},ff Y r v->v=r)(x:∀w,Ó À f args w λe y=>e=È r/\y=w)(n:Bool)(c:ċ)(i:List ċ): fv.fe À n (λk o=>kB l k/\k.d=l.d/\o=G (c.finish r) i) l (G (á À f args ú)<|c::i):=by
 let⟨E,F,z,B⟩:=yI f m;have C:∀T,Ó À f args (World.tp (kL (λj=>False/\¬(lG l).O j) l.w) T 0) fun|È v,j=>v=r/\jU j|_,_=>False:=λT=>by refine(x _).mono ?_;grind [Em]
 refine((Dt xC KB yI (λv u T D h=>h) m z B (Du a.r) a.q (λb q=>q.elim) ⟨λb q=>q.elim,p⟩ (λg q=>by cases q) (oU s) C n c i).lG a.r).fH ?_;rintro k o ⟨D,⟨Y,j,v,H,_,_,g,rfl,b,_,_,h⟩,rfl,u,_,_,_⟩;rw[t g]at b;exact⟨u,h,b⟩
def Tp:ByteArray:=⟨#[98,48,58,97,59,98,48,58,104,59,117,48,59,98,49,58,97]⟩
def aqR:(qA [iy.mb] Tp).1=⟨#[49,48,48,48,59,49,48,48,48,59,45,59,33,51]⟩:=fj
def aqS:(qA [iy.mb] Tp).2=(0,[iy.mb]):=fj
structure aqT(l l':e5)(ab n:Nat)(sl:Ñ)(V:Nat->Prop):Prop where
 r:lP l' ab n [iy.mb] sl V
 C:∀b,l.O b->l'.O b/\l'.w.heap[b]?=l.w.heap[b]?
 I:l.w.heap.size<=ab
 M:∀b,V b->(b=1\/b=2\/b=3\/b=4)\/l.w.heap.size<=b
section
variable{l:e5}
def Tq{J:Jd}{s:List fJ}(c:ja l)(d:lP l j n s z X)(g:fv.fe À Î J l (G (f.at (y.put ((Q[i]?).bind (·.dst))<|Å É s.length)<|Ò Q jJ::L) qX)): fv.fe À Î J l (G (á À 22 #[Ã<|Â ⟨j,0,Á⟩] ú)<|f.at y (Ò Q (i::jJ)::L)::qX):=by
 have hF:True:=trivial;obtain⟨a,b,rfl⟩:∃a b,z=Æ a s.length b:=by
  let⟨o,h,_,⟨a,k,b,e,_,m⟩,_⟩:=d.I;have:k=s.length:=by rw[m.r,<-h];simp[j0]
  exact⟨a,b,by rw[e,this]⟩
 have o:s.length<=40:=by let⟨_,_,e,_⟩:=d.I;exact e.C
 let⟨p,k,_⟩:=d.a;have m:l.w.cell? ⟨j,1,Á⟩=Â (Æ a s.length b):=by simp[ã,k]
 rw[L0 [_] 7 į];simp only[ć,Ĕ,ĝ];conv in lY _ _=>whnf
 refine gi (n:=20) c.r.r ?_;repeat w_go fA
 refine Û λ_ _=> ?_;refine nK (x:=⟨j,1,Á⟩) (v:=Æ a s.length b) U fR (by k_ne) c.r.r c.q (Ç<|Ç d.fh) m (λw h=>by go_simp) (λw h=>by simp[go_sem,h]) ?_;walk_nrm;refine gi (n:=20) c.r.r ?_;repeat w_go fA
 u_in fA hF
 refine Ū (t:=2) U U į U ⟨by u_nil,?_⟩;refine Û λ_ _=> ?_;exact g
def aaO(j:ja l)(p:mU l.w)(I:∀b,b=1\/b=2\/b=3\/b=4->l.O b)(c:Int)(tf:-9223372036854775808<=c)(zq:c<=9223372036854775807) (hJ:∀J a n K V,ja J->aqT l J a n K V->jo vQ J (G (f.at (y.put ((Q[i]?).bind (·.dst))<|Ã<|Â ⟨a,0,Á⟩)<|Ò Q jJ::L) qX)): jo vQ l (G (á À 15 #[Å É c] ú)<|f.at y (Ò Q (i::jJ)::L)::qX):=by
 have hF:True:=trivial;rw[L0 [_] 36 ń];simp only[ć,Ĕ,ĝ];conv in lY _ _=>whnf
 apply rR;apply gi (n:=20) j.r.r;repeat w_go fA
 refine Û λ_ _=> ?_;refine zw (f:=30) (args:=#[Å É c,Å É 8]) U fR (by k_ne) j.r.r (λw=>by go_simp) (λw=>Ú U ū U U #[]) λw₁ r=> ?_;have T:=j.C r;refine fv.fe.lR ?_ (aqQ T (Ê p.fl r.r) fR (λv h=>by simp at h;rcases h with rfl|rfl<;>exact .iA _ _) (λh=>by cases h;rfl) (aqP c tf zq) Î _ _);rintro s g1 ⟨u,hd,rfl⟩;obtain⟨z,hz,G7,Dp⟩:∃z,HY c=z/\0<=z/\z<8:=⟨_,U,by unfold HY;split<;>omega,by unfold HY;split<;>omega⟩;rw[hz];have M:ja s:=kB.Dq T u hd;have x:∀b,l.O b->s.O b/\s.w.heap[b]?=l.w.heap[b]?:=λb q=>⟨u.O b q,(u.r.I b<|Ç q).trans<|r.I b<|Ç q⟩;have B:l.w.heap.size<=s.w.heap.size:=Ê r.r u.r.r;rw[Ğ];walk_nrm;refine gi (n:=20) M.r.r ?_;repeat w_go fA
 refine Û λ_ _=> ?_;have n9:É.wrap (1+z)=1+z:=Ħ _ ⟨Z,Z⟩;refine zw (f:=35) (args:=#[Å É<|1+z]) U fR (by k_ne) M.r.r (λw=>by go_simp) (λw=>Ú U κ U U #[]) λxH h=> ?_;have N:=M.C h;obtain⟨n,hn⟩:∃n:Nat,1+z=n:=⟨(1+z).toNat,Z⟩;rw[hn];refine fv.fe.lR ?_<|aqd N.r N.q (Ê (Ê p.fl B) h.r) (n:=(n:Int)) Z Z Î _ _;rintro d g3 ⟨C,wC,a,K,rfl,lV,L5,hab,V,qk,hnV,W⟩;have g:ja d:=kB.Dq N C wC;have k:∀b,l.O b->d.O b/\d.w.heap[b]?=l.w.heap[b]?:=λb q=>⟨C.O b (x b q).1,(C.r.I b<|Ç (x b q).1).trans<|(h.I b<|Ç (x b q).1).trans (x b q).2⟩;have X:l.w.heap.size<=d.w.heap.size:=Ê B<|Ê h.r C.r.r;have aqU:l.w.heap.size<=a:=Ê B<|Ê h.r hab;have aqV:∀b,b=1\/b=2\/b=3\/b=4->b<l.w.heap.size:=λb q=>j.r.fl b<|Ç<|I b q;have hin:lP d a n [iy.mb] K V:=⟨p.r (Ê p.fl X) λb q=>(k b<|I b q).2,λb q=>(k b<|I b q).1,lV,L5,qk,λb q=>(W b q).1,hnV,Z,Z,λq=>by have:=aqV a q;omega⟩;have hVn:∀b,V b->l.w.heap.size<=b:=λb q=>Ê B<|Ê h.r (W b q).2;rw[Ğ];walk_nrm;apply gi (n:=60) g.r.r;repeat w_go fA
 refine Û λ_ _=> ?_;apply tB (v:=î Ì) U fR (by k_ne) g.r.r g.q (λw _=>by go_simp) (λw _ e m=>by simp[go_sem,To]at m);walk_nrm;apply gi (n:=60) g.r.r;repeat w_go fA
 refine Û λ_ _=> ?_;refine .fu λY m=>⟨g.C m,U,?_⟩;have rh:=g.C m;have aqW:=hin.N m;have P:∀b,l.O b->({d with w:=Y}:e5).O b/\Y.heap[b]?=l.w.heap[b]?:=λb q=>⟨(k b q).1,(m.I b<|Ç (k b q).1).trans (k b q).2⟩;refine EC (f:=17) (args:=#[Ã<|Â ⟨a,0,Á⟩,Ä ⟨#[98,48,58,97,59,98,48,58,104,59,117,48,59,98,49,58,97]⟩]) rh U fR (by k_ne) (λw=>by go_simp) (λw=>Ú U ę U U #[]) λaaP D=> ?_;change jo vQ _ (G (á À 17 #[Ã<|Â ⟨a,0,Á⟩,Ä Tp] ú) _);refine aaJ (rh.C D) (aqW.N D) A (λ_=>aaN aaB) λl6 E aaQ=> ?_;rw[aqS]at aaQ|-;rw[aqR];let⟨Jk,sl6,V6,aaR,hV6⟩:=aaQ;have kT:∀b,l.O b->b≠a:=λb q e=>by have:=j.r.fl b<|Ç q;omega
 have F:∀b,l.O b->l6.O b/\l6.w.heap[b]?=l.w.heap[b]?:=λb q=>by let⟨o,H⟩:=Jk b (P b q).1<|kT b q;exact⟨o,H.trans<|(D.I b<|Ç (P b q).1).trans (P b q).2⟩
 have hV7:∀b,V6 b->(b=1\/b=2\/b=3\/b=4)\/l.w.heap.size<=b:=λb q=>by
  rcases hV6 b q with z|z|z
  .exact Ð<|hVn b z
  .exact Ç z
  .exact Ð<|Ê X<|Ê (Ê m.r D.r) z
 walk_nrm;apply rR;apply gi (n:=60) E.r.r;repeat w_go fA
 refine Û λ_ _=> ?_;refine zw (f:=22) (args:=#[Ã<|Â ⟨a,0,Á⟩]) U fR (by k_ne) E.r.r (λw=>by go_simp) (λw=>Ú U į U U #[]) λDi o=> ?_;apply Tq (E.C o) (aaR.N o);have S:=E.C o;have aqX:=aaR.N o;walk_nrm;apply gi (n:=60) S.r.r;repeat w_go fA
 u_in fA hF
 refine Ū (t:=2) U U ń U ⟨by u_nil,?_⟩;refine Û λ_ _=> ?_;exact .fu λasf H=>⟨S.C H,U,hJ _ a n sl6 V6 (S.C H) ⟨aqX.N H,λb q=>⟨(F b q).1,(H.I b<|Ç (F b q).1).trans<|(o.I b<|Ç (F b q).1).trans (F b q).2⟩,aqU,hV7⟩⟩
end
noncomputable def L8:ů:=lY Ω [1,1,1,1,0,1,0,0]
noncomputable def aaS:ů:=lY Ω [1,1,1,1,1]
noncomputable def aaT:ů:=lY Ω []
noncomputable def Ts (x y:Ñ) (a:List ċ):ą:=G ((base 7).at ⟨#[x,y,Ï,Ï,Ï,Ï,Ï,Ï,Ï,Ï,Ï,Ï,Ï,Ï,Ï,Ï,Ï,Ï,Ï,Ï,Ï,Ï,Ï,Ï,Ï,Ï,Ï,Ï,Ï,Ï,Ï,Ï,Ï,Ï,Ï,Ï,Ï,Ï,Ï,Ï,Ï,Ï,Ï,Ï,Ï,Ï,Ï,Ï,Ï,Ï,Ï,Ï,Ï,Ï,Ï,Ï,Ï,Ï],[]⟩ [Ζ aaT]) a
def aqY(x y:Ñ)(a:List ċ):G (á À 7 #[x,y] ú) a=Ts x y a:=by
 unfold Ts;rw[ν #[x,y] φ fj];have e:(#[x,y]++ĸ (Ω.ntmps-(#[x,y]:Array Ñ).size) Ï:Array Ñ)=#[x,y,Ï,Ï,Ï,Ï,Ï,Ï,Ï,Ï,Ï,Ï,Ï,Ï,Ï,Ï,Ï,Ï,Ï,Ï,Ï,Ï,Ï,Ï,Ï,Ï,Ï,Ï,Ï,Ï,Ï,Ï,Ï,Ï,Ï,Ï,Ï,Ï,Ï,Ï,Ï,Ï,Ï,Ï,Ï,Ï,Ï,Ï,Ï,Ï,Ï,Ï,Ï,Ï,Ï,Ï,Ï,Ï]:=fj
 rw[e]
def aaU(t:Array Ñ)(h:t.size=58):∃a b c d e f g i j k l m n o p q r s u v w x y z B C D E F G H I J K L M N O P Q S T V W X Y mr my pv vZ we wh wi wj wm wo wq wv:Ñ,t=#[a,b,c,d,e,f,g,i,j,k,l,m,n,o,p,q,r,s,u,v,w,x,y,z,B,C,D,E,F,G,H,I,J,K,L,M,N,O,P,Q,S,T,V,W,X,Y,mr,my,pv,vZ,we,wh,wi,wj,wm,wo,wq,wv]:=by
 let⟨ls⟩:=t;match ls,h with
 |a::b::c::d::e::f::g::i::j::k::l::m::n::o::p::q::r::s::u::v::w::x::y::z::B::C::D::E::F::G::H::I::J::K::L::M::N::O::P::Q::S::T::V::W::X::Y::mr::my::pv::vZ::we::wh::wi::wj::wm::wo::wq::wv::[],_=>exact⟨a,b,c,d,e,f,g,i,j,k,l,m,n,o,p,q,r,s,u,v,w,x,y,z,B,C,D,E,F,G,H,I,J,K,L,M,N,O,P,Q,S,T,V,W,X,Y,mr,my,pv,vZ,we,wh,wi,wj,wm,wo,wq,wv,U⟩
def zy(l:e5)(c:Option û)(N:Nat)(f:Nat->ByteArray):Prop:=∀j,j<N->(f j).size<=ď/\∃a b,c=Â ⟨a,b,Á⟩/\l.O a/\l.w.cell? ⟨a,b+j,Á⟩=Â (Ä<|f j)
def zy.r{l a:e5}{d:Option û}{N:Nat}{f:Nat->ByteArray}(h:zy l d N f)(k:∀b,l.O b->a.O b/\a.w.heap[b]?=l.w.heap[b]?):zy a d N f:=λj g=>by let⟨i,c,m,n,e,o⟩:=h j g;exact⟨i,c,m,n,(k c e).1,zt (k c e).2 o⟩
structure pR(ia l:e5)(x y nx ny:Nat)(s t:List fJ):Prop where
 a:∃sl V,lP l x nx s sl V/\(∀b,V b->(b=1\/b=2\/b=3\/b=4)\/ia.w.heap.size<=b)/\¬V y
 b:∃sl V,lP l y ny t sl V/\(∀b,V b->(b=1\/b=2\/b=3\/b=4)\/ia.w.heap.size<=b)/\¬V x
 C:∀b,ia.O b->l.O b/\l.w.heap[b]?=ia.w.heap[b]?
 I:ia.w.heap.size<=x
 S:ia.w.heap.size<=y
 M:x≠y
 N:ia.w.heap.size<=l.w.heap.size
section
variable{ia l c:e5}{x y nx ny:Nat}{s t:List fJ}{sl:Ñ}{V:Nat->Prop}{d:ċ}{g:Ċ}
def pR.r(h:pR ia l x y nx ny s t)(r:fD l l.w u):pR ia {l with w:=u} x y nx ny s t:=by let⟨sl,V,c,d⟩:=h.a;let⟨e,f,g,i⟩:=h.b;exact⟨⟨sl,V,c.N r,d⟩,⟨e,f,g.N r,i⟩,λb q=>⟨(h.C b q).1,(r.I b<|Ç (h.C b q).1).trans (h.C b q).2⟩,h.I,h.S,h.M,Ê h.N r.r⟩
def pR.Y(h:pR ia l x y nx ny s t):pR ia l y x ny nx t s:=⟨h.b,h.a,h.C,h.S,h.I,h.M.symm,h.N⟩
def lP.G(h:lP l y n t sl V)(a:∀b,l.O b->b≠x->c.O b/\c.w.heap[b]?=l.w.heap[b]?)(d:¬V x)(f:y≠x)(g:¬(x=1\/x=2\/x=3\/x=4))(i:nB<=c.w.heap.size):lP c y n t sl V:= ⟨h.r.r i λb q=>(a b (h.C b q) λe=>g<|e▸q).2,λb q=>(a b (h.C b q) λe=>g<|e▸q).1,h.a.r (a y h.fh f).2,(a y h.fh f).1,h.I.r λb q=>(a b (h.Y b q) λe=>d<|e▸q).2,λb q=>(a b (h.Y b q) λe=>d<|e▸q).1,h.e,h.c,h.d,h.M⟩
theorem aaV(h:pR ia l x y nx ny s t)(p:gl ia)(k:ja l)(r:B.size<=ď) (u:∀c,ja c->pR ia c x y nx ny (qA s B).2.2 t->jo vQ c (G (d.at (g.put ((Q[i]?).bind (·.dst))<|ï #[Ä (qA s B).1,Å É (qA s B).2.1])<|Ò Q jJ::L) qX)): jo vQ l (G (á À 17 #[Ã<|Â ⟨x,0,Á⟩,Ä B] ú)<|d.at g (Ò Q (i::jJ)::L)::qX):=by
 let⟨sl,V,e,v,w⟩:=h.a;let⟨C,D,f,E,m⟩:=h.b;refine aaJ k e r (λ_=>aaN (by let⟨_,_,q,_⟩:=e.I;exact q)) λc n ⟨F,H,I,j,o⟩=>u c n ⟨⟨H,I,j,λb q=> ?_,λq=> ?_⟩,⟨C,D,f.G F m h.M.symm e.M j.r.fl,E,m⟩,λb q=> ?_,h.I,h.S,h.M,?_⟩
 .rcases o b q with z|z|z
  .exact v b z
  .exact Ç z
  .exact Ð<|Ê h.N z
 .rcases o y q with z|z|z
  .exact w z
  .exact f.M z
  .have:=k.r.fl y<|Ç f.fh;omega
 .have z:=p.fl b<|Ç q;have J:=h.I;let⟨K,M⟩:=h.C b q;grind
 .have:=n.r.fl x<|Ç j.fh;have:=h.I;omega
end
def aqZ{t:Tmp}(d:f.kind=ú)(e:y.defers=[])(g:P.funcs[f.fn]?=Â s)(c:s.results=#[.tmp t])(h:P.inits.idxOf? f.fn=Á):stepG P Î (G {f.at y L with mode:=.returning} []) w=.ended (.done<|y.tmps.getD t Ï) w:=by have i:=results_tmp c y.tmps P w;have j:=events_results_tmp (P:=P) (w:=w) c y.tmps;simp[G,stepG,unwind,doReturn,Frame.at,d,e,g,i,j,h,seen,GStep.after]
noncomputable def EE (a:Array Ñ):ą:=G ((base 7).at ⟨a,[]⟩<|Ζ L8::.inLoop L8::[.inBlock 0,Ζ aaS]) []
structure WF(bv:Ñ)(x y j:Nat)(tt:Array Ñ):Prop where
 r:tt.size=58
 C:tt[0]?=Â bv
 I:tt[5]?=Â (Ã<|Â ⟨x,0,Á⟩)
 M:tt[6]?=Â (Ã<|Â ⟨y,0,Á⟩)
 N:tt[7]?=Â (Å É j)
section
variable{d l:e5}{x y:Nat}{s t:List fJ}{f:Nat->ByteArray}{tt:Array Ñ}
def aq0(h:pR d l x y b k s s)(g:ja l)(c:WF (Æ O i n) x y i tt)(G:i<=9223372036854775807) (v:∀j,ja j->pR d j x y b k s s->vQ (î Î) j.w):jo vQ l (EE tt):=by
 have hF:True:=trivial;obtain⟨z,H,I,J,K,B,C,D,L,M,N,P,Q,S,T,W,X,Y,rj,rm,rn,qe,qf,qg,pg,p7,pj,nJ,mP,oh,om,ot,qP,p8,p9,pn,po,qR,qS,qT,qU,qV,qW,qY,qZ,re,mr,my,pv,vZ,we,wh,wi,wj,wm,wo,wq,wv,rfl⟩:=aaU tt c.r;obtain rfl:z=Æ O i n:=by simpa using c.C
 obtain rfl:B=Ã (Â ⟨x,0,Á⟩):=by simpa using c.I
 obtain rfl:C=Ã (Â ⟨y,0,Á⟩):=by simpa using c.M
 obtain rfl:D=Å É i:=by simpa using c.N
 clear c;apply aqj;apply gi (n:=60) g.r.r;simp only[EE];conv in L8=>whnf
 conv in aaS=>whnf
 repeat w_go fA
 refine Û λ_ _=> ?_;refine zw (f:=22) (args:=#[Ã<|Â ⟨x,0,Á⟩]) U fR (by k_ne) g.r.r (λw=>by go_simp) (λw=>Ú U į U U #[]) λw₁ o=> ?_;have e:=g.C o;have p:=h.r o;let⟨sl,V,E,_⟩:=p.a;apply Tq e E;walk_nrm;apply gi (n:=60) e.r.r;repeat w_go fA
 refine Û λ_ _=> ?_;refine zw (f:=22) (args:=#[Ã<|Â ⟨y,0,Á⟩]) U fR (by k_ne) e.r.r (λw=>by go_simp) (λw=>Ú U į U U #[]) λxH q=> ?_;have m:=e.C q;have r:=p.r q;let⟨Bn,V2,F,_⟩:=r.b;apply Tq m F;walk_nrm;apply gi (n:=60) m.r.r;repeat w_go fA
 refine Û λ_ _=> ?_;exact .fu λCO u=>⟨U,î Î,λw=>aqZ (t:=4) U U φ U fj,v _ (m.C u)<|r.r u⟩
def aq1(h:pR d l x y b k s s)(F:gl d)(g:ja l)(G:zy d O i f)(c:WF (Æ O i n) x y j tt)(hN:i<=9223372036854775807)(H:j<i) (X:∀a I,ja a->pR d a x y b k (qA s<|f j).2.2 (qA s<|f j).2.2->WF (Æ O i n) x y (j+1) I->jo vQ a (EE I)):jo vQ l (EE tt):=by
 have hF:True:=trivial;obtain⟨Y,y1,y2,y3,y4,y5,y6,y7,y8,y9,uU,wA,uV,qd,ri,pz,tE,tF,rj,rm,rn,qe,qf,qg,pg,p7,pj,nJ,mP,oh,om,ot,qP,p8,p9,pn,po,qR,qS,qT,qU,qV,qW,qY,qZ,re,mr,my,pv,vZ,we,wh,wi,wj,wm,wo,wq,wv,rfl⟩:=aaU tt c.r;obtain rfl:Y=Æ O i n:=by simpa using c.C
 obtain rfl:y5=Ã (Â ⟨x,0,Á⟩):=by simpa using c.I
 obtain rfl:y6=Ã (Â ⟨y,0,Á⟩):=by simpa using c.M
 obtain rfl:y7=Å É j:=by simpa using c.N
 clear c;obtain⟨J,o,p,rfl,_,_⟩:=G j H;have K:∀{a:e5},(∀e,d.O e->a.O e/\a.w.heap[e]?=d.w.heap[e]?)->a.O o/\a.w.cell? ⟨o,p+j,Á⟩=Â (Ä<|f j):=λ{a} k=>by let⟨_,t,u,e,m,r⟩:=(G.r k) j H;cases e;exact⟨m,r⟩
 apply rR;apply gi (n:=60) g.r.r;simp only[EE];conv in L8=>whnf
 repeat w_go fA
 refine Û λ_ _=> ?_;let⟨hO,L⟩:=K h.C;apply nK (x:=⟨o,p+j,Á⟩) (v:=Ä<|f j) U fR (by k_ne) g.r.r g.q (Ç<|Ç hO) L (λw h=>by go_simp) (λw h=>by simp[go_sem,h]);walk_nrm;refine .fu λw₁ r=>⟨g.C r,U,?_⟩;have M:=g.C r;have N:=h.r r;refine EC (f:=17) (args:=#[Ã<|Â ⟨x,0,Á⟩,Ä<|f j]) M U fR (by k_ne) (λw=>by go_simp) (λw=>Ú U ę U U #[]) λxH P=> ?_;refine aaV (N.r P) F (M.C P) J λl3 m t=> ?_;obtain⟨e,u⟩:∃e,(qA s<|f j).1=e:=⟨_,U⟩;obtain⟨E,z⟩:∃E,(qA s<|f j).2.1=E:=⟨_,U⟩;rw[u,z];walk_nrm;apply rR;apply gi (n:=60) m.r.r;repeat w_go fA
 refine Û λ_ _=> ?_;let⟨yz,Q⟩:=K t.C;apply nK (x:=⟨o,p+j,Á⟩) (v:=Ä<|f j) U fR (by k_ne) m.r.r m.q (Ç<|Ç yz) Q (λw h=>by go_simp) (λw h=>by simp[go_sem,h]);walk_nrm;refine .fu λaaP B=>⟨m.C B,U,?_⟩;have S:=m.C B;have T:=t.r B;refine EC (f:=17) (args:=#[Ã<|Â ⟨y,0,Á⟩,Ä<|f j]) S U fR (by k_ne) (λw=>by go_simp) (λw=>Ú U ę U U #[]) λDi V=> ?_;refine aaV (T.r V).Y F (S.C V) J λl6 C W=> ?_;rw[u,z];have h7:=W.Y;clear u z L Q h N t T W;walk_nrm;apply rR;apply gi (n:=80) C.r.r;repeat w_nl fA
 w_go fA
 refine Û λ_ _=> ?_;refine .fu λaq2 D=>⟨C.C D,U,X _ _ (C.C D) (h7.r D) ⟨U,U,U,U,?_⟩⟩;simp;exact Ħ _ ⟨Z,Z⟩
def aaW(p:gl d)(q:zy d O i f)(c:i<=9223372036854775807)(r:∀a s,ja a->pR d a x y b k s s->vQ (î Î) a.w):∀(m j:Nat) (l:e5) (s:List fJ) (tt:Array Ñ),i-j=m->j<=i->pR d l x y b k s s->ja l->WF (Æ O i n) x y j tt->jo vQ l (EE tt)
 |0,j,l,s,tt,hm,hj,h,hb,hT=>by
  have e:j=i:=Z
  subst e;exact aq0 h hb hT c λa g o=>r a s g o
 |m+1,j,l,s,tt,hm,hj,h,hb,hT=>aq1 h p hb q hT c Z λa e g o t=>aaW p q c r m (j+1) a _ e Z Z o g t
def aq3(B:ja l)(J:mU l.w)(K:∀a,a=1\/a=2\/a=3\/a=4->l.O a)(Q:zy l O i f)(S:i<=9223372036854775807)(r:Int)(T:-9223372036854775808<=r)(W:r<=9223372036854775807) (X:∀h,ja h->(∀a,l.O a->h.O a/\h.w.heap[a]?=l.w.heap[a]?)->l.w.heap.size<=h.w.heap.size->vQ (î Î) h.w): jo vQ l (G (á À 7 #[Æ O i n,Å É r] ú) []):=by
 have hF:True:=trivial;rw[aqY];simp only[Ts];conv in aaT=>whnf
 apply rR;apply gi (n:=40) B.r.r;repeat w_go fA
 refine Û λ_ _=> ?_;refine .fu λw₁ E=>⟨B.C E,U,?_⟩;have L:=B.C E;refine EC (f:=15) (args:=#[Å É 0]) L U fR (by k_ne) (λw=>by go_simp) (λw=>Ú U ń U U #[]) λM p=> ?_;have j:fD l l.w M:=E.e8 ⟨p.r,p.I,p.N,p.Y,p.S⟩;refine aaO (L.C p) (J.r (Ê J.fl j.r) λa q=>j.I a<|Ç<|K a q) K 0 A A λt x b Y V u c=> ?_;have k3:∀a,l.O a->t.O a/\t.w.heap[a]?=l.w.heap[a]?:=λa q=>⟨(c.C a q).1,(c.C a q).2.trans<|j.I a<|Ç q⟩;walk_nrm;apply rR;apply gi (n:=40) u.r.r;repeat w_go fA
 refine Û λ_ _=> ?_;refine .fu λaaP C=>⟨u.C C,U,?_⟩;have N:=u.C C;have P:=c.r.N C;refine EC (f:=15) (args:=#[Å É r]) N U fR (by k_ne) (λw=>by go_simp) (λw=>Ú U ń U U #[]) λF m=> ?_;have D:=P.N m;have rh:=N.C m;have o:fD t t.w F:=C.e8 ⟨m.r,m.I,m.N,m.Y,m.S⟩;refine aaO rh D.r D.C r T W λl6 y k Bn V2 d g=> ?_;have asg:=u.r.fl x<|Ç c.r.fh;have H:l.w.heap.size<=t.w.heap.size:=by have:=c.I;have:=j.r;exact Ê j.r (by have e:=c.I;have z:M.heap.size<=x:=e;omega)
 have I:F.heap.size<=y:=g.I;have two:pR l l6 x y b k [iy.mb] [iy.mb]:=by
  refine⟨⟨Y,V,D.S (λa q=>(g.C a q).1) (λa q=>(g.C a q).2) ?_,λa q=> ?_,λq=> ?_⟩,⟨Bn,V2,g.r,λa q=> ?_,λq=> ?_⟩,λa q=> ?_,Ê j.r c.I,Ê H<|Ê o.r I,?_,?_⟩
  .have:=d.r.fl y<|Ç g.r.fh;exact Ê I<|Ś this
  .exact(c.M a q).imp id λz=>Ê j.r z
  .have e:=u.r.fl y<|Ç<|c.r.Y y q;have:=o.r;omega
  .exact(g.M a q).imp id λz=>Ê H<|Ê o.r z
  .rcases g.M x q with z|z
   .exact c.r.M z
   .have e:F.heap.size<=x:=z;have:=o.r;omega
  .let⟨z,e⟩:=k3 a q;let⟨q3,q4⟩:=g.C a z;exact⟨q3,q4.trans<|(o.I a<|Ç z).trans e⟩
  .have:=o.r;omega
  .have:=d.r.fl y<|Ç g.r.fh;exact Ê H<|Ê o.r<|Ê I<|Ś this
 clear c g P D;walk_nrm;apply rR;apply gi (n:=40) d.r.r;repeat w_go fA
 refine Û λ_ _=> ?_;apply tB (v:=î Ì) U fR (by k_ne) d.r.r d.q (λw _=>by go_simp) (λw _ e z=>by simp[go_sem,To]at z);walk_nrm;apply gi (n:=60) d.r.r;repeat w_go fA
 refine Û λ_ _=> ?_;apply tB (v:=î Ì) U fR (by k_ne) d.r.r d.q (λw _=>by go_simp) (λw _ e z=>by simp[go_sem,To]at z);walk_nrm;apply gi (n:=60) d.r.r;repeat w_bar fA
 w_go fA
 refine Û λ_ _=> ?_;exact .fu λaq2 z=>⟨d.C z,U,aaW B.r Q S (λh s kA e=>X h kA e.C e.N) i 0 _ _ _ Z (Ø _) (two.r z) (d.C z) ⟨U,U,U,U,U⟩⟩
end
def aq4{l:e5}(e:jo vQ l g)(a:ja l)(c:g.status=.running):rQ vQ #[g] l.w Á #[]:=e a c (λ_=>False) 0 _ _ _ _ Á _ ⟨λx q=>q.elim,λ_ _ _ _ q=>q,Ø _⟩ (aqf (P:=À) (J:=λ_ _=>True) (T:=.fu) U a.d a.q a.N a.I a.M a.k (λb q=>a.r.fl b<|Ç q) c λ_ _=>trivial) a.d U
def L9(W:Í):e5:={O:=λb=>b<W.heap.size,I:=λ_=>False,r:=λ_=>False,N:=λ_=>False,K:=λ_=>False,d:=0,q:=False,w:=W}
def aaX(W:Í):ja (L9 W):= ⟨⟨λ_ _=>id,λ_ q=>q.elim,λ_ q=>q.elim (λz=>z.elim) λz=>z.elim,λ_ q=>q.elim id λz=>z.elim,λ_ q=>q.elim (λz=>z.elim) λz=>z.elim,λ_ q=>q.elim⟩,U,id,λ_=>id,λ_=>id,λ_=>id,λ_=>id⟩
structure mY(W w':Í):Prop where
 qI:∀b,b<W.heap.size->w'.heap[b]?=W.heap[b]?
 Cr:W.heap.size<=w'.heap.size
def aq5(g:mU W):∀b,b=1\/b=2\/b=3\/b=4->b<W.heap.size:=λb q=>by let⟨c,a,h,_⟩:=g.C;have:=(å.1 h).1;omega
def aq6(d:mU W){N c:Nat}{f:Nat->ByteArray}(e:zy (L9 W) O N f)(g:N<=9223372036854775807)(a:Int)(h:-9223372036854775808<=a)(i:a<=9223372036854775807): rQ (λv w'=>v=î Î/\mY W w') #[G (á À 7 #[Æ O N c,Å É a] ú) []] W Á #[]:= aq4 (l:=L9 W) (aq3 (aaX W) d (aq5 d) e g a h i λk _ v j=>⟨U,λb q=>(v b q).2,j⟩) (aaX W) U
def aq7:À.cellsOf 9=1:=fj
theorem aq8(b a n:Nat):(⟨b,a,Á⟩:û).add n=⟨b,a+n,Á⟩:=by unfold Addr.add;grind
theorem aq9(h:w.cell? a=Â v):a.spot=Á/\a.block<w.heap.size:=by
 unfold ã at h;split at h
 .rename_i c t f e;constructor
  .simp_all
  .grind
 .cases h
open Go.ChangeShapes Go.WideShapes Go.ChangeAt Go.Deep in
theorem ara{H:Type}{enc:TypeId×Value->H}{x:DataW H×List MemPlace} (h:DataW.trod enc À W 0 (λ_=>Î) Î k 25 [Æ O J j9]=Â x):J<=ď/\∃f,zy (L9 W) O J f:=by
 rcases open_slice Ď h with⟨d,_⟩|⟨a,r,t,m,n,D,B,d,_,C,E,u,_,v⟩
 .have e:Æ O J j9=Æ Á 0 0:=by simpa using d
  cases e;exact⟨Ø _,λ_=>⟨#[]⟩,λj l=>by omega⟩
 have e:Æ O J j9=Æ (Â a) r t:=by simpa using d
 cases e;have F:m=j9:=by rw[u];rfl
 have w:∀i,∃s:ByteArray,i<J->W.cell? (a.add i)=Â (Ä s)/\s.size<=ď:=by
  intro i;by_cases b:i<J
  .let⟨y,c,g⟩:=v i Z;rw[aq7]at c;let⟨_,z,q⟩:=World.cells?_some c;let⟨s,p,_,G⟩:=DataW.trod_string Tryz.underlying9 g;subst p;have o:=q 0 fg;have I:(a.add i).add 0=a.add i:=rfl;grind
  .exact⟨⟨#[]⟩,λq=>absurd q b⟩
 let⟨f,q⟩:=Classical.axiomOfChoice w;refine⟨Z,f,λj l=> ?_⟩;let⟨c,g⟩:=q j l;let⟨o,_⟩:=q 0 Z;let⟨G,y⟩:=aq9 o;let⟨b,p,sp⟩:=a;have z:sp=Á:=by have:((⟨b,p,sp⟩:û).add 0).spot=sp:=rfl;grind
 subst z;rw[aq8]at c;exact⟨g,b,p,U,y,c⟩
end Go.Proofs.Y.nA
