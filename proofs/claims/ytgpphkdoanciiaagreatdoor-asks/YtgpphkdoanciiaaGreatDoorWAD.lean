import Derived.Test.YtgpphkdoanciiaaGreatDoorWAC
import Derived.Shelf.Strconv.Itoa0
import Derived.Shelf.Strconv.Itoa1
import Derived.Shelf.LaysM
import Derived.Shelf.Strconv.Itoa2
import Derived.Shelf.Strconv.Itoa3
import Derived.Shelf.Strings.Repeat
import Derived.Shelf.Strings.OnBuilder
import Derived.Shelf.Strconv.Clone
import Derived.Shelf.Strings.Prefix
import Derived.Shelf.Bits.Mul64
import Derived.Test.YtgpphkdoanciiaaGreatDoorProg
import Derived.Lib.ItoaLen
import Derived.Deep.DeepCutAuto
import Derived.Lib.Bytealg
import Derived.Conc.LeavingOf
import Derived.Conc.CrowdStepC
import Derived.Listen
import Derived.ProofKit
import Derived.Deep.Slices
import Derived.Lib.LaidTab
import Derived.OpenShut
import Derived.LaidMore
import Derived.Stop.Joined
import Derived.Carry
set_option linter.all false
set_option maxRecDepth 1000000
set_option maxHeartbeats 8000000
open Go.Proofs.Tryz renaming prog->À,underlying25->ñ,underlying3->õ,underlying231->ú,underlying36->ý,underlying9->Ą,underlying107->ć,underlying4->Ď,underlying5->ď,func38->ĕ,zeroValue3->ė,zeroValue4->Ę,zeroValue9->ę,underlying106->Ġ,results45->Ĥ,zeroValue36->ĩ,sizeOf3->Ĳ,sizeOf4->ĳ,sizeOf9->Ĵ,isAgg3->Ĺ,isAgg4->ĺ,isAgg9->Ļ,func36->ŀ,results36->Ł,sizeOf36->Ŋ,ntmps172->Ō,ntmps160->Ŏ,ntmps147->ŏ,ntmps100->Ő,underlying168->ő,underlying291->Œ,underlying170->Ŕ,ntmps35->ř,zeroValue168->Ś,isAgg36->ś,underlying95->ŝ,func172->Ş,ntmps38->Ŧ,func160->ŧ,func147->ũ,func100->Ū,ntmps95->ū,ntmps36->Ŭ,underlying0->Ů,zeroValue95->ů,func35->ŵ,func95->Ź,func17->ź,zeroValue0->Ż,zeroValue5->ż,sizeOf168->Η,isAgg168->Χ,sizeOf95->Ω,ntmps157->δ,ntmps123->ζ,ntmps101->θ,ntmps142->ι,ntmps165->κ,ntmps183->ν,sizeOf0->ρ,sizeOf5->ς,isAgg95->σ,func157->υ,ntmps78->φ,func123->af,ntmps67->ag,func101->aj,ntmps96->ak,ntmps45->ar,func142->ax,ntmps90->ay,func165->aB,func183->aC,isAgg0->aG,isAgg5->aH,func78->aJ,func67->aL,func96->aO,func45->aP,f17->aQ,func37->aS,func22->aV,func90->aX
open And renaming intro->Á
open Option renaming some->Â,none->Ã,map_eq_some_iff->Ø,bind_eq_some_iff->Ü,bind_eq_bind->å,pure_def->ü,map->Ŗ
open Go.Value renaming pointer->Ä,string->Å,slice->Æ,int->Ç,tuple->Ý,bool->á,oneCell'->Ă,cells->Ħ,agg->ŭ
open Go.Ending renaming returned->È
open Or renaming inl->É,inr->Ì
open Go.IntKind renaming i64->Ê,u64->Ð,wrap_i64->í,wrap_u64->ö,u8->Ň
open Go renaming World->Ë,Value->Î,Calls->Ò,cell_one_new->ã,bodyPost_ret->ì,TypeId->ð,maxLen->ó,Addr->ø,info_parts->Ĉ,Frame->Ċ,Goroutine->Č,execOp->Ė,run_callFunc_extern->Ĝ,run_underlying->ġ,TypeInfo->ĥ,run_convert_bytes_back->ĵ,Operand->ĸ,heap_alloc_new->ļ,results->ņ,Oper->Ř,setRow_other->Ţ,wpList_plain->ţ,runNT_fst->Ų,FuncId->Ŵ,setRow_heap->ŷ,IntKind->Ε,Trace->Ζ,wpList->Ι,growslice_fits->Λ,laidMetH->Τ,Tape->Υ,runNT->ο,resolve->ψ,builtin->ω,yielded->ah,results_none->ai,Act->aD,typeInfo->aK,getD_set_ne->aR,DataW->aW,invoke->bk,storeCells->bl,undef->bA,Program->bD,sizeOf->bH
open Bool renaming true->Í,false->Ó,false_eq_true->æ,not_false->Κ
open Nat renaming le_trans->Ï,mul_le_mul->Ģ,mod_eq_of_lt->Ű,one_pos->aI,mod_lt->bq
open List renaming length_append->Ñ,eq_nil_of_length_eq_zero->Ù,replicate->è,range->é,getD->ċ,take->İ,drop->ı,range_succ->ķ,replicate_succ'->Ŀ,length_pos_iff->ŉ,length_nil->Ž,map->ZnI
open Go.Obj renaming cells->Ô
open Go.Item renaming inRegion->Õ,code->bx
open ByteArray renaming size_append->Ö,size_extract->ä,extract->þ,size->ľ,data->Μ,append_empty->az,append_assoc->aA,mk->ZnJ
open Go.World renaming cell?->Ú,drewN_drewN->ò,ownsRow_nil->ħ,block_lt_of_cell?->ĭ,var?->Ķ,drew->œ,freeze->š,setCell->η,shape?->ae
open Go.Lib renaming byteCells->Û,indexByte->ß,nDigits->Ā,decDigits->đ,zeros24->ē,decDigits_length->Ĕ,strCells->Ğ,TabIs->Ī,byteCells_length->Ľ,tabData->Ń,strCells_length->ň,hasPrefix->ŋ,pow10Tab->Ŝ
open Go.RowKit renaming intOf->Þ
open Go.Great renaming wpList_runTo->à
open Go.Frame renaming enter->â,finish_at->ſ
open Go.Region renaming ready->ç,wanted->Ē
open Go.Exit renaming noGoto_ret->ê
open Go.Calls renaming quiet_of_same->ë,mono->Đ
open Go.Proofs.YtgpphkdoanciiaaGreatDoor.Rows renaming laid_math_bits_deBruijn32tab->î,laid_math_bits_deBruijn64tab->ï,laid_attic_attic_stepRules->ô,laid_internal_strconv_uint64pow10->ă
open Go.CallKind renaming normal->ù
open Go.Builtin renaming append_->û,lenOf->ō,firstCells->ŕ,append->Ŷ,unsafeSliceData_->ε,unsafeString_->aE,zeroCells->bu
open Array renaming getElem_mem->ÿ,size_replicate->ā,replicate->Ě,toList_inj->ų,ext'->Ο
open Go.ByteArray renaming toList_eq->ą
open Go.Region.linearise renaming go->Ć
open Go.DataW renaming trod->ĉ,trod_int->ń
open Go.Result renaming andThen->č,andThen_ok->Ĩ,ok->bh
open Go.Oper renaming upon_value->ě,wp->Δ
open Go.Shelf renaming Ren->ĝ
open Go.IntWalk renaming i64_in->ğ,i64_left->ű
open Go.RowKit.Below renaming heap_setCell->ģ,heap_alloc->Ĭ
open Go.Sort renaming mapBlock->ī,putRow->Θ
open Go.Conc renaming crowd->Į,events_call_body->į,Good->au,goes_leave1->aT,goes_leave2->aU
open Go.Made renaming word->Ņ,reckonStruct->Ũ,infoAt->Ÿ,mostCells->Ν,reckon->aN
open False renaming elim->ŗ
open Go.Sem renaming run_bind->Ť,run_pure->ť
open Go.Proofs.Lays renaming n283->aZ,n285->a8,n212->bg,n99->bj
variable{i n j b k m J j9 j7 j6:Nat}{w u W jX:Ë}{v x z jQ:Î}{g:Č}{a p:ø}{h c:Int}{e t T:ð}{d q:Array Î}{P:bD}{y:aD}{B:ByteArray}{X:Nat->Prop}{O:Option ø}{l:List Î}{yQ:Bool}{cX cQ:aD->Ë->Prop}{o:Ř}{D:Nat->Nat}{E:Array Č}{L:List Go.Item}{jJ:List Nat}{qX:List Ċ}{qQ:ĸ}{qJ:Ζ}{zX:Go.Loc->Prop}{zQ:List Int}{zJ:ĥ}{xX:ĸ->Î}{xQ:Υ}{xJ:Nat×Nat}{vX:List ByteArray}{vQ:Î->Ë->Prop}{vJ:Go.Exit->aD->Ë->Prop}{Q:Array Ř}{f:Ċ}{F:Ŵ}{s:Go.Func}{gX gQ:Type}{gJ kX:List (Nat×Int)}{bJ:List (Int×Bool)}{kJ:Option (Nat×Nat)}{fX:List Ř}{bQ:Prop}
namespace Go.Proofs.Y
namespace gT
open RowKit Lift
theorem anH(h:l.length=145):À.built 147 [(0,ŭ l.toArray)]=Â (l++[Ç Ê 0,Æ Ã 0 0]).toArray:=by let⟨z,d,a,b,c⟩:=Jf R' S_ A;rw[DF S' a,c];have:=zx (place:=λi=>[(0,145),(145,1),(146,1)].toArray[i]?) (pre:=[]) (suf:=[Ç Ê 0,Æ Ã 0 0]) (i:=0) (v:=ŭ l.toArray) (rest:=[]) U (by show l.toArray.size=145;simp[h]) b;simpa[Instr.fill,Ħ]using this
theorem anI(a:o.op=.build 147 #[(0,qQ)])(b:xX qQ=ŭ l.toArray)(c:l.length=145):(Ė xX o).run À w=bh (.value<|ŭ (l++[Ç Ê 0,Æ Ã 0 0]).toArray) w:=by grind [zy,anH]
def kh:gf:=⟨kg 8,[],[],0⟩
def aam:ic (kg 8):=by refine⟨λi=> ?_,λi j=>⟨cK _,show(0:Int)<18446744073709551616 by decide⟩,λi=>⟨show(0:Nat)<=40 by decide,λc a=>by cases a⟩⟩;show gL (if i<8 then 1000 else 0);split<;>exact⟨A,A⟩
theorem anJ{s:St}(b:ic s)(h:fy i (iU s++[Æ Ã 0 0]++[Ç Ê 0,Æ Ã 0 0]) 147 w):tY i ⟨s,[],[],0⟩ w:=by have c:=tX s;refine⟨⟨λj v d=> ?_,?_⟩,b,cK _,show(0:Int)<=40 by decide,?_,?_⟩;rw[dQ];apply h.r j v;grind;apply h.r 145 _;simp_all;refine⟨Ã,0,h.r 144 _ ?_,λj x a=>by cases a⟩;grind;refine⟨Ã,0,h.r 146 _ ?_,λj x a=>by cases a⟩;simp_all
def anK(n:Int)(h:n<1)(w:Ë):Ò À 35 #[Ç Ê n] w λe a=>e=È (Ý #[Ä Ã,Ç Ê 7])/\a=w:=by go_enter ŵ,ř;go_wp2;go_ret2;exact⟨U,U⟩
def anL(n:Int)(h:8<n)(w:Ë):Ò À 35 #[Ç Ê n] w λe a=>e=È (Ý #[Ä Ã,Ç Ê 7])/\a=w:=by go_enter ŵ,ř;go_wp2;go_ret2;exact⟨U,U⟩
def TH(J:St->List (Nat×Int)->Prop)(F:kY):Prop:=∀s a x y g k,ic s->x<8->y<8->gL k->0<=g->g<=100000->(a.length:Int)+g<=1000000->J s a->J (F s a x y g k).s (F s a x y g k).I
structure aan(J:St->List (Nat×Int)->Prop):Prop where
 st:∀{s ls} (y j:Nat) (v:Int),J s ls->J (s.C y j v) ls
 mv:∀{s ls y} (q:Int) {p:Int},ic s->y<8->gL p->J s ls->J (qj s y q p).2 ls
 lg:∀{s ls y p},y<8->gL p->J s ls->J s (ls++[(y,p)])
section
variable{c:RC}{F:kY}{J:St->List (Nat×Int)->Prop}
theorem anM(b:aan J)(i:TH J F)(d:c.y<8)(k:Nat)(t:RT)(o:k<=20)(a:mX t)(h:J t.s t.C):J (lr F c k t).s (lr F c k t).C:=by
 have f:=om a.r;have g:=om<|nV a.r;by_cases j:k=16;subst j;exact b.st _ _ _ h;by_cases l:k=18;subst l;exact b.mv _ a.s d g h;by_cases m:k=19;subst m;exact b.lg d f h;by_cases n:k=20;subst n;show J (jy F c t _ _ _).2.2.s (jy F c t _ _ _).2.2.C;unfold jy;split;exact h;have e:=om<|nV<|nV a.r;have p:=a.g0;have q:=a.C;have r:=a.I;have u:=f.1;have v:=g.1;exact i _ _ _ _ _ _ a.s d Z e Z Z Z h;have e:(lr F c k t).s=t.s/\(lr F c k t).C=t.C:=by unfold lr;grind
 grind
def aao(b:aan J):∀n,TH J<|sj n|0=>λ_ _ _ _ _ _ _ _ _ _ _ _ _ h=>h|n+1=>λs d x y g k a f e i j l m h=>by show J (qG (sj n) ⟨x,y,k,4-(n:Int),g⟩ s d).s (qG (sj n) ⟨x,y,k,4-(n:Int),g⟩ s d).I;unfold qG;simp only;split;exact(FI (c:=⟨x,y,k,4-(n:Int),g⟩) (a.I y).1 (λn o=>MV a y o) (Dz n) f e i (anM b (aao b n) e) _ _ _ wF ⟨fD,fD,a,j,l,m⟩ h).2;exact h
end
def M9:TH (λ_ e=>x7 e) gR:=aao ⟨λ_ _ _ h=>h,λ_ _ _ _ _ h=>h,λa b h e c=>by obtain q|q:=dx.1 c;exact h e q;simp at q;subst q;exact⟨a,b⟩⟩ 4
def anN{s:St}(b:ic s){ls:List (Nat×Int)}{t:Tx}(a:t.Ok)(c:(ls.length:Int)+400<=1000000)(h:x7 ls):x7 (nW s ls t).2.2.2:=by unfold nW;split;exact h;split;exact h;unfold x6;split;exact h;have d:=(b.fC t.x).2;exact M9 _ ls t.x t.y (t.n-10) t.k (b.r t.x ⟨Z,Z⟩) a.x a.y ⟨a.r,by have:=a.C;omega⟩ Z Z Z h
def BA(us:List (Int×Bool)):Prop:=∀e∈us,0<=e.1/\e.1<=400
def BA.Cl{us:List (Int×Bool)}(h:BA us){e:Int×Bool}(a:0<=e.1)(b:e.1<=400):BA (us++[e]):=λx c=>by obtain q|q:=dx.1 c;exact h x q;simp at q;subst q;exact⟨a,b⟩
structure TJ(v:gf):Prop where
 C:x7 v.C
 r:BA v.r
 I:v.C.length<=400000
 M:v.r.length<=1000
def TK:∀(a:List Tx) {s:St} {ls:List (Nat×Int)} {us:List (Int×Bool)} {r:St×List (Nat×Int)×List (Int×Bool)},(∀t∈a,t.Ok)->ic s->x7 ls->BA us->ls.length+400*a.length<=400000->us.length+a.length<=1000->u7 m s ls us a=Â r->ic r.1/\x7 r.2.1/\BA r.2.2/\r.2.1.length<=400000/\r.2.2.length<=1000
 |[],s,ls,us,r,_,hs,hl,hu,n1,n2,h=>by cases h;exact⟨hs,hl,hu,fN n1,fN n2⟩
 |t::q,s,ls,us,r,ht,hs,hl,hu,n1,n2,h=>by unfold u7 at h;simp only[eH]at n1 n2;split at h;have d:=W_ (ls:=ls) hs (ht t fD) Z;have e:=d.C;exact TK q (λb c=>ht b<|fi _ c) (d.s.r m<|uW _) (anN hs (ht t fD) Z hl) (hu.Cl d.g0 d.r) Z (by simp;omega) h;cases h
def anO{s:St}{a:List Tx}{r:St×List (Nat×Int)×List (Int×Bool)}(b:∀t∈a,t.Ok)(c:ic s)(k:a.length<=1000)(e:o9 m s a=Â r):TJ ⟨r.1,r.2.1,r.2.2,h⟩:=by unfold o9 at e;obtain⟨l,d,rfl⟩:=Ø.1 e;let⟨_,f,g,i,j⟩:=TK a b c (λ_ q=>by cases q) (λ_ q=>by cases q) (by simp;omega) (by simp;omega) d;exact⟨f,g,i,j⟩
end gT
end Go.Proofs.Y
namespace Go.Proofs
open Go.Shelf
def Tryz.lays283_ren:ĝ:=⟨fun|283=>187|n=>n,fun|3=>3|9=>9|4=>4|n=>n,fun|n=>n⟩
def Tryz.lays283:aZ À Tryz.lays283_ren:={
 mixed:=fK
 f283:=Tryz.func187.trans<|congrArg Â fK
 t3:=õ
 a3:=Ĺ
 z3:=Ĳ
 v3:=ė
 t4:=Ď
 a4:=ĺ
 z4:=ĳ
 v4:=Ę
 t9:=Ą
 a9:=Ļ
 z9:=Ĵ
 v9:=ę}
open Go.Lib in
def Tryz.internal_strconv_small(i:Nat)(h:i<100)(w:Ë):
 Ò À 187 #[Ç Ê i] w λe a=>e=È (Å ⟨(đ i).toArray⟩)/\a=w:=Any.internal_strconv_small Tryz.lays283 i h w
def Tryz.laysM284_ren:ĝ:=⟨fun|284=>188|129=>198|317=>197|318=>199|n=>n,fun|53=>36|3=>3|212=>291|0=>0|4=>4|46=>168|5=>5|9=>9|n=>n,fun|17=>1|n=>n⟩
def Tryz.laysM284:Go.Proofs.LaysM.n284 À Tryz.laysM284_ren:={
 mixed:=fK
 f129:=Tryz.func198.trans<|congrArg Â fK
 f284:=Tryz.func188.trans<|congrArg Â fK
 f317:=Tryz.func197.trans<|congrArg Â fK
 f318:=Tryz.func199.trans<|congrArg Â fK
 t0:=Ů
 a0:=aG
 z0:=ρ
 v0:=Ż
 t3:=õ
 a3:=Ĺ
 z3:=Ĳ
 v3:=ė
 t4:=Ď
 a4:=ĺ
 z4:=ĳ
 v4:=Ę
 t5:=ď
 a5:=aH
 z5:=ς
 v5:=ż
 t9:=Ą
 a9:=Ļ
 z9:=Ĵ
 v9:=ę
 t46:=ő
 a46:=Χ
 z46:=Η
 v46:=Ś
 t53:=ý
 a53:=ś
 z53:=Ŋ
 v53:=ĩ
 t212:=Œ
 a212:=Tryz.isAgg291
 z212:=Tryz.sizeOf291
 v212:=Tryz.zeroValue291
 g17:=fK
 i0:=fK
 i3:=fK
 i4:=fK
 i5:=fK
 i9:=fK
 i46:=fK
 i53:=fK
 i212:=fK
 m17:=by kernel_rfl}
open Go.Lib in
def Tryz.internal_strconv_numDigits(u:Nat)(a:1<=u)(b:u<18446744073709551616)(w:Ë)(c:Ī À w "internal/strconv.uint64pow10" Ð Ŝ):
 Ò À 188 #[Ç Ð u] w λe d=>e=È (Ç Ê<|Ā u)/\d=w:=Any.internal_strconv_numDigits Tryz.laysM284 u a b w c
def Tryz.lays285_ren:ĝ:=⟨fun|285=>189|n=>n,fun|37=>107|53=>36|3=>3|4=>4|51=>95|9=>9|5=>5|0=>0|n=>n,fun|n=>n⟩
def Tryz.lays285:a8 À Tryz.lays285_ren:={
 mixed:=fK
 f285:=Tryz.func189.trans<|congrArg Â fK
 t0:=Ů
 a0:=aG
 z0:=ρ
 v0:=Ż
 t3:=õ
 a3:=Ĺ
 z3:=Ĳ
 v3:=ė
 t4:=Ď
 a4:=ĺ
 z4:=ĳ
 v4:=Ę
 t5:=ď
 a5:=aH
 z5:=ς
 v5:=ż
 t9:=Ą
 a9:=Ļ
 z9:=Ĵ
 v9:=ę
 t37:=ć
 a37:=Tryz.isAgg107
 z37:=Tryz.sizeOf107
 v37:=Tryz.zeroValue107
 t51:=ŝ
 a51:=σ
 z51:=Ω
 v51:=ů
 t53:=ý
 a53:=ś
 z53:=Ŋ
 v53:=ĩ}
open Go.RowKit Go.Sort Go.Lib in
def Tryz.internal_strconv_formatBase10(a c f:Nat)(u:Nat)(d:Array UInt8)(w:Ë)(h:Holds (λ(b:UInt8)=>Ç Ň (b.toNat:Int)) w a c d)(i:u<10^d.size)(j:u<18446744073709551616)(k:d.size<4611686018427387904):
 Ò À 189 #[Æ (Â ⟨a,c,Ã⟩) d.size f,Ç Ð u] w λe l=>
  e=È (Ý #[])/\∃(n m:Nat) (g:Array UInt8),l=(Θ (λ(b:UInt8)=>Ç Ň (b.toNat:Int)) w a c g).drewN n/\FmtInv d.size u 0 m g:=Any.internal_strconv_formatBase10 Tryz.lays285 a c f u d w h i j k
def Tryz.lays99_ren:ĝ:=⟨fun|99=>175|206=>194|n=>n,fun|9=>9|4=>4|3=>3|n=>n,fun|n=>n⟩
def Tryz.lays99:bj À Tryz.lays99_ren:={
 mixed:=fK
 f99:=Tryz.func175.trans<|congrArg Â fK
 f206:=Tryz.func194.trans<|congrArg Â fK
 t3:=õ
 a3:=Ĺ
 z3:=Ĳ
 v3:=ė
 t4:=Ď
 a4:=ĺ
 z4:=ĳ
 v4:=Ę
 t9:=Ą
 a9:=Ļ
 z9:=Ĵ
 v9:=ę}
open Go.RowKit Go.Lib in
def Tryz.strings_HasPrefix(s p:ByteArray)(w:Ë):
 Ò À 175 #[Å s,Å p] w λe a=>e=È (á<|ŋ s.data.toList p.data.toList)/\a=w:=Any.strings_HasPrefix Tryz.lays99 s p w
def Tryz.lays212_ren:ĝ:=⟨fun|212=>174|263=>192|264=>193|n=>n,fun|46=>168|51=>95|146=>285|53=>36|148=>287|n=>n,fun|n=>n⟩
def Tryz.lays212:bg À Tryz.lays212_ren:={
 mixed:=fK
 f212:=Tryz.func174.trans<|congrArg Â fK
 f263:=Tryz.func192.trans<|congrArg Â fK
 f264:=Tryz.func193.trans<|congrArg Â fK
 t46:=ő
 a46:=Χ
 z46:=Η
 v46:=Ś
 t51:=ŝ
 a51:=σ
 z51:=Ω
 v51:=ů
 t53:=ý
 a53:=ś
 z53:=Ŋ
 v53:=ĩ
 t146:=Tryz.underlying285
 a146:=Tryz.isAgg285
 z146:=Tryz.sizeOf285
 v146:=Tryz.zeroValue285
 t148:=Tryz.underlying287
 a148:=Tryz.isAgg287
 z148:=Tryz.sizeOf287
 v148:=Tryz.zeroValue287}
open Go.RowKit Go.Lib in
def Tryz.bits_Mul(x y:Nat)(a:x<18446744073709551616)(b:y<18446744073709551616)(w:Ë):
 Ò À 174 #[Ç Ð x,Ç Ð y] w λe c=>e=È (Ý #[Ç Ð ((x*y/18446744073709551616:Nat):Int),Ç Ð ((x*y%18446744073709551616:Nat):Int)])/\c=w:=Any.bits_Mul Tryz.lays212 x y a b w
end Go.Proofs
namespace Go.Proofs.Y
namespace gT
open RowKit Go.Sort Lift
def BB:UInt8->Î:=λb=>Ç Ň (b.toNat:Int)
def pV(w:Ë):Prop:=Ī À w "internal/strconv.uint64pow10" Ð Ŝ
def anP(a:lb w)(b:Nat)(f:Array Î->Array Î):lb (ī w b f):=by
 intro i o h;unfold ī at h;simp only[fh]at h;split at h;cases d:w.heap[i]? with
 |none=>rw[d]at h;cases h
 |some e=>
  have:=a _ _ d;rw[d]at h;cases e with|cells c t z=>simp only[dT,dI]at h;subst h;exact λx=>x|_=>exact absurd trivial this
 .exact a i o h
def anQ(a:tU m w)(b:Nat)(f:Array Î->Array Î)(j:NF b w):tU m (ī w b f):=by
 intro i c T k l h g;unfold ī at h;simp only[fh]at h;split at h;rename_i e;subst e;cases d:w.heap[b]? with
 |none=>rw[d]at h;cases h
 |some n=>
  rw[d]at h;cases n with
  |cells o t z=>
   simp only[dT,dI,onCells,Obj.cells.injEq]at h;have:=j _ _ _ d;rw[h.2.1,g]at this;cases this
  |_=>simp only[dT,dI,onCells]at h;cases h
 .exact a i c T k l h g
def fw.fR(w:World)(T:TypeId)(cs:Array Value)(off:Nat)(d:Array UInt8)(n:Nat)(hT:mq T=false:=by decide):fw fB w ((putRow BB (w.alloc<|.cells cs T) w.heap.size off d).drewN n):=⟨by simp[Θ,ī,World.drewN],λk hk _=>by show(ī (w.alloc<|Ô cs T) w.heap.size _).heap[k]?=_;simp only[ī,fh];rw[if_neg Z];exact Ĭ _ _ _ hk,λa=>anP (IX a cs T (0,0)) _ _,λ_ a=>anQ (IY a cs T (0,0)<|É hT) _ _<|fy.S (fy.N w cs.toList T) hT⟩
def anR(w:Ë)(T:ð)(a:Nat)(c:a<=24):Holds BB (w.alloc<|Ô ē T) w.heap.size 0 (Ě a (0:UInt8)):=λj b=>by have d:j<a:=fN b;refine⟨?_,World.frozen?_alloc_new _ _ _ _⟩;rw[World.cell?_alloc_new,Lib.zeros24_at _ Z,getElem!_pos _ j b];simp[BB]
def gP(u:Nat):ByteArray:=⟨(đ u).toArray⟩
def anS(u:Nat)(h:u<100)(w:Ë):Ò À 172 #[Ç Ð u,Ç Ê 10] w λe a=>e=È (Å<|gP u)/\a=w:=by go_enter Ş,Ō;go_wp2_with (go_at_call 187;refine iT (Tryz.internal_strconv_small u h _) ?_);go_ret;exact⟨U,U⟩
def anT(u:Nat)(h:¬u<100)(b:u<18446744073709551616)(w:Ë)(m:pV w):Ò À 172 #[Ç Ð u,Ç Ê 10] w λe c=>e=È (Å<|gP u)/\fw fB w c:=by
 have g:1<=u:=Z;have o:Ā u<=20:=by have:=Lib.numDigits_eq u g b;split at this<;>omega
 have n:À.arrayLen 276=24:=fK;have p:∀W,(Instr.sliceAt 276 (Ä<|Â ⟨w.heap.size,0,Ã⟩) Ã (Â<|Ç Ê (Ā u:Int)) Ã).run À W=bh (Æ (Â ⟨w.heap.size,0,Ã⟩) (Ā u) 24) W:=λW=>by rw[run_sliceAt_array_h W 276 ⟨w.heap.size,0,Ã⟩ (by simp[Program.arrayLen,Program.elem,Tryz.type276]) Ê (Ā u:Int) Z (by rw[n];omega)];go_simp
 have i:=anR w 276 (Ā u) Z;have l:=Tryz.internal_strconv_formatBase10 w.heap.size 0 24 u (Ě (Ā u) 0) (w.alloc<|Ô ē 276) i (by rw[ā];exact Lib.lt_pow_nDigits u) b (by rw[ā];omega);rw[ā]at l;go_enter Ş,Ō;go_wp2_with (go_at_call 188;refine iT (Tryz.internal_strconv_numDigits u g b _<|Lib.tabIs_alloc m _) ?_);go_at_call 189;refine gl l λc ⟨k,q,a,d,hF⟩=> ?_;replace d:c=(Θ BB (w.alloc<|Ô ē 276) w.heap.size 0 a).drewN k:=d;subst d;have r:(convert 107 9<|Æ (Â ⟨w.heap.size,0,Ã⟩) (Ā u) 24).run À ((Θ BB (w.alloc<|Ô ē 276) w.heap.size 0 a).drewN k)=bh (Å<|gP u) ((Θ BB (w.alloc<|Ô ē 276) w.heap.size 0 a).drewN k):=by have h:=ĵ (P:=À) ((Θ BB (w.alloc<|Ô ē 276) w.heap.size 0 a).drewN k) 107 9 5 ⟨w.heap.size,0,Ã⟩ 24 (đ u) fK fK fK (λj f=>by rw[Lib.row_is_numeral hF j f,Lib.add_plain,World.cell?_drewN];exact cell?_putRow BB _ w.heap.size 0 _ a (Lib.hid i).out (by rw[hF.size,ā]) j<|by rw[hF.size];rwa[Ĕ]at f);rwa[Ĕ]at h
 go_wp2;go_ret;exact⟨U,fw.fR w 276 _ _ a k⟩
def anU(u:Nat)(d:u<18446744073709551616)(w:Ë)(f:pV w):Ò À 172 #[Ç Ð u,Ç Ê 10] w λe c=>e=È (Å<|gP u)/\fw fB w c:=by by_cases h:u<100;exact(anS u h w).mono λe c ⟨a,b⟩=>⟨a,b▸fw.gy _ _⟩;exact anT u h d w f
def anV(u:Nat)(b:u<18446744073709551616)(w:Ë)(c:pV w):Ò À 157 #[Ç Ð u,Ç Ê 10] w λe a=>e=È (Å<|gP u)/\fw fB w a:=by go_enter υ,δ;go_wp2_with (go_at_call 172;refine gl (anU u b _ c) λa d=> ?_);go_ret;exact⟨U,d⟩
def zC(u:Nat)(b:u<18446744073709551616)(w:Ë)(c:pV w):Ò À 118 #[Ç Ð u] w λe a=>e=È (Å<|gP u)/\fw fB w a:=by go_enter Tryz.func118,Tryz.ntmps118;go_wp2_with (go_at_call 157;refine gl (anV u b _ c) λa d=> ?_);go_ret;exact⟨U,d⟩
def TL(B:Nat):jZ:=⟨B,144,[]⟩
def anW(B:Nat):(TL B).Ok:=⟨show(144:Nat)≠36 by decide,show(144:Nat)≠257 by decide,show(144:Nat)≠282 by decide,show(144:Nat)≠300 by decide,show(144:Nat)≠252 by decide,show(144:Nat)≠246 by decide⟩
def aap{s:St}(l:qH n s h w)(z:ic s)(B:lk w)(x y:Nat)(g k:Int)(T:x<8)(V:y<8)(Y:0<=g)(ry:g<=100000)(hk:gL k)(r:mV)(D:r=gR s [] x y g k): Ò À 158 #[Ä<|Â ⟨n,0,Ã⟩,Ç Ê x,Ç Ê y,Ç Ð g,Ç Ð k] w λe f=>
  ∃lv,e=È (Ý #[ŭ #[Ç Ð r.r,á r.C,Ç Ð r.M],lv])/\f.ownsRow 0 257 2 lv r.I.length (jf r.I)/\fw fB w f:=by
 let⟨dd,E,F⟩:=Ø.1 Tv;have G:(À.info? 140).map (·.size)=Â (iU s).length:=by rw[tX];exact T_
 let⟨i0,z0,I,J,K,L⟩:=FJ J_;have m:=Tm s (lv:=Æ Ã 0 0) U;rw[Bt]at m;have o:(iU s++[Æ Ã 0 0]).length=145:=by rw[Ñ,tX];rfl
 have M:=fw.gO fB w #[Ç Ð 0,á Ó,Ç Ð 0] 252;have N:=(l.r M id).C;have iu:=ĭ w _ l.h;have C:∀W,jj (w.heap.size+1) 144 [] s (Æ Ã 0 0) W->lk W->Ò À 173 #[Ä<|Â ⟨w.heap.size+1,0,Ã⟩,Ç Ê x,Ç Ê y,Ç Ð g,Ç Ð k,Ç Ê 1] W λe f=>e=È (ŭ #[Ç Ð r.r,á r.C,Ç Ð r.M])/\∃pS,iY (TL<|w.heap.size+1) (Æ Ã 0 0) 0 W r.s r.I f pS:=λW hW hrW=>by rw[D];exact O_ (TL<|w.heap.size+1) (anW _) s _ [] x y g k W hW (ħ _ _ _ _) hrW z T V Y ry hk<|by simp;omega
 have a:=fv<|Á E<|Á F<|Á G<|Á N<|Á I<|Á K<|Á (J.trans o.symm)<|Á (L.trans o.symm) m;have H:=fv<|Á B C;clear E F G I J K L m o N l C B z M D;go_enter Tryz.func158,Tryz.ntmps158;go_wp2_with (first|(with_reducible refine wpList_load_mid U 140 _ U n 0 U (iU s) dd a.oQ.2.2.2.1 a.oQ.1 a.oQ.2.1 a.oQ.2.2.1 ?_)|(with_reducible refine à U (Â 19) U _ _ (Tt U U<|tX s) ?_)|(with_reducible refine Ti U U 144 U 12 U _ _ U U a.oQ.2.2.2.2.1 a.oQ.2.2.2.2.2.1 (iU s++[Æ Ã 0 0]) a.oQ.2.2.2.2.2.2.1 a.oQ.2.2.2.2.2.2.2.1 U U a.oQ.2.2.2.2.2.2.2.2 ?_;intro t Dy O se))
 have Bd:t.heap.size=w.heap.size+1+1:=fN se;have P:jj (w.heap.size+1) 144 [] s (Æ Ã 0 0) t:=by rw[jj,ep,Bt];simpa using Dy
 have Q:=(fw.gO _ _ _ _).fA O;have xu:=(fy.N w [Ç Ð 0,á Ó,Ç Ð 0] 252).C O id;go_at_call 173;refine gl (H.2 t P<|H.1.r Q id) λu ⟨lv,d⟩=> ?_;have b:=xu.C d.C (λq=>q.elim (λq=>absurd q<|by show w.heap.size≠w.heap.size+1;omega) λq=>by cases q);have rV:=d.C.M;have zD:u.cell? ⟨w.heap.size+1,144,Ã⟩=Â lv:=d.r.nK Z;obtain⟨la,lc,rfl⟩:=ji d.I;have l0:=b.M;have y0:=b.I 0;have y1:=b.I 1;have y2:=b.I 2;have c0:=b.r 0 _ U;have c1:=b.r 1 _ U;have c2:=b.r 2 _ U;have Jb:w.heap.size+1<u.heap.size:=Z;have c:=fv<|Á d<|Á b<|Á Q P;go_wp2;go_region;go_wp2_with fail;let⟨d2,rv,wx⟩:=Ø.1 Tn;have S:=((fw.I (X:=λk=>k=w.heap.size) (w:=u) (p:=⟨w.heap.size,0,Ã⟩) U<|Ç Ð r.r).fA<|fw.I (X:=λk=>k=w.heap.size) (p:=⟨w.heap.size,1,Ã⟩) U<|á r.C).fA (fw.I (X:=λk=>k=w.heap.size) (p:=⟨w.heap.size,2,Ã⟩) U<|Ç Ð r.M);have v:=λW=>(fw.gO fB W #[Ç Ð r.r,á r.C,Ç Ð r.M] 252).fA<|fw.gM _ _;apply ì (DC U U (fy.Y (vs:=[Ç Ð r.r,á r.C,Ç Ð r.M])<|(((c.2.1.fR 0<|Ç Ð r.r).fR 1<|á r.C).fR 2<|Ç Ð r.M).C (v _) id) rv wx To) U;refine⟨_,U,gZ (gZ c.1.I S λj hj y=> ?_) (v _) λ_ _=>id,?_⟩;let⟨j,i⟩:=lM c.1.I hj;rw[y,c.oQ.2.1]at i;cases i;refine((c.2.2.1.C c.1.C λi j q=> ?_).C S λi j q=> ?_).fA<|v _;obtain q|q:=q;exact absurd q (by show i≠w.heap.size+1;omega);cases q;omega
def ua(s:St)(x y:Nat)(k:Int):Nat->Nat->ByteArray|_,0=>⟨#[45]⟩|i,n+1=>if(gR s [] x y i k).C then gP i else ua s x y k (i+1) n
theorem pV.r(h:pV w)(q:fw fB w u):pV u:=by
 unfold pV Ī Ķ at*;cases a:À.globalNamed "internal/strconv.uint64pow10" with
 |none=>rw[a]at h;cases h
 |some g=>
  rw[a]at h;simp only[ef]at h|-;have b:g<w.heap.size:=by grind
  rwa[q.N g b id]
def anX{s:St}(t:qH n s h w)(u:ic s)(v:lk w)(z:pV w)(J:b<8)(K:m<8)(L:gL c): Ò À 120 #[Ä<|Â ⟨n,0,Ã⟩,Ç Ê b,Ç Ê m,Ç Ð c] w λe M=>e=È (Å<|ua s b m c 0 401)/\fw fB w M:=by
 generalize B:ua s b m c 0 401=r;have l:=fv<|Á t<|Á v<|Á z u;clear t v z u;go_enter Tryz.func120,Tryz.ntmps120;go_wp2;go_loopw [12] (λi wr=>∃j:Nat,j<=401/\fw fB w wr/\ua s b m c j (401-j)=r/\i=Ç Ð j) λi _=>401-(Þ i).toNat
 case atStart=>exact⟨0,eD _,fw.gy _ _,B,U⟩
 case round=>
  obtain⟨j,V,d,f,rfl⟩:=hrel;clear B;by_cases N:j<401
  .rw[show 401-j=(401-(j+1))+1 by omega,ua]at f;have T:=aap (l.1.r d id) l.2.2.2 (l.2.1.r d id) b m j c J K Z Z L _ U;obtain⟨C,q,D,E,F,G⟩:∃C q D E F,gR s [] b m j c=⟨C,q,D,E,F⟩:=⟨_,_,_,_,_,U⟩;rw[G]at T f;have H:=fv<|Á T<|Á d f;clear T d f G;cases q with
   |true=>
    go_wp2_with (first|(go_at_call 158;apply H.1.mono;rintro e o ⟨O,rfl,a,g⟩;obtain⟨P,Q,rfl⟩:=ji a;have p:=fv<|Á g a;clear g a)|(go_at_call 118;refine gl (zC j Z _ ((l.2.2.1.r H.2.1).r (p.1.fA (fw.gO fB o _ _)))) λW I=> ?_;have S:=fv I;clear I))
    go_ret;exact⟨by rw[<-H.oQ.2.2];rfl,H.2.1.fA<|(p.1.fA<|fw.gO fB o _ _).fA S⟩|false=>
    go_wp2_with (first|(go_at_call 158;apply H.1.mono;rintro e o ⟨O,rfl,a,g⟩;obtain⟨P,Q,rfl⟩:=ji a;have p:=fv (Á g a);clear g a))
    exact⟨⟨j+1,N,H.2.1.fA<|p.1.fA<|fw.gO fB o _ _,H.2.2,by go_num⟩,by simp[Þ];omega⟩
  .obtain rfl:j=401:=Z;subst f;go_wp2;go_ret;exact⟨U,d⟩
def Na:(À.info? 9).map iF=Â (Â<|Å ⟨#[]⟩,1,16):=fK
def ov(a:List ByteArray):List Î:=a.map Å
structure kD(w0:Ë)(tv:Î)(xs:List ByteArray)(w:Ë):Prop where
 fE:w.ownsRow w0.heap.size 9 1 tv xs.length (ov xs)
 r:fw fB w0 w
section
variable{w0:Ë}{tv:Î}{xs:List ByteArray}
def kD.N(w0:Ë){w:Ë}(k:fw fB w0 w):kD w0 (Æ Ã 0 0) [] w:=⟨ħ _ _ _ _,k⟩
def kD.fH(h:kD w0 tv xs w)(k:fw fB w u):kD w0 tv xs u:=⟨gZ h.fE k λ_ _=>id,h.r.fA k⟩
def kD.M(h:kD w0 tv xs w)(a:nT w w0.heap.size 9 1 tv xs.length (ov xs) 1 [Å B] v u):kD w0 v (xs++[B]) u:=by refine⟨?_,h.r.C a.r λi b q=> ?_⟩;have:=a.fE;rwa[show ov xs++[Å B]=ov (xs++[B]) by simp[ov],show xs.length+1=(xs++[B]).length by simp]at this;have:=(h.fE.lt i q).1;omega
end
theorem pw(u:Nat)(h:u<18446744073709551616):(gP u).size<=20:=by have:=Lib.nDigits_le20 u h;unfold gP;show(đ u).toArray.size<=20;grind [Ĕ]
def rA(p:Option ø)(a:List Î)(w:Ë):Prop:=∀(j:Nat)(x:Î),a[j]?=Â x->∃b o,p=Â ⟨b,o,Ã⟩/\w.cell? ⟨b,o+j,Ã⟩=Â x
def rA.C(h:rA O l w)(q:fw fB w u):rA O l u:=λj x a=>by let⟨b,o,c,d⟩:=h j x a;exact⟨b,o,c,q.r d id⟩
def rA.r{base:Nat}(h:w.ownsRow base e i (Æ O n j) n l):rA O l w:=λb x d=>by obtain⟨f,k⟩|⟨g,m,o,f,_⟩:=h.2;have:=h.1;rw[k,bR]at this;rw[Ù this]at d;cases d;cases f;refine⟨g,0,U,?_⟩;have:=h.cells (g:=g) U b x d;rwa[Addr.add_mid]at this
def BD(f g:gX->Î):∀(l:List gX)(j:Nat)(x:gX),l[j]?=Â x->(l.flatMap λp=>[f p,g p])[j*2]?=Â (f x)/\(l.flatMap λp=>[f p,g p])[j*2+1]?=Â (g x)
 |[],j,x,h=>by cases h
 |a::l,0,x,h=>by cases h;exact⟨U,U⟩
 |a::l,j+1,x,h=>by rw[show(j+1)*2=j*2+1+1 by omega];exact BD f g l j x h
def mr(y:Nat):ByteArray:=þ ⟨#[97,98,99,100,101,102,103,104]⟩ y<|y+1
def kL(e:Nat×Int):ByteArray:=mr e.1++gP e.2.toNat
def aaq{cp:Nat}(S:n=gJ.length)(hn:n<=400000)(v:x7 gJ)(B:pV w)(C:rA O (jf gJ) w): Ò À 124 #[Æ O n cp] w λe d=>∃f,e=È f/\kD w f (gJ.map kL) d:=by
 have H:=fv<|Á v<|Á B C;clear v B C;subst S;go_enter Tryz.func124,Tryz.ntmps124;go_wp2;go_loopw [3,8] (λf i wr=>∃j:Nat,j<=gJ.length/\kD w f ((gJ.take j).map kL) wr/\i=Ç Ê j) λ_ i _=>gJ.length-(Þ i).toNat
 case atStart=>exact⟨0,eD _,kD.N w<|fw.gy _ _,U⟩
 case round=>
  obtain⟨j,hj,a,rfl⟩:=hrel;by_cases D:j=gJ.length
  .subst D;have g:=fv a;clear a;go_wp2;go_ret;exact⟨_,U,by have:=g.oQ;rwa[eG Z]at this⟩
  .obtain⟨x,b⟩:∃x,gJ[j]?=Â x:=⟨_,fe Z⟩;obtain⟨E,F,rfl,G⟩:=H.2.2 (j*2) _ (BD _ _ gJ j x b).1;let⟨sb2,so2,T,I⟩:=H.2.2 (j*2+1) _ (BD _ _ gJ j x b).2;cases T;have k:=H.1 x<|eU b;have V:j<gJ.length:=Z
   have J:kL x=mr x.1++gP x.2.toNat:=U;have W:(gJ.take<|j+1).map kL=(gJ.take j).map kL++[kL x]:=by rw[cD,b,bW];rfl
   have EY:((gJ.take j).map kL).length<=400000:=by simp;omega
   let⟨y,z⟩:=x;obtain⟨p,rfl⟩:∃p:Nat,z=p:=⟨z.toNat,by have:=k.2.1;omega⟩;have hy:y<8:=k.1;have L:p<18446744073709551616:=by have:=k.2.2;omega
   rw[show((p:Nat):Int).toNat=p from rfl]at J;have xt:wr.cell? ⟨E,F+j*2,Ã⟩=Â (Ç Ê y):=a.r.r G id;have zE:wr.cell? ⟨E,F+j*2+1,Ã⟩=Â (Ç Ð p):=a.r.r I id;generalize(gJ.take j).map kL=xs at*;clear G I b k D;have e0:(0:Int)<=(j:Int):=Z;have e1:(j:Int)<(gJ.length:Int):=Z;have y0:(0:Int)<=(y:Int):=Z;have y1:(y:Int)<8:=Z;have jV:=pw p L;have rj:Ê.wrap ((y:Int)+1)=(y:Int)+1:=by rw[í];omega
   have hw0:(0:Int)<=(y:Int)+1:=Z;have FQ:(y:Int)+1<=8:=Z;have Dw:(y:Int)<=(y:Int)+1:=Z;have TM:((y:Int)+1).toNat=y+1:=Z;have hw4:¬9223372036854775807<min (y+1) 8-y+(gP p).size:=Z;obtain⟨ta,tc,rfl⟩:=ji a.fE;have g:=fv a;clear a;go_wp2_with fail;change Code.wp À _ _ _ (wr.alloc<|Ô #[Ç Ê y,Ç Ð p] 257);have M:=fw.gO fB wr #[Ç Ê y,Ç Ð p] 257;have X:=(g.fH M).fH<|fw.gM _ _;have Y:=((H.2.1.r g.r).r M).r<|fw.gM _ _;have s:=(fy.N wr [Ç Ê y,Ç Ð p] 257).C (fw.gM fB _) id;let⟨i0,pe,mY,Bu,Bv⟩:=Ĉ Na;have m:=fv<|Á pe<|Á mY<|Á Bu Bv;refine mH (λd=>d.cell? ⟨wr.heap.size,0,Ã⟩=Â (Ç Ê y)/\d.cell? ⟨wr.heap.size,1,Ã⟩=Â (Ç Ð p)) [] fK ?_;generalize wr.heap.size=ub at*;generalize œ (wr.alloc<|Ô #[Ç Ê y,Ç Ð p] 257)=w1 at*;iterate 9 apply tk (fv<|Á (s.r 0 _ rfl)<|s.r 1 _ rfl).oQ
   refine nL 9 ?_;refine nU (zC p L _ Y) λw2 N=> ?_;have T2:=X.fH N;have c:=s.C N id;refine⟨λ_=>⟨c.r 0 _ U,c.r 1 _ U⟩,?_⟩;refine jM 10 (λ_=>⟨c.r 0 _ U,c.r 1 _ U⟩) ?_;have P:=fw.gO fB w2 #[Å<|mr y++gP p] 9;have o:=T2.fH P;have q:=c.C P id;refine jM 11 (λ_=>⟨q.r 0 _ U,q.r 1 _ U⟩) ?_;apply nk 12;intro K hK;refine FE gq _ _ 25 gq ñ m.1 m.2.1 m.2.2.1 m.2.2.2 U gq o.fE ⟨_,0,Ã⟩ [Å<|mr y++gP p] gq Z U (ã _ _ _) (λu Q=>by simp at Q;subst Q;rfl) (by unfold ó;omega) Z o.r.M ?_;intro tv1 w9 t;obtain⟨a2,X',rfl⟩:=ji t.fE;have r:=q.C t.r<|iE o.fE q A;apply hK.out _ _ λ_=>⟨r.r 0 _ U,r.r 1 _ U⟩;refine jM 13 (λ_=>⟨r.r 0 _ U,r.r 1 _ U⟩) ?_;refine lZ ?_;go_wp2;go_roundw
   case rel=>exact⟨j+1,V,by rw[W,J];exact o.M t,by go_num⟩
   case measure=>
    simp[Þ];omega
def aar(b:Bool):uU b=((b.toNat:Nat):Int):=by cases b<;>rfl
def mZ(e:Int×Bool):ByteArray:=gP e.2.toNat++⟨#[58]⟩++gP e.1.toNat
def anY{cp:Nat}(hl:n=bJ.length)(hn:n<=1000)(D:BA bJ)(E:pV w)(F:rA O (x8 bJ) w): Ò À 125 #[Æ O n cp] w λe f=>∃g,e=È g/\kD w g (bJ.map mZ) f:=by
 have H:=fv<|Á D<|Á E F;clear D E F;subst hl;go_enter Tryz.func125,Tryz.ntmps125;go_wp2;go_loopw [3,8] (λg i wr=>∃j:Nat,j<=bJ.length/\kD w g ((bJ.take j).map mZ) wr/\i=Ç Ê j) λ_ i _=>bJ.length-(Þ i).toNat
 case atStart=>exact⟨0,eD _,kD.N w<|fw.gy _ _,U⟩
 case round=>
  obtain⟨j,hj,a,rfl⟩:=hrel;by_cases G:j=bJ.length
  .subst G;have k:=fv a;clear a;go_wp2;go_ret;exact⟨_,U,by have:=k.oQ;rwa[eG Z]at this⟩
  .obtain⟨x,c⟩:∃x,bJ[j]?=Â x:=⟨_,fe Z⟩;obtain⟨I,J,rfl,L⟩:=H.2.2 (j*2) _ (BD _ _ bJ j x c).1;let⟨sb2,so2,anZ,M⟩:=H.2.2 (j*2+1) _ (BD _ _ bJ j x c).2;cases anZ;have t:=H.1 x<|eU c;have iu:j<bJ.length:=Z
   have htk:(bJ.take<|j+1).map mZ=(bJ.take j).map mZ++[mZ x]:=by rw[cD,c,bW];rfl
   have EY:((bJ.take j).map mZ).length<=1000:=by simp;omega
   let⟨z,b⟩:=x;obtain⟨p,rfl⟩:∃p:Nat,z=p:=⟨z.toNat,by have:=t.1;omega⟩;have N:p<18446744073709551616:=by have:=t.2;omega
   have xt:wr.cell? ⟨I,J+j*2,Ã⟩=Â (Ç Ð p):=a.r.r L id;have zE:wr.cell? ⟨I,J+j*2+1,Ã⟩=Â (á b):=a.r.r M id;generalize(bJ.take j).map mZ=xs at*;clear L M c t G;have jV:=pw p N;have P:b.toNat<18446744073709551616:=by cases b<;>decide
   have hsb:=pw b.toNat P;have hw4:¬9223372036854775807<(gP b.toNat).size+1:=Z;have Bb:¬9223372036854775807<(gP b.toNat).size+1+(gP p).size:=Z;obtain⟨ta,tc,rfl⟩:=ji a.fE;have k:=fv a;clear a;go_wp2_with fail;change Code.wp À _ _ _ (wr.alloc<|Ô #[Ç Ð p,á b] 246);have Q:=fw.gO fB wr #[Ç Ð p,á b] 246;have T1:=(k.fH Q).fH<|fw.gM _ _;have S:=((H.2.1.r k.r).r Q).r<|fw.gM _ _;have v:=(fy.N wr [Ç Ð p,á b] 246).C (fw.gM fB _) id;let⟨i0,pe,mY,Bu,Bv⟩:=Ĉ Na;have m:=fv<|Á pe<|Á mY<|Á Bu Bv;refine mH (λf=>f.cell? ⟨wr.heap.size,0,Ã⟩=Â (Ç Ð p)/\f.cell? ⟨wr.heap.size,1,Ã⟩=Â (á b)) [] fK ?_;have o:=fv<|Á (v.r 0 _ rfl)<|v.r 1 _ rfl;generalize wr.heap.size=ub at*;generalize œ (wr.alloc<|Ô #[Ç Ð p,á b] 246)=w1 at*;iterate 3 apply tk o
   apply tk o 6;apply tk o 7;refine nL 3 ?_;refine nU (I5 _ _) λT Dw=> ?_;subst T;rw[aar];refine⟨λ_=>o,?_⟩;refine nL 4 ?_;refine nU (zC b.toNat P _ S) λT y=> ?_;have T2:=T1.fH y;have B:=v.C y id;have V:=fv<|Á (B.r 0 _ rfl)<|B.r 1 _ rfl;refine⟨λ_=>V,?_⟩;apply tk V 5;refine nL 8 ?_;refine nU (zC p N _<|S.r y) λw3 W=> ?_;have d:=B.C W id;refine⟨λ_=>⟨d.r 0 _ U,d.r 1 _ U⟩,?_⟩;refine jM 9 (λ_=>⟨d.r 0 _ U,d.r 1 _ U⟩) ?_;have X:=fw.gO fB w3 #[Å<|gP b.toNat++⟨#[58]⟩++gP p] 9;have q:=(T2.fH W).fH X;have r:=d.C X id;refine jM 10 (λ_=>⟨r.r 0 _ U,r.r 1 _ U⟩) ?_;apply nk 11;intro K hK;refine FE gq _ _ 25 gq ñ m.1 m.2.1 m.2.2.1 m.2.2.2 U gq q.fE ⟨_,0,Ã⟩ [Å<|gP b.toNat++⟨#[58]⟩++gP p] gq Z U (ã _ _ _) (λu Y=>by simp at Y;subst Y;rfl) (by unfold ó;omega) Z q.r.M ?_;intro tv1 w9 C;obtain⟨a2,X',rfl⟩:=ji C.fE;have s:=r.C C.r<|iE q.fE r A;apply hK.out _ _ λ_=>⟨s.r 0 _ U,s.r 1 _ U⟩;refine jM 12 (λ_=>⟨s.r 0 _ U,s.r 1 _ U⟩) ?_;refine lZ ?_;go_wp2;go_roundw
   case rel=>exact⟨j+1,iu,by rw[htk];exact q.M C,by go_num⟩
   case measure=>
    simp[Þ];omega
def vd(j:Nat):ByteArray:=þ ⟨#[48,49,50,51,52,53,54,55,56,57,97,98,99,100,101,102]⟩ j<|j+1
def DJ(s t:St)(i j:Nat):List ByteArray:=if(s i).r j=(t i).r j then[]else[mr i++vd j]
def py(s t:St)(i j:Nat):List ByteArray:=(é j).flatMap<|DJ s t i
def ow(b a:Int)(p c:ByteArray)(i:Nat):List ByteArray:=(if b=a then[]else[mr i++⟨#[36]⟩])++(if p.toList=c.toList then[]else[mr i++⟨#[123]⟩])
def ya(s t:St)(i:Nat):List ByteArray:=ow (s i).fC (t i).fC (s i).C (t i).C i++py s t i 16
def ma(s t:St)(n:Nat):List ByteArray:=(é n).flatMap<|ya s t
def an0(s t:St)(i j:Nat):(DJ s t i j).length<=1:=by unfold DJ;split<;>simp
def Nb(s t:St)(i j:Nat):py s t i (j+1)=py s t i j++DJ s t i j:=by unfold py;rw[ķ,cM];simp
theorem Nc(s t:St)(i:Nat):∀j,(py s t i j).length<=j|0=>by simp[py]|j+1=>by rw[Nb,Ñ];have:=Nc s t i j;have:=an0 s t i j;omega
theorem Nf(b a:Int)(p c:ByteArray)(i:Nat):(ow b a p c i).length<=2:=by rw[ow,Ñ];split<;>split<;>simp
def aas(s t:St)(n:Nat):ma s t (n+1)=ma s t n++ya s t n:=by unfold ma;rw[ķ,cM];simp
def TN(s t:St):∀n,(ma s t n).length<=18*n|0=>by simp[ma]|n+1=>by rw[aas,Ñ];have:=TN s t n;rw[ya,Ñ];have:=Nc s t n 16;have:=Nf (s n).fC (t n).fC (s n).C (t n).C n;omega
def FV(i:Nat):(mr i).size<=1:=by rw[mr,ä];omega
def an1(i:Nat):(vd i).size<=1:=by rw[vd,ä];omega
def qH.iG{s:St}(c:qH n s h W)(a:i<8):W.cell? ⟨n,i*18,Ã⟩=Â (Ç Ð (s i).fC)/\W.cell? ⟨n,i*18+1,Ã⟩=Â (Å (s i).C)/\∀j,j<16->W.cell? ⟨n,i*18+2+j,Ã⟩=Â (Ç Ð<|(s i).r j):=by
 have g:∀j,j<144->W.cell? ⟨n,j,Ã⟩=Â (sf s j):=λj b=>by have:=c.C j _<|TD s b;simpa using this
 refine⟨?_,?_,λj b=> ?_⟩;rw[g _ Z,<-sU s (Æ Ã 0 0) Z,I4 _ _ a];rfl;rw[g _ Z,<-sU s (Æ Ã 0 0) Z,MH _ _ a];rw[g _ Z,<-sU s (Æ Ã 0 0) Z,MI _ _ a b];rfl
def TO{g:Array Ř}{a:aD}{y:ByteArray}{ad:ø}{x:ĸ}(b:kD W v vX w)(D:vX.length<=400000)(h:∀d m e f,kD W (Æ d m e) (vX++[y]) f->Ι À g vJ fX (a.put o.dst<|Æ d m e) f)(l:∀j u,[Å y][j]?=Â u->w.cell? (ad.add j)=Â u)(n:o.guard=Ã)(p:o.op=.call {callee:=.builtin Ŷ,args:=#[qQ,x],argTypes:=#[25,25]})(q:a.eval qQ=v)(r:a.eval x=Æ (Â ad) 1 i):Ι À g vJ (o::fX) a w:=by let⟨E,t,z,B,C⟩:=Ĉ Na;refine xS n qQ x 25 p ñ t z B C U q b.fE ad [Å y] r aI U l (λu k=>by simp at k;subst k;rfl) (by unfold ó;omega) Z b.r.M λF f k=> ?_;obtain⟨d,e,rfl⟩:=ji k.fE;exact h _ _ _ _<|b.M k
section
variable{s t:St}
def kD.I{w:Ë}{a:List ByteArray}(h:kD u v vX w)(e:vX=a)(k:fw fB w W):kD u v a W:=e▸h.fH k
def an2(H:qH n s h w)(I:qH j t c w): Ò À 126 #[Ä<|Â ⟨n,0,Ã⟩,Ä<|Â ⟨j,0,Ã⟩] w λe X=>∃g,e=È g/\kD w g (ma s t 8) X:=by
 have J:=fv<|Á H I;clear H I;go_enter Tryz.func126,Tryz.ntmps126;go_wp2;go_loopw [5,11] (λg i wr=>∃a:Nat,a<=8/\kD w g (ma s t a) wr/\i=Ç Ê a) λ_ i _=>8-(Þ i).toNat
 case atStart=>exact⟨0,eD _,kD.N w<|fw.gy _ _,U⟩
 case round=>
  obtain⟨a,hj,b,rfl⟩:=hrel;obtain⟨K,rfl⟩:∃K,K=wr:=⟨_,U⟩;by_cases C:a<8
  .let⟨L,D,M⟩:=J.1.iG C;let⟨N,E,O⟩:=J.2.iG C;have hl:=TN s t a;have c1:=b.r.r L id;have c2:=b.r.r N id;have c3:=b.r.r D id;have c4:=b.r.r E id;have e0:(0:Int)<=(a:Int):=Z
   have r:(a:Int)<8:=Z;have rj:Ê.wrap ((a:Int)+1)=(a:Int)+1:=by rw[í];omega
   have hw0:(0:Int)<=(a:Int)+1:=Z;have FQ:(a:Int)+1<=8:=Z;have Dw:(a:Int)<=(a:Int)+1:=Z;have TM:((a:Int)+1).toNat=a+1:=Z;have hw4:¬9223372036854775807<(mr a).size+1:=by have:=FV a;omega
   have awf:þ ⟨#[97,98,99,100,101,102,103,104]⟩ a (a+1)=mr a:=U;generalize P:(s a).fC=x1 at*;generalize Q:(t a).fC=x2 at*;generalize S:(s a).C=y1 at*;generalize T:(t a).C=y2 at*;have u:=fv (Á (show ma s t (a+1)=ma s t a++ow x1 x2 y1 y2 a++py s t a 16 by rw[aas,ya,P,Q,S,T,dL])<|Á (Á D E)<|Á M O);obtain⟨l,o,rfl⟩:=ji b.fE;have d:=fv b;clear P Q S T b L N D E M O;generalize Y:ma s t a=xs at*;clear Y;go_wp2;go_region;go_wp2;go_region;go_upto_if 34 with fail;go_cut [5] λv wc=>kD w v (xs++ow x1 x2 y1 y1 a) wc
   case first=>
    by_cases r:x1=x2
    .have d1:(x1==x2)=Í:=beq_iff_eq.2 r;go_wp2;go_meet
     case rel=>exact d.I (by simp[ow,r]) kp
    .have d1:(x1==x2)=Ó:=beq_eq_false_iff_ne.2 r;go_wp2_with (at_builtin;refine TO (y:=mr a++⟨#[36]⟩) (d.fH kp) Z ?_ (ã _ _ _) U U U U;intro l m o V b;have d:=fv b;clear b);go_meet
     case rel=>exact d.I (by simp[ow,r]) kp
   case rest=>
   obtain⟨l,o,rfl⟩:=ji hcut.fE;have W:=hcut.r.r u.2.1.1 id;have d4:=hcut.r.r u.2.1.2 id;have d:=fv hcut;clear hcut;go_wp2;go_region;go_upto_if 48 with fail;go_cut [5] λv wc=>kD w v (xs++ow x1 x2 y1 y2 a) wc
   case first=>
    by_cases p:y1.toList=y2.toList
    .have F:(y1.toList==y2.toList)=Í:=beq_iff_eq.2 p;have G:=fv p;clear p;simp only[F,bN,Κ];go_wp2;go_meet
     case rel=>exact d.I (by simp[ow,G.oQ]) kp
    .have F:(y1.toList==y2.toList)=Ó:=beq_eq_false_iff_ne.2 p;have G:=fv p;clear p;simp only[F,bN,Κ];go_wp2_with (at_builtin;refine TO (y:=mr a++⟨#[123]⟩) (d.fH kp) (by have:=Nf x1 x2 y1 y1 a;simp;omega) ?_ (ã _ _ _) U U U U;intro l m o V b;have d:=fv b;clear b);go_meet
     case rel=>exact d.I (by simp[ow,G.oQ]) kp
   case rest=>
   obtain⟨l,o,rfl⟩:=ji hcut.fE;have d:=fv hcut;clear hcut;go_wp2;go_loopw [5,54] (λg i wq=>∃k:Nat,k<=16/\kD w g (xs++ow x1 x2 y1 y2 a++py s t a k) wq/\i=Ç Ê k) λ_ i _=>16-(Þ i).toNat
   case atStart=>exact⟨0,eD _,d.I (by simp[py]) kp,U⟩
   case round=>
    obtain⟨k,hk,b,rfl⟩:=hrel;by_cases z:k<16
    .have s1:=b.r.r (u.2.2.1 k z) id;have s2:=b.r.r (u.2.2.2 k z) id;have f:=Nb s t a k;have q1:=Nc s t a k;have q2:=Nf x1 x2 y1 y2 a;have FW:(xs++ow x1 x2 y1 y2 a++py s t a k).length<=400000:=by simp;omega
     unfold DJ at f;generalize(s a).r k=z1 at*;generalize(t a).r k=z2 at*;have r0:(0:Int)<=k:=Z;have r6:(k:Int)<16:=Z;have r1:Ê.wrap ((k:Int)+1)=(k:Int)+1:=ğ _ ⟨Z,Z⟩;have r2:(k:Int)<=(k:Int)+1:=Z;have r3:(k:Int)+1<=16:=Z;have r4:(0:Int)<=(k:Int)+1:=Z;have r5:((k:Int)+1).toNat=k+1:=Z;have a3:¬9223372036854775807<(mr a).size+(min (k+1) 16-k):=by have:=FV a;omega
     obtain⟨l,o,rfl⟩:=ji b.fE;generalize B:xs++ow x1 x2 y1 y2 a++py s t a k=ys at*;have d:=fv b;by_cases q:z1=z2
     .rw[if_pos q,ep]at f;have W:(z1==z2)=Í:=beq_iff_eq.2 q;have x:=fv<|Á f B;clear f q b B;go_wp2;go_region;go_wp2;go_roundw
      case rel=>exact⟨k+1,z,by rw[x.oQ.1,x.oQ.2];exact d.fH kp,by go_num⟩
      case measure=>simp[Þ];omega
     rw[if_neg q]at f;have W:(z1==z2)=Ó:=beq_eq_false_iff_ne.2 q;have x:=fv<|Á f B;clear f q b B;go_wp2;go_region;go_wp2_with (at_builtin;refine TO (y:=mr a++vd k) (d.fH kp) FW ?_ (ã _ _ _) U U U U;intro l m o V b;have d:=fv b;clear b);go_roundw
     case rel=>exact⟨k+1,z,by rw[x.oQ.1,<-dL,x.oQ.2];exact d.fH kp,by go_num⟩
     case measure=>simp[Þ];omega
    .obtain rfl:k=16:=Z;have d:=fv b;clear b;go_wp2;go_roundw
     case rel=>exact⟨a+1,C,by rw[u.oQ.1];exact d.fH kp,by go_num⟩
     case measure=>simp[Þ];omega
  .obtain rfl:a=8:=Z;have d:=fv b;clear b;go_wp2;go_ret;exact⟨_,U,d⟩
end
def an3:(À.info? 5).map iF=Â (Â<|Ç Ň 0,1,1):=fK
theorem fw.Y(f:X p.block)(n:Nat):fw X w (w.freeze p n):=by
 by_cases b:n=0;rw[š,if_pos b];exact fw.gy _ _;rw[š,if_neg b];refine⟨fD,λk _ g=> ?_,λa i o h=> ?_,λ_ a=>by have:=P_ a p n;rwa[š,if_neg b]at this⟩;grind;simp only[fh]at h;split at h;cases d:w.heap[i]? with
 |none=>rw[d]at h;cases h
 |some e=>
  have:=a _ _ d;rw[d]at h;cases e with|cells c t z=>simp only[dT,dI]at h;subst h;exact λx=>x|_=>exact absurd trivial this
 .exact a i o h
def aat:(À.info? 109).map (·.size)=Â 2:=fK
def an4:liesAt À À.depth 109 (2/À.cellsOf 109) 0 109 1=Í:=fK
def an5(b:Nat)(w:Ë)(d:w.cell? ⟨b,0,Ã⟩=Â (Ä<|Â ⟨b,0,Ã⟩)):Ò À 78 #[Ä<|Â ⟨b,0,Ã⟩] w λe a=>e=È (Ý #[])/\a=w:=by let⟨j,c,_⟩:=Ø.1 aat;go_enter aJ,φ;go_wp2;rw[Lib.run_neq_ptr_same w _ Ġ c];go_wp2;go_end0;exact⟨U,U⟩
def an6(b:Nat)(w:Ë)(g:w.cell? ⟨b,0,Ã⟩=Â (Ä Ã))(a:w.shape? b=Â (109,2))(h:w.frozen? ⟨b,0,Ã⟩=Ó):Ò À 78 #[Ä<|Â ⟨b,0,Ã⟩] w λe d=>e=È (Ý #[])/\d=w.setCell ⟨b,0,Ã⟩ (Ä<|Â ⟨b,0,Ã⟩):=by let⟨j,c,f⟩:=Ø.1 aat;go_enter aJ,φ;go_wp2;rw[Lib.run_to_unsafe w ⟨b,0,Ã⟩ Ġ Ŕ c (by rw[f];decide) a<|Nat.zero_lt_succ 1];simp only[č];rw[ě];go_wp2;rw[Ĝ Tryz.func129 fK fK fK fK];rw[Lib.run_noEscape];simp only[č];rw[ě];go_wp2;rw[Lib.run_from_unsafe w ⟨b,0,Ã⟩ Ŕ Ġ c a an4];simp only[č];rw[ě];go_wp2;go_end0;exact⟨U,U⟩
theorem aau{base:Nat}{u h:ð}(j:P.underlying t=Â (.slice e))(k:P.underlying u=Â .string)(p:P.info? e=Â zJ)(G:zJ.zero=Â (Ç Ň 0))(D:zJ.size=1)(H:zJ.bytes=1)(E:w.ownsRow base e 1 v n l)(s:ByteArray)(J:n+s.size<=ó)(Q:n+s.size<=140737488355328)(r:(û #[t,u] h #[v,Å s]).run P w=bh z W)(I:mq e=Ó):(lb w->lb W)/\(∀m,tU m w->tU m W):=by
 have S:n+s.size<=9223372036854775807:=by simp only[ó]at J;omega
 have K:l.length=n:=fN E.1;obtain⟨rfl,rfl⟩|⟨g,y,B,rfl,V,F,X,Y,L,htake⟩:=E.2;by_cases C:s.size=0;have a:=Lib.run_firstCells_string (P:=P) w 1 s;rw[C]at a;simp[û,ġ j,ġ k,bH,aK,p,D,ō,C,a]at r;grind;have b:=run_append_nil_string w t u h e zJ (Ç Ň 0) j k p G s Z Z (by rw[H];omega);rw[r]at b;cases b;exact⟨λa=>IX a _ _ _,λ_ a=>IY a _ _ _<|É I⟩;by_cases M:n+s.size<=y;have awg:B.size=y:=fN L;have b:=Lib.run_append_room_string w t u h e zJ j k p D g n y B F s M Z;rw[r]at b;cases b;refine⟨λa q o d=> ?_,λm a q c T N C d O=> ?_⟩;by_cases f:q=g;subst f;rw[ŷ w q B _ e _ F]at d;cases d;exact λx=>x;rw[Ţ w g q _ f]at d;exact a q o d;by_cases f:q=g;subst f;rw[ŷ w q B _ e _ F]at d;grind;rw[Ţ w g q _ f]at d;exact a q c T N C d O;have c:=E.cells U;have b:=Lib.run_append_grow_string w t u h e zJ (Ç Ň 0) j k p G ⟨g,0,Ã⟩ n y l (by rw[D];simpa using K) c s Z Z (by rw[H];exact Λ Z Z);rw[r]at b;cases b;exact⟨λa=>IX a _ _ _,λ_ a=>IY a _ _ _<|É I⟩
def an7{P:Program}{ops:Array Oper}{rest:List Oper}{o:Oper}{a:Act}{Q:Exit->Act->World->Prop}{w:World}(I1:o.guard=none)(sl x:Operand)(t u:TypeId)(ho:o.op=.call {callee:=.builtin .append,args:=#[sl,x],argTypes:=#[t,u]}){base:Nat}{e:TypeId}{i:TypeInfo}(ht:P.underlying t=some (.slice e))(hu:P.underlying u=some .string)(hi:P.info? e=some i)(hz:i.zero=some (.int .u8 0))(hsize:i.size=1)(pN:i.bytes=1){v:Value}{n:Nat}{xs:List Value}(hs:a.eval sl=v)(zi:w.ownsRow base e 1 v n xs)(s:ByteArray)(hx:a.eval x=.string s)(Dt:n+s.size<=maxLen)(Du:n+s.size<=140737488355328)(Ds:base<=w.heap.size)(h:∀v' w',w'.ownsRow base e 1 v' (n+s.size) (xs++Lib.strCells s)->fw (λk=>v.ownBlock=some k) w w'->wpList P ops Q rest (a.put o.dst v') w')(hT:mq e=false:=by decide):wpList P ops Q (o::rest) a w:=by refine ţ I1 λK hK=> ?_;let⟨v',w',hr,h2,h3,_⟩:=Lib.run_append_own_string w base t u o.type e i ht hu hi hz hsize pN v n xs zi s Dt Du Ds;have kp:fw (λk=>v.ownBlock=Â k) w w':=⟨h3.size,λk hk q=>h3.block k hk λe=>q e.symm,(aau ht hu hi hz hsize pN zi s Dt Du hr hT).1,(aau ht hu hi hz hsize pN zi s Dt Du hr hT).2⟩;unfold Δ Ė;simp only[ho,ψ,bk,ω,Ť,ť,Ĩ,eJ,dR,dG,hs,hx,hr];exact hK _ _<|h v' w' h2 kp
structure ve(w0:Ë)(b:Nat)(bs:List Î)(w:Ë):Prop where
 I:w0.heap.size<=b
 r:fw fB w0 w
 C:∃v,fy b [Ä<|Â ⟨b,0,Ã⟩,v] 109 w/\w.ownsRow w0.heap.size 5 1 v bs.length bs
def ve.fH(h:ve u b l w)(k:fw fB w W):ve u b l W:=by let⟨v,a,c⟩:=h.C;exact⟨h.I,h.r.fA k,v,a.C k id,gZ c k λ_ _=>id⟩
theorem TP(h:ve u b l w)(s:ByteArray)(m:l.length+s.size<=140737488355328): Ò À 55 #[Ä<|Â ⟨b,0,Ã⟩,Å s] w λe i=>e=È (Ý #[Ç Ê s.size,.nilIface])/\ve u b (l++Ğ s) i:=by
 let⟨B,c,n,o,p⟩:=Ĉ an3;let⟨v,a,d⟩:=h.C;obtain⟨C,D,rfl⟩:=ji d;have t:=a.r 0 _ U;have E:=a.r 1 _ U;have x:=h.r.M;have y:=iE d a A;have H:=fv<|Á h<|Á c<|Á n<|Á o<|Á p<|Á a d;go_enter Tryz.func55,Tryz.ntmps55;go_wp2_with (first|(go_at_call 78;refine gl (an5 b _ t) λi e=> ?_;subst i)|(at_builtin;refine an7 U _ _ 107 9 U ć Ą H.2.1 H.2.2.1 H.2.2.2.1 H.2.2.2.2.1 U H.2.2.2.2.2.2 s U (by unfold ó;omega) m x ?_;intro g f j k;obtain⟨q,r,rfl⟩:=ji j;have i:=H.2.2.2.2.2.1.C k y;have z:=i.r 0 _ U;have F:=i.r 1 _ U;have G:=i.I 1;have e:=fv (Á k (Á i j));clear k i j))
 go_ret2;have z:=e.2.1.fR 1<|Æ q (l.length+s.size) r;have g:fw (λk=>k=b) f (f.setCell ⟨b,1,Ã⟩<|Æ q (l.length+s.size) r):=fw.I (X:=λk=>k=b) U _<|Ì e.2.1.S;refine⟨U,H.1.I,(H.1.r.C e.1 λi c q=> ?_).C g λi c q=> ?_,_,z,?_⟩;have:=(H.2.2.2.2.2.2.lt i q).1;omega;have:=H.1.I;omega;have:=gZ e.2.2 g λj q r=>iE e.2.2 e.2.1 A (by rw[q,r]);grind [Ñ,ň]
def an8:(À.info? 5).map (·.size)=Â 1:=fK
def an9:À.cellsOf 5=1:=fK
structure Jn(w0:Ë)(b:Nat)(p:Î)(w:Ë):Prop where
 C:w0.heap.size<=b
 I:fw fB w0 w
 r:fy b [p,Æ Ã 0 0] 109 w
section
variable{w0:Ë}{p:Î}
def Jn.aoa(h:Jn w0 b (Ä<|Â ⟨b,0,Ã⟩) w)(f:d.size<=ó):ve w0 b [] ((w.alloc<|Ô d 5).setCell ⟨b,1,Ã⟩<|Æ (Â ⟨w.heap.size,0,Ã⟩) 0 d.size).drew.drew.drew:=by have a:=fw.gO fB w d 5;have c:fw (λk=>k=b) (w.alloc<|Ô d 5) ((w.alloc<|Ô d 5).setCell ⟨b,1,Ã⟩<|Æ (Â ⟨w.heap.size,0,Ã⟩) 0 d.size):=fw.I (X:=λk=>k=b) U _<|Ì (h.r.C a id).S;have k:=(h.r.C a id).fR 1<|Æ (Â ⟨w.heap.size,0,Ã⟩) 0 d.size;have m:=h.r.M;have g:(w.alloc<|Ô d 5).ownsRow w0.heap.size 5 1 (Æ (Â ⟨w.heap.size,0,Ã⟩) 0 d.size) 0 []:=⟨U,Ì ⟨w.heap.size,d.size,d,U,h.I.M,ļ w _,eD _,f,fD,fD⟩⟩;have l:ve w0 b [] ((w.alloc<|Ô d 5).setCell ⟨b,1,Ã⟩<|Æ (Â ⟨w.heap.size,0,Ã⟩) 0 d.size):=⟨h.C,(h.I.fA a).C c λi n q=>by have:=h.C;omega,_,k,gZ g c λj q r=>by cases q;have e:w.heap.size=b:=r;omega⟩;exact((l.fH<|fw.gM _ _).fH<|fw.gM _ _).fH<|fw.gM _ _
theorem aob(h:Jn w0 b (Ä<|Â ⟨b,0,Ã⟩) w)(n:Nat)(j:n<=281474976710656): Ò À 79 #[Ä<|Â ⟨b,0,Ã⟩,Ç Ê n] w λe c=>e=È (Ý #[])/\ve w0 b [] c:=by
 let⟨a,g,o,k⟩:=Lib.run_makeNoZero w.drew #[3] 107 5 ć n j;have i:Ê.wrap (Ê.wrap 0+(n:Int))=n:=by grind [í]
 have p:(callFunc 130 #[Ç Ê<|Ê.wrap<|Ê.wrap 0+(n:Int)]).run À w.drew=bh (.value<|Æ (Â ⟨w.drew.heap.size,0,Ã⟩) n a.size) (w.drew.drew.drew.alloc<|Ô a 5):=by rw[i,Ĝ Tryz.func130 fK fK fK fK,g];rfl
 have e:=fv (Á (show w.drew.cell? ⟨b,1,Ã⟩=Â (Æ Ã 0 0)from h.r.r 1 _ rfl) trivial);have d:=h.r.C (fw.gO fB w a 5) id;have l:=d.r 1 _ U;have f:=l;have q:=d.I 1;have r:∀W:Ë,(Builtin.copy_ #[107,107] 3 #[Æ (Â ⟨w.heap.size,0,Ã⟩) 0 a.size,Æ Ã 0 0]).run À W=bh (goInt 0) W:=λW=>run_copy_none W 107 107 3 5 _ _ 0 a.size 0 0 ć an8 U;have m:=fv (h.aoa<|k<|by unfold ó;omega);clear i h d g;go_enter Tryz.func79,Tryz.ntmps79;go_wp2;refine mH (λc=>c.cell? ⟨b,1,Ã⟩=Â (Æ Ã 0 0)/\True) [] fK ?_;iterate 8 apply tk e
 apply tk e 9;apply tk e 10;apply tk e 11;apply tk e 12;apply tk e 13;refine nk 8 ?_;intro K c;go_simp;refine c.out _ _ (λ_=>⟨f,trivial⟩) ?_;refine nk 14 ?_;intro K c;go_simp;refine c.out _ _ (λ_=>⟨f,trivial⟩) ?_;refine nk 15 ?_;intro K c;go_simp;refine c.out _ _ (λ_=>⟨f,trivial⟩) ?_;refine MQ fK ?_ _;go_wp2;go_end0;exact⟨U,m⟩
def aoc(h:Jn w0 b (Ä Ã) w)(n:Nat)(j:0<n)(c:n<=281474976710656): Ò À 54 #[Ä<|Â ⟨b,0,Ã⟩,Ç Ê n] w λe a=>e=È (Ý #[])/\ve w0 b [] a:=by
 have d:w.shape? b=Â (109,2):=by have e:w.heap[b]?=_:=h.r;simp[ae,e]
 have e:=fv (show Jn w0 b (Ä<|Â ⟨b,0,Ã⟩) (w.setCell ⟨b,0,Ã⟩<|Ä<|Â ⟨b,0,Ã⟩).drew from⟨h.C,(h.I.C (fw.I (X:=λk=>k=b) U _<|Ì h.r.S) λi k q=>by have:=h.C;omega).fA<|fw.gM _ _,(h.r.fR 0 _).C (fw.gM fB _) id⟩);have k:=fv<|Á (e.r.r 1 _ rfl) trivial;have q:=h.r.r 0 _ U;have f:=h.r.I 0;have l:¬((n:Int)<0):=Z;have m:(0:Int)<(n:Int):=Z;have o:Ê.wrap 0<(n:Int):=by rw[í];omega
 go_enter Tryz.func54,Tryz.ntmps54;go_wp2_with (go_at_call 78;refine gl (an6 b w q d f) λa i=> ?_;subst a);refine mH (λa=>a.cell? ⟨b,1,Ã⟩=Â (Æ Ã 0 0)/\True) [] fK ?_;iterate 13 apply tk k
 refine MQ fK ?_ _;go_wp2_with (go_at_call 79;refine gl (aob e n c) λa i=> ?_;have g:=fv i;clear i);go_end0;exact⟨U,g⟩
def aod{l:List UInt8}(h:ve w0 b (Û l) w)(d:l≠[]): Ò À 56 #[Ä<|Â ⟨b,0,Ã⟩] w λe K=>e=È (Å ⟨l.toArray⟩)/\fw fB w0 K:=by
 let⟨v,f,c⟩:=h.C;have n:l.length≠0:=fN d
 rw[Ľ]at c;obtain⟨g,e,a,rfl,t,o,u,s,y,z⟩:∃g e a,v=Æ (Â ⟨g,0,Ã⟩) l.length e/\w0.heap.size<=g/\w.heap[g]?=Â (Ô a 5 (0,0))/\l.length<=e/\e<=ó/\a.size=e*1/\a.toList.take (l.length*1)=Û l:=by obtain⟨_,i⟩|⟨g,e,a,j,r⟩:=c.2;exact absurd i n;exact⟨g,e,a,j,r⟩
 have m:=fv (Á (show w.drew.cell? ⟨b,1,Ã⟩=Â (Æ (Â ⟨g,0,Ã⟩) l.length e)from f.r 1 _ rfl) trivial);have B:∀W:Ë,(ε #[107] 177 #[Æ (Â ⟨g,0,Ã⟩) l.length e]).run À W=bh (Ä<|Â ⟨g,0,Ã⟩) W:=λW=>
  Lib.run_unsafeSliceData_row _ _ _ _ _ _ Z
 have C:(aE #[177,3] 9 #[Ä<|Â ⟨g,0,Ã⟩,Ç Ê l.length]).run À w.drew=bh (Å ⟨l.toArray⟩) (w.drew.freeze ⟨g,0,Ã⟩ l.length):=by refine Lib.run_unsafeString_row w.drew 177 3 9 5 Tryz.underlying177 an9 g a.size (by have i:w.drew.heap[g]?=Â (Ô a 5 (0,0)):=o;simp[ae,i]) l d Z (by unfold ó at s;omega) ?_;intro j x i;have:=c.cells U j (Ç Ň x.toNat) (by simp[Û,i]);exact this
 have x:=fv ((h.r.fA<|fw.gM _ _).C (fw.Y (X:=λk=>k=g) (p:=⟨g,0,Ã⟩) U l.length) λi j q=>by omega);have j:=fv (Á ((fw.Y (X:=λk=>k=g) (p:=⟨g,0,Ã⟩) rfl l.length).r m.1 λq=>iE c f A<|by show Â g=Â b;rw[show g=b from(show b=g from q).symm]) trivial);go_enter Tryz.func56,Tryz.ntmps56;go_wp2;refine mH (λK=>K.cell? ⟨b,1,Ã⟩=Â (Æ (Â ⟨g,0,Ã⟩) l.length e)/\True) [] fK ?_;iterate 10 apply tk m
 apply nk 10;intro K i;go_simp;apply i.out _ _ λ_=>j;apply nk 11;intro K i;go_simp;apply i.out _ _ λ_=>j;refine MQ fK ?_ _;go_wp2;go_ret;exact⟨U,x⟩
end
def nt(a:ByteArray)(b:List ByteArray):List UInt8:=b.flatMap λy=>a.data.toList++y.data.toList
def BE(a:ByteArray):List ByteArray->List UInt8|[]=>[]|x::r=>x.data.toList++nt a r
def jH(xs:List ByteArray):Nat:=(xs.map ľ).sum
def TQ(a b:List ByteArray):jH (a++b)=jH a+jH b:=by simp[jH]
def Ng(a:List ByteArray)(j:Nat):jH (a.take j)<=jH a:=by have h:=TQ (a.take j)<|a.drop j;simp_all
theorem Nh(a:ByteArray)(c:a.size=1):∀b:List ByteArray,(nt a b).length=jH b+b.length
 |[]=>rfl
 |x::r=>by
  have e:nt a (x::r)=(a.data.toList++x.data.toList)++nt a r:=U;have d:a.data.toList.length=1:=fN c;have f:x.data.toList.length=x.size:=fD;have g:jH (x::r)=x.size+jH r:=by simp[jH]
  rw[e,Ñ,Ñ,Nh a c r,d,f,g,eH];omega
def aav(h:vX[j]?=Â B):jH (vX.take<|j+1)=jH (vX.take j)+B.size:=by rw[cD,h,TQ];simp[jH]
section
variable{sep:ByteArray}{xs:List ByteArray}
def lG(sep:ByteArray)(xs:List ByteArray):ByteArray:=⟨(BE sep xs).toArray⟩
def aoe:Ò À 38 #[Æ O 0 i,Å sep] w λe a=>e=È (Å ⟨#[]⟩)/\fw fB w a:=by go_enter ĕ,Ŧ;go_wp2;go_ret;exact⟨U,fw.gy _ _⟩
def aof(a b:Nat)(x:ByteArray)(d:w.cell? ⟨a,b,Ã⟩=Â (Å x)):Ò À 38 #[Æ (Â ⟨a,b,Ã⟩) 1 i,Å sep] w λe c=>e=È (Å x)/\fw fB w c:=by go_enter ĕ,Ŧ;go_wp2;go_ret;exact⟨U,fw.gy _ _⟩
theorem aog(k:Nat)(hk:1<=k)(hn:k<1000000)(p q:Nat)(hcp:k+1<=i)(D:sep.size=1)(x:ByteArray)(F:k=xs.length)(r:rA (Â ⟨p,q,Ã⟩) (ov<|x::xs) w)(hm:jH (x::xs)+(k+1)<=140737488355328): Ò À 38 #[Æ (Â ⟨p,q,Ã⟩) (k+1) i,Å sep] w λe V=>e=È (Å<|lG sep<|x::xs)/\fw fB w V:=by
 have W:jH (x::xs)=x.size+jH xs:=by simp[jH]
 have G:rA (Â ⟨p,q+1,Ã⟩) (ov xs) w:=λj u X=>by let⟨b,o,e1,e2⟩:=r (j+1) u (by simpa[ov]using X);grind
 let⟨_,_,g,I⟩:=r 0 (Å x) U;cases g;have J:w.cell? ⟨p,q,Ã⟩=Â (Å x):=I;have K:x.data.toList++nt sep xs≠[]:=by grind [Ñ,Nh,Ž]
 have e3:(1:Int)<9223372036854775807/(k:Int):=by rw[Int.lt_iff_add_one_le,Int.le_ediv_iff_mul_le Z];omega
 have L:(Û []).length+x.size<=140737488355328:=by simp[Û];omega
 have H:=fv<|Á r<|Á G<|Á F<|Á L<|Á K<|Á J W;clear L K I J r G F;go_enter ĕ,Ŧ;go_wp2_with fail;go_loop [5,41] (λm a=>∃j:Nat,j<=k+1/\m=Ç Ê ((k+jH ((x::xs).take j):Nat):Int)/\a=Ç Ê j) λ_ a=>k+1-(Þ a).toNat
 case atStart=>exact⟨0,eD _,by simp[jH],U⟩
 case round=>
  obtain⟨j,N,rfl,rfl⟩:=hrel;by_cases v:j=k+1
  .subst v;rw[eG (by simp[H.oQ.2.2.1])];have O:0<k+jH (x::xs)/\k+jH (x::xs)<=281474976710656:=Z;generalize k+jH (x::xs)=M at*;go_wp2_with (first|(go_at_call 54;refine gl (aoc ⟨eE _,fw.gO _ _ _ _,fy.N w [Ä Ã,Æ Ã 0 0] 109⟩ M O.1 O.2) λY d=> ?_;have c1:=d.r.r H.2.2.2.2.2.1 id;have z:=fv d;clear d)|(go_at_call 55;refine gl (TP z x H.2.2.2.1) λP l=> ?_;have HB2:=fv l;clear l))
   go_loopw [65] (λa wr=>∃j:Nat,j<=k/\a=Ç Ê j/\ve w w.heap.size (Û<|x.data.toList++nt sep (xs.take j)) wr) λa _=>k-(Þ a).toNat
   case atStart=>
    refine⟨0,eD _,U,?_⟩;show ve w w.heap.size (Û<|x.data.toList++[]) P;rw[ep];exact HB2
   case round=>
    obtain⟨j,N,rfl,f⟩:=hrel;by_cases v:j=k
    .subst v;rw[eG (by rw[H.oQ.2.2.1];omega)]at f;have z:=fv f;clear f;go_wp2_with (go_at_call 56;refine gl (aod z H.2.2.2.2.1) λw4 Q=> ?_;have HK:=fv Q;clear Q);go_ret;exact⟨U,HK⟩
    .have n:j<k:=Z;obtain⟨y,c⟩:∃x,xs[j]?=Â x:=⟨_,fe<|by rwa[<-H.oQ.2.2.1]⟩;let⟨_,_,g,B⟩:=H.2.1 j (Å y) (by simp[ov,c]);cases g;have zE:=f.r.r B id;have s:=aav c;have S:=Ng xs<|j+1;have hsx:=H.2.2.2.2.2.2;have C:(Û<|x.data.toList++nt sep (xs.take j)).length=x.size+jH (xs.take j)+j:=by rw[Ľ,Ñ,Nh sep D,dB,dU,<-H.oQ.2.2.1,Nat.min_eq_left N];show x.size+_=_;omega
     have T:(Û (x.data.toList++nt sep (xs.take j))++Ğ sep).length=x.size+jH (xs.take j)+j+1:=by rw[Ñ,C,ň,D]
     have E:Û (x.data.toList++nt sep (xs.take j))++Ğ sep++Ğ y=Û (x.data.toList++nt sep (xs.take<|j+1)):=by rw[cD,c];simp[nt,Û,Ğ]
     have t:=fv<|Á f<|Á C<|Á T E;clear f C T E B c;go_wp2_with (first|(go_at_call 55;refine gl (TP HC y<|by rw[t.oQ.2.2.1];omega) λP l=> ?_;have HD:=fv l;clear l)|(go_at_call 55;refine gl (TP t.1 sep (by rw[t.oQ.2.1];omega)) λY d=> ?_;have HC:=fv d;clear d))
     go_roundw
     case rel=>exact⟨j+1,n,by go_num,by rw[<-t.oQ.2.2.2];exact HD⟩
     case measure=>simp[Þ];omega
  .have n:j<k+1:=Z;obtain⟨y,c⟩:∃y,(x::xs)[j]?=Â y:=⟨_,fe<|by rwa[eH,<-H.oQ.2.2.1]⟩;let⟨_,_,g,B⟩:=H.1 j (Å y) (by rw[ov,dN,c];rfl);cases g;have s:=aav c;have S:=Ng (x::xs)<|j+1;rw[s]at S;generalize jH ((x::xs).take j)=s0 at*;have HS:=fv s;clear c s;go_wp2_with fail;go_round
   case rel=>exact⟨j+1,n,by rw[HS.oQ];go_num,by go_num⟩
   case measure=>simp[Þ];omega
def TR(a:n=xs.length)(f:n<=1000000)(g:n<=i)(h:sep.size=1)(b:rA O (ov xs) w)(j:jH xs+n<=140737488355328): Ò À 38 #[Æ O n i,Å sep] w λe c=>e=È (Å<|lG sep xs)/\fw fB w c:=by
 cases xs with
 |nil=>subst a;exact aoe|cons x r=>
  let⟨c,d,k,l⟩:=b 0 (Å x) U;subst k;cases r with
  |nil=>
   subst a;have e:lG sep [x]=x:=by show ZnJ ((x.data.toList++[]).toArray)=x;rw[ep]
   rw[e];exact aof c d x l|cons y r=>
   subst a;exact aog (r.length+1) Z (by simp at f;omega) c d g h x U b j
def aoh(a:n=xs.length)(c:n<=1000000)(d:n<=i)(g:rA O (ov xs) w)(f:jH xs+n<=140737488355328): Ò À 123 #[Æ O n i] w λe b=>e=È (Å<|if xs=[]then⟨#[45]⟩else lG ⟨#[44]⟩ xs)/\fw fB w b:=by
 have H:=fv<|TR (sep:=⟨#[44]⟩) a c d U g f;by_cases b:xs=[]
 .subst b;have e:=a;subst e;rw[if_pos U];clear a f H c d;go_enter af,ζ;go_wp2;go_ret;exact⟨U,fw.gy _ _⟩
 .rw[if_neg b];have k:0<n:=by rw[a];exact ŉ.2 b
  have l:((n:Int)==0)=Ó:=by simp;omega
  clear a;generalize lG ⟨#[44]⟩ xs=z at*;go_enter af,ζ;go_wp2_with (go_at_call 38;refine gl H λm e=> ?_;have j:=fv e;clear e);go_ret;exact⟨U,j⟩
end
def DK{M:Nat}:∀(a:List ByteArray),(∀z∈a,z.size<=M)->jH a<=M*a.length
 |[],_=>eD _
 |x::r,h=>by
  have c:=DK r λz b=>h z<|fi _ b;have d:=h x fD;have e:jH (x::r)=x.size+jH r:=by simp[jH]
  rw[e,eH,Nat.mul_add];omega
def FX{e:Nat×Int}(h:gL e.2):(kL e).size<=21:=by rw[kL,Ö];have:=FV e.1;have:=pw e.2.toNat (by have:=h.1;have:=h.2;omega);omega
def TS{e:Int×Bool}(a:0<=e.1)(h:e.1<=400):(mZ e).size<=41:=by rw[mZ,Ö,Ö];have:=pw e.1.toNat Z;have:=pw e.2.toNat (by cases e.2<;>decide);have:ľ ⟨#[58]⟩=1:=rfl;omega
section
variable{xs:List ByteArray}
def aaw{ty:ð}{base:Nat}(b:P.underlying t=Â (.slice e))(d:P.info? e=Â zJ)(h:w.ownsRow base e j v n l)(a:Option ø)(c:Nat): (û #[t,t] ty #[v,Æ a 0 c]).run P w=bh v w:=by
 have f:(ŕ zJ.size 0<|Æ a 0 c).run P w=bh #[] w:=by cases a<;>simp[ŕ,loadCells,loadCellsFrom]
 obtain⟨rfl,rfl⟩|⟨g,m,o,rfl,_,_,k,_⟩:=h.2;simp[û,ġ b,bH,aK,d,ō,f,bl];simp[û,ġ b,bH,aK,d,ō,f,k,bl]
def aoi{p:Array Ř}(k:o.guard=Ã)(s b:ĸ)(l:o.op=.call {callee:=.builtin Ŷ,args:=#[s,b],argTypes:=#[25,25]})(c:kD u v xs w)(m:y.eval s=v){base:Nat}(r:w.ownsRow base 9 1 x vX.length (ov vX))(d:y.eval b=x)(G:xs.length+vX.length<=1000000)(h:∀f j,kD u f (xs++vX) j->Ι À p vJ fX (y.put o.dst f) j):Ι À p vJ (o::fX) y w:=by let⟨H,n,B,C,D⟩:=Ĉ Na;obtain⟨e,E⟩|⟨g,F,I,e,_⟩:=r.2;have z:=Ù E;subst z;rw[e]at d;refine ţ k λK i=> ?_;have q:=aaw (ty:=o.type) ñ n c.fE Ã 0;unfold Δ Ė;simp only[l,ψ,bk,ω,Ť,ť,Ĩ,eJ,dR,dG,m,d,q];exact i _ _ (h v w<|by rwa[ep]);by_cases t:vX=[];subst t;rw[e]at d;refine ţ k λK i=> ?_;have q:=aaw (ty:=o.type) ñ n c.fE (Â ⟨g,0,Ã⟩) F;unfold Δ Ė;simp only[l,ψ,bk,ω,Ť,ť,Ĩ,eJ,dR,dG,m,d,q,Ž];exact i _ _ (h v w<|by rwa[ep]);have K:=ŉ.2 t;refine xS k s b 25 l ñ n B C D U m c.fE ⟨g,0,Ã⟩ (ov vX) (d.trans e) K (by simp[ov]) (r.cells<|by rw[e];rfl) (λi q=>by unfold ov at q;obtain⟨z,_,rfl⟩:=cI.1 q;rfl) (by unfold ó;omega) Z c.r.M ?_;intro f j z;refine h f j ⟨?_,c.r.C z.r λi J q=> ?_⟩;have:=z.fE;rwa[show ov xs++ov vX=ov (xs++vX) by simp[ov],show xs.length+vX.length=(xs++vX).length by simp]at this;have:=(c.fE.lt i q).1;omega
end
def kD.C(h:kD u (Æ O n i) vX w):rA O (ov vX) w/\n=vX.length/\n<=i:=by
 obtain⟨b,d⟩|⟨g,f,k,b,_,_,d,_⟩:=h.fE.2;cases b;refine⟨λj x e=> ?_,d.symm,eE _⟩;rw[Ù d]at e;cases e;have e:n=vX.length:=by injection b
 subst e;injection b with _ _ h4;exact⟨rA.r h.fE,U,by rwa[h4]⟩
def yb(r:mV):ByteArray:=lG ⟨#[44]⟩<|[gP r.C.toNat,gP r.M.toNat,gP r.r.toNat]++r.I.map kL
theorem aoj(x y:Nat)(g k:Int)(b c:Nat)(a:Bool)(d:List (Nat×Int))(J:b<18446744073709551616)(K:c<18446744073709551616)(P:d.length<=400000)(Q:x7 d)(S:pV w)(T:Ò À 158 #[Ä<|Â ⟨i,0,Ã⟩,Ç Ê x,Ç Ê y,Ç Ð g,Ç Ð k] w λe f=>∃v,e=È (Ý #[ŭ #[Ç Ð b,á a,Ç Ð c],v])/\f.ownsRow 0 257 2 v d.length (jf d)/\fw fB w f): Ò À 119 #[Ä<|Â ⟨i,0,Ã⟩,Ç Ê x,Ç Ê y,Ç Ð g,Ç Ð k] w λe f=>e=È (Å<|lG ⟨#[44]⟩<|[gP a.toNat,gP c,gP b]++d.map kL)/\fw fB w f:=by
 have L:a.toNat<18446744073709551616:=by cases a<;>decide
 have H:=fv<|Á T<|Á S Q;go_enter Tryz.func119,Tryz.ntmps119;go_wp2_with (go_at_call 158;apply H.1.mono;rintro e j ⟨v,rfl,q,l⟩;obtain⟨u,O,rfl⟩:=ji q;have B:=fv<|Á l q;clear l q);change Code.wp À _ _ _ (j.alloc<|Ô #[Ç Ð b,á a,Ç Ð c] 252);have C:=(fw.gO fB j #[Ç Ð b,á a,Ç Ð c] 252).fA<|fw.gM _ _;have D:=(H.2.1.r B.1).r C;have n:=(fy.N j [Ç Ð b,á a,Ç Ð c] 252).C (fw.gM fB _) id;have M:=B.1.fA C;have V:=gZ B.2 C λ_ _=>id;refine mH (λf=>f.cell? ⟨j.heap.size,0,Ã⟩=Â (Ç Ð b)/\f.cell? ⟨j.heap.size,1,Ã⟩=Â (á a)/\f.cell? ⟨j.heap.size,2,Ã⟩=Â (Ç Ð c)) [] fK ?_;have l:=fv<|Á (n.r 0 _ rfl)<|Á (n.r 1 _ rfl)<|n.r 2 _ rfl;generalize j.heap.size=ob at*;generalize œ (j.alloc<|Ô #[Ç Ð b,á a,Ç Ð c] 252)=w5 at*;iterate 3 apply tk l
 apply tk l 5;apply tk l 6;apply tk l 8;apply tk l 9;apply tk l 10;refine nL 3 ?_;refine nU (I5 _ _) λW Dw=> ?_;subst W;rw[aar];refine⟨λ_=>l,?_⟩;refine nL 4 ?_;refine nU (zC a.toNat L _ D) λwa o=> ?_;have p:=n.C o id;have N:=D.r o;refine⟨λ_=>⟨p.r 0 _ U,p.r 1 _ U,p.r 2 _ U⟩,?_⟩;refine nL 7 ?_;refine nU (zC c K _ N) λwb r=> ?_;have s:=p.C r id;have X:=N.r r;refine⟨λ_=>⟨s.r 0 _ U,s.r 1 _ U,s.r 2 _ U⟩,?_⟩;refine nL 11 ?_;refine nU (zC b J _ X) λwc E=> ?_;have t:=s.C E id;have m:=t.C (fw.gO fB wc #[Å<|gP a.toNat,Å<|gP c,Å<|gP b] 9) id;refine⟨λ_=>⟨t.r 0 _ U,t.r 1 _ U,t.r 2 _ U⟩,?_⟩;refine jM 12 (λ_=>⟨m.r 0 _ U,m.r 1 _ U,m.r 2 _ U⟩) ?_;refine jM 13 (λ_=>⟨m.r 0 _ U,m.r 1 _ U,m.r 2 _ U⟩) ?_;refine lZ ?_;have F:fw fB w5 (wc.alloc<|Ô #[Å<|gP a.toNat,Å<|gP c,Å<|gP b] 9):=((o.fA r).fA E).fA<|fw.gO _ _ _ _;have Y:kD w (Æ (Â ⟨wc.heap.size,0,Ã⟩) 3 3) [gP a.toNat,gP c,gP b] (wc.alloc<|Ô #[Å<|gP a.toNat,Å<|gP c,Å<|gP b] 9):=⟨World.ownsRow_lit wc #[Å<|gP a.toNat,Å<|gP c,Å<|gP b] 3 (Ï M.M ((o.fA r).fA E).M) (by unfold ó;omega) U,M.fA F⟩;have L6:=gZ V F λ_ _=>id;have P6:=D.r F;have G:=fv<|Á Y<|Á L6 P6;generalize wc.alloc (Ô #[Å<|gP a.toNat,Å<|gP c,Å<|gP b] 9)=w6 at*;generalize wc.heap.size=tb at*;have jV:∀z∈[gP a.toNat,gP c,gP b]++d.map kL,z.size<=21:=λz hz=>by obtain q|q:=dx.1 hz;have h1:=pw a.toNat L;have h2:=pw c K;have u:=pw b J;grind;obtain⟨e,u,rfl⟩:=cI.1 q;exact FX (H.2.2 e u).2
 have uK:=DK _ jV;have hlen:([gP a.toNat,gP c,gP b]++d.map kL).length=3+d.length:=by simp;omega
 have I:=fv<|Á uK hlen;go_wp2_with (first|(go_at_call 124;refine(aaq U P H.2.2 G.2.2<|rA.r G.2.1).mono ?_;rintro e u ⟨lt,rfl,q⟩;obtain⟨ta,tc,rfl⟩:=ji q.fE;rw[dw]at q;have O:=fv q;clear q)|(at_builtin;refine aoi U _ _ U (G.1.fH O.r) U O.fE U (by simp;omega) ?_;intro cv w8 u;obtain⟨ca,cc,rfl⟩:=ji u.fE;generalize([gP a.toNat,gP c,gP b]++d.map kL).length=cn at u|-;have q:=fv u;clear u)|(go_at_call 38;refine gl (TR q.C.2.1 (by have:=q.C.2.1;rw[this,I.oQ.2];omega) q.C.2.2 U q.C.1 (by have:=q.C.2.1;have h1:=I.1;have h2:=I.2;omega)) λw9 u=> ?_;have O:=fv u;clear u))
 go_ret;exact⟨U,q.r.fA O⟩
def aol{s:St}(v:qH i s h w)(b:ic s)(z:lk w)(B:pV w)(x y:Nat)(g k:Int)(c:x<8)(d:y<8)(f:0<=g)(j:g<=100000)(l:gL k): Ò À 119 #[Ä<|Â ⟨i,0,Ã⟩,Ç Ê x,Ç Ê y,Ç Ð g,Ç Ð k] w λe q=>e=È (Å<|yb<|gR s [] x y g k)/\fw fB w q:=by have T:=aap v b z x y g k c d f j l _ U;have e:=FK s [] x y g k b c d l f j (by simp;omega);have m:=M9 s [] x y g k b c d l f j (by simp;omega) (λ_ q=>by cases q);obtain⟨q,o,a,t,p,C⟩:∃q o a t p,gR s [] x y g k=⟨q,o,a,t,p⟩:=⟨_,_,_,_,_,U⟩;rw[C]at T e m|-;have D:=e.C;have E:=e.r;have r:=e.M;have u:=e.I;simp only at D E r u m T;obtain⟨F,rfl⟩:∃n:Nat,q=n:=⟨q.toNat,Z⟩;obtain⟨G,rfl⟩:∃n:Nat,a=n:=⟨a.toNat,by have:=r.1;omega⟩;exact aoj x y g k F G o p Z (by have:=r.2;omega) (by simp at u;omega) m B T
def sw(w:Ë):Prop:=w.cell? ⟨4,15,Ã⟩=Â (Ç Ň 4)
def sw.r(h:sw w)(k:fw fB w u):sw u:=k.r h id
def aom(c:sw w):Ò À 207 #[Ç Ð 16] w λe a=>e=È (Ç Ê 4)/\a=w:=by unfold sw at c;have b:Ð.wrap (bits BinOp.and Ð 16 (Ð.wrap<|-16)*285870213051353865)/288230376151711744=15:=A;go_enter Tryz.func207,Tryz.ntmps207;go_wp2;go_ret;exact⟨U,U⟩
def tz(c:sw w):Ò À 201 #[Ç Ð 16] w λe a=>e=È (Ç Ê 4)/\a=w:=by go_enter Tryz.func201,Tryz.ntmps201;go_wp2_with (go_at_call 207;refine gl (aom c) λa b=> ?_;subst a);go_ret;exact⟨U,U⟩
def aon:Ò À 200 #[Ç Ê 16] w λe a=>e=È (á Í)/\a=w:=by have b:bits BinOp.and Ê 16 15=0:=A;go_enter Tryz.func200,Tryz.ntmps200;go_wp2;go_ret;simp_all
def qK(d:Nat):UInt8:=if h:d<36 then(⟨#[48,49,50,51,52,53,54,55,56,57,97,98,99,100,101,102,103,104,105,106,107,108,109,110,111,112,113,114,115,116,117,118,119,120,121,122]⟩:ByteArray)[d]'h else 0
def sX:Nat->Nat->List UInt8->List UInt8|0,_,acc=>acc|k+1,n,acc=>if n<16 then qK n::acc else sX k (n/16) (qK (n%16)::acc)
def aax:∀k n a,(sX k n a).length<=k+a.length|0,_,a=>by simp[sX]|k+1,n,a=>by unfold sX;split;simp;omega;have:=aax k (n/16)<|qK (n%16)::a;simp at this;omega
def zc(i:Nat)(a:List UInt8):List Î:=è i (Ç Ň 0)++Û a
def aoo(i:Nat)(a:List UInt8):(zc i a).length=i+a.length:=by simp[zc,Û]
def aop(i:Nat)(a:List UInt8)(c:UInt8):(zc (i+1) a).set i (Ç Ň c.toNat)=zc i (c::a):=by unfold zc;rw[Ŀ,dL,eF _ _ fD];simp[Û]
def aoq(a:n<18446744073709551616):bits BinOp.and Ð (n:Int) 15=((n%16:Nat):Int):=by have:=(bits_nat Ð 64 A (λn b c=>by rw[ö];omega) n 15 Z A).1;rwa[show(15:Nat)=2^4-1 from rfl,ew]at this
def aay(h:i<36):(⟨#[48,49,50,51,52,53,54,55,56,57,97,98,99,100,101,102,103,104,105,106,107,108,109,110,111,112,113,114,115,116,117,118,119,120,121,122]⟩:ByteArray)[i]'h=qK i:=by rw[qK,dif_pos h]
def aor:Tryz.zeroCells292=(zc 65 []).toArray:=fK
def nX(n:Nat):ByteArray:=⟨(sX 16 n []).toArray⟩
theorem aos(n:Nat)(o:n<18446744073709551616)(D:sw w):Ò À 190 #[Æ Ã 0 0,Ç Ð n,Ç Ê 16,á Ó,á Ó] w λe E=>e=È (Ý #[Æ Ã 0 0,Å<|nX n])/\fw fB w E:=by
 have H:=fv D;have a:=fy.N w (zc 65 []) 292;rw[<-aor]at a;have F:=fv a;unfold nX;generalize s:sX 16 n []=res;have G:=fv s;clear s a;go_enter Tryz.func190,Tryz.ntmps190;go_wp2_with (first|(go_at_call 200;refine gl aon λp I=> ?_;subst p)|(go_at_call 201;refine gl (tz (H.r kp)) λp I=> ?_;subst p))
 go_loopw [1,13] (λx y wr=>∃(n i:Nat)(c:List UInt8),x=Ç Ð n/\y=Ç Ê i/\50<=i/\i+c.length=65/\n<16^(i-49)/\n<18446744073709551616/\fw fB w wr/\fy w.heap.size (zc i c) 292 wr/\sX (i-49) n c=res) λx _ _=>(Þ x).toNat
 case atStart=>exact⟨n,65,[],U,U,Z,U,by show n<16^16;omega,o,fw.gO _ _ _ _,F,G⟩
 case round=>
  obtain⟨n,i,c,rfl,rfl,O,Q,o,J,u,a,b⟩:=hrel;obtain⟨j,rfl⟩:∃j,i=j+1:=⟨i-1,Z⟩;rw[show j+1-49=(j-49)+1 by omega]at b o;unfold sX at b;have K:(zc (j+1) c).length=65:=by rw[aoo];omega
  obtain⟨z,v⟩:∃z,(zc (j+1) c)[j]?=Â z:=⟨_,fe Z⟩;have S:=a.r j z v;have T:=a.I j;have f:=a.fR j<|Ç Ň (qK<|n%16).toNat;rw[aop]at f;have g:fw fB w (wr.setCell ⟨w.heap.size,j,Ã⟩<|Ç Ň (qK<|n%16).toNat):=u.C (fw.I (X:=λk=>k=w.heap.size) U _<|Ì a.S) λi V q=>by omega
  have l:=fv<|Á f g;clear a u K v;by_cases m:n<16
  .rw[if_pos m]at b;have W:res.length=65-j:=by rw[<-b];simp;omega
   have Y:(0:Int)<=(j:Int):=Z;have e2:(j:Int)<65:=Z;have e3:(j:Int)<=65:=Z;have m0:(0:Int)<=(n:Int):=Z;have m1:(n:Int)<36:=Z;have r:n<36:=Z;have L:=aay r;rw[Ű m,b]at f;have hcv:(convert 107 9<|Æ (Â ⟨w.heap.size,j,Ã⟩) (65-j)<|65-j).run À (wr.setCell ⟨w.heap.size,j,Ã⟩<|Ç Ň (qK n).toNat)=bh (Å ⟨res.toArray⟩) (wr.setCell ⟨w.heap.size,j,Ã⟩<|Ç Ň (qK n).toNat):=by have h:=ĵ (P:=À) (wr.setCell ⟨w.heap.size,j,Ã⟩<|Ç Ň (qK n).toNat) 107 9 5 ⟨w.heap.size,j,Ã⟩ (65-j) res fK fK fK (λt M=>by rw[Addr.add_mid];apply f.r (j+t) _;rw[zc,eT fD];simp[Û,fe M]);grind
   rw[Ű m]at g;have l:=fv g;clear f g;go_wp2;go_ret2;exact⟨U,l⟩
  .rw[if_neg m]at b;have N:50<=j:=by grind
   have B:n/16<16^(j-49):=by grind
   have awh:=aoq J;have r:n%16<36:=Z;have L:=aay r;have C:=fv<|Á b B;clear b B f g;generalize hd:n%16=d at*;go_wp2;go_roundw
   case rel=>exact⟨n/16,j,qK d::c,by go_num,by go_num,N,by simp;omega,C.2,Z,l.2,l.1,C.1⟩
   case measure=>simp[Þ];omega
def aot(n:Nat)(b:n<18446744073709551616)(c:sw w):Ò À 172 #[Ç Ð n,Ç Ê 16] w λe a=>e=È (Å<|nX n)/\fw fB w a:=by go_enter Ş,Ō;go_wp2_with (go_at_call 190;refine gl (aos n b c) λa d=> ?_);go_ret;exact⟨U,d⟩
def aou(n:Nat)(b:n<18446744073709551616)(c:sw w):Ò À 157 #[Ç Ð n,Ç Ê 16] w λe a=>e=È (Å<|nX n)/\fw fB w a:=by go_enter υ,δ;go_wp2_with (go_at_call 172;refine gl (aot n b c) λa d=> ?_);go_ret;exact⟨U,d⟩
def aov(s:ByteArray)(w:Ë)(h:s.data.toList.head?=Â 48):Ò À 175 #[Å s,Å ⟨#[48]⟩] w λe b=>e=È (á Í)/\b=w:=by
 have H:=Tryz.strings_HasPrefix s ⟨#[48]⟩ w;have e:ŋ s.data.toList (Μ ⟨#[48]⟩).toList=Í:=by
  generalize s.data.toList=l at h;cases l with
  |nil=>cases h
  |cons a r=>cases h;rfl
 rwa[e]at H
def aow(s:ByteArray)(w:Ë)(h:¬s.data.toList.head?=Â 48):Ò À 175 #[Å s,Å ⟨#[48]⟩] w λe b=>e=È (á Ó)/\b=w:=by
 have H:=Tryz.strings_HasPrefix s ⟨#[48]⟩ w;have e:ŋ s.data.toList (Μ ⟨#[48]⟩).toList=Ó:=by
  generalize s.data.toList=l at h;cases l with
  |nil=>rfl|cons a r=>
   have c:¬a=48:=λq=>h (by rw[q];rfl);show((48:UInt8)==a&&List.isPrefixOf [] r)=Ó;have:((48:UInt8)==a)=Ó:=beq_eq_false_iff_ne.2 λq=>c q.symm;rw[this];rfl
 rwa[e]at H
def yc(k:Nat):ByteArray:=þ ⟨#[48,48,48,48,48,48,48,48,48,48,48,48,48,48,48,48,48,48,48,48,48,48,48,48,48,48,48,48,48,48,48,48,48,48,48,48,48,48,48,48,48,48,48,48,48,48,48,48,48,48,48,48,48,48,48,48,48,48,48,48,48,48,48,48]⟩ 0 k
def aox(k:Nat)(d:2<=k)(f:k<=64):Ò À 160 #[Å ⟨#[48]⟩,Ç Ê k] w λe a=>e=È (Å<|yc k)/\a=w:=by
 have g:((k:Int)==0)=Ó:=by simp;omega
 have i:((k:Int)==1)=Ó:=by simp;omega
 have j:¬(k:Int)<0:=Z;have l:(0:Int)<=(k:Int):=Z;have m:(k:Int)<=64:=Z;have n:Ð.wrap (k:Int)=(k:Int):=by rw[ö];omega
 have o:Ê.wrap (k:Int)=(k:Int):=by rw[í];omega
 have M:=Tryz.bits_Mul 1 k A Z w;rw[show 1*k/18446744073709551616=0 by omega,show 1*k%18446744073709551616=k by omega]at M;have c:=fv M;go_enter ŧ,Ŏ;go_wp2_with (first|(go_at_call 174;refine gl c λa b=> ?_;subst a)|(go_at_call 175;refine gl (aow _ _ A) λa b=> ?_;subst a)|(go_at_call 175;refine gl (aov _ _ A) λa b=> ?_;subst a))
 go_ret;exact⟨U,U⟩
def aoy:Ò À 160 #[Å ⟨#[48]⟩,Ç Ê 0] w λe a=>e=È (Å ⟨#[]⟩)/\a=w:=by go_enter ŧ,Ŏ;go_wp2;go_ret;exact⟨U,U⟩
def aoz:Ò À 160 #[Å ⟨#[48]⟩,Ç Ê 1] w λe a=>e=È (Å ⟨#[48]⟩)/\a=w:=by go_enter ŧ,Ŏ;go_wp2;go_ret;exact⟨U,U⟩
def aoA(k:Nat)(a:k<=64):Ò À 160 #[Å ⟨#[48]⟩,Ç Ê k] w λe b=>e=È (Å<|yc k)/\b=w:=by
 match k with|0=>exact aoy|1=>exact aoz|k+2=>exact aox (k+2) Z a
def DL(n:Nat):ByteArray:=yc (16-(nX n).size)++nX n
def aaz(n:Nat):(nX n).size<=16:=by show(sX 16 n []).toArray.size<=16;have:=aax 16 n [];simpa using this
def aaA(k:Nat):(yc k).size<=k:=by rw[yc,ä];omega
def aoB(n:Nat)(c:n<18446744073709551616)(d:sw w):Ò À 121 #[Ç Ð n] w λe a=>e=È (Å<|DL n)/\fw fB w a:=by
 have g:=aaz n;have i:=aaA<|16-(nX n).size;have T:=aou n c d;have R:∀W:Ë,Ò À 160 #[Å ⟨#[48]⟩,Ç Ê ((16-(nX n).size:Nat):Int)] W λe a=>e=È (Å<|yc<|16-(nX n).size)/\a=W:=λW=>aoA _ Z;have j:Ê.wrap ((16:Int)-((nX n).size:Int))=((16-(nX n).size:Nat):Int):=by rw[í];omega
 have l:(16:Int)-((nX n).size:Int)=((16-(nX n).size:Nat):Int):=Z;have m:¬9223372036854775807<(yc<|16-(nX n).size).size+(nX n).size:=Z;unfold DL;have H:=fv<|Á T R;generalize o:yc (16-(nX n).size)=zs at*;generalize p:16-(nX n).size=k at*;generalize nX n=fs at*;go_enter Tryz.func121,Tryz.ntmps121;go_wp2_with (first|(go_at_call 157;refine gl H.1 λq b=> ?_;have f:=fv b;clear b)|(go_at_call 160;refine gl (H.2 _) λb q=> ?_;subst b))
 go_ret;exact⟨U,f⟩
structure QAt(r:Nat)(x y g k:Nat)(kind v v2:Int)(slot:Nat)(w:Ë):Prop where
 C:w.cell? ⟨r,0,Ã⟩=Â (Ç Ê x)
 I:w.cell? ⟨r,1,Ã⟩=Â (Ç Ê y)
 M:w.cell? ⟨r,2,Ã⟩=Â (Ç Ê g)
 N:w.cell? ⟨r,3,Ã⟩=Â (Ç Ê k)
 S:w.cell? ⟨r,4,Ã⟩=Â (Ç Ê kind)
 Y:w.cell? ⟨r,5,Ã⟩=Â (Ç Ê v)
 a:w.cell? ⟨r,6,Ã⟩=Â (Ç Ê v2)
 b:w.cell? ⟨r,7,Ã⟩=Â (Ç Ê slot)
def kD.S(h:kD u v vX W)(k:fw fB w u):kD w v vX W:=by refine⟨⟨h.fE.1,?_⟩,k.fA h.r⟩;obtain q|⟨g,a,b,c,d,q⟩:=h.fE.2;exact É q;exact Ì ⟨g,a,b,c,Ï k.M d,q⟩
def Ni{P:Program}{ops:Array Oper}{Q:Exit->Act->World->Prop}{S:World->Prop}{id:Nat}{a:Act}{w0 w:World}(_:∀W,fw fB w0 W->S W)(h:mW P .any ops Q S [] ops.size (Array.replicate ops.size false) a w.drew)(hm:P.follows .mixedOrders=true:=by kernel_rfl):(Code.region id ops true).wp P Q a w:=mH S [] hm h
structure Qn where
 x:Nat
 y:Nat
 g:Nat
 k:Nat
 r:Int
 v:Int
 C:Int
 I:Nat
structure Qn.Ok(q:Qn):Prop where
 x:q.x<8
 y:q.y<8
 g:q.g<1000000
 k:q.k<18446744073709551616
 awi:2<=q.r
 awj:q.r<=9
 v:-1<=q.v
 v2:-1<=q.C
 aaB:q.I<16
def wM(a:List ByteArray):ByteArray:=if a=[]then⟨#[45]⟩else lG ⟨#[44]⟩ a
def qL(a:List (Nat×gf))(p:gf)(q:Qn):ByteArray:=
 if q.r=2 then gP ((p.s q.x).r q.I).toNat
 else if q.r=3 then gP (p.s q.x).fC.toNat
 else if q.r=4 then if 400<q.g then pI 6 else yb (gR p.s [] q.x q.y q.g q.k)
 else if q.r=5 then ua p.s q.x q.y q.k 0 401
 else if q.r=6 then DL (By p.s)
 else if q.r=7 then wM (p.C.map kL)
 else if q.r=8 then wM (p.r.map mZ)
 else match pn a q.C with|none=>pI 3|some b=>wM<|ma p.s b.2.s 8
def vf(a:List (Nat×gf))(q:Qn):ByteArray:=
 match pn a q.v with|none=>pI 3|some p=>qL a p.2 q
def TT{M:Nat}(b:∀z∈vX,z.size<=M)(d:M<=100)(f:vX.length<=400000)(h:kD w (Æ O m i) vX W): Ò À 123 #[Æ O m i] W λe g=>e=È (Å<|wM vX)/\fw fB W g:=by obtain⟨e,g,j⟩:=h.C;have k:=DK vX b;have:M*vX.length<=100*400000:=Ģ d f;exact aoh g Z j e Z
def aaC(s:St):By s<18446744073709551616:=by unfold By Jl;exact M5 _ _<|aah λi=>TC _ _ _
theorem TU{b:ByteArray}(c:B.size<=1)(d:b.size<=1):(B++b).size<=2:=by grind
def aaD(s t:St):∀z∈ma s t 8,z.size<=2:=λz a=>by unfold ma at a;obtain⟨i,_,h⟩:=cw.1 a;unfold ya ow at h;obtain h|h:=dx.1 h;obtain h|h:=dx.1 h;split at h;cases h;simp at h;subst h;exact TU (FV i)<|eE _;split at h;cases h;simp at h;subst h;exact TU (FV i)<|eE _;unfold py at h;obtain⟨j,_,h⟩:=cw.1 h;unfold DJ at h;split at h;cases h;simp at h;subst h;exact TU (FV i)<|an1 j
def Nj(a:ByteArray)(c:a.size=1):∀b:List ByteArray,(lG a b).size<=jH b+b.length
 |[]=>eD _
 |x::r=>by
  show(x.data.toList++nt a r).toArray.size<=_;have d:jH (x::r)=x.size+jH r:=by simp[jH]
  have e:x.data.toList.length=x.size:=by rw[dU];rfl
  simp only[eN,Ñ,Nh a c r,d,e,eH];omega
theorem aoC{s:St}{q:Qn}(b:ic s)(ok:q.Ok)(l:q.g<=400):(yb<|gR s [] q.x q.y q.g q.k).size<=100000000:=by
 have c:gL (q.k:Int):=⟨Z,by have:=ok.k;omega⟩;have e:=FK s [] q.x q.y q.g q.k b ok.x ok.y c Z Z (by simp;omega);have f:=M9 s [] q.x q.y q.g q.k b ok.x ok.y c Z Z (by simp;omega) (λ_ q=>by cases q);unfold yb;generalize gR s [] q.x q.y q.g q.k=R at*;have m:=e.r;have d:=e.M;have h:=e.I;simp at h;have n:=Nj ⟨#[44]⟩ U<|[gP R.C.toNat,gP R.M.toNat,gP R.r.toNat]++R.I.map kL;have o:=DK (M:=21) ([gP R.C.toNat,gP R.M.toNat,gP R.r.toNat]++R.I.map kL) λz i=>by obtain a|a:=dx.1 i;simp at a;obtain rfl|rfl|rfl:=a;have:=pw R.C.toNat (by cases R.C<;>decide);omega;have:=pw R.M.toNat (by have:=d.1;have:=d.2;omega);omega;grind [pw];obtain⟨e,j,rfl⟩:=cI.1 a;exact FX (f e j).2
 grind
section
variable{cp:Nat}{vs:List (Nat×gf)}{q:Qn}
def aoD(u:sV O n vs w)(hn:n<=1000)(h0:0<n)(Y:∀p∈vs,TJ p.2)(B:QAt i q.x q.y q.g q.k q.r q.v q.C q.I w)(ok:q.Ok)(hr:lk w)(hp:pV w)(hd:sw w): Ò À 67 #[Æ O n cp,Ä<|Â ⟨i,0,Ã⟩] w λe M=>e=È (Å<|vf vs q)/\fw fB w M:=by
 have F:=M7 (cp:=cp) u hn h0 q.v ok.v;have c5:=B.Y;unfold vf;cases N:pn vs q.v with
 |none=>
  rw[N]at F;have H:=fv F;clear F B u Y hr hp hd ok;go_enter aL,ag;go_wp2_with (first|(go_at_call 113;refine gl H λw1 C=> ?_;dsimp only[u9,Ŗ];have b:=fv C;clear C)|(go_at_call 114;refine iT (FN 3 A _) ?_))
  go_ret;exact⟨U,b⟩|some p=>
  rw[N]at F;have hm:=Jm N;have TV:=u.M hm;have Jo:=Y p hm;obtain⟨x,y,g,k,r,v,P,E⟩:=q;obtain⟨Q,hy,hg,hk,wE,mS,hv,Jp,Ml⟩:=ok;simp only at Q hy hg hk wE mS hv Jp Ml B F c5|-;have c4:=B.S;have Hp:gL (k:Int):=⟨Z,Z⟩;obtain⟨cb,_,cs⟩:=TV.r.iG Q;have m:∀W,fw fB w W->Ò À 113 #[Æ O n cp,Ç Ê P] W λe M=>e=È (u9 ((pn vs P).map (·.1)))/\fw fB W M:=λW kW=>M7 (u.I kW) hn h0 P Jp;have H:=fv<|Á F<|Á B<|Á TV<|Á Jo<|Á hr<|Á hp<|Á hd<|Á u m;have S:=fv<|Á cb<|Á cs Hp;clear F B u Y hr hp hd TV Jo hm m N cb cs Hp hv Jp;go_enter aL,ag;go_wp2_with fail;go_at_call 113;refine gl H.1 λw1 C=> ?_;dsimp only[u9,Ŗ];have d4:=C.r c4 id;have b:=fv C;clear C c4 c5;have x0:(0:Int)<=(x:Int):=Z;have x1:(x:Int)<8:=Z;have cases:r=2\/r=3\/r=4\/r=5\/r=6\/r=7\/r=8\/r=9:=Z;obtain rfl|rfl|rfl|rfl|rfl|rfl|rfl|rfl:=cases
  .have c:=S.2.1 E Ml;have o:=H.2.2.1.C.C x E;obtain⟨z,l⟩:∃z:Nat,(p.2.s x).r E=z:=⟨_,(dc o.1).symm⟩;rw[l]at c o;have I:(0:Int)<=(E:Int):=Z;have J:(E:Int)<16:=Z;have f:=fv λW (q:fw fB w W)=>Á (q.r H.2.1.C id)<|Á (q.r H.2.1.b id)<|q.r c id;have D:z<18446744073709551616:=by have:=o.2;omega
   have G:=fv l;clear c o l;go_wp2_with fail;refine Ni f ?_;have a:=fv<|b.fA<|fw.gM _ _;iterate 17 apply tk (f _ a)
   refine nL 17 ?_;refine nU (zC _ D _<|H.2.2.2.2.2.1.r a) λt d=> ?_;have j:=fv<|a.fA d;clear d;refine⟨λ_=>f _ j,?_⟩;apply tk (f _ j);refine lZ ?_;go_wp2;go_ret;exact⟨by simp[qL,G.oQ],j⟩
  .have c:=S.1;have o:=H.2.2.1.C.fC x;obtain⟨z,l⟩:∃z:Nat,(p.2.s x).fC=z:=⟨_,(dc o.1).symm⟩;rw[l]at c o;have f:=fv λW (q:fw fB w W)=>Á (q.r H.2.1.C id)<|q.r c id;have D:z<18446744073709551616:=by have:=o.2;omega
   have G:=fv l;clear c o l;go_wp2_with fail;refine Ni f ?_;have a:=fv<|b.fA<|fw.gM _ _;iterate 12 apply tk (f _ a)
   refine nL 12 ?_;refine nU (zC _ D _<|H.2.2.2.2.2.1.r a) λt d=> ?_;have j:=fv<|a.fA d;clear d;refine⟨λ_=>f _ j,?_⟩;apply tk (f _ j);refine lZ ?_;go_wp2;go_ret;exact⟨by simp[qL,G.oQ],j⟩
  .have D:=b.r H.2.1.M id;by_cases c:400<g
   .have o:(400:Int)<(g:Int):=Z;go_wp2_with (go_at_call 114;refine iT (FN 6 A _) ?_);go_ret;exact⟨by simp[qL,c],b⟩
   have G:Ð.wrap (k:Int)=(k:Int):=by rw[ö];omega
   have I:Ð.wrap (g:Int)=(g:Int):=by rw[ö];omega
   have o:¬(400:Int)<(g:Int):=Z;have J:(g:Int)<=400:=Z;have f:=fv λW (q:fw fB w W)=>Á (q.r H.2.1.C id)<|Á (q.r H.2.1.I id)<|Á (q.r H.2.1.M id)<|q.r H.2.1.N id;go_wp2_with fail;refine Ni f ?_;have a:=fv<|b.fA<|fw.gM _ _;iterate 23 apply tk (f _ a)
   refine nL 23 ?_;refine nU (aol (H.2.2.1.r.r a id) H.2.2.1.C (H.2.2.2.2.1.r a id) (H.2.2.2.2.2.1.r a) x y g k Q hy Z Z S.2.2) λt d=> ?_;have j:=fv<|a.fA d;clear d;refine⟨λ_=>f _ j,?_⟩;apply tk (f _ j);refine lZ ?_;go_wp2;go_ret;exact⟨by simp[qL,c],j⟩
  .have G:Ð.wrap (k:Int)=(k:Int):=by rw[ö];omega
   have f:=fv λW (q:fw fB w W)=>Á (q.r H.2.1.C id)<|Á (q.r H.2.1.I id)<|q.r H.2.1.N id;go_wp2_with fail;refine Ni f ?_;have a:=fv<|b.fA<|fw.gM _ _;iterate 17 apply tk (f _ a)
   refine nL 17 ?_;refine nU (anX (H.2.2.1.r.r a id) H.2.2.1.C (H.2.2.2.2.1.r a id) (H.2.2.2.2.2.1.r a) Q hy S.2.2) λt d=> ?_;have j:=fv<|a.fA d;clear d;refine⟨λ_=>f _ j,?_⟩;apply tk (f _ j);refine lZ ?_;go_wp2;go_ret;exact⟨U,j⟩
  .go_wp2_with (first|(go_at_call 122;refine gl (anl (H.2.2.1.r.r b id) H.2.2.1.C) λo f=> ?_;have D:=fv<|b.fA f;clear f)|(go_at_call 121;refine gl (aoB _ (aaC _) (H.2.2.2.2.2.2.1.r D)) λt d=> ?_;have G:=fv (D.fA d);clear d))
   go_ret;exact⟨U,G⟩
  .obtain⟨lp,lc,I,J⟩:=H.2.2.1.N;have d7:=b.r I id;have HL:=fv J;clear I J;generalize K:p.2.C.length=ln at*;have L:=fv K;clear K;go_wp2_with (first|(go_at_call 124;refine(aaq L.symm (L.oQ▸H.2.2.2.1.I) H.2.2.2.1.C (H.2.2.2.2.2.1.r b.oQ)<|rA.C HL.oQ b.oQ).mono ?_;rintro e o ⟨tv,rfl,c⟩;obtain⟨T,V,rfl⟩:=ji c.fE;generalize(p.2.C.map kL).length=tn at c|-;have j:=fv (show kD w (Æ T tn V) (p.2.C.map kL) o from c.S b.oQ);clear c)|(go_at_call 123;refine gl (TT (λz l=>by obtain⟨e,X,rfl⟩:=cI.1 l;exact FX (H.2.2.2.1.C e X).2) Z (by rw[dw];exact H.2.2.2.1.I) j) λt d=> ?_;have G:=fv (j.r.fA d);clear d))
   go_ret;exact⟨U,G⟩
  .obtain⟨lp,lc,I,J⟩:=H.2.2.1.S;have d7:=b.r I id;have HL:=fv J;clear I J;generalize K:p.2.r.length=ln at*;have L:=fv K;clear K;go_wp2_with (first|(go_at_call 125;refine(anY L.symm (L.oQ▸H.2.2.2.1.M) H.2.2.2.1.r (H.2.2.2.2.2.1.r b.oQ)<|rA.C HL.oQ b.oQ).mono ?_;rintro e o ⟨tv,rfl,c⟩;obtain⟨T,V,rfl⟩:=ji c.fE;generalize(p.2.r.map mZ).length=tn at c|-;have j:=fv (show kD w (Æ T tn V) (p.2.r.map mZ) o from c.S b.oQ);clear c)|(go_at_call 123;refine gl (TT (λz l=>by obtain⟨e,X,rfl⟩:=cI.1 l;exact TS (H.2.2.2.1.r e X).1 (H.2.2.2.1.r e X).2) Z (by rw[dw];have:=H.2.2.2.1.M;omega) j) λt d=> ?_;have G:=fv (j.r.fA d);clear d))
   go_ret;exact⟨U,G⟩
  have I:=b.r H.2.1.a id;have m:=H.2.2.2.2.2.2.2.2 _ b;cases c:pn vs P with
  |none=>
   rw[c]at m;have G:=fv m;clear m;go_wp2_with (first|(go_at_call 113;refine gl G λo f=> ?_;dsimp only[u9,Ŗ];have D:=fv<|b.fA f;clear f)|(go_at_call 114;refine iT (FN 3 A _) ?_))
   go_ret;exact⟨by simp[qL,c],D⟩|some d=>
   rw[c]at m;have G:=fv m;clear m;go_wp2_with (go_at_call 113;refine gl G λo f=> ?_;dsimp only[u9,Ŗ];have D:=fv<|b.fA f;clear f);apply mH (λM=>True/\True) [] fK;iterate 8 apply tk ⟨trivial,trivial⟩
   have a:=fv<|D.fA<|fw.gM _ _;refine nL 8 ?_;apply Đ (an2 (H.2.2.1.r.r a id)<|(H.2.2.2.2.2.2.2.1.M<|Jm c).r.r a id);rintro e t ⟨tv,rfl,f⟩;refine⟨_,U,λ_=>⟨trivial,trivial⟩,?_⟩;obtain⟨T,V,rfl⟩:=ji f.fE;generalize(ma p.2.s d.2.s 8).length=tn at f|-;have j:=fv<|f.S a.oQ;clear f;refine nL 9 ?_;refine nU (TT (aaD _ _) Z (by have:=TN p.2.s d.2.s 8;omega) j) λJ o=>⟨λ_=>⟨trivial,trivial⟩,?_⟩;have D:=fv<|j.r.fA o;clear o;apply tk ⟨trivial,trivial⟩;refine lZ ?_;go_wp2;go_ret;exact⟨by simp[qL,c],D⟩
end
end gT
namespace ju
open RowKit Lift gT
def lH(a:List (Nat×gf)):List gf:=a.map (·.2)
def aaE(d:gf)(l:List gf):gf:=l.foldl (λa b=>if a.h<b.h then b else a) d
theorem aaF:∀(a:List (Nat×gf))(d:Nat×gf),(wL d a).2=aaE d.2 (lH a)|[],_=>rfl|x::r,d=>by show(wL (zz d x) r).2=aaE (if d.2.h<x.2.h then x.2 else d.2) (lH r);rw[aaF r];unfold zz;split<;>rfl
theorem TW{a b:List (Nat×gf)}(h:lH a=lH b)(v:Int):(pn a v).map (·.2)=(pn b v).map (·.2):=by
 have c:∀i:Nat,(a[i]?).map (·.2)=(b[i]?).map (·.2):=λi=>by have:=congrArg (λl:List gf=>l[i]?) h;simpa[lH]using this
 unfold pn;grind [aaF]
theorem aoE{a b:List (Nat×gf)}(h:lH a=lH b):a.length=b.length:=by have:=congrArg List.length h;simpa[lH]using this
theorem aaG{a b:List (Nat×gf)}(h:lH a=lH b)(v:Int)(x:Nat)(c:List Tx):sW a v x c=sW b v x c:=by have d:=TW h v;unfold sW;grind [aoE]
theorem aoF{a b:List (Nat×gf)}(h:lH a=lH b)(q:Qn):vf a q=vf b q:=by
 have c:=TW h q.v;have d:=TW h q.C;have e:∀p:gf,qL a p q=qL b p q:=λp=>by unfold qL;grind
 unfold vf;grind
structure lA(s:List gf):Prop where
 I:0<s.length
 C:s.length<=40
 r:∀v∈s,TJ v/\ic v.s/\0<=v.h/\v.h<s.length
def sY(a:List (Nat×gf))(v:Int)(x:Nat)(b:List Tx):List gf:=lH a++(sW a v x b).1.toList
def lA.M{f:List (Nat×gf)}(h:lA (lH f)){g:List Tx}(k:∀t∈g,t.Ok)(m:g.length<=1000):lA (sY f c i g):=by
 unfold ju.sY;have B:(lH f).length=f.length:=by simp[lH]
 unfold sW;cases n:pn f c with
 |none=>simpa using h|some p=>
  have o:p.2∈lH f:=cI.2 ⟨p,Jm n,U⟩;let⟨C,l,D,E⟩:=h.r _ o;simp only;split;simpa using h;rename_i F;cases j:o9 i p.2.s g with
  |none=>simpa using h|some r=>
   simp only[Option.toList];have G:=h.C;have w:ic r.1:=by unfold o9 at j;obtain⟨H,y,rfl⟩:=Ø.1 j;exact(TK g k l (λ_ q=>by cases q) (λ_ q=>by cases q) (by simp;omega) (by simp;omega) y).1.r i<|uW _
   refine⟨fD,by simp;omega,λu z=> ?_⟩;obtain q|q:=dx.1 z;let⟨a,b,e,d⟩:=h.r u q;refine⟨a,b,e,?_⟩;rw[Ñ];simp;omega;simp at q;subst q;refine⟨anO k l m j,w,by show 0<=p.2.h+1;omega,?_⟩;rw[Ñ];show p.2.h+1<_;simp;omega
def jF(Y:fL)(u w:Ë):Prop:=∀(i j o:Nat)(v:Î),Y i j->u.cell? ⟨i,o,Ã⟩=Â v->∃a,w.cell? ⟨j,o,Ã⟩=Â a/\fI Y v a
section
variable{Y:fL}
theorem aoG{k:Ε}(h:fI Y (Ç k c) v):v=Ç k c:=by cases h;rfl
theorem aoH(h:fI Y (Å B) v):v=Å B:=by cases h;rfl
theorem Jq(h:fI Y (Ä<|Â a) v):∃b,v=Ä (Â b)/\iM Y a b:=by
 cases h with|kn q=>exact⟨_,U,q⟩
def Jr(h:fI Y (Æ O n i) v):∃b,v=Æ b n i/\∀a,O=Â a->∃d,b=Â d/\iM Y a d:=by
 cases h with|oP=>exact⟨Ã,U,λa q=>by cases q⟩|kZ q=>exact⟨_,U,λa e=>by cases e;exact⟨_,U,q⟩⟩
theorem aoI(a:kK v=Í)(h:fI Y v x):x=v:=by cases h<;>first|rfl|(simp[kK]at a;done)
theorem wN(h:iM Y ⟨b,i,Ã⟩ a):∃c,a=⟨c,i,Ã⟩/\Y b c:=by let⟨d,e,f⟩:=h;let⟨c,g,j⟩:=a;grind
theorem jF.r(a:jF Y u w){k:Ε}(h:Y i j)(d:u.cell? ⟨i,b,Ã⟩=Â (Ç k c)):w.cell? ⟨j,b,Ã⟩=Â (Ç k c):=by let⟨e,f,g⟩:=a i j b _ h d;grind [aoG]
theorem jF.I(a:jF Y u w)(h:Y i j)(b:u.cell? ⟨i,n,Ã⟩=Â (Å B)):w.cell? ⟨j,n,Ã⟩=Â (Å B):=by let⟨c,d,e⟩:=a i j n _ h b;grind [aoH]
theorem jF.C(a:jF Y u w)(c:kK v=Í)(h:Y i j)(b:u.cell? ⟨i,n,Ã⟩=Â v):w.cell? ⟨j,n,Ã⟩=Â v:=by let⟨d,e,f⟩:=a i j n _ h b;grind [aoI]
def TX(s:gT.St):∀v∈iU s,(∃n,v=Ç Ð n)\/∃p,v=Å p:=λv n=>by unfold iU at n;obtain⟨i,_,rfl⟩:=cI.1 n;unfold sf jW;split;exact É ⟨_,U⟩;split;exact Ì ⟨_,U⟩;exact É ⟨_,U⟩
def aoJ(a:jF Y u w){s:gT.St}(c:Y b i)(d:qH b s h u):qH i s h w:=by refine⟨λj v e=> ?_,a.r c d.h⟩;have f:=d.C j v e;obtain⟨n,rfl⟩|⟨p,rfl⟩:=TX s v<|eU e;exact a.r c f;exact a.I c f
def aaH(a:jF Y u w)(f:Y b i)(g:∀v∈l,kK v=Í)(h:Bz ⟨b,j,Ã⟩ n l u):Bz ⟨i,j,Ã⟩ n l w:=by let⟨p,c,k,m⟩:=h;let⟨G,q,r⟩:=a b i j _ f k;obtain⟨s,rfl,t⟩:=Jr r;refine⟨s,c,q,λd x e=> ?_⟩;let⟨H,y,z,B⟩:=m d x e;let⟨I,C,D⟩:=t _ z;obtain⟨E,rfl,F⟩:=wN D;exact⟨E,y,C,a.C (g x<|eU e) F B⟩
def aoK(a:jF Y u w){v:gf}(c:Y b i)(h:tY b v u):tY i v w:=⟨aoJ a c h.r,h.C,h.I,h.M,aaH a c (S3 _) h.N,aaH a c (V_ _) h.S⟩
def yx{R:Nat->gX->gQ->Prop}:∀(l:List gX)(k:Nat),(∀j x,l[j]?=Â x->∃y,R (k+j) x y)->∃a:List gQ,a.length=l.length/\∀j y,a[j]?=Â y->∃x,l[j]?=Â x/\R (k+j) x y
 |[],_,_=>⟨[],U,λj y h=>by simp at h⟩
 |x::r,k,h=>by
  let⟨y,c⟩:=h 0 x U;obtain⟨a,d,e⟩:=yx r (k+1) λj z b=>by let⟨q,f⟩:=h (j+1) z b;exact⟨q,by rwa[show k+1+j=k+(j+1) by omega]⟩
  refine⟨y::a,by simp[d],λj z b=> ?_⟩;cases j with
  |zero=>cases b;exact⟨x,U,c⟩
  |succ j=>
   let⟨q,f,g⟩:=e j z b;exact⟨q,f,by rwa[show k+(j+1)=k+1+j by omega]⟩
theorem Js(a:jF Y u w){e:List (Nat×gf)}(i:fI Y z jQ)(h:M8 z e u):∃c,lH c=lH e/\M8 jQ c w:=by
 obtain⟨I,n,cp,rfl,k,f⟩:=h;obtain⟨g,rfl,l⟩:=Jr i;let⟨c,m,J⟩:=yx (R:=λj (x y:Nat×gf)=>x.2=y.2/\∃q d,g=Â ⟨q,d,Ã⟩/\w.cell? ⟨q,d+j,Ã⟩=Â (Ä<|Â ⟨y.1,0,Ã⟩)/\tY y.1 y.2 w) e 0 λj x o=>by let⟨b,v⟩:=x;let⟨q,d,p,r,s⟩:=f.C j b v o;let⟨K,t,B⟩:=l _ p;obtain⟨y,rfl,C⟩:=wN B;let⟨L,D,E⟩:=a q y _ _ C r;obtain⟨M,rfl,F⟩:=Jq E;obtain⟨G,rfl,H⟩:=wN F;exact⟨(G,v),U,y,d,t,by rwa[dQ],aoK a H s⟩
 refine⟨c,?_,g,n,cp,U,k,⟨by rw[m];exact f.r,λj b v q=> ?_⟩⟩;refine dP λj=> ?_;unfold lH;grind;grind
end
def mJ(a:Nat->Prop)(B:Nat):fL:=⟨λi j=>i=j/\a i,B⟩
def aoL(a:Nat->Prop)(B:Nat):Bi (mJ a B):=⟨λ_ _ _ h k=>h.1.symm.trans k.1,λ_ _ _ h k=>h.1.trans k.1.symm,λi j h=>by rw[h.1]⟩
def BF{V:Nat->Prop}{B:Nat}(h:∀i,X i->V i):(mJ X B).r (mJ V B):=⟨λ_ _ q=>⟨q.1,h _ q.2⟩,λ_=>aoL V B,U⟩
def lU(B:Nat)(a:Nat->Prop)(w:Ë):Prop:=∀b,a b->∃c e d,w.heap[b]?=Â (Ô c e d)/\d.2<=c.size/\gD (mJ a B) c c/\0<c.size/\Ej c/\e≠304/\e≠305
section
variable{B:Nat}{V:Nat->Prop}
def lU.I(h:lU B X w)(k:lU B V w):lU B (λb=>X b\/V b) w:=by rintro b (q|q);let⟨c,e,a,d,f,g,i⟩:=h b q;exact⟨c,e,a,d,f,g.fG (BF λ_=>É),i⟩;let⟨c,e,a,d,f,g,i⟩:=k b q;exact⟨c,e,a,d,f,g.fG (BF λ_=>Ì),i⟩
def lU.C(h:lU B X w)(k:∀b,X b->u.heap[b]?=w.heap[b]?):lU B X u:=λb q=>by let⟨c,e,a,d,f⟩:=h b q;exact⟨c,e,a,by rwa[k b q],f⟩
theorem lU.r(h:lU B X w)(a:X b)(d:w.cell? ⟨b,i,Ã⟩=Â v):fI (mJ X B) v v:=by let⟨c,e,j,f,_,g,_⟩:=h b a;simp only[Ú,f,eW,æ,if_false]at d;obtain⟨q,_⟩|⟨x,k,l,m,n⟩:=g.M i;all_goals grind
def DN(h:fI (mJ X B) (Ä<|Â a) v):X a.block:=by
 cases h with|kn q=>exact q.1.2
def DO(h:fI (mJ X B) (Æ (Â a) n i) v):X a.block:=by
 cases h with|kZ q=>exact q.1.2
def aoM{Y:fL}(h:kK v=Í):fI Y v v:=by cases v<;>first|exact .nA _|exact .iZ _ _|(simp[kK]at h;done)
def pW{Y:fL}(h:∀v∈d.toList,fI Y v v):gD Y d d:=⟨U,λi a _=>h _<|eS.2<|ÿ a⟩
def aoN(h:kK v=Í):Ag v=Ó:=by
 cases v with
 |int k n=>cases k<;>first|rfl|(simp[kK]at h;done)
 |_=>rfl
def BG(h:∀v∈d.toList,Ag v=Ó):Ej d:=λk v a=>h v<|eS.2<|fg a
def Jt(v:Î)(i:Nat):Prop:=v.ownBlock=Â i
def Ju(X:Nat->Prop)(g b:Nat)(a c:Î)(i:Nat):Prop:=X i\/i=g\/i=b\/Jt a i\/Jt c i
def aaI{G:Ë}(a:mq T=Í)(h:va v T u)(o:∀j,v.ownBlock=Â j->G.heap.size<=j)(p:tU G.heap.size u):∀i,Jt v i->∃c e f,u.heap[i]?=Â (Ô c e f)/\f.2<=c.size/\gD (mJ V B) c c/\0<c.size/\Ej c/\e≠304/\e≠305:=λi b=>by
 obtain rfl|⟨g,n,c,k,rfl,l⟩:=h;cases b;have e:g=i:=by unfold Jt at b;simpa[Value.ownBlock]using b
 subst e;let⟨r,m⟩:=p g k T (0,0) (o g U) l a;exact⟨k,T,(0,0),l,eD _,pW λv d=>aoM<|m v d,r,BG λv d=>aoN<|m v d,(λq=>by rw[q]at a;cases a),(λq=>by rw[q]at a;cases a)⟩
def aaJ(h:va v T u)(a:∀i,Jt v i->V i):fI (mJ V B) v v:=by obtain rfl|⟨g,n,c,b,rfl,d⟩:=h;exact .oP _ _;exact fI.kZ (Y:=mJ V B) ⟨⟨U,a g U⟩,U,U⟩ n c
theorem aoO{G:Ë}(J:lU B X G)(k:fw fB G u)(K:∀i,X i->i<G.heap.size){l:List (Nat×gf)}{s:gT.St}(o:TF b s h G u)(r:TE l b G u m)(L:∀p∈l,X p.1): ∃e,(∀i,X i->e i)/\e m/\lU B e u/\∀i,e i->X i\/G.heap.size<=i:=by
 have t:=k.S _ λi c T w M y=>by rw[dj M]at y;cases y
 let⟨a,d,N,z,C,D,E⟩:=o.r;refine⟨Ju X m b a d,λi q=>É q,Ì<|É U,?_,?_⟩;rintro i (q|rfl|rfl|q|q);let⟨c,e,w,n,x,f,j⟩:=J i q;exact⟨c,e,w,by rwa[k.N i (K i q) id],x,f.fG (BF λ_=>É),j⟩;let⟨F,n,x,f⟩:=r.r;have H:∀v∈F.toList,v=Ä Ã\/∃j,v=Ä (Â ⟨j,0,Ã⟩)/\Ju X i b a d j:=λv e=>by obtain q|q|q:=f v e;unfold tZ at q;obtain⟨p,I,rfl⟩:=cI.1 q;exact Ì ⟨_,U,É<|L p I⟩;exact Ì ⟨_,q,Ì<|Ì<|É U⟩;exact É q
 refine⟨F,136,(0,0),n,eD _,pW λv e=> ?_,x,BG λv e=> ?_,A,A⟩;obtain rfl|⟨j,rfl,I⟩:=H v e;exact .mN;exact .kn ⟨⟨U,I⟩,U,U⟩;obtain rfl|⟨j,rfl,I⟩:=H v e<;>rfl;have f:∀v∈jY s a++[Ç Ê h,d],fI (mJ (Ju X m i a d) B) v v/\Ag v=Ó:=λv e=>by
  rw[Bt]at e;have I:=aaJ (B:=B) (V:=Ju X m i a d) z λj q=>Ì<|Ì<|Ì<|É q;have F:=aaJ (B:=B) (V:=Ju X m i a d) C λj q=>Ì<|Ì<|Ì<|Ì q;have H:∀{x:Î} {T:ð},va x T u->Ag x=Ó:=λ{x T} q=>by obtain rfl|⟨_,_,_,_,rfl,_⟩:=q<;>rfl
  obtain q|q:=dx.1 e;obtain q|q:=dx.1 q;obtain⟨n,rfl⟩|⟨p,rfl⟩:=TX s v q;exact⟨.iZ _ _,U⟩;exact⟨.ly _,U⟩;grind;simp at q;obtain rfl|rfl:=q;exact⟨.iZ _ _,U⟩;grind
 exact⟨_,147,(0,0),N,eD _,pW λv e=>(f v<|fN e).1,by simp[oe],BG λv e=>(f v<|fN e).2,A,A⟩;exact aaI U z D t i q;exact aaI U C E t i q;rintro i (q|rfl|rfl|q|q);exact É q;exact Ì r.C;exact Ì o.C;exact Ì<|D i q;exact Ì<|E i q
def Nk{Y:fL}(h:fI Y v x):fI (mJ X B) v v->fI (mJ (λj=>∃i,X i/\Y i j) B) x x:=by
 induction h with|nA b=>exact λ_=> .nA b|iZ k n=>exact λ_=> .iZ k n|ly s=>exact λ_=> .ly s|mN=>exact λ_=> .mN|@kn a a' q=>exact λz=>fI.kn (Y:=mJ (λj=>∃i,X i/\Y i j) B) ⟨⟨U,_,DN z,q.1⟩,U,U⟩|oP n c=>exact λ_=> .oP n c|@kZ a a' q n c=>exact λz=>fI.kZ (Y:=mJ (λj=>∃i,X i/\Y i j) B) ⟨⟨U,_,DO z,q.1⟩,U,U⟩ n c|uq=>exact λ_=> .uq|fn f=>exact λ_=> .fn f|uu=>exact λ_=> .uu|uw=>exact λ_=> .uw|uy=>exact λ_=> .uy|xc t _ b=>exact λz=> .xc t (b (by cases z with|xc _ y=>exact y))|pF f _ b=>exact λz=> .pF U λi c _=>b i (by rwa[f]) c (by cases z with|pF _ y=>exact y i _ _)|nD f _ b=>exact λz=> .nD U λi c _=>b i (by rwa[f]) c (by cases z with|nD _ y=>exact y i _ _)
def aoP{Y:fL}(h:fI Y v x):Ag x=Ag v:=by cases h<;>rfl
theorem TY{Y:fL}{r:Nat->Prop}(h:jI Y r u w)(s:lU B X u):lU B (λj=>∃i,X i/\Y i j) w:=by
 rintro j ⟨i,t,x⟩;let⟨c,a,e,F,y,z,C,b,G,H,I⟩:=h.r i j x;let⟨d,J,K,m,_,D,L,E,n,o⟩:=s i t;rw[z]at m;cases m;have M:=b.I.resolve_right λq=>q.2.1.elim n o;refine⟨a,e,y,C,?_,pW λv f=> ?_,Z,BG λv f=> ?_,n,o⟩;grind;obtain⟨k,g,rfl⟩:=cJ f;have l:k<a.size:=fN g
 have:=Nk (b.C k Z l)<|D.C k Z Z;simpa using this;obtain⟨k,g,rfl⟩:=cJ f;have l:k<a.size:=fN g;have p:=aoP<|b.C k Z l;rw[(E k c[k]<|fj Z)]at p;simpa using p
def zF{Y:fL}(h:jI Y X u w):jF Y u w:=λi j o v b c=>h.K (a:=⟨i,o,Ã⟩) (a':=⟨j,o,Ã⟩) ⟨b,U,U⟩ c
end
end ju
namespace Lift
def aaK{c:gX->gQ->Option (ForInStep gQ)}{I:gQ->Prop}(d:∀a b s,I b->c a b=Â s->I s.value): ∀(l:List gX)(b r:gQ),I b->forIn l b c=Â r->I r
 |[],b,r,hi,h=>by simp at h;subst h;exact hi
 |a::l,b,r,hi,h=>by
  rw[bV]at h;cases e:c a b with
  |none=>rw[e]at h;simp at h|some s=>
   rw[e]at h;have:=d a b s hi e;cases s with|done x=>simp at h;subst h;exact this|yield x=>simp at h;exact aaK d l x r this h
def kS.iG(h:kS v):∀x∈v.cells,kS x:=by
 intro x a;cases h with
 |pF h=>
  obtain⟨i,b,rfl⟩:=Array.mem_iff_getElem.1 a;exact h i b|nD h=>simp[Ħ]at a;subst a;exact .nD h|_=>simp[Ħ]at a;subst a;constructor
def ZP(a:ð->Option ĥ):Prop:=∀t i z,a t=Â i->i.zero=Â z->kS z
def T3(h:∀x∈d,kS x):kS (ŭ d):=.pF λ_ a=>h _<|ÿ a
theorem aoQ{l:ð->Option ĥ}(h:ZP l){m:Array Field}(g:Ũ l m=Â zJ)(q:zJ.zero=Â z):kS z:=by
 unfold Ũ at g;simp only[<-cz]at g;generalize t:(forIn m.toList _ _:Option _)=L at g;cases L with
 |none=>simp at g|some r=>
  have u:=aaK (I:=λx=>∀a,x.2.2.2.2.2.2.2.1=Â a->∀v∈a,kS v) ?_ _ _ _ ?_ t;have:∃a,r.2.2.2.2.2.2.2.1=Â a/\z=ŭ a:=by grind [Ø]
  obtain⟨a,e,rfl⟩:=this;exact T3<|u a e
  .intro f b s w d;have y:∀(e:Option Î)(k:Nat)(x:Option (Array Î)),(∀z,e=Â z->kS z)->x=(if k>Ν then Ã else do pure ((<-b.2.2.2.2.2.2.2.1)++(<-e).cells))->∀a,x=Â a->∀v∈a,kS v:=by
    intro e k x B C a c v n;subst C;split at c;simp at c;cases j:b.2.2.2.2.2.2.2.1 with
    |none=>rw[j]at c;simp at c|some E=>
     cases o:e with
     |none=>rw[j,o]at c;simp at c|some D=>
      rw[j,o]at c;simp at c;subst c;obtain p|p:=dq.1 n;exact w _ j v p;exact(B D o).iG v p
   cases e:l f.type with
   |none=>rw[e]at d;simp at d|some j=>
    rw[e,å,ef]at d;have k:=y j.zero (b.2.1+j.size) _ (λz q=>h _ _ _ e q) U;generalize(if b.2.1+j.size>Ν then Ã else(do pure ((<-b.2.2.2.2.2.2.2.1)++(<-j.zero).cells):Option (Array Î)))=X at d k;generalize(if b.1.size+1<m.size then ";" else "")=Y at d;simp only[bind,pure,Option.bind]at d;repeat' split at d
    all_goals first|(simp only[dI]at d;subst d;exact k)|(simp at d;done)
  intro a c v n;simp at c;subst c;simp at n
def aoR{c:ð->Option ĥ}(h:ZP c){d:TypeDesc}(a:aN c d=Â zJ)(b:zJ.zero=Â z):kS z:=by
 unfold aN at a;cases d with
 |struct k=>exact aoQ h a b|array n e=>
  simp only[å,Ü,ü,dI]at a;obtain⟨f,v,st,_,rfl⟩:=a;simp only at b;split at b;simp at b;split at b;simp at b;subst b;exact T3 fD;simp only[Ø]at b;obtain⟨j,g,rfl⟩:=b;refine T3 λx k=> ?_;simp only[Array.mem_flatten,Array.mem_replicate]at k;obtain⟨l,⟨_,rfl⟩,k⟩:=k;exact(h _ _ _ v g).iG x k|pointer e=>
  simp only[å,Ü,ü]at a;let⟨f,v,a⟩:=a;repeat' split at a
  all_goals first|(simp at a;done)|(simp only[Ü,dI]at a;obtain⟨_,_,rfl⟩:=a;simp only[Ņ,dI]at b;subst b;constructor)
 |slice e=>
  simp only[å,Ü,ü,dI]at a;obtain⟨_,_,_,_,rfl⟩:=a;simp only[Ņ,dI]at b;subst b;constructor|map k e=>
  simp only[å,Ü,ü,dI]at a;obtain⟨_,_,_,_,_,_,_,_,rfl⟩:=a;simp only[Ņ,dI]at b;subst b;constructor|chan k e=>
  simp only[å,Ü,ü,dI]at a;obtain⟨_,_,_,_,rfl⟩:=a;simp only[Ņ,dI]at b;subst b;constructor|func k e v=>
  simp only[å,Ü,ü,dI]at a;obtain⟨_,_,rfl⟩:=a;simp only[Ņ,dI]at b;subst b;constructor|_=>simp at a
def aaL{T:Tables}(a:∀(t:Nat)(i:ĥ)(z:Î),T.types[t]?=Â i->i.zero=Â z->kS z):∀f,ZP<|Ÿ T f|0=>λt i z h=>by simp[Ÿ]at h|f+1=>λt i z h b=>by unfold Ÿ at h;split at h;exact a t i z h b;simp only[Ü]at h;let⟨d,_,c⟩:=h;exact aoR (aaL a f) c b
def aoS(a:∀(t:Nat)(i:ĥ)(z:Î),P.types[t]?=Â i->i.zero=Â z->kS z):pH P:=λt i z h b=>by have h:P.toTables.info? t=Â i:=h;unfold Tables.info? at h;split at h;exact a t i z h b;exact aaL a _ t i z h b
end Lift
namespace fO
open Conc Lift RowKit Conc.Lib ConcR.Gen
open YtgpphkdoanciiaaGreatDoor
def T4:Î->Bool|ŭ a=>a.toList.all Ew|v=>Ew v
def aaM(h:T4 v=Í):kS v:=by
 cases v with|agg b=>exact .pF λi a=>G1<|(eI.1 h) _<|eS.2<|ÿ a|_=>exact G1 h
def aaN:Î->Bool|Ý a=>a.toList.all T4|v=>T4 v
def aoT(h:aaN v=Í):kS v:=by
 cases v with|tuple b=>exact .nD λi a=>aaM<|(eI.1 h) _<|eS.2<|ÿ a|_=>exact aaM h
def zG(i:ĥ):Bool:=match i.zero with|some z=>aaN z|none=>Í
def aoU(h:P.types.toList.all zG=Í):pH P:=aoS λt i z a b=>by have:=(eI.1 h) i<|eS.2<|fg a;rw[zG,b]at this;exact aoT this
def yw:pH À:=aoU gq
end fO
namespace ju
open Conc RowKit Lift gT fO
noncomputable def nB:Nat:=À.globals.size
def rB(a:Nat->Prop)(b:Nat):Prop:=a b\/b=1\/b=2\/b=3\/b=4
def Nl(b:Nat)(e:ð)(w:Ë):Prop:=∃c a,w.heap[b]?=Â (Ô c e a)/\a.2<=c.size/\a.2<=16/\0<c.size/\∀v∈c.toList,∃k n,v=Ç k n
structure ox(w:Ë):Prop where
 fM:nB<=w.heap.size
 M:lU nB (λb=>b=1\/b=2) w
 I:Nl 3 304 w
 C:Nl 4 305 w
 S:gT.pV w
 jx:lk w
 N:sw w
section
variable{V:Nat->Prop}
theorem ox.r{w':Ë}(h:ox w)(f:nB<=w'.heap.size)(k:∀b,b=1\/b=2\/b=3\/b=4->w'.heap[b]?=w.heap[b]?):ox w':=by
 have d:∀b o,b=1\/b=2\/b=3\/b=4->w'.cell? ⟨b,o,Ã⟩=w.cell? ⟨b,o,Ã⟩:=λb o e=>by simp only[Ú,k b e]
 refine⟨f,h.M.C λb e=>k b<|e.imp id É,?_,?_,?_,?_,?_⟩;let⟨c,i,a,r⟩:=h.I;exact⟨c,i,by rwa[k 3 fD],r⟩;let⟨c,i,a,r⟩:=h.C;exact⟨c,i,by rwa[k 4 fD],r⟩;have c:=h.S;have i:À.globalNamed "internal/strconv.uint64pow10"=Â 1:=fK
 unfold gT.pV Ī Ķ at*;grind;let⟨c,g,a⟩:=h.jx.M;refine⟨⟨c,g,by rwa[k 2 fD]⟩,λi r j=> ?_⟩;rw[d 2 _ fD,d 2 _ fD,d 2 _ fD];exact h.jx.I i r j;have:=h.N;unfold sw at*;grind
def aaO(u:lU nB X w)(x:∀b,X b->mU b=Ó)(g:ox w):zq (rB X) (rB X) nB w:=by
 have p:∀{a:Nat->Prop} {c:Array Î},(∀b,a b->rB X b)->gD (mJ a nB) c c->gD (nJ (rB X) nB) c c:=λ{a c} hX r=>r.fG<|BF hX;refine⟨?_,g.fM⟩;have s:∀b e,(e=304\/e=305)->mU b=Í->Nl b e w->∃c e d,w.heap[b]?=Â (Ô c e d)/\d.2<=c.size/\gD (nJ (rB X) nB) c c/\(rB X b->0<c.size/\(mU b=Í->(e=304\/e=305)/\d.2<=16)/\(mU b=Ó->Ej c)):=λb e y B h=>by let⟨c,d,f,j,l,m,o⟩:=h;exact⟨c,e,d,f,j,pW λv i=>by obtain⟨k,n,rfl⟩:=o v i;exact .iZ _ _,λ_=>⟨m,λ_=>⟨y,l⟩,λq=>by rw[B]at q;cases q⟩⟩
 rintro b (q|q|q|rfl|rfl);let⟨c,e,d,f,j,l,m,o,_⟩:=u b q;exact⟨c,e,d,f,j,p (λ_=>É) l,λ_=>⟨m,λt=>(by rw[x b q]at t;cases t),λ_=>o⟩⟩;let⟨c,e,d,f,j,l,m,o,_⟩:=g.M b<|É q;exact⟨c,e,d,f,j,p (λi k=>k.elim (λz=>Ì<|É z) λz=>Ì<|Ì<|É z) l,λ_=>⟨m,λt=>(by rw[q]at t;cases t),λ_=>o⟩⟩;let⟨c,e,d,f,j,l,m,o,_⟩:=g.M b<|Ì q;exact⟨c,e,d,f,j,p (λi k=>k.elim (λz=>Ì<|É z) λz=>Ì<|Ì<|É z) l,λ_=>⟨m,λt=>(by rw[q]at t;cases t),λ_=>o⟩⟩;exact s 3 304 (É U) U g.I;exact s 4 305 (Ì U) U g.C
def rC(a:mU b=Ó\/i<16)(h:w.cell? ⟨b,i,Ã⟩=Â v):(World.tp (kV V w) xQ 0).cell? ⟨b,i,Ã⟩=Â v:=by
 have j:(World.tp (kV V w) xQ 0).heap[b]?=(w.heap[b]?).map (qD V b):=Dl b;simp only[Ú,j];simp only[Ú]at h;cases g:w.heap[b]? with
 |none=>rw[g]at h;cases h
 |some k=>
  rw[g]at h;cases k with
  |cells c e m=>
   simp only[dT,qD,eW,æ,if_false]at h|-;split;rename_i d;split at d;split at d;rename_i l;cases d;obtain a|a:=a;rw[l]at a;cases a;rw[wB,de];simp;exact⟨by have:=(fp.1 h).1;omega,h⟩;cases d;exact h;cases d;exact h;rename_i f;split at f;split at f<;>exact absurd U<|f _ _ _;exact absurd U<|f _ _ _
  |_=>cases h
def aaP{T:Υ}(d:lU nB X w)(e:∀b,X b->mU b=Ó):jF (mJ X nB) w (World.tp (kV V w) T 0):=by rintro i j o v ⟨rfl,a⟩ c;exact⟨v,rC (É<|e i a) c,d.r a c⟩
end
def RD(s:List gf)(b:Î)(a:Nat->Prop)(w:Ë):Prop:=∃c,lH c=s/\lA s/\M8 b c w/\lU nB a w/\fI (mJ a nB) b b
section
variable{V:Nat->Prop}{s:List gf}
def aaQ(h:lU nB X w)(k:∀b,X b->u.heap[b]?=w.heap[b]?):jF (mJ X nB) w u:=by rintro i j o v ⟨rfl,a⟩ c;exact⟨v,by simp only[Ú,k i a];exact c,h.r a c⟩
def RD.r(h:RD s v X w)(k:∀b,X b->u.heap[b]?=w.heap[b]?):RD s v X u:=by let⟨l,d,e,f,a,c⟩:=h;let⟨g,i,j⟩:=Js (aaQ a k) c f;exact⟨g,i.trans d,e,j,a.C k,c⟩
def Jv(r:Nat)(q:Qn)(w:Ë):Prop:=QAt r q.x q.y q.g q.k q.r q.v q.C q.I w
def aaR{Y:fL}(a:jF Y u w){r:Nat}{q:Qn}(b:Y r i)(h:Jv r q u):Jv i q w:=⟨a.r b h.C,a.r b h.I,a.r b h.M,a.r b h.N,a.r b h.S,a.r b h.Y,a.r b h.a,a.r b h.b⟩
def aoV{T:Υ}(g:ox w):gT.pV (World.tp (kV V w) T 0):=by
 have a:=g.S;have h:À.globalNamed "internal/strconv.uint64pow10"=Â 1:=fK;unfold gT.pV Ī Ķ at*;rw[h]at a|-;simp only[ef]at a|-;have i:(World.tp (kV V w) T 0).heap[1]?=(w.heap[1]?).map (qD V 1):=Dl 1;rw[i];cases f:w.heap[1]? with
 |none=>rw[f]at a;cases a
 |some j=>
  rw[f]at a;cases j with
  |cells c e k=>
   simp only[dT,qD,mU]at a|-;split;rename_i b;split at b<;>(simp at b;obtain⟨rfl,_⟩:=b;exact a);rename_i d;split at d;exact absurd U<|d _ _ _;exact absurd U<|d _ _ _|_=>cases a
theorem aaS{T:Υ}(g:ox w):lk (World.tp (kV V w) T 0):=by let⟨f,h,d⟩:=g.jx.M;refine⟨?_,λi r e=> ?_⟩;have a:(World.tp (kV V w) T 0).heap[2]?=(w.heap[2]?).map (qD V 2):=Dl 2;rw[a,d];simp only[dT,qD,mU];grind;let⟨a,b,c⟩:=g.jx.I i r e;exact⟨rC (É U) a,rC (É U) b,rC (É U) c⟩
def aoW{T:Υ}(g:ox w):sw (World.tp (kV V w) T 0):=rC (Ì A) g.N
theorem BH{T:Υ}:lb (World.tp (kV V w) T 0):=λi o h=>j_ (Sh:=V) (w:=w) i o h
theorem aoX{l:fx}{q:Qn}{r:Nat}(u:RD s v X l.w)(G:∀b,X b->l.M b)(x:lU nB V l.w)(H:∀b,V b->l.M b)(f:V r)(y:Jv r q l.w)(ok:q.Ok)(g:ox l.w)(I:∀b,b=1\/b=2\/b=3\/b=4->l.M b)(h:∀b,X b\/V b->mU b=Ó)(j:List (Nat×gf))(z:lH j=s): Fy (λg=>zr g=Í) 67 #[v,Ä<|Â ⟨r,0,Ã⟩] l (rB λb=>X b\/V b) λk _=>k=Å (vf j q):=by
 let⟨J,c,d,B,D,m⟩:=u;have o:=D.I x;refine⟨?_,aaO o h g,?_,?_,λT=> ?_⟩
 .rintro b (q|q);all_goals grind
 intro b a;unfold zr at a;simp at a;exact Ì a;refine pW λk a=> ?_;simp at a;obtain rfl|rfl:=a;exact m.fG (BF λi p=>É<|É p);exact fI.kn (Y:=nJ (rB λb=>X b\/V b) nB) ⟨⟨U,É<|Ì f⟩,U,U⟩;have a:=aaP (V:=rB λb=>X b\/V b) (T:=T) o h;obtain⟨E,e,K,n,cp,rfl,L,t⟩:=Js a (m.fG<|BF λi p=>É p) B;have i:n=(lH E).length:=by rw[t.r];simp[lH]
 have N:=d.I;have O:=d.C;rw[e,c]at i;have C:=aoD (cp:=cp) t Z Z (λp F=> ?_) (aaR a ⟨U,Ì f⟩ y) ok (aaS g) (aoV g)<|aoW g;refine gl C λP k=> ?_;exact⟨by rw[aoF<|e.trans<|c.trans z.symm],k.iG BH⟩;have:p.2∈s:=by rw[<-c,<-e];exact cI.2 ⟨p,F,U⟩
 exact(d.r _ this).1
end
def DR(r:Nat)(v:Int)(x:Nat)(c:List Tx)(w:Ë):Prop:=∃a n d b,DI r v x a n d w/\FL a n b w/\ou b=c/\n<=1000
section
variable{V:Nat->Prop}{w':Ë}{s:List gf}
def aaT(h:lU nB X w):∀i,X i->i<w.heap.size:=λi a=>by let⟨c,e,d,b,_⟩:=h i a;exact(fp.1 b).1
theorem aaU{T:Υ}(f:mU b=Ó)(h:w.heap[b]?=Â (Ô d e xJ))(i:xJ.2<=d.size):∃a,(World.tp (kV V w) T 0).heap[b]?=Â (Ô d e a)/\a.2<=d.size:=by have g:(World.tp (kV V w) T 0).heap[b]?=(w.heap[b]?).map (qD V b):=Dl b;rw[g,h];simp only[dT,qD,f,æ,if_false];grind
def aoY{T:Υ}(h:lU nB X w)(d:∀b,X b->mU b=Ó):lU nB X (World.tp (kV V w) T 0):=λb a=>by let⟨c,e,m,f,g,i⟩:=h b a;let⟨j,k,l⟩:=aaU (V:=V) (T:=T) (d b a) f g;exact⟨c,e,j,k,l,i⟩
def aoZ{T:Υ}(k:lU nB X w)(l:∀b,X b->mU b=Ó){r:Nat}{v:Int}{o:List Tx}(p:X r)(h:DR r v i o w):DR r v i o (World.tp (kV V w) T 0):=by
 let⟨E,n,cp,F,g,s,G,H⟩:=h;have m:=l r p;refine⟨E,n,cp,F,⟨rC (É m) g.M,rC (É m) g.N,rC (É m) g.I⟩,⟨s.C,λj a t q=> ?_⟩,G,H⟩;let⟨tb,I,u,y,d,J⟩:=s.r j a t q;have z:X tb:=by have:=k.r p g.I;rw[u]at this;exact DO this
 have B:=DN<|k.r z y;have f:=l a B;let⟨K,O,C⟩:=d.b;let⟨c,e,P,D,L,_⟩:=k a B;rw[C]at D;cases D;obtain⟨M,N,_⟩:=aaU f C L;exact⟨tb,I,u,rC (É<|l tb z) y,⟨⟨K,M,N⟩,rC (É f) d.r,rC (É f) d.C,rC (É f) d.I,rC (É f) d.M,rC (É f) d.S,rC (É f) d.N⟩,J⟩
def Rg(s:List gf)(v:Î)(u:Ë):Prop:=∃X,RD s v X u
def Rg.tp{T:Υ}(h:Rg s v w):Rg s v (World.tp w T n):=by let⟨X,h⟩:=h;exact⟨X,h.r λ_ _=>U⟩
def ao0{Y:fL}{d:Nat->Prop}(h:rO Y d u w)(a:fI Y v x)(e:Rg s v u):∃c,RD s x c w/\∀b,c b->∃i,Y i b:=by let⟨X,f⟩:=e;have g:RD s v X {u with tape:=w.tape,drawn:=w.drawn}:=f.r λ_ _=>U;let⟨t,j,k,l,m,n⟩:=g;let⟨o,p,q⟩:=Js (zF h) a l;exact⟨_,⟨o,p.trans j,k,q,TY h m,Nk a n⟩,λb ⟨i,_,r⟩=>⟨i,r⟩⟩
theorem ao1{l:fx}{r:Nat}{d:List Tx}(hRD:RD s v X l.w)(hU:∀b,X b->l.M b)(N:lU nB V l.w)(hV:∀b,V b->l.M b)(O:V r)(hq:DR r h m d l.w)(hx:m<8)(y:-1<=h)(zH:∀t∈d,t.Ok)(hn:d.length<=1000)(g:ox l.w)(hG:∀b,b=1\/b=2\/b=3\/b=4->l.M b)(B:∀b,X b\/V b->mU b=Ó)(D:List (Nat×gf))(I:lH D=s): Fy (λg=>zr g=Í) 66 #[v,Ä<|Â ⟨r,0,Ã⟩] l (rB λb=>X b\/V b) λz u=>∃p n c,z=Ý #[Æ p n c,Å (sW D h m d).2]/\Rg (sY D h m d) (Æ p n c) u:=by
 let⟨vs,h1,E,h3,P,f⟩:=hRD;have Q:=P.I N;refine⟨?_,aaO Q B g,?_,?_,λT=> ?_⟩
 .rintro b (q|q);all_goals grind
 intro b u;unfold zr at u;simp at u;exact Ì u;refine pW λh y=> ?_;simp at y;obtain rfl|rfl:=y;exact f.fG (BF λi j=>É<|É j);exact fI.kn (Y:=nJ (rB λb=>X b\/V b) nB) ⟨⟨U,É<|Ì O⟩,U,U⟩;have o:=aoY (V:=rB λb=>X b\/V b) (T:=T) P λb q=>B b<|É q;obtain⟨z,k1,S,n,cp,rfl,W,F⟩:=Js (aaP (V:=rB λb=>X b\/V b) (T:=T) Q B) (f.fG<|BF λi j=>É j) h3;obtain⟨tp,tn,tc,a,q1,q2,rfl,q4⟩:=(aoZ (V:=rB λb=>X b\/V b) (T:=T) N (λb q=>B b<|Ì q) O hq);have c:=k1.trans h1;have hlen:n=s.length:=by rw[F.r,<-c];simp[lH]
 have ao2:=E.I;have hle:=E.C;have Fp:lb (World.tp (kV (rB λb=>X b\/V b) l.w) T 0):=BH;have C:=anG F Z Z W (λp J=>by
  have:p.2∈s:=by rw[<-c];exact cI.2 ⟨p,J,U⟩
  have:=(E.r _ this).2.2.2;omega) q1 q2 q4 (aaS g) hx y
 have u:sY z h m (ou a)=sY D h m (ou a):=by unfold sY;rw[aaG<|c.trans I.symm,c,I]
 have H:lA (sY z h m<|ou a):=lA.M (by rwa[c]) zH hn;have ha:=aaG (c.trans I.symm) h m<|ou a;generalize World.tp (kV (rB λb=>X b\/V b) l.w) T 0=G at*;apply C.mono;rintro e u' ⟨k,hA⟩;obtain⟨K,rfl⟩|⟨nv,b,uT,K,rfl,e3,e4,gb,gn,gc,rfl,e6⟩:=hA;refine⟨⟨S,n,cp,by rw[ha],?_⟩,k.iG Fp⟩;rw[<-u];have L:sY z h m (ou a)=s:=by unfold sY;rw[K,c];simp
 rw[L]at H|-;exact⟨X,z,c,H,⟨S,n,cp,U,W,F.I k⟩,o.C λi j=>k.N i (aaT o i j) id,f⟩;let⟨i,m1,m2,m3,_⟩:=aoO o k (aaT o) e4 e6 λp J=>by
  let⟨j,hj⟩:=ek J;let⟨sb,so,f1,f2,_⟩:=F.C j p.1 p.2 hj;have:X sb:=by rw[f1]at f;exact DO f
  exact DN<|o.r this f2
 refine⟨⟨Â ⟨gb,0,Ã⟩,gn,gc,by rw[ha],?_⟩,k.iG Fp⟩;rw[<-u];have L:sY z h m (ou a)=lH (z++[(b,nv)]):=by unfold sY;rw[K];simp[lH]
 rw[L]at H|-;exact⟨i,_,U,H,e3,m3,fI.kZ (Y:=mJ i nB) ⟨⟨U,m2⟩,U,U⟩ gn gc⟩
end
structure yd where
 r:Nat->Int×Nat×List Tx
 C:Nat->Qn
def pz(s:List gf):List (Nat×gf):=s.map λv=>(0,v)
def FY(s:List gf):lH (pz s)=s:=by simp[lH,pz,Function.comp_def]
def BI(s:List gf)(i:Int×Nat×List Tx):List gf:=sY (pz s) i.1 i.2.1 i.2.2
def rD(a:yd)(I:List Nat)(b:List gf):Nat->List gf|0=>b|k+1=>BI (rD a I b k)<|a.r<|I.getD k 0
def zI(a:yd)(kd:Nat->Int)(p:Nat)(s:List gf):ByteArray:=if kd p=1 then(sW (pz s) (a.r p).1 (a.r p).2.1 (a.r p).2.2).2 else vf (pz s) (a.C p)
def jd(e:fx)(a:Nat->Prop)(c:yd)(kd:Nat->Int)(R:Nat)(d:List gf)(f:Nat->Prop):zo where
 γ:=List gf
 C:=d
 M:=λk s g=>g=BI s (c.r<|(iO kd R).getD k 0)
 RD:=λs h V w=>RD s h V w/\∀b,V b->a b\/e.w.heap.size<=b
 I:=λp=>zI c kd p<|rD c (iO kd R) d<|gw kd p
 r:=f
def T5{kd:Nat->Int}:∀(R k:Nat),k<(iO kd R).length->gw kd ((iO kd R).getD k 0)=k
 |0,k,h=>by simp[iO]at h
 |R+1,k,h=>by
  by_cases q:kd R=1;rw[uS q]at h|-;obtain z|z:=ey k (iO kd R).length;have e:(iO kd R++[R]).getD k 0=(iO kd R).getD k 0:=by simp[ċ,eR z]
  rw[e];exact T5 R k z;have e:k=(iO kd R).length:=by simp at h;omega
  subst e;simp[ċ,gw];rw[xK q]at h|-;exact T5 R k h
section
variable{y:Nat->Prop}
def Nn(h:lU nB y w)(g:ox w):∀b,y b->mU b=Ó:=λb i=>by
 let⟨c,e,n,f,_,_,_,_,j,k⟩:=h b i;cases d:mU b with
 |false=>rfl|true=>
  unfold mU at d;simp at d;obtain rfl|rfl:=d;let⟨l,m,a,_⟩:=g.I;rw[f]at a;cases a;exact absurd U j;let⟨l,m,a,_⟩:=g.C;rw[f]at a;cases a;exact absurd U k
def ao3(p:lU nB X w)(k:∀b,X b->u.heap[b]?=w.heap[b]?){r:Nat}{s:List Tx}(g:X r)(h:DR r c i s w):DR r c i s u:=by
 have d:∀{b o:Nat} {z:Î},X b->w.cell? ⟨b,o,Ã⟩=Â z->u.cell? ⟨b,o,Ã⟩=Â z:=λ{b o z} l q=>by simp only[Ú,k b l];exact q
 let⟨D,n,cp,E,m,y,F,G⟩:=h;refine⟨D,n,cp,E,⟨d g m.M,d g m.N,d g m.I⟩,⟨y.C,λj a t q=> ?_⟩,F,G⟩;let⟨tb,H,B,C,e,I⟩:=y.r j a t q;have l:X tb:=by have:=p.r g m.I;rw[B]at this;exact DO this
 have f:=DN<|p.r l C;let⟨J,K,L⟩:=e.b;exact⟨tb,H,B,d l C,⟨⟨J,K,by rwa[k a f]⟩,d f e.r,d f e.C,d f e.I,d f e.M,d f e.S,d f e.N⟩,I⟩
end
structure Jw(l0:fx)(bt:yd)(kd:Nat->Int)(rq:Nat->Nat)(R:Nat)(Q:Nat->Prop):Prop where
 M:ox l0.w
 I:∀b,b=1\/b=2\/b=3\/b=4->l0.O b
 C:lU nB Q l0.w
 fE:∀b,Q b->l0.O b
 r:∀p,p<R->Q (rq p)
 lX:∀p,p<R->kd p=1->DR (rq p) (bt.r p).1 (bt.r p).2.1 (bt.r p).2.2 l0.w/\(bt.r p).2.1<8/\-1<=(bt.r p).1/\(∀t∈(bt.r p).2.2,t.Ok)/\(bt.r p).2.2.length<=1000
 SI:∀p,p<R->kd p≠1->Jv (rq p) (bt.C p) l0.w/\(bt.C p).Ok
def aaV{V:Nat->Prop}{l:fx}{a:Î->Ë->Prop}(h:Fy X F d l V vQ)(b:∀v u,vQ v u->a v u):Fy X F d l V a:=⟨h.N,h.S,h.I,h.r,λT=>(h.C T).mono λe u q=>by
  cases e with|returned v=>exact⟨b v u q.1,q.2⟩|_=>exact q⟩
section
variable{l0:fx}{bt:yd}{kd:Nat->Int}{rq:Nat->Nat}{R:Nat}{Q C d:Nat->Prop}{B:List gf}{E F:Option ø}
def aaW{s:List gf}(h:fO.oW ((lT (jd l0 d bt kd R B C) i n R kd rq D E F j9 j7 k m J j qX l0).r À) b s):s=rD bt (iO kd R) B b:=by
 have c:∀(b:Nat)(s:((lT (jd l0 d bt kd R B C) i n R kd rq D E F j9 j7 k m J j qX l0).r À).γ),fO.oW ((lT (jd l0 d bt kd R B C) i n R kd rq D E F j9 j7 k m J j qX l0).r À) b s->s=rD bt (iO kd R) B b:=λb s h=>by
  induction h with
  |xj=>rfl|EE _ a e=>
   rwa[e]at a
 exact c b s h
def ao4(h:Jw l0 bt kd rq R Q)(N:l0.w.heap.size<=m):Ft (lT (jd l0 d bt kd R B C) i n R kd rq D E F j9 j7 k m J j qX l0):=by
 apply alf yw p_ o_ U;intro a s O W l q t f x y P g G;let⟨f,S⟩:=f;have T:=y.fM m<|g m<|Ì U;have H:l0.w.heap.size<=l.w.heap.size:=Z
 have o:=G;have p:=h.M.r (Ï h.M.fM H) λb c=>o b<|h.I b c;have r:=h.C.C λb c=>o b<|h.fE b c;have e:=IP<|xN q;let⟨I,K⟩:=h.SI _ e.1 e.2;refine⟨_,aaV (aoX f x r (λb c=>g b<|É<|h.fE b c) (h.r _ e.1) (aaR (aaQ h.C λb c=>o b<|h.fE b c) ⟨U,h.r _ e.1⟩ I) K p (λb c=>g b<|É<|h.I b c) (λb c=>c.elim (Nn (by let⟨_,_,_,_,z,_⟩:=f;exact z) p b)<|Nn r p b) (pz s)<|FY s) λv u L=> ?_⟩;rw[L];have z:=aaW t;have M:(lT (jd l0 d bt kd R B C) i n R kd rq D E F j9 j7 k m J j qX l0).b a=gw kd ((kq kd R).getD a 0):=if_pos q;rw[M]at z;show _=Å (zI bt kd ((kq kd R).getD a 0)<|rD bt (iO kd R) B<|gw kd<|(kq kd R).getD a 0);rw[<-z];unfold zI;rw[if_neg e.2]
theorem ao5(h:Jw l0 bt kd rq R Q)(hZ:(∀b,Q b->d b)/\∀b,b=1\/b=2\/b=3\/b=4->d b)(hba:l0.w.heap.size<=m):Fs (lT (jd l0 d bt kd R B C) i n R kd rq D E F j9 j7 k m J j qX l0):=by
 refine alg yw p_ o_ U (λs o u=>Rg s o u) (λs o u T n q=>Rg.tp q) ?_;intro T s o W l H I g K L hq r M;let⟨g,Hz⟩:=g;have hs:=L.fM m<|r m<|Ì U;have N:l0.w.heap.size<=l.w.heap.size:=Z
 have t:=M;have x:=h.M.r (Ï h.M.fM N) λb a=>t b<|h.I b a;have y:=h.C.C λb a=>t b<|h.fE b a;have G:=H;have f:=IN<|xN G;let⟨O,P,S,V,X⟩:=h.lX _ f.1 f.2;refine⟨_,aaV (ao1 g K y (λb a=>r b<|É<|h.fE b a) (h.r _ f.1) (ao3 h.C (λb a=>t b<|h.fE b a) (h.r _ f.1) O) P S V X x (λb a=>r b<|É<|h.I b a) (λb a=>a.elim (Nn (by let⟨_,_,_,_,z,_⟩:=g;exact z) x b)<|Nn y x b) (pz s)<|FY s) λv u hv=> ?_,?_⟩;obtain⟨p,z,c,rfl,Y⟩:=hv;refine⟨p,z,c,BI s<|bt.r<|(iO kd R).getD T 0,?_,U,Y⟩;have e:(lT (jd l0 d bt kd R B C) i n R kd rq D E F j9 j7 k m J j qX l0).d (T+1)=zI bt kd ((iO kd R).getD T 0) (rD bt (iO kd R) B<|gw kd<|(iO kd R).getD T 0):=U;rw[e,T5 R T G,<-(aaW I)];unfold zI;rw[if_pos f.2];intro Y Sh u w s' c_ Mw e p h3 h4;let⟨V',k1,c⟩:=ao0 e p h3;refine⟨V',⟨k1,λb a=> ?_⟩,c⟩;let⟨z,hi⟩:=c b a;obtain((q|q)|q)|q:=h4 z b hi;all_goals grind
end
section
variable{R:Nat}{kd:Nat->Int}{o:Nat->Nat}{r:List Ċ}{l:fx}{u:Nat->fx}{t:Ζ}{bt:yd}{j f:Nat->Prop}{s0:List gf}
def ao6{s:List gf}(h:Bf (jd l f bt kd R s0 j) k s):s=rD bt (iO kd R) s0 k:=by
 have b:∀(k:Nat)(s:(jd l f bt kd R s0 j).γ),Bf (jd l f bt kd R s0 j) k s->s=rD bt (iO kd R) s0 k:=λk s h=>by
  induction h with
  |xj=>rfl|EE _ a c=>
   rwa[c]at a
 exact b k s h
structure zK(f:Nat->Prop)(bt:yd)(R:Nat)(kd:Nat->Int)(s0:List gf)(l:fx)(an:Nat)(sl:Î)(l':fx):Prop where
 M:∀b,l.O b->l'.O b/\l'.w.heap[b]?=l.w.heap[b]?
 r:l'.O an/\∀p,p<R->l'.w.cell? ⟨an,p,Ã⟩=Â (Å<|zI bt kd p<|rD bt (iO kd R) s0<|gw kd p)
 S:∃V,RD (rD bt (iO kd R) s0<|gw kd R) sl V l'.w/\∀b,V b->l'.O b/\(f b\/l.w.heap.size<=b)
 d:l'.d=0
 q:¬l'.q
 rd:∀b,¬l'.I b
 C:(∀a,¬l'.r a)/\(∀a,¬l'.N a)/\∀a,¬l'.K a
 I:l'.w.cell? ⟨an,R,Ã⟩=Ã/\mj l'.w an=Â (0,0)
def ao7{a:fx}(h:GY (jd l f bt kd R s0 j) R kd l i v a):zK f bt R kd s0 l i v a:=by let⟨s,V,g,c,k⟩:=h.IQ;have e:=ao6 g;subst e;exact⟨h.Fu,h.lR,⟨V,c.1,λb q=>⟨k b q,c.2 b q⟩⟩,h.d,h.q,h.rd,h.xP,h.En⟩
def ao8{J:(Loc->Prop)->Nat->Jd}{H:Ċ}(S:qX=H.at y (Õ Q (j9::jJ)::L)::r)(c:fO.tT À zX i (Mt kd o R n v l qX) .fT D u E w t)(F:Option (Nat×Nat))(s:gS l)(W:∀b,¬l.I b)(Y:¬l.q)(hd:l.d=0)(Np:xO zX i l)(I:Jw l bt kd o R X)(hZ:(∀b,X b->f b)/\∀b,b=1\/b=2\/b=3\/b=4->f b)(K:∀b,f b->l.O b)(P:∀b,j b->f b)(Dk:RD s0 v j l.w)(zm:w.os=l.w.os/\w.output=l.w.output)(hn:1<=n)(hs:n+R<1000)(hJ:∀x z B C p m c,xO x z B->gS B->zK f bt R kd s0 l C (Æ p m c) B->fO.fF À Í (J x z) B (G (H.at (y.put ((Q[j9]?).bind (·.dst))<|Ý #[Æ (Â ⟨C,0,Ã⟩) R R,Æ p m c])<|Õ Q jJ::L) r)): ∃N x z T V IU g e uT h,ο À N (Į E w F) t=(.next<|Į g e uT,h)/\(e.os=l.w.os/\e.output=l.w.output)/\fO.tT À x z (J x z) T V IU g e h:=ak9 (M:=jd l f bt kd R s0 j) S c F s W Y hd Np (λb q=>K b<|P b q) (λs F V w e h L=>⟨h.1.r L,h.2⟩) (λs F V w h=>⟨by let⟨_,_,_,⟨g,n,cp,e,_⟩,_⟩:=h.1;exact⟨g,n,cp,e⟩,λb q=>(h.2 b q).imp (K b) id⟩) ⟨Dk,λb h=>É<|P b h⟩ zm hn hs (λg V N T cq C ba bi all e=>⟨ao5 I hZ e,ao4 I e⟩) λx z B C p m c e g V=>hJ x z B C p m c e g<|ao7 V
end
end ju
namespace mK
open RowKit Lift gT
def kE(c:Int):Bool:=decide (48<=c)&&decide (c<=57)
def qM(c:Int):Bool:=decide (97<=c)&&decide (c<=104)
def vg(c:Int):Int:=
 if c=105 then 1 else if c=103 then 2 else if c=98 then 3 else if c=99 then 4 else if c=109 then 5
 else if c=114 then 6 else if c=108 then 7 else if c=117 then 8 else if c=100 then 9 else 0
def BJ(c:Int):Int:=if c=62 then 1 else if c=123 then 2 else if c=58 then 3 else 0
def ao9(h:48<=c/\c<=57):kE c=Í:=by simp[kE,h]
theorem BM(c:Int):kE c=Í↔(48<=c/\c<=57):=by simp[kE]
def aaX(c:Int):qM c=Í↔(97<=c/\c<=104):=by simp[qM]
def uf(k:Int):List Int:=
 if k=1 then[86,58,120,47,66]else if k=2 then[86,58,120,115]else if k=3 then[86,58,120]
 else if k=4 then[86,58,120,62,121,40,110,44,107,41]else if k=5 then[86,58,120,62,121,40,107,41]
 else if k=9 then[86,58,87]else[86]
def qN(k:Int):List Int:=
 if k=1 then[121,61,110]else if k=2 then[80]else[121,40,110,44,107,41]
def oL(a c:Int):Bool:=
 if a=86\/a=87 then c==104||kE c
 else if a=110\/a=107 then kE c
 else if a=120\/a=121 then qM c
 else if a=115 then kE c||(decide (97<=c)&&decide (c<=102))
 else c==a
def mL(a c:Int):Int:=
 if c=48\/kE c=Ó then 0
 else if a=86\/a=87 then 1
 else if a=110\/a=107 then 5
 else 0
def iV(s:ByteArray):List Int:=s.data.toList.map λc=>((c.toNat:Nat):Int)
def apa(B:ByteArray)(k:Nat)(h:k<B.size):(iV B).drop k=((B[k].toNat:Nat):Int)::(iV B).drop (k+1):=by
 have a:k<(iV B).length:=by simpa[iV]using h
 rw[List.drop_eq_getElem_cons a];congr 1;simp[iV,dX]
theorem FZ(B:ByteArray):(iV B).length=B.size:=by unfold iV;simp_all
theorem aaY(s:ByteArray)(h:0<s.size):iV s=((s[0].toNat:Nat):Int)::(iV s).tail:=by have:=apa s 0 h;grind
theorem aaZ(s:ByteArray)(h:s.size=0):iV s=[]:=by grind [Ù,FZ]
def apb(s:ByteArray):iV (s.extract 1 s.size)=(iV s).tail:=by unfold iV;rw[cC,cP,<-List.map_tail];congr 1;rw[dE,<-List.drop_one];apply eG;simp_all
theorem apc(s:ByteArray)(h:s.size<=10):(s.extract 1 s.size).size<=10:=by grind [ä]
theorem apd(a c:Int):0<=mL a c/\mL a c<=5:=by unfold mL;grind
structure PT where
 c:List Int
 p:ByteArray
structure PR where
 c:List Int
 r:List PT
structure PD where
 Y:List PR
 r:Bool
 M:PR
 C:Bool
 N:PT
structure PS where
 C:List Int
 r:Int
 I:Int
 M:Int
 d:PD
namespace PD
def S(d:PD):List PT:=if d.C then d.M.r++[d.N]else d.M.r
def I(d:PD):List PR:=if d.r then d.Y++[⟨d.M.c,d.S⟩]else d.Y
def wO(d:PD)(i:Nat)(z:Int):PD:={d with M:={d.M with c:=d.M.c.set i z}}
def vh(d:PD)(i:Nat)(z:Int):PD:={d with N:={d.N with c:=d.N.c.set i z}}
def G(d:PD)(i:Nat)(z:Int):PD:=if d.C then d.vh i z else d.wO i z
def sZ(d:PD)(p:ByteArray):PD:={d with N:={d.N with p:=p}}
def zG:PT:=⟨[0,0,0,0,0],⟨#[]⟩⟩
def BN(k:Int):PR:=⟨[0,0,0,0,k,0,0,0],[]⟩
def K(d:PD):PD:={d with M:=⟨d.M.c,d.S⟩,C:=Í,N:=zG}
def wP(d:PD)(k:Int):PD:={Y:=d.I,r:=Í,M:=BN k,C:=Ó,N:=d.N}
def fR(d:PD)(a z:Int):PD:=
 if a=86 then d.wO 5 z else if a=87 then d.wO 6 z else if a=120 then d.G 0 z else if a=121 then d.G 1 z
 else if a=110 then d.G 2 z else if a=107 then d.G 3 z else if a=115 then d.wO 7 z else d
def Jx(d:PD)(i:Nat):Int:=if d.C then d.N.c.getD i 0 else d.M.c.getD i 0
def H(d:PD)(a:Int):Int:=if a=86 then d.M.c.getD 5 0 else if a=87 then d.M.c.getD 6 0 else if a=110 then d.Jx 2 else d.Jx 3
end PD
def mb(a c:Int):Int:=
 if a=120\/a=121 then ß [97,98,99,100,101,102,103,104] c.toNat.toUInt8
 else if a=115 then ß [48,49,50,51,52,53,54,55,56,57,97,98,99,100,101,102] c.toNat.toUInt8
 else if c=104 then-1 else(c-48)%256
def sy(z c:Int):Int:=Ê.wrap<|Ê.wrap (z*10)+(c-48)%256
def rE(st:PS)(c:Int):Option PS:=
 if c=59/\st.d.Y.length+1<24 then Â {st with C:=[82]}
 else if c=44/\0<st.d.S.length/\st.d.S.length<8 then Â {st with C:=[120,84],d:=st.d.K}
 else Ã
def zL(st:PS)(k:Int):Option PS:=if k=0 then Ã else Â {st with C:=uf k,d:=st.d.wP k}
def zM(st:PS)(k:Int):Option PS:=if k=0 then Ã else Â {st with C:=qN k,I:=0,d:=st.d.vh 4 k}
def ye(st:PS)(a c:Int):PS:={st with r:=mL a c,M:=a,d:=st.d.fR a (mb a c)}
def ki(B:ByteArray)(k:Nat)(st:PS)(c:Int):Option PS:=
 match st.C with
 |[]=>rE st c|want::tl=>
  if want=82 then zL st (vg c)
  else if want=66 then
   if qM c=Í then Â (ye {st with C:=[84],d:=st.d.K} 120 c)else rE st c
  else if want=84 then zM st (BJ c)
  else if want=80 then
   if c=125 then Â {st with C:=tl,d:=st.d.sZ (B.extract (k-st.I.toNat) k)}
   else if st.I=40\/il c=0 then Ã else Â {st with I:=st.I+1}
  else if oL want c=Í then Â {ye st want c with C:=tl}
  else Ã
def Nq(st:PS)(c:Int):PS:={st with r:=st.r-1,d:=st.d.fR st.M (sy (st.d.H st.M) c)}
def ug(B:ByteArray)(k:Nat)(st:PS)(c:Int):Option PS:=
 if 0<st.r/\kE c=Í then Â (Nq st c)else ki B k {st with r:=0} c
def qO(B:ByteArray):Nat->Nat->PS->Nat×PS
 |0,k,st=>(k,st)
 |f+1,k,st=>if h:k<B.size then match ug B k st (B[k].toNat:Int)with|none=>(k,st)|some a=>qO B f (k+1) a
  else(k,st)
def T6:PD:=⟨[],Ó,⟨[],[]⟩,Ó,⟨[],⟨#[]⟩⟩⟩
def vi:PS:=⟨[82],0,0,0,T6⟩
def T7(c:Int)(w:Ë): Ò À 94 #[Ç Ň c] w λe a=>e=È (á<|kE c)/\a=w:=by
 go_enter Tryz.func94,Tryz.ntmps94;go_wp2;all_goals go_ret
 all_goals exact⟨SR (by simp only[kE];first|(simp[*];done)|(rw[dA];simp;omega)),U⟩
def ape(s:ByteArray)(c:Int)(w:Ë): Ò À 167 #[Å s,Ç Ň c] w λe a=>e=È (Ç Ê<|ß s.data.toList c.toNat.toUInt8)/\a=w:=by go_enter Tryz.func167,Tryz.ntmps167;go_wp2;rw[Ĝ Tryz.func185 fK fK fK fK,Lib.run_indexByteString];simp only[č];rw[ě];go_wp2;go_ret;exact⟨U,U⟩
def T8(s:ByteArray)(c:Int)(w:Ë): Ò À 146 #[Å s,Ç Ň c] w λe a=>e=È (Ç Ê<|ß s.data.toList c.toNat.toUInt8)/\a=w:=by go_enter Tryz.func146,Tryz.ntmps146;go_wp2_with (go_at_call 167;refine iT (ape _ _ _) ?_);go_ret;exact⟨U,U⟩
def Nr(c:Int):Bool:=kE c||(decide (97<=c)&&decide (c<=102))
def apf:∀n:Fin 256,decide (0<=ß [97,98,99,100,101,102,103,104] n.val.toUInt8)=qM (n.val:Int):=by decide+kernel
def apg:∀n:Fin 256,decide (0<=ß [48,49,50,51,52,53,54,55,56,57,97,98,99,100,101,102] n.val.toUInt8)=Nr (n.val:Int):=by decide+kernel
def aph(a:0<=c)(b:c<256):decide (0<=ß [97,98,99,100,101,102,103,104] c.toNat.toUInt8)=qM c:=by have:=apf ⟨c.toNat,Z⟩;rwa[show((c.toNat:Nat):Int)=c from by omega]at this
def apj(a:0<=c)(b:c<256):decide (0<=ß [48,49,50,51,52,53,54,55,56,57,97,98,99,100,101,102] c.toNat.toUInt8)=Nr c:=by have:=apg ⟨c.toNat,Z⟩;rwa[show((c.toNat:Nat):Int)=c from by omega]at this
def T9(c:Int)(a:0<=c)(b:c<256)(w:Ë): Ò À 98 #[Ç Ň c] w λe d=>e=È (á<|qM c)/\d=w:=by
 have d:=aph a b;go_enter Tryz.func98,Tryz.ntmps98;go_wp2_with (go_at_call 146;refine iT (T8 _ _ _) ?_);all_goals go_ret
 all_goals exact⟨U,U⟩
def apk(c:Int)(a:0<=c)(b:c<256)(w:Ë): Ò À 149 #[Ç Ň c] w λe d=>e=È (á<|Nr c)/\d=w:=by
 have d:=apj a b;go_enter Tryz.func149,Tryz.ntmps149;go_wp2_with (go_at_call 146;refine iT (T8 _ _ _) ?_);all_goals go_ret
 all_goals exact⟨U,U⟩
def apl(c:Int)(w:Ë): Ò À 102 #[Ç Ň c] w λe a=>e=È (Ç Ê<|BJ c)/\a=w:=by
 go_enter Tryz.func102,Tryz.ntmps102;go_wp2;all_goals go_ret
 all_goals refine⟨Dr ?_,U⟩
 all_goals simp only[beq_iff_eq,beq_eq_false_iff_ne,ne_eq]at*
 all_goals simp[BJ, *]
def apm(c:Int)(w:Ë): Ò À 97 #[Ç Ň c] w λe a=>e=È (Ç Ê<|vg c)/\a=w:=by
 go_enter Tryz.func97,Tryz.ntmps97;go_wp2;all_goals go_ret
 all_goals refine⟨Dr ?_,U⟩
 all_goals simp only[beq_iff_eq,beq_eq_false_iff_ne,ne_eq]at*
 all_goals simp[vg, *]
def aa0(a c:Int)(b:0<=c)(d:c<256)(w:Ë): Ò À 104 #[Ç Ň a,Ç Ň c] w λe f=>e=È (á<|oL a c)/\f=w:=by
 go_enter Tryz.func104,Tryz.ntmps104;go_wp2_with (first|(go_at_call 94;refine iT (T7 _ _) ?_)|(go_at_call 98;refine iT (T9 _ b d _) ?_)|(go_at_call 149;refine iT (apk _ b d _) ?_));all_goals go_ret
 all_goals refine⟨SR ?_,U⟩
 all_goals try go_light
 all_goals simp only[beq_iff_eq,beq_eq_false_iff_ne,ne_eq]at*
 all_goals unfold oL
 all_goals first|(simp[Nr, *];done)|(rw[dA];simp[*];done)|(rw[dA];simp[*];omega)
def apn(k:Int)(w:Ë): Ò À 145 #[Ç Ê k] w λe a=>(∃b:ByteArray,e=È (Å b)/\b.size<=10/\iV b=uf k)/\a=w:=by
 go_enter Tryz.func145,Tryz.ntmps145;go_wp2;all_goals go_ret
 all_goals refine⟨⟨_,U,?_,?_⟩,U⟩
 all_goals try go_light
 all_goals simp only[beq_iff_eq,beq_eq_false_iff_ne,ne_eq]at*
 all_goals first|(simp[iV,uf, *];done)|decide
def apo(k:Int)(w:Ë): Ò À 148 #[Ç Ê k] w λe a=>(∃b:ByteArray,e=È (Å b)/\b.size<=10/\iV b=qN k)/\a=w:=by
 go_enter Tryz.func148,Tryz.ntmps148;go_wp2;all_goals go_ret
 all_goals refine⟨⟨_,U,?_,?_⟩,U⟩
 all_goals try go_light
 all_goals simp only[beq_iff_eq,beq_eq_false_iff_ne,ne_eq]at*
 all_goals first|(simp[iV,qN, *];done)|decide
def oM(m s:Nat):Î->Prop|Ç Ň _=>False|Ç _ _|á _|Å _|Ä Ã=>True|Ä (Â a)=>m<=a.block/\a.block<s|Æ Ã _ _=>True|Æ (Â a) _ _=>m<=a.block/\a.block<s|_=>False
def oM.fG{s:Nat}(h:oM m s v)(b:s<=i):oM m i v:=by
 cases v with
 |int k n=>cases k<;>exact h
 |pointer a=>cases a with|none=>trivial|some a=>exact⟨h.1,ff h.2 b⟩
 |slice a n c=>cases a with|none=>trivial|some a=>exact⟨h.1,ff h.2 b⟩
 |_=>exact h
def Ns(m s:Nat)(o:Obj):Prop:=∃c e a,o=Ô c e a/\a.2<=c.size/\0<c.size/\e≠304/\e≠305/\∀v∈c.toList,oM m s v
def ku(m:Nat)(w:Ë):Prop:=∀i o,m<=i->w.heap[i]?=Â o->Ns m w.heap.size o
section
variable{w':Ë}
def Ns.fG{s:Nat}{o:Obj}(h:Ns m s o)(a:s<=i):Ns m i o:=by let⟨c,e,b,d,f,g,j,k,l⟩:=h;exact⟨c,e,b,d,f,g,j,k,λv n=>(l v n).fG a⟩
def ku.I(w:Ë):ku w.heap.size w:=λi o a h=>by rw[dj a]at h;cases h
def ku.gM(h:ku m w):ku m w.drew:=h
def ku.iP(h:ku m w)(n:Nat):ku m (w.drewN n):=h
theorem ku.gO(h:ku m w)(cs:Array Î)(t:ð)(c:0<cs.size)(b:t≠304/\t≠305)(d:∀v∈cs.toList,oM m w.heap.size v):ku m (w.alloc<|Ô cs t):=by intro i o f a;have k:(w.alloc<|Ô cs t).heap.size=w.heap.size+1:=fD;by_cases e:i<w.heap.size;rw[Ĭ _ _ _ e]at a;exact(h i o f a).fG Z;by_cases g:i=w.heap.size;subst g;rw[ļ]at a;cases a;exact⟨cs,t,(0,0),U,eD _,c,b.1,b.2,λv j=>(d v j).fG Z⟩;grind
def ku.r(h:ku m w)(p:ø)(l:oM m w.heap.size v):ku m (w.setCell p v):=by
 intro i o f a;have n:(w.setCell p v).heap.size=w.heap.size:=fD;rw[n];by_cases e:i=p.block;subst e;unfold η at a;simp only[fh,if_true]at a;cases d:w.heap[p.block]? with
 |none=>rw[d]at a;cases a
 |some x=>
  rw[d]at a;obtain⟨c,e,r,rfl,g,j,s,t,k⟩:=h _ _ f d;simp only[dT,dI]at a;subst a;refine⟨_,e,r,U,?_,?_,s,t,λu b=> ?_⟩;split;exact g;rwa[dy];split;exact j;rwa[dy];split at b;exact k u b;rw[dF]at b;obtain q|q:=eO b;exact k u q;rwa[q]
 .rw[ģ _ _ _ _<|fN e]at a;exact h i o f a
theorem apq{ty:ð}{bytes base:Nat}(y:P.underlying t=Â (.slice e))(B:P.info? e=Â zJ)(G:zJ.zero=Â (Ä Ã))(s:zJ.size=1)(H:zJ.bytes=bytes)(f:w.ownsRow base e 1 v n l)(a:ø)(c:Nat)(C:∀j M,[z][j]?=Â M->w.cell? (a.add j)=Â M)(N:z.oneCell'=Í)(O:n+1<=ó)(I:(n+1)*bytes<=140737488355328)(W:base<=w.heap.size)(X:mq e=Ó)(hm:m<=base)(D:ku m w)(hg:oM m w.heap.size z)(Y:e≠304/\e≠305): ∃h w',(û #[t,t] ty #[v,Æ (Â a) 1 c]).run P w=bh h w'/\nT w base e 1 v n l 1 [z] h w'/\ku m w'/\oM m w'.heap.size h:=by
 obtain⟨h,w',J,E⟩:=SU y B G s H U f a c [z] Z U C (λx b=>by simp at b;subst b;exact N) O I W<|É X;have hgv:oM m w'.heap.size h:=by
  obtain⟨p,cp,rfl⟩:=ji E.fE;cases p with
  |none=>trivial|some p=>
   have k:=E.fE.lt p.block (by obtain⟨q,_⟩|⟨g,r,d,q,_⟩:=E.fE.2<;>(cases q;try rfl));exact⟨Z,k.2⟩
 refine⟨h,w',J,E,?_,hgv⟩;have q:[z].length=1*zJ.size:=by rw[s];rfl
 have M6:l.length=n*zJ.size:=by rw[s];exact f.1
 have alC:n+1<=9223372036854775807:=by simp only[ó]at O;omega
 have EY:∀x∈l,oM m w.heap.size x:=λx b=>by obtain⟨_,rfl⟩|⟨g,r,d,rfl,hbg,p,hnc,hcm,Q,htake⟩:=f.2;grind;let⟨c2,e2,Xg,S,_,_,_,_,q6⟩:=D g _ Z p;grind
 have gr:∀T,ku m (w.drew.alloc<|Ô (l.toArray++[z].toArray++bu (Ħ<|Ä Ã) (grownCap w (n+1) T e-(n+1))) e):=λT=>by refine ku.gO D _ _ (by simp;omega) Y λx b=> ?_;simp only[cL,dx]at b;obtain(b|b)|b:=b;exact EY x b;grind;have:=SS b;simp[Ħ]at this;subst this;trivial
 obtain⟨rfl,rfl⟩|⟨g,r,d,rfl,hbg,p,hnc,hcm,Q,htake⟩:=f.2;have b:=Ù (by simpa using f.1);subst b;have K:=run_append_nil w t ty e zJ (Ä Ã) y B G a 1 c [z] q C Z Z (by rw[H];have k:=I;simp only[dQ]at k;omega);grind;by_cases apr:n+1<=r;have SV:n*zJ.size+[z].length<=d.size:=by rw[q,Q,s];omega
 have K:=run_append_room w t ty e zJ y B g n r d p a 1 c [z] q C (λx b=>by simp at b;subst b;exact N) apr SV;rw[K]at J;cases J;have aps:=ŷ w g d (d.toList.take (n*zJ.size)++[z]++d.toList.drop (n*zJ.size+[z].length)).toArray e _ p;have apt:=λk (L:k≠g)=>Ţ w g k (d.toList.take (n*zJ.size)++[z]++d.toList.drop (n*zJ.size+[z].length)).toArray L;let⟨c2,e2,Xg,S,q2,q3,q4,q5,q6⟩:=D g _ Z p;cases S;intro k o L F;have jV:(w.setRow g (d.toList.take (n*zJ.size)++[z]++d.toList.drop (n*zJ.size+[z].length)).toArray).heap.size=w.heap.size:=fD
 rw[jV];by_cases V:k=g;subst V;rw[aps]at F;cases F;refine⟨_,_,_,U,fD,(by simp;omega),q4,q5,λx b=> ?_⟩;grind;rw[apt k V]at F;exact D k o L F;have k:w.ownsRow base e zJ.size (Æ (Â ⟨g,0,Ã⟩) n r) n l:=by rwa[s]
 have K:=run_append_grow w t ty e zJ (Ä Ã) y B G ⟨g,0,Ã⟩ n r l M6 (k.cells U) a 1 c [z] q C Z Z (by rw[H];exact Λ Z I);grind
def aa1{f:Array Ř}{base:Nat}(k:o.guard=Ã)(s x:ĸ)(t:ð)(p:o.op=Op.call {callee:=Callee.builtin Ŷ,args:=#[s,x],argTypes:=#[t,t]}){bytes:Nat}(q:P.underlying t=Â (.slice e))(r:P.info? e=Â zJ)(B:zJ.zero=Â (Ä Ã))(C:zJ.size=1)(D:zJ.bytes=bytes)(F:y.eval s=v)(G:w.ownsRow base e 1 v n l)(ad:ø)(H:y.eval x=Æ (Â ad) 1 b)(I:∀j g,[z][j]?=Â g->w.cell? (ad.add j)=Â g)(J:z.oneCell'=Í)(L:n+1<=ó)(M:(n+1)*bytes<=140737488355328)(N:base<=w.heap.size)(O:mq e=Ó)(S:m<=base)(T:ku m w)(V:oM m w.heap.size z)(W:e≠304/\e≠305)(h:∀d w',nT w base e 1 v n l 1 [z] d w'->ku m w'->oM m w'.heap.size d->cX (y.put o.dst d) w'): if Ē o (ah f y.tmps)=Í then Δ P o y w cX vJ else bQ:=by
 have X:Ē o (ah f y.tmps)=Í:=by simp[Ē,k]
 rw[if_pos X];let⟨d,w',Y,h2,h3,h4⟩:=apq (ty:=o.type) q r B C D G ad b I J L M N O S T V W;simp[Δ,Ė,p,ψ,bk,ω,F,H,Y,č];exact h d w' h2 h3 h4
end
def pA(l:List Nat):List Î:=l.map λa=>Ä<|Â ⟨a,0,Ã⟩
def qk(l:List Int):List Î:=l.map λz=>Ç Ê z
def F0(p:PT):List Î:=qk p.c++[Å p.p]
def DU(c:List Int)(a:Î):List Î:=qk c++[a]
structure qP(lo hi:Nat)(tb:List Nat)(l:List PT)(w:Ë):Prop where
 r:tb.length=l.length
 I:∀(j a:Nat)(p:PT),tb[j]?=Â a->l[j]?=Â p->lo<=a/\a<hi/\p.c.length=5/\fy a (F0 p) 200 w
structure yf(B q:Nat)(r:PR)(w:Ë):Prop where
 M:q<B
 C:r.c.length=8
 I:∃vb tb,fy q (DU r.c vb) 161 w/\w.ownsRow 0 149 1 vb tb.length (pA tb)/\(∀j,vb.ownBlock=Â j->j<B)/\qP 0 B tb r.r w
structure rF(B:Nat)(qs:List Nat)(rs:List PR)(w:Ë):Prop where
 I:qs.length=rs.length
 M:∀(j q:Nat)(r:PR),qs[j]?=Â q->rs[j]?=Â r->yf B q r w
section
variable{w':Ë}{lo hi B q:Nat}{tb qs:List Nat}{l:List PT}{r:PR}{rs:List PR}
def qP.C(h:qP lo hi tb l w)(k:fw X w w')(f:∀a c g,lo<=a->a<hi->w.heap[a]?=Â (Ô c 200 g)->¬X a):qP lo hi tb l w':=⟨h.r,λj a p i m=>by let⟨b,d,n,e⟩:=h.I j a p i m;exact⟨b,d,n,e.C k<|f a _ _ b d e⟩⟩
def qP.fG(h:qP lo hi tb l w)(f:i<=lo)(g:hi<=n):qP i n tb l w:=⟨h.r,λj a p b c=>by let⟨k,m,d,e⟩:=h.I j a p b c;exact⟨Z,Z,d,e⟩⟩
theorem qP.M(lo hi:Nat)(w:Ë):qP lo hi [] [] w:=⟨U,λj a p h=>by cases h⟩
theorem F1{l:List gX}{a x:gX}(h:(l++[a])[j]?=Â x):l[j]?=Â x\/j=l.length/\x=a:=by grind
theorem qP.Ua{p:PT}(h:qP lo hi tb l w)(g:lo<=i)(k:i<hi)(m:p.c.length=5)(n:fy i (F0 p) 200 w):qP lo hi (tb++[i]) (l++[p]) w:=by refine⟨by simp[h.r],λj x y d b=> ?_⟩;obtain e|⟨e,rfl⟩:=F1 d;obtain f|⟨f,rfl⟩:=F1 b;exact h.I j x y e f;have:=(eP.1 e).1;have:=h.r;omega;obtain f|⟨f,rfl⟩:=F1 b;have:=(eP.1 f).1;have:=h.r;omega;grind
def Ub(B:Nat)(w:Ë)(i:Nat):Prop:=B<=i\/∃c T a,w.heap[i]?=Â (Ô c T a)/\(T=153\/T=148)
theorem Uc(a:Ub B w i)(hi:i<B)(h:w.heap[i]?=Â (Ô d T xJ))(b:T≠153/\T≠148):False:=by obtain q|⟨e,f,g,j,k⟩:=a;all_goals grind
theorem yf.Fu(h:yf B q r w)(k:fw X w w')(d:∀i,i<w.heap.size->X i->Ub B w i):yf B q r w':=by let⟨f,tb,b,g,l,m⟩:=h.I;refine⟨h.M,h.C,f,tb,b.C k λx=>Uc (d q b.M x) h.M b A,gZ g k λj o x=> ?_,l,m.C k λa c p _ n e x=>Uc (d a (fp.1 e).1 x) n e A⟩;grind [lM,Uc]
def yf.fG(h:yf B q r w)(a:B<=i):yf i q r w:=by let⟨b,tb,c,d,e,f⟩:=h.I;exact⟨by have:=h.M;omega,h.C,b,tb,c,d,λj g=>by have:=e j g;omega,f.fG (eE _) a⟩
def rF.C(h:rF B qs rs w)(k:fw X w w')(a:∀i,i<w.heap.size->X i->Ub B w i):rF B qs rs w':=⟨h.I,λj q r b c=>(h.M j q r b c).Fu k a⟩
def rF.Ua(h:rF B qs rs w)(b:B<=i)(c:yf i q r w):rF i (qs++[q]) (rs++[r]) w:=by refine⟨by simp[h.I],λj x y d a=> ?_⟩;obtain e|⟨e,rfl⟩:=F1 d;obtain f|⟨f,rfl⟩:=F1 a;exact(h.M j x y e f).fG b;have:=(eP.1 e).1;have:=h.I;omega;obtain f|⟨f,rfl⟩:=F1 a;have:=(eP.1 f).1;have:=h.I;omega;exact c
theorem rF.N(B:Nat)(w:Ë):rF B [] [] w:=⟨U,λj q r h=>by cases h⟩
end
structure Gh where
 a:List Nat
 q:Nat
 t:Nat
 B:Nat
 tb:List Nat
 M:Î
 r:Î
 b:Option ø
namespace Gh
def C(g:Gh)(d:PD):List Nat:=if d.r then g.a++[g.q]else g.a
def I(g:Gh)(d:PD):List Nat:=if d.C then g.tb++[g.t]else g.tb
def S(g:Gh)(d:PD):Option ø:=if d.r then Â ⟨g.q,0,Ã⟩else Ã
def K(g:Gh)(d:PD):Option ø:=if d.C then Â ⟨g.t,0,Ã⟩else g.b
def N(g:Gh)(d:PD):Nat:=if d.C then g.t else g.q
def H(g:Gh)(d:PD):Option ø:=if d.r then Â ⟨g.N d,0,Ã⟩else Ã
def Y(g:Gh)(d:PD)(a:Int):ø:=if a=86 then⟨g.q,5,Ã⟩else if a=87 then⟨g.q,6,Ã⟩else if a=110 then⟨g.N d,2,Ã⟩else⟨g.N d,3,Ã⟩
end Gh
structure yg(m:Nat)(g:Gh)(d:PD)(w:Ë):Prop where
 S:m<=g.B
 N:g.B<=g.q
 I:d.M.c.length=8
 r:fy g.q (DU d.M.c g.r) 161 w
 C:w.ownsRow g.B 149 1 g.r (g.I d).length (pA<|g.I d)
 Y:qP g.B g.t g.tb d.M.r w
 M:d.C=Í->g.B<=g.t/\d.N.c.length=5/\fy g.t (F0 d.N) 200 w
 a:d.C=Ó->g.tb=[]/\d.M.r=[]
structure my(m:Nat)(g:Gh)(d:PD)(w:Ë):Prop where
 C:w.ownsRow m 148 1 g.M (g.C d).length (pA<|g.C d)
 I:rF g.B g.a d.Y w
 r:d.r=Í->yg m g d w
 N:d.r=Ó->d.C=Ó
def Ud(s:ByteArray)(g:Gh)(d:PD)(a:Option ø)(mM b:Int):List Î:=
 [Å s,g.M,Ä<|g.S d,Ä<|g.K d,Ä<|g.H d,Ä a,Ç Ê mM,Ç Ê b]
structure jb(m b:Nat)(g:Gh)(a:Option ø)(s:ByteArray)(st:PS)(w:Ë):Prop where
 I:m<=b
 N:ku m w
 r:fy b (Ud s g st.d a st.r st.I) 153 w
 S:s.size<=10
 M:iV s=st.C
 C:my m g st.d w
 a:0<st.r->st.d.r=Í/\a=Â (g.Y st.d st.M)
 Y:st.d.r=Í\/st.C=[82]
def uh(m b:Nat)(st:PS)(w a:Ë):Prop:=fw (λi=>m<=i) w a/\∃g i s,jb m b g i s st a
section
variable{w':Ë}{g:Gh}{d:PD}{s:ByteArray}{st:PS}
theorem yg.Fu(h:yg m g d w)(k:fw X w w')(p:∀i c T b,w.heap[i]?=Â (Ô c T b)->X i->T=153\/T=148):yg m g d w':=by have l:∀{i:Nat} {c:Array Î} {T:ð} {b:Nat×Nat},w.heap[i]?=Â (Ô c T b)->(T≠153/\T≠148)->¬X i:=λ{i c T b} n f x=>(p i c T b n x).elim f.1 f.2;refine⟨h.S,h.N,h.I,h.r.C k<|l h.r A,gZ h.C k λj r=> ?_,h.Y.C k λa c b _ _ q=>l q A,λe=> ?_,h.a⟩;let⟨o,s⟩:=lM h.C r;grind;let⟨n,f,o⟩:=h.M e;exact⟨n,f,o.C k<|l o A⟩
theorem my.rd(h:my m g d w)(k:fw X w w')(b:∀i c T a,w.heap[i]?=Â (Ô c T a)->X i->T=153)(f:∀i,i<w.heap.size->X i->∃c a,w.heap[i]?=Â (Ô c 153 a)):my m g d w':=by refine⟨gZ h.C k λj l x=> ?_,h.I.C k λi n x=> ?_,λe=>(h.r e).Fu k λi c T a q x=>É<|b i c T a q x,h.N⟩;let⟨o,q⟩:=lM h.C l;grind;let⟨c,a,q⟩:=f i n x;exact Ì ⟨c,_,a,q,É U⟩
def my.M(h:my m g d w)(a:fy b l 153 w)(k:fw (λi=>i=b) w w'):my m g d w':=h.rd k (λi c T e q x=>by subst x;unfold fy at a;rw[a]at q;cases q;rfl) λi _ x=>⟨l.toArray,(0,0),by rwa[x]⟩
def rG{i:Nat}{v:Value}{j:Nat}{vs:List Value}{T:TypeId}(h:fy j vs T w)(hT:mq T=false:=by decide):fw (λk=>k=j) w (w.setCell ⟨j,i,none⟩ v):=fw.I (X:=λk=>k=j) U v<|Ì<|h.S hT
def my.K(h:my m g d w):(g.C d).length=d.I.length:=by unfold Gh.C PD.I;split<;>simp[h.I.I]
def yg.H(h:yg m g d w):(g.I d).length=d.S.length:=by unfold Gh.I PD.S;split<;>simp[h.Y.r]
def Ue(h:i<zQ.length)(v:Î):(qk zQ++[v])[i]?=Â (Ç Ê<|zQ.getD i 0):=by rw[eR (by simpa[qk]using h)];simp[qk,ċ,h]
def aa2(l:List Int)(i:Nat)(z:Int)(v:Î)(h:i<l.length):(qk l++[v]).set i (Ç Ê z)=qk (l.set i z)++[v]:=by rw[ei _ _ (by simpa[qk]using h)];simp[qk,List.map_set]
def aa3(l:List Int)(v u:Î):(qk l++[v]).set l.length u=qk l++[u]:=by rw[eF _ _ (by simp[qk])];simp[qk]
def Nt(l:List Int)(v:Î):(qk l++[v])[l.length]?=Â v:=by rw[eT (by simp[qk])];simp[qk]
theorem my.S(h:my m g d w)(on:d.r=Í)(n:i<8)(z:Int):my m g (d.wO i z) (w.setCell ⟨g.q,i,Ã⟩<|Ç Ê z):=by have l:=h.r on;have k:fw (λk=>k=g.q) w (w.setCell ⟨g.q,i,Ã⟩<|Ç Ê z):=rG l.r;have r:=l.N;refine⟨gZ h.C k λj b x=>iE h.C l.r A (by rw[b,x]),h.I.C k λi _ x=>É Z,λ_=>⟨l.S,l.N,by simp[PD.wO,l.I],?_,gZ l.C k λj b x=>iE l.C l.r A (by rw[b,x]),l.Y.C k λa c s _ _ q x=> ?_,λe=> ?_,l.a⟩,h.N⟩;have:=l.r.fR i<|Ç Ê z;unfold DU at this;rw[aa2 _ _ _ _ (by rwa[l.I])]at this;exact this;have:=l.r;unfold fy at this;grind;let⟨o,p,f⟩:=l.M e;exact⟨o,p,f.C k λx=>(fy.H f l.r A) x⟩
theorem my.Y(h:my m g d w)(on:d.r=Í)(f:d.C=Í){p:PT}(n:p.c.length=5)(r:(F0 d.N).set i v=F0 p):my m g {d with N:=p} (w.setCell ⟨g.t,i,Ã⟩ v):=by have l:=h.r on;let⟨o,s,b⟩:=l.M f;have k:fw (λk=>k=g.t) w (w.setCell ⟨g.t,i,Ã⟩ v):=rG b;refine⟨gZ h.C k λj e x=>iE h.C b A (by rw[e,x]),h.I.C k λi _ x=>É Z,λ_=>⟨l.S,l.N,l.I,l.r.C k λx=>(fy.H l.r b A) x,gZ l.C k λj e x=>iE l.C b A (by rw[e,x]),l.Y.C k λa c u _ q _ x=>by omega,λ_=>⟨o,n,?_⟩,l.a⟩,h.N⟩;have:=b.fR i v;grind
def my.H(h:my m g d w)(on:d.r=Í)(a:d.C=Í)(c:i<5)(z:Int):my m g (d.vh i z) (w.setCell ⟨g.t,i,Ã⟩<|Ç Ê z):=by let⟨e,b,f⟩:=(h.r on).M a;exact h.Y on a (by simp[b])<|aa2 _ _ _ _<|by rwa[b]
def my.sZ(h:my m g d w)(on:d.r=Í)(a:d.C=Í)(p:ByteArray):my m g (d.sZ p) (w.setCell ⟨g.t,5,Ã⟩<|Å p):=by let⟨e,b,f⟩:=(h.r on).M a;refine h.Y on a b ?_;have:=aa3 d.N.c (Å d.N.p)<|Å p;rwa[b]at this
structure wR(m b:Nat)(g:Gh)(d:PD)(ab ao:Nat)(f:Int->PD)(x:Int)(w:Ë):Prop where
 r:ab≠b
 N:m<=ab
 Y:ab<w.heap.size
 C:w.cell? ⟨ab,ao,Ã⟩=Â (Ç Ê x)
 I:w.frozen? ⟨ab,ao,Ã⟩=Ó
 nf:NF ab w
 S:∀W,my m g d W->∀z,my m g (f z)<|W.setCell ⟨ab,ao,Ã⟩<|Ç Ê z
 M:∀z,g.S (f z)=g.S d/\g.K (f z)=g.K d/\g.H (f z)=g.H d/\(f z).r=d.r/\∀n,g.Y (f z) n=g.Y d n
theorem F2(h:my m g d w)(f:fy b l 153 w)(on:d.r=Í)(e:i<8):wR m b g d g.q i (λz=>d.wO i z) (d.M.c.getD i 0) w:=by have a:=h.r on;exact⟨fy.H a.r f A,Ï a.S a.N,a.r.M,a.r.r i _ (Ue (by rwa[a.I]) _),a.r.I i,a.r.S,λW j z=>j.S on e z,λz=>⟨U,U,U,U,λn=>U⟩⟩
theorem aa4(h:my m g d w)(k:fy b l 153 w)(on:d.r=Í)(f:d.C=Í)(j:i<5):wR m b g d g.t i (λz=>d.vh i z) (d.N.c.getD i 0) w:=by have a:=h.r on;let⟨o,p,e⟩:=a.M f;exact⟨fy.H e k A,Ï a.S o,e.M,e.r i _ (Ue (by rwa[p]) _),e.I i,e.S,λW q z=>q.H on f j z,λz=>⟨U,U,U,U,λn=>U⟩⟩
theorem Uf(h:my m g d w)(a:fy b l 153 w)(on:d.r=Í)(c:i<4):wR m b g d (g.N d) i (λz=>d.G i z) (d.Jx i) w:=by unfold PD.G PD.Jx Gh.N;split;all_goals grind [aa4,F2]
theorem jb.H{f:Int->PD}(h:jb m b g O s st w)(n:wR m b g st.d i j f c w)(z:Int):jb m b g O s {st with d:=f z} (w.setCell ⟨i,j,Ã⟩<|Ç Ê z):=by let⟨e,l,o,a,p⟩:=n.M z;have k:fw (λk=>k=i) w (w.setCell ⟨i,j,Ã⟩<|Ç Ê z):=fw.I (X:=λk=>k=i) U _<|É U;refine⟨h.I,h.N.r _ trivial,?_,h.S,h.M,n.S w h.C z,λq=> ?_,?_⟩;have:=h.r.C k λc=>n.r c.symm;unfold Ud at this|-;grind;let⟨r,t⟩:=h.a q;grind;simp only[a];exact h.Y
def jb.K(h:jb m b g O s st w)(a:ByteArray)(r:List Int)(c:a.size<=10)(e:iV a=r)(f:st.d.r=Í\/r=[82]):jb m b g O a {st with C:=r} (w.setCell ⟨b,0,Ã⟩<|Å a):=⟨h.I,h.N.r _ trivial,h.r.fR 0 _,c,e,h.C.M h.r<|rG h.r,h.a,f⟩
def jb.G(h:jb m b g O s st w)(z:Int)(a:0<z->st.d.r=Í/\O=Â (g.Y st.d st.M)):jb m b g O s {st with r:=z} (w.setCell ⟨b,6,Ã⟩<|Ç Ê z):=⟨h.I,h.N.r _ trivial,h.r.fR 6 _,h.S,h.M,h.C.M h.r<|rG h.r,a,h.Y⟩
def jb.aa5(h:jb m b g O s st w)(z:Int):jb m b g O s {st with I:=z} (w.setCell ⟨b,7,Ã⟩<|Ç Ê z):=⟨h.I,h.N.r _ trivial,h.r.fR 7 _,h.S,h.M,h.C.M h.r<|rG h.r,h.a,h.Y⟩
def jb.apu(h:jb m b g O s st w)(a:ø)(n:Int)(d:st.r=0)(c:m<=a.block/\a.block<w.heap.size):jb m b g (Â a) s {st with M:=n} (w.setCell ⟨b,5,Ã⟩<|Ä<|Â a):=⟨h.I,h.N.r _ c,h.r.fR 5 _,h.S,h.M,h.C.M h.r<|rG h.r,λq=>by have:0<st.r:=q;omega,h.Y⟩
def jb.gM(h:jb m b g O s st w):jb m b g O s st w.drew:=by have k:=fw.gM fB w;exact⟨h.I,h.N,h.r.C k id,h.S,h.M,h.C.rd k (λ_ _ _ _ _ x=>x.elim) λ_ _ x=>x.elim,h.a,h.Y⟩
end
section
variable{w':Ë}{g:Gh}{st:PS}{f:Int->PD}{x:Int}
def wR.rd{d:PD}(h:wR m b g d n j f x w)(i:Nat)(v:Î):wR m b g d n j f x (w.setCell ⟨b,i,Ã⟩ v):=⟨h.r,h.N,fN h.Y,by rw[IZ<|cR h.r];exact h.C,by rw[World.frozen?_setCell];exact h.I,λc T a q=>h.nf c T a (by rwa[ģ _ _ _ _<|fN h.r]at q),h.S,h.M⟩
def jb.Ug(h:jb m b g O B st w)(n:Int)(a:st.r=0):jb m b g O B {st with M:=n} w:=⟨h.I,h.N,h.r,h.S,h.M,h.C,λq=>by have:0<st.r:=q;omega,h.Y⟩
def vj(h:jb m b g O B st w)(i:Nat)(v:Î):fw (λi=>m<=i) w (w.setCell ⟨b,i,Ã⟩ v):=fw.I (X:=λi=>m<=i) (p:=⟨b,i,Ã⟩) h.I v<|Ì h.r.S
def F3(h:wR m b g st.d n j f x w)(z:Int):fw (λi=>m<=i) w (w.setCell ⟨n,j,Ã⟩<|Ç Ê z):=fw.I (X:=λi=>m<=i) (p:=⟨n,j,Ã⟩) h.N _<|É U
def Uh{st:PS}(h:st.r=0)(n:Int)(d:PD):({st with r:=0,M:=n,d:=d}:PS)={st with M:=n,d:=d}:=by rw[<-h]
theorem apv(h:jb m b g O B st w)(i:wR m b g st.d n j f x w)(k:st.r=0)(p:st.d.r=Í){o a:Int}(s:oL a c=Í)(v:(a=86\/a=87)/\o=2\/(a=110\/a=107)/\o=6)(q:∀z,g.Y (f z) a=⟨n,j,Ã⟩): Ò À 147 #[Ä<|Â ⟨b,0,Ã⟩,Ä<|Â ⟨n,j,Ã⟩,Ç Ň c,Ç Ê o] w λe w'=>
  e=È (Ý #[])/\uh m b {st with r:=mL a c,M:=a,d:=f (mb a c)} w w':=by
 have C:=h.r.r 5 _ U;have D:=h.r.r 6 _ U;have E:=h.r.I 5;have F:=h.r.I 6;have G:=i.C;have I:=i.I;have J:=i.r;have K:¬b=n:=λe=>i.r e.symm;have e:(mb a c=if c=104 then-1 else(c-48)%256)/\mL a c=if c=104\/c=48 then 0 else o-1:=by unfold mb mL;unfold oL at s;grind [BM]
 have L:0<=o/\o<=6:=Z;rw[e.1,e.2];clear e s v;have l:=i.rd 5<|Ä<|Â ⟨n,j,Ã⟩;have H:=fv<|Á h<|Á i<|Á q<|Á k<|Á p<|Á l<|h.apu ⟨n,j,Ã⟩ a k ⟨i.N,i.Y⟩;clear l;by_cases t:c=104
 .subst t;rw[if_pos<|É U,if_pos U,Uh k];go_enter ũ,ŏ;go_wp2;first|go_end0|refine ì (ai U _ _ _) U ?_
  let⟨h,i,q,k,p⟩:=H.oQ;exact⟨U,F3 i _,g,O,B,(h.H i<|-1).Ug a k⟩
 rw[if_neg t];by_cases y:c=48
 .subst y;rw[if_pos<|Ì U,Uh k];go_enter ũ,ŏ;go_wp2;go_end0;let⟨h,i,q,k,p,l,r⟩:=H.oQ;exact⟨U,(vj h 5 _).fA<|F3 l _,g,Â ⟨n,j,Ã⟩,B,r.H l 0⟩
 rw[if_neg Z];go_enter ũ,ŏ;go_wp2;go_end0;let⟨h,i,q,k,p,l,r⟩:=H.oQ;have u:=r.H l<|(c-48)%256;exact⟨U,((vj h 5 _).fA<|F3 l _).fA<|vj u 6 _,g,Â ⟨n,j,Ã⟩,B,u.G (o-1) λ_=>⟨by simp only;rwa[(i.M _).2.2.2.1],by simp only;rw[q]⟩⟩
theorem aa6{a:Int}(h:¬(a=86\/a=87)/\¬(a=110\/a=107)):mL a c=0:=by unfold mL;grind
def apw(h:jb m b g O B st w)(i:wR m b g st.d n j f x w)(k:st.r=0){a z:Int}(e:c=0)(l:w'=(w.setCell ⟨n,j,Ã⟩<|Ç Ê z).drew):uh m b {st with r:=c,M:=a,d:=f z} w w':=by subst l;subst e;rw[Uh k];exact⟨(F3 i z).fA<|fw.gM _ _,g,O,B,((h.H i z).Ug a k).gM⟩
end
section
variable{g:Gh}{st:PS}
def aa7{d:PD}(a:d.C=Í):g.K d=Â ⟨g.t,0,Ã⟩:=if_pos a
def apx:zM st 0=Ã:=rfl
def apy(h:jb m b g O B st w)(r:st.r=0)(on:st.d.r=Í)(f:st.d.C=Í)(k:Int): Ò À 101 #[Ä<|Â ⟨b,0,Ã⟩,Ç Ê k] w λe u=>match zM st k with|none=>e=È (á Ó)/\u=w|some a=>e=È (á Í)/\uh m b a w u:=by
 have s:=h.r.r 0 _ U;have o:=h.r.r 3 _ U;have v:=h.r.r 7 _ U;rw[aa7 f]at o;have x:=h.r.I 0;have y:=h.r.I 7;have a:=aa4 h.C h.r on f (i:=4) A;have z:=a.C;have C:=a.I;have D:=a.r;have E:¬b=g.t:=λe=>a.r e.symm;have H:=fv<|Á h a;by_cases c:k=0
 .subst c;rw[apx];go_enter aj,θ;go_wp2;go_ret;exact⟨U,U⟩
 .have F:(k==0)=Ó:=by rwa[beq_eq_false_iff_ne]
  have e:zM st k=Â {st with C:=qN k,I:=0,d:=st.d.vh 4 k}:=if_neg c;rw[e];go_enter aj,θ;go_wp2_with (go_at_call 148;refine(apo _ _).mono ?_;rintro e u ⟨⟨j,rfl,p,q⟩,l⟩;subst u);go_ret;let⟨h,a⟩:=H.oQ;have l:=h.H a k;have n:=l.aa5 0;exact⟨U,((F3 a k).fA<|vj l 7 _).fA<|vj n 0 _,g,O,j,n.K j _ p q<|É on⟩
end
def apz:(À.info? 149).map iF=Â (Â<|Ä Ã,1,8):=fK
def apA:(À.info? 148).map iF=Â (Â<|Ä Ã,1,8):=fK
section
variable{w':Ë}{g:Gh}{nm:Option ø}{s:ByteArray}{st:PS}{d:PD}{T:Nat}
structure wS(m:Nat)(g:Gh)(d:PD)(T:Nat)(w:Ë):Prop where
 C:w.ownsRow m 148 1 g.M (g.C d).length (pA<|g.C d)
 I:rF g.B g.a d.Y w
 N:qP g.B T (g.I d) d.S w
 tb:fy T (F0 PD.zG) 200 w
def Jy(x:i=j)(h:fy j l t w):w.heap[i]?=Â (Ô l.toArray t (0,0)):=by rwa[x]
theorem wS.r(h:wS m g d T w)(k:fw X w w')(f:∀i,i<w.heap.size->X i->∃c t b,w.heap[i]?=Â (Ô c t b)/\(t=153\/(t=161\/t=149)/\g.B<=i)):wS m g d T w':=by
 have e:∀{i:Nat} {c:Array Î} {t:ð} {b:Nat×Nat},w.heap[i]?=Â (Ô c t b)->(t≠153/\t≠161/\t≠149)->¬X i:=λ{i c t b} q1 q2 x=>by grind
 refine⟨gZ h.C k λj l=> ?_,h.I.C k λi n x=> ?_,h.N.C k λa c b _ _ q=>e q A,h.tb.C k<|e h.tb A⟩;let⟨o,p⟩:=lM h.C l;grind;let⟨r,s,u,o,p⟩:=f i n x;obtain rfl|⟨_,z⟩:=p;exact Ì ⟨_,_,_,o,É U⟩;exact É z
def wS.fH(h:wS m g d T w)(k:fw fB w w'):wS m g d T w':=h.r k λ_ _ x=>x.elim
def wS.M(h:wS m g d T w)(a:fy b l 153 w):wS m g d T (w.setCell ⟨b,i,Ã⟩ v):=h.r (rG a) λi _ x=>⟨_,_,_,Jy x a,É U⟩
theorem yg.K(l:yg m g d w):qP g.B w.heap.size (g.I d) d.S w:=by unfold Gh.I PD.S;split;rename_i e;let⟨b,c,a⟩:=l.M e;have:=a.M;exact(l.Y.fG (eE _) Z).Ua b a.M c a;rename_i e;let⟨b,c⟩:=l.a<|fN e;grind [qP.M]
theorem ku.C(n:ku m w)(g:fy b l e w)(C:m<=b)(p:e≠304/\e≠305)(d:Array Î)(t:ð)(u:0<d.size)(r:t≠304/\t≠305)(h:∀v∈d.toList,oM m (w.heap.size+1) v):ku m ((w.setCell ⟨b,i,Ã⟩<|Ä<|Â ⟨w.heap.size,0,Ã⟩).alloc<|Ô d t):=by have s:(w.setCell ⟨b,i,Ã⟩<|Ä<|Â ⟨w.heap.size,0,Ã⟩).heap.size=w.heap.size:=fD;have D:=g.M;intro j o k c;have x:((w.setCell ⟨b,i,Ã⟩<|Ä<|Â ⟨w.heap.size,0,Ã⟩).alloc<|Ô d t).heap.size=w.heap.size+1:=fD;rw[x];by_cases a:j<w.heap.size;rw[Ĭ _ _ _ (by rwa[s])]at c;by_cases f:j=b;subst f;have:=g.fR i<|Ä<|Â ⟨w.heap.size,0,Ã⟩;unfold fy at this;rw[this]at c;cases c;let⟨E,F,G,y,H,z,I,J,B⟩:=n j _ k g;cases y;refine⟨_,_,_,U,fD,by simpa using z,p.1,p.2,λv h=> ?_⟩;obtain q|q:=eO (by simpa using h);exact(B v<|by simpa using q).fG Z;rw[q];exact⟨Ï k<|dp a,Nat.lt_succ_self _⟩;rw[ģ _ _ _ _ (by simpa using f)]at c;exact(n j o k c).fG Z;by_cases f:j=w.heap.size;have:=ļ (w.setCell ⟨b,i,Ã⟩<|Ä<|Â ⟨w.heap.size,0,Ã⟩)<|Ô d t;rw[s]at this;rw[f,this]at c;cases c;exact⟨_,_,_,U,eD _,u,r.1,r.2,h⟩;grind
def Nu(b:Nat)(w:Ë):Ë:=(w.setCell ⟨b,3,Ã⟩<|Ä<|Â ⟨w.heap.size,0,Ã⟩).alloc<|Ô #[Ç Ê 0,Ç Ê 0,Ç Ê 0,Ç Ê 0,Ç Ê 0,Å ⟨#[]⟩] 200
def rdM(s:ByteArray)(g:Gh)(d:PD)(a b nm:Option ø)(mM c:Int):List Î:=
 [Å s,g.M,Ä<|g.S d,Ä a,Ä b,Ä nm,Ç Ê mM,Ç Ê c]
structure F4(m b:Nat)(g:Gh)(d:PD)(T:Nat)(s:ByteArray)(tm nm:Option ø)(mM Ui:Int)(w0 w:Ë):Prop where
 S:fw (λi=>m<=i) w0 w
 N:ku m w
 r:fy b (rdM s g d (Â ⟨T,0,Ã⟩) tm nm mM Ui) 153 w
 M:wS m g d T w
 I:fy g.q (DU d.M.c g.r) 161 w
 C:w.ownsRow g.B 149 1 g.r (g.I d).length (pA<|g.I d)
def F4.fH{mM:Int}(h:F4 m b g d T s O nm mM c u w)(k:fw fB w w')(a:ku m w'):F4 m b g d T s O nm mM c u w':=⟨h.S.C k λ_ _ x=>x.elim,a,h.r.C k id,h.M.fH k,h.I.C k id,gZ h.C k λ_ _=>id⟩
theorem jb.apB(h:jb m b g nm s st w)(on:st.d.r=Í):F4 m b g st.d w.heap.size s (g.H st.d) nm st.r st.I w (Nu b w):=by
 have l:=h.C.r on;have p:(w.setCell ⟨b,3,Ã⟩<|Ä<|Â ⟨w.heap.size,0,Ã⟩).heap.size=w.heap.size:=fD;have n:fw fB (w.setCell ⟨b,3,Ã⟩<|Ä<|Â ⟨w.heap.size,0,Ã⟩) (Nu b w):=fw.gO _ _ _ _;have r:fw (λk=>k=b) w (w.setCell ⟨b,3,Ã⟩<|Ä<|Â ⟨w.heap.size,0,Ã⟩):=rG h.r;have e:=r.C n λ_ _ x=>x.elim;refine⟨e.fG λk _ x=>by rw[x];exact h.I,?_,(h.r.fR 3 _).C n id,⟨gZ h.C.C e λj f x=>iE h.C.C h.r A (by rw[f,x]),h.C.I.C e λi _ x=>Ì ⟨_,_,_,Jy x h.r,É U⟩,l.K.C e λa c t _ _ q x=> ?_,?_⟩,l.r.C e λx=>fy.H l.r h.r A x,gZ l.C e λj f x=>iE l.C h.r A<|by rw[f,x]⟩;exact h.N.C h.r h.I A _ _ fD A λv o=>by simp at o;obtain rfl|rfl:=o<;>trivial
 have o:=h.r;unfold fy at o;grind;have:=fy.N (w.setCell ⟨b,3,Ã⟩<|Ä<|Â ⟨w.heap.size,0,Ã⟩) [Ç Ê 0,Ç Ê 0,Ç Ê 0,Ç Ê 0,Ç Ê 0,Å ⟨#[]⟩] 200;rwa[p]at this
def Uj(g:Gh)(d:PD)(T:Nat)(v:Î):Gh:={g with t:=T,tb:=g.I d,r:=v}
theorem F4.jm(h:F4 m b g st.d T s O nm st.r st.I w u)(C:m<=b)(on:st.d.r=Í)(a:m<=g.B/\g.B<=g.q/\st.d.M.c.length=8)(D:g.B<=T)(hd:st.r=0)(l:nT u g.B 149 1 g.r (g.I st.d).length (pA<|g.I st.d) 1 [Ä<|Â ⟨T,0,Ã⟩] v W)(K:ku m W)(L:oM m W.heap.size v)(n:jX=((W.setCell ⟨g.q,8,Ã⟩ v).setCell ⟨b,4,Ã⟩<|Ä<|Â ⟨T,0,Ã⟩).setCell ⟨b,0,Ã⟩ (Å ⟨#[84]⟩)): fw (λi=>m<=i) w jX/\jb m b (Uj g st.d T v) nm ⟨#[84]⟩ {st with C:=[84],d:=st.d.K} jX:=by
 have E:∀{j:Nat} {M:List Î} {t:ð},fy j M t u->149≠t->¬g.r.ownBlock=Â j:=λN f=>iE h.C N f;have F:=h.r.C l.r<|E h.r A;have f:=h.I.C l.r<|E h.I A;have P:=h.M.r l.r λi _ x=>by let⟨k,z⟩:=lM h.C x;exact⟨_,_,_,z,Ì ⟨Ì U,(h.C.lt i x).1⟩⟩
 have o:fw (λk=>k=g.q) W (W.setCell ⟨g.q,8,Ã⟩ v):=rG f;have G:fy g.q (DU st.d.M.c v) 161 (W.setCell ⟨g.q,8,Ã⟩ v):=by have:=f.fR 8 v;have e:=aa3 st.d.M.c g.r v;rw[a.2.2]at e;unfold DU at this|-;grind
 have z:=F.C o λx=>fy.H F f A x;have H:=P.r o λi _ x=>⟨_,_,_,Jy x f,Ì ⟨É U,by rw[x];exact a.2.1⟩⟩;have I:=gZ l.fE o λj p x=>iE l.fE f A (by rw[p,x]);have Q:ku m (W.setCell ⟨g.q,8,Ã⟩ v):=K.r _ L;have S:fw (λk=>k=b) (W.setCell ⟨g.q,8,Ã⟩ v) ((W.setCell ⟨g.q,8,Ã⟩ v).setCell ⟨b,4,Ã⟩<|Ä<|Â ⟨T,0,Ã⟩):=rG z;have r:=z.fR 4<|Ä<|Â ⟨T,0,Ã⟩;have V:fw (λk=>k=b) ((W.setCell ⟨g.q,8,Ã⟩ v).setCell ⟨b,4,Ã⟩<|Ä<|Â ⟨T,0,Ã⟩) jX:=by rw[n];exact rG r
 have J:=r.fR 0<|Å ⟨#[84]⟩;rw[<-n]at J;have k:wS m g st.d T jX:=by rw[n];exact(H.M z).M r
 have y:=S.fA V;have X:=G.C y λx=>fy.H G z A x;have Y:=gZ I y λj p x=>iE I z A (by rw[p,x]);have hTl:=H.tb.M;have c5:ku m jX:=by rw[n];refine(Q.r _ ?_).r _ trivial;exact⟨Ï a.1 D,hTl⟩
 have e1:(g.I st.d++[T]).length=(g.I st.d).length+1:=fD;have e2:pA (g.I st.d++[T])=pA (g.I st.d)++[Ä<|Â ⟨T,0,Ã⟩]:=by simp[pA]
 refine⟨((h.S.C l.r λi _ x=> ?_).C o λi _ x=> ?_).C y λi _ x=> ?_,C,c5,?_,A,U,⟨k.C,k.I,λ_=>⟨a.1,a.2.1,a.2.2,X,?_,k.N,λ_=>⟨D,U,k.tb⟩,λe=>by cases e⟩,λe=> ?_⟩,λe=> ?_,É on⟩;have:=(h.C.lt i x).1;have:=a.1;omega;grind;rwa[x];have e:(Uj g st.d T v).S st.d.K=g.S st.d:=rfl;rw[Ud,e];have e4:(Uj g st.d T v).H st.d.K=Â ⟨T,0,Ã⟩:=if_pos on;rwa[e4];show jX.ownsRow g.B 149 1 v (g.I st.d++[T]).length (pA<|g.I st.d++[T]);rwa[e1,e2];have:st.d.r=Ó:=e;grind;grind
def aa8(h:jb m b g nm s st w)(y:st.r=0)(n:st.d.r=Í)(z:st.d.S.length<=100000): Ò À 99 #[Ä<|Â ⟨b,0,Ã⟩] w λe w'=>e=È (Ý #[])/\uh m b {st with C:=[84],d:=st.d.K} w w':=by
 have X:=h.r.r 3 _ U;have Y:=h.r.I 3;have iu:=h.r.M;have l:=h.C.r n;have u:=h.apB n;have C:=λv=>by have:=Nt st.d.M.c v;rwa[l.I]at this
 have D:m<=g.B/\g.B<=g.q/\st.d.M.c.length=8:=⟨l.S,l.N,l.I⟩;have E:g.B<=w.heap.size:=by have:=l.r.M;have:=l.N;omega
 have F:(g.I st.d).length<=100000:=by rwa[l.H]
 have G:=h.I;have H:=fv<|Á D<|Á E<|Á F<|Á G<|Á y n;have i:=fv<|C g.r;have t:g.S st.d=Â ⟨g.q,0,Ã⟩:=if_pos n;go_enter Tryz.func99,Tryz.ntmps99;go_wp2_with fail;change Code.wp À _ _ _ (Nu b w);have j:=u.fH (fw.gM _ _) u.N.gM;generalize hT:w.heap.size=T at*;generalize I:(Nu b w).drew=w1 at*;let⟨i0,J,L,M,N⟩:=Ĉ apz;have o:=fv<|Á J<|Á L<|Á M N;refine mH (λw'=>w'.cell? ⟨b,2,Ã⟩=Â (Ä<|g.S st.d)/\w'.cell? ⟨b,3,Ã⟩=Â (Ä<|Â ⟨T,0,Ã⟩)/\w'.cell? ⟨g.q,8,Ã⟩=Â g.r) [19] fK ?_;rw[I];rw[t];have O:Hd (w1.cell? ⟨b,2,Ã⟩=Â (Ä<|Â ⟨g.q,0,Ã⟩)/\w1.cell? ⟨b,3,Ã⟩=Â (Ä<|Â ⟨T,0,Ã⟩)/\w1.cell? ⟨g.q,8,Ã⟩=Â g.r):=fv ⟨by rw[<-t];exact j.r.r 2 _ U,j.r.r 3 _ U,j.I.r 8 _ i⟩;have p:=fv t;iterate 15 apply tk O
 have P:=j.M.tb.M;have a:=j.fH (fw.gO fB w1 #[Ä<|Â ⟨T,0,Ã⟩] 149) (j.N.gO _ _ fD A λv f=>by simp at f;subst f;exact⟨Ï H.1.1 H.2.1,P⟩);refine jM 15 (λ_=>⟨by rw[<-p.oQ];exact a.r.r 2 _ U,a.r.r 3 _ U,a.I.r 8 _ i⟩) ?_;apply nk 16;intro K Q;refine aa1 gq _ _ 159 gq Tryz.underlying159 o.1 o.2.1 o.2.2.1 o.2.2.2 gq a.C ⟨w1.heap.size,0,Ã⟩ gq (ã w1 _ _) U (by have:=H.2.2.1;unfold ó;omega) (by have:=H.2.2.1;omega) (by have:=H.2.1;have:=a.M.tb.M;omega) A H.1.1 a.N ⟨Ï H.1.1 H.2.1,a.M.tb.M⟩ A ?_;intro v9 w9 r S V;obtain⟨a9,n9c,rfl⟩:=ji r.fE;have f:=a.r.C r.r<|iE a.C a.r A;have k:=a.I.C r.r<|iE a.C a.I A;refine Q.out _ _ (λ_=>⟨by rw[<-p.oQ];exact f.r 2 _ U,f.r 3 _ U,k.r 8 _ i⟩) ?_;refine jM 17 (λ_=>⟨by rw[<-p.oQ];exact f.r 2 _ U,f.r 3 _ U,k.r 8 _ i⟩) ?_;refine jM 18 (λ_=>⟨by rw[<-p.oQ];exact f.r 2 _ U,f.r 3 _ U,k.r 8 _ i⟩) ?_;have cq8:=k.r 8 _ i;have fq8:=k.I 8;have cb4:=f.r 4 _ U;have fb4:=f.I 4;have cb0:=f.r 0 _ U;have fb0:=f.I 0;have cb3:=f.r 3 _ U;have W:=fy.H k f A;have hbq:¬b=g.q:=λe=>W e.symm;refine jM 19 (λx=>absurd A x) ?_;refine lZ ?_;have x:=fv<|a.jm H.2.2.2.1 n H.1 H.2.1 H.2.2.2.2.1 r S V U;go_wp2;go_end0;exact⟨U,x.1,_,_,_,x.2⟩
end
section
variable{w':Ë}{g:Gh}{nm:Option ø}{s:ByteArray}{f:PS}{d:PD}{Q:Nat}{k:Int}
def apC(h:w.ownsRow i e 1 v n l)(c:j<=i):w.ownsRow j e 1 v n l:=⟨h.1,h.2.imp id λ⟨g,d,f,a,b,r⟩=>⟨g,d,f,a,Ï c b,r⟩⟩
def yg.gN(l:yg m g d w):yf w.heap.size g.q ⟨d.M.c,d.S⟩ w:=⟨l.r.M,l.I,g.r,g.I d,l.r,apC l.C<|eD _,λj a=>(l.C.lt j a).2,l.K.fG (eD _)<|eE _⟩
theorem my.G(h:my m g d w)(a:d.r=Ó->d.Y=[]):rF w.heap.size (g.C d) d.I w:=by unfold Gh.C PD.I;split;rename_i e;have l:=h.r e;have b:=l.r.M;have c:=l.N;exact h.I.Ua Z l.gN;rename_i e;have f:=a<|fN e;have:=h.I.I;grind [Ù,rF.N]
def Nv(b:Nat)(k:Int)(w:Ë):Ë:=(w.setCell ⟨b,2,Ã⟩<|Ä<|Â ⟨w.heap.size,0,Ã⟩).alloc<|Ô #[Ç Ê 0,Ç Ê 0,Ç Ê 0,Ç Ê 0,Ç Ê k,Ç Ê 0,Ç Ê 0,Ç Ê 0,Æ Ã 0 0] 161
def rdQ(s:ByteArray)(g:Gh)(d:PD)(Q:Nat)(nm:Option ø)(mM a:Int):List Î:=
 [Å s,g.M,Ä<|Â ⟨Q,0,Ã⟩,Ä<|g.K d,Ä<|g.H d,Ä nm,Ç Ê mM,Ç Ê a]
structure F5(m b:Nat)(g:Gh)(d:PD)(Q:Nat)(k:Int)(s:ByteArray)(nm:Option ø)(mM Ui:Int)(w0 w:Ë):Prop where
 S:fw (λi=>m<=i) w0 w
 M:ku m w
 r:fy b (rdQ s g d Q nm mM Ui) 153 w
 I:fy Q (DU (PD.BN k).c<|Æ Ã 0 0) 161 w
 N:rF Q (g.C d) d.I w
 C:w.ownsRow m 148 1 g.M (g.C d).length (pA<|g.C d)
def F5.fH{mM:Int}(h:F5 m b g d Q k s nm mM c u w)(a:fw fB w w')(e:ku m w'):F5 m b g d Q k s nm mM c u w':=⟨h.S.C a λ_ _ x=>x.elim,e,h.r.C a id,h.I.C a id,h.N.C a λ_ _ x=>x.elim,gZ h.C a λ_ _=>id⟩
def jb.apD(h:jb m b g nm s f w)(k:Int)(l:f.d.r=Ó->f.d.Y=[]):F5 m b g f.d w.heap.size k s nm f.r f.I w (Nv b k w):=by
 have n:(w.setCell ⟨b,2,Ã⟩<|Ä<|Â ⟨w.heap.size,0,Ã⟩).heap.size=w.heap.size:=fD;have c:fw fB (w.setCell ⟨b,2,Ã⟩<|Ä<|Â ⟨w.heap.size,0,Ã⟩) (Nv b k w):=fw.gO _ _ _ _;have o:fw (λk=>k=b) w (w.setCell ⟨b,2,Ã⟩<|Ä<|Â ⟨w.heap.size,0,Ã⟩):=rG h.r;have a:=o.C c λ_ _ x=>x.elim;refine⟨a.fG λk _ x=>by rw[x];exact h.I,?_,(h.r.fR 2 _).C c id,?_,(h.C.G l).C a λi _ x=>Ì ⟨_,_,_,Jy x h.r,É U⟩,gZ h.C.C a λj p x=>iE h.C.C h.r A<|by rw[p,x]⟩;exact h.N.C h.r h.I A _ _ fD A λv e=>by simp at e;obtain rfl|rfl|rfl|rfl:=e<;>trivial
 have:=fy.N (w.setCell ⟨b,2,Ã⟩<|Ä<|Â ⟨w.heap.size,0,Ã⟩) [Ç Ê 0,Ç Ê 0,Ç Ê 0,Ç Ê 0,Ç Ê k,Ç Ê 0,Ç Ê 0,Ç Ê 0,Æ Ã 0 0] 161;rwa[n]at this
def apF(g:Gh)(d:PD)(Q:Nat)(v:Î):Gh:={a:=g.C d,q:=Q,t:=Q,B:=Q,tb:=[],M:=v,r:=Æ Ã 0 0,b:=g.K d}
theorem F5.jm{sb:ByteArray}(h:F5 m b g f.d Q k s nm f.r f.I w u)(o:m<=b)(p:m<=Q)(S:f.r=0)(y:sb.size<=10)(B:iV sb=uf k)(a:nT u m 148 1 g.M (g.C f.d).length (pA<|g.C f.d) 1 [Ä<|Â ⟨Q,0,Ã⟩] v W)(C:ku m W)(D:oM m W.heap.size v)(l:jX=((W.setCell ⟨b,1,Ã⟩ v).setCell ⟨b,4,Ã⟩<|Ä<|Â ⟨Q,0,Ã⟩).setCell ⟨b,0,Ã⟩ (Å sb)): fw (λi=>m<=i) w jX/\jb m b (apF g f.d Q v) nm sb {f with C:=uf k,d:=f.d.wP k} jX:=by
 have c:=h.r.C a.r<|iE h.C h.r A;have n:=h.I.C a.r<|iE h.C h.I A;have E:=h.N.C a.r λi _ x=>by let⟨e,z⟩:=lM h.C x;exact Ì ⟨_,_,_,z,Ì U⟩
 have F:fw (λk=>k=b) W (W.setCell ⟨b,1,Ã⟩ v):=rG c;have q:=c.fR 1 v;have G:fw (λk=>k=b) (W.setCell ⟨b,1,Ã⟩ v) ((W.setCell ⟨b,1,Ã⟩ v).setCell ⟨b,4,Ã⟩<|Ä<|Â ⟨Q,0,Ã⟩):=rG q;have r:=q.fR 4<|Ä<|Â ⟨Q,0,Ã⟩;have H:fw (λk=>k=b) ((W.setCell ⟨b,1,Ã⟩ v).setCell ⟨b,4,Ã⟩<|Ä<|Â ⟨Q,0,Ã⟩) jX:=by rw[l];exact rG r
 have t:=r.fR 0<|Å sb;rw[<-l]at t;have z:=(F.fA G).fA H;have I:=n.C z λx=>fy.H n c A x;have J:=E.C z λi _ x=>Ì ⟨_,_,_,Jy x c,É U⟩;have K:=gZ a.fE z λj L x=>iE a.fE c A (by rw[L,x]);have M:Q<(W.setCell ⟨b,1,Ã⟩ v).heap.size:=fN n.M;have N:ku m jX:=by rw[l];refine((C.r _ D).r _ ?_).r _ trivial;exact⟨p,M⟩
 have O:(g.C f.d++[Q]).length=(g.C f.d).length+1:=fD;have P:pA (g.C f.d++[Q])=pA (g.C f.d)++[Ä<|Â ⟨Q,0,Ã⟩]:=by simp[pA]
 refine⟨(h.S.C a.r λi _ x=> ?_).C z λi _ x=> ?_,o,N,t,y,B,⟨?_,J,λ_=>⟨p,eE _,U,I,?_,qP.M _ _ _,(λe=>by cases e),λ_=>⟨rfl,rfl⟩⟩,(λe=>by cases e)⟩,λe=> ?_,É rfl⟩;exact(h.C.lt i x).1;rwa[x];show jX.ownsRow m 148 1 v (g.C f.d++[Q]).length (pA<|g.C f.d++[Q]);rwa[O,P];exact⟨U,É ⟨U,U⟩⟩;grind
def apG:zL f 0=Ã:=rfl
def apH(h:jb m b g nm s f w)(q:f.r=0)(r:f.d.r=Ó->f.d.Y=[])(t:f.d.I.length<=100000)(k:Int): Ò À 96 #[Ä<|Â ⟨b,0,Ã⟩,Ç Ê k] w λe w'=>match zL f k with|none=>e=È (á Ó)/\w'=w|some l=>e=È (á Í)/\uh m b l w w':=by
 by_cases j:k=0
 .subst j;rw[apG];go_enter aO,ak;go_wp2;go_ret;exact⟨U,U⟩
 have P:(k==0)=Ó:=by rwa[beq_eq_false_iff_ne]
 have e:zL f k=Â {f with C:=uf k,d:=f.d.wP k}:=if_neg j;rw[e];have Q:=h.r.r 2 _ U;have S:=h.r.I 2;have V:=h.r.M;have o:=h.apD k r;have u:(g.C f.d).length<=100000:=by rwa[h.C.K]
 have x:=h.I;have y:m<=w.heap.size:=Z;have H:=fv<|Á x<|Á y<|Á u q;go_enter aO,ak;go_wp2_with fail;change Code.wp À _ _ _ (Nv b k w);have c:=o.fH (fw.gM _ _) o.M.gM;generalize W:w.heap.size=T at*;generalize z:(Nv b k w).drew=w1 at*;let⟨X,B,C,D,E⟩:=Ĉ apA;have i:=fv<|Á B<|Á C<|Á D E;refine mH (λw'=>w'.cell? ⟨b,1,Ã⟩=Â g.M/\w'.cell? ⟨b,2,Ã⟩=Â (Ä<|Â ⟨T,0,Ã⟩)) [13] fK ?_;rw[z];have F:Hd (w1.cell? ⟨b,1,Ã⟩=Â g.M/\w1.cell? ⟨b,2,Ã⟩=Â (Ä<|Â ⟨T,0,Ã⟩)):=fv ⟨c.r.r 1 _ U,c.r.r 2 _ U⟩;iterate 9 apply tk F
 have G:=c.I.M;have a:=c.fH (fw.gO fB w1 #[Ä<|Â ⟨T,0,Ã⟩] 148) (c.M.gO _ _ fD A λv l=>by simp at l;subst l;exact⟨H.2.1,G⟩);refine jM 9 (λ_=>⟨a.r.r 1 _ U,a.r.r 2 _ U⟩) ?_;apply nk 10;intro K I;refine aa1 gq _ _ 61 gq Tryz.underlying61 i.1 i.2.1 i.2.2.1 i.2.2.2 gq a.C ⟨w1.heap.size,0,Ã⟩ gq (ã w1 _ _) U (by have:=H.2.2.1;unfold ó;omega) (by have:=H.2.2.1;omega) (by have:=H.2.1;have:=a.I.M;omega) A (eE _) a.M ⟨H.2.1,a.I.M⟩ A ?_;intro Y w9 l J L;obtain⟨a9,n9c,rfl⟩:=ji l.fE;have v:=a.r.C l.r<|iE a.C a.r A;apply I.out _ _ λ_=>⟨v.r 1 _ U,v.r 2 _ U⟩;refine jM 11 (λ_=>⟨v.r 1 _ U,v.r 2 _ U⟩) ?_;refine jM 12 (λ_=>⟨v.r 1 _ U,v.r 2 _ U⟩) ?_;have cb1:=v.r 1 _ U;have fb1:=v.I 1;have cb4:=v.r 4 _ U;have fb4:=v.I 4;have cb0:=v.r 0 _ U;have fb0:=v.I 0;have cb2:=v.r 2 _ U;refine jM 13 (λn=>absurd A n) ?_;refine lZ ?_;have M:=fv λn p N=>a.jm (sb:=n) H.1 H.2.1 H.2.2.2 p N l J L U;go_wp2_with (go_at_call 145;refine(apn _ _).mono ?_;rintro e w' ⟨⟨n,rfl,N,O⟩,p⟩;subst w');go_ret;have p:=M n N O;exact⟨U,p.1,_,_,_,p.2⟩
end
def mA(i:Nat)(z:Int):Prop:=match i with|0|1=>0<=z/\z<8|2|3=>0<=z/\z<1000000|4=>1<=z/\z<10|5|6=>-1<=z/\z<1000000|7=>0<=z/\z<16|_=>True
structure F6(n m:Nat)(c:List Int):Prop where
 C:c.length=n
 r:∀i,i<m->mA i (c.getD i 0)
theorem F6.I(h:F6 n m zQ)(i:Nat)(z:Int)(b:i<m->mA i z):F6 n m (zQ.set i z):=by refine⟨by simp[h.C],λj a=> ?_⟩;have:=h.r j a;grind
def aa9(h:i<zQ.length)(z:Int):(zQ.set i z).getD i 0=z:=by simp[ċ,h]
structure mX(t:PT):Prop where
 c:F6 5 4 t.c
 p:t.p.size<=40/\∀c∈t.p.data.toList,xU c=Í
structure sB(r:PR):Prop where
 c:F6 8 8 r.c
 C:∀t∈r.r,mX t
 n:r.r.length<=8
structure lI(d:PD):Prop where
 M:d.r=Ó->d.Y=[]/\d.C=Ó
 b:d.C=Ó->d.M.r=[]
 I:d.I.length<=24
 a:d.S.length<=8
 N:∀r∈d.Y,sB r
 C:d.r=Í->F6 8 8 d.M.c
 Y:d.r=Í->∀t∈d.M.r,mX t
 S:d.C=Í->mX d.N
structure na(B:ByteArray)(k:Nat)(st:PS):Prop where
 M:0<=st.r
 r:st.r<=5
 C:0<=st.I
 I:st.I<=40
 c:0<st.r->(st.M=86\/st.M=87\/st.M=110\/st.M=107)/\st.d.r=Í/\0<=st.d.H st.M/\st.d.H st.M<10^(6-st.r.toNat)
 d:lI st.d
 b:st.d.r=Í\/st.C=[82]
 a:82∈st.C->st.d.I.length<24
 N:84∈st.C\/80∈st.C->st.d.C=Í
 Y:66∈st.C->st.d.C=Ó
 S:80∈st.C->st.C=[80]/\st.r=0
 e:80∈st.C->st.I.toNat<=k/\∀j (h:j<B.size),k-st.I.toNat<=j->j<k->xU B[j]=Í
section
variable{d:PD}{st o:PS}
def lI.abb(h:lI d)(on:d.r=Í):∀t∈d.S,mX t:=by unfold PD.S;split;rename_i e;intro t a;obtain q|q:=dx.1 a;exact h.Y on t q;rw[eY]at q;rw[q];exact h.S e;exact h.Y on
def lI.K(h:lI d):∀r∈d.I,sB r:=by unfold PD.I;split;rename_i e;intro r a;obtain q|q:=dx.1 a;exact h.N r q;rw[eY]at q;rw[q];exact⟨h.C e,h.abb e,h.a⟩;exact h.N
def zN(d:PD):d.I.length=d.Y.length+(if d.r then 1 else 0):=by unfold PD.I;split<;>simp
def Jz(d:PD):d.S.length=d.M.r.length+(if d.C then 1 else 0):=by unfold PD.S;split<;>simp
def lI.r(h:lI d)(i:Nat)(z:Int)(a:mA i z):lI (d.wO i z):=⟨h.M,h.b,by have:=h.I;rw[zN]at this|-;exact this,by have:=h.a;rw[Jz]at this|-;exact this,h.N,λe=>(h.C e).I i z λ_=>a,h.Y,h.S⟩
def lI.vh(h:lI d)(i:Nat)(z:Int)(a:i<4->mA i z):lI (d.vh i z):=⟨h.M,h.b,by have:=h.I;rw[zN]at this|-;exact this,by have:=h.a;rw[Jz]at this|-;exact this,h.N,h.C,h.Y,λe=>⟨(h.S e).c.I i z a,(h.S e).p⟩⟩
def lI.H(h:lI d)(i:Nat)(z:Int)(a:mA i z):lI (d.G i z):=by unfold PD.G;split;exact h.vh i z λ_=>a;exact h.r i z a
def lI.sZ(h:lI d)(p:ByteArray)(a:p.size<=40/\∀c∈p.data.toList,xU c=Í):lI (d.sZ p):=⟨h.M,h.b,by have:=h.I;rw[zN]at this|-;exact this,by have:=h.a;rw[Jz]at this|-;exact this,h.N,h.C,h.Y,λe=>⟨(h.S e).c,a⟩⟩
def apI:mX PD.zG:=⟨⟨U,λi a=>by
 match i,a with|0,_|1,_|2,_=>exact⟨A,A⟩|3,_=>exact⟨A,A⟩⟩,⟨A,λc b=>by cases b⟩⟩
def lI.G(h:lI d)(on:d.r=Í)(a:d.S.length<8):lI d.K:=⟨(λe=>by have:d.r=Ó:=e;rw[on]at this;cases this),(λe=>by cases e),by have:=h.I;rw[zN]at this|-;exact this,by rwa[Jz],h.N,λe=>h.C e,λ_=>h.abb on,λ_=>apI⟩
def lI.wP(h:lI d)(q:Int)(a:1<=q/\q<10)(b:d.I.length<24):lI (d.wP q):=⟨(λe=>by cases e),λ_=>U,by rwa[zN],by show(0:Nat)<=8;decide,h.K,λ_=>⟨U,λi c=>by
   match i,c with|0,_|1,_=>exact⟨by show(0:Int)<=0;decide,by show(0:Int)<8;decide⟩|2,_|3,_=>exact⟨by show(0:Int)<=0;decide,by show(0:Int)<1000000;decide⟩|4,_=>exact a|5,_|6,_=>exact⟨by show(-1:Int)<=0;decide,by show(0:Int)<1000000;decide⟩|7,_=>exact⟨by show(0:Int)<=0;decide,by show(0:Int)<16;decide⟩⟩,(λ_ t f=>by cases f),(λe=>by cases e)⟩
def lI.fR(h:lI d)(a z:Int)(b:(a=86->mA 5 z)/\(a=87->mA 6 z)/\(a=120->mA 0 z)/\(a=121->mA 1 z)/\(a=110->mA 2 z)/\(a=107->mA 3 z)/\(a=115->mA 7 z)):lI (d.fR a z):=by
 let⟨c,e,f,g,i,j,k⟩:=b;unfold PD.fR;repeat' split
 exact h.r 5 z<|c ‹_›;exact h.r 6 z<|e ‹_›;exact h.H 0 z<|f ‹_›;exact h.H 1 z<|g ‹_›;exact h.H 2 z<|i ‹_›;exact h.H 3 z<|j ‹_›;exact h.r 7 z<|k ‹_›;exact h
def Uk(d:PD)(a z:Int):(d.fR a z).r=d.r/\(d.fR a z).C=d.C/\(d.fR a z).I.length=d.I.length:=by
 unfold PD.fR PD.G;repeat' split
 all_goals exact⟨U,U,(zN _).trans (zN d).symm⟩
theorem Ul(h:lI d)(on:d.r=Í)(a z:Int)(f:a=86\/a=87\/a=110\/a=107):(d.fR a z).H a=z:=by
 have g:=(h.C on).C;have b:∀i,i<4->(d.G i z).Jx i=z:=λi j=>by unfold PD.G;split;rename_i e;have k:=(h.S e).c.C;show(if d.C=Í then(d.N.c.set i z).getD i 0 else d.M.c.getD i 0)=z;grind;rename_i e;show(if d.C=Í then d.N.c.getD i 0 else(d.M.c.set i z).getD i 0)=z;grind
 obtain rfl|rfl|rfl|rfl:=f;exact aa9 Z z;exact aa9 Z z;exact b 2 A;exact b 3 A
def Nw:∀(l:List UInt8)(c:UInt8),ß l c<l.length|[],_=>by show(-1:Int)<0;decide|a::l,c=>by have:=Nw l c;unfold ß;split;simp;split<;>(simp;omega)
def Um:∀(l:List UInt8)(c:UInt8),c∈l->0<=ß l c
 |[],_,h=>by cases h
 |a::l,c,h=>by unfold ß;split;decide;rename_i e;obtain q|q:=eK.1 h;subst q;simp at e;have:=Um l c q;split;rename_i b;rw[beq_iff_eq]at b;omega;omega
def abd{l:List UInt8}(h:c.toNat∈l.map UInt8.toNat):c.toNat.toUInt8∈l:=by let⟨x,a,b⟩:=cI.1 h;rw[<-b];simpa using a
def abe(h:qM c=Í):0<=ß [97,98,99,100,101,102,103,104] c.toNat.toUInt8:=by rw[aaX]at h;refine Um _ _<|abd ?_;simp;omega
def apJ(h:(kE c||(decide (97<=c)&&decide (c<=102)))=Í):0<=ß [48,49,50,51,52,53,54,55,56,57,97,98,99,100,101,102] c.toNat.toUInt8:=by simp only[eg,BM,eC,decide_eq_true_eq]at h;refine Um _ _<|abd ?_;simp;omega
theorem apK(a:oL h c=Í):(h=86->mA 5 (mb h c))/\(h=87->mA 6 (mb h c))/\(h=120->mA 0 (mb h c))/\(h=121->mA 1 (mb h c))/\(h=110->mA 2 (mb h c))/\(h=107->mA 3 (mb h c))/\(h=115->mA 7 (mb h c)):=by
 unfold oL at a;have b:(c==104||kE c)=Í->-1<=(if c=104 then-1 else(c-48)%256)/\(if c=104 then(-1:Int)else(c-48)%256)<1000000:=λq=>by split<;>omega
 have d:kE c=Í->0<=(if c=104 then-1 else(c-48)%256)/\(if c=104 then(-1:Int)else(c-48)%256)<1000000:=λq=>by rw[BM]at q;grind
 refine⟨?_,?_,?_,?_,?_,?_,?_⟩<;>rintro rfl;exact b a;exact b a;exact⟨abe a,Nw _ _⟩;exact⟨abe a,Nw _ _⟩;exact d a;exact d a;exact⟨apJ a,Nw _ _⟩
theorem apL{mM:Int}(a:kE c=Í)(b:0<=h)(d:0<mM)(e:mM<=5)(f:h<10^(6-mM.toNat)):0<=sy h c/\sy h c<10^(6-(mM-1).toNat)/\sy h c<1000000:=by
 rw[BM]at a;have g:h<100000->sy h c=h*10+(c-48):=λq=>by rw[sy,ğ (h*10) ⟨Z,Z⟩,ğ _ ⟨Z,Z⟩];omega
 have i:mM=1\/mM=2\/mM=3\/mM=4\/mM=5:=Z;grind
def lI.mM(h:lI d)(a z:Int)(c:a=86\/a=87\/a=110\/a=107)(b:0<=z/\z<1000000):lI (d.fR a z):=h.fR a z ⟨λ_=>⟨Z,b.2⟩,λ_=>⟨Z,b.2⟩,λe=>by omega,λe=>by omega,λ_=>b,λ_=>b,λe=>by omega⟩
def na.apM(h:na B k st)(e:0<st.r)(j:kE c=Í):na B (k+1) (Nq st c):=by let⟨a,b,l,m⟩:=h.c e;let⟨f,n,o⟩:=apL j l e h.r m;let⟨g,i,p⟩:=Uk st.d st.M<|sy (st.d.H st.M) c;refine⟨by show 0<=st.r-1;omega,by have:=h.r;show st.r-1<=5;omega,h.C,h.I,λ_=>⟨a,g.trans b,?_⟩,h.d.mM _ _ a ⟨f,o⟩,?_,λq=> ?_,λq=>i.trans<|h.N q,λq=>i.trans<|h.Y q,λq=> ?_,λq=> ?_⟩;show 0<=(st.d.fR st.M<|sy (st.d.H st.M) c).H st.M/\(st.d.fR st.M<|sy (st.d.H st.M) c).H st.M<10^(6-(st.r-1).toNat);rw[Ul h.d b _ _ a];exact⟨f,n⟩;exact É<|g.trans b;show(st.d.fR st.M<|sy (st.d.H st.M) c).I.length<24;rw[p];exact h.a q;have:=(h.S q).2;omega;have:=(h.S q).2;omega
def na.xj(h:na B k st):na B k {st with r:=0}:=⟨cK _,by show(0:Int)<=5;decide,h.C,h.I,(λq=>by cases q),h.d,h.b,h.a,h.N,h.Y,λq=>⟨(h.S q).1,rfl⟩,h.e⟩
theorem na.on(h:na B k st)(a:82∉st.C):st.d.r=Í:=by obtain q|q:=h.b;all_goals grind
def lI.apN(h:lI d)(a:d.C=Í):d.r=Í:=by
 cases e:d.r with|true=>rfl|false=>have:=(h.M e).2;rw[a]at this;cases this
theorem abf(h:na B k st)(b:st.r=0)(on:st.d.r=Í)(a:rE st c=Â o):na B (k+1) o:=by
 unfold rE at a;split at a;rename_i e;cases a;refine⟨h.M,h.r,h.C,h.I,λq=> ?_,h.d,Ì U,λ_=> ?_,λq=> ?_,λq=> ?_,λq=> ?_,λq=> ?_⟩;grind;rw[zN,on];exact e.2;simp at q;simp at q;simp at q;simp at q;split at a
 .rename_i e;cases a;refine⟨h.M,h.r,h.C,h.I,λq=> ?_,h.d.G on e.2.2,É on,λq=> ?_,λ_=>U,λq=> ?_,λq=> ?_,λq=> ?_⟩;all_goals grind
 cases a
def apO(q:Int):82∉uf q/\84∉uf q/\80∉uf q:=by
 unfold uf;repeat' split
 all_goals decide
theorem apP(q:Int):82∉qN q/\84∉qN q/\66∉qN q/\(80∈qN q->qN q=[80]):=by unfold qN;grind
def apQ(c:Int):0<=vg c/\vg c<10:=by
 unfold vg;repeat' split
 all_goals decide
theorem apR(h:na B k st)(i:st.r=0)(f:82∈st.C)(a:zL st (vg c)=Â o):na B (k+1) o:=by unfold zL at a;split at a;cases a;rename_i e;cases a;let⟨g,j,b⟩:=apO<|vg c;have l:=apQ c;refine⟨h.M,h.r,h.C,h.I,λq=> ?_,h.d.wP _ Z<|h.a f,É U,λq=>absurd q g,λq=> ?_,λ_=>U,λq=>absurd q b,λq=>absurd q b⟩;all_goals grind
theorem apS(h:na B k st)(c:st.r=0)(q:Int)(f:84∈st.C)(a:zM st q=Â o):na B (k+1) o:=by unfold zM at a;split at a;cases a;cases a;let⟨g,m,i,l⟩:=apP q;have b:=h.N<|É f;refine⟨h.M,h.r,cK _,by show(0:Int)<=40;decide,λq=> ?_,h.d.vh 4 q λe=>by omega,É<|h.d.apN b,λq=>absurd q g,λ_=>b,λq=>absurd q i,λq=>⟨l q,c⟩,λ_=>⟨eD _,λj _ n p=> ?_⟩⟩;all_goals grind
theorem apT{a:Int}(h:0<mL a c):(a=86\/a=87)/\mL a c=1/\kE c=Í/\c≠48\/(a=110\/a=107)/\mL a c=5/\kE c=Í/\c≠48:=by unfold mL at h|-;grind
theorem abg(h:na B k st)(on:st.d.r=Í){want:Int}(l:oL want c=Í)(r:List Int)(a:∀x∈r,x∈st.C)(g:80∉r):na B (k+1) {ye st want c with C:=r}:=by
 let⟨m,i,n⟩:=Uk st.d want<|mb want c;have j:=apd want c;refine⟨j.1,j.2,h.C,h.I,λq=> ?_,h.d.fR _ _<|apK l,É<|m.trans on,λq=> ?_,λq=>i.trans<|h.N<|q.imp (a _)<|a _,λq=>i.trans<|h.Y<|a _ q,λq=>absurd q g,λq=>absurd q g⟩;have q:=q;show(want=86\/want=87\/want=110\/want=107)/\(st.d.fR want<|mb want c).r=Í/\0<=(st.d.fR want<|mb want c).H want/\(st.d.fR want<|mb want c).H want<10^(6-(mL want c).toNat);obtain⟨o,b,e,p⟩|⟨o,b,e,p⟩:=apT q;have f:want=86\/want=87\/want=110\/want=107:=Z
 rw[Ul h.d on _ _ f,b];rw[BM]at e;have:mb want c=(c-48)%256:=by unfold mb;grind
 grind;have f:want=86\/want=87\/want=110\/want=107:=Z;rw[Ul h.d on _ _ f,b];rw[BM]at e;have:mb want c=(c-48)%256:=by unfold mb;grind
 grind;show(st.d.fR want<|mb want c).I.length<24;rw[n];exact h.a<|a _ q
def apU{x:UInt8}(h:x∈(B.extract i b).data.toList):∃j,∃e:j<B.size,i<=j/\j<b/\B[j]=x:=by rw[cC,cP,dE]at h;obtain⟨c,d,rfl⟩:=cJ h;simp only[dB,List.length_drop,dU]at d;have f:B.data.size=B.size:=rfl;exact⟨i+c,Z,Z,Z,by simp[dX]⟩
theorem apV(h:na B k st)(l:st.r=0)(F:k<B.size)(a:ki B k st (B[k].toNat:Int)=Â o):na B (k+1) o:=by
 unfold ki at a;split at a;rename_i e;exact abf h l (h.on<|by rw[e];decide) a;rename_i t p e;have c:t∈st.C:=by rw[e];exact eZ ..
 split at a;rename_i f;subst f;exact apR h l c a;rename_i G;have i:st.d.r=Í:=by obtain q|q:=h.b;all_goals grind
 split at a;rename_i f;subst f;split at a;rename_i u;cases a;have n:=h.Y c;have b:st.d.S.length<8:=by rw[Jz,h.d.b n,n];decide
 have v:na B k {st with C:=[84],d:=st.d.K}:=by refine⟨h.M,h.r,h.C,h.I,λq=> ?_,h.d.G i b,É i,λq=> ?_,λ_=>U,λq=> ?_,λq=> ?_,λq=> ?_⟩;all_goals grind
 exact abg (want:=120) v i u [84] (λx b=>b) A;exact abf h l i a;split at a;rename_i f;subst f;exact apS h l _ c a;split at a;rename_i f;subst f;let⟨H,w⟩:=h.e c;have n:=h.N<|Ì c;have y:=(h.S c).1;have I:=h.C;have J:=h.I;split at a;cases a;have z:p=[]:=by rw[y]at e;cases e;rfl
 subst z;refine⟨h.M,h.r,h.C,h.I,λq=> ?_,h.d.sZ _ ⟨by rw[ä];omega,λx b=> ?_⟩,É i,λq=> ?_,λq=> ?_,λq=> ?_,λq=> ?_,λq=> ?_⟩;grind;obtain⟨j,r,m,s,rfl⟩:=apU b;exact w j r m s;cases q;grind;cases q;cases q;cases q;split at a;cases a;rename_i g;cases a;have K:=λq=>g<|É q;have C:=λq=>g<|Ì q;refine⟨h.M,h.r,by show 0<=st.I+1;omega,by show st.I+1<=40;omega,h.c,h.d,h.b,h.a,h.N,h.Y,h.S,λ_=>⟨by show(st.I+1).toNat<=k+1;omega,λj r m s=> ?_⟩⟩;have m:k+1-(st.I+1).toNat<=j:=m;by_cases D:j=k;subst D;unfold xU;simpa using C;grind;split at a;rename_i L M N E;cases a;refine abg h i E p (λx b=>by rw[e];exact fi _ b) λq=> ?_;have:=(h.S<|by rw[e];exact fi _ q).1;grind;cases a
def abh(h:na B k st)(b:k<B.size)(a:ug B k st (B[k].toNat:Int)=Â o):na B (k+1) o:=by unfold ug at a;split at a;rename_i e;cases a;exact h.apM e.1 e.2;exact apV h.xj U b a
def Un(B:ByteArray):na B 0 vi:=⟨A,A,A,A,(λq=>by cases q),⟨λ_=>⟨rfl,rfl⟩,λ_=>U,A,A,(λr e=>by cases e),(λe=>by cases e),(λe=>by cases e),(λe=>by cases e)⟩,Ì rfl,λ_=>by decide,(λq=>by obtain q|q:=q<;>simp[vi]at q),(λq=>by simp[vi]at q),(λq=>by simp[vi]at q),(λq=>by simp[vi]at q)⟩
def JA:∀(f k:Nat)(st:PS),na B k st->k<=B.size->na B (qO B f k st).1 (qO B f k st).2/\(qO B f k st).1<=B.size|0,k,st,h,hk=>⟨h,hk⟩|f+1,k,st,h,hk=>by unfold qO;split;rename_i a;split;exact⟨h,hk⟩;rename_i o e;exact JA f (k+1) o (abh h a e) Z;exact⟨h,hk⟩
end
section
variable{g:Gh}{st:PS}
def abj{d:PD}(i:Nat)(z:Int):g.N (d.G i z)=g.N d:=by unfold PD.G Gh.N;split<;>simp[PD.vh,PD.wO, *]
def apW{d:PD}(z:Int):g.Y (d.G 2 z) 110=⟨g.N d,2,Ã⟩/\g.Y (d.G 3 z) 107=⟨g.N d,3,Ã⟩:=⟨congrArg (λx=>(⟨x,2,Ã⟩:ø))<|abj 2 z,congrArg (λx=>(⟨x,3,Ã⟩:ø))<|abj 3 z⟩
def abk{d:PD}(on:d.r=Í):g.S d=Â ⟨g.q,0,Ã⟩:=if_pos on
def apX{d:PD}(on:d.r=Í):g.H d=Â ⟨g.N d,0,Ã⟩:=if_pos on
def MO(h:jb m b g O B st w)(f:st.r=0)(on:st.d.r=Í)(a c:Int)(j:oL a c=Í): Ò À 100 #[Ä<|Â ⟨b,0,Ã⟩,Ç Ň a,Ç Ň c] w λe u=>e=È (Ý #[])/\uh m b (ye st a c) w u:=by
 have n:w.cell? ⟨b,2,Ã⟩=Â (Ä<|g.S st.d):=h.r.r 2 _ U;have k:w.cell? ⟨b,4,Ã⟩=Â (Ä<|g.H st.d):=h.r.r 4 _ U;rw[abk on]at n;rw[apX on]at k;have H:=fv (Á h<|Á j<|Á (λi q=>Uf h.C h.r on (i:=i) q)<|apW (g:=g) (d:=st.d));clear h j;generalize g.N st.d=tm at k H;by_cases l:a=86\/a=87\/a=110\/a=107
 .obtain rfl|rfl|rfl|rfl:=l;have N:=fv (Á (F2 H.1.C H.1.r on (i:=5) A) λz=>(rfl:g.Y (st.d.wO 5 z) 86=⟨g.q,5,Ã⟩));rotate_left;have N:=fv (Á (F2 H.1.C H.1.r on (i:=6) A) λz=>(rfl:g.Y (st.d.wO 6 z) 87=⟨g.q,6,Ã⟩));rotate_left;have N:=fv (Á (H.2.2.1 2 A) λz=>(H.2.2.2 z).1);rotate_left;have N:=fv (Á (H.2.2.1 3 A) λz=>(H.2.2.2 z).2);all_goals
   go_enter Ū,Ő;go_wp2_with (go_at_call 147;refine gl (apv H.1 N.1 f on H.2.1 A N.2) λu q=> ?_);go_end0;exact⟨U,q⟩
 by_cases z:a=120\/a=121\/a=115
 .obtain rfl|rfl|rfl:=z;have e:=fv<|H.2.2.1 0 A;rotate_left;have e:=fv<|H.2.2.1 1 A;rotate_left;have e:=fv<|F2 H.1.C H.1.r on (i:=7) A;all_goals
   have N:=e.C;have o:=e.I;have p:=e.r;go_enter Ū,Ő;go_wp2;go_region_with (go_at_call 146;refine gl (T8 _ _ _) λu r=> ?_;subst u);all_goals go_end0
   all_goals exact⟨U,apw H.1 e f (aa6 A) U⟩
 simp only[not_or]at l z;go_enter Ū,Ő;go_wp2;go_end0;refine⟨U,fw.gy _ _,g,O,B,?_⟩;rw[show ye st a c={st with M:=a} by simp[ye,PD.fR,aa6, *]];exact H.1.Ug a f
end
section
variable{g:Gh}{s:ByteArray}{st:PS}{d:PD}
def Nx(m b:Nat)(o:Option PS)(e:Ending)(w u:Ë):Prop:=
 (o=Ã/\e=È (á Ó)/\u=w)\/∃a,o=Â a/\e=È (á Í)/\uh m b a w u
def abl{o:Option PS}{e:Ending}(h:match o with|none=>e=È (á Ó)/\u=w|some a=>e=È (á Í)/\uh m b a w u):Nx m b o e w u:=by
 cases o with|none=>exact É ⟨U,h⟩|some a=>exact Ì ⟨a,U,h⟩
def apY{d:PD}(on:d.r=Í):d.I.length=d.Y.length+1:=by rw[zN,on];rfl
def abm(h:jb m b g O s st w)(i:st.r=0)(on:st.d.r=Í)(x:st.d.S.length<=8)(y:st.d.I.length<=24)(c:Int): Ò À 95 #[Ä<|Â ⟨b,0,Ã⟩,Ç Ň c] w λe u=>Nx m b (rE st c) e w u:=by
 have l:=h.C.r on;let⟨G,I,o⟩:=ji h.C.C;let⟨J,K,p⟩:=ji l.C;rw[h.C.K]at o;rw[l.H]at p;have L:=h.r.r 0 _ U;have q:=h.r.r 1 _ U;have z:=h.r.r 2 _ U;rw[abk on]at z;rw[o]at q;have r:=l.r.r 8 _ (by have:=Nt st.d.M.c g.r;rwa[l.I]at this);rw[p]at r;have M:=h.r.I 0;obtain⟨t,a⟩:∃n,st.d.I.length=n:=⟨_,U⟩;obtain⟨v,f⟩:∃n,st.d.S.length=n:=⟨_,U⟩;rw[a]at q y;rw[f]at r x;have j:st.d.Y.length+1=t:=by rw[<-a];exact(apY on).symm
 have H:=fv<|Á h<|Á a<|Á f<|Á j i;by_cases B:c=59/\t<24
 .obtain⟨rfl,e⟩:=B;go_enter Ź,ū;go_wp2;go_ret;let⟨h,a,f,j,i⟩:=H.oQ;exact Ì ⟨_,by rw[rE,if_pos ⟨U,Z⟩],U,vj h 0 _,g,O,_,h.K _ [82] A A<|É on⟩
 by_cases C:c=44/\0<v/\v<8
 .obtain⟨rfl,N,P⟩:=C;go_enter Ź,ū;go_wp2_with (go_at_call 99;refine gl (aa8 H.1 H.2.2.2.2 on (by have:=H.2.2.1;omega)) λu ⟨k,D,E,Q,e⟩=> ?_;have S:=e.r.r 0 _ U;have T:=e.r.I 0;have F:=fv<|Á k e;clear k e);go_ret;let⟨h,a,f,j,i⟩:=H.oQ;let⟨k,e⟩:=F.oQ;exact Ì ⟨_,by rw[rE,if_neg Z,if_pos ⟨U,Z,Z⟩],U,k.fA<|vj e 0 _,D,E,_,e.K _ [120,84] A A<|É on⟩
 .have e:=fv (show rE st c=Ã by
   let⟨h,a,f,j,i⟩:=H.oQ;rw[rE,if_neg Z,if_neg Z])
  go_enter Ź,ū;go_wp2_with fail;all_goals first|(go_ret;exact É ⟨e,U,U⟩)|(exfalso;simp only[beq_iff_eq,decide_eq_true_eq]at*;omega)
def apZ(h:¬(0<st.r/\kE c=Í)):ug B k st c=ki B k {st with r:=0} c:=if_neg h
def ap0(a:0<st.r)(b:kE c=Í):ug B k st c=Â (Nq st c):=if_pos ⟨a,b⟩
section
variable{want:Int}
def ap1(h:st.C=[]):ki B k st c=rE st c:=by rw[ki,h]
def ap2(h:st.C=want::zQ)(a:want=82):ki B k st c=zL st (vg c):=by rw[ki,h];simp only;rw[if_pos a]
def ap3(h:st.C=want::zQ)(a:want=66)(b:qM c=Í):ki B k st c=Â (ye {st with C:=[84],d:=st.d.K} 120 c):=by rw[ki,h];simp only;rw[if_neg Z,if_pos a,if_pos b]
def ap4(h:st.C=want::zQ)(a:want=66)(b:qM c=Ó):ki B k st c=rE st c:=by rw[ki,h];simp only;rw[if_neg Z,if_pos a,if_neg (by rw[b];decide)]
def ap5(h:st.C=want::zQ)(a:want=84):ki B k st c=zM st (BJ c):=by rw[ki,h];simp only;rw[if_neg Z,if_neg Z,if_pos a]
def ap6(h:st.C=want::zQ)(a:want=80)(b:c=125):ki B k st c=Â {st with C:=zQ,d:=st.d.sZ (B.extract (k-st.I.toNat) k)}:=by rw[ki,h];simp only;rw[if_neg Z,if_neg Z,if_neg Z,if_pos a,if_pos b]
def abn(h:st.C=want::zQ)(a:want=80)(b:¬c=125)(d:st.I=40\/il c=0):ki B k st c=Ã:=by rw[ki,h];simp only;rw[if_neg Z,if_neg Z,if_neg Z,if_pos a,if_neg b,if_pos d]
def ap7(h:st.C=want::zQ)(a:want=80)(b:¬c=125)(d:¬st.I=40)(e:¬il c=0):ki B k st c=Â {st with I:=st.I+1}:=by rw[ki,h];simp only;rw[if_neg Z,if_neg Z,if_neg Z,if_pos a,if_neg b,if_neg Z]
def ap8(h:st.C=want::zQ)(a:¬want=82)(b:¬want=66)(d:¬want=84)(e:¬want=80)(f:oL want c=Í):ki B k st c=Â {ye st want c with C:=zQ}:=by rw[ki,h];simp only;rw[if_neg a,if_neg b,if_neg d,if_neg e,if_pos f]
def ap9(h:st.C=want::zQ)(a:¬want=82)(b:¬want=66)(d:¬want=84)(e:¬want=80)(f:oL want c=Ó):ki B k st c=Ã:=by rw[ki,h];simp only;rw[if_neg a,if_neg b,if_neg d,if_neg e,if_neg (by rw[f];decide)]
end
def aqa(c:UInt8):(0:Int)<=(c.toNat:Int)/\(c.toNat:Int)<256:=⟨cu _,by have:=c.toNat_lt;omega⟩
def Uo(s:ByteArray)(h:s.size=0):(s.toList==[])=Í:=by simp_all
theorem Up(s:ByteArray)(h:¬s.size=0):(s.toList==[])=Ó:=by
 rw[beq_eq_false_iff_ne];intro e;have:s.toList.length=s.size:=by rw[ą];rfl
 grind
def jb.aqb(h:jb m b g O s st w)(on:st.d.r=Í)(i:c=86\/c=87\/c=110\/c=107):∃a e f,g.Y st.d c=⟨a,e,Ã⟩/\wR m b g st.d a e f (st.d.H c) w/\∀z,f z=st.d.fR c z:=by obtain rfl|rfl|rfl|rfl:=i;exact⟨_,_,_,U,F2 h.C h.r on A,λz=>U⟩;exact⟨_,_,_,U,F2 h.C h.r on A,λz=>U⟩;exact⟨_,_,_,U,Uf h.C h.r on A,λz=>U⟩;exact⟨_,_,_,U,Uf h.C h.r on A,λz=>U⟩
def jb.sZ(h:jb m b g O s st w)(on:st.d.r=Í)(a:st.d.C=Í)(p:ByteArray):jb m b g O s {st with d:=st.d.sZ p} (w.setCell ⟨g.t,5,Ã⟩<|Å p)/\fw (λi=>m<=i) w (w.setCell ⟨g.t,5,Ã⟩<|Å p):=by have l:=h.C.r on;let⟨f,j,c⟩:=l.M a;have e:fw (λi=>i=g.t) w (w.setCell ⟨g.t,5,Ã⟩<|Å p):=rG c;exact⟨⟨h.I,h.N.r _ trivial,h.r.C e λx=>fy.H h.r c A x,h.S,h.M,h.C.sZ on a p,h.a,h.Y⟩,e.fG λi _ x=>by have:=l.S;omega⟩
def jb.abo(h:jb m b g O s st w)(on:st.d.r=Í)(a:st.C=c::zQ):jb m b g O (s.extract 1 s.size) {st with C:=zQ} (w.setCell ⟨b,0,Ã⟩<|Å<|s.extract 1 s.size):=h.K _ zQ (apc s h.S) (by rw[apb,h.M,a];rfl)<|É on
def jb.aqc(h:jb m b g O s st w)(a:st.C=c::zQ):0<s.size:=by have:=FZ s;rw[h.M,a]at this;simp at this;omega
end
section
variable{g:Gh}{s:ByteArray}{st:PS}{d:PD}
def aqd(h:jb m b g O s st w)(a:st.r=0)(c:st.d.r=Ó->st.d.Y=[])(f:st.d.I.length<=100000)(k:Int): Ò À 96 #[Ä<|Â ⟨b,0,Ã⟩,Ç Ê k] w λe u=>Nx m b (zL st k) e w u:=(apH h a c f k).mono λ_ _ q=>abl q
def aqe(h:jb m b g O s st w)(a:st.r=0)(on:st.d.r=Í)(c:st.d.C=Í)(k:Int): Ò À 101 #[Ä<|Â ⟨b,0,Ã⟩,Ç Ê k] w λe u=>Nx m b (zM st k) e w u:=(apy h a on c k).mono λ_ _ q=>abl q
def oy(B:ByteArray):Nat×PS:=qO B B.size 0 vi
def aqf{a:PS}(b:k<B.size)(c:ug B k st (B[k].toNat:Int)=Â a):qO B (B.size-k) k st=qO B (B.size-(k+1)) (k+1) a:=by rw[show B.size-k=(B.size-(k+1))+1 by omega,qO,dif_pos b,c]
def aqg(a:k<B.size)(b:ug B k st (B[k].toNat:Int)=Ã):qO B (B.size-k) k st=(k,st):=by rw[show B.size-k=(B.size-(k+1))+1 by omega,qO,dif_pos a,b]
theorem aqh(h:jb m b g O s vi w)(hB:B.size<=1200): Ò À 61 #[Ä<|Â ⟨b,0,Ã⟩,Å B] w λe u=>
  ∃k:Nat,k<=B.size/\e=È (Ç Ê k)/\∃N,uh m b N w u/\(oy B).1=k/\(k=B.size->(oy B).2=N):=by
 have H:=fv h;clear h;go_enter Tryz.func61,Tryz.ntmps61;go_wp2;go_step3;go_wp2;go_step3;go_wp2;go_loopw [5] (λi wr=>∃(k:Nat)(st:PS),i=Ç Ê k/\k<=B.size/\∃g O s,jb m b g O s st wr/\fw (λi=>m<=i) w wr/\na B k st/\oy B=qO B (B.size-k) k st) λi _=>B.size-(Þ i).toNat
 case atStart=>exact⟨0,vi,U,eD _,g,O,s,H,fw.gy _ _,Un B,U⟩
 case round=>
  clear H;obtain⟨k,st,rfl,P,g,O,s,a,W,l,X⟩:=hrel;by_cases I:k<B.size
  case neg=>
   have H:=fv (show∃N,uh m b N w wr/\(oy B).1=k/\(k=B.size->(oy B).2=N) by rw[X,show B.size-k=0 by omega];exact⟨st,⟨W,g,O,s,a⟩,U,λ_=>U⟩);clear a W l X;go_wp2;(try rw[ê]);go_ret;exact⟨k,P,U,H⟩
  have c0:wr.cell? ⟨b,0,Ã⟩=Â (Å s):=a.r.r 0 _ U;have c6:wr.cell? ⟨b,6,Ã⟩=Â (Ç Ê st.r):=a.r.r 6 _ U;have c7:wr.cell? ⟨b,7,Ã⟩=Â (Ç Ê st.I):=a.r.r 7 _ U;have f0:=a.r.I 0;have f6:=a.r.I 6;have f7:=a.r.I 7;have d0:=l.M;have d1:=l.r;have e0:=l.C;have e1:=l.I;have Ny:=fv (λE v (o:ug B k st (B[k].toNat:Int)=Â E) (d:uh m b E wr v)=>show∃g O s,jb m b g O s E v/\fw (λi=>m<=i) w v/\na B (k+1) E/\oy B=qO B (B.size-(k+1)) (k+1) E from let⟨g',nm',Y,q⟩:=d.2;⟨g',nm',Y,q,W.fA d.1,abh l I o,X.trans<|aqf I o⟩);by_cases hA:0<st.r/\kE (B[k].toNat:Int)=Í
  .let⟨wj,hA2⟩:=hA;let⟨abp,F,_,_⟩:=l.c wj;let⟨ab,ao,f,ht,hn,hf⟩:=a.aqb F abp;have c5:wr.cell? ⟨b,5,Ã⟩=Â (Ä O):=a.r.r 5 _ U;rw[(a.a wj).2,ht]at c5;obtain⟨x,hx⟩:∃x,st.d.H st.M=x:=⟨_,U⟩;have cm:=hn.C;rw[hx]at cm;have fm:=hn.I;obtain⟨y1,hy1⟩:∃y,wrap64 (x*10)=y:=⟨_,U⟩;obtain⟨y2,hy2⟩:∃y,wrap64 (y1+((B[k].toNat:Int)-48)%256)=y:=⟨_,U⟩;have aqi:¬ab=b:=hn.r;have aqj:¬b=ab:=λe=>hn.r e.symm;have n1:=hn.rd 6<|Ç Ê<|st.r-1;have h2:=(a.G (st.r-1) λ_=>a.a wj).H n1 y2;have T:sy (st.d.H st.M) (B[k].toNat:Int)=y2:=by rw[sy,ű,ű,hx,hy1,hy2]
   have L:=fv (Ny.oQ {st with r:=st.r-1,d:=f y2} (œ _) (by rw[ap0 wj hA2,Nq,T,hf]) ⟨(((vj a 6 _).fA<|F3 (st:=st) n1 _).C (fw.gM fB _) λ_ _ x=>x.elim),g,O,s,h2.gM⟩);clear n1 h2 T hn hf ht a l hx abp X W Ny;go_wp2_with (go_at_call 94;refine iT (T7 _ _) ?_);go_region;all_goals
    go_wp2;go_roundw
    case rel=>exact⟨_,_,by go_num,I,L⟩
    case measure=>simp[Þ];omega
  have Uq:=fv<|apZ (B:=B) (k:=k) hA;have J:=a.G 0 λh=>absurd h A;have HK1:=fv<|vj a 6<|Ç Ê 0;have L:=fv (λ(o:ki B k {st with r:=0} (B[k].toNat:Int)=Ã)=>show∃N,uh m b N w _/\(oy B).1=k/\(k=B.size->(oy B).2=N)from⟨_,⟨W.fA HK1.oQ,_,_,_,J⟩,by rw[X,aqg I<|Uq.oQ.trans o],λe=>by omega⟩);have Q:=fv λE v (o:ki B k {st with r:=0} (B[k].toNat:Int)=Â E) (d:uh m b E _ v)=>Ny.oQ E v (Uq.trans o) ⟨HK1.fA d.1,d.2⟩;clear X W Ny;have hnq:=l.d.I;have hnt:=l.d.a;let⟨xt,zE⟩:=aqa B[k];obtain MY|MY:(0<st.r/\kE (B[k].toNat:Int)=Ó)\/st.r<=0:=by grind
  case' inl=>
   let⟨uR,rv⟩:=MY;go_wp2_with fail;go_at_call 94;refine iT (T7 _ _) ?_
  all_goals
   clear hA Uq;by_cases T:s.size=0
   .have IT:=Uo s T;have LV:st.C=[]:=by rw[<-a.M];exact aaZ s T
    have F:st.d.r=Í:=by obtain q|q:=a.Y;exact q;rw[LV]at q;cases q
    have j:=fv<|ap1 (B:=B) (k:=k) (c:=(B[k].toNat:Int)) (st:={st with r:=0}) LV;clear LV a l;go_wp2_with (go_at_call 95;refine(abm J U F hnt hnq _).mono ?_;rintro e u (⟨z,rfl,rfl⟩|⟨E,z,rfl,M⟩))
    ·(try rw[ê]);go_ret;exact⟨k,P,U,L<|j.trans z⟩
    go_roundw
    case rel=>exact⟨_,_,by go_num,I,Q _ _ (j.trans z) M⟩
    case measure=>simp[Þ];omega
   have Qg:0<s.size:=Z;have IT:=Up s T;have hs9:s.size<=10:=a.S;have n:=fv (show st.C=(s[0].toNat:Int)::(iV s).tail by rw[<-a.M];exact aaY s Qg);clear T;by_cases C:(s[0].toNat:Int)=82
   .have j:=fv<|ap2 (B:=B) (k:=k) (c:=(B[k].toNat:Int)) (st:={st with r:=0}) n.oQ C;have hRb:=beq_iff_eq.2 C;have HOF:=fv λe=>(l.d.M e).1;clear C a l;go_wp2_with (first|(go_at_call 97;refine iT (apm _ _) ?_)|(go_at_call 96;refine(aqd J U HOF (by show st.d.I.length<=100000;omega) _).mono ?_;rintro e u (⟨z,rfl,rfl⟩|⟨E,z,rfl,M⟩)))
    ·(try rw[ê]);go_ret;exact⟨k,P,U,L<|j.trans z⟩
    go_roundw
    case rel=>exact⟨_,_,by go_num,I,Q _ _ (j.trans z) M⟩
    case measure=>simp[Þ];omega
   have F:st.d.r=Í:=by obtain q|q:=a.Y;exact q;rw[n.oQ]at q;injection q with q;omega
   have hRb:=beq_eq_false_iff_ne.2 C;by_cases D:(s[0].toNat:Int)=66
   .have hBb:=beq_iff_eq.2 D;cases Ur:qM (B[k].toNat:Int)
    .have j:=fv<|ap4 (B:=B) (k:=k) (st:={st with r:=0}) n.oQ D Ur;clear C D a l;go_wp2_with (first|(go_at_call 98;refine iT (T9 _ xt zE _) ?_)|(go_at_call 95;refine(abm J U F hnt hnq _).mono ?_;rintro e u (⟨z,rfl,rfl⟩|⟨E,z,rfl,M⟩)))
     ·(try rw[ê]);go_ret;exact⟨k,P,U,L<|j.trans z⟩
     go_roundw
     case rel=>exact⟨_,_,by go_num,I,Q _ _ (j.trans z) M⟩
     case measure=>simp[Þ];omega
    have j:=fv<|ap3 (B:=B) (k:=k) (st:={st with r:=0}) n.oQ D Ur;clear C D a l;go_wp2_with (first|(go_at_call 98;refine iT (T9 _ xt zE _) ?_)|(go_at_call 99;refine gl (aa8 J U F<|by show st.d.S.length<=100000;omega) λu ⟨Br,g',nm',Y,S⟩=> ?_)|(go_at_call 100;refine gl (MO S U F _ _<|show oL 120 _=Í from Ur) λw'' ⟨aqk,M⟩=> ?_));go_roundw
    case rel=>exact⟨_,_,by go_num,I,Q _ _ j ⟨Br.fA aqk,M⟩⟩
    case measure=>simp[Þ];omega
   have hBb:=beq_eq_false_iff_ne.2 D;by_cases G:(s[0].toNat:Int)=84
   .have JB:st.d.C=Í:=l.N (by rw[n.oQ,G];simp);have j:=fv<|ap5 (B:=B) (k:=k) (c:=(B[k].toNat:Int)) (st:={st with r:=0}) n.oQ G;have hTb:=beq_iff_eq.2 G;clear C D G a l;go_wp2_with (first|(go_at_call 102;refine iT (apl _ _) ?_)|(go_at_call 101;refine(aqe J U F JB _).mono ?_;rintro e u (⟨z,rfl,rfl⟩|⟨E,z,rfl,M⟩)))
    ·(try rw[ê]);go_ret;exact⟨k,P,U,L<|j.trans z⟩
    go_roundw
    case rel=>exact⟨_,_,by go_num,I,Q _ _ (j.trans z) M⟩
    case measure=>simp[Þ];omega
   have hTb:=beq_eq_false_iff_ne.2 G;by_cases r:(s[0].toNat:Int)=80
   .have JB:st.d.C=Í:=l.N (by rw[n.oQ,r];simp);have c3:wr.cell? ⟨b,3,Ã⟩=Â (Ä<|g.K st.d):=a.r.r 3 _ U;rw[aa7 JB]at c3;let⟨yt1,yt2,JC⟩:=(a.C.r F).M JB;have ct5:wr.cell? ⟨g.t,5,Ã⟩=Â (Å st.d.N.p):=JC.r 5 _ (by have:=Nt st.d.N.c<|Å st.d.N.p;rwa[yt2]at this);have ft5:=JC.I 5;have aqj:¬b=g.t:=λe=>fy.H JC a.r A e.symm;have aqi:¬g.t=b:=fy.H JC a.r A;let⟨hru,_⟩:=l.e (by rw[n.oQ,r];simp);have hPb:=beq_iff_eq.2 r;clear yt1 yt2 JC;by_cases K:(B[k].toNat:Int)=125
    .have j:=fv<|ap6 (B:=B) (k:=k) (st:={st with r:=0}) n.oQ r K;have Us:((B[k].toNat:Int) !=125)=Ó:=by rw[K];rfl
     obtain⟨t0,Nz⟩:∃t:Nat,st.I=(t:Int):=⟨st.I.toNat,Z⟩;have hp:=J.sZ F JB<|B.extract (k-t0) k;have F7:=hp.1.abo F n;have HP:=fv (Q.oQ {({st with r:=0}:PS)with C:=(iV s).tail,d:=st.d.sZ (B.extract (k-t0) k)} _ (by rw[j.oQ,show({st with r:=0}:PS).I.toNat=t0 by show st.I.toNat=t0;omega]) ⟨(hp.2.fA<|vj hp.1 0<|Å<|s.extract 1 s.size).C (fw.gM fB _) λ_ _ x=>x.elim,_,_,_,F7.gM⟩);rw[Nz]at c7 e0 e1 hru;clear K C D G r a l hp F7 Nz j J;go_wp2;go_region;all_goals
      go_wp2;go_roundw
      case rel=>exact⟨_,_,by go_num,I,HP⟩
      case measure=>simp[Þ];omega
    have Us:=bne_iff_ne.2 K;by_cases V:st.I=40
    .have j:=fv<|abn (B:=B) (k:=k) (st:={st with r:=0}) n.oQ r K<|É V;have aql:=beq_iff_eq.2 V;clear V K C D G r a l;go_wp2;(try rw[ê]);go_ret;exact⟨k,P,U,L j⟩
    have aql:=beq_eq_false_iff_ne.2 V;by_cases hi:il (B[k].toNat:Int)=0
    .have j:=fv<|abn (B:=B) (k:=k) (st:={st with r:=0}) n.oQ r K<|Ì hi;have A0:((il (B[k].toNat:Int):Int)==0)=Í:=by rw[hi];rfl
     clear V K C D G r a l hi;go_wp2_with (go_at_call 103;refine iT (Bo _ _) ?_);(try rw[ê]);go_ret;exact⟨k,P,U,L j⟩
    have j:=fv<|ap7 (B:=B) (k:=k) (st:={st with r:=0}) n.oQ r K V hi;have A0:((il (B[k].toNat:Int):Int)==0)=Ó:=by rw[beq_eq_false_iff_ne];omega
    have HP:=fv<|Q.oQ _ _ j.oQ ⟨vj J 7 _,_,_,_,J.aa5 _⟩;clear V K C D G r a l hi;go_wp2_with (go_at_call 103;refine iT (Bo _ _) ?_);go_roundw
    case rel=>exact⟨_,_,by go_num,I,HP⟩
    case measure=>simp[Þ];omega
   have hPb:=beq_eq_false_iff_ne.2 r;cases hf:oL (s[0].toNat:Int) (B[k].toNat:Int)
   .have j:=fv<|ap9 (B:=B) (k:=k) (st:={st with r:=0}) n.oQ C D G r hf;clear C D G r a l;go_wp2_with (go_at_call 104;refine iT (aa0 _ _ xt zE _) ?_);(try rw[ê]);go_ret;exact⟨k,P,U,L j⟩
   .have j:=fv<|ap8 (B:=B) (k:=k) (st:={st with r:=0}) n.oQ C D G r hf;have HF:=fv hf;clear C D G r a l;go_wp2_with (first|(go_at_call 104;refine iT (aa0 _ _ xt zE _) ?_)|(go_at_call 100;refine gl (MO J U F _ _ HF) λw'' ⟨Br,g',nm',Y,S⟩=> ?_;have k0:w''.cell? ⟨b,0,Ã⟩=Â (Å Y):=S.r.r 0 _ U;have kf0:=S.r.I 0;have n8:0<Y.size:=S.aqc n;have awk:Y.size<=10:=S.S;have HA:=fv<|Á Br S;clear Br S));go_roundw
    case rel=>exact⟨_,_,by go_num,I,Q _ _ j ⟨HA.1.fA<|vj HA.2 0 _,_,_,_,HA.2.abo ((Uk _ _ _).1.trans F) n⟩⟩
    case measure=>simp[Þ];omega
end
def nN(B:ByteArray):Int×Bool×List PR:=
 if B.size=0 then(0,Í,[])else(((oy B).1:Int),decide ((oy B).1=B.size)&&(decide ((oy B).2.C=[])||decide ((oy B).2.C=[66])),(oy B).2.d.I)
def iR(B:ByteArray):Int×Int×List PR:=
 if 1200<B.size then(1,0,[])else if(nN B).2.1=Í then(0,0,(nN B).2.2)else(2,(nN B).1,[])
def DV(m:Nat)(v:Î)(b:List PR)(w:Ë):Prop:=ku m w/\∃a,w.ownsRow m 148 1 v a.length (pA a)/\rF w.heap.size a b w
section
variable{w':Ë}{g:Gh}{s:ByteArray}{a:PS}
def DV.qY(w:Ë):DV w.heap.size (Æ Ã 0 0) [] w:=⟨ku.I w,[],⟨U,É ⟨U,U⟩⟩,rF.N _ _⟩
def jb.jz(h:jb m b g O s a w)(c:a.d.r=Ó->a.d.Y=[])(n:Nat):DV m g.M a.d.I (w.drewN n):=⟨h.N.iP n,g.C a.d,gZ h.C.C (fw.iP fB w n) λ_ _=>id,(h.C.G c).C (fw.iP fB w n) λ_ _ x=>x.elim⟩
def g0(m:Nat):Gh:={a:=[],q:=0,t:=0,B:=m,tb:=[],M:=Æ Ã 0 0,r:=Æ Ã 0 0,b:=Ã}
def aqm(w:Ë):jb w.heap.size w.heap.size (g0 w.heap.size) Ã ⟨#[82]⟩ vi (w.alloc<|Ô #[Å ⟨#[82]⟩,Æ Ã 0 0,Ä Ã,Ä Ã,Ä Ã,Ä Ã,Ç Ê 0,Ç Ê 0] 153):=⟨eE _,(ku.I w).gO _ _ A A (λv e=>by simp at e;obtain rfl|rfl|rfl|rfl:=e<;>trivial),fy.N w [Å ⟨#[82]⟩,Æ Ã 0 0,Ä Ã,Ä Ã,Ä Ã,Ä Ã,Ç Ê 0,Ç Ê 0] 153,A,A,⟨⟨U,É ⟨U,U⟩⟩,rF.N _ _,(λe=>by cases e),λ_=>U⟩,(λq=>by cases q),Ì rfl⟩
def aqn(s:ByteArray):iV s=[66]↔s.toList=[66]:=by
 rw[iV,ą];constructor;intro h;match hl:s.data.toList with
 |[]=>rw[hl]at h;simp at h|[x]=>
  rw[hl]at h;simp only[dR,dG,List.cons.injEq,and_true]at h;have:x=66:=bP.1 (by have:x.toNat=66:=Z;rw[this];rfl);rw[this]|x::y::r=>rw[hl]at h;simp at h
 intro h;rw[h];rfl
def Ut(a:¬B.size=0):(nN B).1=((oy B).1:Int):=by rw[nN,if_neg a]
def abq(a:¬B.size=0):(nN B).2.2=(oy B).2.d.I:=by rw[nN,if_neg a]
def aqo(a:¬B.size=0)(h:¬(oy B).1=B.size):(nN B).2.1=Ó:=by rw[nN,if_neg a];simp[h]
def abr(a:¬B.size=0)(h:(oy B).1=B.size){x:Bool}(b:x=(decide ((oy B).2.C=[])||decide ((oy B).2.C=[66]))):(nN B).2.1=x:=by rw[nN,if_neg a,b];simp[h]
def aqp(B:ByteArray):(oy B).2.d.r=Ó->(oy B).2.d.Y=[]:=λe=>((JA B.size 0 vi (Un B)<|eD _).1.d.M e).1
theorem abt(r:B.size<=1200): Ò À 45 #[Å B] w λe w'=>
  fw fB w w'/\∃v,e=È (Ý #[v,Ç Ê (nN B).1,á (nN B).2.1])/\((nN B).2.1=Í->DV w.heap.size v (nN B).2.2 w'):=by
 by_cases a:B.size=0
 .have f:=Uo B a;have n:=fv (show nN B=(0,Í,[])from if_pos a);go_enter aP,ar;go_wp2;apply ì (v:=Ý #[Æ Ã 0 0,Ç Ê 0,á Í]) (by simp[ņ,Ĥ,go_sem]) U;exact⟨fw.gy _ _,_,by rw[n.oQ],λ_=>by rw[n.oQ];exact DV.qY w⟩
 .have f:=Up B a;have b:=fv a;go_enter aP,ar;go_wp2_with (go_at_call 61;refine(aqh (aqm w) r).mono ?_;rintro e t ⟨k,d,rfl,i,⟨n,g,O,s,c⟩,j,u⟩);have m:fw fB w t:=((fw.gO (λi=>w.heap.size<=i) w _ _).fA n).fG λi D x=>by omega
  have E:=c.r.r 0 _ U;have F:=c.r.r 1 _ U;by_cases o:k=B.size
  .subst o;have y:=u U;subst y;have p:=fv c.M;have q:=fv λn=>c.jz (aqp B) n;have n:=fv j;have d:=fv m;have z:((B.size:Int)==(B.size:Int))=Í:=fD;by_cases a:s.size=0
   .have f:=Uo s a;have l:=fv (abr b.oQ n.oQ (x:=Í)<|by rw[<-p.oQ,aaZ s a];rfl);go_quiet (fail);go_wp2;apply ì (v:=Ý #[g.M,Ç Ê B.size,á Í]) (by simp[ņ,Ĥ,go_sem]) U;exact⟨d.fA<|fw.iP _ _ _,_,by rw[Ut b.oQ,n.oQ,l.oQ],λ_=>by rw[abq b.oQ];exact q _⟩
   have f:=Up s a;have l:=fv (abr b.oQ n.oQ (x:=(s.toList==[66])) (by
    rw[<-p.oQ];have C:¬iV s=[]:=λe=>by have:=FZ s;grind
    rw[decide_eq_false C,cG,dA,beq_iff_eq,decide_eq_true_iff,aqn]))
   go_quiet (fail)
   go_wp2;apply ì (v:=Ý #[g.M,Ç Ê B.size,á<|s.toList==[66]]) (by simp[ņ,Ĥ,go_sem]) U;exact⟨d.fA<|fw.iP _ _ _,_,by rw[Ut b.oQ,n.oQ,l.oQ],λ_=>by rw[abq b.oQ];exact q _⟩
  have z:((k:Int)==(B.size:Int))=Ó:=by rw[beq_eq_false_iff_ne];omega
  have n:=fv (Á j<|aqo b.oQ<|by rwa[j]);have d:=fv m;go_quiet (fail);go_wp2;apply ì (v:=Ý #[g.M,Ç Ê k,á Ó]) (by simp[ņ,Ĥ,go_sem]) U;exact⟨d.fA<|fw.iP _ _ _,_,by rw[Ut b.oQ,n.oQ.1,n.oQ.2],λe=>by rw[n.oQ.2]at e;cases e⟩
def aqr(i:B.size<=ó): Ò À 36 #[Å B] w λe w'=>
  fw fB w w'/\∃v,e=È (Ý #[v,Ç Ê (iR B).1,Ç Ê (iR B).2.1])/\((iR B).1=0->DV w.heap.size v (iR B).2.2 w')/\((iR B).1≠0->v=Æ Ã 0 0):=by
 unfold ó at i;by_cases b:1200<B.size
 .have a:=fv (show iR B=(1,0,[]) by rw[iR,if_pos b]);go_enter ŀ,Ŭ;go_wp2;apply ì (v:=Ý #[Æ Ã 0 0,Ç Ê 1,Ç Ê 0]) (by simp[ņ,Ł,go_sem]) U;exact⟨fw.gy _ _,_,by rw[a.oQ],(λe=>by rw[a.oQ]at e;cases e),λ_=>U⟩
 .have f:B.size<=1200:=Z;cases c:(nN B).2.1 with
  |true=>
   have a:=fv (show iR B=(0,0,(nN B).2.2) by rw[iR,if_neg b,if_pos c]);go_enter ŀ,Ŭ;go_wp2_with (go_at_call 45;refine(abt f).mono ?_;rintro e j ⟨d,v,rfl,g⟩);apply ì (v:=Ý #[v,Ç Ê 0,Ç Ê 0]) (by simp[ņ,Ł,go_sem]) U;exact⟨d,_,by rw[a.oQ],(λ_=>by rw[a.oQ];exact g c),λe=>by rw[a.oQ]at e;exact absurd U e⟩|false=>
   have a:=fv (show iR B=(2,(nN B).1,[]) by rw[iR,if_neg b,if_neg (by rw[c];exact Bool.false_ne_true)]);go_enter ŀ,Ŭ;go_wp2_with (go_at_call 45;refine(abt f).mono ?_;rintro e j ⟨d,v,rfl,g⟩);apply ì (v:=Ý #[Æ Ã 0 0,Ç Ê 2,Ç Ê (nN B).1]) (by simp[ņ,Ł,go_sem]) U;exact⟨d,_,by rw[a.oQ],(λe=>by rw[a.oQ]at e;cases e),λ_=>U⟩
end
end mK
namespace ju
open Conc RowKit Lift gT fO mK
structure JD(a:Nat)(t:PT)(w:Ë):Prop where
 r:∃cs fz,w.heap[a]?=Â (Ô cs 200 fz)
 c:∀i,i<5->w.cell? ⟨a,i,Ã⟩=Â (Ç Ê<|t.c.getD i 0)
 p:w.cell? ⟨a,5,Ã⟩=Â (Å t.p)
structure zO(r:Nat)(p:PR)(w:Ë):Prop where
 c:∀i,i<8->w.cell? ⟨r,i,Ã⟩=Â (Ç Ê<|p.c.getD i 0)
 b:∃bp n cp,w.cell? ⟨r,8,Ã⟩=Â (Æ bp n cp)/\n=p.r.length/\∀(j:Nat)(t:PT),p.r[j]?=Â t->∃tb a,bp=Â ⟨tb,0,Ã⟩/\w.cell? ⟨tb,j,Ã⟩=Â (Ä<|Â ⟨a,0,Ã⟩)/\JD a t w
structure RQ(rs:List PR)(v:Î)(U:Nat->Prop)(w:Ë):Prop where
 C:lU nB U w
 I:fI (mJ U nB) v v
 M:∃bp cp,v=Æ bp rs.length cp/\∀(j:Nat)(p:PR),rs[j]?=Â p->∃sb r,bp=Â ⟨sb,0,Ã⟩/\w.cell? ⟨sb,j,Ã⟩=Â (Ä<|Â ⟨r,0,Ã⟩)/\zO r p w
section
variable{f:Nat->Prop}{rs:List PR}{Y:fL}
theorem aqs(h:jI Y X u w){t:PT}(d:Y i n)(k:JD i t u):JD n t w:=by refine⟨?_,λb f=>(zF h).r d<|k.c b f,(zF h).I d k.p⟩;let⟨c,g,e,j,l,m,o,_⟩:=h.r i n d;let⟨r,s,q⟩:=k.r;grind
theorem aqt(h:jI Y X u w){r:Nat}{p:PR}(e:Y r i)(k:zO r p u):zO i p w:=by refine⟨λd f=>(zF h).r e<|k.c d f,?_⟩;let⟨F,n,cp,g,l,m⟩:=k.b;let⟨x,o,q⟩:=zF h r i 8 _ e g;obtain⟨s,rfl,v⟩:=Jr q;refine⟨s,n,cp,o,l,λj t y=> ?_⟩;let⟨tb,a,z,B,G⟩:=m j t y;let⟨H,I,C⟩:=v _ z;obtain⟨D,rfl,E⟩:=wN C;let⟨J,K,L⟩:=zF h tb D j _ E B;grind [Jq,wN,aqs]
theorem aqu(h:jI Y X u w)(b:fI Y v x)(a:RQ rs v f u):RQ rs x (λj=>∃i,f i/\Y i j) w:=by refine⟨TY h a.C,Nk b a.I,?_⟩;obtain⟨q,cp,rfl,i⟩:=a.M;obtain⟨c,rfl,d⟩:=Jr b;refine⟨c,cp,U,λj p e=> ?_⟩;let⟨g,r,k,l,s⟩:=i j p e;let⟨t,y,m⟩:=d _ k;obtain⟨n,rfl,o⟩:=wN m;let⟨z,B,C⟩:=zF h g n j _ o l;grind [Jq,wN,aqt]
def yh(k:W.heap[b]?=w.heap[b]?)(h:w.cell? ⟨b,i,Ã⟩=Â z):W.cell? ⟨b,i,Ã⟩=Â z:=by simp only[Ú,k];exact h
def aqv(l:lU nB X w)(k:∀b,X b->W.heap[b]?=w.heap[b]?){r:Nat}{p:PR}(d:X r)(h:zO r p w):zO r p W:=by
 refine⟨λi e=>yh (k r d)<|h.c i e,?_⟩;let⟨u,n,cp,m,v,x⟩:=h.b;refine⟨u,n,cp,yh (k r d) m,v,λj t y=> ?_⟩;let⟨tb,a,o,q,f⟩:=x j t y;have s:X tb:=by have:=l.r d m;rw[o]at this;exact DO this
 have g:=DN<|l.r s q;exact⟨tb,a,o,yh (k tb s) q,⟨by rw[k a g];exact f.r,λi e=>yh (k a g)<|f.c i e,yh (k a g) f.p⟩⟩
def RQ.r(h:RQ rs v f w)(k:∀b,f b->W.heap[b]?=w.heap[b]?):RQ rs v f W:=by
 refine⟨h.C.C k,h.I,?_⟩;obtain⟨g,cp,rfl,i⟩:=h.M;refine⟨g,cp,U,λj p l=> ?_⟩;let⟨a,r,c,d,m⟩:=i j p l;have e:f a:=by have:=h.I;rw[c]at this;exact DO this
 exact⟨a,r,c,yh (k a e) d,aqv h.C k (DN<|h.C.r e d) m⟩
def abu{v:Î}(h:oM m i v):fI (mJ (λd=>m<=d/\d<i) nB) v v:=by
 cases v with
 |int k n=>exact .iZ k n|bool b=>exact .nA b|string i=>exact .ly i
 |pointer a=>cases a with|none=>exact .mN|some a=>exact fI.kn (Y:=mJ (λd=>m<=d/\d<i) nB) ⟨⟨U,h⟩,U,U⟩
 |slice a n c=>cases a with|none=>exact .oP n c|some a=>exact fI.kZ (Y:=mJ (λd=>m<=d/\d<i) nB) ⟨⟨U,h⟩,U,U⟩ n c
 |_=>exact absurd h<|by simp[oM]
def aqw{v:Î}(h:oM m i v):Ag v=Ó:=by
 cases v with
 |int k n=>cases k<;>first|rfl|exact absurd h<|by simp[oM]
 |_=>rfl
def aqx(h:ku m w):lU nB (λi=>m<=i/\i<w.heap.size) w:=λb i=>by let⟨c,e,f,g,j,k,l,n,d⟩:=h b _ i.1<|fj i.2;exact⟨c,e,f,by rw[fj i.2,g],j,pW λv a=>abu<|d v a,k,BG λv a=>aqw<|d v a,l,n⟩
theorem MN{base:Nat}(h:w.ownsRow base e 1 v jJ.length (pA jJ)):∃b f,v=Æ b jJ.length f/\∀(j r:Nat),jJ[j]?=Â r->∃a,b=Â ⟨a,0,Ã⟩/\base<=a/\w.cell? ⟨a,j,Ã⟩=Â (Ä<|Â ⟨r,0,Ã⟩):=by
 obtain⟨m,⟨n,o⟩|⟨g,p,q,rfl,i,k,s,t,u,l⟩⟩:=h;grind;refine⟨_,_,U,λj r c=>⟨g,U,i,?_⟩⟩;have x:=(eP.1 c).1;have d:(pA jJ)[j]?=Â (Ä<|Â ⟨r,0,Ã⟩):=by simp[pA,c]
 rw[<-l,eM Z]at d;simp only[Ú,k,eW,æ,if_false];simpa using d
def abv(h:fy n (qk zQ++[z]) T w)(a:i<zQ.length):w.cell? ⟨n,i,Ã⟩=Â (Ç Ê<|zQ.getD i 0):=h.r i _<|Ue a z
def abw(h:fy i (qk zQ++[z]) T w)(a:zQ.length=n):w.cell? ⟨i,n,Ã⟩=Â z:=h.r n _<|by rw[<-a];exact Nt zQ z
def aqy{r:PR}(h:yf i n r w):zO n r w:=by
 let⟨v,tb,e,l,x,b⟩:=h.I;refine⟨λa c=>abv e (by rwa[h.C]),?_⟩;obtain⟨m,cp,rfl,o⟩:=MN l;refine⟨m,_,cp,abw e h.C,b.r,λj t f=> ?_⟩;have g:j<tb.length:=by rw[b.r];exact(eP.1 f).1
 let⟨p,s,y,u⟩:=o j tb[j]<|fe g;let⟨_,_,k,d⟩:=b.I j tb[j] t (fe g) f;exact⟨p,tb[j],s,u,⟨_,_,d⟩,λa c=>abv d (by rwa[k]),abw d k⟩
def aqz(h:DV m v rs w):RQ rs v (λi=>m<=i/\i<w.heap.size) w:=by
 let⟨f,i,b,c⟩:=h;obtain⟨d,cp,rfl,k⟩:=MN b;refine⟨aqx f,?_,d,cp,by rw[c.I],λj p e=> ?_⟩;cases d with
 |none=>exact .oP _ _|some a=>
  have:=b.lt a.block (by obtain⟨q,_⟩|⟨g,l,n,q,_⟩:=b.2<;>(cases q;try rfl));exact abu this
 .have a:j<i.length:=by rw[c.I];exact(eP.1 e).1
  let⟨g,q,n,l⟩:=k j i[j]<|fe a;exact⟨g,i[j],q,l,aqy<|c.M j i[j] p (fe a) e⟩
end
def abx(B:ByteArray)(z:Î)(u:Ë):Prop:=∃v,z=Ý #[v,Ç Ê (iR B).1,Ç Ê (iR B).2.1]/\((iR B).1=0->∃a,RQ (iR B).2.2 v a u)
def aqA(B:ByteArray):xk (abx B):=λv u T D h=>by let⟨x,a,b⟩:=h;refine⟨x,a,λe=> ?_⟩;let⟨U,c⟩:=b e;exact⟨U,c.r λ_ _=>rfl⟩
def aqB{l:fx}(f:gS l)(s:¬l.q)(t:nB<=l.w.heap.size)(u:B.size<=ó)(m:Bool)(h:Ċ)(k:List Ċ): fO.fF À m (λa n=>iX l a/\a.d=l.d/\∃v,n=G (h.finish<|Ý #[v,Ç Ê (iR B).1,Ç Ê (iR B).2.1]) k/\((iR B).1=0->∃V,RQ (iR B).2.2 v V a.w/\∀b,V b->a.O b/\l.w.heap.size<=b)) l (G (â À 36 #[Å B] ù)<|h::k):=by
 let⟨X,c,C,V⟩:=xR 36 gq;have D:∀T,Ò À 36 #[Å B] (World.tp (kV (λj=>False/\¬(oH l).O j) l.w) T 0) fun|È v,j=>abx B v j/\lb j|_,_=>False:=λT=>by refine(aqr u).mono ?_;rintro e p ⟨g,v,rfl,i,o⟩;exact⟨⟨v,U,λe=>⟨_,aqz<|i e⟩⟩,g.iG BH⟩
 refine((Dm yw IW xR (aqA B) gq C V (Fw f) s (λb q=>q.elim) ⟨λb q=>q.elim,t⟩ (λg q=>by cases q) (pW λv g=>by simp at g;subst g;exact .ly B) D m h k).oH f).fG ?_;rintro a n ⟨x',⟨Y,j,v,v',_,E,F,⟨v0,rfl,o⟩,H,I,_,J⟩,rfl,K,L,_,_⟩;cases F with
 |@nD _ cs'' hs lC=>
  let⟨M⟩:=cs'';match M,hs with
  |[x,y,z],_=>
   have g:=lC 0 fD fD;have p:=lC 1 fD fD;have r:=lC 2 fD fD;simp at g p r;cases p;cases r;refine⟨K,J,x,H,λe=> ?_⟩;let⟨U,N⟩:=o e;refine⟨_,aqu E g (N.r λ_ _=>rfl),λb V=> ?_⟩;let⟨i,_,P⟩:=V;let⟨Q,S⟩:=I i b P;have W:l.w.heap.size<=b:=S.elim (λq=>q.elim) λq=>q.elim (λq=>q.elim) id;refine⟨É (Q.resolve_right λq=> ?_),W⟩;rw[L]at q;have:=f.fM b q;omega
end ju
namespace gT
open RowKit Lift
def DW:List Î:=iU (kg 8)++[Æ Ã 0 0,Ç Ê 0,Æ Ã 0 0]
def aqC(w:Ë):Ò À 44 #[] w λe a=>∃c B,e=È (Æ (Â ⟨c,0,Ã⟩) 1 1)/\fy B DW 147 a/\fy c [Ä<|Â ⟨B,0,Ã⟩] 136 a/\fw fB w a:=by
 have d:(iU<|kg 8).length=144:=tX _;have j:(iU (kg 8)++[Æ Ã 0 0]).length=145:=by rw[Ñ,d];rfl
 have f:=fv<|Á d j;unfold DW;have k:=fv λW=>anr W;generalize kg 8=s at*;go_enter Tryz.func44,Tryz.ntmps44;go_wp2_with (first|(go_at_call 60;refine gl (k _) λW b=> ?_;have l:=fv b;clear b)|(with_reducible refine à U (Â 2) U _ _ (Tt U U f.oQ.1) ?_)|(with_reducible refine à U (Â 3) U _ _ (anI U U f.oQ.2) ?_)|(with_reducible refine à U (Â 4) U _ _ (oJ U U) ?_))
 have g:=fy.N (W.alloc<|Ô (iU s++[Æ Ã 0 0,Ç Ê 0,Æ Ã 0 0]).toArray 147) [Ä<|Â ⟨W.heap.size,0,Ã⟩] 136;have i:=fw.gO fB (W.alloc<|Ô (iU s++[Æ Ã 0 0,Ç Ê 0,Æ Ã 0 0]).toArray 147) #[Ä<|Â ⟨W.heap.size,0,Ã⟩] 136;have m:(W.alloc<|Ô (iU s++[Æ Ã 0 0,Ç Ê 0,Æ Ã 0 0]).toArray 147).heap.size=W.heap.size+1:=fD;rw[m]at g;have b:=fv<|Á ((fy.N W (iU s++[Æ Ã 0 0,Ç Ê 0,Æ Ã 0 0]) 147).C i id)<|Á g<|(l.fA<|fw.gO fB W (iU s++[Æ Ã 0 0,Ç Ê 0,Æ Ã 0 0]).toArray 147).fA i;go_ret;exact⟨W.heap.size+1,W.heap.size,U,b.1,b.2.1,b.2.2⟩
def aqD(n:Int)(k:1<=n)(l:n<=8)(w:Ë):Ò À 35 #[Ç Ê n] w λe b=>∃g a B,e=È (Ý #[Ä<|Â ⟨g,0,Ã⟩,Ç Ê 0])/\fy g [Ç Ê n,Æ (Â ⟨a,0,Ã⟩) 1 1] 68 b/\fy B DW 147 b/\fy a [Ä<|Â ⟨B,0,Ã⟩] 136 b/\fw fB w b:=by go_enter ŵ,ř;go_wp2_with (go_at_call 44;refine(aqC _).mono ?_;rintro e c ⟨a,B,rfl,f,i,j⟩;have d:=fv<|Á f<|Á i j;clear f i j);go_ret2;have f:=fw.gO fB c #[Ç Ê n,Æ (Â ⟨a,0,Ã⟩) 1 1] 68;exact⟨c.heap.size,a,B,U,fy.N c [Ç Ê n,Æ (Â ⟨a,0,Ã⟩) 1 1] 68,d.1.C f id,d.2.1.C f id,d.2.2.fA f⟩
end gT
namespace ju
open Conc RowKit Lift gT fO mK
section
variable{Y:fL}{a:Nat->Prop}
def aby:∀v∈DW,(∃k n,v=Ç k n/\k≠Ň)\/(∃p,v=Å p)\/v=Æ Ã 0 0:=λv k=>by unfold DW at k;obtain q|q:=dx.1 k;obtain⟨n,rfl⟩|⟨p,rfl⟩:=TX _ v q;exact É ⟨_,_,U,A⟩;exact Ì<|É ⟨p,U⟩;simp at q;obtain rfl|rfl|rfl:=q;exact Ì<|Ì U;exact É ⟨_,_,U,A⟩;exact Ì<|Ì U
def abz:lA [gT.kh]:=⟨A,A,λv b=>by simp at b;subst b;exact⟨⟨(λp a=>by cases a),(λp a=>by cases a),eD _,eD _⟩,aam,cK _,show(0:Int)<1 by decide⟩⟩
def aqE(d:gT.fy n DW 147 w)(f:gT.fy i [Ä<|Â ⟨n,0,Ã⟩] 136 w):RD [gT.kh] (Æ (Â ⟨i,0,Ã⟩) 1 1) (λk=>k=i\/k=n) w:=by
 refine⟨[(n,gT.kh)],U,abz,⟨_,1,1,U,eE _,⟨U,λj b v e=> ?_⟩⟩,?_,fI.kZ (Y:=mJ (λk=>k=i\/k=n) nB) ⟨⟨U,É U⟩,U,U⟩ 1 1⟩;cases j with
 |zero=>
  cases e;exact⟨_,0,U,f.r 0 _ U,(anJ aam<|by rwa[dL])⟩
 |succ j=>simp at e
 rintro b (rfl|rfl);refine⟨_,_,_,f,fD,pW λv c=> ?_,fD,BG λv c=> ?_,A,A⟩;simp at c;subst c;exact fI.kn (Y:=mJ (λk=>k=b\/k=n) nB) ⟨⟨U,Ì U⟩,U,U⟩;simp at c;subst c;rfl;refine⟨_,_,_,d,fD,pW λv c=> ?_,by simp[DW],BG λv c=> ?_,A,A⟩;obtain⟨k,a,rfl,_⟩|⟨p,rfl⟩|rfl:=aby v<|fN c;exact .iZ k a;exact .ly p;exact .oP 0 0;obtain⟨k,a,rfl,g⟩|⟨p,rfl⟩|rfl:=aby v<|fN c;cases k<;>first|rfl|exact absurd U g
 rfl;rfl
def F8(b:Nat)(n:Int)(c:Î)(w:Ë):Prop:=∃a,w.heap[b]?=Â (Ô #[Ç Ê n,c] 68 a)/\a=(0,0)
def F8.r{n:Int}(h:F8 i n v w)(k:W.heap[i]?=w.heap[i]?):F8 i n v W:=by let⟨a,b,c⟩:=h;exact⟨a,k.trans b,c⟩
def aqF(h:jI Y a u w)(g:∀b,¬a b)(q:Y i j)(k:gT.fy i [Ç Ê c,v] 68 u):∃l,fI Y v l/\F8 j c l w:=by
 let⟨d,r,e,D,s,m,t,z,_,B,_⟩:=h.r i j q;unfold gT.fy at k;rw[k]at m;cases m;have f:=z.r<|g j;let⟨C⟩:=r;match C,f.r with
 |[x,y],_=>
  have o:=f.C 0 fD fD;have p:=f.C 1 fD fD;simp at o p;cases o;exact⟨y,p,s,t,(B<|g j).symm⟩
end
def abA(n:Int)(z:Î)(u:Ë):Prop:=∃a b B,z=Ý #[Ä<|Â ⟨a,0,Ã⟩,Ç Ê 0]/\gT.fy a [Ç Ê n,Æ (Â ⟨b,0,Ã⟩) 1 1] 68 u/\RD [gT.kh] (Æ (Â ⟨b,0,Ã⟩) 1 1) (λi=>i=b\/i=B) u/\a≠b/\a≠B
def aqG(n:Int):xk (abA n):=λv u T D h=>by let⟨b,c,B,d,e,a⟩:=h;exact⟨b,c,B,d,e,a.1.r λ_ _=>U,a.2⟩
def aqH{l:fx}(p:gS l)(K:¬l.q)(L:nB<=l.w.heap.size){n:Int}(M:1<=n)(N:n<=8)(C:Bool)(r:Ċ)(s:List Ċ): fO.fF À C (λf D=>iX l f/\f.d=l.d/\∃a e,D=G (r.finish<|Ý #[Ä<|Â ⟨a,0,Ã⟩,Ç Ê 0]) s/\F8 a n e f.w/\f.O a/\l.w.heap.size<=a/\∃V,RD [gT.kh] e V f.w/\¬V a/\∀b,V b->f.O b/\l.w.heap.size<=b) l (G (â À 35 #[Ç Ê n] ù)<|r::s):=by
 let⟨fn,c,P,t⟩:=xR 35 gq;have Q:∀T,Ò À 35 #[Ç Ê n] (World.tp (kV (λj=>False/\¬(oH l).O j) l.w) T 0) fun|È v,h=>abA n v h/\lb h|_,_=>False:=λT=>by refine(aqD n M N _).mono ?_;rintro e z ⟨a,k,B,rfl,V,m,o,g⟩;exact⟨⟨a,k,B,U,V,aqE m o,gT.fy.H V o A,gT.fy.H V m A⟩,g.iG BH⟩
 refine((Dm yw IW xR (aqG n) gq P t (Fw p) K (λb q=>q.elim) ⟨λb q=>q.elim,L⟩ (λg q=>by cases q) (pW λv e=>by simp at e;subst e;exact .iZ _ _) Q C r s).oH p).fG ?_;rintro f D ⟨u,⟨Y,h,v,v',_,g,S,⟨a,k,B,rfl,V,m,o,W⟩,X,q7,_,q6⟩,rfl,ha,hR,_,_⟩;have E:∀i j,Y i j->(oa l u).O j/\l.w.heap.size<=j:=λi j e=>by let⟨z,F⟩:=q7 i j e;have H:l.w.heap.size<=j:=F.elim (λq=>q.elim) λq=>q.elim (λq=>q.elim) id;refine⟨É (z.resolve_right λq=> ?_),H⟩;rw[hR]at q;have:=p.fM j q;omega
 cases S with
 |@nD _ cs'' hs lC=>
  let⟨ls⟩:=cs'';match ls,hs with
  |[x,y],_=>
   have F:=lC 0 fD fD;have H:=lC 1 fD fD;simp at F H;cases H;obtain⟨a2,rfl,m3⟩:=Jq F;obtain⟨I,rfl,z⟩:=wN m3;have h2':RD [gT.kh] (Æ (Â ⟨k,0,Ã⟩) 1 1) (λi=>i=k\/i=B) {h with tape:=u.w.tape,drawn:=u.w.drawn}:=m.r λ_ _=>U;let⟨uT,J,e2⟩:=aqF g (λj q=>q.1) z V;let⟨vs,k1,k2,k3,k4,k5⟩:=h2';let⟨vs',n1,n2⟩:=Js (zF g) J k3;let⟨p1,p2⟩:=E a I z;refine⟨ha,q6,I,uT,X,e2,p1,p2,_,⟨vs',n1.trans k1,k2,n2,TY g k4,Nk J k5⟩,?_,λb t=> ?_⟩;rintro⟨i,hi,e⟩;have:=g.C.2.1 _ _ _ z e;subst this;exact hi.elim o W;let⟨i,_,e⟩:=t;exact E i b e
structure wT(an:Nat)(xs:List ByteArray)(w:Ë):Prop where
 r:∀(p:Nat)(x:ByteArray),xs[p]?=Â x->w.cell? ⟨an,p,Ã⟩=Â (Å x)
 C:w.cell? ⟨an,xs.length,Ã⟩=Ã
section
variable{an:Nat}{xs:List ByteArray}
theorem wT.uE(h:wT an xs w)(j:0<xs.length):∃c e d,w.heap[an]?=Â (Ô c e d)/\c.size=xs.length/\∀v∈c.toList,∃x,v=Å x:=by
 have i:∀p,p<xs.length->w.cell? ⟨an,p,Ã⟩=Â (Å xs[p]!):=λp a=>h.r p _ (by simp[a]);have b:=i 0 j;have f:=h.C;simp only[Ú]at b f;cases g:w.heap[an]? with
 |none=>rw[g]at b;cases b
 |some o=>
  cases o<;>rw[g]at b f<;>simp only[eW,æ,if_false]at b f<;>first|cases b|skip
  rename_i c e d;have k:c.size<=xs.length:=by grind
  have l:=λp a=>by have:=i p a;simp only[Ú,g,eW,æ,if_false]at this;exact this
  have m:xs.length<=c.size:=by grind
  refine⟨c,e,d,U,bS k m,λv n=> ?_⟩;let⟨p,a⟩:=ek n;have q:p<c.size:=by have:=(eP.1 a).1;simpa using this
  have:=l p Z;rw[eV]at a;rw[this]at a;cases a;exact⟨_,U⟩
end
def aqI{l:fx}(o:gS l)(F:¬l.q)(H:nB<=l.w.heap.size)(h:wT i vX l.w)(I:0<vX.length)(J:l.M i)(p:mU i=Ó)(f:mj l.w i=Â (0,0))(hn:vX.length<=1000)(K:B.size=1)(L:jH vX+vX.length<=140737488355328)(r:Bool)(k:Ċ)(m:List Ċ): fO.fF À r (λn s=>iX l n/\n.d=l.d/\s=G (k.finish<|Å<|lG B vX) m) l (G (â À 38 #[Æ (Â ⟨i,0,Ã⟩) vX.length vX.length,Å B] ù)<|k::m):=by
 let⟨fn,c,N,P⟩:=xR 38 gq;let⟨t,e,Q,y,b2,z⟩:=h.uE I;have C:(λj=>j=i/\¬(oH l).O j)=λj=>j=i:=by funext j;exact propext ⟨λq=>q.1,λq=>⟨q,id⟩⟩
 have S:∀T,Ò À 38 #[Æ (Â ⟨i,0,Ã⟩) vX.length vX.length,Å B] (World.tp (kV (λj=>j=i) l.w) T 0) fun|È v,E=>v=Å (lG B vX)/\lb E|_,_=>False:=λT=>by refine(TR U Z (eE _) K (λj v a=> ?_) L).mono ?_;rw[ov,dN]at a;obtain⟨x,b,rfl⟩:=Ø.1 a;exact⟨i,0,U,by rw[dQ];exact rC (É p)<|h.r j x b⟩;rintro e g ⟨rfl,b⟩;exact⟨U,b.iG BH⟩
 have V:∀v∈t.toList,fI (nJ (λj=>j=i) À.globals.size) v v:=λv a=>by obtain⟨x,rfl⟩:=z v a;exact .ly x
 have X:gD (nJ (λj=>j=i) À.globals.size) #[Æ (Â ⟨i,0,Ã⟩) vX.length vX.length,Å B] #[Æ (Â ⟨i,0,Ã⟩) vX.length vX.length,Å B]:=pW λv a=>by have b:v=Æ (Â ⟨i,0,Ã⟩) vX.length vX.length\/v=Å B:=fN a;obtain rfl|rfl:=b;exact fI.kZ (Y:=nJ (λj=>j=i) À.globals.size) ⟨⟨U,U⟩,U,U⟩ _ _;exact .ly B
 have W:=Dm yw IW xR (λv u T D h=>h) gq N P (Fw o) F (λb q=>Ì<|by rwa[q]) (by rw[C];refine⟨λb q=> ?_,H⟩;subst q;exact⟨t,e,Q,y,(by rw[mj,y]at f;cases f;exact eD _),pW V,λ_=>⟨Z,(λq=>by rw[p]at q;cases q),λ_=>BG λv a=>by obtain⟨x,rfl⟩:=z v a;rfl⟩⟩) (λg q=>by cases q) X (by rwa[C]) r k m;refine(W.oH o).fG ?_;rintro n s ⟨D,⟨Y,E,v,v',_,_,b,rfl,g,_,_,u⟩,rfl,x,_,_,_⟩;cases b;exact⟨x,u,g⟩
end ju
namespace fO
open Conc Lift
open Go.ConcN (sumTo sumTo_congr)
def Uu(P:bD)(a:Î->Ë->Prop):Jd:=λl g=>g.status=.running/\∃v,(∀w,stepG P Í g w=.ended (.done v) w)/\a v l.w
section
variable{Y:Nat->Prop}{e:Nat->fx}
def lS.oM{J:Jd}{T:gW}(c:lS P Y zX i J T D e E w qJ){sl:Option (Nat×Nat)}(k:vQ v u):au P vQ (Į E w sl) (.done v) u qJ:=by
 have C:=c.r.r;have f:∀a g,E[a]?=Â g->a≠0->QuitsD P (D a) (Deaf qJ a) g:=λa g b d=>by
  let⟨g0,j,h,_,_⟩:=c.r.C a g b;obtain rfl:g=g0:=by cases h;rfl
  simp only[d,if_false]at j;rw[C.f a<|(fp.1 b).1];exact j _<|gd.gy _ _
 refine⟨v,U,k,C.l,c.M,⟨λg l=> ?_,U⟩,λa g b d=>⟨D a,(f a g b d).hears _⟩⟩;let⟨j,h⟩:=ek l;rw[cB]at h;exact⟨_,(f (1+j) g (by rwa[<-eV]) Z).leaves⟩
theorem aqJ{J:Jd}{T:gW}{l:fx}(u:l.w=W)(v:l.d=0)(m:¬l.q)(n:∀b,¬l.I b)(r:∀a,¬l.r a)(o:∀a,¬l.N a)(y:∀a,¬l.K a)(z:∀b,l.O b->b<W.heap.size)(B:g.status=.running)(C:mE P Í J T l g):tT P (λ_=>False) 0 J T (λ_=>0) (λ_=>l) #[g] W #[]:=by
 have f:∀(p:Nat) a,touchAt #[] p=Â a->False:=λp a h=>by unfold touchAt Trace.act? at h;simp at h
 refine⟨fD,⟨⟨λi j s D E=> ?_,λi j s D E=> ?_,λi _ b _=>n b,λi _ a _=>o a,λ_ _ _ _=>id,λi _ a e=>e.elim (λq=>absurd q<|r a) λq=>absurd q<|o a,λi _ b F=>F.elim (z b) λq=>absurd q<|n b,λ_ h=>h.elim,λi _=>by rw[u];exact gd.gy _ _,λi _=>⟨λa e p x k=>(f p x k).elim,λa e=>(n _ e).elim,λa e=>(r a e).elim,λa e=>(o a e).elim⟩,λi _=>by rw[v];rfl,λH q=> ?_,λI G=>by simp at G,λp a c h=>(f p a h).elim,λi _ a e=>absurd e<|y a⟩,λi x k=> ?_,λj _=>U⟩,λi L s=> ?_,m,λp a h=>(f p a h).elim,λp a x h=>(f p a h).elim,λa _ q m=> ?_,?_⟩;grind;grind;let⟨i,j,_,⟨a,b,e,_⟩,_⟩:=q;simp[Trace.act?]at e;have t:i<1:=(fp.1 k).1;obtain rfl:i=0:=Z
 obtain rfl:g=x:=fN k;exact⟨g,C,.gR,É B,É U⟩;grind;simp[Trace.act?]at m;intro i g t;simp[Trace.g?]at t
end
end fO
namespace ju
open Conc RowKit Lift gT fO mK
open Go.ConcN (sumTo)
def BO(f:Î->Ë->Prop)(c:Array Č)(w:Ë)(d:Option (Nat×Nat))(t:Ζ):Prop:=
 ∃N a v b e,ο À (N+1) (Į c w d) t=(.ended (.done v) b,e)/\runN À N (Į c w d)=.next a/\step À a=.ended (.done v) b/\au À f a (.done v) b e
section
variable{Post:Î->Ë->Prop}{e:Array Č}{w':Ë}{sl:Option (Nat×Nat)}{t:Ζ}{l:fx}
def BO.fG(h:BO Post E w sl t)(a:∀v u,Post v u->vQ v u):BO vQ E w sl t:=by let⟨M,b,v,x,c,d,e,f,g⟩:=h;exact⟨M,b,v,x,c,d,e,f,g.mono λv q=>a v x q⟩
def BO.oa{N:Nat}(r:ο À N (Į E w sl) t=(.next<|Į e w' kJ,qJ))(h:BO Post e w' kJ qJ):BO Post E w sl t:=by let⟨M,a,v,x,b,c,d,f,g⟩:=h;refine⟨N+M,a,v,x,b,?_,?_,f,g⟩;rwa[c8,runNT_add,r];rw[<-Ų À (N+M) (Į E w sl) t,runNT_add,r];rwa[Ų]
def ui(Post:Î->Ë->Prop)(E:Array Č)(w:Ë)(sl:Option (Nat×Nat))(t:Ζ):Prop:=BO (λv u=>Post v u/\u.os=w.os/\u.output=w.output) E w sl t
def ui.r{N:Nat}(r:ο À N (Į E w sl) t=(.next<|Į e w' kJ,qJ))(a:w'.os=w.os/\w'.output=w.output)(h:ui Post e w' kJ qJ):ui Post E w sl t:=BO.oa r<|h.fG λ_ _ q=>⟨q.1,q.2.1.trans a.1,q.2.2.trans a.2⟩
def lS.aqK{Y:Nat->Prop}:∀(s:Nat)(f:Nat->Nat)(h:Nat->fx)(E:Array Č)(w:Ë)(sl:Option (Nat×Nat))(t:Ζ),sumTo E.size f=s->lS À Y zX n (Uu À Post) .fT f h E w t->ui Post E w sl t:=by
 intro s
 induction s using Nat.strongRecOn with
 |_ s q=>
  intro f h E w sl t G c;have I:=c.C;obtain⟨g0,a⟩:∃g,E[0]?=Â g:=⟨_,fj Z⟩;have m:∀d,Uu À Post {h 0 with w:=w.at d} g0:=λd=>by
   let⟨u,b,j,_,_⟩:=(c.at d).r.C 0 g0 a;obtain rfl:g0=u:=by cases j;rfl
   exact b (w.at d)<|(c.at d).r.r.r 0 Z
  obtain⟨i,g,d,kJ,k,r,l⟩:=crowd_pick c.G ⟨0,g0,a,(m 0).1⟩;by_cases o:i=0;subst o;rw[a]at k;obtain rfl:=dh k;let⟨_,v,p,x⟩:=m d;have u:stepT À (Į E w sl)=(.ended (.done v)<|w.at d,#[]):=by rw[l,ConcN.runT_crowd_ended a<|p<|w.at d];rfl
  refine⟨0,Į E w sl,v,w.at d,t,?_,U,?_,c.oM ⟨x,U,U⟩⟩;simp[ο,u];have:=stepT_fst À (Į E w sl) Í;rw[<-this];rw[u];let⟨p,x,e,u,b,j,J,K,y⟩:=(c.at d).Z2 (sl:=kJ) k o r;let⟨N,z,v,w',qJ,B,C,D,F⟩:=q (sumTo e.size p) (by rw[j];omega) p x e (w.at d) kJ (t++u) U y;refine⟨N+1,z,v,w',qJ,by simp only[ο,l,b];exact B,?_,D,F⟩;have:=Ų À (N+1) (Į E w sl) t;rw[<-this];simp only[ο,l,b];rwa[Ų]
structure iz(l:fx):Prop where
 r:gS l
 d:l.d=0
 q:¬l.q
 rd:∀b,¬l.I b
 I:∀a,¬l.r a
 M:∀a,¬l.N a
 k:∀a,¬l.K a
def iz.C(h:iz l)(r:gd l l.w u):iz {l with w:=u}:=⟨⟨h.r.c,h.r.Y,h.r.S,λb q=>ff (h.r.fM b q) r.r,λa q=>q.elim (λz=>(h.I a z).elim) λz=>(h.M a z).elim,λa q=>(h.k a q).elim⟩,h.d,h.q,h.rd,h.I,h.M,h.k⟩
def jB(Post:Î->Ë->Prop)(l:fx)(g:Č):Prop:=
 iz l->g.status=.running->∀(a:Loc->Prop)(H:Nat)(J:Jd)(c:Nat->Nat)(b:Nat->fx)(E:Array Č)(sl:Option (Nat×Nat)) (t:Ζ),xO a H l->fO.tT À a H J .fT c b E l.w t->(b 0).d=0->E[0]?=Â g->ui Post E l.w sl t
def aqL{a:fx}(h:xO zX i l)(k:sS l a l.w a.w):xO zX i a:=⟨h.r,λb c x d q=>by obtain z|z:=k.N b c;exact h.fE b z x d q;have:=h.r x q;have:=h.C;omega,Ï h.C k.r⟩
def Uv{J f:Jd}{e:Nat->fx}(a:iz l)(h:g.status=.running)(j:xO zX i l)(c:fO.tT À zX i J .fT D e E l.w t)(m:(e 0).d=0)(n:E[0]?=Â g)(W:fO.fF À Í f l g):∃T,fO.tT À zX i f T D (fO.xl e l) E l.w t:=by let⟨T,o⟩:=j1 W;exact⟨T,lS.Y c m n h U a.d a.q a.rd a.I a.M a.k (λb q=>⟨a.r.fM b<|É q,j.fE b q⟩) o⟩
def abB{Y:Nat->Prop}{J:Jd}{a:Nat->fx}(c:lS À Y zX i J .fT D a E w t):∃g,E[0]?=Â g/\J {a 0 with w:=w} g:=by
 obtain⟨g0,b⟩:∃g,E[0]?=Â g:=⟨_,fj c.C⟩;let⟨d,e,f,_,_⟩:=c.r.C 0 g0 b;obtain rfl:g0=d:=by cases f;rfl
 exact⟨g0,b,e w<|c.r.r.r 0 c.C⟩
def NA(Post:Î->Ë->Prop):Jd:=λl g=>iz l/\g.status=.running/\jB Post l g
def aqM{b:Nat->fx}{T:gW}(j:(b 0).w=w)(m:xO zX i (b 0))(c:fO.tT À zX i (NA Post) T D b E w t):ui Post E w sl t:=by let⟨N,n,o,e,w',kJ,qJ,r,_,a,f⟩:=lS.K (λl g h=>É h.2.1) T _ D b E w sl t U c;let⟨u,p,h,q,s⟩:=abB f;refine ui.r r ⟨a.C,a.I⟩<|s h q zX i (NA Post) n o e kJ qJ ?_ f h.d p;apply aqL m;rw[j];exact⟨a.r,a.N,a.rd,a.S,a.b,a.k,a.lB,a.M,a.Y,a.C,a.I,a.c⟩
def vk(W:fO.fF À Í (NA Post) l g):jB Post l g:=by intro b d i H J j k E sl t a c e f;let⟨T,h⟩:=Uv b d a c e f W;exact aqM (by rw[fO.SF]) (by rwa[fO.SF]) h
def aqN(W:fO.fF À Í (Uu À Post) l g):jB Post l g:=by intro b d q H J f s E sl t i c j k;let⟨T,m⟩:=Uv b d i c j k W;let⟨N,n,o,e,w',kJ,qJ,r,_,a,p⟩:=lS.K (λl g h=>É h.1) T _ f _ E l.w sl t U m;exact ui.r r ⟨a.C,a.I⟩<|lS.aqK _ n o e w' kJ qJ U p
def zK.N{e:yd}{R:Nat}{kd:Nat->Int}{f:List gf}{c:fx}(h:zK X e R kd f l i v c)(r:gd c c.w u):zK X e R kd f l i v {c with w:=u}:=by have a:=λb q=>r.I b<|É q;let⟨V,j,g⟩:=h.S;exact⟨λb q=>⟨(h.M b q).1,(a b (h.M b q).1).trans (h.M b q).2⟩,⟨h.r.1,λp k=>(iD<|a i h.r.1).trans<|h.r.2 p k⟩,⟨V,j.r λb q=>a b (g b q).1,g⟩,h.d,h.q,h.rd,h.C,(iD<|a i h.r.1).trans h.I.1,(yF<|a i h.r.1).trans h.I.2⟩
def aqO{kd:Nat->Int}{rq:Nat->Nat}{V:yd}{Y h:Nat->Prop}{s0:List gf}{B:Option ø}{D:Option ø}{R:Nat}{z:Array Ř}(Fo:0<R->D=Â ⟨j7,0,Ã⟩)(Bd:0<R->l.M j7)(Sw:∀i,i<R->l.w.cell? ⟨j7,i,Ã⟩=Â (Ä<|Â ⟨rq i,0,Ã⟩))(Sx:∀i,i<R->l.w.cell? ⟨rq i,4,Ã⟩=Â (Ç Ê<|kd i))(F:Jw l V kd rq R X)(hZ:(∀b,X b->h b)/\∀b,b=1\/b=2\/b=3\/b=4->h b)(hZO:∀b,h b->l.O b)(hVZ:∀b,Y b->h b)(Dk:RD s0 (Æ B j j9) Y l.w)(hn:1<=n)(hs:n+R<1000)(hJ:∀o v p m c,iz o->zK h V R kd s0 l v (Æ p m c) o->jB Post o (G (f.at (y.put ((z[i]?).bind (·.dst))<|Ý #[Æ (Â ⟨v,0,Ã⟩) R R,Æ p m c])<|Õ z jJ::L) qX)): jB Post l (Fl (Æ B j j9) (Æ D R j6) n<|f.at y (Õ z (i::jJ)::L)::qX):=by
 intro s hr j2 H J lv lot E sl t Np c hd I;have W:fO.fF À Í (Mt kd rq R n (Æ B j j9) l<|f.at y (Õ z (i::jJ)::L)::qX) l (Fl (Æ B j j9) (Æ D R j6) n<|f.at y (Õ z (i::jJ)::L)::qX):=ake s.r s.q s.d Z Fo Bd Sw (λi I=>É<|F.fE _<|F.r i I) Sx λg K o u x C v P S T bw bf v1 h1 h2=>⟨g,K,u,x,C,v,P,S,T,bw,bf,v1,h1,h2,U⟩;let⟨T,c'⟩:=Uv s hr Np c hd I W;let⟨N,pS,IU,e,w',kJ,qJ,r,_,x,c''⟩:=lS.K (λlx gx K=>by obtain⟨_,_,_,_,_,_,_,_,_,_,_,_,_,_,rfl⟩:=K;exact É U) T _ lv _ E l.w sl t U c';apply ui.r r ⟨x.C,x.I⟩;let⟨N2,aqP,P,T2,Mv,SK,gs2,w2,Mw,t2,r2,io2,c2⟩:=ao8 (J:=λu P o C=>xO u P o/\NA Post o C) U c'' kJ s.r s.rd s.q s.d Np F hZ hZO hVZ Dk ⟨x.C,x.I⟩ hn hs λFv H' o v p m c S z2 u=> .fT λw₁ C=>by have mG:iz o:=⟨z2,u.d,u.q,u.rd,u.C.1,u.C.2.1,u.C.2.2⟩;exact⟨⟨S.r,S.fE,Ï S.C C.r⟩,mG.C C,U,hJ _ v p m c (mG.C C)<|u.N C⟩
 apply ui.r r2 ⟨io2.1.trans x.C.symm,io2.2.trans x.I.symm⟩;let⟨N3,Tp,aqQ,gs3,w3,sl3,t3,r3,_,wn3,c3⟩:=lS.K (λlx gx K=>É K.2.2.1) T2 _ Mv SK gs2 w2 Mw t2 U c2;apply ui.r r3 ⟨wn3.C,wn3.I⟩;let⟨g3,Uw,rR,K,hr3,DX⟩:=abB c3;exact DX K hr3 aqP P _ Tp aqQ gs3 sl3 t3 rR c3 K.d Uw
end
open Conc.Lib ConcR.Gen YtgpphkdoanciiaaGreatDoor
def toTx(t:PT):Tx:=⟨(t.c.getD 0 0).toNat,(t.c.getD 1 0).toNat,t.c.getD 2 0,t.c.getD 3 0,t.c.getD 4 0,t.p⟩
def toQn(r:PR):Qn:=⟨(r.c.getD 0 0).toNat,(r.c.getD 1 0).toNat,(r.c.getD 2 0).toNat,(r.c.getD 3 0).toNat,r.c.getD 4 0,r.c.getD 5 0,r.c.getD 6 0,(r.c.getD 7 0).toNat⟩
def rH:PR:=⟨[],[]⟩
def wU(rs:List PR):yd where
 r:=λp=>((rs.getD p rH).c.getD 5 0,((rs.getD p rH).c.getD 0 0).toNat,(rs.getD p rH).r.map toTx)
 C:=λp=>toQn<|rs.getD p rH
def mB(rs:List PR)(p:Nat):Int:=(rs.getD p rH).c.getD 4 0
section
variable{p:PR}{t:PT}{a:Nat}{rs:List PR}{l:fx}
def toTx_ok(h:mX t):(toTx t).Ok:=by have d:=h.c.r 0 A;have e:=h.c.r 1 A;have a:=h.c.r 2 A;have b:=h.c.r 3 A;simp only[mA]at d e a b;exact⟨by show(t.c.getD 0 0).toNat<8;omega,by show(t.c.getD 1 0).toNat<8;omega,a.1,a.2,b.1,b.2,h.p⟩
theorem BP(a:0<=c)(h:w.cell? ⟨b,i,Ã⟩=Â (Ç Ê c)):w.cell? ⟨b,i,Ã⟩=Â (Ç Ê (c.toNat:Nat)):=by grind
theorem aqR(h:mX t)(k:JD a t w):sk a (toTx t) w:=by have b:=h.c.r 0 A;have d:=h.c.r 1 A;simp only[mA]at b d;exact⟨k.r,BP b.1<|k.c 0 A,BP d.1<|k.c 1 A,k.c 2 A,k.c 3 A,k.c 4 A,k.p⟩
theorem aqS(h:sB p)(k:zO i p w):DR i (p.c.getD 5 0) (p.c.getD 0 0).toNat (p.r.map toTx) w:=by
 have e:=h.c.r 0 A;simp only[mA]at e;let⟨f,n,cp,g,l,m⟩:=k.b;let⟨o,r,s⟩:=yx (R:=λj t (y:Nat×Tx)=>y.2=toTx t/\∃d,f=Â ⟨d,0,Ã⟩/\w.cell? ⟨d,j,Ã⟩=Â (Ä<|Â ⟨y.1,0,Ã⟩)/\JD y.1 t w) p.r 0 λj t u=>by let⟨d,a,y,q,v⟩:=m j t u;simp_all
 refine⟨f,n,cp,o,⟨BP e.1<|k.c 0 A,k.c 5 A,g⟩,⟨by rw[l,r],λj a t q=> ?_⟩,?_,by have:=h.n;omega⟩;let⟨x,v,y,d,D,z,B⟩:=s j (a,t) q;simp only at y z B;subst y;have C:=h.C x<|eU v;have E:=toTx_ok C;grind [aqR];refine dP λj=> ?_;unfold ou;grind
def aqT(h:sB p)(k:zO i p w):Jv i (toQn p) w:=by have a:=h.c.r 0 A;have b:=h.c.r 1 A;have d:=h.c.r 2 A;have e:=h.c.r 3 A;have f:=h.c.r 7 A;simp only[mA]at a b d e f;exact⟨BP a.1<|k.c 0 A,BP b.1<|k.c 1 A,BP d.1<|k.c 2 A,BP e.1<|k.c 3 A,k.c 4 A,k.c 5 A,k.c 6 A,BP f.1<|k.c 7 A⟩
def abC(h:sB p)(k:p.c.getD 4 0≠1):(toQn p).Ok:=by have d:=h.c.r 0 A;have e:=h.c.r 1 A;have f:=h.c.r 2 A;have g:=h.c.r 3 A;have i:=h.c.r 4 A;have a:=h.c.r 5 A;have b:=h.c.r 6 A;have j:=h.c.r 7 A;simp only[mA]at d e f g i a b j;refine⟨?_,?_,?_,?_,?_,?_,a.1,b.1,?_⟩;show(p.c.getD 0 0).toNat<8;omega;show(p.c.getD 1 0).toNat<8;omega;show(p.c.getD 2 0).toNat<1000000;omega;show(p.c.getD 3 0).toNat<18446744073709551616;omega;show 2<=p.c.getD 4 0;omega;show p.c.getD 4 0<=9;omega;show(p.c.getD 7 0).toNat<16;omega
theorem aqU(h:RQ rs v X l.w)(k:∀i∈rs,sB i)(B:ox l.w)(C:∀b,b=1\/b=2\/b=3\/b=4->l.O b)(m:∀b,X b->l.O b): ∃d e f g,v=Æ d rs.length e/\(0<rs.length->d=Â ⟨f,0,Ã⟩)/\(0<rs.length->l.O f)/\(∀a,a<rs.length->l.w.cell? ⟨f,a,Ã⟩=Â (Ä<|Â ⟨g a,0,Ã⟩))/\(∀a,a<rs.length->l.w.cell? ⟨g a,4,Ã⟩=Â (Ç Ê<|mB rs a))/\Jw l (wU rs) (mB rs) g rs.length X:=by
 obtain⟨o,cp,rfl,D⟩:=h.M;have p:∀a,a<rs.length->rs[a]?=Â (rs.getD a rH):=λa d=>by simp[ċ,d]
 have r:=λa d=>eU<|p a d;obtain⟨f,s⟩:∃f,∀a,a<rs.length->o=Â ⟨f,0,Ã⟩:=by by_cases e:0<rs.length;let⟨j,i,q,_⟩:=D 0 _<|p 0 e;exact⟨j,λ_ _=>q⟩;simp_all
 have E:∀a,∃i,a<rs.length->l.w.cell? ⟨f,a,Ã⟩=Â (Ä<|Â ⟨i,0,Ã⟩)/\zO i (rs.getD a rH) l.w:=λa=>by grind
 let⟨g,j⟩:=Classical.axiomOfChoice E;have u:=λe=>by have:=h.I;rw[s 0 e]at this;exact DO this
 refine⟨o,cp,f,g,U,λe=>s 0 e,λe=>m _<|u e,λa d=>(j a d).1,λa d=>(j a d).2.c 4 A,B,C,h.C,m,λa d=>(DN<|h.C.r (u Z) (j a d).1),λa d y=> ?_,λa d y=> ?_⟩;have q:=k _<|r a d;have e:=q.c.r 0 A;have z:=q.c.r 5 A;simp only[mA]at e z;refine⟨aqS q (j a d).2,?_,z.1,λt F=> ?_,?_⟩;show((rs.getD a rH).c.getD 0 0).toNat<8;omega;obtain⟨x,G,rfl⟩:=cI.1 F;exact toTx_ok<|q.C x G;show((rs.getD a rH).r.map toTx).length<=1000;rw[dw];have:=q.n;omega;have q:=k _<|r a d;exact⟨aqT q (j a d).2,abC q y⟩
end
theorem JF:(∀r∈(iR B).2.2,sB r)/\(iR B).2.2.length<=24:=by unfold iR;split;grind;split;unfold nN;split;grind;have:=(JA B.size 0 vi (Un B)<|eD _).1.d;exact⟨this.K,this.I⟩;grind
def kN(rs:List PR)(s:List gf):List ByteArray:=(é rs.length).map λp=>zI (wU rs) (mB rs) p<|rD (wU rs) (iO (mB rs) rs.length) s<|gw (mB rs) p
def zP(rs:List PR)(s:List gf):List gf:=rD (wU rs) (iO (mB rs) rs.length) s<|gw (mB rs) rs.length
def kF(s:List gf)(B:ByteArray):ByteArray×Int×List gf:=
 if(iR B).1=0 then(lG ⟨#[59]⟩<|kN (iR B).2.2 s,0,zP (iR B).2.2 s)else(⟨#[]⟩,(iR B).1,s)
section
variable{b:Ċ}{l:fx}{a:aD}
def abD{md:Region.Mode}(I:Array Bool->aD->fx->Prop)(o:∀c a l i k,I c a l->i∈ç md Q c->(∀f g,I (c.setIfInBounds i Í) f g->jB vQ g (G (b.at f<|Õ Q k::L) qX))->jB vQ l (G (b.at a<|Õ Q (i::k)::L) qX))(m:∀c a l,I c a l->c.size=Q.size->ç md Q c=[]->jB vQ l (G (b.at a<|Õ Q []::L) qX)): ∀(d t:Nat)(c:Array Bool)(a:aD)(l:fx),c.size=Q.size->kl c<=d->I c a l->jB vQ l (G (b.at a<|Õ Q (Ć md Q d t c [])::L) qX):=by
 intro d
 induction d with
 |zero=>
  intro t c a l e p h;simpa[Ć]using m c a l h e<|RR e Z|succ d q=>
  intro t c a l e p h;simp only[Ć];change jB vQ l (G (b.at a (Õ Q (match(ç md Q c)[t%(ç md Q c).length]? with|some i=>Ć md Q d (t/(ç md Q c).length) (c.setIfInBounds i Í) [i]|none=>[].reverse)::L)) qX)
  cases j:(ç md Q c)[t%(ç md Q c).length]? with
  |none=>
   have r:ç md Q c=[]:=by
    cases s:ç md Q c with
    |nil=>rfl|cons x n=>
     rw[s]at j;have u:t%(x::n).length<(x::n).length:=bq _ fD;simp at j;simp at u;omega
   simpa using m c a l h e r
  |some i=>
   simp only[];rw[linearise_go_acc,ez,eh];have n:=eU j;refine o c a l i _ h n λf g r=>(q _ _ f g (fN e) (by have:=LO (mem_ready.1 n).1;omega) r)
def aqV{id:Nat}(I:Array Bool->aD->fx->Prop)(e:iz l)(j:∀f,gd l l.w f->I (Ě Q.size Ó) a {l with w:=f})(k:∀g c a l i m,I c a l->i∈ç g Q c->(∀n o,I (c.setIfInBounds i Í) n o->jB vQ o (G (b.at n<|Õ Q m::L) qX))->jB vQ l (G (b.at a<|Õ Q (i::m)::L) qX))(p:∀g c a l,I c a l->c.size=Q.size->ç g Q c=[]->jB vQ l (G (b.at a<|Õ Q []::L) qX)): jB vQ l (G (b.at a<|bx (.region id Q Í)::L) qX):=by refine vk (.mk U λf r=>⟨_,_,_,_,stepG_region_draw,RP (o5 e.r.r r) e.q,.fT λs d=> ?_⟩);have h:=r.fA ⟨d.r,d.I,d.N,d.Y,d.S⟩;refine⟨e.C h,U,?_⟩;unfold Region.schedule;split;exact abD I (k _) (p _) _ _ _ _ _ fD (by rw[E2];exact eE _)<|j s h;exact abD I (k _) (p _) _ _ _ _ _ fD (by rw[E2];exact eE _)<|j s h
def aqW{I:aD->fx->Prop}(W:fO.fF À Í (λa d=>∃c,d=G (b.at c<|Õ Q jJ::L) qX/\I c a) l g)(f:∀c a,I c a->iz a)(i:∀c a,I c a->jB vQ a (G (b.at c<|Õ Q jJ::L) qX)):jB vQ l g:=vk (W.fG λa d h=>by obtain⟨c,rfl,e⟩:=h;exact⟨f c a e,U,i c a e⟩)
def DY{f:FuncId}{fn:Func}(xs:List Value)(n:Nat)(hf:Tryz.prog.funcs[f]?=some fn)(hb:fn.body=some (mo fn []):=by kernel_rfl)(hn:fn.ntmps=xs.length+n:=by kernel_rfl):Frame.enter Tryz.prog f xs.toArray .normal=(base f).at ⟨(xs++List.replicate n undef).toArray,[]⟩ [.code<|mo fn []]:=by rw[enter_at _ hf hb,hn,eN,dD,show xs.toArray++Ě n bA=(xs++è n bA).toArray from Ο fD]
def JG{J:Jd}{f:Ŵ}{args:Array Î}(d:Q[i]?=Â o)(e:Ē o (ah Q a.tmps)=Í)(g:b.kind≠.early)(h:kC l)(j:∀w,(Ė a.eval o).run À w=bh (.enter f args) w)(k:∀w,(Ė a.eval o).events À w #[]=#[])(m:∀c,gd l l.w c->fO.fF À Í J {l with w:=c} (G (â À f args ù)<|b.at a (Õ Q (i::jJ)::L)::qX)): fO.fF À Í J l (G (b.at a<|Õ Q (i::jJ)::L) qX):=by refine .mk U λc r=>⟨G (â À f args ù)<|b.at a (Õ Q (i::jJ)::L)::qX,c,#[],{l with w:=c},?_,LD c<|o5 h r,m c r⟩;rw[stepG_enter d e g<|j c];rw[Go.Conc.listed,k c,seen_none]
def abE{f:Ŵ}{args:Array Î}(e:iz l)(j:Q[i]?=Â o)(k:Ē o (ah Q a.tmps)=Í)(m:b.kind≠.early)(n:∀w,(Ė a.eval o).run À w=bh (.enter f args) w)(p:∀w,(Ė a.eval o).events À w #[]=#[])(q:∀d,gd l l.w d->jB vQ {l with w:=d} (G (â À f args ù)<|b.at a (Õ Q (i::jJ)::L)::qX)): jB vQ l (G (b.at a<|Õ Q (i::jJ)::L) qX):=vk (JG j k m e.r.r n p λd r=> .fT λg c=>by have h:gd l l.w g:=r.fA ⟨c.r,c.I,c.N,c.Y,c.S⟩;exact⟨e.C h,U,q g h⟩)
def iX.xP{c:fx}(e:iz l)(h:iX l c)(k:c.d=l.d):iz c:=by
 have g:∀b,¬c.I b:=by rw[h.N];exact e.rd
 have f:∀a,¬c.r a:=by rw[h.S];exact e.I
 have i:∀a,¬c.N a:=by rw[h.Y];exact e.M
 have j:∀a,¬c.K a:=by rw[h.K];exact e.k
 exact⟨⟨λb _=>g b,λa q=>(f a q).elim,λa q=>q.elim (λz=>(f a z).elim) λz=>(i a z).elim,λb q=>q.elim (λz=>h.fM b z) λz=>(g b z).elim,λa q=>q.elim (λz=>(f a z).elim) λz=>(i a z).elim,λa q=>(j a q).elim⟩,k.trans e.d,by rw[h.q];exact e.q,g,f,i,j⟩
end
noncomputable def Ux:Array Ř:=E9<|mo aQ [1,1,1,0]
noncomputable def Uy:Code:=mo aQ [1,1,1,1]
structure oN(l:fx)(ab n:Nat)(s:List gf)(sl:Î)(V:Nat->Prop):Prop where
 r:ox l.w
 C:∀b,b=1\/b=2\/b=3\/b=4->l.O b
 Y:F8 ab n sl l.w
 fE:l.O ab
 rd:RD s sl V l.w
 I:∀b,V b->l.O b
 d:¬V ab
 a:1<=n
 c:n<=8
 N:¬(ab=1\/ab=2\/ab=3\/ab=4)
structure NB(l l':fx)(ab n:Nat)(s':List gf)(V:Nat->Prop):Prop where
 Fu:∀b,l.O b->b≠ab->l'.O b/\l'.w.heap[b]?=l.w.heap[b]?
 att:∃uT V',oN l' ab n s' uT V'/\∀b,V' b->V b\/(b=1\/b=2\/b=3\/b=4)\/l.w.heap.size<=b
section
variable{l g:fx}{ab:Nat}{s:List gf}{sl:Î}{V:Nat->Prop}
def oN.M{a:fx}(h:oN l ab n s sl V)(c:∀b,l.O b->a.O b)(d:∀b,l.O b->a.w.heap[b]?=l.w.heap[b]?)(e:l.w.heap.size<=a.w.heap.size):oN a ab n s sl V:=⟨h.r.r (Ï h.r.fM e) λb q=>d b<|h.C b q,λb q=>c b<|h.C b q,h.Y.r<|d ab h.fE,c ab h.fE,h.rd.r λb q=>d b<|h.I b q,λb q=>c b<|h.I b q,h.d,h.a,h.c,h.N⟩
end
section
variable{g:fx}{b:Ċ}{X:Type}
def OpS(g:fx)(Q:Array Ř)(T b:Array Î)(x:X)(V:X->Î)(c:Nat)(D L:List Nat)(f:Ŵ)(args:Array Î)(i:Nat)(o:Ř):Prop:=
 o.guard=Ã/\((i∈L/\jT Q T i=jT Q b i\/i∈D)/\i≠c/\(∀l,(i∈L->iy fB g l)->∀a,gd l l.w a->(Ė (Act.eval ⟨T,[]⟩) o).run À a=bh (.value<|jT Q T i) a/\∀e∈(Ė (Act.eval ⟨T,[]⟩) o).events À a #[],r7 l e)\/
  i=c/\jT Q T i=V x/\(∀w,(Ė (Act.eval ⟨T,[]⟩) o).run À w=bh (.enter f args) w)/\∀w,(Ė (Act.eval ⟨T,[]⟩) o).events À w #[]=#[])
theorem aqX{id:Nat}(p:X->List Î)(V:X->Î)(c:Nat)(D k:List Nat)(f:Ŵ)(args:Array Î)(z:X->fx->Prop)(F:X)(P:iz g)(hk:b.kind≠.early)(H:tP Q d.size=Í)(hd:E7 Q=Í)(hD:Ic Q [c] D=Í)(hL:Ie Q [c] k=Í)(hc:c<Q.size)(ho:∀J,∃k,CY J Q k []=Í/\(é Q.size).all (k.contains ·)=Í)(hQ:∀x l,z x l->∀s,gd l l.w s->z x {l with w:=s})(oE:∀x T T0,T=lh Q.toList (p x) d->T0=lh Q.toList (p F) d->C3 (OpS g Q T T0 x V c D k f args) 0 Q.toList)(Ig:∀l a K,iz l->iy fB g l->(∀t x,iz t->z x t->jB vQ t (G (b.at (a.put ((Q[c]?).bind (·.dst))<|V x)<|Õ Q K::L) qX))->jB vQ l (G (â À f args ù)<|b.at a (Õ Q (c::K)::L)::qX))(M:∀l x,iz l->z x l->jB vQ l (G (b.at ⟨lh Q.toList (p x) d,[]⟩<|Õ Q []::L) qX)):jB vQ g (G (b.at ⟨d,[]⟩<|bx (.region id Q Í)::L) qX):=by
 have S:∀{i o},Q[i]?=Â o->∀x,OpS g Q (lh Q.toList (p x) d) (lh Q.toList (p F) d) x V c D k f args i o:=λ{i o} h x=>by have:=E8 _ _ _ _ (oE x _ _ U U) (show Q.toList[i]?=Â o by rwa[eV]);rwa[dQ]at this
 refine aqV (λn a l=>n.size=Q.size/\∃x,lD Q d (jT Q<|lh Q.toList (p x) d) n a/\iz l/\(¬n.getD c Ó=Í->iy fB g l)/\(n.getD c Ó=Í->z x l)) P (λs r=>⟨fD,F,lD.M _ _ _,P.C r,λ_=>(iy.gy P.r.r).G r,λq=> ?_⟩) (λJ n a l i K W B M=> ?_) λJ n a l W Y hr=> ?_;simp[fq,fc]at q;split at q<;>cases q;let⟨Y,x,u,y,h1,h2⟩:=W;have uL:(n.setIfInBounds i Í).size=Q.size:=fN Y
 obtain⟨o,v⟩:∃o,Q[i]?=Â o:=⟨_,fj<|AW B⟩;let⟨N,_⟩:=u.N (oI _ _ _).2 (oI _ _ _).1 H hd B v;have C:=RX (mem_ready.1 B).1;obtain⟨hg,⟨_,hic,O⟩|⟨rfl,_,O,h4⟩⟩:=S v x;have j:i∈k->iy fB g l:=λhiL=>h1 λq=>C (u.G k [c] hL (λm hm o e E z2 z3=>by rw[eY.1 hm]at E;exact u.C c o e E q z2 z3) i hiL);refine aqW (I:=λE t=>(n.setIfInBounds i Í).size=Q.size/\∃x,lD Q d (jT Q<|lh Q.toList (p x) d) (n.setIfInBounds i Í) E/\iz t/\(¬(n.setIfInBounds i Í).getD c Ó=Í->iy fB g t)/\((n.setIfInBounds i Í).getD c Ó=Í->z x t)) (xA v (AY hg _) hk y.r.r y.q (λs r=>by rw[N];exact(O l j s r).1) (λs r=>by rw[N];exact(O l j s r).2)<|.fT λs r=>⟨_,U,uL,x,u.fR H v B λ_=>U,y.C r,λq=> ?_,λq=> ?_⟩) (λ_ _ ⟨_,_,_,q,_⟩=>q) M;rw[aR Ó hic]at q;exact(h1 q).G r;rw[aR Ó hic]at q;exact hQ x l (h2 q) s r;have late:=u.RZ C D [i] hD (λj m=>by rwa[eY.1 m]);refine abE (f:=f) (args:=args) y v (AY hg _) hk (λw=>by rw[N];exact O w) (λw=>by rw[N];exact h4 w) λs r=>Ig _ a K (y.C r) ((h1 C).G r) λt E mG xD=> ?_;have hv:jT Q (lh Q.toList (p E) d) i=V E:=by obtain⟨_,⟨_,h,_⟩|⟨_,h,_⟩⟩:=S v E;exact absurd U h;exact h
 rw[<-hv,show(Q[i]?).bind (·.dst)=o.dst by rw[v];rfl];refine M _ t ⟨uL,E,(u.K λj m=> ?_).fR H v B λ_=>U,mG,λq=> ?_,λ_=>xD⟩;obtain⟨oj,hoj⟩:∃o,Q[j]?=Â o:=⟨_,fj<|by grind⟩;have e:=λx=>(S hoj x).2;have e:∀x,jT Q (lh Q.toList (p x) d) j=jT Q (lh Q.toList (p F) d) j:=λx=>by obtain⟨⟨_,h⟩|h,_⟩|⟨h,_⟩:=e x;exact h;exact absurd m<|late j h;exact absurd (h▸m) C
 rw[e x,e E];simp[show i<n.size by have:=AW B;omega]at q;let⟨_,x,u,y,_,h2⟩:=W;let⟨k,e,r⟩:=ho J;have E:∀j∈é Q.size,n.getD j Ó=Í:=λj m=>CZ hr Y k [] e (λ_ q=>by cases q) j (by simpa using eI.1 r j m);obtain rfl:=u.H (oI _ _ _).2 (oI _ _ _).1 H E;exact M l x y<|h2<|E c<|dZ.2 hc
end
def aqY(x y:Î)(n:Nat)(a:List Ċ):G (â À 37 #[x,y,Ç Ê n] ù) a=Fl x y n a:=by rw[Fl,enter_at #[x,y,Ç Ê n] aS (c:=mo Tryz.f37 []) fK];kernel_rfl
section
variable{l f:fx}{s:List gf}{V:Nat->Prop}{d:List PR}
def TdA(f:fx)(V:Nat->Prop)(d:List PR)(s:List gf)(x:Value×Value)(l:fx):Prop:=∃a e p m c,iy fB f a/\x=(Æ (Â ⟨e,0,Ã⟩) d.length d.length,Æ p m c)/\zK (λb=>V b\/b=1\/b=2\/b=3\/b=4) (wU d) d.length (mB d) s a e (Æ p m c) l
theorem aqZ{E:Ċ}(z:oN f i n s x V)(I:RQ d v X f.w)(F:∀b,X b->f.O b)(J:∀r∈d,sB r)(Y:d.length<=24)(o:iy fB f l)(K:∀t g,iz t->TdA f (λb=>V b\/X b) d s g t->jB vQ t (G (E.at (y.put ((Q[j]?).bind (·.dst))<|Ý #[g.1,g.2])<|Õ Q jJ::L) qX)): jB vQ l (G (â À 37 #[x,v,Ç Ê n] ù)<|E.at y (Õ Q (j::jJ)::L)::qX):=by
 have u:=z.M (λb q=>o.O b q) (λb q=>o.r b (É q) id) o.I;have H:=λb q=>o.O b<|F b q;obtain⟨ra,cr,rb,rq,rfl,M,N,P,S,T⟩:=aqU (I.r λb q=>o.r b (É<|F b q) id) J u.r u.C H;obtain⟨B,C,D,rfl⟩:∃B C D,x=Æ B C D:=by let⟨_,_,_,⟨B,C,D,e,_⟩,_⟩:=z.rd;grind
 rw[aqY];exact aqO M (λh=>É<|N h) P S T ⟨λb q=>É<|Ì q,λb q=>Ì q⟩ (λb q=>q.elim (λq=>q.elim (u.I b)<|H b)<|u.C b) (λb q=>É<|É q) u.rd z.a (by have:=z.c;omega) λt e p m c h W=>K t (_,_) h ⟨l,e,p,m,c,o,U,W⟩
end
section
variable{l o l4:fx}{ab:Nat}{s:List gf}{sl:Î}{V:Nat->Prop}{rs:List PR}
structure abF(l l4:fx)(ab n:Nat)(s:List gf)(sl:Î)(V:Nat->Prop)(rs:List PR)(an:Nat)(uT:Î):Prop where
 r:∀b,l.O b->l4.O b/\l4.w.heap[b]?=l.w.heap[b]?
 fM:nB<=l4.w.heap.size
 C:l4.O an/\wT an (kN rs s) l4.w/\mj l4.w an=Â (0,0)
 IQ:∃V',RD (zP rs s) uT V' l4.w/\(∀b,V' b->l4.O b)/\¬V' ab/\∀b,V' b->V b\/(b=1\/b=2\/b=3\/b=4)\/l.w.heap.size<=b
def aq0{kd:Nat->Int}(h:∀p,p<rs.length->w.cell? ⟨i,p,Ã⟩=Â (Å<|zI (wU rs) (mB rs) p<|rD (wU rs) (iO (mB rs) rs.length) s<|gw (mB rs) p))(d:w.cell? ⟨i,rs.length,Ã⟩=Ã):wT i (kN rs s) w:=by refine⟨λp x a=> ?_,by unfold kN;simpa using d⟩;rw[kN,dN]at a;obtain⟨q,e,rfl⟩:=Ø.1 a;let⟨b,c⟩:=eP.1 e;simp at b c;subst c;exact h p b
def NC:(kN rs s).length=rs.length:=by simp[kN]
def aq1:nB<=5:=by show À.globals.size<=5;decide+kernel
def aq2{f:fx}{p:Option ø}(d:oN l ab n s sl V)(t:gS l)(u:∀b,X b->l.w.heap.size<=b)(v:∀b,l.O b->o.O b/\o.w.heap[b]?=l.w.heap[b]?)(x:l.w.heap.size<=o.w.heap.size)(y:gS l4)(e:iy fB o f)(a:zK (λb=>(V b\/X b)\/b=1\/b=2\/b=3\/b=4) (wU rs) rs.length (mB rs) s f i (Æ p m j) l4):abF l l4 ab n s sl V rs i (Æ p m j):=by
 have g:∀b,l.O b->l4.O b/\l4.w.heap[b]?=l.w.heap[b]?:=λb q=>by let⟨z,h⟩:=v b q;let⟨k,r⟩:=a.M b<|e.O b z;exact⟨k,r.trans<|(e.r b (É z) id).trans h⟩
 refine⟨g,?_,⟨a.r.1,aq0 (kd:=mB rs) a.r.2 a.I.1,a.I.2⟩,?_⟩;have:=y.fM 4<|É (g 4<|d.C 4 A).1;have:=aq1;omega;let⟨h,B,k⟩:=a.S;have r:∀b,h b->V b\/(b=1\/b=2\/b=3\/b=4)\/l.w.heap.size<=b:=λb q=>by rcases(k b q).2 with((z|z)|z)|z;exact É z;exact Ì<|Ì<|u b z;exact Ì<|É z;exact Ì<|Ì<|Ï (Ï x e.I) z
 refine⟨h,B,λb q=>(k b q).1,λq=> ?_,r⟩;obtain z|z|z:=r ab q;exact d.d z;exact d.N z;have:=t.fM ab<|É d.fE;omega
def aq3{f:fx}{p:Option ø}(d:oN l ab n s sl V)(h:abF l l4 ab n s sl V rs i (Æ p m j))(E:gS l4)(g:∀b,l4.O b->f.O b)(r:∀b,l4.O b->f.w.heap[b]?=(l4.w.setCell ⟨ab,1,Ã⟩<|Æ p m j).heap[b]?)(v:l4.w.heap.size<=f.w.heap.size):NB l f ab n (zP rs s) V:=by let⟨x,y,t,u,z⟩:=h.IQ;have k:∀b,l4.O b->b≠ab->f.w.heap[b]?=l4.w.heap[b]?:=λb q e=>(r b q).trans<|oV (a:=⟨ab,1,Ã⟩) e;have o:=h.r ab d.fE;refine⟨λb q e=>⟨g b (h.r b q).1,(k b (h.r b q).1 e).trans (h.r b q).2⟩,Æ p m j,x,⟨?_,λb q=>g b (h.r b<|d.C b q).1,?_,g ab o.1,y.r λb q=>k b (t b q) λe=>u<|e▸q,λb q=>g b<|t b q,u,d.a,d.c,d.N⟩,z⟩;exact d.r.r (Ï h.fM v) λb q=>(k b (h.r b<|d.C b q).1 λe=>d.N<|e▸q).trans (h.r b<|d.C b q).2;let⟨B,C,D⟩:=d.Y;refine⟨B,?_,D⟩;rw[r ab o.1];simp[η,fh,o.2,C]
def aq4{J:Jd}(b:kC l)(d:fO.fF À Í J l (G (f.at (y.put ((Q[i]?).bind (·.dst))<|Å ⟨#[]⟩)<|Õ Q jJ::L) qX)): fO.fF À Í J l (G (â À 38 #[Æ O 0 n,Å B] ù)<|f.at y (Õ Q (i::jJ)::L)::qX):=by
 have hF:True:=trivial;rw[DY [_,_] 73 ĕ];simp only[è,ck,ec];conv in mo _ _=>whnf
 apply gY b;repeat w_go fW
 u_in fW hF
 refine aT (t:=4) U U ĕ U ⟨by u_nil,?_⟩;apply ia;exact d
def wT.I{w':Ë}{xs:List ByteArray}(h:wT i xs w)(k:w'.heap[i]?=w.heap[i]?):wT i xs w':=⟨λp x a=>yh k<|h.r p x a,by have:=h.C;simp only[Ú,k]at this|-;exact this⟩
def aq5{xs:List ByteArray}(g:ox w)(h:wT i xs w):mU i=Ó:=by
 have b:∀e,Nl i e w->False:=λe ⟨c,o,j,_,_,d,l⟩=>by
  have f:w.cell? ⟨i,0,Ã⟩=Â c[0]:=by simp only[Ú,j,eW,æ,if_false];exact fj d
  obtain q|q:=dV xs.length;have a:=h.C;rw[q,f]at a;cases a;have a:=h.r 0 _<|fe q;let⟨k,n,m⟩:=l c[0]<|eS.2<|ÿ d;rw[f,m]at a;cases a
 cases q:mU i with
 |false=>rfl|true=>
  unfold mU at q;simp at q;obtain rfl|rfl:=q;exact(b _ g.I).elim;exact(b _ g.C).elim
def iX.aq6(a:kC l)(r:gd l l.w u):iX l {l with w:=u}:=⟨λ_ q=>q,λ_ q=>É q,U,U,U,U,U,r,o5 a r⟩
def aq7{a:aD}{xs:List ByteArray}(b:iz l)(j:nB<=l.w.heap.size)(h:wT n xs l.w)(m:l.O n)(o:mU n=Ó)(p:mj l.w n=Â (0,0))(s:xs.length<=1000){N:Nat}(t:xs.length=N)(u:B.size=1)(v:jH xs+xs.length<=140737488355328): fO.fF À Í (λc g=>iX l c/\c.d=l.d/\g=G (f.at (a.put ((Q[i]?).bind (·.dst))<|Å<|lG B xs)<|Õ Q jJ::L) qX) l (G (â À 38 #[Æ (Â ⟨n,0,Ã⟩) N N,Å B] ù)<|f.at a (Õ Q (i::jJ)::L)::qX):=by subst t;obtain e|e:=dV xs.length;have x:=Ù e;subst x;exact aq4 b.r.r (.fT λy r=>⟨iX.aq6 b.r.r r,U,U⟩);refine(aqI b.r b.q j h e (É m) o p s u v Í _ qX).fG ?_;rintro c g ⟨r,x,rfl⟩;exact⟨r,x,by rw[ſ]⟩
def aq8{S:Ċ}(z:oN l ab n s sl V)(tR:gS l)(JH:∀b,X b->l.w.heap.size<=b)(hl:∀b,l.O b->o.O b/\o.w.heap[b]?=l.w.heap[b]?)(jV:l.w.heap.size<=o.w.heap.size)(Uz:rs.length<=24)(uK:jH (kN rs s)+rs.length<=140737488355328)(hJ:∀F,iz F->NB l F ab n (zP rs s) V->jB vQ F (G (S.at (y.put ((Q[i]?).bind (·.dst))<|Ý #[Å<|lG ⟨#[59]⟩<|kN rs s,Ç Ê 0])<|Õ Q jJ::L) qX)){T l4:fx}{p:Option ø}(g:iz l4)(k1:iy fB o T)(hT:zK (λb=>(V b\/X b)\/b=1\/b=2\/b=3\/b=4) (wU rs) rs.length (mB rs) s T J (Æ p m j9) l4){B:Array Î}(W:B.size=39)(H:B[0]?=Â (Ä<|Â ⟨ab,0,Ã⟩))(I:B[9]?=Â (Æ (Â ⟨J,0,Ã⟩) rs.length rs.length))(K:B[10]?=Â (Æ p m j9)): jB vQ l4 (G ((base 17).at ⟨B,[]⟩<|Õ Ux []::[bx Uy])<|S.at y (Õ Q (i::jJ)::L)::qX):=by
 have hF:True:=trivial;have h:=aq2 (rs:=rs) z tR JH hl jV g.r k1 hT;obtain⟨u,rfl⟩:=xC B W;simp only[eu,dN,dW,Nat.reduceLT,dT,dI]at H I K;simp only[é,List.range.loop,ZnI,H,I,K];clear H I K W;let⟨fr,lC,hfr⟩:=z.Y;let⟨Y,hab⟩:=h.r ab z.fE;have M:l4.w.heap[ab]?=Â (Ô #[Ç Ê n,sl] 68 (0,0)):=by rw[hab,lC,hfr]
 have c1:l4.w.cell? ⟨ab,1,Ã⟩=Â sl:=by simp[Ú,M]
 have z1:l4.w.frozen? ⟨ab,1,Ã⟩=Ó:=by simp[World.frozen?,M]
 have hq4:=g.q;apply vk;apply gY g.r.r;conv in Uy=>whnf
 iterate 7 w_go fW
 apply ia;apply Y7 (p:=ab) (off:=1) (v:=Æ p m j9) (u:=sl) U U je g.r.r hq4 Y c1 z1 U (λw r x=>by go_simp) (λw r x=>by simp[go_sem,events_store _ _ _ _ _ _ (show Ă (Æ p m j9)=Í from rfl),r,x]);have k5:=RY (X:=λb=>b=ab) (p:=ab) (w':=l4.w.setCell ⟨ab,1,Ã⟩<|Æ p m j9) g.r (gd.gy _ _) Y U fO.mh λj hj=>fO.oV hj;have N:=k5.N g.r;have awl:(l4.w.setCell ⟨ab,1,Ã⟩<|Æ p m j9).heap.size=l4.w.heap.size:=fO.mh;have F9:iz ({l4 with w:=l4.w.setCell ⟨ab,1,Ã⟩ (Æ p m j9)}:fx):=⟨N,g.d,g.q,g.rd,g.I,g.M,g.k⟩;have c0:l4.w.cell? ⟨ab,0,Ã⟩=Â (Ç Ê n):=by simp[Ú,M]
 have aq9:J≠ab:=λe=>by obtain q|q:=dV (kN rs s).length;have r:=h.C.2.1.C;rw[q,e,c0]at r;cases r;have x:=h.C.2.1.r 0 _<|fe q;rw[e,c0]at x;cases x
 have abG:(l4.w.setCell ⟨ab,1,Ã⟩<|Æ p m j9).heap[J]?=l4.w.heap[J]?:=fO.oV (a:=⟨ab,1,Ã⟩) aq9;have zH:=h.C.2.1.I abG;have hfz:mj (l4.w.setCell ⟨ab,1,Ã⟩<|Æ p m j9) J=Â (0,0):=(yF abG).trans h.C.2.2;have ara:mU J=Ó:=aq5 (z.r.r h.fM λb q=>(h.r b<|z.C b q).2) h.C.2.1;have hlen:(kN rs s).length=rs.length:=NC;apply gY N.r;iterate 4 w_go fW
 apply ia;refine JG (f:=38) (args:=#[Æ (Â ⟨J,0,Ã⟩) rs.length rs.length,Å ⟨#[59]⟩]) U gq je N.r (λw=>by go_simp) (λw=>į U ĕ U U #[]) λw₁ C=> ?_;have JJ:=F9.C C;have arb:wT J (kN rs s) w₁:=zH.I<|C.I J<|É h.C.1;refine fO.fF.nF ?_ (aq7 (xs:=kN rs s) JJ (Ï (by rw[fO.mh];exact h.fM) C.r) arb h.C.1 ara ((yF<|C.I J<|É h.C.1).trans hfz) Z hlen U Z);rintro D g6 ⟨E,hd,rfl⟩;have P:iz D:=iX.xP JJ E hd;have hk6:∀b,l4.O b->D.w.heap[b]?=(l4.w.setCell ⟨ab,1,Ã⟩<|Æ p m j9).heap[b]?:=λb q=>(E.r.I b<|É q).trans<|C.I b<|É q;have hs6:l4.w.heap.size<=D.w.heap.size:=by have r:=E.r.r;have x:=C.r;have h3:(l4.w.setCell ⟨ab,1,Ã⟩<|Æ p m j9).heap.size=l4.w.heap.size:=fO.mh;exact Ï (cZ h3.symm)<|Ï x r
 have x:∀b,l4.O b->D.O b:=λb q=>E.O b q;generalize lG ⟨#[59]⟩ (kN rs s)=ans at*;walk_nrm;apply gY P.r.r;repeat w_go fW
 u_in fW hF
 refine aU (t:=4) (u:=5) U U ź U ⟨by u_nil,?_⟩;apply ia;refine .fT λG0 r=>⟨P.C r,U,hJ _ (P.C r)<|aq3 z h g.r x (λb q=>(r.I b<|É<|x b q).trans<|hk6 b q)<|Ï hs6 r.r⟩
end
section
variable{l:fx}{s:List gf}
def ard{k:fx}{g:Nat->Prop}{t:List PR}(Y:oN l j n s v X)(tR:gS l)(B:oN k j n s v X)(Fi:iz k)(C9:RQ t z g k.w)(UA:∀b,g b->k.O b)(DZ:∀r∈t,sB r)(K:t.length<=24)(JH:∀b,g b->l.w.heap.size<=b)(I_:∀b,l.O b->k.O b/\k.w.heap[b]?=l.w.heap[b]?)(arf:l.w.heap.size<=k.w.heap.size)(hs':jH (kN t s)+t.length<=140737488355328)(ht:d.size=39)(Nz:d[0]?=Â (Ä<|Â ⟨j,0,Ã⟩))(ht6:d[6]?=Â z)(hJ:∀C,iz C->NB l C j n (zP t s) X->jB vQ C (G (f.at (y.put ((Q[i]?).bind (·.dst))<|Ý #[Å<|lG ⟨#[59]⟩<|kN t s,Ç Ê 0])<|Õ Q jJ::L) qX)): jB vQ k (G ((base 17).at ⟨d,[]⟩<|bx (.region 4 Ux Í)::[bx Uy])<|f.at y (Õ Q (i::jJ)::L)::qX):=by
 let⟨fr,lC,_⟩:=B.Y;have D:Ux=E9 (mo aQ [1,1,1,0]):=U;conv at D=>rhs;arg 1;whnf
 simp only[E9]at D;have N:∀l,iy fB k l->∀o,gd l l.w o->(o.cell? ⟨j,0,Ã⟩=Â (Ç Ê n)/\o.cell? ⟨j,1,Ã⟩=Â v)/\∀h,jO l ⟨j,h,Ã⟩:=λl q o r=>by have e:=(r.I j<|q.M<|É B.fE).trans<|(q.r j (É B.fE) id).trans lC;exact⟨⟨by simp[Ú,e],by simp[Ú,e]⟩,λh=>É<|q.M<|É B.fE⟩
 obtain⟨u,rfl⟩:=xC d ht;have P:u 0=Ä (Â ⟨j,0,Ã⟩):=fN Nz;have u6:u 6=z:=fN ht6;simp only[é,List.range.loop,ZnI];rw[D];refine aqX (X:=Value×Value) (λx=>[Ä<|Â ⟨j,0,Ã⟩,Ä<|Â ⟨j,0,Ã⟩,Ä<|Â ⟨j,1,Ã⟩,v,z,Ä<|Â ⟨j,0,Ã⟩,Ä<|Â ⟨j,0,Ã⟩,Ä<|Â ⟨j,0,Ã⟩,Ç Ê n,Ý #[x.1,x.2],Ý #[x.1,x.2],x.1,x.2,x.1,x.2]) (λx=>Ý #[x.1,x.2]) 9 [10,11,12,13,14] [3,4,8,2,1,0,7,6,5] 37 #[v,z,Ç Ê n] (TdA k (λb=>X b\/g b) t s) (bA,bA) Fi je gq gq gq gq A (λW=> ?_) (λx l ⟨S,V,p,m,c,E,F,H⟩ o r=>⟨S,V,p,m,c,E,F,H.N r⟩) (λx T a I J=> ?_) (λl a jJ _ q=>aqZ B C9 UA DZ K q) λl4 x Fj ⟨S,V,p,m,c,E,F,H⟩=> ?_
 .cases W;rotate_left;exact⟨[0,1,2,3,4,5,6,7,8,9,10,11,13,12,14],gq,gq⟩;all_goals exact⟨é 15,gq,gq⟩
 .simp only[lh]at I J;simp at I J;subst I J;iterate 9 refine⟨⟨U,É ⟨É ⟨A,U⟩,A,λl q o r=>⟨by
   let⟨⟨T,W⟩,_⟩:=N l (q A) o r;simp only[jT];go_simp,λe a=>by
   let⟨⟨T,W⟩,sx⟩:=N l (q A) o r;simp[go_sem,P,u6,T,W]at a<;>(subst a;exact(sx _).rd)⟩⟩⟩,?_⟩
  refine⟨⟨U,Ì ⟨U,U,λw=>by go_simp,λw=>į U aS U U #[]⟩⟩,?_⟩;iterate 5 refine⟨⟨U,É ⟨Ì A,A,λl q o r=>⟨by simp only[jT];go_simp,λe a=>by simp[go_sem]at a⟩⟩⟩,?_⟩
  trivial
 subst F;simp only[lh];simp;exact aq8 Y tR JH I_ arf K hs' hJ Fj E H U (fN P) U U
def arh(p:iz l)(r:oN l j n s v X)(I:B.size<=ó)(J:(iR B).1=0->jH (kN (iR B).2.2 s)+(iR B).2.2.length<=140737488355328)(t:∀z,iz z->NB l z j n (kF s B).2.2 X->jB vQ z (G (f.at (y.put ((Q[i]?).bind (·.dst))<|Ý #[Å (kF s B).1,Ç Ê (kF s B).2.1])<|Õ Q jJ::L) qX)): jB vQ l (G (â À 17 #[Ä<|Â ⟨j,0,Ã⟩,Å B] ù)<|f.at y (Õ Q (i::jJ)::L)::qX):=by
 have hF:=trivial;rw[DY [_,_] 37 ź];simp only[è,ck,ec];conv in mo _ _=>whnf
 apply vk;apply gY p.r.r;iterate 8 w_go fW
 apply ia;refine JG (f:=36) (args:=#[Å B]) U gq je p.r.r (λw=>by go_simp) (λw=>į U ŀ U U #[]) λw₁ m=> ?_;have C:=p.C m;refine fO.fF.nF ?_<|aqB C.r C.q (Ï r.r.fM m.r) I Í _ _;rintro u g1 ⟨x,K,a,rfl,M⟩;have g:=iX.xP C x K;have h:∀b,l.O b->u.O b/\u.w.heap[b]?=l.w.heap[b]?:=λb q=>⟨x.O b q,(x.r.I b<|É q).trans<|m.I b<|É q⟩;have F:=Ï m.r x.r.r;rw[ſ];by_cases k:(iR B).1=0
 .have D:kF s B=(lG ⟨#[59]⟩<|kN (iR B).2.2 s,0,zP (iR B).2.2 s):=if_pos k;let⟨c,N,E⟩:=M k;have P:=J k;rw[D]at t;obtain⟨S,T⟩:=JF;rw[k];generalize(iR B).2.2=rs at*;generalize(iR B).2.1=at1 at*;walk_nrm;apply gY g.r.r;repeat w_go fW
  apply ia;refine .fT λo d=>⟨g.C d,U,?_⟩;have V:=g.C d;have e:∀b,l.O b->({u with w:=o}:fx).O b/\o.heap[b]?=l.w.heap[b]?:=λb q=>⟨(h b q).1,(d.I b<|É (h b q).1).trans (h b q).2⟩;have H:=Ï F d.r;have W:=r.M (λb q=>(e b q).1) (λb q=>(e b q).2) H;have Y:=N.r λb q=>d.I b<|É (E b q).1;have UA:=λb q=>(E b q).1;have JH:=λb q=>Ï m.r (E b q).2;exact ard r p.r W V Y UA S T JH e H P U U U t
 .have D:kF s B=(⟨#[]⟩,(iR B).1,s):=if_neg k;rw[D]at t;have c:((iR B).1 !=0)=Í:=by rwa[bne_iff_ne]
  generalize(iR B).1=er at*;generalize(iR B).2.1=at1 at*;walk_nrm;apply gY g.r.r;repeat w_go fW
  u_in fW hF
  refine aU U U ź U ⟨by u_nil,?_⟩;apply ia;refine .fT λo d=>⟨g.C d,U,t _ (g.C d) ?_⟩;have e:∀b,l.O b->({u with w:=o}:fx).O b/\o.heap[b]?=l.w.heap[b]?:=λb q=>⟨(h b q).1,(d.I b<|É (h b q).1).trans (h b q).2⟩;exact⟨λb q _=>e b q,v,X,r.M (λb q=>(e b q).1) (λb q=>(e b q).2)<|Ï F d.r,λb q=>É q⟩
end
def UB{M:Nat}(a:∀z∈vX,z.size<=M)(b:M<=100)(c:vX.length<=400000):(wM vX).size<=100000000:=by unfold wM;split;decide;have d:=Nj ⟨#[44]⟩ U vX;have e:=DK vX a;have:M*vX.length<=100*400000:=Ģ b c;omega
theorem Gb(i:Nat):(pI i).size<=3:=by unfold pI pg;rw[Ö];split;show 1+1<=3;decide;show 1+2<=3;decide
theorem abH(s:gT.St)(x y:Nat)(k:Int):∀(m i:Nat),i+m<=1000->(ua s x y k i m).size<=20|0,i,_=>by unfold ua;decide|m+1,i,h=>by unfold ua;split;exact pw i Z;exact abH s x y k m (i+1) Z
theorem ari(s t:gT.St):(ma s t 8).length<=400000:=by
 unfold ma;have a:∀l:List Nat,(l.flatMap<|ya s t).length<=18*l.length:=λl=>by
  induction l with
  |nil=>simp|cons i l b=>
   rw[eL,Ñ,eH];have:(ya s t i).length<=18:=by unfold ya;grind [Ñ,Nc,Nf]
   omega
 grind
theorem arj{g:List (Nat×gf)}{q:Qn}(i:lA (lH g))(ok:q.Ok):(vf g q).size<=100000000:=by
 unfold vf;split;grind [Gb];rename_i p j;let⟨a,d,l,m⟩:=i.r _<|cI.2 ⟨p,Jm j,U⟩;have h:∀u,u<18446744073709551616->(gP u).size<=100000000:=λu k=>by have:=pw u k;omega
 unfold qL;split;have b:=d.C q.x q.I;exact h _ (by have:=b.1;have:=b.2;omega);split;have b:=d.fC q.x;exact h _ (by have:=b.1;have:=b.2;omega);split;split;grind [Gb];exact aoC d ok Z;split;grind [abH];split;have:=aaz<|By p.2.s;have:=aaA<|16-(nX<|By p.2.s).size;rw[DL,Ö];omega;split;exact UB (λz f=>by obtain⟨e,c,rfl⟩:=cI.1 f;exact FX (a.C e c).2) Z (by rw[dw];exact a.I);split;exact UB (λz f=>by obtain⟨e,c,rfl⟩:=cI.1 f;exact TS (a.r e c).1 (a.r e c).2) Z (by rw[dw];have:=a.M;omega);split;grind [Gb];exact UB (aaD _ _) Z<|ari _ _
theorem ark(a:List (Nat×gf))(v:Int)(x:Nat)(b:List Tx):(sW a v x b).2.size<=3:=by unfold sW;split;exact Gb 3;split;exact Gb 4;split;exact Gb 5;show(pg a.length).size<=3;unfold pg;split;show 1<=3;decide;show 2<=3;decide
def arl{s:List gf}{i:Int×Nat×List Tx}(h:lA s)(a:∀t∈i.2.2,t.Ok)(b:i.2.2.length<=1000):lA (BI s i):=lA.M (by rwa[FY]) a b
def UC{a:List PR}{s:List gf}(h:lA s)(b:∀r∈a,sB r):∀k,k<=(iO (mB a) a.length).length->lA (rD (wU a) (iO (mB a) a.length) s k)|0,_=>h|k+1,hk=>by have c:a.getD ((iO (mB a) a.length).getD k 0) rH∈a:=eU (i:=(iO (mB a) a.length).getD k 0) (by have q:=(IN<|xN (l:=iO (mB a) a.length)<|show k<_ from hk).1;generalize(iO (mB a) a.length).getD k 0=j at q;simp[ċ,q]);have q:=b _ c;refine arl (UC h b k Z) (λt d=> ?_) ?_;obtain⟨x,t,rfl⟩:=cI.1 d;exact toTx_ok<|q.C x t;show((a.getD _ rH).r.map toTx).length<=1000;rw[dw];have:=q.n;omega
def Md(kd:Nat->Int):∀{p R:Nat},p<=R->gw kd p<=(iO kd R).length:=λ{p R} h=>by
 show(iO kd p).length<=(iO kd R).length
 induction h with
 |refl=>exact eE _|@step R _ ih=>
  by_cases q:kd R=1;rw[uS q];simp;omega;rwa[xK q]
theorem abI{rs:List PR}{s:List gf}(h:lA s)(a:∀r∈rs,sB r)(k:rs.length<=24):jH (kN rs s)+rs.length<=2400000024:=by
 have c:=DK (M:=100000000) (kN rs s) λz b=>by unfold kN at b;obtain⟨p,d,rfl⟩:=cI.1 b;have e:=dZ.1 d;have f:=UC h a (gw (mB rs) p)<|Md _ Z;unfold zI;split;grind [Ï,ark];rename_i g;have j:rs.getD p rH∈rs:=eU (i:=p) (by simp[ċ,e]);exact arj (by rwa[FY])<|abC (a _ j) g
 rw[NC]at c;omega
def abJ{a:List PR}{s:List gf}(h:lA s)(b:∀r∈a,sB r):lA (zP a s):=UC h b _<|Md _<|eE _
def arn{s:List gf}(h:lA s):jH (kN (iR B).2.2 s)+(iR B).2.2.length<=140737488355328:=Ï (abI h JF.1 JF.2) A
def aro(a:ø)(w:Ë):Sem.events À (binOp BinOp.eql 26 (Ä<|Â a)<|Ä Ã) w #[]=#[]:=fK
theorem JK{l:fx}(a:iz l)(p:nB<=l.w.heap.size){f:Ŵ}{args:Array Î}{r:Î}(m:Dq f=Í)(s:∀v∈args.toList,fI (nJ (λ_=>False) À.globals.size) v v)(t:∀{Y v},fI Y r v->v=r)(x:∀w,Ò À f args w λe y=>e=È r/\y=w)(n:Bool)(c:Ċ)(i:List Ċ): fO.fF À n (λk o=>iX l k/\k.d=l.d/\o=G (c.finish r) i) l (G (â À f args ù)<|c::i):=by
 let⟨E,F,z,B⟩:=xR f m;have C:∀T,Ò À f args (World.tp (kV (λj=>False/\¬(oH l).O j) l.w) T 0) fun|È v,j=>v=r/\lb j|_,_=>False:=λT=>by refine(x _).mono ?_;grind [BH]
 refine((Dm yw IW xR (λv u T D h=>h) m z B (Fw a.r) a.q (λb q=>q.elim) ⟨λb q=>q.elim,p⟩ (λg q=>by cases q) (pW s) C n c i).oH a.r).fG ?_;rintro k o ⟨D,⟨Y,j,v,H,_,_,g,rfl,b,_,_,h⟩,rfl,u,_,_,_⟩;rw[t g]at b;exact⟨u,h,b⟩
section
variable{l:fx}
def arp{J:Jd}{s:List gf}(c:iz l)(d:oN l j n s v X)(g:fO.fF À Í J l (G (f.at (y.put ((Q[i]?).bind (·.dst))<|Ç Ê s.length)<|Õ Q jJ::L) qX)): fO.fF À Í J l (G (â À 22 #[Ä<|Â ⟨j,0,Ã⟩] ù)<|f.at y (Õ Q (i::jJ)::L)::qX):=by
 have hF:True:=trivial;obtain⟨a,b,rfl⟩:∃a b,v=Æ a s.length b:=by
  let⟨o,h,_,⟨a,k,b,e,_,m⟩,_⟩:=d.rd;have:k=s.length:=by rw[m.r,<-h];simp[lH]
  exact⟨a,b,by rw[e,this]⟩
 have m:s.length<=40:=by let⟨_,_,e,_⟩:=d.rd;exact e.C
 let⟨o,h,_⟩:=d.Y;have k:l.w.cell? ⟨j,1,Ã⟩=Â (Æ a s.length b):=by simp[Ú,h]
 rw[DY [_] 7 aV];simp only[è,ck,ec];conv in mo _ _=>whnf
 refine gY c.r.r ?_;repeat w_go fW
 refine ia ?_;refine rp k (É<|É d.fE) c.r.r c.q ?_;walk_nrm;refine gY c.r.r ?_;repeat w_go fW
 u_in fW hF
 refine aT (t:=2) U U aV U ⟨by u_nil,?_⟩;refine ia ?_;exact g
end
def arq{t:Tmp}(d:f.kind=ù)(e:y.defers=[])(g:P.funcs[f.fn]?=Â s)(c:s.results=#[.tmp t])(h:P.inits.idxOf? f.fn=Ã):stepG P Í (G {f.at y L with mode:=.returning} []) w=.ended (.done<|y.tmps.getD t bA) w:=by have i:=results_tmp c y.tmps P w;have j:=events_results_tmp (P:=P) (w:=w) c y.tmps;simp[G,stepG,unwind,doReturn,Frame.at,d,e,g,i,j,h,seen,GStep.after]
def ars{l:fx}(e:jB vQ l g)(a:iz l)(c:g.status=.running):ui vQ #[g] l.w Ã #[]:=e a c (λ_=>False) 0 _ _ _ _ Ã _ ⟨λx q=>q.elim,λ_ _ _ _ q=>q,eD _⟩ (aqJ (P:=À) (J:=λ_ _=>True) (T:=.fT) U a.d a.q a.rd a.I a.M a.k (λb q=>a.r.fM b<|É q) c λ_ _=>trivial) a.d U
def ND(W:Ë):fx:={O:=λb=>b<W.heap.size,I:=λ_=>False,r:=λ_=>False,N:=λ_=>False,K:=λ_=>False,d:=0,q:=False,w:=W}
def abK(W:Ë):iz (ND W):=⟨⟨λ_ _=>id,λ_ q=>q.elim,λ_ q=>q.elim (λz=>z.elim) λz=>z.elim,λ_ q=>q.elim id λz=>z.elim,λ_ q=>q.elim (λz=>z.elim) λz=>z.elim,λ_ q=>q.elim⟩,U,id,λ_=>id,λ_=>id,λ_=>id,λ_=>id⟩
structure pG(W w':Ë):Prop where
 uE:∀b,b<W.heap.size->w'.heap[b]?=W.heap[b]?
 Ay:W.heap.size<=w'.heap.size
def aru(g:ox W):∀b,b=1\/b=2\/b=3\/b=4->b<W.heap.size:=λb q=>by let⟨c,a,h,_⟩:=g.C;have:=(fp.1 h).1;omega
theorem arv(b a n:Nat):(⟨b,a,Ã⟩:ø).add n=⟨b,a+n,Ã⟩:=by unfold Addr.add;grind
theorem arw(h:w.cell? a=Â v):a.spot=Ã/\a.block<w.heap.size:=by unfold Ú at h;split at h;rename_i c t f e;constructor;simp_all;grind;cases h
open Go.Proofs.YtgpphkdoanciiaaGreatDoor (Rows.laid_math_bits_deBruijn32tab Rows.laid_math_bits_deBruijn64tab Rows.laid_internal_strconv_uint64pow10 Rows.laid_attic_attic_stepRules)
def NG:List (String×DataW Unit):=[("math/bits.deBruijn32tab",î),("math/bits.deBruijn64tab",ï),("internal/strconv.uint64pow10",ă),("attic/attic.stepRules",ô)]
theorem NH(h:W.ShapedOpen À)(g:Nat)(t:ð)(b:g<À.globals.size)(e:(((begin À (λ_ _=>0) default).world.heap[g]?).bind Obj.row?).map (·.2)=Â t): ∃a,W.heap[g]?=Â (Ô a t):=by let⟨⟨z,c⟩,d,f⟩:=Ø.1 e;let⟨a,i,_⟩:=h.1 g z c b d;grind
theorem abL{n:String}(b:À.globalNamed n=Â i)(h:W.heap[i]?=Â (Ô q t xJ))(a:W.var? À n=Â d):q=d:=by unfold Ķ at a;grind
def UD{n:String}{N:Nat}{k:Ε}{p:List MemPlace}(a:À.globalNamed n=Â i)(f:(À.globals[i]?).map (·.type)=Â t)(h:À.underlying t=Â (.array N e))(l:À.underlying e=Â (.int k))(m:À.cellsOf e=1)(o:À.cellsOf t=N)(r:W.heap[i]?=Â (Ô d t xJ))(s:À.globalNamed n=Â b)(u:(À.globals[b]?).map (·.type)=Â T)(v:W.var? À n=Â q)(w:ĉ (λ_=>()) À W 0 (λ_=>Í) Ó j T q.toList=Â (Ń k zQ,p)):d=(zQ.map λz=>Ç k z).toArray:=by obtain rfl:=dh<|a.symm.trans s;obtain rfl:=dh<|f.symm.trans u;rw[abL a r v,<-Lib.cells_of_tab h l m o w]
def arx:À.cellsOf 299=3:=fK
def abM:À.cellsOf 36=1:=fK
def arz:À.cellsOf 3=1:=fK
def arA:À.cellsOf 300=69:=fK
def arB{p:List MemPlace}(v:ĉ (λ_=>()) À W 0 (λ_=>Í) Ó n 300 l=Â (ô,p)): l.length=69/\∀(i:Nat)(r:Int×Int×Int),jx[i]?=Â r->l[i*3]?=Â (Ç Ð r.1)/\l[i*3+1]?=Â (Ç Ê r.2.1)/\l[i*3+2]?=Â (Ç Ê r.2.2):=by
 obtain⟨f,m,rfl,w,y,K,z⟩:=DataW.trod_array Tryz.underlying300 v;refine⟨y.trans arA,λi r o=> ?_⟩;have B:i<23:=by have:=(eP.1 o).1;exact this
 have g:=z i B;rw[arx]at g;have C:f.map (·.1)=jx.map λr=>(DataW.agg [.lit<|.int Ð r.1,.lit<|.int Ê r.2.1,.lit<|.int Ê r.2.2]:aW Unit):=by have:=congrArg Prod.fst w;simp only[ô,DataW.agg.injEq]at this;exact this.symm
 obtain⟨x,q⟩:∃x,f[i]?=Â x:=⟨_,fe Z⟩;rw[q]at g;have d:(f.map (·.1))[i]?=Â x.1:=by simp[q]
 rw[C]at d;simp only[dN,o,dT,dI]at d;obtain⟨e,h,rfl,j,L,D,k⟩:=DataW.trod_struct Tryz.underlying299 g;have a:=k 0 _ U;have b:=k 1 _ U;have c:=k 2 _ U;have a:ĉ _ À W 0 _ Ó h 36 (İ (À.cellsOf 36)<|ı 0<|İ 3<|ı (i*3) l)=e[0]?:=a;have b:ĉ _ À W 0 _ Ó h 3 (İ (À.cellsOf 3)<|ı 1<|İ 3<|ı (i*3) l)=e[1]?:=b;have c:ĉ _ À W 0 _ Ó h 3 (İ (À.cellsOf 3)<|ı 2<|İ 3<|ı (i*3) l)=e[2]?:=c;rw[abM]at a;rw[arz]at b c;match e,D,j,a,b,c with
 |[y0,y1,y2],_,j,a,b,c=>
  let⟨M,E,F,_⟩:=ń ý (show ĉ _ _ _ _ _ _ _ 36 _=Â y0 from a);let⟨N,G,H,_⟩:=ń õ (show ĉ _ _ _ _ _ _ _ 3 _=Â y1 from b);let⟨O,I,J,_⟩:=ń õ (show ĉ _ _ _ _ _ _ _ 3 _=Â y2 from c);subst F;subst H;subst J;rw[j]at d;simp only[dR,dG,DataW.agg.injEq,List.cons.injEq,DataW.lit.injEq,Lit.int.injEq,true_and,and_true]at d;obtain⟨rfl,rfl,rfl⟩:=d;have s:=congrArg (·[0]?) E;have t:=congrArg (·[0]?) G;have u:=congrArg (·[0]?) I;simp[List.getElem?_take,cB]at s t u;exact⟨s,t,u⟩
def abN(h:∀v∈d.toList,∃k n,v=Ç k n):gD (mJ X i) d d:=pW λv a=>by obtain⟨k,n,rfl⟩:=h v a;exact .iZ _ _
def arC{l:List (String×DataW Unit)}(h:Τ P l W)(a:(l.filter λx=>x.2.handleName?.isSome)=[]):∃b,DataW.LaidVars P W l b:=by rw[Τ,a]at h;exact⟨h.choose,h.choose_spec.1⟩
def arD:À.cellsOf 304=32:=fK
def arE:À.cellsOf 305=64:=fK
def arF:À.cellsOf 291=20:=fK
def abO:À.cellsOf 5=1:=fK
def gn1:À.globalNamed "internal/strconv.uint64pow10"=Â 1:=fK
def gn2:À.globalNamed "attic/attic.stepRules"=Â 2:=fK
def gn3:À.globalNamed "math/bits.deBruijn32tab"=Â 3:=fK
def gn4:À.globalNamed "math/bits.deBruijn64tab"=Â 4:=fK
def NI(g:Nat)(t:ð)(h:(g,t)∈[(1,291),(2,300),(3,304),(4,305)]):(À.globals[g]?).map (·.type)=Â t/\g<À.globals.size/\(((begin À (λ_ _=>0) default).world.heap[g]?).bind Obj.row?).map (·.2)=Â t:=by simp only[eK,dr,or_false,dJ]at h;obtain⟨rfl,rfl⟩|⟨rfl,rfl⟩|⟨rfl,rfl⟩|⟨rfl,rfl⟩:=h;exact⟨fK,of_decide_eq_true fK,fK⟩;exact⟨fK,of_decide_eq_true fK,fK⟩;exact⟨fK,of_decide_eq_true fK,fK⟩;exact⟨fK,of_decide_eq_true fK,fK⟩
def arG:aW Unit->Int|.lit (.int _ z)=>z|_=>0
def abP:aW Unit->List Int|.agg l=>l.map arG|_=>[]
def arH:(î:aW Unit)=Ń Ň (abP î):=rfl
def arI:(ï:aW Unit)=Ń Ň (abP ï):=rfl
def arJ:(ă:aW Unit)=Ń Ð Ŝ:=rfl
def arK{k:Ε}:∀v∈(zQ.map λz=>Ç k z).toArray.toList,∃k n,v=Ç k n:=λv a=>by simp only[cI]at a;obtain⟨z,_,rfl⟩:=a;exact⟨_,_,U⟩
def arL(k:Nat)(h:k<69):∃i j,i<23/\j<3/\k=i*3+j:=⟨k/3,k%3,Z,Z,Z⟩
theorem arM{W:Ë}(hs:W.ShapedOpen À)(hl:Τ À NG W):ox W:=by
 obtain⟨ps,g3,t3,cs3,f3,p3,q3,Uw,NJ,hv3,wx,⟨g4,t4,cs4,f4,p4,q4,hg4,ht4,hv4,Dv,⟨g1,t1,cs1,f1,p1,q1,ry,ht1,hv1,uR,⟨g2,t2,cs2,f2,p2,q2,My,vB,Jp,rv,_,_⟩,_⟩,_⟩,_⟩:=arC hl (by kernel_rfl);obtain⟨y1,s1,z1⟩:=NI 1 291 (by simp);obtain⟨y2,s2,z2⟩:=NI 2 300 (by simp);obtain⟨y3,s3,z3⟩:=NI 3 304 (by simp);obtain⟨y4,s4,z4⟩:=NI 4 305 (by simp);obtain⟨c1,b1⟩:=NH hs 1 291 s1 z1;obtain⟨c2,b2⟩:=NH hs 2 300 s2 z2;obtain⟨c3,b3⟩:=NH hs 3 304 s3 z3;obtain⟨c4,b4⟩:=NH hs 4 305 s4 z4;rw[arH]at wx;rw[arI]at Dv;rw[arJ]at uR;have e3:=UD gn3 y3 Tryz.underlying304 ď abO arD b3 Uw NJ hv3 wx;have e4:=UD gn4 y4 Tryz.underlying305 ď abO arE b4 hg4 ht4 hv4 Dv;have e1:=UD gn1 y1 Œ ý abM arF b1 ry ht1 hv1 uR;obtain rfl:=dh (gn2.symm.trans My);obtain rfl:=dh (y2.symm.trans vB);obtain⟨hlen,lC⟩:=arB rv;have e2:=abL gn2 b2 Jp;subst e2;have arN:=λi r hr=>by have:=lC i r hr;simpa using this
 have abQ:∀(k:Nat)(v:Î),c2[k]?=Â v->∃(kd:Ε)(n:Int),v=Ç kd n/\kd≠Ň:=λk v hv=>by
  have hk:k<69:=by grind
  obtain⟨i,j,hi,hj,rfl⟩:=arL k hk;obtain⟨r,hr⟩:∃r,jx[i]?=Â r:=⟨_,fe (show i<jx.length from hi)⟩;grind
 have jV:=(fp.1 b4).1;refine⟨?_,?_,⟨c3,_,b3,eD _,eD _,?_,?_⟩,⟨c4,_,b4,eD _,eD _,?_,?_⟩,?_,⟨⟨c2,_,b2⟩,λi r hr=> ?_⟩,?_⟩;have h5:nB=5:=by kernel_rfl
 omega;rintro b (rfl|rfl);refine⟨c1,291,_,b1,eD _,abN (by rw[e1];exact arK),by rw[e1];exact of_decide_eq_true (by kernel_rfl),λk v hv=> ?_,by decide,by decide⟩;rw[e1]at hv;simp only[eu,dN,Ø]at hv;obtain⟨z,_,rfl⟩:=hv;rfl;refine⟨c2,300,_,b2,eD _,abN λv hv=> ?_,?_,λk v hv=> ?_,by decide,by decide⟩;obtain⟨k,hk,e⟩:=List.mem_iff_getElem.1 hv;obtain⟨kd,n,e',_⟩:=abQ k v (by rw[<-e];simp);grind;grind;obtain⟨kd,n,rfl,hn⟩:=abQ k v hv;cases kd<;>first|rfl|exact absurd rfl hn
 rw[e3];exact of_decide_eq_true (by kernel_rfl);grind;rw[e4];exact of_decide_eq_true (by kernel_rfl);grind;unfold gT.pV Ī Ķ;rw[gn1];grind;obtain⟨h0,h1,h2⟩:=arN i r hr;exact⟨by simp only[Ú,b2];exact h0,by simp only[Ú,b2];exact h1,by simp only[Ú,b2];exact h2⟩;simp only[sw,Ú,b4,e4];rfl
open Go.Proofs.YtgpphkdoanciiaaGreatDoor (Rows.workersSpec Rows.workersRow Rows.WorkersSaid Tryz.pinned)
open ChangeShapes WideShapes ChangeAt
def fE:ownKnob À.godebug=Ã:=fK
def arO:laidOutB À=Í:=fK
def arP{w':Ë}(h:pG W w')(a:w'.os=W.os)(b:w'.output=W.output):Below W.heap.size W {w' with tape:=W.tape}:=⟨a,U,b,h.Ay,h.uE⟩
def arQ(os:Os)(a:Array Î):Τ À NG ((World.doorLaid À 400 os).forCall (λ_ _=>0) ⟨#[],a,[]⟩).memory:=laidMetH_of_parts3 (fuel:=8) (laidMet_of_run' 8 fK fK) fK fK
section
variable{J:Jd}{V:Nat->Prop}{l x:fx}
def JL(V:Nat->Prop)(l:fx):fx:={l with O:=V,I:=λb=>l.O b/\¬V b}
structure UE(V:Nat->Prop)(l l':fx):Prop where
 xP:l'.d=0->iz l'
 C:∀b,l.O b->l'.O b/\(¬V b->l'.w.heap[b]?=l.w.heap[b]?)
 r:l.w.heap.size<=l'.w.heap.size
def arR(c:iz l)(e:∀b,V b->l.O b):gS (JL V l):=⟨λ_ h q=>q.2 h,c.r.Y,λa d=>d.elim (λq=>(c.I a q).elim) λq=>(c.M a q).elim,λb f=>c.r.fM b (É (f.elim (e b) (·.1))),c.r.I,λa d=>(c.k a d).elim⟩
def abR(e:iz l)(h:∀b,x.I b->l.O b)(f:x.r=l.r)(g:x.N=l.N)(i:x.K=l.K)(r:gd (oa l x) w u):gd x w u:=⟨r.r,λj m=>r.I j (É<|m.elim É λq=>Ì<|h j q),λy d=>(by rw[fx.C,f,g]at d;exact d.elim (λq=>(e.I y q).elim) λq=>(e.M y q).elim),λy d=>(by rw[fx.C,f,g]at d;exact d.elim (λq=>(e.I y q).elim) λq=>(e.M y q).elim),λy d=>(by rw[i]at d;exact(e.k y d).elim)⟩
def arS(f:iz l)(g:∀b,x.I b->l.O b)(i:x.r=l.r)(j:x.N=l.N){e:Event}(h:xn x e):xn (oa l x) e:=by obtain⟨a,c,d⟩|h|h|h|h|⟨a,c,d⟩:=h;refine É ⟨a,c,É ?_⟩;obtain q|q|⟨q|q,z⟩:=d;exact É q;rw[i]at q;exact(f.I a q).elim;exact Ì<|g _ q;rw[j]at q;exact(f.M a q).elim;exact Ì<|É h;exact Ì<|Ì<|É h;exact Ì<|Ì<|Ì<|É h;exact Ì<|Ì<|Ì<|Ì<|É h;exact Ì<|Ì<|Ì<|Ì<|Ì ⟨a,É c,d⟩
def arT(c:iz l)(h:fO.fF P yQ J x g):(∀b,x.I b->l.O b/\¬V b)->(∀j,x.O j->V j\/l.w.heap.size<=j)->x.r=l.r->x.N=l.N->x.K=l.K->x.q=l.q->l.w.heap.size<=x.w.heap.size->(∀b,l.O b->¬V b->x.w.heap[b]?=l.w.heap[b]?)->kC x-> fO.fF P yQ (λd e=>∃a,J a e/\d=oa l a/\UE V l d/\∀b,a.I b->l.O b/\¬V b) (oa l x) g:=by
 induction h with
 |@fT x g h=>
  intro f u i n m v p B H;refine .fT λd r=>⟨{x with w:=d},h d (abR c (λb q=>(f b q).1) i n m r),U,⟨λC=> ?_,λb q=>⟨Ì q,λs=>(r.I b<|É<|Ì q).trans<|B b q s⟩,Ï p r.r⟩,f⟩;have e:∀b,x.O b\/l.O b->b<d.heap.size:=λb q=>ff (q.elim (H b) λz=>ff (c.r.fM b<|É z) p) r.r;exact⟨⟨λb _ q=>c.rd b q,λa q=>(c.I a q).elim,λa q=>q.elim (λz=>(c.I a z).elim) λz=>(c.M a z).elim,λb q=>q.elim (e b) λz=>(c.rd b z).elim,λa q=>q.elim (λz=>(c.I a z).elim) λz=>(c.M a z).elim,λa (q:x.K a)=>by rw[m]at q;exact(c.k a q).elim⟩,C,by show¬x.q;rw[v];exact c.q,c.rd,c.I,c.M,λa (q:x.K a)=>by rw[m]at q;exact c.k a q⟩|@kx x g G' W' E' L' jh h C _ ih=>
  intro f u i n m v p B H;refine .mk jh λd r=> ?_;have t:=abR c (λb q=>(f b q).1) i n m r;have D:=C d t;have E:∀y:ø,¬x.r y:=λy q=>by rw[i]at q;exact c.I y q
  have F:=Ï p t.r;refine⟨G' d,W' d,E' d,oa l<|L' d,h d t,⟨D.C,λj a=> ?_,λj a=> ?_,U,U,U,D.k,λj a o I=>D.lB j a (λq=>o<|É q) λy _=>E y,λy G o I=>D.S y G (λq=>o<|É q)<|E y,λy G o=>D.Y y G λq=>o<|É q,D.c,D.f,D.i,λe L=>arS c (λb q=>(f b<|by rwa[D.rd]at q).1) (D.r.trans i) (D.I.trans n)<|D.b e L,D.g,D.q,λM=> ?_,D.N⟩,ih d t (by rwa[D.rd]) (λj a=>(D.M j a).elim (u j) λq=>Ì<|Ï F q) (D.r.trans i) (D.I.trans n) (D.k.trans m) (D.q.trans v) (by rw[D.N];exact Ï F D.C) (λb q s=> ?_) λj a=>by rw[D.N];exact D.fM j a⟩;obtain q|q:=a;exact(D.M j q).imp É id;exact É<|Ì q;obtain q|q:=a;exact D.fM j q;exact ff (c.r.fM j<|É q)<|Ï F D.C;let⟨N,Q,S⟩:=D.h M;exact⟨N,Q,by funext j;show((L' d).O j\/l.O j)=(x.O j\/l.O j);rw[S]⟩;have N:=c.r.fM b<|É q;rw[D.N,D.lB b Z (λz=>(u b z).elim s λz=>by omega) λy _=>E y,r.I b<|É<|Ì q];exact B b q s
def arU(a:iz l)(c:∀b,V b->l.O b)(h:fO.fF P yQ J (JL V l) g):fO.fF P yQ (λj q=>∃e,J e q/\j=oa l e/\UE V l j/\∀b,e.I b->l.O b/\¬V b) l g:=by
 have:=arT a h (λ_ q=>q) (λ_ q=>É q) U U U U (eE _) (λ_ _ _=>U) λj q=>a.r.fM j<|É<|c j q;have e:oa l (JL V l)=l:=by
  have d:(λb=>V b\/l.O b)=l.O:=by funext b;exact propext ⟨λq=>q.elim (c b) id,Ì⟩
  unfold oa JL;simp only[d]
 rwa[e]at this
end
section
variable{V:Nat->Prop}{l:fx}{Post:Î->Ë->Prop}
theorem abS(e:iz l)(s:∀b,V b->l.O b)(y:zq V (λ_=>False) nB l.w)(t:Dq F=Í){k:Array Î}(m:gD (nJ V nB) k k)(z:xk Post)(B:∀T,Ò À F k (World.tp (kV (λ_=>False) l.w) T 0) fun|È v,a=>Post v a/\lb a|_,_=>False)(u:Bool)(o:Ċ)(p:List Ċ): fO.fF À u (λh x=>iz h/\UE V l h/\∃(Y:fL)(a:Ë)(v n:Î),(nJ V nB).r Y/\rO Y (λ_=>False) a h.w/\fI Y v n/\Post v a/\x=G (o.finish n) p/\∀i j,Y i j->h.O j/\(V j\/l.w.heap.size<=j)) l (G (â À F k ù)<|o::p):=by
 let⟨fn,c,C,D⟩:=xR F t;have r:(λj=>V j/\¬(JL V l).O j)=λ_=>False:=by funext j;exact propext ⟨λq=>q.2 q.1,ŗ⟩
 have W:=Dm (V:=V) yw IW xR z t C D (arR e s) e.q (λb q=>É q) (by rwa[r]) (λg q=>by cases q) m (by rwa[r]) u o p;rw[r]at W;refine(arU e s W).fG ?_;rintro h x ⟨x',⟨Y,a,v,n,g,E,H,I,J,K,_,L⟩,rfl,m,M⟩;refine⟨m.xP<|L.trans e.d,m,Y,a,v,n,g,E,H,I,J,λi j N=> ?_⟩;let⟨P,Q⟩:=K i j N;have S:V j\/l.w.heap.size<=j:=Q.elim É λq=>q.imp id id;refine⟨É (P.resolve_right λq=> ?_),S⟩;let⟨X,z2⟩:=M j q;have:=e.r.fM j<|É X;grind
def arV{Y:fL}{B:Nat}(h:fI Y v x):fI (nJ (λj=>∃i,Y i j) B) x x:=by
 induction h with|nA b=>exact .nA b|iZ k n=>exact .iZ k n|ly s=>exact .ly s|mN=>exact .mN|kn q=>exact fI.kn (Y:=nJ (λj=>∃i,Y i j) B) ⟨⟨U,_,q.1⟩,U,U⟩|oP n c=>exact .oP n c|kZ q n c=>exact fI.kZ (Y:=nJ (λj=>∃i,Y i j) B) ⟨⟨U,_,q.1⟩,U,U⟩ n c|uq=>exact .uq|fn f=>exact .fn f|uu=>exact .uu|uw=>exact .uw|uy=>exact .uy|xc t _ b=>exact .xc t b|pF f _ b=>exact .pF U λi c _=>b i Z c|nD f _ b=>exact .nD U λi c _=>b i Z c
def abT{Y:fL}(h:rO Y (λ_=>False) u w)(d:nB<=w.heap.size):zq (λj=>∃i,Y i j) (λ_=>False) nB w:=by
 refine⟨λb ⟨i,f⟩=> ?_,d⟩;let⟨c,j,e,s,g,t,l,a,_,m,n⟩:=h.r i b f;have o:=(a.r id).r;refine⟨j,e,g,l,by rwa[<-m id,<-o],pW λv p=> ?_,ŗ⟩;obtain⟨k,q,rfl⟩:=cJ p;have r:k<j.size:=fN q
 simpa using arV (B:=nB)<|(a.r id).C k Z r
end
end ju
namespace gT
open RowKit Lift
def UF(b:Bool)(w:Ë):Ò À 144 #[á b] w λe a=>e=È (Ç Ð<|uU b)/\a=w:=by
 cases b;all_goals
  go_enter Tryz.func144,Tryz.ntmps144;go_wp2;go_ret;exact⟨U,U⟩
def NK(i:Nat)(b:i<8)(w:Ë):Ò À 143 #[Ç Ê i] w λe a=>e=È (Å<|mr i)/\a=w:=by go_enter Tryz.func143,Tryz.ntmps143;go_wp2;go_ret;exact⟨U,U⟩
theorem UG(s t:ByteArray)(h:s.size+t.size<=10^15)(w:Ë):Ò À 142 #[Å s,Å t] w λe a=>e=È (Å<|if s=⟨#[]⟩then t else(s++⟨#[44]⟩)++t)/\a=w:=by
 by_cases e:s=⟨#[]⟩
 .subst e;go_enter ax,ι;go_wp2;go_ret;exact⟨U,U⟩
 rw[if_neg e];have b:(s.toList==[])=Ó:=by rw[ą];have:s.data.toList≠[]:=λq=>e<|bM<|ų.1 q;grind
 go_enter ax,ι;go_wp2;go_ret;exact⟨U,U⟩
theorem abU(s:ByteArray)(w:Ë):Ò À 90 #[Å s] w λe a=>e=È (Å<|if s=⟨#[]⟩then⟨#[45]⟩else s)/\a=w:=by
 by_cases e:s=⟨#[]⟩
 .subst e;go_enter aX,ay;go_wp2;go_ret;exact⟨U,U⟩
 rw[if_neg e];have b:(s.toList==[])=Ó:=by rw[ą];have:s.data.toList≠[]:=λq=>e<|bM<|ų.1 q;grind
 go_enter aX,ay;go_wp2;go_ret;exact⟨U,U⟩
def abV(n c:Nat)(a:n<18446744073709551616)(b:c<18446744073709551616)(w:Ë):Ò À 141 #[Ç Ð n,Ç Ð c] w λe d=>e=È (Ç Ð<|tb n c)/\d=w:=by
 go_enter Tryz.func141,Tryz.ntmps141;go_wp2;go_ret;refine⟨?_,U⟩;have f:Ð.wrap (((n^^^c:Nat):Int)*1099511628211)=((tb n c:Nat):Int):=by rw[ö];unfold tb;omega
 rw[bits_xor_u64_nat n c a b,f];rfl
def arW(m k:Nat)(a:k<8):m*256^k%18446744073709551616/72057594037927936=m/2^(8*(7-k))%256:=by
 obtain rfl|rfl|rfl|rfl|rfl|rfl|rfl|rfl:k=0\/k=1\/k=2\/k=3\/k=4\/k=5\/k=6\/k=7:=Z;all_goals simp
 all_goals omega
def JN(n m:Nat)(o:n<18446744073709551616)(s:m<18446744073709551616)(w:Ë):Ò À 139 #[Ç Ð n,Ç Ð m] w λe p=>e=È (Ç Ð<|oK n m)/\p=w:=by
 go_enter Tryz.func139,Tryz.ntmps139;go_wp2;go_loop [0,1,5] (λa b i=>∃h k:Nat,k<=8/\h<18446744073709551616/\tn m h (8-k)=oK n m/\i=Ç Ê k/\a=Ç Ð h/\b=Ç Ð ((m*256^k%18446744073709551616:Nat):Int)) λ_ _ i=>8-(Þ i).toNat
 case atStart=>exact⟨n,0,Z,o,U,U,U,by simp;omega⟩
 case round=>
  obtain⟨h,k,t,q,c,rfl,rfl,rfl⟩:=hrel;by_cases g:k<8
  .have j:=arW m k g;have l:m*256^k%18446744073709551616*256%18446744073709551616=m*256^(k+1)%18446744073709551616:=by rw[bL,<-Nat.mul_assoc,Nat.mod_mul_mod]
   have u:m*256^k%18446744073709551616<18446744073709551616:=bq _ A;have d:tn m (tb h<|m/2^(8*(7-k))%256) (8-(k+1))=oK n m:=by rw[<-c,show 8-k=(8-(k+1))+1 by omega,tn,show 8-(k+1)=7-k by omega]
   rw[<-j]at d;generalize m*256^k%18446744073709551616=B at*;have T:=abV h (B/72057594037927936) q Z w;have f:=fv<|Á d<|Á T l;clear d T l j c;have r:((B/72057594037927936:Nat):Int)=(B:Int)/72057594037927936:=fD;go_wp2_with (go_at_call 141;rw[<-r];refine iT f.2.1 ?_);go_round
   case rel=>exact⟨_,k+1,g,Jg _ _,f.1,by go_num,U,by rw[<-f.oQ.2.2];go_num⟩
   case measure=>simp[Þ];omega
  .obtain rfl:k=8:=Z;have e:h=oK n m:=c;go_wp2;go_ret;exact⟨U,U⟩
def zk(d:Nat):ByteArray:=þ ⟨#[48,49,50,51,52,53,54,55,56,57]⟩ d<|d+1
def rds:(é 10).map zk=(é 10).map λd=>⟨#[UInt8.ofNat<|48+d]⟩:=fK
theorem JO(h:i<10):zk i=⟨#[UInt8.ofNat<|48+i]⟩:=by have:=congrArg (λl=>l[i]?) rds;simpa[h]using this
theorem UH(h:i<10):gP i=zk i:=by unfold gP;grind [Lib.decDigits_one,JO]
def abW(h:¬n<10):gP n=gP (n/10)++zk (n%10):=by rw[JO Z];unfold gP;rw[đ,dif_neg h];apply bM;simp_all
theorem UI(h:i<m)(a:m<=16)(b:B.size<=20):Ê.wrap ((i:Int)+1)=(i:Int)+1/\Ê.wrap (i:Int)=i/\(0:Int)<=(i:Int)+1/\(i:Int)+1<=m/\(i:Int)<=(i:Int)+1/\((i:Int)+1).toNat=i+1/\¬9223372036854775807<min (i+1) m-i+B.size:=by grind [í]
def yi(n:Nat)(h:n<18446744073709551616)(w:Ë):Ò À 85 #[Ç Ð n] w λe j=>e=È (Å<|gP n)/\j=w:=by
 have l:=pw n h;generalize m:gP n=r at*;go_enter Tryz.func85,Tryz.ntmps85;go_wp2;go_loop [0,3] (λa b=>∃(k:Nat)(s:ByteArray),k<18446744073709551616/\gP k++s=r/\a=Ç Ð k/\b=Å s) λa _=>(Þ a).toNat
 case atStart=>exact⟨n,⟨#[]⟩,h,by rw[m];exact az,U,U⟩
 case round=>
  obtain⟨k,s,p,c,rfl,rfl⟩:=hrel;have i:s.size<=20:=by rw[<-c,Ö]at l;omega
  by_cases f:k<10
  .rw[UH f]at c;let⟨_,_,_,_,_,_,_⟩:=UI f A i;have g:=fv c;clear c;go_wp2;go_ret;exact⟨by rw[<-g.oQ];rfl,U⟩
  .have t:(k:Int).tmod 10=((k%10:Nat):Int):=by rw[eX Z];omega
   have u:(k:Int).tdiv 10=((k/10:Nat):Int):=by rw[dM Z];omega
   rw[abW f,aA]at c;have o:k%10<10:=Z;have v:k/10<k:=Z;have g:=fv c;clear c;generalize k%10=d at*;generalize k/10=q at*;let⟨_,_,_,_,_,_,_⟩:=UI o A i;go_wp2;go_round
   case rel=>exact⟨q,_,Z,g,U,U⟩
   case measure=>simp[Þ];omega
def NL:∀n:Nat,n<100->gP n=pg n:=λn h=>by unfold pg;split;rw[UH ‹_›,JO ‹_›];rw[abW ‹_›,UH Z,JO Z,JO Z];rfl
def JP(i:Nat)(h:i<10)(w:Ë):Ò À 83 #[Ç Ê i] w λe a=>e=È (Å<|pI i)/\a=w:=by
 have b:(pg i).size=1:=by rw[pg,if_pos h];rfl
 have C:=yi i Z w;rw[NL i Z]at C;go_enter Tryz.func83,Tryz.ntmps83;go_wp2_with (go_at_call 85;refine iT C ?_);go_ret;exact⟨U,U⟩
def yj:Nat->Nat->List UInt8->List UInt8|0,_,acc=>acc|k+1,n,acc=>yj k (n/16)<|qK (n%16)::acc
def abX:∀(k:Nat)(a:List UInt8),yj k 0 a=è k 48++a|0,_=>rfl|k+1,a=>by rw[yj,abX k,Ŀ];simp[show qK 0=48 by rfl]
def abY:∀(k n:Nat)(a:List UInt8),n<16^k->0<k->yj k n a=è (k+a.length-(sX k n a).length) 48++sX k n a/\(sX k n a).length<=k+a.length
 |k+1,n,a,h,_=>by
  rw[yj];unfold sX;split;rename_i f;rw[show n/16=0 by omega,show n%16=n by omega,abX];simp;omega;have b:n/16<16^k:=by rw[bL]at h;omega
  have c:0<k:=by obtain rfl|q:=dV k;simp at b;omega;exact q
  let⟨d,e⟩:=abY k (n/16) (qK (n%16)::a) b c;rw[d];simp only[eH]at e|-;exact⟨by rw[show k+(a.length+1)=k+1+a.length by omega],Z⟩
theorem arX(h:k<=16):(yc k).data.toList=è k 48:=by rw[yc,cC,cP,dE];show((è 64 48).drop 0).take (k-0)=_;grind
def arY(h:n<18446744073709551616):DL n=⟨(yj 16 n []).toArray⟩:=by
 let⟨a,c⟩:=abY 16 n [] h A;have b:(nX n).size=(sX 16 n []).length:=by unfold nX;exact eN
 unfold DL;refine bM<|Ο ?_;rw[cj,cL,arX Z,b,a];simp[nX]
def arZ:(é 16).map vd=(é 16).map λd=>⟨#[qK d]⟩:=fK
def UJ(h:i<16):vd i=⟨#[qK i]⟩:=by have:=congrArg (λl=>l[i]?) arZ;simpa[h]using this
def ar0(n:Nat)(j:n<18446744073709551616)(w:Ë):Ò À 88 #[Ç Ð n] w λe o=>e=È (Å<|DL n)/\o=w:=by
 rw[arY j];generalize p:yj 16 n []=r;go_enter Tryz.func88,Tryz.ntmps88;go_wp2;go_loop [0,3,4] (λa b c=>∃(k i:Nat)(s:ByteArray),k<18446744073709551616/\i<=16/\s.size=i/\yj (16-i) k s.data.toList=r/\a=Ç Ð k/\b=Å s/\c=Ç Ê i) λ_ _ c=>16-(Þ c).toNat
 case atStart=>exact⟨n,0,⟨#[]⟩,j,Z,U,p,U,U,U⟩
 case round=>
  obtain⟨k,i,s,x,y,l,f,rfl,rfl,rfl⟩:=hrel;by_cases t:i<16
  .have z:(k:Int).tmod 16=((k%16:Nat):Int):=by rw[eX Z];omega
   have B:(k:Int).tdiv 16=((k/16:Nat):Int):=by rw[dM Z];omega
   rw[show 16-i=(16-(i+1))+1 by omega,yj]at f;have h:k%16<16:=Z;have u:k/16<18446744073709551616:=Z;have e:(vd (k%16)++s).data.toList=qK (k%16)::s.data.toList:=by rw[UJ h,cj,cL];rfl
   have m:(vd (k%16)++s).size=i+1:=by rw[Ö,UJ h,l];show 1+i=i+1;omega
   rw[<-e]at f;have v:s.size<=20:=Z;have g:=fv<|Á f m;clear f e m l;generalize k%16=d at*;generalize k/16=q at*;let⟨_,_,_,_,_,_,_⟩:=UI h A v;go_wp2;go_round
   case rel=>exact⟨q,i+1,_,u,t,g.2,g.1,U,U,by go_num⟩
   case measure=>simp[Þ];omega
  .have:s=⟨r.toArray⟩:=by
    rw[show 16-i=0 by omega,yj]at f;rw[<-f]
   have g:=fv this;clear this f;go_wp2;go_ret;exact⟨by rw[g.oQ];rfl,U⟩
def me(s:St)(i:Nat):Î:=if i<8 then jW (s i).fC else if i<16 then Å (s<|i-8).C else jW ((s<|(i-16)/16).r<|(i-16)%16)
def gI(s:St):List Î:=(é 144).map<|me s
def iL(s:St):(gI s).length=144:=by simp[gI]
def vm(s:St)(h:i<144):(gI s)[i]?=Â (me s i):=by simp[gI,dW h]
def vn(c:RC)(g:Int)(a e:Î)(b:Bool):List Î:=[a,kt c.x,kt c.y,jW c.k,kt c.d,e,kt g,á b]
def ie(T:ð)(v:Î)(n:Nat)(c:List Î)(w:Ë):Prop:=∃p a,v=Æ p n a/\n<=a/\∀j x,c[j]?=Â x->∃b o,p=Â ⟨b,o,Ã⟩/\(∃d e,w.heap[b]?=Â (Ô d T e))/\w.cell? ⟨b,o+j,Ã⟩=Â x
def ie.I(h:ie T v n l w)(k:fw X w u)(i:∀b a c,X b->w.heap[b]?≠Â (Ô a T c)):ie T v n l u:=by let⟨p,cp,e,q,r⟩:=h;refine⟨p,cp,e,q,λj x m=> ?_⟩;let⟨b,o,s,⟨a,c,d⟩,f⟩:=r j x m;have g:¬X b:=λz=>i b a c z d;exact⟨b,o,s,⟨a,c,by rwa[k.N b (ĭ w _ f) g]⟩,k.r f g⟩
def ie.fH{w':Ë}(h:ie T v n l w)(k:fw fB w w'):ie T v n l w':=h.I k λ_ _ _=>ŗ
def ie.r{T T2:TypeId}{n fb:Nat}{v:Value}{cells vs:List Value}{w w':World}(h:ie T v n cells w)(k:fw (λk=>k=fb) w w')(hB:fy fb vs T2 w)(ht:T≠T2:=by decide):ie T v n cells w':=h.I k λb cs fz e q=>by subst e;rw[hB]at q;cases q;exact ht U
def ie.C(T:ð)(w:Ë):ie T (Æ Ã 0 0) 0 [] w:=⟨Ã,0,U,eE _,λ_ _ h=>by cases h⟩
structure MK(w0:Ë)(T:ð)(z:Nat)(v:Î)(n:Nat)(xs:List Î)(w:Ë):Prop where
 fE:w.ownsRow w0.heap.size T z v n xs
 r:fw fB w0 w
section
variable{w0:Ë}{z:Nat}{xs:List Î}
def MK.C{T:ð}{z:Nat}(w0:Ë):MK w0 T z (Æ Ã 0 0) 0 [] w0:=⟨ħ _ _ _ _,fw.gy _ _⟩
def MK.fH(h:MK w0 T z v n xs w)(k:fw fB w u):MK w0 T z v n xs u:=⟨gZ h.fE k λ_ _=>id,h.r.fA k⟩
def MK.Cl(h:MK w0 T z v n xs w)(a:nT w w0.heap.size T z v n xs m l x u):MK w0 T z x (n+m) (xs++l) u:=⟨a.fE,h.r.C a.r λi b q=>by have:=(h.fE.lt i q).1;omega⟩
def MK.I(h:MK w0 T z v n xs w):ie T v n xs w:=by obtain⟨a,cp,rfl⟩:=ji h.fE;obtain⟨b,c⟩|⟨g,i,k,b,c,d,e,_⟩:=h.fE.2;cases b;have:=h.fE.1;rw[bR]at this;rw[Ù this];exact ie.C _ _;cases b;refine⟨_,_,U,e,λj x f=>⟨g,0,U,⟨_,_,d⟩,?_⟩⟩;have:=h.fE.cells (g:=g) U j x f;rwa[Addr.add_mid]at this
def D4{k:Array Ř}{bytes:Nat}{x:ĸ}{ad:ø}(p:(À.info? T).map iF=Â (Â jQ,z,bytes))(q:À.underlying t=Â (.slice T))(f:MK w0 T z v n xs w)(r:n<1000000)(g:(mq T||decide (10000<bytes))=Ó)(h:∀b d e,MK w0 T z (Æ b (n+1) d) (n+1) (xs++l) e->Ι À k vJ fX (y.put o.dst<|Æ b (n+1) d) e)(B:∀j u,l[j]?=Â u->w.cell? (ad.add j)=Â u)(C:∀u∈l,u.oneCell'=Í)(D:o.guard=Ã)(E:o.op=.call {callee:=.builtin Ŷ,args:=#[qQ,x],argTypes:=#[t,t]})(F:jQ.cells.size=z)(G:y.eval qQ=v)(H:y.eval x=Æ (Â ad) 1 i)(M:l.length=z):Ι À k vJ (o::fX) y w:=by let⟨N,I,J,K,L⟩:=Ĉ p;simp only[cU,decide_eq_false_iff_not]at g;refine xS D qQ x t E q I J K L F G f.fE ad l H aI Z B C (by unfold ó;omega) (Ï (Ģ (show n+1<=1000000 from r)<|Nat.not_lt.1 g.2) A) f.r.M (λO e m=> ?_)<|É g.1;obtain⟨b,d,rfl⟩:=ji m.fE;exact h b d e<|f.Cl m
end
structure FR(fb:Nat)(c:RC)(lv sv:Î)(t:RT)(b:Bool)(w:Ë):Prop where
 r:fy fb (gI t.s++vn c t.g lv sv b) 264 w
 I:ie 36 sv t.r.length (lE t.r) w
 C:ie 236 lv t.C.length (jf t.C) w
def FO(a:Nat)(c:RC)(t:RT)(b:Bool)(w d:Ë):Prop:=(∃k e,FR a c k e t b d)/\fw (λk=>k=a) w d
section
variable{fb:Nat}{c:RC}{lv sv:Î}{t:RT}{b:Bool}{w':Ë}
def FR.at(h:FR fb c lv sv t b w)(j:Nat)(e:(vn c t.g lv sv b)[j]?=Â v):w.cell? ⟨fb,144+j,Ã⟩=Â v:=h.r.r _ _<|by rw[eT (by rw[iL];omega),iL,dD];exact e
def FR.fH(h:FR fb c lv sv t b w)(k:fw fB w u):FR fb c lv sv t b u:=⟨h.r.C k id,h.I.fH k,h.C.fH k⟩
def FR.fR(h:FR fb c lv sv t b w)(j:Nat)(v:Î)(a:RT)(k:fw fB w u)(i:ie 36 z a.r.length (lE a.r) u)(l:ie 236 x a.C.length (jf a.C) u)(m:a.s=t.s)(e:(vn c t.g lv sv b).set j v=vn c a.g x z yQ):FO fb c a yQ w (u.setCell ⟨fb,144+j,Ã⟩ v):=by have d:=(h.fH k).r;have f:=fw.I (X:=λk=>k=fb) (p:=⟨fb,144+j,Ã⟩) U v<|Ì d.S;refine⟨⟨x,z,?_,i.r f d,l.r f d⟩,(k.fG λ_ _=>ŗ).fA f⟩;have:=d.fR (144+j) v;rw[eF _ _ (by rw[iL];omega),iL,dD,e]at this;rw[m];exact this
def ar1(h:FR fb c lv sv t b w)(m:t.r.length<=32): Ò À 165 #[Ä<|Â ⟨fb,0,Ã⟩] w λe w'=>e=È (Ç Ð<|fV t.r)/\FO fb c {t with r:=fU t.r} (b||t.r.isEmpty) w w':=by
 let⟨o,s,k,g⟩:=t;obtain⟨p,cp,rfl,l,d⟩:=h.I;have q:=h.at 5 U;have D:=h.at 7 U;have E:=h.r.I 149;have F:=h.r.I 151;have H:=fv h;obtain rfl|⟨e,x,rfl⟩:=List.eq_nil_or_concat o
 .go_enter aB,κ;go_wp2;go_ret;refine⟨U,?_⟩;exact H.fR 7 (á Í) ⟨[],s,k,g⟩ (fw.gy _ _) H.I H.C U U
 .rw[List.concat_eq_append]at*;have r:(e++[x]).length=e.length+1:=fD;have u:(e++[x]).isEmpty=Ó:=fD;obtain⟨v,z,rfl,G,B⟩:=d e.length (jW x) (by simp[lE]);have a:ie 36 (Æ (Â ⟨v,z,Ã⟩) e.length cp) e.length (lE e) w:=⟨_,_,U,by simp at l;omega,λj y f=>d j y (by have:j<(lE e).length:=(eP.1 f).1;simp only[lE,bW]at f|-;rwa[eR (by simpa[lE]using this)])⟩;simp only[r,u,bO,fV,fU,List.getLastD_concat,List.dropLast_concat]at*;obtain⟨n,i⟩:∃n,e.length=n:=⟨_,U⟩;rw[i]at q B l m;have C:=fv<|Á a i;clear d h a i;go_enter aB,κ;go_wp2;go_quiet (fail);go_wp2;go_region;go_wp2;go_ret;obtain⟨a,rfl⟩:=C.oQ;exact⟨U,H.fR 5 _ ⟨e,s,k,g⟩ (fw.iP _ _ _) (a.fH<|fw.iP _ _ _) (H.C.fH<|fw.iP _ _ _) U U⟩
def abZ(h:FR fb c lv sv t b w)(I:t.r.length<=32)(x:Int): Ò À 183 #[Ä<|Â ⟨fb,0,Ã⟩,Ç Ð x] w λe w'=>e=È (Ý #[])/\FO fb c {t with r:=if t.r.length=32 then t.r else t.r++[x]} (b||t.r.length==32) w w':=by
 let⟨a,s,B,g⟩:=t;obtain⟨p,cp,rfl,J,l⟩:=h.I;have k:=h.at 5 U;have N:=h.at 7 U;have O:=h.r.I 149;have P:=h.r.I 151;have H:=fv h;simp only at*;by_cases e:a.length=32
 .rw[e]at k;simp only[e,if_true,beq_self_eq_true,Bool.or_true];go_enter aC,ν;go_wp2;apply ì (ai U _ _ _) U;exact⟨U,H.fR 7 (á Í) ⟨a,s,B,g⟩ (fw.gy _ _) H.I H.C U U⟩
 .simp only[e,if_false,beq_eq_false_iff_ne.2 e,bO];obtain⟨n,m⟩:∃n,a.length=n:=⟨_,U⟩;rw[m]at k e I J;have Q:((n:Int)==32)=Ó:=by simp;omega
  have o:=fv<|Á l m;clear l h m;go_enter aC,ν;go_wp2;go_loopw [4,5] (λv i wr=>∃j:Nat,j<=n/\MK w 36 1 v j ((lE a).take j) wr/\i=Ç Ê j) λ_ i _=>n-(Þ i).toNat
  case atStart=>exact⟨0,eD _,MK.C w,U⟩
  case round=>
   obtain⟨j,S,d,rfl⟩:=hrel;have T:=d.r.r k id;obtain⟨C,D,rfl⟩:=ji d.fE;have q:=fv d;clear d;by_cases K:j=n
   .subst K;go_wp2_with (at_builtin;refine D4 FD ú (q.fH kp) Z U ?_ (ã _ _ _) (by simp[Ă]) U U U U U U;intro C D u f;have V:=f.r.r k id;have W:=(H.fH f.r).r.I 149;have r:=fv f;clear f);go_end0;have d:=r.oQ;obtain⟨l,rfl⟩:=o.oQ;rw[show(lE a).take a.length++[Ç Ð x]=lE (a++[x]) by rw[eG (by simp[lE])];simp[lE,jW]]at d;exact⟨U,H.fR 5 _ ⟨a++[x],s,B,g⟩ d.r (fN d.I) (H.C.fH d.r) U U⟩
   .obtain⟨y,E⟩:∃y,a[j]?=Â y:=⟨_,fe<|by rw[o.oQ.2];omega⟩;have z:(lE a)[j]?=Â (Ç Ð y):=by rw[lE,dN,E];rfl
    obtain⟨X,Y,rfl,mP,F⟩:=o.1 j _ z;have G:(lE a).take (j+1)=(lE a).take j++[Ç Ð y]:=by rw[cD,z];rfl
    have Cf:=q.r.r F id;have L:=fv G;clear G z E F;have M:j<n:=Z;go_wp2_with (at_builtin;refine D4 FD ú (q.fH kp) Z U ?_ (ã _ _ _) (by simp[Ă]) U U U U U U;intro C D u f;have r:=fv f;clear f);go_roundw
    case rel=>exact⟨j+1,M,by rw[L.oQ];exact r,by go_num⟩
    case measure=>
     simp[Þ];omega
end
open ju
def NM(s t:ByteArray):ByteArray:=if s=⟨#[]⟩then t else(s++⟨#[44]⟩)++t
def jU(xs:List ByteArray):ByteArray:=lG ⟨#[44]⟩ xs
def ab0{r:List ByteArray}(h:0<B.size):jU (B::r)≠⟨#[]⟩:=λe=>by
 have:=congrArg ľ e;have a:(jU<|B::r).size=B.size+(nt ⟨#[44]⟩ r).length:=by show((B.data.toList++nt _ r).toArray).size=_;simp only[eN,Ñ,dU];rfl
 rw[a]at this;have:B.size+(nt ⟨#[44]⟩ r).length=0:=this;omega
def UK(h:∀x∈vX,0<x.size)(y:ByteArray):NM (jU vX) y=jU (vX++[y]):=by
 unfold NM;cases vX with
 |nil=>rw[if_pos (show jU []=⟨#[]⟩from U)];exact bM<|by simp[jU,lG,BE,nt]|cons x r=>
  rw[if_neg<|ab0<|h x fD];refine bM<|Ο ?_;simp[jU,lG,BE,nt,cj]
def ab1(h:∀x∈vX,0<x.size):(if jU vX=⟨#[]⟩then⟨#[45]⟩else jU vX)=wM vX:=by
 unfold wM;cases vX with|nil=>rfl|cons x r=>rw[if_neg<|ab0<|h x fD,if_neg fD];rfl
def NN{xs:List ByteArray}{M:Nat}(a:∀z∈xs,z.size<=M)(b:M<=100)(c:xs.length<=400000):(jU xs).size<=100000000:=by have d:=Nj ⟨#[44]⟩ U xs;have e:=DK xs a;have:M*xs.length<=100*400000:=Ģ b c;unfold jU;omega
def Gc(h:i<8):(mr i).size=1:=by rw[mr,ä];show min (i+1) 8-i=1;omega
def ab2{e:Nat×Int}(h:e.1<8):0<(kL e).size:=by rw[kL,Ö,Gc h];omega
def ab3{cp:Nat}(h:ie 236 (Æ O n cp) gJ.length (jf gJ) w)(K:gJ.length<=400000)(g:x7 gJ):Ò À 91 #[Æ O n cp] w λe L=>e=È (Å<|jU<|gJ.map kL)/\∃m,L=w.drewN m:=by
 let⟨_,_,e,_,o⟩:=h;cases e;have r:∀j,∀z∈(gJ.take j).map kL,z.size<=21/\0<z.size:=λj z P=>by obtain⟨e,Q,rfl⟩:=cI.1 P;have:=g e<|cT Q;exact⟨FX this.2,ab2 this.1⟩
 have b:=fv<|Á o<|Á r g;obtain⟨N,k⟩:∃N,gJ.length=N:=⟨_,U⟩;have t:=fv k;clear o r g;rw[k]at K|-;clear k;go_enter Tryz.func91,Tryz.ntmps91;go_wp2;go_loopw [3,4] (λs i wr=>∃j m:Nat,j<=N/\i=Ç Ê j/\s=Å (jU<|(gJ.take j).map kL)/\wr=w.drewN m) λ_ i _=>N-(Þ i).toNat
 case atStart=>exact⟨0,0,eD _,U,U,U⟩
 case round=>
  obtain⟨j,m,W,rfl,rfl,c⟩:=hrel;by_cases S:j<N
  .obtain⟨⟨y,z⟩,d⟩:∃y,gJ[j]?=Â y:=⟨_,fe<|by rw[t.oQ];omega⟩;let⟨l,f⟩:=b.2.2 _<|eU d;simp only at l f;obtain⟨a,rfl⟩:∃a:Nat,z=a:=⟨z.toNat,by have:=f.1;omega⟩;let⟨g0,u⟩:=BD (λO:Nat×Int=>Ç Ê O.1) (λO=>Ç Ð O.2) gJ j _ d;obtain⟨v,B,rfl,_,C⟩:=b.1 (j*2) _ g0;let⟨X,Y,T,_,D⟩:=b.1 (j*2+1) _ u;cases T;have E:(gJ.take<|j+1).map kL=(gJ.take j).map kL++[mr y++gP a]:=by rw[cD,d];simp[kL]
   have F:NM (jU<|(gJ.take j).map kL) (mr y++gP a)=jU ((gJ.take<|j+1).map kL):=by rw[E];exact UK (λx q=>(b.2.1 j x q).2) _
   have G:=NN (M:=21) (λx q=>(b.2.1 j x q).1) Z (by simp;omega);have H:=pw a (by have:=f.2;omega);have I:=Gc l;have J:=fv<|Á F<|Á G<|Á H I;have k1:¬9223372036854775807<(mr y).size+(gP a).size:=Z;clear E F d g0 u G H I;have c0:wr.cell? ⟨v,B+j*2,Ã⟩=Â (Ç Ê y):=by rwa[c]
   have c1:wr.cell? ⟨v,B+j*2+1,Ã⟩=Â (Ç Ð a):=by rwa[c]
   have V:=fv c;clear C D c;generalize jU ((gJ.take j).map kL)=s at*;go_wp2;go_quiet ((first|(go_at_call 143;exact ë<|NK _ l _)|(go_at_call 85;exact ë<|yi _ (by have:=f.2;omega) _)|(go_at_call 142;exact ë (UG _ _ (by rw[Ö];have:=J.2;omega) _))))
   go_wp2;go_roundw
   case rel=>exact⟨j+1,m+_,S,by go_num,by rw[<-J.oQ.1];rfl,by rw[V.oQ,ò]⟩
   case measure=>simp[Þ];omega
  .obtain rfl:j=N:=Z;rw[(eG<|by rw[t.oQ];omega)];go_wp2;go_ret;exact⟨U,m,U⟩
def zR(v:gf)(a b c:Î):List Î:=gI v.s++[Ç Ê v.h,a,b,c]
def pY(v:gf)(a b c:Î):(zR v a b c).length=148:=by simp[zR,iL]
def tf{v:gf}{a:Î}(j:Nat)(h:[Ç Ê v.h,z,jQ,a][j]?=Â x):(zR v z jQ a)[144+j]?=Â x:=by rw[zR,eT (by rw[iL];omega),iL,dD];exact h
def wV(us:List (Int×Bool)):List Î:=us.map λe=>Ç Ê e.1
def wW(us:List (Int×Bool)):List Î:=us.map λe=>á e.2
def ar2{v:gf}{F G:Î}(l:ie 3 G v.r.length (wV v.r) w)(a:ie 4 F v.r.length (wW v.r) w)(hn:v.r.length<=1000)(r:BA v.r):Ò À 92 #[ŭ (zR v jQ F G).toArray] w λe w'=>e=È (Å<|wM<|v.r.map mZ)/\fw fB w w':=by
 obtain⟨n,o,rfl,_,l⟩:=l;obtain⟨p,wc,rfl,_,a⟩:=a;have t:=fy.N w (zR v jQ (Æ p v.r.length wc)<|Æ n v.r.length o) 126;have u:=t.r 146 _<|tf 2 U;have B:=t.r 147 _<|tf 3 U;have H:=fw.gO fB w (zR v jQ (Æ p v.r.length wc)<|Æ n v.r.length o).toArray 126;have I:∀j,∀z∈(v.r.take j).map mZ,z.size<=41/\0<z.size:=λj z hz=>by obtain⟨e,he,rfl⟩:=cI.1 hz;have:=r e<|cT he;exact⟨TS this.1 this.2,by simp only[mZ,Ö];show 0<_+1+_;omega⟩
 have d:=fv<|Á l<|Á a<|Á I<|Á r H;clear l a I r H t;generalize(zR v jQ (Æ p v.r.length wc)<|Æ n v.r.length o)=cs at*;generalize v.r=us at*;obtain⟨N,D⟩:∃N,us.length=N:=⟨_,U⟩;have J:=fv D;rw[D]at hn u B;clear D;go_enter Tryz.func92,Tryz.ntmps92;go_wp2_with (with_reducible refine à U (Â 1) U _ _ (oJ U U) ?_);generalize w.alloc (Ô cs.toArray 126)=wa at*;generalize w.heap.size=vb at*;go_loopw [3,4] (λs i wr=>∃j m:Nat,j<=N/\i=Ç Ê j/\s=Å (jU<|(us.take j).map mZ)/\wr=wa.drewN m) λ_ i _=>N-(Þ i).toNat
 case atStart=>exact⟨0,0,eD _,U,U,U⟩
 case round=>
  obtain⟨j,m,hj,rfl,rfl,a⟩:=hrel;have d2:wr.cell? ⟨vb,146,Ã⟩=Â (Æ p N wc):=by rwa[a]
  have d3:wr.cell? ⟨vb,147,Ã⟩=Â (Æ n N o):=by rwa[a]
  have E:=fv (show fw fB w wr by rw[a];exact d.2.2.2.2.fA<|fw.iP _ _ _);have HX:=fv a;clear u B a;by_cases iu:j<N
  .obtain⟨⟨g,b⟩,k⟩:∃y,us[j]?=Â y:=⟨_,fe<|by rw[J.oQ];omega⟩;let⟨o1,o2⟩:=d.2.2.2.1 _<|eU k;simp only at o1 o2;obtain⟨c,rfl⟩:∃c:Nat,g=c:=⟨g.toNat,Z⟩;obtain⟨sb,so,rfl,_,K⟩:=d.1 j (Ç Ê c) (by simp[wV,k]);obtain⟨vb2,vo2,rfl,_,L⟩:=d.2.1 j (á b) (by simp[wW,k]);have f:(us.take<|j+1).map mZ=(us.take j).map mZ++[(gP b.toNat++⟨#[58]⟩)++gP c]:=by rw[cD,k];simp[mZ]
   have O:NM (jU<|(us.take j).map mZ) ((gP b.toNat++⟨#[58]⟩)++gP c)=jU ((us.take<|j+1).map mZ):=by rw[f];exact UK (λx q=>(d.2.2.1 j x q).2) _
   have P:=NN (M:=41) (λx q=>(d.2.2.1 j x q).1) Z (by simp;omega);have Q:=pw c Z;have S:=pw b.toNat (by cases b<;>decide);have T:(gP b.toNat++⟨#[58]⟩:ByteArray).size=(gP b.toNat).size+1:=by rw[Ö];rfl
   have V:=fv<|Á O<|Á P<|Á Q<|Á S T;have k1:¬9223372036854775807<(gP b.toNat).size+1:=Z;have k2:¬9223372036854775807<(gP b.toNat).size+1+(gP c).size:=Z;have c0:=E.r K id;have c1:=E.r L id;have w0:Ð.wrap (c:Int)=c:=si Z Z;have C:=λm=>UF b<|wr.drewN m;rw[show uU b=((b.toNat:Nat):Int) by cases b<;>rfl]at C;have W:b.toNat<18446744073709551616:=by cases b<;>decide
   have X:=fv<|Á C W;clear f O k P Q S T K L C W;generalize jU ((us.take j).map mZ)=s at*;generalize b.toNat=bn at*;go_wp2;go_quiet ((first|(go_at_call 144;exact ë<|X.1 _)|(go_at_call 85;exact ë<|yi _ (by first|exact X.2|omega) _)|(go_at_call 142;exact ë (UG _ _ (by rw[Ö];have:=V.2;omega) _))))
   go_wp2;go_roundw
   case rel=>exact⟨j+1,m+_,iu,by go_num,by rw[<-V.oQ.1];rfl,by rw[HX.oQ,ò]⟩
   case measure=>simp[Þ];omega
  .obtain rfl:j=N:=Z;have f:us.take j=us:=eG (by rw[J.oQ];omega);have Y:(if jU (us.map mZ)=⟨#[]⟩then⟨#[45]⟩else jU (us.map mZ))=wM (us.map mZ):=ab1 λx q=>(d.2.2.1 j x<|by rwa[f]).2;have C:=abU (jU<|us.map mZ) wr;rw[Y]at C;rw[f];clear Y f;go_wp2_with (go_at_call 90;refine iT C ?_);go_ret;exact⟨U,E⟩
section
variable{s t:St}
def P2(n:Nat)(a:List ByteArray):Prop:=a.length<=n/\∀x∈a,x.size=2
def P2.r{a:List ByteArray}(h:P2 n vX)(k:P2 m a):P2 (n+m) (vX++a):=⟨by rw[Ñ];have:=h.1;have:=k.1;omega,λx q=>(dx.1 q).elim (h.2 x)<|k.2 x⟩
def ab4(h:i<8){z:ByteArray}(a:z.size=1):P2 1 [mr i++z]:=⟨eE _,λx q=>by rw[eY.1 q,Ö,Gc h,a]⟩
def UL(n:Nat):P2 n []:=⟨eD _,λ_ q=>by cases q⟩
def UM[Decidable bQ](h:i<8){z:ByteArray}(a:z.size=1):P2 1 (if bQ then[]else[mr i++z]):=by split;exact UL 1;exact ab4 h a
def ab5(h:k<16):(vd k).size=1:=by rw[UJ h];rfl
def UN(h:i<8):∀k,k<=16->P2 k (py s t i k)|0,_=>UL 0|k+1,hk=>by rw[Nb];exact(UN h k Z).r<|UM h<|ab5 Z
def ab6(h:i<8)(x y:Int)(p q:ByteArray):P2 2 (ow x y p q i):=(UM h (z:=⟨#[36]⟩) U).r<|UM h (z:=⟨#[123]⟩) U
def ab7(i:Nat):ma s t (i+1)=ma s t i++ya s t i:=by unfold ma;rw[ķ,cM];simp
def UO:∀i,i<=8->P2 (18*i) (ma s t i)|0,_=>UL 0|i+1,h=>by rw[ab7];exact(UO i Z).r<|(ab6 Z _ _ _ _).r<|UN Z 16<|eE _
def P2.lst(h:P2 n vX)(b:n<=1000)(y:ByteArray)(c:y.size=2)(w:Ë):Ò À 142 #[Å<|jU vX,Å y] w λe a=>e=È (Å<|jU<|vX++[y])/\a=w:=by have d:=NN (M:=2) (λx q=>cZ<|h.2 x q) Z (by have:=h.1;omega);have:=UG (jU vX) y Z w;rwa[show(if jU vX=⟨#[]⟩then y else(jU vX++⟨#[44]⟩)++y)=jU (vX++[y])from UK (λx q=>by rw[h.2 x q];decide) y]at this
def ab8{w:Ë}(h:Ò À F d (w.drewN<|m+n) λe a=>e=È v/\a=w.drewN (m+n)):Ò À F d (w.drewN<|m+n) λe b=>e=È v/\∃n,b=w.drewN (m+n):=h.mono λ_ _ q=>⟨q.1,n,q.2⟩
def P2.C(h:P2 n vX)(a:n<=1000)(b:i<8)(z:ByteArray)(c:z.size=1)(w:Ë):Ò À 142 #[Å<|jU vX,Å<|mr i++z] w λe d=>e=È (Å<|jU<|vX++[mr i++z])/\d=w:=h.lst a _ (by rw[Ö,Gc b,c]) w
def ab9(h:i<8)(z:ByteArray)(a:z.size=1):¬9223372036854775807<(mr i).size+z.size:=by rw[Gc h,a];decide
def D5(h:i<8):me s i=Ç Ð (s i).fC:=if_pos h
theorem JQ(h:i<8):me s (8+i)=Å (s i).C:=by unfold me;grind
def NO(h:k<16):me s (16+i*16+k)=Ç Ð ((s i).r k):=by rw[me,if_neg Z,if_neg Z,show(16+i*16+k-16)/16=i by omega,show(16+i*16+k-16)%16=k by omega];rfl
def ar3:Ò À 93 #[ŭ (gI s).toArray,ŭ (gI t).toArray] w λe I=>e=È (Å<|jU<|ma s t 8)/\fw fB w I:=by
 have J:=fy.N w (gI s) 121;have u:=fy.N (w.alloc<|Ô (gI s).toArray 121) (gI t) 121;have K:=fw.gO fB w (gI s).toArray 121;have v:=fw.gO fB (w.alloc<|Ô (gI s).toArray 121) (gI t).toArray 121;have L:(w.alloc<|Ô (gI s).toArray 121).heap.size=w.heap.size+1:=fD;rw[L]at u;have y:=fv<|Á (J.C v id)<|Á u<|K.fA v;clear J u K v L;go_enter Tryz.func93,Tryz.ntmps93;go_wp2_with (first|(with_reducible refine à U (Â 2) U _ _ (oJ U U) ?_)|(with_reducible refine à U (Â 3) U _ _ (oJ U U) ?_))
 generalize(w.alloc<|Ô (gI s).toArray 121).alloc (Ô (gI t).toArray 121)=wa at*;generalize w.heap.size=vb at*;go_loopw [5,6] (λx i wr=>∃j m:Nat,j<=8/\i=Ç Ê j/\x=Å (jU<|ma s t j)/\wr=wa.drewN m) λ_ i _=>8-(Þ i).toNat
 case atStart=>exact⟨0,0,eD _,U,U,U⟩
 case round=>
  obtain⟨j,m,hj,rfl,rfl,B⟩:=hrel;obtain⟨b,rfl⟩:∃b,b=wr:=⟨_,U⟩;have HW:=fv B;by_cases a:j<8
  .have l:∀i,i<144->b.cell? ⟨vb,i,Ã⟩=Â (me s i)/\b.cell? ⟨vb+1,i,Ã⟩=Â (me t i):=λi M=>by
    rw[B];exact⟨y.1.r i _<|vm s M,y.2.1.r i _<|vm t M⟩
   let⟨b1,b2⟩:=l j Z;let⟨q1,q2⟩:=l (8+j) Z;rw[D5 a]at b1 b2;rw[JQ a]at q1 q2;have N:∀k,k<16->b.cell? ⟨vb,16+j*16+k,Ã⟩=Â (Ç Ð<|(s j).r k)/\b.cell? ⟨vb+1,16+j*16+k,Ã⟩=Â (Ç Ð<|(t j).r k):=λk o=>by have:=l (16+j*16+k) Z;rwa[NO o,NO o]at this
   have O:=UO (s:=s) (t:=t) j hj;have f:=fv<|Á N O;clear l N O B;have a1:=ab9 a ⟨#[36]⟩ U;have a2:=ab9 a ⟨#[123]⟩ U;generalize P:(s j).fC=x1 at*;generalize Q:(t j).fC=x2 at*;generalize S:(s j).C=y1 at*;generalize T:(t j).C=y2 at*;have HH:=fv (show ma s t (j+1)=ma s t j++ow x1 x2 y1 y2 j++py s t j 16 by rw[ab7,ya,P,Q,S,T,dL]);clear P Q S T;by_cases p:x1=x2;all_goals by_cases q:y1.toList=y2.toList
   all_goals
    first|(have d1:(x1==x2)=Í:=beq_iff_eq.2 p)|(have d1:(x1==x2)=Ó:=beq_eq_false_iff_ne.2 p)
    first|(have d2:(y1.toList==y2.toList)=Í:=beq_iff_eq.2 q)|(have d2:(y1.toList==y2.toList)=Ó:=beq_eq_false_iff_ne.2 q)
    have V:=fv<|Á p q;clear p q;go_wp2;go_quiet (fail);go_wp2_with (first|(go_at_call 143;refine iT (NK _ a _) ?_)|(go_at_call 142;refine iT (P2.C f.2 Z a ⟨#[36]⟩ U _) ?_))
    go_quiet (fail)
    go_wp2_with (first|(go_at_call 143;refine iT (NK _ a _) ?_)|(go_at_call 142;(first|with_reducible refine Đ (P2.C f.oQ.2 Z a ⟨#[123]⟩ U _) ?_|refine Đ (P2.C (f.oQ.2.r (ab4 a (z:=⟨#[36]⟩) U)) Z a ⟨#[123]⟩ U _) ?_);rintro e I ⟨rfl,rfl⟩))
    go_loopw [5,7] (λx i wq=>∃k n:Nat,k<=16/\i=Ç Ê k/\x=Å (jU<|ma s t j++ow x1 x2 y1 y2 j++py s t j k)/\wq=b.drewN n) λ_ i _=>16-(Þ i).toNat
    case atStart=>exact⟨0,_,eD _,U,by simp[ow,py,V.oQ.1,V.oQ.2],by first|rfl|exact ò _ _ _⟩
    case round=>
     obtain⟨k,n,o,rfl,rfl,g⟩:=hrel;have X:=fv g;by_cases r:k<16
     .let⟨D,E⟩:=f.1 k r;have c1:wr.cell? ⟨vb,16+j*16+k,Ã⟩=Â (Ç Ð<|(s j).r k):=by rwa[g]
      have c2:wr.cell? ⟨vb+1,16+j*16+k,Ã⟩=Â (Ç Ð<|(t j).r k):=by rwa[g]
      have F:=(f.2.r<|ab6 a x1 x2 y1 y2).r<|UN (s:=s) (t:=t) a k o;have c:=Nb s t j k;unfold DJ at c;have Y:=ab5 r;generalize(s j).r k=z1 at*;generalize(t j).r k=z2 at*;have r0:(0:Int)<=k:=Z;have r1:Ê.wrap ((k:Int)+1)=(k:Int)+1:=ğ _ ⟨Z,Z⟩;have r2:(k:Int)<=(k:Int)+1:=Z;have r3:(k:Int)+1<=16:=Z;have r4:(0:Int)<=(k:Int)+1:=Z;have r5:((k:Int)+1).toNat=k+1:=Z;have a3:¬9223372036854775807<(mr j).size+(min (k+1) 16-k):=by rw[Gc a];omega
      by_cases d:z1=z2
      .rw[if_pos d,ep]at c;have d3:(z1==z2)=Í:=beq_iff_eq.2 d;have G:=fv c;clear c d D E F g;go_wp2;go_quiet (fail);go_wp2;go_roundw
       case rel=>exact⟨k+1,n+_,r,by go_num,by rw[G.oQ],by rw[X.oQ,ò]⟩
       case measure=>simp[Þ];omega
      rw[if_neg d]at c;have d3:(z1==z2)=Ó:=beq_eq_false_iff_ne.2 d;have C:=λW=>P2.C F Z a (vd k) Y W;rw[show ma s t j++ow x1 x2 y1 y2 j++py s t j k++[mr j++vd k]=ma s t j++ow x1 x2 y1 y2 j++py s t j (k+1) by rw[c];simp]at C;obtain⟨js',H⟩:∃x,jU (ma s t j++ow x1 x2 y1 y2 j++py s t j (k+1))=x:=⟨_,U⟩;rw[H]at C;have G:=fv H;clear c d D E F g Y H;generalize jU (ma s t j++ow x1 x2 y1 y2 j++py s t j k)=js at C|-;unfold vd at C;have HC:=fv C;clear C;go_wp2;go_quiet (fail);go_wp2;go_quiet ((first|(go_at_call 143;exact ab8<|NK _ a _)|(go_at_call 142;exact ab8 (HC _))))
      go_wp2;go_roundw
      case rel=>exact⟨k+1,n+_,r,by go_num,by rw[G.oQ],by rw[X.oQ,ò]⟩
      case measure=>simp[Þ];omega
     .obtain rfl:k=16:=Z;go_wp2;go_roundw
      case rel=>exact⟨j+1,m+n,a,by go_num,by rw[HH.oQ],by rw[HW.oQ,ò]⟩
      case measure=>simp[Þ];omega
  .obtain rfl:j=8:=Z;go_wp2;go_ret;exact⟨U,y.2.2.fA<|fw.iP _ _ _⟩
end
def ar4(l:List Nat):(pT l).length=l.length/2:=by simp[pT]
def ar5{l:List Nat}{t:Nat}(h:t<l.length/2):j5 ((pT l).take<|t+1)=j5 ((pT l).take t)++[Ç Ð<|pr l t]:=by rw[cD];simp[j5,pT,dW h]
theorem UP{cp:Nat}{l:List Nat}(h:ie 36 (Æ O n cp) l.length (j5 l) w)(a:j<l.length):∃b o,O=Â ⟨b,o,Ã⟩/\w.cell? ⟨b,o+j,Ã⟩=Â (Ç Ð<|l.getD j 0):=by let⟨_,_,e,_,c⟩:=h;cases e;let⟨b,o,d,_,f⟩:=c j (Ç Ð<|l.getD j 0) (by simp[j5,ċ,a]);grind
def acd{cp:Nat}{l:List Nat}(k:Nat)(h:ie 36 (Æ O n cp) l.length (j5 l) w)(g:l.length=2^k)(F:k<=4)(B:wI l):Ò À 140 #[Æ O n cp] w λe u=>e=È (Ç Ð<|pU k l)/\fw fB w u:=by
 obtain rfl:n=l.length:=by let⟨_,_,e,_⟩:=h;cases e;rfl
 generalize C:pU k l=r;go_enter Tryz.func140,Tryz.ntmps140;go_wp2;go_loopw [0] (λv wr=>∃(k:Nat)(l:List Nat)(O:Option ø)(cp:Nat),v=Æ O l.length cp/\ie 36 (Æ O l.length cp) l.length (j5 l) wr/\l.length=2^k/\k<=4/\wI l/\pU k l=r/\fw fB w wr) (λv _=>match v with|Æ _ n _=>n|_=>0)
 case atStart=>exact⟨k,l,O,cp,U,h,g,F,B,C,fw.gy _ _⟩
 case round=>
  clear h g F B C;obtain⟨k,l,O,cp,rfl,h,g,F,B,C,K⟩:=hrel;obtain⟨N,G⟩:∃N,l.length=N:=⟨_,U⟩;have H:=fv<|Á h<|Á B<|Á C<|Á K G;rw[G]at g|-;clear h B C K G;cases k with
  |zero=>
   obtain rfl:N=1:=g;obtain⟨b,o,rfl,m⟩:=UP (j:=0) H.1 (by rw[H.oQ.2.2.2.2];decide);rw[show l.getD 0 0=r from H.oQ.2.2.1]at m;have Cf:wr.cell? ⟨b,o,Ã⟩=Â (Ç Ð r):=m;clear m;go_wp2;go_ret;exact⟨U,H.2.2.2.1⟩|succ k=>
   have L:N=2*2^k:=by rw[g,bL];omega
   have h3:0<2^k:=Nat.two_pow_pos k;have h4:2^k<=8:=by have:k<=3:=Z;exact Nat.pow_le_pow_right A this
   generalize P:2^k=M at*;have h5:(1:Int)<(N:Int):=Z;have f:=fv<|Á L P;clear g L P;obtain⟨E,rfl⟩:∃E,E=wr:=⟨_,U⟩;go_wp2;go_loopw [3,4] (λv i wq=>∃(t x:Nat)(q:Option ø)(c:Nat),t<=M/\x=2*t/\v=Æ q t c/\i=Ç Ê x/\MK E 36 1 (Æ q t c) t (j5<|(pT l).take t) wq) λ_ i _=>2*M-(Þ i).toNat
   case atStart=>exact⟨0,0,Ã,0,eD _,U,U,U,MK.C E⟩
   case round=>
    obtain⟨t,x,q,c,ht,D,rfl,rfl,s⟩:=hrel;have Q:=fv D;have hx9:x<=16:=Z;by_cases iu:t<M
    .have h6:(x:Int)+1<(N:Int):=by rw[f.oQ.1];omega
     obtain⟨b,o,rfl,m⟩:=UP (j:=2*t) H.1 (by rw[H.oQ.2.2.2.2,f.oQ.1];omega);let⟨b',o',e,S⟩:=UP (j:=2*t+1) H.1 (by rw[H.oQ.2.2.2.2,f.oQ.1];omega);cases e;have T:=H.2.1<|2*t;have V:=H.2.1<|2*t+1;have X:=ar5 (l:=l) (t:=t) (by rw[H.oQ.2.2.2.2,f.oQ.1];omega);have I:=λa=>JN 14695981039346656037 (l.getD (2*t) 0) A T a;have Y:=Bw<|l.getD (2*t) 0;have J:=λa=>JN (lf<|l.getD (2*t) 0) (l.getD (2*t+1) 0) Y V a;rw[show oK 14695981039346656037 (l.getD (2*t) 0)=lf (l.getD (2*t) 0)from U]at I;rw[show oK (lf<|l.getD (2*t) 0) (l.getD (2*t+1) 0)=pr l t from rfl]at J;have c1:wr.cell? ⟨b,o+x,Ã⟩=Â (Ç Ð<|l.getD (2*t) 0):=by rw[D];exact s.r.r m id
     have c2:wr.cell? ⟨b,o+(x+1),Ã⟩=Â (Ç Ð<|l.getD (2*t+1) 0):=by rw[D];exact s.r.r S id
     have d:=fv<|Á s X;clear s X m S T V Y D;generalize pr l t=z at*;generalize lf (l.getD (2*t) 0)=y at*;generalize l.getD (2*t) 0=a1 at*;generalize l.getD (2*t+1) 0=a2 at*;have HC:=fv<|Á I J;clear I J;go_wp2_with (first|(go_at_call 139;(first|with_reducible refine Đ (HC.oQ.1 _) ?_|with_reducible refine Đ (HC.oQ.2 _) ?_);rintro e u ⟨rfl,rfl⟩)|(at_builtin;refine D4 FD ú (d.1.fH kp) Z U ?_ (ã _ _ _) (by simp[Ă]) U U U U U U;intro ta tc W hM1;have JR:=fv hM1;clear hM1))
     go_roundw
     case rel=>exact⟨t+1,x+2,ta,tc,iu,by rw[Q.oQ];omega,U,by go_num,by rw[d.oQ.2];exact JR⟩
     case measure=>simp[Þ];have:=Q.oQ;omega
    .obtain rfl:t=M:=Z;have h6:decide ((x:Int)+1<(N:Int))=Ó:=by rw[f.oQ.1];simp;omega
     have hh:(pT l).length=t:=by rw[ar4,H.oQ.2.2.2.2,f.oQ.1];omega
     have d:=fv<|Á s hh;clear s hh D;go_wp2;go_roundw
     case rel=>exact⟨k,pT l,q,c,by rw[d.oQ.2],by have:=d.1.I;rw[eG (by rw[d.oQ.2];exact eE _)]at this;rw[d.oQ.2];exact this,by rw[d.oQ.2];exact f.2.symm,Z,Ty l,H.2.2.1,H.2.2.2.1.fA d.1.r⟩
     case measure=>simp;have:=f.1;omega
def ace{l:List Nat}(h:l[k]?=Â i):j5 (l.take<|k+1)=j5 (l.take k)++[Ç Ð i]:=by rw[cD,h];simp[j5]
def ar6(z:Nat)(h:n<B.size):tb (sr z<|B.data.toList.take n) B[n].toNat=sr z (B.data.toList.take<|n+1):=by rw[cD,eV,fj (show n<B.data.size from h)];unfold sr;rw[cg,b9,dS,List.foldl_nil,dX]
def ar7(z:Nat):sr z []=z:=rfl
theorem ar8{s:St}(hf:ic s):Ò À 89 #[ŭ (gI s).toArray] w λe u=>e=È (Ç Ð<|By s)/\fw fB w u:=by
 have hS:=fy.N w (gI s) 121;have k0:=fw.gO fB w (gI s).toArray 121;unfold By Jl;have hD:∀j,j<8->(qI (λi=>Bx<|s i) 8)[j]?=Â (Bx<|s j):=λj M=>by rw[TB _ _ _ M,if_pos M]
 have hlen:=FU (λi=>Bx<|s i) 8;have vL:wI (qI (λi=>Bx<|s i) 8):=FP A λx N=>by obtain⟨t,G,rfl⟩:=cI.1 N;simp only;split;exact TC _ _ _;decide
 generalize qI (λi=>Bx<|s i) 8=L at*;have b:=fv<|Á hS<|Á k0<|Á hD<|Á hlen<|Á vL hf;clear hS k0 hD hlen vL hf;generalize hr:pU 3 L=r;have HR:=fv hr;clear hr;go_enter Tryz.func89,Tryz.ntmps89;go_wp2_with (with_reducible refine à U (Â 1) U _ _ (oJ U U) ?_);generalize w.alloc (Ô (gI s).toArray 121)=wa at*;generalize w.heap.size=vb at*;go_loopw [3,4] (λv i wr=>∃(j:Nat)(q:Option ø)(c:Nat),j<=8/\v=Æ q j c/\i=Ç Ê j/\MK wa 36 1 (Æ q j c) j (j5<|L.take j) wr) λ_ i _=>8-(Þ i).toNat
 case atStart=>exact⟨0,Ã,0,eD _,U,U,MK.C wa⟩
 case round=>
  obtain⟨j,q,c,M,rfl,rfl,g⟩:=hrel;obtain⟨B,rfl⟩:∃B,B=wr:=⟨_,U⟩;have H:=fv g;clear g;by_cases I:j<8
  .have J:∀i,i<144->B.cell? ⟨vb,i,Ã⟩=Â (me s i):=λi hi=>H.r.r (b.1.r i _<|vm s hi) id;have O:=J j Z;have q1:=J (8+j) Z;rw[D5 I]at O;rw[JQ I]at q1;have sl:∀k,k<16->B.cell? ⟨vb,16+j*16+k,Ã⟩=Â (Ç Ð (((s j).r k).toNat:Nat)):=λk o=>by
    have:=J (16+j*16+k) Z;rw[NO o]at this;rw[this];have:=(b.2.2.2.2.2.C j k).1;grind
   obtain⟨f,Q⟩:∃f:Nat,(s j).fC=f:=⟨(s j).fC.toNat,by have:=(b.2.2.2.2.2.fC j).1;omega⟩;have ar9:f<18446744073709551616:=by have:=(b.2.2.2.2.2.fC j).2;omega
   have D:=b.2.2.1 j I;rw[show Bx (s j)=sr (oK (lf (s j).fC.toNat)<|pU 4<|pj (wK<|s j) 16) (s j).C.data.toList from rfl,Q,dO]at D;rw[Q]at O;have hSg:∀k,k<16->(pj (wK<|s j) 16)[k]?=Â (lf ((s j).r k).toNat):=λk o=>by rw[TA _ _ _ o,if_pos o];simp[wK,ċ,dW o]
   have V:=FT (wK<|s j) 16;have X:wI (pj (wK<|s j) 16):=FP A λx N=>by obtain⟨t,G,rfl⟩:=cI.1 N;split;exact Bw _;decide
   have NP:∀k,((s j).r k).toNat<18446744073709551616:=λk=>by have h1:=(b.2.2.2.2.2.C j k).1;have h2:=(b.2.2.2.2.2.C j k).2;omega
   have awm:=(b.2.2.2.2.2.I j).1;generalize pj (wK<|s j) 16=S at*;generalize(s j).C=P at*;have Y:=λa=>JN 14695981039346656037 f A ar9 a;rw[show oK 14695981039346656037 f=lf f from rfl]at Y;have C1:=λa=>JN (lf f) (pU 4 S) (Bw f) (M5 4 S X) a;have se:=DG (lf f) (pU 4 S)<|Bw f;generalize lf f=z0 at*;have CP:=λa p n cp (h:ie 36 (Æ p n cp) S.length (j5 S) a)=>acd 4 h V A X;generalize pU 4 S=T at*;generalize oK z0 T=z1 at*;have m:=fv<|Á sl<|Á hSg<|Á V<|Á NP<|Á Y<|Á C1<|Á CP<|Á D se;clear J sl hSg V X NP Y C1 CP D se Q;have asa:(j:Int)<8:=Z;have hd8:decide ((j:Int)<8)=Í:=decide_eq_true asa;go_wp2;try rw[hd8]
   go_loopw [5,6] (λv i wq=>∃(k:Nat)(q:Option ø)(c:Nat),k<=16/\v=Æ q k c/\i=Ç Ê k/\MK B 36 1 (Æ q k c) k (j5<|S.take k) wq) λ_ i _=>16-(Þ i).toNat
   case atStart=>exact⟨0,Ã,0,eD _,U,U,MK.C B⟩
   case round=>
    obtain⟨k,q2,c2,o,rfl,rfl,g⟩:=hrel;by_cases UQ:k<16
    .have d1:=g.r.r (m.1 k UQ) id;have G:=ace<|m.2.1 k UQ;have C:=λa=>JN 14695981039346656037 ((s j).r k).toNat A (m.2.2.2.1 k) a;rw[show oK 14695981039346656037 ((s j).r k).toNat=lf ((s j).r k).toNat from rfl]at C;have E:=fv<|Á g G;clear g G;generalize lf ((s j).r k).toNat=y at*;generalize((s j).r k).toNat=a1 at*;have HK:=fv C;clear C;go_wp2_with (first|(go_at_call 139;with_reducible refine iT (HK.oQ _) ?_)|(at_builtin;refine D4 FD ú (E.1.fH kp) Z U ?_ (ã _ _ _) (by simp[Ă]) U U U U U U;intro ta tc W F;have JR:=fv F;clear F))
     go_roundw
     case rel=>exact⟨k+1,ta,tc,UQ,U,by go_num,by rw[E.oQ.2];exact JR⟩
     case measure=>simp[Þ];omega
    .obtain rfl:k=16:=Z;have d1:=g.r.r O id;have CQ:=m.2.2.2.2.2.2.1 wr q2 16 c2 (by have:=g.I;rw[eG (by rw[m.oQ.2.2.1];decide)]at this;rw[m.oQ.2.2.1];exact this);have E:=fv<|Á g CQ;clear g CQ;go_wp2_with (first|(go_at_call 139;(first|with_reducible refine Đ (m.oQ.2.2.2.2.1 _) ?_|with_reducible refine Đ (m.oQ.2.2.2.2.2.1 _) ?_);rintro e u ⟨rfl,hw⟩;subst u)|(go_at_call 140;refine gl E.2 λw5 UR=> ?_;have d5:=(E.1.r.fA UR).r q1 id;have H5:=fv UR;clear UR))
     go_loop [8,9] (λd i=>∃k:Nat,k<=P.size/\i=Ç Ê k/\d=Ç Ð (sr z1<|P.data.toList.take k)) λ_ i=>P.size-(Þ i).toNat
     case atStart=>exact⟨0,eD _,U,by rw[List.take_zero,ar7]⟩
     case round=>
      obtain⟨n,hn,rfl,rfl⟩:=hrel;by_cases FW:n<P.size
      .have K:=abV (sr z1<|P.data.toList.take n) P[n].toNat (aai _ _ m.2.2.2.2.2.2.2.2) (by have:=P[n].toNat_lt;omega) w5;rw[ar6 z1 FW]at K;obtain⟨y',B6⟩:∃y,sr z1 (P.data.toList.take<|n+1)=y:=⟨_,U⟩;rw[B6]at K;have HY:=fv<|Á B6 K;clear B6 K;generalize sr z1 (P.data.toList.take n)=x at*;have zE:((P[n].toNat:Nat):Int)<256:=by have:=P[n].toNat_lt;omega
       have hcw:Ð.wrap ((P[n].toNat:Nat):Int)=((P[n].toNat:Nat):Int):=si Z Z;go_wp2_with (go_at_call 141;with_reducible refine gl HY.oQ.2 λu hw=> ?_;subst u);go_round
       case rel=>exact⟨n+1,FW,by go_num,by rw[HY.oQ.1]⟩
       case measure=>simp[Þ];omega
      .obtain rfl:n=P.size:=Z;rw[(eG<|by rw[dU];exact eE _)];have D:=ace m.2.2.2.2.2.2.2.1;generalize sr z1 P.data.toList=z at*;have HZ:=fv<|Á D<|H.fH<|E.1.r.fA H5.oQ;clear D;go_wp2_with (at_builtin;refine D4 FD ú (HZ.2.fH kp) Z U ?_ (ã _ _ _) (by simp[Ă]) U U U U U U;intro ta tc W F;have JR:=fv F;clear F);go_roundw
       case rel=>exact⟨j+1,ta,tc,I,U,by go_num,by rw[HZ.oQ.1];exact JR⟩
       case measure=>simp[Þ];omega
  .obtain rfl:j=8:=Z;have C:=acd (l:=L) 3 (by have:=H.I;rw[eG (by rw[b.oQ.2.2.2.1];decide)]at this;rw[b.oQ.2.2.2.1];exact this) b.2.2.2.1 A b.2.2.2.2.1;rw[HR.oQ]at C;go_wp2_with (go_at_call 140;refine gl C λu o=> ?_);go_ret;exact⟨U,(b.2.1.fA H.r).fA o⟩
end gT
end Go.Proofs.Y
