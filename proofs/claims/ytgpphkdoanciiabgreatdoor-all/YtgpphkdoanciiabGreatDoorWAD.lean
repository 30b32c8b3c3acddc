import Derived.Test.YtgpphkdoanciiabGreatDoorWAC
import Derived.Shelf.Strconv.Itoa0
import Derived.Shelf.Strconv.Itoa1
import Derived.Shelf.LaysM
import Derived.Shelf.Strconv.Itoa2
import Derived.Shelf.Strconv.Itoa3
import Derived.Shelf.Strings.Repeat
import Derived.Shelf.Strings.OnBuilder
import Derived.Shelf.Strconv.Clone
import Derived.Shelf.Strings.Prefix
import Derived.Shelf.Bits.Mul64
import Derived.Test.YtgpphkdoanciiabGreatDoorProg
import Derived.Lib.ItoaLen
import Derived.Deep.DeepCutAuto
import Derived.Lib.Bytealg
import Derived.Conc.LeavingOf
import Derived.Conc.CrowdStepC
import Derived.Listen
import Derived.ProofKit
import Derived.Deep.Slices
import Derived.Lib.LaidTab
import Derived.OpenShut
import Derived.LaidMore
import Derived.Stop.Joined
import Derived.Carry
set_option linter.all false
set_option maxRecDepth 1000000
set_option maxHeartbeats 8000000
open Go.Proofs.Tryz renaming prog->À,underlying54->ñ,underlying3->õ,underlying224->ú,underlying23->ý,underlying9->Ą,underlying98->Č,underlying4->Ď,underlying5->ď,func21->ĕ,zeroValue3->Ė,zeroValue4->ė,zeroValue9->Ę,results28->ģ,underlying97->Ħ,zeroValue23->Ĩ,sizeOf3->ı,sizeOf4->Ĳ,sizeOf9->ĳ,isAgg3->ķ,isAgg4->ĸ,isAgg9->Ĺ,func19->Ŀ,results19->ŀ,sizeOf23->ŉ,ntmps156->ŋ,ntmps144->ō,ntmps131->Ŏ,underlying161->ŏ,underlying285->Ő,underlying163->Œ,ntmps17->ŗ,zeroValue161->Ř,isAgg23->ř,underlying86->ś,func156->Ŝ,ntmps21->Ť,func144->ť,func131->ŧ,ntmps84->Ũ,ntmps79->ũ,ntmps19->Ū,underlying0->Ŭ,zeroValue86->ŭ,func17->ų,func84->ŷ,func79->Ÿ,func13->Ź,zeroValue0->ź,zeroValue5->Ż,sizeOf161->Ζ,isAgg161->Υ,sizeOf86->Χ,ntmps141->Ω,ntmps107->ε,ntmps126->η,ntmps149->θ,ntmps167->ι,sizeOf0->ο,sizeOf5->π,isAgg86->ρ,func141->ς,ntmps62->υ,func107->ae,ntmps51->af,ntmps85->ai,ntmps80->aj,ntmps28->ak,func126->au,ntmps74->ax,func149->aA,func167->aB,isAgg0->aF,isAgg5->aG,func62->aI,func51->aK,func85->aN,func80->aO,func28->aP,f13->aQ,func20->aS,func18->aV,func74->aX
open And renaming intro->Á
open Option renaming some->Â,none->Ã,map_eq_some_iff->Ø,bind_eq_some_iff->Ü,bind_eq_bind->å,pure_def->ü,map->Ŕ
open Go.Value renaming pointer->Ä,string->Å,slice->Æ,int->Ç,tuple->Ý,bool->á,oneCell'->Ă,cells->ľ,agg->σ
open Go.Ending renaming returned->È
open Or renaming inl->É,inr->Ì
open Go.IntKind renaming i64->Ê,u64->Ð,wrap_i64->í,wrap_u64->ö,u8->ņ
open Go renaming World->Ë,Value->Î,Calls->Ò,cell_one_new->ã,bodyPost_ret->ì,TypeId->ð,maxLen->ó,Addr->ø,info_parts->ć,Frame->ĉ,Goroutine->ċ,run_callFunc_extern->ě,run_underlying->ğ,execOp->Ġ,TypeInfo->Ĥ,run_convert_bytes_back->Ĵ,heap_alloc_new->ĺ,results->Ņ,Oper->Ŗ,setRow_other->Š,wpList_plain->š,Operand->ū,runNT_fst->Ű,FuncId->Ų,setRow_heap->ŵ,IntKind->Δ,Trace->Ε,wpList->Θ,growslice_fits->Κ,laidMetH->Ρ,Tape->Τ,runNT->ν,resolve->χ,builtin->ψ,yielded->ag,results_none->ah,Act->aC,typeInfo->aJ,getD_set_ne->aR,DataW->aW,invoke->bj,storeCells->bk,undef->bA,Program->bD,sizeOf->bG
open Bool renaming true->Í,false->Ó,false_eq_true->æ,not_false->Ι
open Nat renaming le_trans->Ï,mul_le_mul->ġ,mod_eq_of_lt->Ů,one_pos->aH,mod_lt->bl
open List renaming length_append->Ñ,eq_nil_of_length_eq_zero->Ù,replicate->è,range->é,getD->Ċ,take->į,drop->İ,range_succ->Ķ,replicate_succ'->Ľ,length_pos_iff->ň,length_nil->ż,map->ZnI
open Go.Obj renaming cells->Ô
open Go.Item renaming inRegion->Õ,code->bx
open ByteArray renaming size_append->Ö,size_extract->ä,extract->þ,size->ļ,data->Λ,append_empty->ay,append_assoc->az,mk->ZnJ
open Go.World renaming cell?->Ú,drewN_drewN->ò,ownsRow_nil->ĥ,block_lt_of_cell?->Ĭ,var?->ĵ,drew->ő,freeze->ş,setCell->ζ,shape?->ω
open Go.Lib renaming byteCells->Û,indexByte->ß,nDigits->Ā,decDigits->đ,zeros24->ē,decDigits_length->Ĕ,strCells->ĝ,TabIs->ĩ,byteCells_length->Ļ,tabData->ł,strCells_length->Ň,hasPrefix->Ŋ,pow10Tab->Ś
open Go.RowKit renaming intOf->Þ
open Go.Great renaming wpList_runTo->à
open Go.Frame renaming enter->â,finish_at->ž
open Go.Region renaming ready->ç,wanted->Ē
open Go.Exit renaming noGoto_ret->ê
open Go.Calls renaming quiet_of_same->ë,mono->Đ
open Go.Proofs.YtgpphkdoanciiabGreatDoor.Rows renaming laid_math_bits_deBruijn32tab->î,laid_math_bits_deBruijn64tab->ï,laid_attic_attic_stepRules->ô,laid_internal_strconv_uint64pow10->ă
open Go.CallKind renaming normal->ù,early->bK
open Go.Builtin renaming append_->û,lenOf->Ō,firstCells->œ,append->Ŵ,unsafeSliceData_->δ,unsafeString_->aD,zeroCells->bu
open Array renaming getElem_mem->ÿ,size_replicate->ā,replicate->ę,toList_inj->ű,ext'->Ξ
open Go.ByteArray renaming toList_eq->ą
open Go.Region.linearise renaming go->Ć
open Go.DataW renaming trod->Ĉ,trod_int->Ń
open Go.Result renaming andThen->č,andThen_ok->ħ,ok->bq
open Go.Oper renaming upon_value->Ě,wp->Γ
open Go.Shelf renaming Ren->Ĝ
open Go.IntWalk renaming i64_in->Ğ,i64_left->ů
open Go.RowKit.Below renaming heap_setCell->Ģ,heap_alloc->ī
open Go.Sort renaming mapBlock->Ī,putRow->Η
open Go.Conc renaming crowd->ĭ,events_call_body->Į,Good->ar,goes_leave1->aT,goes_leave2->aU
open Go.Made renaming word->ń,reckonStruct->Ŧ,infoAt->Ŷ,mostCells->Μ,reckon->aL
open False renaming elim->ŕ
open Go.Sem renaming run_bind->Ţ,run_pure->ţ
open Go.Proofs.Lays renaming n283->aZ,n285->a8,n212->bg,n99->bh
variable{i n j b k m J j9 j7 j6:Nat}{w u W jX:Ë}{v x z jQ:Î}{g:ċ}{a p:ø}{h c:Int}{e t T:ð}{d q:Array Î}{P:bD}{y:aC}{B:ByteArray}{X:Nat->Prop}{O:Option ø}{l:List Î}{yQ:Bool}{cX cQ:aC->Ë->Prop}{o:Ŗ}{D:Nat->Nat}{E:Array ċ}{L:List Go.Item}{jJ:List Nat}{qX:List ĉ}{qQ:ū}{qJ:Ε}{zX:Go.Loc->Prop}{zQ:List Int}{zJ:Ĥ}{xQ:Τ}{xJ:Nat×Nat}{vX:List ByteArray}{vQ:Î->Ë->Prop}{vJ:Go.Exit->aC->Ë->Prop}{Q:Array Ŗ}{f:ĉ}{F:Ų}{s:Go.Func}{gX gQ:Type}{gJ kX:List (Nat×Int)}{bJ:List (Int×Bool)}{kJ:Option (Nat×Nat)}{fX:List Ŗ}{bQ:Prop}
namespace Go.Proofs.Y
namespace gO
open RowKit Lift
def anL(n:Int)(h:n<1)(w:Ë):Ò À 17 #[Ç Ê n] w λe a=>e=È (Ý #[Ä Ã,Ç Ê 7])/\a=w:=by go_enter ų,ŗ;go_wp2;go_ret2;exact⟨U,U⟩
def anM(n:Int)(h:8<n)(w:Ë):Ò À 17 #[Ç Ê n] w λe a=>e=È (Ý #[Ä Ã,Ç Ê 7])/\a=w:=by go_enter ų,ŗ;go_wp2;go_ret2;exact⟨U,U⟩
def TL(J:St->List (Nat×Int)->Prop)(F:kZ):Prop:=∀s a x y g k,ic s->x<8->y<8->gL k->0<=g->g<=100000->(a.length:Int)+g<=1000000->J s a->J (F s a x y g k).s (F s a x y g k).I
structure aaq(J:St->List (Nat×Int)->Prop):Prop where
 st:∀{s ls} (y j:Nat) (v:Int),J s ls->J (s.C y j v) ls
 mv:∀{s ls y} (q:Int) {p:Int},ic s->y<8->gL p->J s ls->J (qk s y q p).2 ls
 lg:∀{s ls y p},y<8->gL p->J s ls->J s (ls++[(y,p)])
section
variable{c:RC}{F:kZ}{J:St->List (Nat×Int)->Prop}
theorem anN(b:aaq J)(i:TL J F)(d:c.y<8)(k:Nat)(t:RT)(o:k<=20)(a:mW t)(h:J t.s t.C):J (lu F c k t).s (lu F c k t).C:=by
 have f:=ot a.r;have g:=ot<|nW a.r;by_cases j:k=16;subst j;exact b.st _ _ _ h;by_cases l:k=18;subst l;exact b.mv _ a.s d g h;by_cases m:k=19;subst m;exact b.lg d f h;by_cases n:k=20;subst n;show J (jy F c t _ _ _).2.2.s (jy F c t _ _ _).2.2.C;unfold jy;split;exact h;have e:=ot<|nW<|nW a.r;have p:=a.g0;have q:=a.C;have r:=a.I;have u:=f.1;have v:=g.1;exact i _ _ _ _ _ _ a.s d Z e Z Z Z h;have e:(lu F c k t).s=t.s/\(lu F c k t).C=t.C:=by unfold lu;grind
 grind
def aar(b:aaq J):∀n,TL J<|sk n|0=>λ_ _ _ _ _ _ _ _ _ _ _ _ _ h=>h|n+1=>λs d x y g k a f e i j l m h=>by show J (qG (sk n) ⟨x,y,k,4-(n:Int),g⟩ s d).s (qG (sk n) ⟨x,y,k,4-(n:Int),g⟩ s d).I;unfold qG;simp only;split;exact(FN (c:=⟨x,y,k,4-(n:Int),g⟩) (a.I y).1 (λn o=>MY a y o) (DG n) f e i (anN b (aar b n) e) _ _ _ wH ⟨fD,fD,a,j,l,m⟩ h).2;exact h
end
def Nc:TL (λ_ e=>ya e) gS:=aar ⟨λ_ _ _ h=>h,λ_ _ _ _ _ h=>h,λa b h e c=>by obtain q|q:=dx.1 c;exact h e q;simp at q;subst q;exact⟨a,b⟩⟩ 4
def anO{s:St}(b:ic s){ls:List (Nat×Int)}{t:Tx}(a:t.Ok)(c:(ls.length:Int)+400<=1000000)(h:ya ls):ya (nX s ls t).2.2.2:=by unfold nX;split;exact h;split;exact h;unfold x8;split;exact h;have d:=(b.fC t.x).2;exact Nc _ ls t.x t.y (t.n-10) t.k (b.r t.x ⟨Z,Z⟩) a.x a.y ⟨a.r,by have:=a.C;omega⟩ Z Z Z h
def BG(us:List (Int×Bool)):Prop:=∀e∈us,0<=e.1/\e.1<=400
def BG.Cq{us:List (Int×Bool)}(h:BG us){e:Int×Bool}(a:0<=e.1)(b:e.1<=400):BG (us++[e]):=λx c=>by obtain q|q:=dx.1 c;exact h x q;simp at q;subst q;exact⟨a,b⟩
structure TM(v:gf):Prop where
 C:ya v.C
 r:BG v.r
 I:v.C.length<=400000
 M:v.r.length<=1000
def TN:∀(a:List Tx) {s:St} {ls:List (Nat×Int)} {us:List (Int×Bool)} {r:St×List (Nat×Int)×List (Int×Bool)},(∀t∈a,t.Ok)->ic s->ya ls->BG us->ls.length+400*a.length<=400000->us.length+a.length<=1000->va m s ls us a=Â r->ic r.1/\ya r.2.1/\BG r.2.2/\r.2.1.length<=400000/\r.2.2.length<=1000
 |[],s,ls,us,r,_,hs,hl,hu,n1,n2,h=>by cases h;exact⟨hs,hl,hu,fN n1,fN n2⟩
 |t::q,s,ls,us,r,ht,hs,hl,hu,n1,n2,h=>by unfold va at h;simp only[eH]at n1 n2;split at h;have d:=Z_ (ls:=ls) hs (ht t fD) Z;have e:=d.C;exact TN q (λb c=>ht b<|fi _ c) (d.s.r m<|uW _) (anO hs (ht t fD) Z hl) (hu.Cq d.g0 d.r) Z (by simp;omega) h;cases h
def anP{s:St}{a:List Tx}{r:St×List (Nat×Int)×List (Int×Bool)}(b:∀t∈a,t.Ok)(c:ic s)(k:a.length<=1000)(e:o9 m s a=Â r):TM ⟨r.1,r.2.1,r.2.2,h⟩:=by unfold o9 at e;obtain⟨l,d,rfl⟩:=Ø.1 e;let⟨_,f,g,i,j⟩:=TN a b c (λ_ q=>by cases q) (λ_ q=>by cases q) (by simp;omega) (by simp;omega) d;exact⟨f,g,i,j⟩
end gO
end Go.Proofs.Y
namespace Go.Proofs
open Go.Shelf
def Tryz.lays283_ren:Ĝ:=⟨fun|283=>171|n=>n,fun|3=>3|9=>9|4=>4|n=>n,fun|n=>n⟩
def Tryz.lays283:aZ À Tryz.lays283_ren:={
 mixed:=fK
 f283:=Tryz.func171.trans<|congrArg Â fK
 t3:=õ
 a3:=ķ
 z3:=ı
 v3:=Ė
 t4:=Ď
 a4:=ĸ
 z4:=Ĳ
 v4:=ė
 t9:=Ą
 a9:=Ĺ
 z9:=ĳ
 v9:=Ę}
open Go.Lib in
def Tryz.internal_strconv_small(i:Nat)(h:i<100)(w:Ë):
 Ò À 171 #[Ç Ê i] w λe a=>e=È (Å ⟨(đ i).toArray⟩)/\a=w:=Any.internal_strconv_small Tryz.lays283 i h w
def Tryz.laysM284_ren:Ĝ:=⟨fun|284=>172|129=>182|317=>181|318=>183|n=>n,fun|53=>23|3=>3|212=>285|0=>0|4=>4|46=>161|5=>5|9=>9|n=>n,fun|17=>1|n=>n⟩
def Tryz.laysM284:Go.Proofs.LaysM.n284 À Tryz.laysM284_ren:={
 mixed:=fK
 f129:=Tryz.func182.trans<|congrArg Â fK
 f284:=Tryz.func172.trans<|congrArg Â fK
 f317:=Tryz.func181.trans<|congrArg Â fK
 f318:=Tryz.func183.trans<|congrArg Â fK
 t0:=Ŭ
 a0:=aF
 z0:=ο
 v0:=ź
 t3:=õ
 a3:=ķ
 z3:=ı
 v3:=Ė
 t4:=Ď
 a4:=ĸ
 z4:=Ĳ
 v4:=ė
 t5:=ď
 a5:=aG
 z5:=π
 v5:=Ż
 t9:=Ą
 a9:=Ĺ
 z9:=ĳ
 v9:=Ę
 t46:=ŏ
 a46:=Υ
 z46:=Ζ
 v46:=Ř
 t53:=ý
 a53:=ř
 z53:=ŉ
 v53:=Ĩ
 t212:=Ő
 a212:=Tryz.isAgg285
 z212:=Tryz.sizeOf285
 v212:=Tryz.zeroValue285
 g17:=fK
 i0:=fK
 i3:=fK
 i4:=fK
 i5:=fK
 i9:=fK
 i46:=fK
 i53:=fK
 i212:=fK
 m17:=by kernel_rfl}
open Go.Lib in
def Tryz.internal_strconv_numDigits(u:Nat)(a:1<=u)(b:u<18446744073709551616)(w:Ë)(c:ĩ À w "internal/strconv.uint64pow10" Ð Ś):
 Ò À 172 #[Ç Ð u] w λe d=>e=È (Ç Ê<|Ā u)/\d=w:=Any.internal_strconv_numDigits Tryz.laysM284 u a b w c
def Tryz.lays285_ren:Ĝ:=⟨fun|285=>173|n=>n,fun|37=>98|53=>23|3=>3|4=>4|51=>86|9=>9|5=>5|0=>0|n=>n,fun|n=>n⟩
def Tryz.lays285:a8 À Tryz.lays285_ren:={
 mixed:=fK
 f285:=Tryz.func173.trans<|congrArg Â fK
 t0:=Ŭ
 a0:=aF
 z0:=ο
 v0:=ź
 t3:=õ
 a3:=ķ
 z3:=ı
 v3:=Ė
 t4:=Ď
 a4:=ĸ
 z4:=Ĳ
 v4:=ė
 t5:=ď
 a5:=aG
 z5:=π
 v5:=Ż
 t9:=Ą
 a9:=Ĺ
 z9:=ĳ
 v9:=Ę
 t37:=Č
 a37:=Tryz.isAgg98
 z37:=Tryz.sizeOf98
 v37:=Tryz.zeroValue98
 t51:=ś
 a51:=ρ
 z51:=Χ
 v51:=ŭ
 t53:=ý
 a53:=ř
 z53:=ŉ
 v53:=Ĩ}
open Go.RowKit Go.Sort Go.Lib in
def Tryz.internal_strconv_formatBase10(a c f:Nat)(u:Nat)(d:Array UInt8)(w:Ë)(h:Holds (λ(b:UInt8)=>Ç ņ (b.toNat:Int)) w a c d)(i:u<10^d.size)(j:u<18446744073709551616)(k:d.size<4611686018427387904):
 Ò À 173 #[Æ (Â ⟨a,c,Ã⟩) d.size f,Ç Ð u] w λe l=>
  e=È (Ý #[])/\∃(n m:Nat) (g:Array UInt8),l=(Η (λ(b:UInt8)=>Ç ņ (b.toNat:Int)) w a c g).drewN n/\FmtInv d.size u 0 m g:=Any.internal_strconv_formatBase10 Tryz.lays285 a c f u d w h i j k
def Tryz.lays99_ren:Ĝ:=⟨fun|99=>159|206=>178|n=>n,fun|9=>9|4=>4|3=>3|n=>n,fun|n=>n⟩
def Tryz.lays99:bh À Tryz.lays99_ren:={
 mixed:=fK
 f99:=Tryz.func159.trans<|congrArg Â fK
 f206:=Tryz.func178.trans<|congrArg Â fK
 t3:=õ
 a3:=ķ
 z3:=ı
 v3:=Ė
 t4:=Ď
 a4:=ĸ
 z4:=Ĳ
 v4:=ė
 t9:=Ą
 a9:=Ĺ
 z9:=ĳ
 v9:=Ę}
open Go.RowKit Go.Lib in
def Tryz.strings_HasPrefix(s p:ByteArray)(w:Ë):
 Ò À 159 #[Å s,Å p] w λe a=>e=È (á<|Ŋ s.data.toList p.data.toList)/\a=w:=Any.strings_HasPrefix Tryz.lays99 s p w
def Tryz.lays212_ren:Ĝ:=⟨fun|212=>158|263=>176|264=>177|n=>n,fun|46=>161|51=>86|146=>279|53=>23|148=>281|n=>n,fun|n=>n⟩
def Tryz.lays212:bg À Tryz.lays212_ren:={
 mixed:=fK
 f212:=Tryz.func158.trans<|congrArg Â fK
 f263:=Tryz.func176.trans<|congrArg Â fK
 f264:=Tryz.func177.trans<|congrArg Â fK
 t46:=ŏ
 a46:=Υ
 z46:=Ζ
 v46:=Ř
 t51:=ś
 a51:=ρ
 z51:=Χ
 v51:=ŭ
 t53:=ý
 a53:=ř
 z53:=ŉ
 v53:=Ĩ
 t146:=Tryz.underlying279
 a146:=Tryz.isAgg279
 z146:=Tryz.sizeOf279
 v146:=Tryz.zeroValue279
 t148:=Tryz.underlying281
 a148:=Tryz.isAgg281
 z148:=Tryz.sizeOf281
 v148:=Tryz.zeroValue281}
open Go.RowKit Go.Lib in
def Tryz.bits_Mul(x y:Nat)(a:x<18446744073709551616)(b:y<18446744073709551616)(w:Ë):
 Ò À 158 #[Ç Ð x,Ç Ð y] w λe c=>e=È (Ý #[Ç Ð ((x*y/18446744073709551616:Nat):Int),Ç Ð ((x*y%18446744073709551616:Nat):Int)])/\c=w:=Any.bits_Mul Tryz.lays212 x y a b w
end Go.Proofs
namespace Go.Proofs.Y
namespace gO
open RowKit Go.Sort Lift
def BH:UInt8->Î:=λb=>Ç ņ (b.toNat:Int)
def pW(w:Ë):Prop:=ĩ À w "internal/strconv.uint64pow10" Ð Ś
def anQ(a:kU w)(b:Nat)(f:Array Î->Array Î):kU (Ī w b f):=by
 intro i o h;unfold Ī at h;simp only[fh]at h;split at h;cases d:w.heap[i]? with
 |none=>rw[d]at h;cases h
 |some e=>
  have:=a _ _ d;rw[d]at h;cases e with|cells c t z=>simp only[dT,dI]at h;subst h;exact λx=>x|_=>exact absurd trivial this
 .exact a i o h
def anR(a:tT m w)(b:Nat)(f:Array Î->Array Î)(j:NF b w):tT m (Ī w b f):=by
 intro i c T k l h g;unfold Ī at h;simp only[fh]at h;split at h;rename_i e;subst e;cases d:w.heap[b]? with
 |none=>rw[d]at h;cases h
 |some n=>
  rw[d]at h;cases n with
  |cells o t z=>
   simp only[dT,dI,onCells,Obj.cells.injEq]at h;have:=j _ _ _ d;rw[h.2.1,g]at this;cases this
  |_=>simp only[dT,dI,onCells]at h;cases h
 .exact a i c T k l h g
def fw.fR(w:World)(T:TypeId)(cs:Array Value)(off:Nat)(d:Array UInt8)(n:Nat)(hT:my T=false:=by decide):fw fB w ((putRow BH (w.alloc<|.cells cs T) w.heap.size off d).drewN n):=⟨by simp[Η,Ī,World.drewN],λk hk _=>by show(Ī (w.alloc<|Ô cs T) w.heap.size _).heap[k]?=_;simp only[Ī,fh];rw[if_neg Z];exact ī _ _ _ hk,λa=>anQ (I0 a cs T (0,0)) _ _,λ_ a=>anR (I1 a cs T (0,0)<|É hT) _ _<|fy.S (fy.N w cs.toList T) hT⟩
def anS(w:Ë)(T:ð)(a:Nat)(c:a<=24):Holds BH (w.alloc<|Ô ē T) w.heap.size 0 (ę a (0:UInt8)):=λj b=>by have d:j<a:=fN b;refine⟨?_,World.frozen?_alloc_new _ _ _ _⟩;rw[World.cell?_alloc_new,Lib.zeros24_at _ Z,getElem!_pos _ j b];simp[BH]
def gR(u:Nat):ByteArray:=⟨(đ u).toArray⟩
def anT(u:Nat)(h:u<100)(w:Ë):Ò À 156 #[Ç Ð u,Ç Ê 10] w λe a=>e=È (Å<|gR u)/\a=w:=by go_enter Ŝ,ŋ;go_wp2_with (go_at_call 171;refine iT (Tryz.internal_strconv_small u h _) ?_);go_ret;exact⟨U,U⟩
def anU(u:Nat)(h:¬u<100)(b:u<18446744073709551616)(w:Ë)(m:pW w):Ò À 156 #[Ç Ð u,Ç Ê 10] w λe c=>e=È (Å<|gR u)/\fw fB w c:=by
 have g:1<=u:=Z;have o:Ā u<=20:=by have:=Lib.numDigits_eq u g b;split at this<;>omega
 have n:À.arrayLen 270=24:=fK;have p:∀W,(Instr.sliceAt 270 (Ä<|Â ⟨w.heap.size,0,Ã⟩) Ã (Â<|Ç Ê (Ā u:Int)) Ã).run À W=bq (Æ (Â ⟨w.heap.size,0,Ã⟩) (Ā u) 24) W:=λW=>by rw[run_sliceAt_array_h W 270 ⟨w.heap.size,0,Ã⟩ (by simp[Program.arrayLen,Program.elem,Tryz.type270]) Ê (Ā u:Int) Z (by rw[n];omega)];go_simp
 have i:=anS w 270 (Ā u) Z;have l:=Tryz.internal_strconv_formatBase10 w.heap.size 0 24 u (ę (Ā u) 0) (w.alloc<|Ô ē 270) i (by rw[ā];exact Lib.lt_pow_nDigits u) b (by rw[ā];omega);rw[ā]at l;go_enter Ŝ,ŋ;go_wp2_with (go_at_call 172;refine iT (Tryz.internal_strconv_numDigits u g b _<|Lib.tabIs_alloc m _) ?_);go_at_call 173;refine gl l λc ⟨k,q,a,d,hF⟩=> ?_;replace d:c=(Η BH (w.alloc<|Ô ē 270) w.heap.size 0 a).drewN k:=d;subst d;have r:(convert 98 9<|Æ (Â ⟨w.heap.size,0,Ã⟩) (Ā u) 24).run À ((Η BH (w.alloc<|Ô ē 270) w.heap.size 0 a).drewN k)=bq (Å<|gR u) ((Η BH (w.alloc<|Ô ē 270) w.heap.size 0 a).drewN k):=by have h:=Ĵ (P:=À) ((Η BH (w.alloc<|Ô ē 270) w.heap.size 0 a).drewN k) 98 9 5 ⟨w.heap.size,0,Ã⟩ 24 (đ u) fK fK fK (λj f=>by rw[Lib.row_is_numeral hF j f,Lib.add_plain,World.cell?_drewN];exact cell?_putRow BH _ w.heap.size 0 _ a (Lib.hid i).out (by rw[hF.size,ā]) j<|by rw[hF.size];rwa[Ĕ]at f);rwa[Ĕ]at h
 go_wp2;go_ret;exact⟨U,fw.fR w 270 _ _ a k⟩
def anV(u:Nat)(d:u<18446744073709551616)(w:Ë)(f:pW w):Ò À 156 #[Ç Ð u,Ç Ê 10] w λe c=>e=È (Å<|gR u)/\fw fB w c:=by by_cases h:u<100;exact(anT u h w).mono λe c ⟨a,b⟩=>⟨a,b▸fw.gy _ _⟩;exact anU u h d w f
def anW(u:Nat)(b:u<18446744073709551616)(w:Ë)(c:pW w):Ò À 141 #[Ç Ð u,Ç Ê 10] w λe a=>e=È (Å<|gR u)/\fw fB w a:=by go_enter ς,Ω;go_wp2_with (go_at_call 156;refine gl (anV u b _ c) λa d=> ?_);go_ret;exact⟨U,d⟩
def zD(u:Nat)(b:u<18446744073709551616)(w:Ë)(c:pW w):Ò À 102 #[Ç Ð u] w λe a=>e=È (Å<|gR u)/\fw fB w a:=by go_enter Tryz.func102,Tryz.ntmps102;go_wp2_with (go_at_call 141;refine gl (anW u b _ c) λa d=> ?_);go_ret;exact⟨U,d⟩
def TO(B:Nat):jZ:=⟨B,136,[]⟩
def anX(B:Nat):(TO B).Ok:=⟨show(136:Nat)≠23 by decide,show(136:Nat)≠250 by decide,show(136:Nat)≠276 by decide,show(136:Nat)≠294 by decide,show(136:Nat)≠245 by decide,show(136:Nat)≠239 by decide⟩
def aas{s:St}(l:qH n s h w)(z:ic s)(B:lr w)(x y:Nat)(g k:Int)(T:x<8)(V:y<8)(Y:0<=g)(rz:g<=100000)(hk:gL k)(r:mU)(D:r=gS s [] x y g k): Ò À 142 #[Ä<|Â ⟨n,0,Ã⟩,Ç Ê x,Ç Ê y,Ç Ð g,Ç Ð k] w λe f=>
  ∃lv,e=È (Ý #[σ #[Ç Ð r.r,á r.C,Ç Ð r.M],lv])/\f.ownsRow 0 250 2 lv r.I.length (je r.I)/\fw fB w f:=by
 let⟨dd,E,F⟩:=Ø.1 Tz;have G:(À.info? 132).map (·.size)=Â (iU s).length:=by rw[tW];exact X_
 let⟨i0,z0,I,J,K,L⟩:=FP M_;have m:=Tp s (lv:=Æ Ã 0 0) U;rw[By]at m;have o:(iU s++[Æ Ã 0 0]).length=145:=by rw[Ñ,tW];rfl
 have M:=fw.gP fB w #[Ç Ð 0,á Ó,Ç Ð 0] 245;have N:=(l.r M id).C;have iu:=Ĭ w _ l.h;have C:∀W,jk (w.heap.size+1) 136 [] s (Æ Ã 0 0) W->lr W->Ò À 157 #[Ä<|Â ⟨w.heap.size+1,0,Ã⟩,Ç Ê x,Ç Ê y,Ç Ð g,Ç Ð k,Ç Ê 1] W λe f=>e=È (σ #[Ç Ð r.r,á r.C,Ç Ð r.M])/\∃pT,iY (TO<|w.heap.size+1) (Æ Ã 0 0) 0 W r.s r.I f pT:=λW hW hrW=>by rw[D];exact Q' (TO<|w.heap.size+1) (anX _) s _ [] x y g k W hW (ĥ _ _ _ _) hrW z T V Y rz hk<|by simp;omega
 have a:=fv<|Á E<|Á F<|Á G<|Á N<|Á I<|Á K<|Á (J.trans o.symm)<|Á (L.trans o.symm) m;have H:=fv<|Á B C;clear E F G I J K L m o N l C B z M D;go_enter Tryz.func142,Tryz.ntmps142;go_wp2_with (first|(with_reducible refine wpList_load_mid U 132 _ U n 0 U (iU s) dd a.oQ.2.2.2.1 a.oQ.1 a.oQ.2.1 a.oQ.2.2.1 ?_)|(with_reducible refine à U (Â 19) U _ _ (Ty U U<|tW s) ?_)|(with_reducible refine Tm U U 136 U 12 U _ _ U U a.oQ.2.2.2.2.1 a.oQ.2.2.2.2.2.1 (iU s++[Æ Ã 0 0]) a.oQ.2.2.2.2.2.2.1 a.oQ.2.2.2.2.2.2.2.1 U U a.oQ.2.2.2.2.2.2.2.2 ?_;intro t DF O sf))
 have Bg:t.heap.size=w.heap.size+1+1:=fN sf;have P:jk (w.heap.size+1) 136 [] s (Æ Ã 0 0) t:=by rw[jk,ep,By];simpa using DF
 have Q:=(fw.gP _ _ _ _).fA O;have xy:=(fy.N w [Ç Ð 0,á Ó,Ç Ð 0] 245).C O id;go_at_call 157;refine gl (H.2 t P<|H.1.r Q id) λu ⟨lv,d⟩=> ?_;have b:=xy.C d.C (λq=>q.elim (λq=>absurd q<|by show w.heap.size≠w.heap.size+1;omega) λq=>by cases q);have rW:=d.C.M;have zE:u.cell? ⟨w.heap.size+1,144,Ã⟩=Â lv:=d.r.nL Z;obtain⟨la,lc,rfl⟩:=jj d.I;have l0:=b.M;have y0:=b.I 0;have y1:=b.I 1;have y2:=b.I 2;have c0:=b.r 0 _ U;have c1:=b.r 1 _ U;have c2:=b.r 2 _ U;have Jf:w.heap.size+1<u.heap.size:=Z;have c:=fv<|Á d<|Á b<|Á Q P;go_wp2;go_region;go_wp2_with fail;let⟨d2,ry,wz⟩:=Ø.1 Tq;have S:=((fw.I (X:=λk=>k=w.heap.size) (w:=u) (p:=⟨w.heap.size,0,Ã⟩) U<|Ç Ð r.r).fA<|fw.I (X:=λk=>k=w.heap.size) (p:=⟨w.heap.size,1,Ã⟩) U<|á r.C).fA (fw.I (X:=λk=>k=w.heap.size) (p:=⟨w.heap.size,2,Ã⟩) U<|Ç Ð r.M);have v:=λW=>(fw.gP fB W #[Ç Ð r.r,á r.C,Ç Ð r.M] 245).fA<|fw.gM _ _;apply ì (DI U U (fy.Y (vs:=[Ç Ð r.r,á r.C,Ç Ð r.M])<|(((c.2.1.fR 0<|Ç Ð r.r).fR 1<|á r.C).fR 2<|Ç Ð r.M).C (v _) id) ry wz Ts) U;refine⟨_,U,ia (ia c.1.I S λj hj y=> ?_) (v _) λ_ _=>id,?_⟩;let⟨j,i⟩:=lN c.1.I hj;rw[y,c.oQ.2.1]at i;cases i;refine((c.2.2.1.C c.1.C λi j q=> ?_).C S λi j q=> ?_).fA<|v _;obtain q|q:=q;exact absurd q (by show i≠w.heap.size+1;omega);cases q;omega
def tZ(s:St)(x y:Nat)(k:Int):Nat->Nat->ByteArray|_,0=>⟨#[45]⟩|i,n+1=>if(gS s [] x y i k).C then gR i else tZ s x y k (i+1) n
theorem pW.r(h:pW w)(q:fw fB w u):pW u:=by
 unfold pW ĩ ĵ at*;cases a:À.globalNamed "internal/strconv.uint64pow10" with
 |none=>rw[a]at h;cases h
 |some g=>
  rw[a]at h;simp only[ef]at h|-;have b:g<w.heap.size:=by grind
  rwa[q.N g b id]
def anY{s:St}(t:qH n s h w)(u:ic s)(v:lr w)(z:pW w)(J:b<8)(K:m<8)(L:gL c): Ò À 104 #[Ä<|Â ⟨n,0,Ã⟩,Ç Ê b,Ç Ê m,Ç Ð c] w λe M=>e=È (Å<|tZ s b m c 0 401)/\fw fB w M:=by
 generalize B:tZ s b m c 0 401=r;have l:=fv<|Á t<|Á v<|Á z u;clear t v z u;go_enter Tryz.func104,Tryz.ntmps104;go_wp2;go_loopw [12] (λi wr=>∃j:Nat,j<=401/\fw fB w wr/\tZ s b m c j (401-j)=r/\i=Ç Ð j) λi _=>401-(Þ i).toNat
 case atStart=>exact⟨0,eD _,fw.gy _ _,B,U⟩
 case round=>
  obtain⟨j,V,d,f,rfl⟩:=hrel;clear B;by_cases N:j<401
  .rw[show 401-j=(401-(j+1))+1 by omega,tZ]at f;have T:=aas (l.1.r d id) l.2.2.2 (l.2.1.r d id) b m j c J K Z Z L _ U;obtain⟨C,q,D,E,F,G⟩:∃C q D E F,gS s [] b m j c=⟨C,q,D,E,F⟩:=⟨_,_,_,_,_,U⟩;rw[G]at T f;have H:=fv<|Á T<|Á d f;clear T d f G;cases q with
   |true=>
    go_wp2_with (first|(go_at_call 142;apply H.1.mono;rintro e o ⟨O,rfl,a,g⟩;obtain⟨P,Q,rfl⟩:=jj a;have p:=fv<|Á g a;clear g a)|(go_at_call 102;refine gl (zD j Z _ ((l.2.2.1.r H.2.1).r (p.1.fA (fw.gP fB o _ _)))) λW I=> ?_;have S:=fv I;clear I))
    go_ret;exact⟨by rw[<-H.oQ.2.2];rfl,H.2.1.fA<|(p.1.fA<|fw.gP fB o _ _).fA S⟩|false=>
    go_wp2_with (first|(go_at_call 142;apply H.1.mono;rintro e o ⟨O,rfl,a,g⟩;obtain⟨P,Q,rfl⟩:=jj a;have p:=fv (Á g a);clear g a))
    exact⟨⟨j+1,N,H.2.1.fA<|p.1.fA<|fw.gP fB o _ _,H.2.2,by go_num⟩,by simp[Þ];omega⟩
  .obtain rfl:j=401:=Z;subst f;go_wp2;go_ret;exact⟨U,d⟩
def Nf:(À.info? 9).map iF=Â (Â<|Å ⟨#[]⟩,1,16):=fK
def ow(a:List ByteArray):List Î:=a.map Å
structure kD(w0:Ë)(tv:Î)(xs:List ByteArray)(w:Ë):Prop where
 fE:w.ownsRow w0.heap.size 9 1 tv xs.length (ow xs)
 r:fw fB w0 w
section
variable{w0:Ë}{tv:Î}{xs:List ByteArray}
def kD.N(w0:Ë){w:Ë}(k:fw fB w0 w):kD w0 (Æ Ã 0 0) [] w:=⟨ĥ _ _ _ _,k⟩
def kD.fH(h:kD w0 tv xs w)(k:fw fB w u):kD w0 tv xs u:=⟨ia h.fE k λ_ _=>id,h.r.fA k⟩
def kD.M(h:kD w0 tv xs w)(a:nU w w0.heap.size 9 1 tv xs.length (ow xs) 1 [Å B] v u):kD w0 v (xs++[B]) u:=by refine⟨?_,h.r.C a.r λi b q=> ?_⟩;have:=a.fE;rwa[show ow xs++[Å B]=ow (xs++[B]) by simp[ow],show xs.length+1=(xs++[B]).length by simp]at this;have:=(h.fE.lt i q).1;omega
end
theorem pw(u:Nat)(h:u<18446744073709551616):(gR u).size<=20:=by have:=Lib.nDigits_le20 u h;unfold gR;show(đ u).toArray.size<=20;grind [Ĕ]
def rB(p:Option ø)(a:List Î)(w:Ë):Prop:=∀(j:Nat)(x:Î),a[j]?=Â x->∃b o,p=Â ⟨b,o,Ã⟩/\w.cell? ⟨b,o+j,Ã⟩=Â x
def rB.C(h:rB O l w)(q:fw fB w u):rB O l u:=λj x a=>by let⟨b,o,c,d⟩:=h j x a;exact⟨b,o,c,q.r d id⟩
def rB.r{base:Nat}(h:w.ownsRow base e i (Æ O n j) n l):rB O l w:=λb x d=>by obtain⟨f,k⟩|⟨g,m,o,f,_⟩:=h.2;have:=h.1;rw[k,bR]at this;rw[Ù this]at d;cases d;cases f;refine⟨g,0,U,?_⟩;have:=h.cells (g:=g) U b x d;rwa[Addr.add_mid]at this
def BI(f g:gX->Î):∀(l:List gX)(j:Nat)(x:gX),l[j]?=Â x->(l.flatMap λp=>[f p,g p])[j*2]?=Â (f x)/\(l.flatMap λp=>[f p,g p])[j*2+1]?=Â (g x)
 |[],j,x,h=>by cases h
 |a::l,0,x,h=>by cases h;exact⟨U,U⟩
 |a::l,j+1,x,h=>by rw[show(j+1)*2=j*2+1+1 by omega];exact BI f g l j x h
def mA(y:Nat):ByteArray:=þ ⟨#[97,98,99,100,101,102,103,104]⟩ y<|y+1
def kO(e:Nat×Int):ByteArray:=mA e.1++gR e.2.toNat
def aat{cp:Nat}(S:n=gJ.length)(hn:n<=400000)(v:ya gJ)(B:pW w)(C:rB O (je gJ) w): Ò À 108 #[Æ O n cp] w λe d=>∃f,e=È f/\kD w f (gJ.map kO) d:=by
 have H:=fv<|Á v<|Á B C;clear v B C;subst S;go_enter Tryz.func108,Tryz.ntmps108;go_wp2;go_loopw [3,8] (λf i wr=>∃j:Nat,j<=gJ.length/\kD w f ((gJ.take j).map kO) wr/\i=Ç Ê j) λ_ i _=>gJ.length-(Þ i).toNat
 case atStart=>exact⟨0,eD _,kD.N w<|fw.gy _ _,U⟩
 case round=>
  obtain⟨j,hj,a,rfl⟩:=hrel;by_cases D:j=gJ.length
  .subst D;have g:=fv a;clear a;go_wp2;go_ret;exact⟨_,U,by have:=g.oQ;rwa[eG Z]at this⟩
  .obtain⟨x,b⟩:∃x,gJ[j]?=Â x:=⟨_,fe Z⟩;obtain⟨E,F,rfl,G⟩:=H.2.2 (j*2) _ (BI _ _ gJ j x b).1;let⟨sb2,so2,T,I⟩:=H.2.2 (j*2+1) _ (BI _ _ gJ j x b).2;cases T;have k:=H.1 x<|eU b;have V:j<gJ.length:=Z
   have J:kO x=mA x.1++gR x.2.toNat:=U;have W:(gJ.take<|j+1).map kO=(gJ.take j).map kO++[kO x]:=by rw[cD,b,bW];rfl
   have E2:((gJ.take j).map kO).length<=400000:=by simp;omega
   let⟨y,z⟩:=x;obtain⟨p,rfl⟩:∃p:Nat,z=p:=⟨z.toNat,by have:=k.2.1;omega⟩;have hy:y<8:=k.1;have L:p<18446744073709551616:=by have:=k.2.2;omega
   rw[show((p:Nat):Int).toNat=p from rfl]at J;have xx:wr.cell? ⟨E,F+j*2,Ã⟩=Â (Ç Ê y):=a.r.r G id;have zF:wr.cell? ⟨E,F+j*2+1,Ã⟩=Â (Ç Ð p):=a.r.r I id;generalize(gJ.take j).map kO=xs at*;clear G I b k D;have e0:(0:Int)<=(j:Int):=Z;have e1:(j:Int)<(gJ.length:Int):=Z;have y0:(0:Int)<=(y:Int):=Z;have y1:(y:Int)<8:=Z;have jV:=pw p L;have rm:Ê.wrap ((y:Int)+1)=(y:Int)+1:=by rw[í];omega
   have TP:(0:Int)<=(y:Int)+1:=Z;have FX:(y:Int)+1<=8:=Z;have Dz:(y:Int)<=(y:Int)+1:=Z;have TQ:((y:Int)+1).toNat=y+1:=Z;have hw4:¬9223372036854775807<min (y+1) 8-y+(gR p).size:=Z;obtain⟨ta,tc,rfl⟩:=jj a.fE;have g:=fv a;clear a;go_wp2_with fail;change Code.wp À _ _ _ (wr.alloc<|Ô #[Ç Ê y,Ç Ð p] 250);have M:=fw.gP fB wr #[Ç Ê y,Ç Ð p] 250;have X:=(g.fH M).fH<|fw.gM _ _;have Y:=((H.2.1.r g.r).r M).r<|fw.gM _ _;have s:=(fy.N wr [Ç Ê y,Ç Ð p] 250).C (fw.gM fB _) id;let⟨i0,pe,mX,Bz,BA⟩:=ć Nf;have m:=fv<|Á pe<|Á mX<|Á Bz BA;refine mI (λd=>d.cell? ⟨wr.heap.size,0,Ã⟩=Â (Ç Ê y)/\d.cell? ⟨wr.heap.size,1,Ã⟩=Â (Ç Ð p)) [] fK ?_;generalize wr.heap.size=ub at*;generalize ő (wr.alloc<|Ô #[Ç Ê y,Ç Ð p] 250)=w1 at*;iterate 9 apply tk (fv<|Á (s.r 0 _ rfl)<|s.r 1 _ rfl).oQ
   refine nN 9 ?_;refine nV (zD p L _ Y) λw2 N=> ?_;have T2:=X.fH N;have c:=s.C N id;refine⟨λ_=>⟨c.r 0 _ U,c.r 1 _ U⟩,?_⟩;refine jM 10 (λ_=>⟨c.r 0 _ U,c.r 1 _ U⟩) ?_;have P:=fw.gP fB w2 #[Å<|mA y++gR p] 9;have o:=T2.fH P;have q:=c.C P id;refine jM 11 (λ_=>⟨q.r 0 _ U,q.r 1 _ U⟩) ?_;apply np 12;intro K hK;refine FJ gq _ _ 54 gq ñ m.1 m.2.1 m.2.2.1 m.2.2.2 U gq o.fE ⟨_,0,Ã⟩ [Å<|mA y++gR p] gq Z U (ã _ _ _) (λu Q=>by simp at Q;subst Q;rfl) (by unfold ó;omega) Z o.r.M ?_;intro tv1 w9 t;obtain⟨a2,cp2,rfl⟩:=jj t.fE;have r:=q.C t.r<|iG o.fE q A;apply hK.out _ _ λ_=>⟨r.r 0 _ U,r.r 1 _ U⟩;refine jM 13 (λ_=>⟨r.r 0 _ U,r.r 1 _ U⟩) ?_;refine ma ?_;go_wp2;go_roundw
   case rel=>exact⟨j+1,V,by rw[W,J];exact o.M t,by go_num⟩
   case measure=>
    simp[Þ];omega
def aau(b:Bool):uU b=((b.toNat:Nat):Int):=by cases b<;>rfl
def mY(e:Int×Bool):ByteArray:=gR e.2.toNat++⟨#[58]⟩++gR e.1.toNat
def anZ{cp:Nat}(hl:n=bJ.length)(hn:n<=1000)(D:BG bJ)(E:pW w)(F:rB O (yb bJ) w): Ò À 109 #[Æ O n cp] w λe f=>∃g,e=È g/\kD w g (bJ.map mY) f:=by
 have H:=fv<|Á D<|Á E F;clear D E F;subst hl;go_enter Tryz.func109,Tryz.ntmps109;go_wp2;go_loopw [3,8] (λg i wr=>∃j:Nat,j<=bJ.length/\kD w g ((bJ.take j).map mY) wr/\i=Ç Ê j) λ_ i _=>bJ.length-(Þ i).toNat
 case atStart=>exact⟨0,eD _,kD.N w<|fw.gy _ _,U⟩
 case round=>
  obtain⟨j,hj,a,rfl⟩:=hrel;by_cases G:j=bJ.length
  .subst G;have k:=fv a;clear a;go_wp2;go_ret;exact⟨_,U,by have:=k.oQ;rwa[eG Z]at this⟩
  .obtain⟨x,c⟩:∃x,bJ[j]?=Â x:=⟨_,fe Z⟩;obtain⟨I,J,rfl,L⟩:=H.2.2 (j*2) _ (BI _ _ bJ j x c).1;let⟨sb2,so2,an0,M⟩:=H.2.2 (j*2+1) _ (BI _ _ bJ j x c).2;cases an0;have t:=H.1 x<|eU c;have iu:j<bJ.length:=Z
   have htk:(bJ.take<|j+1).map mY=(bJ.take j).map mY++[mY x]:=by rw[cD,c,bW];rfl
   have E2:((bJ.take j).map mY).length<=1000:=by simp;omega
   let⟨z,b⟩:=x;obtain⟨p,rfl⟩:∃p:Nat,z=p:=⟨z.toNat,by have:=t.1;omega⟩;have N:p<18446744073709551616:=by have:=t.2;omega
   have xx:wr.cell? ⟨I,J+j*2,Ã⟩=Â (Ç Ð p):=a.r.r L id;have zF:wr.cell? ⟨I,J+j*2+1,Ã⟩=Â (á b):=a.r.r M id;generalize(bJ.take j).map mY=xs at*;clear L M c t G;have jV:=pw p N;have P:b.toNat<18446744073709551616:=by cases b<;>decide
   have hsb:=pw b.toNat P;have hw4:¬9223372036854775807<(gR b.toNat).size+1:=Z;have Be:¬9223372036854775807<(gR b.toNat).size+1+(gR p).size:=Z;obtain⟨ta,tc,rfl⟩:=jj a.fE;have k:=fv a;clear a;go_wp2_with fail;change Code.wp À _ _ _ (wr.alloc<|Ô #[Ç Ð p,á b] 239);have Q:=fw.gP fB wr #[Ç Ð p,á b] 239;have T1:=(k.fH Q).fH<|fw.gM _ _;have S:=((H.2.1.r k.r).r Q).r<|fw.gM _ _;have v:=(fy.N wr [Ç Ð p,á b] 239).C (fw.gM fB _) id;let⟨i0,pe,mX,Bz,BA⟩:=ć Nf;have m:=fv<|Á pe<|Á mX<|Á Bz BA;refine mI (λf=>f.cell? ⟨wr.heap.size,0,Ã⟩=Â (Ç Ð p)/\f.cell? ⟨wr.heap.size,1,Ã⟩=Â (á b)) [] fK ?_;have o:=fv<|Á (v.r 0 _ rfl)<|v.r 1 _ rfl;generalize wr.heap.size=ub at*;generalize ő (wr.alloc<|Ô #[Ç Ð p,á b] 239)=w1 at*;iterate 3 apply tk o
   apply tk o 6;apply tk o 7;refine nN 3 ?_;refine nV (I8 _ _) λT Dz=> ?_;subst T;rw[aau];refine⟨λ_=>o,?_⟩;refine nN 4 ?_;refine nV (zD b.toNat P _ S) λT y=> ?_;have T2:=T1.fH y;have B:=v.C y id;have V:=fv<|Á (B.r 0 _ rfl)<|B.r 1 _ rfl;refine⟨λ_=>V,?_⟩;apply tk V 5;refine nN 8 ?_;refine nV (zD p N _<|S.r y) λw3 W=> ?_;have d:=B.C W id;refine⟨λ_=>⟨d.r 0 _ U,d.r 1 _ U⟩,?_⟩;refine jM 9 (λ_=>⟨d.r 0 _ U,d.r 1 _ U⟩) ?_;have X:=fw.gP fB w3 #[Å<|gR b.toNat++⟨#[58]⟩++gR p] 9;have q:=(T2.fH W).fH X;have r:=d.C X id;refine jM 10 (λ_=>⟨r.r 0 _ U,r.r 1 _ U⟩) ?_;apply np 11;intro K hK;refine FJ gq _ _ 54 gq ñ m.1 m.2.1 m.2.2.1 m.2.2.2 U gq q.fE ⟨_,0,Ã⟩ [Å<|gR b.toNat++⟨#[58]⟩++gR p] gq Z U (ã _ _ _) (λu Y=>by simp at Y;subst Y;rfl) (by unfold ó;omega) Z q.r.M ?_;intro tv1 w9 C;obtain⟨a2,cp2,rfl⟩:=jj C.fE;have s:=r.C C.r<|iG q.fE r A;apply hK.out _ _ λ_=>⟨s.r 0 _ U,s.r 1 _ U⟩;refine jM 12 (λ_=>⟨s.r 0 _ U,s.r 1 _ U⟩) ?_;refine ma ?_;go_wp2;go_roundw
   case rel=>exact⟨j+1,iu,by rw[htk];exact q.M C,by go_num⟩
   case measure=>
    simp[Þ];omega
def vf(j:Nat):ByteArray:=þ ⟨#[48,49,50,51,52,53,54,55,56,57,97,98,99,100,101,102]⟩ j<|j+1
def DN(s t:St)(i j:Nat):List ByteArray:=if(s i).r j=(t i).r j then[]else[mA i++vf j]
def py(s t:St)(i j:Nat):List ByteArray:=(é j).flatMap<|DN s t i
def ox(b a:Int)(p c:ByteArray)(i:Nat):List ByteArray:=(if b=a then[]else[mA i++⟨#[36]⟩])++(if p.toList=c.toList then[]else[mA i++⟨#[123]⟩])
def yc(s t:St)(i:Nat):List ByteArray:=ox (s i).fC (t i).fC (s i).C (t i).C i++py s t i 16
def mb(s t:St)(n:Nat):List ByteArray:=(é n).flatMap<|yc s t
def an1(s t:St)(i j:Nat):(DN s t i j).length<=1:=by unfold DN;split<;>simp
def Ng(s t:St)(i j:Nat):py s t i (j+1)=py s t i j++DN s t i j:=by unfold py;rw[Ķ,cM];simp
theorem Nh(s t:St)(i:Nat):∀j,(py s t i j).length<=j|0=>by simp[py]|j+1=>by rw[Ng,Ñ];have:=Nh s t i j;have:=an1 s t i j;omega
theorem Ni(b a:Int)(p c:ByteArray)(i:Nat):(ox b a p c i).length<=2:=by rw[ox,Ñ];split<;>split<;>simp
def aav(s t:St)(n:Nat):mb s t (n+1)=mb s t n++yc s t n:=by unfold mb;rw[Ķ,cM];simp
def TR(s t:St):∀n,(mb s t n).length<=18*n|0=>by simp[mb]|n+1=>by rw[aav,Ñ];have:=TR s t n;rw[yc,Ñ];have:=Nh s t n 16;have:=Ni (s n).fC (t n).fC (s n).C (t n).C n;omega
def F0(i:Nat):(mA i).size<=1:=by rw[mA,ä];omega
def an2(i:Nat):(vf i).size<=1:=by rw[vf,ä];omega
def qH.iH{s:St}(c:qH n s h W)(a:i<8):W.cell? ⟨n,i*18,Ã⟩=Â (Ç Ð (s i).fC)/\W.cell? ⟨n,i*18+1,Ã⟩=Â (Å (s i).C)/\∀j,j<16->W.cell? ⟨n,i*18+2+j,Ã⟩=Â (Ç Ð<|(s i).r j):=by
 have g:∀j,j<144->W.cell? ⟨n,j,Ã⟩=Â (si s j):=λj b=>by have:=c.C j _<|TG s b;simpa using this
 refine⟨?_,?_,λj b=> ?_⟩;rw[g _ Z,<-sU s (Æ Ã 0 0) Z,I7 _ _ a];rfl;rw[g _ Z,<-sU s (Æ Ã 0 0) Z,ML _ _ a];rw[g _ Z,<-sU s (Æ Ã 0 0) Z,MN _ _ a b];rfl
def TS{g:Array Ŗ}{a:aC}{y:ByteArray}{ad:ø}{x:ū}(b:kD W v vX w)(D:vX.length<=400000)(h:∀d m e f,kD W (Æ d m e) (vX++[y]) f->Θ À g vJ fX (a.put o.dst<|Æ d m e) f)(l:∀j u,[Å y][j]?=Â u->w.cell? (ad.add j)=Â u)(n:o.guard=Ã)(p:o.op=.call {callee:=.builtin Ŵ,args:=#[qQ,x],argTypes:=#[54,54]})(q:a.eval qQ=v)(r:a.eval x=Æ (Â ad) 1 i):Θ À g vJ (o::fX) a w:=by let⟨E,t,z,B,C⟩:=ć Nf;refine xU n qQ x 54 p ñ t z B C U q b.fE ad [Å y] r aH U l (λu k=>by simp at k;subst k;rfl) (by unfold ó;omega) Z b.r.M λF f k=> ?_;obtain⟨d,e,rfl⟩:=jj k.fE;exact h _ _ _ _<|b.M k
section
variable{s t:St}
def kD.I{w:Ë}{a:List ByteArray}(h:kD u v vX w)(e:vX=a)(k:fw fB w W):kD u v a W:=e▸h.fH k
def an3(H:qH n s h w)(I:qH j t c w): Ò À 110 #[Ä<|Â ⟨n,0,Ã⟩,Ä<|Â ⟨j,0,Ã⟩] w λe X=>∃g,e=È g/\kD w g (mb s t 8) X:=by
 have J:=fv<|Á H I;clear H I;go_enter Tryz.func110,Tryz.ntmps110;go_wp2;go_loopw [5,11] (λg i wr=>∃a:Nat,a<=8/\kD w g (mb s t a) wr/\i=Ç Ê a) λ_ i _=>8-(Þ i).toNat
 case atStart=>exact⟨0,eD _,kD.N w<|fw.gy _ _,U⟩
 case round=>
  obtain⟨a,hj,b,rfl⟩:=hrel;obtain⟨K,rfl⟩:∃K,K=wr:=⟨_,U⟩;by_cases C:a<8
  .let⟨L,D,M⟩:=J.1.iH C;let⟨N,E,O⟩:=J.2.iH C;have hl:=TR s t a;have c1:=b.r.r L id;have c2:=b.r.r N id;have c3:=b.r.r D id;have c4:=b.r.r E id;have e0:(0:Int)<=(a:Int):=Z
   have r:(a:Int)<8:=Z;have rm:Ê.wrap ((a:Int)+1)=(a:Int)+1:=by rw[í];omega
   have TP:(0:Int)<=(a:Int)+1:=Z;have FX:(a:Int)+1<=8:=Z;have Dz:(a:Int)<=(a:Int)+1:=Z;have TQ:((a:Int)+1).toNat=a+1:=Z;have hw4:¬9223372036854775807<(mA a).size+1:=by have:=F0 a;omega
   have awh:þ ⟨#[97,98,99,100,101,102,103,104]⟩ a (a+1)=mA a:=U;generalize P:(s a).fC=x1 at*;generalize Q:(t a).fC=x2 at*;generalize S:(s a).C=y1 at*;generalize T:(t a).C=y2 at*;have u:=fv (Á (show mb s t (a+1)=mb s t a++ox x1 x2 y1 y2 a++py s t a 16 by rw[aav,yc,P,Q,S,T,dL])<|Á (Á D E)<|Á M O);obtain⟨l,o,rfl⟩:=jj b.fE;have d:=fv b;clear P Q S T b L N D E M O;generalize Y:mb s t a=xs at*;clear Y;go_wp2;go_region;go_wp2;go_region;go_upto_if 34 with fail;go_cut [5] λv wc=>kD w v (xs++ox x1 x2 y1 y1 a) wc
   case first=>
    by_cases r:x1=x2
    .have d1:(x1==x2)=Í:=beq_iff_eq.2 r;go_wp2;go_meet
     case rel=>exact d.I (by simp[ox,r]) kp
    .have d1:(x1==x2)=Ó:=beq_eq_false_iff_ne.2 r;go_wp2_with (at_builtin;refine TS (y:=mA a++⟨#[36]⟩) (d.fH kp) Z ?_ (ã _ _ _) U U U U;intro l m o V b;have d:=fv b;clear b);go_meet
     case rel=>exact d.I (by simp[ox,r]) kp
   case rest=>
   obtain⟨l,o,rfl⟩:=jj hcut.fE;have W:=hcut.r.r u.2.1.1 id;have d4:=hcut.r.r u.2.1.2 id;have d:=fv hcut;clear hcut;go_wp2;go_region;go_upto_if 48 with fail;go_cut [5] λv wc=>kD w v (xs++ox x1 x2 y1 y2 a) wc
   case first=>
    by_cases p:y1.toList=y2.toList
    .have F:(y1.toList==y2.toList)=Í:=beq_iff_eq.2 p;have G:=fv p;clear p;simp only[F,bN,Ι];go_wp2;go_meet
     case rel=>exact d.I (by simp[ox,G.oQ]) kp
    .have F:(y1.toList==y2.toList)=Ó:=beq_eq_false_iff_ne.2 p;have G:=fv p;clear p;simp only[F,bN,Ι];go_wp2_with (at_builtin;refine TS (y:=mA a++⟨#[123]⟩) (d.fH kp) (by have:=Ni x1 x2 y1 y1 a;simp;omega) ?_ (ã _ _ _) U U U U;intro l m o V b;have d:=fv b;clear b);go_meet
     case rel=>exact d.I (by simp[ox,G.oQ]) kp
   case rest=>
   obtain⟨l,o,rfl⟩:=jj hcut.fE;have d:=fv hcut;clear hcut;go_wp2;go_loopw [5,54] (λg i wq=>∃k:Nat,k<=16/\kD w g (xs++ox x1 x2 y1 y2 a++py s t a k) wq/\i=Ç Ê k) λ_ i _=>16-(Þ i).toNat
   case atStart=>exact⟨0,eD _,d.I (by simp[py]) kp,U⟩
   case round=>
    obtain⟨k,hk,b,rfl⟩:=hrel;by_cases z:k<16
    .have s1:=b.r.r (u.2.2.1 k z) id;have s2:=b.r.r (u.2.2.2 k z) id;have f:=Ng s t a k;have q1:=Nh s t a k;have q2:=Ni x1 x2 y1 y2 a;have F1:(xs++ox x1 x2 y1 y2 a++py s t a k).length<=400000:=by simp;omega
     unfold DN at f;generalize(s a).r k=z1 at*;generalize(t a).r k=z2 at*;have r0:(0:Int)<=k:=Z;have r6:(k:Int)<16:=Z;have r1:Ê.wrap ((k:Int)+1)=(k:Int)+1:=Ğ _ ⟨Z,Z⟩;have r2:(k:Int)<=(k:Int)+1:=Z;have r3:(k:Int)+1<=16:=Z;have r4:(0:Int)<=(k:Int)+1:=Z;have r5:((k:Int)+1).toNat=k+1:=Z;have a3:¬9223372036854775807<(mA a).size+(min (k+1) 16-k):=by have:=F0 a;omega
     obtain⟨l,o,rfl⟩:=jj b.fE;generalize B:xs++ox x1 x2 y1 y2 a++py s t a k=ys at*;have d:=fv b;by_cases q:z1=z2
     .rw[if_pos q,ep]at f;have W:(z1==z2)=Í:=beq_iff_eq.2 q;have x:=fv<|Á f B;clear f q b B;go_wp2;go_region;go_wp2;go_roundw
      case rel=>exact⟨k+1,z,by rw[x.oQ.1,x.oQ.2];exact d.fH kp,by go_num⟩
      case measure=>simp[Þ];omega
     rw[if_neg q]at f;have W:(z1==z2)=Ó:=beq_eq_false_iff_ne.2 q;have x:=fv<|Á f B;clear f q b B;go_wp2;go_region;go_wp2_with (at_builtin;refine TS (y:=mA a++vf k) (d.fH kp) F1 ?_ (ã _ _ _) U U U U;intro l m o V b;have d:=fv b;clear b);go_roundw
     case rel=>exact⟨k+1,z,by rw[x.oQ.1,<-dL,x.oQ.2];exact d.fH kp,by go_num⟩
     case measure=>simp[Þ];omega
    .obtain rfl:k=16:=Z;have d:=fv b;clear b;go_wp2;go_roundw
     case rel=>exact⟨a+1,C,by rw[u.oQ.1];exact d.fH kp,by go_num⟩
     case measure=>simp[Þ];omega
  .obtain rfl:a=8:=Z;have d:=fv b;clear b;go_wp2;go_ret;exact⟨_,U,d⟩
end
def an4:(À.info? 5).map iF=Â (Â<|Ç ņ 0,1,1):=fK
theorem fw.Y(f:X p.block)(n:Nat):fw X w (w.freeze p n):=by
 by_cases b:n=0;rw[ş,if_pos b];exact fw.gy _ _;rw[ş,if_neg b];refine⟨fD,λk _ g=> ?_,λa i o h=> ?_,λ_ a=>by have:=R_ a p n;rwa[ş,if_neg b]at this⟩;grind;simp only[fh]at h;split at h;cases d:w.heap[i]? with
 |none=>rw[d]at h;cases h
 |some e=>
  have:=a _ _ d;rw[d]at h;cases e with|cells c t z=>simp only[dT,dI]at h;subst h;exact λx=>x|_=>exact absurd trivial this
 .exact a i o h
def aaw:(À.info? 100).map (·.size)=Â 2:=fK
def an5:liesAt À À.depth 100 (2/À.cellsOf 100) 0 100 1=Í:=fK
def an6(b:Nat)(w:Ë)(d:w.cell? ⟨b,0,Ã⟩=Â (Ä<|Â ⟨b,0,Ã⟩)):Ò À 62 #[Ä<|Â ⟨b,0,Ã⟩] w λe a=>e=È (Ý #[])/\a=w:=by let⟨j,c,_⟩:=Ø.1 aaw;go_enter aI,υ;go_wp2;rw[Lib.run_neq_ptr_same w _ Ħ c];go_wp2;go_end0;exact⟨U,U⟩
def an7(b:Nat)(w:Ë)(g:w.cell? ⟨b,0,Ã⟩=Â (Ä Ã))(a:w.shape? b=Â (100,2))(h:w.frozen? ⟨b,0,Ã⟩=Ó):Ò À 62 #[Ä<|Â ⟨b,0,Ã⟩] w λe d=>e=È (Ý #[])/\d=w.setCell ⟨b,0,Ã⟩ (Ä<|Â ⟨b,0,Ã⟩):=by let⟨j,c,f⟩:=Ø.1 aaw;go_enter aI,υ;go_wp2;rw[Lib.run_to_unsafe w ⟨b,0,Ã⟩ Ħ Œ c (by rw[f];decide) a<|Nat.zero_lt_succ 1];simp only[č];rw[Ě];go_wp2;rw[ě Tryz.func113 fK fK fK fK];rw[Lib.run_noEscape];simp only[č];rw[Ě];go_wp2;rw[Lib.run_from_unsafe w ⟨b,0,Ã⟩ Œ Ħ c a an5];simp only[č];rw[Ě];go_wp2;go_end0;exact⟨U,U⟩
theorem aax{base:Nat}{u h:ð}(j:P.underlying t=Â (.slice e))(k:P.underlying u=Â .string)(p:P.info? e=Â zJ)(G:zJ.zero=Â (Ç ņ 0))(D:zJ.size=1)(H:zJ.bytes=1)(E:w.ownsRow base e 1 v n l)(s:ByteArray)(J:n+s.size<=ó)(Q:n+s.size<=140737488355328)(r:(û #[t,u] h #[v,Å s]).run P w=bq z W)(I:my e=Ó):(kU w->kU W)/\(∀m,tT m w->tT m W):=by
 have S:n+s.size<=9223372036854775807:=by simp only[ó]at J;omega
 have K:l.length=n:=fN E.1;obtain⟨rfl,rfl⟩|⟨g,y,B,rfl,V,F,X,Y,L,htake⟩:=E.2;by_cases C:s.size=0;have a:=Lib.run_firstCells_string (P:=P) w 1 s;rw[C]at a;simp[û,ğ j,ğ k,bG,aJ,p,D,Ō,C,a]at r;grind;have b:=run_append_nil_string w t u h e zJ (Ç ņ 0) j k p G s Z Z (by rw[H];omega);rw[r]at b;cases b;exact⟨λa=>I0 a _ _ _,λ_ a=>I1 a _ _ _<|É I⟩;by_cases M:n+s.size<=y;have awi:B.size=y:=fN L;have b:=Lib.run_append_room_string w t u h e zJ j k p D g n y B F s M Z;rw[r]at b;cases b;refine⟨λa q o d=> ?_,λm a q c T N C d O=> ?_⟩;by_cases f:q=g;subst f;rw[ŵ w q B _ e _ F]at d;cases d;exact λx=>x;rw[Š w g q _ f]at d;exact a q o d;by_cases f:q=g;subst f;rw[ŵ w q B _ e _ F]at d;grind;rw[Š w g q _ f]at d;exact a q c T N C d O;have c:=E.cells U;have b:=Lib.run_append_grow_string w t u h e zJ (Ç ņ 0) j k p G ⟨g,0,Ã⟩ n y l (by rw[D];simpa using K) c s Z Z (by rw[H];exact Κ Z Z);rw[r]at b;cases b;exact⟨λa=>I0 a _ _ _,λ_ a=>I1 a _ _ _<|É I⟩
def an8{P:Program}{ops:Array Oper}{rest:List Oper}{o:Oper}{a:Act}{Q:Exit->Act->World->Prop}{w:World}(I4:o.guard=none)(sl x:Operand)(t u:TypeId)(ho:o.op=.call {callee:=.builtin .append,args:=#[sl,x],argTypes:=#[t,u]}){base:Nat}{e:TypeId}{i:TypeInfo}(ht:P.underlying t=some (.slice e))(hu:P.underlying u=some .string)(hi:P.info? e=some i)(hz:i.zero=some (.int .u8 0))(hsize:i.size=1)(pP:i.bytes=1){v:Value}{n:Nat}{xs:List Value}(hs:a.eval sl=v)(zj:w.ownsRow base e 1 v n xs)(s:ByteArray)(hx:a.eval x=.string s)(Dw:n+s.size<=maxLen)(Dx:n+s.size<=140737488355328)(Dv:base<=w.heap.size)(h:∀v' w',w'.ownsRow base e 1 v' (n+s.size) (xs++Lib.strCells s)->fw (λk=>v.ownBlock=some k) w w'->wpList P ops Q rest (a.put o.dst v') w')(hT:my e=false:=by decide):wpList P ops Q (o::rest) a w:=by refine š I4 λK hK=> ?_;let⟨v',w',hr,h2,h3,_⟩:=Lib.run_append_own_string w base t u o.type e i ht hu hi hz hsize pP v n xs zj s Dw Dx Dv;have kp:fw (λk=>v.ownBlock=Â k) w w':=⟨h3.size,λk hk q=>h3.block k hk λe=>q e.symm,(aax ht hu hi hz hsize pP zj s Dw Dx hr hT).1,(aax ht hu hi hz hsize pP zj s Dw Dx hr hT).2⟩;unfold Γ Ġ;simp only[ho,χ,bj,ψ,Ţ,ţ,ħ,eJ,dR,dG,hs,hx,hr];exact hK _ _<|h v' w' h2 kp
structure vg(w0:Ë)(b:Nat)(bs:List Î)(w:Ë):Prop where
 I:w0.heap.size<=b
 r:fw fB w0 w
 C:∃v,fy b [Ä<|Â ⟨b,0,Ã⟩,v] 100 w/\w.ownsRow w0.heap.size 5 1 v bs.length bs
def vg.fH(h:vg u b l w)(k:fw fB w W):vg u b l W:=by let⟨v,a,c⟩:=h.C;exact⟨h.I,h.r.fA k,v,a.C k id,ia c k λ_ _=>id⟩
theorem TT(h:vg u b l w)(s:ByteArray)(m:l.length+s.size<=140737488355328): Ò À 38 #[Ä<|Â ⟨b,0,Ã⟩,Å s] w λe i=>e=È (Ý #[Ç Ê s.size,.nilIface])/\vg u b (l++ĝ s) i:=by
 let⟨B,c,n,o,p⟩:=ć an4;let⟨v,a,d⟩:=h.C;obtain⟨C,D,rfl⟩:=jj d;have t:=a.r 0 _ U;have E:=a.r 1 _ U;have x:=h.r.M;have y:=iG d a A;have H:=fv<|Á h<|Á c<|Á n<|Á o<|Á p<|Á a d;go_enter Tryz.func38,Tryz.ntmps38;go_wp2_with (first|(go_at_call 62;refine gl (an6 b _ t) λi e=> ?_;subst i)|(at_builtin;refine an8 U _ _ 98 9 U Č Ą H.2.1 H.2.2.1 H.2.2.2.1 H.2.2.2.2.1 U H.2.2.2.2.2.2 s U (by unfold ó;omega) m x ?_;intro g f j k;obtain⟨q,r,rfl⟩:=jj j;have i:=H.2.2.2.2.2.1.C k y;have z:=i.r 0 _ U;have F:=i.r 1 _ U;have G:=i.I 1;have e:=fv (Á k (Á i j));clear k i j))
 go_ret2;have z:=e.2.1.fR 1<|Æ q (l.length+s.size) r;have g:fw (λk=>k=b) f (f.setCell ⟨b,1,Ã⟩<|Æ q (l.length+s.size) r):=fw.I (X:=λk=>k=b) U _<|Ì e.2.1.S;refine⟨U,H.1.I,(H.1.r.C e.1 λi c q=> ?_).C g λi c q=> ?_,_,z,?_⟩;have:=(H.2.2.2.2.2.2.lt i q).1;omega;have:=H.1.I;omega;have:=ia e.2.2 g λj q r=>iG e.2.2 e.2.1 A (by rw[q,r]);grind [Ñ,Ň]
def an9:(À.info? 5).map (·.size)=Â 1:=fK
def aoa:À.cellsOf 5=1:=fK
structure Jq(w0:Ë)(b:Nat)(p:Î)(w:Ë):Prop where
 C:w0.heap.size<=b
 I:fw fB w0 w
 r:fy b [p,Æ Ã 0 0] 100 w
section
variable{w0:Ë}{p:Î}
def Jq.aob(h:Jq w0 b (Ä<|Â ⟨b,0,Ã⟩) w)(f:d.size<=ó):vg w0 b [] ((w.alloc<|Ô d 5).setCell ⟨b,1,Ã⟩<|Æ (Â ⟨w.heap.size,0,Ã⟩) 0 d.size).drew.drew.drew:=by have a:=fw.gP fB w d 5;have c:fw (λk=>k=b) (w.alloc<|Ô d 5) ((w.alloc<|Ô d 5).setCell ⟨b,1,Ã⟩<|Æ (Â ⟨w.heap.size,0,Ã⟩) 0 d.size):=fw.I (X:=λk=>k=b) U _<|Ì (h.r.C a id).S;have k:=(h.r.C a id).fR 1<|Æ (Â ⟨w.heap.size,0,Ã⟩) 0 d.size;have m:=h.r.M;have g:(w.alloc<|Ô d 5).ownsRow w0.heap.size 5 1 (Æ (Â ⟨w.heap.size,0,Ã⟩) 0 d.size) 0 []:=⟨U,Ì ⟨w.heap.size,d.size,d,U,h.I.M,ĺ w _,eD _,f,fD,fD⟩⟩;have l:vg w0 b [] ((w.alloc<|Ô d 5).setCell ⟨b,1,Ã⟩<|Æ (Â ⟨w.heap.size,0,Ã⟩) 0 d.size):=⟨h.C,(h.I.fA a).C c λi n q=>by have:=h.C;omega,_,k,ia g c λj q r=>by cases q;have e:w.heap.size=b:=r;omega⟩;exact((l.fH<|fw.gM _ _).fH<|fw.gM _ _).fH<|fw.gM _ _
theorem aoc(h:Jq w0 b (Ä<|Â ⟨b,0,Ã⟩) w)(n:Nat)(j:n<=281474976710656): Ò À 63 #[Ä<|Â ⟨b,0,Ã⟩,Ç Ê n] w λe c=>e=È (Ý #[])/\vg w0 b [] c:=by
 let⟨a,g,o,k⟩:=Lib.run_makeNoZero w.drew #[3] 98 5 Č n j;have i:Ê.wrap (Ê.wrap 0+(n:Int))=n:=by grind [í]
 have p:(callFunc 114 #[Ç Ê<|Ê.wrap<|Ê.wrap 0+(n:Int)]).run À w.drew=bq (.value<|Æ (Â ⟨w.drew.heap.size,0,Ã⟩) n a.size) (w.drew.drew.drew.alloc<|Ô a 5):=by rw[i,ě Tryz.func114 fK fK fK fK,g];rfl
 have e:=fv (Á (show w.drew.cell? ⟨b,1,Ã⟩=Â (Æ Ã 0 0)from h.r.r 1 _ rfl) trivial);have d:=h.r.C (fw.gP fB w a 5) id;have l:=d.r 1 _ U;have f:=l;have q:=d.I 1;have r:∀W:Ë,(Builtin.copy_ #[98,98] 3 #[Æ (Â ⟨w.heap.size,0,Ã⟩) 0 a.size,Æ Ã 0 0]).run À W=bq (goInt 0) W:=λW=>run_copy_none W 98 98 3 5 _ _ 0 a.size 0 0 Č an9 U;have m:=fv (h.aob<|k<|by unfold ó;omega);clear i h d g;go_enter Tryz.func63,Tryz.ntmps63;go_wp2;refine mI (λc=>c.cell? ⟨b,1,Ã⟩=Â (Æ Ã 0 0)/\True) [] fK ?_;iterate 8 apply tk e
 apply tk e 9;apply tk e 10;apply tk e 11;apply tk e 12;apply tk e 13;refine np 8 ?_;intro K c;go_simp;refine c.out _ _ (λ_=>⟨f,trivial⟩) ?_;refine np 14 ?_;intro K c;go_simp;refine c.out _ _ (λ_=>⟨f,trivial⟩) ?_;refine np 15 ?_;intro K c;go_simp;refine c.out _ _ (λ_=>⟨f,trivial⟩) ?_;refine MU fK ?_ _;go_wp2;go_end0;exact⟨U,m⟩
def aod(h:Jq w0 b (Ä Ã) w)(n:Nat)(j:0<n)(c:n<=281474976710656): Ò À 37 #[Ä<|Â ⟨b,0,Ã⟩,Ç Ê n] w λe a=>e=È (Ý #[])/\vg w0 b [] a:=by
 have d:w.shape? b=Â (100,2):=by have e:w.heap[b]?=_:=h.r;simp[ω,e]
 have e:=fv (show Jq w0 b (Ä<|Â ⟨b,0,Ã⟩) (w.setCell ⟨b,0,Ã⟩<|Ä<|Â ⟨b,0,Ã⟩).drew from⟨h.C,(h.I.C (fw.I (X:=λk=>k=b) U _<|Ì h.r.S) λi k q=>by have:=h.C;omega).fA<|fw.gM _ _,(h.r.fR 0 _).C (fw.gM fB _) id⟩);have k:=fv<|Á (e.r.r 1 _ rfl) trivial;have q:=h.r.r 0 _ U;have f:=h.r.I 0;have l:¬((n:Int)<0):=Z;have m:(0:Int)<(n:Int):=Z;have o:Ê.wrap 0<(n:Int):=by rw[í];omega
 go_enter Tryz.func37,Tryz.ntmps37;go_wp2_with (go_at_call 62;refine gl (an7 b w q d f) λa i=> ?_;subst a);refine mI (λa=>a.cell? ⟨b,1,Ã⟩=Â (Æ Ã 0 0)/\True) [] fK ?_;iterate 13 apply tk k
 refine MU fK ?_ _;go_wp2_with (go_at_call 63;refine gl (aoc e n c) λa i=> ?_;have g:=fv i;clear i);go_end0;exact⟨U,g⟩
def aoe{l:List UInt8}(h:vg w0 b (Û l) w)(d:l≠[]): Ò À 39 #[Ä<|Â ⟨b,0,Ã⟩] w λe K=>e=È (Å ⟨l.toArray⟩)/\fw fB w0 K:=by
 let⟨v,f,c⟩:=h.C;have n:l.length≠0:=fN d
 rw[Ļ]at c;obtain⟨g,e,a,rfl,t,o,u,s,y,z⟩:∃g e a,v=Æ (Â ⟨g,0,Ã⟩) l.length e/\w0.heap.size<=g/\w.heap[g]?=Â (Ô a 5 (0,0))/\l.length<=e/\e<=ó/\a.size=e*1/\a.toList.take (l.length*1)=Û l:=by obtain⟨_,i⟩|⟨g,e,a,j,r⟩:=c.2;exact absurd i n;exact⟨g,e,a,j,r⟩
 have m:=fv (Á (show w.drew.cell? ⟨b,1,Ã⟩=Â (Æ (Â ⟨g,0,Ã⟩) l.length e)from f.r 1 _ rfl) trivial);have B:∀W:Ë,(δ #[98] 170 #[Æ (Â ⟨g,0,Ã⟩) l.length e]).run À W=bq (Ä<|Â ⟨g,0,Ã⟩) W:=λW=>
  Lib.run_unsafeSliceData_row _ _ _ _ _ _ Z
 have C:(aD #[170,3] 9 #[Ä<|Â ⟨g,0,Ã⟩,Ç Ê l.length]).run À w.drew=bq (Å ⟨l.toArray⟩) (w.drew.freeze ⟨g,0,Ã⟩ l.length):=by refine Lib.run_unsafeString_row w.drew 170 3 9 5 Tryz.underlying170 aoa g a.size (by have i:w.drew.heap[g]?=Â (Ô a 5 (0,0)):=o;simp[ω,i]) l d Z (by unfold ó at s;omega) ?_;intro j x i;have:=c.cells U j (Ç ņ x.toNat) (by simp[Û,i]);exact this
 have x:=fv ((h.r.fA<|fw.gM _ _).C (fw.Y (X:=λk=>k=g) (p:=⟨g,0,Ã⟩) U l.length) λi j q=>by omega);have j:=fv (Á ((fw.Y (X:=λk=>k=g) (p:=⟨g,0,Ã⟩) rfl l.length).r m.1 λq=>iG c f A<|by show Â g=Â b;rw[show g=b from(show b=g from q).symm]) trivial);go_enter Tryz.func39,Tryz.ntmps39;go_wp2;refine mI (λK=>K.cell? ⟨b,1,Ã⟩=Â (Æ (Â ⟨g,0,Ã⟩) l.length e)/\True) [] fK ?_;iterate 10 apply tk m
 apply np 10;intro K i;go_simp;apply i.out _ _ λ_=>j;apply np 11;intro K i;go_simp;apply i.out _ _ λ_=>j;refine MU fK ?_ _;go_wp2;go_ret;exact⟨U,x⟩
end
def nu(a:ByteArray)(b:List ByteArray):List UInt8:=b.flatMap λy=>a.data.toList++y.data.toList
def BJ(a:ByteArray):List ByteArray->List UInt8|[]=>[]|x::r=>x.data.toList++nu a r
def jH(xs:List ByteArray):Nat:=(xs.map ļ).sum
def TU(a b:List ByteArray):jH (a++b)=jH a+jH b:=by simp[jH]
def Nj(a:List ByteArray)(j:Nat):jH (a.take j)<=jH a:=by have h:=TU (a.take j)<|a.drop j;simp_all
theorem Nk(a:ByteArray)(c:a.size=1):∀b:List ByteArray,(nu a b).length=jH b+b.length
 |[]=>rfl
 |x::r=>by
  have e:nu a (x::r)=(a.data.toList++x.data.toList)++nu a r:=U;have d:a.data.toList.length=1:=fN c;have f:x.data.toList.length=x.size:=fD;have g:jH (x::r)=x.size+jH r:=by simp[jH]
  rw[e,Ñ,Ñ,Nk a c r,d,f,g,eH];omega
def aay(h:vX[j]?=Â B):jH (vX.take<|j+1)=jH (vX.take j)+B.size:=by rw[cD,h,TU];simp[jH]
section
variable{sep:ByteArray}{xs:List ByteArray}
def lG(sep:ByteArray)(xs:List ByteArray):ByteArray:=⟨(BJ sep xs).toArray⟩
def aof:Ò À 21 #[Æ O 0 i,Å sep] w λe a=>e=È (Å ⟨#[]⟩)/\fw fB w a:=by go_enter ĕ,Ť;go_wp2;go_ret;exact⟨U,fw.gy _ _⟩
def aog(a b:Nat)(x:ByteArray)(d:w.cell? ⟨a,b,Ã⟩=Â (Å x)):Ò À 21 #[Æ (Â ⟨a,b,Ã⟩) 1 i,Å sep] w λe c=>e=È (Å x)/\fw fB w c:=by go_enter ĕ,Ť;go_wp2;go_ret;exact⟨U,fw.gy _ _⟩
theorem aoh(k:Nat)(hk:1<=k)(hn:k<1000000)(p q:Nat)(hcp:k+1<=i)(D:sep.size=1)(x:ByteArray)(F:k=xs.length)(r:rB (Â ⟨p,q,Ã⟩) (ow<|x::xs) w)(hm:jH (x::xs)+(k+1)<=140737488355328): Ò À 21 #[Æ (Â ⟨p,q,Ã⟩) (k+1) i,Å sep] w λe V=>e=È (Å<|lG sep<|x::xs)/\fw fB w V:=by
 have W:jH (x::xs)=x.size+jH xs:=by simp[jH]
 have G:rB (Â ⟨p,q+1,Ã⟩) (ow xs) w:=λj u X=>by let⟨b,o,e1,e2⟩:=r (j+1) u (by simpa[ow]using X);grind
 let⟨_,_,g,I⟩:=r 0 (Å x) U;cases g;have J:w.cell? ⟨p,q,Ã⟩=Â (Å x):=I;have K:x.data.toList++nu sep xs≠[]:=by grind [Ñ,Nk,ż]
 have e3:(1:Int)<9223372036854775807/(k:Int):=by rw[Int.lt_iff_add_one_le,Int.le_ediv_iff_mul_le Z];omega
 have L:(Û []).length+x.size<=140737488355328:=by simp[Û];omega
 have H:=fv<|Á r<|Á G<|Á F<|Á L<|Á K<|Á J W;clear L K I J r G F;go_enter ĕ,Ť;go_wp2_with fail;go_loop [5,41] (λm a=>∃j:Nat,j<=k+1/\m=Ç Ê ((k+jH ((x::xs).take j):Nat):Int)/\a=Ç Ê j) λ_ a=>k+1-(Þ a).toNat
 case atStart=>exact⟨0,eD _,by simp[jH],U⟩
 case round=>
  obtain⟨j,N,rfl,rfl⟩:=hrel;by_cases v:j=k+1
  .subst v;rw[eG (by simp[H.oQ.2.2.1])];have O:0<k+jH (x::xs)/\k+jH (x::xs)<=281474976710656:=Z;generalize k+jH (x::xs)=M at*;go_wp2_with (first|(go_at_call 37;refine gl (aod ⟨eE _,fw.gP _ _ _ _,fy.N w [Ä Ã,Æ Ã 0 0] 100⟩ M O.1 O.2) λY d=> ?_;have c1:=d.r.r H.2.2.2.2.2.1 id;have z:=fv d;clear d)|(go_at_call 38;refine gl (TT z x H.2.2.2.1) λP l=> ?_;have HB2:=fv l;clear l))
   go_loopw [65] (λa wr=>∃j:Nat,j<=k/\a=Ç Ê j/\vg w w.heap.size (Û<|x.data.toList++nu sep (xs.take j)) wr) λa _=>k-(Þ a).toNat
   case atStart=>
    refine⟨0,eD _,U,?_⟩;show vg w w.heap.size (Û<|x.data.toList++[]) P;rw[ep];exact HB2
   case round=>
    obtain⟨j,N,rfl,f⟩:=hrel;by_cases v:j=k
    .subst v;rw[eG (by rw[H.oQ.2.2.1];omega)]at f;have z:=fv f;clear f;go_wp2_with (go_at_call 39;refine gl (aoe z H.2.2.2.2.1) λw4 Q=> ?_;have HK:=fv Q;clear Q);go_ret;exact⟨U,HK⟩
    .have n:j<k:=Z;obtain⟨y,c⟩:∃x,xs[j]?=Â x:=⟨_,fe<|by rwa[<-H.oQ.2.2.1]⟩;let⟨_,_,g,B⟩:=H.2.1 j (Å y) (by simp[ow,c]);cases g;have zF:=f.r.r B id;have s:=aay c;have S:=Nj xs<|j+1;have hsx:=H.2.2.2.2.2.2;have C:(Û<|x.data.toList++nu sep (xs.take j)).length=x.size+jH (xs.take j)+j:=by rw[Ļ,Ñ,Nk sep D,dB,dU,<-H.oQ.2.2.1,Nat.min_eq_left N];show x.size+_=_;omega
     have T:(Û (x.data.toList++nu sep (xs.take j))++ĝ sep).length=x.size+jH (xs.take j)+j+1:=by rw[Ñ,C,Ň,D]
     have E:Û (x.data.toList++nu sep (xs.take j))++ĝ sep++ĝ y=Û (x.data.toList++nu sep (xs.take<|j+1)):=by rw[cD,c];simp[nu,Û,ĝ]
     have t:=fv<|Á f<|Á C<|Á T E;clear f C T E B c;go_wp2_with (first|(go_at_call 38;refine gl (TT HC y<|by rw[t.oQ.2.2.1];omega) λP l=> ?_;have HD:=fv l;clear l)|(go_at_call 38;refine gl (TT t.1 sep (by rw[t.oQ.2.1];omega)) λY d=> ?_;have HC:=fv d;clear d))
     go_roundw
     case rel=>exact⟨j+1,n,by go_num,by rw[<-t.oQ.2.2.2];exact HD⟩
     case measure=>simp[Þ];omega
  .have n:j<k+1:=Z;obtain⟨y,c⟩:∃y,(x::xs)[j]?=Â y:=⟨_,fe<|by rwa[eH,<-H.oQ.2.2.1]⟩;let⟨_,_,g,B⟩:=H.1 j (Å y) (by rw[ow,dN,c];rfl);cases g;have s:=aay c;have S:=Nj (x::xs)<|j+1;rw[s]at S;generalize jH ((x::xs).take j)=s0 at*;have HS:=fv s;clear c s;go_wp2_with fail;go_round
   case rel=>exact⟨j+1,n,by rw[HS.oQ];go_num,by go_num⟩
   case measure=>simp[Þ];omega
def TV(a:n=xs.length)(f:n<=1000000)(g:n<=i)(h:sep.size=1)(b:rB O (ow xs) w)(j:jH xs+n<=140737488355328): Ò À 21 #[Æ O n i,Å sep] w λe c=>e=È (Å<|lG sep xs)/\fw fB w c:=by
 cases xs with
 |nil=>subst a;exact aof|cons x r=>
  let⟨c,d,k,l⟩:=b 0 (Å x) U;subst k;cases r with
  |nil=>
   subst a;have e:lG sep [x]=x:=by show ZnJ ((x.data.toList++[]).toArray)=x;rw[ep]
   rw[e];exact aog c d x l|cons y r=>
   subst a;exact aoh (r.length+1) Z (by simp at f;omega) c d g h x U b j
def aoi(a:n=xs.length)(c:n<=1000000)(d:n<=i)(g:rB O (ow xs) w)(f:jH xs+n<=140737488355328): Ò À 107 #[Æ O n i] w λe b=>e=È (Å<|if xs=[]then⟨#[45]⟩else lG ⟨#[44]⟩ xs)/\fw fB w b:=by
 have H:=fv<|TV (sep:=⟨#[44]⟩) a c d U g f;by_cases b:xs=[]
 .subst b;have e:=a;subst e;rw[if_pos U];clear a f H c d;go_enter ae,ε;go_wp2;go_ret;exact⟨U,fw.gy _ _⟩
 .rw[if_neg b];have k:0<n:=by rw[a];exact ň.2 b
  have l:((n:Int)==0)=Ó:=by simp;omega
  clear a;generalize lG ⟨#[44]⟩ xs=z at*;go_enter ae,ε;go_wp2_with (go_at_call 21;refine gl H λm e=> ?_;have j:=fv e;clear e);go_ret;exact⟨U,j⟩
end
def DO{M:Nat}:∀(a:List ByteArray),(∀z∈a,z.size<=M)->jH a<=M*a.length
 |[],_=>eD _
 |x::r,h=>by
  have c:=DO r λz b=>h z<|fi _ b;have d:=h x fD;have e:jH (x::r)=x.size+jH r:=by simp[jH]
  rw[e,eH,Nat.mul_add];omega
def F2{e:Nat×Int}(h:gL e.2):(kO e).size<=21:=by rw[kO,Ö];have:=F0 e.1;have:=pw e.2.toNat (by have:=h.1;have:=h.2;omega);omega
def TW{e:Int×Bool}(a:0<=e.1)(h:e.1<=400):(mY e).size<=41:=by rw[mY,Ö,Ö];have:=pw e.1.toNat Z;have:=pw e.2.toNat (by cases e.2<;>decide);have:ļ ⟨#[58]⟩=1:=rfl;omega
section
variable{xs:List ByteArray}
def aaz{ty:ð}{base:Nat}(b:P.underlying t=Â (.slice e))(d:P.info? e=Â zJ)(h:w.ownsRow base e j v n l)(a:Option ø)(c:Nat): (û #[t,t] ty #[v,Æ a 0 c]).run P w=bq v w:=by
 have f:(œ zJ.size 0<|Æ a 0 c).run P w=bq #[] w:=by cases a<;>simp[œ,loadCells,loadCellsFrom]
 obtain⟨rfl,rfl⟩|⟨g,m,o,rfl,_,_,k,_⟩:=h.2;simp[û,ğ b,bG,aJ,d,Ō,f,bk];simp[û,ğ b,bG,aJ,d,Ō,f,k,bk]
def aoj{p:Array Ŗ}(k:o.guard=Ã)(s b:ū)(l:o.op=.call {callee:=.builtin Ŵ,args:=#[s,b],argTypes:=#[54,54]})(c:kD u v xs w)(m:y.eval s=v){base:Nat}(r:w.ownsRow base 9 1 x vX.length (ow vX))(d:y.eval b=x)(G:xs.length+vX.length<=1000000)(h:∀f j,kD u f (xs++vX) j->Θ À p vJ fX (y.put o.dst f) j):Θ À p vJ (o::fX) y w:=by let⟨H,n,B,C,D⟩:=ć Nf;obtain⟨e,E⟩|⟨g,F,I,e,_⟩:=r.2;have z:=Ù E;subst z;rw[e]at d;refine š k λK i=> ?_;have q:=aaz (ty:=o.type) ñ n c.fE Ã 0;unfold Γ Ġ;simp only[l,χ,bj,ψ,Ţ,ţ,ħ,eJ,dR,dG,m,d,q];exact i _ _ (h v w<|by rwa[ep]);by_cases t:vX=[];subst t;rw[e]at d;refine š k λK i=> ?_;have q:=aaz (ty:=o.type) ñ n c.fE (Â ⟨g,0,Ã⟩) F;unfold Γ Ġ;simp only[l,χ,bj,ψ,Ţ,ţ,ħ,eJ,dR,dG,m,d,q,ż];exact i _ _ (h v w<|by rwa[ep]);have K:=ň.2 t;refine xU k s b 54 l ñ n B C D U m c.fE ⟨g,0,Ã⟩ (ow vX) (d.trans e) K (by simp[ow]) (r.cells<|by rw[e];rfl) (λi q=>by unfold ow at q;obtain⟨z,_,rfl⟩:=cI.1 q;rfl) (by unfold ó;omega) Z c.r.M ?_;intro f j z;refine h f j ⟨?_,c.r.C z.r λi J q=> ?_⟩;have:=z.fE;rwa[show ow xs++ow vX=ow (xs++vX) by simp[ow],show xs.length+vX.length=(xs++vX).length by simp]at this;have:=(c.fE.lt i q).1;omega
end
def kD.C(h:kD u (Æ O n i) vX w):rB O (ow vX) w/\n=vX.length/\n<=i:=by
 obtain⟨b,d⟩|⟨g,f,k,b,_,_,d,_⟩:=h.fE.2;cases b;refine⟨λj x e=> ?_,d.symm,eE _⟩;rw[Ù d]at e;cases e;have e:n=vX.length:=by injection b
 subst e;injection b with _ _ h4;exact⟨rB.r h.fE,U,by rwa[h4]⟩
def yd(r:mU):ByteArray:=lG ⟨#[44]⟩<|[gR r.C.toNat,gR r.M.toNat,gR r.r.toNat]++r.I.map kO
theorem aol(x y:Nat)(g k:Int)(b c:Nat)(a:Bool)(d:List (Nat×Int))(J:b<18446744073709551616)(K:c<18446744073709551616)(P:d.length<=400000)(Q:ya d)(S:pW w)(T:Ò À 142 #[Ä<|Â ⟨i,0,Ã⟩,Ç Ê x,Ç Ê y,Ç Ð g,Ç Ð k] w λe f=>∃v,e=È (Ý #[σ #[Ç Ð b,á a,Ç Ð c],v])/\f.ownsRow 0 250 2 v d.length (je d)/\fw fB w f): Ò À 103 #[Ä<|Â ⟨i,0,Ã⟩,Ç Ê x,Ç Ê y,Ç Ð g,Ç Ð k] w λe f=>e=È (Å<|lG ⟨#[44]⟩<|[gR a.toNat,gR c,gR b]++d.map kO)/\fw fB w f:=by
 have L:a.toNat<18446744073709551616:=by cases a<;>decide
 have H:=fv<|Á T<|Á S Q;go_enter Tryz.func103,Tryz.ntmps103;go_wp2_with (go_at_call 142;apply H.1.mono;rintro e j ⟨v,rfl,q,l⟩;obtain⟨u,O,rfl⟩:=jj q;have B:=fv<|Á l q;clear l q);change Code.wp À _ _ _ (j.alloc<|Ô #[Ç Ð b,á a,Ç Ð c] 245);have C:=(fw.gP fB j #[Ç Ð b,á a,Ç Ð c] 245).fA<|fw.gM _ _;have D:=(H.2.1.r B.1).r C;have n:=(fy.N j [Ç Ð b,á a,Ç Ð c] 245).C (fw.gM fB _) id;have M:=B.1.fA C;have V:=ia B.2 C λ_ _=>id;refine mI (λf=>f.cell? ⟨j.heap.size,0,Ã⟩=Â (Ç Ð b)/\f.cell? ⟨j.heap.size,1,Ã⟩=Â (á a)/\f.cell? ⟨j.heap.size,2,Ã⟩=Â (Ç Ð c)) [] fK ?_;have l:=fv<|Á (n.r 0 _ rfl)<|Á (n.r 1 _ rfl)<|n.r 2 _ rfl;generalize j.heap.size=ob at*;generalize ő (j.alloc<|Ô #[Ç Ð b,á a,Ç Ð c] 245)=w5 at*;iterate 3 apply tk l
 apply tk l 5;apply tk l 6;apply tk l 8;apply tk l 9;apply tk l 10;refine nN 3 ?_;refine nV (I8 _ _) λW Dz=> ?_;subst W;rw[aau];refine⟨λ_=>l,?_⟩;refine nN 4 ?_;refine nV (zD a.toNat L _ D) λwa o=> ?_;have p:=n.C o id;have N:=D.r o;refine⟨λ_=>⟨p.r 0 _ U,p.r 1 _ U,p.r 2 _ U⟩,?_⟩;refine nN 7 ?_;refine nV (zD c K _ N) λwb r=> ?_;have s:=p.C r id;have X:=N.r r;refine⟨λ_=>⟨s.r 0 _ U,s.r 1 _ U,s.r 2 _ U⟩,?_⟩;refine nN 11 ?_;refine nV (zD b J _ X) λwc E=> ?_;have t:=s.C E id;have m:=t.C (fw.gP fB wc #[Å<|gR a.toNat,Å<|gR c,Å<|gR b] 9) id;refine⟨λ_=>⟨t.r 0 _ U,t.r 1 _ U,t.r 2 _ U⟩,?_⟩;refine jM 12 (λ_=>⟨m.r 0 _ U,m.r 1 _ U,m.r 2 _ U⟩) ?_;refine jM 13 (λ_=>⟨m.r 0 _ U,m.r 1 _ U,m.r 2 _ U⟩) ?_;refine ma ?_;have F:fw fB w5 (wc.alloc<|Ô #[Å<|gR a.toNat,Å<|gR c,Å<|gR b] 9):=((o.fA r).fA E).fA<|fw.gP _ _ _ _;have Y:kD w (Æ (Â ⟨wc.heap.size,0,Ã⟩) 3 3) [gR a.toNat,gR c,gR b] (wc.alloc<|Ô #[Å<|gR a.toNat,Å<|gR c,Å<|gR b] 9):=⟨World.ownsRow_lit wc #[Å<|gR a.toNat,Å<|gR c,Å<|gR b] 3 (Ï M.M ((o.fA r).fA E).M) (by unfold ó;omega) U,M.fA F⟩;have L6:=ia V F λ_ _=>id;have P6:=D.r F;have G:=fv<|Á Y<|Á L6 P6;generalize wc.alloc (Ô #[Å<|gR a.toNat,Å<|gR c,Å<|gR b] 9)=w6 at*;generalize wc.heap.size=tb at*;have jV:∀z∈[gR a.toNat,gR c,gR b]++d.map kO,z.size<=21:=λz hz=>by obtain q|q:=dx.1 hz;have h1:=pw a.toNat L;have h2:=pw c K;have u:=pw b J;grind;obtain⟨e,u,rfl⟩:=cI.1 q;exact F2 (H.2.2 e u).2
 have uJ:=DO _ jV;have hlen:([gR a.toNat,gR c,gR b]++d.map kO).length=3+d.length:=by simp;omega
 have I:=fv<|Á uJ hlen;go_wp2_with (first|(go_at_call 108;refine(aat U P H.2.2 G.2.2<|rB.r G.2.1).mono ?_;rintro e u ⟨lt,rfl,q⟩;obtain⟨ta,tc,rfl⟩:=jj q.fE;rw[dw]at q;have O:=fv q;clear q)|(at_builtin;refine aoj U _ _ U (G.1.fH O.r) U O.fE U (by simp;omega) ?_;intro cv w8 u;obtain⟨ca,cc,rfl⟩:=jj u.fE;generalize([gR a.toNat,gR c,gR b]++d.map kO).length=cn at u|-;have q:=fv u;clear u)|(go_at_call 21;refine gl (TV q.C.2.1 (by have:=q.C.2.1;rw[this,I.oQ.2];omega) q.C.2.2 U q.C.1 (by have:=q.C.2.1;have h1:=I.1;have h2:=I.2;omega)) λw9 u=> ?_;have O:=fv u;clear u))
 go_ret;exact⟨U,q.r.fA O⟩
def aom{s:St}(v:qH i s h w)(b:ic s)(z:lr w)(B:pW w)(x y:Nat)(g k:Int)(c:x<8)(d:y<8)(f:0<=g)(j:g<=100000)(l:gL k): Ò À 103 #[Ä<|Â ⟨i,0,Ã⟩,Ç Ê x,Ç Ê y,Ç Ð g,Ç Ð k] w λe q=>e=È (Å<|yd<|gS s [] x y g k)/\fw fB w q:=by have T:=aas v b z x y g k c d f j l _ U;have e:=FQ s [] x y g k b c d l f j (by simp;omega);have m:=Nc s [] x y g k b c d l f j (by simp;omega) (λ_ q=>by cases q);obtain⟨q,o,a,t,p,C⟩:∃q o a t p,gS s [] x y g k=⟨q,o,a,t,p⟩:=⟨_,_,_,_,_,U⟩;rw[C]at T e m|-;have D:=e.C;have E:=e.r;have r:=e.M;have u:=e.I;simp only at D E r u m T;obtain⟨F,rfl⟩:∃n:Nat,q=n:=⟨q.toNat,Z⟩;obtain⟨G,rfl⟩:∃n:Nat,a=n:=⟨a.toNat,by have:=r.1;omega⟩;exact aol x y g k F G o p Z (by have:=r.2;omega) (by simp at u;omega) m B T
def sy(w:Ë):Prop:=w.cell? ⟨4,15,Ã⟩=Â (Ç ņ 4)
def sy.r(h:sy w)(k:fw fB w u):sy u:=k.r h id
def aon(c:sy w):Ò À 191 #[Ç Ð 16] w λe a=>e=È (Ç Ê 4)/\a=w:=by unfold sy at c;have b:Ð.wrap (bits BinOp.and Ð 16 (Ð.wrap<|-16)*285870213051353865)/288230376151711744=15:=A;go_enter Tryz.func191,Tryz.ntmps191;go_wp2;go_ret;exact⟨U,U⟩
def tz(c:sy w):Ò À 185 #[Ç Ð 16] w λe a=>e=È (Ç Ê 4)/\a=w:=by go_enter Tryz.func185,Tryz.ntmps185;go_wp2_with (go_at_call 191;refine gl (aon c) λa b=> ?_;subst a);go_ret;exact⟨U,U⟩
def aoo:Ò À 184 #[Ç Ê 16] w λe a=>e=È (á Í)/\a=w:=by have b:bits BinOp.and Ê 16 15=0:=A;go_enter Tryz.func184,Tryz.ntmps184;go_wp2;go_ret;simp_all
def qK(d:Nat):UInt8:=if h:d<36 then(⟨#[48,49,50,51,52,53,54,55,56,57,97,98,99,100,101,102,103,104,105,106,107,108,109,110,111,112,113,114,115,116,117,118,119,120,121,122]⟩:ByteArray)[d]'h else 0
def sX:Nat->Nat->List UInt8->List UInt8|0,_,acc=>acc|k+1,n,acc=>if n<16 then qK n::acc else sX k (n/16) (qK (n%16)::acc)
def aaA:∀k n a,(sX k n a).length<=k+a.length|0,_,a=>by simp[sX]|k+1,n,a=>by unfold sX;split;simp;omega;have:=aaA k (n/16)<|qK (n%16)::a;simp at this;omega
def zc(i:Nat)(a:List UInt8):List Î:=è i (Ç ņ 0)++Û a
def aop(i:Nat)(a:List UInt8):(zc i a).length=i+a.length:=by simp[zc,Û]
def aoq(i:Nat)(a:List UInt8)(c:UInt8):(zc (i+1) a).set i (Ç ņ c.toNat)=zc i (c::a):=by unfold zc;rw[Ľ,dL,eF _ _ fD];simp[Û]
def aor(a:n<18446744073709551616):bits BinOp.and Ð (n:Int) 15=((n%16:Nat):Int):=by have:=(bits_nat Ð 64 A (λn b c=>by rw[ö];omega) n 15 Z A).1;rwa[show(15:Nat)=2^4-1 from rfl,ew]at this
def aaB(h:i<36):(⟨#[48,49,50,51,52,53,54,55,56,57,97,98,99,100,101,102,103,104,105,106,107,108,109,110,111,112,113,114,115,116,117,118,119,120,121,122]⟩:ByteArray)[i]'h=qK i:=by rw[qK,dif_pos h]
def aos:Tryz.zeroCells286=(zc 65 []).toArray:=fK
def nY(n:Nat):ByteArray:=⟨(sX 16 n []).toArray⟩
theorem aot(n:Nat)(o:n<18446744073709551616)(D:sy w):Ò À 174 #[Æ Ã 0 0,Ç Ð n,Ç Ê 16,á Ó,á Ó] w λe E=>e=È (Ý #[Æ Ã 0 0,Å<|nY n])/\fw fB w E:=by
 have H:=fv D;have a:=fy.N w (zc 65 []) 286;rw[<-aos]at a;have F:=fv a;unfold nY;generalize s:sX 16 n []=res;have G:=fv s;clear s a;go_enter Tryz.func174,Tryz.ntmps174;go_wp2_with (first|(go_at_call 184;refine gl aoo λp I=> ?_;subst p)|(go_at_call 185;refine gl (tz (H.r kp)) λp I=> ?_;subst p))
 go_loopw [1,13] (λx y wr=>∃(n i:Nat)(c:List UInt8),x=Ç Ð n/\y=Ç Ê i/\50<=i/\i+c.length=65/\n<16^(i-49)/\n<18446744073709551616/\fw fB w wr/\fy w.heap.size (zc i c) 286 wr/\sX (i-49) n c=res) λx _ _=>(Þ x).toNat
 case atStart=>exact⟨n,65,[],U,U,Z,U,by show n<16^16;omega,o,fw.gP _ _ _ _,F,G⟩
 case round=>
  obtain⟨n,i,c,rfl,rfl,O,Q,o,J,u,a,b⟩:=hrel;obtain⟨j,rfl⟩:∃j,i=j+1:=⟨i-1,Z⟩;rw[show j+1-49=(j-49)+1 by omega]at b o;unfold sX at b;have K:(zc (j+1) c).length=65:=by rw[aop];omega
  obtain⟨z,v⟩:∃z,(zc (j+1) c)[j]?=Â z:=⟨_,fe Z⟩;have S:=a.r j z v;have T:=a.I j;have f:=a.fR j<|Ç ņ (qK<|n%16).toNat;rw[aoq]at f;have g:fw fB w (wr.setCell ⟨w.heap.size,j,Ã⟩<|Ç ņ (qK<|n%16).toNat):=u.C (fw.I (X:=λk=>k=w.heap.size) U _<|Ì a.S) λi V q=>by omega
  have l:=fv<|Á f g;clear a u K v;by_cases m:n<16
  .rw[if_pos m]at b;have W:res.length=65-j:=by rw[<-b];simp;omega
   have Y:(0:Int)<=(j:Int):=Z;have e2:(j:Int)<65:=Z;have e3:(j:Int)<=65:=Z;have m0:(0:Int)<=(n:Int):=Z;have m1:(n:Int)<36:=Z;have r:n<36:=Z;have L:=aaB r;rw[Ů m,b]at f;have hcv:(convert 98 9<|Æ (Â ⟨w.heap.size,j,Ã⟩) (65-j)<|65-j).run À (wr.setCell ⟨w.heap.size,j,Ã⟩<|Ç ņ (qK n).toNat)=bq (Å ⟨res.toArray⟩) (wr.setCell ⟨w.heap.size,j,Ã⟩<|Ç ņ (qK n).toNat):=by have h:=Ĵ (P:=À) (wr.setCell ⟨w.heap.size,j,Ã⟩<|Ç ņ (qK n).toNat) 98 9 5 ⟨w.heap.size,j,Ã⟩ (65-j) res fK fK fK (λt M=>by rw[Addr.add_mid];apply f.r (j+t) _;rw[zc,eT fD];simp[Û,fe M]);grind
   rw[Ů m]at g;have l:=fv g;clear f g;go_wp2;go_ret2;exact⟨U,l⟩
  .rw[if_neg m]at b;have N:50<=j:=by grind
   have B:n/16<16^(j-49):=by grind
   have awj:=aor J;have r:n%16<36:=Z;have L:=aaB r;have C:=fv<|Á b B;clear b B f g;generalize hd:n%16=d at*;go_wp2;go_roundw
   case rel=>exact⟨n/16,j,qK d::c,by go_num,by go_num,N,by simp;omega,C.2,Z,l.2,l.1,C.1⟩
   case measure=>simp[Þ];omega
def aou(n:Nat)(b:n<18446744073709551616)(c:sy w):Ò À 156 #[Ç Ð n,Ç Ê 16] w λe a=>e=È (Å<|nY n)/\fw fB w a:=by go_enter Ŝ,ŋ;go_wp2_with (go_at_call 174;refine gl (aot n b c) λa d=> ?_);go_ret;exact⟨U,d⟩
def aov(n:Nat)(b:n<18446744073709551616)(c:sy w):Ò À 141 #[Ç Ð n,Ç Ê 16] w λe a=>e=È (Å<|nY n)/\fw fB w a:=by go_enter ς,Ω;go_wp2_with (go_at_call 156;refine gl (aou n b c) λa d=> ?_);go_ret;exact⟨U,d⟩
def aow(s:ByteArray)(w:Ë)(h:s.data.toList.head?=Â 48):Ò À 159 #[Å s,Å ⟨#[48]⟩] w λe b=>e=È (á Í)/\b=w:=by
 have H:=Tryz.strings_HasPrefix s ⟨#[48]⟩ w;have e:Ŋ s.data.toList (Λ ⟨#[48]⟩).toList=Í:=by
  generalize s.data.toList=l at h;cases l with
  |nil=>cases h
  |cons a r=>cases h;rfl
 rwa[e]at H
def aox(s:ByteArray)(w:Ë)(h:¬s.data.toList.head?=Â 48):Ò À 159 #[Å s,Å ⟨#[48]⟩] w λe b=>e=È (á Ó)/\b=w:=by
 have H:=Tryz.strings_HasPrefix s ⟨#[48]⟩ w;have e:Ŋ s.data.toList (Λ ⟨#[48]⟩).toList=Ó:=by
  generalize s.data.toList=l at h;cases l with
  |nil=>rfl|cons a r=>
   have c:¬a=48:=λq=>h (by rw[q];rfl);show((48:UInt8)==a&&List.isPrefixOf [] r)=Ó;have:((48:UInt8)==a)=Ó:=beq_eq_false_iff_ne.2 λq=>c q.symm;rw[this];rfl
 rwa[e]at H
def ye(k:Nat):ByteArray:=þ ⟨#[48,48,48,48,48,48,48,48,48,48,48,48,48,48,48,48,48,48,48,48,48,48,48,48,48,48,48,48,48,48,48,48,48,48,48,48,48,48,48,48,48,48,48,48,48,48,48,48,48,48,48,48,48,48,48,48,48,48,48,48,48,48,48,48]⟩ 0 k
def aoy(k:Nat)(d:2<=k)(f:k<=64):Ò À 144 #[Å ⟨#[48]⟩,Ç Ê k] w λe a=>e=È (Å<|ye k)/\a=w:=by
 have g:((k:Int)==0)=Ó:=by simp;omega
 have i:((k:Int)==1)=Ó:=by simp;omega
 have j:¬(k:Int)<0:=Z;have l:(0:Int)<=(k:Int):=Z;have m:(k:Int)<=64:=Z;have n:Ð.wrap (k:Int)=(k:Int):=by rw[ö];omega
 have o:Ê.wrap (k:Int)=(k:Int):=by rw[í];omega
 have M:=Tryz.bits_Mul 1 k A Z w;rw[show 1*k/18446744073709551616=0 by omega,show 1*k%18446744073709551616=k by omega]at M;have c:=fv M;go_enter ť,ō;go_wp2_with (first|(go_at_call 158;refine gl c λa b=> ?_;subst a)|(go_at_call 159;refine gl (aox _ _ A) λa b=> ?_;subst a)|(go_at_call 159;refine gl (aow _ _ A) λa b=> ?_;subst a))
 go_ret;exact⟨U,U⟩
def aoz:Ò À 144 #[Å ⟨#[48]⟩,Ç Ê 0] w λe a=>e=È (Å ⟨#[]⟩)/\a=w:=by go_enter ť,ō;go_wp2;go_ret;exact⟨U,U⟩
def aoA:Ò À 144 #[Å ⟨#[48]⟩,Ç Ê 1] w λe a=>e=È (Å ⟨#[48]⟩)/\a=w:=by go_enter ť,ō;go_wp2;go_ret;exact⟨U,U⟩
def aoB(k:Nat)(a:k<=64):Ò À 144 #[Å ⟨#[48]⟩,Ç Ê k] w λe b=>e=È (Å<|ye k)/\b=w:=by
 match k with|0=>exact aoz|1=>exact aoA|k+2=>exact aoy (k+2) Z a
def DR(n:Nat):ByteArray:=ye (16-(nY n).size)++nY n
def aaC(n:Nat):(nY n).size<=16:=by show(sX 16 n []).toArray.size<=16;have:=aaA 16 n [];simpa using this
def aaD(k:Nat):(ye k).size<=k:=by rw[ye,ä];omega
def aoC(n:Nat)(c:n<18446744073709551616)(d:sy w):Ò À 105 #[Ç Ð n] w λe a=>e=È (Å<|DR n)/\fw fB w a:=by
 have g:=aaC n;have i:=aaD<|16-(nY n).size;have T:=aov n c d;have R:∀W:Ë,Ò À 144 #[Å ⟨#[48]⟩,Ç Ê ((16-(nY n).size:Nat):Int)] W λe a=>e=È (Å<|ye<|16-(nY n).size)/\a=W:=λW=>aoB _ Z;have j:Ê.wrap ((16:Int)-((nY n).size:Int))=((16-(nY n).size:Nat):Int):=by rw[í];omega
 have l:(16:Int)-((nY n).size:Int)=((16-(nY n).size:Nat):Int):=Z;have m:¬9223372036854775807<(ye<|16-(nY n).size).size+(nY n).size:=Z;unfold DR;have H:=fv<|Á T R;generalize o:ye (16-(nY n).size)=zs at*;generalize p:16-(nY n).size=k at*;generalize nY n=fs at*;go_enter Tryz.func105,Tryz.ntmps105;go_wp2_with (first|(go_at_call 141;refine gl H.1 λq b=> ?_;have f:=fv b;clear b)|(go_at_call 144;refine gl (H.2 _) λb q=> ?_;subst b))
 go_ret;exact⟨U,f⟩
structure QAt(r:Nat)(x y g k:Nat)(kind v v2:Int)(slot:Nat)(w:Ë):Prop where
 C:w.cell? ⟨r,0,Ã⟩=Â (Ç Ê x)
 I:w.cell? ⟨r,1,Ã⟩=Â (Ç Ê y)
 M:w.cell? ⟨r,2,Ã⟩=Â (Ç Ê g)
 N:w.cell? ⟨r,3,Ã⟩=Â (Ç Ê k)
 S:w.cell? ⟨r,4,Ã⟩=Â (Ç Ê kind)
 Y:w.cell? ⟨r,5,Ã⟩=Â (Ç Ê v)
 a:w.cell? ⟨r,6,Ã⟩=Â (Ç Ê v2)
 b:w.cell? ⟨r,7,Ã⟩=Â (Ç Ê slot)
def kD.S(h:kD u v vX W)(k:fw fB w u):kD w v vX W:=by refine⟨⟨h.fE.1,?_⟩,k.fA h.r⟩;obtain q|⟨g,a,b,c,d,q⟩:=h.fE.2;exact É q;exact Ì ⟨g,a,b,c,Ï k.M d,q⟩
def Nl{P:Program}{ops:Array Oper}{Q:Exit->Act->World->Prop}{S:World->Prop}{id:Nat}{a:Act}{w0 w:World}(_:∀W,fw fB w0 W->S W)(h:mV P .any ops Q S [] ops.size (Array.replicate ops.size false) a w.drew)(hm:P.follows .mixedOrders=true:=by kernel_rfl):(Code.region id ops true).wp P Q a w:=mI S [] hm h
structure Qn where
 x:Nat
 y:Nat
 g:Nat
 k:Nat
 r:Int
 v:Int
 C:Int
 I:Nat
structure Qn.Ok(q:Qn):Prop where
 x:q.x<8
 y:q.y<8
 g:q.g<1000000
 k:q.k<18446744073709551616
 awk:2<=q.r
 awl:q.r<=9
 v:-1<=q.v
 v2:-1<=q.C
 aaE:q.I<16
def wO(a:List ByteArray):ByteArray:=if a=[]then⟨#[45]⟩else lG ⟨#[44]⟩ a
def qL(a:List (Nat×gf))(p:gf)(q:Qn):ByteArray:=
 if q.r=2 then gR ((p.s q.x).r q.I).toNat
 else if q.r=3 then gR (p.s q.x).fC.toNat
 else if q.r=4 then if 400<q.g then pK 6 else yd (gS p.s [] q.x q.y q.g q.k)
 else if q.r=5 then tZ p.s q.x q.y q.k 0 401
 else if q.r=6 then DR (BE p.s)
 else if q.r=7 then wO (p.C.map kO)
 else if q.r=8 then wO (p.r.map mY)
 else match pn a q.C with|none=>pK 3|some b=>wO<|mb p.s b.2.s 8
def vh(a:List (Nat×gf))(q:Qn):ByteArray:=
 match pn a q.v with|none=>pK 3|some p=>qL a p.2 q
def TX{M:Nat}(b:∀z∈vX,z.size<=M)(d:M<=100)(f:vX.length<=400000)(h:kD w (Æ O m i) vX W): Ò À 107 #[Æ O m i] W λe g=>e=È (Å<|wO vX)/\fw fB W g:=by obtain⟨e,g,j⟩:=h.C;have k:=DO vX b;have:M*vX.length<=100*400000:=ġ d f;exact aoi g Z j e Z
def aaF(s:St):BE s<18446744073709551616:=by unfold BE Jo;exact M8 _ _<|aak λi=>TF _ _ _
theorem TY{b:ByteArray}(c:B.size<=1)(d:b.size<=1):(B++b).size<=2:=by grind
def aaG(s t:St):∀z∈mb s t 8,z.size<=2:=λz a=>by unfold mb at a;obtain⟨i,_,h⟩:=cw.1 a;unfold yc ox at h;obtain h|h:=dx.1 h;obtain h|h:=dx.1 h;split at h;cases h;simp at h;subst h;exact TY (F0 i)<|eE _;split at h;cases h;simp at h;subst h;exact TY (F0 i)<|eE _;unfold py at h;obtain⟨j,_,h⟩:=cw.1 h;unfold DN at h;split at h;cases h;simp at h;subst h;exact TY (F0 i)<|an2 j
def Nn(a:ByteArray)(c:a.size=1):∀b:List ByteArray,(lG a b).size<=jH b+b.length
 |[]=>eD _
 |x::r=>by
  show(x.data.toList++nu a r).toArray.size<=_;have d:jH (x::r)=x.size+jH r:=by simp[jH]
  have e:x.data.toList.length=x.size:=by rw[dU];rfl
  simp only[eN,Ñ,Nk a c r,d,e,eH];omega
theorem aoD{s:St}{q:Qn}(b:ic s)(ok:q.Ok)(l:q.g<=400):(yd<|gS s [] q.x q.y q.g q.k).size<=100000000:=by
 have c:gL (q.k:Int):=⟨Z,by have:=ok.k;omega⟩;have e:=FQ s [] q.x q.y q.g q.k b ok.x ok.y c Z Z (by simp;omega);have f:=Nc s [] q.x q.y q.g q.k b ok.x ok.y c Z Z (by simp;omega) (λ_ q=>by cases q);unfold yd;generalize gS s [] q.x q.y q.g q.k=R at*;have m:=e.r;have d:=e.M;have h:=e.I;simp at h;have n:=Nn ⟨#[44]⟩ U<|[gR R.C.toNat,gR R.M.toNat,gR R.r.toNat]++R.I.map kO;have o:=DO (M:=21) ([gR R.C.toNat,gR R.M.toNat,gR R.r.toNat]++R.I.map kO) λz i=>by obtain a|a:=dx.1 i;simp at a;obtain rfl|rfl|rfl:=a;have:=pw R.C.toNat (by cases R.C<;>decide);omega;have:=pw R.M.toNat (by have:=d.1;have:=d.2;omega);omega;grind [pw];obtain⟨e,j,rfl⟩:=cI.1 a;exact F2 (f e j).2
 grind
section
variable{cp:Nat}{vs:List (Nat×gf)}{q:Qn}
def aoE(u:sV O n vs w)(hn:n<=1000)(h0:0<n)(Y:∀p∈vs,TM p.2)(B:QAt i q.x q.y q.g q.k q.r q.v q.C q.I w)(ok:q.Ok)(hr:lr w)(hp:pW w)(hd:sy w): Ò À 51 #[Æ O n cp,Ä<|Â ⟨i,0,Ã⟩] w λe M=>e=È (Å<|vh vs q)/\fw fB w M:=by
 have F:=Na (cp:=cp) u hn h0 q.v ok.v;have c5:=B.Y;unfold vh;cases N:pn vs q.v with
 |none=>
  rw[N]at F;have H:=fv F;clear F B u Y hr hp hd ok;go_enter aK,af;go_wp2_with (first|(go_at_call 97;refine gl H λw1 C=> ?_;dsimp only[vd,Ŕ];have b:=fv C;clear C)|(go_at_call 98;refine iT (FV 3 A _) ?_))
  go_ret;exact⟨U,b⟩|some p=>
  rw[N]at F;have hm:=Jp N;have T3:=u.M hm;have Jr:=Y p hm;obtain⟨x,y,g,k,r,v,P,E⟩:=q;obtain⟨Q,hy,hg,hk,wG,ni,hv,Js,Mp⟩:=ok;simp only at Q hy hg hk wG ni hv Js Mp B F c5|-;have c4:=B.S;have Ht:gL (k:Int):=⟨Z,Z⟩;obtain⟨cb,_,cs⟩:=T3.r.iH Q;have m:∀W,fw fB w W->Ò À 97 #[Æ O n cp,Ç Ê P] W λe M=>e=È (vd ((pn vs P).map (·.1)))/\fw fB W M:=λW kW=>Na (u.I kW) hn h0 P Js;have H:=fv<|Á F<|Á B<|Á T3<|Á Jr<|Á hr<|Á hp<|Á hd<|Á u m;have S:=fv<|Á cb<|Á cs Ht;clear F B u Y hr hp hd T3 Jr hm m N cb cs Ht hv Js;go_enter aK,af;go_wp2_with fail;go_at_call 97;refine gl H.1 λw1 C=> ?_;dsimp only[vd,Ŕ];have d4:=C.r c4 id;have b:=fv C;clear C c4 c5;have x0:(0:Int)<=(x:Int):=Z;have x1:(x:Int)<8:=Z;have cases:r=2\/r=3\/r=4\/r=5\/r=6\/r=7\/r=8\/r=9:=Z;obtain rfl|rfl|rfl|rfl|rfl|rfl|rfl|rfl:=cases
  .have c:=S.2.1 E Mp;have o:=H.2.2.1.C.C x E;obtain⟨z,l⟩:∃z:Nat,(p.2.s x).r E=z:=⟨_,(dc o.1).symm⟩;rw[l]at c o;have I:(0:Int)<=(E:Int):=Z;have J:(E:Int)<16:=Z;have f:=fv λW (q:fw fB w W)=>Á (q.r H.2.1.C id)<|Á (q.r H.2.1.b id)<|q.r c id;have D:z<18446744073709551616:=by have:=o.2;omega
   have G:=fv l;clear c o l;go_wp2_with fail;refine Nl f ?_;have a:=fv<|b.fA<|fw.gM _ _;iterate 17 apply tk (f _ a)
   refine nN 17 ?_;refine nV (zD _ D _<|H.2.2.2.2.2.1.r a) λt d=> ?_;have j:=fv<|a.fA d;clear d;refine⟨λ_=>f _ j,?_⟩;apply tk (f _ j);refine ma ?_;go_wp2;go_ret;exact⟨by simp[qL,G.oQ],j⟩
  .have c:=S.1;have o:=H.2.2.1.C.fC x;obtain⟨z,l⟩:∃z:Nat,(p.2.s x).fC=z:=⟨_,(dc o.1).symm⟩;rw[l]at c o;have f:=fv λW (q:fw fB w W)=>Á (q.r H.2.1.C id)<|q.r c id;have D:z<18446744073709551616:=by have:=o.2;omega
   have G:=fv l;clear c o l;go_wp2_with fail;refine Nl f ?_;have a:=fv<|b.fA<|fw.gM _ _;iterate 12 apply tk (f _ a)
   refine nN 12 ?_;refine nV (zD _ D _<|H.2.2.2.2.2.1.r a) λt d=> ?_;have j:=fv<|a.fA d;clear d;refine⟨λ_=>f _ j,?_⟩;apply tk (f _ j);refine ma ?_;go_wp2;go_ret;exact⟨by simp[qL,G.oQ],j⟩
  .have D:=b.r H.2.1.M id;by_cases c:400<g
   .have o:(400:Int)<(g:Int):=Z;go_wp2_with (go_at_call 98;refine iT (FV 6 A _) ?_);go_ret;exact⟨by simp[qL,c],b⟩
   have G:Ð.wrap (k:Int)=(k:Int):=by rw[ö];omega
   have I:Ð.wrap (g:Int)=(g:Int):=by rw[ö];omega
   have o:¬(400:Int)<(g:Int):=Z;have J:(g:Int)<=400:=Z;have f:=fv λW (q:fw fB w W)=>Á (q.r H.2.1.C id)<|Á (q.r H.2.1.I id)<|Á (q.r H.2.1.M id)<|q.r H.2.1.N id;go_wp2_with fail;refine Nl f ?_;have a:=fv<|b.fA<|fw.gM _ _;iterate 23 apply tk (f _ a)
   refine nN 23 ?_;refine nV (aom (H.2.2.1.r.r a id) H.2.2.1.C (H.2.2.2.2.1.r a id) (H.2.2.2.2.2.1.r a) x y g k Q hy Z Z S.2.2) λt d=> ?_;have j:=fv<|a.fA d;clear d;refine⟨λ_=>f _ j,?_⟩;apply tk (f _ j);refine ma ?_;go_wp2;go_ret;exact⟨by simp[qL,c],j⟩
  .have G:Ð.wrap (k:Int)=(k:Int):=by rw[ö];omega
   have f:=fv λW (q:fw fB w W)=>Á (q.r H.2.1.C id)<|Á (q.r H.2.1.I id)<|q.r H.2.1.N id;go_wp2_with fail;refine Nl f ?_;have a:=fv<|b.fA<|fw.gM _ _;iterate 17 apply tk (f _ a)
   refine nN 17 ?_;refine nV (anY (H.2.2.1.r.r a id) H.2.2.1.C (H.2.2.2.2.1.r a id) (H.2.2.2.2.2.1.r a) Q hy S.2.2) λt d=> ?_;have j:=fv<|a.fA d;clear d;refine⟨λ_=>f _ j,?_⟩;apply tk (f _ j);refine ma ?_;go_wp2;go_ret;exact⟨U,j⟩
  .go_wp2_with (first|(go_at_call 106;refine gl (anm (H.2.2.1.r.r b id) H.2.2.1.C) λo f=> ?_;have D:=fv<|b.fA f;clear f)|(go_at_call 105;refine gl (aoC _ (aaF _) (H.2.2.2.2.2.2.1.r D)) λt d=> ?_;have G:=fv (D.fA d);clear d))
   go_ret;exact⟨U,G⟩
  .obtain⟨lp,lc,I,J⟩:=H.2.2.1.N;have d7:=b.r I id;have HL:=fv J;clear I J;generalize K:p.2.C.length=ln at*;have L:=fv K;clear K;go_wp2_with (first|(go_at_call 108;refine(aat L.symm (L.oQ▸H.2.2.2.1.I) H.2.2.2.1.C (H.2.2.2.2.2.1.r b.oQ)<|rB.C HL.oQ b.oQ).mono ?_;rintro e o ⟨tv,rfl,c⟩;obtain⟨T,V,rfl⟩:=jj c.fE;generalize(p.2.C.map kO).length=tn at c|-;have j:=fv (show kD w (Æ T tn V) (p.2.C.map kO) o from c.S b.oQ);clear c)|(go_at_call 107;refine gl (TX (λz l=>by obtain⟨e,X,rfl⟩:=cI.1 l;exact F2 (H.2.2.2.1.C e X).2) Z (by rw[dw];exact H.2.2.2.1.I) j) λt d=> ?_;have G:=fv (j.r.fA d);clear d))
   go_ret;exact⟨U,G⟩
  .obtain⟨lp,lc,I,J⟩:=H.2.2.1.S;have d7:=b.r I id;have HL:=fv J;clear I J;generalize K:p.2.r.length=ln at*;have L:=fv K;clear K;go_wp2_with (first|(go_at_call 109;refine(anZ L.symm (L.oQ▸H.2.2.2.1.M) H.2.2.2.1.r (H.2.2.2.2.2.1.r b.oQ)<|rB.C HL.oQ b.oQ).mono ?_;rintro e o ⟨tv,rfl,c⟩;obtain⟨T,V,rfl⟩:=jj c.fE;generalize(p.2.r.map mY).length=tn at c|-;have j:=fv (show kD w (Æ T tn V) (p.2.r.map mY) o from c.S b.oQ);clear c)|(go_at_call 107;refine gl (TX (λz l=>by obtain⟨e,X,rfl⟩:=cI.1 l;exact TW (H.2.2.2.1.r e X).1 (H.2.2.2.1.r e X).2) Z (by rw[dw];have:=H.2.2.2.1.M;omega) j) λt d=> ?_;have G:=fv (j.r.fA d);clear d))
   go_ret;exact⟨U,G⟩
  have I:=b.r H.2.1.a id;have m:=H.2.2.2.2.2.2.2.2 _ b;cases c:pn vs P with
  |none=>
   rw[c]at m;have G:=fv m;clear m;go_wp2_with (first|(go_at_call 97;refine gl G λo f=> ?_;dsimp only[vd,Ŕ];have D:=fv<|b.fA f;clear f)|(go_at_call 98;refine iT (FV 3 A _) ?_))
   go_ret;exact⟨by simp[qL,c],D⟩|some d=>
   rw[c]at m;have G:=fv m;clear m;go_wp2_with (go_at_call 97;refine gl G λo f=> ?_;dsimp only[vd,Ŕ];have D:=fv<|b.fA f;clear f);apply mI (λM=>True/\True) [] fK;iterate 8 apply tk ⟨trivial,trivial⟩
   have a:=fv<|D.fA<|fw.gM _ _;refine nN 8 ?_;apply Đ (an3 (H.2.2.1.r.r a id)<|(H.2.2.2.2.2.2.2.1.M<|Jp c).r.r a id);rintro e t ⟨tv,rfl,f⟩;refine⟨_,U,λ_=>⟨trivial,trivial⟩,?_⟩;obtain⟨T,V,rfl⟩:=jj f.fE;generalize(mb p.2.s d.2.s 8).length=tn at f|-;have j:=fv<|f.S a.oQ;clear f;refine nN 9 ?_;refine nV (TX (aaG _ _) Z (by have:=TR p.2.s d.2.s 8;omega) j) λJ o=>⟨λ_=>⟨trivial,trivial⟩,?_⟩;have D:=fv<|j.r.fA o;clear o;apply tk ⟨trivial,trivial⟩;refine ma ?_;go_wp2;go_ret;exact⟨by simp[qL,c],D⟩
end
end gO
namespace jg
open RowKit Lift gO
def lH(a:List (Nat×gf)):List gf:=a.map (·.2)
def aaH(d:gf)(l:List gf):gf:=l.foldl (λa b=>if a.h<b.h then b else a) d
theorem aaI:∀(a:List (Nat×gf))(d:Nat×gf),(wN d a).2=aaH d.2 (lH a)|[],_=>rfl|x::r,d=>by show(wN (zC d x) r).2=aaH (if d.2.h<x.2.h then x.2 else d.2) (lH r);rw[aaI r];unfold zC;split<;>rfl
theorem T4{a b:List (Nat×gf)}(h:lH a=lH b)(v:Int):(pn a v).map (·.2)=(pn b v).map (·.2):=by
 have c:∀i:Nat,(a[i]?).map (·.2)=(b[i]?).map (·.2):=λi=>by have:=congrArg (λl:List gf=>l[i]?) h;simpa[lH]using this
 unfold pn;grind [aaI]
theorem aoF{a b:List (Nat×gf)}(h:lH a=lH b):a.length=b.length:=by have:=congrArg List.length h;simpa[lH]using this
theorem aaJ{a b:List (Nat×gf)}(h:lH a=lH b)(v:Int)(x:Nat)(c:List Tx):sW a v x c=sW b v x c:=by have d:=T4 h v;unfold sW;grind [aoF]
theorem aoG{a b:List (Nat×gf)}(h:lH a=lH b)(q:Qn):vh a q=vh b q:=by
 have c:=T4 h q.v;have d:=T4 h q.C;have e:∀p:gf,qL a p q=qL b p q:=λp=>by unfold qL;grind
 unfold vh;grind
structure lA(s:List gf):Prop where
 I:0<s.length
 C:s.length<=40
 r:∀v∈s,TM v/\ic v.s/\0<=v.h/\v.h<s.length
def sY(a:List (Nat×gf))(v:Int)(x:Nat)(b:List Tx):List gf:=lH a++(sW a v x b).1.toList
def lA.M{f:List (Nat×gf)}(h:lA (lH f)){g:List Tx}(k:∀t∈g,t.Ok)(m:g.length<=1000):lA (sY f c i g):=by
 unfold jg.sY;have B:(lH f).length=f.length:=by simp[lH]
 unfold sW;cases n:pn f c with
 |none=>simpa using h|some p=>
  have o:p.2∈lH f:=cI.2 ⟨p,Jp n,U⟩;let⟨C,l,D,E⟩:=h.r _ o;simp only;split;simpa using h;rename_i F;cases j:o9 i p.2.s g with
  |none=>simpa using h|some r=>
   simp only[Option.toList];have G:=h.C;have w:ic r.1:=by unfold o9 at j;obtain⟨H,y,rfl⟩:=Ø.1 j;exact(TN g k l (λ_ q=>by cases q) (λ_ q=>by cases q) (by simp;omega) (by simp;omega) y).1.r i<|uW _
   refine⟨fD,by simp;omega,λu z=> ?_⟩;obtain q|q:=dx.1 z;let⟨a,b,e,d⟩:=h.r u q;refine⟨a,b,e,?_⟩;rw[Ñ];simp;omega;simp at q;subst q;refine⟨anP k l m j,w,by show 0<=p.2.h+1;omega,?_⟩;rw[Ñ];show p.2.h+1<_;simp;omega
def jF(Y:fL)(u w:Ë):Prop:=∀(i j o:Nat)(v:Î),Y i j->u.cell? ⟨i,o,Ã⟩=Â v->∃a,w.cell? ⟨j,o,Ã⟩=Â a/\fI Y v a
section
variable{Y:fL}
theorem aoH{k:Δ}(h:fI Y (Ç k c) v):v=Ç k c:=by cases h;rfl
theorem aoI(h:fI Y (Å B) v):v=Å B:=by cases h;rfl
theorem Jt(h:fI Y (Ä<|Â a) v):∃b,v=Ä (Â b)/\iN Y a b:=by
 cases h with|kn q=>exact⟨_,U,q⟩
def Ju(h:fI Y (Æ O n i) v):∃b,v=Æ b n i/\∀a,O=Â a->∃d,b=Â d/\iN Y a d:=by
 cases h with|oP=>exact⟨Ã,U,λa q=>by cases q⟩|lh q=>exact⟨_,U,λa e=>by cases e;exact⟨_,U,q⟩⟩
theorem aoJ(a:kN v=Í)(h:fI Y v x):x=v:=by cases h<;>first|rfl|(simp[kN]at a;done)
theorem wP(h:iN Y ⟨b,i,Ã⟩ a):∃c,a=⟨c,i,Ã⟩/\Y b c:=by let⟨d,e,f⟩:=h;let⟨c,g,j⟩:=a;grind
theorem jF.r(a:jF Y u w){k:Δ}(h:Y i j)(d:u.cell? ⟨i,b,Ã⟩=Â (Ç k c)):w.cell? ⟨j,b,Ã⟩=Â (Ç k c):=by let⟨e,f,g⟩:=a i j b _ h d;grind [aoH]
theorem jF.I(a:jF Y u w)(h:Y i j)(b:u.cell? ⟨i,n,Ã⟩=Â (Å B)):w.cell? ⟨j,n,Ã⟩=Â (Å B):=by let⟨c,d,e⟩:=a i j n _ h b;grind [aoI]
theorem jF.C(a:jF Y u w)(c:kN v=Í)(h:Y i j)(b:u.cell? ⟨i,n,Ã⟩=Â v):w.cell? ⟨j,n,Ã⟩=Â v:=by let⟨d,e,f⟩:=a i j n _ h b;grind [aoJ]
def T5(s:gO.St):∀v∈iU s,(∃n,v=Ç Ð n)\/∃p,v=Å p:=λv n=>by unfold iU at n;obtain⟨i,_,rfl⟩:=cI.1 n;unfold si jW;split;exact É ⟨_,U⟩;split;exact Ì ⟨_,U⟩;exact É ⟨_,U⟩
def aoK(a:jF Y u w){s:gO.St}(c:Y b i)(d:qH b s h u):qH i s h w:=by refine⟨λj v e=> ?_,a.r c d.h⟩;have f:=d.C j v e;obtain⟨n,rfl⟩|⟨p,rfl⟩:=T5 s v<|eU e;exact a.r c f;exact a.I c f
def aaK(a:jF Y u w)(f:Y b i)(g:∀v∈l,kN v=Í)(h:BF ⟨b,j,Ã⟩ n l u):BF ⟨i,j,Ã⟩ n l w:=by let⟨p,c,k,m⟩:=h;let⟨G,q,r⟩:=a b i j _ f k;obtain⟨s,rfl,t⟩:=Ju r;refine⟨s,c,q,λd x e=> ?_⟩;let⟨H,y,z,B⟩:=m d x e;let⟨I,C,D⟩:=t _ z;obtain⟨E,rfl,F⟩:=wP D;exact⟨E,y,C,a.C (g x<|eU e) F B⟩
def aoL(a:jF Y u w){v:gf}(c:Y b i)(h:tX b v u):tX i v w:=⟨aoK a c h.r,h.C,h.I,h.M,aaK a c (S7 _) h.N,aaK a c (Y_ _) h.S⟩
def yy{R:Nat->gX->gQ->Prop}:∀(l:List gX)(k:Nat),(∀j x,l[j]?=Â x->∃y,R (k+j) x y)->∃a:List gQ,a.length=l.length/\∀j y,a[j]?=Â y->∃x,l[j]?=Â x/\R (k+j) x y
 |[],_,_=>⟨[],U,λj y h=>by simp at h⟩
 |x::r,k,h=>by
  let⟨y,c⟩:=h 0 x U;obtain⟨a,d,e⟩:=yy r (k+1) λj z b=>by let⟨q,f⟩:=h (j+1) z b;exact⟨q,by rwa[show k+1+j=k+(j+1) by omega]⟩
  refine⟨y::a,by simp[d],λj z b=> ?_⟩;cases j with
  |zero=>cases b;exact⟨x,U,c⟩
  |succ j=>
   let⟨q,f,g⟩:=e j z b;exact⟨q,f,by rwa[show k+(j+1)=k+1+j by omega]⟩
theorem Jv(a:jF Y u w){e:List (Nat×gf)}(i:fI Y z jQ)(h:Nb z e u):∃c,lH c=lH e/\Nb jQ c w:=by
 obtain⟨I,n,cp,rfl,k,f⟩:=h;obtain⟨g,rfl,l⟩:=Ju i;let⟨c,m,J⟩:=yy (R:=λj (x y:Nat×gf)=>x.2=y.2/\∃q d,g=Â ⟨q,d,Ã⟩/\w.cell? ⟨q,d+j,Ã⟩=Â (Ä<|Â ⟨y.1,0,Ã⟩)/\tX y.1 y.2 w) e 0 λj x o=>by let⟨b,v⟩:=x;let⟨q,d,p,r,s⟩:=f.C j b v o;let⟨K,t,B⟩:=l _ p;obtain⟨y,rfl,C⟩:=wP B;let⟨L,D,E⟩:=a q y _ _ C r;obtain⟨M,rfl,F⟩:=Jt E;obtain⟨G,rfl,H⟩:=wP F;exact⟨(G,v),U,y,d,t,by rwa[dQ],aoL a H s⟩
 refine⟨c,?_,g,n,cp,U,k,⟨by rw[m];exact f.r,λj b v q=> ?_⟩⟩;refine dP λj=> ?_;unfold lH;grind;grind
end
def mK(a:Nat->Prop)(B:Nat):fL:=⟨λi j=>i=j/\a i,B⟩
def aoM(a:Nat->Prop)(B:Nat):Bi (mK a B):=⟨λ_ _ _ h k=>h.1.symm.trans k.1,λ_ _ _ h k=>h.1.trans k.1.symm,λi j h=>by rw[h.1]⟩
def BM{V:Nat->Prop}{B:Nat}(h:∀i,X i->V i):(mK X B).r (mK V B):=⟨λ_ _ q=>⟨q.1,h _ q.2⟩,λ_=>aoM V B,U⟩
def lV(B:Nat)(a:Nat->Prop)(w:Ë):Prop:=∀b,a b->∃c e d,w.heap[b]?=Â (Ô c e d)/\d.2<=c.size/\gD (mK a B) c c/\0<c.size/\En c/\e≠298/\e≠299
section
variable{B:Nat}{V:Nat->Prop}
def lV.I(h:lV B X w)(k:lV B V w):lV B (λb=>X b\/V b) w:=by rintro b (q|q);let⟨c,e,a,d,f,g,i⟩:=h b q;exact⟨c,e,a,d,f,g.fG (BM λ_=>É),i⟩;let⟨c,e,a,d,f,g,i⟩:=k b q;exact⟨c,e,a,d,f,g.fG (BM λ_=>Ì),i⟩
def lV.C(h:lV B X w)(k:∀b,X b->u.heap[b]?=w.heap[b]?):lV B X u:=λb q=>by let⟨c,e,a,d,f⟩:=h b q;exact⟨c,e,a,by rwa[k b q],f⟩
theorem lV.r(h:lV B X w)(a:X b)(d:w.cell? ⟨b,i,Ã⟩=Â v):fI (mK X B) v v:=by let⟨c,e,j,f,_,g,_⟩:=h b a;simp only[Ú,f,eW,æ,if_false]at d;obtain⟨q,_⟩|⟨x,k,l,m,n⟩:=g.M i;all_goals grind
def DU(h:fI (mK X B) (Ä<|Â a) v):X a.block:=by
 cases h with|kn q=>exact q.1.2
def DV(h:fI (mK X B) (Æ (Â a) n i) v):X a.block:=by
 cases h with|lh q=>exact q.1.2
def aoN{Y:fL}(h:kN v=Í):fI Y v v:=by cases v<;>first|exact .nF _|exact .iZ _ _|(simp[kN]at h;done)
def pz{Y:fL}(h:∀v∈d.toList,fI Y v v):gD Y d d:=⟨U,λi a _=>h _<|eS.2<|ÿ a⟩
def aoO(h:kN v=Í):Ai v=Ó:=by
 cases v with
 |int k n=>cases k<;>first|rfl|(simp[kN]at h;done)
 |_=>rfl
def BN(h:∀v∈d.toList,Ai v=Ó):En d:=λk v a=>h v<|eS.2<|fg a
def Jw(v:Î)(i:Nat):Prop:=v.ownBlock=Â i
def Jx(X:Nat->Prop)(g b:Nat)(a c:Î)(i:Nat):Prop:=X i\/i=g\/i=b\/Jw a i\/Jw c i
def aaL{G:Ë}(a:my T=Í)(h:ve v T u)(o:∀j,v.ownBlock=Â j->G.heap.size<=j)(p:tT G.heap.size u):∀i,Jw v i->∃c e f,u.heap[i]?=Â (Ô c e f)/\f.2<=c.size/\gD (mK V B) c c/\0<c.size/\En c/\e≠298/\e≠299:=λi b=>by
 obtain rfl|⟨g,n,c,k,rfl,l⟩:=h;cases b;have e:g=i:=by unfold Jw at b;simpa[Value.ownBlock]using b
 subst e;let⟨r,m⟩:=p g k T (0,0) (o g U) l a;exact⟨k,T,(0,0),l,eD _,pz λv d=>aoN<|m v d,r,BN λv d=>aoO<|m v d,(λq=>by rw[q]at a;cases a),(λq=>by rw[q]at a;cases a)⟩
def aaM(h:ve v T u)(a:∀i,Jw v i->V i):fI (mK V B) v v:=by obtain rfl|⟨g,n,c,b,rfl,d⟩:=h;exact .oP _ _;exact fI.lh (Y:=mK V B) ⟨⟨U,a g U⟩,U,U⟩ n c
theorem aoP{G:Ë}(J:lV B X G)(k:fw fB G u)(K:∀i,X i->i<G.heap.size){l:List (Nat×gf)}{s:gO.St}(o:TJ b s h G u)(r:TH l b G u m)(L:∀p∈l,X p.1): ∃e,(∀i,X i->e i)/\e m/\lV B e u/\∀i,e i->X i\/G.heap.size<=i:=by
 have t:=k.S _ λi c T w M y=>by rw[dj M]at y;cases y
 let⟨a,d,N,z,C,D,E⟩:=o.r;refine⟨Jx X m b a d,λi q=>É q,Ì<|É U,?_,?_⟩;rintro i (q|rfl|rfl|q|q);let⟨c,e,w,n,x,f,j⟩:=J i q;exact⟨c,e,w,by rwa[k.N i (K i q) id],x,f.fG (BM λ_=>É),j⟩;let⟨F,n,x,f⟩:=r.r;have H:∀v∈F.toList,v=Ä Ã\/∃j,v=Ä (Â ⟨j,0,Ã⟩)/\Jx X i b a d j:=λv e=>by obtain q|q|q:=f v e;unfold tY at q;obtain⟨p,I,rfl⟩:=cI.1 q;exact Ì ⟨_,U,É<|L p I⟩;exact Ì ⟨_,q,Ì<|Ì<|É U⟩;exact É q
 refine⟨F,128,(0,0),n,eD _,pz λv e=> ?_,x,BN λv e=> ?_,A,A⟩;obtain rfl|⟨j,rfl,I⟩:=H v e;exact .mN;exact .kn ⟨⟨U,I⟩,U,U⟩;obtain rfl|⟨j,rfl,I⟩:=H v e<;>rfl;have f:∀v∈jY s a++[Ç Ê h,d],fI (mK (Jx X m i a d) B) v v/\Ai v=Ó:=λv e=>by
  rw[By]at e;have I:=aaM (B:=B) (V:=Jx X m i a d) z λj q=>Ì<|Ì<|Ì<|É q;have F:=aaM (B:=B) (V:=Jx X m i a d) C λj q=>Ì<|Ì<|Ì<|Ì q;have H:∀{x:Î} {T:ð},ve x T u->Ai x=Ó:=λ{x T} q=>by obtain rfl|⟨_,_,_,_,rfl,_⟩:=q<;>rfl
  obtain q|q:=dx.1 e;obtain q|q:=dx.1 q;obtain⟨n,rfl⟩|⟨p,rfl⟩:=T5 s v q;exact⟨.iZ _ _,U⟩;exact⟨.lb _,U⟩;grind;simp at q;obtain rfl|rfl:=q;exact⟨.iZ _ _,U⟩;grind
 exact⟨_,139,(0,0),N,eD _,pz λv e=>(f v<|fN e).1,by simp[oh],BN λv e=>(f v<|fN e).2,A,A⟩;exact aaL U z D t i q;exact aaL U C E t i q;rintro i (q|rfl|rfl|q|q);exact É q;exact Ì r.C;exact Ì o.C;exact Ì<|D i q;exact Ì<|E i q
def Np{Y:fL}(h:fI Y v x):fI (mK X B) v v->fI (mK (λj=>∃i,X i/\Y i j) B) x x:=by
 induction h with|nF b=>exact λ_=> .nF b|iZ k n=>exact λ_=> .iZ k n|lb s=>exact λ_=> .lb s|mN=>exact λ_=> .mN|@kn a a' q=>exact λz=>fI.kn (Y:=mK (λj=>∃i,X i/\Y i j) B) ⟨⟨U,_,DU z,q.1⟩,U,U⟩|oP n c=>exact λ_=> .oP n c|@lh a a' q n c=>exact λz=>fI.lh (Y:=mK (λj=>∃i,X i/\Y i j) B) ⟨⟨U,_,DV z,q.1⟩,U,U⟩ n c|uo=>exact λ_=> .uo|fn f=>exact λ_=> .fn f|uq=>exact λ_=> .uq|uu=>exact λ_=> .uu|uw=>exact λ_=> .uw|xf t _ b=>exact λz=> .xf t (b (by cases z with|xf _ y=>exact y))|pG f _ b=>exact λz=> .pG U λi c _=>b i (by rwa[f]) c (by cases z with|pG _ y=>exact y i _ _)|nG f _ b=>exact λz=> .nG U λi c _=>b i (by rwa[f]) c (by cases z with|nG _ y=>exact y i _ _)
def aoQ{Y:fL}(h:fI Y v x):Ai x=Ai v:=by cases h<;>rfl
theorem T6{Y:fL}{r:Nat->Prop}(h:jI Y r u w)(s:lV B X u):lV B (λj=>∃i,X i/\Y i j) w:=by
 rintro j ⟨i,t,x⟩;let⟨c,a,e,F,y,z,C,b,G,H,I⟩:=h.r i j x;let⟨d,J,K,m,_,D,L,E,n,o⟩:=s i t;rw[z]at m;cases m;have M:=b.I.resolve_right λq=>q.2.1.elim n o;refine⟨a,e,y,C,?_,pz λv f=> ?_,Z,BN λv f=> ?_,n,o⟩;grind;obtain⟨k,g,rfl⟩:=cJ f;have l:k<a.size:=fN g
 have:=Np (b.C k Z l)<|D.C k Z Z;simpa using this;obtain⟨k,g,rfl⟩:=cJ f;have l:k<a.size:=fN g;have p:=aoQ<|b.C k Z l;rw[(E k c[k]<|fj Z)]at p;simpa using p
def zG{Y:fL}(h:jI Y X u w):jF Y u w:=λi j o v b c=>h.K (a:=⟨i,o,Ã⟩) (a':=⟨j,o,Ã⟩) ⟨b,U,U⟩ c
end
end jg
namespace Lift
def aaN{c:gX->gQ->Option (ForInStep gQ)}{I:gQ->Prop}(d:∀a b s,I b->c a b=Â s->I s.value): ∀(l:List gX)(b r:gQ),I b->forIn l b c=Â r->I r
 |[],b,r,hi,h=>by simp at h;subst h;exact hi
 |a::l,b,r,hi,h=>by
  rw[bV]at h;cases e:c a b with
  |none=>rw[e]at h;simp at h|some s=>
   rw[e]at h;have:=d a b s hi e;cases s with|done x=>simp at h;subst h;exact this|yield x=>simp at h;exact aaN d l x r this h
def kT.iH(h:kT v):∀x∈v.cells,kT x:=by
 intro x a;cases h with
 |pG h=>
  obtain⟨i,b,rfl⟩:=Array.mem_iff_getElem.1 a;exact h i b|nG h=>simp[ľ]at a;subst a;exact .nG h|_=>simp[ľ]at a;subst a;constructor
def ZP(a:ð->Option Ĥ):Prop:=∀t i z,a t=Â i->i.zero=Â z->kT z
def T7(h:∀x∈d,kT x):kT (σ d):=.pG λ_ a=>h _<|ÿ a
theorem aoR{l:ð->Option Ĥ}(h:ZP l){m:Array Field}(g:Ŧ l m=Â zJ)(q:zJ.zero=Â z):kT z:=by
 unfold Ŧ at g;simp only[<-cz]at g;generalize t:(forIn m.toList _ _:Option _)=L at g;cases L with
 |none=>simp at g|some r=>
  have u:=aaN (I:=λx=>∀a,x.2.2.2.2.2.2.2.1=Â a->∀v∈a,kT v) ?_ _ _ _ ?_ t;have:∃a,r.2.2.2.2.2.2.2.1=Â a/\z=σ a:=by grind [Ø]
  obtain⟨a,e,rfl⟩:=this;exact T7<|u a e
  .intro f b s w d;have y:∀(e:Option Î)(k:Nat)(x:Option (Array Î)),(∀z,e=Â z->kT z)->x=(if k>Μ then Ã else do pure ((<-b.2.2.2.2.2.2.2.1)++(<-e).cells))->∀a,x=Â a->∀v∈a,kT v:=by
    intro e k x B C a c v n;subst C;split at c;simp at c;cases j:b.2.2.2.2.2.2.2.1 with
    |none=>rw[j]at c;simp at c|some E=>
     cases o:e with
     |none=>rw[j,o]at c;simp at c|some D=>
      rw[j,o]at c;simp at c;subst c;obtain p|p:=dq.1 n;exact w _ j v p;exact(B D o).iH v p
   cases e:l f.type with
   |none=>rw[e]at d;simp at d|some j=>
    rw[e,å,ef]at d;have k:=y j.zero (b.2.1+j.size) _ (λz q=>h _ _ _ e q) U;generalize(if b.2.1+j.size>Μ then Ã else(do pure ((<-b.2.2.2.2.2.2.2.1)++(<-j.zero).cells):Option (Array Î)))=X at d k;generalize(if b.1.size+1<m.size then ";" else "")=Y at d;simp only[bind,pure,Option.bind]at d;repeat' split at d
    all_goals first|(simp only[dI]at d;subst d;exact k)|(simp at d;done)
  intro a c v n;simp at c;subst c;simp at n
def aoS{c:ð->Option Ĥ}(h:ZP c){d:TypeDesc}(a:aL c d=Â zJ)(b:zJ.zero=Â z):kT z:=by
 unfold aL at a;cases d with
 |struct k=>exact aoR h a b|array n e=>
  simp only[å,Ü,ü,dI]at a;obtain⟨f,v,st,_,rfl⟩:=a;simp only at b;split at b;simp at b;split at b;simp at b;subst b;exact T7 fD;simp only[Ø]at b;obtain⟨j,g,rfl⟩:=b;refine T7 λx k=> ?_;simp only[Array.mem_flatten,Array.mem_replicate]at k;obtain⟨l,⟨_,rfl⟩,k⟩:=k;exact(h _ _ _ v g).iH x k|pointer e=>
  simp only[å,Ü,ü]at a;let⟨f,v,a⟩:=a;repeat' split at a
  all_goals first|(simp at a;done)|(simp only[Ü,dI]at a;obtain⟨_,_,rfl⟩:=a;simp only[ń,dI]at b;subst b;constructor)
 |slice e=>
  simp only[å,Ü,ü,dI]at a;obtain⟨_,_,_,_,rfl⟩:=a;simp only[ń,dI]at b;subst b;constructor|map k e=>
  simp only[å,Ü,ü,dI]at a;obtain⟨_,_,_,_,_,_,_,_,rfl⟩:=a;simp only[ń,dI]at b;subst b;constructor|chan k e=>
  simp only[å,Ü,ü,dI]at a;obtain⟨_,_,_,_,rfl⟩:=a;simp only[ń,dI]at b;subst b;constructor|func k e v=>
  simp only[å,Ü,ü,dI]at a;obtain⟨_,_,rfl⟩:=a;simp only[ń,dI]at b;subst b;constructor|_=>simp at a
def aaO{T:Tables}(a:∀(t:Nat)(i:Ĥ)(z:Î),T.types[t]?=Â i->i.zero=Â z->kT z):∀f,ZP<|Ŷ T f|0=>λt i z h=>by simp[Ŷ]at h|f+1=>λt i z h b=>by unfold Ŷ at h;split at h;exact a t i z h b;simp only[Ü]at h;let⟨d,_,c⟩:=h;exact aoS (aaO a f) c b
def aoT(a:∀(t:Nat)(i:Ĥ)(z:Î),P.types[t]?=Â i->i.zero=Â z->kT z):pI P:=λt i z h b=>by have h:P.toTables.info? t=Â i:=h;unfold Tables.info? at h;split at h;exact a t i z h b;exact aaO a _ t i z h b
end Lift
namespace fO
open Conc Lift RowKit Conc.Lib ConcR.Gen
open YtgpphkdoanciiabGreatDoor
def T8:Î->Bool|σ a=>a.toList.all EA|v=>EA v
def aaP(h:T8 v=Í):kT v:=by
 cases v with|agg b=>exact .pG λi a=>G5<|(eI.1 h) _<|eS.2<|ÿ a|_=>exact G5 h
def aaQ:Î->Bool|Ý a=>a.toList.all T8|v=>T8 v
def aoU(h:aaQ v=Í):kT v:=by
 cases v with|tuple b=>exact .nG λi a=>aaP<|(eI.1 h) _<|eS.2<|ÿ a|_=>exact aaP h
def zH(i:Ĥ):Bool:=match i.zero with|some z=>aaQ z|none=>Í
def aoV(h:P.types.toList.all zH=Í):pI P:=aoT λt i z a b=>by have:=(eI.1 h) i<|eS.2<|fg a;rw[zH,b]at this;exact aoU this
def xj:pI À:=aoV gq
end fO
namespace jg
open Conc RowKit Lift gO fO
noncomputable def nB:Nat:=À.globals.size
def rC(a:Nat->Prop)(b:Nat):Prop:=a b\/b=1\/b=2\/b=3\/b=4
def Nq(b:Nat)(e:ð)(w:Ë):Prop:=∃c a,w.heap[b]?=Â (Ô c e a)/\a.2<=c.size/\a.2<=16/\0<c.size/\∀v∈c.toList,∃k n,v=Ç k n
structure oy(w:Ë):Prop where
 fM:nB<=w.heap.size
 M:lV nB (λb=>b=1\/b=2) w
 I:Nq 3 298 w
 C:Nq 4 299 w
 S:gO.pW w
 jx:lr w
 N:sy w
section
variable{V:Nat->Prop}
theorem oy.r{w':Ë}(h:oy w)(f:nB<=w'.heap.size)(k:∀b,b=1\/b=2\/b=3\/b=4->w'.heap[b]?=w.heap[b]?):oy w':=by
 have d:∀b o,b=1\/b=2\/b=3\/b=4->w'.cell? ⟨b,o,Ã⟩=w.cell? ⟨b,o,Ã⟩:=λb o e=>by simp only[Ú,k b e]
 refine⟨f,h.M.C λb e=>k b<|e.imp id É,?_,?_,?_,?_,?_⟩;let⟨c,i,a,r⟩:=h.I;exact⟨c,i,by rwa[k 3 fD],r⟩;let⟨c,i,a,r⟩:=h.C;exact⟨c,i,by rwa[k 4 fD],r⟩;have c:=h.S;have i:À.globalNamed "internal/strconv.uint64pow10"=Â 1:=fK
 unfold gO.pW ĩ ĵ at*;grind;let⟨c,g,a⟩:=h.jx.M;refine⟨⟨c,g,by rwa[k 2 fD]⟩,λi r j=> ?_⟩;rw[d 2 _ fD,d 2 _ fD,d 2 _ fD];exact h.jx.I i r j;have:=h.N;unfold sy at*;grind
def aaR(u:lV nB X w)(x:∀b,X b->mT b=Ó)(g:oy w):zr (rC X) (rC X) nB w:=by
 have p:∀{a:Nat->Prop} {c:Array Î},(∀b,a b->rC X b)->gD (mK a nB) c c->gD (nk (rC X) nB) c c:=λ{a c} hX r=>r.fG<|BM hX;refine⟨?_,g.fM⟩;have s:∀b e,(e=298\/e=299)->mT b=Í->Nq b e w->∃c e d,w.heap[b]?=Â (Ô c e d)/\d.2<=c.size/\gD (nk (rC X) nB) c c/\(rC X b->0<c.size/\(mT b=Í->(e=298\/e=299)/\d.2<=16)/\(mT b=Ó->En c)):=λb e y B h=>by let⟨c,d,f,j,l,m,o⟩:=h;exact⟨c,e,d,f,j,pz λv i=>by obtain⟨k,n,rfl⟩:=o v i;exact .iZ _ _,λ_=>⟨m,λ_=>⟨y,l⟩,λq=>by rw[B]at q;cases q⟩⟩
 rintro b (q|q|q|rfl|rfl);let⟨c,e,d,f,j,l,m,o,_⟩:=u b q;exact⟨c,e,d,f,j,p (λ_=>É) l,λ_=>⟨m,λt=>(by rw[x b q]at t;cases t),λ_=>o⟩⟩;let⟨c,e,d,f,j,l,m,o,_⟩:=g.M b<|É q;exact⟨c,e,d,f,j,p (λi k=>k.elim (λz=>Ì<|É z) λz=>Ì<|Ì<|É z) l,λ_=>⟨m,λt=>(by rw[q]at t;cases t),λ_=>o⟩⟩;let⟨c,e,d,f,j,l,m,o,_⟩:=g.M b<|Ì q;exact⟨c,e,d,f,j,p (λi k=>k.elim (λz=>Ì<|É z) λz=>Ì<|Ì<|É z) l,λ_=>⟨m,λt=>(by rw[q]at t;cases t),λ_=>o⟩⟩;exact s 3 298 (É U) U g.I;exact s 4 299 (Ì U) U g.C
def rD(a:mT b=Ó\/i<16)(h:w.cell? ⟨b,i,Ã⟩=Â v):(World.tp (kL V w) xQ 0).cell? ⟨b,i,Ã⟩=Â v:=by
 have j:(World.tp (kL V w) xQ 0).heap[b]?=(w.heap[b]?).map (qD V b):=Dr b;simp only[Ú,j];simp only[Ú]at h;cases g:w.heap[b]? with
 |none=>rw[g]at h;cases h
 |some k=>
  rw[g]at h;cases k with
  |cells c e m=>
   simp only[dT,qD,eW,æ,if_false]at h|-;split;rename_i d;split at d;split at d;rename_i l;cases d;obtain a|a:=a;rw[l]at a;cases a;rw[wD,de];simp;exact⟨by have:=(fp.1 h).1;omega,h⟩;cases d;exact h;cases d;exact h;rename_i f;split at f;split at f<;>exact absurd U<|f _ _ _;exact absurd U<|f _ _ _
  |_=>cases h
def aaS{T:Τ}(d:lV nB X w)(e:∀b,X b->mT b=Ó):jF (mK X nB) w (World.tp (kL V w) T 0):=by rintro i j o v ⟨rfl,a⟩ c;exact⟨v,rD (É<|e i a) c,d.r a c⟩
end
def RD(s:List gf)(b:Î)(a:Nat->Prop)(w:Ë):Prop:=∃c,lH c=s/\lA s/\Nb b c w/\lV nB a w/\fI (mK a nB) b b
section
variable{V:Nat->Prop}{s:List gf}
def aaT(h:lV nB X w)(k:∀b,X b->u.heap[b]?=w.heap[b]?):jF (mK X nB) w u:=by rintro i j o v ⟨rfl,a⟩ c;exact⟨v,by simp only[Ú,k i a];exact c,h.r a c⟩
def RD.r(h:RD s v X w)(k:∀b,X b->u.heap[b]?=w.heap[b]?):RD s v X u:=by let⟨l,d,e,f,a,c⟩:=h;let⟨g,i,j⟩:=Jv (aaT a k) c f;exact⟨g,i.trans d,e,j,a.C k,c⟩
def Jy(r:Nat)(q:Qn)(w:Ë):Prop:=QAt r q.x q.y q.g q.k q.r q.v q.C q.I w
def aaU{Y:fL}(a:jF Y u w){r:Nat}{q:Qn}(b:Y r i)(h:Jy r q u):Jy i q w:=⟨a.r b h.C,a.r b h.I,a.r b h.M,a.r b h.N,a.r b h.S,a.r b h.Y,a.r b h.a,a.r b h.b⟩
def aoW{T:Τ}(g:oy w):gO.pW (World.tp (kL V w) T 0):=by
 have a:=g.S;have h:À.globalNamed "internal/strconv.uint64pow10"=Â 1:=fK;unfold gO.pW ĩ ĵ at*;rw[h]at a|-;simp only[ef]at a|-;have i:(World.tp (kL V w) T 0).heap[1]?=(w.heap[1]?).map (qD V 1):=Dr 1;rw[i];cases f:w.heap[1]? with
 |none=>rw[f]at a;cases a
 |some j=>
  rw[f]at a;cases j with
  |cells c e k=>
   simp only[dT,qD,mT]at a|-;split;rename_i b;split at b<;>(simp at b;obtain⟨rfl,_⟩:=b;exact a);rename_i d;split at d;exact absurd U<|d _ _ _;exact absurd U<|d _ _ _|_=>cases a
theorem aaV{T:Τ}(g:oy w):lr (World.tp (kL V w) T 0):=by let⟨f,h,d⟩:=g.jx.M;refine⟨?_,λi r e=> ?_⟩;have a:(World.tp (kL V w) T 0).heap[2]?=(w.heap[2]?).map (qD V 2):=Dr 2;rw[a,d];simp only[dT,qD,mT];grind;let⟨a,b,c⟩:=g.jx.I i r e;exact⟨rD (É U) a,rD (É U) b,rD (É U) c⟩
def aoX{T:Τ}(g:oy w):sy (World.tp (kL V w) T 0):=rD (Ì A) g.N
theorem zI{T:Τ}:kU (World.tp (kL V w) T 0):=λi o h=>o_ (Sh:=V) (w:=w) i o h
theorem aoY{l:fx}{q:Qn}{r:Nat}(u:RD s v X l.w)(G:∀b,X b->l.M b)(x:lV nB V l.w)(H:∀b,V b->l.M b)(f:V r)(y:Jy r q l.w)(ok:q.Ok)(g:oy l.w)(I:∀b,b=1\/b=2\/b=3\/b=4->l.M b)(h:∀b,X b\/V b->mT b=Ó)(j:List (Nat×gf))(z:lH j=s): FD (λg=>zt g=Í) 51 #[v,Ä<|Â ⟨r,0,Ã⟩] l (rC λb=>X b\/V b) λk _=>k=Å (vh j q):=by
 let⟨J,c,d,B,D,m⟩:=u;have o:=D.I x;refine⟨?_,aaR o h g,?_,?_,λT=> ?_⟩
 .rintro b (q|q);all_goals grind
 intro b a;unfold zt at a;simp at a;exact Ì a;refine pz λk a=> ?_;simp at a;obtain rfl|rfl:=a;exact m.fG (BM λi p=>É<|É p);exact fI.kn (Y:=nk (rC λb=>X b\/V b) nB) ⟨⟨U,É<|Ì f⟩,U,U⟩;have a:=aaS (V:=rC λb=>X b\/V b) (T:=T) o h;obtain⟨E,e,K,n,cp,rfl,L,t⟩:=Jv a (m.fG<|BM λi p=>É p) B;have i:n=(lH E).length:=by rw[t.r];simp[lH]
 have N:=d.I;have O:=d.C;rw[e,c]at i;have C:=aoE (cp:=cp) t Z Z (λp F=> ?_) (aaU a ⟨U,Ì f⟩ y) ok (aaV g) (aoW g)<|aoX g;refine gl C λP k=> ?_;exact⟨by rw[aoG<|e.trans<|c.trans z.symm],k.iH zI⟩;have:p.2∈s:=by rw[<-c,<-e];exact cI.2 ⟨p,F,U⟩
 exact(d.r _ this).1
end
def DW(r:Nat)(v:Int)(x:Nat)(c:List Tx)(w:Ë):Prop:=∃a n d b,DL r v x a n d w/\FT a n b w/\ov b=c/\n<=1000
section
variable{V:Nat->Prop}{w':Ë}{s:List gf}
def aaW(h:lV nB X w):∀i,X i->i<w.heap.size:=λi a=>by let⟨c,e,d,b,_⟩:=h i a;exact(fp.1 b).1
theorem aaX{T:Τ}(f:mT b=Ó)(h:w.heap[b]?=Â (Ô d e xJ))(i:xJ.2<=d.size):∃a,(World.tp (kL V w) T 0).heap[b]?=Â (Ô d e a)/\a.2<=d.size:=by have g:(World.tp (kL V w) T 0).heap[b]?=(w.heap[b]?).map (qD V b):=Dr b;rw[g,h];simp only[dT,qD,f,æ,if_false];grind
def aoZ{T:Τ}(h:lV nB X w)(d:∀b,X b->mT b=Ó):lV nB X (World.tp (kL V w) T 0):=λb a=>by let⟨c,e,m,f,g,i⟩:=h b a;let⟨j,k,l⟩:=aaX (V:=V) (T:=T) (d b a) f g;exact⟨c,e,j,k,l,i⟩
def ao0{T:Τ}(k:lV nB X w)(l:∀b,X b->mT b=Ó){r:Nat}{v:Int}{o:List Tx}(p:X r)(h:DW r v i o w):DW r v i o (World.tp (kL V w) T 0):=by
 let⟨E,n,cp,F,g,s,G,H⟩:=h;have m:=l r p;refine⟨E,n,cp,F,⟨rD (É m) g.M,rD (É m) g.N,rD (É m) g.I⟩,⟨s.C,λj a t q=> ?_⟩,G,H⟩;let⟨tb,I,u,y,d,J⟩:=s.r j a t q;have z:X tb:=by have:=k.r p g.I;rw[u]at this;exact DV this
 have B:=DU<|k.r z y;have f:=l a B;let⟨K,O,C⟩:=d.b;let⟨c,e,P,D,L,_⟩:=k a B;rw[C]at D;cases D;obtain⟨M,N,_⟩:=aaX f C L;exact⟨tb,I,u,rD (É<|l tb z) y,⟨⟨K,M,N⟩,rD (É f) d.r,rD (É f) d.C,rD (É f) d.I,rD (É f) d.M,rD (É f) d.S,rD (É f) d.N⟩,J⟩
def Rg(s:List gf)(v:Î)(u:Ë):Prop:=∃X,RD s v X u
def Rg.tp{T:Τ}(h:Rg s v w):Rg s v (World.tp w T n):=by let⟨X,h⟩:=h;exact⟨X,h.r λ_ _=>U⟩
def ao1{Y:fL}{d:Nat->Prop}(h:rP Y d u w)(a:fI Y v x)(e:Rg s v u):∃c,RD s x c w/\∀b,c b->∃i,Y i b:=by let⟨X,f⟩:=e;have g:RD s v X {u with tape:=w.tape,drawn:=w.drawn}:=f.r λ_ _=>U;let⟨t,j,k,l,m,n⟩:=g;let⟨o,p,q⟩:=Jv (zG h) a l;exact⟨_,⟨o,p.trans j,k,q,T6 h m,Np a n⟩,λb ⟨i,_,r⟩=>⟨i,r⟩⟩
theorem ao2{l:fx}{r:Nat}{d:List Tx}(hRD:RD s v X l.w)(hU:∀b,X b->l.M b)(N:lV nB V l.w)(hV:∀b,V b->l.M b)(O:V r)(hq:DW r h m d l.w)(hx:m<8)(y:-1<=h)(zK:∀t∈d,t.Ok)(hn:d.length<=1000)(g:oy l.w)(hG:∀b,b=1\/b=2\/b=3\/b=4->l.M b)(B:∀b,X b\/V b->mT b=Ó)(D:List (Nat×gf))(I:lH D=s): FD (λg=>zt g=Í) 50 #[v,Ä<|Â ⟨r,0,Ã⟩] l (rC λb=>X b\/V b) λz u=>∃p n c,z=Ý #[Æ p n c,Å (sW D h m d).2]/\Rg (sY D h m d) (Æ p n c) u:=by
 let⟨vs,h1,E,h3,P,f⟩:=hRD;have Q:=P.I N;refine⟨?_,aaR Q B g,?_,?_,λT=> ?_⟩
 .rintro b (q|q);all_goals grind
 intro b u;unfold zt at u;simp at u;exact Ì u;refine pz λh y=> ?_;simp at y;obtain rfl|rfl:=y;exact f.fG (BM λi j=>É<|É j);exact fI.kn (Y:=nk (rC λb=>X b\/V b) nB) ⟨⟨U,É<|Ì O⟩,U,U⟩;have o:=aoZ (V:=rC λb=>X b\/V b) (T:=T) P λb q=>B b<|É q;obtain⟨z,k1,S,n,cp,rfl,W,F⟩:=Jv (aaS (V:=rC λb=>X b\/V b) (T:=T) Q B) (f.fG<|BM λi j=>É j) h3;obtain⟨tp,tn,tc,a,q1,q2,rfl,q4⟩:=(ao0 (V:=rC λb=>X b\/V b) (T:=T) N (λb q=>B b<|Ì q) O hq);have c:=k1.trans h1;have hlen:n=s.length:=by rw[F.r,<-c];simp[lH]
 have ao3:=E.I;have hle:=E.C;have Fv:kU (World.tp (kL (rC λb=>X b\/V b) l.w) T 0):=zI;have C:=anH F Z Z W (λp J=>by
  have:p.2∈s:=by rw[<-c];exact cI.2 ⟨p,J,U⟩
  have:=(E.r _ this).2.2.2;omega) q1 q2 q4 (aaV g) hx y
 have u:sY z h m (ov a)=sY D h m (ov a):=by unfold sY;rw[aaJ<|c.trans I.symm,c,I]
 have H:lA (sY z h m<|ov a):=lA.M (by rwa[c]) zK hn;have ha:=aaJ (c.trans I.symm) h m<|ov a;generalize World.tp (kL (rC λb=>X b\/V b) l.w) T 0=G at*;apply C.mono;rintro e u' ⟨k,hA⟩;obtain⟨K,rfl⟩|⟨nv,b,uS,K,rfl,e3,e4,gb,gn,gc,rfl,e6⟩:=hA;refine⟨⟨S,n,cp,by rw[ha],?_⟩,k.iH Fv⟩;rw[<-u];have L:sY z h m (ov a)=s:=by unfold sY;rw[K,c];simp
 rw[L]at H|-;exact⟨X,z,c,H,⟨S,n,cp,U,W,F.I k⟩,o.C λi j=>k.N i (aaW o i j) id,f⟩;let⟨i,m1,m2,m3,_⟩:=aoP o k (aaW o) e4 e6 λp J=>by
  let⟨j,hj⟩:=ek J;let⟨sb,so,f1,f2,_⟩:=F.C j p.1 p.2 hj;have:X sb:=by rw[f1]at f;exact DV f
  exact DU<|o.r this f2
 refine⟨⟨Â ⟨gb,0,Ã⟩,gn,gc,by rw[ha],?_⟩,k.iH Fv⟩;rw[<-u];have L:sY z h m (ov a)=lH (z++[(b,nv)]):=by unfold sY;rw[K];simp[lH]
 rw[L]at H|-;exact⟨i,_,U,H,e3,m3,fI.lh (Y:=mK i nB) ⟨⟨U,m2⟩,U,U⟩ gn gc⟩
end
structure yf where
 r:Nat->Int×Nat×List Tx
 C:Nat->Qn
def pA(s:List gf):List (Nat×gf):=s.map λv=>(0,v)
def F3(s:List gf):lH (pA s)=s:=by simp[lH,pA,Function.comp_def]
def BO(s:List gf)(i:Int×Nat×List Tx):List gf:=sY (pA s) i.1 i.2.1 i.2.2
def rE(a:yf)(I:List Nat)(b:List gf):Nat->List gf|0=>b|k+1=>BO (rE a I b k)<|a.r<|I.getD k 0
def zL(a:yf)(kd:Nat->Int)(p:Nat)(s:List gf):ByteArray:=if kd p=1 then(sW (pA s) (a.r p).1 (a.r p).2.1 (a.r p).2.2).2 else vh (pA s) (a.C p)
def jd(e:fx)(a:Nat->Prop)(c:yf)(kd:Nat->Int)(R:Nat)(d:List gf)(f:Nat->Prop):zq where
 γ:=List gf
 C:=d
 M:=λk s g=>g=BO s (c.r<|(iP kd R).getD k 0)
 RD:=λs h V w=>RD s h V w/\∀b,V b->a b\/e.w.heap.size<=b
 I:=λp=>zL c kd p<|rE c (iP kd R) d<|gw kd p
 r:=f
def T9{kd:Nat->Int}:∀(R k:Nat),k<(iP kd R).length->gw kd ((iP kd R).getD k 0)=k
 |0,k,h=>by simp[iP]at h
 |R+1,k,h=>by
  by_cases q:kd R=1;rw[uR q]at h|-;obtain z|z:=ey k (iP kd R).length;have e:(iP kd R++[R]).getD k 0=(iP kd R).getD k 0:=by simp[Ċ,eR z]
  rw[e];exact T9 R k z;have e:k=(iP kd R).length:=by simp at h;omega
  subst e;simp[Ċ,gw];rw[xN q]at h|-;exact T9 R k h
section
variable{y:Nat->Prop}
def Nr(h:lV nB y w)(g:oy w):∀b,y b->mT b=Ó:=λb i=>by
 let⟨c,e,n,f,_,_,_,_,j,k⟩:=h b i;cases d:mT b with
 |false=>rfl|true=>
  unfold mT at d;simp at d;obtain rfl|rfl:=d;let⟨l,m,a,_⟩:=g.I;rw[f]at a;cases a;exact absurd U j;let⟨l,m,a,_⟩:=g.C;rw[f]at a;cases a;exact absurd U k
def ao4(p:lV nB X w)(k:∀b,X b->u.heap[b]?=w.heap[b]?){r:Nat}{s:List Tx}(g:X r)(h:DW r c i s w):DW r c i s u:=by
 have d:∀{b o:Nat} {z:Î},X b->w.cell? ⟨b,o,Ã⟩=Â z->u.cell? ⟨b,o,Ã⟩=Â z:=λ{b o z} l q=>by simp only[Ú,k b l];exact q
 let⟨D,n,cp,E,m,y,F,G⟩:=h;refine⟨D,n,cp,E,⟨d g m.M,d g m.N,d g m.I⟩,⟨y.C,λj a t q=> ?_⟩,F,G⟩;let⟨tb,H,B,C,e,I⟩:=y.r j a t q;have l:X tb:=by have:=p.r g m.I;rw[B]at this;exact DV this
 have f:=DU<|p.r l C;let⟨J,K,L⟩:=e.b;exact⟨tb,H,B,d l C,⟨⟨J,K,by rwa[k a f]⟩,d f e.r,d f e.C,d f e.I,d f e.M,d f e.S,d f e.N⟩,I⟩
end
structure Jz(l0:fx)(bt:yf)(kd:Nat->Int)(rq:Nat->Nat)(R:Nat)(Q:Nat->Prop):Prop where
 M:oy l0.w
 I:∀b,b=1\/b=2\/b=3\/b=4->l0.O b
 C:lV nB Q l0.w
 fE:∀b,Q b->l0.O b
 r:∀p,p<R->Q (rq p)
 lY:∀p,p<R->kd p=1->DW (rq p) (bt.r p).1 (bt.r p).2.1 (bt.r p).2.2 l0.w/\(bt.r p).2.1<8/\-1<=(bt.r p).1/\(∀t∈(bt.r p).2.2,t.Ok)/\(bt.r p).2.2.length<=1000
 SL:∀p,p<R->kd p≠1->Jy (rq p) (bt.C p) l0.w/\(bt.C p).Ok
def aaY{V:Nat->Prop}{l:fx}{a:Î->Ë->Prop}(h:FD X F d l V vQ)(b:∀v u,vQ v u->a v u):FD X F d l V a:=⟨h.N,h.S,h.I,h.r,λT=>(h.C T).mono λe u q=>by
  cases e with|returned v=>exact⟨b v u q.1,q.2⟩|_=>exact q⟩
section
variable{l0:fx}{bt:yf}{kd:Nat->Int}{rq:Nat->Nat}{R:Nat}{Q C d:Nat->Prop}{B:List gf}{E F:Option ø}
def aaZ{s:List gf}(h:fO.oW ((lU (jd l0 d bt kd R B C) i n R kd rq D E F j9 j7 k m J j qX l0).r À) b s):s=rE bt (iP kd R) B b:=by
 have c:∀(b:Nat)(s:((lU (jd l0 d bt kd R B C) i n R kd rq D E F j9 j7 k m J j qX l0).r À).γ),fO.oW ((lU (jd l0 d bt kd R B C) i n R kd rq D E F j9 j7 k m J j qX l0).r À) b s->s=rE bt (iP kd R) B b:=λb s h=>by
  induction h with
  |xn=>rfl|EI _ a e=>
   rwa[e]at a
 exact c b s h
def ao5(h:Jz l0 bt kd rq R Q)(N:l0.w.heap.size<=m):Fz (lU (jd l0 d bt kd R B C) i n R kd rq D E F j9 j7 k m J j qX l0):=by
 apply alg xj t_ r_ U;intro a s O W l q t f x y P g G;let⟨f,S⟩:=f;have T:=y.fM m<|g m<|Ì U;have H:l0.w.heap.size<=l.w.heap.size:=Z
 have o:=G;have p:=h.M.r (Ï h.M.fM H) λb c=>o b<|h.I b c;have r:=h.C.C λb c=>o b<|h.fE b c;have e:=IV<|xR q;let⟨I,K⟩:=h.SL _ e.1 e.2;refine⟨_,aaY (aoY f x r (λb c=>g b<|É<|h.fE b c) (h.r _ e.1) (aaU (aaT h.C λb c=>o b<|h.fE b c) ⟨U,h.r _ e.1⟩ I) K p (λb c=>g b<|É<|h.I b c) (λb c=>c.elim (Nr (by let⟨_,_,_,_,z,_⟩:=f;exact z) p b)<|Nr r p b) (pA s)<|F3 s) λv u L=> ?_⟩;rw[L];have z:=aaZ t;have M:(lU (jd l0 d bt kd R B C) i n R kd rq D E F j9 j7 k m J j qX l0).b a=gw kd ((kq kd R).getD a 0):=if_pos q;rw[M]at z;show _=Å (zL bt kd ((kq kd R).getD a 0)<|rE bt (iP kd R) B<|gw kd<|(kq kd R).getD a 0);rw[<-z];unfold zL;rw[if_neg e.2]
theorem ao6(h:Jz l0 bt kd rq R Q)(hZ:(∀b,Q b->d b)/\∀b,b=1\/b=2\/b=3\/b=4->d b)(hba:l0.w.heap.size<=m):Fy (lU (jd l0 d bt kd R B C) i n R kd rq D E F j9 j7 k m J j qX l0):=by
 refine alh xj t_ r_ U (λs o u=>Rg s o u) (λs o u T n q=>Rg.tp q) ?_;intro T s o W l H I g K L hq r M;let⟨g,HQ⟩:=g;have hs:=L.fM m<|r m<|Ì U;have N:l0.w.heap.size<=l.w.heap.size:=Z
 have t:=M;have x:=h.M.r (Ï h.M.fM N) λb a=>t b<|h.I b a;have y:=h.C.C λb a=>t b<|h.fE b a;have G:=H;have f:=IU<|xR G;let⟨O,P,S,V,X⟩:=h.lY _ f.1 f.2;refine⟨_,aaY (ao2 g K y (λb a=>r b<|É<|h.fE b a) (h.r _ f.1) (ao4 h.C (λb a=>t b<|h.fE b a) (h.r _ f.1) O) P S V X x (λb a=>r b<|É<|h.I b a) (λb a=>a.elim (Nr (by let⟨_,_,_,_,z,_⟩:=g;exact z) x b)<|Nr y x b) (pA s)<|F3 s) λv u hv=> ?_,?_⟩;obtain⟨p,z,c,rfl,Y⟩:=hv;refine⟨p,z,c,BO s<|bt.r<|(iP kd R).getD T 0,?_,U,Y⟩;have e:(lU (jd l0 d bt kd R B C) i n R kd rq D E F j9 j7 k m J j qX l0).d (T+1)=zL bt kd ((iP kd R).getD T 0) (rE bt (iP kd R) B<|gw kd<|(iP kd R).getD T 0):=U;rw[e,T9 R T G,<-(aaZ I)];unfold zL;rw[if_pos f.2];intro Y Sh u w s' h_ Mz e p h3 h4;let⟨V',k1,c⟩:=ao1 e p h3;refine⟨V',⟨k1,λb a=> ?_⟩,c⟩;let⟨z,hi⟩:=c b a;obtain((q|q)|q)|q:=h4 z b hi;all_goals grind
end
section
variable{R:Nat}{kd:Nat->Int}{o:Nat->Nat}{r:List ĉ}{l:fx}{u:Nat->fx}{t:Ε}{bt:yf}{j f:Nat->Prop}{s0:List gf}
def ao7{s:List gf}(h:Bj (jd l f bt kd R s0 j) k s):s=rE bt (iP kd R) s0 k:=by
 have b:∀(k:Nat)(s:(jd l f bt kd R s0 j).γ),Bj (jd l f bt kd R s0 j) k s->s=rE bt (iP kd R) s0 k:=λk s h=>by
  induction h with
  |xn=>rfl|EI _ a c=>
   rwa[c]at a
 exact b k s h
structure zM(f:Nat->Prop)(bt:yf)(R:Nat)(kd:Nat->Int)(s0:List gf)(l:fx)(an:Nat)(sl:Î)(l':fx):Prop where
 M:∀b,l.O b->l'.O b/\l'.w.heap[b]?=l.w.heap[b]?
 r:l'.O an/\∀p,p<R->l'.w.cell? ⟨an,p,Ã⟩=Â (Å<|zL bt kd p<|rE bt (iP kd R) s0<|gw kd p)
 S:∃V,RD (rE bt (iP kd R) s0<|gw kd R) sl V l'.w/\∀b,V b->l'.O b/\(f b\/l.w.heap.size<=b)
 d:l'.d=0
 q:¬l'.q
 rd:∀b,¬l'.I b
 C:(∀a,¬l'.r a)/\(∀a,¬l'.N a)/\∀a,¬l'.K a
 I:l'.w.cell? ⟨an,R,Ã⟩=Ã/\mo l'.w an=Â (0,0)
def ao8{a:fx}(h:G2 (jd l f bt kd R s0 j) R kd l i v a):zM f bt R kd s0 l i v a:=by let⟨s,V,g,c,k⟩:=h.IW;have e:=ao7 g;subst e;exact⟨h.FA,h.lS,⟨V,c.1,λb q=>⟨k b q,c.2 b q⟩⟩,h.d,h.q,h.rd,h.xT,h.Es⟩
def ao9{J:(Loc->Prop)->Nat->Jd}{H:ĉ}(S:qX=H.at y (Õ Q (j9::jJ)::L)::r)(c:fO.tS À zX i (Mx kd o R n v l qX) .fS D u E w t)(F:Option (Nat×Nat))(s:gT l)(W:∀b,¬l.I b)(Y:¬l.q)(hd:l.d=0)(Ns:xS zX i l)(I:Jz l bt kd o R X)(hZ:(∀b,X b->f b)/\∀b,b=1\/b=2\/b=3\/b=4->f b)(K:∀b,f b->l.O b)(P:∀b,j b->f b)(Dq:RD s0 v j l.w)(zn:w.os=l.w.os/\w.output=l.w.output)(hn:1<=n)(hs:n+R<1000)(hJ:∀x z B C p m c,xS x z B->gT B->zM f bt R kd s0 l C (Æ p m c) B->fO.fF À Í (J x z) B (G (H.at (y.put ((Q[j9]?).bind (·.dst))<|Ý #[Æ (Â ⟨C,0,Ã⟩) R R,Æ p m c])<|Õ Q jJ::L) r)): ∃N x z T V IY g e uS h,ν À N (ĭ E w F) t=(.next<|ĭ g e uS,h)/\(e.os=l.w.os/\e.output=l.w.output)/\fO.tS À x z (J x z) T V IY g e h:=ala (M:=jd l f bt kd R s0 j) S c F s W Y hd Ns (λb q=>K b<|P b q) (λs F V w e h L=>⟨h.1.r L,h.2⟩) (λs F V w h=>⟨by let⟨_,_,_,⟨g,n,cp,e,_⟩,_⟩:=h.1;exact⟨g,n,cp,e⟩,λb q=>(h.2 b q).imp (K b) id⟩) ⟨Dq,λb h=>É<|P b h⟩ zn hn hs (λg V N T cq C ba bi all e=>⟨ao6 I hZ e,ao5 I e⟩) λx z B C p m c e g V=>hJ x z B C p m c e g<|ao8 V
end
end jg
namespace me
open RowKit Lift gO
def kE(c:Int):Bool:=decide (48<=c)&&decide (c<=57)
def qM(c:Int):Bool:=decide (97<=c)&&decide (c<=104)
def vi(c:Int):Int:=
 if c=105 then 1 else if c=103 then 2 else if c=98 then 3 else if c=99 then 4 else if c=109 then 5
 else if c=114 then 6 else if c=108 then 7 else if c=117 then 8 else if c=100 then 9 else 0
def BP(c:Int):Int:=if c=62 then 1 else if c=123 then 2 else if c=58 then 3 else 0
def apa(h:48<=c/\c<=57):kE c=Í:=by simp[kE,h]
theorem BQ(c:Int):kE c=Í↔(48<=c/\c<=57):=by simp[kE]
def aa0(c:Int):qM c=Í↔(97<=c/\c<=104):=by simp[qM]
def ua(k:Int):List Int:=
 if k=1 then[86,58,120,47,66]else if k=2 then[86,58,120,115]else if k=3 then[86,58,120]
 else if k=4 then[86,58,120,62,121,40,110,44,107,41]else if k=5 then[86,58,120,62,121,40,107,41]
 else if k=9 then[86,58,87]else[86]
def qN(k:Int):List Int:=
 if k=1 then[121,61,110]else if k=2 then[80]else[121,40,110,44,107,41]
def oL(a c:Int):Bool:=
 if a=86\/a=87 then c==104||kE c
 else if a=110\/a=107 then kE c
 else if a=120\/a=121 then qM c
 else if a=115 then kE c||(decide (97<=c)&&decide (c<=102))
 else c==a
def mL(a c:Int):Int:=
 if c=48\/kE c=Ó then 0
 else if a=86\/a=87 then 1
 else if a=110\/a=107 then 5
 else 0
def iV(s:ByteArray):List Int:=s.data.toList.map λc=>((c.toNat:Nat):Int)
def apb(B:ByteArray)(k:Nat)(h:k<B.size):(iV B).drop k=((B[k].toNat:Nat):Int)::(iV B).drop (k+1):=by
 have a:k<(iV B).length:=by simpa[iV]using h
 rw[List.drop_eq_getElem_cons a];congr 1;simp[iV,dX]
theorem F4(B:ByteArray):(iV B).length=B.size:=by unfold iV;simp_all
theorem aa1(s:ByteArray)(h:0<s.size):iV s=((s[0].toNat:Nat):Int)::(iV s).tail:=by have:=apb s 0 h;grind
theorem aa2(s:ByteArray)(h:s.size=0):iV s=[]:=by grind [Ù,F4]
def apc(s:ByteArray):iV (s.extract 1 s.size)=(iV s).tail:=by unfold iV;rw[cC,cP,<-List.map_tail];congr 1;rw[dE,<-List.drop_one];apply eG;simp_all
theorem apd(s:ByteArray)(h:s.size<=10):(s.extract 1 s.size).size<=10:=by grind [ä]
theorem ape(a c:Int):0<=mL a c/\mL a c<=5:=by unfold mL;grind
structure PT where
 c:List Int
 p:ByteArray
structure PR where
 c:List Int
 r:List PT
structure PD where
 Y:List PR
 r:Bool
 M:PR
 C:Bool
 N:PT
structure PS where
 C:List Int
 r:Int
 I:Int
 M:Int
 d:PD
namespace PD
def S(d:PD):List PT:=if d.C then d.M.r++[d.N]else d.M.r
def I(d:PD):List PR:=if d.r then d.Y++[⟨d.M.c,d.S⟩]else d.Y
def wR(d:PD)(i:Nat)(z:Int):PD:={d with M:={d.M with c:=d.M.c.set i z}}
def vj(d:PD)(i:Nat)(z:Int):PD:={d with N:={d.N with c:=d.N.c.set i z}}
def G(d:PD)(i:Nat)(z:Int):PD:=if d.C then d.vj i z else d.wR i z
def sZ(d:PD)(p:ByteArray):PD:={d with N:={d.N with p:=p}}
def zH:PT:=⟨[0,0,0,0,0],⟨#[]⟩⟩
def BR(k:Int):PR:=⟨[0,0,0,0,k,0,0,0],[]⟩
def K(d:PD):PD:={d with M:=⟨d.M.c,d.S⟩,C:=Í,N:=zH}
def wS(d:PD)(k:Int):PD:={Y:=d.I,r:=Í,M:=BR k,C:=Ó,N:=d.N}
def fR(d:PD)(a z:Int):PD:=
 if a=86 then d.wR 5 z else if a=87 then d.wR 6 z else if a=120 then d.G 0 z else if a=121 then d.G 1 z
 else if a=110 then d.G 2 z else if a=107 then d.G 3 z else if a=115 then d.wR 7 z else d
def JA(d:PD)(i:Nat):Int:=if d.C then d.N.c.getD i 0 else d.M.c.getD i 0
def H(d:PD)(a:Int):Int:=if a=86 then d.M.c.getD 5 0 else if a=87 then d.M.c.getD 6 0 else if a=110 then d.JA 2 else d.JA 3
end PD
def mf(a c:Int):Int:=
 if a=120\/a=121 then ß [97,98,99,100,101,102,103,104] c.toNat.toUInt8
 else if a=115 then ß [48,49,50,51,52,53,54,55,56,57,97,98,99,100,101,102] c.toNat.toUInt8
 else if c=104 then-1 else(c-48)%256
def sB(z c:Int):Int:=Ê.wrap<|Ê.wrap (z*10)+(c-48)%256
def rF(st:PS)(c:Int):Option PS:=
 if c=59/\st.d.Y.length+1<24 then Â {st with C:=[82]}
 else if c=44/\0<st.d.S.length/\st.d.S.length<8 then Â {st with C:=[120,84],d:=st.d.K}
 else Ã
def zN(st:PS)(k:Int):Option PS:=if k=0 then Ã else Â {st with C:=ua k,d:=st.d.wS k}
def zO(st:PS)(k:Int):Option PS:=if k=0 then Ã else Â {st with C:=qN k,I:=0,d:=st.d.vj 4 k}
def yg(st:PS)(a c:Int):PS:={st with r:=mL a c,M:=a,d:=st.d.fR a (mf a c)}
def ki(B:ByteArray)(k:Nat)(st:PS)(c:Int):Option PS:=
 match st.C with
 |[]=>rF st c|want::tl=>
  if want=82 then zN st (vi c)
  else if want=66 then
   if qM c=Í then Â (yg {st with C:=[84],d:=st.d.K} 120 c)else rF st c
  else if want=84 then zO st (BP c)
  else if want=80 then
   if c=125 then Â {st with C:=tl,d:=st.d.sZ (B.extract (k-st.I.toNat) k)}
   else if st.I=40\/il c=0 then Ã else Â {st with I:=st.I+1}
  else if oL want c=Í then Â {yg st want c with C:=tl}
  else Ã
def Nt(st:PS)(c:Int):PS:={st with r:=st.r-1,d:=st.d.fR st.M (sB (st.d.H st.M) c)}
def uf(B:ByteArray)(k:Nat)(st:PS)(c:Int):Option PS:=
 if 0<st.r/\kE c=Í then Â (Nt st c)else ki B k {st with r:=0} c
def qO(B:ByteArray):Nat->Nat->PS->Nat×PS
 |0,k,st=>(k,st)
 |f+1,k,st=>if h:k<B.size then match uf B k st (B[k].toNat:Int)with|none=>(k,st)|some a=>qO B f (k+1) a
  else(k,st)
def Ua:PD:=⟨[],Ó,⟨[],[]⟩,Ó,⟨[],⟨#[]⟩⟩⟩
def vk:PS:=⟨[82],0,0,0,Ua⟩
def Ub(c:Int)(w:Ë): Ò À 78 #[Ç ņ c] w λe a=>e=È (á<|kE c)/\a=w:=by
 go_enter Tryz.func78,Tryz.ntmps78;go_wp2;all_goals go_ret
 all_goals exact⟨SV (by simp only[kE];first|(simp[*];done)|(rw[dA];simp;omega)),U⟩
def apf(s:ByteArray)(c:Int)(w:Ë): Ò À 151 #[Å s,Ç ņ c] w λe a=>e=È (Ç Ê<|ß s.data.toList c.toNat.toUInt8)/\a=w:=by go_enter Tryz.func151,Tryz.ntmps151;go_wp2;rw[ě Tryz.func169 fK fK fK fK,Lib.run_indexByteString];simp only[č];rw[Ě];go_wp2;go_ret;exact⟨U,U⟩
def Uc(s:ByteArray)(c:Int)(w:Ë): Ò À 130 #[Å s,Ç ņ c] w λe a=>e=È (Ç Ê<|ß s.data.toList c.toNat.toUInt8)/\a=w:=by go_enter Tryz.func130,Tryz.ntmps130;go_wp2_with (go_at_call 151;refine iT (apf _ _ _) ?_);go_ret;exact⟨U,U⟩
def Nu(c:Int):Bool:=kE c||(decide (97<=c)&&decide (c<=102))
def apg:∀n:Fin 256,decide (0<=ß [97,98,99,100,101,102,103,104] n.val.toUInt8)=qM (n.val:Int):=by decide+kernel
def aph:∀n:Fin 256,decide (0<=ß [48,49,50,51,52,53,54,55,56,57,97,98,99,100,101,102] n.val.toUInt8)=Nu (n.val:Int):=by decide+kernel
def apj(a:0<=c)(b:c<256):decide (0<=ß [97,98,99,100,101,102,103,104] c.toNat.toUInt8)=qM c:=by have:=apg ⟨c.toNat,Z⟩;rwa[show((c.toNat:Nat):Int)=c from by omega]at this
def apk(a:0<=c)(b:c<256):decide (0<=ß [48,49,50,51,52,53,54,55,56,57,97,98,99,100,101,102] c.toNat.toUInt8)=Nu c:=by have:=aph ⟨c.toNat,Z⟩;rwa[show((c.toNat:Nat):Int)=c from by omega]at this
def Ud(c:Int)(a:0<=c)(b:c<256)(w:Ë): Ò À 82 #[Ç ņ c] w λe d=>e=È (á<|qM c)/\d=w:=by
 have d:=apj a b;go_enter Tryz.func82,Tryz.ntmps82;go_wp2_with (go_at_call 130;refine iT (Uc _ _ _) ?_);all_goals go_ret
 all_goals exact⟨U,U⟩
def apl(c:Int)(a:0<=c)(b:c<256)(w:Ë): Ò À 133 #[Ç ņ c] w λe d=>e=È (á<|Nu c)/\d=w:=by
 have d:=apk a b;go_enter Tryz.func133,Tryz.ntmps133;go_wp2_with (go_at_call 130;refine iT (Uc _ _ _) ?_);all_goals go_ret
 all_goals exact⟨U,U⟩
def apm(c:Int)(w:Ë): Ò À 86 #[Ç ņ c] w λe a=>e=È (Ç Ê<|BP c)/\a=w:=by
 go_enter Tryz.func86,Tryz.ntmps86;go_wp2;all_goals go_ret
 all_goals refine⟨Du ?_,U⟩
 all_goals simp only[beq_iff_eq,beq_eq_false_iff_ne,ne_eq]at*
 all_goals simp[BP, *]
def apn(c:Int)(w:Ë): Ò À 81 #[Ç ņ c] w λe a=>e=È (Ç Ê<|vi c)/\a=w:=by
 go_enter Tryz.func81,Tryz.ntmps81;go_wp2;all_goals go_ret
 all_goals refine⟨Du ?_,U⟩
 all_goals simp only[beq_iff_eq,beq_eq_false_iff_ne,ne_eq]at*
 all_goals simp[vi, *]
def aa3(a c:Int)(b:0<=c)(d:c<256)(w:Ë): Ò À 88 #[Ç ņ a,Ç ņ c] w λe f=>e=È (á<|oL a c)/\f=w:=by
 go_enter Tryz.func88,Tryz.ntmps88;go_wp2_with (first|(go_at_call 78;refine iT (Ub _ _) ?_)|(go_at_call 82;refine iT (Ud _ b d _) ?_)|(go_at_call 133;refine iT (apl _ b d _) ?_));all_goals go_ret
 all_goals refine⟨SV ?_,U⟩
 all_goals try go_light
 all_goals simp only[beq_iff_eq,beq_eq_false_iff_ne,ne_eq]at*
 all_goals unfold oL
 all_goals first|(simp[Nu, *];done)|(rw[dA];simp[*];done)|(rw[dA];simp[*];omega)
def apo(k:Int)(w:Ë): Ò À 129 #[Ç Ê k] w λe a=>(∃b:ByteArray,e=È (Å b)/\b.size<=10/\iV b=ua k)/\a=w:=by
 go_enter Tryz.func129,Tryz.ntmps129;go_wp2;all_goals go_ret
 all_goals refine⟨⟨_,U,?_,?_⟩,U⟩
 all_goals try go_light
 all_goals simp only[beq_iff_eq,beq_eq_false_iff_ne,ne_eq]at*
 all_goals first|(simp[iV,ua, *];done)|decide
def apq(k:Int)(w:Ë): Ò À 132 #[Ç Ê k] w λe a=>(∃b:ByteArray,e=È (Å b)/\b.size<=10/\iV b=qN k)/\a=w:=by
 go_enter Tryz.func132,Tryz.ntmps132;go_wp2;all_goals go_ret
 all_goals refine⟨⟨_,U,?_,?_⟩,U⟩
 all_goals try go_light
 all_goals simp only[beq_iff_eq,beq_eq_false_iff_ne,ne_eq]at*
 all_goals first|(simp[iV,qN, *];done)|decide
def oM(m s:Nat):Î->Prop|Ç ņ _=>False|Ç _ _|á _|Å _|Ä Ã=>True|Ä (Â a)=>m<=a.block/\a.block<s|Æ Ã _ _=>True|Æ (Â a) _ _=>m<=a.block/\a.block<s|_=>False
def oM.fG{s:Nat}(h:oM m s v)(b:s<=i):oM m i v:=by
 cases v with
 |int k n=>cases k<;>exact h
 |pointer a=>cases a with|none=>trivial|some a=>exact⟨h.1,ff h.2 b⟩
 |slice a n c=>cases a with|none=>trivial|some a=>exact⟨h.1,ff h.2 b⟩
 |_=>exact h
def Nv(m s:Nat)(o:Obj):Prop:=∃c e a,o=Ô c e a/\a.2<=c.size/\0<c.size/\e≠298/\e≠299/\∀v∈c.toList,oM m s v
def ku(m:Nat)(w:Ë):Prop:=∀i o,m<=i->w.heap[i]?=Â o->Nv m w.heap.size o
section
variable{w':Ë}
def Nv.fG{s:Nat}{o:Obj}(h:Nv m s o)(a:s<=i):Nv m i o:=by let⟨c,e,b,d,f,g,j,k,l⟩:=h;exact⟨c,e,b,d,f,g,j,k,λv n=>(l v n).fG a⟩
def ku.I(w:Ë):ku w.heap.size w:=λi o a h=>by rw[dj a]at h;cases h
def ku.gM(h:ku m w):ku m w.drew:=h
def ku.iQ(h:ku m w)(n:Nat):ku m (w.drewN n):=h
theorem ku.gP(h:ku m w)(cs:Array Î)(t:ð)(c:0<cs.size)(b:t≠298/\t≠299)(d:∀v∈cs.toList,oM m w.heap.size v):ku m (w.alloc<|Ô cs t):=by intro i o f a;have k:(w.alloc<|Ô cs t).heap.size=w.heap.size+1:=fD;by_cases e:i<w.heap.size;rw[ī _ _ _ e]at a;exact(h i o f a).fG Z;by_cases g:i=w.heap.size;subst g;rw[ĺ]at a;cases a;exact⟨cs,t,(0,0),U,eD _,c,b.1,b.2,λv j=>(d v j).fG Z⟩;grind
def ku.r(h:ku m w)(p:ø)(l:oM m w.heap.size v):ku m (w.setCell p v):=by
 intro i o f a;have n:(w.setCell p v).heap.size=w.heap.size:=fD;rw[n];by_cases e:i=p.block;subst e;unfold ζ at a;simp only[fh,if_true]at a;cases d:w.heap[p.block]? with
 |none=>rw[d]at a;cases a
 |some x=>
  rw[d]at a;obtain⟨c,e,r,rfl,g,j,s,t,k⟩:=h _ _ f d;simp only[dT,dI]at a;subst a;refine⟨_,e,r,U,?_,?_,s,t,λu b=> ?_⟩;split;exact g;rwa[dy];split;exact j;rwa[dy];split at b;exact k u b;rw[dF]at b;obtain q|q:=eO b;exact k u q;rwa[q]
 .rw[Ģ _ _ _ _<|fN e]at a;exact h i o f a
theorem apr{ty:ð}{bytes base:Nat}(y:P.underlying t=Â (.slice e))(B:P.info? e=Â zJ)(G:zJ.zero=Â (Ä Ã))(s:zJ.size=1)(H:zJ.bytes=bytes)(f:w.ownsRow base e 1 v n l)(a:ø)(c:Nat)(C:∀j M,[z][j]?=Â M->w.cell? (a.add j)=Â M)(N:z.oneCell'=Í)(O:n+1<=ó)(I:(n+1)*bytes<=140737488355328)(W:base<=w.heap.size)(X:my e=Ó)(hm:m<=base)(D:ku m w)(hg:oM m w.heap.size z)(Y:e≠298/\e≠299): ∃h w',(û #[t,t] ty #[v,Æ (Â a) 1 c]).run P w=bq h w'/\nU w base e 1 v n l 1 [z] h w'/\ku m w'/\oM m w'.heap.size h:=by
 obtain⟨h,w',J,E⟩:=SY y B G s H U f a c [z] Z U C (λx b=>by simp at b;subst b;exact N) O I W<|É X;have hgv:oM m w'.heap.size h:=by
  obtain⟨p,cp,rfl⟩:=jj E.fE;cases p with
  |none=>trivial|some p=>
   have k:=E.fE.lt p.block (by obtain⟨q,_⟩|⟨g,r,d,q,_⟩:=E.fE.2<;>(cases q;try rfl));exact⟨Z,k.2⟩
 refine⟨h,w',J,E,?_,hgv⟩;have q:[z].length=1*zJ.size:=by rw[s];rfl
 have M9:l.length=n*zJ.size:=by rw[s];exact f.1
 have alD:n+1<=9223372036854775807:=by simp only[ó]at O;omega
 have E2:∀x∈l,oM m w.heap.size x:=λx b=>by obtain⟨_,rfl⟩|⟨g,r,d,rfl,hbg,p,hnc,hcm,Q,htake⟩:=f.2;grind;let⟨c2,e2,Xk,S,_,_,_,_,q6⟩:=D g _ Z p;grind
 have gr:∀T,ku m (w.drew.alloc<|Ô (l.toArray++[z].toArray++bu (ľ<|Ä Ã) (grownCap w (n+1) T e-(n+1))) e):=λT=>by refine ku.gP D _ _ (by simp;omega) Y λx b=> ?_;simp only[cL,dx]at b;obtain(b|b)|b:=b;exact E2 x b;grind;have:=SX b;simp[ľ]at this;subst this;trivial
 obtain⟨rfl,rfl⟩|⟨g,r,d,rfl,hbg,p,hnc,hcm,Q,htake⟩:=f.2;have b:=Ù (by simpa using f.1);subst b;have K:=run_append_nil w t ty e zJ (Ä Ã) y B G a 1 c [z] q C Z Z (by rw[H];have k:=I;simp only[dQ]at k;omega);grind;by_cases aps:n+1<=r;have SZ:n*zJ.size+[z].length<=d.size:=by rw[q,Q,s];omega
 have K:=run_append_room w t ty e zJ y B g n r d p a 1 c [z] q C (λx b=>by simp at b;subst b;exact N) aps SZ;rw[K]at J;cases J;have apt:=ŵ w g d (d.toList.take (n*zJ.size)++[z]++d.toList.drop (n*zJ.size+[z].length)).toArray e _ p;have apu:=λk (L:k≠g)=>Š w g k (d.toList.take (n*zJ.size)++[z]++d.toList.drop (n*zJ.size+[z].length)).toArray L;let⟨c2,e2,Xk,S,q2,q3,q4,q5,q6⟩:=D g _ Z p;cases S;intro k o L F;have jV:(w.setRow g (d.toList.take (n*zJ.size)++[z]++d.toList.drop (n*zJ.size+[z].length)).toArray).heap.size=w.heap.size:=fD
 rw[jV];by_cases V:k=g;subst V;rw[apt]at F;cases F;refine⟨_,_,_,U,fD,(by simp;omega),q4,q5,λx b=> ?_⟩;grind;rw[apu k V]at F;exact D k o L F;have k:w.ownsRow base e zJ.size (Æ (Â ⟨g,0,Ã⟩) n r) n l:=by rwa[s]
 have K:=run_append_grow w t ty e zJ (Ä Ã) y B G ⟨g,0,Ã⟩ n r l M9 (k.cells U) a 1 c [z] q C Z Z (by rw[H];exact Κ Z I);grind
def aa4{f:Array Ŗ}{base:Nat}(k:o.guard=Ã)(s x:ū)(t:ð)(p:o.op=Op.call {callee:=Callee.builtin Ŵ,args:=#[s,x],argTypes:=#[t,t]}){bytes:Nat}(q:P.underlying t=Â (.slice e))(r:P.info? e=Â zJ)(B:zJ.zero=Â (Ä Ã))(C:zJ.size=1)(D:zJ.bytes=bytes)(F:y.eval s=v)(G:w.ownsRow base e 1 v n l)(ad:ø)(H:y.eval x=Æ (Â ad) 1 b)(I:∀j g,[z][j]?=Â g->w.cell? (ad.add j)=Â g)(J:z.oneCell'=Í)(L:n+1<=ó)(M:(n+1)*bytes<=140737488355328)(N:base<=w.heap.size)(O:my e=Ó)(S:m<=base)(T:ku m w)(V:oM m w.heap.size z)(W:e≠298/\e≠299)(h:∀d w',nU w base e 1 v n l 1 [z] d w'->ku m w'->oM m w'.heap.size d->cX (y.put o.dst d) w'): if Ē o (ag f y.tmps)=Í then Γ P o y w cX vJ else bQ:=by
 have X:Ē o (ag f y.tmps)=Í:=by simp[Ē,k]
 rw[if_pos X];let⟨d,w',Y,h2,h3,h4⟩:=apr (ty:=o.type) q r B C D G ad b I J L M N O S T V W;simp[Γ,Ġ,p,χ,bj,ψ,F,H,Y,č];exact h d w' h2 h3 h4
end
def pB(l:List Nat):List Î:=l.map λa=>Ä<|Â ⟨a,0,Ã⟩
def qm(l:List Int):List Î:=l.map λz=>Ç Ê z
def F5(p:PT):List Î:=qm p.c++[Å p.p]
def DX(c:List Int)(a:Î):List Î:=qm c++[a]
structure qP(lo hi:Nat)(tb:List Nat)(l:List PT)(w:Ë):Prop where
 r:tb.length=l.length
 I:∀(j a:Nat)(p:PT),tb[j]?=Â a->l[j]?=Â p->lo<=a/\a<hi/\p.c.length=5/\fy a (F5 p) 193 w
structure yh(B q:Nat)(r:PR)(w:Ë):Prop where
 M:q<B
 C:r.c.length=8
 I:∃vb tb,fy q (DX r.c vb) 154 w/\w.ownsRow 0 141 1 vb tb.length (pB tb)/\(∀j,vb.ownBlock=Â j->j<B)/\qP 0 B tb r.r w
structure rG(B:Nat)(qs:List Nat)(rs:List PR)(w:Ë):Prop where
 I:qs.length=rs.length
 M:∀(j q:Nat)(r:PR),qs[j]?=Â q->rs[j]?=Â r->yh B q r w
section
variable{w':Ë}{lo hi B q:Nat}{tb qs:List Nat}{l:List PT}{r:PR}{rs:List PR}
def qP.C(h:qP lo hi tb l w)(k:fw X w w')(f:∀a c g,lo<=a->a<hi->w.heap[a]?=Â (Ô c 193 g)->¬X a):qP lo hi tb l w':=⟨h.r,λj a p i m=>by let⟨b,d,n,e⟩:=h.I j a p i m;exact⟨b,d,n,e.C k<|f a _ _ b d e⟩⟩
def qP.fG(h:qP lo hi tb l w)(f:i<=lo)(g:hi<=n):qP i n tb l w:=⟨h.r,λj a p b c=>by let⟨k,m,d,e⟩:=h.I j a p b c;exact⟨Z,Z,d,e⟩⟩
theorem qP.M(lo hi:Nat)(w:Ë):qP lo hi [] [] w:=⟨U,λj a p h=>by cases h⟩
theorem F6{l:List gX}{a x:gX}(h:(l++[a])[j]?=Â x):l[j]?=Â x\/j=l.length/\x=a:=by grind
theorem qP.Ue{p:PT}(h:qP lo hi tb l w)(g:lo<=i)(k:i<hi)(m:p.c.length=5)(n:fy i (F5 p) 193 w):qP lo hi (tb++[i]) (l++[p]) w:=by refine⟨by simp[h.r],λj x y d b=> ?_⟩;obtain e|⟨e,rfl⟩:=F6 d;obtain f|⟨f,rfl⟩:=F6 b;exact h.I j x y e f;have:=(eP.1 e).1;have:=h.r;omega;obtain f|⟨f,rfl⟩:=F6 b;have:=(eP.1 f).1;have:=h.r;omega;grind
def Uf(B:Nat)(w:Ë)(i:Nat):Prop:=B<=i\/∃c T a,w.heap[i]?=Â (Ô c T a)/\(T=145\/T=140)
theorem Ug(a:Uf B w i)(hi:i<B)(h:w.heap[i]?=Â (Ô d T xJ))(b:T≠145/\T≠140):False:=by obtain q|⟨e,f,g,j,k⟩:=a;all_goals grind
theorem yh.FA(h:yh B q r w)(k:fw X w w')(d:∀i,i<w.heap.size->X i->Uf B w i):yh B q r w':=by let⟨f,tb,b,g,l,m⟩:=h.I;refine⟨h.M,h.C,f,tb,b.C k λx=>Ug (d q b.M x) h.M b A,ia g k λj o x=> ?_,l,m.C k λa c p _ n e x=>Ug (d a (fp.1 e).1 x) n e A⟩;grind [lN,Ug]
def yh.fG(h:yh B q r w)(a:B<=i):yh i q r w:=by let⟨b,tb,c,d,e,f⟩:=h.I;exact⟨by have:=h.M;omega,h.C,b,tb,c,d,λj g=>by have:=e j g;omega,f.fG (eE _) a⟩
def rG.C(h:rG B qs rs w)(k:fw X w w')(a:∀i,i<w.heap.size->X i->Uf B w i):rG B qs rs w':=⟨h.I,λj q r b c=>(h.M j q r b c).FA k a⟩
def rG.Ue(h:rG B qs rs w)(b:B<=i)(c:yh i q r w):rG i (qs++[q]) (rs++[r]) w:=by refine⟨by simp[h.I],λj x y d a=> ?_⟩;obtain e|⟨e,rfl⟩:=F6 d;obtain f|⟨f,rfl⟩:=F6 a;exact(h.M j x y e f).fG b;have:=(eP.1 e).1;have:=h.I;omega;obtain f|⟨f,rfl⟩:=F6 a;have:=(eP.1 f).1;have:=h.I;omega;exact c
theorem rG.N(B:Nat)(w:Ë):rG B [] [] w:=⟨U,λj q r h=>by cases h⟩
end
structure Gh where
 a:List Nat
 q:Nat
 t:Nat
 B:Nat
 tb:List Nat
 M:Î
 r:Î
 b:Option ø
namespace Gh
def C(g:Gh)(d:PD):List Nat:=if d.r then g.a++[g.q]else g.a
def I(g:Gh)(d:PD):List Nat:=if d.C then g.tb++[g.t]else g.tb
def S(g:Gh)(d:PD):Option ø:=if d.r then Â ⟨g.q,0,Ã⟩else Ã
def K(g:Gh)(d:PD):Option ø:=if d.C then Â ⟨g.t,0,Ã⟩else g.b
def N(g:Gh)(d:PD):Nat:=if d.C then g.t else g.q
def H(g:Gh)(d:PD):Option ø:=if d.r then Â ⟨g.N d,0,Ã⟩else Ã
def Y(g:Gh)(d:PD)(a:Int):ø:=if a=86 then⟨g.q,5,Ã⟩else if a=87 then⟨g.q,6,Ã⟩else if a=110 then⟨g.N d,2,Ã⟩else⟨g.N d,3,Ã⟩
end Gh
structure yi(m:Nat)(g:Gh)(d:PD)(w:Ë):Prop where
 S:m<=g.B
 N:g.B<=g.q
 I:d.M.c.length=8
 r:fy g.q (DX d.M.c g.r) 154 w
 C:w.ownsRow g.B 141 1 g.r (g.I d).length (pB<|g.I d)
 Y:qP g.B g.t g.tb d.M.r w
 M:d.C=Í->g.B<=g.t/\d.N.c.length=5/\fy g.t (F5 d.N) 193 w
 a:d.C=Ó->g.tb=[]/\d.M.r=[]
structure mB(m:Nat)(g:Gh)(d:PD)(w:Ë):Prop where
 C:w.ownsRow m 140 1 g.M (g.C d).length (pB<|g.C d)
 I:rG g.B g.a d.Y w
 r:d.r=Í->yi m g d w
 N:d.r=Ó->d.C=Ó
def Uh(s:ByteArray)(g:Gh)(d:PD)(a:Option ø)(mM b:Int):List Î:=
 [Å s,g.M,Ä<|g.S d,Ä<|g.K d,Ä<|g.H d,Ä a,Ç Ê mM,Ç Ê b]
structure jb(m b:Nat)(g:Gh)(a:Option ø)(s:ByteArray)(st:PS)(w:Ë):Prop where
 I:m<=b
 N:ku m w
 r:fy b (Uh s g st.d a st.r st.I) 145 w
 S:s.size<=10
 M:iV s=st.C
 C:mB m g st.d w
 a:0<st.r->st.d.r=Í/\a=Â (g.Y st.d st.M)
 Y:st.d.r=Í\/st.C=[82]
def ug(m b:Nat)(st:PS)(w a:Ë):Prop:=fw (λi=>m<=i) w a/\∃g i s,jb m b g i s st a
section
variable{w':Ë}{g:Gh}{d:PD}{s:ByteArray}{st:PS}
theorem yi.FA(h:yi m g d w)(k:fw X w w')(p:∀i c T b,w.heap[i]?=Â (Ô c T b)->X i->T=145\/T=140):yi m g d w':=by have l:∀{i:Nat} {c:Array Î} {T:ð} {b:Nat×Nat},w.heap[i]?=Â (Ô c T b)->(T≠145/\T≠140)->¬X i:=λ{i c T b} n f x=>(p i c T b n x).elim f.1 f.2;refine⟨h.S,h.N,h.I,h.r.C k<|l h.r A,ia h.C k λj r=> ?_,h.Y.C k λa c b _ _ q=>l q A,λe=> ?_,h.a⟩;let⟨o,s⟩:=lN h.C r;grind;let⟨n,f,o⟩:=h.M e;exact⟨n,f,o.C k<|l o A⟩
theorem mB.rd(h:mB m g d w)(k:fw X w w')(b:∀i c T a,w.heap[i]?=Â (Ô c T a)->X i->T=145)(f:∀i,i<w.heap.size->X i->∃c a,w.heap[i]?=Â (Ô c 145 a)):mB m g d w':=by refine⟨ia h.C k λj l x=> ?_,h.I.C k λi n x=> ?_,λe=>(h.r e).FA k λi c T a q x=>É<|b i c T a q x,h.N⟩;let⟨o,q⟩:=lN h.C l;grind;let⟨c,a,q⟩:=f i n x;exact Ì ⟨c,_,a,q,É U⟩
def mB.M(h:mB m g d w)(a:fy b l 145 w)(k:fw (λi=>i=b) w w'):mB m g d w':=h.rd k (λi c T e q x=>by subst x;unfold fy at a;rw[a]at q;cases q;rfl) λi _ x=>⟨l.toArray,(0,0),by rwa[x]⟩
def rH{i:Nat}{v:Value}{j:Nat}{vs:List Value}{T:TypeId}(h:fy j vs T w)(hT:my T=false:=by decide):fw (λk=>k=j) w (w.setCell ⟨j,i,none⟩ v):=fw.I (X:=λk=>k=j) U v<|Ì<|h.S hT
def mB.K(h:mB m g d w):(g.C d).length=d.I.length:=by unfold Gh.C PD.I;split<;>simp[h.I.I]
def yi.H(h:yi m g d w):(g.I d).length=d.S.length:=by unfold Gh.I PD.S;split<;>simp[h.Y.r]
def Ui(h:i<zQ.length)(v:Î):(qm zQ++[v])[i]?=Â (Ç Ê<|zQ.getD i 0):=by rw[eR (by simpa[qm]using h)];simp[qm,Ċ,h]
def aa5(l:List Int)(i:Nat)(z:Int)(v:Î)(h:i<l.length):(qm l++[v]).set i (Ç Ê z)=qm (l.set i z)++[v]:=by rw[ei _ _ (by simpa[qm]using h)];simp[qm,List.map_set]
def aa6(l:List Int)(v u:Î):(qm l++[v]).set l.length u=qm l++[u]:=by rw[eF _ _ (by simp[qm])];simp[qm]
def Nw(l:List Int)(v:Î):(qm l++[v])[l.length]?=Â v:=by rw[eT (by simp[qm])];simp[qm]
theorem mB.S(h:mB m g d w)(on:d.r=Í)(n:i<8)(z:Int):mB m g (d.wR i z) (w.setCell ⟨g.q,i,Ã⟩<|Ç Ê z):=by have l:=h.r on;have k:fw (λk=>k=g.q) w (w.setCell ⟨g.q,i,Ã⟩<|Ç Ê z):=rH l.r;have r:=l.N;refine⟨ia h.C k λj b x=>iG h.C l.r A (by rw[b,x]),h.I.C k λi _ x=>É Z,λ_=>⟨l.S,l.N,by simp[PD.wR,l.I],?_,ia l.C k λj b x=>iG l.C l.r A (by rw[b,x]),l.Y.C k λa c s _ _ q x=> ?_,λe=> ?_,l.a⟩,h.N⟩;have:=l.r.fR i<|Ç Ê z;unfold DX at this;rw[aa5 _ _ _ _ (by rwa[l.I])]at this;exact this;have:=l.r;unfold fy at this;grind;let⟨o,p,f⟩:=l.M e;exact⟨o,p,f.C k λx=>(fy.H f l.r A) x⟩
theorem mB.Y(h:mB m g d w)(on:d.r=Í)(f:d.C=Í){p:PT}(n:p.c.length=5)(r:(F5 d.N).set i v=F5 p):mB m g {d with N:=p} (w.setCell ⟨g.t,i,Ã⟩ v):=by have l:=h.r on;let⟨o,s,b⟩:=l.M f;have k:fw (λk=>k=g.t) w (w.setCell ⟨g.t,i,Ã⟩ v):=rH b;refine⟨ia h.C k λj e x=>iG h.C b A (by rw[e,x]),h.I.C k λi _ x=>É Z,λ_=>⟨l.S,l.N,l.I,l.r.C k λx=>(fy.H l.r b A) x,ia l.C k λj e x=>iG l.C b A (by rw[e,x]),l.Y.C k λa c u _ q _ x=>by omega,λ_=>⟨o,n,?_⟩,l.a⟩,h.N⟩;have:=b.fR i v;grind
def mB.H(h:mB m g d w)(on:d.r=Í)(a:d.C=Í)(c:i<5)(z:Int):mB m g (d.vj i z) (w.setCell ⟨g.t,i,Ã⟩<|Ç Ê z):=by let⟨e,b,f⟩:=(h.r on).M a;exact h.Y on a (by simp[b])<|aa5 _ _ _ _<|by rwa[b]
def mB.sZ(h:mB m g d w)(on:d.r=Í)(a:d.C=Í)(p:ByteArray):mB m g (d.sZ p) (w.setCell ⟨g.t,5,Ã⟩<|Å p):=by let⟨e,b,f⟩:=(h.r on).M a;refine h.Y on a b ?_;have:=aa6 d.N.c (Å d.N.p)<|Å p;rwa[b]at this
structure wT(m b:Nat)(g:Gh)(d:PD)(ab ao:Nat)(f:Int->PD)(x:Int)(w:Ë):Prop where
 r:ab≠b
 N:m<=ab
 Y:ab<w.heap.size
 C:w.cell? ⟨ab,ao,Ã⟩=Â (Ç Ê x)
 I:w.frozen? ⟨ab,ao,Ã⟩=Ó
 nf:NF ab w
 S:∀W,mB m g d W->∀z,mB m g (f z)<|W.setCell ⟨ab,ao,Ã⟩<|Ç Ê z
 M:∀z,g.S (f z)=g.S d/\g.K (f z)=g.K d/\g.H (f z)=g.H d/\(f z).r=d.r/\∀n,g.Y (f z) n=g.Y d n
theorem F7(h:mB m g d w)(f:fy b l 145 w)(on:d.r=Í)(e:i<8):wT m b g d g.q i (λz=>d.wR i z) (d.M.c.getD i 0) w:=by have a:=h.r on;exact⟨fy.H a.r f A,Ï a.S a.N,a.r.M,a.r.r i _ (Ui (by rwa[a.I]) _),a.r.I i,a.r.S,λW j z=>j.S on e z,λz=>⟨U,U,U,U,λn=>U⟩⟩
theorem aa7(h:mB m g d w)(k:fy b l 145 w)(on:d.r=Í)(f:d.C=Í)(j:i<5):wT m b g d g.t i (λz=>d.vj i z) (d.N.c.getD i 0) w:=by have a:=h.r on;let⟨o,p,e⟩:=a.M f;exact⟨fy.H e k A,Ï a.S o,e.M,e.r i _ (Ui (by rwa[p]) _),e.I i,e.S,λW q z=>q.H on f j z,λz=>⟨U,U,U,U,λn=>U⟩⟩
theorem Uj(h:mB m g d w)(a:fy b l 145 w)(on:d.r=Í)(c:i<4):wT m b g d (g.N d) i (λz=>d.G i z) (d.JA i) w:=by unfold PD.G PD.JA Gh.N;split;all_goals grind [aa7,F7]
theorem jb.H{f:Int->PD}(h:jb m b g O s st w)(n:wT m b g st.d i j f c w)(z:Int):jb m b g O s {st with d:=f z} (w.setCell ⟨i,j,Ã⟩<|Ç Ê z):=by let⟨e,l,o,a,p⟩:=n.M z;have k:fw (λk=>k=i) w (w.setCell ⟨i,j,Ã⟩<|Ç Ê z):=fw.I (X:=λk=>k=i) U _<|É U;refine⟨h.I,h.N.r _ trivial,?_,h.S,h.M,n.S w h.C z,λq=> ?_,?_⟩;have:=h.r.C k λc=>n.r c.symm;unfold Uh at this|-;grind;let⟨r,t⟩:=h.a q;grind;simp only[a];exact h.Y
def jb.K(h:jb m b g O s st w)(a:ByteArray)(r:List Int)(c:a.size<=10)(e:iV a=r)(f:st.d.r=Í\/r=[82]):jb m b g O a {st with C:=r} (w.setCell ⟨b,0,Ã⟩<|Å a):=⟨h.I,h.N.r _ trivial,h.r.fR 0 _,c,e,h.C.M h.r<|rH h.r,h.a,f⟩
def jb.G(h:jb m b g O s st w)(z:Int)(a:0<z->st.d.r=Í/\O=Â (g.Y st.d st.M)):jb m b g O s {st with r:=z} (w.setCell ⟨b,6,Ã⟩<|Ç Ê z):=⟨h.I,h.N.r _ trivial,h.r.fR 6 _,h.S,h.M,h.C.M h.r<|rH h.r,a,h.Y⟩
def jb.aa8(h:jb m b g O s st w)(z:Int):jb m b g O s {st with I:=z} (w.setCell ⟨b,7,Ã⟩<|Ç Ê z):=⟨h.I,h.N.r _ trivial,h.r.fR 7 _,h.S,h.M,h.C.M h.r<|rH h.r,h.a,h.Y⟩
def jb.apv(h:jb m b g O s st w)(a:ø)(n:Int)(d:st.r=0)(c:m<=a.block/\a.block<w.heap.size):jb m b g (Â a) s {st with M:=n} (w.setCell ⟨b,5,Ã⟩<|Ä<|Â a):=⟨h.I,h.N.r _ c,h.r.fR 5 _,h.S,h.M,h.C.M h.r<|rH h.r,λq=>by have:0<st.r:=q;omega,h.Y⟩
def jb.gM(h:jb m b g O s st w):jb m b g O s st w.drew:=by have k:=fw.gM fB w;exact⟨h.I,h.N,h.r.C k id,h.S,h.M,h.C.rd k (λ_ _ _ _ _ x=>x.elim) λ_ _ x=>x.elim,h.a,h.Y⟩
end
section
variable{w':Ë}{g:Gh}{st:PS}{f:Int->PD}{x:Int}
def wT.rd{d:PD}(h:wT m b g d n j f x w)(i:Nat)(v:Î):wT m b g d n j f x (w.setCell ⟨b,i,Ã⟩ v):=⟨h.r,h.N,fN h.Y,by rw[I2<|cR h.r];exact h.C,by rw[World.frozen?_setCell];exact h.I,λc T a q=>h.nf c T a (by rwa[Ģ _ _ _ _<|fN h.r]at q),h.S,h.M⟩
def jb.Uk(h:jb m b g O B st w)(n:Int)(a:st.r=0):jb m b g O B {st with M:=n} w:=⟨h.I,h.N,h.r,h.S,h.M,h.C,λq=>by have:0<st.r:=q;omega,h.Y⟩
def vm(h:jb m b g O B st w)(i:Nat)(v:Î):fw (λi=>m<=i) w (w.setCell ⟨b,i,Ã⟩ v):=fw.I (X:=λi=>m<=i) (p:=⟨b,i,Ã⟩) h.I v<|Ì h.r.S
def F8(h:wT m b g st.d n j f x w)(z:Int):fw (λi=>m<=i) w (w.setCell ⟨n,j,Ã⟩<|Ç Ê z):=fw.I (X:=λi=>m<=i) (p:=⟨n,j,Ã⟩) h.N _<|É U
def Ul{st:PS}(h:st.r=0)(n:Int)(d:PD):({st with r:=0,M:=n,d:=d}:PS)={st with M:=n,d:=d}:=by rw[<-h]
theorem apw(h:jb m b g O B st w)(i:wT m b g st.d n j f x w)(k:st.r=0)(p:st.d.r=Í){o a:Int}(s:oL a c=Í)(v:(a=86\/a=87)/\o=2\/(a=110\/a=107)/\o=6)(q:∀z,g.Y (f z) a=⟨n,j,Ã⟩): Ò À 131 #[Ä<|Â ⟨b,0,Ã⟩,Ä<|Â ⟨n,j,Ã⟩,Ç ņ c,Ç Ê o] w λe w'=>
  e=È (Ý #[])/\ug m b {st with r:=mL a c,M:=a,d:=f (mf a c)} w w':=by
 have C:=h.r.r 5 _ U;have D:=h.r.r 6 _ U;have E:=h.r.I 5;have F:=h.r.I 6;have G:=i.C;have I:=i.I;have J:=i.r;have K:¬b=n:=λe=>i.r e.symm;have e:(mf a c=if c=104 then-1 else(c-48)%256)/\mL a c=if c=104\/c=48 then 0 else o-1:=by unfold mf mL;unfold oL at s;grind [BQ]
 have L:0<=o/\o<=6:=Z;rw[e.1,e.2];clear e s v;have l:=i.rd 5<|Ä<|Â ⟨n,j,Ã⟩;have H:=fv<|Á h<|Á i<|Á q<|Á k<|Á p<|Á l<|h.apv ⟨n,j,Ã⟩ a k ⟨i.N,i.Y⟩;clear l;by_cases t:c=104
 .subst t;rw[if_pos<|É U,if_pos U,Ul k];go_enter ŧ,Ŏ;go_wp2;first|go_end0|refine ì (ah U _ _ _) U ?_
  let⟨h,i,q,k,p⟩:=H.oQ;exact⟨U,F8 i _,g,O,B,(h.H i<|-1).Uk a k⟩
 rw[if_neg t];by_cases y:c=48
 .subst y;rw[if_pos<|Ì U,Ul k];go_enter ŧ,Ŏ;go_wp2;go_end0;let⟨h,i,q,k,p,l,r⟩:=H.oQ;exact⟨U,(vm h 5 _).fA<|F8 l _,g,Â ⟨n,j,Ã⟩,B,r.H l 0⟩
 rw[if_neg Z];go_enter ŧ,Ŏ;go_wp2;go_end0;let⟨h,i,q,k,p,l,r⟩:=H.oQ;have u:=r.H l<|(c-48)%256;exact⟨U,((vm h 5 _).fA<|F8 l _).fA<|vm u 6 _,g,Â ⟨n,j,Ã⟩,B,u.G (o-1) λ_=>⟨by simp only;rwa[(i.M _).2.2.2.1],by simp only;rw[q]⟩⟩
theorem aa9{a:Int}(h:¬(a=86\/a=87)/\¬(a=110\/a=107)):mL a c=0:=by unfold mL;grind
def apx(h:jb m b g O B st w)(i:wT m b g st.d n j f x w)(k:st.r=0){a z:Int}(e:c=0)(l:w'=(w.setCell ⟨n,j,Ã⟩<|Ç Ê z).drew):ug m b {st with r:=c,M:=a,d:=f z} w w':=by subst l;subst e;rw[Ul k];exact⟨(F8 i z).fA<|fw.gM _ _,g,O,B,((h.H i z).Uk a k).gM⟩
end
section
variable{g:Gh}{st:PS}
def abb{d:PD}(a:d.C=Í):g.K d=Â ⟨g.t,0,Ã⟩:=if_pos a
def apy:zO st 0=Ã:=rfl
def apz(h:jb m b g O B st w)(r:st.r=0)(on:st.d.r=Í)(f:st.d.C=Í)(k:Int): Ò À 85 #[Ä<|Â ⟨b,0,Ã⟩,Ç Ê k] w λe u=>match zO st k with|none=>e=È (á Ó)/\u=w|some a=>e=È (á Í)/\ug m b a w u:=by
 have s:=h.r.r 0 _ U;have o:=h.r.r 3 _ U;have v:=h.r.r 7 _ U;rw[abb f]at o;have x:=h.r.I 0;have y:=h.r.I 7;have a:=aa7 h.C h.r on f (i:=4) A;have z:=a.C;have C:=a.I;have D:=a.r;have E:¬b=g.t:=λe=>a.r e.symm;have H:=fv<|Á h a;by_cases c:k=0
 .subst c;rw[apy];go_enter aN,ai;go_wp2;go_ret;exact⟨U,U⟩
 .have F:(k==0)=Ó:=by rwa[beq_eq_false_iff_ne]
  have e:zO st k=Â {st with C:=qN k,I:=0,d:=st.d.vj 4 k}:=if_neg c;rw[e];go_enter aN,ai;go_wp2_with (go_at_call 132;refine(apq _ _).mono ?_;rintro e u ⟨⟨j,rfl,p,q⟩,l⟩;subst u);go_ret;let⟨h,a⟩:=H.oQ;have l:=h.H a k;have n:=l.aa8 0;exact⟨U,((F8 a k).fA<|vm l 7 _).fA<|vm n 0 _,g,O,j,n.K j _ p q<|É on⟩
end
def apA:(À.info? 141).map iF=Â (Â<|Ä Ã,1,8):=fK
def apB:(À.info? 140).map iF=Â (Â<|Ä Ã,1,8):=fK
section
variable{w':Ë}{g:Gh}{nm:Option ø}{s:ByteArray}{st:PS}{d:PD}{T:Nat}
structure wU(m:Nat)(g:Gh)(d:PD)(T:Nat)(w:Ë):Prop where
 C:w.ownsRow m 140 1 g.M (g.C d).length (pB<|g.C d)
 I:rG g.B g.a d.Y w
 N:qP g.B T (g.I d) d.S w
 tb:fy T (F5 PD.zH) 193 w
def JB(x:i=j)(h:fy j l t w):w.heap[i]?=Â (Ô l.toArray t (0,0)):=by rwa[x]
theorem wU.r(h:wU m g d T w)(k:fw X w w')(f:∀i,i<w.heap.size->X i->∃c t b,w.heap[i]?=Â (Ô c t b)/\(t=145\/(t=154\/t=141)/\g.B<=i)):wU m g d T w':=by
 have e:∀{i:Nat} {c:Array Î} {t:ð} {b:Nat×Nat},w.heap[i]?=Â (Ô c t b)->(t≠145/\t≠154/\t≠141)->¬X i:=λ{i c t b} q1 q2 x=>by grind
 refine⟨ia h.C k λj l=> ?_,h.I.C k λi n x=> ?_,h.N.C k λa c b _ _ q=>e q A,h.tb.C k<|e h.tb A⟩;let⟨o,p⟩:=lN h.C l;grind;let⟨r,s,u,o,p⟩:=f i n x;obtain rfl|⟨_,z⟩:=p;exact Ì ⟨_,_,_,o,É U⟩;exact É z
def wU.fH(h:wU m g d T w)(k:fw fB w w'):wU m g d T w':=h.r k λ_ _ x=>x.elim
def wU.M(h:wU m g d T w)(a:fy b l 145 w):wU m g d T (w.setCell ⟨b,i,Ã⟩ v):=h.r (rH a) λi _ x=>⟨_,_,_,JB x a,É U⟩
theorem yi.K(l:yi m g d w):qP g.B w.heap.size (g.I d) d.S w:=by unfold Gh.I PD.S;split;rename_i e;let⟨b,c,a⟩:=l.M e;have:=a.M;exact(l.Y.fG (eE _) Z).Ue b a.M c a;rename_i e;let⟨b,c⟩:=l.a<|fN e;grind [qP.M]
theorem ku.C(n:ku m w)(g:fy b l e w)(C:m<=b)(p:e≠298/\e≠299)(d:Array Î)(t:ð)(u:0<d.size)(r:t≠298/\t≠299)(h:∀v∈d.toList,oM m (w.heap.size+1) v):ku m ((w.setCell ⟨b,i,Ã⟩<|Ä<|Â ⟨w.heap.size,0,Ã⟩).alloc<|Ô d t):=by have s:(w.setCell ⟨b,i,Ã⟩<|Ä<|Â ⟨w.heap.size,0,Ã⟩).heap.size=w.heap.size:=fD;have D:=g.M;intro j o k c;have x:((w.setCell ⟨b,i,Ã⟩<|Ä<|Â ⟨w.heap.size,0,Ã⟩).alloc<|Ô d t).heap.size=w.heap.size+1:=fD;rw[x];by_cases a:j<w.heap.size;rw[ī _ _ _ (by rwa[s])]at c;by_cases f:j=b;subst f;have:=g.fR i<|Ä<|Â ⟨w.heap.size,0,Ã⟩;unfold fy at this;rw[this]at c;cases c;let⟨E,F,G,y,H,z,I,J,B⟩:=n j _ k g;cases y;refine⟨_,_,_,U,fD,by simpa using z,p.1,p.2,λv h=> ?_⟩;obtain q|q:=eO (by simpa using h);exact(B v<|by simpa using q).fG Z;rw[q];exact⟨Ï k<|dp a,Nat.lt_succ_self _⟩;rw[Ģ _ _ _ _ (by simpa using f)]at c;exact(n j o k c).fG Z;by_cases f:j=w.heap.size;have:=ĺ (w.setCell ⟨b,i,Ã⟩<|Ä<|Â ⟨w.heap.size,0,Ã⟩)<|Ô d t;rw[s]at this;rw[f,this]at c;cases c;exact⟨_,_,_,U,eD _,u,r.1,r.2,h⟩;grind
def Nx(b:Nat)(w:Ë):Ë:=(w.setCell ⟨b,3,Ã⟩<|Ä<|Â ⟨w.heap.size,0,Ã⟩).alloc<|Ô #[Ç Ê 0,Ç Ê 0,Ç Ê 0,Ç Ê 0,Ç Ê 0,Å ⟨#[]⟩] 193
def rdM(s:ByteArray)(g:Gh)(d:PD)(a b nm:Option ø)(mM c:Int):List Î:=
 [Å s,g.M,Ä<|g.S d,Ä a,Ä b,Ä nm,Ç Ê mM,Ç Ê c]
structure F9(m b:Nat)(g:Gh)(d:PD)(T:Nat)(s:ByteArray)(tm nm:Option ø)(mM Um:Int)(w0 w:Ë):Prop where
 S:fw (λi=>m<=i) w0 w
 N:ku m w
 r:fy b (rdM s g d (Â ⟨T,0,Ã⟩) tm nm mM Um) 145 w
 M:wU m g d T w
 I:fy g.q (DX d.M.c g.r) 154 w
 C:w.ownsRow g.B 141 1 g.r (g.I d).length (pB<|g.I d)
def F9.fH{mM:Int}(h:F9 m b g d T s O nm mM c u w)(k:fw fB w w')(a:ku m w'):F9 m b g d T s O nm mM c u w':=⟨h.S.C k λ_ _ x=>x.elim,a,h.r.C k id,h.M.fH k,h.I.C k id,ia h.C k λ_ _=>id⟩
theorem jb.apC(h:jb m b g nm s st w)(on:st.d.r=Í):F9 m b g st.d w.heap.size s (g.H st.d) nm st.r st.I w (Nx b w):=by
 have l:=h.C.r on;have p:(w.setCell ⟨b,3,Ã⟩<|Ä<|Â ⟨w.heap.size,0,Ã⟩).heap.size=w.heap.size:=fD;have n:fw fB (w.setCell ⟨b,3,Ã⟩<|Ä<|Â ⟨w.heap.size,0,Ã⟩) (Nx b w):=fw.gP _ _ _ _;have r:fw (λk=>k=b) w (w.setCell ⟨b,3,Ã⟩<|Ä<|Â ⟨w.heap.size,0,Ã⟩):=rH h.r;have e:=r.C n λ_ _ x=>x.elim;refine⟨e.fG λk _ x=>by rw[x];exact h.I,?_,(h.r.fR 3 _).C n id,⟨ia h.C.C e λj f x=>iG h.C.C h.r A (by rw[f,x]),h.C.I.C e λi _ x=>Ì ⟨_,_,_,JB x h.r,É U⟩,l.K.C e λa c t _ _ q x=> ?_,?_⟩,l.r.C e λx=>fy.H l.r h.r A x,ia l.C e λj f x=>iG l.C h.r A<|by rw[f,x]⟩;exact h.N.C h.r h.I A _ _ fD A λv o=>by simp at o;obtain rfl|rfl:=o<;>trivial
 have o:=h.r;unfold fy at o;grind;have:=fy.N (w.setCell ⟨b,3,Ã⟩<|Ä<|Â ⟨w.heap.size,0,Ã⟩) [Ç Ê 0,Ç Ê 0,Ç Ê 0,Ç Ê 0,Ç Ê 0,Å ⟨#[]⟩] 193;rwa[p]at this
def Un(g:Gh)(d:PD)(T:Nat)(v:Î):Gh:={g with t:=T,tb:=g.I d,r:=v}
theorem F9.jq(h:F9 m b g st.d T s O nm st.r st.I w u)(C:m<=b)(on:st.d.r=Í)(a:m<=g.B/\g.B<=g.q/\st.d.M.c.length=8)(D:g.B<=T)(hd:st.r=0)(l:nU u g.B 141 1 g.r (g.I st.d).length (pB<|g.I st.d) 1 [Ä<|Â ⟨T,0,Ã⟩] v W)(K:ku m W)(L:oM m W.heap.size v)(n:jX=((W.setCell ⟨g.q,8,Ã⟩ v).setCell ⟨b,4,Ã⟩<|Ä<|Â ⟨T,0,Ã⟩).setCell ⟨b,0,Ã⟩ (Å ⟨#[84]⟩)): fw (λi=>m<=i) w jX/\jb m b (Un g st.d T v) nm ⟨#[84]⟩ {st with C:=[84],d:=st.d.K} jX:=by
 have E:∀{j:Nat} {M:List Î} {t:ð},fy j M t u->141≠t->¬g.r.ownBlock=Â j:=λN f=>iG h.C N f;have F:=h.r.C l.r<|E h.r A;have f:=h.I.C l.r<|E h.I A;have P:=h.M.r l.r λi _ x=>by let⟨k,z⟩:=lN h.C x;exact⟨_,_,_,z,Ì ⟨Ì U,(h.C.lt i x).1⟩⟩
 have o:fw (λk=>k=g.q) W (W.setCell ⟨g.q,8,Ã⟩ v):=rH f;have G:fy g.q (DX st.d.M.c v) 154 (W.setCell ⟨g.q,8,Ã⟩ v):=by have:=f.fR 8 v;have e:=aa6 st.d.M.c g.r v;rw[a.2.2]at e;unfold DX at this|-;grind
 have z:=F.C o λx=>fy.H F f A x;have H:=P.r o λi _ x=>⟨_,_,_,JB x f,Ì ⟨É U,by rw[x];exact a.2.1⟩⟩;have I:=ia l.fE o λj p x=>iG l.fE f A (by rw[p,x]);have Q:ku m (W.setCell ⟨g.q,8,Ã⟩ v):=K.r _ L;have S:fw (λk=>k=b) (W.setCell ⟨g.q,8,Ã⟩ v) ((W.setCell ⟨g.q,8,Ã⟩ v).setCell ⟨b,4,Ã⟩<|Ä<|Â ⟨T,0,Ã⟩):=rH z;have r:=z.fR 4<|Ä<|Â ⟨T,0,Ã⟩;have V:fw (λk=>k=b) ((W.setCell ⟨g.q,8,Ã⟩ v).setCell ⟨b,4,Ã⟩<|Ä<|Â ⟨T,0,Ã⟩) jX:=by rw[n];exact rH r
 have J:=r.fR 0<|Å ⟨#[84]⟩;rw[<-n]at J;have k:wU m g st.d T jX:=by rw[n];exact(H.M z).M r
 have y:=S.fA V;have X:=G.C y λx=>fy.H G z A x;have Y:=ia I y λj p x=>iG I z A (by rw[p,x]);have hTl:=H.tb.M;have c5:ku m jX:=by rw[n];refine(Q.r _ ?_).r _ trivial;exact⟨Ï a.1 D,hTl⟩
 have e1:(g.I st.d++[T]).length=(g.I st.d).length+1:=fD;have e2:pB (g.I st.d++[T])=pB (g.I st.d)++[Ä<|Â ⟨T,0,Ã⟩]:=by simp[pB]
 refine⟨((h.S.C l.r λi _ x=> ?_).C o λi _ x=> ?_).C y λi _ x=> ?_,C,c5,?_,A,U,⟨k.C,k.I,λ_=>⟨a.1,a.2.1,a.2.2,X,?_,k.N,λ_=>⟨D,U,k.tb⟩,λe=>by cases e⟩,λe=> ?_⟩,λe=> ?_,É on⟩;have:=(h.C.lt i x).1;have:=a.1;omega;grind;rwa[x];have e:(Un g st.d T v).S st.d.K=g.S st.d:=rfl;rw[Uh,e];have e4:(Un g st.d T v).H st.d.K=Â ⟨T,0,Ã⟩:=if_pos on;rwa[e4];show jX.ownsRow g.B 141 1 v (g.I st.d++[T]).length (pB<|g.I st.d++[T]);rwa[e1,e2];have:st.d.r=Ó:=e;grind;grind
def abd(h:jb m b g nm s st w)(y:st.r=0)(n:st.d.r=Í)(z:st.d.S.length<=100000): Ò À 83 #[Ä<|Â ⟨b,0,Ã⟩] w λe w'=>e=È (Ý #[])/\ug m b {st with C:=[84],d:=st.d.K} w w':=by
 have X:=h.r.r 3 _ U;have Y:=h.r.I 3;have iu:=h.r.M;have l:=h.C.r n;have u:=h.apC n;have C:=λv=>by have:=Nw st.d.M.c v;rwa[l.I]at this
 have D:m<=g.B/\g.B<=g.q/\st.d.M.c.length=8:=⟨l.S,l.N,l.I⟩;have E:g.B<=w.heap.size:=by have:=l.r.M;have:=l.N;omega
 have F:(g.I st.d).length<=100000:=by rwa[l.H]
 have G:=h.I;have H:=fv<|Á D<|Á E<|Á F<|Á G<|Á y n;have i:=fv<|C g.r;have t:g.S st.d=Â ⟨g.q,0,Ã⟩:=if_pos n;go_enter Tryz.func83,Tryz.ntmps83;go_wp2_with fail;change Code.wp À _ _ _ (Nx b w);have j:=u.fH (fw.gM _ _) u.N.gM;generalize hT:w.heap.size=T at*;generalize I:(Nx b w).drew=w1 at*;let⟨i0,J,L,M,N⟩:=ć apA;have o:=fv<|Á J<|Á L<|Á M N;refine mI (λw'=>w'.cell? ⟨b,2,Ã⟩=Â (Ä<|g.S st.d)/\w'.cell? ⟨b,3,Ã⟩=Â (Ä<|Â ⟨T,0,Ã⟩)/\w'.cell? ⟨g.q,8,Ã⟩=Â g.r) [19] fK ?_;rw[I];rw[t];have O:Hd (w1.cell? ⟨b,2,Ã⟩=Â (Ä<|Â ⟨g.q,0,Ã⟩)/\w1.cell? ⟨b,3,Ã⟩=Â (Ä<|Â ⟨T,0,Ã⟩)/\w1.cell? ⟨g.q,8,Ã⟩=Â g.r):=fv ⟨by rw[<-t];exact j.r.r 2 _ U,j.r.r 3 _ U,j.I.r 8 _ i⟩;have p:=fv t;iterate 15 apply tk O
 have P:=j.M.tb.M;have a:=j.fH (fw.gP fB w1 #[Ä<|Â ⟨T,0,Ã⟩] 141) (j.N.gP _ _ fD A λv f=>by simp at f;subst f;exact⟨Ï H.1.1 H.2.1,P⟩);refine jM 15 (λ_=>⟨by rw[<-p.oQ];exact a.r.r 2 _ U,a.r.r 3 _ U,a.I.r 8 _ i⟩) ?_;apply np 16;intro K Q;refine aa4 gq _ _ 152 gq Tryz.underlying152 o.1 o.2.1 o.2.2.1 o.2.2.2 gq a.C ⟨w1.heap.size,0,Ã⟩ gq (ã w1 _ _) U (by have:=H.2.2.1;unfold ó;omega) (by have:=H.2.2.1;omega) (by have:=H.2.1;have:=a.M.tb.M;omega) A H.1.1 a.N ⟨Ï H.1.1 H.2.1,a.M.tb.M⟩ A ?_;intro v9 w9 r S V;obtain⟨a9,n9c,rfl⟩:=jj r.fE;have f:=a.r.C r.r<|iG a.C a.r A;have k:=a.I.C r.r<|iG a.C a.I A;refine Q.out _ _ (λ_=>⟨by rw[<-p.oQ];exact f.r 2 _ U,f.r 3 _ U,k.r 8 _ i⟩) ?_;refine jM 17 (λ_=>⟨by rw[<-p.oQ];exact f.r 2 _ U,f.r 3 _ U,k.r 8 _ i⟩) ?_;refine jM 18 (λ_=>⟨by rw[<-p.oQ];exact f.r 2 _ U,f.r 3 _ U,k.r 8 _ i⟩) ?_;have cq8:=k.r 8 _ i;have fq8:=k.I 8;have cb4:=f.r 4 _ U;have fb4:=f.I 4;have cb0:=f.r 0 _ U;have fb0:=f.I 0;have cb3:=f.r 3 _ U;have W:=fy.H k f A;have hbq:¬b=g.q:=λe=>W e.symm;refine jM 19 (λx=>absurd A x) ?_;refine ma ?_;have x:=fv<|a.jq H.2.2.2.1 n H.1 H.2.1 H.2.2.2.2.1 r S V U;go_wp2;go_end0;exact⟨U,x.1,_,_,_,x.2⟩
end
section
variable{w':Ë}{g:Gh}{nm:Option ø}{s:ByteArray}{f:PS}{d:PD}{Q:Nat}{k:Int}
def apD(h:w.ownsRow i e 1 v n l)(c:j<=i):w.ownsRow j e 1 v n l:=⟨h.1,h.2.imp id λ⟨g,d,f,a,b,r⟩=>⟨g,d,f,a,Ï c b,r⟩⟩
def yi.gN(l:yi m g d w):yh w.heap.size g.q ⟨d.M.c,d.S⟩ w:=⟨l.r.M,l.I,g.r,g.I d,l.r,apD l.C<|eD _,λj a=>(l.C.lt j a).2,l.K.fG (eD _)<|eE _⟩
theorem mB.G(h:mB m g d w)(a:d.r=Ó->d.Y=[]):rG w.heap.size (g.C d) d.I w:=by unfold Gh.C PD.I;split;rename_i e;have l:=h.r e;have b:=l.r.M;have c:=l.N;exact h.I.Ue Z l.gN;rename_i e;have f:=a<|fN e;have:=h.I.I;grind [Ù,rG.N]
def Ny(b:Nat)(k:Int)(w:Ë):Ë:=(w.setCell ⟨b,2,Ã⟩<|Ä<|Â ⟨w.heap.size,0,Ã⟩).alloc<|Ô #[Ç Ê 0,Ç Ê 0,Ç Ê 0,Ç Ê 0,Ç Ê k,Ç Ê 0,Ç Ê 0,Ç Ê 0,Æ Ã 0 0] 154
def rdQ(s:ByteArray)(g:Gh)(d:PD)(Q:Nat)(nm:Option ø)(mM a:Int):List Î:=
 [Å s,g.M,Ä<|Â ⟨Q,0,Ã⟩,Ä<|g.K d,Ä<|g.H d,Ä nm,Ç Ê mM,Ç Ê a]
structure Gb(m b:Nat)(g:Gh)(d:PD)(Q:Nat)(k:Int)(s:ByteArray)(nm:Option ø)(mM Um:Int)(w0 w:Ë):Prop where
 S:fw (λi=>m<=i) w0 w
 M:ku m w
 r:fy b (rdQ s g d Q nm mM Um) 145 w
 I:fy Q (DX (PD.BR k).c<|Æ Ã 0 0) 154 w
 N:rG Q (g.C d) d.I w
 C:w.ownsRow m 140 1 g.M (g.C d).length (pB<|g.C d)
def Gb.fH{mM:Int}(h:Gb m b g d Q k s nm mM c u w)(a:fw fB w w')(e:ku m w'):Gb m b g d Q k s nm mM c u w':=⟨h.S.C a λ_ _ x=>x.elim,e,h.r.C a id,h.I.C a id,h.N.C a λ_ _ x=>x.elim,ia h.C a λ_ _=>id⟩
def jb.apF(h:jb m b g nm s f w)(k:Int)(l:f.d.r=Ó->f.d.Y=[]):Gb m b g f.d w.heap.size k s nm f.r f.I w (Ny b k w):=by
 have n:(w.setCell ⟨b,2,Ã⟩<|Ä<|Â ⟨w.heap.size,0,Ã⟩).heap.size=w.heap.size:=fD;have c:fw fB (w.setCell ⟨b,2,Ã⟩<|Ä<|Â ⟨w.heap.size,0,Ã⟩) (Ny b k w):=fw.gP _ _ _ _;have o:fw (λk=>k=b) w (w.setCell ⟨b,2,Ã⟩<|Ä<|Â ⟨w.heap.size,0,Ã⟩):=rH h.r;have a:=o.C c λ_ _ x=>x.elim;refine⟨a.fG λk _ x=>by rw[x];exact h.I,?_,(h.r.fR 2 _).C c id,?_,(h.C.G l).C a λi _ x=>Ì ⟨_,_,_,JB x h.r,É U⟩,ia h.C.C a λj p x=>iG h.C.C h.r A<|by rw[p,x]⟩;exact h.N.C h.r h.I A _ _ fD A λv e=>by simp at e;obtain rfl|rfl|rfl|rfl:=e<;>trivial
 have:=fy.N (w.setCell ⟨b,2,Ã⟩<|Ä<|Â ⟨w.heap.size,0,Ã⟩) [Ç Ê 0,Ç Ê 0,Ç Ê 0,Ç Ê 0,Ç Ê k,Ç Ê 0,Ç Ê 0,Ç Ê 0,Æ Ã 0 0] 154;rwa[n]at this
def apG(g:Gh)(d:PD)(Q:Nat)(v:Î):Gh:={a:=g.C d,q:=Q,t:=Q,B:=Q,tb:=[],M:=v,r:=Æ Ã 0 0,b:=g.K d}
theorem Gb.jq{sb:ByteArray}(h:Gb m b g f.d Q k s nm f.r f.I w u)(o:m<=b)(p:m<=Q)(S:f.r=0)(y:sb.size<=10)(B:iV sb=ua k)(a:nU u m 140 1 g.M (g.C f.d).length (pB<|g.C f.d) 1 [Ä<|Â ⟨Q,0,Ã⟩] v W)(C:ku m W)(D:oM m W.heap.size v)(l:jX=((W.setCell ⟨b,1,Ã⟩ v).setCell ⟨b,4,Ã⟩<|Ä<|Â ⟨Q,0,Ã⟩).setCell ⟨b,0,Ã⟩ (Å sb)): fw (λi=>m<=i) w jX/\jb m b (apG g f.d Q v) nm sb {f with C:=ua k,d:=f.d.wS k} jX:=by
 have c:=h.r.C a.r<|iG h.C h.r A;have n:=h.I.C a.r<|iG h.C h.I A;have E:=h.N.C a.r λi _ x=>by let⟨e,z⟩:=lN h.C x;exact Ì ⟨_,_,_,z,Ì U⟩
 have F:fw (λk=>k=b) W (W.setCell ⟨b,1,Ã⟩ v):=rH c;have q:=c.fR 1 v;have G:fw (λk=>k=b) (W.setCell ⟨b,1,Ã⟩ v) ((W.setCell ⟨b,1,Ã⟩ v).setCell ⟨b,4,Ã⟩<|Ä<|Â ⟨Q,0,Ã⟩):=rH q;have r:=q.fR 4<|Ä<|Â ⟨Q,0,Ã⟩;have H:fw (λk=>k=b) ((W.setCell ⟨b,1,Ã⟩ v).setCell ⟨b,4,Ã⟩<|Ä<|Â ⟨Q,0,Ã⟩) jX:=by rw[l];exact rH r
 have t:=r.fR 0<|Å sb;rw[<-l]at t;have z:=(F.fA G).fA H;have I:=n.C z λx=>fy.H n c A x;have J:=E.C z λi _ x=>Ì ⟨_,_,_,JB x c,É U⟩;have K:=ia a.fE z λj L x=>iG a.fE c A (by rw[L,x]);have M:Q<(W.setCell ⟨b,1,Ã⟩ v).heap.size:=fN n.M;have N:ku m jX:=by rw[l];refine((C.r _ D).r _ ?_).r _ trivial;exact⟨p,M⟩
 have O:(g.C f.d++[Q]).length=(g.C f.d).length+1:=fD;have P:pB (g.C f.d++[Q])=pB (g.C f.d)++[Ä<|Â ⟨Q,0,Ã⟩]:=by simp[pB]
 refine⟨(h.S.C a.r λi _ x=> ?_).C z λi _ x=> ?_,o,N,t,y,B,⟨?_,J,λ_=>⟨p,eE _,U,I,?_,qP.M _ _ _,(λe=>by cases e),λ_=>⟨rfl,rfl⟩⟩,(λe=>by cases e)⟩,λe=> ?_,É rfl⟩;exact(h.C.lt i x).1;rwa[x];show jX.ownsRow m 140 1 v (g.C f.d++[Q]).length (pB<|g.C f.d++[Q]);rwa[O,P];exact⟨U,É ⟨U,U⟩⟩;grind
def apH:zN f 0=Ã:=rfl
def apI(h:jb m b g nm s f w)(q:f.r=0)(r:f.d.r=Ó->f.d.Y=[])(t:f.d.I.length<=100000)(k:Int): Ò À 80 #[Ä<|Â ⟨b,0,Ã⟩,Ç Ê k] w λe w'=>match zN f k with|none=>e=È (á Ó)/\w'=w|some l=>e=È (á Í)/\ug m b l w w':=by
 by_cases j:k=0
 .subst j;rw[apH];go_enter aO,aj;go_wp2;go_ret;exact⟨U,U⟩
 have P:(k==0)=Ó:=by rwa[beq_eq_false_iff_ne]
 have e:zN f k=Â {f with C:=ua k,d:=f.d.wS k}:=if_neg j;rw[e];have Q:=h.r.r 2 _ U;have S:=h.r.I 2;have V:=h.r.M;have o:=h.apF k r;have u:(g.C f.d).length<=100000:=by rwa[h.C.K]
 have x:=h.I;have y:m<=w.heap.size:=Z;have H:=fv<|Á x<|Á y<|Á u q;go_enter aO,aj;go_wp2_with fail;change Code.wp À _ _ _ (Ny b k w);have c:=o.fH (fw.gM _ _) o.M.gM;generalize W:w.heap.size=T at*;generalize z:(Ny b k w).drew=w1 at*;let⟨X,B,C,D,E⟩:=ć apB;have i:=fv<|Á B<|Á C<|Á D E;refine mI (λw'=>w'.cell? ⟨b,1,Ã⟩=Â g.M/\w'.cell? ⟨b,2,Ã⟩=Â (Ä<|Â ⟨T,0,Ã⟩)) [13] fK ?_;rw[z];have F:Hd (w1.cell? ⟨b,1,Ã⟩=Â g.M/\w1.cell? ⟨b,2,Ã⟩=Â (Ä<|Â ⟨T,0,Ã⟩)):=fv ⟨c.r.r 1 _ U,c.r.r 2 _ U⟩;iterate 9 apply tk F
 have G:=c.I.M;have a:=c.fH (fw.gP fB w1 #[Ä<|Â ⟨T,0,Ã⟩] 140) (c.M.gP _ _ fD A λv l=>by simp at l;subst l;exact⟨H.2.1,G⟩);refine jM 9 (λ_=>⟨a.r.r 1 _ U,a.r.r 2 _ U⟩) ?_;apply np 10;intro K I;refine aa4 gq _ _ 51 gq Tryz.underlying51 i.1 i.2.1 i.2.2.1 i.2.2.2 gq a.C ⟨w1.heap.size,0,Ã⟩ gq (ã w1 _ _) U (by have:=H.2.2.1;unfold ó;omega) (by have:=H.2.2.1;omega) (by have:=H.2.1;have:=a.I.M;omega) A (eE _) a.M ⟨H.2.1,a.I.M⟩ A ?_;intro Y w9 l J L;obtain⟨a9,n9c,rfl⟩:=jj l.fE;have v:=a.r.C l.r<|iG a.C a.r A;apply I.out _ _ λ_=>⟨v.r 1 _ U,v.r 2 _ U⟩;refine jM 11 (λ_=>⟨v.r 1 _ U,v.r 2 _ U⟩) ?_;refine jM 12 (λ_=>⟨v.r 1 _ U,v.r 2 _ U⟩) ?_;have cb1:=v.r 1 _ U;have fb1:=v.I 1;have cb4:=v.r 4 _ U;have fb4:=v.I 4;have cb0:=v.r 0 _ U;have fb0:=v.I 0;have cb2:=v.r 2 _ U;refine jM 13 (λn=>absurd A n) ?_;refine ma ?_;have M:=fv λn p N=>a.jq (sb:=n) H.1 H.2.1 H.2.2.2 p N l J L U;go_wp2_with (go_at_call 129;refine(apo _ _).mono ?_;rintro e w' ⟨⟨n,rfl,N,O⟩,p⟩;subst w');go_ret;have p:=M n N O;exact⟨U,p.1,_,_,_,p.2⟩
end
def mC(i:Nat)(z:Int):Prop:=match i with|0|1=>0<=z/\z<8|2|3=>0<=z/\z<1000000|4=>1<=z/\z<10|5|6=>-1<=z/\z<1000000|7=>0<=z/\z<16|_=>True
structure Gc(n m:Nat)(c:List Int):Prop where
 C:c.length=n
 r:∀i,i<m->mC i (c.getD i 0)
theorem Gc.I(h:Gc n m zQ)(i:Nat)(z:Int)(b:i<m->mC i z):Gc n m (zQ.set i z):=by refine⟨by simp[h.C],λj a=> ?_⟩;have:=h.r j a;grind
def abe(h:i<zQ.length)(z:Int):(zQ.set i z).getD i 0=z:=by simp[Ċ,h]
structure mW(t:PT):Prop where
 c:Gc 5 4 t.c
 p:t.p.size<=40/\∀c∈t.p.data.toList,xW c=Í
structure sC(r:PR):Prop where
 c:Gc 8 8 r.c
 C:∀t∈r.r,mW t
 n:r.r.length<=8
structure lI(d:PD):Prop where
 M:d.r=Ó->d.Y=[]/\d.C=Ó
 b:d.C=Ó->d.M.r=[]
 I:d.I.length<=24
 a:d.S.length<=8
 N:∀r∈d.Y,sC r
 C:d.r=Í->Gc 8 8 d.M.c
 Y:d.r=Í->∀t∈d.M.r,mW t
 S:d.C=Í->mW d.N
structure mZ(B:ByteArray)(k:Nat)(st:PS):Prop where
 M:0<=st.r
 r:st.r<=5
 C:0<=st.I
 I:st.I<=40
 c:0<st.r->(st.M=86\/st.M=87\/st.M=110\/st.M=107)/\st.d.r=Í/\0<=st.d.H st.M/\st.d.H st.M<10^(6-st.r.toNat)
 d:lI st.d
 b:st.d.r=Í\/st.C=[82]
 a:82∈st.C->st.d.I.length<24
 N:84∈st.C\/80∈st.C->st.d.C=Í
 Y:66∈st.C->st.d.C=Ó
 S:80∈st.C->st.C=[80]/\st.r=0
 e:80∈st.C->st.I.toNat<=k/\∀j (h:j<B.size),k-st.I.toNat<=j->j<k->xW B[j]=Í
section
variable{d:PD}{st o:PS}
def lI.abf(h:lI d)(on:d.r=Í):∀t∈d.S,mW t:=by unfold PD.S;split;rename_i e;intro t a;obtain q|q:=dx.1 a;exact h.Y on t q;rw[eY]at q;rw[q];exact h.S e;exact h.Y on
def lI.K(h:lI d):∀r∈d.I,sC r:=by unfold PD.I;split;rename_i e;intro r a;obtain q|q:=dx.1 a;exact h.N r q;rw[eY]at q;rw[q];exact⟨h.C e,h.abf e,h.a⟩;exact h.N
def zP(d:PD):d.I.length=d.Y.length+(if d.r then 1 else 0):=by unfold PD.I;split<;>simp
def JC(d:PD):d.S.length=d.M.r.length+(if d.C then 1 else 0):=by unfold PD.S;split<;>simp
def lI.r(h:lI d)(i:Nat)(z:Int)(a:mC i z):lI (d.wR i z):=⟨h.M,h.b,by have:=h.I;rw[zP]at this|-;exact this,by have:=h.a;rw[JC]at this|-;exact this,h.N,λe=>(h.C e).I i z λ_=>a,h.Y,h.S⟩
def lI.vj(h:lI d)(i:Nat)(z:Int)(a:i<4->mC i z):lI (d.vj i z):=⟨h.M,h.b,by have:=h.I;rw[zP]at this|-;exact this,by have:=h.a;rw[JC]at this|-;exact this,h.N,h.C,h.Y,λe=>⟨(h.S e).c.I i z a,(h.S e).p⟩⟩
def lI.H(h:lI d)(i:Nat)(z:Int)(a:mC i z):lI (d.G i z):=by unfold PD.G;split;exact h.vj i z λ_=>a;exact h.r i z a
def lI.sZ(h:lI d)(p:ByteArray)(a:p.size<=40/\∀c∈p.data.toList,xW c=Í):lI (d.sZ p):=⟨h.M,h.b,by have:=h.I;rw[zP]at this|-;exact this,by have:=h.a;rw[JC]at this|-;exact this,h.N,h.C,h.Y,λe=>⟨(h.S e).c,a⟩⟩
def apJ:mW PD.zH:=⟨⟨U,λi a=>by
 match i,a with|0,_|1,_|2,_=>exact⟨A,A⟩|3,_=>exact⟨A,A⟩⟩,⟨A,λc b=>by cases b⟩⟩
def lI.G(h:lI d)(on:d.r=Í)(a:d.S.length<8):lI d.K:=⟨(λe=>by have:d.r=Ó:=e;rw[on]at this;cases this),(λe=>by cases e),by have:=h.I;rw[zP]at this|-;exact this,by rwa[JC],h.N,λe=>h.C e,λ_=>h.abf on,λ_=>apJ⟩
def lI.wS(h:lI d)(q:Int)(a:1<=q/\q<10)(b:d.I.length<24):lI (d.wS q):=⟨(λe=>by cases e),λ_=>U,by rwa[zP],by show(0:Nat)<=8;decide,h.K,λ_=>⟨U,λi c=>by
   match i,c with|0,_|1,_=>exact⟨by show(0:Int)<=0;decide,by show(0:Int)<8;decide⟩|2,_|3,_=>exact⟨by show(0:Int)<=0;decide,by show(0:Int)<1000000;decide⟩|4,_=>exact a|5,_|6,_=>exact⟨by show(-1:Int)<=0;decide,by show(0:Int)<1000000;decide⟩|7,_=>exact⟨by show(0:Int)<=0;decide,by show(0:Int)<16;decide⟩⟩,(λ_ t f=>by cases f),(λe=>by cases e)⟩
def lI.fR(h:lI d)(a z:Int)(b:(a=86->mC 5 z)/\(a=87->mC 6 z)/\(a=120->mC 0 z)/\(a=121->mC 1 z)/\(a=110->mC 2 z)/\(a=107->mC 3 z)/\(a=115->mC 7 z)):lI (d.fR a z):=by
 let⟨c,e,f,g,i,j,k⟩:=b;unfold PD.fR;repeat' split
 exact h.r 5 z<|c ‹_›;exact h.r 6 z<|e ‹_›;exact h.H 0 z<|f ‹_›;exact h.H 1 z<|g ‹_›;exact h.H 2 z<|i ‹_›;exact h.H 3 z<|j ‹_›;exact h.r 7 z<|k ‹_›;exact h
def Uo(d:PD)(a z:Int):(d.fR a z).r=d.r/\(d.fR a z).C=d.C/\(d.fR a z).I.length=d.I.length:=by
 unfold PD.fR PD.G;repeat' split
 all_goals exact⟨U,U,(zP _).trans (zP d).symm⟩
theorem Up(h:lI d)(on:d.r=Í)(a z:Int)(f:a=86\/a=87\/a=110\/a=107):(d.fR a z).H a=z:=by
 have g:=(h.C on).C;have b:∀i,i<4->(d.G i z).JA i=z:=λi j=>by unfold PD.G;split;rename_i e;have k:=(h.S e).c.C;show(if d.C=Í then(d.N.c.set i z).getD i 0 else d.M.c.getD i 0)=z;grind;rename_i e;show(if d.C=Í then d.N.c.getD i 0 else(d.M.c.set i z).getD i 0)=z;grind
 obtain rfl|rfl|rfl|rfl:=f;exact abe Z z;exact abe Z z;exact b 2 A;exact b 3 A
def Nz:∀(l:List UInt8)(c:UInt8),ß l c<l.length|[],_=>by show(-1:Int)<0;decide|a::l,c=>by have:=Nz l c;unfold ß;split;simp;split<;>(simp;omega)
def Uq:∀(l:List UInt8)(c:UInt8),c∈l->0<=ß l c
 |[],_,h=>by cases h
 |a::l,c,h=>by unfold ß;split;decide;rename_i e;obtain q|q:=eK.1 h;subst q;simp at e;have:=Uq l c q;split;rename_i b;rw[beq_iff_eq]at b;omega;omega
def abg{l:List UInt8}(h:c.toNat∈l.map UInt8.toNat):c.toNat.toUInt8∈l:=by let⟨x,a,b⟩:=cI.1 h;rw[<-b];simpa using a
def abh(h:qM c=Í):0<=ß [97,98,99,100,101,102,103,104] c.toNat.toUInt8:=by rw[aa0]at h;refine Uq _ _<|abg ?_;simp;omega
def apK(h:(kE c||(decide (97<=c)&&decide (c<=102)))=Í):0<=ß [48,49,50,51,52,53,54,55,56,57,97,98,99,100,101,102] c.toNat.toUInt8:=by simp only[eg,BQ,eC,decide_eq_true_eq]at h;refine Uq _ _<|abg ?_;simp;omega
theorem apL(a:oL h c=Í):(h=86->mC 5 (mf h c))/\(h=87->mC 6 (mf h c))/\(h=120->mC 0 (mf h c))/\(h=121->mC 1 (mf h c))/\(h=110->mC 2 (mf h c))/\(h=107->mC 3 (mf h c))/\(h=115->mC 7 (mf h c)):=by
 unfold oL at a;have b:(c==104||kE c)=Í->-1<=(if c=104 then-1 else(c-48)%256)/\(if c=104 then(-1:Int)else(c-48)%256)<1000000:=λq=>by split<;>omega
 have d:kE c=Í->0<=(if c=104 then-1 else(c-48)%256)/\(if c=104 then(-1:Int)else(c-48)%256)<1000000:=λq=>by rw[BQ]at q;grind
 refine⟨?_,?_,?_,?_,?_,?_,?_⟩<;>rintro rfl;exact b a;exact b a;exact⟨abh a,Nz _ _⟩;exact⟨abh a,Nz _ _⟩;exact d a;exact d a;exact⟨apK a,Nz _ _⟩
theorem apM{mM:Int}(a:kE c=Í)(b:0<=h)(d:0<mM)(e:mM<=5)(f:h<10^(6-mM.toNat)):0<=sB h c/\sB h c<10^(6-(mM-1).toNat)/\sB h c<1000000:=by
 rw[BQ]at a;have g:h<100000->sB h c=h*10+(c-48):=λq=>by rw[sB,Ğ (h*10) ⟨Z,Z⟩,Ğ _ ⟨Z,Z⟩];omega
 have i:mM=1\/mM=2\/mM=3\/mM=4\/mM=5:=Z;grind
def lI.mM(h:lI d)(a z:Int)(c:a=86\/a=87\/a=110\/a=107)(b:0<=z/\z<1000000):lI (d.fR a z):=h.fR a z ⟨λ_=>⟨Z,b.2⟩,λ_=>⟨Z,b.2⟩,λe=>by omega,λe=>by omega,λ_=>b,λ_=>b,λe=>by omega⟩
def mZ.apN(h:mZ B k st)(e:0<st.r)(j:kE c=Í):mZ B (k+1) (Nt st c):=by let⟨a,b,l,m⟩:=h.c e;let⟨f,n,o⟩:=apM j l e h.r m;let⟨g,i,p⟩:=Uo st.d st.M<|sB (st.d.H st.M) c;refine⟨by show 0<=st.r-1;omega,by have:=h.r;show st.r-1<=5;omega,h.C,h.I,λ_=>⟨a,g.trans b,?_⟩,h.d.mM _ _ a ⟨f,o⟩,?_,λq=> ?_,λq=>i.trans<|h.N q,λq=>i.trans<|h.Y q,λq=> ?_,λq=> ?_⟩;show 0<=(st.d.fR st.M<|sB (st.d.H st.M) c).H st.M/\(st.d.fR st.M<|sB (st.d.H st.M) c).H st.M<10^(6-(st.r-1).toNat);rw[Up h.d b _ _ a];exact⟨f,n⟩;exact É<|g.trans b;show(st.d.fR st.M<|sB (st.d.H st.M) c).I.length<24;rw[p];exact h.a q;have:=(h.S q).2;omega;have:=(h.S q).2;omega
def mZ.xn(h:mZ B k st):mZ B k {st with r:=0}:=⟨cK _,by show(0:Int)<=5;decide,h.C,h.I,(λq=>by cases q),h.d,h.b,h.a,h.N,h.Y,λq=>⟨(h.S q).1,rfl⟩,h.e⟩
theorem mZ.on(h:mZ B k st)(a:82∉st.C):st.d.r=Í:=by obtain q|q:=h.b;all_goals grind
def lI.apO(h:lI d)(a:d.C=Í):d.r=Í:=by
 cases e:d.r with|true=>rfl|false=>have:=(h.M e).2;rw[a]at this;cases this
theorem abj(h:mZ B k st)(b:st.r=0)(on:st.d.r=Í)(a:rF st c=Â o):mZ B (k+1) o:=by
 unfold rF at a;split at a;rename_i e;cases a;refine⟨h.M,h.r,h.C,h.I,λq=> ?_,h.d,Ì U,λ_=> ?_,λq=> ?_,λq=> ?_,λq=> ?_,λq=> ?_⟩;grind;rw[zP,on];exact e.2;simp at q;simp at q;simp at q;simp at q;split at a
 .rename_i e;cases a;refine⟨h.M,h.r,h.C,h.I,λq=> ?_,h.d.G on e.2.2,É on,λq=> ?_,λ_=>U,λq=> ?_,λq=> ?_,λq=> ?_⟩;all_goals grind
 cases a
def apP(q:Int):82∉ua q/\84∉ua q/\80∉ua q:=by
 unfold ua;repeat' split
 all_goals decide
theorem apQ(q:Int):82∉qN q/\84∉qN q/\66∉qN q/\(80∈qN q->qN q=[80]):=by unfold qN;grind
def apR(c:Int):0<=vi c/\vi c<10:=by
 unfold vi;repeat' split
 all_goals decide
theorem apS(h:mZ B k st)(i:st.r=0)(f:82∈st.C)(a:zN st (vi c)=Â o):mZ B (k+1) o:=by unfold zN at a;split at a;cases a;rename_i e;cases a;let⟨g,j,b⟩:=apP<|vi c;have l:=apR c;refine⟨h.M,h.r,h.C,h.I,λq=> ?_,h.d.wS _ Z<|h.a f,É U,λq=>absurd q g,λq=> ?_,λ_=>U,λq=>absurd q b,λq=>absurd q b⟩;all_goals grind
theorem apT(h:mZ B k st)(c:st.r=0)(q:Int)(f:84∈st.C)(a:zO st q=Â o):mZ B (k+1) o:=by unfold zO at a;split at a;cases a;cases a;let⟨g,m,i,l⟩:=apQ q;have b:=h.N<|É f;refine⟨h.M,h.r,cK _,by show(0:Int)<=40;decide,λq=> ?_,h.d.vj 4 q λe=>by omega,É<|h.d.apO b,λq=>absurd q g,λ_=>b,λq=>absurd q i,λq=>⟨l q,c⟩,λ_=>⟨eD _,λj _ n p=> ?_⟩⟩;all_goals grind
theorem apU{a:Int}(h:0<mL a c):(a=86\/a=87)/\mL a c=1/\kE c=Í/\c≠48\/(a=110\/a=107)/\mL a c=5/\kE c=Í/\c≠48:=by unfold mL at h|-;grind
theorem abk(h:mZ B k st)(on:st.d.r=Í){want:Int}(l:oL want c=Í)(r:List Int)(a:∀x∈r,x∈st.C)(g:80∉r):mZ B (k+1) {yg st want c with C:=r}:=by
 let⟨m,i,n⟩:=Uo st.d want<|mf want c;have j:=ape want c;refine⟨j.1,j.2,h.C,h.I,λq=> ?_,h.d.fR _ _<|apL l,É<|m.trans on,λq=> ?_,λq=>i.trans<|h.N<|q.imp (a _)<|a _,λq=>i.trans<|h.Y<|a _ q,λq=>absurd q g,λq=>absurd q g⟩;have q:=q;show(want=86\/want=87\/want=110\/want=107)/\(st.d.fR want<|mf want c).r=Í/\0<=(st.d.fR want<|mf want c).H want/\(st.d.fR want<|mf want c).H want<10^(6-(mL want c).toNat);obtain⟨o,b,e,p⟩|⟨o,b,e,p⟩:=apU q;have f:want=86\/want=87\/want=110\/want=107:=Z
 rw[Up h.d on _ _ f,b];rw[BQ]at e;have:mf want c=(c-48)%256:=by unfold mf;grind
 grind;have f:want=86\/want=87\/want=110\/want=107:=Z;rw[Up h.d on _ _ f,b];rw[BQ]at e;have:mf want c=(c-48)%256:=by unfold mf;grind
 grind;show(st.d.fR want<|mf want c).I.length<24;rw[n];exact h.a<|a _ q
def apV{x:UInt8}(h:x∈(B.extract i b).data.toList):∃j,∃e:j<B.size,i<=j/\j<b/\B[j]=x:=by rw[cC,cP,dE]at h;obtain⟨c,d,rfl⟩:=cJ h;simp only[dB,List.length_drop,dU]at d;have f:B.data.size=B.size:=rfl;exact⟨i+c,Z,Z,Z,by simp[dX]⟩
theorem apW(h:mZ B k st)(l:st.r=0)(F:k<B.size)(a:ki B k st (B[k].toNat:Int)=Â o):mZ B (k+1) o:=by
 unfold ki at a;split at a;rename_i e;exact abj h l (h.on<|by rw[e];decide) a;rename_i t p e;have c:t∈st.C:=by rw[e];exact eZ ..
 split at a;rename_i f;subst f;exact apS h l c a;rename_i G;have i:st.d.r=Í:=by obtain q|q:=h.b;all_goals grind
 split at a;rename_i f;subst f;split at a;rename_i u;cases a;have n:=h.Y c;have b:st.d.S.length<8:=by rw[JC,h.d.b n,n];decide
 have v:mZ B k {st with C:=[84],d:=st.d.K}:=by refine⟨h.M,h.r,h.C,h.I,λq=> ?_,h.d.G i b,É i,λq=> ?_,λ_=>U,λq=> ?_,λq=> ?_,λq=> ?_⟩;all_goals grind
 exact abk (want:=120) v i u [84] (λx b=>b) A;exact abj h l i a;split at a;rename_i f;subst f;exact apT h l _ c a;split at a;rename_i f;subst f;let⟨H,w⟩:=h.e c;have n:=h.N<|Ì c;have y:=(h.S c).1;have I:=h.C;have J:=h.I;split at a;cases a;have z:p=[]:=by rw[y]at e;cases e;rfl
 subst z;refine⟨h.M,h.r,h.C,h.I,λq=> ?_,h.d.sZ _ ⟨by rw[ä];omega,λx b=> ?_⟩,É i,λq=> ?_,λq=> ?_,λq=> ?_,λq=> ?_,λq=> ?_⟩;grind;obtain⟨j,r,m,s,rfl⟩:=apV b;exact w j r m s;cases q;grind;cases q;cases q;cases q;split at a;cases a;rename_i g;cases a;have K:=λq=>g<|É q;have C:=λq=>g<|Ì q;refine⟨h.M,h.r,by show 0<=st.I+1;omega,by show st.I+1<=40;omega,h.c,h.d,h.b,h.a,h.N,h.Y,h.S,λ_=>⟨by show(st.I+1).toNat<=k+1;omega,λj r m s=> ?_⟩⟩;have m:k+1-(st.I+1).toNat<=j:=m;by_cases D:j=k;subst D;unfold xW;simpa using C;grind;split at a;rename_i L M N E;cases a;refine abk h i E p (λx b=>by rw[e];exact fi _ b) λq=> ?_;have:=(h.S<|by rw[e];exact fi _ q).1;grind;cases a
def abl(h:mZ B k st)(b:k<B.size)(a:uf B k st (B[k].toNat:Int)=Â o):mZ B (k+1) o:=by unfold uf at a;split at a;rename_i e;cases a;exact h.apN e.1 e.2;exact apW h.xn U b a
def Ur(B:ByteArray):mZ B 0 vk:=⟨A,A,A,A,(λq=>by cases q),⟨λ_=>⟨rfl,rfl⟩,λ_=>U,A,A,(λr e=>by cases e),(λe=>by cases e),(λe=>by cases e),(λe=>by cases e)⟩,Ì rfl,λ_=>by decide,(λq=>by obtain q|q:=q<;>simp[vk]at q),(λq=>by simp[vk]at q),(λq=>by simp[vk]at q),(λq=>by simp[vk]at q)⟩
def JD:∀(f k:Nat)(st:PS),mZ B k st->k<=B.size->mZ B (qO B f k st).1 (qO B f k st).2/\(qO B f k st).1<=B.size|0,k,st,h,hk=>⟨h,hk⟩|f+1,k,st,h,hk=>by unfold qO;split;rename_i a;split;exact⟨h,hk⟩;rename_i o e;exact JD f (k+1) o (abl h a e) Z;exact⟨h,hk⟩
end
section
variable{g:Gh}{st:PS}
def abm{d:PD}(i:Nat)(z:Int):g.N (d.G i z)=g.N d:=by unfold PD.G Gh.N;split<;>simp[PD.vj,PD.wR, *]
def apX{d:PD}(z:Int):g.Y (d.G 2 z) 110=⟨g.N d,2,Ã⟩/\g.Y (d.G 3 z) 107=⟨g.N d,3,Ã⟩:=⟨congrArg (λx=>(⟨x,2,Ã⟩:ø))<|abm 2 z,congrArg (λx=>(⟨x,3,Ã⟩:ø))<|abm 3 z⟩
def abn{d:PD}(on:d.r=Í):g.S d=Â ⟨g.q,0,Ã⟩:=if_pos on
def apY{d:PD}(on:d.r=Í):g.H d=Â ⟨g.N d,0,Ã⟩:=if_pos on
def MR(h:jb m b g O B st w)(f:st.r=0)(on:st.d.r=Í)(a c:Int)(j:oL a c=Í): Ò À 84 #[Ä<|Â ⟨b,0,Ã⟩,Ç ņ a,Ç ņ c] w λe u=>e=È (Ý #[])/\ug m b (yg st a c) w u:=by
 have n:w.cell? ⟨b,2,Ã⟩=Â (Ä<|g.S st.d):=h.r.r 2 _ U;have k:w.cell? ⟨b,4,Ã⟩=Â (Ä<|g.H st.d):=h.r.r 4 _ U;rw[abn on]at n;rw[apY on]at k;have H:=fv (Á h<|Á j<|Á (λi q=>Uj h.C h.r on (i:=i) q)<|apX (g:=g) (d:=st.d));clear h j;generalize g.N st.d=tm at k H;by_cases l:a=86\/a=87\/a=110\/a=107
 .obtain rfl|rfl|rfl|rfl:=l;have N:=fv (Á (F7 H.1.C H.1.r on (i:=5) A) λz=>(rfl:g.Y (st.d.wR 5 z) 86=⟨g.q,5,Ã⟩));rotate_left;have N:=fv (Á (F7 H.1.C H.1.r on (i:=6) A) λz=>(rfl:g.Y (st.d.wR 6 z) 87=⟨g.q,6,Ã⟩));rotate_left;have N:=fv (Á (H.2.2.1 2 A) λz=>(H.2.2.2 z).1);rotate_left;have N:=fv (Á (H.2.2.1 3 A) λz=>(H.2.2.2 z).2);all_goals
   go_enter ŷ,Ũ;go_wp2_with (go_at_call 131;refine gl (apw H.1 N.1 f on H.2.1 A N.2) λu q=> ?_);go_end0;exact⟨U,q⟩
 by_cases z:a=120\/a=121\/a=115
 .obtain rfl|rfl|rfl:=z;have e:=fv<|H.2.2.1 0 A;rotate_left;have e:=fv<|H.2.2.1 1 A;rotate_left;have e:=fv<|F7 H.1.C H.1.r on (i:=7) A;all_goals
   have N:=e.C;have o:=e.I;have p:=e.r;go_enter ŷ,Ũ;go_wp2;go_region_with (go_at_call 130;refine gl (Uc _ _ _) λu r=> ?_;subst u);all_goals go_end0
   all_goals exact⟨U,apx H.1 e f (aa9 A) U⟩
 simp only[not_or]at l z;go_enter ŷ,Ũ;go_wp2;go_end0;refine⟨U,fw.gy _ _,g,O,B,?_⟩;rw[show yg st a c={st with M:=a} by simp[yg,PD.fR,aa9, *]];exact H.1.Uk a f
end
section
variable{g:Gh}{s:ByteArray}{st:PS}{d:PD}
def NA(m b:Nat)(o:Option PS)(e:Ending)(w u:Ë):Prop:=
 (o=Ã/\e=È (á Ó)/\u=w)\/∃a,o=Â a/\e=È (á Í)/\ug m b a w u
def abo{o:Option PS}{e:Ending}(h:match o with|none=>e=È (á Ó)/\u=w|some a=>e=È (á Í)/\ug m b a w u):NA m b o e w u:=by
 cases o with|none=>exact É ⟨U,h⟩|some a=>exact Ì ⟨a,U,h⟩
def apZ{d:PD}(on:d.r=Í):d.I.length=d.Y.length+1:=by rw[zP,on];rfl
def abp(h:jb m b g O s st w)(i:st.r=0)(on:st.d.r=Í)(x:st.d.S.length<=8)(y:st.d.I.length<=24)(c:Int): Ò À 79 #[Ä<|Â ⟨b,0,Ã⟩,Ç ņ c] w λe u=>NA m b (rF st c) e w u:=by
 have l:=h.C.r on;let⟨G,I,o⟩:=jj h.C.C;let⟨J,K,p⟩:=jj l.C;rw[h.C.K]at o;rw[l.H]at p;have L:=h.r.r 0 _ U;have q:=h.r.r 1 _ U;have z:=h.r.r 2 _ U;rw[abn on]at z;rw[o]at q;have r:=l.r.r 8 _ (by have:=Nw st.d.M.c g.r;rwa[l.I]at this);rw[p]at r;have M:=h.r.I 0;obtain⟨t,a⟩:∃n,st.d.I.length=n:=⟨_,U⟩;obtain⟨v,f⟩:∃n,st.d.S.length=n:=⟨_,U⟩;rw[a]at q y;rw[f]at r x;have j:st.d.Y.length+1=t:=by rw[<-a];exact(apZ on).symm
 have H:=fv<|Á h<|Á a<|Á f<|Á j i;by_cases B:c=59/\t<24
 .obtain⟨rfl,e⟩:=B;go_enter Ÿ,ũ;go_wp2;go_ret;let⟨h,a,f,j,i⟩:=H.oQ;exact Ì ⟨_,by rw[rF,if_pos ⟨U,Z⟩],U,vm h 0 _,g,O,_,h.K _ [82] A A<|É on⟩
 by_cases C:c=44/\0<v/\v<8
 .obtain⟨rfl,N,P⟩:=C;go_enter Ÿ,ũ;go_wp2_with (go_at_call 83;refine gl (abd H.1 H.2.2.2.2 on (by have:=H.2.2.1;omega)) λu ⟨k,D,E,Q,e⟩=> ?_;have S:=e.r.r 0 _ U;have T:=e.r.I 0;have F:=fv<|Á k e;clear k e);go_ret;let⟨h,a,f,j,i⟩:=H.oQ;let⟨k,e⟩:=F.oQ;exact Ì ⟨_,by rw[rF,if_neg Z,if_pos ⟨U,Z,Z⟩],U,k.fA<|vm e 0 _,D,E,_,e.K _ [120,84] A A<|É on⟩
 .have e:=fv (show rF st c=Ã by
   let⟨h,a,f,j,i⟩:=H.oQ;rw[rF,if_neg Z,if_neg Z])
  go_enter Ÿ,ũ;go_wp2_with fail;all_goals first|(go_ret;exact É ⟨e,U,U⟩)|(exfalso;simp only[beq_iff_eq,decide_eq_true_eq]at*;omega)
def ap0(h:¬(0<st.r/\kE c=Í)):uf B k st c=ki B k {st with r:=0} c:=if_neg h
def ap1(a:0<st.r)(b:kE c=Í):uf B k st c=Â (Nt st c):=if_pos ⟨a,b⟩
section
variable{want:Int}
def ap2(h:st.C=[]):ki B k st c=rF st c:=by rw[ki,h]
def ap3(h:st.C=want::zQ)(a:want=82):ki B k st c=zN st (vi c):=by rw[ki,h];simp only;rw[if_pos a]
def ap4(h:st.C=want::zQ)(a:want=66)(b:qM c=Í):ki B k st c=Â (yg {st with C:=[84],d:=st.d.K} 120 c):=by rw[ki,h];simp only;rw[if_neg Z,if_pos a,if_pos b]
def ap5(h:st.C=want::zQ)(a:want=66)(b:qM c=Ó):ki B k st c=rF st c:=by rw[ki,h];simp only;rw[if_neg Z,if_pos a,if_neg (by rw[b];decide)]
def ap6(h:st.C=want::zQ)(a:want=84):ki B k st c=zO st (BP c):=by rw[ki,h];simp only;rw[if_neg Z,if_neg Z,if_pos a]
def ap7(h:st.C=want::zQ)(a:want=80)(b:c=125):ki B k st c=Â {st with C:=zQ,d:=st.d.sZ (B.extract (k-st.I.toNat) k)}:=by rw[ki,h];simp only;rw[if_neg Z,if_neg Z,if_neg Z,if_pos a,if_pos b]
def abq(h:st.C=want::zQ)(a:want=80)(b:¬c=125)(d:st.I=40\/il c=0):ki B k st c=Ã:=by rw[ki,h];simp only;rw[if_neg Z,if_neg Z,if_neg Z,if_pos a,if_neg b,if_pos d]
def ap8(h:st.C=want::zQ)(a:want=80)(b:¬c=125)(d:¬st.I=40)(e:¬il c=0):ki B k st c=Â {st with I:=st.I+1}:=by rw[ki,h];simp only;rw[if_neg Z,if_neg Z,if_neg Z,if_pos a,if_neg b,if_neg Z]
def ap9(h:st.C=want::zQ)(a:¬want=82)(b:¬want=66)(d:¬want=84)(e:¬want=80)(f:oL want c=Í):ki B k st c=Â {yg st want c with C:=zQ}:=by rw[ki,h];simp only;rw[if_neg a,if_neg b,if_neg d,if_neg e,if_pos f]
def aqa(h:st.C=want::zQ)(a:¬want=82)(b:¬want=66)(d:¬want=84)(e:¬want=80)(f:oL want c=Ó):ki B k st c=Ã:=by rw[ki,h];simp only;rw[if_neg a,if_neg b,if_neg d,if_neg e,if_neg (by rw[f];decide)]
end
def aqb(c:UInt8):(0:Int)<=(c.toNat:Int)/\(c.toNat:Int)<256:=⟨cu _,by have:=c.toNat_lt;omega⟩
def Us(s:ByteArray)(h:s.size=0):(s.toList==[])=Í:=by simp_all
theorem Ut(s:ByteArray)(h:¬s.size=0):(s.toList==[])=Ó:=by
 rw[beq_eq_false_iff_ne];intro e;have:s.toList.length=s.size:=by rw[ą];rfl
 grind
def jb.aqc(h:jb m b g O s st w)(on:st.d.r=Í)(i:c=86\/c=87\/c=110\/c=107):∃a e f,g.Y st.d c=⟨a,e,Ã⟩/\wT m b g st.d a e f (st.d.H c) w/\∀z,f z=st.d.fR c z:=by obtain rfl|rfl|rfl|rfl:=i;exact⟨_,_,_,U,F7 h.C h.r on A,λz=>U⟩;exact⟨_,_,_,U,F7 h.C h.r on A,λz=>U⟩;exact⟨_,_,_,U,Uj h.C h.r on A,λz=>U⟩;exact⟨_,_,_,U,Uj h.C h.r on A,λz=>U⟩
def jb.sZ(h:jb m b g O s st w)(on:st.d.r=Í)(a:st.d.C=Í)(p:ByteArray):jb m b g O s {st with d:=st.d.sZ p} (w.setCell ⟨g.t,5,Ã⟩<|Å p)/\fw (λi=>m<=i) w (w.setCell ⟨g.t,5,Ã⟩<|Å p):=by have l:=h.C.r on;let⟨f,j,c⟩:=l.M a;have e:fw (λi=>i=g.t) w (w.setCell ⟨g.t,5,Ã⟩<|Å p):=rH c;exact⟨⟨h.I,h.N.r _ trivial,h.r.C e λx=>fy.H h.r c A x,h.S,h.M,h.C.sZ on a p,h.a,h.Y⟩,e.fG λi _ x=>by have:=l.S;omega⟩
def jb.abr(h:jb m b g O s st w)(on:st.d.r=Í)(a:st.C=c::zQ):jb m b g O (s.extract 1 s.size) {st with C:=zQ} (w.setCell ⟨b,0,Ã⟩<|Å<|s.extract 1 s.size):=h.K _ zQ (apd s h.S) (by rw[apc,h.M,a];rfl)<|É on
def jb.aqd(h:jb m b g O s st w)(a:st.C=c::zQ):0<s.size:=by have:=F4 s;rw[h.M,a]at this;simp at this;omega
end
section
variable{g:Gh}{s:ByteArray}{st:PS}{d:PD}
def aqe(h:jb m b g O s st w)(a:st.r=0)(c:st.d.r=Ó->st.d.Y=[])(f:st.d.I.length<=100000)(k:Int): Ò À 80 #[Ä<|Â ⟨b,0,Ã⟩,Ç Ê k] w λe u=>NA m b (zN st k) e w u:=(apI h a c f k).mono λ_ _ q=>abo q
def aqf(h:jb m b g O s st w)(a:st.r=0)(on:st.d.r=Í)(c:st.d.C=Í)(k:Int): Ò À 85 #[Ä<|Â ⟨b,0,Ã⟩,Ç Ê k] w λe u=>NA m b (zO st k) e w u:=(apz h a on c k).mono λ_ _ q=>abo q
def oz(B:ByteArray):Nat×PS:=qO B B.size 0 vk
def aqg{a:PS}(b:k<B.size)(c:uf B k st (B[k].toNat:Int)=Â a):qO B (B.size-k) k st=qO B (B.size-(k+1)) (k+1) a:=by rw[show B.size-k=(B.size-(k+1))+1 by omega,qO,dif_pos b,c]
def aqh(a:k<B.size)(b:uf B k st (B[k].toNat:Int)=Ã):qO B (B.size-k) k st=(k,st):=by rw[show B.size-k=(B.size-(k+1))+1 by omega,qO,dif_pos a,b]
theorem aqi(h:jb m b g O s vk w)(hB:B.size<=1200): Ò À 45 #[Ä<|Â ⟨b,0,Ã⟩,Å B] w λe u=>
  ∃k:Nat,k<=B.size/\e=È (Ç Ê k)/\∃N,ug m b N w u/\(oz B).1=k/\(k=B.size->(oz B).2=N):=by
 have H:=fv h;clear h;go_enter Tryz.func45,Tryz.ntmps45;go_wp2;go_step3;go_wp2;go_step3;go_wp2;go_loopw [5] (λi wr=>∃(k:Nat)(st:PS),i=Ç Ê k/\k<=B.size/\∃g O s,jb m b g O s st wr/\fw (λi=>m<=i) w wr/\mZ B k st/\oz B=qO B (B.size-k) k st) λi _=>B.size-(Þ i).toNat
 case atStart=>exact⟨0,vk,U,eD _,g,O,s,H,fw.gy _ _,Ur B,U⟩
 case round=>
  clear H;obtain⟨k,st,rfl,P,g,O,s,a,W,l,X⟩:=hrel;by_cases I:k<B.size
  case neg=>
   have H:=fv (show∃N,ug m b N w wr/\(oz B).1=k/\(k=B.size->(oz B).2=N) by rw[X,show B.size-k=0 by omega];exact⟨st,⟨W,g,O,s,a⟩,U,λ_=>U⟩);clear a W l X;go_wp2;(try rw[ê]);go_ret;exact⟨k,P,U,H⟩
  have c0:wr.cell? ⟨b,0,Ã⟩=Â (Å s):=a.r.r 0 _ U;have c6:wr.cell? ⟨b,6,Ã⟩=Â (Ç Ê st.r):=a.r.r 6 _ U;have c7:wr.cell? ⟨b,7,Ã⟩=Â (Ç Ê st.I):=a.r.r 7 _ U;have f0:=a.r.I 0;have f6:=a.r.I 6;have f7:=a.r.I 7;have d0:=l.M;have d1:=l.r;have e0:=l.C;have e1:=l.I;have NB:=fv (λE v (o:uf B k st (B[k].toNat:Int)=Â E) (d:ug m b E wr v)=>show∃g O s,jb m b g O s E v/\fw (λi=>m<=i) w v/\mZ B (k+1) E/\oz B=qO B (B.size-(k+1)) (k+1) E from let⟨g',nm',Y,q⟩:=d.2;⟨g',nm',Y,q,W.fA d.1,abl l I o,X.trans<|aqg I o⟩);by_cases hA:0<st.r/\kE (B[k].toNat:Int)=Í
  .let⟨wx,hA2⟩:=hA;let⟨abt,F,_,_⟩:=l.c wx;let⟨ab,ao,f,ht,hn,hf⟩:=a.aqc F abt;have c5:wr.cell? ⟨b,5,Ã⟩=Â (Ä O):=a.r.r 5 _ U;rw[(a.a wx).2,ht]at c5;obtain⟨x,hx⟩:∃x,st.d.H st.M=x:=⟨_,U⟩;have cm:=hn.C;rw[hx]at cm;have fm:=hn.I;obtain⟨y1,hy1⟩:∃y,wrap64 (x*10)=y:=⟨_,U⟩;obtain⟨y2,hy2⟩:∃y,wrap64 (y1+((B[k].toNat:Int)-48)%256)=y:=⟨_,U⟩;have aqj:¬ab=b:=hn.r;have aqk:¬b=ab:=λe=>hn.r e.symm;have n1:=hn.rd 6<|Ç Ê<|st.r-1;have h2:=(a.G (st.r-1) λ_=>a.a wx).H n1 y2;have T:sB (st.d.H st.M) (B[k].toNat:Int)=y2:=by rw[sB,ů,ů,hx,hy1,hy2]
   have L:=fv (NB.oQ {st with r:=st.r-1,d:=f y2} (ő _) (by rw[ap1 wx hA2,Nt,T,hf]) ⟨(((vm a 6 _).fA<|F8 (st:=st) n1 _).C (fw.gM fB _) λ_ _ x=>x.elim),g,O,s,h2.gM⟩);clear n1 h2 T hn hf ht a l hx abt X W NB;go_wp2_with (go_at_call 78;refine iT (Ub _ _) ?_);go_region;all_goals
    go_wp2;go_roundw
    case rel=>exact⟨_,_,by go_num,I,L⟩
    case measure=>simp[Þ];omega
  have Uu:=fv<|ap0 (B:=B) (k:=k) hA;have J:=a.G 0 λh=>absurd h A;have HK1:=fv<|vm a 6<|Ç Ê 0;have L:=fv (λ(o:ki B k {st with r:=0} (B[k].toNat:Int)=Ã)=>show∃N,ug m b N w _/\(oz B).1=k/\(k=B.size->(oz B).2=N)from⟨_,⟨W.fA HK1.oQ,_,_,_,J⟩,by rw[X,aqh I<|Uu.oQ.trans o],λe=>by omega⟩);have Q:=fv λE v (o:ki B k {st with r:=0} (B[k].toNat:Int)=Â E) (d:ug m b E _ v)=>NB.oQ E v (Uu.trans o) ⟨HK1.fA d.1,d.2⟩;clear X W NB;have hnq:=l.d.I;have hnt:=l.d.a;let⟨xx,zF⟩:=aqb B[k];obtain M1|M1:(0<st.r/\kE (B[k].toNat:Int)=Ó)\/st.r<=0:=by grind
  case' inl=>
   let⟨uQ,ry⟩:=M1;go_wp2_with fail;go_at_call 78;refine iT (Ub _ _) ?_
  all_goals
   clear hA Uu;by_cases T:s.size=0
   .have IX:=Us s T;have LY:st.C=[]:=by rw[<-a.M];exact aa2 s T
    have F:st.d.r=Í:=by obtain q|q:=a.Y;exact q;rw[LY]at q;cases q
    have j:=fv<|ap2 (B:=B) (k:=k) (c:=(B[k].toNat:Int)) (st:={st with r:=0}) LY;clear LY a l;go_wp2_with (go_at_call 79;refine(abp J U F hnt hnq _).mono ?_;rintro e u (⟨z,rfl,rfl⟩|⟨E,z,rfl,M⟩))
    ·(try rw[ê]);go_ret;exact⟨k,P,U,L<|j.trans z⟩
    go_roundw
    case rel=>exact⟨_,_,by go_num,I,Q _ _ (j.trans z) M⟩
    case measure=>simp[Þ];omega
   have Qj:0<s.size:=Z;have IX:=Ut s T;have hs9:s.size<=10:=a.S;have n:=fv (show st.C=(s[0].toNat:Int)::(iV s).tail by rw[<-a.M];exact aa1 s Qj);clear T;by_cases C:(s[0].toNat:Int)=82
   .have j:=fv<|ap3 (B:=B) (k:=k) (c:=(B[k].toNat:Int)) (st:={st with r:=0}) n.oQ C;have hRb:=beq_iff_eq.2 C;have HOF:=fv λe=>(l.d.M e).1;clear C a l;go_wp2_with (first|(go_at_call 81;refine iT (apn _ _) ?_)|(go_at_call 80;refine(aqe J U HOF (by show st.d.I.length<=100000;omega) _).mono ?_;rintro e u (⟨z,rfl,rfl⟩|⟨E,z,rfl,M⟩)))
    ·(try rw[ê]);go_ret;exact⟨k,P,U,L<|j.trans z⟩
    go_roundw
    case rel=>exact⟨_,_,by go_num,I,Q _ _ (j.trans z) M⟩
    case measure=>simp[Þ];omega
   have F:st.d.r=Í:=by obtain q|q:=a.Y;exact q;rw[n.oQ]at q;injection q with q;omega
   have hRb:=beq_eq_false_iff_ne.2 C;by_cases D:(s[0].toNat:Int)=66
   .have hBb:=beq_iff_eq.2 D;cases Uv:qM (B[k].toNat:Int)
    .have j:=fv<|ap5 (B:=B) (k:=k) (st:={st with r:=0}) n.oQ D Uv;clear C D a l;go_wp2_with (first|(go_at_call 82;refine iT (Ud _ xx zF _) ?_)|(go_at_call 79;refine(abp J U F hnt hnq _).mono ?_;rintro e u (⟨z,rfl,rfl⟩|⟨E,z,rfl,M⟩)))
     ·(try rw[ê]);go_ret;exact⟨k,P,U,L<|j.trans z⟩
     go_roundw
     case rel=>exact⟨_,_,by go_num,I,Q _ _ (j.trans z) M⟩
     case measure=>simp[Þ];omega
    have j:=fv<|ap4 (B:=B) (k:=k) (st:={st with r:=0}) n.oQ D Uv;clear C D a l;go_wp2_with (first|(go_at_call 82;refine iT (Ud _ xx zF _) ?_)|(go_at_call 83;refine gl (abd J U F<|by show st.d.S.length<=100000;omega) λu ⟨Bw,g',nm',Y,S⟩=> ?_)|(go_at_call 84;refine gl (MR S U F _ _<|show oL 120 _=Í from Uv) λw'' ⟨aql,M⟩=> ?_));go_roundw
    case rel=>exact⟨_,_,by go_num,I,Q _ _ j ⟨Bw.fA aql,M⟩⟩
    case measure=>simp[Þ];omega
   have hBb:=beq_eq_false_iff_ne.2 D;by_cases G:(s[0].toNat:Int)=84
   .have JF:st.d.C=Í:=l.N (by rw[n.oQ,G];simp);have j:=fv<|ap6 (B:=B) (k:=k) (c:=(B[k].toNat:Int)) (st:={st with r:=0}) n.oQ G;have hTb:=beq_iff_eq.2 G;clear C D G a l;go_wp2_with (first|(go_at_call 86;refine iT (apm _ _) ?_)|(go_at_call 85;refine(aqf J U F JF _).mono ?_;rintro e u (⟨z,rfl,rfl⟩|⟨E,z,rfl,M⟩)))
    ·(try rw[ê]);go_ret;exact⟨k,P,U,L<|j.trans z⟩
    go_roundw
    case rel=>exact⟨_,_,by go_num,I,Q _ _ (j.trans z) M⟩
    case measure=>simp[Þ];omega
   have hTb:=beq_eq_false_iff_ne.2 G;by_cases r:(s[0].toNat:Int)=80
   .have JF:st.d.C=Í:=l.N (by rw[n.oQ,r];simp);have c3:wr.cell? ⟨b,3,Ã⟩=Â (Ä<|g.K st.d):=a.r.r 3 _ U;rw[abb JF]at c3;let⟨yt1,yt2,JG⟩:=(a.C.r F).M JF;have ct5:wr.cell? ⟨g.t,5,Ã⟩=Â (Å st.d.N.p):=JG.r 5 _ (by have:=Nw st.d.N.c<|Å st.d.N.p;rwa[yt2]at this);have ft5:=JG.I 5;have aqk:¬b=g.t:=λe=>fy.H JG a.r A e.symm;have aqj:¬g.t=b:=fy.H JG a.r A;let⟨hru,_⟩:=l.e (by rw[n.oQ,r];simp);have hPb:=beq_iff_eq.2 r;clear yt1 yt2 JG;by_cases K:(B[k].toNat:Int)=125
    .have j:=fv<|ap7 (B:=B) (k:=k) (st:={st with r:=0}) n.oQ r K;have Uw:((B[k].toNat:Int) !=125)=Ó:=by rw[K];rfl
     obtain⟨t0,NC⟩:∃t:Nat,st.I=(t:Int):=⟨st.I.toNat,Z⟩;have hp:=J.sZ F JF<|B.extract (k-t0) k;have Gd:=hp.1.abr F n;have HP:=fv (Q.oQ {({st with r:=0}:PS)with C:=(iV s).tail,d:=st.d.sZ (B.extract (k-t0) k)} _ (by rw[j.oQ,show({st with r:=0}:PS).I.toNat=t0 by show st.I.toNat=t0;omega]) ⟨(hp.2.fA<|vm hp.1 0<|Å<|s.extract 1 s.size).C (fw.gM fB _) λ_ _ x=>x.elim,_,_,_,Gd.gM⟩);rw[NC]at c7 e0 e1 hru;clear K C D G r a l hp Gd NC j J;go_wp2;go_region;all_goals
      go_wp2;go_roundw
      case rel=>exact⟨_,_,by go_num,I,HP⟩
      case measure=>simp[Þ];omega
    have Uw:=bne_iff_ne.2 K;by_cases V:st.I=40
    .have j:=fv<|abq (B:=B) (k:=k) (st:={st with r:=0}) n.oQ r K<|É V;have aqm:=beq_iff_eq.2 V;clear V K C D G r a l;go_wp2;(try rw[ê]);go_ret;exact⟨k,P,U,L j⟩
    have aqm:=beq_eq_false_iff_ne.2 V;by_cases hi:il (B[k].toNat:Int)=0
    .have j:=fv<|abq (B:=B) (k:=k) (st:={st with r:=0}) n.oQ r K<|Ì hi;have A3:((il (B[k].toNat:Int):Int)==0)=Í:=by rw[hi];rfl
     clear V K C D G r a l hi;go_wp2_with (go_at_call 87;refine iT (Bt _ _) ?_);(try rw[ê]);go_ret;exact⟨k,P,U,L j⟩
    have j:=fv<|ap8 (B:=B) (k:=k) (st:={st with r:=0}) n.oQ r K V hi;have A3:((il (B[k].toNat:Int):Int)==0)=Ó:=by rw[beq_eq_false_iff_ne];omega
    have HP:=fv<|Q.oQ _ _ j.oQ ⟨vm J 7 _,_,_,_,J.aa8 _⟩;clear V K C D G r a l hi;go_wp2_with (go_at_call 87;refine iT (Bt _ _) ?_);go_roundw
    case rel=>exact⟨_,_,by go_num,I,HP⟩
    case measure=>simp[Þ];omega
   have hPb:=beq_eq_false_iff_ne.2 r;cases hf:oL (s[0].toNat:Int) (B[k].toNat:Int)
   .have j:=fv<|aqa (B:=B) (k:=k) (st:={st with r:=0}) n.oQ C D G r hf;clear C D G r a l;go_wp2_with (go_at_call 88;refine iT (aa3 _ _ xx zF _) ?_);(try rw[ê]);go_ret;exact⟨k,P,U,L j⟩
   .have j:=fv<|ap9 (B:=B) (k:=k) (st:={st with r:=0}) n.oQ C D G r hf;have HF:=fv hf;clear C D G r a l;go_wp2_with (first|(go_at_call 88;refine iT (aa3 _ _ xx zF _) ?_)|(go_at_call 84;refine gl (MR J U F _ _ HF) λw'' ⟨Bw,g',nm',Y,S⟩=> ?_;have k0:w''.cell? ⟨b,0,Ã⟩=Â (Å Y):=S.r.r 0 _ U;have kf0:=S.r.I 0;have n9:0<Y.size:=S.aqd n;have awm:Y.size<=10:=S.S;have HA:=fv<|Á Bw S;clear Bw S));go_roundw
    case rel=>exact⟨_,_,by go_num,I,Q _ _ j ⟨HA.1.fA<|vm HA.2 0 _,_,_,_,HA.2.abr ((Uo _ _ _).1.trans F) n⟩⟩
    case measure=>simp[Þ];omega
end
def ny(B:ByteArray):Int×Bool×List PR:=
 if B.size=0 then(0,Í,[])else(((oz B).1:Int),decide ((oz B).1=B.size)&&(decide ((oz B).2.C=[])||decide ((oz B).2.C=[66])),(oz B).2.d.I)
def iC(B:ByteArray):Int×Int×List PR:=
 if 1200<B.size then(1,0,[])else if(ny B).2.1=Í then(0,0,(ny B).2.2)else(2,(ny B).1,[])
def DY(m:Nat)(v:Î)(b:List PR)(w:Ë):Prop:=ku m w/\∃a,w.ownsRow m 140 1 v a.length (pB a)/\rG w.heap.size a b w
section
variable{w':Ë}{g:Gh}{s:ByteArray}{a:PS}
def DY.qY(w:Ë):DY w.heap.size (Æ Ã 0 0) [] w:=⟨ku.I w,[],⟨U,É ⟨U,U⟩⟩,rG.N _ _⟩
def jb.jz(h:jb m b g O s a w)(c:a.d.r=Ó->a.d.Y=[])(n:Nat):DY m g.M a.d.I (w.drewN n):=⟨h.N.iQ n,g.C a.d,ia h.C.C (fw.iQ fB w n) λ_ _=>id,(h.C.G c).C (fw.iQ fB w n) λ_ _ x=>x.elim⟩
def g0(m:Nat):Gh:={a:=[],q:=0,t:=0,B:=m,tb:=[],M:=Æ Ã 0 0,r:=Æ Ã 0 0,b:=Ã}
def aqn(w:Ë):jb w.heap.size w.heap.size (g0 w.heap.size) Ã ⟨#[82]⟩ vk (w.alloc<|Ô #[Å ⟨#[82]⟩,Æ Ã 0 0,Ä Ã,Ä Ã,Ä Ã,Ä Ã,Ç Ê 0,Ç Ê 0] 145):=⟨eE _,(ku.I w).gP _ _ A A (λv e=>by simp at e;obtain rfl|rfl|rfl|rfl:=e<;>trivial),fy.N w [Å ⟨#[82]⟩,Æ Ã 0 0,Ä Ã,Ä Ã,Ä Ã,Ä Ã,Ç Ê 0,Ç Ê 0] 145,A,A,⟨⟨U,É ⟨U,U⟩⟩,rG.N _ _,(λe=>by cases e),λ_=>U⟩,(λq=>by cases q),Ì rfl⟩
def aqo(s:ByteArray):iV s=[66]↔s.toList=[66]:=by
 rw[iV,ą];constructor;intro h;match hl:s.data.toList with
 |[]=>rw[hl]at h;simp at h|[x]=>
  rw[hl]at h;simp only[dR,dG,List.cons.injEq,and_true]at h;have:x=66:=bP.1 (by have:x.toNat=66:=Z;rw[this];rfl);rw[this]|x::y::r=>rw[hl]at h;simp at h
 intro h;rw[h];rfl
def Ux(a:¬B.size=0):(ny B).1=((oz B).1:Int):=by rw[ny,if_neg a]
def abu(a:¬B.size=0):(ny B).2.2=(oz B).2.d.I:=by rw[ny,if_neg a]
def aqp(a:¬B.size=0)(h:¬(oz B).1=B.size):(ny B).2.1=Ó:=by rw[ny,if_neg a];simp[h]
def abv(a:¬B.size=0)(h:(oz B).1=B.size){x:Bool}(b:x=(decide ((oz B).2.C=[])||decide ((oz B).2.C=[66]))):(ny B).2.1=x:=by rw[ny,if_neg a,b];simp[h]
def aqr(B:ByteArray):(oz B).2.d.r=Ó->(oz B).2.d.Y=[]:=λe=>((JD B.size 0 vk (Ur B)<|eD _).1.d.M e).1
theorem abw(r:B.size<=1200): Ò À 28 #[Å B] w λe w'=>
  fw fB w w'/\∃v,e=È (Ý #[v,Ç Ê (ny B).1,á (ny B).2.1])/\((ny B).2.1=Í->DY w.heap.size v (ny B).2.2 w'):=by
 by_cases a:B.size=0
 .have f:=Us B a;have n:=fv (show ny B=(0,Í,[])from if_pos a);go_enter aP,ak;go_wp2;apply ì (v:=Ý #[Æ Ã 0 0,Ç Ê 0,á Í]) (by simp[Ņ,ģ,go_sem]) U;exact⟨fw.gy _ _,_,by rw[n.oQ],λ_=>by rw[n.oQ];exact DY.qY w⟩
 .have f:=Ut B a;have b:=fv a;go_enter aP,ak;go_wp2_with (go_at_call 45;refine(aqi (aqn w) r).mono ?_;rintro e t ⟨k,d,rfl,i,⟨n,g,O,s,c⟩,j,u⟩);have m:fw fB w t:=((fw.gP (λi=>w.heap.size<=i) w _ _).fA n).fG λi D x=>by omega
  have E:=c.r.r 0 _ U;have F:=c.r.r 1 _ U;by_cases o:k=B.size
  .subst o;have y:=u U;subst y;have p:=fv c.M;have q:=fv λn=>c.jz (aqr B) n;have n:=fv j;have d:=fv m;have z:((B.size:Int)==(B.size:Int))=Í:=fD;by_cases a:s.size=0
   .have f:=Us s a;have l:=fv (abv b.oQ n.oQ (x:=Í)<|by rw[<-p.oQ,aa2 s a];rfl);go_quiet (fail);go_wp2;apply ì (v:=Ý #[g.M,Ç Ê B.size,á Í]) (by simp[Ņ,ģ,go_sem]) U;exact⟨d.fA<|fw.iQ _ _ _,_,by rw[Ux b.oQ,n.oQ,l.oQ],λ_=>by rw[abu b.oQ];exact q _⟩
   have f:=Ut s a;have l:=fv (abv b.oQ n.oQ (x:=(s.toList==[66])) (by
    rw[<-p.oQ];have C:¬iV s=[]:=λe=>by have:=F4 s;grind
    rw[decide_eq_false C,cG,dA,beq_iff_eq,decide_eq_true_iff,aqo]))
   go_quiet (fail)
   go_wp2;apply ì (v:=Ý #[g.M,Ç Ê B.size,á<|s.toList==[66]]) (by simp[Ņ,ģ,go_sem]) U;exact⟨d.fA<|fw.iQ _ _ _,_,by rw[Ux b.oQ,n.oQ,l.oQ],λ_=>by rw[abu b.oQ];exact q _⟩
  have z:((k:Int)==(B.size:Int))=Ó:=by rw[beq_eq_false_iff_ne];omega
  have n:=fv (Á j<|aqp b.oQ<|by rwa[j]);have d:=fv m;go_quiet (fail);go_wp2;apply ì (v:=Ý #[g.M,Ç Ê k,á Ó]) (by simp[Ņ,ģ,go_sem]) U;exact⟨d.fA<|fw.iQ _ _ _,_,by rw[Ux b.oQ,n.oQ.1,n.oQ.2],λe=>by rw[n.oQ.2]at e;cases e⟩
def abx(i:B.size<=ó): Ò À 19 #[Å B] w λe w'=>
  fw fB w w'/\∃v,e=È (Ý #[v,Ç Ê (iC B).1,Ç Ê (iC B).2.1])/\((iC B).1=0->DY w.heap.size v (iC B).2.2 w')/\((iC B).1≠0->v=Æ Ã 0 0):=by
 unfold ó at i;by_cases b:1200<B.size
 .have a:=fv (show iC B=(1,0,[]) by rw[iC,if_pos b]);go_enter Ŀ,Ū;go_wp2;apply ì (v:=Ý #[Æ Ã 0 0,Ç Ê 1,Ç Ê 0]) (by simp[Ņ,ŀ,go_sem]) U;exact⟨fw.gy _ _,_,by rw[a.oQ],(λe=>by rw[a.oQ]at e;cases e),λ_=>U⟩
 .have f:B.size<=1200:=Z;cases c:(ny B).2.1 with
  |true=>
   have a:=fv (show iC B=(0,0,(ny B).2.2) by rw[iC,if_neg b,if_pos c]);go_enter Ŀ,Ū;go_wp2_with (go_at_call 28;refine(abw f).mono ?_;rintro e j ⟨d,v,rfl,g⟩);apply ì (v:=Ý #[v,Ç Ê 0,Ç Ê 0]) (by simp[Ņ,ŀ,go_sem]) U;exact⟨d,_,by rw[a.oQ],(λ_=>by rw[a.oQ];exact g c),λe=>by rw[a.oQ]at e;exact absurd U e⟩|false=>
   have a:=fv (show iC B=(2,(ny B).1,[]) by rw[iC,if_neg b,if_neg (by rw[c];exact Bool.false_ne_true)]);go_enter Ŀ,Ū;go_wp2_with (go_at_call 28;refine(abw f).mono ?_;rintro e j ⟨d,v,rfl,g⟩);apply ì (v:=Ý #[Æ Ã 0 0,Ç Ê 2,Ç Ê (ny B).1]) (by simp[Ņ,ŀ,go_sem]) U;exact⟨d,_,by rw[a.oQ],(λe=>by rw[a.oQ]at e;cases e),λ_=>U⟩
end
end me
namespace jg
open Conc RowKit Lift gO fO me
structure JH(a:Nat)(t:PT)(w:Ë):Prop where
 r:∃cs fz,w.heap[a]?=Â (Ô cs 193 fz)
 c:∀i,i<5->w.cell? ⟨a,i,Ã⟩=Â (Ç Ê<|t.c.getD i 0)
 p:w.cell? ⟨a,5,Ã⟩=Â (Å t.p)
structure zR(r:Nat)(p:PR)(w:Ë):Prop where
 c:∀i,i<8->w.cell? ⟨r,i,Ã⟩=Â (Ç Ê<|p.c.getD i 0)
 b:∃bp n cp,w.cell? ⟨r,8,Ã⟩=Â (Æ bp n cp)/\n=p.r.length/\∀(j:Nat)(t:PT),p.r[j]?=Â t->∃tb a,bp=Â ⟨tb,0,Ã⟩/\w.cell? ⟨tb,j,Ã⟩=Â (Ä<|Â ⟨a,0,Ã⟩)/\JH a t w
structure RQ(rs:List PR)(v:Î)(U:Nat->Prop)(w:Ë):Prop where
 C:lV nB U w
 I:fI (mK U nB) v v
 M:∃bp cp,v=Æ bp rs.length cp/\∀(j:Nat)(p:PR),rs[j]?=Â p->∃sb r,bp=Â ⟨sb,0,Ã⟩/\w.cell? ⟨sb,j,Ã⟩=Â (Ä<|Â ⟨r,0,Ã⟩)/\zR r p w
section
variable{f:Nat->Prop}{rs:List PR}{Y:fL}
theorem aqs(h:jI Y X u w){t:PT}(d:Y i n)(k:JH i t u):JH n t w:=by refine⟨?_,λb f=>(zG h).r d<|k.c b f,(zG h).I d k.p⟩;let⟨c,g,e,j,l,m,o,_⟩:=h.r i n d;let⟨r,s,q⟩:=k.r;grind
theorem aqt(h:jI Y X u w){r:Nat}{p:PR}(e:Y r i)(k:zR r p u):zR i p w:=by refine⟨λd f=>(zG h).r e<|k.c d f,?_⟩;let⟨F,n,cp,g,l,m⟩:=k.b;let⟨x,o,q⟩:=zG h r i 8 _ e g;obtain⟨s,rfl,v⟩:=Ju q;refine⟨s,n,cp,o,l,λj t y=> ?_⟩;let⟨tb,a,z,B,G⟩:=m j t y;let⟨H,I,C⟩:=v _ z;obtain⟨D,rfl,E⟩:=wP C;let⟨J,K,L⟩:=zG h tb D j _ E B;grind [Jt,wP,aqs]
theorem aqu(h:jI Y X u w)(b:fI Y v x)(a:RQ rs v f u):RQ rs x (λj=>∃i,f i/\Y i j) w:=by refine⟨T6 h a.C,Np b a.I,?_⟩;obtain⟨q,cp,rfl,i⟩:=a.M;obtain⟨c,rfl,d⟩:=Ju b;refine⟨c,cp,U,λj p e=> ?_⟩;let⟨g,r,k,l,s⟩:=i j p e;let⟨t,y,m⟩:=d _ k;obtain⟨n,rfl,o⟩:=wP m;let⟨z,B,C⟩:=zG h g n j _ o l;grind [Jt,wP,aqt]
def yj(k:W.heap[b]?=w.heap[b]?)(h:w.cell? ⟨b,i,Ã⟩=Â z):W.cell? ⟨b,i,Ã⟩=Â z:=by simp only[Ú,k];exact h
def aqv(l:lV nB X w)(k:∀b,X b->W.heap[b]?=w.heap[b]?){r:Nat}{p:PR}(d:X r)(h:zR r p w):zR r p W:=by
 refine⟨λi e=>yj (k r d)<|h.c i e,?_⟩;let⟨u,n,cp,m,v,x⟩:=h.b;refine⟨u,n,cp,yj (k r d) m,v,λj t y=> ?_⟩;let⟨tb,a,o,q,f⟩:=x j t y;have s:X tb:=by have:=l.r d m;rw[o]at this;exact DV this
 have g:=DU<|l.r s q;exact⟨tb,a,o,yj (k tb s) q,⟨by rw[k a g];exact f.r,λi e=>yj (k a g)<|f.c i e,yj (k a g) f.p⟩⟩
def RQ.r(h:RQ rs v f w)(k:∀b,f b->W.heap[b]?=w.heap[b]?):RQ rs v f W:=by
 refine⟨h.C.C k,h.I,?_⟩;obtain⟨g,cp,rfl,i⟩:=h.M;refine⟨g,cp,U,λj p l=> ?_⟩;let⟨a,r,c,d,m⟩:=i j p l;have e:f a:=by have:=h.I;rw[c]at this;exact DV this
 exact⟨a,r,c,yj (k a e) d,aqv h.C k (DU<|h.C.r e d) m⟩
def aby{v:Î}(h:oM m i v):fI (mK (λd=>m<=d/\d<i) nB) v v:=by
 cases v with
 |int k n=>exact .iZ k n|bool b=>exact .nF b|string i=>exact .lb i
 |pointer a=>cases a with|none=>exact .mN|some a=>exact fI.kn (Y:=mK (λd=>m<=d/\d<i) nB) ⟨⟨U,h⟩,U,U⟩
 |slice a n c=>cases a with|none=>exact .oP n c|some a=>exact fI.lh (Y:=mK (λd=>m<=d/\d<i) nB) ⟨⟨U,h⟩,U,U⟩ n c
 |_=>exact absurd h<|by simp[oM]
def aqw{v:Î}(h:oM m i v):Ai v=Ó:=by
 cases v with
 |int k n=>cases k<;>first|rfl|exact absurd h<|by simp[oM]
 |_=>rfl
def aqx(h:ku m w):lV nB (λi=>m<=i/\i<w.heap.size) w:=λb i=>by let⟨c,e,f,g,j,k,l,n,d⟩:=h b _ i.1<|fj i.2;exact⟨c,e,f,by rw[fj i.2,g],j,pz λv a=>aby<|d v a,k,BN λv a=>aqw<|d v a,l,n⟩
theorem MQ{base:Nat}(h:w.ownsRow base e 1 v jJ.length (pB jJ)):∃b f,v=Æ b jJ.length f/\∀(j r:Nat),jJ[j]?=Â r->∃a,b=Â ⟨a,0,Ã⟩/\base<=a/\w.cell? ⟨a,j,Ã⟩=Â (Ä<|Â ⟨r,0,Ã⟩):=by
 obtain⟨m,⟨n,o⟩|⟨g,p,q,rfl,i,k,s,t,u,l⟩⟩:=h;grind;refine⟨_,_,U,λj r c=>⟨g,U,i,?_⟩⟩;have x:=(eP.1 c).1;have d:(pB jJ)[j]?=Â (Ä<|Â ⟨r,0,Ã⟩):=by simp[pB,c]
 rw[<-l,eM Z]at d;simp only[Ú,k,eW,æ,if_false];simpa using d
def abz(h:fy n (qm zQ++[z]) T w)(a:i<zQ.length):w.cell? ⟨n,i,Ã⟩=Â (Ç Ê<|zQ.getD i 0):=h.r i _<|Ui a z
def abA(h:fy i (qm zQ++[z]) T w)(a:zQ.length=n):w.cell? ⟨i,n,Ã⟩=Â z:=h.r n _<|by rw[<-a];exact Nw zQ z
def aqy{r:PR}(h:yh i n r w):zR n r w:=by
 let⟨v,tb,e,l,x,b⟩:=h.I;refine⟨λa c=>abz e (by rwa[h.C]),?_⟩;obtain⟨m,cp,rfl,o⟩:=MQ l;refine⟨m,_,cp,abA e h.C,b.r,λj t f=> ?_⟩;have g:j<tb.length:=by rw[b.r];exact(eP.1 f).1
 let⟨p,s,y,u⟩:=o j tb[j]<|fe g;let⟨_,_,k,d⟩:=b.I j tb[j] t (fe g) f;exact⟨p,tb[j],s,u,⟨_,_,d⟩,λa c=>abz d (by rwa[k]),abA d k⟩
def aqz(h:DY m v rs w):RQ rs v (λi=>m<=i/\i<w.heap.size) w:=by
 let⟨f,i,b,c⟩:=h;obtain⟨d,cp,rfl,k⟩:=MQ b;refine⟨aqx f,?_,d,cp,by rw[c.I],λj p e=> ?_⟩;cases d with
 |none=>exact .oP _ _|some a=>
  have:=b.lt a.block (by obtain⟨q,_⟩|⟨g,l,n,q,_⟩:=b.2<;>(cases q;try rfl));exact aby this
 .have a:j<i.length:=by rw[c.I];exact(eP.1 e).1
  let⟨g,q,n,l⟩:=k j i[j]<|fe a;exact⟨g,i[j],q,l,aqy<|c.M j i[j] p (fe a) e⟩
end
def abB(B:ByteArray)(z:Î)(u:Ë):Prop:=∃v,z=Ý #[v,Ç Ê (iC B).1,Ç Ê (iC B).2.1]/\((iC B).1=0->∃a,RQ (iC B).2.2 v a u)
def aqA(B:ByteArray):xo (abB B):=λv u T D h=>by let⟨x,a,b⟩:=h;refine⟨x,a,λe=> ?_⟩;let⟨U,c⟩:=b e;exact⟨U,c.r λ_ _=>rfl⟩
def aqB{l:fx}(f:gT l)(s:¬l.q)(t:nB<=l.w.heap.size)(u:B.size<=ó)(m:Bool)(h:ĉ)(k:List ĉ): fO.fF À m (λa n=>iX l a/\a.d=l.d/\∃v,n=G (h.finish<|Ý #[v,Ç Ê (iC B).1,Ç Ê (iC B).2.1]) k/\((iC B).1=0->∃V,RQ (iC B).2.2 v V a.w/\∀b,V b->a.O b/\l.w.heap.size<=b)) l (G (â À 19 #[Å B] ù)<|h::k):=by
 let⟨X,c,C,V⟩:=uT 19 gq;have D:∀T,Ò À 19 #[Å B] (World.tp (kL (λj=>False/\¬(nR l).O j) l.w) T 0) fun|È v,j=>abB B v j/\kU j|_,_=>False:=λT=>by refine(abx u).mono ?_;rintro e p ⟨g,v,rfl,i,o⟩;exact⟨⟨v,U,λe=>⟨_,aqz<|i e⟩⟩,g.iH zI⟩
 refine((Bl xj FG uT (aqA B) gq C V (Ds f) s (λb q=>q.elim) ⟨λb q=>q.elim,t⟩ (λg q=>by cases q) (pz λv g=>by simp at g;subst g;exact .lb B) D m h k).nR f).fG ?_;rintro a n ⟨x',⟨Y,j,v,v',_,E,F,⟨v0,rfl,o⟩,H,I,_,J⟩,rfl,K,L,_,_⟩;cases F with
 |@nG _ cs'' hs lC=>
  let⟨M⟩:=cs'';match M,hs with
  |[x,y,z],_=>
   have g:=lC 0 fD fD;have p:=lC 1 fD fD;have r:=lC 2 fD fD;simp at g p r;cases p;cases r;refine⟨K,J,x,H,λe=> ?_⟩;let⟨U,N⟩:=o e;refine⟨_,aqu E g (N.r λ_ _=>rfl),λb V=> ?_⟩;let⟨i,_,P⟩:=V;let⟨Q,S⟩:=I i b P;have W:l.w.heap.size<=b:=S.elim (λq=>q.elim) λq=>q.elim (λq=>q.elim) id;refine⟨É (Q.resolve_right λq=> ?_),W⟩;rw[L]at q;have:=f.fM b q;omega
end jg
namespace gO
open RowKit Lift
def DZ:List Î:=iU (kg 8)++[Æ Ã 0 0,Ç Ê 0,Æ Ã 0 0]
def aqC(w:Ë):Ò À 27 #[] w λe a=>∃c B,e=È (Æ (Â ⟨c,0,Ã⟩) 1 1)/\fy B DZ 139 a/\fy c [Ä<|Â ⟨B,0,Ã⟩] 128 a/\fw fB w a:=by
 have d:(iU<|kg 8).length=144:=tW _;have j:(iU (kg 8)++[Æ Ã 0 0]).length=145:=by rw[Ñ,d];rfl
 have f:=fv<|Á d j;unfold DZ;have k:=fv λW=>ant W;generalize kg 8=s at*;go_enter Tryz.func27,Tryz.ntmps27;go_wp2_with (first|(go_at_call 44;refine gl (k _) λW b=> ?_;have l:=fv b;clear b)|(with_reducible refine à U (Â 2) U _ _ (Ty U U f.oQ.1) ?_)|(with_reducible refine à U (Â 3) U _ _ (anJ U U f.oQ.2) ?_)|(with_reducible refine à U (Â 4) U _ _ (oJ U U) ?_))
 have g:=fy.N (W.alloc<|Ô (iU s++[Æ Ã 0 0,Ç Ê 0,Æ Ã 0 0]).toArray 139) [Ä<|Â ⟨W.heap.size,0,Ã⟩] 128;have i:=fw.gP fB (W.alloc<|Ô (iU s++[Æ Ã 0 0,Ç Ê 0,Æ Ã 0 0]).toArray 139) #[Ä<|Â ⟨W.heap.size,0,Ã⟩] 128;have m:(W.alloc<|Ô (iU s++[Æ Ã 0 0,Ç Ê 0,Æ Ã 0 0]).toArray 139).heap.size=W.heap.size+1:=fD;rw[m]at g;have b:=fv<|Á ((fy.N W (iU s++[Æ Ã 0 0,Ç Ê 0,Æ Ã 0 0]) 139).C i id)<|Á g<|(l.fA<|fw.gP fB W (iU s++[Æ Ã 0 0,Ç Ê 0,Æ Ã 0 0]).toArray 139).fA i;go_ret;exact⟨W.heap.size+1,W.heap.size,U,b.1,b.2.1,b.2.2⟩
def aqD(n:Int)(k:1<=n)(l:n<=8)(w:Ë):Ò À 17 #[Ç Ê n] w λe b=>∃g a B,e=È (Ý #[Ä<|Â ⟨g,0,Ã⟩,Ç Ê 0])/\fy g [Ç Ê n,Æ (Â ⟨a,0,Ã⟩) 1 1] 59 b/\fy B DZ 139 b/\fy a [Ä<|Â ⟨B,0,Ã⟩] 128 b/\fw fB w b:=by go_enter ų,ŗ;go_wp2_with (go_at_call 27;refine(aqC _).mono ?_;rintro e c ⟨a,B,rfl,f,i,j⟩;have d:=fv<|Á f<|Á i j;clear f i j);go_ret2;have f:=fw.gP fB c #[Ç Ê n,Æ (Â ⟨a,0,Ã⟩) 1 1] 59;exact⟨c.heap.size,a,B,U,fy.N c [Ç Ê n,Æ (Â ⟨a,0,Ã⟩) 1 1] 59,d.1.C f id,d.2.1.C f id,d.2.2.fA f⟩
end gO
namespace jg
open Conc RowKit Lift gO fO me
section
variable{Y:fL}{a:Nat->Prop}
def abC:∀v∈DZ,(∃k n,v=Ç k n/\k≠ņ)\/(∃p,v=Å p)\/v=Æ Ã 0 0:=λv k=>by unfold DZ at k;obtain q|q:=dx.1 k;obtain⟨n,rfl⟩|⟨p,rfl⟩:=T5 _ v q;exact É ⟨_,_,U,A⟩;exact Ì<|É ⟨p,U⟩;simp at q;obtain rfl|rfl|rfl:=q;exact Ì<|Ì U;exact É ⟨_,_,U,A⟩;exact Ì<|Ì U
def abD:lA [gO.kh]:=⟨A,A,λv b=>by simp at b;subst b;exact⟨⟨(λp a=>by cases a),(λp a=>by cases a),eD _,eD _⟩,aap,cK _,show(0:Int)<1 by decide⟩⟩
def aqE(d:gO.fy n DZ 139 w)(f:gO.fy i [Ä<|Â ⟨n,0,Ã⟩] 128 w):RD [gO.kh] (Æ (Â ⟨i,0,Ã⟩) 1 1) (λk=>k=i\/k=n) w:=by
 refine⟨[(n,gO.kh)],U,abD,⟨_,1,1,U,eE _,⟨U,λj b v e=> ?_⟩⟩,?_,fI.lh (Y:=mK (λk=>k=i\/k=n) nB) ⟨⟨U,É U⟩,U,U⟩ 1 1⟩;cases j with
 |zero=>
  cases e;exact⟨_,0,U,f.r 0 _ U,(anK aap<|by rwa[dL])⟩
 |succ j=>simp at e
 rintro b (rfl|rfl);refine⟨_,_,_,f,fD,pz λv c=> ?_,fD,BN λv c=> ?_,A,A⟩;simp at c;subst c;exact fI.kn (Y:=mK (λk=>k=b\/k=n) nB) ⟨⟨U,Ì U⟩,U,U⟩;simp at c;subst c;rfl;refine⟨_,_,_,d,fD,pz λv c=> ?_,by simp[DZ],BN λv c=> ?_,A,A⟩;obtain⟨k,a,rfl,_⟩|⟨p,rfl⟩|rfl:=abC v<|fN c;exact .iZ k a;exact .lb p;exact .oP 0 0;obtain⟨k,a,rfl,g⟩|⟨p,rfl⟩|rfl:=abC v<|fN c;cases k<;>first|rfl|exact absurd U g
 rfl;rfl
def Ge(b:Nat)(n:Int)(c:Î)(w:Ë):Prop:=∃a,w.heap[b]?=Â (Ô #[Ç Ê n,c] 59 a)/\a=(0,0)
def Ge.r{n:Int}(h:Ge i n v w)(k:W.heap[i]?=w.heap[i]?):Ge i n v W:=by let⟨a,b,c⟩:=h;exact⟨a,k.trans b,c⟩
def aqF(h:jI Y a u w)(g:∀b,¬a b)(q:Y i j)(k:gO.fy i [Ç Ê c,v] 59 u):∃l,fI Y v l/\Ge j c l w:=by
 let⟨d,r,e,D,s,m,t,z,_,B,_⟩:=h.r i j q;unfold gO.fy at k;rw[k]at m;cases m;have f:=z.r<|g j;let⟨C⟩:=r;match C,f.r with
 |[x,y],_=>
  have o:=f.C 0 fD fD;have p:=f.C 1 fD fD;simp at o p;cases o;exact⟨y,p,s,t,(B<|g j).symm⟩
end
def abE(n:Int)(z:Î)(u:Ë):Prop:=∃a b B,z=Ý #[Ä<|Â ⟨a,0,Ã⟩,Ç Ê 0]/\gO.fy a [Ç Ê n,Æ (Â ⟨b,0,Ã⟩) 1 1] 59 u/\RD [gO.kh] (Æ (Â ⟨b,0,Ã⟩) 1 1) (λi=>i=b\/i=B) u/\a≠b/\a≠B
def aqG(n:Int):xo (abE n):=λv u T D h=>by let⟨b,c,B,d,e,a⟩:=h;exact⟨b,c,B,d,e,a.1.r λ_ _=>U,a.2⟩
def aqH{l:fx}(p:gT l)(K:¬l.q)(L:nB<=l.w.heap.size){n:Int}(M:1<=n)(N:n<=8)(C:Bool)(r:ĉ)(s:List ĉ): fO.fF À C (λf D=>iX l f/\f.d=l.d/\∃a e,D=G (r.finish<|Ý #[Ä<|Â ⟨a,0,Ã⟩,Ç Ê 0]) s/\Ge a n e f.w/\f.O a/\l.w.heap.size<=a/\∃V,RD [gO.kh] e V f.w/\¬V a/\∀b,V b->f.O b/\l.w.heap.size<=b) l (G (â À 17 #[Ç Ê n] ù)<|r::s):=by
 let⟨fn,c,P,t⟩:=uT 17 gq;have Q:∀T,Ò À 17 #[Ç Ê n] (World.tp (kL (λj=>False/\¬(nR l).O j) l.w) T 0) fun|È v,h=>abE n v h/\kU h|_,_=>False:=λT=>by refine(aqD n M N _).mono ?_;rintro e z ⟨a,k,B,rfl,V,m,o,g⟩;exact⟨⟨a,k,B,U,V,aqE m o,gO.fy.H V o A,gO.fy.H V m A⟩,g.iH zI⟩
 refine((Bl xj FG uT (aqG n) gq P t (Ds p) K (λb q=>q.elim) ⟨λb q=>q.elim,L⟩ (λg q=>by cases q) (pz λv e=>by simp at e;subst e;exact .iZ _ _) Q C r s).nR p).fG ?_;rintro f D ⟨u,⟨Y,h,v,v',_,g,S,⟨a,k,B,rfl,V,m,o,W⟩,X,q7,_,q6⟩,rfl,ha,hR,_,_⟩;have E:∀i j,Y i j->(oc l u).O j/\l.w.heap.size<=j:=λi j e=>by let⟨z,F⟩:=q7 i j e;have H:l.w.heap.size<=j:=F.elim (λq=>q.elim) λq=>q.elim (λq=>q.elim) id;refine⟨É (z.resolve_right λq=> ?_),H⟩;rw[hR]at q;have:=p.fM j q;omega
 cases S with
 |@nG _ cs'' hs lC=>
  let⟨ls⟩:=cs'';match ls,hs with
  |[x,y],_=>
   have F:=lC 0 fD fD;have H:=lC 1 fD fD;simp at F H;cases H;obtain⟨a2,rfl,m3⟩:=Jt F;obtain⟨I,rfl,z⟩:=wP m3;have h2':RD [gO.kh] (Æ (Â ⟨k,0,Ã⟩) 1 1) (λi=>i=k\/i=B) {h with tape:=u.w.tape,drawn:=u.w.drawn}:=m.r λ_ _=>U;let⟨uS,J,e2⟩:=aqF g (λj q=>q.1) z V;let⟨vs,k1,k2,k3,k4,k5⟩:=h2';let⟨vs',n1,n2⟩:=Jv (zG g) J k3;let⟨p1,p2⟩:=E a I z;refine⟨ha,q6,I,uS,X,e2,p1,p2,_,⟨vs',n1.trans k1,k2,n2,T6 g k4,Np J k5⟩,?_,λb t=> ?_⟩;rintro⟨i,hi,e⟩;have:=g.C.2.1 _ _ _ z e;subst this;exact hi.elim o W;let⟨i,_,e⟩:=t;exact E i b e
structure wV(an:Nat)(xs:List ByteArray)(w:Ë):Prop where
 r:∀(p:Nat)(x:ByteArray),xs[p]?=Â x->w.cell? ⟨an,p,Ã⟩=Â (Å x)
 C:w.cell? ⟨an,xs.length,Ã⟩=Ã
section
variable{an:Nat}{xs:List ByteArray}
theorem wV.uD(h:wV an xs w)(j:0<xs.length):∃c e d,w.heap[an]?=Â (Ô c e d)/\c.size=xs.length/\∀v∈c.toList,∃x,v=Å x:=by
 have i:∀p,p<xs.length->w.cell? ⟨an,p,Ã⟩=Â (Å xs[p]!):=λp a=>h.r p _ (by simp[a]);have b:=i 0 j;have f:=h.C;simp only[Ú]at b f;cases g:w.heap[an]? with
 |none=>rw[g]at b;cases b
 |some o=>
  cases o<;>rw[g]at b f<;>simp only[eW,æ,if_false]at b f<;>first|cases b|skip
  rename_i c e d;have k:c.size<=xs.length:=by grind
  have l:=λp a=>by have:=i p a;simp only[Ú,g,eW,æ,if_false]at this;exact this
  have m:xs.length<=c.size:=by grind
  refine⟨c,e,d,U,bS k m,λv n=> ?_⟩;let⟨p,a⟩:=ek n;have q:p<c.size:=by have:=(eP.1 a).1;simpa using this
  have:=l p Z;rw[eV]at a;rw[this]at a;cases a;exact⟨_,U⟩
end
def aqI{l:fx}(o:gT l)(F:¬l.q)(H:nB<=l.w.heap.size)(h:wV i vX l.w)(I:0<vX.length)(J:l.M i)(p:mT i=Ó)(f:mo l.w i=Â (0,0))(hn:vX.length<=1000)(K:B.size=1)(L:jH vX+vX.length<=140737488355328)(r:Bool)(k:ĉ)(m:List ĉ): fO.fF À r (λn s=>iX l n/\n.d=l.d/\s=G (k.finish<|Å<|lG B vX) m) l (G (â À 21 #[Æ (Â ⟨i,0,Ã⟩) vX.length vX.length,Å B] ù)<|k::m):=by
 let⟨fn,c,N,P⟩:=uT 21 gq;let⟨t,e,Q,y,b2,z⟩:=h.uD I;have C:(λj=>j=i/\¬(nR l).O j)=λj=>j=i:=by funext j;exact propext ⟨λq=>q.1,λq=>⟨q,id⟩⟩
 have S:∀T,Ò À 21 #[Æ (Â ⟨i,0,Ã⟩) vX.length vX.length,Å B] (World.tp (kL (λj=>j=i) l.w) T 0) fun|È v,E=>v=Å (lG B vX)/\kU E|_,_=>False:=λT=>by refine(TV U Z (eE _) K (λj v a=> ?_) L).mono ?_;rw[ow,dN]at a;obtain⟨x,b,rfl⟩:=Ø.1 a;exact⟨i,0,U,by rw[dQ];exact rD (É p)<|h.r j x b⟩;rintro e g ⟨rfl,b⟩;exact⟨U,b.iH zI⟩
 have V:∀v∈t.toList,fI (nk (λj=>j=i) À.globals.size) v v:=λv a=>by obtain⟨x,rfl⟩:=z v a;exact .lb x
 have X:gD (nk (λj=>j=i) À.globals.size) #[Æ (Â ⟨i,0,Ã⟩) vX.length vX.length,Å B] #[Æ (Â ⟨i,0,Ã⟩) vX.length vX.length,Å B]:=pz λv a=>by have b:v=Æ (Â ⟨i,0,Ã⟩) vX.length vX.length\/v=Å B:=fN a;obtain rfl|rfl:=b;exact fI.lh (Y:=nk (λj=>j=i) À.globals.size) ⟨⟨U,U⟩,U,U⟩ _ _;exact .lb B
 have W:=Bl xj FG uT (λv u T D h=>h) gq N P (Ds o) F (λb q=>Ì<|by rwa[q]) (by rw[C];refine⟨λb q=> ?_,H⟩;subst q;exact⟨t,e,Q,y,(by rw[mo,y]at f;cases f;exact eD _),pz V,λ_=>⟨Z,(λq=>by rw[p]at q;cases q),λ_=>BN λv a=>by obtain⟨x,rfl⟩:=z v a;rfl⟩⟩) (λg q=>by cases q) X (by rwa[C]) r k m;refine(W.nR o).fG ?_;rintro n s ⟨D,⟨Y,E,v,v',_,_,b,rfl,g,_,_,u⟩,rfl,x,_,_,_⟩;cases b;exact⟨x,u,g⟩
end jg
namespace fO
open Conc Lift
open Go.ConcN (sumTo sumTo_congr)
def Uy(P:bD)(a:Î->Ë->Prop):Jd:=λl g=>g.status=.running/\∃v,(∀w,stepG P Í g w=.ended (.done v) w)/\a v l.w
section
variable{Y:Nat->Prop}{e:Nat->fx}
def lT.oM{J:Jd}{T:gW}(c:lT P Y zX i J T D e E w qJ){sl:Option (Nat×Nat)}(k:vQ v u):ar P vQ (ĭ E w sl) (.done v) u qJ:=by
 have C:=c.r.r;have f:∀a g,E[a]?=Â g->a≠0->QuitsD P (D a) (Deaf qJ a) g:=λa g b d=>by
  let⟨g0,j,h,_,_⟩:=c.r.C a g b;obtain rfl:g=g0:=by cases h;rfl
  simp only[d,if_false]at j;rw[C.f a<|(fp.1 b).1];exact j _<|gd.gy _ _
 refine⟨v,U,k,C.l,c.M,⟨λg l=> ?_,U⟩,λa g b d=>⟨D a,(f a g b d).hears _⟩⟩;let⟨j,h⟩:=ek l;rw[cB]at h;exact⟨_,(f (1+j) g (by rwa[<-eV]) Z).leaves⟩
theorem aqJ{J:Jd}{T:gW}{l:fx}(u:l.w=W)(v:l.d=0)(m:¬l.q)(n:∀b,¬l.I b)(r:∀a,¬l.r a)(o:∀a,¬l.N a)(y:∀a,¬l.K a)(z:∀b,l.O b->b<W.heap.size)(B:g.status=.running)(C:mG P Í J T l g):tS P (λ_=>False) 0 J T (λ_=>0) (λ_=>l) #[g] W #[]:=by
 have f:∀(p:Nat) a,touchAt #[] p=Â a->False:=λp a h=>by unfold touchAt Trace.act? at h;simp at h
 refine⟨fD,⟨⟨λi j s D E=> ?_,λi j s D E=> ?_,λi _ b _=>n b,λi _ a _=>o a,λ_ _ _ _=>id,λi _ a e=>e.elim (λq=>absurd q<|r a) λq=>absurd q<|o a,λi _ b F=>F.elim (z b) λq=>absurd q<|n b,λ_ h=>h.elim,λi _=>by rw[u];exact gd.gy _ _,λi _=>⟨λa e p x k=>(f p x k).elim,λa e=>(n _ e).elim,λa e=>(r a e).elim,λa e=>(o a e).elim⟩,λi _=>by rw[v];rfl,λH q=> ?_,λI G=>by simp at G,λp a c h=>(f p a h).elim,λi _ a e=>absurd e<|y a⟩,λi x k=> ?_,λj _=>U⟩,λi L s=> ?_,m,λp a h=>(f p a h).elim,λp a x h=>(f p a h).elim,λa _ q m=> ?_,?_⟩;grind;grind;let⟨i,j,_,⟨a,b,e,_⟩,_⟩:=q;simp[Trace.act?]at e;have t:i<1:=(fp.1 k).1;obtain rfl:i=0:=Z
 obtain rfl:g=x:=fN k;exact⟨g,C,.gS,É B,É U⟩;grind;simp[Trace.act?]at m;intro i g t;simp[Trace.g?]at t
end
end fO
namespace jg
open Conc RowKit Lift gO fO me
open Go.ConcN (sumTo)
def BS(f:Î->Ë->Prop)(c:Array ċ)(w:Ë)(d:Option (Nat×Nat))(t:Ε):Prop:=
 ∃N a v b e,ν À (N+1) (ĭ c w d) t=(.ended (.done v) b,e)/\runN À N (ĭ c w d)=.next a/\step À a=.ended (.done v) b/\ar À f a (.done v) b e
section
variable{Post:Î->Ë->Prop}{e:Array ċ}{w':Ë}{sl:Option (Nat×Nat)}{t:Ε}{l:fx}
def BS.fG(h:BS Post E w sl t)(a:∀v u,Post v u->vQ v u):BS vQ E w sl t:=by let⟨M,b,v,x,c,d,e,f,g⟩:=h;exact⟨M,b,v,x,c,d,e,f,g.mono λv q=>a v x q⟩
def BS.oc{N:Nat}(r:ν À N (ĭ E w sl) t=(.next<|ĭ e w' kJ,qJ))(h:BS Post e w' kJ qJ):BS Post E w sl t:=by let⟨M,a,v,x,b,c,d,f,g⟩:=h;refine⟨N+M,a,v,x,b,?_,?_,f,g⟩;rwa[c8,runNT_add,r];rw[<-Ű À (N+M) (ĭ E w sl) t,runNT_add,r];rwa[Ű]
def uh(Post:Î->Ë->Prop)(E:Array ċ)(w:Ë)(sl:Option (Nat×Nat))(t:Ε):Prop:=BS (λv u=>Post v u/\u.os=w.os/\u.output=w.output) E w sl t
def uh.r{N:Nat}(r:ν À N (ĭ E w sl) t=(.next<|ĭ e w' kJ,qJ))(a:w'.os=w.os/\w'.output=w.output)(h:uh Post e w' kJ qJ):uh Post E w sl t:=BS.oc r<|h.fG λ_ _ q=>⟨q.1,q.2.1.trans a.1,q.2.2.trans a.2⟩
def lT.aqK{Y:Nat->Prop}:∀(s:Nat)(f:Nat->Nat)(h:Nat->fx)(E:Array ċ)(w:Ë)(sl:Option (Nat×Nat))(t:Ε),sumTo E.size f=s->lT À Y zX n (Uy À Post) .fS f h E w t->uh Post E w sl t:=by
 intro s
 induction s using Nat.strongRecOn with
 |_ s q=>
  intro f h E w sl t G c;have I:=c.C;obtain⟨g0,a⟩:∃g,E[0]?=Â g:=⟨_,fj Z⟩;have m:∀d,Uy À Post {h 0 with w:=w.at d} g0:=λd=>by
   let⟨u,b,j,_,_⟩:=(c.at d).r.C 0 g0 a;obtain rfl:g0=u:=by cases j;rfl
   exact b (w.at d)<|(c.at d).r.r.r 0 Z
  obtain⟨i,g,d,kJ,k,r,l⟩:=crowd_pick c.G ⟨0,g0,a,(m 0).1⟩;by_cases o:i=0;subst o;rw[a]at k;obtain rfl:=dh k;let⟨_,v,p,x⟩:=m d;have u:stepT À (ĭ E w sl)=(.ended (.done v)<|w.at d,#[]):=by rw[l,ConcN.runT_crowd_ended a<|p<|w.at d];rfl
  refine⟨0,ĭ E w sl,v,w.at d,t,?_,U,?_,c.oM ⟨x,U,U⟩⟩;simp[ν,u];have:=stepT_fst À (ĭ E w sl) Í;rw[<-this];rw[u];let⟨p,x,e,u,b,j,J,K,y⟩:=(c.at d).Z6 (sl:=kJ) k o r;let⟨N,z,v,w',qJ,B,C,D,F⟩:=q (sumTo e.size p) (by rw[j];omega) p x e (w.at d) kJ (t++u) U y;refine⟨N+1,z,v,w',qJ,by simp only[ν,l,b];exact B,?_,D,F⟩;have:=Ű À (N+1) (ĭ E w sl) t;rw[<-this];simp only[ν,l,b];rwa[Ű]
structure iw(l:fx):Prop where
 r:gT l
 d:l.d=0
 q:¬l.q
 rd:∀b,¬l.I b
 I:∀a,¬l.r a
 M:∀a,¬l.N a
 k:∀a,¬l.K a
def iw.C(h:iw l)(r:gd l l.w u):iw {l with w:=u}:=⟨⟨h.r.c,h.r.Y,h.r.S,λb q=>ff (h.r.fM b q) r.r,λa q=>q.elim (λz=>(h.I a z).elim) λz=>(h.M a z).elim,λa q=>(h.k a q).elim⟩,h.d,h.q,h.rd,h.I,h.M,h.k⟩
def jB(Post:Î->Ë->Prop)(l:fx)(g:ċ):Prop:=
 iw l->g.status=.running->∀(a:Loc->Prop)(H:Nat)(J:Jd)(c:Nat->Nat)(b:Nat->fx)(E:Array ċ)(sl:Option (Nat×Nat)) (t:Ε),xS a H l->fO.tS À a H J .fS c b E l.w t->(b 0).d=0->E[0]?=Â g->uh Post E l.w sl t
def aqL{a:fx}(h:xS zX i l)(k:sS l a l.w a.w):xS zX i a:=⟨h.r,λb c x d q=>by obtain z|z:=k.N b c;exact h.fE b z x d q;have:=h.r x q;have:=h.C;omega,Ï h.C k.r⟩
def Uz{J f:Jd}{e:Nat->fx}(a:iw l)(h:g.status=.running)(j:xS zX i l)(c:fO.tS À zX i J .fS D e E l.w t)(m:(e 0).d=0)(n:E[0]?=Â g)(W:fO.fF À Í f l g):∃T,fO.tS À zX i f T D (fO.xp e l) E l.w t:=by let⟨T,o⟩:=j1 W;exact⟨T,lT.Y c m n h U a.d a.q a.rd a.I a.M a.k (λb q=>⟨a.r.fM b<|É q,j.fE b q⟩) o⟩
def abF{Y:Nat->Prop}{J:Jd}{a:Nat->fx}(c:lT À Y zX i J .fS D a E w t):∃g,E[0]?=Â g/\J {a 0 with w:=w} g:=by
 obtain⟨g0,b⟩:∃g,E[0]?=Â g:=⟨_,fj c.C⟩;let⟨d,e,f,_,_⟩:=c.r.C 0 g0 b;obtain rfl:g0=d:=by cases f;rfl
 exact⟨g0,b,e w<|c.r.r.r 0 c.C⟩
def ND(Post:Î->Ë->Prop):Jd:=λl g=>iw l/\g.status=.running/\jB Post l g
def aqM{b:Nat->fx}{T:gW}(j:(b 0).w=w)(m:xS zX i (b 0))(c:fO.tS À zX i (ND Post) T D b E w t):uh Post E w sl t:=by let⟨N,n,o,e,w',kJ,qJ,r,_,a,f⟩:=lT.K (λl g h=>É h.2.1) T _ D b E w sl t U c;let⟨u,p,h,q,s⟩:=abF f;refine uh.r r ⟨a.C,a.I⟩<|s h q zX i (ND Post) n o e kJ qJ ?_ f h.d p;apply aqL m;rw[j];exact⟨a.r,a.N,a.rd,a.S,a.b,a.k,a.lB,a.M,a.Y,a.C,a.I,a.c⟩
def vn(W:fO.fF À Í (ND Post) l g):jB Post l g:=by intro b d i H J j k E sl t a c e f;let⟨T,h⟩:=Uz b d a c e f W;exact aqM (by rw[fO.SI]) (by rwa[fO.SI]) h
def aqN(W:fO.fF À Í (Uy À Post) l g):jB Post l g:=by intro b d q H J f s E sl t i c j k;let⟨T,m⟩:=Uz b d i c j k W;let⟨N,n,o,e,w',kJ,qJ,r,_,a,p⟩:=lT.K (λl g h=>É h.1) T _ f _ E l.w sl t U m;exact uh.r r ⟨a.C,a.I⟩<|lT.aqK _ n o e w' kJ qJ U p
def zM.N{e:yf}{R:Nat}{kd:Nat->Int}{f:List gf}{c:fx}(h:zM X e R kd f l i v c)(r:gd c c.w u):zM X e R kd f l i v {c with w:=u}:=by have a:=λb q=>r.I b<|É q;let⟨V,j,g⟩:=h.S;exact⟨λb q=>⟨(h.M b q).1,(a b (h.M b q).1).trans (h.M b q).2⟩,⟨h.r.1,λp k=>(iE<|a i h.r.1).trans<|h.r.2 p k⟩,⟨V,j.r λb q=>a b (g b q).1,g⟩,h.d,h.q,h.rd,h.C,(iE<|a i h.r.1).trans h.I.1,(yH<|a i h.r.1).trans h.I.2⟩
def aqO{kd:Nat->Int}{rq:Nat->Nat}{V:yf}{Y h:Nat->Prop}{s0:List gf}{B:Option ø}{D:Option ø}{R:Nat}{z:Array Ŗ}(Fu:0<R->D=Â ⟨j7,0,Ã⟩)(Bg:0<R->l.M j7)(Sz:∀i,i<R->l.w.cell? ⟨j7,i,Ã⟩=Â (Ä<|Â ⟨rq i,0,Ã⟩))(SA:∀i,i<R->l.w.cell? ⟨rq i,4,Ã⟩=Â (Ç Ê<|kd i))(F:Jz l V kd rq R X)(hZ:(∀b,X b->h b)/\∀b,b=1\/b=2\/b=3\/b=4->h b)(hZO:∀b,h b->l.O b)(hVZ:∀b,Y b->h b)(Dq:RD s0 (Æ B j j9) Y l.w)(hn:1<=n)(hs:n+R<1000)(hJ:∀o v p m c,iw o->zM h V R kd s0 l v (Æ p m c) o->jB Post o (G (f.at (y.put ((z[i]?).bind (·.dst))<|Ý #[Æ (Â ⟨v,0,Ã⟩) R R,Æ p m c])<|Õ z jJ::L) qX)): jB Post l (Ft (Æ B j j9) (Æ D R j6) n<|f.at y (Õ z (i::jJ)::L)::qX):=by
 intro s hr j2 H J lv lot E sl t Ns c hd I;have W:fO.fF À Í (Mx kd rq R n (Æ B j j9) l<|f.at y (Õ z (i::jJ)::L)::qX) l (Ft (Æ B j j9) (Æ D R j6) n<|f.at y (Õ z (i::jJ)::L)::qX):=akf s.r s.q s.d Z Fu Bg Sz (λi I=>É<|F.fE _<|F.r i I) SA λg K o u x C v P S T bw bf v1 h1 h2=>⟨g,K,u,x,C,v,P,S,T,bw,bf,v1,h1,h2,U⟩;let⟨T,c'⟩:=Uz s hr Ns c hd I W;let⟨N,pT,IY,e,w',kJ,qJ,r,_,x,c''⟩:=lT.K (λlx gx K=>by obtain⟨_,_,_,_,_,_,_,_,_,_,_,_,_,_,rfl⟩:=K;exact É U) T _ lv _ E l.w sl t U c';apply uh.r r ⟨x.C,x.I⟩;let⟨N2,aqP,P,T2,My,SO,gs2,w2,Mz,t2,r2,io2,c2⟩:=ao9 (J:=λu P o C=>xS u P o/\ND Post o C) U c'' kJ s.r s.rd s.q s.d Ns F hZ hZO hVZ Dq ⟨x.C,x.I⟩ hn hs λFC H' o v p m c S z2 u=> .fS λw₁ C=>by have lL:iw o:=⟨z2,u.d,u.q,u.rd,u.C.1,u.C.2.1,u.C.2.2⟩;exact⟨⟨S.r,S.fE,Ï S.C C.r⟩,lL.C C,U,hJ _ v p m c (lL.C C)<|u.N C⟩
 apply uh.r r2 ⟨io2.1.trans x.C.symm,io2.2.trans x.I.symm⟩;let⟨N3,Tt,aqQ,gs3,w3,sl3,t3,r3,_,wn3,c3⟩:=lT.K (λlx gx K=>É K.2.2.1) T2 _ My SO gs2 w2 Mz t2 U c2;apply uh.r r3 ⟨wn3.C,wn3.I⟩;let⟨g3,UA,rS,K,hr3,D4⟩:=abF c3;exact D4 K hr3 aqP P _ Tt aqQ gs3 sl3 t3 rS c3 K.d UA
end
open Conc.Lib ConcR.Gen YtgpphkdoanciiabGreatDoor
def toTx(t:PT):Tx:=⟨(t.c.getD 0 0).toNat,(t.c.getD 1 0).toNat,t.c.getD 2 0,t.c.getD 3 0,t.c.getD 4 0,t.p⟩
def toQn(r:PR):Qn:=⟨(r.c.getD 0 0).toNat,(r.c.getD 1 0).toNat,(r.c.getD 2 0).toNat,(r.c.getD 3 0).toNat,r.c.getD 4 0,r.c.getD 5 0,r.c.getD 6 0,(r.c.getD 7 0).toNat⟩
def rI:PR:=⟨[],[]⟩
def wW(rs:List PR):yf where
 r:=λp=>((rs.getD p rI).c.getD 5 0,((rs.getD p rI).c.getD 0 0).toNat,(rs.getD p rI).r.map toTx)
 C:=λp=>toQn<|rs.getD p rI
def mD(rs:List PR)(p:Nat):Int:=(rs.getD p rI).c.getD 4 0
section
variable{p:PR}{t:PT}{a:Nat}{rs:List PR}{l:fx}
def toTx_ok(h:mW t):(toTx t).Ok:=by have d:=h.c.r 0 A;have e:=h.c.r 1 A;have a:=h.c.r 2 A;have b:=h.c.r 3 A;simp only[mC]at d e a b;exact⟨by show(t.c.getD 0 0).toNat<8;omega,by show(t.c.getD 1 0).toNat<8;omega,a.1,a.2,b.1,b.2,h.p⟩
theorem BU(a:0<=c)(h:w.cell? ⟨b,i,Ã⟩=Â (Ç Ê c)):w.cell? ⟨b,i,Ã⟩=Â (Ç Ê (c.toNat:Nat)):=by grind
theorem aqR(h:mW t)(k:JH a t w):sr a (toTx t) w:=by have b:=h.c.r 0 A;have d:=h.c.r 1 A;simp only[mC]at b d;exact⟨k.r,BU b.1<|k.c 0 A,BU d.1<|k.c 1 A,k.c 2 A,k.c 3 A,k.c 4 A,k.p⟩
theorem aqS(h:sC p)(k:zR i p w):DW i (p.c.getD 5 0) (p.c.getD 0 0).toNat (p.r.map toTx) w:=by
 have e:=h.c.r 0 A;simp only[mC]at e;let⟨f,n,cp,g,l,m⟩:=k.b;let⟨o,r,s⟩:=yy (R:=λj t (y:Nat×Tx)=>y.2=toTx t/\∃d,f=Â ⟨d,0,Ã⟩/\w.cell? ⟨d,j,Ã⟩=Â (Ä<|Â ⟨y.1,0,Ã⟩)/\JH y.1 t w) p.r 0 λj t u=>by let⟨d,a,y,q,v⟩:=m j t u;simp_all
 refine⟨f,n,cp,o,⟨BU e.1<|k.c 0 A,k.c 5 A,g⟩,⟨by rw[l,r],λj a t q=> ?_⟩,?_,by have:=h.n;omega⟩;let⟨x,v,y,d,D,z,B⟩:=s j (a,t) q;simp only at y z B;subst y;have C:=h.C x<|eU v;have E:=toTx_ok C;grind [aqR];refine dP λj=> ?_;unfold ov;grind
def aqT(h:sC p)(k:zR i p w):Jy i (toQn p) w:=by have a:=h.c.r 0 A;have b:=h.c.r 1 A;have d:=h.c.r 2 A;have e:=h.c.r 3 A;have f:=h.c.r 7 A;simp only[mC]at a b d e f;exact⟨BU a.1<|k.c 0 A,BU b.1<|k.c 1 A,BU d.1<|k.c 2 A,BU e.1<|k.c 3 A,k.c 4 A,k.c 5 A,k.c 6 A,BU f.1<|k.c 7 A⟩
def abG(h:sC p)(k:p.c.getD 4 0≠1):(toQn p).Ok:=by have d:=h.c.r 0 A;have e:=h.c.r 1 A;have f:=h.c.r 2 A;have g:=h.c.r 3 A;have i:=h.c.r 4 A;have a:=h.c.r 5 A;have b:=h.c.r 6 A;have j:=h.c.r 7 A;simp only[mC]at d e f g i a b j;refine⟨?_,?_,?_,?_,?_,?_,a.1,b.1,?_⟩;show(p.c.getD 0 0).toNat<8;omega;show(p.c.getD 1 0).toNat<8;omega;show(p.c.getD 2 0).toNat<1000000;omega;show(p.c.getD 3 0).toNat<18446744073709551616;omega;show 2<=p.c.getD 4 0;omega;show p.c.getD 4 0<=9;omega;show(p.c.getD 7 0).toNat<16;omega
theorem aqU(h:RQ rs v X l.w)(k:∀i∈rs,sC i)(B:oy l.w)(C:∀b,b=1\/b=2\/b=3\/b=4->l.O b)(m:∀b,X b->l.O b): ∃d e f g,v=Æ d rs.length e/\(0<rs.length->d=Â ⟨f,0,Ã⟩)/\(0<rs.length->l.O f)/\(∀a,a<rs.length->l.w.cell? ⟨f,a,Ã⟩=Â (Ä<|Â ⟨g a,0,Ã⟩))/\(∀a,a<rs.length->l.w.cell? ⟨g a,4,Ã⟩=Â (Ç Ê<|mD rs a))/\Jz l (wW rs) (mD rs) g rs.length X:=by
 obtain⟨o,cp,rfl,D⟩:=h.M;have p:∀a,a<rs.length->rs[a]?=Â (rs.getD a rI):=λa d=>by simp[Ċ,d]
 have r:=λa d=>eU<|p a d;obtain⟨f,s⟩:∃f,∀a,a<rs.length->o=Â ⟨f,0,Ã⟩:=by by_cases e:0<rs.length;let⟨j,i,q,_⟩:=D 0 _<|p 0 e;exact⟨j,λ_ _=>q⟩;simp_all
 have E:∀a,∃i,a<rs.length->l.w.cell? ⟨f,a,Ã⟩=Â (Ä<|Â ⟨i,0,Ã⟩)/\zR i (rs.getD a rI) l.w:=λa=>by grind
 let⟨g,j⟩:=Classical.axiomOfChoice E;have u:=λe=>by have:=h.I;rw[s 0 e]at this;exact DV this
 refine⟨o,cp,f,g,U,λe=>s 0 e,λe=>m _<|u e,λa d=>(j a d).1,λa d=>(j a d).2.c 4 A,B,C,h.C,m,λa d=>(DU<|h.C.r (u Z) (j a d).1),λa d y=> ?_,λa d y=> ?_⟩;have q:=k _<|r a d;have e:=q.c.r 0 A;have z:=q.c.r 5 A;simp only[mC]at e z;refine⟨aqS q (j a d).2,?_,z.1,λt F=> ?_,?_⟩;show((rs.getD a rI).c.getD 0 0).toNat<8;omega;obtain⟨x,G,rfl⟩:=cI.1 F;exact toTx_ok<|q.C x G;show((rs.getD a rI).r.map toTx).length<=1000;rw[dw];have:=q.n;omega;have q:=k _<|r a d;exact⟨aqT q (j a d).2,abG q y⟩
end
theorem JJ:(∀r∈(iC B).2.2,sC r)/\(iC B).2.2.length<=24:=by unfold iC;split;grind;split;unfold ny;split;grind;have:=(JD B.size 0 vk (Ur B)<|eD _).1.d;exact⟨this.K,this.I⟩;grind
def kP(rs:List PR)(s:List gf):List ByteArray:=(é rs.length).map λp=>zL (wW rs) (mD rs) p<|rE (wW rs) (iP (mD rs) rs.length) s<|gw (mD rs) p
def zU(rs:List PR)(s:List gf):List gf:=rE (wW rs) (iP (mD rs) rs.length) s<|gw (mD rs) rs.length
def kF(s:List gf)(B:ByteArray):ByteArray×Int×List gf:=
 if(iC B).1=0 then(lG ⟨#[59]⟩<|kP (iC B).2.2 s,0,zU (iC B).2.2 s)else(⟨#[]⟩,(iC B).1,s)
section
variable{b:ĉ}{l:fx}{a:aC}
def abH{md:Region.Mode}(I:Array Bool->aC->fx->Prop)(o:∀c a l i k,I c a l->i∈ç md Q c->(∀f g,I (c.setIfInBounds i Í) f g->jB vQ g (G (b.at f<|Õ Q k::L) qX))->jB vQ l (G (b.at a<|Õ Q (i::k)::L) qX))(m:∀c a l,I c a l->c.size=Q.size->ç md Q c=[]->jB vQ l (G (b.at a<|Õ Q []::L) qX)): ∀(d t:Nat)(c:Array Bool)(a:aC)(l:fx),c.size=Q.size->kl c<=d->I c a l->jB vQ l (G (b.at a<|Õ Q (Ć md Q d t c [])::L) qX):=by
 intro d
 induction d with
 |zero=>
  intro t c a l e p h;simpa[Ć]using m c a l h e<|RX e Z|succ d q=>
  intro t c a l e p h;simp only[Ć];change jB vQ l (G (b.at a (Õ Q (match(ç md Q c)[t%(ç md Q c).length]? with|some i=>Ć md Q d (t/(ç md Q c).length) (c.setIfInBounds i Í) [i]|none=>[].reverse)::L)) qX)
  cases j:(ç md Q c)[t%(ç md Q c).length]? with
  |none=>
   have r:ç md Q c=[]:=by
    cases s:ç md Q c with
    |nil=>rfl|cons x n=>
     rw[s]at j;have u:t%(x::n).length<(x::n).length:=bl _ fD;simp at j;simp at u;omega
   simpa using m c a l h e r
  |some i=>
   simp only[];rw[linearise_go_acc,ez,eh];have n:=eU j;refine o c a l i _ h n λf g r=>(q _ _ f g (fN e) (by have:=LU (mem_ready.1 n).1;omega) r)
def aqV{id:Nat}(I:Array Bool->aC->fx->Prop)(e:iw l)(j:∀f,gd l l.w f->I (ę Q.size Ó) a {l with w:=f})(k:∀g c a l i m,I c a l->i∈ç g Q c->(∀n o,I (c.setIfInBounds i Í) n o->jB vQ o (G (b.at n<|Õ Q m::L) qX))->jB vQ l (G (b.at a<|Õ Q (i::m)::L) qX))(p:∀g c a l,I c a l->c.size=Q.size->ç g Q c=[]->jB vQ l (G (b.at a<|Õ Q []::L) qX)): jB vQ l (G (b.at a<|bx (.region id Q Í)::L) qX):=by refine vn (.mk U λf r=>⟨_,_,_,_,stepG_region_draw,RV (o5 e.r.r r) e.q,.fS λs d=> ?_⟩);have h:=r.fA ⟨d.r,d.I,d.N,d.Y,d.S⟩;refine⟨e.C h,U,?_⟩;unfold Region.schedule;split;exact abH I (k _) (p _) _ _ _ _ _ fD (by rw[E7];exact eE _)<|j s h;exact abH I (k _) (p _) _ _ _ _ _ fD (by rw[E7];exact eE _)<|j s h
def aqW{I:aC->fx->Prop}(W:fO.fF À Í (λa d=>∃c,d=G (b.at c<|Õ Q jJ::L) qX/\I c a) l g)(f:∀c a,I c a->iw a)(i:∀c a,I c a->jB vQ a (G (b.at c<|Õ Q jJ::L) qX)):jB vQ l g:=vn (W.fG λa d h=>by obtain⟨c,rfl,e⟩:=h;exact⟨f c a e,U,i c a e⟩)
def D5{f:FuncId}{fn:Func}(xs:List Value)(n:Nat)(hf:Tryz.prog.funcs[f]?=some fn)(hb:fn.body=some (mr fn []):=by kernel_rfl)(hn:fn.ntmps=xs.length+n:=by kernel_rfl):Frame.enter Tryz.prog f xs.toArray .normal=(base f).at ⟨(xs++List.replicate n undef).toArray,[]⟩ [.code<|mr fn []]:=by rw[enter_at _ hf hb,hn,eN,dD,show xs.toArray++ę n bA=(xs++è n bA).toArray from Ξ fD]
def JK{J:Jd}{f:Ų}{args:Array Î}(d:Q[i]?=Â o)(e:Ē o (ag Q a.tmps)=Í)(g:b.kind≠bK)(h:kC l)(j:∀w,(Ġ a.eval o).run À w=bq (.enter f args) w)(k:∀w,(Ġ a.eval o).events À w #[]=#[])(m:∀c,gd l l.w c->fO.fF À Í J {l with w:=c} (G (â À f args ù)<|b.at a (Õ Q (i::jJ)::L)::qX)): fO.fF À Í J l (G (b.at a<|Õ Q (i::jJ)::L) qX):=by refine .mk U λc r=>⟨G (â À f args ù)<|b.at a (Õ Q (i::jJ)::L)::qX,c,#[],{l with w:=c},?_,LI c<|o5 h r,m c r⟩;rw[stepG_enter d e g<|j c];rw[Go.Conc.listed,k c,seen_none]
def abI{f:Ų}{args:Array Î}(e:iw l)(j:Q[i]?=Â o)(k:Ē o (ag Q a.tmps)=Í)(m:b.kind≠bK)(n:∀w,(Ġ a.eval o).run À w=bq (.enter f args) w)(p:∀w,(Ġ a.eval o).events À w #[]=#[])(q:∀d,gd l l.w d->jB vQ {l with w:=d} (G (â À f args ù)<|b.at a (Õ Q (i::jJ)::L)::qX)): jB vQ l (G (b.at a<|Õ Q (i::jJ)::L) qX):=vn (JK j k m e.r.r n p λd r=> .fS λg c=>by have h:gd l l.w g:=r.fA ⟨c.r,c.I,c.N,c.Y,c.S⟩;exact⟨e.C h,U,q g h⟩)
def iX.xT{c:fx}(e:iw l)(h:iX l c)(k:c.d=l.d):iw c:=by
 have g:∀b,¬c.I b:=by rw[h.N];exact e.rd
 have f:∀a,¬c.r a:=by rw[h.S];exact e.I
 have i:∀a,¬c.N a:=by rw[h.Y];exact e.M
 have j:∀a,¬c.K a:=by rw[h.K];exact e.k
 exact⟨⟨λb _=>g b,λa q=>(f a q).elim,λa q=>q.elim (λz=>(f a z).elim) λz=>(i a z).elim,λb q=>q.elim (λz=>h.fM b z) λz=>(g b z).elim,λa q=>q.elim (λz=>(f a z).elim) λz=>(i a z).elim,λa q=>(j a q).elim⟩,k.trans e.d,by rw[h.q];exact e.q,g,f,i,j⟩
end
noncomputable def UB:Array Ŗ:=Ff<|mr aQ [1,1,1,0]
noncomputable def UC:Code:=mr aQ [1,1,1,1]
structure oN(l:fx)(ab n:Nat)(s:List gf)(sl:Î)(V:Nat->Prop):Prop where
 r:oy l.w
 C:∀b,b=1\/b=2\/b=3\/b=4->l.O b
 S:Ge ab n sl l.w
 fE:l.O ab
 rd:RD s sl V l.w
 I:∀b,V b->l.O b
 d:¬V ab
 a:1<=n
 c:n<=8
 N:¬(ab=1\/ab=2\/ab=3\/ab=4)
structure NG(l l':fx)(ab n:Nat)(s':List gf)(V:Nat->Prop):Prop where
 FA:∀b,l.O b->b≠ab->l'.O b/\l'.w.heap[b]?=l.w.heap[b]?
 att:∃uS V',oN l' ab n s' uS V'/\∀b,V' b->V b\/(b=1\/b=2\/b=3\/b=4)\/l.w.heap.size<=b
section
variable{l g:fx}{ab:Nat}{s:List gf}{sl:Î}{V:Nat->Prop}
def oN.M{a:fx}(h:oN l ab n s sl V)(c:∀b,l.O b->a.O b)(d:∀b,l.O b->a.w.heap[b]?=l.w.heap[b]?)(e:l.w.heap.size<=a.w.heap.size):oN a ab n s sl V:=⟨h.r.r (Ï h.r.fM e) λb q=>d b<|h.C b q,λb q=>c b<|h.C b q,h.S.r<|d ab h.fE,c ab h.fE,h.rd.r λb q=>d b<|h.I b q,λb q=>c b<|h.I b q,h.d,h.a,h.c,h.N⟩
end
section
variable{g:fx}{b:ĉ}{X:Type}
def OpS(g:fx)(Q:Array Ŗ)(T b:Array Î)(x:X)(V:X->Î)(c:Nat)(D L:List Nat)(f:Ų)(args:Array Î)(i:Nat)(o:Ŗ):Prop:=
 o.guard=Ã/\((i∈L/\jT Q T i=jT Q b i\/i∈D)/\i≠c/\(∀l,(i∈L->iz fB g l)->∀a,gd l l.w a->(Ġ (Act.eval ⟨T,[]⟩) o).run À a=bq (.value<|jT Q T i) a/\∀e∈(Ġ (Act.eval ⟨T,[]⟩) o).events À a #[],r8 l e)\/
  i=c/\jT Q T i=V x/\(∀w,(Ġ (Act.eval ⟨T,[]⟩) o).run À w=bq (.enter f args) w)/\∀w,(Ġ (Act.eval ⟨T,[]⟩) o).events À w #[]=#[])
theorem aqX{id:Nat}(p:X->List Î)(V:X->Î)(c:Nat)(D k:List Nat)(f:Ų)(args:Array Î)(z:X->fx->Prop)(F:X)(P:iw g)(hk:b.kind≠bK)(H:tO Q d.size=Í)(hd:Fc Q=Í)(hD:Ih Q [c] D=Í)(hL:Ii Q [c] k=Í)(hc:c<Q.size)(ho:∀J,∃k,C6 J Q k []=Í/\(é Q.size).all (k.contains ·)=Í)(hQ:∀x l,z x l->∀s,gd l l.w s->z x {l with w:=s})(oF:∀x T T0,T=lj Q.toList (p x) d->T0=lj Q.toList (p F) d->C9 (OpS g Q T T0 x V c D k f args) 0 Q.toList)(Ij:∀l a K,iw l->iz fB g l->(∀t x,iw t->z x t->jB vQ t (G (b.at (a.put ((Q[c]?).bind (·.dst))<|V x)<|Õ Q K::L) qX))->jB vQ l (G (â À f args ù)<|b.at a (Õ Q (c::K)::L)::qX))(M:∀l x,iw l->z x l->jB vQ l (G (b.at ⟨lj Q.toList (p x) d,[]⟩<|Õ Q []::L) qX)):jB vQ g (G (b.at ⟨d,[]⟩<|bx (.region id Q Í)::L) qX):=by
 have S:∀{i o},Q[i]?=Â o->∀x,OpS g Q (lj Q.toList (p x) d) (lj Q.toList (p F) d) x V c D k f args i o:=λ{i o} h x=>by have:=Fe _ _ _ _ (oF x _ _ U U) (show Q.toList[i]?=Â o by rwa[eV]);rwa[dQ]at this
 refine aqV (λn a l=>n.size=Q.size/\∃x,lD Q d (jT Q<|lj Q.toList (p x) d) n a/\iw l/\(¬n.getD c Ó=Í->iz fB g l)/\(n.getD c Ó=Í->z x l)) P (λs r=>⟨fD,F,lD.M _ _ _,P.C r,λ_=>(iz.gy P.r.r).G r,λq=> ?_⟩) (λJ n a l i K W B M=> ?_) λJ n a l W Y hr=> ?_;simp[fq,fc]at q;split at q<;>cases q;let⟨Y,x,u,y,h1,h2⟩:=W;have uK:(n.setIfInBounds i Í).size=Q.size:=fN Y
 obtain⟨o,v⟩:∃o,Q[i]?=Â o:=⟨_,fj<|AZ B⟩;let⟨N,_⟩:=u.N (oI _ _ _).2 (oI _ _ _).1 H hd B v;have C:=R0 (mem_ready.1 B).1;obtain⟨hg,⟨_,hic,O⟩|⟨rfl,_,O,h4⟩⟩:=S v x;have j:i∈k->iz fB g l:=λhiL=>h1 λq=>C (u.G k [c] hL (λm hm o e E z2 z3=>by rw[eY.1 hm]at E;exact u.C c o e E q z2 z3) i hiL);refine aqW (I:=λE t=>(n.setIfInBounds i Í).size=Q.size/\∃x,lD Q d (jT Q<|lj Q.toList (p x) d) (n.setIfInBounds i Í) E/\iw t/\(¬(n.setIfInBounds i Í).getD c Ó=Í->iz fB g t)/\((n.setIfInBounds i Í).getD c Ó=Í->z x t)) (AW v (A1 hg _) hk y.r.r y.q (λs r=>by rw[N];exact(O l j s r).1) (λs r=>by rw[N];exact(O l j s r).2)<|.fS λs r=>⟨_,U,uK,x,u.fR H v B λ_=>U,y.C r,λq=> ?_,λq=> ?_⟩) (λ_ _ ⟨_,_,_,q,_⟩=>q) M;rw[aR Ó hic]at q;exact(h1 q).G r;rw[aR Ó hic]at q;exact hQ x l (h2 q) s r;have late:=u.R4 C D [i] hD (λj m=>by rwa[eY.1 m]);refine abI (f:=f) (args:=args) y v (A1 hg _) hk (λw=>by rw[N];exact O w) (λw=>by rw[N];exact h4 w) λs r=>Ij _ a K (y.C r) ((h1 C).G r) λt E lL xG=> ?_;have hv:jT Q (lj Q.toList (p E) d) i=V E:=by obtain⟨_,⟨_,h,_⟩|⟨_,h,_⟩⟩:=S v E;exact absurd U h;exact h
 rw[<-hv,show(Q[i]?).bind (·.dst)=o.dst by rw[v];rfl];refine M _ t ⟨uK,E,(u.K λj m=> ?_).fR H v B λ_=>U,lL,λq=> ?_,λ_=>xG⟩;obtain⟨oj,hoj⟩:∃o,Q[j]?=Â o:=⟨_,fj<|by grind⟩;have e:=λx=>(S hoj x).2;have e:∀x,jT Q (lj Q.toList (p x) d) j=jT Q (lj Q.toList (p F) d) j:=λx=>by obtain⟨⟨_,h⟩|h,_⟩|⟨h,_⟩:=e x;exact h;exact absurd m<|late j h;exact absurd (h▸m) C
 rw[e x,e E];simp[show i<n.size by have:=AZ B;omega]at q;let⟨_,x,u,y,_,h2⟩:=W;let⟨k,e,r⟩:=ho J;have E:∀j∈é Q.size,n.getD j Ó=Í:=λj m=>C7 hr Y k [] e (λ_ q=>by cases q) j (by simpa using eI.1 r j m);obtain rfl:=u.H (oI _ _ _).2 (oI _ _ _).1 H E;exact M l x y<|h2<|E c<|dZ.2 hc
end
def aqY(x y:Î)(n:Nat)(a:List ĉ):G (â À 20 #[x,y,Ç Ê n] ù) a=Ft x y n a:=by rw[Ft,enter_at #[x,y,Ç Ê n] aS (c:=mr Tryz.f20 []) fK];kernel_rfl
section
variable{l f:fx}{s:List gf}{V:Nat->Prop}{d:List PR}
def TdA(f:fx)(V:Nat->Prop)(d:List PR)(s:List gf)(x:Value×Value)(l:fx):Prop:=∃a e p m c,iz fB f a/\x=(Æ (Â ⟨e,0,Ã⟩) d.length d.length,Æ p m c)/\zM (λb=>V b\/b=1\/b=2\/b=3\/b=4) (wW d) d.length (mD d) s a e (Æ p m c) l
theorem aqZ{E:ĉ}(z:oN f i n s x V)(I:RQ d v X f.w)(F:∀b,X b->f.O b)(J:∀r∈d,sC r)(Y:d.length<=24)(o:iz fB f l)(K:∀t g,iw t->TdA f (λb=>V b\/X b) d s g t->jB vQ t (G (E.at (y.put ((Q[j]?).bind (·.dst))<|Ý #[g.1,g.2])<|Õ Q jJ::L) qX)): jB vQ l (G (â À 20 #[x,v,Ç Ê n] ù)<|E.at y (Õ Q (j::jJ)::L)::qX):=by
 have u:=z.M (λb q=>o.O b q) (λb q=>o.r b (É q) id) o.I;have H:=λb q=>o.O b<|F b q;obtain⟨ra,cr,rb,rq,rfl,M,N,P,S,T⟩:=aqU (I.r λb q=>o.r b (É<|F b q) id) J u.r u.C H;obtain⟨B,C,D,rfl⟩:∃B C D,x=Æ B C D:=by let⟨_,_,_,⟨B,C,D,e,_⟩,_⟩:=z.rd;grind
 rw[aqY];exact aqO M (λh=>É<|N h) P S T ⟨λb q=>É<|Ì q,λb q=>Ì q⟩ (λb q=>q.elim (λq=>q.elim (u.I b)<|H b)<|u.C b) (λb q=>É<|É q) u.rd z.a (by have:=z.c;omega) λt e p m c h W=>K t (_,_) h ⟨l,e,p,m,c,o,U,W⟩
end
section
variable{l o l4:fx}{ab:Nat}{s:List gf}{sl:Î}{V:Nat->Prop}{rs:List PR}
structure abJ(l l4:fx)(ab n:Nat)(s:List gf)(sl:Î)(V:Nat->Prop)(rs:List PR)(an:Nat)(uS:Î):Prop where
 r:∀b,l.O b->l4.O b/\l4.w.heap[b]?=l.w.heap[b]?
 fM:nB<=l4.w.heap.size
 C:l4.O an/\wV an (kP rs s) l4.w/\mo l4.w an=Â (0,0)
 IW:∃V',RD (zU rs s) uS V' l4.w/\(∀b,V' b->l4.O b)/\¬V' ab/\∀b,V' b->V b\/(b=1\/b=2\/b=3\/b=4)\/l.w.heap.size<=b
def aq0{kd:Nat->Int}(h:∀p,p<rs.length->w.cell? ⟨i,p,Ã⟩=Â (Å<|zL (wW rs) (mD rs) p<|rE (wW rs) (iP (mD rs) rs.length) s<|gw (mD rs) p))(d:w.cell? ⟨i,rs.length,Ã⟩=Ã):wV i (kP rs s) w:=by refine⟨λp x a=> ?_,by unfold kP;simpa using d⟩;rw[kP,dN]at a;obtain⟨q,e,rfl⟩:=Ø.1 a;let⟨b,c⟩:=eP.1 e;simp at b c;subst c;exact h p b
def NH:(kP rs s).length=rs.length:=by simp[kP]
def aq1:nB<=5:=by show À.globals.size<=5;decide+kernel
def aq2{f:fx}{p:Option ø}(d:oN l ab n s sl V)(t:gT l)(u:∀b,X b->l.w.heap.size<=b)(v:∀b,l.O b->o.O b/\o.w.heap[b]?=l.w.heap[b]?)(x:l.w.heap.size<=o.w.heap.size)(y:gT l4)(e:iz fB o f)(a:zM (λb=>(V b\/X b)\/b=1\/b=2\/b=3\/b=4) (wW rs) rs.length (mD rs) s f i (Æ p m j) l4):abJ l l4 ab n s sl V rs i (Æ p m j):=by
 have g:∀b,l.O b->l4.O b/\l4.w.heap[b]?=l.w.heap[b]?:=λb q=>by let⟨z,h⟩:=v b q;let⟨k,r⟩:=a.M b<|e.O b z;exact⟨k,r.trans<|(e.r b (É z) id).trans h⟩
 refine⟨g,?_,⟨a.r.1,aq0 (kd:=mD rs) a.r.2 a.I.1,a.I.2⟩,?_⟩;have:=y.fM 4<|É (g 4<|d.C 4 A).1;have:=aq1;omega;let⟨h,B,k⟩:=a.S;have r:∀b,h b->V b\/(b=1\/b=2\/b=3\/b=4)\/l.w.heap.size<=b:=λb q=>by rcases(k b q).2 with((z|z)|z)|z;exact É z;exact Ì<|Ì<|u b z;exact Ì<|É z;exact Ì<|Ì<|Ï (Ï x e.I) z
 refine⟨h,B,λb q=>(k b q).1,λq=> ?_,r⟩;obtain z|z|z:=r ab q;exact d.d z;exact d.N z;have:=t.fM ab<|É d.fE;omega
def aq3{f:fx}{p:Option ø}(d:oN l ab n s sl V)(h:abJ l l4 ab n s sl V rs i (Æ p m j))(E:gT l4)(g:∀b,l4.O b->f.O b)(r:∀b,l4.O b->f.w.heap[b]?=(l4.w.setCell ⟨ab,1,Ã⟩<|Æ p m j).heap[b]?)(v:l4.w.heap.size<=f.w.heap.size):NG l f ab n (zU rs s) V:=by let⟨x,y,t,u,z⟩:=h.IW;have k:∀b,l4.O b->b≠ab->f.w.heap[b]?=l4.w.heap[b]?:=λb q e=>(r b q).trans<|oV (a:=⟨ab,1,Ã⟩) e;have o:=h.r ab d.fE;refine⟨λb q e=>⟨g b (h.r b q).1,(k b (h.r b q).1 e).trans (h.r b q).2⟩,Æ p m j,x,⟨?_,λb q=>g b (h.r b<|d.C b q).1,?_,g ab o.1,y.r λb q=>k b (t b q) λe=>u<|e▸q,λb q=>g b<|t b q,u,d.a,d.c,d.N⟩,z⟩;exact d.r.r (Ï h.fM v) λb q=>(k b (h.r b<|d.C b q).1 λe=>d.N<|e▸q).trans (h.r b<|d.C b q).2;let⟨B,C,D⟩:=d.S;refine⟨B,?_,D⟩;rw[r ab o.1];simp[ζ,fh,o.2,C]
def aq4{J:Jd}(b:kC l)(d:fO.fF À Í J l (G (f.at (y.put ((Q[i]?).bind (·.dst))<|Å ⟨#[]⟩)<|Õ Q jJ::L) qX)): fO.fF À Í J l (G (â À 21 #[Æ O 0 n,Å B] ù)<|f.at y (Õ Q (i::jJ)::L)::qX):=by
 have hF:True:=trivial;rw[D5 [_,_] 73 ĕ];simp only[è,ck,ec];conv in mr _ _=>whnf
 apply gY b;repeat w_go fW
 u_in fW hF
 refine aT (t:=4) U U ĕ U ⟨by u_nil,?_⟩;apply gZ;exact d
def wV.I{w':Ë}{xs:List ByteArray}(h:wV i xs w)(k:w'.heap[i]?=w.heap[i]?):wV i xs w':=⟨λp x a=>yj k<|h.r p x a,by have:=h.C;simp only[Ú,k]at this|-;exact this⟩
def aq5{xs:List ByteArray}(g:oy w)(h:wV i xs w):mT i=Ó:=by
 have b:∀e,Nq i e w->False:=λe ⟨c,o,j,_,_,d,l⟩=>by
  have f:w.cell? ⟨i,0,Ã⟩=Â c[0]:=by simp only[Ú,j,eW,æ,if_false];exact fj d
  obtain q|q:=dV xs.length;have a:=h.C;rw[q,f]at a;cases a;have a:=h.r 0 _<|fe q;let⟨k,n,m⟩:=l c[0]<|eS.2<|ÿ d;rw[f,m]at a;cases a
 cases q:mT i with
 |false=>rfl|true=>
  unfold mT at q;simp at q;obtain rfl|rfl:=q;exact(b _ g.I).elim;exact(b _ g.C).elim
def iX.aq6(a:kC l)(r:gd l l.w u):iX l {l with w:=u}:=⟨λ_ q=>q,λ_ q=>É q,U,U,U,U,U,r,o5 a r⟩
def aq7{a:aC}{xs:List ByteArray}(b:iw l)(j:nB<=l.w.heap.size)(h:wV n xs l.w)(m:l.O n)(o:mT n=Ó)(p:mo l.w n=Â (0,0))(s:xs.length<=1000){N:Nat}(t:xs.length=N)(u:B.size=1)(v:jH xs+xs.length<=140737488355328): fO.fF À Í (λc g=>iX l c/\c.d=l.d/\g=G (f.at (a.put ((Q[i]?).bind (·.dst))<|Å<|lG B xs)<|Õ Q jJ::L) qX) l (G (â À 21 #[Æ (Â ⟨n,0,Ã⟩) N N,Å B] ù)<|f.at a (Õ Q (i::jJ)::L)::qX):=by subst t;obtain e|e:=dV xs.length;have x:=Ù e;subst x;exact aq4 b.r.r (.fS λy r=>⟨iX.aq6 b.r.r r,U,U⟩);refine(aqI b.r b.q j h e (É m) o p s u v Í _ qX).fG ?_;rintro c g ⟨r,x,rfl⟩;exact⟨r,x,by rw[ž]⟩
def aq8{S:ĉ}(z:oN l ab n s sl V)(tP:gT l)(JL:∀b,X b->l.w.heap.size<=b)(hl:∀b,l.O b->o.O b/\o.w.heap[b]?=l.w.heap[b]?)(jV:l.w.heap.size<=o.w.heap.size)(UD:rs.length<=24)(uJ:jH (kP rs s)+rs.length<=140737488355328)(hJ:∀F,iw F->NG l F ab n (zU rs s) V->jB vQ F (G (S.at (y.put ((Q[i]?).bind (·.dst))<|Ý #[Å<|lG ⟨#[59]⟩<|kP rs s,Ç Ê 0])<|Õ Q jJ::L) qX)){T l4:fx}{p:Option ø}(g:iw l4)(k1:iz fB o T)(hT:zM (λb=>(V b\/X b)\/b=1\/b=2\/b=3\/b=4) (wW rs) rs.length (mD rs) s T J (Æ p m j9) l4){B:Array Î}(W:B.size=39)(H:B[0]?=Â (Ä<|Â ⟨ab,0,Ã⟩))(I:B[9]?=Â (Æ (Â ⟨J,0,Ã⟩) rs.length rs.length))(K:B[10]?=Â (Æ p m j9)): jB vQ l4 (G ((base 13).at ⟨B,[]⟩<|Õ UB []::[bx UC])<|S.at y (Õ Q (i::jJ)::L)::qX):=by
 have hF:True:=trivial;have h:=aq2 (rs:=rs) z tP JL hl jV g.r k1 hT;obtain⟨u,rfl⟩:=xF B W;simp only[eu,dN,dW,Nat.reduceLT,dT,dI]at H I K;simp only[é,List.range.loop,ZnI,H,I,K];clear H I K W;let⟨fr,lC,hfr⟩:=z.S;let⟨Y,hab⟩:=h.r ab z.fE;have M:l4.w.heap[ab]?=Â (Ô #[Ç Ê n,sl] 59 (0,0)):=by rw[hab,lC,hfr]
 have c1:l4.w.cell? ⟨ab,1,Ã⟩=Â sl:=by simp[Ú,M]
 have z1:l4.w.frozen? ⟨ab,1,Ã⟩=Ó:=by simp[World.frozen?,M]
 have hq4:=g.q;apply vn;apply gY g.r.r;conv in UC=>whnf
 iterate 7 w_go fW
 apply gZ;apply Zb (p:=ab) (off:=1) (v:=Æ p m j9) (u:=sl) U U ji g.r.r hq4 Y c1 z1 U (λw r x=>by go_simp) (λw r x=>by simp[go_sem,events_store _ _ _ _ _ _ (show Ă (Æ p m j9)=Í from rfl),r,x]);have k5:=R2 (X:=λb=>b=ab) (p:=ab) (w':=l4.w.setCell ⟨ab,1,Ã⟩<|Æ p m j9) g.r (gd.gy _ _) Y U fO.ml λj hj=>fO.oV hj;have N:=k5.N g.r;have awn:(l4.w.setCell ⟨ab,1,Ã⟩<|Æ p m j9).heap.size=l4.w.heap.size:=fO.ml;have Gf:iw ({l4 with w:=l4.w.setCell ⟨ab,1,Ã⟩ (Æ p m j9)}:fx):=⟨N,g.d,g.q,g.rd,g.I,g.M,g.k⟩;have c0:l4.w.cell? ⟨ab,0,Ã⟩=Â (Ç Ê n):=by simp[Ú,M]
 have aq9:J≠ab:=λe=>by obtain q|q:=dV (kP rs s).length;have r:=h.C.2.1.C;rw[q,e,c0]at r;cases r;have x:=h.C.2.1.r 0 _<|fe q;rw[e,c0]at x;cases x
 have abK:(l4.w.setCell ⟨ab,1,Ã⟩<|Æ p m j9).heap[J]?=l4.w.heap[J]?:=fO.oV (a:=⟨ab,1,Ã⟩) aq9;have zK:=h.C.2.1.I abK;have hfz:mo (l4.w.setCell ⟨ab,1,Ã⟩<|Æ p m j9) J=Â (0,0):=(yH abK).trans h.C.2.2;have ara:mT J=Ó:=aq5 (z.r.r h.fM λb q=>(h.r b<|z.C b q).2) h.C.2.1;have hlen:(kP rs s).length=rs.length:=NH;apply gY N.r;iterate 4 w_go fW
 apply gZ;refine JK (f:=21) (args:=#[Æ (Â ⟨J,0,Ã⟩) rs.length rs.length,Å ⟨#[59]⟩]) U gq ji N.r (λw=>by go_simp) (λw=>Į U ĕ U U #[]) λw₁ C=> ?_;have JN:=Gf.C C;have arb:wV J (kP rs s) w₁:=zK.I<|C.I J<|É h.C.1;refine fO.fF.nH ?_ (aq7 (xs:=kP rs s) JN (Ï (by rw[fO.ml];exact h.fM) C.r) arb h.C.1 ara ((yH<|C.I J<|É h.C.1).trans hfz) Z hlen U Z);rintro D g6 ⟨E,hd,rfl⟩;have P:iw D:=iX.xT JN E hd;have hk6:∀b,l4.O b->D.w.heap[b]?=(l4.w.setCell ⟨ab,1,Ã⟩<|Æ p m j9).heap[b]?:=λb q=>(E.r.I b<|É q).trans<|C.I b<|É q;have hs6:l4.w.heap.size<=D.w.heap.size:=by have r:=E.r.r;have x:=C.r;have h3:(l4.w.setCell ⟨ab,1,Ã⟩<|Æ p m j9).heap.size=l4.w.heap.size:=fO.ml;exact Ï (cZ h3.symm)<|Ï x r
 have x:∀b,l4.O b->D.O b:=λb q=>E.O b q;generalize lG ⟨#[59]⟩ (kP rs s)=ans at*;walk_nrm;apply gY P.r.r;repeat w_go fW
 u_in fW hF
 refine aU (t:=4) (u:=5) U U Ź U ⟨by u_nil,?_⟩;apply gZ;refine .fS λG4 r=>⟨P.C r,U,hJ _ (P.C r)<|aq3 z h g.r x (λb q=>(r.I b<|É<|x b q).trans<|hk6 b q)<|Ï hs6 r.r⟩
end
section
variable{l:fx}{s:List gf}
def ard{k:fx}{g:Nat->Prop}{t:List PR}(Y:oN l j n s v X)(tP:gT l)(B:oN k j n s v X)(Fq:iw k)(Dd:RQ t z g k.w)(UE:∀b,g b->k.O b)(D6:∀r∈t,sC r)(K:t.length<=24)(JL:∀b,g b->l.w.heap.size<=b)(K_:∀b,l.O b->k.O b/\k.w.heap[b]?=l.w.heap[b]?)(arf:l.w.heap.size<=k.w.heap.size)(hs':jH (kP t s)+t.length<=140737488355328)(ht:d.size=39)(NC:d[0]?=Â (Ä<|Â ⟨j,0,Ã⟩))(ht6:d[6]?=Â z)(hJ:∀C,iw C->NG l C j n (zU t s) X->jB vQ C (G (f.at (y.put ((Q[i]?).bind (·.dst))<|Ý #[Å<|lG ⟨#[59]⟩<|kP t s,Ç Ê 0])<|Õ Q jJ::L) qX)): jB vQ k (G ((base 13).at ⟨d,[]⟩<|bx (.region 4 UB Í)::[bx UC])<|f.at y (Õ Q (i::jJ)::L)::qX):=by
 let⟨fr,lC,_⟩:=B.S;have D:UB=Ff (mr aQ [1,1,1,0]):=U;conv at D=>rhs;arg 1;whnf
 simp only[Ff]at D;have N:∀l,iz fB k l->∀o,gd l l.w o->(o.cell? ⟨j,0,Ã⟩=Â (Ç Ê n)/\o.cell? ⟨j,1,Ã⟩=Â v)/\∀h,jO l ⟨j,h,Ã⟩:=λl q o r=>by have e:=(r.I j<|q.M<|É B.fE).trans<|(q.r j (É B.fE) id).trans lC;exact⟨⟨by simp[Ú,e],by simp[Ú,e]⟩,λh=>É<|q.M<|É B.fE⟩
 obtain⟨u,rfl⟩:=xF d ht;have P:u 0=Ä (Â ⟨j,0,Ã⟩):=fN NC;have u6:u 6=z:=fN ht6;simp only[é,List.range.loop,ZnI];rw[D];refine aqX (X:=Value×Value) (λx=>[Ä<|Â ⟨j,0,Ã⟩,Ä<|Â ⟨j,0,Ã⟩,Ä<|Â ⟨j,1,Ã⟩,v,z,Ä<|Â ⟨j,0,Ã⟩,Ä<|Â ⟨j,0,Ã⟩,Ä<|Â ⟨j,0,Ã⟩,Ç Ê n,Ý #[x.1,x.2],Ý #[x.1,x.2],x.1,x.2,x.1,x.2]) (λx=>Ý #[x.1,x.2]) 9 [10,11,12,13,14] [3,4,8,2,1,0,7,6,5] 20 #[v,z,Ç Ê n] (TdA k (λb=>X b\/g b) t s) (bA,bA) Fq ji gq gq gq gq A (λW=> ?_) (λx l ⟨S,V,p,m,c,E,F,H⟩ o r=>⟨S,V,p,m,c,E,F,H.N r⟩) (λx T a I J=> ?_) (λl a jJ _ q=>aqZ B Dd UE D6 K q) λl4 x Fs ⟨S,V,p,m,c,E,F,H⟩=> ?_
 .cases W;rotate_left;exact⟨[0,1,2,3,4,5,6,7,8,9,10,11,13,12,14],gq,gq⟩;all_goals exact⟨é 15,gq,gq⟩
 .simp only[lj]at I J;simp at I J;subst I J;iterate 9 refine⟨⟨U,É ⟨É ⟨A,U⟩,A,λl q o r=>⟨by
   let⟨⟨T,W⟩,_⟩:=N l (q A) o r;simp only[jT];go_simp,λe a=>by
   let⟨⟨T,W⟩,sx⟩:=N l (q A) o r;simp[go_sem,P,u6,T,W]at a<;>(subst a;exact(sx _).rd)⟩⟩⟩,?_⟩
  refine⟨⟨U,Ì ⟨U,U,λw=>by go_simp,λw=>Į U aS U U #[]⟩⟩,?_⟩;iterate 5 refine⟨⟨U,É ⟨Ì A,A,λl q o r=>⟨by simp only[jT];go_simp,λe a=>by simp[go_sem]at a⟩⟩⟩,?_⟩
  trivial
 subst F;simp only[lj];simp;exact aq8 Y tP JL K_ arf K hs' hJ Fs E H U (fN P) U U
def arh(p:iw l)(r:oN l j n s v X)(I:B.size<=ó)(J:(iC B).1=0->jH (kP (iC B).2.2 s)+(iC B).2.2.length<=140737488355328)(t:∀z,iw z->NG l z j n (kF s B).2.2 X->jB vQ z (G (f.at (y.put ((Q[i]?).bind (·.dst))<|Ý #[Å (kF s B).1,Ç Ê (kF s B).2.1])<|Õ Q jJ::L) qX)): jB vQ l (G (â À 13 #[Ä<|Â ⟨j,0,Ã⟩,Å B] ù)<|f.at y (Õ Q (i::jJ)::L)::qX):=by
 have hF:=trivial;rw[D5 [_,_] 37 Ź];simp only[è,ck,ec];conv in mr _ _=>whnf
 apply vn;apply gY p.r.r;iterate 8 w_go fW
 apply gZ;refine JK (f:=19) (args:=#[Å B]) U gq ji p.r.r (λw=>by go_simp) (λw=>Į U Ŀ U U #[]) λw₁ m=> ?_;have C:=p.C m;refine fO.fF.nH ?_<|aqB C.r C.q (Ï r.r.fM m.r) I Í _ _;rintro u g1 ⟨x,K,a,rfl,M⟩;have g:=iX.xT C x K;have h:∀b,l.O b->u.O b/\u.w.heap[b]?=l.w.heap[b]?:=λb q=>⟨x.O b q,(x.r.I b<|É q).trans<|m.I b<|É q⟩;have F:=Ï m.r x.r.r;rw[ž];by_cases k:(iC B).1=0
 .have D:kF s B=(lG ⟨#[59]⟩<|kP (iC B).2.2 s,0,zU (iC B).2.2 s):=if_pos k;let⟨c,N,E⟩:=M k;have P:=J k;rw[D]at t;obtain⟨S,T⟩:=JJ;rw[k];generalize(iC B).2.2=rs at*;generalize(iC B).2.1=at1 at*;walk_nrm;apply gY g.r.r;repeat w_go fW
  apply gZ;refine .fS λo d=>⟨g.C d,U,?_⟩;have V:=g.C d;have e:∀b,l.O b->({u with w:=o}:fx).O b/\o.heap[b]?=l.w.heap[b]?:=λb q=>⟨(h b q).1,(d.I b<|É (h b q).1).trans (h b q).2⟩;have H:=Ï F d.r;have W:=r.M (λb q=>(e b q).1) (λb q=>(e b q).2) H;have Y:=N.r λb q=>d.I b<|É (E b q).1;have UE:=λb q=>(E b q).1;have JL:=λb q=>Ï m.r (E b q).2;exact ard r p.r W V Y UE S T JL e H P U U U t
 .have D:kF s B=(⟨#[]⟩,(iC B).1,s):=if_neg k;rw[D]at t;have c:((iC B).1 !=0)=Í:=by rwa[bne_iff_ne]
  generalize(iC B).1=er at*;generalize(iC B).2.1=at1 at*;walk_nrm;apply gY g.r.r;repeat w_go fW
  u_in fW hF
  refine aU U U Ź U ⟨by u_nil,?_⟩;apply gZ;refine .fS λo d=>⟨g.C d,U,t _ (g.C d) ?_⟩;have e:∀b,l.O b->({u with w:=o}:fx).O b/\o.heap[b]?=l.w.heap[b]?:=λb q=>⟨(h b q).1,(d.I b<|É (h b q).1).trans (h b q).2⟩;exact⟨λb q _=>e b q,v,X,r.M (λb q=>(e b q).1) (λb q=>(e b q).2)<|Ï F d.r,λb q=>É q⟩
end
def UF{M:Nat}(a:∀z∈vX,z.size<=M)(b:M<=100)(c:vX.length<=400000):(wO vX).size<=100000000:=by unfold wO;split;decide;have d:=Nn ⟨#[44]⟩ U vX;have e:=DO vX a;have:M*vX.length<=100*400000:=ġ b c;omega
theorem Gi(i:Nat):(pK i).size<=3:=by unfold pK pg;rw[Ö];split;show 1+1<=3;decide;show 1+2<=3;decide
theorem abL(s:gO.St)(x y:Nat)(k:Int):∀(m i:Nat),i+m<=1000->(tZ s x y k i m).size<=20|0,i,_=>by unfold tZ;decide|m+1,i,h=>by unfold tZ;split;exact pw i Z;exact abL s x y k m (i+1) Z
theorem ari(s t:gO.St):(mb s t 8).length<=400000:=by
 unfold mb;have a:∀l:List Nat,(l.flatMap<|yc s t).length<=18*l.length:=λl=>by
  induction l with
  |nil=>simp|cons i l b=>
   rw[eL,Ñ,eH];have:(yc s t i).length<=18:=by unfold yc;grind [Ñ,Nh,Ni]
   omega
 grind
theorem arj{g:List (Nat×gf)}{q:Qn}(i:lA (lH g))(ok:q.Ok):(vh g q).size<=100000000:=by
 unfold vh;split;grind [Gi];rename_i p j;let⟨a,d,l,m⟩:=i.r _<|cI.2 ⟨p,Jp j,U⟩;have h:∀u,u<18446744073709551616->(gR u).size<=100000000:=λu k=>by have:=pw u k;omega
 unfold qL;split;have b:=d.C q.x q.I;exact h _ (by have:=b.1;have:=b.2;omega);split;have b:=d.fC q.x;exact h _ (by have:=b.1;have:=b.2;omega);split;split;grind [Gi];exact aoD d ok Z;split;grind [abL];split;have:=aaC<|BE p.2.s;have:=aaD<|16-(nY<|BE p.2.s).size;rw[DR,Ö];omega;split;exact UF (λz f=>by obtain⟨e,c,rfl⟩:=cI.1 f;exact F2 (a.C e c).2) Z (by rw[dw];exact a.I);split;exact UF (λz f=>by obtain⟨e,c,rfl⟩:=cI.1 f;exact TW (a.r e c).1 (a.r e c).2) Z (by rw[dw];have:=a.M;omega);split;grind [Gi];exact UF (aaG _ _) Z<|ari _ _
theorem ark(a:List (Nat×gf))(v:Int)(x:Nat)(b:List Tx):(sW a v x b).2.size<=3:=by unfold sW;split;exact Gi 3;split;exact Gi 4;split;exact Gi 5;show(pg a.length).size<=3;unfold pg;split;show 1<=3;decide;show 2<=3;decide
def arl{s:List gf}{i:Int×Nat×List Tx}(h:lA s)(a:∀t∈i.2.2,t.Ok)(b:i.2.2.length<=1000):lA (BO s i):=lA.M (by rwa[F3]) a b
def UG{a:List PR}{s:List gf}(h:lA s)(b:∀r∈a,sC r):∀k,k<=(iP (mD a) a.length).length->lA (rE (wW a) (iP (mD a) a.length) s k)|0,_=>h|k+1,hk=>by have c:a.getD ((iP (mD a) a.length).getD k 0) rI∈a:=eU (i:=(iP (mD a) a.length).getD k 0) (by have q:=(IU<|xR (l:=iP (mD a) a.length)<|show k<_ from hk).1;generalize(iP (mD a) a.length).getD k 0=j at q;simp[Ċ,q]);have q:=b _ c;refine arl (UG h b k Z) (λt d=> ?_) ?_;obtain⟨x,t,rfl⟩:=cI.1 d;exact toTx_ok<|q.C x t;show((a.getD _ rI).r.map toTx).length<=1000;rw[dw];have:=q.n;omega
def Mg(kd:Nat->Int):∀{p R:Nat},p<=R->gw kd p<=(iP kd R).length:=λ{p R} h=>by
 show(iP kd p).length<=(iP kd R).length
 induction h with
 |refl=>exact eE _|@step R _ ih=>
  by_cases q:kd R=1;rw[uR q];simp;omega;rwa[xN q]
theorem abM{rs:List PR}{s:List gf}(h:lA s)(a:∀r∈rs,sC r)(k:rs.length<=24):jH (kP rs s)+rs.length<=2400000024:=by
 have c:=DO (M:=100000000) (kP rs s) λz b=>by unfold kP at b;obtain⟨p,d,rfl⟩:=cI.1 b;have e:=dZ.1 d;have f:=UG h a (gw (mD rs) p)<|Mg _ Z;unfold zL;split;grind [Ï,ark];rename_i g;have j:rs.getD p rI∈rs:=eU (i:=p) (by simp[Ċ,e]);exact arj (by rwa[F3])<|abG (a _ j) g
 rw[NH]at c;omega
def abN{a:List PR}{s:List gf}(h:lA s)(b:∀r∈a,sC r):lA (zU a s):=UG h b _<|Mg _<|eE _
def arn{s:List gf}(h:lA s):jH (kP (iC B).2.2 s)+(iC B).2.2.length<=140737488355328:=Ï (abM h JJ.1 JJ.2) A
def aro(a:ø)(w:Ë):Sem.events À (binOp BinOp.eql 25 (Ä<|Â a)<|Ä Ã) w #[]=#[]:=fK
theorem JO{l:fx}(a:iw l)(p:nB<=l.w.heap.size){f:Ų}{args:Array Î}{r:Î}(m:Bo f=Í)(s:∀v∈args.toList,fI (nk (λ_=>False) À.globals.size) v v)(t:∀{Y v},fI Y r v->v=r)(x:∀w,Ò À f args w λe y=>e=È r/\y=w)(n:Bool)(c:ĉ)(i:List ĉ): fO.fF À n (λk o=>iX l k/\k.d=l.d/\o=G (c.finish r) i) l (G (â À f args ù)<|c::i):=by
 let⟨E,F,z,B⟩:=uT f m;have C:∀T,Ò À f args (World.tp (kL (λj=>False/\¬(nR l).O j) l.w) T 0) fun|È v,j=>v=r/\kU j|_,_=>False:=λT=>by refine(x _).mono ?_;grind [zI]
 refine((Bl xj FG uT (λv u T D h=>h) m z B (Ds a.r) a.q (λb q=>q.elim) ⟨λb q=>q.elim,p⟩ (λg q=>by cases q) (pz s) C n c i).nR a.r).fG ?_;rintro k o ⟨D,⟨Y,j,v,H,_,_,g,rfl,b,_,_,h⟩,rfl,u,_,_,_⟩;rw[t g]at b;exact⟨u,h,b⟩
section
variable{l:fx}
def arp{J:Jd}{s:List gf}(c:iw l)(d:oN l j n s v X)(g:fO.fF À Í J l (G (f.at (y.put ((Q[i]?).bind (·.dst))<|Ç Ê s.length)<|Õ Q jJ::L) qX)): fO.fF À Í J l (G (â À 18 #[Ä<|Â ⟨j,0,Ã⟩] ù)<|f.at y (Õ Q (i::jJ)::L)::qX):=by
 have hF:True:=trivial;obtain⟨a,b,rfl⟩:∃a b,v=Æ a s.length b:=by
  let⟨o,h,_,⟨a,k,b,e,_,m⟩,_⟩:=d.rd;have:k=s.length:=by rw[m.r,<-h];simp[lH]
  exact⟨a,b,by rw[e,this]⟩
 have m:s.length<=40:=by let⟨_,_,e,_⟩:=d.rd;exact e.C
 let⟨o,h,_⟩:=d.S;have k:l.w.cell? ⟨j,1,Ã⟩=Â (Æ a s.length b):=by simp[Ú,h]
 rw[D5 [_] 7 aV];simp only[è,ck,ec];conv in mr _ _=>whnf
 refine gY c.r.r ?_;repeat w_go fW
 refine gZ ?_;refine ru k (É<|É d.fE) c.r.r c.q ?_;walk_nrm;refine gY c.r.r ?_;repeat w_go fW
 u_in fW hF
 refine aT (t:=2) U U aV U ⟨by u_nil,?_⟩;refine gZ ?_;exact g
end
def arq{t:Tmp}(d:f.kind=ù)(e:y.defers=[])(g:P.funcs[f.fn]?=Â s)(c:s.results=#[.tmp t])(h:P.inits.idxOf? f.fn=Ã):stepG P Í (G {f.at y L with mode:=.returning} []) w=.ended (.done<|y.tmps.getD t bA) w:=by have i:=results_tmp c y.tmps P w;have j:=events_results_tmp (P:=P) (w:=w) c y.tmps;simp[G,stepG,unwind,doReturn,Frame.at,d,e,g,i,j,h,seen,GStep.after]
def ars{l:fx}(e:jB vQ l g)(a:iw l)(c:g.status=.running):uh vQ #[g] l.w Ã #[]:=e a c (λ_=>False) 0 _ _ _ _ Ã _ ⟨λx q=>q.elim,λ_ _ _ _ q=>q,eD _⟩ (aqJ (P:=À) (J:=λ_ _=>True) (T:=.fS) U a.d a.q a.rd a.I a.M a.k (λb q=>a.r.fM b<|É q) c λ_ _=>trivial) a.d U
def NI(W:Ë):fx:={O:=λb=>b<W.heap.size,I:=λ_=>False,r:=λ_=>False,N:=λ_=>False,K:=λ_=>False,d:=0,q:=False,w:=W}
def abO(W:Ë):iw (NI W):=⟨⟨λ_ _=>id,λ_ q=>q.elim,λ_ q=>q.elim (λz=>z.elim) λz=>z.elim,λ_ q=>q.elim id λz=>z.elim,λ_ q=>q.elim (λz=>z.elim) λz=>z.elim,λ_ q=>q.elim⟩,U,id,λ_=>id,λ_=>id,λ_=>id,λ_=>id⟩
structure pH(W w':Ë):Prop where
 uD:∀b,b<W.heap.size->w'.heap[b]?=W.heap[b]?
 AA:W.heap.size<=w'.heap.size
def aru(g:oy W):∀b,b=1\/b=2\/b=3\/b=4->b<W.heap.size:=λb q=>by let⟨c,a,h,_⟩:=g.C;have:=(fp.1 h).1;omega
theorem arv(b a n:Nat):(⟨b,a,Ã⟩:ø).add n=⟨b,a+n,Ã⟩:=by unfold Addr.add;grind
theorem arw(h:w.cell? a=Â v):a.spot=Ã/\a.block<w.heap.size:=by unfold Ú at h;split at h;rename_i c t f e;constructor;simp_all;grind;cases h
open Go.Proofs.YtgpphkdoanciiabGreatDoor (Rows.laid_math_bits_deBruijn32tab Rows.laid_math_bits_deBruijn64tab Rows.laid_internal_strconv_uint64pow10 Rows.laid_attic_attic_stepRules)
def NJ:List (String×DataW Unit):=[("math/bits.deBruijn32tab",î),("math/bits.deBruijn64tab",ï),("internal/strconv.uint64pow10",ă),("attic/attic.stepRules",ô)]
theorem NK(h:W.ShapedOpen À)(g:Nat)(t:ð)(b:g<À.globals.size)(e:(((begin À (λ_ _=>0) default).world.heap[g]?).bind Obj.row?).map (·.2)=Â t): ∃a,W.heap[g]?=Â (Ô a t):=by let⟨⟨z,c⟩,d,f⟩:=Ø.1 e;let⟨a,i,_⟩:=h.1 g z c b d;grind
theorem abP{n:String}(b:À.globalNamed n=Â i)(h:W.heap[i]?=Â (Ô q t xJ))(a:W.var? À n=Â d):q=d:=by unfold ĵ at a;grind
def UH{n:String}{N:Nat}{k:Δ}{p:List MemPlace}(a:À.globalNamed n=Â i)(f:(À.globals[i]?).map (·.type)=Â t)(h:À.underlying t=Â (.array N e))(l:À.underlying e=Â (.int k))(m:À.cellsOf e=1)(o:À.cellsOf t=N)(r:W.heap[i]?=Â (Ô d t xJ))(s:À.globalNamed n=Â b)(u:(À.globals[b]?).map (·.type)=Â T)(v:W.var? À n=Â q)(w:Ĉ (λ_=>()) À W 0 (λ_=>Í) Ó j T q.toList=Â (ł k zQ,p)):d=(zQ.map λz=>Ç k z).toArray:=by obtain rfl:=dh<|a.symm.trans s;obtain rfl:=dh<|f.symm.trans u;rw[abP a r v,<-Lib.cells_of_tab h l m o w]
def arx:À.cellsOf 293=3:=fK
def abQ:À.cellsOf 23=1:=fK
def arz:À.cellsOf 3=1:=fK
def arA:À.cellsOf 294=69:=fK
def arB{p:List MemPlace}(v:Ĉ (λ_=>()) À W 0 (λ_=>Í) Ó n 294 l=Â (ô,p)): l.length=69/\∀(i:Nat)(r:Int×Int×Int),jx[i]?=Â r->l[i*3]?=Â (Ç Ð r.1)/\l[i*3+1]?=Â (Ç Ê r.2.1)/\l[i*3+2]?=Â (Ç Ê r.2.2):=by
 obtain⟨f,m,rfl,w,y,K,z⟩:=DataW.trod_array Tryz.underlying294 v;refine⟨y.trans arA,λi r o=> ?_⟩;have B:i<23:=by have:=(eP.1 o).1;exact this
 have g:=z i B;rw[arx]at g;have C:f.map (·.1)=jx.map λr=>(DataW.agg [.lit<|.int Ð r.1,.lit<|.int Ê r.2.1,.lit<|.int Ê r.2.2]:aW Unit):=by have:=congrArg Prod.fst w;simp only[ô,DataW.agg.injEq]at this;exact this.symm
 obtain⟨x,q⟩:∃x,f[i]?=Â x:=⟨_,fe Z⟩;rw[q]at g;have d:(f.map (·.1))[i]?=Â x.1:=by simp[q]
 rw[C]at d;simp only[dN,o,dT,dI]at d;obtain⟨e,h,rfl,j,L,D,k⟩:=DataW.trod_struct Tryz.underlying293 g;have a:=k 0 _ U;have b:=k 1 _ U;have c:=k 2 _ U;have a:Ĉ _ À W 0 _ Ó h 23 (į (À.cellsOf 23)<|İ 0<|į 3<|İ (i*3) l)=e[0]?:=a;have b:Ĉ _ À W 0 _ Ó h 3 (į (À.cellsOf 3)<|İ 1<|į 3<|İ (i*3) l)=e[1]?:=b;have c:Ĉ _ À W 0 _ Ó h 3 (į (À.cellsOf 3)<|İ 2<|į 3<|İ (i*3) l)=e[2]?:=c;rw[abQ]at a;rw[arz]at b c;match e,D,j,a,b,c with
 |[y0,y1,y2],_,j,a,b,c=>
  let⟨M,E,F,_⟩:=Ń ý (show Ĉ _ _ _ _ _ _ _ 23 _=Â y0 from a);let⟨N,G,H,_⟩:=Ń õ (show Ĉ _ _ _ _ _ _ _ 3 _=Â y1 from b);let⟨O,I,J,_⟩:=Ń õ (show Ĉ _ _ _ _ _ _ _ 3 _=Â y2 from c);subst F;subst H;subst J;rw[j]at d;simp only[dR,dG,DataW.agg.injEq,List.cons.injEq,DataW.lit.injEq,Lit.int.injEq,true_and,and_true]at d;obtain⟨rfl,rfl,rfl⟩:=d;have s:=congrArg (·[0]?) E;have t:=congrArg (·[0]?) G;have u:=congrArg (·[0]?) I;simp[List.getElem?_take,cB]at s t u;exact⟨s,t,u⟩
def abR(h:∀v∈d.toList,∃k n,v=Ç k n):gD (mK X i) d d:=pz λv a=>by obtain⟨k,n,rfl⟩:=h v a;exact .iZ _ _
def arC{l:List (String×DataW Unit)}(h:Ρ P l W)(a:(l.filter λx=>x.2.handleName?.isSome)=[]):∃b,DataW.LaidVars P W l b:=by rw[Ρ,a]at h;exact⟨h.choose,h.choose_spec.1⟩
def arD:À.cellsOf 298=32:=fK
def arE:À.cellsOf 299=64:=fK
def arF:À.cellsOf 285=20:=fK
def abS:À.cellsOf 5=1:=fK
def gn1:À.globalNamed "internal/strconv.uint64pow10"=Â 1:=fK
def gn2:À.globalNamed "attic/attic.stepRules"=Â 2:=fK
def gn3:À.globalNamed "math/bits.deBruijn32tab"=Â 3:=fK
def gn4:À.globalNamed "math/bits.deBruijn64tab"=Â 4:=fK
def NL(g:Nat)(t:ð)(h:(g,t)∈[(1,285),(2,294),(3,298),(4,299)]):(À.globals[g]?).map (·.type)=Â t/\g<À.globals.size/\(((begin À (λ_ _=>0) default).world.heap[g]?).bind Obj.row?).map (·.2)=Â t:=by simp only[eK,dr,or_false,dJ]at h;obtain⟨rfl,rfl⟩|⟨rfl,rfl⟩|⟨rfl,rfl⟩|⟨rfl,rfl⟩:=h;exact⟨fK,of_decide_eq_true fK,fK⟩;exact⟨fK,of_decide_eq_true fK,fK⟩;exact⟨fK,of_decide_eq_true fK,fK⟩;exact⟨fK,of_decide_eq_true fK,fK⟩
def arG:aW Unit->Int|.lit (.int _ z)=>z|_=>0
def abT:aW Unit->List Int|.agg l=>l.map arG|_=>[]
def arH:(î:aW Unit)=ł ņ (abT î):=rfl
def arI:(ï:aW Unit)=ł ņ (abT ï):=rfl
def arJ:(ă:aW Unit)=ł Ð Ś:=rfl
def arK{k:Δ}:∀v∈(zQ.map λz=>Ç k z).toArray.toList,∃k n,v=Ç k n:=λv a=>by simp only[cI]at a;obtain⟨z,_,rfl⟩:=a;exact⟨_,_,U⟩
def arL(k:Nat)(h:k<69):∃i j,i<23/\j<3/\k=i*3+j:=⟨k/3,k%3,Z,Z,Z⟩
theorem arM{W:Ë}(hs:W.ShapedOpen À)(hl:Ρ À NJ W):oy W:=by
 obtain⟨ps,g3,t3,cs3,f3,p3,q3,UA,NM,hv3,wz,⟨g4,t4,cs4,f4,p4,q4,hg4,ht4,hv4,Dy,⟨g1,t1,cs1,f1,p1,q1,rz,ht1,hv1,uQ,⟨g2,t2,cs2,f2,p2,q2,MB,vD,Js,ry,_,_⟩,_⟩,_⟩,_⟩:=arC hl (by kernel_rfl);obtain⟨y1,s1,z1⟩:=NL 1 285 (by simp);obtain⟨y2,s2,z2⟩:=NL 2 294 (by simp);obtain⟨y3,s3,z3⟩:=NL 3 298 (by simp);obtain⟨y4,s4,z4⟩:=NL 4 299 (by simp);obtain⟨c1,b1⟩:=NK hs 1 285 s1 z1;obtain⟨c2,b2⟩:=NK hs 2 294 s2 z2;obtain⟨c3,b3⟩:=NK hs 3 298 s3 z3;obtain⟨c4,b4⟩:=NK hs 4 299 s4 z4;rw[arH]at wz;rw[arI]at Dy;rw[arJ]at uQ;have e3:=UH gn3 y3 Tryz.underlying298 ď abS arD b3 UA NM hv3 wz;have e4:=UH gn4 y4 Tryz.underlying299 ď abS arE b4 hg4 ht4 hv4 Dy;have e1:=UH gn1 y1 Ő ý abQ arF b1 rz ht1 hv1 uQ;obtain rfl:=dh (gn2.symm.trans MB);obtain rfl:=dh (y2.symm.trans vD);obtain⟨hlen,lC⟩:=arB ry;have e2:=abP gn2 b2 Js;subst e2;have arN:=λi r hr=>by have:=lC i r hr;simpa using this
 have abU:∀(k:Nat)(v:Î),c2[k]?=Â v->∃(kd:Δ)(n:Int),v=Ç kd n/\kd≠ņ:=λk v hv=>by
  have hk:k<69:=by grind
  obtain⟨i,j,hi,hj,rfl⟩:=arL k hk;obtain⟨r,hr⟩:∃r,jx[i]?=Â r:=⟨_,fe (show i<jx.length from hi)⟩;grind
 have jV:=(fp.1 b4).1;refine⟨?_,?_,⟨c3,_,b3,eD _,eD _,?_,?_⟩,⟨c4,_,b4,eD _,eD _,?_,?_⟩,?_,⟨⟨c2,_,b2⟩,λi r hr=> ?_⟩,?_⟩;have h5:nB=5:=by kernel_rfl
 omega;rintro b (rfl|rfl);refine⟨c1,285,_,b1,eD _,abR (by rw[e1];exact arK),by rw[e1];exact of_decide_eq_true (by kernel_rfl),λk v hv=> ?_,by decide,by decide⟩;rw[e1]at hv;simp only[eu,dN,Ø]at hv;obtain⟨z,_,rfl⟩:=hv;rfl;refine⟨c2,294,_,b2,eD _,abR λv hv=> ?_,?_,λk v hv=> ?_,by decide,by decide⟩;obtain⟨k,hk,e⟩:=List.mem_iff_getElem.1 hv;obtain⟨kd,n,e',_⟩:=abU k v (by rw[<-e];simp);grind;grind;obtain⟨kd,n,rfl,hn⟩:=abU k v hv;cases kd<;>first|rfl|exact absurd rfl hn
 rw[e3];exact of_decide_eq_true (by kernel_rfl);grind;rw[e4];exact of_decide_eq_true (by kernel_rfl);grind;unfold gO.pW ĩ ĵ;rw[gn1];grind;obtain⟨h0,h1,h2⟩:=arN i r hr;exact⟨by simp only[Ú,b2];exact h0,by simp only[Ú,b2];exact h1,by simp only[Ú,b2];exact h2⟩;simp only[sy,Ú,b4,e4];rfl
open ChangeShapes WideShapes ChangeAt
def fE:ownKnob À.godebug=Ã:=fK
def arO:laidOutB À=Í:=fK
def arP{w':Ë}(h:pH W w')(a:w'.os=W.os)(b:w'.output=W.output):Below W.heap.size W {w' with tape:=W.tape}:=⟨a,U,b,h.AA,h.uD⟩
def arQ(os:Os)(a:Array Î):Ρ À NJ ((World.doorLaid À 400 os).forCall (λ_ _=>0) ⟨#[],a,[]⟩).memory:=laidMetH_of_parts3 (fuel:=8) (laidMet_of_run' 8 fK fK) fK fK
section
variable{J:Jd}{V:Nat->Prop}{l x:fx}
def JP(V:Nat->Prop)(l:fx):fx:={l with O:=V,I:=λb=>l.O b/\¬V b}
structure UI(V:Nat->Prop)(l l':fx):Prop where
 xT:l'.d=0->iw l'
 C:∀b,l.O b->l'.O b/\(¬V b->l'.w.heap[b]?=l.w.heap[b]?)
 r:l.w.heap.size<=l'.w.heap.size
def arR(c:iw l)(e:∀b,V b->l.O b):gT (JP V l):=⟨λ_ h q=>q.2 h,c.r.Y,λa d=>d.elim (λq=>(c.I a q).elim) λq=>(c.M a q).elim,λb f=>c.r.fM b (É (f.elim (e b) (·.1))),c.r.I,λa d=>(c.k a d).elim⟩
def abV(e:iw l)(h:∀b,x.I b->l.O b)(f:x.r=l.r)(g:x.N=l.N)(i:x.K=l.K)(r:gd (oc l x) w u):gd x w u:=⟨r.r,λj m=>r.I j (É<|m.elim É λq=>Ì<|h j q),λy d=>(by rw[fx.C,f,g]at d;exact d.elim (λq=>(e.I y q).elim) λq=>(e.M y q).elim),λy d=>(by rw[fx.C,f,g]at d;exact d.elim (λq=>(e.I y q).elim) λq=>(e.M y q).elim),λy d=>(by rw[i]at d;exact(e.k y d).elim)⟩
def arS(f:iw l)(g:∀b,x.I b->l.O b)(i:x.r=l.r)(j:x.N=l.N){e:Event}(h:xr x e):xr (oc l x) e:=by obtain⟨a,c,d⟩|h|h|h|h|⟨a,c,d⟩:=h;refine É ⟨a,c,É ?_⟩;obtain q|q|⟨q|q,z⟩:=d;exact É q;rw[i]at q;exact(f.I a q).elim;exact Ì<|g _ q;rw[j]at q;exact(f.M a q).elim;exact Ì<|É h;exact Ì<|Ì<|É h;exact Ì<|Ì<|Ì<|É h;exact Ì<|Ì<|Ì<|Ì<|É h;exact Ì<|Ì<|Ì<|Ì<|Ì ⟨a,É c,d⟩
def arT(c:iw l)(h:fO.fF P yQ J x g):(∀b,x.I b->l.O b/\¬V b)->(∀j,x.O j->V j\/l.w.heap.size<=j)->x.r=l.r->x.N=l.N->x.K=l.K->x.q=l.q->l.w.heap.size<=x.w.heap.size->(∀b,l.O b->¬V b->x.w.heap[b]?=l.w.heap[b]?)->kC x-> fO.fF P yQ (λd e=>∃a,J a e/\d=oc l a/\UI V l d/\∀b,a.I b->l.O b/\¬V b) (oc l x) g:=by
 induction h with
 |@fS x g h=>
  intro f u i n m v p B H;refine .fS λd r=>⟨{x with w:=d},h d (abV c (λb q=>(f b q).1) i n m r),U,⟨λC=> ?_,λb q=>⟨Ì q,λs=>(r.I b<|É<|Ì q).trans<|B b q s⟩,Ï p r.r⟩,f⟩;have e:∀b,x.O b\/l.O b->b<d.heap.size:=λb q=>ff (q.elim (H b) λz=>ff (c.r.fM b<|É z) p) r.r;exact⟨⟨λb _ q=>c.rd b q,λa q=>(c.I a q).elim,λa q=>q.elim (λz=>(c.I a z).elim) λz=>(c.M a z).elim,λb q=>q.elim (e b) λz=>(c.rd b z).elim,λa q=>q.elim (λz=>(c.I a z).elim) λz=>(c.M a z).elim,λa (q:x.K a)=>by rw[m]at q;exact(c.k a q).elim⟩,C,by show¬x.q;rw[v];exact c.q,c.rd,c.I,c.M,λa (q:x.K a)=>by rw[m]at q;exact c.k a q⟩|@kx x g G' W' E' L' jh h C _ ih=>
  intro f u i n m v p B H;refine .mk jh λd r=> ?_;have t:=abV c (λb q=>(f b q).1) i n m r;have D:=C d t;have E:∀y:ø,¬x.r y:=λy q=>by rw[i]at q;exact c.I y q
  have F:=Ï p t.r;refine⟨G' d,W' d,E' d,oc l<|L' d,h d t,⟨D.C,λj a=> ?_,λj a=> ?_,U,U,U,D.k,λj a o I=>D.lB j a (λq=>o<|É q) λy _=>E y,λy G o I=>D.S y G (λq=>o<|É q)<|E y,λy G o=>D.Y y G λq=>o<|É q,D.c,D.f,D.i,λe L=>arS c (λb q=>(f b<|by rwa[D.rd]at q).1) (D.r.trans i) (D.I.trans n)<|D.b e L,D.g,D.q,λM=> ?_,D.N⟩,ih d t (by rwa[D.rd]) (λj a=>(D.M j a).elim (u j) λq=>Ì<|Ï F q) (D.r.trans i) (D.I.trans n) (D.k.trans m) (D.q.trans v) (by rw[D.N];exact Ï F D.C) (λb q s=> ?_) λj a=>by rw[D.N];exact D.fM j a⟩;obtain q|q:=a;exact(D.M j q).imp É id;exact É<|Ì q;obtain q|q:=a;exact D.fM j q;exact ff (c.r.fM j<|É q)<|Ï F D.C;let⟨N,Q,S⟩:=D.h M;exact⟨N,Q,by funext j;show((L' d).O j\/l.O j)=(x.O j\/l.O j);rw[S]⟩;have N:=c.r.fM b<|É q;rw[D.N,D.lB b Z (λz=>(u b z).elim s λz=>by omega) λy _=>E y,r.I b<|É<|Ì q];exact B b q s
def arU(a:iw l)(c:∀b,V b->l.O b)(h:fO.fF P yQ J (JP V l) g):fO.fF P yQ (λj q=>∃e,J e q/\j=oc l e/\UI V l j/\∀b,e.I b->l.O b/\¬V b) l g:=by
 have:=arT a h (λ_ q=>q) (λ_ q=>É q) U U U U (eE _) (λ_ _ _=>U) λj q=>a.r.fM j<|É<|c j q;have e:oc l (JP V l)=l:=by
  have d:(λb=>V b\/l.O b)=l.O:=by funext b;exact propext ⟨λq=>q.elim (c b) id,Ì⟩
  unfold oc JP;simp only[d]
 rwa[e]at this
end
section
variable{V:Nat->Prop}{l:fx}{Post:Î->Ë->Prop}
theorem abW(e:iw l)(s:∀b,V b->l.O b)(y:zr V (λ_=>False) nB l.w)(t:Bo F=Í){k:Array Î}(m:gD (nk V nB) k k)(z:xo Post)(B:∀T,Ò À F k (World.tp (kL (λ_=>False) l.w) T 0) fun|È v,a=>Post v a/\kU a|_,_=>False)(u:Bool)(o:ĉ)(p:List ĉ): fO.fF À u (λh x=>iw h/\UI V l h/\∃(Y:fL)(a:Ë)(v n:Î),(nk V nB).r Y/\rP Y (λ_=>False) a h.w/\fI Y v n/\Post v a/\x=G (o.finish n) p/\∀i j,Y i j->h.O j/\(V j\/l.w.heap.size<=j)) l (G (â À F k ù)<|o::p):=by
 let⟨fn,c,C,D⟩:=uT F t;have r:(λj=>V j/\¬(JP V l).O j)=λ_=>False:=by funext j;exact propext ⟨λq=>q.2 q.1,ŕ⟩
 have W:=Bl (V:=V) xj FG uT z t C D (arR e s) e.q (λb q=>É q) (by rwa[r]) (λg q=>by cases q) m (by rwa[r]) u o p;rw[r]at W;refine(arU e s W).fG ?_;rintro h x ⟨x',⟨Y,a,v,n,g,E,H,I,J,K,_,L⟩,rfl,m,M⟩;refine⟨m.xT<|L.trans e.d,m,Y,a,v,n,g,E,H,I,J,λi j N=> ?_⟩;let⟨P,Q⟩:=K i j N;have S:V j\/l.w.heap.size<=j:=Q.elim É λq=>q.imp id id;refine⟨É (P.resolve_right λq=> ?_),S⟩;let⟨X,z2⟩:=M j q;have:=e.r.fM j<|É X;grind
def arV{Y:fL}{B:Nat}(h:fI Y v x):fI (nk (λj=>∃i,Y i j) B) x x:=by
 induction h with|nF b=>exact .nF b|iZ k n=>exact .iZ k n|lb s=>exact .lb s|mN=>exact .mN|kn q=>exact fI.kn (Y:=nk (λj=>∃i,Y i j) B) ⟨⟨U,_,q.1⟩,U,U⟩|oP n c=>exact .oP n c|lh q n c=>exact fI.lh (Y:=nk (λj=>∃i,Y i j) B) ⟨⟨U,_,q.1⟩,U,U⟩ n c|uo=>exact .uo|fn f=>exact .fn f|uq=>exact .uq|uu=>exact .uu|uw=>exact .uw|xf t _ b=>exact .xf t b|pG f _ b=>exact .pG U λi c _=>b i Z c|nG f _ b=>exact .nG U λi c _=>b i Z c
def abX{Y:fL}(h:rP Y (λ_=>False) u w)(d:nB<=w.heap.size):zr (λj=>∃i,Y i j) (λ_=>False) nB w:=by
 refine⟨λb ⟨i,f⟩=> ?_,d⟩;let⟨c,j,e,s,g,t,l,a,_,m,n⟩:=h.r i b f;have o:=(a.r id).r;refine⟨j,e,g,l,by rwa[<-m id,<-o],pz λv p=> ?_,ŕ⟩;obtain⟨k,q,rfl⟩:=cJ p;have r:k<j.size:=fN q
 simpa using arV (B:=nB)<|(a.r id).C k Z r
end
end jg
namespace gO
open RowKit Lift
def UJ(b:Bool)(w:Ë):Ò À 128 #[á b] w λe a=>e=È (Ç Ð<|uU b)/\a=w:=by
 cases b;all_goals
  go_enter Tryz.func128,Tryz.ntmps128;go_wp2;go_ret;exact⟨U,U⟩
def NN(i:Nat)(b:i<8)(w:Ë):Ò À 127 #[Ç Ê i] w λe a=>e=È (Å<|mA i)/\a=w:=by go_enter Tryz.func127,Tryz.ntmps127;go_wp2;go_ret;exact⟨U,U⟩
theorem UK(s t:ByteArray)(h:s.size+t.size<=10^15)(w:Ë):Ò À 126 #[Å s,Å t] w λe a=>e=È (Å<|if s=⟨#[]⟩then t else(s++⟨#[44]⟩)++t)/\a=w:=by
 by_cases e:s=⟨#[]⟩
 .subst e;go_enter au,η;go_wp2;go_ret;exact⟨U,U⟩
 rw[if_neg e];have b:(s.toList==[])=Ó:=by rw[ą];have:s.data.toList≠[]:=λq=>e<|bM<|ű.1 q;grind
 go_enter au,η;go_wp2;go_ret;exact⟨U,U⟩
theorem abY(s:ByteArray)(w:Ë):Ò À 74 #[Å s] w λe a=>e=È (Å<|if s=⟨#[]⟩then⟨#[45]⟩else s)/\a=w:=by
 by_cases e:s=⟨#[]⟩
 .subst e;go_enter aX,ax;go_wp2;go_ret;exact⟨U,U⟩
 rw[if_neg e];have b:(s.toList==[])=Ó:=by rw[ą];have:s.data.toList≠[]:=λq=>e<|bM<|ű.1 q;grind
 go_enter aX,ax;go_wp2;go_ret;exact⟨U,U⟩
def abZ(n c:Nat)(a:n<18446744073709551616)(b:c<18446744073709551616)(w:Ë):Ò À 125 #[Ç Ð n,Ç Ð c] w λe d=>e=È (Ç Ð<|tb n c)/\d=w:=by
 go_enter Tryz.func125,Tryz.ntmps125;go_wp2;go_ret;refine⟨?_,U⟩;have f:Ð.wrap (((n^^^c:Nat):Int)*1099511628211)=((tb n c:Nat):Int):=by rw[ö];unfold tb;omega
 rw[bits_xor_u64_nat n c a b,f];rfl
def arW(m k:Nat)(a:k<8):m*256^k%18446744073709551616/72057594037927936=m/2^(8*(7-k))%256:=by
 obtain rfl|rfl|rfl|rfl|rfl|rfl|rfl|rfl:k=0\/k=1\/k=2\/k=3\/k=4\/k=5\/k=6\/k=7:=Z;all_goals simp
 all_goals omega
def JQ(n m:Nat)(o:n<18446744073709551616)(s:m<18446744073709551616)(w:Ë):Ò À 123 #[Ç Ð n,Ç Ð m] w λe p=>e=È (Ç Ð<|oK n m)/\p=w:=by
 go_enter Tryz.func123,Tryz.ntmps123;go_wp2;go_loop [0,1,5] (λa b i=>∃h k:Nat,k<=8/\h<18446744073709551616/\tn m h (8-k)=oK n m/\i=Ç Ê k/\a=Ç Ð h/\b=Ç Ð ((m*256^k%18446744073709551616:Nat):Int)) λ_ _ i=>8-(Þ i).toNat
 case atStart=>exact⟨n,0,Z,o,U,U,U,by simp;omega⟩
 case round=>
  obtain⟨h,k,t,q,c,rfl,rfl,rfl⟩:=hrel;by_cases g:k<8
  .have j:=arW m k g;have l:m*256^k%18446744073709551616*256%18446744073709551616=m*256^(k+1)%18446744073709551616:=by rw[bL,<-Nat.mul_assoc,Nat.mod_mul_mod]
   have u:m*256^k%18446744073709551616<18446744073709551616:=bl _ A;have d:tn m (tb h<|m/2^(8*(7-k))%256) (8-(k+1))=oK n m:=by rw[<-c,show 8-k=(8-(k+1))+1 by omega,tn,show 8-(k+1)=7-k by omega]
   rw[<-j]at d;generalize m*256^k%18446744073709551616=B at*;have T:=abZ h (B/72057594037927936) q Z w;have f:=fv<|Á d<|Á T l;clear d T l j c;have r:((B/72057594037927936:Nat):Int)=(B:Int)/72057594037927936:=fD;go_wp2_with (go_at_call 125;rw[<-r];refine iT f.2.1 ?_);go_round
   case rel=>exact⟨_,k+1,g,Jj _ _,f.1,by go_num,U,by rw[<-f.oQ.2.2];go_num⟩
   case measure=>simp[Þ];omega
  .obtain rfl:k=8:=Z;have e:h=oK n m:=c;go_wp2;go_ret;exact⟨U,U⟩
def zm(d:Nat):ByteArray:=þ ⟨#[48,49,50,51,52,53,54,55,56,57]⟩ d<|d+1
def rds:(é 10).map zm=(é 10).map λd=>⟨#[UInt8.ofNat<|48+d]⟩:=fK
theorem JR(h:i<10):zm i=⟨#[UInt8.ofNat<|48+i]⟩:=by have:=congrArg (λl=>l[i]?) rds;simpa[h]using this
theorem UL(h:i<10):gR i=zm i:=by unfold gR;grind [Lib.decDigits_one,JR]
def ab0(h:¬n<10):gR n=gR (n/10)++zm (n%10):=by rw[JR Z];unfold gR;rw[đ,dif_neg h];apply bM;simp_all
theorem UM(h:i<m)(a:m<=16)(b:B.size<=20):Ê.wrap ((i:Int)+1)=(i:Int)+1/\Ê.wrap (i:Int)=i/\(0:Int)<=(i:Int)+1/\(i:Int)+1<=m/\(i:Int)<=(i:Int)+1/\((i:Int)+1).toNat=i+1/\¬9223372036854775807<min (i+1) m-i+B.size:=by grind [í]
def yk(n:Nat)(h:n<18446744073709551616)(w:Ë):Ò À 69 #[Ç Ð n] w λe j=>e=È (Å<|gR n)/\j=w:=by
 have l:=pw n h;generalize m:gR n=r at*;go_enter Tryz.func69,Tryz.ntmps69;go_wp2;go_loop [0,3] (λa b=>∃(k:Nat)(s:ByteArray),k<18446744073709551616/\gR k++s=r/\a=Ç Ð k/\b=Å s) λa _=>(Þ a).toNat
 case atStart=>exact⟨n,⟨#[]⟩,h,by rw[m];exact ay,U,U⟩
 case round=>
  obtain⟨k,s,p,c,rfl,rfl⟩:=hrel;have i:s.size<=20:=by rw[<-c,Ö]at l;omega
  by_cases f:k<10
  .rw[UL f]at c;let⟨_,_,_,_,_,_,_⟩:=UM f A i;have g:=fv c;clear c;go_wp2;go_ret;exact⟨by rw[<-g.oQ];rfl,U⟩
  .have t:(k:Int).tmod 10=((k%10:Nat):Int):=by rw[eX Z];omega
   have u:(k:Int).tdiv 10=((k/10:Nat):Int):=by rw[dM Z];omega
   rw[ab0 f,az]at c;have o:k%10<10:=Z;have v:k/10<k:=Z;have g:=fv c;clear c;generalize k%10=d at*;generalize k/10=q at*;let⟨_,_,_,_,_,_,_⟩:=UM o A i;go_wp2;go_round
   case rel=>exact⟨q,_,Z,g,U,U⟩
   case measure=>simp[Þ];omega
def NO:∀n:Nat,n<100->gR n=pg n:=λn h=>by unfold pg;split;rw[UL ‹_›,JR ‹_›];rw[ab0 ‹_›,UL Z,JR Z,JR Z];rfl
def JS(i:Nat)(h:i<10)(w:Ë):Ò À 67 #[Ç Ê i] w λe a=>e=È (Å<|pK i)/\a=w:=by
 have b:(pg i).size=1:=by rw[pg,if_pos h];rfl
 have C:=yk i Z w;rw[NO i Z]at C;go_enter Tryz.func67,Tryz.ntmps67;go_wp2_with (go_at_call 69;refine iT C ?_);go_ret;exact⟨U,U⟩
def yl:Nat->Nat->List UInt8->List UInt8|0,_,acc=>acc|k+1,n,acc=>yl k (n/16)<|qK (n%16)::acc
def ab1:∀(k:Nat)(a:List UInt8),yl k 0 a=è k 48++a|0,_=>rfl|k+1,a=>by rw[yl,ab1 k,Ľ];simp[show qK 0=48 by rfl]
def ab2:∀(k n:Nat)(a:List UInt8),n<16^k->0<k->yl k n a=è (k+a.length-(sX k n a).length) 48++sX k n a/\(sX k n a).length<=k+a.length
 |k+1,n,a,h,_=>by
  rw[yl];unfold sX;split;rename_i f;rw[show n/16=0 by omega,show n%16=n by omega,ab1];simp;omega;have b:n/16<16^k:=by rw[bL]at h;omega
  have c:0<k:=by obtain rfl|q:=dV k;simp at b;omega;exact q
  let⟨d,e⟩:=ab2 k (n/16) (qK (n%16)::a) b c;rw[d];simp only[eH]at e|-;exact⟨by rw[show k+(a.length+1)=k+1+a.length by omega],Z⟩
theorem arX(h:k<=16):(ye k).data.toList=è k 48:=by rw[ye,cC,cP,dE];show((è 64 48).drop 0).take (k-0)=_;grind
def arY(h:n<18446744073709551616):DR n=⟨(yl 16 n []).toArray⟩:=by
 let⟨a,c⟩:=ab2 16 n [] h A;have b:(nY n).size=(sX 16 n []).length:=by unfold nY;exact eN
 unfold DR;refine bM<|Ξ ?_;rw[cj,cL,arX Z,b,a];simp[nY]
def arZ:(é 16).map vf=(é 16).map λd=>⟨#[qK d]⟩:=fK
def UN(h:i<16):vf i=⟨#[qK i]⟩:=by have:=congrArg (λl=>l[i]?) arZ;simpa[h]using this
def ar0(n:Nat)(j:n<18446744073709551616)(w:Ë):Ò À 72 #[Ç Ð n] w λe o=>e=È (Å<|DR n)/\o=w:=by
 rw[arY j];generalize p:yl 16 n []=r;go_enter Tryz.func72,Tryz.ntmps72;go_wp2;go_loop [0,3,4] (λa b c=>∃(k i:Nat)(s:ByteArray),k<18446744073709551616/\i<=16/\s.size=i/\yl (16-i) k s.data.toList=r/\a=Ç Ð k/\b=Å s/\c=Ç Ê i) λ_ _ c=>16-(Þ c).toNat
 case atStart=>exact⟨n,0,⟨#[]⟩,j,Z,U,p,U,U,U⟩
 case round=>
  obtain⟨k,i,s,x,y,l,f,rfl,rfl,rfl⟩:=hrel;by_cases t:i<16
  .have z:(k:Int).tmod 16=((k%16:Nat):Int):=by rw[eX Z];omega
   have B:(k:Int).tdiv 16=((k/16:Nat):Int):=by rw[dM Z];omega
   rw[show 16-i=(16-(i+1))+1 by omega,yl]at f;have h:k%16<16:=Z;have u:k/16<18446744073709551616:=Z;have e:(vf (k%16)++s).data.toList=qK (k%16)::s.data.toList:=by rw[UN h,cj,cL];rfl
   have m:(vf (k%16)++s).size=i+1:=by rw[Ö,UN h,l];show 1+i=i+1;omega
   rw[<-e]at f;have v:s.size<=20:=Z;have g:=fv<|Á f m;clear f e m l;generalize k%16=d at*;generalize k/16=q at*;let⟨_,_,_,_,_,_,_⟩:=UM h A v;go_wp2;go_round
   case rel=>exact⟨q,i+1,_,u,t,g.2,g.1,U,U,by go_num⟩
   case measure=>simp[Þ];omega
  .have:s=⟨r.toArray⟩:=by
    rw[show 16-i=0 by omega,yl]at f;rw[<-f]
   have g:=fv this;clear this f;go_wp2;go_ret;exact⟨by rw[g.oQ];rfl,U⟩
def mg(s:St)(i:Nat):Î:=if i<8 then jW (s i).fC else if i<16 then Å (s<|i-8).C else jW ((s<|(i-16)/16).r<|(i-16)%16)
def gI(s:St):List Î:=(é 144).map<|mg s
def iM(s:St):(gI s).length=144:=by simp[gI]
def vo(s:St)(h:i<144):(gI s)[i]?=Â (mg s i):=by simp[gI,dW h]
def vp(c:RC)(g:Int)(a e:Î)(b:Bool):List Î:=[a,kt c.x,kt c.y,jW c.k,kt c.d,e,kt g,á b]
def ie(T:ð)(v:Î)(n:Nat)(c:List Î)(w:Ë):Prop:=∃p a,v=Æ p n a/\n<=a/\∀j x,c[j]?=Â x->∃b o,p=Â ⟨b,o,Ã⟩/\(∃d e,w.heap[b]?=Â (Ô d T e))/\w.cell? ⟨b,o+j,Ã⟩=Â x
def ie.I(h:ie T v n l w)(k:fw X w u)(i:∀b a c,X b->w.heap[b]?≠Â (Ô a T c)):ie T v n l u:=by let⟨p,cp,e,q,r⟩:=h;refine⟨p,cp,e,q,λj x m=> ?_⟩;let⟨b,o,s,⟨a,c,d⟩,f⟩:=r j x m;have g:¬X b:=λz=>i b a c z d;exact⟨b,o,s,⟨a,c,by rwa[k.N b (Ĭ w _ f) g]⟩,k.r f g⟩
def ie.fH{w':Ë}(h:ie T v n l w)(k:fw fB w w'):ie T v n l w':=h.I k λ_ _ _=>ŕ
def ie.r{T T2:TypeId}{n fb:Nat}{v:Value}{cells vs:List Value}{w w':World}(h:ie T v n cells w)(k:fw (λk=>k=fb) w w')(hB:fy fb vs T2 w)(ht:T≠T2:=by decide):ie T v n cells w':=h.I k λb cs fz e q=>by subst e;rw[hB]at q;cases q;exact ht U
def ie.C(T:ð)(w:Ë):ie T (Æ Ã 0 0) 0 [] w:=⟨Ã,0,U,eE _,λ_ _ h=>by cases h⟩
structure MK(w0:Ë)(T:ð)(z:Nat)(v:Î)(n:Nat)(xs:List Î)(w:Ë):Prop where
 fE:w.ownsRow w0.heap.size T z v n xs
 r:fw fB w0 w
section
variable{w0:Ë}{z:Nat}{xs:List Î}
def MK.C{T:ð}{z:Nat}(w0:Ë):MK w0 T z (Æ Ã 0 0) 0 [] w0:=⟨ĥ _ _ _ _,fw.gy _ _⟩
def MK.fH(h:MK w0 T z v n xs w)(k:fw fB w u):MK w0 T z v n xs u:=⟨ia h.fE k λ_ _=>id,h.r.fA k⟩
def MK.Cq(h:MK w0 T z v n xs w)(a:nU w w0.heap.size T z v n xs m l x u):MK w0 T z x (n+m) (xs++l) u:=⟨a.fE,h.r.C a.r λi b q=>by have:=(h.fE.lt i q).1;omega⟩
def MK.I(h:MK w0 T z v n xs w):ie T v n xs w:=by obtain⟨a,cp,rfl⟩:=jj h.fE;obtain⟨b,c⟩|⟨g,i,k,b,c,d,e,_⟩:=h.fE.2;cases b;have:=h.fE.1;rw[bR]at this;rw[Ù this];exact ie.C _ _;cases b;refine⟨_,_,U,e,λj x f=>⟨g,0,U,⟨_,_,d⟩,?_⟩⟩;have:=h.fE.cells (g:=g) U j x f;rwa[Addr.add_mid]at this
def D7{k:Array Ŗ}{bytes:Nat}{x:ū}{ad:ø}(p:(À.info? T).map iF=Â (Â jQ,z,bytes))(q:À.underlying t=Â (.slice T))(f:MK w0 T z v n xs w)(r:n<1000000)(g:(my T||decide (10000<bytes))=Ó)(h:∀b d e,MK w0 T z (Æ b (n+1) d) (n+1) (xs++l) e->Θ À k vJ fX (y.put o.dst<|Æ b (n+1) d) e)(B:∀j u,l[j]?=Â u->w.cell? (ad.add j)=Â u)(C:∀u∈l,u.oneCell'=Í)(D:o.guard=Ã)(E:o.op=.call {callee:=.builtin Ŵ,args:=#[qQ,x],argTypes:=#[t,t]})(F:jQ.cells.size=z)(G:y.eval qQ=v)(H:y.eval x=Æ (Â ad) 1 i)(M:l.length=z):Θ À k vJ (o::fX) y w:=by let⟨N,I,J,K,L⟩:=ć p;simp only[cU,decide_eq_false_iff_not]at g;refine xU D qQ x t E q I J K L F G f.fE ad l H aH Z B C (by unfold ó;omega) (Ï (ġ (show n+1<=1000000 from r)<|Nat.not_lt.1 g.2) A) f.r.M (λO e m=> ?_)<|É g.1;obtain⟨b,d,rfl⟩:=jj m.fE;exact h b d e<|f.Cq m
end
structure FR(fb:Nat)(c:RC)(lv sv:Î)(t:RT)(b:Bool)(w:Ë):Prop where
 r:fy fb (gI t.s++vp c t.g lv sv b) 257 w
 I:ie 23 sv t.r.length (lE t.r) w
 C:ie 229 lv t.C.length (je t.C) w
def FO(a:Nat)(c:RC)(t:RT)(b:Bool)(w d:Ë):Prop:=(∃k e,FR a c k e t b d)/\fw (λk=>k=a) w d
section
variable{fb:Nat}{c:RC}{lv sv:Î}{t:RT}{b:Bool}{w':Ë}
def FR.at(h:FR fb c lv sv t b w)(j:Nat)(e:(vp c t.g lv sv b)[j]?=Â v):w.cell? ⟨fb,144+j,Ã⟩=Â v:=h.r.r _ _<|by rw[eT (by rw[iM];omega),iM,dD];exact e
def FR.fH(h:FR fb c lv sv t b w)(k:fw fB w u):FR fb c lv sv t b u:=⟨h.r.C k id,h.I.fH k,h.C.fH k⟩
def FR.fR(h:FR fb c lv sv t b w)(j:Nat)(v:Î)(a:RT)(k:fw fB w u)(i:ie 23 z a.r.length (lE a.r) u)(l:ie 229 x a.C.length (je a.C) u)(m:a.s=t.s)(e:(vp c t.g lv sv b).set j v=vp c a.g x z yQ):FO fb c a yQ w (u.setCell ⟨fb,144+j,Ã⟩ v):=by have d:=(h.fH k).r;have f:=fw.I (X:=λk=>k=fb) (p:=⟨fb,144+j,Ã⟩) U v<|Ì d.S;refine⟨⟨x,z,?_,i.r f d,l.r f d⟩,(k.fG λ_ _=>ŕ).fA f⟩;have:=d.fR (144+j) v;rw[eF _ _ (by rw[iM];omega),iM,dD,e]at this;rw[m];exact this
def ar1(h:FR fb c lv sv t b w)(m:t.r.length<=32): Ò À 149 #[Ä<|Â ⟨fb,0,Ã⟩] w λe w'=>e=È (Ç Ð<|fV t.r)/\FO fb c {t with r:=fU t.r} (b||t.r.isEmpty) w w':=by
 let⟨o,s,k,g⟩:=t;obtain⟨p,cp,rfl,l,d⟩:=h.I;have q:=h.at 5 U;have D:=h.at 7 U;have E:=h.r.I 149;have F:=h.r.I 151;have H:=fv h;obtain rfl|⟨e,x,rfl⟩:=List.eq_nil_or_concat o
 .go_enter aA,θ;go_wp2;go_ret;refine⟨U,?_⟩;exact H.fR 7 (á Í) ⟨[],s,k,g⟩ (fw.gy _ _) H.I H.C U U
 .rw[List.concat_eq_append]at*;have r:(e++[x]).length=e.length+1:=fD;have u:(e++[x]).isEmpty=Ó:=fD;obtain⟨v,z,rfl,G,B⟩:=d e.length (jW x) (by simp[lE]);have a:ie 23 (Æ (Â ⟨v,z,Ã⟩) e.length cp) e.length (lE e) w:=⟨_,_,U,by simp at l;omega,λj y f=>d j y (by have:j<(lE e).length:=(eP.1 f).1;simp only[lE,bW]at f|-;rwa[eR (by simpa[lE]using this)])⟩;simp only[r,u,bO,fV,fU,List.getLastD_concat,List.dropLast_concat]at*;obtain⟨n,i⟩:∃n,e.length=n:=⟨_,U⟩;rw[i]at q B l m;have C:=fv<|Á a i;clear d h a i;go_enter aA,θ;go_wp2;go_quiet (fail);go_wp2;go_region;go_wp2;go_ret;obtain⟨a,rfl⟩:=C.oQ;exact⟨U,H.fR 5 _ ⟨e,s,k,g⟩ (fw.iQ _ _ _) (a.fH<|fw.iQ _ _ _) (H.C.fH<|fw.iQ _ _ _) U U⟩
def ab3(h:FR fb c lv sv t b w)(I:t.r.length<=32)(x:Int): Ò À 167 #[Ä<|Â ⟨fb,0,Ã⟩,Ç Ð x] w λe w'=>e=È (Ý #[])/\FO fb c {t with r:=if t.r.length=32 then t.r else t.r++[x]} (b||t.r.length==32) w w':=by
 let⟨a,s,B,g⟩:=t;obtain⟨p,cp,rfl,J,l⟩:=h.I;have k:=h.at 5 U;have N:=h.at 7 U;have O:=h.r.I 149;have P:=h.r.I 151;have H:=fv h;simp only at*;by_cases e:a.length=32
 .rw[e]at k;simp only[e,if_true,beq_self_eq_true,Bool.or_true];go_enter aB,ι;go_wp2;apply ì (ah U _ _ _) U;exact⟨U,H.fR 7 (á Í) ⟨a,s,B,g⟩ (fw.gy _ _) H.I H.C U U⟩
 .simp only[e,if_false,beq_eq_false_iff_ne.2 e,bO];obtain⟨n,m⟩:∃n,a.length=n:=⟨_,U⟩;rw[m]at k e I J;have Q:((n:Int)==32)=Ó:=by simp;omega
  have o:=fv<|Á l m;clear l h m;go_enter aB,ι;go_wp2;go_loopw [4,5] (λv i wr=>∃j:Nat,j<=n/\MK w 23 1 v j ((lE a).take j) wr/\i=Ç Ê j) λ_ i _=>n-(Þ i).toNat
  case atStart=>exact⟨0,eD _,MK.C w,U⟩
  case round=>
   obtain⟨j,S,d,rfl⟩:=hrel;have T:=d.r.r k id;obtain⟨C,D,rfl⟩:=jj d.fE;have q:=fv d;clear d;by_cases K:j=n
   .subst K;go_wp2_with (at_builtin;refine D7 FI ú (q.fH kp) Z U ?_ (ã _ _ _) (by simp[Ă]) U U U U U U;intro C D u f;have V:=f.r.r k id;have W:=(H.fH f.r).r.I 149;have r:=fv f;clear f);go_end0;have d:=r.oQ;obtain⟨l,rfl⟩:=o.oQ;rw[show(lE a).take a.length++[Ç Ð x]=lE (a++[x]) by rw[eG (by simp[lE])];simp[lE,jW]]at d;exact⟨U,H.fR 5 _ ⟨a++[x],s,B,g⟩ d.r (fN d.I) (H.C.fH d.r) U U⟩
   .obtain⟨y,E⟩:∃y,a[j]?=Â y:=⟨_,fe<|by rw[o.oQ.2];omega⟩;have z:(lE a)[j]?=Â (Ç Ð y):=by rw[lE,dN,E];rfl
    obtain⟨X,Y,rfl,mP,F⟩:=o.1 j _ z;have G:(lE a).take (j+1)=(lE a).take j++[Ç Ð y]:=by rw[cD,z];rfl
    have Ck:=q.r.r F id;have L:=fv G;clear G z E F;have M:j<n:=Z;go_wp2_with (at_builtin;refine D7 FI ú (q.fH kp) Z U ?_ (ã _ _ _) (by simp[Ă]) U U U U U U;intro C D u f;have r:=fv f;clear f);go_roundw
    case rel=>exact⟨j+1,M,by rw[L.oQ];exact r,by go_num⟩
    case measure=>
     simp[Þ];omega
end
open jg
def NP(s t:ByteArray):ByteArray:=if s=⟨#[]⟩then t else(s++⟨#[44]⟩)++t
def jU(xs:List ByteArray):ByteArray:=lG ⟨#[44]⟩ xs
def ab4{r:List ByteArray}(h:0<B.size):jU (B::r)≠⟨#[]⟩:=λe=>by
 have:=congrArg ļ e;have a:(jU<|B::r).size=B.size+(nu ⟨#[44]⟩ r).length:=by show((B.data.toList++nu _ r).toArray).size=_;simp only[eN,Ñ,dU];rfl
 rw[a]at this;have:B.size+(nu ⟨#[44]⟩ r).length=0:=this;omega
def UO(h:∀x∈vX,0<x.size)(y:ByteArray):NP (jU vX) y=jU (vX++[y]):=by
 unfold NP;cases vX with
 |nil=>rw[if_pos (show jU []=⟨#[]⟩from U)];exact bM<|by simp[jU,lG,BJ,nu]|cons x r=>
  rw[if_neg<|ab4<|h x fD];refine bM<|Ξ ?_;simp[jU,lG,BJ,nu,cj]
def ab5(h:∀x∈vX,0<x.size):(if jU vX=⟨#[]⟩then⟨#[45]⟩else jU vX)=wO vX:=by
 unfold wO;cases vX with|nil=>rfl|cons x r=>rw[if_neg<|ab4<|h x fD,if_neg fD];rfl
def NQ{xs:List ByteArray}{M:Nat}(a:∀z∈xs,z.size<=M)(b:M<=100)(c:xs.length<=400000):(jU xs).size<=100000000:=by have d:=Nn ⟨#[44]⟩ U xs;have e:=DO xs a;have:M*xs.length<=100*400000:=ġ b c;unfold jU;omega
def Gj(h:i<8):(mA i).size=1:=by rw[mA,ä];show min (i+1) 8-i=1;omega
def ab6{e:Nat×Int}(h:e.1<8):0<(kO e).size:=by rw[kO,Ö,Gj h];omega
def ab7{cp:Nat}(h:ie 229 (Æ O n cp) gJ.length (je gJ) w)(K:gJ.length<=400000)(g:ya gJ):Ò À 75 #[Æ O n cp] w λe L=>e=È (Å<|jU<|gJ.map kO)/\∃m,L=w.drewN m:=by
 let⟨_,_,e,_,o⟩:=h;cases e;have r:∀j,∀z∈(gJ.take j).map kO,z.size<=21/\0<z.size:=λj z P=>by obtain⟨e,Q,rfl⟩:=cI.1 P;have:=g e<|cT Q;exact⟨F2 this.2,ab6 this.1⟩
 have b:=fv<|Á o<|Á r g;obtain⟨N,k⟩:∃N,gJ.length=N:=⟨_,U⟩;have t:=fv k;clear o r g;rw[k]at K|-;clear k;go_enter Tryz.func75,Tryz.ntmps75;go_wp2;go_loopw [3,4] (λs i wr=>∃j m:Nat,j<=N/\i=Ç Ê j/\s=Å (jU<|(gJ.take j).map kO)/\wr=w.drewN m) λ_ i _=>N-(Þ i).toNat
 case atStart=>exact⟨0,0,eD _,U,U,U⟩
 case round=>
  obtain⟨j,m,W,rfl,rfl,c⟩:=hrel;by_cases S:j<N
  .obtain⟨⟨y,z⟩,d⟩:∃y,gJ[j]?=Â y:=⟨_,fe<|by rw[t.oQ];omega⟩;let⟨l,f⟩:=b.2.2 _<|eU d;simp only at l f;obtain⟨a,rfl⟩:∃a:Nat,z=a:=⟨z.toNat,by have:=f.1;omega⟩;let⟨g0,u⟩:=BI (λO:Nat×Int=>Ç Ê O.1) (λO=>Ç Ð O.2) gJ j _ d;obtain⟨v,B,rfl,_,C⟩:=b.1 (j*2) _ g0;let⟨X,Y,T,_,D⟩:=b.1 (j*2+1) _ u;cases T;have E:(gJ.take<|j+1).map kO=(gJ.take j).map kO++[mA y++gR a]:=by rw[cD,d];simp[kO]
   have F:NP (jU<|(gJ.take j).map kO) (mA y++gR a)=jU ((gJ.take<|j+1).map kO):=by rw[E];exact UO (λx q=>(b.2.1 j x q).2) _
   have G:=NQ (M:=21) (λx q=>(b.2.1 j x q).1) Z (by simp;omega);have H:=pw a (by have:=f.2;omega);have I:=Gj l;have J:=fv<|Á F<|Á G<|Á H I;have k1:¬9223372036854775807<(mA y).size+(gR a).size:=Z;clear E F d g0 u G H I;have c0:wr.cell? ⟨v,B+j*2,Ã⟩=Â (Ç Ê y):=by rwa[c]
   have c1:wr.cell? ⟨v,B+j*2+1,Ã⟩=Â (Ç Ð a):=by rwa[c]
   have V:=fv c;clear C D c;generalize jU ((gJ.take j).map kO)=s at*;go_wp2;go_quiet ((first|(go_at_call 127;exact ë<|NN _ l _)|(go_at_call 69;exact ë<|yk _ (by have:=f.2;omega) _)|(go_at_call 126;exact ë (UK _ _ (by rw[Ö];have:=J.2;omega) _))))
   go_wp2;go_roundw
   case rel=>exact⟨j+1,m+_,S,by go_num,by rw[<-J.oQ.1];rfl,by rw[V.oQ,ò]⟩
   case measure=>simp[Þ];omega
  .obtain rfl:j=N:=Z;rw[(eG<|by rw[t.oQ];omega)];go_wp2;go_ret;exact⟨U,m,U⟩
def zV(v:gf)(a b c:Î):List Î:=gI v.s++[Ç Ê v.h,a,b,c]
def pY(v:gf)(a b c:Î):(zV v a b c).length=148:=by simp[zV,iM]
def tf{v:gf}{a:Î}(j:Nat)(h:[Ç Ê v.h,z,jQ,a][j]?=Â x):(zV v z jQ a)[144+j]?=Â x:=by rw[zV,eT (by rw[iM];omega),iM,dD];exact h
def wY(us:List (Int×Bool)):List Î:=us.map λe=>Ç Ê e.1
def wZ(us:List (Int×Bool)):List Î:=us.map λe=>á e.2
def ar2{v:gf}{F G:Î}(l:ie 3 G v.r.length (wY v.r) w)(a:ie 4 F v.r.length (wZ v.r) w)(hn:v.r.length<=1000)(r:BG v.r):Ò À 76 #[σ (zV v jQ F G).toArray] w λe w'=>e=È (Å<|wO<|v.r.map mY)/\fw fB w w':=by
 obtain⟨n,o,rfl,_,l⟩:=l;obtain⟨p,wc,rfl,_,a⟩:=a;have t:=fy.N w (zV v jQ (Æ p v.r.length wc)<|Æ n v.r.length o) 116;have u:=t.r 146 _<|tf 2 U;have B:=t.r 147 _<|tf 3 U;have H:=fw.gP fB w (zV v jQ (Æ p v.r.length wc)<|Æ n v.r.length o).toArray 116;have I:∀j,∀z∈(v.r.take j).map mY,z.size<=41/\0<z.size:=λj z hz=>by obtain⟨e,he,rfl⟩:=cI.1 hz;have:=r e<|cT he;exact⟨TW this.1 this.2,by simp only[mY,Ö];show 0<_+1+_;omega⟩
 have d:=fv<|Á l<|Á a<|Á I<|Á r H;clear l a I r H t;generalize(zV v jQ (Æ p v.r.length wc)<|Æ n v.r.length o)=cs at*;generalize v.r=us at*;obtain⟨N,D⟩:∃N,us.length=N:=⟨_,U⟩;have J:=fv D;rw[D]at hn u B;clear D;go_enter Tryz.func76,Tryz.ntmps76;go_wp2_with (with_reducible refine à U (Â 1) U _ _ (oJ U U) ?_);generalize w.alloc (Ô cs.toArray 116)=wa at*;generalize w.heap.size=vb at*;go_loopw [3,4] (λs i wr=>∃j m:Nat,j<=N/\i=Ç Ê j/\s=Å (jU<|(us.take j).map mY)/\wr=wa.drewN m) λ_ i _=>N-(Þ i).toNat
 case atStart=>exact⟨0,0,eD _,U,U,U⟩
 case round=>
  obtain⟨j,m,hj,rfl,rfl,a⟩:=hrel;have d2:wr.cell? ⟨vb,146,Ã⟩=Â (Æ p N wc):=by rwa[a]
  have d3:wr.cell? ⟨vb,147,Ã⟩=Â (Æ n N o):=by rwa[a]
  have E:=fv (show fw fB w wr by rw[a];exact d.2.2.2.2.fA<|fw.iQ _ _ _);have HX:=fv a;clear u B a;by_cases iu:j<N
  .obtain⟨⟨g,b⟩,k⟩:∃y,us[j]?=Â y:=⟨_,fe<|by rw[J.oQ];omega⟩;let⟨o1,o2⟩:=d.2.2.2.1 _<|eU k;simp only at o1 o2;obtain⟨c,rfl⟩:∃c:Nat,g=c:=⟨g.toNat,Z⟩;obtain⟨sb,so,rfl,_,K⟩:=d.1 j (Ç Ê c) (by simp[wY,k]);obtain⟨vb2,vo2,rfl,_,L⟩:=d.2.1 j (á b) (by simp[wZ,k]);have f:(us.take<|j+1).map mY=(us.take j).map mY++[(gR b.toNat++⟨#[58]⟩)++gR c]:=by rw[cD,k];simp[mY]
   have O:NP (jU<|(us.take j).map mY) ((gR b.toNat++⟨#[58]⟩)++gR c)=jU ((us.take<|j+1).map mY):=by rw[f];exact UO (λx q=>(d.2.2.1 j x q).2) _
   have P:=NQ (M:=41) (λx q=>(d.2.2.1 j x q).1) Z (by simp;omega);have Q:=pw c Z;have S:=pw b.toNat (by cases b<;>decide);have T:(gR b.toNat++⟨#[58]⟩:ByteArray).size=(gR b.toNat).size+1:=by rw[Ö];rfl
   have V:=fv<|Á O<|Á P<|Á Q<|Á S T;have k1:¬9223372036854775807<(gR b.toNat).size+1:=Z;have k2:¬9223372036854775807<(gR b.toNat).size+1+(gR c).size:=Z;have c0:=E.r K id;have c1:=E.r L id;have w0:Ð.wrap (c:Int)=c:=sj Z Z;have C:=λm=>UJ b<|wr.drewN m;rw[show uU b=((b.toNat:Nat):Int) by cases b<;>rfl]at C;have W:b.toNat<18446744073709551616:=by cases b<;>decide
   have X:=fv<|Á C W;clear f O k P Q S T K L C W;generalize jU ((us.take j).map mY)=s at*;generalize b.toNat=bn at*;go_wp2;go_quiet ((first|(go_at_call 128;exact ë<|X.1 _)|(go_at_call 69;exact ë<|yk _ (by first|exact X.2|omega) _)|(go_at_call 126;exact ë (UK _ _ (by rw[Ö];have:=V.2;omega) _))))
   go_wp2;go_roundw
   case rel=>exact⟨j+1,m+_,iu,by go_num,by rw[<-V.oQ.1];rfl,by rw[HX.oQ,ò]⟩
   case measure=>simp[Þ];omega
  .obtain rfl:j=N:=Z;have f:us.take j=us:=eG (by rw[J.oQ];omega);have Y:(if jU (us.map mY)=⟨#[]⟩then⟨#[45]⟩else jU (us.map mY))=wO (us.map mY):=ab5 λx q=>(d.2.2.1 j x<|by rwa[f]).2;have C:=abY (jU<|us.map mY) wr;rw[Y]at C;rw[f];clear Y f;go_wp2_with (go_at_call 74;refine iT C ?_);go_ret;exact⟨U,E⟩
section
variable{s t:St}
def P2(n:Nat)(a:List ByteArray):Prop:=a.length<=n/\∀x∈a,x.size=2
def P2.r{a:List ByteArray}(h:P2 n vX)(k:P2 m a):P2 (n+m) (vX++a):=⟨by rw[Ñ];have:=h.1;have:=k.1;omega,λx q=>(dx.1 q).elim (h.2 x)<|k.2 x⟩
def ab8(h:i<8){z:ByteArray}(a:z.size=1):P2 1 [mA i++z]:=⟨eE _,λx q=>by rw[eY.1 q,Ö,Gj h,a]⟩
def UP(n:Nat):P2 n []:=⟨eD _,λ_ q=>by cases q⟩
def UQ[Decidable bQ](h:i<8){z:ByteArray}(a:z.size=1):P2 1 (if bQ then[]else[mA i++z]):=by split;exact UP 1;exact ab8 h a
def ab9(h:k<16):(vf k).size=1:=by rw[UN h];rfl
def UR(h:i<8):∀k,k<=16->P2 k (py s t i k)|0,_=>UP 0|k+1,hk=>by rw[Ng];exact(UR h k Z).r<|UQ h<|ab9 Z
def acd(h:i<8)(x y:Int)(p q:ByteArray):P2 2 (ox x y p q i):=(UQ h (z:=⟨#[36]⟩) U).r<|UQ h (z:=⟨#[123]⟩) U
def ace(i:Nat):mb s t (i+1)=mb s t i++yc s t i:=by unfold mb;rw[Ķ,cM];simp
def US:∀i,i<=8->P2 (18*i) (mb s t i)|0,_=>UP 0|i+1,h=>by rw[ace];exact(US i Z).r<|(acd Z _ _ _ _).r<|UR Z 16<|eE _
def P2.lst(h:P2 n vX)(b:n<=1000)(y:ByteArray)(c:y.size=2)(w:Ë):Ò À 126 #[Å<|jU vX,Å y] w λe a=>e=È (Å<|jU<|vX++[y])/\a=w:=by have d:=NQ (M:=2) (λx q=>cZ<|h.2 x q) Z (by have:=h.1;omega);have:=UK (jU vX) y Z w;rwa[show(if jU vX=⟨#[]⟩then y else(jU vX++⟨#[44]⟩)++y)=jU (vX++[y])from UO (λx q=>by rw[h.2 x q];decide) y]at this
def acf{w:Ë}(h:Ò À F d (w.drewN<|m+n) λe a=>e=È v/\a=w.drewN (m+n)):Ò À F d (w.drewN<|m+n) λe b=>e=È v/\∃n,b=w.drewN (m+n):=h.mono λ_ _ q=>⟨q.1,n,q.2⟩
def P2.C(h:P2 n vX)(a:n<=1000)(b:i<8)(z:ByteArray)(c:z.size=1)(w:Ë):Ò À 126 #[Å<|jU vX,Å<|mA i++z] w λe d=>e=È (Å<|jU<|vX++[mA i++z])/\d=w:=h.lst a _ (by rw[Ö,Gj b,c]) w
def acg(h:i<8)(z:ByteArray)(a:z.size=1):¬9223372036854775807<(mA i).size+z.size:=by rw[Gj h,a];decide
def D8(h:i<8):mg s i=Ç Ð (s i).fC:=if_pos h
theorem JU(h:i<8):mg s (8+i)=Å (s i).C:=by unfold mg;grind
def NR(h:k<16):mg s (16+i*16+k)=Ç Ð ((s i).r k):=by rw[mg,if_neg Z,if_neg Z,show(16+i*16+k-16)/16=i by omega,show(16+i*16+k-16)%16=k by omega];rfl
def ar3:Ò À 77 #[σ (gI s).toArray,σ (gI t).toArray] w λe I=>e=È (Å<|jU<|mb s t 8)/\fw fB w I:=by
 have J:=fy.N w (gI s) 112;have u:=fy.N (w.alloc<|Ô (gI s).toArray 112) (gI t) 112;have K:=fw.gP fB w (gI s).toArray 112;have v:=fw.gP fB (w.alloc<|Ô (gI s).toArray 112) (gI t).toArray 112;have L:(w.alloc<|Ô (gI s).toArray 112).heap.size=w.heap.size+1:=fD;rw[L]at u;have y:=fv<|Á (J.C v id)<|Á u<|K.fA v;clear J u K v L;go_enter Tryz.func77,Tryz.ntmps77;go_wp2_with (first|(with_reducible refine à U (Â 2) U _ _ (oJ U U) ?_)|(with_reducible refine à U (Â 3) U _ _ (oJ U U) ?_))
 generalize(w.alloc<|Ô (gI s).toArray 112).alloc (Ô (gI t).toArray 112)=wa at*;generalize w.heap.size=vb at*;go_loopw [5,6] (λx i wr=>∃j m:Nat,j<=8/\i=Ç Ê j/\x=Å (jU<|mb s t j)/\wr=wa.drewN m) λ_ i _=>8-(Þ i).toNat
 case atStart=>exact⟨0,0,eD _,U,U,U⟩
 case round=>
  obtain⟨j,m,hj,rfl,rfl,B⟩:=hrel;obtain⟨b,rfl⟩:∃b,b=wr:=⟨_,U⟩;have HW:=fv B;by_cases a:j<8
  .have l:∀i,i<144->b.cell? ⟨vb,i,Ã⟩=Â (mg s i)/\b.cell? ⟨vb+1,i,Ã⟩=Â (mg t i):=λi M=>by
    rw[B];exact⟨y.1.r i _<|vo s M,y.2.1.r i _<|vo t M⟩
   let⟨b1,b2⟩:=l j Z;let⟨q1,q2⟩:=l (8+j) Z;rw[D8 a]at b1 b2;rw[JU a]at q1 q2;have N:∀k,k<16->b.cell? ⟨vb,16+j*16+k,Ã⟩=Â (Ç Ð<|(s j).r k)/\b.cell? ⟨vb+1,16+j*16+k,Ã⟩=Â (Ç Ð<|(t j).r k):=λk o=>by have:=l (16+j*16+k) Z;rwa[NR o,NR o]at this
   have O:=US (s:=s) (t:=t) j hj;have f:=fv<|Á N O;clear l N O B;have a1:=acg a ⟨#[36]⟩ U;have a2:=acg a ⟨#[123]⟩ U;generalize P:(s j).fC=x1 at*;generalize Q:(t j).fC=x2 at*;generalize S:(s j).C=y1 at*;generalize T:(t j).C=y2 at*;have HH:=fv (show mb s t (j+1)=mb s t j++ox x1 x2 y1 y2 j++py s t j 16 by rw[ace,yc,P,Q,S,T,dL]);clear P Q S T;by_cases p:x1=x2;all_goals by_cases q:y1.toList=y2.toList
   all_goals
    first|(have d1:(x1==x2)=Í:=beq_iff_eq.2 p)|(have d1:(x1==x2)=Ó:=beq_eq_false_iff_ne.2 p)
    first|(have d2:(y1.toList==y2.toList)=Í:=beq_iff_eq.2 q)|(have d2:(y1.toList==y2.toList)=Ó:=beq_eq_false_iff_ne.2 q)
    have V:=fv<|Á p q;clear p q;go_wp2;go_quiet (fail);go_wp2_with (first|(go_at_call 127;refine iT (NN _ a _) ?_)|(go_at_call 126;refine iT (P2.C f.2 Z a ⟨#[36]⟩ U _) ?_))
    go_quiet (fail)
    go_wp2_with (first|(go_at_call 127;refine iT (NN _ a _) ?_)|(go_at_call 126;(first|with_reducible refine Đ (P2.C f.oQ.2 Z a ⟨#[123]⟩ U _) ?_|refine Đ (P2.C (f.oQ.2.r (ab8 a (z:=⟨#[36]⟩) U)) Z a ⟨#[123]⟩ U _) ?_);rintro e I ⟨rfl,rfl⟩))
    go_loopw [5,7] (λx i wq=>∃k n:Nat,k<=16/\i=Ç Ê k/\x=Å (jU<|mb s t j++ox x1 x2 y1 y2 j++py s t j k)/\wq=b.drewN n) λ_ i _=>16-(Þ i).toNat
    case atStart=>exact⟨0,_,eD _,U,by simp[ox,py,V.oQ.1,V.oQ.2],by first|rfl|exact ò _ _ _⟩
    case round=>
     obtain⟨k,n,o,rfl,rfl,g⟩:=hrel;have X:=fv g;by_cases r:k<16
     .let⟨D,E⟩:=f.1 k r;have c1:wr.cell? ⟨vb,16+j*16+k,Ã⟩=Â (Ç Ð<|(s j).r k):=by rwa[g]
      have c2:wr.cell? ⟨vb+1,16+j*16+k,Ã⟩=Â (Ç Ð<|(t j).r k):=by rwa[g]
      have F:=(f.2.r<|acd a x1 x2 y1 y2).r<|UR (s:=s) (t:=t) a k o;have c:=Ng s t j k;unfold DN at c;have Y:=ab9 r;generalize(s j).r k=z1 at*;generalize(t j).r k=z2 at*;have r0:(0:Int)<=k:=Z;have r1:Ê.wrap ((k:Int)+1)=(k:Int)+1:=Ğ _ ⟨Z,Z⟩;have r2:(k:Int)<=(k:Int)+1:=Z;have r3:(k:Int)+1<=16:=Z;have r4:(0:Int)<=(k:Int)+1:=Z;have r5:((k:Int)+1).toNat=k+1:=Z;have a3:¬9223372036854775807<(mA j).size+(min (k+1) 16-k):=by rw[Gj a];omega
      by_cases d:z1=z2
      .rw[if_pos d,ep]at c;have d3:(z1==z2)=Í:=beq_iff_eq.2 d;have G:=fv c;clear c d D E F g;go_wp2;go_quiet (fail);go_wp2;go_roundw
       case rel=>exact⟨k+1,n+_,r,by go_num,by rw[G.oQ],by rw[X.oQ,ò]⟩
       case measure=>simp[Þ];omega
      rw[if_neg d]at c;have d3:(z1==z2)=Ó:=beq_eq_false_iff_ne.2 d;have C:=λW=>P2.C F Z a (vf k) Y W;rw[show mb s t j++ox x1 x2 y1 y2 j++py s t j k++[mA j++vf k]=mb s t j++ox x1 x2 y1 y2 j++py s t j (k+1) by rw[c];simp]at C;obtain⟨js',H⟩:∃x,jU (mb s t j++ox x1 x2 y1 y2 j++py s t j (k+1))=x:=⟨_,U⟩;rw[H]at C;have G:=fv H;clear c d D E F g Y H;generalize jU (mb s t j++ox x1 x2 y1 y2 j++py s t j k)=js at C|-;unfold vf at C;have HC:=fv C;clear C;go_wp2;go_quiet (fail);go_wp2;go_quiet ((first|(go_at_call 127;exact acf<|NN _ a _)|(go_at_call 126;exact acf (HC _))))
      go_wp2;go_roundw
      case rel=>exact⟨k+1,n+_,r,by go_num,by rw[G.oQ],by rw[X.oQ,ò]⟩
      case measure=>simp[Þ];omega
     .obtain rfl:k=16:=Z;go_wp2;go_roundw
      case rel=>exact⟨j+1,m+n,a,by go_num,by rw[HH.oQ],by rw[HW.oQ,ò]⟩
      case measure=>simp[Þ];omega
  .obtain rfl:j=8:=Z;go_wp2;go_ret;exact⟨U,y.2.2.fA<|fw.iQ _ _ _⟩
end
def ar4(l:List Nat):(pU l).length=l.length/2:=by simp[pU]
def ar5{l:List Nat}{t:Nat}(h:t<l.length/2):j5 ((pU l).take<|t+1)=j5 ((pU l).take t)++[Ç Ð<|pr l t]:=by rw[cD];simp[j5,pU,dW h]
theorem UT{cp:Nat}{l:List Nat}(h:ie 23 (Æ O n cp) l.length (j5 l) w)(a:j<l.length):∃b o,O=Â ⟨b,o,Ã⟩/\w.cell? ⟨b,o+j,Ã⟩=Â (Ç Ð<|l.getD j 0):=by let⟨_,_,e,_,c⟩:=h;cases e;let⟨b,o,d,_,f⟩:=c j (Ç Ð<|l.getD j 0) (by simp[j5,Ċ,a]);grind
def ach{cp:Nat}{l:List Nat}(k:Nat)(h:ie 23 (Æ O n cp) l.length (j5 l) w)(g:l.length=2^k)(F:k<=4)(B:wL l):Ò À 124 #[Æ O n cp] w λe u=>e=È (Ç Ð<|pV k l)/\fw fB w u:=by
 obtain rfl:n=l.length:=by let⟨_,_,e,_⟩:=h;cases e;rfl
 generalize C:pV k l=r;go_enter Tryz.func124,Tryz.ntmps124;go_wp2;go_loopw [0] (λv wr=>∃(k:Nat)(l:List Nat)(O:Option ø)(cp:Nat),v=Æ O l.length cp/\ie 23 (Æ O l.length cp) l.length (j5 l) wr/\l.length=2^k/\k<=4/\wL l/\pV k l=r/\fw fB w wr) (λv _=>match v with|Æ _ n _=>n|_=>0)
 case atStart=>exact⟨k,l,O,cp,U,h,g,F,B,C,fw.gy _ _⟩
 case round=>
  clear h g F B C;obtain⟨k,l,O,cp,rfl,h,g,F,B,C,K⟩:=hrel;obtain⟨N,G⟩:∃N,l.length=N:=⟨_,U⟩;have H:=fv<|Á h<|Á B<|Á C<|Á K G;rw[G]at g|-;clear h B C K G;cases k with
  |zero=>
   obtain rfl:N=1:=g;obtain⟨b,o,rfl,m⟩:=UT (j:=0) H.1 (by rw[H.oQ.2.2.2.2];decide);rw[show l.getD 0 0=r from H.oQ.2.2.1]at m;have Ck:wr.cell? ⟨b,o,Ã⟩=Â (Ç Ð r):=m;clear m;go_wp2;go_ret;exact⟨U,H.2.2.2.1⟩|succ k=>
   have L:N=2*2^k:=by rw[g,bL];omega
   have h3:0<2^k:=Nat.two_pow_pos k;have h4:2^k<=8:=by have:k<=3:=Z;exact Nat.pow_le_pow_right A this
   generalize P:2^k=M at*;have h5:(1:Int)<(N:Int):=Z;have f:=fv<|Á L P;clear g L P;obtain⟨E,rfl⟩:∃E,E=wr:=⟨_,U⟩;go_wp2;go_loopw [3,4] (λv i wq=>∃(t x:Nat)(q:Option ø)(c:Nat),t<=M/\x=2*t/\v=Æ q t c/\i=Ç Ê x/\MK E 23 1 (Æ q t c) t (j5<|(pU l).take t) wq) λ_ i _=>2*M-(Þ i).toNat
   case atStart=>exact⟨0,0,Ã,0,eD _,U,U,U,MK.C E⟩
   case round=>
    obtain⟨t,x,q,c,ht,D,rfl,rfl,s⟩:=hrel;have Q:=fv D;have hx9:x<=16:=Z;by_cases iu:t<M
    .have h6:(x:Int)+1<(N:Int):=by rw[f.oQ.1];omega
     obtain⟨b,o,rfl,m⟩:=UT (j:=2*t) H.1 (by rw[H.oQ.2.2.2.2,f.oQ.1];omega);let⟨b',o',e,S⟩:=UT (j:=2*t+1) H.1 (by rw[H.oQ.2.2.2.2,f.oQ.1];omega);cases e;have T:=H.2.1<|2*t;have V:=H.2.1<|2*t+1;have X:=ar5 (l:=l) (t:=t) (by rw[H.oQ.2.2.2.2,f.oQ.1];omega);have I:=λa=>JQ 14695981039346656037 (l.getD (2*t) 0) A T a;have Y:=BB<|l.getD (2*t) 0;have J:=λa=>JQ (lf<|l.getD (2*t) 0) (l.getD (2*t+1) 0) Y V a;rw[show oK 14695981039346656037 (l.getD (2*t) 0)=lf (l.getD (2*t) 0)from U]at I;rw[show oK (lf<|l.getD (2*t) 0) (l.getD (2*t+1) 0)=pr l t from rfl]at J;have c1:wr.cell? ⟨b,o+x,Ã⟩=Â (Ç Ð<|l.getD (2*t) 0):=by rw[D];exact s.r.r m id
     have c2:wr.cell? ⟨b,o+(x+1),Ã⟩=Â (Ç Ð<|l.getD (2*t+1) 0):=by rw[D];exact s.r.r S id
     have d:=fv<|Á s X;clear s X m S T V Y D;generalize pr l t=z at*;generalize lf (l.getD (2*t) 0)=y at*;generalize l.getD (2*t) 0=a1 at*;generalize l.getD (2*t+1) 0=a2 at*;have HC:=fv<|Á I J;clear I J;go_wp2_with (first|(go_at_call 123;(first|with_reducible refine Đ (HC.oQ.1 _) ?_|with_reducible refine Đ (HC.oQ.2 _) ?_);rintro e u ⟨rfl,rfl⟩)|(at_builtin;refine D7 FI ú (d.1.fH kp) Z U ?_ (ã _ _ _) (by simp[Ă]) U U U U U U;intro ta tc W hM1;have JV:=fv hM1;clear hM1))
     go_roundw
     case rel=>exact⟨t+1,x+2,ta,tc,iu,by rw[Q.oQ];omega,U,by go_num,by rw[d.oQ.2];exact JV⟩
     case measure=>simp[Þ];have:=Q.oQ;omega
    .obtain rfl:t=M:=Z;have h6:decide ((x:Int)+1<(N:Int))=Ó:=by rw[f.oQ.1];simp;omega
     have hh:(pU l).length=t:=by rw[ar4,H.oQ.2.2.2.2,f.oQ.1];omega
     have d:=fv<|Á s hh;clear s hh D;go_wp2;go_roundw
     case rel=>exact⟨k,pU l,q,c,by rw[d.oQ.2],by have:=d.1.I;rw[eG (by rw[d.oQ.2];exact eE _)]at this;rw[d.oQ.2];exact this,by rw[d.oQ.2];exact f.2.symm,Z,TB l,H.2.2.1,H.2.2.2.1.fA d.1.r⟩
     case measure=>simp;have:=f.1;omega
def aci{l:List Nat}(h:l[k]?=Â i):j5 (l.take<|k+1)=j5 (l.take k)++[Ç Ð i]:=by rw[cD,h];simp[j5]
def ar6(z:Nat)(h:n<B.size):tb (su z<|B.data.toList.take n) B[n].toNat=su z (B.data.toList.take<|n+1):=by rw[cD,eV,fj (show n<B.data.size from h)];unfold su;rw[cg,b9,dS,List.foldl_nil,dX]
def ar7(z:Nat):su z []=z:=rfl
theorem ar8{s:St}(hf:ic s):Ò À 73 #[σ (gI s).toArray] w λe u=>e=È (Ç Ð<|BE s)/\fw fB w u:=by
 have hS:=fy.N w (gI s) 112;have k0:=fw.gP fB w (gI s).toArray 112;unfold BE Jo;have hD:∀j,j<8->(qI (λi=>BD<|s i) 8)[j]?=Â (BD<|s j):=λj M=>by rw[TE _ _ _ M,if_pos M]
 have hlen:=FZ (λi=>BD<|s i) 8;have vN:wL (qI (λi=>BD<|s i) 8):=FW A λx N=>by obtain⟨t,G,rfl⟩:=cI.1 N;simp only;split;exact TF _ _ _;decide
 generalize qI (λi=>BD<|s i) 8=L at*;have b:=fv<|Á hS<|Á k0<|Á hD<|Á hlen<|Á vN hf;clear hS k0 hD hlen vN hf;generalize hr:pV 3 L=r;have HR:=fv hr;clear hr;go_enter Tryz.func73,Tryz.ntmps73;go_wp2_with (with_reducible refine à U (Â 1) U _ _ (oJ U U) ?_);generalize w.alloc (Ô (gI s).toArray 112)=wa at*;generalize w.heap.size=vb at*;go_loopw [3,4] (λv i wr=>∃(j:Nat)(q:Option ø)(c:Nat),j<=8/\v=Æ q j c/\i=Ç Ê j/\MK wa 23 1 (Æ q j c) j (j5<|L.take j) wr) λ_ i _=>8-(Þ i).toNat
 case atStart=>exact⟨0,Ã,0,eD _,U,U,MK.C wa⟩
 case round=>
  obtain⟨j,q,c,M,rfl,rfl,g⟩:=hrel;obtain⟨B,rfl⟩:∃B,B=wr:=⟨_,U⟩;have H:=fv g;clear g;by_cases I:j<8
  .have J:∀i,i<144->B.cell? ⟨vb,i,Ã⟩=Â (mg s i):=λi hi=>H.r.r (b.1.r i _<|vo s hi) id;have O:=J j Z;have q1:=J (8+j) Z;rw[D8 I]at O;rw[JU I]at q1;have sl:∀k,k<16->B.cell? ⟨vb,16+j*16+k,Ã⟩=Â (Ç Ð (((s j).r k).toNat:Nat)):=λk o=>by
    have:=J (16+j*16+k) Z;rw[NR o]at this;rw[this];have:=(b.2.2.2.2.2.C j k).1;grind
   obtain⟨f,Q⟩:∃f:Nat,(s j).fC=f:=⟨(s j).fC.toNat,by have:=(b.2.2.2.2.2.fC j).1;omega⟩;have ar9:f<18446744073709551616:=by have:=(b.2.2.2.2.2.fC j).2;omega
   have D:=b.2.2.1 j I;rw[show BD (s j)=su (oK (lf (s j).fC.toNat)<|pV 4<|pj (wM<|s j) 16) (s j).C.data.toList from rfl,Q,dO]at D;rw[Q]at O;have hSg:∀k,k<16->(pj (wM<|s j) 16)[k]?=Â (lf ((s j).r k).toNat):=λk o=>by rw[TD _ _ _ o,if_pos o];simp[wM,Ċ,dW o]
   have V:=FY (wM<|s j) 16;have X:wL (pj (wM<|s j) 16):=FW A λx N=>by obtain⟨t,G,rfl⟩:=cI.1 N;split;exact BB _;decide
   have NS:∀k,((s j).r k).toNat<18446744073709551616:=λk=>by have h1:=(b.2.2.2.2.2.C j k).1;have h2:=(b.2.2.2.2.2.C j k).2;omega
   have awo:=(b.2.2.2.2.2.I j).1;generalize pj (wM<|s j) 16=S at*;generalize(s j).C=P at*;have Y:=λa=>JQ 14695981039346656037 f A ar9 a;rw[show oK 14695981039346656037 f=lf f from rfl]at Y;have C1:=λa=>JQ (lf f) (pV 4 S) (BB f) (M8 4 S X) a;have sf:=DK (lf f) (pV 4 S)<|BB f;generalize lf f=z0 at*;have CP:=λa p n cp (h:ie 23 (Æ p n cp) S.length (j5 S) a)=>ach 4 h V A X;generalize pV 4 S=T at*;generalize oK z0 T=z1 at*;have m:=fv<|Á sl<|Á hSg<|Á V<|Á NS<|Á Y<|Á C1<|Á CP<|Á D sf;clear J sl hSg V X NS Y C1 CP D sf Q;have asa:(j:Int)<8:=Z;have hd8:decide ((j:Int)<8)=Í:=decide_eq_true asa;go_wp2;try rw[hd8]
   go_loopw [5,6] (λv i wq=>∃(k:Nat)(q:Option ø)(c:Nat),k<=16/\v=Æ q k c/\i=Ç Ê k/\MK B 23 1 (Æ q k c) k (j5<|S.take k) wq) λ_ i _=>16-(Þ i).toNat
   case atStart=>exact⟨0,Ã,0,eD _,U,U,MK.C B⟩
   case round=>
    obtain⟨k,q2,c2,o,rfl,rfl,g⟩:=hrel;by_cases UU:k<16
    .have d1:=g.r.r (m.1 k UU) id;have G:=aci<|m.2.1 k UU;have C:=λa=>JQ 14695981039346656037 ((s j).r k).toNat A (m.2.2.2.1 k) a;rw[show oK 14695981039346656037 ((s j).r k).toNat=lf ((s j).r k).toNat from rfl]at C;have E:=fv<|Á g G;clear g G;generalize lf ((s j).r k).toNat=y at*;generalize((s j).r k).toNat=a1 at*;have HK:=fv C;clear C;go_wp2_with (first|(go_at_call 123;with_reducible refine iT (HK.oQ _) ?_)|(at_builtin;refine D7 FI ú (E.1.fH kp) Z U ?_ (ã _ _ _) (by simp[Ă]) U U U U U U;intro ta tc W F;have JV:=fv F;clear F))
     go_roundw
     case rel=>exact⟨k+1,ta,tc,UU,U,by go_num,by rw[E.oQ.2];exact JV⟩
     case measure=>simp[Þ];omega
    .obtain rfl:k=16:=Z;have d1:=g.r.r O id;have CQ:=m.2.2.2.2.2.2.1 wr q2 16 c2 (by have:=g.I;rw[eG (by rw[m.oQ.2.2.1];decide)]at this;rw[m.oQ.2.2.1];exact this);have E:=fv<|Á g CQ;clear g CQ;go_wp2_with (first|(go_at_call 123;(first|with_reducible refine Đ (m.oQ.2.2.2.2.1 _) ?_|with_reducible refine Đ (m.oQ.2.2.2.2.2.1 _) ?_);rintro e u ⟨rfl,hw⟩;subst u)|(go_at_call 124;refine gl E.2 λw5 UW=> ?_;have d5:=(E.1.r.fA UW).r q1 id;have H5:=fv UW;clear UW))
     go_loop [8,9] (λd i=>∃k:Nat,k<=P.size/\i=Ç Ê k/\d=Ç Ð (su z1<|P.data.toList.take k)) λ_ i=>P.size-(Þ i).toNat
     case atStart=>exact⟨0,eD _,U,by rw[List.take_zero,ar7]⟩
     case round=>
      obtain⟨n,hn,rfl,rfl⟩:=hrel;by_cases F1:n<P.size
      .have K:=abZ (su z1<|P.data.toList.take n) P[n].toNat (aal _ _ m.2.2.2.2.2.2.2.2) (by have:=P[n].toNat_lt;omega) w5;rw[ar6 z1 F1]at K;obtain⟨y',Cb⟩:∃y,su z1 (P.data.toList.take<|n+1)=y:=⟨_,U⟩;rw[Cb]at K;have HY:=fv<|Á Cb K;clear Cb K;generalize su z1 (P.data.toList.take n)=x at*;have zF:((P[n].toNat:Nat):Int)<256:=by have:=P[n].toNat_lt;omega
       have hcw:Ð.wrap ((P[n].toNat:Nat):Int)=((P[n].toNat:Nat):Int):=sj Z Z;go_wp2_with (go_at_call 125;with_reducible refine gl HY.oQ.2 λu hw=> ?_;subst u);go_round
       case rel=>exact⟨n+1,F1,by go_num,by rw[HY.oQ.1]⟩
       case measure=>simp[Þ];omega
      .obtain rfl:n=P.size:=Z;rw[(eG<|by rw[dU];exact eE _)];have D:=aci m.2.2.2.2.2.2.2.1;generalize su z1 P.data.toList=z at*;have HZ:=fv<|Á D<|H.fH<|E.1.r.fA H5.oQ;clear D;go_wp2_with (at_builtin;refine D7 FI ú (HZ.2.fH kp) Z U ?_ (ã _ _ _) (by simp[Ă]) U U U U U U;intro ta tc W F;have JV:=fv F;clear F);go_roundw
       case rel=>exact⟨j+1,ta,tc,I,U,by go_num,by rw[HZ.oQ.1];exact JV⟩
       case measure=>simp[Þ];omega
  .obtain rfl:j=8:=Z;have C:=ach (l:=L) 3 (by have:=H.I;rw[eG (by rw[b.oQ.2.2.2.1];decide)]at this;rw[b.oQ.2.2.2.1];exact this) b.2.2.2.1 A b.2.2.2.2.1;rw[HR.oQ]at C;go_wp2_with (go_at_call 124;refine gl C λu o=> ?_);go_ret;exact⟨U,(b.2.1.fA H.r).fA o⟩
end gO
end Go.Proofs.Y
