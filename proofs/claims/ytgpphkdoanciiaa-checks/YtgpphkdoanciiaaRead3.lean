/-
  The program's loop over the bytes of a batch: it does what the plain run says.
-/
import Derived.Test.YtgpphkdoanciiaaRdA
import Derived.Test.YtgpphkdoanciiaaRdB
import Derived.Test.YtgpphkdoanciiaaRdC
import Derived.Test.YtgpphkdoanciiaaRdD
namespace Go.Proofs.Ytgpphkdoanciiaa
open Go.RowKit

set_option maxRecDepth 100000 in
set_option maxHeartbeats 4000000 in
theorem rd_round {K : Act → World → Prop} {X : Act → World → Prop} (b k : Nat) (B : ByteArray) (g : Gh) (s : ByteArray) (st : AS) (w' : World) (u6 u7 u8 u9 u10 u11 u12 u13 u14 u15 u16 u17 u18 u19 u20 u21 u22 u23 u24 u25 u26 u27 u28 u29 u30 u31 u32 u33 u34 u35 u36 u37 u38 u39 u40 u41 u42 u43 u44 u45 u46 u47 u48 u49 u50 u51 u52 u53 u54 u55 u56 u57 u58 u59 u60 u61 u62 u63 u64 u65 u66 u67 u68 u69 u70 u71 u72 u73 u74 u75 u76 u77 u78 u79 u80 u81 u82 u83 u84 u85 u86 u87 u88 u89 u90 u91 u92 u93 u94 u95 u96 u97 u98 u99 u100 u101 u102 u103 u104 u105 u106 u107 u108 u109 u110 u111 u112 u113 u114 u115 u116 u117 u118 u119 u120 u121 u122 u123 u124 u125 u126 u127 u128 u129 u130 u131 u132 u133 u134 u135 u136 u137 u138 u139 u140 u141 u142 u143 u144 u145 u146 : Value)
    (hr : AR b g s st w') (hok : OkS k st) (hB : B.size ≤ 1200) (hlt : k < B.size)
    (hK : ∀ a v, Fr b B (.int .i64 ((k : Int) + 1)) a ∧ Nxt b B k st w' v → K a v) (hQ : ∀ a v, Fr b B (.int .i64 k) a ∧ Stp b B k st w' v → X a v) :
    Code.wp Try.prog rdBody (Exit.then K (QQ X)) ⟨#[.pointer (some ⟨b, 0, none⟩), .string B, undef, undef, .int .i64 0, .int .i64 k, u6, u7, u8, u9, u10, u11, u12, u13, u14, u15, u16, u17, u18, u19, u20, u21, u22, u23, u24, u25, u26, u27, u28, u29, u30, u31, u32, u33, u34, u35, u36, u37, u38, u39, u40, u41, u42, u43, u44, u45, u46, u47, u48, u49, u50, u51, u52, u53, u54, u55, u56, u57, u58, u59, u60, u61, u62, u63, u64, u65, u66, u67, u68, u69, u70, u71, u72, u73, u74, u75, u76, u77, u78, u79, u80, u81, u82, u83, u84, u85, u86, u87, u88, u89, u90, u91, u92, u93, u94, u95, u96, u97, u98, u99, u100, u101, u102, u103, u104, u105, u106, u107, u108, u109, u110, u111, u112, u113, u114, u115, u116, u117, u118, u119, u120, u121, u122, u123, u124, u125, u126, u127, u128, u129, u130, u131, u132, u133, u134, u135, u136, u137, u138, u139, u140, u141, u142, u143, u144, u145, u146], []⟩ w' := by
  by_cases hA : 0 < st.dig ∧ isD (B[k].toNat : Int) = true
  · exact rd_digit b k B g s st w' u6 u7 u8 u9 u10 u11 u12 u13 u14 u15 u16 u17 u18 u19 u20 u21 u22 u23 u24 u25 u26 u27 u28 u29 u30 u31 u32 u33 u34 u35 u36 u37 u38 u39 u40 u41 u42 u43 u44 u45 u46 u47 u48 u49 u50 u51 u52 u53 u54 u55 u56 u57 u58 u59 u60 u61 u62 u63 u64 u65 u66 u67 u68 u69 u70 u71 u72 u73 u74 u75 u76 u77 u78 u79 u80 u81 u82 u83 u84 u85 u86 u87 u88 u89 u90 u91 u92 u93 u94 u95 u96 u97 u98 u99 u100 u101 u102 u103 u104 u105 u106 u107 u108 u109 u110 u111 u112 u113 u114 u115 u116 u117 u118 u119 u120 u121 u122 u123 u124 u125 u126 u127 u128 u129 u130 u131 u132 u133 u134 u135 u136 u137 u138 u139 u140 u141 u142 u143 u144 u145 u146 hr hok hB hlt hA.1 hA.2 hK hQ
  have hdg : (0 < st.dig ∧ isD (B[k].toNat : Int) = false) ∨ st.dig ≤ 0 := by
    by_cases h1 : 0 < st.dig
    · left; refine ⟨h1, ?_⟩
      cases h2 : isD (B[k].toNat : Int) with
      | false => rfl
      | true => exact absurd ⟨h1, h2⟩ hA
    · right; omega
  by_cases hz : s.size = 0
  · exact rd_nil b k B g s st w' u6 u7 u8 u9 u10 u11 u12 u13 u14 u15 u16 u17 u18 u19 u20 u21 u22 u23 u24 u25 u26 u27 u28 u29 u30 u31 u32 u33 u34 u35 u36 u37 u38 u39 u40 u41 u42 u43 u44 u45 u46 u47 u48 u49 u50 u51 u52 u53 u54 u55 u56 u57 u58 u59 u60 u61 u62 u63 u64 u65 u66 u67 u68 u69 u70 u71 u72 u73 u74 u75 u76 u77 u78 u79 u80 u81 u82 u83 u84 u85 u86 u87 u88 u89 u90 u91 u92 u93 u94 u95 u96 u97 u98 u99 u100 u101 u102 u103 u104 u105 u106 u107 u108 u109 u110 u111 u112 u113 u114 u115 u116 u117 u118 u119 u120 u121 u122 u123 u124 u125 u126 u127 u128 u129 u130 u131 u132 u133 u134 u135 u136 u137 u138 u139 u140 u141 u142 u143 u144 u145 u146 hr hok hB hlt hdg hz hK hQ
  have hs0 : 0 < s.size := by omega
  by_cases hR : (s[0].toNat : Int) = 82
  · exact rd_req b k B g s st w' u6 u7 u8 u9 u10 u11 u12 u13 u14 u15 u16 u17 u18 u19 u20 u21 u22 u23 u24 u25 u26 u27 u28 u29 u30 u31 u32 u33 u34 u35 u36 u37 u38 u39 u40 u41 u42 u43 u44 u45 u46 u47 u48 u49 u50 u51 u52 u53 u54 u55 u56 u57 u58 u59 u60 u61 u62 u63 u64 u65 u66 u67 u68 u69 u70 u71 u72 u73 u74 u75 u76 u77 u78 u79 u80 u81 u82 u83 u84 u85 u86 u87 u88 u89 u90 u91 u92 u93 u94 u95 u96 u97 u98 u99 u100 u101 u102 u103 u104 u105 u106 u107 u108 u109 u110 u111 u112 u113 u114 u115 u116 u117 u118 u119 u120 u121 u122 u123 u124 u125 u126 u127 u128 u129 u130 u131 u132 u133 u134 u135 u136 u137 u138 u139 u140 u141 u142 u143 u144 u145 u146 hr hok hB hlt hdg hs0 hR hK hQ
  by_cases hBk : (s[0].toNat : Int) = 66
  · cases hac : isA (B[k].toNat : Int) with
    | true => exact rd_blk b k B g s st w' u6 u7 u8 u9 u10 u11 u12 u13 u14 u15 u16 u17 u18 u19 u20 u21 u22 u23 u24 u25 u26 u27 u28 u29 u30 u31 u32 u33 u34 u35 u36 u37 u38 u39 u40 u41 u42 u43 u44 u45 u46 u47 u48 u49 u50 u51 u52 u53 u54 u55 u56 u57 u58 u59 u60 u61 u62 u63 u64 u65 u66 u67 u68 u69 u70 u71 u72 u73 u74 u75 u76 u77 u78 u79 u80 u81 u82 u83 u84 u85 u86 u87 u88 u89 u90 u91 u92 u93 u94 u95 u96 u97 u98 u99 u100 u101 u102 u103 u104 u105 u106 u107 u108 u109 u110 u111 u112 u113 u114 u115 u116 u117 u118 u119 u120 u121 u122 u123 u124 u125 u126 u127 u128 u129 u130 u131 u132 u133 u134 u135 u136 u137 u138 u139 u140 u141 u142 u143 u144 u145 u146 hr hok hB hlt hdg hs0 hBk hac hK hQ
    | false => exact rd_blkno b k B g s st w' u6 u7 u8 u9 u10 u11 u12 u13 u14 u15 u16 u17 u18 u19 u20 u21 u22 u23 u24 u25 u26 u27 u28 u29 u30 u31 u32 u33 u34 u35 u36 u37 u38 u39 u40 u41 u42 u43 u44 u45 u46 u47 u48 u49 u50 u51 u52 u53 u54 u55 u56 u57 u58 u59 u60 u61 u62 u63 u64 u65 u66 u67 u68 u69 u70 u71 u72 u73 u74 u75 u76 u77 u78 u79 u80 u81 u82 u83 u84 u85 u86 u87 u88 u89 u90 u91 u92 u93 u94 u95 u96 u97 u98 u99 u100 u101 u102 u103 u104 u105 u106 u107 u108 u109 u110 u111 u112 u113 u114 u115 u116 u117 u118 u119 u120 u121 u122 u123 u124 u125 u126 u127 u128 u129 u130 u131 u132 u133 u134 u135 u136 u137 u138 u139 u140 u141 u142 u143 u144 u145 u146 hr hok hB hlt hdg hs0 hBk hac hK hQ
  by_cases hT : (s[0].toNat : Int) = 84
  · exact rd_tx b k B g s st w' u6 u7 u8 u9 u10 u11 u12 u13 u14 u15 u16 u17 u18 u19 u20 u21 u22 u23 u24 u25 u26 u27 u28 u29 u30 u31 u32 u33 u34 u35 u36 u37 u38 u39 u40 u41 u42 u43 u44 u45 u46 u47 u48 u49 u50 u51 u52 u53 u54 u55 u56 u57 u58 u59 u60 u61 u62 u63 u64 u65 u66 u67 u68 u69 u70 u71 u72 u73 u74 u75 u76 u77 u78 u79 u80 u81 u82 u83 u84 u85 u86 u87 u88 u89 u90 u91 u92 u93 u94 u95 u96 u97 u98 u99 u100 u101 u102 u103 u104 u105 u106 u107 u108 u109 u110 u111 u112 u113 u114 u115 u116 u117 u118 u119 u120 u121 u122 u123 u124 u125 u126 u127 u128 u129 u130 u131 u132 u133 u134 u135 u136 u137 u138 u139 u140 u141 u142 u143 u144 u145 u146 hr hok hB hlt hdg hs0 hT hK hQ
  by_cases hP : (s[0].toNat : Int) = 80
  · by_cases hce : (B[k].toNat : Int) = 125
    · exact rd_pend b k B g s st w' u6 u7 u8 u9 u10 u11 u12 u13 u14 u15 u16 u17 u18 u19 u20 u21 u22 u23 u24 u25 u26 u27 u28 u29 u30 u31 u32 u33 u34 u35 u36 u37 u38 u39 u40 u41 u42 u43 u44 u45 u46 u47 u48 u49 u50 u51 u52 u53 u54 u55 u56 u57 u58 u59 u60 u61 u62 u63 u64 u65 u66 u67 u68 u69 u70 u71 u72 u73 u74 u75 u76 u77 u78 u79 u80 u81 u82 u83 u84 u85 u86 u87 u88 u89 u90 u91 u92 u93 u94 u95 u96 u97 u98 u99 u100 u101 u102 u103 u104 u105 u106 u107 u108 u109 u110 u111 u112 u113 u114 u115 u116 u117 u118 u119 u120 u121 u122 u123 u124 u125 u126 u127 u128 u129 u130 u131 u132 u133 u134 u135 u136 u137 u138 u139 u140 u141 u142 u143 u144 u145 u146 hr hok hB hlt hdg hs0 hP hce hK hQ
    by_cases h40 : st.stp = 40
    · exact rd_pfull b k B g s st w' u6 u7 u8 u9 u10 u11 u12 u13 u14 u15 u16 u17 u18 u19 u20 u21 u22 u23 u24 u25 u26 u27 u28 u29 u30 u31 u32 u33 u34 u35 u36 u37 u38 u39 u40 u41 u42 u43 u44 u45 u46 u47 u48 u49 u50 u51 u52 u53 u54 u55 u56 u57 u58 u59 u60 u61 u62 u63 u64 u65 u66 u67 u68 u69 u70 u71 u72 u73 u74 u75 u76 u77 u78 u79 u80 u81 u82 u83 u84 u85 u86 u87 u88 u89 u90 u91 u92 u93 u94 u95 u96 u97 u98 u99 u100 u101 u102 u103 u104 u105 u106 u107 u108 u109 u110 u111 u112 u113 u114 u115 u116 u117 u118 u119 u120 u121 u122 u123 u124 u125 u126 u127 u128 u129 u130 u131 u132 u133 u134 u135 u136 u137 u138 u139 u140 u141 u142 u143 u144 u145 u146 hr hok hB hlt hdg hs0 hP hce h40 hK hQ
    cases hi : isStep (B[k].toNat : Int) with
    | true => exact rd_pstep b k B g s st w' u6 u7 u8 u9 u10 u11 u12 u13 u14 u15 u16 u17 u18 u19 u20 u21 u22 u23 u24 u25 u26 u27 u28 u29 u30 u31 u32 u33 u34 u35 u36 u37 u38 u39 u40 u41 u42 u43 u44 u45 u46 u47 u48 u49 u50 u51 u52 u53 u54 u55 u56 u57 u58 u59 u60 u61 u62 u63 u64 u65 u66 u67 u68 u69 u70 u71 u72 u73 u74 u75 u76 u77 u78 u79 u80 u81 u82 u83 u84 u85 u86 u87 u88 u89 u90 u91 u92 u93 u94 u95 u96 u97 u98 u99 u100 u101 u102 u103 u104 u105 u106 u107 u108 u109 u110 u111 u112 u113 u114 u115 u116 u117 u118 u119 u120 u121 u122 u123 u124 u125 u126 u127 u128 u129 u130 u131 u132 u133 u134 u135 u136 u137 u138 u139 u140 u141 u142 u143 u144 u145 u146 hr hok hB hlt hdg hs0 hP hce h40 hi hK hQ
    | false => exact rd_pno b k B g s st w' u6 u7 u8 u9 u10 u11 u12 u13 u14 u15 u16 u17 u18 u19 u20 u21 u22 u23 u24 u25 u26 u27 u28 u29 u30 u31 u32 u33 u34 u35 u36 u37 u38 u39 u40 u41 u42 u43 u44 u45 u46 u47 u48 u49 u50 u51 u52 u53 u54 u55 u56 u57 u58 u59 u60 u61 u62 u63 u64 u65 u66 u67 u68 u69 u70 u71 u72 u73 u74 u75 u76 u77 u78 u79 u80 u81 u82 u83 u84 u85 u86 u87 u88 u89 u90 u91 u92 u93 u94 u95 u96 u97 u98 u99 u100 u101 u102 u103 u104 u105 u106 u107 u108 u109 u110 u111 u112 u113 u114 u115 u116 u117 u118 u119 u120 u121 u122 u123 u124 u125 u126 u127 u128 u129 u130 u131 u132 u133 u134 u135 u136 u137 u138 u139 u140 u141 u142 u143 u144 u145 u146 hr hok hB hlt hdg hs0 hP hce h40 hi hK hQ
  cases hf : fits (s[0].toNat : Int) (B[k].toNat : Int) with
  | true => exact rd_fit b k B g s st w' u6 u7 u8 u9 u10 u11 u12 u13 u14 u15 u16 u17 u18 u19 u20 u21 u22 u23 u24 u25 u26 u27 u28 u29 u30 u31 u32 u33 u34 u35 u36 u37 u38 u39 u40 u41 u42 u43 u44 u45 u46 u47 u48 u49 u50 u51 u52 u53 u54 u55 u56 u57 u58 u59 u60 u61 u62 u63 u64 u65 u66 u67 u68 u69 u70 u71 u72 u73 u74 u75 u76 u77 u78 u79 u80 u81 u82 u83 u84 u85 u86 u87 u88 u89 u90 u91 u92 u93 u94 u95 u96 u97 u98 u99 u100 u101 u102 u103 u104 u105 u106 u107 u108 u109 u110 u111 u112 u113 u114 u115 u116 u117 u118 u119 u120 u121 u122 u123 u124 u125 u126 u127 u128 u129 u130 u131 u132 u133 u134 u135 u136 u137 u138 u139 u140 u141 u142 u143 u144 u145 u146 hr hok hB hlt hdg hs0 hR hBk hT hP hf hK hQ
  | false => exact rd_fitno b k B g s st w' u6 u7 u8 u9 u10 u11 u12 u13 u14 u15 u16 u17 u18 u19 u20 u21 u22 u23 u24 u25 u26 u27 u28 u29 u30 u31 u32 u33 u34 u35 u36 u37 u38 u39 u40 u41 u42 u43 u44 u45 u46 u47 u48 u49 u50 u51 u52 u53 u54 u55 u56 u57 u58 u59 u60 u61 u62 u63 u64 u65 u66 u67 u68 u69 u70 u71 u72 u73 u74 u75 u76 u77 u78 u79 u80 u81 u82 u83 u84 u85 u86 u87 u88 u89 u90 u91 u92 u93 u94 u95 u96 u97 u98 u99 u100 u101 u102 u103 u104 u105 u106 u107 u108 u109 u110 u111 u112 u113 u114 u115 u116 u117 u118 u119 u120 u121 u122 u123 u124 u125 u126 u127 u128 u129 u130 u131 u132 u133 u134 u135 u136 u137 u138 u139 u140 u141 u142 u143 u144 u145 u146 hr hok hB hlt hdg hs0 hR hBk hT hP hf hK hQ

set_option maxRecDepth 100000 in
set_option maxHeartbeats 4000000 in
theorem rd_out {K : Act → World → Prop} {X : Act → World → Prop} (b k : Nat) (B : ByteArray) (wr : World) (u6 u7 u8 u9 u10 u11 u12 u13 u14 u15 u16 u17 u18 u19 u20 u21 u22 u23 u24 u25 u26 u27 u28 u29 u30 u31 u32 u33 u34 u35 u36 u37 u38 u39 u40 u41 u42 u43 u44 u45 u46 u47 u48 u49 u50 u51 u52 u53 u54 u55 u56 u57 u58 u59 u60 u61 u62 u63 u64 u65 u66 u67 u68 u69 u70 u71 u72 u73 u74 u75 u76 u77 u78 u79 u80 u81 u82 u83 u84 u85 u86 u87 u88 u89 u90 u91 u92 u93 u94 u95 u96 u97 u98 u99 u100 u101 u102 u103 u104 u105 u106 u107 u108 u109 u110 u111 u112 u113 u114 u115 u116 u117 u118 u119 u120 u121 u122 u123 u124 u125 u126 u127 u128 u129 u130 u131 u132 u133 u134 u135 u136 u137 u138 u139 u140 u141 u142 u143 u144 u145 u146 : Value) (_hB : B.size ≤ 1200) (hlt : ¬ k < B.size) (_hk : k ≤ B.size)
    (hQ : ∀ a v, Fr b B (.int .i64 k) a ∧ v = wr → X a v) :
    Code.wp Try.prog rdBody (Exit.then K (QQ X)) ⟨#[.pointer (some ⟨b, 0, none⟩), .string B, undef, undef, .int .i64 0, .int .i64 k, u6, u7, u8, u9, u10, u11, u12, u13, u14, u15, u16, u17, u18, u19, u20, u21, u22, u23, u24, u25, u26, u27, u28, u29, u30, u31, u32, u33, u34, u35, u36, u37, u38, u39, u40, u41, u42, u43, u44, u45, u46, u47, u48, u49, u50, u51, u52, u53, u54, u55, u56, u57, u58, u59, u60, u61, u62, u63, u64, u65, u66, u67, u68, u69, u70, u71, u72, u73, u74, u75, u76, u77, u78, u79, u80, u81, u82, u83, u84, u85, u86, u87, u88, u89, u90, u91, u92, u93, u94, u95, u96, u97, u98, u99, u100, u101, u102, u103, u104, u105, u106, u107, u108, u109, u110, u111, u112, u113, u114, u115, u116, u117, u118, u119, u120, u121, u122, u123, u124, u125, u126, u127, u128, u129, u130, u131, u132, u133, u134, u135, u136, u137, u138, u139, u140, u141, u142, u143, u144, u145, u146], []⟩ wr := by
  conv => arg 2; whnf
  go_wp2
  first | exact hQ _ _ ⟨⟨_, _, _, _, _, _, _, _, _, _, _, _, _, _, _, _, _, _, _, _, _, _, _, _, _, _, _, _, _, _, _, _, _, _, _, _, _, _, _, _, _, _, _, _, _, _, _, _, _, _, _, _, _, _, _, _, _, _, _, _, _, _, _, _, _, _, _, _, _, _, _, _, _, _, _, _, _, _, _, _, _, _, _, _, _, _, _, _, _, _, _, _, _, _, _, _, _, _, _, _, _, _, _, _, _, _, _, _, _, _, _, _, _, _, _, _, _, _, _, _, _, _, _, _, _, _, _, _, _, _, _, _, _, _, _, _, _, _, _, _, _, rfl⟩, rfl⟩ | exact ⟨⟨_, _, _, _, _, _, _, _, _, _, _, _, _, _, _, _, _, _, _, _, _, _, _, _, _, _, _, _, _, _, _, _, _, _, _, _, _, _, _, _, _, _, _, _, _, _, _, _, _, _, _, _, _, _, _, _, _, _, _, _, _, _, _, _, _, _, _, _, _, _, _, _, _, _, _, _, _, _, _, _, _, _, _, _, _, _, _, _, _, _, _, _, _, _, _, _, _, _, _, _, _, _, _, _, _, _, _, _, _, _, _, _, _, _, _, _, _, _, _, _, _, _, _, _, _, _, _, _, _, _, _, _, _, _, _, _, _, _, _, _, _, rfl⟩, rfl⟩

/-- where the loop stands -/
def RI (b : Nat) (B : ByteArray) (st0 : AS) (w : World) (a : Act) (wr : World) : Prop :=
  ∃ (k : Nat) (g : Gh) (s : ByteArray) (st : AS), k ≤ B.size ∧ Fr b B (.int .i64 k) a ∧ AR b g s st wr ∧ Below b w wr ∧ OkS k st ∧ nRun (txt B) 0 st0 = nRun ((txt B).drop k) k st
def Rmu (B : ByteArray) (a : Act) (_ : World) : Nat := B.size - (intOf (a.tmps.getD 5 undef)).toNat
/-- what the loop leaves -/
def RX (b : Nat) (B : ByteArray) (st0 : AS) (w : World) (a : Act) (wr : World) : Prop :=
  ∃ k : Nat, k ≤ B.size ∧ Fr b B (.int .i64 k) a ∧ Below b w wr ∧ (∃ g s st, AR b g s st wr) ∧ ((k < B.size ∧ nRun (txt B) 0 st0 = ((k : Int), false)) ∨ (k = B.size ∧ ∃ g s st, AR b g s st wr ∧ nRun (txt B) 0 st0 = nRun [] (B.size : Int) st))
set_option maxRecDepth 1000000 in
theorem fr_mu {b : Nat} {B : ByteArray} {i : Int} {a : Act} {w : World} (h : Fr b B (.int .i64 i) a) : Rmu B a w = B.size - i.toNat := by
  unfold Fr at h
  obtain ⟨u6, h⟩ := h
  obtain ⟨u7, h⟩ := h
  obtain ⟨u8, h⟩ := h
  obtain ⟨u9, h⟩ := h
  obtain ⟨u10, h⟩ := h
  obtain ⟨u11, h⟩ := h
  obtain ⟨u12, h⟩ := h
  obtain ⟨u13, h⟩ := h
  obtain ⟨u14, h⟩ := h
  obtain ⟨u15, h⟩ := h
  obtain ⟨u16, h⟩ := h
  obtain ⟨u17, h⟩ := h
  obtain ⟨u18, h⟩ := h
  obtain ⟨u19, h⟩ := h
  obtain ⟨u20, h⟩ := h
  obtain ⟨u21, h⟩ := h
  obtain ⟨u22, h⟩ := h
  obtain ⟨u23, h⟩ := h
  obtain ⟨u24, h⟩ := h
  obtain ⟨u25, h⟩ := h
  obtain ⟨u26, h⟩ := h
  obtain ⟨u27, h⟩ := h
  obtain ⟨u28, h⟩ := h
  obtain ⟨u29, h⟩ := h
  obtain ⟨u30, h⟩ := h
  obtain ⟨u31, h⟩ := h
  obtain ⟨u32, h⟩ := h
  obtain ⟨u33, h⟩ := h
  obtain ⟨u34, h⟩ := h
  obtain ⟨u35, h⟩ := h
  obtain ⟨u36, h⟩ := h
  obtain ⟨u37, h⟩ := h
  obtain ⟨u38, h⟩ := h
  obtain ⟨u39, h⟩ := h
  obtain ⟨u40, h⟩ := h
  obtain ⟨u41, h⟩ := h
  obtain ⟨u42, h⟩ := h
  obtain ⟨u43, h⟩ := h
  obtain ⟨u44, h⟩ := h
  obtain ⟨u45, h⟩ := h
  obtain ⟨u46, h⟩ := h
  obtain ⟨u47, h⟩ := h
  obtain ⟨u48, h⟩ := h
  obtain ⟨u49, h⟩ := h
  obtain ⟨u50, h⟩ := h
  obtain ⟨u51, h⟩ := h
  obtain ⟨u52, h⟩ := h
  obtain ⟨u53, h⟩ := h
  obtain ⟨u54, h⟩ := h
  obtain ⟨u55, h⟩ := h
  obtain ⟨u56, h⟩ := h
  obtain ⟨u57, h⟩ := h
  obtain ⟨u58, h⟩ := h
  obtain ⟨u59, h⟩ := h
  obtain ⟨u60, h⟩ := h
  obtain ⟨u61, h⟩ := h
  obtain ⟨u62, h⟩ := h
  obtain ⟨u63, h⟩ := h
  obtain ⟨u64, h⟩ := h
  obtain ⟨u65, h⟩ := h
  obtain ⟨u66, h⟩ := h
  obtain ⟨u67, h⟩ := h
  obtain ⟨u68, h⟩ := h
  obtain ⟨u69, h⟩ := h
  obtain ⟨u70, h⟩ := h
  obtain ⟨u71, h⟩ := h
  obtain ⟨u72, h⟩ := h
  obtain ⟨u73, h⟩ := h
  obtain ⟨u74, h⟩ := h
  obtain ⟨u75, h⟩ := h
  obtain ⟨u76, h⟩ := h
  obtain ⟨u77, h⟩ := h
  obtain ⟨u78, h⟩ := h
  obtain ⟨u79, h⟩ := h
  obtain ⟨u80, h⟩ := h
  obtain ⟨u81, h⟩ := h
  obtain ⟨u82, h⟩ := h
  obtain ⟨u83, h⟩ := h
  obtain ⟨u84, h⟩ := h
  obtain ⟨u85, h⟩ := h
  obtain ⟨u86, h⟩ := h
  obtain ⟨u87, h⟩ := h
  obtain ⟨u88, h⟩ := h
  obtain ⟨u89, h⟩ := h
  obtain ⟨u90, h⟩ := h
  obtain ⟨u91, h⟩ := h
  obtain ⟨u92, h⟩ := h
  obtain ⟨u93, h⟩ := h
  obtain ⟨u94, h⟩ := h
  obtain ⟨u95, h⟩ := h
  obtain ⟨u96, h⟩ := h
  obtain ⟨u97, h⟩ := h
  obtain ⟨u98, h⟩ := h
  obtain ⟨u99, h⟩ := h
  obtain ⟨u100, h⟩ := h
  obtain ⟨u101, h⟩ := h
  obtain ⟨u102, h⟩ := h
  obtain ⟨u103, h⟩ := h
  obtain ⟨u104, h⟩ := h
  obtain ⟨u105, h⟩ := h
  obtain ⟨u106, h⟩ := h
  obtain ⟨u107, h⟩ := h
  obtain ⟨u108, h⟩ := h
  obtain ⟨u109, h⟩ := h
  obtain ⟨u110, h⟩ := h
  obtain ⟨u111, h⟩ := h
  obtain ⟨u112, h⟩ := h
  obtain ⟨u113, h⟩ := h
  obtain ⟨u114, h⟩ := h
  obtain ⟨u115, h⟩ := h
  obtain ⟨u116, h⟩ := h
  obtain ⟨u117, h⟩ := h
  obtain ⟨u118, h⟩ := h
  obtain ⟨u119, h⟩ := h
  obtain ⟨u120, h⟩ := h
  obtain ⟨u121, h⟩ := h
  obtain ⟨u122, h⟩ := h
  obtain ⟨u123, h⟩ := h
  obtain ⟨u124, h⟩ := h
  obtain ⟨u125, h⟩ := h
  obtain ⟨u126, h⟩ := h
  obtain ⟨u127, h⟩ := h
  obtain ⟨u128, h⟩ := h
  obtain ⟨u129, h⟩ := h
  obtain ⟨u130, h⟩ := h
  obtain ⟨u131, h⟩ := h
  obtain ⟨u132, h⟩ := h
  obtain ⟨u133, h⟩ := h
  obtain ⟨u134, h⟩ := h
  obtain ⟨u135, h⟩ := h
  obtain ⟨u136, h⟩ := h
  obtain ⟨u137, h⟩ := h
  obtain ⟨u138, h⟩ := h
  obtain ⟨u139, h⟩ := h
  obtain ⟨u140, h⟩ := h
  obtain ⟨u141, h⟩ := h
  obtain ⟨u142, h⟩ := h
  obtain ⟨u143, h⟩ := h
  obtain ⟨u144, h⟩ := h
  obtain ⟨u145, h⟩ := h
  obtain ⟨u146, h⟩ := h
  subst h
  rfl

set_option maxRecDepth 100000 in
set_option maxHeartbeats 4000000 in
theorem rd_loop (b : Nat) (B : ByteArray) (g : Gh) (s : ByteArray) (st0 : AS) (w : World) (u6 u7 u8 u9 u10 u11 u12 u13 u14 u15 u16 u17 u18 u19 u20 u21 u22 u23 u24 u25 u26 u27 u28 u29 u30 u31 u32 u33 u34 u35 u36 u37 u38 u39 u40 u41 u42 u43 u44 u45 u46 u47 u48 u49 u50 u51 u52 u53 u54 u55 u56 u57 u58 u59 u60 u61 u62 u63 u64 u65 u66 u67 u68 u69 u70 u71 u72 u73 u74 u75 u76 u77 u78 u79 u80 u81 u82 u83 u84 u85 u86 u87 u88 u89 u90 u91 u92 u93 u94 u95 u96 u97 u98 u99 u100 u101 u102 u103 u104 u105 u106 u107 u108 u109 u110 u111 u112 u113 u114 u115 u116 u117 u118 u119 u120 u121 u122 u123 u124 u125 u126 u127 u128 u129 u130 u131 u132 u133 u134 u135 u136 u137 u138 u139 u140 u141 u142 u143 u144 u145 u146 : Value) (h : AR b g s st0 w) (hB : B.size ≤ 1200) (ho : OkS 0 st0) :
    Code.wp Try.prog (Code.loop rdBody) (QQ (RX b B st0 w)) ⟨#[.pointer (some ⟨b, 0, none⟩), .string B, undef, undef, .int .i64 0, .int .i64 0, u6, u7, u8, u9, u10, u11, u12, u13, u14, u15, u16, u17, u18, u19, u20, u21, u22, u23, u24, u25, u26, u27, u28, u29, u30, u31, u32, u33, u34, u35, u36, u37, u38, u39, u40, u41, u42, u43, u44, u45, u46, u47, u48, u49, u50, u51, u52, u53, u54, u55, u56, u57, u58, u59, u60, u61, u62, u63, u64, u65, u66, u67, u68, u69, u70, u71, u72, u73, u74, u75, u76, u77, u78, u79, u80, u81, u82, u83, u84, u85, u86, u87, u88, u89, u90, u91, u92, u93, u94, u95, u96, u97, u98, u99, u100, u101, u102, u103, u104, u105, u106, u107, u108, u109, u110, u111, u112, u113, u114, u115, u116, u117, u118, u119, u120, u121, u122, u123, u124, u125, u126, u127, u128, u129, u130, u131, u132, u133, u134, u135, u136, u137, u138, u139, u140, u141, u142, u143, u144, u145, u146], []⟩ w := by
  refine wp_loop (RI b B st0 w) (Rmu B) ⟨0, g, s, st0, Nat.zero_le _, ⟨u6, u7, u8, u9, u10, u11, u12, u13, u14, u15, u16, u17, u18, u19, u20, u21, u22, u23, u24, u25, u26, u27, u28, u29, u30, u31, u32, u33, u34, u35, u36, u37, u38, u39, u40, u41, u42, u43, u44, u45, u46, u47, u48, u49, u50, u51, u52, u53, u54, u55, u56, u57, u58, u59, u60, u61, u62, u63, u64, u65, u66, u67, u68, u69, u70, u71, u72, u73, u74, u75, u76, u77, u78, u79, u80, u81, u82, u83, u84, u85, u86, u87, u88, u89, u90, u91, u92, u93, u94, u95, u96, u97, u98, u99, u100, u101, u102, u103, u104, u105, u106, u107, u108, u109, u110, u111, u112, u113, u114, u115, u116, u117, u118, u119, u120, u121, u122, u123, u124, u125, u126, u127, u128, u129, u130, u131, u132, u133, u134, u135, u136, u137, u138, u139, u140, u141, u142, u143, u144, u145, u146, rfl⟩, h, Below.refl _ _, ho, rfl⟩ ?_
  rintro a wr ⟨k, g, s, st, hk, hfr, hr, hbl, hok, hrun⟩
  have hmu := fr_mu (w := wr) hfr
  have hfr' := hfr
  unfold Fr at hfr
  obtain ⟨v6, hfr⟩ := hfr
  obtain ⟨v7, hfr⟩ := hfr
  obtain ⟨v8, hfr⟩ := hfr
  obtain ⟨v9, hfr⟩ := hfr
  obtain ⟨v10, hfr⟩ := hfr
  obtain ⟨v11, hfr⟩ := hfr
  obtain ⟨v12, hfr⟩ := hfr
  obtain ⟨v13, hfr⟩ := hfr
  obtain ⟨v14, hfr⟩ := hfr
  obtain ⟨v15, hfr⟩ := hfr
  obtain ⟨v16, hfr⟩ := hfr
  obtain ⟨v17, hfr⟩ := hfr
  obtain ⟨v18, hfr⟩ := hfr
  obtain ⟨v19, hfr⟩ := hfr
  obtain ⟨v20, hfr⟩ := hfr
  obtain ⟨v21, hfr⟩ := hfr
  obtain ⟨v22, hfr⟩ := hfr
  obtain ⟨v23, hfr⟩ := hfr
  obtain ⟨v24, hfr⟩ := hfr
  obtain ⟨v25, hfr⟩ := hfr
  obtain ⟨v26, hfr⟩ := hfr
  obtain ⟨v27, hfr⟩ := hfr
  obtain ⟨v28, hfr⟩ := hfr
  obtain ⟨v29, hfr⟩ := hfr
  obtain ⟨v30, hfr⟩ := hfr
  obtain ⟨v31, hfr⟩ := hfr
  obtain ⟨v32, hfr⟩ := hfr
  obtain ⟨v33, hfr⟩ := hfr
  obtain ⟨v34, hfr⟩ := hfr
  obtain ⟨v35, hfr⟩ := hfr
  obtain ⟨v36, hfr⟩ := hfr
  obtain ⟨v37, hfr⟩ := hfr
  obtain ⟨v38, hfr⟩ := hfr
  obtain ⟨v39, hfr⟩ := hfr
  obtain ⟨v40, hfr⟩ := hfr
  obtain ⟨v41, hfr⟩ := hfr
  obtain ⟨v42, hfr⟩ := hfr
  obtain ⟨v43, hfr⟩ := hfr
  obtain ⟨v44, hfr⟩ := hfr
  obtain ⟨v45, hfr⟩ := hfr
  obtain ⟨v46, hfr⟩ := hfr
  obtain ⟨v47, hfr⟩ := hfr
  obtain ⟨v48, hfr⟩ := hfr
  obtain ⟨v49, hfr⟩ := hfr
  obtain ⟨v50, hfr⟩ := hfr
  obtain ⟨v51, hfr⟩ := hfr
  obtain ⟨v52, hfr⟩ := hfr
  obtain ⟨v53, hfr⟩ := hfr
  obtain ⟨v54, hfr⟩ := hfr
  obtain ⟨v55, hfr⟩ := hfr
  obtain ⟨v56, hfr⟩ := hfr
  obtain ⟨v57, hfr⟩ := hfr
  obtain ⟨v58, hfr⟩ := hfr
  obtain ⟨v59, hfr⟩ := hfr
  obtain ⟨v60, hfr⟩ := hfr
  obtain ⟨v61, hfr⟩ := hfr
  obtain ⟨v62, hfr⟩ := hfr
  obtain ⟨v63, hfr⟩ := hfr
  obtain ⟨v64, hfr⟩ := hfr
  obtain ⟨v65, hfr⟩ := hfr
  obtain ⟨v66, hfr⟩ := hfr
  obtain ⟨v67, hfr⟩ := hfr
  obtain ⟨v68, hfr⟩ := hfr
  obtain ⟨v69, hfr⟩ := hfr
  obtain ⟨v70, hfr⟩ := hfr
  obtain ⟨v71, hfr⟩ := hfr
  obtain ⟨v72, hfr⟩ := hfr
  obtain ⟨v73, hfr⟩ := hfr
  obtain ⟨v74, hfr⟩ := hfr
  obtain ⟨v75, hfr⟩ := hfr
  obtain ⟨v76, hfr⟩ := hfr
  obtain ⟨v77, hfr⟩ := hfr
  obtain ⟨v78, hfr⟩ := hfr
  obtain ⟨v79, hfr⟩ := hfr
  obtain ⟨v80, hfr⟩ := hfr
  obtain ⟨v81, hfr⟩ := hfr
  obtain ⟨v82, hfr⟩ := hfr
  obtain ⟨v83, hfr⟩ := hfr
  obtain ⟨v84, hfr⟩ := hfr
  obtain ⟨v85, hfr⟩ := hfr
  obtain ⟨v86, hfr⟩ := hfr
  obtain ⟨v87, hfr⟩ := hfr
  obtain ⟨v88, hfr⟩ := hfr
  obtain ⟨v89, hfr⟩ := hfr
  obtain ⟨v90, hfr⟩ := hfr
  obtain ⟨v91, hfr⟩ := hfr
  obtain ⟨v92, hfr⟩ := hfr
  obtain ⟨v93, hfr⟩ := hfr
  obtain ⟨v94, hfr⟩ := hfr
  obtain ⟨v95, hfr⟩ := hfr
  obtain ⟨v96, hfr⟩ := hfr
  obtain ⟨v97, hfr⟩ := hfr
  obtain ⟨v98, hfr⟩ := hfr
  obtain ⟨v99, hfr⟩ := hfr
  obtain ⟨v100, hfr⟩ := hfr
  obtain ⟨v101, hfr⟩ := hfr
  obtain ⟨v102, hfr⟩ := hfr
  obtain ⟨v103, hfr⟩ := hfr
  obtain ⟨v104, hfr⟩ := hfr
  obtain ⟨v105, hfr⟩ := hfr
  obtain ⟨v106, hfr⟩ := hfr
  obtain ⟨v107, hfr⟩ := hfr
  obtain ⟨v108, hfr⟩ := hfr
  obtain ⟨v109, hfr⟩ := hfr
  obtain ⟨v110, hfr⟩ := hfr
  obtain ⟨v111, hfr⟩ := hfr
  obtain ⟨v112, hfr⟩ := hfr
  obtain ⟨v113, hfr⟩ := hfr
  obtain ⟨v114, hfr⟩ := hfr
  obtain ⟨v115, hfr⟩ := hfr
  obtain ⟨v116, hfr⟩ := hfr
  obtain ⟨v117, hfr⟩ := hfr
  obtain ⟨v118, hfr⟩ := hfr
  obtain ⟨v119, hfr⟩ := hfr
  obtain ⟨v120, hfr⟩ := hfr
  obtain ⟨v121, hfr⟩ := hfr
  obtain ⟨v122, hfr⟩ := hfr
  obtain ⟨v123, hfr⟩ := hfr
  obtain ⟨v124, hfr⟩ := hfr
  obtain ⟨v125, hfr⟩ := hfr
  obtain ⟨v126, hfr⟩ := hfr
  obtain ⟨v127, hfr⟩ := hfr
  obtain ⟨v128, hfr⟩ := hfr
  obtain ⟨v129, hfr⟩ := hfr
  obtain ⟨v130, hfr⟩ := hfr
  obtain ⟨v131, hfr⟩ := hfr
  obtain ⟨v132, hfr⟩ := hfr
  obtain ⟨v133, hfr⟩ := hfr
  obtain ⟨v134, hfr⟩ := hfr
  obtain ⟨v135, hfr⟩ := hfr
  obtain ⟨v136, hfr⟩ := hfr
  obtain ⟨v137, hfr⟩ := hfr
  obtain ⟨v138, hfr⟩ := hfr
  obtain ⟨v139, hfr⟩ := hfr
  obtain ⟨v140, hfr⟩ := hfr
  obtain ⟨v141, hfr⟩ := hfr
  obtain ⟨v142, hfr⟩ := hfr
  obtain ⟨v143, hfr⟩ := hfr
  obtain ⟨v144, hfr⟩ := hfr
  obtain ⟨v145, hfr⟩ := hfr
  obtain ⟨v146, hfr⟩ := hfr
  by_cases hlt : k < B.size
  · subst hfr
    refine rd_round b k B g s st wr v6 v7 v8 v9 v10 v11 v12 v13 v14 v15 v16 v17 v18 v19 v20 v21 v22 v23 v24 v25 v26 v27 v28 v29 v30 v31 v32 v33 v34 v35 v36 v37 v38 v39 v40 v41 v42 v43 v44 v45 v46 v47 v48 v49 v50 v51 v52 v53 v54 v55 v56 v57 v58 v59 v60 v61 v62 v63 v64 v65 v66 v67 v68 v69 v70 v71 v72 v73 v74 v75 v76 v77 v78 v79 v80 v81 v82 v83 v84 v85 v86 v87 v88 v89 v90 v91 v92 v93 v94 v95 v96 v97 v98 v99 v100 v101 v102 v103 v104 v105 v106 v107 v108 v109 v110 v111 v112 v113 v114 v115 v116 v117 v118 v119 v120 v121 v122 v123 v124 v125 v126 v127 v128 v129 v130 v131 v132 v133 v134 v135 v136 v137 v138 v139 v140 v141 v142 v143 v144 v145 v146 hr hok hB hlt ?_ ?_
    · rintro a' v ⟨hf, h1, g', s', st', hst, har, hb⟩
      refine ⟨⟨k + 1, g', s', st', by omega, by simpa using hf, har, hbl.trans hb, okn_step hok hst, nrun_next hlt hrun hst⟩, ?_⟩
      rw [fr_mu (w := v) hf, hmu]; omega
    · rintro a' v ⟨hf, h1, hst, hb, hex⟩
      exact ⟨k, hk, hf, hbl.trans hb, hex, Or.inl ⟨hlt, nrun_stop hlt hrun hst⟩⟩
  · subst hfr
    refine rd_out b k B wr v6 v7 v8 v9 v10 v11 v12 v13 v14 v15 v16 v17 v18 v19 v20 v21 v22 v23 v24 v25 v26 v27 v28 v29 v30 v31 v32 v33 v34 v35 v36 v37 v38 v39 v40 v41 v42 v43 v44 v45 v46 v47 v48 v49 v50 v51 v52 v53 v54 v55 v56 v57 v58 v59 v60 v61 v62 v63 v64 v65 v66 v67 v68 v69 v70 v71 v72 v73 v74 v75 v76 v77 v78 v79 v80 v81 v82 v83 v84 v85 v86 v87 v88 v89 v90 v91 v92 v93 v94 v95 v96 v97 v98 v99 v100 v101 v102 v103 v104 v105 v106 v107 v108 v109 v110 v111 v112 v113 v114 v115 v116 v117 v118 v119 v120 v121 v122 v123 v124 v125 v126 v127 v128 v129 v130 v131 v132 v133 v134 v135 v136 v137 v138 v139 v140 v141 v142 v143 v144 v145 v146 hB hlt hk ?_
    rintro a' v ⟨hf, rfl⟩
    exact ⟨k, hk, hf, hbl, ⟨g, s, st, hr⟩, Or.inr ⟨by omega, g, s, st, hr, nrun_end hlt hk hrun⟩⟩

set_option maxRecDepth 1000000 in
set_option maxHeartbeats 4000000 in
theorem read_any (b : Nat) (B : ByteArray) (g0 : Gh) (s0 : ByteArray) (st0 : AS) (w : World) (h : AR b g0 s0 st0 w) (hB : B.size ≤ 1200) (ho : OkS 0 st0) :
    Calls Try.prog 13 #[.pointer (some ⟨b, 0, none⟩), .string B] w fun e w' =>
      Below b w w' ∧ (∃ g s st, AR b g s st w') ∧ ((∃ k : Nat, k < B.size ∧ e = .returned (.int .i64 k) ∧ nRun (txt B) 0 st0 = ((k : Int), false))
        ∨ (∃ g s st, e = .returned (.int .i64 B.size) ∧ AR b g s st w' ∧ nRun (txt B) 0 st0 = nRun [] (B.size : Int) st)) := by
  go_enter Try.func13, Try.ntmps13
  go_wp2
  go_step3
  go_wp2
  go_step3
  go_wp2
  refine Code.wp_mono (Q := QQ (RX b B st0 w)) ?_ (rd_loop b B g0 s0 st0 w _ _ _ _ _ _ _ _ _ _ _ _ _ _ _ _ _ _ _ _ _ _ _ _ _ _ _ _ _ _ _ _ _ _ _ _ _ _ _ _ _ _ _ _ _ _ _ _ _ _ _ _ _ _ _ _ _ _ _ _ _ _ _ _ _ _ _ _ _ _ _ _ _ _ _ _ _ _ _ _ _ _ _ _ _ _ _ _ _ _ _ _ _ _ _ _ _ _ _ _ _ _ _ _ _ _ _ _ _ _ _ _ _ _ _ _ _ _ _ _ _ _ _ _ _ _ _ _ _ _ _ _ _ _ _ _ _ _ _ _ _ h hB ho)
  rintro (_ | (_ | _) | _ | _ | _ | _) a v hq
  all_goals first | exact absurd hq id | skip
  obtain ⟨k, hk, hfr, hbl, hex, hrun⟩ := hq
  unfold Fr at hfr
  obtain ⟨v6, hfr⟩ := hfr
  obtain ⟨v7, hfr⟩ := hfr
  obtain ⟨v8, hfr⟩ := hfr
  obtain ⟨v9, hfr⟩ := hfr
  obtain ⟨v10, hfr⟩ := hfr
  obtain ⟨v11, hfr⟩ := hfr
  obtain ⟨v12, hfr⟩ := hfr
  obtain ⟨v13, hfr⟩ := hfr
  obtain ⟨v14, hfr⟩ := hfr
  obtain ⟨v15, hfr⟩ := hfr
  obtain ⟨v16, hfr⟩ := hfr
  obtain ⟨v17, hfr⟩ := hfr
  obtain ⟨v18, hfr⟩ := hfr
  obtain ⟨v19, hfr⟩ := hfr
  obtain ⟨v20, hfr⟩ := hfr
  obtain ⟨v21, hfr⟩ := hfr
  obtain ⟨v22, hfr⟩ := hfr
  obtain ⟨v23, hfr⟩ := hfr
  obtain ⟨v24, hfr⟩ := hfr
  obtain ⟨v25, hfr⟩ := hfr
  obtain ⟨v26, hfr⟩ := hfr
  obtain ⟨v27, hfr⟩ := hfr
  obtain ⟨v28, hfr⟩ := hfr
  obtain ⟨v29, hfr⟩ := hfr
  obtain ⟨v30, hfr⟩ := hfr
  obtain ⟨v31, hfr⟩ := hfr
  obtain ⟨v32, hfr⟩ := hfr
  obtain ⟨v33, hfr⟩ := hfr
  obtain ⟨v34, hfr⟩ := hfr
  obtain ⟨v35, hfr⟩ := hfr
  obtain ⟨v36, hfr⟩ := hfr
  obtain ⟨v37, hfr⟩ := hfr
  obtain ⟨v38, hfr⟩ := hfr
  obtain ⟨v39, hfr⟩ := hfr
  obtain ⟨v40, hfr⟩ := hfr
  obtain ⟨v41, hfr⟩ := hfr
  obtain ⟨v42, hfr⟩ := hfr
  obtain ⟨v43, hfr⟩ := hfr
  obtain ⟨v44, hfr⟩ := hfr
  obtain ⟨v45, hfr⟩ := hfr
  obtain ⟨v46, hfr⟩ := hfr
  obtain ⟨v47, hfr⟩ := hfr
  obtain ⟨v48, hfr⟩ := hfr
  obtain ⟨v49, hfr⟩ := hfr
  obtain ⟨v50, hfr⟩ := hfr
  obtain ⟨v51, hfr⟩ := hfr
  obtain ⟨v52, hfr⟩ := hfr
  obtain ⟨v53, hfr⟩ := hfr
  obtain ⟨v54, hfr⟩ := hfr
  obtain ⟨v55, hfr⟩ := hfr
  obtain ⟨v56, hfr⟩ := hfr
  obtain ⟨v57, hfr⟩ := hfr
  obtain ⟨v58, hfr⟩ := hfr
  obtain ⟨v59, hfr⟩ := hfr
  obtain ⟨v60, hfr⟩ := hfr
  obtain ⟨v61, hfr⟩ := hfr
  obtain ⟨v62, hfr⟩ := hfr
  obtain ⟨v63, hfr⟩ := hfr
  obtain ⟨v64, hfr⟩ := hfr
  obtain ⟨v65, hfr⟩ := hfr
  obtain ⟨v66, hfr⟩ := hfr
  obtain ⟨v67, hfr⟩ := hfr
  obtain ⟨v68, hfr⟩ := hfr
  obtain ⟨v69, hfr⟩ := hfr
  obtain ⟨v70, hfr⟩ := hfr
  obtain ⟨v71, hfr⟩ := hfr
  obtain ⟨v72, hfr⟩ := hfr
  obtain ⟨v73, hfr⟩ := hfr
  obtain ⟨v74, hfr⟩ := hfr
  obtain ⟨v75, hfr⟩ := hfr
  obtain ⟨v76, hfr⟩ := hfr
  obtain ⟨v77, hfr⟩ := hfr
  obtain ⟨v78, hfr⟩ := hfr
  obtain ⟨v79, hfr⟩ := hfr
  obtain ⟨v80, hfr⟩ := hfr
  obtain ⟨v81, hfr⟩ := hfr
  obtain ⟨v82, hfr⟩ := hfr
  obtain ⟨v83, hfr⟩ := hfr
  obtain ⟨v84, hfr⟩ := hfr
  obtain ⟨v85, hfr⟩ := hfr
  obtain ⟨v86, hfr⟩ := hfr
  obtain ⟨v87, hfr⟩ := hfr
  obtain ⟨v88, hfr⟩ := hfr
  obtain ⟨v89, hfr⟩ := hfr
  obtain ⟨v90, hfr⟩ := hfr
  obtain ⟨v91, hfr⟩ := hfr
  obtain ⟨v92, hfr⟩ := hfr
  obtain ⟨v93, hfr⟩ := hfr
  obtain ⟨v94, hfr⟩ := hfr
  obtain ⟨v95, hfr⟩ := hfr
  obtain ⟨v96, hfr⟩ := hfr
  obtain ⟨v97, hfr⟩ := hfr
  obtain ⟨v98, hfr⟩ := hfr
  obtain ⟨v99, hfr⟩ := hfr
  obtain ⟨v100, hfr⟩ := hfr
  obtain ⟨v101, hfr⟩ := hfr
  obtain ⟨v102, hfr⟩ := hfr
  obtain ⟨v103, hfr⟩ := hfr
  obtain ⟨v104, hfr⟩ := hfr
  obtain ⟨v105, hfr⟩ := hfr
  obtain ⟨v106, hfr⟩ := hfr
  obtain ⟨v107, hfr⟩ := hfr
  obtain ⟨v108, hfr⟩ := hfr
  obtain ⟨v109, hfr⟩ := hfr
  obtain ⟨v110, hfr⟩ := hfr
  obtain ⟨v111, hfr⟩ := hfr
  obtain ⟨v112, hfr⟩ := hfr
  obtain ⟨v113, hfr⟩ := hfr
  obtain ⟨v114, hfr⟩ := hfr
  obtain ⟨v115, hfr⟩ := hfr
  obtain ⟨v116, hfr⟩ := hfr
  obtain ⟨v117, hfr⟩ := hfr
  obtain ⟨v118, hfr⟩ := hfr
  obtain ⟨v119, hfr⟩ := hfr
  obtain ⟨v120, hfr⟩ := hfr
  obtain ⟨v121, hfr⟩ := hfr
  obtain ⟨v122, hfr⟩ := hfr
  obtain ⟨v123, hfr⟩ := hfr
  obtain ⟨v124, hfr⟩ := hfr
  obtain ⟨v125, hfr⟩ := hfr
  obtain ⟨v126, hfr⟩ := hfr
  obtain ⟨v127, hfr⟩ := hfr
  obtain ⟨v128, hfr⟩ := hfr
  obtain ⟨v129, hfr⟩ := hfr
  obtain ⟨v130, hfr⟩ := hfr
  obtain ⟨v131, hfr⟩ := hfr
  obtain ⟨v132, hfr⟩ := hfr
  obtain ⟨v133, hfr⟩ := hfr
  obtain ⟨v134, hfr⟩ := hfr
  obtain ⟨v135, hfr⟩ := hfr
  obtain ⟨v136, hfr⟩ := hfr
  obtain ⟨v137, hfr⟩ := hfr
  obtain ⟨v138, hfr⟩ := hfr
  obtain ⟨v139, hfr⟩ := hfr
  obtain ⟨v140, hfr⟩ := hfr
  obtain ⟨v141, hfr⟩ := hfr
  obtain ⟨v142, hfr⟩ := hfr
  obtain ⟨v143, hfr⟩ := hfr
  obtain ⟨v144, hfr⟩ := hfr
  obtain ⟨v145, hfr⟩ := hfr
  obtain ⟨v146, hfr⟩ := hfr
  subst hfr
  have HX := hide (And.intro hbl (And.intro hex hrun))
  clear hbl hex hrun
  go_wp2
  (try rw [Exit.noGoto_ret]); go_ret
  obtain ⟨hbl, hex, hrun⟩ := HX.out
  rcases hrun with ⟨hlt, hrun⟩ | ⟨rfl, g, s, st, har, hrun⟩
  · exact ⟨hbl, hex, Or.inl ⟨k, hlt, rfl, hrun⟩⟩
  · exact ⟨hbl, hex, Or.inr ⟨g, s, st, rfl, har, hrun⟩⟩

end Go.Proofs.Ytgpphkdoanciiaa
