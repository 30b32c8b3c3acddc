/-
  A round of the loop: a program.
-/
import Derived.Test.YtgpphkdoanciiaaRd
namespace Go.Proofs.Ytgpphkdoanciiaa
open Go.RowKit

set_option maxRecDepth 100000 in
set_option maxHeartbeats 4000000 in
theorem rd_pend {K : Act → World → Prop} {X : Act → World → Prop} (b k : Nat) (B : ByteArray) (g : Gh) (s : ByteArray) (st : AS) (wr : World) (u6 u7 u8 u9 u10 u11 u12 u13 u14 u15 u16 u17 u18 u19 u20 u21 u22 u23 u24 u25 u26 u27 u28 u29 u30 u31 u32 u33 u34 u35 u36 u37 u38 u39 u40 u41 u42 u43 u44 u45 u46 u47 u48 u49 u50 u51 u52 u53 u54 u55 u56 u57 u58 u59 u60 u61 u62 u63 u64 u65 u66 u67 u68 u69 u70 u71 u72 u73 u74 u75 u76 u77 u78 u79 u80 u81 u82 u83 u84 u85 u86 u87 u88 u89 u90 u91 u92 u93 u94 u95 u96 u97 u98 u99 u100 u101 u102 u103 u104 u105 u106 u107 u108 u109 u110 u111 u112 u113 u114 u115 u116 u117 u118 u119 u120 u121 u122 u123 u124 u125 u126 u127 u128 u129 u130 u131 u132 u133 u134 u135 u136 u137 u138 u139 u140 u141 u142 u143 u144 u145 u146 : Value)
    (hr : AR b g s st wr) (hok : OkS k st) (hB : B.size ≤ 1200) (hlt : k < B.size) (hdg : (0 < st.dig ∧ isD (B[k].toNat : Int) = false) ∨ st.dig ≤ 0) (hs0 : 0 < s.size) (hW : ((s[0]'hs0).toNat : Int) = 80) (hce : (B[k].toNat : Int) = 125)
    (hK : ∀ a w', Fr b B (.int .i64 ((k : Int) + 1)) a ∧ Nxt b B k st wr w' → K a w') (_hQ : ∀ a w', Fr b B (.int .i64 k) a ∧ Stp b B k st wr w' → X a w') :
    Code.wp Try.prog rdBody (Exit.then K (QQ X)) ⟨#[.pointer (some ⟨b, 0, none⟩), .string B, undef, undef, .int .i64 0, .int .i64 k, u6, u7, u8, u9, u10, u11, u12, u13, u14, u15, u16, u17, u18, u19, u20, u21, u22, u23, u24, u25, u26, u27, u28, u29, u30, u31, u32, u33, u34, u35, u36, u37, u38, u39, u40, u41, u42, u43, u44, u45, u46, u47, u48, u49, u50, u51, u52, u53, u54, u55, u56, u57, u58, u59, u60, u61, u62, u63, u64, u65, u66, u67, u68, u69, u70, u71, u72, u73, u74, u75, u76, u77, u78, u79, u80, u81, u82, u83, u84, u85, u86, u87, u88, u89, u90, u91, u92, u93, u94, u95, u96, u97, u98, u99, u100, u101, u102, u103, u104, u105, u106, u107, u108, u109, u110, u111, u112, u113, u114, u115, u116, u117, u118, u119, u120, u121, u122, u123, u124, u125, u126, u127, u128, u129, u130, u131, u132, u133, u134, u135, u136, u137, u138, u139, u140, u141, u142, u143, u144, u145, u146], []⟩ wr := by
  conv => arg 2; whnf
  have c0 : wr.cell? ⟨b, 0, none⟩ = some (.string s) := hr.box.cell 0 _ rfl
  have c6 : wr.cell? ⟨b, 6, none⟩ = some (.int .i64 st.dig) := hr.box.cell 6 _ rfl
  have c7 : wr.cell? ⟨b, 7, none⟩ = some (.int .i64 st.stp) := hr.box.cell 7 _ rfl
  have f0 := hr.box.froz 0
  have f6 := hr.box.froz 6
  have f7 := hr.box.froz 7
  have d0 := hok.d0
  have d1 := hok.d1
  have e0 := hok.s0
  have e1 := hok.s1
  have HH := hide (And.intro hr hok)
  have HST := hide (nstep_zero (not_dig hdg))
  have hr1 := hr.set6 0 (fun h => absurd h (by decide))
  have hb1 : Below b wr (wr.setCell ⟨b, 6, none⟩ (.int .i64 0)) := below_set wr b 6 _
  have hq20 : st.req ≤ 2000 := by have := hok.r1; omega
  have hx20 : st.tx ≤ 2000 := by have := hok.t1; omega
  have HH1 := hide (And.intro hr1 hb1)
  obtain ⟨hc0, hc1⟩ := byte_bd B[k]
  have hse := empty_no s (by omega)
  have hs9 : s.size ≤ 10 := hr.hs
  have HC := hide (show st.rest = (s[0].toNat : Int) :: (txt s).tail by rw [← hr.ht]; exact txt_cons s hs0)
  have hl1 := hr1.live (by show ¬ st.rest = [82]; rw [HC.out]; intro e; injection e with e; omega)
  have hx1 := hl1.tx (Or.inr (by show (80 : Int) ∈ st.rest; rw [HC.out, hW]; simp))
  have HX := hide (And.intro hl1 hx1)
  have c3 : wr.cell? ⟨b, 3, none⟩ = some (.pointer g.tx) := hr.box.cell 3 _ rfl
  rw [hx1.tx] at c3
  have hl0 := hr.live (by rw [HC.out]; intro e; injection e with e; omega)
  obtain ⟨sp, ct5⟩ := (hl0.tx (Or.inr (by rw [HC.out, hW]; simp))).c5
  have ft5 := (hl0.tx (Or.inr (by rw [HC.out, hW]; simp))).f5
  have hbt := (hx1.t 0 (by decide)).bm
  have hne1 : ¬ b = g.t := by omega
  have hne2 : ¬ g.t = b := by omega
  have hxW := hide hW
  have hRb : ((s[0].toNat : Int) == 82) = false := by rw [hW]; rfl
  have hBb : ((s[0].toNat : Int) == 66) = false := by rw [hW]; rfl
  have hTb : ((s[0].toNat : Int) == 84) = false := by rw [hW]; rfl
  have hPb : ((s[0].toNat : Int) == 80) = true := by rw [hW]; rfl
  clear hx1 hl1 hl0
  have HO := hide (n0_end HC.out hW hce)
  have hcb : ((B[k].toNat : Int) != 125) = false := by rw [hce]; rfl
  clear hce hW hr hok
  rcases hdg with ⟨hd1, hd2⟩ | hd1
  all_goals
    go_wp2_with (first | (go_at_call 20; refine (isDigit_any _ _).mono ?_; rintro e w' ⟨rfl, hw⟩; subst w'))
    go_region
    all_goals
      go_wp2
      first | exact hK _ _ ⟨⟨_, _, _, _, _, _, _, _, _, _, _, _, _, _, _, _, _, _, _, _, _, _, _, _, _, _, _, _, _, _, _, _, _, _, _, _, _, _, _, _, _, _, _, _, _, _, _, _, _, _, _, _, _, _, _, _, _, _, _, _, _, _, _, _, _, _, _, _, _, _, _, _, _, _, _, _, _, _, _, _, _, _, _, _, _, _, _, _, _, _, _, _, _, _, _, _, _, _, _, _, _, _, _, _, _, _, _, _, _, _, _, _, _, _, _, _, _, _, _, _, _, _, _, _, _, _, _, _, _, _, _, _, _, _, _, _, _, _, _, _, _, rfl⟩, ⟨hlt, g, _, _, HST.out.trans HO.out, ((HH1.out.1.prog HX.out.1 HX.out.2 _).tail HC.out (by rw [hxW.out]; decide)).same (w' := World.drew _) rfl, ((HH1.out.2.trans (below_put _ (Nat.le_of_lt hbt) _ _)).trans (below_set _ _ _ _)).trans (below_drew1 _ _)⟩⟩ | exact ⟨⟨_, _, _, _, _, _, _, _, _, _, _, _, _, _, _, _, _, _, _, _, _, _, _, _, _, _, _, _, _, _, _, _, _, _, _, _, _, _, _, _, _, _, _, _, _, _, _, _, _, _, _, _, _, _, _, _, _, _, _, _, _, _, _, _, _, _, _, _, _, _, _, _, _, _, _, _, _, _, _, _, _, _, _, _, _, _, _, _, _, _, _, _, _, _, _, _, _, _, _, _, _, _, _, _, _, _, _, _, _, _, _, _, _, _, _, _, _, _, _, _, _, _, _, _, _, _, _, _, _, _, _, _, _, _, _, _, _, _, _, _, _, rfl⟩, ⟨hlt, g, _, _, HST.out.trans HO.out, ((HH1.out.1.prog HX.out.1 HX.out.2 _).tail HC.out (by rw [hxW.out]; decide)).same (w' := World.drew _) rfl, ((HH1.out.2.trans (below_put _ (Nat.le_of_lt hbt) _ _)).trans (below_set _ _ _ _)).trans (below_drew1 _ _)⟩⟩

set_option maxRecDepth 100000 in
set_option maxHeartbeats 4000000 in
theorem rd_pfull {K : Act → World → Prop} {X : Act → World → Prop} (b k : Nat) (B : ByteArray) (g : Gh) (s : ByteArray) (st : AS) (wr : World) (u6 u7 u8 u9 u10 u11 u12 u13 u14 u15 u16 u17 u18 u19 u20 u21 u22 u23 u24 u25 u26 u27 u28 u29 u30 u31 u32 u33 u34 u35 u36 u37 u38 u39 u40 u41 u42 u43 u44 u45 u46 u47 u48 u49 u50 u51 u52 u53 u54 u55 u56 u57 u58 u59 u60 u61 u62 u63 u64 u65 u66 u67 u68 u69 u70 u71 u72 u73 u74 u75 u76 u77 u78 u79 u80 u81 u82 u83 u84 u85 u86 u87 u88 u89 u90 u91 u92 u93 u94 u95 u96 u97 u98 u99 u100 u101 u102 u103 u104 u105 u106 u107 u108 u109 u110 u111 u112 u113 u114 u115 u116 u117 u118 u119 u120 u121 u122 u123 u124 u125 u126 u127 u128 u129 u130 u131 u132 u133 u134 u135 u136 u137 u138 u139 u140 u141 u142 u143 u144 u145 u146 : Value)
    (hr : AR b g s st wr) (hok : OkS k st) (hB : B.size ≤ 1200) (hlt : k < B.size) (hdg : (0 < st.dig ∧ isD (B[k].toNat : Int) = false) ∨ st.dig ≤ 0) (hs0 : 0 < s.size) (hW : ((s[0]'hs0).toNat : Int) = 80) (hce : ¬ (B[k].toNat : Int) = 125) (h40 : st.stp = 40)
    (_hK : ∀ a w', Fr b B (.int .i64 ((k : Int) + 1)) a ∧ Nxt b B k st wr w' → K a w') (hQ : ∀ a w', Fr b B (.int .i64 k) a ∧ Stp b B k st wr w' → X a w') :
    Code.wp Try.prog rdBody (Exit.then K (QQ X)) ⟨#[.pointer (some ⟨b, 0, none⟩), .string B, undef, undef, .int .i64 0, .int .i64 k, u6, u7, u8, u9, u10, u11, u12, u13, u14, u15, u16, u17, u18, u19, u20, u21, u22, u23, u24, u25, u26, u27, u28, u29, u30, u31, u32, u33, u34, u35, u36, u37, u38, u39, u40, u41, u42, u43, u44, u45, u46, u47, u48, u49, u50, u51, u52, u53, u54, u55, u56, u57, u58, u59, u60, u61, u62, u63, u64, u65, u66, u67, u68, u69, u70, u71, u72, u73, u74, u75, u76, u77, u78, u79, u80, u81, u82, u83, u84, u85, u86, u87, u88, u89, u90, u91, u92, u93, u94, u95, u96, u97, u98, u99, u100, u101, u102, u103, u104, u105, u106, u107, u108, u109, u110, u111, u112, u113, u114, u115, u116, u117, u118, u119, u120, u121, u122, u123, u124, u125, u126, u127, u128, u129, u130, u131, u132, u133, u134, u135, u136, u137, u138, u139, u140, u141, u142, u143, u144, u145, u146], []⟩ wr := by
  conv => arg 2; whnf
  have c0 : wr.cell? ⟨b, 0, none⟩ = some (.string s) := hr.box.cell 0 _ rfl
  have c6 : wr.cell? ⟨b, 6, none⟩ = some (.int .i64 st.dig) := hr.box.cell 6 _ rfl
  have c7 : wr.cell? ⟨b, 7, none⟩ = some (.int .i64 st.stp) := hr.box.cell 7 _ rfl
  have f0 := hr.box.froz 0
  have f6 := hr.box.froz 6
  have f7 := hr.box.froz 7
  have d0 := hok.d0
  have d1 := hok.d1
  have e0 := hok.s0
  have e1 := hok.s1
  have HH := hide (And.intro hr hok)
  have HST := hide (nstep_zero (not_dig hdg))
  have hr1 := hr.set6 0 (fun h => absurd h (by decide))
  have hb1 : Below b wr (wr.setCell ⟨b, 6, none⟩ (.int .i64 0)) := below_set wr b 6 _
  have hq20 : st.req ≤ 2000 := by have := hok.r1; omega
  have hx20 : st.tx ≤ 2000 := by have := hok.t1; omega
  have HH1 := hide (And.intro hr1 hb1)
  obtain ⟨hc0, hc1⟩ := byte_bd B[k]
  have hse := empty_no s (by omega)
  have hs9 : s.size ≤ 10 := hr.hs
  have HC := hide (show st.rest = (s[0].toNat : Int) :: (txt s).tail by rw [← hr.ht]; exact txt_cons s hs0)
  have hl1 := hr1.live (by show ¬ st.rest = [82]; rw [HC.out]; intro e; injection e with e; omega)
  have hx1 := hl1.tx (Or.inr (by show (80 : Int) ∈ st.rest; rw [HC.out, hW]; simp))
  have HX := hide (And.intro hl1 hx1)
  have c3 : wr.cell? ⟨b, 3, none⟩ = some (.pointer g.tx) := hr.box.cell 3 _ rfl
  rw [hx1.tx] at c3
  have hl0 := hr.live (by rw [HC.out]; intro e; injection e with e; omega)
  obtain ⟨sp, ct5⟩ := (hl0.tx (Or.inr (by rw [HC.out, hW]; simp))).c5
  have ft5 := (hl0.tx (Or.inr (by rw [HC.out, hW]; simp))).f5
  have hbt := (hx1.t 0 (by decide)).bm
  have hne1 : ¬ b = g.t := by omega
  have hne2 : ¬ g.t = b := by omega
  have hxW := hide hW
  have hRb : ((s[0].toNat : Int) == 82) = false := by rw [hW]; rfl
  have hBb : ((s[0].toNat : Int) == 66) = false := by rw [hW]; rfl
  have hTb : ((s[0].toNat : Int) == 84) = false := by rw [hW]; rfl
  have hPb : ((s[0].toNat : Int) == 80) = true := by rw [hW]; rfl
  clear hx1 hl1 hl0
  have hcb : ((B[k].toNat : Int) != 125) = true := by rw [bne_iff_ne]; exact hce
  have HO := hide (n0_full HC.out hW hce (Or.inl h40))
  have h40b : (st.stp == 40) = true := by rw [h40]; rfl
  clear h40 hce hW hr hok
  rcases hdg with ⟨hd1, hd2⟩ | hd1
  all_goals
    go_wp2_with (first | (go_at_call 20; refine (isDigit_any _ _).mono ?_; rintro e w' ⟨rfl, hw⟩; subst w'))
    first | exact hQ _ _ ⟨⟨_, _, _, _, _, _, _, _, _, _, _, _, _, _, _, _, _, _, _, _, _, _, _, _, _, _, _, _, _, _, _, _, _, _, _, _, _, _, _, _, _, _, _, _, _, _, _, _, _, _, _, _, _, _, _, _, _, _, _, _, _, _, _, _, _, _, _, _, _, _, _, _, _, _, _, _, _, _, _, _, _, _, _, _, _, _, _, _, _, _, _, _, _, _, _, _, _, _, _, _, _, _, _, _, _, _, _, _, _, _, _, _, _, _, _, _, _, _, _, _, _, _, _, _, _, _, _, _, _, _, _, _, _, _, _, _, _, _, _, _, _, rfl⟩, ⟨hlt, HST.out.trans HO.out, HH1.out.2, _, _, _, HH1.out.1⟩⟩ | exact ⟨⟨_, _, _, _, _, _, _, _, _, _, _, _, _, _, _, _, _, _, _, _, _, _, _, _, _, _, _, _, _, _, _, _, _, _, _, _, _, _, _, _, _, _, _, _, _, _, _, _, _, _, _, _, _, _, _, _, _, _, _, _, _, _, _, _, _, _, _, _, _, _, _, _, _, _, _, _, _, _, _, _, _, _, _, _, _, _, _, _, _, _, _, _, _, _, _, _, _, _, _, _, _, _, _, _, _, _, _, _, _, _, _, _, _, _, _, _, _, _, _, _, _, _, _, _, _, _, _, _, _, _, _, _, _, _, _, _, _, _, _, _, _, rfl⟩, ⟨hlt, HST.out.trans HO.out, HH1.out.2, _, _, _, HH1.out.1⟩⟩

set_option maxRecDepth 100000 in
set_option maxHeartbeats 4000000 in
theorem rd_pstep {K : Act → World → Prop} {X : Act → World → Prop} (b k : Nat) (B : ByteArray) (g : Gh) (s : ByteArray) (st : AS) (wr : World) (u6 u7 u8 u9 u10 u11 u12 u13 u14 u15 u16 u17 u18 u19 u20 u21 u22 u23 u24 u25 u26 u27 u28 u29 u30 u31 u32 u33 u34 u35 u36 u37 u38 u39 u40 u41 u42 u43 u44 u45 u46 u47 u48 u49 u50 u51 u52 u53 u54 u55 u56 u57 u58 u59 u60 u61 u62 u63 u64 u65 u66 u67 u68 u69 u70 u71 u72 u73 u74 u75 u76 u77 u78 u79 u80 u81 u82 u83 u84 u85 u86 u87 u88 u89 u90 u91 u92 u93 u94 u95 u96 u97 u98 u99 u100 u101 u102 u103 u104 u105 u106 u107 u108 u109 u110 u111 u112 u113 u114 u115 u116 u117 u118 u119 u120 u121 u122 u123 u124 u125 u126 u127 u128 u129 u130 u131 u132 u133 u134 u135 u136 u137 u138 u139 u140 u141 u142 u143 u144 u145 u146 : Value)
    (hr : AR b g s st wr) (hok : OkS k st) (hB : B.size ≤ 1200) (hlt : k < B.size) (hdg : (0 < st.dig ∧ isD (B[k].toNat : Int) = false) ∨ st.dig ≤ 0) (hs0 : 0 < s.size) (hW : ((s[0]'hs0).toNat : Int) = 80) (hce : ¬ (B[k].toNat : Int) = 125) (h40 : ¬ st.stp = 40) (hi : isStep (B[k].toNat : Int) = true)
    (hK : ∀ a w', Fr b B (.int .i64 ((k : Int) + 1)) a ∧ Nxt b B k st wr w' → K a w') (_hQ : ∀ a w', Fr b B (.int .i64 k) a ∧ Stp b B k st wr w' → X a w') :
    Code.wp Try.prog rdBody (Exit.then K (QQ X)) ⟨#[.pointer (some ⟨b, 0, none⟩), .string B, undef, undef, .int .i64 0, .int .i64 k, u6, u7, u8, u9, u10, u11, u12, u13, u14, u15, u16, u17, u18, u19, u20, u21, u22, u23, u24, u25, u26, u27, u28, u29, u30, u31, u32, u33, u34, u35, u36, u37, u38, u39, u40, u41, u42, u43, u44, u45, u46, u47, u48, u49, u50, u51, u52, u53, u54, u55, u56, u57, u58, u59, u60, u61, u62, u63, u64, u65, u66, u67, u68, u69, u70, u71, u72, u73, u74, u75, u76, u77, u78, u79, u80, u81, u82, u83, u84, u85, u86, u87, u88, u89, u90, u91, u92, u93, u94, u95, u96, u97, u98, u99, u100, u101, u102, u103, u104, u105, u106, u107, u108, u109, u110, u111, u112, u113, u114, u115, u116, u117, u118, u119, u120, u121, u122, u123, u124, u125, u126, u127, u128, u129, u130, u131, u132, u133, u134, u135, u136, u137, u138, u139, u140, u141, u142, u143, u144, u145, u146], []⟩ wr := by
  conv => arg 2; whnf
  have c0 : wr.cell? ⟨b, 0, none⟩ = some (.string s) := hr.box.cell 0 _ rfl
  have c6 : wr.cell? ⟨b, 6, none⟩ = some (.int .i64 st.dig) := hr.box.cell 6 _ rfl
  have c7 : wr.cell? ⟨b, 7, none⟩ = some (.int .i64 st.stp) := hr.box.cell 7 _ rfl
  have f0 := hr.box.froz 0
  have f6 := hr.box.froz 6
  have f7 := hr.box.froz 7
  have d0 := hok.d0
  have d1 := hok.d1
  have e0 := hok.s0
  have e1 := hok.s1
  have HH := hide (And.intro hr hok)
  have HST := hide (nstep_zero (not_dig hdg))
  have hr1 := hr.set6 0 (fun h => absurd h (by decide))
  have hb1 : Below b wr (wr.setCell ⟨b, 6, none⟩ (.int .i64 0)) := below_set wr b 6 _
  have hq20 : st.req ≤ 2000 := by have := hok.r1; omega
  have hx20 : st.tx ≤ 2000 := by have := hok.t1; omega
  have HH1 := hide (And.intro hr1 hb1)
  obtain ⟨hc0, hc1⟩ := byte_bd B[k]
  have hse := empty_no s (by omega)
  have hs9 : s.size ≤ 10 := hr.hs
  have HC := hide (show st.rest = (s[0].toNat : Int) :: (txt s).tail by rw [← hr.ht]; exact txt_cons s hs0)
  have hl1 := hr1.live (by show ¬ st.rest = [82]; rw [HC.out]; intro e; injection e with e; omega)
  have hx1 := hl1.tx (Or.inr (by show (80 : Int) ∈ st.rest; rw [HC.out, hW]; simp))
  have HX := hide (And.intro hl1 hx1)
  have c3 : wr.cell? ⟨b, 3, none⟩ = some (.pointer g.tx) := hr.box.cell 3 _ rfl
  rw [hx1.tx] at c3
  have hl0 := hr.live (by rw [HC.out]; intro e; injection e with e; omega)
  obtain ⟨sp, ct5⟩ := (hl0.tx (Or.inr (by rw [HC.out, hW]; simp))).c5
  have ft5 := (hl0.tx (Or.inr (by rw [HC.out, hW]; simp))).f5
  have hbt := (hx1.t 0 (by decide)).bm
  have hne1 : ¬ b = g.t := by omega
  have hne2 : ¬ g.t = b := by omega
  have hxW := hide hW
  have hRb : ((s[0].toNat : Int) == 82) = false := by rw [hW]; rfl
  have hBb : ((s[0].toNat : Int) == 66) = false := by rw [hW]; rfl
  have hTb : ((s[0].toNat : Int) == 84) = false := by rw [hW]; rfl
  have hPb : ((s[0].toNat : Int) == 80) = true := by rw [hW]; rfl
  clear hx1 hl1 hl0
  have hcb : ((B[k].toNat : Int) != 125) = true := by rw [bne_iff_ne]; exact hce
  have HO := hide (n0_step HC.out hW hce h40 hi)
  have h40b : (st.stp == 40) = false := by rw [beq_eq_false_iff_ne]; exact h40
  clear h40 hce hW hr hok
  rcases hdg with ⟨hd1, hd2⟩ | hd1
  all_goals
    go_wp2_with (first | (go_at_call 20; refine (isDigit_any _ _).mono ?_; rintro e w' ⟨rfl, hw⟩; subst w') | (go_at_call 29; refine (stepOf_any _ _).mono ?_; rintro e w' ⟨⟨ks, rfl, hks⟩, hw⟩; subst w'; rw [hi] at hks))
    first | exact hK _ _ ⟨⟨_, _, _, _, _, _, _, _, _, _, _, _, _, _, _, _, _, _, _, _, _, _, _, _, _, _, _, _, _, _, _, _, _, _, _, _, _, _, _, _, _, _, _, _, _, _, _, _, _, _, _, _, _, _, _, _, _, _, _, _, _, _, _, _, _, _, _, _, _, _, _, _, _, _, _, _, _, _, _, _, _, _, _, _, _, _, _, _, _, _, _, _, _, _, _, _, _, _, _, _, _, _, _, _, _, _, _, _, _, _, _, _, _, _, _, _, _, _, _, _, _, _, _, _, _, _, _, _, _, _, _, _, _, _, _, _, _, _, _, _, _, rfl⟩, ⟨hlt, g, _, _, HST.out.trans HO.out, HH1.out.1.set7 _, HH1.out.2.trans (below_set _ _ _ _)⟩⟩ | exact ⟨⟨_, _, _, _, _, _, _, _, _, _, _, _, _, _, _, _, _, _, _, _, _, _, _, _, _, _, _, _, _, _, _, _, _, _, _, _, _, _, _, _, _, _, _, _, _, _, _, _, _, _, _, _, _, _, _, _, _, _, _, _, _, _, _, _, _, _, _, _, _, _, _, _, _, _, _, _, _, _, _, _, _, _, _, _, _, _, _, _, _, _, _, _, _, _, _, _, _, _, _, _, _, _, _, _, _, _, _, _, _, _, _, _, _, _, _, _, _, _, _, _, _, _, _, _, _, _, _, _, _, _, _, _, _, _, _, _, _, _, _, _, _, rfl⟩, ⟨hlt, g, _, _, HST.out.trans HO.out, HH1.out.1.set7 _, HH1.out.2.trans (below_set _ _ _ _)⟩⟩

set_option maxRecDepth 100000 in
set_option maxHeartbeats 4000000 in
theorem rd_pno {K : Act → World → Prop} {X : Act → World → Prop} (b k : Nat) (B : ByteArray) (g : Gh) (s : ByteArray) (st : AS) (wr : World) (u6 u7 u8 u9 u10 u11 u12 u13 u14 u15 u16 u17 u18 u19 u20 u21 u22 u23 u24 u25 u26 u27 u28 u29 u30 u31 u32 u33 u34 u35 u36 u37 u38 u39 u40 u41 u42 u43 u44 u45 u46 u47 u48 u49 u50 u51 u52 u53 u54 u55 u56 u57 u58 u59 u60 u61 u62 u63 u64 u65 u66 u67 u68 u69 u70 u71 u72 u73 u74 u75 u76 u77 u78 u79 u80 u81 u82 u83 u84 u85 u86 u87 u88 u89 u90 u91 u92 u93 u94 u95 u96 u97 u98 u99 u100 u101 u102 u103 u104 u105 u106 u107 u108 u109 u110 u111 u112 u113 u114 u115 u116 u117 u118 u119 u120 u121 u122 u123 u124 u125 u126 u127 u128 u129 u130 u131 u132 u133 u134 u135 u136 u137 u138 u139 u140 u141 u142 u143 u144 u145 u146 : Value)
    (hr : AR b g s st wr) (hok : OkS k st) (hB : B.size ≤ 1200) (hlt : k < B.size) (hdg : (0 < st.dig ∧ isD (B[k].toNat : Int) = false) ∨ st.dig ≤ 0) (hs0 : 0 < s.size) (hW : ((s[0]'hs0).toNat : Int) = 80) (hce : ¬ (B[k].toNat : Int) = 125) (h40 : ¬ st.stp = 40) (hi : isStep (B[k].toNat : Int) = false)
    (_hK : ∀ a w', Fr b B (.int .i64 ((k : Int) + 1)) a ∧ Nxt b B k st wr w' → K a w') (hQ : ∀ a w', Fr b B (.int .i64 k) a ∧ Stp b B k st wr w' → X a w') :
    Code.wp Try.prog rdBody (Exit.then K (QQ X)) ⟨#[.pointer (some ⟨b, 0, none⟩), .string B, undef, undef, .int .i64 0, .int .i64 k, u6, u7, u8, u9, u10, u11, u12, u13, u14, u15, u16, u17, u18, u19, u20, u21, u22, u23, u24, u25, u26, u27, u28, u29, u30, u31, u32, u33, u34, u35, u36, u37, u38, u39, u40, u41, u42, u43, u44, u45, u46, u47, u48, u49, u50, u51, u52, u53, u54, u55, u56, u57, u58, u59, u60, u61, u62, u63, u64, u65, u66, u67, u68, u69, u70, u71, u72, u73, u74, u75, u76, u77, u78, u79, u80, u81, u82, u83, u84, u85, u86, u87, u88, u89, u90, u91, u92, u93, u94, u95, u96, u97, u98, u99, u100, u101, u102, u103, u104, u105, u106, u107, u108, u109, u110, u111, u112, u113, u114, u115, u116, u117, u118, u119, u120, u121, u122, u123, u124, u125, u126, u127, u128, u129, u130, u131, u132, u133, u134, u135, u136, u137, u138, u139, u140, u141, u142, u143, u144, u145, u146], []⟩ wr := by
  conv => arg 2; whnf
  have c0 : wr.cell? ⟨b, 0, none⟩ = some (.string s) := hr.box.cell 0 _ rfl
  have c6 : wr.cell? ⟨b, 6, none⟩ = some (.int .i64 st.dig) := hr.box.cell 6 _ rfl
  have c7 : wr.cell? ⟨b, 7, none⟩ = some (.int .i64 st.stp) := hr.box.cell 7 _ rfl
  have f0 := hr.box.froz 0
  have f6 := hr.box.froz 6
  have f7 := hr.box.froz 7
  have d0 := hok.d0
  have d1 := hok.d1
  have e0 := hok.s0
  have e1 := hok.s1
  have HH := hide (And.intro hr hok)
  have HST := hide (nstep_zero (not_dig hdg))
  have hr1 := hr.set6 0 (fun h => absurd h (by decide))
  have hb1 : Below b wr (wr.setCell ⟨b, 6, none⟩ (.int .i64 0)) := below_set wr b 6 _
  have hq20 : st.req ≤ 2000 := by have := hok.r1; omega
  have hx20 : st.tx ≤ 2000 := by have := hok.t1; omega
  have HH1 := hide (And.intro hr1 hb1)
  obtain ⟨hc0, hc1⟩ := byte_bd B[k]
  have hse := empty_no s (by omega)
  have hs9 : s.size ≤ 10 := hr.hs
  have HC := hide (show st.rest = (s[0].toNat : Int) :: (txt s).tail by rw [← hr.ht]; exact txt_cons s hs0)
  have hl1 := hr1.live (by show ¬ st.rest = [82]; rw [HC.out]; intro e; injection e with e; omega)
  have hx1 := hl1.tx (Or.inr (by show (80 : Int) ∈ st.rest; rw [HC.out, hW]; simp))
  have HX := hide (And.intro hl1 hx1)
  have c3 : wr.cell? ⟨b, 3, none⟩ = some (.pointer g.tx) := hr.box.cell 3 _ rfl
  rw [hx1.tx] at c3
  have hl0 := hr.live (by rw [HC.out]; intro e; injection e with e; omega)
  obtain ⟨sp, ct5⟩ := (hl0.tx (Or.inr (by rw [HC.out, hW]; simp))).c5
  have ft5 := (hl0.tx (Or.inr (by rw [HC.out, hW]; simp))).f5
  have hbt := (hx1.t 0 (by decide)).bm
  have hne1 : ¬ b = g.t := by omega
  have hne2 : ¬ g.t = b := by omega
  have hxW := hide hW
  have hRb : ((s[0].toNat : Int) == 82) = false := by rw [hW]; rfl
  have hBb : ((s[0].toNat : Int) == 66) = false := by rw [hW]; rfl
  have hTb : ((s[0].toNat : Int) == 84) = false := by rw [hW]; rfl
  have hPb : ((s[0].toNat : Int) == 80) = true := by rw [hW]; rfl
  clear hx1 hl1 hl0
  have hcb : ((B[k].toNat : Int) != 125) = true := by rw [bne_iff_ne]; exact hce
  have HO := hide (n0_full HC.out hW hce (Or.inr hi))
  have h40b : (st.stp == 40) = false := by rw [beq_eq_false_iff_ne]; exact h40
  clear h40 hce hW hr hok
  rcases hdg with ⟨hd1, hd2⟩ | hd1
  all_goals
    go_wp2_with (first | (go_at_call 20; refine (isDigit_any _ _).mono ?_; rintro e w' ⟨rfl, hw⟩; subst w') | (go_at_call 29; refine (stepOf_any _ _).mono ?_; rintro e w' ⟨⟨ks, rfl, hks⟩, hw⟩; subst w'; rw [hi] at hks))
    first | exact hQ _ _ ⟨⟨_, _, _, _, _, _, _, _, _, _, _, _, _, _, _, _, _, _, _, _, _, _, _, _, _, _, _, _, _, _, _, _, _, _, _, _, _, _, _, _, _, _, _, _, _, _, _, _, _, _, _, _, _, _, _, _, _, _, _, _, _, _, _, _, _, _, _, _, _, _, _, _, _, _, _, _, _, _, _, _, _, _, _, _, _, _, _, _, _, _, _, _, _, _, _, _, _, _, _, _, _, _, _, _, _, _, _, _, _, _, _, _, _, _, _, _, _, _, _, _, _, _, _, _, _, _, _, _, _, _, _, _, _, _, _, _, _, _, _, _, _, rfl⟩, ⟨hlt, HST.out.trans HO.out, HH1.out.2, _, _, _, HH1.out.1⟩⟩ | exact ⟨⟨_, _, _, _, _, _, _, _, _, _, _, _, _, _, _, _, _, _, _, _, _, _, _, _, _, _, _, _, _, _, _, _, _, _, _, _, _, _, _, _, _, _, _, _, _, _, _, _, _, _, _, _, _, _, _, _, _, _, _, _, _, _, _, _, _, _, _, _, _, _, _, _, _, _, _, _, _, _, _, _, _, _, _, _, _, _, _, _, _, _, _, _, _, _, _, _, _, _, _, _, _, _, _, _, _, _, _, _, _, _, _, _, _, _, _, _, _, _, _, _, _, _, _, _, _, _, _, _, _, _, _, _, _, _, _, _, _, _, _, _, _, rfl⟩, ⟨hlt, HST.out.trans HO.out, HH1.out.2, _, _, _, HH1.out.1⟩⟩

end Go.Proofs.Ytgpphkdoanciiaa
