/-
  The program's reader in memory, and its three methods that take one byte.
-/
import Derived.Test.YtcekenolmfppjaaScalar
import Derived.Test.YtcekenolmfppjaaSteps
namespace Go.Proofs.Ytcekenolmfppjaa
open Go.RowKit

/-- the program's reader lies in block b as st says -/
structure AR (b : Nat) (s : ByteArray) (st : AS) (w : World) : Prop where
  c0 : w.cell? ⟨b, 0, none⟩ = some (.string s)
  c1 : w.cell? ⟨b, 1, none⟩ = some (.int .i64 st.dig)
  c2 : w.cell? ⟨b, 2, none⟩ = some (.int .i64 st.req)
  c3 : w.cell? ⟨b, 3, none⟩ = some (.int .i64 st.tx)
  c4 : w.cell? ⟨b, 4, none⟩ = some (.int .i64 st.stp)
  f0 : w.frozen? ⟨b, 0, none⟩ = false
  f1 : w.frozen? ⟨b, 1, none⟩ = false
  f2 : w.frozen? ⟨b, 2, none⟩ = false
  f3 : w.frozen? ⟨b, 3, none⟩ = false
  f4 : w.frozen? ⟨b, 4, none⟩ = false
  hs : s.size ≤ 10
  ht : txt s = st.rest

theorem empty_yes (s : ByteArray) (h : s.size = 0) : s.toList.isEmpty = true := by
  rw [ByteArray.toList_eq, List.isEmpty_iff_length_eq_zero, Array.length_toList]; exact h
theorem empty_no (s : ByteArray) (h : ¬ s.size = 0) : s.toList.isEmpty = false := by
  rw [Bool.eq_false_iff]; intro e
  rw [ByteArray.toList_eq, List.isEmpty_iff_length_eq_zero, Array.length_toList] at e; exact h e

theorem cell_other {w : World} {b i j : Nat} {u : Value} {v : Option Value} (h : w.cell? ⟨b, j, none⟩ = v) (hij : i ≠ j) : (w.setCell ⟨b, i, none⟩ u).cell? ⟨b, j, none⟩ = v := by
  rw [World.cell?_setCell_other]
  · exact h
  · intro e; injection e with e1 e2; exact hij e2
theorem froz_set {w : World} {b i j : Nat} {u : Value} {v : Bool} (h : w.frozen? ⟨b, j, none⟩ = v) : (w.setCell ⟨b, i, none⟩ u).frozen? ⟨b, j, none⟩ = v := by
  rw [World.frozen?_setCell]; exact h

theorem AR.set0 {b : Nat} {s : ByteArray} {st : AS} {w : World} (h : AR b s st w) (s' : ByteArray) (r : List Int) (hs : s'.size ≤ 10) (ht : txt s' = r) :
    AR b s' { st with rest := r } (w.setCell ⟨b, 0, none⟩ (.string s')) :=
  ⟨World.cell?_setCell_same _ _ _ h.c0, cell_other h.c1 (by decide), cell_other h.c2 (by decide), cell_other h.c3 (by decide), cell_other h.c4 (by decide), froz_set h.f0, froz_set h.f1, froz_set h.f2, froz_set h.f3, froz_set h.f4, hs, ht⟩
theorem AR.set1 {b : Nat} {s : ByteArray} {st : AS} {w : World} (h : AR b s st w) (d : Int) : AR b s { st with dig := d } (w.setCell ⟨b, 1, none⟩ (.int .i64 d)) :=
  ⟨cell_other h.c0 (by decide), World.cell?_setCell_same _ _ _ h.c1, cell_other h.c2 (by decide), cell_other h.c3 (by decide), cell_other h.c4 (by decide), froz_set h.f0, froz_set h.f1, froz_set h.f2, froz_set h.f3, froz_set h.f4, h.hs, h.ht⟩
theorem AR.set2 {b : Nat} {s : ByteArray} {st : AS} {w : World} (h : AR b s st w) (d : Int) : AR b s { st with req := d } (w.setCell ⟨b, 2, none⟩ (.int .i64 d)) :=
  ⟨cell_other h.c0 (by decide), cell_other h.c1 (by decide), World.cell?_setCell_same _ _ _ h.c2, cell_other h.c3 (by decide), cell_other h.c4 (by decide), froz_set h.f0, froz_set h.f1, froz_set h.f2, froz_set h.f3, froz_set h.f4, h.hs, h.ht⟩
theorem AR.set3 {b : Nat} {s : ByteArray} {st : AS} {w : World} (h : AR b s st w) (d : Int) : AR b s { st with tx := d } (w.setCell ⟨b, 3, none⟩ (.int .i64 d)) :=
  ⟨cell_other h.c0 (by decide), cell_other h.c1 (by decide), cell_other h.c2 (by decide), World.cell?_setCell_same _ _ _ h.c3, cell_other h.c4 (by decide), froz_set h.f0, froz_set h.f1, froz_set h.f2, froz_set h.f3, froz_set h.f4, h.hs, h.ht⟩
theorem AR.set4 {b : Nat} {s : ByteArray} {st : AS} {w : World} (h : AR b s st w) (d : Int) : AR b s { st with stp := d } (w.setCell ⟨b, 4, none⟩ (.int .i64 d)) :=
  ⟨cell_other h.c0 (by decide), cell_other h.c1 (by decide), cell_other h.c2 (by decide), cell_other h.c3 (by decide), World.cell?_setCell_same _ _ _ h.c4, froz_set h.f0, froz_set h.f1, froz_set h.f2, froz_set h.f3, froz_set h.f4, h.hs, h.ht⟩

theorem below_set (w : World) (b i : Nat) (v : Value) : Below b w (w.setCell ⟨b, i, none⟩ v) := (Below.refl _ _).setCell (Nat.le_refl b) v

/-- what a method that takes a byte leaves: a refusal, or the reader as the plain step says -/
def Took (b : Nat) (o : Option AS) (w : World) (e : Ending) (w' : World) : Prop :=
  Below b w w' ∧ ((o = none ∧ e = .returned (.bool false)) ∨ (∃ s' st', o = some st' ∧ e = .returned (.bool true) ∧ AR b s' st' w'))

theorem Took.no {b : Nat} {o : Option AS} {w : World} (h : o = none) : Took b o w (.returned (.bool false)) w := ⟨Below.refl _ _, Or.inl ⟨h, rfl⟩⟩

set_option maxHeartbeats 400000 in
theorem goOn_any (b : Nat) (s : ByteArray) (st : AS) (c : Int) (w : World) (h : AR b s st w) :
    Calls Try.prog 14 #[.pointer (some ⟨b, 0, none⟩), .int .u8 c] w fun e w' => Took b (aGoOn st c) w e w' := by
  have c0 := h.c0
  have c2 := h.c2
  have c3 := h.c3
  have f0 := h.f0
  go_enter Try.func14, Try.ntmps14
  go_wp2
  all_goals go_ret
  all_goals (try go_light)
  · exact ⟨below_set w b _ _, Or.inr ⟨_, _, by simp [aGoOn, *], rfl, h.set0 _ [82] (by decide) (by decide)⟩⟩
  · exact Took.no (by simp [aGoOn, *])
  · exact ⟨below_set w b _ _, Or.inr ⟨_, _, by simp [aGoOn, *], rfl, h.set0 _ [120, 84] (by decide) (by decide)⟩⟩
  all_goals exact Took.no (by simp [aGoOn, *]; try omega)

set_option maxHeartbeats 400000 in
theorem beginRequest_any (b : Nat) (s : ByteArray) (st : AS) (k : Int) (w : World) (h : AR b s st w) (_h0 : 0 ≤ st.req) (_h1 : st.req ≤ 2000) :
    Calls Try.prog 15 #[.pointer (some ⟨b, 0, none⟩), .int .i64 k] w fun e w' => Took b (aReq st k) w e w' := by
  have c0 := h.c0
  have c2 := h.c2
  have c3 := h.c3
  have f0 := h.f0
  have f2 := h.f2
  have f3 := h.f3
  go_enter Try.func15, Try.ntmps15
  go_wp2_with (go_at_call 29; refine (reqShape_any _ _).mono ?_; rintro e w' ⟨⟨sb, rfl, hsb, htb⟩, rfl⟩)
  all_goals go_ret
  all_goals (try go_light)
  all_goals simp only [beq_iff_eq, beq_eq_false_iff_ne, ne_eq] at *
  · exact Took.no (by simp [aReq, *])
  · exact ⟨((below_set _ b 2 _).trans (below_set _ b 3 _)).trans (below_set _ b 0 _), Or.inr ⟨_, _, by simp [aReq, *], rfl, ((h.set2 (st.req + 1)).set3 0).set0 sb (reqShape k) hsb htb⟩⟩

set_option maxHeartbeats 400000 in
theorem beginTransaction_any (b : Nat) (s : ByteArray) (st : AS) (k : Int) (w : World) (h : AR b s st w) (_h0 : 0 ≤ st.tx) (_h1 : st.tx ≤ 2000) :
    Calls Try.prog 18 #[.pointer (some ⟨b, 0, none⟩), .int .i64 k] w fun e w' => Took b (aTx st k) w e w' := by
  have c0 := h.c0
  have c3 := h.c3
  have c4 := h.c4
  have f0 := h.f0
  have f3 := h.f3
  have f4 := h.f4
  go_enter Try.func18, Try.ntmps18
  go_wp2_with (go_at_call 30; refine (txShape_any _ _).mono ?_; rintro e w' ⟨⟨sb, rfl, hsb, htb⟩, rfl⟩)
  all_goals go_ret
  all_goals (try go_light)
  all_goals simp only [beq_iff_eq, beq_eq_false_iff_ne, ne_eq] at *
  · exact Took.no (by simp [aTx, *])
  · exact ⟨((below_set _ b 3 _).trans (below_set _ b 4 _)).trans (below_set _ b 0 _), Or.inr ⟨_, _, by simp [aTx, *], rfl, ((h.set3 (st.tx + 1)).set4 0).set0 sb (txShape k) hsb htb⟩⟩

end Go.Proofs.Ytcekenolmfppjaa
