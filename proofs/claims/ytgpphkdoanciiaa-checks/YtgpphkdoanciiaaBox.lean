/-
  Boxes: small blocks of the call's own beside the document's reader.
-/
import Derived.Test.YtgpphkdoanciiaaRefB
namespace Go.Proofs.Ytgpphkdoanciiaa
open Go.RowKit

theorem RR.alloc {b : Nat} {B : ByteArray} {k : Nat} {bad : Bool} {w : World} (h : RR b B k bad w) (o : Obj) : RR b B k bad (w.alloc o) := by
  have hb := h.hb
  refine ⟨?_, ?_, ?_, ?_, ?_, h.hk, h.hB, by simp; omega⟩
  · rw [World.cell?_alloc_past _ _ _ hb]; exact h.c0
  · rw [World.cell?_alloc_past _ _ _ hb]; exact h.c1
  · rw [World.cell?_alloc_past _ _ _ hb]; exact h.c2
  · rw [World.frozen?_alloc_past _ _ _ hb]; exact h.f1
  · rw [World.frozen?_alloc_past _ _ _ hb]; exact h.f2
theorem RR.set {b : Nat} {B : ByteArray} {k : Nat} {bad : Bool} {w : World} (h : RR b B k bad w) (j i : Nat) (u : Value) (hj : j ≠ b) : RR b B k bad (w.setCell ⟨j, i, none⟩ u) :=
  ⟨by rw [cell_far hj]; exact h.c0, by rw [cell_far hj]; exact h.c1, by rw [cell_far hj]; exact h.c2, by rw [World.frozen?_setCell]; exact h.f1, by rw [World.frozen?_setCell]; exact h.f2, h.hk, h.hB, by simpa using h.hb⟩

theorem Kp.alloc {b : Nat} {w w' : World} (h : Kp b w w') (o : Obj) : Kp b w (w'.alloc o) :=
  h.trans ⟨rfl, rfl, rfl, by simp, fun j hj _ => Below.heap_alloc _ _ _ hj⟩
theorem Kp.store {b : Nat} {w w' : World} (h : Kp b w w') (j i : Nat) (u : Value) (hj : w.heap.size ≤ j) : Kp b w (w'.setCell ⟨j, i, none⟩ u) :=
  ⟨h.os, h.tape, h.output, by simpa using h.size, fun m hm hb => (Below.heap_setCell _ _ _ _ (by simp; omega)).trans (h.block m hm hb)⟩
theorem Kp.below {b : Nat} {w w' : World} (h : Kp b w w') (hb : b ≤ w.heap.size) : Below b w w' :=
  ⟨h.os, h.tape, h.output, h.size, fun k hk => h.block k (by omega) (by omega)⟩
/-- what was kept from a world with more blocks was kept from the first -/
theorem Kp.from {b : Nat} {w u v : World} (h : Kp b u v) (g : Kp b w u) : Kp b w v := g.trans h

/-- a block of the call's own that holds these cells -/
structure Box (j : Nat) (vs : List Value) (w : World) : Prop where
  lt : j < w.heap.size
  cell : ∀ i v, vs[i]? = some v → w.cell? ⟨j, i, none⟩ = some v
  froz : ∀ i, w.frozen? ⟨j, i, none⟩ = false

theorem Box.new (w : World) (vs : List Value) (T : TypeId) : Box w.heap.size vs (w.alloc (.cells vs.toArray T)) :=
  ⟨by simp, fun i v h => by rw [World.cell?_alloc_at _ _ _ _ rfl]; simpa using h, fun i => World.frozen?_alloc_at _ _ _ _ rfl⟩
theorem Box.alloc {j : Nat} {vs : List Value} {w : World} (h : Box j vs w) (o : Obj) : Box j vs (w.alloc o) :=
  ⟨by have := h.lt; simp; omega, fun i v e => by rw [World.cell?_alloc_past _ _ _ h.lt]; exact h.cell i v e, fun i => by rw [World.frozen?_alloc_past _ _ _ h.lt]; exact h.froz i⟩
theorem Box.kp {b j : Nat} {vs : List Value} {w w' : World} (h : Box j vs w) (k : Kp b w w') (hj : j ≠ b) : Box j vs w' :=
  ⟨Nat.lt_of_lt_of_le h.lt k.size, fun i v e => by rw [k.cell j i h.lt hj]; exact h.cell i v e, fun i => by rw [k.frozen j i h.lt hj]; exact h.froz i⟩
theorem Box.put {j : Nat} {vs : List Value} {w : World} (h : Box j vs w) (i : Nat) (u : Value) : Box j (vs.set i u) (w.setCell ⟨j, i, none⟩ u) := by
  refine ⟨by simpa using h.lt, fun m v e => ?_, fun m => by rw [World.frozen?_setCell]; exact h.froz m⟩
  by_cases hm : i = m
  · subst hm
    rw [List.getElem?_set_self'] at e
    cases hv : vs[i]? with
    | none => rw [hv] at e; cases e
    | some x =>
      rw [hv] at e
      simp only [Option.map_eq_map, Option.map_some] at e
      cases e
      exact World.cell?_setCell_same _ _ _ (h.cell i x hv)
  · rw [List.getElem?_set_ne hm] at e
    exact cell_other (h.cell m v e) hm
theorem Box.far {j : Nat} {vs : List Value} {w : World} (h : Box j vs w) (b i : Nat) (u : Value) (hb : b ≠ j) : Box j vs (w.setCell ⟨b, i, none⟩ u) :=
  ⟨by simpa using h.lt, fun m v e => by rw [cell_far hb]; exact h.cell m v e, fun m => by rw [World.frozen?_setCell]; exact h.froz m⟩
theorem Box.drewN {j : Nat} {vs : List Value} {w : World} (h : Box j vs w) (n : Nat) : Box j vs (w.drewN n) := ⟨h.lt, h.cell, h.froz⟩

set_option maxRecDepth 100000 in
set_option maxHeartbeats 1000000 in
theorem is_quiet (b : Nat) (B : ByteArray) (k : Nat) (bad : Bool) (c : Int) (w : World) (h : RR b B k bad w) :
    Calls Try.prog 12 #[.pointer (some ⟨b, 0, none⟩), .int .u8 c] w fun e w' =>
      e = .returned (.bool (rIs (rs B k bad) c)) ∧ ∃ n, w' = w.drewN n := by
  have c0 := h.c0
  have c1 := h.c1
  have c2 := h.c2
  have hB := h.hB
  cases bad with
  | true =>
    go_enter Try.func12, Try.ntmps12
    go_wp2
    go_quiet (fail)
    go_wp2
    go_ret
    exact ⟨ret_bool (rIs_bad B k c).symm, _, rfl⟩
  | false =>
    by_cases hlt : k < B.size
    · go_enter Try.func12, Try.ntmps12
      go_wp2
      go_quiet (fail)
      go_wp2
      go_ret
      exact ⟨ret_bool (rIs_at hlt c).symm, _, rfl⟩
    · have hd : decide ((k : Int) < (B.size : Int)) = false := by simp; omega
      go_enter Try.func12, Try.ntmps12
      go_wp2
      go_quiet (fail)
      go_wp2
      go_ret
      exact ⟨ret_bool (rIs_end hlt c).symm, _, rfl⟩

theorem own_kp {w w' : World} {b base : Nat} {e : TypeId} {size : Nat} {v : Value} {n : Nat} {xs : List Value} (h : w.ownsRow base e size v n xs) (k : Kp b w w') (hb : b < base) : w'.ownsRow base e size v n xs := by
  obtain ⟨h1, h2⟩ := h
  refine ⟨h1, ?_⟩
  rcases h2 with h2 | ⟨g, cap, cur, hv, hg, hh, r⟩
  · exact Or.inl h2
  · refine Or.inr ⟨g, cap, cur, hv, hg, ?_, r⟩
    have hlt : g < w.heap.size := by
      rcases Nat.lt_or_ge g w.heap.size with hl | hl
      · exact hl
      · rw [Array.getElem?_eq_none hl] at hh; cases hh
    rw [k.block g hlt (by omega)]; exact hh
theorem own_far {w : World} {b base : Nat} {e : TypeId} {size : Nat} {v : Value} {n : Nat} {xs : List Value} (h : w.ownsRow base e size v n xs) (hb : b < base) : some b ≠ v.ownBlock := by
  intro e'
  have := (h.lt b e'.symm).1
  omega
theorem RR.grown {b : Nat} {B : ByteArray} {k : Nat} {bad : Bool} {w w' : World} {row : Option Nat} (h : RR b B k bad w) (g : w.grownBy w' row) (hb : some b ≠ row) : RR b B k bad w' := by
  have e := g.block b h.hb hb
  exact ⟨by rw [World.cell?_of_block (w := w) e]; exact h.c0, by rw [World.cell?_of_block (w := w) e]; exact h.c1, by rw [World.cell?_of_block (w := w) e]; exact h.c2,
    by rw [World.frozen?_of_block (w := w) e]; exact h.f1, by rw [World.frozen?_of_block (w := w) e]; exact h.f2, h.hk, h.hB, Nat.lt_of_lt_of_le h.hb g.size⟩
theorem Box.grown {j : Nat} {vs : List Value} {w w' : World} {row : Option Nat} (h : Box j vs w) (g : w.grownBy w' row) (hj : some j ≠ row) : Box j vs w' := by
  have e := g.block j h.lt hj
  exact ⟨Nat.lt_of_lt_of_le h.lt g.size, fun i v hv => by rw [World.cell?_of_block (w := w) e]; exact h.cell i v hv, fun i => by rw [World.frozen?_of_block (w := w) e]; exact h.froz i⟩
theorem Kp.grown {b : Nat} {w0 w w' : World} {row : Option Nat} (h : Kp b w0 w) (g : w.grownBy w' row) (hr : ∀ k, row = some k → w0.heap.size ≤ k) : Kp b w0 w' :=
  ⟨g.os.trans h.os, g.tape.trans h.tape, g.output.trans h.output, Nat.le_trans h.size g.size, fun j hj hb => (g.block j (Nat.lt_of_lt_of_le hj h.size) (fun e => by have := hr j e.symm; omega)).trans (h.block j hj hb)⟩

end Go.Proofs.Ytgpphkdoanciiaa
