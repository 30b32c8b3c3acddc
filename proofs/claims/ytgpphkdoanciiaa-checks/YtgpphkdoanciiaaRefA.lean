/-
  The document's reader in memory, and its methods that take a byte or some.
-/
import Derived.Test.YtgpphkdoanciiaaMem
import Derived.WalkMore
import Derived.Deep.QuietTactic
import Derived.BigQuiet
namespace Go.Proofs.Ytgpphkdoanciiaa
open Go.RowKit

/-- the document's reader at place k -/
def rs (B : ByteArray) (k : Nat) (bad : Bool) : RS := { l := (txt B).drop k, at' := k, bad := bad }

/-- the document's reader lies in block b -/
structure RR (b : Nat) (B : ByteArray) (k : Nat) (bad : Bool) (w : World) : Prop where
  c0 : w.cell? ⟨b, 0, none⟩ = some (.string B)
  c1 : w.cell? ⟨b, 1, none⟩ = some (.int .i64 k)
  c2 : w.cell? ⟨b, 2, none⟩ = some (.bool bad)
  f1 : w.frozen? ⟨b, 1, none⟩ = false
  f2 : w.frozen? ⟨b, 2, none⟩ = false
  hk : k ≤ B.size
  hB : B.size ≤ 1200
  hb : b < w.heap.size

/-- nothing of what there was has turned, but block b -/
structure Kp (b : Nat) (w w' : World) : Prop where
  os : w'.os = w.os
  tape : w'.tape = w.tape
  output : w'.output = w.output
  size : w.heap.size ≤ w'.heap.size
  block : ∀ j, j < w.heap.size → j ≠ b → w'.heap[j]? = w.heap[j]?

theorem Kp.refl (b : Nat) (w : World) : Kp b w w := ⟨rfl, rfl, rfl, Nat.le_refl _, fun _ _ _ => rfl⟩
theorem Kp.trans {b : Nat} {u v w : World} (h : Kp b u v) (g : Kp b v w) : Kp b u w :=
  ⟨g.os.trans h.os, g.tape.trans h.tape, g.output.trans h.output, Nat.le_trans h.size g.size, fun j hj hb => (g.block j (Nat.lt_of_lt_of_le hj h.size) hb).trans (h.block j hj hb)⟩
theorem Kp.drewN (b : Nat) (w : World) (n : Nat) : Kp b w (w.drewN n) := ⟨rfl, rfl, rfl, Nat.le_refl _, fun _ _ _ => rfl⟩
theorem Kp.set (b : Nat) (w : World) (i : Nat) (v : Value) : Kp b w (w.setCell ⟨b, i, none⟩ v) :=
  ⟨rfl, rfl, rfl, by simp, fun _ _ hb => Below.heap_setCell _ _ _ _ hb⟩
theorem Kp.cell {b : Nat} {w w' : World} (h : Kp b w w') (j o : Nat) (hj : j < w.heap.size) (hb : j ≠ b) : w'.cell? ⟨j, o, none⟩ = w.cell? ⟨j, o, none⟩ :=
  World.cell?_of_block (w := w) (h.block j hj hb)
theorem Kp.frozen {b : Nat} {w w' : World} (h : Kp b w w') (j o : Nat) (hj : j < w.heap.size) (hb : j ≠ b) : w'.frozen? ⟨j, o, none⟩ = w.frozen? ⟨j, o, none⟩ :=
  World.frozen?_of_block (w := w) (h.block j hj hb)

theorem RR.drewN {b : Nat} {B : ByteArray} {k : Nat} {bad : Bool} {w : World} (h : RR b B k bad w) (n : Nat) : RR b B k bad (w.drewN n) :=
  ⟨h.c0, h.c1, h.c2, h.f1, h.f2, h.hk, h.hB, h.hb⟩
theorem RR.adv {b : Nat} {B : ByteArray} {k : Nat} {bad : Bool} {w : World} (h : RR b B k bad w) (k' : Nat) (v : Int) (hv : v = (k' : Int)) (hk : k' ≤ B.size) : RR b B k' bad (w.setCell ⟨b, 1, none⟩ (.int .i64 v)) :=
  ⟨cell_other h.c0 (by decide), by rw [hv]; exact World.cell?_setCell_same _ _ _ h.c1, cell_other h.c2 (by decide), froz_set h.f1, froz_set h.f2, hk, h.hB, by simpa using h.hb⟩
theorem RR.fall {b : Nat} {B : ByteArray} {k : Nat} {bad : Bool} {w : World} (h : RR b B k bad w) (v : Bool) : RR b B k v (w.setCell ⟨b, 2, none⟩ (.bool v)) :=
  ⟨cell_other h.c0 (by decide), cell_other h.c1 (by decide), World.cell?_setCell_same _ _ _ h.c2, froz_set h.f1, froz_set h.f2, h.hk, h.hB, by simpa using h.hb⟩

theorem rIs_bad (B : ByteArray) (k : Nat) (c : Int) : rIs (rs B k true) c = false := rfl
theorem rIs_at {B : ByteArray} {k : Nat} (h : k < B.size) (c : Int) : rIs (rs B k false) c = ((B[k].toNat : Int) == c) := by
  simp only [rIs, rs, txt_drop B k h, Bool.not_false, Bool.true_and, List.head?_cons, Option.some.injEq]
  rw [Bool.eq_iff_iff, beq_iff_eq, decide_eq_true_iff]
theorem rIs_end {B : ByteArray} {k : Nat} (h : ¬ k < B.size) (c : Int) : rIs (rs B k false) c = false := by
  simp [rIs, rs, List.drop_of_length_le (show (txt B).length ≤ k by rw [txt_length]; omega)]
theorem rIs_lt {B : ByteArray} {k : Nat} {bad : Bool} {c : Int} (h : rIs (rs B k bad) c = true) : k < B.size := by
  cases bad with
  | true => rw [rIs_bad] at h; cases h
  | false =>
    by_cases hk : k < B.size
    · exact hk
    · rw [rIs_end hk] at h; cases h
theorem rAdv_rs {B : ByteArray} {k : Nat} {bad : Bool} (h : k < B.size) : rAdv (rs B k bad) = rs B (k + 1) bad := by
  simp [rAdv, rs, txt_drop B k h]

set_option maxRecDepth 100000 in
set_option maxHeartbeats 1000000 in
theorem is_any (b : Nat) (B : ByteArray) (k : Nat) (bad : Bool) (c : Int) (w : World) (h : RR b B k bad w) :
    Calls Try.prog 12 #[.pointer (some ⟨b, 0, none⟩), .int .u8 c] w fun e w' =>
      e = .returned (.bool (rIs (rs B k bad) c)) ∧ RR b B k bad w' ∧ Kp b w w' := by
  have c0 := h.c0
  have c1 := h.c1
  have c2 := h.c2
  have hB := h.hB
  cases bad with
  | true =>
    go_enter Try.func12, Try.ntmps12
    go_wp2
    go_quiet (fail)
    go_wp2
    go_ret
    exact ⟨ret_bool (rIs_bad B k c).symm, h.drewN _, Kp.drewN _ _ _⟩
  | false =>
    by_cases hlt : k < B.size
    · go_enter Try.func12, Try.ntmps12
      go_wp2
      go_quiet (fail)
      go_wp2
      go_ret
      exact ⟨ret_bool (rIs_at hlt c).symm, h.drewN _, Kp.drewN _ _ _⟩
    · have hd : decide ((k : Int) < (B.size : Int)) = false := by simp; omega
      go_enter Try.func12, Try.ntmps12
      go_wp2
      go_quiet (fail)
      go_wp2
      go_ret
      exact ⟨ret_bool (rIs_end hlt c).symm, h.drewN _, Kp.drewN _ _ _⟩

/-- what a method of the document's reader leaves: the reader as r' says, all else as it was -/
def RDid (b : Nat) (B : ByteArray) (r' : RS) (w w' : World) : Prop := ∃ k' bad', r' = rs B k' bad' ∧ RR b B k' bad' w' ∧ Kp b w w'

set_option maxRecDepth 100000 in
set_option maxHeartbeats 1000000 in
theorem among_any (b : Nat) (B : ByteArray) (k : Nat) (bad : Bool) (L : ByteArray) (w : World) (h : RR b B k bad w) (hL : L.size ≤ 1200) :
    Calls Try.prog 14 #[.pointer (some ⟨b, 0, none⟩), .string L] w fun e w' =>
      e = .returned (.int .i64 (rAmong (txt L) 0 (rs B k bad)).2) ∧ RDid b B (rAmong (txt L) 0 (rs B k bad)).1 w w' := by
  have hB := h.hB
  have hk := h.hk
  go_enter Try.func14, Try.ntmps14
  go_wp2
  go_loopw [5] (fun i wr => ∃ j : Nat, j ≤ L.size ∧ i = .int .i64 j ∧ RR b B k bad wr ∧ Kp b w wr ∧ rAmong (txt L) 0 (rs B k bad) = rAmong ((txt L).drop j) j (rs B k bad)) (fun i _ => L.size - (intOf i).toNat)
  case atStart => exact ⟨0, Nat.zero_le _, rfl, h, Kp.refl _ _, rfl⟩
  case round =>
    obtain ⟨j, hj, rfl, hr, hkp, hrun⟩ := hrel
    have HR : Hid (rAmong (txt L) 0 (rs B k bad) = rAmong ((txt L).drop j) j (rs B k bad)) := hrun
    clear hrun
    by_cases hlt : j < L.size
    · cases hi : rIs (rs B k bad) (L[j].toNat : Int) with
      | true =>
        have hkl := rIs_lt hi
        go_wp2_with (go_at_call 12; refine (is_any b B k bad _ _ hr).mono ?_; rintro e w1 ⟨rfl, hr1, hk1⟩; have c1 := hr1.c1; have f1 := hr1.f1)
        go_ret
        have hm : rAmong (txt L) 0 (rs B k bad) = (rs B (k + 1) bad, (j : Int)) := by
          rw [HR.out, txt_drop L j hlt, rAmong, if_pos hi, rAdv_rs hkl]
        rw [hm]
        exact ⟨rfl, k + 1, bad, rfl, hr1.adv (k + 1) _ (by omega) hkl, (hkp.trans hk1).trans (Kp.set _ _ _ _)⟩
      | false =>
        go_wp2_with (go_at_call 12; refine (is_any b B k bad _ _ hr).mono ?_; rintro e w1 ⟨rfl, hr1, hk1⟩)
        exact ⟨⟨j + 1, hlt, by go_num, hr1, hkp.trans hk1, by rw [HR.out, txt_drop L j hlt, rAmong, if_neg (by rw [hi]; exact Bool.false_ne_true)]; simp⟩, by simp [intOf]; omega⟩
    · have c2 := hr.c2
      have f2 := hr.f2
      go_wp2
      go_ret
      have hm : rAmong (txt L) 0 (rs B k bad) = (rs B k true, 0) := by
        rw [HR.out, List.drop_of_length_le (by rw [txt_length]; omega)]; rfl
      rw [hm]
      exact ⟨rfl, k, true, rfl, hr.fall true, hkp.trans (Kp.set _ _ _ _)⟩

end Go.Proofs.Ytgpphkdoanciiaa
