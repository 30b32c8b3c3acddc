/-
  What the program's Check answers of any text.
-/
import Derived.Test.YtcekenolmfppjaaRead
import Derived.Deep.QuietTactic
import Derived.BigQuiet
namespace Go.Proofs.Ytcekenolmfppjaa
open Go.RowKit

def aInit : AS := { rest := [82], dig := 0, req := 0, tx := 0, stp := 0 }
def aBatch (B : ByteArray) : Int × Bool := if B.size = 0 then (0, true) else aRun (txt B) 0 aInit

theorem aBatch_nil {B : ByteArray} (h : B.size = 0) : aBatch B = (0, true) := by rw [aBatch, if_pos h]
theorem aBatch_run {B : ByteArray} (h : ¬ B.size = 0) : aBatch B = aRun (txt B) 0 aInit := by rw [aBatch, if_neg h]

theorem ret_ib {a a' : Int} {b b' : Bool} {p : Int × Bool} (h : p = (a, b)) (ha : a' = a) (hb : b' = b) : Ending.returned (.tuple #[.int .i64 a', .bool b']) = .returned (.tuple #[.int .i64 p.1, .bool p.2]) := by
  rw [h, ha, hb]

theorem acc_nil {st : AS} {n : Int} (h : st.rest = []) : aRun [] n st = (n, true) := by simp [aRun, h]
theorem txt_66 (s : ByteArray) : txt s = [66] ↔ s.toList = [66] := by
  unfold txt
  rw [ByteArray.toList_eq]
  constructor
  · intro h
    match hl : s.data.toList with
    | [] => rw [hl] at h; simp at h
    | [x] =>
      rw [hl] at h
      simp only [List.map_cons, List.map_nil, List.cons.injEq, and_true] at h
      have : x = 66 := UInt8.toNat_inj.1 (by have : x.toNat = 66 := by omega
                                             rw [this]; rfl)
      rw [this]
    | x :: y :: r => rw [hl] at h; simp at h
  · intro h; rw [h]; rfl
theorem acc_some {s : ByteArray} {st : AS} {n : Int} (hz : ¬ s.size = 0) (h : txt s = st.rest) : aRun [] n st = (n, s.toList == [66]) := by
  have h1 : ¬ st.rest = [] := by
    intro e; rw [e] at h
    have := txt_length s
    rw [h] at this
    exact hz this.symm
  have h2 : (s.toList == [66]) = decide (st.rest = [66]) := by
    rw [Bool.eq_iff_iff, beq_iff_eq, decide_eq_true_iff, ← h, txt_66]
  simp [aRun, h1, h2]

theorem aInit_alloc (w : World) : AR w.heap.size ⟨#[82]⟩ aInit (w.alloc (.cells #[.string ⟨#[82]⟩, .int .i64 0, .int .i64 0, .int .i64 0, .int .i64 0] 39)) := by
  refine ⟨?_, ?_, ?_, ?_, ?_, ?_, ?_, ?_, ?_, ?_, by decide, by decide⟩
  all_goals simp [aInit]

theorem ok_init : OkS 0 aInit := by refine ⟨?_, ?_, ?_, ?_, ?_, ?_, ?_, ?_⟩ <;> decide

set_option maxRecDepth 100000 in
set_option maxHeartbeats 1000000 in
theorem readBatch_any (B : ByteArray) (w : World) (hB : B.size ≤ 1200) :
    Calls Try.prog 8 #[.string B] w fun e w' =>
      Below w.heap.size w w' ∧ e = .returned (.tuple #[.int .i64 (aBatch B).1, .bool (aBatch B).2]) := by
  by_cases hz : B.size = 0
  · have hse := empty_yes B hz
    go_enter Try.func8, Try.ntmps8
    go_wp2
    go_ret2
    exact ⟨Below.refl _ _, ret_ib (aBatch_nil hz) rfl rfl⟩
  · have hse := empty_no B hz
    go_enter Try.func8, Try.ntmps8
    have HA : Hid (aBatch B = aRun (txt B) 0 aInit) := aBatch_run hz
    go_wp2_with (go_at_call 10; refine (read_any _ B _ aInit _ (aInit_alloc w) hB ok_init).mono ?_; rintro e w1 ⟨hbl, ⟨k, hk, rfl, hrun⟩ | ⟨s, st, rfl, har, hrun⟩⟩)
    · have hbl1 : Below w.heap.size w w1 := ((Below.refl _ _).alloc (Nat.le_refl _) _).trans hbl
      have hkb : ((k : Int) == (B.size : Int)) = false := by rw [beq_eq_false_iff_ne]; omega
      have HR : Hid (aRun (txt B) 0 aInit = ((k : Int), false)) := hrun
      clear hrun
      go_quiet (fail)
      go_wp2
      go_ret2
      exact ⟨below_drewN hbl1 nq, ret_ib (HA.out.trans HR.out) rfl rfl⟩
    · have hbl1 : Below w.heap.size w w1 := ((Below.refl _ _).alloc (Nat.le_refl _) _).trans hbl
      have HR : Hid (aRun (txt B) 0 aInit = aRun [] (B.size : Int) st) := hrun
      clear hrun
      have c0 := har.c0
      have hkb : ((B.size : Int) == (B.size : Int)) = true := by simp
      by_cases hz : s.size = 0
      · have hse := empty_yes s hz
        go_quiet (fail)
        go_wp2
        go_ret2
        exact ⟨below_drewN hbl1 nq, ret_ib (HA.out.trans (HR.out.trans (acc_nil (har.ht.symm.trans (txt_nil s hz))))) rfl rfl⟩
      · have hse := empty_no s hz
        go_quiet (fail)
        go_wp2
        go_ret2
        exact ⟨below_drewN hbl1 nq, ret_ib (HA.out.trans (HR.out.trans (acc_some hz har.ht))) rfl rfl⟩

def aCheck (B : ByteArray) : Int × Int :=
  if 1200 < B.size then (1, 0) else if (aBatch B).2 = true then (0, 0) else (2, (aBatch B).1)

theorem ret_ii {a a' b b' : Int} {p : Int × Int} (h : p = (a, b)) (ha : a' = a) (hb : b' = b) : Ending.returned (.tuple #[.int .i64 a', .int .i64 b']) = .returned (.tuple #[.int .i64 p.1, .int .i64 p.2]) := by
  rw [h, ha, hb]

set_option maxRecDepth 100000 in
set_option maxHeartbeats 1000000 in
theorem check_any (B : ByteArray) (w : World) (_hm : B.size ≤ maxLen) :
    Calls Try.prog 5 #[.string B] w fun e w' =>
      Below w.heap.size w w' ∧ e = .returned (.tuple #[.int .i64 (aCheck B).1, .int .i64 (aCheck B).2]) := by
  unfold maxLen at _hm
  by_cases hz : 1200 < B.size
  · go_enter Try.func5, Try.ntmps5
    go_wp2
    go_ret2
    exact ⟨Below.refl _ _, ret_ii (by rw [aCheck, if_pos hz]) rfl rfl⟩
  · have h12 : B.size ≤ 1200 := by omega
    cases hb : (aBatch B).2 with
    | true =>
      go_enter Try.func5, Try.ntmps5
      go_wp2_with (go_at_call 8; refine (readBatch_any _ _ h12).mono ?_; rintro e w1 ⟨hbl, rfl⟩)
      go_ret2
      exact ⟨hbl, ret_ii (by rw [aCheck, if_neg hz, if_pos hb]) rfl rfl⟩
    | false =>
      go_enter Try.func5, Try.ntmps5
      go_wp2_with (go_at_call 8; refine (readBatch_any _ _ h12).mono ?_; rintro e w1 ⟨hbl, rfl⟩)
      go_ret2
      exact ⟨hbl, ret_ii (by rw [aCheck, if_neg hz, if_neg (by rw [hb]; exact Bool.false_ne_true)]) rfl rfl⟩

end Go.Proofs.Ytcekenolmfppjaa
