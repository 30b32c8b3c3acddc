/-
  What the program's small functions answer: contracts of one call each.
-/
import Derived.Test.YtgpphkdoanciiaaRows
import Derived.Test.YtgpphkdoanciiaaPlain
import Derived.WalkKit
import Derived.WalkSpells
import Derived.WalkLawsBesides
import Derived.Deep.Light
import Derived.Lib.Bytealg
namespace Go.Proofs.Ytgpphkdoanciiaa
open Go.RowKit

theorem ret_bool {a b : Bool} (h : a = b) : Ending.returned (.bool a) = .returned (.bool b) := by rw [h]
theorem ret_int {k : IntKind} {a b : Int} (h : a = b) : Ending.returned (.int k a) = .returned (.int k b) := by rw [h]
theorem ret_str {a b : ByteArray} (h : a = b) : Ending.returned (.string a) = .returned (.string b) := by rw [h]

set_option maxHeartbeats 400000 in
theorem isDigit_any (c : Int) (w : World) :
    Calls Try.prog 20 #[.int .u8 c] w fun e w' => e = .returned (.bool (isD c)) ∧ w' = w := by
  go_enter Try.func20, Try.ntmps20
  go_wp2
  all_goals go_ret
  all_goals exact ⟨ret_bool (by simp only [isD]; first | (simp [*]; done) | (rw [Bool.eq_iff_iff]; simp; omega)), rfl⟩

set_option maxHeartbeats 1000000 in
set_option maxRecDepth 100000 in
theorem liteIndex_any (s : ByteArray) (c : Int) (w : World) :
    Calls Try.prog 38 #[.string s, .int .u8 c] w fun e w' => e = .returned (.int .i64 (Lib.indexByte s.data.toList c.toNat.toUInt8)) ∧ w' = w := by
  go_enter Try.func38, Try.ntmps38
  go_wp2
  rw [run_callFunc_extern Try.func40 (by kernel_rfl) (by kernel_rfl) (by kernel_rfl) (e := Extern.BytealgIndexByte.indexByte) (by kernel_rfl), Lib.run_indexByteString]
  simp only [Result.andThen]
  rw [Oper.upon_value]
  go_wp2
  go_ret
  exact ⟨rfl, rfl⟩

set_option maxHeartbeats 1000000 in
theorem index_any (s : ByteArray) (c : Int) (w : World) :
    Calls Try.prog 33 #[.string s, .int .u8 c] w fun e w' => e = .returned (.int .i64 (Lib.indexByte s.data.toList c.toNat.toUInt8)) ∧ w' = w := by
  go_enter Try.func33, Try.ntmps33
  go_wp2_with (go_at_call 38; refine (liteIndex_any _ _ _).mono ?_; rintro e w' ⟨rfl, rfl⟩)
  go_ret
  exact ⟨rfl, rfl⟩

def isS (c : Int) : Bool := isD c || (decide (97 ≤ c) && decide (c ≤ 102))
theorem acc_all : ∀ n : Fin 256, decide (0 ≤ Lib.indexByte [97, 98, 99, 100, 101, 102, 103, 104] n.val.toUInt8) = isA (n.val : Int) := by decide +kernel
theorem slot_all : ∀ n : Fin 256, decide (0 ≤ Lib.indexByte [48, 49, 50, 51, 52, 53, 54, 55, 56, 57, 97, 98, 99, 100, 101, 102] n.val.toUInt8) = isS (n.val : Int) := by decide +kernel
theorem acc_idx {c : Int} (h0 : 0 ≤ c) (h1 : c < 256) : decide (0 ≤ Lib.indexByte [97, 98, 99, 100, 101, 102, 103, 104] c.toNat.toUInt8) = isA c := by
  have := acc_all ⟨c.toNat, by omega⟩
  rw [show ((c.toNat : Nat) : Int) = c from by omega] at this
  exact this
theorem slot_idx {c : Int} (h0 : 0 ≤ c) (h1 : c < 256) : decide (0 ≤ Lib.indexByte [48, 49, 50, 51, 52, 53, 54, 55, 56, 57, 97, 98, 99, 100, 101, 102] c.toNat.toUInt8) = isS c := by
  have := slot_all ⟨c.toNat, by omega⟩
  rw [show ((c.toNat : Nat) : Int) = c from by omega] at this
  exact this

set_option maxHeartbeats 400000 in
theorem isAccount_any (c : Int) (h0 : 0 ≤ c) (h1 : c < 256) (w : World) :
    Calls Try.prog 24 #[.int .u8 c] w fun e w' => e = .returned (.bool (isA c)) ∧ w' = w := by
  have hx := acc_idx h0 h1
  go_enter Try.func24, Try.ntmps24
  go_wp2_with (go_at_call 33; refine (index_any _ _ _).mono ?_; rintro e w' ⟨rfl, rfl⟩)
  all_goals go_ret
  all_goals exact ⟨rfl, rfl⟩

set_option maxHeartbeats 400000 in
theorem isSlot_any (c : Int) (h0 : 0 ≤ c) (h1 : c < 256) (w : World) :
    Calls Try.prog 36 #[.int .u8 c] w fun e w' => e = .returned (.bool (isS c)) ∧ w' = w := by
  have hx := slot_idx h0 h1
  go_enter Try.func36, Try.ntmps36
  go_wp2_with (go_at_call 33; refine (index_any _ _ _).mono ?_; rintro e w' ⟨rfl, rfl⟩)
  all_goals go_ret
  all_goals exact ⟨rfl, rfl⟩

set_option maxHeartbeats 400000 in
theorem txOf_any (c : Int) (w : World) :
    Calls Try.prog 28 #[.int .u8 c] w fun e w' => e = .returned (.int .i64 (txOf c)) ∧ w' = w := by
  go_enter Try.func28, Try.ntmps28
  go_wp2
  all_goals go_ret
  all_goals refine ⟨ret_int ?_, rfl⟩
  all_goals simp only [beq_iff_eq, beq_eq_false_iff_ne, ne_eq] at *
  all_goals simp [txOf, *]

set_option maxHeartbeats 400000 in
theorem reqOf_any (c : Int) (w : World) :
    Calls Try.prog 23 #[.int .u8 c] w fun e w' => e = .returned (.int .i64 (reqOf c)) ∧ w' = w := by
  go_enter Try.func23, Try.ntmps23
  go_wp2
  all_goals go_ret
  all_goals refine ⟨ret_int ?_, rfl⟩
  all_goals simp only [beq_iff_eq, beq_eq_false_iff_ne, ne_eq] at *
  all_goals simp [reqOf, *]

set_option maxHeartbeats 1000000 in
theorem stepOf_any (c : Int) (w : World) :
    Calls Try.prog 29 #[.int .u8 c] w fun e w' => (∃ k : Int, e = .returned (.int .i64 k) ∧ (k == 0) = !isStep c) ∧ w' = w := by
  go_enter Try.func29, Try.ntmps29
  go_wp2
  all_goals go_ret
  all_goals refine ⟨⟨_, rfl, ?_⟩, rfl⟩
  all_goals simp only [beq_iff_eq, beq_eq_false_iff_ne, ne_eq] at *
  all_goals first | (rw [isStep_yes (by unfold stepP; omega)]; rfl) | (rw [isStep_no (by unfold stepP; omega)]; rfl)

set_option maxHeartbeats 1000000 in
theorem costs_any (c : Int) (w : World) :
    Calls Try.prog 39 #[.int .u8 c] w fun e w' => (∃ k : Int, e = .returned (.int .i64 k) ∧ (decide (0 < k)) = isStep c) ∧ w' = w := by
  go_enter Try.func39, Try.ntmps39
  go_wp2
  all_goals go_ret
  all_goals refine ⟨⟨_, rfl, ?_⟩, rfl⟩
  all_goals simp only [beq_iff_eq, beq_eq_false_iff_ne, ne_eq] at *
  all_goals first | (rw [isStep_yes (by unfold stepP; omega)]; rfl) | (rw [isStep_no (by unfold stepP; omega)]; rfl)

set_option maxHeartbeats 1000000 in
theorem fits_any (want c : Int) (h0 : 0 ≤ c) (h1 : c < 256) (w : World) :
    Calls Try.prog 30 #[.int .u8 want, .int .u8 c] w fun e w' => e = .returned (.bool (fits want c)) ∧ w' = w := by
  go_enter Try.func30, Try.ntmps30
  go_wp2_with (first | (go_at_call 20; refine (isDigit_any _ _).mono ?_; rintro e w' ⟨rfl, rfl⟩) | (go_at_call 24; refine (isAccount_any _ h0 h1 _).mono ?_; rintro e w' ⟨rfl, rfl⟩) | (go_at_call 36; refine (isSlot_any _ h0 h1 _).mono ?_; rintro e w' ⟨rfl, rfl⟩))
  all_goals go_ret
  all_goals refine ⟨ret_bool ?_, rfl⟩
  all_goals try go_light
  all_goals simp only [beq_iff_eq, beq_eq_false_iff_ne, ne_eq] at *
  all_goals unfold fits
  all_goals first | (simp [isS, *]; done) | (rw [Bool.eq_iff_iff]; simp [*]; done) | (rw [Bool.eq_iff_iff]; simp [*]; omega)

set_option maxHeartbeats 1000000 in
theorem reqShape_any (k : Int) (w : World) :
    Calls Try.prog 32 #[.int .i64 k] w fun e w' => (∃ b : ByteArray, e = .returned (.string b) ∧ b.size ≤ 10 ∧ txt b = reqShape k) ∧ w' = w := by
  go_enter Try.func32, Try.ntmps32
  go_wp2
  all_goals go_ret
  all_goals refine ⟨⟨_, rfl, ?_, ?_⟩, rfl⟩
  all_goals try go_light
  all_goals simp only [beq_iff_eq, beq_eq_false_iff_ne, ne_eq] at *
  all_goals first | (simp [txt, reqShape, *]; done) | decide

set_option maxHeartbeats 1000000 in
theorem txShape_any (k : Int) (w : World) :
    Calls Try.prog 35 #[.int .i64 k] w fun e w' => (∃ b : ByteArray, e = .returned (.string b) ∧ b.size ≤ 10 ∧ txt b = txShape k) ∧ w' = w := by
  go_enter Try.func35, Try.ntmps35
  go_wp2
  all_goals go_ret
  all_goals refine ⟨⟨_, rfl, ?_, ?_⟩, rfl⟩
  all_goals try go_light
  all_goals simp only [beq_iff_eq, beq_eq_false_iff_ne, ne_eq] at *
  all_goals first | (simp [txt, txShape, *]; done) | decide

set_option maxHeartbeats 400000 in
theorem num_any (k : Int) (w : World)  :
    Calls Try.prog 7 #[.int .i64 k] w fun e w' => e = .returned (.int .i64 k) ∧ w' = w := by
  go_enter Try.func7, Try.ntmps7
  go_wp2
  all_goals go_ret
  all_goals exact ⟨rfl, rfl⟩

end Go.Proofs.Ytgpphkdoanciiaa
