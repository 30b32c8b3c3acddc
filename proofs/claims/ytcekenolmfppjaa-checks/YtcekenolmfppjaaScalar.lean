/-
  What the program's small functions answer: contracts of one call each.
-/
import Derived.Test.YtcekenolmfppjaaRows
import Derived.Test.YtcekenolmfppjaaPlain
import Derived.WalkKit
import Derived.WalkSpells
import Derived.WalkLawsBesides
import Derived.Deep.Light
namespace Go.Proofs.Ytcekenolmfppjaa
open Go.RowKit

theorem ret_bool {a b : Bool} (h : a = b) : Ending.returned (.bool a) = .returned (.bool b) := by rw [h]
theorem ret_int {k : IntKind} {a b : Int} (h : a = b) : Ending.returned (.int k a) = .returned (.int k b) := by rw [h]
theorem ret_str {a b : ByteArray} (h : a = b) : Ending.returned (.string a) = .returned (.string b) := by rw [h]

set_option maxHeartbeats 400000 in
theorem isDigit_any (c : Int) (w : World) :
    Calls Try.prog 13 #[.int .u8 c] w fun e w' => e = .returned (.bool (isD c)) ∧ w' = w := by
  go_enter Try.func13, Try.ntmps13
  go_wp2
  all_goals go_ret
  all_goals exact ⟨ret_bool (by simp only [isD]; first | (simp [*]; done) | (rw [Bool.eq_iff_iff]; simp; omega)), rfl⟩

set_option maxHeartbeats 400000 in
theorem isAccount_any (c : Int) (w : World) :
    Calls Try.prog 17 #[.int .u8 c] w fun e w' => e = .returned (.bool (isA c)) ∧ w' = w := by
  go_enter Try.func17, Try.ntmps17
  go_wp2
  all_goals go_ret
  all_goals exact ⟨ret_bool (by simp only [isA]; first | (simp [*]; done) | (rw [Bool.eq_iff_iff]; simp; omega)), rfl⟩

set_option maxHeartbeats 400000 in
theorem txOf_any (c : Int) (w : World) :
    Calls Try.prog 19 #[.int .u8 c] w fun e w' => e = .returned (.int .i64 (txOf c)) ∧ w' = w := by
  go_enter Try.func19, Try.ntmps19
  go_wp2
  all_goals go_ret
  all_goals refine ⟨ret_int ?_, rfl⟩
  all_goals simp only [beq_iff_eq, beq_eq_false_iff_ne, ne_eq] at *
  all_goals simp [txOf, *]

set_option maxHeartbeats 400000 in
theorem reqOf_any (c : Int) (w : World) :
    Calls Try.prog 16 #[.int .u8 c] w fun e w' => e = .returned (.int .i64 (reqOf c)) ∧ w' = w := by
  go_enter Try.func16, Try.ntmps16
  go_wp2
  all_goals go_ret
  all_goals refine ⟨ret_int ?_, rfl⟩
  all_goals simp only [beq_iff_eq, beq_eq_false_iff_ne, ne_eq] at *
  all_goals simp [reqOf, *]

set_option maxHeartbeats 1000000 in
theorem stepOf_any (c : Int) (w : World) :
    Calls Try.prog 20 #[.int .u8 c] w fun e w' => (∃ k : Int, e = .returned (.int .i64 k) ∧ (k == 0) = !isStep c) ∧ w' = w := by
  go_enter Try.func20, Try.ntmps20
  go_wp2
  all_goals go_ret
  all_goals refine ⟨⟨_, rfl, ?_⟩, rfl⟩
  all_goals simp only [beq_iff_eq, beq_eq_false_iff_ne, ne_eq] at *
  all_goals first | (rw [isStep_yes (by unfold stepP; omega)]; rfl) | (rw [isStep_no (by unfold stepP; omega)]; rfl)

set_option maxHeartbeats 1000000 in
theorem costs_any (c : Int) (w : World) :
    Calls Try.prog 33 #[.int .u8 c] w fun e w' => (∃ k : Int, e = .returned (.int .i64 k) ∧ (decide (0 < k)) = isStep c) ∧ w' = w := by
  go_enter Try.func33, Try.ntmps33
  go_wp2
  all_goals go_ret
  all_goals refine ⟨⟨_, rfl, ?_⟩, rfl⟩
  all_goals simp only [beq_iff_eq, beq_eq_false_iff_ne, ne_eq] at *
  all_goals first | (rw [isStep_yes (by unfold stepP; omega)]; rfl) | (rw [isStep_no (by unfold stepP; omega)]; rfl)

set_option maxHeartbeats 1000000 in
theorem fits_any (want c : Int) (w : World) :
    Calls Try.prog 21 #[.int .u8 want, .int .u8 c] w fun e w' => e = .returned (.bool (fits want c)) ∧ w' = w := by
  go_enter Try.func21, Try.ntmps21
  go_wp2_with (first | (go_at_call 13; refine (isDigit_any _ _).mono ?_; rintro e w' ⟨rfl, rfl⟩) | (go_at_call 17; refine (isAccount_any _ _).mono ?_; rintro e w' ⟨rfl, rfl⟩))
  all_goals go_ret
  all_goals refine ⟨ret_bool ?_, rfl⟩
  all_goals try go_light
  all_goals simp only [beq_iff_eq, beq_eq_false_iff_ne, ne_eq] at *
  all_goals unfold fits
  all_goals first | (simp [*]; done) | (rw [Bool.eq_iff_iff]; simp [*]; done) | (rw [Bool.eq_iff_iff]; simp [*]; omega)

set_option maxHeartbeats 1000000 in
theorem moreDigits_any (want c : Int) (w : World) :
    Calls Try.prog 22 #[.int .u8 want, .int .u8 c] w fun e w' => e = .returned (.int .i64 (more want c)) ∧ w' = w := by
  go_enter Try.func22, Try.ntmps22
  cases hd : isD c <;> cases h0 : (c == 48)
  all_goals go_wp2_with (go_at_call 13; refine (isDigit_any _ _).mono ?_; rintro e w' ⟨rfl, rfl⟩)
  all_goals go_ret
  all_goals refine ⟨ret_int ?_, rfl⟩
  all_goals try go_light
  all_goals simp only [beq_iff_eq, beq_eq_false_iff_ne, ne_eq] at *
  all_goals unfold more
  all_goals first | (simp [*]; done)

set_option maxHeartbeats 1000000 in
theorem reqShape_any (k : Int) (w : World) :
    Calls Try.prog 29 #[.int .i64 k] w fun e w' => (∃ b : ByteArray, e = .returned (.string b) ∧ b.size ≤ 10 ∧ txt b = reqShape k) ∧ w' = w := by
  go_enter Try.func29, Try.ntmps29
  go_wp2
  all_goals go_ret
  all_goals refine ⟨⟨_, rfl, ?_, ?_⟩, rfl⟩
  all_goals try go_light
  all_goals simp only [beq_iff_eq, beq_eq_false_iff_ne, ne_eq] at *
  all_goals first | (simp [txt, reqShape, *]; done) | decide

set_option maxHeartbeats 1000000 in
theorem txShape_any (k : Int) (w : World) :
    Calls Try.prog 30 #[.int .i64 k] w fun e w' => (∃ b : ByteArray, e = .returned (.string b) ∧ b.size ≤ 10 ∧ txt b = txShape k) ∧ w' = w := by
  go_enter Try.func30, Try.ntmps30
  go_wp2
  all_goals go_ret
  all_goals refine ⟨⟨_, rfl, ?_, ?_⟩, rfl⟩
  all_goals try go_light
  all_goals simp only [beq_iff_eq, beq_eq_false_iff_ne, ne_eq] at *
  all_goals first | (simp [txt, txShape, *]; done) | decide

set_option maxHeartbeats 400000 in
theorem num_any (k : Int) (w : World)  :
    Calls Try.prog 7 #[.int .i64 k] w fun e w' => e = .returned (.int .i64 k) ∧ w' = w := by
  go_enter Try.func7, Try.ntmps7
  go_wp2
  all_goals go_ret
  all_goals exact ⟨rfl, rfl⟩

end Go.Proofs.Ytcekenolmfppjaa
