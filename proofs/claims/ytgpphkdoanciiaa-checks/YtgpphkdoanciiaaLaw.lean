/-
  One step of the law: the program's Check answers as the document's.
-/
import Derived.Test.YtgpphkdoanciiaaText
import Derived.Test.YtgpphkdoanciiaaSame
namespace Go.Proofs.Ytgpphkdoanciiaa
open Go.RowKit

theorem text_same {B : ByteArray} (hz : ¬ B.size = 0) : rText B = if (aBatch B).2 = true then -1 else (aBatch B).1 := by
  rw [rText_read hz, aBatch_runA hz]
  exact read_same 23 (txt B) 0 0 0 0 (by decide)
theorem check_same (B : ByteArray) : aCheck B = rCheck B := by
  unfold aCheck rCheck
  by_cases h : 1200 < B.size
  · rw [if_pos h, if_pos h]
  · rw [if_neg h, if_neg h]
    by_cases hz : B.size = 0
    · rw [aBatch_nil hz, rText_nil hz]; rfl
    · rw [text_same hz]
      by_cases hb : (aBatch B).2 = true
      · rw [if_pos hb, if_pos hb]; rfl
      · have hge : 0 ≤ (aBatch B).1 := by rw [aBatch_runA hz]; exact aRun_ge _ _ _
        rw [if_neg hb, if_neg hb, if_pos hge]

set_option maxRecDepth 100000 in
set_option maxHeartbeats 1000000 in
theorem checked_any (B : ByteArray) (w : World) (hm : B.size ≤ maxLen) :
    Calls Try.prog 4 #[.string B] w fun e w' => e = .returned (.bool true) ∧ Below w.heap.size w w' := by
  have hs := hide (check_same B)
  go_enter Try.func4, Try.ntmps4
  go_wp2_with fail
  refine (check_any B _ hm).mono ?_
  rintro e w1 ⟨hb1, rfl⟩
  go_wp2_with fail
  refine (refCheck_any B _ hm).mono ?_
  rintro e w2 ⟨hb2, rfl⟩
  rw [← hs.out]
  have e1 : ((aCheck B).1 == (aCheck B).1) = true := by simp
  go_wp2_with fail
  refine (num_any _ _).mono ?_
  rintro e w3 ⟨rfl, hw⟩
  subst w3
  go_wp2
  go_ret
  exact ⟨ret_bool (by simp), hb1.trans (hb2.mono hb1.size)⟩

end Go.Proofs.Ytgpphkdoanciiaa
