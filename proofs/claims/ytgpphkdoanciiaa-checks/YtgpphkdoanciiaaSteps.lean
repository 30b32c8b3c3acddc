/-
  Plain facts on the program's reader: one step more, and the bounds of its counters.
-/
import Derived.Test.YtgpphkdoanciiaaPlain
namespace Go.Proofs.Ytgpphkdoanciiaa

structure OkS (k : Nat) (st : AS) : Prop where
  d0 : 0 ≤ st.dig
  d1 : st.dig ≤ 5
  r0 : 0 ≤ st.req
  r1 : st.req ≤ k
  t0 : 0 ≤ st.tx
  t1 : st.tx ≤ k
  s0 : 0 ≤ st.stp
  s1 : st.stp ≤ k

theorem more_bd (want c : Int) : 0 ≤ more want c ∧ more want c ≤ 5 := by
  unfold more
  split
  · omega
  · split
    · omega
    · split <;> omega

theorem ok_goOn {k : Nat} {st st' : AS} {c : Int} (h : OkS k st) (e : aGoOn st c = some st') : OkS (k + 1) st' := by
  obtain ⟨d0, d1, r0, r1, t0, t1, s0, s1⟩ := h
  unfold aGoOn at e
  split at e
  · cases e; exact ⟨d0, d1, r0, by simp; omega, t0, by simp; omega, s0, by simp; omega⟩
  · split at e
    · cases e; exact ⟨d0, d1, r0, by simp; omega, t0, by simp; omega, s0, by simp; omega⟩
    · cases e

theorem ok_step0 {k : Nat} {st st' : AS} {c : Int} (h : OkS k st) (e : aStep0 st c = some st') : OkS (k + 1) st' := by
  have h' := h
  obtain ⟨d0, d1, r0, r1, t0, t1, s0, s1⟩ := h'
  unfold aStep0 at e
  split at e
  · exact ok_goOn h e
  · rename_i want tl _
    by_cases h1 : want = 82
    · rw [if_pos h1] at e; unfold aReq at e
      split at e
      · cases e
      · cases e; exact ⟨d0, d1, by simp; omega, by simp; omega, by simp, by simp; omega, s0, by simp; omega⟩
    rw [if_neg h1] at e
    by_cases h2 : want = 66
    · rw [if_pos h2] at e
      split at e
      · cases e; exact ⟨d0, d1, r0, by simp; omega, t0, by simp; omega, s0, by simp; omega⟩
      · exact ok_goOn h e
    rw [if_neg h2] at e
    by_cases h3 : want = 84
    · rw [if_pos h3] at e; unfold aTx at e
      split at e
      · cases e
      · cases e; exact ⟨d0, d1, r0, by simp; omega, by simp; omega, by simp; omega, by simp, by simp; omega⟩
    rw [if_neg h3] at e
    by_cases h4 : want = 80
    · rw [if_pos h4] at e
      split at e
      · cases e; exact ⟨d0, d1, r0, by simp; omega, t0, by simp; omega, s0, by simp; omega⟩
      · split at e
        · cases e
        · cases e; exact ⟨d0, d1, r0, by simp; omega, t0, by simp; omega, by simp; omega, by simp; omega⟩
    rw [if_neg h4] at e
    split at e
    · cases e
      have hm := more_bd want c
      exact ⟨hm.1, hm.2, r0, by simp; omega, t0, by simp; omega, s0, by simp; omega⟩
    · cases e

theorem ok_step {k : Nat} {st st' : AS} {c : Int} (h : OkS k st) (e : aStep st c = some st') : OkS (k + 1) st' := by
  unfold aStep at e
  split at e
  · rename_i hd
    obtain ⟨d0, d1, r0, r1, t0, t1, s0, s1⟩ := h
    cases e
    exact ⟨by simp; omega, by simp; omega, r0, by simp; omega, t0, by simp; omega, s0, by simp; omega⟩
  · refine ok_step0 ?_ e
    obtain ⟨d0, d1, r0, r1, t0, t1, s0, s1⟩ := h
    exact ⟨by simp, by simp, r0, r1, t0, t1, s0, s1⟩

theorem txt_drop (B : ByteArray) (k : Nat) (h : k < B.size) : (txt B).drop k = ((B[k].toNat : Nat) : Int) :: (txt B).drop (k + 1) := by
  have hl : k < (txt B).length := by simpa [txt] using h
  rw [List.drop_eq_getElem_cons hl]
  congr 1
  simp [txt, ByteArray.getElem_eq_getElem_data]

theorem txt_length (B : ByteArray) : (txt B).length = B.size := by
  unfold txt
  rw [List.length_map, Array.length_toList]
  rfl

theorem run_next {B : ByteArray} {k : Nat} {st0 st st' : AS} (hk : k < B.size) (HR : aRun (txt B) 0 st0 = aRun ((txt B).drop k) k st)
    (e : aStep st (B[k].toNat : Int) = some st') : aRun (txt B) 0 st0 = aRun ((txt B).drop (k + 1)) ((k + 1 : Nat) : Int) st' := by
  rw [HR, txt_drop B k hk, aRun, e]
  simp

theorem run_stop {B : ByteArray} {k : Nat} {st0 st : AS} (hk : k < B.size) (HR : aRun (txt B) 0 st0 = aRun ((txt B).drop k) k st)
    (e : aStep st (B[k].toNat : Int) = none) : aRun (txt B) 0 st0 = ((k : Int), false) := by
  rw [HR, txt_drop B k hk, aRun, e]

theorem run_end {B : ByteArray} {k : Nat} {st0 st : AS} (hk : ¬ k < B.size) (hk' : k ≤ B.size) (HR : aRun (txt B) 0 st0 = aRun ((txt B).drop k) k st) :
    aRun (txt B) 0 st0 = aRun [] (B.size : Int) st := by
  have e : k = B.size := by omega
  rw [HR, e, List.drop_of_length_le (by rw [txt_length]; omega)]

/-- the first sign of a shape that is not empty -/
theorem txt_cons (s : ByteArray) (h : 0 < s.size) : txt s = ((s[0].toNat : Nat) : Int) :: (txt s).tail := by
  have := txt_drop s 0 h
  rw [List.drop_zero] at this
  rw [this]; simp

theorem txt_nil (s : ByteArray) (h : s.size = 0) : txt s = [] := by
  apply List.eq_nil_of_length_eq_zero
  rw [txt_length, h]

theorem step_more {st : AS} {c : Int} (h1 : 0 < st.dig) (h2 : isD c = true) : aStep st c = some { st with dig := st.dig - 1 } := by
  simp [aStep, h1, h2]
theorem step_zero {st : AS} {c : Int} (h : ¬ (0 < st.dig ∧ isD c = true)) : aStep st c = aStep0 { st with dig := 0 } c := by
  rw [aStep, if_neg h]

theorem s0_nil {st : AS} {c : Int} (h : st.rest = []) : aStep0 { st with dig := 0 } c = aGoOn { st with dig := 0 } c := by
  simp [aStep0, h]
theorem s0_req {st : AS} {c : Int} {x : Int} {tl : List Int} (h : st.rest = x :: tl) (hx : x = 82) : aStep0 { st with dig := 0 } c = aReq { st with dig := 0 } (reqOf c) := by
  simp [aStep0, h, hx]
theorem s0_blk {st : AS} {c : Int} {x : Int} {tl : List Int} (h : st.rest = x :: tl) (hx : x = 66) (ha : isA c = true) : aStep0 { st with dig := 0 } c = some { st with dig := 0, rest := [84] } := by
  simp [aStep0, h, hx, ha]
theorem s0_blk_no {st : AS} {c : Int} {x : Int} {tl : List Int} (h : st.rest = x :: tl) (hx : x = 66) (ha : isA c = false) : aStep0 { st with dig := 0 } c = aGoOn { st with dig := 0 } c := by
  simp [aStep0, h, hx, ha]
theorem s0_tx {st : AS} {c : Int} {x : Int} {tl : List Int} (h : st.rest = x :: tl) (hx : x = 84) : aStep0 { st with dig := 0 } c = aTx { st with dig := 0 } (txOf c) := by
  simp [aStep0, h, hx]
theorem s0_end {st : AS} {c : Int} {x : Int} {tl : List Int} (h : st.rest = x :: tl) (hx : x = 80) (hc : c = 125) : aStep0 { st with dig := 0 } c = some { st with dig := 0, rest := tl } := by
  simp [aStep0, h, hx, hc]
theorem s0_full {st : AS} {c : Int} {x : Int} {tl : List Int} (h : st.rest = x :: tl) (hx : x = 80) (hc : ¬ c = 125) (hs : st.stp = 40 ∨ isStep c = false) : aStep0 { st with dig := 0 } c = none := by
  simp [aStep0, h, hx, hc, hs]
theorem s0_step {st : AS} {c : Int} {x : Int} {tl : List Int} (h : st.rest = x :: tl) (hx : x = 80) (hc : ¬ c = 125) (hs : ¬ st.stp = 40) (hi : isStep c = true) : aStep0 { st with dig := 0 } c = some { st with dig := 0, stp := st.stp + 1 } := by
  simp [aStep0, h, hx, hc, hs, hi]
theorem s0_fit {st : AS} {c : Int} {x : Int} {tl : List Int} (h : st.rest = x :: tl) (h1 : ¬ x = 82) (h2 : ¬ x = 66) (h3 : ¬ x = 84) (h4 : ¬ x = 80) (hf : fits x c = true) : aStep0 { st with dig := 0 } c = some { st with dig := more x c, rest := tl } := by
  simp [aStep0, h, h1, h2, h3, h4, hf]
theorem s0_fit_no {st : AS} {c : Int} {x : Int} {tl : List Int} (h : st.rest = x :: tl) (h1 : ¬ x = 82) (h2 : ¬ x = 66) (h3 : ¬ x = 84) (h4 : ¬ x = 80) (hf : fits x c = false) : aStep0 { st with dig := 0 } c = none := by
  simp [aStep0, h, h1, h2, h3, h4, hf]

theorem txt_tail (s : ByteArray) : txt (s.extract 1 s.size) = (txt s).tail := by
  unfold txt
  rw [ByteArray.data_extract, Array.toList_extract, ← List.map_tail]
  congr 1
  rw [List.extract_eq_take_drop, ← List.drop_one]
  apply List.take_of_length_le
  simp [← ByteArray.size_data]
theorem size_tail (s : ByteArray) (h : s.size ≤ 10) : (s.extract 1 s.size).size ≤ 10 := by
  rw [ByteArray.size_extract]; omega

end Go.Proofs.Ytgpphkdoanciiaa
