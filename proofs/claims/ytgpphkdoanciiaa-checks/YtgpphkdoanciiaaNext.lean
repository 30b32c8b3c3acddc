/-
  The program's reader as it now counts (a transaction is counted where it begins): it finds what the elder count found.
-/
import Derived.Test.YtgpphkdoanciiaaSteps
namespace Go.Proofs.Ytgpphkdoanciiaa

def nGoOn (st : AS) (c : Int) : Option AS :=
  if c = 59 ∧ st.req < 24 then some { st with rest := [82] }
  else if c = 44 ∧ 0 < st.tx ∧ st.tx < 8 then some { st with rest := [120, 84], tx := st.tx + 1 }
  else none

def nTx (st : AS) (k : Int) : Option AS :=
  if k = 0 then none else some { st with stp := 0, rest := txShape k }

def nStep0 (st : AS) (c : Int) : Option AS :=
  match st.rest with
  | [] => nGoOn st c
  | want :: tl =>
    if want = 82 then aReq st (reqOf c)
    else if want = 66 then
      if isA c = true then some { st with rest := [84], tx := st.tx + 1 } else nGoOn st c
    else if want = 84 then nTx st (txOf c)
    else if want = 80 then
      if c = 125 then some { st with rest := tl }
      else if st.stp = 40 ∨ isStep c = false then none else some { st with stp := st.stp + 1 }
    else if fits want c = true then some { st with dig := more want c, rest := tl }
    else none

def nStep (st : AS) (c : Int) : Option AS :=
  if 0 < st.dig ∧ isD c = true then some { st with dig := st.dig - 1 } else nStep0 { st with dig := 0 } c

def nRun : List Int → Int → AS → Int × Bool
  | [], at', st => (at', decide (st.rest = []) || decide (st.rest = [66]))
  | c :: l, at', st => match nStep st c with
    | none => (at', false)
    | some st' => nRun l (at' + 1) st'

/-- the elder count and the new one -/
structure Cnt (a n : AS) : Prop where
  rest : n.rest = a.rest
  dig : n.dig = a.dig
  req : n.req = a.req
  stp : n.stp = a.stp
  tx : ((a.rest = [84] ∨ a.rest = [120, 84]) ∧ n.tx = a.tx + 1) ∨ ((84 : Int) ∉ a.rest ∧ n.tx = a.tx)

def CntO : Option AS → Option AS → Prop
  | none, none => True
  | some a, some n => Cnt a n
  | _, _ => False

theorem cntO_none : CntO none none := trivial
theorem no84_req (k : Int) : (84 : Int) ∉ reqShape k := by
  unfold reqShape
  (repeat' split) <;> decide
theorem no84_tx (k : Int) : (84 : Int) ∉ txShape k := by
  unfold txShape
  (repeat' split) <;> decide

theorem cnt_goOn {a n : AS} (h : Cnt a n) (hn : (84 : Int) ∉ a.rest) (c : Int) : CntO (aGoOn a c) (nGoOn n c) := by
  obtain ⟨h1, h2, h3, h4, h5⟩ := h
  have ht : n.tx = a.tx := by
    rcases h5 with ⟨e | e, _⟩ | ⟨_, e⟩
    · rw [e] at hn; exact absurd (by decide) hn
    · rw [e] at hn; exact absurd (by decide) hn
    · exact e
  unfold aGoOn nGoOn
  rw [h3, ht]
  by_cases e1 : c = 59 ∧ a.req < 24
  · rw [if_pos e1, if_pos e1]; exact ⟨rfl, h2, rfl, h4, Or.inr ⟨by simp, rfl⟩⟩
  rw [if_neg e1, if_neg e1]
  by_cases e2 : c = 44 ∧ 0 < a.tx ∧ a.tx < 8
  · rw [if_pos e2, if_pos e2]; exact ⟨rfl, h2, rfl, h4, Or.inl ⟨Or.inr rfl, rfl⟩⟩
  rw [if_neg e2, if_neg e2]; trivial

theorem cnt_step0 {a n : AS} (h : Cnt a n) (c : Int) : CntO (aStep0 a c) (nStep0 n c) := by
  have h' := h
  obtain ⟨h1, h2, h3, h4, h5⟩ := h'
  unfold aStep0 nStep0
  rw [h1]
  match hr : a.rest with
  | [] => exact cnt_goOn h (by rw [hr]; decide) c
  | want :: tl =>
    simp only []
    by_cases e1 : want = 82
    · rw [if_pos e1, if_pos e1]
      unfold aReq
      by_cases e : reqOf c = 0
      · rw [if_pos e, if_pos e]; trivial
      · rw [if_neg e, if_neg e]; exact ⟨rfl, h2, by simp [h3], h4, Or.inr ⟨no84_req _, rfl⟩⟩
    rw [if_neg e1, if_neg e1]
    by_cases e2 : want = 66
    · have hn : (84 : Int) ∉ a.rest := by
        rcases h5 with ⟨e | e, _⟩ | ⟨e, _⟩
        · rw [hr] at e; injection e with e; omega
        · rw [hr] at e; injection e with e; omega
        · exact e
      rw [if_pos e2, if_pos e2]
      by_cases e : isA c = true
      · rw [if_pos e, if_pos e]
        rcases h5 with ⟨e | e, _⟩ | ⟨_, ht⟩
        · rw [e] at hn; exact absurd (by decide) hn
        · rw [e] at hn; exact absurd (by decide) hn
        · exact ⟨rfl, h2, h3, h4, Or.inl ⟨Or.inl rfl, by simp [ht]⟩⟩
      · rw [if_neg e, if_neg e]; exact cnt_goOn h hn c
    rw [if_neg e2, if_neg e2]
    by_cases e3 : want = 84
    · rw [if_pos e3, if_pos e3]
      unfold aTx nTx
      by_cases e : txOf c = 0
      · rw [if_pos e, if_pos e]; trivial
      · rw [if_neg e, if_neg e]
        rcases h5 with ⟨_, ht⟩ | ⟨e, _⟩
        · exact ⟨rfl, h2, h3, rfl, Or.inr ⟨no84_tx _, ht⟩⟩
        · rw [hr, e3] at e; exact absurd (by simp) e
    rw [if_neg e3, if_neg e3]
    have htl : ((tl = [84] ∨ tl = [120, 84]) ∧ n.tx = a.tx + 1) ∨ ((84 : Int) ∉ tl ∧ n.tx = a.tx) := by
      rcases h5 with ⟨e | e, ht⟩ | ⟨e, ht⟩
      · rw [hr] at e; injection e with e; omega
      · rw [hr] at e; injection e with _ e; exact Or.inl ⟨Or.inl e, ht⟩
      · exact Or.inr ⟨fun hm => e (by rw [hr]; exact List.mem_cons_of_mem _ hm), ht⟩
    by_cases e4 : want = 80
    · rw [if_pos e4, if_pos e4, h4]
      by_cases e : c = 125
      · rw [if_pos e, if_pos e]; exact ⟨rfl, h2, h3, rfl, htl⟩
      · rw [if_neg e, if_neg e]
        by_cases e' : a.stp = 40 ∨ isStep c = false
        · rw [if_pos e', if_pos e']; trivial
        · rw [if_neg e', if_neg e']
          exact ⟨rfl, h2, h3, rfl, by rw [hr] at h5; exact h5⟩
    rw [if_neg e4, if_neg e4]
    by_cases e : fits want c = true
    · rw [if_pos e, if_pos e]; exact ⟨rfl, rfl, h3, h4, htl⟩
    · rw [if_neg e, if_neg e]; trivial

theorem cnt_step {a n : AS} (h : Cnt a n) (c : Int) : CntO (aStep a c) (nStep n c) := by
  obtain ⟨h1, h2, h3, h4, h5⟩ := h
  unfold aStep nStep
  rw [h2]
  by_cases e : 0 < a.dig ∧ isD c = true
  · rw [if_pos e, if_pos e]; exact ⟨h1, rfl, h3, h4, h5⟩
  · rw [if_neg e, if_neg e]; exact cnt_step0 (a := { a with dig := 0 }) (n := { n with dig := 0 }) ⟨h1, rfl, h3, h4, h5⟩ c

theorem cnt_run : ∀ (l : List Int) (k : Int) (a n : AS), Cnt a n → nRun l k n = aRun l k a
  | [], k, a, n, h => by rw [nRun, aRun, h.rest]
  | c :: l, k, a, n, h => by
    have hs := cnt_step h c
    rw [nRun, aRun]
    match ha : aStep a c, hn : nStep n c with
    | none, none => rfl
    | some a', some n' => rw [ha, hn] at hs; exact cnt_run l (k + 1) a' n' hs
    | none, some n' => rw [ha, hn] at hs; exact absurd hs id
    | some a', none => rw [ha, hn] at hs; exact absurd hs id

theorem okn_goOn {k : Nat} {st st' : AS} {c : Int} (h : OkS k st) (e : nGoOn st c = some st') : OkS (k + 1) st' := by
  obtain ⟨d0, d1, r0, r1, t0, t1, s0, s1⟩ := h
  unfold nGoOn at e
  split at e
  · cases e; exact ⟨d0, d1, r0, by simp; omega, t0, by simp; omega, s0, by simp; omega⟩
  · split at e
    · cases e; exact ⟨d0, d1, r0, by simp; omega, by simp; omega, by simp; omega, s0, by simp; omega⟩
    · cases e

theorem okn_step0 {k : Nat} {st st' : AS} {c : Int} (h : OkS k st) (e : nStep0 st c = some st') : OkS (k + 1) st' := by
  have h' := h
  obtain ⟨d0, d1, r0, r1, t0, t1, s0, s1⟩ := h'
  unfold nStep0 at e
  split at e
  · exact okn_goOn h e
  · rename_i want tl _
    by_cases h1 : want = 82
    · rw [if_pos h1] at e; unfold aReq at e
      split at e
      · cases e
      · cases e; exact ⟨d0, d1, by simp; omega, by simp; omega, by simp, by simp; omega, s0, by simp; omega⟩
    rw [if_neg h1] at e
    by_cases h2 : want = 66
    · rw [if_pos h2] at e
      split at e
      · cases e; exact ⟨d0, d1, r0, by simp; omega, by simp; omega, by simp; omega, s0, by simp; omega⟩
      · exact okn_goOn h e
    rw [if_neg h2] at e
    by_cases h3 : want = 84
    · rw [if_pos h3] at e; unfold nTx at e
      split at e
      · cases e
      · cases e; exact ⟨d0, d1, r0, by simp; omega, t0, by simp; omega, by simp, by simp; omega⟩
    rw [if_neg h3] at e
    by_cases h4 : want = 80
    · rw [if_pos h4] at e
      split at e
      · cases e; exact ⟨d0, d1, r0, by simp; omega, t0, by simp; omega, s0, by simp; omega⟩
      · split at e
        · cases e
        · cases e; exact ⟨d0, d1, r0, by simp; omega, t0, by simp; omega, by simp; omega, by simp; omega⟩
    rw [if_neg h4] at e
    split at e
    · cases e
      have hm := more_bd want c
      exact ⟨hm.1, hm.2, r0, by simp; omega, t0, by simp; omega, s0, by simp; omega⟩
    · cases e

theorem okn_step {k : Nat} {st st' : AS} {c : Int} (h : OkS k st) (e : nStep st c = some st') : OkS (k + 1) st' := by
  unfold nStep at e
  split at e
  · rename_i hd
    obtain ⟨d0, d1, r0, r1, t0, t1, s0, s1⟩ := h
    cases e
    exact ⟨by simp; omega, by simp; omega, r0, by simp; omega, t0, by simp; omega, s0, by simp; omega⟩
  · refine okn_step0 ?_ e
    obtain ⟨d0, d1, r0, r1, t0, t1, s0, s1⟩ := h
    exact ⟨by simp, by simp, r0, r1, t0, t1, s0, s1⟩

theorem nrun_next {B : ByteArray} {k : Nat} {st0 st st' : AS} (hk : k < B.size) (HR : nRun (txt B) 0 st0 = nRun ((txt B).drop k) k st)
    (e : nStep st (B[k].toNat : Int) = some st') : nRun (txt B) 0 st0 = nRun ((txt B).drop (k + 1)) ((k + 1 : Nat) : Int) st' := by
  rw [HR, txt_drop B k hk, nRun, e]
  simp

theorem nrun_stop {B : ByteArray} {k : Nat} {st0 st : AS} (hk : k < B.size) (HR : nRun (txt B) 0 st0 = nRun ((txt B).drop k) k st)
    (e : nStep st (B[k].toNat : Int) = none) : nRun (txt B) 0 st0 = ((k : Int), false) := by
  rw [HR, txt_drop B k hk, nRun, e]

theorem nrun_end {B : ByteArray} {k : Nat} {st0 st : AS} (hk : ¬ k < B.size) (hk' : k ≤ B.size) (HR : nRun (txt B) 0 st0 = nRun ((txt B).drop k) k st) :
    nRun (txt B) 0 st0 = nRun [] (B.size : Int) st := by
  have e : k = B.size := by omega
  rw [HR, e, List.drop_of_length_le (by rw [txt_length]; omega)]

theorem nstep_more {st : AS} {c : Int} (h1 : 0 < st.dig) (h2 : isD c = true) : nStep st c = some { st with dig := st.dig - 1 } := by
  simp [nStep, h1, h2]
theorem nstep_zero {st : AS} {c : Int} (h : ¬ (0 < st.dig ∧ isD c = true)) : nStep st c = nStep0 { st with dig := 0 } c := by
  rw [nStep, if_neg h]

theorem n0_nil {st : AS} {c : Int} (h : st.rest = []) : nStep0 { st with dig := 0 } c = nGoOn { st with dig := 0 } c := by
  simp [nStep0, h]
theorem n0_req {st : AS} {c : Int} {x : Int} {tl : List Int} (h : st.rest = x :: tl) (hx : x = 82) : nStep0 { st with dig := 0 } c = aReq { st with dig := 0 } (reqOf c) := by
  simp [nStep0, h, hx]
theorem n0_blk {st : AS} {c : Int} {x : Int} {tl : List Int} (h : st.rest = x :: tl) (hx : x = 66) (ha : isA c = true) : nStep0 { st with dig := 0 } c = some { st with dig := 0, rest := [84], tx := st.tx + 1 } := by
  simp [nStep0, h, hx, ha]
theorem n0_blk_no {st : AS} {c : Int} {x : Int} {tl : List Int} (h : st.rest = x :: tl) (hx : x = 66) (ha : isA c = false) : nStep0 { st with dig := 0 } c = nGoOn { st with dig := 0 } c := by
  simp [nStep0, h, hx, ha]
theorem n0_tx {st : AS} {c : Int} {x : Int} {tl : List Int} (h : st.rest = x :: tl) (hx : x = 84) : nStep0 { st with dig := 0 } c = nTx { st with dig := 0 } (txOf c) := by
  simp [nStep0, h, hx]
theorem n0_end {st : AS} {c : Int} {x : Int} {tl : List Int} (h : st.rest = x :: tl) (hx : x = 80) (hc : c = 125) : nStep0 { st with dig := 0 } c = some { st with dig := 0, rest := tl } := by
  simp [nStep0, h, hx, hc]
theorem n0_full {st : AS} {c : Int} {x : Int} {tl : List Int} (h : st.rest = x :: tl) (hx : x = 80) (hc : ¬ c = 125) (hs : st.stp = 40 ∨ isStep c = false) : nStep0 { st with dig := 0 } c = none := by
  simp [nStep0, h, hx, hc, hs]
theorem n0_step {st : AS} {c : Int} {x : Int} {tl : List Int} (h : st.rest = x :: tl) (hx : x = 80) (hc : ¬ c = 125) (hs : ¬ st.stp = 40) (hi : isStep c = true) : nStep0 { st with dig := 0 } c = some { st with dig := 0, stp := st.stp + 1 } := by
  simp [nStep0, h, hx, hc, hs, hi]
theorem n0_fit {st : AS} {c : Int} {x : Int} {tl : List Int} (h : st.rest = x :: tl) (h1 : ¬ x = 82) (h2 : ¬ x = 66) (h3 : ¬ x = 84) (h4 : ¬ x = 80) (hf : fits x c = true) : nStep0 { st with dig := 0 } c = some { st with dig := more x c, rest := tl } := by
  simp [nStep0, h, h1, h2, h3, h4, hf]
theorem n0_fit_no {st : AS} {c : Int} {x : Int} {tl : List Int} (h : st.rest = x :: tl) (h1 : ¬ x = 82) (h2 : ¬ x = 66) (h3 : ¬ x = 84) (h4 : ¬ x = 80) (hf : fits x c = false) : nStep0 { st with dig := 0 } c = none := by
  simp [nStep0, h, h1, h2, h3, h4, hf]

end Go.Proofs.Ytgpphkdoanciiaa
