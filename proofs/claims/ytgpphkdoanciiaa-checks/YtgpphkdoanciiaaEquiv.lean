/-
  Plain: the program's reader and the document's reader find the same place in every text.
-/
import Derived.Test.YtgpphkdoanciiaaSteps
namespace Go.Proofs.Ytgpphkdoanciiaa

/-- a state with no digits to come -/
def S (rest : List Int) (q t s : Int) : AS := { rest := rest, dig := 0, req := q, tx := t, stp := s }
def mkR (l : List Int) (a : Int) (bad : Bool) : RS := { l := l, at' := a, bad := bad }

/-- the document's reader stands at r'; the run, whose end is x, goes on from there or has ended there -/
def Sim (r' : RS) (x : Int × Bool) (P : AS → List Int → Prop) : Prop :=
  (r'.bad = true → x = (r'.at', false)) ∧ (r'.bad = false → ∃ st', x = aRun r'.l r'.at' st' ∧ P st' r'.l)
def Keep (g : RS → RS) : Prop := ∀ r, r.bad = true → g r = r
def Goes (f : RS → RS) (st : AS) (P : AS → List Int → Prop) : Prop := ∀ l a, Sim (f (mkR l a false)) (aRun l a st) P

theorem Sim.next {r1 : RS} {x : Int × Bool} {st' : AS} {g : RS → RS} {P : AS → List Int → Prop} (h : Sim r1 x (fun s _ => s = st')) (hk : Keep g) (hg : Goes g st' P) : Sim (g r1) x P := by
  obtain ⟨l, a, bad⟩ := r1
  cases bad with
  | true =>
    rw [hk _ rfl]
    exact ⟨fun _ => h.1 rfl, fun e => by cases e⟩
  | false =>
    obtain ⟨s, hx, hs⟩ := h.2 rfl
    subst hs
    rw [hx]
    exact hg l a
theorem Goes.next {f g : RS → RS} {st st' : AS} {P : AS → List Int → Prop} (h : Goes f st (fun s _ => s = st')) (hk : Keep g) (hg : Goes g st' P) : Goes (fun r => g (f r)) st P :=
  fun l a => (h l a).next hk hg

theorem among_keep : ∀ (xs : List Int) (i : Int) (r : RS), r.bad = true → rAmong xs i r = (r, 0)
  | [], _, r, h => by obtain ⟨l, a, b⟩ := r; cases h; rfl
  | x :: xs, i, r, h => by
    rw [rAmong, if_neg (by simp [rIs, h])]
    exact among_keep xs (i + 1) r h
theorem keep_among (xs : List Int) : Keep (fun r => (rAmong xs 0 r).1) := fun r h => by simp [among_keep xs 0 r h]
theorem keep_take : ∀ (xs : List Int), Keep (rTake xs)
  | [], _, _ => rfl
  | x :: xs, r, h => by
    rw [rTake, among_keep [x] 0 r h]
    exact keep_take xs r h
theorem keep_number (m : Nat) : Keep (rNumber m) := fun r h => by
  unfold rNumber
  rw [among_keep _ 0 r h]
  rfl
theorem keep_version : Keep rVersion := fun r h => by
  unfold rVersion
  rw [if_neg (by simp [rIs, h])]
  exact keep_number 2 r h
theorem keep_account : Keep rAccount := keep_among _
theorem keep_prog0 : ∀ n, Keep (rProg0 n)
  | 0, _, _ => rfl
  | n + 1, r, h => by obtain ⟨l, a, b⟩ := r; cases h; rfl
theorem keep_prog : Keep rProg := fun r h => by
  unfold rProg
  rw [keep_prog0 40 r h]
  exact keep_take _ r h
theorem keep_tx : Keep rTx := fun r h => by
  unfold rTx
  rw [keep_account r h, among_keep _ 0 r h]
  simp only [if_true]
  rw [keep_account r h, keep_take _ r h, keep_number 6 r h]
theorem keep_txs : ∀ n, Keep (rTxs n)
  | 0, _, _ => rfl
  | n + 1, r, h => by rw [rTxs, if_pos h]
theorem keep_block : Keep rBlock := fun r h => by
  unfold rBlock
  rw [keep_account r h, keep_take _ r h]
  simp [h]

/-- where a byte stands in a list -/
def pos : List Int → Int → Int → Option Int
  | [], _, _ => none
  | x :: xs, i, c => if c = x then some i else pos xs (i + 1) c

theorem among_nil : ∀ (xs : List Int) (i a : Int), rAmong xs i (mkR [] a false) = (mkR [] a true, 0)
  | [], _, _ => rfl
  | x :: xs, i, a => by
    rw [rAmong, if_neg (by simp [rIs, mkR])]
    exact among_nil xs (i + 1) a
theorem among_some : ∀ (xs : List Int) (i a c : Int) (l : List Int) (k : Int), pos xs i c = some k → rAmong xs i (mkR (c :: l) a false) = (mkR l (a + 1) false, k)
  | [], _, _, _, _, _, h => by cases h
  | x :: xs, i, a, c, l, k, h => by
    rw [pos] at h
    rw [rAmong]
    by_cases hx : c = x
    · rw [if_pos hx] at h
      cases h
      rw [if_pos (by simp [rIs, mkR, hx])]
      rfl
    · rw [if_neg hx] at h
      rw [if_neg (by simp [rIs, mkR, hx])]
      exact among_some xs (i + 1) a c l k h
theorem among_none : ∀ (xs : List Int) (i a c : Int) (l : List Int), pos xs i c = none → rAmong xs i (mkR (c :: l) a false) = (mkR (c :: l) a true, 0)
  | [], _, _, _, _, _ => rfl
  | x :: xs, i, a, c, l, h => by
    rw [pos] at h
    rw [rAmong]
    by_cases hx : c = x
    · rw [if_pos hx] at h; cases h
    · rw [if_neg hx] at h
      rw [if_neg (by simp [rIs, mkR, hx])]
      exact among_none xs (i + 1) a c l h

theorem aStep_S (rest : List Int) (q t s c : Int) : aStep (S rest q t s) c = aStep0 (S rest q t s) c := by
  rw [aStep, if_neg (by simp [S])]; rfl
theorem run_nil {rest : List Int} {a q t s : Int} (h1 : rest ≠ []) (h2 : rest ≠ [66]) : aRun [] a (S rest q t s) = (a, false) := by
  simp [aRun, S, h1, h2]
theorem run_some {c : Int} {l : List Int} {a : Int} {st st' : AS} (h : aStep st c = some st') : aRun (c :: l) a st = aRun l (a + 1) st' := by
  rw [aRun, h]
theorem run_none {c : Int} {l : List Int} {a : Int} {st : AS} (h : aStep st c = none) : aRun (c :: l) a st = (a, false) := by
  rw [aRun, h]

/-- one byte out of a list, where the program takes just the same bytes -/
theorem goes_among {xs : List Int} {rest : List Int} {q t s : Int} {st' : AS} (h1 : rest ≠ []) (h2 : rest ≠ [66])
    (hs : ∀ c k, pos xs 0 c = some k → aStep0 (S rest q t s) c = some st') (hn : ∀ c, pos xs 0 c = none → aStep0 (S rest q t s) c = none) :
    Goes (fun r => (rAmong xs 0 r).1) (S rest q t s) (fun s _ => s = st') := by
  intro l a
  cases l with
  | nil =>
    simp only [among_nil]
    exact ⟨fun _ => run_nil h1 h2, fun e => by cases e⟩
  | cons c l =>
    cases hp : pos xs 0 c with
    | some k =>
      simp only [among_some xs 0 a c l k hp]
      exact ⟨fun e => (by cases e), fun _ => ⟨st', run_some ((aStep_S _ _ _ _ _).trans (hs c k hp)), rfl⟩⟩
    | none =>
      simp only [among_none xs 0 a c l hp]
      exact ⟨fun _ => run_none ((aStep_S _ _ _ _ _).trans (hn c hp)), fun e => by cases e⟩

/-- a sign that stands for itself -/
def lit (x : Int) : Prop := x ≠ 82 ∧ x ≠ 66 ∧ x ≠ 84 ∧ x ≠ 80 ∧ x ≠ 86 ∧ x ≠ 87 ∧ x ≠ 110 ∧ x ≠ 107 ∧ x ≠ 120 ∧ x ≠ 121 ∧ x ≠ 115
theorem step_fit {x c : Int} {tl : List Int} {q t s : Int} (h1 : x ≠ 82) (h2 : x ≠ 66) (h3 : x ≠ 84) (h4 : x ≠ 80) (hf : fits x c = true) (hm : more x c = 0) : aStep0 (S (x :: tl) q t s) c = some (S tl q t s) := by
  have := s0_fit (st := S (x :: tl) q t s) (x := x) (tl := tl) (c := c) rfl h1 h2 h3 h4 hf
  rw [hm] at this
  exact this
theorem step_nofit {x c : Int} {tl : List Int} {q t s : Int} (h1 : x ≠ 82) (h2 : x ≠ 66) (h3 : x ≠ 84) (h4 : x ≠ 80) (hf : fits x c = false) : aStep0 (S (x :: tl) q t s) c = none :=
  s0_fit_no (st := S (x :: tl) q t s) (x := x) (tl := tl) (c := c) rfl h1 h2 h3 h4 hf
theorem goes_take {x : Int} (hx : lit x) {tl : List Int} {q t s : Int} : Goes (rTake [x]) (S (x :: tl) q t s) (fun s' _ => s' = S tl q t s) := by
  obtain ⟨h1, h2, h3, h4, h5, h6, h7, h8, h9, h10, h11⟩ := hx
  have hf : ∀ c, fits x c = (c == x) := fun c => by
    unfold fits
    rw [if_neg (by omega), if_neg (by omega), if_neg (by omega), if_neg h11]
  have hm : ∀ c, more x c = 0 := fun c => by
    unfold more
    by_cases h : c = 48 ∨ isD c = false
    · rw [if_pos h]
    · rw [if_neg h, if_neg (by omega), if_neg (by omega)]
  refine goes_among (by simp) (by simp [h2]) (fun c k hp => ?_) (fun c hp => ?_)
  · have hc : c = x := by
      rw [pos, pos] at hp
      by_cases e : c = x
      · exact e
      · rw [if_neg e] at hp; cases hp
    exact step_fit h1 h2 h3 h4 (by rw [hf, hc]; simp) (hm c)
  · have hc : ¬ c = x := by
      rw [pos] at hp
      intro e
      rw [if_pos e] at hp; cases hp
    exact step_nofit h1 h2 h3 h4 (by rw [hf]; simpa using hc)

theorem pos_acc_yes {c : Int} (h : isA c = true) : ∃ k, pos [97, 98, 99, 100, 101, 102, 103, 104] 0 c = some k := by
  rw [isA_iff] at h
  have : c = 97 ∨ c = 98 ∨ c = 99 ∨ c = 100 ∨ c = 101 ∨ c = 102 ∨ c = 103 ∨ c = 104 := by omega
  rcases this with rfl | rfl | rfl | rfl | rfl | rfl | rfl | rfl <;> exact ⟨_, rfl⟩
theorem pos_acc_no {c : Int} (h : isA c = false) : pos [97, 98, 99, 100, 101, 102, 103, 104] 0 c = none := by
  have h' : ¬ (97 ≤ c ∧ c ≤ 104) := fun e => by rw [isA_yes e] at h; cases h
  simp only [pos]
  rw [if_neg (by omega), if_neg (by omega), if_neg (by omega), if_neg (by omega), if_neg (by omega), if_neg (by omega), if_neg (by omega), if_neg (by omega)]
theorem goes_account {x : Int} (hx : x = 120 ∨ x = 121) {tl : List Int} {q t s : Int} : Goes rAccount (S (x :: tl) q t s) (fun s' _ => s' = S tl q t s) := by
  have hf : ∀ c, fits x c = isA c := fun c => by
    unfold fits
    rw [if_neg (by omega), if_neg (by omega), if_pos hx]
  have hm : ∀ c, more x c = 0 := fun c => by
    unfold more
    by_cases h : c = 48 ∨ isD c = false
    · rw [if_pos h]
    · rw [if_neg h, if_neg (by omega), if_neg (by omega)]
  refine goes_among (by simp) (by simp; omega) (fun c k hp => ?_) (fun c hp => ?_)
  · refine step_fit (by omega) (by omega) (by omega) (by omega) ?_ (hm c)
    rw [hf]
    cases h : isA c with
    | true => rfl
    | false => rw [pos_acc_no h] at hp; cases hp
  · refine step_nofit (by omega) (by omega) (by omega) (by omega) ?_
    rw [hf]
    cases h : isA c with
    | false => rfl
    | true => obtain ⟨k, hk⟩ := pos_acc_yes h; rw [hk] at hp; cases hp

theorem pos_hex_yes {c : Int} (h : (48 ≤ c ∧ c ≤ 57) ∨ (97 ≤ c ∧ c ≤ 102)) : ∃ k, pos [48, 49, 50, 51, 52, 53, 54, 55, 56, 57, 97, 98, 99, 100, 101, 102] 0 c = some k := by
  have : c = 48 ∨ c = 49 ∨ c = 50 ∨ c = 51 ∨ c = 52 ∨ c = 53 ∨ c = 54 ∨ c = 55 ∨ c = 56 ∨ c = 57 ∨ c = 97 ∨ c = 98 ∨ c = 99 ∨ c = 100 ∨ c = 101 ∨ c = 102 := by omega
  rcases this with rfl | rfl | rfl | rfl | rfl | rfl | rfl | rfl | rfl | rfl | rfl | rfl | rfl | rfl | rfl | rfl <;> exact ⟨_, rfl⟩
theorem pos_hex_no {c : Int} (h : ¬ ((48 ≤ c ∧ c ≤ 57) ∨ (97 ≤ c ∧ c ≤ 102))) : pos [48, 49, 50, 51, 52, 53, 54, 55, 56, 57, 97, 98, 99, 100, 101, 102] 0 c = none := by
  simp only [pos]
  rw [if_neg (by omega), if_neg (by omega), if_neg (by omega), if_neg (by omega), if_neg (by omega), if_neg (by omega), if_neg (by omega), if_neg (by omega),
    if_neg (by omega), if_neg (by omega), if_neg (by omega), if_neg (by omega), if_neg (by omega), if_neg (by omega), if_neg (by omega), if_neg (by omega)]
theorem goes_hex {tl : List Int} {q t s : Int} : Goes (fun r => (rAmong [48, 49, 50, 51, 52, 53, 54, 55, 56, 57, 97, 98, 99, 100, 101, 102] 0 r).1) (S (115 :: tl) q t s) (fun s' _ => s' = S tl q t s) := by
  have hf : ∀ c, fits 115 c = true ↔ ((48 ≤ c ∧ c ≤ 57) ∨ (97 ≤ c ∧ c ≤ 102)) := fun c => by
    unfold fits
    rw [if_neg (by omega), if_neg (by omega), if_neg (by omega), if_pos rfl]
    simp [isD]
  have hm : ∀ c, more 115 c = 0 := fun c => by
    unfold more
    by_cases h : c = 48 ∨ isD c = false
    · rw [if_pos h]
    · rw [if_neg h, if_neg (by omega), if_neg (by omega)]
  refine goes_among (by simp) (by simp) (fun c k hp => ?_) (fun c hp => ?_)
  · refine step_fit (by omega) (by omega) (by omega) (by omega) ?_ (hm c)
    rw [hf]
    apply Classical.byContradiction
    intro h
    rw [pos_hex_no h] at hp; cases hp
  · refine step_nofit (by omega) (by omega) (by omega) (by omega) ?_
    rw [Bool.eq_false_iff]
    intro h
    rw [hf] at h
    obtain ⟨k, hk⟩ := pos_hex_yes h
    rw [hk] at hp; cases hp

theorem pos_dig_yes {c : Int} (h : 48 ≤ c ∧ c ≤ 57) : pos [48, 49, 50, 51, 52, 53, 54, 55, 56, 57] 0 c = some (c - 48) := by
  have : c = 48 ∨ c = 49 ∨ c = 50 ∨ c = 51 ∨ c = 52 ∨ c = 53 ∨ c = 54 ∨ c = 55 ∨ c = 56 ∨ c = 57 := by omega
  rcases this with rfl | rfl | rfl | rfl | rfl | rfl | rfl | rfl | rfl | rfl <;> rfl
theorem pos_dig_no {c : Int} (h : ¬ (48 ≤ c ∧ c ≤ 57)) : pos [48, 49, 50, 51, 52, 53, 54, 55, 56, 57] 0 c = none := by
  simp only [pos]
  rw [if_neg (by omega), if_neg (by omega), if_neg (by omega), if_neg (by omega), if_neg (by omega), if_neg (by omega), if_neg (by omega), if_neg (by omega),
    if_neg (by omega), if_neg (by omega)]

theorem skip_run : ∀ (d : Nat) (l : List Int) (a : Int) (rest : List Int) (q t s : Int),
    (rSkipD d (mkR l a false)).bad = false ∧ aRun l a { rest := rest, dig := d, req := q, tx := t, stp := s } = aRun (rSkipD d (mkR l a false)).l (rSkipD d (mkR l a false)).at' (S rest q t s)
  | 0, l, a, rest, q, t, s => ⟨rfl, rfl⟩
  | d + 1, [], a, rest, q, t, s => ⟨rfl, rfl⟩
  | d + 1, c :: l, a, rest, q, t, s => by
    by_cases hc : isD c = true
    · have e : rSkipD (d + 1) (mkR (c :: l) a false) = rSkipD d (mkR l (a + 1) false) := by
        simp [rSkipD, mkR, hc, rAdv]
      rw [e]
      have ih := skip_run d l (a + 1) rest q t s
      refine ⟨ih.1, ?_⟩
      rw [← ih.2]
      refine run_some ?_
      rw [aStep, if_pos ⟨by show (0 : Int) < ((d + 1 : Nat) : Int); omega, hc⟩]
      simp
    · have e : rSkipD (d + 1) (mkR (c :: l) a false) = mkR (c :: l) a false := by
        simp [rSkipD, mkR, hc]
      rw [e]
      refine ⟨rfl, ?_⟩
      show aRun (c :: l) a _ = aRun (c :: l) a (S rest q t s)
      rw [aRun, aRun, aStep_S, aStep, if_neg (fun h => hc h.2)]
      rfl

theorem goes_number {x : Int} {m : Nat} (hx : ((x = 110 ∨ x = 107) ∧ m = 6) ∨ ((x = 86 ∨ x = 87) ∧ m = 2)) {l : List Int} {a : Int} {tl : List Int} {q t s : Int} (hh : ∀ c l', l = c :: l' → x = 110 ∨ x = 107 ∨ c ≠ 104) :
    Sim (rNumber m (mkR l a false)) (aRun l a (S (x :: tl) q t s)) (fun s' _ => s' = S tl q t s) := by
  cases l with
  | nil =>
    unfold rNumber
    rw [among_nil]
    exact ⟨fun _ => run_nil (by simp) (by simp; omega), fun e => by cases e⟩
  | cons c l =>
    have hch := hh c l rfl
    have hfit : fits x c = isD c := by
      unfold fits
      by_cases h1 : x = 86 ∨ x = 87
      · rw [if_pos h1]
        have : c ≠ 104 := by omega
        simp [this]
      · rw [if_neg h1, if_pos (by omega)]
    by_cases hd : 48 ≤ c ∧ c ≤ 57
    · have hp := among_some _ 0 a c l _ (pos_dig_yes hd)
      have e1 : rNumber m (mkR (c :: l) a false) = if 0 < c - 48 then rSkipD (m - 1) (mkR l (a + 1) false) else mkR l (a + 1) false := by
        unfold rNumber; rw [hp]
      rw [e1]
      have hs := s0_fit (st := S (x :: tl) q t s) (x := x) (tl := tl) (c := c) rfl (by omega) (by omega) (by omega) (by omega) (hfit.trans (isD_yes hd))
      have hrun : aRun (c :: l) a (S (x :: tl) q t s) = aRun l (a + 1) { rest := tl, dig := more x c, req := q, tx := t, stp := s } := run_some ((aStep_S _ _ _ _ _).trans hs)
      rw [hrun]
      by_cases h0 : c = 48
      · rw [if_neg (by omega)]
        have hm : more x c = 0 := by unfold more; rw [if_pos (Or.inl h0)]
        rw [hm]
        exact ⟨fun e => (by cases e), fun _ => ⟨_, rfl, rfl⟩⟩
      · rw [if_pos (by omega)]
        have hm : more x c = ((m - 1 : Nat) : Int) := by
          unfold more
          rw [if_neg (by rw [isD_yes hd]; simp [h0])]
          rcases hx with ⟨hx, rfl⟩ | ⟨hx, rfl⟩
          · rw [if_neg (by omega), if_pos hx]; rfl
          · rw [if_pos hx]; rfl
        rw [hm]
        have sk := skip_run (m - 1) l (a + 1) tl q t s
        exact ⟨fun e => (by rw [sk.1] at e; cases e), fun _ => ⟨_, sk.2, rfl⟩⟩
    · have hp := among_none _ 0 a c l (pos_dig_no hd)
      have e1 : rNumber m (mkR (c :: l) a false) = mkR (c :: l) a true := by
        unfold rNumber; rw [hp]; rfl
      rw [e1]
      refine ⟨fun _ => run_none ((aStep_S _ _ _ _ _).trans (step_nofit (by omega) (by omega) (by omega) (by omega) (hfit.trans (isD_no hd)))), fun e => by cases e⟩

theorem goes_num {x : Int} (hx : x = 110 ∨ x = 107) {tl : List Int} {q t s : Int} : Goes (rNumber 6) (S (x :: tl) q t s) (fun s' _ => s' = S tl q t s) :=
  fun _ _ => goes_number (Or.inl ⟨hx, rfl⟩) (fun _ _ _ => by omega)
theorem goes_version {x : Int} (hx : x = 86 ∨ x = 87) {tl : List Int} {q t s : Int} : Goes rVersion (S (x :: tl) q t s) (fun s' _ => s' = S tl q t s) := by
  intro l a
  unfold rVersion
  by_cases h : rIs (mkR l a false) 104 = true
  · rw [if_pos h]
    cases l with
    | nil => simp [rIs, mkR] at h
    | cons c l =>
      have hc : c = 104 := by simpa [rIs, mkR] using h
      subst hc
      refine ⟨fun e => (by cases e), fun _ => ⟨_, run_some ((aStep_S _ _ _ _ _).trans (step_fit (by omega) (by omega) (by omega) (by omega) ?_ ?_)), rfl⟩⟩
      · unfold fits; rw [if_pos hx]; rfl
      · unfold more; exact if_pos (Or.inr rfl)
  · rw [if_neg h]
    refine goes_number (Or.inr ⟨hx, rfl⟩) (fun c l' e => ?_)
    subst e
    right; right
    intro e; subst e
    exact h (by simp [rIs, mkR])

end Go.Proofs.Ytgpphkdoanciiaa
