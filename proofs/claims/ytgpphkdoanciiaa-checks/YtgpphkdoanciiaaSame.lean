/-
  Plain: programs, transactions, blocks, requests and whole texts: the two readers agree.
-/
import Derived.Test.YtgpphkdoanciiaaEquiv
namespace Go.Proofs.Ytgpphkdoanciiaa

theorem Keep.comp {f g : RS → RS} (hf : Keep f) (hg : Keep g) : Keep (fun r => g (f r)) := fun r h => by
  show g (f r) = r
  rw [hf r h]; exact hg r h

theorem take_hit (l : List Int) (a x : Int) : rTake [x] (mkR (x :: l) a false) = mkR l (a + 1) false := by
  simp [rTake, rAmong, rIs, rAdv, mkR]
theorem take_miss (l : List Int) (a x c : Int) (h : c ≠ x) : rTake [x] (mkR (c :: l) a false) = mkR (c :: l) a true := by
  simp [rTake, rAmong, rIs, mkR, h]
theorem take_empty (a x : Int) : rTake [x] (mkR [] a false) = mkR [] a true := by
  simp [rTake, rAmong, rIs, mkR]

theorem prog_run : ∀ (n : Nat) (l : List Int) (a : Int) (tl : List Int) (q t s : Int), (n : Int) + s = 40 →
    Sim (rTake [125] (rProg0 n (mkR l a false))) (aRun l a (S (80 :: tl) q t s)) (fun s' _ => ∃ z, s' = S tl q t z)
  | n, [], a, tl, q, t, s, _ => by
    have e : rProg0 n (mkR [] a false) = mkR [] a false := by cases n <;> rfl
    rw [e, take_empty]
    exact ⟨fun _ => run_nil (by simp) (by simp), fun e => (by cases e)⟩
  | 0, c :: l, a, tl, q, t, s, h => by
    show Sim (rTake [125] (mkR (c :: l) a false)) _ _
    by_cases hc : c = 125
    · subst hc
      rw [take_hit]
      exact ⟨fun e => (by cases e), fun _ => ⟨_, run_some ((aStep_S _ _ _ _ _).trans (s0_end (st := S (80 :: tl) q t s) (tl := tl) rfl rfl rfl)), s, rfl⟩⟩
    · rw [take_miss _ _ _ _ hc]
      have hs : s = 40 := by omega
      exact ⟨fun _ => run_none ((aStep_S _ _ _ _ _).trans (s0_full (st := S (80 :: tl) q t s) (tl := tl) rfl rfl hc (Or.inl hs))), fun e => (by cases e)⟩
  | n + 1, c :: l, a, tl, q, t, s, h => by
    cases hi : isStep c with
    | true =>
      have e : rProg0 (n + 1) (mkR (c :: l) a false) = rProg0 n (mkR l (a + 1) false) := by simp [rProg0, mkR, hi, rAdv]
      have hc : ¬ c = 125 := by
        intro e; subst e; exact absurd hi (by decide)
      have hst : aStep (S (80 :: tl) q t s) c = some (S (80 :: tl) q t (s + 1)) :=
        (aStep_S _ _ _ _ _).trans (s0_step (st := S (80 :: tl) q t s) (tl := tl) rfl rfl hc (by show ¬ s = 40; omega) hi)
      rw [e, run_some hst]
      exact prog_run n l (a + 1) tl q t (s + 1) (by omega)
    | false =>
      have e : rProg0 (n + 1) (mkR (c :: l) a false) = mkR (c :: l) a false := by simp [rProg0, mkR, hi]
      rw [e]
      by_cases hc : c = 125
      · subst hc
        rw [take_hit]
        exact ⟨fun e => (by cases e), fun _ => ⟨_, run_some ((aStep_S _ _ _ _ _).trans (s0_end (st := S (80 :: tl) q t s) (tl := tl) rfl rfl rfl)), s, rfl⟩⟩
      · rw [take_miss _ _ _ _ hc]
        exact ⟨fun _ => run_none ((aStep_S _ _ _ _ _).trans (s0_full (st := S (80 :: tl) q t s) (tl := tl) rfl rfl hc (Or.inr hi))), fun e => (by cases e)⟩

theorem Sim.mono {r : RS} {x : Int × Bool} {P Q : AS → List Int → Prop} (h : Sim r x P) (hq : ∀ s l, P s l → Q s l) : Sim r x Q :=
  ⟨h.1, fun e => by obtain ⟨s, h1, h2⟩ := h.2 e; exact ⟨s, h1, hq _ _ h2⟩⟩

/-- a transaction is read: nothing more must stand -/
def TxEnd (q t : Int) (s' : AS) (_ : List Int) : Prop := ∃ z, s' = S [] q t z

theorem step_tx {q t s c k : Int} (hk : txOf c = k) (h0 : k ≠ 0) : aStep0 (S [84] q t s) c = some (S (txShape k) q (t + 1) 0) := by
  have := s0_tx (st := S [84] q t s) (c := c) (tl := []) rfl rfl
  rw [hk] at this
  rw [show aStep0 (S [84] q t s) c = _ from this, aTx, if_neg h0]
  rfl
theorem step_tx_no {q t s c : Int} (hk : txOf c = 0) : aStep0 (S [84] q t s) c = none := by
  have := s0_tx (st := S [84] q t s) (c := c) (tl := []) rfl rfl
  rw [hk] at this
  rw [show aStep0 (S [84] q t s) c = _ from this, aTx, if_pos rfl]

theorem goes_tx {q t s : Int} : Goes rTx (S [120, 84] q t s) (TxEnd q (t + 1)) := by
  intro l a
  have h1 := goes_account (x := 120) (Or.inl rfl) (tl := [84]) (q := q) (t := t) (s := s) l a
  have hk2 : Keep (fun r1 => let p := rAmong [62, 123, 58] 0 r1
      if p.2 = 0 then rNumber 6 (rTake [61] (rAccount p.1)) else if p.2 = 1 then rProg p.1 else rTake [41] (rNumber 6 (rTake [44] (rNumber 6 (rTake [40] (rAccount p.1)))))) := by
    intro r h
    simp only [among_keep _ 0 r h, if_true]
    rw [keep_account r h, keep_take _ r h, keep_number 6 r h]
  refine h1.next hk2 (fun l a => ?_)
  cases l with
  | nil =>
    simp only [among_nil, if_true]
    rw [keep_account _ rfl, keep_take _ _ rfl, keep_number 6 _ rfl]
    exact ⟨fun _ => run_nil (by simp) (by simp), fun e => (by cases e)⟩
  | cons c l =>
    by_cases h62 : c = 62
    · subst h62
      have e := among_some [62, 123, 58] 0 a 62 l 0 rfl
      simp only [e, if_true]
      rw [run_some ((aStep_S _ _ _ _ _).trans (step_tx (c := 62) (k := 1) rfl (by decide)))]
      have g : Goes (fun r => rNumber 6 (rTake [61] (rAccount r))) (S [121, 61, 110] q (t + 1) 0) (fun s' _ => s' = S [] q (t + 1) 0) :=
        (goes_account (Or.inr rfl)).next ((keep_take _).comp (keep_number 6)) ((goes_take (x := 61) (by unfold lit; omega)).next (keep_number 6) (goes_num (Or.inl rfl)))
      exact (g l (a + 1)).mono fun s l h => ⟨0, h⟩
    · by_cases h123 : c = 123
      · subst h123
        have e := among_some [62, 123, 58] 0 a 123 l 1 rfl
        simp only [e]
        rw [run_some ((aStep_S _ _ _ _ _).trans (step_tx (c := 123) (k := 2) rfl (by decide))), if_neg (by decide), if_pos trivial]
        exact prog_run 40 l (a + 1) [] q (t + 1) 0 (by decide)
      · by_cases h58 : c = 58
        · subst h58
          have e := among_some [62, 123, 58] 0 a 58 l 2 rfl
          simp only [e]
          rw [run_some ((aStep_S _ _ _ _ _).trans (step_tx (c := 58) (k := 3) rfl (by decide))), if_neg (by decide), if_neg (by decide)]
          have g5 : Goes (fun r => rTake [41] (rNumber 6 r)) (S [107, 41] q (t + 1) 0) (fun s' _ => s' = S [] q (t + 1) 0) :=
            (goes_num (Or.inr rfl)).next (keep_take _) (goes_take (x := 41) (by unfold lit; omega))
          have k5 : Keep (fun r => rTake [41] (rNumber 6 r)) := (keep_number 6).comp (keep_take _)
          have g4 := (goes_take (x := 44) (tl := [107, 41]) (q := q) (t := t + 1) (s := 0) (by unfold lit; omega)).next k5 g5
          have k4 : Keep (fun r => rTake [41] (rNumber 6 (rTake [44] r))) := (keep_take _).comp k5
          have g3 := (goes_num (x := 110) (tl := [44, 107, 41]) (q := q) (t := t + 1) (s := 0) (Or.inl rfl)).next k4 g4
          have k3 : Keep (fun r => rTake [41] (rNumber 6 (rTake [44] (rNumber 6 r)))) := (keep_number 6).comp k4
          have g2 := (goes_take (x := 40) (tl := [110, 44, 107, 41]) (q := q) (t := t + 1) (s := 0) (by unfold lit; omega)).next k3 g3
          have k2 : Keep (fun r => rTake [41] (rNumber 6 (rTake [44] (rNumber 6 (rTake [40] r))))) := (keep_take _).comp k3
          have g1 := (goes_account (x := 121) (tl := [40, 110, 44, 107, 41]) (q := q) (t := t + 1) (s := 0) (Or.inr rfl)).next k2 g2
          exact (g1 l (a + 1)).mono fun s l h => ⟨0, h⟩
        · have e := among_none [62, 123, 58] 0 a c l (by simp [pos, h62, h123, h58])
          simp only [e, if_true]
          rw [keep_account _ rfl, keep_take _ _ rfl, keep_number 6 _ rfl]
          refine ⟨fun _ => run_none ((aStep_S _ _ _ _ _).trans (step_tx_no ?_)), fun e => (by cases e)⟩
          simp [txOf, h62, h123, h58]

/-- a request is read: what may follow -/
def Done (q : Int) (st : AS) (l : List Int) : Prop :=
  st.dig = 0 ∧ st.req = q ∧ (l = [] → ∀ a, aRun [] a st = (a, true)) ∧ (∀ c l', l = c :: l' → aStep st c = if c = 59 ∧ q < 24 then some { st with rest := [82] } else none)

theorem done_plain {q t z : Int} {l : List Int} (h : ∀ c l', l = c :: l' → c = 44 → ¬ (0 < t ∧ t < 8)) : Done q (S [] q t z) l := by
  refine ⟨rfl, rfl, fun _ a => rfl, fun c l' e => ?_⟩
  rw [aStep_S]
  show aGoOn (S [] q t z) c = _
  unfold aGoOn
  show (if c = 59 ∧ q < 24 then some { S [] q t z with rest := [82] } else if c = 44 ∧ 0 < t ∧ t < 8 then some { S [] q t z with rest := [120, 84] } else none) = _
  by_cases h1 : c = 59 ∧ q < 24
  · rw [if_pos h1, if_pos h1]
  · rw [if_neg h1, if_neg h1, if_neg (fun h2 => h c l' e h2.1 h2.2)]

theorem goes_txs : ∀ (n : Nat) (l : List Int) (a q t s : Int), (n : Int) + 1 + t = 8 → 0 ≤ t →
    Sim (rTxs (n + 1) (mkR l a false)) (aRun l a (S [120, 84] q t s)) (Done q)
  | n, l, a, q, t, s, hn, ht => by
    have g := goes_tx (q := q) (t := t) (s := s) l a
    rw [rTxs, if_neg (show ¬ (mkR l a false).bad = true from Bool.false_ne_true)]
    generalize rTx (mkR l a false) = r1 at g ⊢
    obtain ⟨l1, a1, b1⟩ := r1
    cases b1 with
    | true =>
      rw [if_pos (show rIs ⟨l1, a1, true⟩ 44 = false ∨ n = 0 from Or.inl rfl)]
      exact ⟨fun _ => g.1 rfl, fun e => (by cases e)⟩
    | false =>
      obtain ⟨s', hx, z, hz⟩ := g.2 rfl
      subst hz
      rw [hx]
      by_cases hc : rIs ⟨l1, a1, false⟩ 44 = false ∨ n = 0
      · rw [if_pos hc]
        refine ⟨fun e => (by cases e), fun _ => ⟨_, rfl, done_plain fun c l' e hc44 => ?_⟩⟩
        have e' : l1 = c :: l' := e
        subst e'; subst hc44
        rcases hc with hc | hc
        · simp [rIs] at hc
        · omega
      · rw [if_neg hc]
        match l1, hc with
        | [], hc => exact absurd (Or.inl (by simp [rIs])) hc
        | c :: l', hc =>
          have h44 : c = 44 := by
            apply Classical.byContradiction
            intro h; exact hc (Or.inl (by simp [rIs, h]))
          subst h44
          have hn0 : n ≠ 0 := fun h => hc (Or.inr h)
          obtain ⟨m, rfl⟩ : ∃ m, n = m + 1 := ⟨n - 1, by omega⟩
          have e1 : rTake [44] (⟨44 :: l', a1, false⟩ : RS) = mkR l' (a1 + 1) false := take_hit l' a1 44
          rw [e1]
          have hst : aStep (S [] q (t + 1) z) 44 = some (S [120, 84] q (t + 1) z) := by
            rw [aStep_S]
            show aGoOn (S [] q (t + 1) z) 44 = _
            unfold aGoOn
            rw [if_neg (by simp), if_pos ⟨rfl, by show 0 < t + 1; omega, by show t + 1 < 8; omega⟩]
            rfl
          rw [show aRun (⟨44 :: l', a1, false⟩ : RS).l (⟨44 :: l', a1, false⟩ : RS).at' (S [] q (t + 1) z) = aRun l' (a1 + 1) (S [120, 84] q (t + 1) z) from run_some hst]
          exact goes_txs m l' (a1 + 1) q (t + 1) z (by omega) (by omega)

theorem step_blk_no {q s c : Int} (h : isA c = false) : aStep (S [66] q 0 s) c = if c = 59 ∧ q < 24 then some { S [66] q 0 s with rest := [82] } else none := by
  rw [aStep_S]
  rw [show aStep0 (S [66] q 0 s) c = aGoOn (S [66] q 0 s) c from s0_blk_no (st := S [66] q 0 s) (tl := []) rfl rfl h]
  unfold aGoOn
  show (if c = 59 ∧ q < 24 then some { S [66] q 0 s with rest := [82] } else if c = 44 ∧ (0 : Int) < 0 ∧ (0 : Int) < 8 then some { S [66] q 0 s with rest := [120, 84] } else none) = _
  by_cases h1 : c = 59 ∧ q < 24
  · rw [if_pos h1, if_pos h1]
  · rw [if_neg h1, if_neg h1, if_neg (by omega)]

theorem blk_same {q s c : Int} {l : List Int} {a : Int} (h : c ≠ 59) : aRun (c :: l) a (S [66] q 0 s) = aRun (c :: l) a (S [120, 84] q 0 s) := by
  cases ha : isA c with
  | true =>
    have e1 : aStep (S [66] q 0 s) c = some (S [84] q 0 s) := (aStep_S _ _ _ _ _).trans (s0_blk (st := S [66] q 0 s) (tl := []) rfl rfl ha)
    have hf : fits 120 c = true := by
      unfold fits
      rw [if_neg (by omega), if_neg (by omega), if_pos (by omega)]; exact ha
    have hm : more 120 c = 0 := by
      unfold more
      by_cases h : c = 48 ∨ isD c = false
      · rw [if_pos h]
      · rw [if_neg h, if_neg (by omega), if_neg (by omega)]
    have e2 : aStep (S [120, 84] q 0 s) c = some (S [84] q 0 s) := (aStep_S _ _ _ _ _).trans (step_fit (by omega) (by omega) (by omega) (by omega) hf hm)
    rw [run_some e1, run_some e2]
  | false =>
    have e1 : aStep (S [66] q 0 s) c = none := by rw [step_blk_no ha, if_neg (fun e => h e.1)]
    have hf : fits 120 c = false := by
      unfold fits
      rw [if_neg (by omega), if_neg (by omega), if_pos (by omega)]; exact ha
    have e2 : aStep (S [120, 84] q 0 s) c = none := (aStep_S _ _ _ _ _).trans (step_nofit (by omega) (by omega) (by omega) (by omega) hf)
    rw [run_none e1, run_none e2]

theorem goes_block {q s : Int} : Goes rBlock (S [120, 47, 66] q 0 s) (Done q) := by
  have h : Goes (fun r => rTake [47] (rAccount r)) (S [120, 47, 66] q 0 s) (fun s' _ => s' = S [66] q 0 s) :=
    (goes_account (Or.inl rfl)).next (keep_take _) (goes_take (x := 47) (by unfold lit; omega))
  refine h.next (g := fun r1 => if r1.bad = true ∨ r1.l = [] ∨ rIs r1 59 = true then r1 else rTxs 8 r1) (fun r hr => if_pos (Or.inl hr)) (fun l a => ?_)
  cases l with
  | nil =>
    show Sim (if (mkR [] a false).bad = true ∨ (mkR [] a false).l = [] ∨ rIs (mkR [] a false) 59 = true then mkR [] a false else rTxs 8 (mkR [] a false)) _ _
    rw [show (if (mkR [] a false).bad = true ∨ (mkR [] a false).l = [] ∨ rIs (mkR [] a false) 59 = true then mkR [] a false else rTxs 8 (mkR [] a false)) = mkR [] a false from if_pos (Or.inr (Or.inl rfl))]
    exact ⟨fun e => (by cases e), fun _ => ⟨_, rfl, rfl, rfl, fun _ a => rfl, fun c l' e => (by cases e)⟩⟩
  | cons c l =>
    by_cases hc : c = 59
    · subst hc
      show Sim (if (mkR (59 :: l) a false).bad = true ∨ (mkR (59 :: l) a false).l = [] ∨ rIs (mkR (59 :: l) a false) 59 = true then mkR (59 :: l) a false else rTxs 8 (mkR (59 :: l) a false)) _ _
      rw [show (if (mkR (59 :: l) a false).bad = true ∨ (mkR (59 :: l) a false).l = [] ∨ rIs (mkR (59 :: l) a false) 59 = true then mkR (59 :: l) a false else rTxs 8 (mkR (59 :: l) a false)) = mkR (59 :: l) a false from if_pos (Or.inr (Or.inr (by simp [rIs, mkR])))]
      refine ⟨fun e => (by cases e), fun _ => ⟨_, rfl, rfl, rfl, fun e => (by cases e), fun c l' e => ?_⟩⟩
      cases e
      exact step_blk_no (by decide)
    · show Sim (if (mkR (c :: l) a false).bad = true ∨ (mkR (c :: l) a false).l = [] ∨ rIs (mkR (c :: l) a false) 59 = true then mkR (c :: l) a false else rTxs 8 (mkR (c :: l) a false)) _ _
      rw [show (if (mkR (c :: l) a false).bad = true ∨ (mkR (c :: l) a false).l = [] ∨ rIs (mkR (c :: l) a false) 59 = true then mkR (c :: l) a false else rTxs 8 (mkR (c :: l) a false)) = rTxs 8 (mkR (c :: l) a false) from if_neg (by simp [rIs, mkR, hc])]
      rw [blk_same hc]
      exact goes_txs 7 (c :: l) a q 0 s (by decide) (by decide)

theorem step_req {q t s c k : Int} (hk : reqOf c = k) (h0 : k ≠ 0) : aStep (S [82] q t s) c = some (S (reqShape k) (q + 1) 0 s) := by
  rw [aStep_S]
  have := s0_req (st := S [82] q t s) (c := c) (tl := []) rfl rfl
  rw [hk] at this
  rw [show aStep0 (S [82] q t s) c = _ from this, aReq, if_neg h0]
  rfl
theorem step_req_no {q t s c : Int} (hk : reqOf c = 0) : aStep (S [82] q t s) c = none := by
  rw [aStep_S]
  have := s0_req (st := S [82] q t s) (c := c) (tl := []) rfl rfl
  rw [hk] at this
  rw [show aStep0 (S [82] q t s) c = _ from this, aReq, if_pos rfl]

theorem req_done {r : RS} {x : Int × Bool} {q z : Int} (h : Sim r x (fun s' _ => s' = S [] q 0 z)) : Sim r x (Done q) :=
  h.mono fun s l e => by rw [e]; exact done_plain fun _ _ _ _ => by omega

theorem rq_i (l : List Int) (a : Int) : rRequest (mkR (105 :: l) a false) = rBlock (rTake [58] (rVersion (mkR l (a + 1) false))) := by
  unfold rRequest; rw [among_some _ 0 a 105 l 0 rfl]; rfl
theorem rq_g (l : List Int) (a : Int) : rRequest (mkR (103 :: l) a false) = (rAmong [48, 49, 50, 51, 52, 53, 54, 55, 56, 57, 97, 98, 99, 100, 101, 102] 0 (rAccount (rTake [58] (rVersion (mkR l (a + 1) false))))).1 := by
  unfold rRequest; rw [among_some _ 0 a 103 l 1 rfl]; rfl
theorem rq_b (l : List Int) (a : Int) : rRequest (mkR (98 :: l) a false) = rAccount (rTake [58] (rVersion (mkR l (a + 1) false))) := by
  unfold rRequest; rw [among_some _ 0 a 98 l 2 rfl]; rfl
theorem rq_c (l : List Int) (a : Int) : rRequest (mkR (99 :: l) a false) = rTake [41] (rNumber 6 (rTake [44] (rNumber 6 (rTake [40] (rAccount (rTake [62] (rAccount (rTake [58] (rVersion (mkR l (a + 1) false)))))))))) := by
  unfold rRequest; rw [among_some _ 0 a 99 l 3 rfl]; rfl
theorem rq_m (l : List Int) (a : Int) : rRequest (mkR (109 :: l) a false) = rTake [41] (rNumber 6 (rTake [40] (rAccount (rTake [62] (rAccount (rTake [58] (rVersion (mkR l (a + 1) false)))))))) := by
  unfold rRequest; rw [among_some _ 0 a 109 l 4 rfl]; rfl
theorem rq_r (l : List Int) (a : Int) : rRequest (mkR (114 :: l) a false) = rVersion (mkR l (a + 1) false) := by
  unfold rRequest; rw [among_some _ 0 a 114 l 5 rfl]; rfl
theorem rq_l (l : List Int) (a : Int) : rRequest (mkR (108 :: l) a false) = rVersion (mkR l (a + 1) false) := by
  unfold rRequest; rw [among_some _ 0 a 108 l 6 rfl]; rfl
theorem rq_u (l : List Int) (a : Int) : rRequest (mkR (117 :: l) a false) = rVersion (mkR l (a + 1) false) := by
  unfold rRequest; rw [among_some _ 0 a 117 l 7 rfl]; rfl
theorem rq_d (l : List Int) (a : Int) : rRequest (mkR (100 :: l) a false) = rVersion (rTake [58] (rVersion (mkR l (a + 1) false))) := by
  unfold rRequest; rw [among_some _ 0 a 100 l 8 rfl]; rfl

theorem goes_request {q t s : Int} : Goes rRequest (S [82] q t s) (Done (q + 1)) := by
  have L : ∀ x : Int, x = 58 ∨ x = 62 ∨ x = 40 ∨ x = 41 ∨ x = 44 → lit x := fun x h => by unfold lit; omega
  intro l a
  cases l with
  | nil =>
    have e : rRequest (mkR [] a false) = mkR [] a true := by unfold rRequest; rw [among_nil]; rfl
    rw [e]
    exact ⟨fun _ => run_nil (by simp) (by simp), fun e => (by cases e)⟩
  | cons c l =>
    by_cases h : c = 105
    · subst h
      rw [rq_i, run_some (step_req (c := 105) (k := 1) rfl (by decide))]
      have g : Goes (fun r => rBlock (rTake [58] (rVersion r))) (S [86, 58, 120, 47, 66] (q + 1) 0 s) (Done (q + 1)) :=
        (goes_version (Or.inl rfl)).next ((keep_take _).comp keep_block) ((goes_take (L 58 (by omega))).next keep_block goes_block)
      exact g l (a + 1)
    by_cases h : c = 103
    · subst h
      rw [rq_g, run_some (step_req (c := 103) (k := 2) rfl (by decide))]
      have g3 := (goes_account (x := 120) (tl := [115]) (q := q + 1) (t := 0) (s := s) (Or.inl rfl)).next (keep_among _) goes_hex
      have g2 := (goes_take (x := 58) (tl := [120, 115]) (q := q + 1) (t := 0) (s := s) (L 58 (by omega))).next (keep_account.comp (keep_among _)) g3
      have g1 := (goes_version (x := 86) (tl := [58, 120, 115]) (q := q + 1) (t := 0) (s := s) (Or.inl rfl)).next ((keep_take _).comp (keep_account.comp (keep_among _))) g2
      exact req_done (g1 l (a + 1))
    by_cases h : c = 98
    · subst h
      rw [rq_b, run_some (step_req (c := 98) (k := 3) rfl (by decide))]
      have g2 := (goes_take (x := 58) (tl := [120]) (q := q + 1) (t := 0) (s := s) (L 58 (by omega))).next keep_account (goes_account (Or.inl rfl))
      have g1 := (goes_version (x := 86) (tl := [58, 120]) (q := q + 1) (t := 0) (s := s) (Or.inl rfl)).next ((keep_take _).comp keep_account) g2
      exact req_done (g1 l (a + 1))
    by_cases h : c = 99
    · subst h
      rw [rq_c, run_some (step_req (c := 99) (k := 4) rfl (by decide))]
      have g9 := (goes_num (x := 107) (tl := [41]) (q := q + 1) (t := 0) (s := s) (Or.inr rfl)).next (keep_take _) (goes_take (L 41 (by omega)))
      have k9 := (keep_number 6).comp (keep_take [41])
      have g8 := (goes_take (x := 44) (tl := [107, 41]) (q := q + 1) (t := 0) (s := s) (L 44 (by omega))).next k9 g9
      have k8 := (keep_take [44]).comp k9
      have g7 := (goes_num (x := 110) (tl := [44, 107, 41]) (q := q + 1) (t := 0) (s := s) (Or.inl rfl)).next k8 g8
      have k7 := (keep_number 6).comp k8
      have g6 := (goes_take (x := 40) (tl := [110, 44, 107, 41]) (q := q + 1) (t := 0) (s := s) (L 40 (by omega))).next k7 g7
      have k6 := (keep_take [40]).comp k7
      have g5 := (goes_account (x := 121) (tl := [40, 110, 44, 107, 41]) (q := q + 1) (t := 0) (s := s) (Or.inr rfl)).next k6 g6
      have k5 := keep_account.comp k6
      have g4 := (goes_take (x := 62) (tl := [121, 40, 110, 44, 107, 41]) (q := q + 1) (t := 0) (s := s) (L 62 (by omega))).next k5 g5
      have k4 := (keep_take [62]).comp k5
      have g3 := (goes_account (x := 120) (tl := [62, 121, 40, 110, 44, 107, 41]) (q := q + 1) (t := 0) (s := s) (Or.inl rfl)).next k4 g4
      have k3 := keep_account.comp k4
      have g2 := (goes_take (x := 58) (tl := [120, 62, 121, 40, 110, 44, 107, 41]) (q := q + 1) (t := 0) (s := s) (L 58 (by omega))).next k3 g3
      have k2 := (keep_take [58]).comp k3
      have g1 := (goes_version (x := 86) (tl := [58, 120, 62, 121, 40, 110, 44, 107, 41]) (q := q + 1) (t := 0) (s := s) (Or.inl rfl)).next k2 g2
      exact req_done (g1 l (a + 1))
    by_cases h : c = 109
    · subst h
      rw [rq_m, run_some (step_req (c := 109) (k := 5) rfl (by decide))]
      have g9 := (goes_num (x := 107) (tl := [41]) (q := q + 1) (t := 0) (s := s) (Or.inr rfl)).next (keep_take _) (goes_take (L 41 (by omega)))
      have k9 := (keep_number 6).comp (keep_take [41])
      have g6 := (goes_take (x := 40) (tl := [107, 41]) (q := q + 1) (t := 0) (s := s) (L 40 (by omega))).next k9 g9
      have k6 := (keep_take [40]).comp k9
      have g5 := (goes_account (x := 121) (tl := [40, 107, 41]) (q := q + 1) (t := 0) (s := s) (Or.inr rfl)).next k6 g6
      have k5 := keep_account.comp k6
      have g4 := (goes_take (x := 62) (tl := [121, 40, 107, 41]) (q := q + 1) (t := 0) (s := s) (L 62 (by omega))).next k5 g5
      have k4 := (keep_take [62]).comp k5
      have g3 := (goes_account (x := 120) (tl := [62, 121, 40, 107, 41]) (q := q + 1) (t := 0) (s := s) (Or.inl rfl)).next k4 g4
      have k3 := keep_account.comp k4
      have g2 := (goes_take (x := 58) (tl := [120, 62, 121, 40, 107, 41]) (q := q + 1) (t := 0) (s := s) (L 58 (by omega))).next k3 g3
      have k2 := (keep_take [58]).comp k3
      have g1 := (goes_version (x := 86) (tl := [58, 120, 62, 121, 40, 107, 41]) (q := q + 1) (t := 0) (s := s) (Or.inl rfl)).next k2 g2
      exact req_done (g1 l (a + 1))
    by_cases h : c = 114
    · subst h
      rw [rq_r, run_some (step_req (c := 114) (k := 6) rfl (by decide))]
      exact req_done (goes_version (Or.inl rfl) l (a + 1))
    by_cases h : c = 108
    · subst h
      rw [rq_l, run_some (step_req (c := 108) (k := 7) rfl (by decide))]
      exact req_done (goes_version (Or.inl rfl) l (a + 1))
    by_cases h : c = 117
    · subst h
      rw [rq_u, run_some (step_req (c := 117) (k := 8) rfl (by decide))]
      exact req_done (goes_version (Or.inl rfl) l (a + 1))
    by_cases h : c = 100
    · subst h
      rw [rq_d, run_some (step_req (c := 100) (k := 9) rfl (by decide))]
      have g2 := (goes_take (x := 58) (tl := [87]) (q := q + 1) (t := 0) (s := s) (L 58 (by omega))).next keep_version (goes_version (Or.inr rfl))
      have g1 := (goes_version (x := 86) (tl := [58, 87]) (q := q + 1) (t := 0) (s := s) (Or.inl rfl)).next ((keep_take _).comp keep_version) g2
      exact req_done (g1 l (a + 1))
    have e : rRequest (mkR (c :: l) a false) = mkR (c :: l) a true := by
      unfold rRequest; rw [among_none _ 0 a c l (by simp [pos, *])]; rfl
    rw [e]
    exact ⟨fun _ => run_none (step_req_no (by simp [reqOf, *])), fun e => (by cases e)⟩

theorem read_same : ∀ (n : Nat) (l : List Int) (a q t s : Int), (n : Int) + 1 + q = 24 →
    rRead (n + 1) (mkR l a false) = if (aRun l a (S [82] q t s)).2 = true then -1 else (aRun l a (S [82] q t s)).1
  | n, l, a, q, t, s, hn => by
    have g := goes_request (q := q) (t := t) (s := s) l a
    rw [rRead]
    generalize rRequest (mkR l a false) = r1 at g ⊢
    obtain ⟨l1, a1, b1⟩ := r1
    cases b1 with
    | true =>
      rw [g.1 rfl]
      rfl
    | false =>
      obtain ⟨st', hx, hd⟩ := g.2 rfl
      rw [hx]
      obtain ⟨hdig, hreq, hnil, hstep⟩ := hd
      show (if (false = true) then a1 else if l1 = [] then -1 else if rIs ⟨l1, a1, false⟩ 59 = false ∨ n = 0 then a1 else rRead n (rAdv ⟨l1, a1, false⟩)) = if (aRun l1 a1 st').2 = true then -1 else (aRun l1 a1 st').1
      rw [if_neg Bool.false_ne_true]
      match l1, hnil, hstep with
      | [], hnil, _ =>
        rw [if_pos rfl, hnil rfl a1]
        rfl
      | c :: l', _, hstep =>
        rw [if_neg (by simp)]
        have hs := hstep c l' rfl
        by_cases hc : rIs ⟨c :: l', a1, false⟩ 59 = false ∨ n = 0
        · rw [if_pos hc]
          have : ¬ (c = 59 ∧ q + 1 < 24) := by
            rintro ⟨h1, h2⟩
            rcases hc with hc | hc
            · subst h1; simp [rIs] at hc
            · omega
          rw [if_neg this] at hs
          rw [run_none hs]
          rfl
        · rw [if_neg hc]
          have h59 : c = 59 := by
            apply Classical.byContradiction
            intro h; exact hc (Or.inl (by simp [rIs, h]))
          have hn0 : n ≠ 0 := fun h => hc (Or.inr h)
          obtain ⟨m, rfl⟩ : ∃ m, n = m + 1 := ⟨n - 1, by omega⟩
          rw [if_pos ⟨h59, by omega⟩] at hs
          rw [run_some hs]
          have e2 : ({ st' with rest := [82] } : AS) = S [82] (q + 1) st'.tx st'.stp := by
            obtain ⟨r', d', q', t', s'⟩ := st'
            simp only at hdig hreq
            subst hdig hreq
            rfl
          rw [e2]
          exact read_same m l' (a1 + 1) (q + 1) st'.tx st'.stp (by omega)

theorem aRun_ge : ∀ (l : List Int) (a : Int) (st : AS), a ≤ (aRun l a st).1
  | [], a, st => Int.le_refl a
  | c :: l, a, st => by
    cases h : aStep st c with
    | none => rw [run_none h]; exact Int.le_refl a
    | some st' =>
      rw [run_some h]
      have := aRun_ge l (a + 1) st'
      omega

end Go.Proofs.Ytgpphkdoanciiaa
