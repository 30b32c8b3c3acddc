/-
  The document's reader: take, account, number, version, program.
-/
import Derived.Test.YtgpphkdoanciiaaRefA
import Derived.Deep.LoopGhost
namespace Go.Proofs.Ytgpphkdoanciiaa
open Go.RowKit

theorem txt_one (S : ByteArray) (j : Nat) (h : j < S.size) : txt (S.extract j (j + 1)) = [(S[j].toNat : Int)] := by
  unfold txt
  rw [ByteArray.data_extract, Array.toList_extract, List.extract_eq_take_drop]
  rw [List.drop_eq_getElem_cons (by simpa using h)]
  simp [ByteArray.getElem_eq_getElem_data]

theorem rAmong_bad0 : ∀ (l : List Int) (i : Int) (r : RS), (rAmong l i r).1.bad = true → (rAmong l i r).2 = 0
  | [], _, _, _ => rfl
  | x :: xs, i, r, h => by
    rw [rAmong] at h ⊢
    by_cases hx : rIs r x = true
    · rw [if_pos hx] at h
      simp only [rIs, Bool.and_eq_true, Bool.not_eq_true'] at hx
      simp only [rAdv, hx.1] at h
      cases h
    · rw [if_neg hx] at h ⊢
      exact rAmong_bad0 xs (i + 1) r h
theorem rAmong_bd : ∀ (l : List Int) (i : Int) (r : RS), 0 ≤ i → 0 ≤ (rAmong l i r).2 ∧ ((rAmong l i r).2 = 0 ∨ (rAmong l i r).2 < i + l.length)
  | [], _, _, _ => ⟨Int.le_refl 0, Or.inl rfl⟩
  | x :: xs, i, r, hi => by
    rw [rAmong]
    by_cases hx : rIs r x = true
    · rw [if_pos hx]; exact ⟨hi, Or.inr (by simp; omega)⟩
    · rw [if_neg hx]
      have := rAmong_bd xs (i + 1) r (by omega)
      exact ⟨this.1, by rcases this.2 with h | h
                        · exact Or.inl h
                        · right; simp only [List.length_cons]; omega⟩

set_option maxRecDepth 100000 in
set_option maxHeartbeats 1000000 in
theorem rtake_any (b : Nat) (B : ByteArray) (k : Nat) (bad : Bool) (S : ByteArray) (w : World) (h : RR b B k bad w) (hS : S.size ≤ 100) :
    Calls Try.prog 16 #[.pointer (some ⟨b, 0, none⟩), .string S] w fun e w' =>
      e = .returned (.tuple #[]) ∧ RDid b B (rTake (txt S) (rs B k bad)) w w' := by
  go_enter Try.func16, Try.ntmps16
  go_wp2
  go_loopw [4] (fun i wr => ∃ (j k' : Nat) (bad' : Bool), j ≤ S.size ∧ i = .int .i64 j ∧ RR b B k' bad' wr ∧ Kp b w wr ∧ rTake (txt S) (rs B k bad) = rTake ((txt S).drop j) (rs B k' bad')) (fun i _ => S.size - (intOf i).toNat)
  case atStart => exact ⟨0, k, bad, Nat.zero_le _, rfl, h, Kp.refl _ _, rfl⟩
  case round =>
    obtain ⟨j, k', bad', hj, rfl, hr, hkp, hrun⟩ := hrel
    have HR : Hid (rTake (txt S) (rs B k bad) = rTake ((txt S).drop j) (rs B k' bad')) := hrun
    clear hrun
    by_cases hlt : j < S.size
    · have hsz : (S.extract j (j + 1)).size ≤ 1200 := by rw [ByteArray.size_extract]; omega
      go_wp2_with (go_at_call 14; refine (among_any b B k' bad' _ _ hr hsz).mono ?_; rintro e w1 ⟨rfl, k1, bad1, he, hr1, hk1⟩)
      rw [txt_one S j hlt] at he
      exact ⟨⟨j + 1, k1, bad1, hlt, by go_num, hr1, hkp.trans hk1, by rw [HR.out, txt_drop S j hlt, rTake, he]⟩, by simp [intOf]; omega⟩
    · go_wp2
      go_end0
      refine ⟨rfl, k', bad', ?_, hr, hkp⟩
      rw [HR.out, List.drop_of_length_le (by rw [txt_length]; omega)]; rfl

set_option maxRecDepth 100000 in
set_option maxHeartbeats 1000000 in
theorem account_any (b : Nat) (B : ByteArray) (k : Nat) (bad : Bool) (w : World) (h : RR b B k bad w) :
    Calls Try.prog 18 #[.pointer (some ⟨b, 0, none⟩)] w fun e w' =>
      (∃ v : Int, e = .returned (.int .i64 v)) ∧ RDid b B (rAccount (rs B k bad)) w w' := by
  go_enter Try.func18, Try.ntmps18
  go_wp2_with (go_at_call 14; refine (among_any b B k bad _ _ h (by decide)).mono ?_; rintro e w1 ⟨rfl, hd⟩)
  go_ret
  exact ⟨⟨_, rfl⟩, hd⟩

def p10 : Nat → Int
  | 0 => 1
  | k + 1 => 10 * p10 k
theorem p10_le : ∀ j : Nat, j ≤ 6 → p10 j ≤ 1000000
  | 0, _ => by decide
  | 1, _ => by decide
  | 2, _ => by decide
  | 3, _ => by decide
  | 4, _ => by decide
  | 5, _ => by decide
  | 6, _ => by decide
  | n + 7, h => absurd h (by omega)

theorem skip_stop {n : Nat} {B : ByteArray} {k : Nat} (h : ¬ k < B.size) : rSkipD n (rs B k false) = rs B k false := by
  cases n with
  | zero => rfl
  | succ n => simp [rSkipD, rs, List.drop_of_length_le (show (txt B).length ≤ k by rw [txt_length]; omega)]
theorem skip_no {n : Nat} {B : ByteArray} {k : Nat} (h : k < B.size) (hd : isD (B[k].toNat : Int) = false) : rSkipD n (rs B k false) = rs B k false := by
  cases n with
  | zero => rfl
  | succ n => simp [rSkipD, rs, txt_drop B k h, hd]
theorem skip_yes {n : Nat} {B : ByteArray} {k : Nat} (h : k < B.size) (hd : isD (B[k].toNat : Int) = true) : rSkipD (n + 1) (rs B k false) = rSkipD n (rs B (k + 1) false) := by
  rw [← rAdv_rs h]
  simp [rSkipD, rs, txt_drop B k h, hd]

theorem num_eq (m : Nat) (B : ByteArray) (k : Nat) (bad : Bool) : rNumber m (rs B k bad) =
    if 0 < (rAmong (txt ⟨#[48, 49, 50, 51, 52, 53, 54, 55, 56, 57]⟩) 0 (rs B k bad)).2 then rSkipD (m - 1) (rAmong (txt ⟨#[48, 49, 50, 51, 52, 53, 54, 55, 56, 57]⟩) 0 (rs B k bad)).1
    else (rAmong (txt ⟨#[48, 49, 50, 51, 52, 53, 54, 55, 56, 57]⟩) 0 (rs B k bad)).1 := rfl

set_option maxRecDepth 100000 in
set_option maxHeartbeats 2000000 in
theorem number_any (b : Nat) (B : ByteArray) (k : Nat) (bad : Bool) (m : Int) (w : World) (h : RR b B k bad w) (hm1 : 1 ≤ m) (hm6 : m ≤ 6) :
    Calls Try.prog 19 #[.pointer (some ⟨b, 0, none⟩), .int .i64 m] w fun e w' =>
      (∃ v : Int, e = .returned (.int .i64 v)) ∧ RDid b B (rNumber m.toNat (rs B k bad)) w w' := by
  have hB := h.hB
  go_enter Try.func19, Try.ntmps19
  go_wp2_with (go_at_call 14; refine (among_any b B k bad _ _ h (by decide)).mono ?_; rintro e w1 ⟨rfl, k1, bad1, he, hr1, hk1⟩)
  have hbd := (rAmong_bd (txt ⟨#[48, 49, 50, 51, 52, 53, 54, 55, 56, 57]⟩) 0 (rs B k bad) (Int.le_refl 0))
  have hb0 := rAmong_bad0 (txt ⟨#[48, 49, 50, 51, 52, 53, 54, 55, 56, 57]⟩) 0 (rs B k bad)
  have HN := num_eq m.toNat B k bad
  rw [he] at hb0 HN
  have hv10 : (rAmong (txt ⟨#[48, 49, 50, 51, 52, 53, 54, 55, 56, 57]⟩) 0 (rs B k bad)).2 < 10 := by
    rcases hbd.2 with e | e
    · rw [e]; decide
    · exact e
  have hv0 := hbd.1
  clear hbd he
  generalize (rAmong (txt ⟨#[48, 49, 50, 51, 52, 53, 54, 55, 56, 57]⟩) 0 (rs B k bad)).2 = v at *
  have HB : Hid ((rs B k1 bad1).bad = true → v = 0) := hb0
  clear hb0
  have hinit : (v ≤ 0 ∧ rNumber m.toNat (rs B k bad) = rs B k1 bad1) ∨ (0 < v ∧ bad1 = false ∧ rNumber m.toNat (rs B k bad) = rSkipD (m.toNat - 1) (rs B k1 false)) := by
    by_cases hp : 0 < v
    · right
      have hbf : bad1 = false := by
        cases hb1 : bad1 with
        | false => rfl
        | true => have := HB.out (by rw [hb1]; rfl); omega
      refine ⟨hp, hbf, ?_⟩
      rw [HN, if_pos hp, hbf]
    · left
      exact ⟨by omega, by rw [HN, if_neg hp]⟩
  clear HB HN
  have HI : Hid ((v ≤ 0 ∧ rNumber m.toNat (rs B k bad) = rs B k1 bad1) ∨ (0 < v ∧ bad1 = false ∧ rNumber m.toNat (rs B k bad) = rSkipD (m.toNat - 1) (rs B k1 false))) := hinit
  clear hinit
  go_loopw [5, 6] (fun n i wr => ∃ (x : Int) (j k' : Nat) (bad' : Bool), n = .int .i64 x ∧ i = .int .i64 j ∧ 1 ≤ j ∧ (j : Int) ≤ m ∧ RR b B k' bad' wr ∧ Kp b w wr ∧ x < p10 j ∧
      ((x ≤ 0 ∧ rNumber m.toNat (rs B k bad) = rs B k' bad') ∨ (0 < x ∧ bad' = false ∧ rNumber m.toNat (rs B k bad) = rSkipD (m.toNat - j) (rs B k' false)))) (fun _ i _ => 10 - (intOf i).toNat)
  case atStart => exact ⟨v, 1, k1, bad1, rfl, rfl, Nat.le_refl _, hm1, hr1, hk1, hv10, HI.out⟩
  case round =>
    clear HI hr1 hk1 hv0 hv10
    obtain ⟨x, j, k', bad', rfl, rfl, hj1, hjm, hr, hkp, hx, hcase⟩ := hrel
    have c0 := hr.c0
    have c1 := hr.c1
    have c2 := hr.c2
    have f1 := hr.f1
    have hk' := hr.hk
    have hpj := p10_le j (by omega)
    by_cases hjl : (j : Int) < m
    · rcases hcase with ⟨hx0, hfin⟩ | ⟨hx0, hbf, hfin⟩
      · have HF : Hid (rNumber m.toNat (rs B k bad) = rs B k' bad') := hfin
        clear hfin
        have hd : decide (0 < x) = false := by simp; omega
        go_wp2
        go_quiet (fail)
        go_wp2
        go_ret
        exact ⟨⟨_, rfl⟩, k', bad', HF.out, hr.drewN _, hkp.trans (Kp.drewN _ _ _)⟩
      · have HF : Hid (rNumber m.toNat (rs B k bad) = rSkipD (m.toNat - j) (rs B k' false)) := hfin
        clear hfin
        subst hbf
        by_cases hlt : k' < B.size
        · by_cases h48 : 48 ≤ (B[k'].toNat : Int)
          · by_cases h57 : (B[k'].toNat : Int) ≤ 57
            · have hmj : m.toNat - j = (m.toNat - (j + 1)) + 1 := by omega
              have hfin := HF.out
              rw [hmj, skip_yes hlt (isD_yes ⟨h48, h57⟩)] at hfin
              have HF2 : Hid (rNumber m.toNat (rs B k bad) = rSkipD (m.toNat - (j + 1)) (rs B (k' + 1) false)) := hfin
              clear hfin hmj HF
              go_wp2
              go_quiet (fail)
              go_wp2
              go_quiet (fail)
              go_wp2
              exact ⟨⟨_, j + 1, k' + 1, false, rfl, by go_num, by omega, by omega, (hr.drewN _).adv (k' + 1) _ (by omega) hlt, (hkp.trans (Kp.drewN _ _ _)).trans (Kp.set _ _ _ _), by rw [show p10 (j + 1) = 10 * p10 j from rfl]; omega, Or.inr ⟨by omega, rfl, HF2.out⟩⟩, by simp [intOf]; omega⟩
            · have hd : decide ((B[k'].toNat : Int) ≤ 57) = false := by simp; omega
              go_wp2
              go_quiet (fail)
              go_wp2
              go_ret
              exact ⟨⟨_, rfl⟩, k', false, HF.out.trans (skip_no hlt (isD_no (by omega))), hr.drewN _, hkp.trans (Kp.drewN _ _ _)⟩
          · have hd : decide (48 ≤ (B[k'].toNat : Int)) = false := by simp; omega
            go_wp2
            go_quiet (fail)
            go_wp2
            go_ret
            exact ⟨⟨_, rfl⟩, k', false, HF.out.trans (skip_no hlt (isD_no (by omega))), hr.drewN _, hkp.trans (Kp.drewN _ _ _)⟩
        · have hd : decide ((k' : Int) < (B.size : Int)) = false := by simp; omega
          go_wp2
          go_quiet (fail)
          go_wp2
          go_ret
          exact ⟨⟨_, rfl⟩, k', false, HF.out.trans (skip_stop hlt), hr.drewN _, hkp.trans (Kp.drewN _ _ _)⟩
    · have hd : decide ((j : Int) < m) = false := by simp; omega
      have hfin : ∃ bad'', bad'' = bad' ∧ rNumber m.toNat (rs B k bad) = rs B k' bad'' := by
        rcases hcase with ⟨_, h1⟩ | ⟨_, h2, h1⟩
        · exact ⟨_, rfl, h1⟩
        · rw [show m.toNat - j = 0 by omega] at h1; exact ⟨false, h2.symm, h1⟩
      obtain ⟨bad'', hbe, hfin⟩ := hfin
      subst hbe
      have HF : Hid (rNumber m.toNat (rs B k bad) = rs B k' bad'') := hfin
      clear hfin hcase
      go_wp2
      go_quiet (fail)
      go_wp2
      go_ret
      exact ⟨⟨_, rfl⟩, k', bad'', HF.out, hr.drewN _, hkp.trans (Kp.drewN _ _ _)⟩

set_option maxRecDepth 100000 in
set_option maxHeartbeats 1000000 in
theorem version_any (b : Nat) (B : ByteArray) (k : Nat) (bad : Bool) (w : World) (h : RR b B k bad w) :
    Calls Try.prog 15 #[.pointer (some ⟨b, 0, none⟩)] w fun e w' =>
      (∃ v : Int, e = .returned (.int .i64 v)) ∧ RDid b B (rVersion (rs B k bad)) w w' := by
  have hB := h.hB
  have hk := h.hk
  cases hi : rIs (rs B k bad) 104 with
  | true =>
    have hkl := rIs_lt hi
    go_enter Try.func15, Try.ntmps15
    go_wp2_with (go_at_call 12; refine (is_any b B k bad _ _ h).mono ?_; rintro e w1 ⟨rfl, hr1, hk1⟩; have c1 := hr1.c1; have f1 := hr1.f1)
    go_ret
    exact ⟨⟨_, rfl⟩, k + 1, bad, by rw [rVersion, if_pos hi, rAdv_rs hkl], hr1.adv (k + 1) _ (by omega) hkl, hk1.trans (Kp.set _ _ _ _)⟩
  | false =>
    go_enter Try.func15, Try.ntmps15
    go_wp2_with (first | (go_at_call 12; refine (is_any b B k bad _ _ h).mono ?_; rintro e w1 ⟨rfl, hr1, hk1⟩) | (go_at_call 19; refine (number_any b B k bad _ _ hr1 (by decide) (by decide)).mono ?_; rintro e w2 ⟨⟨v, rfl⟩, k2, bad2, he2, hr2, hk2⟩))
    go_ret
    exact ⟨⟨_, rfl⟩, k2, bad2, by rw [rVersion, if_neg (by rw [hi]; exact Bool.false_ne_true)]; exact he2, hr2, hk1.trans hk2⟩

def cost (c : Int) : Int :=
  if c = 42 ∨ c = 47 ∨ c = 106 then 2 else if c = 108 then 3 else if c = 101 then 4 else if c = 116 then 6 else if c = 118 ∨ c = 111 then 8
  else if isStep c = true then 1 else 0
theorem cost_pos (c : Int) : (0 < cost c) ↔ isStep c = true := by
  unfold cost
  by_cases h : isStep c = true
  · simp only [h, if_true, iff_true]
    (repeat' split) <;> decide
  · have h' := h
    rw [isStep_iff] at h'
    unfold stepP at h'
    rw [if_neg (by omega), if_neg (by omega), if_neg (by omega), if_neg (by omega), if_neg (by omega), if_neg h]
    simp [h]
theorem cost_one {c : Int} (h : stepP c) (h1 : ¬ (c = 42 ∨ c = 47 ∨ c = 106)) (h2 : ¬ c = 108) (h3 : ¬ c = 101) (h4 : ¬ c = 116) (h5 : ¬ (c = 118 ∨ c = 111)) : cost c = 1 := by
  unfold cost
  rw [if_neg h1, if_neg h2, if_neg h3, if_neg h4, if_neg h5, if_pos (isStep_yes h)]
theorem cost_none {c : Int} (h : ¬ stepP c) : cost c = 0 := by
  unfold cost
  have h' := h
  unfold stepP at h'
  rw [if_neg (by omega), if_neg (by omega), if_neg (by omega), if_neg (by omega), if_neg (by omega), if_neg (by rw [isStep_no h]; exact Bool.false_ne_true)]

set_option maxHeartbeats 1000000 in
theorem costs_eq (c : Int) (w : World) :
    Calls Try.prog 39 #[.int .u8 c] w fun e w' => e = .returned (.int .i64 (cost c)) ∧ w' = w := by
  go_enter Try.func39, Try.ntmps39
  go_wp2
  all_goals go_ret
  all_goals refine ⟨ret_int ?_, rfl⟩
  all_goals (try go_light)
  all_goals simp only [beq_iff_eq, beq_eq_false_iff_ne, ne_eq] at *
  all_goals first | (rw [cost_one (by unfold stepP; omega) (by omega) (by omega) (by omega) (by omega) (by omega)]) | (rw [cost_none (by unfold stepP; omega)]) | (simp [cost, *]; done)

theorem prog_end {n : Nat} {B : ByteArray} {k : Nat} {bad : Bool} (h : ¬ k < B.size) : rProg0 n (rs B k bad) = rs B k bad := by
  cases n with
  | zero => rfl
  | succ n => simp [rProg0, rs, List.drop_of_length_le (show (txt B).length ≤ k by rw [txt_length]; omega)]
theorem prog_bad {n : Nat} {B : ByteArray} {k : Nat} : rProg0 n (rs B k true) = rs B k true := by
  cases n with
  | zero => rfl
  | succ n => simp [rProg0, rs]
theorem prog_no {n : Nat} {B : ByteArray} {k : Nat} (h : k < B.size) (hd : isStep (B[k].toNat : Int) = false) : rProg0 n (rs B k false) = rs B k false := by
  cases n with
  | zero => rfl
  | succ n => simp [rProg0, rs, txt_drop B k h, hd]
theorem prog_yes {n : Nat} {B : ByteArray} {k : Nat} (h : k < B.size) (hd : isStep (B[k].toNat : Int) = true) : rProg0 (n + 1) (rs B k false) = rProg0 n (rs B (k + 1) false) := by
  rw [← rAdv_rs h]
  simp [rProg0, rs, txt_drop B k h, hd]

set_option maxRecDepth 100000 in
set_option maxHeartbeats 2000000 in
theorem program_any (b : Nat) (B : ByteArray) (k : Nat) (bad : Bool) (w : World) (h : RR b B k bad w) :
    Calls Try.prog 37 #[.pointer (some ⟨b, 0, none⟩)] w fun e w' =>
      (∃ s : ByteArray, e = .returned (.string s)) ∧ RDid b B (rProg (rs B k bad)) w w' := by
  have hB := h.hB
  have hk := h.hk
  have c1 := h.c1
  go_enter Try.func37, Try.ntmps37
  go_wp2
  clear c1
  go_loopg [] 40 (fun n wr => ∃ k' : Nat, n + (k' - k) = 40 ∧ k ≤ k' ∧ RR b B k' bad wr ∧ Kp b w wr ∧ rProg0 40 (rs B k bad) = rProg0 n (rs B k' bad))
  case atStart => exact ⟨k, by omega, Nat.le_refl _, h, Kp.refl _ _, rfl⟩
  case round =>
    obtain ⟨k', hn, hkk, hr, hkp, hrun⟩ := hrel
    have HR : Hid (rProg0 40 (rs B k bad) = rProg0 gk (rs B k' bad)) := hrun
    clear hrun
    have c0 := hr.c0
    have c1 := hr.c1
    have c2 := hr.c2
    have f1 := hr.f1
    have hk' := hr.hk
    cases bad with
    | true =>
      go_wp2
      go_quiet (fail)
      go_wp2
      go_quiet (fail)
      go_wp2_with (go_at_call 16; refine (rtake_any b B k' true _ _ (hr.drewN _) (by decide)).mono ?_; rintro e w2 ⟨rfl, k2, bad2, he2, hr2, hk2⟩)
      go_ret
      exact ⟨⟨_, rfl⟩, k2, bad2, by rw [rProg, HR.out, prog_bad]; exact he2, hr2, (hkp.trans (Kp.drewN _ _ _)).trans hk2⟩
    | false =>
      by_cases hlt : k' < B.size
      · by_cases h40 : gk = 0
        · have hd : decide ((k' : Int) - (k : Int) < 40) = false := by simp; omega
          go_wp2
          go_quiet (fail)
          go_wp2
          go_quiet (fail)
          go_wp2_with (go_at_call 16; refine (rtake_any b B k' false _ _ (hr.drewN _) (by decide)).mono ?_; rintro e w2 ⟨rfl, k2, bad2, he2, hr2, hk2⟩)
          go_ret
          exact ⟨⟨_, rfl⟩, k2, bad2, by rw [rProg, HR.out, h40]; exact he2, hr2, (hkp.trans (Kp.drewN _ _ _)).trans hk2⟩
        · obtain ⟨n, rfl⟩ : ∃ n, gk = n + 1 := ⟨gk - 1, by omega⟩
          have hl40 : (k' : Int) - (k : Int) < 40 := by omega
          have hl0 : (0 : Int) ≤ (k' : Int) - (k : Int) := by omega
          have HN : Hid (n + 1 + (k' - k) = 40) := hn
          clear hn h40
          cases hi : isStep (B[k'].toNat : Int) with
          | true =>
            have hc : 0 < cost (B[k'].toNat : Int) := (cost_pos _).2 hi
            have hfin := HR.out
            rw [prog_yes hlt hi] at hfin
            have HF : Hid (rProg0 40 (rs B k false) = rProg0 n (rs B (k' + 1) false)) := hfin
            clear hfin HR
            go_wp2
            go_quiet ((go_at_call 39; exact Calls.quiet_of_same (costs_eq _ _)))
            go_wp2
            go_roundg n
            case measure => omega
            case rel => exact ⟨k' + 1, by have := HN.out; omega, by omega, (hr.drewN _).adv (k' + 1) _ (by omega) hlt, (hkp.trans (Kp.drewN _ _ _)).trans (Kp.set _ _ _ _), HF.out⟩
          | false =>
            have hc : cost (B[k'].toNat : Int) ≤ 0 := by
              have h0 : ¬ 0 < cost (B[k'].toNat : Int) := by rw [cost_pos, hi]; exact Bool.false_ne_true
              omega
            have hcd : decide (0 < cost (B[k'].toNat : Int)) = false := by simp; omega
            go_wp2
            go_quiet ((go_at_call 39; exact Calls.quiet_of_same (costs_eq _ _)))
            go_wp2
            go_quiet (fail)
            go_wp2_with (go_at_call 16; refine (rtake_any b B k' false _ _ (hr.drewN _) (by decide)).mono ?_; rintro e w2 ⟨rfl, k2, bad2, he2, hr2, hk2⟩)
            go_ret
            exact ⟨⟨_, rfl⟩, k2, bad2, by rw [rProg, HR.out, prog_no hlt hi]; exact he2, hr2, (hkp.trans (Kp.drewN _ _ _)).trans hk2⟩
      · have hd : decide ((k' : Int) < (B.size : Int)) = false := by simp; omega
        go_wp2
        go_quiet (fail)
        go_wp2
        go_quiet (fail)
        go_wp2_with (go_at_call 16; refine (rtake_any b B k' false _ _ (hr.drewN _) (by decide)).mono ?_; rintro e w2 ⟨rfl, k2, bad2, he2, hr2, hk2⟩)
        go_ret
        exact ⟨⟨_, rfl⟩, k2, bad2, by rw [rProg, HR.out, prog_end hlt]; exact he2, hr2, (hkp.trans (Kp.drewN _ _ _)).trans hk2⟩

end Go.Proofs.Ytgpphkdoanciiaa
