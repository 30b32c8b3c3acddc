/-
  The program's loop over the bytes of a batch: it does what the plain run says.
-/
import Derived.Test.YtcekenolmfppjaaReader

import Derived.WalkMore
namespace Go.Proofs.Ytcekenolmfppjaa
open Go.RowKit

set_option maxRecDepth 100000 in
set_option maxHeartbeats 8000000 in
theorem read_any (b : Nat) (B : ByteArray) (s0 : ByteArray) (st0 : AS) (w : World) (h : AR b s0 st0 w) (hB : B.size ≤ 1200) (ho : OkS 0 st0) :
    Calls Try.prog 10 #[.pointer (some ⟨b, 0, none⟩), .string B] w fun e w' =>
      Below b w w' ∧ ((∃ k : Nat, k < B.size ∧ e = .returned (.int .i64 k) ∧ aRun (txt B) 0 st0 = ((k : Int), false))
        ∨ (∃ s st, e = .returned (.int .i64 B.size) ∧ AR b s st w' ∧ aRun (txt B) 0 st0 = aRun [] (B.size : Int) st)) := by
  go_enter Try.func10, Try.ntmps10
  go_wp2
  go_step3
  go_wp2
  go_step3
  go_wp2
  go_loopw [5] (fun i wr => ∃ (k : Nat) (s : ByteArray) (st : AS), k ≤ B.size ∧ i = .int .i64 k ∧ AR b s st wr ∧ Below b w wr ∧ OkS k st ∧ aRun (txt B) 0 st0 = aRun ((txt B).drop k) k st) (fun i _ => B.size - (intOf i).toNat)
  case atStart => exact ⟨0, s0, st0, Nat.zero_le _, rfl, h, Below.refl _ _, ho, rfl⟩
  case round =>
    obtain ⟨k, s, st, hk, rfl, hr, hbl, hok, hrun⟩ := hrel
    have HR : Hid (aRun (txt B) 0 st0 = aRun ((txt B).drop k) k st) := hrun
    clear hrun
    have c0 := hr.c0
    have c1 := hr.c1
    have c2 := hr.c2
    have c3 := hr.c3
    have c4 := hr.c4
    have f0 := hr.f0
    have f1 := hr.f1
    have f2 := hr.f2
    have f3 := hr.f3
    have f4 := hr.f4
    have d0 := hok.d0
    have d1 := hok.d1
    have r0 := hok.r0
    have r1 := hok.r1
    have t0 := hok.t0
    have t1 := hok.t1
    have e0 := hok.s0
    have e1 := hok.s1
    by_cases hlt : k < B.size
    · by_cases hA : 0 < st.dig ∧ isD (B[k].toNat : Int) = true
      · obtain ⟨hA1, hA2⟩ := hA
        go_wp2_with (go_at_call 13; refine (isDigit_any _ _).mono ?_; rintro e w' ⟨rfl, hw⟩; subst w')
        have hst := step_more hA1 hA2
        exact ⟨⟨k + 1, s, _, by omega, by go_num, hr.set1 _, hbl.trans (below_set _ _ _ _), ok_step hok hst, run_next hlt HR.out hst⟩, by simp [intOf]; omega⟩
      · have hst := step_zero hA
        have HST : Hid (aStep st (B[k].toNat : Int) = aStep0 { st with dig := 0 } (B[k].toNat : Int)) := hst
        have hdg : (0 < st.dig ∧ isD (B[k].toNat : Int) = false) ∨ st.dig ≤ 0 := by
          by_cases h1 : 0 < st.dig
          · left; refine ⟨h1, ?_⟩
            cases h2 : isD (B[k].toNat : Int) with
            | false => rfl
            | true => exact absurd ⟨h1, h2⟩ hA
          · right; omega
        clear hA hst
        have hr1 := hr.set1 0
        have hb1 := hbl.trans (below_set wr b 1 (.int .i64 0))
        by_cases hz : s.size = 0
        · have hse := empty_yes s hz
          have hnil : st.rest = [] := by rw [← hr.ht]; exact txt_nil s hz
          have HO : Hid (aStep0 { st with dig := 0 } (B[k].toNat : Int) = aGoOn { st with dig := 0 } (B[k].toNat : Int)) := s0_nil hnil
          clear hnil
          rcases hdg with ⟨hd1, hd2⟩ | hd1
          all_goals
            go_wp2_with (first | (go_at_call 13; refine (isDigit_any _ _).mono ?_; rintro e w' ⟨rfl, hw⟩; subst w') | (go_at_call 14; refine (goOn_any b s _ _ _ hr1).mono ?_; rintro e w' ⟨hbx, ⟨ho1, rfl⟩ | ⟨s', st', ho1, rfl, har⟩⟩))
            · (try rw [Exit.noGoto_ret]); go_ret
              exact ⟨hb1.trans hbx, Or.inl ⟨k, hlt, rfl, run_stop hlt HR.out (HST.out.trans (HO.out.trans ho1))⟩⟩
            · have hst := HST.out.trans (HO.out.trans ho1)
              exact ⟨⟨k + 1, s', _, by omega, by go_num, har, hb1.trans hbx, ok_step hok hst, run_next hlt HR.out hst⟩, by simp [intOf]; omega⟩
        · have hse := empty_no s hz
          have hs0 : 0 < s.size := by omega
          have hs9 : s.size ≤ 10 := hr.hs
          have HC : Hid (st.rest = (s[0].toNat : Int) :: (txt s).tail) := by rw [← hr.ht]; exact txt_cons s hs0
          have hq20 : st.req ≤ 2000 := by omega
          have hx20 : st.tx ≤ 2000 := by omega
          by_cases hR : (s[0].toNat : Int) = 82
          · have HO : Hid (aStep0 { st with dig := 0 } (B[k].toNat : Int) = aReq { st with dig := 0 } (reqOf (B[k].toNat : Int))) := s0_req HC.out hR
            have hRb : ((s[0].toNat : Int) == 82) = true := by rw [hR]; rfl
            clear hR
            rcases hdg with ⟨hd1, hd2⟩ | hd1
            all_goals
              go_wp2_with (first | (go_at_call 13; refine (isDigit_any _ _).mono ?_; rintro e w' ⟨rfl, hw⟩; subst w') | (go_at_call 16; refine (reqOf_any _ _).mono ?_; rintro e w' ⟨rfl, hw⟩; subst w') | (go_at_call 15; refine (beginRequest_any b s _ _ _ hr1 r0 hq20).mono ?_; rintro e w' ⟨hbx, ⟨ho1, rfl⟩ | ⟨s', st', ho1, rfl, har⟩⟩))
              · (try rw [Exit.noGoto_ret]); go_ret
                exact ⟨hb1.trans hbx, Or.inl ⟨k, hlt, rfl, run_stop hlt HR.out (HST.out.trans (HO.out.trans ho1))⟩⟩
              · have hst := HST.out.trans (HO.out.trans ho1)
                exact ⟨⟨k + 1, s', _, by omega, by go_num, har, hb1.trans hbx, ok_step hok hst, run_next hlt HR.out hst⟩, by simp [intOf]; omega⟩
          by_cases hBk : (s[0].toNat : Int) = 66
          · cases hac : isA (B[k].toNat : Int) with
            | true =>
              have HO : Hid (aStep0 { st with dig := 0 } (B[k].toNat : Int) = some { st with dig := 0, rest := [84] }) := s0_blk HC.out hBk hac
              have hRb : ((s[0].toNat : Int) == 82) = false := by rw [hBk]; rfl
              have hBb : ((s[0].toNat : Int) == 66) = true := by rw [hBk]; rfl
              clear hBk hR
              rcases hdg with ⟨hd1, hd2⟩ | hd1
              all_goals
                go_wp2_with (first | (go_at_call 13; refine (isDigit_any _ _).mono ?_; rintro e w' ⟨rfl, hw⟩; subst w') | (go_at_call 17; refine (isAccount_any _ _).mono ?_; rintro e w' ⟨rfl, hw⟩; subst w'))
                have hst := HST.out.trans HO.out
                exact ⟨⟨k + 1, _, _, by omega, by go_num, hr1.set0 _ [84] (by decide) (by decide), hb1.trans (below_set _ _ _ _), ok_step hok hst, run_next hlt HR.out hst⟩, by simp [intOf]; omega⟩
            | false =>
              have HO : Hid (aStep0 { st with dig := 0 } (B[k].toNat : Int) = aGoOn { st with dig := 0 } (B[k].toNat : Int)) := s0_blk_no HC.out hBk hac
              have hRb : ((s[0].toNat : Int) == 82) = false := by rw [hBk]; rfl
              have hBb : ((s[0].toNat : Int) == 66) = true := by rw [hBk]; rfl
              clear hBk hR
              rcases hdg with ⟨hd1, hd2⟩ | hd1
              all_goals
                go_wp2_with (first | (go_at_call 13; refine (isDigit_any _ _).mono ?_; rintro e w' ⟨rfl, hw⟩; subst w') | (go_at_call 17; refine (isAccount_any _ _).mono ?_; rintro e w' ⟨rfl, hw⟩; subst w') | (go_at_call 14; refine (goOn_any b s _ _ _ hr1).mono ?_; rintro e w' ⟨hbx, ⟨ho1, rfl⟩ | ⟨s', st', ho1, rfl, har⟩⟩))
                · (try rw [Exit.noGoto_ret]); go_ret
                  exact ⟨hb1.trans hbx, Or.inl ⟨k, hlt, rfl, run_stop hlt HR.out (HST.out.trans (HO.out.trans ho1))⟩⟩
                · have hst := HST.out.trans (HO.out.trans ho1)
                  exact ⟨⟨k + 1, s', _, by omega, by go_num, har, hb1.trans hbx, ok_step hok hst, run_next hlt HR.out hst⟩, by simp [intOf]; omega⟩
          by_cases hT : (s[0].toNat : Int) = 84
          · have HO : Hid (aStep0 { st with dig := 0 } (B[k].toNat : Int) = aTx { st with dig := 0 } (txOf (B[k].toNat : Int))) := s0_tx HC.out hT
            have hRb : ((s[0].toNat : Int) == 82) = false := by rw [hT]; rfl
            have hBb : ((s[0].toNat : Int) == 66) = false := by rw [hT]; rfl
            have hTb : ((s[0].toNat : Int) == 84) = true := by rw [hT]; rfl
            clear hT hR hBk
            rcases hdg with ⟨hd1, hd2⟩ | hd1
            all_goals
              go_wp2_with (first | (go_at_call 13; refine (isDigit_any _ _).mono ?_; rintro e w' ⟨rfl, hw⟩; subst w') | (go_at_call 19; refine (txOf_any _ _).mono ?_; rintro e w' ⟨rfl, hw⟩; subst w') | (go_at_call 18; refine (beginTransaction_any b s _ _ _ hr1 t0 hx20).mono ?_; rintro e w' ⟨hbx, ⟨ho1, rfl⟩ | ⟨s', st', ho1, rfl, har⟩⟩))
              · (try rw [Exit.noGoto_ret]); go_ret
                exact ⟨hb1.trans hbx, Or.inl ⟨k, hlt, rfl, run_stop hlt HR.out (HST.out.trans (HO.out.trans ho1))⟩⟩
              · have hst := HST.out.trans (HO.out.trans ho1)
                exact ⟨⟨k + 1, s', _, by omega, by go_num, har, hb1.trans hbx, ok_step hok hst, run_next hlt HR.out hst⟩, by simp [intOf]; omega⟩
          by_cases hP : (s[0].toNat : Int) = 80
          · by_cases hce : (B[k].toNat : Int) = 125
            · have HO : Hid (aStep0 { st with dig := 0 } (B[k].toNat : Int) = some { st with dig := 0, rest := (txt s).tail }) := s0_end HC.out hP hce
              have hcb : ((B[k].toNat : Int) != 125) = false := by rw [hce]; rfl
              clear hce
              have hRb : ((s[0].toNat : Int) == 82) = false := by rw [hP]; rfl
              have hBb : ((s[0].toNat : Int) == 66) = false := by rw [hP]; rfl
              have hTb : ((s[0].toNat : Int) == 84) = false := by rw [hP]; rfl
              have hPb : ((s[0].toNat : Int) == 80) = true := by rw [hP]; rfl
              clear hT hR hBk hP
              rcases hdg with ⟨hd1, hd2⟩ | hd1
              all_goals
                go_wp2_with (first | (go_at_call 13; refine (isDigit_any _ _).mono ?_; rintro e w' ⟨rfl, hw⟩; subst w'))
                have hst := HST.out.trans HO.out
                exact ⟨⟨k + 1, _, _, by omega, by go_num, hr1.set0 _ _ (size_tail s hs9) (txt_tail s), hb1.trans (below_set _ _ _ _), ok_step hok hst, run_next hlt HR.out hst⟩, by simp [intOf]; omega⟩
            have hcb : ((B[k].toNat : Int) != 125) = true := by rw [bne_iff_ne]; exact hce
            by_cases h40 : st.stp = 40
            · have HO : Hid (aStep0 { st with dig := 0 } (B[k].toNat : Int) = none) := s0_full HC.out hP hce (Or.inl h40)
              have h40b : (st.stp == 40) = true := by rw [h40]; rfl
              clear h40 hce
              have hRb : ((s[0].toNat : Int) == 82) = false := by rw [hP]; rfl
              have hBb : ((s[0].toNat : Int) == 66) = false := by rw [hP]; rfl
              have hTb : ((s[0].toNat : Int) == 84) = false := by rw [hP]; rfl
              have hPb : ((s[0].toNat : Int) == 80) = true := by rw [hP]; rfl
              clear hT hR hBk hP
              rcases hdg with ⟨hd1, hd2⟩ | hd1
              all_goals
                go_wp2_with (first | (go_at_call 13; refine (isDigit_any _ _).mono ?_; rintro e w' ⟨rfl, hw⟩; subst w'))
                (try rw [Exit.noGoto_ret]); go_ret
                exact ⟨hb1, Or.inl ⟨k, hlt, rfl, run_stop hlt HR.out (HST.out.trans HO.out)⟩⟩
            have h40b : (st.stp == 40) = false := by rw [beq_eq_false_iff_ne]; exact h40
            cases hi : isStep (B[k].toNat : Int) with
            | true =>
              have HO : Hid (aStep0 { st with dig := 0 } (B[k].toNat : Int) = some { st with dig := 0, stp := st.stp + 1 }) := s0_step HC.out hP hce h40 hi
              clear h40 hce
              have hRb : ((s[0].toNat : Int) == 82) = false := by rw [hP]; rfl
              have hBb : ((s[0].toNat : Int) == 66) = false := by rw [hP]; rfl
              have hTb : ((s[0].toNat : Int) == 84) = false := by rw [hP]; rfl
              have hPb : ((s[0].toNat : Int) == 80) = true := by rw [hP]; rfl
              clear hT hR hBk hP
              rcases hdg with ⟨hd1, hd2⟩ | hd1
              all_goals
                go_wp2_with (first | (go_at_call 13; refine (isDigit_any _ _).mono ?_; rintro e w' ⟨rfl, hw⟩; subst w') | (go_at_call 20; refine (stepOf_any _ _).mono ?_; rintro e w' ⟨⟨ks, rfl, hks⟩, hw⟩; subst w'; rw [hi] at hks))
                have hst := HST.out.trans HO.out
                exact ⟨⟨k + 1, _, _, by omega, by go_num, hr1.set4 _, hb1.trans (below_set _ _ _ _), ok_step hok hst, run_next hlt HR.out hst⟩, by simp [intOf]; omega⟩
            | false =>
              have HO : Hid (aStep0 { st with dig := 0 } (B[k].toNat : Int) = none) := s0_full HC.out hP hce (Or.inr hi)
              clear h40 hce
              have hRb : ((s[0].toNat : Int) == 82) = false := by rw [hP]; rfl
              have hBb : ((s[0].toNat : Int) == 66) = false := by rw [hP]; rfl
              have hTb : ((s[0].toNat : Int) == 84) = false := by rw [hP]; rfl
              have hPb : ((s[0].toNat : Int) == 80) = true := by rw [hP]; rfl
              clear hT hR hBk hP
              rcases hdg with ⟨hd1, hd2⟩ | hd1
              all_goals
                go_wp2_with (first | (go_at_call 13; refine (isDigit_any _ _).mono ?_; rintro e w' ⟨rfl, hw⟩; subst w') | (go_at_call 20; refine (stepOf_any _ _).mono ?_; rintro e w' ⟨⟨ks, rfl, hks⟩, hw⟩; subst w'; rw [hi] at hks))
                (try rw [Exit.noGoto_ret]); go_ret
                exact ⟨hb1, Or.inl ⟨k, hlt, rfl, run_stop hlt HR.out (HST.out.trans HO.out)⟩⟩
          cases hf : fits (s[0].toNat : Int) (B[k].toNat : Int) with
          | true =>
            have HO : Hid (aStep0 { st with dig := 0 } (B[k].toNat : Int) = some { st with dig := more (s[0].toNat : Int) (B[k].toNat : Int), rest := (txt s).tail }) := s0_fit HC.out hR hBk hT hP hf
            have hRb : ((s[0].toNat : Int) == 82) = false := by rw [beq_eq_false_iff_ne]; exact hR
            have hBkb : ((s[0].toNat : Int) == 66) = false := by rw [beq_eq_false_iff_ne]; exact hBk
            have hTb : ((s[0].toNat : Int) == 84) = false := by rw [beq_eq_false_iff_ne]; exact hT
            have hPb : ((s[0].toNat : Int) == 80) = false := by rw [beq_eq_false_iff_ne]; exact hP
            clear hR hBk hT hP
            rcases hdg with ⟨hd1, hd2⟩ | hd1
            all_goals
              go_wp2_with (first | (go_at_call 13; refine (isDigit_any _ _).mono ?_; rintro e w' ⟨rfl, hw⟩; subst w') | (go_at_call 21; refine (fits_any _ _ _).mono ?_; rintro e w' ⟨rfl, hw⟩; subst w') | (go_at_call 22; refine (moreDigits_any _ _ _).mono ?_; rintro e w' ⟨rfl, hw⟩; subst w'))
              have hst := HST.out.trans HO.out
              exact ⟨⟨k + 1, _, _, by omega, by go_num, (hr1.set1 (more (s[0].toNat : Int) (B[k].toNat : Int))).set0 _ _ (size_tail s hs9) (txt_tail s), (hb1.trans (below_set _ _ _ _)).trans (below_set _ _ _ _), ok_step hok hst, run_next hlt HR.out hst⟩, by simp [intOf]; omega⟩
          | false =>
            have HO : Hid (aStep0 { st with dig := 0 } (B[k].toNat : Int) = none) := s0_fit_no HC.out hR hBk hT hP hf
            have hRb : ((s[0].toNat : Int) == 82) = false := by rw [beq_eq_false_iff_ne]; exact hR
            have hBkb : ((s[0].toNat : Int) == 66) = false := by rw [beq_eq_false_iff_ne]; exact hBk
            have hTb : ((s[0].toNat : Int) == 84) = false := by rw [beq_eq_false_iff_ne]; exact hT
            have hPb : ((s[0].toNat : Int) == 80) = false := by rw [beq_eq_false_iff_ne]; exact hP
            clear hR hBk hT hP
            rcases hdg with ⟨hd1, hd2⟩ | hd1
            all_goals
              go_wp2_with (first | (go_at_call 13; refine (isDigit_any _ _).mono ?_; rintro e w' ⟨rfl, hw⟩; subst w') | (go_at_call 21; refine (fits_any _ _ _).mono ?_; rintro e w' ⟨rfl, hw⟩; subst w'))
              (try rw [Exit.noGoto_ret]); go_ret
              exact ⟨hb1, Or.inl ⟨k, hlt, rfl, run_stop hlt HR.out (HST.out.trans HO.out)⟩⟩
    · go_wp2
      (try rw [Exit.noGoto_ret]); go_ret
      refine ⟨hbl, Or.inr ⟨s, st, ret_int (by omega), hr, run_end hlt hk HR.out⟩⟩

end Go.Proofs.Ytcekenolmfppjaa
