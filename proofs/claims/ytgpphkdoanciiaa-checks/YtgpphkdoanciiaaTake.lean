/-
  The program's reader: what a byte tells is kept.
-/
import Derived.Test.YtgpphkdoanciiaaMem
import Derived.RegionTactic
import Derived.Deep.RegionWith
namespace Go.Proofs.Ytgpphkdoanciiaa
open Go.RowKit

theorem Safe.nm {b m i : Nat} {g : Gh} {w : World} (h : Safe b g m i w) (x : Option Addr) : Safe b { g with nm := x } m i w :=
  ⟨h.bm, h.lt, h.nr, h.ny, h.nq, h.nt, h.v, h.f⟩
theorem TxL.nm {b : Nat} {g : Gh} {w : World} (h : TxL b g w) (x : Option Addr) : TxL b { g with nm := x } w :=
  ⟨h.tx, h.nq, fun i hi => (h.t i hi).nm x, h.c5, h.f5⟩
theorem Live.num {b m i : Nat} {g : Gh} {st : AS} {w : World} (h : Live b g st w) (hs : Safe b g m i w) (d : Int) : Live b { g with nm := some ⟨m, i, none⟩ } { st with dig := d } w := by
  refine ⟨h.rq, fun i hi => (h.q i hi).nm _, h.c8, h.f8, h.own, h.ry, ?_, fun hx => (h.tx hx).nm _, fun _ => ⟨m, i, rfl, hs.nm _⟩⟩
  obtain ⟨mt, e, hm⟩ := h.tm
  exact ⟨mt, e, fun i hi => (hm i hi).nm _⟩
theorem Oth.same (b : Nat) {w w' : World} (e : w'.heap = w.heap) : Oth b w w' := ⟨by rw [e]; exact Nat.le_refl _, fun _ _ _ => by rw [e]⟩
theorem AR.same {b : Nat} {g : Gh} {s : ByteArray} {st : AS} {w w' : World} (h : AR b g s st w) (e : w'.heap = w.heap) : AR b g s st w' := by
  refine ⟨h.box.move (by rw [e]) (by rw [e]; exact Nat.le_refl _), h.hs, h.ht, ?_, ?_⟩
  · obtain ⟨n, hn, ho⟩ := h.own
    exact ⟨n, hn, ownr_oth ho (Oth.same b e)⟩
  · rcases h.lv with h1 | hl
    · exact Or.inl h1
    · exact Or.inr (hl.oth (Oth.same b e))
theorem dig_self (st : AS) (h : st.dig = 0) : { st with dig := 0 } = st := by
  cases st; simp only at h; subst h; rfl

/-- what a method leaves -/
def Did (b : Nat) (s : ByteArray) (st : AS) (w w' : World) : Prop := Below b w w' ∧ ∃ g, AR b g s st w'

theorem AR.put5 {b m i : Nat} {g : Gh} {s : ByteArray} {st : AS} {w : World} (h : AR b g s st w) (hl : Live b g st w) (hs : Safe b g m i w) (hd : st.dig = 0) :
    AR b { g with nm := some ⟨m, i, none⟩ } s st (w.setCell ⟨b, 5, none⟩ (.pointer (some ⟨m, i, none⟩))) := by
  have o := Oth.set b w 5 (.pointer (some ⟨m, i, none⟩))
  have hl' := hl.num hs 0
  rw [dig_self st hd] at hl'
  refine ⟨h.box.put 5 _, h.hs, h.ht, ?_, Or.inr (hl'.oth o)⟩
  obtain ⟨n, hn, ho⟩ := h.own
  exact ⟨n, hn, ownr_oth (g := { g with nm := some ⟨m, i, none⟩ }) ho o⟩
/-- digits that may follow -/
theorem AR.put6 {b m i : Nat} {g : Gh} {s : ByteArray} {st : AS} {w : World} (h : AR b g s st w) (hl : Live b g st w) (hn : g.nm = some ⟨m, i, none⟩) (hs : Safe b g m i w) (d : Int) :
    AR b g s { st with dig := d } (w.setCell ⟨b, 6, none⟩ (.int .i64 d)) := by
  have o := Oth.set b w 6 (.int .i64 d)
  refine ⟨h.box.put 6 _, h.hs, h.ht, ?_, Or.inr ?_⟩
  · obtain ⟨n, hn, ho⟩ := h.own
    exact ⟨n, hn, ownr_oth ho o⟩
  · have : Live b g { st with dig := d } w := ⟨hl.rq, hl.q, hl.c8, hl.f8, hl.own, hl.ry, hl.tm, hl.tx, fun _ => ⟨m, i, hn, hs⟩⟩
    exact this.oth o

def firstDig (c most : Int) : Int := if c = 104 ∨ c = 48 then 0 else most - 1
theorem first_dig {st : AS} {c most : Int} (hd : st.dig = 0) (h : c = 104 ∨ c = 48) : { st with dig := firstDig c most } = st := by
  rw [firstDig, if_pos h]; exact dig_self st hd
theorem first_more {c most : Int} (h1 : ¬ c = 104) (h2 : ¬ c = 48) : firstDig c most = most - 1 := by
  rw [firstDig, if_neg (by omega)]

set_option maxRecDepth 100000 in
set_option maxHeartbeats 1000000 in
theorem takeFirst_any (b m i : Nat) (g : Gh) (s : ByteArray) (st : AS) (c most : Int) (w : World) (h : AR b g s st w) (hl : Live b g st w) (hs : Safe b g m i w) (hd : st.dig = 0) (hm0 : 0 ≤ most) (hm1 : most ≤ 6) :
    Calls Try.prog 34 #[.pointer (some ⟨b, 0, none⟩), .pointer (some ⟨m, i, none⟩), .int .u8 c, .int .i64 most] w fun e w' =>
      e = .returned (.tuple #[]) ∧ Did b s { st with dig := firstDig c most } w w' := by
  have c5 : w.cell? ⟨b, 5, none⟩ = some (.pointer g.nm) := h.box.cell 5 _ rfl
  have c6 : w.cell? ⟨b, 6, none⟩ = some (.int .i64 st.dig) := h.box.cell 6 _ rfl
  have f5 := h.box.froz 5
  have f6 := h.box.froz 6
  obtain ⟨x, cm⟩ := hs.v
  have fm := hs.f
  have hbm := hs.bm
  have hne1 : ¬ b = m := by omega
  have hne2 : ¬ m = b := by omega
  have H := hide (And.intro h (And.intro hl hs))
  clear h hl hs
  by_cases h104 : c = 104
  · subst h104
    go_enter Try.func34, Try.ntmps34
    go_wp2
    first | go_end0 | refine bodyPost_ret (results_none rfl _ _ _) rfl ?_
    obtain ⟨h, hl, hs⟩ := H.out
    exact ⟨rfl, below_put w (by omega) _ _, g, by rw [first_dig hd (Or.inl rfl)]; exact h.int hl hs (-1)⟩
  · have h104b : (c == 104) = false := by rw [beq_eq_false_iff_ne]; exact h104
    by_cases h48 : c = 48
    · subst h48
      go_enter Try.func34, Try.ntmps34
      go_wp2
      go_end0
      obtain ⟨h, hl, hs⟩ := H.out
      have h1 := h.put5 hl hs hd
      have o1 := Oth.set b w 5 (.pointer (some ⟨m, i, none⟩))
      have hl1 := hl.num hs 0
      rw [dig_self st hd] at hl1
      exact ⟨rfl, (below_set w b 5 _).trans (below_put _ (by omega) _ _), _, by rw [first_dig hd (Or.inr rfl)]; exact h1.int (hl1.oth o1) ((hs.nm _).oth o1) _⟩
    · have h48b : (c != 48) = true := by rw [bne_iff_ne]; exact h48
      go_enter Try.func34, Try.ntmps34
      go_wp2
      go_end0
      obtain ⟨h, hl, hs⟩ := H.out
      have h1 := h.put5 hl hs hd
      have o1 := Oth.set b w 5 (.pointer (some ⟨m, i, none⟩))
      have hl1 := hl.num hs 0
      rw [dig_self st hd] at hl1
      have hl2 := (hl1.oth o1).int ((hs.nm _).oth o1) ((c - 48) % 256)
      have h2 := (h1.int (hl1.oth o1) ((hs.nm _).oth o1) ((c - 48) % 256)).put6 hl2 rfl (((hs.nm _).oth o1).int _) (most - 1)
      exact ⟨rfl, ((below_set w b 5 _).trans (below_put _ (by omega) _ _)).trans (below_set _ b 6 _), _, by rw [first_more h104 h48]; exact h2⟩


theorem below_drew1 (w : World) (b : Nat) : Below b w w.drew := ⟨rfl, rfl, rfl, Nat.le_refl _, fun _ _ => rfl⟩
/-- the seven signs that tell something -/
theorem more_first {c most want : Int} (h : fits want c = true) (hw : (want = 86 ∨ want = 87) ∧ most = 2 ∨ (want = 110 ∨ want = 107) ∧ most = 6) : firstDig c most = more want c := by
  unfold firstDig more
  unfold fits at h
  by_cases hD : isD c = true
  · rw [isD_iff] at hD
    by_cases h48 : c = 48
    · rw [if_pos (Or.inr h48), if_pos (Or.inl h48)]
    · rw [if_neg (by omega), if_neg (by rintro (e | e); · exact h48 e
                                        · rw [isD_yes hD] at e; cases e)]
      rcases hw with ⟨hw, rfl⟩ | ⟨hw, rfl⟩
      · rw [if_pos hw]; rfl
      · rw [if_neg (by omega), if_pos hw]; rfl
  · have hF : isD c = false := by cases e : isD c with | false => rfl | true => exact absurd e hD
    rw [if_pos (show c = 48 ∨ isD c = false from Or.inr hF)]
    rcases hw with ⟨hw, rfl⟩ | ⟨hw, rfl⟩
    · rw [if_pos hw, hF, Bool.or_false, beq_iff_eq] at h
      rw [if_pos (Or.inl h)]
    · rw [if_neg (by omega), if_pos hw, hF] at h; cases h
theorem more_other {c want : Int} (h : ¬ (want = 86 ∨ want = 87) ∧ ¬ (want = 110 ∨ want = 107)) : more want c = 0 := by
  unfold more
  split
  · rfl
  · rw [if_neg h.1, if_neg h.2]

theorem did_int {b m i : Nat} {g : Gh} {s : ByteArray} {st : AS} {w w' : World} {d : Int} (h : AR b g s st w) (hl : Live b g st w) (hs : Safe b g m i w) (hd : st.dig = 0) (e : d = 0) (x : Int) (hw : w'.heap = (w.setCell ⟨m, i, none⟩ (.int .i64 x)).heap) (hb : Below b w w') :
    Did b s { st with dig := d } w w' := by
  subst e
  rw [dig_self st hd]
  exact ⟨hb, g, (h.int hl hs x).same hw⟩

set_option maxRecDepth 100000 in
set_option maxHeartbeats 4000000 in
theorem take_any (b : Nat) (g : Gh) (s : ByteArray) (st : AS) (want c : Int) (w : World) (h : AR b g s st w) (hl : Live b g st w) (hd : st.dig = 0) (hf : fits want c = true) :
    Calls Try.prog 26 #[.pointer (some ⟨b, 0, none⟩), .int .u8 want, .int .u8 c] w fun e w' =>
      e = .returned (.tuple #[]) ∧ Did b s { st with dig := more want c } w w' := by
  have c2 : w.cell? ⟨b, 2, none⟩ = some (.pointer g.rq) := h.box.cell 2 _ rfl
  rw [hl.rq] at c2
  have c4 : w.cell? ⟨b, 4, none⟩ = some (.pointer g.tm) := h.box.cell 4 _ rfl
  obtain ⟨mt, htm, hst⟩ := hl.tm
  rw [htm] at c4
  have hq := hl.q
  have H := hide (And.intro h (And.intro hl (And.intro hst hf)))
  clear hf
  by_cases h1 : want = 86
  · subst h1
    have HM := hide (more_first H.out.2.2.2 (Or.inl ⟨Or.inl rfl, rfl⟩))
    clear hst hq htm
    go_enter Try.func26, Try.ntmps26
    go_wp2_with (go_at_call 34; refine (takeFirst_any b g.q 5 g s st _ _ _ h hl (hl.q 5 (by decide)) hd (by decide) (by decide)).mono ?_; rintro e w' ⟨rfl, hdid⟩)
    go_end0
    exact ⟨rfl, by rw [← HM.out]; exact hdid⟩
  by_cases h2 : want = 87
  · subst h2
    have HM := hide (more_first H.out.2.2.2 (Or.inl ⟨Or.inr rfl, rfl⟩))
    clear hst hq htm
    go_enter Try.func26, Try.ntmps26
    go_wp2_with (go_at_call 34; refine (takeFirst_any b g.q 6 g s st _ _ _ h hl (hl.q 6 (by decide)) hd (by decide) (by decide)).mono ?_; rintro e w' ⟨rfl, hdid⟩)
    go_end0
    exact ⟨rfl, by rw [← HM.out]; exact hdid⟩
  have h1b : (want == 86) = false := by rw [beq_eq_false_iff_ne]; exact h1
  have h2b : (want == 87) = false := by rw [beq_eq_false_iff_ne]; exact h2
  by_cases h3 : want = 120
  · subst h3
    obtain ⟨x, cm⟩ := (hst 0 (by decide)).v
    have fm := (hst 0 (by decide)).f
    have hbm := (hst 0 (by decide)).bm
    clear hst hq htm h hl
    go_enter Try.func26, Try.ntmps26
    go_wp2_with fail
    go_region_with (go_at_call 33; refine (index_any _ _ _).mono ?_; rintro e w' ⟨rfl, hw⟩; subst w')
    all_goals go_end0
    all_goals
      obtain ⟨h, hl, hst, hf⟩ := H.out
      exact ⟨rfl, did_int h hl (hst 0 (by decide)) hd (more_other (by decide)) _ rfl ((below_put w (by omega) 0 _).trans (below_drew1 _ _))⟩
  have h3b : (want == 120) = false := by rw [beq_eq_false_iff_ne]; exact h3
  by_cases h4 : want = 121
  · subst h4
    obtain ⟨x, cm⟩ := (hst 1 (by decide)).v
    have fm := (hst 1 (by decide)).f
    have hbm := (hst 1 (by decide)).bm
    clear hst hq htm h hl
    go_enter Try.func26, Try.ntmps26
    go_wp2_with fail
    go_region_with (go_at_call 33; refine (index_any _ _ _).mono ?_; rintro e w' ⟨rfl, hw⟩; subst w')
    all_goals go_end0
    all_goals
      obtain ⟨h, hl, hst, hf⟩ := H.out
      exact ⟨rfl, did_int h hl (hst 1 (by decide)) hd (more_other (by decide)) _ rfl ((below_put w (by omega) 1 _).trans (below_drew1 _ _))⟩
  have h4b : (want == 121) = false := by rw [beq_eq_false_iff_ne]; exact h4
  by_cases h5 : want = 110
  · subst h5
    have HM := hide (more_first H.out.2.2.2 (Or.inr ⟨Or.inl rfl, rfl⟩))
    have h2s := hst 2 (by decide)
    clear hst hq htm
    go_enter Try.func26, Try.ntmps26
    go_wp2_with (go_at_call 34; refine (takeFirst_any b mt 2 g s st _ _ _ h hl h2s hd (by decide) (by decide)).mono ?_; rintro e w' ⟨rfl, hdid⟩)
    go_end0
    exact ⟨rfl, by rw [← HM.out]; exact hdid⟩
  have h5b : (want == 110) = false := by rw [beq_eq_false_iff_ne]; exact h5
  by_cases h6 : want = 107
  · subst h6
    have HM := hide (more_first H.out.2.2.2 (Or.inr ⟨Or.inr rfl, rfl⟩))
    have h3s := hst 3 (by decide)
    clear hst hq htm
    go_enter Try.func26, Try.ntmps26
    go_wp2_with (go_at_call 34; refine (takeFirst_any b mt 3 g s st _ _ _ h hl h3s hd (by decide) (by decide)).mono ?_; rintro e w' ⟨rfl, hdid⟩)
    go_end0
    exact ⟨rfl, by rw [← HM.out]; exact hdid⟩
  have h6b : (want == 107) = false := by rw [beq_eq_false_iff_ne]; exact h6
  by_cases h7 : want = 115
  · subst h7
    obtain ⟨x, cm⟩ := (hq 7 (by decide)).v
    have fm := (hq 7 (by decide)).f
    have hbm := (hq 7 (by decide)).bm
    clear hst hq htm h hl
    go_enter Try.func26, Try.ntmps26
    go_wp2_with fail
    go_region_with (go_at_call 33; refine (index_any _ _ _).mono ?_; rintro e w' ⟨rfl, hw⟩; subst w')
    all_goals go_end0
    all_goals
      obtain ⟨h, hl, hst, hf⟩ := H.out
      exact ⟨rfl, did_int h hl (hl.q 7 (by decide)) hd (more_other (by decide)) _ rfl ((below_put w (by omega) 7 _).trans (below_drew1 _ _))⟩
  have h7b : (want == 115) = false := by rw [beq_eq_false_iff_ne]; exact h7
  clear hst hq htm h hl
  go_enter Try.func26, Try.ntmps26
  go_wp2
  go_end0
  obtain ⟨h, hl, hst, hf⟩ := H.out
  exact ⟨rfl, Below.refl _ _, g, by rw [more_other ⟨by omega, by omega⟩, dig_self st hd]; exact h⟩

end Go.Proofs.Ytgpphkdoanciiaa
