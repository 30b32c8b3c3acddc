/-
  The document's reader: a whole text, and its Check.
-/
import Derived.Test.YtgpphkdoanciiaaRequest
import Derived.Test.YtgpphkdoanciiaaCheck2
namespace Go.Proofs.Ytgpphkdoanciiaa
open Go.RowKit

/-- what the document's reader finds in a text: the place of the first byte that cannot stand there, or -1 -/
def rText (B : ByteArray) : Int := if B.size = 0 then -1 else rRead 24 (rs B 0 false)
theorem rText_nil {B : ByteArray} (h : B.size = 0) : rText B = -1 := if_pos h
theorem rText_read {B : ByteArray} (h : ¬ B.size = 0) : rText B = rRead 24 (rs B 0 false) := if_neg h
theorem read_bad {n : Nat} {r q : RS} (h : rRequest r = q) (hb : q.bad = true) : rRead (n + 1) r = q.at' := by
  subst h; exact if_pos hb
theorem read_end {n : Nat} {r q : RS} (h : rRequest r = q) (hb : q.bad = false) (hl : q.l = []) : rRead (n + 1) r = -1 := by
  subst h; rw [rRead]; rw [if_neg (by rw [hb]; exact Bool.false_ne_true), if_pos hl]
theorem read_stop {n : Nat} {r q : RS} (h : rRequest r = q) (hb : q.bad = false) (hl : ¬ q.l = []) (hs : rIs q 59 = false ∨ n = 0) : rRead (n + 1) r = q.at' := by
  subst h; rw [rRead]; rw [if_neg (by rw [hb]; exact Bool.false_ne_true), if_neg hl, if_pos hs]
theorem read_go {n : Nat} {r q q' : RS} (h : rRequest r = q) (hb : q.bad = false) (hl : ¬ q.l = []) (hs : ¬ (rIs q 59 = false ∨ n = 0)) (hq : rAdv q = q') : rRead (n + 1) r = rRead n q' := by
  subst h hq; rw [rRead]; rw [if_neg (by rw [hb]; exact Bool.false_ne_true), if_neg hl, if_neg hs]
theorem rs_nil {B : ByteArray} {k : Nat} {bad : Bool} (h : ¬ k < B.size) : (rs B k bad).l = [] := by
  simp [rs, List.drop_of_length_le (show (txt B).length ≤ k by rw [txt_length]; omega)]
theorem rs_cons {B : ByteArray} {k : Nat} {bad : Bool} (h : k < B.size) : ¬ (rs B k bad).l = [] := by
  intro e; simp only [rs, txt_drop B k h] at e; cases e
theorem Try.inf46 : (Try.prog.info? 46).map (fun i => (i.zero, i.size, i.bytes)) = some (some (.agg #[.int .u8 0, .int .i64 0, .int .i64 0, .int .i64 0, .int .i64 0, .int .i64 0, .int .i64 0, .int .i64 0, .slice none 0 0]), 9, 88) := by kernel_rfl

theorem RR.new (w : World) (B : ByteArray) (hB : B.size ≤ 1200) : RR w.heap.size B 0 false (w.alloc (.cells #[.string B, .int .i64 0, .bool false] 43)) := by
  refine ⟨?_, ?_, ?_, ?_, ?_, Nat.zero_le _, hB, by simp⟩
  all_goals simp
theorem Kp.down {w W w' : World} {o : Obj} (hW : W = w.alloc o) (h : Kp w.heap.size W w') : Below w.heap.size w w' := by
  subst hW
  have hs := h.size
  simp only [World.size_alloc] at hs
  exact ⟨h.os, h.tape, h.output, by omega, fun j hj => (h.block j (by simp; omega) (by omega)).trans (Below.heap_alloc _ _ _ hj)⟩
theorem ret_si {sl : Option Addr} {n c : Nat} {a b : Int} (h : a = b) : ∃ (sl' : Option Addr) (n' c' : Nat), Ending.returned (.tuple #[.slice sl n c, .int .i64 a]) = .returned (.tuple #[.slice sl' n' c', .int .i64 b]) := ⟨sl, n, c, by rw [h]⟩

set_option maxRecDepth 100000 in
set_option maxHeartbeats 4000000 in
theorem readText_any (B : ByteArray) (w : World) (hB : B.size ≤ 1200) :
    Calls Try.prog 9 #[.string B] w fun e w' =>
      (∃ (sl : Option Addr) (n c : Nat), e = .returned (.tuple #[.slice sl n c, .int .i64 (rText B)])) ∧ Below w.heap.size w w' := by
  by_cases hz : B.size = 0
  · have hse := empty_yes B hz
    go_enter Try.func9, Try.ntmps9
    go_wp2
    go_ret2
    exact ⟨ret_si (rText_nil hz).symm, Below.refl _ _⟩
  · have hse := empty_no B hz
    have HT := hide (rText_read hz)
    go_enter Try.func9, Try.ntmps9
    go_wp2
    go_loopg [4] 24 (fun n v wr => ∃ (j k' : Nat) (sl : Option Addr) (sc : Nat) (xs : List Value), n + j = 24 ∧ v = .slice sl j sc ∧ RR w.heap.size B k' false wr ∧ Kp w.heap.size (w.alloc (.cells #[.string B, .int .i64 0, .bool false] 43)) wr ∧
      wr.ownsRow (w.heap.size + 1) 46 9 (.slice sl j sc) j xs ∧ rRead 24 (rs B 0 false) = rRead n (rs B k' false))
    case atStart => exact ⟨0, 0, none, 0, [], rfl, rfl, RR.new w B hB, Kp.refl _ _, World.ownsRow_nil _ _ _ _, rfl⟩
    case round =>
      obtain ⟨j, k', sl, sc, xs, hnj, rfl, hr, hkp, hown, hrun⟩ := hrel
      have HR := hide (HT.out.trans hrun)
      have HN := hide hnj
      clear hrun
      have hj24 : j ≤ 24 := by omega
      by_cases hj : j < 24
      · obtain ⟨m, rfl⟩ : ∃ m, gk = m + 1 := ⟨gk - 1, by omega⟩
        clear hnj
        go_wp2_with fail
        refine (request_any w.heap.size B k' false _ hr).mono ?_
        rintro e w1 ⟨⟨kd, q1, q2, q3, q4, q5, q6, q7, qs, qn, qc, rfl⟩, k1, bad1, he1, hr1, hk1⟩
        have K1 := hkp.trans hk1
        have own1 := own_kp hown hk1 (by omega : w.heap.size < w.heap.size + 1)
        have HE1 := hide he1
        clear he1 hk1 hkp hown hr
        have c1 := hr1.c1
        have c2 := hr1.c2
        have hb1 := hr1.hb
        cases bad1 with
        | true =>
          have HF := hide (HR.out.trans (read_bad HE1.out rfl))
          go_wp2
          go_quiet (fail)
          go_wp2
          go_ret2
          exact ⟨ret_si HF.out.symm, below_drewN ((K1.alloc _).down rfl) _⟩
        | false =>
          obtain ⟨i0, hi, hz0, hz1, hz2⟩ := info_parts Try.inf46
          have hi' := hide hi
          have hz0' := hide hz0
          have hz1' := hide hz1
          have hz2' := hide hz2
          clear hi hz0 hz1 hz2
          have hB1 := hr1.hk
          go_wp2_with (at_builtin; refine wpList_append_own _ rfl (.tmp 27) (.tmp 29) 36 rfl (w.heap.size + 1) 46 i0 (.agg #[Value.int .u8 0, Value.int .i64 0, Value.int .i64 0, Value.int .i64 0, Value.int .i64 0, Value.int .i64 0, Value.int .i64 0, Value.int .i64 0, Value.slice none 0 0]) 9 88 Try.underlying36 hi'.out hz0'.out hz1'.out hz2'.out rfl (by decide) _ _ _ rfl ((own1.alloc _).alloc _) ⟨w1.heap.size + 1, 0, none⟩ 1 1 [Value.int .u8 kd, Value.int .i64 q1, Value.int .i64 q2, Value.int .i64 q3, Value.int .i64 q4, Value.int .i64 q5, Value.int .i64 q6, Value.int .i64 q7, Value.slice qs qn qc] rfl rfl ?c1 ?c2 ?c3 ?c4 ?c5 ?_)
          case c1 => exact news_cell _ _ _ _ (by simp)
          case c2 => intro u hu; simp only [List.mem_cons, List.not_mem_nil, or_false] at hu; rcases hu with rfl | rfl | rfl | rfl | rfl | rfl | rfl | rfl | rfl <;> rfl
          case c3 => unfold maxLen; omega
          case c4 => omega
          case c5 => simp; omega
          intro v' w2 own2 hg2 _
          obtain ⟨sl', sc', rfl⟩ := own_slice own2
          have hr2 := ((hr1.alloc _).alloc _).grown hg2 (own_far own1 (by omega))
          have K2 := ((K1.alloc _).alloc _).grown hg2 (fun g e => by have := (own1.lt g e).1; simp; omega)
          clear hg2 own1 K1 hr1 c1 c2 hb1 hi' hz0' hz1' hz2'
          have c1 := hr2.c1
          cases hat : ((k1 : Int) == (B.size : Int)) with
          | true =>
            have HF := hide (HR.out.trans (read_end HE1.out rfl (rs_nil (by rw [beq_iff_eq] at hat; omega))))
            go_wp2
            go_ret2
            exact ⟨ret_si HF.out.symm, K2.down rfl⟩
          | false =>
            have hlt : k1 < B.size := by rw [beq_eq_false_iff_ne] at hat; omega
            cases hs : rIs (rs B k1 false) 59 with
            | true =>
              by_cases hm : j + 1 = 24
              · have HF := hide (HR.out.trans (read_stop HE1.out rfl (rs_cons hlt) (Or.inr (by have := HN.out; omega))))
                have hmb : ((j : Int) + 1 == 24) = true := by rw [beq_iff_eq]; omega
                clear hm
                go_wp2_with (go_at_call 12; refine (is_any w.heap.size B k1 false _ _ hr2).mono ?_; rintro e w3 ⟨rfl, hr3, hk3⟩; have d1 := hr3.c1)
                go_quiet (fail)
                go_wp2
                go_ret2
                exact ⟨ret_si HF.out.symm, below_drewN ((K2.trans hk3).down rfl) _⟩
              · have hmb : ((j : Int) + 1 == 24) = false := by rw [beq_eq_false_iff_ne]; omega
                have HF := hide (HR.out.trans (read_go HE1.out rfl (rs_cons hlt) (by
                  rintro (e | e)
                  · rw [hs] at e; cases e
                  · have := HN.out; omega) (rAdv_rs hlt)))
                clear hm
                go_wp2_with (go_at_call 12; refine (is_any w.heap.size B k1 false _ _ hr2).mono ?_; rintro e w3 ⟨rfl, hr3, hk3⟩; have d1 := hr3.c1; have g1 := hr3.f1)
                go_roundg m
                case measure => omega
                case rel => exact ⟨j + 1, k1 + 1, sl', sc', _, by have := HN.out; omega, rfl, hr3.adv (k1 + 1) _ (by omega) hlt, (K2.trans hk3).trans (Kp.set _ _ _ _), ownsRow_setCell_below (own_kp own2 hk3 (by omega : w.heap.size < w.heap.size + 1)) (a := ⟨w.heap.size, 1, none⟩) (by simp) _, by rw [← HT.out]; exact HF.out⟩
            | false =>
              have HF := hide (HR.out.trans (read_stop HE1.out rfl (rs_cons hlt) (Or.inl hs)))
              go_wp2_with (go_at_call 12; refine (is_any w.heap.size B k1 false _ _ hr2).mono ?_; rintro e w3 ⟨rfl, hr3, hk3⟩; have d1 := hr3.c1)
              go_quiet (fail)
              go_wp2
              go_ret2
              exact ⟨ret_si HF.out.symm, below_drewN ((K2.trans hk3).down rfl) _⟩
      · have hd : decide ((j : Int) < 24) = false := by simp; omega
        have h0 : gk = 0 := by omega
        subst h0
        clear hnj
        have c1 := hr.c1
        go_wp2
        go_quiet (fail)
        go_wp2
        go_ret2
        exact ⟨ret_si HR.out.symm, below_drewN (hkp.down rfl) _⟩

def rCheck (B : ByteArray) : Int × Int := if 1200 < B.size then (1, 0) else if 0 ≤ rText B then (2, rText B) else (0, 0)

set_option maxRecDepth 100000 in
set_option maxHeartbeats 1000000 in
theorem refCheck_any (B : ByteArray) (w : World) (_hm : B.size ≤ maxLen) :
    Calls Try.prog 6 #[.string B] w fun e w' =>
      Below w.heap.size w w' ∧ e = .returned (.tuple #[.int .i64 (rCheck B).1, .int .i64 (rCheck B).2]) := by
  unfold maxLen at _hm
  by_cases hz : 1200 < B.size
  · go_enter Try.func6, Try.ntmps6
    go_wp2
    go_ret2
    exact ⟨Below.refl _ _, ret_ii (by rw [rCheck, if_pos hz]) rfl rfl⟩
  · have h12 : B.size ≤ 1200 := by omega
    by_cases hp : 0 ≤ rText B
    · go_enter Try.func6, Try.ntmps6
      go_wp2_with (go_at_call 9; refine (readText_any _ _ h12).mono ?_; rintro e w1 ⟨⟨sl, n, c, rfl⟩, hbl⟩)
      go_ret2
      exact ⟨hbl, ret_ii (by rw [rCheck, if_neg hz, if_pos hp]) rfl rfl⟩
    · go_enter Try.func6, Try.ntmps6
      go_wp2_with (go_at_call 9; refine (readText_any _ _ h12).mono ?_; rintro e w1 ⟨⟨sl, n, c, rfl⟩, hbl⟩)
      go_ret2
      exact ⟨hbl, ret_ii (by rw [rCheck, if_neg hz, if_neg (by omega)]) rfl rfl⟩

end Go.Proofs.Ytgpphkdoanciiaa
