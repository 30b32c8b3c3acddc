/-
  What the program's Check answers of any text.
-/
import Derived.Test.YtgpphkdoanciiaaRead3
import Derived.Deep.QuietTactic
import Derived.BigQuiet
namespace Go.Proofs.Ytgpphkdoanciiaa
open Go.RowKit

def aInit : AS := { rest := [82], dig := 0, req := 0, tx := 0, stp := 0 }
def aBatch (B : ByteArray) : Int × Bool := if B.size = 0 then (0, true) else aRun (txt B) 0 aInit

theorem aBatch_nil {B : ByteArray} (h : B.size = 0) : aBatch B = (0, true) := by rw [aBatch, if_pos h]
theorem aBatch_run {B : ByteArray} (h : ¬ B.size = 0) : aBatch B = nRun (txt B) 0 aInit := by
  rw [aBatch, if_neg h]; exact (cnt_run _ _ _ _ ⟨rfl, rfl, rfl, rfl, Or.inr ⟨by decide, rfl⟩⟩).symm
theorem aBatch_runA {B : ByteArray} (h : ¬ B.size = 0) : aBatch B = aRun (txt B) 0 aInit := by rw [aBatch, if_neg h]

theorem ret_sib {v : Value} {a a' : Int} {b b' : Bool} {p : Int × Bool} (h : p = (a, b)) (ha : a' = a) (hb : b' = b) : ∃ v, Ending.returned (.tuple #[v, .int .i64 a', .bool b']) = .returned (.tuple #[v, .int .i64 p.1, .bool p.2]) := by
  rw [h, ha, hb]; exact ⟨v, rfl⟩

theorem acc_nil {st : AS} {n : Int} (h : st.rest = []) : nRun [] n st = (n, true) := by simp [nRun, h]
theorem txt_66 (s : ByteArray) : txt s = [66] ↔ s.toList = [66] := by
  unfold txt
  rw [ByteArray.toList_eq]
  constructor
  · intro h
    match hl : s.data.toList with
    | [] => rw [hl] at h; simp at h
    | [x] =>
      rw [hl] at h
      simp only [List.map_cons, List.map_nil, List.cons.injEq, and_true] at h
      have : x = 66 := UInt8.toNat_inj.1 (by have : x.toNat = 66 := by omega
                                             rw [this]; rfl)
      rw [this]
    | x :: y :: r => rw [hl] at h; simp at h
  · intro h; rw [h]; rfl
theorem acc_some {s : ByteArray} {st : AS} {n : Int} (hz : ¬ s.size = 0) (h : txt s = st.rest) : nRun [] n st = (n, s.toList == [66]) := by
  have h1 : ¬ st.rest = [] := by
    intro e; rw [e] at h
    have := txt_length s
    rw [h] at this
    exact hz this.symm
  have h2 : (s.toList == [66]) = decide (st.rest = [66]) := by
    rw [Bool.eq_iff_iff, beq_iff_eq, decide_eq_true_iff, ← h, txt_66]
  simp [nRun, h1, h2]

def g0 : Gh := { vr := .slice none 0 0, xs := [], rq := none, tx := none, tm := none, nm := none, q := 0, t := 0, vb := .slice none 0 0, ys := [] }
theorem aInit_new (w : World) (T : TypeId) : AR w.heap.size g0 ⟨#[82]⟩ aInit (w.alloc (.cells #[.string ⟨#[82]⟩, .slice none 0 0, .pointer none, .pointer none, .pointer none, .pointer none, .int .i64 0, .int .i64 0] T)) :=
  ⟨Bx.new w [.string ⟨#[82]⟩, .slice none 0 0, .pointer none, .pointer none, .pointer none, .pointer none, .int .i64 0, .int .i64 0] T, by decide, by decide, ⟨0, rfl, World.ownsRow_nil _ _ _ _⟩, Or.inl ⟨rfl, by decide⟩⟩

theorem ok_init : OkS 0 aInit := by refine ⟨?_, ?_, ?_, ?_, ?_, ?_, ?_, ?_⟩ <;> decide

set_option maxRecDepth 100000 in
set_option maxHeartbeats 2000000 in
theorem readBatch_any (B : ByteArray) (w : World) (hB : B.size ≤ 1200) :
    Calls Try.prog 10 #[.string B] w fun e w' =>
      Below w.heap.size w w' ∧ ∃ v, e = .returned (.tuple #[v, .int .i64 (aBatch B).1, .bool (aBatch B).2]) := by
  by_cases hz : B.size = 0
  · have hse := empty_yes B hz
    have HA := hide (aBatch_nil hz)
    go_enter Try.func10, Try.ntmps10
    go_wp2
    refine bodyPost_ret (v := .tuple #[.slice none 0 0, .int .i64 0, .bool true]) (by simp [results, Try.results10, go_sem]) rfl ?_
    exact ⟨Below.refl _ _, by rw [HA.out]; exact ⟨_, rfl⟩⟩
  · have hse := empty_no B hz
    go_enter Try.func10, Try.ntmps10
    have HA := hide (aBatch_run hz)
    go_wp2_with (go_at_call 13; refine (read_any _ B _ _ aInit _ (aInit_new w 54) hB ok_init).mono ?_; rintro e w1 ⟨hbl, ⟨gx, sx, stx, hax⟩, ⟨k, hk, rfl, hrun⟩ | ⟨g, s, st, rfl, har, hrun⟩⟩)
    · have hbl1 : Below w.heap.size w w1 := ((Below.refl _ _).alloc (Nat.le_refl _) _).trans hbl
      have hkb : ((k : Int) == (B.size : Int)) = false := by rw [beq_eq_false_iff_ne]; omega
      have c1 : w1.cell? ⟨w.heap.size, 1, none⟩ = some gx.vr := hax.box.cell 1 _ rfl
      have HR := hide (HA.out.trans hrun)
      clear hrun hax HA
      go_quiet (fail)
      go_wp2
      refine bodyPost_ret (v := .tuple #[gx.vr, .int .i64 k, .bool false]) (by simp [results, Try.results10, go_sem]) rfl ?_
      exact ⟨below_drewN hbl1 nq, by rw [HR.out]; exact ⟨_, rfl⟩⟩
    · have hbl1 : Below w.heap.size w w1 := ((Below.refl _ _).alloc (Nat.le_refl _) _).trans hbl
      have c0 : w1.cell? ⟨w.heap.size, 0, none⟩ = some (.string s) := har.box.cell 0 _ rfl
      have c1 : w1.cell? ⟨w.heap.size, 1, none⟩ = some g.vr := har.box.cell 1 _ rfl
      have hkb : ((B.size : Int) == (B.size : Int)) = true := by simp
      have HT := hide har.ht
      have HR0 := hide (HA.out.trans hrun)
      clear hrun HA har hax
      by_cases hz : s.size = 0
      · have hse := empty_yes s hz
        have HR := hide (HR0.out.trans (acc_nil (HT.out.symm.trans (txt_nil s hz))))
        go_quiet (fail)
        go_wp2
        refine bodyPost_ret (v := .tuple #[g.vr, .int .i64 B.size, .bool true]) (by simp [results, Try.results10, go_sem]) rfl ?_
        exact ⟨below_drewN hbl1 nq, by rw [HR.out]; exact ⟨_, rfl⟩⟩
      · have hse := empty_no s hz
        have HR := hide (HR0.out.trans (acc_some hz HT.out))
        go_quiet (fail)
        go_wp2
        refine bodyPost_ret (v := .tuple #[g.vr, .int .i64 B.size, .bool (s.toList == [66])]) (by simp [results, Try.results10, go_sem]) rfl ?_
        exact ⟨below_drewN hbl1 nq, by rw [HR.out]; exact ⟨_, rfl⟩⟩

def aCheck (B : ByteArray) : Int × Int :=
  if 1200 < B.size then (1, 0) else if (aBatch B).2 = true then (0, 0) else (2, (aBatch B).1)

theorem ret_ii {a a' b b' : Int} {p : Int × Int} (h : p = (a, b)) (ha : a' = a) (hb : b' = b) : Ending.returned (.tuple #[.int .i64 a', .int .i64 b']) = .returned (.tuple #[.int .i64 p.1, .int .i64 p.2]) := by
  rw [h, ha, hb]

set_option maxRecDepth 100000 in
set_option maxHeartbeats 1000000 in
theorem look_any (B : ByteArray) (w : World) (_hm : B.size ≤ maxLen) :
    Calls Try.prog 8 #[.string B] w fun e w' =>
      Below w.heap.size w w' ∧ ∃ v, e = .returned (.tuple #[v, .int .i64 (aCheck B).1, .int .i64 (aCheck B).2]) := by
  unfold maxLen at _hm
  by_cases hz : 1200 < B.size
  · have HA := hide (show aCheck B = (1, 0) by rw [aCheck, if_pos hz])
    go_enter Try.func8, Try.ntmps8
    go_wp2
    refine bodyPost_ret (v := .tuple #[.slice none 0 0, .int .i64 1, .int .i64 0]) (by simp [results, Try.results8, go_sem]) rfl ?_
    exact ⟨Below.refl _ _, by rw [HA.out]; exact ⟨_, rfl⟩⟩
  · have h12 : B.size ≤ 1200 := by omega
    cases hb : (aBatch B).2 with
    | true =>
      have HA := hide (show aCheck B = (0, 0) by rw [aCheck, if_neg hz, if_pos hb])
      go_enter Try.func8, Try.ntmps8
      go_wp2_with (go_at_call 10; refine (readBatch_any _ _ h12).mono ?_; rintro e w1 ⟨hbl, v, rfl⟩)
      refine bodyPost_ret (v := .tuple #[v, .int .i64 0, .int .i64 0]) (by simp [results, Try.results8, go_sem]) rfl ?_
      exact ⟨hbl, by rw [HA.out]; exact ⟨_, rfl⟩⟩
    | false =>
      have HA := hide (show aCheck B = (2, (aBatch B).1) by rw [aCheck, if_neg hz, if_neg (by rw [hb]; exact Bool.false_ne_true)])
      go_enter Try.func8, Try.ntmps8
      go_wp2_with (go_at_call 10; refine (readBatch_any _ _ h12).mono ?_; rintro e w1 ⟨hbl, v, rfl⟩)
      refine bodyPost_ret (v := .tuple #[.slice none 0 0, .int .i64 2, .int .i64 (aBatch B).1]) (by simp [results, Try.results8, go_sem]) rfl ?_
      exact ⟨hbl, by rw [HA.out]; exact ⟨_, rfl⟩⟩

set_option maxRecDepth 100000 in
set_option maxHeartbeats 1000000 in
theorem check_any (B : ByteArray) (w : World) (hm : B.size ≤ maxLen) :
    Calls Try.prog 5 #[.string B] w fun e w' =>
      Below w.heap.size w w' ∧ e = .returned (.tuple #[.int .i64 (aCheck B).1, .int .i64 (aCheck B).2]) := by
  go_enter Try.func5, Try.ntmps5
  go_wp2_with (go_at_call 8; refine (look_any B _ hm).mono ?_; rintro e w1 ⟨hbl, v, rfl⟩)
  go_ret2
  exact ⟨hbl, rfl⟩

end Go.Proofs.Ytgpphkdoanciiaa
