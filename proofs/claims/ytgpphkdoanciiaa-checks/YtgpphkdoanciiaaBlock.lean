/-
  The document's reader: a block.
-/
import Derived.Test.YtgpphkdoanciiaaTx
import Derived.Deep.LoopGhost
namespace Go.Proofs.Ytgpphkdoanciiaa
open Go.RowKit

theorem blk_stop {r r1 r2 : RS} (h1 : rAccount r = r1) (h2 : rTake [47] r1 = r2) (h : r2.bad = true ∨ r2.l = [] ∨ rIs r2 59 = true) : rBlock r = r2 := by
  subst h1 h2; exact if_pos h
theorem blk_go {r r1 r2 : RS} (h1 : rAccount r = r1) (h2 : rTake [47] r1 = r2) (h : ¬ (r2.bad = true ∨ r2.l = [] ∨ rIs r2 59 = true)) : rBlock r = rTxs 8 r2 := by
  subst h1 h2; exact if_neg h

theorem txs_bad (n : Nat) (B : ByteArray) (k : Nat) : rTxs n (rs B k true) = rs B k true := by
  cases n with
  | zero => rfl
  | succ n => exact if_pos rfl
theorem Try.inf76 : (Try.prog.info? 76).map (fun i => (i.zero, i.size, i.bytes)) = some (some (.agg #[.int .u8 0, .int .i64 0, .int .i64 0, .int .i64 0, .int .i64 0, .string ⟨#[]⟩]), 6, 56) := by kernel_rfl

theorem news_cell (W : World) (cs : List Value) (T : TypeId) (n : Nat) (hn : n = W.heap.size) : ∀ i u, cs[i]? = some u → (W.alloc (.cells cs.toArray T)).cell? ((⟨n, 0, none⟩ : Addr).add i) = some u := by
  subst hn
  intro i u hu
  have e : (⟨W.heap.size, 0, none⟩ : Addr).add i = ⟨W.heap.size, i, none⟩ := by
    unfold Addr.add
    by_cases h : i = 0
    · rw [if_pos h, h]
    · rw [if_neg h]; simp
  rw [e]
  exact (Box.new W cs T).cell i u hu
theorem txs_stop {m : Nat} {B : ByteArray} {k : Nat} {r1 : RS} (h1 : rTx (rs B k false) = r1) (h : rIs r1 44 = false ∨ m = 0) : rTxs (m + 1) (rs B k false) = r1 := by
  subst h1
  rw [rTxs, if_neg (show ¬ (rs B k false).bad = true from Bool.false_ne_true), if_pos h]
theorem txs_go {m : Nat} {B : ByteArray} {k : Nat} {r1 r2 : RS} (h1 : rTx (rs B k false) = r1) (h : ¬ (rIs r1 44 = false ∨ m = 0)) (h2 : rTake [44] r1 = r2) : rTxs (m + 1) (rs B k false) = rTxs m r2 := by
  subst h1 h2
  rw [rTxs, if_neg (show ¬ (rs B k false).bad = true from Bool.false_ne_true), if_neg h]

set_option maxRecDepth 100000 in
set_option maxHeartbeats 4000000 in
theorem block_any (b : Nat) (B : ByteArray) (k : Nat) (bad : Bool) (kd q1 q2 q3 q4 q5 q6 q7 : Int) (w : World) (h : RR b B k bad w) :
    Calls Try.prog 17 #[.pointer (some ⟨b, 0, none⟩), .agg #[Value.int .u8 kd, Value.int .i64 q1, Value.int .i64 q2, Value.int .i64 q3, Value.int .i64 q4, Value.int .i64 q5, Value.int .i64 q6, Value.int .i64 q7, Value.slice none 0 0]] w fun e w' =>
      (∃ (x : Int) (sl : Option Addr) (n c : Nat), e = .returned (.agg #[.int .u8 kd, .int .i64 q1, .int .i64 q2, .int .i64 x, .int .i64 q4, .int .i64 q5, .int .i64 q6, .int .i64 q7, .slice sl n c])) ∧ RDid b B (rBlock (rs B k bad)) w w' := by
  have hb := h.hb
  have n0 : w.heap.size ≠ b := by omega
  have n1 : w.heap.size + 1 ≠ b := by omega
  have n01 : w.heap.size ≠ w.heap.size + 1 := by omega
  have l1 : w.heap.size ≤ w.heap.size + 1 := by omega
  go_enter Try.func17, Try.ntmps17
  go_wp2_with fail
  refine (account_any b B k bad _ ((h.alloc _).alloc _)).mono ?_
  rintro e w1 ⟨⟨v1, rfl⟩, k1, bad1, he1, hr1, hk1⟩
  have bt1 : Box w.heap.size [Value.int .u8 kd, Value.int .i64 q1, Value.int .i64 q2, Value.int .i64 q3, Value.int .i64 q4, Value.int .i64 q5, Value.int .i64 q6, Value.int .i64 q7, Value.slice none 0 0] w1 := ((Box.new w _ 46).alloc _).kp hk1 n0
  have bo1 : Box (w.heap.size + 1) [Value.int .u8 0, Value.int .i64 0, Value.int .i64 0, Value.int .i64 0, Value.int .i64 0, Value.int .i64 0, Value.int .i64 0, Value.int .i64 0, Value.slice none 0 0] w1 := Box.kp (by have := Box.new (w.alloc (.cells #[Value.int .u8 kd, Value.int .i64 q1, Value.int .i64 q2, Value.int .i64 q3, Value.int .i64 q4, Value.int .i64 q5, Value.int .i64 q6, Value.int .i64 q7, Value.slice none 0 0] 46)) [Value.int .u8 0, Value.int .i64 0, Value.int .i64 0, Value.int .i64 0, Value.int .i64 0, Value.int .i64 0, Value.int .i64 0, Value.int .i64 0, Value.slice none 0 0] 46; simpa only [World.size_alloc] using this) hk1 n1
  have K1 : Kp b w w1 := (((Kp.refl _ _).alloc _).alloc _).trans hk1
  have HE1 := hide he1
  clear he1 hk1
  have p1 := bt1.cell 3 _ rfl
  have s1 := bt1.froz 3
  go_wp2_with fail
  refine (rtake_any b B k1 bad1 _ _ (hr1.set _ _ _ n0) (by decide)).mono ?_
  rintro e w2 ⟨rfl, k2, bad2, he2, hr2, hk2⟩
  have bo2 := (bo1.far _ _ _ n01).kp hk2 n1
  have bt2 := (bt1.put 3 _).kp hk2 n0
  have K2 := (K1.store _ _ _ (Nat.le_refl _)).trans hk2
  have HE2 := hide he2
  clear he2 hk2 bo1 bt1 K1 hr1 p1 s1
  have c0 := hr2.c0
  have c1 := hr2.c1
  have c2 := hr2.c2
  have hB := hr2.hB
  have hk2 := hr2.hk
  cases bad2 with
  | true =>
    have HF := hide (blk_stop HE1.out HE2.out (Or.inl rfl))
    go_wp2
    go_quiet (fail)
    have pt0 := bt2.cell 0 _ rfl
    have po0 := bo2.cell 0 _ rfl
    have qo0 := bo2.froz 0
    have pt1 := bt2.cell 1 _ rfl
    have po1 := bo2.cell 1 _ rfl
    have qo1 := bo2.froz 1
    have pt2 := bt2.cell 2 _ rfl
    have po2 := bo2.cell 2 _ rfl
    have qo2 := bo2.froz 2
    have pt3 := bt2.cell 3 _ rfl
    have po3 := bo2.cell 3 _ rfl
    have qo3 := bo2.froz 3
    have pt4 := bt2.cell 4 _ rfl
    have po4 := bo2.cell 4 _ rfl
    have qo4 := bo2.froz 4
    have pt5 := bt2.cell 5 _ rfl
    have po5 := bo2.cell 5 _ rfl
    have qo5 := bo2.froz 5
    have pt6 := bt2.cell 6 _ rfl
    have po6 := bo2.cell 6 _ rfl
    have qo6 := bo2.froz 6
    have pt7 := bt2.cell 7 _ rfl
    have po7 := bo2.cell 7 _ rfl
    have qo7 := bo2.froz 7
    have pt8 := bt2.cell 8 _ rfl
    have po8 := bo2.cell 8 _ rfl
    have qo8 := bo2.froz 8
    go_wp2
    exact bodyPost_ret (v := .agg #[.int .u8 kd, .int .i64 q1, .int .i64 q2, .int .i64 v1, .int .i64 q4, .int .i64 q5, .int .i64 q6, .int .i64 q7, .slice none 0 0]) (by simp [results, Try.results17, go_sem, po0, po1, po2, po3, po4, po5, po6, po7, po8]) rfl ⟨⟨_, _, _, _, rfl⟩, k2, _, HF.out, ((((((((((hr2.drewN _).set _ _ _ n1).set _ _ _ n1).set _ _ _ n1).set _ _ _ n1).set _ _ _ n1).set _ _ _ n1).set _ _ _ n1).set _ _ _ n1).set _ _ _ n1), ((((((((((K2.trans (Kp.drewN _ _ _)).store _ _ _ l1).store _ _ _ l1).store _ _ _ l1).store _ _ _ l1).store _ _ _ l1).store _ _ _ l1).store _ _ _ l1).store _ _ _ l1).store _ _ _ l1)⟩
  | false =>
    cases hat : ((k2 : Int) == (B.size : Int)) with
    | true =>
      have HF := hide (blk_stop HE1.out HE2.out (Or.inr (Or.inl (by
        have e : k2 = B.size := by rw [beq_iff_eq] at hat; omega
        simp [rs, List.drop_of_length_le (show (txt B).length ≤ k2 by rw [txt_length]; omega)]))))
      go_wp2
      go_quiet (fail)
      have pt0 := bt2.cell 0 _ rfl
      have po0 := bo2.cell 0 _ rfl
      have qo0 := bo2.froz 0
      have pt1 := bt2.cell 1 _ rfl
      have po1 := bo2.cell 1 _ rfl
      have qo1 := bo2.froz 1
      have pt2 := bt2.cell 2 _ rfl
      have po2 := bo2.cell 2 _ rfl
      have qo2 := bo2.froz 2
      have pt3 := bt2.cell 3 _ rfl
      have po3 := bo2.cell 3 _ rfl
      have qo3 := bo2.froz 3
      have pt4 := bt2.cell 4 _ rfl
      have po4 := bo2.cell 4 _ rfl
      have qo4 := bo2.froz 4
      have pt5 := bt2.cell 5 _ rfl
      have po5 := bo2.cell 5 _ rfl
      have qo5 := bo2.froz 5
      have pt6 := bt2.cell 6 _ rfl
      have po6 := bo2.cell 6 _ rfl
      have qo6 := bo2.froz 6
      have pt7 := bt2.cell 7 _ rfl
      have po7 := bo2.cell 7 _ rfl
      have qo7 := bo2.froz 7
      have pt8 := bt2.cell 8 _ rfl
      have po8 := bo2.cell 8 _ rfl
      have qo8 := bo2.froz 8
      go_wp2
      exact bodyPost_ret (v := .agg #[.int .u8 kd, .int .i64 q1, .int .i64 q2, .int .i64 v1, .int .i64 q4, .int .i64 q5, .int .i64 q6, .int .i64 q7, .slice none 0 0]) (by simp [results, Try.results17, go_sem, po0, po1, po2, po3, po4, po5, po6, po7, po8]) rfl ⟨⟨_, _, _, _, rfl⟩, k2, _, HF.out, ((((((((((hr2.drewN _).set _ _ _ n1).set _ _ _ n1).set _ _ _ n1).set _ _ _ n1).set _ _ _ n1).set _ _ _ n1).set _ _ _ n1).set _ _ _ n1).set _ _ _ n1), ((((((((((K2.trans (Kp.drewN _ _ _)).store _ _ _ l1).store _ _ _ l1).store _ _ _ l1).store _ _ _ l1).store _ _ _ l1).store _ _ _ l1).store _ _ _ l1).store _ _ _ l1).store _ _ _ l1)⟩
    | false =>
      have hne : k2 < B.size := by rw [beq_eq_false_iff_ne] at hat; omega
      cases hi : rIs (rs B k2 false) 59 with
      | true =>
        have HF := hide (blk_stop HE1.out HE2.out (Or.inr (Or.inr hi)))
        go_wp2
        go_quiet ((go_at_call 12; exact Calls.quiet_of (is_quiet b B k2 false _ _ (hr2.drewN _))))
        have pt0 := bt2.cell 0 _ rfl
        have po0 := bo2.cell 0 _ rfl
        have qo0 := bo2.froz 0
        have pt1 := bt2.cell 1 _ rfl
        have po1 := bo2.cell 1 _ rfl
        have qo1 := bo2.froz 1
        have pt2 := bt2.cell 2 _ rfl
        have po2 := bo2.cell 2 _ rfl
        have qo2 := bo2.froz 2
        have pt3 := bt2.cell 3 _ rfl
        have po3 := bo2.cell 3 _ rfl
        have qo3 := bo2.froz 3
        have pt4 := bt2.cell 4 _ rfl
        have po4 := bo2.cell 4 _ rfl
        have qo4 := bo2.froz 4
        have pt5 := bt2.cell 5 _ rfl
        have po5 := bo2.cell 5 _ rfl
        have qo5 := bo2.froz 5
        have pt6 := bt2.cell 6 _ rfl
        have po6 := bo2.cell 6 _ rfl
        have qo6 := bo2.froz 6
        have pt7 := bt2.cell 7 _ rfl
        have po7 := bo2.cell 7 _ rfl
        have qo7 := bo2.froz 7
        have pt8 := bt2.cell 8 _ rfl
        have po8 := bo2.cell 8 _ rfl
        have qo8 := bo2.froz 8
        go_wp2
        exact bodyPost_ret (v := .agg #[.int .u8 kd, .int .i64 q1, .int .i64 q2, .int .i64 v1, .int .i64 q4, .int .i64 q5, .int .i64 q6, .int .i64 q7, .slice none 0 0]) (by simp [results, Try.results17, go_sem, po0, po1, po2, po3, po4, po5, po6, po7, po8]) rfl ⟨⟨_, _, _, _, rfl⟩, k2, _, HF.out, ((((((((((hr2.drewN _).set _ _ _ n1).set _ _ _ n1).set _ _ _ n1).set _ _ _ n1).set _ _ _ n1).set _ _ _ n1).set _ _ _ n1).set _ _ _ n1).set _ _ _ n1), ((((((((((K2.trans (Kp.drewN _ _ _)).store _ _ _ l1).store _ _ _ l1).store _ _ _ l1).store _ _ _ l1).store _ _ _ l1).store _ _ _ l1).store _ _ _ l1).store _ _ _ l1).store _ _ _ l1)⟩
      | false =>
        have HF := hide (blk_go HE1.out HE2.out (by
          rintro (e | e | e)
          · cases e
          · simp only [rs, txt_drop B k2 hne] at e; cases e
          · rw [hi] at e; cases e))
        go_wp2
        go_quiet ((go_at_call 12; exact Calls.quiet_of (is_quiet b B k2 false _ _ (hr2.drewN _))))
        go_wp2
        clear hi hat hne c0 c1 c2
        go_loopg [5] 8 (fun n i wr => ∃ (j k' : Nat) (bad' : Bool) (sl : Option Addr) (sc : Nat) (xs : List Value), n + j = 8 ∧ i = .int .i64 j ∧ RR b B k' bad' wr ∧ Kp b w wr ∧ Box w.heap.size [Value.int .u8 kd, Value.int .i64 q1, Value.int .i64 q2, Value.int .i64 v1, Value.int .i64 q4, Value.int .i64 q5, Value.int .i64 q6, Value.int .i64 q7, Value.slice sl j sc] wr ∧ Box (w.heap.size + 1) [Value.int .u8 0, Value.int .i64 0, Value.int .i64 0, Value.int .i64 0, Value.int .i64 0, Value.int .i64 0, Value.int .i64 0, Value.int .i64 0, Value.slice none 0 0] wr ∧
            wr.ownsRow (w.heap.size + 2) 76 6 (.slice sl j sc) j xs ∧ rTxs 8 (rs B k2 false) = rTxs n (rs B k' bad'))
        case atStart => exact ⟨0, k2, false, none, 0, [], rfl, rfl, hr2.drewN _, K2.trans (Kp.drewN _ _ _), bt2.drewN _, bo2.drewN _, World.ownsRow_nil _ _ _ _, rfl⟩
        case round =>
          clear hr2 K2 bt2 bo2
          obtain ⟨j, k', bad', sl, sc, xs, hnj, rfl, hr, hkp, bt, bo, hown, hrun⟩ := hrel
          have HR := hide (HF.out.trans hrun)
          clear hrun
          have HN := hide hnj
          have hj8 : j ≤ 8 := by omega
          have c2 := hr.c2
          cases bad' with
          | true =>
            have HR2 := hide (HR.out.trans (txs_bad gk B k'))
            clear HR
            by_cases hj : j < 8
            · clear hnj
              have pt0 := bt.cell 0 _ rfl
              have po0 := bo.cell 0 _ rfl
              have qo0 := bo.froz 0
              have pt1 := bt.cell 1 _ rfl
              have po1 := bo.cell 1 _ rfl
              have qo1 := bo.froz 1
              have pt2 := bt.cell 2 _ rfl
              have po2 := bo.cell 2 _ rfl
              have qo2 := bo.froz 2
              have pt3 := bt.cell 3 _ rfl
              have po3 := bo.cell 3 _ rfl
              have qo3 := bo.froz 3
              have pt4 := bt.cell 4 _ rfl
              have po4 := bo.cell 4 _ rfl
              have qo4 := bo.froz 4
              have pt5 := bt.cell 5 _ rfl
              have po5 := bo.cell 5 _ rfl
              have qo5 := bo.froz 5
              have pt6 := bt.cell 6 _ rfl
              have po6 := bo.cell 6 _ rfl
              have qo6 := bo.froz 6
              have pt7 := bt.cell 7 _ rfl
              have po7 := bo.cell 7 _ rfl
              have qo7 := bo.froz 7
              have pt8 := bt.cell 8 _ rfl
              have po8 := bo.cell 8 _ rfl
              have qo8 := bo.froz 8
              go_wp2
              exact bodyPost_ret (v := .agg #[.int .u8 kd, .int .i64 q1, .int .i64 q2, .int .i64 v1, .int .i64 q4, .int .i64 q5, .int .i64 q6, .int .i64 q7, .slice sl j sc]) (by simp [results, Try.results17, go_sem, po0, po1, po2, po3, po4, po5, po6, po7, po8]) rfl ⟨⟨_, _, _, _, rfl⟩, k', _, HR2.out, (((((((((hr.set _ _ _ n1).set _ _ _ n1).set _ _ _ n1).set _ _ _ n1).set _ _ _ n1).set _ _ _ n1).set _ _ _ n1).set _ _ _ n1).set _ _ _ n1), (((((((((hkp.store _ _ _ l1).store _ _ _ l1).store _ _ _ l1).store _ _ _ l1).store _ _ _ l1).store _ _ _ l1).store _ _ _ l1).store _ _ _ l1).store _ _ _ l1)⟩
            · have hd : decide ((j : Int) < 8) = false := by simp; omega
              clear hnj
              have pt0 := bt.cell 0 _ rfl
              have po0 := bo.cell 0 _ rfl
              have qo0 := bo.froz 0
              have pt1 := bt.cell 1 _ rfl
              have po1 := bo.cell 1 _ rfl
              have qo1 := bo.froz 1
              have pt2 := bt.cell 2 _ rfl
              have po2 := bo.cell 2 _ rfl
              have qo2 := bo.froz 2
              have pt3 := bt.cell 3 _ rfl
              have po3 := bo.cell 3 _ rfl
              have qo3 := bo.froz 3
              have pt4 := bt.cell 4 _ rfl
              have po4 := bo.cell 4 _ rfl
              have qo4 := bo.froz 4
              have pt5 := bt.cell 5 _ rfl
              have po5 := bo.cell 5 _ rfl
              have qo5 := bo.froz 5
              have pt6 := bt.cell 6 _ rfl
              have po6 := bo.cell 6 _ rfl
              have qo6 := bo.froz 6
              have pt7 := bt.cell 7 _ rfl
              have po7 := bo.cell 7 _ rfl
              have qo7 := bo.froz 7
              have pt8 := bt.cell 8 _ rfl
              have po8 := bo.cell 8 _ rfl
              have qo8 := bo.froz 8
              go_wp2
              exact bodyPost_ret (v := .agg #[.int .u8 kd, .int .i64 q1, .int .i64 q2, .int .i64 v1, .int .i64 q4, .int .i64 q5, .int .i64 q6, .int .i64 q7, .slice sl j sc]) (by simp [results, Try.results17, go_sem, po0, po1, po2, po3, po4, po5, po6, po7, po8]) rfl ⟨⟨_, _, _, _, rfl⟩, k', _, HR2.out, (((((((((hr.set _ _ _ n1).set _ _ _ n1).set _ _ _ n1).set _ _ _ n1).set _ _ _ n1).set _ _ _ n1).set _ _ _ n1).set _ _ _ n1).set _ _ _ n1), (((((((((hkp.store _ _ _ l1).store _ _ _ l1).store _ _ _ l1).store _ _ _ l1).store _ _ _ l1).store _ _ _ l1).store _ _ _ l1).store _ _ _ l1).store _ _ _ l1)⟩
          | false =>
            by_cases hj : j < 8
            · obtain ⟨m, rfl⟩ : ∃ m, gk = m + 1 := ⟨gk - 1, by omega⟩
              clear hnj
              go_wp2_with fail
              refine (tx_any b B k' false _ hr).mono ?_
              rintro e w3 ⟨⟨kd3, f3, t3, n3, kk3, p3, rfl⟩, k3, bad3, he3, hr3, hk3⟩
              have bt3 := bt.kp hk3 n0
              have bo3 := bo.kp hk3 n1
              have K3 := hkp.trans hk3
              have own3 := own_kp hown hk3 (by omega : b < w.heap.size + 2)
              have HE3 := hide he3
              clear he3 hk3 bt bo hkp hown hr c2
              have p8 := bt3.cell 8 _ rfl
              have s8 := bt3.froz 8
              obtain ⟨i0, hi, hz0, hz1, hz2⟩ := info_parts Try.inf76
              have hi' := hide hi
              have hz0' := hide hz0
              have hz1' := hide hz1
              have hz2' := hide hz2
              clear hi hz0 hz1 hz2
              have hsz := bo3.lt
              have hsz0 := bt3.lt
              have hszb := hr3.hb
              go_wp2_with (at_builtin; (refine wpList_append_own _ rfl (.tmp 48) (.tmp 50) 44 rfl (w.heap.size + 2) 76 i0 (.agg #[Value.int .u8 0, Value.int .i64 0, Value.int .i64 0, Value.int .i64 0, Value.int .i64 0, Value.string ⟨#[]⟩]) 6 56 Try.underlying44 hi'.out hz0'.out hz1'.out hz2'.out rfl (by decide) _ _ _ rfl ((own3.alloc _).alloc _) ⟨w3.heap.size + 1, 0, none⟩ 1 1 [Value.int .u8 kd3, Value.int .i64 f3, Value.int .i64 t3, Value.int .i64 n3, Value.int .i64 kk3, Value.string p3] rfl rfl ?c1 ?c2 ?c3 ?c4 ?c5 ?_))
              case c1 => exact news_cell _ _ _ _ (by simp)
              case c2 => intro u hu; simp only [List.mem_cons, List.not_mem_nil, or_false] at hu; rcases hu with rfl | rfl | rfl | rfl | rfl | rfl <;> rfl
              case c3 => unfold maxLen; omega
              case c4 => omega
              case c5 => simp; omega
              intro v' w4 hown4 hg4 _
              obtain ⟨sl', sc', rfl⟩ := own_slice hown4
              have hr4 := ((hr3.alloc _).alloc _).grown hg4 (own_far own3 (by omega))
              have bt4 := ((bt3.alloc _).alloc _).grown hg4 (own_far own3 (by omega))
              have bo4 := ((bo3.alloc _).alloc _).grown hg4 (own_far own3 (by omega))
              have K4 := ((K3.alloc _).alloc _).grown hg4 (fun g e => by have := (own3.lt g e).1; omega)
              clear hg4 own3 bt3 bo3 K3 hr3 p8 s8 hsz hsz0 hszb hi' hz0' hz1' hz2'
              have p8 := bt4.cell 8 _ rfl
              have s8 := bt4.froz 8
              cases hc : rIs (rs B k3 bad3) 44 with
              | true =>
                by_cases hj7 : j + 1 = 8
                · have hjb : ((j : Int) + 1 == 8) = true := by rw [beq_iff_eq]; omega
                  have HR2 := hide (HR.out.trans (txs_stop HE3.out (Or.inr (by have := HN.out; omega))))
                  clear HR HE3 hj7
                  go_wp2_with fail
                  refine (is_any b B k3 bad3 _ _ (hr4.set _ _ _ n0)).mono ?_
                  rintro e w5 ⟨rfl, hr5, hk5⟩
                  have bo5 := (bo4.far _ _ _ n01).kp hk5 n1
                  have bt5 := (bt4.put 8 _).kp hk5 n0
                  have K5 := (K4.store _ _ _ (Nat.le_refl _)).trans hk5
                  clear hk5 bt4 bo4 K4 p8 s8 hown4 hr4
                  have pt0 := bt5.cell 0 _ rfl
                  have po0 := bo5.cell 0 _ rfl
                  have qo0 := bo5.froz 0
                  have pt1 := bt5.cell 1 _ rfl
                  have po1 := bo5.cell 1 _ rfl
                  have qo1 := bo5.froz 1
                  have pt2 := bt5.cell 2 _ rfl
                  have po2 := bo5.cell 2 _ rfl
                  have qo2 := bo5.froz 2
                  have pt3 := bt5.cell 3 _ rfl
                  have po3 := bo5.cell 3 _ rfl
                  have qo3 := bo5.froz 3
                  have pt4 := bt5.cell 4 _ rfl
                  have po4 := bo5.cell 4 _ rfl
                  have qo4 := bo5.froz 4
                  have pt5 := bt5.cell 5 _ rfl
                  have po5 := bo5.cell 5 _ rfl
                  have qo5 := bo5.froz 5
                  have pt6 := bt5.cell 6 _ rfl
                  have po6 := bo5.cell 6 _ rfl
                  have qo6 := bo5.froz 6
                  have pt7 := bt5.cell 7 _ rfl
                  have po7 := bo5.cell 7 _ rfl
                  have qo7 := bo5.froz 7
                  have pt8 := bt5.cell 8 _ rfl
                  have po8 := bo5.cell 8 _ rfl
                  have qo8 := bo5.froz 8
                  go_wp2
                  exact bodyPost_ret (v := .agg #[.int .u8 kd, .int .i64 q1, .int .i64 q2, .int .i64 v1, .int .i64 q4, .int .i64 q5, .int .i64 q6, .int .i64 q7, .slice sl' (j + 1) sc']) (by simp [results, Try.results17, go_sem, po0, po1, po2, po3, po4, po5, po6, po7, po8]) rfl ⟨⟨_, _, _, _, rfl⟩, k3, bad3, HR2.out, (((((((((hr5.set _ _ _ n1).set _ _ _ n1).set _ _ _ n1).set _ _ _ n1).set _ _ _ n1).set _ _ _ n1).set _ _ _ n1).set _ _ _ n1).set _ _ _ n1), (((((((((K5.store _ _ _ l1).store _ _ _ l1).store _ _ _ l1).store _ _ _ l1).store _ _ _ l1).store _ _ _ l1).store _ _ _ l1).store _ _ _ l1).store _ _ _ l1)⟩
                · have hjb : ((j : Int) + 1 == 8) = false := by rw [beq_eq_false_iff_ne]; omega
                  have hown4' := ownsRow_setCell_below hown4 (a := ⟨w.heap.size, 8, none⟩) (by simp) (.slice sl' (j + 1) sc')
                  go_wp2_with fail
                  refine (is_any b B k3 bad3 _ _ (hr4.set _ _ _ n0)).mono ?_
                  rintro e w5 ⟨rfl, hr5, hk5⟩
                  have bo5 := (bo4.far _ _ _ n01).kp hk5 n1
                  have bt5 := (bt4.put 8 _).kp hk5 n0
                  have K5 := (K4.store _ _ _ (Nat.le_refl _)).trans hk5
                  have own5 := own_kp hown4' hk5 (by omega : b < w.heap.size + 2)
                  clear hk5 bt4 bo4 K4 p8 s8 hown4 hown4' hr4
                  go_wp2_with fail
                  refine (rtake_any b B k3 bad3 _ _ hr5 (by decide)).mono ?_
                  rintro e w6 ⟨rfl, k6, bad6, he6, hr6, hk6⟩
                  have bo6 := bo5.kp hk6 n1
                  have bt6 := bt5.kp hk6 n0
                  have K6 := K5.trans hk6
                  have own6 := own_kp own5 hk6 (by omega : b < w.heap.size + 2)
                  have HR2 := hide (HR.out.trans (txs_go HE3.out (by
                    rintro (e | e)
                    · rw [hc] at e; cases e
                    · have := HN.out; omega) he6))
                  clear he6 hk6 bo5 bt5 K5 own5 HR HE3
                  go_wp2
                  go_roundg m
                  case measure => omega
                  case rel => exact ⟨j + 1, k6, bad6, sl', sc', _, by have := HN.out; omega, by go_num, hr6, K6, bt6, bo6, own6, by rw [← HF.out]; exact HR2.out⟩
              | false =>
                have HR2 := hide (HR.out.trans (txs_stop HE3.out (Or.inl hc)))
                clear HR HE3
                go_wp2_with fail
                refine (is_any b B k3 bad3 _ _ (hr4.set _ _ _ n0)).mono ?_
                rintro e w5 ⟨rfl, hr5, hk5⟩
                have bo5 := (bo4.far _ _ _ n01).kp hk5 n1
                have bt5 := (bt4.put 8 _).kp hk5 n0
                have K5 := (K4.store _ _ _ (Nat.le_refl _)).trans hk5
                clear hk5 bt4 bo4 K4 p8 s8 hown4 hr4
                have pt0 := bt5.cell 0 _ rfl
                have po0 := bo5.cell 0 _ rfl
                have qo0 := bo5.froz 0
                have pt1 := bt5.cell 1 _ rfl
                have po1 := bo5.cell 1 _ rfl
                have qo1 := bo5.froz 1
                have pt2 := bt5.cell 2 _ rfl
                have po2 := bo5.cell 2 _ rfl
                have qo2 := bo5.froz 2
                have pt3 := bt5.cell 3 _ rfl
                have po3 := bo5.cell 3 _ rfl
                have qo3 := bo5.froz 3
                have pt4 := bt5.cell 4 _ rfl
                have po4 := bo5.cell 4 _ rfl
                have qo4 := bo5.froz 4
                have pt5 := bt5.cell 5 _ rfl
                have po5 := bo5.cell 5 _ rfl
                have qo5 := bo5.froz 5
                have pt6 := bt5.cell 6 _ rfl
                have po6 := bo5.cell 6 _ rfl
                have qo6 := bo5.froz 6
                have pt7 := bt5.cell 7 _ rfl
                have po7 := bo5.cell 7 _ rfl
                have qo7 := bo5.froz 7
                have pt8 := bt5.cell 8 _ rfl
                have po8 := bo5.cell 8 _ rfl
                have qo8 := bo5.froz 8
                go_wp2
                exact bodyPost_ret (v := .agg #[.int .u8 kd, .int .i64 q1, .int .i64 q2, .int .i64 v1, .int .i64 q4, .int .i64 q5, .int .i64 q6, .int .i64 q7, .slice sl' (j + 1) sc']) (by simp [results, Try.results17, go_sem, po0, po1, po2, po3, po4, po5, po6, po7, po8]) rfl ⟨⟨_, _, _, _, rfl⟩, k3, bad3, HR2.out, (((((((((hr5.set _ _ _ n1).set _ _ _ n1).set _ _ _ n1).set _ _ _ n1).set _ _ _ n1).set _ _ _ n1).set _ _ _ n1).set _ _ _ n1).set _ _ _ n1), (((((((((K5.store _ _ _ l1).store _ _ _ l1).store _ _ _ l1).store _ _ _ l1).store _ _ _ l1).store _ _ _ l1).store _ _ _ l1).store _ _ _ l1).store _ _ _ l1)⟩
            · have hd : decide ((j : Int) < 8) = false := by simp; omega
              have h0 : gk = 0 := by omega
              subst h0
              clear hnj
              have pt0 := bt.cell 0 _ rfl
              have po0 := bo.cell 0 _ rfl
              have qo0 := bo.froz 0
              have pt1 := bt.cell 1 _ rfl
              have po1 := bo.cell 1 _ rfl
              have qo1 := bo.froz 1
              have pt2 := bt.cell 2 _ rfl
              have po2 := bo.cell 2 _ rfl
              have qo2 := bo.froz 2
              have pt3 := bt.cell 3 _ rfl
              have po3 := bo.cell 3 _ rfl
              have qo3 := bo.froz 3
              have pt4 := bt.cell 4 _ rfl
              have po4 := bo.cell 4 _ rfl
              have qo4 := bo.froz 4
              have pt5 := bt.cell 5 _ rfl
              have po5 := bo.cell 5 _ rfl
              have qo5 := bo.froz 5
              have pt6 := bt.cell 6 _ rfl
              have po6 := bo.cell 6 _ rfl
              have qo6 := bo.froz 6
              have pt7 := bt.cell 7 _ rfl
              have po7 := bo.cell 7 _ rfl
              have qo7 := bo.froz 7
              have pt8 := bt.cell 8 _ rfl
              have po8 := bo.cell 8 _ rfl
              have qo8 := bo.froz 8
              go_wp2
              exact bodyPost_ret (v := .agg #[.int .u8 kd, .int .i64 q1, .int .i64 q2, .int .i64 v1, .int .i64 q4, .int .i64 q5, .int .i64 q6, .int .i64 q7, .slice sl j sc]) (by simp [results, Try.results17, go_sem, po0, po1, po2, po3, po4, po5, po6, po7, po8]) rfl ⟨⟨_, _, _, _, rfl⟩, k', _, HR.out, (((((((((hr.set _ _ _ n1).set _ _ _ n1).set _ _ _ n1).set _ _ _ n1).set _ _ _ n1).set _ _ _ n1).set _ _ _ n1).set _ _ _ n1).set _ _ _ n1), (((((((((hkp.store _ _ _ l1).store _ _ _ l1).store _ _ _ l1).store _ _ _ l1).store _ _ _ l1).store _ _ _ l1).store _ _ _ l1).store _ _ _ l1).store _ _ _ l1)⟩

end Go.Proofs.Ytgpphkdoanciiaa
