/-
  The document's reader: one transaction.
-/
import Derived.Test.YtgpphkdoanciiaaBox
namespace Go.Proofs.Ytgpphkdoanciiaa
open Go.RowKit

theorem tx_eq {r r1 r2 : RS} (h1 : rAccount r = r1) (h2 : (rAmong [62, 123, 58] 0 r1).1 = r2) : rTx r =
    if (rAmong [62, 123, 58] 0 r1).2 = 0 then rNumber 6 (rTake [61] (rAccount r2))
    else if (rAmong [62, 123, 58] 0 r1).2 = 1 then rProg r2
    else rTake [41] (rNumber 6 (rTake [44] (rNumber 6 (rTake [40] (rAccount r2))))) := by
  subst h1 h2; rfl

theorem chain5 {a b c d e f : RS} (h1 : rTake (txt ⟨#[40]⟩) a = b) (h2 : rNumber (Int.toNat 6) b = c) (h3 : rTake (txt ⟨#[44]⟩) c = d) (h4 : rNumber (Int.toNat 6) d = e) (h5 : rTake (txt ⟨#[41]⟩) e = f) :
    rTake [41] (rNumber 6 (rTake [44] (rNumber 6 (rTake [40] a)))) = f := by
  subst h1 h2 h3 h4 h5; rfl

set_option maxRecDepth 100000 in
set_option maxHeartbeats 2000000 in
theorem tx_any (b : Nat) (B : ByteArray) (k : Nat) (bad : Bool) (w : World) (h : RR b B k bad w) :
    Calls Try.prog 31 #[.pointer (some ⟨b, 0, none⟩)] w fun e w' =>
      (∃ (kd f t n kk : Int) (p : ByteArray), e = .returned (.agg #[.int .u8 kd, .int .i64 f, .int .i64 t, .int .i64 n, .int .i64 kk, .string p])) ∧ RDid b B (rTx (rs B k bad)) w w' := by
  have hb := h.hb
  have n0 : w.heap.size ≠ b := by omega
  have n1 : w.heap.size + 1 ≠ b := by omega
  have n01 : w.heap.size + 1 ≠ w.heap.size := by omega
  have l1 : w.heap.size ≤ w.heap.size + 1 := by omega
  go_enter Try.func31, Try.ntmps31
  go_wp2_with fail
  refine (account_any b B k bad _ ((h.alloc _).alloc _)).mono ?_
  rintro e w1 ⟨⟨v1, rfl⟩, k1, bad1, he1, hr1, hk1⟩
  have bo1 : Box w.heap.size [Value.int .u8 0, Value.int .i64 0, Value.int .i64 0, Value.int .i64 0, Value.int .i64 0, Value.string ⟨#[]⟩] w1 := ((Box.new w _ 76).alloc _).kp hk1 n0
  have bt1 : Box (w.heap.size + 1) [Value.int .u8 0, Value.int .i64 0, Value.int .i64 0, Value.int .i64 0, Value.int .i64 0, Value.string ⟨#[]⟩] w1 := Box.kp (by have := Box.new (w.alloc (.cells #[Value.int .u8 0, Value.int .i64 0, Value.int .i64 0, Value.int .i64 0, Value.int .i64 0, Value.string ⟨#[]⟩] 76)) [Value.int .u8 0, Value.int .i64 0, Value.int .i64 0, Value.int .i64 0, Value.int .i64 0, Value.string ⟨#[]⟩] 76; simpa only [World.size_alloc] using this) hk1 n1
  have K1 : Kp b w w1 := (((Kp.refl _ _).alloc _).alloc _).trans hk1
  have HE1 : Hid (rAccount (rs B k bad) = rs B k1 bad1) := he1
  clear he1 hk1
  have p1 := bt1.cell 1 _ rfl
  have q1 := bt1.froz 1
  go_wp2_with fail
  refine (among_any b B k1 bad1 _ _ (hr1.set _ _ _ n1) (by decide)).mono ?_
  rintro e w2 ⟨rfl, k2, bad2, he2, hr2, hk2⟩
  have bo2 := (bo1.far _ _ _ n01).kp hk2 n0
  have bt2 := (bt1.put 1 _).kp hk2 n1
  have K2 := (K1.store _ _ _ l1).trans hk2
  have HE2 := hide he2
  clear he2 hk2 bo1 bt1 K1 hr1 p1 q1
  have HT := hide (tx_eq HE1.out HE2.out)
  have hbd : 0 ≤ (rAmong (txt ⟨#[62, 123, 58]⟩) 0 (rs B k1 bad1)).2 ∧ ((rAmong (txt ⟨#[62, 123, 58]⟩) 0 (rs B k1 bad1)).2 = 0 ∨ (rAmong (txt ⟨#[62, 123, 58]⟩) 0 (rs B k1 bad1)).2 < 3) := rAmong_bd [62, 123, 58] 0 (rs B k1 bad1) (Int.le_refl 0)
  clear HE1 HE2
  change Hid (rTx (rs B k bad) = if (rAmong (txt ⟨#[62, 123, 58]⟩) 0 (rs B k1 bad1)).2 = 0 then rNumber 6 (rTake [61] (rAccount (rs B k2 bad2)))
    else if (rAmong (txt ⟨#[62, 123, 58]⟩) 0 (rs B k1 bad1)).2 = 1 then rProg (rs B k2 bad2)
    else rTake [41] (rNumber 6 (rTake [44] (rNumber 6 (rTake [40] (rAccount (rs B k2 bad2))))))) at HT
  generalize (rAmong (txt ⟨#[62, 123, 58]⟩) 0 (rs B k1 bad1)).2 = kx at *
  have hkx : kx = 0 ∨ kx = 1 ∨ kx = 2 := by omega
  clear hbd
  rcases hkx with rfl | rfl | rfl
  · have HF := hide (HT.out.trans (if_pos rfl))
    clear HT
    have p2 := bt2.cell 0 _ rfl
    have q2 := bt2.froz 0
    go_wp2_with fail
    refine (account_any b B k2 bad2 _ (hr2.set _ _ _ n1)).mono ?_
    rintro e w3 ⟨⟨v3, rfl⟩, k3, bad3, he3, hr3, hk3⟩
    have bo3 := (bo2.far _ _ _ n01).kp hk3 n0
    have bt3 := (bt2.put 0 _).kp hk3 n1
    have K3 := (K2.store _ _ _ l1).trans hk3
    have HE3 := hide he3
    clear he3 hk3 bo2 bt2 K2 hr2 p2 q2
    have p3 := bt3.cell 2 _ rfl
    have q3 := bt3.froz 2
    go_wp2_with fail
    refine (rtake_any b B k3 bad3 _ _ (hr3.set _ _ _ n1) (by decide)).mono ?_
    rintro e w4 ⟨rfl, k4, bad4, he4, hr4, hk4⟩
    have bo4 := (bo3.far _ _ _ n01).kp hk4 n0
    have bt4 := (bt3.put 2 _).kp hk4 n1
    have K4 := (K3.store _ _ _ l1).trans hk4
    have HE4 := hide he4
    clear he4 hk4 bo3 bt3 K3 hr3 p3 q3
    go_wp2_with fail
    refine (number_any b B k4 bad4 _ _ hr4 (by decide) (by decide)).mono ?_
    rintro e w5 ⟨⟨v5, rfl⟩, k5, bad5, he5, hr5, hk5⟩
    have bo5 := bo4.kp hk5 n0
    have bt5 := bt4.kp hk5 n1
    have K5 := K4.trans hk5
    have HE5 := hide he5
    clear he5 hk5 bo4 bt4 K4 hr4
    have pt0 := bt5.cell 0 _ rfl
    have po0 := bo5.cell 0 _ rfl
    have qo0 := bo5.froz 0
    have pt1 := bt5.cell 1 _ rfl
    have po1 := bo5.cell 1 _ rfl
    have qo1 := bo5.froz 1
    have pt2 := bt5.cell 2 _ rfl
    have po2 := bo5.cell 2 _ rfl
    have qo2 := bo5.froz 2
    have pt3 := bt5.cell 3 _ rfl
    have po3 := bo5.cell 3 _ rfl
    have qo3 := bo5.froz 3
    have pt4 := bt5.cell 4 _ rfl
    have po4 := bo5.cell 4 _ rfl
    have qo4 := bo5.froz 4
    have pt5 := bt5.cell 5 _ rfl
    have po5 := bo5.cell 5 _ rfl
    have qo5 := bo5.froz 5
    have qt := bt5.froz 3
    go_wp2
    exact bodyPost_ret (v := .agg #[.int .u8 (((⟨#[62, 123, 58]⟩ : ByteArray)[0]'(by decide)).toNat : Int), .int .i64 v1, .int .i64 v3, .int .i64 v5, .int .i64 0, .string ⟨#[]⟩]) (by simp [results, Try.results31, go_sem, po0, po1, po2, po3, po4, po5]) rfl ⟨⟨_, _, _, _, _, _, rfl⟩, k5, bad5, by rw [HF.out, HE3.out]; exact (congrArg (rNumber 6) HE4.out).trans HE5.out, (((((((hr5.set _ _ _ n1).set _ _ _ n0).set _ _ _ n0).set _ _ _ n0).set _ _ _ n0).set _ _ _ n0).set _ _ _ n0), (((((((K5.store _ _ _ l1).store _ _ _ (Nat.le_refl _)).store _ _ _ (Nat.le_refl _)).store _ _ _ (Nat.le_refl _)).store _ _ _ (Nat.le_refl _)).store _ _ _ (Nat.le_refl _)).store _ _ _ (Nat.le_refl _))⟩
  · have HF := hide (HT.out.trans ((if_neg (by decide)).trans (if_pos rfl)))
    clear HT
    have p2 := bt2.cell 0 _ rfl
    have q2 := bt2.froz 0
    go_wp2_with fail
    refine (program_any b B k2 bad2 _ (hr2.set _ _ _ n1)).mono ?_
    rintro e w3 ⟨⟨v3, rfl⟩, k3, bad3, he3, hr3, hk3⟩
    have bo3 := (bo2.far _ _ _ n01).kp hk3 n0
    have bt3 := (bt2.put 0 _).kp hk3 n1
    have K3 := (K2.store _ _ _ l1).trans hk3
    have HE3 := hide he3
    clear he3 hk3 bo2 bt2 K2 hr2 p2 q2
    have pt0 := bt3.cell 0 _ rfl
    have po0 := bo3.cell 0 _ rfl
    have qo0 := bo3.froz 0
    have pt1 := bt3.cell 1 _ rfl
    have po1 := bo3.cell 1 _ rfl
    have qo1 := bo3.froz 1
    have pt2 := bt3.cell 2 _ rfl
    have po2 := bo3.cell 2 _ rfl
    have qo2 := bo3.froz 2
    have pt3 := bt3.cell 3 _ rfl
    have po3 := bo3.cell 3 _ rfl
    have qo3 := bo3.froz 3
    have pt4 := bt3.cell 4 _ rfl
    have po4 := bo3.cell 4 _ rfl
    have qo4 := bo3.froz 4
    have pt5 := bt3.cell 5 _ rfl
    have po5 := bo3.cell 5 _ rfl
    have qo5 := bo3.froz 5
    have qt := bt3.froz 5
    go_wp2
    exact bodyPost_ret (v := .agg #[.int .u8 (((⟨#[62, 123, 58]⟩ : ByteArray)[1]'(by decide)).toNat : Int), .int .i64 v1, .int .i64 0, .int .i64 0, .int .i64 0, .string v3]) (by simp [results, Try.results31, go_sem, po0, po1, po2, po3, po4, po5]) rfl ⟨⟨_, _, _, _, _, _, rfl⟩, k3, bad3, by rw [HF.out]; exact HE3.out, (((((((hr3.set _ _ _ n1).set _ _ _ n0).set _ _ _ n0).set _ _ _ n0).set _ _ _ n0).set _ _ _ n0).set _ _ _ n0), (((((((K3.store _ _ _ l1).store _ _ _ (Nat.le_refl _)).store _ _ _ (Nat.le_refl _)).store _ _ _ (Nat.le_refl _)).store _ _ _ (Nat.le_refl _)).store _ _ _ (Nat.le_refl _)).store _ _ _ (Nat.le_refl _))⟩
  · have HF := hide (HT.out.trans ((if_neg (by decide)).trans (if_neg (by decide))))
    clear HT
    have p2 := bt2.cell 0 _ rfl
    have q2 := bt2.froz 0
    go_wp2_with fail
    refine (account_any b B k2 bad2 _ (hr2.set _ _ _ n1)).mono ?_
    rintro e w3 ⟨⟨v3, rfl⟩, k3, bad3, he3, hr3, hk3⟩
    have bo3 := (bo2.far _ _ _ n01).kp hk3 n0
    have bt3 := (bt2.put 0 _).kp hk3 n1
    have K3 := (K2.store _ _ _ l1).trans hk3
    have HE3 := hide he3
    clear he3 hk3 bo2 bt2 K2 hr2 p2 q2
    have p3 := bt3.cell 2 _ rfl
    have q3 := bt3.froz 2
    go_wp2_with fail
    refine (rtake_any b B k3 bad3 _ _ (hr3.set _ _ _ n1) (by decide)).mono ?_
    rintro e w4 ⟨rfl, k4, bad4, he4, hr4, hk4⟩
    have bo4 := (bo3.far _ _ _ n01).kp hk4 n0
    have bt4 := (bt3.put 2 _).kp hk4 n1
    have K4 := (K3.store _ _ _ l1).trans hk4
    have HE4 := hide he4
    clear he4 hk4 bo3 bt3 K3 hr3 p3 q3
    go_wp2_with fail
    refine (number_any b B k4 bad4 _ _ hr4 (by decide) (by decide)).mono ?_
    rintro e w5 ⟨⟨v5, rfl⟩, k5, bad5, he5, hr5, hk5⟩
    have bo5 := bo4.kp hk5 n0
    have bt5 := bt4.kp hk5 n1
    have K5 := K4.trans hk5
    have HE5 := hide he5
    clear he5 hk5 bo4 bt4 K4 hr4
    have p5 := bt5.cell 3 _ rfl
    have q5 := bt5.froz 3
    go_wp2_with fail
    refine (rtake_any b B k5 bad5 _ _ (hr5.set _ _ _ n1) (by decide)).mono ?_
    rintro e w6 ⟨rfl, k6, bad6, he6, hr6, hk6⟩
    have bo6 := (bo5.far _ _ _ n01).kp hk6 n0
    have bt6 := (bt5.put 3 _).kp hk6 n1
    have K6 := (K5.store _ _ _ l1).trans hk6
    have HE6 := hide he6
    clear he6 hk6 bo5 bt5 K5 hr5 p5 q5
    go_wp2_with fail
    refine (number_any b B k6 bad6 _ _ hr6 (by decide) (by decide)).mono ?_
    rintro e w7 ⟨⟨v7, rfl⟩, k7, bad7, he7, hr7, hk7⟩
    have bo7 := bo6.kp hk7 n0
    have bt7 := bt6.kp hk7 n1
    have K7 := K6.trans hk7
    have HE7 := hide he7
    clear he7 hk7 bo6 bt6 K6 hr6
    have p7 := bt7.cell 4 _ rfl
    have q7 := bt7.froz 4
    go_wp2_with fail
    refine (rtake_any b B k7 bad7 _ _ (hr7.set _ _ _ n1) (by decide)).mono ?_
    rintro e w8 ⟨rfl, k8, bad8, he8, hr8, hk8⟩
    have bo8 := (bo7.far _ _ _ n01).kp hk8 n0
    have bt8 := (bt7.put 4 _).kp hk8 n1
    have K8 := (K7.store _ _ _ l1).trans hk8
    have HE8 := hide he8
    clear he8 hk8 bo7 bt7 K7 hr7 p7 q7
    have pt0 := bt8.cell 0 _ rfl
    have po0 := bo8.cell 0 _ rfl
    have qo0 := bo8.froz 0
    have pt1 := bt8.cell 1 _ rfl
    have po1 := bo8.cell 1 _ rfl
    have qo1 := bo8.froz 1
    have pt2 := bt8.cell 2 _ rfl
    have po2 := bo8.cell 2 _ rfl
    have qo2 := bo8.froz 2
    have pt3 := bt8.cell 3 _ rfl
    have po3 := bo8.cell 3 _ rfl
    have qo3 := bo8.froz 3
    have pt4 := bt8.cell 4 _ rfl
    have po4 := bo8.cell 4 _ rfl
    have qo4 := bo8.froz 4
    have pt5 := bt8.cell 5 _ rfl
    have po5 := bo8.cell 5 _ rfl
    have qo5 := bo8.froz 5
    go_wp2
    exact bodyPost_ret (v := .agg #[.int .u8 (((⟨#[62, 123, 58]⟩ : ByteArray)[2]'(by decide)).toNat : Int), .int .i64 v1, .int .i64 v3, .int .i64 v5, .int .i64 v7, .string ⟨#[]⟩]) (by simp [results, Try.results31, go_sem, po0, po1, po2, po3, po4, po5]) rfl ⟨⟨_, _, _, _, _, _, rfl⟩, k8, bad8, by rw [HF.out, HE3.out]; exact chain5 HE4.out HE5.out HE6.out HE7.out HE8.out, ((((((hr8.set _ _ _ n0).set _ _ _ n0).set _ _ _ n0).set _ _ _ n0).set _ _ _ n0).set _ _ _ n0), ((((((K8.store _ _ _ (Nat.le_refl _)).store _ _ _ (Nat.le_refl _)).store _ _ _ (Nat.le_refl _)).store _ _ _ (Nat.le_refl _)).store _ _ _ (Nat.le_refl _)).store _ _ _ (Nat.le_refl _))⟩

end Go.Proofs.Ytgpphkdoanciiaa
