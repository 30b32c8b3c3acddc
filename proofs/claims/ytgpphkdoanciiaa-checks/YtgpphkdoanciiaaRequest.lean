/-
  The document's reader: one request.
-/
import Derived.Test.YtgpphkdoanciiaaBlock
namespace Go.Proofs.Ytgpphkdoanciiaa
open Go.RowKit

theorem req_bad {r r1 : RS} (h1 : (rAmong [105, 103, 98, 99, 109, 114, 108, 117, 100] 0 r).1 = r1) (hb : r1.bad = true) : rRequest r = r1 := by
  subst h1; unfold rRequest; exact if_pos hb
theorem req_go {r r1 : RS} {kx : Int} (h1 : (rAmong [105, 103, 98, 99, 109, 114, 108, 117, 100] 0 r).1 = r1) (h2 : (rAmong [105, 103, 98, 99, 109, 114, 108, 117, 100] 0 r).2 = kx) (hb : r1.bad = false) : rRequest r =
    if kx = 5 ∨ kx = 6 ∨ kx = 7 then rVersion r1
    else if kx = 0 then rBlock (rTake [58] (rVersion r1))
    else if kx = 8 then rVersion (rTake [58] (rVersion r1))
    else if kx = 1 then (rAmong [48, 49, 50, 51, 52, 53, 54, 55, 56, 57, 97, 98, 99, 100, 101, 102] 0 (rAccount (rTake [58] (rVersion r1)))).1
    else if kx = 2 then rAccount (rTake [58] (rVersion r1))
    else rTake [41] (rNumber 6 (if kx = 3 then rTake [44] (rNumber 6 (rTake [40] (rAccount (rTake [62] (rAccount (rTake [58] (rVersion r1))))))) else rTake [40] (rAccount (rTake [62] (rAccount (rTake [58] (rVersion r1))))))) := by
  subst h1 h2
  unfold rRequest
  exact if_neg (by rw [hb]; exact Bool.false_ne_true)
theorem req_u {r r1 : RS} {kx : Int} (h1 : (rAmong [105, 103, 98, 99, 109, 114, 108, 117, 100] 0 r).1 = r1) (h2 : (rAmong [105, 103, 98, 99, 109, 114, 108, 117, 100] 0 r).2 = kx) (hb : r1.bad = false) (hk : kx = 5 ∨ kx = 6 ∨ kx = 7) : rRequest r = rVersion r1 := by
  rw [req_go h1 h2 hb, if_pos hk]
theorem req_0 {r r1 : RS} (h1 : (rAmong [105, 103, 98, 99, 109, 114, 108, 117, 100] 0 r).1 = r1) (h2 : (rAmong [105, 103, 98, 99, 109, 114, 108, 117, 100] 0 r).2 = 0) (hb : r1.bad = false) : rRequest r = rBlock (rTake [58] (rVersion r1)) := by
  rw [req_go h1 h2 hb]; rfl
theorem req_8 {r r1 : RS} (h1 : (rAmong [105, 103, 98, 99, 109, 114, 108, 117, 100] 0 r).1 = r1) (h2 : (rAmong [105, 103, 98, 99, 109, 114, 108, 117, 100] 0 r).2 = 8) (hb : r1.bad = false) : rRequest r = rVersion (rTake [58] (rVersion r1)) := by
  rw [req_go h1 h2 hb]; rfl
theorem req_1 {r r1 : RS} (h1 : (rAmong [105, 103, 98, 99, 109, 114, 108, 117, 100] 0 r).1 = r1) (h2 : (rAmong [105, 103, 98, 99, 109, 114, 108, 117, 100] 0 r).2 = 1) (hb : r1.bad = false) : rRequest r = (rAmong [48, 49, 50, 51, 52, 53, 54, 55, 56, 57, 97, 98, 99, 100, 101, 102] 0 (rAccount (rTake [58] (rVersion r1)))).1 := by
  rw [req_go h1 h2 hb]; rfl
theorem req_2 {r r1 : RS} (h1 : (rAmong [105, 103, 98, 99, 109, 114, 108, 117, 100] 0 r).1 = r1) (h2 : (rAmong [105, 103, 98, 99, 109, 114, 108, 117, 100] 0 r).2 = 2) (hb : r1.bad = false) : rRequest r = rAccount (rTake [58] (rVersion r1)) := by
  rw [req_go h1 h2 hb]; rfl
theorem req_3 {r r1 : RS} (h1 : (rAmong [105, 103, 98, 99, 109, 114, 108, 117, 100] 0 r).1 = r1) (h2 : (rAmong [105, 103, 98, 99, 109, 114, 108, 117, 100] 0 r).2 = 3) (hb : r1.bad = false) : rRequest r = rTake [41] (rNumber 6 (rTake [44] (rNumber 6 (rTake [40] (rAccount (rTake [62] (rAccount (rTake [58] (rVersion r1))))))))) := by
  rw [req_go h1 h2 hb]; rfl
theorem req_4 {r r1 : RS} (h1 : (rAmong [105, 103, 98, 99, 109, 114, 108, 117, 100] 0 r).1 = r1) (h2 : (rAmong [105, 103, 98, 99, 109, 114, 108, 117, 100] 0 r).2 = 4) (hb : r1.bad = false) : rRequest r = rTake [41] (rNumber 6 (rTake [40] (rAccount (rTake [62] (rAccount (rTake [58] (rVersion r1))))))) := by
  rw [req_go h1 h2 hb]; rfl

theorem ch_ver {a c d e : RS} (h1 : rVersion a = c) (h2 : rTake (txt ⟨#[58]⟩) c = d) (h3 : rVersion d = e) : rVersion (rTake [58] (rVersion a)) = e := by
  subst h1 h2 h3; rfl
theorem ch_blk {a c d e : RS} (h1 : rVersion a = c) (h2 : rTake (txt ⟨#[58]⟩) c = d) (h3 : rBlock d = e) : rBlock (rTake [58] (rVersion a)) = e := by
  subst h1 h2 h3; rfl
theorem ch_acc {a c d e : RS} (h1 : rVersion a = c) (h2 : rTake (txt ⟨#[58]⟩) c = d) (h3 : rAccount d = e) : rAccount (rTake [58] (rVersion a)) = e := by
  subst h1 h2 h3; rfl
theorem ch_hex {a c d e f : RS} (h1 : rVersion a = c) (h2 : rTake (txt ⟨#[58]⟩) c = d) (h3 : rAccount d = e) (h4 : (rAmong (txt ⟨#[48, 49, 50, 51, 52, 53, 54, 55, 56, 57, 97, 98, 99, 100, 101, 102]⟩) 0 e).1 = f) : (rAmong [48, 49, 50, 51, 52, 53, 54, 55, 56, 57, 97, 98, 99, 100, 101, 102] 0 (rAccount (rTake [58] (rVersion a)))).1 = f := by
  subst h1 h2 h3 h4; rfl
theorem ch_c {a c d e f g i j m n o : RS} (h1 : rVersion a = c) (h2 : rTake (txt ⟨#[58]⟩) c = d) (h3 : rAccount d = e) (h4 : rTake (txt ⟨#[62]⟩) e = f) (h5 : rAccount f = g) (h6 : rTake (txt ⟨#[40]⟩) g = i)
    (h7 : rNumber (Int.toNat 6) i = j) (h8 : rTake (txt ⟨#[44]⟩) j = m) (h9 : rNumber (Int.toNat 6) m = n) (h10 : rTake (txt ⟨#[41]⟩) n = o) :
    rTake [41] (rNumber 6 (rTake [44] (rNumber 6 (rTake [40] (rAccount (rTake [62] (rAccount (rTake [58] (rVersion a))))))))) = o := by
  subst h1 h2 h3 h4 h5 h6 h7 h8 h9 h10; rfl
theorem ch_m {a c d e f g i j m : RS} (h1 : rVersion a = c) (h2 : rTake (txt ⟨#[58]⟩) c = d) (h3 : rAccount d = e) (h4 : rTake (txt ⟨#[62]⟩) e = f) (h5 : rAccount f = g) (h6 : rTake (txt ⟨#[40]⟩) g = i)
    (h7 : rNumber (Int.toNat 6) i = j) (h8 : rTake (txt ⟨#[41]⟩) j = m) :
    rTake [41] (rNumber 6 (rTake [40] (rAccount (rTake [62] (rAccount (rTake [58] (rVersion a))))))) = m := by
  subst h1 h2 h3 h4 h5 h6 h7 h8; rfl

def ReqPost (b : Nat) (B : ByteArray) (k : Nat) (bad : Bool) (w : World) (e : Ending) (w' : World) : Prop :=
  (∃ (kd q1 q2 q3 q4 q5 q6 q7 : Int) (sl : Option Addr) (n c : Nat), e = .returned (.agg #[.int .u8 kd, .int .i64 q1, .int .i64 q2, .int .i64 q3, .int .i64 q4, .int .i64 q5, .int .i64 q6, .int .i64 q7, .slice sl n c])) ∧ RDid b B (rRequest (rs B k bad)) w w'

set_option maxRecDepth 100000 in
set_option maxHeartbeats 1000000 in
theorem request_bad (b : Nat) (B : ByteArray) (k : Nat) (bad : Bool) (w : World) (h : RR b B k bad w) (hkx : (rAmong (txt ⟨#[105, 103, 98, 99, 109, 114, 108, 117, 100]⟩) 0 (rs B k bad)).2 = 0) (hb1 : (rAmong (txt ⟨#[105, 103, 98, 99, 109, 114, 108, 117, 100]⟩) 0 (rs B k bad)).1.bad = true) :
    Calls Try.prog 11 #[.pointer (some ⟨b, 0, none⟩)] w fun e w' => ReqPost b B k bad w e w' := by
  have hb := h.hb
  have n0 : w.heap.size ≠ b := by omega
  have HK := hide hkx
  have HB := hide hb1
  clear hkx hb1
  go_enter Try.func11, Try.ntmps11
  go_wp2_with fail
  refine (among_any b B k bad _ _ (h.alloc _) (by decide)).mono ?_
  rintro e w1 ⟨rfl, k1, bad1, he1, hr1, hk1⟩
  have hkk := HK.out
  generalize (rAmong (txt ⟨#[105, 103, 98, 99, 109, 114, 108, 117, 100]⟩) 0 (rs B k bad)).2 = kx at hkk ⊢
  subst hkk
  have hbd1 : bad1 = true := by
    have e1 := HB.out
    rw [he1] at e1; exact e1
  clear HB
  subst hbd1
  have bo1 : Box w.heap.size [Value.int .u8 0, Value.int .i64 0, Value.int .i64 0, Value.int .i64 0, Value.int .i64 0, Value.int .i64 0, Value.int .i64 0, Value.int .i64 0, Value.slice none 0 0] w1 := (Box.new w _ 46).kp hk1 n0
  have K1 : Kp b w w1 := ((Kp.refl _ _).alloc _).trans hk1
  have HE1 := hide he1
  have hb1 := hr1.hb
  have hs1 : w.heap.size < w1.heap.size := bo1.lt
  have n1 : w1.heap.size ≠ b := by omega
  have n01 : w1.heap.size ≠ w.heap.size := by omega
  have l1 : w.heap.size ≤ w1.heap.size := by omega
  clear he1 hk1
  have c2 := hr1.c2
  have bt1 : Box w1.heap.size [Value.int .u8 (((⟨#[105, 103, 98, 99, 109, 114, 108, 117, 100]⟩ : ByteArray)[0]'(by decide)).toNat : Int), Value.int .i64 0, Value.int .i64 0, Value.int .i64 0, Value.int .i64 0, Value.int .i64 0, Value.int .i64 0, Value.int .i64 0, Value.slice none 0 0] (w1.alloc (.cells #[Value.int .u8 (((⟨#[105, 103, 98, 99, 109, 114, 108, 117, 100]⟩ : ByteArray)[0]'(by decide)).toNat : Int), Value.int .i64 0, Value.int .i64 0, Value.int .i64 0, Value.int .i64 0, Value.int .i64 0, Value.int .i64 0, Value.int .i64 0, Value.slice none 0 0] 46)) := Box.new w1 _ 46
  have po0 := bo1.cell 0 _ rfl
  have qo0 := bo1.froz 0
  have po1 := bo1.cell 1 _ rfl
  have qo1 := bo1.froz 1
  have po2 := bo1.cell 2 _ rfl
  have qo2 := bo1.froz 2
  have po3 := bo1.cell 3 _ rfl
  have qo3 := bo1.froz 3
  have po4 := bo1.cell 4 _ rfl
  have qo4 := bo1.froz 4
  have po5 := bo1.cell 5 _ rfl
  have qo5 := bo1.froz 5
  have po6 := bo1.cell 6 _ rfl
  have qo6 := bo1.froz 6
  have po7 := bo1.cell 7 _ rfl
  have qo7 := bo1.froz 7
  have po8 := bo1.cell 8 _ rfl
  have qo8 := bo1.froz 8
  go_wp2
  exact bodyPost_ret (v := .agg #[.int .u8 (((⟨#[105, 103, 98, 99, 109, 114, 108, 117, 100]⟩ : ByteArray)[0]'(by decide)).toNat : Int), .int .i64 0, .int .i64 0, .int .i64 0, .int .i64 0, .int .i64 0, .int .i64 0, .int .i64 0, .slice none 0 0]) (by simp [results, Try.results11, go_sem, hs1, po0, po1, po2, po3, po4, po5, po6, po7, po8]) rfl ⟨⟨_, _, _, _, _, _, _, _, _, _, _, rfl⟩, k1, _, req_bad HE1.out rfl, ((((((((((hr1.set _ _ _ n0).set _ _ _ n0).set _ _ _ n0).set _ _ _ n0).set _ _ _ n0).set _ _ _ n0).set _ _ _ n0).set _ _ _ n0).set _ _ _ n0).alloc _), ((((((((((K1.store _ _ _ (Nat.le_refl _)).store _ _ _ (Nat.le_refl _)).store _ _ _ (Nat.le_refl _)).store _ _ _ (Nat.le_refl _)).store _ _ _ (Nat.le_refl _)).store _ _ _ (Nat.le_refl _)).store _ _ _ (Nat.le_refl _)).store _ _ _ (Nat.le_refl _)).store _ _ _ (Nat.le_refl _)).alloc _)⟩

set_option maxRecDepth 100000 in
set_option maxHeartbeats 1000000 in
theorem request_k5 (b : Nat) (B : ByteArray) (k : Nat) (bad : Bool) (w : World) (h : RR b B k bad w) (hkx : (rAmong (txt ⟨#[105, 103, 98, 99, 109, 114, 108, 117, 100]⟩) 0 (rs B k bad)).2 = 5) (hb1 : (rAmong (txt ⟨#[105, 103, 98, 99, 109, 114, 108, 117, 100]⟩) 0 (rs B k bad)).1.bad = false) :
    Calls Try.prog 11 #[.pointer (some ⟨b, 0, none⟩)] w fun e w' => ReqPost b B k bad w e w' := by
  have hb := h.hb
  have n0 : w.heap.size ≠ b := by omega
  have HK := hide hkx
  have HB := hide hb1
  clear hkx hb1
  go_enter Try.func11, Try.ntmps11
  go_wp2_with fail
  refine (among_any b B k bad _ _ (h.alloc _) (by decide)).mono ?_
  rintro e w1 ⟨rfl, k1, bad1, he1, hr1, hk1⟩
  have hkk := HK.out
  generalize (rAmong (txt ⟨#[105, 103, 98, 99, 109, 114, 108, 117, 100]⟩) 0 (rs B k bad)).2 = kx at hkk ⊢
  subst hkk
  have hbd1 : bad1 = false := by
    have e1 := HB.out
    rw [he1] at e1; exact e1
  clear HB
  subst hbd1
  have bo1 : Box w.heap.size [Value.int .u8 0, Value.int .i64 0, Value.int .i64 0, Value.int .i64 0, Value.int .i64 0, Value.int .i64 0, Value.int .i64 0, Value.int .i64 0, Value.slice none 0 0] w1 := (Box.new w _ 46).kp hk1 n0
  have K1 : Kp b w w1 := ((Kp.refl _ _).alloc _).trans hk1
  have HE1 := hide he1
  have hb1 := hr1.hb
  have hs1 : w.heap.size < w1.heap.size := bo1.lt
  have n1 : w1.heap.size ≠ b := by omega
  have n01 : w1.heap.size ≠ w.heap.size := by omega
  have l1 : w.heap.size ≤ w1.heap.size := by omega
  clear he1 hk1
  have c2 := hr1.c2
  go_wp2_with fail
  refine (version_any b B k1 false _ (hr1.alloc _)).mono ?_
  rintro e w2 ⟨⟨v2, rfl⟩, k2, bad2, he2, hr2, hk2⟩
  have bo2 := (bo1.alloc _).kp hk2 n0
  have bt2 : Box w1.heap.size [Value.int .u8 (((⟨#[105, 103, 98, 99, 109, 114, 108, 117, 100]⟩ : ByteArray)[5]'(by decide)).toNat : Int), Value.int .i64 0, Value.int .i64 0, Value.int .i64 0, Value.int .i64 0, Value.int .i64 0, Value.int .i64 0, Value.int .i64 0, Value.slice none 0 0] w2 := Box.kp (Box.new w1 _ 46) hk2 n1
  have K2 := (K1.alloc _).trans hk2
  clear bo1 K1 hr1 c2
  have HE2 := hide he2
  clear he2 hk2
  have pt0 := bt2.cell 0 _ rfl
  have po0 := bo2.cell 0 _ rfl
  have qo0 := bo2.froz 0
  have pt1 := bt2.cell 1 _ rfl
  have po1 := bo2.cell 1 _ rfl
  have qo1 := bo2.froz 1
  have pt2 := bt2.cell 2 _ rfl
  have po2 := bo2.cell 2 _ rfl
  have qo2 := bo2.froz 2
  have pt3 := bt2.cell 3 _ rfl
  have po3 := bo2.cell 3 _ rfl
  have qo3 := bo2.froz 3
  have pt4 := bt2.cell 4 _ rfl
  have po4 := bo2.cell 4 _ rfl
  have qo4 := bo2.froz 4
  have pt5 := bt2.cell 5 _ rfl
  have po5 := bo2.cell 5 _ rfl
  have qo5 := bo2.froz 5
  have pt6 := bt2.cell 6 _ rfl
  have po6 := bo2.cell 6 _ rfl
  have qo6 := bo2.froz 6
  have pt7 := bt2.cell 7 _ rfl
  have po7 := bo2.cell 7 _ rfl
  have qo7 := bo2.froz 7
  have pt8 := bt2.cell 8 _ rfl
  have po8 := bo2.cell 8 _ rfl
  have qo8 := bo2.froz 8
  have qt := bt2.froz 1
  go_wp2
  exact bodyPost_ret (v := .agg #[.int .u8 114, .int .i64 v2, .int .i64 0, .int .i64 0, .int .i64 0, .int .i64 0, .int .i64 0, .int .i64 0, .slice none 0 0]) (by simp [results, Try.results11, go_sem, po0, po1, po2, po3, po4, po5, po6, po7, po8]) rfl ⟨⟨_, _, _, _, _, _, _, _, _, _, _, rfl⟩, k2, _, (req_u HE1.out HK.out rfl (by decide)).trans HE2.out, ((((((((((hr2.set _ _ _ n1).set _ _ _ n0).set _ _ _ n0).set _ _ _ n0).set _ _ _ n0).set _ _ _ n0).set _ _ _ n0).set _ _ _ n0).set _ _ _ n0).set _ _ _ n0), ((((((((((K2.store _ _ _ l1).store _ _ _ (Nat.le_refl _)).store _ _ _ (Nat.le_refl _)).store _ _ _ (Nat.le_refl _)).store _ _ _ (Nat.le_refl _)).store _ _ _ (Nat.le_refl _)).store _ _ _ (Nat.le_refl _)).store _ _ _ (Nat.le_refl _)).store _ _ _ (Nat.le_refl _)).store _ _ _ (Nat.le_refl _))⟩

set_option maxRecDepth 100000 in
set_option maxHeartbeats 1000000 in
theorem request_k6 (b : Nat) (B : ByteArray) (k : Nat) (bad : Bool) (w : World) (h : RR b B k bad w) (hkx : (rAmong (txt ⟨#[105, 103, 98, 99, 109, 114, 108, 117, 100]⟩) 0 (rs B k bad)).2 = 6) (hb1 : (rAmong (txt ⟨#[105, 103, 98, 99, 109, 114, 108, 117, 100]⟩) 0 (rs B k bad)).1.bad = false) :
    Calls Try.prog 11 #[.pointer (some ⟨b, 0, none⟩)] w fun e w' => ReqPost b B k bad w e w' := by
  have hb := h.hb
  have n0 : w.heap.size ≠ b := by omega
  have HK := hide hkx
  have HB := hide hb1
  clear hkx hb1
  go_enter Try.func11, Try.ntmps11
  go_wp2_with fail
  refine (among_any b B k bad _ _ (h.alloc _) (by decide)).mono ?_
  rintro e w1 ⟨rfl, k1, bad1, he1, hr1, hk1⟩
  have hkk := HK.out
  generalize (rAmong (txt ⟨#[105, 103, 98, 99, 109, 114, 108, 117, 100]⟩) 0 (rs B k bad)).2 = kx at hkk ⊢
  subst hkk
  have hbd1 : bad1 = false := by
    have e1 := HB.out
    rw [he1] at e1; exact e1
  clear HB
  subst hbd1
  have bo1 : Box w.heap.size [Value.int .u8 0, Value.int .i64 0, Value.int .i64 0, Value.int .i64 0, Value.int .i64 0, Value.int .i64 0, Value.int .i64 0, Value.int .i64 0, Value.slice none 0 0] w1 := (Box.new w _ 46).kp hk1 n0
  have K1 : Kp b w w1 := ((Kp.refl _ _).alloc _).trans hk1
  have HE1 := hide he1
  have hb1 := hr1.hb
  have hs1 : w.heap.size < w1.heap.size := bo1.lt
  have n1 : w1.heap.size ≠ b := by omega
  have n01 : w1.heap.size ≠ w.heap.size := by omega
  have l1 : w.heap.size ≤ w1.heap.size := by omega
  clear he1 hk1
  have c2 := hr1.c2
  go_wp2_with fail
  refine (version_any b B k1 false _ (hr1.alloc _)).mono ?_
  rintro e w2 ⟨⟨v2, rfl⟩, k2, bad2, he2, hr2, hk2⟩
  have bo2 := (bo1.alloc _).kp hk2 n0
  have bt2 : Box w1.heap.size [Value.int .u8 (((⟨#[105, 103, 98, 99, 109, 114, 108, 117, 100]⟩ : ByteArray)[6]'(by decide)).toNat : Int), Value.int .i64 0, Value.int .i64 0, Value.int .i64 0, Value.int .i64 0, Value.int .i64 0, Value.int .i64 0, Value.int .i64 0, Value.slice none 0 0] w2 := Box.kp (Box.new w1 _ 46) hk2 n1
  have K2 := (K1.alloc _).trans hk2
  clear bo1 K1 hr1 c2
  have HE2 := hide he2
  clear he2 hk2
  have pt0 := bt2.cell 0 _ rfl
  have po0 := bo2.cell 0 _ rfl
  have qo0 := bo2.froz 0
  have pt1 := bt2.cell 1 _ rfl
  have po1 := bo2.cell 1 _ rfl
  have qo1 := bo2.froz 1
  have pt2 := bt2.cell 2 _ rfl
  have po2 := bo2.cell 2 _ rfl
  have qo2 := bo2.froz 2
  have pt3 := bt2.cell 3 _ rfl
  have po3 := bo2.cell 3 _ rfl
  have qo3 := bo2.froz 3
  have pt4 := bt2.cell 4 _ rfl
  have po4 := bo2.cell 4 _ rfl
  have qo4 := bo2.froz 4
  have pt5 := bt2.cell 5 _ rfl
  have po5 := bo2.cell 5 _ rfl
  have qo5 := bo2.froz 5
  have pt6 := bt2.cell 6 _ rfl
  have po6 := bo2.cell 6 _ rfl
  have qo6 := bo2.froz 6
  have pt7 := bt2.cell 7 _ rfl
  have po7 := bo2.cell 7 _ rfl
  have qo7 := bo2.froz 7
  have pt8 := bt2.cell 8 _ rfl
  have po8 := bo2.cell 8 _ rfl
  have qo8 := bo2.froz 8
  have qt := bt2.froz 1
  go_wp2
  exact bodyPost_ret (v := .agg #[.int .u8 108, .int .i64 v2, .int .i64 0, .int .i64 0, .int .i64 0, .int .i64 0, .int .i64 0, .int .i64 0, .slice none 0 0]) (by simp [results, Try.results11, go_sem, po0, po1, po2, po3, po4, po5, po6, po7, po8]) rfl ⟨⟨_, _, _, _, _, _, _, _, _, _, _, rfl⟩, k2, _, (req_u HE1.out HK.out rfl (by decide)).trans HE2.out, ((((((((((hr2.set _ _ _ n1).set _ _ _ n0).set _ _ _ n0).set _ _ _ n0).set _ _ _ n0).set _ _ _ n0).set _ _ _ n0).set _ _ _ n0).set _ _ _ n0).set _ _ _ n0), ((((((((((K2.store _ _ _ l1).store _ _ _ (Nat.le_refl _)).store _ _ _ (Nat.le_refl _)).store _ _ _ (Nat.le_refl _)).store _ _ _ (Nat.le_refl _)).store _ _ _ (Nat.le_refl _)).store _ _ _ (Nat.le_refl _)).store _ _ _ (Nat.le_refl _)).store _ _ _ (Nat.le_refl _)).store _ _ _ (Nat.le_refl _))⟩

set_option maxRecDepth 100000 in
set_option maxHeartbeats 1000000 in
theorem request_k7 (b : Nat) (B : ByteArray) (k : Nat) (bad : Bool) (w : World) (h : RR b B k bad w) (hkx : (rAmong (txt ⟨#[105, 103, 98, 99, 109, 114, 108, 117, 100]⟩) 0 (rs B k bad)).2 = 7) (hb1 : (rAmong (txt ⟨#[105, 103, 98, 99, 109, 114, 108, 117, 100]⟩) 0 (rs B k bad)).1.bad = false) :
    Calls Try.prog 11 #[.pointer (some ⟨b, 0, none⟩)] w fun e w' => ReqPost b B k bad w e w' := by
  have hb := h.hb
  have n0 : w.heap.size ≠ b := by omega
  have HK := hide hkx
  have HB := hide hb1
  clear hkx hb1
  go_enter Try.func11, Try.ntmps11
  go_wp2_with fail
  refine (among_any b B k bad _ _ (h.alloc _) (by decide)).mono ?_
  rintro e w1 ⟨rfl, k1, bad1, he1, hr1, hk1⟩
  have hkk := HK.out
  generalize (rAmong (txt ⟨#[105, 103, 98, 99, 109, 114, 108, 117, 100]⟩) 0 (rs B k bad)).2 = kx at hkk ⊢
  subst hkk
  have hbd1 : bad1 = false := by
    have e1 := HB.out
    rw [he1] at e1; exact e1
  clear HB
  subst hbd1
  have bo1 : Box w.heap.size [Value.int .u8 0, Value.int .i64 0, Value.int .i64 0, Value.int .i64 0, Value.int .i64 0, Value.int .i64 0, Value.int .i64 0, Value.int .i64 0, Value.slice none 0 0] w1 := (Box.new w _ 46).kp hk1 n0
  have K1 : Kp b w w1 := ((Kp.refl _ _).alloc _).trans hk1
  have HE1 := hide he1
  have hb1 := hr1.hb
  have hs1 : w.heap.size < w1.heap.size := bo1.lt
  have n1 : w1.heap.size ≠ b := by omega
  have n01 : w1.heap.size ≠ w.heap.size := by omega
  have l1 : w.heap.size ≤ w1.heap.size := by omega
  clear he1 hk1
  have c2 := hr1.c2
  go_wp2_with fail
  refine (version_any b B k1 false _ (hr1.alloc _)).mono ?_
  rintro e w2 ⟨⟨v2, rfl⟩, k2, bad2, he2, hr2, hk2⟩
  have bo2 := (bo1.alloc _).kp hk2 n0
  have bt2 : Box w1.heap.size [Value.int .u8 (((⟨#[105, 103, 98, 99, 109, 114, 108, 117, 100]⟩ : ByteArray)[7]'(by decide)).toNat : Int), Value.int .i64 0, Value.int .i64 0, Value.int .i64 0, Value.int .i64 0, Value.int .i64 0, Value.int .i64 0, Value.int .i64 0, Value.slice none 0 0] w2 := Box.kp (Box.new w1 _ 46) hk2 n1
  have K2 := (K1.alloc _).trans hk2
  clear bo1 K1 hr1 c2
  have HE2 := hide he2
  clear he2 hk2
  have pt0 := bt2.cell 0 _ rfl
  have po0 := bo2.cell 0 _ rfl
  have qo0 := bo2.froz 0
  have pt1 := bt2.cell 1 _ rfl
  have po1 := bo2.cell 1 _ rfl
  have qo1 := bo2.froz 1
  have pt2 := bt2.cell 2 _ rfl
  have po2 := bo2.cell 2 _ rfl
  have qo2 := bo2.froz 2
  have pt3 := bt2.cell 3 _ rfl
  have po3 := bo2.cell 3 _ rfl
  have qo3 := bo2.froz 3
  have pt4 := bt2.cell 4 _ rfl
  have po4 := bo2.cell 4 _ rfl
  have qo4 := bo2.froz 4
  have pt5 := bt2.cell 5 _ rfl
  have po5 := bo2.cell 5 _ rfl
  have qo5 := bo2.froz 5
  have pt6 := bt2.cell 6 _ rfl
  have po6 := bo2.cell 6 _ rfl
  have qo6 := bo2.froz 6
  have pt7 := bt2.cell 7 _ rfl
  have po7 := bo2.cell 7 _ rfl
  have qo7 := bo2.froz 7
  have pt8 := bt2.cell 8 _ rfl
  have po8 := bo2.cell 8 _ rfl
  have qo8 := bo2.froz 8
  have qt := bt2.froz 1
  go_wp2
  exact bodyPost_ret (v := .agg #[.int .u8 (((⟨#[105, 103, 98, 99, 109, 114, 108, 117, 100]⟩ : ByteArray)[7]'(by decide)).toNat : Int), .int .i64 v2, .int .i64 0, .int .i64 0, .int .i64 0, .int .i64 0, .int .i64 0, .int .i64 0, .slice none 0 0]) (by simp [results, Try.results11, go_sem, po0, po1, po2, po3, po4, po5, po6, po7, po8]) rfl ⟨⟨_, _, _, _, _, _, _, _, _, _, _, rfl⟩, k2, _, (req_u HE1.out HK.out rfl (by decide)).trans HE2.out, ((((((((((hr2.set _ _ _ n1).set _ _ _ n0).set _ _ _ n0).set _ _ _ n0).set _ _ _ n0).set _ _ _ n0).set _ _ _ n0).set _ _ _ n0).set _ _ _ n0).set _ _ _ n0), ((((((((((K2.store _ _ _ l1).store _ _ _ (Nat.le_refl _)).store _ _ _ (Nat.le_refl _)).store _ _ _ (Nat.le_refl _)).store _ _ _ (Nat.le_refl _)).store _ _ _ (Nat.le_refl _)).store _ _ _ (Nat.le_refl _)).store _ _ _ (Nat.le_refl _)).store _ _ _ (Nat.le_refl _)).store _ _ _ (Nat.le_refl _))⟩

set_option maxRecDepth 100000 in
set_option maxHeartbeats 1000000 in
theorem request_k8 (b : Nat) (B : ByteArray) (k : Nat) (bad : Bool) (w : World) (h : RR b B k bad w) (hkx : (rAmong (txt ⟨#[105, 103, 98, 99, 109, 114, 108, 117, 100]⟩) 0 (rs B k bad)).2 = 8) (hb1 : (rAmong (txt ⟨#[105, 103, 98, 99, 109, 114, 108, 117, 100]⟩) 0 (rs B k bad)).1.bad = false) :
    Calls Try.prog 11 #[.pointer (some ⟨b, 0, none⟩)] w fun e w' => ReqPost b B k bad w e w' := by
  have hb := h.hb
  have n0 : w.heap.size ≠ b := by omega
  have HK := hide hkx
  have HB := hide hb1
  clear hkx hb1
  go_enter Try.func11, Try.ntmps11
  go_wp2_with fail
  refine (among_any b B k bad _ _ (h.alloc _) (by decide)).mono ?_
  rintro e w1 ⟨rfl, k1, bad1, he1, hr1, hk1⟩
  have hkk := HK.out
  generalize (rAmong (txt ⟨#[105, 103, 98, 99, 109, 114, 108, 117, 100]⟩) 0 (rs B k bad)).2 = kx at hkk ⊢
  subst hkk
  have hbd1 : bad1 = false := by
    have e1 := HB.out
    rw [he1] at e1; exact e1
  clear HB
  subst hbd1
  have bo1 : Box w.heap.size [Value.int .u8 0, Value.int .i64 0, Value.int .i64 0, Value.int .i64 0, Value.int .i64 0, Value.int .i64 0, Value.int .i64 0, Value.int .i64 0, Value.slice none 0 0] w1 := (Box.new w _ 46).kp hk1 n0
  have K1 : Kp b w w1 := ((Kp.refl _ _).alloc _).trans hk1
  have HE1 := hide he1
  have hb1 := hr1.hb
  have hs1 : w.heap.size < w1.heap.size := bo1.lt
  have n1 : w1.heap.size ≠ b := by omega
  have n01 : w1.heap.size ≠ w.heap.size := by omega
  have l1 : w.heap.size ≤ w1.heap.size := by omega
  clear he1 hk1
  have c2 := hr1.c2
  go_wp2_with fail
  refine (version_any b B k1 false _ (hr1.alloc _)).mono ?_
  rintro e w2 ⟨⟨v2, rfl⟩, k2, bad2, he2, hr2, hk2⟩
  have bo2 := (bo1.alloc _).kp hk2 n0
  have bt2 : Box w1.heap.size [Value.int .u8 (((⟨#[105, 103, 98, 99, 109, 114, 108, 117, 100]⟩ : ByteArray)[8]'(by decide)).toNat : Int), Value.int .i64 0, Value.int .i64 0, Value.int .i64 0, Value.int .i64 0, Value.int .i64 0, Value.int .i64 0, Value.int .i64 0, Value.slice none 0 0] w2 := Box.kp (Box.new w1 _ 46) hk2 n1
  have K2 := (K1.alloc _).trans hk2
  clear bo1 K1 hr1 c2
  have HE2 := hide he2
  clear he2 hk2
  have p2 := bt2.cell 1 _ rfl
  have q2 := bt2.froz 1
  have pk := bt2.cell 0 _ rfl
  go_wp2_with fail
  refine (rtake_any b B k2 bad2 _ _ (hr2.set _ _ _ n1) (by decide)).mono ?_
  rintro e w3 ⟨rfl, k3, bad3, he3, hr3, hk3⟩
  have bo3 := (bo2.far _ _ _ n01).kp hk3 n0
  have bt3 := (bt2.put 1 _).kp hk3 n1
  have K3 := (K2.store _ _ _ l1).trans hk3
  clear bo2 bt2 K2 hr2 p2 q2
  have HE3 := hide he3
  clear he3 hk3
  clear pk
  have pk := bt3.cell 0 _ rfl
  go_wp2_with fail
  refine (version_any b B k3 bad3 _ hr3).mono ?_
  rintro e w4 ⟨⟨v4, rfl⟩, k4, bad4, he4, hr4, hk4⟩
  have bo4 := bo3.kp hk4 n0
  have bt4 := bt3.kp hk4 n1
  have K4 := K3.trans hk4
  clear bo3 bt3 K3 hr3
  have HE4 := hide he4
  clear he4 hk4
  clear pk
  have pt0 := bt4.cell 0 _ rfl
  have po0 := bo4.cell 0 _ rfl
  have qo0 := bo4.froz 0
  have pt1 := bt4.cell 1 _ rfl
  have po1 := bo4.cell 1 _ rfl
  have qo1 := bo4.froz 1
  have pt2 := bt4.cell 2 _ rfl
  have po2 := bo4.cell 2 _ rfl
  have qo2 := bo4.froz 2
  have pt3 := bt4.cell 3 _ rfl
  have po3 := bo4.cell 3 _ rfl
  have qo3 := bo4.froz 3
  have pt4 := bt4.cell 4 _ rfl
  have po4 := bo4.cell 4 _ rfl
  have qo4 := bo4.froz 4
  have pt5 := bt4.cell 5 _ rfl
  have po5 := bo4.cell 5 _ rfl
  have qo5 := bo4.froz 5
  have pt6 := bt4.cell 6 _ rfl
  have po6 := bo4.cell 6 _ rfl
  have qo6 := bo4.froz 6
  have pt7 := bt4.cell 7 _ rfl
  have po7 := bo4.cell 7 _ rfl
  have qo7 := bo4.froz 7
  have pt8 := bt4.cell 8 _ rfl
  have po8 := bo4.cell 8 _ rfl
  have qo8 := bo4.froz 8
  have qt := bt4.froz 2
  go_wp2
  exact bodyPost_ret (v := .agg #[.int .u8 (((⟨#[105, 103, 98, 99, 109, 114, 108, 117, 100]⟩ : ByteArray)[8]'(by decide)).toNat : Int), .int .i64 v2, .int .i64 v4, .int .i64 0, .int .i64 0, .int .i64 0, .int .i64 0, .int .i64 0, .slice none 0 0]) (by simp [results, Try.results11, go_sem, po0, po1, po2, po3, po4, po5, po6, po7, po8]) rfl ⟨⟨_, _, _, _, _, _, _, _, _, _, _, rfl⟩, k4, _, (req_8 HE1.out HK.out rfl).trans (ch_ver HE2.out HE3.out HE4.out), ((((((((((hr4.set _ _ _ n1).set _ _ _ n0).set _ _ _ n0).set _ _ _ n0).set _ _ _ n0).set _ _ _ n0).set _ _ _ n0).set _ _ _ n0).set _ _ _ n0).set _ _ _ n0), ((((((((((K4.store _ _ _ l1).store _ _ _ (Nat.le_refl _)).store _ _ _ (Nat.le_refl _)).store _ _ _ (Nat.le_refl _)).store _ _ _ (Nat.le_refl _)).store _ _ _ (Nat.le_refl _)).store _ _ _ (Nat.le_refl _)).store _ _ _ (Nat.le_refl _)).store _ _ _ (Nat.le_refl _)).store _ _ _ (Nat.le_refl _))⟩

set_option maxRecDepth 100000 in
set_option maxHeartbeats 1000000 in
theorem request_k1 (b : Nat) (B : ByteArray) (k : Nat) (bad : Bool) (w : World) (h : RR b B k bad w) (hkx : (rAmong (txt ⟨#[105, 103, 98, 99, 109, 114, 108, 117, 100]⟩) 0 (rs B k bad)).2 = 1) (hb1 : (rAmong (txt ⟨#[105, 103, 98, 99, 109, 114, 108, 117, 100]⟩) 0 (rs B k bad)).1.bad = false) :
    Calls Try.prog 11 #[.pointer (some ⟨b, 0, none⟩)] w fun e w' => ReqPost b B k bad w e w' := by
  have hb := h.hb
  have n0 : w.heap.size ≠ b := by omega
  have HK := hide hkx
  have HB := hide hb1
  clear hkx hb1
  go_enter Try.func11, Try.ntmps11
  go_wp2_with fail
  refine (among_any b B k bad _ _ (h.alloc _) (by decide)).mono ?_
  rintro e w1 ⟨rfl, k1, bad1, he1, hr1, hk1⟩
  have hkk := HK.out
  generalize (rAmong (txt ⟨#[105, 103, 98, 99, 109, 114, 108, 117, 100]⟩) 0 (rs B k bad)).2 = kx at hkk ⊢
  subst hkk
  have hbd1 : bad1 = false := by
    have e1 := HB.out
    rw [he1] at e1; exact e1
  clear HB
  subst hbd1
  have bo1 : Box w.heap.size [Value.int .u8 0, Value.int .i64 0, Value.int .i64 0, Value.int .i64 0, Value.int .i64 0, Value.int .i64 0, Value.int .i64 0, Value.int .i64 0, Value.slice none 0 0] w1 := (Box.new w _ 46).kp hk1 n0
  have K1 : Kp b w w1 := ((Kp.refl _ _).alloc _).trans hk1
  have HE1 := hide he1
  have hb1 := hr1.hb
  have hs1 : w.heap.size < w1.heap.size := bo1.lt
  have n1 : w1.heap.size ≠ b := by omega
  have n01 : w1.heap.size ≠ w.heap.size := by omega
  have l1 : w.heap.size ≤ w1.heap.size := by omega
  clear he1 hk1
  have c2 := hr1.c2
  go_wp2_with fail
  refine (version_any b B k1 false _ (hr1.alloc _)).mono ?_
  rintro e w2 ⟨⟨v2, rfl⟩, k2, bad2, he2, hr2, hk2⟩
  have bo2 := (bo1.alloc _).kp hk2 n0
  have bt2 : Box w1.heap.size [Value.int .u8 (((⟨#[105, 103, 98, 99, 109, 114, 108, 117, 100]⟩ : ByteArray)[1]'(by decide)).toNat : Int), Value.int .i64 0, Value.int .i64 0, Value.int .i64 0, Value.int .i64 0, Value.int .i64 0, Value.int .i64 0, Value.int .i64 0, Value.slice none 0 0] w2 := Box.kp (Box.new w1 _ 46) hk2 n1
  have K2 := (K1.alloc _).trans hk2
  clear bo1 K1 hr1 c2
  have HE2 := hide he2
  clear he2 hk2
  have p2 := bt2.cell 1 _ rfl
  have q2 := bt2.froz 1
  have pk := bt2.cell 0 _ rfl
  go_wp2_with fail
  refine (rtake_any b B k2 bad2 _ _ (hr2.set _ _ _ n1) (by decide)).mono ?_
  rintro e w3 ⟨rfl, k3, bad3, he3, hr3, hk3⟩
  have bo3 := (bo2.far _ _ _ n01).kp hk3 n0
  have bt3 := (bt2.put 1 _).kp hk3 n1
  have K3 := (K2.store _ _ _ l1).trans hk3
  clear bo2 bt2 K2 hr2 p2 q2
  have HE3 := hide he3
  clear he3 hk3
  clear pk
  have pk := bt3.cell 0 _ rfl
  go_wp2_with fail
  refine (account_any b B k3 bad3 _ hr3).mono ?_
  rintro e w4 ⟨⟨v4, rfl⟩, k4, bad4, he4, hr4, hk4⟩
  have bo4 := bo3.kp hk4 n0
  have bt4 := bt3.kp hk4 n1
  have K4 := K3.trans hk4
  clear bo3 bt3 K3 hr3
  have HE4 := hide he4
  clear he4 hk4
  clear pk
  have p4 := bt4.cell 3 _ rfl
  have q4 := bt4.froz 3
  have pk := bt4.cell 0 _ rfl
  go_wp2_with fail
  refine (among_any b B k4 bad4 _ _ (hr4.set _ _ _ n1) (by decide)).mono ?_
  rintro e w5 ⟨rfl, k5, bad5, he5, hr5, hk5⟩
  have bo5 := (bo4.far _ _ _ n01).kp hk5 n0
  have bt5 := (bt4.put 3 _).kp hk5 n1
  have K5 := (K4.store _ _ _ l1).trans hk5
  clear bo4 bt4 K4 hr4 p4 q4
  have HE5 := hide he5
  clear he5 hk5
  clear pk
  generalize (rAmong (txt ⟨#[48, 49, 50, 51, 52, 53, 54, 55, 56, 57, 97, 98, 99, 100, 101, 102]⟩) 0 (rs B k4 bad4)).2 = v5
  have pt0 := bt5.cell 0 _ rfl
  have po0 := bo5.cell 0 _ rfl
  have qo0 := bo5.froz 0
  have pt1 := bt5.cell 1 _ rfl
  have po1 := bo5.cell 1 _ rfl
  have qo1 := bo5.froz 1
  have pt2 := bt5.cell 2 _ rfl
  have po2 := bo5.cell 2 _ rfl
  have qo2 := bo5.froz 2
  have pt3 := bt5.cell 3 _ rfl
  have po3 := bo5.cell 3 _ rfl
  have qo3 := bo5.froz 3
  have pt4 := bt5.cell 4 _ rfl
  have po4 := bo5.cell 4 _ rfl
  have qo4 := bo5.froz 4
  have pt5 := bt5.cell 5 _ rfl
  have po5 := bo5.cell 5 _ rfl
  have qo5 := bo5.froz 5
  have pt6 := bt5.cell 6 _ rfl
  have po6 := bo5.cell 6 _ rfl
  have qo6 := bo5.froz 6
  have pt7 := bt5.cell 7 _ rfl
  have po7 := bo5.cell 7 _ rfl
  have qo7 := bo5.froz 7
  have pt8 := bt5.cell 8 _ rfl
  have po8 := bo5.cell 8 _ rfl
  have qo8 := bo5.froz 8
  have qt := bt5.froz 5
  go_wp2
  exact bodyPost_ret (v := .agg #[.int .u8 (((⟨#[105, 103, 98, 99, 109, 114, 108, 117, 100]⟩ : ByteArray)[1]'(by decide)).toNat : Int), .int .i64 v2, .int .i64 0, .int .i64 v4, .int .i64 0, .int .i64 v5, .int .i64 0, .int .i64 0, .slice none 0 0]) (by simp [results, Try.results11, go_sem, po0, po1, po2, po3, po4, po5, po6, po7, po8]) rfl ⟨⟨_, _, _, _, _, _, _, _, _, _, _, rfl⟩, k5, _, (req_1 HE1.out HK.out rfl).trans (ch_hex HE2.out HE3.out HE4.out HE5.out), ((((((((((hr5.set _ _ _ n1).set _ _ _ n0).set _ _ _ n0).set _ _ _ n0).set _ _ _ n0).set _ _ _ n0).set _ _ _ n0).set _ _ _ n0).set _ _ _ n0).set _ _ _ n0), ((((((((((K5.store _ _ _ l1).store _ _ _ (Nat.le_refl _)).store _ _ _ (Nat.le_refl _)).store _ _ _ (Nat.le_refl _)).store _ _ _ (Nat.le_refl _)).store _ _ _ (Nat.le_refl _)).store _ _ _ (Nat.le_refl _)).store _ _ _ (Nat.le_refl _)).store _ _ _ (Nat.le_refl _)).store _ _ _ (Nat.le_refl _))⟩

set_option maxRecDepth 100000 in
set_option maxHeartbeats 1000000 in
theorem request_k2 (b : Nat) (B : ByteArray) (k : Nat) (bad : Bool) (w : World) (h : RR b B k bad w) (hkx : (rAmong (txt ⟨#[105, 103, 98, 99, 109, 114, 108, 117, 100]⟩) 0 (rs B k bad)).2 = 2) (hb1 : (rAmong (txt ⟨#[105, 103, 98, 99, 109, 114, 108, 117, 100]⟩) 0 (rs B k bad)).1.bad = false) :
    Calls Try.prog 11 #[.pointer (some ⟨b, 0, none⟩)] w fun e w' => ReqPost b B k bad w e w' := by
  have hb := h.hb
  have n0 : w.heap.size ≠ b := by omega
  have HK := hide hkx
  have HB := hide hb1
  clear hkx hb1
  go_enter Try.func11, Try.ntmps11
  go_wp2_with fail
  refine (among_any b B k bad _ _ (h.alloc _) (by decide)).mono ?_
  rintro e w1 ⟨rfl, k1, bad1, he1, hr1, hk1⟩
  have hkk := HK.out
  generalize (rAmong (txt ⟨#[105, 103, 98, 99, 109, 114, 108, 117, 100]⟩) 0 (rs B k bad)).2 = kx at hkk ⊢
  subst hkk
  have hbd1 : bad1 = false := by
    have e1 := HB.out
    rw [he1] at e1; exact e1
  clear HB
  subst hbd1
  have bo1 : Box w.heap.size [Value.int .u8 0, Value.int .i64 0, Value.int .i64 0, Value.int .i64 0, Value.int .i64 0, Value.int .i64 0, Value.int .i64 0, Value.int .i64 0, Value.slice none 0 0] w1 := (Box.new w _ 46).kp hk1 n0
  have K1 : Kp b w w1 := ((Kp.refl _ _).alloc _).trans hk1
  have HE1 := hide he1
  have hb1 := hr1.hb
  have hs1 : w.heap.size < w1.heap.size := bo1.lt
  have n1 : w1.heap.size ≠ b := by omega
  have n01 : w1.heap.size ≠ w.heap.size := by omega
  have l1 : w.heap.size ≤ w1.heap.size := by omega
  clear he1 hk1
  have c2 := hr1.c2
  go_wp2_with fail
  refine (version_any b B k1 false _ (hr1.alloc _)).mono ?_
  rintro e w2 ⟨⟨v2, rfl⟩, k2, bad2, he2, hr2, hk2⟩
  have bo2 := (bo1.alloc _).kp hk2 n0
  have bt2 : Box w1.heap.size [Value.int .u8 (((⟨#[105, 103, 98, 99, 109, 114, 108, 117, 100]⟩ : ByteArray)[2]'(by decide)).toNat : Int), Value.int .i64 0, Value.int .i64 0, Value.int .i64 0, Value.int .i64 0, Value.int .i64 0, Value.int .i64 0, Value.int .i64 0, Value.slice none 0 0] w2 := Box.kp (Box.new w1 _ 46) hk2 n1
  have K2 := (K1.alloc _).trans hk2
  clear bo1 K1 hr1 c2
  have HE2 := hide he2
  clear he2 hk2
  have p2 := bt2.cell 1 _ rfl
  have q2 := bt2.froz 1
  have pk := bt2.cell 0 _ rfl
  go_wp2_with fail
  refine (rtake_any b B k2 bad2 _ _ (hr2.set _ _ _ n1) (by decide)).mono ?_
  rintro e w3 ⟨rfl, k3, bad3, he3, hr3, hk3⟩
  have bo3 := (bo2.far _ _ _ n01).kp hk3 n0
  have bt3 := (bt2.put 1 _).kp hk3 n1
  have K3 := (K2.store _ _ _ l1).trans hk3
  clear bo2 bt2 K2 hr2 p2 q2
  have HE3 := hide he3
  clear he3 hk3
  clear pk
  have pk := bt3.cell 0 _ rfl
  go_wp2_with fail
  refine (account_any b B k3 bad3 _ hr3).mono ?_
  rintro e w4 ⟨⟨v4, rfl⟩, k4, bad4, he4, hr4, hk4⟩
  have bo4 := bo3.kp hk4 n0
  have bt4 := bt3.kp hk4 n1
  have K4 := K3.trans hk4
  clear bo3 bt3 K3 hr3
  have HE4 := hide he4
  clear he4 hk4
  clear pk
  have pt0 := bt4.cell 0 _ rfl
  have po0 := bo4.cell 0 _ rfl
  have qo0 := bo4.froz 0
  have pt1 := bt4.cell 1 _ rfl
  have po1 := bo4.cell 1 _ rfl
  have qo1 := bo4.froz 1
  have pt2 := bt4.cell 2 _ rfl
  have po2 := bo4.cell 2 _ rfl
  have qo2 := bo4.froz 2
  have pt3 := bt4.cell 3 _ rfl
  have po3 := bo4.cell 3 _ rfl
  have qo3 := bo4.froz 3
  have pt4 := bt4.cell 4 _ rfl
  have po4 := bo4.cell 4 _ rfl
  have qo4 := bo4.froz 4
  have pt5 := bt4.cell 5 _ rfl
  have po5 := bo4.cell 5 _ rfl
  have qo5 := bo4.froz 5
  have pt6 := bt4.cell 6 _ rfl
  have po6 := bo4.cell 6 _ rfl
  have qo6 := bo4.froz 6
  have pt7 := bt4.cell 7 _ rfl
  have po7 := bo4.cell 7 _ rfl
  have qo7 := bo4.froz 7
  have pt8 := bt4.cell 8 _ rfl
  have po8 := bo4.cell 8 _ rfl
  have qo8 := bo4.froz 8
  have qt := bt4.froz 3
  go_wp2
  exact bodyPost_ret (v := .agg #[.int .u8 (((⟨#[105, 103, 98, 99, 109, 114, 108, 117, 100]⟩ : ByteArray)[2]'(by decide)).toNat : Int), .int .i64 v2, .int .i64 0, .int .i64 v4, .int .i64 0, .int .i64 0, .int .i64 0, .int .i64 0, .slice none 0 0]) (by simp [results, Try.results11, go_sem, po0, po1, po2, po3, po4, po5, po6, po7, po8]) rfl ⟨⟨_, _, _, _, _, _, _, _, _, _, _, rfl⟩, k4, _, (req_2 HE1.out HK.out rfl).trans (ch_acc HE2.out HE3.out HE4.out), ((((((((((hr4.set _ _ _ n1).set _ _ _ n0).set _ _ _ n0).set _ _ _ n0).set _ _ _ n0).set _ _ _ n0).set _ _ _ n0).set _ _ _ n0).set _ _ _ n0).set _ _ _ n0), ((((((((((K4.store _ _ _ l1).store _ _ _ (Nat.le_refl _)).store _ _ _ (Nat.le_refl _)).store _ _ _ (Nat.le_refl _)).store _ _ _ (Nat.le_refl _)).store _ _ _ (Nat.le_refl _)).store _ _ _ (Nat.le_refl _)).store _ _ _ (Nat.le_refl _)).store _ _ _ (Nat.le_refl _)).store _ _ _ (Nat.le_refl _))⟩

set_option maxRecDepth 100000 in
set_option maxHeartbeats 1000000 in
theorem request_k3 (b : Nat) (B : ByteArray) (k : Nat) (bad : Bool) (w : World) (h : RR b B k bad w) (hkx : (rAmong (txt ⟨#[105, 103, 98, 99, 109, 114, 108, 117, 100]⟩) 0 (rs B k bad)).2 = 3) (hb1 : (rAmong (txt ⟨#[105, 103, 98, 99, 109, 114, 108, 117, 100]⟩) 0 (rs B k bad)).1.bad = false) :
    Calls Try.prog 11 #[.pointer (some ⟨b, 0, none⟩)] w fun e w' => ReqPost b B k bad w e w' := by
  have hb := h.hb
  have n0 : w.heap.size ≠ b := by omega
  have HK := hide hkx
  have HB := hide hb1
  clear hkx hb1
  go_enter Try.func11, Try.ntmps11
  go_wp2_with fail
  refine (among_any b B k bad _ _ (h.alloc _) (by decide)).mono ?_
  rintro e w1 ⟨rfl, k1, bad1, he1, hr1, hk1⟩
  have hkk := HK.out
  generalize (rAmong (txt ⟨#[105, 103, 98, 99, 109, 114, 108, 117, 100]⟩) 0 (rs B k bad)).2 = kx at hkk ⊢
  subst hkk
  have hbd1 : bad1 = false := by
    have e1 := HB.out
    rw [he1] at e1; exact e1
  clear HB
  subst hbd1
  have bo1 : Box w.heap.size [Value.int .u8 0, Value.int .i64 0, Value.int .i64 0, Value.int .i64 0, Value.int .i64 0, Value.int .i64 0, Value.int .i64 0, Value.int .i64 0, Value.slice none 0 0] w1 := (Box.new w _ 46).kp hk1 n0
  have K1 : Kp b w w1 := ((Kp.refl _ _).alloc _).trans hk1
  have HE1 := hide he1
  have hb1 := hr1.hb
  have hs1 : w.heap.size < w1.heap.size := bo1.lt
  have n1 : w1.heap.size ≠ b := by omega
  have n01 : w1.heap.size ≠ w.heap.size := by omega
  have l1 : w.heap.size ≤ w1.heap.size := by omega
  clear he1 hk1
  have c2 := hr1.c2
  go_wp2_with fail
  refine (version_any b B k1 false _ (hr1.alloc _)).mono ?_
  rintro e w2 ⟨⟨v2, rfl⟩, k2, bad2, he2, hr2, hk2⟩
  have bo2 := (bo1.alloc _).kp hk2 n0
  have bt2 : Box w1.heap.size [Value.int .u8 (((⟨#[105, 103, 98, 99, 109, 114, 108, 117, 100]⟩ : ByteArray)[3]'(by decide)).toNat : Int), Value.int .i64 0, Value.int .i64 0, Value.int .i64 0, Value.int .i64 0, Value.int .i64 0, Value.int .i64 0, Value.int .i64 0, Value.slice none 0 0] w2 := Box.kp (Box.new w1 _ 46) hk2 n1
  have K2 := (K1.alloc _).trans hk2
  clear bo1 K1 hr1 c2
  have HE2 := hide he2
  clear he2 hk2
  have p2 := bt2.cell 1 _ rfl
  have q2 := bt2.froz 1
  have pk := bt2.cell 0 _ rfl
  go_wp2_with fail
  refine (rtake_any b B k2 bad2 _ _ (hr2.set _ _ _ n1) (by decide)).mono ?_
  rintro e w3 ⟨rfl, k3, bad3, he3, hr3, hk3⟩
  have bo3 := (bo2.far _ _ _ n01).kp hk3 n0
  have bt3 := (bt2.put 1 _).kp hk3 n1
  have K3 := (K2.store _ _ _ l1).trans hk3
  clear bo2 bt2 K2 hr2 p2 q2
  have HE3 := hide he3
  clear he3 hk3
  clear pk
  have pk := bt3.cell 0 _ rfl
  go_wp2_with fail
  refine (account_any b B k3 bad3 _ hr3).mono ?_
  rintro e w4 ⟨⟨v4, rfl⟩, k4, bad4, he4, hr4, hk4⟩
  have bo4 := bo3.kp hk4 n0
  have bt4 := bt3.kp hk4 n1
  have K4 := K3.trans hk4
  clear bo3 bt3 K3 hr3
  have HE4 := hide he4
  clear he4 hk4
  clear pk
  have p4 := bt4.cell 3 _ rfl
  have q4 := bt4.froz 3
  have pk := bt4.cell 0 _ rfl
  go_wp2_with fail
  refine (rtake_any b B k4 bad4 _ _ (hr4.set _ _ _ n1) (by decide)).mono ?_
  rintro e w5 ⟨rfl, k5, bad5, he5, hr5, hk5⟩
  have bo5 := (bo4.far _ _ _ n01).kp hk5 n0
  have bt5 := (bt4.put 3 _).kp hk5 n1
  have K5 := (K4.store _ _ _ l1).trans hk5
  clear bo4 bt4 K4 hr4 p4 q4
  have HE5 := hide he5
  clear he5 hk5
  clear pk
  go_wp2_with fail
  refine (account_any b B k5 bad5 _ hr5).mono ?_
  rintro e w6 ⟨⟨v6, rfl⟩, k6, bad6, he6, hr6, hk6⟩
  have bo6 := bo5.kp hk6 n0
  have bt6 := bt5.kp hk6 n1
  have K6 := K5.trans hk6
  clear bo5 bt5 K5 hr5
  have HE6 := hide he6
  clear he6 hk6
  have p6 := bt6.cell 4 _ rfl
  have q6 := bt6.froz 4
  go_wp2_with fail
  refine (rtake_any b B k6 bad6 _ _ (hr6.set _ _ _ n1) (by decide)).mono ?_
  rintro e w7 ⟨rfl, k7, bad7, he7, hr7, hk7⟩
  have bo7 := (bo6.far _ _ _ n01).kp hk7 n0
  have bt7 := (bt6.put 4 _).kp hk7 n1
  have K7 := (K6.store _ _ _ l1).trans hk7
  clear bo6 bt6 K6 hr6 p6 q6
  have HE7 := hide he7
  clear he7 hk7
  have pk := bt7.cell 0 _ rfl
  go_wp2_with fail
  refine (number_any b B k7 bad7 _ _ hr7 (by decide) (by decide)).mono ?_
  rintro e w8 ⟨⟨v8, rfl⟩, k8, bad8, he8, hr8, hk8⟩
  have bo8 := bo7.kp hk8 n0
  have bt8 := bt7.kp hk8 n1
  have K8 := K7.trans hk8
  clear bo7 bt7 K7 hr7
  have HE8 := hide he8
  clear he8 hk8
  clear pk
  have p8 := bt8.cell 6 _ rfl
  have q8 := bt8.froz 6
  go_wp2_with fail
  refine (rtake_any b B k8 bad8 _ _ (hr8.set _ _ _ n1) (by decide)).mono ?_
  rintro e w9 ⟨rfl, k9, bad9, he9, hr9, hk9⟩
  have bo9 := (bo8.far _ _ _ n01).kp hk9 n0
  have bt9 := (bt8.put 6 _).kp hk9 n1
  have K9 := (K8.store _ _ _ l1).trans hk9
  clear bo8 bt8 K8 hr8 p8 q8
  have HE9 := hide he9
  clear he9 hk9
  go_wp2_with fail
  refine (number_any b B k9 bad9 _ _ hr9 (by decide) (by decide)).mono ?_
  rintro e w10 ⟨⟨v10, rfl⟩, k10, bad10, he10, hr10, hk10⟩
  have bo10 := bo9.kp hk10 n0
  have bt10 := bt9.kp hk10 n1
  have K10 := K9.trans hk10
  clear bo9 bt9 K9 hr9
  have HE10 := hide he10
  clear he10 hk10
  have p10 := bt10.cell 7 _ rfl
  have q10 := bt10.froz 7
  go_wp2_with fail
  refine (rtake_any b B k10 bad10 _ _ (hr10.set _ _ _ n1) (by decide)).mono ?_
  rintro e w11 ⟨rfl, k11, bad11, he11, hr11, hk11⟩
  have bo11 := (bo10.far _ _ _ n01).kp hk11 n0
  have bt11 := (bt10.put 7 _).kp hk11 n1
  have K11 := (K10.store _ _ _ l1).trans hk11
  clear bo10 bt10 K10 hr10 p10 q10
  have HE11 := hide he11
  clear he11 hk11
  have pt0 := bt11.cell 0 _ rfl
  have po0 := bo11.cell 0 _ rfl
  have qo0 := bo11.froz 0
  have pt1 := bt11.cell 1 _ rfl
  have po1 := bo11.cell 1 _ rfl
  have qo1 := bo11.froz 1
  have pt2 := bt11.cell 2 _ rfl
  have po2 := bo11.cell 2 _ rfl
  have qo2 := bo11.froz 2
  have pt3 := bt11.cell 3 _ rfl
  have po3 := bo11.cell 3 _ rfl
  have qo3 := bo11.froz 3
  have pt4 := bt11.cell 4 _ rfl
  have po4 := bo11.cell 4 _ rfl
  have qo4 := bo11.froz 4
  have pt5 := bt11.cell 5 _ rfl
  have po5 := bo11.cell 5 _ rfl
  have qo5 := bo11.froz 5
  have pt6 := bt11.cell 6 _ rfl
  have po6 := bo11.cell 6 _ rfl
  have qo6 := bo11.froz 6
  have pt7 := bt11.cell 7 _ rfl
  have po7 := bo11.cell 7 _ rfl
  have qo7 := bo11.froz 7
  have pt8 := bt11.cell 8 _ rfl
  have po8 := bo11.cell 8 _ rfl
  have qo8 := bo11.froz 8
  go_wp2
  exact bodyPost_ret (v := .agg #[.int .u8 (((⟨#[105, 103, 98, 99, 109, 114, 108, 117, 100]⟩ : ByteArray)[3]'(by decide)).toNat : Int), .int .i64 v2, .int .i64 0, .int .i64 v4, .int .i64 v6, .int .i64 0, .int .i64 v8, .int .i64 v10, .slice none 0 0]) (by simp [results, Try.results11, go_sem, po0, po1, po2, po3, po4, po5, po6, po7, po8]) rfl ⟨⟨_, _, _, _, _, _, _, _, _, _, _, rfl⟩, k11, _, (req_3 HE1.out HK.out rfl).trans (ch_c HE2.out HE3.out HE4.out HE5.out HE6.out HE7.out HE8.out HE9.out HE10.out HE11.out), (((((((((hr11.set _ _ _ n0).set _ _ _ n0).set _ _ _ n0).set _ _ _ n0).set _ _ _ n0).set _ _ _ n0).set _ _ _ n0).set _ _ _ n0).set _ _ _ n0), (((((((((K11.store _ _ _ (Nat.le_refl _)).store _ _ _ (Nat.le_refl _)).store _ _ _ (Nat.le_refl _)).store _ _ _ (Nat.le_refl _)).store _ _ _ (Nat.le_refl _)).store _ _ _ (Nat.le_refl _)).store _ _ _ (Nat.le_refl _)).store _ _ _ (Nat.le_refl _)).store _ _ _ (Nat.le_refl _))⟩

set_option maxRecDepth 100000 in
set_option maxHeartbeats 1000000 in
theorem request_k4 (b : Nat) (B : ByteArray) (k : Nat) (bad : Bool) (w : World) (h : RR b B k bad w) (hkx : (rAmong (txt ⟨#[105, 103, 98, 99, 109, 114, 108, 117, 100]⟩) 0 (rs B k bad)).2 = 4) (hb1 : (rAmong (txt ⟨#[105, 103, 98, 99, 109, 114, 108, 117, 100]⟩) 0 (rs B k bad)).1.bad = false) :
    Calls Try.prog 11 #[.pointer (some ⟨b, 0, none⟩)] w fun e w' => ReqPost b B k bad w e w' := by
  have hb := h.hb
  have n0 : w.heap.size ≠ b := by omega
  have HK := hide hkx
  have HB := hide hb1
  clear hkx hb1
  go_enter Try.func11, Try.ntmps11
  go_wp2_with fail
  refine (among_any b B k bad _ _ (h.alloc _) (by decide)).mono ?_
  rintro e w1 ⟨rfl, k1, bad1, he1, hr1, hk1⟩
  have hkk := HK.out
  generalize (rAmong (txt ⟨#[105, 103, 98, 99, 109, 114, 108, 117, 100]⟩) 0 (rs B k bad)).2 = kx at hkk ⊢
  subst hkk
  have hbd1 : bad1 = false := by
    have e1 := HB.out
    rw [he1] at e1; exact e1
  clear HB
  subst hbd1
  have bo1 : Box w.heap.size [Value.int .u8 0, Value.int .i64 0, Value.int .i64 0, Value.int .i64 0, Value.int .i64 0, Value.int .i64 0, Value.int .i64 0, Value.int .i64 0, Value.slice none 0 0] w1 := (Box.new w _ 46).kp hk1 n0
  have K1 : Kp b w w1 := ((Kp.refl _ _).alloc _).trans hk1
  have HE1 := hide he1
  have hb1 := hr1.hb
  have hs1 : w.heap.size < w1.heap.size := bo1.lt
  have n1 : w1.heap.size ≠ b := by omega
  have n01 : w1.heap.size ≠ w.heap.size := by omega
  have l1 : w.heap.size ≤ w1.heap.size := by omega
  clear he1 hk1
  have c2 := hr1.c2
  go_wp2_with fail
  refine (version_any b B k1 false _ (hr1.alloc _)).mono ?_
  rintro e w2 ⟨⟨v2, rfl⟩, k2, bad2, he2, hr2, hk2⟩
  have bo2 := (bo1.alloc _).kp hk2 n0
  have bt2 : Box w1.heap.size [Value.int .u8 (((⟨#[105, 103, 98, 99, 109, 114, 108, 117, 100]⟩ : ByteArray)[4]'(by decide)).toNat : Int), Value.int .i64 0, Value.int .i64 0, Value.int .i64 0, Value.int .i64 0, Value.int .i64 0, Value.int .i64 0, Value.int .i64 0, Value.slice none 0 0] w2 := Box.kp (Box.new w1 _ 46) hk2 n1
  have K2 := (K1.alloc _).trans hk2
  clear bo1 K1 hr1 c2
  have HE2 := hide he2
  clear he2 hk2
  have p2 := bt2.cell 1 _ rfl
  have q2 := bt2.froz 1
  have pk := bt2.cell 0 _ rfl
  go_wp2_with fail
  refine (rtake_any b B k2 bad2 _ _ (hr2.set _ _ _ n1) (by decide)).mono ?_
  rintro e w3 ⟨rfl, k3, bad3, he3, hr3, hk3⟩
  have bo3 := (bo2.far _ _ _ n01).kp hk3 n0
  have bt3 := (bt2.put 1 _).kp hk3 n1
  have K3 := (K2.store _ _ _ l1).trans hk3
  clear bo2 bt2 K2 hr2 p2 q2
  have HE3 := hide he3
  clear he3 hk3
  clear pk
  have pk := bt3.cell 0 _ rfl
  go_wp2_with fail
  refine (account_any b B k3 bad3 _ hr3).mono ?_
  rintro e w4 ⟨⟨v4, rfl⟩, k4, bad4, he4, hr4, hk4⟩
  have bo4 := bo3.kp hk4 n0
  have bt4 := bt3.kp hk4 n1
  have K4 := K3.trans hk4
  clear bo3 bt3 K3 hr3
  have HE4 := hide he4
  clear he4 hk4
  clear pk
  have p4 := bt4.cell 3 _ rfl
  have q4 := bt4.froz 3
  have pk := bt4.cell 0 _ rfl
  go_wp2_with fail
  refine (rtake_any b B k4 bad4 _ _ (hr4.set _ _ _ n1) (by decide)).mono ?_
  rintro e w5 ⟨rfl, k5, bad5, he5, hr5, hk5⟩
  have bo5 := (bo4.far _ _ _ n01).kp hk5 n0
  have bt5 := (bt4.put 3 _).kp hk5 n1
  have K5 := (K4.store _ _ _ l1).trans hk5
  clear bo4 bt4 K4 hr4 p4 q4
  have HE5 := hide he5
  clear he5 hk5
  clear pk
  go_wp2_with fail
  refine (account_any b B k5 bad5 _ hr5).mono ?_
  rintro e w6 ⟨⟨v6, rfl⟩, k6, bad6, he6, hr6, hk6⟩
  have bo6 := bo5.kp hk6 n0
  have bt6 := bt5.kp hk6 n1
  have K6 := K5.trans hk6
  clear bo5 bt5 K5 hr5
  have HE6 := hide he6
  clear he6 hk6
  have p6 := bt6.cell 4 _ rfl
  have q6 := bt6.froz 4
  go_wp2_with fail
  refine (rtake_any b B k6 bad6 _ _ (hr6.set _ _ _ n1) (by decide)).mono ?_
  rintro e w7 ⟨rfl, k7, bad7, he7, hr7, hk7⟩
  have bo7 := (bo6.far _ _ _ n01).kp hk7 n0
  have bt7 := (bt6.put 4 _).kp hk7 n1
  have K7 := (K6.store _ _ _ l1).trans hk7
  clear bo6 bt6 K6 hr6 p6 q6
  have HE7 := hide he7
  clear he7 hk7
  have pk := bt7.cell 0 _ rfl
  go_wp2_with fail
  refine (number_any b B k7 bad7 _ _ hr7 (by decide) (by decide)).mono ?_
  rintro e w8 ⟨⟨v8, rfl⟩, k8, bad8, he8, hr8, hk8⟩
  have bo8 := bo7.kp hk8 n0
  have bt8 := bt7.kp hk8 n1
  have K8 := K7.trans hk8
  clear bo7 bt7 K7 hr7
  have HE8 := hide he8
  clear he8 hk8
  clear pk
  have p8 := bt8.cell 7 _ rfl
  have q8 := bt8.froz 7
  go_wp2_with fail
  refine (rtake_any b B k8 bad8 _ _ (hr8.set _ _ _ n1) (by decide)).mono ?_
  rintro e w9 ⟨rfl, k9, bad9, he9, hr9, hk9⟩
  have bo9 := (bo8.far _ _ _ n01).kp hk9 n0
  have bt9 := (bt8.put 7 _).kp hk9 n1
  have K9 := (K8.store _ _ _ l1).trans hk9
  clear bo8 bt8 K8 hr8 p8 q8
  have HE9 := hide he9
  clear he9 hk9
  have pt0 := bt9.cell 0 _ rfl
  have po0 := bo9.cell 0 _ rfl
  have qo0 := bo9.froz 0
  have pt1 := bt9.cell 1 _ rfl
  have po1 := bo9.cell 1 _ rfl
  have qo1 := bo9.froz 1
  have pt2 := bt9.cell 2 _ rfl
  have po2 := bo9.cell 2 _ rfl
  have qo2 := bo9.froz 2
  have pt3 := bt9.cell 3 _ rfl
  have po3 := bo9.cell 3 _ rfl
  have qo3 := bo9.froz 3
  have pt4 := bt9.cell 4 _ rfl
  have po4 := bo9.cell 4 _ rfl
  have qo4 := bo9.froz 4
  have pt5 := bt9.cell 5 _ rfl
  have po5 := bo9.cell 5 _ rfl
  have qo5 := bo9.froz 5
  have pt6 := bt9.cell 6 _ rfl
  have po6 := bo9.cell 6 _ rfl
  have qo6 := bo9.froz 6
  have pt7 := bt9.cell 7 _ rfl
  have po7 := bo9.cell 7 _ rfl
  have qo7 := bo9.froz 7
  have pt8 := bt9.cell 8 _ rfl
  have po8 := bo9.cell 8 _ rfl
  have qo8 := bo9.froz 8
  go_wp2
  exact bodyPost_ret (v := .agg #[.int .u8 (((⟨#[105, 103, 98, 99, 109, 114, 108, 117, 100]⟩ : ByteArray)[4]'(by decide)).toNat : Int), .int .i64 v2, .int .i64 0, .int .i64 v4, .int .i64 v6, .int .i64 0, .int .i64 0, .int .i64 v8, .slice none 0 0]) (by simp [results, Try.results11, go_sem, po0, po1, po2, po3, po4, po5, po6, po7, po8]) rfl ⟨⟨_, _, _, _, _, _, _, _, _, _, _, rfl⟩, k9, _, (req_4 HE1.out HK.out rfl).trans (ch_m HE2.out HE3.out HE4.out HE5.out HE6.out HE7.out HE8.out HE9.out), (((((((((hr9.set _ _ _ n0).set _ _ _ n0).set _ _ _ n0).set _ _ _ n0).set _ _ _ n0).set _ _ _ n0).set _ _ _ n0).set _ _ _ n0).set _ _ _ n0), (((((((((K9.store _ _ _ (Nat.le_refl _)).store _ _ _ (Nat.le_refl _)).store _ _ _ (Nat.le_refl _)).store _ _ _ (Nat.le_refl _)).store _ _ _ (Nat.le_refl _)).store _ _ _ (Nat.le_refl _)).store _ _ _ (Nat.le_refl _)).store _ _ _ (Nat.le_refl _)).store _ _ _ (Nat.le_refl _))⟩

set_option maxRecDepth 100000 in
set_option maxHeartbeats 1000000 in
theorem request_k0 (b : Nat) (B : ByteArray) (k : Nat) (bad : Bool) (w : World) (h : RR b B k bad w) (hkx : (rAmong (txt ⟨#[105, 103, 98, 99, 109, 114, 108, 117, 100]⟩) 0 (rs B k bad)).2 = 0) (hb1 : (rAmong (txt ⟨#[105, 103, 98, 99, 109, 114, 108, 117, 100]⟩) 0 (rs B k bad)).1.bad = false) :
    Calls Try.prog 11 #[.pointer (some ⟨b, 0, none⟩)] w fun e w' => ReqPost b B k bad w e w' := by
  have hb := h.hb
  have n0 : w.heap.size ≠ b := by omega
  have HK := hide hkx
  have HB := hide hb1
  clear hkx hb1
  go_enter Try.func11, Try.ntmps11
  go_wp2_with fail
  refine (among_any b B k bad _ _ (h.alloc _) (by decide)).mono ?_
  rintro e w1 ⟨rfl, k1, bad1, he1, hr1, hk1⟩
  have hkk := HK.out
  generalize (rAmong (txt ⟨#[105, 103, 98, 99, 109, 114, 108, 117, 100]⟩) 0 (rs B k bad)).2 = kx at hkk ⊢
  subst hkk
  have hbd1 : bad1 = false := by
    have e1 := HB.out
    rw [he1] at e1; exact e1
  clear HB
  subst hbd1
  have bo1 : Box w.heap.size [Value.int .u8 0, Value.int .i64 0, Value.int .i64 0, Value.int .i64 0, Value.int .i64 0, Value.int .i64 0, Value.int .i64 0, Value.int .i64 0, Value.slice none 0 0] w1 := (Box.new w _ 46).kp hk1 n0
  have K1 : Kp b w w1 := ((Kp.refl _ _).alloc _).trans hk1
  have HE1 := hide he1
  have hb1 := hr1.hb
  have hs1 : w.heap.size < w1.heap.size := bo1.lt
  have n1 : w1.heap.size ≠ b := by omega
  have n01 : w1.heap.size ≠ w.heap.size := by omega
  have l1 : w.heap.size ≤ w1.heap.size := by omega
  clear he1 hk1
  have c2 := hr1.c2
  go_wp2_with fail
  refine (version_any b B k1 false _ (hr1.alloc _)).mono ?_
  rintro e w2 ⟨⟨v2, rfl⟩, k2, bad2, he2, hr2, hk2⟩
  have bo2 := (bo1.alloc _).kp hk2 n0
  have bt2 : Box w1.heap.size [Value.int .u8 (((⟨#[105, 103, 98, 99, 109, 114, 108, 117, 100]⟩ : ByteArray)[0]'(by decide)).toNat : Int), Value.int .i64 0, Value.int .i64 0, Value.int .i64 0, Value.int .i64 0, Value.int .i64 0, Value.int .i64 0, Value.int .i64 0, Value.slice none 0 0] w2 := Box.kp (Box.new w1 _ 46) hk2 n1
  have K2 := (K1.alloc _).trans hk2
  clear bo1 K1 hr1 c2
  have HE2 := hide he2
  clear he2 hk2
  have p2 := bt2.cell 1 _ rfl
  have q2 := bt2.froz 1
  have pk := bt2.cell 0 _ rfl
  go_wp2_with fail
  refine (rtake_any b B k2 bad2 _ _ (hr2.set _ _ _ n1) (by decide)).mono ?_
  rintro e w3 ⟨rfl, k3, bad3, he3, hr3, hk3⟩
  have bo3 := (bo2.far _ _ _ n01).kp hk3 n0
  have bt3 := (bt2.put 1 _).kp hk3 n1
  have K3 := (K2.store _ _ _ l1).trans hk3
  clear bo2 bt2 K2 hr2 p2 q2
  have HE3 := hide he3
  clear he3 hk3
  clear pk
  have pt0 := bt3.cell 0 _ rfl
  have pt1 := bt3.cell 1 _ rfl
  have pt2 := bt3.cell 2 _ rfl
  have pt3 := bt3.cell 3 _ rfl
  have pt4 := bt3.cell 4 _ rfl
  have pt5 := bt3.cell 5 _ rfl
  have pt6 := bt3.cell 6 _ rfl
  have pt7 := bt3.cell 7 _ rfl
  have pt8 := bt3.cell 8 _ rfl
  go_wp2_with fail
  refine (block_any b B k3 bad3 _ _ _ _ _ _ _ _ _ hr3).mono ?_
  rintro e w4 ⟨⟨v4, sl, sn, sc, rfl⟩, k4, bad4, he4, hr4, hk4⟩
  have bo4 := bo3.kp hk4 n0
  have bt4 := bt3.kp hk4 n1
  have K4 := K3.trans hk4
  clear bo3 bt3 K3 hr3
  have HE4 := hide he4
  clear he4 hk4
  have po0 := bo4.cell 0 _ rfl
  have qo0 := bo4.froz 0
  have po1 := bo4.cell 1 _ rfl
  have qo1 := bo4.froz 1
  have po2 := bo4.cell 2 _ rfl
  have qo2 := bo4.froz 2
  have po3 := bo4.cell 3 _ rfl
  have qo3 := bo4.froz 3
  have po4 := bo4.cell 4 _ rfl
  have qo4 := bo4.froz 4
  have po5 := bo4.cell 5 _ rfl
  have qo5 := bo4.froz 5
  have po6 := bo4.cell 6 _ rfl
  have qo6 := bo4.froz 6
  have po7 := bo4.cell 7 _ rfl
  have qo7 := bo4.froz 7
  have po8 := bo4.cell 8 _ rfl
  have qo8 := bo4.froz 8
  clear pt0 pt1 pt2 pt3 pt4 pt5 pt6 pt7 pt8
  go_wp2
  exact bodyPost_ret (v := .agg #[.int .u8 (((⟨#[105, 103, 98, 99, 109, 114, 108, 117, 100]⟩ : ByteArray)[0]'(by decide)).toNat : Int), .int .i64 v2, .int .i64 0, .int .i64 v4, .int .i64 0, .int .i64 0, .int .i64 0, .int .i64 0, .slice sl sn sc]) (by simp [results, Try.results11, go_sem, po0, po1, po2, po3, po4, po5, po6, po7, po8]) rfl ⟨⟨_, _, _, _, _, _, _, _, _, _, _, rfl⟩, k4, _, (req_0 HE1.out HK.out rfl).trans (ch_blk HE2.out HE3.out HE4.out), (((((((((hr4.set _ _ _ n0).set _ _ _ n0).set _ _ _ n0).set _ _ _ n0).set _ _ _ n0).set _ _ _ n0).set _ _ _ n0).set _ _ _ n0).set _ _ _ n0), (((((((((K4.store _ _ _ (Nat.le_refl _)).store _ _ _ (Nat.le_refl _)).store _ _ _ (Nat.le_refl _)).store _ _ _ (Nat.le_refl _)).store _ _ _ (Nat.le_refl _)).store _ _ _ (Nat.le_refl _)).store _ _ _ (Nat.le_refl _)).store _ _ _ (Nat.le_refl _)).store _ _ _ (Nat.le_refl _))⟩

set_option maxRecDepth 100000 in
theorem request_any (b : Nat) (B : ByteArray) (k : Nat) (bad : Bool) (w : World) (h : RR b B k bad w) :
    Calls Try.prog 11 #[.pointer (some ⟨b, 0, none⟩)] w fun e w' => ReqPost b B k bad w e w' := by
  have hbd : 0 ≤ (rAmong (txt ⟨#[105, 103, 98, 99, 109, 114, 108, 117, 100]⟩) 0 (rs B k bad)).2 ∧ ((rAmong (txt ⟨#[105, 103, 98, 99, 109, 114, 108, 117, 100]⟩) 0 (rs B k bad)).2 = 0 ∨ (rAmong (txt ⟨#[105, 103, 98, 99, 109, 114, 108, 117, 100]⟩) 0 (rs B k bad)).2 < 9) := rAmong_bd [105, 103, 98, 99, 109, 114, 108, 117, 100] 0 (rs B k bad) (Int.le_refl 0)
  have hb0 := rAmong_bad0 (txt ⟨#[105, 103, 98, 99, 109, 114, 108, 117, 100]⟩) 0 (rs B k bad)
  cases hb : (rAmong (txt ⟨#[105, 103, 98, 99, 109, 114, 108, 117, 100]⟩) 0 (rs B k bad)).1.bad with
  | true => exact request_bad b B k bad w h (hb0 hb) hb
  | false =>
    have hc : (rAmong (txt ⟨#[105, 103, 98, 99, 109, 114, 108, 117, 100]⟩) 0 (rs B k bad)).2 = 0 ∨ (rAmong (txt ⟨#[105, 103, 98, 99, 109, 114, 108, 117, 100]⟩) 0 (rs B k bad)).2 = 1 ∨ (rAmong (txt ⟨#[105, 103, 98, 99, 109, 114, 108, 117, 100]⟩) 0 (rs B k bad)).2 = 2 ∨ (rAmong (txt ⟨#[105, 103, 98, 99, 109, 114, 108, 117, 100]⟩) 0 (rs B k bad)).2 = 3 ∨ (rAmong (txt ⟨#[105, 103, 98, 99, 109, 114, 108, 117, 100]⟩) 0 (rs B k bad)).2 = 4
        ∨ (rAmong (txt ⟨#[105, 103, 98, 99, 109, 114, 108, 117, 100]⟩) 0 (rs B k bad)).2 = 5 ∨ (rAmong (txt ⟨#[105, 103, 98, 99, 109, 114, 108, 117, 100]⟩) 0 (rs B k bad)).2 = 6 ∨ (rAmong (txt ⟨#[105, 103, 98, 99, 109, 114, 108, 117, 100]⟩) 0 (rs B k bad)).2 = 7 ∨ (rAmong (txt ⟨#[105, 103, 98, 99, 109, 114, 108, 117, 100]⟩) 0 (rs B k bad)).2 = 8 := by omega
    rcases hc with e | e | e | e | e | e | e | e | e
    · exact request_k0 b B k bad w h e hb
    · exact request_k1 b B k bad w h e hb
    · exact request_k2 b B k bad w h e hb
    · exact request_k3 b B k bad w h e hb
    · exact request_k4 b B k bad w h e hb
    · exact request_k5 b B k bad w h e hb
    · exact request_k6 b B k bad w h e hb
    · exact request_k7 b B k bad w h e hb
    · exact request_k8 b B k bad w h e hb

end Go.Proofs.Ytgpphkdoanciiaa
