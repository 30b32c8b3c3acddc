/-
  The program's reader: a request begins, a transaction's kind is told, the byte behind a whole request.
-/
import Derived.Test.YtgpphkdoanciiaaBegin
namespace Go.Proofs.Ytgpphkdoanciiaa
open Go.RowKit

def reqCells (k : Int) : List Value := [.int .i64 0, .int .i64 0, .int .i64 0, .int .i64 0, .int .i64 k, .int .i64 0, .int .i64 0, .int .i64 0, .slice none 0 0]
def wReq (b : Nat) (k : Int) (w : World) : World := (w.setCell ⟨b, 2, none⟩ (.pointer (some ⟨w.heap.size, 0, none⟩))).alloc (.cells #[.int .i64 0, .int .i64 0, .int .i64 0, .int .i64 0, .int .i64 k, .int .i64 0, .int .i64 0, .int .i64 0, .slice none 0 0] 80)
theorem size_wReq (b : Nat) (k : Int) (w : World) : (wReq b k w).heap.size = w.heap.size + 1 := by simp [wReq]
theorem oth_wReq (b : Nat) (k : Int) (w : World) : Oth b w (wReq b k w) := (Oth.set b w 2 _).trans (Oth.alloc b _ _)
theorem bx_wReq (b : Nat) (k : Int) (w : World) : Bx w.heap.size (reqCells k) (wReq b k w) := by
  have := Bx.new (w.setCell ⟨b, 2, none⟩ (.pointer (some ⟨w.heap.size, 0, none⟩))) (reqCells k) 80
  rw [World.size_setCell] at this
  exact this

/-- what a method that takes a byte leaves: a refusal, or the reader as the plain step says -/
def Took (b : Nat) (o : Option AS) (w : World) (e : Ending) (w' : World) : Prop :=
  Below b w w' ∧ ((o = none ∧ e = .returned (.bool false) ∧ ∃ g s st, AR b g s st w') ∨ (∃ g s' st', o = some st' ∧ e = .returned (.bool true) ∧ AR b g s' st' w'))
theorem Took.no {b : Nat} {g : Gh} {s : ByteArray} {st : AS} {o : Option AS} {w : World} (h : o = none) (ha : AR b g s st w) : Took b o w (.returned (.bool false)) w := ⟨Below.refl _ _, Or.inl ⟨h, rfl, g, s, st, ha⟩⟩

theorem no80_req (k : Int) : (80 : Int) ∉ reqShape k := by
  unfold reqShape
  (repeat' split) <;> decide

theorem took_req {b n : Nat} {g : Gh} {s sb : ByteArray} {st : AS} {k : Int} {w w2 : World} {v' vr : Value} {xs' : List Value} (h : AR b g s st w) (hd : st.dig = 0) (hn : (n : Int) = st.req) (hvr : g.vr = vr) {o : Obj} (hk : ¬ k = 0)
    (hown : w2.ownsRow (b + 1) 49 1 v' (n + 1) xs') (hg : ((wReq b k w).alloc o).drew.grownBy w2 vr.ownBlock) (hat : v'.ownBlock = vr.ownBlock ∨ v'.ownBlock = some ((wReq b k w).alloc o).drew.heap.size) (hs : sb.size ≤ 10) (ht : txt sb = reqShape k) :
    Took b (aReq st k) w (.returned (.bool true)) (((w2.setCell ⟨b, 1, none⟩ v').setCell ⟨b, 4, none⟩ (.pointer (some ⟨w.heap.size, 0, none⟩))).setCell ⟨b, 0, none⟩ (.string sb)) := by
  subst hvr
  obtain ⟨nr, hnr, hor⟩ := h.own
  have hblt := h.box.lt
  have nb : some b ≠ g.vr.ownBlock := fun e => by have := (hor.lt b e.symm).1; omega
  have nq : some w.heap.size ≠ g.vr.ownBlock := own_ne hor
  have hsz : ((wReq b k w).alloc o).drew.heap.size = w.heap.size + 2 := by show ((wReq b k w).alloc o).heap.size = _; simp [size_wReq]
  have hgs := hg.size
  rw [hsz] at hgs
  -- the reader's own cells
  have x1 : Bx b ((cellsOf g s st).set 2 (.pointer (some ⟨w.heap.size, 0, none⟩))) ((wReq b k w).alloc o).drew :=
    (((h.box.put 2 _).move (w' := wReq b k w) (Below.heap_alloc _ _ _ (by simpa using hblt)) (by rw [size_wReq]; simp)).move (w' := (wReq b k w).alloc o) (Below.heap_alloc _ _ _ (by rw [size_wReq]; omega)) (by rw [World.size_alloc]; exact Nat.le_succ _)).move rfl (Nat.le_refl _)
  have x2 := ((((x1.move (hg.block b (by rw [hsz]; omega) nb) hg.size).put 1 v').put 4 (.pointer (some ⟨w.heap.size, 0, none⟩))).put 0 (.string sb))
  -- the request
  have y1 : Bx w.heap.size (reqCells k) ((wReq b k w).alloc o).drew :=
    ((bx_wReq b k w).move (w' := (wReq b k w).alloc o) (Below.heap_alloc _ _ _ (by rw [size_wReq]; omega)) (by rw [World.size_alloc]; exact Nat.le_succ _)).move rfl (Nat.le_refl _)
  have y2 := y1.move (hg.block w.heap.size (by rw [hsz]; omega) nq) hg.size
  have nbq : ¬ w.heap.size = b := by omega
  have y3 := ((y2.move (Below.heap_setCell w2 ⟨b, 1, none⟩ v' _ (by simpa using nbq)) (by simp)).move (Below.heap_setCell (w2.setCell ⟨b, 1, none⟩ v') ⟨b, 4, none⟩ (.pointer (some ⟨w.heap.size, 0, none⟩)) _ (by simpa using nbq)) (by simp)).move (Below.heap_setCell ((w2.setCell ⟨b, 1, none⟩ v').setCell ⟨b, 4, none⟩ (.pointer (some ⟨w.heap.size, 0, none⟩))) ⟨b, 0, none⟩ (.string sb) _ (by simpa using nbq)) (by simp)
  have hv : some w.heap.size ≠ v'.ownBlock := by
    rcases hat with e | e
    · rw [e]; exact nq
    · rw [e, hsz]; intro e'; injection e' with e'; omega
  refine ⟨?_, Or.inr ⟨{ g with vr := v', xs := xs', rq := some ⟨w.heap.size, 0, none⟩, tm := some ⟨w.heap.size, 0, none⟩, q := w.heap.size, t := b, vb := .slice none 0 0, ys := [] }, sb, _, by rw [aReq, if_neg hk], rfl, ?_⟩⟩
  · have B0 : Below b w ((wReq b k w).alloc o).drew := (((below_set w b 2 _).alloc (by simp; omega) _).alloc (by simp; omega) _).trans (below_drew1 _ _)
    have B1 : Below b w w2 := B0.grown hg (by rw [hsz]; omega) (fun j hj => by have := (hor.lt j hj).1; omega)
    exact ((B1.trans (below_set _ _ _ _)).trans (below_set _ _ _ _)).trans (below_set _ _ _ _)
  · have S : ∀ i, i < 8 → Safe b { g with vr := v', xs := xs', rq := some ⟨w.heap.size, 0, none⟩, tm := some ⟨w.heap.size, 0, none⟩, q := w.heap.size, t := b, vb := .slice none 0 0, ys := [] } w.heap.size i (((w2.setCell ⟨b, 1, none⟩ v').setCell ⟨b, 4, none⟩ (.pointer (some ⟨w.heap.size, 0, none⟩))).setCell ⟨b, 0, none⟩ (.string sb)) := by
      intro i hi
      refine ⟨hblt, y3.lt, hv, by simp [Value.ownBlock], fun _ => hi, fun e => absurd e nbq, ?_, y3.froz i⟩
      match i, hi with
      | 0, _ => exact ⟨0, y3.cell 0 _ rfl⟩
      | 1, _ => exact ⟨0, y3.cell 1 _ rfl⟩
      | 2, _ => exact ⟨0, y3.cell 2 _ rfl⟩
      | 3, _ => exact ⟨0, y3.cell 3 _ rfl⟩
      | 4, _ => exact ⟨k, y3.cell 4 _ rfl⟩
      | 5, _ => exact ⟨0, y3.cell 5 _ rfl⟩
      | 6, _ => exact ⟨0, y3.cell 6 _ rfl⟩
      | 7, _ => exact ⟨0, y3.cell 7 _ rfl⟩
    refine ⟨x2, hs, ht, ⟨n + 1, by simp; omega, ?_⟩, Or.inr ⟨rfl, S, y3.cell 8 _ rfl, y3.froz 8, ⟨0, rfl, World.ownsRow_nil _ _ _ _⟩, Or.inl rfl, ⟨w.heap.size, rfl, fun i hi => S i (by omega)⟩, fun e => ?_, fun e => ?_⟩⟩
    · refine own_move hown fun j (hj : v'.ownBlock = some j) => ?_
      have hj1 := (hown.lt j hj).1
      have njb : ¬ j = b := by omega
      rw [Below.heap_setCell _ _ _ _ (by simpa using njb), Below.heap_setCell _ _ _ _ (by simpa using njb), Below.heap_setCell _ _ _ _ (by simpa using njb)]
    · rcases e with e | e
      · exact absurd e (no84_req k)
      · exact absurd e (no80_req k)
    · simp only at e; omega

set_option maxRecDepth 100000 in
set_option maxHeartbeats 4000000 in
theorem beginRequest_any (b : Nat) (g : Gh) (s : ByteArray) (st : AS) (k : Int) (w : World) (h : AR b g s st w) (hd : st.dig = 0) (hr : st.req ≤ 2000) :
    Calls Try.prog 22 #[.pointer (some ⟨b, 0, none⟩), .int .i64 k] w fun e w' => Took b (aReq st k) w e w' := by
  by_cases hk : k = 0
  · subst hk
    go_enter Try.func22, Try.ntmps22
    go_wp2
    go_ret
    exact Took.no (by simp [aReq]) h
  have hkb : (k == 0) = false := by rw [beq_eq_false_iff_ne]; exact hk
  obtain ⟨n, hn, hown⟩ := h.own
  have c1 : w.cell? ⟨b, 1, none⟩ = some g.vr := h.box.cell 1 _ rfl
  have c2 : w.cell? ⟨b, 2, none⟩ = some (.pointer g.rq) := h.box.cell 2 _ rfl
  have f1 := h.box.froz 1
  have f2 := h.box.froz 2
  have hblt := h.box.lt
  have hne2 : ¬ b = w.heap.size := by omega
  obtain ⟨i0, hi, hz0, hz1, hz2⟩ := info_parts Try.inf49
  have hi' := hide hi
  have hz0' := hide hz0
  have hz1' := hide hz1
  have hz2' := hide hz2
  obtain ⟨vr, hvr⟩ : ∃ vr, g.vr = vr := ⟨_, rfl⟩
  rw [hvr] at c1
  rw [hvr] at hown
  have hoW : (((w.setCell ⟨b, 2, none⟩ (.pointer (some ⟨w.heap.size, 0, none⟩))).alloc (.cells #[.int .i64 0, .int .i64 0, .int .i64 0, .int .i64 0, .int .i64 k, .int .i64 0, .int .i64 0, .int .i64 0, .slice none 0 0] 80)).alloc (.cells #[.pointer (some ⟨w.heap.size, 0, none⟩)] 49)).drew.ownsRow (b + 1) 49 1 vr n g.xs :=
    own_move (w := wReq b k w) (w' := ((wReq b k w).alloc (.cells #[.pointer (some ⟨w.heap.size, 0, none⟩)] 49)).drew) (own_move hown fun j hj => (oth_wReq b k w).blk j (hown.lt j hj).2 (by have := (hown.lt j hj).1; omega)) (fun j hj => Below.heap_alloc _ _ _ (by rw [size_wReq]; have := (hown.lt j hj).2; omega))
  have hcW : ∀ j u, [Value.pointer (some ⟨w.heap.size, 0, none⟩)][j]? = some u → (((w.setCell ⟨b, 2, none⟩ (.pointer (some ⟨w.heap.size, 0, none⟩))).alloc (.cells #[.int .i64 0, .int .i64 0, .int .i64 0, .int .i64 0, .int .i64 k, .int .i64 0, .int .i64 0, .int .i64 0, .slice none 0 0] 80)).alloc (.cells #[.pointer (some ⟨w.heap.size, 0, none⟩)] 49)).drew.cell? ((⟨w.heap.size + 1, 0, none⟩ : Addr).add j) = some u := by
    have := cell_one_new (wReq b k w) (.pointer (some ⟨w.heap.size, 0, none⟩)) 49
    rw [size_wReq] at this
    exact this
  have hsW : b + 1 ≤ (((w.setCell ⟨b, 2, none⟩ (.pointer (some ⟨w.heap.size, 0, none⟩))).alloc (.cells #[.int .i64 0, .int .i64 0, .int .i64 0, .int .i64 0, .int .i64 k, .int .i64 0, .int .i64 0, .int .i64 0, .slice none 0 0] 80)).alloc (.cells #[.pointer (some ⟨w.heap.size, 0, none⟩)] 49)).drew.heap.size := by
    show b + 1 ≤ ((wReq b k w).alloc _).heap.size
    simp [size_wReq]; omega
  have HW := hide (And.intro hoW (And.intro hcW hsW))
  have hn1 : n + 1 ≤ maxLen := by unfold maxLen; omega
  have hn2 : (n + 1) * 8 ≤ 140737488355328 := by omega
  have hrow1 : some b ≠ vr.ownBlock := fun e => by have := (hown.lt b e.symm).1; omega
  have H := hide (And.intro h (And.intro hn (And.intro hvr (And.intro hrow1 hk))))
  have HN := hide (And.intro hn1 hn2)
  clear hi hz0 hz1 hz2 hn hown h hvr hoW hcW hsW hn1 hn2 hrow1 hk
  go_enter Try.func22, Try.ntmps22
  go_wp2_with fail
  go_region_law (refine step_append_own rfl (.tmp 17) (.tmp 22) 33 rfl (b + 1) 49 i0 (.pointer none) 1 8 Try.underlying33 hi'.out hz0'.out hz1'.out hz2'.out rfl (by decide) vr n g.xs rfl HW.out.1 ⟨w.heap.size + 1, 0, none⟩ 1 1 [.pointer (some ⟨w.heap.size, 0, none⟩)] rfl rfl HW.out.2.1 (by intro u hu; simp at hu; subst hu; rfl) HN.out.1 HN.out.2 HW.out.2.2 ?_; intro v' w2 hown2 hg2 hat2; obtain ⟨gb, gc, hv'⟩ := slice_form hown2; subst hv'; have HG := hide (And.intro hown2 (And.intro hg2 hat2)); have k1 : w2.cell? ⟨b, 1, none⟩ = some vr := hg2.cell (a := ⟨b, 1, none⟩) (by go_simp) H.out.2.2.2.1; have kf1 : w2.frozen? ⟨b, 1, none⟩ = false := (World.frozen?_of_block (hg2.block b (by simp; omega) H.out.2.2.2.1)).trans (by go_simp); have k2 : w2.cell? ⟨b, 2, none⟩ = some (.pointer (some ⟨w.heap.size, 0, none⟩)) := hg2.cell (a := ⟨b, 2, none⟩) (by go_simp) H.out.2.2.2.1; clear hown2 hg2 hat2)
  all_goals
    have hgr := HG.out.2.1
    have k4 : w2.cell? ⟨b, 4, none⟩ = some (.pointer g.tm) := hgr.cell (a := ⟨b, 4, none⟩) (by have := H.out.1.box.cell 4 _ rfl; go_simp) H.out.2.2.2.1
    have k0 : w2.cell? ⟨b, 0, none⟩ = some (.string s) := hgr.cell (a := ⟨b, 0, none⟩) (by have := H.out.1.box.cell 0 _ rfl; go_simp) H.out.2.2.2.1
    have kf4 : w2.frozen? ⟨b, 4, none⟩ = false := (World.frozen?_of_block (hgr.block b (by simp; omega) H.out.2.2.2.1)).trans (by have := H.out.1.box.froz 4; go_simp)
    have kf0 : w2.frozen? ⟨b, 0, none⟩ = false := (World.frozen?_of_block (hgr.block b (by simp; omega) H.out.2.2.2.1)).trans (by have := H.out.1.box.froz 0; go_simp)
    clear hgr
    go_wp2_with (go_at_call 32; refine (reqShape_any _ _).mono ?_; rintro e w' ⟨⟨sb, rfl, hsb, htb⟩, hw⟩; subst w'; have HSB := hide (And.intro hsb htb); clear hsb htb)
    go_ret
    exact took_req H.out.1 hd H.out.2.1 H.out.2.2.1 H.out.2.2.2.2 HG.out.1 HG.out.2.1 HG.out.2.2 HSB.out.1 HSB.out.2

set_option maxRecDepth 100000 in
set_option maxHeartbeats 2000000 in
theorem shapeTx_any (b : Nat) (g : Gh) (s : ByteArray) (st : AS) (k : Int) (w : World) (h : AR b g s st w) (hl : Live b g st w) (hx : TxL b g w) :
    Calls Try.prog 27 #[.pointer (some ⟨b, 0, none⟩), .int .i64 k] w fun e w' => Took b (nTx st k) w e w' := by
  by_cases hk : k = 0
  · subst hk
    go_enter Try.func27, Try.ntmps27
    go_wp2
    go_ret
    exact Took.no (by simp [nTx]) h
  have hkb : (k == 0) = false := by rw [beq_eq_false_iff_ne]; exact hk
  have c3 : w.cell? ⟨b, 3, none⟩ = some (.pointer g.tx) := h.box.cell 3 _ rfl
  rw [hx.tx] at c3
  have c7 : w.cell? ⟨b, 7, none⟩ = some (.int .i64 st.stp) := h.box.cell 7 _ rfl
  have c0 : w.cell? ⟨b, 0, none⟩ = some (.string s) := h.box.cell 0 _ rfl
  have f7 := h.box.froz 7
  have f0 := h.box.froz 0
  have ht4 := hx.t 4 (by decide)
  obtain ⟨x, t4⟩ := ht4.v
  have tf := ht4.f
  have hbt := ht4.bm
  have hne1 : ¬ b = g.t := by omega
  have hne2 : ¬ g.t = b := by omega
  have H := hide (And.intro h (And.intro hl hx))
  clear h hl hx ht4
  go_enter Try.func27, Try.ntmps27
  go_wp2_with (go_at_call 35; refine (txShape_any _ _).mono ?_; rintro e w' ⟨⟨sb, rfl, hsb, htb⟩, hw⟩; subst w'; have HSB := hide (And.intro hsb htb); clear hsb htb)
  go_ret
  obtain ⟨h, hl, hx⟩ := H.out
  have hs4 := hx.t 4 (by decide)
  have h1 := h.int hl hs4 k
  have hl1 := hl.int hs4 k
  have hx1 := hx.int hs4 k
  have h2 := h1.set7 0
  have o7 := Oth.set b (w.setCell ⟨g.t, 4, none⟩ (.int .i64 k)) 7 (.int .i64 0)
  have hl2 := (hl1.re (st' := { st with stp := 0 }) rfl id id).oth o7
  have hx2 := hx1.oth o7
  exact ⟨((below_put w (by omega) _ _).trans (below_set _ _ _ _)).trans (below_set _ _ _ _), Or.inr ⟨_, _, _, by rw [nTx, if_neg hk], rfl,
    h2.set0 _ (txShape k) HSB.out.1 HSB.out.2 (Or.inr ⟨hl2.rq, hl2.q, hl2.c8, hl2.f8, hl2.own, hl2.ry, hl2.tm, fun _ => hx2, hl2.nm⟩)⟩⟩

theorem own_nat {w : World} {base : Nat} {e : TypeId} {v : Value} {n : Nat} {xs : List Value} (h : w.ownsRow base e 1 v n xs) : ∃ a c, v = .slice a n c := own_slice h

set_option maxRecDepth 100000 in
set_option maxHeartbeats 2000000 in
theorem goOn_any (b : Nat) (g : Gh) (s : ByteArray) (st : AS) (c : Int) (w : World) (h : AR b g s st w) (hl : Live b g st w) (hd : st.dig = 0) (ht : st.tx ≤ 2000) (hr : st.req ≤ 2000) :
    Calls Try.prog 21 #[.pointer (some ⟨b, 0, none⟩), .int .u8 c] w fun e w' => Took b (nGoOn st c) w e w' := by
  obtain ⟨n, hn, hown⟩ := h.own
  obtain ⟨m, hm, hoy⟩ := hl.own
  obtain ⟨ar, cr, hvr⟩ := own_slice hown
  obtain ⟨ab, cb, hvb⟩ := own_slice hoy
  have c0 : w.cell? ⟨b, 0, none⟩ = some (.string s) := h.box.cell 0 _ rfl
  have c1 : w.cell? ⟨b, 1, none⟩ = some g.vr := h.box.cell 1 _ rfl
  rw [hvr] at c1
  have c2 : w.cell? ⟨b, 2, none⟩ = some (.pointer g.rq) := h.box.cell 2 _ rfl
  rw [hl.rq] at c2
  have c8 := hl.c8
  rw [hvb] at c8
  have f0 := h.box.froz 0
  have hn20 : n ≤ 2000 := by omega
  have hm20 : m ≤ 2000 := by omega
  have H := hide (And.intro h (And.intro hl (And.intro hn hm)))
  clear h hl hown hoy hvr hvb hn hm
  by_cases h59 : c = 59 ∧ n < 24
  · obtain ⟨rfl, hn24⟩ := h59
    go_enter Try.func21, Try.ntmps21
    go_wp2
    go_ret
    obtain ⟨h, hl, hn, hm⟩ := H.out
    exact ⟨below_set w b _ _, Or.inr ⟨_, _, _, by rw [nGoOn, if_pos ⟨rfl, by omega⟩], rfl, h.set0 _ [82] (by decide) (by decide) (Or.inl ⟨rfl, by omega⟩)⟩⟩
  by_cases h44 : c = 44 ∧ 0 < m ∧ m < 8
  · obtain ⟨rfl, hm0, hm8⟩ := h44
    go_enter Try.func21, Try.ntmps21
    go_wp2_with (go_at_call 25; refine (beginTx_any b g s st w H.out.1 H.out.2.1 hd ht).mono ?_; rintro e w' ⟨rfl, hbl, g', har⟩; have k0 : w'.cell? ⟨b, 0, none⟩ = some (.string ⟨#[84]⟩) := har.box.cell 0 _ rfl; have kf0 := har.box.froz 0; have HA := hide (And.intro hbl har); clear hbl har)
    go_ret
    obtain ⟨h, hl, hn, hm⟩ := H.out
    obtain ⟨hbl, har⟩ := HA.out
    have hL : Live b g' { st with rest := [84], tx := st.tx + 1 } w' := by
      rcases har.lv with ⟨e, _⟩ | hL
      · cases e
      · exact hL
    exact ⟨hbl.trans (below_set _ b _ _), Or.inr ⟨_, _, _, by rw [nGoOn, if_neg (by omega), if_pos ⟨rfl, by omega, by omega⟩], rfl, har.set0 _ [120, 84] (by decide) (by decide) (Or.inr (hL.re (st' := { st with rest := [120, 84], tx := st.tx + 1 }) rfl (fun _ => Or.inl (by simp)) id))⟩⟩
  · have HO := hide (show nGoOn st c = none by
      obtain ⟨h, hl, hn, hm⟩ := H.out
      rw [nGoOn, if_neg (by omega), if_neg (by omega)])
    go_enter Try.func21, Try.ntmps21
    go_wp2_with fail
    all_goals first | (go_ret; exact Took.no HO.out H.out.1) | (exfalso; simp only [beq_iff_eq, decide_eq_true_eq] at *; omega)

end Go.Proofs.Ytgpphkdoanciiaa
