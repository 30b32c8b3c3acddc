/-
  The program's reader: a transaction and a request begin.
-/
import Derived.Test.YtgpphkdoanciiaaTake
import Derived.Deep.RegionLaw
namespace Go.Proofs.Ytgpphkdoanciiaa
open Go.RowKit

/-- append onto a slice that the call has made, as one step of a region that draws its order -/
theorem step_append_own {P : Program} {ops : Array Oper} {o : Oper} {a : Act} {w : World} {K : Act → World → Prop} {Q : Exit → Act → World → Prop} {E : Prop}
    (hg : o.guard = none) (s x : Operand) (t : TypeId) (hop : o.op = Op.call { callee := Callee.builtin Builtin.append, args := #[s, x], argTypes := #[t, t] })
    (base : Nat) (e : TypeId) (i : TypeInfo) (z : Value) (size bytes : Nat) (ht : P.underlying t = some (.slice e)) (hi : P.info? e = some i) (hz : i.zero = some z)
    (hsize : i.size = size) (hby : i.bytes = bytes) (hzs : z.cells.size = size) (hsz : 0 < size)
    (v : Value) (n : Nat) (xs : List Value) (hs : a.eval s = v) (hown : w.ownsRow base e size v n xs)
    (ad : Addr) (m c : Nat) (news : List Value) (hx : a.eval x = .slice (some ad) m c) (hl : news.length = m * size) (hnews : ∀ j u, news[j]? = some u → w.cell? (ad.add j) = some u) (h1 : ∀ u ∈ news, u.oneCell' = true)
    (h63 : n + m ≤ maxLen) (hbytes : (n + m) * bytes ≤ 140737488355328) (hbase : base ≤ w.heap.size)
    (h : ∀ v' w', w'.ownsRow base e size v' (n + m) (xs ++ news) → w.grownBy w' v.ownBlock → (v'.ownBlock = v.ownBlock ∨ v'.ownBlock = some w.heap.size) → K (a.put o.dst v') w') :
    if Region.wanted o (yielded ops a.tmps) = true then Oper.wp P o a w K Q else E := by
  have hw : Region.wanted o (yielded ops a.tmps) = true := by simp [Region.wanted, hg]
  rw [if_pos hw]
  obtain ⟨v', w', hr, h2, h3, _, h5⟩ := run_append_own_at (P := P) w base t o.type e i z size bytes ht hi hz hsize hby hzs hsz v n xs hown ad m c news hl hnews h1 h63 hbytes hbase
  unfold Oper.wp
  simp [execOp, hop, resolve, invoke, builtin, hs, hx, hr, Result.andThen]
  exact h v' w' h2 h3 h5

theorem AR.alloc {b : Nat} {g : Gh} {s : ByteArray} {st : AS} {w : World} (h : AR b g s st w) (o : Obj) : AR b g s st (w.alloc o) := by
  refine ⟨h.box.move (Below.heap_alloc _ _ _ h.box.lt) (by simp), h.hs, h.ht, ?_, ?_⟩
  · obtain ⟨n, hn, ho⟩ := h.own
    exact ⟨n, hn, ownr_oth ho (Oth.alloc b w o)⟩
  · rcases h.lv with h1 | hl
    · exact Or.inl h1
    · exact Or.inr (hl.oth (Oth.alloc b w o))

theorem Safe.newt {b m i : Nat} {g : Gh} {w : World} (h : Safe b g m i w) (T : Nat) (x : Option Addr) (hT : m ≠ T) : Safe b { g with t := T, tx := x } m i w :=
  ⟨h.bm, h.lt, h.nr, h.ny, h.nq, fun e => absurd e hT, h.v, h.f⟩
theorem Safe.tms {b m i : Nat} {g : Gh} {w : World} (h : Safe b g m i w) (x : Option Addr) : Safe b { g with tm := x } m i w :=
  ⟨h.bm, h.lt, h.nr, h.ny, h.nq, h.nt, h.v, h.f⟩
theorem TxL.tms {b : Nat} {g : Gh} {w : World} (h : TxL b g w) (x : Option Addr) : TxL b { g with tm := x } w :=
  ⟨h.tx, h.nq, fun i hi => (h.t i hi).tms x, h.c5, h.f5⟩

def zeroTx : List Value := [.int .i64 0, .int .i64 0, .int .i64 0, .int .i64 0, .int .i64 0, .string ⟨#[]⟩]
def gTx (g : Gh) (T : Nat) : Gh := { g with t := T, tx := some ⟨T, 0, none⟩ }

theorem own_ne {w : World} {base : Nat} {e : TypeId} {size : Nat} {v : Value} {n : Nat} {xs : List Value} (h : w.ownsRow base e size v n xs) : some w.heap.size ≠ v.ownBlock := by
  intro e'
  have := (h.lt _ e'.symm).2
  omega

def wTx (b : Nat) (w : World) : World := (w.setCell ⟨b, 3, none⟩ (.pointer (some ⟨w.heap.size, 0, none⟩))).alloc (.cells #[.int .i64 0, .int .i64 0, .int .i64 0, .int .i64 0, .int .i64 0, .string ⟨#[]⟩] 73)
theorem Oth.trans {b : Nat} {w u v : World} (h : Oth b w u) (k : Oth b u v) : Oth b w v := ⟨Nat.le_trans h.size k.size, fun j hj hb => (k.blk j (Nat.lt_of_lt_of_le hj h.size) hb).trans (h.blk j hj hb)⟩
theorem oth_wTx (b : Nat) (w : World) : Oth b w (wTx b w) := (Oth.set b w 3 _).trans (Oth.alloc b _ _)
theorem bx_wTx (b : Nat) (w : World) : Bx w.heap.size zeroTx (wTx b w) := by
  have := Bx.new (w.setCell ⟨b, 3, none⟩ (.pointer (some ⟨w.heap.size, 0, none⟩))) zeroTx 73
  rw [World.size_setCell] at this
  exact this
theorem size_wTx (b : Nat) (w : World) : (wTx b w).heap.size = w.heap.size + 1 := by simp [wTx]
/-- a new transaction's block -/
theorem AR.newTx {b : Nat} {g : Gh} {s : ByteArray} {st : AS} {w : World} (h : AR b g s st w) (hl : Live b g st w) (hd : st.dig = 0) :
    AR b (gTx g w.heap.size) s st (wTx b w) ∧ Live b (gTx g w.heap.size) st (wTx b w) ∧ TxL b (gTx g w.heap.size) (wTx b w) := by
  have hblt := h.box.lt
  have o := oth_wTx b w
  have hl1 := hl.oth o
  have hB := bx_wTx b w
  obtain ⟨nr, hnr, hor⟩ := h.own
  obtain ⟨ny, hny, hoy⟩ := hl.own
  have hqlt := (hl.q 0 (by decide)).lt
  have hx0 : TxL b (gTx g w.heap.size) (wTx b w) := by
    refine ⟨rfl, by simp only [gTx]; omega, fun i hi => ⟨by simp only [gTx]; omega, by simp [gTx, size_wTx], own_ne hor, own_ne hoy, fun e => by simp only [gTx] at e; omega, fun _ => hi, ?_, hB.froz i⟩, ⟨⟨#[]⟩, hB.cell 5 _ rfl⟩, hB.froz 5⟩
    match i, hi with
    | 0, _ => exact ⟨0, hB.cell 0 _ rfl⟩
    | 1, _ => exact ⟨0, hB.cell 1 _ rfl⟩
    | 2, _ => exact ⟨0, hB.cell 2 _ rfl⟩
    | 3, _ => exact ⟨0, hB.cell 3 _ rfl⟩
    | 4, _ => exact ⟨0, hB.cell 4 _ rfl⟩
  have hL : Live b (gTx g w.heap.size) st (wTx b w) := by
    refine ⟨hl1.rq, fun i hi => (hl1.q i hi).newt _ _ (by simp only [ne_eq]; omega), hl1.c8, hl1.f8, hl1.own, hl1.ry, ?_, fun _ => hx0, fun e => by omega⟩
    obtain ⟨m, hm, hs⟩ := hl.tm
    have hs1 := fun i hi => (hs i hi).oth o
    exact ⟨m, hm, fun i hi => (hs1 i hi).newt _ _ (by have := (hs i hi).lt; simp only [ne_eq]; omega)⟩
  refine ⟨⟨(h.box.put 3 _).move (Below.heap_alloc _ _ _ (by simpa using hblt)) (by rw [size_wTx]; simp), h.hs, h.ht, ?_, Or.inr hL⟩, hL, hx0⟩
  exact ⟨nr, hnr, ownr_oth (g := gTx g w.heap.size) hor o⟩

theorem Safe.grow {b m i : Nat} {g : Gh} {w w' : World} (h : Safe b g m i w) (hg : w.grownBy w' g.vb.ownBlock) {v' : Value} {ys' : List Value} (hat : v'.ownBlock = g.vb.ownBlock ∨ v'.ownBlock = some w.heap.size) : Safe b { g with vb := v', ys := ys' } m i w' := by
  have e := hg.block m h.lt h.ny
  refine ⟨h.bm, Nat.lt_of_lt_of_le h.lt hg.size, h.nr, ?_, h.nq, h.nt, by rw [World.cell?_of_block (w := w) e]; exact h.v, by rw [World.frozen?_of_block (w := w) e]; exact h.f⟩
  show some m ≠ v'.ownBlock
  rcases hat with e | e
  · rw [e]; exact h.ny
  · rw [e]; intro e'; injection e' with e'; have := h.lt; omega
theorem Safe.put8 {b m i : Nat} {g : Gh} {w : World} (h : Safe b g m i w) (v : Value) : Safe b g m i (w.setCell ⟨g.q, 8, none⟩ v) := by
  refine ⟨h.bm, by simpa using h.lt, h.nr, h.ny, h.nq, h.nt, ?_, by rw [World.frozen?_setCell]; exact h.f⟩
  obtain ⟨x, hx⟩ := h.v
  exact ⟨x, by rw [cell_one hx, if_neg (fun e => by have := h.nq e.1.symm; omega)]⟩

def gGrow (g : Gh) (v : Value) (ys : List Value) : Gh := { g with vb := v, ys := ys }
def stGrow (st : AS) : AS := { st with tx := st.tx + 1 }

/-- the block's slice, one longer -/
theorem AR.grow {b n : Nat} {g : Gh} {s : ByteArray} {st : AS} {w w' : World} {v' : Value} {ys' : List Value} (h : AR b g s st w) (hl : Live b g st w) (hd : st.dig = 0) (hx : TxL b g w) (hn : (n : Int) = st.tx)
    (ho : w'.ownsRow (b + 1) 50 1 v' (n + 1) ys') (hg : w.grownBy w' g.vb.ownBlock) (hat : v'.ownBlock = g.vb.ownBlock ∨ v'.ownBlock = some w.heap.size) :
    AR b (gGrow g v' ys') s (stGrow st) (w'.setCell ⟨g.q, 8, none⟩ v') ∧ Live b (gGrow g v' ys') (stGrow st) (w'.setCell ⟨g.q, 8, none⟩ v') ∧ TxL b (gGrow g v' ys') (w'.setCell ⟨g.q, 8, none⟩ v') := by
  have hq0 := hl.q 0 (by decide)
  have hqlt := hq0.lt
  have hbq := hq0.bm
  obtain ⟨nr, hnr, hor⟩ := h.own
  obtain ⟨ny, hny, hoy⟩ := hl.own
  have eq := hg.block g.q hqlt hq0.ny
  have hvq : ∀ j, v'.ownBlock = some j → ¬ g.q = j := by
    intro j hj
    rcases hat with e | e
    · rw [e] at hj; intro e'; exact hq0.ny (by rw [hj, e'])
    · rw [e] at hj; injection hj with hj; omega
  have hrb : ∀ j, g.vr.ownBlock = some j → ¬ v'.ownBlock = some j := by
    intro j hj e'
    rcases hat with e | e
    · rcases hl.ry with r | r
      · rw [e, r] at e'; cases e'
      · exact r (by rw [← e, e', hj])
    · rw [e] at e'; injection e' with e'; have := (hor.lt j hj).2; omega
  have S : ∀ m i, Safe b g m i w → Safe b (gGrow g v' ys') m i (w'.setCell ⟨g.q, 8, none⟩ v') := fun m i hs => Safe.put8 (g := gGrow g v' ys') (hs.grow hg hat) v'
  have ht0 := hx.t 0 (by decide)
  have et := hg.block g.t ht0.lt ht0.ny
  have X : TxL b (gGrow g v' ys') (w'.setCell ⟨g.q, 8, none⟩ v') := by
    refine ⟨hx.tx, hx.nq, fun i hi => S _ _ (hx.t i hi), ?_, ?_⟩
    · obtain ⟨sx, hsx⟩ := hx.c5
      refine ⟨sx, ?_⟩
      show (w'.setCell ⟨g.q, 8, none⟩ v').cell? ⟨g.t, 5, none⟩ = _
      rw [cell_far (fun e => hx.nq e.symm), World.cell?_of_block (w := w) et]; exact hsx
    · show (w'.setCell ⟨g.q, 8, none⟩ v').frozen? ⟨g.t, 5, none⟩ = _
      rw [World.frozen?_setCell, World.frozen?_of_block (w := w) et]; exact hx.f5
  have L : Live b (gGrow g v' ys') (stGrow st) (w'.setCell ⟨g.q, 8, none⟩ v') := by
    refine ⟨hl.rq, fun i hi => S _ _ (hl.q i hi), ?_, ?_, ⟨n + 1, by simp [stGrow]; omega, own_move ho fun j hj => Below.heap_setCell _ _ _ _ (by simp; intro e; exact hvq j hj e.symm)⟩, ?_, ?_, fun _ => X, fun e => by simp only [stGrow] at e; omega⟩
    · have e8 : w'.cell? ⟨g.q, 8, none⟩ = some g.vb := by rw [World.cell?_of_block (w := w) eq]; exact hl.c8
      exact World.cell?_setCell_same _ _ _ e8
    · show (w'.setCell ⟨g.q, 8, none⟩ v').frozen? ⟨g.q, 8, none⟩ = _
      rw [World.frozen?_setCell, World.frozen?_of_block (w := w) eq]; exact hl.f8
    · show v'.ownBlock = none ∨ v'.ownBlock ≠ g.vr.ownBlock
      cases hv : v'.ownBlock with
      | none => exact Or.inl rfl
      | some j => exact Or.inr fun e => hrb j e.symm hv
    · obtain ⟨m, hm, hs⟩ := hl.tm
      exact ⟨m, hm, fun i hi => S _ _ (hs i hi)⟩
  have nb : some b ≠ g.vb.ownBlock := fun e => by have := (hoy.lt b e.symm).1; omega
  refine ⟨⟨?_, h.hs, h.ht, ⟨nr, hnr, ?_⟩, Or.inr L⟩, L, X⟩
  · exact (h.box.move (hg.block b h.box.lt nb) hg.size).move (Below.heap_setCell _ _ _ _ (by simp; omega)) (by simp)
  · refine own_move hor fun j (hj : g.vr.ownBlock = some j) => ?_
    have hjl := hor.lt j hj
    have nj : some j ≠ g.vb.ownBlock := fun e => by
      rcases hl.ry with r | r
      · rw [r] at e; cases e
      · exact r (by rw [← e, hj])
    have nq : ¬ j = g.q := fun e => hq0.nr (by rw [hj, e])
    rw [Below.heap_setCell _ _ _ _ (by simpa using nq)]
    exact hg.block j hjl.2 nj

/-- which terms are at hand -/
theorem AR.put4 {b m : Nat} {g : Gh} {s : ByteArray} {st : AS} {w : World} (h : AR b g s st w) (hl : Live b g st w) (hs : ∀ i, i < 4 → Safe b g m i w) (hd : st.dig = 0) :
    AR b { g with tm := some ⟨m, 0, none⟩ } s st (w.setCell ⟨b, 4, none⟩ (.pointer (some ⟨m, 0, none⟩))) ∧ Live b { g with tm := some ⟨m, 0, none⟩ } st (w.setCell ⟨b, 4, none⟩ (.pointer (some ⟨m, 0, none⟩))) := by
  have o := Oth.set b w 4 (.pointer (some ⟨m, 0, none⟩))
  have L : Live b { g with tm := some ⟨m, 0, none⟩ } st w :=
    ⟨hl.rq, fun i hi => (hl.q i hi).tms _, hl.c8, hl.f8, hl.own, hl.ry, ⟨m, rfl, fun i hi => (hs i hi).tms _⟩, fun e => (hl.tx e).tms _, fun e => by omega⟩
  refine ⟨⟨h.box.put 4 _, h.hs, h.ht, ?_, Or.inr (L.oth o)⟩, L.oth o⟩
  obtain ⟨n, hn, ho⟩ := h.own
  exact ⟨n, hn, ownr_oth (g := { g with tm := some ⟨m, 0, none⟩ }) ho o⟩

theorem Try.inf50 : (Try.prog.info? 50).map (fun i => (i.zero, i.size, i.bytes)) = some (some (.pointer none), 1, 8) := by kernel_rfl
theorem Try.inf49 : (Try.prog.info? 49).map (fun i => (i.zero, i.size, i.bytes)) = some (some (.pointer none), 1, 8) := by kernel_rfl


theorem slice_form {w : World} {base : Nat} {e : TypeId} {size : Nat} {v : Value} {n : Nat} {xs : List Value} (h : w.ownsRow base e size v (n + 1) xs) : ∃ g c, v = .slice (some ⟨g, 0, none⟩) (n + 1) c := by
  rcases h.2 with ⟨_, h2⟩ | ⟨g, cap, cur, h1, _⟩
  · omega
  · exact ⟨_, _, h1⟩

theorem did_tx {b n : Nat} {g : Gh} {s : ByteArray} {st : AS} {w w2 : World} {v' vb : Value} (h1 : AR b (gTx g w.heap.size) s st (wTx b w)) (hl1 : Live b (gTx g w.heap.size) st (wTx b w)) (hx1 : TxL b (gTx g w.heap.size) (wTx b w)) (hd : st.dig = 0) (hn : (n : Int) = st.tx) (hvb : g.vb = vb) {o : Obj}
    (hown : w2.ownsRow (b + 1) 50 1 v' (n + 1) (g.ys ++ [.pointer (some ⟨w.heap.size, 0, none⟩)])) (hg : ((wTx b w).alloc o).drew.grownBy w2 vb.ownBlock) (hat : v'.ownBlock = vb.ownBlock ∨ v'.ownBlock = some ((wTx b w).alloc o).drew.heap.size) (hbq : b < g.q) :
    Did b ⟨#[84]⟩ { st with rest := [84], tx := st.tx + 1 } w (((w2.setCell ⟨g.q, 8, none⟩ v').setCell ⟨b, 4, none⟩ (.pointer (some ⟨w.heap.size, 0, none⟩))).setCell ⟨b, 0, none⟩ (.string ⟨#[84]⟩)) := by
  subst hvb
  have o1 := (Oth.alloc b (wTx b w) o).trans (Oth.same b (w' := ((wTx b w).alloc o).drew) rfl)
  have h2 := (h1.alloc o).same (w' := ((wTx b w).alloc o).drew) rfl
  obtain ⟨h3, hl3, hx3⟩ := h2.grow (hl1.oth o1) hd (hx1.oth o1) hn hown hg hat
  obtain ⟨h4, hl4⟩ := h3.put4 hl3 (fun i hi => hx3.t i (by omega)) hd
  have hx4 := (hx3.tms (some ⟨w.heap.size, 0, none⟩)).oth (Oth.set b (w2.setCell ⟨g.q, 8, none⟩ v') 4 (.pointer (some ⟨w.heap.size, 0, none⟩)))
  refine ⟨?_, _, h4.set0 ⟨#[84]⟩ [84] (by decide) (by decide) (Or.inr ⟨hl4.rq, hl4.q, hl4.c8, hl4.f8, hl4.own, hl4.ry, hl4.tm, fun _ => hx4, hl4.nm⟩)⟩
  have hb1 := h1.box.lt
  rw [size_wTx] at hb1
  have B0 : Below b w ((wTx b w).alloc o).drew := (((below_set w b 3 _).alloc (by simp; omega) _).alloc (by simp; omega) _).trans (below_drew1 _ _)
  have hoy := hl1.own
  obtain ⟨ny, _, hoy⟩ := hoy
  have B1 : Below b w w2 := B0.grown hg (by show b ≤ ((wTx b w).alloc o).heap.size; simp [size_wTx]; omega) (fun k hk => by have := (hoy.lt k hk).1; omega)
  exact ((B1.trans (below_put _ (by omega) _ _)).trans (below_set _ _ _ _)).trans (below_set _ _ _ _)

set_option maxRecDepth 100000 in
set_option maxHeartbeats 4000000 in
theorem beginTx_any (b : Nat) (g : Gh) (s : ByteArray) (st : AS) (w : World) (h : AR b g s st w) (hl : Live b g st w) (hd : st.dig = 0) (ht : st.tx ≤ 2000) :
    Calls Try.prog 25 #[.pointer (some ⟨b, 0, none⟩)] w fun e w' =>
      e = .returned (.tuple #[]) ∧ Did b ⟨#[84]⟩ { st with rest := [84], tx := st.tx + 1 } w w' := by
  obtain ⟨h1, hl1, hx1⟩ := h.newTx hl hd
  obtain ⟨n, hn, hown⟩ := hl1.own
  have c2 : w.cell? ⟨b, 2, none⟩ = some (.pointer g.rq) := h.box.cell 2 _ rfl
  rw [hl.rq] at c2
  have c3 : w.cell? ⟨b, 3, none⟩ = some (.pointer g.tx) := h.box.cell 3 _ rfl
  have f3 := h.box.froz 3
  have c8 := hl.c8
  have hblt := h.box.lt
  have hqlt := (hl.q 0 (by decide)).lt
  have hbq := (hl.q 0 (by decide)).bm
  have hne : ¬ b = g.q := by omega
  have hne2 : ¬ b = w.heap.size := by omega
  have hne3 : ¬ g.q = w.heap.size := by omega
  obtain ⟨i0, hi, hz0, hz1, hz2⟩ := info_parts Try.inf50
  have hi' := hide hi
  have hz0' := hide hz0
  have hz1' := hide hz1
  have hz2' := hide hz2
  obtain ⟨vb, hvb⟩ : ∃ vb, g.vb = vb := ⟨_, rfl⟩
  rw [hvb] at c8
  rw [show (gTx g w.heap.size).vb = vb from hvb] at hown
  have hoW : (((w.setCell ⟨b, 3, none⟩ (.pointer (some ⟨w.heap.size, 0, none⟩))).alloc (.cells #[.int .i64 0, .int .i64 0, .int .i64 0, .int .i64 0, .int .i64 0, .string ⟨#[]⟩] 73)).alloc (.cells #[.pointer (some ⟨w.heap.size, 0, none⟩)] 50)).drew.ownsRow (b + 1) 50 1 vb n g.ys :=
    own_move (hown.alloc _) (fun _ _ => rfl)
  have hcW : ∀ j u, [Value.pointer (some ⟨w.heap.size, 0, none⟩)][j]? = some u → (((w.setCell ⟨b, 3, none⟩ (.pointer (some ⟨w.heap.size, 0, none⟩))).alloc (.cells #[.int .i64 0, .int .i64 0, .int .i64 0, .int .i64 0, .int .i64 0, .string ⟨#[]⟩] 73)).alloc (.cells #[.pointer (some ⟨w.heap.size, 0, none⟩)] 50)).drew.cell? ((⟨w.heap.size + 1, 0, none⟩ : Addr).add j) = some u := by
    have := cell_one_new (wTx b w) (.pointer (some ⟨w.heap.size, 0, none⟩)) 50
    rw [size_wTx] at this
    exact this
  have hsW : b + 1 ≤ (((w.setCell ⟨b, 3, none⟩ (.pointer (some ⟨w.heap.size, 0, none⟩))).alloc (.cells #[.int .i64 0, .int .i64 0, .int .i64 0, .int .i64 0, .int .i64 0, .string ⟨#[]⟩] 73)).alloc (.cells #[.pointer (some ⟨w.heap.size, 0, none⟩)] 50)).drew.heap.size := by
    show b + 1 ≤ ((wTx b w).alloc _).heap.size
    simp [size_wTx]; omega
  have HW := hide (And.intro hoW (And.intro hcW hsW))
  have hn1 : n + 1 ≤ maxLen := by unfold maxLen; omega
  have hn2 : (n + 1) * 8 ≤ 140737488355328 := by omega
  have hrow1 : some b ≠ vb.ownBlock := fun e => by have := (hown.lt b e.symm).1; omega
  have hrow2 : some g.q ≠ vb.ownBlock := by rw [← hvb]; exact (hl.q 0 (by decide)).ny
  have H := hide (And.intro h1 (And.intro hl1 (And.intro hx1 (And.intro hn (And.intro hvb (And.intro hrow1 hrow2))))))
  have H0 := hide (And.intro h hl)
  have HN := hide (And.intro hn1 hn2)
  clear hi hz0 hz1 hz2 h1 hl1 hx1 hn hown h hl hvb hoW hcW hsW hn1 hn2 hrow1 hrow2
  go_enter Try.func25, Try.ntmps25
  go_wp2_with fail
  go_region_law (refine step_append_own rfl (.tmp 16) (.tmp 21) 78 rfl (b + 1) 50 i0 (.pointer none) 1 8 Try.underlying78 hi'.out hz0'.out hz1'.out hz2'.out rfl (by decide) vb n g.ys rfl HW.out.1 ⟨w.heap.size + 1, 0, none⟩ 1 1 [.pointer (some ⟨w.heap.size, 0, none⟩)] rfl rfl HW.out.2.1 (by intro u hu; simp at hu; subst hu; rfl) HN.out.1 HN.out.2 HW.out.2.2 ?_; intro v' w2 hown2 hg2 hat2; obtain ⟨gb, gc, hv'⟩ := slice_form hown2; subst hv'; have HG := hide (And.intro hown2 (And.intro hg2 hat2)); have k8 : w2.cell? ⟨g.q, 8, none⟩ = some vb := hg2.cell (a := ⟨g.q, 8, none⟩) (by go_simp) H.out.2.2.2.2.2.2; have kf8 : w2.frozen? ⟨g.q, 8, none⟩ = false := (World.frozen?_of_block (hg2.block g.q (by simp; omega) H.out.2.2.2.2.2.2)).trans (by have := H0.out.2.f8; go_simp); have k2 : w2.cell? ⟨b, 2, none⟩ = some (.pointer (some ⟨g.q, 0, none⟩)) := hg2.cell (a := ⟨b, 2, none⟩) (by go_simp) H.out.2.2.2.2.2.1; have k3 : w2.cell? ⟨b, 3, none⟩ = some (.pointer (some ⟨w.heap.size, 0, none⟩)) := hg2.cell (a := ⟨b, 3, none⟩) (by go_simp) H.out.2.2.2.2.2.1; clear hown2 hg2 hat2)
  all_goals
    have hgr := HG.out.2.1
    have k4 : w2.cell? ⟨b, 4, none⟩ = some (.pointer g.tm) := hgr.cell (a := ⟨b, 4, none⟩) (by have := H0.out.1.box.cell 4 _ rfl; go_simp) H.out.2.2.2.2.2.1
    have k0 : w2.cell? ⟨b, 0, none⟩ = some (.string s) := hgr.cell (a := ⟨b, 0, none⟩) (by have := H0.out.1.box.cell 0 _ rfl; go_simp) H.out.2.2.2.2.2.1
    have kf4 : w2.frozen? ⟨b, 4, none⟩ = false := (World.frozen?_of_block (hgr.block b (by simp; omega) H.out.2.2.2.2.2.1)).trans (by have := H0.out.1.box.froz 4; go_simp)
    have kf0 : w2.frozen? ⟨b, 0, none⟩ = false := (World.frozen?_of_block (hgr.block b (by simp; omega) H.out.2.2.2.2.2.1)).trans (by have := H0.out.1.box.froz 0; go_simp)
    clear hgr
    go_wp2
    go_end0
    exact ⟨rfl, did_tx H.out.1 H.out.2.1 H.out.2.2.1 hd H.out.2.2.2.1 H.out.2.2.2.2.1 HG.out.1 HG.out.2.1 HG.out.2.2 hbq⟩

end Go.Proofs.Ytgpphkdoanciiaa
