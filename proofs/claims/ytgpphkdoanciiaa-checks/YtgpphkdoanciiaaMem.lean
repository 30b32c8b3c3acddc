/-
  The program's reader in memory: its eight cells, the request and the transaction at hand, the two slices that it grows.
-/
import Derived.Test.YtgpphkdoanciiaaScalar
import Derived.Test.YtgpphkdoanciiaaNext
import Derived.Maps.AppendAt
namespace Go.Proofs.Ytgpphkdoanciiaa
open Go.RowKit

theorem empty_yes (s : ByteArray) (h : s.size = 0) : s.toList.isEmpty = true := by
  rw [ByteArray.toList_eq, List.isEmpty_iff_length_eq_zero, Array.length_toList]; exact h
theorem empty_no (s : ByteArray) (h : ¬ s.size = 0) : s.toList.isEmpty = false := by
  rw [Bool.eq_false_iff]; intro e
  rw [ByteArray.toList_eq, List.isEmpty_iff_length_eq_zero, Array.length_toList] at e; exact h e
theorem hide {p : Prop} (h : p) : Hid p := h

theorem cell_other {w : World} {b i j : Nat} {u : Value} {v : Option Value} (h : w.cell? ⟨b, j, none⟩ = v) (hij : i ≠ j) : (w.setCell ⟨b, i, none⟩ u).cell? ⟨b, j, none⟩ = v := by
  rw [World.cell?_setCell_other]
  · exact h
  · intro e; injection e with e1 e2; exact hij e2
theorem froz_set {w : World} {b i j : Nat} {u : Value} {v : Bool} (h : w.frozen? ⟨b, j, none⟩ = v) : (w.setCell ⟨b, i, none⟩ u).frozen? ⟨b, j, none⟩ = v := by
  rw [World.frozen?_setCell]; exact h
theorem cell_far {w : World} {b j i o : Nat} {u : Value} (h : j ≠ b) : (w.setCell ⟨j, i, none⟩ u).cell? ⟨b, o, none⟩ = w.cell? ⟨b, o, none⟩ :=
  World.cell?_setCell_other _ _ _ _ (by intro e; injection e with e1 e2; exact h e1)
theorem below_set (w : World) (b i : Nat) (v : Value) : Below b w (w.setCell ⟨b, i, none⟩ v) := (Below.refl _ _).setCell (Nat.le_refl b) v
theorem below_put (w : World) {b m : Nat} (h : b ≤ m) (i : Nat) (v : Value) : Below b w (w.setCell ⟨m, i, none⟩ v) := (Below.refl _ _).setCell h v

/-- a block that holds these cells -/
structure Bx (j : Nat) (vs : List Value) (w : World) : Prop where
  lt : j < w.heap.size
  cell : ∀ i v, vs[i]? = some v → w.cell? ⟨j, i, none⟩ = some v
  froz : ∀ i, w.frozen? ⟨j, i, none⟩ = false

theorem Bx.new (w : World) (vs : List Value) (T : TypeId) : Bx w.heap.size vs (w.alloc (.cells vs.toArray T)) :=
  ⟨by simp, fun i v h => by rw [World.cell?_alloc_at _ _ _ _ rfl]; simpa using h, fun i => World.frozen?_alloc_at _ _ _ _ rfl⟩
theorem Bx.move {j : Nat} {vs : List Value} {w w' : World} (h : Bx j vs w) (e : w'.heap[j]? = w.heap[j]?) (hs : w.heap.size ≤ w'.heap.size) : Bx j vs w' :=
  ⟨Nat.lt_of_lt_of_le h.lt hs, fun i v hv => by rw [World.cell?_of_block (w := w) e]; exact h.cell i v hv, fun i => by rw [World.frozen?_of_block (w := w) e]; exact h.froz i⟩
theorem Bx.put {j : Nat} {vs : List Value} {w : World} (h : Bx j vs w) (i : Nat) (u : Value) : Bx j (vs.set i u) (w.setCell ⟨j, i, none⟩ u) := by
  refine ⟨by simpa using h.lt, fun m v e => ?_, fun m => by rw [World.frozen?_setCell]; exact h.froz m⟩
  by_cases hm : i = m
  · subst hm
    rw [List.getElem?_set_self'] at e
    cases hv : vs[i]? with
    | none => rw [hv] at e; cases e
    | some x =>
      rw [hv] at e
      simp only [Option.map_eq_map, Option.map_some] at e
      cases e
      exact World.cell?_setCell_same _ _ _ (h.cell i x hv)
  · rw [List.getElem?_set_ne hm] at e
    exact cell_other (h.cell m v e) hm

theorem own_move {w w' : World} {base : Nat} {e : TypeId} {size : Nat} {v : Value} {n : Nat} {xs : List Value} (h : w.ownsRow base e size v n xs) (k : ∀ j, v.ownBlock = some j → w'.heap[j]? = w.heap[j]?) : w'.ownsRow base e size v n xs := by
  obtain ⟨h1, h2⟩ := h
  refine ⟨h1, ?_⟩
  rcases h2 with h2 | ⟨g, cap, cur, hv, hg, hh, r⟩
  · exact Or.inl h2
  · refine Or.inr ⟨g, cap, cur, hv, hg, ?_, r⟩
    rw [k g (by rw [hv]; rfl)]; exact hh
theorem own_slice {w : World} {base : Nat} {e : TypeId} {size : Nat} {v : Value} {n : Nat} {xs : List Value} (h : w.ownsRow base e size v n xs) : ∃ a c, v = .slice a n c := by
  rcases h.2 with ⟨h1, h2⟩ | ⟨g, cap, cur, h1, _⟩
  · exact ⟨_, _, by rw [h1, h2]⟩
  · exact ⟨_, _, h1⟩

/-- what the reader points to -/
structure Gh where
  vr : Value
  xs : List Value
  rq : Option Addr
  tx : Option Addr
  tm : Option Addr
  nm : Option Addr
  q : Nat
  t : Nat
  vb : Value
  ys : List Value

/-- a cell of the request or the transaction at hand that holds a number -/
structure Safe (b : Nat) (g : Gh) (m i : Nat) (w : World) : Prop where
  bm : b < m
  lt : m < w.heap.size
  nr : some m ≠ g.vr.ownBlock
  ny : some m ≠ g.vb.ownBlock
  nq : m = g.q → i < 8
  nt : m = g.t → i < 5
  v : ∃ x : Int, w.cell? ⟨m, i, none⟩ = some (.int .i64 x)
  f : w.frozen? ⟨m, i, none⟩ = false

structure TxL (b : Nat) (g : Gh) (w : World) : Prop where
  tx : g.tx = some ⟨g.t, 0, none⟩
  nq : g.t ≠ g.q
  t : ∀ i, i < 5 → Safe b g g.t i w
  c5 : ∃ s, w.cell? ⟨g.t, 5, none⟩ = some (.string s)
  f5 : w.frozen? ⟨g.t, 5, none⟩ = false

structure Live (b : Nat) (g : Gh) (st : AS) (w : World) : Prop where
  rq : g.rq = some ⟨g.q, 0, none⟩
  q : ∀ i, i < 8 → Safe b g g.q i w
  c8 : w.cell? ⟨g.q, 8, none⟩ = some g.vb
  f8 : w.frozen? ⟨g.q, 8, none⟩ = false
  own : ∃ n : Nat, (n : Int) = st.tx ∧ w.ownsRow (b + 1) 50 1 g.vb n g.ys
  ry : g.vb.ownBlock = none ∨ g.vb.ownBlock ≠ g.vr.ownBlock
  tm : ∃ m, g.tm = some ⟨m, 0, none⟩ ∧ ∀ i, i < 4 → Safe b g m i w
  tx : ((84 : Int) ∈ st.rest ∨ (80 : Int) ∈ st.rest) → TxL b g w
  nm : 0 < st.dig → ∃ m i, g.nm = some ⟨m, i, none⟩ ∧ Safe b g m i w

def cellsOf (g : Gh) (s : ByteArray) (st : AS) : List Value :=
  [.string s, g.vr, .pointer g.rq, .pointer g.tx, .pointer g.tm, .pointer g.nm, .int .i64 st.dig, .int .i64 st.stp]

/-- the program's reader lies in block b as st says -/
structure AR (b : Nat) (g : Gh) (s : ByteArray) (st : AS) (w : World) : Prop where
  box : Bx b (cellsOf g s st) w
  hs : s.size ≤ 10
  ht : txt s = st.rest
  own : ∃ n : Nat, (n : Int) = st.req ∧ w.ownsRow (b + 1) 49 1 g.vr n g.xs
  lv : (st.rest = [82] ∧ ¬ 0 < st.dig) ∨ Live b g st w

/-- all blocks but b stay -/
structure Oth (b : Nat) (w w' : World) : Prop where
  size : w.heap.size ≤ w'.heap.size
  blk : ∀ k, k < w.heap.size → k ≠ b → w'.heap[k]? = w.heap[k]?

theorem Oth.set (b : Nat) (w : World) (i : Nat) (v : Value) : Oth b w (w.setCell ⟨b, i, none⟩ v) :=
  ⟨by simp, fun k _ hk => Below.heap_setCell _ _ _ _ (by simpa using hk)⟩
theorem Oth.alloc (b : Nat) (w : World) (o : Obj) : Oth b w (w.alloc o) := ⟨by simp, fun k hk _ => Below.heap_alloc _ _ _ hk⟩
theorem Oth.drewN (b : Nat) (w : World) (n : Nat) : Oth b w (w.drewN n) := ⟨Nat.le_refl _, fun _ _ _ => rfl⟩

theorem Safe.oth {b m i : Nat} {g : Gh} {w w' : World} (h : Safe b g m i w) (o : Oth b w w') : Safe b g m i w' := by
  have e := o.blk m h.lt (by have := h.bm; omega)
  exact ⟨h.bm, Nat.lt_of_lt_of_le h.lt o.size, h.nr, h.ny, h.nq, h.nt, by rw [World.cell?_of_block (w := w) e]; exact h.v, by rw [World.frozen?_of_block (w := w) e]; exact h.f⟩
theorem TxL.oth {b : Nat} {g : Gh} {w w' : World} (h : TxL b g w) (o : Oth b w w') : TxL b g w' := by
  have h0 := h.t 0 (by decide)
  have e := o.blk g.t h0.lt (by have := h0.bm; omega)
  exact ⟨h.tx, h.nq, fun i hi => (h.t i hi).oth o, by rw [World.cell?_of_block (w := w) e]; exact h.c5, by rw [World.frozen?_of_block (w := w) e]; exact h.f5⟩
theorem Live.oth {b : Nat} {g : Gh} {st : AS} {w w' : World} (h : Live b g st w) (o : Oth b w w') : Live b g st w' := by
  have h0 := h.q 0 (by decide)
  have e := o.blk g.q h0.lt (by have := h0.bm; omega)
  refine ⟨h.rq, fun i hi => (h.q i hi).oth o, by rw [World.cell?_of_block (w := w) e]; exact h.c8, by rw [World.frozen?_of_block (w := w) e]; exact h.f8, ?_, h.ry, ?_, fun hx => (h.tx hx).oth o, ?_⟩
  · obtain ⟨n, hn, ho⟩ := h.own
    exact ⟨n, hn, own_move ho fun j hj => o.blk j (ho.lt j hj).2 (by have := (ho.lt j hj).1; omega)⟩
  · obtain ⟨m, hm, hs⟩ := h.tm
    exact ⟨m, hm, fun i hi => (hs i hi).oth o⟩
  · intro hd
    obtain ⟨m, i, hm, hs⟩ := h.nm hd
    exact ⟨m, i, hm, hs.oth o⟩
theorem ownr_oth {b : Nat} {g : Gh} {n : Nat} {w w' : World} (ho : w.ownsRow (b + 1) 49 1 g.vr n g.xs) (o : Oth b w w') : w'.ownsRow (b + 1) 49 1 g.vr n g.xs :=
  own_move ho fun j hj => o.blk j (ho.lt j hj).2 (by have := (ho.lt j hj).1; omega)

/-- what must be said of the reader but its own cells -/
theorem Live.re {b : Nat} {g : Gh} {st st' : AS} {w : World} (h : Live b g st w) (ht : st'.tx = st.tx) (hr : ((84 : Int) ∈ st'.rest ∨ (80 : Int) ∈ st'.rest) → ((84 : Int) ∈ st.rest ∨ (80 : Int) ∈ st.rest)) (hd : 0 < st'.dig → 0 < st.dig) : Live b g st' w :=
  ⟨h.rq, h.q, h.c8, h.f8, by rw [ht]; exact h.own, h.ry, h.tm, fun hx => h.tx (hr hx), fun hx => h.nm (hd hx)⟩

/-- another shape -/
theorem AR.set0 {b : Nat} {g : Gh} {s : ByteArray} {st : AS} {w : World} (h : AR b g s st w) (s' : ByteArray) (r : List Int) (hs : s'.size ≤ 10) (ht : txt s' = r)
    (hl : (r = [82] ∧ ¬ 0 < st.dig) ∨ Live b g { st with rest := r } w) : AR b g s' { st with rest := r } (w.setCell ⟨b, 0, none⟩ (.string s')) := by
  refine ⟨h.box.put 0 _, hs, ht, ?_, ?_⟩
  · obtain ⟨n, hn, ho⟩ := h.own
    exact ⟨n, hn, ownr_oth ho (Oth.set b w 0 _)⟩
  · rcases hl with hl | hl
    · exact Or.inl hl
    · exact Or.inr (hl.oth (Oth.set b w 0 _))
theorem AR.set6 {b : Nat} {g : Gh} {s : ByteArray} {st : AS} {w : World} (h : AR b g s st w) (d : Int) (hd : 0 < d → 0 < st.dig) : AR b g s { st with dig := d } (w.setCell ⟨b, 6, none⟩ (.int .i64 d)) := by
  refine ⟨h.box.put 6 _, h.hs, h.ht, ?_, ?_⟩
  · obtain ⟨n, hn, ho⟩ := h.own
    exact ⟨n, hn, ownr_oth ho (Oth.set b w 6 _)⟩
  · rcases h.lv with ⟨h1, h2⟩ | hl
    · exact Or.inl ⟨h1, fun hx => h2 (hd hx)⟩
    · exact Or.inr ((hl.re (st' := { st with dig := d }) rfl id hd).oth (Oth.set b w 6 _))
theorem AR.set7 {b : Nat} {g : Gh} {s : ByteArray} {st : AS} {w : World} (h : AR b g s st w) (d : Int) : AR b g s { st with stp := d } (w.setCell ⟨b, 7, none⟩ (.int .i64 d)) := by
  refine ⟨h.box.put 7 _, h.hs, h.ht, ?_, ?_⟩
  · obtain ⟨n, hn, ho⟩ := h.own
    exact ⟨n, hn, ownr_oth ho (Oth.set b w 7 _)⟩
  · rcases h.lv with h1 | hl
    · exact Or.inl h1
    · exact Or.inr ((hl.re (st' := { st with stp := d }) rfl id id).oth (Oth.set b w 7 _))

/-- one cell of another block written -/
theorem cell_one {w : World} {m i m' i' : Nat} {u v : Value} (h : w.cell? ⟨m', i', none⟩ = some v) : (w.setCell ⟨m, i, none⟩ u).cell? ⟨m', i', none⟩ = some (if m = m' ∧ i = i' then u else v) := by
  by_cases e : m = m' ∧ i = i'
  · obtain ⟨rfl, rfl⟩ := e
    rw [if_pos ⟨rfl, rfl⟩]; exact World.cell?_setCell_same _ _ _ h
  · rw [if_neg e, World.cell?_setCell_other]
    · exact h
    · intro e'; injection e' with e1 e2; exact e ⟨e1, e2⟩
theorem Safe.int {b m i m' i' : Nat} {g : Gh} {w : World} (h : Safe b g m' i' w) (x : Int) : Safe b g m' i' (w.setCell ⟨m, i, none⟩ (.int .i64 x)) := by
  refine ⟨h.bm, by simpa using h.lt, h.nr, h.ny, h.nq, h.nt, ?_, by rw [World.frozen?_setCell]; exact h.f⟩
  obtain ⟨v, hv⟩ := h.v
  rw [cell_one hv]
  by_cases e : m = m' ∧ i = i'
  · exact ⟨x, by rw [if_pos e]⟩
  · exact ⟨v, by rw [if_neg e]⟩
theorem TxL.int {b m i : Nat} {g : Gh} {w : World} (h : TxL b g w) (hs : Safe b g m i w) (x : Int) : TxL b g (w.setCell ⟨m, i, none⟩ (.int .i64 x)) := by
  refine ⟨h.tx, h.nq, fun j hj => (h.t j hj).int x, ?_, by rw [World.frozen?_setCell]; exact h.f5⟩
  obtain ⟨s, hc⟩ := h.c5
  exact ⟨s, by rw [cell_one hc, if_neg (fun e => by have := hs.nt e.1; omega)]⟩
theorem Live.int {b m i : Nat} {g : Gh} {st : AS} {w : World} (h : Live b g st w) (hs : Safe b g m i w) (x : Int) : Live b g st (w.setCell ⟨m, i, none⟩ (.int .i64 x)) := by
  refine ⟨h.rq, fun j hj => (h.q j hj).int x, by rw [cell_one h.c8, if_neg (fun e => by have := hs.nq e.1; omega)], by rw [World.frozen?_setCell]; exact h.f8, ?_, h.ry, ?_, fun hx => (h.tx hx).int hs x, ?_⟩
  · obtain ⟨n, hn, ho⟩ := h.own
    exact ⟨n, hn, own_move ho fun j hj => Below.heap_setCell _ _ _ _ (fun e => hs.ny (by rw [hj]; simp at e; rw [e]))⟩
  · obtain ⟨m', hm, hs'⟩ := h.tm
    exact ⟨m', hm, fun j hj => (hs' j hj).int x⟩
  · intro hd
    obtain ⟨m', i', hm, hs'⟩ := h.nm hd
    exact ⟨m', i', hm, hs'.int x⟩
theorem AR.int {b m i : Nat} {g : Gh} {s : ByteArray} {st : AS} {w : World} (h : AR b g s st w) (hl : Live b g st w) (hs : Safe b g m i w) (x : Int) : AR b g s st (w.setCell ⟨m, i, none⟩ (.int .i64 x)) := by
  refine ⟨h.box.move (Below.heap_setCell _ _ _ _ (by have := hs.bm; simp; omega)) (by simp), h.hs, h.ht, ?_, Or.inr (hl.int hs x)⟩
  obtain ⟨n, hn, ho⟩ := h.own
  exact ⟨n, hn, own_move ho fun j hj => Below.heap_setCell _ _ _ _ (fun e => hs.nr (by rw [hj]; simp at e; rw [e]))⟩

end Go.Proofs.Ytgpphkdoanciiaa
