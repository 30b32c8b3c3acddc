/-
  The program's loop over the bytes of a batch: its body, and the ways of a round.
-/
import Derived.Test.YtgpphkdoanciiaaBegin2
import Derived.WalkMore
namespace Go.Proofs.Ytgpphkdoanciiaa
open Go.RowKit

theorem AR.live {b : Nat} {g : Gh} {s : ByteArray} {st : AS} {w : World} (h : AR b g s st w) (hr : ¬ st.rest = [82]) : Live b g st w := by
  rcases h.lv with ⟨e, _⟩ | hl
  · exact absurd e hr
  · exact hl
theorem AR.liveD {b : Nat} {g : Gh} {s : ByteArray} {st : AS} {w : World} (h : AR b g s st w) (hr : 0 < st.dig) : Live b g st w := by
  rcases h.lv with ⟨_, e⟩ | hl
  · exact absurd hr e
  · exact hl
theorem AR.tail {b : Nat} {g : Gh} {s : ByteArray} {st : AS} {w : World} (h : AR b g s st w) {x : Int} {tl : List Int} (hr : st.rest = x :: tl) (hx : ¬ x = 82) :
    AR b g (s.extract 1 s.size) { st with rest := tl } (w.setCell ⟨b, 0, none⟩ (.string (s.extract 1 s.size))) := by
  have hl := h.live (by rw [hr]; intro e; injection e with e; exact hx e)
  refine h.set0 _ tl (size_tail s h.hs) (by rw [txt_tail, h.ht, hr]; rfl) (Or.inr (hl.re (st' := { st with rest := tl }) rfl (fun hm => ?_) id))
  rw [hr]
  rcases hm with hm | hm
  · exact Or.inl (List.mem_cons_of_mem _ hm)
  · exact Or.inr (List.mem_cons_of_mem _ hm)
/-- a program is kept -/
theorem AR.prog {b : Nat} {g : Gh} {s : ByteArray} {st : AS} {w : World} (h : AR b g s st w) (hl : Live b g st w) (hx : TxL b g w) (p : ByteArray) : AR b g s st (w.setCell ⟨g.t, 5, none⟩ (.string p)) := by
  have ht := hx.t 0 (by decide)
  have hbt := ht.bm
  have far : ∀ m i, Safe b g m i w → Safe b g m i (w.setCell ⟨g.t, 5, none⟩ (.string p)) := by
    intro m i hs
    refine ⟨hs.bm, by simpa using hs.lt, hs.nr, hs.ny, hs.nq, hs.nt, ?_, by rw [World.frozen?_setCell]; exact hs.f⟩
    obtain ⟨x, hv⟩ := hs.v
    exact ⟨x, by rw [cell_one hv, if_neg (fun e => by have := hs.nt e.1.symm; omega)]⟩
  have X : TxL b g (w.setCell ⟨g.t, 5, none⟩ (.string p)) := by
    obtain ⟨sx, hsx⟩ := hx.c5
    exact ⟨hx.tx, hx.nq, fun i hi => far _ _ (hx.t i hi), ⟨p, World.cell?_setCell_same _ _ _ hsx⟩, by rw [World.frozen?_setCell]; exact hx.f5⟩
  refine ⟨h.box.move (Below.heap_setCell _ _ _ _ (by simp; omega)) (by simp), h.hs, h.ht, ?_, Or.inr ⟨hl.rq, fun i hi => far _ _ (hl.q i hi), ?_, by rw [World.frozen?_setCell]; exact hl.f8, ?_, hl.ry, ?_, fun _ => X, ?_⟩⟩
  · obtain ⟨n, hn, ho⟩ := h.own
    exact ⟨n, hn, own_move ho fun j hj => Below.heap_setCell _ _ _ _ (fun e => ht.nr (by rw [hj]; simp at e; rw [e]))⟩
  · rw [cell_one hl.c8, if_neg (fun e => hx.nq e.1)]
  · obtain ⟨n, hn, ho⟩ := hl.own
    exact ⟨n, hn, own_move ho fun j hj => Below.heap_setCell _ _ _ _ (fun e => ht.ny (by rw [hj]; simp at e; rw [e]))⟩
  · obtain ⟨m, hm, hs⟩ := hl.tm
    exact ⟨m, hm, fun i hi => far _ _ (hs i hi)⟩
  · intro hd
    obtain ⟨m, i, hm, hs⟩ := hl.nm hd
    exact ⟨m, i, hm, far _ _ hs⟩

theorem byte_bd (x : UInt8) : 0 ≤ (x.toNat : Int) ∧ (x.toNat : Int) < 256 := ⟨by omega, by have := x.toNat_lt; omega⟩

/-- one more digit -/
theorem did_digit {b : Nat} {g : Gh} {s : ByteArray} {st : AS} {w : World} {m i : Nat} (h : AR b g s st w) (hd : 0 < st.dig) (hs : Safe b g m i w) (x : Int) {w' : World}
    (hw : w'.heap = ((w.setCell ⟨b, 6, none⟩ (.int .i64 (st.dig - 1))).setCell ⟨m, i, none⟩ (.int .i64 x)).heap) : AR b g s { st with dig := st.dig - 1 } w' := by
  have h1 := h.set6 (st.dig - 1) (fun _ => hd)
  have o := Oth.set b w 6 (.int .i64 (st.dig - 1))
  have hl1 := ((h.liveD hd).re (st' := { st with dig := st.dig - 1 }) rfl id (fun _ => hd)).oth o
  exact (h1.int hl1 (hs.oth o) x).same hw


def firstLoop : Code → Option Code
  | .loop c => some c
  | .seq a b => match firstLoop a with
    | some c => some c
    | none => firstLoop b
  | .block _ c => firstLoop c
  | .scope c => firstLoop c
  | .cond _ a b => match firstLoop a with
    | some c => some c
    | none => firstLoop b
  | _ => none
/-- the loop's body -/
noncomputable def rdBody : Code := (Try.f13.body.bind firstLoop).getD .skip
set_option maxRecDepth 1000000 in
/-- the loop's frame -/
def Fr (b : Nat) (B : ByteArray) (i : Value) (a : Act) : Prop := ∃ u6 u7 u8 u9 u10 u11 u12 u13 u14 u15 u16 u17 u18 u19 u20 u21 u22 u23 u24 u25 u26 u27 u28 u29 u30 u31 u32 u33 u34 u35 u36 u37 u38 u39 u40 u41 u42 u43 u44 u45 u46 u47 u48 u49 u50 u51 u52 u53 u54 u55 u56 u57 u58 u59 u60 u61 u62 u63 u64 u65 u66 u67 u68 u69 u70 u71 u72 u73 u74 u75 u76 u77 u78 u79 u80 u81 u82 u83 u84 u85 u86 u87 u88 u89 u90 u91 u92 u93 u94 u95 u96 u97 u98 u99 u100 u101 u102 u103 u104 u105 u106 u107 u108 u109 u110 u111 u112 u113 u114 u115 u116 u117 u118 u119 u120 u121 u122 u123 u124 u125 u126 u127 u128 u129 u130 u131 u132 u133 u134 u135 u136 u137 u138 u139 u140 u141 u142 u143 u144 u145 u146 : Value, a = ⟨#[.pointer (some ⟨b, 0, none⟩), .string B, undef, undef, .int .i64 0, i, u6, u7, u8, u9, u10, u11, u12, u13, u14, u15, u16, u17, u18, u19, u20, u21, u22, u23, u24, u25, u26, u27, u28, u29, u30, u31, u32, u33, u34, u35, u36, u37, u38, u39, u40, u41, u42, u43, u44, u45, u46, u47, u48, u49, u50, u51, u52, u53, u54, u55, u56, u57, u58, u59, u60, u61, u62, u63, u64, u65, u66, u67, u68, u69, u70, u71, u72, u73, u74, u75, u76, u77, u78, u79, u80, u81, u82, u83, u84, u85, u86, u87, u88, u89, u90, u91, u92, u93, u94, u95, u96, u97, u98, u99, u100, u101, u102, u103, u104, u105, u106, u107, u108, u109, u110, u111, u112, u113, u114, u115, u116, u117, u118, u119, u120, u121, u122, u123, u124, u125, u126, u127, u128, u129, u130, u131, u132, u133, u134, u135, u136, u137, u138, u139, u140, u141, u142, u143, u144, u145, u146], []⟩
/-- what is asked where the loop is left -/
def QQ (X : Act → World → Prop) : Exit → Act → World → Prop
  | .exit 0, a, w => X a w
  | _, _, _ => False
def Nxt (b : Nat) (B : ByteArray) (k : Nat) (st : AS) (wr w' : World) : Prop := ∃ (h : k < B.size) (g' : Gh) (s' : ByteArray) (st' : AS), nStep st (B[k].toNat : Int) = some st' ∧ AR b g' s' st' w' ∧ Below b wr w'
def Stp (b : Nat) (B : ByteArray) (k : Nat) (st : AS) (wr w' : World) : Prop := ∃ h : k < B.size, nStep st (B[k].toNat : Int) = none ∧ Below b wr w' ∧ ∃ g s st, AR b g s st w'
theorem not_dig {d : Int} {x : Bool} (h : (0 < d ∧ x = false) ∨ d ≤ 0) : ¬ (0 < d ∧ x = true) := by
  rintro ⟨h1, h2⟩
  rcases h with ⟨_, h⟩ | h
  · rw [h] at h2; cases h2
  · omega

end Go.Proofs.Ytgpphkdoanciiaa
