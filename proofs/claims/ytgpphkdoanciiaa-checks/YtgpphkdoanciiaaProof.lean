/-
  Proved: for every script, each Check of the program (package attic) answers with the same error and the same place as the document's own reading; the script reads as it did. No condition on the script.
-/
import Derived.Test.YtgpphkdoanciiaaLaw
import Derived.ProofKit
import Derived.Deep.Slices
namespace Go.Proofs.Ytgpphkdoanciiaa
open Go.ChangeShapes Go.WideShapes Go.ChangeAt Go.RowKit Go.Deep

set_option maxRecDepth 100000 in
set_option maxHeartbeats 1000000 in
theorem checks_walk (b off len cap : Nat) (w : World) (hlen : len ≤ maxLen) (hb : b < w.heap.size)
    (hc : ∀ i, i < len → ∃ (kd : Int) (s : ByteArray), w.cell? ⟨b, off + i * 4, none⟩ = some (.int .i64 kd) ∧ w.cell? ⟨b, off + i * 4 + 3, none⟩ = some (.string s) ∧ s.size ≤ maxLen) :
    Calls Try.prog 3 #[.slice (some ⟨b, off, none⟩) len cap] w fun e w' => e = .returned (.bool true) ∧ Below w.heap.size w w' := by
  have hlen' := hlen
  unfold maxLen at hlen'
  have HC := hide hc
  clear hc
  go_enter Try.func3, Try.ntmps3
  go_wp2
  go_loopw [3] (fun i wr => ∃ k : Nat, k ≤ len ∧ i = .int .i64 k ∧ Below w.heap.size w wr) (fun i _ => len - (intOf i).toNat)
  case atStart => exact ⟨0, Nat.zero_le _, rfl, Below.refl _ _⟩
  case round =>
    obtain ⟨k, hk, rfl, hbl⟩ := hrel
    by_cases hlt : k < len
    · obtain ⟨kd, s, d0, d3, hs⟩ := HC.out k hlt
      have c0 := (hbl.cell (p := ⟨b, off + k * 4, none⟩) hb).trans d0
      have c3 := (hbl.cell (p := ⟨b, off + k * 4 + 3, none⟩) hb).trans d3
      clear d0 d3
      cases hkd : (kd == 1) with
      | true =>
        go_wp2_with (go_at_call 4; refine (checked_any s _ hs).mono ?_; rintro e w1 ⟨rfl, hb1⟩)
        exact ⟨⟨k + 1, hlt, by go_num, hbl.trans (hb1.mono hbl.size)⟩, by simp [intOf]; omega⟩
      | false =>
        go_wp2
        exact ⟨⟨k + 1, hlt, by go_num, hbl⟩, by simp [intOf]; omega⟩
    · go_wp2
      go_ret
      exact ⟨rfl, hbl⟩

set_option maxRecDepth 100000 in
set_option maxHeartbeats 1000000 in
theorem checks_none (a : Option Addr) (cap : Nat) (w : World) :
    Calls Try.prog 3 #[.slice a 0 cap] w fun e w' => e = .returned (.bool true) ∧ Below w.heap.size w w' := by
  go_enter Try.func3, Try.ntmps3
  go_wp2
  go_loopw [3] (fun i wr => i = .int .i64 0 ∧ Below w.heap.size w wr) (fun _ _ => 0)
  case atStart => exact ⟨rfl, Below.refl _ _⟩
  case round =>
    obtain ⟨rfl, hbl⟩ := hrel
    go_wp2
    go_ret
    exact ⟨rfl, hbl⟩

theorem Try.cells24 : Try.prog.cellsOf 24 = 4 := by kernel_rfl
theorem Try.cells3 : Try.prog.cellsOf 3 = 1 := by kernel_rfl
theorem Try.cells9 : Try.prog.cellsOf 9 = 1 := by kernel_rfl
theorem Try.laidOut : laidOutB Try.prog = true := by kernel_rfl
theorem Try.own : ownKnob Try.prog.godebug = none := by kernel_rfl

theorem add_off (b off n : Nat) : (⟨b, off, none⟩ : Addr).add n = ⟨b, off + n, none⟩ := by
  unfold Addr.add
  by_cases h : n = 0
  · rw [if_pos h, h]; rfl
  · rw [if_neg h]
theorem cell_plain {w : World} {a : Addr} {v : Value} (h : w.cell? a = some v) : a.spot = none ∧ a.block < w.heap.size := by
  unfold World.cell? at h
  split at h
  · rename_i c t f e
    constructor
    · cases hs : a.spot with
      | none => rfl
      | some x => rw [hs] at h; cases h
    · rcases Nat.lt_or_ge a.block w.heap.size with hl | hl
      · exact hl
      · rw [Array.getElem?_eq_none hl] at e; cases e
  · cases h

theorem ops_cells {H : Type} {enc : TypeId × Value → H} {W : World} {fuel : Nat} {cs : List Value} {x : DataW H × List MemPlace}
    (h : DataW.trod enc Try.prog W 0 (fun _ => true) true fuel 22 cs = some x) :
    (∃ (a : Option Addr) (cap : Nat), cs = [.slice a 0 cap]) ∨ ∃ b off len cap : Nat, cs = [.slice (some ⟨b, off, none⟩) len cap] ∧ len ≤ maxLen ∧ b < W.heap.size ∧
      ∀ i, i < len → ∃ (kd : Int) (s : ByteArray), W.cell? ⟨b, off + i * 4, none⟩ = some (.int .i64 kd) ∧ W.cell? ⟨b, off + i * 4 + 3, none⟩ = some (.string s) ∧ s.size ≤ maxLen := by
  rcases open_slice Try.underlying22 h with ⟨h0, _⟩ | ⟨a, len, cap, m, n, D, Pl, h0, _, hl, hm, hmm, _, hx⟩
  · exact Or.inl ⟨_, _, h0⟩
  by_cases hz : len = 0
  · subst hz; exact Or.inl ⟨_, _, h0⟩
  right
  have hmc : m = cap := by rw [hmm]; rfl
  have each : ∀ i, i < len → ∃ (kd : Int) (s : ByteArray), W.cell? (a.add (i * 4)) = some (.int .i64 kd) ∧ W.cell? (a.add (i * 4 + 3)) = some (.string s) ∧ s.size ≤ maxLen := by
    intro i hi
    obtain ⟨cs', h1, h2⟩ := hx i (by omega)
    rw [Try.cells24] at h1
    obtain ⟨_, hlen, hcell⟩ := World.cells?_some h1
    obtain ⟨xs, k, _, _, _, hxl, hf⟩ := DataW.trod_struct Try.underlying24 h2
    match xs, hxl, cs', hlen with
    | [y0, y1, y2, y3], _, [v0, v1, v2, v3], _ =>
      have g0 : DataW.trod enc Try.prog W 0 (fun _ => true) true k 3 (List.take (Try.prog.cellsOf 3) (List.drop 0 [v0, v1, v2, v3])) = some y0 := hf 0 _ rfl
      have g3 : DataW.trod enc Try.prog W 0 (fun _ => true) true k 9 (List.take (Try.prog.cellsOf 9) (List.drop 3 [v0, v1, v2, v3])) = some y3 := hf 3 _ rfl
      rw [Try.cells3] at g0
      rw [Try.cells9] at g3
      obtain ⟨kd, e0, _, _⟩ := DataW.trod_int Try.underlying3 g0
      obtain ⟨s, e3, _, hs⟩ := DataW.trod_string Try.underlying9 g3
      have c0 := hcell 0 (by omega)
      have c3 := hcell 3 (by omega)
      rw [add_add] at c0 c3
      simp at e0 e3
      subst e0 e3
      exact ⟨kd, s, by simpa using c0, by simpa using c3, hs⟩
  obtain ⟨kd, s, e0, _, _⟩ := each 0 (by omega)
  have ha : a.add (0 * 4) = a := rfl
  rw [ha] at e0
  obtain ⟨hsp, hbk⟩ := cell_plain e0
  obtain ⟨b, off, sp⟩ := a
  cases hsp
  refine ⟨b, off, len, cap, h0, by omega, hbk, fun i hi => ?_⟩
  obtain ⟨kd, s, c0, c3, hs⟩ := each i hi
  rw [add_off] at c0 c3
  exact ⟨kd, s, c0, by rw [Nat.add_assoc]; exact c3, hs⟩

set_option maxRecDepth 100000 in
theorem checks_lifted (os : Os) (started : os.Started) (H : Type) (enc : TypeId × Value → H) :
    ReturnsInHanded {} Try.checked os 3 .any (Rows.checksSpec.pre6 enc Try.prog Try.f3 Rows.checksRow.domain false) (Rows.checksSpec.post enc Try.prog Try.f3 false true false false) := by
  refine returnsInHanded_of_change (C := Try.checked) Try.own started (by kernel_rfl) Try.func3
    (ChangeSpec.witness6 (enc := enc) (C := Try.checked) false ⟨#[], #[.slice none 0 0], []⟩ 8 (by kernel_rfl) (by kernel_rfl) (by kernel_rfl) (by kernel_rfl)) ?_
  intro W base args ds gs before hval0 hW hcnd _
  have hval : ∀ (j : Nat) t v, Try.f3.params[j]? = some t → args[j]? = some v → Value.okWide Try.prog W .any base t v := hval0
  have hW' := hW
  obtain ⟨p, q, hA0, hV, rfl, hfz, hnd⟩ := hW
  have hA : DataW.TrodAll enc Try.prog W 0 (fun _ => true) true Try.f3.params.toList args.toList ds p := hA0
  rw [Try.params3] at hA hval
  obtain ⟨v0, d0, rfl, rfl, h0⟩ := trodAll_one hA
  obtain ⟨rfl, rfl⟩ := trodVars_none hV
  have h0k := h0
  have hlt : ∀ x ∈ p, x.block < W.heap.size := fun x hx => by simpa using hW'.lt x (by simpa using hx)
  obtain ⟨a0, len, cap, rfl⟩ := okWide_slice Try.underlying22 (hval 0 22 v0 rfl rfl)
  obtain ⟨fuel, hf⟩ := h0
  have hcalls : Calls Try.prog 3 #[.slice a0 len cap] W fun e w' => e = .returned (.bool true) ∧ Below W.heap.size W w' := by
    rcases ops_cells hf with ⟨a, c, hcs⟩ | ⟨b, off, l, c, hcs, hl, hb, hc⟩
    · simp only [Value.cells] at hcs
      have e : Value.slice a0 len cap = .slice a 0 c := by simpa using hcs
      rw [e]; exact checks_none a c W
    · simp only [Value.cells] at hcs
      have e : Value.slice a0 len cap = .slice (some ⟨b, off, none⟩) l c := by simpa using hcs
      rw [e]; exact checks_walk b off l c W hl hb hc
  clear hA0 hval0
  refine hcalls.mono fun e W' ⟨he, hbl⟩ => ?_
  subst he
  refine ⟨_, rfl, _, _, _, [], p, [], hW', trodAll_mk1 (shut_bool Try.underlying4 true), ?_, rfl, hbl.frame _, fun h => by cases h⟩
  exact trodAll_mk1 (Below.trod Try.laidOut (by kernel_rfl) (of_decide_eq_true (by kernel_rfl)) h0k hbl hlt)

theorem checks_holds : Rows.ChecksSaid :=
  OpenClaim.holds_of_wide 3 Try.f3 rfl rfl rfl rfl rfl rfl rfl ⟨rfl, rfl, rfl, rfl, rfl⟩ rfl rfl rfl rfl rfl (by kernel_rfl) Try.func3 (by kernel_rfl)
    (of_decide_eq_true (by kernel_rfl)) (by unfold Func.isWrapper; first | (rw [if_pos (by decide +kernel)]; kernel_rfl) | (rw [if_neg (by decide +kernel)]; exact ⟨rfl, rfl⟩))
    (fun os started H enc _ => checks_lifted os started H enc)

end Go.Proofs.Ytgpphkdoanciiaa
