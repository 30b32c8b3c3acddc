/-
  Plain functions on lists of bytes: what the program's reader and the document's reader do to a text, and that they find the same place.
-/
namespace Go.Proofs.Ytgpphkdoanciiaa

def isD (c : Int) : Bool := decide (48 ≤ c) && decide (c ≤ 57)
def isA (c : Int) : Bool := decide (97 ≤ c) && decide (c ≤ 104)
def reqOf (c : Int) : Int :=
  if c = 105 then 1 else if c = 103 then 2 else if c = 98 then 3 else if c = 99 then 4 else if c = 109 then 5
  else if c = 114 then 6 else if c = 108 then 7 else if c = 117 then 8 else if c = 100 then 9 else 0
def txOf (c : Int) : Int := if c = 62 then 1 else if c = 123 then 2 else if c = 58 then 3 else 0
/-- the bytes of a program's steps -/
def isStep (c : Int) : Bool :=
  isD c || c == 43 || c == 45 || c == 42 || c == 47 || c == 60 || c == 61 || c == 100 || c == 120 || c == 112 || c == 107
  || c == 99 || c == 121 || c == 98 || c == 108 || c == 116 || c == 106 || c == 118 || c == 101 || c == 111 || c == 114 || c == 102
def stepP (c : Int) : Prop := (48 ≤ c ∧ c ≤ 57) ∨ c = 43 ∨ c = 45 ∨ c = 42 ∨ c = 47 ∨ c = 60 ∨ c = 61 ∨ c = 100 ∨ c = 120 ∨ c = 112 ∨ c = 107
  ∨ c = 99 ∨ c = 121 ∨ c = 98 ∨ c = 108 ∨ c = 116 ∨ c = 106 ∨ c = 118 ∨ c = 101 ∨ c = 111 ∨ c = 114 ∨ c = 102
theorem isStep_iff (c : Int) : isStep c = true ↔ stepP c := by
  simp [isStep, isD, stepP, or_assoc]
theorem isStep_yes {c : Int} (h : stepP c) : isStep c = true := (isStep_iff c).2 h
theorem isStep_no {c : Int} (h : ¬ stepP c) : isStep c = false := by
  cases e : isStep c with
  | false => rfl
  | true => exact absurd ((isStep_iff c).1 e) h
theorem isD_yes {c : Int} (h : 48 ≤ c ∧ c ≤ 57) : isD c = true := by simp [isD, h]
theorem isD_no {c : Int} (h : ¬ (48 ≤ c ∧ c ≤ 57)) : isD c = false := by
  simp only [isD, Bool.and_eq_false_iff, decide_eq_false_iff_not]; omega
theorem isD_iff (c : Int) : isD c = true ↔ (48 ≤ c ∧ c ≤ 57) := by simp [isD]
theorem isA_yes {c : Int} (h : 97 ≤ c ∧ c ≤ 104) : isA c = true := by simp [isA, h]
theorem isA_no {c : Int} (h : ¬ (97 ≤ c ∧ c ≤ 104)) : isA c = false := by
  simp only [isA, Bool.and_eq_false_iff, decide_eq_false_iff_not]; omega
theorem isA_iff (c : Int) : isA c = true ↔ (97 ≤ c ∧ c ≤ 104) := by simp [isA]
def reqShape (k : Int) : List Int :=
  if k = 1 then [86, 58, 120, 47, 66] else if k = 2 then [86, 58, 120, 115] else if k = 3 then [86, 58, 120]
  else if k = 4 then [86, 58, 120, 62, 121, 40, 110, 44, 107, 41] else if k = 5 then [86, 58, 120, 62, 121, 40, 107, 41]
  else if k = 9 then [86, 58, 87] else [86]
def txShape (k : Int) : List Int :=
  if k = 1 then [121, 61, 110] else if k = 2 then [80] else [121, 40, 110, 44, 107, 41]
def fits (want c : Int) : Bool :=
  if want = 86 ∨ want = 87 then c == 104 || isD c
  else if want = 110 ∨ want = 107 then isD c
  else if want = 120 ∨ want = 121 then isA c
  else if want = 115 then isD c || (decide (97 ≤ c) && decide (c ≤ 102))
  else c == want
def more (want c : Int) : Int :=
  if c = 48 ∨ isD c = false then 0
  else if want = 86 ∨ want = 87 then 1
  else if want = 110 ∨ want = 107 then 5
  else 0

/-- how far a batch has been read: the program's reader -/
structure AS where
  rest : List Int
  dig : Int
  req : Int
  tx : Int
  stp : Int

def aGoOn (st : AS) (c : Int) : Option AS :=
  if c = 59 ∧ st.req < 24 then some { st with rest := [82] }
  else if c = 44 ∧ 0 < st.tx ∧ st.tx < 8 then some { st with rest := [120, 84] }
  else none

def aReq (st : AS) (k : Int) : Option AS :=
  if k = 0 then none else some { st with req := st.req + 1, tx := 0, rest := reqShape k }

def aTx (st : AS) (k : Int) : Option AS :=
  if k = 0 then none else some { st with tx := st.tx + 1, stp := 0, rest := txShape k }

def aStep0 (st : AS) (c : Int) : Option AS :=
  match st.rest with
  | [] => aGoOn st c
  | want :: tl =>
    if want = 82 then aReq st (reqOf c)
    else if want = 66 then
      if isA c = true then some { st with rest := [84] } else aGoOn st c
    else if want = 84 then aTx st (txOf c)
    else if want = 80 then
      if c = 125 then some { st with rest := tl }
      else if st.stp = 40 ∨ isStep c = false then none else some { st with stp := st.stp + 1 }
    else if fits want c = true then some { st with dig := more want c, rest := tl }
    else none

def aStep (st : AS) (c : Int) : Option AS :=
  if 0 < st.dig ∧ isD c = true then some { st with dig := st.dig - 1 } else aStep0 { st with dig := 0 } c

def aRun : List Int → Int → AS → Int × Bool
  | [], at', st => (at', decide (st.rest = []) || decide (st.rest = [66]))
  | c :: l, at', st => match aStep st c with
    | none => (at', false)
    | some st' => aRun l (at' + 1) st'

/-- the document's reader: what is left, the place, and whether what stands there cannot -/
structure RS where
  l : List Int
  at' : Int
  bad : Bool

def rIs (r : RS) (c : Int) : Bool := !r.bad && decide (r.l.head? = some c)
def rAdv (r : RS) : RS := { l := r.l.tail, at' := r.at' + 1, bad := r.bad }
def rAmong : List Int → Int → RS → RS × Int
  | [], _, r => ({ r with bad := true }, 0)
  | x :: xs, i, r => if rIs r x = true then (rAdv r, i) else rAmong xs (i + 1) r
def rTake : List Int → RS → RS
  | [], r => r
  | x :: xs, r => rTake xs (rAmong [x] 0 r).1
def rSkipD : Nat → RS → RS
  | 0, r => r
  | k + 1, r => match r.bad, r.l with
    | false, c :: _ => if isD c = true then rSkipD k (rAdv r) else r
    | _, _ => r
def rNumber (most : Nat) (r : RS) : RS :=
  let p := rAmong [48, 49, 50, 51, 52, 53, 54, 55, 56, 57] 0 r
  if 0 < p.2 then rSkipD (most - 1) p.1 else p.1
def rVersion (r : RS) : RS := if rIs r 104 = true then rAdv r else rNumber 2 r
def rAccount (r : RS) : RS := (rAmong [97, 98, 99, 100, 101, 102, 103, 104] 0 r).1
def rProg0 : Nat → RS → RS
  | 0, r => r
  | k + 1, r => match r.bad, r.l with
    | false, c :: _ => if isStep c = true then rProg0 k (rAdv r) else r
    | _, _ => r
def rProg (r : RS) : RS := rTake [125] (rProg0 40 r)
def rTx (r : RS) : RS :=
  let p := rAmong [62, 123, 58] 0 (rAccount r)
  if p.2 = 0 then rNumber 6 (rTake [61] (rAccount p.1))
  else if p.2 = 1 then rProg p.1
  else rTake [41] (rNumber 6 (rTake [44] (rNumber 6 (rTake [40] (rAccount p.1)))))
def rTxs : Nat → RS → RS
  | 0, r => r
  | k + 1, r =>
    if r.bad = true then r
    else if rIs (rTx r) 44 = false ∨ k = 0 then rTx r
    else rTxs k (rTake [44] (rTx r))
def rBlock (r : RS) : RS :=
  let r1 := rTake [47] (rAccount r)
  if r1.bad = true ∨ r1.l = [] ∨ rIs r1 59 = true then r1 else rTxs 8 r1
def rRequest (r : RS) : RS :=
  let p := rAmong [105, 103, 98, 99, 109, 114, 108, 117, 100] 0 r
  if p.1.bad = true then p.1
  else if p.2 = 5 ∨ p.2 = 6 ∨ p.2 = 7 then rVersion p.1
  else
    let r3 := rTake [58] (rVersion p.1)
    if p.2 = 0 then rBlock r3
    else if p.2 = 8 then rVersion r3
    else
      let r4 := rAccount r3
      if p.2 = 1 then (rAmong [48, 49, 50, 51, 52, 53, 54, 55, 56, 57, 97, 98, 99, 100, 101, 102] 0 r4).1
      else if p.2 = 2 then r4
      else
        let r5 := rTake [40] (rAccount (rTake [62] r4))
        let r6 := if p.2 = 3 then rTake [44] (rNumber 6 r5) else r5
        rTake [41] (rNumber 6 r6)
def rRead : Nat → RS → Int
  | 0, r => r.at'
  | k + 1, r =>
    let q := rRequest r
    if q.bad = true then q.at'
    else if q.l = [] then -1
    else if rIs q 59 = false ∨ k = 0 then q.at'
    else rRead k (rAdv q)

/-- the bytes of a text, as the walk writes them -/
def txt (s : ByteArray) : List Int := s.data.toList.map fun c => ((c.toNat : Nat) : Int)

end Go.Proofs.Ytgpphkdoanciiaa
