/- Registers in numbers, and what is done to them: plain arithmetic; no Go text is spoken of here. Instructions in numbers: plain arithmetic; no Go text is spoken of here. Programs in words: plain arithmetic over lists; no Go text is spoken of here. An instruction whose fields fit into its words: plain arithmetic; no Go text is spoken of here. -/
import Derived.Test.YtlbnllhabdnjjaaDoorGrA
namespace Go.Proofs.YtlbnllhabdnjjaaDoor.Pl
set_option linter.unusedVariables false

structure Rg where
  xs : List Int
  ys : List Int
  o : Int
  p : Int
  f : Int
  m : Int
  s : Bool
  t : Bool
def rgNew : Rg := ⟨[0, 0, 0, 0], [0, 0, 0, 0], 0, 0, 0, 7, true, false⟩
def rgNo : Rg := ⟨[], [], 0, 0, 0, 0, false, false⟩
def within (n lo hi : Int) : Bool := decide (lo ≤ n) && decide (n ≤ hi)
def wordOk (n : Int) : Bool := within n 0 65535
def fourOk (xs : List Int) : Bool := xs.all wordOk && decide ((xs.length : Int) = 4)
def rgOk (r : Rg) : Bool := fourOk r.xs && (fourOk r.ys && (wordOk r.o && (wordOk r.p && (within r.f 0 31 && within r.m 0 7))))
def extM (m : Int) : Bool := decide (5 ≤ m)
def modeOk (m : Int) : Bool := within m 0 7
def opOk (m r e : Int) : Bool := modeOk m && (within r 0 3 && ((decide (m < 6) || (r == 0)) && (wordOk e && (extM m || (e == 0)))))
def fl1 (b : Bool) (n : Int) : Int := if b then n else 0
def status (r : Rg) : Int := r.f + 32 * r.m + fl1 r.s 256 + fl1 r.t 512
def stSuper (n : Int) : Bool := decide (n / 256 % 2 = 1)
def stTrace (n : Int) : Bool := decide (n / 512 % 2 = 1)
def withR (r : Rg) (n : Int) : Rg :=
  if stSuper n = r.s then { r with s := stSuper n, t := stTrace n, m := n / 32 % 8, f := n % 32 }
  else { r with ys := r.ys.set 3 r.o, o := el r.ys 3, s := stSuper n, t := stTrace n, m := n / 32 % 8, f := n % 32 }
def putR (r : Rg) (z k v : Int) : Rg := { r with xs := r.xs.set k.toNat (if z = 1 then el r.xs k.toNat / 256 * 256 + v else v) }
def byN (z k : Int) : Int := if z = 1 ∧ k ≠ 3 then 1 else 2
def placeV (r : Rg) (z m k e : Int) : Int := if m = 4 then (el r.ys k.toNat - byN z k) % 65536 else if m = 5 then (el r.ys k.toNat + e) % 65536 else if m = 6 then e else el r.ys k.toNat
def placeR (r : Rg) (z m k e : Int) : Rg := if m = 3 then { r with ys := r.ys.set k.toNat ((el r.ys k.toNat + byN z k) % 65536) } else if m = 4 then { r with ys := r.ys.set k.toNat ((el r.ys k.toNat - byN z k) % 65536) } else r
/-- what holds of good registers -/
structure Good (r : Rg) : Prop where
  d4 : r.xs.length = 4
  a4 : r.ys.length = 4
  dw : ∀ i, i < 4 → 0 ≤ el r.xs i ∧ el r.xs i ≤ 65535
  aw : ∀ i, i < 4 → 0 ≤ el r.ys i ∧ el r.ys i ≤ 65535
  o0 : 0 ≤ r.o
  o1 : r.o ≤ 65535
  f0 : 0 ≤ r.f
  f1 : r.f ≤ 31
  m0 : 0 ≤ r.m
  m1 : r.m ≤ 7
theorem four_of {xs : List Int} (h : fourOk xs = true) : xs.length = 4 ∧ ∀ i, i < 4 → 0 ≤ el xs i ∧ el xs i ≤ 65535 := by
  simp only [fourOk, Bool.and_eq_true, decide_eq_true_eq] at h
  obtain ⟨h1, h2⟩ := h
  refine ⟨by omega, fun i hi => ?_⟩
  have hl : i < xs.length := by omega
  have := List.all_eq_true.1 h1 (xs[i]'hl) (List.getElem_mem hl)
  simp only [wordOk, within, Bool.and_eq_true, decide_eq_true_eq] at this
  simpa [el, List.getElem?_eq_getElem hl] using this
theorem good_of {r : Rg} (h : rgOk r = true) : Good r := by
  simp only [rgOk, Bool.and_eq_true, wordOk, within, decide_eq_true_eq] at h
  obtain ⟨h1, h2, ⟨h3, h4⟩, _, ⟨h5, h6⟩, h7, h8⟩ := h
  obtain ⟨a1, a2⟩ := four_of h1
  obtain ⟨b1, b2⟩ := four_of h2
  exact ⟨a1, b1, a2, b2, h3, h4, h5, h6, h7, h8⟩
theorem all_no {xs : List Int} {i : Nat} (hi : i < xs.length) (h : wordOk (el xs i) = false) : fourOk xs = false := by
  cases e : fourOk xs
  · rfl
  · simp only [fourOk, Bool.and_eq_true] at e
    have := List.all_eq_true.1 e.1 (xs[i]'hi) (List.getElem_mem hi)
    simp [el, List.getElem?_eq_getElem hi] at h
    rw [h] at this; cases this
theorem all_of {xs : List Int} (h : ∀ i, i < xs.length → wordOk (el xs i) = true) : fourOk xs = decide ((xs.length : Int) = 4) := by
  have : xs.all wordOk = true := by
    rw [List.all_eq_true]
    intro x hx
    obtain ⟨i, hi, rfl⟩ := List.getElem_of_mem hx
    have := h i hi
    simpa [el, List.getElem?_eq_getElem hi] using this
  unfold fourOk
  rw [this, Bool.true_and]
theorem len4 (r : Rg) : (r.ys.set 3 r.o).length = r.ys.length := by simp
def soOk (r : Rg) : Bool := rgOk r
def soV (r : Rg) : Int := if rgOk r = true then status r else 0
def wsOk (r : Rg) (n : Int) : Bool := rgOk r && within n 0 1023
def wsR (r : Rg) (n : Int) : Rg := if wsOk r n = true then withR r n else rgNo
def pdOk (r : Rg) (z k v : Int) : Bool := rgOk r && (okv z v && within k 0 3)
def pdR (r : Rg) (z k v : Int) : Rg := if pdOk r z k v = true then putR r z k v else rgNo
def plcOk (r : Rg) (z m k e : Int) : Bool := rgOk r && ((decide (z = 1) || decide (z = 2)) && (opOk m k e && (!(m == 0) && (!(m == 1) && !(m == 7)))))
def plcR (r : Rg) (z m k e : Int) : Rg := if plcOk r z m k e = true then placeR r z m k e else rgNo
def plcV (r : Rg) (z m k e : Int) : Int := if plcOk r z m k e = true then placeV r z m k e else 0
end Go.Proofs.YtlbnllhabdnjjaaDoor.Pl
namespace Go.Proofs.YtlbnllhabdnjjaaDoor.Pl
set_option linter.unusedVariables false
structure In where
  op : Int
  z : Int
  r : Int
  m : Int
  k : Int
  e : Int
  s : Int
def inNo : In := ⟨0, 0, 0, 0, 0, 0, 0⟩
def memM (m : Int) : Bool := within m 2 6
def plainM (m : Int) : Bool := (m == 2) || ((m == 5) || (m == 6))
def zeroO (m k e : Int) : Bool := (m == 0) && ((k == 0) && (e == 0))
def nowO (m e : Int) : Bool := (m == 7) && decide (e ≤ 1023)
def byteNow (x : In) : Bool := ((x.m == 7) && (x.z == 1)) && decide (255 < x.e)
def inBase (x : In) : Bool := (decide (x.z = 1) || decide (x.z = 2)) && (within x.r 0 3 && (opOk x.m x.k x.e && (within x.s 0 7 && !byteNow x)))
def inKind (x : In) : Bool :=
  bif (x.op == 1) || ((x.op == 3) || ((x.op == 4) || ((x.op == 5) || ((x.op == 6) || ((x.op == 7) || (x.op == 8)))))) then (x.s == 0) && ((x.z == 2) || !(x.m == 1))
  else bif x.op == 2 then (x.s == 0) && ((x.m == 0) || memM x.m)
  else bif x.op == 9 then (x.z == 2) && (x.s == 0)
  else bif x.op == 10 then ((x.z == 2) && (x.s == 0)) && plainM x.m
  else bif x.op == 11 then ((x.r == 0) && decide (x.s ≤ 3)) && ((x.m == 0) || memM x.m)
  else bif x.op == 12 then (x.m == 0)
  else bif x.op == 13 then ((x.z == 2) && decide (x.r ≤ 1)) && (x.m == 7)
  else bif x.op == 14 then (((x.z == 2) && (x.r == 0)) && decide (x.s ≤ 1)) && plainM x.m
  else bif (x.op == 16) || (x.op == 17) then ((x.z == 2) && (x.s == 0)) && !(x.m == 1)
  else bif x.op == 18 then ((!(x.z == 2)) && decide (x.s ≤ 1)) && (x.m == 0)
  else bif x.op == 19 then (x.z == 2) && ((((x.s == 0) && (x.r == 0)) && nowO x.m x.e) || ((x.s == 1) && zeroO x.m x.k x.e))
  else bif x.op == 15 then (bif x.s == 3 then ((x.z == 2) && (x.r == 0)) && nowO x.m x.e else (((x.z == 2) && decide (x.s ≤ 6)) && zeroO x.m x.k x.e) && (decide (3 < x.s) || (x.r == 0)))
  else false
def inOk (x : In) : Bool := inBase x && inKind x
/-- the first word of an instruction -/
def word1 (x : In) : Int := x.op * 2048 + (x.z - 1) * 1024 + x.r * 256 + x.m * 32 + x.k * 8 + x.s
def encode (x : In) : List Int := if extM x.m = true then [word1 x, x.e] else [word1 x]
def enc (x : In) : List Int := if inOk x = true then encode x else []
def longW (w : Int) : Int := if extM (w / 32 % 8) = true then 2 else 1
def decode (w v : Int) : In := ⟨w / 2048, w / 1024 % 2 + 1, w / 256 % 4, w / 32 % 8, w / 8 % 4, if longW w = 2 then v else 0, w % 8⟩
def decOk (w v : Int) : Bool := wordOk w && (wordOk v && inOk (decode w v))
def dec (w v : Int) : In := if decOk w v = true then decode w v else inNo
def decN (w v : Int) : Int := if decOk w v = true then longW w else 0
def priv (x : In) : Bool := ((x.op == 15) && ((x.s == 1) || (x.s == 3))) || ((x.op == 19) && (x.s == 0))
/-- instruction k of a row of numbers, seven an instruction -/
def inAt (ys : List Int) (k : Nat) : In := ⟨el ys (k * 7), el ys (k * 7 + 1), el ys (k * 7 + 2), el ys (k * 7 + 3), el ys (k * 7 + 4), el ys (k * 7 + 5), el ys (k * 7 + 6)⟩
def allIn (ys : List Int) : Nat → Bool
  | 0 => true
  | k + 1 => allIn ys k && inOk (inAt ys k)
def encTo (ys : List Int) : Nat → List Int
  | 0 => []
  | k + 1 => encTo ys k ++ encode (inAt ys k)
def eaOk (ys : List Int) (n : Nat) : Bool := allIn ys n && decide ((n : Int) ≤ 40)
def eaV (ys : List Int) (n : Nat) : List Int := if eaOk ys n = true then encTo ys n else []
theorem encode_len (x : In) : (encode x).length ≤ 2 := by unfold encode; split <;> simp
theorem encTo_len (ys : List Int) (k : Nat) : (encTo ys k).length ≤ 2 * k := by
  induction k with
  | zero => simp [encTo]
  | succ k ih => simp only [encTo, List.length_append]; have := encode_len (inAt ys k); omega
theorem allIn_no {ys : List Int} {n k : Nat} (hk : k < n) (h : inOk (inAt ys k) = false) : allIn ys n = false := by
  induction n with
  | zero => omega
  | succ n ih =>
    unfold allIn
    by_cases e : k = n
    · subst e; rw [h]; simp
    · rw [ih (by omega)]; rfl
theorem modeR {x : In} (h : inOk x = true) : 1 ≤ x.op ∧ x.op ≤ 19 ∧ (x.z = 1 ∨ x.z = 2) ∧ 0 ≤ x.r ∧ x.r ≤ 3 ∧ 0 ≤ x.m ∧ x.m ≤ 7 ∧ 0 ≤ x.k ∧ x.k ≤ 3 ∧ 0 ≤ x.e ∧ x.e ≤ 65535 ∧ 0 ≤ x.s ∧ x.s ≤ 7 ∧ (extM x.m = false → x.e = 0) := by
  obtain ⟨op, z, r, m, k, e, s⟩ := x
  unfold inOk at h
  rw [Bool.and_eq_true] at h
  obtain ⟨h1, h2⟩ := h
  have hop : 1 ≤ op ∧ op ≤ 19 := by
    have : op = 1 ∨ op = 2 ∨ op = 3 ∨ op = 4 ∨ op = 5 ∨ op = 6 ∨ op = 7 ∨ op = 8 ∨ op = 9 ∨ op = 10 ∨ op = 11 ∨ op = 12 ∨ op = 13 ∨ op = 14 ∨ op = 15 ∨ op = 16 ∨ op = 17 ∨ op = 18 ∨ op = 19 := by
      by_cases q1 : op = 1; · simp [q1]
      by_cases q2 : op = 2; · simp [q2]
      by_cases q3 : op = 3; · simp [q3]
      by_cases q4 : op = 4; · simp [q4]
      by_cases q5 : op = 5; · simp [q5]
      by_cases q6 : op = 6; · simp [q6]
      by_cases q7 : op = 7; · simp [q7]
      by_cases q8 : op = 8; · simp [q8]
      by_cases q9 : op = 9; · simp [q9]
      by_cases q10 : op = 10; · simp [q10]
      by_cases q11 : op = 11; · simp [q11]
      by_cases q12 : op = 12; · simp [q12]
      by_cases q13 : op = 13; · simp [q13]
      by_cases q14 : op = 14; · simp [q14]
      by_cases q15 : op = 15; · simp [q15]
      by_cases q16 : op = 16; · simp [q16]
      by_cases q17 : op = 17; · simp [q17]
      by_cases q18 : op = 18; · simp [q18]
      by_cases q19 : op = 19; · simp [q19]
      simp [inKind, q1, q2, q3, q4, q5, q6, q7, q8, q9, q10, q11, q12, q13, q14, q15, q16, q17, q18, q19] at h2
    omega
  simp [inBase, opOk, modeOk, within, wordOk] at h1
  obtain ⟨hz, hr, ⟨hm, hk, _, he, hx⟩, hs, _⟩ := h1
  refine ⟨hop.1, hop.2, hz, hr.1, hr.2, hm.1, hm.2, hk.1, hk.2, he.1, he.2, hs.1, hs.2, fun q => ?_⟩
  rcases hx with hx | hx
  · rw [q] at hx; cases hx
  · exact hx
end Go.Proofs.YtlbnllhabdnjjaaDoor.Pl
namespace Go.Proofs.YtlbnllhabdnjjaaDoor.Pl
set_option linter.unusedVariables false
/-- the numbers of a list of instructions, seven an instruction -/
def flat : List In → List Int
  | [] => []
  | x :: t => x.op :: x.z :: x.r :: x.m :: x.k :: x.e :: x.s :: flat t
theorem flat_len (l : List In) : (flat l).length = 7 * l.length := by
  induction l with
  | nil => rfl
  | cons x t ih => simp only [flat, List.length_cons, ih]; omega
theorem flat_snoc (l : List In) (x : In) : flat (l ++ [x]) = flat l ++ [x.op, x.z, x.r, x.m, x.k, x.e, x.s] := by
  induction l with
  | nil => rfl
  | cons y t ih => simp only [List.cons_append, flat, ih]
/-- the instructions that a list of words is, if it is some -/
def da : List Int → Option (List In)
  | [] => some []
  | [w] => if wordOk w = true ∧ longW w = 1 ∧ decOk w 0 = true then some [decode w 0] else none
  | w :: v :: t =>
    if wordOk w = true then
      if longW w = 2 then (if decOk w v = true then (da t).map (decode w v :: ·) else none)
      else (if decOk w 0 = true then (da (v :: t)).map (decode w 0 :: ·) else none)
    else none
def daOk (l : List Int) : Bool := decide ((l.length : Int) ≤ 80) && (da l).isSome
def daV (l : List Int) : List In := if daOk l = true then (da l).getD [] else []
theorem long_or (w : Int) : longW w = 1 ∨ longW w = 2 := by unfold longW; split <;> simp
theorem drop_at {l : List Int} {i : Nat} (h : i < l.length) : l.drop i = el l i :: l.drop (i + 1) := by
  rw [List.drop_eq_getElem_cons h]
  simp [el, List.getElem?_eq_getElem h]
/-- how far one has come: what the list is, is what stands already and what the rest is -/
def daFrom (l : List Int) (i : Nat) (o : List In) : Prop := da l = (da (l.drop i)).map (o ++ ·)
theorem daFrom_start (l : List Int) : daFrom l 0 [] := by
  unfold daFrom
  simp
theorem daFrom_end {l : List Int} {i : Nat} {o : List In} (h : daFrom l i o) (hi : l.length ≤ i) : da l = some o := by
  unfold daFrom at h
  rw [h, List.drop_eq_nil_of_le hi]
  simp [da]
theorem daFrom_word {l : List Int} {i : Nat} {o : List In} (h : daFrom l i o) (hi : i < l.length) (hw : wordOk (el l i) = false) : da l = none := by
  unfold daFrom at h
  rw [h, drop_at hi]
  cases hd : l.drop (i + 1) with
  | nil => simp [da, hw]
  | cons v t => simp [da, hw]
theorem daFrom_short {l : List Int} {i : Nat} {o : List In} (h : daFrom l i o) (hi : i < l.length) (hL : longW (el l i) = 2) (he : i + 1 = l.length) : da l = none := by
  unfold daFrom at h
  rw [h, drop_at hi, List.drop_eq_nil_of_le (by omega)]
  simp [da, hL]
theorem daFrom_two {l : List Int} {i : Nat} {o : List In} (h : daFrom l i o) (hi : i + 1 < l.length) (hw : wordOk (el l i) = true) (hL : longW (el l i) = 2) :
    (decOk (el l i) (el l (i + 1)) = false → da l = none) ∧ (decOk (el l i) (el l (i + 1)) = true → daFrom l (i + 2) (o ++ [decode (el l i) (el l (i + 1))])) := by
  unfold daFrom at h ⊢
  rw [drop_at (by omega), drop_at hi] at h
  refine ⟨fun hd => ?_, fun hd => ?_⟩
  · rw [h]; simp [da, hw, hL, hd]
  · rw [h]
    simp only [da, hw, hL, hd, if_true]
    cases da (l.drop (i + 1 + 1)) <;> simp
theorem daFrom_one {l : List Int} {i : Nat} {o : List In} (h : daFrom l i o) (hi : i < l.length) (hw : wordOk (el l i) = true) (hL : longW (el l i) = 1) :
    (decOk (el l i) 0 = false → da l = none) ∧ (decOk (el l i) 0 = true → daFrom l (i + 1) (o ++ [decode (el l i) 0])) := by
  unfold daFrom at h ⊢
  rw [drop_at hi] at h
  refine ⟨fun hd => ?_, fun hd => ?_⟩
  · rw [h]
    cases hq : l.drop (i + 1) with
    | nil => simp [da, hd]
    | cons v t => simp [da, hw, hL, hd]
  · rw [h]
    cases hq : l.drop (i + 1) with
    | nil => simp [da, hw, hL, hd]
    | cons v t =>
      have hne : ¬ longW (el l i) = 2 := by omega
      simp only [da, hw, hd, if_true, if_neg hne]
      cases da (v :: t) <;> simp
end Go.Proofs.YtlbnllhabdnjjaaDoor.Pl
namespace Go.Proofs.YtlbnllhabdnjjaaDoor.Pl
set_option linter.unusedVariables false
def sameIn (a b : In) : Bool := (a.op == b.op) && ((a.z == b.z) && ((a.r == b.r) && ((a.m == b.m) && ((a.k == b.k) && ((a.e == b.e) && (a.s == b.s))))))
/-- it comes back from its words -/
def fits (x : In) : Bool := sameIn (decode (word1 x % 65536) x.e) x
def fitZ (x : In) : Bool := !(x.m == 7) || (!(x.z == 1) || within x.e 0 255)
theorem decode_e (w v : Int) : (decode w v).e = bif extM (w / 32 % 8) then v else 0 := by
  show (if longW w = 2 then v else 0) = _
  unfold longW
  cases extM (w / 32 % 8) <;> simp
theorem fits_iff (x : In) : fits x = true ↔ (0 ≤ x.op ∧ x.op ≤ 31) ∧ (1 ≤ x.z ∧ x.z ≤ 2) ∧ (0 ≤ x.r ∧ x.r ≤ 3) ∧ (0 ≤ x.m ∧ x.m ≤ 7) ∧ (0 ≤ x.k ∧ x.k ≤ 3) ∧ (0 ≤ x.s ∧ x.s ≤ 7) ∧ (extM x.m = false → x.e = 0) := by
  obtain ⟨op, z, r, m, k, e, s⟩ := x
  unfold fits
  have hW : word1 ⟨op, z, r, m, k, e, s⟩ % 65536 = (op * 2048 + (z - 1) * 1024 + r * 256 + m * 32 + k * 8 + s) % 65536 := rfl
  generalize word1 ⟨op, z, r, m, k, e, s⟩ % 65536 = W at hW
  unfold sameIn
  rw [decode_e]
  simp only [decode, Bool.and_eq_true, beq_iff_eq]
  constructor
  · rintro ⟨h1, h2, h3, h4, h5, h6, h7⟩
    refine ⟨⟨by omega, by omega⟩, ⟨by omega, by omega⟩, ⟨by omega, by omega⟩, ⟨by omega, by omega⟩, ⟨by omega, by omega⟩, ⟨by omega, by omega⟩, fun q => ?_⟩
    rw [h4, q] at h6
    simpa using h6.symm
  · rintro ⟨⟨a1, a2⟩, ⟨b1, b2⟩, ⟨c1, c2⟩, ⟨d1, d2⟩, ⟨e1, e2⟩, ⟨f1, f2⟩, g⟩
    have hm : W / 32 % 8 = m := by omega
    refine ⟨by omega, by omega, by omega, hm, by omega, ?_, by omega⟩
    rw [hm]
    cases q : extM m
    · rw [g q]; rfl
    · rfl
/-- what is asked one behind the other is what makes a good one -/
theorem ok_of_fits (x : In) : inOk x = (fits x && (opOk x.m x.k x.e && (fitZ x && inKind x))) := by
  cases hf : fits x
  · cases hq : inOk x
    · rfl
    · exfalso
      have h := modeR hq
      have : fits x = true := (fits_iff x).2 ⟨by omega, by omega, by omega, by omega, by omega, by omega, h.2.2.2.2.2.2.2.2.2.2.2.2.2⟩
      rw [hf] at this; cases this
  · obtain ⟨a, b, c, d, e, f, g⟩ := (fits_iff x).1 hf
    obtain ⟨op, z, r, m, k, e', s⟩ := x
    simp only at a b c d e f g
    unfold inOk inBase fitZ byteNow
    simp only
    have w1 : within r 0 3 = true := by simp [within]; omega
    have w2 : within s 0 7 = true := by simp [within]; omega
    have w3 : (decide (z = 1) || decide (z = 2)) = true := by simp; omega
    rw [w1, w2, w3]
    cases ho : opOk m k e'
    · simp
    · have : 0 ≤ e' := by simp [opOk, wordOk, within] at ho; omega
      have w4 : (!((m == 7) && (z == 1) && decide (255 < e'))) = (!(m == 7) || (!(z == 1) || within e' 0 255)) := by
        rw [Bool.eq_iff_iff]; simp [within]; omega
      rw [w4]
      simp
/-- where the second word is not looked at, it may be whatever it is -/
theorem decode_short {w : Int} (v v' : Int) (h : longW w = 1) : decode w v = decode w v' := by
  unfold decode
  rw [h]; rfl
theorem decode_fits {w : Int} (v : Int) (h : wordOk w = true) : fits (decode w v) = true := by
  rw [fits_iff]
  simp only [wordOk, within, Bool.and_eq_true, decide_eq_true_eq] at h
  rw [decode_e]
  simp only [decode]
  refine ⟨⟨by omega, by omega⟩, ⟨by omega, by omega⟩, ⟨by omega, by omega⟩, ⟨by omega, by omega⟩, ⟨by omega, by omega⟩, ⟨by omega, by omega⟩, fun q => ?_⟩
  rw [q]; rfl
end Go.Proofs.YtlbnllhabdnjjaaDoor.Pl
