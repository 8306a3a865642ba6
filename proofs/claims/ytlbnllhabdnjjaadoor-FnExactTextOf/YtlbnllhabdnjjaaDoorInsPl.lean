/- Instructions in numbers: plain arithmetic; no Go text is spoken of here. -/
import Derived.Test.YtlbnllhabdnjjaaDoorRegPl
namespace Go.Proofs.YtlbnllhabdnjjaaDoor.Pl
set_option linter.unusedVariables false
structure In where
  op : Int
  z : Int
  r : Int
  m : Int
  k : Int
  e : Int
  s : Int
def inNo : In := ⟨0, 0, 0, 0, 0, 0, 0⟩
def memM (m : Int) : Bool := within m 2 6
def plainM (m : Int) : Bool := (m == 2) || ((m == 5) || (m == 6))
def zeroO (m k e : Int) : Bool := (m == 0) && ((k == 0) && (e == 0))
def nowO (m e : Int) : Bool := (m == 7) && decide (e ≤ 1023)
def byteNow (x : In) : Bool := ((x.m == 7) && (x.z == 1)) && decide (255 < x.e)
def inBase (x : In) : Bool := (decide (x.z = 1) || decide (x.z = 2)) && (within x.r 0 3 && (opOk x.m x.k x.e && (within x.s 0 7 && !byteNow x)))
def inKind (x : In) : Bool :=
  bif (x.op == 1) || ((x.op == 3) || ((x.op == 4) || ((x.op == 5) || ((x.op == 6) || ((x.op == 7) || (x.op == 8)))))) then (x.s == 0) && ((x.z == 2) || !(x.m == 1))
  else bif x.op == 2 then (x.s == 0) && ((x.m == 0) || memM x.m)
  else bif x.op == 9 then (x.z == 2) && (x.s == 0)
  else bif x.op == 10 then ((x.z == 2) && (x.s == 0)) && plainM x.m
  else bif x.op == 11 then ((x.r == 0) && decide (x.s ≤ 3)) && ((x.m == 0) || memM x.m)
  else bif x.op == 12 then (x.m == 0)
  else bif x.op == 13 then ((x.z == 2) && decide (x.r ≤ 1)) && (x.m == 7)
  else bif x.op == 14 then (((x.z == 2) && (x.r == 0)) && decide (x.s ≤ 1)) && plainM x.m
  else bif (x.op == 16) || (x.op == 17) then ((x.z == 2) && (x.s == 0)) && !(x.m == 1)
  else bif x.op == 18 then ((!(x.z == 2)) && decide (x.s ≤ 1)) && (x.m == 0)
  else bif x.op == 19 then (x.z == 2) && ((((x.s == 0) && (x.r == 0)) && nowO x.m x.e) || ((x.s == 1) && zeroO x.m x.k x.e))
  else bif x.op == 15 then (bif x.s == 3 then ((x.z == 2) && (x.r == 0)) && nowO x.m x.e else (((x.z == 2) && decide (x.s ≤ 6)) && zeroO x.m x.k x.e) && (decide (3 < x.s) || (x.r == 0)))
  else false
def inOk (x : In) : Bool := inBase x && inKind x
/-- the first word of an instruction -/
def word1 (x : In) : Int := x.op * 2048 + (x.z - 1) * 1024 + x.r * 256 + x.m * 32 + x.k * 8 + x.s
def encode (x : In) : List Int := if extM x.m = true then [word1 x, x.e] else [word1 x]
def enc (x : In) : List Int := if inOk x = true then encode x else []
def longW (w : Int) : Int := if extM (w / 32 % 8) = true then 2 else 1
def decode (w v : Int) : In := ⟨w / 2048, w / 1024 % 2 + 1, w / 256 % 4, w / 32 % 8, w / 8 % 4, if longW w = 2 then v else 0, w % 8⟩
def decOk (w v : Int) : Bool := wordOk w && (wordOk v && inOk (decode w v))
def dec (w v : Int) : In := if decOk w v = true then decode w v else inNo
def decN (w v : Int) : Int := if decOk w v = true then longW w else 0
def priv (x : In) : Bool := ((x.op == 15) && ((x.s == 1) || (x.s == 3))) || ((x.op == 19) && (x.s == 0))
/-- instruction k of a row of numbers, seven an instruction -/
def inAt (ys : List Int) (k : Nat) : In := ⟨el ys (k * 7), el ys (k * 7 + 1), el ys (k * 7 + 2), el ys (k * 7 + 3), el ys (k * 7 + 4), el ys (k * 7 + 5), el ys (k * 7 + 6)⟩
def allIn (ys : List Int) : Nat → Bool
  | 0 => true
  | k + 1 => allIn ys k && inOk (inAt ys k)
def encTo (ys : List Int) : Nat → List Int
  | 0 => []
  | k + 1 => encTo ys k ++ encode (inAt ys k)
def eaOk (ys : List Int) (n : Nat) : Bool := allIn ys n && decide ((n : Int) ≤ 40)
def eaV (ys : List Int) (n : Nat) : List Int := if eaOk ys n = true then encTo ys n else []
theorem encode_len (x : In) : (encode x).length ≤ 2 := by unfold encode; split <;> simp
theorem encTo_len (ys : List Int) (k : Nat) : (encTo ys k).length ≤ 2 * k := by
  induction k with
  | zero => simp [encTo]
  | succ k ih => simp only [encTo, List.length_append]; have := encode_len (inAt ys k); omega
theorem allIn_no {ys : List Int} {n k : Nat} (hk : k < n) (h : inOk (inAt ys k) = false) : allIn ys n = false := by
  induction n with
  | zero => omega
  | succ n ih =>
    unfold allIn
    by_cases e : k = n
    · subst e; rw [h]; simp
    · rw [ih (by omega)]; rfl
theorem modeR {x : In} (h : inOk x = true) : 1 ≤ x.op ∧ x.op ≤ 19 ∧ (x.z = 1 ∨ x.z = 2) ∧ 0 ≤ x.r ∧ x.r ≤ 3 ∧ 0 ≤ x.m ∧ x.m ≤ 7 ∧ 0 ≤ x.k ∧ x.k ≤ 3 ∧ 0 ≤ x.e ∧ x.e ≤ 65535 ∧ 0 ≤ x.s ∧ x.s ≤ 7 ∧ (extM x.m = false → x.e = 0) := by
  obtain ⟨op, z, r, m, k, e, s⟩ := x
  unfold inOk at h
  rw [Bool.and_eq_true] at h
  obtain ⟨h1, h2⟩ := h
  have hop : 1 ≤ op ∧ op ≤ 19 := by
    have : op = 1 ∨ op = 2 ∨ op = 3 ∨ op = 4 ∨ op = 5 ∨ op = 6 ∨ op = 7 ∨ op = 8 ∨ op = 9 ∨ op = 10 ∨ op = 11 ∨ op = 12 ∨ op = 13 ∨ op = 14 ∨ op = 15 ∨ op = 16 ∨ op = 17 ∨ op = 18 ∨ op = 19 := by
      by_cases q1 : op = 1; · simp [q1]
      by_cases q2 : op = 2; · simp [q2]
      by_cases q3 : op = 3; · simp [q3]
      by_cases q4 : op = 4; · simp [q4]
      by_cases q5 : op = 5; · simp [q5]
      by_cases q6 : op = 6; · simp [q6]
      by_cases q7 : op = 7; · simp [q7]
      by_cases q8 : op = 8; · simp [q8]
      by_cases q9 : op = 9; · simp [q9]
      by_cases q10 : op = 10; · simp [q10]
      by_cases q11 : op = 11; · simp [q11]
      by_cases q12 : op = 12; · simp [q12]
      by_cases q13 : op = 13; · simp [q13]
      by_cases q14 : op = 14; · simp [q14]
      by_cases q15 : op = 15; · simp [q15]
      by_cases q16 : op = 16; · simp [q16]
      by_cases q17 : op = 17; · simp [q17]
      by_cases q18 : op = 18; · simp [q18]
      by_cases q19 : op = 19; · simp [q19]
      simp [inKind, q1, q2, q3, q4, q5, q6, q7, q8, q9, q10, q11, q12, q13, q14, q15, q16, q17, q18, q19] at h2
    omega
  simp [inBase, opOk, modeOk, within, wordOk] at h1
  obtain ⟨hz, hr, ⟨hm, hk, _, he, hx⟩, hs, _⟩ := h1
  refine ⟨hop.1, hop.2, hz, hr.1, hr.2, hm.1, hm.2, hk.1, hk.2, he.1, he.2, hs.1, hs.2, fun q => ?_⟩
  rcases hx with hx | hx
  · rw [q] at hx; cases hx
  · exact hx
end Go.Proofs.YtlbnllhabdnjjaaDoor.Pl
