/- Sums of long decimal numbers, byte by byte, as functions on lists of whole numbers: no Go text is spoken of here. -/
import Derived.Test.YtkahmepoblhbnaaDoorBcd
namespace Go.Proofs.YtkahmepoblhbnaaDoor.Pl
set_option linter.unusedVariables false

/-- the carry behind k bytes -/
def dC (xs ys : List Int) : Nat → Int
  | 0 => 0
  | k + 1 => aC (dC xs ys k) (xs[k]?.getD 0) (ys[k]?.getD 0)
/-- byte k of the sum -/
def dV (xs ys : List Int) (k : Nat) : Int := aV (dC xs ys k) (xs[k]?.getD 0) (ys[k]?.getD 0)
/-- whether byte k is as said -/
def dO (xs ys : List Int) (k : Nat) : Bool := two2 (dC xs ys k) (xs[k]?.getD 0) (ys[k]?.getD 0)
def dfits (xs ys : List Int) : Bool := decide (xs.length = ys.length ∧ 1 ≤ xs.length ∧ xs.length ≤ 8)
def digOk (xs ys : List Int) : Bool := dfits xs ys && (List.range xs.length).all (dO xs ys)
def digL (xs ys : List Int) : List Int := if digOk xs ys = true then (List.range xs.length).map (dV xs ys) else []
def digC (xs ys : List Int) : Int := if digOk xs ys = true then dC xs ys xs.length else 0

theorem digOk_of {xs ys : List Int} (hf : dfits xs ys = true) (h : ∀ j, j < xs.length → dO xs ys j = true) : digOk xs ys = true := by
  unfold digOk
  rw [hf, Bool.true_and, List.all_eq_true]
  intro j hj
  exact h j (by simpa using hj)
theorem digOk_not {xs ys : List Int} {k : Nat} (hk : k < xs.length) (h : dO xs ys k = false) : digOk xs ys = false := by
  unfold digOk
  rw [Bool.and_eq_false_iff]
  right
  rw [List.all_eq_false]
  exact ⟨k, by simpa using hk, by simp [h]⟩
theorem digOk_at {xs ys : List Int} (h : digOk xs ys = true) : xs.length = ys.length ∧ xs.length ≤ 8 ∧ ∀ j, j < xs.length → dO xs ys j = true := by
  unfold digOk at h
  rw [Bool.and_eq_true, List.all_eq_true] at h
  obtain ⟨h1, h2⟩ := h
  simp only [dfits, decide_eq_true_eq] at h1
  exact ⟨h1.1, h1.2.2, fun j hj => h2 j (by simpa using hj)⟩
theorem digL_at {xs ys : List Int} (h : digOk xs ys = true) (k : Nat) (hk : k < xs.length) : (digL xs ys)[k]?.getD 0 = dV xs ys k := by
  rw [digL, if_pos h]; simp [hk]
theorem digL_length {xs ys : List Int} (h : digOk xs ys = true) : (digL xs ys).length = xs.length := by
  rw [digL, if_pos h]; simp
theorem digL_len (xs ys : List Int) : (digL xs ys).length ≤ 8 := by
  by_cases h : digOk xs ys = true
  · rw [digL_length h]; exact (digOk_at h).2.1
  · simp [digL, h]
theorem dC_bd (xs ys : List Int) (k : Nat) : 0 ≤ dC xs ys k ∧ dC xs ys k ≤ 1 := by
  cases k
  · exact ⟨Int.le_refl _, by show (0 : Int) ≤ 1; decide⟩
  · exact aC_bd _ _ _

theorem dC_next {xs ys : List Int} {k : Nat} {C x y : Int} (hC : dC xs ys k = C) (hx : xs[k]?.getD 0 = x) (hy : ys[k]?.getD 0 = y) : dC xs ys (k + 1) = aC C x y := by
  rw [dC, hC, hx, hy]
theorem dV_at {xs ys : List Int} {k : Nat} {C x y : Int} (hC : dC xs ys k = C) (hx : xs[k]?.getD 0 = x) (hy : ys[k]?.getD 0 = y) : dV xs ys k = aV C x y := by
  rw [dV, hC, hx, hy]
theorem dO_at {xs ys : List Int} {k : Nat} {C x y : Int} (hC : dC xs ys k = C) (hx : xs[k]?.getD 0 = x) (hy : ys[k]?.getD 0 = y) : dO xs ys k = two2 C x y := by
  rw [dO, hC, hx, hy]

end Go.Proofs.YtkahmepoblhbnaaDoor.Pl
