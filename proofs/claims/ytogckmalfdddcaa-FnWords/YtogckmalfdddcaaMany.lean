/- Sums of long numbers, part by part, xs functions on lists of whole numbers: no Go text is spoken of here. -/
import Derived.Test.YtogckmalfdddcaaSumlaw
namespace Go.Proofs.Ytogckmalfdddcaa.Pl

/-- the flags behind k parts -/
def stF (s : Int) (xs ys : List Int) : Nat → Int
  | 0 => 0
  | k + 1 => addF s (bits .and .i64 (stF s xs ys k) 1) (xs[k]?.getD 0) (ys[k]?.getD 0)
/-- part k of the sum -/
def stV (s : Int) (xs ys : List Int) (k : Nat) : Int := addV s (bits .and .i64 (stF s xs ys k) 1) (xs[k]?.getD 0) (ys[k]?.getD 0)
/-- whether part k is xs said -/
def stO (s : Int) (xs ys : List Int) (k : Nat) : Bool := two s (bits .and .i64 (stF s xs ys k) 1) (xs[k]?.getD 0) (ys[k]?.getD 0)
def fits (xs ys : List Int) : Bool := decide (xs.length = ys.length ∧ 1 ≤ xs.length ∧ xs.length ≤ 8)
def manyOk (s : Int) (xs ys : List Int) : Bool := fits xs ys && (List.range xs.length).all (stO s xs ys)
def manyZ (s : Int) (xs ys : List Int) (k : Nat) : Bool := (List.range k).all (fun j => stV s xs ys j == 0)
def manyL (s : Int) (xs ys : List Int) : List Int := if manyOk s xs ys = true then (List.range xs.length).map (stV s xs ys) else []
def manyF (s : Int) (xs ys : List Int) : Int := if manyOk s xs ys = true then bits .or .i64 (bits .andNot .i64 (stF s xs ys xs.length) 4) (fl (manyZ s xs ys xs.length) 4) else 0

theorem manyOk_of {s : Int} {xs ys : List Int} (hf : fits xs ys = true) (h : ∀ j, j < xs.length → stO s xs ys j = true) : manyOk s xs ys = true := by
  unfold manyOk
  rw [hf, Bool.true_and, List.all_eq_true]
  intro j hj
  exact h j (by simpa using hj)
theorem manyOk_not {s : Int} {xs ys : List Int} {k : Nat} (hk : k < xs.length) (h : stO s xs ys k = false) : manyOk s xs ys = false := by
  unfold manyOk
  rw [Bool.and_eq_false_iff]
  right
  rw [List.all_eq_false]
  exact ⟨k, by simpa using hk, by simp [h]⟩
theorem manyZ_succ (s : Int) (xs ys : List Int) (k : Nat) : manyZ s xs ys (k + 1) = (manyZ s xs ys k && (stV s xs ys k == 0)) := by
  simp [manyZ, List.range_succ]
theorem addV_bd (s x a b : Int) : 0 ≤ addV s x a b ∧ addV s x a b < 65536 := by
  by_cases h : two s x a b = true
  · have := top_ok (addV_ok h); omega
  · simp [addV, h]
theorem or_bd {a b : Int} (a0 : 0 ≤ a) (a1 : a < 65536) (b0 : 0 ≤ b) (b1 : b < 65536) : 0 ≤ bits .or .i64 a b ∧ bits .or .i64 a b < 65536 ∧ (bits .or .i64 a b = 0 ↔ a = 0 ∧ b = 0) := by
  obtain ⟨m, rfl⟩ := Int.eq_ofNat_of_zero_le a0
  obtain ⟨n, rfl⟩ := Int.eq_ofNat_of_zero_le b0
  have e := (bits_nat .i64 62 (by decide) wraps_i64 m n (by omega) (by omega)).2
  have hlt : m ||| n < 2 ^ 16 := Nat.or_lt_two_pow (by omega) (by omega)
  rw [e]
  refine ⟨by omega, by omega, ?_⟩
  have hz : (m ||| n) = 0 ↔ m = 0 ∧ n = 0 := Nat.or_eq_zero_iff
  omega

end Go.Proofs.Ytogckmalfdddcaa.Pl
