/- Conditions in numbers: plain arithmetic; no Go text is spoken of here. -/
import Derived.Test.YtceipklpbnmggaaSumlaw
namespace Go.Proofs.Ytceipklpbnmggaa.Pl
set_option linter.unusedVariables false
/-- the flags, each by itself -/
def cF (f : Int) : Bool := f % 2 == 1
def vF (f : Int) : Bool := f / 2 % 2 == 1
def zF (f : Int) : Bool := f / 4 % 2 == 1
def nF (f : Int) : Bool := f / 8 % 2 == 1
/-- what an even condition tells -/
def ev (c f : Int) : Bool :=
  bif c == 2 then !cF f && !zF f else bif c == 4 then !cF f else bif c == 6 then !zF f else bif c == 8 then !vF f
  else bif c == 10 then !nF f else bif c == 12 then nF f == vF f else bif c == 14 then (nF f == vF f) && !zF f else true
def tst (k f : Int) : Bool := ev (k - k % 2) f == (k % 2 == 0)
def cOk (k : Int) : Bool := decide (0 ≤ k) && decide (k ≤ 15)
def need (k : Int) : Int :=
  bif k - k % 2 == 2 then 5 else bif k - k % 2 == 4 then 1 else bif k - k % 2 == 6 then 4 else bif k - k % 2 == 8 then 2
  else bif k - k % 2 == 10 then 8 else bif k - k % 2 == 12 then 10 else bif k - k % 2 == 14 then 14 else 0
def needV (k : Int) : Int := if cOk k = true then need k else 0
def contr (k : Int) : Int := bif k % 2 == 0 then k + 1 else k - 1
def contrV (k : Int) : Int := if cOk k = true then contr k else 0
/-- how many of the first so many conditions hold -/
def cnt (f : Int) : Nat → Int
  | 0 => 0
  | n + 1 => cnt f n + fl (tst (n : Int) f) 1
def cntV (f : Int) : Int := if flags f = true then cnt f 16 else 0
def condL (f : Int) (n : Nat) : List Bool := (List.range n).map fun (k : Nat) => tst (k : Int) f
def cf (z a b : Int) : List Bool := if two z 0 a b = true then condL (cmpF z 0 a b) 16 else []
theorem cOk_ok {k : Int} (h : cOk k = true) : 0 ≤ k ∧ k ≤ 15 := by simpa [cOk] using h
theorem condL_len (f : Int) (n : Nat) : (condL f n).length = n := by simp [condL]
theorem condL_snoc (f : Int) (n : Nat) : condL f (n + 1) = condL f n ++ [tst (n : Int) f] := by simp [condL, List.range_succ]
theorem nat_of {k : Int} {n : Nat} (h0 : 0 ≤ k) (h1 : k < n) : ∃ j : Nat, j < n ∧ k = (j : Int) := ⟨k.toNat, by omega, by omega⟩
/- the bits of flags, one at a time -/
theorem bit_c : ∀ f : Nat, f < 32 → (bits .and .i64 (f : Int) 1 == 0) = !cF f := by decide +kernel
theorem bit_v : ∀ f : Nat, f < 32 → (bits .and .i64 (f : Int) 2 == 0) = !vF f := by decide +kernel
theorem bit_z : ∀ f : Nat, f < 32 → (bits .and .i64 (f : Int) 4 == 0) = !zF f := by decide +kernel
theorem bit_n : ∀ f : Nat, f < 32 → (bits .and .i64 (f : Int) 8 == 0) = !nF f := by decide +kernel
theorem bit_cz : ∀ f : Nat, f < 32 → (bits .and .i64 (f : Int) 5 == 0) = (!cF f && !zF f) := by decide +kernel
theorem bit_even : ∀ k : Nat, k < 16 → bits .andNot .i64 (k : Int) 1 = (k : Int) - (k : Int) % 2 := by decide +kernel
theorem bit_odd : ∀ k : Nat, k < 16 → bits .xor .i64 (k : Int) 1 = contr (k : Int) := by decide +kernel
theorem contr_in : ∀ k : Nat, k < 16 → 0 ≤ contr (k : Int) ∧ contr (k : Int) ≤ 15 := by decide +kernel
theorem need_in : ∀ k : Nat, k < 16 → 0 ≤ need (k : Int) ∧ need (k : Int) ≤ 15 := by decide +kernel
theorem tst_contr : ∀ k : Nat, k < 16 → ∀ f : Nat, f < 32 → tst (contr (k : Int)) f = !tst k f := by decide +kernel
theorem cnt_eight : ∀ f : Nat, f < 32 → cnt f 16 = 8 := by decide +kernel
/-- only the flags that it needs tell -/
theorem other_in : ∀ k : Nat, k < 16 → ∀ f : Nat, f < 32 → ∀ m : Nat, m < 32 → 0 ≤ bits .or .i64 (bits .and .i64 (f : Int) (need (k : Int))) (bits .andNot .i64 (m : Int) (need (k : Int))) ∧ bits .or .i64 (bits .and .i64 (f : Int) (need (k : Int))) (bits .andNot .i64 (m : Int) (need (k : Int))) ≤ 31 := by decide +kernel
theorem tst_other : ∀ k : Nat, k < 16 → ∀ f : Nat, f < 32 → ∀ m : Nat, m < 32 → tst (k : Int) (bits .or .i64 (bits .and .i64 (f : Int) (need (k : Int))) (bits .andNot .i64 (m : Int) (need (k : Int)))) = tst (k : Int) f := by decide +kernel
theorem sgn_like (T S A B : Int) (h : (S = A - B - 0 ∧ (S < 0 ↔ A < B)) ∨ (S ≠ A - B - 0 ∧ S < 0 ∧ B ≤ A) ∨ (S ≠ A - B - 0 ∧ 0 ≤ S ∧ A < B)) : (decide (S < 0) == (S != (A - B - 0))) = decide (B ≤ A) := by
  rcases h with ⟨h, h2⟩ | ⟨h, h2, h3⟩ | ⟨h, h2, h3⟩
  · have e1 : (S != (A - B - 0)) = false := by simpa using h
    rw [e1]
    by_cases q : S < 0
    · have : ¬ B ≤ A := by omega
      simp [q, this]
    · have : B ≤ A := by omega
      simp [q, this]
  · have e1 : (S != (A - B - 0)) = true := by simpa using h
    rw [e1]; simp [h2, h3]
  · have e1 : (S != (A - B - 0)) = true := by simpa using h
    have e2 : ¬ S < 0 := by omega
    have e3 : ¬ B ≤ A := by omega
    rw [e1]; simp [e2, e3]
/-- the flags of a comparison -/
theorem cmp_four {z a b : Int} (h : two z 0 a b = true) : ∃ c v q n : Bool, cmpF z 0 a b = fl c 1 + fl v 2 + fl q 4 + fl n 8 ∧ c = decide (a < b) ∧ q = (a == b) ∧ (n == v) = decide (sgnV z b ≤ sgnV z a) := by
  obtain ⟨ha, hb, _⟩ := two_ok h
  have hf : flags 0 = true := by decide
  refine ⟨(a - b - 0) % top z != (a - b - 0), sg z ((a - b - 0) % top z) != (sg z a - sg z b - 0), (a - b - 0) % top z == 0, decide (sg z ((a - b - 0) % top z) < 0), ?_, ?_, ?_, ?_⟩
  · unfold cmpF
    rw [h, hf]
    simp only [Bool.and_self, if_true]
    unfold subF
    rw [if_pos h]
    unfold keptF
    generalize ((a - b - 0) % top z != (a - b - 0)) = c
    generalize (sg z ((a - b - 0) % top z) != (sg z a - sg z b - 0)) = v
    generalize ((a - b - 0) % top z == 0) = q
    generalize decide (sg z ((a - b - 0) % top z) < 0) = n
    cases c <;> cases v <;> cases q <;> cases n <;> decide +kernel
  · rw [Bool.eq_iff_iff]
    rcases (top_ok ha).1 with ⟨rfl, ht⟩ | ⟨rfl, ht⟩ <;> rw [ht] <;> have := top_ok ha <;> have := top_ok hb <;> simp <;> omega
  · rw [Bool.eq_iff_iff]
    rcases (top_ok ha).1 with ⟨rfl, ht⟩ | ⟨rfl, ht⟩ <;> rw [ht] <;> have := top_ok ha <;> have := top_ok hb <;> simp <;> omega
  · rw [sgnV_ok ha, sgnV_ok hb]
    refine sgn_like (top z) _ _ _ ?_
    rcases (top_ok ha).1 with ⟨rfl, ht⟩ | ⟨rfl, ht⟩
    · have h1 := (top_ok ha).2
      have h2 := (top_ok hb).2
      rw [ht] at h1 h2
      simp only [sg, ht]
      split <;> split <;> split <;> omega
    · have h1 := (top_ok ha).2
      have h2 := (top_ok hb).2
      rw [ht] at h1 h2
      simp only [sg, ht]
      split <;> split <;> split <;> omega
theorem four_tst (c v q n : Bool) : tst 0 (fl c 1 + fl v 2 + fl q 4 + fl n 8) = true ∧ tst 2 (fl c 1 + fl v 2 + fl q 4 + fl n 8) = (!c && !q) ∧ tst 4 (fl c 1 + fl v 2 + fl q 4 + fl n 8) = (!c) ∧ tst 6 (fl c 1 + fl v 2 + fl q 4 + fl n 8) = (!q) ∧ tst 12 (fl c 1 + fl v 2 + fl q 4 + fl n 8) = (n == v) ∧ tst 14 (fl c 1 + fl v 2 + fl q 4 + fl n 8) = ((n == v) && !q) ∧ tst 13 (fl c 1 + fl v 2 + fl q 4 + fl n 8) = (!(n == v)) ∧ tst 15 (fl c 1 + fl v 2 + fl q 4 + fl n 8) = (!((n == v) && !q)) := by
  cases c <;> cases v <;> cases q <;> cases n <;> decide +kernel
end Go.Proofs.Ytceipklpbnmggaa.Pl
