/- Quotients place by place, put back or not (Robertson), and roots: plain arithmetic; no Go text is spoken of here. -/
import Derived.Test.YtjgcadighogmkaaMulPl
namespace Go.Proofs.Ytjgcadighogmkaa.Pl
set_option linter.unusedVariables false
/-- what is left behind so many places, the quotient so far, and how often it was taken away -/
def dR (h l b : Int) : Nat → Int
  | 0 => h
  | m + 1 => if b ≤ 2 * dR h l b m + wbit l (15 - m) then 2 * dR h l b m + wbit l (15 - m) - b else 2 * dR h l b m + wbit l (15 - m)
def dQ (h l b : Int) : Nat → Int
  | 0 => 0
  | m + 1 => 2 * dQ h l b m + (if b ≤ 2 * dR h l b m + wbit l (15 - m) then 1 else 0)
def dN (h l b : Int) : Nat → Int
  | 0 => 0
  | m + 1 => dN h l b m + (if b ≤ 2 * dR h l b m + wbit l (15 - m) then 1 else 0)
theorem div_next (l : Int) (m : Nat) (hm : m < 16) : l / p2 (16 - (m + 1)) = 2 * (l / p2 (16 - m)) + wbit l (15 - m) := by
  have e : 16 - m = (15 - m) + 1 := by omega
  have e1 : 16 - (m + 1) = 15 - m := by omega
  rw [e1, e, p2_succ]
  have hp := p2_pos (15 - m)
  rw [← Int.ediv_ediv_of_nonneg (by omega)]
  unfold wbit
  omega
theorem div_inv {h l b : Int} (h0 : 0 ≤ h) (h1 : h < b) (l0 : 0 ≤ l) : ∀ m : Nat, m ≤ 16 → (0 ≤ dR h l b m ∧ dR h l b m < b) ∧ dQ h l b m * b + dR h l b m = h * p2 m + (l / p2 (16 - m) - l / p2 16 * p2 m) ∧ 0 ≤ dQ h l b m ∧ dQ h l b m < p2 m := by
  intro m
  induction m with
  | zero =>
    intro _
    refine ⟨⟨h0, h1⟩, ?_, Int.le_refl _, (by show (0 : Int) < p2 0; decide)⟩
    show (0 : Int) * b + h = h * p2 0 + (l / p2 16 - l / p2 16 * p2 0)
    rw [p2_zero]
    omega
  | succ m ih =>
    intro hm
    obtain ⟨⟨r0, r1⟩, e, q0, q1⟩ := ih (by omega)
    have hb := wbit_bd l (15 - m)
    have hn := div_next l m (by omega)
    have hq : 0 ≤ dQ h l b m * b := Int.mul_nonneg q0 (by omega)
    rw [hn, p2_succ]
    have e2 : h * (p2 m * 2) = 2 * (h * p2 m) := by rw [← Int.mul_assoc]; omega
    have e3 : l / p2 16 * (p2 m * 2) = 2 * (l / p2 16 * p2 m) := by rw [← Int.mul_assoc]; omega
    rw [e2, e3]
    simp only [dR, dQ]
    by_cases hc : b ≤ 2 * dR h l b m + wbit l (15 - m)
    · rw [if_pos hc, if_pos hc]
      have e4 : (2 * dQ h l b m + 1) * b = 2 * (dQ h l b m * b) + b := by rw [Int.add_mul, Int.one_mul, Int.mul_assoc]
      rw [e4]
      omega
    · rw [if_neg hc, if_neg hc]
      have e4 : (2 * dQ h l b m + 0) * b = 2 * (dQ h l b m * b) := by rw [Int.add_zero, Int.mul_assoc]
      rw [e4]
      omega
theorem div_16 {h l b : Int} (h0 : 0 ≤ h) (h1 : h < b) (l0 : 0 ≤ l) (l1 : l ≤ 65535) : dQ h l b 16 * b + dR h l b 16 = h * 65536 + l ∧ 0 ≤ dR h l b 16 ∧ dR h l b 16 < b ∧ 0 ≤ dQ h l b 16 ∧ dQ h l b 16 ≤ 65535 := by
  obtain ⟨⟨r0, r1⟩, e, q0, q1⟩ := div_inv h0 h1 l0 16 (by omega)
  rw [p2_16, show 16 - 16 = 0 from rfl, p2_zero, Int.ediv_one] at e
  rw [p2_16] at q1
  have : l / 65536 = 0 := by omega
  rw [this] at e
  omega
/-- without putting back -/
def sL (l b : Int) : Nat → Int
  | 0 => 0
  | m + 1 => if 0 ≤ sL l b m then 2 * sL l b m + wbit l (15 - m) - b else 2 * sL l b m + wbit l (15 - m) + b
def sD (l b : Int) (m : Nat) : Int := if 0 ≤ sL l b (m + 1) then 1 else -1
def steps (l b : Int) (n : Nat) : List Int := (List.range n).map (sD l b)
theorem steps_snoc (l b : Int) (n : Nat) : steps l b (n + 1) = steps l b n ++ [sD l b n] := by simp [steps, List.range_succ]
theorem steps_len (l b : Int) (n : Nat) : (steps l b n).length = n := by simp [steps]
theorem sL_is {l b : Int} (hb : 1 ≤ b) (l0 : 0 ≤ l) : ∀ m : Nat, m ≤ 16 → (0 ≤ sL l b m ∧ sL l b m = dR 0 l b m) ∨ (sL l b m < 0 ∧ sL l b m = dR 0 l b m - b) := by
  intro m
  induction m with
  | zero => intro _; exact .inl ⟨Int.le_refl _, rfl⟩
  | succ m ih =>
    intro hm
    have hw := wbit_bd l (15 - m)
    obtain ⟨⟨r0, r1⟩, _⟩ := div_inv (h := 0) (l := l) (b := b) (Int.le_refl _) (by omega) l0 m (by omega)
    simp only [sL, dR]
    rcases ih (by omega) with ⟨i0, i1⟩ | ⟨i0, i1⟩
    · rw [if_pos i0, i1]
      split <;> omega
    · rw [if_neg (by omega), i1]
      split <;> omega
theorem sD_is {l b : Int} (hb : 1 ≤ b) (l0 : 0 ≤ l) {m : Nat} (hm : m < 16) : dQ 0 l b (m + 1) = 2 * dQ 0 l b m + (if sD l b m = 1 then 1 else 0) := by
  have hw := wbit_bd l (15 - m)
  obtain ⟨⟨r0, r1⟩, _⟩ := div_inv (h := 0) (l := l) (b := b) (Int.le_refl _) (by omega) l0 m (by omega)
  obtain ⟨⟨r2, r3⟩, _⟩ := div_inv (h := 0) (l := l) (b := b) (Int.le_refl _) (by omega) l0 (m + 1) (by omega)
  have h := sL_is hb l0 (m + 1) (by omega)
  have hm0 := sL_is hb l0 m (by omega)
  have e1 : sL l b (m + 1) = 2 * dR 0 l b m + wbit l (15 - m) - b := by
    simp only [sL]
    rcases hm0 with ⟨i0, i1⟩ | ⟨i0, i1⟩
    · rw [if_pos i0, i1]
    · rw [if_neg (by omega), i1]; omega
  simp only [dQ]
  unfold sD
  rw [e1]
  by_cases hc : b ≤ 2 * dR 0 l b m + wbit l (15 - m)
  · rw [if_pos hc, if_pos (by omega : (0 : Int) ≤ 2 * dR 0 l b m + wbit l (15 - m) - b)]; rfl
  · rw [if_neg hc, if_neg (by omega : ¬ (0 : Int) ≤ 2 * dR 0 l b m + wbit l (15 - m) - b)]; rfl
def sRest (l b : Int) : Int := if sL l b 16 < 0 then sL l b 16 + b else sL l b 16
theorem steps_16 {l b : Int} (hb : 1 ≤ b) (l0 : 0 ≤ l) (l1 : l ≤ 65535) : dQ 0 l b 16 = l / b ∧ sRest l b = l % b := by
  obtain ⟨e, r0, r1, q0, _⟩ := div_16 (h := 0) (l := l) (b := b) (Int.le_refl _) (by omega) l0 l1
  have h := sL_is hb l0 16 (Nat.le_refl _)
  have hr : sRest l b = dR 0 l b 16 := by unfold sRest; split <;> omega
  rw [hr]
  have e2 : dR 0 l b 16 + b * dQ 0 l b 16 = l := by rw [Int.mul_comm b]; omega
  have key := Int.ediv_emod_unique (a := l) (b := b) (r := dR 0 l b 16) (q := dQ 0 l b 16) (by omega)
  have := key.2 ⟨e2, r0, r1⟩
  exact ⟨this.1.symm, this.2.symm⟩
/-- there is one root -/
theorem root_one {v s t : Int} (s0 : 0 ≤ s) (t0 : 0 ≤ t) (hs : s * s ≤ v) (hs2 : v < (s + 1) * (s + 1)) (ht : t * t ≤ v) (ht2 : v < (t + 1) * (t + 1)) : s = t := by
  rcases Int.lt_trichotomy s t with h | h | h
  · exfalso
    have : (s + 1) * (s + 1) ≤ t * t := Int.mul_le_mul (by omega) (by omega) (by omega) (by omega)
    omega
  · exact h
  · exfalso
    have : (t + 1) * (t + 1) ≤ s * s := Int.mul_le_mul (by omega) (by omega) (by omega) (by omega)
    omega
end Go.Proofs.Ytjgcadighogmkaa.Pl
