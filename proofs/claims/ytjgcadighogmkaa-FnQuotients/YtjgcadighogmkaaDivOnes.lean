/- How often it was taken away is how many bits of the quotient are 1: plain arithmetic. -/
import Derived.Test.YtjgcadighogmkaaDivPl
import Derived.Test.YtjgcadighogmkaaOnes
namespace Go.Proofs.Ytjgcadighogmkaa.Pl
set_option linter.unusedVariables false
theorem dN_is {h l b : Int} (h0 : 0 ≤ h) (h1 : h < b) (l0 : 0 ≤ l) : ∀ m : Nat, m ≤ 16 → dN h l b m = pop 16 (dQ h l b m) := by
  intro m
  induction m with
  | zero => intro _; show (0 : Int) = pop 16 0; rw [pop_zero]
  | succ m ih =>
    intro hm
    obtain ⟨_, _, q0, q1⟩ := div_inv h0 h1 l0 m (by omega)
    obtain ⟨_, _, q2, q3⟩ := div_inv h0 h1 l0 (m + 1) (by omega)
    have hp := p2_le hm
    rw [pop_step q2 (by omega)]
    have hi := ih (by omega)
    simp only [dN, dQ] at *
    by_cases hc : b ≤ 2 * dR h l b m + wbit l (15 - m)
    · rw [if_pos hc] at *
      rw [show (2 * dQ h l b m + 1) % 2 = 1 by omega, show (2 * dQ h l b m + 1) / 2 = dQ h l b m by omega, hi]
      omega
    · rw [if_neg hc] at *
      rw [show (2 * dQ h l b m + 0) % 2 = 0 by omega, show (2 * dQ h l b m + 0) / 2 = dQ h l b m by omega, hi]
      omega
theorem dN_16 {h l b : Int} (h0 : 0 ≤ h) (h1 : h < b) (l0 : 0 ≤ l) (l1 : l ≤ 65535) : dN h l b 16 = onesV 2 (dQ h l b 16) := by
  obtain ⟨_, _, _, q0, q1⟩ := div_16 h0 h1 l0 l1
  rw [dN_is h0 h1 l0 16 (Nat.le_refl _)]
  unfold onesV
  rw [if_pos (okv_mk2 q0 (by omega))]
end Go.Proofs.Ytjgcadighogmkaa.Pl
