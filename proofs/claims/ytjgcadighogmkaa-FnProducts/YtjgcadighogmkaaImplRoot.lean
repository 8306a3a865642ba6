/- What the program's RootOf answers. -/
import Derived.Test.YtjgcadighogmkaaImplPrd
namespace Go.Proofs.Ytjgcadighogmkaa
open Go.RowKit
set_option linter.unusedVariables false
set_option linter.unusedSimpArgs false
theorem sq_add (R P : Int) : (R + P) * (R + P) = R * R + (R * 2 + P) * P := by
  rw [Int.add_mul, Int.mul_add, Int.mul_add, Int.add_mul, Int.mul_comm P R, Int.mul_assoc R 2 P, Int.mul_comm 2 P, ← Int.mul_assoc]
  omega
/-- between two places: j are left; root R, of v there is L left -/
structure RootSt (v : Int) (j : Nat) (R L : Int) : Prop where
  r0 : 0 ≤ R
  r1 : R + Pl.p2 j ≤ 256
  l0 : 0 ≤ L
  is : v = L + R * R
  lt : v < (R + Pl.p2 j) * (R + Pl.p2 j)
theorem RootSt.yes {v : Int} {j : Nat} {R L P : Int} (h : RootSt v (j + 1) R L) (hP : Pl.p2 j = P) (hc : (R * 2 + P) * P ≤ L) : RootSt v j (R + P) (L - (R * 2 + P) * P) := by
  subst hP
  have hp := Pl.p2_pos j
  have e : R + Pl.p2 (j + 1) = R + Pl.p2 j + Pl.p2 j := by rw [Pl.p2_succ]; omega
  have h1 := h.r0
  have h2 := h.r1
  have h4 := h.is
  have h5 := h.lt
  rw [e] at h2 h5
  refine ⟨by omega, h2, by omega, ?_, h5⟩
  rw [sq_add]; omega
theorem RootSt.no {v : Int} {j : Nat} {R L P : Int} (h : RootSt v (j + 1) R L) (hP : Pl.p2 j = P) (hc : L < (R * 2 + P) * P) : RootSt v j R L := by
  subst hP
  have hp := Pl.p2_pos j
  have h2 := h.r1
  rw [Pl.p2_succ] at h2
  have h4 := h.is
  refine ⟨h.r0, by omega, h.l0, h4, ?_⟩
  rw [sq_add]; omega
set_option maxHeartbeats 4000000 in
theorem implRootOf (w : World) (v : Int) (wfv : (Lit.int .i64 v).wf = true) : Calls Try.prog 32 #[.int .i64 v] w fun e w' => ∃ s : Int, e = .returned (.tuple #[.int .i64 s, .bool (Pl.wOk v)]) ∧ Pl.RootIs v s ∧ Kept 0 0 w w' := by
  cases h : Pl.wOk v
  · go_enter Try.func32, Try.ntmps32
    go_wp2_with (go_at_call 45; refine (isWordM _ _ wfv).mono ?_; rintro e9 w9 ⟨rfl, hw⟩; have hw2 := hw.symm; clear hw; subst hw2; rw [h])
    go_ret2
    exact ⟨0, rfl, ⟨fun _ => rfl, fun q => (by rw [h] at q; cases q)⟩, Kept.refl _ _ _⟩
  · obtain ⟨v0, v1⟩ := Pl.wOk_ok h
    go_enter Try.func32, Try.ntmps32
    go_wp2_with (go_at_call 45; refine (isWordM _ _ wfv).mono ?_; rintro e9 w9 ⟨rfl, hw⟩; have hw2 := hw.symm; clear hw; subst hw2; rw [h])
    go_loop [4, 5, 6] (fun r l p => ∃ (j : Nat) (R L : Int), j ≤ 8 ∧ p = .int .i64 ((j : Int) - 1) ∧ r = .int .i64 R ∧ l = .int .i64 L ∧ RootSt v j R L) (fun _ _ p => (intOf p + 1).toNat)
    case atStart => exact ⟨8, 0, v, Nat.le_refl _, rfl, rfl, rfl, ⟨by omega, by decide, v0, by omega, by rw [show Pl.p2 8 = 256 by decide]; omega⟩⟩
    case round =>
      obtain ⟨j, R, L, hj, rfl, rfl, rfl, hS⟩ := hrel
      have HS := hide hS
      have R0 := hS.r0
      have R1 : R ≤ 256 := by have := hS.r1; have := Pl.p2_pos j; omega
      have L0 := hS.l0
      have L1 : L ≤ 65535 := by
        have h1 := hS.is
        have h2 : 0 ≤ R * R := Int.mul_nonneg R0 R0
        omega
      clear hS
      cases j with
      | zero =>
        go_wp2_with fail
        go_ret2
        have hS := HS.out
        refine ⟨R, rfl, ⟨fun q => (by rw [h] at q; cases q), fun _ => ⟨R0, by have := hS.r1; rw [Pl.p2_zero] at this; omega, by have := hS.is; omega, ?_⟩⟩, Kept.refl _ _ _⟩
        have := hS.lt
        rwa [Pl.p2_zero] at this
      | succ j =>
        rcases (show j = 0 ∨ j = 1 ∨ j = 2 ∨ j = 3 ∨ j = 4 ∨ j = 5 ∨ j = 6 ∨ j = 7 by omega) with rfl | rfl | rfl | rfl | rfl | rfl | rfl | rfl
        · by_cases hc : (R * 2 + 1) * 1 ≤ L
          · have hN := hide (HS.out.yes (P := 1) (by decide) hc)
            go_wp2_with fail
            go_round
            case rel => exact ⟨0, _, _, by omega, by rfl, rfl, rfl, by have := hN.out; rwa [Int.mul_one] at this⟩
            case measure => simp [intOf]
          · have hN := hide (HS.out.no (P := 1) (by decide) (by omega))
            go_wp2_with fail
            go_round
            case rel => exact ⟨0, _, _, by omega, by rfl, rfl, rfl, hN.out⟩
            case measure => simp [intOf]
        · by_cases hc : (R * 2 + 2) * 2 ≤ L
          · have hN := hide (HS.out.yes (P := 2) (by decide) hc)
            go_wp2_with fail
            go_round
            case rel => exact ⟨1, _, _, by omega, by rfl, rfl, rfl, hN.out⟩
            case measure => simp [intOf]
          · have hN := hide (HS.out.no (P := 2) (by decide) (by omega))
            go_wp2_with fail
            go_round
            case rel => exact ⟨1, _, _, by omega, by rfl, rfl, rfl, hN.out⟩
            case measure => simp [intOf]
        · by_cases hc : (R * 2 + 4) * 4 ≤ L
          · have hN := hide (HS.out.yes (P := 4) (by decide) hc)
            go_wp2_with fail
            go_round
            case rel => exact ⟨2, _, _, by omega, by rfl, rfl, rfl, hN.out⟩
            case measure => simp [intOf]
          · have hN := hide (HS.out.no (P := 4) (by decide) (by omega))
            go_wp2_with fail
            go_round
            case rel => exact ⟨2, _, _, by omega, by rfl, rfl, rfl, hN.out⟩
            case measure => simp [intOf]
        · by_cases hc : (R * 2 + 8) * 8 ≤ L
          · have hN := hide (HS.out.yes (P := 8) (by decide) hc)
            go_wp2_with fail
            go_round
            case rel => exact ⟨3, _, _, by omega, by rfl, rfl, rfl, hN.out⟩
            case measure => simp [intOf]
          · have hN := hide (HS.out.no (P := 8) (by decide) (by omega))
            go_wp2_with fail
            go_round
            case rel => exact ⟨3, _, _, by omega, by rfl, rfl, rfl, hN.out⟩
            case measure => simp [intOf]
        · by_cases hc : (R * 2 + 16) * 16 ≤ L
          · have hN := hide (HS.out.yes (P := 16) (by decide) hc)
            go_wp2_with fail
            go_round
            case rel => exact ⟨4, _, _, by omega, by rfl, rfl, rfl, hN.out⟩
            case measure => simp [intOf]
          · have hN := hide (HS.out.no (P := 16) (by decide) (by omega))
            go_wp2_with fail
            go_round
            case rel => exact ⟨4, _, _, by omega, by rfl, rfl, rfl, hN.out⟩
            case measure => simp [intOf]
        · by_cases hc : (R * 2 + 32) * 32 ≤ L
          · have hN := hide (HS.out.yes (P := 32) (by decide) hc)
            go_wp2_with fail
            go_round
            case rel => exact ⟨5, _, _, by omega, by rfl, rfl, rfl, hN.out⟩
            case measure => simp [intOf]
          · have hN := hide (HS.out.no (P := 32) (by decide) (by omega))
            go_wp2_with fail
            go_round
            case rel => exact ⟨5, _, _, by omega, by rfl, rfl, rfl, hN.out⟩
            case measure => simp [intOf]
        · by_cases hc : (R * 2 + 64) * 64 ≤ L
          · have hN := hide (HS.out.yes (P := 64) (by decide) hc)
            go_wp2_with fail
            go_round
            case rel => exact ⟨6, _, _, by omega, by rfl, rfl, rfl, hN.out⟩
            case measure => simp [intOf]
          · have hN := hide (HS.out.no (P := 64) (by decide) (by omega))
            go_wp2_with fail
            go_round
            case rel => exact ⟨6, _, _, by omega, by rfl, rfl, rfl, hN.out⟩
            case measure => simp [intOf]
        · by_cases hc : (R * 2 + 128) * 128 ≤ L
          · have hN := hide (HS.out.yes (P := 128) (by decide) hc)
            go_wp2_with fail
            go_round
            case rel => exact ⟨7, _, _, by omega, by rfl, rfl, rfl, hN.out⟩
            case measure => simp [intOf]
          · have hN := hide (HS.out.no (P := 128) (by decide) (by omega))
            go_wp2_with fail
            go_round
            case rel => exact ⟨7, _, _, by omega, by rfl, rfl, rfl, hN.out⟩
            case measure => simp [intOf]
end Go.Proofs.Ytjgcadighogmkaa
