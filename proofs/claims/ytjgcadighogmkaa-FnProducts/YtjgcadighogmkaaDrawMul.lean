/- What the model's draws for the laws on products and quotients answer, of whatever bytes. -/
import Derived.Test.YtjgcadighogmkaaDrawVal
namespace Go.Proofs.Ytjgcadighogmkaa
open Go.RowKit
set_option linter.unusedVariables false
theorem drawMulWords (w : World) (a : Option Addr) (len cap : Nat) (h : Bytes w a len) :
    Calls Try.prog 37 #[.slice a len cap] w fun e w' => ∃ u v : Int, e = .returned (.tuple #[.int .i64 u, .int .i64 v]) ∧ -1 ≤ u ∧ u ≤ 65536 ∧ -1 ≤ v ∧ v ≤ 65536 ∧ Below w.heap.size w w' := by
  go_enter Try.func37, Try.ntmps37
  go_wp2_with fail
  refine (value _ _ a len cap 0 (h.cur cap) (by omega) (by omega)).mono ?_
  rintro e w1 ⟨u, rfl, u0, u1, hg1, q1, q10, q11, hc1⟩
  go_wp2_with fail
  refine (value _ _ a len cap q1 hc1 (by omega) (by omega)).mono ?_
  rintro e w2 ⟨v, rfl, v0, v1, hg2, q2, q20, q21, hc2⟩
  go_wp2_with fail
  go_ret2
  exact ⟨u, v, rfl, u0, u1, v0, v1, below_of (grownBy_trans hg1 hg2)⟩
theorem drawMulBooth (w : World) (a : Option Addr) (len cap : Nat) (h : Bytes w a len) :
    Calls Try.prog 12 #[.slice a len cap] w fun e w' => ∃ u v : Int, e = .returned (.tuple #[.int .i64 u, .int .i64 v]) ∧ -1 ≤ u ∧ u ≤ 65536 ∧ -1 ≤ v ∧ v ≤ 65536 ∧ Below w.heap.size w w' := by
  go_enter Try.func12, Try.ntmps12
  go_wp2_with fail
  refine (drawMulWords _ a len cap h).mono ?_
  rintro e w1 ⟨u, v, rfl, u0, u1, v0, v1, hb⟩
  go_wp2_with fail
  go_ret2
  exact ⟨u, v, rfl, u0, u1, v0, v1, hb⟩
theorem drawBoothDigits (w : World) (a : Option Addr) (len cap : Nat) (h : Bytes w a len) :
    Calls Try.prog 19 #[.slice a len cap] w fun e w' => ∃ v : Int, e = .returned (.int .i64 v) ∧ -1 ≤ v ∧ v ≤ 65536 ∧ Below w.heap.size w w' := by
  go_enter Try.func19, Try.ntmps19
  go_wp2_with fail
  refine (value _ _ a len cap 0 (h.cur cap) (by omega) (by omega)).mono ?_
  rintro e w1 ⟨u, rfl, u0, u1, hg1, q1, q10, q11, hc1⟩
  go_wp2_with fail
  go_ret
  exact ⟨u, rfl, u0, u1, below_of hg1⟩
theorem drawRootOf (w : World) (a : Option Addr) (len cap : Nat) (h : Bytes w a len) :
    Calls Try.prog 31 #[.slice a len cap] w fun e w' => ∃ v : Int, e = .returned (.int .i64 v) ∧ -1 ≤ v ∧ v ≤ 65536 ∧ Below w.heap.size w w' := by
  go_enter Try.func31, Try.ntmps31
  go_wp2_with fail
  refine (drawBoothDigits _ a len cap h).mono ?_
  rintro e w1 ⟨u, rfl, u0, u1, hb⟩
  go_wp2_with fail
  go_ret
  exact ⟨u, rfl, u0, u1, hb⟩
theorem drawDivSteps (w : World) (a : Option Addr) (len cap : Nat) (h : Bytes w a len) :
    Calls Try.prog 28 #[.slice a len cap] w fun e w' => ∃ u v : Int, e = .returned (.tuple #[.int .i64 u, .int .i64 v]) ∧ -1 ≤ u ∧ u ≤ 65536 ∧ 0 ≤ v ∧ v ≤ 32768 ∧ Below w.heap.size w w' := by
  go_enter Try.func28, Try.ntmps28
  go_wp2_with fail
  refine (value _ _ a len cap 0 (h.cur cap) (by omega) (by omega)).mono ?_
  rintro e w1 ⟨u, rfl, u0, u1, hg1, q1, q10, q11, hc1⟩
  have hlt := hc1.lt
  go_wp2_with fail
  refine (among _ _ a len cap q1 _ _ _ 0 32768 (hc1.alloc _) (by omega) (by omega) (by decide) (by decide) (by omega) (lits w1 [0, 1, 2, 3, 10, 100, 32767, 32768] 0 32768 (by decide))).mono ?_
  rintro e w2 ⟨v, rfl, v0, v1, hw⟩
  obtain ⟨hg2, q2, q20, q21, hc2⟩ := hw.alloc
  go_wp2_with fail
  go_ret2
  exact ⟨u, v, rfl, u0, u1, v0, v1, below_of (grownBy_trans hg1 hg2)⟩
theorem drawDivWords (w : World) (a : Option Addr) (len cap : Nat) (h : Bytes w a len) :
    Calls Try.prog 24 #[.slice a len cap] w fun e w' => ∃ x u v : Int, e = .returned (.tuple #[.int .i64 x, .int .i64 u, .int .i64 v]) ∧ 0 ≤ x ∧ x ≤ 65535 ∧ -1 ≤ u ∧ u ≤ 65536 ∧ 0 ≤ v ∧ v ≤ 65535 ∧ Below w.heap.size w w' := by
  go_enter Try.func24, Try.ntmps24
  go_wp2_with fail
  refine (among _ _ a len cap 0 _ _ _ 0 65535 ((h.cur cap).alloc _) (by omega) (by omega) (by decide) (by decide) (by omega) (lits1 w _ [0, 1, 2, 3, 7, 255, 256, 32768, 65535] 0 65535 (by decide))).mono ?_
  rintro e w1 ⟨v, rfl, v0, v1, hw⟩
  obtain ⟨hg1, q1, q10, q11, hc1⟩ := hw.alloc
  by_cases hv : 1 < v
  · go_wp2_with fail
    refine (one _ _ a len cap q1 2 hc1 (by omega) (by omega) (by decide) (by decide)).mono ?_
    rintro e w2 ⟨r, rfl, hg2, q2, q20, q21, hc2⟩
    cases r
    · go_wp2_with fail
      refine (one _ _ a len cap q2 12 hc2 (by omega) (by omega) (by decide) (by decide)).mono ?_
      rintro e w3 ⟨r, rfl, hg3, q3, q30, q31, hc3⟩
      cases r
      · go_wp2_with fail
        refine (value _ _ a len cap q3 hc3 (by omega) (by omega)).mono ?_
        rintro e w4 ⟨u, rfl, u0, u1, hg4, q4, q40, q41, hc4⟩
        go_wp2_with fail
        exact bodyPost_ret (v := .tuple #[.int .i64 (0), .int .i64 u, .int .i64 v]) (by simp [results, Try.results24, go_sem]) rfl ⟨0, u, v, rfl, by omega, by omega, u0, u1, v0, v1, below_of (grownBy_trans (grownBy_trans (grownBy_trans hg1 hg2) hg3) hg4)⟩
      · go_wp2_with fail
        refine (value _ _ a len cap q3 hc3 (by omega) (by omega)).mono ?_
        rintro e w4 ⟨u, rfl, u0, u1, hg4, q4, q40, q41, hc4⟩
        go_wp2_with fail
        exact bodyPost_ret (v := .tuple #[.int .i64 (v), .int .i64 u, .int .i64 v]) (by simp [results, Try.results24, go_sem]) rfl ⟨v, u, v, rfl, by omega, by omega, u0, u1, v0, v1, below_of (grownBy_trans (grownBy_trans (grownBy_trans hg1 hg2) hg3) hg4)⟩
    · go_wp2_with fail
      refine (pick _ _ a len cap q2 256 hc2 (by omega) (by omega) (by decide) (by decide)).mono ?_
      rintro e w25 ⟨k, rfl, k0, k1, hg25, q25, q250, q251, hc25⟩
      have em : k.tmod v = k % v := Int.tmod_eq_emod_of_nonneg (by omega)
      have em0 := Int.emod_nonneg k (show v ≠ 0 by omega)
      have em1 := Int.emod_lt_of_pos k (show 0 < v by omega)
      go_wp2_with fail
      refine (one _ _ a len cap q25 12 hc25 (by omega) (by omega) (by decide) (by decide)).mono ?_
      rintro e w3 ⟨r, rfl, hg3, q3, q30, q31, hc3⟩
      cases r
      · go_wp2_with fail
        refine (value _ _ a len cap q3 hc3 (by omega) (by omega)).mono ?_
        rintro e w4 ⟨u, rfl, u0, u1, hg4, q4, q40, q41, hc4⟩
        go_wp2_with fail
        exact bodyPost_ret (v := .tuple #[.int .i64 (k % v), .int .i64 u, .int .i64 v]) (by simp [results, Try.results24, go_sem]) rfl ⟨k % v, u, v, rfl, by omega, by omega, u0, u1, v0, v1, below_of (grownBy_trans (grownBy_trans (grownBy_trans (grownBy_trans hg1 hg2) hg25) hg3) hg4)⟩
      · go_wp2_with fail
        refine (value _ _ a len cap q3 hc3 (by omega) (by omega)).mono ?_
        rintro e w4 ⟨u, rfl, u0, u1, hg4, q4, q40, q41, hc4⟩
        go_wp2_with fail
        exact bodyPost_ret (v := .tuple #[.int .i64 (v), .int .i64 u, .int .i64 v]) (by simp [results, Try.results24, go_sem]) rfl ⟨v, u, v, rfl, by omega, by omega, u0, u1, v0, v1, below_of (grownBy_trans (grownBy_trans (grownBy_trans (grownBy_trans hg1 hg2) hg25) hg3) hg4)⟩
  · go_wp2_with fail
    refine (one _ _ a len cap q1 12 hc1 (by omega) (by omega) (by decide) (by decide)).mono ?_
    rintro e w3 ⟨r, rfl, hg3, q3, q30, q31, hc3⟩
    cases r
    · go_wp2_with fail
      refine (value _ _ a len cap q3 hc3 (by omega) (by omega)).mono ?_
      rintro e w4 ⟨u, rfl, u0, u1, hg4, q4, q40, q41, hc4⟩
      go_wp2_with fail
      exact bodyPost_ret (v := .tuple #[.int .i64 (0), .int .i64 u, .int .i64 v]) (by simp [results, Try.results24, go_sem]) rfl ⟨0, u, v, rfl, by omega, by omega, u0, u1, v0, v1, below_of (grownBy_trans (grownBy_trans hg1 hg3) hg4)⟩
    · go_wp2_with fail
      refine (value _ _ a len cap q3 hc3 (by omega) (by omega)).mono ?_
      rintro e w4 ⟨u, rfl, u0, u1, hg4, q4, q40, q41, hc4⟩
      go_wp2_with fail
      exact bodyPost_ret (v := .tuple #[.int .i64 (v), .int .i64 u, .int .i64 v]) (by simp [results, Try.results24, go_sem]) rfl ⟨v, u, v, rfl, by omega, by omega, u0, u1, v0, v1, below_of (grownBy_trans (grownBy_trans hg1 hg3) hg4)⟩
end Go.Proofs.Ytjgcadighogmkaa
