/- What the draw of a value answers. -/
import Derived.Test.YtjgcadighogmkaaRead
namespace Go.Proofs.Ytjgcadighogmkaa
open Go.RowKit
set_option linter.unusedVariables false
theorem value (w : World) (b : Nat) (a : Option Addr) (len cap : Nat) (p : Int) (h : Cur w b a len cap p) (p0 : 0 ≤ p) (p1 : p ≤ 800000) :
    Calls Try.prog 49 #[.pointer (some ⟨b, 0, none⟩)] w fun e w' => ∃ r : Int, e = .returned (.int .i64 r) ∧ -1 ≤ r ∧ r ≤ 65536 ∧ Went w w' b a len cap p 8 := by
  go_enter Try.func49, Try.ntmps49
  go_wp2_with fail
  refine (one _ b a len cap p 2 h p0 (by omega) (by omega) (by omega)).mono ?_
  rintro e w1 ⟨x, rfl, hg1, q1, q10, q11, hc1⟩
  cases x
  · go_wp2_with fail
    refine (pick _ b a len cap q1 256 hc1 (by omega) (by omega) (by omega) (by omega)).mono ?_
    rintro e w2 ⟨x, rfl, x0, x1, hg2, q2, q20, q21, hc2⟩
    go_wp2_with fail
    refine (pick _ b a len cap q2 2 hc2 (by omega) (by omega) (by omega) (by omega)).mono ?_
    rintro e w3 ⟨y, rfl, y0, y1, hg3, q3, q30, q31, hc3⟩
    obtain rfl | rfl : y = 0 ∨ y = 1 := by omega
    all_goals
      go_wp2_with fail
      refine (pick _ b a len cap q3 256 hc3 (by omega) (by omega) (by omega) (by omega)).mono ?_
      rintro e w4 ⟨z, rfl, z0, z1, hg4, q4, q40, q41, hc4⟩
      go_wp2_with fail
      go_ret
      exact ⟨_, rfl, by omega, by omega, grownBy_trans (grownBy_trans (grownBy_trans hg1 hg2) hg3) hg4, q4, by omega, by omega, hc4⟩
  · have hlt := hc1.lt
    go_wp2_with fail
    refine (among _ b a len cap q1 _ _ _ (-1) 65536 (hc1.alloc _) (by omega) (by omega) (by decide) (by decide) (by omega) (lits w1 [0, 1, 127, 128, 255, 256, 32767, 32768, 65535, 65536, -1] (-1) 65536 (by decide))).mono ?_
    rintro e w2 ⟨x, rfl, x0, x1, hw⟩
    obtain ⟨hg2, q2, q20, q21, hc2⟩ := hw.alloc
    go_wp2_with fail
    go_ret
    exact ⟨_, rfl, x0, x1, grownBy_trans hg1 hg2, q2, by omega, by omega, hc2⟩
end Go.Proofs.Ytjgcadighogmkaa
