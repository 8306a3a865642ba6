/- What the model's tests of words and operands answer. -/
import Derived.Test.YtlbnllhabdnjjaaDoorGrB
import Derived.Test.YtlbnllhabdnjjaaDoorSpecSize
import Derived.BigQuiet
import Derived.Deep.QuietTactic
namespace Go.Proofs.YtlbnllhabdnjjaaDoor
open Go.RowKit
set_option linter.unusedVariables false
theorem specWord (n : Int) (w : World) : Calls Tryd.prog 28 #[.int .i64 n] w fun e w' => e = .returned (.bool (Pl.wordOk n)) ∧ w' = w := by
  go_enter Tryd.func28, Tryd.ntmps28
  go_wp2_with (go_at_call 46; refine (l1In _ _ _ _).mono ?_; rintro e w' ⟨rfl, hw⟩; have hw2 := hw.symm; clear hw; subst hw2)
  go_ret
  exact ⟨rfl, rfl⟩
theorem specExtM (n : Int) (w : World) : Calls Tryd.prog 52 #[.int .i64 n] w fun e w' => e = .returned (.bool (Pl.extM n)) ∧ w' = w := by
  go_enter Tryd.func52, Tryd.ntmps52
  go_wp2
  go_ret
  exact ⟨rfl, rfl⟩
set_option maxHeartbeats 4000000 in
theorem specGoodOperand (w : World) (m k e : Int) :
    Calls Tryd.prog 47 #[.agg #[.int .i64 m, .int .i64 k, .int .i64 e]] w fun r w' => r = .returned (.bool (Pl.opOk m k e)) ∧ Kept 0 0 w w' := by
  have HK := hide (kept_alloc w (.cells #[.int .i64 m, .int .i64 k, .int .i64 e] 34))
  have G : Hid (Pl.opOk m k e = (Pl.modeOk m && (Pl.within k 0 3 && ((decide (m < 6) || (k == 0)) && (Pl.wordOk e && (Pl.extM m || (e == 0))))))) := hide rfl
  cases h1 : Pl.modeOk m
  · go_enter Tryd.func47, Tryd.ntmps47
    go_wp2_with (first | (go_at_call 46; refine (l1In _ _ _ _).mono ?_; rintro e w' ⟨rfl, hw⟩; have hw2 := hw.symm; clear hw; subst hw2; rw [show (decide (0 ≤ m) && decide (m ≤ 7)) = Pl.modeOk m from rfl, h1]; have Z1 : True := trivial))
    go_ret
    exact ⟨rB (by rw [G.out, h1]; simp), HK.out⟩
  · cases h2 : Pl.within k 0 3
    · go_enter Tryd.func47, Tryd.ntmps47
      go_wp2_with (first | (go_at_call 46; have z := Z1; refine (l1In _ _ _ _).mono ?_; rintro e w' ⟨rfl, hw⟩; have hw2 := hw.symm; clear hw; subst hw2; rw [show (decide (0 ≤ k) && decide (k ≤ 3)) = Pl.within k 0 3 from rfl, h2]) | (go_at_call 46; refine (l1In _ _ _ _).mono ?_; rintro e w' ⟨rfl, hw⟩; have hw2 := hw.symm; clear hw; subst hw2; rw [show (decide (0 ≤ m) && decide (m ≤ 7)) = Pl.modeOk m from rfl, h1]; have Z1 : True := trivial))
      go_ret
      exact ⟨rB (by rw [G.out, h1, h2]; simp), HK.out⟩
    · cases h3 : decide (6 ≤ m)
      · have q3 : decide (m < 6) = true := by simp at h3 ⊢; omega
        cases h4 : Pl.wordOk e
        · go_enter Tryd.func47, Tryd.ntmps47
          go_wp2_with (first | (go_at_call 46; have z := Z1; refine (l1In _ _ _ _).mono ?_; rintro e w' ⟨rfl, hw⟩; have hw2 := hw.symm; clear hw; subst hw2; rw [show (decide (0 ≤ k) && decide (k ≤ 3)) = Pl.within k 0 3 from rfl, h2]) | (go_at_call 46; refine (l1In _ _ _ _).mono ?_; rintro e w' ⟨rfl, hw⟩; have hw2 := hw.symm; clear hw; subst hw2; rw [show (decide (0 ≤ m) && decide (m ≤ 7)) = Pl.modeOk m from rfl, h1]; have Z1 : True := trivial) | (go_at_call 28; refine (specWord _ _).mono ?_; rintro e w' ⟨rfl, hw⟩; have hw2 := hw.symm; clear hw; subst hw2; rw [h4]))
          go_ret
          exact ⟨rB (by rw [G.out, h1, h2, q3, h4]; simp), HK.out⟩
        · cases h5 : Pl.extM m
          · cases h6 : (e == 0)
            all_goals
              go_enter Tryd.func47, Tryd.ntmps47
              go_wp2_with (first | (go_at_call 46; have z := Z1; refine (l1In _ _ _ _).mono ?_; rintro e w' ⟨rfl, hw⟩; have hw2 := hw.symm; clear hw; subst hw2; rw [show (decide (0 ≤ k) && decide (k ≤ 3)) = Pl.within k 0 3 from rfl, h2]) | (go_at_call 46; refine (l1In _ _ _ _).mono ?_; rintro e w' ⟨rfl, hw⟩; have hw2 := hw.symm; clear hw; subst hw2; rw [show (decide (0 ≤ m) && decide (m ≤ 7)) = Pl.modeOk m from rfl, h1]; have Z1 : True := trivial) | (go_at_call 28; refine (specWord _ _).mono ?_; rintro e w' ⟨rfl, hw⟩; have hw2 := hw.symm; clear hw; subst hw2; rw [h4]) | (go_at_call 52; refine (specExtM _ _).mono ?_; rintro e w' ⟨rfl, hw⟩; have hw2 := hw.symm; clear hw; subst hw2; rw [h5]))
              go_ret
              exact ⟨rB (by rw [G.out, h1, h2, q3, h4, h5, h6]; simp), HK.out⟩
          · go_enter Tryd.func47, Tryd.ntmps47
            go_wp2_with (first | (go_at_call 46; have z := Z1; refine (l1In _ _ _ _).mono ?_; rintro e w' ⟨rfl, hw⟩; have hw2 := hw.symm; clear hw; subst hw2; rw [show (decide (0 ≤ k) && decide (k ≤ 3)) = Pl.within k 0 3 from rfl, h2]) | (go_at_call 46; refine (l1In _ _ _ _).mono ?_; rintro e w' ⟨rfl, hw⟩; have hw2 := hw.symm; clear hw; subst hw2; rw [show (decide (0 ≤ m) && decide (m ≤ 7)) = Pl.modeOk m from rfl, h1]; have Z1 : True := trivial) | (go_at_call 28; refine (specWord _ _).mono ?_; rintro e w' ⟨rfl, hw⟩; have hw2 := hw.symm; clear hw; subst hw2; rw [h4]) | (go_at_call 52; refine (specExtM _ _).mono ?_; rintro e w' ⟨rfl, hw⟩; have hw2 := hw.symm; clear hw; subst hw2; rw [h5]))
            go_ret
            exact ⟨rB (by rw [G.out, h1, h2, q3, h4, h5]; simp), HK.out⟩
      · have q3 : decide (m < 6) = false := by simp at h3 ⊢; omega
        cases h7 : (k != 0)
        · have q7 : (k == 0) = true := by simpa using h7
          cases h4 : Pl.wordOk e
          · go_enter Tryd.func47, Tryd.ntmps47
            go_wp2_with (first | (go_at_call 46; have z := Z1; refine (l1In _ _ _ _).mono ?_; rintro e w' ⟨rfl, hw⟩; have hw2 := hw.symm; clear hw; subst hw2; rw [show (decide (0 ≤ k) && decide (k ≤ 3)) = Pl.within k 0 3 from rfl, h2]) | (go_at_call 46; refine (l1In _ _ _ _).mono ?_; rintro e w' ⟨rfl, hw⟩; have hw2 := hw.symm; clear hw; subst hw2; rw [show (decide (0 ≤ m) && decide (m ≤ 7)) = Pl.modeOk m from rfl, h1]; have Z1 : True := trivial) | (go_at_call 28; refine (specWord _ _).mono ?_; rintro e w' ⟨rfl, hw⟩; have hw2 := hw.symm; clear hw; subst hw2; rw [h4]))
            go_ret
            exact ⟨rB (by rw [G.out, h1, h2, q3, q7, h4]; simp), HK.out⟩
          · cases h5 : Pl.extM m
            · cases h6 : (e == 0)
              all_goals
                go_enter Tryd.func47, Tryd.ntmps47
                go_wp2_with (first | (go_at_call 46; have z := Z1; refine (l1In _ _ _ _).mono ?_; rintro e w' ⟨rfl, hw⟩; have hw2 := hw.symm; clear hw; subst hw2; rw [show (decide (0 ≤ k) && decide (k ≤ 3)) = Pl.within k 0 3 from rfl, h2]) | (go_at_call 46; refine (l1In _ _ _ _).mono ?_; rintro e w' ⟨rfl, hw⟩; have hw2 := hw.symm; clear hw; subst hw2; rw [show (decide (0 ≤ m) && decide (m ≤ 7)) = Pl.modeOk m from rfl, h1]; have Z1 : True := trivial) | (go_at_call 28; refine (specWord _ _).mono ?_; rintro e w' ⟨rfl, hw⟩; have hw2 := hw.symm; clear hw; subst hw2; rw [h4]) | (go_at_call 52; refine (specExtM _ _).mono ?_; rintro e w' ⟨rfl, hw⟩; have hw2 := hw.symm; clear hw; subst hw2; rw [h5]))
                go_ret
                exact ⟨rB (by rw [G.out, h1, h2, q3, q7, h4, h5, h6]; simp), HK.out⟩
            · go_enter Tryd.func47, Tryd.ntmps47
              go_wp2_with (first | (go_at_call 46; have z := Z1; refine (l1In _ _ _ _).mono ?_; rintro e w' ⟨rfl, hw⟩; have hw2 := hw.symm; clear hw; subst hw2; rw [show (decide (0 ≤ k) && decide (k ≤ 3)) = Pl.within k 0 3 from rfl, h2]) | (go_at_call 46; refine (l1In _ _ _ _).mono ?_; rintro e w' ⟨rfl, hw⟩; have hw2 := hw.symm; clear hw; subst hw2; rw [show (decide (0 ≤ m) && decide (m ≤ 7)) = Pl.modeOk m from rfl, h1]; have Z1 : True := trivial) | (go_at_call 28; refine (specWord _ _).mono ?_; rintro e w' ⟨rfl, hw⟩; have hw2 := hw.symm; clear hw; subst hw2; rw [h4]) | (go_at_call 52; refine (specExtM _ _).mono ?_; rintro e w' ⟨rfl, hw⟩; have hw2 := hw.symm; clear hw; subst hw2; rw [h5]))
              go_ret
              exact ⟨rB (by rw [G.out, h1, h2, q3, q7, h4, h5]; simp), HK.out⟩
        · have q7 : (k == 0) = false := by simpa using h7
          go_enter Tryd.func47, Tryd.ntmps47
          go_wp2_with (first | (go_at_call 46; have z := Z1; refine (l1In _ _ _ _).mono ?_; rintro e w' ⟨rfl, hw⟩; have hw2 := hw.symm; clear hw; subst hw2; rw [show (decide (0 ≤ k) && decide (k ≤ 3)) = Pl.within k 0 3 from rfl, h2]) | (go_at_call 46; refine (l1In _ _ _ _).mono ?_; rintro e w' ⟨rfl, hw⟩; have hw2 := hw.symm; clear hw; subst hw2; rw [show (decide (0 ≤ m) && decide (m ≤ 7)) = Pl.modeOk m from rfl, h1]; have Z1 : True := trivial))
          go_ret
          exact ⟨rB (by rw [G.out, h1, h2, q3, q7]; simp), HK.out⟩
end Go.Proofs.YtlbnllhabdnjjaaDoor
