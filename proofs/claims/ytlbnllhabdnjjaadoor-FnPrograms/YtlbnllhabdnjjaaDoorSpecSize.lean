/- What the model's test of a size answers. -/
import Derived.Test.YtlbnllhabdnjjaaDoorGrA
namespace Go.Proofs.YtlbnllhabdnjjaaDoor
open Go.RowKit
set_option linter.unusedVariables false

theorem l1Size_no (s : Int) (w : World) (h1 : ¬ s = 1) (h2 : ¬ s = 2) : Calls Tryd.prog 45 #[.int .i64 s] w fun e w' => e = .returned (.bool false) ∧ w' = w := by
  have k1 : (s == 1) = false := by simpa using h1
  have k2 : (s == 2) = false := by simpa using h2
  go_enter Tryd.func45, Tryd.ntmps45
  go_wp2
  go_ret
  exact ⟨rfl, rfl⟩

theorem l1Size1 (w : World) : Calls Tryd.prog 45 #[.int .i64 1] w fun e w' => e = .returned (.bool true) ∧ w' = w := by
  go_enter Tryd.func45, Tryd.ntmps45
  go_wp2
  go_ret
  exact ⟨rfl, rfl⟩

theorem l1Size2 (w : World) : Calls Tryd.prog 45 #[.int .i64 2] w fun e w' => e = .returned (.bool true) ∧ w' = w := by
  go_enter Tryd.func45, Tryd.ntmps45
  go_wp2
  go_ret
  exact ⟨rfl, rfl⟩
theorem specSize (z : Int) (w : World) : Calls Tryd.prog 45 #[.int .i64 z] w fun e w' => e = .returned (.bool (decide (z = 1) || decide (z = 2))) ∧ w' = w := by
  by_cases h1 : z = 1
  · subst h1; exact l1Size1 w
  · by_cases h2 : z = 2
    · subst h2; exact l1Size2 w
    · rw [show (decide (z = 1) || decide (z = 2)) = false from by simp [h1, h2]]; exact l1Size_no z w h1 h2
end Go.Proofs.YtlbnllhabdnjjaaDoor
