/- What the program's test of a kept bit answers. -/
import Derived.Test.YtkahmepoblhbnaaDoorBase
namespace Go.Proofs.YtkahmepoblhbnaaDoor
open Go.RowKit
set_option linter.unusedVariables false

theorem isBit (x : Int) (w : World) :
    Calls Tryd.prog 38 #[.int .i64 x] w fun e w' => e = .returned (.bool (Pl.bit x)) ∧ w' = w := by
  by_cases h0 : x = 0
  · subst h0
    go_enter Tryd.func38, Tryd.ntmps38
    go_wp2
    go_ret
    exact ⟨rfl, rfl⟩
  · by_cases h1 : x = 1
    · subst h1
      go_enter Tryd.func38, Tryd.ntmps38
      go_wp2
      go_ret
      exact ⟨rfl, rfl⟩
    · have k0 : (x == 0) = false := by simpa using h0
      have k1 : (x == 1) = false := by simpa using h1
      go_enter Tryd.func38, Tryd.ntmps38
      go_wp2
      go_ret
      exact ⟨rB (by simp [Pl.bit]; omega), rfl⟩

end Go.Proofs.YtkahmepoblhbnaaDoor
