/- What the model's small functions of chapter 1 answer, for every argument: one contract a function; none changes the world. -/
import Derived.Test.YtjgcadighogmkaaSpecVal
namespace Go.Proofs.Ytjgcadighogmkaa
open Go.RowKit
set_option linter.unusedVariables false

theorem l1Flag (b : Bool) (f : Int) (w : World) :
    Calls Try.prog 60 #[.bool b, .int .i64 f] w fun e w' => e = .returned (.int .i64 (Pl.fl b f)) ∧ w' = w := by
  cases b
  all_goals
    go_enter Try.func60, Try.ntmps60
    go_wp2
    go_ret
    exact ⟨rfl, rfl⟩

end Go.Proofs.Ytjgcadighogmkaa
