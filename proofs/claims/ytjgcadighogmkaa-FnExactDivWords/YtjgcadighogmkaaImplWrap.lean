/- What the program's wrapWord answers. -/
import Derived.Test.YtjgcadighogmkaaBase
namespace Go.Proofs.Ytjgcadighogmkaa
open Go.RowKit
set_option linter.unusedVariables false
theorem wrapWord (v : Int) (w : World) : Calls Try.prog 65 #[.int .i64 v] w fun e w' => e = .returned (.int .i64 (v % 65536)) ∧ w' = w := by
  have hW := IntKind.wrap_u16 v
  go_enter Try.func65, Try.ntmps65
  go_wp2
  go_ret
  exact ⟨rfl, rfl⟩
end Go.Proofs.Ytjgcadighogmkaa
