/- The laws on LongIns and DecodeIns: of whatever arguments, their Go functions return true, and no block that was there has turned. -/
import Derived.Test.YtlbnllhabdnjjaaInsFns
import Derived.Test.YtlbnllhabdnjjaaSpecIns4
import Derived.Test.YtlbnllhabdnjjaaImplInsF
namespace Go.Proofs.Ytlbnllhabdnjjaa
open Go.RowKit
set_option linter.unusedVariables false
theorem lawLongIns (n : Int) (w : World) (wfn : (Lit.int .i64 n).wf = true) :
    Calls Try.prog 6 #[.int .i64 n] w fun r' w' => r' = .returned (.bool true) ∧ Below w.heap.size w w' := by
  generalize hA : (if Pl.wordOk n = true then Pl.longW n else 0) = N
  generalize hB : Pl.wordOk n = O at hA
  have HA := hide hA
  have HB := hide hB
  clear hA hB
  go_enter Try.func6, Try.ntmps6
  go_wp2_with fail
  refine (specLongIns _ _).mono ?_
  rw [HB.out, HA.out]
  rintro r2 w2 ⟨rfl, hw⟩
  have hw2 := hw.symm
  clear hw
  subst hw2
  go_wp2_with fail
  refine (implLongIns _ _ wfn).mono ?_
  rw [HB.out, HA.out]
  rintro r4 w4 ⟨rfl, k4⟩
  go_wp2_with fail
  go_ret
  exact ⟨rfl, k4.below⟩
end Go.Proofs.Ytlbnllhabdnjjaa
