/- From what a row says of the program's two tables to what our contracts ask of them. -/
import Derived.Test.YtkahmepoblhbnaaDoorRows
import Derived.Test.YtkahmepoblhbnaaDoorTabs
import Derived.Lib.LaidTab
import Derived.Stop.LaidErr
import Derived.LaidMore
namespace Go.Proofs.YtkahmepoblhbnaaDoor
open Go.RowKit
set_option linter.unusedVariables false

theorem gSums : Tryd.prog.globalNamed "loop.example/g00389/impl.digitSums" = some 0 := by kernel_rfl
theorem gNines : Tryd.prog.globalNamed "loop.example/g00389/impl.ninesLess" = some 1 := by kernel_rfl
theorem tSums : (Tryd.prog.globals[0]?).map (·.type) = some 56 := by kernel_rfl
theorem tNines : (Tryd.prog.globals[1]?).map (·.type) = some 57 := by kernel_rfl
theorem cInt : Tryd.prog.cellsOf 3 = 1 := by kernel_rfl
theorem cSums : Tryd.prog.cellsOf 56 = 20 := by kernel_rfl
theorem cNines : Tryd.prog.cellsOf 57 = 10 := by kernel_rfl

def sumsZ : List Int := [0, 1, 2, 3, 4, 5, 6, 7, 8, 9, 16, 17, 18, 19, 20, 21, 22, 23, 24, 25]
def ninesZ : List Int := [9, 8, 7, 6, 5, 4, 3, 2, 1, 0]

theorem sumsZ_at : ∀ i : Nat, i < 20 → sumsZ.getD i 0 = (i : Int) / 10 * 16 + (i : Int) % 10 := by decide
theorem ninesZ_at : ∀ i : Nat, i < 10 → ninesZ.getD i 0 = 9 - (i : Int) := by decide

theorem tabS_of {W : World} {rest : List (String × DataW Unit)} (h : laidMet Tryd.prog (("loop.example/g00389/impl.digitSums", Rows.laid_loop_example_g00389_impl_digitSums) :: rest) W) : TabS W := by
  have hT : Lib.TabIs Tryd.prog W "loop.example/g00389/impl.digitSums" .i64 sumsZ := Lib.tabIs_of_head (rest := rest) gSums tSums Tryd.underlying56 Tryd.underlying3 cInt cSums h
  intro i hi
  rw [hT.cell gSums i (by simpa [sumsZ] using hi), sumsZ_at i hi]

theorem tabN_of {W : World} {rest : List (String × DataW Unit)} (h : laidMet Tryd.prog (("loop.example/g00389/impl.ninesLess", Rows.laid_loop_example_g00389_impl_ninesLess) :: rest) W) : TabN W := by
  have hT : Lib.TabIs Tryd.prog W "loop.example/g00389/impl.ninesLess" .i64 ninesZ := Lib.tabIs_of_head (rest := rest) gNines tNines Tryd.underlying57 Tryd.underlying3 cInt cNines h
  intro i hi
  rw [hT.cell gNines i (by simpa [ninesZ] using hi), ninesZ_at i hi]

/-- both tables -/
theorem tabs_of {W : World} (h : laidMetH Tryd.prog [("loop.example/g00389/impl.digitSums", Rows.laid_loop_example_g00389_impl_digitSums), ("loop.example/g00389/impl.ninesLess", Rows.laid_loop_example_g00389_impl_ninesLess)] W) : TabS W ∧ TabN W := by
  rw [MakeChecks.laidMetH_plain _ _ _ (by kernel_rfl)] at h
  exact ⟨tabS_of h, tabN_of h.tail⟩
theorem tabS_alone {W : World} (h : laidMetH Tryd.prog [("loop.example/g00389/impl.digitSums", Rows.laid_loop_example_g00389_impl_digitSums)] W) : TabS W := by
  rw [MakeChecks.laidMetH_plain _ _ _ (by kernel_rfl)] at h
  exact tabS_of h
theorem tabN_alone {W : World} (h : laidMetH Tryd.prog [("loop.example/g00389/impl.ninesLess", Rows.laid_loop_example_g00389_impl_ninesLess)] W) : TabN W := by
  rw [MakeChecks.laidMetH_plain _ _ _ (by kernel_rfl)] at h
  exact tabN_of h

end Go.Proofs.YtkahmepoblhbnaaDoor
