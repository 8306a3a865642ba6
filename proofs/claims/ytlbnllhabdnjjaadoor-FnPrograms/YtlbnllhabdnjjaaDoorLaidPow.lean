/- From what a row says of the library's tables to what our contracts ask of the table of powers of ten. -/
import Derived.Test.YtlbnllhabdnjjaaDoorRows
import Derived.Test.YtlbnllhabdnjjaaDoorImplText
import Derived.Lib.LaidTab
import Derived.Stop.LaidErr
import Derived.LaidMore
namespace Go.Proofs.YtlbnllhabdnjjaaDoor
open Go.RowKit
set_option linter.unusedVariables false
theorem gPow : Tryd.prog.globalNamed "internal/strconv.uint64pow10" = some 0 := by kernel_rfl
theorem tPow : (Tryd.prog.globals[0]?).map (·.type) = some 104 := by kernel_rfl
theorem cU64 : Tryd.prog.cellsOf 49 = 1 := by kernel_rfl
theorem cPow : Tryd.prog.cellsOf 104 = 20 := by kernel_rfl
def powZ : List Int := [1, 10, 100, 1000, 10000, 100000, 1000000, 10000000, 100000000, 1000000000, 10000000000, 100000000000, 1000000000000, 10000000000000, 100000000000000, 1000000000000000, 10000000000000000, 100000000000000000, 1000000000000000000, 10000000000000000000]
theorem powZ_is : powZ = Lib.pow10Tab := by decide
theorem tabP_of {W : World} (h : laidMetH Tryd.prog [("math/bits.deBruijn32tab", Rows.laid_math_bits_deBruijn32tab), ("math/bits.deBruijn64tab", Rows.laid_math_bits_deBruijn64tab), ("internal/strconv.uint64pow10", Rows.laid_internal_strconv_uint64pow10)] W) : TabP W := by
  rw [MakeChecks.laidMetH_plain _ _ _ (by kernel_rfl)] at h
  have hT : Lib.TabIs Tryd.prog W "internal/strconv.uint64pow10" .u64 powZ := Lib.tabIs_of_head (rest := []) gPow tPow Tryd.underlying104 Tryd.underlying49 cU64 cPow h.tail.tail
  rw [powZ_is] at hT
  exact hT
end Go.Proofs.YtlbnllhabdnjjaaDoor
