/- What the program lays ahead of the first place, and the flags that it tells of a row of bits: one contract a function. -/
import Derived.Test.YtjgcadighogmkaaMoves
import Derived.Test.YtjgcadighogmkaaSpecShf
import Derived.Laws.ResultCell
namespace Go.Proofs.Ytjgcadighogmkaa
open Go.RowKit
set_option linter.unusedVariables false
set_option linter.unusedSimpArgs false

theorem Pl.five {x f h : Int} {t z : Bool} (hx : x = 0 ∨ x = 1) (hf : f = 0 ∨ f = 1) (hh : h = 0 ∨ h = 1) :
    bits .or .i64 (bits .or .i64 (bits .or .i64 (bits .or .i64 (Pl.fl (f == 1) 1) (Pl.fl t 2)) (Pl.fl z 4)) (Pl.fl (h == 1) 8)) (Pl.fl (x == 1) 16) = f + Pl.fl t 2 + (Pl.fl z 4 + Pl.fl (h == 1) 8) + 16 * x := by
  rcases hx with rfl | rfl <;> rcases hf with rfl | rfl <;> rcases hh with rfl | rfl <;> cases t <;> cases z <;> decide
theorem Pl.hi_top (s v : Int) : (Pl.hi s v == 1) = decide (Pl.top s / 2 ≤ v) := by
  unfold Pl.hi; split
  · rename_i h; simp [h]
  · rename_i h; simp [h]
def Pl.fal0 (k f : Int) : Int := if 6 ≤ k then f / 16 else 0
end Go.Proofs.Ytjgcadighogmkaa
