/- What the laws' own functions over lists of whole numbers do: compare, copy, mark, look for the marks. -/
import Derived.Test.YtceipklpbnmggaaGrow
namespace Go.Proofs.Ytceipklpbnmggaa
open Go.RowKit
set_option linter.unusedVariables false

/-- a list of whole numbers lies in memory from address a on -/
def IRow (w : World) (a : Option Addr) (xs : List Int) : Prop :=
  ∀ i : Nat, i < xs.length → ∃ g off : Nat, a = some ⟨g, off, none⟩ ∧ w.cell? ⟨g, off + i, none⟩ = some (.int .i64 (xs[i]?.getD 0))

theorem IRow.kept {w w' : World} {a : Option Addr} {xs : List Int} (h : IRow w a xs) (hg : w.grownBy w' none) : IRow w' a xs := by
  intro i hi
  obtain ⟨g, off, ea, hc⟩ := h i hi
  exact ⟨g, off, ea, hg.cell hc (by simp)⟩

theorem ext_of {xs ys : List Int} (hl : xs.length = ys.length) (h : ∀ i, i < xs.length → xs[i]?.getD 0 = ys[i]?.getD 0) : xs = ys := by
  apply List.ext_getElem hl
  intro i h1 h2
  have := h i h1
  simpa [h1, h2] using this

theorem snoc_all {p : Nat → Prop} {k : Nat} (h : ∀ i, i < k → p i) (hk : p k) : ∀ i, i < k + 1 → p i := by
  intro i hi
  by_cases e : i = k
  · rw [e]; exact hk
  · exact h i (by omega)

end Go.Proofs.Ytceipklpbnmggaa
