/- A row of bits (the program's struct of five fields), laid in a block of its own: what it holds, and what later worlds leave of it. -/
import Derived.Test.YtjgcadighogmkaaDrawn
import Derived.Laws.Rows
import Derived.Laws.ResultCell
namespace Go.Proofs.Ytjgcadighogmkaa
open Go.RowKit
set_option linter.unusedVariables false
set_option linter.unusedSimpArgs false
theorem store_func (a : Addr) (fn : Fn) (m : Mode) (w : World) : (store a (.func fn #[] #[]) m).run Try.prog w = stored Try.prog w a (.func fn #[] #[]) m := run_store Try.prog w a _ m rfl
theorem undrew {B : Nat} {w wt : World} (h : Below B w.drew wt) : Below B w wt := ⟨h.os, h.tape, h.output, h.size, h.block⟩
theorem Below.set5 {B : Nat} {a w : World} (h : Below B a w) {b : Nat} (hb : B ≤ b) (v0 v1 v2 v3 v4 : Value) :
    Below B a (((((w.setCell ⟨b, 0, none⟩ v0).setCell ⟨b, 1, none⟩ v1).setCell ⟨b, 2, none⟩ v2).setCell ⟨b, 3, none⟩ v3).setCell ⟨b, 4, none⟩ v4) :=
  ((((h.setCell hb _).setCell hb _).setCell hb _).setCell hb _).setCell hb _
end Go.Proofs.Ytjgcadighogmkaa
