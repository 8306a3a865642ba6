/- A call that only draws from the tape: what it leaves, in the two forms that a law's frame asks for. -/
import Derived.Test.YtjgcadighogmkaaBase
import Derived.Below
namespace Go.Proofs.Ytjgcadighogmkaa
open Go.RowKit
set_option linter.unusedVariables false

/-- a number that an int holds -/
def W64 (n : Int) : Prop := -9223372036854775808 ≤ n ∧ n ≤ 9223372036854775807
theorem w64 {n : Int} (h0 : -9223372036854775808 ≤ n) (h1 : n ≤ 9223372036854775807) : W64 n := ⟨h0, h1⟩
theorem w64_of {n : Int} (h : (Lit.int .i64 n).wf = true) : W64 n := bounds_i64 h

theorem drewN_below {B : Nat} {a w : World} (h : Below B a w) (n : Nat) : Below B a (w.drewN n) := ⟨h.os, h.tape, h.output, h.size, h.block⟩
theorem drawn_grown {f : FuncId} {args : Array Value} {w : World} {E : Ending} (h : Calls Try.prog f args w fun e w' => e = E ∧ ∃ n, w' = w.drewN n) : Calls Try.prog f args w fun e w' => e = E ∧ Grown w w' :=
  h.mono fun e w' ⟨he, n, hw⟩ => ⟨he, by rw [hw]; exact Grown.refl w⟩
theorem drawn_below {f : FuncId} {args : Array Value} {w : World} {E : Ending} (h : Calls Try.prog f args w fun e w' => e = E ∧ ∃ n, w' = w.drewN n) : Calls Try.prog f args w fun e w' => e = E ∧ Below w.heap.size w w' :=
  h.mono fun e w' ⟨he, n, hw⟩ => ⟨he, by rw [hw]; exact drewN_below (Below.refl _ _) n⟩

end Go.Proofs.Ytjgcadighogmkaa
