/- What the program's moves by one place answer, for each kind and size: one contract a method; each makes new blocks and changes none that was there. -/
import Derived.Test.YtjgcadighogmkaaSgn
import Derived.Test.YtjgcadighogmkaaSpecOnce
import Derived.Test.YtjgcadighogmkaaBoxRow
import Derived.RegionTactic
import Derived.ChangeAlike
import Derived.BigRegion
import Derived.Deep.RegionWith
namespace Go.Proofs.Ytjgcadighogmkaa
open Go.RowKit
set_option linter.unusedVariables false

theorem rA {a b c d a' b' c' d' : Int} {t t' : Bool} (ha : a = a') (hb : b = b') (hc : c = c') (hd : d = d') (ht : t = t') : Ending.returned (.agg #[.int .i64 a, .int .i64 b, .int .i64 c, .int .i64 d, .bool t]) = .returned (.agg #[.int .i64 a', .int .i64 b', .int .i64 c', .int .i64 d', .bool t']) := by rw [ha, hb, hc, hd, ht]
theorem results_cell1 {fn : Func} {p : Tmp} {ty : TypeId} (h : fn.results = #[.cell p ty]) (tmps : Array Value) (P : Program) (w : World) :
    (results fn tmps).run P w = ((asAddr (tmps.getD p undef)).run P w).andThen fun a w₁ => (loadVar ty a).run P w₁ := by
  simp only [results, h]
  simp [Sem.run_bind, Result.andThen]
theorem Pl.or_low' {a q : Int} (h0 : 0 ≤ a) (h1 : a < 131072) (h2 : a % 2 = 0) (q0 : 0 ≤ q) (q1 : q ≤ 1) : bits .or .i64 a q = a + q :=
  bits_join .i64 62 (by decide) wraps_i64 1 a q (by omega) (by omega) (by omega) (by omega) (by omega) (by omega)
end Go.Proofs.Ytjgcadighogmkaa
