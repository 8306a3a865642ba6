/- What the model of an access does to a bus of its own. -/
import Derived.Test.YtbkafdphagmgpaaSpecTouch0
import Derived.Test.YtbkafdphagmgpaaImplTouch
import Derived.Deep.DeepCutAuto
namespace Go.Proofs.Ytbkafdphagmgpaa
open Go.RowKit
set_option linter.unusedVariables false

theorem l4Own (w : World) (a b : Option Addr) (ca cb m : Nat) (xs ys : List Int) (ha : IRow w a xs) (hb : IRow w b ys) (lx : xs.length ≤ 2000000) (ly : ys.length = 5 * m) (bm : m ≤ 2000000) (x0 : 0 < xs.length) :
    Calls Try.prog 47 #[.agg #[.slice a xs.length ca, .slice b m cb]] w fun e w' => ∃ (g1 c1 g2 c2 : Nat), e = .returned (.agg #[.slice (some ⟨g1, 0, none⟩) xs.length c1, .slice (some ⟨g2, 0, none⟩) m c2]) ∧ w'.ownsRow w.heap.size 3 1 (.slice (some ⟨g1, 0, none⟩) xs.length c1) xs.length (xs.map (Value.int .i64)) ∧ w'.ownsRow w.heap.size 61 5 (.slice (some ⟨g2, 0, none⟩) m c2) m (ys.map (Value.int .i64)) ∧ g1 ≠ g2 ∧ Kept 0 0 w w' := by
  obtain ⟨ga, oa, rfl, _⟩ := ha 0 x0
  by_cases h0 : m = 0
  · subst h0
    obtain rfl : ys = [] := List.eq_nil_of_length_eq_zero (by omega)
    cases b with
    | none => exact l4Own_nil w ga oa ca cb xs ha lx x0
    | some ad => exact l4Own_none w ga oa ad.block ad.off ad.spot ca cb xs ha lx x0
  · obtain ⟨gb, ob, rfl, _⟩ := hb 0 (by omega)
    refine (l4Own_log w ga oa gb ob ca cb m xs ys ha hb lx ly bm x0 (by omega)).mono ?_
    rintro e w' ⟨g1, c1, g2, c2, rfl, o1, o2, hl, kk⟩
    exact ⟨g1, c1, g2, c2, rfl, o1, o2, by omega, kk⟩

end Go.Proofs.Ytbkafdphagmgpaa
