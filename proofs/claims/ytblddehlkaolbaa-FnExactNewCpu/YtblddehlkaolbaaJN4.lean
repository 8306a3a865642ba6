/- A processor that came in to a law, opened: four lists that lie in memory, the accesses spoken of as the row of their numbers. -/
import Derived.Test.YtblddehlkaolbaaJN1
import Derived.Test.YtblddehlkaolbaaJN2
import Derived.Lib.SmallJoins
import Derived.Deep.Slices
import Derived.ProofKit
import Derived.OpenShut
namespace Go.Proofs.Ytblddehlkaolbaa
open Go.RowKit Go.WideShapes Go.ChangeShapes Go.ChangeAt
set_option linter.unusedVariables false
set_option linter.unusedSimpArgs false

theorem Try.cellsInt : Try.prog.cellsOf 3 = 1 := by kernel_rfl
set_option maxRecDepth 100000 in
theorem came_of {w : World} {x : Addr} {n : Nat} (h : ∀ i, i < n → ∃ z : Int, w.cell? (x.add i) = some (.int .i64 z) ∧ (Lit.int .i64 z).wf = true) : ∃ xs : List Int, xs.length = n ∧ Came w (some x) xs := by
  obtain ⟨f, hf⟩ := Go.Deep.choose_lt h
  refine ⟨(List.range n).map f, by simp, ?_, ?_⟩
  · intro i hi
    have hi' : i < n := by simpa using hi
    obtain ⟨g, off, spot⟩ := x
    have hspot : spot = none := by simpa [Addr.add] using World.cell?_spot (hf 0 (by omega)).1
    subst hspot
    refine ⟨g, off, rfl, ?_⟩
    have hc := (hf i hi').1
    by_cases h0 : i = 0
    · subst h0; simpa [Addr.add, hi'] using hc
    · simpa [Addr.add, h0, hi'] using hc
  · intro i hi
    have hi' : i < n := by simpa using hi
    have := bounds_i64 (hf i hi').2
    simpa [hi'] using this

section
variable {H : Type} {enc : TypeId × Value → H} {w : World} {base : Nat} {spare : Nat → Bool} {held : Bool}

set_option maxRecDepth 100000 in
theorem open_intRow {fuel : Nat} {v : Value} {y : DataW H × List MemPlace} (h : DataW.trod enc Try.prog w base spare held fuel 22 [v] = some y) :
    ∃ (a : Option Addr) (cap : Nat) (xs : List Int), v = .slice a xs.length cap ∧ Came w a xs ∧ xs.length ≤ maxLen := by
  rcases open_ints Try.underlying22 Try.underlying3 Try.cellsInt h with ⟨hc, _⟩ | ⟨x, len, cap, zs, hc, _, hl, hm, hz, _, hcell, hwz⟩
  · simp at hc
    exact ⟨none, 0, [], hc, ⟨fun i hi => absurd hi (Nat.not_lt_zero i), fun i hi => absurd hi (Nat.not_lt_zero i)⟩, Nat.zero_le _⟩
  · simp at hc
    have hlen : len ≤ zs.length := by rw [hz]; split <;> omega
    obtain ⟨xs, rfl, hx⟩ := came_of (w := w) (x := x) (n := len) (fun i hi => ⟨zs.getD i 0, hcell i (by omega), hwz _ (by
      have : i < zs.length := by omega
      simp [List.getD, this])⟩)
    exact ⟨some x, cap, xs, hc, hx, by omega⟩

set_option maxRecDepth 100000 in
theorem open_intArg {r : Reach} {b0 : Nat} {v : Value} {d : DataW H} {p : List MemPlace} (hv : Value.okWide Try.prog w r b0 22 v) (h : DataW.Trod enc Try.prog w base spare held 22 v d p) :
    ∃ (a : Option Addr) (cap : Nat) (xs : List Int), v = .slice a xs.length cap ∧ Came w a xs ∧ xs.length ≤ maxLen := by
  obtain ⟨a1, len1, cap1, rfl⟩ := okWide_slice Try.underlying22 hv
  obtain ⟨fuel, hf⟩ := h
  exact open_intRow hf
end
end Go.Proofs.Ytblddehlkaolbaa

