/- A bus that came in to a law, opened: two lists that lie in memory, the accesses spoken of as the row of their numbers. -/
import Derived.Test.YtbkafdphagmgpaaBusFns
import Derived.Lib.SmallJoins
import Derived.Deep.Slices
import Derived.ProofKit
namespace Go.Proofs.Ytbkafdphagmgpaa
open Go.RowKit Go.WideShapes Go.ChangeShapes Go.ChangeAt
set_option linter.unusedVariables false

theorem Try.cellsInt : Try.prog.cellsOf 3 = 1 := by kernel_rfl
theorem Try.cellsAcc : Try.prog.cellsOf 82 = 5 := by kernel_rfl
theorem Try.cellsBus : Try.prog.cellsOf 35 = 2 := by kernel_rfl


/-- from numbers at each place to the row of them -/
theorem Addr.add_add_own (a : Addr) (i j : Nat) : (a.add i).add j = a.add (i + j) := by
  unfold Addr.add
  by_cases hi : i = 0 <;> by_cases hj : j = 0 <;> simp [hi, hj, Nat.add_assoc]
theorem came_of {w : World} {x : Addr} {n : Nat} (h : ∀ i, i < n → ∃ z : Int, w.cell? (x.add i) = some (.int .i64 z) ∧ (Lit.int .i64 z).wf = true) : ∃ xs : List Int, xs.length = n ∧ Came w (some x) xs := by
  obtain ⟨f, hf⟩ := Go.Deep.choose_lt h
  refine ⟨(List.range n).map f, by simp, ?_, ?_⟩
  · intro i hi
    have hi' : i < n := by simpa using hi
    obtain ⟨g, off, spot⟩ := x
    have hspot : spot = none := by simpa [Addr.add] using World.cell?_spot (hf 0 (by omega)).1
    subst hspot
    refine ⟨g, off, rfl, ?_⟩
    have hc := (hf i hi').1
    by_cases h0 : i = 0
    · subst h0; simpa [Addr.add, hi'] using hc
    · simpa [Addr.add, h0, hi'] using hc
  · intro i hi
    have hi' : i < n := by simpa using hi
    have := bounds_i64 (hf i hi').2
    simpa [hi'] using this

section
variable {H : Type} {enc : TypeId × Value → H} {w : World} {base : Nat} {spare : Nat → Bool} {held : Bool}

theorem open_intRow {fuel : Nat} {v : Value} {y : DataW H × List MemPlace} (h : DataW.trod enc Try.prog w base spare held fuel 22 [v] = some y) :
    ∃ (a : Option Addr) (cap : Nat) (xs : List Int), v = .slice a xs.length cap ∧ Came w a xs ∧ xs.length ≤ maxLen := by
  rcases open_ints Try.underlying22 Try.underlying3 Try.cellsInt h with ⟨hc, _⟩ | ⟨x, len, cap, zs, hc, _, hl, hm, hz, _, hcell, hwz⟩
  · simp at hc
    exact ⟨none, 0, [], hc, ⟨fun i hi => absurd hi (Nat.not_lt_zero i), fun i hi => absurd hi (Nat.not_lt_zero i)⟩, Nat.zero_le _⟩
  · simp at hc
    have hlen : len ≤ zs.length := by rw [hz]; split <;> omega
    obtain ⟨xs, rfl, hx⟩ := came_of (w := w) (x := x) (n := len) (fun i hi => ⟨zs.getD i 0, hcell i (by omega), hwz _ (by
      have : i < zs.length := by omega
      simp [List.getD, this])⟩)
    exact ⟨some x, cap, xs, hc, hx, by omega⟩

theorem open_accRow {fuel : Nat} {v : Value} {y : DataW H × List MemPlace} (h : DataW.trod enc Try.prog w base spare held fuel 33 [v] = some y) :
    ∃ (a : Option Addr) (m cap : Nat) (ys : List Int), v = .slice a m cap ∧ Came w a ys ∧ ys.length = 5 * m ∧ m ≤ maxLen := by
  rcases Go.Deep.open_slice Try.underlying33 h with ⟨hc, _⟩ | ⟨x, len, cap, m, n, D, Pl, hc, _, hl, hm, hmm, _, hel⟩
  · simp at hc
    exact ⟨none, 0, 0, [], hc, ⟨fun i hi => absurd hi (Nat.not_lt_zero i), fun i hi => absurd hi (Nat.not_lt_zero i)⟩, rfl, Nat.zero_le _⟩
  · simp at hc
    have hlen : len ≤ m := by rw [hmm]; split <;> omega
    obtain ⟨ys, hy, hx⟩ := came_of (w := w) (x := x) (n := 5 * len) (by
      intro i hi
      obtain ⟨cs', h1, h2⟩ := hel (i / 5) (by omega)
      rw [Try.cellsAcc] at h1
      obtain ⟨_, hl5, hcs⟩ := World.cells?_some h1
      obtain ⟨zs, k, _, _, _, hzl, hf⟩ := DataW.trod_struct Try.underlying82 h2
      have hget := hcs (i % 5) (by omega)
      rw [Addr.add_add_own, show i / 5 * 5 + i % 5 = i from by omega] at hget
      rw [hget]
      obtain ⟨c0, c1, c2, c3, c4, rfl⟩ : ∃ c0 c1 c2 c3 c4, cs' = [c0, c1, c2, c3, c4] := by
        match cs', hl5 with
        | [c0, c1, c2, c3, c4], _ => exact ⟨c0, c1, c2, c3, c4, rfl⟩
      obtain ⟨z0, z1, z2, z3, z4, rfl⟩ : ∃ z0 z1 z2 z3 z4, zs = [z0, z1, z2, z3, z4] := by
        match zs, hzl with
        | [z0, z1, z2, z3, z4], _ => exact ⟨z0, z1, z2, z3, z4, rfl⟩
      have t0 := hf 0 _ rfl
      have t1 := hf 1 _ rfl
      have t2 := hf 2 _ rfl
      have t3 := hf 3 _ rfl
      have t4 := hf 4 _ rfl
      simp [Try.cellsInt] at t0 t1 t2 t3 t4
      obtain ⟨n0, e0, _, b0⟩ := DataW.trod_int Try.underlying3 t0
      obtain ⟨n1, e1, _, b1⟩ := DataW.trod_int Try.underlying3 t1
      obtain ⟨n2, e2, _, b2⟩ := DataW.trod_int Try.underlying3 t2
      obtain ⟨n3, e3, _, b3⟩ := DataW.trod_int Try.underlying3 t3
      obtain ⟨n4, e4, _, b4⟩ := DataW.trod_int Try.underlying3 t4
      simp at e0 e1 e2 e3 e4
      subst e0 e1 e2 e3 e4
      obtain h | h | h | h | h : i % 5 = 0 ∨ i % 5 = 1 ∨ i % 5 = 2 ∨ i % 5 = 3 ∨ i % 5 = 4 := by omega
      all_goals rw [h]
      · exact ⟨n0, rfl, b0⟩
      · exact ⟨n1, rfl, b1⟩
      · exact ⟨n2, rfl, b2⟩
      · exact ⟨n3, rfl, b3⟩
      · exact ⟨n4, rfl, b4⟩)
    exact ⟨some x, len, cap, ys, hc, hx, hy, by omega⟩

theorem open_bus {r : Reach} {b0 : Nat} {v : Value} {d : DataW H} {p : List MemPlace} (hv : Value.okWide Try.prog w r b0 35 v) (h : DataW.Trod enc Try.prog w base spare held 35 v d p) :
    ∃ (a b : Option Addr) (ca m cb : Nat) (xs ys : List Int), v = .agg #[.slice a xs.length ca, .slice b m cb] ∧ Came w a xs ∧ Came w b ys ∧ ys.length = 5 * m ∧ xs.length ≤ maxLen ∧ m ≤ maxLen := by
  obtain ⟨v0, v1, y0, y1, n, rfl, _, _, h0, h1⟩ := Go.Joins.open_agg2 Try.underlying35 (by kernel_rfl) Try.cellsBus hv h
  obtain ⟨a, ca, xs, rfl, hx, lx⟩ := open_intRow h0
  obtain ⟨b, m, cb, ys, rfl, hy, ly, lm⟩ := open_accRow h1
  exact ⟨a, b, ca, m, cb, xs, ys, rfl, hx, hy, ly, lx, lm⟩
theorem open_intArg {r : Reach} {b0 : Nat} {v : Value} {d : DataW H} {p : List MemPlace} (hv : Value.okWide Try.prog w r b0 22 v) (h : DataW.Trod enc Try.prog w base spare held 22 v d p) :
    ∃ (a : Option Addr) (cap : Nat) (xs : List Int), v = .slice a xs.length cap ∧ Came w a xs ∧ xs.length ≤ maxLen := by
  obtain ⟨a1, len1, cap1, rfl⟩ := okWide_slice Try.underlying22 hv
  obtain ⟨fuel, hf⟩ := h
  exact open_intRow hf
end
end Go.Proofs.Ytbkafdphagmgpaa
