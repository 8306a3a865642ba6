/- Registers and operands that came in to a law: opened out of a law's argument. -/
import Derived.Test.YtikmelkobbbgnaaFrame
import Derived.Lib.SmallJoins
import Derived.Deep.Slices
import Derived.ProofKit
import Derived.OpenShut
namespace Go.Proofs.Ytikmelkobbbgnaa
open Go.RowKit Go.WideShapes Go.ChangeShapes Go.ChangeAt
set_option linter.unusedVariables false

theorem Try.cellsInt : Try.prog.cellsOf 3 = 1 := by kernel_rfl
theorem Try.cellsBool : Try.prog.cellsOf 4 = 1 := by kernel_rfl
theorem Try.cellsInts : Try.prog.cellsOf 22 = 1 := by kernel_rfl
theorem Try.cells_Regs : Try.prog.cellsOf 29 = 8 := by kernel_rfl
theorem Try.cells_Operand : Try.prog.cellsOf 35 = 3 := by kernel_rfl

theorem Addr.add_add_own (a : Addr) (i j : Nat) : (a.add i).add j = a.add (i + j) := by
  unfold Addr.add
  by_cases hi : i = 0 <;> by_cases hj : j = 0 <;> simp [hi, hj, Nat.add_assoc]
theorem came_of {w : World} {x : Addr} {n : Nat} (h : ∀ i, i < n → ∃ z : Int, w.cell? (x.add i) = some (.int .i64 z) ∧ (Lit.int .i64 z).wf = true) : ∃ xs : List Int, xs.length = n ∧ Came w (some x) xs := by
  obtain ⟨f, hf⟩ := Go.Deep.choose_lt h
  refine ⟨(List.range n).map f, by simp, ?_, ?_⟩
  · intro i hi
    have hi' : i < n := by simpa using hi
    obtain ⟨g, off, spot⟩ := x
    have hspot : spot = none := by simpa [Addr.add] using World.cell?_spot (hf 0 (by omega)).1
    subst hspot
    refine ⟨g, off, rfl, ?_⟩
    have hc := (hf i hi').1
    by_cases h0 : i = 0
    · subst h0; simpa [Addr.add, hi'] using hc
    · simpa [Addr.add, h0, hi'] using hc
  · intro i hi
    have hi' : i < n := by simpa using hi
    have := bounds_i64 (hf i hi').2
    simpa [hi'] using this

section
variable {H : Type} {enc : TypeId × Value → H} {w : World} {base : Nat} {spare : Nat → Bool} {held : Bool}

theorem open_intRow {fuel : Nat} {v : Value} {y : DataW H × List MemPlace} (h : DataW.trod enc Try.prog w base spare held fuel 22 [v] = some y) :
    ∃ (a : Option Addr) (cap : Nat) (xs : List Int), v = .slice a xs.length cap ∧ Came w a xs ∧ xs.length ≤ maxLen := by
  rcases open_ints Try.underlying22 Try.underlying3 Try.cellsInt h with ⟨hc, _⟩ | ⟨x, len, cap, zs, hc, _, hl, hm, hz, _, hcell, hwz⟩
  · simp at hc
    exact ⟨none, 0, [], hc, ⟨fun i hi => absurd hi (Nat.not_lt_zero i), fun i hi => absurd hi (Nat.not_lt_zero i)⟩, Nat.zero_le _⟩
  · simp at hc
    have hlen : len ≤ zs.length := by rw [hz]; split <;> omega
    obtain ⟨xs, rfl, hx⟩ := came_of (w := w) (x := x) (n := len) (fun i hi => ⟨zs.getD i 0, hcell i (by omega), hwz _ (by
      have : i < zs.length := by omega
      simp [List.getD, this])⟩)
    exact ⟨some x, cap, xs, hc, hx, by omega⟩
theorem open_intArg {r : Reach} {b0 : Nat} {v : Value} {d : DataW H} {p : List MemPlace} (hv : Value.okWide Try.prog w r b0 22 v) (h : DataW.Trod enc Try.prog w base spare held 22 v d p) :
    ∃ (a : Option Addr) (cap : Nat) (xs : List Int), v = .slice a xs.length cap ∧ Came w a xs ∧ xs.length ≤ maxLen := by
  obtain ⟨a1, len1, cap1, rfl⟩ := okWide_slice Try.underlying22 hv
  obtain ⟨fuel, hf⟩ := h
  exact open_intRow hf

theorem open_Regs {r : Reach} {b0 : Nat} {v : Value} {d : DataW H} {p : List MemPlace} (hv : Value.okWide Try.prog w r b0 29 v) (h : DataW.Trod enc Try.prog w base spare held 29 v d p) :
    ∃ (a0 : Option Addr) (c0 : Nat) (x0 : List Int) (a1 : Option Addr) (c1 : Nat) (x1 : List Int) (i2 : Int) (i3 : Int) (i4 : Int) (i5 : Int) (i6 : Bool) (i7 : Bool), v = .agg #[.slice a0 x0.length c0, .slice a1 x1.length c1, .int .i64 i2, .int .i64 i3, .int .i64 i4, .int .i64 i5, .bool i6, .bool i7] ∧ (Came w a0 x0 ∧ x0.length ≤ maxLen) ∧ (Came w a1 x1 ∧ x1.length ≤ maxLen) ∧ (Lit.int .i64 i2).wf = true ∧ (Lit.int .i64 i3).wf = true ∧ (Lit.int .i64 i4).wf = true ∧ (Lit.int .i64 i5).wf = true := by
  obtain ⟨cs, rfl, hsz⟩ := okWide_struct Try.underlying29 hv
  rw [Try.cells_Regs] at hsz
  obtain ⟨cl⟩ := cs
  obtain ⟨c_0, c_1, c_2, c_3, c_4, c_5, c_6, c_7, rfl⟩ : ∃ c_0 c_1 c_2 c_3 c_4 c_5 c_6 c_7, cl = [c_0, c_1, c_2, c_3, c_4, c_5, c_6, c_7] := by
    match cl, hsz with
    | [c_0, c_1, c_2, c_3, c_4, c_5, c_6, c_7], _ => exact ⟨c_0, c_1, c_2, c_3, c_4, c_5, c_6, c_7, rfl⟩
  obtain ⟨fuel, hf0⟩ := h
  obtain ⟨zs, k, _, _, _, hzl, hf⟩ := DataW.trod_struct Try.underlying29 hf0
  obtain ⟨z_0, z_1, z_2, z_3, z_4, z_5, z_6, z_7, rfl⟩ : ∃ z_0 z_1 z_2 z_3 z_4 z_5 z_6 z_7, zs = [z_0, z_1, z_2, z_3, z_4, z_5, z_6, z_7] := by
    match zs, hzl with
    | [z_0, z_1, z_2, z_3, z_4, z_5, z_6, z_7], _ => exact ⟨z_0, z_1, z_2, z_3, z_4, z_5, z_6, z_7, rfl⟩
  have t0 := hf 0 _ rfl
  have t1 := hf 1 _ rfl
  have t2 := hf 2 _ rfl
  have t3 := hf 3 _ rfl
  have t4 := hf 4 _ rfl
  have t5 := hf 5 _ rfl
  have t6 := hf 6 _ rfl
  have t7 := hf 7 _ rfl
  simp [Value.cells, Try.cellsInt, Try.cellsBool, Try.cellsInts] at t0 t1 t2 t3 t4 t5 t6 t7
  obtain ⟨a0, c0, x0, q0, hx0, lx0⟩ := open_intRow t0
  obtain ⟨a1, c1, x1, q1, hx1, lx1⟩ := open_intRow t1
  obtain ⟨i2, q2, _, wf2⟩ := DataW.trod_int Try.underlying3 t2
  obtain ⟨i3, q3, _, wf3⟩ := DataW.trod_int Try.underlying3 t3
  obtain ⟨i4, q4, _, wf4⟩ := DataW.trod_int Try.underlying3 t4
  obtain ⟨i5, q5, _, wf5⟩ := DataW.trod_int Try.underlying3 t5
  obtain ⟨i6, q6, _⟩ := DataW.trod_bool Try.underlying4 t6
  obtain ⟨i7, q7, _⟩ := DataW.trod_bool Try.underlying4 t7
  simp at q0 q1 q2 q3 q4 q5 q6 q7
  subst q0 q1 q2 q3 q4 q5 q6 q7
  exact ⟨a0, c0, x0, a1, c1, x1, i2, i3, i4, i5, i6, i7, rfl, ⟨hx0, lx0⟩, ⟨hx1, lx1⟩, wf2, wf3, wf4, wf5⟩

theorem open_Operand {r : Reach} {b0 : Nat} {v : Value} {d : DataW H} {p : List MemPlace} (hv : Value.okWide Try.prog w r b0 35 v) (h : DataW.Trod enc Try.prog w base spare held 35 v d p) :
    ∃ (i0 : Int) (i1 : Int) (i2 : Int), v = .agg #[.int .i64 i0, .int .i64 i1, .int .i64 i2] ∧ (Lit.int .i64 i0).wf = true ∧ (Lit.int .i64 i1).wf = true ∧ (Lit.int .i64 i2).wf = true := by
  obtain ⟨cs, rfl, hsz⟩ := okWide_struct Try.underlying35 hv
  rw [Try.cells_Operand] at hsz
  obtain ⟨cl⟩ := cs
  obtain ⟨c_0, c_1, c_2, rfl⟩ : ∃ c_0 c_1 c_2, cl = [c_0, c_1, c_2] := by
    match cl, hsz with
    | [c_0, c_1, c_2], _ => exact ⟨c_0, c_1, c_2, rfl⟩
  obtain ⟨fuel, hf0⟩ := h
  obtain ⟨zs, k, _, _, _, hzl, hf⟩ := DataW.trod_struct Try.underlying35 hf0
  obtain ⟨z_0, z_1, z_2, rfl⟩ : ∃ z_0 z_1 z_2, zs = [z_0, z_1, z_2] := by
    match zs, hzl with
    | [z_0, z_1, z_2], _ => exact ⟨z_0, z_1, z_2, rfl⟩
  have t0 := hf 0 _ rfl
  have t1 := hf 1 _ rfl
  have t2 := hf 2 _ rfl
  simp [Value.cells, Try.cellsInt] at t0 t1 t2
  obtain ⟨i0, q0, _, wf0⟩ := DataW.trod_int Try.underlying3 t0
  obtain ⟨i1, q1, _, wf1⟩ := DataW.trod_int Try.underlying3 t1
  obtain ⟨i2, q2, _, wf2⟩ := DataW.trod_int Try.underlying3 t2
  simp at q0 q1 q2
  subst q0 q1 q2
  exact ⟨i0, i1, i2, rfl, wf0, wf1, wf2⟩

end
end Go.Proofs.Ytikmelkobbbgnaa
