/- The laws on the looks at an instruction: of whatever arguments, their Go functions return true, and no block that was there has turned. Instructions that came in to a law, and lists of them: opened out of a law's argument. -/
import Derived.Test.YtloaedfoecjalaaDE8
import Derived.Test.YtloaedfoecjalaaDE1
import Derived.Lib.SmallJoins
import Derived.Deep.Slices
import Derived.ProofKit
import Derived.OpenShut
namespace Go.Proofs.Ytloaedfoecjalaa
open Go.RowKit
set_option linter.unusedVariables false
set_option linter.unusedSimpArgs false
theorem lawReadsOf (op z r m k e s : Int) (w : World) (wfop : (Lit.int .i64 op).wf = true) (wfz : (Lit.int .i64 z).wf = true) (wfr : (Lit.int .i64 r).wf = true) (wfm : (Lit.int .i64 m).wf = true) (wfk : (Lit.int .i64 k).wf = true) (wfe : (Lit.int .i64 e).wf = true) (wfs : (Lit.int .i64 s).wf = true) :
    Calls Try.prog 4 #[.agg #[.int .i64 op, .int .i64 z, .int .i64 r, .int .i64 m, .int .i64 k, .int .i64 e, .int .i64 s]] w fun r' w' => r' = .returned (.bool true) ∧ Below w.heap.size w w' := by
  have K0 := hide (kept_alloc w (.cells #[.int .i64 op, .int .i64 z, .int .i64 r, .int .i64 m, .int .i64 k, .int .i64 e, .int .i64 s] 25))
  have W0 := hide (Blk.new w #[.int .i64 op, .int .i64 z, .int .i64 r, .int .i64 m, .int .i64 k, .int .i64 e, .int .i64 s] 25)
  generalize hG0 : (if Pl.inOk ⟨op, z, r, m, k, e, s⟩ = true then Pl.reads ⟨op, z, r, m, k, e, s⟩ else 0) = N
  generalize hG1 : Pl.inOk ⟨op, z, r, m, k, e, s⟩ = O
  have HG0 := hide hG0
  have HG1 := hide hG1
  clear hG0 hG1
  go_enter Try.func4, Try.ntmps4
  go_wp2_with fail
  refine (toIns _ _ _ _ _ _ _ _).mono ?_
  rintro r1 w1 ⟨rfl, k1⟩
  have K1 := hide (K0.out.trans k1)
  have W1 := hide (W0.out.kept0 k1)
  clear k1
  have c0 := W1.out.cell (i := 0) rfl
  have c1 := W1.out.cell (i := 1) rfl
  have c2 := W1.out.cell (i := 2) rfl
  have c3 := W1.out.cell (i := 3) rfl
  have c4 := W1.out.cell (i := 4) rfl
  have c5 := W1.out.cell (i := 5) rfl
  have c6 := W1.out.cell (i := 6) rfl
  go_wp2_with fail
  refine (specXReadsOf _ op z r m k e s).mono ?_
  rw [HG0.out, HG1.out]
  rintro r2 w2 ⟨rfl, k2⟩
  have K2 := hide (K1.out.trans k2)
  have W2 := hide (W1.out.kept0 k2)
  clear k2 c0 c1 c2 c3 c4 c5 c6
  have c0 := W2.out.cell (i := 0) rfl
  have c1 := W2.out.cell (i := 1) rfl
  have c2 := W2.out.cell (i := 2) rfl
  have c3 := W2.out.cell (i := 3) rfl
  have c4 := W2.out.cell (i := 4) rfl
  have c5 := W2.out.cell (i := 5) rfl
  have c6 := W2.out.cell (i := 6) rfl
  go_wp2_with fail
  refine (toIns _ _ _ _ _ _ _ _).mono ?_
  rintro r3 w3 ⟨rfl, k3⟩
  have K3 := hide (K2.out.trans k3)
  clear k3 c0 c1 c2 c3 c4 c5 c6
  go_wp2_with fail
  refine (implXReadsOf _ op z r m k e s wfop wfz wfr wfm wfk wfe wfs).mono ?_
  rw [HG0.out, HG1.out]
  rintro r4 w4 ⟨rfl, k4⟩
  go_wp2_with fail
  go_ret
  exact ⟨rfl, (K3.out.trans k4).below⟩
end Go.Proofs.Ytloaedfoecjalaa

namespace Go.Proofs.Ytloaedfoecjalaa
open Go.RowKit Go.WideShapes Go.ChangeShapes Go.ChangeAt
set_option linter.unusedVariables false
set_option maxRecDepth 100000

theorem Try.cellsInt : Try.prog.cellsOf 3 = 1 := by kernel_rfl
theorem Try.cellsOpnd : Try.prog.cellsOf 23 = 3 := by kernel_rfl
theorem Try.cellsIns : Try.prog.cellsOf 25 = 7 := by kernel_rfl

section
variable {H : Type} {enc : TypeId × Value → H} {w : World} {base : Nat} {spare : Nat → Bool} {held : Bool}

theorem open_insCells {fuel : Nat} {c0 c1 c2 c3 c4 c5 c6 : Value} {y : DataW H × List MemPlace} (h : DataW.trod enc Try.prog w base spare held fuel 25 [c0, c1, c2, c3, c4, c5, c6] = some y) :
    ∃ i0 i1 i2 i3 i4 i5 i6 : Int, (c0 = .int .i64 i0 ∧ c1 = .int .i64 i1 ∧ c2 = .int .i64 i2 ∧ c3 = .int .i64 i3 ∧ c4 = .int .i64 i4 ∧ c5 = .int .i64 i5 ∧ c6 = .int .i64 i6) ∧ (Lit.int .i64 i0).wf = true ∧ (Lit.int .i64 i1).wf = true ∧ (Lit.int .i64 i2).wf = true ∧ (Lit.int .i64 i3).wf = true ∧ (Lit.int .i64 i4).wf = true ∧ (Lit.int .i64 i5).wf = true ∧ (Lit.int .i64 i6).wf = true := by
  obtain ⟨zs, k, _, _, _, hzl, hf⟩ := DataW.trod_struct Try.underlying25 h
  obtain ⟨z0, z1, z2, z3, z4, rfl⟩ : ∃ z0 z1 z2 z3 z4, zs = [z0, z1, z2, z3, z4] := by
    match zs, hzl with
    | [z0, z1, z2, z3, z4], _ => exact ⟨z0, z1, z2, z3, z4, rfl⟩
  have t0 := hf 0 _ rfl
  have t1 := hf 1 _ rfl
  have t2 := hf 2 _ rfl
  have t3 := hf 3 _ rfl
  have t4 := hf 4 _ rfl
  simp [Try.cellsInt, Try.cellsOpnd] at t0 t1 t2 t3 t4
  obtain ⟨ys, k2, _, _, _, hyl, hg⟩ := DataW.trod_struct Try.underlying23 t3
  obtain ⟨y0, y1, y2, rfl⟩ : ∃ y0 y1 y2, ys = [y0, y1, y2] := by
    match ys, hyl with
    | [y0, y1, y2], _ => exact ⟨y0, y1, y2, rfl⟩
  have s0 := hg 0 _ rfl
  have s1 := hg 1 _ rfl
  have s2 := hg 2 _ rfl
  simp [Try.cellsInt] at s0 s1 s2
  obtain ⟨i0, e0, _, b0⟩ := DataW.trod_int Try.underlying3 t0
  obtain ⟨i1, e1, _, b1⟩ := DataW.trod_int Try.underlying3 t1
  obtain ⟨i2, e2, _, b2⟩ := DataW.trod_int Try.underlying3 t2
  obtain ⟨i3, e3, _, b3⟩ := DataW.trod_int Try.underlying3 s0
  obtain ⟨i4, e4, _, b4⟩ := DataW.trod_int Try.underlying3 s1
  obtain ⟨i5, e5, _, b5⟩ := DataW.trod_int Try.underlying3 s2
  obtain ⟨i6, e6, _, b6⟩ := DataW.trod_int Try.underlying3 t4
  simp at e0 e1 e2 e3 e4 e5 e6
  exact ⟨i0, i1, i2, i3, i4, i5, i6, ⟨e0, e1, e2, e3, e4, e5, e6⟩, b0, b1, b2, b3, b4, b5, b6⟩
theorem open_Ins {r : Reach} {b0 : Nat} {v : Value} {d : DataW H} {p : List MemPlace} (hv : Value.okWide Try.prog w r b0 25 v) (h : DataW.Trod enc Try.prog w base spare held 25 v d p) :
    ∃ i0 i1 i2 i3 i4 i5 i6 : Int, v = .agg #[.int .i64 i0, .int .i64 i1, .int .i64 i2, .int .i64 i3, .int .i64 i4, .int .i64 i5, .int .i64 i6] ∧ (Lit.int .i64 i0).wf = true ∧ (Lit.int .i64 i1).wf = true ∧ (Lit.int .i64 i2).wf = true ∧ (Lit.int .i64 i3).wf = true ∧ (Lit.int .i64 i4).wf = true ∧ (Lit.int .i64 i5).wf = true ∧ (Lit.int .i64 i6).wf = true := by
  obtain ⟨cs, rfl, hsz⟩ := okWide_struct Try.underlying25 hv
  rw [Try.cellsIns] at hsz
  obtain ⟨cl⟩ := cs
  obtain ⟨c_0, c_1, c_2, c_3, c_4, c_5, c_6, rfl⟩ : ∃ c_0 c_1 c_2 c_3 c_4 c_5 c_6, cl = [c_0, c_1, c_2, c_3, c_4, c_5, c_6] := by
    match cl, hsz with
    | [c_0, c_1, c_2, c_3, c_4, c_5, c_6], _ => exact ⟨c_0, c_1, c_2, c_3, c_4, c_5, c_6, rfl⟩
  obtain ⟨fuel, hf0⟩ := h
  obtain ⟨i0, i1, i2, i3, i4, i5, i6, ⟨e0, e1, e2, e3, e4, e5, e6⟩, hw⟩ := open_insCells hf0
  subst e0 e1 e2 e3 e4 e5 e6
  exact ⟨i0, i1, i2, i3, i4, i5, i6, rfl, hw⟩
end
end Go.Proofs.Ytloaedfoecjalaa

