/- What the exported looks at an instruction answer, for every instruction, of both sides. What the laws' own functions over lists of Ins do (structs of 7 whole numbers, laid one behind the other): compare, copy, mark. A list of n is spoken of as the row of its 7 * n numbers. The laws on the looks at an instruction: of whatever arguments, their Go functions return true, and no block that was there has turned. Instructions that came in to a law, and lists of them: opened out of a law's argument. -/
import Derived.Test.YtloaedfoecjalaaDB6
import Derived.Test.YtloaedfoecjalaaDB7
import Derived.Test.YtloaedfoecjalaaDB1
import Derived.Lib.SmallJoins
import Derived.Deep.Slices
import Derived.ProofKit
import Derived.OpenShut
namespace Go.Proofs.Ytloaedfoecjalaa
open Go.RowKit
set_option linter.unusedVariables false
set_option linter.unusedSimpArgs false
theorem specXMayWrite (w : World) (op z r m k e s : Int) : Calls Try.prog 16 #[.agg (inA op z r m k e s)] w fun e' w' => e' = .returned (.tuple #[.bool (Pl.inOk ⟨op, z, r, m, k, e, s⟩ && Pl.mayW ⟨op, z, r, m, k, e, s⟩), .bool (Pl.inOk ⟨op, z, r, m, k, e, s⟩)]) ∧ Kept 0 0 w w' := by
  have K0 := hide (kept_alloc w (.cells (inA op z r m k e s) 30))
  have B0 := hide (Blk.new w (inA op z r m k e s) 30)
  cases h : Pl.inOk ⟨op, z, r, m, k, e, s⟩
  · go_enter Try.func16, Try.ntmps16
    go_wp2_with (go_at_call 29; refine (specGoodIns _ op z r m k e s).mono ?_; rintro e9 w2 ⟨rfl, k2⟩; rw [h]; have K2 := hide (K0.out.trans k2); clear k2)
    go_ret2
    exact ⟨by simp, K2.out⟩
  · go_enter Try.func16, Try.ntmps16
    go_wp2_with (first | (go_at_call 29; refine (specGoodIns _ op z r m k e s).mono ?_; rintro e9 w2 ⟨rfl, k2⟩; rw [h]; have B2 := hide (B0.out.kept0 k2); have K2 := hide (K0.out.trans k2); have p2 := B2.out.all; clear k2) | (go_at_call 38; refine (specMayW _ op z r m k e s (Pl.inD_of h)).mono ?_; rintro e9 w3 ⟨rfl, k3⟩; have K3 := hide (K2.out.trans k3); clear k3))
    go_ret2
    exact ⟨by simp, K3.out⟩
theorem implXMayWrite (w : World) (op z r m k e s : Int) (wfop : (Lit.int .i64 op).wf = true) (wfz : (Lit.int .i64 z).wf = true) (wfr : (Lit.int .i64 r).wf = true) (wfm : (Lit.int .i64 m).wf = true) (wfk : (Lit.int .i64 k).wf = true) (wfe : (Lit.int .i64 e).wf = true) (wfs : (Lit.int .i64 s).wf = true) : Calls Try.prog 17 #[.agg (inA op z r m k e s)] w fun e' w' => e' = .returned (.tuple #[.bool (Pl.inOk ⟨op, z, r, m, k, e, s⟩ && Pl.mayW ⟨op, z, r, m, k, e, s⟩), .bool (Pl.inOk ⟨op, z, r, m, k, e, s⟩)]) ∧ Kept 0 0 w w' := by
  have K0 := hide (kept_alloc w (.cells (inA op z r m k e s) 30))
  have B0 := hide (Blk.new w (inA op z r m k e s) 30)
  cases h : Pl.inOk ⟨op, z, r, m, k, e, s⟩
  · go_enter Try.func17, Try.ntmps17
    go_wp2_with (go_at_call 32; refine (implGoodIns _ op z r m k e s wfop wfz wfr wfm wfk wfe wfs).mono ?_; rintro e9 w2 ⟨rfl, k2⟩; rw [h]; have K2 := hide (K0.out.trans k2); clear k2)
    go_ret2
    exact ⟨by simp, K2.out⟩
  · go_enter Try.func17, Try.ntmps17
    go_wp2_with (first | (go_at_call 32; refine (implGoodIns _ op z r m k e s wfop wfz wfr wfm wfk wfe wfs).mono ?_; rintro e9 w2 ⟨rfl, k2⟩; rw [h]; have B2 := hide (B0.out.kept0 k2); have K2 := hide (K0.out.trans k2); have p2 := B2.out.all; clear k2) | (go_at_call 39; refine (implMayW _ op z r m k e s (Pl.inD_of h)).mono ?_; rintro e9 w3 ⟨rfl, k3⟩; have K3 := hide (K2.out.trans k3); clear k3))
    go_ret2
    exact ⟨by simp, K3.out⟩
end Go.Proofs.Ytloaedfoecjalaa

namespace Go.Proofs.Ytloaedfoecjalaa
open Go.RowKit
set_option linter.unusedVariables false

theorem toOpnd (d e f : Int) (w : World) :
    Calls Try.prog 31 #[.agg #[.int .i64 d, .int .i64 e, .int .i64 f]] w fun r w' => r = .returned (.agg #[.int .i64 d, .int .i64 e, .int .i64 f]) ∧ Kept 0 0 w w' := by
  go_enter Try.func31, Try.ntmps31
  go_wp2
  refine bodyPost_ret (v := .agg #[.int .i64 d, .int .i64 e, .int .i64 f]) ?_ rfl ⟨rfl, kept_new (kept_new (kept_alloc w _) _) _⟩
  rw [results_one rfl]; go_simp
theorem toIns (a b c d e f x : Int) (w : World) :
    Calls Try.prog 10 #[.agg #[.int .i64 a, .int .i64 b, .int .i64 c, .int .i64 d, .int .i64 e, .int .i64 f, .int .i64 x]] w fun r w' => r = .returned (.agg #[.int .i64 a, .int .i64 b, .int .i64 c, .int .i64 d, .int .i64 e, .int .i64 f, .int .i64 x]) ∧ Kept 0 0 w w' := by
  have K0 := hide (kept_new (kept_new (kept_alloc w (.cells #[.int .i64 a, .int .i64 b, .int .i64 c, .int .i64 d, .int .i64 e, .int .i64 f, .int .i64 x] 25)) (.cells #[.int .i64 0, .int .i64 0, .int .i64 0, .int .i64 0, .int .i64 0, .int .i64 0, .int .i64 0] 30)) (.cells #[.int .i64 a, .int .i64 b, .int .i64 c, .int .i64 0, .int .i64 0, .int .i64 0, .int .i64 0] 30))
  have P0 := hide (((Blk.new w #[.int .i64 a, .int .i64 b, .int .i64 c, .int .i64 d, .int .i64 e, .int .i64 f, .int .i64 x] 25).alloc (.cells #[.int .i64 0, .int .i64 0, .int .i64 0, .int .i64 0, .int .i64 0, .int .i64 0, .int .i64 0] 30)).alloc (.cells #[.int .i64 a, .int .i64 b, .int .i64 c, .int .i64 0, .int .i64 0, .int .i64 0, .int .i64 0] 30))
  have R0 := (Blk.new (w.alloc (.cells #[.int .i64 a, .int .i64 b, .int .i64 c, .int .i64 d, .int .i64 e, .int .i64 f, .int .i64 x] 25)) #[.int .i64 0, .int .i64 0, .int .i64 0, .int .i64 0, .int .i64 0, .int .i64 0, .int .i64 0] 30).alloc (.cells #[.int .i64 a, .int .i64 b, .int .i64 c, .int .i64 0, .int .i64 0, .int .i64 0, .int .i64 0] 30)
  have X0 := Blk.new ((w.alloc (.cells #[.int .i64 a, .int .i64 b, .int .i64 c, .int .i64 d, .int .i64 e, .int .i64 f, .int .i64 x] 25)).alloc (.cells #[.int .i64 0, .int .i64 0, .int .i64 0, .int .i64 0, .int .i64 0, .int .i64 0, .int .i64 0] 30)) #[.int .i64 a, .int .i64 b, .int .i64 c, .int .i64 0, .int .i64 0, .int .i64 0, .int .i64 0] 30
  simp only [World.size_alloc] at R0 X0
  replace R0 := hide R0
  replace X0 := hide X0
  go_enter Try.func10, Try.ntmps10
  go_wp2_with (first | (go_at_call 31; refine (toOpnd d e f _).mono ?_; rintro r9 w2 ⟨rfl, k2⟩; have P2 := hide (P0.out.kept0 k2); have R2 := hide (R0.out.kept0 k2); have X2 := hide (X0.out.kept0 k2); have K2 := hide (K0.out.trans k2); have p0 := P2.out.cell (i := 0) rfl; have p1 := P2.out.cell (i := 1) rfl; have p2 := P2.out.cell (i := 2) rfl; have p3 := P2.out.cell (i := 3) rfl; have p4 := P2.out.cell (i := 4) rfl; have p5 := P2.out.cell (i := 5) rfl; have p6 := P2.out.cell (i := 6) rfl; have r0 := R2.out.cell (i := 0) rfl; have fr0 := R2.out.frozen 0; have r1 := R2.out.cell (i := 1) rfl; have fr1 := R2.out.frozen 1; have r2 := R2.out.cell (i := 2) rfl; have fr2 := R2.out.frozen 2; have r3 := R2.out.cell (i := 3) rfl; have fr3 := R2.out.frozen 3; have r4 := R2.out.cell (i := 4) rfl; have fr4 := R2.out.frozen 4; have r5 := R2.out.cell (i := 5) rfl; have fr5 := R2.out.frozen 5; have r6 := R2.out.cell (i := 6) rfl; have fr6 := R2.out.frozen 6; have y0 := X2.out.cell (i := 0) rfl; have fy0 := X2.out.frozen 0; have y1 := X2.out.cell (i := 1) rfl; have fy1 := X2.out.frozen 1; have y2 := X2.out.cell (i := 2) rfl; have fy2 := X2.out.frozen 2; have y3 := X2.out.cell (i := 3) rfl; have fy3 := X2.out.frozen 3; have y4 := X2.out.cell (i := 4) rfl; have fy4 := X2.out.frozen 4; have y5 := X2.out.cell (i := 5) rfl; have fy5 := X2.out.frozen 5; have y6 := X2.out.cell (i := 6) rfl; have fy6 := X2.out.frozen 6; have s2 := X2.out.lt; clear k2))
  refine bodyPost_ret (v := .agg #[.int .i64 a, .int .i64 b, .int .i64 c, .int .i64 d, .int .i64 e, .int .i64 f, .int .i64 x]) ?_ rfl ⟨rfl, ?_⟩
  · rw [results_one rfl]; go_simp
  · exact (kept_set (kept_set (kept_set (kept_set (kept_set (kept_set (kept_set (kept_set (kept_set (kept_set (kept_set K2.out _ _ _ (.inr (by omega))) _ _ _ (.inr (by omega))) _ _ _ (.inr (by omega))) _ _ _ (.inr (by omega))) _ _ _ (.inr (by omega))) _ _ _ (.inr (by omega))) _ _ _ (.inr (by omega))) _ _ _ (.inr (by omega))) _ _ _ (.inr (by omega))) _ _ _ (.inr (by omega))) _ _ _ (.inr (by omega)))
end Go.Proofs.Ytloaedfoecjalaa

namespace Go.Proofs.Ytloaedfoecjalaa
open Go.RowKit
set_option linter.unusedVariables false
set_option linter.unusedSimpArgs false
theorem lawMayWrite (op z r m k e s : Int) (w : World) (wfop : (Lit.int .i64 op).wf = true) (wfz : (Lit.int .i64 z).wf = true) (wfr : (Lit.int .i64 r).wf = true) (wfm : (Lit.int .i64 m).wf = true) (wfk : (Lit.int .i64 k).wf = true) (wfe : (Lit.int .i64 e).wf = true) (wfs : (Lit.int .i64 s).wf = true) :
    Calls Try.prog 6 #[.agg #[.int .i64 op, .int .i64 z, .int .i64 r, .int .i64 m, .int .i64 k, .int .i64 e, .int .i64 s]] w fun r' w' => r' = .returned (.bool true) ∧ Below w.heap.size w w' := by
  have K0 := hide (kept_alloc w (.cells #[.int .i64 op, .int .i64 z, .int .i64 r, .int .i64 m, .int .i64 k, .int .i64 e, .int .i64 s] 25))
  have W0 := hide (Blk.new w #[.int .i64 op, .int .i64 z, .int .i64 r, .int .i64 m, .int .i64 k, .int .i64 e, .int .i64 s] 25)
  generalize hG0 : (Pl.inOk ⟨op, z, r, m, k, e, s⟩ && Pl.mayW ⟨op, z, r, m, k, e, s⟩) = N
  generalize hG1 : Pl.inOk ⟨op, z, r, m, k, e, s⟩ = O
  have HG0 := hide hG0
  have HG1 := hide hG1
  clear hG0 hG1
  go_enter Try.func6, Try.ntmps6
  go_wp2_with fail
  refine (toIns _ _ _ _ _ _ _ _).mono ?_
  rintro r1 w1 ⟨rfl, k1⟩
  have K1 := hide (K0.out.trans k1)
  have W1 := hide (W0.out.kept0 k1)
  clear k1
  have c0 := W1.out.cell (i := 0) rfl
  have c1 := W1.out.cell (i := 1) rfl
  have c2 := W1.out.cell (i := 2) rfl
  have c3 := W1.out.cell (i := 3) rfl
  have c4 := W1.out.cell (i := 4) rfl
  have c5 := W1.out.cell (i := 5) rfl
  have c6 := W1.out.cell (i := 6) rfl
  go_wp2_with fail
  refine (specXMayWrite _ op z r m k e s).mono ?_
  rw [HG0.out, HG1.out]
  rintro r2 w2 ⟨rfl, k2⟩
  have K2 := hide (K1.out.trans k2)
  have W2 := hide (W1.out.kept0 k2)
  clear k2 c0 c1 c2 c3 c4 c5 c6
  have c0 := W2.out.cell (i := 0) rfl
  have c1 := W2.out.cell (i := 1) rfl
  have c2 := W2.out.cell (i := 2) rfl
  have c3 := W2.out.cell (i := 3) rfl
  have c4 := W2.out.cell (i := 4) rfl
  have c5 := W2.out.cell (i := 5) rfl
  have c6 := W2.out.cell (i := 6) rfl
  go_wp2_with fail
  refine (toIns _ _ _ _ _ _ _ _).mono ?_
  rintro r3 w3 ⟨rfl, k3⟩
  have K3 := hide (K2.out.trans k3)
  clear k3 c0 c1 c2 c3 c4 c5 c6
  go_wp2_with fail
  refine (implXMayWrite _ op z r m k e s wfop wfz wfr wfm wfk wfe wfs).mono ?_
  rw [HG0.out, HG1.out]
  rintro r4 w4 ⟨rfl, k4⟩
  go_wp2_with fail
  go_ret
  exact ⟨rfl, (K3.out.trans k4).below⟩
end Go.Proofs.Ytloaedfoecjalaa

namespace Go.Proofs.Ytloaedfoecjalaa
open Go.RowKit Go.WideShapes Go.ChangeShapes Go.ChangeAt
set_option linter.unusedVariables false
set_option maxRecDepth 100000

theorem Try.cellsInt : Try.prog.cellsOf 3 = 1 := by kernel_rfl
theorem Try.cellsOpnd : Try.prog.cellsOf 23 = 3 := by kernel_rfl
theorem Try.cellsIns : Try.prog.cellsOf 25 = 7 := by kernel_rfl

section
variable {H : Type} {enc : TypeId × Value → H} {w : World} {base : Nat} {spare : Nat → Bool} {held : Bool}

theorem open_insCells {fuel : Nat} {c0 c1 c2 c3 c4 c5 c6 : Value} {y : DataW H × List MemPlace} (h : DataW.trod enc Try.prog w base spare held fuel 25 [c0, c1, c2, c3, c4, c5, c6] = some y) :
    ∃ i0 i1 i2 i3 i4 i5 i6 : Int, (c0 = .int .i64 i0 ∧ c1 = .int .i64 i1 ∧ c2 = .int .i64 i2 ∧ c3 = .int .i64 i3 ∧ c4 = .int .i64 i4 ∧ c5 = .int .i64 i5 ∧ c6 = .int .i64 i6) ∧ (Lit.int .i64 i0).wf = true ∧ (Lit.int .i64 i1).wf = true ∧ (Lit.int .i64 i2).wf = true ∧ (Lit.int .i64 i3).wf = true ∧ (Lit.int .i64 i4).wf = true ∧ (Lit.int .i64 i5).wf = true ∧ (Lit.int .i64 i6).wf = true := by
  obtain ⟨zs, k, _, _, _, hzl, hf⟩ := DataW.trod_struct Try.underlying25 h
  obtain ⟨z0, z1, z2, z3, z4, rfl⟩ : ∃ z0 z1 z2 z3 z4, zs = [z0, z1, z2, z3, z4] := by
    match zs, hzl with
    | [z0, z1, z2, z3, z4], _ => exact ⟨z0, z1, z2, z3, z4, rfl⟩
  have t0 := hf 0 _ rfl
  have t1 := hf 1 _ rfl
  have t2 := hf 2 _ rfl
  have t3 := hf 3 _ rfl
  have t4 := hf 4 _ rfl
  simp [Try.cellsInt, Try.cellsOpnd] at t0 t1 t2 t3 t4
  obtain ⟨ys, k2, _, _, _, hyl, hg⟩ := DataW.trod_struct Try.underlying23 t3
  obtain ⟨y0, y1, y2, rfl⟩ : ∃ y0 y1 y2, ys = [y0, y1, y2] := by
    match ys, hyl with
    | [y0, y1, y2], _ => exact ⟨y0, y1, y2, rfl⟩
  have s0 := hg 0 _ rfl
  have s1 := hg 1 _ rfl
  have s2 := hg 2 _ rfl
  simp [Try.cellsInt] at s0 s1 s2
  obtain ⟨i0, e0, _, b0⟩ := DataW.trod_int Try.underlying3 t0
  obtain ⟨i1, e1, _, b1⟩ := DataW.trod_int Try.underlying3 t1
  obtain ⟨i2, e2, _, b2⟩ := DataW.trod_int Try.underlying3 t2
  obtain ⟨i3, e3, _, b3⟩ := DataW.trod_int Try.underlying3 s0
  obtain ⟨i4, e4, _, b4⟩ := DataW.trod_int Try.underlying3 s1
  obtain ⟨i5, e5, _, b5⟩ := DataW.trod_int Try.underlying3 s2
  obtain ⟨i6, e6, _, b6⟩ := DataW.trod_int Try.underlying3 t4
  simp at e0 e1 e2 e3 e4 e5 e6
  exact ⟨i0, i1, i2, i3, i4, i5, i6, ⟨e0, e1, e2, e3, e4, e5, e6⟩, b0, b1, b2, b3, b4, b5, b6⟩
theorem open_Ins {r : Reach} {b0 : Nat} {v : Value} {d : DataW H} {p : List MemPlace} (hv : Value.okWide Try.prog w r b0 25 v) (h : DataW.Trod enc Try.prog w base spare held 25 v d p) :
    ∃ i0 i1 i2 i3 i4 i5 i6 : Int, v = .agg #[.int .i64 i0, .int .i64 i1, .int .i64 i2, .int .i64 i3, .int .i64 i4, .int .i64 i5, .int .i64 i6] ∧ (Lit.int .i64 i0).wf = true ∧ (Lit.int .i64 i1).wf = true ∧ (Lit.int .i64 i2).wf = true ∧ (Lit.int .i64 i3).wf = true ∧ (Lit.int .i64 i4).wf = true ∧ (Lit.int .i64 i5).wf = true ∧ (Lit.int .i64 i6).wf = true := by
  obtain ⟨cs, rfl, hsz⟩ := okWide_struct Try.underlying25 hv
  rw [Try.cellsIns] at hsz
  obtain ⟨cl⟩ := cs
  obtain ⟨c_0, c_1, c_2, c_3, c_4, c_5, c_6, rfl⟩ : ∃ c_0 c_1 c_2 c_3 c_4 c_5 c_6, cl = [c_0, c_1, c_2, c_3, c_4, c_5, c_6] := by
    match cl, hsz with
    | [c_0, c_1, c_2, c_3, c_4, c_5, c_6], _ => exact ⟨c_0, c_1, c_2, c_3, c_4, c_5, c_6, rfl⟩
  obtain ⟨fuel, hf0⟩ := h
  obtain ⟨i0, i1, i2, i3, i4, i5, i6, ⟨e0, e1, e2, e3, e4, e5, e6⟩, hw⟩ := open_insCells hf0
  subst e0 e1 e2 e3 e4 e5 e6
  exact ⟨i0, i1, i2, i3, i4, i5, i6, rfl, hw⟩
end
end Go.Proofs.Ytloaedfoecjalaa

