/- What the model's GoodIns answers, for operands that are numbers in the code and size 2. What the model's GoodIns answers, for every instruction. What the model's small functions of chapter 1 answer, for every argument: one contract a function; none changes the world. What the small functions of chapter 1 and of its model answer, for every argument: one contract a function; none changes the world. Lists of bools: rows, lists in blocks of their own, and what the laws' own functions over them answer. What the model's conditions answer. The bits of an instruction's words, in numbers. A region that draws its order, by what holds whatever has come up so far: every order at once. A frame of which some slots alone are written: for a drawn region walked by what holds, the frame a variable. What the program's tests of words, sizes and register numbers answer; none changes the world. The ways to name an operand, as the program holds them: one type a way; the operand that each comes back as. The region of the program's GoodOperand, drawn and guarded: every way to name an operand, every order at once. What the model says that OpFlow 1 sets. -/
import Derived.Test.YtflnodadeajmcaaGreatAF2
import Derived.Deep.DeepCutAuto
import Derived.Test.YtflnodadeajmcaaGreatAF3
import Derived.Test.YtflnodadeajmcaaGreatAF1
import Derived.Deep.AppendLies
import Derived.RegionTactic
namespace Go.Proofs.YtflnodadeajmcaaGreat
open Go.RowKit
set_option linter.unusedVariables false
set_option linter.unusedSimpArgs false
set_option maxRecDepth 100000 in
set_option maxHeartbeats 16000000 in
theorem goodInsB2 (w : World) (op r k e s : Int) (h2 : Pl.within r 0 3 = true) (h3 : Pl.opOk 7 k e = true) (h4 : Pl.within s 0 7 = true) :
    Calls Tryz.prog 87 #[.agg (inA op 2 r 7 k e s)] w fun r' w' => r' = .returned (.bool (Pl.inOk ⟨op, 2, r, 7, k, e, s⟩)) ∧ Kept 0 0 w w' := by
  have K0 := hide (kept_alloc w (.cells (inA op 2 r 7 k e s) 124))
  have B0 := hide (Blk.new w (inA op 2 r 7 k e s) 124)
  have G : Hid (Pl.inOk ⟨op, 2, r, 7, k, e, s⟩ = Pl.inKind ⟨op, 2, r, 7, k, e, s⟩) := hide (by simp only [Pl.inOk, Pl.inBase, Pl.byteNow, h2, h3, h4]; rfl)
  have hZ : Pl.zeroO 7 k e = false := rfl
  go_enter Tryz.func87, Tryz.ntmps87
  go_upto_region 5 with (first | (go_at_call 41; have z9 := B2; refine (l1In _ _ _ _).mono ?_; rintro e9 w' ⟨rfl, hw⟩; have hw2 := hw.symm; clear hw; subst hw2; rw [show (decide (0 ≤ s) && decide (s ≤ 7)) = Pl.within s 0 7 from rfl, h4]) | (go_at_call 112; refine (l1Size2 _).mono ?_; rintro e9 w' ⟨rfl, hw⟩; have hw2 := hw.symm; clear hw; subst hw2) | (go_at_call 41; refine (l1In _ _ _ _).mono ?_; rintro e9 w' ⟨rfl, hw⟩; have hw2 := hw.symm; clear hw; subst hw2; rw [show (decide (0 ≤ r) && decide (r ≤ 3)) = Pl.within r 0 3 from rfl, h2]) | (go_at_call 114; refine (specGoodOperand _ 7 k e).mono ?_; rintro e9 w2 ⟨rfl, k2⟩; rw [h3]; have B2 := hide (B0.out.kept0 k2); have K2 := hide (K0.out.trans k2); have c0 := B2.out.cell (i := 0) rfl; have c1 := B2.out.cell (i := 1) rfl; have c2 := B2.out.cell (i := 2) rfl; have c3 := B2.out.cell (i := 3) rfl; have c4 := B2.out.cell (i := 4) rfl; have c5 := B2.out.cell (i := 5) rfl; have c6 := B2.out.cell (i := 6) rfl; clear k2))
  rcases opsAll op with rfl | rfl | rfl | rfl | rfl | rfl | rfl | rfl | rfl | rfl | rfl | rfl | rfl | rfl | rfl | rfl | rfl | rfl | rfl | hno
  · have KND : Hid (Pl.inKind ⟨1, 2, r, 7, k, e, s⟩ = ((s == 0) && (((2 : Int) == 2) || !((7 : Int) == 1)))) := hide rfl
    cases a1 : (s == 0)
    all_goals
      go_wp2_with fail
      go_ret
      exact ⟨rB (by rw [G.out, KND.out] <;> first | rfl | (simp only [a1, hZ]; done) | (simp only [a1, hZ]; rfl) | simp [a1, hZ]), by first | exact K4.out | exact K3.out | exact K2.out⟩
  · have KND : Hid (Pl.inKind ⟨2, 2, r, 7, k, e, s⟩ = ((s == 0) && (((7 : Int) == 0) || Pl.memM (7 : Int)))) := hide rfl
    cases a1 : (s == 0)
    all_goals
      go_wp2_with (first | (go_at_call 115; refine (specMem _ _).mono ?_; rintro e9 w' ⟨rfl, hw⟩; have hw2 := hw.symm; clear hw; subst hw2))
      go_ret
      exact ⟨rB (by rw [G.out, KND.out] <;> first | rfl | (simp only [a1, hZ]; done) | (simp only [a1, hZ]; rfl) | simp [a1, hZ]), by first | exact K4.out | exact K3.out | exact K2.out⟩
  · have KND : Hid (Pl.inKind ⟨3, 2, r, 7, k, e, s⟩ = ((s == 0) && (((2 : Int) == 2) || !((7 : Int) == 1)))) := hide rfl
    cases a1 : (s == 0)
    all_goals
      go_wp2_with fail
      go_ret
      exact ⟨rB (by rw [G.out, KND.out] <;> first | rfl | (simp only [a1, hZ]; done) | (simp only [a1, hZ]; rfl) | simp [a1, hZ]), by first | exact K4.out | exact K3.out | exact K2.out⟩
  · have KND : Hid (Pl.inKind ⟨4, 2, r, 7, k, e, s⟩ = ((s == 0) && (((2 : Int) == 2) || !((7 : Int) == 1)))) := hide rfl
    cases a1 : (s == 0)
    all_goals
      go_wp2_with fail
      go_ret
      exact ⟨rB (by rw [G.out, KND.out] <;> first | rfl | (simp only [a1, hZ]; done) | (simp only [a1, hZ]; rfl) | simp [a1, hZ]), by first | exact K4.out | exact K3.out | exact K2.out⟩
  · have KND : Hid (Pl.inKind ⟨5, 2, r, 7, k, e, s⟩ = ((s == 0) && (((2 : Int) == 2) || !((7 : Int) == 1)))) := hide rfl
    cases a1 : (s == 0)
    all_goals
      go_wp2_with fail
      go_ret
      exact ⟨rB (by rw [G.out, KND.out] <;> first | rfl | (simp only [a1, hZ]; done) | (simp only [a1, hZ]; rfl) | simp [a1, hZ]), by first | exact K4.out | exact K3.out | exact K2.out⟩
  · have KND : Hid (Pl.inKind ⟨6, 2, r, 7, k, e, s⟩ = ((s == 0) && (((2 : Int) == 2) || !((7 : Int) == 1)))) := hide rfl
    cases a1 : (s == 0)
    all_goals
      go_wp2_with fail
      go_ret
      exact ⟨rB (by rw [G.out, KND.out] <;> first | rfl | (simp only [a1, hZ]; done) | (simp only [a1, hZ]; rfl) | simp [a1, hZ]), by first | exact K4.out | exact K3.out | exact K2.out⟩
  · have KND : Hid (Pl.inKind ⟨7, 2, r, 7, k, e, s⟩ = ((s == 0) && (((2 : Int) == 2) || !((7 : Int) == 1)))) := hide rfl
    cases a1 : (s == 0)
    all_goals
      go_wp2_with fail
      go_ret
      exact ⟨rB (by rw [G.out, KND.out] <;> first | rfl | (simp only [a1, hZ]; done) | (simp only [a1, hZ]; rfl) | simp [a1, hZ]), by first | exact K4.out | exact K3.out | exact K2.out⟩
  · have KND : Hid (Pl.inKind ⟨8, 2, r, 7, k, e, s⟩ = ((s == 0) && (((2 : Int) == 2) || !((7 : Int) == 1)))) := hide rfl
    cases a1 : (s == 0)
    all_goals
      go_wp2_with fail
      go_ret
      exact ⟨rB (by rw [G.out, KND.out] <;> first | rfl | (simp only [a1, hZ]; done) | (simp only [a1, hZ]; rfl) | simp [a1, hZ]), by first | exact K4.out | exact K3.out | exact K2.out⟩
  · have KND : Hid (Pl.inKind ⟨9, 2, r, 7, k, e, s⟩ = (((2 : Int) == 2) && (s == 0))) := hide rfl
    go_wp2_with fail
    go_ret
    exact ⟨rB (by rw [G.out, KND.out] <;> first | rfl | (simp only [hZ]; done) | (simp only [hZ]; rfl) | simp [hZ]), by first | exact K4.out | exact K3.out | exact K2.out⟩
  · have KND : Hid (Pl.inKind ⟨10, 2, r, 7, k, e, s⟩ = ((((2 : Int) == 2) && (s == 0)) && Pl.plainM (7 : Int))) := hide rfl
    cases a1 : (s == 0)
    all_goals
      go_wp2_with (first | (go_at_call 116; refine (specPlain _ _).mono ?_; rintro e9 w' ⟨rfl, hw⟩; have hw2 := hw.symm; clear hw; subst hw2))
      go_ret
      exact ⟨rB (by rw [G.out, KND.out] <;> first | rfl | (simp only [a1, hZ]; done) | (simp only [a1, hZ]; rfl) | simp [a1, hZ]), by first | exact K4.out | exact K3.out | exact K2.out⟩
  · have KND : Hid (Pl.inKind ⟨11, 2, r, 7, k, e, s⟩ = (((r == 0) && decide (s ≤ 3)) && (((7 : Int) == 0) || Pl.memM (7 : Int)))) := hide rfl
    cases a1 : (r == 0) <;> cases a2 : decide (s ≤ 3)
    all_goals
      go_wp2_with (first | (go_at_call 115; refine (specMem _ _).mono ?_; rintro e9 w' ⟨rfl, hw⟩; have hw2 := hw.symm; clear hw; subst hw2))
      go_ret
      exact ⟨rB (by rw [G.out, KND.out] <;> first | rfl | (simp only [a1, a2, hZ]; done) | (simp only [a1, a2, hZ]; rfl) | simp [a1, a2, hZ]), by first | exact K4.out | exact K3.out | exact K2.out⟩
  · have KND : Hid (Pl.inKind ⟨12, 2, r, 7, k, e, s⟩ = (((7 : Int) == 0))) := hide rfl
    go_wp2_with fail
    go_ret
    exact ⟨rB (by rw [G.out, KND.out] <;> first | rfl | (simp only [hZ]; done) | (simp only [hZ]; rfl) | simp [hZ]), by first | exact K4.out | exact K3.out | exact K2.out⟩
  · have KND : Hid (Pl.inKind ⟨13, 2, r, 7, k, e, s⟩ = ((((2 : Int) == 2) && decide (r ≤ 1)) && ((7 : Int) == 7))) := hide rfl
    cases a1 : decide (r ≤ 1)
    all_goals
      go_wp2_with fail
      go_ret
      exact ⟨rB (by rw [G.out, KND.out] <;> first | rfl | (simp only [a1, hZ]; done) | (simp only [a1, hZ]; rfl) | simp [a1, hZ]), by first | exact K4.out | exact K3.out | exact K2.out⟩
  · have KND : Hid (Pl.inKind ⟨14, 2, r, 7, k, e, s⟩ = (((((2 : Int) == 2) && (r == 0)) && decide (s ≤ 1)) && Pl.plainM (7 : Int))) := hide rfl
    cases a1 : (r == 0) <;> cases a2 : decide (s ≤ 1)
    all_goals
      go_wp2_with (first | (go_at_call 116; refine (specPlain _ _).mono ?_; rintro e9 w' ⟨rfl, hw⟩; have hw2 := hw.symm; clear hw; subst hw2))
      go_ret
      exact ⟨rB (by rw [G.out, KND.out] <;> first | rfl | (simp only [a1, a2, hZ]; done) | (simp only [a1, a2, hZ]; rfl) | simp [a1, a2, hZ]), by first | exact K4.out | exact K3.out | exact K2.out⟩
  · have KND : Hid (Pl.inKind ⟨15, 2, r, 7, k, e, s⟩ = (bif s == 3 then (((2 : Int) == 2) && (r == 0)) && Pl.nowO (7 : Int) e else ((((2 : Int) == 2) && decide (s ≤ 6)) && Pl.zeroO (7 : Int) k e) && (decide (3 < s) || (r == 0)))) := hide rfl
    cases a0 : (s == 3) <;> cases a1 : (r == 0) <;> cases a2 : decide (s ≤ 6) <;> cases a4 : decide (3 < s)
    all_goals
      go_wp2_with (first | (go_at_call 117; refine (specNow 7 k e _).mono ?_; rintro e9 w3 ⟨rfl, k3⟩; have B3 := hide (B2.out.kept0 k3); have K3 := hide (K2.out.trans k3); have d0 := B3.out.cell (i := 0) rfl; have d1 := B3.out.cell (i := 1) rfl; have d2 := B3.out.cell (i := 2) rfl; have d3 := B3.out.cell (i := 3) rfl; have d4 := B3.out.cell (i := 4) rfl; have d5 := B3.out.cell (i := 5) rfl; have d6 := B3.out.cell (i := 6) rfl; clear k3) | (go_at_call 118; have z9 := B3; refine (specZero 7 k e _).mono ?_; rintro e9 w4 ⟨rfl, k4⟩; rw [hZ]; have B4 := hide (B3.out.kept0 k4); have K4 := hide (K3.out.trans k4); have f0 := B4.out.cell (i := 0) rfl; have f1 := B4.out.cell (i := 1) rfl; have f2 := B4.out.cell (i := 2) rfl; have f3 := B4.out.cell (i := 3) rfl; have f4 := B4.out.cell (i := 4) rfl; have f5 := B4.out.cell (i := 5) rfl; have f6 := B4.out.cell (i := 6) rfl; clear k4) | (go_at_call 118; refine (specZero 7 k e _).mono ?_; rintro e9 w4 ⟨rfl, k4⟩; rw [hZ]; have B4 := hide (B2.out.kept0 k4); have K4 := hide (K2.out.trans k4); have f0 := B4.out.cell (i := 0) rfl; have f1 := B4.out.cell (i := 1) rfl; have f2 := B4.out.cell (i := 2) rfl; have f3 := B4.out.cell (i := 3) rfl; have f4 := B4.out.cell (i := 4) rfl; have f5 := B4.out.cell (i := 5) rfl; have f6 := B4.out.cell (i := 6) rfl; clear k4))
      go_ret
      exact ⟨rB (by rw [G.out, KND.out] <;> first | rfl | (simp only [a0, a1, a2, a4, hZ]; done) | (simp only [a0, a1, a2, a4, hZ]; rfl) | simp [a0, a1, a2, a4, hZ]), by first | exact K4.out | exact K3.out | exact K2.out⟩
  · have KND : Hid (Pl.inKind ⟨16, 2, r, 7, k, e, s⟩ = ((((2 : Int) == 2) && (s == 0)) && !((7 : Int) == 1))) := hide rfl
    cases a1 : (s == 0)
    all_goals
      go_wp2_with fail
      go_ret
      exact ⟨rB (by rw [G.out, KND.out] <;> first | rfl | (simp only [a1, hZ]; done) | (simp only [a1, hZ]; rfl) | simp [a1, hZ]), by first | exact K4.out | exact K3.out | exact K2.out⟩
  · have KND : Hid (Pl.inKind ⟨17, 2, r, 7, k, e, s⟩ = ((((2 : Int) == 2) && (s == 0)) && !((7 : Int) == 1))) := hide rfl
    cases a1 : (s == 0)
    all_goals
      go_wp2_with fail
      go_ret
      exact ⟨rB (by rw [G.out, KND.out] <;> first | rfl | (simp only [a1, hZ]; done) | (simp only [a1, hZ]; rfl) | simp [a1, hZ]), by first | exact K4.out | exact K3.out | exact K2.out⟩
  · have KND : Hid (Pl.inKind ⟨18, 2, r, 7, k, e, s⟩ = (((!((2 : Int) == 2)) && decide (s ≤ 1)) && ((7 : Int) == 0))) := hide rfl
    go_wp2_with fail
    go_ret
    exact ⟨rB (by rw [G.out, KND.out] <;> first | rfl | (simp only [hZ]; done) | (simp only [hZ]; rfl) | simp [hZ]), by first | exact K4.out | exact K3.out | exact K2.out⟩
  · have KND : Hid (Pl.inKind ⟨19, 2, r, 7, k, e, s⟩ = (((2 : Int) == 2) && ((((s == 0) && (r == 0)) && Pl.nowO (7 : Int) e) || ((s == 1) && Pl.zeroO (7 : Int) k e)))) := hide rfl
    cases a1 : (s == 0) <;> cases a2 : (r == 0) <;> cases a3 : Pl.nowO 7 e <;> cases a4 : (s == 1)
    all_goals
      go_wp2_with (first | (go_at_call 117; refine (specNow 7 k e _).mono ?_; rintro e9 w3 ⟨rfl, k3⟩; rw [a3]; have B3 := hide (B2.out.kept0 k3); have K3 := hide (K2.out.trans k3); have d0 := B3.out.cell (i := 0) rfl; have d1 := B3.out.cell (i := 1) rfl; have d2 := B3.out.cell (i := 2) rfl; have d3 := B3.out.cell (i := 3) rfl; have d4 := B3.out.cell (i := 4) rfl; have d5 := B3.out.cell (i := 5) rfl; have d6 := B3.out.cell (i := 6) rfl; clear k3) | (go_at_call 118; have z9 := B3; refine (specZero 7 k e _).mono ?_; rintro e9 w4 ⟨rfl, k4⟩; rw [hZ]; have B4 := hide (B3.out.kept0 k4); have K4 := hide (K3.out.trans k4); have f0 := B4.out.cell (i := 0) rfl; have f1 := B4.out.cell (i := 1) rfl; have f2 := B4.out.cell (i := 2) rfl; have f3 := B4.out.cell (i := 3) rfl; have f4 := B4.out.cell (i := 4) rfl; have f5 := B4.out.cell (i := 5) rfl; have f6 := B4.out.cell (i := 6) rfl; clear k4) | (go_at_call 118; refine (specZero 7 k e _).mono ?_; rintro e9 w4 ⟨rfl, k4⟩; rw [hZ]; have B4 := hide (B2.out.kept0 k4); have K4 := hide (K2.out.trans k4); have f0 := B4.out.cell (i := 0) rfl; have f1 := B4.out.cell (i := 1) rfl; have f2 := B4.out.cell (i := 2) rfl; have f3 := B4.out.cell (i := 3) rfl; have f4 := B4.out.cell (i := 4) rfl; have f5 := B4.out.cell (i := 5) rfl; have f6 := B4.out.cell (i := 6) rfl; clear k4))
      go_ret
      exact ⟨rB (by rw [G.out, KND.out] <;> first | rfl | (simp only [a1, a2, a3, a4, hZ]; done) | (simp only [a1, a2, a3, a4, hZ]; rfl) | simp [a1, a2, a3, a4, hZ]), by first | exact K4.out | exact K3.out | exact K2.out⟩
  · obtain ⟨q1, q2, q3, q4, q5, q6, q7, q8, q9, q10, q11, q12, q13, q14, q15, q16, q17, q18, q19⟩ := hno
    have KND : Hid (Pl.inKind ⟨op, 2, r, 7, k, e, s⟩ = false) := hide (by simp [Pl.inKind, q1, q2, q3, q4, q5, q6, q7, q8, q9, q10, q11, q12, q13, q14, q15, q16, q17, q18, q19])
    go_wp2_with fail
    go_ret
    exact ⟨rB (by rw [G.out, KND.out]), K2.out⟩
end Go.Proofs.YtflnodadeajmcaaGreat

namespace Go.Proofs.YtflnodadeajmcaaGreat
open Go.RowKit
set_option linter.unusedVariables false
set_option linter.unusedSimpArgs false
set_option maxRecDepth 100000 in
set_option maxHeartbeats 4000000 in
theorem specGoodIns (w : World) (op z r m k e s : Int) :
    Calls Tryz.prog 87 #[.agg (inA op z r m k e s)] w fun r' w' => r' = .returned (.bool (Pl.inOk ⟨op, z, r, m, k, e, s⟩)) ∧ Kept 0 0 w w' := by
  have K0 := hide (kept_alloc w (.cells (inA op z r m k e s) 124))
  have B0 := hide (Blk.new w (inA op z r m k e s) 124)
  cases h1 : (decide (z = 1) || decide (z = 2))
  · have G : Hid (Pl.inOk ⟨op, z, r, m, k, e, s⟩ = false) := hide (by simp only [Pl.inOk, Pl.inBase, h1]; rfl)
    go_enter Tryz.func87, Tryz.ntmps87
    go_wp2_with (first | (go_at_call 112; refine (specSize _ _).mono ?_; rintro e9 w' ⟨rfl, hw⟩; have hw2 := hw.symm; clear hw; subst hw2; rw [h1]))
    go_ret
    exact ⟨rB G.out.symm, K0.out⟩
  · cases h2 : Pl.within r 0 3
    · have G : Hid (Pl.inOk ⟨op, z, r, m, k, e, s⟩ = false) := hide (by simp only [Pl.inOk, Pl.inBase, h1, h2]; rfl)
      go_enter Tryz.func87, Tryz.ntmps87
      go_wp2_with (first | (go_at_call 112; refine (specSize _ _).mono ?_; rintro e9 w' ⟨rfl, hw⟩; have hw2 := hw.symm; clear hw; subst hw2; rw [h1]) | (go_at_call 41; refine (l1In _ _ _ _).mono ?_; rintro e9 w' ⟨rfl, hw⟩; have hw2 := hw.symm; clear hw; subst hw2; rw [show (decide (0 ≤ r) && decide (r ≤ 3)) = Pl.within r 0 3 from rfl, h2]))
      go_ret
      exact ⟨rB G.out.symm, K0.out⟩
    · cases h3 : Pl.opOk m k e
      · have G : Hid (Pl.inOk ⟨op, z, r, m, k, e, s⟩ = false) := hide (by simp only [Pl.inOk, Pl.inBase, h1, h2, h3]; rfl)
        go_enter Tryz.func87, Tryz.ntmps87
        go_wp2_with (first | (go_at_call 112; refine (specSize _ _).mono ?_; rintro e9 w' ⟨rfl, hw⟩; have hw2 := hw.symm; clear hw; subst hw2; rw [h1]) | (go_at_call 41; refine (l1In _ _ _ _).mono ?_; rintro e9 w' ⟨rfl, hw⟩; have hw2 := hw.symm; clear hw; subst hw2; rw [show (decide (0 ≤ r) && decide (r ≤ 3)) = Pl.within r 0 3 from rfl, h2]) | (go_at_call 114; refine (specGoodOperand _ m k e).mono ?_; rintro e9 w2 ⟨rfl, k2⟩; rw [h3]; have B2 := hide (B0.out.kept0 k2); have K2 := hide (K0.out.trans k2); have c0 := B2.out.cell (i := 0) rfl; have c1 := B2.out.cell (i := 1) rfl; have c2 := B2.out.cell (i := 2) rfl; have c3 := B2.out.cell (i := 3) rfl; have c4 := B2.out.cell (i := 4) rfl; have c5 := B2.out.cell (i := 5) rfl; have c6 := B2.out.cell (i := 6) rfl; clear k2))
        go_ret
        exact ⟨rB G.out.symm, K2.out⟩
      · cases h4 : Pl.within s 0 7
        · have G : Hid (Pl.inOk ⟨op, z, r, m, k, e, s⟩ = false) := hide (by simp only [Pl.inOk, Pl.inBase, h1, h2, h3, h4]; rfl)
          go_enter Tryz.func87, Tryz.ntmps87
          go_wp2_with (first | (go_at_call 41; have z9 := B2; refine (l1In _ _ _ _).mono ?_; rintro e9 w' ⟨rfl, hw⟩; have hw2 := hw.symm; clear hw; subst hw2; rw [show (decide (0 ≤ s) && decide (s ≤ 7)) = Pl.within s 0 7 from rfl, h4]) | (go_at_call 112; refine (specSize _ _).mono ?_; rintro e9 w' ⟨rfl, hw⟩; have hw2 := hw.symm; clear hw; subst hw2; rw [h1]) | (go_at_call 41; refine (l1In _ _ _ _).mono ?_; rintro e9 w' ⟨rfl, hw⟩; have hw2 := hw.symm; clear hw; subst hw2; rw [show (decide (0 ≤ r) && decide (r ≤ 3)) = Pl.within r 0 3 from rfl, h2]) | (go_at_call 114; refine (specGoodOperand _ m k e).mono ?_; rintro e9 w2 ⟨rfl, k2⟩; rw [h3]; have B2 := hide (B0.out.kept0 k2); have K2 := hide (K0.out.trans k2); have c0 := B2.out.cell (i := 0) rfl; have c1 := B2.out.cell (i := 1) rfl; have c2 := B2.out.cell (i := 2) rfl; have c3 := B2.out.cell (i := 3) rfl; have c4 := B2.out.cell (i := 4) rfl; have c5 := B2.out.cell (i := 5) rfl; have c6 := B2.out.cell (i := 6) rfl; clear k2))
          go_ret
          exact ⟨rB G.out.symm, K2.out⟩
        · cases h6 : (m == 7)
          · clear K0 B0
            simp at h1
            rcases h1 with rfl | rfl
            · exact goodInsA1 w op r m k e s h2 h3 h4 h6
            · exact goodInsA2 w op r m k e s h2 h3 h4 h6
          · have hm : m = 7 := by simpa using h6
            subst hm
            have h1b := h1
            simp at h1b
            rcases h1b with rfl | rfl
            · cases h8 : decide (255 < e)
              · exact goodInsB1 w op r k e s h2 h3 h4 h8
              · have G : Hid (Pl.inOk ⟨op, 1, r, 7, k, e, s⟩ = false) := hide (by simp only [Pl.inOk, Pl.inBase, Pl.byteNow, h2, h3, h4, h8]; rfl)
                go_enter Tryz.func87, Tryz.ntmps87
                go_wp2_with (first | (go_at_call 41; have z9 := B2; refine (l1In _ _ _ _).mono ?_; rintro e9 w' ⟨rfl, hw⟩; have hw2 := hw.symm; clear hw; subst hw2; rw [show (decide (0 ≤ s) && decide (s ≤ 7)) = Pl.within s 0 7 from rfl, h4]) | (go_at_call 112; refine (specSize _ _).mono ?_; rintro e9 w' ⟨rfl, hw⟩; have hw2 := hw.symm; clear hw; subst hw2; rw [h1]) | (go_at_call 41; refine (l1In _ _ _ _).mono ?_; rintro e9 w' ⟨rfl, hw⟩; have hw2 := hw.symm; clear hw; subst hw2; rw [show (decide (0 ≤ r) && decide (r ≤ 3)) = Pl.within r 0 3 from rfl, h2]) | (go_at_call 114; refine (specGoodOperand _ 7 k e).mono ?_; rintro e9 w2 ⟨rfl, k2⟩; rw [h3]; have B2 := hide (B0.out.kept0 k2); have K2 := hide (K0.out.trans k2); have c0 := B2.out.cell (i := 0) rfl; have c1 := B2.out.cell (i := 1) rfl; have c2 := B2.out.cell (i := 2) rfl; have c3 := B2.out.cell (i := 3) rfl; have c4 := B2.out.cell (i := 4) rfl; have c5 := B2.out.cell (i := 5) rfl; have c6 := B2.out.cell (i := 6) rfl; clear k2))
                go_ret
                exact ⟨rB G.out.symm, K2.out⟩
            · exact goodInsB2 w op r k e s h2 h3 h4
end Go.Proofs.YtflnodadeajmcaaGreat

namespace Go.Proofs.YtflnodadeajmcaaGreat
open Go.RowKit
set_option linter.unusedVariables false

theorem l1Flag (b : Bool) (f : Int) (w : World) :
    Calls Tryz.prog 144 #[.bool b, iv f] w fun e w' => e = .returned (iv (Pl.fl b f)) ∧ w' = w := by
  cases b
  all_goals
    go_enter Tryz.func144, Tryz.ntmps144
    go_wp2
    go_ret
    exact ⟨rfl, rfl⟩

end Go.Proofs.YtflnodadeajmcaaGreat

namespace Go.Proofs.YtflnodadeajmcaaGreat
open Go.RowKit
set_option linter.unusedVariables false

/-! ### the program's own -/

theorem flagsIf (b : Bool) (f : Int) (w : World) :
    Calls Tryz.prog 204 #[.bool b, iv f] w fun e w' => e = .returned (iv (Pl.fl b f)) ∧ w' = w := by
  cases b
  all_goals
    go_enter Tryz.func204, Tryz.ntmps204
    go_wp2
    go_ret
    exact ⟨rfl, rfl⟩

/-! ### the model's -/

end Go.Proofs.YtflnodadeajmcaaGreat

namespace Go.Proofs.YtflnodadeajmcaaGreat
open Go.RowKit
set_option linter.unusedVariables false
def BRow (w : World) (a : Option Addr) (xs : List Bool) : Prop :=
  ∀ i : Nat, i < xs.length → ∃ g off : Nat, a = some ⟨g, off, none⟩ ∧ w.cell? ⟨g, off + i, none⟩ = some (.bool (xs[i]?.getD false))
def BOwn (w : World) (g : Nat) (xs : List Bool) : Prop :=
  ∀ i : Nat, i < xs.length → w.cell? ⟨g, i, none⟩ = some (.bool (xs[i]?.getD false)) ∧ w.frozen? ⟨g, i, none⟩ = false
def BSlot (w : World) (lo hi : Nat) (a : Option Addr) (xs : List Bool) : Prop :=
  (a = none ∧ xs = []) ∨ ∃ g : Nat, a = some ⟨g, 0, none⟩ ∧ lo ≤ g ∧ g < hi ∧ BOwn w g xs
theorem BOwn.keptS {w w' : World} {g : Nat} {xs : List Bool} {lo hi : Nat} (h : BOwn w g xs) (k : Kept lo hi w w') (hn : ¬ (lo ≤ g ∧ g < hi)) : BOwn w' g xs := by
  intro i hi'
  obtain ⟨hc, hf⟩ := h i hi'
  have e := k.block g (World.block_lt_of_cell? _ _ hc) hn
  exact ⟨by rw [World.cell?_of_block (w := w) e]; exact hc, by rw [World.frozen?_of_block (w := w) e]; exact hf⟩
theorem BOwn.row {w : World} {g : Nat} {xs : List Bool} (h : BOwn w g xs) : BRow w (some ⟨g, 0, none⟩) xs := by
  intro i hi
  exact ⟨g, 0, rfl, by rw [Nat.zero_add]; exact (h i hi).1⟩
theorem BOwn.set {w : World} {g k : Nat} {xs : List Bool} (h : BOwn w g xs) (z : Bool) : BOwn (w.setCell ⟨g, k, none⟩ (.bool z)) g (xs.set k z) := by
  intro i hi
  rw [List.length_set] at hi
  obtain ⟨hc, hf⟩ := h i hi
  refine ⟨?_, by simpa using hf⟩
  by_cases e : k = i
  · subst e
    rw [World.cell?_setCell_same _ _ _ hc]
    simp [hi]
  · rw [World.cell?_setCell_other _ _ _ _ (fun q => e (congrArg Addr.off q)), hc]
    simp [e]
theorem bown_of_row {w : World} {base g n cap : Nat} {xs : List Bool} (h : w.ownsRow base 4 1 (.slice (some ⟨g, 0, none⟩) n cap) n (xs.map Value.bool)) : BOwn w g xs := by
  intro i hi
  have hc := h.cells (g := g) rfl i (.bool (xs[i]?.getD false)) (by simp [hi])
  have hadd : (⟨g, 0, none⟩ : Addr).add i = ⟨g, i, none⟩ := by unfold Addr.add; split <;> simp_all
  rw [hadd] at hc
  refine ⟨hc, ?_⟩
  rcases h.2 with ⟨e, _⟩ | ⟨g', cap', cur, e, _, hgg, _⟩
  · cases e
  · cases e
    simp [World.frozen?, hgg]
theorem bslot_row {w : World} {base n : Nat} {v : Value} {xs : List Bool} (h : w.ownsRow base 4 1 v n (xs.map Value.bool)) : ∃ (b : Option Addr) (cb : Nat), v = .slice b n cb ∧ BSlot w base w.heap.size b xs := by
  have h9 := h
  rcases h with ⟨hl, ⟨rfl, e⟩ | ⟨g, cap, cur, e, hb, hgg, hn, _, hsz, ht⟩⟩
  · subst e
    exact ⟨none, 0, rfl, .inl ⟨rfl, by simpa using hl⟩⟩
  · subst e
    exact ⟨some ⟨g, 0, none⟩, cap, rfl, .inr ⟨g, rfl, (h9.lt g rfl).1, (h9.lt g rfl).2, bown_of_row h9⟩⟩
end Go.Proofs.YtflnodadeajmcaaGreat

namespace Go.Proofs.YtflnodadeajmcaaGreat
open Go.RowKit
set_option linter.unusedVariables false
theorem specNeed (k : Nat) (hk : k < 16) (w : World) : Calls Tryz.prog 172 #[iv (k : Int)] w fun e w' => e = .returned (iv (Pl.need k)) ∧ w' = w := by
  have hE := Pl.bit_even k hk
  have hc : (k : Int) - (k : Int) % 2 = 0 ∨ (k : Int) - (k : Int) % 2 = 2 ∨ (k : Int) - (k : Int) % 2 = 4 ∨ (k : Int) - (k : Int) % 2 = 6 ∨ (k : Int) - (k : Int) % 2 = 8 ∨ (k : Int) - (k : Int) % 2 = 10 ∨ (k : Int) - (k : Int) % 2 = 12 ∨ (k : Int) - (k : Int) % 2 = 14 := by omega
  rcases hc with h | h | h | h | h | h | h | h <;> (
    have G : Hid (Pl.need (k : Int) = _) := hide (by unfold Pl.need; rw [h])
    rw [h] at hE
    clear h
    go_enter Tryz.func172, Tryz.ntmps172
    go_wp2
    go_ret
    exact ⟨rI (by rw [G.out]; rfl), rfl⟩)
theorem Tryz.infoBool : (Tryz.prog.info? 4).map (fun i => (i.zero, i.size, i.bytes)) = some (some (.bool false), 1, 1) := by kernel_rfl
end Go.Proofs.YtflnodadeajmcaaGreat

namespace Go.Proofs.YtflnodadeajmcaaGreat
open Go.RowKit
set_option linter.unusedVariables false
/-- the parts of the first word lie side by side -/
theorem orWord {op z r m k s : Int} (a1 : 0 ≤ op) (a2 : op ≤ 31) (c1 : 1 ≤ z) (c2 : z ≤ 2) (a4 : 0 ≤ r) (a5 : r ≤ 3) (a6 : 0 ≤ m) (a7 : m ≤ 7) (a8 : 0 ≤ k) (a9 : k ≤ 3) (b3 : 0 ≤ s) (b4 : s ≤ 7) :
    bits .or .i64 (op * 2048) ((z - 1) * 1024) = op * 2048 + (z - 1) * 1024 ∧
    bits .or .i64 (op * 2048 + (z - 1) * 1024) (r * 256) = op * 2048 + (z - 1) * 1024 + r * 256 ∧
    bits .or .i64 (op * 2048 + (z - 1) * 1024 + r * 256) (m * 32) = op * 2048 + (z - 1) * 1024 + r * 256 + m * 32 ∧
    bits .or .i64 (op * 2048 + (z - 1) * 1024 + r * 256 + m * 32) (k * 8) = op * 2048 + (z - 1) * 1024 + r * 256 + m * 32 + k * 8 ∧
    bits .or .i64 (op * 2048 + (z - 1) * 1024 + r * 256 + m * 32 + k * 8) s = op * 2048 + (z - 1) * 1024 + r * 256 + m * 32 + k * 8 + s := by
  refine ⟨?_, ?_, ?_, ?_, ?_⟩
  · exact bits_join .i64 62 (by decide) Pl.wraps_i64 11 (op * 2048) ((z - 1) * 1024) (by omega) (by omega) (by omega) (by omega) (by omega) (by omega)
  · exact bits_join .i64 62 (by decide) Pl.wraps_i64 10 (op * 2048 + (z - 1) * 1024) (r * 256) (by omega) (by omega) (by omega) (by omega) (by omega) (by omega)
  · exact bits_join .i64 62 (by decide) Pl.wraps_i64 8 (op * 2048 + (z - 1) * 1024 + r * 256) (m * 32) (by omega) (by omega) (by omega) (by omega) (by omega) (by omega)
  · exact bits_join .i64 62 (by decide) Pl.wraps_i64 5 (op * 2048 + (z - 1) * 1024 + r * 256 + m * 32) (k * 8) (by omega) (by omega) (by omega) (by omega) (by omega) (by omega)
  · exact bits_join .i64 62 (by decide) Pl.wraps_i64 3 (op * 2048 + (z - 1) * 1024 + r * 256 + m * 32 + k * 8) s (by omega) (by omega) (by omega) (by omega) (by omega) (by omega)
end Go.Proofs.YtflnodadeajmcaaGreat

namespace Go.Proofs.YtflnodadeajmcaaGreat
open Go.RowKit
set_option linter.unusedVariables false

/-- operation k of the region waits for operation j -/
def waitsB (md : Region.Mode) (ops : Array Oper) (i k : Nat) : Bool := ((ops[i]?).map fun o => o.after.any fun e => Region.binds md e && e.on == k).getD false
theorem ready_new {md : Region.Mode} {ops : Array Oper} {l : Array Bool} {i : Nat} (h : i ∈ Region.ready md ops l) : i < ops.size ∧ l.getD i true = false := by
  unfold Region.ready at h
  rw [List.mem_filter, Bool.and_eq_true] at h
  refine ⟨List.mem_range.1 h.1, ?_⟩
  have := h.2.1
  revert this
  cases l.getD i true <;> simp
theorem getD_true {l : Array Bool} {k : Nat} (h : l.getD k false = true) : l.getD k true = true := by
  unfold Array.getD at *
  split
  · rename_i hk; simpa [hk] using h
  · rfl
theorem ready_dep {md : Region.Mode} {ops : Array Oper} {l : Array Bool} {i : Nat} (h : i ∈ Region.ready md ops l) (k : Nat) (hk : waitsB md ops i k = true) : l.getD k true = true := by
  unfold Region.ready at h
  rw [List.mem_filter, Bool.and_eq_true] at h
  have h2 := h.2.2
  unfold waitsB at hk
  cases ho : ops[i]? with
  | none => rw [ho] at hk; simp at hk
  | some o =>
    rw [ho] at hk h2
    simp only [Option.map_some, Option.getD_some] at hk h2
    rw [Array.any_eq_true'] at hk
    obtain ⟨e, he, hb⟩ := hk
    rw [Array.all_eq_true'] at h2
    have h3 := h2 e he
    rw [Bool.and_eq_true] at hb
    rw [hb.1] at h3
    have h4 : e.on = k := by simpa using hb.2
    rw [h4] at h3
    exact getD_true (by simpa using h3)
theorem filter_lt {xs : List Nat} {p q : Nat → Bool} (hpq : ∀ x, q x = true → p x = true) {i : Nat} (hi : i ∈ xs) (hp : p i = true) (hq : q i = false) : (xs.filter q).length < (xs.filter p).length := by
  induction xs with
  | nil => cases hi
  | cons x t ih =>
    have hle : (t.filter q).length ≤ (t.filter p).length := by
      clear ih hi
      induction t with
      | nil => simp
      | cons y t ih =>
        cases h1 : q y
        · cases h2 : p y <;> simp [h1, h2] <;> omega
        · simp [h1, hpq y h1]; exact ih
    rcases List.mem_cons.1 hi with rfl | hi
    · simp [hp, hq]; omega
    · have := ih hi
      cases h1 : q x
      · cases h2 : p x <;> simp [h1, h2] <;> omega
      · simp [h1, hpq x h1]; exact this
theorem getD_set_ne {l : Array Bool} {i j : Nat} (h : j ≠ i) : (l.setIfInBounds i true).getD j true = l.getD j true := by
  simp only [Array.getD_eq_getD_getElem?]
  rw [Array.getElem?_setIfInBounds_ne (Ne.symm h)]
theorem getD_set_eq {l : Array Bool} {i : Nat} : (l.setIfInBounds i true).getD i true = true := by
  simp only [Array.getD_eq_getD_getElem?, Array.getElem?_setIfInBounds]
  split
  · split <;> rfl
  · rename_i h; exact absurd trivial h

theorem wpAny_inv {P : Program} {md : Region.Mode} {ops : Array Oper} {Q : Exit → Act → World → Prop} {I : Array Bool → Act → World → Prop}
    (hfin : ∀ l a w, l.size = ops.size → I l a w → Region.ready md ops l = [] → Q .normal a w)
    (hstep : ∀ l a w i, I l a w → i ∈ Region.ready md ops l → wpOp P ops Q i (I (l.setIfInBounds i true)) a w) :
    ∀ (fuel : Nat) (l : Array Bool) (a : Act) (w : World), l.size = ops.size → ((List.range ops.size).filter fun i => !l.getD i true).length ≤ fuel → I l a w → wpAny P md ops Q fuel l a w := by
  intro fuel
  induction fuel with
  | zero =>
    intro l a w hz hn hI
    have h0 : Region.ready md ops l = [] := by
      cases hr : Region.ready md ops l with
      | nil => rfl
      | cons i t =>
        exfalso
        have hi : i ∈ Region.ready md ops l := by rw [hr]; simp
        obtain ⟨h1, h2⟩ := ready_new hi
        have : i ∈ (List.range ops.size).filter fun i => !l.getD i true := List.mem_filter.2 ⟨List.mem_range.2 h1, by rw [h2]; rfl⟩
        have := List.length_pos_of_mem this
        omega
    exact ⟨h0, hfin l a w hz hI h0⟩
  | succ n ih =>
    intro l a w hz hn hI
    refine ⟨fun h0 => hfin l a w hz hI h0, fun i hi => ?_⟩
    refine wpOp_mono (fun a' w' h' => ih _ a' w' (by simp [hz]) ?_ h') (hstep l a w i hI hi)
    obtain ⟨h1, h2⟩ := ready_new hi
    have := filter_lt (xs := List.range ops.size) (p := fun j => !l.getD j true) (q := fun j => !(l.setIfInBounds i true).getD j true) (i := i) (by
      intro x hx
      by_cases e : x = i
      · subst e; rw [h2]; rfl
      · rw [getD_set_ne e] at hx; exact hx) (List.mem_range.2 h1) (by rw [h2]; rfl) (by rw [getD_set_eq]; rfl)
    omega

/-- an operation waits for earlier ones alone -/
def lowB (md : Region.Mode) (ops : Array Oper) : Bool := (List.range ops.size).all fun i => ((ops[i]?).map fun o => o.after.all fun e => !Region.binds md e || decide (e.on < i)).getD true
theorem ready_none {md : Region.Mode} {ops : Array Oper} {l : Array Bool} (hz : l.size = ops.size) (hB : lowB md ops = true) (h0 : Region.ready md ops l = []) : ∀ i, i < ops.size → l.getD i true = true := by
  intro i
  induction i using Nat.strongRecOn with
  | ind i ih =>
    intro hi
    cases hl : l.getD i true
    · exfalso
      have hm : i ∈ Region.ready md ops l := by
        unfold Region.ready
        rw [List.mem_filter, Bool.and_eq_true]
        refine ⟨List.mem_range.2 hi, by rw [hl]; rfl, ?_⟩
        have hb := List.all_eq_true.1 hB i (List.mem_range.2 hi)
        rw [Array.getElem?_eq_getElem hi] at hb ⊢
        simp only [Option.map_some, Option.getD_some] at hb ⊢
        rw [Array.all_eq_true'] at hb ⊢
        intro e he
        have h1 := hb e he
        rw [Bool.or_eq_true] at h1 ⊢
        rcases h1 with h1 | h1
        · exact .inl h1
        · have h2 : e.on < i := by simpa using h1
          have h3 := ih e.on h2 (by omega)
          refine .inr ?_
          unfold Array.getD at h3 ⊢
          split
          · rename_i hk; simpa [hk] using h3
          · rename_i hk; omega
      rw [h0] at hm
      cases hm
    · rfl
theorem wp_region_inv {P : Program} {ops : Array Oper} {Q : Exit → Act → World → Prop} {id : Nat} {a : Act} {w : World} (I : Array Bool → Act → World → Prop) (hm : P.follows .mixedOrders = true) (hB : lowB .any ops = true)
    (hstart : I (Array.replicate ops.size false) a w.drew)
    (hfin : ∀ l a w, I l a w → (∀ i, i < ops.size → l.getD i true = true) → Q .normal a w)
    (hstep : ∀ l a w i, I l a w → i ∈ Region.ready .any ops l → wpOp P ops Q i (I (l.setIfInBounds i true)) a w) :
    (Code.region id ops true).wp P Q a w := by
  refine wp_region_any hm (wpAny_inv (I := I) (fun l a w hz h h0 => hfin l a w h (ready_none hz hB h0)) hstep _ _ _ _ (by simp) ?_ hstart)
  exact Nat.le_trans (List.length_filter_le _ _) (by simp)

/-- what holds once operation i has come up -/
def Once (l : Array Bool) (i : Nat) (p : Prop) : Prop := l.getD i true = true → p
theorem Once.past {l : Array Bool} {i j : Nat} {p q : Prop} (h : Once l j p) (hn : j ≠ i) (hp : p → q) : Once (l.setIfInBounds i true) j q := fun e => hp (h (by rwa [getD_set_ne hn] at e))
theorem Once.now {l : Array Bool} {i j : Nat} {p : Prop} (h : p) : Once (l.setIfInBounds i true) j p := fun _ => h
theorem once_start {n i : Nat} {p : Prop} (hi : i < n) : Once (Array.replicate n false) i p := by
  intro e
  simp [Array.getD_eq_getD_getElem?, hi] at e
theorem start_at {n i : Nat} (hi : i < n) : (Array.replicate n false).getD i true = false := by
  simp [Array.getD_eq_getD_getElem?, hi]
end Go.Proofs.YtflnodadeajmcaaGreat

namespace Go.Proofs.YtflnodadeajmcaaGreat
open Go.RowKit
set_option linter.unusedVariables false

/-- the frame A is A0 but for these slots -/
structure FR (SL : List Nat) (A0 A : Act) : Prop where
  size : A.tmps.size = A0.tmps.size
  defers : A.defers = A0.defers
  out : ∀ k, k ∉ SL → A.tmps[k]? = A0.tmps[k]?
theorem FR.refl (SL : List Nat) (A : Act) : FR SL A A := ⟨rfl, rfl, fun _ _ => rfl⟩
theorem put_ne {A : Act} {j k : Nat} {v : Value} (h : k ≠ j) : (A.put (some j) v).tmps[k]? = A.tmps[k]? := by
  show (A.tmps.setIfInBounds j v)[k]? = _
  rw [Array.getElem?_setIfInBounds_ne (Ne.symm h)]
theorem put_eq {A : Act} {k : Nat} {v : Value} (h : k < A.tmps.size) : (A.put (some k) v).tmps[k]? = some v := by
  show (A.tmps.setIfInBounds k v)[k]? = _
  rw [Array.getElem?_setIfInBounds]
  simp [h]
theorem FR.put {SL : List Nat} {A0 A : Act} (h : FR SL A0 A) {k : Nat} (hk : k ∈ SL) (v : Value) : FR SL A0 (A.put (some k) v) := by
  refine ⟨?_, h.defers, fun j hj => ?_⟩
  · show (A.tmps.setIfInBounds k v).size = _
    rw [Array.size_setIfInBounds]; exact h.size
  · rw [put_ne (fun e => hj (by rw [e]; exact hk))]; exact h.out j hj
theorem act_ext {A B : Act} (hs : A.tmps.size = B.tmps.size) (hd : A.defers = B.defers) (h : ∀ k : Nat, A.tmps[k]? = B.tmps[k]?) : A = B := by
  cases A; cases B
  simp only at hs hd h
  subst hd
  congr 1
  exact Array.ext_getElem? h
theorem chain_of {A : Act} : ∀ (SL : List Nat) (B : Act), A.tmps.size = B.tmps.size → A.defers = B.defers → (∀ k, k ∉ SL → A.tmps[k]? = B.tmps[k]?) → A = SL.foldl (fun a k => a.put (some k) (A.tmps.getD k undef)) B
  | [], B, hs, hd, h => act_ext hs hd (fun k => h k (by simp))
  | k :: t, B, hs, hd, h => by
    refine chain_of t (B.put (some k) (A.tmps.getD k undef)) ?_ hd (fun j hj => ?_)
    · show _ = (B.tmps.setIfInBounds k _).size
      rw [Array.size_setIfInBounds]; exact hs
    · by_cases e : j = k
      · subst e
        by_cases hb : j < B.tmps.size
        · rw [put_eq hb]
          have : j < A.tmps.size := by omega
          rw [Array.getElem?_eq_getElem this]
          simp [Array.getD_eq_getD_getElem?, this]
        · show _ = (B.tmps.setIfInBounds j _)[j]?
          rw [Array.getElem?_eq_none (by omega), Array.getElem?_eq_none (by rw [Array.size_setIfInBounds]; omega)]
      · rw [put_ne e]
        exact h j (by simp [e, hj])
theorem FR.chain {SL : List Nat} {A0 A : Act} (h : FR SL A0 A) : A = SL.foldl (fun a k => a.put (some k) (A.tmps.getD k undef)) A0 := chain_of SL A0 h.size h.defers h.out
theorem getD_of {A : Act} {k : Nat} {v : Value} (h : A.tmps[k]? = some v) : A.tmps.getD k undef = v := by
  rw [Array.getD_eq_getD_getElem?, h]; rfl
theorem wp_region_inv2 {P : Program} {ops : Array Oper} {Q : Exit → Act → World → Prop} {id : Nat} {a : Act} {w : World} (I : Act → Array Bool → Act → World → Prop) (hm : P.follows .mixedOrders = true) (hB : lowB .any ops = true)
    (hstart : I a (Array.replicate ops.size false) a w.drew)
    (hfin : ∀ l A w, I a l A w → (∀ i, i < ops.size → l.getD i true = true) → Q .normal A w)
    (hstep : ∀ l A w i, I a l A w → i ∈ Region.ready .any ops l → wpOp P ops Q i (I a (l.setIfInBounds i true)) A w) :
    (Code.region id ops true).wp P Q a w := wp_region_inv (I a) hm hB hstart hfin hstep
theorem Once.q {l : Array Bool} {i j k d : Nat} {A : Act} {u : Value} {v : Option Value} (h : Once l j (A.tmps[k]? = v)) (h1 : j ≠ i := by decide) (h2 : k ≠ d := by decide) : Once (l.setIfInBounds i true) j ((A.put (some d) u).tmps[k]? = v) := h.past h1 (fun e => (put_ne h2).trans e)
end Go.Proofs.YtflnodadeajmcaaGreat

namespace Go.Proofs.YtflnodadeajmcaaGreat
open Go.RowKit
set_option linter.unusedVariables false
theorem wfB {v : Int} (h : (Lit.int .i64 v).wf = true) : -9223372036854775808 ≤ v ∧ v ≤ 9223372036854775807 := bounds_i64 h
theorem okv2 (v : Int) : Pl.okv 2 v = Pl.wordOk v := by
  unfold Pl.okv Pl.wordOk Pl.within Pl.top
  rw [Bool.eq_iff_iff]; simp; omega
theorem isWord (v : Int) (w : World) (lo : -9223372036854775808 ≤ v) (hi : v ≤ 9223372036854775807) :
    Calls Tryz.prog 185 #[iv v] w fun e w' => e = .returned (.bool (Pl.wordOk v)) ∧ w' = w := by
  go_enter Tryz.func185, Tryz.ntmps185
  go_wp2_with (go_at_call 123; refine (signedOf _ _ _ lo hi).mono ?_; rintro e w' ⟨rfl, hw⟩; have hw2 := hw.symm; clear hw; subst hw2; rw [okv2])
  go_ret
  exact ⟨rfl, rfl⟩
theorem isReg (k : Int) (w : World) : Calls Tryz.prog 209 #[iv k] w fun e w' => e = .returned (.bool (Pl.within k 0 3)) ∧ w' = w := by
  by_cases h0 : 0 ≤ k
  · by_cases h1 : k ≤ 3
    · go_enter Tryz.func209, Tryz.ntmps209
      go_wp2
      go_ret
      exact ⟨rB (by simp [Pl.within, h0, h1]), rfl⟩
    · go_enter Tryz.func209, Tryz.ntmps209
      go_wp2
      go_ret
      exact ⟨rB (by simp [Pl.within, h0]; omega), rfl⟩
  · go_enter Tryz.func209, Tryz.ntmps209
    go_wp2
    go_ret
    exact ⟨rB (by simp [Pl.within]; omega), rfl⟩
end Go.Proofs.YtflnodadeajmcaaGreat

namespace Go.Proofs.YtflnodadeajmcaaGreat
open Go.RowKit
set_option linter.unusedVariables false
theorem wayOf0 (k e : Int) (w : World) : Calls Tryz.prog 197 #[.agg #[iv 0, iv k, iv e]] w fun r w' => r = .returned (.iface 235 (.agg #[iv k])) ∧ Kept 0 0 w w' := by
  go_enter Tryz.func197, Tryz.ntmps197
  go_wp2
  go_ret
  exact ⟨rfl, kept_alloc w _⟩
theorem wayOf1 (k e : Int) (w : World) : Calls Tryz.prog 197 #[.agg #[iv 1, iv k, iv e]] w fun r w' => r = .returned (.iface 236 (.agg #[iv k])) ∧ Kept 0 0 w w' := by
  go_enter Tryz.func197, Tryz.ntmps197
  go_wp2
  go_ret
  exact ⟨rfl, kept_alloc w _⟩
theorem wayOf2 (k e : Int) (w : World) : Calls Tryz.prog 197 #[.agg #[iv 2, iv k, iv e]] w fun r w' => r = .returned (.iface 237 (.agg #[iv k])) ∧ Kept 0 0 w w' := by
  go_enter Tryz.func197, Tryz.ntmps197
  go_wp2
  go_ret
  exact ⟨rfl, kept_alloc w _⟩
theorem wayOf3 (k e : Int) (w : World) : Calls Tryz.prog 197 #[.agg #[iv 3, iv k, iv e]] w fun r w' => r = .returned (.iface 238 (.agg #[iv k])) ∧ Kept 0 0 w w' := by
  go_enter Tryz.func197, Tryz.ntmps197
  go_wp2
  go_ret
  exact ⟨rfl, kept_alloc w _⟩
theorem wayOf4 (k e : Int) (w : World) : Calls Tryz.prog 197 #[.agg #[iv 4, iv k, iv e]] w fun r w' => r = .returned (.iface 239 (.agg #[iv k])) ∧ Kept 0 0 w w' := by
  go_enter Tryz.func197, Tryz.ntmps197
  go_wp2
  go_ret
  exact ⟨rfl, kept_alloc w _⟩
theorem wayOf5 (k e : Int) (w : World) : Calls Tryz.prog 197 #[.agg #[iv 5, iv k, iv e]] w fun r w' => r = .returned (.iface 241 (.agg #[iv k, iv e])) ∧ Kept 0 0 w w' := by
  go_enter Tryz.func197, Tryz.ntmps197
  go_wp2
  go_ret
  exact ⟨rfl, kept_alloc w _⟩
theorem wayOf6 (k e : Int) (w : World) : Calls Tryz.prog 197 #[.agg #[iv 6, iv k, iv e]] w fun r w' => r = .returned (.iface 243 (.agg #[iv e])) ∧ Kept 0 0 w w' := by
  go_enter Tryz.func197, Tryz.ntmps197
  go_wp2
  go_ret
  exact ⟨rfl, kept_alloc w _⟩
theorem wayOf7 (k e : Int) (w : World) : Calls Tryz.prog 197 #[.agg #[iv 7, iv k, iv e]] w fun r w' => r = .returned (.iface 244 (.agg #[iv e])) ∧ Kept 0 0 w w' := by
  go_enter Tryz.func197, Tryz.ntmps197
  go_wp2
  go_ret
  exact ⟨rfl, kept_alloc w _⟩
theorem wayOfNo (m k e : Int) (w : World) (h : Pl.modeOk m = false) : Calls Tryz.prog 197 #[.agg #[iv m, iv k, iv e]] w fun r w' => r = .returned .nilIface ∧ Kept 0 0 w w' := by
  obtain ⟨n0, n1, n2, n3, n4, n5, n6, n7⟩ : ¬ m = 0 ∧ ¬ m = 1 ∧ ¬ m = 2 ∧ ¬ m = 3 ∧ ¬ m = 4 ∧ ¬ m = 5 ∧ ¬ m = 6 ∧ ¬ m = 7 := by
    simp [Pl.modeOk, Pl.within] at h
    omega
  go_enter Tryz.func197, Tryz.ntmps197
  go_wp2
  go_ret
  exact ⟨rfl, kept_alloc w _⟩
theorem operand0 (k e : Int) (w : World) : Calls Tryz.prog 237 #[.agg #[iv k]] w fun r w' => r = .returned (.agg #[iv 0, iv k, iv 0]) ∧ Kept 0 0 w w' := by
  go_enter Tryz.func237, Tryz.ntmps237
  go_wp2
  refine bodyPost_ret (v := .agg #[iv 0, iv k, iv 0]) ?_ rfl ⟨rfl, kept_new (kept_alloc w _) _⟩
  rw [results_one rfl]; go_simp
theorem operand1 (k e : Int) (w : World) : Calls Tryz.prog 238 #[.agg #[iv k]] w fun r w' => r = .returned (.agg #[iv 1, iv k, iv 0]) ∧ Kept 0 0 w w' := by
  go_enter Tryz.func238, Tryz.ntmps238
  go_wp2
  refine bodyPost_ret (v := .agg #[iv 1, iv k, iv 0]) ?_ rfl ⟨rfl, kept_new (kept_alloc w _) _⟩
  rw [results_one rfl]; go_simp
theorem operand2 (k e : Int) (w : World) : Calls Tryz.prog 239 #[.agg #[iv k]] w fun r w' => r = .returned (.agg #[iv 2, iv k, iv 0]) ∧ Kept 0 0 w w' := by
  go_enter Tryz.func239, Tryz.ntmps239
  go_wp2
  refine bodyPost_ret (v := .agg #[iv 2, iv k, iv 0]) ?_ rfl ⟨rfl, kept_new (kept_alloc w _) _⟩
  rw [results_one rfl]; go_simp
theorem operand3 (k e : Int) (w : World) : Calls Tryz.prog 240 #[.agg #[iv k]] w fun r w' => r = .returned (.agg #[iv 3, iv k, iv 0]) ∧ Kept 0 0 w w' := by
  go_enter Tryz.func240, Tryz.ntmps240
  go_wp2
  refine bodyPost_ret (v := .agg #[iv 3, iv k, iv 0]) ?_ rfl ⟨rfl, kept_new (kept_alloc w _) _⟩
  rw [results_one rfl]; go_simp
theorem operand4 (k e : Int) (w : World) : Calls Tryz.prog 241 #[.agg #[iv k]] w fun r w' => r = .returned (.agg #[iv 4, iv k, iv 0]) ∧ Kept 0 0 w w' := by
  go_enter Tryz.func241, Tryz.ntmps241
  go_wp2
  refine bodyPost_ret (v := .agg #[iv 4, iv k, iv 0]) ?_ rfl ⟨rfl, kept_new (kept_alloc w _) _⟩
  rw [results_one rfl]; go_simp
theorem operand5 (k e : Int) (w : World) : Calls Tryz.prog 242 #[.agg #[iv k, iv e]] w fun r w' => r = .returned (.agg #[iv 5, iv k, iv e]) ∧ Kept 0 0 w w' := by
  go_enter Tryz.func242, Tryz.ntmps242
  go_wp2
  refine bodyPost_ret (v := .agg #[iv 5, iv k, iv e]) ?_ rfl ⟨rfl, kept_new (kept_alloc w _) _⟩
  rw [results_one rfl]; go_simp
theorem operand6 (k e : Int) (w : World) : Calls Tryz.prog 243 #[.agg #[iv e]] w fun r w' => r = .returned (.agg #[iv 6, iv 0, iv e]) ∧ Kept 0 0 w w' := by
  go_enter Tryz.func243, Tryz.ntmps243
  go_wp2
  refine bodyPost_ret (v := .agg #[iv 6, iv 0, iv e]) ?_ rfl ⟨rfl, kept_new (kept_alloc w _) _⟩
  rw [results_one rfl]; go_simp
theorem operand7 (k e : Int) (w : World) : Calls Tryz.prog 244 #[.agg #[iv e]] w fun r w' => r = .returned (.agg #[iv 7, iv 0, iv e]) ∧ Kept 0 0 w w' := by
  go_enter Tryz.func244, Tryz.ntmps244
  go_wp2
  refine bodyPost_ret (v := .agg #[iv 7, iv 0, iv e]) ?_ rfl ⟨rfl, kept_new (kept_alloc w _) _⟩
  rw [results_one rfl]; go_simp
theorem fn0 (a : Array Value) (w : World) : (callFunc 237 a).run Tryz.prog w = .ok (.enter 237 a) w := by kernel_rfl
theorem meth0 (v : Value) (w : World) : (method 362 235 v "loop.example/g00389/impl.operand").run Tryz.prog w = .ok (237, v) w := by kernel_rfl
theorem fn1 (a : Array Value) (w : World) : (callFunc 238 a).run Tryz.prog w = .ok (.enter 238 a) w := by kernel_rfl
theorem meth1 (v : Value) (w : World) : (method 362 236 v "loop.example/g00389/impl.operand").run Tryz.prog w = .ok (238, v) w := by kernel_rfl
theorem fn2 (a : Array Value) (w : World) : (callFunc 239 a).run Tryz.prog w = .ok (.enter 239 a) w := by kernel_rfl
theorem meth2 (v : Value) (w : World) : (method 362 237 v "loop.example/g00389/impl.operand").run Tryz.prog w = .ok (239, v) w := by kernel_rfl
theorem fn3 (a : Array Value) (w : World) : (callFunc 240 a).run Tryz.prog w = .ok (.enter 240 a) w := by kernel_rfl
theorem meth3 (v : Value) (w : World) : (method 362 238 v "loop.example/g00389/impl.operand").run Tryz.prog w = .ok (240, v) w := by kernel_rfl
theorem fn4 (a : Array Value) (w : World) : (callFunc 241 a).run Tryz.prog w = .ok (.enter 241 a) w := by kernel_rfl
theorem meth4 (v : Value) (w : World) : (method 362 239 v "loop.example/g00389/impl.operand").run Tryz.prog w = .ok (241, v) w := by kernel_rfl
theorem fn5 (a : Array Value) (w : World) : (callFunc 242 a).run Tryz.prog w = .ok (.enter 242 a) w := by kernel_rfl
theorem meth5 (v : Value) (w : World) : (method 362 241 v "loop.example/g00389/impl.operand").run Tryz.prog w = .ok (242, v) w := by kernel_rfl
theorem fn6 (a : Array Value) (w : World) : (callFunc 243 a).run Tryz.prog w = .ok (.enter 243 a) w := by kernel_rfl
theorem meth6 (v : Value) (w : World) : (method 362 243 v "loop.example/g00389/impl.operand").run Tryz.prog w = .ok (243, v) w := by kernel_rfl
theorem fn7 (a : Array Value) (w : World) : (callFunc 244 a).run Tryz.prog w = .ok (.enter 244 a) w := by kernel_rfl
theorem meth7 (v : Value) (w : World) : (method 362 244 v "loop.example/g00389/impl.operand").run Tryz.prog w = .ok (244, v) w := by kernel_rfl
end Go.Proofs.YtflnodadeajmcaaGreat

namespace Go.Proofs.YtflnodadeajmcaaGreat
open Go.RowKit
set_option linter.unusedVariables false
theorem bfe (b : Bool) : b = false ∨ b = true := by cases b <;> simp
theorem wpOp_on {P : Program} {ops : Array Oper} {Q : Exit → Act → World → Prop} {i : Nat} {o : Oper} {K : Act → World → Prop} {a : Act} {w : World} (ho : ops[i]? = some o) {j s : Nat} {b : Bool} (hg : o.guard = some (j, b)) (hd : (ops[j]?).bind (·.dst) = some s) (hv : a.tmps[s]? = some (.bool b))
    (h : ∀ K' : Act → World → Prop, (∀ a w, K a w → K' a w) → Oper.wp P o a w K' Q) : wpOp P ops Q i K a w := by
  refine wpOp_step ho (fun K' hK => ?_)
  rw [if_pos]
  · exact h K' hK
  · unfold Region.wanted yielded
    rw [hg]
    simp only [hd, Option.bind_some, hv]
    simp
theorem wpOp_off {P : Program} {ops : Array Oper} {Q : Exit → Act → World → Prop} {i : Nat} {o : Oper} {K : Act → World → Prop} {a : Act} {w : World} (ho : ops[i]? = some o) {j s : Nat} {b c : Bool} (hg : o.guard = some (j, b)) (hd : (ops[j]?).bind (·.dst) = some s) (hv : a.tmps[s]? = some (.bool c)) (hn : c ≠ b)
    (h : K (a.put o.dst undef) w) : wpOp P ops Q i K a w := by
  refine wpOp_step ho (fun K' hK => ?_)
  rw [if_neg]
  · exact hK _ _ h
  · unfold Region.wanted yielded
    rw [hg]
    simp only [hd, Option.bind_some, hv]
    simpa using hn
set_option maxRecDepth 20000 in
set_option maxHeartbeats 16000000 in
theorem goodOp (m k e : Int) (w : World) (T N : Nat) (v : Value) (R : Array Value) (E : Bool) (lo : -9223372036854775808 ≤ e) (hi : e ≤ 9223372036854775807)
    (hw : ∀ w : World, Calls Tryz.prog 197 #[.agg #[iv m, iv k, iv e]] w fun r w' => r = .returned (.iface T v) ∧ Kept 0 0 w w')
    (hme : ∀ w : World, (method 362 T v "loop.example/g00389/impl.operand").run Tryz.prog w = .ok (N, v) w)
    (hc : ∀ w : World, Calls Tryz.prog N #[v] w fun r w' => r = .returned (.agg R) ∧ Kept 0 0 w w')
    (hfn : ∀ (a : Array Value) (w : World), (callFunc N a).run Tryz.prog w = .ok (.enter N a) w)
    (he : ∀ w : World, (binOp .eql 122 (.agg R) (.agg #[iv m, iv k, iv e])).run Tryz.prog w = .ok (.bool E) w) :
    Calls Tryz.prog 193 #[.agg #[iv m, iv k, iv e]] w fun r w' => r = .returned (.bool (E && (Pl.within k 0 3 && Pl.wordOk e))) ∧ Kept 0 0 w w' := by
  have B0 := hide (Blk.new w #[iv m, iv k, iv e] 122)
  have K0 := hide (kept_alloc w (.cells #[iv m, iv k, iv e] 122))
  obtain ⟨B, hBB⟩ : ∃ B, Pl.within k 0 3 = B := ⟨_, rfl⟩
  obtain ⟨C, hCC⟩ : ∃ C, Pl.wordOk e = C := ⟨_, rfl⟩
  go_enter Tryz.func193, Tryz.ntmps193
  go_wp2_with fail
  refine (hw _).mono ?_
  rintro r w1 ⟨rfl, k1⟩
  have B1 := hide (B0.out.kept0 k1)
  have K1 := hide (K0.out.trans k1)
  clear k1 hw
  go_wp2_with fail
  refine wp_region_inv2 (fun A0 l A W => FR [6, 7, 8, 9, 10, 11, 12, 13, 14, 15, 16, 17, 18, 19, 20, 21, 22, 23, 2] A0 A ∧ Once l 0 (A.tmps[6]? = some (.iface T v)) ∧ Once l 1 (A.tmps[7]? = some (.bool true)) ∧ Once l 2 (A.tmps[8]? = some (.bool true)) ∧ Once l 3 (A.tmps[9]? = some (.iface T v)) ∧ Once l 4 (A.tmps[10]? = some (.agg R)) ∧ Once l 5 (A.tmps[11]? = some (.agg #[iv m, iv k, iv e])) ∧ Once l 6 (A.tmps[12]? = some (.bool E)) ∧ Once l 7 (A.tmps[13]? = some (.bool E)) ∧ Once l 8 (A.tmps[14]? = some (.bool E)) ∧ Once l 9 (A.tmps[15]? = some (bif E then .pointer (some ⟨w.heap.size, 1, none⟩) else undef)) ∧ Once l 10 (A.tmps[16]? = some (bif E then iv k else undef)) ∧ Once l 11 (A.tmps[17]? = some (bif E then .bool B else undef)) ∧ Once l 12 (A.tmps[18]? = some (.bool (E && B))) ∧ Once l 13 (A.tmps[19]? = some (.bool (E && B))) ∧ Once l 14 (A.tmps[20]? = some (bif (E && B) then .pointer (some ⟨w.heap.size, 2, none⟩) else undef)) ∧ Once l 15 (A.tmps[21]? = some (bif (E && B) then iv e else undef)) ∧ Once l 16 (A.tmps[22]? = some (bif (E && B) then .bool C else undef)) ∧ Once l 17 (A.tmps[23]? = some (.bool ((E && B) && C))) ∧ Once l 18 (A.tmps[2]? = some (.bool ((E && B) && C))) ∧ Kept 0 0 w1 W) (by kernel_rfl) (by kernel_rfl) ?start ?fin ?step
  case start => exact ⟨FR.refl _ _, once_start (by decide), once_start (by decide), once_start (by decide), once_start (by decide), once_start (by decide), once_start (by decide), once_start (by decide), once_start (by decide), once_start (by decide), once_start (by decide), once_start (by decide), once_start (by decide), once_start (by decide), once_start (by decide), once_start (by decide), once_start (by decide), once_start (by decide), once_start (by decide), once_start (by decide), kept_drew (Kept.refl _ _ _)⟩
  case fin =>
    intro l A W h hl
    obtain ⟨hFR, o0, o1, o2, o3, o4, o5, o6, o7, o8, o9, o10, o11, o12, o13, o14, o15, o16, o17, o18, hK⟩ := h
    have g := o18 (hl 18 (by decide))
    have QQ := hide (K1.out.trans hK)
    have hc9 := hFR.chain
    simp only [List.foldl] at hc9
    rw [getD_of g] at hc9
    clear hl hK hFR g o0 o1 o2 o3 o4 o5 o6 o7 o8 o9 o10 o11 o12 o13 o14 o15 o16 o17 o18
    generalize A.tmps.getD 6 undef = s6 at hc9
    generalize A.tmps.getD 7 undef = s7 at hc9
    generalize A.tmps.getD 8 undef = s8 at hc9
    generalize A.tmps.getD 9 undef = s9 at hc9
    generalize A.tmps.getD 10 undef = s10 at hc9
    generalize A.tmps.getD 11 undef = s11 at hc9
    generalize A.tmps.getD 12 undef = s12 at hc9
    generalize A.tmps.getD 13 undef = s13 at hc9
    generalize A.tmps.getD 14 undef = s14 at hc9
    generalize A.tmps.getD 15 undef = s15 at hc9
    generalize A.tmps.getD 16 undef = s16 at hc9
    generalize A.tmps.getD 17 undef = s17 at hc9
    generalize A.tmps.getD 18 undef = s18 at hc9
    generalize A.tmps.getD 19 undef = s19 at hc9
    generalize A.tmps.getD 20 undef = s20 at hc9
    generalize A.tmps.getD 21 undef = s21 at hc9
    generalize A.tmps.getD 22 undef = s22 at hc9
    generalize A.tmps.getD 23 undef = s23 at hc9
    subst hc9
    go_simp
    go_wp2_with fail
    go_ret
    exact ⟨rB (by rw [← hBB, ← hCC, Bool.and_assoc]), QQ.out⟩
  case step =>
    intro l A W i hI hm
    obtain ⟨hFR, o0, o1, o2, o3, o4, o5, o6, o7, o8, o9, o10, o11, o12, o13, o14, o15, o16, o17, o18, hK⟩ := hI
    obtain ⟨hi1, hi2⟩ := ready_new hm
    have hsz : Hid (23 < A.tmps.size) := hide (by rw [hFR.size]; simp)
    have m1 : A.tmps[1]? = some (.pointer (some ⟨w.heap.size, 0, none⟩)) := (hFR.out 1 (by decide)).trans rfl
    have m3 : A.tmps[3]? = some (.iface T v) := (hFR.out 3 (by decide)).trans rfl
    rcases i with _ | _ | _ | _ | _ | _ | _ | _ | _ | _ | _ | _ | _ | _ | _ | _ | _ | _ | _ | i
    · refine wpOp_step rfl (fun KK hK2 => ?_)
      go_simp
      exact hK2 (A.put (some 6) (.iface T v)) _ ⟨hFR.put (by decide) _, .now (put_eq (by have hz := hsz.out; omega)), o1.q, o2.q, o3.q, o4.q, o5.q, o6.q, o7.q, o8.q, o9.q, o10.q, o11.q, o12.q, o13.q, o14.q, o15.q, o16.q, o17.q, o18.q, hK⟩
    · have e1 := o0 (ready_dep hm 0 (by kernel_rfl))
      refine wpOp_step rfl (fun KK hK2 => ?_)
      go_simp
      exact hK2 (A.put (some 7) (.bool true)) _ ⟨hFR.put (by decide) _, o0.q, .now (put_eq (by have hz := hsz.out; omega)), o2.q, o3.q, o4.q, o5.q, o6.q, o7.q, o8.q, o9.q, o10.q, o11.q, o12.q, o13.q, o14.q, o15.q, o16.q, o17.q, o18.q, hK⟩
    · have e1 := o1 (ready_dep hm 1 (by kernel_rfl))
      refine wpOp_step rfl (fun KK hK2 => ?_)
      go_simp
      exact hK2 (A.put (some 8) (.bool true)) _ ⟨hFR.put (by decide) _, o0.q, o1.q, .now (put_eq (by have hz := hsz.out; omega)), o3.q, o4.q, o5.q, o6.q, o7.q, o8.q, o9.q, o10.q, o11.q, o12.q, o13.q, o14.q, o15.q, o16.q, o17.q, o18.q, hK⟩
    · have g := o2 (ready_dep hm 2 (by kernel_rfl))
      refine wpOp_on (b := true) rfl rfl rfl g (fun KK hK2 => ?_)
      go_simp
      exact hK2 (A.put (some 9) (.iface T v)) _ ⟨hFR.put (by decide) _, o0.q, o1.q, o2.q, .now (put_eq (by have hz := hsz.out; omega)), o4.q, o5.q, o6.q, o7.q, o8.q, o9.q, o10.q, o11.q, o12.q, o13.q, o14.q, o15.q, o16.q, o17.q, o18.q, hK⟩
    · have g := o2 (ready_dep hm 2 (by kernel_rfl))
      have e1 := o3 (ready_dep hm 3 (by kernel_rfl))
      refine wpOp_on (b := true) rfl rfl rfl g (fun KK hK2 => ?_)
      go_simp
      refine (hc W).mono ?_
      rintro r y ⟨rfl, kd⟩
      go_simp
      exact hK2 (A.put (some 10) (.agg R)) _ ⟨hFR.put (by decide) _, o0.q, o1.q, o2.q, o3.q, .now (put_eq (by have hz := hsz.out; omega)), o5.q, o6.q, o7.q, o8.q, o9.q, o10.q, o11.q, o12.q, o13.q, o14.q, o15.q, o16.q, o17.q, o18.q, (hK.trans kd)⟩
    · have g := o2 (ready_dep hm 2 (by kernel_rfl))
      have BL := B1.out.kept0 hK
      have x0 := BL.all
      clear BL
      refine wpOp_on (b := true) rfl rfl rfl g (fun KK hK2 => ?_)
      go_simp
      exact hK2 (A.put (some 11) (.agg #[iv m, iv k, iv e])) _ ⟨hFR.put (by decide) _, o0.q, o1.q, o2.q, o3.q, o4.q, .now (put_eq (by have hz := hsz.out; omega)), o6.q, o7.q, o8.q, o9.q, o10.q, o11.q, o12.q, o13.q, o14.q, o15.q, o16.q, o17.q, o18.q, hK⟩
    · have g := o2 (ready_dep hm 2 (by kernel_rfl))
      have e1 := o4 (ready_dep hm 4 (by kernel_rfl))
      have e2 := o5 (ready_dep hm 5 (by kernel_rfl))
      refine wpOp_on (b := true) rfl rfl rfl g (fun KK hK2 => ?_)
      go_simp
      exact hK2 (A.put (some 12) (.bool E)) _ ⟨hFR.put (by decide) _, o0.q, o1.q, o2.q, o3.q, o4.q, o5.q, .now (put_eq (by have hz := hsz.out; omega)), o7.q, o8.q, o9.q, o10.q, o11.q, o12.q, o13.q, o14.q, o15.q, o16.q, o17.q, o18.q, hK⟩
    · have e1 := o2 (ready_dep hm 2 (by kernel_rfl))
      have e2 := o6 (ready_dep hm 6 (by kernel_rfl))
      refine wpOp_step rfl (fun KK hK2 => ?_)
      go_simp
      exact hK2 (A.put (some 13) (.bool E)) _ ⟨hFR.put (by decide) _, o0.q, o1.q, o2.q, o3.q, o4.q, o5.q, o6.q, .now (put_eq (by have hz := hsz.out; omega)), o8.q, o9.q, o10.q, o11.q, o12.q, o13.q, o14.q, o15.q, o16.q, o17.q, o18.q, hK⟩
    · have e1 := o7 (ready_dep hm 7 (by kernel_rfl))
      refine wpOp_step rfl (fun KK hK2 => ?_)
      go_simp
      exact hK2 (A.put (some 14) (.bool E)) _ ⟨hFR.put (by decide) _, o0.q, o1.q, o2.q, o3.q, o4.q, o5.q, o6.q, o7.q, .now (put_eq (by have hz := hsz.out; omega)), o9.q, o10.q, o11.q, o12.q, o13.q, o14.q, o15.q, o16.q, o17.q, o18.q, hK⟩
    · have g := o8 (ready_dep hm 8 (by kernel_rfl))
      rcases bfe E with hE | hE
      · rw [hE] at g
        refine wpOp_off (b := true) (c := false) rfl rfl rfl g (by decide) ?_
        exact ⟨hFR.put (by decide) _, o0.q, o1.q, o2.q, o3.q, o4.q, o5.q, o6.q, o7.q, o8.q, .now (by rw [hE]; exact put_eq (by have hz := hsz.out; omega)), o10.q, o11.q, o12.q, o13.q, o14.q, o15.q, o16.q, o17.q, o18.q, hK⟩
      · rw [hE] at g
        refine wpOp_on (b := true) rfl rfl rfl g (fun KK hK2 => ?_)
        go_simp
        exact hK2 (A.put (some 15) (.pointer (some ⟨w.heap.size, 1, none⟩))) _ ⟨hFR.put (by decide) _, o0.q, o1.q, o2.q, o3.q, o4.q, o5.q, o6.q, o7.q, o8.q, .now (by rw [hE]; exact put_eq (by have hz := hsz.out; omega)), o10.q, o11.q, o12.q, o13.q, o14.q, o15.q, o16.q, o17.q, o18.q, hK⟩
    · have g := o8 (ready_dep hm 8 (by kernel_rfl))
      have e1 := o9 (ready_dep hm 9 (by kernel_rfl))
      rcases bfe E with hE | hE
      · rw [hE] at g
        refine wpOp_off (b := true) (c := false) rfl rfl rfl g (by decide) ?_
        exact ⟨hFR.put (by decide) _, o0.q, o1.q, o2.q, o3.q, o4.q, o5.q, o6.q, o7.q, o8.q, o9.q, .now (by rw [hE]; exact put_eq (by have hz := hsz.out; omega)), o11.q, o12.q, o13.q, o14.q, o15.q, o16.q, o17.q, o18.q, hK⟩
      · rw [hE] at g e1
        simp only [cond_true] at e1
        have BL := B1.out.kept0 hK
        have x0 := BL.all
        clear BL
        refine wpOp_on (b := true) rfl rfl rfl g (fun KK hK2 => ?_)
        go_simp
        exact hK2 (A.put (some 16) (iv k)) _ ⟨hFR.put (by decide) _, o0.q, o1.q, o2.q, o3.q, o4.q, o5.q, o6.q, o7.q, o8.q, o9.q, .now (by rw [hE]; exact put_eq (by have hz := hsz.out; omega)), o11.q, o12.q, o13.q, o14.q, o15.q, o16.q, o17.q, o18.q, hK⟩
    · have g := o8 (ready_dep hm 8 (by kernel_rfl))
      have e1 := o10 (ready_dep hm 10 (by kernel_rfl))
      rcases bfe E with hE | hE
      · rw [hE] at g
        refine wpOp_off (b := true) (c := false) rfl rfl rfl g (by decide) ?_
        exact ⟨hFR.put (by decide) _, o0.q, o1.q, o2.q, o3.q, o4.q, o5.q, o6.q, o7.q, o8.q, o9.q, o10.q, .now (by rw [hE]; exact put_eq (by have hz := hsz.out; omega)), o12.q, o13.q, o14.q, o15.q, o16.q, o17.q, o18.q, hK⟩
      · rw [hE] at g e1
        simp only [cond_true] at e1
        refine wpOp_on (b := true) rfl rfl rfl g (fun KK hK2 => ?_)
        go_simp
        refine st (isReg k _) ?_
        rw [hBB]
        go_simp
        exact hK2 (A.put (some 17) (.bool B)) _ ⟨hFR.put (by decide) _, o0.q, o1.q, o2.q, o3.q, o4.q, o5.q, o6.q, o7.q, o8.q, o9.q, o10.q, .now (by rw [hE]; exact put_eq (by have hz := hsz.out; omega)), o12.q, o13.q, o14.q, o15.q, o16.q, o17.q, o18.q, hK⟩
    · have e1 := o8 (ready_dep hm 8 (by kernel_rfl))
      have e2 := o11 (ready_dep hm 11 (by kernel_rfl))
      rcases bfe E with hE | hE
      · rw [hE] at e1 e2
        simp only [cond_false] at e2
        refine wpOp_step rfl (fun KK hK2 => ?_)
        go_simp
        exact hK2 (A.put (some 18) (.bool false)) _ ⟨hFR.put (by decide) _, o0.q, o1.q, o2.q, o3.q, o4.q, o5.q, o6.q, o7.q, o8.q, o9.q, o10.q, o11.q, .now (by rw [hE]; exact put_eq (by have hz := hsz.out; omega)), o13.q, o14.q, o15.q, o16.q, o17.q, o18.q, hK⟩
      · rw [hE] at e1 e2
        simp only [cond_true] at e2
        refine wpOp_step rfl (fun KK hK2 => ?_)
        go_simp
        exact hK2 (A.put (some 18) (.bool B)) _ ⟨hFR.put (by decide) _, o0.q, o1.q, o2.q, o3.q, o4.q, o5.q, o6.q, o7.q, o8.q, o9.q, o10.q, o11.q, .now (by rw [hE]; exact put_eq (by have hz := hsz.out; omega)), o13.q, o14.q, o15.q, o16.q, o17.q, o18.q, hK⟩
    · have e1 := o12 (ready_dep hm 12 (by kernel_rfl))
      refine wpOp_step rfl (fun KK hK2 => ?_)
      go_simp
      exact hK2 (A.put (some 19) (.bool (E && B))) _ ⟨hFR.put (by decide) _, o0.q, o1.q, o2.q, o3.q, o4.q, o5.q, o6.q, o7.q, o8.q, o9.q, o10.q, o11.q, o12.q, .now (put_eq (by have hz := hsz.out; omega)), o14.q, o15.q, o16.q, o17.q, o18.q, hK⟩
    · have g := o13 (ready_dep hm 13 (by kernel_rfl))
      rcases bfe (E && B) with hE | hE
      · rw [hE] at g
        refine wpOp_off (b := true) (c := false) rfl rfl rfl g (by decide) ?_
        exact ⟨hFR.put (by decide) _, o0.q, o1.q, o2.q, o3.q, o4.q, o5.q, o6.q, o7.q, o8.q, o9.q, o10.q, o11.q, o12.q, o13.q, .now (by rw [hE]; exact put_eq (by have hz := hsz.out; omega)), o15.q, o16.q, o17.q, o18.q, hK⟩
      · rw [hE] at g
        refine wpOp_on (b := true) rfl rfl rfl g (fun KK hK2 => ?_)
        go_simp
        exact hK2 (A.put (some 20) (.pointer (some ⟨w.heap.size, 2, none⟩))) _ ⟨hFR.put (by decide) _, o0.q, o1.q, o2.q, o3.q, o4.q, o5.q, o6.q, o7.q, o8.q, o9.q, o10.q, o11.q, o12.q, o13.q, .now (by rw [hE]; exact put_eq (by have hz := hsz.out; omega)), o15.q, o16.q, o17.q, o18.q, hK⟩
    · have g := o13 (ready_dep hm 13 (by kernel_rfl))
      have e1 := o14 (ready_dep hm 14 (by kernel_rfl))
      rcases bfe (E && B) with hE | hE
      · rw [hE] at g
        refine wpOp_off (b := true) (c := false) rfl rfl rfl g (by decide) ?_
        exact ⟨hFR.put (by decide) _, o0.q, o1.q, o2.q, o3.q, o4.q, o5.q, o6.q, o7.q, o8.q, o9.q, o10.q, o11.q, o12.q, o13.q, o14.q, .now (by rw [hE]; exact put_eq (by have hz := hsz.out; omega)), o16.q, o17.q, o18.q, hK⟩
      · rw [hE] at g e1
        simp only [cond_true] at e1
        have BL := B1.out.kept0 hK
        have x0 := BL.all
        clear BL
        refine wpOp_on (b := true) rfl rfl rfl g (fun KK hK2 => ?_)
        go_simp
        exact hK2 (A.put (some 21) (iv e)) _ ⟨hFR.put (by decide) _, o0.q, o1.q, o2.q, o3.q, o4.q, o5.q, o6.q, o7.q, o8.q, o9.q, o10.q, o11.q, o12.q, o13.q, o14.q, .now (by rw [hE]; exact put_eq (by have hz := hsz.out; omega)), o16.q, o17.q, o18.q, hK⟩
    · have g := o13 (ready_dep hm 13 (by kernel_rfl))
      have e1 := o15 (ready_dep hm 15 (by kernel_rfl))
      rcases bfe (E && B) with hE | hE
      · rw [hE] at g
        refine wpOp_off (b := true) (c := false) rfl rfl rfl g (by decide) ?_
        exact ⟨hFR.put (by decide) _, o0.q, o1.q, o2.q, o3.q, o4.q, o5.q, o6.q, o7.q, o8.q, o9.q, o10.q, o11.q, o12.q, o13.q, o14.q, o15.q, .now (by rw [hE]; exact put_eq (by have hz := hsz.out; omega)), o17.q, o18.q, hK⟩
      · rw [hE] at g e1
        simp only [cond_true] at e1
        refine wpOp_on (b := true) rfl rfl rfl g (fun KK hK2 => ?_)
        go_simp
        refine st (isWord e _ lo hi) ?_
        rw [hCC]
        go_simp
        exact hK2 (A.put (some 22) (.bool C)) _ ⟨hFR.put (by decide) _, o0.q, o1.q, o2.q, o3.q, o4.q, o5.q, o6.q, o7.q, o8.q, o9.q, o10.q, o11.q, o12.q, o13.q, o14.q, o15.q, .now (by rw [hE]; exact put_eq (by have hz := hsz.out; omega)), o17.q, o18.q, hK⟩
    · have e1 := o13 (ready_dep hm 13 (by kernel_rfl))
      have e2 := o16 (ready_dep hm 16 (by kernel_rfl))
      rcases bfe (E && B) with hE | hE
      · rw [hE] at e1 e2
        simp only [cond_false] at e2
        refine wpOp_step rfl (fun KK hK2 => ?_)
        go_simp
        exact hK2 (A.put (some 23) (.bool false)) _ ⟨hFR.put (by decide) _, o0.q, o1.q, o2.q, o3.q, o4.q, o5.q, o6.q, o7.q, o8.q, o9.q, o10.q, o11.q, o12.q, o13.q, o14.q, o15.q, o16.q, .now (by rw [hE]; exact put_eq (by have hz := hsz.out; omega)), o18.q, hK⟩
      · rw [hE] at e1 e2
        simp only [cond_true] at e2
        refine wpOp_step rfl (fun KK hK2 => ?_)
        go_simp
        exact hK2 (A.put (some 23) (.bool C)) _ ⟨hFR.put (by decide) _, o0.q, o1.q, o2.q, o3.q, o4.q, o5.q, o6.q, o7.q, o8.q, o9.q, o10.q, o11.q, o12.q, o13.q, o14.q, o15.q, o16.q, .now (by rw [hE]; exact put_eq (by have hz := hsz.out; omega)), o18.q, hK⟩
    · have e1 := o17 (ready_dep hm 17 (by kernel_rfl))
      refine wpOp_step rfl (fun KK hK2 => ?_)
      go_simp
      exact hK2 (A.put (some 2) (.bool ((E && B) && C))) _ ⟨hFR.put (by decide) _, o0.q, o1.q, o2.q, o3.q, o4.q, o5.q, o6.q, o7.q, o8.q, o9.q, o10.q, o11.q, o12.q, o13.q, o14.q, o15.q, o16.q, o17.q, .now (put_eq (by have hz := hsz.out; omega)), hK⟩
    · simp at hi1
      omega
end Go.Proofs.YtflnodadeajmcaaGreat

namespace Go.Proofs.YtflnodadeajmcaaGreat
open Go.RowKit
set_option linter.unusedVariables false
set_option maxRecDepth 20000 in
set_option maxHeartbeats 4000000 in
theorem specSets151 (w : World) (z r m k e : Int) : Calls Tryz.prog 141 #[.agg (inA 15 z r m k e 1)] w fun e' w' => e' = .returned (iv (Pl.sets ⟨15, z, r, m, k, e, 1⟩)) ∧ Kept 0 0 w w' := by
  have K0 := hide (kept_alloc w (.cells (inA 15 z r m k e 1) 124))
  have B0 := hide (Blk.new w (inA 15 z r m k e 1) 124)
  go_enter Tryz.func141, Tryz.ntmps141
  go_wp2_with fail
  refine wp_region_inv2 (fun A0 l A W => FR [40, 41, 42, 43, 44, 45, 46, 47, 48, 49, 50, 51, 52, 53, 2] A0 A ∧ Once l 0 (A.tmps[40]? = some (.pointer (some ⟨w.heap.size, 6, none⟩))) ∧ Once l 1 (A.tmps[41]? = some (iv 1)) ∧ Once l 2 (A.tmps[42]? = some (.bool true)) ∧ Once l 3 (A.tmps[43]? = some (.bool true)) ∧ Once l 4 (A.tmps[44]? = some (undef)) ∧ Once l 5 (A.tmps[45]? = some (undef)) ∧ Once l 6 (A.tmps[46]? = some (undef)) ∧ Once l 7 (A.tmps[47]? = some (.bool true)) ∧ Once l 8 (A.tmps[48]? = some (iv (Pl.fl true 31))) ∧ Once l 9 (A.tmps[49]? = some (.pointer (some ⟨w.heap.size, 6, none⟩))) ∧ Once l 10 (A.tmps[50]? = some (iv 1)) ∧ Once l 11 (A.tmps[51]? = some (.bool false)) ∧ Once l 12 (A.tmps[52]? = some (iv (Pl.fl false 15))) ∧ Once l 13 (A.tmps[53]? = some (iv (bits .or .i64 (Pl.fl true 31) (Pl.fl false 15)))) ∧ Once l 14 (A.tmps[2]? = some (iv (bits .or .i64 (Pl.fl true 31) (Pl.fl false 15)))) ∧ Kept 0 0 (w.alloc (.cells (inA 15 z r m k e 1) 124)) W) (by kernel_rfl) (by kernel_rfl) ?start ?fin ?step
  case start => exact ⟨FR.refl _ _, once_start (by decide), once_start (by decide), once_start (by decide), once_start (by decide), once_start (by decide), once_start (by decide), once_start (by decide), once_start (by decide), once_start (by decide), once_start (by decide), once_start (by decide), once_start (by decide), once_start (by decide), once_start (by decide), once_start (by decide), kept_drew (Kept.refl _ _ _)⟩
  case fin =>
    intro l A W h hl
    obtain ⟨hFR, o0, o1, o2, o3, o4, o5, o6, o7, o8, o9, o10, o11, o12, o13, o14, hK⟩ := h
    have g14 := o14 (hl 14 (by decide))
    have QQ := hide hK
    have hc9 := hFR.chain
    simp only [List.foldl] at hc9
    rw [getD_of g14] at hc9
    clear hl hK hFR g14 o0 o1 o2 o3 o4 o5 o6 o7 o8 o9 o10 o11 o12 o13 o14
    generalize A.tmps.getD 40 undef = s40 at hc9
    generalize A.tmps.getD 41 undef = s41 at hc9
    generalize A.tmps.getD 42 undef = s42 at hc9
    generalize A.tmps.getD 43 undef = s43 at hc9
    generalize A.tmps.getD 44 undef = s44 at hc9
    generalize A.tmps.getD 45 undef = s45 at hc9
    generalize A.tmps.getD 46 undef = s46 at hc9
    generalize A.tmps.getD 47 undef = s47 at hc9
    generalize A.tmps.getD 48 undef = s48 at hc9
    generalize A.tmps.getD 49 undef = s49 at hc9
    generalize A.tmps.getD 50 undef = s50 at hc9
    generalize A.tmps.getD 51 undef = s51 at hc9
    generalize A.tmps.getD 52 undef = s52 at hc9
    generalize A.tmps.getD 53 undef = s53 at hc9
    subst hc9
    go_simp
    go_wp2_with fail
    go_ret
    exact ⟨rI (by rfl), K0.out.trans QQ.out⟩
  case step =>
    intro l A W i hI hm
    obtain ⟨hFR, o0, o1, o2, o3, o4, o5, o6, o7, o8, o9, o10, o11, o12, o13, o14, hK⟩ := hI
    obtain ⟨hi1, hi2⟩ := ready_new hm
    have hsz : Hid (53 < A.tmps.size) := hide (by rw [hFR.size]; simp)
    have m1 : A.tmps[1]? = some (.pointer (some ⟨w.heap.size, 0, none⟩)) := (hFR.out 1 (by decide)).trans rfl
    rcases i with _ | _ | _ | _ | _ | _ | _ | _ | _ | _ | _ | _ | _ | _ | _ | i
    · refine wpOp_step rfl (fun KK hK2 => ?_)
      go_simp
      exact hK2 (A.put (some 40) (.pointer (some ⟨w.heap.size, 6, none⟩))) _ ⟨hFR.put (by decide) _, .now (put_eq (by have hz := hsz.out; omega)), o1.q, o2.q, o3.q, o4.q, o5.q, o6.q, o7.q, o8.q, o9.q, o10.q, o11.q, o12.q, o13.q, o14.q, hK⟩
    · have e0 := o0 (ready_dep hm 0 (by kernel_rfl))
      have BL := B0.out.kept0 hK
      have x6 := BL.cell (i := 6) rfl
      clear BL
      refine wpOp_step rfl (fun KK hK2 => ?_)
      go_simp
      exact hK2 (A.put (some 41) (iv 1)) _ ⟨hFR.put (by decide) _, o0.q, .now (put_eq (by have hz := hsz.out; omega)), o2.q, o3.q, o4.q, o5.q, o6.q, o7.q, o8.q, o9.q, o10.q, o11.q, o12.q, o13.q, o14.q, hK⟩
    · have e1 := o1 (ready_dep hm 1 (by kernel_rfl))
      refine wpOp_step rfl (fun KK hK2 => ?_)
      go_simp
      exact hK2 (A.put (some 42) (.bool true)) _ ⟨hFR.put (by decide) _, o0.q, o1.q, .now (put_eq (by have hz := hsz.out; omega)), o3.q, o4.q, o5.q, o6.q, o7.q, o8.q, o9.q, o10.q, o11.q, o12.q, o13.q, o14.q, hK⟩
    · have e2 := o2 (ready_dep hm 2 (by kernel_rfl))
      refine wpOp_step rfl (fun KK hK2 => ?_)
      go_simp
      exact hK2 (A.put (some 43) (.bool true)) _ ⟨hFR.put (by decide) _, o0.q, o1.q, o2.q, .now (put_eq (by have hz := hsz.out; omega)), o4.q, o5.q, o6.q, o7.q, o8.q, o9.q, o10.q, o11.q, o12.q, o13.q, o14.q, hK⟩
    · have g := o3 (ready_dep hm 3 (by kernel_rfl))
      refine wpOp_off (b := false) (c := true) rfl rfl rfl g (by decide) ?_
      exact ⟨hFR.put (by decide) _, o0.q, o1.q, o2.q, o3.q, .now (put_eq (by have hz := hsz.out; omega)), o5.q, o6.q, o7.q, o8.q, o9.q, o10.q, o11.q, o12.q, o13.q, o14.q, hK⟩
    · have e4 := o4 (ready_dep hm 4 (by kernel_rfl))
      have g := o3 (ready_dep hm 3 (by kernel_rfl))
      refine wpOp_off (b := false) (c := true) rfl rfl rfl g (by decide) ?_
      exact ⟨hFR.put (by decide) _, o0.q, o1.q, o2.q, o3.q, o4.q, .now (put_eq (by have hz := hsz.out; omega)), o6.q, o7.q, o8.q, o9.q, o10.q, o11.q, o12.q, o13.q, o14.q, hK⟩
    · have e5 := o5 (ready_dep hm 5 (by kernel_rfl))
      have g := o3 (ready_dep hm 3 (by kernel_rfl))
      refine wpOp_off (b := false) (c := true) rfl rfl rfl g (by decide) ?_
      exact ⟨hFR.put (by decide) _, o0.q, o1.q, o2.q, o3.q, o4.q, o5.q, .now (put_eq (by have hz := hsz.out; omega)), o7.q, o8.q, o9.q, o10.q, o11.q, o12.q, o13.q, o14.q, hK⟩
    · have e3 := o3 (ready_dep hm 3 (by kernel_rfl))
      have e6 := o6 (ready_dep hm 6 (by kernel_rfl))
      refine wpOp_step rfl (fun KK hK2 => ?_)
      go_simp
      exact hK2 (A.put (some 47) (.bool true)) _ ⟨hFR.put (by decide) _, o0.q, o1.q, o2.q, o3.q, o4.q, o5.q, o6.q, .now (put_eq (by have hz := hsz.out; omega)), o8.q, o9.q, o10.q, o11.q, o12.q, o13.q, o14.q, hK⟩
    · have e7 := o7 (ready_dep hm 7 (by kernel_rfl))
      refine wpOp_step rfl (fun KK hK2 => ?_)
      go_simp
      refine st (l1Flag _ _ _) ?_
      go_simp
      exact hK2 (A.put (some 48) (iv (Pl.fl true 31))) _ ⟨hFR.put (by decide) _, o0.q, o1.q, o2.q, o3.q, o4.q, o5.q, o6.q, o7.q, .now (put_eq (by have hz := hsz.out; omega)), o9.q, o10.q, o11.q, o12.q, o13.q, o14.q, hK⟩
    · refine wpOp_step rfl (fun KK hK2 => ?_)
      go_simp
      exact hK2 (A.put (some 49) (.pointer (some ⟨w.heap.size, 6, none⟩))) _ ⟨hFR.put (by decide) _, o0.q, o1.q, o2.q, o3.q, o4.q, o5.q, o6.q, o7.q, o8.q, .now (put_eq (by have hz := hsz.out; omega)), o10.q, o11.q, o12.q, o13.q, o14.q, hK⟩
    · have e9 := o9 (ready_dep hm 9 (by kernel_rfl))
      have BL := B0.out.kept0 hK
      have x6 := BL.cell (i := 6) rfl
      clear BL
      refine wpOp_step rfl (fun KK hK2 => ?_)
      go_simp
      exact hK2 (A.put (some 50) (iv 1)) _ ⟨hFR.put (by decide) _, o0.q, o1.q, o2.q, o3.q, o4.q, o5.q, o6.q, o7.q, o8.q, o9.q, .now (put_eq (by have hz := hsz.out; omega)), o11.q, o12.q, o13.q, o14.q, hK⟩
    · have e10 := o10 (ready_dep hm 10 (by kernel_rfl))
      refine wpOp_step rfl (fun KK hK2 => ?_)
      go_simp
      exact hK2 (A.put (some 51) (.bool false)) _ ⟨hFR.put (by decide) _, o0.q, o1.q, o2.q, o3.q, o4.q, o5.q, o6.q, o7.q, o8.q, o9.q, o10.q, .now (put_eq (by have hz := hsz.out; omega)), o12.q, o13.q, o14.q, hK⟩
    · have e11 := o11 (ready_dep hm 11 (by kernel_rfl))
      refine wpOp_step rfl (fun KK hK2 => ?_)
      go_simp
      refine st (l1Flag _ _ _) ?_
      go_simp
      exact hK2 (A.put (some 52) (iv (Pl.fl false 15))) _ ⟨hFR.put (by decide) _, o0.q, o1.q, o2.q, o3.q, o4.q, o5.q, o6.q, o7.q, o8.q, o9.q, o10.q, o11.q, .now (put_eq (by have hz := hsz.out; omega)), o13.q, o14.q, hK⟩
    · have e8 := o8 (ready_dep hm 8 (by kernel_rfl))
      have e12 := o12 (ready_dep hm 12 (by kernel_rfl))
      refine wpOp_step rfl (fun KK hK2 => ?_)
      go_simp
      exact hK2 (A.put (some 53) (iv (bits .or .i64 (Pl.fl true 31) (Pl.fl false 15)))) _ ⟨hFR.put (by decide) _, o0.q, o1.q, o2.q, o3.q, o4.q, o5.q, o6.q, o7.q, o8.q, o9.q, o10.q, o11.q, o12.q, .now (put_eq (by have hz := hsz.out; omega)), o14.q, hK⟩
    · have e13 := o13 (ready_dep hm 13 (by kernel_rfl))
      refine wpOp_step rfl (fun KK hK2 => ?_)
      go_simp
      exact hK2 (A.put (some 2) (iv (bits .or .i64 (Pl.fl true 31) (Pl.fl false 15)))) _ ⟨hFR.put (by decide) _, o0.q, o1.q, o2.q, o3.q, o4.q, o5.q, o6.q, o7.q, o8.q, o9.q, o10.q, o11.q, o12.q, o13.q, .now (put_eq (by have hz := hsz.out; omega)), hK⟩
    · simp at hi1
      omega
end Go.Proofs.YtflnodadeajmcaaGreat

