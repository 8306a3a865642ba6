/- What the model's GoodIns answers, for operands that are no numbers in the code and size 2. What the model's GoodIns answers, for operands that are numbers in the code and size 1. -/
import Derived.Test.YtndphgidmlmkoaaDoorPG1
import Derived.Deep.DeepCutAuto
namespace Go.Proofs.YtndphgidmlmkoaaDoor
open Go.RowKit
set_option linter.unusedVariables false
set_option linter.unusedSimpArgs false
set_option maxRecDepth 100000 in
set_option maxHeartbeats 16000000 in
theorem goodInsA2 (w : World) (op r m k e s : Int) (h2 : Pl.within r 0 3 = true) (h3 : Pl.opOk m k e = true) (h4 : Pl.within s 0 7 = true) (h6 : (m == 7) = false) :
    Calls Tryd.prog 20 #[.agg (inA op 2 r m k e s)] w fun r' w' => r' = .returned (.bool (Pl.inOk ⟨op, 2, r, m, k, e, s⟩)) ∧ Kept 0 0 w w' := by
  have K0 := hide (kept_alloc w (.cells (inA op 2 r m k e s) 36))
  have B0 := hide (Blk.new w (inA op 2 r m k e s) 36)
  have G : Hid (Pl.inOk ⟨op, 2, r, m, k, e, s⟩ = Pl.inKind ⟨op, 2, r, m, k, e, s⟩) := hide (by simp only [Pl.inOk, Pl.inBase, Pl.byteNow, h2, h3, h4, h6]; rfl)
  have hN : Pl.nowO m e = false := by simp only [Pl.nowO, h6]; rfl
  go_enter Tryd.func20, Tryd.ntmps20
  go_upto_region 5 with (first | (go_at_call 43; have z9 := B2; refine (l1In _ _ _ _).mono ?_; rintro e9 w' ⟨rfl, hw⟩; have hw2 := hw.symm; clear hw; subst hw2; rw [show (decide (0 ≤ s) && decide (s ≤ 7)) = Pl.within s 0 7 from rfl, h4]) | (go_at_call 42; refine (l1Size2 _).mono ?_; rintro e9 w' ⟨rfl, hw⟩; have hw2 := hw.symm; clear hw; subst hw2) | (go_at_call 43; refine (l1In _ _ _ _).mono ?_; rintro e9 w' ⟨rfl, hw⟩; have hw2 := hw.symm; clear hw; subst hw2; rw [show (decide (0 ≤ r) && decide (r ≤ 3)) = Pl.within r 0 3 from rfl, h2]) | (go_at_call 44; refine (specGoodOperand _ m k e).mono ?_; rintro e9 w2 ⟨rfl, k2⟩; rw [h3]; have B2 := hide (B0.out.kept0 k2); have K2 := hide (K0.out.trans k2); have c0 := B2.out.cell (i := 0) rfl; have c1 := B2.out.cell (i := 1) rfl; have c2 := B2.out.cell (i := 2) rfl; have c3 := B2.out.cell (i := 3) rfl; have c4 := B2.out.cell (i := 4) rfl; have c5 := B2.out.cell (i := 5) rfl; have c6 := B2.out.cell (i := 6) rfl; clear k2))
  rcases opsAll op with rfl | rfl | rfl | rfl | rfl | rfl | rfl | rfl | rfl | rfl | rfl | rfl | rfl | rfl | rfl | rfl | rfl | rfl | rfl | hno
  · have KND : Hid (Pl.inKind ⟨1, 2, r, m, k, e, s⟩ = ((s == 0) && (((2 : Int) == 2) || !(m == 1)))) := hide rfl
    cases a1 : (s == 0)
    all_goals
      go_wp2_with fail
      go_ret
      exact ⟨rB (by rw [G.out, KND.out] <;> first | rfl | (simp only [a1, hN, h6]; done) | (simp only [a1, hN, h6]; rfl) | simp [a1, hN, h6]), by first | exact K4.out | exact K3.out | exact K2.out⟩
  · have KND : Hid (Pl.inKind ⟨2, 2, r, m, k, e, s⟩ = ((s == 0) && ((m == 0) || Pl.memM m))) := hide rfl
    cases a1 : (s == 0) <;> cases b1 : (m == 0)
    all_goals
      go_wp2_with (first | (go_at_call 45; refine (specMem _ _).mono ?_; rintro e9 w' ⟨rfl, hw⟩; have hw2 := hw.symm; clear hw; subst hw2))
      go_ret
      exact ⟨rB (by rw [G.out, KND.out] <;> first | rfl | (simp only [a1, b1, hN, h6]; done) | (simp only [a1, b1, hN, h6]; rfl) | simp [a1, b1, hN, h6]), by first | exact K4.out | exact K3.out | exact K2.out⟩
  · have KND : Hid (Pl.inKind ⟨3, 2, r, m, k, e, s⟩ = ((s == 0) && (((2 : Int) == 2) || !(m == 1)))) := hide rfl
    cases a1 : (s == 0)
    all_goals
      go_wp2_with fail
      go_ret
      exact ⟨rB (by rw [G.out, KND.out] <;> first | rfl | (simp only [a1, hN, h6]; done) | (simp only [a1, hN, h6]; rfl) | simp [a1, hN, h6]), by first | exact K4.out | exact K3.out | exact K2.out⟩
  · have KND : Hid (Pl.inKind ⟨4, 2, r, m, k, e, s⟩ = ((s == 0) && (((2 : Int) == 2) || !(m == 1)))) := hide rfl
    cases a1 : (s == 0)
    all_goals
      go_wp2_with fail
      go_ret
      exact ⟨rB (by rw [G.out, KND.out] <;> first | rfl | (simp only [a1, hN, h6]; done) | (simp only [a1, hN, h6]; rfl) | simp [a1, hN, h6]), by first | exact K4.out | exact K3.out | exact K2.out⟩
  · have KND : Hid (Pl.inKind ⟨5, 2, r, m, k, e, s⟩ = ((s == 0) && (((2 : Int) == 2) || !(m == 1)))) := hide rfl
    cases a1 : (s == 0)
    all_goals
      go_wp2_with fail
      go_ret
      exact ⟨rB (by rw [G.out, KND.out] <;> first | rfl | (simp only [a1, hN, h6]; done) | (simp only [a1, hN, h6]; rfl) | simp [a1, hN, h6]), by first | exact K4.out | exact K3.out | exact K2.out⟩
  · have KND : Hid (Pl.inKind ⟨6, 2, r, m, k, e, s⟩ = ((s == 0) && (((2 : Int) == 2) || !(m == 1)))) := hide rfl
    cases a1 : (s == 0)
    all_goals
      go_wp2_with fail
      go_ret
      exact ⟨rB (by rw [G.out, KND.out] <;> first | rfl | (simp only [a1, hN, h6]; done) | (simp only [a1, hN, h6]; rfl) | simp [a1, hN, h6]), by first | exact K4.out | exact K3.out | exact K2.out⟩
  · have KND : Hid (Pl.inKind ⟨7, 2, r, m, k, e, s⟩ = ((s == 0) && (((2 : Int) == 2) || !(m == 1)))) := hide rfl
    cases a1 : (s == 0)
    all_goals
      go_wp2_with fail
      go_ret
      exact ⟨rB (by rw [G.out, KND.out] <;> first | rfl | (simp only [a1, hN, h6]; done) | (simp only [a1, hN, h6]; rfl) | simp [a1, hN, h6]), by first | exact K4.out | exact K3.out | exact K2.out⟩
  · have KND : Hid (Pl.inKind ⟨8, 2, r, m, k, e, s⟩ = ((s == 0) && (((2 : Int) == 2) || !(m == 1)))) := hide rfl
    cases a1 : (s == 0)
    all_goals
      go_wp2_with fail
      go_ret
      exact ⟨rB (by rw [G.out, KND.out] <;> first | rfl | (simp only [a1, hN, h6]; done) | (simp only [a1, hN, h6]; rfl) | simp [a1, hN, h6]), by first | exact K4.out | exact K3.out | exact K2.out⟩
  · have KND : Hid (Pl.inKind ⟨9, 2, r, m, k, e, s⟩ = (((2 : Int) == 2) && (s == 0))) := hide rfl
    go_wp2_with fail
    go_ret
    exact ⟨rB (by rw [G.out, KND.out] <;> first | rfl | (simp only [hN, h6]; done) | (simp only [hN, h6]; rfl) | simp [hN, h6]), by first | exact K4.out | exact K3.out | exact K2.out⟩
  · have KND : Hid (Pl.inKind ⟨10, 2, r, m, k, e, s⟩ = ((((2 : Int) == 2) && (s == 0)) && Pl.plainM m)) := hide rfl
    cases a1 : (s == 0)
    all_goals
      go_wp2_with (first | (go_at_call 46; refine (specPlain _ _).mono ?_; rintro e9 w' ⟨rfl, hw⟩; have hw2 := hw.symm; clear hw; subst hw2))
      go_ret
      exact ⟨rB (by rw [G.out, KND.out] <;> first | rfl | (simp only [a1, hN, h6]; done) | (simp only [a1, hN, h6]; rfl) | simp [a1, hN, h6]), by first | exact K4.out | exact K3.out | exact K2.out⟩
  · have KND : Hid (Pl.inKind ⟨11, 2, r, m, k, e, s⟩ = (((r == 0) && decide (s ≤ 3)) && ((m == 0) || Pl.memM m))) := hide rfl
    cases a1 : (r == 0) <;> cases a2 : decide (s ≤ 3) <;> cases b1 : (m == 0)
    all_goals
      go_wp2_with (first | (go_at_call 45; refine (specMem _ _).mono ?_; rintro e9 w' ⟨rfl, hw⟩; have hw2 := hw.symm; clear hw; subst hw2))
      go_ret
      exact ⟨rB (by rw [G.out, KND.out] <;> first | rfl | (simp only [a1, a2, b1, hN, h6]; done) | (simp only [a1, a2, b1, hN, h6]; rfl) | simp [a1, a2, b1, hN, h6]), by first | exact K4.out | exact K3.out | exact K2.out⟩
  · have KND : Hid (Pl.inKind ⟨12, 2, r, m, k, e, s⟩ = ((m == 0))) := hide rfl
    go_wp2_with fail
    go_ret
    exact ⟨rB (by rw [G.out, KND.out] <;> first | rfl | (simp only [hN, h6]; done) | (simp only [hN, h6]; rfl) | simp [hN, h6]), by first | exact K4.out | exact K3.out | exact K2.out⟩
  · have KND : Hid (Pl.inKind ⟨13, 2, r, m, k, e, s⟩ = ((((2 : Int) == 2) && decide (r ≤ 1)) && (m == 7))) := hide rfl
    cases a1 : decide (r ≤ 1)
    all_goals
      go_wp2_with fail
      go_ret
      exact ⟨rB (by rw [G.out, KND.out] <;> first | rfl | (simp only [a1, hN, h6]; done) | (simp only [a1, hN, h6]; rfl) | simp [a1, hN, h6]), by first | exact K4.out | exact K3.out | exact K2.out⟩
  · have KND : Hid (Pl.inKind ⟨14, 2, r, m, k, e, s⟩ = (((((2 : Int) == 2) && (r == 0)) && decide (s ≤ 1)) && Pl.plainM m)) := hide rfl
    cases a1 : (r == 0) <;> cases a2 : decide (s ≤ 1)
    all_goals
      go_wp2_with (first | (go_at_call 46; refine (specPlain _ _).mono ?_; rintro e9 w' ⟨rfl, hw⟩; have hw2 := hw.symm; clear hw; subst hw2))
      go_ret
      exact ⟨rB (by rw [G.out, KND.out] <;> first | rfl | (simp only [a1, a2, hN, h6]; done) | (simp only [a1, a2, hN, h6]; rfl) | simp [a1, a2, hN, h6]), by first | exact K4.out | exact K3.out | exact K2.out⟩
  · have KND : Hid (Pl.inKind ⟨15, 2, r, m, k, e, s⟩ = (bif s == 3 then (((2 : Int) == 2) && (r == 0)) && Pl.nowO m e else ((((2 : Int) == 2) && decide (s ≤ 6)) && Pl.zeroO m k e) && (decide (3 < s) || (r == 0)))) := hide rfl
    cases a0 : (s == 3) <;> cases a1 : (r == 0) <;> cases a2 : decide (s ≤ 6) <;> cases a3 : Pl.zeroO m k e <;> cases a4 : decide (3 < s)
    all_goals
      go_wp2_with (first | (go_at_call 47; refine (specNow m k e _).mono ?_; rintro e9 w3 ⟨rfl, k3⟩; rw [hN]; have B3 := hide (B2.out.kept0 k3); have K3 := hide (K2.out.trans k3); have d0 := B3.out.cell (i := 0) rfl; have d1 := B3.out.cell (i := 1) rfl; have d2 := B3.out.cell (i := 2) rfl; have d3 := B3.out.cell (i := 3) rfl; have d4 := B3.out.cell (i := 4) rfl; have d5 := B3.out.cell (i := 5) rfl; have d6 := B3.out.cell (i := 6) rfl; clear k3) | (go_at_call 48; have z9 := B3; refine (specZero m k e _).mono ?_; rintro e9 w4 ⟨rfl, k4⟩; rw [a3]; have B4 := hide (B3.out.kept0 k4); have K4 := hide (K3.out.trans k4); have f0 := B4.out.cell (i := 0) rfl; have f1 := B4.out.cell (i := 1) rfl; have f2 := B4.out.cell (i := 2) rfl; have f3 := B4.out.cell (i := 3) rfl; have f4 := B4.out.cell (i := 4) rfl; have f5 := B4.out.cell (i := 5) rfl; have f6 := B4.out.cell (i := 6) rfl; clear k4) | (go_at_call 48; refine (specZero m k e _).mono ?_; rintro e9 w4 ⟨rfl, k4⟩; rw [a3]; have B4 := hide (B2.out.kept0 k4); have K4 := hide (K2.out.trans k4); have f0 := B4.out.cell (i := 0) rfl; have f1 := B4.out.cell (i := 1) rfl; have f2 := B4.out.cell (i := 2) rfl; have f3 := B4.out.cell (i := 3) rfl; have f4 := B4.out.cell (i := 4) rfl; have f5 := B4.out.cell (i := 5) rfl; have f6 := B4.out.cell (i := 6) rfl; clear k4))
      go_ret
      exact ⟨rB (by rw [G.out, KND.out] <;> first | rfl | (simp only [a0, a1, a2, a3, a4, hN, h6]; done) | (simp only [a0, a1, a2, a3, a4, hN, h6]; rfl) | simp [a0, a1, a2, a3, a4, hN, h6]), by first | exact K4.out | exact K3.out | exact K2.out⟩
  · have KND : Hid (Pl.inKind ⟨16, 2, r, m, k, e, s⟩ = ((((2 : Int) == 2) && (s == 0)) && !(m == 1))) := hide rfl
    cases a1 : (s == 0)
    all_goals
      go_wp2_with fail
      go_ret
      exact ⟨rB (by rw [G.out, KND.out] <;> first | rfl | (simp only [a1, hN, h6]; done) | (simp only [a1, hN, h6]; rfl) | simp [a1, hN, h6]), by first | exact K4.out | exact K3.out | exact K2.out⟩
  · have KND : Hid (Pl.inKind ⟨17, 2, r, m, k, e, s⟩ = ((((2 : Int) == 2) && (s == 0)) && !(m == 1))) := hide rfl
    cases a1 : (s == 0)
    all_goals
      go_wp2_with fail
      go_ret
      exact ⟨rB (by rw [G.out, KND.out] <;> first | rfl | (simp only [a1, hN, h6]; done) | (simp only [a1, hN, h6]; rfl) | simp [a1, hN, h6]), by first | exact K4.out | exact K3.out | exact K2.out⟩
  · have KND : Hid (Pl.inKind ⟨18, 2, r, m, k, e, s⟩ = (((!((2 : Int) == 2)) && decide (s ≤ 1)) && (m == 0))) := hide rfl
    go_wp2_with fail
    go_ret
    exact ⟨rB (by rw [G.out, KND.out] <;> first | rfl | (simp only [hN, h6]; done) | (simp only [hN, h6]; rfl) | simp [hN, h6]), by first | exact K4.out | exact K3.out | exact K2.out⟩
  · have KND : Hid (Pl.inKind ⟨19, 2, r, m, k, e, s⟩ = (((2 : Int) == 2) && ((((s == 0) && (r == 0)) && Pl.nowO m e) || ((s == 1) && Pl.zeroO m k e)))) := hide rfl
    cases a1 : (s == 0) <;> cases a2 : (r == 0) <;> cases a4 : (s == 1)
    all_goals
      go_wp2_with (first | (go_at_call 47; refine (specNow m k e _).mono ?_; rintro e9 w3 ⟨rfl, k3⟩; rw [hN]; have B3 := hide (B2.out.kept0 k3); have K3 := hide (K2.out.trans k3); have d0 := B3.out.cell (i := 0) rfl; have d1 := B3.out.cell (i := 1) rfl; have d2 := B3.out.cell (i := 2) rfl; have d3 := B3.out.cell (i := 3) rfl; have d4 := B3.out.cell (i := 4) rfl; have d5 := B3.out.cell (i := 5) rfl; have d6 := B3.out.cell (i := 6) rfl; clear k3) | (go_at_call 48; have z9 := B3; refine (specZero m k e _).mono ?_; rintro e9 w4 ⟨rfl, k4⟩; have B4 := hide (B3.out.kept0 k4); have K4 := hide (K3.out.trans k4); have f0 := B4.out.cell (i := 0) rfl; have f1 := B4.out.cell (i := 1) rfl; have f2 := B4.out.cell (i := 2) rfl; have f3 := B4.out.cell (i := 3) rfl; have f4 := B4.out.cell (i := 4) rfl; have f5 := B4.out.cell (i := 5) rfl; have f6 := B4.out.cell (i := 6) rfl; clear k4) | (go_at_call 48; refine (specZero m k e _).mono ?_; rintro e9 w4 ⟨rfl, k4⟩; have B4 := hide (B2.out.kept0 k4); have K4 := hide (K2.out.trans k4); have f0 := B4.out.cell (i := 0) rfl; have f1 := B4.out.cell (i := 1) rfl; have f2 := B4.out.cell (i := 2) rfl; have f3 := B4.out.cell (i := 3) rfl; have f4 := B4.out.cell (i := 4) rfl; have f5 := B4.out.cell (i := 5) rfl; have f6 := B4.out.cell (i := 6) rfl; clear k4))
      go_ret
      exact ⟨rB (by rw [G.out, KND.out] <;> first | rfl | (simp only [a1, a2, a4, hN, h6]; done) | (simp only [a1, a2, a4, hN, h6]; rfl) | simp [a1, a2, a4, hN, h6]), by first | exact K4.out | exact K3.out | exact K2.out⟩
  · obtain ⟨q1, q2, q3, q4, q5, q6, q7, q8, q9, q10, q11, q12, q13, q14, q15, q16, q17, q18, q19⟩ := hno
    have KND : Hid (Pl.inKind ⟨op, 2, r, m, k, e, s⟩ = false) := hide (by simp [Pl.inKind, q1, q2, q3, q4, q5, q6, q7, q8, q9, q10, q11, q12, q13, q14, q15, q16, q17, q18, q19])
    go_wp2_with fail
    go_ret
    exact ⟨rB (by rw [G.out, KND.out]), K2.out⟩
end Go.Proofs.YtndphgidmlmkoaaDoor

namespace Go.Proofs.YtndphgidmlmkoaaDoor
open Go.RowKit
set_option linter.unusedVariables false
set_option linter.unusedSimpArgs false
set_option maxRecDepth 100000 in
set_option maxHeartbeats 16000000 in
theorem goodInsB1 (w : World) (op r k e s : Int) (h2 : Pl.within r 0 3 = true) (h3 : Pl.opOk 7 k e = true) (h4 : Pl.within s 0 7 = true) (h8 : decide (255 < e) = false) :
    Calls Tryd.prog 20 #[.agg (inA op 1 r 7 k e s)] w fun r' w' => r' = .returned (.bool (Pl.inOk ⟨op, 1, r, 7, k, e, s⟩)) ∧ Kept 0 0 w w' := by
  have K0 := hide (kept_alloc w (.cells (inA op 1 r 7 k e s) 36))
  have B0 := hide (Blk.new w (inA op 1 r 7 k e s) 36)
  have G : Hid (Pl.inOk ⟨op, 1, r, 7, k, e, s⟩ = Pl.inKind ⟨op, 1, r, 7, k, e, s⟩) := hide (by simp only [Pl.inOk, Pl.inBase, Pl.byteNow, h2, h3, h4]; simp at h8; simp; omega)
  have hZ : Pl.zeroO 7 k e = false := rfl
  go_enter Tryd.func20, Tryd.ntmps20
  go_upto_region 5 with (first | (go_at_call 43; have z9 := B2; refine (l1In _ _ _ _).mono ?_; rintro e9 w' ⟨rfl, hw⟩; have hw2 := hw.symm; clear hw; subst hw2; rw [show (decide (0 ≤ s) && decide (s ≤ 7)) = Pl.within s 0 7 from rfl, h4]) | (go_at_call 42; refine (l1Size1 _).mono ?_; rintro e9 w' ⟨rfl, hw⟩; have hw2 := hw.symm; clear hw; subst hw2) | (go_at_call 43; refine (l1In _ _ _ _).mono ?_; rintro e9 w' ⟨rfl, hw⟩; have hw2 := hw.symm; clear hw; subst hw2; rw [show (decide (0 ≤ r) && decide (r ≤ 3)) = Pl.within r 0 3 from rfl, h2]) | (go_at_call 44; refine (specGoodOperand _ 7 k e).mono ?_; rintro e9 w2 ⟨rfl, k2⟩; rw [h3]; have B2 := hide (B0.out.kept0 k2); have K2 := hide (K0.out.trans k2); have c0 := B2.out.cell (i := 0) rfl; have c1 := B2.out.cell (i := 1) rfl; have c2 := B2.out.cell (i := 2) rfl; have c3 := B2.out.cell (i := 3) rfl; have c4 := B2.out.cell (i := 4) rfl; have c5 := B2.out.cell (i := 5) rfl; have c6 := B2.out.cell (i := 6) rfl; clear k2))
  rcases opsAll op with rfl | rfl | rfl | rfl | rfl | rfl | rfl | rfl | rfl | rfl | rfl | rfl | rfl | rfl | rfl | rfl | rfl | rfl | rfl | hno
  · have KND : Hid (Pl.inKind ⟨1, 1, r, 7, k, e, s⟩ = ((s == 0) && (((1 : Int) == 2) || !((7 : Int) == 1)))) := hide rfl
    cases a1 : (s == 0)
    all_goals
      go_wp2_with fail
      go_ret
      exact ⟨rB (by rw [G.out, KND.out] <;> first | rfl | (simp only [a1, hZ]; done) | (simp only [a1, hZ]; rfl) | simp [a1, hZ]), by first | exact K4.out | exact K3.out | exact K2.out⟩
  · have KND : Hid (Pl.inKind ⟨2, 1, r, 7, k, e, s⟩ = ((s == 0) && (((7 : Int) == 0) || Pl.memM (7 : Int)))) := hide rfl
    cases a1 : (s == 0)
    all_goals
      go_wp2_with (first | (go_at_call 45; refine (specMem _ _).mono ?_; rintro e9 w' ⟨rfl, hw⟩; have hw2 := hw.symm; clear hw; subst hw2))
      go_ret
      exact ⟨rB (by rw [G.out, KND.out] <;> first | rfl | (simp only [a1, hZ]; done) | (simp only [a1, hZ]; rfl) | simp [a1, hZ]), by first | exact K4.out | exact K3.out | exact K2.out⟩
  · have KND : Hid (Pl.inKind ⟨3, 1, r, 7, k, e, s⟩ = ((s == 0) && (((1 : Int) == 2) || !((7 : Int) == 1)))) := hide rfl
    cases a1 : (s == 0)
    all_goals
      go_wp2_with fail
      go_ret
      exact ⟨rB (by rw [G.out, KND.out] <;> first | rfl | (simp only [a1, hZ]; done) | (simp only [a1, hZ]; rfl) | simp [a1, hZ]), by first | exact K4.out | exact K3.out | exact K2.out⟩
  · have KND : Hid (Pl.inKind ⟨4, 1, r, 7, k, e, s⟩ = ((s == 0) && (((1 : Int) == 2) || !((7 : Int) == 1)))) := hide rfl
    cases a1 : (s == 0)
    all_goals
      go_wp2_with fail
      go_ret
      exact ⟨rB (by rw [G.out, KND.out] <;> first | rfl | (simp only [a1, hZ]; done) | (simp only [a1, hZ]; rfl) | simp [a1, hZ]), by first | exact K4.out | exact K3.out | exact K2.out⟩
  · have KND : Hid (Pl.inKind ⟨5, 1, r, 7, k, e, s⟩ = ((s == 0) && (((1 : Int) == 2) || !((7 : Int) == 1)))) := hide rfl
    cases a1 : (s == 0)
    all_goals
      go_wp2_with fail
      go_ret
      exact ⟨rB (by rw [G.out, KND.out] <;> first | rfl | (simp only [a1, hZ]; done) | (simp only [a1, hZ]; rfl) | simp [a1, hZ]), by first | exact K4.out | exact K3.out | exact K2.out⟩
  · have KND : Hid (Pl.inKind ⟨6, 1, r, 7, k, e, s⟩ = ((s == 0) && (((1 : Int) == 2) || !((7 : Int) == 1)))) := hide rfl
    cases a1 : (s == 0)
    all_goals
      go_wp2_with fail
      go_ret
      exact ⟨rB (by rw [G.out, KND.out] <;> first | rfl | (simp only [a1, hZ]; done) | (simp only [a1, hZ]; rfl) | simp [a1, hZ]), by first | exact K4.out | exact K3.out | exact K2.out⟩
  · have KND : Hid (Pl.inKind ⟨7, 1, r, 7, k, e, s⟩ = ((s == 0) && (((1 : Int) == 2) || !((7 : Int) == 1)))) := hide rfl
    cases a1 : (s == 0)
    all_goals
      go_wp2_with fail
      go_ret
      exact ⟨rB (by rw [G.out, KND.out] <;> first | rfl | (simp only [a1, hZ]; done) | (simp only [a1, hZ]; rfl) | simp [a1, hZ]), by first | exact K4.out | exact K3.out | exact K2.out⟩
  · have KND : Hid (Pl.inKind ⟨8, 1, r, 7, k, e, s⟩ = ((s == 0) && (((1 : Int) == 2) || !((7 : Int) == 1)))) := hide rfl
    cases a1 : (s == 0)
    all_goals
      go_wp2_with fail
      go_ret
      exact ⟨rB (by rw [G.out, KND.out] <;> first | rfl | (simp only [a1, hZ]; done) | (simp only [a1, hZ]; rfl) | simp [a1, hZ]), by first | exact K4.out | exact K3.out | exact K2.out⟩
  · have KND : Hid (Pl.inKind ⟨9, 1, r, 7, k, e, s⟩ = (((1 : Int) == 2) && (s == 0))) := hide rfl
    go_wp2_with fail
    go_ret
    exact ⟨rB (by rw [G.out, KND.out] <;> first | rfl | (simp only [hZ]; done) | (simp only [hZ]; rfl) | simp [hZ]), by first | exact K4.out | exact K3.out | exact K2.out⟩
  · have KND : Hid (Pl.inKind ⟨10, 1, r, 7, k, e, s⟩ = ((((1 : Int) == 2) && (s == 0)) && Pl.plainM (7 : Int))) := hide rfl
    go_wp2_with (first | (go_at_call 46; refine (specPlain _ _).mono ?_; rintro e9 w' ⟨rfl, hw⟩; have hw2 := hw.symm; clear hw; subst hw2))
    go_ret
    exact ⟨rB (by rw [G.out, KND.out] <;> first | rfl | (simp only [hZ]; done) | (simp only [hZ]; rfl) | simp [hZ]), by first | exact K4.out | exact K3.out | exact K2.out⟩
  · have KND : Hid (Pl.inKind ⟨11, 1, r, 7, k, e, s⟩ = (((r == 0) && decide (s ≤ 3)) && (((7 : Int) == 0) || Pl.memM (7 : Int)))) := hide rfl
    cases a1 : (r == 0) <;> cases a2 : decide (s ≤ 3)
    all_goals
      go_wp2_with (first | (go_at_call 45; refine (specMem _ _).mono ?_; rintro e9 w' ⟨rfl, hw⟩; have hw2 := hw.symm; clear hw; subst hw2))
      go_ret
      exact ⟨rB (by rw [G.out, KND.out] <;> first | rfl | (simp only [a1, a2, hZ]; done) | (simp only [a1, a2, hZ]; rfl) | simp [a1, a2, hZ]), by first | exact K4.out | exact K3.out | exact K2.out⟩
  · have KND : Hid (Pl.inKind ⟨12, 1, r, 7, k, e, s⟩ = (((7 : Int) == 0))) := hide rfl
    go_wp2_with fail
    go_ret
    exact ⟨rB (by rw [G.out, KND.out] <;> first | rfl | (simp only [hZ]; done) | (simp only [hZ]; rfl) | simp [hZ]), by first | exact K4.out | exact K3.out | exact K2.out⟩
  · have KND : Hid (Pl.inKind ⟨13, 1, r, 7, k, e, s⟩ = ((((1 : Int) == 2) && decide (r ≤ 1)) && ((7 : Int) == 7))) := hide rfl
    go_wp2_with fail
    go_ret
    exact ⟨rB (by rw [G.out, KND.out] <;> first | rfl | (simp only [hZ]; done) | (simp only [hZ]; rfl) | simp [hZ]), by first | exact K4.out | exact K3.out | exact K2.out⟩
  · have KND : Hid (Pl.inKind ⟨14, 1, r, 7, k, e, s⟩ = (((((1 : Int) == 2) && (r == 0)) && decide (s ≤ 1)) && Pl.plainM (7 : Int))) := hide rfl
    go_wp2_with (first | (go_at_call 46; refine (specPlain _ _).mono ?_; rintro e9 w' ⟨rfl, hw⟩; have hw2 := hw.symm; clear hw; subst hw2))
    go_ret
    exact ⟨rB (by rw [G.out, KND.out] <;> first | rfl | (simp only [hZ]; done) | (simp only [hZ]; rfl) | simp [hZ]), by first | exact K4.out | exact K3.out | exact K2.out⟩
  · have KND : Hid (Pl.inKind ⟨15, 1, r, 7, k, e, s⟩ = (bif s == 3 then (((1 : Int) == 2) && (r == 0)) && Pl.nowO (7 : Int) e else ((((1 : Int) == 2) && decide (s ≤ 6)) && Pl.zeroO (7 : Int) k e) && (decide (3 < s) || (r == 0)))) := hide rfl
    cases a0 : (s == 3)
    all_goals
      go_wp2_with (first | (go_at_call 47; refine (specNow 7 k e _).mono ?_; rintro e9 w3 ⟨rfl, k3⟩; have B3 := hide (B2.out.kept0 k3); have K3 := hide (K2.out.trans k3); have d0 := B3.out.cell (i := 0) rfl; have d1 := B3.out.cell (i := 1) rfl; have d2 := B3.out.cell (i := 2) rfl; have d3 := B3.out.cell (i := 3) rfl; have d4 := B3.out.cell (i := 4) rfl; have d5 := B3.out.cell (i := 5) rfl; have d6 := B3.out.cell (i := 6) rfl; clear k3) | (go_at_call 48; have z9 := B3; refine (specZero 7 k e _).mono ?_; rintro e9 w4 ⟨rfl, k4⟩; rw [hZ]; have B4 := hide (B3.out.kept0 k4); have K4 := hide (K3.out.trans k4); have f0 := B4.out.cell (i := 0) rfl; have f1 := B4.out.cell (i := 1) rfl; have f2 := B4.out.cell (i := 2) rfl; have f3 := B4.out.cell (i := 3) rfl; have f4 := B4.out.cell (i := 4) rfl; have f5 := B4.out.cell (i := 5) rfl; have f6 := B4.out.cell (i := 6) rfl; clear k4) | (go_at_call 48; refine (specZero 7 k e _).mono ?_; rintro e9 w4 ⟨rfl, k4⟩; rw [hZ]; have B4 := hide (B2.out.kept0 k4); have K4 := hide (K2.out.trans k4); have f0 := B4.out.cell (i := 0) rfl; have f1 := B4.out.cell (i := 1) rfl; have f2 := B4.out.cell (i := 2) rfl; have f3 := B4.out.cell (i := 3) rfl; have f4 := B4.out.cell (i := 4) rfl; have f5 := B4.out.cell (i := 5) rfl; have f6 := B4.out.cell (i := 6) rfl; clear k4))
      go_ret
      exact ⟨rB (by rw [G.out, KND.out] <;> first | rfl | (simp only [a0, hZ]; done) | (simp only [a0, hZ]; rfl) | simp [a0, hZ]), by first | exact K4.out | exact K3.out | exact K2.out⟩
  · have KND : Hid (Pl.inKind ⟨16, 1, r, 7, k, e, s⟩ = ((((1 : Int) == 2) && (s == 0)) && !((7 : Int) == 1))) := hide rfl
    go_wp2_with fail
    go_ret
    exact ⟨rB (by rw [G.out, KND.out] <;> first | rfl | (simp only [hZ]; done) | (simp only [hZ]; rfl) | simp [hZ]), by first | exact K4.out | exact K3.out | exact K2.out⟩
  · have KND : Hid (Pl.inKind ⟨17, 1, r, 7, k, e, s⟩ = ((((1 : Int) == 2) && (s == 0)) && !((7 : Int) == 1))) := hide rfl
    go_wp2_with fail
    go_ret
    exact ⟨rB (by rw [G.out, KND.out] <;> first | rfl | (simp only [hZ]; done) | (simp only [hZ]; rfl) | simp [hZ]), by first | exact K4.out | exact K3.out | exact K2.out⟩
  · have KND : Hid (Pl.inKind ⟨18, 1, r, 7, k, e, s⟩ = (((!((1 : Int) == 2)) && decide (s ≤ 1)) && ((7 : Int) == 0))) := hide rfl
    cases a1 : decide (s ≤ 1)
    all_goals
      go_wp2_with fail
      go_ret
      exact ⟨rB (by rw [G.out, KND.out] <;> first | rfl | (simp only [a1, hZ]; done) | (simp only [a1, hZ]; rfl) | simp [a1, hZ]), by first | exact K4.out | exact K3.out | exact K2.out⟩
  · have KND : Hid (Pl.inKind ⟨19, 1, r, 7, k, e, s⟩ = (((1 : Int) == 2) && ((((s == 0) && (r == 0)) && Pl.nowO (7 : Int) e) || ((s == 1) && Pl.zeroO (7 : Int) k e)))) := hide rfl
    go_wp2_with (first | (go_at_call 47; refine (specNow 7 k e _).mono ?_; rintro e9 w3 ⟨rfl, k3⟩; rw [a3]; have B3 := hide (B2.out.kept0 k3); have K3 := hide (K2.out.trans k3); have d0 := B3.out.cell (i := 0) rfl; have d1 := B3.out.cell (i := 1) rfl; have d2 := B3.out.cell (i := 2) rfl; have d3 := B3.out.cell (i := 3) rfl; have d4 := B3.out.cell (i := 4) rfl; have d5 := B3.out.cell (i := 5) rfl; have d6 := B3.out.cell (i := 6) rfl; clear k3) | (go_at_call 48; have z9 := B3; refine (specZero 7 k e _).mono ?_; rintro e9 w4 ⟨rfl, k4⟩; rw [hZ]; have B4 := hide (B3.out.kept0 k4); have K4 := hide (K3.out.trans k4); have f0 := B4.out.cell (i := 0) rfl; have f1 := B4.out.cell (i := 1) rfl; have f2 := B4.out.cell (i := 2) rfl; have f3 := B4.out.cell (i := 3) rfl; have f4 := B4.out.cell (i := 4) rfl; have f5 := B4.out.cell (i := 5) rfl; have f6 := B4.out.cell (i := 6) rfl; clear k4) | (go_at_call 48; refine (specZero 7 k e _).mono ?_; rintro e9 w4 ⟨rfl, k4⟩; rw [hZ]; have B4 := hide (B2.out.kept0 k4); have K4 := hide (K2.out.trans k4); have f0 := B4.out.cell (i := 0) rfl; have f1 := B4.out.cell (i := 1) rfl; have f2 := B4.out.cell (i := 2) rfl; have f3 := B4.out.cell (i := 3) rfl; have f4 := B4.out.cell (i := 4) rfl; have f5 := B4.out.cell (i := 5) rfl; have f6 := B4.out.cell (i := 6) rfl; clear k4))
    go_ret
    exact ⟨rB (by rw [G.out, KND.out] <;> first | rfl | (simp only [hZ]; done) | (simp only [hZ]; rfl) | simp [hZ]), by first | exact K4.out | exact K3.out | exact K2.out⟩
  · obtain ⟨q1, q2, q3, q4, q5, q6, q7, q8, q9, q10, q11, q12, q13, q14, q15, q16, q17, q18, q19⟩ := hno
    have KND : Hid (Pl.inKind ⟨op, 1, r, 7, k, e, s⟩ = false) := hide (by simp [Pl.inKind, q1, q2, q3, q4, q5, q6, q7, q8, q9, q10, q11, q12, q13, q14, q15, q16, q17, q18, q19])
    go_wp2_with fail
    go_ret
    exact ⟨rB (by rw [G.out, KND.out]), K2.out⟩
end Go.Proofs.YtndphgidmlmkoaaDoor

