/- What the model's GoodIns answers, for operands that are numbers in the code and size 2. What the model's GoodIns answers, for every instruction. What the models of DecodeIns and EncodeIns answer, for every argument. An instruction whose fields fit into its words: plain arithmetic; no Go text is spoken of here. What the program's test of a value of a size answers: one contract a function; none changes the world. What the program's tests of words, sizes and register numbers answer; none changes the world. -/
import Derived.Test.YtmkcbgnldnefmaaEI1
import Derived.Deep.DeepCutAuto
import Derived.Test.YtmkcbgnldnefmaaEI2
import Derived.Test.YtmkcbgnldnefmaaEI3
import Derived.Deep.AppendLies
import Derived.StillTailTactics
namespace Go.Proofs.Ytmkcbgnldnefmaa
open Go.RowKit
set_option linter.unusedVariables false
set_option linter.unusedSimpArgs false
set_option maxRecDepth 100000 in
set_option maxHeartbeats 16000000 in
theorem goodInsB2 (w : World) (op r k e s : Int) (h2 : Pl.within r 0 3 = true) (h3 : Pl.opOk 7 k e = true) (h4 : Pl.within s 0 7 = true) :
    Calls Try.prog 47 #[.agg (inA op 2 r 7 k e s)] w fun r' w' => r' = .returned (.bool (Pl.inOk ⟨op, 2, r, 7, k, e, s⟩)) ∧ Kept 0 0 w w' := by
  have K0 := hide (kept_alloc w (.cells (inA op 2 r 7 k e s) 55))
  have B0 := hide (Blk.new w (inA op 2 r 7 k e s) 55)
  have G : Hid (Pl.inOk ⟨op, 2, r, 7, k, e, s⟩ = Pl.inKind ⟨op, 2, r, 7, k, e, s⟩) := hide (by simp only [Pl.inOk, Pl.inBase, Pl.byteNow, h2, h3, h4]; rfl)
  have hZ : Pl.zeroO 7 k e = false := rfl
  go_enter Try.func47, Try.ntmps47
  go_upto_region 5 with (first | (go_at_call 31; have z9 := B2; refine (l1In _ _ _ _).mono ?_; rintro e9 w' ⟨rfl, hw⟩; have hw2 := hw.symm; clear hw; subst hw2; rw [show (decide (0 ≤ s) && decide (s ≤ 7)) = Pl.within s 0 7 from rfl, h4]) | (go_at_call 65; refine (l1Size2 _).mono ?_; rintro e9 w' ⟨rfl, hw⟩; have hw2 := hw.symm; clear hw; subst hw2) | (go_at_call 31; refine (l1In _ _ _ _).mono ?_; rintro e9 w' ⟨rfl, hw⟩; have hw2 := hw.symm; clear hw; subst hw2; rw [show (decide (0 ≤ r) && decide (r ≤ 3)) = Pl.within r 0 3 from rfl, h2]) | (go_at_call 66; refine (specGoodOperand _ 7 k e).mono ?_; rintro e9 w2 ⟨rfl, k2⟩; rw [h3]; have B2 := hide (B0.out.kept0 k2); have K2 := hide (K0.out.trans k2); have c0 := B2.out.cell (i := 0) rfl; have c1 := B2.out.cell (i := 1) rfl; have c2 := B2.out.cell (i := 2) rfl; have c3 := B2.out.cell (i := 3) rfl; have c4 := B2.out.cell (i := 4) rfl; have c5 := B2.out.cell (i := 5) rfl; have c6 := B2.out.cell (i := 6) rfl; clear k2))
  rcases opsAll op with rfl | rfl | rfl | rfl | rfl | rfl | rfl | rfl | rfl | rfl | rfl | rfl | rfl | rfl | rfl | rfl | rfl | rfl | rfl | hno
  · have KND : Hid (Pl.inKind ⟨1, 2, r, 7, k, e, s⟩ = ((s == 0) && (((2 : Int) == 2) || !((7 : Int) == 1)))) := hide rfl
    cases a1 : (s == 0)
    all_goals
      go_wp2_with fail
      go_ret
      exact ⟨rB (by rw [G.out, KND.out] <;> first | rfl | (simp only [a1, hZ]; done) | (simp only [a1, hZ]; rfl) | simp [a1, hZ]), by first | exact K4.out | exact K3.out | exact K2.out⟩
  · have KND : Hid (Pl.inKind ⟨2, 2, r, 7, k, e, s⟩ = ((s == 0) && (((7 : Int) == 0) || Pl.memM (7 : Int)))) := hide rfl
    cases a1 : (s == 0)
    all_goals
      go_wp2_with (first | (go_at_call 67; refine (specMem _ _).mono ?_; rintro e9 w' ⟨rfl, hw⟩; have hw2 := hw.symm; clear hw; subst hw2))
      go_ret
      exact ⟨rB (by rw [G.out, KND.out] <;> first | rfl | (simp only [a1, hZ]; done) | (simp only [a1, hZ]; rfl) | simp [a1, hZ]), by first | exact K4.out | exact K3.out | exact K2.out⟩
  · have KND : Hid (Pl.inKind ⟨3, 2, r, 7, k, e, s⟩ = ((s == 0) && (((2 : Int) == 2) || !((7 : Int) == 1)))) := hide rfl
    cases a1 : (s == 0)
    all_goals
      go_wp2_with fail
      go_ret
      exact ⟨rB (by rw [G.out, KND.out] <;> first | rfl | (simp only [a1, hZ]; done) | (simp only [a1, hZ]; rfl) | simp [a1, hZ]), by first | exact K4.out | exact K3.out | exact K2.out⟩
  · have KND : Hid (Pl.inKind ⟨4, 2, r, 7, k, e, s⟩ = ((s == 0) && (((2 : Int) == 2) || !((7 : Int) == 1)))) := hide rfl
    cases a1 : (s == 0)
    all_goals
      go_wp2_with fail
      go_ret
      exact ⟨rB (by rw [G.out, KND.out] <;> first | rfl | (simp only [a1, hZ]; done) | (simp only [a1, hZ]; rfl) | simp [a1, hZ]), by first | exact K4.out | exact K3.out | exact K2.out⟩
  · have KND : Hid (Pl.inKind ⟨5, 2, r, 7, k, e, s⟩ = ((s == 0) && (((2 : Int) == 2) || !((7 : Int) == 1)))) := hide rfl
    cases a1 : (s == 0)
    all_goals
      go_wp2_with fail
      go_ret
      exact ⟨rB (by rw [G.out, KND.out] <;> first | rfl | (simp only [a1, hZ]; done) | (simp only [a1, hZ]; rfl) | simp [a1, hZ]), by first | exact K4.out | exact K3.out | exact K2.out⟩
  · have KND : Hid (Pl.inKind ⟨6, 2, r, 7, k, e, s⟩ = ((s == 0) && (((2 : Int) == 2) || !((7 : Int) == 1)))) := hide rfl
    cases a1 : (s == 0)
    all_goals
      go_wp2_with fail
      go_ret
      exact ⟨rB (by rw [G.out, KND.out] <;> first | rfl | (simp only [a1, hZ]; done) | (simp only [a1, hZ]; rfl) | simp [a1, hZ]), by first | exact K4.out | exact K3.out | exact K2.out⟩
  · have KND : Hid (Pl.inKind ⟨7, 2, r, 7, k, e, s⟩ = ((s == 0) && (((2 : Int) == 2) || !((7 : Int) == 1)))) := hide rfl
    cases a1 : (s == 0)
    all_goals
      go_wp2_with fail
      go_ret
      exact ⟨rB (by rw [G.out, KND.out] <;> first | rfl | (simp only [a1, hZ]; done) | (simp only [a1, hZ]; rfl) | simp [a1, hZ]), by first | exact K4.out | exact K3.out | exact K2.out⟩
  · have KND : Hid (Pl.inKind ⟨8, 2, r, 7, k, e, s⟩ = ((s == 0) && (((2 : Int) == 2) || !((7 : Int) == 1)))) := hide rfl
    cases a1 : (s == 0)
    all_goals
      go_wp2_with fail
      go_ret
      exact ⟨rB (by rw [G.out, KND.out] <;> first | rfl | (simp only [a1, hZ]; done) | (simp only [a1, hZ]; rfl) | simp [a1, hZ]), by first | exact K4.out | exact K3.out | exact K2.out⟩
  · have KND : Hid (Pl.inKind ⟨9, 2, r, 7, k, e, s⟩ = (((2 : Int) == 2) && (s == 0))) := hide rfl
    go_wp2_with fail
    go_ret
    exact ⟨rB (by rw [G.out, KND.out] <;> first | rfl | (simp only [hZ]; done) | (simp only [hZ]; rfl) | simp [hZ]), by first | exact K4.out | exact K3.out | exact K2.out⟩
  · have KND : Hid (Pl.inKind ⟨10, 2, r, 7, k, e, s⟩ = ((((2 : Int) == 2) && (s == 0)) && Pl.plainM (7 : Int))) := hide rfl
    cases a1 : (s == 0)
    all_goals
      go_wp2_with (first | (go_at_call 68; refine (specPlain _ _).mono ?_; rintro e9 w' ⟨rfl, hw⟩; have hw2 := hw.symm; clear hw; subst hw2))
      go_ret
      exact ⟨rB (by rw [G.out, KND.out] <;> first | rfl | (simp only [a1, hZ]; done) | (simp only [a1, hZ]; rfl) | simp [a1, hZ]), by first | exact K4.out | exact K3.out | exact K2.out⟩
  · have KND : Hid (Pl.inKind ⟨11, 2, r, 7, k, e, s⟩ = (((r == 0) && decide (s ≤ 3)) && (((7 : Int) == 0) || Pl.memM (7 : Int)))) := hide rfl
    cases a1 : (r == 0) <;> cases a2 : decide (s ≤ 3)
    all_goals
      go_wp2_with (first | (go_at_call 67; refine (specMem _ _).mono ?_; rintro e9 w' ⟨rfl, hw⟩; have hw2 := hw.symm; clear hw; subst hw2))
      go_ret
      exact ⟨rB (by rw [G.out, KND.out] <;> first | rfl | (simp only [a1, a2, hZ]; done) | (simp only [a1, a2, hZ]; rfl) | simp [a1, a2, hZ]), by first | exact K4.out | exact K3.out | exact K2.out⟩
  · have KND : Hid (Pl.inKind ⟨12, 2, r, 7, k, e, s⟩ = (((7 : Int) == 0))) := hide rfl
    go_wp2_with fail
    go_ret
    exact ⟨rB (by rw [G.out, KND.out] <;> first | rfl | (simp only [hZ]; done) | (simp only [hZ]; rfl) | simp [hZ]), by first | exact K4.out | exact K3.out | exact K2.out⟩
  · have KND : Hid (Pl.inKind ⟨13, 2, r, 7, k, e, s⟩ = ((((2 : Int) == 2) && decide (r ≤ 1)) && ((7 : Int) == 7))) := hide rfl
    cases a1 : decide (r ≤ 1)
    all_goals
      go_wp2_with fail
      go_ret
      exact ⟨rB (by rw [G.out, KND.out] <;> first | rfl | (simp only [a1, hZ]; done) | (simp only [a1, hZ]; rfl) | simp [a1, hZ]), by first | exact K4.out | exact K3.out | exact K2.out⟩
  · have KND : Hid (Pl.inKind ⟨14, 2, r, 7, k, e, s⟩ = (((((2 : Int) == 2) && (r == 0)) && decide (s ≤ 1)) && Pl.plainM (7 : Int))) := hide rfl
    cases a1 : (r == 0) <;> cases a2 : decide (s ≤ 1)
    all_goals
      go_wp2_with (first | (go_at_call 68; refine (specPlain _ _).mono ?_; rintro e9 w' ⟨rfl, hw⟩; have hw2 := hw.symm; clear hw; subst hw2))
      go_ret
      exact ⟨rB (by rw [G.out, KND.out] <;> first | rfl | (simp only [a1, a2, hZ]; done) | (simp only [a1, a2, hZ]; rfl) | simp [a1, a2, hZ]), by first | exact K4.out | exact K3.out | exact K2.out⟩
  · have KND : Hid (Pl.inKind ⟨15, 2, r, 7, k, e, s⟩ = (bif s == 3 then (((2 : Int) == 2) && (r == 0)) && Pl.nowO (7 : Int) e else ((((2 : Int) == 2) && decide (s ≤ 6)) && Pl.zeroO (7 : Int) k e) && (decide (3 < s) || (r == 0)))) := hide rfl
    cases a0 : (s == 3) <;> cases a1 : (r == 0) <;> cases a2 : decide (s ≤ 6) <;> cases a4 : decide (3 < s)
    all_goals
      go_wp2_with (first | (go_at_call 69; refine (specNow 7 k e _).mono ?_; rintro e9 w3 ⟨rfl, k3⟩; have B3 := hide (B2.out.kept0 k3); have K3 := hide (K2.out.trans k3); have d0 := B3.out.cell (i := 0) rfl; have d1 := B3.out.cell (i := 1) rfl; have d2 := B3.out.cell (i := 2) rfl; have d3 := B3.out.cell (i := 3) rfl; have d4 := B3.out.cell (i := 4) rfl; have d5 := B3.out.cell (i := 5) rfl; have d6 := B3.out.cell (i := 6) rfl; clear k3) | (go_at_call 70; have z9 := B3; refine (specZero 7 k e _).mono ?_; rintro e9 w4 ⟨rfl, k4⟩; rw [hZ]; have B4 := hide (B3.out.kept0 k4); have K4 := hide (K3.out.trans k4); have f0 := B4.out.cell (i := 0) rfl; have f1 := B4.out.cell (i := 1) rfl; have f2 := B4.out.cell (i := 2) rfl; have f3 := B4.out.cell (i := 3) rfl; have f4 := B4.out.cell (i := 4) rfl; have f5 := B4.out.cell (i := 5) rfl; have f6 := B4.out.cell (i := 6) rfl; clear k4) | (go_at_call 70; refine (specZero 7 k e _).mono ?_; rintro e9 w4 ⟨rfl, k4⟩; rw [hZ]; have B4 := hide (B2.out.kept0 k4); have K4 := hide (K2.out.trans k4); have f0 := B4.out.cell (i := 0) rfl; have f1 := B4.out.cell (i := 1) rfl; have f2 := B4.out.cell (i := 2) rfl; have f3 := B4.out.cell (i := 3) rfl; have f4 := B4.out.cell (i := 4) rfl; have f5 := B4.out.cell (i := 5) rfl; have f6 := B4.out.cell (i := 6) rfl; clear k4))
      go_ret
      exact ⟨rB (by rw [G.out, KND.out] <;> first | rfl | (simp only [a0, a1, a2, a4, hZ]; done) | (simp only [a0, a1, a2, a4, hZ]; rfl) | simp [a0, a1, a2, a4, hZ]), by first | exact K4.out | exact K3.out | exact K2.out⟩
  · have KND : Hid (Pl.inKind ⟨16, 2, r, 7, k, e, s⟩ = ((((2 : Int) == 2) && (s == 0)) && !((7 : Int) == 1))) := hide rfl
    cases a1 : (s == 0)
    all_goals
      go_wp2_with fail
      go_ret
      exact ⟨rB (by rw [G.out, KND.out] <;> first | rfl | (simp only [a1, hZ]; done) | (simp only [a1, hZ]; rfl) | simp [a1, hZ]), by first | exact K4.out | exact K3.out | exact K2.out⟩
  · have KND : Hid (Pl.inKind ⟨17, 2, r, 7, k, e, s⟩ = ((((2 : Int) == 2) && (s == 0)) && !((7 : Int) == 1))) := hide rfl
    cases a1 : (s == 0)
    all_goals
      go_wp2_with fail
      go_ret
      exact ⟨rB (by rw [G.out, KND.out] <;> first | rfl | (simp only [a1, hZ]; done) | (simp only [a1, hZ]; rfl) | simp [a1, hZ]), by first | exact K4.out | exact K3.out | exact K2.out⟩
  · have KND : Hid (Pl.inKind ⟨18, 2, r, 7, k, e, s⟩ = (((!((2 : Int) == 2)) && decide (s ≤ 1)) && ((7 : Int) == 0))) := hide rfl
    go_wp2_with fail
    go_ret
    exact ⟨rB (by rw [G.out, KND.out] <;> first | rfl | (simp only [hZ]; done) | (simp only [hZ]; rfl) | simp [hZ]), by first | exact K4.out | exact K3.out | exact K2.out⟩
  · have KND : Hid (Pl.inKind ⟨19, 2, r, 7, k, e, s⟩ = (((2 : Int) == 2) && ((((s == 0) && (r == 0)) && Pl.nowO (7 : Int) e) || ((s == 1) && Pl.zeroO (7 : Int) k e)))) := hide rfl
    cases a1 : (s == 0) <;> cases a2 : (r == 0) <;> cases a3 : Pl.nowO 7 e <;> cases a4 : (s == 1)
    all_goals
      go_wp2_with (first | (go_at_call 69; refine (specNow 7 k e _).mono ?_; rintro e9 w3 ⟨rfl, k3⟩; rw [a3]; have B3 := hide (B2.out.kept0 k3); have K3 := hide (K2.out.trans k3); have d0 := B3.out.cell (i := 0) rfl; have d1 := B3.out.cell (i := 1) rfl; have d2 := B3.out.cell (i := 2) rfl; have d3 := B3.out.cell (i := 3) rfl; have d4 := B3.out.cell (i := 4) rfl; have d5 := B3.out.cell (i := 5) rfl; have d6 := B3.out.cell (i := 6) rfl; clear k3) | (go_at_call 70; have z9 := B3; refine (specZero 7 k e _).mono ?_; rintro e9 w4 ⟨rfl, k4⟩; rw [hZ]; have B4 := hide (B3.out.kept0 k4); have K4 := hide (K3.out.trans k4); have f0 := B4.out.cell (i := 0) rfl; have f1 := B4.out.cell (i := 1) rfl; have f2 := B4.out.cell (i := 2) rfl; have f3 := B4.out.cell (i := 3) rfl; have f4 := B4.out.cell (i := 4) rfl; have f5 := B4.out.cell (i := 5) rfl; have f6 := B4.out.cell (i := 6) rfl; clear k4) | (go_at_call 70; refine (specZero 7 k e _).mono ?_; rintro e9 w4 ⟨rfl, k4⟩; rw [hZ]; have B4 := hide (B2.out.kept0 k4); have K4 := hide (K2.out.trans k4); have f0 := B4.out.cell (i := 0) rfl; have f1 := B4.out.cell (i := 1) rfl; have f2 := B4.out.cell (i := 2) rfl; have f3 := B4.out.cell (i := 3) rfl; have f4 := B4.out.cell (i := 4) rfl; have f5 := B4.out.cell (i := 5) rfl; have f6 := B4.out.cell (i := 6) rfl; clear k4))
      go_ret
      exact ⟨rB (by rw [G.out, KND.out] <;> first | rfl | (simp only [a1, a2, a3, a4, hZ]; done) | (simp only [a1, a2, a3, a4, hZ]; rfl) | simp [a1, a2, a3, a4, hZ]), by first | exact K4.out | exact K3.out | exact K2.out⟩
  · obtain ⟨q1, q2, q3, q4, q5, q6, q7, q8, q9, q10, q11, q12, q13, q14, q15, q16, q17, q18, q19⟩ := hno
    have KND : Hid (Pl.inKind ⟨op, 2, r, 7, k, e, s⟩ = false) := hide (by simp [Pl.inKind, q1, q2, q3, q4, q5, q6, q7, q8, q9, q10, q11, q12, q13, q14, q15, q16, q17, q18, q19])
    go_wp2_with fail
    go_ret
    exact ⟨rB (by rw [G.out, KND.out]), K2.out⟩
end Go.Proofs.Ytmkcbgnldnefmaa

namespace Go.Proofs.Ytmkcbgnldnefmaa
open Go.RowKit
set_option linter.unusedVariables false
set_option linter.unusedSimpArgs false
set_option maxRecDepth 100000 in
set_option maxHeartbeats 4000000 in
theorem specGoodIns (w : World) (op z r m k e s : Int) :
    Calls Try.prog 47 #[.agg (inA op z r m k e s)] w fun r' w' => r' = .returned (.bool (Pl.inOk ⟨op, z, r, m, k, e, s⟩)) ∧ Kept 0 0 w w' := by
  have K0 := hide (kept_alloc w (.cells (inA op z r m k e s) 55))
  have B0 := hide (Blk.new w (inA op z r m k e s) 55)
  cases h1 : (decide (z = 1) || decide (z = 2))
  · have G : Hid (Pl.inOk ⟨op, z, r, m, k, e, s⟩ = false) := hide (by simp only [Pl.inOk, Pl.inBase, h1]; rfl)
    go_enter Try.func47, Try.ntmps47
    go_wp2_with (first | (go_at_call 65; refine (specSize _ _).mono ?_; rintro e9 w' ⟨rfl, hw⟩; have hw2 := hw.symm; clear hw; subst hw2; rw [h1]))
    go_ret
    exact ⟨rB G.out.symm, K0.out⟩
  · cases h2 : Pl.within r 0 3
    · have G : Hid (Pl.inOk ⟨op, z, r, m, k, e, s⟩ = false) := hide (by simp only [Pl.inOk, Pl.inBase, h1, h2]; rfl)
      go_enter Try.func47, Try.ntmps47
      go_wp2_with (first | (go_at_call 65; refine (specSize _ _).mono ?_; rintro e9 w' ⟨rfl, hw⟩; have hw2 := hw.symm; clear hw; subst hw2; rw [h1]) | (go_at_call 31; refine (l1In _ _ _ _).mono ?_; rintro e9 w' ⟨rfl, hw⟩; have hw2 := hw.symm; clear hw; subst hw2; rw [show (decide (0 ≤ r) && decide (r ≤ 3)) = Pl.within r 0 3 from rfl, h2]))
      go_ret
      exact ⟨rB G.out.symm, K0.out⟩
    · cases h3 : Pl.opOk m k e
      · have G : Hid (Pl.inOk ⟨op, z, r, m, k, e, s⟩ = false) := hide (by simp only [Pl.inOk, Pl.inBase, h1, h2, h3]; rfl)
        go_enter Try.func47, Try.ntmps47
        go_wp2_with (first | (go_at_call 65; refine (specSize _ _).mono ?_; rintro e9 w' ⟨rfl, hw⟩; have hw2 := hw.symm; clear hw; subst hw2; rw [h1]) | (go_at_call 31; refine (l1In _ _ _ _).mono ?_; rintro e9 w' ⟨rfl, hw⟩; have hw2 := hw.symm; clear hw; subst hw2; rw [show (decide (0 ≤ r) && decide (r ≤ 3)) = Pl.within r 0 3 from rfl, h2]) | (go_at_call 66; refine (specGoodOperand _ m k e).mono ?_; rintro e9 w2 ⟨rfl, k2⟩; rw [h3]; have B2 := hide (B0.out.kept0 k2); have K2 := hide (K0.out.trans k2); have c0 := B2.out.cell (i := 0) rfl; have c1 := B2.out.cell (i := 1) rfl; have c2 := B2.out.cell (i := 2) rfl; have c3 := B2.out.cell (i := 3) rfl; have c4 := B2.out.cell (i := 4) rfl; have c5 := B2.out.cell (i := 5) rfl; have c6 := B2.out.cell (i := 6) rfl; clear k2))
        go_ret
        exact ⟨rB G.out.symm, K2.out⟩
      · cases h4 : Pl.within s 0 7
        · have G : Hid (Pl.inOk ⟨op, z, r, m, k, e, s⟩ = false) := hide (by simp only [Pl.inOk, Pl.inBase, h1, h2, h3, h4]; rfl)
          go_enter Try.func47, Try.ntmps47
          go_wp2_with (first | (go_at_call 31; have z9 := B2; refine (l1In _ _ _ _).mono ?_; rintro e9 w' ⟨rfl, hw⟩; have hw2 := hw.symm; clear hw; subst hw2; rw [show (decide (0 ≤ s) && decide (s ≤ 7)) = Pl.within s 0 7 from rfl, h4]) | (go_at_call 65; refine (specSize _ _).mono ?_; rintro e9 w' ⟨rfl, hw⟩; have hw2 := hw.symm; clear hw; subst hw2; rw [h1]) | (go_at_call 31; refine (l1In _ _ _ _).mono ?_; rintro e9 w' ⟨rfl, hw⟩; have hw2 := hw.symm; clear hw; subst hw2; rw [show (decide (0 ≤ r) && decide (r ≤ 3)) = Pl.within r 0 3 from rfl, h2]) | (go_at_call 66; refine (specGoodOperand _ m k e).mono ?_; rintro e9 w2 ⟨rfl, k2⟩; rw [h3]; have B2 := hide (B0.out.kept0 k2); have K2 := hide (K0.out.trans k2); have c0 := B2.out.cell (i := 0) rfl; have c1 := B2.out.cell (i := 1) rfl; have c2 := B2.out.cell (i := 2) rfl; have c3 := B2.out.cell (i := 3) rfl; have c4 := B2.out.cell (i := 4) rfl; have c5 := B2.out.cell (i := 5) rfl; have c6 := B2.out.cell (i := 6) rfl; clear k2))
          go_ret
          exact ⟨rB G.out.symm, K2.out⟩
        · cases h6 : (m == 7)
          · clear K0 B0
            simp at h1
            rcases h1 with rfl | rfl
            · exact goodInsA1 w op r m k e s h2 h3 h4 h6
            · exact goodInsA2 w op r m k e s h2 h3 h4 h6
          · have hm : m = 7 := by simpa using h6
            subst hm
            have h1b := h1
            simp at h1b
            rcases h1b with rfl | rfl
            · cases h8 : decide (255 < e)
              · exact goodInsB1 w op r k e s h2 h3 h4 h8
              · have G : Hid (Pl.inOk ⟨op, 1, r, 7, k, e, s⟩ = false) := hide (by simp only [Pl.inOk, Pl.inBase, Pl.byteNow, h2, h3, h4, h8]; rfl)
                go_enter Try.func47, Try.ntmps47
                go_wp2_with (first | (go_at_call 31; have z9 := B2; refine (l1In _ _ _ _).mono ?_; rintro e9 w' ⟨rfl, hw⟩; have hw2 := hw.symm; clear hw; subst hw2; rw [show (decide (0 ≤ s) && decide (s ≤ 7)) = Pl.within s 0 7 from rfl, h4]) | (go_at_call 65; refine (specSize _ _).mono ?_; rintro e9 w' ⟨rfl, hw⟩; have hw2 := hw.symm; clear hw; subst hw2; rw [h1]) | (go_at_call 31; refine (l1In _ _ _ _).mono ?_; rintro e9 w' ⟨rfl, hw⟩; have hw2 := hw.symm; clear hw; subst hw2; rw [show (decide (0 ≤ r) && decide (r ≤ 3)) = Pl.within r 0 3 from rfl, h2]) | (go_at_call 66; refine (specGoodOperand _ 7 k e).mono ?_; rintro e9 w2 ⟨rfl, k2⟩; rw [h3]; have B2 := hide (B0.out.kept0 k2); have K2 := hide (K0.out.trans k2); have c0 := B2.out.cell (i := 0) rfl; have c1 := B2.out.cell (i := 1) rfl; have c2 := B2.out.cell (i := 2) rfl; have c3 := B2.out.cell (i := 3) rfl; have c4 := B2.out.cell (i := 4) rfl; have c5 := B2.out.cell (i := 5) rfl; have c6 := B2.out.cell (i := 6) rfl; clear k2))
                go_ret
                exact ⟨rB G.out.symm, K2.out⟩
            · exact goodInsB2 w op r k e s h2 h3 h4
end Go.Proofs.Ytmkcbgnldnefmaa

namespace Go.Proofs.Ytmkcbgnldnefmaa
open Go.RowKit
set_option linter.unusedVariables false
set_option linter.unusedSimpArgs false
set_option maxRecDepth 100000 in
set_option maxHeartbeats 4000000 in
theorem specEncode (w : World) (op z r m k e s : Int) (h : Pl.inOk ⟨op, z, r, m, k, e, s⟩ = true) : Calls Try.prog 48 #[.agg #[.int .i64 op, .int .i64 z, .int .i64 r, .int .i64 m, .int .i64 k, .int .i64 e, .int .i64 s]] w fun e' w' => ∃ (g c : Nat), e' = .returned (.slice (some ⟨g, 0, none⟩) (Pl.encode ⟨op, z, r, m, k, e, s⟩).length c) ∧ w.heap.size ≤ g ∧ g < w'.heap.size ∧ Own w' g (Pl.encode ⟨op, z, r, m, k, e, s⟩) ∧ Kept 0 0 w w' := by
  obtain ⟨a1, a2, a3, a4, a5, a6, a7, a8, a9, b1, b2, b3, b4, b5⟩ := Pl.modeR h
  simp only at a1 a2 a3 a4 a5 a6 a7 a8 a9 b1 b2 b3 b4 b5
  obtain ⟨c1, c2⟩ : 1 ≤ z ∧ z ≤ 2 := by omega
  obtain ⟨o1, o2, o3, o4, o5⟩ := orWord (op := op) (z := z) (r := r) (m := m) (k := k) (s := s) (by omega) (by omega) c1 c2 a4 a5 a6 a7 a8 a9 b3 b4
  have V : Hid (Pl.word1 ⟨op, z, r, m, k, e, s⟩ = op * 2048 + (z - 1) * 1024 + r * 256 + m * 32 + k * 8 + s) := hide rfl
  obtain ⟨W, hW⟩ : ∃ W, W = op * 2048 + (z - 1) * 1024 + r * 256 + m * 32 + k * 8 + s := ⟨_, rfl⟩
  rw [← hW] at o5 V
  clear hW b5
  have HI := hide h
  clear h
  have K0 := hide (kept_new (kept_alloc w (.cells #[.int .i64 op, .int .i64 z, .int .i64 r, .int .i64 m, .int .i64 k, .int .i64 e, .int .i64 s] 55)) (.cells #[.int .i64 W] 3))
  have P0 := hide ((Blk.new w #[.int .i64 op, .int .i64 z, .int .i64 r, .int .i64 m, .int .i64 k, .int .i64 e, .int .i64 s] 55).alloc (.cells #[.int .i64 W] 3))
  have B0 := Blk.new (w.alloc (.cells #[.int .i64 op, .int .i64 z, .int .i64 r, .int .i64 m, .int .i64 k, .int .i64 e, .int .i64 s] 55)) #[.int .i64 W] 3
  simp only [World.size_alloc] at B0
  replace B0 := hide B0
  cases hE : Pl.extM m
  · have E : Hid (Pl.encode ⟨op, z, r, m, k, e, s⟩ = [W]) := hide (by simp [Pl.encode, hE, V.out])
    go_enter Try.func48, Try.ntmps48
    go_wp2_with (first | (go_at_call 71; refine (specExtM _ _).mono ?_; rintro e9 w' ⟨rfl, hw⟩; have hw2 := hw.symm; clear hw; subst hw2; rw [hE]))
    go_ret
    have l0 := B0.out.lt
    exact ⟨_, _, by rw [E.out]; rfl, by omega, l0, by rw [E.out]; exact own_of_blk (xs := [W]) B0.out, K0.out⟩
  · have E : Hid (Pl.encode ⟨op, z, r, m, k, e, s⟩ = [W, e]) := hide (by simp [Pl.encode, hE, V.out])
    obtain ⟨i, hi0, hz0, hz1, hz2⟩ := info_parts Try.info3
    have OW : Hid (World.ownsRow ((w.alloc (.cells #[.int .i64 op, .int .i64 z, .int .i64 r, .int .i64 m, .int .i64 k, .int .i64 e, .int .i64 s] 55)).alloc (.cells #[.int .i64 W] 3)) (w.heap.size + 1) 3 1 (.slice (some ⟨w.heap.size + 1, 0, none⟩) 1 1) 1 [.int .i64 W]) := hide ⟨by simp, .inr ⟨w.heap.size + 1, 1, #[.int .i64 W], rfl, Nat.le_refl _, B0.out, Nat.le_refl _, by unfold maxLen; omega, by simp, by simp⟩⟩
    go_enter Try.func48, Try.ntmps48
    have BN := Blk.new ((w.alloc (.cells #[.int .i64 op, .int .i64 z, .int .i64 r, .int .i64 m, .int .i64 k, .int .i64 e, .int .i64 s] 55)).alloc (.cells #[.int .i64 W] 3)) #[.int .i64 e] 3
    simp only [World.size_alloc] at BN
    replace BN := hide BN
    have H63 : Hid (1 + 1 ≤ maxLen) := hide (by unfold maxLen; omega)
    go_wp2_with (first | (go_at_call 71; refine (specExtM _ _).mono ?_; rintro e9 w' ⟨rfl, hw⟩; have hw2 := hw.symm; clear hw; subst hw2; rw [hE]) | (at_builtin; refine wpList_append_lies _ rfl (.tmp 34) (.tmp 38) 22 rfl (w.heap.size + 1) 3 i (.int .i64 0) 1 8 Try.underlying22 hi0 hz0 hz1 hz2 rfl (by decide) (.slice (some ⟨w.heap.size + 1, 0, none⟩) 1 1) 1 [.int .i64 W] rfl (OW.out.alloc _) ⟨w.heap.size + 1 + 1, 0, none⟩ 1 1 [.int .i64 e] rfl rfl (World.news_of_block (cs := #[.int .i64 e]) (t := 3) (fr := (0, 0)) BN.out) (by simp [Value.oneCell']) (by decide) H63.out (by decide) (by simp) (w.heap.size + 1 + 1 + 1) (by simp) ?_))
    intro g2 c2 w2 o2 k2 hg2 l2
    have kk := kept_row k2 (lo := w.heap.size + 1) (hi := w.heap.size + 1 + 1) (by intro j hj; have h5 : w.heap.size + 1 = j := Option.some.inj hj; omega)
    obtain ⟨p3, p4⟩ := o2.lt g2 rfl
    have K2 := hide (kept_over (kept_new K0.out (.cells #[.int .i64 e] 3)) kk (by omega))
    have PN : Hid (Own w2 g2 [W, e]) := hide (own_of_row (xs := [W, e]) o2)
    clear o2 k2 kk
    go_wp2_with fail
    go_ret
    exact ⟨g2, c2, by rw [E.out]; rfl, by omega, p4, by rw [E.out]; exact PN.out, K2.out⟩
theorem specEncodeIns (w : World) (op z r m k e s : Int) : Calls Try.prog 17 #[.agg #[.int .i64 op, .int .i64 z, .int .i64 r, .int .i64 m, .int .i64 k, .int .i64 e, .int .i64 s]] w fun e' w' => ∃ (a : Option Addr) (c : Nat), e' = .returned (.tuple #[.slice a (Pl.enc ⟨op, z, r, m, k, e, s⟩).length c, .bool (Pl.inOk ⟨op, z, r, m, k, e, s⟩)]) ∧ SlotIn w' w.heap.size w'.heap.size a (Pl.enc ⟨op, z, r, m, k, e, s⟩) ∧ Kept 0 0 w w' := by
  have K0 := hide (kept_alloc w (.cells #[.int .i64 op, .int .i64 z, .int .i64 r, .int .i64 m, .int .i64 k, .int .i64 e, .int .i64 s] 55))
  have B0 := hide (Blk.new w #[.int .i64 op, .int .i64 z, .int .i64 r, .int .i64 m, .int .i64 k, .int .i64 e, .int .i64 s] 55)
  cases h : Pl.inOk ⟨op, z, r, m, k, e, s⟩
  · have E : Hid (Pl.enc ⟨op, z, r, m, k, e, s⟩ = []) := hide (by simp [Pl.enc, h])
    go_enter Try.func17, Try.ntmps17
    go_wp2_with (first | (go_at_call 47; refine (specGoodIns _ op z r m k e s).mono ?_; rintro e9 w2 ⟨rfl, k2⟩; rw [h]))
    go_ret2
    exact ⟨none, 0, by rw [E.out]; rfl, .inl ⟨rfl, E.out⟩, K0.out.trans k2⟩
  · have E : Hid (Pl.enc ⟨op, z, r, m, k, e, s⟩ = Pl.encode ⟨op, z, r, m, k, e, s⟩) := hide (by simp [Pl.enc, h])
    go_enter Try.func17, Try.ntmps17
    go_wp2_with (first | (go_at_call 47; refine (specGoodIns _ op z r m k e s).mono ?_; rintro e9 w2 ⟨rfl, k2⟩; rw [h]; have B2 := hide (B0.out.kept0 k2); have K2 := hide (K0.out.trans k2); have c0 := B2.out.cell (i := 0) rfl; have c1 := B2.out.cell (i := 1) rfl; have c2 := B2.out.cell (i := 2) rfl; have c3 := B2.out.cell (i := 3) rfl; have c4 := B2.out.cell (i := 4) rfl; have c5 := B2.out.cell (i := 5) rfl; have c6 := B2.out.cell (i := 6) rfl; clear k2) | (go_at_call 48; refine (specEncode _ op z r m k e s h).mono ?_; rintro e9 w3 ⟨g, c, rfl, hg1, hg2, hO, k3⟩; have S2 := hide K2.out.size; have HO := hide hO; have L1 := hide hg1; have L2 := hide hg2; have K3 := hide (K2.out.trans k3); clear hg1 hg2 hO k3))
    go_ret2
    have s2 := S2.out
    have l1 := L1.out
    exact ⟨some ⟨g, 0, none⟩, c, by rw [E.out]; rfl, .inr ⟨g, rfl, by omega, L2.out, by rw [E.out]; exact HO.out⟩, K3.out⟩
end Go.Proofs.Ytmkcbgnldnefmaa

namespace Go.Proofs.Ytmkcbgnldnefmaa.Pl
set_option linter.unusedVariables false
def sameIn (a b : In) : Bool := (a.op == b.op) && ((a.z == b.z) && ((a.r == b.r) && ((a.m == b.m) && ((a.k == b.k) && ((a.e == b.e) && (a.s == b.s))))))
/-- it comes back from its words -/
def fits (x : In) : Bool := sameIn (decode (word1 x % 65536) x.e) x
def fitZ (x : In) : Bool := !(x.m == 7) || (!(x.z == 1) || within x.e 0 255)
theorem decode_e (w v : Int) : (decode w v).e = bif extM (w / 32 % 8) then v else 0 := by
  show (if longW w = 2 then v else 0) = _
  unfold longW
  cases extM (w / 32 % 8) <;> simp
theorem fits_iff (x : In) : fits x = true ↔ (0 ≤ x.op ∧ x.op ≤ 31) ∧ (1 ≤ x.z ∧ x.z ≤ 2) ∧ (0 ≤ x.r ∧ x.r ≤ 3) ∧ (0 ≤ x.m ∧ x.m ≤ 7) ∧ (0 ≤ x.k ∧ x.k ≤ 3) ∧ (0 ≤ x.s ∧ x.s ≤ 7) ∧ (extM x.m = false → x.e = 0) := by
  obtain ⟨op, z, r, m, k, e, s⟩ := x
  unfold fits
  have hW : word1 ⟨op, z, r, m, k, e, s⟩ % 65536 = (op * 2048 + (z - 1) * 1024 + r * 256 + m * 32 + k * 8 + s) % 65536 := rfl
  generalize word1 ⟨op, z, r, m, k, e, s⟩ % 65536 = W at hW
  unfold sameIn
  rw [decode_e]
  simp only [decode, Bool.and_eq_true, beq_iff_eq]
  constructor
  · rintro ⟨h1, h2, h3, h4, h5, h6, h7⟩
    refine ⟨⟨by omega, by omega⟩, ⟨by omega, by omega⟩, ⟨by omega, by omega⟩, ⟨by omega, by omega⟩, ⟨by omega, by omega⟩, ⟨by omega, by omega⟩, fun q => ?_⟩
    rw [h4, q] at h6
    simpa using h6.symm
  · rintro ⟨⟨a1, a2⟩, ⟨b1, b2⟩, ⟨c1, c2⟩, ⟨d1, d2⟩, ⟨e1, e2⟩, ⟨f1, f2⟩, g⟩
    have hm : W / 32 % 8 = m := by omega
    refine ⟨by omega, by omega, by omega, hm, by omega, ?_, by omega⟩
    rw [hm]
    cases q : extM m
    · rw [g q]; rfl
    · rfl
/-- what is asked one behind the other is what makes a good one -/
theorem ok_of_fits (x : In) : inOk x = (fits x && (opOk x.m x.k x.e && (fitZ x && inKind x))) := by
  cases hf : fits x
  · cases hq : inOk x
    · rfl
    · exfalso
      have h := modeR hq
      have : fits x = true := (fits_iff x).2 ⟨by omega, by omega, by omega, by omega, by omega, by omega, h.2.2.2.2.2.2.2.2.2.2.2.2.2⟩
      rw [hf] at this; cases this
  · obtain ⟨a, b, c, d, e, f, g⟩ := (fits_iff x).1 hf
    obtain ⟨op, z, r, m, k, e', s⟩ := x
    simp only at a b c d e f g
    unfold inOk inBase fitZ byteNow
    simp only
    have w1 : within r 0 3 = true := by simp [within]; omega
    have w2 : within s 0 7 = true := by simp [within]; omega
    have w3 : (decide (z = 1) || decide (z = 2)) = true := by simp; omega
    rw [w1, w2, w3]
    cases ho : opOk m k e'
    · simp
    · have : 0 ≤ e' := by simp [opOk, wordOk, within] at ho; omega
      have w4 : (!((m == 7) && (z == 1) && decide (255 < e'))) = (!(m == 7) || (!(z == 1) || within e' 0 255)) := by
        rw [Bool.eq_iff_iff]; simp [within]; omega
      rw [w4]
      simp
end Go.Proofs.Ytmkcbgnldnefmaa.Pl

namespace Go.Proofs.Ytmkcbgnldnefmaa
open Go.RowKit
set_option linter.unusedVariables false

theorem signedAs8 (v : Int) (w : World) (lo : -9223372036854775808 ≤ v) (hi : v ≤ 9223372036854775807) :
    Calls Try.prog 103 #[iv v] w fun e w' => e = .returned (.tuple #[iv (Pl.sgnV 1 v), .bool (Pl.okv 1 v)]) ∧ w' = w := by
  by_cases h : 0 ≤ v ∧ v < 256
  · obtain ⟨h0, h1⟩ := h
    have hs : IntKind.u8.signed = false := rfl
    have hm : IntKind.u8.max = 255 := by decide
    have hb : bits .xor .u8 255 0 = 255 := by decide
    by_cases h : 127 < v
    all_goals
      go_enter Try.func103, Try.ntmps103
      go_wp2
      go_ret2
      exact ⟨rIB (by simp [Pl.sgnV, Pl.okv, Pl.sg, Pl.top, h0, h1]; omega) (by simp [Pl.okv, Pl.top, h0, h1]), rfl⟩
  · go_enter Try.func103, Try.ntmps103
    go_wp2
    go_ret2
    have k : Pl.okv 1 v = false := by
      cases c : Pl.okv 1 v
      · rfl
      · have := Pl.top_ok c; omega
    exact ⟨rIB (by simp [Pl.sgnV, k]) k.symm, rfl⟩

theorem signedAs16 (v : Int) (w : World) (lo : -9223372036854775808 ≤ v) (hi : v ≤ 9223372036854775807) :
    Calls Try.prog 104 #[iv v] w fun e w' => e = .returned (.tuple #[iv (Pl.sgnV 2 v), .bool (Pl.okv 2 v)]) ∧ w' = w := by
  by_cases h : 0 ≤ v ∧ v < 65536
  · obtain ⟨h0, h1⟩ := h
    have hs : IntKind.u16.signed = false := rfl
    have hm : IntKind.u16.max = 65535 := by decide
    have hb : bits .xor .u16 65535 0 = 65535 := by decide
    by_cases h : 32767 < v
    all_goals
      go_enter Try.func104, Try.ntmps104
      go_wp2
      go_ret2
      exact ⟨rIB (by simp [Pl.sgnV, Pl.okv, Pl.sg, Pl.top, h0, h1]; omega) (by simp [Pl.okv, Pl.top, h0, h1]), rfl⟩
  · have hw : IntKind.u16.wrap v = v % 65536 := IntKind.wrap_u16 v
    go_enter Try.func104, Try.ntmps104
    go_wp2
    go_ret2
    have k : Pl.okv 2 v = false := by
      cases c : Pl.okv 2 v
      · rfl
      · have := Pl.top_ok c; omega
    exact ⟨rIB (by simp [Pl.sgnV, k]) k.symm, rfl⟩

theorem signedOf (s v : Int) (w : World) (lo : -9223372036854775808 ≤ v) (hi : v ≤ 9223372036854775807) :
    Calls Try.prog 97 #[iv s, iv v] w fun e w' => e = .returned (.tuple #[iv (Pl.sgnV s v), .bool (Pl.okv s v)]) ∧ w' = w := by
  by_cases h1 : s = 1
  · subst h1
    go_enter Try.func97, Try.ntmps97
    go_wp2_with fail
    refine (signedAs8 v _ lo hi).mono ?_
    rintro e w' ⟨rfl, rfl⟩
    go_wp2_with fail
    go_ret2
    exact ⟨rfl, rfl⟩
  · by_cases h2 : s = 2
    · subst h2
      go_enter Try.func97, Try.ntmps97
      go_wp2_with fail
      refine (signedAs16 v _ lo hi).mono ?_
      rintro e w' ⟨rfl, rfl⟩
      go_wp2_with fail
      go_ret2
      exact ⟨rfl, rfl⟩
    · have k : Pl.okv s v = false := by simp [Pl.okv, h1, h2]
      have k1 : (s == 1) = false := by simpa using h1
      have k2 : (s == 2) = false := by simpa using h2
      go_enter Try.func97, Try.ntmps97
      go_wp2_with fail
      go_ret2
      exact ⟨rIB (by simp [Pl.sgnV, k]) k.symm, rfl⟩

end Go.Proofs.Ytmkcbgnldnefmaa

namespace Go.Proofs.Ytmkcbgnldnefmaa
open Go.RowKit
set_option linter.unusedVariables false
theorem wfB {v : Int} (h : (Lit.int .i64 v).wf = true) : -9223372036854775808 ≤ v ∧ v ≤ 9223372036854775807 := bounds_i64 h
theorem okv2 (v : Int) : Pl.okv 2 v = Pl.wordOk v := by
  unfold Pl.okv Pl.wordOk Pl.within Pl.top
  rw [Bool.eq_iff_iff]; simp; omega
theorem isWord (v : Int) (w : World) (lo : -9223372036854775808 ≤ v) (hi : v ≤ 9223372036854775807) :
    Calls Try.prog 83 #[iv v] w fun e w' => e = .returned (.bool (Pl.wordOk v)) ∧ w' = w := by
  go_enter Try.func83, Try.ntmps83
  go_wp2_with (go_at_call 97; refine (signedOf _ _ _ lo hi).mono ?_; rintro e w' ⟨rfl, hw⟩; have hw2 := hw.symm; clear hw; subst hw2; rw [okv2])
  go_ret
  exact ⟨rfl, rfl⟩
theorem isReg (k : Int) (w : World) : Calls Try.prog 90 #[iv k] w fun e w' => e = .returned (.bool (Pl.within k 0 3)) ∧ w' = w := by
  by_cases h0 : 0 ≤ k
  · by_cases h1 : k ≤ 3
    · go_enter Try.func90, Try.ntmps90
      go_wp2
      go_ret
      exact ⟨rB (by simp [Pl.within, h0, h1]), rfl⟩
    · go_enter Try.func90, Try.ntmps90
      go_wp2
      go_ret
      exact ⟨rB (by simp [Pl.within, h0]; omega), rfl⟩
  · go_enter Try.func90, Try.ntmps90
    go_wp2
    go_ret
    exact ⟨rB (by simp [Pl.within]; omega), rfl⟩
end Go.Proofs.Ytmkcbgnldnefmaa

