/- What the model's GoodIns answers, for operands that are numbers in the code and size 2. What the model's GoodIns answers, for every instruction. What the models of DecodeIns and EncodeIns answer, for every argument. What the model of EncodeAll answers, for every list. An instruction whose fields fit into its words: plain arithmetic; no Go text is spoken of here. -/
import Derived.Test.YtmkcbgnldnefmaaEA1
import Derived.Deep.DeepCutAuto
import Derived.Test.YtmkcbgnldnefmaaEA2
import Derived.Test.YtmkcbgnldnefmaaEA3
import Derived.Deep.AppendLies
import Derived.StillTailTactics
namespace Go.Proofs.Ytmkcbgnldnefmaa
open Go.RowKit
set_option linter.unusedVariables false
set_option linter.unusedSimpArgs false
set_option maxRecDepth 100000 in
set_option maxHeartbeats 16000000 in
theorem goodInsB2 (w : World) (op r k e s : Int) (h2 : Pl.within r 0 3 = true) (h3 : Pl.opOk 7 k e = true) (h4 : Pl.within s 0 7 = true) :
    Calls Try.prog 47 #[.agg (inA op 2 r 7 k e s)] w fun r' w' => r' = .returned (.bool (Pl.inOk ⟨op, 2, r, 7, k, e, s⟩)) ∧ Kept 0 0 w w' := by
  have K0 := hide (kept_alloc w (.cells (inA op 2 r 7 k e s) 55))
  have B0 := hide (Blk.new w (inA op 2 r 7 k e s) 55)
  have G : Hid (Pl.inOk ⟨op, 2, r, 7, k, e, s⟩ = Pl.inKind ⟨op, 2, r, 7, k, e, s⟩) := hide (by simp only [Pl.inOk, Pl.inBase, Pl.byteNow, h2, h3, h4]; rfl)
  have hZ : Pl.zeroO 7 k e = false := rfl
  go_enter Try.func47, Try.ntmps47
  go_upto_region 5 with (first | (go_at_call 31; have z9 := B2; refine (l1In _ _ _ _).mono ?_; rintro e9 w' ⟨rfl, hw⟩; have hw2 := hw.symm; clear hw; subst hw2; rw [show (decide (0 ≤ s) && decide (s ≤ 7)) = Pl.within s 0 7 from rfl, h4]) | (go_at_call 65; refine (l1Size2 _).mono ?_; rintro e9 w' ⟨rfl, hw⟩; have hw2 := hw.symm; clear hw; subst hw2) | (go_at_call 31; refine (l1In _ _ _ _).mono ?_; rintro e9 w' ⟨rfl, hw⟩; have hw2 := hw.symm; clear hw; subst hw2; rw [show (decide (0 ≤ r) && decide (r ≤ 3)) = Pl.within r 0 3 from rfl, h2]) | (go_at_call 66; refine (specGoodOperand _ 7 k e).mono ?_; rintro e9 w2 ⟨rfl, k2⟩; rw [h3]; have B2 := hide (B0.out.kept0 k2); have K2 := hide (K0.out.trans k2); have c0 := B2.out.cell (i := 0) rfl; have c1 := B2.out.cell (i := 1) rfl; have c2 := B2.out.cell (i := 2) rfl; have c3 := B2.out.cell (i := 3) rfl; have c4 := B2.out.cell (i := 4) rfl; have c5 := B2.out.cell (i := 5) rfl; have c6 := B2.out.cell (i := 6) rfl; clear k2))
  rcases opsAll op with rfl | rfl | rfl | rfl | rfl | rfl | rfl | rfl | rfl | rfl | rfl | rfl | rfl | rfl | rfl | rfl | rfl | rfl | rfl | hno
  · have KND : Hid (Pl.inKind ⟨1, 2, r, 7, k, e, s⟩ = ((s == 0) && (((2 : Int) == 2) || !((7 : Int) == 1)))) := hide rfl
    cases a1 : (s == 0)
    all_goals
      go_wp2_with fail
      go_ret
      exact ⟨rB (by rw [G.out, KND.out] <;> first | rfl | (simp only [a1, hZ]; done) | (simp only [a1, hZ]; rfl) | simp [a1, hZ]), by first | exact K4.out | exact K3.out | exact K2.out⟩
  · have KND : Hid (Pl.inKind ⟨2, 2, r, 7, k, e, s⟩ = ((s == 0) && (((7 : Int) == 0) || Pl.memM (7 : Int)))) := hide rfl
    cases a1 : (s == 0)
    all_goals
      go_wp2_with (first | (go_at_call 67; refine (specMem _ _).mono ?_; rintro e9 w' ⟨rfl, hw⟩; have hw2 := hw.symm; clear hw; subst hw2))
      go_ret
      exact ⟨rB (by rw [G.out, KND.out] <;> first | rfl | (simp only [a1, hZ]; done) | (simp only [a1, hZ]; rfl) | simp [a1, hZ]), by first | exact K4.out | exact K3.out | exact K2.out⟩
  · have KND : Hid (Pl.inKind ⟨3, 2, r, 7, k, e, s⟩ = ((s == 0) && (((2 : Int) == 2) || !((7 : Int) == 1)))) := hide rfl
    cases a1 : (s == 0)
    all_goals
      go_wp2_with fail
      go_ret
      exact ⟨rB (by rw [G.out, KND.out] <;> first | rfl | (simp only [a1, hZ]; done) | (simp only [a1, hZ]; rfl) | simp [a1, hZ]), by first | exact K4.out | exact K3.out | exact K2.out⟩
  · have KND : Hid (Pl.inKind ⟨4, 2, r, 7, k, e, s⟩ = ((s == 0) && (((2 : Int) == 2) || !((7 : Int) == 1)))) := hide rfl
    cases a1 : (s == 0)
    all_goals
      go_wp2_with fail
      go_ret
      exact ⟨rB (by rw [G.out, KND.out] <;> first | rfl | (simp only [a1, hZ]; done) | (simp only [a1, hZ]; rfl) | simp [a1, hZ]), by first | exact K4.out | exact K3.out | exact K2.out⟩
  · have KND : Hid (Pl.inKind ⟨5, 2, r, 7, k, e, s⟩ = ((s == 0) && (((2 : Int) == 2) || !((7 : Int) == 1)))) := hide rfl
    cases a1 : (s == 0)
    all_goals
      go_wp2_with fail
      go_ret
      exact ⟨rB (by rw [G.out, KND.out] <;> first | rfl | (simp only [a1, hZ]; done) | (simp only [a1, hZ]; rfl) | simp [a1, hZ]), by first | exact K4.out | exact K3.out | exact K2.out⟩
  · have KND : Hid (Pl.inKind ⟨6, 2, r, 7, k, e, s⟩ = ((s == 0) && (((2 : Int) == 2) || !((7 : Int) == 1)))) := hide rfl
    cases a1 : (s == 0)
    all_goals
      go_wp2_with fail
      go_ret
      exact ⟨rB (by rw [G.out, KND.out] <;> first | rfl | (simp only [a1, hZ]; done) | (simp only [a1, hZ]; rfl) | simp [a1, hZ]), by first | exact K4.out | exact K3.out | exact K2.out⟩
  · have KND : Hid (Pl.inKind ⟨7, 2, r, 7, k, e, s⟩ = ((s == 0) && (((2 : Int) == 2) || !((7 : Int) == 1)))) := hide rfl
    cases a1 : (s == 0)
    all_goals
      go_wp2_with fail
      go_ret
      exact ⟨rB (by rw [G.out, KND.out] <;> first | rfl | (simp only [a1, hZ]; done) | (simp only [a1, hZ]; rfl) | simp [a1, hZ]), by first | exact K4.out | exact K3.out | exact K2.out⟩
  · have KND : Hid (Pl.inKind ⟨8, 2, r, 7, k, e, s⟩ = ((s == 0) && (((2 : Int) == 2) || !((7 : Int) == 1)))) := hide rfl
    cases a1 : (s == 0)
    all_goals
      go_wp2_with fail
      go_ret
      exact ⟨rB (by rw [G.out, KND.out] <;> first | rfl | (simp only [a1, hZ]; done) | (simp only [a1, hZ]; rfl) | simp [a1, hZ]), by first | exact K4.out | exact K3.out | exact K2.out⟩
  · have KND : Hid (Pl.inKind ⟨9, 2, r, 7, k, e, s⟩ = (((2 : Int) == 2) && (s == 0))) := hide rfl
    go_wp2_with fail
    go_ret
    exact ⟨rB (by rw [G.out, KND.out] <;> first | rfl | (simp only [hZ]; done) | (simp only [hZ]; rfl) | simp [hZ]), by first | exact K4.out | exact K3.out | exact K2.out⟩
  · have KND : Hid (Pl.inKind ⟨10, 2, r, 7, k, e, s⟩ = ((((2 : Int) == 2) && (s == 0)) && Pl.plainM (7 : Int))) := hide rfl
    cases a1 : (s == 0)
    all_goals
      go_wp2_with (first | (go_at_call 68; refine (specPlain _ _).mono ?_; rintro e9 w' ⟨rfl, hw⟩; have hw2 := hw.symm; clear hw; subst hw2))
      go_ret
      exact ⟨rB (by rw [G.out, KND.out] <;> first | rfl | (simp only [a1, hZ]; done) | (simp only [a1, hZ]; rfl) | simp [a1, hZ]), by first | exact K4.out | exact K3.out | exact K2.out⟩
  · have KND : Hid (Pl.inKind ⟨11, 2, r, 7, k, e, s⟩ = (((r == 0) && decide (s ≤ 3)) && (((7 : Int) == 0) || Pl.memM (7 : Int)))) := hide rfl
    cases a1 : (r == 0) <;> cases a2 : decide (s ≤ 3)
    all_goals
      go_wp2_with (first | (go_at_call 67; refine (specMem _ _).mono ?_; rintro e9 w' ⟨rfl, hw⟩; have hw2 := hw.symm; clear hw; subst hw2))
      go_ret
      exact ⟨rB (by rw [G.out, KND.out] <;> first | rfl | (simp only [a1, a2, hZ]; done) | (simp only [a1, a2, hZ]; rfl) | simp [a1, a2, hZ]), by first | exact K4.out | exact K3.out | exact K2.out⟩
  · have KND : Hid (Pl.inKind ⟨12, 2, r, 7, k, e, s⟩ = (((7 : Int) == 0))) := hide rfl
    go_wp2_with fail
    go_ret
    exact ⟨rB (by rw [G.out, KND.out] <;> first | rfl | (simp only [hZ]; done) | (simp only [hZ]; rfl) | simp [hZ]), by first | exact K4.out | exact K3.out | exact K2.out⟩
  · have KND : Hid (Pl.inKind ⟨13, 2, r, 7, k, e, s⟩ = ((((2 : Int) == 2) && decide (r ≤ 1)) && ((7 : Int) == 7))) := hide rfl
    cases a1 : decide (r ≤ 1)
    all_goals
      go_wp2_with fail
      go_ret
      exact ⟨rB (by rw [G.out, KND.out] <;> first | rfl | (simp only [a1, hZ]; done) | (simp only [a1, hZ]; rfl) | simp [a1, hZ]), by first | exact K4.out | exact K3.out | exact K2.out⟩
  · have KND : Hid (Pl.inKind ⟨14, 2, r, 7, k, e, s⟩ = (((((2 : Int) == 2) && (r == 0)) && decide (s ≤ 1)) && Pl.plainM (7 : Int))) := hide rfl
    cases a1 : (r == 0) <;> cases a2 : decide (s ≤ 1)
    all_goals
      go_wp2_with (first | (go_at_call 68; refine (specPlain _ _).mono ?_; rintro e9 w' ⟨rfl, hw⟩; have hw2 := hw.symm; clear hw; subst hw2))
      go_ret
      exact ⟨rB (by rw [G.out, KND.out] <;> first | rfl | (simp only [a1, a2, hZ]; done) | (simp only [a1, a2, hZ]; rfl) | simp [a1, a2, hZ]), by first | exact K4.out | exact K3.out | exact K2.out⟩
  · have KND : Hid (Pl.inKind ⟨15, 2, r, 7, k, e, s⟩ = (bif s == 3 then (((2 : Int) == 2) && (r == 0)) && Pl.nowO (7 : Int) e else ((((2 : Int) == 2) && decide (s ≤ 6)) && Pl.zeroO (7 : Int) k e) && (decide (3 < s) || (r == 0)))) := hide rfl
    cases a0 : (s == 3) <;> cases a1 : (r == 0) <;> cases a2 : decide (s ≤ 6) <;> cases a4 : decide (3 < s)
    all_goals
      go_wp2_with (first | (go_at_call 69; refine (specNow 7 k e _).mono ?_; rintro e9 w3 ⟨rfl, k3⟩; have B3 := hide (B2.out.kept0 k3); have K3 := hide (K2.out.trans k3); have d0 := B3.out.cell (i := 0) rfl; have d1 := B3.out.cell (i := 1) rfl; have d2 := B3.out.cell (i := 2) rfl; have d3 := B3.out.cell (i := 3) rfl; have d4 := B3.out.cell (i := 4) rfl; have d5 := B3.out.cell (i := 5) rfl; have d6 := B3.out.cell (i := 6) rfl; clear k3) | (go_at_call 70; have z9 := B3; refine (specZero 7 k e _).mono ?_; rintro e9 w4 ⟨rfl, k4⟩; rw [hZ]; have B4 := hide (B3.out.kept0 k4); have K4 := hide (K3.out.trans k4); have f0 := B4.out.cell (i := 0) rfl; have f1 := B4.out.cell (i := 1) rfl; have f2 := B4.out.cell (i := 2) rfl; have f3 := B4.out.cell (i := 3) rfl; have f4 := B4.out.cell (i := 4) rfl; have f5 := B4.out.cell (i := 5) rfl; have f6 := B4.out.cell (i := 6) rfl; clear k4) | (go_at_call 70; refine (specZero 7 k e _).mono ?_; rintro e9 w4 ⟨rfl, k4⟩; rw [hZ]; have B4 := hide (B2.out.kept0 k4); have K4 := hide (K2.out.trans k4); have f0 := B4.out.cell (i := 0) rfl; have f1 := B4.out.cell (i := 1) rfl; have f2 := B4.out.cell (i := 2) rfl; have f3 := B4.out.cell (i := 3) rfl; have f4 := B4.out.cell (i := 4) rfl; have f5 := B4.out.cell (i := 5) rfl; have f6 := B4.out.cell (i := 6) rfl; clear k4))
      go_ret
      exact ⟨rB (by rw [G.out, KND.out] <;> first | rfl | (simp only [a0, a1, a2, a4, hZ]; done) | (simp only [a0, a1, a2, a4, hZ]; rfl) | simp [a0, a1, a2, a4, hZ]), by first | exact K4.out | exact K3.out | exact K2.out⟩
  · have KND : Hid (Pl.inKind ⟨16, 2, r, 7, k, e, s⟩ = ((((2 : Int) == 2) && (s == 0)) && !((7 : Int) == 1))) := hide rfl
    cases a1 : (s == 0)
    all_goals
      go_wp2_with fail
      go_ret
      exact ⟨rB (by rw [G.out, KND.out] <;> first | rfl | (simp only [a1, hZ]; done) | (simp only [a1, hZ]; rfl) | simp [a1, hZ]), by first | exact K4.out | exact K3.out | exact K2.out⟩
  · have KND : Hid (Pl.inKind ⟨17, 2, r, 7, k, e, s⟩ = ((((2 : Int) == 2) && (s == 0)) && !((7 : Int) == 1))) := hide rfl
    cases a1 : (s == 0)
    all_goals
      go_wp2_with fail
      go_ret
      exact ⟨rB (by rw [G.out, KND.out] <;> first | rfl | (simp only [a1, hZ]; done) | (simp only [a1, hZ]; rfl) | simp [a1, hZ]), by first | exact K4.out | exact K3.out | exact K2.out⟩
  · have KND : Hid (Pl.inKind ⟨18, 2, r, 7, k, e, s⟩ = (((!((2 : Int) == 2)) && decide (s ≤ 1)) && ((7 : Int) == 0))) := hide rfl
    go_wp2_with fail
    go_ret
    exact ⟨rB (by rw [G.out, KND.out] <;> first | rfl | (simp only [hZ]; done) | (simp only [hZ]; rfl) | simp [hZ]), by first | exact K4.out | exact K3.out | exact K2.out⟩
  · have KND : Hid (Pl.inKind ⟨19, 2, r, 7, k, e, s⟩ = (((2 : Int) == 2) && ((((s == 0) && (r == 0)) && Pl.nowO (7 : Int) e) || ((s == 1) && Pl.zeroO (7 : Int) k e)))) := hide rfl
    cases a1 : (s == 0) <;> cases a2 : (r == 0) <;> cases a3 : Pl.nowO 7 e <;> cases a4 : (s == 1)
    all_goals
      go_wp2_with (first | (go_at_call 69; refine (specNow 7 k e _).mono ?_; rintro e9 w3 ⟨rfl, k3⟩; rw [a3]; have B3 := hide (B2.out.kept0 k3); have K3 := hide (K2.out.trans k3); have d0 := B3.out.cell (i := 0) rfl; have d1 := B3.out.cell (i := 1) rfl; have d2 := B3.out.cell (i := 2) rfl; have d3 := B3.out.cell (i := 3) rfl; have d4 := B3.out.cell (i := 4) rfl; have d5 := B3.out.cell (i := 5) rfl; have d6 := B3.out.cell (i := 6) rfl; clear k3) | (go_at_call 70; have z9 := B3; refine (specZero 7 k e _).mono ?_; rintro e9 w4 ⟨rfl, k4⟩; rw [hZ]; have B4 := hide (B3.out.kept0 k4); have K4 := hide (K3.out.trans k4); have f0 := B4.out.cell (i := 0) rfl; have f1 := B4.out.cell (i := 1) rfl; have f2 := B4.out.cell (i := 2) rfl; have f3 := B4.out.cell (i := 3) rfl; have f4 := B4.out.cell (i := 4) rfl; have f5 := B4.out.cell (i := 5) rfl; have f6 := B4.out.cell (i := 6) rfl; clear k4) | (go_at_call 70; refine (specZero 7 k e _).mono ?_; rintro e9 w4 ⟨rfl, k4⟩; rw [hZ]; have B4 := hide (B2.out.kept0 k4); have K4 := hide (K2.out.trans k4); have f0 := B4.out.cell (i := 0) rfl; have f1 := B4.out.cell (i := 1) rfl; have f2 := B4.out.cell (i := 2) rfl; have f3 := B4.out.cell (i := 3) rfl; have f4 := B4.out.cell (i := 4) rfl; have f5 := B4.out.cell (i := 5) rfl; have f6 := B4.out.cell (i := 6) rfl; clear k4))
      go_ret
      exact ⟨rB (by rw [G.out, KND.out] <;> first | rfl | (simp only [a1, a2, a3, a4, hZ]; done) | (simp only [a1, a2, a3, a4, hZ]; rfl) | simp [a1, a2, a3, a4, hZ]), by first | exact K4.out | exact K3.out | exact K2.out⟩
  · obtain ⟨q1, q2, q3, q4, q5, q6, q7, q8, q9, q10, q11, q12, q13, q14, q15, q16, q17, q18, q19⟩ := hno
    have KND : Hid (Pl.inKind ⟨op, 2, r, 7, k, e, s⟩ = false) := hide (by simp [Pl.inKind, q1, q2, q3, q4, q5, q6, q7, q8, q9, q10, q11, q12, q13, q14, q15, q16, q17, q18, q19])
    go_wp2_with fail
    go_ret
    exact ⟨rB (by rw [G.out, KND.out]), K2.out⟩
end Go.Proofs.Ytmkcbgnldnefmaa

namespace Go.Proofs.Ytmkcbgnldnefmaa
open Go.RowKit
set_option linter.unusedVariables false
set_option linter.unusedSimpArgs false
set_option maxRecDepth 100000 in
set_option maxHeartbeats 4000000 in
theorem specGoodIns (w : World) (op z r m k e s : Int) :
    Calls Try.prog 47 #[.agg (inA op z r m k e s)] w fun r' w' => r' = .returned (.bool (Pl.inOk ⟨op, z, r, m, k, e, s⟩)) ∧ Kept 0 0 w w' := by
  have K0 := hide (kept_alloc w (.cells (inA op z r m k e s) 55))
  have B0 := hide (Blk.new w (inA op z r m k e s) 55)
  cases h1 : (decide (z = 1) || decide (z = 2))
  · have G : Hid (Pl.inOk ⟨op, z, r, m, k, e, s⟩ = false) := hide (by simp only [Pl.inOk, Pl.inBase, h1]; rfl)
    go_enter Try.func47, Try.ntmps47
    go_wp2_with (first | (go_at_call 65; refine (specSize _ _).mono ?_; rintro e9 w' ⟨rfl, hw⟩; have hw2 := hw.symm; clear hw; subst hw2; rw [h1]))
    go_ret
    exact ⟨rB G.out.symm, K0.out⟩
  · cases h2 : Pl.within r 0 3
    · have G : Hid (Pl.inOk ⟨op, z, r, m, k, e, s⟩ = false) := hide (by simp only [Pl.inOk, Pl.inBase, h1, h2]; rfl)
      go_enter Try.func47, Try.ntmps47
      go_wp2_with (first | (go_at_call 65; refine (specSize _ _).mono ?_; rintro e9 w' ⟨rfl, hw⟩; have hw2 := hw.symm; clear hw; subst hw2; rw [h1]) | (go_at_call 31; refine (l1In _ _ _ _).mono ?_; rintro e9 w' ⟨rfl, hw⟩; have hw2 := hw.symm; clear hw; subst hw2; rw [show (decide (0 ≤ r) && decide (r ≤ 3)) = Pl.within r 0 3 from rfl, h2]))
      go_ret
      exact ⟨rB G.out.symm, K0.out⟩
    · cases h3 : Pl.opOk m k e
      · have G : Hid (Pl.inOk ⟨op, z, r, m, k, e, s⟩ = false) := hide (by simp only [Pl.inOk, Pl.inBase, h1, h2, h3]; rfl)
        go_enter Try.func47, Try.ntmps47
        go_wp2_with (first | (go_at_call 65; refine (specSize _ _).mono ?_; rintro e9 w' ⟨rfl, hw⟩; have hw2 := hw.symm; clear hw; subst hw2; rw [h1]) | (go_at_call 31; refine (l1In _ _ _ _).mono ?_; rintro e9 w' ⟨rfl, hw⟩; have hw2 := hw.symm; clear hw; subst hw2; rw [show (decide (0 ≤ r) && decide (r ≤ 3)) = Pl.within r 0 3 from rfl, h2]) | (go_at_call 66; refine (specGoodOperand _ m k e).mono ?_; rintro e9 w2 ⟨rfl, k2⟩; rw [h3]; have B2 := hide (B0.out.kept0 k2); have K2 := hide (K0.out.trans k2); have c0 := B2.out.cell (i := 0) rfl; have c1 := B2.out.cell (i := 1) rfl; have c2 := B2.out.cell (i := 2) rfl; have c3 := B2.out.cell (i := 3) rfl; have c4 := B2.out.cell (i := 4) rfl; have c5 := B2.out.cell (i := 5) rfl; have c6 := B2.out.cell (i := 6) rfl; clear k2))
        go_ret
        exact ⟨rB G.out.symm, K2.out⟩
      · cases h4 : Pl.within s 0 7
        · have G : Hid (Pl.inOk ⟨op, z, r, m, k, e, s⟩ = false) := hide (by simp only [Pl.inOk, Pl.inBase, h1, h2, h3, h4]; rfl)
          go_enter Try.func47, Try.ntmps47
          go_wp2_with (first | (go_at_call 31; have z9 := B2; refine (l1In _ _ _ _).mono ?_; rintro e9 w' ⟨rfl, hw⟩; have hw2 := hw.symm; clear hw; subst hw2; rw [show (decide (0 ≤ s) && decide (s ≤ 7)) = Pl.within s 0 7 from rfl, h4]) | (go_at_call 65; refine (specSize _ _).mono ?_; rintro e9 w' ⟨rfl, hw⟩; have hw2 := hw.symm; clear hw; subst hw2; rw [h1]) | (go_at_call 31; refine (l1In _ _ _ _).mono ?_; rintro e9 w' ⟨rfl, hw⟩; have hw2 := hw.symm; clear hw; subst hw2; rw [show (decide (0 ≤ r) && decide (r ≤ 3)) = Pl.within r 0 3 from rfl, h2]) | (go_at_call 66; refine (specGoodOperand _ m k e).mono ?_; rintro e9 w2 ⟨rfl, k2⟩; rw [h3]; have B2 := hide (B0.out.kept0 k2); have K2 := hide (K0.out.trans k2); have c0 := B2.out.cell (i := 0) rfl; have c1 := B2.out.cell (i := 1) rfl; have c2 := B2.out.cell (i := 2) rfl; have c3 := B2.out.cell (i := 3) rfl; have c4 := B2.out.cell (i := 4) rfl; have c5 := B2.out.cell (i := 5) rfl; have c6 := B2.out.cell (i := 6) rfl; clear k2))
          go_ret
          exact ⟨rB G.out.symm, K2.out⟩
        · cases h6 : (m == 7)
          · clear K0 B0
            simp at h1
            rcases h1 with rfl | rfl
            · exact goodInsA1 w op r m k e s h2 h3 h4 h6
            · exact goodInsA2 w op r m k e s h2 h3 h4 h6
          · have hm : m = 7 := by simpa using h6
            subst hm
            have h1b := h1
            simp at h1b
            rcases h1b with rfl | rfl
            · cases h8 : decide (255 < e)
              · exact goodInsB1 w op r k e s h2 h3 h4 h8
              · have G : Hid (Pl.inOk ⟨op, 1, r, 7, k, e, s⟩ = false) := hide (by simp only [Pl.inOk, Pl.inBase, Pl.byteNow, h2, h3, h4, h8]; rfl)
                go_enter Try.func47, Try.ntmps47
                go_wp2_with (first | (go_at_call 31; have z9 := B2; refine (l1In _ _ _ _).mono ?_; rintro e9 w' ⟨rfl, hw⟩; have hw2 := hw.symm; clear hw; subst hw2; rw [show (decide (0 ≤ s) && decide (s ≤ 7)) = Pl.within s 0 7 from rfl, h4]) | (go_at_call 65; refine (specSize _ _).mono ?_; rintro e9 w' ⟨rfl, hw⟩; have hw2 := hw.symm; clear hw; subst hw2; rw [h1]) | (go_at_call 31; refine (l1In _ _ _ _).mono ?_; rintro e9 w' ⟨rfl, hw⟩; have hw2 := hw.symm; clear hw; subst hw2; rw [show (decide (0 ≤ r) && decide (r ≤ 3)) = Pl.within r 0 3 from rfl, h2]) | (go_at_call 66; refine (specGoodOperand _ 7 k e).mono ?_; rintro e9 w2 ⟨rfl, k2⟩; rw [h3]; have B2 := hide (B0.out.kept0 k2); have K2 := hide (K0.out.trans k2); have c0 := B2.out.cell (i := 0) rfl; have c1 := B2.out.cell (i := 1) rfl; have c2 := B2.out.cell (i := 2) rfl; have c3 := B2.out.cell (i := 3) rfl; have c4 := B2.out.cell (i := 4) rfl; have c5 := B2.out.cell (i := 5) rfl; have c6 := B2.out.cell (i := 6) rfl; clear k2))
                go_ret
                exact ⟨rB G.out.symm, K2.out⟩
            · exact goodInsB2 w op r k e s h2 h3 h4
end Go.Proofs.Ytmkcbgnldnefmaa

namespace Go.Proofs.Ytmkcbgnldnefmaa
open Go.RowKit
set_option linter.unusedVariables false
set_option linter.unusedSimpArgs false
set_option maxRecDepth 100000 in
set_option maxHeartbeats 4000000 in
theorem specEncode (w : World) (op z r m k e s : Int) (h : Pl.inOk ⟨op, z, r, m, k, e, s⟩ = true) : Calls Try.prog 48 #[.agg #[.int .i64 op, .int .i64 z, .int .i64 r, .int .i64 m, .int .i64 k, .int .i64 e, .int .i64 s]] w fun e' w' => ∃ (g c : Nat), e' = .returned (.slice (some ⟨g, 0, none⟩) (Pl.encode ⟨op, z, r, m, k, e, s⟩).length c) ∧ w.heap.size ≤ g ∧ g < w'.heap.size ∧ Own w' g (Pl.encode ⟨op, z, r, m, k, e, s⟩) ∧ Kept 0 0 w w' := by
  obtain ⟨a1, a2, a3, a4, a5, a6, a7, a8, a9, b1, b2, b3, b4, b5⟩ := Pl.modeR h
  simp only at a1 a2 a3 a4 a5 a6 a7 a8 a9 b1 b2 b3 b4 b5
  obtain ⟨c1, c2⟩ : 1 ≤ z ∧ z ≤ 2 := by omega
  obtain ⟨o1, o2, o3, o4, o5⟩ := orWord (op := op) (z := z) (r := r) (m := m) (k := k) (s := s) (by omega) (by omega) c1 c2 a4 a5 a6 a7 a8 a9 b3 b4
  have V : Hid (Pl.word1 ⟨op, z, r, m, k, e, s⟩ = op * 2048 + (z - 1) * 1024 + r * 256 + m * 32 + k * 8 + s) := hide rfl
  obtain ⟨W, hW⟩ : ∃ W, W = op * 2048 + (z - 1) * 1024 + r * 256 + m * 32 + k * 8 + s := ⟨_, rfl⟩
  rw [← hW] at o5 V
  clear hW b5
  have HI := hide h
  clear h
  have K0 := hide (kept_new (kept_alloc w (.cells #[.int .i64 op, .int .i64 z, .int .i64 r, .int .i64 m, .int .i64 k, .int .i64 e, .int .i64 s] 55)) (.cells #[.int .i64 W] 3))
  have P0 := hide ((Blk.new w #[.int .i64 op, .int .i64 z, .int .i64 r, .int .i64 m, .int .i64 k, .int .i64 e, .int .i64 s] 55).alloc (.cells #[.int .i64 W] 3))
  have B0 := Blk.new (w.alloc (.cells #[.int .i64 op, .int .i64 z, .int .i64 r, .int .i64 m, .int .i64 k, .int .i64 e, .int .i64 s] 55)) #[.int .i64 W] 3
  simp only [World.size_alloc] at B0
  replace B0 := hide B0
  cases hE : Pl.extM m
  · have E : Hid (Pl.encode ⟨op, z, r, m, k, e, s⟩ = [W]) := hide (by simp [Pl.encode, hE, V.out])
    go_enter Try.func48, Try.ntmps48
    go_wp2_with (first | (go_at_call 71; refine (specExtM _ _).mono ?_; rintro e9 w' ⟨rfl, hw⟩; have hw2 := hw.symm; clear hw; subst hw2; rw [hE]))
    go_ret
    have l0 := B0.out.lt
    exact ⟨_, _, by rw [E.out]; rfl, by omega, l0, by rw [E.out]; exact own_of_blk (xs := [W]) B0.out, K0.out⟩
  · have E : Hid (Pl.encode ⟨op, z, r, m, k, e, s⟩ = [W, e]) := hide (by simp [Pl.encode, hE, V.out])
    obtain ⟨i, hi0, hz0, hz1, hz2⟩ := info_parts Try.info3
    have OW : Hid (World.ownsRow ((w.alloc (.cells #[.int .i64 op, .int .i64 z, .int .i64 r, .int .i64 m, .int .i64 k, .int .i64 e, .int .i64 s] 55)).alloc (.cells #[.int .i64 W] 3)) (w.heap.size + 1) 3 1 (.slice (some ⟨w.heap.size + 1, 0, none⟩) 1 1) 1 [.int .i64 W]) := hide ⟨by simp, .inr ⟨w.heap.size + 1, 1, #[.int .i64 W], rfl, Nat.le_refl _, B0.out, Nat.le_refl _, by unfold maxLen; omega, by simp, by simp⟩⟩
    go_enter Try.func48, Try.ntmps48
    have BN := Blk.new ((w.alloc (.cells #[.int .i64 op, .int .i64 z, .int .i64 r, .int .i64 m, .int .i64 k, .int .i64 e, .int .i64 s] 55)).alloc (.cells #[.int .i64 W] 3)) #[.int .i64 e] 3
    simp only [World.size_alloc] at BN
    replace BN := hide BN
    have H63 : Hid (1 + 1 ≤ maxLen) := hide (by unfold maxLen; omega)
    go_wp2_with (first | (go_at_call 71; refine (specExtM _ _).mono ?_; rintro e9 w' ⟨rfl, hw⟩; have hw2 := hw.symm; clear hw; subst hw2; rw [hE]) | (at_builtin; refine wpList_append_lies _ rfl (.tmp 34) (.tmp 38) 22 rfl (w.heap.size + 1) 3 i (.int .i64 0) 1 8 Try.underlying22 hi0 hz0 hz1 hz2 rfl (by decide) (.slice (some ⟨w.heap.size + 1, 0, none⟩) 1 1) 1 [.int .i64 W] rfl (OW.out.alloc _) ⟨w.heap.size + 1 + 1, 0, none⟩ 1 1 [.int .i64 e] rfl rfl (World.news_of_block (cs := #[.int .i64 e]) (t := 3) (fr := (0, 0)) BN.out) (by simp [Value.oneCell']) (by decide) H63.out (by decide) (by simp) (w.heap.size + 1 + 1 + 1) (by simp) ?_))
    intro g2 c2 w2 o2 k2 hg2 l2
    have kk := kept_row k2 (lo := w.heap.size + 1) (hi := w.heap.size + 1 + 1) (by intro j hj; have h5 : w.heap.size + 1 = j := Option.some.inj hj; omega)
    obtain ⟨p3, p4⟩ := o2.lt g2 rfl
    have K2 := hide (kept_over (kept_new K0.out (.cells #[.int .i64 e] 3)) kk (by omega))
    have PN : Hid (Own w2 g2 [W, e]) := hide (own_of_row (xs := [W, e]) o2)
    clear o2 k2 kk
    go_wp2_with fail
    go_ret
    exact ⟨g2, c2, by rw [E.out]; rfl, by omega, p4, by rw [E.out]; exact PN.out, K2.out⟩
end Go.Proofs.Ytmkcbgnldnefmaa

namespace Go.Proofs.Ytmkcbgnldnefmaa
open Go.RowKit
set_option linter.unusedVariables false
theorem slotIn_rowC {w : World} {base n : Nat} {v : Value} {xs : List Int} (h : w.ownsRow base 3 1 v n (xs.map (Value.int .i64))) : ∃ (b : Option Addr) (cb : Nat), v = .slice b n cb ∧ SlotIn w base w.heap.size b xs ∧ n ≤ cb := by
  have h9 := h
  rcases h with ⟨hl, ⟨rfl, e⟩ | ⟨g, cap, cur, e, hb, hgg, hn, _, hsz, ht⟩⟩
  · subst e
    exact ⟨none, 0, rfl, .inl ⟨rfl, by simpa using hl⟩, Nat.le_refl _⟩
  · subst e
    exact ⟨some ⟨g, 0, none⟩, cap, rfl, .inr ⟨g, rfl, (h9.lt g rfl).1, (h9.lt g rfl).2, own_of_row h9⟩, hn⟩
theorem undo {a b c : World} (h : Kept 0 0 a b) (k : Kept 0 0 b c) : Kept 0 0 a c := h.trans k
theorem news_own {w : World} {g : Nat} {xs : List Int} (h : Own w g xs) : ∀ j u, (xs.map (Value.int .i64))[j]? = some u → w.cell? ((⟨g, 0, none⟩ : Addr).add j) = some u := news_of h.row
set_option maxRecDepth 20000 in
set_option maxHeartbeats 4000000 in
theorem specEncodeAllC (w : World) (a : Option Addr) (ca n : Nat) (ys : List Int) (ha : IRow w a ys) (ly : ys.length = 7 * n) (bx : n ≤ 2000000) :
    Calls Try.prog 24 #[.slice a n ca] w fun e' w' => ∃ (b : Option Addr) (c : Nat), e' = .returned (.tuple #[.slice b (Pl.eaV ys n).length c, .bool (Pl.eaOk ys n)]) ∧ SlotIn w' w.heap.size w'.heap.size b (Pl.eaV ys n) ∧ Kept 0 0 w w' ∧ (Pl.eaV ys n).length ≤ c := by
  have HA := hide ha
  have HY := hide ly
  clear ha ly
  obtain ⟨i, hi0, hz0, hz1, hz2⟩ := info_parts Try.info3
  go_enter Try.func24, Try.ntmps24
  go_wp2_with fail
  go_loopw [4, 6, 9] (fun v _ j wr => ∃ k : Nat, k ≤ n ∧ j = .int .i64 k ∧ Pl.allIn ys k = true ∧ wr.ownsRow w.heap.size 3 1 v (Pl.encTo ys k).length ((Pl.encTo ys k).map (Value.int .i64)) ∧ Kept 0 0 w wr) (fun _ _ j _ => n - (intOf j).toNat)
  case atStart => exact ⟨0, Nat.zero_le _, rfl, rfl, World.ownsRow_nil _ _ _ _, Kept.refl _ _ _⟩
  case round =>
    obtain ⟨k, hk, rfl, hall, hown, hkept⟩ := hrel
    have HK := hide hkept
    have HO := hide hown
    have HL := hide hall
    have hel := Pl.encTo_len ys k
    have hel2 := Pl.encode_len (Pl.inAt ys k)
    clear hkept hown hall
    by_cases hlt : k < n
    · obtain ⟨g1, o1, rfl, p0, p1, p2, p3, p4, p5, p6⟩ := (HA.out.keptS HK.out).at7 HY.out hlt
      have B0 := hide (Blk.new wr #[.int .i64 (el ys (k * 7)), .int .i64 (el ys (k * 7 + 1)), .int .i64 (el ys (k * 7 + 2)), .int .i64 (el ys (k * 7 + 3)), .int .i64 (el ys (k * 7 + 4)), .int .i64 (el ys (k * 7 + 5)), .int .i64 (el ys (k * 7 + 6))] 55)
      cases hb : Pl.inOk (Pl.inAt ys k)
      · have E : Hid (Pl.eaOk ys n = false) := hide (by unfold Pl.eaOk; rw [Pl.allIn_no hlt hb]; rfl)
        go_wp2_with (first | (go_at_call 47; refine (specGoodIns _ (el ys (k * 7)) (el ys (k * 7 + 1)) (el ys (k * 7 + 2)) (el ys (k * 7 + 3)) (el ys (k * 7 + 4)) (el ys (k * 7 + 5)) (el ys (k * 7 + 6))).mono ?_; rintro e9 w2 ⟨rfl, k2⟩; rw [show Pl.inOk ⟨el ys (k * 7), el ys (k * 7 + 1), el ys (k * 7 + 2), el ys (k * 7 + 3), el ys (k * 7 + 4), el ys (k * 7 + 5), el ys (k * 7 + 6)⟩ = Pl.inOk (Pl.inAt ys k) from rfl, hb]; have B2 := hide (B0.out.kept0 k2); have K2 := hide ((kept_new HK.out _).trans k2); have k9 := hide (undo (kept_alloc wr _) k2); have c0 := B2.out.cell (i := 0) rfl; have c1 := B2.out.cell (i := 1) rfl; have c2 := B2.out.cell (i := 2) rfl; have c3 := B2.out.cell (i := 3) rfl; have c4 := B2.out.cell (i := 4) rfl; have c5 := B2.out.cell (i := 5) rfl; have c6 := B2.out.cell (i := 6) rfl; clear k2))
        go_ret2
        exact ⟨none, 0, by simp [Pl.eaV, E.out], .inl ⟨rfl, by simp [Pl.eaV, E.out]⟩, K2.out, by simp [Pl.eaV, E.out]⟩
      · obtain ⟨ZL, hZL⟩ : ∃ ZL, ZL = Pl.encode (Pl.inAt ys k) := ⟨_, rfl⟩
        go_wp2_with (first | (go_at_call 47; refine (specGoodIns _ (el ys (k * 7)) (el ys (k * 7 + 1)) (el ys (k * 7 + 2)) (el ys (k * 7 + 3)) (el ys (k * 7 + 4)) (el ys (k * 7 + 5)) (el ys (k * 7 + 6))).mono ?_; rintro e9 w2 ⟨rfl, k2⟩; rw [show Pl.inOk ⟨el ys (k * 7), el ys (k * 7 + 1), el ys (k * 7 + 2), el ys (k * 7 + 3), el ys (k * 7 + 4), el ys (k * 7 + 5), el ys (k * 7 + 6)⟩ = Pl.inOk (Pl.inAt ys k) from rfl, hb]; have B2 := hide (B0.out.kept0 k2); have K2 := hide ((kept_new HK.out _).trans k2); have k9 := hide (undo (kept_alloc wr _) k2); have c0 := B2.out.cell (i := 0) rfl; have c1 := B2.out.cell (i := 1) rfl; have c2 := B2.out.cell (i := 2) rfl; have c3 := B2.out.cell (i := 3) rfl; have c4 := B2.out.cell (i := 4) rfl; have c5 := B2.out.cell (i := 5) rfl; have c6 := B2.out.cell (i := 6) rfl; clear k2) | (go_at_call 48; refine (specEncode _ (el ys (k * 7)) (el ys (k * 7 + 1)) (el ys (k * 7 + 2)) (el ys (k * 7 + 3)) (el ys (k * 7 + 4)) (el ys (k * 7 + 5)) (el ys (k * 7 + 6)) hb).mono ?_; rintro e9 w3 ⟨g, c, rfl, hg1, hg2, hO, k3⟩; have K3 := hide (K2.out.trans k3); have OE := hide hO; have O3 := hide (HO.out.kept (k9.out.trans k3).grown (Classical.em _)); have s3 := K3.out.size; clear hg1 hg2 hO k3) | (at_builtin; refine wpList_append_own _ rfl _ _ 22 rfl w.heap.size 3 i (.int .i64 0) 1 8 Try.underlying22 hi0 hz0 hz1 hz2 rfl (by decide) _ _ _ rfl O3.out ⟨g, 0, none⟩ (Pl.encode (Pl.inAt ys k)).length c ((Pl.encode (Pl.inAt ys k)).map (Value.int .i64)) rfl ?c0 ?c1 ?c2 ?c3 ?c4 ?c5 ?_))
        case c0 => simp
        case c1 => exact news_own OE.out
        case c2 => exact news_one
        case c3 => unfold maxLen; omega
        case c4 => omega
        case c5 => omega
        intro v' w4 hown' hgr _
        have HO4 := hide hown'
        have K4 := hide (kept_over K3.out (kept_row (lo := w.heap.size) (hi := w3.heap.size) hgr (fun g hg => O3.out.lt g hg)) (Nat.le_refl _))
        clear hown' hgr
        go_wp2_with fail
        go_roundw
        case rel => exact ⟨k + 1, by omega, by go_num, by unfold Pl.allIn; rw [HL.out, hb]; rfl, by unfold Pl.encTo; rw [List.length_append, List.map_append]; exact HO4.out, K4.out⟩
        case measure => simp [intOf]; omega
    · obtain rfl : k = n := by omega
      cases h40 : decide ((40 : Int) < (k : Int))
      · have E : Hid (Pl.eaOk ys k = true) := hide (by unfold Pl.eaOk; rw [HL.out]; simp at h40; simp; omega)
        have EV : Hid (Pl.eaV ys k = Pl.encTo ys k) := hide (by simp [Pl.eaV, E.out])
        obtain ⟨b, cb, rfl, hS, hC⟩ := slotIn_rowC HO.out
        go_wp2_with fail
        go_ret2
        exact ⟨b, cb, by rw [EV.out, E.out]; rfl, by rw [EV.out]; exact hS, HK.out, by rw [EV.out]; exact hC⟩
      · have E : Hid (Pl.eaOk ys k = false) := hide (by unfold Pl.eaOk; rw [HL.out]; simp at h40; simp; omega)
        go_wp2_with fail
        go_ret2
        exact ⟨none, 0, by simp [Pl.eaV, E.out], .inl ⟨rfl, by simp [Pl.eaV, E.out]⟩, HK.out, by simp [Pl.eaV, E.out]⟩
theorem specEncodeAll (w : World) (a : Option Addr) (ca n : Nat) (ys : List Int) (ha : IRow w a ys) (ly : ys.length = 7 * n) (bx : n ≤ 2000000) :
    Calls Try.prog 24 #[.slice a n ca] w fun e' w' => ∃ (b : Option Addr) (c : Nat), e' = .returned (.tuple #[.slice b (Pl.eaV ys n).length c, .bool (Pl.eaOk ys n)]) ∧ SlotIn w' w.heap.size w'.heap.size b (Pl.eaV ys n) ∧ Kept 0 0 w w' := by
  refine (specEncodeAllC w a ca n ys ha ly bx).mono ?_
  rintro e w' ⟨b, c, h1, h2, h3, _⟩
  exact ⟨b, c, h1, h2, h3⟩
end Go.Proofs.Ytmkcbgnldnefmaa

namespace Go.Proofs.Ytmkcbgnldnefmaa.Pl
set_option linter.unusedVariables false
def sameIn (a b : In) : Bool := (a.op == b.op) && ((a.z == b.z) && ((a.r == b.r) && ((a.m == b.m) && ((a.k == b.k) && ((a.e == b.e) && (a.s == b.s))))))
/-- it comes back from its words -/
def fits (x : In) : Bool := sameIn (decode (word1 x % 65536) x.e) x
def fitZ (x : In) : Bool := !(x.m == 7) || (!(x.z == 1) || within x.e 0 255)
theorem decode_e (w v : Int) : (decode w v).e = bif extM (w / 32 % 8) then v else 0 := by
  show (if longW w = 2 then v else 0) = _
  unfold longW
  cases extM (w / 32 % 8) <;> simp
theorem fits_iff (x : In) : fits x = true ↔ (0 ≤ x.op ∧ x.op ≤ 31) ∧ (1 ≤ x.z ∧ x.z ≤ 2) ∧ (0 ≤ x.r ∧ x.r ≤ 3) ∧ (0 ≤ x.m ∧ x.m ≤ 7) ∧ (0 ≤ x.k ∧ x.k ≤ 3) ∧ (0 ≤ x.s ∧ x.s ≤ 7) ∧ (extM x.m = false → x.e = 0) := by
  obtain ⟨op, z, r, m, k, e, s⟩ := x
  unfold fits
  have hW : word1 ⟨op, z, r, m, k, e, s⟩ % 65536 = (op * 2048 + (z - 1) * 1024 + r * 256 + m * 32 + k * 8 + s) % 65536 := rfl
  generalize word1 ⟨op, z, r, m, k, e, s⟩ % 65536 = W at hW
  unfold sameIn
  rw [decode_e]
  simp only [decode, Bool.and_eq_true, beq_iff_eq]
  constructor
  · rintro ⟨h1, h2, h3, h4, h5, h6, h7⟩
    refine ⟨⟨by omega, by omega⟩, ⟨by omega, by omega⟩, ⟨by omega, by omega⟩, ⟨by omega, by omega⟩, ⟨by omega, by omega⟩, ⟨by omega, by omega⟩, fun q => ?_⟩
    rw [h4, q] at h6
    simpa using h6.symm
  · rintro ⟨⟨a1, a2⟩, ⟨b1, b2⟩, ⟨c1, c2⟩, ⟨d1, d2⟩, ⟨e1, e2⟩, ⟨f1, f2⟩, g⟩
    have hm : W / 32 % 8 = m := by omega
    refine ⟨by omega, by omega, by omega, hm, by omega, ?_, by omega⟩
    rw [hm]
    cases q : extM m
    · rw [g q]; rfl
    · rfl
/-- what is asked one behind the other is what makes a good one -/
theorem ok_of_fits (x : In) : inOk x = (fits x && (opOk x.m x.k x.e && (fitZ x && inKind x))) := by
  cases hf : fits x
  · cases hq : inOk x
    · rfl
    · exfalso
      have h := modeR hq
      have : fits x = true := (fits_iff x).2 ⟨by omega, by omega, by omega, by omega, by omega, by omega, h.2.2.2.2.2.2.2.2.2.2.2.2.2⟩
      rw [hf] at this; cases this
  · obtain ⟨a, b, c, d, e, f, g⟩ := (fits_iff x).1 hf
    obtain ⟨op, z, r, m, k, e', s⟩ := x
    simp only at a b c d e f g
    unfold inOk inBase fitZ byteNow
    simp only
    have w1 : within r 0 3 = true := by simp [within]; omega
    have w2 : within s 0 7 = true := by simp [within]; omega
    have w3 : (decide (z = 1) || decide (z = 2)) = true := by simp; omega
    rw [w1, w2, w3]
    cases ho : opOk m k e'
    · simp
    · have : 0 ≤ e' := by simp [opOk, wordOk, within] at ho; omega
      have w4 : (!((m == 7) && (z == 1) && decide (255 < e'))) = (!(m == 7) || (!(z == 1) || within e' 0 255)) := by
        rw [Bool.eq_iff_iff]; simp [within]; omega
      rw [w4]
      simp
end Go.Proofs.Ytmkcbgnldnefmaa.Pl

