/- What the model's GoodIns answers, for operands that are numbers in the code and size 2. What the model's GoodIns answers, for every instruction. What the model's test of a value of a size answers, for every argument; none changes the world. What the model's small functions of chapter 1 answer, for every argument: one contract a function; none changes the world. What the program's test of a value of a size answers: one contract a function; none changes the world. What the small functions of chapter 1 and of its model answer, for every argument: one contract a function; none changes the world. Lists of bools: rows, lists in blocks of their own, and what the laws' own functions over them answer. What the model's conditions answer. The bits of an instruction's words, in numbers. A region that draws its order, by what holds whatever has come up so far: every order at once. A frame of which some slots alone are written: for a drawn region walked by what holds, the frame a variable. What the program's tests of words, sizes and register numbers answer; none changes the world. The ways to name an operand, as the program holds them: one type a way; the operand that each comes back as. -/
import Derived.Test.YtbppfbkkphhjnaaGreatCN1
import Derived.Deep.DeepCutAuto
import Derived.Test.YtbppfbkkphhjnaaGreatCN2
import Derived.Test.YtbppfbkkphhjnaaGreatCN3
import Derived.Deep.AppendLies
import Derived.RegionTactic
namespace Go.Proofs.YtbppfbkkphhjnaaGreat
open Go.RowKit
set_option linter.unusedVariables false
set_option linter.unusedSimpArgs false
set_option maxRecDepth 100000 in
set_option maxHeartbeats 16000000 in
theorem goodInsB2 (w : World) (op r k e s : Int) (h2 : Pl.within r 0 3 = true) (h3 : Pl.opOk 7 k e = true) (h4 : Pl.within s 0 7 = true) :
    Calls Tryz.prog 68 #[.agg (inA op 2 r 7 k e s)] w fun r' w' => r' = .returned (.bool (Pl.inOk ⟨op, 2, r, 7, k, e, s⟩)) ∧ Kept 0 0 w w' := by
  have K0 := hide (kept_alloc w (.cells (inA op 2 r 7 k e s) 104))
  have B0 := hide (Blk.new w (inA op 2 r 7 k e s) 104)
  have G : Hid (Pl.inOk ⟨op, 2, r, 7, k, e, s⟩ = Pl.inKind ⟨op, 2, r, 7, k, e, s⟩) := hide (by simp only [Pl.inOk, Pl.inBase, Pl.byteNow, h2, h3, h4]; rfl)
  have hZ : Pl.zeroO 7 k e = false := rfl
  go_enter Tryz.func68, Tryz.ntmps68
  go_upto_region 5 with (first | (go_at_call 33; have z9 := B2; refine (l1In _ _ _ _).mono ?_; rintro e9 w' ⟨rfl, hw⟩; have hw2 := hw.symm; clear hw; subst hw2; rw [show (decide (0 ≤ s) && decide (s ≤ 7)) = Pl.within s 0 7 from rfl, h4]) | (go_at_call 99; refine (l1Size2 _).mono ?_; rintro e9 w' ⟨rfl, hw⟩; have hw2 := hw.symm; clear hw; subst hw2) | (go_at_call 33; refine (l1In _ _ _ _).mono ?_; rintro e9 w' ⟨rfl, hw⟩; have hw2 := hw.symm; clear hw; subst hw2; rw [show (decide (0 ≤ r) && decide (r ≤ 3)) = Pl.within r 0 3 from rfl, h2]) | (go_at_call 100; refine (specGoodOperand _ 7 k e).mono ?_; rintro e9 w2 ⟨rfl, k2⟩; rw [h3]; have B2 := hide (B0.out.kept0 k2); have K2 := hide (K0.out.trans k2); have c0 := B2.out.cell (i := 0) rfl; have c1 := B2.out.cell (i := 1) rfl; have c2 := B2.out.cell (i := 2) rfl; have c3 := B2.out.cell (i := 3) rfl; have c4 := B2.out.cell (i := 4) rfl; have c5 := B2.out.cell (i := 5) rfl; have c6 := B2.out.cell (i := 6) rfl; clear k2))
  rcases opsAll op with rfl | rfl | rfl | rfl | rfl | rfl | rfl | rfl | rfl | rfl | rfl | rfl | rfl | rfl | rfl | rfl | rfl | rfl | rfl | hno
  · have KND : Hid (Pl.inKind ⟨1, 2, r, 7, k, e, s⟩ = ((s == 0) && (((2 : Int) == 2) || !((7 : Int) == 1)))) := hide rfl
    cases a1 : (s == 0)
    all_goals
      go_wp2_with fail
      go_ret
      exact ⟨rB (by rw [G.out, KND.out] <;> first | rfl | (simp only [a1, hZ]; done) | (simp only [a1, hZ]; rfl) | simp [a1, hZ]), by first | exact K4.out | exact K3.out | exact K2.out⟩
  · have KND : Hid (Pl.inKind ⟨2, 2, r, 7, k, e, s⟩ = ((s == 0) && (((7 : Int) == 0) || Pl.memM (7 : Int)))) := hide rfl
    cases a1 : (s == 0)
    all_goals
      go_wp2_with (first | (go_at_call 101; refine (specMem _ _).mono ?_; rintro e9 w' ⟨rfl, hw⟩; have hw2 := hw.symm; clear hw; subst hw2))
      go_ret
      exact ⟨rB (by rw [G.out, KND.out] <;> first | rfl | (simp only [a1, hZ]; done) | (simp only [a1, hZ]; rfl) | simp [a1, hZ]), by first | exact K4.out | exact K3.out | exact K2.out⟩
  · have KND : Hid (Pl.inKind ⟨3, 2, r, 7, k, e, s⟩ = ((s == 0) && (((2 : Int) == 2) || !((7 : Int) == 1)))) := hide rfl
    cases a1 : (s == 0)
    all_goals
      go_wp2_with fail
      go_ret
      exact ⟨rB (by rw [G.out, KND.out] <;> first | rfl | (simp only [a1, hZ]; done) | (simp only [a1, hZ]; rfl) | simp [a1, hZ]), by first | exact K4.out | exact K3.out | exact K2.out⟩
  · have KND : Hid (Pl.inKind ⟨4, 2, r, 7, k, e, s⟩ = ((s == 0) && (((2 : Int) == 2) || !((7 : Int) == 1)))) := hide rfl
    cases a1 : (s == 0)
    all_goals
      go_wp2_with fail
      go_ret
      exact ⟨rB (by rw [G.out, KND.out] <;> first | rfl | (simp only [a1, hZ]; done) | (simp only [a1, hZ]; rfl) | simp [a1, hZ]), by first | exact K4.out | exact K3.out | exact K2.out⟩
  · have KND : Hid (Pl.inKind ⟨5, 2, r, 7, k, e, s⟩ = ((s == 0) && (((2 : Int) == 2) || !((7 : Int) == 1)))) := hide rfl
    cases a1 : (s == 0)
    all_goals
      go_wp2_with fail
      go_ret
      exact ⟨rB (by rw [G.out, KND.out] <;> first | rfl | (simp only [a1, hZ]; done) | (simp only [a1, hZ]; rfl) | simp [a1, hZ]), by first | exact K4.out | exact K3.out | exact K2.out⟩
  · have KND : Hid (Pl.inKind ⟨6, 2, r, 7, k, e, s⟩ = ((s == 0) && (((2 : Int) == 2) || !((7 : Int) == 1)))) := hide rfl
    cases a1 : (s == 0)
    all_goals
      go_wp2_with fail
      go_ret
      exact ⟨rB (by rw [G.out, KND.out] <;> first | rfl | (simp only [a1, hZ]; done) | (simp only [a1, hZ]; rfl) | simp [a1, hZ]), by first | exact K4.out | exact K3.out | exact K2.out⟩
  · have KND : Hid (Pl.inKind ⟨7, 2, r, 7, k, e, s⟩ = ((s == 0) && (((2 : Int) == 2) || !((7 : Int) == 1)))) := hide rfl
    cases a1 : (s == 0)
    all_goals
      go_wp2_with fail
      go_ret
      exact ⟨rB (by rw [G.out, KND.out] <;> first | rfl | (simp only [a1, hZ]; done) | (simp only [a1, hZ]; rfl) | simp [a1, hZ]), by first | exact K4.out | exact K3.out | exact K2.out⟩
  · have KND : Hid (Pl.inKind ⟨8, 2, r, 7, k, e, s⟩ = ((s == 0) && (((2 : Int) == 2) || !((7 : Int) == 1)))) := hide rfl
    cases a1 : (s == 0)
    all_goals
      go_wp2_with fail
      go_ret
      exact ⟨rB (by rw [G.out, KND.out] <;> first | rfl | (simp only [a1, hZ]; done) | (simp only [a1, hZ]; rfl) | simp [a1, hZ]), by first | exact K4.out | exact K3.out | exact K2.out⟩
  · have KND : Hid (Pl.inKind ⟨9, 2, r, 7, k, e, s⟩ = (((2 : Int) == 2) && (s == 0))) := hide rfl
    go_wp2_with fail
    go_ret
    exact ⟨rB (by rw [G.out, KND.out] <;> first | rfl | (simp only [hZ]; done) | (simp only [hZ]; rfl) | simp [hZ]), by first | exact K4.out | exact K3.out | exact K2.out⟩
  · have KND : Hid (Pl.inKind ⟨10, 2, r, 7, k, e, s⟩ = ((((2 : Int) == 2) && (s == 0)) && Pl.plainM (7 : Int))) := hide rfl
    cases a1 : (s == 0)
    all_goals
      go_wp2_with (first | (go_at_call 102; refine (specPlain _ _).mono ?_; rintro e9 w' ⟨rfl, hw⟩; have hw2 := hw.symm; clear hw; subst hw2))
      go_ret
      exact ⟨rB (by rw [G.out, KND.out] <;> first | rfl | (simp only [a1, hZ]; done) | (simp only [a1, hZ]; rfl) | simp [a1, hZ]), by first | exact K4.out | exact K3.out | exact K2.out⟩
  · have KND : Hid (Pl.inKind ⟨11, 2, r, 7, k, e, s⟩ = (((r == 0) && decide (s ≤ 3)) && (((7 : Int) == 0) || Pl.memM (7 : Int)))) := hide rfl
    cases a1 : (r == 0) <;> cases a2 : decide (s ≤ 3)
    all_goals
      go_wp2_with (first | (go_at_call 101; refine (specMem _ _).mono ?_; rintro e9 w' ⟨rfl, hw⟩; have hw2 := hw.symm; clear hw; subst hw2))
      go_ret
      exact ⟨rB (by rw [G.out, KND.out] <;> first | rfl | (simp only [a1, a2, hZ]; done) | (simp only [a1, a2, hZ]; rfl) | simp [a1, a2, hZ]), by first | exact K4.out | exact K3.out | exact K2.out⟩
  · have KND : Hid (Pl.inKind ⟨12, 2, r, 7, k, e, s⟩ = (((7 : Int) == 0))) := hide rfl
    go_wp2_with fail
    go_ret
    exact ⟨rB (by rw [G.out, KND.out] <;> first | rfl | (simp only [hZ]; done) | (simp only [hZ]; rfl) | simp [hZ]), by first | exact K4.out | exact K3.out | exact K2.out⟩
  · have KND : Hid (Pl.inKind ⟨13, 2, r, 7, k, e, s⟩ = ((((2 : Int) == 2) && decide (r ≤ 1)) && ((7 : Int) == 7))) := hide rfl
    cases a1 : decide (r ≤ 1)
    all_goals
      go_wp2_with fail
      go_ret
      exact ⟨rB (by rw [G.out, KND.out] <;> first | rfl | (simp only [a1, hZ]; done) | (simp only [a1, hZ]; rfl) | simp [a1, hZ]), by first | exact K4.out | exact K3.out | exact K2.out⟩
  · have KND : Hid (Pl.inKind ⟨14, 2, r, 7, k, e, s⟩ = (((((2 : Int) == 2) && (r == 0)) && decide (s ≤ 1)) && Pl.plainM (7 : Int))) := hide rfl
    cases a1 : (r == 0) <;> cases a2 : decide (s ≤ 1)
    all_goals
      go_wp2_with (first | (go_at_call 102; refine (specPlain _ _).mono ?_; rintro e9 w' ⟨rfl, hw⟩; have hw2 := hw.symm; clear hw; subst hw2))
      go_ret
      exact ⟨rB (by rw [G.out, KND.out] <;> first | rfl | (simp only [a1, a2, hZ]; done) | (simp only [a1, a2, hZ]; rfl) | simp [a1, a2, hZ]), by first | exact K4.out | exact K3.out | exact K2.out⟩
  · have KND : Hid (Pl.inKind ⟨15, 2, r, 7, k, e, s⟩ = (bif s == 3 then (((2 : Int) == 2) && (r == 0)) && Pl.nowO (7 : Int) e else ((((2 : Int) == 2) && decide (s ≤ 6)) && Pl.zeroO (7 : Int) k e) && (decide (3 < s) || (r == 0)))) := hide rfl
    cases a0 : (s == 3) <;> cases a1 : (r == 0) <;> cases a2 : decide (s ≤ 6) <;> cases a4 : decide (3 < s)
    all_goals
      go_wp2_with (first | (go_at_call 103; refine (specNow 7 k e _).mono ?_; rintro e9 w3 ⟨rfl, k3⟩; have B3 := hide (B2.out.kept0 k3); have K3 := hide (K2.out.trans k3); have d0 := B3.out.cell (i := 0) rfl; have d1 := B3.out.cell (i := 1) rfl; have d2 := B3.out.cell (i := 2) rfl; have d3 := B3.out.cell (i := 3) rfl; have d4 := B3.out.cell (i := 4) rfl; have d5 := B3.out.cell (i := 5) rfl; have d6 := B3.out.cell (i := 6) rfl; clear k3) | (go_at_call 104; have z9 := B3; refine (specZero 7 k e _).mono ?_; rintro e9 w4 ⟨rfl, k4⟩; rw [hZ]; have B4 := hide (B3.out.kept0 k4); have K4 := hide (K3.out.trans k4); have f0 := B4.out.cell (i := 0) rfl; have f1 := B4.out.cell (i := 1) rfl; have f2 := B4.out.cell (i := 2) rfl; have f3 := B4.out.cell (i := 3) rfl; have f4 := B4.out.cell (i := 4) rfl; have f5 := B4.out.cell (i := 5) rfl; have f6 := B4.out.cell (i := 6) rfl; clear k4) | (go_at_call 104; refine (specZero 7 k e _).mono ?_; rintro e9 w4 ⟨rfl, k4⟩; rw [hZ]; have B4 := hide (B2.out.kept0 k4); have K4 := hide (K2.out.trans k4); have f0 := B4.out.cell (i := 0) rfl; have f1 := B4.out.cell (i := 1) rfl; have f2 := B4.out.cell (i := 2) rfl; have f3 := B4.out.cell (i := 3) rfl; have f4 := B4.out.cell (i := 4) rfl; have f5 := B4.out.cell (i := 5) rfl; have f6 := B4.out.cell (i := 6) rfl; clear k4))
      go_ret
      exact ⟨rB (by rw [G.out, KND.out] <;> first | rfl | (simp only [a0, a1, a2, a4, hZ]; done) | (simp only [a0, a1, a2, a4, hZ]; rfl) | simp [a0, a1, a2, a4, hZ]), by first | exact K4.out | exact K3.out | exact K2.out⟩
  · have KND : Hid (Pl.inKind ⟨16, 2, r, 7, k, e, s⟩ = ((((2 : Int) == 2) && (s == 0)) && !((7 : Int) == 1))) := hide rfl
    cases a1 : (s == 0)
    all_goals
      go_wp2_with fail
      go_ret
      exact ⟨rB (by rw [G.out, KND.out] <;> first | rfl | (simp only [a1, hZ]; done) | (simp only [a1, hZ]; rfl) | simp [a1, hZ]), by first | exact K4.out | exact K3.out | exact K2.out⟩
  · have KND : Hid (Pl.inKind ⟨17, 2, r, 7, k, e, s⟩ = ((((2 : Int) == 2) && (s == 0)) && !((7 : Int) == 1))) := hide rfl
    cases a1 : (s == 0)
    all_goals
      go_wp2_with fail
      go_ret
      exact ⟨rB (by rw [G.out, KND.out] <;> first | rfl | (simp only [a1, hZ]; done) | (simp only [a1, hZ]; rfl) | simp [a1, hZ]), by first | exact K4.out | exact K3.out | exact K2.out⟩
  · have KND : Hid (Pl.inKind ⟨18, 2, r, 7, k, e, s⟩ = (((!((2 : Int) == 2)) && decide (s ≤ 1)) && ((7 : Int) == 0))) := hide rfl
    go_wp2_with fail
    go_ret
    exact ⟨rB (by rw [G.out, KND.out] <;> first | rfl | (simp only [hZ]; done) | (simp only [hZ]; rfl) | simp [hZ]), by first | exact K4.out | exact K3.out | exact K2.out⟩
  · have KND : Hid (Pl.inKind ⟨19, 2, r, 7, k, e, s⟩ = (((2 : Int) == 2) && ((((s == 0) && (r == 0)) && Pl.nowO (7 : Int) e) || ((s == 1) && Pl.zeroO (7 : Int) k e)))) := hide rfl
    cases a1 : (s == 0) <;> cases a2 : (r == 0) <;> cases a3 : Pl.nowO 7 e <;> cases a4 : (s == 1)
    all_goals
      go_wp2_with (first | (go_at_call 103; refine (specNow 7 k e _).mono ?_; rintro e9 w3 ⟨rfl, k3⟩; rw [a3]; have B3 := hide (B2.out.kept0 k3); have K3 := hide (K2.out.trans k3); have d0 := B3.out.cell (i := 0) rfl; have d1 := B3.out.cell (i := 1) rfl; have d2 := B3.out.cell (i := 2) rfl; have d3 := B3.out.cell (i := 3) rfl; have d4 := B3.out.cell (i := 4) rfl; have d5 := B3.out.cell (i := 5) rfl; have d6 := B3.out.cell (i := 6) rfl; clear k3) | (go_at_call 104; have z9 := B3; refine (specZero 7 k e _).mono ?_; rintro e9 w4 ⟨rfl, k4⟩; rw [hZ]; have B4 := hide (B3.out.kept0 k4); have K4 := hide (K3.out.trans k4); have f0 := B4.out.cell (i := 0) rfl; have f1 := B4.out.cell (i := 1) rfl; have f2 := B4.out.cell (i := 2) rfl; have f3 := B4.out.cell (i := 3) rfl; have f4 := B4.out.cell (i := 4) rfl; have f5 := B4.out.cell (i := 5) rfl; have f6 := B4.out.cell (i := 6) rfl; clear k4) | (go_at_call 104; refine (specZero 7 k e _).mono ?_; rintro e9 w4 ⟨rfl, k4⟩; rw [hZ]; have B4 := hide (B2.out.kept0 k4); have K4 := hide (K2.out.trans k4); have f0 := B4.out.cell (i := 0) rfl; have f1 := B4.out.cell (i := 1) rfl; have f2 := B4.out.cell (i := 2) rfl; have f3 := B4.out.cell (i := 3) rfl; have f4 := B4.out.cell (i := 4) rfl; have f5 := B4.out.cell (i := 5) rfl; have f6 := B4.out.cell (i := 6) rfl; clear k4))
      go_ret
      exact ⟨rB (by rw [G.out, KND.out] <;> first | rfl | (simp only [a1, a2, a3, a4, hZ]; done) | (simp only [a1, a2, a3, a4, hZ]; rfl) | simp [a1, a2, a3, a4, hZ]), by first | exact K4.out | exact K3.out | exact K2.out⟩
  · obtain ⟨q1, q2, q3, q4, q5, q6, q7, q8, q9, q10, q11, q12, q13, q14, q15, q16, q17, q18, q19⟩ := hno
    have KND : Hid (Pl.inKind ⟨op, 2, r, 7, k, e, s⟩ = false) := hide (by simp [Pl.inKind, q1, q2, q3, q4, q5, q6, q7, q8, q9, q10, q11, q12, q13, q14, q15, q16, q17, q18, q19])
    go_wp2_with fail
    go_ret
    exact ⟨rB (by rw [G.out, KND.out]), K2.out⟩
end Go.Proofs.YtbppfbkkphhjnaaGreat

namespace Go.Proofs.YtbppfbkkphhjnaaGreat
open Go.RowKit
set_option linter.unusedVariables false
set_option linter.unusedSimpArgs false
set_option maxRecDepth 100000 in
set_option maxHeartbeats 4000000 in
theorem specGoodIns (w : World) (op z r m k e s : Int) :
    Calls Tryz.prog 68 #[.agg (inA op z r m k e s)] w fun r' w' => r' = .returned (.bool (Pl.inOk ⟨op, z, r, m, k, e, s⟩)) ∧ Kept 0 0 w w' := by
  have K0 := hide (kept_alloc w (.cells (inA op z r m k e s) 104))
  have B0 := hide (Blk.new w (inA op z r m k e s) 104)
  cases h1 : (decide (z = 1) || decide (z = 2))
  · have G : Hid (Pl.inOk ⟨op, z, r, m, k, e, s⟩ = false) := hide (by simp only [Pl.inOk, Pl.inBase, h1]; rfl)
    go_enter Tryz.func68, Tryz.ntmps68
    go_wp2_with (first | (go_at_call 99; refine (specSize _ _).mono ?_; rintro e9 w' ⟨rfl, hw⟩; have hw2 := hw.symm; clear hw; subst hw2; rw [h1]))
    go_ret
    exact ⟨rB G.out.symm, K0.out⟩
  · cases h2 : Pl.within r 0 3
    · have G : Hid (Pl.inOk ⟨op, z, r, m, k, e, s⟩ = false) := hide (by simp only [Pl.inOk, Pl.inBase, h1, h2]; rfl)
      go_enter Tryz.func68, Tryz.ntmps68
      go_wp2_with (first | (go_at_call 99; refine (specSize _ _).mono ?_; rintro e9 w' ⟨rfl, hw⟩; have hw2 := hw.symm; clear hw; subst hw2; rw [h1]) | (go_at_call 33; refine (l1In _ _ _ _).mono ?_; rintro e9 w' ⟨rfl, hw⟩; have hw2 := hw.symm; clear hw; subst hw2; rw [show (decide (0 ≤ r) && decide (r ≤ 3)) = Pl.within r 0 3 from rfl, h2]))
      go_ret
      exact ⟨rB G.out.symm, K0.out⟩
    · cases h3 : Pl.opOk m k e
      · have G : Hid (Pl.inOk ⟨op, z, r, m, k, e, s⟩ = false) := hide (by simp only [Pl.inOk, Pl.inBase, h1, h2, h3]; rfl)
        go_enter Tryz.func68, Tryz.ntmps68
        go_wp2_with (first | (go_at_call 99; refine (specSize _ _).mono ?_; rintro e9 w' ⟨rfl, hw⟩; have hw2 := hw.symm; clear hw; subst hw2; rw [h1]) | (go_at_call 33; refine (l1In _ _ _ _).mono ?_; rintro e9 w' ⟨rfl, hw⟩; have hw2 := hw.symm; clear hw; subst hw2; rw [show (decide (0 ≤ r) && decide (r ≤ 3)) = Pl.within r 0 3 from rfl, h2]) | (go_at_call 100; refine (specGoodOperand _ m k e).mono ?_; rintro e9 w2 ⟨rfl, k2⟩; rw [h3]; have B2 := hide (B0.out.kept0 k2); have K2 := hide (K0.out.trans k2); have c0 := B2.out.cell (i := 0) rfl; have c1 := B2.out.cell (i := 1) rfl; have c2 := B2.out.cell (i := 2) rfl; have c3 := B2.out.cell (i := 3) rfl; have c4 := B2.out.cell (i := 4) rfl; have c5 := B2.out.cell (i := 5) rfl; have c6 := B2.out.cell (i := 6) rfl; clear k2))
        go_ret
        exact ⟨rB G.out.symm, K2.out⟩
      · cases h4 : Pl.within s 0 7
        · have G : Hid (Pl.inOk ⟨op, z, r, m, k, e, s⟩ = false) := hide (by simp only [Pl.inOk, Pl.inBase, h1, h2, h3, h4]; rfl)
          go_enter Tryz.func68, Tryz.ntmps68
          go_wp2_with (first | (go_at_call 33; have z9 := B2; refine (l1In _ _ _ _).mono ?_; rintro e9 w' ⟨rfl, hw⟩; have hw2 := hw.symm; clear hw; subst hw2; rw [show (decide (0 ≤ s) && decide (s ≤ 7)) = Pl.within s 0 7 from rfl, h4]) | (go_at_call 99; refine (specSize _ _).mono ?_; rintro e9 w' ⟨rfl, hw⟩; have hw2 := hw.symm; clear hw; subst hw2; rw [h1]) | (go_at_call 33; refine (l1In _ _ _ _).mono ?_; rintro e9 w' ⟨rfl, hw⟩; have hw2 := hw.symm; clear hw; subst hw2; rw [show (decide (0 ≤ r) && decide (r ≤ 3)) = Pl.within r 0 3 from rfl, h2]) | (go_at_call 100; refine (specGoodOperand _ m k e).mono ?_; rintro e9 w2 ⟨rfl, k2⟩; rw [h3]; have B2 := hide (B0.out.kept0 k2); have K2 := hide (K0.out.trans k2); have c0 := B2.out.cell (i := 0) rfl; have c1 := B2.out.cell (i := 1) rfl; have c2 := B2.out.cell (i := 2) rfl; have c3 := B2.out.cell (i := 3) rfl; have c4 := B2.out.cell (i := 4) rfl; have c5 := B2.out.cell (i := 5) rfl; have c6 := B2.out.cell (i := 6) rfl; clear k2))
          go_ret
          exact ⟨rB G.out.symm, K2.out⟩
        · cases h6 : (m == 7)
          · clear K0 B0
            simp at h1
            rcases h1 with rfl | rfl
            · exact goodInsA1 w op r m k e s h2 h3 h4 h6
            · exact goodInsA2 w op r m k e s h2 h3 h4 h6
          · have hm : m = 7 := by simpa using h6
            subst hm
            have h1b := h1
            simp at h1b
            rcases h1b with rfl | rfl
            · cases h8 : decide (255 < e)
              · exact goodInsB1 w op r k e s h2 h3 h4 h8
              · have G : Hid (Pl.inOk ⟨op, 1, r, 7, k, e, s⟩ = false) := hide (by simp only [Pl.inOk, Pl.inBase, Pl.byteNow, h2, h3, h4, h8]; rfl)
                go_enter Tryz.func68, Tryz.ntmps68
                go_wp2_with (first | (go_at_call 33; have z9 := B2; refine (l1In _ _ _ _).mono ?_; rintro e9 w' ⟨rfl, hw⟩; have hw2 := hw.symm; clear hw; subst hw2; rw [show (decide (0 ≤ s) && decide (s ≤ 7)) = Pl.within s 0 7 from rfl, h4]) | (go_at_call 99; refine (specSize _ _).mono ?_; rintro e9 w' ⟨rfl, hw⟩; have hw2 := hw.symm; clear hw; subst hw2; rw [h1]) | (go_at_call 33; refine (l1In _ _ _ _).mono ?_; rintro e9 w' ⟨rfl, hw⟩; have hw2 := hw.symm; clear hw; subst hw2; rw [show (decide (0 ≤ r) && decide (r ≤ 3)) = Pl.within r 0 3 from rfl, h2]) | (go_at_call 100; refine (specGoodOperand _ 7 k e).mono ?_; rintro e9 w2 ⟨rfl, k2⟩; rw [h3]; have B2 := hide (B0.out.kept0 k2); have K2 := hide (K0.out.trans k2); have c0 := B2.out.cell (i := 0) rfl; have c1 := B2.out.cell (i := 1) rfl; have c2 := B2.out.cell (i := 2) rfl; have c3 := B2.out.cell (i := 3) rfl; have c4 := B2.out.cell (i := 4) rfl; have c5 := B2.out.cell (i := 5) rfl; have c6 := B2.out.cell (i := 6) rfl; clear k2))
                go_ret
                exact ⟨rB G.out.symm, K2.out⟩
            · exact goodInsB2 w op r k e s h2 h3 h4
end Go.Proofs.YtbppfbkkphhjnaaGreat

namespace Go.Proofs.YtbppfbkkphhjnaaGreat
open Go.RowKit
set_option linter.unusedVariables false

theorem l1Top1 (w : World) : Calls Tryz.prog 129 #[iv 1] w fun e w' => e = .returned (iv 256) ∧ w' = w := by
  go_enter Tryz.func129, Tryz.ntmps129
  go_wp2
  go_ret
  exact ⟨rfl, rfl⟩

theorem l1Top2 (w : World) : Calls Tryz.prog 129 #[iv 2] w fun e w' => e = .returned (iv 65536) ∧ w' = w := by
  go_enter Tryz.func129, Tryz.ntmps129
  go_wp2
  go_ret
  exact ⟨rfl, rfl⟩

theorem l1Value (s v : Int) (w : World) :
    Calls Tryz.prog 95 #[iv s, iv v] w fun e w' => e = .returned (.bool (Pl.okv s v)) ∧ w' = w := by
  by_cases h1 : s = 1
  · subst h1
    go_enter Tryz.func95, Tryz.ntmps95
    go_wp2_with fail
    refine (l1Size1 _).mono ?_
    rintro e w' ⟨rfl, rfl⟩
    go_wp2_with fail
    refine (l1Top1 _).mono ?_
    rintro e w' ⟨rfl, rfl⟩
    go_wp2_with fail
    refine (l1In _ _ _ _).mono ?_
    rintro e w' ⟨rfl, rfl⟩
    go_wp2_with fail
    go_ret
    exact ⟨rB (by rw [Bool.eq_iff_iff]; simp [Pl.okv, Pl.top]; omega), rfl⟩
  · by_cases h2 : s = 2
    · subst h2
      go_enter Tryz.func95, Tryz.ntmps95
      go_wp2_with fail
      refine (l1Size2 _).mono ?_
      rintro e w' ⟨rfl, rfl⟩
      go_wp2_with fail
      refine (l1Top2 _).mono ?_
      rintro e w' ⟨rfl, rfl⟩
      go_wp2_with fail
      refine (l1In _ _ _ _).mono ?_
      rintro e w' ⟨rfl, rfl⟩
      go_wp2_with fail
      go_ret
      exact ⟨rB (by rw [Bool.eq_iff_iff]; simp [Pl.okv, Pl.top]; omega), rfl⟩
    · go_enter Tryz.func95, Tryz.ntmps95
      go_wp2_with fail
      refine (l1Size_no s _ h1 h2).mono ?_
      rintro e w' ⟨rfl, rfl⟩
      go_wp2_with fail
      go_ret
      exact ⟨rB (by simp [Pl.okv, h1, h2]), rfl⟩

end Go.Proofs.YtbppfbkkphhjnaaGreat

namespace Go.Proofs.YtbppfbkkphhjnaaGreat
open Go.RowKit
set_option linter.unusedVariables false

theorem l1Flag (b : Bool) (f : Int) (w : World) :
    Calls Tryz.prog 134 #[.bool b, iv f] w fun e w' => e = .returned (iv (Pl.fl b f)) ∧ w' = w := by
  cases b
  all_goals
    go_enter Tryz.func134, Tryz.ntmps134
    go_wp2
    go_ret
    exact ⟨rfl, rfl⟩

end Go.Proofs.YtbppfbkkphhjnaaGreat

namespace Go.Proofs.YtbppfbkkphhjnaaGreat
open Go.RowKit
set_option linter.unusedVariables false

theorem signedAs8 (v : Int) (w : World) (lo : -9223372036854775808 ≤ v) (hi : v ≤ 9223372036854775807) :
    Calls Tryz.prog 153 #[iv v] w fun e w' => e = .returned (.tuple #[iv (Pl.sgnV 1 v), .bool (Pl.okv 1 v)]) ∧ w' = w := by
  by_cases h : 0 ≤ v ∧ v < 256
  · obtain ⟨h0, h1⟩ := h
    have hs : IntKind.u8.signed = false := rfl
    have hm : IntKind.u8.max = 255 := by decide
    have hb : bits .xor .u8 255 0 = 255 := by decide
    by_cases h : 127 < v
    all_goals
      go_enter Tryz.func153, Tryz.ntmps153
      go_wp2
      go_ret2
      exact ⟨rIB (by simp [Pl.sgnV, Pl.okv, Pl.sg, Pl.top, h0, h1]; omega) (by simp [Pl.okv, Pl.top, h0, h1]), rfl⟩
  · go_enter Tryz.func153, Tryz.ntmps153
    go_wp2
    go_ret2
    have k : Pl.okv 1 v = false := by
      cases c : Pl.okv 1 v
      · rfl
      · have := Pl.top_ok c; omega
    exact ⟨rIB (by simp [Pl.sgnV, k]) k.symm, rfl⟩

theorem signedAs16 (v : Int) (w : World) (lo : -9223372036854775808 ≤ v) (hi : v ≤ 9223372036854775807) :
    Calls Tryz.prog 154 #[iv v] w fun e w' => e = .returned (.tuple #[iv (Pl.sgnV 2 v), .bool (Pl.okv 2 v)]) ∧ w' = w := by
  by_cases h : 0 ≤ v ∧ v < 65536
  · obtain ⟨h0, h1⟩ := h
    have hs : IntKind.u16.signed = false := rfl
    have hm : IntKind.u16.max = 65535 := by decide
    have hb : bits .xor .u16 65535 0 = 65535 := by decide
    by_cases h : 32767 < v
    all_goals
      go_enter Tryz.func154, Tryz.ntmps154
      go_wp2
      go_ret2
      exact ⟨rIB (by simp [Pl.sgnV, Pl.okv, Pl.sg, Pl.top, h0, h1]; omega) (by simp [Pl.okv, Pl.top, h0, h1]), rfl⟩
  · have hw : IntKind.u16.wrap v = v % 65536 := IntKind.wrap_u16 v
    go_enter Tryz.func154, Tryz.ntmps154
    go_wp2
    go_ret2
    have k : Pl.okv 2 v = false := by
      cases c : Pl.okv 2 v
      · rfl
      · have := Pl.top_ok c; omega
    exact ⟨rIB (by simp [Pl.sgnV, k]) k.symm, rfl⟩

theorem signedOf (s v : Int) (w : World) (lo : -9223372036854775808 ≤ v) (hi : v ≤ 9223372036854775807) :
    Calls Tryz.prog 136 #[iv s, iv v] w fun e w' => e = .returned (.tuple #[iv (Pl.sgnV s v), .bool (Pl.okv s v)]) ∧ w' = w := by
  by_cases h1 : s = 1
  · subst h1
    go_enter Tryz.func136, Tryz.ntmps136
    go_wp2_with fail
    refine (signedAs8 v _ lo hi).mono ?_
    rintro e w' ⟨rfl, rfl⟩
    go_wp2_with fail
    go_ret2
    exact ⟨rfl, rfl⟩
  · by_cases h2 : s = 2
    · subst h2
      go_enter Tryz.func136, Tryz.ntmps136
      go_wp2_with fail
      refine (signedAs16 v _ lo hi).mono ?_
      rintro e w' ⟨rfl, rfl⟩
      go_wp2_with fail
      go_ret2
      exact ⟨rfl, rfl⟩
    · have k : Pl.okv s v = false := by simp [Pl.okv, h1, h2]
      have k1 : (s == 1) = false := by simpa using h1
      have k2 : (s == 2) = false := by simpa using h2
      go_enter Tryz.func136, Tryz.ntmps136
      go_wp2_with fail
      go_ret2
      exact ⟨rIB (by simp [Pl.sgnV, k]) k.symm, rfl⟩

end Go.Proofs.YtbppfbkkphhjnaaGreat

namespace Go.Proofs.YtbppfbkkphhjnaaGreat
open Go.RowKit
set_option linter.unusedVariables false

/-! ### the program's own -/

theorem flagsIf (b : Bool) (f : Int) (w : World) :
    Calls Tryz.prog 160 #[.bool b, iv f] w fun e w' => e = .returned (iv (Pl.fl b f)) ∧ w' = w := by
  cases b
  all_goals
    go_enter Tryz.func160, Tryz.ntmps160
    go_wp2
    go_ret
    exact ⟨rfl, rfl⟩

/-! ### the model's -/

end Go.Proofs.YtbppfbkkphhjnaaGreat

namespace Go.Proofs.YtbppfbkkphhjnaaGreat
open Go.RowKit
set_option linter.unusedVariables false
def BRow (w : World) (a : Option Addr) (xs : List Bool) : Prop :=
  ∀ i : Nat, i < xs.length → ∃ g off : Nat, a = some ⟨g, off, none⟩ ∧ w.cell? ⟨g, off + i, none⟩ = some (.bool (xs[i]?.getD false))
def BOwn (w : World) (g : Nat) (xs : List Bool) : Prop :=
  ∀ i : Nat, i < xs.length → w.cell? ⟨g, i, none⟩ = some (.bool (xs[i]?.getD false)) ∧ w.frozen? ⟨g, i, none⟩ = false
def BSlot (w : World) (lo hi : Nat) (a : Option Addr) (xs : List Bool) : Prop :=
  (a = none ∧ xs = []) ∨ ∃ g : Nat, a = some ⟨g, 0, none⟩ ∧ lo ≤ g ∧ g < hi ∧ BOwn w g xs
theorem BOwn.keptS {w w' : World} {g : Nat} {xs : List Bool} {lo hi : Nat} (h : BOwn w g xs) (k : Kept lo hi w w') (hn : ¬ (lo ≤ g ∧ g < hi)) : BOwn w' g xs := by
  intro i hi'
  obtain ⟨hc, hf⟩ := h i hi'
  have e := k.block g (World.block_lt_of_cell? _ _ hc) hn
  exact ⟨by rw [World.cell?_of_block (w := w) e]; exact hc, by rw [World.frozen?_of_block (w := w) e]; exact hf⟩
theorem BOwn.row {w : World} {g : Nat} {xs : List Bool} (h : BOwn w g xs) : BRow w (some ⟨g, 0, none⟩) xs := by
  intro i hi
  exact ⟨g, 0, rfl, by rw [Nat.zero_add]; exact (h i hi).1⟩
theorem BOwn.set {w : World} {g k : Nat} {xs : List Bool} (h : BOwn w g xs) (z : Bool) : BOwn (w.setCell ⟨g, k, none⟩ (.bool z)) g (xs.set k z) := by
  intro i hi
  rw [List.length_set] at hi
  obtain ⟨hc, hf⟩ := h i hi
  refine ⟨?_, by simpa using hf⟩
  by_cases e : k = i
  · subst e
    rw [World.cell?_setCell_same _ _ _ hc]
    simp [hi]
  · rw [World.cell?_setCell_other _ _ _ _ (fun q => e (congrArg Addr.off q)), hc]
    simp [e]
theorem bown_of_row {w : World} {base g n cap : Nat} {xs : List Bool} (h : w.ownsRow base 4 1 (.slice (some ⟨g, 0, none⟩) n cap) n (xs.map Value.bool)) : BOwn w g xs := by
  intro i hi
  have hc := h.cells (g := g) rfl i (.bool (xs[i]?.getD false)) (by simp [hi])
  have hadd : (⟨g, 0, none⟩ : Addr).add i = ⟨g, i, none⟩ := by unfold Addr.add; split <;> simp_all
  rw [hadd] at hc
  refine ⟨hc, ?_⟩
  rcases h.2 with ⟨e, _⟩ | ⟨g', cap', cur, e, _, hgg, _⟩
  · cases e
  · cases e
    simp [World.frozen?, hgg]
theorem bslot_row {w : World} {base n : Nat} {v : Value} {xs : List Bool} (h : w.ownsRow base 4 1 v n (xs.map Value.bool)) : ∃ (b : Option Addr) (cb : Nat), v = .slice b n cb ∧ BSlot w base w.heap.size b xs := by
  have h9 := h
  rcases h with ⟨hl, ⟨rfl, e⟩ | ⟨g, cap, cur, e, hb, hgg, hn, _, hsz, ht⟩⟩
  · subst e
    exact ⟨none, 0, rfl, .inl ⟨rfl, by simpa using hl⟩⟩
  · subst e
    exact ⟨some ⟨g, 0, none⟩, cap, rfl, .inr ⟨g, rfl, (h9.lt g rfl).1, (h9.lt g rfl).2, bown_of_row h9⟩⟩
end Go.Proofs.YtbppfbkkphhjnaaGreat

namespace Go.Proofs.YtbppfbkkphhjnaaGreat
open Go.RowKit
set_option linter.unusedVariables false
theorem specNeed (k : Nat) (hk : k < 16) (w : World) : Calls Tryz.prog 152 #[iv (k : Int)] w fun e w' => e = .returned (iv (Pl.need k)) ∧ w' = w := by
  have hE := Pl.bit_even k hk
  have hc : (k : Int) - (k : Int) % 2 = 0 ∨ (k : Int) - (k : Int) % 2 = 2 ∨ (k : Int) - (k : Int) % 2 = 4 ∨ (k : Int) - (k : Int) % 2 = 6 ∨ (k : Int) - (k : Int) % 2 = 8 ∨ (k : Int) - (k : Int) % 2 = 10 ∨ (k : Int) - (k : Int) % 2 = 12 ∨ (k : Int) - (k : Int) % 2 = 14 := by omega
  rcases hc with h | h | h | h | h | h | h | h <;> (
    have G : Hid (Pl.need (k : Int) = _) := hide (by unfold Pl.need; rw [h])
    rw [h] at hE
    clear h
    go_enter Tryz.func152, Tryz.ntmps152
    go_wp2
    go_ret
    exact ⟨rI (by rw [G.out]; rfl), rfl⟩)
theorem Tryz.infoBool : (Tryz.prog.info? 4).map (fun i => (i.zero, i.size, i.bytes)) = some (some (.bool false), 1, 1) := by kernel_rfl
end Go.Proofs.YtbppfbkkphhjnaaGreat

namespace Go.Proofs.YtbppfbkkphhjnaaGreat
open Go.RowKit
set_option linter.unusedVariables false
/-- the parts of the first word lie side by side -/
theorem orWord {op z r m k s : Int} (a1 : 0 ≤ op) (a2 : op ≤ 31) (c1 : 1 ≤ z) (c2 : z ≤ 2) (a4 : 0 ≤ r) (a5 : r ≤ 3) (a6 : 0 ≤ m) (a7 : m ≤ 7) (a8 : 0 ≤ k) (a9 : k ≤ 3) (b3 : 0 ≤ s) (b4 : s ≤ 7) :
    bits .or .i64 (op * 2048) ((z - 1) * 1024) = op * 2048 + (z - 1) * 1024 ∧
    bits .or .i64 (op * 2048 + (z - 1) * 1024) (r * 256) = op * 2048 + (z - 1) * 1024 + r * 256 ∧
    bits .or .i64 (op * 2048 + (z - 1) * 1024 + r * 256) (m * 32) = op * 2048 + (z - 1) * 1024 + r * 256 + m * 32 ∧
    bits .or .i64 (op * 2048 + (z - 1) * 1024 + r * 256 + m * 32) (k * 8) = op * 2048 + (z - 1) * 1024 + r * 256 + m * 32 + k * 8 ∧
    bits .or .i64 (op * 2048 + (z - 1) * 1024 + r * 256 + m * 32 + k * 8) s = op * 2048 + (z - 1) * 1024 + r * 256 + m * 32 + k * 8 + s := by
  refine ⟨?_, ?_, ?_, ?_, ?_⟩
  · exact bits_join .i64 62 (by decide) Pl.wraps_i64 11 (op * 2048) ((z - 1) * 1024) (by omega) (by omega) (by omega) (by omega) (by omega) (by omega)
  · exact bits_join .i64 62 (by decide) Pl.wraps_i64 10 (op * 2048 + (z - 1) * 1024) (r * 256) (by omega) (by omega) (by omega) (by omega) (by omega) (by omega)
  · exact bits_join .i64 62 (by decide) Pl.wraps_i64 8 (op * 2048 + (z - 1) * 1024 + r * 256) (m * 32) (by omega) (by omega) (by omega) (by omega) (by omega) (by omega)
  · exact bits_join .i64 62 (by decide) Pl.wraps_i64 5 (op * 2048 + (z - 1) * 1024 + r * 256 + m * 32) (k * 8) (by omega) (by omega) (by omega) (by omega) (by omega) (by omega)
  · exact bits_join .i64 62 (by decide) Pl.wraps_i64 3 (op * 2048 + (z - 1) * 1024 + r * 256 + m * 32 + k * 8) s (by omega) (by omega) (by omega) (by omega) (by omega) (by omega)
end Go.Proofs.YtbppfbkkphhjnaaGreat

namespace Go.Proofs.YtbppfbkkphhjnaaGreat
open Go.RowKit
set_option linter.unusedVariables false

/-- operation k of the region waits for operation j -/
def waitsB (md : Region.Mode) (ops : Array Oper) (i k : Nat) : Bool := ((ops[i]?).map fun o => o.after.any fun e => Region.binds md e && e.on == k).getD false
theorem ready_new {md : Region.Mode} {ops : Array Oper} {l : Array Bool} {i : Nat} (h : i ∈ Region.ready md ops l) : i < ops.size ∧ l.getD i true = false := by
  unfold Region.ready at h
  rw [List.mem_filter, Bool.and_eq_true] at h
  refine ⟨List.mem_range.1 h.1, ?_⟩
  have := h.2.1
  revert this
  cases l.getD i true <;> simp
theorem getD_true {l : Array Bool} {k : Nat} (h : l.getD k false = true) : l.getD k true = true := by
  unfold Array.getD at *
  split
  · rename_i hk; simpa [hk] using h
  · rfl
theorem ready_dep {md : Region.Mode} {ops : Array Oper} {l : Array Bool} {i : Nat} (h : i ∈ Region.ready md ops l) (k : Nat) (hk : waitsB md ops i k = true) : l.getD k true = true := by
  unfold Region.ready at h
  rw [List.mem_filter, Bool.and_eq_true] at h
  have h2 := h.2.2
  unfold waitsB at hk
  cases ho : ops[i]? with
  | none => rw [ho] at hk; simp at hk
  | some o =>
    rw [ho] at hk h2
    simp only [Option.map_some, Option.getD_some] at hk h2
    rw [Array.any_eq_true'] at hk
    obtain ⟨e, he, hb⟩ := hk
    rw [Array.all_eq_true'] at h2
    have h3 := h2 e he
    rw [Bool.and_eq_true] at hb
    rw [hb.1] at h3
    have h4 : e.on = k := by simpa using hb.2
    rw [h4] at h3
    exact getD_true (by simpa using h3)
theorem filter_lt {xs : List Nat} {p q : Nat → Bool} (hpq : ∀ x, q x = true → p x = true) {i : Nat} (hi : i ∈ xs) (hp : p i = true) (hq : q i = false) : (xs.filter q).length < (xs.filter p).length := by
  induction xs with
  | nil => cases hi
  | cons x t ih =>
    have hle : (t.filter q).length ≤ (t.filter p).length := by
      clear ih hi
      induction t with
      | nil => simp
      | cons y t ih =>
        cases h1 : q y
        · cases h2 : p y <;> simp [h1, h2] <;> omega
        · simp [h1, hpq y h1]; exact ih
    rcases List.mem_cons.1 hi with rfl | hi
    · simp [hp, hq]; omega
    · have := ih hi
      cases h1 : q x
      · cases h2 : p x <;> simp [h1, h2] <;> omega
      · simp [h1, hpq x h1]; exact this
theorem getD_set_ne {l : Array Bool} {i j : Nat} (h : j ≠ i) : (l.setIfInBounds i true).getD j true = l.getD j true := by
  simp only [Array.getD_eq_getD_getElem?]
  rw [Array.getElem?_setIfInBounds_ne (Ne.symm h)]
theorem getD_set_eq {l : Array Bool} {i : Nat} : (l.setIfInBounds i true).getD i true = true := by
  simp only [Array.getD_eq_getD_getElem?, Array.getElem?_setIfInBounds]
  split
  · split <;> rfl
  · rename_i h; exact absurd trivial h

theorem wpAny_inv {P : Program} {md : Region.Mode} {ops : Array Oper} {Q : Exit → Act → World → Prop} {I : Array Bool → Act → World → Prop}
    (hfin : ∀ l a w, l.size = ops.size → I l a w → Region.ready md ops l = [] → Q .normal a w)
    (hstep : ∀ l a w i, I l a w → i ∈ Region.ready md ops l → wpOp P ops Q i (I (l.setIfInBounds i true)) a w) :
    ∀ (fuel : Nat) (l : Array Bool) (a : Act) (w : World), l.size = ops.size → ((List.range ops.size).filter fun i => !l.getD i true).length ≤ fuel → I l a w → wpAny P md ops Q fuel l a w := by
  intro fuel
  induction fuel with
  | zero =>
    intro l a w hz hn hI
    have h0 : Region.ready md ops l = [] := by
      cases hr : Region.ready md ops l with
      | nil => rfl
      | cons i t =>
        exfalso
        have hi : i ∈ Region.ready md ops l := by rw [hr]; simp
        obtain ⟨h1, h2⟩ := ready_new hi
        have : i ∈ (List.range ops.size).filter fun i => !l.getD i true := List.mem_filter.2 ⟨List.mem_range.2 h1, by rw [h2]; rfl⟩
        have := List.length_pos_of_mem this
        omega
    exact ⟨h0, hfin l a w hz hI h0⟩
  | succ n ih =>
    intro l a w hz hn hI
    refine ⟨fun h0 => hfin l a w hz hI h0, fun i hi => ?_⟩
    refine wpOp_mono (fun a' w' h' => ih _ a' w' (by simp [hz]) ?_ h') (hstep l a w i hI hi)
    obtain ⟨h1, h2⟩ := ready_new hi
    have := filter_lt (xs := List.range ops.size) (p := fun j => !l.getD j true) (q := fun j => !(l.setIfInBounds i true).getD j true) (i := i) (by
      intro x hx
      by_cases e : x = i
      · subst e; rw [h2]; rfl
      · rw [getD_set_ne e] at hx; exact hx) (List.mem_range.2 h1) (by rw [h2]; rfl) (by rw [getD_set_eq]; rfl)
    omega

/-- an operation waits for earlier ones alone -/
def lowB (md : Region.Mode) (ops : Array Oper) : Bool := (List.range ops.size).all fun i => ((ops[i]?).map fun o => o.after.all fun e => !Region.binds md e || decide (e.on < i)).getD true
theorem ready_none {md : Region.Mode} {ops : Array Oper} {l : Array Bool} (hz : l.size = ops.size) (hB : lowB md ops = true) (h0 : Region.ready md ops l = []) : ∀ i, i < ops.size → l.getD i true = true := by
  intro i
  induction i using Nat.strongRecOn with
  | ind i ih =>
    intro hi
    cases hl : l.getD i true
    · exfalso
      have hm : i ∈ Region.ready md ops l := by
        unfold Region.ready
        rw [List.mem_filter, Bool.and_eq_true]
        refine ⟨List.mem_range.2 hi, by rw [hl]; rfl, ?_⟩
        have hb := List.all_eq_true.1 hB i (List.mem_range.2 hi)
        rw [Array.getElem?_eq_getElem hi] at hb ⊢
        simp only [Option.map_some, Option.getD_some] at hb ⊢
        rw [Array.all_eq_true'] at hb ⊢
        intro e he
        have h1 := hb e he
        rw [Bool.or_eq_true] at h1 ⊢
        rcases h1 with h1 | h1
        · exact .inl h1
        · have h2 : e.on < i := by simpa using h1
          have h3 := ih e.on h2 (by omega)
          refine .inr ?_
          unfold Array.getD at h3 ⊢
          split
          · rename_i hk; simpa [hk] using h3
          · rename_i hk; omega
      rw [h0] at hm
      cases hm
    · rfl
theorem wp_region_inv {P : Program} {ops : Array Oper} {Q : Exit → Act → World → Prop} {id : Nat} {a : Act} {w : World} (I : Array Bool → Act → World → Prop) (hm : P.follows .mixedOrders = true) (hB : lowB .any ops = true)
    (hstart : I (Array.replicate ops.size false) a w.drew)
    (hfin : ∀ l a w, I l a w → (∀ i, i < ops.size → l.getD i true = true) → Q .normal a w)
    (hstep : ∀ l a w i, I l a w → i ∈ Region.ready .any ops l → wpOp P ops Q i (I (l.setIfInBounds i true)) a w) :
    (Code.region id ops true).wp P Q a w := by
  refine wp_region_any hm (wpAny_inv (I := I) (fun l a w hz h h0 => hfin l a w h (ready_none hz hB h0)) hstep _ _ _ _ (by simp) ?_ hstart)
  exact Nat.le_trans (List.length_filter_le _ _) (by simp)

/-- what holds once operation i has come up -/
def Once (l : Array Bool) (i : Nat) (p : Prop) : Prop := l.getD i true = true → p
theorem Once.past {l : Array Bool} {i j : Nat} {p q : Prop} (h : Once l j p) (hn : j ≠ i) (hp : p → q) : Once (l.setIfInBounds i true) j q := fun e => hp (h (by rwa [getD_set_ne hn] at e))
theorem Once.now {l : Array Bool} {i j : Nat} {p : Prop} (h : p) : Once (l.setIfInBounds i true) j p := fun _ => h
theorem once_start {n i : Nat} {p : Prop} (hi : i < n) : Once (Array.replicate n false) i p := by
  intro e
  simp [Array.getD_eq_getD_getElem?, hi] at e
end Go.Proofs.YtbppfbkkphhjnaaGreat

namespace Go.Proofs.YtbppfbkkphhjnaaGreat
open Go.RowKit
set_option linter.unusedVariables false

/-- the frame A is A0 but for these slots -/
structure FR (SL : List Nat) (A0 A : Act) : Prop where
  size : A.tmps.size = A0.tmps.size
  defers : A.defers = A0.defers
  out : ∀ k, k ∉ SL → A.tmps[k]? = A0.tmps[k]?
theorem FR.refl (SL : List Nat) (A : Act) : FR SL A A := ⟨rfl, rfl, fun _ _ => rfl⟩
theorem put_ne {A : Act} {j k : Nat} {v : Value} (h : k ≠ j) : (A.put (some j) v).tmps[k]? = A.tmps[k]? := by
  show (A.tmps.setIfInBounds j v)[k]? = _
  rw [Array.getElem?_setIfInBounds_ne (Ne.symm h)]
theorem put_eq {A : Act} {k : Nat} {v : Value} (h : k < A.tmps.size) : (A.put (some k) v).tmps[k]? = some v := by
  show (A.tmps.setIfInBounds k v)[k]? = _
  rw [Array.getElem?_setIfInBounds]
  simp [h]
theorem FR.put {SL : List Nat} {A0 A : Act} (h : FR SL A0 A) {k : Nat} (hk : k ∈ SL) (v : Value) : FR SL A0 (A.put (some k) v) := by
  refine ⟨?_, h.defers, fun j hj => ?_⟩
  · show (A.tmps.setIfInBounds k v).size = _
    rw [Array.size_setIfInBounds]; exact h.size
  · rw [put_ne (fun e => hj (by rw [e]; exact hk))]; exact h.out j hj
theorem act_ext {A B : Act} (hs : A.tmps.size = B.tmps.size) (hd : A.defers = B.defers) (h : ∀ k : Nat, A.tmps[k]? = B.tmps[k]?) : A = B := by
  cases A; cases B
  simp only at hs hd h
  subst hd
  congr 1
  exact Array.ext_getElem? h
theorem chain_of {A : Act} : ∀ (SL : List Nat) (B : Act), A.tmps.size = B.tmps.size → A.defers = B.defers → (∀ k, k ∉ SL → A.tmps[k]? = B.tmps[k]?) → A = SL.foldl (fun a k => a.put (some k) (A.tmps.getD k undef)) B
  | [], B, hs, hd, h => act_ext hs hd (fun k => h k (by simp))
  | k :: t, B, hs, hd, h => by
    refine chain_of t (B.put (some k) (A.tmps.getD k undef)) ?_ hd (fun j hj => ?_)
    · show _ = (B.tmps.setIfInBounds k _).size
      rw [Array.size_setIfInBounds]; exact hs
    · by_cases e : j = k
      · subst e
        by_cases hb : j < B.tmps.size
        · rw [put_eq hb]
          have : j < A.tmps.size := by omega
          rw [Array.getElem?_eq_getElem this]
          simp [Array.getD_eq_getD_getElem?, this]
        · show _ = (B.tmps.setIfInBounds j _)[j]?
          rw [Array.getElem?_eq_none (by omega), Array.getElem?_eq_none (by rw [Array.size_setIfInBounds]; omega)]
      · rw [put_ne e]
        exact h j (by simp [e, hj])
theorem FR.chain {SL : List Nat} {A0 A : Act} (h : FR SL A0 A) : A = SL.foldl (fun a k => a.put (some k) (A.tmps.getD k undef)) A0 := chain_of SL A0 h.size h.defers h.out
theorem getD_of {A : Act} {k : Nat} {v : Value} (h : A.tmps[k]? = some v) : A.tmps.getD k undef = v := by
  rw [Array.getD_eq_getD_getElem?, h]; rfl
theorem wp_region_inv2 {P : Program} {ops : Array Oper} {Q : Exit → Act → World → Prop} {id : Nat} {a : Act} {w : World} (I : Act → Array Bool → Act → World → Prop) (hm : P.follows .mixedOrders = true) (hB : lowB .any ops = true)
    (hstart : I a (Array.replicate ops.size false) a w.drew)
    (hfin : ∀ l A w, I a l A w → (∀ i, i < ops.size → l.getD i true = true) → Q .normal A w)
    (hstep : ∀ l A w i, I a l A w → i ∈ Region.ready .any ops l → wpOp P ops Q i (I a (l.setIfInBounds i true)) A w) :
    (Code.region id ops true).wp P Q a w := wp_region_inv (I a) hm hB hstart hfin hstep
theorem Once.q {l : Array Bool} {i j k d : Nat} {A : Act} {u : Value} {v : Option Value} (h : Once l j (A.tmps[k]? = v)) (h1 : j ≠ i := by decide) (h2 : k ≠ d := by decide) : Once (l.setIfInBounds i true) j ((A.put (some d) u).tmps[k]? = v) := h.past h1 (fun e => (put_ne h2).trans e)
end Go.Proofs.YtbppfbkkphhjnaaGreat

namespace Go.Proofs.YtbppfbkkphhjnaaGreat
open Go.RowKit
set_option linter.unusedVariables false
theorem wfB {v : Int} (h : (Lit.int .i64 v).wf = true) : -9223372036854775808 ≤ v ∧ v ≤ 9223372036854775807 := bounds_i64 h
theorem okv2 (v : Int) : Pl.okv 2 v = Pl.wordOk v := by
  unfold Pl.okv Pl.wordOk Pl.within Pl.top
  rw [Bool.eq_iff_iff]; simp; omega
theorem isWord (v : Int) (w : World) (lo : -9223372036854775808 ≤ v) (hi : v ≤ 9223372036854775807) :
    Calls Tryz.prog 127 #[iv v] w fun e w' => e = .returned (.bool (Pl.wordOk v)) ∧ w' = w := by
  go_enter Tryz.func127, Tryz.ntmps127
  go_wp2_with (go_at_call 136; refine (signedOf _ _ _ lo hi).mono ?_; rintro e w' ⟨rfl, hw⟩; have hw2 := hw.symm; clear hw; subst hw2; rw [okv2])
  go_ret
  exact ⟨rfl, rfl⟩
theorem isReg (k : Int) (w : World) : Calls Tryz.prog 167 #[iv k] w fun e w' => e = .returned (.bool (Pl.within k 0 3)) ∧ w' = w := by
  by_cases h0 : 0 ≤ k
  · by_cases h1 : k ≤ 3
    · go_enter Tryz.func167, Tryz.ntmps167
      go_wp2
      go_ret
      exact ⟨rB (by simp [Pl.within, h0, h1]), rfl⟩
    · go_enter Tryz.func167, Tryz.ntmps167
      go_wp2
      go_ret
      exact ⟨rB (by simp [Pl.within, h0]; omega), rfl⟩
  · go_enter Tryz.func167, Tryz.ntmps167
    go_wp2
    go_ret
    exact ⟨rB (by simp [Pl.within]; omega), rfl⟩
end Go.Proofs.YtbppfbkkphhjnaaGreat

namespace Go.Proofs.YtbppfbkkphhjnaaGreat
open Go.RowKit
set_option linter.unusedVariables false
theorem wayOf0 (k e : Int) (w : World) : Calls Tryz.prog 165 #[.agg #[iv 0, iv k, iv e]] w fun r w' => r = .returned (.iface 183 (.agg #[iv k])) ∧ Kept 0 0 w w' := by
  go_enter Tryz.func165, Tryz.ntmps165
  go_wp2
  go_ret
  exact ⟨rfl, kept_alloc w _⟩
theorem wayOf1 (k e : Int) (w : World) : Calls Tryz.prog 165 #[.agg #[iv 1, iv k, iv e]] w fun r w' => r = .returned (.iface 184 (.agg #[iv k])) ∧ Kept 0 0 w w' := by
  go_enter Tryz.func165, Tryz.ntmps165
  go_wp2
  go_ret
  exact ⟨rfl, kept_alloc w _⟩
theorem wayOf2 (k e : Int) (w : World) : Calls Tryz.prog 165 #[.agg #[iv 2, iv k, iv e]] w fun r w' => r = .returned (.iface 185 (.agg #[iv k])) ∧ Kept 0 0 w w' := by
  go_enter Tryz.func165, Tryz.ntmps165
  go_wp2
  go_ret
  exact ⟨rfl, kept_alloc w _⟩
theorem wayOf3 (k e : Int) (w : World) : Calls Tryz.prog 165 #[.agg #[iv 3, iv k, iv e]] w fun r w' => r = .returned (.iface 186 (.agg #[iv k])) ∧ Kept 0 0 w w' := by
  go_enter Tryz.func165, Tryz.ntmps165
  go_wp2
  go_ret
  exact ⟨rfl, kept_alloc w _⟩
theorem wayOf4 (k e : Int) (w : World) : Calls Tryz.prog 165 #[.agg #[iv 4, iv k, iv e]] w fun r w' => r = .returned (.iface 187 (.agg #[iv k])) ∧ Kept 0 0 w w' := by
  go_enter Tryz.func165, Tryz.ntmps165
  go_wp2
  go_ret
  exact ⟨rfl, kept_alloc w _⟩
theorem wayOf5 (k e : Int) (w : World) : Calls Tryz.prog 165 #[.agg #[iv 5, iv k, iv e]] w fun r w' => r = .returned (.iface 189 (.agg #[iv k, iv e])) ∧ Kept 0 0 w w' := by
  go_enter Tryz.func165, Tryz.ntmps165
  go_wp2
  go_ret
  exact ⟨rfl, kept_alloc w _⟩
theorem wayOf6 (k e : Int) (w : World) : Calls Tryz.prog 165 #[.agg #[iv 6, iv k, iv e]] w fun r w' => r = .returned (.iface 191 (.agg #[iv e])) ∧ Kept 0 0 w w' := by
  go_enter Tryz.func165, Tryz.ntmps165
  go_wp2
  go_ret
  exact ⟨rfl, kept_alloc w _⟩
theorem wayOf7 (k e : Int) (w : World) : Calls Tryz.prog 165 #[.agg #[iv 7, iv k, iv e]] w fun r w' => r = .returned (.iface 192 (.agg #[iv e])) ∧ Kept 0 0 w w' := by
  go_enter Tryz.func165, Tryz.ntmps165
  go_wp2
  go_ret
  exact ⟨rfl, kept_alloc w _⟩
theorem wayOfNo (m k e : Int) (w : World) (h : Pl.modeOk m = false) : Calls Tryz.prog 165 #[.agg #[iv m, iv k, iv e]] w fun r w' => r = .returned .nilIface ∧ Kept 0 0 w w' := by
  obtain ⟨n0, n1, n2, n3, n4, n5, n6, n7⟩ : ¬ m = 0 ∧ ¬ m = 1 ∧ ¬ m = 2 ∧ ¬ m = 3 ∧ ¬ m = 4 ∧ ¬ m = 5 ∧ ¬ m = 6 ∧ ¬ m = 7 := by
    simp [Pl.modeOk, Pl.within] at h
    omega
  go_enter Tryz.func165, Tryz.ntmps165
  go_wp2
  go_ret
  exact ⟨rfl, kept_alloc w _⟩
theorem operand0 (k e : Int) (w : World) : Calls Tryz.prog 194 #[.agg #[iv k]] w fun r w' => r = .returned (.agg #[iv 0, iv k, iv 0]) ∧ Kept 0 0 w w' := by
  go_enter Tryz.func194, Tryz.ntmps194
  go_wp2
  refine bodyPost_ret (v := .agg #[iv 0, iv k, iv 0]) ?_ rfl ⟨rfl, kept_new (kept_alloc w _) _⟩
  rw [results_one rfl]; go_simp
theorem operand1 (k e : Int) (w : World) : Calls Tryz.prog 195 #[.agg #[iv k]] w fun r w' => r = .returned (.agg #[iv 1, iv k, iv 0]) ∧ Kept 0 0 w w' := by
  go_enter Tryz.func195, Tryz.ntmps195
  go_wp2
  refine bodyPost_ret (v := .agg #[iv 1, iv k, iv 0]) ?_ rfl ⟨rfl, kept_new (kept_alloc w _) _⟩
  rw [results_one rfl]; go_simp
theorem operand2 (k e : Int) (w : World) : Calls Tryz.prog 196 #[.agg #[iv k]] w fun r w' => r = .returned (.agg #[iv 2, iv k, iv 0]) ∧ Kept 0 0 w w' := by
  go_enter Tryz.func196, Tryz.ntmps196
  go_wp2
  refine bodyPost_ret (v := .agg #[iv 2, iv k, iv 0]) ?_ rfl ⟨rfl, kept_new (kept_alloc w _) _⟩
  rw [results_one rfl]; go_simp
theorem operand3 (k e : Int) (w : World) : Calls Tryz.prog 197 #[.agg #[iv k]] w fun r w' => r = .returned (.agg #[iv 3, iv k, iv 0]) ∧ Kept 0 0 w w' := by
  go_enter Tryz.func197, Tryz.ntmps197
  go_wp2
  refine bodyPost_ret (v := .agg #[iv 3, iv k, iv 0]) ?_ rfl ⟨rfl, kept_new (kept_alloc w _) _⟩
  rw [results_one rfl]; go_simp
theorem operand4 (k e : Int) (w : World) : Calls Tryz.prog 198 #[.agg #[iv k]] w fun r w' => r = .returned (.agg #[iv 4, iv k, iv 0]) ∧ Kept 0 0 w w' := by
  go_enter Tryz.func198, Tryz.ntmps198
  go_wp2
  refine bodyPost_ret (v := .agg #[iv 4, iv k, iv 0]) ?_ rfl ⟨rfl, kept_new (kept_alloc w _) _⟩
  rw [results_one rfl]; go_simp
theorem operand5 (k e : Int) (w : World) : Calls Tryz.prog 199 #[.agg #[iv k, iv e]] w fun r w' => r = .returned (.agg #[iv 5, iv k, iv e]) ∧ Kept 0 0 w w' := by
  go_enter Tryz.func199, Tryz.ntmps199
  go_wp2
  refine bodyPost_ret (v := .agg #[iv 5, iv k, iv e]) ?_ rfl ⟨rfl, kept_new (kept_alloc w _) _⟩
  rw [results_one rfl]; go_simp
theorem operand6 (k e : Int) (w : World) : Calls Tryz.prog 200 #[.agg #[iv e]] w fun r w' => r = .returned (.agg #[iv 6, iv 0, iv e]) ∧ Kept 0 0 w w' := by
  go_enter Tryz.func200, Tryz.ntmps200
  go_wp2
  refine bodyPost_ret (v := .agg #[iv 6, iv 0, iv e]) ?_ rfl ⟨rfl, kept_new (kept_alloc w _) _⟩
  rw [results_one rfl]; go_simp
theorem operand7 (k e : Int) (w : World) : Calls Tryz.prog 201 #[.agg #[iv e]] w fun r w' => r = .returned (.agg #[iv 7, iv 0, iv e]) ∧ Kept 0 0 w w' := by
  go_enter Tryz.func201, Tryz.ntmps201
  go_wp2
  refine bodyPost_ret (v := .agg #[iv 7, iv 0, iv e]) ?_ rfl ⟨rfl, kept_new (kept_alloc w _) _⟩
  rw [results_one rfl]; go_simp
theorem fn0 (a : Array Value) (w : World) : (callFunc 194 a).run Tryz.prog w = .ok (.enter 194 a) w := by kernel_rfl
theorem meth0 (v : Value) (w : World) : (method 311 183 v "loop.example/g00389/impl.operand").run Tryz.prog w = .ok (194, v) w := by kernel_rfl
theorem fn1 (a : Array Value) (w : World) : (callFunc 195 a).run Tryz.prog w = .ok (.enter 195 a) w := by kernel_rfl
theorem meth1 (v : Value) (w : World) : (method 311 184 v "loop.example/g00389/impl.operand").run Tryz.prog w = .ok (195, v) w := by kernel_rfl
theorem fn2 (a : Array Value) (w : World) : (callFunc 196 a).run Tryz.prog w = .ok (.enter 196 a) w := by kernel_rfl
theorem meth2 (v : Value) (w : World) : (method 311 185 v "loop.example/g00389/impl.operand").run Tryz.prog w = .ok (196, v) w := by kernel_rfl
theorem fn3 (a : Array Value) (w : World) : (callFunc 197 a).run Tryz.prog w = .ok (.enter 197 a) w := by kernel_rfl
theorem meth3 (v : Value) (w : World) : (method 311 186 v "loop.example/g00389/impl.operand").run Tryz.prog w = .ok (197, v) w := by kernel_rfl
theorem fn4 (a : Array Value) (w : World) : (callFunc 198 a).run Tryz.prog w = .ok (.enter 198 a) w := by kernel_rfl
theorem meth4 (v : Value) (w : World) : (method 311 187 v "loop.example/g00389/impl.operand").run Tryz.prog w = .ok (198, v) w := by kernel_rfl
theorem fn5 (a : Array Value) (w : World) : (callFunc 199 a).run Tryz.prog w = .ok (.enter 199 a) w := by kernel_rfl
theorem meth5 (v : Value) (w : World) : (method 311 189 v "loop.example/g00389/impl.operand").run Tryz.prog w = .ok (199, v) w := by kernel_rfl
theorem fn6 (a : Array Value) (w : World) : (callFunc 200 a).run Tryz.prog w = .ok (.enter 200 a) w := by kernel_rfl
theorem meth6 (v : Value) (w : World) : (method 311 191 v "loop.example/g00389/impl.operand").run Tryz.prog w = .ok (200, v) w := by kernel_rfl
theorem fn7 (a : Array Value) (w : World) : (callFunc 201 a).run Tryz.prog w = .ok (.enter 201 a) w := by kernel_rfl
theorem meth7 (v : Value) (w : World) : (method 311 192 v "loop.example/g00389/impl.operand").run Tryz.prog w = .ok (201, v) w := by kernel_rfl
end Go.Proofs.YtbppfbkkphhjnaaGreat

