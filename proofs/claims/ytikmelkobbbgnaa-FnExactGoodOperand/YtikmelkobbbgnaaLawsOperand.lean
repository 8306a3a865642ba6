/- The laws on GoodOperand and NeedsExt: of whatever arguments, their Go functions return true, and no block that was there has turned. -/
import Derived.Test.YtikmelkobbbgnaaSpecReg1
import Derived.Test.YtikmelkobbbgnaaImplRegJ
namespace Go.Proofs.Ytikmelkobbbgnaa
open Go.RowKit
set_option linter.unusedVariables false
theorem toOperand1 (a b c : Int) (w : World) :
    Calls Try.prog 21 #[.agg #[.int .i64 a, .int .i64 b, .int .i64 c]] w fun r w' => r = .returned (.agg #[.int .i64 a, .int .i64 b, .int .i64 c]) ∧ ∃ o1 o2 o3, w' = ((w.alloc o1).alloc o2).alloc o3 := by
  go_enter Try.func21, Try.ntmps21
  go_wp2
  refine bodyPost_ret (v := .agg #[.int .i64 a, .int .i64 b, .int .i64 c]) ?_ rfl ⟨rfl, _, _, _, rfl⟩
  rw [results_one rfl]; go_simp
theorem keptO {w w3 : World} {o1 o2 o3 : Obj} (h : w3 = ((w.alloc o1).alloc o2).alloc o3) : Kept 0 0 w w3 := by rw [h]; exact kept_new (kept_new (kept_alloc _ _) _) _

theorem lawGoodOperand (m k e : Int) (w : World) (wfm : (Lit.int .i64 m).wf = true) (wfk : (Lit.int .i64 k).wf = true) (wfe : (Lit.int .i64 e).wf = true) :
    Calls Try.prog 5 #[.agg #[.int .i64 m, .int .i64 k, .int .i64 e]] w fun r w' => r = .returned (.bool true) ∧ Below w.heap.size w w' := by
  have K0 := hide (kept_alloc w (.cells #[.int .i64 m, .int .i64 k, .int .i64 e] 35))
  have W0 := hide (Blk.new w #[.int .i64 m, .int .i64 k, .int .i64 e] 35)
  generalize hKK : Pl.opOk m k e = O
  have HKK := hide hKK
  clear hKK
  go_enter Try.func5, Try.ntmps5
  go_wp2_with fail
  refine (toOperand1 _ _ _ _).mono ?_
  rintro r1 w1 ⟨rfl, q1, q2, q3, hw3⟩
  have K1 := hide (K0.out.trans (keptO hw3))
  have W1 := hide (W0.out.kept0 (keptO hw3))
  clear hw3
  have c0 := W1.out.cell (i := 0) rfl
  have c1 := W1.out.cell (i := 1) rfl
  have c2 := W1.out.cell (i := 2) rfl
  go_wp2_with fail
  refine (specGoodOperand _ _ _ _).mono ?_
  rw [HKK.out]
  rintro r2 w2 ⟨rfl, k2⟩
  have K2 := hide (K1.out.trans k2)
  have W2 := hide (W1.out.kept0 k2)
  clear k2 c0 c1 c2
  have c0 := W2.out.cell (i := 0) rfl
  have c1 := W2.out.cell (i := 1) rfl
  have c2 := W2.out.cell (i := 2) rfl
  go_wp2_with fail
  refine (toOperand1 _ _ _ _).mono ?_
  rintro r3 w3 ⟨rfl, q4, q5, q6, hw3⟩
  have K3 := hide (K2.out.trans (keptO hw3))
  clear hw3 c0 c1 c2
  go_wp2_with fail
  refine (implGoodOperand _ _ _ _ wfm wfk wfe).mono ?_
  rw [HKK.out]
  rintro r4 w4 ⟨rfl, k4⟩
  go_wp2_with fail
  go_ret
  exact ⟨rfl, (K3.out.trans k4).below⟩

theorem lawNeedsExt (m : Int) (w : World) (wfm : (Lit.int .i64 m).wf = true) :
    Calls Try.prog 10 #[.int .i64 m] w fun r w' => r = .returned (.bool true) ∧ Below w.heap.size w w' := by
  generalize hA : (Pl.modeOk m && Pl.extM m) = O
  generalize hB : Pl.modeOk m = N
  have HA := hide hA
  have HB := hide hB
  clear hA hB
  go_enter Try.func10, Try.ntmps10
  go_wp2_with fail
  refine (specNeedsExt _ _).mono ?_
  rw [HA.out, HB.out]
  rintro r2 w2 ⟨rfl, hw⟩
  have hw2 := hw.symm
  clear hw
  subst hw2
  go_wp2_with fail
  refine (implNeedsExt _ _ wfm).mono ?_
  rw [HA.out, HB.out]
  rintro r4 w4 ⟨rfl, k4⟩
  go_wp2_with fail
  go_ret
  exact ⟨rfl, k4.below⟩
end Go.Proofs.Ytikmelkobbbgnaa
