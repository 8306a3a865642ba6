/- StepDevice answers as its model. -/
import Derived.Test.YtlocilcnmbmikaaRows
import Derived.Test.YtlocilcnmbmikaaLawsStepE
import Derived.Test.YtlocilcnmbmikaaOpenDev
import Derived.WalkKit
import Derived.ProofKit
import Derived.OpenShut
import Derived.ShutString
import Derived.ChangeOld
import Derived.Below
namespace Go.Proofs.Ytlocilcnmbmikaa.fnExactStepDevice
open Go.ChangeShapes Go.WideShapes Go.ChangeAt Go.RowKit
set_option linter.unusedVariables false

theorem own : ownKnob Try.prog.godebug = none := by kernel_rfl
theorem laidOut : laidOutB Try.prog = true := by kernel_rfl

theorem walk (v0_0 : Int) (v0_1 : Int) (v0_2 : Bool) (a0_3 : Option Addr) (c0_3 : Nat) (x0_3 : List Int) (a0_4 : Option Addr) (c0_4 : Nat) (x0_4 : List Int) (v0_5 : Int) (v1_0 : Int) (v1_1 : Int) (v1_2 : Int) (w : World) (w0_0 : (Lit.int .i64 v0_0).wf = true) (w0_1 : (Lit.int .i64 v0_1).wf = true) (h0_3 : Came w a0_3 x0_3) (l0_3 : x0_3.length ≤ maxLen) (h0_4 : Came w a0_4 x0_4) (l0_4 : x0_4.length ≤ maxLen) (w0_5 : (Lit.int .i64 v0_5).wf = true) (w1_0 : (Lit.int .i64 v1_0).wf = true) (w1_1 : (Lit.int .i64 v1_1).wf = true) (w1_2 : (Lit.int .i64 v1_2).wf = true) :
    Calls Try.prog 5 #[.agg #[.int .i64 v0_0, .int .i64 v0_1, .bool v0_2, .slice a0_3 x0_3.length c0_3, .slice a0_4 x0_4.length c0_4, .int .i64 v0_5], .agg #[.int .i64 v1_0, .int .i64 v1_1, .int .i64 v1_2]] w fun e w' => e = .returned (.bool true) ∧ Below w.heap.size w w' := by
  exact lawStepDevice (hide stepImpl) ⟨v0_0, v0_1, v0_2, x0_3, x0_4, v0_5⟩ a0_3 a0_4 c0_3 c0_4 v1_0 v1_1 v1_2 w h0_3 h0_4 (by unfold maxLen at l0_3; omega) (by unfold maxLen at l0_4; omega) ⟨w0_0, w0_1, w0_5⟩ w1_0 w1_1 w1_2

set_option maxRecDepth 100000 in
theorem lifted (os : Os) (started : os.Started) (H : Type) (enc : TypeId × Value → H) :
    ReturnsInHanded {} Try.checked os 5 .any (Rows.fnExactStepDeviceSpec.pre6 enc Try.prog Try.f5 Rows.fnExactStepDeviceRow.domain false) (Rows.fnExactStepDeviceSpec.post enc Try.prog Try.f5 false true false false) := by
  refine returnsInHanded_of_change (C := Try.checked) own started (by kernel_rfl) Try.func5
    (ChangeSpec.witness6 (enc := enc) (C := Try.checked) false ⟨#[], #[.agg #[.int .i64 0, .int .i64 0, .bool false, .slice none 0 0, .slice none 0 0, .int .i64 0], .agg #[.int .i64 0, .int .i64 0, .int .i64 0]], []⟩ 8 (by kernel_rfl) (by kernel_rfl) (by kernel_rfl) (by kernel_rfl)) ?_
  intro W base args ds gs before hval0 hW hcnd _
  have hval : ∀ (j : Nat) t v, Try.f5.params[j]? = some t → args[j]? = some v → Value.okWide Try.prog W .any base t v := hval0
  have hW' := hW
  obtain ⟨p, q, hA0, hV, rfl, hfz, hnd⟩ := hW
  have hA : DataW.TrodAll enc Try.prog W 0 (fun _ => true) true Try.f5.params.toList args.toList ds p := hA0
  rw [Try.params5] at hA hval
  obtain ⟨u0, vs0, d0, ds0, p0, q0, hargs, rfl, rfl, h0, r0⟩ := trodAll_cons hA
  obtain ⟨u1, vs1, d1, ds1, p1, q1, rfl, rfl, rfl, h1, r1⟩ := trodAll_cons r0
  obtain ⟨rfl, rfl, rfl⟩ := trodAll_nil r1
  obtain rfl : args = #[u0, u1] := by cases args; simp_all
  obtain ⟨rfl, rfl⟩ := trodVars_none hV
  have k0 := h0
  have lt0 : ∀ x ∈ p0, x.block < W.heap.size := by obtain ⟨m, hm⟩ := k0; exact DataW.trod_lt m _ _ _ hm
  obtain ⟨v0_0, v0_1, v0_2, a0_3, c0_3, x0_3, a0_4, c0_4, x0_4, v0_5, rfl, w0_0, w0_1, ⟨h0_3, l0_3⟩, ⟨h0_4, l0_4⟩, w0_5⟩ := open_Device (hval 0 29 u0 rfl rfl) h0
  have k1 := h1
  have lt1 : ∀ x ∈ p1, x.block < W.heap.size := by obtain ⟨m, hm⟩ := k1; exact DataW.trod_lt m _ _ _ hm
  obtain ⟨v1_0, v1_1, v1_2, rfl, w1_0, w1_1, w1_2⟩ := open_DevStep (hval 1 35 u1 rfl rfl) h1
  clear hA0 hval0
  refine (walk v0_0 v0_1 v0_2 a0_3 c0_3 x0_3 a0_4 c0_4 x0_4 v0_5 v1_0 v1_1 v1_2 W w0_0 w0_1 h0_3 l0_3 h0_4 l0_4 w0_5 w1_0 w1_1 w1_2).mono fun e W' ⟨he, bel⟩ => ?_
  subst he
  exact ⟨_, rfl, _, _, _, [], _, [], hW', trodAll_mk1 (shut_bool Try.underlying4 _), (trodAll_cons_mk (Below.trod laidOut (by kernel_rfl) (of_decide_eq_true (by kernel_rfl)) k0 bel lt0) (trodAll_cons_mk (Below.trod laidOut (by kernel_rfl) (of_decide_eq_true (by kernel_rfl)) k1 bel lt1) trodAll_mk0)), rfl, bel.frame _, fun h => by cases h⟩

theorem over : Rows.fnExactStepDeviceRow.holds Try.pinned (OpenSpec.ofChange Rows.fnExactStepDeviceSpec) :=
  OpenClaim.holds_of_wide 5 Try.f5 rfl rfl rfl rfl rfl rfl rfl ⟨rfl, rfl, rfl, rfl, rfl⟩ rfl rfl rfl rfl rfl (by kernel_rfl) Try.func5 (by kernel_rfl)
    (of_decide_eq_true (by kernel_rfl)) (by unfold Func.isWrapper; first | (rw [if_pos (by decide +kernel)]; kernel_rfl) | (rw [if_neg (by decide +kernel)]; exact ⟨rfl, rfl⟩))
    (fun os started H enc _ => lifted os started H enc)

theorem proved : Rows.FnExactStepDeviceSaid := over
#print axioms proved
end Go.Proofs.Ytlocilcnmbmikaa.fnExactStepDevice
namespace Go.Proofs.Ytlocilcnmbmikaa
theorem FnExactStepDevice_holds : Rows.FnExactStepDeviceSaid := fnExactStepDevice.proved
end Go.Proofs.Ytlocilcnmbmikaa
