/- EncodeIns answers as its model. -/
import Derived.Test.YtmkcbgnldnefmaaRows
import Derived.Test.YtmkcbgnldnefmaaEI6
import Derived.WalkKit
import Derived.ProofKit
import Derived.OpenShut
import Derived.ShutString
import Derived.ChangeOld
import Derived.Below
namespace Go.Proofs.Ytmkcbgnldnefmaa.fnExactEncodeIns
open Go.ChangeShapes Go.WideShapes Go.ChangeAt Go.RowKit
set_option linter.unusedVariables false

theorem own : ownKnob Try.prog.godebug = none := by kernel_rfl
theorem laidOut : laidOutB Try.prog = true := by kernel_rfl

theorem walk (v0_0 : Int) (v0_1 : Int) (v0_2 : Int) (v0_3 : Int) (v0_4 : Int) (v0_5 : Int) (v0_6 : Int) (w : World) (w0_0 : (Lit.int .i64 v0_0).wf = true) (w0_1 : (Lit.int .i64 v0_1).wf = true) (w0_2 : (Lit.int .i64 v0_2).wf = true) (w0_3 : (Lit.int .i64 v0_3).wf = true) (w0_4 : (Lit.int .i64 v0_4).wf = true) (w0_5 : (Lit.int .i64 v0_5).wf = true) (w0_6 : (Lit.int .i64 v0_6).wf = true) :
    Calls Try.prog 5 #[.agg #[.int .i64 v0_0, .int .i64 v0_1, .int .i64 v0_2, .int .i64 v0_3, .int .i64 v0_4, .int .i64 v0_5, .int .i64 v0_6]] w fun e w' => e = .returned (.bool true) ∧ Below w.heap.size w w' := by
  exact lawEncodeIns v0_0 v0_1 v0_2 v0_3 v0_4 v0_5 v0_6 w w0_0 w0_1 w0_2 w0_3 w0_4 w0_5 w0_6

set_option maxRecDepth 100000 in
theorem lifted (os : Os) (started : os.Started) (H : Type) (enc : TypeId × Value → H) :
    ReturnsInHanded {} Try.checked os 5 .any (Rows.fnExactEncodeInsSpec.pre6 enc Try.prog Try.f5 Rows.fnExactEncodeInsRow.domain false) (Rows.fnExactEncodeInsSpec.post enc Try.prog Try.f5 false true false false) := by
  refine returnsInHanded_of_change (C := Try.checked) own started (by kernel_rfl) Try.func5
    (ChangeSpec.witness6 (enc := enc) (C := Try.checked) false ⟨#[], #[.agg #[.int .i64 0, .int .i64 0, .int .i64 0, .int .i64 0, .int .i64 0, .int .i64 0, .int .i64 0]], []⟩ 8 (by kernel_rfl) (by kernel_rfl) (by kernel_rfl) (by kernel_rfl)) ?_
  intro W base args ds gs before hval0 hW hcnd _
  have hval : ∀ (j : Nat) t v, Try.f5.params[j]? = some t → args[j]? = some v → Value.okWide Try.prog W .any base t v := hval0
  have hW' := hW
  obtain ⟨p, q, hA0, hV, rfl, hfz, hnd⟩ := hW
  have hA : DataW.TrodAll enc Try.prog W 0 (fun _ => true) true Try.f5.params.toList args.toList ds p := hA0
  rw [Try.params5] at hA hval
  obtain ⟨u0, vs0, d0, ds0, p0, q0, hargs, rfl, rfl, h0, r0⟩ := trodAll_cons hA
  obtain ⟨rfl, rfl, rfl⟩ := trodAll_nil r0
  obtain rfl : args = #[u0] := by cases args; simp_all
  obtain ⟨rfl, rfl⟩ := trodVars_none hV
  have k0 := h0
  have lt0 : ∀ x ∈ p0, x.block < W.heap.size := by obtain ⟨m, hm⟩ := k0; exact DataW.trod_lt m _ _ _ hm
  obtain ⟨v0_0, v0_1, v0_2, v0_3, v0_4, v0_5, v0_6, rfl, w0_0, w0_1, w0_2, w0_3, w0_4, w0_5, w0_6⟩ := open_Ins (hval 0 50 u0 rfl rfl) h0
  clear hA0 hval0
  refine (walk v0_0 v0_1 v0_2 v0_3 v0_4 v0_5 v0_6 W w0_0 w0_1 w0_2 w0_3 w0_4 w0_5 w0_6).mono fun e W' ⟨he, bel⟩ => ?_
  subst he
  exact ⟨_, rfl, _, _, _, [], _, [], hW', trodAll_mk1 (shut_bool Try.underlying4 _), (trodAll_cons_mk (Below.trod laidOut (by kernel_rfl) (of_decide_eq_true (by kernel_rfl)) k0 bel lt0) trodAll_mk0), rfl, bel.frame _, fun h => by cases h⟩

theorem over : Rows.fnExactEncodeInsRow.holds Try.pinned (OpenSpec.ofChange Rows.fnExactEncodeInsSpec) :=
  OpenClaim.holds_of_wide 5 Try.f5 rfl rfl rfl rfl rfl rfl rfl ⟨rfl, rfl, rfl, rfl, rfl⟩ rfl rfl rfl rfl rfl (by kernel_rfl) Try.func5 (by kernel_rfl)
    (of_decide_eq_true (by kernel_rfl)) (by unfold Func.isWrapper; first | (rw [if_pos (by decide +kernel)]; kernel_rfl) | (rw [if_neg (by decide +kernel)]; exact ⟨rfl, rfl⟩))
    (fun os started H enc _ => lifted os started H enc)

theorem proved : Rows.FnExactEncodeInsSaid := over
#print axioms proved
end Go.Proofs.Ytmkcbgnldnefmaa.fnExactEncodeIns
namespace Go.Proofs.Ytmkcbgnldnefmaa
theorem FnExactEncodeIns_holds : Rows.FnExactEncodeInsSaid := fnExactEncodeIns.proved
end Go.Proofs.Ytmkcbgnldnefmaa

