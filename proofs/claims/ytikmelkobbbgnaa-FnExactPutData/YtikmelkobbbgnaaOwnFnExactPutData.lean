/- PutData answers as its model. -/
import Derived.Test.YtikmelkobbbgnaaRows
import Derived.Test.YtikmelkobbbgnaaLawsPutData
import Derived.Test.YtikmelkobbbgnaaOpenReg
import Derived.WalkKit
import Derived.ProofKit
import Derived.OpenShut
import Derived.ShutString
import Derived.ChangeOld
import Derived.Below
namespace Go.Proofs.Ytikmelkobbbgnaa.fnExactPutData
open Go.ChangeShapes Go.WideShapes Go.ChangeAt Go.RowKit
set_option linter.unusedVariables false

theorem own : ownKnob Try.prog.godebug = none := by kernel_rfl
theorem laidOut : laidOutB Try.prog = true := by kernel_rfl

theorem walk (a0_0 : Option Addr) (c0_0 : Nat) (x0_0 : List Int) (a0_1 : Option Addr) (c0_1 : Nat) (x0_1 : List Int) (v0_2 : Int) (v0_3 : Int) (v0_4 : Int) (v0_5 : Int) (v0_6 : Bool) (v0_7 : Bool) (v1 : Int) (v2 : Int) (v3 : Int) (w : World) (h0_0 : Came w a0_0 x0_0) (l0_0 : x0_0.length ≤ maxLen) (h0_1 : Came w a0_1 x0_1) (l0_1 : x0_1.length ≤ maxLen) (w0_2 : (Lit.int .i64 v0_2).wf = true) (w0_3 : (Lit.int .i64 v0_3).wf = true) (w0_4 : (Lit.int .i64 v0_4).wf = true) (w0_5 : (Lit.int .i64 v0_5).wf = true) (w1 : (Lit.int .i64 v1).wf = true) (w2 : (Lit.int .i64 v2).wf = true) (w3 : (Lit.int .i64 v3).wf = true) :
    Calls Try.prog 9 #[.agg #[.slice a0_0 x0_0.length c0_0, .slice a0_1 x0_1.length c0_1, .int .i64 v0_2, .int .i64 v0_3, .int .i64 v0_4, .int .i64 v0_5, .bool v0_6, .bool v0_7], .int .i64 v1, .int .i64 v2, .int .i64 v3] w fun e w' => e = .returned (.bool true) ∧ Below w.heap.size w w' := by
  exact lawPutData ⟨x0_0, x0_1, v0_2, v0_3, v0_4, v0_5, v0_6, v0_7⟩ a0_0 a0_1 c0_0 c0_1 v1 v2 v3 w h0_0 h0_1 (by unfold maxLen at l0_0; omega) (by unfold maxLen at l0_1; omega) ⟨w0_2, w0_3, w0_4, w0_5⟩ w1 w2 w3

set_option maxRecDepth 100000 in
theorem lifted (os : Os) (started : os.Started) (H : Type) (enc : TypeId × Value → H) :
    ReturnsInHanded {} Try.checked os 9 .any (Rows.fnExactPutDataSpec.pre6 enc Try.prog Try.f9 Rows.fnExactPutDataRow.domain false) (Rows.fnExactPutDataSpec.post enc Try.prog Try.f9 false true false false) := by
  refine returnsInHanded_of_change (C := Try.checked) own started (by kernel_rfl) Try.func9
    (ChangeSpec.witness6 (enc := enc) (C := Try.checked) false ⟨#[], #[.agg #[.slice none 0 0, .slice none 0 0, .int .i64 0, .int .i64 0, .int .i64 0, .int .i64 0, .bool false, .bool false], .int .i64 0, .int .i64 0, .int .i64 0], []⟩ 8 (by kernel_rfl) (by kernel_rfl) (by kernel_rfl) (by kernel_rfl)) ?_
  intro W base args ds gs before hval0 hW hcnd _
  have hval : ∀ (j : Nat) t v, Try.f9.params[j]? = some t → args[j]? = some v → Value.okWide Try.prog W .any base t v := hval0
  have hW' := hW
  obtain ⟨p, q, hA0, hV, rfl, hfz, hnd⟩ := hW
  have hA : DataW.TrodAll enc Try.prog W 0 (fun _ => true) true Try.f9.params.toList args.toList ds p := hA0
  rw [Try.params9] at hA hval
  obtain ⟨u0, vs0, d0, ds0, p0, q0, hargs, rfl, rfl, h0, r0⟩ := trodAll_cons hA
  obtain ⟨u1, vs1, d1, ds1, p1, q1, rfl, rfl, rfl, h1, r1⟩ := trodAll_cons r0
  obtain ⟨u2, vs2, d2, ds2, p2, q2, rfl, rfl, rfl, h2, r2⟩ := trodAll_cons r1
  obtain ⟨u3, vs3, d3, ds3, p3, q3, rfl, rfl, rfl, h3, r3⟩ := trodAll_cons r2
  obtain ⟨rfl, rfl, rfl⟩ := trodAll_nil r3
  obtain rfl : args = #[u0, u1, u2, u3] := by cases args; simp_all
  obtain ⟨rfl, rfl⟩ := trodVars_none hV
  have k0 := h0
  have lt0 : ∀ x ∈ p0, x.block < W.heap.size := by obtain ⟨m, hm⟩ := k0; exact DataW.trod_lt m _ _ _ hm
  obtain ⟨a0_0, c0_0, x0_0, a0_1, c0_1, x0_1, v0_2, v0_3, v0_4, v0_5, v0_6, v0_7, rfl, ⟨h0_0, l0_0⟩, ⟨h0_1, l0_1⟩, w0_2, w0_3, w0_4, w0_5⟩ := open_Regs (hval 0 29 u0 rfl rfl) h0
  obtain ⟨v1, rfl, rfl, rfl, w1⟩ := open_int Try.underlying3 (hval 1 3 u1 rfl rfl) h1
  obtain ⟨v2, rfl, rfl, rfl, w2⟩ := open_int Try.underlying3 (hval 2 3 u2 rfl rfl) h2
  obtain ⟨v3, rfl, rfl, rfl, w3⟩ := open_int Try.underlying3 (hval 3 3 u3 rfl rfl) h3
  clear hA0 hval0
  refine (walk a0_0 c0_0 x0_0 a0_1 c0_1 x0_1 v0_2 v0_3 v0_4 v0_5 v0_6 v0_7 v1 v2 v3 W h0_0 l0_0 h0_1 l0_1 w0_2 w0_3 w0_4 w0_5 w1 w2 w3).mono fun e W' ⟨he, bel⟩ => ?_
  subst he
  exact ⟨_, rfl, _, _, _, [], _, [], hW', trodAll_mk1 (shut_bool Try.underlying4 _), (trodAll_cons_mk (Below.trod laidOut (by kernel_rfl) (of_decide_eq_true (by kernel_rfl)) k0 bel lt0) (trodAll_cons_mk (shut_int Try.underlying3 w1) (trodAll_cons_mk (shut_int Try.underlying3 w2) (trodAll_cons_mk (shut_int Try.underlying3 w3) trodAll_mk0)))), rfl, bel.frame _, fun h => by cases h⟩

theorem over : Rows.fnExactPutDataRow.holds Try.pinned (OpenSpec.ofChange Rows.fnExactPutDataSpec) :=
  OpenClaim.holds_of_wide 9 Try.f9 rfl rfl rfl rfl rfl rfl rfl ⟨rfl, rfl, rfl, rfl, rfl⟩ rfl rfl rfl rfl rfl (by kernel_rfl) Try.func9 (by kernel_rfl)
    (of_decide_eq_true (by kernel_rfl)) (by unfold Func.isWrapper; first | (rw [if_pos (by decide +kernel)]; kernel_rfl) | (rw [if_neg (by decide +kernel)]; exact ⟨rfl, rfl⟩))
    (fun os started H enc _ => lifted os started H enc)

theorem proved : Rows.FnExactPutDataSaid := over
#print axioms proved
end Go.Proofs.Ytikmelkobbbgnaa.fnExactPutData
namespace Go.Proofs.Ytikmelkobbbgnaa
theorem FnExactPutData_holds : Rows.FnExactPutDataSaid := fnExactPutData.proved
end Go.Proofs.Ytikmelkobbbgnaa
