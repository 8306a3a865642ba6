/- VectorAt answers as its model. -/
import Derived.Test.YtmkcbgnldnefmaaRows
import Derived.Test.YtmkcbgnldnefmaaVA2
import Derived.Test.YtmkcbgnldnefmaaVA1
import Derived.WalkKit
import Derived.ProofKit
import Derived.OpenShut
import Derived.ShutString
import Derived.ChangeOld
import Derived.Below
namespace Go.Proofs.Ytmkcbgnldnefmaa.fnExactVectorAt
open Go.ChangeShapes Go.WideShapes Go.ChangeAt Go.RowKit
set_option linter.unusedVariables false

theorem own : ownKnob Try.prog.godebug = none := by kernel_rfl
theorem laidOut : laidOutB Try.prog = true := by kernel_rfl

theorem walk (a0_0 : Option Addr) (c0_0 : Nat) (x0_0 : List Int) (a0_1 : Option Addr) (c0_1 : Nat) (x0_1 : List Int) (v0_2 : Int) (v0_3 : Int) (v0_4 : Int) (v0_5 : Int) (v0_6 : Bool) (v0_7 : Bool) (a0_8 : Option Addr) (c0_8 : Nat) (x0_8 : List Int) (a0_9 : Option Addr) (m0_9 c0_9 : Nat) (x0_9 : List Int) (v0_10 : Bool) (v0_11 : Bool) (v1 : Int) (w : World) (h0_0 : Came w a0_0 x0_0) (l0_0 : x0_0.length ≤ maxLen) (h0_1 : Came w a0_1 x0_1) (l0_1 : x0_1.length ≤ maxLen) (w0_2 : (Lit.int .i64 v0_2).wf = true) (w0_3 : (Lit.int .i64 v0_3).wf = true) (w0_4 : (Lit.int .i64 v0_4).wf = true) (w0_5 : (Lit.int .i64 v0_5).wf = true) (h0_8 : Came w a0_8 x0_8) (l0_8 : x0_8.length ≤ maxLen) (h0_9 : Came w a0_9 x0_9) (y0_9 : x0_9.length = 5 * m0_9) (l0_9 : m0_9 ≤ maxLen) (w1 : (Lit.int .i64 v1).wf = true) :
    Calls Try.prog 3 #[.agg #[.slice a0_0 x0_0.length c0_0, .slice a0_1 x0_1.length c0_1, .int .i64 v0_2, .int .i64 v0_3, .int .i64 v0_4, .int .i64 v0_5, .bool v0_6, .bool v0_7, .slice a0_8 x0_8.length c0_8, .slice a0_9 m0_9 c0_9, .bool v0_10, .bool v0_11], .int .i64 v1] w fun e w' => e = .returned (.bool true) ∧ Below w.heap.size w w' := by
  exact lawVectorAt ⟨⟨x0_0, x0_1, v0_2, v0_3, v0_4, v0_5, v0_6, v0_7⟩, x0_8, x0_9, m0_9, v0_10, v0_11⟩ a0_0 a0_1 a0_8 a0_9 c0_0 c0_1 c0_8 c0_9 v1 w h0_0 h0_1 h0_8 h0_9 (by unfold maxLen at l0_0; omega) (by unfold maxLen at l0_1; omega) (by unfold maxLen at l0_8; omega) (by unfold maxLen at l0_9; omega) y0_9 ⟨w0_2, w0_3, w0_4, w0_5⟩

set_option maxRecDepth 100000 in
theorem lifted (os : Os) (started : os.Started) (H : Type) (enc : TypeId × Value → H) :
    ReturnsInHanded {} Try.checked os 3 .any (Rows.fnExactVectorAtSpec.pre6 enc Try.prog Try.f3 Rows.fnExactVectorAtRow.domain false) (Rows.fnExactVectorAtSpec.post enc Try.prog Try.f3 false true false false) := by
  refine returnsInHanded_of_change (C := Try.checked) own started (by kernel_rfl) Try.func3
    (ChangeSpec.witness6 (enc := enc) (C := Try.checked) false ⟨#[], #[.agg #[.slice none 0 0, .slice none 0 0, .int .i64 0, .int .i64 0, .int .i64 0, .int .i64 0, .bool false, .bool false, .slice none 0 0, .slice none 0 0, .bool false, .bool false], .int .i64 0], []⟩ 8 (by kernel_rfl) (by kernel_rfl) (by kernel_rfl) (by kernel_rfl)) ?_
  intro W base args ds gs before hval0 hW hcnd _
  have hval : ∀ (j : Nat) t v, Try.f3.params[j]? = some t → args[j]? = some v → Value.okWide Try.prog W .any base t v := hval0
  have hW' := hW
  obtain ⟨p, q, hA0, hV, rfl, hfz, hnd⟩ := hW
  have hA : DataW.TrodAll enc Try.prog W 0 (fun _ => true) true Try.f3.params.toList args.toList ds p := hA0
  rw [Try.params3] at hA hval
  obtain ⟨u0, vs0, d0, ds0, p0, q0, hargs, rfl, rfl, h0, r0⟩ := trodAll_cons hA
  obtain ⟨u1, vs1, d1, ds1, p1, q1, rfl, rfl, rfl, h1, r1⟩ := trodAll_cons r0
  obtain ⟨rfl, rfl, rfl⟩ := trodAll_nil r1
  obtain rfl : args = #[u0, u1] := by cases args; simp_all
  obtain ⟨rfl, rfl⟩ := trodVars_none hV
  have k0 := h0
  have lt0 : ∀ x ∈ p0, x.block < W.heap.size := by obtain ⟨m, hm⟩ := k0; exact DataW.trod_lt m _ _ _ hm
  obtain ⟨a0_0, c0_0, x0_0, a0_1, c0_1, x0_1, v0_2, v0_3, v0_4, v0_5, v0_6, v0_7, a0_8, c0_8, x0_8, a0_9, m0_9, c0_9, x0_9, v0_10, v0_11, rfl, ⟨h0_0, l0_0⟩, ⟨h0_1, l0_1⟩, w0_2, w0_3, w0_4, w0_5, ⟨h0_8, l0_8⟩, ⟨h0_9, y0_9, l0_9⟩⟩ := open_Cpu (hval 0 29 u0 rfl rfl) h0
  obtain ⟨v1, rfl, rfl, rfl, w1⟩ := open_int Try.underlying3 (hval 1 3 u1 rfl rfl) h1
  clear hA0 hval0
  refine (walk a0_0 c0_0 x0_0 a0_1 c0_1 x0_1 v0_2 v0_3 v0_4 v0_5 v0_6 v0_7 a0_8 c0_8 x0_8 a0_9 m0_9 c0_9 x0_9 v0_10 v0_11 v1 W h0_0 l0_0 h0_1 l0_1 w0_2 w0_3 w0_4 w0_5 h0_8 l0_8 h0_9 y0_9 l0_9 w1).mono fun e W' ⟨he, bel⟩ => ?_
  subst he
  exact ⟨_, rfl, _, _, _, [], _, [], hW', trodAll_mk1 (shut_bool Try.underlying4 _), (trodAll_cons_mk (Below.trod laidOut (by kernel_rfl) (of_decide_eq_true (by kernel_rfl)) k0 bel lt0) (trodAll_cons_mk (shut_int Try.underlying3 w1) trodAll_mk0)), rfl, bel.frame _, fun h => by cases h⟩

theorem over : Rows.fnExactVectorAtRow.holds Try.pinned (OpenSpec.ofChange Rows.fnExactVectorAtSpec) :=
  OpenClaim.holds_of_wide 3 Try.f3 rfl rfl rfl rfl rfl rfl rfl ⟨rfl, rfl, rfl, rfl, rfl⟩ rfl rfl rfl rfl rfl (by kernel_rfl) Try.func3 (by kernel_rfl)
    (of_decide_eq_true (by kernel_rfl)) (by unfold Func.isWrapper; first | (rw [if_pos (by decide +kernel)]; kernel_rfl) | (rw [if_neg (by decide +kernel)]; exact ⟨rfl, rfl⟩))
    (fun os started H enc _ => lifted os started H enc)

theorem proved : Rows.FnExactVectorAtSaid := over
#print axioms proved
end Go.Proofs.Ytmkcbgnldnefmaa.fnExactVectorAt
namespace Go.Proofs.Ytmkcbgnldnefmaa
theorem FnExactVectorAt_holds : Rows.FnExactVectorAtSaid := fnExactVectorAt.proved
end Go.Proofs.Ytmkcbgnldnefmaa

