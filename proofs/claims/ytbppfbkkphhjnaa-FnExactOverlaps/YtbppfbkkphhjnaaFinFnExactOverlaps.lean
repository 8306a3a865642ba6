/- Overlaps answers as its model, at every argument. -/
import Derived.Test.YtbppfbkkphhjnaaRows
import Derived.Test.YtbppfbkkphhjnaaOV8
import Derived.WalkKit
import Derived.ProofKit
import Derived.OpenShut
import Derived.ShutString
import Derived.ChangeOld
import Derived.Below
namespace Go.Proofs.Ytbppfbkkphhjnaa.fnExactOverlaps
open Go.ChangeShapes Go.WideShapes Go.ChangeAt Go.RowKit
set_option linter.unusedVariables false

theorem own : ownKnob Try.prog.godebug = none := by kernel_rfl
theorem laidOut : laidOutB Try.prog = true := by kernel_rfl

theorem walk (v0_0 : Int) (v0_1 : Int) (a0_2 : Option Addr) (m0_2 c0_2 : Nat) (y0_2 t0_2 : List Int) (s0_2 : List Bool) (v1 : Int) (v2 : Int) (w : World) (w0_0 : (Lit.int .i64 v0_0).wf = true) (w0_1 : (Lit.int .i64 v0_1).wf = true) (h0_2 : MRow w a0_2 m0_2 y0_2 t0_2 s0_2 ∧ y0_2.length = 7 * m0_2 ∧ t0_2.length = m0_2 ∧ s0_2.length = m0_2 ∧ Wide y0_2 ∧ Wide t0_2 ∧ m0_2 ≤ maxLen) (w1 : (Lit.int .i64 v1).wf = true) (w2 : (Lit.int .i64 v2).wf = true) :
    Calls Try.prog 4 #[.agg #[.int .i64 v0_0, .int .i64 v0_1, .slice a0_2 m0_2 c0_2], .int .i64 v1, .int .i64 v2] w fun e w' => e = .returned (.bool true) ∧ Below w.heap.size w w' := by
  exact lawOverlaps v0_0 v0_1 a0_2 c0_2 m0_2 y0_2 t0_2 s0_2 v1 v2 w h0_2.1 h0_2.2.1 h0_2.2.2.2.2.1 (by have h9 := h0_2.2.2.2.2.2.2; unfold maxLen at h9; omega)

set_option maxRecDepth 100000 in
theorem lifted (os : Os) (started : os.Started) (H : Type) (enc : TypeId × Value → H) :
    ReturnsInHanded {} Try.checked os 4 .any (Rows.fnExactOverlapsSpec.pre6 enc Try.prog Try.f4 Rows.fnExactOverlapsRow.domain false) (Rows.fnExactOverlapsSpec.post enc Try.prog Try.f4 false true false false) := by
  refine returnsInHanded_of_change (C := Try.checked) own started (by kernel_rfl) Try.func4
    (ChangeSpec.witness6 (enc := enc) (C := Try.checked) false ⟨#[], #[.agg #[.int .i64 0, .int .i64 0, .slice none 0 0], .int .i64 0, .int .i64 0], []⟩ 8 (by kernel_rfl) (by kernel_rfl) (by kernel_rfl) (by kernel_rfl)) ?_
  intro W base args ds gs before hval0 hW hcnd _
  have hval : ∀ (j : Nat) t v, Try.f4.params[j]? = some t → args[j]? = some v → Value.okWide Try.prog W .any base t v := hval0
  have hW' := hW
  obtain ⟨p, q, hA0, hV, rfl, hfz, hnd⟩ := hW
  have hA : DataW.TrodAll enc Try.prog W 0 (fun _ => true) true Try.f4.params.toList args.toList ds p := hA0
  rw [Try.params4] at hA hval
  obtain ⟨u0, vs0, d0, ds0, p0, q0, hargs, rfl, rfl, h0, r0⟩ := trodAll_cons hA
  obtain ⟨u1, vs1, d1, ds1, p1, q1, rfl, rfl, rfl, h1, r1⟩ := trodAll_cons r0
  obtain ⟨u2, vs2, d2, ds2, p2, q2, rfl, rfl, rfl, h2, r2⟩ := trodAll_cons r1
  obtain ⟨rfl, rfl, rfl⟩ := trodAll_nil r2
  obtain rfl : args = #[u0, u1, u2] := by cases args; simp_all
  obtain ⟨rfl, rfl⟩ := trodVars_none hV
  have k0 := h0
  have lt0 : ∀ x ∈ p0, x.block < W.heap.size := by obtain ⟨m, hm⟩ := k0; exact DataW.trod_lt m _ _ _ hm
  obtain ⟨v0_0, v0_1, a0_2, m0_2, c0_2, y0_2, t0_2, s0_2, rfl, w0_0, w0_1, h0_2⟩ := open_Unit (hval 0 24 u0 rfl rfl) h0
  obtain ⟨v1, rfl, rfl, rfl, w1⟩ := open_int Try.underlying3 (hval 1 3 u1 rfl rfl) h1
  obtain ⟨v2, rfl, rfl, rfl, w2⟩ := open_int Try.underlying3 (hval 2 3 u2 rfl rfl) h2
  clear hA0 hval0
  refine (walk v0_0 v0_1 a0_2 m0_2 c0_2 y0_2 t0_2 s0_2 v1 v2 W w0_0 w0_1 h0_2 w1 w2).mono fun e W' ⟨he, bel⟩ => ?_
  subst he
  exact ⟨_, rfl, _, _, _, [], _, [], hW', trodAll_mk1 (shut_bool Try.underlying4 _), (trodAll_cons_mk (Below.trod laidOut (by kernel_rfl) (of_decide_eq_true (by kernel_rfl)) k0 bel lt0) (trodAll_cons_mk (shut_int Try.underlying3 w1) (trodAll_cons_mk (shut_int Try.underlying3 w2) trodAll_mk0))), rfl, bel.frame _, fun h => by cases h⟩

theorem over : Rows.fnExactOverlapsRow.holds Try.pinned (OpenSpec.ofChange Rows.fnExactOverlapsSpec) :=
  OpenClaim.holds_of_wide 4 Try.f4 rfl rfl rfl rfl rfl rfl rfl ⟨rfl, rfl, rfl, rfl, rfl⟩ rfl rfl rfl rfl rfl (by kernel_rfl) Try.func4 (by kernel_rfl)
    (of_decide_eq_true (by kernel_rfl)) (by unfold Func.isWrapper; first | (rw [if_pos (by decide +kernel)]; kernel_rfl) | (rw [if_neg (by decide +kernel)]; exact ⟨rfl, rfl⟩))
    (fun os started H enc _ => lifted os started H enc)

theorem proved : Rows.FnExactOverlapsSaid := over
#print axioms proved
end Go.Proofs.Ytbppfbkkphhjnaa.fnExactOverlaps
namespace Go.Proofs.Ytbppfbkkphhjnaa
theorem FnExactOverlaps_holds : Rows.FnExactOverlapsSaid := fnExactOverlaps.proved
end Go.Proofs.Ytbppfbkkphhjnaa

