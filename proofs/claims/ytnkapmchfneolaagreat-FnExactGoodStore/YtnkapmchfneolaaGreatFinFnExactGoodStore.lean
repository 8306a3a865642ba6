/- GoodStore answers as its model, at every argument. -/
import Derived.Test.YtnkapmchfneolaaGreatRows
import Derived.Test.YtnkapmchfneolaaGreatGS13
import Derived.WalkKit
import Derived.ProofKit
import Derived.OpenShut
import Derived.ShutString
import Derived.ChangeOld
import Derived.Below
namespace Go.Proofs.YtnkapmchfneolaaGreat.fnExactGoodStore
open Go.ChangeShapes Go.WideShapes Go.ChangeAt Go.RowKit
set_option linter.unusedVariables false

theorem own : ownKnob Tryz.prog.godebug = none := by kernel_rfl
theorem laidOut : laidOutB Tryz.prog = true := by kernel_rfl

theorem walk (v0_0 : Int) (v0_1 : Int) (a0_2 : Option Addr) (m0_2 c0_2 : Nat) (u0_2 : List Pl.Ck) (w : World) (w0_0 : (Lit.int .i64 v0_0).wf = true) (w0_1 : (Lit.int .i64 v0_1).wf = true) (h0_2 : u0_2.length = m0_2 ∧ CRow w a0_2 u0_2 ∧ (∀ k, k < u0_2.length → Pl.CkOk (Pl.ck u0_2 k)) ∧ m0_2 ≤ maxLen) :
    Calls Tryz.prog 3 #[.agg #[.int .i64 v0_0, .int .i64 v0_1, .slice a0_2 m0_2 c0_2]] w fun e w' => e = .returned (.bool true) ∧ Below w.heap.size w w' := by
  exact lawGoodStore v0_0 v0_1 a0_2 c0_2 m0_2 u0_2 w h0_2.1 h0_2.2.1 h0_2.2.2.1 (by have h9 := h0_2.2.2.2; unfold maxLen at h9; omega)

set_option maxRecDepth 100000 in
theorem lifted (os : Os) (started : os.Started) (H : Type) (enc : TypeId × Value → H) :
    ReturnsInHanded {} Tryz.checked os 3 .any (Rows.fnExactGoodStoreSpec.pre6 enc Tryz.prog Tryz.f3 Rows.fnExactGoodStoreRow.domain false) (Rows.fnExactGoodStoreSpec.post enc Tryz.prog Tryz.f3 false true false false) := by
  refine returnsInHanded_of_change (C := Tryz.checked) own started (by kernel_rfl) Tryz.func3
    (ChangeSpec.witness6 (enc := enc) (C := Tryz.checked) false ⟨#[], #[.agg #[.int .i64 0, .int .i64 0, .slice none 0 0]], []⟩ 8 (by kernel_rfl) (by kernel_rfl) (by kernel_rfl) (by kernel_rfl)) ?_
  intro W base args ds gs before hval0 hW hcnd _
  have hval : ∀ (j : Nat) t v, Tryz.f3.params[j]? = some t → args[j]? = some v → Value.okWide Tryz.prog W .any base t v := hval0
  have hW' := hW
  obtain ⟨p, q, hA0, hV, rfl, hfz, hnd⟩ := hW
  have hA : DataW.TrodAll enc Tryz.prog W 0 (fun _ => true) true Tryz.f3.params.toList args.toList ds p := hA0
  rw [Tryz.params3] at hA hval
  obtain ⟨u0, vs0, d0, ds0, p0, q0, hargs, rfl, rfl, h0, r0⟩ := trodAll_cons hA
  obtain ⟨rfl, rfl, rfl⟩ := trodAll_nil r0
  obtain rfl : args = #[u0] := by cases args; simp_all
  obtain ⟨rfl, rfl⟩ := trodVars_none hV
  have k0 := h0
  have lt0 : ∀ x ∈ p0, x.block < W.heap.size := by obtain ⟨m, hm⟩ := k0; exact DataW.trod_lt m _ _ _ hm
  obtain ⟨v0_0, v0_1, a0_2, m0_2, c0_2, u0_2, rfl, w0_0, w0_1, h0_2⟩ := open_Store (hval 0 24 u0 rfl rfl) h0
  clear hA0 hval0
  refine (walk v0_0 v0_1 a0_2 m0_2 c0_2 u0_2 W w0_0 w0_1 h0_2).mono fun e W' ⟨he, bel⟩ => ?_
  subst he
  exact ⟨_, rfl, _, _, _, [], _, [], hW', trodAll_mk1 (shut_bool Tryz.underlying4 _), (trodAll_cons_mk (Below.trod laidOut (by kernel_rfl) (of_decide_eq_true (by kernel_rfl)) k0 bel lt0) trodAll_mk0), rfl, bel.frame _, fun h => by cases h⟩

theorem over : Rows.fnExactGoodStoreRow.holds Tryz.pinned (OpenSpec.ofChange Rows.fnExactGoodStoreSpec) :=
  OpenClaim.holds_of_wide 3 Tryz.f3 rfl rfl rfl rfl rfl rfl rfl ⟨rfl, rfl, rfl, rfl, rfl⟩ rfl rfl rfl rfl rfl (by kernel_rfl) Tryz.func3 (by kernel_rfl)
    (of_decide_eq_true (by kernel_rfl)) (by unfold Func.isWrapper; first | (rw [if_pos (by decide +kernel)]; kernel_rfl) | (rw [if_neg (by decide +kernel)]; exact ⟨rfl, rfl⟩))
    (fun os started H enc _ => lifted os started H enc)

theorem proved : Rows.FnExactGoodStoreSaid := over
#print axioms proved
end Go.Proofs.YtnkapmchfneolaaGreat.fnExactGoodStore
namespace Go.Proofs.YtnkapmchfneolaaGreat
theorem FnExactGoodStore_holds : Rows.FnExactGoodStoreSaid := fnExactGoodStore.proved
end Go.Proofs.YtnkapmchfneolaaGreat

