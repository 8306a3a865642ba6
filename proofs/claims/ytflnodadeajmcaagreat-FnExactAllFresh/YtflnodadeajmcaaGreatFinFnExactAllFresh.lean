/- AllFresh answers as its model, at every argument. -/
import Derived.Test.YtflnodadeajmcaaGreatRows
import Derived.Test.YtflnodadeajmcaaGreatAF13
import Derived.WalkKit
import Derived.ProofKit
import Derived.OpenShut
import Derived.ShutString
import Derived.ChangeOld
import Derived.Below
namespace Go.Proofs.YtflnodadeajmcaaGreat.fnExactAllFresh
open Go.ChangeShapes Go.WideShapes Go.ChangeAt Go.RowKit
set_option linter.unusedVariables false

theorem own : ownKnob Tryz.prog.godebug = none := by kernel_rfl
theorem laidOut : laidOutB Tryz.prog = true := by kernel_rfl

theorem walk (a0_0 : Option Addr) (c0_0 : Nat) (x0_0 : List Int) (a0_1 : Option Addr) (m0_1 c0_1 : Nat) (x0_1 : List Int) (v1_0 : Int) (v1_1 : Int) (a1_2 : Option Addr) (m1_2 c1_2 : Nat) (u1_2 : List Pl.Ck) (w : World) (h0_0 : Came w a0_0 x0_0) (l0_0 : x0_0.length ≤ maxLen) (h0_1 : Came w a0_1 x0_1) (y0_1 : x0_1.length = 5 * m0_1) (l0_1 : m0_1 ≤ maxLen) (w1_0 : (Lit.int .i64 v1_0).wf = true) (w1_1 : (Lit.int .i64 v1_1).wf = true) (h1_2 : u1_2.length = m1_2 ∧ CRow w a1_2 u1_2 ∧ (∀ k, k < u1_2.length → Pl.CkOk (Pl.ck u1_2 k)) ∧ m1_2 ≤ maxLen) :
    Calls Tryz.prog 3 #[.agg #[.slice a0_0 x0_0.length c0_0, .slice a0_1 m0_1 c0_1], .agg #[.int .i64 v1_0, .int .i64 v1_1, .slice a1_2 m1_2 c1_2]] w fun e w' => e = .returned (.bool true) ∧ Below w.heap.size w w' := by
  exact lawAllFresh a0_0 a0_1 a1_2 c0_0 c0_1 c1_2 m0_1 m1_2 x0_0 x0_1 v1_0 v1_1 u1_2 w h0_0 h0_1 y0_1 h1_2.1 h1_2.2.1 h1_2.2.2.1 (by unfold maxLen at l0_0; omega) (by unfold maxLen at l0_1; omega) (by have h9 := h1_2.2.2.2; unfold maxLen at h9; omega)

set_option maxRecDepth 100000 in
theorem lifted (os : Os) (started : os.Started) (H : Type) (enc : TypeId × Value → H) :
    ReturnsInHanded {} Tryz.checked os 3 .any (Rows.fnExactAllFreshSpec.pre6 enc Tryz.prog Tryz.f3 Rows.fnExactAllFreshRow.domain false) (Rows.fnExactAllFreshSpec.post enc Tryz.prog Tryz.f3 false true false false) := by
  refine returnsInHanded_of_change (C := Tryz.checked) own started (by kernel_rfl) Tryz.func3
    (ChangeSpec.witness6 (enc := enc) (C := Tryz.checked) false ⟨#[], #[.agg #[.slice none 0 0, .slice none 0 0], .agg #[.int .i64 0, .int .i64 0, .slice none 0 0]], []⟩ 8 (by kernel_rfl) (by kernel_rfl) (by kernel_rfl) (by kernel_rfl)) ?_
  intro W base args ds gs before hval0 hW hcnd _
  have hval : ∀ (j : Nat) t v, Tryz.f3.params[j]? = some t → args[j]? = some v → Value.okWide Tryz.prog W .any base t v := hval0
  have hW' := hW
  obtain ⟨p, q, hA0, hV, rfl, hfz, hnd⟩ := hW
  have hA : DataW.TrodAll enc Tryz.prog W 0 (fun _ => true) true Tryz.f3.params.toList args.toList ds p := hA0
  rw [Tryz.params3] at hA hval
  obtain ⟨u0, vs0, d0, ds0, p0, q0, hargs, rfl, rfl, h0, r0⟩ := trodAll_cons hA
  obtain ⟨u1, vs1, d1, ds1, p1, q1, rfl, rfl, rfl, h1, r1⟩ := trodAll_cons r0
  obtain ⟨rfl, rfl, rfl⟩ := trodAll_nil r1
  obtain rfl : args = #[u0, u1] := by cases args; simp_all
  obtain ⟨rfl, rfl⟩ := trodVars_none hV
  have k0 := h0
  have lt0 : ∀ x ∈ p0, x.block < W.heap.size := by obtain ⟨m, hm⟩ := k0; exact DataW.trod_lt m _ _ _ hm
  obtain ⟨a0_0, c0_0, x0_0, a0_1, m0_1, c0_1, x0_1, rfl, ⟨h0_0, l0_0⟩, ⟨h0_1, y0_1, l0_1⟩⟩ := open_Bus (hval 0 25 u0 rfl rfl) h0
  have k1 := h1
  have lt1 : ∀ x ∈ p1, x.block < W.heap.size := by obtain ⟨m, hm⟩ := k1; exact DataW.trod_lt m _ _ _ hm
  obtain ⟨v1_0, v1_1, a1_2, m1_2, c1_2, u1_2, rfl, w1_0, w1_1, h1_2⟩ := open_Store (hval 1 28 u1 rfl rfl) h1
  clear hA0 hval0
  refine (walk a0_0 c0_0 x0_0 a0_1 m0_1 c0_1 x0_1 v1_0 v1_1 a1_2 m1_2 c1_2 u1_2 W h0_0 l0_0 h0_1 y0_1 l0_1 w1_0 w1_1 h1_2).mono fun e W' ⟨he, bel⟩ => ?_
  subst he
  exact ⟨_, rfl, _, _, _, [], _, [], hW', trodAll_mk1 (shut_bool Tryz.underlying4 _), (trodAll_cons_mk (Below.trod laidOut (by kernel_rfl) (of_decide_eq_true (by kernel_rfl)) k0 bel lt0) (trodAll_cons_mk (Below.trod laidOut (by kernel_rfl) (of_decide_eq_true (by kernel_rfl)) k1 bel lt1) trodAll_mk0)), rfl, bel.frame _, fun h => by cases h⟩

theorem over : Rows.fnExactAllFreshRow.holds Tryz.pinned (OpenSpec.ofChange Rows.fnExactAllFreshSpec) :=
  OpenClaim.holds_of_wide 3 Tryz.f3 rfl rfl rfl rfl rfl rfl rfl ⟨rfl, rfl, rfl, rfl, rfl⟩ rfl rfl rfl rfl rfl (by kernel_rfl) Tryz.func3 (by kernel_rfl)
    (of_decide_eq_true (by kernel_rfl)) (by unfold Func.isWrapper; first | (rw [if_pos (by decide +kernel)]; kernel_rfl) | (rw [if_neg (by decide +kernel)]; exact ⟨rfl, rfl⟩))
    (fun os started H enc _ => lifted os started H enc)

theorem proved : Rows.FnExactAllFreshSaid := over
#print axioms proved
end Go.Proofs.YtflnodadeajmcaaGreat.fnExactAllFresh
namespace Go.Proofs.YtflnodadeajmcaaGreat
theorem FnExactAllFresh_holds : Rows.FnExactAllFreshSaid := fnExactAllFresh.proved
end Go.Proofs.YtflnodadeajmcaaGreat

