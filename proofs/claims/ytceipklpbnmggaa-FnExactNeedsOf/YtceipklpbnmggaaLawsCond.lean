/- The laws on chapter 8's functions: of whatever arguments, their Go functions return true, and no block that was there has turned. -/
import Derived.Test.YtceipklpbnmggaaSpecCond
import Derived.Test.YtceipklpbnmggaaImplCond
namespace Go.Proofs.Ytceipklpbnmggaa
open Go.RowKit
set_option linter.unusedVariables false
theorem lawTestCond (k f : Int) (w : World) (wfk : (Lit.int .i64 k).wf = true) (wff : (Lit.int .i64 f).wf = true) :
    Calls Try.prog 5 #[.int .i64 k, .int .i64 f] w fun r' w' => r' = .returned (.bool true) ∧ Below w.heap.size w w' := by
  generalize hG0 : ((Pl.cOk k && Pl.flags f) && Pl.tst k f) = T
  have HG0 := hide hG0
  clear hG0
  generalize hG1 : (Pl.cOk k && Pl.flags f) = O
  have HG1 := hide hG1
  clear hG1
  go_enter Try.func5, Try.ntmps5
  go_wp2_with fail
  refine (specTestCond k f w).mono ?_
  rw [HG0.out, HG1.out]
  rintro r1 w1 ⟨rfl, hw⟩
  have hw2 := hw.symm
  clear hw
  subst hw2
  go_wp2_with fail
  refine (implTestCond _ k f wfk wff).mono ?_
  rw [HG0.out, HG1.out]
  rintro r2 w2 ⟨rfl, k2⟩
  go_wp2_with fail
  go_ret
  exact ⟨rfl, k2.below⟩
theorem lawNeedsOf (k : Int) (w : World) (wfk : (Lit.int .i64 k).wf = true) :
    Calls Try.prog 6 #[.int .i64 k] w fun r' w' => r' = .returned (.bool true) ∧ Below w.heap.size w w' := by
  generalize hG0 : Pl.needV k = T
  have HG0 := hide hG0
  clear hG0
  generalize hG1 : Pl.cOk k = O
  have HG1 := hide hG1
  clear hG1
  go_enter Try.func6, Try.ntmps6
  go_wp2_with fail
  refine (specNeedsOf k w).mono ?_
  rw [HG0.out, HG1.out]
  rintro r1 w1 ⟨rfl, hw⟩
  have hw2 := hw.symm
  clear hw
  subst hw2
  go_wp2_with fail
  refine (implNeedsOf _ k wfk).mono ?_
  rw [HG0.out, HG1.out]
  rintro r2 w2 ⟨rfl, k2⟩
  go_wp2_with fail
  go_ret
  exact ⟨rfl, k2.below⟩
theorem lawContraryOf (k : Int) (w : World) (wfk : (Lit.int .i64 k).wf = true) :
    Calls Try.prog 8 #[.int .i64 k] w fun r' w' => r' = .returned (.bool true) ∧ Below w.heap.size w w' := by
  generalize hG0 : Pl.contrV k = T
  have HG0 := hide hG0
  clear hG0
  generalize hG1 : Pl.cOk k = O
  have HG1 := hide hG1
  clear hG1
  go_enter Try.func8, Try.ntmps8
  go_wp2_with fail
  refine (specContraryOf k w).mono ?_
  rw [HG0.out, HG1.out]
  rintro r1 w1 ⟨rfl, hw⟩
  have hw2 := hw.symm
  clear hw
  subst hw2
  go_wp2_with fail
  refine (implContraryOf _ k wfk).mono ?_
  rw [HG0.out, HG1.out]
  rintro r2 w2 ⟨rfl, k2⟩
  go_wp2_with fail
  go_ret
  exact ⟨rfl, k2.below⟩
theorem lawCountTrue (f : Int) (w : World) (wff : (Lit.int .i64 f).wf = true) :
    Calls Try.prog 9 #[.int .i64 f] w fun r' w' => r' = .returned (.bool true) ∧ Below w.heap.size w w' := by
  generalize hG0 : Pl.cntV f = T
  have HG0 := hide hG0
  clear hG0
  generalize hG1 : Pl.flags f = O
  have HG1 := hide hG1
  clear hG1
  go_enter Try.func9, Try.ntmps9
  go_wp2_with fail
  refine (specCountTrue f w).mono ?_
  rw [HG0.out, HG1.out]
  rintro r1 w1 ⟨rfl, hw⟩
  have hw2 := hw.symm
  clear hw
  subst hw2
  go_wp2_with fail
  refine (implCountTrue _ f wff).mono ?_
  rw [HG0.out, HG1.out]
  rintro r2 w2 ⟨rfl, k2⟩
  go_wp2_with fail
  go_ret
  exact ⟨rfl, k2.below⟩
theorem cf_len (z a b : Int) : (Pl.cf z a b).length ≤ 16 := by unfold Pl.cf; split <;> simp [Pl.condL]
theorem bmarkNil (w : World) (ca : Nat) (q : Int) : Calls Try.prog 28 #[.slice none 0 ca, .int .i64 q] w fun e w' => e = .returned (.int .i64 q) ∧ w' = w := by
  go_enter Try.func28, Try.ntmps28
  go_wp2
  go_loop [1, 5] (fun m j => m = .int .i64 q ∧ j = .int .i64 0) (fun _ _ => 0)
  case atStart => exact ⟨rfl, rfl⟩
  case round =>
    obtain ⟨rfl, rfl⟩ := hrel
    go_wp2
    go_ret
    exact ⟨rfl, rfl⟩
/-- a list that was answered is marked, and no other block turns -/
theorem bmarkSlot (w : World) (d : Option Addr) (c lo hi : Nat) (xs : List Bool) (h : BSlot w lo hi d xs) (lx : xs.length ≤ 2000000) : Calls Try.prog 28 #[.slice d xs.length c, .int .i64 1] w fun e w' => e = .returned (.int .i64 (1 + (xs.length : Int))) ∧ BSlot w' lo hi d (bmarks 1 xs.length) ∧ Kept lo hi w w' := by
  rcases h with ⟨rfl, rfl⟩ | ⟨g, rfl, g0, g1, ho⟩
  · refine (bmarkNil w c 1).mono ?_
    rintro e w' ⟨rfl, rfl⟩
    exact ⟨rfl, .inl ⟨rfl, rfl⟩, Kept.refl _ _ _⟩
  · refine (markBoolS w g c xs 1 ho lx (by decide) (by decide)).mono ?_
    rintro e w' ⟨rfl, o, k⟩
    exact ⟨rfl, .inr ⟨g, rfl, g0, g1, o⟩, kept_row k (fun j hj => by have h5 : g = j := Option.some.inj hj; omega)⟩
set_option maxRecDepth 20000 in
set_option maxHeartbeats 4000000 in
theorem lawCondFor (z a b : Int) (w : World) (wfz : (Lit.int .i64 z).wf = true) (wfa : (Lit.int .i64 a).wf = true) (wfb : (Lit.int .i64 b).wf = true) :
    Calls Try.prog 7 #[.int .i64 z, .int .i64 a, .int .i64 b] w fun r' w' => r' = .returned (.bool true) ∧ Below w.heap.size w w' := by
  have bl := cf_len z a b
  generalize hG0 : Pl.cf z a b = L at bl
  generalize hG1 : Pl.two z 0 a b = O
  have HG0 := hide hG0
  have HG1 := hide hG1
  clear hG0 hG1
  have bl2 : L.length ≤ 2000000 := by omega
  go_enter Try.func7, Try.ntmps7
  go_wp2_with fail
  refine (specCondFor z a b w).mono ?_
  rw [HG0.out, HG1.out]
  rintro r1 w1 ⟨d0, c0, rfl, s9, k9⟩
  have S0 := hide s9
  have K1 := hide k9
  have n1 := k9.size
  clear s9 k9
  go_wp2_with fail
  refine (implCondFor _ z a b wfz wfa wfb).mono ?_
  rw [HG0.out, HG1.out]
  rintro r2 w2 ⟨d1, c1, rfl, s9, k9⟩
  have S1 := hide s9
  have S0b := hide (S0.out.kept k9 (by omega))
  have K2 := hide (K1.out.trans k9)
  have n2 := k9.size
  clear s9 k9 S0 K1
  go_wp2_with fail
  refine (eqBoolS _ d1 d0 c1 c0 L L S1.out.row S0b.out.row bl2 bl2).mono ?_
  rintro r3 w3 ⟨rfl, gr⟩
  have k9 := kept_grown gr
  rw [show decide (L = L) = true from by simp]
  have S1c := hide (S1.out.kept k9 (by omega))
  have S0c := hide (S0b.out.kept k9 (by omega))
  have K3 := hide (K2.out.trans k9)
  have n3 := k9.size
  clear k9 gr S1 S0b K2
  go_wp2_with fail
  refine (bmarkSlot _ d1 c1 _ _ L S1c.out bl2).mono ?_
  rintro r4 w4 ⟨rfl, s9, k9⟩
  have M4 := hide s9
  have S0d := hide (S0c.out.kept k9 (by omega))
  have B4 := hide (below_kept K3.out.below k9 (by omega))
  have n4 := k9.size
  clear s9 k9 S1c S0c K3
  go_wp2_with fail
  refine (heldBoolS _ d1 c1 L.length 1 M4.out.row bl2 (by decide) (by decide)).mono ?_
  rintro r5 w5 ⟨rfl, gr⟩
  have k9 := kept_grown gr
  have M5 := hide (M4.out.kept k9 (by omega))
  have S0e := hide (S0d.out.kept k9 (by omega))
  have B5 := hide (below_kept B4.out k9 (by omega))
  have n5 := k9.size
  clear k9 gr M4 S0d B4
  go_wp2_with fail
  refine (implCondFor _ z a b wfz wfa wfb).mono ?_
  rw [HG0.out, HG1.out]
  rintro r6 w6 ⟨d2, c2, rfl, s9, k9⟩
  have S2 := hide s9
  have M6 := hide (M5.out.kept k9 (by omega))
  have S0f := hide (S0e.out.kept k9 (by omega))
  have B6 := hide (below_kept B5.out k9 (by omega))
  have n6 := k9.size
  clear s9 k9 M5 S0e B5
  go_wp2_with fail
  refine (eqBoolS _ d2 d0 c2 c0 L L S2.out.row S0f.out.row bl2 bl2).mono ?_
  rintro r7 w7 ⟨rfl, gr⟩
  have k9 := kept_grown gr
  rw [show decide (L = L) = true from by simp]
  have M7 := hide (M6.out.kept k9 (by omega))
  have B7 := hide (below_kept B6.out k9 (by omega))
  clear k9 gr M6 B6 S0f S2
  go_wp2_with fail
  refine (heldBoolS _ d1 c1 L.length 1 M7.out.row bl2 (by decide) (by decide)).mono ?_
  rintro r8 w8 ⟨rfl, gr⟩
  have B8 := hide (below_kept B7.out (kept_grown gr) (by omega))
  clear gr M7 B7
  go_wp2_with fail
  go_ret
  exact ⟨rfl, B8.out⟩
end Go.Proofs.Ytceipklpbnmggaa
