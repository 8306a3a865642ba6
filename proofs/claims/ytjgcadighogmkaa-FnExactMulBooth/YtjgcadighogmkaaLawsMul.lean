/- The laws on chapter 9's functions: of whatever arguments, their Go functions return true, and no block that was there has turned. -/
import Derived.Test.YtjgcadighogmkaaSpecSteps
import Derived.Test.YtjgcadighogmkaaImplMul
namespace Go.Proofs.Ytjgcadighogmkaa
open Go.RowKit
set_option linter.unusedVariables false
theorem lawMulWords (a b : Int) (w : World) (wfa : (Lit.int .i64 a).wf = true) (wfb : (Lit.int .i64 b).wf = true) :
    Calls Try.prog 5 #[.int .i64 a, .int .i64 b] w fun r' w' => r' = .returned (.bool true) ∧ Below w.heap.size w w' := by
  generalize hG0 : Pl.mulH a b = H
  have HG0 := hide hG0
  clear hG0
  generalize hG1 : Pl.mulL a b = L
  have HG1 := hide hG1
  clear hG1
  generalize hG2 : Pl.ok2 a b = O
  have HG2 := hide hG2
  clear hG2
  go_enter Try.func5, Try.ntmps5
  go_wp2_with fail
  refine (specMulWords a b w).mono ?_
  rw [HG0.out, HG1.out, HG2.out]
  rintro r1 w1 ⟨rfl, hw⟩
  have k1 : Kept 0 0 w w1 := by rw [hw]; exact Kept.refl _ _ _
  clear hw
  go_wp2_with fail
  refine (implMulWords _ a b wfa wfb).mono ?_
  rw [HG0.out, HG1.out, HG2.out]
  rintro r2 w2 ⟨rfl, k2⟩
  go_wp2_with fail
  go_ret
  exact ⟨rfl, (k1.trans k2).below⟩
theorem lawMulSigned (a b : Int) (w : World) (wfa : (Lit.int .i64 a).wf = true) (wfb : (Lit.int .i64 b).wf = true) :
    Calls Try.prog 10 #[.int .i64 a, .int .i64 b] w fun r' w' => r' = .returned (.bool true) ∧ Below w.heap.size w w' := by
  generalize hG0 : Pl.smH a b = H
  have HG0 := hide hG0
  clear hG0
  generalize hG1 : Pl.smL a b = L
  have HG1 := hide hG1
  clear hG1
  generalize hG2 : Pl.ok2 a b = O
  have HG2 := hide hG2
  clear hG2
  go_enter Try.func10, Try.ntmps10
  go_wp2_with fail
  refine (specMulSigned a b w).mono ?_
  rw [HG0.out, HG1.out, HG2.out]
  rintro r1 w1 ⟨rfl, hw⟩
  have k1 : Kept 0 0 w w1 := by rw [hw]; exact Kept.refl _ _ _
  clear hw
  go_wp2_with fail
  refine (implMulSigned _ a b wfa wfb).mono ?_
  rw [HG0.out, HG1.out, HG2.out]
  rintro r2 w2 ⟨rfl, k2⟩
  go_wp2_with fail
  go_ret
  exact ⟨rfl, (k1.trans k2).below⟩
theorem lawMulBooth (a b : Int) (w : World) (wfa : (Lit.int .i64 a).wf = true) (wfb : (Lit.int .i64 b).wf = true) :
    Calls Try.prog 7 #[.int .i64 a, .int .i64 b] w fun r' w' => r' = .returned (.bool true) ∧ Below w.heap.size w w' := by
  generalize hG0 : Pl.smH a b = H
  have HG0 := hide hG0
  clear hG0
  generalize hG1 : Pl.smL a b = L
  have HG1 := hide hG1
  clear hG1
  generalize hG2 : Pl.ok2 a b = O
  have HG2 := hide hG2
  clear hG2
  go_enter Try.func7, Try.ntmps7
  go_wp2_with fail
  refine (specMulBooth a b w).mono ?_
  rw [HG0.out, HG1.out, HG2.out]
  rintro r1 w1 ⟨rfl, k1⟩
  go_wp2_with fail
  refine (implMulBooth _ a b wfa wfb).mono ?_
  rw [HG0.out, HG1.out, HG2.out]
  rintro r2 w2 ⟨rfl, k2⟩
  go_wp2_with fail
  go_ret
  exact ⟨rfl, (k1.trans k2).below⟩
theorem lawDivWords (h l b : Int) (w : World) (wfh : (Lit.int .i64 h).wf = true) (wfl : (Lit.int .i64 l).wf = true) (wfb : (Lit.int .i64 b).wf = true) :
    Calls Try.prog 8 #[.int .i64 h, .int .i64 l, .int .i64 b] w fun r' w' => r' = .returned (.bool true) ∧ Below w.heap.size w w' := by
  generalize hG0 : Pl.dvQ h l b = Q
  have HG0 := hide hG0
  clear hG0
  generalize hG1 : Pl.dvR h l b = R
  have HG1 := hide hG1
  clear hG1
  generalize hG2 : Pl.dvN h l b = N
  have HG2 := hide hG2
  clear hG2
  generalize hG3 : Pl.dOk h l b = O
  have HG3 := hide hG3
  clear hG3
  go_enter Try.func8, Try.ntmps8
  go_wp2_with fail
  refine (specDivWords h l b w).mono ?_
  rw [HG0.out, HG1.out, HG2.out, HG3.out]
  rintro r1 w1 ⟨rfl, hw⟩
  have k1 : Kept 0 0 w w1 := by rw [hw]; exact Kept.refl _ _ _
  clear hw
  go_wp2_with fail
  refine (implDivWords _ h l b wfh wfl wfb).mono ?_
  rw [HG0.out, HG1.out, HG2.out, HG3.out]
  rintro r2 w2 ⟨rfl, k2⟩
  go_wp2_with fail
  go_ret
  exact ⟨rfl, (k1.trans k2).below⟩
theorem root_same {v s t : Int} (hs : Pl.RootIs v s) (ht : Pl.RootIs v t) : s = t := by
  cases h : Pl.wOk v
  · rw [hs.1 h, ht.1 h]
  · obtain ⟨s0, _, s1, s2⟩ := hs.2 h
    obtain ⟨t0, _, t1, t2⟩ := ht.2 h
    exact Pl.root_one s0 t0 s1 s2 t1 t2
theorem lawRootOf (v : Int) (w : World) (wfv : (Lit.int .i64 v).wf = true) :
    Calls Try.prog 11 #[.int .i64 v] w fun r' w' => r' = .returned (.bool true) ∧ Below w.heap.size w w' := by
  generalize hG0 : Pl.wOk v = O
  have HG0 := hide hG0
  clear hG0
  go_enter Try.func11, Try.ntmps11
  go_wp2_with fail
  refine (specRootOf v w).mono ?_
  rw [HG0.out]
  rintro r1 w1 ⟨s, rfl, hw, hs⟩
  have k1 : Kept 0 0 w w1 := by rw [hw]; exact Kept.refl _ _ _
  have HS := hide hs
  clear hw hs
  go_wp2_with fail
  refine (implRootOf _ v wfv).mono ?_
  rw [HG0.out]
  rintro r2 w2 ⟨t, rfl, ht, k2⟩
  obtain rfl : t = s := root_same ht HS.out
  clear ht HS
  go_wp2_with fail
  go_ret
  exact ⟨rfl, (k1.trans k2).below⟩
theorem bdV_len (v : Int) : (Pl.bdV v).length ≤ 16 := by unfold Pl.bdV; split <;> simp [Pl.booth]
theorem stV_len (l b : Int) : (Pl.stV l b).length ≤ 16 := by unfold Pl.stV; split <;> simp [Pl.steps]
theorem imarkSlot (w : World) (d : Option Addr) (c lo hi : Nat) (xs : List Int) (h : SlotIn w lo hi d xs) (lx : xs.length ≤ 2000000) : Calls Try.prog 35 #[.slice d xs.length c, .int .i64 1] w fun e w' => e = .returned (.int .i64 (1 + (xs.length : Int))) ∧ SlotIn w' lo hi d (marks 1 xs.length) ∧ Kept lo hi w w' := by
  rcases h with ⟨rfl, rfl⟩ | ⟨g, rfl, g0, g1, ho⟩
  · refine (markNil w c 1).mono ?_
    rintro e w' ⟨rfl, rfl⟩
    exact ⟨rfl, .inl ⟨rfl, by simp [marks]⟩, Kept.refl _ _ _⟩
  · refine (markIntS w g c xs 1 ho lx (by decide) (by decide)).mono ?_
    rintro e w' ⟨rfl, o, k⟩
    exact ⟨rfl, .inr ⟨g, rfl, g0, g1, o⟩, kept_row k (fun j hj => by have h5 : g = j := Option.some.inj hj; omega)⟩
set_option maxRecDepth 20000 in
set_option maxHeartbeats 4000000 in
theorem lawBoothDigits (v : Int) (w : World) (wfv : (Lit.int .i64 v).wf = true) :
    Calls Try.prog 6 #[.int .i64 v] w fun r' w' => r' = .returned (.bool true) ∧ Below w.heap.size w w' := by
  have bl := bdV_len v
  generalize hG0 : Pl.bdV v = L at bl
  have HG0 := hide hG0
  clear hG0
  generalize hG1 : Pl.wOk v = O
  have HG1 := hide hG1
  clear hG1
  have bl2 : L.length ≤ 2000000 := by omega
  go_enter Try.func6, Try.ntmps6
  go_wp2_with fail
  refine (specBoothDigits v w).mono ?_
  rw [HG0.out, HG1.out]
  rintro r1 w1 ⟨d0, c0, rfl, s9, k9⟩
  have S0 := hide s9
  have K1 := hide k9
  have n1 := k9.size
  clear s9 k9
  go_wp2_with fail
  refine (implBoothDigits _ v wfv).mono ?_
  rw [HG0.out, HG1.out]
  rintro r2 w2 ⟨d1, c1, rfl, s9, k9⟩
  have S1 := hide s9
  have S0b := hide (S0.out.kept k9 (by omega))
  have K2 := hide (K1.out.trans k9)
  have n2 := k9.size
  clear s9 k9 S0 K1
  go_wp2_with fail
  refine (eqIntS _ d1 d0 c1 c0 L L S1.out.row S0b.out.row bl2 bl2).mono ?_
  rintro r3 w3 ⟨rfl, gr⟩
  have k9 := kept_grown gr
  rw [show decide (L = L) = true from by simp]
  have S1c := hide (S1.out.kept k9 (by omega))
  have S0c := hide (S0b.out.kept k9 (by omega))
  have K3 := hide (K2.out.trans k9)
  have n3 := k9.size
  clear k9 gr S1 S0b K2
  go_wp2_with fail
  refine (imarkSlot _ d1 c1 _ _ L S1c.out bl2).mono ?_
  rintro r4 w4 ⟨rfl, s9, k9⟩
  have M4 := hide s9
  have S0d := hide (S0c.out.kept k9 (by omega))
  have B4 := hide (below_kept K3.out.below k9 (by omega))
  have n4 := k9.size
  clear s9 k9 S1c S0c K3
  go_wp2_with fail
  refine (heldIntS _ d1 c1 L.length 1 M4.out.row bl2 (by decide) (by decide)).mono ?_
  rintro r5 w5 ⟨rfl, gr⟩
  have k9 := kept_grown gr
  have M5 := hide (M4.out.kept k9 (by omega))
  have S0e := hide (S0d.out.kept k9 (by omega))
  have B5 := hide (below_kept B4.out k9 (by omega))
  have n5 := k9.size
  clear k9 gr M4 S0d B4
  go_wp2_with fail
  refine (implBoothDigits _ v wfv).mono ?_
  rw [HG0.out, HG1.out]
  rintro r6 w6 ⟨d2, c2, rfl, s9, k9⟩
  have S2 := hide s9
  have M6 := hide (M5.out.kept k9 (by omega))
  have S0f := hide (S0e.out.kept k9 (by omega))
  have B6 := hide (below_kept B5.out k9 (by omega))
  have n6 := k9.size
  clear s9 k9 M5 S0e B5
  go_wp2_with fail
  refine (eqIntS _ d2 d0 c2 c0 L L S2.out.row S0f.out.row bl2 bl2).mono ?_
  rintro r7 w7 ⟨rfl, gr⟩
  have k9 := kept_grown gr
  rw [show decide (L = L) = true from by simp]
  have M7 := hide (M6.out.kept k9 (by omega))
  have B7 := hide (below_kept B6.out k9 (by omega))
  clear k9 gr M6 B6 S0f S2
  go_wp2_with fail
  refine (heldIntS _ d1 c1 L.length 1 M7.out.row bl2 (by decide) (by decide)).mono ?_
  rintro r8 w8 ⟨rfl, gr⟩
  have B8 := hide (below_kept B7.out (kept_grown gr) (by omega))
  clear gr M7 B7
  go_wp2_with fail
  go_ret
  exact ⟨rfl, B8.out⟩
set_option maxRecDepth 20000 in
set_option maxHeartbeats 4000000 in
theorem lawDivSteps (l b : Int) (w : World) (wfl : (Lit.int .i64 l).wf = true) (wfb : (Lit.int .i64 b).wf = true) :
    Calls Try.prog 9 #[.int .i64 l, .int .i64 b] w fun r' w' => r' = .returned (.bool true) ∧ Below w.heap.size w w' := by
  have bl := stV_len l b
  generalize hG0 : Pl.stV l b = L at bl
  have HG0 := hide hG0
  clear hG0
  generalize hG1 : Pl.stR l b = R
  have HG1 := hide hG1
  clear hG1
  generalize hG2 : Pl.sOk l b = O
  have HG2 := hide hG2
  clear hG2
  have bl2 : L.length ≤ 2000000 := by omega
  go_enter Try.func9, Try.ntmps9
  go_wp2_with fail
  refine (specDivSteps l b w).mono ?_
  unfold StepsRet
  rw [HG0.out, HG1.out, HG2.out]
  rintro r1 w1 ⟨d0, c0, rfl, s9, k9⟩
  have S0 := hide s9
  have K1 := hide k9
  have n1 := k9.size
  clear s9 k9
  go_wp2_with fail
  refine (implDivSteps _ l b wfl wfb).mono ?_
  unfold StepsRet
  rw [HG0.out, HG1.out, HG2.out]
  rintro r2 w2 ⟨d1, c1, rfl, s9, k9⟩
  have S1 := hide s9
  have S0b := hide (S0.out.kept k9 (by omega))
  have K2 := hide (K1.out.trans k9)
  have n2 := k9.size
  clear s9 k9 S0 K1
  go_wp2_with fail
  refine (eqIntS _ d1 d0 c1 c0 L L S1.out.row S0b.out.row bl2 bl2).mono ?_
  rintro r3 w3 ⟨rfl, gr⟩
  have k9 := kept_grown gr
  rw [show decide (L = L) = true from by simp]
  have S1c := hide (S1.out.kept k9 (by omega))
  have S0c := hide (S0b.out.kept k9 (by omega))
  have K3 := hide (K2.out.trans k9)
  have n3 := k9.size
  clear k9 gr S1 S0b K2
  go_wp2_with fail
  refine (imarkSlot _ d1 c1 _ _ L S1c.out bl2).mono ?_
  rintro r4 w4 ⟨rfl, s9, k9⟩
  have M4 := hide s9
  have S0d := hide (S0c.out.kept k9 (by omega))
  have B4 := hide (below_kept K3.out.below k9 (by omega))
  have n4 := k9.size
  clear s9 k9 S1c S0c K3
  go_wp2_with fail
  refine (heldIntS _ d1 c1 L.length 1 M4.out.row bl2 (by decide) (by decide)).mono ?_
  rintro r5 w5 ⟨rfl, gr⟩
  have k9 := kept_grown gr
  have M5 := hide (M4.out.kept k9 (by omega))
  have S0e := hide (S0d.out.kept k9 (by omega))
  have B5 := hide (below_kept B4.out k9 (by omega))
  have n5 := k9.size
  clear k9 gr M4 S0d B4
  go_wp2_with fail
  refine (implDivSteps _ l b wfl wfb).mono ?_
  unfold StepsRet
  rw [HG0.out, HG1.out, HG2.out]
  rintro r6 w6 ⟨d2, c2, rfl, s9, k9⟩
  have S2 := hide s9
  have M6 := hide (M5.out.kept k9 (by omega))
  have S0f := hide (S0e.out.kept k9 (by omega))
  have B6 := hide (below_kept B5.out k9 (by omega))
  have n6 := k9.size
  clear s9 k9 M5 S0e B5
  go_wp2_with fail
  refine (eqIntS _ d2 d0 c2 c0 L L S2.out.row S0f.out.row bl2 bl2).mono ?_
  rintro r7 w7 ⟨rfl, gr⟩
  have k9 := kept_grown gr
  rw [show decide (L = L) = true from by simp]
  have M7 := hide (M6.out.kept k9 (by omega))
  have B7 := hide (below_kept B6.out k9 (by omega))
  clear k9 gr M6 B6 S0f S2
  go_wp2_with fail
  refine (heldIntS _ d1 c1 L.length 1 M7.out.row bl2 (by decide) (by decide)).mono ?_
  rintro r8 w8 ⟨rfl, gr⟩
  have B8 := hide (below_kept B7.out (kept_grown gr) (by omega))
  clear gr M7 B7
  go_wp2_with fail
  go_ret
  exact ⟨rfl, B8.out⟩
end Go.Proofs.Ytjgcadighogmkaa
