/- The law on decimal digits: of whatever bytes, its Go function returns true, and no block that was there has turned. -/
import Derived.Test.YtkahmepoblhbnaaDoorDrawBcd
import Derived.Test.YtkahmepoblhbnaaDoorTabs
import Derived.Test.YtkahmepoblhbnaaDoorSpecBcd
import Derived.Deep.DeepCutAuto
namespace Go.Proofs.YtkahmepoblhbnaaDoor
open Go.RowKit
set_option linter.unusedVariables false

set_option maxRecDepth 100000 in
set_option maxHeartbeats 2000000 in
theorem lawBcd (a0 a1 : Option Addr) (len0 cap0 len1 cap1 : Nat) (w : World) (ht : TabS w) (hn : TabN w) (h0 : Bytes w a0 len0) (h1 : Bytes w a1 len1) :
    Calls Tryd.prog 3 #[.slice a0 len0 cap0, .slice a1 len1 cap1] w fun e w' => e = .returned (.bool true) ∧ Below w.heap.size w w' := by
  have l0 := h0.1
  have l1 := h1.1
  unfold maxLen at l0 l1
  by_cases hbig : 1048576 < wrap64 ((len0 : Int) + (len1 : Int))
  · go_enter Tryd.func3, Tryd.ntmps3
    go_wp2_with fail
    go_ret
    exact ⟨rfl, Below.refl _ _⟩
  · go_enter Tryd.func3, Tryd.ntmps3
    go_wp2_with fail
    refine (drawAddBcd _ a0 len0 cap0 h0).mono ?_
    rintro e w1 ⟨x, a, b, rfl, x0, x1, ha0, ha1, hb0, hb1, hw1⟩
    clear hbig
    go_wp2_with fail
    refine (addBcd x a b _ (ht.below hw1) (by omega) (by omega) (by omega) (by omega) (by omega) (by omega)).mono ?_
    rintro e wt ⟨rfl, rfl⟩
    go_wp2_with fail
    refine (specAddBcd x a b _).mono ?_
    rintro e wt ⟨rfl, rfl⟩
    go_wp2_with fail
    refine (subBcd x a b _ (ht.below hw1) (hn.below hw1) (by omega) (by omega) (by omega) (by omega) (by omega) (by omega)).mono ?_
    rintro e wt ⟨rfl, nq, rfl⟩
    go_wp2_with fail
    refine (specSubBcd x a b _).mono ?_
    rintro e wt ⟨rfl, rfl⟩
    go_upto_if 120 with fail
    go_cut [10, 13, 16, 19, 20, 21, 22, 23, 24, 25, 26, 27, 28, 29, 30] (fun _ _ _ _ _ _ _ _ _ _ _ _ _ _ _ wx => Below w.heap.size w wx)
    case first =>
      as_aux_lemma =>
        cases k : Pl.two2 x a b
        · go_wp2_with fail
          go_meet
          case rel => exact below_drewN hw1 _
        · obtain ⟨_, _, ka, kb⟩ := Pl.two2_ok k
          have kA := Pl.aV_bcd k
          have kD := Pl.sV_bcd k
          obtain ⟨A0, A1, _, _⟩ := Pl.bcd_ok kA
          obtain ⟨D0, D1, _, _⟩ := Pl.bcd_ok kD
          obtain ⟨c0, c1⟩ := Pl.aC_bd x a b
          obtain ⟨d0, d1⟩ := Pl.sC_bd x a b
          have na := Pl.numV_ok ka
          have i0 : 0 ≤ Pl.numV a ∧ Pl.numV a ≤ 99 := by rw [na]; exact Pl.num_bd ka
          have j0 : 0 ≤ Pl.numV b ∧ Pl.numV b ≤ 99 := by rw [Pl.numV_ok kb]; exact Pl.num_bd kb
          have k0 : 0 ≤ Pl.numV (Pl.aV x a b) ∧ Pl.numV (Pl.aV x a b) ≤ 99 := by rw [Pl.numV_ok kA]; exact Pl.num_bd kA
          have m0 : 0 ≤ Pl.numV (Pl.sV x a b) ∧ Pl.numV (Pl.sV x a b) ≤ 99 := by rw [Pl.numV_ok kD]; exact Pl.num_bd kD
          obtain ⟨i0, i1⟩ := i0
          obtain ⟨j0, j1⟩ := j0
          obtain ⟨k0, k1⟩ := k0
          obtain ⟨m0, m1⟩ := m0
          have e1 := Pl.sum_law k
          have e2 := Pl.dif_law k
          obtain ⟨e3, e4, e5⟩ := Pl.back2 k
          clear na
          go_wp2_with fail
          refine (numberOf a _ (by omega) (by omega)).mono ?_
          rintro e wt ⟨rfl, rfl⟩
          go_wp2_with fail
          refine (numberOf b _ (by omega) (by omega)).mono ?_
          rintro e wt ⟨rfl, rfl⟩
          go_wp2_with fail
          refine (numberOf (Pl.aV x a b) _ (by omega) (by omega)).mono ?_
          rintro e wt ⟨rfl, rfl⟩
          go_wp2_with fail
          refine (numberOf (Pl.sV x a b) _ (by omega) (by omega)).mono ?_
          rintro e wt ⟨rfl, rfl⟩
          go_wp2_with fail
          refine (subBcd x (Pl.aV x a b) b _ ((ht.below hw1).drewN _) ((hn.below hw1).drewN _) (by omega) (by omega) (by omega) (by omega) (by omega) (by omega)).mono ?_
          rintro e wt ⟨rfl, nq1, rfl⟩
          go_wp2_with fail
          go_meet
          case rel => exact below_drewN hw1 _
    case rest =>
      as_aux_lemma =>
        clear hw1
        go_wp2_with fail
        refine (drawBcdOf _ a1 len1 cap1 (h1.kept hcut)).mono ?_
        rintro e w5 ⟨n, rfl, n0, n1, g5⟩
        have hb5 : Below w.heap.size w w5 := hcut.trans (g5.mono hcut.size)
        clear g5 hcut
        go_wp2_with fail
        refine (bcdOf n _ (by omega) (by omega)).mono ?_
        rintro e wt ⟨rfl, rfl⟩
        go_wp2_with fail
        refine (specBcdOf n _).mono ?_
        rintro e wt ⟨rfl, rfl⟩
        go_upto_if 221 with fail
        go_cut [33, 35, 36, 37] (fun _ _ _ _ wx => Below w.heap.size w wx)
        case first =>
          as_aux_lemma =>
            cases k : Pl.dgt n
            · go_wp2_with fail
              go_meet
              case rel => exact hb5
            · obtain ⟨e1, e2, e3, e4⟩ := Pl.bcdV_back k
              go_wp2_with fail
              refine (numberOf (Pl.bcdV n) _ (by omega) (by omega)).mono ?_
              rintro e wt ⟨rfl, rfl⟩
              go_wp2_with fail
              refine (isBcd (Pl.bcdV n) _ (by omega) (by omega)).mono ?_
              rintro e wt ⟨rfl, rfl⟩
              go_wp2_with fail
              go_meet
              case rel => exact hb5
        case rest =>
          as_aux_lemma =>
            clear hb5
            go_wp2_with fail
            refine (drawIsBcd _ a1 len1 cap1 (h1.kept hcut)).mono ?_
            rintro e w6 ⟨q, rfl, q0, q1, g6⟩
            have hb6 : Below w.heap.size w w6 := hcut.trans (g6.mono hcut.size)
            clear g6 hcut
            go_wp2_with fail
            refine (numberOf q _ (by omega) (by omega)).mono ?_
            rintro e wt ⟨rfl, rfl⟩
            go_wp2_with fail
            refine (specNumberOf q _).mono ?_
            rintro e wt ⟨rfl, rfl⟩
            go_wp2_with fail
            refine (isBcd q _ (by omega) (by omega)).mono ?_
            rintro e wt ⟨rfl, rfl⟩
            go_wp2_with fail
            go_ret
            exact ⟨rfl, hb6⟩

end Go.Proofs.YtkahmepoblhbnaaDoor
