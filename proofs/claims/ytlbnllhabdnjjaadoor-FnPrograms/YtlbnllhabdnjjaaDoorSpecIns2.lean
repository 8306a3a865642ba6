/- What the model's GoodIns answers, for every instruction. -/
import Derived.Test.YtlbnllhabdnjjaaDoorSpecInsA1
import Derived.Test.YtlbnllhabdnjjaaDoorSpecInsA2
import Derived.Test.YtlbnllhabdnjjaaDoorSpecInsB1
import Derived.Test.YtlbnllhabdnjjaaDoorSpecInsB2
namespace Go.Proofs.YtlbnllhabdnjjaaDoor
open Go.RowKit
set_option linter.unusedVariables false
set_option linter.unusedSimpArgs false
set_option maxRecDepth 100000 in
set_option maxHeartbeats 4000000 in
theorem specGoodIns (w : World) (op z r m k e s : Int) :
    Calls Tryd.prog 22 #[.agg #[.int .i64 op, .int .i64 z, .int .i64 r, .int .i64 m, .int .i64 k, .int .i64 e, .int .i64 s]] w fun r' w' => r' = .returned (.bool (Pl.inOk ⟨op, z, r, m, k, e, s⟩)) ∧ Kept 0 0 w w' := by
  have K0 := hide (kept_alloc w (.cells #[.int .i64 op, .int .i64 z, .int .i64 r, .int .i64 m, .int .i64 k, .int .i64 e, .int .i64 s] 36))
  have B0 := hide (Blk.new w #[.int .i64 op, .int .i64 z, .int .i64 r, .int .i64 m, .int .i64 k, .int .i64 e, .int .i64 s] 36)
  cases h1 : (decide (z = 1) || decide (z = 2))
  · have G : Hid (Pl.inOk ⟨op, z, r, m, k, e, s⟩ = false) := hide (by simp only [Pl.inOk, Pl.inBase, h1]; rfl)
    go_enter Tryd.func22, Tryd.ntmps22
    go_wp2_with (first | (go_at_call 45; refine (specSize _ _).mono ?_; rintro e9 w' ⟨rfl, hw⟩; have hw2 := hw.symm; clear hw; subst hw2; rw [h1]))
    go_ret
    exact ⟨rB G.out.symm, K0.out⟩
  · cases h2 : Pl.within r 0 3
    · have G : Hid (Pl.inOk ⟨op, z, r, m, k, e, s⟩ = false) := hide (by simp only [Pl.inOk, Pl.inBase, h1, h2]; rfl)
      go_enter Tryd.func22, Tryd.ntmps22
      go_wp2_with (first | (go_at_call 45; refine (specSize _ _).mono ?_; rintro e9 w' ⟨rfl, hw⟩; have hw2 := hw.symm; clear hw; subst hw2; rw [h1]) | (go_at_call 46; refine (l1In _ _ _ _).mono ?_; rintro e9 w' ⟨rfl, hw⟩; have hw2 := hw.symm; clear hw; subst hw2; rw [show (decide (0 ≤ r) && decide (r ≤ 3)) = Pl.within r 0 3 from rfl, h2]))
      go_ret
      exact ⟨rB G.out.symm, K0.out⟩
    · cases h3 : Pl.opOk m k e
      · have G : Hid (Pl.inOk ⟨op, z, r, m, k, e, s⟩ = false) := hide (by simp only [Pl.inOk, Pl.inBase, h1, h2, h3]; rfl)
        go_enter Tryd.func22, Tryd.ntmps22
        go_wp2_with (first | (go_at_call 45; refine (specSize _ _).mono ?_; rintro e9 w' ⟨rfl, hw⟩; have hw2 := hw.symm; clear hw; subst hw2; rw [h1]) | (go_at_call 46; refine (l1In _ _ _ _).mono ?_; rintro e9 w' ⟨rfl, hw⟩; have hw2 := hw.symm; clear hw; subst hw2; rw [show (decide (0 ≤ r) && decide (r ≤ 3)) = Pl.within r 0 3 from rfl, h2]) | (go_at_call 47; refine (specGoodOperand _ m k e).mono ?_; rintro e9 w2 ⟨rfl, k2⟩; rw [h3]; have B2 := hide (B0.out.kept0 k2); have K2 := hide (K0.out.trans k2); have c0 := B2.out.cell (i := 0) rfl; have c1 := B2.out.cell (i := 1) rfl; have c2 := B2.out.cell (i := 2) rfl; have c3 := B2.out.cell (i := 3) rfl; have c4 := B2.out.cell (i := 4) rfl; have c5 := B2.out.cell (i := 5) rfl; have c6 := B2.out.cell (i := 6) rfl; clear k2))
        go_ret
        exact ⟨rB G.out.symm, K2.out⟩
      · cases h4 : Pl.within s 0 7
        · have G : Hid (Pl.inOk ⟨op, z, r, m, k, e, s⟩ = false) := hide (by simp only [Pl.inOk, Pl.inBase, h1, h2, h3, h4]; rfl)
          go_enter Tryd.func22, Tryd.ntmps22
          go_wp2_with (first | (go_at_call 46; have z9 := B2; refine (l1In _ _ _ _).mono ?_; rintro e9 w' ⟨rfl, hw⟩; have hw2 := hw.symm; clear hw; subst hw2; rw [show (decide (0 ≤ s) && decide (s ≤ 7)) = Pl.within s 0 7 from rfl, h4]) | (go_at_call 45; refine (specSize _ _).mono ?_; rintro e9 w' ⟨rfl, hw⟩; have hw2 := hw.symm; clear hw; subst hw2; rw [h1]) | (go_at_call 46; refine (l1In _ _ _ _).mono ?_; rintro e9 w' ⟨rfl, hw⟩; have hw2 := hw.symm; clear hw; subst hw2; rw [show (decide (0 ≤ r) && decide (r ≤ 3)) = Pl.within r 0 3 from rfl, h2]) | (go_at_call 47; refine (specGoodOperand _ m k e).mono ?_; rintro e9 w2 ⟨rfl, k2⟩; rw [h3]; have B2 := hide (B0.out.kept0 k2); have K2 := hide (K0.out.trans k2); have c0 := B2.out.cell (i := 0) rfl; have c1 := B2.out.cell (i := 1) rfl; have c2 := B2.out.cell (i := 2) rfl; have c3 := B2.out.cell (i := 3) rfl; have c4 := B2.out.cell (i := 4) rfl; have c5 := B2.out.cell (i := 5) rfl; have c6 := B2.out.cell (i := 6) rfl; clear k2))
          go_ret
          exact ⟨rB G.out.symm, K2.out⟩
        · cases h6 : (m == 7)
          · clear K0 B0
            simp at h1
            rcases h1 with rfl | rfl
            · exact goodInsA1 w op r m k e s h2 h3 h4 h6
            · exact goodInsA2 w op r m k e s h2 h3 h4 h6
          · have hm : m = 7 := by simpa using h6
            subst hm
            have h1b := h1
            simp at h1b
            rcases h1b with rfl | rfl
            · cases h8 : decide (255 < e)
              · exact goodInsB1 w op r k e s h2 h3 h4 h8
              · have G : Hid (Pl.inOk ⟨op, 1, r, 7, k, e, s⟩ = false) := hide (by simp only [Pl.inOk, Pl.inBase, Pl.byteNow, h2, h3, h4, h8]; rfl)
                go_enter Tryd.func22, Tryd.ntmps22
                go_wp2_with (first | (go_at_call 46; have z9 := B2; refine (l1In _ _ _ _).mono ?_; rintro e9 w' ⟨rfl, hw⟩; have hw2 := hw.symm; clear hw; subst hw2; rw [show (decide (0 ≤ s) && decide (s ≤ 7)) = Pl.within s 0 7 from rfl, h4]) | (go_at_call 45; refine (specSize _ _).mono ?_; rintro e9 w' ⟨rfl, hw⟩; have hw2 := hw.symm; clear hw; subst hw2; rw [h1]) | (go_at_call 46; refine (l1In _ _ _ _).mono ?_; rintro e9 w' ⟨rfl, hw⟩; have hw2 := hw.symm; clear hw; subst hw2; rw [show (decide (0 ≤ r) && decide (r ≤ 3)) = Pl.within r 0 3 from rfl, h2]) | (go_at_call 47; refine (specGoodOperand _ 7 k e).mono ?_; rintro e9 w2 ⟨rfl, k2⟩; rw [h3]; have B2 := hide (B0.out.kept0 k2); have K2 := hide (K0.out.trans k2); have c0 := B2.out.cell (i := 0) rfl; have c1 := B2.out.cell (i := 1) rfl; have c2 := B2.out.cell (i := 2) rfl; have c3 := B2.out.cell (i := 3) rfl; have c4 := B2.out.cell (i := 4) rfl; have c5 := B2.out.cell (i := 5) rfl; have c6 := B2.out.cell (i := 6) rfl; clear k2))
                go_ret
                exact ⟨rB G.out.symm, K2.out⟩
            · exact goodInsB2 w op r k e s h2 h3 h4
end Go.Proofs.YtlbnllhabdnjjaaDoor
