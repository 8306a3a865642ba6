/- What the program's GoodIns answers, for every argument. -/
import Derived.Test.YtlbnllhabdnjjaaDoorImplInsD
namespace Go.Proofs.YtlbnllhabdnjjaaDoor
open Go.RowKit
set_option linter.unusedVariables false
theorem implGoodIns (w : World) (op z r m k e s : Int) (wfop : (Lit.int .i64 op).wf = true) (wfz : (Lit.int .i64 z).wf = true) (wfr : (Lit.int .i64 r).wf = true) (wfm : (Lit.int .i64 m).wf = true) (wfk : (Lit.int .i64 k).wf = true) (wfe : (Lit.int .i64 e).wf = true) (wfs : (Lit.int .i64 s).wf = true) : Calls Tryd.prog 20 #[.agg #[.int .i64 op, .int .i64 z, .int .i64 r, .int .i64 m, .int .i64 k, .int .i64 e, .int .i64 s]] w fun r' w' => r' = .returned (.bool (Pl.inOk ⟨op, z, r, m, k, e, s⟩)) ∧ Kept 0 0 w w' := by
  have K0 := hide (kept_alloc w (.cells #[.int .i64 op, .int .i64 z, .int .i64 r, .int .i64 m, .int .i64 k, .int .i64 e, .int .i64 s] 36))
  have B0 := hide (Blk.new w #[.int .i64 op, .int .i64 z, .int .i64 r, .int .i64 m, .int .i64 k, .int .i64 e, .int .i64 s] 36)
  rw [Pl.ok_of_fits]
  simp only
  cases h1 : Pl.fits ⟨op, z, r, m, k, e, s⟩
  · go_enter Tryd.func20, Tryd.ntmps20
    go_wp2_with (go_at_call 39; refine (fitsWords _ op z r m k e s).mono ?_; rw [h1]; rintro e9 w1 ⟨rfl, k1⟩)
    go_ret
    exact ⟨rB (by simp), K0.out.trans k1⟩
  · have h0 : 0 ≤ s := ((Pl.fits_iff _).1 h1).2.2.2.2.2.1.1
    cases h2 : Pl.opOk m k e
    · go_enter Tryd.func20, Tryd.ntmps20
      go_wp2_with (first | (go_at_call 39; refine (fitsWords _ op z r m k e s).mono ?_; rw [h1]; rintro e9 w1 ⟨rfl, k1⟩; have B1 := hide (B0.out.kept0 k1); have K1 := hide (K0.out.trans k1); obtain ⟨b0, b1, b2, b3, b4, b5, b6⟩ := B1.out.c7; clear k1) | (go_at_call 40; refine (implGoodOperand _ m k e wfm wfk wfe).mono ?_; rw [h2]; rintro e9 w2 ⟨rfl, k2⟩; have B2 := hide (B1.out.kept0 k2); have K2 := hide (K1.out.trans k2); obtain ⟨c0, c1, c2, c3, c4, c5, c6⟩ := B2.out.c7; clear k2))
      go_ret
      exact ⟨rB (by simp), K2.out⟩
    · cases h3 : Pl.fitZ ⟨op, z, r, m, k, e, s⟩
      · go_enter Tryd.func20, Tryd.ntmps20
        go_wp2_with (first | (go_at_call 39; refine (fitsWords _ op z r m k e s).mono ?_; rw [h1]; rintro e9 w1 ⟨rfl, k1⟩; have B1 := hide (B0.out.kept0 k1); have K1 := hide (K0.out.trans k1); obtain ⟨b0, b1, b2, b3, b4, b5, b6⟩ := B1.out.c7; clear k1) | (go_at_call 40; refine (implGoodOperand _ m k e wfm wfk wfe).mono ?_; rw [h2]; rintro e9 w2 ⟨rfl, k2⟩; have B2 := hide (B1.out.kept0 k2); have K2 := hide (K1.out.trans k2); obtain ⟨c0, c1, c2, c3, c4, c5, c6⟩ := B2.out.c7; clear k2) | (go_at_call 41; refine (fitsSize _ op z r m k e s wfe).mono ?_; rw [h3]; rintro e9 w3 ⟨rfl, k3⟩; have B3 := hide (B2.out.kept0 k3); have K3 := hide (K2.out.trans k3); obtain ⟨d0, d1, d2, d3, d4, d5, d6⟩ := B3.out.c7; clear k3))
        go_ret
        exact ⟨rB (by simp), K3.out⟩
      · go_enter Tryd.func20, Tryd.ntmps20
        go_wp2_with (first | (go_at_call 39; refine (fitsWords _ op z r m k e s).mono ?_; rw [h1]; rintro e9 w1 ⟨rfl, k1⟩; have B1 := hide (B0.out.kept0 k1); have K1 := hide (K0.out.trans k1); obtain ⟨b0, b1, b2, b3, b4, b5, b6⟩ := B1.out.c7; clear k1) | (go_at_call 40; refine (implGoodOperand _ m k e wfm wfk wfe).mono ?_; rw [h2]; rintro e9 w2 ⟨rfl, k2⟩; have B2 := hide (B1.out.kept0 k2); have K2 := hide (K1.out.trans k2); obtain ⟨c0, c1, c2, c3, c4, c5, c6⟩ := B2.out.c7; clear k2) | (go_at_call 41; refine (fitsSize _ op z r m k e s wfe).mono ?_; rw [h3]; rintro e9 w3 ⟨rfl, k3⟩; have B3 := hide (B2.out.kept0 k3); have K3 := hide (K2.out.trans k3); obtain ⟨d0, d1, d2, d3, d4, d5, d6⟩ := B3.out.c7; clear k3) | (go_at_call 42; refine (fitsOp _ op z r m k e s h0).mono ?_; rintro e9 w4 ⟨rfl, k4⟩; have B4 := hide (B3.out.kept0 k4); have K4 := hide (K3.out.trans k4); clear k4))
        go_ret
        exact ⟨rB (by simp), K4.out⟩
end Go.Proofs.YtlbnllhabdnjjaaDoor
