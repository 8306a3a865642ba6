/- What the model's draws of instructions and words answer, from bytes that came in: numbers within their bounds; no block that was there has turned. -/
import Derived.Test.YtlbnllhabdnjjaaDoorDrawIns
namespace Go.Proofs.YtlbnllhabdnjjaaDoor
open Go.RowKit
set_option linter.unusedVariables false
theorem insW {w W : World} {b : Nat} {a : Option Addr} {len cap : Nat} {p k : Int} (h : Went w W b a len cap p k) (p0 : 0 ≤ p) (p1 : p + k ≤ 600000) :
    Calls Tryd.prog 37 #[.pointer (some ⟨b, 0, none⟩)] W fun e' w' => ∃ X : Pl.In, e' = .returned (.agg #[.int .i64 X.op, .int .i64 X.z, .int .i64 X.r, .int .i64 X.m, .int .i64 X.k, .int .i64 X.e, .int .i64 X.s]) ∧ SmallI X ∧ Went w w' b a len cap p (k + 700) ∧ W.grownBy w' (some b) := by
  obtain ⟨h1, q, h2, h3, h4⟩ := h
  refine (insDraw W b a len cap q h4 (by omega) (by omega)).mono ?_
  rintro e' w' ⟨X, he, hs, hw⟩
  exact ⟨X, he, hs, Went.step h1 h2 h3 hw, hw.1⟩
set_option maxRecDepth 100000 in
set_option maxHeartbeats 8000000 in
theorem anyIns (w : World) (b : Nat) (a : Option Addr) (len cap : Nat) (p : Int) (h : Cur w b a len cap p) (p0 : 0 ≤ p) (p1 : p ≤ 500000) :
    Calls Tryd.prog 38 #[.pointer (some ⟨b, 0, none⟩)] w fun e' w' => ∃ X : Pl.In, e' = .returned (.agg #[.int .i64 X.op, .int .i64 X.z, .int .i64 X.r, .int .i64 X.m, .int .i64 X.k, .int .i64 X.e, .int .i64 X.s]) ∧ SmallI X ∧ Went w w' b a len cap p 800 := by
  have hlt := h.lt
  have R0 := hide (Blk.new w #[.int .i64 0, .int .i64 0, .int .i64 0, .int .i64 0, .int .i64 0, .int .i64 0, .int .i64 0] 36)
  have T0 := hide ((Went.refl h).allocW (.cells #[.int .i64 0, .int .i64 0, .int .i64 0, .int .i64 0, .int .i64 0, .int .i64 0, .int .i64 0] 36))
  go_enter Tryd.func38, Tryd.ntmps38
  go_wp2_with fail
  refine (insW T0.out p0 (by omega)).mono ?_
  rintro e9 w1 ⟨X, rfl, sx, t9, g9⟩
  have s1 := g9.size
  simp only [World.size_alloc] at s1
  have T1 := hide (t9.allocW (.cells #[.int .i64 X.op, .int .i64 X.z, .int .i64 X.r, .int .i64 X.m, .int .i64 X.k, .int .i64 X.e, .int .i64 X.s] 36))
  have R1 := hide ((R0.out.by2 g9 (by simp; omega)).alloc (.cells #[.int .i64 X.op, .int .i64 X.z, .int .i64 X.r, .int .i64 X.m, .int .i64 X.k, .int .i64 X.e, .int .i64 X.s] 36))
  have B1 := hide (Blk.new w1 #[.int .i64 X.op, .int .i64 X.z, .int .i64 X.r, .int .i64 X.m, .int .i64 X.k, .int .i64 X.e, .int .i64 X.s] 36)
  clear t9 g9 T0 R0
  go_wp2_with fail
  refine (oneW T1.out p0 (by omega) 20 (by omega) (by omega)).mono ?_
  rintro e9 v1 ⟨on, rfl, t9, g9⟩
  have T2 := hide t9
  have R2 := hide (R1.out.by2 g9 (by simp; omega))
  have B2 := hide (B1.out.by2 g9 (by simp; omega))
  clear t9 g9
  have l1 := B2.out.lt
  have l2 := R2.out.lt
  cases on
  · have y0 := B2.out.cell (i := 0) rfl
    have y1 := B2.out.cell (i := 1) rfl
    have y2 := B2.out.cell (i := 2) rfl
    have y3 := B2.out.cell (i := 3) rfl
    have y4 := B2.out.cell (i := 4) rfl
    have y5 := B2.out.cell (i := 5) rfl
    have y6 := B2.out.cell (i := 6) rfl
    have fy0 := B2.out.frozen 0
    have fy1 := B2.out.frozen 1
    have fy2 := B2.out.frozen 2
    have fy3 := B2.out.frozen 3
    have fy4 := B2.out.frozen 4
    have fy5 := B2.out.frozen 5
    have fy6 := B2.out.frozen 6
    have z0 := R2.out.cell (i := 0) rfl
    have z1 := R2.out.cell (i := 1) rfl
    have z2 := R2.out.cell (i := 2) rfl
    have z3 := R2.out.cell (i := 3) rfl
    have z4 := R2.out.cell (i := 4) rfl
    have z5 := R2.out.cell (i := 5) rfl
    have z6 := R2.out.cell (i := 6) rfl
    have fz0 := R2.out.frozen 0
    have fz1 := R2.out.frozen 1
    have fz2 := R2.out.frozen 2
    have fz3 := R2.out.frozen 3
    have fz4 := R2.out.frozen 4
    have fz5 := R2.out.frozen 5
    have fz6 := R2.out.frozen 6
    go_wp2_with fail
    refine bodyPost_ret (v := .agg #[.int .i64 X.op, .int .i64 X.z, .int .i64 X.r, .int .i64 X.m, .int .i64 X.k, .int .i64 X.e, .int .i64 X.s]) ?_ rfl ⟨X, rfl, sx, ?_⟩
    · rw [results_one rfl]; go_simp
    · exact ((((((((T2.out.setNew h w.heap.size _ _ (Nat.le_refl _)).setNew h w.heap.size _ _ (Nat.le_refl _)).setNew h w.heap.size _ _ (Nat.le_refl _)).setNew h w.heap.size _ _ (Nat.le_refl _)).setNew h w.heap.size _ _ (Nat.le_refl _)).setNew h w.heap.size _ _ (Nat.le_refl _)).setNew h w.heap.size _ _ (Nat.le_refl _))).more (by omega)
  · go_wp2_with fail
    refine (pickW T2.out p0 (by omega) 22 (by omega) (by omega)).mono ?_
    rintro e9 v2 ⟨q1, rfl, q10, q11, t9, g9⟩
    have T3 := hide t9
    have R3 := hide (R2.out.by2 g9 (by simp; omega))
    have B3 := hide (B2.out.by2 g9 (by simp; omega))
    clear t9 g9
    go_wp2_with fail
    refine (pickW T3.out p0 (by omega) 4 (by omega) (by omega)).mono ?_
    rintro e9 v3 ⟨q2, rfl, q20, q21, t9, g9⟩
    have T4 := hide t9
    have R4 := hide (R3.out.by2 g9 (by simp; omega))
    have B4 := hide (B3.out.by2 g9 (by simp; omega))
    clear t9 g9
    go_wp2_with fail
    refine (pickW T4.out p0 (by omega) 5 (by omega) (by omega)).mono ?_
    rintro e9 v4 ⟨q3, rfl, q30, q31, t9, g9⟩
    have T5 := hide t9
    have R5 := hide (R4.out.by2 g9 (by simp; omega))
    have B5 := hide (B4.out.by2 g9 (by simp; omega))
    clear t9 g9
    go_wp2_with fail
    refine (operandW T5.out p0 (by omega)).mono ?_
    rintro e9 v5 ⟨q4, q5, q6, rfl, so, t9, g9⟩
    have T6 := hide t9
    have R6 := hide (R5.out.by2 g9 (by simp; omega))
    have B6 := hide (B5.out.by2 g9 (by simp; omega))
    clear t9 g9
    go_wp2_with fail
    refine (pickW T6.out p0 (by omega) 9 (by omega) (by omega)).mono ?_
    rintro e9 v6 ⟨q7, rfl, q70, q71, t9, g9⟩
    have T7 := hide t9
    have R7 := hide (R6.out.by2 g9 (by simp; omega))
    have B7 := hide (B6.out.by2 g9 (by simp; omega))
    clear t9 g9
    obtain ⟨m0, m1, k0, k1, e0, e1⟩ := so
    have l3 := B7.out.lt
    have l4 := R7.out.lt
    have y0 := B7.out.cell (i := 0) rfl
    have y1 := B7.out.cell (i := 1) rfl
    have y2 := B7.out.cell (i := 2) rfl
    have y3 := B7.out.cell (i := 3) rfl
    have y4 := B7.out.cell (i := 4) rfl
    have y5 := B7.out.cell (i := 5) rfl
    have y6 := B7.out.cell (i := 6) rfl
    have fy0 := B7.out.frozen 0
    have fy1 := B7.out.frozen 1
    have fy2 := B7.out.frozen 2
    have fy3 := B7.out.frozen 3
    have fy4 := B7.out.frozen 4
    have fy5 := B7.out.frozen 5
    have fy6 := B7.out.frozen 6
    have z0 := R7.out.cell (i := 0) rfl
    have z1 := R7.out.cell (i := 1) rfl
    have z2 := R7.out.cell (i := 2) rfl
    have z3 := R7.out.cell (i := 3) rfl
    have z4 := R7.out.cell (i := 4) rfl
    have z5 := R7.out.cell (i := 5) rfl
    have z6 := R7.out.cell (i := 6) rfl
    have fz0 := R7.out.frozen 0
    have fz1 := R7.out.frozen 1
    have fz2 := R7.out.frozen 2
    have fz3 := R7.out.frozen 3
    have fz4 := R7.out.frozen 4
    have fz5 := R7.out.frozen 5
    have fz6 := R7.out.frozen 6
    go_wp2_with fail
    refine bodyPost_ret (v := .agg #[.int .i64 q1, .int .i64 q2, .int .i64 q3, .int .i64 q4, .int .i64 q5, .int .i64 q6, .int .i64 q7]) ?_ rfl ⟨⟨q1, q2, q3, q4, q5, q6, q7⟩, rfl, (by refine ⟨?_, ?_, ?_, ?_, ?_, ?_, ?_, ?_, ?_, ?_, ?_, ?_, ?_, ?_⟩ <;> simp only <;> omega), ?_⟩
    · rw [results_one rfl]; go_simp
    · exact (((((((((((((((T7.out.setNew h w1.heap.size _ _ (by omega)).setNew h w1.heap.size _ _ (by omega)).setNew h w1.heap.size _ _ (by omega)).setNew h w1.heap.size _ _ (by omega)).setNew h w1.heap.size _ _ (by omega)).setNew h w1.heap.size _ _ (by omega)).setNew h w1.heap.size _ _ (by omega)).setNew h w.heap.size _ _ (Nat.le_refl _)).setNew h w.heap.size _ _ (Nat.le_refl _)).setNew h w.heap.size _ _ (Nat.le_refl _)).setNew h w.heap.size _ _ (Nat.le_refl _)).setNew h w.heap.size _ _ (Nat.le_refl _)).setNew h w.heap.size _ _ (Nat.le_refl _)).setNew h w.heap.size _ _ (Nat.le_refl _))).more (by omega)
theorem drawGoodIns (w : World) (a : Option Addr) (len cap : Nat) (h : Bytes w a len) :
    Calls Tryd.prog 31 #[.slice a len cap] w fun e w' => ∃ X : Pl.In, e = .returned (.agg #[.int .i64 X.op, .int .i64 X.z, .int .i64 X.r, .int .i64 X.m, .int .i64 X.k, .int .i64 X.e, .int .i64 X.s]) ∧ SmallI X ∧ Below w.heap.size w w' := by
  have R0 := hide (Blk.new w #[.int .i64 0, .int .i64 0, .int .i64 0, .int .i64 0, .int .i64 0, .int .i64 0, .int .i64 0] 36)
  have hb := h.kept (kept_alloc w (.cells #[.int .i64 0, .int .i64 0, .int .i64 0, .int .i64 0, .int .i64 0, .int .i64 0, .int .i64 0] 36)).below
  go_enter Tryd.func31, Tryd.ntmps31
  go_wp2_with fail
  refine (anyIns _ _ a len cap 0 (by simpa using hb.cur cap) (by omega) (by omega)).mono ?_
  rintro e w2 ⟨X, rfl, sx, hg2, q2, q20, q21, hc2⟩
  have R2 := hide ((R0.out.alloc (.cells #[.slice a len cap, .int .i64 0, .int .u64 0] 51)).by2 hg2 (by simp))
  have l2 := R2.out.lt
  have z0 := R2.out.cell (i := 0) rfl
  have z1 := R2.out.cell (i := 1) rfl
  have z2 := R2.out.cell (i := 2) rfl
  have z3 := R2.out.cell (i := 3) rfl
  have z4 := R2.out.cell (i := 4) rfl
  have z5 := R2.out.cell (i := 5) rfl
  have z6 := R2.out.cell (i := 6) rfl
  have f0 := R2.out.frozen 0
  have f1 := R2.out.frozen 1
  have f2 := R2.out.frozen 2
  have f3 := R2.out.frozen 3
  have f4 := R2.out.frozen 4
  have f5 := R2.out.frozen 5
  have f6 := R2.out.frozen 6
  have K2 : Hid (Kept 0 0 w w2) := hide (by
    refine kept_over (kept_new (kept_alloc w (.cells #[.int .i64 0, .int .i64 0, .int .i64 0, .int .i64 0, .int .i64 0, .int .i64 0, .int .i64 0] 36)) (.cells #[.slice a len cap, .int .i64 0, .int .u64 0] 51)) (kept_row (lo := w.heap.size + 1) (hi := w.heap.size + 1 + 1) hg2 ?_) (by omega)
    intro g hg
    have q : w.heap.size + 1 = g := Option.some.inj hg
    omega)
  clear hg2
  go_wp2_with fail
  refine bodyPost_ret (v := .agg #[.int .i64 X.op, .int .i64 X.z, .int .i64 X.r, .int .i64 X.m, .int .i64 X.k, .int .i64 X.e, .int .i64 X.s]) ?_ rfl ⟨X, rfl, sx, ?_⟩
  · rw [results_one rfl]; go_simp
  · exact (kept_set (kept_set (kept_set (kept_set (kept_set (kept_set (kept_set K2.out _ _ _ (.inr (Nat.le_refl _))) _ _ _ (.inr (Nat.le_refl _))) _ _ _ (.inr (Nat.le_refl _))) _ _ _ (.inr (Nat.le_refl _))) _ _ _ (.inr (Nat.le_refl _))) _ _ _ (.inr (Nat.le_refl _))) _ _ _ (.inr (Nat.le_refl _))).below
theorem drawTextOf (w : World) (a : Option Addr) (len cap : Nat) (h : Bytes w a len) :
    Calls Tryd.prog 13 #[.slice a len cap] w fun e w' => ∃ X : Pl.In, e = .returned (.agg #[.int .i64 X.op, .int .i64 X.z, .int .i64 X.r, .int .i64 X.m, .int .i64 X.k, .int .i64 X.e, .int .i64 X.s]) ∧ SmallI X ∧ Below w.heap.size w w' := by
  have R0 := hide (Blk.new w #[.int .i64 0, .int .i64 0, .int .i64 0, .int .i64 0, .int .i64 0, .int .i64 0, .int .i64 0] 36)
  have K0 := hide (kept_alloc w (.cells #[.int .i64 0, .int .i64 0, .int .i64 0, .int .i64 0, .int .i64 0, .int .i64 0, .int .i64 0] 36))
  have hb := h.kept K0.out.below
  go_enter Tryd.func13, Tryd.ntmps13
  go_wp2_with fail
  refine (drawGoodIns _ a len cap hb).mono ?_
  rintro e w2 ⟨X, rfl, sx, hg2⟩
  have R2 := hide (R0.out.kept0 (kept_below hg2))
  have l2 := R2.out.lt
  have z0 := R2.out.cell (i := 0) rfl
  have f0 := R2.out.frozen 0
  have z1 := R2.out.cell (i := 1) rfl
  have f1 := R2.out.frozen 1
  have z2 := R2.out.cell (i := 2) rfl
  have f2 := R2.out.frozen 2
  have z3 := R2.out.cell (i := 3) rfl
  have f3 := R2.out.frozen 3
  have z4 := R2.out.cell (i := 4) rfl
  have f4 := R2.out.frozen 4
  have z5 := R2.out.cell (i := 5) rfl
  have f5 := R2.out.frozen 5
  have z6 := R2.out.cell (i := 6) rfl
  have f6 := R2.out.frozen 6
  have K2 := hide (K0.out.trans (kept_below hg2))
  clear hg2
  go_wp2_with fail
  refine bodyPost_ret (v := .agg #[.int .i64 X.op, .int .i64 X.z, .int .i64 X.r, .int .i64 X.m, .int .i64 X.k, .int .i64 X.e, .int .i64 X.s]) ?_ rfl ⟨X, rfl, sx, ?_⟩
  · rw [results_one rfl]; go_simp
  · exact (kept_set (kept_set (kept_set (kept_set (kept_set (kept_set (kept_set K2.out _ _ _ (.inr (Nat.le_refl _))) _ _ _ (.inr (Nat.le_refl _))) _ _ _ (.inr (Nat.le_refl _))) _ _ _ (.inr (Nat.le_refl _))) _ _ _ (.inr (Nat.le_refl _))) _ _ _ (.inr (Nat.le_refl _))) _ _ _ (.inr (Nat.le_refl _))).below
end Go.Proofs.YtlbnllhabdnjjaaDoor
