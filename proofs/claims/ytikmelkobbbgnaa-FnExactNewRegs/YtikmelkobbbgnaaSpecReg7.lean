/- What the model of PlaceOf answers, for every argument. -/
import Derived.Test.YtikmelkobbbgnaaSpecReg6
import Derived.Test.YtikmelkobbbgnaaRegFrame
import Derived.Deep.DeepCutAuto
namespace Go.Proofs.Ytikmelkobbbgnaa
open Go.RowKit
set_option linter.unusedVariables false

theorem results_cell_tmp2 {fn : Func} {p u1 u2 : Tmp} {ty : TypeId} (h : fn.results = #[.cell p ty, .tmp u1, .tmp u2]) (tmps : Array Value) (P : Program) (w : World) :
    (results fn tmps).run P w = ((asAddr (tmps.getD p undef)).run P w).andThen fun a w₁ => ((loadVar ty a).run P w₁).andThen fun v w₂ => .ok (.tuple #[v, tmps.getD u1 undef, tmps.getD u2 undef]) w₂ := by
  simp only [results, h]
  simp [Sem.run_bind, Result.andThen]
theorem specSize (z : Int) (w : World) : Calls Try.prog 49 #[.int .i64 z] w fun e w' => e = .returned (.bool (decide (z = 1) || decide (z = 2))) ∧ w' = w := by
  by_cases h1 : z = 1
  · subst h1; exact l1Size1 w
  · by_cases h2 : z = 2
    · subst h2; exact l1Size2 w
    · rw [show (decide (z = 1) || decide (z = 2)) = false from by simp [h1, h2]]; exact l1Size_no z w h1 h2

set_option maxRecDepth 20000 in
set_option maxHeartbeats 16000000 in
theorem specPlaceOf (w : World) (r : Pl.Rg) (a b : Option Addr) (ca cb : Nat) (z m k e : Int) (ha : IRow w a r.xs) (hb : IRow w b r.ys) (lx : r.xs.length ≤ 2000000) (ly : r.ys.length ≤ 2000000) :
    Calls Try.prog 23 #[.agg #[.slice a r.xs.length ca, .slice b r.ys.length cb, .int .i64 r.o, .int .i64 r.p, .int .i64 r.f, .int .i64 r.m, .bool r.s, .bool r.t], .int .i64 z, .agg #[.int .i64 m, .int .i64 k, .int .i64 e]] w fun e' w' => ∃ (a' b' : Option Addr) (ca' cb' : Nat), e' = .returned (.tuple #[.agg #[.slice a' (Pl.plcR r z m k e).xs.length ca', .slice b' (Pl.plcR r z m k e).ys.length cb', .int .i64 (Pl.plcR r z m k e).o, .int .i64 (Pl.plcR r z m k e).p, .int .i64 (Pl.plcR r z m k e).f, .int .i64 (Pl.plcR r z m k e).m, .bool (Pl.plcR r z m k e).s, .bool (Pl.plcR r z m k e).t], .int .i64 (Pl.plcV r z m k e), .bool (Pl.plcOk r z m k e)]) ∧ RegIn w' w.heap.size (Pl.plcR r z m k e) a' b' ∧ Kept 0 0 w w' := by
  have HA := hide ha
  have HB := hide hb
  have K0 := hide (kept_new (kept_new (kept_alloc w (.cells #[.slice a r.xs.length ca, .slice b r.ys.length cb, .int .i64 r.o, .int .i64 r.p, .int .i64 r.f, .int .i64 r.m, .bool r.s, .bool r.t] 24)) (.cells #[.int .i64 m, .int .i64 k, .int .i64 e] 37)) (.cells #[.slice none 0 0, .slice none 0 0, .int .i64 0, .int .i64 0, .int .i64 0, .int .i64 0, .bool false, .bool false] 24))
  have P0 := hide (((Blk.new w #[.slice a r.xs.length ca, .slice b r.ys.length cb, .int .i64 r.o, .int .i64 r.p, .int .i64 r.f, .int .i64 r.m, .bool r.s, .bool r.t] 24).alloc (.cells #[.int .i64 m, .int .i64 k, .int .i64 e] 37)).alloc (.cells #[.slice none 0 0, .slice none 0 0, .int .i64 0, .int .i64 0, .int .i64 0, .int .i64 0, .bool false, .bool false] 24))
  have Q0 := ((Blk.new (w.alloc (.cells #[.slice a r.xs.length ca, .slice b r.ys.length cb, .int .i64 r.o, .int .i64 r.p, .int .i64 r.f, .int .i64 r.m, .bool r.s, .bool r.t] 24)) #[.int .i64 m, .int .i64 k, .int .i64 e] 37).alloc (.cells #[.slice none 0 0, .slice none 0 0, .int .i64 0, .int .i64 0, .int .i64 0, .int .i64 0, .bool false, .bool false] 24))
  have R0 := Blk.new ((w.alloc (.cells #[.slice a r.xs.length ca, .slice b r.ys.length cb, .int .i64 r.o, .int .i64 r.p, .int .i64 r.f, .int .i64 r.m, .bool r.s, .bool r.t] 24)).alloc (.cells #[.int .i64 m, .int .i64 k, .int .i64 e] 37)) #[.slice none 0 0, .slice none 0 0, .int .i64 0, .int .i64 0, .int .i64 0, .int .i64 0, .bool false, .bool false] 24
  simp only [World.size_alloc] at R0 Q0
  replace R0 := hide R0
  replace Q0 := hide Q0
  clear ha hb
  cases h0 : Pl.rgOk r
  · have E : Hid (Pl.plcOk r z m k e = false) := hide (by simp [Pl.plcOk, h0])
    go_enter Try.func23, Try.ntmps23
    go_wp2_with (first | (go_at_call 17; refine (specGoodRegs _ r a b ca cb (HA.out.keptS K0.out) (HB.out.keptS K0.out) lx ly).mono ?_; rintro e w1 ⟨rfl, k1⟩; rw [h0]; have R1 := hide (R0.out.kept0 k1); have P1 := hide (P0.out.kept0 k1); have K1 := hide (K0.out.trans k1); have Q1 := hide (Q0.out.kept0 k1); have y0 := R1.out.cell (i := 0) rfl; have yf0 := R1.out.frozen 0; have y1 := R1.out.cell (i := 1) rfl; have yf1 := R1.out.frozen 1; have y2 := R1.out.cell (i := 2) rfl; have yf2 := R1.out.frozen 2; have y3 := R1.out.cell (i := 3) rfl; have yf3 := R1.out.frozen 3; have y4 := R1.out.cell (i := 4) rfl; have yf4 := R1.out.frozen 4; have y5 := R1.out.cell (i := 5) rfl; have yf5 := R1.out.frozen 5; have y6 := R1.out.cell (i := 6) rfl; have yf6 := R1.out.frozen 6; have y7 := R1.out.cell (i := 7) rfl; have yf7 := R1.out.frozen 7))
    refine bodyPost_ret (v := .tuple #[.agg #[.slice none 0 0, .slice none 0 0, .int .i64 0, .int .i64 0, .int .i64 0, .int .i64 0, .bool false, .bool false], .int .i64 0, .bool false]) ?_ rfl ?_
    · rw [results_cell_tmp2 rfl]; go_simp
    · refine ⟨none, none, 0, 0, ?_, ⟨.inl ⟨rfl, ?_⟩, .inl ⟨rfl, ?_⟩, ?_⟩, ?_⟩
      · simp [Pl.plcR, Pl.plcV, E.out, Pl.rgNo]
      · simp [Pl.plcR, E.out, Pl.rgNo]
      · simp [Pl.plcR, E.out, Pl.rgNo]
      · intro g hg; simp [blk] at hg
      · exact (kept_set (kept_set (kept_set (kept_set (kept_set (kept_set (kept_set (kept_set K1.out _ _ _ (.inr (by omega))) _ _ _ (.inr (by omega))) _ _ _ (.inr (by omega))) _ _ _ (.inr (by omega))) _ _ _ (.inr (by omega))) _ _ _ (.inr (by omega))) _ _ _ (.inr (by omega))) _ _ _ (.inr (by omega)))
  · cases h1 : (decide (z = 1) || decide (z = 2))
    · have E : Hid (Pl.plcOk r z m k e = false) := hide (by unfold Pl.plcOk; rw [h0, h1]; rfl)
      go_enter Try.func23, Try.ntmps23
      go_wp2_with (first | (go_at_call 17; refine (specGoodRegs _ r a b ca cb (HA.out.keptS K0.out) (HB.out.keptS K0.out) lx ly).mono ?_; rintro e w1 ⟨rfl, k1⟩; rw [h0]; have R1 := hide (R0.out.kept0 k1); have P1 := hide (P0.out.kept0 k1); have K1 := hide (K0.out.trans k1); have Q1 := hide (Q0.out.kept0 k1); have y0 := R1.out.cell (i := 0) rfl; have yf0 := R1.out.frozen 0; have y1 := R1.out.cell (i := 1) rfl; have yf1 := R1.out.frozen 1; have y2 := R1.out.cell (i := 2) rfl; have yf2 := R1.out.frozen 2; have y3 := R1.out.cell (i := 3) rfl; have yf3 := R1.out.frozen 3; have y4 := R1.out.cell (i := 4) rfl; have yf4 := R1.out.frozen 4; have y5 := R1.out.cell (i := 5) rfl; have yf5 := R1.out.frozen 5; have y6 := R1.out.cell (i := 6) rfl; have yf6 := R1.out.frozen 6; have y7 := R1.out.cell (i := 7) rfl; have yf7 := R1.out.frozen 7; have z0 := Q1.out.cell (i := 0) rfl; have z1 := Q1.out.cell (i := 1) rfl; have z2 := Q1.out.cell (i := 2) rfl) | (go_at_call 49; refine (specSize _ _).mono ?_; rintro e w' ⟨rfl, hw⟩; have hw2 := hw.symm; clear hw; subst hw2; rw [h1]))
      refine bodyPost_ret (v := .tuple #[.agg #[.slice none 0 0, .slice none 0 0, .int .i64 0, .int .i64 0, .int .i64 0, .int .i64 0, .bool false, .bool false], .int .i64 0, .bool false]) ?_ rfl ?_
      · rw [results_cell_tmp2 rfl]; go_simp
      · refine ⟨none, none, 0, 0, ?_, ⟨.inl ⟨rfl, ?_⟩, .inl ⟨rfl, ?_⟩, ?_⟩, ?_⟩
        · simp [Pl.plcR, Pl.plcV, E.out, Pl.rgNo]
        · simp [Pl.plcR, E.out, Pl.rgNo]
        · simp [Pl.plcR, E.out, Pl.rgNo]
        · intro g hg; simp [blk] at hg
        · exact (kept_set (kept_set (kept_set (kept_set (kept_set (kept_set (kept_set (kept_set K1.out _ _ _ (.inr (by omega))) _ _ _ (.inr (by omega))) _ _ _ (.inr (by omega))) _ _ _ (.inr (by omega))) _ _ _ (.inr (by omega))) _ _ _ (.inr (by omega))) _ _ _ (.inr (by omega))) _ _ _ (.inr (by omega)))
    · cases h2 : Pl.opOk m k e
      · have E : Hid (Pl.plcOk r z m k e = false) := hide (by unfold Pl.plcOk; rw [h0, h1, h2]; rfl)
        go_enter Try.func23, Try.ntmps23
        go_wp2_with (first | (go_at_call 17; refine (specGoodRegs _ r a b ca cb (HA.out.keptS K0.out) (HB.out.keptS K0.out) lx ly).mono ?_; rintro e w1 ⟨rfl, k1⟩; rw [h0]; have R1 := hide (R0.out.kept0 k1); have P1 := hide (P0.out.kept0 k1); have K1 := hide (K0.out.trans k1); have Q1 := hide (Q0.out.kept0 k1); have z0 := Q1.out.cell (i := 0) rfl; have z1 := Q1.out.cell (i := 1) rfl; have z2 := Q1.out.cell (i := 2) rfl) | (go_at_call 49; refine (specSize _ _).mono ?_; rintro e w' ⟨rfl, hw⟩; have hw2 := hw.symm; clear hw; subst hw2; rw [h1]) | (go_at_call 20; refine (specGoodOperand _ m k e).mono ?_; rintro r9 w2 ⟨rfl, k2⟩; rw [h2]; have R2 := hide (R1.out.kept0 k2); have P2 := hide (P1.out.kept0 k2); have K2 := hide (K1.out.trans k2); have Q2 := hide (Q1.out.kept0 k2); have y0 := R2.out.cell (i := 0) rfl; have yf0 := R2.out.frozen 0; have y1 := R2.out.cell (i := 1) rfl; have yf1 := R2.out.frozen 1; have y2 := R2.out.cell (i := 2) rfl; have yf2 := R2.out.frozen 2; have y3 := R2.out.cell (i := 3) rfl; have yf3 := R2.out.frozen 3; have y4 := R2.out.cell (i := 4) rfl; have yf4 := R2.out.frozen 4; have y5 := R2.out.cell (i := 5) rfl; have yf5 := R2.out.frozen 5; have y6 := R2.out.cell (i := 6) rfl; have yf6 := R2.out.frozen 6; have y7 := R2.out.cell (i := 7) rfl; have yf7 := R2.out.frozen 7; have zz0 := Q2.out.cell (i := 0) rfl; have zz1 := Q2.out.cell (i := 1) rfl; have zz2 := Q2.out.cell (i := 2) rfl))
        refine bodyPost_ret (v := .tuple #[.agg #[.slice none 0 0, .slice none 0 0, .int .i64 0, .int .i64 0, .int .i64 0, .int .i64 0, .bool false, .bool false], .int .i64 0, .bool false]) ?_ rfl ?_
        · rw [results_cell_tmp2 rfl]; go_simp
        · refine ⟨none, none, 0, 0, ?_, ⟨.inl ⟨rfl, ?_⟩, .inl ⟨rfl, ?_⟩, ?_⟩, ?_⟩
          · simp [Pl.plcR, Pl.plcV, E.out, Pl.rgNo]
          · simp [Pl.plcR, E.out, Pl.rgNo]
          · simp [Pl.plcR, E.out, Pl.rgNo]
          · intro g hg; simp [blk] at hg
          · exact (kept_set (kept_set (kept_set (kept_set (kept_set (kept_set (kept_set (kept_set K2.out _ _ _ (.inr (by omega))) _ _ _ (.inr (by omega))) _ _ _ (.inr (by omega))) _ _ _ (.inr (by omega))) _ _ _ (.inr (by omega))) _ _ _ (.inr (by omega))) _ _ _ (.inr (by omega))) _ _ _ (.inr (by omega)))
      · cases h3 : (m == 0)
        · cases h4 : (m == 1)
          · cases h5 : (m == 7)
            · have E : Hid (Pl.plcOk r z m k e = true) := hide (by unfold Pl.plcOk; rw [h0, h1, h2, h3, h4, h5]; rfl)
              have HG := hide (Pl.good_of h0)
              obtain ⟨k0, k3, x0, x1, hmm⟩ : 0 ≤ k ∧ k ≤ 3 ∧ 0 ≤ e ∧ e ≤ 65535 ∧ (m = 2 ∨ m = 3 ∨ m = 4 ∨ m = 5 ∨ m = 6) := by
                simp [Pl.opOk, Pl.modeOk, Pl.within, Pl.wordOk] at h2
                simp at h3 h4 h5
                omega
              obtain ⟨Z, hZ⟩ : ∃ Z, Z = Pl.placeR r z m k e := ⟨_, rfl⟩
              obtain ⟨V, hV⟩ : ∃ V, V = Pl.placeV r z m k e := ⟨_, rfl⟩
              have EZ : Hid (Pl.plcR r z m k e = Z) := hide (by rw [hZ]; simp [Pl.plcR, E.out])
              have EV : Hid (Pl.plcV r z m k e = V) := hide (by rw [hV]; simp [Pl.plcV, E.out])
              have HZ := hide hZ
              have HV := hide hV
              clear hZ hV
              go_enter Try.func23, Try.ntmps23
              go_upto_region 3 with (first | (go_at_call 17; refine (specGoodRegs _ r a b ca cb (HA.out.keptS K0.out) (HB.out.keptS K0.out) lx ly).mono ?_; rintro e w1 ⟨rfl, k1⟩; rw [h0]; have R1 := hide (R0.out.kept0 k1); have P1 := hide (P0.out.kept0 k1); have K1 := hide (K0.out.trans k1); have Q1 := hide (Q0.out.kept0 k1); have z0 := Q1.out.cell (i := 0) rfl; have z1 := Q1.out.cell (i := 1) rfl; have z2 := Q1.out.cell (i := 2) rfl) | (go_at_call 49; refine (specSize _ _).mono ?_; rintro e w' ⟨rfl, hw⟩; have hw2 := hw.symm; clear hw; subst hw2; rw [h1]) | (go_at_call 20; refine (specGoodOperand _ m k e).mono ?_; rintro r9 w2 ⟨rfl, k2⟩; rw [h2]; have R2 := hide (R1.out.kept0 k2); have P2 := hide (P1.out.kept0 k2); have K2 := hide (K1.out.trans k2); have Q2 := hide (Q1.out.kept0 k2); have zz0 := Q2.out.cell (i := 0) rfl; have zz1 := Q2.out.cell (i := 1) rfl; have zz2 := Q2.out.cell (i := 2) rfl))
              clear z0 z1 z2 zz0 zz1 zz2
              go_cut [9, 10, 40, 41, 42, 43, 44, 45, 46, 47] (fun pp vv _ _ _ _ _ _ _ _ W => ∃ (Q : World) (a3 b3 : Option Addr) (c3 d3 lo hi B : Nat), Q = W ∧ pp = .pointer (some ⟨B, 0, none⟩) ∧ vv = .int .i64 V ∧ Blk W B #[.slice a3 (Z).xs.length c3, .slice b3 (Z).ys.length d3, .int .i64 (Z).o, .int .i64 (Z).p, .int .i64 (Z).f, .int .i64 (Z).m, .bool (Z).s, .bool (Z).t] 24 ∧ RegAt W lo hi Z a3 b3 ∧ w2.heap.size ≤ lo ∧ hi ≤ W.heap.size ∧ w2.heap.size ≤ B ∧ Kept 0 0 w2 W)
              case first =>
                refine wp_region_inv2 (fun A0 l A W => ∃ (a3 b3 : Option Addr) (c3 d3 lo hi B : Nat), FR [41, 42, 43, 44, 45, 40, 46, 47, 9, 10] A0 A ∧ Once l 0 (A.tmps[41]? = some (.agg #[.slice a r.xs.length ca, .slice b r.ys.length cb, .int .i64 r.o, .int .i64 r.p, .int .i64 r.f, .int .i64 r.m, .bool r.s, .bool r.t])) ∧ Once l 1 (A.tmps[42]? = some (.agg #[.slice a3 r.xs.length c3, .slice b3 r.ys.length d3, .int .i64 r.o, .int .i64 r.p, .int .i64 r.f, .int .i64 r.m, .bool r.s, .bool r.t]) ∧ w2.heap.size ≤ lo ∧ hi ≤ W.heap.size ∧ (l.getD 4 true = false → RegAt W lo hi r a3 b3)) ∧ Once l 2 (A.tmps[43]? = some (.int .i64 z)) ∧ Once l 3 (A.tmps[44]? = some (.agg #[.int .i64 m, .int .i64 k, .int .i64 e])) ∧ Once l 4 (l.getD 1 true = true ∧ A.tmps[45]? = some (.tuple #[.agg #[.slice a3 (Z).xs.length c3, .slice b3 (Z).ys.length d3, .int .i64 (Z).o, .int .i64 (Z).p, .int .i64 (Z).f, .int .i64 (Z).m, .bool (Z).s, .bool (Z).t], .int .i64 V]) ∧ RegAt W lo hi Z a3 b3) ∧ Once l 5 (l.getD 4 true = true ∧ A.tmps[40]? = some (.tuple #[.agg #[.slice a3 (Z).xs.length c3, .slice b3 (Z).ys.length d3, .int .i64 (Z).o, .int .i64 (Z).p, .int .i64 (Z).f, .int .i64 (Z).m, .bool (Z).s, .bool (Z).t], .int .i64 V])) ∧ Once l 6 (l.getD 4 true = true ∧ A.tmps[46]? = some (.agg #[.slice a3 (Z).xs.length c3, .slice b3 (Z).ys.length d3, .int .i64 (Z).o, .int .i64 (Z).p, .int .i64 (Z).f, .int .i64 (Z).m, .bool (Z).s, .bool (Z).t])) ∧ Once l 7 (l.getD 4 true = true ∧ A.tmps[47]? = some (.int .i64 V)) ∧ Once l 8 (A.tmps[9]? = some (.pointer (some ⟨B, 0, none⟩)) ∧ w2.heap.size ≤ B ∧ B < W.heap.size ∧ (l.getD 9 true = false → Blk W B #[.slice none 0 0, .slice none 0 0, .int .i64 0, .int .i64 0, .int .i64 0, .int .i64 0, .bool false, .bool false] 24)) ∧ Once l 9 (l.getD 4 true = true ∧ l.getD 8 true = true ∧ Blk W B #[.slice a3 (Z).xs.length c3, .slice b3 (Z).ys.length d3, .int .i64 (Z).o, .int .i64 (Z).p, .int .i64 (Z).f, .int .i64 (Z).m, .bool (Z).s, .bool (Z).t] 24) ∧ Once l 10 (l.getD 4 true = true ∧ A.tmps[10]? = some (.int .i64 V)) ∧ (l.getD 1 true = true → l.getD 8 true = true → B < lo ∨ hi ≤ B) ∧ Kept 0 0 w2 W) (by kernel_rfl) (by kernel_rfl) ?start ?fin ?step
                case start => exact ⟨none, none, 0, 0, 0, 0, 0, FR.refl _ _, once_start (by decide), once_start (by decide), once_start (by decide), once_start (by decide), once_start (by decide), once_start (by decide), once_start (by decide), once_start (by decide), once_start (by decide), once_start (by decide), once_start (by decide), fun h => (by rw [start_at (by decide)] at h; cases h), kept_drew (Kept.refl _ _ _)⟩
                case fin =>
                  intro l A W h hl
                  obtain ⟨a3, b3, c3, d3, lo, hi, B, hFR, o_ld, o_own, o_mz, o_lo, o_F, o_mv, o_e0, o_e1, o_al, o_st, o_a1, hsep, hK⟩ := h
                  have q_own := o_own (hl 1 (by decide))
                  have q_F := o_F (hl 4 (by decide))
                  have q_al := o_al (hl 8 (by decide))
                  have q_st := o_st (hl 9 (by decide))
                  have q_a1 := o_a1 (hl 10 (by decide))
                  obtain ⟨_, g1⟩ := q_a1
                  obtain ⟨g0, q1, q2, _⟩ := q_al
                  obtain ⟨_, q3, q4, _⟩ := q_own
                  obtain ⟨_, _, q5⟩ := q_F
                  obtain ⟨_, _, q8⟩ := q_st
                  have QQ := hide (And.intro q8 (And.intro q5 (And.intro q3 (And.intro q4 (And.intro q1 hK)))))
                  have hc := hFR.chain
                  simp only [List.foldl] at hc
                  rw [getD_of g0, getD_of g1] at hc
                  clear hl hK hsep q1 q2 q3 q4 q5 q8 hFR g0 g1 o_ld o_own o_mz o_lo o_F o_mv o_e0 o_e1 o_al o_st o_a1
                  generalize A.tmps.getD 41 undef = s41 at hc
                  generalize A.tmps.getD 42 undef = s42 at hc
                  generalize A.tmps.getD 43 undef = s43 at hc
                  generalize A.tmps.getD 44 undef = s44 at hc
                  generalize A.tmps.getD 45 undef = s45 at hc
                  generalize A.tmps.getD 40 undef = s40 at hc
                  generalize A.tmps.getD 46 undef = s46 at hc
                  generalize A.tmps.getD 47 undef = s47 at hc
                  subst hc
                  go_simp
                  go_step
                  go_meet
                  case rel => exact ⟨_, a3, b3, c3, d3, lo, hi, B, rfl, rfl, rfl, QQ.out⟩
                case step =>
                  intro l A W i hI hm
                  obtain ⟨a3, b3, c3, d3, lo, hi, B, hFR, o_ld, o_own, o_mz, o_lo, o_F, o_mv, o_e0, o_e1, o_al, o_st, o_a1, hsep, hK⟩ := hI
                  obtain ⟨hi1, hi2⟩ := ready_new hm
                  have hsz : Hid (47 < A.tmps.size) := hide (by rw [hFR.size]; simp)
                  have m1 : A.tmps[3]? = some (.pointer (some ⟨w.heap.size, 0, none⟩)) := (hFR.out 3 (by decide)).trans rfl
                  have m2 : A.tmps[5]? = some (.pointer (some ⟨w.heap.size + 1, 0, none⟩)) := (hFR.out 5 (by decide)).trans rfl
                  have m3 : A.tmps[1]? = some (.int .i64 z) := (hFR.out 1 (by decide)).trans rfl
                  rcases i with _ | _ | _ | _ | _ | _ | _ | _ | _ | _ | _ | i
                  · have x0 := (P2.out.kept0 hK).cell (i := 0) rfl
                    have x1 := (P2.out.kept0 hK).cell (i := 1) rfl
                    have x2 := (P2.out.kept0 hK).cell (i := 2) rfl
                    have x3 := (P2.out.kept0 hK).cell (i := 3) rfl
                    have x4 := (P2.out.kept0 hK).cell (i := 4) rfl
                    have x5 := (P2.out.kept0 hK).cell (i := 5) rfl
                    have x6 := (P2.out.kept0 hK).cell (i := 6) rfl
                    have x7 := (P2.out.kept0 hK).cell (i := 7) rfl
                    refine wpOp_step rfl (fun KK hK2 => ?_)
                    go_simp
                    exact hK2 (A.put (some 41) (.agg #[.slice a r.xs.length ca, .slice b r.ys.length cb, .int .i64 r.o, .int .i64 r.p, .int .i64 r.f, .int .i64 r.m, .bool r.s, .bool r.t])) _ ⟨a3, b3, c3, d3, lo, hi, B, hFR.put (by decide) _, .now (put_eq (by have hz := hsz.out; omega)), o_own.past (by decide) (fun h => ⟨((put_ne (by decide)).trans h.1), h.2.1, h.2.2.1, fun e => h.2.2.2 (by rwa [getD_set_ne (by decide)] at e)⟩), o_mz.past (by decide) (fun h => ((put_ne (by decide)).trans h)), o_lo.past (by decide) (fun h => ((put_ne (by decide)).trans h)), o_F.past (by decide) (fun h => ⟨getD_mono h.1, ((put_ne (by decide)).trans h.2.1), h.2.2⟩), o_mv.past (by decide) (fun h => ⟨getD_mono h.1, ((put_ne (by decide)).trans h.2)⟩), o_e0.past (by decide) (fun h => ⟨getD_mono h.1, ((put_ne (by decide)).trans h.2)⟩), o_e1.past (by decide) (fun h => ⟨getD_mono h.1, ((put_ne (by decide)).trans h.2)⟩), o_al.past (by decide) (fun h => ⟨((put_ne (by decide)).trans h.1), h.2.1, h.2.2.1, fun e => h.2.2.2 (by rwa [getD_set_ne (by decide)] at e)⟩), o_st.past (by decide) (fun h => ⟨getD_mono h.1, getD_mono h.2.1, h.2.2⟩), o_a1.past (by decide) (fun h => ⟨getD_mono h.1, ((put_ne (by decide)).trans h.2)⟩), fun h9 h8 => hsep (by rwa [getD_set_ne (by decide)] at h9) (by rwa [getD_set_ne (by decide)] at h8), hK⟩
                  · have e1 := o_ld (ready_dep hm 0 (by kernel_rfl))
                    refine wpOp_step rfl (fun KK hK2 => ?_)
                    go_simp
                    refine (specOwn W r a b ca cb (HA.out.keptS (K2.out.trans hK)) (HB.out.keptS (K2.out.trans hK)) lx ly).mono ?_
                    rintro e y ⟨a5, b5, c5, d5, rfl, hR5, kd⟩
                    go_simp
                    exact hK2 (A.put (some 42) (.agg #[.slice a5 r.xs.length c5, .slice b5 r.ys.length d5, .int .i64 r.o, .int .i64 r.p, .int .i64 r.f, .int .i64 r.m, .bool r.s, .bool r.t])) _ ⟨a5, b5, c5, d5, W.heap.size, y.heap.size, B, hFR.put (by decide) _, o_ld.past (by decide) (fun h => ((put_ne (by decide)).trans h)), .now ⟨(put_eq (by have hz := hsz.out; omega)), hK.size, Nat.le_refl _, fun _ => RegAt.of hR5⟩, o_mz.past (by decide) (fun h => ((put_ne (by decide)).trans h)), o_lo.past (by decide) (fun h => ((put_ne (by decide)).trans h)), o_F.past (by decide) (fun h => by have h2 := h.1; rw [hi2] at h2; cases h2), o_mv.past (by decide) (fun h => by have h2 := (o_F h.1).1; rw [hi2] at h2; cases h2), o_e0.past (by decide) (fun h => by have h2 := (o_F h.1).1; rw [hi2] at h2; cases h2), o_e1.past (by decide) (fun h => by have h2 := (o_F h.1).1; rw [hi2] at h2; cases h2), o_al.past (by decide) (fun h => ⟨((put_ne (by decide)).trans h.1), h.2.1, Nat.lt_of_lt_of_le h.2.2.1 kd.size, fun e => (h.2.2.2 (by rwa [getD_set_ne (by decide)] at e)).kept0 kd⟩), o_st.past (by decide) (fun h => by have h2 := (o_F h.1).1; rw [hi2] at h2; cases h2), o_a1.past (by decide) (fun h => by have h2 := (o_F h.1).1; rw [hi2] at h2; cases h2), fun _ h8 => .inl (o_al (by rwa [getD_set_ne (by decide)] at h8)).2.2.1, (hK.trans kd)⟩
                  · refine wpOp_step rfl (fun KK hK2 => ?_)
                    go_simp
                    exact hK2 (A.put (some 43) (.int .i64 z)) _ ⟨a3, b3, c3, d3, lo, hi, B, hFR.put (by decide) _, o_ld.past (by decide) (fun h => ((put_ne (by decide)).trans h)), o_own.past (by decide) (fun h => ⟨((put_ne (by decide)).trans h.1), h.2.1, h.2.2.1, fun e => h.2.2.2 (by rwa [getD_set_ne (by decide)] at e)⟩), .now (put_eq (by have hz := hsz.out; omega)), o_lo.past (by decide) (fun h => ((put_ne (by decide)).trans h)), o_F.past (by decide) (fun h => ⟨getD_mono h.1, ((put_ne (by decide)).trans h.2.1), h.2.2⟩), o_mv.past (by decide) (fun h => ⟨getD_mono h.1, ((put_ne (by decide)).trans h.2)⟩), o_e0.past (by decide) (fun h => ⟨getD_mono h.1, ((put_ne (by decide)).trans h.2)⟩), o_e1.past (by decide) (fun h => ⟨getD_mono h.1, ((put_ne (by decide)).trans h.2)⟩), o_al.past (by decide) (fun h => ⟨((put_ne (by decide)).trans h.1), h.2.1, h.2.2.1, fun e => h.2.2.2 (by rwa [getD_set_ne (by decide)] at e)⟩), o_st.past (by decide) (fun h => ⟨getD_mono h.1, getD_mono h.2.1, h.2.2⟩), o_a1.past (by decide) (fun h => ⟨getD_mono h.1, ((put_ne (by decide)).trans h.2)⟩), fun h9 h8 => hsep (by rwa [getD_set_ne (by decide)] at h9) (by rwa [getD_set_ne (by decide)] at h8), hK⟩
                  · have x0 := (Q2.out.kept0 hK).cell (i := 0) rfl
                    have x1 := (Q2.out.kept0 hK).cell (i := 1) rfl
                    have x2 := (Q2.out.kept0 hK).cell (i := 2) rfl
                    refine wpOp_step rfl (fun KK hK2 => ?_)
                    go_simp
                    exact hK2 (A.put (some 44) (.agg #[.int .i64 m, .int .i64 k, .int .i64 e])) _ ⟨a3, b3, c3, d3, lo, hi, B, hFR.put (by decide) _, o_ld.past (by decide) (fun h => ((put_ne (by decide)).trans h)), o_own.past (by decide) (fun h => ⟨((put_ne (by decide)).trans h.1), h.2.1, h.2.2.1, fun e => h.2.2.2 (by rwa [getD_set_ne (by decide)] at e)⟩), o_mz.past (by decide) (fun h => ((put_ne (by decide)).trans h)), .now (put_eq (by have hz := hsz.out; omega)), o_F.past (by decide) (fun h => ⟨getD_mono h.1, ((put_ne (by decide)).trans h.2.1), h.2.2⟩), o_mv.past (by decide) (fun h => ⟨getD_mono h.1, ((put_ne (by decide)).trans h.2)⟩), o_e0.past (by decide) (fun h => ⟨getD_mono h.1, ((put_ne (by decide)).trans h.2)⟩), o_e1.past (by decide) (fun h => ⟨getD_mono h.1, ((put_ne (by decide)).trans h.2)⟩), o_al.past (by decide) (fun h => ⟨((put_ne (by decide)).trans h.1), h.2.1, h.2.2.1, fun e => h.2.2.2 (by rwa [getD_set_ne (by decide)] at e)⟩), o_st.past (by decide) (fun h => ⟨getD_mono h.1, getD_mono h.2.1, h.2.2⟩), o_a1.past (by decide) (fun h => ⟨getD_mono h.1, ((put_ne (by decide)).trans h.2)⟩), fun h9 h8 => hsep (by rwa [getD_set_ne (by decide)] at h9) (by rwa [getD_set_ne (by decide)] at h8), hK⟩
                  · have hown := ready_dep hm 1 (by kernel_rfl)
                    obtain ⟨e1, n1, n2, hRA⟩ := o_own hown
                    replace hRA := hRA hi2
                    have e2 := o_mz (ready_dep hm 2 (by kernel_rfl))
                    have e3 := o_lo (ready_dep hm 3 (by kernel_rfl))
                    refine wpOp_step rfl (fun KK hK2 => ?_)
                    go_simp
                    have CN := specPlace W lo hi r a3 b3 c3 d3 z m k e hRA n2 HG.out k0 k3 x0 x1 hmm
                    rw [← HZ.out, ← HV.out] at CN
                    refine CN.mono ?_
                    clear CN
                    rintro e y ⟨rfl, hR5, kd⟩
                    go_simp
                    exact hK2 (A.put (some 45) (.tuple #[.agg #[.slice a3 (Z).xs.length c3, .slice b3 (Z).ys.length d3, .int .i64 (Z).o, .int .i64 (Z).p, .int .i64 (Z).f, .int .i64 (Z).m, .bool (Z).s, .bool (Z).t], .int .i64 V])) _ ⟨a3, b3, c3, d3, lo, hi, B, hFR.put (by decide) _, o_ld.past (by decide) (fun h => ((put_ne (by decide)).trans h)), o_own.past (by decide) (fun h => ⟨((put_ne (by decide)).trans h.1), h.2.1, Nat.le_trans h.2.2.1 kd.size, fun e => (by rw [getD_set_eq] at e; cases e)⟩), o_mz.past (by decide) (fun h => ((put_ne (by decide)).trans h)), o_lo.past (by decide) (fun h => ((put_ne (by decide)).trans h)), .now ⟨getD_mono hown, (put_eq (by have hz := hsz.out; omega)), hR5⟩, o_mv.past (by decide) (fun h => by have h2 := h.1; rw [hi2] at h2; cases h2), o_e0.past (by decide) (fun h => by have h2 := h.1; rw [hi2] at h2; cases h2), o_e1.past (by decide) (fun h => by have h2 := h.1; rw [hi2] at h2; cases h2), fun e => (by have hal : l.getD 8 true = true := (by rwa [getD_set_ne (by decide)] at e); have h := o_al hal; have h9 := hsep hown hal; exact ⟨(put_ne (by decide)).trans h.1, h.2.1, Nat.lt_of_lt_of_le h.2.2.1 kd.size, fun e => (h.2.2.2 (by rwa [getD_set_ne (by decide)] at e)).kept kd (by omega)⟩), o_st.past (by decide) (fun h => by have h2 := h.1; rw [hi2] at h2; cases h2), o_a1.past (by decide) (fun h => by have h2 := h.1; rw [hi2] at h2; cases h2), fun h9 h8 => hsep (by rwa [getD_set_ne (by decide)] at h9) (by rwa [getD_set_ne (by decide)] at h8), (kept_over hK kd n1)⟩
                  · have h4 := ready_dep hm 4 (by kernel_rfl)
                    have e1 := (o_F h4).2.1
                    refine wpOp_step rfl (fun KK hK2 => ?_)
                    go_simp
                    exact hK2 (A.put (some 40) (.tuple #[.agg #[.slice a3 (Z).xs.length c3, .slice b3 (Z).ys.length d3, .int .i64 (Z).o, .int .i64 (Z).p, .int .i64 (Z).f, .int .i64 (Z).m, .bool (Z).s, .bool (Z).t], .int .i64 V])) _ ⟨a3, b3, c3, d3, lo, hi, B, hFR.put (by decide) _, o_ld.past (by decide) (fun h => ((put_ne (by decide)).trans h)), o_own.past (by decide) (fun h => ⟨((put_ne (by decide)).trans h.1), h.2.1, h.2.2.1, fun e => h.2.2.2 (by rwa [getD_set_ne (by decide)] at e)⟩), o_mz.past (by decide) (fun h => ((put_ne (by decide)).trans h)), o_lo.past (by decide) (fun h => ((put_ne (by decide)).trans h)), o_F.past (by decide) (fun h => ⟨getD_mono h.1, ((put_ne (by decide)).trans h.2.1), h.2.2⟩), .now ⟨getD_mono h4, (put_eq (by have hz := hsz.out; omega))⟩, o_e0.past (by decide) (fun h => ⟨getD_mono h.1, ((put_ne (by decide)).trans h.2)⟩), o_e1.past (by decide) (fun h => ⟨getD_mono h.1, ((put_ne (by decide)).trans h.2)⟩), o_al.past (by decide) (fun h => ⟨((put_ne (by decide)).trans h.1), h.2.1, h.2.2.1, fun e => h.2.2.2 (by rwa [getD_set_ne (by decide)] at e)⟩), o_st.past (by decide) (fun h => ⟨getD_mono h.1, getD_mono h.2.1, h.2.2⟩), o_a1.past (by decide) (fun h => ⟨getD_mono h.1, ((put_ne (by decide)).trans h.2)⟩), fun h9 h8 => hsep (by rwa [getD_set_ne (by decide)] at h9) (by rwa [getD_set_ne (by decide)] at h8), hK⟩
                  · obtain ⟨h4, e1⟩ := o_mv (ready_dep hm 5 (by kernel_rfl))
                    refine wpOp_step rfl (fun KK hK2 => ?_)
                    go_simp
                    exact hK2 (A.put (some 46) (.agg #[.slice a3 (Z).xs.length c3, .slice b3 (Z).ys.length d3, .int .i64 (Z).o, .int .i64 (Z).p, .int .i64 (Z).f, .int .i64 (Z).m, .bool (Z).s, .bool (Z).t])) _ ⟨a3, b3, c3, d3, lo, hi, B, hFR.put (by decide) _, o_ld.past (by decide) (fun h => ((put_ne (by decide)).trans h)), o_own.past (by decide) (fun h => ⟨((put_ne (by decide)).trans h.1), h.2.1, h.2.2.1, fun e => h.2.2.2 (by rwa [getD_set_ne (by decide)] at e)⟩), o_mz.past (by decide) (fun h => ((put_ne (by decide)).trans h)), o_lo.past (by decide) (fun h => ((put_ne (by decide)).trans h)), o_F.past (by decide) (fun h => ⟨getD_mono h.1, ((put_ne (by decide)).trans h.2.1), h.2.2⟩), o_mv.past (by decide) (fun h => ⟨getD_mono h.1, ((put_ne (by decide)).trans h.2)⟩), .now ⟨getD_mono h4, (put_eq (by have hz := hsz.out; omega))⟩, o_e1.past (by decide) (fun h => ⟨getD_mono h.1, ((put_ne (by decide)).trans h.2)⟩), o_al.past (by decide) (fun h => ⟨((put_ne (by decide)).trans h.1), h.2.1, h.2.2.1, fun e => h.2.2.2 (by rwa [getD_set_ne (by decide)] at e)⟩), o_st.past (by decide) (fun h => ⟨getD_mono h.1, getD_mono h.2.1, h.2.2⟩), o_a1.past (by decide) (fun h => ⟨getD_mono h.1, ((put_ne (by decide)).trans h.2)⟩), fun h9 h8 => hsep (by rwa [getD_set_ne (by decide)] at h9) (by rwa [getD_set_ne (by decide)] at h8), hK⟩
                  · obtain ⟨h4, e1⟩ := o_mv (ready_dep hm 5 (by kernel_rfl))
                    refine wpOp_step rfl (fun KK hK2 => ?_)
                    go_simp
                    exact hK2 (A.put (some 47) (.int .i64 V)) _ ⟨a3, b3, c3, d3, lo, hi, B, hFR.put (by decide) _, o_ld.past (by decide) (fun h => ((put_ne (by decide)).trans h)), o_own.past (by decide) (fun h => ⟨((put_ne (by decide)).trans h.1), h.2.1, h.2.2.1, fun e => h.2.2.2 (by rwa [getD_set_ne (by decide)] at e)⟩), o_mz.past (by decide) (fun h => ((put_ne (by decide)).trans h)), o_lo.past (by decide) (fun h => ((put_ne (by decide)).trans h)), o_F.past (by decide) (fun h => ⟨getD_mono h.1, ((put_ne (by decide)).trans h.2.1), h.2.2⟩), o_mv.past (by decide) (fun h => ⟨getD_mono h.1, ((put_ne (by decide)).trans h.2)⟩), o_e0.past (by decide) (fun h => ⟨getD_mono h.1, ((put_ne (by decide)).trans h.2)⟩), .now ⟨getD_mono h4, (put_eq (by have hz := hsz.out; omega))⟩, o_al.past (by decide) (fun h => ⟨((put_ne (by decide)).trans h.1), h.2.1, h.2.2.1, fun e => h.2.2.2 (by rwa [getD_set_ne (by decide)] at e)⟩), o_st.past (by decide) (fun h => ⟨getD_mono h.1, getD_mono h.2.1, h.2.2⟩), o_a1.past (by decide) (fun h => ⟨getD_mono h.1, ((put_ne (by decide)).trans h.2)⟩), fun h9 h8 => hsep (by rwa [getD_set_ne (by decide)] at h9) (by rwa [getD_set_ne (by decide)] at h8), hK⟩
                  · have kd := kept_alloc W (.cells #[.slice none 0 0, .slice none 0 0, .int .i64 0, .int .i64 0, .int .i64 0, .int .i64 0, .bool false, .bool false] 24)
                    refine wpOp_step rfl (fun KK hK2 => ?_)
                    go_simp
                    exact hK2 (A.put (some 9) (.pointer (some ⟨W.heap.size, 0, none⟩))) _ ⟨a3, b3, c3, d3, lo, hi, W.heap.size, hFR.put (by decide) _, o_ld.past (by decide) (fun h => ((put_ne (by decide)).trans h)), o_own.past (by decide) (fun h => ⟨((put_ne (by decide)).trans h.1), h.2.1, Nat.le_trans h.2.2.1 kd.size, fun e => (h.2.2.2 (by rwa [getD_set_ne (by decide)] at e)).kept kd (by omega)⟩), o_mz.past (by decide) (fun h => ((put_ne (by decide)).trans h)), o_lo.past (by decide) (fun h => ((put_ne (by decide)).trans h)), o_F.past (by decide) (fun h => ⟨getD_mono h.1, ((put_ne (by decide)).trans h.2.1), h.2.2.kept kd (by omega)⟩), o_mv.past (by decide) (fun h => ⟨getD_mono h.1, ((put_ne (by decide)).trans h.2)⟩), o_e0.past (by decide) (fun h => ⟨getD_mono h.1, ((put_ne (by decide)).trans h.2)⟩), o_e1.past (by decide) (fun h => ⟨getD_mono h.1, ((put_ne (by decide)).trans h.2)⟩), .now ⟨(put_eq (by have hz := hsz.out; omega)), hK.size, by simp, fun _ => Blk.new _ _ _⟩, o_st.past (by decide) (fun h => by have h2 := h.2.1; rw [hi2] at h2; cases h2), o_a1.past (by decide) (fun h => ⟨getD_mono h.1, ((put_ne (by decide)).trans h.2)⟩), fun h9 _ => .inr (o_own (by rwa [getD_set_ne (by decide)] at h9)).2.2.1, (hK.trans kd)⟩
                  · obtain ⟨h4, e1⟩ := o_e0 (ready_dep hm 6 (by kernel_rfl))
                    have h9 := ready_dep hm 8 (by kernel_rfl)
                    obtain ⟨e2, n1, n2, hB⟩ := o_al h9
                    replace hB := hB hi2
                    obtain ⟨h5, e3, q1⟩ := o_F h4
                    obtain ⟨e4, q4, q5, _⟩ := o_own h5
                    have hs := hsep h5 h9
                    have x0 := hB.cell (i := 0) rfl
                    have f0 := hB.frozen 0
                    have x1 := hB.cell (i := 1) rfl
                    have f1 := hB.frozen 1
                    have x2 := hB.cell (i := 2) rfl
                    have f2 := hB.frozen 2
                    have x3 := hB.cell (i := 3) rfl
                    have f3 := hB.frozen 3
                    have x4 := hB.cell (i := 4) rfl
                    have f4 := hB.frozen 4
                    have x5 := hB.cell (i := 5) rfl
                    have f5 := hB.frozen 5
                    have x6 := hB.cell (i := 6) rfl
                    have f6 := hB.frozen 6
                    have x7 := hB.cell (i := 7) rfl
                    have f7 := hB.frozen 7
                    refine wpOp_step rfl (fun KK hK2 => ?_)
                    go_simp
                    exact hK2 A _ ⟨a3, b3, c3, d3, lo, hi, B, hFR, o_ld.past (by decide) (fun h => h), .now ⟨e4, q4, by simpa using q5, fun e => (by rw [getD_set_ne (by decide), h4] at e; cases e)⟩, o_mz.past (by decide) (fun h => h), o_lo.past (by decide) (fun h => h), .now ⟨getD_mono h5, e3, ((((((((q1.set _ _ _ (by omega)).set _ _ _ (by omega)).set _ _ _ (by omega)).set _ _ _ (by omega)).set _ _ _ (by omega)).set _ _ _ (by omega)).set _ _ _ (by omega)).set _ _ _ (by omega))⟩, o_mv.past (by decide) (fun h => ⟨getD_mono h.1, h.2⟩), o_e0.past (by decide) (fun h => ⟨getD_mono h.1, h.2⟩), o_e1.past (by decide) (fun h => ⟨getD_mono h.1, h.2⟩), .now ⟨e2, n1, by simpa using n2, fun e => (by rw [getD_set_eq] at e; cases e)⟩, .now ⟨getD_mono h4, getD_mono h9, ((((((((hB.set 0 _).set 1 _).set 2 _).set 3 _).set 4 _).set 5 _).set 6 _).set 7 _)⟩, o_a1.past (by decide) (fun h => ⟨getD_mono h.1, h.2⟩), fun _ _ => hs, (kept_set (kept_set (kept_set (kept_set (kept_set (kept_set (kept_set (kept_set hK _ _ _ (.inr n1)) _ _ _ (.inr n1)) _ _ _ (.inr n1)) _ _ _ (.inr n1)) _ _ _ (.inr n1)) _ _ _ (.inr n1)) _ _ _ (.inr n1)) _ _ _ (.inr n1))⟩
                  · obtain ⟨h4, e1⟩ := o_e1 (ready_dep hm 7 (by kernel_rfl))
                    refine wpOp_step rfl (fun KK hK2 => ?_)
                    go_simp
                    exact hK2 (A.put (some 10) (.int .i64 V)) _ ⟨a3, b3, c3, d3, lo, hi, B, hFR.put (by decide) _, o_ld.past (by decide) (fun h => ((put_ne (by decide)).trans h)), o_own.past (by decide) (fun h => ⟨((put_ne (by decide)).trans h.1), h.2.1, h.2.2.1, fun e => h.2.2.2 (by rwa [getD_set_ne (by decide)] at e)⟩), o_mz.past (by decide) (fun h => ((put_ne (by decide)).trans h)), o_lo.past (by decide) (fun h => ((put_ne (by decide)).trans h)), o_F.past (by decide) (fun h => ⟨getD_mono h.1, ((put_ne (by decide)).trans h.2.1), h.2.2⟩), o_mv.past (by decide) (fun h => ⟨getD_mono h.1, ((put_ne (by decide)).trans h.2)⟩), o_e0.past (by decide) (fun h => ⟨getD_mono h.1, ((put_ne (by decide)).trans h.2)⟩), o_e1.past (by decide) (fun h => ⟨getD_mono h.1, ((put_ne (by decide)).trans h.2)⟩), o_al.past (by decide) (fun h => ⟨((put_ne (by decide)).trans h.1), h.2.1, h.2.2.1, fun e => h.2.2.2 (by rwa [getD_set_ne (by decide)] at e)⟩), o_st.past (by decide) (fun h => ⟨getD_mono h.1, getD_mono h.2.1, h.2.2⟩), .now ⟨getD_mono h4, (put_eq (by have hz := hsz.out; omega))⟩, fun h9 h8 => hsep (by rwa [getD_set_ne (by decide)] at h9) (by rwa [getD_set_ne (by decide)] at h8), hK⟩
                  · simp at hi1
                    omega
              case rest =>
              obtain ⟨w4, a3, b3, c3, d3, lo, hi, B, hw, rfl, rfl, hBB, hRR, n4, n5, n6, k4⟩ := hcut
              subst hw
              have R4 := hide (R2.out.kept0 k4)
              have K4 := hide (K2.out.trans k4)
              have nR := R2.out.lt
              have BB := hide hBB
              have s2 := K2.out.size
              have y0 := R4.out.cell (i := 0) rfl
              have yf0 := R4.out.frozen 0
              have y1 := R4.out.cell (i := 1) rfl
              have yf1 := R4.out.frozen 1
              have y2 := R4.out.cell (i := 2) rfl
              have yf2 := R4.out.frozen 2
              have y3 := R4.out.cell (i := 3) rfl
              have yf3 := R4.out.frozen 3
              have y4 := R4.out.cell (i := 4) rfl
              have yf4 := R4.out.frozen 4
              have y5 := R4.out.cell (i := 5) rfl
              have yf5 := R4.out.frozen 5
              have y6 := R4.out.cell (i := 6) rfl
              have yf6 := R4.out.frozen 6
              have y7 := R4.out.cell (i := 7) rfl
              have yf7 := R4.out.frozen 7
              have bb0 := BB.out.cell (i := 0) rfl
              have bb1 := BB.out.cell (i := 1) rfl
              have bb2 := BB.out.cell (i := 2) rfl
              have bb3 := BB.out.cell (i := 3) rfl
              have bb4 := BB.out.cell (i := 4) rfl
              have bb5 := BB.out.cell (i := 5) rfl
              have bb6 := BB.out.cell (i := 6) rfl
              have bb7 := BB.out.cell (i := 7) rfl
              clear k4 hBB
              go_wp2_with fail
              refine bodyPost_ret (v := .tuple #[.agg #[.slice a3 (Z).xs.length c3, .slice b3 (Z).ys.length d3, .int .i64 (Z).o, .int .i64 (Z).p, .int .i64 (Z).f, .int .i64 (Z).m, .bool (Z).s, .bool (Z).t], .int .i64 V, .bool true]) ?_ rfl ?_
              · rw [results_cell_tmp2 rfl]; go_simp
              · refine ⟨a3, b3, c3, d3, ?_, ?_, ?_⟩
                · rw [EZ.out, EV.out, E.out]
                · rw [EZ.out]; exact RegIn.base (RegAt.toIn ((((((((hRR.set _ _ _ (.inr (by omega))).set _ _ _ (.inr (by omega))).set _ _ _ (.inr (by omega))).set _ _ _ (.inr (by omega))).set _ _ _ (.inr (by omega))).set _ _ _ (.inr (by omega))).set _ _ _ (.inr (by omega))).set _ _ _ (.inr (by omega))) (by simp; omega)) (by omega)
                · exact (kept_set (kept_set (kept_set (kept_set (kept_set (kept_set (kept_set (kept_set K4.out _ _ _ (.inr (by omega))) _ _ _ (.inr (by omega))) _ _ _ (.inr (by omega))) _ _ _ (.inr (by omega))) _ _ _ (.inr (by omega))) _ _ _ (.inr (by omega))) _ _ _ (.inr (by omega))) _ _ _ (.inr (by omega)))
            · have E : Hid (Pl.plcOk r z m k e = false) := hide (by unfold Pl.plcOk; rw [h0, h1, h2, h3, h4, h5]; rfl)
              go_enter Try.func23, Try.ntmps23
              go_wp2_with (first | (go_at_call 17; refine (specGoodRegs _ r a b ca cb (HA.out.keptS K0.out) (HB.out.keptS K0.out) lx ly).mono ?_; rintro e w1 ⟨rfl, k1⟩; rw [h0]; have R1 := hide (R0.out.kept0 k1); have P1 := hide (P0.out.kept0 k1); have K1 := hide (K0.out.trans k1); have Q1 := hide (Q0.out.kept0 k1); have z0 := Q1.out.cell (i := 0) rfl; have z1 := Q1.out.cell (i := 1) rfl; have z2 := Q1.out.cell (i := 2) rfl) | (go_at_call 49; refine (specSize _ _).mono ?_; rintro e w' ⟨rfl, hw⟩; have hw2 := hw.symm; clear hw; subst hw2; rw [h1]) | (go_at_call 20; refine (specGoodOperand _ m k e).mono ?_; rintro r9 w2 ⟨rfl, k2⟩; rw [h2]; have R2 := hide (R1.out.kept0 k2); have P2 := hide (P1.out.kept0 k2); have K2 := hide (K1.out.trans k2); have Q2 := hide (Q1.out.kept0 k2); have y0 := R2.out.cell (i := 0) rfl; have yf0 := R2.out.frozen 0; have y1 := R2.out.cell (i := 1) rfl; have yf1 := R2.out.frozen 1; have y2 := R2.out.cell (i := 2) rfl; have yf2 := R2.out.frozen 2; have y3 := R2.out.cell (i := 3) rfl; have yf3 := R2.out.frozen 3; have y4 := R2.out.cell (i := 4) rfl; have yf4 := R2.out.frozen 4; have y5 := R2.out.cell (i := 5) rfl; have yf5 := R2.out.frozen 5; have y6 := R2.out.cell (i := 6) rfl; have yf6 := R2.out.frozen 6; have y7 := R2.out.cell (i := 7) rfl; have yf7 := R2.out.frozen 7; have zz0 := Q2.out.cell (i := 0) rfl; have zz1 := Q2.out.cell (i := 1) rfl; have zz2 := Q2.out.cell (i := 2) rfl))
              refine bodyPost_ret (v := .tuple #[.agg #[.slice none 0 0, .slice none 0 0, .int .i64 0, .int .i64 0, .int .i64 0, .int .i64 0, .bool false, .bool false], .int .i64 0, .bool false]) ?_ rfl ?_
              · rw [results_cell_tmp2 rfl]; go_simp
              · refine ⟨none, none, 0, 0, ?_, ⟨.inl ⟨rfl, ?_⟩, .inl ⟨rfl, ?_⟩, ?_⟩, ?_⟩
                · simp [Pl.plcR, Pl.plcV, E.out, Pl.rgNo]
                · simp [Pl.plcR, E.out, Pl.rgNo]
                · simp [Pl.plcR, E.out, Pl.rgNo]
                · intro g hg; simp [blk] at hg
                · exact (kept_set (kept_set (kept_set (kept_set (kept_set (kept_set (kept_set (kept_set K2.out _ _ _ (.inr (by omega))) _ _ _ (.inr (by omega))) _ _ _ (.inr (by omega))) _ _ _ (.inr (by omega))) _ _ _ (.inr (by omega))) _ _ _ (.inr (by omega))) _ _ _ (.inr (by omega))) _ _ _ (.inr (by omega)))
          · have E : Hid (Pl.plcOk r z m k e = false) := hide (by unfold Pl.plcOk; rw [h0, h1, h2, h3, h4]; rfl)
            go_enter Try.func23, Try.ntmps23
            go_wp2_with (first | (go_at_call 17; refine (specGoodRegs _ r a b ca cb (HA.out.keptS K0.out) (HB.out.keptS K0.out) lx ly).mono ?_; rintro e w1 ⟨rfl, k1⟩; rw [h0]; have R1 := hide (R0.out.kept0 k1); have P1 := hide (P0.out.kept0 k1); have K1 := hide (K0.out.trans k1); have Q1 := hide (Q0.out.kept0 k1); have z0 := Q1.out.cell (i := 0) rfl; have z1 := Q1.out.cell (i := 1) rfl; have z2 := Q1.out.cell (i := 2) rfl) | (go_at_call 49; refine (specSize _ _).mono ?_; rintro e w' ⟨rfl, hw⟩; have hw2 := hw.symm; clear hw; subst hw2; rw [h1]) | (go_at_call 20; refine (specGoodOperand _ m k e).mono ?_; rintro r9 w2 ⟨rfl, k2⟩; rw [h2]; have R2 := hide (R1.out.kept0 k2); have P2 := hide (P1.out.kept0 k2); have K2 := hide (K1.out.trans k2); have Q2 := hide (Q1.out.kept0 k2); have y0 := R2.out.cell (i := 0) rfl; have yf0 := R2.out.frozen 0; have y1 := R2.out.cell (i := 1) rfl; have yf1 := R2.out.frozen 1; have y2 := R2.out.cell (i := 2) rfl; have yf2 := R2.out.frozen 2; have y3 := R2.out.cell (i := 3) rfl; have yf3 := R2.out.frozen 3; have y4 := R2.out.cell (i := 4) rfl; have yf4 := R2.out.frozen 4; have y5 := R2.out.cell (i := 5) rfl; have yf5 := R2.out.frozen 5; have y6 := R2.out.cell (i := 6) rfl; have yf6 := R2.out.frozen 6; have y7 := R2.out.cell (i := 7) rfl; have yf7 := R2.out.frozen 7; have zz0 := Q2.out.cell (i := 0) rfl; have zz1 := Q2.out.cell (i := 1) rfl; have zz2 := Q2.out.cell (i := 2) rfl))
            refine bodyPost_ret (v := .tuple #[.agg #[.slice none 0 0, .slice none 0 0, .int .i64 0, .int .i64 0, .int .i64 0, .int .i64 0, .bool false, .bool false], .int .i64 0, .bool false]) ?_ rfl ?_
            · rw [results_cell_tmp2 rfl]; go_simp
            · refine ⟨none, none, 0, 0, ?_, ⟨.inl ⟨rfl, ?_⟩, .inl ⟨rfl, ?_⟩, ?_⟩, ?_⟩
              · simp [Pl.plcR, Pl.plcV, E.out, Pl.rgNo]
              · simp [Pl.plcR, E.out, Pl.rgNo]
              · simp [Pl.plcR, E.out, Pl.rgNo]
              · intro g hg; simp [blk] at hg
              · exact (kept_set (kept_set (kept_set (kept_set (kept_set (kept_set (kept_set (kept_set K2.out _ _ _ (.inr (by omega))) _ _ _ (.inr (by omega))) _ _ _ (.inr (by omega))) _ _ _ (.inr (by omega))) _ _ _ (.inr (by omega))) _ _ _ (.inr (by omega))) _ _ _ (.inr (by omega))) _ _ _ (.inr (by omega)))
        · have E : Hid (Pl.plcOk r z m k e = false) := hide (by unfold Pl.plcOk; rw [h0, h1, h2, h3]; rfl)
          go_enter Try.func23, Try.ntmps23
          go_wp2_with (first | (go_at_call 17; refine (specGoodRegs _ r a b ca cb (HA.out.keptS K0.out) (HB.out.keptS K0.out) lx ly).mono ?_; rintro e w1 ⟨rfl, k1⟩; rw [h0]; have R1 := hide (R0.out.kept0 k1); have P1 := hide (P0.out.kept0 k1); have K1 := hide (K0.out.trans k1); have Q1 := hide (Q0.out.kept0 k1); have z0 := Q1.out.cell (i := 0) rfl; have z1 := Q1.out.cell (i := 1) rfl; have z2 := Q1.out.cell (i := 2) rfl) | (go_at_call 49; refine (specSize _ _).mono ?_; rintro e w' ⟨rfl, hw⟩; have hw2 := hw.symm; clear hw; subst hw2; rw [h1]) | (go_at_call 20; refine (specGoodOperand _ m k e).mono ?_; rintro r9 w2 ⟨rfl, k2⟩; rw [h2]; have R2 := hide (R1.out.kept0 k2); have P2 := hide (P1.out.kept0 k2); have K2 := hide (K1.out.trans k2); have Q2 := hide (Q1.out.kept0 k2); have y0 := R2.out.cell (i := 0) rfl; have yf0 := R2.out.frozen 0; have y1 := R2.out.cell (i := 1) rfl; have yf1 := R2.out.frozen 1; have y2 := R2.out.cell (i := 2) rfl; have yf2 := R2.out.frozen 2; have y3 := R2.out.cell (i := 3) rfl; have yf3 := R2.out.frozen 3; have y4 := R2.out.cell (i := 4) rfl; have yf4 := R2.out.frozen 4; have y5 := R2.out.cell (i := 5) rfl; have yf5 := R2.out.frozen 5; have y6 := R2.out.cell (i := 6) rfl; have yf6 := R2.out.frozen 6; have y7 := R2.out.cell (i := 7) rfl; have yf7 := R2.out.frozen 7; have zz0 := Q2.out.cell (i := 0) rfl; have zz1 := Q2.out.cell (i := 1) rfl; have zz2 := Q2.out.cell (i := 2) rfl))
          refine bodyPost_ret (v := .tuple #[.agg #[.slice none 0 0, .slice none 0 0, .int .i64 0, .int .i64 0, .int .i64 0, .int .i64 0, .bool false, .bool false], .int .i64 0, .bool false]) ?_ rfl ?_
          · rw [results_cell_tmp2 rfl]; go_simp
          · refine ⟨none, none, 0, 0, ?_, ⟨.inl ⟨rfl, ?_⟩, .inl ⟨rfl, ?_⟩, ?_⟩, ?_⟩
            · simp [Pl.plcR, Pl.plcV, E.out, Pl.rgNo]
            · simp [Pl.plcR, E.out, Pl.rgNo]
            · simp [Pl.plcR, E.out, Pl.rgNo]
            · intro g hg; simp [blk] at hg
            · exact (kept_set (kept_set (kept_set (kept_set (kept_set (kept_set (kept_set (kept_set K2.out _ _ _ (.inr (by omega))) _ _ _ (.inr (by omega))) _ _ _ (.inr (by omega))) _ _ _ (.inr (by omega))) _ _ _ (.inr (by omega))) _ _ _ (.inr (by omega))) _ _ _ (.inr (by omega))) _ _ _ (.inr (by omega)))
end Go.Proofs.Ytikmelkobbbgnaa
