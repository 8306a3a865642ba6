/- What the program's WithStatus answers, for every argument. -/
import Derived.Test.YtikmelkobbbgnaaImplRegE
namespace Go.Proofs.Ytikmelkobbbgnaa
open Go.RowKit
set_option linter.unusedVariables false
set_option maxRecDepth 20000 in
set_option maxHeartbeats 8000000 in
theorem implWithStatus (w : World) (d : Pl.Rg) (a b : Option Addr) (ca cb : Nat) (n : Int) (ha : Came w a d.xs) (hb : Came w b d.ys) (lx : d.xs.length ≤ 2000000) (ly : d.ys.length ≤ 2000000) (wfd : Pl.WfR d) (wfn : (Lit.int .i64 n).wf = true) :
    Calls Try.prog 28 #[.agg #[.slice a d.xs.length ca, .slice b d.ys.length cb, .int .i64 d.o, .int .i64 d.p, .int .i64 d.f, .int .i64 d.m, .bool d.s, .bool d.t], .int .i64 n] w fun e' w' => ∃ (a' b' : Option Addr) (ca' cb' : Nat), e' = .returned (.tuple #[.agg #[.slice a' (Pl.wsR d n).xs.length ca', .slice b' (Pl.wsR d n).ys.length cb', .int .i64 (Pl.wsR d n).o, .int .i64 (Pl.wsR d n).p, .int .i64 (Pl.wsR d n).f, .int .i64 (Pl.wsR d n).m, .bool (Pl.wsR d n).s, .bool (Pl.wsR d n).t], .bool (Pl.wsOk d n)]) ∧ RegIn w' w.heap.size (Pl.wsR d n) a' b' ∧ Kept 0 0 w w' := by
  have HA := hide ha
  have HB := hide hb
  have K0 := hide (kept_new (kept_alloc w (.cells #[.slice a d.xs.length ca, .slice b d.ys.length cb, .int .i64 d.o, .int .i64 d.p, .int .i64 d.f, .int .i64 d.m, .bool d.s, .bool d.t] 24)) (.cells #[.slice none 0 0, .slice none 0 0, .int .i64 0, .int .i64 0, .int .i64 0, .int .i64 0, .bool false, .bool false] 24))
  have P0 := hide ((Blk.new w #[.slice a d.xs.length ca, .slice b d.ys.length cb, .int .i64 d.o, .int .i64 d.p, .int .i64 d.f, .int .i64 d.m, .bool d.s, .bool d.t] 24).alloc (.cells #[.slice none 0 0, .slice none 0 0, .int .i64 0, .int .i64 0, .int .i64 0, .int .i64 0, .bool false, .bool false] 24))
  have R0 := Blk.new (w.alloc (.cells #[.slice a d.xs.length ca, .slice b d.ys.length cb, .int .i64 d.o, .int .i64 d.p, .int .i64 d.f, .int .i64 d.m, .bool d.s, .bool d.t] 24)) #[.slice none 0 0, .slice none 0 0, .int .i64 0, .int .i64 0, .int .i64 0, .int .i64 0, .bool false, .bool false] 24
  simp only [World.size_alloc] at R0
  replace R0 := hide R0
  clear ha hb
  cases h0 : Pl.rgOk d
  · have E : Hid (Pl.wsOk d n = false) := hide (by simp [Pl.wsOk, Pl.within, h0])
    go_enter Try.func28, Try.ntmps28
    go_wp2_with (first | (go_at_call 19; refine (implGoodRegs _ d a b ca cb (HA.out.keptS K0.out) (HB.out.keptS K0.out) lx ly wfd).mono ?_; rintro e w1 ⟨rfl, k1⟩; rw [h0]; have R1 := hide (R0.out.kept0 k1); have P1 := hide (P0.out.kept0 k1); have K1 := hide (K0.out.trans k1); have y0 := R1.out.cell (i := 0) rfl; have fy0 := R1.out.frozen 0; have y1 := R1.out.cell (i := 1) rfl; have fy1 := R1.out.frozen 1; have y2 := R1.out.cell (i := 2) rfl; have fy2 := R1.out.frozen 2; have y3 := R1.out.cell (i := 3) rfl; have fy3 := R1.out.frozen 3; have y4 := R1.out.cell (i := 4) rfl; have fy4 := R1.out.frozen 4; have y5 := R1.out.cell (i := 5) rfl; have fy5 := R1.out.frozen 5; have y6 := R1.out.cell (i := 6) rfl; have fy6 := R1.out.frozen 6; have y7 := R1.out.cell (i := 7) rfl; have fy7 := R1.out.frozen 7))
    refine bodyPost_ret (v := .tuple #[.agg #[.slice none 0 0, .slice none 0 0, .int .i64 0, .int .i64 0, .int .i64 0, .int .i64 0, .bool false, .bool false], .bool false]) ?_ rfl ?_
    · rw [results_cell_tmp rfl]; go_simp
    · refine ⟨none, none, 0, 0, ?_, ⟨.inl ⟨rfl, ?_⟩, .inl ⟨rfl, ?_⟩, ?_⟩, ?_⟩
      · simp [Pl.wsR, E.out, Pl.rgNo]
      · simp [Pl.wsR, E.out, Pl.rgNo]
      · simp [Pl.wsR, E.out, Pl.rgNo]
      · intro g hg; simp [blk] at hg
      · exact (kept_set (kept_set (kept_set (kept_set (kept_set (kept_set (kept_set (kept_set K1.out _ _ _ (.inr (by omega))) _ _ _ (.inr (by omega))) _ _ _ (.inr (by omega))) _ _ _ (.inr (by omega))) _ _ _ (.inr (by omega))) _ _ _ (.inr (by omega))) _ _ _ (.inr (by omega))) _ _ _ (.inr (by omega)))
  · cases h1 : decide (n < 0)
    · cases h2 : decide (1023 < n)
      · obtain ⟨n0, n1⟩ : 0 ≤ n ∧ n ≤ 1023 := by simp at h1 h2; omega
        have E : Hid (Pl.wsOk d n = true) := hide (by simp [Pl.wsOk, Pl.within, h0, n0, n1])
        have EZ : Hid (Pl.wsR d n = Pl.withR d n) := hide (by simp [Pl.wsR, E.out])
        have HG := hide (Pl.good_of h0)
        have LZ : Hid ((Pl.withR d n).xs.length = 4 ∧ (Pl.withR d n).ys.length = 4) := hide (by have g := Pl.good_of h0; unfold Pl.withR; split <;> simp [g.d4, g.a4])
        obtain ⟨Z, hZ⟩ : ∃ Z, Z = Pl.withR d n := ⟨_, rfl⟩
        rw [← hZ] at EZ LZ
        have HZ := hide hZ
        clear hZ
        go_enter Try.func28, Try.ntmps28
        go_wp2_with (first | (go_at_call 19; refine (implGoodRegs _ d a b ca cb (HA.out.keptS K0.out) (HB.out.keptS K0.out) lx ly wfd).mono ?_; rintro e w1 ⟨rfl, k1⟩; rw [h0]; have R1 := hide (R0.out.kept0 k1); have P1 := hide (P0.out.kept0 k1); have K1 := hide (K0.out.trans k1); have y0 := P1.out.cell (i := 0) rfl; have y1 := P1.out.cell (i := 1) rfl; have y2 := P1.out.cell (i := 2) rfl; have y3 := P1.out.cell (i := 3) rfl; have y4 := P1.out.cell (i := 4) rfl; have y5 := P1.out.cell (i := 5) rfl; have y6 := P1.out.cell (i := 6) rfl; have y7 := P1.out.cell (i := 7) rfl) | (go_at_call 53; refine (bankOf _ d a b ca cb (HA.out.keptS K1.out).1 (HB.out.keptS K1.out).1 HG.out.d4 HG.out.a4).mono ?_; rintro e w2 ⟨rfl, k2⟩; have K2 := hide (K1.out.trans k2); have R2 := hide (R1.out.kept0 k2); have P2 := hide (P1.out.kept0 k2)) | (refine wpList_store_row rfl 55 (.tmp 6) (.tmp 20) rfl w2.heap.size (bkR d) rfl rfl 55 _ (Blk.new w2 #[.int .i64 0, .int .i64 0, .int .i64 0, .int .i64 0, .int .i64 0, .int .i64 0, .int .i64 0, .int .i64 0, .int .i64 0, .int .i64 0, .int .i64 0, .int .i64 0, .bool false, .bool false] 55) (bkR_info d) rfl (bkR_one d) ?_; obtain ⟨X, hX⟩ : ∃ X : World, X = (w2.alloc (.cells #[.int .i64 0, .int .i64 0, .int .i64 0, .int .i64 0, .int .i64 0, .int .i64 0, .int .i64 0, .int .i64 0, .int .i64 0, .int .i64 0, .int .i64 0, .int .i64 0, .bool false, .bool false] 55)).setRow w2.heap.size (bkR d) := ⟨_, rfl⟩; have BX : Hid (Blk X w2.heap.size (bkR d) 55) := hide (by rw [hX]; exact (Blk.new w2 #[.int .i64 0, .int .i64 0, .int .i64 0, .int .i64 0, .int .i64 0, .int .i64 0, .int .i64 0, .int .i64 0, .int .i64 0, .int .i64 0, .int .i64 0, .int .i64 0, .bool false, .bool false] 55).setRow); have KX : Hid (Kept 0 0 w2 X) := hide (by rw [hX]; exact kept_setRow (kept_alloc w2 _) _ _ (Nat.le_refl _)); rw [← hX]; clear hX; have RX := hide (R2.out.kept0 KX.out); have PX := hide (P2.out.kept0 KX.out)) | (go_at_call 58; have CN := setStatus X w2.heap.size d n BX.out HG.out n0 n1; rw [← HZ.out] at CN; refine CN.mono ?_; clear CN; rintro e w3 ⟨rfl, hB3, k3⟩; have B3 := hide hB3; have R3 := hide (RX.out.kept k3 (by have := R2.out.lt; omega)); have K3 := hide (kept_over (K2.out.trans KX.out) k3 K2.out.size); clear hB3 k3) | (refine wpList_load_row rfl 55 (.tmp 6) rfl w2.heap.size rfl 55 (bkR Z) (0, 0) _ B3.out Try.underlying55 rfl (bkR_info Z) ?_) | (go_at_call 33; refine (bankRegs Z _ LZ.out.1 LZ.out.2).mono ?_; rintro e w4 ⟨a3, b3, c3, d3, rfl, hR4, k4⟩; have RR := hide hR4; have R4 := hide (R3.out.kept0 k4); have K4 := hide (K3.out.trans k4); have s3 := R3.out.lt; have q0 := R4.out.cell (i := 0) rfl; have fq0 := R4.out.frozen 0; have q1 := R4.out.cell (i := 1) rfl; have fq1 := R4.out.frozen 1; have q2 := R4.out.cell (i := 2) rfl; have fq2 := R4.out.frozen 2; have q3 := R4.out.cell (i := 3) rfl; have fq3 := R4.out.frozen 3; have q4 := R4.out.cell (i := 4) rfl; have fq4 := R4.out.frozen 4; have q5 := R4.out.cell (i := 5) rfl; have fq5 := R4.out.frozen 5; have q6 := R4.out.cell (i := 6) rfl; have fq6 := R4.out.frozen 6; have q7 := R4.out.cell (i := 7) rfl; have fq7 := R4.out.frozen 7; clear hR4 k4))
        have s0 := R0.out.lt
        have S3 := K3.out.size
        refine bodyPost_ret (v := .tuple #[.agg #[.slice a3 Z.xs.length c3, .slice b3 Z.ys.length d3, .int .i64 Z.o, .int .i64 Z.p, .int .i64 Z.f, .int .i64 Z.m, .bool Z.s, .bool Z.t], .bool true]) ?_ rfl ?_
        · rw [results_cell_tmp rfl]; go_simp
        · refine ⟨a3, b3, c3, d3, ?_, ?_, ?_⟩
          · rw [EZ.out, E.out]
          · rw [EZ.out]; exact RegIn.base ((((((((RR.out.set _ _ _ (by omega)).set _ _ _ (by omega)).set _ _ _ (by omega)).set _ _ _ (by omega)).set _ _ _ (by omega)).set _ _ _ (by omega)).set _ _ _ (by omega)).set _ _ _ (by omega)) (by omega)
          · exact (kept_set (kept_set (kept_set (kept_set (kept_set (kept_set (kept_set (kept_set K4.out _ _ _ (.inr (by omega))) _ _ _ (.inr (by omega))) _ _ _ (.inr (by omega))) _ _ _ (.inr (by omega))) _ _ _ (.inr (by omega))) _ _ _ (.inr (by omega))) _ _ _ (.inr (by omega))) _ _ _ (.inr (by omega)))
      · have E : Hid (Pl.wsOk d n = false) := hide (by simp at h2; simp [Pl.wsOk, Pl.within, h0]; omega)
        go_enter Try.func28, Try.ntmps28
        go_wp2_with (first | (go_at_call 19; refine (implGoodRegs _ d a b ca cb (HA.out.keptS K0.out) (HB.out.keptS K0.out) lx ly wfd).mono ?_; rintro e w1 ⟨rfl, k1⟩; rw [h0]; have R1 := hide (R0.out.kept0 k1); have P1 := hide (P0.out.kept0 k1); have K1 := hide (K0.out.trans k1); have y0 := R1.out.cell (i := 0) rfl; have fy0 := R1.out.frozen 0; have y1 := R1.out.cell (i := 1) rfl; have fy1 := R1.out.frozen 1; have y2 := R1.out.cell (i := 2) rfl; have fy2 := R1.out.frozen 2; have y3 := R1.out.cell (i := 3) rfl; have fy3 := R1.out.frozen 3; have y4 := R1.out.cell (i := 4) rfl; have fy4 := R1.out.frozen 4; have y5 := R1.out.cell (i := 5) rfl; have fy5 := R1.out.frozen 5; have y6 := R1.out.cell (i := 6) rfl; have fy6 := R1.out.frozen 6; have y7 := R1.out.cell (i := 7) rfl; have fy7 := R1.out.frozen 7))
        refine bodyPost_ret (v := .tuple #[.agg #[.slice none 0 0, .slice none 0 0, .int .i64 0, .int .i64 0, .int .i64 0, .int .i64 0, .bool false, .bool false], .bool false]) ?_ rfl ?_
        · rw [results_cell_tmp rfl]; go_simp
        · refine ⟨none, none, 0, 0, ?_, ⟨.inl ⟨rfl, ?_⟩, .inl ⟨rfl, ?_⟩, ?_⟩, ?_⟩
          · simp [Pl.wsR, E.out, Pl.rgNo]
          · simp [Pl.wsR, E.out, Pl.rgNo]
          · simp [Pl.wsR, E.out, Pl.rgNo]
          · intro g hg; simp [blk] at hg
          · exact (kept_set (kept_set (kept_set (kept_set (kept_set (kept_set (kept_set (kept_set K1.out _ _ _ (.inr (by omega))) _ _ _ (.inr (by omega))) _ _ _ (.inr (by omega))) _ _ _ (.inr (by omega))) _ _ _ (.inr (by omega))) _ _ _ (.inr (by omega))) _ _ _ (.inr (by omega))) _ _ _ (.inr (by omega)))
    · have E : Hid (Pl.wsOk d n = false) := hide (by simp at h1; simp [Pl.wsOk, Pl.within, h0]; omega)
      go_enter Try.func28, Try.ntmps28
      go_wp2_with (first | (go_at_call 19; refine (implGoodRegs _ d a b ca cb (HA.out.keptS K0.out) (HB.out.keptS K0.out) lx ly wfd).mono ?_; rintro e w1 ⟨rfl, k1⟩; rw [h0]; have R1 := hide (R0.out.kept0 k1); have P1 := hide (P0.out.kept0 k1); have K1 := hide (K0.out.trans k1); have y0 := R1.out.cell (i := 0) rfl; have fy0 := R1.out.frozen 0; have y1 := R1.out.cell (i := 1) rfl; have fy1 := R1.out.frozen 1; have y2 := R1.out.cell (i := 2) rfl; have fy2 := R1.out.frozen 2; have y3 := R1.out.cell (i := 3) rfl; have fy3 := R1.out.frozen 3; have y4 := R1.out.cell (i := 4) rfl; have fy4 := R1.out.frozen 4; have y5 := R1.out.cell (i := 5) rfl; have fy5 := R1.out.frozen 5; have y6 := R1.out.cell (i := 6) rfl; have fy6 := R1.out.frozen 6; have y7 := R1.out.cell (i := 7) rfl; have fy7 := R1.out.frozen 7))
      refine bodyPost_ret (v := .tuple #[.agg #[.slice none 0 0, .slice none 0 0, .int .i64 0, .int .i64 0, .int .i64 0, .int .i64 0, .bool false, .bool false], .bool false]) ?_ rfl ?_
      · rw [results_cell_tmp rfl]; go_simp
      · refine ⟨none, none, 0, 0, ?_, ⟨.inl ⟨rfl, ?_⟩, .inl ⟨rfl, ?_⟩, ?_⟩, ?_⟩
        · simp [Pl.wsR, E.out, Pl.rgNo]
        · simp [Pl.wsR, E.out, Pl.rgNo]
        · simp [Pl.wsR, E.out, Pl.rgNo]
        · intro g hg; simp [blk] at hg
        · exact (kept_set (kept_set (kept_set (kept_set (kept_set (kept_set (kept_set (kept_set K1.out _ _ _ (.inr (by omega))) _ _ _ (.inr (by omega))) _ _ _ (.inr (by omega))) _ _ _ (.inr (by omega))) _ _ _ (.inr (by omega))) _ _ _ (.inr (by omega))) _ _ _ (.inr (by omega))) _ _ _ (.inr (by omega)))
end Go.Proofs.Ytikmelkobbbgnaa
