/- What the program's NewRegs and StatusOf answer, for every argument. -/
import Derived.Test.YtikmelkobbbgnaaImplRegE
namespace Go.Proofs.Ytikmelkobbbgnaa
open Go.RowKit
set_option linter.unusedVariables false
set_option maxHeartbeats 1000000 in
theorem implNewRegs (w : World) :
    Calls Try.prog 12 #[] w fun e w' => ∃ (a' b' : Option Addr) (ca' cb' : Nat), e = .returned (.agg #[.slice a' Pl.rgNew.xs.length ca', .slice b' Pl.rgNew.ys.length cb', .int .i64 Pl.rgNew.o, .int .i64 Pl.rgNew.p, .int .i64 Pl.rgNew.f, .int .i64 Pl.rgNew.m, .bool Pl.rgNew.s, .bool Pl.rgNew.t]) ∧ RegIn w' w.heap.size Pl.rgNew a' b' ∧ Kept 0 0 w w' := by
  have R0 := hide (Blk.new w #[.slice none 0 0, .slice none 0 0, .int .i64 0, .int .i64 0, .int .i64 0, .int .i64 0, .bool false, .bool false] 24)
  have K0 := hide (kept_alloc w (.cells #[.slice none 0 0, .slice none 0 0, .int .i64 0, .int .i64 0, .int .i64 0, .int .i64 0, .bool false, .bool false] 24))
  go_enter Try.func12, Try.ntmps12
  go_wp2_with (go_at_call 33; refine (bankRegs Pl.rgNew _ rfl rfl).mono ?_; rintro e w1 ⟨a3, b3, c3, d3, rfl, hR, k1⟩; have RR := hide hR; have R1 := hide (R0.out.kept0 k1); have K1 := hide (K0.out.trans k1); have q0 := R1.out.cell (i := 0) rfl; have fq0 := R1.out.frozen 0; have q1 := R1.out.cell (i := 1) rfl; have fq1 := R1.out.frozen 1; have q2 := R1.out.cell (i := 2) rfl; have fq2 := R1.out.frozen 2; have q3 := R1.out.cell (i := 3) rfl; have fq3 := R1.out.frozen 3; have q4 := R1.out.cell (i := 4) rfl; have fq4 := R1.out.frozen 4; have q5 := R1.out.cell (i := 5) rfl; have fq5 := R1.out.frozen 5; have q6 := R1.out.cell (i := 6) rfl; have fq6 := R1.out.frozen 6; have q7 := R1.out.cell (i := 7) rfl; have fq7 := R1.out.frozen 7; clear hR k1)
  have s0 := R0.out.lt
  have l1 := R1.out.lt
  refine bodyPost_ret (v := .agg #[.slice a3 Pl.rgNew.xs.length c3, .slice b3 Pl.rgNew.ys.length d3, .int .i64 Pl.rgNew.o, .int .i64 Pl.rgNew.p, .int .i64 Pl.rgNew.f, .int .i64 Pl.rgNew.m, .bool Pl.rgNew.s, .bool Pl.rgNew.t]) ?_ rfl ⟨a3, b3, c3, d3, rfl, ?_, ?_⟩
  · rw [results_one rfl]; go_simp
  · exact RegIn.base ((((((((RR.out.set _ _ _ (by simp)).set _ _ _ (by simp)).set _ _ _ (by simp)).set _ _ _ (by simp)).set _ _ _ (by simp)).set _ _ _ (by simp)).set _ _ _ (by simp)).set _ _ _ (by simp)) (by simp)
  · exact (kept_set (kept_set (kept_set (kept_set (kept_set (kept_set (kept_set (kept_set K1.out _ _ _ (.inr (by omega))) _ _ _ (.inr (by omega))) _ _ _ (.inr (by omega))) _ _ _ (.inr (by omega))) _ _ _ (.inr (by omega))) _ _ _ (.inr (by omega))) _ _ _ (.inr (by omega))) _ _ _ (.inr (by omega)))
theorem implStatusOf (w : World) (d : Pl.Rg) (a b : Option Addr) (ca cb : Nat) (ha : Came w a d.xs) (hb : Came w b d.ys) (lx : d.xs.length ≤ 2000000) (ly : d.ys.length ≤ 2000000) (wfd : Pl.WfR d) :
    Calls Try.prog 26 #[.agg #[.slice a d.xs.length ca, .slice b d.ys.length cb, .int .i64 d.o, .int .i64 d.p, .int .i64 d.f, .int .i64 d.m, .bool d.s, .bool d.t]] w fun e w' => e = .returned (.tuple #[.int .i64 (Pl.soV d), .bool (Pl.rgOk d)]) ∧ Kept 0 0 w w' := by
  have HA := hide ha
  have HB := hide hb
  have K0 := hide (kept_alloc w (.cells #[.slice a d.xs.length ca, .slice b d.ys.length cb, .int .i64 d.o, .int .i64 d.p, .int .i64 d.f, .int .i64 d.m, .bool d.s, .bool d.t] 24))
  have B0 := hide (Blk.new w #[.slice a d.xs.length ca, .slice b d.ys.length cb, .int .i64 d.o, .int .i64 d.p, .int .i64 d.f, .int .i64 d.m, .bool d.s, .bool d.t] 24)
  clear ha hb
  cases h1 : Pl.rgOk d
  · go_enter Try.func26, Try.ntmps26
    go_wp2_with (go_at_call 19; refine (implGoodRegs _ d a b ca cb (HA.out.keptS K0.out) (HB.out.keptS K0.out) lx ly wfd).mono ?_; rintro e w2 ⟨rfl, k2⟩; rw [h1])
    go_ret2
    exact ⟨rIB (by simp [Pl.soV, h1]) rfl, K0.out.trans k2⟩
  · have HG := hide (Pl.good_of h1)
    have EV : Hid (Pl.soV d = Pl.status d) := hide (by simp [Pl.soV, h1])
    go_enter Try.func26, Try.ntmps26
    go_wp2_with (first
      | (go_at_call 19; refine (implGoodRegs _ d a b ca cb (HA.out.keptS K0.out) (HB.out.keptS K0.out) lx ly wfd).mono ?_; rintro e w2 ⟨rfl, k2⟩; rw [h1]; have BL := B0.out.kept0 k2; have c0 := BL.cell (i := 0) rfl; have c1 := BL.cell (i := 1) rfl; have c2 := BL.cell (i := 2) rfl; have c3 := BL.cell (i := 3) rfl; have c4 := BL.cell (i := 4) rfl; have c5 := BL.cell (i := 5) rfl; have c6 := BL.cell (i := 6) rfl; have c7 := BL.cell (i := 7) rfl; clear BL)
      | (go_at_call 53; refine (bankOf _ d a b ca cb (HA.out.keptS (K0.out.trans k2)).1 (HB.out.keptS (K0.out.trans k2)).1 HG.out.d4 HG.out.a4).mono ?_; rintro e w3 ⟨rfl, k3⟩)
      | (go_at_call 56; refine (bankStatus d _ HG.out.f0 HG.out.f1 HG.out.m0 HG.out.m1).mono ?_; rintro e w4 ⟨rfl, k4⟩))
    go_ret2
    exact ⟨rIB EV.out.symm rfl, ((K0.out.trans k2).trans k3).trans k4⟩
end Go.Proofs.Ytikmelkobbbgnaa
