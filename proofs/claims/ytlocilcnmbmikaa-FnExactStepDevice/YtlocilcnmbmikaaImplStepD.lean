/- What the program's StepDevice answers, for every device and step. -/
import Derived.Test.YtlocilcnmbmikaaImplGoodD
import Derived.Test.YtlocilcnmbmikaaImplWork
import Derived.Test.YtlocilcnmbmikaaSpecDev6
import Derived.Deep.DeepCutAuto
namespace Go.Proofs.Ytlocilcnmbmikaa
open Go.RowKit Go.Conc
set_option linter.unusedVariables false

set_option maxRecDepth 20000 in
set_option maxHeartbeats 4000000 in
theorem implStepDevice (w : World) (d : Pl.Dev) (a b : Option Addr) (ca cb : Nat) (k p v : Int) (ha : Came w a d.xs) (hb : Came w b d.ys) (lx : d.xs.length ≤ 2000000) (ly : d.ys.length ≤ 2000000) (wfd : Pl.Wf d) (wfk : (Lit.int .i64 k).wf = true) (wfp : (Lit.int .i64 p).wf = true) (wfv : (Lit.int .i64 v).wf = true) :
    Calls Try.prog 21 #[.agg #[.int .i64 d.e, .int .i64 d.l, .bool d.r, .slice a d.xs.length ca, .slice b d.ys.length cb, .int .i64 d.t], .agg #[.int .i64 k, .int .i64 p, .int .i64 v]] w fun e w' => ∃ (a' b' : Option Addr) (ca' cb' : Nat), e = .returned (.tuple #[.agg #[.int .i64 (Pl.sdD d k p v).e, .int .i64 (Pl.sdD d k p v).l, .bool (Pl.sdD d k p v).r, .slice a' (Pl.sdD d k p v).xs.length ca', .slice b' (Pl.sdD d k p v).ys.length cb', .int .i64 (Pl.sdD d k p v).t], .int .i64 (Pl.sdV d k p v), .bool (Pl.sdOk d k p v)]) ∧ DevIn w' w.heap.size (Pl.sdD d k p v) a' b' ca' ∧ Kept 0 0 w w' := by
  have HA := hide ha
  have HB := hide hb
  have lo := (wf_int wfv).1
  have hi := (wf_int wfv).2
  have K0 := hide (kept_new (kept_new (kept_alloc w (.cells #[.int .i64 d.e, .int .i64 d.l, .bool d.r, .slice a d.xs.length ca, .slice b d.ys.length cb, .int .i64 d.t] 24)) (.cells #[.int .i64 k, .int .i64 p, .int .i64 v] 38)) (.cells #[.int .i64 0, .int .i64 0, .bool false, .slice none 0 0, .slice none 0 0, .int .i64 0] 24))
  have P0 := hide (((Blk.new w #[.int .i64 d.e, .int .i64 d.l, .bool d.r, .slice a d.xs.length ca, .slice b d.ys.length cb, .int .i64 d.t] 24).alloc (.cells #[.int .i64 k, .int .i64 p, .int .i64 v] 38)).alloc (.cells #[.int .i64 0, .int .i64 0, .bool false, .slice none 0 0, .slice none 0 0, .int .i64 0] 24))
  have R0 := Blk.new ((w.alloc (.cells #[.int .i64 d.e, .int .i64 d.l, .bool d.r, .slice a d.xs.length ca, .slice b d.ys.length cb, .int .i64 d.t] 24)).alloc (.cells #[.int .i64 k, .int .i64 p, .int .i64 v] 38)) #[.int .i64 0, .int .i64 0, .bool false, .slice none 0 0, .slice none 0 0, .int .i64 0] 24
  simp only [World.size_alloc] at R0
  replace R0 := hide R0
  have X0 := (Blk.new (w.alloc (.cells #[.int .i64 d.e, .int .i64 d.l, .bool d.r, .slice a d.xs.length ca, .slice b d.ys.length cb, .int .i64 d.t] 24)) #[.int .i64 k, .int .i64 p, .int .i64 v] 38).alloc (.cells #[.int .i64 0, .int .i64 0, .bool false, .slice none 0 0, .slice none 0 0, .int .i64 0] 24)
  simp only [World.size_alloc] at X0
  replace X0 := hide X0
  clear ha hb wfv wfk wfp
  cases hg : Pl.devOk d
  · have E : Hid (Pl.sdOk d k p v = false) := hide (by unfold Pl.sdOk; rw [hg]; rfl)
    go_enter Try.func21, Try.ntmps21
    go_wp2_with (go_at_call 18; refine (implGoodDevice _ d a b ca cb (HA.out.keptS K0.out) (HB.out.keptS K0.out) lx ly wfd).mono ?_; rintro e w1 ⟨rfl, k1⟩; rw [hg]; have R1 := hide (R0.out.kept0 k1); have K1 := hide (K0.out.trans k1); have y0 := R1.out.cell (i := 0) rfl; have yf0 := R1.out.frozen 0; have y1 := R1.out.cell (i := 1) rfl; have yf1 := R1.out.frozen 1; have y2 := R1.out.cell (i := 2) rfl; have yf2 := R1.out.frozen 2; have y3 := R1.out.cell (i := 3) rfl; have yf3 := R1.out.frozen 3; have y4 := R1.out.cell (i := 4) rfl; have yf4 := R1.out.frozen 4; have y5 := R1.out.cell (i := 5) rfl; have yf5 := R1.out.frozen 5)
    refine bodyPost_ret (v := .tuple #[.agg #[.int .i64 0, .int .i64 0, .bool false, .slice none 0 0, .slice none 0 0, .int .i64 0], .int .i64 0, .bool false]) ?_ rfl ⟨none, none, 0, 0, ?_, ?_, ?_⟩
    · rw [results_cell_tmp2 rfl]; go_simp
    · simp [Pl.sdD, Pl.sdV, E.out, Pl.devNo]
    · refine ⟨.inl ⟨rfl, by simp [Pl.sdD, E.out, Pl.devNo]⟩, .inl ⟨rfl, by simp [Pl.sdD, E.out, Pl.devNo]⟩, by intro g hg; simp [blk] at hg, by simp [Pl.sdD, E.out, Pl.devNo]⟩
    · exact (kept_set (kept_set (kept_set (kept_set (kept_set (kept_set K1.out _ _ _ (.inr (by omega))) _ _ _ (.inr (by omega))) _ _ _ (.inr (by omega))) _ _ _ (.inr (by omega))) _ _ _ (.inr (by omega))) _ _ _ (.inr (by omega)))
  · cases h1 : Pl.stepOk k p v
    · have E : Hid (Pl.sdOk d k p v = false) := hide (by unfold Pl.sdOk; rw [hg, h1]; rfl)
      go_enter Try.func21, Try.ntmps21
      go_wp2_with (first
        | (go_at_call 18; refine (implGoodDevice _ d a b ca cb (HA.out.keptS K0.out) (HB.out.keptS K0.out) lx ly wfd).mono ?_; rintro e w1 ⟨rfl, k1⟩; rw [hg]; have R1 := hide (R0.out.kept0 k1); have X1 := hide (X0.out.kept0 k1); have K1 := hide (K0.out.trans k1); have z0 := X1.out.cell (i := 0) rfl; have z1 := X1.out.cell (i := 1) rfl; have z2 := X1.out.cell (i := 2) rfl)
        | (go_at_call 46; refine (implDevStep _ k p v lo hi).mono ?_; rintro e w2 ⟨rfl, k2⟩; rw [h1]; have R2 := hide (R1.out.kept0 k2); have K2 := hide (K1.out.trans k2); have y0 := R2.out.cell (i := 0) rfl; have yf0 := R2.out.frozen 0; have y1 := R2.out.cell (i := 1) rfl; have yf1 := R2.out.frozen 1; have y2 := R2.out.cell (i := 2) rfl; have yf2 := R2.out.frozen 2; have y3 := R2.out.cell (i := 3) rfl; have yf3 := R2.out.frozen 3; have y4 := R2.out.cell (i := 4) rfl; have yf4 := R2.out.frozen 4; have y5 := R2.out.cell (i := 5) rfl; have yf5 := R2.out.frozen 5))
      refine bodyPost_ret (v := .tuple #[.agg #[.int .i64 0, .int .i64 0, .bool false, .slice none 0 0, .slice none 0 0, .int .i64 0], .int .i64 0, .bool false]) ?_ rfl ⟨none, none, 0, 0, ?_, ?_, ?_⟩
      · rw [results_cell_tmp2 rfl]; go_simp
      · simp [Pl.sdD, Pl.sdV, E.out, Pl.devNo]
      · refine ⟨.inl ⟨rfl, by simp [Pl.sdD, E.out, Pl.devNo]⟩, .inl ⟨rfl, by simp [Pl.sdD, E.out, Pl.devNo]⟩, by intro g hg; simp [blk] at hg, by simp [Pl.sdD, E.out, Pl.devNo]⟩
      · exact (kept_set (kept_set (kept_set (kept_set (kept_set (kept_set K2.out _ _ _ (.inr (by omega))) _ _ _ (.inr (by omega))) _ _ _ (.inr (by omega))) _ _ _ (.inr (by omega))) _ _ _ (.inr (by omega))) _ _ _ (.inr (by omega)))
    · have E : Hid (Pl.sdOk d k p v = true) := hide (by unfold Pl.sdOk; rw [hg, h1]; rfl)
      have hS := Pl.devOk_small hg
      have hS2 := Pl.small_step hS h1
      obtain ⟨D, hDD⟩ : ∃ D, D = Pl.sdD d k p v := ⟨_, rfl⟩
      have ED : Hid (Pl.stepD d k p v = D) := hide (by rw [hDD]; simp [Pl.sdD, E.out])
      have EP := hide hDD
      have EVV : Hid (Pl.sdV d k p v = Pl.stepV d k p v) := hide (by simp [Pl.sdV, E.out])
      rw [ED.out] at hS2
      clear hDD
      go_enter Try.func21, Try.ntmps21
      go_wp2_with (first
        | (go_at_call 18; refine (implGoodDevice _ d a b ca cb (HA.out.keptS K0.out) (HB.out.keptS K0.out) lx ly wfd).mono ?_; rintro e w1 ⟨rfl, k1⟩; rw [hg]; have R1 := hide (R0.out.kept0 k1); have X1 := hide (X0.out.kept0 k1); have P1 := hide (P0.out.kept0 k1); have K1 := hide (K0.out.trans k1); have z0 := X1.out.cell (i := 0) rfl; have z1 := X1.out.cell (i := 1) rfl; have z2 := X1.out.cell (i := 2) rfl)
        | (go_at_call 46; refine (implDevStep _ k p v lo hi).mono ?_; rintro e w2 ⟨rfl, k2⟩; rw [h1]; have R2 := hide (R1.out.kept0 k2); have X2 := hide (X1.out.kept0 k2); have P2 := hide (P1.out.kept0 k2); have K2 := hide (K1.out.trans k2); have p0 := P2.out.cell (i := 0) rfl; have p1 := P2.out.cell (i := 1) rfl; have p2 := P2.out.cell (i := 2) rfl; have p3 := P2.out.cell (i := 3) rfl; have p4 := P2.out.cell (i := 4) rfl; have p5 := P2.out.cell (i := 5) rfl))
      refine (wiredOf w2 d a b ca cb (HA.out.keptS K2.out).1 (HB.out.keptS K2.out).1 hS.x hS.y).mono ?_
      rintro e w3 ⟨ci, co, rfl, hC1, hC2, b1, b2, k3⟩
      have n2 := R2.out.lt
      have n3 := k3.size
      have n4 := hC1.lt
      have n5 := hC2.lt
      have HW := hide (Wd.mk (lo := w2.heap.size) (hi := w3.heap.size + 1) (Blk.new w3 #[.int .i64 d.e, .int .i64 d.l, .bool d.r, .chan (some ci), .chan (some co), .int .i64 d.t] 71) (hC1.kept (kept_alloc _ _) (by omega)) (hC2.kept (kept_alloc _ _) (by omega)) n3 (by omega) b1 (by omega) b2 (by omega))
      have X3 := hide ((X2.out.kept0 k3).alloc (.cells #[.int .i64 d.e, .int .i64 d.l, .bool d.r, .chan (some ci), .chan (some co), .int .i64 d.t] 71))
      have R3 := hide ((R2.out.kept0 k3).alloc (.cells #[.int .i64 d.e, .int .i64 d.l, .bool d.r, .chan (some ci), .chan (some co), .int .i64 d.t] 71))
      have K3 := hide (kept_new (K2.out.trans k3) (.cells #[.int .i64 d.e, .int .i64 d.l, .bool d.r, .chan (some ci), .chan (some co), .int .i64 d.t] 71))
      have s2 := K2.out.size
      have x0 := X3.out.cell (i := 0) rfl
      have x1 := X3.out.cell (i := 1) rfl
      have x2 := X3.out.cell (i := 2) rfl
      clear hC1 hC2 k3 P2 R2 X2 p0 p1 p2 p3 p4 p5
      go_wp2_with fail
      refine (wiredStep _ _ _ _ _ _ d k p v HW.out hS h1).mono ?_
      rw [ED.out]
      rintro e w4 ⟨rfl, hW4, k4⟩
      have n6 := k4.size
      simp only [World.size_alloc] at n6
      have R4 := hide (R3.out.kept k4 (by omega))
      have K4 := hide (kept_over K3.out k4 (by omega))
      clear k4
      go_wp2_with fail
      refine (wiredDevice w4 _ _ _ _ _ D hW4 (by omega) hS2.x hS2.y).mono ?_
      rintro e w5 ⟨a5, b5, ca5, cb5, rfl, hD5, k5⟩
      have R5 := hide (R4.out.kept k5 (by omega))
      have K5 := hide (kept_over K4.out k5 (by omega))
      have y0 := R5.out.cell (i := 0) rfl
      have yf0 := R5.out.frozen 0
      have y1 := R5.out.cell (i := 1) rfl
      have yf1 := R5.out.frozen 1
      have y2 := R5.out.cell (i := 2) rfl
      have yf2 := R5.out.frozen 2
      have y3 := R5.out.cell (i := 3) rfl
      have yf3 := R5.out.frozen 3
      have y4 := R5.out.cell (i := 4) rfl
      have yf4 := R5.out.frozen 4
      have y5 := R5.out.cell (i := 5) rfl
      have yf5 := R5.out.frozen 5
      clear k5 hW4
      go_wp2_with fail
      have hx : ∀ g, blk a5 = some g ∨ blk b5 = some g → g ≠ w.heap.size + 1 + 1 := by
        intro g hg
        rcases hg with hg | hg
        · have := hD5.1.blk_in g hg; omega
        · have := hD5.2.1.blk_in g hg; omega
      refine bodyPost_ret (v := .tuple #[.agg #[.int .i64 D.e, .int .i64 D.l, .bool D.r, .slice a5 D.xs.length ca5, .slice b5 D.ys.length cb5, .int .i64 D.t], .int .i64 (Pl.stepV d k p v), .bool true]) ?_ rfl ⟨a5, b5, ca5, cb5, ?_, ?_, ?_⟩
      · rw [results_cell_tmp2 rfl]; go_simp
      · rw [← EP.out, EVV.out, E.out]
      · rw [← EP.out]
        exact ((((((hD5.setOther _ _ _ hx).setOther _ _ _ hx).setOther _ _ _ hx).setOther _ _ _ hx).setOther _ _ _ hx).setOther _ _ _ hx).base (by omega)
      · exact (kept_set (kept_set (kept_set (kept_set (kept_set (kept_set K5.out _ _ _ (.inr (by omega))) _ _ _ (.inr (by omega))) _ _ _ (.inr (by omega))) _ _ _ (.inr (by omega))) _ _ _ (.inr (by omega))) _ _ _ (.inr (by omega)))
end Go.Proofs.Ytlocilcnmbmikaa
