/- What the models of chapter 5 answer, for every argument. -/
import Derived.Test.YtlocilcnmbmikaaSpecDev5
namespace Go.Proofs.Ytlocilcnmbmikaa
open Go.RowKit
set_option linter.unusedVariables false

namespace Pl
def prOk (d : Dev) (p : Int) : Bool := devOk d && port p
def prD (d : Dev) (p : Int) : Dev := if prOk d p = true then rdD d p else devNo
def prV (d : Dev) (p : Int) : Int := if prOk d p = true then rdV d p else 0
def pwOk (d : Dev) (p v : Int) : Bool := devOk d && (port p && inR v 0 255)
def pwD (d : Dev) (p v : Int) : Dev := if pwOk d p v = true then wrD d p v else devNo
def sdOk (d : Dev) (k p v : Int) : Bool := devOk d && stepOk k p v
def sdD (d : Dev) (k p v : Int) : Dev := if sdOk d k p v = true then stepD d k p v else devNo
def sdV (d : Dev) (k p v : Int) : Int := if sdOk d k p v = true then stepV d k p v else 0
def lvV (d : Dev) : Int := if devOk d = true then level d else 0
theorem port_ok {p : Int} (h : port p = true) : 0 ≤ p ∧ p ≤ 3 := by simpa [port, inR] using h
theorem small_no : devNo.xs.length ≤ 4 ∧ devNo.ys.length ≤ 200 := ⟨by decide, by decide⟩
theorem pr_len (d : Dev) (p : Int) : (prD d p).xs.length ≤ 4 ∧ (prD d p).ys.length ≤ 200 := by
  unfold prD
  split
  · rename_i h
    simp only [prOk, Bool.and_eq_true] at h
    have := small_rd (devOk_small h.1) p
    exact ⟨this.x, this.y⟩
  · exact small_no
theorem pw_len (d : Dev) (p v : Int) : (pwD d p v).xs.length ≤ 4 ∧ (pwD d p v).ys.length ≤ 200 := by
  unfold pwD
  split
  · rename_i h
    simp only [pwOk, inR, Bool.and_eq_true, decide_eq_true_eq] at h
    have := small_wr (devOk_small h.1) p v h.2.2.1 h.2.2.2
    exact ⟨this.x, this.y⟩
  · exact small_no
theorem sd_len (d : Dev) (k p v : Int) : (sdD d k p v).xs.length ≤ 4 ∧ (sdD d k p v).ys.length ≤ 200 := by
  unfold sdD
  split
  · rename_i h
    simp only [sdOk, Bool.and_eq_true] at h
    have := small_step (devOk_small h.1) h.2
    exact ⟨this.x, this.y⟩
  · exact small_no
end Pl
theorem results_cell_tmp2 {fn : Func} {p u1 u2 : Tmp} {ty : TypeId} (h : fn.results = #[.cell p ty, .tmp u1, .tmp u2]) (tmps : Array Value) (P : Program) (w : World) :
    (results fn tmps).run P w = ((asAddr (tmps.getD p undef)).run P w).andThen fun a w₁ => ((loadVar ty a).run P w₁).andThen fun v w₂ => .ok (.tuple #[v, tmps.getD u1 undef, tmps.getD u2 undef]) w₂ := by
  simp only [results, h]
  simp [Sem.run_bind, Result.andThen]

set_option maxRecDepth 20000 in
set_option maxHeartbeats 8000000 in
theorem specPortWrite (w : World) (d : Pl.Dev) (a b : Option Addr) (ca cb : Nat) (p v : Int) (ha : IRow w a d.xs) (hb : IRow w b d.ys) (lx : d.xs.length ≤ 2000000) (ly : d.ys.length ≤ 2000000) :
    Calls Try.prog 33 #[.agg #[.int .i64 d.e, .int .i64 d.l, .bool d.r, .slice a d.xs.length ca, .slice b d.ys.length cb, .int .i64 d.t], .int .i64 p, .int .i64 v] w fun e w' => ∃ (a' b' : Option Addr) (ca' cb' : Nat), e = .returned (.tuple #[.agg #[.int .i64 (Pl.pwD d p v).e, .int .i64 (Pl.pwD d p v).l, .bool (Pl.pwD d p v).r, .slice a' (Pl.pwD d p v).xs.length ca', .slice b' (Pl.pwD d p v).ys.length cb', .int .i64 (Pl.pwD d p v).t], .bool (Pl.pwOk d p v)]) ∧ DevIn w' w.heap.size (Pl.pwD d p v) a' b' ca' ∧ Kept 0 0 w w' := by
  have HA := hide ha
  have HB := hide hb
  have K0 := hide (kept_new (kept_alloc w (.cells #[.int .i64 d.e, .int .i64 d.l, .bool d.r, .slice a d.xs.length ca, .slice b d.ys.length cb, .int .i64 d.t] 24)) (.cells #[.int .i64 0, .int .i64 0, .bool false, .slice none 0 0, .slice none 0 0, .int .i64 0] 24))
  have P0 := hide ((Blk.new w #[.int .i64 d.e, .int .i64 d.l, .bool d.r, .slice a d.xs.length ca, .slice b d.ys.length cb, .int .i64 d.t] 24).alloc (.cells #[.int .i64 0, .int .i64 0, .bool false, .slice none 0 0, .slice none 0 0, .int .i64 0] 24))
  have R0 := Blk.new (w.alloc (.cells #[.int .i64 d.e, .int .i64 d.l, .bool d.r, .slice a d.xs.length ca, .slice b d.ys.length cb, .int .i64 d.t] 24)) #[.int .i64 0, .int .i64 0, .bool false, .slice none 0 0, .slice none 0 0, .int .i64 0] 24
  simp only [World.size_alloc] at R0
  replace R0 := hide R0
  clear ha hb
  cases hg : Pl.devOk d
  · have E : Hid (Pl.pwOk d p v = false) := hide (by unfold Pl.pwOk; (try unfold Pl.inR); rw [hg]; rfl)
    go_enter Try.func33, Try.ntmps33
    go_wp2_with (first
      | (go_at_call 16; refine (specGoodDevice _ d a b ca cb (HA.out.keptS K0.out) (HB.out.keptS K0.out) lx ly).mono ?_; rintro e w1 ⟨rfl, k1⟩; rw [hg]; have R1 := hide (R0.out.kept0 k1); have P1 := hide (P0.out.kept0 k1); have K1 := hide (K0.out.trans k1); have y0 := R1.out.cell (i := 0) rfl; have u0 := R1.out.frozen 0; have y1 := R1.out.cell (i := 1) rfl; have u1 := R1.out.frozen 1; have y2 := R1.out.cell (i := 2) rfl; have u2 := R1.out.frozen 2; have y3 := R1.out.cell (i := 3) rfl; have u3 := R1.out.frozen 3; have y4 := R1.out.cell (i := 4) rfl; have u4 := R1.out.frozen 4; have y5 := R1.out.cell (i := 5) rfl; have u5 := R1.out.frozen 5; clear k1))
    refine bodyPost_ret (v := .tuple #[.agg #[.int .i64 0, .int .i64 0, .bool false, .slice none 0 0, .slice none 0 0, .int .i64 0], .bool false]) ?_ rfl ⟨none, none, 0, 0, ?_, ?_, ?_⟩
    · rw [results_cell_tmp rfl]; go_simp
    · simp [Pl.pwD, E.out, Pl.devNo]
    · refine ⟨.inl ⟨rfl, by simp [Pl.pwD, E.out, Pl.devNo]⟩, .inl ⟨rfl, by simp [Pl.pwD, E.out, Pl.devNo]⟩, by intro g hg; simp [blk] at hg, by simp [Pl.pwD, E.out, Pl.devNo]⟩
    · exact (kept_set (kept_set (kept_set (kept_set (kept_set (kept_set K1.out _ _ _ (.inr (by omega))) _ _ _ (.inr (by omega))) _ _ _ (.inr (by omega))) _ _ _ (.inr (by omega))) _ _ _ (.inr (by omega))) _ _ _ (.inr (by omega)))
  · cases h1 : Pl.port p
    · have E : Hid (Pl.pwOk d p v = false) := hide (by unfold Pl.pwOk; (try unfold Pl.inR); rw [hg, h1]; rfl)
      go_enter Try.func33, Try.ntmps33
      go_wp2_with (first
        | (go_at_call 16; refine (specGoodDevice _ d a b ca cb (HA.out.keptS K0.out) (HB.out.keptS K0.out) lx ly).mono ?_; rintro e w1 ⟨rfl, k1⟩; rw [hg]; have R1 := hide (R0.out.kept0 k1); have P1 := hide (P0.out.kept0 k1); have K1 := hide (K0.out.trans k1); have y0 := R1.out.cell (i := 0) rfl; have u0 := R1.out.frozen 0; have y1 := R1.out.cell (i := 1) rfl; have u1 := R1.out.frozen 1; have y2 := R1.out.cell (i := 2) rfl; have u2 := R1.out.frozen 2; have y3 := R1.out.cell (i := 3) rfl; have u3 := R1.out.frozen 3; have y4 := R1.out.cell (i := 4) rfl; have u4 := R1.out.frozen 4; have y5 := R1.out.cell (i := 5) rfl; have u5 := R1.out.frozen 5; clear k1)
        | (go_at_call 53; refine (l5Port _ _).mono ?_; rintro e w9 ⟨rfl, hw⟩; have hw2 := hw.symm; clear hw; subst hw2; rw [h1]))
      refine bodyPost_ret (v := .tuple #[.agg #[.int .i64 0, .int .i64 0, .bool false, .slice none 0 0, .slice none 0 0, .int .i64 0], .bool false]) ?_ rfl ⟨none, none, 0, 0, ?_, ?_, ?_⟩
      · rw [results_cell_tmp rfl]; go_simp
      · simp [Pl.pwD, E.out, Pl.devNo]
      · refine ⟨.inl ⟨rfl, by simp [Pl.pwD, E.out, Pl.devNo]⟩, .inl ⟨rfl, by simp [Pl.pwD, E.out, Pl.devNo]⟩, by intro g hg; simp [blk] at hg, by simp [Pl.pwD, E.out, Pl.devNo]⟩
      · exact (kept_set (kept_set (kept_set (kept_set (kept_set (kept_set K1.out _ _ _ (.inr (by omega))) _ _ _ (.inr (by omega))) _ _ _ (.inr (by omega))) _ _ _ (.inr (by omega))) _ _ _ (.inr (by omega))) _ _ _ (.inr (by omega)))
    · cases h2 : (decide (0 ≤ v) && decide (v ≤ 255))
      · have E : Hid (Pl.pwOk d p v = false) := hide (by unfold Pl.pwOk; (try unfold Pl.inR); rw [hg, h1, h2]; rfl)
        go_enter Try.func33, Try.ntmps33
        go_wp2_with (first
          | (go_at_call 16; refine (specGoodDevice _ d a b ca cb (HA.out.keptS K0.out) (HB.out.keptS K0.out) lx ly).mono ?_; rintro e w1 ⟨rfl, k1⟩; rw [hg]; have R1 := hide (R0.out.kept0 k1); have P1 := hide (P0.out.kept0 k1); have K1 := hide (K0.out.trans k1); have y0 := R1.out.cell (i := 0) rfl; have u0 := R1.out.frozen 0; have y1 := R1.out.cell (i := 1) rfl; have u1 := R1.out.frozen 1; have y2 := R1.out.cell (i := 2) rfl; have u2 := R1.out.frozen 2; have y3 := R1.out.cell (i := 3) rfl; have u3 := R1.out.frozen 3; have y4 := R1.out.cell (i := 4) rfl; have u4 := R1.out.frozen 4; have y5 := R1.out.cell (i := 5) rfl; have u5 := R1.out.frozen 5; clear k1)
          | (go_at_call 53; refine (l5Port _ _).mono ?_; rintro e w9 ⟨rfl, hw⟩; have hw2 := hw.symm; clear hw; subst hw2; rw [h1])
          | (go_at_call 38; refine (l1In _ _ _ _).mono ?_; rintro e w9 ⟨rfl, hw⟩; have hw2 := hw.symm; clear hw; subst hw2; rw [h2]))
        refine bodyPost_ret (v := .tuple #[.agg #[.int .i64 0, .int .i64 0, .bool false, .slice none 0 0, .slice none 0 0, .int .i64 0], .bool false]) ?_ rfl ⟨none, none, 0, 0, ?_, ?_, ?_⟩
        · rw [results_cell_tmp rfl]; go_simp
        · simp [Pl.pwD, E.out, Pl.devNo]
        · refine ⟨.inl ⟨rfl, by simp [Pl.pwD, E.out, Pl.devNo]⟩, .inl ⟨rfl, by simp [Pl.pwD, E.out, Pl.devNo]⟩, by intro g hg; simp [blk] at hg, by simp [Pl.pwD, E.out, Pl.devNo]⟩
        · exact (kept_set (kept_set (kept_set (kept_set (kept_set (kept_set K1.out _ _ _ (.inr (by omega))) _ _ _ (.inr (by omega))) _ _ _ (.inr (by omega))) _ _ _ (.inr (by omega))) _ _ _ (.inr (by omega))) _ _ _ (.inr (by omega)))
      · have E : Hid (Pl.pwOk d p v = true) := hide (by unfold Pl.pwOk; (try unfold Pl.inR); rw [hg, h1, h2]; rfl)
        have hS := Pl.devOk_small hg
        obtain ⟨D, hDD⟩ : ∃ D, D = Pl.pwD d p v := ⟨_, rfl⟩
        have ED : Hid (Pl.wrD d p v = D) := hide (by rw [hDD]; simp [Pl.pwD, E.out])
        have EP := hide hDD
        clear hDD
        go_enter Try.func33, Try.ntmps33
        go_wp2_with (first
          | (go_at_call 16; refine (specGoodDevice _ d a b ca cb (HA.out.keptS K0.out) (HB.out.keptS K0.out) lx ly).mono ?_; rintro e w1 ⟨rfl, k1⟩; rw [hg]; have R1 := hide (R0.out.kept0 k1); have P1 := hide (P0.out.kept0 k1); have K1 := hide (K0.out.trans k1); have q0 := P1.out.cell (i := 0) rfl; have q1 := P1.out.cell (i := 1) rfl; have q2 := P1.out.cell (i := 2) rfl; have q3 := P1.out.cell (i := 3) rfl; have q4 := P1.out.cell (i := 4) rfl; have q5 := P1.out.cell (i := 5) rfl; clear k1)
          | (go_at_call 53; refine (l5Port _ _).mono ?_; rintro e w9 ⟨rfl, hw⟩; have hw2 := hw.symm; clear hw; subst hw2; rw [h1])
          | (go_at_call 38; refine (l1In _ _ _ _).mono ?_; rintro e w9 ⟨rfl, hw⟩; have hw2 := hw.symm; clear hw; subst hw2; rw [h2]))
        clear q0 q1 q2 q3 q4 q5
        refine (l5Own w1 d a b ca cb (HA.out.keptS K1.out) (HB.out.keptS K1.out) lx ly).mono ?_
        rintro e w2 ⟨a1, b1, ca1, cb1, rfl, hD1, k2⟩
        have R2 := hide (R1.out.kept0 k2)
        have K2 := hide (K1.out.trans k2)
        have HD1 := hide hD1
        have n1 : w.heap.size + 1 < w1.heap.size := R1.out.lt
        have n2 := k2.size
        have s1 := K1.out.size
        clear hD1 k2
        go_wp2_with fail
        have CN := l5Write w2 w1.heap.size d a1 b1 ca1 cb1 p v HD1.out (by omega) hS (Pl.port_ok h1).1 (Pl.port_ok h1).2
        rw [ED.out] at CN
        refine CN.mono ?_
        clear CN
        rintro e w3 ⟨a2, b2, ca2, cb2, rfl, hD2, k3, hn3⟩
        have HX : Hid (∀ g, blk a2 = some g ∨ blk b2 = some g → g ≠ w.heap.size + 1) := hide (by
          intro g hg
          rcases hn3 g hg with h | h
          · rcases h with h | h
            · have := HD1.out.1.blk_in g h; omega
            · have := HD1.out.2.1.blk_in g h; omega
          · omega)
        have HDX : Hid (DevIn w3 w.heap.size D a2 b2 ca2) := hide ⟨hD2.1.wide (by omega) (Nat.le_refl _), hD2.2.1.wide (by omega) (Nat.le_refl _), hD2.2.2.1, hD2.2.2.2⟩
        have R3 := hide (R2.out.kept0 k3)
        have K3 := hide (K2.out.trans k3)
        have n3 := k3.size
        clear hD2 k3 hn3
        have y0 := R3.out.cell (i := 0) rfl
        have y1 := R3.out.cell (i := 1) rfl
        have y2 := R3.out.cell (i := 2) rfl
        have y3 := R3.out.cell (i := 3) rfl
        have y4 := R3.out.cell (i := 4) rfl
        have y5 := R3.out.cell (i := 5) rfl
        have u0 := R3.out.frozen 0
        have u1 := R3.out.frozen 1
        have u2 := R3.out.frozen 2
        have u3 := R3.out.frozen 3
        have u4 := R3.out.frozen 4
        have u5 := R3.out.frozen 5
        go_wp2_with fail
        have N0 : ∀ v0 v1 v2 v3 v4 v5, Kept 0 0 w ((((((w3.setCell ⟨w.heap.size + 1, 0, none⟩ v0).setCell ⟨w.heap.size + 1, 1, none⟩ v1).setCell ⟨w.heap.size + 1, 2, none⟩ v2).setCell ⟨w.heap.size + 1, 3, none⟩ v3).setCell ⟨w.heap.size + 1, 4, none⟩ v4).setCell ⟨w.heap.size + 1, 5, none⟩ v5) := fun v0 v1 v2 v3 v4 v5 => (kept_set (kept_set (kept_set (kept_set (kept_set (kept_set K3.out _ _ _ (.inr (by omega))) _ _ _ (.inr (by omega))) _ _ _ (.inr (by omega))) _ _ _ (.inr (by omega))) _ _ _ (.inr (by omega))) _ _ _ (.inr (by omega)))
        refine bodyPost_ret (v := .tuple #[.agg #[.int .i64 D.e, .int .i64 D.l, .bool D.r, .slice a2 D.xs.length ca2, .slice b2 D.ys.length cb2, .int .i64 D.t], .bool true]) ?_ rfl ⟨a2, b2, ca2, cb2, ?_, ?_, ?_⟩
        · rw [results_cell_tmp rfl]; go_simp
        · rw [← EP.out, E.out]
        · rw [← EP.out]; exact ((((((HDX.out.setOther _ _ _ HX.out).setOther _ _ _ HX.out).setOther _ _ _ HX.out).setOther _ _ _ HX.out).setOther _ _ _ HX.out).setOther _ _ _ HX.out)
        · exact N0 _ _ _ _ _ _

set_option maxRecDepth 20000 in
set_option maxHeartbeats 8000000 in
theorem specPortRead (w : World) (d : Pl.Dev) (a b : Option Addr) (ca cb : Nat) (p : Int) (ha : IRow w a d.xs) (hb : IRow w b d.ys) (lx : d.xs.length ≤ 2000000) (ly : d.ys.length ≤ 2000000) :
    Calls Try.prog 35 #[.agg #[.int .i64 d.e, .int .i64 d.l, .bool d.r, .slice a d.xs.length ca, .slice b d.ys.length cb, .int .i64 d.t], .int .i64 p] w fun e w' => ∃ (a' b' : Option Addr) (ca' cb' : Nat), e = .returned (.tuple #[.agg #[.int .i64 (Pl.prD d p).e, .int .i64 (Pl.prD d p).l, .bool (Pl.prD d p).r, .slice a' (Pl.prD d p).xs.length ca', .slice b' (Pl.prD d p).ys.length cb', .int .i64 (Pl.prD d p).t], .int .i64 (Pl.prV d p), .bool (Pl.prOk d p)]) ∧ DevIn w' w.heap.size (Pl.prD d p) a' b' ca' ∧ Kept 0 0 w w' := by
  have HA := hide ha
  have HB := hide hb
  have K0 := hide (kept_new (kept_alloc w (.cells #[.int .i64 d.e, .int .i64 d.l, .bool d.r, .slice a d.xs.length ca, .slice b d.ys.length cb, .int .i64 d.t] 24)) (.cells #[.int .i64 0, .int .i64 0, .bool false, .slice none 0 0, .slice none 0 0, .int .i64 0] 24))
  have P0 := hide ((Blk.new w #[.int .i64 d.e, .int .i64 d.l, .bool d.r, .slice a d.xs.length ca, .slice b d.ys.length cb, .int .i64 d.t] 24).alloc (.cells #[.int .i64 0, .int .i64 0, .bool false, .slice none 0 0, .slice none 0 0, .int .i64 0] 24))
  have R0 := Blk.new (w.alloc (.cells #[.int .i64 d.e, .int .i64 d.l, .bool d.r, .slice a d.xs.length ca, .slice b d.ys.length cb, .int .i64 d.t] 24)) #[.int .i64 0, .int .i64 0, .bool false, .slice none 0 0, .slice none 0 0, .int .i64 0] 24
  simp only [World.size_alloc] at R0
  replace R0 := hide R0
  clear ha hb
  cases hg : Pl.devOk d
  · have E : Hid (Pl.prOk d p = false) := hide (by unfold Pl.prOk; (try unfold Pl.inR); rw [hg]; rfl)
    go_enter Try.func35, Try.ntmps35
    go_wp2_with (first
      | (go_at_call 16; refine (specGoodDevice _ d a b ca cb (HA.out.keptS K0.out) (HB.out.keptS K0.out) lx ly).mono ?_; rintro e w1 ⟨rfl, k1⟩; rw [hg]; have R1 := hide (R0.out.kept0 k1); have P1 := hide (P0.out.kept0 k1); have K1 := hide (K0.out.trans k1); have y0 := R1.out.cell (i := 0) rfl; have u0 := R1.out.frozen 0; have y1 := R1.out.cell (i := 1) rfl; have u1 := R1.out.frozen 1; have y2 := R1.out.cell (i := 2) rfl; have u2 := R1.out.frozen 2; have y3 := R1.out.cell (i := 3) rfl; have u3 := R1.out.frozen 3; have y4 := R1.out.cell (i := 4) rfl; have u4 := R1.out.frozen 4; have y5 := R1.out.cell (i := 5) rfl; have u5 := R1.out.frozen 5; clear k1))
    refine bodyPost_ret (v := .tuple #[.agg #[.int .i64 0, .int .i64 0, .bool false, .slice none 0 0, .slice none 0 0, .int .i64 0], .int .i64 0, .bool false]) ?_ rfl ⟨none, none, 0, 0, ?_, ?_, ?_⟩
    · rw [results_cell_tmp2 rfl]; go_simp
    · simp [Pl.prD, Pl.prV, E.out, Pl.devNo]
    · refine ⟨.inl ⟨rfl, by simp [Pl.prD, E.out, Pl.devNo]⟩, .inl ⟨rfl, by simp [Pl.prD, E.out, Pl.devNo]⟩, by intro g hg; simp [blk] at hg, by simp [Pl.prD, E.out, Pl.devNo]⟩
    · exact (kept_set (kept_set (kept_set (kept_set (kept_set (kept_set K1.out _ _ _ (.inr (by omega))) _ _ _ (.inr (by omega))) _ _ _ (.inr (by omega))) _ _ _ (.inr (by omega))) _ _ _ (.inr (by omega))) _ _ _ (.inr (by omega)))
  · cases h1 : Pl.port p
    · have E : Hid (Pl.prOk d p = false) := hide (by unfold Pl.prOk; (try unfold Pl.inR); rw [hg, h1]; rfl)
      go_enter Try.func35, Try.ntmps35
      go_wp2_with (first
        | (go_at_call 16; refine (specGoodDevice _ d a b ca cb (HA.out.keptS K0.out) (HB.out.keptS K0.out) lx ly).mono ?_; rintro e w1 ⟨rfl, k1⟩; rw [hg]; have R1 := hide (R0.out.kept0 k1); have P1 := hide (P0.out.kept0 k1); have K1 := hide (K0.out.trans k1); have y0 := R1.out.cell (i := 0) rfl; have u0 := R1.out.frozen 0; have y1 := R1.out.cell (i := 1) rfl; have u1 := R1.out.frozen 1; have y2 := R1.out.cell (i := 2) rfl; have u2 := R1.out.frozen 2; have y3 := R1.out.cell (i := 3) rfl; have u3 := R1.out.frozen 3; have y4 := R1.out.cell (i := 4) rfl; have u4 := R1.out.frozen 4; have y5 := R1.out.cell (i := 5) rfl; have u5 := R1.out.frozen 5; clear k1)
        | (go_at_call 53; refine (l5Port _ _).mono ?_; rintro e w9 ⟨rfl, hw⟩; have hw2 := hw.symm; clear hw; subst hw2; rw [h1]))
      refine bodyPost_ret (v := .tuple #[.agg #[.int .i64 0, .int .i64 0, .bool false, .slice none 0 0, .slice none 0 0, .int .i64 0], .int .i64 0, .bool false]) ?_ rfl ⟨none, none, 0, 0, ?_, ?_, ?_⟩
      · rw [results_cell_tmp2 rfl]; go_simp
      · simp [Pl.prD, Pl.prV, E.out, Pl.devNo]
      · refine ⟨.inl ⟨rfl, by simp [Pl.prD, E.out, Pl.devNo]⟩, .inl ⟨rfl, by simp [Pl.prD, E.out, Pl.devNo]⟩, by intro g hg; simp [blk] at hg, by simp [Pl.prD, E.out, Pl.devNo]⟩
      · exact (kept_set (kept_set (kept_set (kept_set (kept_set (kept_set K1.out _ _ _ (.inr (by omega))) _ _ _ (.inr (by omega))) _ _ _ (.inr (by omega))) _ _ _ (.inr (by omega))) _ _ _ (.inr (by omega))) _ _ _ (.inr (by omega)))
    · have E : Hid (Pl.prOk d p = true) := hide (by unfold Pl.prOk; (try unfold Pl.inR); rw [hg, h1]; rfl)
      have hS := Pl.devOk_small hg
      obtain ⟨D, hDD⟩ : ∃ D, D = Pl.prD d p := ⟨_, rfl⟩
      have ED : Hid (Pl.rdD d p = D) := hide (by rw [hDD]; simp [Pl.prD, E.out])
      have EP := hide hDD
      have EVV : Hid (Pl.prV d p = Pl.rdV d p) := hide (by simp [Pl.prV, E.out])
      clear hDD
      go_enter Try.func35, Try.ntmps35
      go_wp2_with (first
        | (go_at_call 16; refine (specGoodDevice _ d a b ca cb (HA.out.keptS K0.out) (HB.out.keptS K0.out) lx ly).mono ?_; rintro e w1 ⟨rfl, k1⟩; rw [hg]; have R1 := hide (R0.out.kept0 k1); have P1 := hide (P0.out.kept0 k1); have K1 := hide (K0.out.trans k1); have q0 := P1.out.cell (i := 0) rfl; have q1 := P1.out.cell (i := 1) rfl; have q2 := P1.out.cell (i := 2) rfl; have q3 := P1.out.cell (i := 3) rfl; have q4 := P1.out.cell (i := 4) rfl; have q5 := P1.out.cell (i := 5) rfl; clear k1)
        | (go_at_call 53; refine (l5Port _ _).mono ?_; rintro e w9 ⟨rfl, hw⟩; have hw2 := hw.symm; clear hw; subst hw2; rw [h1]))
      clear q0 q1 q2 q3 q4 q5
      refine (l5Own w1 d a b ca cb (HA.out.keptS K1.out) (HB.out.keptS K1.out) lx ly).mono ?_
      rintro e w2 ⟨a1, b1, ca1, cb1, rfl, hD1, k2⟩
      have R2 := hide (R1.out.kept0 k2)
      have K2 := hide (K1.out.trans k2)
      have HD1 := hide hD1
      have n1 : w.heap.size + 1 < w1.heap.size := R1.out.lt
      have n2 := k2.size
      have s1 := K1.out.size
      clear hD1 k2
      go_wp2_with fail
      have CN := l5Read w2 w1.heap.size d a1 b1 ca1 cb1 p HD1.out (by omega) hS (Pl.port_ok h1).1 (Pl.port_ok h1).2
      rw [ED.out] at CN
      refine CN.mono ?_
      clear CN
      rintro e w3 ⟨a2, b2, ca2, cb2, rfl, hD2, k3, hn3⟩
      have HX : Hid (∀ g, blk a2 = some g ∨ blk b2 = some g → g ≠ w.heap.size + 1) := hide (by
        intro g hg
        rcases hn3 g hg with h | h
        · rcases h with h | h
          · have := HD1.out.1.blk_in g h; omega
          · have := HD1.out.2.1.blk_in g h; omega
        · omega)
      have HDX : Hid (DevIn w3 w.heap.size D a2 b2 ca2) := hide ⟨hD2.1.wide (by omega) (Nat.le_refl _), hD2.2.1.wide (by omega) (Nat.le_refl _), hD2.2.2.1, hD2.2.2.2⟩
      have R3 := hide (R2.out.kept0 k3)
      have K3 := hide (K2.out.trans k3)
      have n3 := k3.size
      clear hD2 k3 hn3
      have R4 := hide (R3.out.alloc (.cells #[.int .i64 D.e, .int .i64 D.l, .bool D.r, .slice a2 D.xs.length ca2, .slice b2 D.ys.length cb2, .int .i64 D.t] 24))
      have K4 := hide (kept_new K3.out (.cells #[.int .i64 D.e, .int .i64 D.l, .bool D.r, .slice a2 D.xs.length ca2, .slice b2 D.ys.length cb2, .int .i64 D.t] 24))
      have HDY := hide (HDX.out.kept (kept_alloc w3 (.cells #[.int .i64 D.e, .int .i64 D.l, .bool D.r, .slice a2 D.xs.length ca2, .slice b2 D.ys.length cb2, .int .i64 D.t] 24)))
      have y0 := R4.out.cell (i := 0) rfl
      have y1 := R4.out.cell (i := 1) rfl
      have y2 := R4.out.cell (i := 2) rfl
      have y3 := R4.out.cell (i := 3) rfl
      have y4 := R4.out.cell (i := 4) rfl
      have y5 := R4.out.cell (i := 5) rfl
      have u0 := R4.out.frozen 0
      have u1 := R4.out.frozen 1
      have u2 := R4.out.frozen 2
      have u3 := R4.out.frozen 3
      have u4 := R4.out.frozen 4
      have u5 := R4.out.frozen 5
      go_wp2_with fail
      have N0 : ∀ v0 v1 v2 v3 v4 v5, Kept 0 0 w (((((((w3.alloc (.cells #[.int .i64 D.e, .int .i64 D.l, .bool D.r, .slice a2 D.xs.length ca2, .slice b2 D.ys.length cb2, .int .i64 D.t] 24)).setCell ⟨w.heap.size + 1, 0, none⟩ v0).setCell ⟨w.heap.size + 1, 1, none⟩ v1).setCell ⟨w.heap.size + 1, 2, none⟩ v2).setCell ⟨w.heap.size + 1, 3, none⟩ v3).setCell ⟨w.heap.size + 1, 4, none⟩ v4).setCell ⟨w.heap.size + 1, 5, none⟩ v5) := fun v0 v1 v2 v3 v4 v5 => (kept_set (kept_set (kept_set (kept_set (kept_set (kept_set K4.out _ _ _ (.inr (by omega))) _ _ _ (.inr (by omega))) _ _ _ (.inr (by omega))) _ _ _ (.inr (by omega))) _ _ _ (.inr (by omega))) _ _ _ (.inr (by omega)))
      refine bodyPost_ret (v := .tuple #[.agg #[.int .i64 D.e, .int .i64 D.l, .bool D.r, .slice a2 D.xs.length ca2, .slice b2 D.ys.length cb2, .int .i64 D.t], .int .i64 (Pl.rdV d p), .bool true]) ?_ rfl ⟨a2, b2, ca2, cb2, ?_, ?_, ?_⟩
      · rw [results_cell_tmp2 rfl]; go_simp
      · rw [← EP.out, E.out, EVV.out]
      · rw [← EP.out]; exact ((((((HDY.out.setOther _ _ _ HX.out).setOther _ _ _ HX.out).setOther _ _ _ HX.out).setOther _ _ _ HX.out).setOther _ _ _ HX.out).setOther _ _ _ HX.out)
      · exact N0 _ _ _ _ _ _
theorem DevIn.base {w : World} {base base1 : Nat} {d : Pl.Dev} {a b : Option Addr} {ca : Nat} (h : DevIn w base1 d a b ca) (hb : base ≤ base1) : DevIn w base d a b ca := ⟨h.1.wide hb (Nat.le_refl _), h.2.1.wide hb (Nat.le_refl _), h.2.2.1, h.2.2.2⟩
end Go.Proofs.Ytlocilcnmbmikaa
