/- What the model of WithStatus answers, for every argument. -/
import Derived.Test.YtikmelkobbbgnaaSpecReg3
namespace Go.Proofs.Ytikmelkobbbgnaa
open Go.RowKit
set_option linter.unusedVariables false

theorem fin1024 {p : Int → Prop} (h : ∀ m : Fin 1024, p (m.val : Int)) {n : Int} (h0 : 0 ≤ n) (h1 : n ≤ 1023) : p n := by
  have := h ⟨n.toNat, by omega⟩
  have e : ((n.toNat : Nat) : Int) = n := by omega
  simpa [e] using this
theorem st256 {n : Int} (h0 : 0 ≤ n) (h1 : n ≤ 1023) : (bits .and .i64 n 256 != 0) = Pl.stSuper n := fin1024 (p := fun n => (bits .and .i64 n 256 != 0) = Pl.stSuper n) (by decide +kernel) h0 h1
theorem st512 {n : Int} (h0 : 0 ≤ n) (h1 : n ≤ 1023) : (bits .and .i64 n 512 != 0) = Pl.stTrace n := fin1024 (p := fun n => (bits .and .i64 n 512 != 0) = Pl.stTrace n) (by decide +kernel) h0 h1
theorem st31 {n : Int} (h0 : 0 ≤ n) (h1 : n ≤ 1023) : bits .and .i64 n 31 = n % 32 := fin1024 (p := fun n => bits .and .i64 n 31 = n % 32) (by decide +kernel) h0 h1
theorem st7 {n : Int} (h0 : 0 ≤ n) (h1 : n ≤ 1023) : bits .and .i64 (n / 32) 7 = n / 32 % 8 := fin1024 (p := fun n => bits .and .i64 (n / 32) 7 = n / 32 % 8) (by decide +kernel) h0 h1

set_option maxHeartbeats 4000000 in
theorem specWith (w : World) (lo hi : Nat) (r : Pl.Rg) (a b : Option Addr) (ca cb : Nat) (n : Int) (hr : RegAt w lo hi r a b) (hh : hi ≤ w.heap.size) (hg : Pl.Good r) (h0 : 0 ≤ n) (h1 : n ≤ 1023) :
    Calls Try.prog 57 #[.agg #[.slice a r.xs.length ca, .slice b r.ys.length cb, .int .i64 r.o, .int .i64 r.p, .int .i64 r.f, .int .i64 r.m, .bool r.s, .bool r.t], .int .i64 n] w fun e w' => e = .returned (.agg #[.slice a (Pl.withR r n).xs.length ca, .slice b (Pl.withR r n).ys.length cb, .int .i64 (Pl.withR r n).o, .int .i64 (Pl.withR r n).p, .int .i64 (Pl.withR r n).f, .int .i64 (Pl.withR r n).m, .bool (Pl.withR r n).s, .bool (Pl.withR r n).t]) ∧ RegAt w' lo hi (Pl.withR r n) a b ∧ Kept lo hi w w' := by
  have e1 := st256 h0 h1
  have e2 := st512 h0 h1
  have e3 := st31 h0 h1
  have e4 := st7 h0 h1
  have HR := hide hr
  by_cases hs : Pl.stSuper n = r.s
  · have q1 : (Pl.stSuper n != r.s) = false := by simp [hs]
    have E : Hid (Pl.withR r n = { r with t := Pl.stTrace n, m := n / 32 % 8, f := n % 32 }) := hide (by unfold Pl.withR; rw [if_pos hs, hs])
    clear hr
    go_enter Try.func57, Try.ntmps57
    go_wp2_with fail
    refine bodyPost_ret (v := .agg #[.slice a r.xs.length ca, .slice b r.ys.length cb, .int .i64 r.o, .int .i64 r.p, .int .i64 (n % 32), .int .i64 (n / 32 % 8), .bool r.s, .bool (Pl.stTrace n)]) ?_ rfl ?_
    · rw [results_one rfl]; go_simp
    · rw [E.out]
      exact ⟨rfl, HR.out.kept (kept_new (kept_alloc _ _) _) (by omega), (kept_new (kept_alloc _ _) _).any⟩
  · have q1 : (Pl.stSuper n == r.s) = false := by simpa using hs
    have E : Hid (Pl.withR r n = { r with ys := r.ys.set 3 r.o, o := el r.ys 3, s := Pl.stSuper n, t := Pl.stTrace n, m := n / 32 % 8, f := n % 32 }) := hide (by unfold Pl.withR; rw [if_neg hs])
    have h4 := hg.a4
    have hl : (3 : Int) < (r.ys.length : Int) := by omega
    have HL := hide h4
    clear h4
    obtain ⟨s1, s2, s3⟩ := hr
    rcases s2 with ⟨_, e⟩ | ⟨g, rfl, b0, b1, hown⟩
    · rw [e] at hl; simp at hl
    · have b9 : g < w.heap.size := by omega
      have HO := hide hown
      have HX := hide s1
      have HN := hide s3
      have c3 : w.cell? ⟨g, 3, none⟩ = some (.int .i64 (el r.ys 3)) := (hown 3 (by have := HL.out; omega)).1
      have f3 := (hown 3 (by have := HL.out; omega)).2
      clear hown s1 s3 hs
      go_enter Try.func57, Try.ntmps57
      go_wp2_with fail
      refine bodyPost_ret (v := .agg #[.slice a r.xs.length ca, .slice (some ⟨g, 0, none⟩) r.ys.length cb, .int .i64 (el r.ys 3), .int .i64 r.p, .int .i64 (n % 32), .int .i64 (n / 32 % 8), .bool (Pl.stSuper n), .bool (Pl.stTrace n)]) ?_ rfl ?_
      · rw [results_one rfl]; go_simp
      · rw [E.out]
        refine ⟨?_, (HR.out.setY (k := 3) r.o (by have := HL.out; omega)).kept (kept_new (kept_alloc _ _) _) (by omega), (kept_set (Kept.refl _ _ _) _ _ _ (.inl ⟨b0, b1⟩)).trans (kept_new (kept_alloc _ _) _).any⟩
        simp

set_option maxRecDepth 20000 in
set_option maxHeartbeats 8000000 in
theorem specWithStatus (w : World) (r : Pl.Rg) (a b : Option Addr) (ca cb : Nat) (n : Int) (ha : IRow w a r.xs) (hb : IRow w b r.ys) (lx : r.xs.length ≤ 2000000) (ly : r.ys.length ≤ 2000000) :
    Calls Try.prog 27 #[.agg #[.slice a r.xs.length ca, .slice b r.ys.length cb, .int .i64 r.o, .int .i64 r.p, .int .i64 r.f, .int .i64 r.m, .bool r.s, .bool r.t], .int .i64 n] w fun e w' => ∃ (a' b' : Option Addr) (ca' cb' : Nat), e = .returned (.tuple #[.agg #[.slice a' (Pl.wsR r n).xs.length ca', .slice b' (Pl.wsR r n).ys.length cb', .int .i64 (Pl.wsR r n).o, .int .i64 (Pl.wsR r n).p, .int .i64 (Pl.wsR r n).f, .int .i64 (Pl.wsR r n).m, .bool (Pl.wsR r n).s, .bool (Pl.wsR r n).t], .bool (Pl.wsOk r n)]) ∧ RegIn w' w.heap.size (Pl.wsR r n) a' b' ∧ Kept 0 0 w w' := by
  have HA := hide ha
  have HB := hide hb
  have K0 := hide (kept_new (kept_alloc w (.cells #[.slice a r.xs.length ca, .slice b r.ys.length cb, .int .i64 r.o, .int .i64 r.p, .int .i64 r.f, .int .i64 r.m, .bool r.s, .bool r.t] 24)) (.cells #[.slice none 0 0, .slice none 0 0, .int .i64 0, .int .i64 0, .int .i64 0, .int .i64 0, .bool false, .bool false] 24))
  have P0 := hide ((Blk.new w #[.slice a r.xs.length ca, .slice b r.ys.length cb, .int .i64 r.o, .int .i64 r.p, .int .i64 r.f, .int .i64 r.m, .bool r.s, .bool r.t] 24).alloc (.cells #[.slice none 0 0, .slice none 0 0, .int .i64 0, .int .i64 0, .int .i64 0, .int .i64 0, .bool false, .bool false] 24))
  have R0 := Blk.new (w.alloc (.cells #[.slice a r.xs.length ca, .slice b r.ys.length cb, .int .i64 r.o, .int .i64 r.p, .int .i64 r.f, .int .i64 r.m, .bool r.s, .bool r.t] 24)) #[.slice none 0 0, .slice none 0 0, .int .i64 0, .int .i64 0, .int .i64 0, .int .i64 0, .bool false, .bool false] 24
  simp only [World.size_alloc] at R0
  replace R0 := hide R0
  clear ha hb
  cases h0 : Pl.rgOk r
  · have E : Hid (Pl.wsOk r n = false) := hide (by simp [Pl.wsOk, h0])
    go_enter Try.func27, Try.ntmps27
    go_wp2_with (first | (go_at_call 17; refine (specGoodRegs _ r a b ca cb (HA.out.keptS K0.out) (HB.out.keptS K0.out) lx ly).mono ?_; rintro e w1 ⟨rfl, k1⟩; rw [h0]; have R1 := hide (R0.out.kept0 k1); have P1 := hide (P0.out.kept0 k1); have K1 := hide (K0.out.trans k1); have y0 := R1.out.cell (i := 0) rfl; have yf0 := R1.out.frozen 0; have y1 := R1.out.cell (i := 1) rfl; have yf1 := R1.out.frozen 1; have y2 := R1.out.cell (i := 2) rfl; have yf2 := R1.out.frozen 2; have y3 := R1.out.cell (i := 3) rfl; have yf3 := R1.out.frozen 3; have y4 := R1.out.cell (i := 4) rfl; have yf4 := R1.out.frozen 4; have y5 := R1.out.cell (i := 5) rfl; have yf5 := R1.out.frozen 5; have y6 := R1.out.cell (i := 6) rfl; have yf6 := R1.out.frozen 6; have y7 := R1.out.cell (i := 7) rfl; have yf7 := R1.out.frozen 7))
    refine bodyPost_ret (v := .tuple #[.agg #[.slice none 0 0, .slice none 0 0, .int .i64 0, .int .i64 0, .int .i64 0, .int .i64 0, .bool false, .bool false], .bool false]) ?_ rfl ?_
    · rw [results_cell_tmp rfl]; go_simp
    · refine ⟨none, none, 0, 0, ?_, ⟨.inl ⟨rfl, ?_⟩, .inl ⟨rfl, ?_⟩, ?_⟩, ?_⟩
      · simp [Pl.wsR, E.out, Pl.rgNo]
      · simp [Pl.wsR, E.out, Pl.rgNo]
      · simp [Pl.wsR, E.out, Pl.rgNo]
      · intro g hg; simp [blk] at hg
      · exact (kept_set (kept_set (kept_set (kept_set (kept_set (kept_set (kept_set (kept_set K1.out _ _ _ (.inr (by omega))) _ _ _ (.inr (by omega))) _ _ _ (.inr (by omega))) _ _ _ (.inr (by omega))) _ _ _ (.inr (by omega))) _ _ _ (.inr (by omega))) _ _ _ (.inr (by omega))) _ _ _ (.inr (by omega)))
  · cases h1 : Pl.within n 0 1023
    · have E : Hid (Pl.wsOk r n = false) := hide (by simp [Pl.wsOk, h0, h1])
      go_enter Try.func27, Try.ntmps27
      go_wp2_with (first | (go_at_call 17; refine (specGoodRegs _ r a b ca cb (HA.out.keptS K0.out) (HB.out.keptS K0.out) lx ly).mono ?_; rintro e w1 ⟨rfl, k1⟩; rw [h0]; have R1 := hide (R0.out.kept0 k1); have P1 := hide (P0.out.kept0 k1); have K1 := hide (K0.out.trans k1); have y0 := R1.out.cell (i := 0) rfl; have yf0 := R1.out.frozen 0; have y1 := R1.out.cell (i := 1) rfl; have yf1 := R1.out.frozen 1; have y2 := R1.out.cell (i := 2) rfl; have yf2 := R1.out.frozen 2; have y3 := R1.out.cell (i := 3) rfl; have yf3 := R1.out.frozen 3; have y4 := R1.out.cell (i := 4) rfl; have yf4 := R1.out.frozen 4; have y5 := R1.out.cell (i := 5) rfl; have yf5 := R1.out.frozen 5; have y6 := R1.out.cell (i := 6) rfl; have yf6 := R1.out.frozen 6; have y7 := R1.out.cell (i := 7) rfl; have yf7 := R1.out.frozen 7) | (go_at_call 41; refine (l1In _ _ _ _).mono ?_; rintro e w' ⟨rfl, hw⟩; have hw2 := hw.symm; clear hw; subst hw2; rw [show (decide (0 ≤ n) && decide (n ≤ 1023)) = Pl.within n 0 1023 from rfl, h1]))
      refine bodyPost_ret (v := .tuple #[.agg #[.slice none 0 0, .slice none 0 0, .int .i64 0, .int .i64 0, .int .i64 0, .int .i64 0, .bool false, .bool false], .bool false]) ?_ rfl ?_
      · rw [results_cell_tmp rfl]; go_simp
      · refine ⟨none, none, 0, 0, ?_, ⟨.inl ⟨rfl, ?_⟩, .inl ⟨rfl, ?_⟩, ?_⟩, ?_⟩
        · simp [Pl.wsR, E.out, Pl.rgNo]
        · simp [Pl.wsR, E.out, Pl.rgNo]
        · simp [Pl.wsR, E.out, Pl.rgNo]
        · intro g hg; simp [blk] at hg
        · exact (kept_set (kept_set (kept_set (kept_set (kept_set (kept_set (kept_set (kept_set K1.out _ _ _ (.inr (by omega))) _ _ _ (.inr (by omega))) _ _ _ (.inr (by omega))) _ _ _ (.inr (by omega))) _ _ _ (.inr (by omega))) _ _ _ (.inr (by omega))) _ _ _ (.inr (by omega))) _ _ _ (.inr (by omega)))
    · have E : Hid (Pl.wsOk r n = true) := hide (by simp [Pl.wsOk, h0, h1])
      have HG := hide (Pl.good_of h0)
      obtain ⟨n0, n9⟩ : 0 ≤ n ∧ n ≤ 1023 := by simpa [Pl.within] using h1
      obtain ⟨Z, hZ⟩ : ∃ Z, Z = Pl.withR r n := ⟨_, rfl⟩
      have EZ : Hid (Pl.wsR r n = Z) := hide (by rw [hZ]; simp [Pl.wsR, E.out])
      have HZ := hide hZ
      clear hZ
      go_enter Try.func27, Try.ntmps27
      go_wp2_with (first | (go_at_call 17; refine (specGoodRegs _ r a b ca cb (HA.out.keptS K0.out) (HB.out.keptS K0.out) lx ly).mono ?_; rintro e w1 ⟨rfl, k1⟩; rw [h0]; have R1 := hide (R0.out.kept0 k1); have P1 := hide (P0.out.kept0 k1); have K1 := hide (K0.out.trans k1); have p0 := P1.out.cell (i := 0) rfl; have p1 := P1.out.cell (i := 1) rfl; have p2 := P1.out.cell (i := 2) rfl; have p3 := P1.out.cell (i := 3) rfl; have p4 := P1.out.cell (i := 4) rfl; have p5 := P1.out.cell (i := 5) rfl; have p6 := P1.out.cell (i := 6) rfl; have p7 := P1.out.cell (i := 7) rfl) | (go_at_call 41; refine (l1In _ _ _ _).mono ?_; rintro e w' ⟨rfl, hw⟩; have hw2 := hw.symm; clear hw; subst hw2; rw [show (decide (0 ≤ n) && decide (n ≤ 1023)) = Pl.within n 0 1023 from rfl, h1]))
      refine (specOwn w1 r a b ca cb (HA.out.keptS K1.out) (HB.out.keptS K1.out) lx ly).mono ?_
      rintro e w3 ⟨a3, b3, c3, d3, rfl, hR3, k3⟩
      have n1 := R1.out.lt
      have s1 := K1.out.size
      have n3 := k3.size
      have R3 := hide (R1.out.kept0 k3)
      have K3 := hide (K1.out.trans k3)
      clear k3 p0 p1 p2 p3 p4 p5 p6 p7
      go_wp2_with fail
      have CN := specWith w3 w1.heap.size w3.heap.size r a3 b3 c3 d3 n (RegAt.of hR3) (Nat.le_refl _) HG.out n0 n9
      rw [← HZ.out] at CN
      refine CN.mono ?_
      clear CN
      rintro e w4 ⟨rfl, hR4, k4⟩
      have s4 := k4.size
      replace hR4 := hR4.toIn s4
      have R4 := hide (R3.out.kept k4 (by omega))
      have K4 := hide (kept_over K3.out k4 (by omega))
      have y0 := R4.out.cell (i := 0) rfl
      have yf0 := R4.out.frozen 0
      have y1 := R4.out.cell (i := 1) rfl
      have yf1 := R4.out.frozen 1
      have y2 := R4.out.cell (i := 2) rfl
      have yf2 := R4.out.frozen 2
      have y3 := R4.out.cell (i := 3) rfl
      have yf3 := R4.out.frozen 3
      have y4 := R4.out.cell (i := 4) rfl
      have yf4 := R4.out.frozen 4
      have y5 := R4.out.cell (i := 5) rfl
      have yf5 := R4.out.frozen 5
      have y6 := R4.out.cell (i := 6) rfl
      have yf6 := R4.out.frozen 6
      have y7 := R4.out.cell (i := 7) rfl
      have yf7 := R4.out.frozen 7
      clear k4
      go_wp2_with fail
      refine bodyPost_ret (v := .tuple #[.agg #[.slice a3 (Z).xs.length c3, .slice b3 (Z).ys.length d3, .int .i64 (Z).o, .int .i64 (Z).p, .int .i64 (Z).f, .int .i64 (Z).m, .bool (Z).s, .bool (Z).t], .bool true]) ?_ rfl ?_
      · rw [results_cell_tmp rfl]; go_simp
      · refine ⟨a3, b3, c3, d3, ?_, ?_, ?_⟩
        · rw [EZ.out, E.out]
        · rw [EZ.out]; exact ((((((((hR4.set _ _ _ (by omega)).set _ _ _ (by omega)).set _ _ _ (by omega)).set _ _ _ (by omega)).set _ _ _ (by omega)).set _ _ _ (by omega)).set _ _ _ (by omega)).set _ _ _ (by omega)).base (by omega)
        · exact (kept_set (kept_set (kept_set (kept_set (kept_set (kept_set (kept_set (kept_set K4.out _ _ _ (.inr (by omega))) _ _ _ (.inr (by omega))) _ _ _ (.inr (by omega))) _ _ _ (.inr (by omega))) _ _ _ (.inr (by omega))) _ _ _ (.inr (by omega))) _ _ _ (.inr (by omega))) _ _ _ (.inr (by omega)))
end Go.Proofs.Ytikmelkobbbgnaa
