/- What the model of PutData answers, for every argument. -/
import Derived.Test.YtikmelkobbbgnaaSpecReg4
import Derived.BigRegion
import Derived.Deep.DeepCutAuto
namespace Go.Proofs.Ytikmelkobbbgnaa
open Go.RowKit
set_option linter.unusedVariables false

theorem andNat (x : Nat) : x &&& 65280 = x / 256 % 256 * 256 := by
  apply Nat.eq_of_testBit_eq
  intro i
  rw [Nat.testBit_and, show (65280 : Nat) = (2 ^ 8 - 1) * 2 ^ 8 from by decide, Nat.testBit_mul_two_pow, Nat.testBit_two_pow_sub_one, show x / 256 % 256 * 256 = x / 2 ^ 8 % 2 ^ 8 * 2 ^ 8 from rfl, Nat.testBit_mul_two_pow, Nat.testBit_mod_two_pow, Nat.testBit_div_two_pow]
  by_cases h : 8 ≤ i
  · have e : i - 8 + 8 = i := by omega
    simp [h, e, Bool.and_comm]
  · simp [h]
theorem and65280 (a : Int) : bits .and .i64 a 65280 = a / 256 % 256 * 256 := by
  show IntKind.i64.wrap ((BitVec.ofInt 64 a &&& BitVec.ofInt 64 65280).toNat : Int) = _
  rw [BitVec.toNat_and, BitVec.toNat_ofInt, show (BitVec.ofInt 64 65280).toNat = 65280 from by decide, andNat, IntKind.wrap_i64]
  omega
theorem putBits {x v : Int} (h0 : 0 ≤ x) (h1 : x ≤ 65535) (v0 : 0 ≤ v) (v1 : v ≤ 255) : bits .or .i64 (bits .and .i64 x 65280) v = x / 256 * 256 + v := by
  rw [and65280, show x / 256 % 256 = x / 256 from by omega]
  exact bits_join .i64 62 (by decide) Pl.wraps_i64 8 (x / 256 * 256) v (by omega) (by omega) (by omega) (by omega) (by omega) (by omega)

set_option maxHeartbeats 4000000 in
theorem specPut (w : World) (lo hi : Nat) (r : Pl.Rg) (a b : Option Addr) (ca cb : Nat) (z k v : Int) (hr : RegAt w lo hi r a b) (hh : hi ≤ w.heap.size) (hg : Pl.Good r) (hz : z = 1 ∨ z = 2) (k0 : 0 ≤ k) (k1 : k ≤ 3) (hv : Pl.okv z v = true) :
    Calls Try.prog 60 #[.agg #[.slice a r.xs.length ca, .slice b r.ys.length cb, .int .i64 r.o, .int .i64 r.p, .int .i64 r.f, .int .i64 r.m, .bool r.s, .bool r.t], .int .i64 z, .int .i64 k, .int .i64 v] w fun e w' => e = .returned (.agg #[.slice a (Pl.putR r z k v).xs.length ca, .slice b (Pl.putR r z k v).ys.length cb, .int .i64 (Pl.putR r z k v).o, .int .i64 (Pl.putR r z k v).p, .int .i64 (Pl.putR r z k v).f, .int .i64 (Pl.putR r z k v).m, .bool (Pl.putR r z k v).s, .bool (Pl.putR r z k v).t]) ∧ RegAt w' lo hi (Pl.putR r z k v) a b ∧ Kept lo hi w w' := by
  obtain ⟨kn, rfl⟩ : ∃ kn : Nat, k = (kn : Int) := ⟨k.toNat, by omega⟩
  have HR := hide hr
  have h4 := hg.d4
  have hl : (kn : Int) < (r.xs.length : Int) := by omega
  have HL := hide h4
  obtain ⟨x0, x1⟩ := hg.dw kn (by omega)
  clear h4
  obtain ⟨s1, s2, s3⟩ := hr
  rcases s1 with ⟨_, e⟩ | ⟨g, rfl, b0, b1, hown⟩
  · rw [e] at hl; simp at hl; omega
  · have c3 : w.cell? ⟨g, kn, none⟩ = some (.int .i64 (el r.xs kn)) := (hown kn (by omega)).1
    have f3 := (hown kn (by omega)).2
    have b9 : g < w.heap.size := by omega
    clear hown s2 s3
    rcases hz with rfl | rfl
    · obtain ⟨v0, v1⟩ : 0 ≤ v ∧ v ≤ 255 := by simp [Pl.okv, Pl.top] at hv; omega
      have hb := putBits x0 x1 v0 v1
      have E : Hid (Pl.putR r 1 (kn : Int) v = { r with xs := r.xs.set kn (el r.xs kn / 256 * 256 + v) }) := hide (by simp [Pl.putR])
      go_enter Try.func60, Try.ntmps60
      go_upto_region 2 with fail
      obtain ⟨X, hX⟩ : ∃ X : World, X = (w.alloc (.cells #[.slice (some ⟨g, 0, none⟩) r.xs.length ca, .slice b r.ys.length cb, .int .i64 r.o, .int .i64 r.p, .int .i64 r.f, .int .i64 r.m, .bool r.s, .bool r.t] 24)).alloc (.cells #[.slice none 0 0, .slice none 0 0, .int .i64 0, .int .i64 0, .int .i64 0, .int .i64 0, .bool false, .bool false] 24) := ⟨_, rfl⟩
      have KX : Hid (Kept 0 0 w X) := hide (by rw [hX]; exact kept_new (kept_alloc _ _) _)
      have B0 : Hid (Blk X w.heap.size #[.slice (some ⟨g, 0, none⟩) r.xs.length ca, .slice b r.ys.length cb, .int .i64 r.o, .int .i64 r.p, .int .i64 r.f, .int .i64 r.m, .bool r.s, .bool r.t] 24) := hide (by rw [hX]; exact (Blk.new w _ _).alloc _)
      have R0 : Hid (Blk X (w.heap.size + 1) #[.slice none 0 0, .slice none 0 0, .int .i64 0, .int .i64 0, .int .i64 0, .int .i64 0, .bool false, .bool false] 24) := hide (by rw [hX]; have := Blk.new (w.alloc (.cells #[.slice (some ⟨g, 0, none⟩) r.xs.length ca, .slice b r.ys.length cb, .int .i64 r.o, .int .i64 r.p, .int .i64 r.f, .int .i64 r.m, .bool r.s, .bool r.t] 24)) #[.slice none 0 0, .slice none 0 0, .int .i64 0, .int .i64 0, .int .i64 0, .int .i64 0, .bool false, .bool false] 24; simpa only [World.size_alloc] using this)
      rw [← hX]
      have d3 : X.cell? ⟨g, kn, none⟩ = some (.int .i64 (el r.xs kn)) := by rw [hX]; go_simp
      have g3 : X.frozen? ⟨g, kn, none⟩ = false := by rw [hX]; go_simp
      clear hX c3 f3
      have y0 := B0.out.cell (i := 0) rfl
      go_region
      have A3 := ((HR.out.kept (KX.out) (by omega)).setX (k := kn) (el r.xs kn / 256 * 256 + v) (by have := HL.out; omega)).kept (kept_drew (Kept.refl 0 0 _)) (by omega)
      have K3 : Kept lo hi w (X.setCell ⟨g, kn, none⟩ (.int .i64 (el r.xs kn / 256 * 256 + v))).drew := kept_drew (kept_set KX.out.any _ _ _ (.inl ⟨b0, b1⟩))
      have B1 : Hid (Blk (X.setCell ⟨g, kn, none⟩ (.int .i64 (el r.xs kn / 256 * 256 + v))).drew w.heap.size #[.slice (some ⟨g, 0, none⟩) r.xs.length ca, .slice b r.ys.length cb, .int .i64 r.o, .int .i64 r.p, .int .i64 r.f, .int .i64 r.m, .bool r.s, .bool r.t] 24) := hide (B0.out.other _ _ _ (by omega))
      have R1 : Hid (Blk (X.setCell ⟨g, kn, none⟩ (.int .i64 (el r.xs kn / 256 * 256 + v))).drew (w.heap.size + 1) #[.slice none 0 0, .slice none 0 0, .int .i64 0, .int .i64 0, .int .i64 0, .int .i64 0, .bool false, .bool false] 24) := hide (R0.out.other _ _ _ (by omega))
      have nR := R1.out.lt
      obtain ⟨Y, hY⟩ : ∃ Y : World, Y = (X.setCell ⟨g, kn, none⟩ (.int .i64 (el r.xs kn / 256 * 256 + v))).drew := ⟨_, rfl⟩
      rw [← hY] at A3 K3 B1 R1 nR ⊢
      clear hY d3 g3 y0
      have m0 := B1.out.cell (i := 0) rfl
      have m1 := B1.out.cell (i := 1) rfl
      have m2 := B1.out.cell (i := 2) rfl
      have m3 := B1.out.cell (i := 3) rfl
      have m4 := B1.out.cell (i := 4) rfl
      have m5 := B1.out.cell (i := 5) rfl
      have m6 := B1.out.cell (i := 6) rfl
      have m7 := B1.out.cell (i := 7) rfl
      have n0 := R1.out.cell (i := 0) rfl
      have nf0 := R1.out.frozen 0
      have n1 := R1.out.cell (i := 1) rfl
      have nf1 := R1.out.frozen 1
      have n2 := R1.out.cell (i := 2) rfl
      have nf2 := R1.out.frozen 2
      have n3 := R1.out.cell (i := 3) rfl
      have nf3 := R1.out.frozen 3
      have n4 := R1.out.cell (i := 4) rfl
      have nf4 := R1.out.frozen 4
      have n5 := R1.out.cell (i := 5) rfl
      have nf5 := R1.out.frozen 5
      have n6 := R1.out.cell (i := 6) rfl
      have nf6 := R1.out.frozen 6
      have n7 := R1.out.cell (i := 7) rfl
      have nf7 := R1.out.frozen 7
      go_wp2_with fail
      refine bodyPost_ret (v := .agg #[.slice (some ⟨g, 0, none⟩) r.xs.length ca, .slice b r.ys.length cb, .int .i64 r.o, .int .i64 r.p, .int .i64 r.f, .int .i64 r.m, .bool r.s, .bool r.t]) ?_ rfl ?_
      · rw [results_one rfl]; go_simp
      · rw [E.out]
        refine ⟨?_, ((((((((A3.set _ _ _ (.inl (by omega))).set _ _ _ (.inl (by omega))).set _ _ _ (.inl (by omega))).set _ _ _ (.inl (by omega))).set _ _ _ (.inl (by omega))).set _ _ _ (.inl (by omega))).set _ _ _ (.inl (by omega))).set _ _ _ (.inl (by omega))), (kept_set (kept_set (kept_set (kept_set (kept_set (kept_set (kept_set (kept_set K3 _ _ _ (.inr (by omega))) _ _ _ (.inr (by omega))) _ _ _ (.inr (by omega))) _ _ _ (.inr (by omega))) _ _ _ (.inr (by omega))) _ _ _ (.inr (by omega))) _ _ _ (.inr (by omega))) _ _ _ (.inr (by omega)))⟩
        simp
    · have E : Hid (Pl.putR r 2 (kn : Int) v = { r with xs := r.xs.set kn v }) := hide (by simp [Pl.putR])
      go_enter Try.func60, Try.ntmps60
      go_wp2_with fail
      refine bodyPost_ret (v := .agg #[.slice (some ⟨g, 0, none⟩) r.xs.length ca, .slice b r.ys.length cb, .int .i64 r.o, .int .i64 r.p, .int .i64 r.f, .int .i64 r.m, .bool r.s, .bool r.t]) ?_ rfl ?_
      · rw [results_one rfl]; go_simp
      · rw [E.out]
        refine ⟨?_, (HR.out.setX (k := kn) v (by have := HL.out; omega)).kept (kept_new (kept_alloc _ _) _) (by omega), (kept_set (Kept.refl _ _ _) _ _ _ (.inl ⟨b0, b1⟩)).trans (kept_new (kept_alloc _ _) _).any⟩
        simp

set_option maxRecDepth 20000 in
set_option maxHeartbeats 8000000 in
theorem specPutData (w : World) (r : Pl.Rg) (a b : Option Addr) (ca cb : Nat) (z k v : Int) (ha : IRow w a r.xs) (hb : IRow w b r.ys) (lx : r.xs.length ≤ 2000000) (ly : r.ys.length ≤ 2000000) :
    Calls Try.prog 29 #[.agg #[.slice a r.xs.length ca, .slice b r.ys.length cb, .int .i64 r.o, .int .i64 r.p, .int .i64 r.f, .int .i64 r.m, .bool r.s, .bool r.t], .int .i64 z, .int .i64 k, .int .i64 v] w fun e w' => ∃ (a' b' : Option Addr) (ca' cb' : Nat), e = .returned (.tuple #[.agg #[.slice a' (Pl.pdR r z k v).xs.length ca', .slice b' (Pl.pdR r z k v).ys.length cb', .int .i64 (Pl.pdR r z k v).o, .int .i64 (Pl.pdR r z k v).p, .int .i64 (Pl.pdR r z k v).f, .int .i64 (Pl.pdR r z k v).m, .bool (Pl.pdR r z k v).s, .bool (Pl.pdR r z k v).t], .bool (Pl.pdOk r z k v)]) ∧ RegIn w' w.heap.size (Pl.pdR r z k v) a' b' ∧ Kept 0 0 w w' := by
  have HA := hide ha
  have HB := hide hb
  have K0 := hide (kept_new (kept_alloc w (.cells #[.slice a r.xs.length ca, .slice b r.ys.length cb, .int .i64 r.o, .int .i64 r.p, .int .i64 r.f, .int .i64 r.m, .bool r.s, .bool r.t] 24)) (.cells #[.slice none 0 0, .slice none 0 0, .int .i64 0, .int .i64 0, .int .i64 0, .int .i64 0, .bool false, .bool false] 24))
  have P0 := hide ((Blk.new w #[.slice a r.xs.length ca, .slice b r.ys.length cb, .int .i64 r.o, .int .i64 r.p, .int .i64 r.f, .int .i64 r.m, .bool r.s, .bool r.t] 24).alloc (.cells #[.slice none 0 0, .slice none 0 0, .int .i64 0, .int .i64 0, .int .i64 0, .int .i64 0, .bool false, .bool false] 24))
  have R0 := Blk.new (w.alloc (.cells #[.slice a r.xs.length ca, .slice b r.ys.length cb, .int .i64 r.o, .int .i64 r.p, .int .i64 r.f, .int .i64 r.m, .bool r.s, .bool r.t] 24)) #[.slice none 0 0, .slice none 0 0, .int .i64 0, .int .i64 0, .int .i64 0, .int .i64 0, .bool false, .bool false] 24
  simp only [World.size_alloc] at R0
  replace R0 := hide R0
  clear ha hb
  cases h0 : Pl.rgOk r
  · have E : Hid (Pl.pdOk r z k v = false) := hide (by simp [Pl.pdOk, h0])
    go_enter Try.func29, Try.ntmps29
    go_wp2_with (first | (go_at_call 17; refine (specGoodRegs _ r a b ca cb (HA.out.keptS K0.out) (HB.out.keptS K0.out) lx ly).mono ?_; rintro e w1 ⟨rfl, k1⟩; rw [h0]; have R1 := hide (R0.out.kept0 k1); have P1 := hide (P0.out.kept0 k1); have K1 := hide (K0.out.trans k1); have y0 := R1.out.cell (i := 0) rfl; have yf0 := R1.out.frozen 0; have y1 := R1.out.cell (i := 1) rfl; have yf1 := R1.out.frozen 1; have y2 := R1.out.cell (i := 2) rfl; have yf2 := R1.out.frozen 2; have y3 := R1.out.cell (i := 3) rfl; have yf3 := R1.out.frozen 3; have y4 := R1.out.cell (i := 4) rfl; have yf4 := R1.out.frozen 4; have y5 := R1.out.cell (i := 5) rfl; have yf5 := R1.out.frozen 5; have y6 := R1.out.cell (i := 6) rfl; have yf6 := R1.out.frozen 6; have y7 := R1.out.cell (i := 7) rfl; have yf7 := R1.out.frozen 7))
    refine bodyPost_ret (v := .tuple #[.agg #[.slice none 0 0, .slice none 0 0, .int .i64 0, .int .i64 0, .int .i64 0, .int .i64 0, .bool false, .bool false], .bool false]) ?_ rfl ?_
    · rw [results_cell_tmp rfl]; go_simp
    · refine ⟨none, none, 0, 0, ?_, ⟨.inl ⟨rfl, ?_⟩, .inl ⟨rfl, ?_⟩, ?_⟩, ?_⟩
      · simp [Pl.pdR, E.out, Pl.rgNo]
      · simp [Pl.pdR, E.out, Pl.rgNo]
      · simp [Pl.pdR, E.out, Pl.rgNo]
      · intro g hg; simp [blk] at hg
      · exact (kept_set (kept_set (kept_set (kept_set (kept_set (kept_set (kept_set (kept_set K1.out _ _ _ (.inr (by omega))) _ _ _ (.inr (by omega))) _ _ _ (.inr (by omega))) _ _ _ (.inr (by omega))) _ _ _ (.inr (by omega))) _ _ _ (.inr (by omega))) _ _ _ (.inr (by omega))) _ _ _ (.inr (by omega)))
  · cases h1 : Pl.okv z v
    · have E : Hid (Pl.pdOk r z k v = false) := hide (by simp [Pl.pdOk, h0, h1])
      go_enter Try.func29, Try.ntmps29
      go_wp2_with (first | (go_at_call 17; refine (specGoodRegs _ r a b ca cb (HA.out.keptS K0.out) (HB.out.keptS K0.out) lx ly).mono ?_; rintro e w1 ⟨rfl, k1⟩; rw [h0]; have R1 := hide (R0.out.kept0 k1); have P1 := hide (P0.out.kept0 k1); have K1 := hide (K0.out.trans k1); have y0 := R1.out.cell (i := 0) rfl; have yf0 := R1.out.frozen 0; have y1 := R1.out.cell (i := 1) rfl; have yf1 := R1.out.frozen 1; have y2 := R1.out.cell (i := 2) rfl; have yf2 := R1.out.frozen 2; have y3 := R1.out.cell (i := 3) rfl; have yf3 := R1.out.frozen 3; have y4 := R1.out.cell (i := 4) rfl; have yf4 := R1.out.frozen 4; have y5 := R1.out.cell (i := 5) rfl; have yf5 := R1.out.frozen 5; have y6 := R1.out.cell (i := 6) rfl; have yf6 := R1.out.frozen 6; have y7 := R1.out.cell (i := 7) rfl; have yf7 := R1.out.frozen 7) | (go_at_call 59; refine (l1Value _ _ _).mono ?_; rintro e w' ⟨rfl, hw⟩; have hw2 := hw.symm; clear hw; subst hw2; rw [h1]))
      refine bodyPost_ret (v := .tuple #[.agg #[.slice none 0 0, .slice none 0 0, .int .i64 0, .int .i64 0, .int .i64 0, .int .i64 0, .bool false, .bool false], .bool false]) ?_ rfl ?_
      · rw [results_cell_tmp rfl]; go_simp
      · refine ⟨none, none, 0, 0, ?_, ⟨.inl ⟨rfl, ?_⟩, .inl ⟨rfl, ?_⟩, ?_⟩, ?_⟩
        · simp [Pl.pdR, E.out, Pl.rgNo]
        · simp [Pl.pdR, E.out, Pl.rgNo]
        · simp [Pl.pdR, E.out, Pl.rgNo]
        · intro g hg; simp [blk] at hg
        · exact (kept_set (kept_set (kept_set (kept_set (kept_set (kept_set (kept_set (kept_set K1.out _ _ _ (.inr (by omega))) _ _ _ (.inr (by omega))) _ _ _ (.inr (by omega))) _ _ _ (.inr (by omega))) _ _ _ (.inr (by omega))) _ _ _ (.inr (by omega))) _ _ _ (.inr (by omega))) _ _ _ (.inr (by omega)))
    · cases h2 : Pl.within k 0 3
      · have E : Hid (Pl.pdOk r z k v = false) := hide (by simp [Pl.pdOk, h0, h1, h2])
        go_enter Try.func29, Try.ntmps29
        go_wp2_with (first | (go_at_call 17; refine (specGoodRegs _ r a b ca cb (HA.out.keptS K0.out) (HB.out.keptS K0.out) lx ly).mono ?_; rintro e w1 ⟨rfl, k1⟩; rw [h0]; have R1 := hide (R0.out.kept0 k1); have P1 := hide (P0.out.kept0 k1); have K1 := hide (K0.out.trans k1); have y0 := R1.out.cell (i := 0) rfl; have yf0 := R1.out.frozen 0; have y1 := R1.out.cell (i := 1) rfl; have yf1 := R1.out.frozen 1; have y2 := R1.out.cell (i := 2) rfl; have yf2 := R1.out.frozen 2; have y3 := R1.out.cell (i := 3) rfl; have yf3 := R1.out.frozen 3; have y4 := R1.out.cell (i := 4) rfl; have yf4 := R1.out.frozen 4; have y5 := R1.out.cell (i := 5) rfl; have yf5 := R1.out.frozen 5; have y6 := R1.out.cell (i := 6) rfl; have yf6 := R1.out.frozen 6; have y7 := R1.out.cell (i := 7) rfl; have yf7 := R1.out.frozen 7) | (go_at_call 59; refine (l1Value _ _ _).mono ?_; rintro e w' ⟨rfl, hw⟩; have hw2 := hw.symm; clear hw; subst hw2; rw [h1]) | (go_at_call 41; refine (l1In _ _ _ _).mono ?_; rintro e w' ⟨rfl, hw⟩; have hw2 := hw.symm; clear hw; subst hw2; rw [show (decide (0 ≤ k) && decide (k ≤ 3)) = Pl.within k 0 3 from rfl, h2]))
        refine bodyPost_ret (v := .tuple #[.agg #[.slice none 0 0, .slice none 0 0, .int .i64 0, .int .i64 0, .int .i64 0, .int .i64 0, .bool false, .bool false], .bool false]) ?_ rfl ?_
        · rw [results_cell_tmp rfl]; go_simp
        · refine ⟨none, none, 0, 0, ?_, ⟨.inl ⟨rfl, ?_⟩, .inl ⟨rfl, ?_⟩, ?_⟩, ?_⟩
          · simp [Pl.pdR, E.out, Pl.rgNo]
          · simp [Pl.pdR, E.out, Pl.rgNo]
          · simp [Pl.pdR, E.out, Pl.rgNo]
          · intro g hg; simp [blk] at hg
          · exact (kept_set (kept_set (kept_set (kept_set (kept_set (kept_set (kept_set (kept_set K1.out _ _ _ (.inr (by omega))) _ _ _ (.inr (by omega))) _ _ _ (.inr (by omega))) _ _ _ (.inr (by omega))) _ _ _ (.inr (by omega))) _ _ _ (.inr (by omega))) _ _ _ (.inr (by omega))) _ _ _ (.inr (by omega)))
      · have E : Hid (Pl.pdOk r z k v = true) := hide (by simp [Pl.pdOk, h0, h1, h2])
        have HG := hide (Pl.good_of h0)
        obtain ⟨n0, n9⟩ : 0 ≤ k ∧ k ≤ 3 := by simpa [Pl.within] using h2
        have hz : z = 1 ∨ z = 2 := by simp [Pl.okv] at h1; omega
        obtain ⟨Z, hZ⟩ : ∃ Z, Z = Pl.putR r z k v := ⟨_, rfl⟩
        have EZ : Hid (Pl.pdR r z k v = Z) := hide (by rw [hZ]; simp [Pl.pdR, E.out])
        have HZ := hide hZ
        clear hZ
        go_enter Try.func29, Try.ntmps29
        go_wp2_with (first | (go_at_call 17; refine (specGoodRegs _ r a b ca cb (HA.out.keptS K0.out) (HB.out.keptS K0.out) lx ly).mono ?_; rintro e w1 ⟨rfl, k1⟩; rw [h0]; have R1 := hide (R0.out.kept0 k1); have P1 := hide (P0.out.kept0 k1); have K1 := hide (K0.out.trans k1); have p0 := P1.out.cell (i := 0) rfl; have p1 := P1.out.cell (i := 1) rfl; have p2 := P1.out.cell (i := 2) rfl; have p3 := P1.out.cell (i := 3) rfl; have p4 := P1.out.cell (i := 4) rfl; have p5 := P1.out.cell (i := 5) rfl; have p6 := P1.out.cell (i := 6) rfl; have p7 := P1.out.cell (i := 7) rfl) | (go_at_call 59; refine (l1Value _ _ _).mono ?_; rintro e w' ⟨rfl, hw⟩; have hw2 := hw.symm; clear hw; subst hw2; rw [h1]) | (go_at_call 41; refine (l1In _ _ _ _).mono ?_; rintro e w' ⟨rfl, hw⟩; have hw2 := hw.symm; clear hw; subst hw2; rw [show (decide (0 ≤ k) && decide (k ≤ 3)) = Pl.within k 0 3 from rfl, h2]))
        refine (specOwn w1 r a b ca cb (HA.out.keptS K1.out) (HB.out.keptS K1.out) lx ly).mono ?_
        rintro e w3 ⟨a3, b3, c3, d3, rfl, hR3, k3⟩
        have n1 := R1.out.lt
        have s1 := K1.out.size
        have n3 := k3.size
        have R3 := hide (R1.out.kept0 k3)
        have K3 := hide (K1.out.trans k3)
        clear k3 p0 p1 p2 p3 p4 p5 p6 p7
        go_wp2_with fail
        have CN := specPut w3 w1.heap.size w3.heap.size r a3 b3 c3 d3 z k v (RegAt.of hR3) (Nat.le_refl _) HG.out hz n0 n9 h1
        rw [← HZ.out] at CN
        refine CN.mono ?_
        clear CN
        rintro e w4 ⟨rfl, hR4, k4⟩
        have s4 := k4.size
        replace hR4 := hR4.toIn s4
        have R4 := hide (R3.out.kept k4 (by omega))
        have K4 := hide (kept_over K3.out k4 (by omega))
        have y0 := R4.out.cell (i := 0) rfl
        have yf0 := R4.out.frozen 0
        have y1 := R4.out.cell (i := 1) rfl
        have yf1 := R4.out.frozen 1
        have y2 := R4.out.cell (i := 2) rfl
        have yf2 := R4.out.frozen 2
        have y3 := R4.out.cell (i := 3) rfl
        have yf3 := R4.out.frozen 3
        have y4 := R4.out.cell (i := 4) rfl
        have yf4 := R4.out.frozen 4
        have y5 := R4.out.cell (i := 5) rfl
        have yf5 := R4.out.frozen 5
        have y6 := R4.out.cell (i := 6) rfl
        have yf6 := R4.out.frozen 6
        have y7 := R4.out.cell (i := 7) rfl
        have yf7 := R4.out.frozen 7
        clear k4
        go_wp2_with fail
        refine bodyPost_ret (v := .tuple #[.agg #[.slice a3 (Z).xs.length c3, .slice b3 (Z).ys.length d3, .int .i64 (Z).o, .int .i64 (Z).p, .int .i64 (Z).f, .int .i64 (Z).m, .bool (Z).s, .bool (Z).t], .bool true]) ?_ rfl ?_
        · rw [results_cell_tmp rfl]; go_simp
        · refine ⟨a3, b3, c3, d3, ?_, ?_, ?_⟩
          · rw [EZ.out, E.out]
          · rw [EZ.out]; exact ((((((((hR4.set _ _ _ (by omega)).set _ _ _ (by omega)).set _ _ _ (by omega)).set _ _ _ (by omega)).set _ _ _ (by omega)).set _ _ _ (by omega)).set _ _ _ (by omega)).set _ _ _ (by omega)).base (by omega)
          · exact (kept_set (kept_set (kept_set (kept_set (kept_set (kept_set (kept_set (kept_set K4.out _ _ _ (.inr (by omega))) _ _ _ (.inr (by omega))) _ _ _ (.inr (by omega))) _ _ _ (.inr (by omega))) _ _ _ (.inr (by omega))) _ _ _ (.inr (by omega))) _ _ _ (.inr (by omega))) _ _ _ (.inr (by omega)))
end Go.Proofs.Ytikmelkobbbgnaa
