/- What the model's step does with decimal digits. What the model's step does with the flow of a program. What the model's step does with the flow of a program: to stop, to swap, to extend. What the model's conditions answer. -/
import Derived.Test.YtblddehlkaolbaaGreatDoorJA14
import Derived.Test.YtblddehlkaolbaaGreatDoorJA15
import Derived.Test.YtblddehlkaolbaaGreatDoorJA2
import Derived.Test.YtblddehlkaolbaaGreatDoorJA8
import Derived.Test.YtblddehlkaolbaaGreatDoorJA1
import Derived.Deep.AppendLies
namespace Go.Proofs.YtblddehlkaolbaaGreatDoor
open Go.RowKit
set_option linter.unusedVariables false
namespace Pl
theorem x_of : ∀ j : Nat, j < 32 → fl (bits .and .i64 (j : Int) 16 != 0) 1 = (j : Int) / 16 % 2 := by decide +kernel
theorem z_of : ∀ j : Nat, j < 32 → ∀ C : Nat, C < 2 → bits .or .i64 (bits .and .i64 (j : Int) 4) ((C : Int) * 17) = fl ((j : Int) / 4 % 2 == 1) 4 + (C : Int) * 17 ∧ fl ((j : Int) / 4 % 2 == 1) 4 + (C : Int) * 17 ≤ 31 ∧ 0 ≤ fl ((j : Int) / 4 % 2 == 1) 4 + (C : Int) * 17 := by decide +kernel
theorem o_of : ∀ C : Nat, C < 2 → bits .or .i64 0 ((C : Int) * 17) = (C : Int) * 17 := by decide +kernel
theorem okv_bcd {v : Int} (h : bcd v = true) : okv 1 v = true := by have := bcd_ok h; simp [okv, top]; omega
end Pl
theorem mBcd_bad1 (w : World) (lo mid hi p g2 : Nat) (c : Pl.Mc) (x : Pl.In) (h : MAt w lo mid hi p g2 c) (G : Pl.GM c) (B : Pl.InB x) (hq1 : Pl.bcd (el c.r.xs x.r.toNat % 256) = false) (hq2 : Pl.bcd (el c.r.xs x.k.toNat % 256) = false) :
    Calls Tryz.prog 83 #[.pointer (some ⟨p, 0, none⟩), .agg #[.int .i64 x.op, .int .i64 x.z, .int .i64 x.r, .int .i64 x.m, .int .i64 x.k, .int .i64 x.e, .int .i64 x.s]] w fun e w' => e = .returned (.tuple #[]) ∧ ∃ g3, MAt w' lo mid hi p g3 (c.bcdI x) ∧ Since w lo hi g2 w' g3 := by
  have HG := hide G
  have HI := hide B
  have hl := h.lo
  have KA := hide (kept_alloc w (.cells #[.int .i64 x.op, .int .i64 x.z, .int .i64 x.r, .int .i64 x.m, .int .i64 x.k, .int .i64 x.e, .int .i64 x.s] 79))
  have BA : Blk (w.alloc (.cells #[.int .i64 x.op, .int .i64 x.z, .int .i64 x.r, .int .i64 x.m, .int .i64 x.k, .int .i64 x.e, .int .i64 x.s] 79)) w.heap.size (insC x) 79 := Blk.new w #[.int .i64 x.op, .int .i64 x.z, .int .i64 x.r, .int .i64 x.m, .int .i64 x.k, .int .i64 x.e, .int .i64 x.s] 79
  obtain ⟨X, hX⟩ : ∃ X : World, w.alloc (.cells #[.int .i64 x.op, .int .i64 x.z, .int .i64 x.r, .int .i64 x.m, .int .i64 x.k, .int .i64 x.e, .int .i64 x.s] 79) = X := ⟨_, rfl⟩
  rw [hX] at KA BA
  have HX := hide BA
  have hbw := BA.lt
  obtain ⟨b0, b1, b2, b3, b4, b5, b6⟩ := insAt HX.out
  have HHB : Hid (hi ≤ w.heap.size) := hide hl.2.2.2.2.2.2
  have HGB : Hid (w.heap.size ≠ g2) := hide (by have := hl.2.2.2.2.2.1; omega)
  have HPH : Hid ((lo ≤ p ∧ p < hi) ∨ w.heap.size ≤ p) := hide (by omega)
  have HPB : Hid (p < w.heap.size) := hide hl.2.2.2.2.1
  have HMH : Hid (mid ≤ hi) := hide (by omega)
  have HS := hide ((Since.refl w lo hi g2).any KA.out)
  have h2 := h.any KA.out
  clear h BA
  have HM := hide h2
  obtain ⟨gd, cd, ga, ca, g1, c1, c2, hB9, hO9⟩ := h2
  have HB := hide hB9
  have HO := hide hO9
  obtain ⟨t0, t1, t2, t3, t4, t5, t6, t7, t8, t9, t10, t11, t12, t13, t14, t15⟩ := hB9.cells
  clear t1 t2 t3 t4 t5 t6 t7 t8 t9 t10 t11 t12 t13 t14 t15
  clear hB9 hO9
  clear G B
  have r0 := HI.out.r0
  have r1 := HI.out.r1
  have r4 : x.r < 4 := by omega
  have k0 := HI.out.k0
  have k1 := HI.out.k1
  have k4 : x.k < 4 := by omega
  have HR4 : Hid (x.r.toNat < 4) := hide (by omega)
  have HK4 : Hid (x.k.toNat < 4) := hide (by omega)
  obtain ⟨D1, hD1⟩ : ∃ D, el c.r.xs x.r.toNat = D := ⟨_, rfl⟩
  obtain ⟨D2, hD2⟩ : ∃ D, el c.r.xs x.k.toNat = D := ⟨_, rfl⟩
  obtain ⟨hc1, _⟩ := elAt HO.out.d x.r.toNat (by rw [HG.out.g.d4]; exact HR4.out)
  obtain ⟨hc2, _⟩ := elAt HO.out.d x.k.toNat (by rw [HG.out.g.d4]; exact HK4.out)
  rw [hD1] at hc1
  rw [hD2] at hc2
  have m1 := Pl.and255 D1
  have m2 := Pl.and255 D2
  obtain ⟨A, hA⟩ : ∃ A, D1 % 256 = A := ⟨_, rfl⟩
  obtain ⟨Bb, hB2⟩ : ∃ A, D2 % 256 = A := ⟨_, rfl⟩
  rw [hA] at m1
  rw [hB2] at m2
  have E : Hid (c.bcdI x = c.bcd' x A Bb) := hide (by unfold Pl.Mc.bcdI; rw [hD1, hD2, hA, hB2])
  rw [hD1, hA] at hq1
  rw [hD2, hB2] at hq2
  clear hD1 hD2 hA hB2
  have E2 : Hid (c.bcd' x A Bb = c.vec 4) := hide (by unfold Pl.Mc.bcd'; rw [hq1, hq2]; rfl)
  have KB := hide (kept_drew (kept_drew (Kept.refl 0 0 X)))
  have HM_B := hide (HM.out.any KB.out)
  have HB_B := hide (HB.out.any KB.out)
  have HO_B := hide (HO.out.any KB.out)
  have HX_B := hide (HX.out.kept0 KB.out)
  have HS_B := hide (HS.out.any KB.out)
  obtain ⟨t0_B, t1_B, t2_B, t3_B, t4_B, t5_B, t6_B, t7_B, t8_B, t9_B, t10_B, t11_B, t12_B, t13_B, t14_B, t15_B⟩ := HB_B.out.cells
  clear t0_B t1_B t2_B t3_B t4_B t5_B t6_B t7_B t8_B t9_B t10_B t12_B t13_B t14_B t15_B
  have f11_B := HB_B.out.frozen 11
  go_enter Tryz.func83, Tryz.ntmps83
  go_wp2_with fail
  go_region
  go_wp2_with fail
  go_region
  go_wp2_with (go_at_call 128; refine (specIsBcd _ _).mono ?_; rintro e9 w9 ⟨rfl, hw⟩; have hw2 := hw.symm; clear hw; subst hw2; first | rw [hq1] | rw [hq2])
  first | go_end0 | refine bodyPost_ret (results_none rfl _ _ _) rfl ?_
  exact ⟨rfl, g2, by rw [E.out, E2.out]; exact HM_B.out.cV 4, HS_B.out.set p 11 _ HPH.out⟩
theorem mBcd_bad2 (w : World) (lo mid hi p g2 : Nat) (c : Pl.Mc) (x : Pl.In) (h : MAt w lo mid hi p g2 c) (G : Pl.GM c) (B : Pl.InB x) (hq1 : Pl.bcd (el c.r.xs x.r.toNat % 256) = false) (hq2 : Pl.bcd (el c.r.xs x.k.toNat % 256) = true) :
    Calls Tryz.prog 83 #[.pointer (some ⟨p, 0, none⟩), .agg #[.int .i64 x.op, .int .i64 x.z, .int .i64 x.r, .int .i64 x.m, .int .i64 x.k, .int .i64 x.e, .int .i64 x.s]] w fun e w' => e = .returned (.tuple #[]) ∧ ∃ g3, MAt w' lo mid hi p g3 (c.bcdI x) ∧ Since w lo hi g2 w' g3 := by
  have HG := hide G
  have HI := hide B
  have hl := h.lo
  have KA := hide (kept_alloc w (.cells #[.int .i64 x.op, .int .i64 x.z, .int .i64 x.r, .int .i64 x.m, .int .i64 x.k, .int .i64 x.e, .int .i64 x.s] 79))
  have BA : Blk (w.alloc (.cells #[.int .i64 x.op, .int .i64 x.z, .int .i64 x.r, .int .i64 x.m, .int .i64 x.k, .int .i64 x.e, .int .i64 x.s] 79)) w.heap.size (insC x) 79 := Blk.new w #[.int .i64 x.op, .int .i64 x.z, .int .i64 x.r, .int .i64 x.m, .int .i64 x.k, .int .i64 x.e, .int .i64 x.s] 79
  obtain ⟨X, hX⟩ : ∃ X : World, w.alloc (.cells #[.int .i64 x.op, .int .i64 x.z, .int .i64 x.r, .int .i64 x.m, .int .i64 x.k, .int .i64 x.e, .int .i64 x.s] 79) = X := ⟨_, rfl⟩
  rw [hX] at KA BA
  have HX := hide BA
  have hbw := BA.lt
  obtain ⟨b0, b1, b2, b3, b4, b5, b6⟩ := insAt HX.out
  have HHB : Hid (hi ≤ w.heap.size) := hide hl.2.2.2.2.2.2
  have HGB : Hid (w.heap.size ≠ g2) := hide (by have := hl.2.2.2.2.2.1; omega)
  have HPH : Hid ((lo ≤ p ∧ p < hi) ∨ w.heap.size ≤ p) := hide (by omega)
  have HPB : Hid (p < w.heap.size) := hide hl.2.2.2.2.1
  have HMH : Hid (mid ≤ hi) := hide (by omega)
  have HS := hide ((Since.refl w lo hi g2).any KA.out)
  have h2 := h.any KA.out
  clear h BA
  have HM := hide h2
  obtain ⟨gd, cd, ga, ca, g1, c1, c2, hB9, hO9⟩ := h2
  have HB := hide hB9
  have HO := hide hO9
  obtain ⟨t0, t1, t2, t3, t4, t5, t6, t7, t8, t9, t10, t11, t12, t13, t14, t15⟩ := hB9.cells
  clear t1 t2 t3 t4 t5 t6 t7 t8 t9 t10 t11 t12 t13 t14 t15
  clear hB9 hO9
  clear G B
  have r0 := HI.out.r0
  have r1 := HI.out.r1
  have r4 : x.r < 4 := by omega
  have k0 := HI.out.k0
  have k1 := HI.out.k1
  have k4 : x.k < 4 := by omega
  have HR4 : Hid (x.r.toNat < 4) := hide (by omega)
  have HK4 : Hid (x.k.toNat < 4) := hide (by omega)
  obtain ⟨D1, hD1⟩ : ∃ D, el c.r.xs x.r.toNat = D := ⟨_, rfl⟩
  obtain ⟨D2, hD2⟩ : ∃ D, el c.r.xs x.k.toNat = D := ⟨_, rfl⟩
  obtain ⟨hc1, _⟩ := elAt HO.out.d x.r.toNat (by rw [HG.out.g.d4]; exact HR4.out)
  obtain ⟨hc2, _⟩ := elAt HO.out.d x.k.toNat (by rw [HG.out.g.d4]; exact HK4.out)
  rw [hD1] at hc1
  rw [hD2] at hc2
  have m1 := Pl.and255 D1
  have m2 := Pl.and255 D2
  obtain ⟨A, hA⟩ : ∃ A, D1 % 256 = A := ⟨_, rfl⟩
  obtain ⟨Bb, hB2⟩ : ∃ A, D2 % 256 = A := ⟨_, rfl⟩
  rw [hA] at m1
  rw [hB2] at m2
  have E : Hid (c.bcdI x = c.bcd' x A Bb) := hide (by unfold Pl.Mc.bcdI; rw [hD1, hD2, hA, hB2])
  rw [hD1, hA] at hq1
  rw [hD2, hB2] at hq2
  clear hD1 hD2 hA hB2
  have E2 : Hid (c.bcd' x A Bb = c.vec 4) := hide (by unfold Pl.Mc.bcd'; rw [hq1, hq2]; rfl)
  have KB := hide (kept_drew (kept_drew (Kept.refl 0 0 X)))
  have HM_B := hide (HM.out.any KB.out)
  have HB_B := hide (HB.out.any KB.out)
  have HO_B := hide (HO.out.any KB.out)
  have HX_B := hide (HX.out.kept0 KB.out)
  have HS_B := hide (HS.out.any KB.out)
  obtain ⟨t0_B, t1_B, t2_B, t3_B, t4_B, t5_B, t6_B, t7_B, t8_B, t9_B, t10_B, t11_B, t12_B, t13_B, t14_B, t15_B⟩ := HB_B.out.cells
  clear t0_B t1_B t2_B t3_B t4_B t5_B t6_B t7_B t8_B t9_B t10_B t12_B t13_B t14_B t15_B
  have f11_B := HB_B.out.frozen 11
  go_enter Tryz.func83, Tryz.ntmps83
  go_wp2_with fail
  go_region
  go_wp2_with fail
  go_region
  go_wp2_with (go_at_call 128; refine (specIsBcd _ _).mono ?_; rintro e9 w9 ⟨rfl, hw⟩; have hw2 := hw.symm; clear hw; subst hw2; first | rw [hq1] | rw [hq2])
  first | go_end0 | refine bodyPost_ret (results_none rfl _ _ _) rfl ?_
  exact ⟨rfl, g2, by rw [E.out, E2.out]; exact HM_B.out.cV 4, HS_B.out.set p 11 _ HPH.out⟩
theorem mBcd_bad3 (w : World) (lo mid hi p g2 : Nat) (c : Pl.Mc) (x : Pl.In) (h : MAt w lo mid hi p g2 c) (G : Pl.GM c) (B : Pl.InB x) (hq1 : Pl.bcd (el c.r.xs x.r.toNat % 256) = true) (hq2 : Pl.bcd (el c.r.xs x.k.toNat % 256) = false) :
    Calls Tryz.prog 83 #[.pointer (some ⟨p, 0, none⟩), .agg #[.int .i64 x.op, .int .i64 x.z, .int .i64 x.r, .int .i64 x.m, .int .i64 x.k, .int .i64 x.e, .int .i64 x.s]] w fun e w' => e = .returned (.tuple #[]) ∧ ∃ g3, MAt w' lo mid hi p g3 (c.bcdI x) ∧ Since w lo hi g2 w' g3 := by
  have HG := hide G
  have HI := hide B
  have hl := h.lo
  have KA := hide (kept_alloc w (.cells #[.int .i64 x.op, .int .i64 x.z, .int .i64 x.r, .int .i64 x.m, .int .i64 x.k, .int .i64 x.e, .int .i64 x.s] 79))
  have BA : Blk (w.alloc (.cells #[.int .i64 x.op, .int .i64 x.z, .int .i64 x.r, .int .i64 x.m, .int .i64 x.k, .int .i64 x.e, .int .i64 x.s] 79)) w.heap.size (insC x) 79 := Blk.new w #[.int .i64 x.op, .int .i64 x.z, .int .i64 x.r, .int .i64 x.m, .int .i64 x.k, .int .i64 x.e, .int .i64 x.s] 79
  obtain ⟨X, hX⟩ : ∃ X : World, w.alloc (.cells #[.int .i64 x.op, .int .i64 x.z, .int .i64 x.r, .int .i64 x.m, .int .i64 x.k, .int .i64 x.e, .int .i64 x.s] 79) = X := ⟨_, rfl⟩
  rw [hX] at KA BA
  have HX := hide BA
  have hbw := BA.lt
  obtain ⟨b0, b1, b2, b3, b4, b5, b6⟩ := insAt HX.out
  have HHB : Hid (hi ≤ w.heap.size) := hide hl.2.2.2.2.2.2
  have HGB : Hid (w.heap.size ≠ g2) := hide (by have := hl.2.2.2.2.2.1; omega)
  have HPH : Hid ((lo ≤ p ∧ p < hi) ∨ w.heap.size ≤ p) := hide (by omega)
  have HPB : Hid (p < w.heap.size) := hide hl.2.2.2.2.1
  have HMH : Hid (mid ≤ hi) := hide (by omega)
  have HS := hide ((Since.refl w lo hi g2).any KA.out)
  have h2 := h.any KA.out
  clear h BA
  have HM := hide h2
  obtain ⟨gd, cd, ga, ca, g1, c1, c2, hB9, hO9⟩ := h2
  have HB := hide hB9
  have HO := hide hO9
  obtain ⟨t0, t1, t2, t3, t4, t5, t6, t7, t8, t9, t10, t11, t12, t13, t14, t15⟩ := hB9.cells
  clear t1 t2 t3 t4 t5 t6 t7 t8 t9 t10 t11 t12 t13 t14 t15
  clear hB9 hO9
  clear G B
  have r0 := HI.out.r0
  have r1 := HI.out.r1
  have r4 : x.r < 4 := by omega
  have k0 := HI.out.k0
  have k1 := HI.out.k1
  have k4 : x.k < 4 := by omega
  have HR4 : Hid (x.r.toNat < 4) := hide (by omega)
  have HK4 : Hid (x.k.toNat < 4) := hide (by omega)
  obtain ⟨D1, hD1⟩ : ∃ D, el c.r.xs x.r.toNat = D := ⟨_, rfl⟩
  obtain ⟨D2, hD2⟩ : ∃ D, el c.r.xs x.k.toNat = D := ⟨_, rfl⟩
  obtain ⟨hc1, _⟩ := elAt HO.out.d x.r.toNat (by rw [HG.out.g.d4]; exact HR4.out)
  obtain ⟨hc2, _⟩ := elAt HO.out.d x.k.toNat (by rw [HG.out.g.d4]; exact HK4.out)
  rw [hD1] at hc1
  rw [hD2] at hc2
  have m1 := Pl.and255 D1
  have m2 := Pl.and255 D2
  obtain ⟨A, hA⟩ : ∃ A, D1 % 256 = A := ⟨_, rfl⟩
  obtain ⟨Bb, hB2⟩ : ∃ A, D2 % 256 = A := ⟨_, rfl⟩
  rw [hA] at m1
  rw [hB2] at m2
  have E : Hid (c.bcdI x = c.bcd' x A Bb) := hide (by unfold Pl.Mc.bcdI; rw [hD1, hD2, hA, hB2])
  rw [hD1, hA] at hq1
  rw [hD2, hB2] at hq2
  clear hD1 hD2 hA hB2
  have E2 : Hid (c.bcd' x A Bb = c.vec 4) := hide (by unfold Pl.Mc.bcd'; rw [hq1, hq2]; rfl)
  have KB := hide (kept_drew (kept_drew (Kept.refl 0 0 X)))
  have HM_B := hide (HM.out.any KB.out)
  have HB_B := hide (HB.out.any KB.out)
  have HO_B := hide (HO.out.any KB.out)
  have HX_B := hide (HX.out.kept0 KB.out)
  have HS_B := hide (HS.out.any KB.out)
  obtain ⟨t0_B, t1_B, t2_B, t3_B, t4_B, t5_B, t6_B, t7_B, t8_B, t9_B, t10_B, t11_B, t12_B, t13_B, t14_B, t15_B⟩ := HB_B.out.cells
  clear t0_B t1_B t2_B t3_B t4_B t5_B t6_B t7_B t8_B t9_B t10_B t12_B t13_B t14_B t15_B
  have f11_B := HB_B.out.frozen 11
  go_enter Tryz.func83, Tryz.ntmps83
  go_wp2_with fail
  go_region
  go_wp2_with fail
  go_region
  go_wp2_with (go_at_call 128; refine (specIsBcd _ _).mono ?_; rintro e9 w9 ⟨rfl, hw⟩; have hw2 := hw.symm; clear hw; subst hw2; first | rw [hq1] | rw [hq2])
  first | go_end0 | refine bodyPost_ret (results_none rfl _ _ _) rfl ?_
  exact ⟨rfl, g2, by rw [E.out, E2.out]; exact HM_B.out.cV 4, HS_B.out.set p 11 _ HPH.out⟩
set_option maxHeartbeats 4000000 in
theorem mBcd_ok0t (w : World) (lo mid hi p g2 : Nat) (c : Pl.Mc) (x : Pl.In) (h : MAt w lo mid hi p g2 c) (G : Pl.GM c) (B : Pl.InB x) (hq1 : Pl.bcd (el c.r.xs x.r.toNat % 256) = true) (hq2 : Pl.bcd (el c.r.xs x.k.toNat % 256) = true) (hs : (x.s == 1) = false) (hz : (Pl.aV c.xOf (el c.r.xs x.r.toNat % 256) (el c.r.xs x.k.toNat % 256) == 0) = true) :
    Calls Tryz.prog 83 #[.pointer (some ⟨p, 0, none⟩), .agg #[.int .i64 x.op, .int .i64 x.z, .int .i64 x.r, .int .i64 x.m, .int .i64 x.k, .int .i64 x.e, .int .i64 x.s]] w fun e w' => e = .returned (.tuple #[]) ∧ ∃ g3, MAt w' lo mid hi p g3 (c.bcdI x) ∧ Since w lo hi g2 w' g3 := by
  have HG := hide G
  have HI := hide B
  have hl := h.lo
  have KA := hide (kept_alloc w (.cells #[.int .i64 x.op, .int .i64 x.z, .int .i64 x.r, .int .i64 x.m, .int .i64 x.k, .int .i64 x.e, .int .i64 x.s] 79))
  have BA : Blk (w.alloc (.cells #[.int .i64 x.op, .int .i64 x.z, .int .i64 x.r, .int .i64 x.m, .int .i64 x.k, .int .i64 x.e, .int .i64 x.s] 79)) w.heap.size (insC x) 79 := Blk.new w #[.int .i64 x.op, .int .i64 x.z, .int .i64 x.r, .int .i64 x.m, .int .i64 x.k, .int .i64 x.e, .int .i64 x.s] 79
  obtain ⟨X, hX⟩ : ∃ X : World, w.alloc (.cells #[.int .i64 x.op, .int .i64 x.z, .int .i64 x.r, .int .i64 x.m, .int .i64 x.k, .int .i64 x.e, .int .i64 x.s] 79) = X := ⟨_, rfl⟩
  rw [hX] at KA BA
  have HX := hide BA
  have hbw := BA.lt
  obtain ⟨b0, b1, b2, b3, b4, b5, b6⟩ := insAt HX.out
  have HHB : Hid (hi ≤ w.heap.size) := hide hl.2.2.2.2.2.2
  have HGB : Hid (w.heap.size ≠ g2) := hide (by have := hl.2.2.2.2.2.1; omega)
  have HPH : Hid ((lo ≤ p ∧ p < hi) ∨ w.heap.size ≤ p) := hide (by omega)
  have HPB : Hid (p < w.heap.size) := hide hl.2.2.2.2.1
  have HMH : Hid (mid ≤ hi) := hide (by omega)
  have HS := hide ((Since.refl w lo hi g2).any KA.out)
  have h2 := h.any KA.out
  clear h BA
  have HM := hide h2
  obtain ⟨gd, cd, ga, ca, g1, c1, c2, hB9, hO9⟩ := h2
  have HB := hide hB9
  have HO := hide hO9
  obtain ⟨t0, t1, t2, t3, t4, t5, t6, t7, t8, t9, t10, t11, t12, t13, t14, t15⟩ := hB9.cells
  clear t1 t2 t3 t4 t5 t6 t7 t8 t9 t10 t11 t12 t13 t14 t15
  clear hB9 hO9
  clear G B
  have r0 := HI.out.r0
  have r1 := HI.out.r1
  have r4 : x.r < 4 := by omega
  have k0 := HI.out.k0
  have k1 := HI.out.k1
  have k4 : x.k < 4 := by omega
  have HR4 : Hid (x.r.toNat < 4) := hide (by omega)
  have HK4 : Hid (x.k.toNat < 4) := hide (by omega)
  obtain ⟨D1, hD1⟩ : ∃ D, el c.r.xs x.r.toNat = D := ⟨_, rfl⟩
  obtain ⟨D2, hD2⟩ : ∃ D, el c.r.xs x.k.toNat = D := ⟨_, rfl⟩
  obtain ⟨hc1, _⟩ := elAt HO.out.d x.r.toNat (by rw [HG.out.g.d4]; exact HR4.out)
  obtain ⟨hc2, _⟩ := elAt HO.out.d x.k.toNat (by rw [HG.out.g.d4]; exact HK4.out)
  rw [hD1] at hc1
  rw [hD2] at hc2
  have m1 := Pl.and255 D1
  have m2 := Pl.and255 D2
  obtain ⟨A, hA⟩ : ∃ A, D1 % 256 = A := ⟨_, rfl⟩
  obtain ⟨Bb, hB2⟩ : ∃ A, D2 % 256 = A := ⟨_, rfl⟩
  rw [hA] at m1
  rw [hB2] at m2
  have E : Hid (c.bcdI x = c.bcd' x A Bb) := hide (by unfold Pl.Mc.bcdI; rw [hD1, hD2, hA, hB2])
  rw [hD1, hA] at hq1 hz
  rw [hD2, hB2] at hq2 hz
  clear hD1 hD2 hA hB2
  obtain ⟨j, hj, hjf⟩ := Pl.nat_of (n := 32) HG.out.g.f0 (by have := HG.out.g.f1; omega)
  have HXF : Hid (Pl.fl (bits .and .i64 c.r.f 16 != 0) 1 = c.xOf) := hide (by unfold Pl.Mc.xOf; rw [hjf]; exact Pl.x_of j hj)
  have HX2 : Hid (Pl.two2 c.xOf A Bb = true) := hide (Pl.two2_mk (by unfold Pl.Mc.xOf; omega) (by unfold Pl.Mc.xOf; omega) hq1 hq2)
  have EV : c.bcdV' x.s A Bb = Pl.aV c.xOf A Bb := by unfold Pl.Mc.bcdV'; rw [hs]; rfl
  have EC : c.bcdC' x.s A Bb = Pl.aC c.xOf A Bb := by unfold Pl.Mc.bcdC'; rw [hs]; rfl
  have HCb := Pl.aC_bd c.xOf A Bb
  have HVb := Pl.okv_bcd (Pl.aV_bcd HX2.out)
  obtain ⟨V, hV⟩ : ∃ V, Pl.aV c.xOf A Bb = V := ⟨_, rfl⟩
  obtain ⟨C, hC⟩ : ∃ C, Pl.aC c.xOf A Bb = C := ⟨_, rfl⟩
  rw [hV] at EV HVb hz
  rw [hC] at EC HCb
  obtain ⟨n, hn⟩ : ∃ n : Nat, C = (n : Int) := ⟨C.toNat, by omega⟩
  have hn2 : n < 2 := by omega
  have EF : c.bcdF x.s A Bb = Pl.fl (c.r.f / 4 % 2 == 1) 4 + C * 17 := by unfold Pl.Mc.bcdF; rw [EV, EC, hz]; simp
  obtain ⟨F, hF⟩ : ∃ F, c.bcdF x.s A Bb = F := ⟨_, rfl⟩
  rw [hF] at EF
  have HFb : 0 ≤ F ∧ F ≤ 31 := by
    rw [EF, hjf, hn]; have q := Pl.z_of j hj n hn2; exact ⟨q.2.2, q.2.1⟩
  have hcf : bits .or .i64 (bits .and .i64 c.r.f 4) (C * 17) = F := by rw [EF, hjf, hn]; exact (Pl.z_of j hj n hn2).1
  have hC0 : 0 ≤ C := HCb.1
  have hC1 : C ≤ 1 := HCb.2
  have E2 : Hid (c.bcd' x A Bb = (c.setF F).put 1 x.r V) := hide (by unfold Pl.Mc.bcd'; rw [hq1, hq2, EV, hF]; rfl)
  have HVV := hide HVb
  have HGF := hide (HG.out.setF HFb.1 HFb.2).g
  have HHV := hide hV
  have HHC := hide hC
  clear hV hC EV EC EF hF HFb HCb HVb hn hjf hn2 hj
  obtain ⟨s0, s1, s2, s3, s4, s5, s6, s7, _⟩ := HB.out.cells
  have f0 := HB.out.frozen 0
  have f1 := HB.out.frozen 1
  have f2 := HB.out.frozen 2
  have f3 := HB.out.frozen 3
  have f4 := HB.out.frozen 4
  have f5 := HB.out.frozen 5
  have f6 := HB.out.frozen 6
  have f7 := HB.out.frozen 7
  clear s0
  go_enter Tryz.func83, Tryz.ntmps83
  go_wp2_with fail
  go_region
  go_wp2_with fail
  go_region
  go_wp2_with (first | (go_at_call 128; refine (specIsBcd _ _).mono ?_; rintro e9 w9 ⟨rfl, hw⟩; have hw2 := hw.symm; clear hw; subst hw2; first | rw [hq1] | rw [hq2]) | (go_at_call 119; refine (l1Flag _ _ _).mono ?_; rintro e9 w9 ⟨rfl, hw⟩; have hw2 := hw.symm; clear hw; subst hw2; rw [HXF.out]) | (go_at_call 129; refine (l2Add _ _ _ _ HX2.out).mono ?_; rintro e9 w9 ⟨rfl, hw⟩; have hw2 := hw.symm; clear hw; subst hw2; rw [HHV.out, HHC.out]) | (go_at_call 130; refine (l2Sub _ _ _ _ HX2.out).mono ?_; rintro e9 w9 ⟨rfl, hw⟩; have hw2 := hw.symm; clear hw; subst hw2))
  have HBY := hide ((HB.out.cF (F)).any (kept_drew (kept_drew (kept_drew (Kept.refl 0 0 (X.setCell ⟨p, 4, none⟩ (.int .i64 (F))))))))
  have HOY := hide ((HO.out.own (kept_one _ p 4 (.int .i64 (F)))).any (kept_drew (kept_drew (kept_drew (Kept.refl 0 0 (X.setCell ⟨p, 4, none⟩ (.int .i64 (F))))))))
  have HSY := hide ((HS.out.set p 4 (.int .i64 (F)) HPH.out).drew.drew.drew)
  have HXY := hide ((HX.out.other p 4 (.int .i64 (F)) (by have := HPB.out; omega)).kept0 (kept_drew (kept_drew (kept_drew (Kept.refl 0 0 (X.setCell ⟨p, 4, none⟩ (.int .i64 (F))))))))
  have HRY := hide (MO.reg (r := (c.setF (F)).r) HOY.out)
  have HMY : Hid (mid ≤ (X.setCell ⟨p, 4, none⟩ (.int .i64 (F))).drew.drew.drew.heap.size) := hide (Nat.le_trans HMH.out HOY.out.hh)
  have HPM := HOY.out.p0
  have HNM : Hid (¬ (lo ≤ w.heap.size ∧ w.heap.size < mid)) := hide (by have := HHB.out; have := HMH.out; omega)
  have HNP : Hid (¬ (p ≤ w.heap.size ∧ w.heap.size < p + 1)) := hide (by have := HPB.out; omega)
  have SYD := cellsS HBY.out HXY.out
  go_region_held3 (fun w' => w'.cell? ⟨p, 0, none⟩ = some (.slice (some ⟨gd, 0, none⟩) 4 cd) ∧ w'.cell? ⟨p, 1, none⟩ = some (.slice (some ⟨ga, 0, none⟩) 4 ca) ∧ w'.cell? ⟨p, 2, none⟩ = some (.int .i64 (c.setF (F)).r.o) ∧ w'.cell? ⟨p, 3, none⟩ = some (.int .i64 (c.setF (F)).r.p) ∧ w'.cell? ⟨p, 4, none⟩ = some (.int .i64 (c.setF (F)).r.f) ∧ w'.cell? ⟨p, 5, none⟩ = some (.int .i64 (c.setF (F)).r.m) ∧ w'.cell? ⟨p, 6, none⟩ = some (.bool (c.setF (F)).r.s) ∧ w'.cell? ⟨p, 7, none⟩ = some (.bool (c.setF (F)).r.t) ∧ w'.cell? ⟨w.heap.size, 1, none⟩ = some (.int .i64 x.z) ∧ w'.cell? ⟨w.heap.size, 2, none⟩ = some (.int .i64 x.r)) (first | with_reducible exact SYD | with_reducible exact cellsS HB_9.out HX_9.out | exact cellsS (HB_9.out.laid (Pl.putR (c.setF (F)).r 1 x.r V)) (Blk.kept HX_9.out (MB.kept8 _ _ _ _ _ _ _ _) HNP.out) | go_keep) (first | (go_at_call 79; refine (put4 _ lo mid gd cd ga ca (c.setF (F)).r 1 x.r V HRY.out HMY.out HGF.out HI.out.r0 HI.out.r1 HVV.out).mono ?_; unfold regV; rintro e9 W_9 ⟨rfl, hr9, hk9⟩; have HO_9 := hide (HOY.out.regs hr9 hk9); have HB_9 := hide (HBY.out.regs hk9 HPM); have HX_9 := hide (Blk.kept HXY.out hk9 HNM.out); have HS_9 := hide (HSY.out.keptS hk9 (Nat.le_refl _) HMH.out); clear hr9 hk9; obtain ⟨u0, u1, u2, u3, u4, u5, u6, u7, _⟩ := HB_9.out.cells; have f0 := HB_9.out.frozen 0; have f1 := HB_9.out.frozen 1; have f2 := HB_9.out.frozen 2; have f3 := HB_9.out.frozen 3; have f4 := HB_9.out.frozen 4; have f5 := HB_9.out.frozen 5; have f6 := HB_9.out.frozen 6; have f7 := HB_9.out.frozen 7))
  go_wp2_with fail
  first | go_end0 | refine bodyPost_ret (results_none rfl _ _ _) rfl ?_
  exact ⟨rfl, g2, by rw [E.out, E2.out]; exact MAt.laid HB_9.out HO_9.out, since8 HS_9.out HPH.out _ _ _ _ _ _ _ _⟩
set_option maxHeartbeats 4000000 in
theorem mBcd_ok0f (w : World) (lo mid hi p g2 : Nat) (c : Pl.Mc) (x : Pl.In) (h : MAt w lo mid hi p g2 c) (G : Pl.GM c) (B : Pl.InB x) (hq1 : Pl.bcd (el c.r.xs x.r.toNat % 256) = true) (hq2 : Pl.bcd (el c.r.xs x.k.toNat % 256) = true) (hs : (x.s == 1) = false) (hz : (Pl.aV c.xOf (el c.r.xs x.r.toNat % 256) (el c.r.xs x.k.toNat % 256) == 0) = false) :
    Calls Tryz.prog 83 #[.pointer (some ⟨p, 0, none⟩), .agg #[.int .i64 x.op, .int .i64 x.z, .int .i64 x.r, .int .i64 x.m, .int .i64 x.k, .int .i64 x.e, .int .i64 x.s]] w fun e w' => e = .returned (.tuple #[]) ∧ ∃ g3, MAt w' lo mid hi p g3 (c.bcdI x) ∧ Since w lo hi g2 w' g3 := by
  have HG := hide G
  have HI := hide B
  have hl := h.lo
  have KA := hide (kept_alloc w (.cells #[.int .i64 x.op, .int .i64 x.z, .int .i64 x.r, .int .i64 x.m, .int .i64 x.k, .int .i64 x.e, .int .i64 x.s] 79))
  have BA : Blk (w.alloc (.cells #[.int .i64 x.op, .int .i64 x.z, .int .i64 x.r, .int .i64 x.m, .int .i64 x.k, .int .i64 x.e, .int .i64 x.s] 79)) w.heap.size (insC x) 79 := Blk.new w #[.int .i64 x.op, .int .i64 x.z, .int .i64 x.r, .int .i64 x.m, .int .i64 x.k, .int .i64 x.e, .int .i64 x.s] 79
  obtain ⟨X, hX⟩ : ∃ X : World, w.alloc (.cells #[.int .i64 x.op, .int .i64 x.z, .int .i64 x.r, .int .i64 x.m, .int .i64 x.k, .int .i64 x.e, .int .i64 x.s] 79) = X := ⟨_, rfl⟩
  rw [hX] at KA BA
  have HX := hide BA
  have hbw := BA.lt
  obtain ⟨b0, b1, b2, b3, b4, b5, b6⟩ := insAt HX.out
  have HHB : Hid (hi ≤ w.heap.size) := hide hl.2.2.2.2.2.2
  have HGB : Hid (w.heap.size ≠ g2) := hide (by have := hl.2.2.2.2.2.1; omega)
  have HPH : Hid ((lo ≤ p ∧ p < hi) ∨ w.heap.size ≤ p) := hide (by omega)
  have HPB : Hid (p < w.heap.size) := hide hl.2.2.2.2.1
  have HMH : Hid (mid ≤ hi) := hide (by omega)
  have HS := hide ((Since.refl w lo hi g2).any KA.out)
  have h2 := h.any KA.out
  clear h BA
  have HM := hide h2
  obtain ⟨gd, cd, ga, ca, g1, c1, c2, hB9, hO9⟩ := h2
  have HB := hide hB9
  have HO := hide hO9
  obtain ⟨t0, t1, t2, t3, t4, t5, t6, t7, t8, t9, t10, t11, t12, t13, t14, t15⟩ := hB9.cells
  clear t1 t2 t3 t4 t5 t6 t7 t8 t9 t10 t11 t12 t13 t14 t15
  clear hB9 hO9
  clear G B
  have r0 := HI.out.r0
  have r1 := HI.out.r1
  have r4 : x.r < 4 := by omega
  have k0 := HI.out.k0
  have k1 := HI.out.k1
  have k4 : x.k < 4 := by omega
  have HR4 : Hid (x.r.toNat < 4) := hide (by omega)
  have HK4 : Hid (x.k.toNat < 4) := hide (by omega)
  obtain ⟨D1, hD1⟩ : ∃ D, el c.r.xs x.r.toNat = D := ⟨_, rfl⟩
  obtain ⟨D2, hD2⟩ : ∃ D, el c.r.xs x.k.toNat = D := ⟨_, rfl⟩
  obtain ⟨hc1, _⟩ := elAt HO.out.d x.r.toNat (by rw [HG.out.g.d4]; exact HR4.out)
  obtain ⟨hc2, _⟩ := elAt HO.out.d x.k.toNat (by rw [HG.out.g.d4]; exact HK4.out)
  rw [hD1] at hc1
  rw [hD2] at hc2
  have m1 := Pl.and255 D1
  have m2 := Pl.and255 D2
  obtain ⟨A, hA⟩ : ∃ A, D1 % 256 = A := ⟨_, rfl⟩
  obtain ⟨Bb, hB2⟩ : ∃ A, D2 % 256 = A := ⟨_, rfl⟩
  rw [hA] at m1
  rw [hB2] at m2
  have E : Hid (c.bcdI x = c.bcd' x A Bb) := hide (by unfold Pl.Mc.bcdI; rw [hD1, hD2, hA, hB2])
  rw [hD1, hA] at hq1 hz
  rw [hD2, hB2] at hq2 hz
  clear hD1 hD2 hA hB2
  obtain ⟨j, hj, hjf⟩ := Pl.nat_of (n := 32) HG.out.g.f0 (by have := HG.out.g.f1; omega)
  have HXF : Hid (Pl.fl (bits .and .i64 c.r.f 16 != 0) 1 = c.xOf) := hide (by unfold Pl.Mc.xOf; rw [hjf]; exact Pl.x_of j hj)
  have HX2 : Hid (Pl.two2 c.xOf A Bb = true) := hide (Pl.two2_mk (by unfold Pl.Mc.xOf; omega) (by unfold Pl.Mc.xOf; omega) hq1 hq2)
  have EV : c.bcdV' x.s A Bb = Pl.aV c.xOf A Bb := by unfold Pl.Mc.bcdV'; rw [hs]; rfl
  have EC : c.bcdC' x.s A Bb = Pl.aC c.xOf A Bb := by unfold Pl.Mc.bcdC'; rw [hs]; rfl
  have HCb := Pl.aC_bd c.xOf A Bb
  have HVb := Pl.okv_bcd (Pl.aV_bcd HX2.out)
  obtain ⟨V, hV⟩ : ∃ V, Pl.aV c.xOf A Bb = V := ⟨_, rfl⟩
  obtain ⟨C, hC⟩ : ∃ C, Pl.aC c.xOf A Bb = C := ⟨_, rfl⟩
  rw [hV] at EV HVb hz
  rw [hC] at EC HCb
  obtain ⟨n, hn⟩ : ∃ n : Nat, C = (n : Int) := ⟨C.toNat, by omega⟩
  have hn2 : n < 2 := by omega
  have EF : c.bcdF x.s A Bb = C * 17 := by unfold Pl.Mc.bcdF; rw [EV, EC, hz]; simp [Pl.fl]
  obtain ⟨F, hF⟩ : ∃ F, c.bcdF x.s A Bb = F := ⟨_, rfl⟩
  rw [hF] at EF
  have HFb : 0 ≤ F ∧ F ≤ 31 := by
    rw [EF, hn]; omega
  have hcf : bits .or .i64 0 (C * 17) = F := by rw [EF, hn]; exact Pl.o_of n hn2
  have hC0 : 0 ≤ C := HCb.1
  have hC1 : C ≤ 1 := HCb.2
  have E2 : Hid (c.bcd' x A Bb = (c.setF F).put 1 x.r V) := hide (by unfold Pl.Mc.bcd'; rw [hq1, hq2, EV, hF]; rfl)
  have HVV := hide HVb
  have HGF := hide (HG.out.setF HFb.1 HFb.2).g
  have HHV := hide hV
  have HHC := hide hC
  clear hV hC EV EC EF hF HFb HCb HVb hn hjf hn2 hj
  obtain ⟨s0, s1, s2, s3, s4, s5, s6, s7, _⟩ := HB.out.cells
  have f0 := HB.out.frozen 0
  have f1 := HB.out.frozen 1
  have f2 := HB.out.frozen 2
  have f3 := HB.out.frozen 3
  have f4 := HB.out.frozen 4
  have f5 := HB.out.frozen 5
  have f6 := HB.out.frozen 6
  have f7 := HB.out.frozen 7
  clear s0
  go_enter Tryz.func83, Tryz.ntmps83
  go_wp2_with fail
  go_region
  go_wp2_with fail
  go_region
  go_wp2_with (first | (go_at_call 128; refine (specIsBcd _ _).mono ?_; rintro e9 w9 ⟨rfl, hw⟩; have hw2 := hw.symm; clear hw; subst hw2; first | rw [hq1] | rw [hq2]) | (go_at_call 119; refine (l1Flag _ _ _).mono ?_; rintro e9 w9 ⟨rfl, hw⟩; have hw2 := hw.symm; clear hw; subst hw2; rw [HXF.out]) | (go_at_call 129; refine (l2Add _ _ _ _ HX2.out).mono ?_; rintro e9 w9 ⟨rfl, hw⟩; have hw2 := hw.symm; clear hw; subst hw2; rw [HHV.out, HHC.out]) | (go_at_call 130; refine (l2Sub _ _ _ _ HX2.out).mono ?_; rintro e9 w9 ⟨rfl, hw⟩; have hw2 := hw.symm; clear hw; subst hw2))
  have HBY := hide ((HB.out.cF (F)).any (kept_drew (kept_drew (kept_drew (Kept.refl 0 0 (X.setCell ⟨p, 4, none⟩ (.int .i64 (F))))))))
  have HOY := hide ((HO.out.own (kept_one _ p 4 (.int .i64 (F)))).any (kept_drew (kept_drew (kept_drew (Kept.refl 0 0 (X.setCell ⟨p, 4, none⟩ (.int .i64 (F))))))))
  have HSY := hide ((HS.out.set p 4 (.int .i64 (F)) HPH.out).drew.drew.drew)
  have HXY := hide ((HX.out.other p 4 (.int .i64 (F)) (by have := HPB.out; omega)).kept0 (kept_drew (kept_drew (kept_drew (Kept.refl 0 0 (X.setCell ⟨p, 4, none⟩ (.int .i64 (F))))))))
  have HRY := hide (MO.reg (r := (c.setF (F)).r) HOY.out)
  have HMY : Hid (mid ≤ (X.setCell ⟨p, 4, none⟩ (.int .i64 (F))).drew.drew.drew.heap.size) := hide (Nat.le_trans HMH.out HOY.out.hh)
  have HPM := HOY.out.p0
  have HNM : Hid (¬ (lo ≤ w.heap.size ∧ w.heap.size < mid)) := hide (by have := HHB.out; have := HMH.out; omega)
  have HNP : Hid (¬ (p ≤ w.heap.size ∧ w.heap.size < p + 1)) := hide (by have := HPB.out; omega)
  have SYD := cellsS HBY.out HXY.out
  go_region_held3 (fun w' => w'.cell? ⟨p, 0, none⟩ = some (.slice (some ⟨gd, 0, none⟩) 4 cd) ∧ w'.cell? ⟨p, 1, none⟩ = some (.slice (some ⟨ga, 0, none⟩) 4 ca) ∧ w'.cell? ⟨p, 2, none⟩ = some (.int .i64 (c.setF (F)).r.o) ∧ w'.cell? ⟨p, 3, none⟩ = some (.int .i64 (c.setF (F)).r.p) ∧ w'.cell? ⟨p, 4, none⟩ = some (.int .i64 (c.setF (F)).r.f) ∧ w'.cell? ⟨p, 5, none⟩ = some (.int .i64 (c.setF (F)).r.m) ∧ w'.cell? ⟨p, 6, none⟩ = some (.bool (c.setF (F)).r.s) ∧ w'.cell? ⟨p, 7, none⟩ = some (.bool (c.setF (F)).r.t) ∧ w'.cell? ⟨w.heap.size, 1, none⟩ = some (.int .i64 x.z) ∧ w'.cell? ⟨w.heap.size, 2, none⟩ = some (.int .i64 x.r)) (first | with_reducible exact SYD | with_reducible exact cellsS HB_9.out HX_9.out | exact cellsS (HB_9.out.laid (Pl.putR (c.setF (F)).r 1 x.r V)) (Blk.kept HX_9.out (MB.kept8 _ _ _ _ _ _ _ _) HNP.out) | go_keep) (first | (go_at_call 79; refine (put4 _ lo mid gd cd ga ca (c.setF (F)).r 1 x.r V HRY.out HMY.out HGF.out HI.out.r0 HI.out.r1 HVV.out).mono ?_; unfold regV; rintro e9 W_9 ⟨rfl, hr9, hk9⟩; have HO_9 := hide (HOY.out.regs hr9 hk9); have HB_9 := hide (HBY.out.regs hk9 HPM); have HX_9 := hide (Blk.kept HXY.out hk9 HNM.out); have HS_9 := hide (HSY.out.keptS hk9 (Nat.le_refl _) HMH.out); clear hr9 hk9; obtain ⟨u0, u1, u2, u3, u4, u5, u6, u7, _⟩ := HB_9.out.cells; have f0 := HB_9.out.frozen 0; have f1 := HB_9.out.frozen 1; have f2 := HB_9.out.frozen 2; have f3 := HB_9.out.frozen 3; have f4 := HB_9.out.frozen 4; have f5 := HB_9.out.frozen 5; have f6 := HB_9.out.frozen 6; have f7 := HB_9.out.frozen 7))
  go_wp2_with fail
  first | go_end0 | refine bodyPost_ret (results_none rfl _ _ _) rfl ?_
  exact ⟨rfl, g2, by rw [E.out, E2.out]; exact MAt.laid HB_9.out HO_9.out, since8 HS_9.out HPH.out _ _ _ _ _ _ _ _⟩
set_option maxHeartbeats 4000000 in
theorem mBcd_ok1t (w : World) (lo mid hi p g2 : Nat) (c : Pl.Mc) (x : Pl.In) (h : MAt w lo mid hi p g2 c) (G : Pl.GM c) (B : Pl.InB x) (hq1 : Pl.bcd (el c.r.xs x.r.toNat % 256) = true) (hq2 : Pl.bcd (el c.r.xs x.k.toNat % 256) = true) (hs : x.s = 1) (hz : (Pl.sV c.xOf (el c.r.xs x.r.toNat % 256) (el c.r.xs x.k.toNat % 256) == 0) = true) :
    Calls Tryz.prog 83 #[.pointer (some ⟨p, 0, none⟩), .agg #[.int .i64 x.op, .int .i64 x.z, .int .i64 x.r, .int .i64 x.m, .int .i64 x.k, .int .i64 x.e, .int .i64 x.s]] w fun e w' => e = .returned (.tuple #[]) ∧ ∃ g3, MAt w' lo mid hi p g3 (c.bcdI x) ∧ Since w lo hi g2 w' g3 := by
  have HG := hide G
  have HI := hide B
  have HSU := hide hs
  clear hs
  have hl := h.lo
  have KA := hide (kept_alloc w (.cells #[.int .i64 x.op, .int .i64 x.z, .int .i64 x.r, .int .i64 x.m, .int .i64 x.k, .int .i64 x.e, .int .i64 x.s] 79))
  have BA : Blk (w.alloc (.cells #[.int .i64 x.op, .int .i64 x.z, .int .i64 x.r, .int .i64 x.m, .int .i64 x.k, .int .i64 x.e, .int .i64 x.s] 79)) w.heap.size (insC x) 79 := Blk.new w #[.int .i64 x.op, .int .i64 x.z, .int .i64 x.r, .int .i64 x.m, .int .i64 x.k, .int .i64 x.e, .int .i64 x.s] 79
  obtain ⟨X, hX⟩ : ∃ X : World, w.alloc (.cells #[.int .i64 x.op, .int .i64 x.z, .int .i64 x.r, .int .i64 x.m, .int .i64 x.k, .int .i64 x.e, .int .i64 x.s] 79) = X := ⟨_, rfl⟩
  rw [hX] at KA BA
  have HX := hide BA
  have hbw := BA.lt
  obtain ⟨b0, b1, b2, b3, b4, b5, b6⟩ := insAt HX.out
  rw [HSU.out] at b6
  have HHB : Hid (hi ≤ w.heap.size) := hide hl.2.2.2.2.2.2
  have HGB : Hid (w.heap.size ≠ g2) := hide (by have := hl.2.2.2.2.2.1; omega)
  have HPH : Hid ((lo ≤ p ∧ p < hi) ∨ w.heap.size ≤ p) := hide (by omega)
  have HPB : Hid (p < w.heap.size) := hide hl.2.2.2.2.1
  have HMH : Hid (mid ≤ hi) := hide (by omega)
  have HS := hide ((Since.refl w lo hi g2).any KA.out)
  have h2 := h.any KA.out
  clear h BA
  have HM := hide h2
  obtain ⟨gd, cd, ga, ca, g1, c1, c2, hB9, hO9⟩ := h2
  have HB := hide hB9
  have HO := hide hO9
  obtain ⟨t0, t1, t2, t3, t4, t5, t6, t7, t8, t9, t10, t11, t12, t13, t14, t15⟩ := hB9.cells
  clear t1 t2 t3 t4 t5 t6 t7 t8 t9 t10 t11 t12 t13 t14 t15
  clear hB9 hO9
  clear G B
  have r0 := HI.out.r0
  have r1 := HI.out.r1
  have r4 : x.r < 4 := by omega
  have k0 := HI.out.k0
  have k1 := HI.out.k1
  have k4 : x.k < 4 := by omega
  have HR4 : Hid (x.r.toNat < 4) := hide (by omega)
  have HK4 : Hid (x.k.toNat < 4) := hide (by omega)
  obtain ⟨D1, hD1⟩ : ∃ D, el c.r.xs x.r.toNat = D := ⟨_, rfl⟩
  obtain ⟨D2, hD2⟩ : ∃ D, el c.r.xs x.k.toNat = D := ⟨_, rfl⟩
  obtain ⟨hc1, _⟩ := elAt HO.out.d x.r.toNat (by rw [HG.out.g.d4]; exact HR4.out)
  obtain ⟨hc2, _⟩ := elAt HO.out.d x.k.toNat (by rw [HG.out.g.d4]; exact HK4.out)
  rw [hD1] at hc1
  rw [hD2] at hc2
  have m1 := Pl.and255 D1
  have m2 := Pl.and255 D2
  obtain ⟨A, hA⟩ : ∃ A, D1 % 256 = A := ⟨_, rfl⟩
  obtain ⟨Bb, hB2⟩ : ∃ A, D2 % 256 = A := ⟨_, rfl⟩
  rw [hA] at m1
  rw [hB2] at m2
  have E : Hid (c.bcdI x = c.bcd' x A Bb) := hide (by unfold Pl.Mc.bcdI; rw [hD1, hD2, hA, hB2])
  rw [hD1, hA] at hq1 hz
  rw [hD2, hB2] at hq2 hz
  clear hD1 hD2 hA hB2
  obtain ⟨j, hj, hjf⟩ := Pl.nat_of (n := 32) HG.out.g.f0 (by have := HG.out.g.f1; omega)
  have HXF : Hid (Pl.fl (bits .and .i64 c.r.f 16 != 0) 1 = c.xOf) := hide (by unfold Pl.Mc.xOf; rw [hjf]; exact Pl.x_of j hj)
  have HX2 : Hid (Pl.two2 c.xOf A Bb = true) := hide (Pl.two2_mk (by unfold Pl.Mc.xOf; omega) (by unfold Pl.Mc.xOf; omega) hq1 hq2)
  have EV : c.bcdV' x.s A Bb = Pl.sV c.xOf A Bb := by unfold Pl.Mc.bcdV'; rw [HSU.out]; rfl
  have EC : c.bcdC' x.s A Bb = Pl.sC c.xOf A Bb := by unfold Pl.Mc.bcdC'; rw [HSU.out]; rfl
  have HCb := Pl.sC_bd c.xOf A Bb
  have HVb := Pl.okv_bcd (Pl.sV_bcd HX2.out)
  obtain ⟨V, hV⟩ : ∃ V, Pl.sV c.xOf A Bb = V := ⟨_, rfl⟩
  obtain ⟨C, hC⟩ : ∃ C, Pl.sC c.xOf A Bb = C := ⟨_, rfl⟩
  rw [hV] at EV HVb hz
  rw [hC] at EC HCb
  obtain ⟨n, hn⟩ : ∃ n : Nat, C = (n : Int) := ⟨C.toNat, by omega⟩
  have hn2 : n < 2 := by omega
  have EF : c.bcdF x.s A Bb = Pl.fl (c.r.f / 4 % 2 == 1) 4 + C * 17 := by unfold Pl.Mc.bcdF; rw [EV, EC, hz]; simp
  obtain ⟨F, hF⟩ : ∃ F, c.bcdF x.s A Bb = F := ⟨_, rfl⟩
  rw [hF] at EF
  have HFb : 0 ≤ F ∧ F ≤ 31 := by
    rw [EF, hjf, hn]; have q := Pl.z_of j hj n hn2; exact ⟨q.2.2, q.2.1⟩
  have hcf : bits .or .i64 (bits .and .i64 c.r.f 4) (C * 17) = F := by rw [EF, hjf, hn]; exact (Pl.z_of j hj n hn2).1
  have hC0 : 0 ≤ C := HCb.1
  have hC1 : C ≤ 1 := HCb.2
  have E2 : Hid (c.bcd' x A Bb = (c.setF F).put 1 x.r V) := hide (by unfold Pl.Mc.bcd'; rw [hq1, hq2, EV, hF]; rfl)
  have HVV := hide HVb
  have HGF := hide (HG.out.setF HFb.1 HFb.2).g
  have HHV := hide hV
  have HHC := hide hC
  clear hV hC EV EC EF hF HFb HCb HVb hn hjf hn2 hj
  obtain ⟨s0, s1, s2, s3, s4, s5, s6, s7, _⟩ := HB.out.cells
  have f0 := HB.out.frozen 0
  have f1 := HB.out.frozen 1
  have f2 := HB.out.frozen 2
  have f3 := HB.out.frozen 3
  have f4 := HB.out.frozen 4
  have f5 := HB.out.frozen 5
  have f6 := HB.out.frozen 6
  have f7 := HB.out.frozen 7
  clear s0
  go_enter Tryz.func83, Tryz.ntmps83
  go_wp2_with fail
  go_region
  go_wp2_with fail
  go_region
  go_wp2_with (first | (go_at_call 128; refine (specIsBcd _ _).mono ?_; rintro e9 w9 ⟨rfl, hw⟩; have hw2 := hw.symm; clear hw; subst hw2; first | rw [hq1] | rw [hq2]) | (go_at_call 119; refine (l1Flag _ _ _).mono ?_; rintro e9 w9 ⟨rfl, hw⟩; have hw2 := hw.symm; clear hw; subst hw2; rw [HXF.out]) | (go_at_call 129; refine (l2Add _ _ _ _ HX2.out).mono ?_; rintro e9 w9 ⟨rfl, hw⟩; have hw2 := hw.symm; clear hw; subst hw2) | (go_at_call 130; refine (l2Sub _ _ _ _ HX2.out).mono ?_; rintro e9 w9 ⟨rfl, hw⟩; have hw2 := hw.symm; clear hw; subst hw2; rw [HHV.out, HHC.out]))
  have HBY := hide ((HB.out.cF (F)).any (kept_drew (kept_drew (kept_drew (Kept.refl 0 0 (X.setCell ⟨p, 4, none⟩ (.int .i64 (F))))))))
  have HOY := hide ((HO.out.own (kept_one _ p 4 (.int .i64 (F)))).any (kept_drew (kept_drew (kept_drew (Kept.refl 0 0 (X.setCell ⟨p, 4, none⟩ (.int .i64 (F))))))))
  have HSY := hide ((HS.out.set p 4 (.int .i64 (F)) HPH.out).drew.drew.drew)
  have HXY := hide ((HX.out.other p 4 (.int .i64 (F)) (by have := HPB.out; omega)).kept0 (kept_drew (kept_drew (kept_drew (Kept.refl 0 0 (X.setCell ⟨p, 4, none⟩ (.int .i64 (F))))))))
  have HRY := hide (MO.reg (r := (c.setF (F)).r) HOY.out)
  have HMY : Hid (mid ≤ (X.setCell ⟨p, 4, none⟩ (.int .i64 (F))).drew.drew.drew.heap.size) := hide (Nat.le_trans HMH.out HOY.out.hh)
  have HPM := HOY.out.p0
  have HNM : Hid (¬ (lo ≤ w.heap.size ∧ w.heap.size < mid)) := hide (by have := HHB.out; have := HMH.out; omega)
  have HNP : Hid (¬ (p ≤ w.heap.size ∧ w.heap.size < p + 1)) := hide (by have := HPB.out; omega)
  have SYD := cellsS HBY.out HXY.out
  go_region_held3 (fun w' => w'.cell? ⟨p, 0, none⟩ = some (.slice (some ⟨gd, 0, none⟩) 4 cd) ∧ w'.cell? ⟨p, 1, none⟩ = some (.slice (some ⟨ga, 0, none⟩) 4 ca) ∧ w'.cell? ⟨p, 2, none⟩ = some (.int .i64 (c.setF (F)).r.o) ∧ w'.cell? ⟨p, 3, none⟩ = some (.int .i64 (c.setF (F)).r.p) ∧ w'.cell? ⟨p, 4, none⟩ = some (.int .i64 (c.setF (F)).r.f) ∧ w'.cell? ⟨p, 5, none⟩ = some (.int .i64 (c.setF (F)).r.m) ∧ w'.cell? ⟨p, 6, none⟩ = some (.bool (c.setF (F)).r.s) ∧ w'.cell? ⟨p, 7, none⟩ = some (.bool (c.setF (F)).r.t) ∧ w'.cell? ⟨w.heap.size, 1, none⟩ = some (.int .i64 x.z) ∧ w'.cell? ⟨w.heap.size, 2, none⟩ = some (.int .i64 x.r)) (first | with_reducible exact SYD | with_reducible exact cellsS HB_9.out HX_9.out | exact cellsS (HB_9.out.laid (Pl.putR (c.setF (F)).r 1 x.r V)) (Blk.kept HX_9.out (MB.kept8 _ _ _ _ _ _ _ _) HNP.out) | go_keep) (first | (go_at_call 79; refine (put4 _ lo mid gd cd ga ca (c.setF (F)).r 1 x.r V HRY.out HMY.out HGF.out HI.out.r0 HI.out.r1 HVV.out).mono ?_; unfold regV; rintro e9 W_9 ⟨rfl, hr9, hk9⟩; have HO_9 := hide (HOY.out.regs hr9 hk9); have HB_9 := hide (HBY.out.regs hk9 HPM); have HX_9 := hide (Blk.kept HXY.out hk9 HNM.out); have HS_9 := hide (HSY.out.keptS hk9 (Nat.le_refl _) HMH.out); clear hr9 hk9; obtain ⟨u0, u1, u2, u3, u4, u5, u6, u7, _⟩ := HB_9.out.cells; have f0 := HB_9.out.frozen 0; have f1 := HB_9.out.frozen 1; have f2 := HB_9.out.frozen 2; have f3 := HB_9.out.frozen 3; have f4 := HB_9.out.frozen 4; have f5 := HB_9.out.frozen 5; have f6 := HB_9.out.frozen 6; have f7 := HB_9.out.frozen 7))
  go_wp2_with fail
  first | go_end0 | refine bodyPost_ret (results_none rfl _ _ _) rfl ?_
  exact ⟨rfl, g2, by rw [E.out, E2.out]; exact MAt.laid HB_9.out HO_9.out, since8 HS_9.out HPH.out _ _ _ _ _ _ _ _⟩
set_option maxHeartbeats 4000000 in
theorem mBcd_ok1f (w : World) (lo mid hi p g2 : Nat) (c : Pl.Mc) (x : Pl.In) (h : MAt w lo mid hi p g2 c) (G : Pl.GM c) (B : Pl.InB x) (hq1 : Pl.bcd (el c.r.xs x.r.toNat % 256) = true) (hq2 : Pl.bcd (el c.r.xs x.k.toNat % 256) = true) (hs : x.s = 1) (hz : (Pl.sV c.xOf (el c.r.xs x.r.toNat % 256) (el c.r.xs x.k.toNat % 256) == 0) = false) :
    Calls Tryz.prog 83 #[.pointer (some ⟨p, 0, none⟩), .agg #[.int .i64 x.op, .int .i64 x.z, .int .i64 x.r, .int .i64 x.m, .int .i64 x.k, .int .i64 x.e, .int .i64 x.s]] w fun e w' => e = .returned (.tuple #[]) ∧ ∃ g3, MAt w' lo mid hi p g3 (c.bcdI x) ∧ Since w lo hi g2 w' g3 := by
  have HG := hide G
  have HI := hide B
  have HSU := hide hs
  clear hs
  have hl := h.lo
  have KA := hide (kept_alloc w (.cells #[.int .i64 x.op, .int .i64 x.z, .int .i64 x.r, .int .i64 x.m, .int .i64 x.k, .int .i64 x.e, .int .i64 x.s] 79))
  have BA : Blk (w.alloc (.cells #[.int .i64 x.op, .int .i64 x.z, .int .i64 x.r, .int .i64 x.m, .int .i64 x.k, .int .i64 x.e, .int .i64 x.s] 79)) w.heap.size (insC x) 79 := Blk.new w #[.int .i64 x.op, .int .i64 x.z, .int .i64 x.r, .int .i64 x.m, .int .i64 x.k, .int .i64 x.e, .int .i64 x.s] 79
  obtain ⟨X, hX⟩ : ∃ X : World, w.alloc (.cells #[.int .i64 x.op, .int .i64 x.z, .int .i64 x.r, .int .i64 x.m, .int .i64 x.k, .int .i64 x.e, .int .i64 x.s] 79) = X := ⟨_, rfl⟩
  rw [hX] at KA BA
  have HX := hide BA
  have hbw := BA.lt
  obtain ⟨b0, b1, b2, b3, b4, b5, b6⟩ := insAt HX.out
  rw [HSU.out] at b6
  have HHB : Hid (hi ≤ w.heap.size) := hide hl.2.2.2.2.2.2
  have HGB : Hid (w.heap.size ≠ g2) := hide (by have := hl.2.2.2.2.2.1; omega)
  have HPH : Hid ((lo ≤ p ∧ p < hi) ∨ w.heap.size ≤ p) := hide (by omega)
  have HPB : Hid (p < w.heap.size) := hide hl.2.2.2.2.1
  have HMH : Hid (mid ≤ hi) := hide (by omega)
  have HS := hide ((Since.refl w lo hi g2).any KA.out)
  have h2 := h.any KA.out
  clear h BA
  have HM := hide h2
  obtain ⟨gd, cd, ga, ca, g1, c1, c2, hB9, hO9⟩ := h2
  have HB := hide hB9
  have HO := hide hO9
  obtain ⟨t0, t1, t2, t3, t4, t5, t6, t7, t8, t9, t10, t11, t12, t13, t14, t15⟩ := hB9.cells
  clear t1 t2 t3 t4 t5 t6 t7 t8 t9 t10 t11 t12 t13 t14 t15
  clear hB9 hO9
  clear G B
  have r0 := HI.out.r0
  have r1 := HI.out.r1
  have r4 : x.r < 4 := by omega
  have k0 := HI.out.k0
  have k1 := HI.out.k1
  have k4 : x.k < 4 := by omega
  have HR4 : Hid (x.r.toNat < 4) := hide (by omega)
  have HK4 : Hid (x.k.toNat < 4) := hide (by omega)
  obtain ⟨D1, hD1⟩ : ∃ D, el c.r.xs x.r.toNat = D := ⟨_, rfl⟩
  obtain ⟨D2, hD2⟩ : ∃ D, el c.r.xs x.k.toNat = D := ⟨_, rfl⟩
  obtain ⟨hc1, _⟩ := elAt HO.out.d x.r.toNat (by rw [HG.out.g.d4]; exact HR4.out)
  obtain ⟨hc2, _⟩ := elAt HO.out.d x.k.toNat (by rw [HG.out.g.d4]; exact HK4.out)
  rw [hD1] at hc1
  rw [hD2] at hc2
  have m1 := Pl.and255 D1
  have m2 := Pl.and255 D2
  obtain ⟨A, hA⟩ : ∃ A, D1 % 256 = A := ⟨_, rfl⟩
  obtain ⟨Bb, hB2⟩ : ∃ A, D2 % 256 = A := ⟨_, rfl⟩
  rw [hA] at m1
  rw [hB2] at m2
  have E : Hid (c.bcdI x = c.bcd' x A Bb) := hide (by unfold Pl.Mc.bcdI; rw [hD1, hD2, hA, hB2])
  rw [hD1, hA] at hq1 hz
  rw [hD2, hB2] at hq2 hz
  clear hD1 hD2 hA hB2
  obtain ⟨j, hj, hjf⟩ := Pl.nat_of (n := 32) HG.out.g.f0 (by have := HG.out.g.f1; omega)
  have HXF : Hid (Pl.fl (bits .and .i64 c.r.f 16 != 0) 1 = c.xOf) := hide (by unfold Pl.Mc.xOf; rw [hjf]; exact Pl.x_of j hj)
  have HX2 : Hid (Pl.two2 c.xOf A Bb = true) := hide (Pl.two2_mk (by unfold Pl.Mc.xOf; omega) (by unfold Pl.Mc.xOf; omega) hq1 hq2)
  have EV : c.bcdV' x.s A Bb = Pl.sV c.xOf A Bb := by unfold Pl.Mc.bcdV'; rw [HSU.out]; rfl
  have EC : c.bcdC' x.s A Bb = Pl.sC c.xOf A Bb := by unfold Pl.Mc.bcdC'; rw [HSU.out]; rfl
  have HCb := Pl.sC_bd c.xOf A Bb
  have HVb := Pl.okv_bcd (Pl.sV_bcd HX2.out)
  obtain ⟨V, hV⟩ : ∃ V, Pl.sV c.xOf A Bb = V := ⟨_, rfl⟩
  obtain ⟨C, hC⟩ : ∃ C, Pl.sC c.xOf A Bb = C := ⟨_, rfl⟩
  rw [hV] at EV HVb hz
  rw [hC] at EC HCb
  obtain ⟨n, hn⟩ : ∃ n : Nat, C = (n : Int) := ⟨C.toNat, by omega⟩
  have hn2 : n < 2 := by omega
  have EF : c.bcdF x.s A Bb = C * 17 := by unfold Pl.Mc.bcdF; rw [EV, EC, hz]; simp [Pl.fl]
  obtain ⟨F, hF⟩ : ∃ F, c.bcdF x.s A Bb = F := ⟨_, rfl⟩
  rw [hF] at EF
  have HFb : 0 ≤ F ∧ F ≤ 31 := by
    rw [EF, hn]; omega
  have hcf : bits .or .i64 0 (C * 17) = F := by rw [EF, hn]; exact Pl.o_of n hn2
  have hC0 : 0 ≤ C := HCb.1
  have hC1 : C ≤ 1 := HCb.2
  have E2 : Hid (c.bcd' x A Bb = (c.setF F).put 1 x.r V) := hide (by unfold Pl.Mc.bcd'; rw [hq1, hq2, EV, hF]; rfl)
  have HVV := hide HVb
  have HGF := hide (HG.out.setF HFb.1 HFb.2).g
  have HHV := hide hV
  have HHC := hide hC
  clear hV hC EV EC EF hF HFb HCb HVb hn hjf hn2 hj
  obtain ⟨s0, s1, s2, s3, s4, s5, s6, s7, _⟩ := HB.out.cells
  have f0 := HB.out.frozen 0
  have f1 := HB.out.frozen 1
  have f2 := HB.out.frozen 2
  have f3 := HB.out.frozen 3
  have f4 := HB.out.frozen 4
  have f5 := HB.out.frozen 5
  have f6 := HB.out.frozen 6
  have f7 := HB.out.frozen 7
  clear s0
  go_enter Tryz.func83, Tryz.ntmps83
  go_wp2_with fail
  go_region
  go_wp2_with fail
  go_region
  go_wp2_with (first | (go_at_call 128; refine (specIsBcd _ _).mono ?_; rintro e9 w9 ⟨rfl, hw⟩; have hw2 := hw.symm; clear hw; subst hw2; first | rw [hq1] | rw [hq2]) | (go_at_call 119; refine (l1Flag _ _ _).mono ?_; rintro e9 w9 ⟨rfl, hw⟩; have hw2 := hw.symm; clear hw; subst hw2; rw [HXF.out]) | (go_at_call 129; refine (l2Add _ _ _ _ HX2.out).mono ?_; rintro e9 w9 ⟨rfl, hw⟩; have hw2 := hw.symm; clear hw; subst hw2) | (go_at_call 130; refine (l2Sub _ _ _ _ HX2.out).mono ?_; rintro e9 w9 ⟨rfl, hw⟩; have hw2 := hw.symm; clear hw; subst hw2; rw [HHV.out, HHC.out]))
  have HBY := hide ((HB.out.cF (F)).any (kept_drew (kept_drew (kept_drew (Kept.refl 0 0 (X.setCell ⟨p, 4, none⟩ (.int .i64 (F))))))))
  have HOY := hide ((HO.out.own (kept_one _ p 4 (.int .i64 (F)))).any (kept_drew (kept_drew (kept_drew (Kept.refl 0 0 (X.setCell ⟨p, 4, none⟩ (.int .i64 (F))))))))
  have HSY := hide ((HS.out.set p 4 (.int .i64 (F)) HPH.out).drew.drew.drew)
  have HXY := hide ((HX.out.other p 4 (.int .i64 (F)) (by have := HPB.out; omega)).kept0 (kept_drew (kept_drew (kept_drew (Kept.refl 0 0 (X.setCell ⟨p, 4, none⟩ (.int .i64 (F))))))))
  have HRY := hide (MO.reg (r := (c.setF (F)).r) HOY.out)
  have HMY : Hid (mid ≤ (X.setCell ⟨p, 4, none⟩ (.int .i64 (F))).drew.drew.drew.heap.size) := hide (Nat.le_trans HMH.out HOY.out.hh)
  have HPM := HOY.out.p0
  have HNM : Hid (¬ (lo ≤ w.heap.size ∧ w.heap.size < mid)) := hide (by have := HHB.out; have := HMH.out; omega)
  have HNP : Hid (¬ (p ≤ w.heap.size ∧ w.heap.size < p + 1)) := hide (by have := HPB.out; omega)
  have SYD := cellsS HBY.out HXY.out
  go_region_held3 (fun w' => w'.cell? ⟨p, 0, none⟩ = some (.slice (some ⟨gd, 0, none⟩) 4 cd) ∧ w'.cell? ⟨p, 1, none⟩ = some (.slice (some ⟨ga, 0, none⟩) 4 ca) ∧ w'.cell? ⟨p, 2, none⟩ = some (.int .i64 (c.setF (F)).r.o) ∧ w'.cell? ⟨p, 3, none⟩ = some (.int .i64 (c.setF (F)).r.p) ∧ w'.cell? ⟨p, 4, none⟩ = some (.int .i64 (c.setF (F)).r.f) ∧ w'.cell? ⟨p, 5, none⟩ = some (.int .i64 (c.setF (F)).r.m) ∧ w'.cell? ⟨p, 6, none⟩ = some (.bool (c.setF (F)).r.s) ∧ w'.cell? ⟨p, 7, none⟩ = some (.bool (c.setF (F)).r.t) ∧ w'.cell? ⟨w.heap.size, 1, none⟩ = some (.int .i64 x.z) ∧ w'.cell? ⟨w.heap.size, 2, none⟩ = some (.int .i64 x.r)) (first | with_reducible exact SYD | with_reducible exact cellsS HB_9.out HX_9.out | exact cellsS (HB_9.out.laid (Pl.putR (c.setF (F)).r 1 x.r V)) (Blk.kept HX_9.out (MB.kept8 _ _ _ _ _ _ _ _) HNP.out) | go_keep) (first | (go_at_call 79; refine (put4 _ lo mid gd cd ga ca (c.setF (F)).r 1 x.r V HRY.out HMY.out HGF.out HI.out.r0 HI.out.r1 HVV.out).mono ?_; unfold regV; rintro e9 W_9 ⟨rfl, hr9, hk9⟩; have HO_9 := hide (HOY.out.regs hr9 hk9); have HB_9 := hide (HBY.out.regs hk9 HPM); have HX_9 := hide (Blk.kept HXY.out hk9 HNM.out); have HS_9 := hide (HSY.out.keptS hk9 (Nat.le_refl _) HMH.out); clear hr9 hk9; obtain ⟨u0, u1, u2, u3, u4, u5, u6, u7, _⟩ := HB_9.out.cells; have f0 := HB_9.out.frozen 0; have f1 := HB_9.out.frozen 1; have f2 := HB_9.out.frozen 2; have f3 := HB_9.out.frozen 3; have f4 := HB_9.out.frozen 4; have f5 := HB_9.out.frozen 5; have f6 := HB_9.out.frozen 6; have f7 := HB_9.out.frozen 7))
  go_wp2_with fail
  first | go_end0 | refine bodyPost_ret (results_none rfl _ _ _) rfl ?_
  exact ⟨rfl, g2, by rw [E.out, E2.out]; exact MAt.laid HB_9.out HO_9.out, since8 HS_9.out HPH.out _ _ _ _ _ _ _ _⟩
theorem mBcd (w : World) (lo mid hi p g2 : Nat) (c : Pl.Mc) (x : Pl.In) (h : MAt w lo mid hi p g2 c) (G : Pl.GM c) (B : Pl.InB x) :
    Calls Tryz.prog 83 #[.pointer (some ⟨p, 0, none⟩), .agg #[.int .i64 x.op, .int .i64 x.z, .int .i64 x.r, .int .i64 x.m, .int .i64 x.k, .int .i64 x.e, .int .i64 x.s]] w fun e w' => e = .returned (.tuple #[]) ∧ ∃ g3, MAt w' lo mid hi p g3 (c.bcdI x) ∧ Since w lo hi g2 w' g3 := by
  cases hq1 : Pl.bcd (el c.r.xs x.r.toNat % 256)
  · cases hq2 : Pl.bcd (el c.r.xs x.k.toNat % 256)
    · exact mBcd_bad1 w lo mid hi p g2 c x h G B hq1 hq2
    · exact mBcd_bad2 w lo mid hi p g2 c x h G B hq1 hq2
  · cases hq2 : Pl.bcd (el c.r.xs x.k.toNat % 256)
    · exact mBcd_bad3 w lo mid hi p g2 c x h G B hq1 hq2
    · by_cases hs : x.s = 1
      · cases hz : (Pl.sV c.xOf (el c.r.xs x.r.toNat % 256) (el c.r.xs x.k.toNat % 256) == 0)
        · exact mBcd_ok1f w lo mid hi p g2 c x h G B hq1 hq2 hs hz
        · exact mBcd_ok1t w lo mid hi p g2 c x h G B hq1 hq2 hs hz
      · cases hz : (Pl.aV c.xOf (el c.r.xs x.r.toNat % 256) (el c.r.xs x.k.toNat % 256) == 0)
        · exact mBcd_ok0f w lo mid hi p g2 c x h G B hq1 hq2 (by simpa using hs) hz
        · exact mBcd_ok0t w lo mid hi p g2 c x h G B hq1 hq2 (by simpa using hs) hz
end Go.Proofs.YtblddehlkaolbaaGreatDoor

namespace Go.Proofs.YtblddehlkaolbaaGreatDoor
open Go.RowKit
set_option linter.unusedVariables false
namespace Pl
theorem w_of9 {v : Int} (h : okv 2 v = true) : 0 ≤ v ∧ v ≤ 65535 := by simp [okv, top] at h; omega
theorem GM.pop {c : Mc} (h : GM c) : GM c.pop := by
  have a3 := h.g.aw 3 (by omega)
  have q := h.acc (ask_read (.inl rfl) a3.1 a3.2)
  unfold Mc.pop
  cases (c.acc 1 2 (el c.r.ys 3) 0).fine
  · exact q
  · exact q.setA 3 (by omega) (by omega)
theorem popV_in {c : Mc} (h : GM c) : 0 ≤ c.popV ∧ c.popV ≤ 65535 := by
  have a3 := h.g.aw 3 (by omega)
  exact w_of9 (h.accV (ask_read (.inl rfl) a3.1 a3.2))
theorem and1023 (a : Int) : bits .and .i64 a 1023 = a % 1024 := by
  show IntKind.i64.wrap ((BitVec.ofInt 64 a &&& BitVec.ofInt 64 1023).toNat : Int) = _
  rw [BitVec.toNat_and, BitVec.toNat_ofInt, show (BitVec.ofInt 64 1023).toNat = 2 ^ 10 - 1 from by decide, Nat.and_two_pow_sub_one_eq_mod, IntKind.wrap_i64]
  omega
end Pl
set_option maxHeartbeats 4000000 in
theorem mFlow_rts (w : World) (lo mid hi p g2 : Nat) (c : Pl.Mc) (x : Pl.In) (h : MAt w lo mid hi p g2 c) (G : Pl.GM c) (B : Pl.InB x) (hs : x.s = 0) :
    Calls Tryz.prog 81 #[.pointer (some ⟨p, 0, none⟩), .agg #[.int .i64 x.op, .int .i64 x.z, .int .i64 x.r, .int .i64 x.m, .int .i64 x.k, .int .i64 x.e, .int .i64 x.s]] w fun e w' => e = .returned (.tuple #[]) ∧ ∃ g3, MAt w' lo mid hi p g3 (c.flow x) ∧ Since w lo hi g2 w' g3 := by
  have HG := hide G
  have HI := hide B
  have HSU := hide hs
  clear hs
  have hl := h.lo
  have KA := hide (kept_alloc w (.cells #[.int .i64 x.op, .int .i64 x.z, .int .i64 x.r, .int .i64 x.m, .int .i64 x.k, .int .i64 x.e, .int .i64 x.s] 79))
  have BA : Blk (w.alloc (.cells #[.int .i64 x.op, .int .i64 x.z, .int .i64 x.r, .int .i64 x.m, .int .i64 x.k, .int .i64 x.e, .int .i64 x.s] 79)) w.heap.size (insC x) 79 := Blk.new w #[.int .i64 x.op, .int .i64 x.z, .int .i64 x.r, .int .i64 x.m, .int .i64 x.k, .int .i64 x.e, .int .i64 x.s] 79
  obtain ⟨X, hX⟩ : ∃ X : World, w.alloc (.cells #[.int .i64 x.op, .int .i64 x.z, .int .i64 x.r, .int .i64 x.m, .int .i64 x.k, .int .i64 x.e, .int .i64 x.s] 79) = X := ⟨_, rfl⟩
  rw [hX] at KA BA
  have HX := hide BA
  have hbw := BA.lt
  obtain ⟨b0, b1, b2, b3, b4, b5, b6⟩ := insAt HX.out
  rw [HSU.out] at b6
  have HHB : Hid (hi ≤ w.heap.size) := hide hl.2.2.2.2.2.2
  have HGB : Hid (w.heap.size ≠ g2) := hide (by have := hl.2.2.2.2.2.1; omega)
  have HPH : Hid ((lo ≤ p ∧ p < hi) ∨ w.heap.size ≤ p) := hide (by omega)
  have HPB : Hid (p < w.heap.size) := hide hl.2.2.2.2.1
  have HMH : Hid (mid ≤ hi) := hide (by omega)
  have HS := hide ((Since.refl w lo hi g2).any KA.out)
  have h2 := h.any KA.out
  clear h BA
  have HM := hide h2
  obtain ⟨gd, cd, ga, ca, g1, c1, c2, hB9, hO9⟩ := h2
  have HB := hide hB9
  have HO := hide hO9
  obtain ⟨t0, t1, t2, t3, t4, t5, t6, t7, t8, t9, t10, t11, t12, t13, t14, t15⟩ := hB9.cells
  clear t0 t1 t2 t3 t4 t5 t6 t7 t8 t9 t10 t11 t12 t13 t14 t15
  clear hB9 hO9
  clear G B
  have E : Hid (c.flow x = c.pop.setP c.popV) := hide (by unfold Pl.Mc.flow; rw [HSU.out]; rfl)
  go_enter Tryz.func81, Tryz.ntmps81
  go_wp2_with (go_at_call 123; refine (mPop _ lo mid hi p g2 c HM.out HG.out).mono ?_; rintro e9 W_1 ⟨rfl, g2_1, hm9, hb9⟩; have HX_1 := hide (hb9.blk HX.out HHB.out HGB.out); have HGB_1 := hide (hb9.ne HX.out.lt HGB.out); have HS_1 := hide (HS.out.trans hb9); clear hb9; have HM_1 := hide hm9; obtain ⟨gd_1, cd_1, ga_1, ca_1, g1_1, c1_1, c2_1, hB9, hO9⟩ := hm9; have HB_1 := hide hB9; have HO_1 := hide hO9; obtain ⟨t0_1, t1_1, t2_1, t3_1, t4_1, t5_1, t6_1, t7_1, t8_1, t9_1, t10_1, t11_1, t12_1, t13_1, t14_1, t15_1⟩ := hB9.cells; clear t0_1 t1_1 t2_1 t4_1 t5_1 t6_1 t7_1 t8_1 t9_1 t10_1 t11_1 t12_1 t13_1 t14_1 t15_1; have f3_1 := hB9.frozen 3; clear hB9 hO9; clear b0 b1 b2 b3 b4 b5 b6; obtain ⟨b0, b1, b2, b3, b4, b5, b6⟩ := insAt HX_1.out; rw [HSU.out] at b6)
  first | go_end0 | refine bodyPost_ret (results_none rfl _ _ _) rfl ?_
  exact ⟨rfl, g2_1, by rw [E.out]; exact HM_1.out.cP _, HS_1.out.set p 3 _ HPH.out⟩
set_option maxHeartbeats 4000000 in
theorem mFlow_rte1 (w : World) (lo mid hi p g2 : Nat) (c : Pl.Mc) (x : Pl.In) (h : MAt w lo mid hi p g2 c) (G : Pl.GM c) (B : Pl.InB x) (hs : x.s = 1) (hf : c.pop.fine = false) :
    Calls Tryz.prog 81 #[.pointer (some ⟨p, 0, none⟩), .agg #[.int .i64 x.op, .int .i64 x.z, .int .i64 x.r, .int .i64 x.m, .int .i64 x.k, .int .i64 x.e, .int .i64 x.s]] w fun e w' => e = .returned (.tuple #[]) ∧ ∃ g3, MAt w' lo mid hi p g3 (c.flow x) ∧ Since w lo hi g2 w' g3 := by
  have HG := hide G
  have HI := hide B
  have HSU := hide hs
  clear hs
  have hl := h.lo
  have KA := hide (kept_alloc w (.cells #[.int .i64 x.op, .int .i64 x.z, .int .i64 x.r, .int .i64 x.m, .int .i64 x.k, .int .i64 x.e, .int .i64 x.s] 79))
  have BA : Blk (w.alloc (.cells #[.int .i64 x.op, .int .i64 x.z, .int .i64 x.r, .int .i64 x.m, .int .i64 x.k, .int .i64 x.e, .int .i64 x.s] 79)) w.heap.size (insC x) 79 := Blk.new w #[.int .i64 x.op, .int .i64 x.z, .int .i64 x.r, .int .i64 x.m, .int .i64 x.k, .int .i64 x.e, .int .i64 x.s] 79
  obtain ⟨X, hX⟩ : ∃ X : World, w.alloc (.cells #[.int .i64 x.op, .int .i64 x.z, .int .i64 x.r, .int .i64 x.m, .int .i64 x.k, .int .i64 x.e, .int .i64 x.s] 79) = X := ⟨_, rfl⟩
  rw [hX] at KA BA
  have HX := hide BA
  have hbw := BA.lt
  obtain ⟨b0, b1, b2, b3, b4, b5, b6⟩ := insAt HX.out
  rw [HSU.out] at b6
  have HHB : Hid (hi ≤ w.heap.size) := hide hl.2.2.2.2.2.2
  have HGB : Hid (w.heap.size ≠ g2) := hide (by have := hl.2.2.2.2.2.1; omega)
  have HPH : Hid ((lo ≤ p ∧ p < hi) ∨ w.heap.size ≤ p) := hide (by omega)
  have HPB : Hid (p < w.heap.size) := hide hl.2.2.2.2.1
  have HMH : Hid (mid ≤ hi) := hide (by omega)
  have HS := hide ((Since.refl w lo hi g2).any KA.out)
  have h2 := h.any KA.out
  clear h BA
  have HM := hide h2
  obtain ⟨gd, cd, ga, ca, g1, c1, c2, hB9, hO9⟩ := h2
  have HB := hide hB9
  have HO := hide hO9
  obtain ⟨t0, t1, t2, t3, t4, t5, t6, t7, t8, t9, t10, t11, t12, t13, t14, t15⟩ := hB9.cells
  clear t0 t1 t2 t3 t4 t5 t6 t7 t8 t9 t10 t11 t12 t13 t14 t15
  clear hB9 hO9
  clear G B
  have E : Hid (c.flow x = c.pop) := hide (by unfold Pl.Mc.flow; rw [HSU.out, hf]; rfl)
  go_enter Tryz.func81, Tryz.ntmps81
  go_wp2_with (first | (go_at_call 123; refine (mPop _ lo mid hi p g2 c HM.out HG.out).mono ?_; rintro e9 W_1 ⟨rfl, g2_1, hm9, hb9⟩; have HX_1 := hide (hb9.blk HX.out HHB.out HGB.out); have HGB_1 := hide (hb9.ne HX.out.lt HGB.out); have HS_1 := hide (HS.out.trans hb9); clear hb9; have HM_1 := hide hm9; obtain ⟨gd_1, cd_1, ga_1, ca_1, g1_1, c1_1, c2_1, hB9, hO9⟩ := hm9; have HB_1 := hide hB9; have HO_1 := hide hO9; obtain ⟨t0_1, t1_1, t2_1, t3_1, t4_1, t5_1, t6_1, t7_1, t8_1, t9_1, t10_1, t11_1, t12_1, t13_1, t14_1, t15_1⟩ := hB9.cells; clear t0_1 t1_1 t2_1 t4_1 t5_1 t6_1 t7_1 t8_1 t9_1 t10_1 t11_1 t12_1 t13_1 t14_1 t15_1; have f3_1 := hB9.frozen 3; clear hB9 hO9; clear b0 b1 b2 b3 b4 b5 b6; obtain ⟨b0, b1, b2, b3, b4, b5, b6⟩ := insAt HX_1.out; rw [HSU.out] at b6) | (go_at_call 41; refine (mFine _ lo mid hi p g2_1 _ HM_1.out).mono ?_; rintro e9 w9 ⟨rfl, hw⟩; have hw2 := hw.symm; clear hw; subst hw2; rw [hf]))
  first | go_end0 | refine bodyPost_ret (results_none rfl _ _ _) rfl ?_
  exact ⟨rfl, g2_1, by rw [E.out]; exact HM_1.out, HS_1.out⟩
set_option maxHeartbeats 4000000 in
theorem mFlow_rte2 (w : World) (lo mid hi p g2 : Nat) (c : Pl.Mc) (x : Pl.In) (h : MAt w lo mid hi p g2 c) (G : Pl.GM c) (B : Pl.InB x) (hs : x.s = 1) (hf : c.pop.fine = true) (hf2 : c.pop.pop.fine = false) :
    Calls Tryz.prog 81 #[.pointer (some ⟨p, 0, none⟩), .agg #[.int .i64 x.op, .int .i64 x.z, .int .i64 x.r, .int .i64 x.m, .int .i64 x.k, .int .i64 x.e, .int .i64 x.s]] w fun e w' => e = .returned (.tuple #[]) ∧ ∃ g3, MAt w' lo mid hi p g3 (c.flow x) ∧ Since w lo hi g2 w' g3 := by
  have HG := hide G
  have HI := hide B
  have HSU := hide hs
  clear hs
  have hl := h.lo
  have KA := hide (kept_alloc w (.cells #[.int .i64 x.op, .int .i64 x.z, .int .i64 x.r, .int .i64 x.m, .int .i64 x.k, .int .i64 x.e, .int .i64 x.s] 79))
  have BA : Blk (w.alloc (.cells #[.int .i64 x.op, .int .i64 x.z, .int .i64 x.r, .int .i64 x.m, .int .i64 x.k, .int .i64 x.e, .int .i64 x.s] 79)) w.heap.size (insC x) 79 := Blk.new w #[.int .i64 x.op, .int .i64 x.z, .int .i64 x.r, .int .i64 x.m, .int .i64 x.k, .int .i64 x.e, .int .i64 x.s] 79
  obtain ⟨X, hX⟩ : ∃ X : World, w.alloc (.cells #[.int .i64 x.op, .int .i64 x.z, .int .i64 x.r, .int .i64 x.m, .int .i64 x.k, .int .i64 x.e, .int .i64 x.s] 79) = X := ⟨_, rfl⟩
  rw [hX] at KA BA
  have HX := hide BA
  have hbw := BA.lt
  obtain ⟨b0, b1, b2, b3, b4, b5, b6⟩ := insAt HX.out
  rw [HSU.out] at b6
  have HHB : Hid (hi ≤ w.heap.size) := hide hl.2.2.2.2.2.2
  have HGB : Hid (w.heap.size ≠ g2) := hide (by have := hl.2.2.2.2.2.1; omega)
  have HPH : Hid ((lo ≤ p ∧ p < hi) ∨ w.heap.size ≤ p) := hide (by omega)
  have HPB : Hid (p < w.heap.size) := hide hl.2.2.2.2.1
  have HMH : Hid (mid ≤ hi) := hide (by omega)
  have HS := hide ((Since.refl w lo hi g2).any KA.out)
  have h2 := h.any KA.out
  clear h BA
  have HM := hide h2
  obtain ⟨gd, cd, ga, ca, g1, c1, c2, hB9, hO9⟩ := h2
  have HB := hide hB9
  have HO := hide hO9
  obtain ⟨t0, t1, t2, t3, t4, t5, t6, t7, t8, t9, t10, t11, t12, t13, t14, t15⟩ := hB9.cells
  clear t0 t1 t2 t3 t4 t5 t6 t7 t8 t9 t10 t11 t12 t13 t14 t15
  clear hB9 hO9
  clear G B
  have E : Hid (c.flow x = c.pop.pop) := hide (by unfold Pl.Mc.flow; rw [HSU.out, hf, hf2]; rfl)
  have HG1 := hide HG.out.pop
  have HG2 := hide HG1.out.pop
  have HP := Pl.popV_in HG.out
  have HP2 := Pl.popV_in HG1.out
  go_enter Tryz.func81, Tryz.ntmps81
  go_wp2_with (first | (go_at_call 123; have z9 := HM_1; refine (mPop _ lo mid hi p g2_1 c.pop HM_1.out HG1.out).mono ?_; rintro e9 W_2 ⟨rfl, g2_2, hm9, hb9⟩; have HX_2 := hide (hb9.blk HX_1.out HHB.out HGB_1.out); have HGB_2 := hide (hb9.ne HX_1.out.lt HGB_1.out); have HS_2 := hide (HS_1.out.trans hb9); clear hb9; have HM_2 := hide hm9; obtain ⟨gd_2, cd_2, ga_2, ca_2, g1_2, c1_2, c2_2, hB9, hO9⟩ := hm9; have HB_2 := hide hB9; have HO_2 := hide hO9; obtain ⟨t0_2, t1_2, t2_2, t3_2, t4_2, t5_2, t6_2, t7_2, t8_2, t9_2, t10_2, t11_2, t12_2, t13_2, t14_2, t15_2⟩ := hB9.cells; clear t8_2 t9_2 t10_2 t11_2 t12_2 t13_2 t14_2 t15_2; have f0_2 := hB9.frozen 0; have f1_2 := hB9.frozen 1; have f2_2 := hB9.frozen 2; have f3_2 := hB9.frozen 3; have f4_2 := hB9.frozen 4; have f5_2 := hB9.frozen 5; have f6_2 := hB9.frozen 6; have f7_2 := hB9.frozen 7; clear hB9 hO9; clear b0 b1 b2 b3 b4 b5 b6; obtain ⟨b0, b1, b2, b3, b4, b5, b6⟩ := insAt HX_2.out; rw [HSU.out] at b6) | (go_at_call 41; have z9 := HM_2; refine (mFine _ lo mid hi p g2_2 _ HM_2.out).mono ?_; rintro e9 w9 ⟨rfl, hw⟩; have hw2 := hw.symm; clear hw; subst hw2; rw [hf2]) | (go_at_call 123; refine (mPop _ lo mid hi p g2 c HM.out HG.out).mono ?_; rintro e9 W_1 ⟨rfl, g2_1, hm9, hb9⟩; have HX_1 := hide (hb9.blk HX.out HHB.out HGB.out); have HGB_1 := hide (hb9.ne HX.out.lt HGB.out); have HS_1 := hide (HS.out.trans hb9); clear hb9; have HM_1 := hide hm9; obtain ⟨gd_1, cd_1, ga_1, ca_1, g1_1, c1_1, c2_1, hB9, hO9⟩ := hm9; have HB_1 := hide hB9; have HO_1 := hide hO9; obtain ⟨t0_1, t1_1, t2_1, t3_1, t4_1, t5_1, t6_1, t7_1, t8_1, t9_1, t10_1, t11_1, t12_1, t13_1, t14_1, t15_1⟩ := hB9.cells; clear t0_1 t1_1 t2_1 t4_1 t5_1 t6_1 t7_1 t8_1 t9_1 t10_1 t11_1 t12_1 t13_1 t14_1 t15_1; have f3_1 := hB9.frozen 3; clear hB9 hO9; clear b0 b1 b2 b3 b4 b5 b6; obtain ⟨b0, b1, b2, b3, b4, b5, b6⟩ := insAt HX_1.out; rw [HSU.out] at b6) | (go_at_call 41; refine (mFine _ lo mid hi p g2_1 _ HM_1.out).mono ?_; rintro e9 w9 ⟨rfl, hw⟩; have hw2 := hw.symm; clear hw; subst hw2; rw [hf]))
  first | go_end0 | refine bodyPost_ret (results_none rfl _ _ _) rfl ?_
  exact ⟨rfl, g2_2, by rw [E.out]; exact HM_2.out, HS_2.out⟩
set_option maxHeartbeats 4000000 in
theorem mFlow_rte (w : World) (lo mid hi p g2 : Nat) (c : Pl.Mc) (x : Pl.In) (h : MAt w lo mid hi p g2 c) (G : Pl.GM c) (B : Pl.InB x) (hs : x.s = 1) (hf : c.pop.fine = true) (hf2 : c.pop.pop.fine = true) :
    Calls Tryz.prog 81 #[.pointer (some ⟨p, 0, none⟩), .agg #[.int .i64 x.op, .int .i64 x.z, .int .i64 x.r, .int .i64 x.m, .int .i64 x.k, .int .i64 x.e, .int .i64 x.s]] w fun e w' => e = .returned (.tuple #[]) ∧ ∃ g3, MAt w' lo mid hi p g3 (c.flow x) ∧ Since w lo hi g2 w' g3 := by
  have HG := hide G
  have HI := hide B
  have HSU := hide hs
  clear hs
  have hl := h.lo
  have KA := hide (kept_alloc w (.cells #[.int .i64 x.op, .int .i64 x.z, .int .i64 x.r, .int .i64 x.m, .int .i64 x.k, .int .i64 x.e, .int .i64 x.s] 79))
  have BA : Blk (w.alloc (.cells #[.int .i64 x.op, .int .i64 x.z, .int .i64 x.r, .int .i64 x.m, .int .i64 x.k, .int .i64 x.e, .int .i64 x.s] 79)) w.heap.size (insC x) 79 := Blk.new w #[.int .i64 x.op, .int .i64 x.z, .int .i64 x.r, .int .i64 x.m, .int .i64 x.k, .int .i64 x.e, .int .i64 x.s] 79
  obtain ⟨X, hX⟩ : ∃ X : World, w.alloc (.cells #[.int .i64 x.op, .int .i64 x.z, .int .i64 x.r, .int .i64 x.m, .int .i64 x.k, .int .i64 x.e, .int .i64 x.s] 79) = X := ⟨_, rfl⟩
  rw [hX] at KA BA
  have HX := hide BA
  have hbw := BA.lt
  obtain ⟨b0, b1, b2, b3, b4, b5, b6⟩ := insAt HX.out
  rw [HSU.out] at b6
  have HHB : Hid (hi ≤ w.heap.size) := hide hl.2.2.2.2.2.2
  have HGB : Hid (w.heap.size ≠ g2) := hide (by have := hl.2.2.2.2.2.1; omega)
  have HPH : Hid ((lo ≤ p ∧ p < hi) ∨ w.heap.size ≤ p) := hide (by omega)
  have HPB : Hid (p < w.heap.size) := hide hl.2.2.2.2.1
  have HMH : Hid (mid ≤ hi) := hide (by omega)
  have HS := hide ((Since.refl w lo hi g2).any KA.out)
  have h2 := h.any KA.out
  clear h BA
  have HM := hide h2
  obtain ⟨gd, cd, ga, ca, g1, c1, c2, hB9, hO9⟩ := h2
  have HB := hide hB9
  have HO := hide hO9
  obtain ⟨t0, t1, t2, t3, t4, t5, t6, t7, t8, t9, t10, t11, t12, t13, t14, t15⟩ := hB9.cells
  clear t0 t1 t2 t3 t4 t5 t6 t7 t8 t9 t10 t11 t12 t13 t14 t15
  clear hB9 hO9
  clear G B
  have E : Hid (c.flow x = (c.pop.pop.setP c.pop.popV).setR (Pl.withR (c.pop.pop.setP c.pop.popV).r (c.popV % 1024))) := hide (by unfold Pl.Mc.flow; rw [HSU.out, hf, hf2]; rfl)
  have HG1 := hide HG.out.pop
  have HG2 := hide HG1.out.pop
  have HP := Pl.popV_in HG.out
  have HP2 := Pl.popV_in HG1.out
  have hmm := Pl.and1023 c.popV
  have HGP := hide (HG2.out.setP HP2.1 HP2.2).g
  have HW := fun gd cd ga ca w9 hr hh => with4 w9 lo mid gd cd ga ca (c.pop.pop.setP c.pop.popV).r (c.popV % 1024) hr hh HGP.out (by omega) (by omega)
  obtain ⟨R, hR⟩ : ∃ R, Pl.withR (c.pop.pop.setP c.pop.popV).r (c.popV % 1024) = R := ⟨_, rfl⟩
  rw [hR] at E
  simp only [hR, regV] at HW
  clear hR
  go_enter Tryz.func81, Tryz.ntmps81
  go_wp2_with (first | (go_at_call 84; have z9 := HM_2; refine (HW gd_2 cd_2 ga_2 ca_2 _ HRY.out HMY.out).mono ?_; rintro e9 W_9 ⟨rfl, hr9, hk9⟩; have HO_9 := hide (HOY.out.regs hr9 hk9); have HB_9 := hide (HBY.out.regs hk9 HO_2.out.p0); have HS_9 := hide (HSY.out.keptS hk9 (Nat.le_refl _) HMH.out); clear hr9 hk9; obtain ⟨u0, u1, u2, u3, u4, u5, u6, u7, _⟩ := HB_9.out.cells; have q0 := HB_9.out.frozen 0; have q1 := HB_9.out.frozen 1; have q2 := HB_9.out.frozen 2; have q3 := HB_9.out.frozen 3; have q4 := HB_9.out.frozen 4; have q5 := HB_9.out.frozen 5; have q6 := HB_9.out.frozen 6; have q7 := HB_9.out.frozen 7) | (go_at_call 123; have z9 := HM_1; refine (mPop _ lo mid hi p g2_1 c.pop HM_1.out HG1.out).mono ?_; rintro e9 W_2 ⟨rfl, g2_2, hm9, hb9⟩; have HX_2 := hide (hb9.blk HX_1.out HHB.out HGB_1.out); have HGB_2 := hide (hb9.ne HX_1.out.lt HGB_1.out); have HS_2 := hide (HS_1.out.trans hb9); clear hb9; have HM_2 := hide hm9; obtain ⟨gd_2, cd_2, ga_2, ca_2, g1_2, c1_2, c2_2, hB9, hO9⟩ := hm9; have HB_2 := hide hB9; have HO_2 := hide hO9; obtain ⟨t0_2, t1_2, t2_2, t3_2, t4_2, t5_2, t6_2, t7_2, t8_2, t9_2, t10_2, t11_2, t12_2, t13_2, t14_2, t15_2⟩ := hB9.cells; clear t8_2 t9_2 t10_2 t11_2 t12_2 t13_2 t14_2 t15_2; have f0_2 := hB9.frozen 0; have f1_2 := hB9.frozen 1; have f2_2 := hB9.frozen 2; have f3_2 := hB9.frozen 3; have f4_2 := hB9.frozen 4; have f5_2 := hB9.frozen 5; have f6_2 := hB9.frozen 6; have f7_2 := hB9.frozen 7; clear hB9 hO9; clear b0 b1 b2 b3 b4 b5 b6; obtain ⟨b0, b1, b2, b3, b4, b5, b6⟩ := insAt HX_2.out; rw [HSU.out] at b6; have HBY := hide (HB_2.out.cP c.pop.popV); have HOY := hide (HO_2.out.own (kept_one W_2 p 3 (.int .i64 c.pop.popV))); have HSY := hide (HS_2.out.set p 3 (.int .i64 c.pop.popV) HPH.out); have HRY := hide (MO.reg (r := (c.pop.pop.setP c.pop.popV).r) HOY.out); have HMY : Hid (mid ≤ (W_2.setCell ⟨p, 3, none⟩ (.int .i64 c.pop.popV)).heap.size) := hide (Nat.le_trans HMH.out HOY.out.hh)) | (go_at_call 41; have z9 := HM_2; refine (mFine _ lo mid hi p g2_2 _ HM_2.out).mono ?_; rintro e9 w9 ⟨rfl, hw⟩; have hw2 := hw.symm; clear hw; subst hw2; rw [hf2]) | (go_at_call 123; refine (mPop _ lo mid hi p g2 c HM.out HG.out).mono ?_; rintro e9 W_1 ⟨rfl, g2_1, hm9, hb9⟩; have HX_1 := hide (hb9.blk HX.out HHB.out HGB.out); have HGB_1 := hide (hb9.ne HX.out.lt HGB.out); have HS_1 := hide (HS.out.trans hb9); clear hb9; have HM_1 := hide hm9; obtain ⟨gd_1, cd_1, ga_1, ca_1, g1_1, c1_1, c2_1, hB9, hO9⟩ := hm9; have HB_1 := hide hB9; have HO_1 := hide hO9; obtain ⟨t0_1, t1_1, t2_1, t3_1, t4_1, t5_1, t6_1, t7_1, t8_1, t9_1, t10_1, t11_1, t12_1, t13_1, t14_1, t15_1⟩ := hB9.cells; clear t0_1 t1_1 t2_1 t4_1 t5_1 t6_1 t7_1 t8_1 t9_1 t10_1 t11_1 t12_1 t13_1 t14_1 t15_1; have f3_1 := hB9.frozen 3; clear hB9 hO9; clear b0 b1 b2 b3 b4 b5 b6; obtain ⟨b0, b1, b2, b3, b4, b5, b6⟩ := insAt HX_1.out; rw [HSU.out] at b6) | (go_at_call 41; refine (mFine _ lo mid hi p g2_1 _ HM_1.out).mono ?_; rintro e9 w9 ⟨rfl, hw⟩; have hw2 := hw.symm; clear hw; subst hw2; rw [hf]))
  first | go_end0 | refine bodyPost_ret (results_none rfl _ _ _) rfl ?_
  exact ⟨rfl, g2_2, by rw [E.out]; exact MAt.laid HB_9.out HO_9.out, since8 HS_9.out HPH.out _ _ _ _ _ _ _ _⟩
set_option maxHeartbeats 4000000 in
theorem mFlow_nop (w : World) (lo mid hi p g2 : Nat) (c : Pl.Mc) (x : Pl.In) (h : MAt w lo mid hi p g2 c) (G : Pl.GM c) (B : Pl.InB x) (hs : x.s = 2) :
    Calls Tryz.prog 81 #[.pointer (some ⟨p, 0, none⟩), .agg #[.int .i64 x.op, .int .i64 x.z, .int .i64 x.r, .int .i64 x.m, .int .i64 x.k, .int .i64 x.e, .int .i64 x.s]] w fun e w' => e = .returned (.tuple #[]) ∧ ∃ g3, MAt w' lo mid hi p g3 (c.flow x) ∧ Since w lo hi g2 w' g3 := by
  have HG := hide G
  have HI := hide B
  have HSU := hide hs
  clear hs
  have hl := h.lo
  have KA := hide (kept_alloc w (.cells #[.int .i64 x.op, .int .i64 x.z, .int .i64 x.r, .int .i64 x.m, .int .i64 x.k, .int .i64 x.e, .int .i64 x.s] 79))
  have BA : Blk (w.alloc (.cells #[.int .i64 x.op, .int .i64 x.z, .int .i64 x.r, .int .i64 x.m, .int .i64 x.k, .int .i64 x.e, .int .i64 x.s] 79)) w.heap.size (insC x) 79 := Blk.new w #[.int .i64 x.op, .int .i64 x.z, .int .i64 x.r, .int .i64 x.m, .int .i64 x.k, .int .i64 x.e, .int .i64 x.s] 79
  obtain ⟨X, hX⟩ : ∃ X : World, w.alloc (.cells #[.int .i64 x.op, .int .i64 x.z, .int .i64 x.r, .int .i64 x.m, .int .i64 x.k, .int .i64 x.e, .int .i64 x.s] 79) = X := ⟨_, rfl⟩
  rw [hX] at KA BA
  have HX := hide BA
  have hbw := BA.lt
  obtain ⟨b0, b1, b2, b3, b4, b5, b6⟩ := insAt HX.out
  rw [HSU.out] at b6
  have HHB : Hid (hi ≤ w.heap.size) := hide hl.2.2.2.2.2.2
  have HGB : Hid (w.heap.size ≠ g2) := hide (by have := hl.2.2.2.2.2.1; omega)
  have HPH : Hid ((lo ≤ p ∧ p < hi) ∨ w.heap.size ≤ p) := hide (by omega)
  have HPB : Hid (p < w.heap.size) := hide hl.2.2.2.2.1
  have HMH : Hid (mid ≤ hi) := hide (by omega)
  have HS := hide ((Since.refl w lo hi g2).any KA.out)
  have h2 := h.any KA.out
  clear h BA
  have HM := hide h2
  obtain ⟨gd, cd, ga, ca, g1, c1, c2, hB9, hO9⟩ := h2
  have HB := hide hB9
  have HO := hide hO9
  obtain ⟨t0, t1, t2, t3, t4, t5, t6, t7, t8, t9, t10, t11, t12, t13, t14, t15⟩ := hB9.cells
  clear t0 t1 t2 t3 t4 t5 t6 t7 t8 t9 t10 t11 t12 t13 t14 t15
  clear hB9 hO9
  clear G B
  have E : Hid (c.flow x = c) := hide (by unfold Pl.Mc.flow; rw [HSU.out]; rfl)
  go_enter Tryz.func81, Tryz.ntmps81
  go_wp2_with fail
  first | go_end0 | refine bodyPost_ret (results_none rfl _ _ _) rfl ?_
  exact ⟨rfl, g2, by rw [E.out]; exact HM.out, HS.out⟩
set_option maxHeartbeats 4000000 in
theorem mFlow_trap (w : World) (lo mid hi p g2 : Nat) (c : Pl.Mc) (x : Pl.In) (h : MAt w lo mid hi p g2 c) (G : Pl.GM c) (B : Pl.InB x) (hs : x.s = 4) :
    Calls Tryz.prog 81 #[.pointer (some ⟨p, 0, none⟩), .agg #[.int .i64 x.op, .int .i64 x.z, .int .i64 x.r, .int .i64 x.m, .int .i64 x.k, .int .i64 x.e, .int .i64 x.s]] w fun e w' => e = .returned (.tuple #[]) ∧ ∃ g3, MAt w' lo mid hi p g3 (c.flow x) ∧ Since w lo hi g2 w' g3 := by
  have HG := hide G
  have HI := hide B
  have HSU := hide hs
  clear hs
  have hl := h.lo
  have KA := hide (kept_alloc w (.cells #[.int .i64 x.op, .int .i64 x.z, .int .i64 x.r, .int .i64 x.m, .int .i64 x.k, .int .i64 x.e, .int .i64 x.s] 79))
  have BA : Blk (w.alloc (.cells #[.int .i64 x.op, .int .i64 x.z, .int .i64 x.r, .int .i64 x.m, .int .i64 x.k, .int .i64 x.e, .int .i64 x.s] 79)) w.heap.size (insC x) 79 := Blk.new w #[.int .i64 x.op, .int .i64 x.z, .int .i64 x.r, .int .i64 x.m, .int .i64 x.k, .int .i64 x.e, .int .i64 x.s] 79
  obtain ⟨X, hX⟩ : ∃ X : World, w.alloc (.cells #[.int .i64 x.op, .int .i64 x.z, .int .i64 x.r, .int .i64 x.m, .int .i64 x.k, .int .i64 x.e, .int .i64 x.s] 79) = X := ⟨_, rfl⟩
  rw [hX] at KA BA
  have HX := hide BA
  have hbw := BA.lt
  obtain ⟨b0, b1, b2, b3, b4, b5, b6⟩ := insAt HX.out
  rw [HSU.out] at b6
  have HHB : Hid (hi ≤ w.heap.size) := hide hl.2.2.2.2.2.2
  have HGB : Hid (w.heap.size ≠ g2) := hide (by have := hl.2.2.2.2.2.1; omega)
  have HPH : Hid ((lo ≤ p ∧ p < hi) ∨ w.heap.size ≤ p) := hide (by omega)
  have HPB : Hid (p < w.heap.size) := hide hl.2.2.2.2.1
  have HMH : Hid (mid ≤ hi) := hide (by omega)
  have HS := hide ((Since.refl w lo hi g2).any KA.out)
  have h2 := h.any KA.out
  clear h BA
  have HM := hide h2
  obtain ⟨gd, cd, ga, ca, g1, c1, c2, hB9, hO9⟩ := h2
  have HB := hide hB9
  have HO := hide hO9
  obtain ⟨t0, t1, t2, t3, t4, t5, t6, t7, t8, t9, t10, t11, t12, t13, t14, t15⟩ := hB9.cells
  clear t0 t1 t2 t3 t4 t5 t6 t7 t8 t9 t10 t11 t12 t13 t14 t15
  clear hB9 hO9
  clear G B
  have E : Hid (c.flow x = c.raise (18 + x.r)) := hide (by unfold Pl.Mc.flow; rw [HSU.out]; rfl)
  have r0 := HI.out.r0
  have r1 := HI.out.r1
  go_enter Tryz.func81, Tryz.ntmps81
  go_wp2_with (go_at_call 124; refine (mRaise _ lo mid hi p g2 c (18 + x.r) HM.out).mono ?_; rintro e9 W_1 ⟨rfl, g2_1, hm9, hb9⟩; have HX_1 := hide (hb9.blk HX.out HHB.out HGB.out); have HGB_1 := hide (hb9.ne HX.out.lt HGB.out); have HS_1 := hide (HS.out.trans hb9); clear hb9; have HM_1 := hide hm9; obtain ⟨gd_1, cd_1, ga_1, ca_1, g1_1, c1_1, c2_1, hB9, hO9⟩ := hm9; have HB_1 := hide hB9; have HO_1 := hide hO9; obtain ⟨t0_1, t1_1, t2_1, t3_1, t4_1, t5_1, t6_1, t7_1, t8_1, t9_1, t10_1, t11_1, t12_1, t13_1, t14_1, t15_1⟩ := hB9.cells; clear t0_1 t1_1 t2_1 t3_1 t4_1 t5_1 t6_1 t7_1 t8_1 t9_1 t10_1 t11_1 t12_1 t13_1 t14_1 t15_1; clear hB9 hO9; clear b0 b1 b2 b3 b4 b5 b6; obtain ⟨b0, b1, b2, b3, b4, b5, b6⟩ := insAt HX_1.out; rw [HSU.out] at b6)
  first | go_end0 | refine bodyPost_ret (results_none rfl _ _ _) rfl ?_
  exact ⟨rfl, g2_1, by rw [E.out]; exact HM_1.out, HS_1.out⟩
end Go.Proofs.YtblddehlkaolbaaGreatDoor

namespace Go.Proofs.YtblddehlkaolbaaGreatDoor
open Go.RowKit
set_option linter.unusedVariables false
set_option maxHeartbeats 4000000 in
theorem mFlow_swap (w : World) (lo mid hi p g2 : Nat) (c : Pl.Mc) (x : Pl.In) (h : MAt w lo mid hi p g2 c) (G : Pl.GM c) (B : Pl.InB x) (hs : x.s = 5) :
    Calls Tryz.prog 81 #[.pointer (some ⟨p, 0, none⟩), .agg #[.int .i64 x.op, .int .i64 x.z, .int .i64 x.r, .int .i64 x.m, .int .i64 x.k, .int .i64 x.e, .int .i64 x.s]] w fun e w' => e = .returned (.tuple #[]) ∧ ∃ g3, MAt w' lo mid hi p g3 (c.flow x) ∧ Since w lo hi g2 w' g3 := by
  have HG := hide G
  have HI := hide B
  have HSU := hide hs
  clear hs
  have hl := h.lo
  have KA := hide (kept_alloc w (.cells #[.int .i64 x.op, .int .i64 x.z, .int .i64 x.r, .int .i64 x.m, .int .i64 x.k, .int .i64 x.e, .int .i64 x.s] 79))
  have BA : Blk (w.alloc (.cells #[.int .i64 x.op, .int .i64 x.z, .int .i64 x.r, .int .i64 x.m, .int .i64 x.k, .int .i64 x.e, .int .i64 x.s] 79)) w.heap.size (insC x) 79 := Blk.new w #[.int .i64 x.op, .int .i64 x.z, .int .i64 x.r, .int .i64 x.m, .int .i64 x.k, .int .i64 x.e, .int .i64 x.s] 79
  obtain ⟨X, hX⟩ : ∃ X : World, w.alloc (.cells #[.int .i64 x.op, .int .i64 x.z, .int .i64 x.r, .int .i64 x.m, .int .i64 x.k, .int .i64 x.e, .int .i64 x.s] 79) = X := ⟨_, rfl⟩
  rw [hX] at KA BA
  have HX := hide BA
  have hbw := BA.lt
  obtain ⟨b0, b1, b2, b3, b4, b5, b6⟩ := insAt HX.out
  rw [HSU.out] at b6
  have HHB : Hid (hi ≤ w.heap.size) := hide hl.2.2.2.2.2.2
  have HGB : Hid (w.heap.size ≠ g2) := hide (by have := hl.2.2.2.2.2.1; omega)
  have HPH : Hid ((lo ≤ p ∧ p < hi) ∨ w.heap.size ≤ p) := hide (by omega)
  have HPB : Hid (p < w.heap.size) := hide hl.2.2.2.2.1
  have HMH : Hid (mid ≤ hi) := hide (by omega)
  have HS := hide ((Since.refl w lo hi g2).any KA.out)
  have h2 := h.any KA.out
  clear h BA
  have HM := hide h2
  obtain ⟨gd, cd, ga, ca, g1, c1, c2, hB9, hO9⟩ := h2
  have HB := hide hB9
  have HO := hide hO9
  obtain ⟨t0, t1, t2, t3, t4, t5, t6, t7, t8, t9, t10, t11, t12, t13, t14, t15⟩ := hB9.cells
  clear t1 t2 t3 t4 t5 t6 t7 t8 t9 t10 t11 t12 t13 t14 t15
  clear hB9 hO9
  clear G B
  have r0 := HI.out.r0
  have r1 := HI.out.r1
  have r4 : x.r < 4 := by omega
  have HR4 : Hid (x.r.toNat < 4) := hide (by omega)
  obtain ⟨D, hD⟩ : ∃ D, el c.r.xs x.r.toNat = D := ⟨_, rfl⟩
  obtain ⟨hc1, _⟩ := elAt HO.out.d x.r.toNat (by rw [HG.out.g.d4]; exact HR4.out)
  have hDb := HG.out.g.dw x.r.toNat HR4.out
  rw [hD] at hc1 hDb
  obtain ⟨V, hVV⟩ : ∃ V, Pl.swpV D = V := ⟨_, rfl⟩
  have E : Hid (c.flow x = c.data 2 x.r V) := hide (by unfold Pl.Mc.flow; rw [HSU.out, hD, hVV]; rfl)
  have HVV : Hid (Pl.okv 2 V = true) := hide (by rw [← hVV]; unfold Pl.swpV; split <;> simp [Pl.okv, Pl.top] <;> omega)
  have HHV := hide hVV
  clear hD hVV
  have KD := hide (kept_drew (Kept.refl 0 0 X))
  have HM_D := hide (HM.out.any KD.out)
  have HX_D := hide (HX.out.kept0 KD.out)
  have HGB_D := HGB
  have HS_D := hide HS.out.drew
  go_enter Tryz.func81, Tryz.ntmps81
  go_wp2_with fail
  go_region_held3 (fun w' => w'.cell? ⟨p, 0, none⟩ = some (.slice (some ⟨gd, 0, none⟩) 4 cd) ∧ w'.cell? ⟨w.heap.size, 2, none⟩ = some (.int .i64 x.r) ∧ w'.cell? ⟨gd, x.r.toNat, none⟩ = some (.int .i64 D)) (first | go_keep) (first | (go_at_call 125; refine (specSwapBytes _ _).mono ?_; rintro e9 w9 ⟨rfl, hw⟩; have hw2 := hw.symm; clear hw; subst hw2; rw [HHV.out]))
  go_wp2_with (go_at_call 126; refine (mData _ lo mid hi p g2 c 2 x.r V HM_D.out HG.out HI.out.r0 HI.out.r1 HVV.out).mono ?_; rintro e9 W_1 ⟨rfl, g2_1, hm9, hb9⟩; have HX_1 := hide (hb9.blk HX_D.out HHB.out HGB_D.out); have HGB_1 := hide (hb9.ne HX_D.out.lt HGB_D.out); have HS_1 := hide (HS_D.out.trans hb9); clear hb9; have HM_1 := hide hm9; obtain ⟨gd_1, cd_1, ga_1, ca_1, g1_1, c1_1, c2_1, hB9, hO9⟩ := hm9; have HB_1 := hide hB9; have HO_1 := hide hO9; obtain ⟨t0_1, t1_1, t2_1, t3_1, t4_1, t5_1, t6_1, t7_1, t8_1, t9_1, t10_1, t11_1, t12_1, t13_1, t14_1, t15_1⟩ := hB9.cells; clear t0_1 t1_1 t2_1 t3_1 t4_1 t5_1 t6_1 t7_1 t8_1 t9_1 t10_1 t11_1 t12_1 t13_1 t14_1 t15_1; clear hB9 hO9; clear b0 b1 b2 b3 b4 b5 b6; obtain ⟨b0, b1, b2, b3, b4, b5, b6⟩ := insAt HX_1.out; rw [HSU.out] at b6)
  first | go_end0 | refine bodyPost_ret (results_none rfl _ _ _) rfl ?_
  exact ⟨rfl, g2_1, by rw [E.out]; exact HM_1.out, HS_1.out⟩
set_option maxHeartbeats 4000000 in
theorem mFlow_ext (w : World) (lo mid hi p g2 : Nat) (c : Pl.Mc) (x : Pl.In) (h : MAt w lo mid hi p g2 c) (G : Pl.GM c) (B : Pl.InB x) (hs : x.s = 6) :
    Calls Tryz.prog 81 #[.pointer (some ⟨p, 0, none⟩), .agg #[.int .i64 x.op, .int .i64 x.z, .int .i64 x.r, .int .i64 x.m, .int .i64 x.k, .int .i64 x.e, .int .i64 x.s]] w fun e w' => e = .returned (.tuple #[]) ∧ ∃ g3, MAt w' lo mid hi p g3 (c.flow x) ∧ Since w lo hi g2 w' g3 := by
  have HG := hide G
  have HI := hide B
  have HSU := hide hs
  clear hs
  have hl := h.lo
  have KA := hide (kept_alloc w (.cells #[.int .i64 x.op, .int .i64 x.z, .int .i64 x.r, .int .i64 x.m, .int .i64 x.k, .int .i64 x.e, .int .i64 x.s] 79))
  have BA : Blk (w.alloc (.cells #[.int .i64 x.op, .int .i64 x.z, .int .i64 x.r, .int .i64 x.m, .int .i64 x.k, .int .i64 x.e, .int .i64 x.s] 79)) w.heap.size (insC x) 79 := Blk.new w #[.int .i64 x.op, .int .i64 x.z, .int .i64 x.r, .int .i64 x.m, .int .i64 x.k, .int .i64 x.e, .int .i64 x.s] 79
  obtain ⟨X, hX⟩ : ∃ X : World, w.alloc (.cells #[.int .i64 x.op, .int .i64 x.z, .int .i64 x.r, .int .i64 x.m, .int .i64 x.k, .int .i64 x.e, .int .i64 x.s] 79) = X := ⟨_, rfl⟩
  rw [hX] at KA BA
  have HX := hide BA
  have hbw := BA.lt
  obtain ⟨b0, b1, b2, b3, b4, b5, b6⟩ := insAt HX.out
  rw [HSU.out] at b6
  have HHB : Hid (hi ≤ w.heap.size) := hide hl.2.2.2.2.2.2
  have HGB : Hid (w.heap.size ≠ g2) := hide (by have := hl.2.2.2.2.2.1; omega)
  have HPH : Hid ((lo ≤ p ∧ p < hi) ∨ w.heap.size ≤ p) := hide (by omega)
  have HPB : Hid (p < w.heap.size) := hide hl.2.2.2.2.1
  have HMH : Hid (mid ≤ hi) := hide (by omega)
  have HS := hide ((Since.refl w lo hi g2).any KA.out)
  have h2 := h.any KA.out
  clear h BA
  have HM := hide h2
  obtain ⟨gd, cd, ga, ca, g1, c1, c2, hB9, hO9⟩ := h2
  have HB := hide hB9
  have HO := hide hO9
  obtain ⟨t0, t1, t2, t3, t4, t5, t6, t7, t8, t9, t10, t11, t12, t13, t14, t15⟩ := hB9.cells
  clear t1 t2 t3 t4 t5 t6 t7 t8 t9 t10 t11 t12 t13 t14 t15
  clear hB9 hO9
  clear G B
  have r0 := HI.out.r0
  have r1 := HI.out.r1
  have r4 : x.r < 4 := by omega
  have HR4 : Hid (x.r.toNat < 4) := hide (by omega)
  obtain ⟨D, hD⟩ : ∃ D, el c.r.xs x.r.toNat = D := ⟨_, rfl⟩
  obtain ⟨hc1, _⟩ := elAt HO.out.d x.r.toNat (by rw [HG.out.g.d4]; exact HR4.out)
  have hDb := HG.out.g.dw x.r.toNat HR4.out
  rw [hD] at hc1 hDb
  have m1 := Pl.and255 D
  obtain ⟨V, hVV⟩ : ∃ V, Pl.extV (D % 256) = V := ⟨_, rfl⟩
  have E : Hid (c.flow x = c.data 2 x.r V) := hide (by unfold Pl.Mc.flow; rw [HSU.out, hD, hVV]; rfl)
  have HVV : Hid (Pl.okv 2 V = true) := hide (by rw [← hVV]; unfold Pl.extV; split <;> simp [Pl.okv, Pl.top] <;> omega)
  have HHV := hide hVV
  clear hD hVV
  have KD := hide (kept_drew (Kept.refl 0 0 X))
  have HM_D := hide (HM.out.any KD.out)
  have HX_D := hide (HX.out.kept0 KD.out)
  have HGB_D := HGB
  have HS_D := hide HS.out.drew
  go_enter Tryz.func81, Tryz.ntmps81
  go_wp2_with fail
  go_region_held3 (fun w' => w'.cell? ⟨p, 0, none⟩ = some (.slice (some ⟨gd, 0, none⟩) 4 cd) ∧ w'.cell? ⟨w.heap.size, 2, none⟩ = some (.int .i64 x.r) ∧ w'.cell? ⟨gd, x.r.toNat, none⟩ = some (.int .i64 D)) (first | go_keep) (first | (go_at_call 127; refine (specExtendWord _ _).mono ?_; rintro e9 w9 ⟨rfl, hw⟩; have hw2 := hw.symm; clear hw; subst hw2; rw [HHV.out]))
  go_wp2_with (go_at_call 126; refine (mData _ lo mid hi p g2 c 2 x.r V HM_D.out HG.out HI.out.r0 HI.out.r1 HVV.out).mono ?_; rintro e9 W_1 ⟨rfl, g2_1, hm9, hb9⟩; have HX_1 := hide (hb9.blk HX_D.out HHB.out HGB_D.out); have HGB_1 := hide (hb9.ne HX_D.out.lt HGB_D.out); have HS_1 := hide (HS_D.out.trans hb9); clear hb9; have HM_1 := hide hm9; obtain ⟨gd_1, cd_1, ga_1, ca_1, g1_1, c1_1, c2_1, hB9, hO9⟩ := hm9; have HB_1 := hide hB9; have HO_1 := hide hO9; obtain ⟨t0_1, t1_1, t2_1, t3_1, t4_1, t5_1, t6_1, t7_1, t8_1, t9_1, t10_1, t11_1, t12_1, t13_1, t14_1, t15_1⟩ := hB9.cells; clear t0_1 t1_1 t2_1 t3_1 t4_1 t5_1 t6_1 t7_1 t8_1 t9_1 t10_1 t11_1 t12_1 t13_1 t14_1 t15_1; clear hB9 hO9; clear b0 b1 b2 b3 b4 b5 b6; obtain ⟨b0, b1, b2, b3, b4, b5, b6⟩ := insAt HX_1.out; rw [HSU.out] at b6)
  first | go_end0 | refine bodyPost_ret (results_none rfl _ _ _) rfl ?_
  exact ⟨rfl, g2_1, by rw [E.out]; exact HM_1.out, HS_1.out⟩
set_option maxHeartbeats 4000000 in
theorem mFlow_stop (w : World) (lo mid hi p g2 : Nat) (c : Pl.Mc) (x : Pl.In) (h : MAt w lo mid hi p g2 c) (G : Pl.GM c) (B : Pl.InB x) (hs : x.s = 3) (e3 : x.e ≤ 1023) :
    Calls Tryz.prog 81 #[.pointer (some ⟨p, 0, none⟩), .agg #[.int .i64 x.op, .int .i64 x.z, .int .i64 x.r, .int .i64 x.m, .int .i64 x.k, .int .i64 x.e, .int .i64 x.s]] w fun e w' => e = .returned (.tuple #[]) ∧ ∃ g3, MAt w' lo mid hi p g3 (c.flow x) ∧ Since w lo hi g2 w' g3 := by
  have HG := hide G
  have HI := hide B
  have HSU := hide hs
  clear hs
  have hl := h.lo
  have KA := hide (kept_alloc w (.cells #[.int .i64 x.op, .int .i64 x.z, .int .i64 x.r, .int .i64 x.m, .int .i64 x.k, .int .i64 x.e, .int .i64 x.s] 79))
  have BA : Blk (w.alloc (.cells #[.int .i64 x.op, .int .i64 x.z, .int .i64 x.r, .int .i64 x.m, .int .i64 x.k, .int .i64 x.e, .int .i64 x.s] 79)) w.heap.size (insC x) 79 := Blk.new w #[.int .i64 x.op, .int .i64 x.z, .int .i64 x.r, .int .i64 x.m, .int .i64 x.k, .int .i64 x.e, .int .i64 x.s] 79
  obtain ⟨X, hX⟩ : ∃ X : World, w.alloc (.cells #[.int .i64 x.op, .int .i64 x.z, .int .i64 x.r, .int .i64 x.m, .int .i64 x.k, .int .i64 x.e, .int .i64 x.s] 79) = X := ⟨_, rfl⟩
  rw [hX] at KA BA
  have HX := hide BA
  have hbw := BA.lt
  obtain ⟨b0, b1, b2, b3, b4, b5, b6⟩ := insAt HX.out
  rw [HSU.out] at b6
  have HHB : Hid (hi ≤ w.heap.size) := hide hl.2.2.2.2.2.2
  have HGB : Hid (w.heap.size ≠ g2) := hide (by have := hl.2.2.2.2.2.1; omega)
  have HPH : Hid ((lo ≤ p ∧ p < hi) ∨ w.heap.size ≤ p) := hide (by omega)
  have HPB : Hid (p < w.heap.size) := hide hl.2.2.2.2.1
  have HMH : Hid (mid ≤ hi) := hide (by omega)
  have HS := hide ((Since.refl w lo hi g2).any KA.out)
  have h2 := h.any KA.out
  clear h BA
  have HM := hide h2
  obtain ⟨gd, cd, ga, ca, g1, c1, c2, hB9, hO9⟩ := h2
  have HB := hide hB9
  have HO := hide hO9
  obtain ⟨t0, t1, t2, t3, t4, t5, t6, t7, t8, t9, t10, t11, t12, t13, t14, t15⟩ := hB9.cells
  clear t8 t9 t10 t11 t12 t13 t14 t15
  clear hB9 hO9
  clear G B
  have E : Hid (c.flow x = { c.setR (Pl.withR c.r x.e) with st := true }) := hide (by unfold Pl.Mc.flow; rw [HSU.out]; rfl)
  have HW := fun w9 hr hh => with4 w9 lo mid gd cd ga ca c.r x.e hr hh HG.out.g HI.out.e0 e3
  obtain ⟨R, hR⟩ : ∃ R, Pl.withR c.r x.e = R := ⟨_, rfl⟩
  rw [hR] at E
  simp only [hR, regV] at HW
  clear hR
  have HOY := hide (HO.out.any (kept_drew (Kept.refl 0 0 X)))
  have HBY := hide (HB.out.any (kept_drew (Kept.refl 0 0 X)))
  have HSY := hide HS.out.drew
  have HRY := hide (MO.reg (r := c.r) HOY.out)
  have HMY : Hid (mid ≤ X.drew.heap.size) := hide (Nat.le_trans HMH.out HOY.out.hh)
  have HPM := HOY.out.p0
  go_enter Tryz.func81, Tryz.ntmps81
  go_wp2_with fail
  go_region_with (go_at_call 84; refine (HW _ HRY.out HMY.out).mono ?_; rintro e9 W_9 ⟨rfl, hr9, hk9⟩; have HO_9 := hide (HOY.out.regs hr9 hk9); have HB_9 := hide (HBY.out.regs hk9 HPM); have HS_9 := hide (HSY.out.keptS hk9 (Nat.le_refl _) HMH.out); clear hr9 hk9 t0 t1 t2 t3 t4 t5 t6 t7; obtain ⟨u0, u1, u2, u3, u4, u5, u6, u7, u8, u9, u10, _⟩ := HB_9.out.cells; have q0 := HB_9.out.frozen 0; have q1 := HB_9.out.frozen 1; have q2 := HB_9.out.frozen 2; have q3 := HB_9.out.frozen 3; have q4 := HB_9.out.frozen 4; have q5 := HB_9.out.frozen 5; have q6 := HB_9.out.frozen 6; have q7 := HB_9.out.frozen 7; have q10 := HB_9.out.frozen 10)
  all_goals
    go_wp2_with fail
    first | go_end0 | refine bodyPost_ret (results_none rfl _ _ _) rfl ?_
    exact ⟨rfl, g2, by rw [E.out]; exact (MAt.laid HB_9.out HO_9.out).cSt true, (since8 HS_9.out HPH.out _ _ _ _ _ _ _ _).set p 10 _ HPH.out⟩
theorem mFlow (w : World) (lo mid hi p g2 : Nat) (c : Pl.Mc) (x : Pl.In) (h : MAt w lo mid hi p g2 c) (G : Pl.GM c) (B : Pl.InB x) (hs : x.s ≤ 6) (e3 : x.s = 3 → x.e ≤ 1023) :
    Calls Tryz.prog 81 #[.pointer (some ⟨p, 0, none⟩), .agg #[.int .i64 x.op, .int .i64 x.z, .int .i64 x.r, .int .i64 x.m, .int .i64 x.k, .int .i64 x.e, .int .i64 x.s]] w fun e w' => e = .returned (.tuple #[]) ∧ ∃ g3, MAt w' lo mid hi p g3 (c.flow x) ∧ Since w lo hi g2 w' g3 := by
  have s0 := B.s0
  have hc : x.s = 0 ∨ x.s = 1 ∨ x.s = 2 ∨ x.s = 3 ∨ x.s = 4 ∨ x.s = 5 ∨ x.s = 6 := by omega
  rcases hc with q | q | q | q | q | q | q
  · exact mFlow_rts w lo mid hi p g2 c x h G B q
  · cases hf : c.pop.fine
    · exact mFlow_rte1 w lo mid hi p g2 c x h G B q hf
    · cases hf2 : c.pop.pop.fine
      · exact mFlow_rte2 w lo mid hi p g2 c x h G B q hf hf2
      · exact mFlow_rte w lo mid hi p g2 c x h G B q hf hf2
  · exact mFlow_nop w lo mid hi p g2 c x h G B q
  · exact mFlow_stop w lo mid hi p g2 c x h G B q (e3 q)
  · exact mFlow_trap w lo mid hi p g2 c x h G B q
  · exact mFlow_swap w lo mid hi p g2 c x h G B q
  · exact mFlow_ext w lo mid hi p g2 c x h G B q
end Go.Proofs.YtblddehlkaolbaaGreatDoor

namespace Go.Proofs.YtblddehlkaolbaaGreatDoor
open Go.RowKit
set_option linter.unusedVariables false
theorem specEven (c : Int) (j : Nat) (hj : j < 32) (w : World) (hc : c = 0 ∨ c = 2 ∨ c = 4 ∨ c = 6 ∨ c = 8 ∨ c = 10 ∨ c = 12 ∨ c = 14) :
    Calls Tryz.prog 155 #[.int .i64 c, .int .i64 (j : Int)] w fun e w' => e = .returned (.bool (Pl.ev c j)) ∧ w' = w := by
  have HC := hide (Pl.bit_c j hj)
  have HV := hide (Pl.bit_v j hj)
  have HZ := hide (Pl.bit_z j hj)
  have HN := hide (Pl.bit_n j hj)
  have HX := hide (Pl.bit_cz j hj)
  rcases hc with rfl | rfl | rfl | rfl | rfl | rfl | rfl | rfl
  · go_enter Tryz.func155, Tryz.ntmps155
    go_wp2
    go_ret
    exact ⟨rB rfl, rfl⟩
  · go_enter Tryz.func155, Tryz.ntmps155
    go_wp2
    go_ret
    exact ⟨rB (by rw [HX.out]; rfl), rfl⟩
  · go_enter Tryz.func155, Tryz.ntmps155
    go_wp2
    go_ret
    exact ⟨rB (by rw [HC.out]; rfl), rfl⟩
  · go_enter Tryz.func155, Tryz.ntmps155
    go_wp2
    go_ret
    exact ⟨rB (by rw [HZ.out]; rfl), rfl⟩
  · go_enter Tryz.func155, Tryz.ntmps155
    go_wp2
    go_ret
    exact ⟨rB (by rw [HV.out]; rfl), rfl⟩
  · go_enter Tryz.func155, Tryz.ntmps155
    go_wp2
    go_ret
    exact ⟨rB (by rw [HN.out]; rfl), rfl⟩
  · go_enter Tryz.func155, Tryz.ntmps155
    go_wp2
    go_ret
    exact ⟨rB (by simp only [bne, HN.out, HV.out]; simp [Pl.ev]), rfl⟩
  · cases hl : ((bits .and .i64 (j : Int) 8 != 0) == (bits .and .i64 (j : Int) 2 != 0))
    · go_enter Tryz.func155, Tryz.ntmps155
      go_wp2
      go_ret
      exact ⟨rB (by simp only [bne, HN.out, HV.out] at hl; simp [Pl.ev]; simp at hl; simp [hl]), rfl⟩
    · go_enter Tryz.func155, Tryz.ntmps155
      go_wp2
      go_ret
      exact ⟨rB (by simp only [bne, HN.out, HV.out] at hl; rw [HZ.out]; simp [Pl.ev]; simp at hl; simp [hl]), rfl⟩
theorem specTst (k j : Nat) (hk : k < 16) (hj : j < 32) (w : World) :
    Calls Tryz.prog 121 #[.int .i64 (k : Int), .int .i64 (j : Int)] w fun e w' => e = .returned (.bool (Pl.tst k j)) ∧ w' = w := by
  have hE := Pl.bit_even k hk
  have hO := Pl.and1 (k : Int)
  go_enter Tryz.func121, Tryz.ntmps121
  go_wp2_with (go_at_call 155; refine (specEven _ j hj _ (by omega)).mono ?_; rintro e w' ⟨rfl, hw⟩; have hw2 := hw.symm; clear hw; subst hw2)
  go_ret
  exact ⟨rB (by unfold Pl.tst; rfl), rfl⟩
end Go.Proofs.YtblddehlkaolbaaGreatDoor

