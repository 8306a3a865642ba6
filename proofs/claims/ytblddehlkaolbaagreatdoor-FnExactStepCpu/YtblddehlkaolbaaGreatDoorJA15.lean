/- What the model's step does with products and quotients. What the model's step does with one operand. What the models of chapter 2 answer for every argument: one contract a function; none changes the world. What the models of chapter 2's sums and differences answer for every argument: one contract a function; none changes the world. -/
import Derived.Test.YtblddehlkaolbaaGreatDoorJA14
import Derived.Deep.RegionHeld3
import Derived.Test.YtblddehlkaolbaaGreatDoorJA1
import Derived.Test.YtblddehlkaolbaaGreatDoorJA2
namespace Go.Proofs.YtblddehlkaolbaaGreatDoor
open Go.RowKit
set_option linter.unusedVariables false
theorem mProd_no (w : World) (lo mid hi p g2 : Nat) (c : Pl.Mc) (x : Pl.In) (h : MAt w lo mid hi p g2 c) (G : Pl.GM c) (B : Pl.InB x) (hf : (c.read 2 x.m x.k x.e).fine = false) :
    Calls Tryz.prog 82 #[.pointer (some ⟨p, 0, none⟩), .agg #[.int .i64 x.op, .int .i64 x.z, .int .i64 x.r, .int .i64 x.m, .int .i64 x.k, .int .i64 x.e, .int .i64 x.s]] w fun e w' => e = .returned (.tuple #[]) ∧ ∃ g3, MAt w' lo mid hi p g3 (c.product x) ∧ Since w lo hi g2 w' g3 := by
  have HG := hide G
  have HI := hide B
  have HE2 : Pl.okv 2 x.e = true := by have := B.e0; have := B.e1; simp [Pl.okv, Pl.top]; omega
  have HV := hide (Pl.readV_in (z := 2) (m := x.m) G (.inr rfl) B.k0 B.k1 B.e0 B.e1 (fun _ => rfl) (fun _ => HE2))
  clear HE2
  have HG1 := hide (G.read (z := 2) (m := x.m) (.inr rfl) B.k0 B.k1 B.e0 B.e1)
  have hl := h.lo
  have KA := hide (kept_alloc w (.cells #[.int .i64 x.op, .int .i64 x.z, .int .i64 x.r, .int .i64 x.m, .int .i64 x.k, .int .i64 x.e, .int .i64 x.s] 79))
  have BA : Blk (w.alloc (.cells #[.int .i64 x.op, .int .i64 x.z, .int .i64 x.r, .int .i64 x.m, .int .i64 x.k, .int .i64 x.e, .int .i64 x.s] 79)) w.heap.size (insC x) 79 := Blk.new w #[.int .i64 x.op, .int .i64 x.z, .int .i64 x.r, .int .i64 x.m, .int .i64 x.k, .int .i64 x.e, .int .i64 x.s] 79
  obtain ⟨X, hX⟩ : ∃ X : World, w.alloc (.cells #[.int .i64 x.op, .int .i64 x.z, .int .i64 x.r, .int .i64 x.m, .int .i64 x.k, .int .i64 x.e, .int .i64 x.s] 79) = X := ⟨_, rfl⟩
  rw [hX] at KA BA
  have HX := hide BA
  have hbw := BA.lt
  obtain ⟨b0, b1, b2, b3, b4, b5, b6⟩ := insAt HX.out
  have HHB : Hid (hi ≤ w.heap.size) := hide hl.2.2.2.2.2.2
  have HGB : Hid (w.heap.size ≠ g2) := hide (by have := hl.2.2.2.2.2.1; omega)
  have HPH : Hid ((lo ≤ p ∧ p < hi) ∨ w.heap.size ≤ p) := hide (by omega)
  have HPB : Hid (p < w.heap.size) := hide hl.2.2.2.2.1
  have HMH : Hid (mid ≤ hi) := hide (by omega)
  have HS := hide ((Since.refl w lo hi g2).any KA.out)
  have h2 := h.any KA.out
  clear h BA
  have HM := hide h2
  obtain ⟨gd, cd, ga, ca, g1, c1, c2, hB9, hO9⟩ := h2
  have HB := hide hB9
  have HO := hide hO9
  obtain ⟨t0, t1, t2, t3, t4, t5, t6, t7, t8, t9, t10, t11, t12, t13, t14, t15⟩ := hB9.cells
  clear t0 t1 t2 t3 t4 t5 t6 t7 t8 t9 t10 t11 t12 t13 t14 t15
  clear hB9 hO9
  clear G B
  have E : Hid (c.product x = c.read 2 x.m x.k x.e) := hide (by unfold Pl.Mc.product; rw [hf]; rfl)
  go_enter Tryz.func82, Tryz.ntmps82
  go_wp2_with (first | (go_at_call 72; refine (mRead _ lo mid hi p g2 c 2 x.m x.k x.e HM.out HG.out (.inr rfl) HI.out.k0 HI.out.k1 HI.out.e0 HI.out.e1 HI.out.m0 HI.out.m1).mono ?_; rintro e9 W_1 ⟨rfl, g2_1, hm9, hb9⟩; have HX_1 := hide (hb9.blk HX.out HHB.out HGB.out); have HGB_1 := hide (hb9.ne HX.out.lt HGB.out); have HS_1 := hide (HS.out.trans hb9); clear hb9; have HM_1 := hide hm9; obtain ⟨gd_1, cd_1, ga_1, ca_1, g1_1, c1_1, c2_1, hB9, hO9⟩ := hm9; have HB_1 := hide hB9; have HO_1 := hide hO9; obtain ⟨t0_1, t1_1, t2_1, t3_1, t4_1, t5_1, t6_1, t7_1, t8_1, t9_1, t10_1, t11_1, t12_1, t13_1, t14_1, t15_1⟩ := hB9.cells; clear t0_1 t1_1 t2_1 t3_1 t4_1 t5_1 t6_1 t7_1 t8_1 t9_1 t10_1 t11_1 t12_1 t13_1 t14_1 t15_1; clear hB9 hO9; clear b0 b1 b2 b3 b4 b5 b6; obtain ⟨b0, b1, b2, b3, b4, b5, b6⟩ := insAt HX_1.out) | (go_at_call 41; refine (mFine _ lo mid hi p g2_1 _ HM_1.out).mono ?_; rintro e9 w9 ⟨rfl, hw⟩; have hw2 := hw.symm; clear hw; subst hw2; rw [hf]))
  first | go_end0 | refine bodyPost_ret (results_none rfl _ _ _) rfl ?_
  exact ⟨rfl, g2_1, by rw [E.out]; exact HM_1.out, HS_1.out⟩
set_option maxHeartbeats 4000000 in
theorem mProd_mul (w : World) (lo mid hi p g2 : Nat) (c : Pl.Mc) (x : Pl.In) (h : MAt w lo mid hi p g2 c) (G : Pl.GM c) (B : Pl.InB x) (hf : (c.read 2 x.m x.k x.e).fine = true) (ho : x.op = 16) :
    Calls Tryz.prog 82 #[.pointer (some ⟨p, 0, none⟩), .agg #[.int .i64 x.op, .int .i64 x.z, .int .i64 x.r, .int .i64 x.m, .int .i64 x.k, .int .i64 x.e, .int .i64 x.s]] w fun e w' => e = .returned (.tuple #[]) ∧ ∃ g3, MAt w' lo mid hi p g3 (c.product x) ∧ Since w lo hi g2 w' g3 := by
  have HG := hide G
  have HI := hide B
  have HE2 : Pl.okv 2 x.e = true := by have := B.e0; have := B.e1; simp [Pl.okv, Pl.top]; omega
  have HV := hide (Pl.readV_in (z := 2) (m := x.m) G (.inr rfl) B.k0 B.k1 B.e0 B.e1 (fun _ => rfl) (fun _ => HE2))
  clear HE2
  have HG1 := hide (G.read (z := 2) (m := x.m) (.inr rfl) B.k0 B.k1 B.e0 B.e1)
  have HOP := hide ho
  clear ho
  have hl := h.lo
  have KA := hide (kept_alloc w (.cells #[.int .i64 x.op, .int .i64 x.z, .int .i64 x.r, .int .i64 x.m, .int .i64 x.k, .int .i64 x.e, .int .i64 x.s] 79))
  have BA : Blk (w.alloc (.cells #[.int .i64 x.op, .int .i64 x.z, .int .i64 x.r, .int .i64 x.m, .int .i64 x.k, .int .i64 x.e, .int .i64 x.s] 79)) w.heap.size (insC x) 79 := Blk.new w #[.int .i64 x.op, .int .i64 x.z, .int .i64 x.r, .int .i64 x.m, .int .i64 x.k, .int .i64 x.e, .int .i64 x.s] 79
  obtain ⟨X, hX⟩ : ∃ X : World, w.alloc (.cells #[.int .i64 x.op, .int .i64 x.z, .int .i64 x.r, .int .i64 x.m, .int .i64 x.k, .int .i64 x.e, .int .i64 x.s] 79) = X := ⟨_, rfl⟩
  rw [hX] at KA BA
  have HX := hide BA
  have hbw := BA.lt
  obtain ⟨b0, b1, b2, b3, b4, b5, b6⟩ := insAt HX.out
  rw [HOP.out] at b0
  have HHB : Hid (hi ≤ w.heap.size) := hide hl.2.2.2.2.2.2
  have HGB : Hid (w.heap.size ≠ g2) := hide (by have := hl.2.2.2.2.2.1; omega)
  have HPH : Hid ((lo ≤ p ∧ p < hi) ∨ w.heap.size ≤ p) := hide (by omega)
  have HPB : Hid (p < w.heap.size) := hide hl.2.2.2.2.1
  have HMH : Hid (mid ≤ hi) := hide (by omega)
  have HS := hide ((Since.refl w lo hi g2).any KA.out)
  have h2 := h.any KA.out
  clear h BA
  have HM := hide h2
  obtain ⟨gd, cd, ga, ca, g1, c1, c2, hB9, hO9⟩ := h2
  have HB := hide hB9
  have HO := hide hO9
  obtain ⟨t0, t1, t2, t3, t4, t5, t6, t7, t8, t9, t10, t11, t12, t13, t14, t15⟩ := hB9.cells
  clear t0 t1 t2 t3 t4 t5 t6 t7 t8 t9 t10 t11 t12 t13 t14 t15
  clear hB9 hO9
  clear G B
  obtain ⟨d, hd⟩ : ∃ d, c.read 2 x.m x.k x.e = d := ⟨_, rfl⟩
  obtain ⟨v, hv⟩ : ∃ v, c.readV 2 x.m x.k x.e = v := ⟨_, rfl⟩
  have E : Hid (c.product x = d.prod' x v) := hide (by unfold Pl.Mc.product; rw [hf, hd, hv]; rfl)
  have HRD := fun w9 h9 => mRead w9 lo mid hi p g2 c 2 x.m x.k x.e h9 HG.out (.inr rfl) HI.out.k0 HI.out.k1 HI.out.e0 HI.out.e1 HI.out.m0 HI.out.m1
  rw [hd] at hf HG1
  rw [hv] at HV
  simp only [hd, hv] at HRD
  clear hd hv
  have r0 := HI.out.r0
  have r1 := HI.out.r1
  have r4 : x.r < 4 := by omega
  have HR4 : Hid (x.r.toNat < 4) := hide (by omega)
  obtain ⟨D, hD⟩ : ∃ D, el d.r.xs x.r.toNat = D := ⟨_, rfl⟩
  have hDb := HG1.out.g.dw x.r.toNat HR4.out
  rw [hD] at hDb
  obtain ⟨hD0, hD1⟩ := hDb
  have HDD := hide hD
  clear hD
  have hvb := Pl.top_ok HV.out
  have hv0 : 0 ≤ v := hvb.2.1
  have hv1 : v ≤ 65535 := by have := hvb.2.2; simp [Pl.top] at this; omega
  clear hvb
  obtain ⟨Q, hQ⟩ : ∃ Q, D * v = Q := ⟨_, rfl⟩
  have hQ0 : 0 ≤ D * v := Int.mul_nonneg hD0 hv0
  have hQ1 : D * v ≤ 65535 * 65535 := Int.mul_le_mul hD1 hv1 hv0 (by decide)
  have E2 : Hid (d.prod' x v = d.mulF x Q) := hide (by unfold Pl.Mc.prod'; rw [HOP.out, HDD.out, hQ]; rfl)
  have HVQ : Hid (Pl.okv 2 (Q % 65536) = true) := hide (by simp [Pl.okv, Pl.top]; omega)
  have hm := mask16 Q
  have hg9 : (decide (65535 < Q)) = decide (65535 < Q) := rfl
  go_enter Tryz.func82, Tryz.ntmps82
  go_wp2_with (first | (go_at_call 72; refine (HRD _ HM.out).mono ?_; rintro e9 W_1 ⟨rfl, g2_1, hm9, hb9⟩; have HX_1 := hide (hb9.blk HX.out HHB.out HGB.out); have HGB_1 := hide (hb9.ne HX.out.lt HGB.out); have HS_1 := hide (HS.out.trans hb9); clear hb9; have HM_1 := hide hm9; obtain ⟨gd_1, cd_1, ga_1, ca_1, g1_1, c1_1, c2_1, hB9, hO9⟩ := hm9; have HB_1 := hide hB9; have HO_1 := hide hO9; obtain ⟨t0_1, t1_1, t2_1, t3_1, t4_1, t5_1, t6_1, t7_1, t8_1, t9_1, t10_1, t11_1, t12_1, t13_1, t14_1, t15_1⟩ := hB9.cells; clear t1_1 t2_1 t3_1 t4_1 t5_1 t6_1 t7_1 t8_1 t9_1 t10_1 t11_1 t12_1 t13_1 t14_1 t15_1; clear hB9 hO9; clear b0 b1 b2 b3 b4 b5 b6; obtain ⟨b0, b1, b2, b3, b4, b5, b6⟩ := insAt HX_1.out; rw [HOP.out] at b0; obtain ⟨hc, _⟩ := elAt HO_1.out.d x.r.toNat (by rw [HG1.out.g.d4]; exact HR4.out); rw [HDD.out] at hc) | (go_at_call 41; refine (mFine _ lo mid hi p g2_1 _ HM_1.out).mono ?_; rintro e9 w9 ⟨rfl, hw⟩; have hw2 := hw.symm; clear hw; subst hw2; rw [hf]))
  go_region
  have HMD := hide (HM_1.out.any (kept_drew (Kept.refl 0 0 W_1)))
  have HX_D := hide (HX_1.out.kept0 (kept_drew (Kept.refl 0 0 W_1)))
  have HGB_D := HGB_1
  have HS_D := hide HS_1.out.drew
  go_wp2_with (go_at_call 126; refine (mData _ lo mid hi p g2_1 d 2 x.r (Q % 65536) HMD.out HG1.out HI.out.r0 HI.out.r1 HVQ.out).mono ?_; rintro e9 W_2 ⟨rfl, g2_2, hm9, hb9⟩; have HX_2 := hide (hb9.blk HX_D.out HHB.out HGB_D.out); have HGB_2 := hide (hb9.ne HX_D.out.lt HGB_D.out); have HS_2 := hide (HS_D.out.trans hb9); clear hb9; have HM_2 := hide hm9; obtain ⟨gd_2, cd_2, ga_2, ca_2, g1_2, c1_2, c2_2, hB9, hO9⟩ := hm9; have HB_2 := hide hB9; have HO_2 := hide hO9; obtain ⟨t0_2, t1_2, t2_2, t3_2, t4_2, t5_2, t6_2, t7_2, t8_2, t9_2, t10_2, t11_2, t12_2, t13_2, t14_2, t15_2⟩ := hB9.cells; clear t0_2 t1_2 t2_2 t3_2 t5_2 t6_2 t7_2 t8_2 t9_2 t10_2 t11_2 t12_2 t13_2 t14_2 t15_2; have f4_2 := hB9.frozen 4; clear hB9 hO9; clear b0 b1 b2 b3 b4 b5 b6; obtain ⟨b0, b1, b2, b3, b4, b5, b6⟩ := insAt HX_2.out)
  go_region_with (go_at_call 119; refine (l1Flag _ _ _).mono ?_; rintro e9 w9 ⟨rfl, hw⟩; have hw2 := hw.symm; clear hw; subst hw2)
  all_goals
    go_wp2_with fail
    first | go_end0 | refine bodyPost_ret (results_none rfl _ _ _) rfl ?_
    exact ⟨rfl, g2_2, by rw [E.out, E2.out]; exact (HM_2.out.cF _).drew, (HS_2.out.set p 4 _ HPH.out).drew⟩
set_option maxHeartbeats 4000000 in
theorem mProd_zero (w : World) (lo mid hi p g2 : Nat) (c : Pl.Mc) (x : Pl.In) (h : MAt w lo mid hi p g2 c) (G : Pl.GM c) (B : Pl.InB x) (hf : (c.read 2 x.m x.k x.e).fine = true) (ho : x.op = 17) (hq : (c.readV 2 x.m x.k x.e == 0) = true) :
    Calls Tryz.prog 82 #[.pointer (some ⟨p, 0, none⟩), .agg #[.int .i64 x.op, .int .i64 x.z, .int .i64 x.r, .int .i64 x.m, .int .i64 x.k, .int .i64 x.e, .int .i64 x.s]] w fun e w' => e = .returned (.tuple #[]) ∧ ∃ g3, MAt w' lo mid hi p g3 (c.product x) ∧ Since w lo hi g2 w' g3 := by
  have HG := hide G
  have HI := hide B
  have HE2 : Pl.okv 2 x.e = true := by have := B.e0; have := B.e1; simp [Pl.okv, Pl.top]; omega
  have HV := hide (Pl.readV_in (z := 2) (m := x.m) G (.inr rfl) B.k0 B.k1 B.e0 B.e1 (fun _ => rfl) (fun _ => HE2))
  clear HE2
  have HG1 := hide (G.read (z := 2) (m := x.m) (.inr rfl) B.k0 B.k1 B.e0 B.e1)
  have HOP := hide ho
  clear ho
  have hl := h.lo
  have KA := hide (kept_alloc w (.cells #[.int .i64 x.op, .int .i64 x.z, .int .i64 x.r, .int .i64 x.m, .int .i64 x.k, .int .i64 x.e, .int .i64 x.s] 79))
  have BA : Blk (w.alloc (.cells #[.int .i64 x.op, .int .i64 x.z, .int .i64 x.r, .int .i64 x.m, .int .i64 x.k, .int .i64 x.e, .int .i64 x.s] 79)) w.heap.size (insC x) 79 := Blk.new w #[.int .i64 x.op, .int .i64 x.z, .int .i64 x.r, .int .i64 x.m, .int .i64 x.k, .int .i64 x.e, .int .i64 x.s] 79
  obtain ⟨X, hX⟩ : ∃ X : World, w.alloc (.cells #[.int .i64 x.op, .int .i64 x.z, .int .i64 x.r, .int .i64 x.m, .int .i64 x.k, .int .i64 x.e, .int .i64 x.s] 79) = X := ⟨_, rfl⟩
  rw [hX] at KA BA
  have HX := hide BA
  have hbw := BA.lt
  obtain ⟨b0, b1, b2, b3, b4, b5, b6⟩ := insAt HX.out
  rw [HOP.out] at b0
  have HHB : Hid (hi ≤ w.heap.size) := hide hl.2.2.2.2.2.2
  have HGB : Hid (w.heap.size ≠ g2) := hide (by have := hl.2.2.2.2.2.1; omega)
  have HPH : Hid ((lo ≤ p ∧ p < hi) ∨ w.heap.size ≤ p) := hide (by omega)
  have HPB : Hid (p < w.heap.size) := hide hl.2.2.2.2.1
  have HMH : Hid (mid ≤ hi) := hide (by omega)
  have HS := hide ((Since.refl w lo hi g2).any KA.out)
  have h2 := h.any KA.out
  clear h BA
  have HM := hide h2
  obtain ⟨gd, cd, ga, ca, g1, c1, c2, hB9, hO9⟩ := h2
  have HB := hide hB9
  have HO := hide hO9
  obtain ⟨t0, t1, t2, t3, t4, t5, t6, t7, t8, t9, t10, t11, t12, t13, t14, t15⟩ := hB9.cells
  clear t0 t1 t2 t3 t4 t5 t6 t7 t8 t9 t10 t11 t12 t13 t14 t15
  clear hB9 hO9
  clear G B
  obtain ⟨d, hd⟩ : ∃ d, c.read 2 x.m x.k x.e = d := ⟨_, rfl⟩
  obtain ⟨v, hv⟩ : ∃ v, c.readV 2 x.m x.k x.e = v := ⟨_, rfl⟩
  have E : Hid (c.product x = d.prod' x v) := hide (by unfold Pl.Mc.product; rw [hf, hd, hv]; rfl)
  have HRD := fun w9 h9 => mRead w9 lo mid hi p g2 c 2 x.m x.k x.e h9 HG.out (.inr rfl) HI.out.k0 HI.out.k1 HI.out.e0 HI.out.e1 HI.out.m0 HI.out.m1
  rw [hd] at hf HG1
  rw [hv] at HV hq
  simp only [hd, hv] at HRD
  clear hd hv
  have r0 := HI.out.r0
  have r1 := HI.out.r1
  have r4 : x.r < 4 := by omega
  have HR4 : Hid (x.r.toNat < 4) := hide (by omega)
  obtain ⟨D, hD⟩ : ∃ D, el d.r.xs x.r.toNat = D := ⟨_, rfl⟩
  have hDb := HG1.out.g.dw x.r.toNat HR4.out
  rw [hD] at hDb
  obtain ⟨hD0, hD1⟩ := hDb
  have HDD := hide hD
  clear hD
  have hvb := Pl.top_ok HV.out
  have hv0 : 0 ≤ v := hvb.2.1
  have hv1 : v ≤ 65535 := by have := hvb.2.2; simp [Pl.top] at this; omega
  clear hvb
  have E2 : Hid (d.prod' x v = d.raise 5) := hide (by unfold Pl.Mc.prod'; rw [HOP.out, hq]; rfl)
  go_enter Tryz.func82, Tryz.ntmps82
  go_wp2_with (first | (go_at_call 72; refine (HRD _ HM.out).mono ?_; rintro e9 W_1 ⟨rfl, g2_1, hm9, hb9⟩; have HX_1 := hide (hb9.blk HX.out HHB.out HGB.out); have HGB_1 := hide (hb9.ne HX.out.lt HGB.out); have HS_1 := hide (HS.out.trans hb9); clear hb9; have HM_1 := hide hm9; obtain ⟨gd_1, cd_1, ga_1, ca_1, g1_1, c1_1, c2_1, hB9, hO9⟩ := hm9; have HB_1 := hide hB9; have HO_1 := hide hO9; obtain ⟨t0_1, t1_1, t2_1, t3_1, t4_1, t5_1, t6_1, t7_1, t8_1, t9_1, t10_1, t11_1, t12_1, t13_1, t14_1, t15_1⟩ := hB9.cells; clear t1_1 t2_1 t3_1 t4_1 t5_1 t6_1 t7_1 t8_1 t9_1 t10_1 t11_1 t12_1 t13_1 t14_1 t15_1; clear hB9 hO9; clear b0 b1 b2 b3 b4 b5 b6; obtain ⟨b0, b1, b2, b3, b4, b5, b6⟩ := insAt HX_1.out; rw [HOP.out] at b0; obtain ⟨hc, _⟩ := elAt HO_1.out.d x.r.toNat (by rw [HG1.out.g.d4]; exact HR4.out); rw [HDD.out] at hc) | (go_at_call 41; refine (mFine _ lo mid hi p g2_1 _ HM_1.out).mono ?_; rintro e9 w9 ⟨rfl, hw⟩; have hw2 := hw.symm; clear hw; subst hw2; rw [hf]))
  go_region
  have HMD := hide (HM_1.out.any (kept_drew (Kept.refl 0 0 W_1)))
  have HX_D := hide (HX_1.out.kept0 (kept_drew (Kept.refl 0 0 W_1)))
  have HGB_D := HGB_1
  have HS_D := hide HS_1.out.drew
  go_wp2_with (go_at_call 124; refine (mRaise _ lo mid hi p g2_1 d 5 HMD.out).mono ?_; rintro e9 W_2 ⟨rfl, g2_2, hm9, hb9⟩; have HX_2 := hide (hb9.blk HX_D.out HHB.out HGB_D.out); have HGB_2 := hide (hb9.ne HX_D.out.lt HGB_D.out); have HS_2 := hide (HS_D.out.trans hb9); clear hb9; have HM_2 := hide hm9; obtain ⟨gd_2, cd_2, ga_2, ca_2, g1_2, c1_2, c2_2, hB9, hO9⟩ := hm9; have HB_2 := hide hB9; have HO_2 := hide hO9; obtain ⟨t0_2, t1_2, t2_2, t3_2, t4_2, t5_2, t6_2, t7_2, t8_2, t9_2, t10_2, t11_2, t12_2, t13_2, t14_2, t15_2⟩ := hB9.cells; clear t0_2 t1_2 t2_2 t3_2 t4_2 t5_2 t6_2 t7_2 t8_2 t9_2 t10_2 t11_2 t12_2 t13_2 t14_2 t15_2; clear hB9 hO9; clear b0 b1 b2 b3 b4 b5 b6; obtain ⟨b0, b1, b2, b3, b4, b5, b6⟩ := insAt HX_2.out; rw [HOP.out] at b0)
  first | go_end0 | refine bodyPost_ret (results_none rfl _ _ _) rfl ?_
  exact ⟨rfl, g2_2, by rw [E.out, E2.out]; exact HM_2.out, HS_2.out⟩
set_option maxHeartbeats 4000000 in
theorem mProd_div (w : World) (lo mid hi p g2 : Nat) (c : Pl.Mc) (x : Pl.In) (h : MAt w lo mid hi p g2 c) (G : Pl.GM c) (B : Pl.InB x) (hf : (c.read 2 x.m x.k x.e).fine = true) (ho : x.op = 17) (hq : (c.readV 2 x.m x.k x.e == 0) = false) :
    Calls Tryz.prog 82 #[.pointer (some ⟨p, 0, none⟩), .agg #[.int .i64 x.op, .int .i64 x.z, .int .i64 x.r, .int .i64 x.m, .int .i64 x.k, .int .i64 x.e, .int .i64 x.s]] w fun e w' => e = .returned (.tuple #[]) ∧ ∃ g3, MAt w' lo mid hi p g3 (c.product x) ∧ Since w lo hi g2 w' g3 := by
  have HG := hide G
  have HI := hide B
  have HE2 : Pl.okv 2 x.e = true := by have := B.e0; have := B.e1; simp [Pl.okv, Pl.top]; omega
  have HV := hide (Pl.readV_in (z := 2) (m := x.m) G (.inr rfl) B.k0 B.k1 B.e0 B.e1 (fun _ => rfl) (fun _ => HE2))
  clear HE2
  have HG1 := hide (G.read (z := 2) (m := x.m) (.inr rfl) B.k0 B.k1 B.e0 B.e1)
  have HOP := hide ho
  clear ho
  have hl := h.lo
  have KA := hide (kept_alloc w (.cells #[.int .i64 x.op, .int .i64 x.z, .int .i64 x.r, .int .i64 x.m, .int .i64 x.k, .int .i64 x.e, .int .i64 x.s] 79))
  have BA : Blk (w.alloc (.cells #[.int .i64 x.op, .int .i64 x.z, .int .i64 x.r, .int .i64 x.m, .int .i64 x.k, .int .i64 x.e, .int .i64 x.s] 79)) w.heap.size (insC x) 79 := Blk.new w #[.int .i64 x.op, .int .i64 x.z, .int .i64 x.r, .int .i64 x.m, .int .i64 x.k, .int .i64 x.e, .int .i64 x.s] 79
  obtain ⟨X, hX⟩ : ∃ X : World, w.alloc (.cells #[.int .i64 x.op, .int .i64 x.z, .int .i64 x.r, .int .i64 x.m, .int .i64 x.k, .int .i64 x.e, .int .i64 x.s] 79) = X := ⟨_, rfl⟩
  rw [hX] at KA BA
  have HX := hide BA
  have hbw := BA.lt
  obtain ⟨b0, b1, b2, b3, b4, b5, b6⟩ := insAt HX.out
  rw [HOP.out] at b0
  have HHB : Hid (hi ≤ w.heap.size) := hide hl.2.2.2.2.2.2
  have HGB : Hid (w.heap.size ≠ g2) := hide (by have := hl.2.2.2.2.2.1; omega)
  have HPH : Hid ((lo ≤ p ∧ p < hi) ∨ w.heap.size ≤ p) := hide (by omega)
  have HPB : Hid (p < w.heap.size) := hide hl.2.2.2.2.1
  have HMH : Hid (mid ≤ hi) := hide (by omega)
  have HS := hide ((Since.refl w lo hi g2).any KA.out)
  have h2 := h.any KA.out
  clear h BA
  have HM := hide h2
  obtain ⟨gd, cd, ga, ca, g1, c1, c2, hB9, hO9⟩ := h2
  have HB := hide hB9
  have HO := hide hO9
  obtain ⟨t0, t1, t2, t3, t4, t5, t6, t7, t8, t9, t10, t11, t12, t13, t14, t15⟩ := hB9.cells
  clear t0 t1 t2 t3 t4 t5 t6 t7 t8 t9 t10 t11 t12 t13 t14 t15
  clear hB9 hO9
  clear G B
  obtain ⟨d, hd⟩ : ∃ d, c.read 2 x.m x.k x.e = d := ⟨_, rfl⟩
  obtain ⟨v, hv⟩ : ∃ v, c.readV 2 x.m x.k x.e = v := ⟨_, rfl⟩
  have E : Hid (c.product x = d.prod' x v) := hide (by unfold Pl.Mc.product; rw [hf, hd, hv]; rfl)
  have HRD := fun w9 h9 => mRead w9 lo mid hi p g2 c 2 x.m x.k x.e h9 HG.out (.inr rfl) HI.out.k0 HI.out.k1 HI.out.e0 HI.out.e1 HI.out.m0 HI.out.m1
  rw [hd] at hf HG1
  rw [hv] at HV hq
  simp only [hd, hv] at HRD
  clear hd hv
  have r0 := HI.out.r0
  have r1 := HI.out.r1
  have r4 : x.r < 4 := by omega
  have HR4 : Hid (x.r.toNat < 4) := hide (by omega)
  obtain ⟨D, hD⟩ : ∃ D, el d.r.xs x.r.toNat = D := ⟨_, rfl⟩
  have hDb := HG1.out.g.dw x.r.toNat HR4.out
  rw [hD] at hDb
  obtain ⟨hD0, hD1⟩ := hDb
  have HDD := hide hD
  clear hD
  have hvb := Pl.top_ok HV.out
  have hv0 : 0 ≤ v := hvb.2.1
  have hv1 : v ≤ 65535 := by have := hvb.2.2; simp [Pl.top] at this; omega
  clear hvb
  have E2 : Hid (d.prod' x v = d.data 2 x.r (D / v)) := hide (by unfold Pl.Mc.prod'; rw [HOP.out, hq, HDD.out]; rfl)
  have hvp : 0 < v := by simp at hq; omega
  have hdiv : D.tdiv v = D / v := Int.tdiv_eq_ediv_of_nonneg hD0
  have hd0 : 0 ≤ D / v := Int.ediv_nonneg hD0 hv0
  have hd1 : D / v ≤ 65535 := Int.le_trans (Int.ediv_le_self v hD0) hD1
  have HVQ : Hid (Pl.okv 2 (D / v) = true) := hide (by generalize D / v = N at hd0 hd1; simp [Pl.okv, Pl.top]; omega)
  go_enter Tryz.func82, Tryz.ntmps82
  go_wp2_with (first | (go_at_call 72; refine (HRD _ HM.out).mono ?_; rintro e9 W_1 ⟨rfl, g2_1, hm9, hb9⟩; have HX_1 := hide (hb9.blk HX.out HHB.out HGB.out); have HGB_1 := hide (hb9.ne HX.out.lt HGB.out); have HS_1 := hide (HS.out.trans hb9); clear hb9; have HM_1 := hide hm9; obtain ⟨gd_1, cd_1, ga_1, ca_1, g1_1, c1_1, c2_1, hB9, hO9⟩ := hm9; have HB_1 := hide hB9; have HO_1 := hide hO9; obtain ⟨t0_1, t1_1, t2_1, t3_1, t4_1, t5_1, t6_1, t7_1, t8_1, t9_1, t10_1, t11_1, t12_1, t13_1, t14_1, t15_1⟩ := hB9.cells; clear t1_1 t2_1 t3_1 t4_1 t5_1 t6_1 t7_1 t8_1 t9_1 t10_1 t11_1 t12_1 t13_1 t14_1 t15_1; clear hB9 hO9; clear b0 b1 b2 b3 b4 b5 b6; obtain ⟨b0, b1, b2, b3, b4, b5, b6⟩ := insAt HX_1.out; rw [HOP.out] at b0; obtain ⟨hc, _⟩ := elAt HO_1.out.d x.r.toNat (by rw [HG1.out.g.d4]; exact HR4.out); rw [HDD.out] at hc) | (go_at_call 41; refine (mFine _ lo mid hi p g2_1 _ HM_1.out).mono ?_; rintro e9 w9 ⟨rfl, hw⟩; have hw2 := hw.symm; clear hw; subst hw2; rw [hf]))
  go_region
  have HMD := hide ((HM_1.out.any (kept_drew (Kept.refl 0 0 W_1))).any (kept_drew (Kept.refl 0 0 W_1.drew)))
  have HX_D := hide ((HX_1.out.kept0 (kept_drew (Kept.refl 0 0 W_1))).kept0 (kept_drew (Kept.refl 0 0 W_1.drew)))
  have HGB_D := HGB_1
  have HS_D := hide HS_1.out.drew.drew
  go_wp2_with fail
  go_region_with (go_at_call 126; refine (mData _ lo mid hi p g2_1 d 2 x.r (D / v) HMD.out HG1.out HI.out.r0 HI.out.r1 HVQ.out).mono ?_; rintro e9 W_2 ⟨rfl, g2_2, hm9, hb9⟩; have HX_2 := hide (hb9.blk HX_D.out HHB.out HGB_D.out); have HGB_2 := hide (hb9.ne HX_D.out.lt HGB_D.out); have HS_2 := hide (HS_D.out.trans hb9); clear hb9; have HM_2 := hide hm9; obtain ⟨gd_2, cd_2, ga_2, ca_2, g1_2, c1_2, c2_2, hB9, hO9⟩ := hm9; have HB_2 := hide hB9; have HO_2 := hide hO9; obtain ⟨t0_2, t1_2, t2_2, t3_2, t4_2, t5_2, t6_2, t7_2, t8_2, t9_2, t10_2, t11_2, t12_2, t13_2, t14_2, t15_2⟩ := hB9.cells; clear t0_2 t1_2 t2_2 t3_2 t4_2 t5_2 t6_2 t7_2 t8_2 t9_2 t10_2 t11_2 t12_2 t13_2 t14_2 t15_2; clear hB9 hO9; clear b0 b1 b2 b3 b4 b5 b6; obtain ⟨b0, b1, b2, b3, b4, b5, b6⟩ := insAt HX_2.out; rw [HOP.out] at b0)
  all_goals
    go_wp2_with fail
    first | go_end0 | refine bodyPost_ret (results_none rfl _ _ _) rfl ?_
    exact ⟨rfl, g2_2, by rw [E.out, E2.out]; exact HM_2.out, HS_2.out⟩
theorem mProduct (w : World) (lo mid hi p g2 : Nat) (c : Pl.Mc) (x : Pl.In) (h : MAt w lo mid hi p g2 c) (G : Pl.GM c) (B : Pl.InB x) (ho : x.op = 16 ∨ x.op = 17) :
    Calls Tryz.prog 82 #[.pointer (some ⟨p, 0, none⟩), .agg #[.int .i64 x.op, .int .i64 x.z, .int .i64 x.r, .int .i64 x.m, .int .i64 x.k, .int .i64 x.e, .int .i64 x.s]] w fun e w' => e = .returned (.tuple #[]) ∧ ∃ g3, MAt w' lo mid hi p g3 (c.product x) ∧ Since w lo hi g2 w' g3 := by
  cases hf : (c.read 2 x.m x.k x.e).fine
  · exact mProd_no w lo mid hi p g2 c x h G B hf
  · rcases ho with ho | ho
    · exact mProd_mul w lo mid hi p g2 c x h G B hf ho
    · cases hq : (c.readV 2 x.m x.k x.e == 0)
      · exact mProd_div w lo mid hi p g2 c x h G B hf ho hq
      · exact mProd_zero w lo mid hi p g2 c x h G B hf ho hq
end Go.Proofs.YtblddehlkaolbaaGreatDoor

namespace Go.Proofs.YtblddehlkaolbaaGreatDoor
open Go.RowKit
set_option linter.unusedVariables false
theorem mOne_no (w : World) (lo mid hi p g2 : Nat) (c : Pl.Mc) (x : Pl.In) (h : MAt w lo mid hi p g2 c) (G : Pl.GM c) (B : Pl.InB x) (hm : x.m = 0 ∨ x.m = 2 ∨ x.m = 3 ∨ x.m = 4 ∨ x.m = 5 ∨ x.m = 6) (hs : (x.s == 0) = false) (hf : (c.read x.z x.m x.k x.e).fine = false) :
    Calls Tryz.prog 77 #[.pointer (some ⟨p, 0, none⟩), .agg #[.int .i64 x.op, .int .i64 x.z, .int .i64 x.r, .int .i64 x.m, .int .i64 x.k, .int .i64 x.e, .int .i64 x.s]] w fun e w' => e = .returned (.tuple #[]) ∧ ∃ g3, MAt w' lo mid hi p g3 (c.one x) ∧ Since w lo hi g2 w' g3 := by
  have HG := hide G
  have HI := hide B
  have E : Hid (c.one x = c.read x.z x.m x.k x.e) := hide (by unfold Pl.Mc.one; rw [hs, hf]; rfl)
  have hl := h.lo
  have KA := hide (kept_alloc w (.cells #[.int .i64 x.op, .int .i64 x.z, .int .i64 x.r, .int .i64 x.m, .int .i64 x.k, .int .i64 x.e, .int .i64 x.s] 79))
  have BA : Blk (w.alloc (.cells #[.int .i64 x.op, .int .i64 x.z, .int .i64 x.r, .int .i64 x.m, .int .i64 x.k, .int .i64 x.e, .int .i64 x.s] 79)) w.heap.size (insC x) 79 := Blk.new w #[.int .i64 x.op, .int .i64 x.z, .int .i64 x.r, .int .i64 x.m, .int .i64 x.k, .int .i64 x.e, .int .i64 x.s] 79
  obtain ⟨X, hX⟩ : ∃ X : World, w.alloc (.cells #[.int .i64 x.op, .int .i64 x.z, .int .i64 x.r, .int .i64 x.m, .int .i64 x.k, .int .i64 x.e, .int .i64 x.s] 79) = X := ⟨_, rfl⟩
  rw [hX] at KA BA
  have HX := hide BA
  have hbw := BA.lt
  obtain ⟨b0, b1, b2, b3, b4, b5, b6⟩ := insAt HX.out
  have HHB : Hid (hi ≤ w.heap.size) := hide hl.2.2.2.2.2.2
  have HGB : Hid (w.heap.size ≠ g2) := hide (by have := hl.2.2.2.2.2.1; omega)
  have HPH : Hid ((lo ≤ p ∧ p < hi) ∨ w.heap.size ≤ p) := hide (by omega)
  have HPB : Hid (p < w.heap.size) := hide hl.2.2.2.2.1
  have HMH : Hid (mid ≤ hi) := hide (by omega)
  have HS := hide ((Since.refl w lo hi g2).any KA.out)
  have h2 := h.any KA.out
  clear h BA
  have HM := hide h2
  obtain ⟨gd, cd, ga, ca, g1, c1, c2, hB9, hO9⟩ := h2
  have HB := hide hB9
  have HO := hide hO9
  obtain ⟨t0, t1, t2, t3, t4, t5, t6, t7, t8, t9, t10, t11, t12, t13, t14, t15⟩ := hB9.cells
  clear t0 t1 t2 t3 t4 t5 t6 t7 t8 t9 t10 t11 t12 t13 t14 t15
  clear hB9 hO9
  clear G B hm
  go_enter Tryz.func77, Tryz.ntmps77
  go_wp2_with (first | (go_at_call 72; refine (mRead _ lo mid hi p g2 c x.z x.m x.k x.e HM.out HG.out HI.out.z HI.out.k0 HI.out.k1 HI.out.e0 HI.out.e1 HI.out.m0 HI.out.m1).mono ?_; rintro e9 W_1 ⟨rfl, g2_1, hm9, hb9⟩; have HX_1 := hide (hb9.blk HX.out HHB.out HGB.out); have HGB_1 := hide (hb9.ne HX.out.lt HGB.out); have HS_1 := hide (HS.out.trans hb9); clear hb9; have HM_1 := hide hm9; obtain ⟨gd_1, cd_1, ga_1, ca_1, g1_1, c1_1, c2_1, hB9, hO9⟩ := hm9; have HB_1 := hide hB9; have HO_1 := hide hO9; obtain ⟨t0_1, t1_1, t2_1, t3_1, t4_1, t5_1, t6_1, t7_1, t8_1, t9_1, t10_1, t11_1, t12_1, t13_1, t14_1, t15_1⟩ := hB9.cells; clear t0_1 t1_1 t2_1 t3_1 t4_1 t5_1 t6_1 t7_1 t8_1 t9_1 t10_1 t11_1 t12_1 t13_1 t14_1 t15_1; clear hB9 hO9; clear b0 b1 b2 b3 b4 b5 b6; obtain ⟨b0, b1, b2, b3, b4, b5, b6⟩ := insAt HX_1.out) | (go_at_call 41; refine (mFine _ lo mid hi p g2_1 _ HM_1.out).mono ?_; rintro e9 w9 ⟨rfl, hw⟩; have hw2 := hw.symm; clear hw; subst hw2; rw [hf]))
  first | go_end0 | refine bodyPost_ret (results_none rfl _ _ _) rfl ?_
  exact ⟨rfl, g2_1, by rw [E.out]; exact HM_1.out, HS_1.out⟩
set_option maxHeartbeats 4000000 in
theorem mOne_test (w : World) (lo mid hi p g2 : Nat) (c : Pl.Mc) (x : Pl.In) (h : MAt w lo mid hi p g2 c) (G : Pl.GM c) (B : Pl.InB x) (hm : x.m = 0 ∨ x.m = 2 ∨ x.m = 3 ∨ x.m = 4 ∨ x.m = 5 ∨ x.m = 6) (hs : x.s = 3) (hf : (c.read x.z x.m x.k x.e).fine = true) :
    Calls Tryz.prog 77 #[.pointer (some ⟨p, 0, none⟩), .agg #[.int .i64 x.op, .int .i64 x.z, .int .i64 x.r, .int .i64 x.m, .int .i64 x.k, .int .i64 x.e, .int .i64 x.s]] w fun e w' => e = .returned (.tuple #[]) ∧ ∃ g3, MAt w' lo mid hi p g3 (c.one x) ∧ Since w lo hi g2 w' g3 := by
  have HG := hide G
  have HI := hide B
  have HMM := hide hm
  have HSU := hide hs
  clear hs
  have hl := h.lo
  have KA := hide (kept_alloc w (.cells #[.int .i64 x.op, .int .i64 x.z, .int .i64 x.r, .int .i64 x.m, .int .i64 x.k, .int .i64 x.e, .int .i64 x.s] 79))
  have BA : Blk (w.alloc (.cells #[.int .i64 x.op, .int .i64 x.z, .int .i64 x.r, .int .i64 x.m, .int .i64 x.k, .int .i64 x.e, .int .i64 x.s] 79)) w.heap.size (insC x) 79 := Blk.new w #[.int .i64 x.op, .int .i64 x.z, .int .i64 x.r, .int .i64 x.m, .int .i64 x.k, .int .i64 x.e, .int .i64 x.s] 79
  obtain ⟨X, hX⟩ : ∃ X : World, w.alloc (.cells #[.int .i64 x.op, .int .i64 x.z, .int .i64 x.r, .int .i64 x.m, .int .i64 x.k, .int .i64 x.e, .int .i64 x.s] 79) = X := ⟨_, rfl⟩
  rw [hX] at KA BA
  have HX := hide BA
  have hbw := BA.lt
  obtain ⟨b0, b1, b2, b3, b4, b5, b6⟩ := insAt HX.out
  rw [HSU.out] at b6
  have HHB : Hid (hi ≤ w.heap.size) := hide hl.2.2.2.2.2.2
  have HGB : Hid (w.heap.size ≠ g2) := hide (by have := hl.2.2.2.2.2.1; omega)
  have HPH : Hid ((lo ≤ p ∧ p < hi) ∨ w.heap.size ≤ p) := hide (by omega)
  have HPB : Hid (p < w.heap.size) := hide hl.2.2.2.2.1
  have HMH : Hid (mid ≤ hi) := hide (by omega)
  have HS := hide ((Since.refl w lo hi g2).any KA.out)
  have h2 := h.any KA.out
  clear h BA
  have HM := hide h2
  obtain ⟨gd, cd, ga, ca, g1, c1, c2, hB9, hO9⟩ := h2
  have HB := hide hB9
  have HO := hide hO9
  obtain ⟨t0, t1, t2, t3, t4, t5, t6, t7, t8, t9, t10, t11, t12, t13, t14, t15⟩ := hB9.cells
  clear t0 t1 t2 t3 t4 t5 t6 t7 t8 t9 t10 t11 t12 t13 t14 t15
  clear hB9 hO9
  clear G B hm
  have HV := hide (Pl.readV_in (m := x.m) HG.out HI.out.z HI.out.k0 HI.out.k1 HI.out.e0 HI.out.e1 (fun q => absurd q (by have := HMM.out; omega)) HI.out.n7)
  have HG1 := hide (HG.out.read (m := x.m) HI.out.z HI.out.k0 HI.out.k1 HI.out.e0 HI.out.e1)
  have HFR := Pl.read_f c x.z x.m x.k x.e
  have HAA : 0 ≤ c.readA x.z x.m x.k x.e ∧ c.readA x.z x.m x.k x.e ≤ 65535 := by
    unfold Pl.Mc.readA
    cases Pl.Mc.inReg x.m
    · exact Pl.placeV_in HG.out.g HI.out.k0 HI.out.k1 HI.out.e0 HI.out.e1
    · exact ⟨Int.le_refl 0, (by decide : (0 : Int) ≤ 65535)⟩
  have HRD := fun w9 h9 => mRead w9 lo mid hi p g2 c x.z x.m x.k x.e h9 HG.out HI.out.z HI.out.k0 HI.out.k1 HI.out.e0 HI.out.e1 HI.out.m0 HI.out.m1
  obtain ⟨d, hd⟩ : ∃ d, c.read x.z x.m x.k x.e = d := ⟨_, rfl⟩
  obtain ⟨v, hv⟩ : ∃ v, c.readV x.z x.m x.k x.e = v := ⟨_, rfl⟩
  obtain ⟨a, hA⟩ : ∃ a, c.readA x.z x.m x.k x.e = a := ⟨_, rfl⟩
  have E : Hid (c.one x = c.one' d x a v) := hide (by unfold Pl.Mc.one; rw [HSU.out, hf, hd, hv, hA]; rfl)
  rw [hd] at hf HG1 HFR
  rw [hv] at HV
  rw [hA] at HAA
  simp only [hd, hv, hA] at HRD
  clear hd hv hA
  have HFE := hide HFR
  have HA0 := hide HAA.1
  have HA1 := hide HAA.2
  have HF := hide (Pl.flags_of HG1.out)
  clear HFR HAA
  have E2 : Hid (c.one' d x a v = d.setF (Pl.logF x.z d.r.f v)) := hide (by unfold Pl.Mc.one'; rw [HSU.out, HFE.out]; rfl)
  go_enter Tryz.func77, Tryz.ntmps77
  go_wp2_with (first | (go_at_call 72; refine (HRD _ HM.out).mono ?_; rintro e9 W_1 ⟨rfl, g2_1, hm9, hb9⟩; have HX_1 := hide (hb9.blk HX.out HHB.out HGB.out); have HGB_1 := hide (hb9.ne HX.out.lt HGB.out); have HS_1 := hide (HS.out.trans hb9); clear hb9; have HM_1 := hide hm9; obtain ⟨gd_1, cd_1, ga_1, ca_1, g1_1, c1_1, c2_1, hB9, hO9⟩ := hm9; have HB_1 := hide hB9; have HO_1 := hide hO9; obtain ⟨t0_1, t1_1, t2_1, t3_1, t4_1, t5_1, t6_1, t7_1, t8_1, t9_1, t10_1, t11_1, t12_1, t13_1, t14_1, t15_1⟩ := hB9.cells; clear t8_1 t9_1 t10_1 t11_1 t12_1 t13_1 t14_1 t15_1; clear hB9 hO9; clear b0 b1 b2 b3 b4 b5 b6; obtain ⟨b0, b1, b2, b3, b4, b5, b6⟩ := insAt HX_1.out; rw [HSU.out] at b6) | (go_at_call 41; refine (mFine _ lo mid hi p g2_1 _ HM_1.out).mono ?_; rintro e9 w9 ⟨rfl, hw⟩; have hw2 := hw.symm; clear hw; subst hw2; rw [hf]))
  have KD := hide (kept_drew (Kept.refl 0 0 W_1))
  have HM_D := hide (HM_1.out.any KD.out)
  have HB_D := hide (HB_1.out.any KD.out)
  have HO_D := hide (HO_1.out.any KD.out)
  have HX_D := hide (HX_1.out.kept0 KD.out)
  have HS_D := hide (HS_1.out.any KD.out)
  obtain ⟨t0_D, t1_D, t2_D, t3_D, t4_D, t5_D, t6_D, t7_D, t8_D, t9_D, t10_D, t11_D, t12_D, t13_D, t14_D, t15_D⟩ := HB_D.out.cells
  clear t0_D t1_D t2_D t3_D t5_D t6_D t7_D t8_D t9_D t10_D t11_D t12_D t13_D t14_D t15_D
  have f4_D := HB_D.out.frozen 4
  clear b0 b1 b2 b3 b4 b5 b6
  obtain ⟨b0, b1, b2, b3, b4, b5, b6⟩ := insAt HX_D.out
  rw [HSU.out] at b6
  have HGB_D := HGB_1
  have SD := cellsS HB_D.out HX_D.out
  go_region_held3 (fun w' => w'.cell? ⟨p, 0, none⟩ = some (.slice (some ⟨gd_1, 0, none⟩) 4 cd_1) ∧ w'.cell? ⟨p, 1, none⟩ = some (.slice (some ⟨ga_1, 0, none⟩) 4 ca_1) ∧ w'.cell? ⟨p, 2, none⟩ = some (.int .i64 d.r.o) ∧ w'.cell? ⟨p, 3, none⟩ = some (.int .i64 d.r.p) ∧ w'.cell? ⟨p, 4, none⟩ = some (.int .i64 d.r.f) ∧ w'.cell? ⟨p, 5, none⟩ = some (.int .i64 d.r.m) ∧ w'.cell? ⟨p, 6, none⟩ = some (.bool d.r.s) ∧ w'.cell? ⟨p, 7, none⟩ = some (.bool d.r.t) ∧ w'.cell? ⟨w.heap.size, 1, none⟩ = some (.int .i64 x.z) ∧ w'.cell? ⟨w.heap.size, 2, none⟩ = some (.int .i64 x.r)) (first | with_reducible exact SD | go_keep) (first | (go_at_call 76; refine (l1LogicAt (v := v) _ HV.out HF.out).mono ?_; rintro e9 w9 ⟨rfl, hw⟩; have hw2 := hw.symm; clear hw; subst hw2))
  go_wp2_with fail
  first | go_end0 | refine bodyPost_ret (results_none rfl _ _ _) rfl ?_
  exact ⟨rfl, g2_1, by rw [E.out, E2.out]; exact HM_D.out.cF _, HS_D.out.set p 4 _ HPH.out⟩
set_option maxHeartbeats 4000000 in
theorem mOne_neg (w : World) (lo mid hi p g2 : Nat) (c : Pl.Mc) (x : Pl.In) (h : MAt w lo mid hi p g2 c) (G : Pl.GM c) (B : Pl.InB x) (hm : x.m = 0 ∨ x.m = 2 ∨ x.m = 3 ∨ x.m = 4 ∨ x.m = 5 ∨ x.m = 6) (hs : x.s = 1) (hf : (c.read x.z x.m x.k x.e).fine = true) :
    Calls Tryz.prog 77 #[.pointer (some ⟨p, 0, none⟩), .agg #[.int .i64 x.op, .int .i64 x.z, .int .i64 x.r, .int .i64 x.m, .int .i64 x.k, .int .i64 x.e, .int .i64 x.s]] w fun e w' => e = .returned (.tuple #[]) ∧ ∃ g3, MAt w' lo mid hi p g3 (c.one x) ∧ Since w lo hi g2 w' g3 := by
  have HG := hide G
  have HI := hide B
  have HMM := hide hm
  have HSU := hide hs
  clear hs
  have hl := h.lo
  have KA := hide (kept_alloc w (.cells #[.int .i64 x.op, .int .i64 x.z, .int .i64 x.r, .int .i64 x.m, .int .i64 x.k, .int .i64 x.e, .int .i64 x.s] 79))
  have BA : Blk (w.alloc (.cells #[.int .i64 x.op, .int .i64 x.z, .int .i64 x.r, .int .i64 x.m, .int .i64 x.k, .int .i64 x.e, .int .i64 x.s] 79)) w.heap.size (insC x) 79 := Blk.new w #[.int .i64 x.op, .int .i64 x.z, .int .i64 x.r, .int .i64 x.m, .int .i64 x.k, .int .i64 x.e, .int .i64 x.s] 79
  obtain ⟨X, hX⟩ : ∃ X : World, w.alloc (.cells #[.int .i64 x.op, .int .i64 x.z, .int .i64 x.r, .int .i64 x.m, .int .i64 x.k, .int .i64 x.e, .int .i64 x.s] 79) = X := ⟨_, rfl⟩
  rw [hX] at KA BA
  have HX := hide BA
  have hbw := BA.lt
  obtain ⟨b0, b1, b2, b3, b4, b5, b6⟩ := insAt HX.out
  rw [HSU.out] at b6
  have HHB : Hid (hi ≤ w.heap.size) := hide hl.2.2.2.2.2.2
  have HGB : Hid (w.heap.size ≠ g2) := hide (by have := hl.2.2.2.2.2.1; omega)
  have HPH : Hid ((lo ≤ p ∧ p < hi) ∨ w.heap.size ≤ p) := hide (by omega)
  have HPB : Hid (p < w.heap.size) := hide hl.2.2.2.2.1
  have HMH : Hid (mid ≤ hi) := hide (by omega)
  have HS := hide ((Since.refl w lo hi g2).any KA.out)
  have h2 := h.any KA.out
  clear h BA
  have HM := hide h2
  obtain ⟨gd, cd, ga, ca, g1, c1, c2, hB9, hO9⟩ := h2
  have HB := hide hB9
  have HO := hide hO9
  obtain ⟨t0, t1, t2, t3, t4, t5, t6, t7, t8, t9, t10, t11, t12, t13, t14, t15⟩ := hB9.cells
  clear t0 t1 t2 t3 t4 t5 t6 t7 t8 t9 t10 t11 t12 t13 t14 t15
  clear hB9 hO9
  clear G B hm
  have HV := hide (Pl.readV_in (m := x.m) HG.out HI.out.z HI.out.k0 HI.out.k1 HI.out.e0 HI.out.e1 (fun q => absurd q (by have := HMM.out; omega)) HI.out.n7)
  have HG1 := hide (HG.out.read (m := x.m) HI.out.z HI.out.k0 HI.out.k1 HI.out.e0 HI.out.e1)
  have HFR := Pl.read_f c x.z x.m x.k x.e
  have HAA : 0 ≤ c.readA x.z x.m x.k x.e ∧ c.readA x.z x.m x.k x.e ≤ 65535 := by
    unfold Pl.Mc.readA
    cases Pl.Mc.inReg x.m
    · exact Pl.placeV_in HG.out.g HI.out.k0 HI.out.k1 HI.out.e0 HI.out.e1
    · exact ⟨Int.le_refl 0, (by decide : (0 : Int) ≤ 65535)⟩
  have HRD := fun w9 h9 => mRead w9 lo mid hi p g2 c x.z x.m x.k x.e h9 HG.out HI.out.z HI.out.k0 HI.out.k1 HI.out.e0 HI.out.e1 HI.out.m0 HI.out.m1
  obtain ⟨d, hd⟩ : ∃ d, c.read x.z x.m x.k x.e = d := ⟨_, rfl⟩
  obtain ⟨v, hv⟩ : ∃ v, c.readV x.z x.m x.k x.e = v := ⟨_, rfl⟩
  obtain ⟨a, hA⟩ : ∃ a, c.readA x.z x.m x.k x.e = a := ⟨_, rfl⟩
  have E : Hid (c.one x = c.one' d x a v) := hide (by unfold Pl.Mc.one; rw [HSU.out, hf, hd, hv, hA]; rfl)
  rw [hd] at hf HG1 HFR
  rw [hv] at HV
  rw [hA] at HAA
  simp only [hd, hv, hA] at HRD
  clear hd hv hA
  have HFE := hide HFR
  have HA0 := hide HAA.1
  have HA1 := hide HAA.2
  have HF := hide (Pl.flags_of HG1.out)
  clear HFR HAA
  have E2 : Hid (c.one' d x a v = (d.write x.z x.m x.k a (Pl.subV x.z 0 0 v)).setF (Pl.subF x.z 0 0 v)) := hide (by unfold Pl.Mc.one'; rw [HSU.out]; rfl)
  have HZ0 : Hid (Pl.okv x.z 0 = true) := hide (by rcases HI.out.z with q | q <;> rw [q] <;> decide)
  have HVV : Hid (Pl.okv x.z (Pl.subV x.z 0 0 v) = true) := hide (Pl.okv_subV HI.out.z)
  go_enter Tryz.func77, Tryz.ntmps77
  go_wp2_with (first | (go_at_call 72; refine (HRD _ HM.out).mono ?_; rintro e9 W_1 ⟨rfl, g2_1, hm9, hb9⟩; have HX_1 := hide (hb9.blk HX.out HHB.out HGB.out); have HGB_1 := hide (hb9.ne HX.out.lt HGB.out); have HS_1 := hide (HS.out.trans hb9); clear hb9; have HM_1 := hide hm9; obtain ⟨gd_1, cd_1, ga_1, ca_1, g1_1, c1_1, c2_1, hB9, hO9⟩ := hm9; have HB_1 := hide hB9; have HO_1 := hide hO9; obtain ⟨t0_1, t1_1, t2_1, t3_1, t4_1, t5_1, t6_1, t7_1, t8_1, t9_1, t10_1, t11_1, t12_1, t13_1, t14_1, t15_1⟩ := hB9.cells; clear t8_1 t9_1 t10_1 t11_1 t12_1 t13_1 t14_1 t15_1; clear hB9 hO9; clear b0 b1 b2 b3 b4 b5 b6; obtain ⟨b0, b1, b2, b3, b4, b5, b6⟩ := insAt HX_1.out; rw [HSU.out] at b6) | (go_at_call 41; refine (mFine _ lo mid hi p g2_1 _ HM_1.out).mono ?_; rintro e9 w9 ⟨rfl, hw⟩; have hw2 := hw.symm; clear hw; subst hw2; rw [hf]))
  have KD := hide (kept_drew (Kept.refl 0 0 W_1))
  have HM_D := hide (HM_1.out.any KD.out)
  have HB_D := hide (HB_1.out.any KD.out)
  have HO_D := hide (HO_1.out.any KD.out)
  have HX_D := hide (HX_1.out.kept0 KD.out)
  have HS_D := hide (HS_1.out.any KD.out)
  obtain ⟨t0_D, t1_D, t2_D, t3_D, t4_D, t5_D, t6_D, t7_D, t8_D, t9_D, t10_D, t11_D, t12_D, t13_D, t14_D, t15_D⟩ := HB_D.out.cells
  clear t0_D t1_D t2_D t3_D t5_D t6_D t7_D t8_D t9_D t10_D t11_D t12_D t13_D t14_D t15_D
  have f4_D := HB_D.out.frozen 4
  clear b0 b1 b2 b3 b4 b5 b6
  obtain ⟨b0, b1, b2, b3, b4, b5, b6⟩ := insAt HX_D.out
  rw [HSU.out] at b6
  have HGB_D := HGB_1
  have SD := cellsS HB_D.out HX_D.out
  go_region_held3 (fun w' => w'.cell? ⟨p, 0, none⟩ = some (.slice (some ⟨gd_1, 0, none⟩) 4 cd_1) ∧ w'.cell? ⟨p, 1, none⟩ = some (.slice (some ⟨ga_1, 0, none⟩) 4 ca_1) ∧ w'.cell? ⟨p, 2, none⟩ = some (.int .i64 d.r.o) ∧ w'.cell? ⟨p, 3, none⟩ = some (.int .i64 d.r.p) ∧ w'.cell? ⟨p, 4, none⟩ = some (.int .i64 d.r.f) ∧ w'.cell? ⟨p, 5, none⟩ = some (.int .i64 d.r.m) ∧ w'.cell? ⟨p, 6, none⟩ = some (.bool d.r.s) ∧ w'.cell? ⟨p, 7, none⟩ = some (.bool d.r.t) ∧ w'.cell? ⟨w.heap.size, 1, none⟩ = some (.int .i64 x.z) ∧ w'.cell? ⟨w.heap.size, 2, none⟩ = some (.int .i64 x.r)) (first | with_reducible exact SD | go_keep) (first | (go_at_call 76; refine (l1LogicAt (v := v) _ HV.out HF.out).mono ?_; rintro e9 w9 ⟨rfl, hw⟩; have hw2 := hw.symm; clear hw; subst hw2))
  go_wp2_with (first | (go_at_call 118; refine (l1SubOk _ _ _ _ _ (Pl.two_of HZ0.out HV.out)).mono ?_; rintro e9 w9 ⟨rfl, hw⟩; have hw2 := hw.symm; clear hw; subst hw2) | (go_at_call 75; refine (mWrite _ lo mid hi p g2_1 d x.z x.m x.k x.e a (Pl.subV x.z 0 0 v) HM_D.out HG1.out HI.out.k0 HI.out.k1 HA0.out HA1.out HVV.out).mono ?_; rintro e9 W_2 ⟨rfl, g2_2, hm9, hb9⟩; have HX_2 := hide (hb9.blk HX_D.out HHB.out HGB_D.out); have HGB_2 := hide (hb9.ne HX_D.out.lt HGB_D.out); have HS_2 := hide (HS_D.out.trans hb9); clear hb9; have HM_2 := hide hm9; obtain ⟨gd_2, cd_2, ga_2, ca_2, g1_2, c1_2, c2_2, hB9, hO9⟩ := hm9; have HB_2 := hide hB9; have HO_2 := hide hO9; obtain ⟨t0_2, t1_2, t2_2, t3_2, t4_2, t5_2, t6_2, t7_2, t8_2, t9_2, t10_2, t11_2, t12_2, t13_2, t14_2, t15_2⟩ := hB9.cells; clear t0_2 t1_2 t2_2 t3_2 t5_2 t6_2 t7_2 t8_2 t9_2 t10_2 t11_2 t12_2 t13_2 t14_2 t15_2; have f4_2 := hB9.frozen 4; clear hB9 hO9; clear b0 b1 b2 b3 b4 b5 b6; obtain ⟨b0, b1, b2, b3, b4, b5, b6⟩ := insAt HX_2.out; rw [HSU.out] at b6))
  first | go_end0 | refine bodyPost_ret (results_none rfl _ _ _) rfl ?_
  exact ⟨rfl, g2_2, by rw [E.out, E2.out]; exact HM_2.out.cF _, HS_2.out.set p 4 _ HPH.out⟩
set_option maxHeartbeats 4000000 in
theorem mOne_not (w : World) (lo mid hi p g2 : Nat) (c : Pl.Mc) (x : Pl.In) (h : MAt w lo mid hi p g2 c) (G : Pl.GM c) (B : Pl.InB x) (hm : x.m = 0 ∨ x.m = 2 ∨ x.m = 3 ∨ x.m = 4 ∨ x.m = 5 ∨ x.m = 6) (hs : x.s = 2) (hf : (c.read x.z x.m x.k x.e).fine = true) :
    Calls Tryz.prog 77 #[.pointer (some ⟨p, 0, none⟩), .agg #[.int .i64 x.op, .int .i64 x.z, .int .i64 x.r, .int .i64 x.m, .int .i64 x.k, .int .i64 x.e, .int .i64 x.s]] w fun e w' => e = .returned (.tuple #[]) ∧ ∃ g3, MAt w' lo mid hi p g3 (c.one x) ∧ Since w lo hi g2 w' g3 := by
  have HG := hide G
  have HI := hide B
  have HMM := hide hm
  have HSU := hide hs
  clear hs
  have hl := h.lo
  have KA := hide (kept_alloc w (.cells #[.int .i64 x.op, .int .i64 x.z, .int .i64 x.r, .int .i64 x.m, .int .i64 x.k, .int .i64 x.e, .int .i64 x.s] 79))
  have BA : Blk (w.alloc (.cells #[.int .i64 x.op, .int .i64 x.z, .int .i64 x.r, .int .i64 x.m, .int .i64 x.k, .int .i64 x.e, .int .i64 x.s] 79)) w.heap.size (insC x) 79 := Blk.new w #[.int .i64 x.op, .int .i64 x.z, .int .i64 x.r, .int .i64 x.m, .int .i64 x.k, .int .i64 x.e, .int .i64 x.s] 79
  obtain ⟨X, hX⟩ : ∃ X : World, w.alloc (.cells #[.int .i64 x.op, .int .i64 x.z, .int .i64 x.r, .int .i64 x.m, .int .i64 x.k, .int .i64 x.e, .int .i64 x.s] 79) = X := ⟨_, rfl⟩
  rw [hX] at KA BA
  have HX := hide BA
  have hbw := BA.lt
  obtain ⟨b0, b1, b2, b3, b4, b5, b6⟩ := insAt HX.out
  rw [HSU.out] at b6
  have HHB : Hid (hi ≤ w.heap.size) := hide hl.2.2.2.2.2.2
  have HGB : Hid (w.heap.size ≠ g2) := hide (by have := hl.2.2.2.2.2.1; omega)
  have HPH : Hid ((lo ≤ p ∧ p < hi) ∨ w.heap.size ≤ p) := hide (by omega)
  have HPB : Hid (p < w.heap.size) := hide hl.2.2.2.2.1
  have HMH : Hid (mid ≤ hi) := hide (by omega)
  have HS := hide ((Since.refl w lo hi g2).any KA.out)
  have h2 := h.any KA.out
  clear h BA
  have HM := hide h2
  obtain ⟨gd, cd, ga, ca, g1, c1, c2, hB9, hO9⟩ := h2
  have HB := hide hB9
  have HO := hide hO9
  obtain ⟨t0, t1, t2, t3, t4, t5, t6, t7, t8, t9, t10, t11, t12, t13, t14, t15⟩ := hB9.cells
  clear t0 t1 t2 t3 t4 t5 t6 t7 t8 t9 t10 t11 t12 t13 t14 t15
  clear hB9 hO9
  clear G B hm
  have HV := hide (Pl.readV_in (m := x.m) HG.out HI.out.z HI.out.k0 HI.out.k1 HI.out.e0 HI.out.e1 (fun q => absurd q (by have := HMM.out; omega)) HI.out.n7)
  have HG1 := hide (HG.out.read (m := x.m) HI.out.z HI.out.k0 HI.out.k1 HI.out.e0 HI.out.e1)
  have HFR := Pl.read_f c x.z x.m x.k x.e
  have HAA : 0 ≤ c.readA x.z x.m x.k x.e ∧ c.readA x.z x.m x.k x.e ≤ 65535 := by
    unfold Pl.Mc.readA
    cases Pl.Mc.inReg x.m
    · exact Pl.placeV_in HG.out.g HI.out.k0 HI.out.k1 HI.out.e0 HI.out.e1
    · exact ⟨Int.le_refl 0, (by decide : (0 : Int) ≤ 65535)⟩
  have HRD := fun w9 h9 => mRead w9 lo mid hi p g2 c x.z x.m x.k x.e h9 HG.out HI.out.z HI.out.k0 HI.out.k1 HI.out.e0 HI.out.e1 HI.out.m0 HI.out.m1
  obtain ⟨d, hd⟩ : ∃ d, c.read x.z x.m x.k x.e = d := ⟨_, rfl⟩
  obtain ⟨v, hv⟩ : ∃ v, c.readV x.z x.m x.k x.e = v := ⟨_, rfl⟩
  obtain ⟨a, hA⟩ : ∃ a, c.readA x.z x.m x.k x.e = a := ⟨_, rfl⟩
  have E : Hid (c.one x = c.one' d x a v) := hide (by unfold Pl.Mc.one; rw [HSU.out, hf, hd, hv, hA]; rfl)
  rw [hd] at hf HG1 HFR
  rw [hv] at HV
  rw [hA] at HAA
  simp only [hd, hv, hA] at HRD
  clear hd hv hA
  have HFE := hide HFR
  have HA0 := hide HAA.1
  have HA1 := hide HAA.2
  have HF := hide (Pl.flags_of HG1.out)
  clear HFR HAA
  have E2 : Hid (c.one' d x a v = (d.write x.z x.m x.k a (Pl.top x.z - 1 - v)).setF (Pl.logF x.z d.r.f (Pl.top x.z - 1 - v))) := hide (by unfold Pl.Mc.one'; rw [HSU.out, HFE.out]; rfl)
  have ht := Pl.top_ok HV.out
  have ht0 : 256 ≤ Pl.top x.z := by omega
  have ht1 : Pl.top x.z ≤ 65536 := by omega
  obtain ⟨_, hv0, hv1⟩ := ht
  have HVV : Hid (Pl.okv x.z (Pl.top x.z - 1 - v) = true) := hide (by unfold Pl.okv; simp only [Bool.and_eq_true, Bool.or_eq_true, decide_eq_true_eq]; exact ⟨HI.out.z, by omega, by omega⟩)
  go_enter Tryz.func77, Tryz.ntmps77
  go_wp2_with (first | (go_at_call 72; refine (HRD _ HM.out).mono ?_; rintro e9 W_1 ⟨rfl, g2_1, hm9, hb9⟩; have HX_1 := hide (hb9.blk HX.out HHB.out HGB.out); have HGB_1 := hide (hb9.ne HX.out.lt HGB.out); have HS_1 := hide (HS.out.trans hb9); clear hb9; have HM_1 := hide hm9; obtain ⟨gd_1, cd_1, ga_1, ca_1, g1_1, c1_1, c2_1, hB9, hO9⟩ := hm9; have HB_1 := hide hB9; have HO_1 := hide hO9; obtain ⟨t0_1, t1_1, t2_1, t3_1, t4_1, t5_1, t6_1, t7_1, t8_1, t9_1, t10_1, t11_1, t12_1, t13_1, t14_1, t15_1⟩ := hB9.cells; clear t8_1 t9_1 t10_1 t11_1 t12_1 t13_1 t14_1 t15_1; clear hB9 hO9; clear b0 b1 b2 b3 b4 b5 b6; obtain ⟨b0, b1, b2, b3, b4, b5, b6⟩ := insAt HX_1.out; rw [HSU.out] at b6) | (go_at_call 41; refine (mFine _ lo mid hi p g2_1 _ HM_1.out).mono ?_; rintro e9 w9 ⟨rfl, hw⟩; have hw2 := hw.symm; clear hw; subst hw2; rw [hf]))
  have KD := hide (kept_drew (Kept.refl 0 0 W_1))
  have HM_D := hide (HM_1.out.any KD.out)
  have HB_D := hide (HB_1.out.any KD.out)
  have HO_D := hide (HO_1.out.any KD.out)
  have HX_D := hide (HX_1.out.kept0 KD.out)
  have HS_D := hide (HS_1.out.any KD.out)
  obtain ⟨t0_D, t1_D, t2_D, t3_D, t4_D, t5_D, t6_D, t7_D, t8_D, t9_D, t10_D, t11_D, t12_D, t13_D, t14_D, t15_D⟩ := HB_D.out.cells
  clear t0_D t1_D t2_D t3_D t5_D t6_D t7_D t8_D t9_D t10_D t11_D t12_D t13_D t14_D t15_D
  have f4_D := HB_D.out.frozen 4
  clear b0 b1 b2 b3 b4 b5 b6
  obtain ⟨b0, b1, b2, b3, b4, b5, b6⟩ := insAt HX_D.out
  rw [HSU.out] at b6
  have HGB_D := HGB_1
  have SD := cellsS HB_D.out HX_D.out
  go_region_held3 (fun w' => w'.cell? ⟨p, 0, none⟩ = some (.slice (some ⟨gd_1, 0, none⟩) 4 cd_1) ∧ w'.cell? ⟨p, 1, none⟩ = some (.slice (some ⟨ga_1, 0, none⟩) 4 ca_1) ∧ w'.cell? ⟨p, 2, none⟩ = some (.int .i64 d.r.o) ∧ w'.cell? ⟨p, 3, none⟩ = some (.int .i64 d.r.p) ∧ w'.cell? ⟨p, 4, none⟩ = some (.int .i64 d.r.f) ∧ w'.cell? ⟨p, 5, none⟩ = some (.int .i64 d.r.m) ∧ w'.cell? ⟨p, 6, none⟩ = some (.bool d.r.s) ∧ w'.cell? ⟨p, 7, none⟩ = some (.bool d.r.t) ∧ w'.cell? ⟨w.heap.size, 1, none⟩ = some (.int .i64 x.z) ∧ w'.cell? ⟨w.heap.size, 2, none⟩ = some (.int .i64 x.r)) (first | with_reducible exact SD | go_keep) (first | (go_at_call 76; refine (l1LogicAt (v := v) _ HV.out HF.out).mono ?_; rintro e9 w9 ⟨rfl, hw⟩; have hw2 := hw.symm; clear hw; subst hw2))
  go_wp2_with (go_at_call 116; refine (l1TopZ x.z HI.out.z _).mono ?_; rintro e9 w9 ⟨rfl, hw⟩; have hw2 := hw.symm; clear hw; subst hw2)
  have KE := hide (kept_drew (Kept.refl 0 0 W_1.drew))
  have HM_E := hide (HM_D.out.any KE.out)
  have HB_E := hide (HB_D.out.any KE.out)
  have HO_E := hide (HO_D.out.any KE.out)
  have HX_E := hide (HX_D.out.kept0 KE.out)
  have HS_E := hide (HS_D.out.any KE.out)
  obtain ⟨t0_E, t1_E, t2_E, t3_E, t4_E, t5_E, t6_E, t7_E, t8_E, t9_E, t10_E, t11_E, t12_E, t13_E, t14_E, t15_E⟩ := HB_E.out.cells
  clear t0_E t1_E t2_E t3_E t5_E t6_E t7_E t8_E t9_E t10_E t11_E t12_E t13_E t14_E t15_E
  have f4_E := HB_E.out.frozen 4
  clear b0 b1 b2 b3 b4 b5 b6
  obtain ⟨b0, b1, b2, b3, b4, b5, b6⟩ := insAt HX_E.out
  rw [HSU.out] at b6
  have HGB_E := HGB_D
  have SE := cellsS HB_E.out HX_E.out
  go_region_held3 (fun w' => w'.cell? ⟨p, 0, none⟩ = some (.slice (some ⟨gd_1, 0, none⟩) 4 cd_1) ∧ w'.cell? ⟨p, 1, none⟩ = some (.slice (some ⟨ga_1, 0, none⟩) 4 ca_1) ∧ w'.cell? ⟨p, 2, none⟩ = some (.int .i64 d.r.o) ∧ w'.cell? ⟨p, 3, none⟩ = some (.int .i64 d.r.p) ∧ w'.cell? ⟨p, 4, none⟩ = some (.int .i64 d.r.f) ∧ w'.cell? ⟨p, 5, none⟩ = some (.int .i64 d.r.m) ∧ w'.cell? ⟨p, 6, none⟩ = some (.bool d.r.s) ∧ w'.cell? ⟨p, 7, none⟩ = some (.bool d.r.t) ∧ w'.cell? ⟨w.heap.size, 1, none⟩ = some (.int .i64 x.z) ∧ w'.cell? ⟨w.heap.size, 2, none⟩ = some (.int .i64 x.r)) (first | with_reducible exact SE | go_keep) (first | (go_at_call 76; refine (l1LogicAt (v := Pl.top x.z - 1 - v) _ HVV.out HF.out).mono ?_; rintro e9 w9 ⟨rfl, hw⟩; have hw2 := hw.symm; clear hw; subst hw2))
  go_wp2_with (go_at_call 75; refine (mWrite _ lo mid hi p g2_1 d x.z x.m x.k x.e a (Pl.top x.z - 1 - v) HM_E.out HG1.out HI.out.k0 HI.out.k1 HA0.out HA1.out HVV.out).mono ?_; rintro e9 W_2 ⟨rfl, g2_2, hm9, hb9⟩; have HX_2 := hide (hb9.blk HX_E.out HHB.out HGB_E.out); have HGB_2 := hide (hb9.ne HX_E.out.lt HGB_E.out); have HS_2 := hide (HS_E.out.trans hb9); clear hb9; have HM_2 := hide hm9; obtain ⟨gd_2, cd_2, ga_2, ca_2, g1_2, c1_2, c2_2, hB9, hO9⟩ := hm9; have HB_2 := hide hB9; have HO_2 := hide hO9; obtain ⟨t0_2, t1_2, t2_2, t3_2, t4_2, t5_2, t6_2, t7_2, t8_2, t9_2, t10_2, t11_2, t12_2, t13_2, t14_2, t15_2⟩ := hB9.cells; clear t0_2 t1_2 t2_2 t3_2 t5_2 t6_2 t7_2 t8_2 t9_2 t10_2 t11_2 t12_2 t13_2 t14_2 t15_2; have f4_2 := hB9.frozen 4; clear hB9 hO9; clear b0 b1 b2 b3 b4 b5 b6; obtain ⟨b0, b1, b2, b3, b4, b5, b6⟩ := insAt HX_2.out; rw [HSU.out] at b6)
  first | go_end0 | refine bodyPost_ret (results_none rfl _ _ _) rfl ?_
  exact ⟨rfl, g2_2, by rw [E.out, E2.out]; exact HM_2.out.cF _, HS_2.out.set p 4 _ HPH.out⟩
set_option maxHeartbeats 4000000 in
theorem mOne_zero (w : World) (lo mid hi p g2 : Nat) (c : Pl.Mc) (x : Pl.In) (h : MAt w lo mid hi p g2 c) (G : Pl.GM c) (B : Pl.InB x) (hm : x.m = 0 ∨ x.m = 2 ∨ x.m = 3 ∨ x.m = 4 ∨ x.m = 5 ∨ x.m = 6) (hs : x.s = 0) (hfc : c.fine = true) :
    Calls Tryz.prog 77 #[.pointer (some ⟨p, 0, none⟩), .agg #[.int .i64 x.op, .int .i64 x.z, .int .i64 x.r, .int .i64 x.m, .int .i64 x.k, .int .i64 x.e, .int .i64 x.s]] w fun e w' => e = .returned (.tuple #[]) ∧ ∃ g3, MAt w' lo mid hi p g3 (c.one x) ∧ Since w lo hi g2 w' g3 := by
  have HG := hide G
  have HI := hide B
  have HMM := hide hm
  have HSU := hide hs
  clear hs
  have hl := h.lo
  have KA := hide (kept_alloc w (.cells #[.int .i64 x.op, .int .i64 x.z, .int .i64 x.r, .int .i64 x.m, .int .i64 x.k, .int .i64 x.e, .int .i64 x.s] 79))
  have BA : Blk (w.alloc (.cells #[.int .i64 x.op, .int .i64 x.z, .int .i64 x.r, .int .i64 x.m, .int .i64 x.k, .int .i64 x.e, .int .i64 x.s] 79)) w.heap.size (insC x) 79 := Blk.new w #[.int .i64 x.op, .int .i64 x.z, .int .i64 x.r, .int .i64 x.m, .int .i64 x.k, .int .i64 x.e, .int .i64 x.s] 79
  obtain ⟨X, hX⟩ : ∃ X : World, w.alloc (.cells #[.int .i64 x.op, .int .i64 x.z, .int .i64 x.r, .int .i64 x.m, .int .i64 x.k, .int .i64 x.e, .int .i64 x.s] 79) = X := ⟨_, rfl⟩
  rw [hX] at KA BA
  have HX := hide BA
  have hbw := BA.lt
  obtain ⟨b0, b1, b2, b3, b4, b5, b6⟩ := insAt HX.out
  rw [HSU.out] at b6
  have HHB : Hid (hi ≤ w.heap.size) := hide hl.2.2.2.2.2.2
  have HGB : Hid (w.heap.size ≠ g2) := hide (by have := hl.2.2.2.2.2.1; omega)
  have HPH : Hid ((lo ≤ p ∧ p < hi) ∨ w.heap.size ≤ p) := hide (by omega)
  have HPB : Hid (p < w.heap.size) := hide hl.2.2.2.2.1
  have HMH : Hid (mid ≤ hi) := hide (by omega)
  have HS := hide ((Since.refl w lo hi g2).any KA.out)
  have h2 := h.any KA.out
  clear h BA
  have HM := hide h2
  obtain ⟨gd, cd, ga, ca, g1, c1, c2, hB9, hO9⟩ := h2
  have HB := hide hB9
  have HO := hide hO9
  obtain ⟨t0, t1, t2, t3, t4, t5, t6, t7, t8, t9, t10, t11, t12, t13, t14, t15⟩ := hB9.cells
  clear t0 t1 t2 t3 t4 t5 t6 t7 t8 t9 t10 t11 t12 t13 t14 t15
  clear hB9 hO9
  clear G B hm
  have HG1 := hide (HG.out.place (z := x.z) (m := x.m) (e := x.e) HI.out.k0 HI.out.k1)
  have HFR := Pl.place_f c x.z x.m x.k x.e
  have HAA := Pl.plcA_in (z := x.z) (m := x.m) HG.out HI.out.k0 HI.out.k1 HI.out.e0 HI.out.e1
  have hf : (c.place x.z x.m x.k x.e).fine = true := by
    rw [← hfc]; unfold Pl.Mc.place; cases x.m == 0 <;> rfl
  have HRD := fun w9 h9 => mPlace w9 lo mid hi p g2 c x.z x.m x.k x.e h9 HG.out HI.out.k0 HI.out.k1 HI.out.e0 HI.out.e1 HMM.out
  have E2 : c.one0 x = ((c.place x.z x.m x.k x.e).write x.z x.m x.k (c.plcA x.z x.m x.k x.e) 0).setF (Pl.logF x.z c.r.f 0) := rfl
  obtain ⟨d, hd⟩ : ∃ d, c.place x.z x.m x.k x.e = d := ⟨_, rfl⟩
  obtain ⟨a, hA⟩ : ∃ a, c.plcA x.z x.m x.k x.e = a := ⟨_, rfl⟩
  have E : Hid (c.one x = c.one0 x) := hide (by unfold Pl.Mc.one; rw [HSU.out]; rfl)
  rw [hd] at hf HG1 HFR
  rw [hA] at HAA
  rw [hd, hA, ← HFR] at E2
  have E2 := hide E2
  simp only [hd, hA] at HRD
  clear hd hA hfc
  have HA0 := hide HAA.1
  have HA1 := hide HAA.2
  have HF := hide (Pl.flags_of HG1.out)
  have HZ0 : Hid (Pl.okv x.z 0 = true) := hide (by rcases HI.out.z with q | q <;> rw [q] <;> decide)
  clear HFR HAA
  go_enter Tryz.func77, Tryz.ntmps77
  go_wp2_with (first | (go_at_call 73; refine (HRD _ HM.out).mono ?_; rintro e9 W_1 ⟨rfl, g2_1, hm9, hb9⟩; have HX_1 := hide (hb9.blk HX.out HHB.out HGB.out); have HGB_1 := hide (hb9.ne HX.out.lt HGB.out); have HS_1 := hide (HS.out.trans hb9); clear hb9; have HM_1 := hide hm9; obtain ⟨gd_1, cd_1, ga_1, ca_1, g1_1, c1_1, c2_1, hB9, hO9⟩ := hm9; have HB_1 := hide hB9; have HO_1 := hide hO9; obtain ⟨t0_1, t1_1, t2_1, t3_1, t4_1, t5_1, t6_1, t7_1, t8_1, t9_1, t10_1, t11_1, t12_1, t13_1, t14_1, t15_1⟩ := hB9.cells; clear t8_1 t9_1 t10_1 t11_1 t12_1 t13_1 t14_1 t15_1; clear hB9 hO9; clear b0 b1 b2 b3 b4 b5 b6; obtain ⟨b0, b1, b2, b3, b4, b5, b6⟩ := insAt HX_1.out; rw [HSU.out] at b6) | (go_at_call 41; refine (mFine _ lo mid hi p g2_1 _ HM_1.out).mono ?_; rintro e9 w9 ⟨rfl, hw⟩; have hw2 := hw.symm; clear hw; subst hw2; rw [hf]))
  have KD := hide (kept_drew (Kept.refl 0 0 W_1))
  have HM_D := hide (HM_1.out.any KD.out)
  have HB_D := hide (HB_1.out.any KD.out)
  have HO_D := hide (HO_1.out.any KD.out)
  have HX_D := hide (HX_1.out.kept0 KD.out)
  have HS_D := hide (HS_1.out.any KD.out)
  obtain ⟨t0_D, t1_D, t2_D, t3_D, t4_D, t5_D, t6_D, t7_D, t8_D, t9_D, t10_D, t11_D, t12_D, t13_D, t14_D, t15_D⟩ := HB_D.out.cells
  clear t0_D t1_D t2_D t3_D t5_D t6_D t7_D t8_D t9_D t10_D t11_D t12_D t13_D t14_D t15_D
  have f4_D := HB_D.out.frozen 4
  clear b0 b1 b2 b3 b4 b5 b6
  obtain ⟨b0, b1, b2, b3, b4, b5, b6⟩ := insAt HX_D.out
  rw [HSU.out] at b6
  have HGB_D := HGB_1
  have SD := cellsS HB_D.out HX_D.out
  go_region_held3 (fun w' => w'.cell? ⟨p, 0, none⟩ = some (.slice (some ⟨gd_1, 0, none⟩) 4 cd_1) ∧ w'.cell? ⟨p, 1, none⟩ = some (.slice (some ⟨ga_1, 0, none⟩) 4 ca_1) ∧ w'.cell? ⟨p, 2, none⟩ = some (.int .i64 d.r.o) ∧ w'.cell? ⟨p, 3, none⟩ = some (.int .i64 d.r.p) ∧ w'.cell? ⟨p, 4, none⟩ = some (.int .i64 d.r.f) ∧ w'.cell? ⟨p, 5, none⟩ = some (.int .i64 d.r.m) ∧ w'.cell? ⟨p, 6, none⟩ = some (.bool d.r.s) ∧ w'.cell? ⟨p, 7, none⟩ = some (.bool d.r.t) ∧ w'.cell? ⟨w.heap.size, 1, none⟩ = some (.int .i64 x.z) ∧ w'.cell? ⟨w.heap.size, 2, none⟩ = some (.int .i64 x.r)) (first | with_reducible exact SD | go_keep) (first | (go_at_call 76; refine (l1LogicAt (v := 0) _ HZ0.out HF.out).mono ?_; rintro e9 w9 ⟨rfl, hw⟩; have hw2 := hw.symm; clear hw; subst hw2))
  go_wp2_with (go_at_call 75; refine (mWrite _ lo mid hi p g2_1 d x.z x.m x.k x.e a (0) HM_D.out HG1.out HI.out.k0 HI.out.k1 HA0.out HA1.out HZ0.out).mono ?_; rintro e9 W_2 ⟨rfl, g2_2, hm9, hb9⟩; have HX_2 := hide (hb9.blk HX_D.out HHB.out HGB_D.out); have HGB_2 := hide (hb9.ne HX_D.out.lt HGB_D.out); have HS_2 := hide (HS_D.out.trans hb9); clear hb9; have HM_2 := hide hm9; obtain ⟨gd_2, cd_2, ga_2, ca_2, g1_2, c1_2, c2_2, hB9, hO9⟩ := hm9; have HB_2 := hide hB9; have HO_2 := hide hO9; obtain ⟨t0_2, t1_2, t2_2, t3_2, t4_2, t5_2, t6_2, t7_2, t8_2, t9_2, t10_2, t11_2, t12_2, t13_2, t14_2, t15_2⟩ := hB9.cells; clear t0_2 t1_2 t2_2 t3_2 t5_2 t6_2 t7_2 t8_2 t9_2 t10_2 t11_2 t12_2 t13_2 t14_2 t15_2; have f4_2 := hB9.frozen 4; clear hB9 hO9; clear b0 b1 b2 b3 b4 b5 b6; obtain ⟨b0, b1, b2, b3, b4, b5, b6⟩ := insAt HX_2.out; rw [HSU.out] at b6)
  first | go_end0 | refine bodyPost_ret (results_none rfl _ _ _) rfl ?_
  exact ⟨rfl, g2_2, by rw [E.out, E2.out]; exact HM_2.out.cF _, HS_2.out.set p 4 _ HPH.out⟩
theorem mOne (w : World) (lo mid hi p g2 : Nat) (c : Pl.Mc) (x : Pl.In) (h : MAt w lo mid hi p g2 c) (G : Pl.GM c) (B : Pl.InB x) (hm : x.m = 0 ∨ x.m = 2 ∨ x.m = 3 ∨ x.m = 4 ∨ x.m = 5 ∨ x.m = 6) (hfc : c.fine = true) (hs : x.s = 0 ∨ x.s = 1 ∨ x.s = 2 ∨ x.s = 3) :
    Calls Tryz.prog 77 #[.pointer (some ⟨p, 0, none⟩), .agg #[.int .i64 x.op, .int .i64 x.z, .int .i64 x.r, .int .i64 x.m, .int .i64 x.k, .int .i64 x.e, .int .i64 x.s]] w fun e w' => e = .returned (.tuple #[]) ∧ ∃ g3, MAt w' lo mid hi p g3 (c.one x) ∧ Since w lo hi g2 w' g3 := by
  by_cases h0 : x.s = 0
  · exact mOne_zero w lo mid hi p g2 c x h G B hm h0 hfc
  · cases hf : (c.read x.z x.m x.k x.e).fine
    · exact mOne_no w lo mid hi p g2 c x h G B hm (by simpa using h0) hf
    · rcases hs with hs | hs | hs | hs
      · exact absurd hs h0
      · exact mOne_neg w lo mid hi p g2 c x h G B hm hs hf
      · exact mOne_not w lo mid hi p g2 c x h G B hm hs hf
      · exact mOne_test w lo mid hi p g2 c x h G B hm hs hf
end Go.Proofs.YtblddehlkaolbaaGreatDoor

namespace Go.Proofs.YtblddehlkaolbaaGreatDoor
open Go.RowKit
set_option linter.unusedVariables false

theorem specIsBcd (v : Int) (w : World) :
    Calls Tryz.prog 128 #[.int .i64 v] w fun e w' => e = .returned (.bool (Pl.bcd v)) ∧ w' = w := by
  by_cases hr : 0 ≤ v ∧ v ≤ 255
  · obtain ⟨h0, h1⟩ := hr
    have kd : (decide ((0 : Int) ≤ v) && decide (v ≤ 255)) = true := by simp [h0, h1]
    have em := Pl.and15 v
    by_cases h2 : v / 16 ≤ 9
    all_goals
      by_cases h3 : v % 16 ≤ 9
      all_goals
        go_enter Tryz.func128, Tryz.ntmps128
        go_wp2_with fail
        refine (l1In _ _ _ _).mono ?_
        rintro e w' ⟨rfl, rfl⟩
        go_wp2_with fail
        go_ret
        exact ⟨rB (by rw [Bool.eq_iff_iff]; simp [Pl.bcd]; omega), rfl⟩
  · have kd : (decide ((0 : Int) ≤ v) && decide (v ≤ 255)) = false := by
      rw [Bool.and_eq_false_iff, decide_eq_false_iff_not, decide_eq_false_iff_not]; omega
    go_enter Tryz.func128, Tryz.ntmps128
    go_wp2_with fail
    refine (l1In _ _ _ _).mono ?_
    rintro e w' ⟨rfl, rfl⟩
    go_wp2_with fail
    go_ret
    exact ⟨rB (by rw [Pl.bcd, kd]; rfl), rfl⟩

theorem l2Of (n : Int) (w : World) (h0 : 0 ≤ n) (h1 : n ≤ 99) :
    Calls Tryz.prog 157 #[.int .i64 n] w fun e w' => e = .returned (.int .i64 (Pl.ofN n)) ∧ w' = w := by
  have eo := Pl.or_dgt n h0 h1
  go_enter Tryz.func157, Tryz.ntmps157
  go_wp2_with fail
  go_ret
  exact ⟨rfl, rfl⟩

theorem l2Number (v : Int) (w : World) (h : Pl.bcd v = true) :
    Calls Tryz.prog 156 #[.int .i64 v] w fun e w' => e = .returned (.int .i64 (Pl.num v)) ∧ w' = w := by
  obtain ⟨h0, h1, h2, h3⟩ := Pl.bcd_ok h
  have em := Pl.and15 v
  clear h
  go_enter Tryz.func156, Tryz.ntmps156
  go_wp2_with fail
  go_ret
  exact ⟨rfl, rfl⟩

end Go.Proofs.YtblddehlkaolbaaGreatDoor

namespace Go.Proofs.YtblddehlkaolbaaGreatDoor
open Go.RowKit
set_option linter.unusedVariables false

theorem l2Add (x a b : Int) (w : World) (h : Pl.two2 x a b = true) :
    Calls Tryz.prog 129 #[.int .i64 x, .int .i64 a, .int .i64 b] w fun e w' => e = .returned (.tuple #[.int .i64 (Pl.aV x a b), .int .i64 (Pl.aC x a b)]) ∧ w' = w := by
  obtain ⟨x0, x1, ha, hb⟩ := Pl.two2_ok h
  obtain ⟨a0, a1⟩ := Pl.num_bd ha
  obtain ⟨b0, b1⟩ := Pl.num_bd hb
  rw [Pl.aV_is h, Pl.aC_is h]
  go_enter Tryz.func129, Tryz.ntmps129
  go_wp2_with fail
  refine (l2Number a _ ha).mono ?_
  rintro e w' ⟨rfl, rfl⟩
  go_wp2_with fail
  refine (l2Number b _ hb).mono ?_
  rintro e w' ⟨rfl, rfl⟩
  go_wp2_with fail
  refine (l2Of _ _ (by omega) (by omega)).mono ?_
  rintro e w' ⟨rfl, rfl⟩
  go_wp2_with fail
  go_ret2
  exact ⟨rfl, rfl⟩

theorem l2Sub (x a b : Int) (w : World) (h : Pl.two2 x a b = true) :
    Calls Tryz.prog 130 #[.int .i64 x, .int .i64 a, .int .i64 b] w fun e w' => e = .returned (.tuple #[.int .i64 (Pl.sV x a b), .int .i64 (Pl.sC x a b)]) ∧ w' = w := by
  obtain ⟨x0, x1, ha, hb⟩ := Pl.two2_ok h
  obtain ⟨a0, a1⟩ := Pl.num_bd ha
  obtain ⟨b0, b1⟩ := Pl.num_bd hb
  rw [Pl.sV_is h, Pl.sC_is h]
  unfold Pl.difN Pl.difB
  by_cases hn : Pl.num a - Pl.num b - x < 0
  · rw [if_pos hn, if_pos hn]
    go_enter Tryz.func130, Tryz.ntmps130
    go_wp2_with fail
    refine (l2Number a _ ha).mono ?_
    rintro e w' ⟨rfl, rfl⟩
    go_wp2_with fail
    refine (l2Number b _ hb).mono ?_
    rintro e w' ⟨rfl, rfl⟩
    go_wp2_with fail
    refine (l2Of _ _ (by omega) (by omega)).mono ?_
    rintro e w' ⟨rfl, rfl⟩
    go_wp2_with fail
    go_ret2
    exact ⟨rfl, rfl⟩
  · rw [if_neg hn, if_neg hn]
    go_enter Tryz.func130, Tryz.ntmps130
    go_wp2_with fail
    refine (l2Number a _ ha).mono ?_
    rintro e w' ⟨rfl, rfl⟩
    go_wp2_with fail
    refine (l2Number b _ hb).mono ?_
    rintro e w' ⟨rfl, rfl⟩
    go_wp2_with fail
    refine (l2Of _ _ (by omega) (by omega)).mono ?_
    rintro e w' ⟨rfl, rfl⟩
    go_wp2_with fail
    go_ret2
    exact ⟨rfl, rfl⟩

end Go.Proofs.YtblddehlkaolbaaGreatDoor

