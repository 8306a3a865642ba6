/- What the model's step does with branches and jumps. What the model's step does: handed on. What the model's step does with addresses. -/
import Derived.Test.YtblddehlkaolbaaGreatDoorJA14
import Derived.Test.YtblddehlkaolbaaGreatDoorJA16
import Derived.Test.YtblddehlkaolbaaGreatDoorJA15
namespace Go.Proofs.YtblddehlkaolbaaGreatDoor
open Go.RowKit
set_option linter.unusedVariables false
theorem l8TestZ {k f : Int} (w : World) (k0 : 0 ≤ k) (k1 : k ≤ 15) (f0 : 0 ≤ f) (f1 : f ≤ 31) : Calls Tryz.prog 121 #[.int .i64 k, .int .i64 f] w fun e w' => e = .returned (.bool (Pl.tst k f)) ∧ w' = w := by
  obtain ⟨n, hn, rfl⟩ := Pl.nat_of (n := 16) k0 (by omega)
  obtain ⟨j, hj, rfl⟩ := Pl.nat_of (n := 32) f0 (by omega)
  exact specTst n j hn hj w
theorem Pl.GM.push {c : Pl.Mc} (h : Pl.GM c) {v : Int} (v0 : 0 ≤ v) (v1 : v ≤ 65535) : Pl.GM (c.push v) := by
  have q := h.acc (Pl.ask_push (c := c) v0 v1)
  unfold Pl.Mc.push
  cases (c.acc 2 2 c.spA v).fine
  · exact q
  · exact q.setA 3 (by unfold Pl.Mc.spA; omega) (by unfold Pl.Mc.spA; omega)
set_option maxHeartbeats 4000000 in
theorem mJump_yes (w : World) (lo mid hi p g2 : Nat) (c : Pl.Mc) (x : Pl.In) (t : Int) (h : MAt w lo mid hi p g2 c) (G : Pl.GM c) (B : Pl.InB x) (ho : x.op = 13) (r2 : x.r ≤ 1) (t0 : 0 ≤ t) (t1 : t ≤ 65535) (hb : Pl.tst (x.s + 8 * x.r) c.r.f = true) :
    Calls Tryz.prog 80 #[.pointer (some ⟨p, 0, none⟩), .agg #[.int .i64 x.op, .int .i64 x.z, .int .i64 x.r, .int .i64 x.m, .int .i64 x.k, .int .i64 x.e, .int .i64 x.s], .int .i64 t] w fun e w' => e = .returned (.tuple #[]) ∧ ∃ g3, MAt w' lo mid hi p g3 (c.jump x t) ∧ Since w lo hi g2 w' g3 := by
  have HG := hide G
  have HI := hide B
  have HOP := hide ho
  clear ho
  have hl := h.lo
  have KA := hide (kept_alloc w (.cells #[.int .i64 x.op, .int .i64 x.z, .int .i64 x.r, .int .i64 x.m, .int .i64 x.k, .int .i64 x.e, .int .i64 x.s] 79))
  have BA : Blk (w.alloc (.cells #[.int .i64 x.op, .int .i64 x.z, .int .i64 x.r, .int .i64 x.m, .int .i64 x.k, .int .i64 x.e, .int .i64 x.s] 79)) w.heap.size (insC x) 79 := Blk.new w #[.int .i64 x.op, .int .i64 x.z, .int .i64 x.r, .int .i64 x.m, .int .i64 x.k, .int .i64 x.e, .int .i64 x.s] 79
  obtain ⟨X, hX⟩ : ∃ X : World, w.alloc (.cells #[.int .i64 x.op, .int .i64 x.z, .int .i64 x.r, .int .i64 x.m, .int .i64 x.k, .int .i64 x.e, .int .i64 x.s] 79) = X := ⟨_, rfl⟩
  rw [hX] at KA BA
  have HX := hide BA
  have hbw := BA.lt
  obtain ⟨b0, b1, b2, b3, b4, b5, b6⟩ := insAt HX.out
  rw [HOP.out] at b0
  have HHB : Hid (hi ≤ w.heap.size) := hide hl.2.2.2.2.2.2
  have HGB : Hid (w.heap.size ≠ g2) := hide (by have := hl.2.2.2.2.2.1; omega)
  have HPH : Hid ((lo ≤ p ∧ p < hi) ∨ w.heap.size ≤ p) := hide (by omega)
  have HPB : Hid (p < w.heap.size) := hide hl.2.2.2.2.1
  have HMH : Hid (mid ≤ hi) := hide (by omega)
  have HS := hide ((Since.refl w lo hi g2).any KA.out)
  have h2 := h.any KA.out
  clear h BA
  have HM := hide h2
  obtain ⟨gd, cd, ga, ca, g1, c1, c2, hB9, hO9⟩ := h2
  have HB := hide hB9
  have HO := hide hO9
  obtain ⟨t0, t1, t2, t3, t4, t5, t6, t7, t8, t9, t10, t11, t12, t13, t14, t15⟩ := hB9.cells
  clear t0 t1 t2 t5 t6 t7 t8 t9 t10 t11 t12 t13 t14 t15
  have f3 := hB9.frozen 3
  clear hB9 hO9
  clear G B
  have E : Hid (c.jump x t = c.setP ((t + 2 + x.e) % 65536)) := hide (by unfold Pl.Mc.jump; rw [HOP.out, hb]; rfl)
  have s0 := HI.out.s0
  have s1 := HI.out.s1
  have r0 := HI.out.r0
  have e0 := HI.out.e0
  have e1 := HI.out.e1
  have hm := mask16 (t + 2 + x.e)
  have HL := fun w9 => l8TestZ (k := x.s + 8 * x.r) (f := c.r.f) w9 (by omega) (by omega) HG.out.g.f0 HG.out.g.f1
  rw [hb] at HL
  have hw1 : IntKind.i64.wrap (8 * x.r) = 8 * x.r := by rw [IntKind.wrap_i64]; omega
  have hw2 : IntKind.i64.wrap (x.s + 8 * x.r) = x.s + 8 * x.r := by rw [IntKind.wrap_i64]; omega
  have HL2 : ∀ w9 : World, Calls Tryz.prog 121 #[.int .i64 (IntKind.i64.wrap (x.s + IntKind.i64.wrap (8 * x.r))), .int .i64 c.r.f] w9 fun e w' => e = .returned (.bool true) ∧ w' = w9 := by
    intro w9; rw [hw1, hw2]; exact HL w9
  have HLL := hide HL2
  clear hw1 hw2 HL HL2
  have KD := hide (kept_drew (Kept.refl 0 0 X))
  have HM_D := hide (HM.out.any KD.out)
  have HS_D := hide HS.out.drew
  go_enter Tryz.func80, Tryz.ntmps80
  go_wp2_with fail
  go_region_held3 (fun w' => w'.cell? ⟨p, 4, none⟩ = some (.int .i64 c.r.f) ∧ w'.cell? ⟨w.heap.size, 6, none⟩ = some (.int .i64 x.s) ∧ w'.cell? ⟨w.heap.size, 2, none⟩ = some (.int .i64 x.r)) (first | go_keep) (first | (go_at_call 121; refine (HLL.out _).mono ?_; rintro e9 w9 ⟨rfl, hw⟩; have hw2 := hw.symm; clear hw; subst hw2))
  go_wp2_with fail
  first | go_end0 | refine bodyPost_ret (results_none rfl _ _ _) rfl ?_
  exact ⟨rfl, g2, by rw [E.out]; exact (HM.out.cP _).drew, (HS.out.set p 3 _ HPH.out).drew⟩
set_option maxHeartbeats 4000000 in
theorem mJump_not (w : World) (lo mid hi p g2 : Nat) (c : Pl.Mc) (x : Pl.In) (t : Int) (h : MAt w lo mid hi p g2 c) (G : Pl.GM c) (B : Pl.InB x) (ho : x.op = 13) (r2 : x.r ≤ 1) (t0 : 0 ≤ t) (t1 : t ≤ 65535) (hb : Pl.tst (x.s + 8 * x.r) c.r.f = false) :
    Calls Tryz.prog 80 #[.pointer (some ⟨p, 0, none⟩), .agg #[.int .i64 x.op, .int .i64 x.z, .int .i64 x.r, .int .i64 x.m, .int .i64 x.k, .int .i64 x.e, .int .i64 x.s], .int .i64 t] w fun e w' => e = .returned (.tuple #[]) ∧ ∃ g3, MAt w' lo mid hi p g3 (c.jump x t) ∧ Since w lo hi g2 w' g3 := by
  have HG := hide G
  have HI := hide B
  have HOP := hide ho
  clear ho
  have hl := h.lo
  have KA := hide (kept_alloc w (.cells #[.int .i64 x.op, .int .i64 x.z, .int .i64 x.r, .int .i64 x.m, .int .i64 x.k, .int .i64 x.e, .int .i64 x.s] 79))
  have BA : Blk (w.alloc (.cells #[.int .i64 x.op, .int .i64 x.z, .int .i64 x.r, .int .i64 x.m, .int .i64 x.k, .int .i64 x.e, .int .i64 x.s] 79)) w.heap.size (insC x) 79 := Blk.new w #[.int .i64 x.op, .int .i64 x.z, .int .i64 x.r, .int .i64 x.m, .int .i64 x.k, .int .i64 x.e, .int .i64 x.s] 79
  obtain ⟨X, hX⟩ : ∃ X : World, w.alloc (.cells #[.int .i64 x.op, .int .i64 x.z, .int .i64 x.r, .int .i64 x.m, .int .i64 x.k, .int .i64 x.e, .int .i64 x.s] 79) = X := ⟨_, rfl⟩
  rw [hX] at KA BA
  have HX := hide BA
  have hbw := BA.lt
  obtain ⟨b0, b1, b2, b3, b4, b5, b6⟩ := insAt HX.out
  rw [HOP.out] at b0
  have HHB : Hid (hi ≤ w.heap.size) := hide hl.2.2.2.2.2.2
  have HGB : Hid (w.heap.size ≠ g2) := hide (by have := hl.2.2.2.2.2.1; omega)
  have HPH : Hid ((lo ≤ p ∧ p < hi) ∨ w.heap.size ≤ p) := hide (by omega)
  have HPB : Hid (p < w.heap.size) := hide hl.2.2.2.2.1
  have HMH : Hid (mid ≤ hi) := hide (by omega)
  have HS := hide ((Since.refl w lo hi g2).any KA.out)
  have h2 := h.any KA.out
  clear h BA
  have HM := hide h2
  obtain ⟨gd, cd, ga, ca, g1, c1, c2, hB9, hO9⟩ := h2
  have HB := hide hB9
  have HO := hide hO9
  obtain ⟨t0, t1, t2, t3, t4, t5, t6, t7, t8, t9, t10, t11, t12, t13, t14, t15⟩ := hB9.cells
  clear t0 t1 t2 t5 t6 t7 t8 t9 t10 t11 t12 t13 t14 t15
  have f3 := hB9.frozen 3
  clear hB9 hO9
  clear G B
  have E : Hid (c.jump x t = c) := hide (by unfold Pl.Mc.jump; rw [HOP.out, hb]; rfl)
  have s0 := HI.out.s0
  have s1 := HI.out.s1
  have r0 := HI.out.r0
  have e0 := HI.out.e0
  have e1 := HI.out.e1
  have hm := mask16 (t + 2 + x.e)
  have HL := fun w9 => l8TestZ (k := x.s + 8 * x.r) (f := c.r.f) w9 (by omega) (by omega) HG.out.g.f0 HG.out.g.f1
  rw [hb] at HL
  have hw1 : IntKind.i64.wrap (8 * x.r) = 8 * x.r := by rw [IntKind.wrap_i64]; omega
  have hw2 : IntKind.i64.wrap (x.s + 8 * x.r) = x.s + 8 * x.r := by rw [IntKind.wrap_i64]; omega
  have HL2 : ∀ w9 : World, Calls Tryz.prog 121 #[.int .i64 (IntKind.i64.wrap (x.s + IntKind.i64.wrap (8 * x.r))), .int .i64 c.r.f] w9 fun e w' => e = .returned (.bool false) ∧ w' = w9 := by
    intro w9; rw [hw1, hw2]; exact HL w9
  have HLL := hide HL2
  clear hw1 hw2 HL HL2
  have KD := hide (kept_drew (Kept.refl 0 0 X))
  have HM_D := hide (HM.out.any KD.out)
  have HS_D := hide HS.out.drew
  go_enter Tryz.func80, Tryz.ntmps80
  go_wp2_with fail
  go_region_held3 (fun w' => w'.cell? ⟨p, 4, none⟩ = some (.int .i64 c.r.f) ∧ w'.cell? ⟨w.heap.size, 6, none⟩ = some (.int .i64 x.s) ∧ w'.cell? ⟨w.heap.size, 2, none⟩ = some (.int .i64 x.r)) (first | go_keep) (first | (go_at_call 121; refine (HLL.out _).mono ?_; rintro e9 w9 ⟨rfl, hw⟩; have hw2 := hw.symm; clear hw; subst hw2))
  go_wp2_with fail
  first | go_end0 | refine bodyPost_ret (results_none rfl _ _ _) rfl ?_
  exact ⟨rfl, g2, by rw [E.out]; exact HM_D.out, HS_D.out⟩
set_option maxHeartbeats 4000000 in
theorem mJump_go (w : World) (lo mid hi p g2 : Nat) (c : Pl.Mc) (x : Pl.In) (t : Int) (h : MAt w lo mid hi p g2 c) (G : Pl.GM c) (B : Pl.InB x) (ho : x.op = 14) (hm : x.m = 0 ∨ x.m = 2 ∨ x.m = 3 ∨ x.m = 4 ∨ x.m = 5 ∨ x.m = 6) (hfc : c.fine = true) (hs : (x.s == 1) = false) :
    Calls Tryz.prog 80 #[.pointer (some ⟨p, 0, none⟩), .agg #[.int .i64 x.op, .int .i64 x.z, .int .i64 x.r, .int .i64 x.m, .int .i64 x.k, .int .i64 x.e, .int .i64 x.s], .int .i64 t] w fun e w' => e = .returned (.tuple #[]) ∧ ∃ g3, MAt w' lo mid hi p g3 (c.jump x t) ∧ Since w lo hi g2 w' g3 := by
  have HG := hide G
  have HI := hide B
  have HOP := hide ho
  clear ho
  have hl := h.lo
  have KA := hide (kept_alloc w (.cells #[.int .i64 x.op, .int .i64 x.z, .int .i64 x.r, .int .i64 x.m, .int .i64 x.k, .int .i64 x.e, .int .i64 x.s] 79))
  have BA : Blk (w.alloc (.cells #[.int .i64 x.op, .int .i64 x.z, .int .i64 x.r, .int .i64 x.m, .int .i64 x.k, .int .i64 x.e, .int .i64 x.s] 79)) w.heap.size (insC x) 79 := Blk.new w #[.int .i64 x.op, .int .i64 x.z, .int .i64 x.r, .int .i64 x.m, .int .i64 x.k, .int .i64 x.e, .int .i64 x.s] 79
  obtain ⟨X, hX⟩ : ∃ X : World, w.alloc (.cells #[.int .i64 x.op, .int .i64 x.z, .int .i64 x.r, .int .i64 x.m, .int .i64 x.k, .int .i64 x.e, .int .i64 x.s] 79) = X := ⟨_, rfl⟩
  rw [hX] at KA BA
  have HX := hide BA
  have hbw := BA.lt
  obtain ⟨b0, b1, b2, b3, b4, b5, b6⟩ := insAt HX.out
  rw [HOP.out] at b0
  have HHB : Hid (hi ≤ w.heap.size) := hide hl.2.2.2.2.2.2
  have HGB : Hid (w.heap.size ≠ g2) := hide (by have := hl.2.2.2.2.2.1; omega)
  have HPH : Hid ((lo ≤ p ∧ p < hi) ∨ w.heap.size ≤ p) := hide (by omega)
  have HPB : Hid (p < w.heap.size) := hide hl.2.2.2.2.1
  have HMH : Hid (mid ≤ hi) := hide (by omega)
  have HS := hide ((Since.refl w lo hi g2).any KA.out)
  have h2 := h.any KA.out
  clear h BA
  have HM := hide h2
  obtain ⟨gd, cd, ga, ca, g1, c1, c2, hB9, hO9⟩ := h2
  have HB := hide hB9
  have HO := hide hO9
  obtain ⟨t0, t1, t2, t3, t4, t5, t6, t7, t8, t9, t10, t11, t12, t13, t14, t15⟩ := hB9.cells
  clear t0 t1 t2 t3 t4 t5 t6 t7 t8 t9 t10 t11 t12 t13 t14 t15
  clear hB9 hO9
  clear G B
  have HG1 := hide (HG.out.place (z := 2) (m := x.m) (e := x.e) HI.out.k0 HI.out.k1)
  have HFP := Pl.place_p c 2 x.m x.k x.e
  have hf : (c.place 2 x.m x.k x.e).fine = true := by
    rw [← hfc]; unfold Pl.Mc.place; cases x.m == 0 <;> rfl
  have HRD := fun w9 h9 => mPlace w9 lo mid hi p g2 c 2 x.m x.k x.e h9 HG.out HI.out.k0 HI.out.k1 HI.out.e0 HI.out.e1 hm
  have E : Hid (c.jump x t = (c.place 2 x.m x.k x.e).setP (c.plcA 2 x.m x.k x.e)) := hide (by unfold Pl.Mc.jump; rw [HOP.out, hs]; rfl)
  obtain ⟨d, hd⟩ : ∃ d, c.place 2 x.m x.k x.e = d := ⟨_, rfl⟩
  obtain ⟨a, hA⟩ : ∃ a, c.plcA 2 x.m x.k x.e = a := ⟨_, rfl⟩
  rw [hd] at hf HG1 HFP
  first | rw [hd, hA] at E | rw [hd] at E
  simp only [hd, hA] at HRD
  clear hd hA hfc hm
  go_enter Tryz.func80, Tryz.ntmps80
  go_wp2_with (first | (go_at_call 73; refine (HRD _ HM.out).mono ?_; rintro e9 W_1 ⟨rfl, g2_1, hm9, hb9⟩; have HX_1 := hide (hb9.blk HX.out HHB.out HGB.out); have HGB_1 := hide (hb9.ne HX.out.lt HGB.out); have HS_1 := hide (HS.out.trans hb9); clear hb9; have HM_1 := hide hm9; obtain ⟨gd_1, cd_1, ga_1, ca_1, g1_1, c1_1, c2_1, hB9, hO9⟩ := hm9; have HB_1 := hide hB9; have HO_1 := hide hO9; obtain ⟨t0_1, t1_1, t2_1, t3_1, t4_1, t5_1, t6_1, t7_1, t8_1, t9_1, t10_1, t11_1, t12_1, t13_1, t14_1, t15_1⟩ := hB9.cells; clear t0_1 t1_1 t2_1 t4_1 t5_1 t6_1 t7_1 t8_1 t9_1 t10_1 t11_1 t12_1 t13_1 t14_1 t15_1; have f3_1 := hB9.frozen 3; clear hB9 hO9; clear b0 b1 b2 b3 b4 b5 b6; obtain ⟨b0, b1, b2, b3, b4, b5, b6⟩ := insAt HX_1.out; rw [HOP.out] at b0) | (go_at_call 41; refine (mFine _ lo mid hi p g2_1 _ HM_1.out).mono ?_; rintro e9 w9 ⟨rfl, hw⟩; have hw2 := hw.symm; clear hw; subst hw2; rw [hf]))
  first | go_end0 | refine bodyPost_ret (results_none rfl _ _ _) rfl ?_
  exact ⟨rfl, g2_1, by rw [E.out]; exact HM_1.out.cP _, HS_1.out.set p 3 _ HPH.out⟩
set_option maxHeartbeats 4000000 in
theorem mJump_subt (w : World) (lo mid hi p g2 : Nat) (c : Pl.Mc) (x : Pl.In) (t : Int) (h : MAt w lo mid hi p g2 c) (G : Pl.GM c) (B : Pl.InB x) (ho : x.op = 14) (hm : x.m = 0 ∨ x.m = 2 ∨ x.m = 3 ∨ x.m = 4 ∨ x.m = 5 ∨ x.m = 6) (hfc : c.fine = true) (hs : x.s = 1) (hf2 : ((c.place 2 x.m x.k x.e).push c.r.p).fine = true) :
    Calls Tryz.prog 80 #[.pointer (some ⟨p, 0, none⟩), .agg #[.int .i64 x.op, .int .i64 x.z, .int .i64 x.r, .int .i64 x.m, .int .i64 x.k, .int .i64 x.e, .int .i64 x.s], .int .i64 t] w fun e w' => e = .returned (.tuple #[]) ∧ ∃ g3, MAt w' lo mid hi p g3 (c.jump x t) ∧ Since w lo hi g2 w' g3 := by
  have HG := hide G
  have HI := hide B
  have HOP := hide ho
  have HSU := hide hs
  clear hs
  clear ho
  have hl := h.lo
  have KA := hide (kept_alloc w (.cells #[.int .i64 x.op, .int .i64 x.z, .int .i64 x.r, .int .i64 x.m, .int .i64 x.k, .int .i64 x.e, .int .i64 x.s] 79))
  have BA : Blk (w.alloc (.cells #[.int .i64 x.op, .int .i64 x.z, .int .i64 x.r, .int .i64 x.m, .int .i64 x.k, .int .i64 x.e, .int .i64 x.s] 79)) w.heap.size (insC x) 79 := Blk.new w #[.int .i64 x.op, .int .i64 x.z, .int .i64 x.r, .int .i64 x.m, .int .i64 x.k, .int .i64 x.e, .int .i64 x.s] 79
  obtain ⟨X, hX⟩ : ∃ X : World, w.alloc (.cells #[.int .i64 x.op, .int .i64 x.z, .int .i64 x.r, .int .i64 x.m, .int .i64 x.k, .int .i64 x.e, .int .i64 x.s] 79) = X := ⟨_, rfl⟩
  rw [hX] at KA BA
  have HX := hide BA
  have hbw := BA.lt
  obtain ⟨b0, b1, b2, b3, b4, b5, b6⟩ := insAt HX.out
  rw [HOP.out] at b0
  rw [HSU.out] at b6
  have HHB : Hid (hi ≤ w.heap.size) := hide hl.2.2.2.2.2.2
  have HGB : Hid (w.heap.size ≠ g2) := hide (by have := hl.2.2.2.2.2.1; omega)
  have HPH : Hid ((lo ≤ p ∧ p < hi) ∨ w.heap.size ≤ p) := hide (by omega)
  have HPB : Hid (p < w.heap.size) := hide hl.2.2.2.2.1
  have HMH : Hid (mid ≤ hi) := hide (by omega)
  have HS := hide ((Since.refl w lo hi g2).any KA.out)
  have h2 := h.any KA.out
  clear h BA
  have HM := hide h2
  obtain ⟨gd, cd, ga, ca, g1, c1, c2, hB9, hO9⟩ := h2
  have HB := hide hB9
  have HO := hide hO9
  obtain ⟨t0, t1, t2, t3, t4, t5, t6, t7, t8, t9, t10, t11, t12, t13, t14, t15⟩ := hB9.cells
  clear t0 t1 t2 t3 t4 t5 t6 t7 t8 t9 t10 t11 t12 t13 t14 t15
  clear hB9 hO9
  clear G B
  have HG1 := hide (HG.out.place (z := 2) (m := x.m) (e := x.e) HI.out.k0 HI.out.k1)
  have HFP := Pl.place_p c 2 x.m x.k x.e
  have hf : (c.place 2 x.m x.k x.e).fine = true := by
    rw [← hfc]; unfold Pl.Mc.place; cases x.m == 0 <;> rfl
  have HRD := fun w9 h9 => mPlace w9 lo mid hi p g2 c 2 x.m x.k x.e h9 HG.out HI.out.k0 HI.out.k1 HI.out.e0 HI.out.e1 hm
  have E : Hid (c.jump x t = (((c.place 2 x.m x.k x.e).push c.r.p).setP (c.plcA 2 x.m x.k x.e))) := hide (by unfold Pl.Mc.jump; rw [HOP.out, HSU.out, hf2]; rfl)
  obtain ⟨d, hd⟩ : ∃ d, c.place 2 x.m x.k x.e = d := ⟨_, rfl⟩
  obtain ⟨a, hA⟩ : ∃ a, c.plcA 2 x.m x.k x.e = a := ⟨_, rfl⟩
  rw [hd] at hf HG1 HFP
  first | rw [hd, hA] at E | rw [hd] at E
  simp only [hd, hA] at HRD
  rw [hd, ← HFP] at hf2
  rw [← HFP] at E
  have HP0 := hide HG1.out.p0
  have HP1 := hide HG1.out.p1
  clear HFP
  clear hd hA hfc hm
  go_enter Tryz.func80, Tryz.ntmps80
  go_wp2_with (first | (go_at_call 122; refine (mPush _ lo mid hi p g2_1 d d.r.p HM_1.out HG1.out HP0.out HP1.out).mono ?_; rintro e9 W_2 ⟨rfl, g2_2, hm9, hb9⟩; have HX_2 := hide (hb9.blk HX_1.out HHB.out HGB_1.out); have HGB_2 := hide (hb9.ne HX_1.out.lt HGB_1.out); have HS_2 := hide (HS_1.out.trans hb9); clear hb9; have HM_2 := hide hm9; obtain ⟨gd_2, cd_2, ga_2, ca_2, g1_2, c1_2, c2_2, hB9, hO9⟩ := hm9; have HB_2 := hide hB9; have HO_2 := hide hO9; obtain ⟨t0_2, t1_2, t2_2, t3_2, t4_2, t5_2, t6_2, t7_2, t8_2, t9_2, t10_2, t11_2, t12_2, t13_2, t14_2, t15_2⟩ := hB9.cells; clear t0_2 t1_2 t2_2 t4_2 t5_2 t6_2 t7_2 t8_2 t9_2 t10_2 t11_2 t12_2 t13_2 t14_2 t15_2; have f3_2 := hB9.frozen 3; clear hB9 hO9; clear b0 b1 b2 b3 b4 b5 b6; obtain ⟨b0, b1, b2, b3, b4, b5, b6⟩ := insAt HX_2.out; rw [HOP.out] at b0; rw [HSU.out] at b6) | (go_at_call 41; have z9 := HM_2; refine (mFine _ lo mid hi p g2_2 _ HM_2.out).mono ?_; rintro e9 w9 ⟨rfl, hw⟩; have hw2 := hw.symm; clear hw; subst hw2; rw [hf2]) | (go_at_call 73; refine (HRD _ HM.out).mono ?_; rintro e9 W_1 ⟨rfl, g2_1, hm9, hb9⟩; have HX_1 := hide (hb9.blk HX.out HHB.out HGB.out); have HGB_1 := hide (hb9.ne HX.out.lt HGB.out); have HS_1 := hide (HS.out.trans hb9); clear hb9; have HM_1 := hide hm9; obtain ⟨gd_1, cd_1, ga_1, ca_1, g1_1, c1_1, c2_1, hB9, hO9⟩ := hm9; have HB_1 := hide hB9; have HO_1 := hide hO9; obtain ⟨t0_1, t1_1, t2_1, t3_1, t4_1, t5_1, t6_1, t7_1, t8_1, t9_1, t10_1, t11_1, t12_1, t13_1, t14_1, t15_1⟩ := hB9.cells; clear t0_1 t1_1 t2_1 t4_1 t5_1 t6_1 t7_1 t8_1 t9_1 t10_1 t11_1 t12_1 t13_1 t14_1 t15_1; have f3_1 := hB9.frozen 3; clear hB9 hO9; clear b0 b1 b2 b3 b4 b5 b6; obtain ⟨b0, b1, b2, b3, b4, b5, b6⟩ := insAt HX_1.out; rw [HOP.out] at b0; rw [HSU.out] at b6))
  first | go_end0 | refine bodyPost_ret (results_none rfl _ _ _) rfl ?_
  exact ⟨rfl, g2_2, by rw [E.out]; exact HM_2.out.cP _, HS_2.out.set p 3 _ HPH.out⟩
set_option maxHeartbeats 4000000 in
theorem mJump_subf (w : World) (lo mid hi p g2 : Nat) (c : Pl.Mc) (x : Pl.In) (t : Int) (h : MAt w lo mid hi p g2 c) (G : Pl.GM c) (B : Pl.InB x) (ho : x.op = 14) (hm : x.m = 0 ∨ x.m = 2 ∨ x.m = 3 ∨ x.m = 4 ∨ x.m = 5 ∨ x.m = 6) (hfc : c.fine = true) (hs : x.s = 1) (hf2 : ((c.place 2 x.m x.k x.e).push c.r.p).fine = false) :
    Calls Tryz.prog 80 #[.pointer (some ⟨p, 0, none⟩), .agg #[.int .i64 x.op, .int .i64 x.z, .int .i64 x.r, .int .i64 x.m, .int .i64 x.k, .int .i64 x.e, .int .i64 x.s], .int .i64 t] w fun e w' => e = .returned (.tuple #[]) ∧ ∃ g3, MAt w' lo mid hi p g3 (c.jump x t) ∧ Since w lo hi g2 w' g3 := by
  have HG := hide G
  have HI := hide B
  have HOP := hide ho
  have HSU := hide hs
  clear hs
  clear ho
  have hl := h.lo
  have KA := hide (kept_alloc w (.cells #[.int .i64 x.op, .int .i64 x.z, .int .i64 x.r, .int .i64 x.m, .int .i64 x.k, .int .i64 x.e, .int .i64 x.s] 79))
  have BA : Blk (w.alloc (.cells #[.int .i64 x.op, .int .i64 x.z, .int .i64 x.r, .int .i64 x.m, .int .i64 x.k, .int .i64 x.e, .int .i64 x.s] 79)) w.heap.size (insC x) 79 := Blk.new w #[.int .i64 x.op, .int .i64 x.z, .int .i64 x.r, .int .i64 x.m, .int .i64 x.k, .int .i64 x.e, .int .i64 x.s] 79
  obtain ⟨X, hX⟩ : ∃ X : World, w.alloc (.cells #[.int .i64 x.op, .int .i64 x.z, .int .i64 x.r, .int .i64 x.m, .int .i64 x.k, .int .i64 x.e, .int .i64 x.s] 79) = X := ⟨_, rfl⟩
  rw [hX] at KA BA
  have HX := hide BA
  have hbw := BA.lt
  obtain ⟨b0, b1, b2, b3, b4, b5, b6⟩ := insAt HX.out
  rw [HOP.out] at b0
  rw [HSU.out] at b6
  have HHB : Hid (hi ≤ w.heap.size) := hide hl.2.2.2.2.2.2
  have HGB : Hid (w.heap.size ≠ g2) := hide (by have := hl.2.2.2.2.2.1; omega)
  have HPH : Hid ((lo ≤ p ∧ p < hi) ∨ w.heap.size ≤ p) := hide (by omega)
  have HPB : Hid (p < w.heap.size) := hide hl.2.2.2.2.1
  have HMH : Hid (mid ≤ hi) := hide (by omega)
  have HS := hide ((Since.refl w lo hi g2).any KA.out)
  have h2 := h.any KA.out
  clear h BA
  have HM := hide h2
  obtain ⟨gd, cd, ga, ca, g1, c1, c2, hB9, hO9⟩ := h2
  have HB := hide hB9
  have HO := hide hO9
  obtain ⟨t0, t1, t2, t3, t4, t5, t6, t7, t8, t9, t10, t11, t12, t13, t14, t15⟩ := hB9.cells
  clear t0 t1 t2 t3 t4 t5 t6 t7 t8 t9 t10 t11 t12 t13 t14 t15
  clear hB9 hO9
  clear G B
  have HG1 := hide (HG.out.place (z := 2) (m := x.m) (e := x.e) HI.out.k0 HI.out.k1)
  have HFP := Pl.place_p c 2 x.m x.k x.e
  have hf : (c.place 2 x.m x.k x.e).fine = true := by
    rw [← hfc]; unfold Pl.Mc.place; cases x.m == 0 <;> rfl
  have HRD := fun w9 h9 => mPlace w9 lo mid hi p g2 c 2 x.m x.k x.e h9 HG.out HI.out.k0 HI.out.k1 HI.out.e0 HI.out.e1 hm
  have E : Hid (c.jump x t = ((c.place 2 x.m x.k x.e).push c.r.p)) := hide (by unfold Pl.Mc.jump; rw [HOP.out, HSU.out, hf2]; rfl)
  obtain ⟨d, hd⟩ : ∃ d, c.place 2 x.m x.k x.e = d := ⟨_, rfl⟩
  obtain ⟨a, hA⟩ : ∃ a, c.plcA 2 x.m x.k x.e = a := ⟨_, rfl⟩
  rw [hd] at hf HG1 HFP
  first | rw [hd, hA] at E | rw [hd] at E
  simp only [hd, hA] at HRD
  rw [hd, ← HFP] at hf2
  rw [← HFP] at E
  have HP0 := hide HG1.out.p0
  have HP1 := hide HG1.out.p1
  clear HFP
  clear hd hA hfc hm
  go_enter Tryz.func80, Tryz.ntmps80
  go_wp2_with (first | (go_at_call 122; refine (mPush _ lo mid hi p g2_1 d d.r.p HM_1.out HG1.out HP0.out HP1.out).mono ?_; rintro e9 W_2 ⟨rfl, g2_2, hm9, hb9⟩; have HX_2 := hide (hb9.blk HX_1.out HHB.out HGB_1.out); have HGB_2 := hide (hb9.ne HX_1.out.lt HGB_1.out); have HS_2 := hide (HS_1.out.trans hb9); clear hb9; have HM_2 := hide hm9; obtain ⟨gd_2, cd_2, ga_2, ca_2, g1_2, c1_2, c2_2, hB9, hO9⟩ := hm9; have HB_2 := hide hB9; have HO_2 := hide hO9; obtain ⟨t0_2, t1_2, t2_2, t3_2, t4_2, t5_2, t6_2, t7_2, t8_2, t9_2, t10_2, t11_2, t12_2, t13_2, t14_2, t15_2⟩ := hB9.cells; clear t0_2 t1_2 t2_2 t4_2 t5_2 t6_2 t7_2 t8_2 t9_2 t10_2 t11_2 t12_2 t13_2 t14_2 t15_2; have f3_2 := hB9.frozen 3; clear hB9 hO9; clear b0 b1 b2 b3 b4 b5 b6; obtain ⟨b0, b1, b2, b3, b4, b5, b6⟩ := insAt HX_2.out; rw [HOP.out] at b0; rw [HSU.out] at b6) | (go_at_call 41; have z9 := HM_2; refine (mFine _ lo mid hi p g2_2 _ HM_2.out).mono ?_; rintro e9 w9 ⟨rfl, hw⟩; have hw2 := hw.symm; clear hw; subst hw2; rw [hf2]) | (go_at_call 73; refine (HRD _ HM.out).mono ?_; rintro e9 W_1 ⟨rfl, g2_1, hm9, hb9⟩; have HX_1 := hide (hb9.blk HX.out HHB.out HGB.out); have HGB_1 := hide (hb9.ne HX.out.lt HGB.out); have HS_1 := hide (HS.out.trans hb9); clear hb9; have HM_1 := hide hm9; obtain ⟨gd_1, cd_1, ga_1, ca_1, g1_1, c1_1, c2_1, hB9, hO9⟩ := hm9; have HB_1 := hide hB9; have HO_1 := hide hO9; obtain ⟨t0_1, t1_1, t2_1, t3_1, t4_1, t5_1, t6_1, t7_1, t8_1, t9_1, t10_1, t11_1, t12_1, t13_1, t14_1, t15_1⟩ := hB9.cells; clear t0_1 t1_1 t2_1 t4_1 t5_1 t6_1 t7_1 t8_1 t9_1 t10_1 t11_1 t12_1 t13_1 t14_1 t15_1; have f3_1 := hB9.frozen 3; clear hB9 hO9; clear b0 b1 b2 b3 b4 b5 b6; obtain ⟨b0, b1, b2, b3, b4, b5, b6⟩ := insAt HX_1.out; rw [HOP.out] at b0; rw [HSU.out] at b6))
  first | go_end0 | refine bodyPost_ret (results_none rfl _ _ _) rfl ?_
  exact ⟨rfl, g2_2, by rw [E.out]; exact HM_2.out, HS_2.out⟩
theorem mJump (w : World) (lo mid hi p g2 : Nat) (c : Pl.Mc) (x : Pl.In) (t : Int) (h : MAt w lo mid hi p g2 c) (G : Pl.GM c) (B : Pl.InB x) (t0 : 0 ≤ t) (t1 : t ≤ 65535) (hfc : c.fine = true) (ho : (x.op = 13 ∧ x.r ≤ 1) ∨ (x.op = 14 ∧ (x.m = 0 ∨ x.m = 2 ∨ x.m = 3 ∨ x.m = 4 ∨ x.m = 5 ∨ x.m = 6))) :
    Calls Tryz.prog 80 #[.pointer (some ⟨p, 0, none⟩), .agg #[.int .i64 x.op, .int .i64 x.z, .int .i64 x.r, .int .i64 x.m, .int .i64 x.k, .int .i64 x.e, .int .i64 x.s], .int .i64 t] w fun e w' => e = .returned (.tuple #[]) ∧ ∃ g3, MAt w' lo mid hi p g3 (c.jump x t) ∧ Since w lo hi g2 w' g3 := by
  rcases ho with ⟨ho, r1⟩ | ⟨ho, hm⟩
  · cases hb : Pl.tst (x.s + 8 * x.r) c.r.f
    · exact mJump_not w lo mid hi p g2 c x t h G B ho r1 t0 t1 hb
    · exact mJump_yes w lo mid hi p g2 c x t h G B ho r1 t0 t1 hb
  · by_cases hs : x.s = 1
    · cases hf2 : ((c.place 2 x.m x.k x.e).push c.r.p).fine
      · exact mJump_subf w lo mid hi p g2 c x t h G B ho hm hfc hs hf2
      · exact mJump_subt w lo mid hi p g2 c x t h G B ho hm hfc hs hf2
    · exact mJump_go w lo mid hi p g2 c x t h G B ho hm hfc (by simpa using hs)
end Go.Proofs.YtblddehlkaolbaaGreatDoor

namespace Go.Proofs.YtblddehlkaolbaaGreatDoor
open Go.RowKit
set_option linter.unusedVariables false
set_option maxRecDepth 100000 in
set_option maxHeartbeats 4000000 in
theorem mDo_one (w : World) (lo mid hi p g2 : Nat) (c : Pl.Mc) (x : Pl.In) (t : Int) (h : MAt w lo mid hi p g2 c) (G : Pl.GM c) (B : Pl.InB x) (ho : x.op = 11) (hm : x.m = 0 ∨ x.m = 2 ∨ x.m = 3 ∨ x.m = 4 ∨ x.m = 5 ∨ x.m = 6) (hfc : c.fine = true) (hs : x.s = 0 ∨ x.s = 1 ∨ x.s = 2 ∨ x.s = 3) :
    Calls Tryz.prog 43 #[.pointer (some ⟨p, 0, none⟩), .agg #[.int .i64 x.op, .int .i64 x.z, .int .i64 x.r, .int .i64 x.m, .int .i64 x.k, .int .i64 x.e, .int .i64 x.s], .int .i64 t] w fun e w' => e = .returned (.tuple #[]) ∧ ∃ g3, MAt w' lo mid hi p g3 (c.doI x t) ∧ Since w lo hi g2 w' g3 := by
  have HOP := hide ho
  have HC := fun w9 h9 => mOne w9 lo mid hi p g2 c x h9 G B hm hfc hs
  have E : Hid (c.doI x t = c.one x) := hide (by unfold Pl.Mc.doI; rw [HOP.out]; rfl)
  rw [ho] at HC
  clear ho
  have hl := h.lo
  have KA := hide (kept_alloc w (.cells #[.int .i64 x.op, .int .i64 x.z, .int .i64 x.r, .int .i64 x.m, .int .i64 x.k, .int .i64 x.e, .int .i64 x.s] 79))
  have BA : Blk (w.alloc (.cells #[.int .i64 x.op, .int .i64 x.z, .int .i64 x.r, .int .i64 x.m, .int .i64 x.k, .int .i64 x.e, .int .i64 x.s] 79)) w.heap.size (insC x) 79 := Blk.new w #[.int .i64 x.op, .int .i64 x.z, .int .i64 x.r, .int .i64 x.m, .int .i64 x.k, .int .i64 x.e, .int .i64 x.s] 79
  obtain ⟨X, hX⟩ : ∃ X : World, w.alloc (.cells #[.int .i64 x.op, .int .i64 x.z, .int .i64 x.r, .int .i64 x.m, .int .i64 x.k, .int .i64 x.e, .int .i64 x.s] 79) = X := ⟨_, rfl⟩
  rw [hX] at KA BA
  have HX := hide BA
  have hbw := BA.lt
  obtain ⟨b0, b1, b2, b3, b4, b5, b6⟩ := insAt HX.out
  rw [HOP.out] at b0
  have HHB : Hid (hi ≤ w.heap.size) := hide hl.2.2.2.2.2.2
  have HGB : Hid (w.heap.size ≠ g2) := hide (by have := hl.2.2.2.2.2.1; omega)
  have HPH : Hid ((lo ≤ p ∧ p < hi) ∨ w.heap.size ≤ p) := hide (by omega)
  have HPB : Hid (p < w.heap.size) := hide hl.2.2.2.2.1
  have HMH : Hid (mid ≤ hi) := hide (by omega)
  have HS := hide ((Since.refl w lo hi g2).any KA.out)
  have h2 := h.any KA.out
  clear h BA
  have HM := hide h2
  obtain ⟨gd, cd, ga, ca, g1, c1, c2, hB9, hO9⟩ := h2
  have HB := hide hB9
  have HO := hide hO9
  obtain ⟨t0, t1, t2, t3, t4, t5, t6, t7, t8, t9, t10, t11, t12, t13, t14, t15⟩ := hB9.cells
  clear t0 t1 t2 t3 t4 t5 t6 t7 t8 t9 t10 t11 t12 t13 t14 t15
  clear hB9 hO9
  clear G B
  go_enter Tryz.func43, Tryz.ntmps43
  go_wp2_with (go_at_call 77; refine (HC _ HM.out).mono ?_; rintro e9 W_1 ⟨rfl, g2_1, hm9, hb9⟩; have HX_1 := hide (hb9.blk HX.out HHB.out HGB.out); have HGB_1 := hide (hb9.ne HX.out.lt HGB.out); have HS_1 := hide (HS.out.trans hb9); clear hb9; have HM_1 := hide hm9; obtain ⟨gd_1, cd_1, ga_1, ca_1, g1_1, c1_1, c2_1, hB9, hO9⟩ := hm9; have HB_1 := hide hB9; have HO_1 := hide hO9; obtain ⟨t0_1, t1_1, t2_1, t3_1, t4_1, t5_1, t6_1, t7_1, t8_1, t9_1, t10_1, t11_1, t12_1, t13_1, t14_1, t15_1⟩ := hB9.cells; clear t0_1 t1_1 t2_1 t3_1 t4_1 t5_1 t6_1 t7_1 t8_1 t9_1 t10_1 t11_1 t12_1 t13_1 t14_1 t15_1; clear hB9 hO9)
  first | go_end0 | refine bodyPost_ret (results_none rfl _ _ _) rfl ?_
  exact ⟨rfl, g2_1, by rw [E.out]; exact HM_1.out, HS_1.out⟩
set_option maxRecDepth 100000 in
set_option maxHeartbeats 4000000 in
theorem mDo_branch (w : World) (lo mid hi p g2 : Nat) (c : Pl.Mc) (x : Pl.In) (t : Int) (h : MAt w lo mid hi p g2 c) (G : Pl.GM c) (B : Pl.InB x) (ho : x.op = 13) (t0 : 0 ≤ t) (t1 : t ≤ 65535) (hfc : c.fine = true) (r2 : x.r ≤ 1) :
    Calls Tryz.prog 43 #[.pointer (some ⟨p, 0, none⟩), .agg #[.int .i64 x.op, .int .i64 x.z, .int .i64 x.r, .int .i64 x.m, .int .i64 x.k, .int .i64 x.e, .int .i64 x.s], .int .i64 t] w fun e w' => e = .returned (.tuple #[]) ∧ ∃ g3, MAt w' lo mid hi p g3 (c.doI x t) ∧ Since w lo hi g2 w' g3 := by
  have HOP := hide ho
  have HC := fun w9 h9 => mJump w9 lo mid hi p g2 c x t h9 G B t0 t1 hfc (.inl ⟨ho, r2⟩)
  have E : Hid (c.doI x t = c.jump x t) := hide (by unfold Pl.Mc.doI; rw [HOP.out]; rfl)
  rw [ho] at HC
  clear ho
  have hl := h.lo
  have KA := hide (kept_alloc w (.cells #[.int .i64 x.op, .int .i64 x.z, .int .i64 x.r, .int .i64 x.m, .int .i64 x.k, .int .i64 x.e, .int .i64 x.s] 79))
  have BA : Blk (w.alloc (.cells #[.int .i64 x.op, .int .i64 x.z, .int .i64 x.r, .int .i64 x.m, .int .i64 x.k, .int .i64 x.e, .int .i64 x.s] 79)) w.heap.size (insC x) 79 := Blk.new w #[.int .i64 x.op, .int .i64 x.z, .int .i64 x.r, .int .i64 x.m, .int .i64 x.k, .int .i64 x.e, .int .i64 x.s] 79
  obtain ⟨X, hX⟩ : ∃ X : World, w.alloc (.cells #[.int .i64 x.op, .int .i64 x.z, .int .i64 x.r, .int .i64 x.m, .int .i64 x.k, .int .i64 x.e, .int .i64 x.s] 79) = X := ⟨_, rfl⟩
  rw [hX] at KA BA
  have HX := hide BA
  have hbw := BA.lt
  obtain ⟨b0, b1, b2, b3, b4, b5, b6⟩ := insAt HX.out
  rw [HOP.out] at b0
  have HHB : Hid (hi ≤ w.heap.size) := hide hl.2.2.2.2.2.2
  have HGB : Hid (w.heap.size ≠ g2) := hide (by have := hl.2.2.2.2.2.1; omega)
  have HPH : Hid ((lo ≤ p ∧ p < hi) ∨ w.heap.size ≤ p) := hide (by omega)
  have HPB : Hid (p < w.heap.size) := hide hl.2.2.2.2.1
  have HMH : Hid (mid ≤ hi) := hide (by omega)
  have HS := hide ((Since.refl w lo hi g2).any KA.out)
  have h2 := h.any KA.out
  clear h BA
  have HM := hide h2
  obtain ⟨gd, cd, ga, ca, g1, c1, c2, hB9, hO9⟩ := h2
  have HB := hide hB9
  have HO := hide hO9
  obtain ⟨t0, t1, t2, t3, t4, t5, t6, t7, t8, t9, t10, t11, t12, t13, t14, t15⟩ := hB9.cells
  clear t0 t1 t2 t3 t4 t5 t6 t7 t8 t9 t10 t11 t12 t13 t14 t15
  clear hB9 hO9
  clear G B
  go_enter Tryz.func43, Tryz.ntmps43
  go_wp2_with (go_at_call 80; refine (HC _ HM.out).mono ?_; rintro e9 W_1 ⟨rfl, g2_1, hm9, hb9⟩; have HX_1 := hide (hb9.blk HX.out HHB.out HGB.out); have HGB_1 := hide (hb9.ne HX.out.lt HGB.out); have HS_1 := hide (HS.out.trans hb9); clear hb9; have HM_1 := hide hm9; obtain ⟨gd_1, cd_1, ga_1, ca_1, g1_1, c1_1, c2_1, hB9, hO9⟩ := hm9; have HB_1 := hide hB9; have HO_1 := hide hO9; obtain ⟨t0_1, t1_1, t2_1, t3_1, t4_1, t5_1, t6_1, t7_1, t8_1, t9_1, t10_1, t11_1, t12_1, t13_1, t14_1, t15_1⟩ := hB9.cells; clear t0_1 t1_1 t2_1 t3_1 t4_1 t5_1 t6_1 t7_1 t8_1 t9_1 t10_1 t11_1 t12_1 t13_1 t14_1 t15_1; clear hB9 hO9)
  first | go_end0 | refine bodyPost_ret (results_none rfl _ _ _) rfl ?_
  exact ⟨rfl, g2_1, by rw [E.out]; exact HM_1.out, HS_1.out⟩
set_option maxRecDepth 100000 in
set_option maxHeartbeats 4000000 in
theorem mDo_jump (w : World) (lo mid hi p g2 : Nat) (c : Pl.Mc) (x : Pl.In) (t : Int) (h : MAt w lo mid hi p g2 c) (G : Pl.GM c) (B : Pl.InB x) (ho : x.op = 14) (t0 : 0 ≤ t) (t1 : t ≤ 65535) (hfc : c.fine = true) (hm : x.m = 0 ∨ x.m = 2 ∨ x.m = 3 ∨ x.m = 4 ∨ x.m = 5 ∨ x.m = 6) :
    Calls Tryz.prog 43 #[.pointer (some ⟨p, 0, none⟩), .agg #[.int .i64 x.op, .int .i64 x.z, .int .i64 x.r, .int .i64 x.m, .int .i64 x.k, .int .i64 x.e, .int .i64 x.s], .int .i64 t] w fun e w' => e = .returned (.tuple #[]) ∧ ∃ g3, MAt w' lo mid hi p g3 (c.doI x t) ∧ Since w lo hi g2 w' g3 := by
  have HOP := hide ho
  have HC := fun w9 h9 => mJump w9 lo mid hi p g2 c x t h9 G B t0 t1 hfc (.inr ⟨ho, hm⟩)
  have E : Hid (c.doI x t = c.jump x t) := hide (by unfold Pl.Mc.doI; rw [HOP.out]; rfl)
  rw [ho] at HC
  clear ho
  have hl := h.lo
  have KA := hide (kept_alloc w (.cells #[.int .i64 x.op, .int .i64 x.z, .int .i64 x.r, .int .i64 x.m, .int .i64 x.k, .int .i64 x.e, .int .i64 x.s] 79))
  have BA : Blk (w.alloc (.cells #[.int .i64 x.op, .int .i64 x.z, .int .i64 x.r, .int .i64 x.m, .int .i64 x.k, .int .i64 x.e, .int .i64 x.s] 79)) w.heap.size (insC x) 79 := Blk.new w #[.int .i64 x.op, .int .i64 x.z, .int .i64 x.r, .int .i64 x.m, .int .i64 x.k, .int .i64 x.e, .int .i64 x.s] 79
  obtain ⟨X, hX⟩ : ∃ X : World, w.alloc (.cells #[.int .i64 x.op, .int .i64 x.z, .int .i64 x.r, .int .i64 x.m, .int .i64 x.k, .int .i64 x.e, .int .i64 x.s] 79) = X := ⟨_, rfl⟩
  rw [hX] at KA BA
  have HX := hide BA
  have hbw := BA.lt
  obtain ⟨b0, b1, b2, b3, b4, b5, b6⟩ := insAt HX.out
  rw [HOP.out] at b0
  have HHB : Hid (hi ≤ w.heap.size) := hide hl.2.2.2.2.2.2
  have HGB : Hid (w.heap.size ≠ g2) := hide (by have := hl.2.2.2.2.2.1; omega)
  have HPH : Hid ((lo ≤ p ∧ p < hi) ∨ w.heap.size ≤ p) := hide (by omega)
  have HPB : Hid (p < w.heap.size) := hide hl.2.2.2.2.1
  have HMH : Hid (mid ≤ hi) := hide (by omega)
  have HS := hide ((Since.refl w lo hi g2).any KA.out)
  have h2 := h.any KA.out
  clear h BA
  have HM := hide h2
  obtain ⟨gd, cd, ga, ca, g1, c1, c2, hB9, hO9⟩ := h2
  have HB := hide hB9
  have HO := hide hO9
  obtain ⟨t0, t1, t2, t3, t4, t5, t6, t7, t8, t9, t10, t11, t12, t13, t14, t15⟩ := hB9.cells
  clear t0 t1 t2 t3 t4 t5 t6 t7 t8 t9 t10 t11 t12 t13 t14 t15
  clear hB9 hO9
  clear G B
  go_enter Tryz.func43, Tryz.ntmps43
  go_wp2_with (go_at_call 80; refine (HC _ HM.out).mono ?_; rintro e9 W_1 ⟨rfl, g2_1, hm9, hb9⟩; have HX_1 := hide (hb9.blk HX.out HHB.out HGB.out); have HGB_1 := hide (hb9.ne HX.out.lt HGB.out); have HS_1 := hide (HS.out.trans hb9); clear hb9; have HM_1 := hide hm9; obtain ⟨gd_1, cd_1, ga_1, ca_1, g1_1, c1_1, c2_1, hB9, hO9⟩ := hm9; have HB_1 := hide hB9; have HO_1 := hide hO9; obtain ⟨t0_1, t1_1, t2_1, t3_1, t4_1, t5_1, t6_1, t7_1, t8_1, t9_1, t10_1, t11_1, t12_1, t13_1, t14_1, t15_1⟩ := hB9.cells; clear t0_1 t1_1 t2_1 t3_1 t4_1 t5_1 t6_1 t7_1 t8_1 t9_1 t10_1 t11_1 t12_1 t13_1 t14_1 t15_1; clear hB9 hO9)
  first | go_end0 | refine bodyPost_ret (results_none rfl _ _ _) rfl ?_
  exact ⟨rfl, g2_1, by rw [E.out]; exact HM_1.out, HS_1.out⟩
set_option maxRecDepth 100000 in
set_option maxHeartbeats 4000000 in
theorem mDo_flow (w : World) (lo mid hi p g2 : Nat) (c : Pl.Mc) (x : Pl.In) (t : Int) (h : MAt w lo mid hi p g2 c) (G : Pl.GM c) (B : Pl.InB x) (ho : x.op = 15) (s6 : x.s ≤ 6) (e3 : x.s = 3 → x.e ≤ 1023) :
    Calls Tryz.prog 43 #[.pointer (some ⟨p, 0, none⟩), .agg #[.int .i64 x.op, .int .i64 x.z, .int .i64 x.r, .int .i64 x.m, .int .i64 x.k, .int .i64 x.e, .int .i64 x.s], .int .i64 t] w fun e w' => e = .returned (.tuple #[]) ∧ ∃ g3, MAt w' lo mid hi p g3 (c.doI x t) ∧ Since w lo hi g2 w' g3 := by
  have HOP := hide ho
  have HC := fun w9 h9 => mFlow w9 lo mid hi p g2 c x h9 G B s6 e3
  have E : Hid (c.doI x t = c.flow x) := hide (by unfold Pl.Mc.doI; rw [HOP.out]; rfl)
  rw [ho] at HC
  clear ho
  have hl := h.lo
  have KA := hide (kept_alloc w (.cells #[.int .i64 x.op, .int .i64 x.z, .int .i64 x.r, .int .i64 x.m, .int .i64 x.k, .int .i64 x.e, .int .i64 x.s] 79))
  have BA : Blk (w.alloc (.cells #[.int .i64 x.op, .int .i64 x.z, .int .i64 x.r, .int .i64 x.m, .int .i64 x.k, .int .i64 x.e, .int .i64 x.s] 79)) w.heap.size (insC x) 79 := Blk.new w #[.int .i64 x.op, .int .i64 x.z, .int .i64 x.r, .int .i64 x.m, .int .i64 x.k, .int .i64 x.e, .int .i64 x.s] 79
  obtain ⟨X, hX⟩ : ∃ X : World, w.alloc (.cells #[.int .i64 x.op, .int .i64 x.z, .int .i64 x.r, .int .i64 x.m, .int .i64 x.k, .int .i64 x.e, .int .i64 x.s] 79) = X := ⟨_, rfl⟩
  rw [hX] at KA BA
  have HX := hide BA
  have hbw := BA.lt
  obtain ⟨b0, b1, b2, b3, b4, b5, b6⟩ := insAt HX.out
  rw [HOP.out] at b0
  have HHB : Hid (hi ≤ w.heap.size) := hide hl.2.2.2.2.2.2
  have HGB : Hid (w.heap.size ≠ g2) := hide (by have := hl.2.2.2.2.2.1; omega)
  have HPH : Hid ((lo ≤ p ∧ p < hi) ∨ w.heap.size ≤ p) := hide (by omega)
  have HPB : Hid (p < w.heap.size) := hide hl.2.2.2.2.1
  have HMH : Hid (mid ≤ hi) := hide (by omega)
  have HS := hide ((Since.refl w lo hi g2).any KA.out)
  have h2 := h.any KA.out
  clear h BA
  have HM := hide h2
  obtain ⟨gd, cd, ga, ca, g1, c1, c2, hB9, hO9⟩ := h2
  have HB := hide hB9
  have HO := hide hO9
  obtain ⟨t0, t1, t2, t3, t4, t5, t6, t7, t8, t9, t10, t11, t12, t13, t14, t15⟩ := hB9.cells
  clear t0 t1 t2 t3 t4 t5 t6 t7 t8 t9 t10 t11 t12 t13 t14 t15
  clear hB9 hO9
  clear G B
  go_enter Tryz.func43, Tryz.ntmps43
  go_wp2_with (go_at_call 81; refine (HC _ HM.out).mono ?_; rintro e9 W_1 ⟨rfl, g2_1, hm9, hb9⟩; have HX_1 := hide (hb9.blk HX.out HHB.out HGB.out); have HGB_1 := hide (hb9.ne HX.out.lt HGB.out); have HS_1 := hide (HS.out.trans hb9); clear hb9; have HM_1 := hide hm9; obtain ⟨gd_1, cd_1, ga_1, ca_1, g1_1, c1_1, c2_1, hB9, hO9⟩ := hm9; have HB_1 := hide hB9; have HO_1 := hide hO9; obtain ⟨t0_1, t1_1, t2_1, t3_1, t4_1, t5_1, t6_1, t7_1, t8_1, t9_1, t10_1, t11_1, t12_1, t13_1, t14_1, t15_1⟩ := hB9.cells; clear t0_1 t1_1 t2_1 t3_1 t4_1 t5_1 t6_1 t7_1 t8_1 t9_1 t10_1 t11_1 t12_1 t13_1 t14_1 t15_1; clear hB9 hO9)
  first | go_end0 | refine bodyPost_ret (results_none rfl _ _ _) rfl ?_
  exact ⟨rfl, g2_1, by rw [E.out]; exact HM_1.out, HS_1.out⟩
set_option maxRecDepth 100000 in
set_option maxHeartbeats 4000000 in
theorem mDo_prod16 (w : World) (lo mid hi p g2 : Nat) (c : Pl.Mc) (x : Pl.In) (t : Int) (h : MAt w lo mid hi p g2 c) (G : Pl.GM c) (B : Pl.InB x) (ho : x.op = 16) :
    Calls Tryz.prog 43 #[.pointer (some ⟨p, 0, none⟩), .agg #[.int .i64 x.op, .int .i64 x.z, .int .i64 x.r, .int .i64 x.m, .int .i64 x.k, .int .i64 x.e, .int .i64 x.s], .int .i64 t] w fun e w' => e = .returned (.tuple #[]) ∧ ∃ g3, MAt w' lo mid hi p g3 (c.doI x t) ∧ Since w lo hi g2 w' g3 := by
  have HOP := hide ho
  have HC := fun w9 h9 => mProduct w9 lo mid hi p g2 c x h9 G B (.inl ho)
  have E : Hid (c.doI x t = c.product x) := hide (by unfold Pl.Mc.doI; rw [HOP.out]; rfl)
  rw [ho] at HC
  clear ho
  have hl := h.lo
  have KA := hide (kept_alloc w (.cells #[.int .i64 x.op, .int .i64 x.z, .int .i64 x.r, .int .i64 x.m, .int .i64 x.k, .int .i64 x.e, .int .i64 x.s] 79))
  have BA : Blk (w.alloc (.cells #[.int .i64 x.op, .int .i64 x.z, .int .i64 x.r, .int .i64 x.m, .int .i64 x.k, .int .i64 x.e, .int .i64 x.s] 79)) w.heap.size (insC x) 79 := Blk.new w #[.int .i64 x.op, .int .i64 x.z, .int .i64 x.r, .int .i64 x.m, .int .i64 x.k, .int .i64 x.e, .int .i64 x.s] 79
  obtain ⟨X, hX⟩ : ∃ X : World, w.alloc (.cells #[.int .i64 x.op, .int .i64 x.z, .int .i64 x.r, .int .i64 x.m, .int .i64 x.k, .int .i64 x.e, .int .i64 x.s] 79) = X := ⟨_, rfl⟩
  rw [hX] at KA BA
  have HX := hide BA
  have hbw := BA.lt
  obtain ⟨b0, b1, b2, b3, b4, b5, b6⟩ := insAt HX.out
  rw [HOP.out] at b0
  have HHB : Hid (hi ≤ w.heap.size) := hide hl.2.2.2.2.2.2
  have HGB : Hid (w.heap.size ≠ g2) := hide (by have := hl.2.2.2.2.2.1; omega)
  have HPH : Hid ((lo ≤ p ∧ p < hi) ∨ w.heap.size ≤ p) := hide (by omega)
  have HPB : Hid (p < w.heap.size) := hide hl.2.2.2.2.1
  have HMH : Hid (mid ≤ hi) := hide (by omega)
  have HS := hide ((Since.refl w lo hi g2).any KA.out)
  have h2 := h.any KA.out
  clear h BA
  have HM := hide h2
  obtain ⟨gd, cd, ga, ca, g1, c1, c2, hB9, hO9⟩ := h2
  have HB := hide hB9
  have HO := hide hO9
  obtain ⟨t0, t1, t2, t3, t4, t5, t6, t7, t8, t9, t10, t11, t12, t13, t14, t15⟩ := hB9.cells
  clear t0 t1 t2 t3 t4 t5 t6 t7 t8 t9 t10 t11 t12 t13 t14 t15
  clear hB9 hO9
  clear G B
  go_enter Tryz.func43, Tryz.ntmps43
  go_wp2_with (go_at_call 82; refine (HC _ HM.out).mono ?_; rintro e9 W_1 ⟨rfl, g2_1, hm9, hb9⟩; have HX_1 := hide (hb9.blk HX.out HHB.out HGB.out); have HGB_1 := hide (hb9.ne HX.out.lt HGB.out); have HS_1 := hide (HS.out.trans hb9); clear hb9; have HM_1 := hide hm9; obtain ⟨gd_1, cd_1, ga_1, ca_1, g1_1, c1_1, c2_1, hB9, hO9⟩ := hm9; have HB_1 := hide hB9; have HO_1 := hide hO9; obtain ⟨t0_1, t1_1, t2_1, t3_1, t4_1, t5_1, t6_1, t7_1, t8_1, t9_1, t10_1, t11_1, t12_1, t13_1, t14_1, t15_1⟩ := hB9.cells; clear t0_1 t1_1 t2_1 t3_1 t4_1 t5_1 t6_1 t7_1 t8_1 t9_1 t10_1 t11_1 t12_1 t13_1 t14_1 t15_1; clear hB9 hO9)
  first | go_end0 | refine bodyPost_ret (results_none rfl _ _ _) rfl ?_
  exact ⟨rfl, g2_1, by rw [E.out]; exact HM_1.out, HS_1.out⟩
set_option maxRecDepth 100000 in
set_option maxHeartbeats 4000000 in
theorem mDo_prod17 (w : World) (lo mid hi p g2 : Nat) (c : Pl.Mc) (x : Pl.In) (t : Int) (h : MAt w lo mid hi p g2 c) (G : Pl.GM c) (B : Pl.InB x) (ho : x.op = 17) :
    Calls Tryz.prog 43 #[.pointer (some ⟨p, 0, none⟩), .agg #[.int .i64 x.op, .int .i64 x.z, .int .i64 x.r, .int .i64 x.m, .int .i64 x.k, .int .i64 x.e, .int .i64 x.s], .int .i64 t] w fun e w' => e = .returned (.tuple #[]) ∧ ∃ g3, MAt w' lo mid hi p g3 (c.doI x t) ∧ Since w lo hi g2 w' g3 := by
  have HOP := hide ho
  have HC := fun w9 h9 => mProduct w9 lo mid hi p g2 c x h9 G B (.inr ho)
  have E : Hid (c.doI x t = c.product x) := hide (by unfold Pl.Mc.doI; rw [HOP.out]; rfl)
  rw [ho] at HC
  clear ho
  have hl := h.lo
  have KA := hide (kept_alloc w (.cells #[.int .i64 x.op, .int .i64 x.z, .int .i64 x.r, .int .i64 x.m, .int .i64 x.k, .int .i64 x.e, .int .i64 x.s] 79))
  have BA : Blk (w.alloc (.cells #[.int .i64 x.op, .int .i64 x.z, .int .i64 x.r, .int .i64 x.m, .int .i64 x.k, .int .i64 x.e, .int .i64 x.s] 79)) w.heap.size (insC x) 79 := Blk.new w #[.int .i64 x.op, .int .i64 x.z, .int .i64 x.r, .int .i64 x.m, .int .i64 x.k, .int .i64 x.e, .int .i64 x.s] 79
  obtain ⟨X, hX⟩ : ∃ X : World, w.alloc (.cells #[.int .i64 x.op, .int .i64 x.z, .int .i64 x.r, .int .i64 x.m, .int .i64 x.k, .int .i64 x.e, .int .i64 x.s] 79) = X := ⟨_, rfl⟩
  rw [hX] at KA BA
  have HX := hide BA
  have hbw := BA.lt
  obtain ⟨b0, b1, b2, b3, b4, b5, b6⟩ := insAt HX.out
  rw [HOP.out] at b0
  have HHB : Hid (hi ≤ w.heap.size) := hide hl.2.2.2.2.2.2
  have HGB : Hid (w.heap.size ≠ g2) := hide (by have := hl.2.2.2.2.2.1; omega)
  have HPH : Hid ((lo ≤ p ∧ p < hi) ∨ w.heap.size ≤ p) := hide (by omega)
  have HPB : Hid (p < w.heap.size) := hide hl.2.2.2.2.1
  have HMH : Hid (mid ≤ hi) := hide (by omega)
  have HS := hide ((Since.refl w lo hi g2).any KA.out)
  have h2 := h.any KA.out
  clear h BA
  have HM := hide h2
  obtain ⟨gd, cd, ga, ca, g1, c1, c2, hB9, hO9⟩ := h2
  have HB := hide hB9
  have HO := hide hO9
  obtain ⟨t0, t1, t2, t3, t4, t5, t6, t7, t8, t9, t10, t11, t12, t13, t14, t15⟩ := hB9.cells
  clear t0 t1 t2 t3 t4 t5 t6 t7 t8 t9 t10 t11 t12 t13 t14 t15
  clear hB9 hO9
  clear G B
  go_enter Tryz.func43, Tryz.ntmps43
  go_wp2_with (go_at_call 82; refine (HC _ HM.out).mono ?_; rintro e9 W_1 ⟨rfl, g2_1, hm9, hb9⟩; have HX_1 := hide (hb9.blk HX.out HHB.out HGB.out); have HGB_1 := hide (hb9.ne HX.out.lt HGB.out); have HS_1 := hide (HS.out.trans hb9); clear hb9; have HM_1 := hide hm9; obtain ⟨gd_1, cd_1, ga_1, ca_1, g1_1, c1_1, c2_1, hB9, hO9⟩ := hm9; have HB_1 := hide hB9; have HO_1 := hide hO9; obtain ⟨t0_1, t1_1, t2_1, t3_1, t4_1, t5_1, t6_1, t7_1, t8_1, t9_1, t10_1, t11_1, t12_1, t13_1, t14_1, t15_1⟩ := hB9.cells; clear t0_1 t1_1 t2_1 t3_1 t4_1 t5_1 t6_1 t7_1 t8_1 t9_1 t10_1 t11_1 t12_1 t13_1 t14_1 t15_1; clear hB9 hO9)
  first | go_end0 | refine bodyPost_ret (results_none rfl _ _ _) rfl ?_
  exact ⟨rfl, g2_1, by rw [E.out]; exact HM_1.out, HS_1.out⟩
set_option maxRecDepth 100000 in
set_option maxHeartbeats 4000000 in
theorem mDo_bcd (w : World) (lo mid hi p g2 : Nat) (c : Pl.Mc) (x : Pl.In) (t : Int) (h : MAt w lo mid hi p g2 c) (G : Pl.GM c) (B : Pl.InB x) (ho : x.op = 18) :
    Calls Tryz.prog 43 #[.pointer (some ⟨p, 0, none⟩), .agg #[.int .i64 x.op, .int .i64 x.z, .int .i64 x.r, .int .i64 x.m, .int .i64 x.k, .int .i64 x.e, .int .i64 x.s], .int .i64 t] w fun e w' => e = .returned (.tuple #[]) ∧ ∃ g3, MAt w' lo mid hi p g3 (c.doI x t) ∧ Since w lo hi g2 w' g3 := by
  have HOP := hide ho
  have HC := fun w9 h9 => mBcd w9 lo mid hi p g2 c x h9 G B
  have E : Hid (c.doI x t = c.bcdI x) := hide (by unfold Pl.Mc.doI; rw [HOP.out]; rfl)
  rw [ho] at HC
  clear ho
  have hl := h.lo
  have KA := hide (kept_alloc w (.cells #[.int .i64 x.op, .int .i64 x.z, .int .i64 x.r, .int .i64 x.m, .int .i64 x.k, .int .i64 x.e, .int .i64 x.s] 79))
  have BA : Blk (w.alloc (.cells #[.int .i64 x.op, .int .i64 x.z, .int .i64 x.r, .int .i64 x.m, .int .i64 x.k, .int .i64 x.e, .int .i64 x.s] 79)) w.heap.size (insC x) 79 := Blk.new w #[.int .i64 x.op, .int .i64 x.z, .int .i64 x.r, .int .i64 x.m, .int .i64 x.k, .int .i64 x.e, .int .i64 x.s] 79
  obtain ⟨X, hX⟩ : ∃ X : World, w.alloc (.cells #[.int .i64 x.op, .int .i64 x.z, .int .i64 x.r, .int .i64 x.m, .int .i64 x.k, .int .i64 x.e, .int .i64 x.s] 79) = X := ⟨_, rfl⟩
  rw [hX] at KA BA
  have HX := hide BA
  have hbw := BA.lt
  obtain ⟨b0, b1, b2, b3, b4, b5, b6⟩ := insAt HX.out
  rw [HOP.out] at b0
  have HHB : Hid (hi ≤ w.heap.size) := hide hl.2.2.2.2.2.2
  have HGB : Hid (w.heap.size ≠ g2) := hide (by have := hl.2.2.2.2.2.1; omega)
  have HPH : Hid ((lo ≤ p ∧ p < hi) ∨ w.heap.size ≤ p) := hide (by omega)
  have HPB : Hid (p < w.heap.size) := hide hl.2.2.2.2.1
  have HMH : Hid (mid ≤ hi) := hide (by omega)
  have HS := hide ((Since.refl w lo hi g2).any KA.out)
  have h2 := h.any KA.out
  clear h BA
  have HM := hide h2
  obtain ⟨gd, cd, ga, ca, g1, c1, c2, hB9, hO9⟩ := h2
  have HB := hide hB9
  have HO := hide hO9
  obtain ⟨t0, t1, t2, t3, t4, t5, t6, t7, t8, t9, t10, t11, t12, t13, t14, t15⟩ := hB9.cells
  clear t0 t1 t2 t3 t4 t5 t6 t7 t8 t9 t10 t11 t12 t13 t14 t15
  clear hB9 hO9
  clear G B
  go_enter Tryz.func43, Tryz.ntmps43
  go_wp2_with (go_at_call 83; refine (HC _ HM.out).mono ?_; rintro e9 W_1 ⟨rfl, g2_1, hm9, hb9⟩; have HX_1 := hide (hb9.blk HX.out HHB.out HGB.out); have HGB_1 := hide (hb9.ne HX.out.lt HGB.out); have HS_1 := hide (HS.out.trans hb9); clear hb9; have HM_1 := hide hm9; obtain ⟨gd_1, cd_1, ga_1, ca_1, g1_1, c1_1, c2_1, hB9, hO9⟩ := hm9; have HB_1 := hide hB9; have HO_1 := hide hO9; obtain ⟨t0_1, t1_1, t2_1, t3_1, t4_1, t5_1, t6_1, t7_1, t8_1, t9_1, t10_1, t11_1, t12_1, t13_1, t14_1, t15_1⟩ := hB9.cells; clear t0_1 t1_1 t2_1 t3_1 t4_1 t5_1 t6_1 t7_1 t8_1 t9_1 t10_1 t11_1 t12_1 t13_1 t14_1 t15_1; clear hB9 hO9)
  first | go_end0 | refine bodyPost_ret (results_none rfl _ _ _) rfl ?_
  exact ⟨rfl, g2_1, by rw [E.out]; exact HM_1.out, HS_1.out⟩
set_option maxRecDepth 100000 in
set_option maxHeartbeats 4000000 in
theorem mDo_two1 (w : World) (lo mid hi p g2 : Nat) (c : Pl.Mc) (x : Pl.In) (t : Int) (h : MAt w lo mid hi p g2 c) (G : Pl.GM c) (B : Pl.InB x) (ho : x.op = 1) (h1 : x.m = 1 → x.z = 2) :
    Calls Tryz.prog 43 #[.pointer (some ⟨p, 0, none⟩), .agg #[.int .i64 x.op, .int .i64 x.z, .int .i64 x.r, .int .i64 x.m, .int .i64 x.k, .int .i64 x.e, .int .i64 x.s], .int .i64 t] w fun e w' => e = .returned (.tuple #[]) ∧ ∃ g3, MAt w' lo mid hi p g3 (c.doI x t) ∧ Since w lo hi g2 w' g3 := by
  have HOP := hide ho
  have HC := fun w9 h9 => mTwo w9 lo mid hi p g2 c x h9 G B h1 (by rw [ho]; decide)
  have E : Hid (c.doI x t = c.two x) := hide (by unfold Pl.Mc.doI; rw [HOP.out]; rfl)
  rw [ho] at HC
  clear ho
  have hl := h.lo
  have KA := hide (kept_alloc w (.cells #[.int .i64 x.op, .int .i64 x.z, .int .i64 x.r, .int .i64 x.m, .int .i64 x.k, .int .i64 x.e, .int .i64 x.s] 79))
  have BA : Blk (w.alloc (.cells #[.int .i64 x.op, .int .i64 x.z, .int .i64 x.r, .int .i64 x.m, .int .i64 x.k, .int .i64 x.e, .int .i64 x.s] 79)) w.heap.size (insC x) 79 := Blk.new w #[.int .i64 x.op, .int .i64 x.z, .int .i64 x.r, .int .i64 x.m, .int .i64 x.k, .int .i64 x.e, .int .i64 x.s] 79
  obtain ⟨X, hX⟩ : ∃ X : World, w.alloc (.cells #[.int .i64 x.op, .int .i64 x.z, .int .i64 x.r, .int .i64 x.m, .int .i64 x.k, .int .i64 x.e, .int .i64 x.s] 79) = X := ⟨_, rfl⟩
  rw [hX] at KA BA
  have HX := hide BA
  have hbw := BA.lt
  obtain ⟨b0, b1, b2, b3, b4, b5, b6⟩ := insAt HX.out
  rw [HOP.out] at b0
  have HHB : Hid (hi ≤ w.heap.size) := hide hl.2.2.2.2.2.2
  have HGB : Hid (w.heap.size ≠ g2) := hide (by have := hl.2.2.2.2.2.1; omega)
  have HPH : Hid ((lo ≤ p ∧ p < hi) ∨ w.heap.size ≤ p) := hide (by omega)
  have HPB : Hid (p < w.heap.size) := hide hl.2.2.2.2.1
  have HMH : Hid (mid ≤ hi) := hide (by omega)
  have HS := hide ((Since.refl w lo hi g2).any KA.out)
  have h2 := h.any KA.out
  clear h BA
  have HM := hide h2
  obtain ⟨gd, cd, ga, ca, g1, c1, c2, hB9, hO9⟩ := h2
  have HB := hide hB9
  have HO := hide hO9
  obtain ⟨t0, t1, t2, t3, t4, t5, t6, t7, t8, t9, t10, t11, t12, t13, t14, t15⟩ := hB9.cells
  clear t0 t1 t2 t3 t4 t5 t6 t7 t8 t9 t10 t11 t12 t13 t14 t15
  clear hB9 hO9
  clear G B
  go_enter Tryz.func43, Tryz.ntmps43
  go_wp2_with (go_at_call 86; refine (HC _ HM.out).mono ?_; rintro e9 W_1 ⟨rfl, g2_1, hm9, hb9⟩; have HX_1 := hide (hb9.blk HX.out HHB.out HGB.out); have HGB_1 := hide (hb9.ne HX.out.lt HGB.out); have HS_1 := hide (HS.out.trans hb9); clear hb9; have HM_1 := hide hm9; obtain ⟨gd_1, cd_1, ga_1, ca_1, g1_1, c1_1, c2_1, hB9, hO9⟩ := hm9; have HB_1 := hide hB9; have HO_1 := hide hO9; obtain ⟨t0_1, t1_1, t2_1, t3_1, t4_1, t5_1, t6_1, t7_1, t8_1, t9_1, t10_1, t11_1, t12_1, t13_1, t14_1, t15_1⟩ := hB9.cells; clear t0_1 t1_1 t2_1 t3_1 t4_1 t5_1 t6_1 t7_1 t8_1 t9_1 t10_1 t11_1 t12_1 t13_1 t14_1 t15_1; clear hB9 hO9)
  first | go_end0 | refine bodyPost_ret (results_none rfl _ _ _) rfl ?_
  exact ⟨rfl, g2_1, by rw [E.out]; exact HM_1.out, HS_1.out⟩
set_option maxRecDepth 100000 in
set_option maxHeartbeats 4000000 in
theorem mDo_two3 (w : World) (lo mid hi p g2 : Nat) (c : Pl.Mc) (x : Pl.In) (t : Int) (h : MAt w lo mid hi p g2 c) (G : Pl.GM c) (B : Pl.InB x) (ho : x.op = 3) (h1 : x.m = 1 → x.z = 2) :
    Calls Tryz.prog 43 #[.pointer (some ⟨p, 0, none⟩), .agg #[.int .i64 x.op, .int .i64 x.z, .int .i64 x.r, .int .i64 x.m, .int .i64 x.k, .int .i64 x.e, .int .i64 x.s], .int .i64 t] w fun e w' => e = .returned (.tuple #[]) ∧ ∃ g3, MAt w' lo mid hi p g3 (c.doI x t) ∧ Since w lo hi g2 w' g3 := by
  have HOP := hide ho
  have HC := fun w9 h9 => mTwo w9 lo mid hi p g2 c x h9 G B h1 (by rw [ho]; decide)
  have E : Hid (c.doI x t = c.two x) := hide (by unfold Pl.Mc.doI; rw [HOP.out]; rfl)
  rw [ho] at HC
  clear ho
  have hl := h.lo
  have KA := hide (kept_alloc w (.cells #[.int .i64 x.op, .int .i64 x.z, .int .i64 x.r, .int .i64 x.m, .int .i64 x.k, .int .i64 x.e, .int .i64 x.s] 79))
  have BA : Blk (w.alloc (.cells #[.int .i64 x.op, .int .i64 x.z, .int .i64 x.r, .int .i64 x.m, .int .i64 x.k, .int .i64 x.e, .int .i64 x.s] 79)) w.heap.size (insC x) 79 := Blk.new w #[.int .i64 x.op, .int .i64 x.z, .int .i64 x.r, .int .i64 x.m, .int .i64 x.k, .int .i64 x.e, .int .i64 x.s] 79
  obtain ⟨X, hX⟩ : ∃ X : World, w.alloc (.cells #[.int .i64 x.op, .int .i64 x.z, .int .i64 x.r, .int .i64 x.m, .int .i64 x.k, .int .i64 x.e, .int .i64 x.s] 79) = X := ⟨_, rfl⟩
  rw [hX] at KA BA
  have HX := hide BA
  have hbw := BA.lt
  obtain ⟨b0, b1, b2, b3, b4, b5, b6⟩ := insAt HX.out
  rw [HOP.out] at b0
  have HHB : Hid (hi ≤ w.heap.size) := hide hl.2.2.2.2.2.2
  have HGB : Hid (w.heap.size ≠ g2) := hide (by have := hl.2.2.2.2.2.1; omega)
  have HPH : Hid ((lo ≤ p ∧ p < hi) ∨ w.heap.size ≤ p) := hide (by omega)
  have HPB : Hid (p < w.heap.size) := hide hl.2.2.2.2.1
  have HMH : Hid (mid ≤ hi) := hide (by omega)
  have HS := hide ((Since.refl w lo hi g2).any KA.out)
  have h2 := h.any KA.out
  clear h BA
  have HM := hide h2
  obtain ⟨gd, cd, ga, ca, g1, c1, c2, hB9, hO9⟩ := h2
  have HB := hide hB9
  have HO := hide hO9
  obtain ⟨t0, t1, t2, t3, t4, t5, t6, t7, t8, t9, t10, t11, t12, t13, t14, t15⟩ := hB9.cells
  clear t0 t1 t2 t3 t4 t5 t6 t7 t8 t9 t10 t11 t12 t13 t14 t15
  clear hB9 hO9
  clear G B
  go_enter Tryz.func43, Tryz.ntmps43
  go_wp2_with (go_at_call 86; refine (HC _ HM.out).mono ?_; rintro e9 W_1 ⟨rfl, g2_1, hm9, hb9⟩; have HX_1 := hide (hb9.blk HX.out HHB.out HGB.out); have HGB_1 := hide (hb9.ne HX.out.lt HGB.out); have HS_1 := hide (HS.out.trans hb9); clear hb9; have HM_1 := hide hm9; obtain ⟨gd_1, cd_1, ga_1, ca_1, g1_1, c1_1, c2_1, hB9, hO9⟩ := hm9; have HB_1 := hide hB9; have HO_1 := hide hO9; obtain ⟨t0_1, t1_1, t2_1, t3_1, t4_1, t5_1, t6_1, t7_1, t8_1, t9_1, t10_1, t11_1, t12_1, t13_1, t14_1, t15_1⟩ := hB9.cells; clear t0_1 t1_1 t2_1 t3_1 t4_1 t5_1 t6_1 t7_1 t8_1 t9_1 t10_1 t11_1 t12_1 t13_1 t14_1 t15_1; clear hB9 hO9)
  first | go_end0 | refine bodyPost_ret (results_none rfl _ _ _) rfl ?_
  exact ⟨rfl, g2_1, by rw [E.out]; exact HM_1.out, HS_1.out⟩
set_option maxRecDepth 100000 in
set_option maxHeartbeats 4000000 in
theorem mDo_two4 (w : World) (lo mid hi p g2 : Nat) (c : Pl.Mc) (x : Pl.In) (t : Int) (h : MAt w lo mid hi p g2 c) (G : Pl.GM c) (B : Pl.InB x) (ho : x.op = 4) (h1 : x.m = 1 → x.z = 2) :
    Calls Tryz.prog 43 #[.pointer (some ⟨p, 0, none⟩), .agg #[.int .i64 x.op, .int .i64 x.z, .int .i64 x.r, .int .i64 x.m, .int .i64 x.k, .int .i64 x.e, .int .i64 x.s], .int .i64 t] w fun e w' => e = .returned (.tuple #[]) ∧ ∃ g3, MAt w' lo mid hi p g3 (c.doI x t) ∧ Since w lo hi g2 w' g3 := by
  have HOP := hide ho
  have HC := fun w9 h9 => mTwo w9 lo mid hi p g2 c x h9 G B h1 (by rw [ho]; decide)
  have E : Hid (c.doI x t = c.two x) := hide (by unfold Pl.Mc.doI; rw [HOP.out]; rfl)
  rw [ho] at HC
  clear ho
  have hl := h.lo
  have KA := hide (kept_alloc w (.cells #[.int .i64 x.op, .int .i64 x.z, .int .i64 x.r, .int .i64 x.m, .int .i64 x.k, .int .i64 x.e, .int .i64 x.s] 79))
  have BA : Blk (w.alloc (.cells #[.int .i64 x.op, .int .i64 x.z, .int .i64 x.r, .int .i64 x.m, .int .i64 x.k, .int .i64 x.e, .int .i64 x.s] 79)) w.heap.size (insC x) 79 := Blk.new w #[.int .i64 x.op, .int .i64 x.z, .int .i64 x.r, .int .i64 x.m, .int .i64 x.k, .int .i64 x.e, .int .i64 x.s] 79
  obtain ⟨X, hX⟩ : ∃ X : World, w.alloc (.cells #[.int .i64 x.op, .int .i64 x.z, .int .i64 x.r, .int .i64 x.m, .int .i64 x.k, .int .i64 x.e, .int .i64 x.s] 79) = X := ⟨_, rfl⟩
  rw [hX] at KA BA
  have HX := hide BA
  have hbw := BA.lt
  obtain ⟨b0, b1, b2, b3, b4, b5, b6⟩ := insAt HX.out
  rw [HOP.out] at b0
  have HHB : Hid (hi ≤ w.heap.size) := hide hl.2.2.2.2.2.2
  have HGB : Hid (w.heap.size ≠ g2) := hide (by have := hl.2.2.2.2.2.1; omega)
  have HPH : Hid ((lo ≤ p ∧ p < hi) ∨ w.heap.size ≤ p) := hide (by omega)
  have HPB : Hid (p < w.heap.size) := hide hl.2.2.2.2.1
  have HMH : Hid (mid ≤ hi) := hide (by omega)
  have HS := hide ((Since.refl w lo hi g2).any KA.out)
  have h2 := h.any KA.out
  clear h BA
  have HM := hide h2
  obtain ⟨gd, cd, ga, ca, g1, c1, c2, hB9, hO9⟩ := h2
  have HB := hide hB9
  have HO := hide hO9
  obtain ⟨t0, t1, t2, t3, t4, t5, t6, t7, t8, t9, t10, t11, t12, t13, t14, t15⟩ := hB9.cells
  clear t0 t1 t2 t3 t4 t5 t6 t7 t8 t9 t10 t11 t12 t13 t14 t15
  clear hB9 hO9
  clear G B
  go_enter Tryz.func43, Tryz.ntmps43
  go_wp2_with (go_at_call 86; refine (HC _ HM.out).mono ?_; rintro e9 W_1 ⟨rfl, g2_1, hm9, hb9⟩; have HX_1 := hide (hb9.blk HX.out HHB.out HGB.out); have HGB_1 := hide (hb9.ne HX.out.lt HGB.out); have HS_1 := hide (HS.out.trans hb9); clear hb9; have HM_1 := hide hm9; obtain ⟨gd_1, cd_1, ga_1, ca_1, g1_1, c1_1, c2_1, hB9, hO9⟩ := hm9; have HB_1 := hide hB9; have HO_1 := hide hO9; obtain ⟨t0_1, t1_1, t2_1, t3_1, t4_1, t5_1, t6_1, t7_1, t8_1, t9_1, t10_1, t11_1, t12_1, t13_1, t14_1, t15_1⟩ := hB9.cells; clear t0_1 t1_1 t2_1 t3_1 t4_1 t5_1 t6_1 t7_1 t8_1 t9_1 t10_1 t11_1 t12_1 t13_1 t14_1 t15_1; clear hB9 hO9)
  first | go_end0 | refine bodyPost_ret (results_none rfl _ _ _) rfl ?_
  exact ⟨rfl, g2_1, by rw [E.out]; exact HM_1.out, HS_1.out⟩
set_option maxRecDepth 100000 in
set_option maxHeartbeats 4000000 in
theorem mDo_two5 (w : World) (lo mid hi p g2 : Nat) (c : Pl.Mc) (x : Pl.In) (t : Int) (h : MAt w lo mid hi p g2 c) (G : Pl.GM c) (B : Pl.InB x) (ho : x.op = 5) (h1 : x.m = 1 → x.z = 2) :
    Calls Tryz.prog 43 #[.pointer (some ⟨p, 0, none⟩), .agg #[.int .i64 x.op, .int .i64 x.z, .int .i64 x.r, .int .i64 x.m, .int .i64 x.k, .int .i64 x.e, .int .i64 x.s], .int .i64 t] w fun e w' => e = .returned (.tuple #[]) ∧ ∃ g3, MAt w' lo mid hi p g3 (c.doI x t) ∧ Since w lo hi g2 w' g3 := by
  have HOP := hide ho
  have HC := fun w9 h9 => mTwo w9 lo mid hi p g2 c x h9 G B h1 (by rw [ho]; decide)
  have E : Hid (c.doI x t = c.two x) := hide (by unfold Pl.Mc.doI; rw [HOP.out]; rfl)
  rw [ho] at HC
  clear ho
  have hl := h.lo
  have KA := hide (kept_alloc w (.cells #[.int .i64 x.op, .int .i64 x.z, .int .i64 x.r, .int .i64 x.m, .int .i64 x.k, .int .i64 x.e, .int .i64 x.s] 79))
  have BA : Blk (w.alloc (.cells #[.int .i64 x.op, .int .i64 x.z, .int .i64 x.r, .int .i64 x.m, .int .i64 x.k, .int .i64 x.e, .int .i64 x.s] 79)) w.heap.size (insC x) 79 := Blk.new w #[.int .i64 x.op, .int .i64 x.z, .int .i64 x.r, .int .i64 x.m, .int .i64 x.k, .int .i64 x.e, .int .i64 x.s] 79
  obtain ⟨X, hX⟩ : ∃ X : World, w.alloc (.cells #[.int .i64 x.op, .int .i64 x.z, .int .i64 x.r, .int .i64 x.m, .int .i64 x.k, .int .i64 x.e, .int .i64 x.s] 79) = X := ⟨_, rfl⟩
  rw [hX] at KA BA
  have HX := hide BA
  have hbw := BA.lt
  obtain ⟨b0, b1, b2, b3, b4, b5, b6⟩ := insAt HX.out
  rw [HOP.out] at b0
  have HHB : Hid (hi ≤ w.heap.size) := hide hl.2.2.2.2.2.2
  have HGB : Hid (w.heap.size ≠ g2) := hide (by have := hl.2.2.2.2.2.1; omega)
  have HPH : Hid ((lo ≤ p ∧ p < hi) ∨ w.heap.size ≤ p) := hide (by omega)
  have HPB : Hid (p < w.heap.size) := hide hl.2.2.2.2.1
  have HMH : Hid (mid ≤ hi) := hide (by omega)
  have HS := hide ((Since.refl w lo hi g2).any KA.out)
  have h2 := h.any KA.out
  clear h BA
  have HM := hide h2
  obtain ⟨gd, cd, ga, ca, g1, c1, c2, hB9, hO9⟩ := h2
  have HB := hide hB9
  have HO := hide hO9
  obtain ⟨t0, t1, t2, t3, t4, t5, t6, t7, t8, t9, t10, t11, t12, t13, t14, t15⟩ := hB9.cells
  clear t0 t1 t2 t3 t4 t5 t6 t7 t8 t9 t10 t11 t12 t13 t14 t15
  clear hB9 hO9
  clear G B
  go_enter Tryz.func43, Tryz.ntmps43
  go_wp2_with (go_at_call 86; refine (HC _ HM.out).mono ?_; rintro e9 W_1 ⟨rfl, g2_1, hm9, hb9⟩; have HX_1 := hide (hb9.blk HX.out HHB.out HGB.out); have HGB_1 := hide (hb9.ne HX.out.lt HGB.out); have HS_1 := hide (HS.out.trans hb9); clear hb9; have HM_1 := hide hm9; obtain ⟨gd_1, cd_1, ga_1, ca_1, g1_1, c1_1, c2_1, hB9, hO9⟩ := hm9; have HB_1 := hide hB9; have HO_1 := hide hO9; obtain ⟨t0_1, t1_1, t2_1, t3_1, t4_1, t5_1, t6_1, t7_1, t8_1, t9_1, t10_1, t11_1, t12_1, t13_1, t14_1, t15_1⟩ := hB9.cells; clear t0_1 t1_1 t2_1 t3_1 t4_1 t5_1 t6_1 t7_1 t8_1 t9_1 t10_1 t11_1 t12_1 t13_1 t14_1 t15_1; clear hB9 hO9)
  first | go_end0 | refine bodyPost_ret (results_none rfl _ _ _) rfl ?_
  exact ⟨rfl, g2_1, by rw [E.out]; exact HM_1.out, HS_1.out⟩
set_option maxRecDepth 100000 in
set_option maxHeartbeats 4000000 in
theorem mDo_two6 (w : World) (lo mid hi p g2 : Nat) (c : Pl.Mc) (x : Pl.In) (t : Int) (h : MAt w lo mid hi p g2 c) (G : Pl.GM c) (B : Pl.InB x) (ho : x.op = 6) (h1 : x.m = 1 → x.z = 2) :
    Calls Tryz.prog 43 #[.pointer (some ⟨p, 0, none⟩), .agg #[.int .i64 x.op, .int .i64 x.z, .int .i64 x.r, .int .i64 x.m, .int .i64 x.k, .int .i64 x.e, .int .i64 x.s], .int .i64 t] w fun e w' => e = .returned (.tuple #[]) ∧ ∃ g3, MAt w' lo mid hi p g3 (c.doI x t) ∧ Since w lo hi g2 w' g3 := by
  have HOP := hide ho
  have HC := fun w9 h9 => mTwo w9 lo mid hi p g2 c x h9 G B h1 (by rw [ho]; decide)
  have E : Hid (c.doI x t = c.two x) := hide (by unfold Pl.Mc.doI; rw [HOP.out]; rfl)
  rw [ho] at HC
  clear ho
  have hl := h.lo
  have KA := hide (kept_alloc w (.cells #[.int .i64 x.op, .int .i64 x.z, .int .i64 x.r, .int .i64 x.m, .int .i64 x.k, .int .i64 x.e, .int .i64 x.s] 79))
  have BA : Blk (w.alloc (.cells #[.int .i64 x.op, .int .i64 x.z, .int .i64 x.r, .int .i64 x.m, .int .i64 x.k, .int .i64 x.e, .int .i64 x.s] 79)) w.heap.size (insC x) 79 := Blk.new w #[.int .i64 x.op, .int .i64 x.z, .int .i64 x.r, .int .i64 x.m, .int .i64 x.k, .int .i64 x.e, .int .i64 x.s] 79
  obtain ⟨X, hX⟩ : ∃ X : World, w.alloc (.cells #[.int .i64 x.op, .int .i64 x.z, .int .i64 x.r, .int .i64 x.m, .int .i64 x.k, .int .i64 x.e, .int .i64 x.s] 79) = X := ⟨_, rfl⟩
  rw [hX] at KA BA
  have HX := hide BA
  have hbw := BA.lt
  obtain ⟨b0, b1, b2, b3, b4, b5, b6⟩ := insAt HX.out
  rw [HOP.out] at b0
  have HHB : Hid (hi ≤ w.heap.size) := hide hl.2.2.2.2.2.2
  have HGB : Hid (w.heap.size ≠ g2) := hide (by have := hl.2.2.2.2.2.1; omega)
  have HPH : Hid ((lo ≤ p ∧ p < hi) ∨ w.heap.size ≤ p) := hide (by omega)
  have HPB : Hid (p < w.heap.size) := hide hl.2.2.2.2.1
  have HMH : Hid (mid ≤ hi) := hide (by omega)
  have HS := hide ((Since.refl w lo hi g2).any KA.out)
  have h2 := h.any KA.out
  clear h BA
  have HM := hide h2
  obtain ⟨gd, cd, ga, ca, g1, c1, c2, hB9, hO9⟩ := h2
  have HB := hide hB9
  have HO := hide hO9
  obtain ⟨t0, t1, t2, t3, t4, t5, t6, t7, t8, t9, t10, t11, t12, t13, t14, t15⟩ := hB9.cells
  clear t0 t1 t2 t3 t4 t5 t6 t7 t8 t9 t10 t11 t12 t13 t14 t15
  clear hB9 hO9
  clear G B
  go_enter Tryz.func43, Tryz.ntmps43
  go_wp2_with (go_at_call 86; refine (HC _ HM.out).mono ?_; rintro e9 W_1 ⟨rfl, g2_1, hm9, hb9⟩; have HX_1 := hide (hb9.blk HX.out HHB.out HGB.out); have HGB_1 := hide (hb9.ne HX.out.lt HGB.out); have HS_1 := hide (HS.out.trans hb9); clear hb9; have HM_1 := hide hm9; obtain ⟨gd_1, cd_1, ga_1, ca_1, g1_1, c1_1, c2_1, hB9, hO9⟩ := hm9; have HB_1 := hide hB9; have HO_1 := hide hO9; obtain ⟨t0_1, t1_1, t2_1, t3_1, t4_1, t5_1, t6_1, t7_1, t8_1, t9_1, t10_1, t11_1, t12_1, t13_1, t14_1, t15_1⟩ := hB9.cells; clear t0_1 t1_1 t2_1 t3_1 t4_1 t5_1 t6_1 t7_1 t8_1 t9_1 t10_1 t11_1 t12_1 t13_1 t14_1 t15_1; clear hB9 hO9)
  first | go_end0 | refine bodyPost_ret (results_none rfl _ _ _) rfl ?_
  exact ⟨rfl, g2_1, by rw [E.out]; exact HM_1.out, HS_1.out⟩
set_option maxRecDepth 100000 in
set_option maxHeartbeats 4000000 in
theorem mDo_two7 (w : World) (lo mid hi p g2 : Nat) (c : Pl.Mc) (x : Pl.In) (t : Int) (h : MAt w lo mid hi p g2 c) (G : Pl.GM c) (B : Pl.InB x) (ho : x.op = 7) (h1 : x.m = 1 → x.z = 2) :
    Calls Tryz.prog 43 #[.pointer (some ⟨p, 0, none⟩), .agg #[.int .i64 x.op, .int .i64 x.z, .int .i64 x.r, .int .i64 x.m, .int .i64 x.k, .int .i64 x.e, .int .i64 x.s], .int .i64 t] w fun e w' => e = .returned (.tuple #[]) ∧ ∃ g3, MAt w' lo mid hi p g3 (c.doI x t) ∧ Since w lo hi g2 w' g3 := by
  have HOP := hide ho
  have HC := fun w9 h9 => mTwo w9 lo mid hi p g2 c x h9 G B h1 (by rw [ho]; decide)
  have E : Hid (c.doI x t = c.two x) := hide (by unfold Pl.Mc.doI; rw [HOP.out]; rfl)
  rw [ho] at HC
  clear ho
  have hl := h.lo
  have KA := hide (kept_alloc w (.cells #[.int .i64 x.op, .int .i64 x.z, .int .i64 x.r, .int .i64 x.m, .int .i64 x.k, .int .i64 x.e, .int .i64 x.s] 79))
  have BA : Blk (w.alloc (.cells #[.int .i64 x.op, .int .i64 x.z, .int .i64 x.r, .int .i64 x.m, .int .i64 x.k, .int .i64 x.e, .int .i64 x.s] 79)) w.heap.size (insC x) 79 := Blk.new w #[.int .i64 x.op, .int .i64 x.z, .int .i64 x.r, .int .i64 x.m, .int .i64 x.k, .int .i64 x.e, .int .i64 x.s] 79
  obtain ⟨X, hX⟩ : ∃ X : World, w.alloc (.cells #[.int .i64 x.op, .int .i64 x.z, .int .i64 x.r, .int .i64 x.m, .int .i64 x.k, .int .i64 x.e, .int .i64 x.s] 79) = X := ⟨_, rfl⟩
  rw [hX] at KA BA
  have HX := hide BA
  have hbw := BA.lt
  obtain ⟨b0, b1, b2, b3, b4, b5, b6⟩ := insAt HX.out
  rw [HOP.out] at b0
  have HHB : Hid (hi ≤ w.heap.size) := hide hl.2.2.2.2.2.2
  have HGB : Hid (w.heap.size ≠ g2) := hide (by have := hl.2.2.2.2.2.1; omega)
  have HPH : Hid ((lo ≤ p ∧ p < hi) ∨ w.heap.size ≤ p) := hide (by omega)
  have HPB : Hid (p < w.heap.size) := hide hl.2.2.2.2.1
  have HMH : Hid (mid ≤ hi) := hide (by omega)
  have HS := hide ((Since.refl w lo hi g2).any KA.out)
  have h2 := h.any KA.out
  clear h BA
  have HM := hide h2
  obtain ⟨gd, cd, ga, ca, g1, c1, c2, hB9, hO9⟩ := h2
  have HB := hide hB9
  have HO := hide hO9
  obtain ⟨t0, t1, t2, t3, t4, t5, t6, t7, t8, t9, t10, t11, t12, t13, t14, t15⟩ := hB9.cells
  clear t0 t1 t2 t3 t4 t5 t6 t7 t8 t9 t10 t11 t12 t13 t14 t15
  clear hB9 hO9
  clear G B
  go_enter Tryz.func43, Tryz.ntmps43
  go_wp2_with (go_at_call 86; refine (HC _ HM.out).mono ?_; rintro e9 W_1 ⟨rfl, g2_1, hm9, hb9⟩; have HX_1 := hide (hb9.blk HX.out HHB.out HGB.out); have HGB_1 := hide (hb9.ne HX.out.lt HGB.out); have HS_1 := hide (HS.out.trans hb9); clear hb9; have HM_1 := hide hm9; obtain ⟨gd_1, cd_1, ga_1, ca_1, g1_1, c1_1, c2_1, hB9, hO9⟩ := hm9; have HB_1 := hide hB9; have HO_1 := hide hO9; obtain ⟨t0_1, t1_1, t2_1, t3_1, t4_1, t5_1, t6_1, t7_1, t8_1, t9_1, t10_1, t11_1, t12_1, t13_1, t14_1, t15_1⟩ := hB9.cells; clear t0_1 t1_1 t2_1 t3_1 t4_1 t5_1 t6_1 t7_1 t8_1 t9_1 t10_1 t11_1 t12_1 t13_1 t14_1 t15_1; clear hB9 hO9)
  first | go_end0 | refine bodyPost_ret (results_none rfl _ _ _) rfl ?_
  exact ⟨rfl, g2_1, by rw [E.out]; exact HM_1.out, HS_1.out⟩
set_option maxRecDepth 100000 in
set_option maxHeartbeats 4000000 in
theorem mDo_two8 (w : World) (lo mid hi p g2 : Nat) (c : Pl.Mc) (x : Pl.In) (t : Int) (h : MAt w lo mid hi p g2 c) (G : Pl.GM c) (B : Pl.InB x) (ho : x.op = 8) (h1 : x.m = 1 → x.z = 2) :
    Calls Tryz.prog 43 #[.pointer (some ⟨p, 0, none⟩), .agg #[.int .i64 x.op, .int .i64 x.z, .int .i64 x.r, .int .i64 x.m, .int .i64 x.k, .int .i64 x.e, .int .i64 x.s], .int .i64 t] w fun e w' => e = .returned (.tuple #[]) ∧ ∃ g3, MAt w' lo mid hi p g3 (c.doI x t) ∧ Since w lo hi g2 w' g3 := by
  have HOP := hide ho
  have HC := fun w9 h9 => mTwo w9 lo mid hi p g2 c x h9 G B h1 (by rw [ho]; decide)
  have E : Hid (c.doI x t = c.two x) := hide (by unfold Pl.Mc.doI; rw [HOP.out]; rfl)
  rw [ho] at HC
  clear ho
  have hl := h.lo
  have KA := hide (kept_alloc w (.cells #[.int .i64 x.op, .int .i64 x.z, .int .i64 x.r, .int .i64 x.m, .int .i64 x.k, .int .i64 x.e, .int .i64 x.s] 79))
  have BA : Blk (w.alloc (.cells #[.int .i64 x.op, .int .i64 x.z, .int .i64 x.r, .int .i64 x.m, .int .i64 x.k, .int .i64 x.e, .int .i64 x.s] 79)) w.heap.size (insC x) 79 := Blk.new w #[.int .i64 x.op, .int .i64 x.z, .int .i64 x.r, .int .i64 x.m, .int .i64 x.k, .int .i64 x.e, .int .i64 x.s] 79
  obtain ⟨X, hX⟩ : ∃ X : World, w.alloc (.cells #[.int .i64 x.op, .int .i64 x.z, .int .i64 x.r, .int .i64 x.m, .int .i64 x.k, .int .i64 x.e, .int .i64 x.s] 79) = X := ⟨_, rfl⟩
  rw [hX] at KA BA
  have HX := hide BA
  have hbw := BA.lt
  obtain ⟨b0, b1, b2, b3, b4, b5, b6⟩ := insAt HX.out
  rw [HOP.out] at b0
  have HHB : Hid (hi ≤ w.heap.size) := hide hl.2.2.2.2.2.2
  have HGB : Hid (w.heap.size ≠ g2) := hide (by have := hl.2.2.2.2.2.1; omega)
  have HPH : Hid ((lo ≤ p ∧ p < hi) ∨ w.heap.size ≤ p) := hide (by omega)
  have HPB : Hid (p < w.heap.size) := hide hl.2.2.2.2.1
  have HMH : Hid (mid ≤ hi) := hide (by omega)
  have HS := hide ((Since.refl w lo hi g2).any KA.out)
  have h2 := h.any KA.out
  clear h BA
  have HM := hide h2
  obtain ⟨gd, cd, ga, ca, g1, c1, c2, hB9, hO9⟩ := h2
  have HB := hide hB9
  have HO := hide hO9
  obtain ⟨t0, t1, t2, t3, t4, t5, t6, t7, t8, t9, t10, t11, t12, t13, t14, t15⟩ := hB9.cells
  clear t0 t1 t2 t3 t4 t5 t6 t7 t8 t9 t10 t11 t12 t13 t14 t15
  clear hB9 hO9
  clear G B
  go_enter Tryz.func43, Tryz.ntmps43
  go_wp2_with (go_at_call 86; refine (HC _ HM.out).mono ?_; rintro e9 W_1 ⟨rfl, g2_1, hm9, hb9⟩; have HX_1 := hide (hb9.blk HX.out HHB.out HGB.out); have HGB_1 := hide (hb9.ne HX.out.lt HGB.out); have HS_1 := hide (HS.out.trans hb9); clear hb9; have HM_1 := hide hm9; obtain ⟨gd_1, cd_1, ga_1, ca_1, g1_1, c1_1, c2_1, hB9, hO9⟩ := hm9; have HB_1 := hide hB9; have HO_1 := hide hO9; obtain ⟨t0_1, t1_1, t2_1, t3_1, t4_1, t5_1, t6_1, t7_1, t8_1, t9_1, t10_1, t11_1, t12_1, t13_1, t14_1, t15_1⟩ := hB9.cells; clear t0_1 t1_1 t2_1 t3_1 t4_1 t5_1 t6_1 t7_1 t8_1 t9_1 t10_1 t11_1 t12_1 t13_1 t14_1 t15_1; clear hB9 hO9)
  first | go_end0 | refine bodyPost_ret (results_none rfl _ _ _) rfl ?_
  exact ⟨rfl, g2_1, by rw [E.out]; exact HM_1.out, HS_1.out⟩
end Go.Proofs.YtblddehlkaolbaaGreatDoor

namespace Go.Proofs.YtblddehlkaolbaaGreatDoor
open Go.RowKit
set_option linter.unusedVariables false
set_option maxRecDepth 100000 in
set_option maxHeartbeats 8000000 in
theorem mDo_addr_no (w : World) (lo mid hi p g2 : Nat) (c : Pl.Mc) (x : Pl.In) (t : Int) (h : MAt w lo mid hi p g2 c) (G : Pl.GM c) (B : Pl.InB x) (ho : x.op = 9) (hf : (c.read 2 x.m x.k x.e).fine = false) :
    Calls Tryz.prog 43 #[.pointer (some ⟨p, 0, none⟩), .agg #[.int .i64 x.op, .int .i64 x.z, .int .i64 x.r, .int .i64 x.m, .int .i64 x.k, .int .i64 x.e, .int .i64 x.s], .int .i64 t] w fun e w' => e = .returned (.tuple #[]) ∧ ∃ g3, MAt w' lo mid hi p g3 (c.doI x t) ∧ Since w lo hi g2 w' g3 := by
  have HG := hide G
  have HI := hide B
  have HOP := hide ho
  clear ho
  have hl := h.lo
  have KA := hide (kept_alloc w (.cells #[.int .i64 x.op, .int .i64 x.z, .int .i64 x.r, .int .i64 x.m, .int .i64 x.k, .int .i64 x.e, .int .i64 x.s] 79))
  have BA : Blk (w.alloc (.cells #[.int .i64 x.op, .int .i64 x.z, .int .i64 x.r, .int .i64 x.m, .int .i64 x.k, .int .i64 x.e, .int .i64 x.s] 79)) w.heap.size (insC x) 79 := Blk.new w #[.int .i64 x.op, .int .i64 x.z, .int .i64 x.r, .int .i64 x.m, .int .i64 x.k, .int .i64 x.e, .int .i64 x.s] 79
  obtain ⟨X, hX⟩ : ∃ X : World, w.alloc (.cells #[.int .i64 x.op, .int .i64 x.z, .int .i64 x.r, .int .i64 x.m, .int .i64 x.k, .int .i64 x.e, .int .i64 x.s] 79) = X := ⟨_, rfl⟩
  rw [hX] at KA BA
  have HX := hide BA
  have hbw := BA.lt
  obtain ⟨b0, b1, b2, b3, b4, b5, b6⟩ := insAt HX.out
  rw [HOP.out] at b0
  have HHB : Hid (hi ≤ w.heap.size) := hide hl.2.2.2.2.2.2
  have HGB : Hid (w.heap.size ≠ g2) := hide (by have := hl.2.2.2.2.2.1; omega)
  have HPH : Hid ((lo ≤ p ∧ p < hi) ∨ w.heap.size ≤ p) := hide (by omega)
  have HPB : Hid (p < w.heap.size) := hide hl.2.2.2.2.1
  have HMH : Hid (mid ≤ hi) := hide (by omega)
  have HS := hide ((Since.refl w lo hi g2).any KA.out)
  have h2 := h.any KA.out
  clear h BA
  have HM := hide h2
  obtain ⟨gd, cd, ga, ca, g1, c1, c2, hB9, hO9⟩ := h2
  have HB := hide hB9
  have HO := hide hO9
  obtain ⟨t0, t1, t2, t3, t4, t5, t6, t7, t8, t9, t10, t11, t12, t13, t14, t15⟩ := hB9.cells
  clear t0 t1 t2 t3 t4 t5 t6 t7 t8 t9 t10 t11 t12 t13 t14 t15
  clear hB9 hO9
  clear G B
  have r0 := HI.out.r0
  have r1 := HI.out.r1
  have r4 : x.r < 4 := by omega
  have HR4 : Hid (x.r.toNat < 4) := hide (by omega)
  have E : Hid (c.doI x t = c.read 2 x.m x.k x.e) := hide (by unfold Pl.Mc.doI; rw [HOP.out, hf]; rfl)
  have HG1 := hide (HG.out.read (z := 2) (m := x.m) (.inr rfl) HI.out.k0 HI.out.k1 HI.out.e0 HI.out.e1)
  have HRD := fun w9 h9 => mRead w9 lo mid hi p g2 c 2 x.m x.k x.e h9 HG.out (.inr rfl) HI.out.k0 HI.out.k1 HI.out.e0 HI.out.e1 HI.out.m0 HI.out.m1
  obtain ⟨d, hd⟩ : ∃ d, c.read 2 x.m x.k x.e = d := ⟨_, rfl⟩
  obtain ⟨v, hv⟩ : ∃ v, c.readV 2 x.m x.k x.e = v := ⟨_, rfl⟩
  rw [hd] at hf HG1
  first | rw [hd, hv] at E | rw [hd] at E
  simp only [hd, hv] at HRD
  clear hd hv
  go_enter Tryz.func43, Tryz.ntmps43
  go_wp2_with (first | (go_at_call 72; refine (HRD _ HM.out).mono ?_; rintro e9 W_1 ⟨rfl, g2_1, hm9, hb9⟩; have HX_1 := hide (hb9.blk HX.out HHB.out HGB.out); have HGB_1 := hide (hb9.ne HX.out.lt HGB.out); have HS_1 := hide (HS.out.trans hb9); clear hb9; have HM_1 := hide hm9; obtain ⟨gd_1, cd_1, ga_1, ca_1, g1_1, c1_1, c2_1, hB9, hO9⟩ := hm9; have HB_1 := hide hB9; have HO_1 := hide hO9; obtain ⟨t0_1, t1_1, t2_1, t3_1, t4_1, t5_1, t6_1, t7_1, t8_1, t9_1, t10_1, t11_1, t12_1, t13_1, t14_1, t15_1⟩ := hB9.cells; clear t0_1 t1_1 t2_1 t3_1 t4_1 t5_1 t6_1 t7_1 t8_1 t9_1 t10_1 t11_1 t12_1 t13_1 t14_1 t15_1; clear hB9 hO9; clear b0 b1 b2 b3 b4 b5 b6; obtain ⟨b0, b1, b2, b3, b4, b5, b6⟩ := insAt HX_1.out; rw [HOP.out] at b0) | (go_at_call 41; refine (mFine _ lo mid hi p g2_1 _ HM_1.out).mono ?_; rintro e9 w9 ⟨rfl, hw⟩; have hw2 := hw.symm; clear hw; subst hw2; rw [hf]))
  first | go_end0 | refine bodyPost_ret (results_none rfl _ _ _) rfl ?_
  exact ⟨rfl, g2_1, by rw [E.out]; exact HM_1.out, HS_1.out⟩
set_option maxRecDepth 100000 in
set_option maxHeartbeats 8000000 in
theorem mDo_addr (w : World) (lo mid hi p g2 : Nat) (c : Pl.Mc) (x : Pl.In) (t : Int) (h : MAt w lo mid hi p g2 c) (G : Pl.GM c) (B : Pl.InB x) (ho : x.op = 9) (hf : (c.read 2 x.m x.k x.e).fine = true) :
    Calls Tryz.prog 43 #[.pointer (some ⟨p, 0, none⟩), .agg #[.int .i64 x.op, .int .i64 x.z, .int .i64 x.r, .int .i64 x.m, .int .i64 x.k, .int .i64 x.e, .int .i64 x.s], .int .i64 t] w fun e w' => e = .returned (.tuple #[]) ∧ ∃ g3, MAt w' lo mid hi p g3 (c.doI x t) ∧ Since w lo hi g2 w' g3 := by
  have HG := hide G
  have HI := hide B
  have HOP := hide ho
  clear ho
  have hl := h.lo
  have KA := hide (kept_alloc w (.cells #[.int .i64 x.op, .int .i64 x.z, .int .i64 x.r, .int .i64 x.m, .int .i64 x.k, .int .i64 x.e, .int .i64 x.s] 79))
  have BA : Blk (w.alloc (.cells #[.int .i64 x.op, .int .i64 x.z, .int .i64 x.r, .int .i64 x.m, .int .i64 x.k, .int .i64 x.e, .int .i64 x.s] 79)) w.heap.size (insC x) 79 := Blk.new w #[.int .i64 x.op, .int .i64 x.z, .int .i64 x.r, .int .i64 x.m, .int .i64 x.k, .int .i64 x.e, .int .i64 x.s] 79
  obtain ⟨X, hX⟩ : ∃ X : World, w.alloc (.cells #[.int .i64 x.op, .int .i64 x.z, .int .i64 x.r, .int .i64 x.m, .int .i64 x.k, .int .i64 x.e, .int .i64 x.s] 79) = X := ⟨_, rfl⟩
  rw [hX] at KA BA
  have HX := hide BA
  have hbw := BA.lt
  obtain ⟨b0, b1, b2, b3, b4, b5, b6⟩ := insAt HX.out
  rw [HOP.out] at b0
  have HHB : Hid (hi ≤ w.heap.size) := hide hl.2.2.2.2.2.2
  have HGB : Hid (w.heap.size ≠ g2) := hide (by have := hl.2.2.2.2.2.1; omega)
  have HPH : Hid ((lo ≤ p ∧ p < hi) ∨ w.heap.size ≤ p) := hide (by omega)
  have HPB : Hid (p < w.heap.size) := hide hl.2.2.2.2.1
  have HMH : Hid (mid ≤ hi) := hide (by omega)
  have HS := hide ((Since.refl w lo hi g2).any KA.out)
  have h2 := h.any KA.out
  clear h BA
  have HM := hide h2
  obtain ⟨gd, cd, ga, ca, g1, c1, c2, hB9, hO9⟩ := h2
  have HB := hide hB9
  have HO := hide hO9
  obtain ⟨t0, t1, t2, t3, t4, t5, t6, t7, t8, t9, t10, t11, t12, t13, t14, t15⟩ := hB9.cells
  clear t0 t1 t2 t3 t4 t5 t6 t7 t8 t9 t10 t11 t12 t13 t14 t15
  clear hB9 hO9
  clear G B
  have r0 := HI.out.r0
  have r1 := HI.out.r1
  have r4 : x.r < 4 := by omega
  have HR4 : Hid (x.r.toNat < 4) := hide (by omega)
  have E : Hid (c.doI x t = (c.read 2 x.m x.k x.e).setA x.r.toNat (c.readV 2 x.m x.k x.e)) := hide (by unfold Pl.Mc.doI; rw [HOP.out, hf]; rfl)
  have HG1 := hide (HG.out.read (z := 2) (m := x.m) (.inr rfl) HI.out.k0 HI.out.k1 HI.out.e0 HI.out.e1)
  have HRD := fun w9 h9 => mRead w9 lo mid hi p g2 c 2 x.m x.k x.e h9 HG.out (.inr rfl) HI.out.k0 HI.out.k1 HI.out.e0 HI.out.e1 HI.out.m0 HI.out.m1
  obtain ⟨d, hd⟩ : ∃ d, c.read 2 x.m x.k x.e = d := ⟨_, rfl⟩
  obtain ⟨v, hv⟩ : ∃ v, c.readV 2 x.m x.k x.e = v := ⟨_, rfl⟩
  rw [hd] at hf HG1
  first | rw [hd, hv] at E | rw [hd] at E
  simp only [hd, hv] at HRD
  clear hd hv
  go_enter Tryz.func43, Tryz.ntmps43
  go_wp2_with (first | (go_at_call 72; refine (HRD _ HM.out).mono ?_; rintro e9 W_1 ⟨rfl, g2_1, hm9, hb9⟩; have HX_1 := hide (hb9.blk HX.out HHB.out HGB.out); have HGB_1 := hide (hb9.ne HX.out.lt HGB.out); have HS_1 := hide (HS.out.trans hb9); clear hb9; have HM_1 := hide hm9; obtain ⟨gd_1, cd_1, ga_1, ca_1, g1_1, c1_1, c2_1, hB9, hO9⟩ := hm9; have HB_1 := hide hB9; have HO_1 := hide hO9; obtain ⟨t0_1, t1_1, t2_1, t3_1, t4_1, t5_1, t6_1, t7_1, t8_1, t9_1, t10_1, t11_1, t12_1, t13_1, t14_1, t15_1⟩ := hB9.cells; clear t0_1 t2_1 t3_1 t4_1 t5_1 t6_1 t7_1 t8_1 t9_1 t10_1 t11_1 t12_1 t13_1 t14_1 t15_1; clear hB9 hO9; clear b0 b1 b2 b3 b4 b5 b6; obtain ⟨b0, b1, b2, b3, b4, b5, b6⟩ := insAt HX_1.out; rw [HOP.out] at b0; obtain ⟨hc9, hf9⟩ := elAt HO_1.out.a x.r.toNat (by rw [HG1.out.g.a4]; exact HR4.out)) | (go_at_call 41; refine (mFine _ lo mid hi p g2_1 _ HM_1.out).mono ?_; rintro e9 w9 ⟨rfl, hw⟩; have hw2 := hw.symm; clear hw; subst hw2; rw [hf]))
  go_region
  go_wp2_with fail
  first | go_end0 | refine bodyPost_ret (results_none rfl _ _ _) rfl ?_
  have q0 := HO_1.out.a0
  have q1 := HO_1.out.a1
  have q2 := HO_1.out.p0
  have q3 := HO_1.out.p1
  refine ⟨rfl, g2_1, MAt.drew ?_, (HS_1.out.set _ _ _ (.inl (by omega))).drew⟩
  rw [E.out]
  exact ⟨gd_1, cd_1, ga_1, ca_1, g1_1, c1_1, c2_1, HB_1.out.otherD _ _ _ (by omega), HO_1.out.setA _ _⟩
set_option maxRecDepth 100000 in
set_option maxHeartbeats 8000000 in
theorem mDo_lea (w : World) (lo mid hi p g2 : Nat) (c : Pl.Mc) (x : Pl.In) (t : Int) (h : MAt w lo mid hi p g2 c) (G : Pl.GM c) (B : Pl.InB x) (ho : x.op = 10) (hm : x.m = 0 ∨ x.m = 2 ∨ x.m = 3 ∨ x.m = 4 ∨ x.m = 5 ∨ x.m = 6) :
    Calls Tryz.prog 43 #[.pointer (some ⟨p, 0, none⟩), .agg #[.int .i64 x.op, .int .i64 x.z, .int .i64 x.r, .int .i64 x.m, .int .i64 x.k, .int .i64 x.e, .int .i64 x.s], .int .i64 t] w fun e w' => e = .returned (.tuple #[]) ∧ ∃ g3, MAt w' lo mid hi p g3 (c.doI x t) ∧ Since w lo hi g2 w' g3 := by
  have HG := hide G
  have HI := hide B
  have HOP := hide ho
  clear ho
  have hl := h.lo
  have KA := hide (kept_alloc w (.cells #[.int .i64 x.op, .int .i64 x.z, .int .i64 x.r, .int .i64 x.m, .int .i64 x.k, .int .i64 x.e, .int .i64 x.s] 79))
  have BA : Blk (w.alloc (.cells #[.int .i64 x.op, .int .i64 x.z, .int .i64 x.r, .int .i64 x.m, .int .i64 x.k, .int .i64 x.e, .int .i64 x.s] 79)) w.heap.size (insC x) 79 := Blk.new w #[.int .i64 x.op, .int .i64 x.z, .int .i64 x.r, .int .i64 x.m, .int .i64 x.k, .int .i64 x.e, .int .i64 x.s] 79
  obtain ⟨X, hX⟩ : ∃ X : World, w.alloc (.cells #[.int .i64 x.op, .int .i64 x.z, .int .i64 x.r, .int .i64 x.m, .int .i64 x.k, .int .i64 x.e, .int .i64 x.s] 79) = X := ⟨_, rfl⟩
  rw [hX] at KA BA
  have HX := hide BA
  have hbw := BA.lt
  obtain ⟨b0, b1, b2, b3, b4, b5, b6⟩ := insAt HX.out
  rw [HOP.out] at b0
  have HHB : Hid (hi ≤ w.heap.size) := hide hl.2.2.2.2.2.2
  have HGB : Hid (w.heap.size ≠ g2) := hide (by have := hl.2.2.2.2.2.1; omega)
  have HPH : Hid ((lo ≤ p ∧ p < hi) ∨ w.heap.size ≤ p) := hide (by omega)
  have HPB : Hid (p < w.heap.size) := hide hl.2.2.2.2.1
  have HMH : Hid (mid ≤ hi) := hide (by omega)
  have HS := hide ((Since.refl w lo hi g2).any KA.out)
  have h2 := h.any KA.out
  clear h BA
  have HM := hide h2
  obtain ⟨gd, cd, ga, ca, g1, c1, c2, hB9, hO9⟩ := h2
  have HB := hide hB9
  have HO := hide hO9
  obtain ⟨t0, t1, t2, t3, t4, t5, t6, t7, t8, t9, t10, t11, t12, t13, t14, t15⟩ := hB9.cells
  clear t0 t1 t2 t3 t4 t5 t6 t7 t8 t9 t10 t11 t12 t13 t14 t15
  clear hB9 hO9
  clear G B
  have r0 := HI.out.r0
  have r1 := HI.out.r1
  have r4 : x.r < 4 := by omega
  have HR4 : Hid (x.r.toNat < 4) := hide (by omega)
  have E : Hid (c.doI x t = (c.place 2 x.m x.k x.e).setA x.r.toNat (c.plcA 2 x.m x.k x.e)) := hide (by unfold Pl.Mc.doI; rw [HOP.out]; rfl)
  have HG1 := hide (HG.out.place (z := 2) (m := x.m) (e := x.e) HI.out.k0 HI.out.k1)
  have HRD := fun w9 h9 => mPlace w9 lo mid hi p g2 c 2 x.m x.k x.e h9 HG.out HI.out.k0 HI.out.k1 HI.out.e0 HI.out.e1 hm
  obtain ⟨d, hd⟩ : ∃ d, c.place 2 x.m x.k x.e = d := ⟨_, rfl⟩
  obtain ⟨a, hA⟩ : ∃ a, c.plcA 2 x.m x.k x.e = a := ⟨_, rfl⟩
  rw [hd] at HG1
  rw [hd, hA] at E
  simp only [hd, hA] at HRD
  clear hd hA hm
  go_enter Tryz.func43, Tryz.ntmps43
  go_wp2_with (go_at_call 73; refine (HRD _ HM.out).mono ?_; rintro e9 W_1 ⟨rfl, g2_1, hm9, hb9⟩; have HX_1 := hide (hb9.blk HX.out HHB.out HGB.out); have HGB_1 := hide (hb9.ne HX.out.lt HGB.out); have HS_1 := hide (HS.out.trans hb9); clear hb9; have HM_1 := hide hm9; obtain ⟨gd_1, cd_1, ga_1, ca_1, g1_1, c1_1, c2_1, hB9, hO9⟩ := hm9; have HB_1 := hide hB9; have HO_1 := hide hO9; obtain ⟨t0_1, t1_1, t2_1, t3_1, t4_1, t5_1, t6_1, t7_1, t8_1, t9_1, t10_1, t11_1, t12_1, t13_1, t14_1, t15_1⟩ := hB9.cells; clear t0_1 t2_1 t3_1 t4_1 t5_1 t6_1 t7_1 t8_1 t9_1 t10_1 t11_1 t12_1 t13_1 t14_1 t15_1; clear hB9 hO9; clear b0 b1 b2 b3 b4 b5 b6; obtain ⟨b0, b1, b2, b3, b4, b5, b6⟩ := insAt HX_1.out; rw [HOP.out] at b0; obtain ⟨hc9, hf9⟩ := elAt HO_1.out.a x.r.toNat (by rw [HG1.out.g.a4]; exact HR4.out))
  go_region
  go_wp2_with fail
  first | go_end0 | refine bodyPost_ret (results_none rfl _ _ _) rfl ?_
  have q0 := HO_1.out.a0
  have q1 := HO_1.out.a1
  have q2 := HO_1.out.p0
  have q3 := HO_1.out.p1
  refine ⟨rfl, g2_1, MAt.drew ?_, (HS_1.out.set _ _ _ (.inl (by omega))).drew⟩
  rw [E.out]
  exact ⟨gd_1, cd_1, ga_1, ca_1, g1_1, c1_1, c2_1, HB_1.out.otherD _ _ _ (by omega), HO_1.out.setA _ _⟩
theorem status4 (w : World) (gd cd ga ca : Nat) (r : Pl.Rg) (hg : Pl.Good r) : Calls Tryz.prog 85 #[regV r gd cd ga ca] w fun e w' => e = .returned (.int .i64 (Pl.status r)) ∧ Kept 0 0 w w' := by
  have h := specStatus w r (some ⟨gd, 0, none⟩) (some ⟨ga, 0, none⟩) cd ca hg
  rw [hg.d4, hg.a4] at h
  exact h
set_option maxRecDepth 100000 in
set_option maxHeartbeats 8000000 in
theorem mDo_stat1 (w : World) (lo mid hi p g2 : Nat) (c : Pl.Mc) (x : Pl.In) (t : Int) (h : MAt w lo mid hi p g2 c) (G : Pl.GM c) (B : Pl.InB x) (ho : x.op = 19) (hs : x.s = 1) :
    Calls Tryz.prog 43 #[.pointer (some ⟨p, 0, none⟩), .agg #[.int .i64 x.op, .int .i64 x.z, .int .i64 x.r, .int .i64 x.m, .int .i64 x.k, .int .i64 x.e, .int .i64 x.s], .int .i64 t] w fun e w' => e = .returned (.tuple #[]) ∧ ∃ g3, MAt w' lo mid hi p g3 (c.doI x t) ∧ Since w lo hi g2 w' g3 := by
  have HG := hide G
  have HI := hide B
  have HOP := hide ho
  have HSU := hide hs
  clear hs
  clear ho
  have hl := h.lo
  have KA := hide (kept_alloc w (.cells #[.int .i64 x.op, .int .i64 x.z, .int .i64 x.r, .int .i64 x.m, .int .i64 x.k, .int .i64 x.e, .int .i64 x.s] 79))
  have BA : Blk (w.alloc (.cells #[.int .i64 x.op, .int .i64 x.z, .int .i64 x.r, .int .i64 x.m, .int .i64 x.k, .int .i64 x.e, .int .i64 x.s] 79)) w.heap.size (insC x) 79 := Blk.new w #[.int .i64 x.op, .int .i64 x.z, .int .i64 x.r, .int .i64 x.m, .int .i64 x.k, .int .i64 x.e, .int .i64 x.s] 79
  obtain ⟨X, hX⟩ : ∃ X : World, w.alloc (.cells #[.int .i64 x.op, .int .i64 x.z, .int .i64 x.r, .int .i64 x.m, .int .i64 x.k, .int .i64 x.e, .int .i64 x.s] 79) = X := ⟨_, rfl⟩
  rw [hX] at KA BA
  have HX := hide BA
  have hbw := BA.lt
  obtain ⟨b0, b1, b2, b3, b4, b5, b6⟩ := insAt HX.out
  rw [HOP.out] at b0
  rw [HSU.out] at b6
  have HHB : Hid (hi ≤ w.heap.size) := hide hl.2.2.2.2.2.2
  have HGB : Hid (w.heap.size ≠ g2) := hide (by have := hl.2.2.2.2.2.1; omega)
  have HPH : Hid ((lo ≤ p ∧ p < hi) ∨ w.heap.size ≤ p) := hide (by omega)
  have HPB : Hid (p < w.heap.size) := hide hl.2.2.2.2.1
  have HMH : Hid (mid ≤ hi) := hide (by omega)
  have HS := hide ((Since.refl w lo hi g2).any KA.out)
  have h2 := h.any KA.out
  clear h BA
  have HM := hide h2
  obtain ⟨gd, cd, ga, ca, g1, c1, c2, hB9, hO9⟩ := h2
  have HB := hide hB9
  have HO := hide hO9
  obtain ⟨t0, t1, t2, t3, t4, t5, t6, t7, t8, t9, t10, t11, t12, t13, t14, t15⟩ := hB9.cells
  clear t0 t1 t2 t3 t4 t5 t6 t7 t8 t9 t10 t11 t12 t13 t14 t15
  clear hB9 hO9
  clear G B
  have r0 := HI.out.r0
  have r1 := HI.out.r1
  have r4 : x.r < 4 := by omega
  have HR4 : Hid (x.r.toNat < 4) := hide (by omega)
  have E : Hid (c.doI x t = c.setR { c.r with xs := c.r.xs.set x.r.toNat (Pl.status c.r) }) := hide (by unfold Pl.Mc.doI Pl.Mc.stat; rw [HOP.out, HSU.out]; rfl)
  have HST := fun w9 => status4 w9 gd cd ga ca c.r HG.out.g
  simp only [regV] at HST
  obtain ⟨V, hV⟩ : ∃ V, Pl.status c.r = V := ⟨_, rfl⟩
  rw [hV] at E
  simp only [hV] at HST
  clear hV
  have KD := hide (kept_drew (Kept.refl 0 0 X))
  have S1D := cellsS (HB.out.any KD.out) (HX.out.kept0 KD.out)
  go_enter Tryz.func43, Tryz.ntmps43
  go_wp2_with fail
  go_region_held3 (fun w' => w'.cell? ⟨p, 0, none⟩ = some (.slice (some ⟨gd, 0, none⟩) 4 cd) ∧ w'.cell? ⟨p, 1, none⟩ = some (.slice (some ⟨ga, 0, none⟩) 4 ca) ∧ w'.cell? ⟨p, 2, none⟩ = some (.int .i64 c.r.o) ∧ w'.cell? ⟨p, 3, none⟩ = some (.int .i64 c.r.p) ∧ w'.cell? ⟨p, 4, none⟩ = some (.int .i64 c.r.f) ∧ w'.cell? ⟨p, 5, none⟩ = some (.int .i64 c.r.m) ∧ w'.cell? ⟨p, 6, none⟩ = some (.bool c.r.s) ∧ w'.cell? ⟨p, 7, none⟩ = some (.bool c.r.t) ∧ w'.cell? ⟨w.heap.size, 1, none⟩ = some (.int .i64 x.z) ∧ w'.cell? ⟨w.heap.size, 2, none⟩ = some (.int .i64 x.r)) (first | with_reducible exact S1D | with_reducible exact cellsS HB_2.out HX_2.out | exact cellsS (HB_2.out.otherD _ _ _ HPG.out) (HX_2.out.other _ _ _ HBG.out) | go_keep) (first | (go_at_call 85; refine (HST _).mono ?_; rintro e9 W_2 ⟨rfl, hk9⟩; have K2 := hide ((kept_drew (Kept.refl 0 0 X)).trans hk9); clear hk9; have HB_2 := hide (HB.out.any K2.out); have HO_2 := hide (HO.out.any K2.out); have HX_2 := hide (HX.out.kept0 K2.out); have HS_2 := hide (HS.out.any K2.out); obtain ⟨hc9, hf9⟩ := elAt HO_2.out.d x.r.toNat (by rw [HG.out.g.d4]; exact HR4.out); have HPG : Hid (p ≠ gd) := hide (by have := HO_2.out.d1; have := HO_2.out.p0; omega); have HBG : Hid (w.heap.size ≠ gd) := hide (by have := HO_2.out.d1; have := HHB.out; have := HMH.out; omega)))
  go_wp2_with fail
  first | go_end0 | refine bodyPost_ret (results_none rfl _ _ _) rfl ?_
  have q0 := HO_2.out.d0
  have q1 := HO_2.out.d1
  have q2 := HO_2.out.p0
  have q3 := HO_2.out.p1
  refine ⟨rfl, g2, ?_, HS_2.out.set _ _ _ (.inl (by omega))⟩
  rw [E.out]
  exact ⟨gd, cd, ga, ca, g1, c1, c2, HB_2.out.otherD _ _ _ (by omega), HO_2.out.setD _ _⟩
end Go.Proofs.YtblddehlkaolbaaGreatDoor

