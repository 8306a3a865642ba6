/- What the model's step reads of an operand. The bits of an instruction's words, in numbers. What the small models of chapter 7 answer. -/
import Derived.Test.YtblddehlkaolbaaGreatDoorJA8
import Derived.Test.YtblddehlkaolbaaGreatDoorJA2
import Derived.Test.YtblddehlkaolbaaGreatDoorJA3
namespace Go.Proofs.YtblddehlkaolbaaGreatDoor
open Go.RowKit
set_option linter.unusedVariables false
theorem Pl.ask_at {z a : Int} (hz : z = 1 ∨ z = 2) (h0 : 0 ≤ a) (h1 : a ≤ 65535) : Pl.askOk 1 z a 0 = true := by
  rcases hz with rfl | rfl <;> simp [Pl.askOk, Pl.accKind, Pl.okv, Pl.top, Pl.addr] <;> omega
set_option maxHeartbeats 4000000 in
theorem mReadMem (w : World) (lo mid hi p g2 : Nat) (c : Pl.Mc) (z m k x : Int) (h : MAt w lo mid hi p g2 c) (G : Pl.GM c) (hz : z = 1 ∨ z = 2) (k0 : 0 ≤ k) (k1 : k ≤ 3) (x0 : 0 ≤ x) (x1 : x ≤ 65535) (hm2 : m = 2 ∨ m = 3 ∨ m = 4 ∨ m = 5 ∨ m = 6) :
    Calls Tryz.prog 72 #[.pointer (some ⟨p, 0, none⟩), .int .i64 z, .agg #[.int .i64 m, .int .i64 k, .int .i64 x]] w fun e w' => e = .returned (.tuple #[.int .i64 (c.readV z m k x), .int .i64 (c.readA z m k x)]) ∧ ∃ g3, MAt w' lo mid hi p g3 (c.read z m k x) ∧ Since w lo hi g2 w' g3 := by
  have hl := h.lo
  have q0 : (m == 0) = false := by simp; omega
  have q1 : (m == 1) = false := by simp; omega
  have q7 : (m == 7) = false := by simp; omega
  have HG := hide G
  have KA := hide (kept_alloc w (.cells #[.int .i64 m, .int .i64 k, .int .i64 x] 77))
  have BA := Blk.new w #[.int .i64 m, .int .i64 k, .int .i64 x] 77
  obtain ⟨X, hX⟩ : ∃ X : World, w.alloc (.cells #[.int .i64 m, .int .i64 k, .int .i64 x] 77) = X := ⟨_, rfl⟩
  rw [hX] at KA BA
  have b0 := BA.cell (i := 0) rfl
  have b1 := BA.cell (i := 1) rfl
  have b2 := BA.cell (i := 2) rfl
  have hbw := BA.lt
  have h2 := h.any KA.out
  have hl2 := h2.lo
  clear h BA
  have HM := hide h2
  obtain ⟨gd, cd, ga, ca, g1, c1, c2, hB9, hO9⟩ := h2
  have HB := hide hB9
  have HO := hide hO9
  obtain ⟨t0, t1, t2, t3, t4, t5, t6, t7, t8, t9, t10, t11, t12, t13, t14, t15⟩ := hB9.cells
  clear t8 t9 t10 t11 t12 t13 t14 t15
  have f0 := hB9.frozen 0
  have f1 := hB9.frozen 1
  have f2 := hB9.frozen 2
  have f3 := hB9.frozen 3
  have f4 := hB9.frozen 4
  have f5 := hB9.frozen 5
  have f6 := hB9.frozen 6
  have f7 := hB9.frozen 7
  clear hB9 hO9
  have hp := HO.out.p0
  have hd := HO.out.d0
  have hd1 := HO.out.d1
  have hs := HB.out.lt
  have HMH : Hid (mid ≤ hi) := hide (by have := HO.out.p1; omega)
  have HPH : Hid (lo ≤ p ∧ p < hi) := hide (by have := HO.out.p1; omega)
  have HRD := hide (MO.reg (r := c.r) (HO.out.any (kept_drew (Kept.refl 0 0 X))))
  have HOD := hide (HO.out.any (kept_drew (Kept.refl 0 0 X)))
  have HBD := hide (HB.out.any (kept_drew (Kept.refl 0 0 X)))
  have HMD : Hid (mid ≤ X.drew.heap.size) := hide hl2.2.1
  have KZ : Kept 0 0 X (X.drew.alloc (.cells #[.slice none 0 0, .slice none 0 0, .int .i64 0, .int .i64 0, .int .i64 0, .int .i64 0, .bool false, .bool false] 31)) := kept_new (kept_drew (Kept.refl 0 0 X)) _
  have HRZ := hide (MO.reg (r := c.r) (HO.out.any KZ))
  have HOZ := hide (HO.out.any KZ)
  have HBZ := hide (HB.out.any KZ)
  have HMZ : Hid (mid ≤ (X.drew.alloc (.cells #[.slice none 0 0, .slice none 0 0, .int .i64 0, .int .i64 0, .int .i64 0, .int .i64 0, .bool false, .bool false] 31)).heap.size) := hide (by rw [World.size_alloc]; exact Nat.le_trans hl2.2.1 (Nat.le_succ _))
  have BZ : Hid (Blk (X.drew.alloc (.cells #[.slice none 0 0, .slice none 0 0, .int .i64 0, .int .i64 0, .int .i64 0, .int .i64 0, .bool false, .bool false] 31)) X.heap.size #[.slice none 0 0, .slice none 0 0, .int .i64 0, .int .i64 0, .int .i64 0, .int .i64 0, .bool false, .bool false] 31) := hide (Blk.new X.drew #[.slice none 0 0, .slice none 0 0, .int .i64 0, .int .i64 0, .int .i64 0, .int .i64 0, .bool false, .bool false] 31)
  have HKZ := hide KZ
  have hb1 := HO.out.b.lt (by rw [HG.out.bx]; decide)
  have hb2 := HO.out.g2.2
  clear KZ
  have HP := fun (w9 : World) (hr : RegAt w9 lo mid c.r (some ⟨gd, 0, none⟩) (some ⟨ga, 0, none⟩)) (hh : mid ≤ w9.heap.size) => place4 w9 lo mid gd cd ga ca c.r z m k x hr hh HG.out.g k0 k1 x0 x1 hm2
  have HV := Pl.placeV_in (m := m) (z := z) HG.out.g k0 k1 x0 x1
  have HG2 := G.plc (z := z) (m := m) (e := x) k0 k1
  obtain ⟨R, hR⟩ : ∃ R, Pl.placeR c.r z m k x = R := ⟨_, rfl⟩
  obtain ⟨V, hV⟩ : ∃ V, Pl.placeV c.r z m k x = V := ⟨_, rfl⟩
  simp only [hR, hV, regV] at HP
  rw [hV] at HV
  have HG3 : Hid (Pl.GM (c.setR R)) := hide (by unfold Pl.Mc.plc at HG2; rw [hR] at HG2; exact HG2)
  have HA3 := hide (Pl.ask_at hz HV.1 HV.2)
  have E : Hid (c.read z m k x = (c.setR R).acc 1 z V 0) := hide (by unfold Pl.Mc.read Pl.Mc.inReg Pl.Mc.plc; rw [q0, q1, q7, hR, hV]; rfl)
  have E2 : Hid (c.readV z m k x = (c.setR R).accV 1 z V 0) := hide (by unfold Pl.Mc.readV Pl.Mc.plc; rw [q0, q1, q7, hR, hV]; rfl)
  have E3 : Hid (c.readA z m k x = V) := hide (by unfold Pl.Mc.readA Pl.Mc.inReg; rw [q0, q1, q7, hV]; rfl)
  clear hR hV HG2 HV
  have HNZ : Hid (¬ (lo ≤ X.heap.size ∧ X.heap.size < mid)) := hide (by have q := hl2.2.1; omega)
  have HPZ : Hid (p < X.heap.size) := hide hs
  clear G
  go_enter Tryz.func72, Tryz.ntmps72
  go_wp2_with fail
  go_region_with (first | (go_at_call 115; refine (HP _ HRD.out HMD.out).mono ?_; rintro e9 W ⟨rfl, hr9, hk9⟩; have HO2 := hide (HOD.out.regs hr9 hk9); have HB2 := hide (HBD.out.regs hk9 hp); have HK2 := hide hk9; have HA1 := hide hk9; have hpW := HB2.out.lt; clear hr9 hk9; clear t0 t1 t2 t3 t4 t5 t6 t7 f0 f1 f2 f3 f4 f5 f6 f7; obtain ⟨t0, t1, t2, t3, t4, t5, t6, t7, _⟩ := HB2.out.cells; have f0 := HB2.out.frozen 0; have f1 := HB2.out.frozen 1; have f2 := HB2.out.frozen 2; have f3 := HB2.out.frozen 3; have f4 := HB2.out.frozen 4; have f5 := HB2.out.frozen 5; have f6 := HB2.out.frozen 6; have f7 := HB2.out.frozen 7) | (go_at_call 115; refine (HP _ HRZ.out HMZ.out).mono ?_; rintro e9 W ⟨rfl, hr9, hk9⟩; have HO2 := hide (HOZ.out.regs hr9 hk9); have HB2 := hide (HBZ.out.regs hk9 hp); have HK2 := hide hk9; have HA2 := hide hk9; have BZ2 := hide (Blk.kept BZ.out hk9 HNZ.out); clear hr9 hk9; clear t0 t1 t2 t3 t4 t5 t6 t7 f0 f1 f2 f3 f4 f5 f6 f7; obtain ⟨t0, t1, t2, t3, t4, t5, t6, t7, _⟩ := HB2.out.cells; have f0 := HB2.out.frozen 0; have f1 := HB2.out.frozen 1; have f2 := HB2.out.frozen 2; have f3 := HB2.out.frozen 3; have f4 := HB2.out.frozen 4; have f5 := HB2.out.frozen 5; have f6 := HB2.out.frozen 6; have f7 := HB2.out.frozen 7; have y0 := BZ2.out.cell (i := 0) rfl; have v0 := BZ2.out.frozen 0; have y1 := BZ2.out.cell (i := 1) rfl; have v1 := BZ2.out.frozen 1; have y2 := BZ2.out.cell (i := 2) rfl; have v2 := BZ2.out.frozen 2; have y3 := BZ2.out.cell (i := 3) rfl; have v3 := BZ2.out.frozen 3; have y4 := BZ2.out.cell (i := 4) rfl; have v4 := BZ2.out.frozen 4; have y5 := BZ2.out.cell (i := 5) rfl; have v5 := BZ2.out.frozen 5; have y6 := BZ2.out.cell (i := 6) rfl; have v6 := BZ2.out.frozen 6; have y7 := BZ2.out.cell (i := 7) rfl; have v7 := BZ2.out.frozen 7))
  all_goals
    go_wp2_with fail
    refine (mAccess _ lo mid hi p g2 (c.setR R) 1 z V 0 ?hm HG3.out HA3.out).mono ?_
    case hm =>
      first
        | (have z9 := HA1; exact (MAt.laid HB2.out HO2.out).any (kept_alloc _ _))
        | (have z9 := HA2; exact MAt.laid (HB2.out.past (MB.kept8 _ _ _ _ _ _ _ _) HPZ.out) (HO2.out.past (MB.kept8 _ _ _ _ _ _ _ _) hl2.2.1 hb1 hb2))
    rintro e9 W2 ⟨rfl, g3, hm9, hb9⟩
    have HM2 := hide hm9
    have HL2 : Hid (Since w lo hi g2 W2 g3) := by
      first
        | (have z9 := HA1; exact hide (((since8 (((Since.refl w lo hi g2).any KA.out).drew.keptS HK2.out (Nat.le_refl _) HMH.out) (.inl HPH.out) _ _ _ _ _ _ _ _).alloc _).trans hb9))
        | (have z9 := HA2; exact hide ((since8 (since8 ((((Since.refl w lo hi g2).any KA.out).any HKZ.out).keptS HK2.out (Nat.le_refl _) HMH.out) (.inr KA.out.size) _ _ _ _ _ _ _ _) (.inl HPH.out) _ _ _ _ _ _ _ _).trans hb9))
    clear hm9 hb9
    go_wp2_with fail
    go_ret2
    exact ⟨rII E2.out.symm E3.out.symm, g3, by rw [E.out]; exact HM2.out, HL2.out⟩
theorem mRead (w : World) (lo mid hi p g2 : Nat) (c : Pl.Mc) (z m k x : Int) (h : MAt w lo mid hi p g2 c) (G : Pl.GM c) (hz : z = 1 ∨ z = 2) (k0 : 0 ≤ k) (k1 : k ≤ 3) (x0 : 0 ≤ x) (x1 : x ≤ 65535) (m0 : 0 ≤ m) (m1 : m ≤ 7) :
    Calls Tryz.prog 72 #[.pointer (some ⟨p, 0, none⟩), .int .i64 z, .agg #[.int .i64 m, .int .i64 k, .int .i64 x]] w fun e w' => e = .returned (.tuple #[.int .i64 (c.readV z m k x), .int .i64 (c.readA z m k x)]) ∧ ∃ g3, MAt w' lo mid hi p g3 (c.read z m k x) ∧ Since w lo hi g2 w' g3 := by
  by_cases hm : m = 2 ∨ m = 3 ∨ m = 4 ∨ m = 5 ∨ m = 6
  · exact mReadMem w lo mid hi p g2 c z m k x h G hz k0 k1 x0 x1 hm
  have hl := h.lo
  have hm' : m = 0 ∨ m = 1 ∨ m = 7 := by omega
  have HG := hide G
  rcases hm' with rfl | rfl | rfl
  · have E : Hid (c.readV z 0 k x = el c.r.xs k.toNat % Pl.top z) := hide rfl
    have KA := hide (kept_alloc w (.cells #[.int .i64 0, .int .i64 k, .int .i64 x] 77))
    have BA := Blk.new w #[.int .i64 0, .int .i64 k, .int .i64 x] 77
    obtain ⟨X, hX⟩ : ∃ X : World, w.alloc (.cells #[.int .i64 0, .int .i64 k, .int .i64 x] 77) = X := ⟨_, rfl⟩
    rw [hX] at KA BA
    have b0 := BA.cell (i := 0) rfl
    have b1 := BA.cell (i := 1) rfl
    have b2 := BA.cell (i := 2) rfl
    have hbw := BA.lt
    have h2 := h.any KA.out
    have hl2 := h2.lo
    clear h BA
    have HM := hide h2
    obtain ⟨gd, cd, ga, ca, g1, c1, c2, hB9, hO9⟩ := h2
    have HB := hide hB9
    have HO := hide hO9
    obtain ⟨t0, t1, t2, t3, t4, t5, t6, t7, t8, t9, t10, t11, t12, t13, t14, t15⟩ := hB9.cells
    clear t8 t9 t10 t11 t12 t13 t14 t15
    have f0 := hB9.frozen 0
    have f1 := hB9.frozen 1
    have f2 := hB9.frozen 2
    have f3 := hB9.frozen 3
    have f4 := hB9.frozen 4
    have f5 := hB9.frozen 5
    have f6 := hB9.frozen 6
    have f7 := hB9.frozen 7
    clear hB9 hO9
    have hp := HO.out.p0
    have hd := HO.out.d0
    have hd1 := HO.out.d1
    have hs := HB.out.lt
    have HMH : Hid (mid ≤ hi) := hide (by have := HO.out.p1; omega)
    have HPH : Hid (lo ≤ p ∧ p < hi) := hide (by have := HO.out.p1; omega)
    have HD := hide (HO.out.any (kept_drew (Kept.refl 0 0 X))).d
    clear G hm
    go_enter Tryz.func72, Tryz.ntmps72
    go_wp2_with fail
    go_region_with (go_at_call 74; refine (mLow _ gd cd ga ca c.r z k HD.out HG.out.g hz k0 k1).mono ?_; rintro e9 W ⟨rfl, hk9⟩; have HK := hide hk9; clear hk9)
    all_goals
      go_wp2_with fail
      go_ret2
      exact ⟨rII E.out.symm rfl, g2, HM.out.any ((kept_drew (Kept.refl 0 0 X)).trans HK.out), ((Since.refl w lo hi g2).any KA.out).drew.any HK.out⟩
  · obtain ⟨n, rfl⟩ : ∃ n : Nat, k = (n : Int) := ⟨k.toNat, by omega⟩
    have k4 : (n : Int) < 4 := by omega
    have E : Hid (c.readV z 1 n x = el c.r.ys n) := hide rfl
    have KA := hide (kept_alloc w (.cells #[.int .i64 1, .int .i64 (n : Int), .int .i64 x] 77))
    have BA := Blk.new w #[.int .i64 1, .int .i64 (n : Int), .int .i64 x] 77
    obtain ⟨X, hX⟩ : ∃ X : World, w.alloc (.cells #[.int .i64 1, .int .i64 (n : Int), .int .i64 x] 77) = X := ⟨_, rfl⟩
    rw [hX] at KA BA
    have b0 := BA.cell (i := 0) rfl
    have b1 := BA.cell (i := 1) rfl
    have b2 := BA.cell (i := 2) rfl
    have hbw := BA.lt
    have h2 := h.any KA.out
    have hl2 := h2.lo
    clear h BA
    have HM := hide h2
    obtain ⟨gd, cd, ga, ca, g1, c1, c2, hB9, hO9⟩ := h2
    have HB := hide hB9
    have HO := hide hO9
    obtain ⟨t0, t1, t2, t3, t4, t5, t6, t7, t8, t9, t10, t11, t12, t13, t14, t15⟩ := hB9.cells
    clear t8 t9 t10 t11 t12 t13 t14 t15
    have f0 := hB9.frozen 0
    have f1 := hB9.frozen 1
    have f2 := hB9.frozen 2
    have f3 := hB9.frozen 3
    have f4 := hB9.frozen 4
    have f5 := hB9.frozen 5
    have f6 := hB9.frozen 6
    have f7 := hB9.frozen 7
    clear hB9 hO9
    have hp := HO.out.p0
    have hd := HO.out.d0
    have hd1 := HO.out.d1
    have hs := HB.out.lt
    have HMH : Hid (mid ≤ hi) := hide (by have := HO.out.p1; omega)
    have HPH : Hid (lo ≤ p ∧ p < hi) := hide (by have := HO.out.p1; omega)
    obtain ⟨hc, _⟩ := elAt HO.out.a n (by rw [HG.out.g.a4]; omega)
    clear G hm
    go_enter Tryz.func72, Tryz.ntmps72
    go_wp2_with fail
    go_region
    go_wp2_with fail
    go_ret2
    exact ⟨rII E.out.symm rfl, g2, HM.out.any (kept_drew (Kept.refl 0 0 X)), ((Since.refl w lo hi g2).any KA.out).drew⟩
  · have E : Hid (c.readV z 7 k x = x) := hide rfl
    have KA := hide (kept_alloc w (.cells #[.int .i64 7, .int .i64 k, .int .i64 x] 77))
    have BA := Blk.new w #[.int .i64 7, .int .i64 k, .int .i64 x] 77
    obtain ⟨X, hX⟩ : ∃ X : World, w.alloc (.cells #[.int .i64 7, .int .i64 k, .int .i64 x] 77) = X := ⟨_, rfl⟩
    rw [hX] at KA BA
    have b0 := BA.cell (i := 0) rfl
    have b1 := BA.cell (i := 1) rfl
    have b2 := BA.cell (i := 2) rfl
    have hbw := BA.lt
    have h2 := h.any KA.out
    have hl2 := h2.lo
    clear h BA
    have HM := hide h2
    obtain ⟨gd, cd, ga, ca, g1, c1, c2, hB9, hO9⟩ := h2
    have HB := hide hB9
    have HO := hide hO9
    obtain ⟨t0, t1, t2, t3, t4, t5, t6, t7, t8, t9, t10, t11, t12, t13, t14, t15⟩ := hB9.cells
    clear t8 t9 t10 t11 t12 t13 t14 t15
    have f0 := hB9.frozen 0
    have f1 := hB9.frozen 1
    have f2 := hB9.frozen 2
    have f3 := hB9.frozen 3
    have f4 := hB9.frozen 4
    have f5 := hB9.frozen 5
    have f6 := hB9.frozen 6
    have f7 := hB9.frozen 7
    clear hB9 hO9
    have hp := HO.out.p0
    have hd := HO.out.d0
    have hd1 := HO.out.d1
    have hs := HB.out.lt
    have HMH : Hid (mid ≤ hi) := hide (by have := HO.out.p1; omega)
    have HPH : Hid (lo ≤ p ∧ p < hi) := hide (by have := HO.out.p1; omega)
    clear G hm
    go_enter Tryz.func72, Tryz.ntmps72
    go_wp2_with fail
    go_ret2
    exact ⟨rII E.out.symm rfl, g2, HM.out, (Since.refl w lo hi g2).any KA.out⟩
end Go.Proofs.YtblddehlkaolbaaGreatDoor

namespace Go.Proofs.YtblddehlkaolbaaGreatDoor
open Go.RowKit
set_option linter.unusedVariables false
theorem results_ct2 {fn : Func} {p u1 u2 : Tmp} {ty : TypeId} (h : fn.results = #[.cell p ty, .tmp u1, .tmp u2]) (tmps : Array Value) (P : Program) (w : World) :
    (results fn tmps).run P w = ((asAddr (tmps.getD p undef)).run P w).andThen fun a w₁ => ((loadVar ty a).run P w₁).andThen fun v w₂ => .ok (.tuple #[v, tmps.getD u1 undef, tmps.getD u2 undef]) w₂ := by
  simp only [results, h]
  simp [Sem.run_bind, Result.andThen]
theorem Pl.and7 (a : Int) : bits .and .i64 a 7 = a % 8 := by
  show IntKind.i64.wrap ((BitVec.ofInt 64 a &&& BitVec.ofInt 64 7).toNat : Int) = _
  rw [BitVec.toNat_and, BitVec.toNat_ofInt, show (BitVec.ofInt 64 7).toNat = 2 ^ 3 - 1 from by decide, Nat.and_two_pow_sub_one_eq_mod, IntKind.wrap_i64]
  omega
theorem Pl.and3 (a : Int) : bits .and .i64 a 3 = a % 4 := by
  show IntKind.i64.wrap ((BitVec.ofInt 64 a &&& BitVec.ofInt 64 3).toNat : Int) = _
  rw [BitVec.toNat_and, BitVec.toNat_ofInt, show (BitVec.ofInt 64 3).toNat = 2 ^ 2 - 1 from by decide, Nat.and_two_pow_sub_one_eq_mod, IntKind.wrap_i64]
  omega
end Go.Proofs.YtblddehlkaolbaaGreatDoor

namespace Go.Proofs.YtblddehlkaolbaaGreatDoor
open Go.RowKit
set_option linter.unusedVariables false
theorem specMem (m : Int) (w : World) : Calls Tryz.prog 111 #[.int .i64 m] w fun e w' => e = .returned (.bool (Pl.memM m)) ∧ w' = w := by
  go_enter Tryz.func111, Tryz.ntmps111
  go_wp2_with (go_at_call 31; refine (l1In _ _ _ _).mono ?_; rintro e w' ⟨rfl, hw⟩; have hw2 := hw.symm; clear hw; subst hw2)
  go_ret
  exact ⟨rfl, rfl⟩
theorem specPlain (m : Int) (w : World) : Calls Tryz.prog 112 #[.int .i64 m] w fun e w' => e = .returned (.bool (Pl.plainM m)) ∧ w' = w := by
  cases h1 : (m == 2) <;> cases h2 : (m == 5) <;> cases h3 : (m == 6)
  all_goals
    go_enter Tryz.func112, Tryz.ntmps112
    go_wp2
    go_ret
    exact ⟨rB (by simp only [Pl.plainM, h1, h2, h3]; rfl), rfl⟩
theorem specZero (m k e : Int) (w : World) : Calls Tryz.prog 114 #[.agg #[.int .i64 m, .int .i64 k, .int .i64 e]] w fun r w' => r = .returned (.bool (Pl.zeroO m k e)) ∧ Kept 0 0 w w' := by
  have K0 := hide (kept_alloc w (.cells #[.int .i64 m, .int .i64 k, .int .i64 e] 77))
  cases h1 : (m == 0) <;> cases h2 : (k == 0) <;> cases h3 : (e == 0)
  all_goals
    go_enter Tryz.func114, Tryz.ntmps114
    go_wp2
    go_ret
    exact ⟨rB (by simp only [Pl.zeroO, h1, h2, h3]; rfl), K0.out⟩
theorem specNow (m k e : Int) (w : World) : Calls Tryz.prog 113 #[.agg #[.int .i64 m, .int .i64 k, .int .i64 e]] w fun r w' => r = .returned (.bool (Pl.nowO m e)) ∧ Kept 0 0 w w' := by
  have K0 := hide (kept_alloc w (.cells #[.int .i64 m, .int .i64 k, .int .i64 e] 77))
  cases h1 : (m == 7) <;> cases h2 : decide (e ≤ 1023)
  all_goals
    go_enter Tryz.func113, Tryz.ntmps113
    go_wp2
    go_ret
    exact ⟨rB (by simp only [Pl.nowO, h1, h2]; rfl), K0.out⟩
theorem opsAll (op : Int) : op = 1 ∨ op = 2 ∨ op = 3 ∨ op = 4 ∨ op = 5 ∨ op = 6 ∨ op = 7 ∨ op = 8 ∨ op = 9 ∨ op = 10 ∨ op = 11 ∨ op = 12 ∨ op = 13 ∨ op = 14 ∨ op = 15 ∨ op = 16 ∨ op = 17 ∨ op = 18 ∨ op = 19 ∨ (¬ op = 1 ∧ ¬ op = 2 ∧ ¬ op = 3 ∧ ¬ op = 4 ∧ ¬ op = 5 ∧ ¬ op = 6 ∧ ¬ op = 7 ∧ ¬ op = 8 ∧ ¬ op = 9 ∧ ¬ op = 10 ∧ ¬ op = 11 ∧ ¬ op = 12 ∧ ¬ op = 13 ∧ ¬ op = 14 ∧ ¬ op = 15 ∧ ¬ op = 16 ∧ ¬ op = 17 ∧ ¬ op = 18 ∧ ¬ op = 19) := by omega
end Go.Proofs.YtblddehlkaolbaaGreatDoor

