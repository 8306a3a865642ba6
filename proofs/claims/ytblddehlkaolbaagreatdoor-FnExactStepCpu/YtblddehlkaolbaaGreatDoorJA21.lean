/- A step of the model: an instruction that is not allowed. What every good instruction keeps: registers that are words, a bus that is good; plain arithmetic. A step of the model: an instruction that is done. -/
import Derived.Test.YtblddehlkaolbaaGreatDoorJA20
import Derived.Test.YtblddehlkaolbaaGreatDoorJA18
namespace Go.Proofs.YtblddehlkaolbaaGreatDoor
open Go.RowKit
set_option linter.unusedVariables false
theorem Pl.fetch_ok {c : Pl.Mc} (h : c.fetch.fine = true) : Pl.inOk c.fetI = true ∧ (c.fetN = 1 ∨ c.fetN = 2) := by
  unfold Pl.Mc.fetch at h
  cases h1 : c.fe1.fine
  · rw [h1] at h; simp only [Bool.not_false, cond_true] at h; rw [h1] at h; cases h
  · cases h3 : c.fe3.fine
    · rw [h1, h3] at h; simp only [Bool.not_true, Bool.not_false, cond_true, cond_false] at h; rw [h3] at h; cases h
    · cases ho : Pl.inOk c.feX
      · rw [h1, h3, ho] at h; simp only [Bool.not_true, Bool.not_false, cond_true, cond_false] at h
        exact absurd h (by unfold Pl.Mc.fine Pl.Mc.fe4; simp)
      · refine ⟨?_, ?_⟩
        · unfold Pl.Mc.fetI; rw [h1, h3, ho]; exact ho
        · unfold Pl.Mc.fetN; rw [h1, h3, ho]; show Pl.longW c.feW = 1 ∨ Pl.longW c.feW = 2; unfold Pl.longW; split
          · exact .inr rfl
          · exact .inl rfl
set_option maxRecDepth 100000 in
set_option maxHeartbeats 8000000 in
theorem mStep_priv (w : World) (c : Pl.Cp) (a b e q : Option Addr) (ca cb ce cq : Nat) (ha : IRow w a c.r.xs) (hb : IRow w b c.r.ys) (he : IRow w e c.bx) (hq : IRow w q c.bl) (hok : Pl.cpOk c = true) (hl : c.bl.length = 5 * c.bm) (hf : (Pl.Mc.ofC c).fetch.fine = true) (hp : Pl.priv (Pl.Mc.ofC c).fetI = true) (hs : (Pl.Mc.ofC c).fetch.r.s = false) :
    Calls Tryz.prog 18 #[.agg #[.slice a 4 ca, .slice b 4 cb, .int .i64 c.r.o, .int .i64 c.r.p, .int .i64 c.r.f, .int .i64 c.r.m, .bool c.r.s, .bool c.r.t, .slice e 512 ce, .slice q c.bm cq, .bool c.st, .bool c.ha]] w fun r w' => ∃ gd cd ga cA g1 c1 g2 c2 mid : Nat, r = .returned (.tuple #[.agg (cpuC (Pl.stepC c) gd cd ga cA g1 c1 g2 c2), .agg (ftC (Pl.stepF c))]) ∧ CO w' w.heap.size mid (Pl.stepC c) gd ga g1 g2 c2 ∧ Kept 0 0 w w' := by
  have HG := hide (Pl.GM.of hok hl c.st)
  have h4 := HG.out.g.d4
  have h5 := HG.out.g.a4
  have hbx := HG.out.bx
  have hbm := HG.out.bm
  have K0 := hide (kept_new (kept_new (kept_alloc w (.cells #[.slice a 4 ca, .slice b 4 cb, .int .i64 c.r.o, .int .i64 c.r.p, .int .i64 c.r.f, .int .i64 c.r.m, .bool c.r.s, .bool c.r.t, .slice e 512 ce, .slice q c.bm cq, .bool c.st, .bool c.ha] 36)) (.cells #[.slice none 0 0, .slice none 0 0, .int .i64 0, .int .i64 0, .int .i64 0, .int .i64 0, .bool false, .bool false, .slice none 0 0, .slice none 0 0, .bool false, .bool false] 36)) (.cells #[.int .i64 0, .int .i64 0, .int .i64 0, .int .i64 0, .bool false] 38))
  have B0 := ((Blk.new w #[.slice a 4 ca, .slice b 4 cb, .int .i64 c.r.o, .int .i64 c.r.p, .int .i64 c.r.f, .int .i64 c.r.m, .bool c.r.s, .bool c.r.t, .slice e 512 ce, .slice q c.bm cq, .bool c.st, .bool c.ha] 36).alloc (.cells #[.slice none 0 0, .slice none 0 0, .int .i64 0, .int .i64 0, .int .i64 0, .int .i64 0, .bool false, .bool false, .slice none 0 0, .slice none 0 0, .bool false, .bool false] 36)).alloc (.cells #[.int .i64 0, .int .i64 0, .int .i64 0, .int .i64 0, .bool false] 38)
  have B1 := (Blk.new (w.alloc (.cells #[.slice a 4 ca, .slice b 4 cb, .int .i64 c.r.o, .int .i64 c.r.p, .int .i64 c.r.f, .int .i64 c.r.m, .bool c.r.s, .bool c.r.t, .slice e 512 ce, .slice q c.bm cq, .bool c.st, .bool c.ha] 36)) #[.slice none 0 0, .slice none 0 0, .int .i64 0, .int .i64 0, .int .i64 0, .int .i64 0, .bool false, .bool false, .slice none 0 0, .slice none 0 0, .bool false, .bool false] 36).alloc (.cells #[.int .i64 0, .int .i64 0, .int .i64 0, .int .i64 0, .bool false] 38)
  have B2 := Blk.new ((w.alloc (.cells #[.slice a 4 ca, .slice b 4 cb, .int .i64 c.r.o, .int .i64 c.r.p, .int .i64 c.r.f, .int .i64 c.r.m, .bool c.r.s, .bool c.r.t, .slice e 512 ce, .slice q c.bm cq, .bool c.st, .bool c.ha] 36)).alloc (.cells #[.slice none 0 0, .slice none 0 0, .int .i64 0, .int .i64 0, .int .i64 0, .int .i64 0, .bool false, .bool false, .slice none 0 0, .slice none 0 0, .bool false, .bool false] 36)) #[.int .i64 0, .int .i64 0, .int .i64 0, .int .i64 0, .bool false] 38
  simp only [World.size_alloc] at B1 B2
  obtain ⟨X, hX⟩ : ∃ X : World, ((w.alloc (.cells #[.slice a 4 ca, .slice b 4 cb, .int .i64 c.r.o, .int .i64 c.r.p, .int .i64 c.r.f, .int .i64 c.r.m, .bool c.r.s, .bool c.r.t, .slice e 512 ce, .slice q c.bm cq, .bool c.st, .bool c.ha] 36)).alloc (.cells #[.slice none 0 0, .slice none 0 0, .int .i64 0, .int .i64 0, .int .i64 0, .int .i64 0, .bool false, .bool false, .slice none 0 0, .slice none 0 0, .bool false, .bool false] 36)).alloc (.cells #[.int .i64 0, .int .i64 0, .int .i64 0, .int .i64 0, .bool false] 38) = X := ⟨_, rfl⟩
  rw [hX] at K0 B0 B1 B2
  have hxs : X.heap.size = w.heap.size + 3 := by rw [← hX]; simp
  have HXS := hide hxs
  have HB0 := hide B0
  have HB1 := hide B1
  have HB2 := hide B2
  have HA := hide (ha.keptS K0.out)
  have HB := hide (hb.keptS K0.out)
  have HE := hide (he.keptS K0.out)
  have HQ := hide (hq.keptS K0.out)
  have HAw := hide ha
  have HBw := hide hb
  clear B0 B1 B2 ha hb he hq hxs
  have i0 := HB0.out.cell (i := 0) rfl
  have i1 := HB0.out.cell (i := 1) rfl
  have i2 := HB0.out.cell (i := 2) rfl
  have i3 := HB0.out.cell (i := 3) rfl
  have i4 := HB0.out.cell (i := 4) rfl
  have i5 := HB0.out.cell (i := 5) rfl
  have i6 := HB0.out.cell (i := 6) rfl
  have i7 := HB0.out.cell (i := 7) rfl
  have i8 := HB0.out.cell (i := 8) rfl
  have i9 := HB0.out.cell (i := 9) rfl
  have i10 := HB0.out.cell (i := 10) rfl
  have i11 := HB0.out.cell (i := 11) rfl
  have HGf : Hid (Pl.GM ((Pl.Mc.ofC c).fetch.vec 8)) := hide ((Pl.GM.fetch HG.out).ft _)
  have hf8 : ((Pl.Mc.ofC c).fetch.vec 8).fine = false := rfl
  have ES : Pl.stepM c = (Pl.Mc.ofC c).fetch.vec 8 := by
    have e1 : (Pl.Mc.ofC c).s1 = (Pl.Mc.ofC c).fetch.vec 8 := by unfold Pl.Mc.s1; rw [hf, hp, hs]; rfl
    unfold Pl.stepM Pl.Mc.s2; rw [e1, hf8]; rfl
  have EC : Hid (Pl.stepC c = Pl.Mc.cpu { (((Pl.Mc.ofC c).fetch.vec 8).setR c.r) with st := c.st } false) := hide (by unfold Pl.stepC; rw [ES, hf8]; rfl)
  have EF : Hid (Pl.stepF c = ((Pl.Mc.ofC c).fetch.vec 8).f) := hide (by unfold Pl.stepF; rw [ES, hf8]; rfl)
  have HBL : Hid (w.heap.size < X.heap.size) := hide (by have := HXS.out; omega)
  have HPV : Hid (Pl.priv ⟨(Pl.Mc.ofC c).fetI.op, (Pl.Mc.ofC c).fetI.z, (Pl.Mc.ofC c).fetI.r, (Pl.Mc.ofC c).fetI.m, (Pl.Mc.ofC c).fetI.k, (Pl.Mc.ofC c).fetI.e, (Pl.Mc.ofC c).fetI.s⟩ = true) := hide hp
  clear ES hp
  go_enter Tryz.func18, Tryz.ntmps18
  go_wp2_with (first | (go_at_call 41; have z9 := HBn; refine (mFine _ X.heap.size mid W1.heap.size p g3 _ HMn.out).mono ?_; rintro e9 w9 ⟨rfl, hw⟩; have hw2 := hw.symm; clear hw; subst hw2; rw [hf8]) | (go_at_call 41; have z9 := HBm; refine (mFine _ X.heap.size mid W1.heap.size p g3 _ HMZ.out).mono ?_; rintro e9 w9 ⟨rfl, hw⟩; have hw2 := hw.symm; clear hw; subst hw2; rw [hf]) | (go_at_call 45; have z9 := HBn; refine (own4 _ c.r a b ca cb (HAw.out.keptS HKn.out) (HBw.out.keptS HKn.out) h4 h5).mono ?_; unfold regV; rintro e9 W3 ⟨gd', cd', ga', ca', rfl, od, oa, d0, d1, a0, a1, da, k9⟩; have hplt := HBn.out.lt; have HD3 := hide od; have HA3 := hide oa; have HB3 := hide (HBn.out.any k9); have HO3 := hide (HOn.out.any k9); have HK3 := hide (HKn.out.trans k9); have HZ3 := hide (HZn.out.kept0 k9); have HL3 := hide (HLn.out.trans (below_kpt k9 (Nat.le_trans (Nat.le_refl X.heap.size) HLn.out.size))); clear od oa k9 i0 i1 i2 i3 i4 i5 i6 i7 i8 i9 i10 i11; have i10 := HZ3.out.cell (i := 10) rfl; obtain ⟨u0, u1, u2, u3, u4, u5, u6, u7, u8, u9, u10, u11, u12, u13, u14, u15⟩ := HB3.out.cells; have q0 := HB3.out.frozen 0; have q1 := HB3.out.frozen 1; have q2 := HB3.out.frozen 2; have q3 := HB3.out.frozen 3; have q4 := HB3.out.frozen 4; have q5 := HB3.out.frozen 5; have q6 := HB3.out.frozen 6; have q7 := HB3.out.frozen 7; have q10 := HB3.out.frozen 10) | (go_at_call 39; refine (mStart _ c a b e q ca cb ce cq HA.out HB.out HE.out HQ.out h4 h5 hbx hl hbm).mono ?_; rintro e9 W1 ⟨mid, p, g2, rfl, hm9, hp9, k9⟩; have HM1 := hide hm9; have HK1 := hide k9; have HP1 := hide hp9; have HL1 := hide (below_kpt k9 (Nat.le_refl X.heap.size)); obtain ⟨_, _, _, _, _, _, _, hB9, _⟩ := hm9; have hpw1 := hB9.lt; have t3 := (MB.cells hB9).2.2.2.1; clear hp9 k9 hB9) | (go_at_call 40; refine (mFetch _ X.heap.size mid W1.heap.size p g2 (Pl.Mc.ofC c) HM1.out HG.out).mono ?_; rintro e9 W2 ⟨rfl, g3, hm9, hb9⟩; have HM2 := hide hm9; have HS2 := hide hb9; have HL2 := hide (HL1.out.trans (below_since hb9 HM1.out.logLo HL1.out.size)); clear hm9 hb9 t3; unfold insC; have KZ := kept_alloc W2 (.cells #[.int .i64 (Pl.Mc.ofC c).fetI.op, .int .i64 (Pl.Mc.ofC c).fetI.z, .int .i64 (Pl.Mc.ofC c).fetI.r, .int .i64 (Pl.Mc.ofC c).fetI.m, .int .i64 (Pl.Mc.ofC c).fetI.k, .int .i64 (Pl.Mc.ofC c).fetI.e, .int .i64 (Pl.Mc.ofC c).fetI.s] 79); have BZ := Blk.new W2 #[.int .i64 (Pl.Mc.ofC c).fetI.op, .int .i64 (Pl.Mc.ofC c).fetI.z, .int .i64 (Pl.Mc.ofC c).fetI.r, .int .i64 (Pl.Mc.ofC c).fetI.m, .int .i64 (Pl.Mc.ofC c).fetI.k, .int .i64 (Pl.Mc.ofC c).fetI.e, .int .i64 (Pl.Mc.ofC c).fetI.s] 79; obtain ⟨Z, hZ⟩ : ∃ Z : World, W2.alloc (.cells #[.int .i64 (Pl.Mc.ofC c).fetI.op, .int .i64 (Pl.Mc.ofC c).fetI.z, .int .i64 (Pl.Mc.ofC c).fetI.r, .int .i64 (Pl.Mc.ofC c).fetI.m, .int .i64 (Pl.Mc.ofC c).fetI.k, .int .i64 (Pl.Mc.ofC c).fetI.e, .int .i64 (Pl.Mc.ofC c).fetI.s] 79) = Z := ⟨_, rfl⟩; rw [hZ] at KZ BZ; have HBZ := hide BZ; have HMZ := hide (HM2.out.any KZ); have HLZ := hide (HL2.out.trans (below_kpt KZ (Nat.le_trans (Nat.le_refl X.heap.size) HL2.out.size))); have HKZ := hide (kept_lower K0.out HLZ.out K0.out.size); clear KZ BZ; have HZB := hide (HB0.out.below HLZ.out HBL.out); clear i0 i1 i2 i3 i4 i5 i6 i7 i8 i9 i10 i11; have i0 := HZB.out.cell (i := 0) rfl; have i1 := HZB.out.cell (i := 1) rfl; have i2 := HZB.out.cell (i := 2) rfl; have i3 := HZB.out.cell (i := 3) rfl; have i4 := HZB.out.cell (i := 4) rfl; have i5 := HZB.out.cell (i := 5) rfl; have i6 := HZB.out.cell (i := 6) rfl; have i7 := HZB.out.cell (i := 7) rfl; have i8 := HZB.out.cell (i := 8) rfl; have i9 := HZB.out.cell (i := 9) rfl; have i10 := HZB.out.cell (i := 10) rfl; have i11 := HZB.out.cell (i := 11) rfl; have hzm := HMZ.out; obtain ⟨gd, cd, ga, cA, g1, c1, c2, hB9, hO9⟩ := hzm; have HBm := hide hB9; have HOm := hide hO9; have hpz := hB9.lt; clear hB9 hO9; have x0 := HBZ.out.cell (i := 0) rfl; have x1 := HBZ.out.cell (i := 1) rfl; have x2 := HBZ.out.cell (i := 2) rfl; have x3 := HBZ.out.cell (i := 3) rfl; have x4 := HBZ.out.cell (i := 4) rfl; have x5 := HBZ.out.cell (i := 5) rfl; have x6 := HBZ.out.cell (i := 6) rfl; have hzx := HBZ.out.lt; have HLP : Hid (X.heap.size ≤ p) := HP1; have HNP : Hid (w.heap.size ≠ p) := hide (by have := HBL.out; have := HP1.out; omega)) | (go_at_call 42; have z9 := HBm; refine (specPriv _ (Pl.Mc.ofC c).fetI.op (Pl.Mc.ofC c).fetI.z (Pl.Mc.ofC c).fetI.r (Pl.Mc.ofC c).fetI.m (Pl.Mc.ofC c).fetI.k (Pl.Mc.ofC c).fetI.e (Pl.Mc.ofC c).fetI.s).mono ?_; rintro e9 W5 ⟨rfl, k9⟩; rw [HPV.out]; have HM5 := hide (HMZ.out.any k9); have HB5 := hide (HBm.out.any k9); have HO5 := hide (HOm.out.any k9); have HZ5 := hide (HZB.out.kept0 k9); have HL5 := hide (HLZ.out.trans (below_kpt k9 (Nat.le_trans (Nat.le_refl X.heap.size) HLZ.out.size))); have HK5 := hide (HKZ.out.trans k9); have HX5 := hide (HBZ.out.kept0 k9); clear k9 x0 x1 x2 x3 x4 x5 x6 i0 i1 i2 i3 i4 i5 i6 i7 i8 i9 i10 i11; have i0 := HZ5.out.cell (i := 0) rfl; have i1 := HZ5.out.cell (i := 1) rfl; have i2 := HZ5.out.cell (i := 2) rfl; have i3 := HZ5.out.cell (i := 3) rfl; have i4 := HZ5.out.cell (i := 4) rfl; have i5 := HZ5.out.cell (i := 5) rfl; have i6 := HZ5.out.cell (i := 6) rfl; have i7 := HZ5.out.cell (i := 7) rfl; have i8 := HZ5.out.cell (i := 8) rfl; have i9 := HZ5.out.cell (i := 9) rfl; have i10 := HZ5.out.cell (i := 10) rfl; have i11 := HZ5.out.cell (i := 11) rfl; have x0 := HX5.out.cell (i := 0) rfl; have x1 := HX5.out.cell (i := 1) rfl; have x2 := HX5.out.cell (i := 2) rfl; have x3 := HX5.out.cell (i := 3) rfl; have x4 := HX5.out.cell (i := 4) rfl; have x5 := HX5.out.cell (i := 5) rfl; have x6 := HX5.out.cell (i := 6) rfl; obtain ⟨t0, t1, t2, t3, t4, t5, t6, t7, t8, t9, t10, t11, _⟩ := HB5.out.cells; have f11 := HB5.out.frozen 11; have f3 := HB5.out.frozen 3; have hpw5 := HB5.out.lt; clear t0 t1 t2 t4 t5 t7 t8 t9 t10; rw [hs] at t6; have HBn : Hid (MB (W5.setCell ⟨p, 11, none⟩ (.int .i64 8)) p gd cd ga cA g1 c1 g3 c2 ((Pl.Mc.ofC c).fetch.vec 8)) := hide (HB5.out.cV 8); have KPn := hide (kept_one W5 p 11 (.int .i64 8)); have HOn := hide (HO5.out.own KPn.out); have HMn : Hid (MAt (W5.setCell ⟨p, 11, none⟩ (.int .i64 8)) X.heap.size mid W1.heap.size p g3 ((Pl.Mc.ofC c).fetch.vec 8)) := hide (HM5.out.cV 8); have HLn := hide (HL5.out.setCell (p := ⟨p, 11, none⟩) HLP.out (.int .i64 8)); have HKn := hide (kept_lower K0.out HLn.out K0.out.size); have HZn := hide (HZ5.out.other p 11 (.int .i64 8) HNP.out)))
  have hd3 := HD3.out.lt (by rw [h4]; decide)
  have KP := (MB.kept8 (w := W3) (p := p) (.slice (some ⟨gd', 0, none⟩) 4 cd') (.slice (some ⟨ga', 0, none⟩) 4 ca') (.int .i64 c.r.o) (.int .i64 c.r.p) (.int .i64 c.r.f) (.int .i64 c.r.m) (.bool c.r.s) (.bool c.r.t)).one 10 (.bool c.st)
  have MY : MB (((((((((W3.setCell ⟨p, 0, none⟩ ((.slice (some ⟨gd', 0, none⟩) 4 cd'))).setCell ⟨p, 1, none⟩ ((.slice (some ⟨ga', 0, none⟩) 4 ca'))).setCell ⟨p, 2, none⟩ ((.int .i64 c.r.o))).setCell ⟨p, 3, none⟩ ((.int .i64 c.r.p))).setCell ⟨p, 4, none⟩ ((.int .i64 c.r.f))).setCell ⟨p, 5, none⟩ ((.int .i64 c.r.m))).setCell ⟨p, 6, none⟩ ((.bool c.r.s))).setCell ⟨p, 7, none⟩ ((.bool c.r.t))).setCell ⟨p, 10, none⟩ (.bool c.st)) p gd' cd' ga' ca' g1 c1 g3 c2 { (((Pl.Mc.ofC c).fetch.vec 8).setR c.r) with st := c.st } := (HB3.out.laid2 c.r gd' cd' ga' ca').cSt c.st
  generalize (((((((((W3.setCell ⟨p, 0, none⟩ ((.slice (some ⟨gd', 0, none⟩) 4 cd'))).setCell ⟨p, 1, none⟩ ((.slice (some ⟨ga', 0, none⟩) 4 ca'))).setCell ⟨p, 2, none⟩ ((.int .i64 c.r.o))).setCell ⟨p, 3, none⟩ ((.int .i64 c.r.p))).setCell ⟨p, 4, none⟩ ((.int .i64 c.r.f))).setCell ⟨p, 5, none⟩ ((.int .i64 c.r.m))).setCell ⟨p, 6, none⟩ ((.bool c.r.s))).setCell ⟨p, 7, none⟩ ((.bool c.r.t))).setCell ⟨p, 10, none⟩ (.bool c.st)) = Y at KP MY ⊢
  have hop := HO3.out.p0
  have hob := HO3.out.b0
  have hog := HO3.out.g2
  have hobl := HO3.out.pb
  have hopl := HO3.out.pl
  have hos := HO3.out.d0
  have hos2 := HO3.out.d1
  have HYd := hide (HD3.out.keptS KP (by omega)).row
  have HYa := hide (HA3.out.keptS KP (by omega)).row
  have HYb := hide (HO3.out.b.keptS KP (by omega)).row
  have HYl := hide ((own_of_row5 HO3.out.l).keptS KP (by omega)).row
  have KDY := hide (kept_drew (Kept.refl 0 0 Y))
  have HMY := hide (MY.any KDY.out)
  have LY := hide ((HL3.out.trans (below_of' KP (by omega) (by have := HL3.out.size; omega))).drew)
  have HKY := hide (kept_lower K0.out LY.out K0.out.size)
  have HO1Y := hide (HB1.out.below LY.out (by have := HXS.out; omega))
  have HO2Y := hide (HB2.out.below LY.out (by have := HXS.out; omega))
  have HN1 : Hid (¬ (w.heap.size + 1 ≤ p ∧ p < w.heap.size + 1 + 1)) := hide (by have := HXS.out; omega)
  have HN2 : Hid (¬ (w.heap.size + 1 + 1 ≤ p ∧ p < w.heap.size + 1 + 1 + 1)) := hide (by have := HXS.out; omega)
  have CF : ∀ W : World, MB W p gd' cd' ga' ca' g1 c1 g3 c2 { (((Pl.Mc.ofC c).fetch.vec 8).setR c.r) with st := c.st } → W.cell? ⟨p, 11, none⟩ = some (.int .i64 ((Pl.Mc.ofC c).fetch.vec 8).f.v) ∧ W.cell? ⟨p, 12, none⟩ = some (.int .i64 ((Pl.Mc.ofC c).fetch.vec 8).f.pc) ∧ W.cell? ⟨p, 13, none⟩ = some (.int .i64 ((Pl.Mc.ofC c).fetch.vec 8).f.ad) ∧ W.cell? ⟨p, 14, none⟩ = some (.int .i64 ((Pl.Mc.ofC c).fetch.vec 8).f.wo) ∧ W.cell? ⟨p, 15, none⟩ = some (.bool ((Pl.Mc.ofC c).fetch.vec 8).f.wr) := fun W h => by have z := cellsF h; exact z
  have SY := CF _ HMY.out
  have hyz : X.heap.size ≤ Y.drew.heap.size := LY.out.size
  clear KP MY
  go_region_held3 (fun w' => w'.cell? ⟨p, 11, none⟩ = some (.int .i64 ((Pl.Mc.ofC c).fetch.vec 8).f.v) ∧ w'.cell? ⟨p, 12, none⟩ = some (.int .i64 ((Pl.Mc.ofC c).fetch.vec 8).f.pc) ∧ w'.cell? ⟨p, 13, none⟩ = some (.int .i64 ((Pl.Mc.ofC c).fetch.vec 8).f.ad) ∧ w'.cell? ⟨p, 14, none⟩ = some (.int .i64 ((Pl.Mc.ofC c).fetch.vec 8).f.wo) ∧ w'.cell? ⟨p, 15, none⟩ = some (.bool ((Pl.Mc.ofC c).fetch.vec 8).f.wr)) (first | with_reducible exact SY | with_reducible exact S4 | with_reducible exact CF _ (HM4.out.over12 HN1.out _ _ _ _ _ _ _ _ _ _ _ _) | with_reducible exact CF _ ((HM4.out.over12 HN1.out _ _ _ _ _ _ _ _ _ _ _ _).over5 HN2.out _ _ _ _ _) | go_keep) (first | (go_at_call 44; refine (mCpuR _ p gd' cd' ga' ca' g1 c1 g3 c2 { (((Pl.Mc.ofC c).fetch.vec 8).setR c.r) with st := c.st } HMY.out (HYd.out.keptS KDY.out) (HYa.out.keptS KDY.out) (HYb.out.keptS KDY.out) (HYl.out.keptS KDY.out) h4 h5 HGf.out.bx HGf.out.bl HGf.out.bm).mono ?_; unfold cpuC; rintro e9 W4 ⟨gd4, cd4, ga4, ca4, g14, c14, g24, c24, mid4, rfl, hc9, k9⟩; have HC := hide hc9; have HM4 := hide (HMY.out.any k9); have S4 := CF _ HM4.out; have HK4 := hide (HKY.out.trans k9); have HO14 := hide (HO1Y.out.kept0 k9); have HO24 := hide (HO2Y.out.kept0 k9); have hs4 := HO24.out.lt; clear hc9 k9; have o0 := HO14.out.cell (i := 0) rfl; have of0 := HO14.out.frozen 0; have o1 := HO14.out.cell (i := 1) rfl; have of1 := HO14.out.frozen 1; have o2 := HO14.out.cell (i := 2) rfl; have of2 := HO14.out.frozen 2; have o3 := HO14.out.cell (i := 3) rfl; have of3 := HO14.out.frozen 3; have o4 := HO14.out.cell (i := 4) rfl; have of4 := HO14.out.frozen 4; have o5 := HO14.out.cell (i := 5) rfl; have of5 := HO14.out.frozen 5; have o6 := HO14.out.cell (i := 6) rfl; have of6 := HO14.out.frozen 6; have o7 := HO14.out.cell (i := 7) rfl; have of7 := HO14.out.frozen 7; have o8 := HO14.out.cell (i := 8) rfl; have of8 := HO14.out.frozen 8; have o9 := HO14.out.cell (i := 9) rfl; have of9 := HO14.out.frozen 9; have o10 := HO14.out.cell (i := 10) rfl; have of10 := HO14.out.frozen 10; have o11 := HO14.out.cell (i := 11) rfl; have of11 := HO14.out.frozen 11; have y0 := HO24.out.cell (i := 0) rfl; have yf0 := HO24.out.frozen 0; have y1 := HO24.out.cell (i := 1) rfl; have yf1 := HO24.out.frozen 1; have y2 := HO24.out.cell (i := 2) rfl; have yf2 := HO24.out.frozen 2; have y3 := HO24.out.cell (i := 3) rfl; have yf3 := HO24.out.frozen 3; have y4 := HO24.out.cell (i := 4) rfl; have yf4 := HO24.out.frozen 4))
  go_wp2_with fail
  have hxs := HXS.out
  refine bodyPost_ret (v := .tuple #[.agg (cpuC (Pl.stepC c) gd4 cd4 ga4 ca4 g14 c14 g24 c24), .agg (ftC (Pl.stepF c))]) ?_ rfl ⟨gd4, cd4, ga4, ca4, g14, c14, g24, c24, mid4, rfl, ?co, ?kw⟩
  case co =>
    rw [EC.out]
    refine HC.out.pastS (x := w.heap.size + 1) (y := w.heap.size + 3) (by omega) (by omega) ?_
    repeat (first | with_reducible exact Kept.refl _ _ _ | refine kept_set ?_ _ _ _ (.inl (by omega)))
  case kw => repeat (first | with_reducible exact HK4.out | refine kept_set ?_ _ _ _ (.inr (by omega)))
  rw [results_cell2 rfl, EC.out, EF.out]; go_simp; exact ⟨rfl, rfl⟩
end Go.Proofs.YtblddehlkaolbaaGreatDoor

namespace Go.Proofs.YtblddehlkaolbaaGreatDoor.Pl
set_option linter.unusedVariables false
theorem cmpF_in9 {z f a b : Int} (ha : okv z a = true) (hb : okv z b = true) (hf : flags f = true) : 0 ≤ cmpF z f a b ∧ cmpF z f a b ≤ 31 := by
  obtain ⟨f0, f1⟩ := flags_ok hf
  obtain ⟨j, hj, rfl⟩ := nat_of (n := 32) f0 (by omega)
  have hs := subF_bd z 0 a b
  obtain ⟨i, hi, he⟩ := nat_of (n := 32) hs.1 (by omega)
  unfold cmpF
  rw [if_pos (by rw [two_of ha hb, hf]; rfl), he]
  have q : ∀ i : Nat, i < 32 → ∀ j : Nat, j < 32 → 0 ≤ bits .or .i64 (bits .and .i64 (i : Int) 15) (bits .and .i64 (j : Int) 16) ∧ bits .or .i64 (bits .and .i64 (i : Int) 15) (bits .and .i64 (j : Int) 16) ≤ 31 := by decide +kernel
  exact q i hi j hj
theorem GM.two {c : Mc} (h : GM c) {x : In} (B : InB x) (h1 : x.m = 1 → x.z = 2) : GM (c.two x) := by
  have hr := h.read (m := x.m) B.z B.k0 B.k1 B.e0 B.e1
  have hv := readV_in h B.z B.k0 B.k1 B.e0 B.e1 h1 B.n7
  have hq := low_in hr B.z B.r0 B.r1
  unfold Mc.two
  cases (c.read x.z x.m x.k x.e).fine
  · exact hr
  · show GM (Mc.two' _ x _ _)
    unfold Mc.two'
    have c8 := cmpF_in9 hq hv (flags_of hr)
    have a3 := addF_bd x.z 0 ((c.read x.z x.m x.k x.e).low x.z x.r) (c.readV x.z x.m x.k x.e)
    have s4 := subF_bd x.z 0 ((c.read x.z x.m x.k x.e).low x.z x.r) (c.readV x.z x.m x.k x.e)
    have bb := okv_bits hq hv
    cases x.op == 8
    · cases x.op == 3
      · cases x.op == 4
        · cases x.op == 5
          · cases x.op == 6
            · cases x.op == 7
              · exact hr.data B.r0 B.r1 hv
              · exact hr.data B.r0 B.r1 bb.2.2
            · exact hr.data B.r0 B.r1 bb.2.1
          · exact hr.data B.r0 B.r1 bb.1
        · exact (hr.setF s4.1 s4.2).put B.r0 B.r1 (okv_subV B.z)
      · exact (hr.setF a3.1 a3.2).put B.r0 B.r1 (okv_addV hq)
    · exact hr.setF c8.1 c8.2
theorem readA_in {c : Mc} (h : GM c) {z m k e : Int} (k0 : 0 ≤ k) (k1 : k ≤ 3) (e0 : 0 ≤ e) (e1 : e ≤ 65535) : 0 ≤ c.readA z m k e ∧ c.readA z m k e ≤ 65535 := by
  unfold Mc.readA
  cases Mc.inReg m
  · exact placeV_in h.g k0 k1 e0 e1
  · exact ⟨Int.le_refl 0, (by decide : (0 : Int) ≤ 65535)⟩
theorem GM.one {c : Mc} (h : GM c) {x : In} (B : InB x) (hm : x.m ≠ 1) : GM (c.one x) := by
  have hr := h.read (m := x.m) B.z B.k0 B.k1 B.e0 B.e1
  have hv := readV_in h B.z B.k0 B.k1 B.e0 B.e1 (fun q => absurd q hm) B.n7
  have ha := readA_in (m := x.m) (z := x.z) h B.k0 B.k1 B.e0 B.e1
  have hp := plcA_in (m := x.m) (z := x.z) h B.k0 B.k1 B.e0 B.e1
  have z0 : okv x.z 0 = true := by rcases B.z with q | q <;> rw [q] <;> decide
  have ht := top_ok hv
  have hn : okv x.z (top x.z - 1 - c.readV x.z x.m x.k x.e) = true := by
    unfold okv; simp only [Bool.and_eq_true, Bool.or_eq_true, decide_eq_true_eq]; exact ⟨B.z, by omega, by omega⟩
  have f0 := logF_in x.z c.r.f 0 z0 (flags_of h)
  have f1 := logF_in x.z c.r.f _ hv (flags_of h)
  have f2 := logF_in x.z c.r.f _ hn (flags_of h)
  have fs := subF_bd x.z 0 0 (c.readV x.z x.m x.k x.e)
  unfold Mc.one
  cases x.s == 0
  · cases (c.read x.z x.m x.k x.e).fine
    · exact hr
    · show GM (Mc.one' c _ x _ _)
      unfold Mc.one'
      cases x.s == 1
      · cases x.s == 2
        · exact hr.setF f1.1 f1.2
        · exact (hr.write B.k0 B.k1 ha.1 ha.2 hn).setF f2.1 f2.2
      · exact (hr.write B.k0 B.k1 ha.1 ha.2 (okv_subV B.z)).setF fs.1 fs.2
  · exact ((h.place B.k0 B.k1).write B.k0 B.k1 hp.1 hp.2 z0).setF f0.1 f0.2
theorem okv_swp (v : Int) : okv 2 (swpV v) = true := by
  unfold swpV; split
  · rename_i q; have := top_ok q; simp [okv, top]; omega
  · simp [okv, top]
theorem okv_ext (v : Int) : okv 2 (extV v) = true := by
  unfold extV; split
  · simp [okv, top]; omega
  · simp [okv, top]
theorem GM.flow {c : Mc} (h : GM c) {x : In} (B : InB x) : GM (c.flow x) := by
  have hp := popV_in h
  have hp2 := popV_in h.pop
  unfold Mc.flow
  cases x.s == 0
  · cases x.s == 1
    · cases x.s == 3
      · cases x.s == 4
        · cases x.s == 5
          · cases x.s == 6
            · exact h
            · exact h.data B.r0 B.r1 (okv_ext _)
          · exact h.data B.r0 B.r1 (okv_swp _)
        · exact h.ft _
      · exact ⟨(h.with x.e).g, (h.with x.e).p0, (h.with x.e).p1, h.bx, h.ok, h.bl, h.bm, h.ac⟩
    · show GM (bif !c.pop.fine then c.pop else bif !c.pop.pop.fine then c.pop.pop else (c.pop.pop.setP c.pop.popV).setR (withR (c.pop.pop.setP c.pop.popV).r (c.popV % 1024)))
      cases c.pop.fine
      · exact h.pop
      · cases c.pop.pop.fine
        · exact h.pop.pop
        · exact (h.pop.pop.setP hp2.1 hp2.2).with _
  · exact h.pop.setP hp.1 hp.2
theorem or_in9 {f : Int} (b : Bool) (h : flags f = true) : 0 ≤ bits .or .i64 f (fl b 2) ∧ bits .or .i64 f (fl b 2) ≤ 31 := by
  obtain ⟨f0, f1⟩ := flags_ok h
  obtain ⟨j, hj, rfl⟩ := nat_of (n := 32) f0 (by omega)
  have q : ∀ j : Nat, j < 32 → ∀ b : Bool, 0 ≤ bits .or .i64 (j : Int) (fl b 2) ∧ bits .or .i64 (j : Int) (fl b 2) ≤ 31 := by decide +kernel
  exact q j hj b
theorem GM.product {c : Mc} (h : GM c) {x : In} (B : InB x) : GM (c.product x) := by
  have e2 : okv 2 x.e = true := by have := B.e0; have := B.e1; simp [okv, top]; omega
  have hr := h.read (z := 2) (m := x.m) (.inr rfl) B.k0 B.k1 B.e0 B.e1
  have hv := w_of9 (readV_in (z := 2) (m := x.m) h (.inr rfl) B.k0 B.k1 B.e0 B.e1 (fun _ => rfl) (fun _ => e2))
  have hd := hr.g.dw x.r.toNat (by have := B.r0; have := B.r1; omega)
  unfold Mc.product
  cases (c.read 2 x.m x.k x.e).fine
  · exact hr
  · show GM (Mc.prod' _ x _)
    unfold Mc.prod'
    cases x.op == 16
    · cases q : (c.readV 2 x.m x.k x.e == 0)
      · refine hr.data B.r0 B.r1 ?_
        have h0 : 0 ≤ el (c.read 2 x.m x.k x.e).r.xs x.r.toNat / c.readV 2 x.m x.k x.e := Int.ediv_nonneg hd.1 hv.1
        have h1 := Int.le_trans (Int.ediv_le_self (c.readV 2 x.m x.k x.e) hd.1) hd.2
        generalize el (c.read 2 x.m x.k x.e).r.xs x.r.toNat / c.readV 2 x.m x.k x.e = N at h0 h1
        simp [okv, top]; omega
      · exact hr.ft _
    · show GM (Mc.mulF _ x _)
      unfold Mc.mulF
      generalize el (c.read 2 x.m x.k x.e).r.xs x.r.toNat * c.readV 2 x.m x.k x.e = Q
      have g := hr.data (z := 2) (v := Q % 65536) B.r0 B.r1 (by simp [okv, top]; omega)
      have o := or_in9 (decide (65535 < Q)) (flags_of g)
      exact g.setF o.1 o.2
theorem GM.bcdI {c : Mc} (h : GM c) {x : In} (B : InB x) : GM (c.bcdI x) := by
  unfold Mc.bcdI
  generalize el c.r.xs x.r.toNat % 256 = a
  generalize el c.r.xs x.k.toNat % 256 = b
  unfold Mc.bcd'
  cases ha : bcd a
  · exact h.ft _
  · cases hb : bcd b
    · exact h.ft _
    · have h2 : two2 c.xOf a b = true := two2_mk (by unfold Mc.xOf; omega) (by unfold Mc.xOf; omega) ha hb
      have hc : 0 ≤ c.bcdC' x.s a b ∧ c.bcdC' x.s a b ≤ 1 := by
        unfold Mc.bcdC'; cases x.s == 1
        · exact aC_bd c.xOf a b
        · exact sC_bd c.xOf a b
      have hv : okv 1 (c.bcdV' x.s a b) = true := by
        unfold Mc.bcdV'; cases x.s == 1
        · exact okv_bcd (aV_bcd h2)
        · exact okv_bcd (sV_bcd h2)
      have hf : 0 ≤ c.bcdF x.s a b ∧ c.bcdF x.s a b ≤ 31 := by
        unfold Mc.bcdF fl; split <;> omega
      exact (h.setF hf.1 hf.2).put B.r0 B.r1 hv
theorem GM.jump {c : Mc} (h : GM c) {x : In} (B : InB x) (t : Int) : GM (c.jump x t) := by
  have hp := h.place (z := 2) (m := x.m) (e := x.e) B.k0 B.k1
  have ha := plcA_in (m := x.m) (z := 2) h B.k0 B.k1 B.e0 B.e1
  have hu := hp.push h.p0 h.p1
  unfold Mc.jump
  cases x.op == 13
  · cases x.s == 1
    · exact hp.setP ha.1 ha.2
    · show GM (bif _ then _ else _)
      cases ((c.place 2 x.m x.k x.e).push c.r.p).fine
      · exact hu
      · exact hu.setP ha.1 ha.2
  · show GM (bif _ then _ else _)
    cases tst (x.s + 8 * x.r) c.r.f
    · exact h
    · exact h.setP (by omega) (by omega)
theorem GM.doI {c : Mc} (h : GM c) {x : In} (hx : inOk x = true) (t : Int) : GM (c.doI x t) := by
  have B := inB_of hx
  have hrd := h.read (z := 2) (m := x.m) (.inr rfl) B.k0 B.k1 B.e0 B.e1
  have e2 : okv 2 x.e = true := by have := B.e0; have := B.e1; simp [okv, top]; omega
  have hv := w_of9 (readV_in (z := 2) (m := x.m) h (.inr rfl) B.k0 B.k1 B.e0 B.e1 (fun _ => rfl) (fun _ => e2))
  have hp := h.place (z := 2) (m := x.m) (e := x.e) B.k0 B.k1
  have ha := plcA_in (m := x.m) (z := 2) h B.k0 B.k1 B.e0 B.e1
  have hq := low_in h B.z B.r0 B.r1
  unfold Mc.doI
  cases q9 : (x.op == 9)
  · cases q10 : (x.op == 10)
    · cases q2 : (x.op == 2)
      · cases q11 : (x.op == 11)
        · cases q12 : (x.op == 12)
          · cases q13 : ((x.op == 13) || (x.op == 14))
            · cases q15 : (x.op == 15)
              · cases q16 : ((x.op == 16) || (x.op == 17))
                · cases q18 : (x.op == 18)
                  · cases q19 : (x.op == 19)
                    · refine h.two B ?_
                      simp only [inOk, Bool.and_eq_true] at hx
                      have hk := hx.2
                      unfold inKind at hk
                      cases e1 : ((x.op == 1) || ((x.op == 3) || ((x.op == 4) || ((x.op == 5) || ((x.op == 6) || ((x.op == 7) || (x.op == 8)))))))
                      · simp only [Bool.or_eq_false_iff] at q13 q16
                        rw [e1, q2, q9, q10, q11, q12, q13.1, q13.2, q16.1, q16.2, q18, q19, q15] at hk
                        cases hk
                      · rw [e1] at hk
                        intro q
                        simp [q] at hk
                        exact hk.2
                    · show GM (c.stat x)
                      unfold Mc.stat
                      cases x.s == 0
                      · have st := status_in h.g
                        exact h.setR (h.g.setD x.r.toNat st.1 (by omega)) ⟨h.p0, h.p1⟩
                      · exact h.with x.e
                  · exact h.bcdI B
                · exact h.product B
              · exact h.flow B
            · exact h.jump B t
          · have g := fit_of hq h.g.f0 h.g.f1 x.s B.s0 B.s1
            have ft := (goodK_ok g).2.2.2.2.2
            have k0 := B.k0
            have k1 := B.k1
            have ob : byOk x.s x.z c.r.f (c.low x.z x.r) (x.k + 1) = true := by unfold byOk cnt; rw [g]; simp; omega
            have fb := byF_bd (k := x.s) ft (x.k + 1).toNat
            have vb := st_fit (k := x.s) ft (x.k + 1).toNat
            show GM ((c.setF (byFl x.s x.z c.r.f (c.low x.z x.r) (x.k + 1))).put x.z x.r (byVal x.s x.z c.r.f (c.low x.z x.r) (x.k + 1)))
            unfold byFl byVal
            rw [if_pos ob, if_pos ob]
            refine (h.setF fb.1 fb.2.1).put B.r0 B.r1 ?_
            obtain ⟨v1, v2, v3, _⟩ := vb
            unfold okv; simp only [Bool.and_eq_true, Bool.or_eq_true, decide_eq_true_eq]; exact ⟨v1, v2, v3⟩
        · refine h.one B ?_
          simp only [inOk, Bool.and_eq_true] at hx
          have hk := hx.2
          have e : x.op = 11 := by simpa using q11
          unfold inKind at hk
          simp [e] at hk
          have := zm_in hk.2
          omega
      · have hp2 := plcA_in (m := x.m) (z := x.z) h B.k0 B.k1 B.e0 B.e1
        have f1 := logF_in x.z c.r.f _ hq (flags_of h)
        exact (((h.place B.k0 B.k1).write B.k0 B.k1 hp2.1 hp2.2 hq).setF f1.1 f1.2)
    · exact hp.setA _ ha.1 ha.2
  · show GM (bif _ then _ else _)
    cases (c.read 2 x.m x.k x.e).fine
    · exact hrd
    · exact hrd.setA _ hv.1 hv.2
end Go.Proofs.YtblddehlkaolbaaGreatDoor.Pl

namespace Go.Proofs.YtblddehlkaolbaaGreatDoor
open Go.RowKit
set_option linter.unusedVariables false
set_option maxRecDepth 100000 in
set_option maxHeartbeats 8000000 in
theorem mStep_do (w : World) (c : Pl.Cp) (a b e q : Option Addr) (ca cb ce cq : Nat) (ha : IRow w a c.r.xs) (hb : IRow w b c.r.ys) (he : IRow w e c.bx) (hq : IRow w q c.bl) (hok : Pl.cpOk c = true) (hl : c.bl.length = 5 * c.bm) (hf : (Pl.Mc.ofC c).fetch.fine = true) (hp : Pl.priv (Pl.Mc.ofC c).fetI = false) (hfs : (((Pl.Mc.ofC c).fetch.setP (((Pl.Mc.ofC c).r.p + 2 * (Pl.Mc.ofC c).fetN) % 65536)).doI (Pl.Mc.ofC c).fetI (Pl.Mc.ofC c).r.p).fine = true) :
    Calls Tryz.prog 18 #[.agg #[.slice a 4 ca, .slice b 4 cb, .int .i64 c.r.o, .int .i64 c.r.p, .int .i64 c.r.f, .int .i64 c.r.m, .bool c.r.s, .bool c.r.t, .slice e 512 ce, .slice q c.bm cq, .bool c.st, .bool c.ha]] w fun r w' => ∃ gd cd ga cA g1 c1 g2 c2 mid : Nat, r = .returned (.tuple #[.agg (cpuC (Pl.stepC c) gd cd ga cA g1 c1 g2 c2), .agg (ftC (Pl.stepF c))]) ∧ CO w' w.heap.size mid (Pl.stepC c) gd ga g1 g2 c2 ∧ Kept 0 0 w w' := by
  have HG := hide (Pl.GM.of hok hl c.st)
  have h4 := HG.out.g.d4
  have h5 := HG.out.g.a4
  have hbx := HG.out.bx
  have hbm := HG.out.bm
  have K0 := hide (kept_new (kept_new (kept_alloc w (.cells #[.slice a 4 ca, .slice b 4 cb, .int .i64 c.r.o, .int .i64 c.r.p, .int .i64 c.r.f, .int .i64 c.r.m, .bool c.r.s, .bool c.r.t, .slice e 512 ce, .slice q c.bm cq, .bool c.st, .bool c.ha] 36)) (.cells #[.slice none 0 0, .slice none 0 0, .int .i64 0, .int .i64 0, .int .i64 0, .int .i64 0, .bool false, .bool false, .slice none 0 0, .slice none 0 0, .bool false, .bool false] 36)) (.cells #[.int .i64 0, .int .i64 0, .int .i64 0, .int .i64 0, .bool false] 38))
  have B0 := ((Blk.new w #[.slice a 4 ca, .slice b 4 cb, .int .i64 c.r.o, .int .i64 c.r.p, .int .i64 c.r.f, .int .i64 c.r.m, .bool c.r.s, .bool c.r.t, .slice e 512 ce, .slice q c.bm cq, .bool c.st, .bool c.ha] 36).alloc (.cells #[.slice none 0 0, .slice none 0 0, .int .i64 0, .int .i64 0, .int .i64 0, .int .i64 0, .bool false, .bool false, .slice none 0 0, .slice none 0 0, .bool false, .bool false] 36)).alloc (.cells #[.int .i64 0, .int .i64 0, .int .i64 0, .int .i64 0, .bool false] 38)
  have B1 := (Blk.new (w.alloc (.cells #[.slice a 4 ca, .slice b 4 cb, .int .i64 c.r.o, .int .i64 c.r.p, .int .i64 c.r.f, .int .i64 c.r.m, .bool c.r.s, .bool c.r.t, .slice e 512 ce, .slice q c.bm cq, .bool c.st, .bool c.ha] 36)) #[.slice none 0 0, .slice none 0 0, .int .i64 0, .int .i64 0, .int .i64 0, .int .i64 0, .bool false, .bool false, .slice none 0 0, .slice none 0 0, .bool false, .bool false] 36).alloc (.cells #[.int .i64 0, .int .i64 0, .int .i64 0, .int .i64 0, .bool false] 38)
  have B2 := Blk.new ((w.alloc (.cells #[.slice a 4 ca, .slice b 4 cb, .int .i64 c.r.o, .int .i64 c.r.p, .int .i64 c.r.f, .int .i64 c.r.m, .bool c.r.s, .bool c.r.t, .slice e 512 ce, .slice q c.bm cq, .bool c.st, .bool c.ha] 36)).alloc (.cells #[.slice none 0 0, .slice none 0 0, .int .i64 0, .int .i64 0, .int .i64 0, .int .i64 0, .bool false, .bool false, .slice none 0 0, .slice none 0 0, .bool false, .bool false] 36)) #[.int .i64 0, .int .i64 0, .int .i64 0, .int .i64 0, .bool false] 38
  simp only [World.size_alloc] at B1 B2
  obtain ⟨X, hX⟩ : ∃ X : World, ((w.alloc (.cells #[.slice a 4 ca, .slice b 4 cb, .int .i64 c.r.o, .int .i64 c.r.p, .int .i64 c.r.f, .int .i64 c.r.m, .bool c.r.s, .bool c.r.t, .slice e 512 ce, .slice q c.bm cq, .bool c.st, .bool c.ha] 36)).alloc (.cells #[.slice none 0 0, .slice none 0 0, .int .i64 0, .int .i64 0, .int .i64 0, .int .i64 0, .bool false, .bool false, .slice none 0 0, .slice none 0 0, .bool false, .bool false] 36)).alloc (.cells #[.int .i64 0, .int .i64 0, .int .i64 0, .int .i64 0, .bool false] 38) = X := ⟨_, rfl⟩
  rw [hX] at K0 B0 B1 B2
  have hxs : X.heap.size = w.heap.size + 3 := by rw [← hX]; simp
  have HXS := hide hxs
  have HB0 := hide B0
  have HB1 := hide B1
  have HB2 := hide B2
  have HA := hide (ha.keptS K0.out)
  have HB := hide (hb.keptS K0.out)
  have HE := hide (he.keptS K0.out)
  have HQ := hide (hq.keptS K0.out)
  have HAw := hide ha
  have HBw := hide hb
  clear B0 B1 B2 ha hb he hq hxs
  have i0 := HB0.out.cell (i := 0) rfl
  have i1 := HB0.out.cell (i := 1) rfl
  have i2 := HB0.out.cell (i := 2) rfl
  have i3 := HB0.out.cell (i := 3) rfl
  have i4 := HB0.out.cell (i := 4) rfl
  have i5 := HB0.out.cell (i := 5) rfl
  have i6 := HB0.out.cell (i := 6) rfl
  have i7 := HB0.out.cell (i := 7) rfl
  have i8 := HB0.out.cell (i := 8) rfl
  have i9 := HB0.out.cell (i := 9) rfl
  have i10 := HB0.out.cell (i := 10) rfl
  have i11 := HB0.out.cell (i := 11) rfl
  obtain ⟨hin, hfn⟩ := Pl.fetch_ok hf
  have hpp0 : 0 ≤ (Pl.Mc.ofC c).r.p := HG.out.p0
  have hpp1 : (Pl.Mc.ofC c).r.p ≤ 65535 := HG.out.p1
  have HGd : Hid (Pl.GM ((Pl.Mc.ofC c).fetch.setP (((Pl.Mc.ofC c).r.p + 2 * (Pl.Mc.ofC c).fetN) % 65536))) := hide ((Pl.GM.fetch HG.out).setP (by omega) (by omega))
  have hfd : ((Pl.Mc.ofC c).fetch.setP (((Pl.Mc.ofC c).r.p + 2 * (Pl.Mc.ofC c).fetN) % 65536)).fine = true := hf
  have HGs := hide (HGd.out.doI hin (Pl.Mc.ofC c).r.p)
  have HDO := fun w9 mid hi p g3 h9 => mDo w9 X.heap.size mid hi p g3 ((Pl.Mc.ofC c).fetch.setP (((Pl.Mc.ofC c).r.p + 2 * (Pl.Mc.ofC c).fetN) % 65536)) (Pl.Mc.ofC c).fetI (Pl.Mc.ofC c).r.p h9 HGd.out hin hpp0 hpp1 hfd
  have ES : Pl.stepM c = ((Pl.Mc.ofC c).fetch.setP (((Pl.Mc.ofC c).r.p + 2 * (Pl.Mc.ofC c).fetN) % 65536)).doI (Pl.Mc.ofC c).fetI (Pl.Mc.ofC c).r.p := by
    have e1 : (Pl.Mc.ofC c).s1 = (Pl.Mc.ofC c).fetch := by unfold Pl.Mc.s1; rw [hf, hp]; rfl
    unfold Pl.stepM Pl.Mc.s2; rw [e1, hf]; rfl
  obtain ⟨sd, hsd⟩ : ∃ s, ((Pl.Mc.ofC c).fetch.setP (((Pl.Mc.ofC c).r.p + 2 * (Pl.Mc.ofC c).fetN) % 65536)).doI (Pl.Mc.ofC c).fetI (Pl.Mc.ofC c).r.p = s := ⟨_, rfl⟩
  rw [hsd] at HGs hfs ES
  simp only [hsd] at HDO
  clear hsd
  have EC : Hid (Pl.stepC c = sd.cpu false) := hide (by unfold Pl.stepC; rw [ES, hfs]; rfl)
  have EF : Hid (Pl.stepF c = Pl.ftNo) := hide (by unfold Pl.stepF; rw [ES, hfs]; rfl)
  have HBL : Hid (w.heap.size < X.heap.size) := hide (by have := HXS.out; omega)
  have HB1L : Hid (w.heap.size + 1 < X.heap.size) := hide (by have := HXS.out; omega)
  have HB2L : Hid (w.heap.size + 1 + 1 < X.heap.size) := hide (by have := HXS.out; omega)
  have HPV : Hid (Pl.priv ⟨(Pl.Mc.ofC c).fetI.op, (Pl.Mc.ofC c).fetI.z, (Pl.Mc.ofC c).fetI.r, (Pl.Mc.ofC c).fetI.m, (Pl.Mc.ofC c).fetI.k, (Pl.Mc.ofC c).fetI.e, (Pl.Mc.ofC c).fetI.s⟩ = false) := hide hp
  have hmk := mask16 ((Pl.Mc.ofC c).r.p + 2 * (Pl.Mc.ofC c).fetN)
  have hn0 : 1 ≤ (Pl.Mc.ofC c).fetN := by omega
  have hn1 : (Pl.Mc.ofC c).fetN ≤ 2 := by omega
  clear ES hp hfn hin hfd
  go_enter Tryz.func18, Tryz.ntmps18
  go_wp2_with (first | (go_at_call 41; have z9 := HM6; refine (mFine _ X.heap.size mid W1.heap.size p g6 _ HM6.out).mono ?_; rintro e9 w9 ⟨rfl, hw⟩; have hw2 := hw.symm; clear hw; subst hw2; rw [hfs]) | (go_at_call 43; have z9 := HMd; refine (HDO _ mid W1.heap.size p g3 HMd.out).mono ?_; rintro e9 W6 ⟨rfl, g6, hm9, hb9⟩; have HM6 := hide hm9; have HL6 := hide (HLd.out.trans (below_since hb9 HMd.out.logLo HLd.out.size)); have HK6 := hide (kept_lower K0.out HL6.out K0.out.size); have HZ6 := hide (HB0.out.below HL6.out HBL.out); clear hb9 x0 x1 x2 x3 x4 x5 x6 t3 t6 t11 f3 f11 i0 i1 i2 i3 i4 i5 i6 i7 i8 i9 i10 i11; have i0 := HZ6.out.cell (i := 0) rfl; have i1 := HZ6.out.cell (i := 1) rfl; have i2 := HZ6.out.cell (i := 2) rfl; have i3 := HZ6.out.cell (i := 3) rfl; have i4 := HZ6.out.cell (i := 4) rfl; have i5 := HZ6.out.cell (i := 5) rfl; have i6 := HZ6.out.cell (i := 6) rfl; have i7 := HZ6.out.cell (i := 7) rfl; have i8 := HZ6.out.cell (i := 8) rfl; have i9 := HZ6.out.cell (i := 9) rfl; have i10 := HZ6.out.cell (i := 10) rfl; have i11 := HZ6.out.cell (i := 11) rfl; obtain ⟨gd6, cd6, ga6, ca6, g16, c16, c26, hB9, hO9⟩ := hm9; have HB6 := hide hB9; have HO6 := hide hO9; have hpw6 := hB9.lt; clear hB9 hO9) | (go_at_call 41; have z9 := HMd; refine (mFine _ X.heap.size mid W1.heap.size p g3 _ HM5.out).mono ?_; rintro e9 w9 ⟨rfl, hw⟩; have hw2 := hw.symm; clear hw; subst hw2; rw [hf]) | (go_at_call 41; have z9 := HBm; refine (mFine _ X.heap.size mid W1.heap.size p g3 _ HMZ.out).mono ?_; rintro e9 w9 ⟨rfl, hw⟩; have hw2 := hw.symm; clear hw; subst hw2; rw [hf]) | (go_at_call 39; refine (mStart _ c a b e q ca cb ce cq HA.out HB.out HE.out HQ.out h4 h5 hbx hl hbm).mono ?_; rintro e9 W1 ⟨mid, p, g2, rfl, hm9, hp9, k9⟩; have HM1 := hide hm9; have HK1 := hide k9; have HP1 := hide hp9; have HL1 := hide (below_kpt k9 (Nat.le_refl X.heap.size)); obtain ⟨_, _, _, _, _, _, _, hB9, _⟩ := hm9; have hpw1 := hB9.lt; have t3 := (MB.cells hB9).2.2.2.1; clear hp9 k9 hB9) | (go_at_call 40; refine (mFetch _ X.heap.size mid W1.heap.size p g2 (Pl.Mc.ofC c) HM1.out HG.out).mono ?_; rintro e9 W2 ⟨rfl, g3, hm9, hb9⟩; have HM2 := hide hm9; have HS2 := hide hb9; have HL2 := hide (HL1.out.trans (below_since hb9 HM1.out.logLo HL1.out.size)); clear hm9 hb9 t3; unfold insC; have KZ := kept_alloc W2 (.cells #[.int .i64 (Pl.Mc.ofC c).fetI.op, .int .i64 (Pl.Mc.ofC c).fetI.z, .int .i64 (Pl.Mc.ofC c).fetI.r, .int .i64 (Pl.Mc.ofC c).fetI.m, .int .i64 (Pl.Mc.ofC c).fetI.k, .int .i64 (Pl.Mc.ofC c).fetI.e, .int .i64 (Pl.Mc.ofC c).fetI.s] 79); have BZ := Blk.new W2 #[.int .i64 (Pl.Mc.ofC c).fetI.op, .int .i64 (Pl.Mc.ofC c).fetI.z, .int .i64 (Pl.Mc.ofC c).fetI.r, .int .i64 (Pl.Mc.ofC c).fetI.m, .int .i64 (Pl.Mc.ofC c).fetI.k, .int .i64 (Pl.Mc.ofC c).fetI.e, .int .i64 (Pl.Mc.ofC c).fetI.s] 79; obtain ⟨Z, hZ⟩ : ∃ Z : World, W2.alloc (.cells #[.int .i64 (Pl.Mc.ofC c).fetI.op, .int .i64 (Pl.Mc.ofC c).fetI.z, .int .i64 (Pl.Mc.ofC c).fetI.r, .int .i64 (Pl.Mc.ofC c).fetI.m, .int .i64 (Pl.Mc.ofC c).fetI.k, .int .i64 (Pl.Mc.ofC c).fetI.e, .int .i64 (Pl.Mc.ofC c).fetI.s] 79) = Z := ⟨_, rfl⟩; rw [hZ] at KZ BZ; have HBZ := hide BZ; have HMZ := hide (HM2.out.any KZ); have HLZ := hide (HL2.out.trans (below_kpt KZ (Nat.le_trans (Nat.le_refl X.heap.size) HL2.out.size))); have HKZ := hide (kept_lower K0.out HLZ.out K0.out.size); clear KZ BZ; have HZB := hide (HB0.out.below HLZ.out HBL.out); clear i0 i1 i2 i3 i4 i5 i6 i7 i8 i9 i10 i11; have i0 := HZB.out.cell (i := 0) rfl; have i1 := HZB.out.cell (i := 1) rfl; have i2 := HZB.out.cell (i := 2) rfl; have i3 := HZB.out.cell (i := 3) rfl; have i4 := HZB.out.cell (i := 4) rfl; have i5 := HZB.out.cell (i := 5) rfl; have i6 := HZB.out.cell (i := 6) rfl; have i7 := HZB.out.cell (i := 7) rfl; have i8 := HZB.out.cell (i := 8) rfl; have i9 := HZB.out.cell (i := 9) rfl; have i10 := HZB.out.cell (i := 10) rfl; have i11 := HZB.out.cell (i := 11) rfl; have hzm := HMZ.out; obtain ⟨gd, cd, ga, cA, g1, c1, c2, hB9, hO9⟩ := hzm; have HBm := hide hB9; have HOm := hide hO9; have hpz := hB9.lt; clear hB9 hO9; have x0 := HBZ.out.cell (i := 0) rfl; have x1 := HBZ.out.cell (i := 1) rfl; have x2 := HBZ.out.cell (i := 2) rfl; have x3 := HBZ.out.cell (i := 3) rfl; have x4 := HBZ.out.cell (i := 4) rfl; have x5 := HBZ.out.cell (i := 5) rfl; have x6 := HBZ.out.cell (i := 6) rfl; have hzx := HBZ.out.lt) | (go_at_call 42; have z9 := HBm; refine (specPriv _ (Pl.Mc.ofC c).fetI.op (Pl.Mc.ofC c).fetI.z (Pl.Mc.ofC c).fetI.r (Pl.Mc.ofC c).fetI.m (Pl.Mc.ofC c).fetI.k (Pl.Mc.ofC c).fetI.e (Pl.Mc.ofC c).fetI.s).mono ?_; rintro e9 W5 ⟨rfl, k9⟩; rw [HPV.out]; have HM5 := hide (HMZ.out.any k9); have HB5 := hide (HBm.out.any k9); have HO5 := hide (HOm.out.any k9); have HZ5 := hide (HZB.out.kept0 k9); have HL5 := hide (HLZ.out.trans (below_kpt k9 (Nat.le_trans (Nat.le_refl X.heap.size) HLZ.out.size))); have HK5 := hide (HKZ.out.trans k9); have HX5 := hide (HBZ.out.kept0 k9); clear k9 x0 x1 x2 x3 x4 x5 x6 i0 i1 i2 i3 i4 i5 i6 i7 i8 i9 i10 i11; have i0 := HZ5.out.cell (i := 0) rfl; have i1 := HZ5.out.cell (i := 1) rfl; have i2 := HZ5.out.cell (i := 2) rfl; have i3 := HZ5.out.cell (i := 3) rfl; have i4 := HZ5.out.cell (i := 4) rfl; have i5 := HZ5.out.cell (i := 5) rfl; have i6 := HZ5.out.cell (i := 6) rfl; have i7 := HZ5.out.cell (i := 7) rfl; have i8 := HZ5.out.cell (i := 8) rfl; have i9 := HZ5.out.cell (i := 9) rfl; have i10 := HZ5.out.cell (i := 10) rfl; have i11 := HZ5.out.cell (i := 11) rfl; have x0 := HX5.out.cell (i := 0) rfl; have x1 := HX5.out.cell (i := 1) rfl; have x2 := HX5.out.cell (i := 2) rfl; have x3 := HX5.out.cell (i := 3) rfl; have x4 := HX5.out.cell (i := 4) rfl; have x5 := HX5.out.cell (i := 5) rfl; have x6 := HX5.out.cell (i := 6) rfl; obtain ⟨t0, t1, t2, t3, t4, t5, t6, t7, t8, t9, t10, t11, _⟩ := HB5.out.cells; have f11 := HB5.out.frozen 11; have f3 := HB5.out.frozen 3; have hpw5 := HB5.out.lt; clear t0 t1 t2 t4 t5 t7 t8 t9 t10; have HMd : Hid (MAt (W5.setCell ⟨p, 3, none⟩ (.int .i64 (((Pl.Mc.ofC c).r.p + 2 * (Pl.Mc.ofC c).fetN) % 65536))) X.heap.size mid W1.heap.size p g3 ((Pl.Mc.ofC c).fetch.setP (((Pl.Mc.ofC c).r.p + 2 * (Pl.Mc.ofC c).fetN) % 65536))) := hide (HM5.out.cP (((Pl.Mc.ofC c).r.p + 2 * (Pl.Mc.ofC c).fetN) % 65536)); have HLd := hide (HL5.out.setCell (p := ⟨p, 3, none⟩) HP1.out (.int .i64 (((Pl.Mc.ofC c).r.p + 2 * (Pl.Mc.ofC c).fetN) % 65536))); have hpx : p < W2.heap.size := HM2.out.lo.2.2.2.2.1) | (go_at_call 44; refine (mCpu _ X.heap.size mid W1.heap.size p g6 sd HM6.out HGs.out).mono ?_; unfold cpuC; rintro e9 W4 ⟨gd4, cd4, ga4, ca4, g14, c14, g24, c24, mid4, rfl, hc9, k9⟩; have HC := hide hc9; have HK4 := hide (HK6.out.trans k9); have HO14 := hide ((HB1.out.below HL6.out HB1L.out).kept0 k9); have HO24 := hide ((HB2.out.below HL6.out HB2L.out).kept0 k9); have hs4 := HO24.out.lt; clear hc9 k9; have o0 := HO14.out.cell (i := 0) rfl; have of0 := HO14.out.frozen 0; have o1 := HO14.out.cell (i := 1) rfl; have of1 := HO14.out.frozen 1; have o2 := HO14.out.cell (i := 2) rfl; have of2 := HO14.out.frozen 2; have o3 := HO14.out.cell (i := 3) rfl; have of3 := HO14.out.frozen 3; have o4 := HO14.out.cell (i := 4) rfl; have of4 := HO14.out.frozen 4; have o5 := HO14.out.cell (i := 5) rfl; have of5 := HO14.out.frozen 5; have o6 := HO14.out.cell (i := 6) rfl; have of6 := HO14.out.frozen 6; have o7 := HO14.out.cell (i := 7) rfl; have of7 := HO14.out.frozen 7; have o8 := HO14.out.cell (i := 8) rfl; have of8 := HO14.out.frozen 8; have o9 := HO14.out.cell (i := 9) rfl; have of9 := HO14.out.frozen 9; have o10 := HO14.out.cell (i := 10) rfl; have of10 := HO14.out.frozen 10; have o11 := HO14.out.cell (i := 11) rfl; have of11 := HO14.out.frozen 11; have y0 := HO24.out.cell (i := 0) rfl; have yf0 := HO24.out.frozen 0; have y1 := HO24.out.cell (i := 1) rfl; have yf1 := HO24.out.frozen 1; have y2 := HO24.out.cell (i := 2) rfl; have yf2 := HO24.out.frozen 2; have y3 := HO24.out.cell (i := 3) rfl; have yf3 := HO24.out.frozen 3; have y4 := HO24.out.cell (i := 4) rfl; have yf4 := HO24.out.frozen 4))
  have hxs := HXS.out
  have hl6 := HL6.out.size
  refine bodyPost_ret (v := .tuple #[.agg (cpuC (Pl.stepC c) gd4 cd4 ga4 ca4 g14 c14 g24 c24), .agg (ftC (Pl.stepF c))]) ?_ rfl ⟨gd4, cd4, ga4, ca4, g14, c14, g24, c24, mid4, rfl, ?co, ?kw⟩
  case co =>
    rw [EC.out]
    refine HC.out.pastS (x := w.heap.size + 1) (y := w.heap.size + 3) (by omega) (by omega) ?_
    repeat (first | with_reducible exact Kept.refl _ _ _ | refine kept_set ?_ _ _ _ (.inl (by omega)))
  case kw => repeat (first | with_reducible exact HK4.out | refine kept_set ?_ _ _ _ (.inr (by omega)))
  rw [results_cell2 rfl, EC.out, EF.out]; go_simp; exact ⟨rfl, rfl⟩
set_option maxRecDepth 100000 in
set_option maxHeartbeats 8000000 in
theorem mStep_dof (w : World) (c : Pl.Cp) (a b e q : Option Addr) (ca cb ce cq : Nat) (ha : IRow w a c.r.xs) (hb : IRow w b c.r.ys) (he : IRow w e c.bx) (hq : IRow w q c.bl) (hok : Pl.cpOk c = true) (hl : c.bl.length = 5 * c.bm) (hf : (Pl.Mc.ofC c).fetch.fine = true) (hp : Pl.priv (Pl.Mc.ofC c).fetI = false) (hfs : (((Pl.Mc.ofC c).fetch.setP (((Pl.Mc.ofC c).r.p + 2 * (Pl.Mc.ofC c).fetN) % 65536)).doI (Pl.Mc.ofC c).fetI (Pl.Mc.ofC c).r.p).fine = false) :
    Calls Tryz.prog 18 #[.agg #[.slice a 4 ca, .slice b 4 cb, .int .i64 c.r.o, .int .i64 c.r.p, .int .i64 c.r.f, .int .i64 c.r.m, .bool c.r.s, .bool c.r.t, .slice e 512 ce, .slice q c.bm cq, .bool c.st, .bool c.ha]] w fun r w' => ∃ gd cd ga cA g1 c1 g2 c2 mid : Nat, r = .returned (.tuple #[.agg (cpuC (Pl.stepC c) gd cd ga cA g1 c1 g2 c2), .agg (ftC (Pl.stepF c))]) ∧ CO w' w.heap.size mid (Pl.stepC c) gd ga g1 g2 c2 ∧ Kept 0 0 w w' := by
  have HG := hide (Pl.GM.of hok hl c.st)
  have h4 := HG.out.g.d4
  have h5 := HG.out.g.a4
  have hbx := HG.out.bx
  have hbm := HG.out.bm
  have K0 := hide (kept_new (kept_new (kept_alloc w (.cells #[.slice a 4 ca, .slice b 4 cb, .int .i64 c.r.o, .int .i64 c.r.p, .int .i64 c.r.f, .int .i64 c.r.m, .bool c.r.s, .bool c.r.t, .slice e 512 ce, .slice q c.bm cq, .bool c.st, .bool c.ha] 36)) (.cells #[.slice none 0 0, .slice none 0 0, .int .i64 0, .int .i64 0, .int .i64 0, .int .i64 0, .bool false, .bool false, .slice none 0 0, .slice none 0 0, .bool false, .bool false] 36)) (.cells #[.int .i64 0, .int .i64 0, .int .i64 0, .int .i64 0, .bool false] 38))
  have B0 := ((Blk.new w #[.slice a 4 ca, .slice b 4 cb, .int .i64 c.r.o, .int .i64 c.r.p, .int .i64 c.r.f, .int .i64 c.r.m, .bool c.r.s, .bool c.r.t, .slice e 512 ce, .slice q c.bm cq, .bool c.st, .bool c.ha] 36).alloc (.cells #[.slice none 0 0, .slice none 0 0, .int .i64 0, .int .i64 0, .int .i64 0, .int .i64 0, .bool false, .bool false, .slice none 0 0, .slice none 0 0, .bool false, .bool false] 36)).alloc (.cells #[.int .i64 0, .int .i64 0, .int .i64 0, .int .i64 0, .bool false] 38)
  have B1 := (Blk.new (w.alloc (.cells #[.slice a 4 ca, .slice b 4 cb, .int .i64 c.r.o, .int .i64 c.r.p, .int .i64 c.r.f, .int .i64 c.r.m, .bool c.r.s, .bool c.r.t, .slice e 512 ce, .slice q c.bm cq, .bool c.st, .bool c.ha] 36)) #[.slice none 0 0, .slice none 0 0, .int .i64 0, .int .i64 0, .int .i64 0, .int .i64 0, .bool false, .bool false, .slice none 0 0, .slice none 0 0, .bool false, .bool false] 36).alloc (.cells #[.int .i64 0, .int .i64 0, .int .i64 0, .int .i64 0, .bool false] 38)
  have B2 := Blk.new ((w.alloc (.cells #[.slice a 4 ca, .slice b 4 cb, .int .i64 c.r.o, .int .i64 c.r.p, .int .i64 c.r.f, .int .i64 c.r.m, .bool c.r.s, .bool c.r.t, .slice e 512 ce, .slice q c.bm cq, .bool c.st, .bool c.ha] 36)).alloc (.cells #[.slice none 0 0, .slice none 0 0, .int .i64 0, .int .i64 0, .int .i64 0, .int .i64 0, .bool false, .bool false, .slice none 0 0, .slice none 0 0, .bool false, .bool false] 36)) #[.int .i64 0, .int .i64 0, .int .i64 0, .int .i64 0, .bool false] 38
  simp only [World.size_alloc] at B1 B2
  obtain ⟨X, hX⟩ : ∃ X : World, ((w.alloc (.cells #[.slice a 4 ca, .slice b 4 cb, .int .i64 c.r.o, .int .i64 c.r.p, .int .i64 c.r.f, .int .i64 c.r.m, .bool c.r.s, .bool c.r.t, .slice e 512 ce, .slice q c.bm cq, .bool c.st, .bool c.ha] 36)).alloc (.cells #[.slice none 0 0, .slice none 0 0, .int .i64 0, .int .i64 0, .int .i64 0, .int .i64 0, .bool false, .bool false, .slice none 0 0, .slice none 0 0, .bool false, .bool false] 36)).alloc (.cells #[.int .i64 0, .int .i64 0, .int .i64 0, .int .i64 0, .bool false] 38) = X := ⟨_, rfl⟩
  rw [hX] at K0 B0 B1 B2
  have hxs : X.heap.size = w.heap.size + 3 := by rw [← hX]; simp
  have HXS := hide hxs
  have HB0 := hide B0
  have HB1 := hide B1
  have HB2 := hide B2
  have HA := hide (ha.keptS K0.out)
  have HB := hide (hb.keptS K0.out)
  have HE := hide (he.keptS K0.out)
  have HQ := hide (hq.keptS K0.out)
  have HAw := hide ha
  have HBw := hide hb
  clear B0 B1 B2 ha hb he hq hxs
  have i0 := HB0.out.cell (i := 0) rfl
  have i1 := HB0.out.cell (i := 1) rfl
  have i2 := HB0.out.cell (i := 2) rfl
  have i3 := HB0.out.cell (i := 3) rfl
  have i4 := HB0.out.cell (i := 4) rfl
  have i5 := HB0.out.cell (i := 5) rfl
  have i6 := HB0.out.cell (i := 6) rfl
  have i7 := HB0.out.cell (i := 7) rfl
  have i8 := HB0.out.cell (i := 8) rfl
  have i9 := HB0.out.cell (i := 9) rfl
  have i10 := HB0.out.cell (i := 10) rfl
  have i11 := HB0.out.cell (i := 11) rfl
  obtain ⟨hin, hfn⟩ := Pl.fetch_ok hf
  have hpp0 : 0 ≤ (Pl.Mc.ofC c).r.p := HG.out.p0
  have hpp1 : (Pl.Mc.ofC c).r.p ≤ 65535 := HG.out.p1
  have HGd : Hid (Pl.GM ((Pl.Mc.ofC c).fetch.setP (((Pl.Mc.ofC c).r.p + 2 * (Pl.Mc.ofC c).fetN) % 65536))) := hide ((Pl.GM.fetch HG.out).setP (by omega) (by omega))
  have hfd : ((Pl.Mc.ofC c).fetch.setP (((Pl.Mc.ofC c).r.p + 2 * (Pl.Mc.ofC c).fetN) % 65536)).fine = true := hf
  have HGs := hide (HGd.out.doI hin (Pl.Mc.ofC c).r.p)
  have HDO := fun w9 mid hi p g3 h9 => mDo w9 X.heap.size mid hi p g3 ((Pl.Mc.ofC c).fetch.setP (((Pl.Mc.ofC c).r.p + 2 * (Pl.Mc.ofC c).fetN) % 65536)) (Pl.Mc.ofC c).fetI (Pl.Mc.ofC c).r.p h9 HGd.out hin hpp0 hpp1 hfd
  have ES : Pl.stepM c = ((Pl.Mc.ofC c).fetch.setP (((Pl.Mc.ofC c).r.p + 2 * (Pl.Mc.ofC c).fetN) % 65536)).doI (Pl.Mc.ofC c).fetI (Pl.Mc.ofC c).r.p := by
    have e1 : (Pl.Mc.ofC c).s1 = (Pl.Mc.ofC c).fetch := by unfold Pl.Mc.s1; rw [hf, hp]; rfl
    unfold Pl.stepM Pl.Mc.s2; rw [e1, hf]; rfl
  obtain ⟨sd, hsd⟩ : ∃ s, ((Pl.Mc.ofC c).fetch.setP (((Pl.Mc.ofC c).r.p + 2 * (Pl.Mc.ofC c).fetN) % 65536)).doI (Pl.Mc.ofC c).fetI (Pl.Mc.ofC c).r.p = s := ⟨_, rfl⟩
  rw [hsd] at HGs hfs ES
  simp only [hsd] at HDO
  clear hsd
  have EC : Hid (Pl.stepC c = Pl.Mc.cpu { (sd.setR c.r) with st := c.st } false) := hide (by unfold Pl.stepC; rw [ES, hfs]; rfl)
  have EF : Hid (Pl.stepF c = sd.f) := hide (by unfold Pl.stepF; rw [ES, hfs]; rfl)
  have HBL : Hid (w.heap.size < X.heap.size) := hide (by have := HXS.out; omega)
  have HPV : Hid (Pl.priv ⟨(Pl.Mc.ofC c).fetI.op, (Pl.Mc.ofC c).fetI.z, (Pl.Mc.ofC c).fetI.r, (Pl.Mc.ofC c).fetI.m, (Pl.Mc.ofC c).fetI.k, (Pl.Mc.ofC c).fetI.e, (Pl.Mc.ofC c).fetI.s⟩ = false) := hide hp
  have hmk := mask16 ((Pl.Mc.ofC c).r.p + 2 * (Pl.Mc.ofC c).fetN)
  have hn0 : 1 ≤ (Pl.Mc.ofC c).fetN := by omega
  have hn1 : (Pl.Mc.ofC c).fetN ≤ 2 := by omega
  clear ES hp hfn hin hfd
  go_enter Tryz.func18, Tryz.ntmps18
  go_wp2_with (first | (go_at_call 41; have z9 := HM6; refine (mFine _ X.heap.size mid W1.heap.size p g6 _ HM6.out).mono ?_; rintro e9 w9 ⟨rfl, hw⟩; have hw2 := hw.symm; clear hw; subst hw2; rw [hfs]) | (go_at_call 43; have z9 := HMd; refine (HDO _ mid W1.heap.size p g3 HMd.out).mono ?_; rintro e9 W6 ⟨rfl, g6, hm9, hb9⟩; have HM6 := hide hm9; have HL6 := hide (HLd.out.trans (below_since hb9 HMd.out.logLo HLd.out.size)); have HK6 := hide (kept_lower K0.out HL6.out K0.out.size); have HZ6 := hide (HB0.out.below HL6.out HBL.out); clear hb9 x0 x1 x2 x3 x4 x5 x6 t3 t6 t11 f3 f11 i0 i1 i2 i3 i4 i5 i6 i7 i8 i9 i10 i11; have i0 := HZ6.out.cell (i := 0) rfl; have i1 := HZ6.out.cell (i := 1) rfl; have i2 := HZ6.out.cell (i := 2) rfl; have i3 := HZ6.out.cell (i := 3) rfl; have i4 := HZ6.out.cell (i := 4) rfl; have i5 := HZ6.out.cell (i := 5) rfl; have i6 := HZ6.out.cell (i := 6) rfl; have i7 := HZ6.out.cell (i := 7) rfl; have i8 := HZ6.out.cell (i := 8) rfl; have i9 := HZ6.out.cell (i := 9) rfl; have i10 := HZ6.out.cell (i := 10) rfl; have i11 := HZ6.out.cell (i := 11) rfl; obtain ⟨gd6, cd6, ga6, ca6, g16, c16, c26, hB9, hO9⟩ := hm9; have HB6 := hide hB9; have HO6 := hide hO9; have hpw6 := hB9.lt; clear hB9 hO9) | (go_at_call 41; have z9 := HMd; refine (mFine _ X.heap.size mid W1.heap.size p g3 _ HM5.out).mono ?_; rintro e9 w9 ⟨rfl, hw⟩; have hw2 := hw.symm; clear hw; subst hw2; rw [hf]) | (go_at_call 41; have z9 := HBm; refine (mFine _ X.heap.size mid W1.heap.size p g3 _ HMZ.out).mono ?_; rintro e9 w9 ⟨rfl, hw⟩; have hw2 := hw.symm; clear hw; subst hw2; rw [hf]) | (go_at_call 39; refine (mStart _ c a b e q ca cb ce cq HA.out HB.out HE.out HQ.out h4 h5 hbx hl hbm).mono ?_; rintro e9 W1 ⟨mid, p, g2, rfl, hm9, hp9, k9⟩; have HM1 := hide hm9; have HK1 := hide k9; have HP1 := hide hp9; have HL1 := hide (below_kpt k9 (Nat.le_refl X.heap.size)); obtain ⟨_, _, _, _, _, _, _, hB9, _⟩ := hm9; have hpw1 := hB9.lt; have t3 := (MB.cells hB9).2.2.2.1; clear hp9 k9 hB9) | (go_at_call 40; refine (mFetch _ X.heap.size mid W1.heap.size p g2 (Pl.Mc.ofC c) HM1.out HG.out).mono ?_; rintro e9 W2 ⟨rfl, g3, hm9, hb9⟩; have HM2 := hide hm9; have HS2 := hide hb9; have HL2 := hide (HL1.out.trans (below_since hb9 HM1.out.logLo HL1.out.size)); clear hm9 hb9 t3; unfold insC; have KZ := kept_alloc W2 (.cells #[.int .i64 (Pl.Mc.ofC c).fetI.op, .int .i64 (Pl.Mc.ofC c).fetI.z, .int .i64 (Pl.Mc.ofC c).fetI.r, .int .i64 (Pl.Mc.ofC c).fetI.m, .int .i64 (Pl.Mc.ofC c).fetI.k, .int .i64 (Pl.Mc.ofC c).fetI.e, .int .i64 (Pl.Mc.ofC c).fetI.s] 79); have BZ := Blk.new W2 #[.int .i64 (Pl.Mc.ofC c).fetI.op, .int .i64 (Pl.Mc.ofC c).fetI.z, .int .i64 (Pl.Mc.ofC c).fetI.r, .int .i64 (Pl.Mc.ofC c).fetI.m, .int .i64 (Pl.Mc.ofC c).fetI.k, .int .i64 (Pl.Mc.ofC c).fetI.e, .int .i64 (Pl.Mc.ofC c).fetI.s] 79; obtain ⟨Z, hZ⟩ : ∃ Z : World, W2.alloc (.cells #[.int .i64 (Pl.Mc.ofC c).fetI.op, .int .i64 (Pl.Mc.ofC c).fetI.z, .int .i64 (Pl.Mc.ofC c).fetI.r, .int .i64 (Pl.Mc.ofC c).fetI.m, .int .i64 (Pl.Mc.ofC c).fetI.k, .int .i64 (Pl.Mc.ofC c).fetI.e, .int .i64 (Pl.Mc.ofC c).fetI.s] 79) = Z := ⟨_, rfl⟩; rw [hZ] at KZ BZ; have HBZ := hide BZ; have HMZ := hide (HM2.out.any KZ); have HLZ := hide (HL2.out.trans (below_kpt KZ (Nat.le_trans (Nat.le_refl X.heap.size) HL2.out.size))); have HKZ := hide (kept_lower K0.out HLZ.out K0.out.size); clear KZ BZ; have HZB := hide (HB0.out.below HLZ.out HBL.out); clear i0 i1 i2 i3 i4 i5 i6 i7 i8 i9 i10 i11; have i0 := HZB.out.cell (i := 0) rfl; have i1 := HZB.out.cell (i := 1) rfl; have i2 := HZB.out.cell (i := 2) rfl; have i3 := HZB.out.cell (i := 3) rfl; have i4 := HZB.out.cell (i := 4) rfl; have i5 := HZB.out.cell (i := 5) rfl; have i6 := HZB.out.cell (i := 6) rfl; have i7 := HZB.out.cell (i := 7) rfl; have i8 := HZB.out.cell (i := 8) rfl; have i9 := HZB.out.cell (i := 9) rfl; have i10 := HZB.out.cell (i := 10) rfl; have i11 := HZB.out.cell (i := 11) rfl; have hzm := HMZ.out; obtain ⟨gd, cd, ga, cA, g1, c1, c2, hB9, hO9⟩ := hzm; have HBm := hide hB9; have HOm := hide hO9; have hpz := hB9.lt; clear hB9 hO9; have x0 := HBZ.out.cell (i := 0) rfl; have x1 := HBZ.out.cell (i := 1) rfl; have x2 := HBZ.out.cell (i := 2) rfl; have x3 := HBZ.out.cell (i := 3) rfl; have x4 := HBZ.out.cell (i := 4) rfl; have x5 := HBZ.out.cell (i := 5) rfl; have x6 := HBZ.out.cell (i := 6) rfl; have hzx := HBZ.out.lt) | (go_at_call 42; have z9 := HBm; refine (specPriv _ (Pl.Mc.ofC c).fetI.op (Pl.Mc.ofC c).fetI.z (Pl.Mc.ofC c).fetI.r (Pl.Mc.ofC c).fetI.m (Pl.Mc.ofC c).fetI.k (Pl.Mc.ofC c).fetI.e (Pl.Mc.ofC c).fetI.s).mono ?_; rintro e9 W5 ⟨rfl, k9⟩; rw [HPV.out]; have HM5 := hide (HMZ.out.any k9); have HB5 := hide (HBm.out.any k9); have HO5 := hide (HOm.out.any k9); have HZ5 := hide (HZB.out.kept0 k9); have HL5 := hide (HLZ.out.trans (below_kpt k9 (Nat.le_trans (Nat.le_refl X.heap.size) HLZ.out.size))); have HK5 := hide (HKZ.out.trans k9); have HX5 := hide (HBZ.out.kept0 k9); clear k9 x0 x1 x2 x3 x4 x5 x6 i0 i1 i2 i3 i4 i5 i6 i7 i8 i9 i10 i11; have i0 := HZ5.out.cell (i := 0) rfl; have i1 := HZ5.out.cell (i := 1) rfl; have i2 := HZ5.out.cell (i := 2) rfl; have i3 := HZ5.out.cell (i := 3) rfl; have i4 := HZ5.out.cell (i := 4) rfl; have i5 := HZ5.out.cell (i := 5) rfl; have i6 := HZ5.out.cell (i := 6) rfl; have i7 := HZ5.out.cell (i := 7) rfl; have i8 := HZ5.out.cell (i := 8) rfl; have i9 := HZ5.out.cell (i := 9) rfl; have i10 := HZ5.out.cell (i := 10) rfl; have i11 := HZ5.out.cell (i := 11) rfl; have x0 := HX5.out.cell (i := 0) rfl; have x1 := HX5.out.cell (i := 1) rfl; have x2 := HX5.out.cell (i := 2) rfl; have x3 := HX5.out.cell (i := 3) rfl; have x4 := HX5.out.cell (i := 4) rfl; have x5 := HX5.out.cell (i := 5) rfl; have x6 := HX5.out.cell (i := 6) rfl; obtain ⟨t0, t1, t2, t3, t4, t5, t6, t7, t8, t9, t10, t11, _⟩ := HB5.out.cells; have f11 := HB5.out.frozen 11; have f3 := HB5.out.frozen 3; have hpw5 := HB5.out.lt; clear t0 t1 t2 t4 t5 t7 t8 t9 t10; have HMd : Hid (MAt (W5.setCell ⟨p, 3, none⟩ (.int .i64 (((Pl.Mc.ofC c).r.p + 2 * (Pl.Mc.ofC c).fetN) % 65536))) X.heap.size mid W1.heap.size p g3 ((Pl.Mc.ofC c).fetch.setP (((Pl.Mc.ofC c).r.p + 2 * (Pl.Mc.ofC c).fetN) % 65536))) := hide (HM5.out.cP (((Pl.Mc.ofC c).r.p + 2 * (Pl.Mc.ofC c).fetN) % 65536)); have HLd := hide (HL5.out.setCell (p := ⟨p, 3, none⟩) HP1.out (.int .i64 (((Pl.Mc.ofC c).r.p + 2 * (Pl.Mc.ofC c).fetN) % 65536))); have hpx : p < W2.heap.size := HM2.out.lo.2.2.2.2.1) | (go_at_call 45; have z9 := HB6; refine (own4 _ c.r a b ca cb (HAw.out.keptS HK6.out) (HBw.out.keptS HK6.out) h4 h5).mono ?_; unfold regV; rintro e9 W3 ⟨gd', cd', ga', ca', rfl, od, oa, d0, d1, a0, a1, da, k9⟩; have hplt := HB6.out.lt; have HD3 := hide od; have HA3 := hide oa; have HB3 := hide (HB6.out.any k9); have HO3 := hide (HO6.out.any k9); have HK3 := hide (HK6.out.trans k9); have HZ3 := hide (HZ6.out.kept0 k9); have HL3 := hide (HL6.out.trans (below_kpt k9 (Nat.le_trans (Nat.le_refl X.heap.size) HL6.out.size))); clear od oa k9 i0 i1 i2 i3 i4 i5 i6 i7 i8 i9 i10 i11; have i10 := HZ3.out.cell (i := 10) rfl; obtain ⟨u0, u1, u2, u3, u4, u5, u6, u7, u8, u9, u10, u11, u12, u13, u14, u15⟩ := HB3.out.cells; have q0 := HB3.out.frozen 0; have q1 := HB3.out.frozen 1; have q2 := HB3.out.frozen 2; have q3 := HB3.out.frozen 3; have q4 := HB3.out.frozen 4; have q5 := HB3.out.frozen 5; have q6 := HB3.out.frozen 6; have q7 := HB3.out.frozen 7; have q10 := HB3.out.frozen 10))
  have hd3 := HD3.out.lt (by rw [h4]; decide)
  have KP := (MB.kept8 (w := W3) (p := p) (.slice (some ⟨gd', 0, none⟩) 4 cd') (.slice (some ⟨ga', 0, none⟩) 4 ca') (.int .i64 c.r.o) (.int .i64 c.r.p) (.int .i64 c.r.f) (.int .i64 c.r.m) (.bool c.r.s) (.bool c.r.t)).one 10 (.bool c.st)
  have MY : MB (((((((((W3.setCell ⟨p, 0, none⟩ ((.slice (some ⟨gd', 0, none⟩) 4 cd'))).setCell ⟨p, 1, none⟩ ((.slice (some ⟨ga', 0, none⟩) 4 ca'))).setCell ⟨p, 2, none⟩ ((.int .i64 c.r.o))).setCell ⟨p, 3, none⟩ ((.int .i64 c.r.p))).setCell ⟨p, 4, none⟩ ((.int .i64 c.r.f))).setCell ⟨p, 5, none⟩ ((.int .i64 c.r.m))).setCell ⟨p, 6, none⟩ ((.bool c.r.s))).setCell ⟨p, 7, none⟩ ((.bool c.r.t))).setCell ⟨p, 10, none⟩ (.bool c.st)) p gd' cd' ga' ca' g16 c16 g6 c26 { (sd.setR c.r) with st := c.st } := (HB3.out.laid2 c.r gd' cd' ga' ca').cSt c.st
  generalize (((((((((W3.setCell ⟨p, 0, none⟩ ((.slice (some ⟨gd', 0, none⟩) 4 cd'))).setCell ⟨p, 1, none⟩ ((.slice (some ⟨ga', 0, none⟩) 4 ca'))).setCell ⟨p, 2, none⟩ ((.int .i64 c.r.o))).setCell ⟨p, 3, none⟩ ((.int .i64 c.r.p))).setCell ⟨p, 4, none⟩ ((.int .i64 c.r.f))).setCell ⟨p, 5, none⟩ ((.int .i64 c.r.m))).setCell ⟨p, 6, none⟩ ((.bool c.r.s))).setCell ⟨p, 7, none⟩ ((.bool c.r.t))).setCell ⟨p, 10, none⟩ (.bool c.st)) = Y at KP MY ⊢
  have hop := HO3.out.p0
  have hob := HO3.out.b0
  have hog := HO3.out.g2
  have hobl := HO3.out.pb
  have hopl := HO3.out.pl
  have hos := HO3.out.d0
  have hos2 := HO3.out.d1
  have HYd := hide (HD3.out.keptS KP (by omega)).row
  have HYa := hide (HA3.out.keptS KP (by omega)).row
  have HYb := hide (HO3.out.b.keptS KP (by omega)).row
  have HYl := hide ((own_of_row5 HO3.out.l).keptS KP (by omega)).row
  have KDY := hide (kept_drew (Kept.refl 0 0 Y))
  have HMY := hide (MY.any KDY.out)
  have LY := hide ((HL3.out.trans (below_of' KP (by omega) (by have := HL3.out.size; omega))).drew)
  have HKY := hide (kept_lower K0.out LY.out K0.out.size)
  have HO1Y := hide (HB1.out.below LY.out (by have := HXS.out; omega))
  have HO2Y := hide (HB2.out.below LY.out (by have := HXS.out; omega))
  have HN1 : Hid (¬ (w.heap.size + 1 ≤ p ∧ p < w.heap.size + 1 + 1)) := hide (by have := HXS.out; omega)
  have HN2 : Hid (¬ (w.heap.size + 1 + 1 ≤ p ∧ p < w.heap.size + 1 + 1 + 1)) := hide (by have := HXS.out; omega)
  have CF : ∀ W : World, MB W p gd' cd' ga' ca' g16 c16 g6 c26 { (sd.setR c.r) with st := c.st } → W.cell? ⟨p, 11, none⟩ = some (.int .i64 sd.f.v) ∧ W.cell? ⟨p, 12, none⟩ = some (.int .i64 sd.f.pc) ∧ W.cell? ⟨p, 13, none⟩ = some (.int .i64 sd.f.ad) ∧ W.cell? ⟨p, 14, none⟩ = some (.int .i64 sd.f.wo) ∧ W.cell? ⟨p, 15, none⟩ = some (.bool sd.f.wr) := fun W h => by have z := cellsF h; exact z
  have SY := CF _ HMY.out
  have hyz : X.heap.size ≤ Y.drew.heap.size := LY.out.size
  clear KP MY
  go_region_held3 (fun w' => w'.cell? ⟨p, 11, none⟩ = some (.int .i64 sd.f.v) ∧ w'.cell? ⟨p, 12, none⟩ = some (.int .i64 sd.f.pc) ∧ w'.cell? ⟨p, 13, none⟩ = some (.int .i64 sd.f.ad) ∧ w'.cell? ⟨p, 14, none⟩ = some (.int .i64 sd.f.wo) ∧ w'.cell? ⟨p, 15, none⟩ = some (.bool sd.f.wr)) (first | with_reducible exact SY | with_reducible exact S4 | with_reducible exact CF _ (HM4.out.over12 HN1.out _ _ _ _ _ _ _ _ _ _ _ _) | with_reducible exact CF _ ((HM4.out.over12 HN1.out _ _ _ _ _ _ _ _ _ _ _ _).over5 HN2.out _ _ _ _ _) | go_keep) (first | (go_at_call 44; refine (mCpuR _ p gd' cd' ga' ca' g16 c16 g6 c26 { (sd.setR c.r) with st := c.st } HMY.out (HYd.out.keptS KDY.out) (HYa.out.keptS KDY.out) (HYb.out.keptS KDY.out) (HYl.out.keptS KDY.out) h4 h5 HGs.out.bx HGs.out.bl HGs.out.bm).mono ?_; unfold cpuC; rintro e9 W4 ⟨gd4, cd4, ga4, ca4, g14, c14, g24, c24, mid4, rfl, hc9, k9⟩; have HC := hide hc9; have HM4 := hide (HMY.out.any k9); have S4 := CF _ HM4.out; have HK4 := hide (HKY.out.trans k9); have HO14 := hide (HO1Y.out.kept0 k9); have HO24 := hide (HO2Y.out.kept0 k9); have hs4 := HO24.out.lt; clear hc9 k9; have o0 := HO14.out.cell (i := 0) rfl; have of0 := HO14.out.frozen 0; have o1 := HO14.out.cell (i := 1) rfl; have of1 := HO14.out.frozen 1; have o2 := HO14.out.cell (i := 2) rfl; have of2 := HO14.out.frozen 2; have o3 := HO14.out.cell (i := 3) rfl; have of3 := HO14.out.frozen 3; have o4 := HO14.out.cell (i := 4) rfl; have of4 := HO14.out.frozen 4; have o5 := HO14.out.cell (i := 5) rfl; have of5 := HO14.out.frozen 5; have o6 := HO14.out.cell (i := 6) rfl; have of6 := HO14.out.frozen 6; have o7 := HO14.out.cell (i := 7) rfl; have of7 := HO14.out.frozen 7; have o8 := HO14.out.cell (i := 8) rfl; have of8 := HO14.out.frozen 8; have o9 := HO14.out.cell (i := 9) rfl; have of9 := HO14.out.frozen 9; have o10 := HO14.out.cell (i := 10) rfl; have of10 := HO14.out.frozen 10; have o11 := HO14.out.cell (i := 11) rfl; have of11 := HO14.out.frozen 11; have y0 := HO24.out.cell (i := 0) rfl; have yf0 := HO24.out.frozen 0; have y1 := HO24.out.cell (i := 1) rfl; have yf1 := HO24.out.frozen 1; have y2 := HO24.out.cell (i := 2) rfl; have yf2 := HO24.out.frozen 2; have y3 := HO24.out.cell (i := 3) rfl; have yf3 := HO24.out.frozen 3; have y4 := HO24.out.cell (i := 4) rfl; have yf4 := HO24.out.frozen 4))
  go_wp2_with fail
  have hxs := HXS.out
  refine bodyPost_ret (v := .tuple #[.agg (cpuC (Pl.stepC c) gd4 cd4 ga4 ca4 g14 c14 g24 c24), .agg (ftC (Pl.stepF c))]) ?_ rfl ⟨gd4, cd4, ga4, ca4, g14, c14, g24, c24, mid4, rfl, ?co, ?kw⟩
  case co =>
    rw [EC.out]
    refine HC.out.pastS (x := w.heap.size + 1) (y := w.heap.size + 3) (by omega) (by omega) ?_
    repeat (first | with_reducible exact Kept.refl _ _ _ | refine kept_set ?_ _ _ _ (.inl (by omega)))
  case kw => repeat (first | with_reducible exact HK4.out | refine kept_set ?_ _ _ _ (.inr (by omega)))
  rw [results_cell2 rfl, EC.out, EF.out]; go_simp; exact ⟨rfl, rfl⟩
end Go.Proofs.YtblddehlkaolbaaGreatDoor

